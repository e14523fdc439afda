/- Pairs of servers: the document's, and the law LinkPairs. -/
import Derived.Test.YtdacplfmpjhjhaaLP
import Derived.Test.YtdacplfmpjhjhaaAwk2
namespace Go.Proofs.Ytdacplfmpjhjhaa
set_option linter.unusedSimpArgs false
set_option linter.unusedVariables false
open Go Go.Av
attribute [local simp] Try.T1 Try.T2 Try.T3 Try.T4 Try.T5 Try.T9 Try.T12 Try.T21 Try.T22 Try.T24 Try.T26 Try.T27 Try.T28 Try.T29 Try.T30 Try.T31 Try.T32 Try.T33 Try.T34 Try.T36 Try.T37 Try.T38 Try.T39 Try.T40 Try.T41 Try.T42 Try.T43 Try.T45 Try.T46 Try.T47 Try.T49 Try.T51 Try.T52 Try.T53 Try.T54 Try.T55 Try.T56 Try.T57 Try.T58 Try.T59 Try.T60 Try.T61 Try.T63 Try.T65 Try.T66 Try.T67 Try.T68 Try.T69 Try.T70 Try.T71 Try.T72 Try.T73 Try.T75 Try.T76 Try.T77 Try.T78 Try.T79 Try.T80 Try.T82 Try.T83 Try.T84 Try.T85 Try.T86 Try.T87 Try.T88 Try.T89 Try.T91 Try.T92 Try.T93 Try.T94 Try.T95 Try.T96 Try.T97 Try.T98 Try.T99 Try.T100 Try.T101 Try.T102 Try.T103 Try.T104 Try.T106 Try.T107 Try.T108 Try.T109 Try.T110 Try.T111 Try.T112 Try.T114 Try.T115 Try.T116 Try.T118 Try.T119 Try.T121 Try.T122 Try.T124 Try.T125 Try.T127 Try.T128 Try.T130 Try.T132 Try.T133 Try.T135 Try.T136 Try.T137 Try.T139 Try.T141 Try.T142 Try.T143 Try.T145 Try.T147 Try.T149 Try.T150 Try.T152 Try.T154 Try.T155 Try.T156 Try.T157 Try.T158 Try.T159 Try.T160 Try.T161 Try.T162 Try.T163 Try.T164 Try.T165 Try.T166 Try.T167 Try.T168 Try.T170 Try.T172 Try.T173 Try.T174 Try.T175 Try.T176 Try.T177 Try.T178 Try.T179 Try.T180 Try.T181 Try.T182 Try.T183 Try.T184 Try.T185 Try.T186 Try.T187 Try.T188 Try.T190 Try.T191 Try.T192 Try.T193 Try.T194 Try.T195 Try.T196 Try.T198 Try.T199 Try.T200 Try.T202 Try.T203 Try.T204 Try.T205 Try.T206 Try.T207 Try.T208 Try.T209 Try.T210 Try.T211 Try.T212 Try.T218 Try.T219 Try.T222
attribute [local irreducible] Go.Av.CallK Go.Av.CallE Go.Av.CallQ Go.Av.CallF Go.Av.Con

theorem set25_con (l : List Pr) (a b : Int) (cut : Bool) (hl : l.length ≤ 1000000) : ACon Try.prog 59 [.p (.sl 2 (prs l)), .p (I a), .p (I b), .p (B cut)] (.p (.sl 2 (prs (setP l (two a b) cut)))) := by
  have c := two25_con a b
  unfold setP
  generalize two a b = p at c ⊢
  have hsn := fun k h => fil_snoc l p k h
  have hln := fun k => fil_len l p k
  have hps := fun l => prs_snoc l p
  obtain ⟨p0, p1⟩ := p
  simp only [] at hps
  refine wBody Try.tab Try.mixed Try.func59 rfl rfl Try.ntmps59 (by simp) (by simp) fun Q hr hn => ?_
  repeat' first | (refine hK _ ?_; clear hK) | (refine hK _ _ ?_; clear hK) | (clear hK; refine hK _ ?_; clear hK) | (clear hK; clear hK; refine hK _ ?_; clear hK) | (clear hK; clear hK; clear hK; refine hK _ ?_; clear hK) | (clear hK; clear hK; clear hK; clear hK; refine hK _ ?_; clear hK) | (refine wSeq fun K hK => ?_) | (refine wReg ?_; simp only [List.map_cons, List.map_nil, strip]) | (refine wDrwQ rfl (by kernel_rfl) ?_; simp only [List.map_cons, List.map_nil, strip]) | (refine wDrwI ?_; simp only [List.map_cons, List.map_nil, strip]) | (refine wDrw (by kernel_rfl) ?_; simp only [List.map_cons, List.map_nil, strip]) | (refine wIs fun K hK => ?_; simp) | (refine wIn ?_; refine And.intro (by kernel_rfl) ?_; try simp only [thenA_n]) | (refine wOs fun K hK => ?_; simp) | (refine wQs fun K hK => ?_; simp) | (refine CallK_plain ?_; simp) | (refine CallQ_plain ?_; simp) | (refine wRet ?_; try simp) | (refine wCond ?_; simp) | (refine wBlock ?_) | (refine wScope ?_) | (refine wExit ?_; try simp) | (refine wSkip ?_; try simp) | (refine wOn ?_; try simp only [thenA_n]) | (refine wQn ?_; try simp only [thenA_n])
  refine wLoopG [.row 9 82 2] (fun N st => ∃ k, k + N = l.length ∧ st.s 1 = .p (I a) ∧ st.s 2 = .p (I b) ∧ st.s 3 = .p (B cut) ∧ st.s 12 = .p (.sl 2 (prs l)) ∧ st.s 13 = .p (I l.length) ∧ st.s 14 = .p (I k) ∧ st.s 9 = .row 9 ∧ st.b 9 = some (.row 82 2 (prs ((l.take k).filter (fun x => !decide (x = ⟨p0, p1⟩)))))) l.length ⟨0, by simp [prs]⟩ fun K N st hL ⟨k, hk, g1, g2, g3, g12, g13, g14, g9, b9⟩ => ?_
  have hlk := hln k
  by_cases hlt : k < l.length
  · have hw := wrapS k _ hlt (by omega)
    have he := prs_get hlt
    have hs := hsn k hlt
    by_cases o : l[k].a = p0 ∧ l[k].b = p1
    · rw [if_pos (Pr.ext2.2 o)] at hs
      obtain ⟨o1, o2⟩ := o
      repeat' first | (refine hK _ ?_; clear hK) | (refine hK _ _ ?_; clear hK) | (clear hK; refine hK _ ?_; clear hK) | (clear hK; clear hK; refine hK _ ?_; clear hK) | (clear hK; clear hK; clear hK; refine hK _ ?_; clear hK) | (clear hK; clear hK; clear hK; clear hK; refine hK _ ?_; clear hK) | (refine wSeq fun K hK => ?_) | (refine wReg ?_; simp only [List.map_cons, List.map_nil, strip]) | (refine wDrwQ rfl (by kernel_rfl) ?_; simp only [List.map_cons, List.map_nil, strip]) | (refine wDrwI ?_; simp only [List.map_cons, List.map_nil, strip]) | (refine wDrw (by kernel_rfl) ?_; simp only [List.map_cons, List.map_nil, strip]) | (refine wIs fun K hK => ?_; simp [g1, g2, g3, g12, g13, g14, g9, b9, hlt, hw, he, o1, o2]) | (refine wIn ?_; refine And.intro (by kernel_rfl) ?_; try simp only [thenA_n]) | (refine wOs fun K hK => ?_; simp [g1, g2, g3, g12, g13, g14, g9, b9, hlt, hw, he, o1, o2]) | (refine wQs fun K hK => ?_; simp [g1, g2, g3, g12, g13, g14, g9, b9, hlt, hw, he, o1, o2]) | (refine CallK_plain ?_; simp [g1, g2, g3, g12, g13, g14, g9, b9, hlt, hw, he, o1, o2]) | (refine CallQ_plain ?_; simp [g1, g2, g3, g12, g13, g14, g9, b9, hlt, hw, he, o1, o2]) | (refine wRet ?_; try simp) | (refine wCond ?_; simp [g1, g2, g3, g12, g13, g14, g9, b9, hlt, hw, he, o1, o2]) | (refine wBlock ?_) | (refine wScope ?_) | (refine wExit ?_; try simp) | (refine wSkip ?_; try simp) | (refine wOn ?_; try simp only [thenA_n]) | (refine wQn ?_; try simp only [thenA_n]) | (refine CallE.pure (c) rfl ?_) | (refine CallE.lent (c) rfl ?_) | (refine CallF.pure (c) rfl ?_) | (refine CallF.lent (c) rfl ?_) | (refine CallE.own (c) ?_)
      refine hL _ (N - 1) (by omega) ⟨k + 1, by omega, ?_⟩
      simp [g1, g2, g3, g12, g13, g14, g9, b9, hw, hs]
    · rw [if_neg fun h => o (Pr.ext2.1 h)] at hs
      have hp2 := prs_snoc ((l.take k).filter (fun x => !decide (x = ⟨p0, p1⟩))) l[k]
      rw [← hs] at hp2
      repeat' first | (refine And.intro (by (try simp at hlk ⊢); omega) ?_) | (refine CallE.pure (c) rfl ?_) | (refine CallE.lent (c) rfl ?_) | (refine CallF.pure (c) rfl ?_) | (refine CallF.lent (c) rfl ?_) | (refine CallE.own (c) ?_) | (refine hK _ ?_; clear hK) | (refine hK _ _ ?_; clear hK) | (clear hK; refine hK _ ?_; clear hK) | (clear hK; clear hK; refine hK _ ?_; clear hK) | (clear hK; clear hK; clear hK; refine hK _ ?_; clear hK) | (clear hK; clear hK; clear hK; clear hK; refine hK _ ?_; clear hK) | (refine wSeq fun K hK => ?_) | (refine wReg ?_; simp only [List.map_cons, List.map_nil, strip]) | (refine wDrwQ rfl (by kernel_rfl) ?_; simp only [List.map_cons, List.map_nil, strip]) | (refine wDrwI ?_; simp only [List.map_cons, List.map_nil, strip]) | (refine wDrw (by kernel_rfl) ?_; simp only [List.map_cons, List.map_nil, strip]) | (refine wIs fun K hK => ?_; simp [g1, g2, g3, g12, g13, g14, g9, b9, hlt, hw, he, o]) | (refine wIn ?_; refine And.intro (by kernel_rfl) ?_; try simp only [thenA_n]) | (refine wOs fun K hK => ?_; simp [g1, g2, g3, g12, g13, g14, g9, b9, hlt, hw, he, o]) | (refine wQs fun K hK => ?_; simp [g1, g2, g3, g12, g13, g14, g9, b9, hlt, hw, he, o]) | (refine CallK_plain ?_; simp [g1, g2, g3, g12, g13, g14, g9, b9, hlt, hw, he, o]) | (refine CallQ_plain ?_; simp [g1, g2, g3, g12, g13, g14, g9, b9, hlt, hw, he, o]) | (refine wRet ?_; try simp) | (refine wCond ?_; simp [g1, g2, g3, g12, g13, g14, g9, b9, hlt, hw, he, o]) | (refine wBlock ?_) | (refine wScope ?_) | (refine wExit ?_; try simp) | (refine wSkip ?_; try simp) | (refine wOn ?_; try simp only [thenA_n]) | (refine wQn ?_; try simp only [thenA_n]) | (intro _)
      all_goals first | exact o | skip
      refine hL _ (N - 1) (by omega) ⟨k + 1, by omega, ?_⟩
      simp [g1, g2, g3, g12, g13, g14, g9, b9, hw, hp2]
  · rw [List.take_of_length_le (by omega)] at b9 hlk
    cases cut with
    | true =>
      have hp3 := hps (l.filter (fun x => !decide (x = ⟨p0, p1⟩)))
      repeat' first | (refine And.intro (by (try simp at hlk ⊢); omega) ?_) | (refine CallE.pure (c) rfl ?_) | (refine CallE.lent (c) rfl ?_) | (refine CallF.pure (c) rfl ?_) | (refine CallF.lent (c) rfl ?_) | (refine CallE.own (c) ?_) | (refine hK _ ?_; clear hK) | (refine hK _ _ ?_; clear hK) | (clear hK; refine hK _ ?_; clear hK) | (clear hK; clear hK; refine hK _ ?_; clear hK) | (clear hK; clear hK; clear hK; refine hK _ ?_; clear hK) | (clear hK; clear hK; clear hK; clear hK; refine hK _ ?_; clear hK) | (refine wSeq fun K hK => ?_) | (refine wReg ?_; simp only [List.map_cons, List.map_nil, strip]) | (refine wDrwQ rfl (by kernel_rfl) ?_; simp only [List.map_cons, List.map_nil, strip]) | (refine wDrwI ?_; simp only [List.map_cons, List.map_nil, strip]) | (refine wDrw (by kernel_rfl) ?_; simp only [List.map_cons, List.map_nil, strip]) | (refine wIs fun K hK => ?_; simp [g1, g2, g3, g12, g13, g14, g9, b9, hlt]) | (refine wIn ?_; refine And.intro (by kernel_rfl) ?_; try simp only [thenA_n]) | (refine wOs fun K hK => ?_; simp [g1, g2, g3, g12, g13, g14, g9, b9, hlt]) | (refine wQs fun K hK => ?_; simp [g1, g2, g3, g12, g13, g14, g9, b9, hlt]) | (refine CallK_plain ?_; simp [g1, g2, g3, g12, g13, g14, g9, b9, hlt]) | (refine CallQ_plain ?_; simp [g1, g2, g3, g12, g13, g14, g9, b9, hlt]) | (refine wRet ?_; try simp) | (refine wCond ?_; simp [g1, g2, g3, g12, g13, g14, g9, b9, hlt]) | (refine wBlock ?_) | (refine wScope ?_) | (refine wExit ?_; try simp) | (refine wSkip ?_; try simp) | (refine wOn ?_; try simp only [thenA_n]) | (refine wQn ?_; try simp only [thenA_n])
      all_goals apply hr
      all_goals simp [Try.f59, g9, b9, hp3]
    | false =>
      repeat' first | (refine hK _ ?_; clear hK) | (refine hK _ _ ?_; clear hK) | (clear hK; refine hK _ ?_; clear hK) | (clear hK; clear hK; refine hK _ ?_; clear hK) | (clear hK; clear hK; clear hK; refine hK _ ?_; clear hK) | (clear hK; clear hK; clear hK; clear hK; refine hK _ ?_; clear hK) | (refine wSeq fun K hK => ?_) | (refine wReg ?_; simp only [List.map_cons, List.map_nil, strip]) | (refine wDrwQ rfl (by kernel_rfl) ?_; simp only [List.map_cons, List.map_nil, strip]) | (refine wDrwI ?_; simp only [List.map_cons, List.map_nil, strip]) | (refine wDrw (by kernel_rfl) ?_; simp only [List.map_cons, List.map_nil, strip]) | (refine wIs fun K hK => ?_; simp [g1, g2, g3, g12, g13, g14, g9, b9, hlt]) | (refine wIn ?_; refine And.intro (by kernel_rfl) ?_; try simp only [thenA_n]) | (refine wOs fun K hK => ?_; simp [g1, g2, g3, g12, g13, g14, g9, b9, hlt]) | (refine wQs fun K hK => ?_; simp [g1, g2, g3, g12, g13, g14, g9, b9, hlt]) | (refine CallK_plain ?_; simp [g1, g2, g3, g12, g13, g14, g9, b9, hlt]) | (refine CallQ_plain ?_; simp [g1, g2, g3, g12, g13, g14, g9, b9, hlt]) | (refine wRet ?_; try simp) | (refine wCond ?_; simp [g1, g2, g3, g12, g13, g14, g9, b9, hlt]) | (refine wBlock ?_) | (refine wScope ?_) | (refine wExit ?_; try simp) | (refine wSkip ?_; try simp) | (refine wOn ?_; try simp only [thenA_n]) | (refine wQn ?_; try simp only [thenA_n])
      all_goals apply hr
      all_goals simp [Try.f59, g9, b9]

theorem pairs_con (a b : List Pr) : ACon Try.prog 57 [.p (.sl 2 (prs a)), .p (.sl 2 (prs b))] (.p (B (decide (a = b)))) := by
  refine ACon.len ⟨Try.f57, Try.func57, rfl, rfl⟩ 0 _ _ rfl fun hlen => ?_
  simp only [prs_len] at hlen
  by_cases hl : a.length = b.length
  · refine wBody Try.tab Try.mixed Try.func57 rfl rfl Try.ntmps57 (by simp) (by simp) fun Q hr hn => ?_
    repeat' first | (refine hK _ ?_; clear hK) | (refine hK _ _ ?_; clear hK) | (clear hK; refine hK _ ?_; clear hK) | (clear hK; clear hK; refine hK _ ?_; clear hK) | (clear hK; clear hK; clear hK; refine hK _ ?_; clear hK) | (clear hK; clear hK; clear hK; clear hK; refine hK _ ?_; clear hK) | (refine wSeq fun K hK => ?_) | (refine wReg ?_; simp only [List.map_cons, List.map_nil, strip]) | (refine wDrwQ rfl (by kernel_rfl) ?_; simp only [List.map_cons, List.map_nil, strip]) | (refine wDrwI ?_; simp only [List.map_cons, List.map_nil, strip]) | (refine wDrw (by kernel_rfl) ?_; simp only [List.map_cons, List.map_nil, strip]) | (refine wIs fun K hK => ?_; simp [hl]) | (refine wIn ?_; refine And.intro (by kernel_rfl) ?_; try simp only [thenA_n]) | (refine wOs fun K hK => ?_; simp [hl]) | (refine wQs fun K hK => ?_; simp [hl]) | (refine CallK_plain ?_; simp [hl]) | (refine CallQ_plain ?_; simp [hl]) | (refine wRet ?_; try simp) | (refine wCond ?_; simp [hl]) | (refine wBlock ?_) | (refine wScope ?_) | (refine wExit ?_; try simp) | (refine wSkip ?_; try simp) | (refine wOn ?_; try simp only [thenA_n]) | (refine wQn ?_; try simp only [thenA_n])
    refine wLoop (fun N st => ∃ k, k + N = a.length ∧ st.s 0 = .p (.sl 2 (prs a)) ∧ st.s 1 = .p (.sl 2 (prs b)) ∧ st.s 12 = .p (I a.length) ∧ st.s 13 = .p (I k) ∧ (a = b ↔ a.drop k = b.drop k)) a.length ⟨0, by simp [hl]⟩ fun K N st hL ⟨k, hk, h0, h1, h12, h13, hi⟩ => ?_
    by_cases hlt : k < a.length
    · have hw := wrapS k _ hlt hlen
      have he := prs_get hlt
      have he' := prs_get (l := b) (k := k) (by omega)
      have hltb : k < b.length := by omega
      rw [List.drop_eq_getElem_cons hlt, List.drop_eq_getElem_cons (l := b) (by omega), List.cons.injEq, Pr.ext2] at hi
      repeat' first | (refine hK _ ?_; clear hK) | (refine hK _ _ ?_; clear hK) | (clear hK; refine hK _ ?_; clear hK) | (clear hK; clear hK; refine hK _ ?_; clear hK) | (clear hK; clear hK; clear hK; refine hK _ ?_; clear hK) | (clear hK; clear hK; clear hK; clear hK; refine hK _ ?_; clear hK) | (refine wSeq fun K hK => ?_) | (refine wReg ?_; simp only [List.map_cons, List.map_nil, strip]) | (refine wDrwQ rfl (by kernel_rfl) ?_; simp only [List.map_cons, List.map_nil, strip]) | (refine wDrwI ?_; simp only [List.map_cons, List.map_nil, strip]) | (refine wDrw (by kernel_rfl) ?_; simp only [List.map_cons, List.map_nil, strip]) | (refine wIs fun K hK => ?_; simp [h0, h1, h12, h13, hlt, hltb, hw, he, he']) | (refine wIn ?_; refine And.intro (by kernel_rfl) ?_; try simp only [thenA_n]) | (refine wOs fun K hK => ?_; simp [h0, h1, h12, h13, hlt, hltb, hw, he, he']) | (refine wQs fun K hK => ?_; simp [h0, h1, h12, h13, hlt, hltb, hw, he, he']) | (refine CallK_plain ?_; simp [h0, h1, h12, h13, hlt, hltb, hw, he, he']) | (refine CallQ_plain ?_; simp [h0, h1, h12, h13, hlt, hltb, hw, he, he']) | (refine wRet ?_; try simp) | (refine wCond ?_; simp [h0, h1, h12, h13, hlt, hltb, hw, he, he']) | (refine wBlock ?_) | (refine wScope ?_) | (refine wExit ?_; try simp) | (refine wSkip ?_; try simp) | (refine wOn ?_; try simp only [thenA_n]) | (refine wQn ?_; try simp only [thenA_n]) | (refine And.intro (fun hc => ?_) (fun e1 e2 => ?_))
      · apply hr
        simp [Try.f57]
        intro h
        obtain ⟨⟨e1, e2⟩, -⟩ := hi.1 h
        simp [e1, e2] at hc
      · refine hL _ (N - 1) (by omega) ⟨k + 1, by omega, ?_⟩
        simp [h0, h1, h12, hw]
        rw [hi]; simp [e1, e2]
    · have hd : a.drop k = [] := List.drop_of_length_le (by omega)
      have hd' : b.drop k = [] := List.drop_of_length_le (by omega)
      rw [hd, hd'] at hi
      repeat' first | (refine hK _ ?_; clear hK) | (refine hK _ _ ?_; clear hK) | (clear hK; refine hK _ ?_; clear hK) | (clear hK; clear hK; refine hK _ ?_; clear hK) | (clear hK; clear hK; clear hK; refine hK _ ?_; clear hK) | (clear hK; clear hK; clear hK; clear hK; refine hK _ ?_; clear hK) | (refine wSeq fun K hK => ?_) | (refine wReg ?_; simp only [List.map_cons, List.map_nil, strip]) | (refine wDrwQ rfl (by kernel_rfl) ?_; simp only [List.map_cons, List.map_nil, strip]) | (refine wDrwI ?_; simp only [List.map_cons, List.map_nil, strip]) | (refine wDrw (by kernel_rfl) ?_; simp only [List.map_cons, List.map_nil, strip]) | (refine wIs fun K hK => ?_; simp [h0, h1, h12, h13, hlt]) | (refine wIn ?_; refine And.intro (by kernel_rfl) ?_; try simp only [thenA_n]) | (refine wOs fun K hK => ?_; simp [h0, h1, h12, h13, hlt]) | (refine wQs fun K hK => ?_; simp [h0, h1, h12, h13, hlt]) | (refine CallK_plain ?_; simp [h0, h1, h12, h13, hlt]) | (refine CallQ_plain ?_; simp [h0, h1, h12, h13, hlt]) | (refine wRet ?_; try simp) | (refine wCond ?_; simp [h0, h1, h12, h13, hlt]) | (refine wBlock ?_) | (refine wScope ?_) | (refine wExit ?_; try simp) | (refine wSkip ?_; try simp) | (refine wOn ?_; try simp only [thenA_n]) | (refine wQn ?_; try simp only [thenA_n])
      apply hr
      simp [Try.f57]
      simpa using hi
  · have hne : ¬ a = b := fun h => hl (by rw [h])
    have hl' : ¬ ((a.length : Int) = b.length) := by omega
    refine wBody Try.tab Try.mixed Try.func57 rfl rfl Try.ntmps57 (by simp) (by simp) fun Q hr hn => ?_
    repeat' first | (refine hK _ ?_; clear hK) | (refine hK _ _ ?_; clear hK) | (clear hK; refine hK _ ?_; clear hK) | (clear hK; clear hK; refine hK _ ?_; clear hK) | (clear hK; clear hK; clear hK; refine hK _ ?_; clear hK) | (clear hK; clear hK; clear hK; clear hK; refine hK _ ?_; clear hK) | (refine wSeq fun K hK => ?_) | (refine wReg ?_; simp only [List.map_cons, List.map_nil, strip]) | (refine wDrwQ rfl (by kernel_rfl) ?_; simp only [List.map_cons, List.map_nil, strip]) | (refine wDrwI ?_; simp only [List.map_cons, List.map_nil, strip]) | (refine wDrw (by kernel_rfl) ?_; simp only [List.map_cons, List.map_nil, strip]) | (refine wIs fun K hK => ?_; simp [hl, hl']) | (refine wIn ?_; refine And.intro (by kernel_rfl) ?_; try simp only [thenA_n]) | (refine wOs fun K hK => ?_; simp [hl, hl']) | (refine wQs fun K hK => ?_; simp [hl, hl']) | (refine CallK_plain ?_; simp [hl, hl']) | (refine CallQ_plain ?_; simp [hl, hl']) | (refine wRet ?_; try simp) | (refine wCond ?_; simp [hl, hl']) | (refine wBlock ?_) | (refine wScope ?_) | (refine wExit ?_; try simp) | (refine wSkip ?_; try simp) | (refine wOn ?_; try simp only [thenA_n]) | (refine wQn ?_; try simp only [thenA_n])
    all_goals apply hr
    all_goals simp [Try.f57, hne]

theorem linkPairs_con (l : List Pr) (a b : Int) : ACon Try.prog 12 [.p (.sl 2 (prs l)), .p (I a), .p (I b)] (.p (B true)) := by
  have c1 := two_con a b
  have c2 := two25_con a b
  have c3 := has_con l a b
  have c4 := has25_con l a b
  have c5 := fun h => set_con l a b true h
  have c6 := fun h => set25_con l a b true h
  have c7 := fun h => set_con l a b false h
  have c8 := fun h => set25_con l a b false h
  have d1 := pairs_con (setP l (two a b) true) (setP l (two a b) true)
  have d2 := pairs_con (setP l (two a b) false) (setP l (two a b) false)
  simp only [decide_true] at d1 d2
  by_cases hl : 300 < l.length
  · have hl' : (300 : Int) < l.length := by omega
    refine wBody Try.tab Try.mixed Try.func12 rfl rfl Try.ntmps12 (by simp) (by simp) fun Q hr hn => ?_
    repeat' first | (refine hK _ ?_; clear hK) | (refine hK _ _ ?_; clear hK) | (clear hK; refine hK _ ?_; clear hK) | (clear hK; clear hK; refine hK _ ?_; clear hK) | (clear hK; clear hK; clear hK; refine hK _ ?_; clear hK) | (clear hK; clear hK; clear hK; clear hK; refine hK _ ?_; clear hK) | (refine wSeq fun K hK => ?_) | (refine wReg ?_; simp only [List.map_cons, List.map_nil, strip]) | (refine wDrwQ rfl (by kernel_rfl) ?_; simp only [List.map_cons, List.map_nil, strip]) | (refine wDrwI ?_; simp only [List.map_cons, List.map_nil, strip]) | (refine wDrw (by kernel_rfl) ?_; simp only [List.map_cons, List.map_nil, strip]) | (refine wIs fun K hK => ?_; simp [hl, hl']) | (refine wIn ?_; refine And.intro (by kernel_rfl) ?_; try simp only [thenA_n]) | (refine wOs fun K hK => ?_; simp [hl, hl']) | (refine wQs fun K hK => ?_; simp [hl, hl']) | (refine CallK_plain ?_; simp [hl, hl']) | (refine CallQ_plain ?_; simp [hl, hl']) | (refine wRet ?_; try simp) | (refine wCond ?_; simp [hl, hl']) | (refine wBlock ?_) | (refine wScope ?_) | (refine wExit ?_; try simp) | (refine wSkip ?_; try simp) | (refine wOn ?_; try simp only [thenA_n]) | (refine wQn ?_; try simp only [thenA_n]) | (refine CallE.pure (awake25) rfl ?_) | (refine CallE.lent (awake25) rfl ?_) | (refine CallF.pure (awake25) rfl ?_) | (refine CallF.lent (awake25) rfl ?_) | (refine CallE.own (awake25) ?_)
    all_goals apply hr
    all_goals simp [Try.f12]
  · have hl' : ¬ (300 : Int) < l.length := by omega
    replace c5 := c5 (by omega)
    replace c6 := c6 (by omega)
    replace c7 := c7 (by omega)
    replace c8 := c8 (by omega)
    generalize setP l (two a b) true = s1 at c5 c6 d1
    generalize setP l (two a b) false = s2 at c7 c8 d2
    generalize decide (two a b ∈ l) = z at c3 c4
    generalize two a b = p at c1 c2
    refine wBody Try.tab Try.mixed Try.func12 rfl rfl Try.ntmps12 (by simp) (by simp) fun Q hr hn => ?_
    repeat' first | (refine hK _ ?_; clear hK) | (refine hK _ _ ?_; clear hK) | (clear hK; refine hK _ ?_; clear hK) | (clear hK; clear hK; refine hK _ ?_; clear hK) | (clear hK; clear hK; clear hK; refine hK _ ?_; clear hK) | (clear hK; clear hK; clear hK; clear hK; refine hK _ ?_; clear hK) | (refine wSeq fun K hK => ?_) | (refine wReg ?_; simp only [List.map_cons, List.map_nil, strip]) | (refine wDrwQ rfl (by kernel_rfl) ?_; simp only [List.map_cons, List.map_nil, strip]) | (refine wDrwI ?_; simp only [List.map_cons, List.map_nil, strip]) | (refine wDrw (by kernel_rfl) ?_; simp only [List.map_cons, List.map_nil, strip]) | (refine wIs fun K hK => ?_; simp [hl, hl']) | (refine wIn ?_; refine And.intro (by kernel_rfl) ?_; try simp only [thenA_n]) | (refine wOs fun K hK => ?_; simp [hl, hl']) | (refine wQs fun K hK => ?_; simp [hl, hl']) | (refine CallK_plain ?_; simp [hl, hl']) | (refine CallQ_plain ?_; simp [hl, hl']) | (refine wRet ?_; try simp) | (refine wCond ?_; simp [hl, hl']) | (refine wBlock ?_) | (refine wScope ?_) | (refine wExit ?_; try simp) | (refine wSkip ?_; try simp) | (refine wOn ?_; try simp only [thenA_n]) | (refine wQn ?_; try simp only [thenA_n]) | (refine CallE.pure (c1) rfl ?_) | (refine CallE.lent (c1) rfl ?_) | (refine CallF.pure (c1) rfl ?_) | (refine CallF.lent (c1) rfl ?_) | (refine CallE.own (c1) ?_) | (refine CallE.pure (c2) rfl ?_) | (refine CallE.lent (c2) rfl ?_) | (refine CallF.pure (c2) rfl ?_) | (refine CallF.lent (c2) rfl ?_) | (refine CallE.own (c2) ?_) | (refine CallE.pure (c3) rfl ?_) | (refine CallE.lent (c3) rfl ?_) | (refine CallF.pure (c3) rfl ?_) | (refine CallF.lent (c3) rfl ?_) | (refine CallE.own (c3) ?_) | (refine CallE.pure (c4) rfl ?_) | (refine CallE.lent (c4) rfl ?_) | (refine CallF.pure (c4) rfl ?_) | (refine CallF.lent (c4) rfl ?_) | (refine CallE.own (c4) ?_) | (refine CallE.pure (c5) rfl ?_) | (refine CallE.lent (c5) rfl ?_) | (refine CallF.pure (c5) rfl ?_) | (refine CallF.lent (c5) rfl ?_) | (refine CallE.own (c5) ?_) | (refine CallE.pure (c6) rfl ?_) | (refine CallE.lent (c6) rfl ?_) | (refine CallF.pure (c6) rfl ?_) | (refine CallF.lent (c6) rfl ?_) | (refine CallE.own (c6) ?_) | (refine CallE.pure (c7) rfl ?_) | (refine CallE.lent (c7) rfl ?_) | (refine CallF.pure (c7) rfl ?_) | (refine CallF.lent (c7) rfl ?_) | (refine CallE.own (c7) ?_) | (refine CallE.pure (c8) rfl ?_) | (refine CallE.lent (c8) rfl ?_) | (refine CallF.pure (c8) rfl ?_) | (refine CallF.lent (c8) rfl ?_) | (refine CallE.own (c8) ?_) | (refine CallE.pure (d1) rfl ?_) | (refine CallE.lent (d1) rfl ?_) | (refine CallF.pure (d1) rfl ?_) | (refine CallF.lent (d1) rfl ?_) | (refine CallE.own (d1) ?_) | (refine CallE.pure (d2) rfl ?_) | (refine CallE.lent (d2) rfl ?_) | (refine CallF.pure (d2) rfl ?_) | (refine CallF.lent (d2) rfl ?_) | (refine CallE.own (d2) ?_) | (refine CallE.pure (awake25) rfl ?_) | (refine CallE.lent (awake25) rfl ?_) | (refine CallF.pure (awake25) rfl ?_) | (refine CallF.lent (awake25) rfl ?_) | (refine CallE.own (awake25) ?_)
    all_goals apply hr
    all_goals simp [Try.f12]
end Go.Proofs.Ytdacplfmpjhjhaa
