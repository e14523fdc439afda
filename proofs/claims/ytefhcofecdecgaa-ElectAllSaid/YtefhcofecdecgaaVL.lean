/- Votes laid: vote.Lay, the document's, and which lists are the same. -/
import Derived.Test.YtefhcofecdecgaaWC
import Derived.Test.YtefhcofecdecgaaIns
import Derived.Test.YtefhcofecdecgaaAvMore
namespace Go.Proofs.Ytefhcofecdecgaa
set_option linter.unusedSimpArgs false
set_option linter.unusedVariables false
open Go Go.Av
attribute [local simp] Try.T1 Try.T2 Try.T3 Try.T4 Try.T5 Try.T9 Try.T12 Try.T21 Try.T23 Try.T24 Try.T26 Try.T27 Try.T29 Try.T30 Try.T31 Try.T32 Try.T33 Try.T34 Try.T35 Try.T37 Try.T38 Try.T39 Try.T40 Try.T41 Try.T42 Try.T43 Try.T44 Try.T45 Try.T46 Try.T47 Try.T48 Try.T49 Try.T51 Try.T52 Try.T53 Try.T55 Try.T57 Try.T58 Try.T59 Try.T60 Try.T61 Try.T62 Try.T63 Try.T64 Try.T65 Try.T66 Try.T67 Try.T69 Try.T71 Try.T72 Try.T73 Try.T74 Try.T75 Try.T76 Try.T77 Try.T78 Try.T79 Try.T80 Try.T82 Try.T83 Try.T84 Try.T85 Try.T86 Try.T87 Try.T88 Try.T89 Try.T91 Try.T92 Try.T94 Try.T95 Try.T96 Try.T97 Try.T98 Try.T99 Try.T100 Try.T101 Try.T102 Try.T103 Try.T104 Try.T105 Try.T106 Try.T107 Try.T109 Try.T110 Try.T111 Try.T112 Try.T113 Try.T114 Try.T115 Try.T116 Try.T118 Try.T119 Try.T121 Try.T122 Try.T124 Try.T125 Try.T127 Try.T128 Try.T130 Try.T132 Try.T133 Try.T135 Try.T136 Try.T137 Try.T139 Try.T141 Try.T142 Try.T143 Try.T145 Try.T147 Try.T149 Try.T150 Try.T152 Try.T154 Try.T155 Try.T156 Try.T157 Try.T158 Try.T159 Try.T160 Try.T161 Try.T162 Try.T163 Try.T164 Try.T165 Try.T166 Try.T167 Try.T168 Try.T170 Try.T172 Try.T173 Try.T174 Try.T175 Try.T176 Try.T177 Try.T178 Try.T179 Try.T180 Try.T181 Try.T182 Try.T183 Try.T184 Try.T185 Try.T186 Try.T187 Try.T188 Try.T190 Try.T191 Try.T192 Try.T193 Try.T194 Try.T195 Try.T196 Try.T198 Try.T199 Try.T200 Try.T202 Try.T203 Try.T204 Try.T205 Try.T206 Try.T207 Try.T208 Try.T209 Try.T210 Try.T211 Try.T212 Try.T218 Try.T219 Try.T222
attribute [local irreducible] Go.Av.CallK Go.Av.CallE Go.Av.CallQ Go.Av.CallF Go.Av.Con

theorem ints01_con (a b : List Int) : ACon Try.prog 25 [.p (.sl 1 (ints a)), .p (.sl 1 (ints b))] (.p (B (decide (a = b)))) := by
  refine ACon.len ⟨Try.f25, Try.func25, rfl, rfl⟩ 0 _ _ rfl fun hlen => ?_
  simp only [ints_len] at hlen
  by_cases hl : a.length = b.length
  · refine wBody Try.tab Try.mixed Try.func25 rfl rfl Try.ntmps25 (by simp) (by simp) fun Q hr hn => ?_
    repeat' first | (refine hK _ ?_; clear hK) | (refine hK _ _ ?_; clear hK) | (clear hK; refine hK _ ?_; clear hK) | (clear hK; clear hK; refine hK _ ?_; clear hK) | (clear hK; clear hK; clear hK; refine hK _ ?_; clear hK) | (clear hK; clear hK; clear hK; clear hK; refine hK _ ?_; clear hK) | (refine wSeq fun K hK => ?_) | (refine wReg ?_; simp only [List.map_cons, List.map_nil, strip]) | (refine wDrwQ rfl (by kernel_rfl) ?_; simp only [List.map_cons, List.map_nil, strip]) | (refine wDrwI ?_; simp only [List.map_cons, List.map_nil, strip]) | (refine wDrw (by kernel_rfl) ?_; simp only [List.map_cons, List.map_nil, strip]) | (refine wIs fun K hK => ?_; simp [hl]) | (refine wIn ?_; refine And.intro (by kernel_rfl) ?_; try simp only [thenA_n]) | (refine wOs fun K hK => ?_; simp [hl]) | (refine wQs fun K hK => ?_; simp [hl]) | (refine CallK_plain ?_; simp [hl]) | (refine CallQ_plain ?_; simp [hl]) | (refine wRet ?_; try simp) | (refine wCond ?_; simp [hl]) | (refine wBlock ?_) | (refine wScope ?_) | (refine wExit ?_; try simp) | (refine wSkip ?_; try simp) | (refine wOn ?_; try simp only [thenA_n]) | (refine wQn ?_; try simp only [thenA_n])
    refine wLoop (fun N st => ∃ k, k + N = a.length ∧ st.s 0 = .p (.sl 1 (ints a)) ∧ st.s 1 = .p (.sl 1 (ints b)) ∧ st.s 12 = .p (I a.length) ∧ st.s 13 = .p (I k) ∧ (a = b ↔ a.drop k = b.drop k)) a.length ⟨0, by simp [hl]⟩ fun K N st hL ⟨k, hk, h0, h1, h12, h13, hi⟩ => ?_
    by_cases hlt : k < a.length
    · have hw := wrapS k _ hlt hlen
      have he := ints_get hlt
      have he' := ints_get (l := b) (k := k) (by omega)
      rw [List.drop_eq_getElem_cons hlt, List.drop_eq_getElem_cons (l := b) (by omega), List.cons.injEq] at hi
      repeat' first | (refine hK _ ?_; clear hK) | (refine hK _ _ ?_; clear hK) | (clear hK; refine hK _ ?_; clear hK) | (clear hK; clear hK; refine hK _ ?_; clear hK) | (clear hK; clear hK; clear hK; refine hK _ ?_; clear hK) | (clear hK; clear hK; clear hK; clear hK; refine hK _ ?_; clear hK) | (refine wSeq fun K hK => ?_) | (refine wReg ?_; simp only [List.map_cons, List.map_nil, strip]) | (refine wDrwQ rfl (by kernel_rfl) ?_; simp only [List.map_cons, List.map_nil, strip]) | (refine wDrwI ?_; simp only [List.map_cons, List.map_nil, strip]) | (refine wDrw (by kernel_rfl) ?_; simp only [List.map_cons, List.map_nil, strip]) | (refine wIs fun K hK => ?_; simp [h0, h1, h12, h13, hlt, hw, he, he']) | (refine wIn ?_; refine And.intro (by kernel_rfl) ?_; try simp only [thenA_n]) | (refine wOs fun K hK => ?_; simp [h0, h1, h12, h13, hlt, hw, he, he']) | (refine wQs fun K hK => ?_; simp [h0, h1, h12, h13, hlt, hw, he, he']) | (refine CallK_plain ?_; simp [h0, h1, h12, h13, hlt, hw, he, he']) | (refine CallQ_plain ?_; simp [h0, h1, h12, h13, hlt, hw, he, he']) | (refine wRet ?_; try simp) | (refine wCond ?_; simp [h0, h1, h12, h13, hlt, hw, he, he']) | (refine wBlock ?_) | (refine wScope ?_) | (refine wExit ?_; try simp) | (refine wSkip ?_; try simp) | (refine wOn ?_; try simp only [thenA_n]) | (refine wQn ?_; try simp only [thenA_n]) | (refine And.intro (fun hc => ?_) (fun hc => ?_))
      · apply hr
        simp [Try.f25]
        intro h
        exact hc (hi.1 h).1
      · refine hL _ (N - 1) (by omega) ⟨k + 1, by omega, ?_⟩
        simp [h0, h1, h12, hw]
        rw [hi]; simp [hc]
    · have hd : a.drop k = [] := List.drop_of_length_le (by omega)
      have hd' : b.drop k = [] := List.drop_of_length_le (by omega)
      rw [hd, hd'] at hi
      repeat' first | (refine hK _ ?_; clear hK) | (refine hK _ _ ?_; clear hK) | (clear hK; refine hK _ ?_; clear hK) | (clear hK; clear hK; refine hK _ ?_; clear hK) | (clear hK; clear hK; clear hK; refine hK _ ?_; clear hK) | (clear hK; clear hK; clear hK; clear hK; refine hK _ ?_; clear hK) | (refine wSeq fun K hK => ?_) | (refine wReg ?_; simp only [List.map_cons, List.map_nil, strip]) | (refine wDrwQ rfl (by kernel_rfl) ?_; simp only [List.map_cons, List.map_nil, strip]) | (refine wDrwI ?_; simp only [List.map_cons, List.map_nil, strip]) | (refine wDrw (by kernel_rfl) ?_; simp only [List.map_cons, List.map_nil, strip]) | (refine wIs fun K hK => ?_; simp [h0, h1, h12, h13, hlt]) | (refine wIn ?_; refine And.intro (by kernel_rfl) ?_; try simp only [thenA_n]) | (refine wOs fun K hK => ?_; simp [h0, h1, h12, h13, hlt]) | (refine wQs fun K hK => ?_; simp [h0, h1, h12, h13, hlt]) | (refine CallK_plain ?_; simp [h0, h1, h12, h13, hlt]) | (refine CallQ_plain ?_; simp [h0, h1, h12, h13, hlt]) | (refine wRet ?_; try simp) | (refine wCond ?_; simp [h0, h1, h12, h13, hlt]) | (refine wBlock ?_) | (refine wScope ?_) | (refine wExit ?_; try simp) | (refine wSkip ?_; try simp) | (refine wOn ?_; try simp only [thenA_n]) | (refine wQn ?_; try simp only [thenA_n])
      apply hr
      simp [Try.f25]
      simpa using hi
  · have hne : ¬ a = b := fun h => hl (by rw [h])
    have hl' : ¬ ((a.length : Int) = b.length) := by omega
    refine wBody Try.tab Try.mixed Try.func25 rfl rfl Try.ntmps25 (by simp) (by simp) fun Q hr hn => ?_
    repeat' first | (refine hK _ ?_; clear hK) | (refine hK _ _ ?_; clear hK) | (clear hK; refine hK _ ?_; clear hK) | (clear hK; clear hK; refine hK _ ?_; clear hK) | (clear hK; clear hK; clear hK; refine hK _ ?_; clear hK) | (clear hK; clear hK; clear hK; clear hK; refine hK _ ?_; clear hK) | (refine wSeq fun K hK => ?_) | (refine wReg ?_; simp only [List.map_cons, List.map_nil, strip]) | (refine wDrwQ rfl (by kernel_rfl) ?_; simp only [List.map_cons, List.map_nil, strip]) | (refine wDrwI ?_; simp only [List.map_cons, List.map_nil, strip]) | (refine wDrw (by kernel_rfl) ?_; simp only [List.map_cons, List.map_nil, strip]) | (refine wIs fun K hK => ?_; simp [hl, hl']) | (refine wIn ?_; refine And.intro (by kernel_rfl) ?_; try simp only [thenA_n]) | (refine wOs fun K hK => ?_; simp [hl, hl']) | (refine wQs fun K hK => ?_; simp [hl, hl']) | (refine CallK_plain ?_; simp [hl, hl']) | (refine CallQ_plain ?_; simp [hl, hl']) | (refine wRet ?_; try simp) | (refine wCond ?_; simp [hl, hl']) | (refine wBlock ?_) | (refine wScope ?_) | (refine wExit ?_; try simp) | (refine wSkip ?_; try simp) | (refine wOn ?_; try simp only [thenA_n]) | (refine wQn ?_; try simp only [thenA_n])
    all_goals apply hr
    all_goals simp [Try.f25, hne]

theorem Vt.ext7 {a b : Vt} : a = b ↔ a.f = b.f ∧ a.r = b.r ∧ a.e = b.e ∧ a.le = b.le ∧ a.ln = b.ln ∧ a.c = b.c ∧ a.m = b.m := by
  cases a; cases b; simp
theorem vts_get {l : List Vt} {k : Nat} (h : k < l.length) : (vts l)[k]? = some [I l[k].f, I l[k].r, I l[k].e, I l[k].le, I l[k].ln, I l[k].c, I l[k].m] := by simp [vts, h, Vt.cells]
set_option maxHeartbeats 1000000 in
theorem same17_con (a b : List Vt) : ACon Try.prog 22 [.p (.sl 7 (vts a)), .p (.sl 7 (vts b))] (.p (B (decide (a = b)))) := by
  refine ACon.len ⟨Try.f22, Try.func22, rfl, rfl⟩ 0 _ _ rfl fun hlen => ?_
  simp only [vts_len] at hlen
  by_cases hl : a.length = b.length
  · refine wBody Try.tab Try.mixed Try.func22 rfl rfl Try.ntmps22 (by simp) (by simp) fun Q hr hn => ?_
    repeat' first | (refine hK _ ?_; clear hK) | (refine hK _ _ ?_; clear hK) | (clear hK; refine hK _ ?_; clear hK) | (clear hK; clear hK; refine hK _ ?_; clear hK) | (clear hK; clear hK; clear hK; refine hK _ ?_; clear hK) | (clear hK; clear hK; clear hK; clear hK; refine hK _ ?_; clear hK) | (refine wSeq fun K hK => ?_) | (refine wReg ?_; simp only [List.map_cons, List.map_nil, strip]) | (refine wDrwQ rfl (by kernel_rfl) ?_; simp only [List.map_cons, List.map_nil, strip]) | (refine wDrwI ?_; simp only [List.map_cons, List.map_nil, strip]) | (refine wDrw (by kernel_rfl) ?_; simp only [List.map_cons, List.map_nil, strip]) | (refine wIs fun K hK => ?_; simp [hl]) | (refine wIn ?_; refine And.intro (by kernel_rfl) ?_; try simp only [thenA_n]) | (refine wOs fun K hK => ?_; simp [hl]) | (refine wQs fun K hK => ?_; simp [hl]) | (refine CallK_plain ?_; simp [hl]) | (refine CallQ_plain ?_; simp [hl]) | (refine wRet ?_; try simp) | (refine wCond ?_; simp [hl]) | (refine wBlock ?_) | (refine wScope ?_) | (refine wExit ?_; try simp) | (refine wSkip ?_; try simp) | (refine wOn ?_; try simp only [thenA_n]) | (refine wQn ?_; try simp only [thenA_n])
    refine wLoop (fun N st => ∃ k, k + N = a.length ∧ st.s 0 = .p (.sl 7 (vts a)) ∧ st.s 1 = .p (.sl 7 (vts b)) ∧ st.s 12 = .p (I a.length) ∧ st.s 13 = .p (I k) ∧ (a = b ↔ a.drop k = b.drop k)) a.length ⟨0, by simp [hl]⟩ fun K N st hL ⟨k, hk, h0, h1, h12, h13, hi⟩ => ?_
    by_cases hlt : k < a.length
    · have hw := wrapS k _ hlt hlen
      have he := vts_get hlt
      have he' := vts_get (l := b) (k := k) (by omega)
      have hltb : k < b.length := by omega
      rw [List.drop_eq_getElem_cons hlt, List.drop_eq_getElem_cons (l := b) (by omega), List.cons.injEq, Vt.ext7] at hi
      repeat' first | (refine hK _ ?_; clear hK) | (refine hK _ _ ?_; clear hK) | (clear hK; refine hK _ ?_; clear hK) | (clear hK; clear hK; refine hK _ ?_; clear hK) | (clear hK; clear hK; clear hK; refine hK _ ?_; clear hK) | (clear hK; clear hK; clear hK; clear hK; refine hK _ ?_; clear hK) | (refine wSeq fun K hK => ?_) | (refine wReg ?_; simp only [List.map_cons, List.map_nil, strip]) | (refine wDrwQ rfl (by kernel_rfl) ?_; simp only [List.map_cons, List.map_nil, strip]) | (refine wDrwI ?_; simp only [List.map_cons, List.map_nil, strip]) | (refine wDrw (by kernel_rfl) ?_; simp only [List.map_cons, List.map_nil, strip]) | (refine wIs fun K hK => ?_; simp [h0, h1, h12, h13, hlt, hltb, hw, he, he']) | (refine wIn ?_; refine And.intro (by kernel_rfl) ?_; try simp only [thenA_n]) | (refine wOs fun K hK => ?_; simp [h0, h1, h12, h13, hlt, hltb, hw, he, he']) | (refine wQs fun K hK => ?_; simp [h0, h1, h12, h13, hlt, hltb, hw, he, he']) | (refine CallK_plain ?_; simp [h0, h1, h12, h13, hlt, hltb, hw, he, he']) | (refine CallQ_plain ?_; simp [h0, h1, h12, h13, hlt, hltb, hw, he, he']) | (refine wRet ?_; try simp) | (refine wCond ?_; simp [h0, h1, h12, h13, hlt, hltb, hw, he, he']) | (refine wBlock ?_) | (refine wScope ?_) | (refine wExit ?_; try simp) | (refine wSkip ?_; try simp) | (refine wOn ?_; try simp only [thenA_n]) | (refine wQn ?_; try simp only [thenA_n]) | (refine And.intro (fun hc => ?_) (fun e1 e2 e3 e4 e5 e6 e7 => ?_))
      · apply hr
        simp [Try.f22]
        intro h
        obtain ⟨⟨e1, e2, e3, e4, e5, e6, e7⟩, -⟩ := hi.1 h
        simp [e1, e2, e3, e4, e5, e6, e7] at hc
      · refine hL _ (N - 1) (by omega) ⟨k + 1, by omega, ?_⟩
        simp [h0, h1, h12, hw]
        rw [hi]; simp [e1, e2, e3, e4, e5, e6, e7]
    · have hd : a.drop k = [] := List.drop_of_length_le (by omega)
      have hd' : b.drop k = [] := List.drop_of_length_le (by omega)
      rw [hd, hd'] at hi
      repeat' first | (refine hK _ ?_; clear hK) | (refine hK _ _ ?_; clear hK) | (clear hK; refine hK _ ?_; clear hK) | (clear hK; clear hK; refine hK _ ?_; clear hK) | (clear hK; clear hK; clear hK; refine hK _ ?_; clear hK) | (clear hK; clear hK; clear hK; clear hK; refine hK _ ?_; clear hK) | (refine wSeq fun K hK => ?_) | (refine wReg ?_; simp only [List.map_cons, List.map_nil, strip]) | (refine wDrwQ rfl (by kernel_rfl) ?_; simp only [List.map_cons, List.map_nil, strip]) | (refine wDrwI ?_; simp only [List.map_cons, List.map_nil, strip]) | (refine wDrw (by kernel_rfl) ?_; simp only [List.map_cons, List.map_nil, strip]) | (refine wIs fun K hK => ?_; simp [h0, h1, h12, h13, hlt]) | (refine wIn ?_; refine And.intro (by kernel_rfl) ?_; try simp only [thenA_n]) | (refine wOs fun K hK => ?_; simp [h0, h1, h12, h13, hlt]) | (refine wQs fun K hK => ?_; simp [h0, h1, h12, h13, hlt]) | (refine CallK_plain ?_; simp [h0, h1, h12, h13, hlt]) | (refine CallQ_plain ?_; simp [h0, h1, h12, h13, hlt]) | (refine wRet ?_; try simp) | (refine wCond ?_; simp [h0, h1, h12, h13, hlt]) | (refine wBlock ?_) | (refine wScope ?_) | (refine wExit ?_; try simp) | (refine wSkip ?_; try simp) | (refine wOn ?_; try simp only [thenA_n]) | (refine wQn ?_; try simp only [thenA_n])
      apply hr
      simp [Try.f22]
      simpa using hi
  · have hne : ¬ a = b := fun h => hl (by rw [h])
    have hl' : ¬ ((a.length : Int) = b.length) := by omega
    refine wBody Try.tab Try.mixed Try.func22 rfl rfl Try.ntmps22 (by simp) (by simp) fun Q hr hn => ?_
    repeat' first | (refine hK _ ?_; clear hK) | (refine hK _ _ ?_; clear hK) | (clear hK; refine hK _ ?_; clear hK) | (clear hK; clear hK; refine hK _ ?_; clear hK) | (clear hK; clear hK; clear hK; refine hK _ ?_; clear hK) | (clear hK; clear hK; clear hK; clear hK; refine hK _ ?_; clear hK) | (refine wSeq fun K hK => ?_) | (refine wReg ?_; simp only [List.map_cons, List.map_nil, strip]) | (refine wDrwQ rfl (by kernel_rfl) ?_; simp only [List.map_cons, List.map_nil, strip]) | (refine wDrwI ?_; simp only [List.map_cons, List.map_nil, strip]) | (refine wDrw (by kernel_rfl) ?_; simp only [List.map_cons, List.map_nil, strip]) | (refine wIs fun K hK => ?_; simp [hl, hl']) | (refine wIn ?_; refine And.intro (by kernel_rfl) ?_; try simp only [thenA_n]) | (refine wOs fun K hK => ?_; simp [hl, hl']) | (refine wQs fun K hK => ?_; simp [hl, hl']) | (refine CallK_plain ?_; simp [hl, hl']) | (refine CallQ_plain ?_; simp [hl, hl']) | (refine wRet ?_; try simp) | (refine wCond ?_; simp [hl, hl']) | (refine wBlock ?_) | (refine wScope ?_) | (refine wExit ?_; try simp) | (refine wSkip ?_; try simp) | (refine wOn ?_; try simp only [thenA_n]) | (refine wQn ?_; try simp only [thenA_n])
    all_goals apply hr
    all_goals simp [Try.f22, hne]

/-! ### A vote laid -/
def lay (l : List Vt) (v : Vt) : List Vt := l.takeWhile (fun x => decide (x.f < v.f)) ++ v :: (l.dropWhile (fun x => decide (x.f < v.f))).filter (fun x => decide (x.f ≠ v.f))
theorem lay1_con (x v : Vt) : Con Try.prog 70 [.p (.agg x.cells), .ptr 1024 0] [.box 37 (v.cells.map .p)] (.ret (.p (B (decide (x.f ≠ v.f)))) [] [.box 37 (v.cells.map .p)]) := by
  obtain ⟨a0, a1, a2, a3, a4, a5, a6⟩ := x
  obtain ⟨b0, b1, b2, b3, b4, b5, b6⟩ := v
  simp only [Vt.cells, List.map_cons, List.map_nil]
  refine wBodyG Try.tab Try.mixed Try.func70 rfl rfl Try.ntmps70 (by simp) (by simp) fun Q hr hn hp => ?_
  repeat' first | (refine hK _ ?_; clear hK) | (refine hK _ _ ?_; clear hK) | (clear hK; refine hK _ ?_; clear hK) | (clear hK; clear hK; refine hK _ ?_; clear hK) | (clear hK; clear hK; clear hK; refine hK _ ?_; clear hK) | (clear hK; clear hK; clear hK; clear hK; refine hK _ ?_; clear hK) | (refine wSeq fun K hK => ?_) | (refine wReg ?_; simp only [List.map_cons, List.map_nil, strip]) | (refine wDrwQ rfl (by kernel_rfl) ?_; simp only [List.map_cons, List.map_nil, strip]) | (refine wDrwI ?_; simp only [List.map_cons, List.map_nil, strip]) | (refine wDrw (by kernel_rfl) ?_; simp only [List.map_cons, List.map_nil, strip]) | (refine wIs fun K hK => ?_; simp) | (refine wIn ?_; refine And.intro (by kernel_rfl) ?_; try simp only [thenA_n]) | (refine wOs fun K hK => ?_; simp) | (refine wQs fun K hK => ?_; simp) | (refine CallK_plain ?_; simp) | (refine CallQ_plain ?_; simp) | (refine wRet ?_; try simp) | (refine wCond ?_; simp) | (refine wBlock ?_) | (refine wScope ?_) | (refine wExit ?_; try simp) | (refine wSkip ?_; try simp) | (refine wOn ?_; try simp only [thenA_n]) | (refine wQn ?_; try simp only [thenA_n])
  all_goals apply hr
  all_goals refine ⟨[], by simp, by simp, ?_⟩
  all_goals simp [Try.f70, outR, outB, renB]
  all_goals (by_cases h : a0 = b0 <;> simp [h])

theorem tw_step {α : Type} (p : α → Bool) (l : List α) (k : Nat) (hk : k < l.length) (h : ∀ i (hi : i < k), p (l[i]'(by omega)) = true) : (p l[k] = true → ∀ i (hi : i < k + 1), p (l[i]'(by omega)) = true) ∧ (p l[k] = false → l.takeWhile p = l.take k ∧ l.dropWhile p = l.drop k) := by
  refine ⟨fun hp i hi => ?_, fun hp => ?_⟩
  · rcases Nat.lt_or_ge i k with h1 | h1
    · exact h i h1
    · have : i = k := by omega
      subst this; exact hp
  · have e : l = l.take k ++ l[k] :: l.drop (k + 1) := by rw [← List.drop_eq_getElem_cons hk, List.take_append_drop]
    have hall : ∀ x ∈ l.take k, p x = true := fun x hx => by
      obtain ⟨i, hi, rfl⟩ := List.getElem_of_mem hx
      have hik : i < k := by simp at hi; omega
      rw [List.getElem_take]; exact h i hik
    constructor
    · conv => lhs; rw [e]
      rw [List.takeWhile_append_of_pos hall, List.takeWhile_cons_of_neg (by simp [hp])]; simp
    · conv => lhs; rw [e]
      rw [List.dropWhile_append_of_pos hall, List.dropWhile_cons_of_neg (by simp [hp]), List.drop_eq_getElem_cons hk]
theorem tw_all {α : Type} (p : α → Bool) (l : List α) (h : ∀ i (hi : i < l.length), p l[i] = true) : l.takeWhile p = l ∧ l.dropWhile p = [] := by
  have hall : ∀ x ∈ l, p x = true := fun x hx => by
    obtain ⟨i, hi, rfl⟩ := List.getElem_of_mem hx
    exact h i hi
  constructor
  · have := List.takeWhile_append_of_pos (l₁ := l) (l₂ := []) hall; simpa using this
  · have := List.dropWhile_append_of_pos (l₁ := l) (l₂ := []) hall; simpa using this
theorem kept_cut (l : List Vt) (v : Vt) (k : Nat) (hk : k ≤ l.length) (h : ∀ i (hi : i < k), (l[i]'(by omega)).f < v.f) :
    kept (fun x => decide (x.f ≠ v.f)) l = l.take k ++ (l.drop k).filter (fun x => decide (x.f ≠ v.f)) := by
  unfold kept
  conv => lhs; rw [← List.take_append_drop k l]
  rw [List.filter_append, List.filter_eq_self.2]
  intro x hx
  obtain ⟨i, hi, rfl⟩ := List.getElem_of_mem hx
  have hik : i < k := by simp at hi; omega
  have := h i hik
  rw [List.getElem_take]
  simp; omega

set_option maxHeartbeats 2000000 in
theorem layR_con (l : List Vt) (v : Vt) (hl : l.length ≤ 100000) : RCon 23 [.p (.sl 7 (vts l)), .p (.agg v.cells)] 37 7 (vts (lay l v)) := by
  have hs := sifted_con l 70 v (fun x => decide (x.f ≠ v.f)) (by omega) (fun x => lay1_con x v)
  have hkl := kept_len (fun x => decide (x.f ≠ v.f)) l
  have hst := fun k hk h => tw_step (fun x : Vt => decide (x.f < v.f)) l k hk h
  have hall := tw_all (fun x : Vt => decide (x.f < v.f)) l
  have hcut := kept_cut l v
  have hlay : lay l v = l.takeWhile (fun x => decide (x.f < v.f)) ++ v :: (l.dropWhile (fun x => decide (x.f < v.f))).filter (fun x => decide (x.f ≠ v.f)) := rfl
  generalize lay l v = LAY at hlay ⊢
  have key : ∀ k, k ≤ l.length → (∀ i (hi : i < k) (hil : i < l.length), (l[i]'hil).f < v.f) → l.takeWhile (fun x => decide (x.f < v.f)) = l.take k → l.dropWhile (fun x => decide (x.f < v.f)) = l.drop k →
      k ≤ (kept (fun x => decide (x.f ≠ v.f)) l).length ∧ (vts (kept (fun x => decide (x.f ≠ v.f)) l)).take k ++ v.cells :: (vts (kept (fun x => decide (x.f ≠ v.f)) l)).drop k = vts LAY := fun k hk h h1 h2 => by
    have e := hcut k hk (fun i hi => h i hi (by omega))
    have e1 : (l.take k).length = k := by simp; omega
    rw [h1, h2] at hlay
    rw [e, hlay]
    refine ⟨by simp; omega, ?_⟩
    unfold vts
    rw [List.map_append, List.map_append, List.take_append_of_le_length (by simp; omega), List.drop_append_of_le_length (by simp; omega), List.take_of_length_le (by simp; omega), List.drop_of_length_le (by simp; omega)]
    simp
  clear hcut
  generalize hks : kept (fun x => decide (x.f ≠ v.f)) l = ks at hs hkl key
  obtain ⟨v0, v1, v2, v3, v4, v5, v6⟩ := v
  simp only [Vt.cells, List.map_cons, List.map_nil] at hs hst hall key ⊢
  refine wBodyR Try.tab Try.mixed Try.func23 rfl rfl Try.ntmps23 rfl (by simp) (by simp) fun Q hr hn => ?_
  repeat' first | (refine hK _ ?_; clear hK) | (refine hK _ _ ?_; clear hK) | (clear hK; refine hK _ ?_; clear hK) | (clear hK; clear hK; refine hK _ ?_; clear hK) | (clear hK; clear hK; clear hK; refine hK _ ?_; clear hK) | (clear hK; clear hK; clear hK; clear hK; refine hK _ ?_; clear hK) | (refine wSeq fun K hK => ?_) | (refine wReg ?_; simp only [List.map_cons, List.map_nil, strip]) | (refine wDrwQ rfl (by kernel_rfl) ?_; simp only [List.map_cons, List.map_nil, strip]) | (refine wDrwI ?_; simp only [List.map_cons, List.map_nil, strip]) | (refine wDrw (by kernel_rfl) ?_; simp only [List.map_cons, List.map_nil, strip]) | (refine wIs fun K hK => ?_; simp) | (refine wIn ?_; refine And.intro (by kernel_rfl) ?_; try simp only [thenA_n]) | (refine wOs fun K hK => ?_; simp) | (refine wQs fun K hK => ?_; simp) | (refine CallK_plain ?_; simp) | (refine CallQ_plain ?_; simp) | (refine wRet ?_; try simp) | (refine wCond ?_; simp) | (refine wBlock ?_) | (refine wScope ?_) | (refine wExit ?_; try simp) | (refine wSkip ?_; try simp) | (refine wOn ?_; try simp only [thenA_n]) | (refine wQn ?_; try simp only [thenA_n])
  refine wLoop (fun N st => ∃ k, k + N = l.length ∧ st.s 0 = .p (.sl 7 (vts l)) ∧ st.s 3 = .ptr 3 0 ∧ st.s 5 = .p (I k) ∧ st.b 3 = some (.box 37 [.p (I v0), .p (I v1), .p (I v2), .p (I v3), .p (I v4), .p (I v5), .p (I v6)]) ∧ ∀ i (hi : i < k) (hil : i < l.length), (l[i]'hil).f < v0) l.length ⟨0, by simp⟩ fun K N st hL ⟨k, hk, g0, g3, g5, b3, hi⟩ => ?_
  by_cases hlt : k < l.length
  · have hw := wrapS k _ hlt (by omega)
    by_cases o : l[k].f < v0
    · repeat' first | (refine hK _ ?_; clear hK) | (refine hK _ _ ?_; clear hK) | (clear hK; refine hK _ ?_; clear hK) | (clear hK; clear hK; refine hK _ ?_; clear hK) | (clear hK; clear hK; clear hK; refine hK _ ?_; clear hK) | (clear hK; clear hK; clear hK; clear hK; refine hK _ ?_; clear hK) | (refine wSeq fun K hK => ?_) | (refine wReg ?_; simp only [List.map_cons, List.map_nil, strip]) | (refine wDrwQ rfl (by kernel_rfl) ?_; simp only [List.map_cons, List.map_nil, strip]) | (refine wDrwI ?_; simp only [List.map_cons, List.map_nil, strip]) | (refine wDrw (by kernel_rfl) ?_; simp only [List.map_cons, List.map_nil, strip]) | (refine wIs fun K hK => ?_; simp [g0, g3, g5, b3, hlt, hw, o]) | (refine wIn ?_; refine And.intro (by kernel_rfl) ?_; try simp only [thenA_n]) | (refine wOs fun K hK => ?_; simp [g0, g3, g5, b3, hlt, hw, o]) | (refine wQs fun K hK => ?_; simp [g0, g3, g5, b3, hlt, hw, o]) | (refine CallK_plain ?_; simp [g0, g3, g5, b3, hlt, hw, o]) | (refine CallQ_plain ?_; simp [g0, g3, g5, b3, hlt, hw, o]) | (refine wRet ?_; try simp) | (refine wCond ?_; simp [g0, g3, g5, b3, hlt, hw, o]) | (refine wBlock ?_) | (refine wScope ?_) | (refine wExit ?_; try simp) | (refine wSkip ?_; try simp) | (refine wOn ?_; try simp only [thenA_n]) | (refine wQn ?_; try simp only [thenA_n])
      refine hL _ (N - 1) (by omega) ⟨k + 1, by omega, ?_⟩
      simp [g0, g3, g5, b3, hw]
      exact fun i hi' hil => by simpa using (hst k hlt (fun i hi'' => by simpa using hi i hi'' (by omega))).1 (by simpa using o) i (by omega)
    · have h2 := (hst k hlt (fun i hi'' => by simpa using hi i hi'' (by omega))).2 (by simpa using o)
      obtain ⟨k1, k2⟩ := key k (by omega) hi h2.1 h2.2
      have hins := insert_con (vts ks) k [I v0, I v1, I v2, I v3, I v4, I v5, I v6] (by simp; omega) (by simp; omega) rfl
      rw [k2] at hins
      repeat' first | (refine CallK_gen [3] hs (by decide) (by decide) (by simp [blksOf, inN, pos, renB, ren0, b3]) (by simp [argsG, argG, ren0, inN, pos, renCs, renC]) ⟨[25], by simp, by simp, ?_⟩; simp [lv, ouN, kpI, kpR, pos, ren, ren0, renB, renC, renCs, g0, g3, g5, b3]) | (refine CallK_gen [25] hins (by decide) (by decide) (by simp [blksOf, inN, pos, renB, ren0, b3]) (by simp [argsG, argG, ren0, inN, pos, renCs, renC]) ⟨[], by simp, by simp, ?_⟩; simp [lv, ouN, kpI, kpR, pos, ren, ren0, renB, renC, renCs, g0, g3, g5, b3]) | (refine hK _ ?_; clear hK) | (refine hK _ _ ?_; clear hK) | (clear hK; refine hK _ ?_; clear hK) | (clear hK; clear hK; refine hK _ ?_; clear hK) | (clear hK; clear hK; clear hK; refine hK _ ?_; clear hK) | (clear hK; clear hK; clear hK; clear hK; refine hK _ ?_; clear hK) | (refine wSeq fun K hK => ?_) | (refine wReg ?_; simp only [List.map_cons, List.map_nil, strip]) | (refine wDrwQ rfl (by kernel_rfl) ?_; simp only [List.map_cons, List.map_nil, strip]) | (refine wDrwI ?_; simp only [List.map_cons, List.map_nil, strip]) | (refine wDrw (by kernel_rfl) ?_; simp only [List.map_cons, List.map_nil, strip]) | (refine wIs fun K hK => ?_; simp [g0, g3, g5, b3, hlt, hw, o]) | (refine wIn ?_; refine And.intro (by kernel_rfl) ?_; try simp only [thenA_n]) | (refine wOs fun K hK => ?_; simp [g0, g3, g5, b3, hlt, hw, o]) | (refine wQs fun K hK => ?_; simp [g0, g3, g5, b3, hlt, hw, o]) | (refine CallK_plain ?_; simp [g0, g3, g5, b3, hlt, hw, o]) | (refine CallQ_plain ?_; simp [g0, g3, g5, b3, hlt, hw, o]) | (refine wRet ?_; try simp) | (refine wCond ?_; simp [g0, g3, g5, b3, hlt, hw, o]) | (refine wBlock ?_) | (refine wScope ?_) | (refine wExit ?_; try simp) | (refine wSkip ?_; try simp) | (refine wOn ?_; try simp only [thenA_n]) | (refine wQn ?_; try simp only [thenA_n])
      refine hr _ 25 (by simp [lv, ouN, kpI, kpR, pos, ren, ren0, renB, renC, renCs, Try.f23]) (by simp [lv, ouN, kpI, kpR, pos, ren, ren0, renB, renC, renCs]) (by omega)
  · have hkl' : k = l.length := by omega
    obtain ⟨h1, h2⟩ := hall fun i hi' => by simpa using hi i (by omega) hi'
    obtain ⟨k1, k2⟩ := key k (by omega) hi (by rw [h1, List.take_of_length_le (by omega)]) (by rw [h2, List.drop_of_length_le (by omega)])
    have hins := insert_con (vts ks) k [I v0, I v1, I v2, I v3, I v4, I v5, I v6] (by simp; omega) (by simp; omega) rfl
    rw [k2] at hins
    repeat' first | (refine CallK_gen [3] hs (by decide) (by decide) (by simp [blksOf, inN, pos, renB, ren0, b3]) (by simp [argsG, argG, ren0, inN, pos, renCs, renC]) ⟨[25], by simp, by simp, ?_⟩; simp [lv, ouN, kpI, kpR, pos, ren, ren0, renB, renC, renCs, g0, g3, g5, b3]) | (refine CallK_gen [25] hins (by decide) (by decide) (by simp [blksOf, inN, pos, renB, ren0, b3]) (by simp [argsG, argG, ren0, inN, pos, renCs, renC]) ⟨[], by simp, by simp, ?_⟩; simp [lv, ouN, kpI, kpR, pos, ren, ren0, renB, renC, renCs, g0, g3, g5, b3]) | (refine hK _ ?_; clear hK) | (refine hK _ _ ?_; clear hK) | (clear hK; refine hK _ ?_; clear hK) | (clear hK; clear hK; refine hK _ ?_; clear hK) | (clear hK; clear hK; clear hK; refine hK _ ?_; clear hK) | (clear hK; clear hK; clear hK; clear hK; refine hK _ ?_; clear hK) | (refine wSeq fun K hK => ?_) | (refine wReg ?_; simp only [List.map_cons, List.map_nil, strip]) | (refine wDrwQ rfl (by kernel_rfl) ?_; simp only [List.map_cons, List.map_nil, strip]) | (refine wDrwI ?_; simp only [List.map_cons, List.map_nil, strip]) | (refine wDrw (by kernel_rfl) ?_; simp only [List.map_cons, List.map_nil, strip]) | (refine wIs fun K hK => ?_; simp [g0, g3, g5, b3, hlt]) | (refine wIn ?_; refine And.intro (by kernel_rfl) ?_; try simp only [thenA_n]) | (refine wOs fun K hK => ?_; simp [g0, g3, g5, b3, hlt]) | (refine wQs fun K hK => ?_; simp [g0, g3, g5, b3, hlt]) | (refine CallK_plain ?_; simp [g0, g3, g5, b3, hlt]) | (refine CallQ_plain ?_; simp [g0, g3, g5, b3, hlt]) | (refine wRet ?_; try simp) | (refine wCond ?_; simp [g0, g3, g5, b3, hlt]) | (refine wBlock ?_) | (refine wScope ?_) | (refine wExit ?_; try simp) | (refine wSkip ?_; try simp) | (refine wOn ?_; try simp only [thenA_n]) | (refine wQn ?_; try simp only [thenA_n])
    refine hr _ 25 (by simp [lv, ouN, kpI, kpR, pos, ren, ren0, renB, renC, renCs, Try.f23]) (by simp [lv, ouN, kpI, kpR, pos, ren, ren0, renB, renC, renCs]) (by omega)
theorem lay_con (l : List Vt) (v : Vt) (hl : l.length ≤ 100000) : ACon Try.prog 23 [.p (.sl 7 (vts l)), .p (.agg v.cells)] (.p (.sl 7 (vts (lay l v)))) := (layR_con l v hl).toPure

/-- The document's: what is laid till now, and whether v is there. -/
def layR (v : Vt) : List Vt → Bool → List Vt → List Vt
  | [], d, out => if d then out else out ++ [v]
  | x :: r, d, out => layR v r (d || decide (v.f ≤ x.f)) ((if v.f ≤ x.f ∧ d = false then out ++ [v] else out) ++ (if x.f ≠ v.f then [x] else []))
theorem layR_done (v : Vt) : ∀ (l out : List Vt), layR v l true out = out ++ l.filter (fun x => decide (x.f ≠ v.f))
  | [], out => by simp [layR]
  | x :: r, out => by
    simp only [layR, Bool.true_or, layR_done v r]
    by_cases h : x.f = v.f <;> simp [h]
theorem layR_eq (v : Vt) : ∀ (l out : List Vt), layR v l false out = out ++ lay l v
  | [], out => by simp [layR, lay]
  | x :: r, out => by
    by_cases h : v.f ≤ x.f
    · have h' : ¬ x.f < v.f := by omega
      simp only [layR, Bool.false_or, h, decide_true, layR_done, true_and, if_true]
      have e : lay (x :: r) v = v :: (x :: r).filter (fun x => decide (x.f ≠ v.f)) := by
        unfold lay; rw [List.takeWhile_cons_of_neg (by simp; omega), List.dropWhile_cons_of_neg (by simp; omega)]; simp
      rw [e]
      by_cases h2 : x.f = v.f <;> simp [h2]
    · have h' : x.f < v.f := by omega
      have h3 : x.f ≠ v.f := by omega
      simp only [layR, Bool.false_or, h, decide_false, false_and, if_false, layR_eq v r]
      have e : lay (x :: r) v = x :: lay r v := by
        unfold lay; rw [List.takeWhile_cons_of_pos (by simpa using h'), List.dropWhile_cons_of_pos (by simpa using h')]; simp
      rw [e]; simp [h3]
theorem layR_len (v : Vt) : ∀ (l : List Vt) (d : Bool) (out : List Vt), (layR v l d out).length ≤ out.length + l.length + 1
  | [], d, out => by simp only [layR]; split <;> simp
  | x :: r, d, out => by
    cases d with
    | true => rw [layR_done]; have := List.length_filter_le (fun x => decide (x.f ≠ v.f)) (x :: r); simp at this ⊢; omega
    | false =>
      simp only [layR, Bool.false_or]
      by_cases h : v.f ≤ x.f
      · simp only [h, decide_true, layR_done, true_and, if_true]
        have := List.length_filter_le (fun x => decide (x.f ≠ v.f)) r
        split <;> simp <;> simp at this <;> omega
      · simp only [h, decide_false, false_and, if_false]
        have := layR_len v r false (out ++ if x.f ≠ v.f then [x] else [])
        split at this <;> split <;> simp_all <;> omega
end Go.Proofs.Ytefhcofecdecgaa
