/- The law ElectPlays. -/
import Derived.Test.YtdacplfmpjhjhaaEBx
import Derived.Test.YtdacplfmpjhjhaaECz
import Derived.Test.YtdacplfmpjhjhaaED
import Derived.Test.YtdacplfmpjhjhaaAwk2
namespace Go.Proofs.Ytdacplfmpjhjhaa
set_option linter.unusedSimpArgs false
set_option linter.unusedVariables false
open Go Go.Av
attribute [local simp] Try.T1 Try.T2 Try.T3 Try.T4 Try.T5 Try.T9 Try.T12 Try.T21 Try.T22 Try.T24 Try.T26 Try.T27 Try.T28 Try.T29 Try.T30 Try.T31 Try.T32 Try.T33 Try.T34 Try.T36 Try.T37 Try.T38 Try.T39 Try.T40 Try.T41 Try.T42 Try.T43 Try.T45 Try.T46 Try.T47 Try.T49 Try.T51 Try.T52 Try.T53 Try.T54 Try.T55 Try.T56 Try.T57 Try.T58 Try.T59 Try.T60 Try.T61 Try.T63 Try.T65 Try.T66 Try.T67 Try.T68 Try.T69 Try.T70 Try.T71 Try.T72 Try.T73 Try.T75 Try.T76 Try.T77 Try.T78 Try.T79 Try.T80 Try.T82 Try.T83 Try.T84 Try.T85 Try.T86 Try.T87 Try.T88 Try.T89 Try.T91 Try.T92 Try.T93 Try.T94 Try.T95 Try.T96 Try.T97 Try.T98 Try.T99 Try.T100 Try.T101 Try.T102 Try.T103 Try.T104 Try.T106 Try.T107 Try.T108 Try.T109 Try.T110 Try.T111 Try.T112 Try.T114 Try.T115 Try.T116 Try.T118 Try.T119 Try.T121 Try.T122 Try.T124 Try.T125 Try.T127 Try.T128 Try.T130 Try.T132 Try.T133 Try.T135 Try.T136 Try.T137 Try.T139 Try.T141 Try.T142 Try.T143 Try.T145 Try.T147 Try.T149 Try.T150 Try.T152 Try.T154 Try.T155 Try.T156 Try.T157 Try.T158 Try.T159 Try.T160 Try.T161 Try.T162 Try.T163 Try.T164 Try.T165 Try.T166 Try.T167 Try.T168 Try.T170 Try.T172 Try.T173 Try.T174 Try.T175 Try.T176 Try.T177 Try.T178 Try.T179 Try.T180 Try.T181 Try.T182 Try.T183 Try.T184 Try.T185 Try.T186 Try.T187 Try.T188 Try.T190 Try.T191 Try.T192 Try.T193 Try.T194 Try.T195 Try.T196 Try.T198 Try.T199 Try.T200 Try.T202 Try.T203 Try.T204 Try.T205 Try.T206 Try.T207 Try.T208 Try.T209 Try.T210 Try.T211 Try.T212 Try.T218 Try.T219 Try.T222
attribute [local irreducible] Go.Av.CallK Go.Av.CallE Go.Av.CallQ Go.Av.CallF Go.Av.Con

set_option maxHeartbeats 8000000 in
theorem electPlays_con (v : Vt) (l : List Vt) (c : Cf) : ACon Try.prog 6 [.p (.agg v.cells), .p (.sl 7 (vts l)), .p (.agg c.cells)] (.p (B true)) := by
  have hz : vts [] = [] := rfl
  have f1 := far18_con zseek l c
  have hfar : far zseek l c = decide (100 < l.length ∨ 50 < c.ms.length) := by simp [far, zseek]
  rw [hfar] at f1
  have hb := begin_con v.f v.r v.e v.le v.ln
  have hb18 := begin18_con v.f v.r v.e v.le v.ln
  have hseek : seek0 ⟨v.f, v.r, v.e, v.le, v.ln, 0, 0⟩ = seek0 v := rfl
  rw [hseek] at hb hb18
  have hvs := fun h => voters04_con c h
  have hid := ids_len c.ms 1
  generalize hV : ids c.ms 1 = V at hvs hid
  have hq := fun k hk => (inv_play V v l k hk).2.1
  have hq1 := fun k hk => (inv_play V v l k hk).1
  have hd := fun k => play_hd V v l k
  have hs := fun k hk => play_snoc V (seek0 v) l k hk
  have hp0 : play V (seek0 v) (l.take 0) = seek0 v := rfl
  generalize seek0 v = s0 at hb hb18 hq hq1 hd hs hp0
  obtain ⟨v0, v1, v2, v3, v4, v5, v6⟩ := v
  have hw1 := fun s h1 h2 => winner_con s c h1 h2
  have hw2 := fun s h1 h2 => winner18_con s c h1 h2
  obtain ⟨ep, cn, ck, ms⟩ := c
  simp only [Sk.cells, Cf.cells, Vt.cells, zseek, hz] at f1 hb hb18 hvs hid hw1 hw2 hq hq1 ⊢
  by_cases hf : 100 < l.length ∨ 50 < ms.length
  · rw [decide_eq_true hf] at f1
    refine wBody Try.tab Try.mixed Try.func6 rfl rfl Try.ntmps6 (by simp) (by simp) fun Q hr hn => ?_
    repeat' first | (refine hK _ ?_; clear hK) | (refine hK _ _ ?_; clear hK) | (clear hK; refine hK _ ?_; clear hK) | (clear hK; clear hK; refine hK _ ?_; clear hK) | (clear hK; clear hK; clear hK; refine hK _ ?_; clear hK) | (clear hK; clear hK; clear hK; clear hK; refine hK _ ?_; clear hK) | (refine wSeq fun K hK => ?_) | (refine wReg ?_; simp only [List.map_cons, List.map_nil, strip]) | (refine wDrwQ rfl (by kernel_rfl) ?_; simp only [List.map_cons, List.map_nil, strip]) | (refine wDrwI ?_; simp only [List.map_cons, List.map_nil, strip]) | (refine wDrw (by kernel_rfl) ?_; simp only [List.map_cons, List.map_nil, strip]) | (refine wIs fun K hK => ?_; simp) | (refine wIn ?_; refine And.intro (by kernel_rfl) ?_; try simp only [thenA_n]) | (refine wOs fun K hK => ?_; simp) | (refine wQs fun K hK => ?_; simp) | (refine CallK_plain ?_; simp) | (refine CallQ_plain ?_; simp) | (refine wRet ?_; try simp) | (refine wCond ?_; simp) | (refine wBlock ?_) | (refine wScope ?_) | (refine wExit ?_; try simp) | (refine wSkip ?_; try simp) | (refine wOn ?_; try simp only [thenA_n]) | (refine wQn ?_; try simp only [thenA_n]) | (refine CallE.pure (f1) rfl ?_) | (refine CallE.lent (f1) rfl ?_) | (refine CallF.pure (f1) rfl ?_) | (refine CallF.lent (f1) rfl ?_) | (refine CallE.own (f1) ?_) | (refine CallE.pure (awake18) rfl ?_) | (refine CallE.lent (awake18) rfl ?_) | (refine CallF.pure (awake18) rfl ?_) | (refine CallF.lent (awake18) rfl ?_) | (refine CallE.own (awake18) ?_)
    all_goals apply hr
    all_goals simp [Try.f6]
  rw [decide_eq_false hf] at f1
  replace hvs := hvs (by omega)
  refine wBody Try.tab Try.mixed Try.func6 rfl rfl Try.ntmps6 (by simp) (by simp) fun Q hr hn => ?_
  repeat' first | (refine hK _ ?_; clear hK) | (refine hK _ _ ?_; clear hK) | (clear hK; refine hK _ ?_; clear hK) | (clear hK; clear hK; refine hK _ ?_; clear hK) | (clear hK; clear hK; clear hK; refine hK _ ?_; clear hK) | (clear hK; clear hK; clear hK; clear hK; refine hK _ ?_; clear hK) | (refine wSeq fun K hK => ?_) | (refine wReg ?_; simp only [List.map_cons, List.map_nil, strip]) | (refine wDrwQ rfl (by kernel_rfl) ?_; simp only [List.map_cons, List.map_nil, strip]) | (refine wDrwI ?_; simp only [List.map_cons, List.map_nil, strip]) | (refine wDrw (by kernel_rfl) ?_; simp only [List.map_cons, List.map_nil, strip]) | (refine wIs fun K hK => ?_; simp) | (refine wIn ?_; refine And.intro (by kernel_rfl) ?_; try simp only [thenA_n]) | (refine wOs fun K hK => ?_; simp) | (refine wQs fun K hK => ?_; simp) | (refine CallK_plain ?_; simp) | (refine CallQ_plain ?_; simp) | (refine wRet ?_; try simp) | (refine wCond ?_; simp) | (refine wBlock ?_) | (refine wScope ?_) | (refine wExit ?_; try simp) | (refine wSkip ?_; try simp) | (refine wOn ?_; try simp only [thenA_n]) | (refine wQn ?_; try simp only [thenA_n]) | (refine CallE.pure (f1) rfl ?_) | (refine CallE.lent (f1) rfl ?_) | (refine CallF.pure (f1) rfl ?_) | (refine CallF.lent (f1) rfl ?_) | (refine CallE.own (f1) ?_) | (refine CallE.pure (hb) rfl ?_) | (refine CallE.lent (hb) rfl ?_) | (refine CallF.pure (hb) rfl ?_) | (refine CallF.lent (hb) rfl ?_) | (refine CallE.own (hb) ?_) | (refine CallE.pure (hb18) rfl ?_) | (refine CallE.lent (hb18) rfl ?_) | (refine CallF.pure (hb18) rfl ?_) | (refine CallF.lent (hb18) rfl ?_) | (refine CallE.own (hb18) ?_)
  refine wLoop (fun N st => ∃ k, k + N = l.length ∧ ∃ s, s = play V s0 (l.take k) ∧ st.s 5 = .ptr 5 0 ∧ st.s 7 = .ptr 7 0 ∧ st.s 8 = .ptr 8 0 ∧
    st.b 5 = some (.box 36 [.p (I ep), .p (I cn), .p (I ck), .p (.sl 4 (mbs ms))]) ∧
    st.b 7 = some (.box 45 [.p (I s.id), .p (I s.rd), .p (I s.own.f), .p (I s.own.r), .p (I s.own.e), .p (I s.own.le), .p (I s.own.ln), .p (I s.own.c), .p (I s.own.m), .p (I s.now.f), .p (I s.now.r), .p (I s.now.e), .p (I s.now.le), .p (I s.now.ln), .p (I s.now.c), .p (I s.now.m), .p (.sl 7 (vts s.hd))]) ∧
    st.b 8 = some (.box 45 [.p (I s.id), .p (I s.rd), .p (I s.own.f), .p (I s.own.r), .p (I s.own.e), .p (I s.own.le), .p (I s.own.ln), .p (I s.own.c), .p (I s.own.m), .p (I s.now.f), .p (I s.now.r), .p (I s.now.e), .p (I s.now.le), .p (I s.now.ln), .p (I s.now.c), .p (I s.now.m), .p (.sl 7 (vts s.hd))]) ∧
    st.s 40 = .p (.sl 7 (vts l)) ∧ st.s 41 = .p (I l.length) ∧ st.s 42 = .p (I k)) l.length ⟨0, by simp, s0, hp0.symm, by simp⟩ fun K N st hL ⟨k, hk, s, es, g5, g7, g8, b5, b7, b8, g40, g41, g42⟩ => ?_
  have hdk := hd k
  rw [← es] at hdk
  have sm := same18s_con s (by omega)
  simp only [Sk.cells] at sm
  by_cases hlt : k < l.length
  · have hw := wrapS k _ hlt (by omega)
    have hqk := hq k (by omega)
    have hqk1 := hq1 k (by omega)
    rw [← es] at hqk hqk1
    have c1 := hear_con s V V l[k] (by omega)
    have c2 := hear18_con s V V l[k] (by omega) (by rw [hqk, hqk1]; exact ⟨rfl, rfl⟩)
    have hsk := hs k hlt
    rw [← es] at hsk
    replace hw1 := hw1 s (by omega) (by omega)
    replace hw2 := hw2 s (by omega) (by omega)
    generalize allQ [⟨ep, cn, ck, ms⟩] (backs s.hd s.now) = w at hw1 hw2
    generalize (if w = true then s.now.c else 0) = wc at hw1 hw2
    generalize (hear s V V l[k]).1 = s' at c1 c2 hsk
    generalize (hear s V V l[k]).2 = m at c1 c2
    simp only [Sk.cells, Vt.cells] at c1 c2
    clear hq hq1 hd hs hb hb18 f1 hqk hqk1
    repeat' first | (refine hK _ ?_; clear hK) | (refine hK _ _ ?_; clear hK) | (clear hK; refine hK _ ?_; clear hK) | (clear hK; clear hK; refine hK _ ?_; clear hK) | (clear hK; clear hK; clear hK; refine hK _ ?_; clear hK) | (clear hK; clear hK; clear hK; clear hK; refine hK _ ?_; clear hK) | (refine wSeq fun K hK => ?_) | (refine wReg ?_; simp only [List.map_cons, List.map_nil, strip]) | (refine wDrwQ rfl (by kernel_rfl) ?_; simp only [List.map_cons, List.map_nil, strip]) | (refine wDrwI ?_; simp only [List.map_cons, List.map_nil, strip]) | (refine wDrw (by kernel_rfl) ?_; simp only [List.map_cons, List.map_nil, strip]) | (refine wIs fun K hK => ?_; simp [g5, g7, g8, b5, b7, b8, g40, g41, g42, hlt, hw]) | (refine wIn ?_; refine And.intro (by kernel_rfl) ?_; try simp only [thenA_n]) | (refine wOs fun K hK => ?_; simp [g5, g7, g8, b5, b7, b8, g40, g41, g42, hlt, hw]) | (refine wQs fun K hK => ?_; simp [g5, g7, g8, b5, b7, b8, g40, g41, g42, hlt, hw]) | (refine CallK_plain ?_; simp [g5, g7, g8, b5, b7, b8, g40, g41, g42, hlt, hw]) | (refine CallQ_plain ?_; simp [g5, g7, g8, b5, b7, b8, g40, g41, g42, hlt, hw]) | (refine wRet ?_; try simp) | (refine wCond ?_; simp [g5, g7, g8, b5, b7, b8, g40, g41, g42, hlt, hw]) | (refine wBlock ?_) | (refine wScope ?_) | (refine wExit ?_; try simp) | (refine wSkip ?_; try simp) | (refine wOn ?_; try simp only [thenA_n]) | (refine wQn ?_; try simp only [thenA_n]) | (refine CallE.pure (sm) rfl ?_) | (refine CallE.lent (sm) rfl ?_) | (refine CallF.pure (sm) rfl ?_) | (refine CallF.lent (sm) rfl ?_) | (refine CallE.own (sm) ?_) | (refine CallE.pure (hw1) rfl ?_) | (refine CallE.lent (hw1) rfl ?_) | (refine CallF.pure (hw1) rfl ?_) | (refine CallF.lent (hw1) rfl ?_) | (refine CallE.own (hw1) ?_) | (refine CallE.pure (hw2) rfl ?_) | (refine CallE.lent (hw2) rfl ?_) | (refine CallF.pure (hw2) rfl ?_) | (refine CallF.lent (hw2) rfl ?_) | (refine CallE.own (hw2) ?_) | (refine CallE.pure (hvs) rfl ?_) | (refine CallE.lent (hvs) rfl ?_) | (refine CallF.pure (hvs) rfl ?_) | (refine CallF.lent (hvs) rfl ?_) | (refine CallE.own (hvs) ?_) | (refine CallE.pure (c1) rfl ?_) | (refine CallE.lent (c1) rfl ?_) | (refine CallF.pure (c1) rfl ?_) | (refine CallF.lent (c1) rfl ?_) | (refine CallE.own (c1) ?_) | (refine CallE.pure (c2) rfl ?_) | (refine CallE.lent (c2) rfl ?_) | (refine CallF.pure (c2) rfl ?_) | (refine CallF.lent (c2) rfl ?_) | (refine CallE.own (c2) ?_)
    refine hL _ (N - 1) (by omega) ⟨k + 1, by omega, s', hsk.symm, ?_⟩
    simp [g5, g7, g8, b5, b7, b8, g40, g41, g42, hw]
  · repeat' first | (refine hK _ ?_; clear hK) | (refine hK _ _ ?_; clear hK) | (clear hK; refine hK _ ?_; clear hK) | (clear hK; clear hK; refine hK _ ?_; clear hK) | (clear hK; clear hK; clear hK; refine hK _ ?_; clear hK) | (clear hK; clear hK; clear hK; clear hK; refine hK _ ?_; clear hK) | (refine wSeq fun K hK => ?_) | (refine wReg ?_; simp only [List.map_cons, List.map_nil, strip]) | (refine wDrwQ rfl (by kernel_rfl) ?_; simp only [List.map_cons, List.map_nil, strip]) | (refine wDrwI ?_; simp only [List.map_cons, List.map_nil, strip]) | (refine wDrw (by kernel_rfl) ?_; simp only [List.map_cons, List.map_nil, strip]) | (refine wIs fun K hK => ?_; simp [g5, g7, g8, b5, b7, b8, g40, g41, g42, hlt]) | (refine wIn ?_; refine And.intro (by kernel_rfl) ?_; try simp only [thenA_n]) | (refine wOs fun K hK => ?_; simp [g5, g7, g8, b5, b7, b8, g40, g41, g42, hlt]) | (refine wQs fun K hK => ?_; simp [g5, g7, g8, b5, b7, b8, g40, g41, g42, hlt]) | (refine CallK_plain ?_; simp [g5, g7, g8, b5, b7, b8, g40, g41, g42, hlt]) | (refine CallQ_plain ?_; simp [g5, g7, g8, b5, b7, b8, g40, g41, g42, hlt]) | (refine wRet ?_; try simp) | (refine wCond ?_; simp [g5, g7, g8, b5, b7, b8, g40, g41, g42, hlt]) | (refine wBlock ?_) | (refine wScope ?_) | (refine wExit ?_; try simp) | (refine wSkip ?_; try simp) | (refine wOn ?_; try simp only [thenA_n]) | (refine wQn ?_; try simp only [thenA_n]) | (refine CallE.pure (sm) rfl ?_) | (refine CallE.lent (sm) rfl ?_) | (refine CallF.pure (sm) rfl ?_) | (refine CallF.lent (sm) rfl ?_) | (refine CallE.own (sm) ?_) | (refine CallE.pure (awake18) rfl ?_) | (refine CallE.lent (awake18) rfl ?_) | (refine CallF.pure (awake18) rfl ?_) | (refine CallF.lent (awake18) rfl ?_) | (refine CallE.own (awake18) ?_)
    all_goals apply hr
    all_goals simp [Try.f6]
end Go.Proofs.Ytdacplfmpjhjhaa
