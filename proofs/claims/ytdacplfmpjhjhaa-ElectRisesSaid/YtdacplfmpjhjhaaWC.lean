/- Who backs a vote, whether that is enough; the law VoteWins. -/
import Derived.Test.YtdacplfmpjhjhaaWB
import Derived.Test.YtdacplfmpjhjhaaQG
namespace Go.Proofs.Ytdacplfmpjhjhaa
set_option linter.unusedSimpArgs false
set_option linter.unusedVariables false
open Go Go.Av
attribute [local simp] Try.T1 Try.T2 Try.T3 Try.T4 Try.T5 Try.T9 Try.T12 Try.T21 Try.T22 Try.T24 Try.T26 Try.T27 Try.T28 Try.T29 Try.T30 Try.T31 Try.T32 Try.T33 Try.T34 Try.T36 Try.T37 Try.T38 Try.T39 Try.T40 Try.T41 Try.T42 Try.T43 Try.T45 Try.T46 Try.T47 Try.T49 Try.T51 Try.T52 Try.T53 Try.T54 Try.T55 Try.T56 Try.T57 Try.T58 Try.T59 Try.T60 Try.T61 Try.T63 Try.T65 Try.T66 Try.T67 Try.T68 Try.T69 Try.T70 Try.T71 Try.T72 Try.T73 Try.T75 Try.T76 Try.T77 Try.T78 Try.T79 Try.T80 Try.T82 Try.T83 Try.T84 Try.T85 Try.T86 Try.T87 Try.T88 Try.T89 Try.T91 Try.T92 Try.T93 Try.T94 Try.T95 Try.T96 Try.T97 Try.T98 Try.T99 Try.T100 Try.T101 Try.T102 Try.T103 Try.T104 Try.T106 Try.T107 Try.T108 Try.T109 Try.T110 Try.T111 Try.T112 Try.T114 Try.T115 Try.T116 Try.T118 Try.T119 Try.T121 Try.T122 Try.T124 Try.T125 Try.T127 Try.T128 Try.T130 Try.T132 Try.T133 Try.T135 Try.T136 Try.T137 Try.T139 Try.T141 Try.T142 Try.T143 Try.T145 Try.T147 Try.T149 Try.T150 Try.T152 Try.T154 Try.T155 Try.T156 Try.T157 Try.T158 Try.T159 Try.T160 Try.T161 Try.T162 Try.T163 Try.T164 Try.T165 Try.T166 Try.T167 Try.T168 Try.T170 Try.T172 Try.T173 Try.T174 Try.T175 Try.T176 Try.T177 Try.T178 Try.T179 Try.T180 Try.T181 Try.T182 Try.T183 Try.T184 Try.T185 Try.T186 Try.T187 Try.T188 Try.T190 Try.T191 Try.T192 Try.T193 Try.T194 Try.T195 Try.T196 Try.T198 Try.T199 Try.T200 Try.T202 Try.T203 Try.T204 Try.T205 Try.T206 Try.T207 Try.T208 Try.T209 Try.T210 Try.T211 Try.T212 Try.T218 Try.T219 Try.T222
attribute [local irreducible] Go.Av.CallK Go.Av.CallE Go.Av.CallQ Go.Av.CallF Go.Av.Con

def backs (l : List Vt) (v : Vt) : List Int := (kept (fun x => cause x v) l).map Vt.f
theorem backs_con (l : List Vt) (v : Vt) (hl : l.length ≤ 1000000) : ACon Try.prog 20 [.p (.sl 7 (vts l)), .p (.agg v.cells)] (.p (.sl 1 (ints (backs l v)))) := by
  have hs := sifted_con l 68 v (fun x => cause x v) hl (fun x => backs1_con x v)
  have hkl := kept_len (fun x => cause x v) l
  unfold backs
  generalize kept (fun x => cause x v) l = ks at hs hkl ⊢
  obtain ⟨v0, v1, v2, v3, v4, v5, v6⟩ := v
  simp only [Vt.cells, List.map_cons, List.map_nil] at hs ⊢
  refine wBody Try.tab Try.mixed Try.func20 rfl rfl Try.ntmps20 (by simp) (by simp) fun Q hr hn => ?_
  repeat' first | (refine CallK_gen [3] hs (by decide) (by decide) (by simp [blksOf, inN, pos, renB, ren0]) (by simp [argsG, argG, ren0, inN, pos, renCs, renC]) ⟨[10], by simp, by simp, ?_⟩; simp [lv, ouN, kpI, kpR, pos, ren, ren0, renB, renC, renCs]) | (refine hK _ ?_; clear hK) | (clear hK; refine hK _ ?_; clear hK) | (clear hK; clear hK; refine hK _ ?_; clear hK) | (clear hK; clear hK; clear hK; refine hK _ ?_; clear hK) | (clear hK; clear hK; clear hK; clear hK; refine hK _ ?_; clear hK) | (refine wSeq fun K hK => ?_) | (refine wReg ?_; simp only [List.map_cons, List.map_nil, strip]) | (refine wDrw (by kernel_rfl) ?_; simp only [List.map_cons, List.map_nil, strip]) | (refine wOs fun K hK => ?_; simp) | (refine wQs fun K hK => ?_; simp) | (refine CallK_plain ?_; simp) | (refine CallQ_plain ?_; simp) | (refine wRet ?_; try simp) | (refine wCond ?_; simp) | (refine wBlock ?_) | (refine wScope ?_) | (refine wExit ?_; try simp) | (refine wSkip ?_; try simp) | (refine wOn ?_; try simp only [thenA_n]) | (refine wQn ?_; try simp only [thenA_n])
  refine wLoopG [.row 5 3 1] (fun N st => ∃ k, k + N = ks.length ∧ st.s 5 = .row 5 ∧ st.s 10 = .row 10 ∧ st.s 11 = .p (I ks.length) ∧ st.s 12 = .p (I k) ∧ st.b 10 = some (.row 26 7 (vts ks)) ∧
    st.b 5 = some (.row 3 1 (ints ((ks.take k).map Vt.f)))) ks.length ⟨0, by simp [lv, ouN, kpI, kpR, pos, ren, ren0, renB, renC, renCs, ints]⟩ fun K N st hL ⟨k, hk, g5, g10, g11, g12, b10, b5⟩ => ?_
  by_cases hlt : k < ks.length
  · have hw := wrapS k _ hlt (by omega)
    have hln : ((ks.take k).map Vt.f).length ≤ k := by simp; omega
    repeat' first | (refine And.intro (by omega) ?_) | (refine hK _ ?_; clear hK) | (clear hK; refine hK _ ?_; clear hK) | (clear hK; clear hK; refine hK _ ?_; clear hK) | (clear hK; clear hK; clear hK; refine hK _ ?_; clear hK) | (clear hK; clear hK; clear hK; clear hK; refine hK _ ?_; clear hK) | (refine wSeq fun K hK => ?_) | (refine wReg ?_; simp only [List.map_cons, List.map_nil, strip]) | (refine wDrw (by kernel_rfl) ?_; simp only [List.map_cons, List.map_nil, strip]) | (refine wOs fun K hK => ?_; simp [g5, g10, g11, g12, b10, b5, hlt, hw]) | (refine wQs fun K hK => ?_; simp [g5, g10, g11, g12, b10, b5, hlt, hw]) | (refine CallK_plain ?_; simp [g5, g10, g11, g12, b10, b5, hlt, hw]) | (refine CallQ_plain ?_; simp [g5, g10, g11, g12, b10, b5, hlt, hw]) | (refine wRet ?_; try simp) | (refine wCond ?_; simp [g5, g10, g11, g12, b10, b5, hlt, hw]) | (refine wBlock ?_) | (refine wScope ?_) | (refine wExit ?_; try simp) | (refine wSkip ?_; try simp) | (refine wOn ?_; try simp only [thenA_n]) | (refine wQn ?_; try simp only [thenA_n])
    refine hL _ (N - 1) (by omega) ⟨k + 1, by omega, ?_⟩
    simp [g5, g10, g11, g12, b10, b5, hw]
    rw [← List.map_take, ints_snoc, List.map_take, take_snoc (ks.map Vt.f) k (by simpa using hlt), List.getElem_map]
  · rw [List.take_of_length_le (by omega)] at b5
    repeat' first | (refine hK _ ?_; clear hK) | (clear hK; refine hK _ ?_; clear hK) | (clear hK; clear hK; refine hK _ ?_; clear hK) | (clear hK; clear hK; clear hK; refine hK _ ?_; clear hK) | (clear hK; clear hK; clear hK; clear hK; refine hK _ ?_; clear hK) | (refine wSeq fun K hK => ?_) | (refine wReg ?_; simp only [List.map_cons, List.map_nil, strip]) | (refine wDrw (by kernel_rfl) ?_; simp only [List.map_cons, List.map_nil, strip]) | (refine wOs fun K hK => ?_; simp [g5, g10, g11, g12, b10, b5, hlt]) | (refine wQs fun K hK => ?_; simp [g5, g10, g11, g12, b10, b5, hlt]) | (refine CallK_plain ?_; simp [g5, g10, g11, g12, b10, b5, hlt]) | (refine CallQ_plain ?_; simp [g5, g10, g11, g12, b10, b5, hlt]) | (refine wRet ?_; try simp) | (refine wCond ?_; simp [g5, g10, g11, g12, b10, b5, hlt]) | (refine wBlock ?_) | (refine wScope ?_) | (refine wExit ?_; try simp) | (refine wSkip ?_; try simp) | (refine wOn ?_; try simp only [thenA_n]) | (refine wQn ?_; try simp only [thenA_n])
    apply hr
    simp [Try.f20, g5, b5]

theorem backs_snoc (l : List Vt) (v : Vt) (k : Nat) (h : k < l.length) : backs (l.take (k + 1)) v = if cause l[k] v = true then backs (l.take k) v ++ [l[k].f] else backs (l.take k) v := by
  unfold backs
  rw [kept_snoc _ l k h]
  by_cases g : cause l[k] v = true
  · rw [if_pos g, if_pos g, List.map_append]; rfl
  · rw [if_neg g, if_neg g]
theorem backs_len (l : List Vt) (v : Vt) : (backs l v).length ≤ l.length := by unfold backs; rw [List.length_map]; exact kept_len _ _
set_option maxHeartbeats 2000000 in
theorem backs17_con (l : List Vt) (v : Vt) (hl : l.length ≤ 1000000) : ACon Try.prog 21 [.p (.sl 7 (vts l)), .p (.agg v.cells)] (.p (.sl 1 (ints (backs l v)))) := by
  have hsn := fun k h => backs_snoc l v k h
  have hln0 := fun k => backs_len (l.take k) v
  have hfin : l.take l.length = l := List.take_of_length_le (by omega)
  obtain ⟨v0, v1, v2, v3, v4, v5, v6⟩ := v
  simp only [Vt.cells] at ⊢
  refine wBody Try.tab Try.mixed Try.func21 rfl rfl Try.ntmps21 (by simp) (by simp) fun Q hr hn => ?_
  repeat' first | (refine hK _ ?_; clear hK) | (clear hK; refine hK _ ?_; clear hK) | (clear hK; clear hK; refine hK _ ?_; clear hK) | (clear hK; clear hK; clear hK; refine hK _ ?_; clear hK) | (clear hK; clear hK; clear hK; clear hK; refine hK _ ?_; clear hK) | (refine wSeq fun K hK => ?_) | (refine wReg ?_; simp only [List.map_cons, List.map_nil, strip]) | (refine wDrw (by kernel_rfl) ?_; simp only [List.map_cons, List.map_nil, strip]) | (refine wOs fun K hK => ?_; simp) | (refine wQs fun K hK => ?_; simp) | (refine CallK_plain ?_; simp) | (refine CallQ_plain ?_; simp) | (refine wRet ?_; try simp) | (refine wCond ?_; simp) | (refine wBlock ?_) | (refine wScope ?_) | (refine wExit ?_; try simp) | (refine wSkip ?_; try simp) | (refine wOn ?_; try simp only [thenA_n]) | (refine wQn ?_; try simp only [thenA_n])
  refine wLoopG [.row 5 3 1] (fun N st => ∃ k, k + N = l.length ∧ st.s 3 = .ptr 3 0 ∧ st.b 3 = some (.box 26 [.p (I v0), .p (I v1), .p (I v2), .p (I v3), .p (I v4), .p (I v5), .p (I v6)]) ∧ st.s 5 = .row 5 ∧ st.s 8 = .p (.sl 7 (vts l)) ∧ st.s 9 = .p (I l.length) ∧ st.s 10 = .p (I k) ∧
    st.b 5 = some (.row 3 1 (ints (backs (l.take k) ⟨v0, v1, v2, v3, v4, v5, v6⟩)))) l.length ⟨0, by simp [backs, kept, ints]⟩ fun K N st hL ⟨k, hk, g3, b3, g5, g8, g9, g10, b5⟩ => ?_
  by_cases hlt : k < l.length
  · have hw := wrapS k _ hlt (by omega)
    have hln : (backs (l.take k) ⟨v0, v1, v2, v3, v4, v5, v6⟩).length ≤ k := Nat.le_trans (hln0 k) (by simp; omega)
    have hsk := hsn k hlt
    simp only [cause] at hsk
    by_cases o1 : l[k].r = v1
    · by_cases o2 : l[k].e = v2
      · by_cases o3 : l[k].le = v3 ∧ l[k].ln = v4
        · by_cases o4 : l[k].c = v5
          · replace hsk := hsk.trans (if_pos (decide_eq_true ⟨o1, o2, o3.1, o3.2, o4⟩))
            repeat' first | (refine And.intro (by omega) ?_) | (refine hK _ ?_; clear hK) | (clear hK; refine hK _ ?_; clear hK) | (clear hK; clear hK; refine hK _ ?_; clear hK) | (clear hK; clear hK; clear hK; refine hK _ ?_; clear hK) | (clear hK; clear hK; clear hK; clear hK; refine hK _ ?_; clear hK) | (refine wSeq fun K hK => ?_) | (refine wReg ?_; simp only [List.map_cons, List.map_nil, strip]) | (refine wDrw (by kernel_rfl) ?_; simp only [List.map_cons, List.map_nil, strip]) | (refine wOs fun K hK => ?_; simp [g3, b3, g5, g8, g9, g10, b5, hlt, hw, o1, o2, o3, o4]) | (refine wQs fun K hK => ?_; simp [g3, b3, g5, g8, g9, g10, b5, hlt, hw, o1, o2, o3, o4]) | (refine CallK_plain ?_; simp [g3, b3, g5, g8, g9, g10, b5, hlt, hw, o1, o2, o3, o4]) | (refine CallQ_plain ?_; simp [g3, b3, g5, g8, g9, g10, b5, hlt, hw, o1, o2, o3, o4]) | (refine wRet ?_; try simp) | (refine wCond ?_; simp [g3, b3, g5, g8, g9, g10, b5, hlt, hw, o1, o2, o3, o4]) | (refine wBlock ?_) | (refine wScope ?_) | (refine wExit ?_; try simp) | (refine wSkip ?_; try simp) | (refine wOn ?_; try simp only [thenA_n]) | (refine wQn ?_; try simp only [thenA_n])
            refine hL _ (N - 1) (by omega) ⟨k + 1, by omega, ?_⟩
            simp [g3, b3, g5, g8, g9, g10, b5, hw]
            rw [ints_snoc, hsk]
          · replace hsk := hsk.trans (if_neg (fun h => o4 (of_decide_eq_true h).2.2.2.2))
            repeat' first | (refine hK _ ?_; clear hK) | (clear hK; refine hK _ ?_; clear hK) | (clear hK; clear hK; refine hK _ ?_; clear hK) | (clear hK; clear hK; clear hK; refine hK _ ?_; clear hK) | (clear hK; clear hK; clear hK; clear hK; refine hK _ ?_; clear hK) | (refine wSeq fun K hK => ?_) | (refine wReg ?_; simp only [List.map_cons, List.map_nil, strip]) | (refine wDrw (by kernel_rfl) ?_; simp only [List.map_cons, List.map_nil, strip]) | (refine wOs fun K hK => ?_; simp [g3, b3, g5, g8, g9, g10, b5, hlt, hw, o1, o2, o3, o4]) | (refine wQs fun K hK => ?_; simp [g3, b3, g5, g8, g9, g10, b5, hlt, hw, o1, o2, o3, o4]) | (refine CallK_plain ?_; simp [g3, b3, g5, g8, g9, g10, b5, hlt, hw, o1, o2, o3, o4]) | (refine CallQ_plain ?_; simp [g3, b3, g5, g8, g9, g10, b5, hlt, hw, o1, o2, o3, o4]) | (refine wRet ?_; try simp) | (refine wCond ?_; simp [g3, b3, g5, g8, g9, g10, b5, hlt, hw, o1, o2, o3, o4]) | (refine wBlock ?_) | (refine wScope ?_) | (refine wExit ?_; try simp) | (refine wSkip ?_; try simp) | (refine wOn ?_; try simp only [thenA_n]) | (refine wQn ?_; try simp only [thenA_n])
            refine hL _ (N - 1) (by omega) ⟨k + 1, by omega, ?_⟩
            simp [g3, b3, g5, g8, g9, g10, b5, hw, hsk]
        · replace hsk := hsk.trans (if_neg (fun h => o3 ⟨(of_decide_eq_true h).2.2.1, (of_decide_eq_true h).2.2.2.1⟩))
          repeat' first | (refine hK _ ?_; clear hK) | (clear hK; refine hK _ ?_; clear hK) | (clear hK; clear hK; refine hK _ ?_; clear hK) | (clear hK; clear hK; clear hK; refine hK _ ?_; clear hK) | (clear hK; clear hK; clear hK; clear hK; refine hK _ ?_; clear hK) | (refine wSeq fun K hK => ?_) | (refine wReg ?_; simp only [List.map_cons, List.map_nil, strip]) | (refine wDrw (by kernel_rfl) ?_; simp only [List.map_cons, List.map_nil, strip]) | (refine wOs fun K hK => ?_; simp [g3, b3, g5, g8, g9, g10, b5, hlt, hw, o1, o2, o3]) | (refine wQs fun K hK => ?_; simp [g3, b3, g5, g8, g9, g10, b5, hlt, hw, o1, o2, o3]) | (refine CallK_plain ?_; simp [g3, b3, g5, g8, g9, g10, b5, hlt, hw, o1, o2, o3]) | (refine CallQ_plain ?_; simp [g3, b3, g5, g8, g9, g10, b5, hlt, hw, o1, o2, o3]) | (refine wRet ?_; try simp) | (refine wCond ?_; simp [g3, b3, g5, g8, g9, g10, b5, hlt, hw, o1, o2, o3]) | (refine wBlock ?_) | (refine wScope ?_) | (refine wExit ?_; try simp) | (refine wSkip ?_; try simp) | (refine wOn ?_; try simp only [thenA_n]) | (refine wQn ?_; try simp only [thenA_n]) | (intro _)
          all_goals first | exact o3 | skip
          refine hL _ (N - 1) (by omega) ⟨k + 1, by omega, ?_⟩
          simp [g3, b3, g5, g8, g9, g10, b5, hw, hsk]
      · replace hsk := hsk.trans (if_neg (fun h => o2 (of_decide_eq_true h).2.1))
        repeat' first | (refine hK _ ?_; clear hK) | (clear hK; refine hK _ ?_; clear hK) | (clear hK; clear hK; refine hK _ ?_; clear hK) | (clear hK; clear hK; clear hK; refine hK _ ?_; clear hK) | (clear hK; clear hK; clear hK; clear hK; refine hK _ ?_; clear hK) | (refine wSeq fun K hK => ?_) | (refine wReg ?_; simp only [List.map_cons, List.map_nil, strip]) | (refine wDrw (by kernel_rfl) ?_; simp only [List.map_cons, List.map_nil, strip]) | (refine wOs fun K hK => ?_; simp [g3, b3, g5, g8, g9, g10, b5, hlt, hw, o1, o2]) | (refine wQs fun K hK => ?_; simp [g3, b3, g5, g8, g9, g10, b5, hlt, hw, o1, o2]) | (refine CallK_plain ?_; simp [g3, b3, g5, g8, g9, g10, b5, hlt, hw, o1, o2]) | (refine CallQ_plain ?_; simp [g3, b3, g5, g8, g9, g10, b5, hlt, hw, o1, o2]) | (refine wRet ?_; try simp) | (refine wCond ?_; simp [g3, b3, g5, g8, g9, g10, b5, hlt, hw, o1, o2]) | (refine wBlock ?_) | (refine wScope ?_) | (refine wExit ?_; try simp) | (refine wSkip ?_; try simp) | (refine wOn ?_; try simp only [thenA_n]) | (refine wQn ?_; try simp only [thenA_n])
        refine hL _ (N - 1) (by omega) ⟨k + 1, by omega, ?_⟩
        simp [g3, b3, g5, g8, g9, g10, b5, hw, hsk]
    · replace hsk := hsk.trans (if_neg (fun h => o1 (of_decide_eq_true h).1))
      repeat' first | (refine hK _ ?_; clear hK) | (clear hK; refine hK _ ?_; clear hK) | (clear hK; clear hK; refine hK _ ?_; clear hK) | (clear hK; clear hK; clear hK; refine hK _ ?_; clear hK) | (clear hK; clear hK; clear hK; clear hK; refine hK _ ?_; clear hK) | (refine wSeq fun K hK => ?_) | (refine wReg ?_; simp only [List.map_cons, List.map_nil, strip]) | (refine wDrw (by kernel_rfl) ?_; simp only [List.map_cons, List.map_nil, strip]) | (refine wOs fun K hK => ?_; simp [g3, b3, g5, g8, g9, g10, b5, hlt, hw, o1]) | (refine wQs fun K hK => ?_; simp [g3, b3, g5, g8, g9, g10, b5, hlt, hw, o1]) | (refine CallK_plain ?_; simp [g3, b3, g5, g8, g9, g10, b5, hlt, hw, o1]) | (refine CallQ_plain ?_; simp [g3, b3, g5, g8, g9, g10, b5, hlt, hw, o1]) | (refine wRet ?_; try simp) | (refine wCond ?_; simp [g3, b3, g5, g8, g9, g10, b5, hlt, hw, o1]) | (refine wBlock ?_) | (refine wScope ?_) | (refine wExit ?_; try simp) | (refine wSkip ?_; try simp) | (refine wOn ?_; try simp only [thenA_n]) | (refine wQn ?_; try simp only [thenA_n])
      refine hL _ (N - 1) (by omega) ⟨k + 1, by omega, ?_⟩
      simp [g3, b3, g5, g8, g9, g10, b5, hw, hsk]
  · rw [List.take_of_length_le (by omega)] at b5
    repeat' first | (refine hK _ ?_; clear hK) | (clear hK; refine hK _ ?_; clear hK) | (clear hK; clear hK; refine hK _ ?_; clear hK) | (clear hK; clear hK; clear hK; refine hK _ ?_; clear hK) | (clear hK; clear hK; clear hK; clear hK; refine hK _ ?_; clear hK) | (refine wSeq fun K hK => ?_) | (refine wReg ?_; simp only [List.map_cons, List.map_nil, strip]) | (refine wDrw (by kernel_rfl) ?_; simp only [List.map_cons, List.map_nil, strip]) | (refine wOs fun K hK => ?_; simp [g3, b3, g5, g8, g9, g10, b5, hlt]) | (refine wQs fun K hK => ?_; simp [g3, b3, g5, g8, g9, g10, b5, hlt]) | (refine CallK_plain ?_; simp [g3, b3, g5, g8, g9, g10, b5, hlt]) | (refine CallQ_plain ?_; simp [g3, b3, g5, g8, g9, g10, b5, hlt]) | (refine wRet ?_; try simp) | (refine wCond ?_; simp [g3, b3, g5, g8, g9, g10, b5, hlt]) | (refine wBlock ?_) | (refine wScope ?_) | (refine wExit ?_; try simp) | (refine wSkip ?_; try simp) | (refine wOn ?_; try simp only [thenA_n]) | (refine wQn ?_; try simp only [thenA_n])
    apply hr
    simp [Try.f21, g5, b5]

theorem won_con (needs : List Cf) (l : List Vt) (v : Vt) (hn : needs.length ≤ 1000) (hm : ∀ c ∈ needs, c.ms.length ≤ 1000000) (hl : l.length ≤ 1000000) : ACon Try.prog 22 [.p (.sl 4 (cfs needs)), .p (.sl 7 (vts l)), .p (.agg v.cells)] (.p (B (allQ needs (backs l v)))) := by
  have h1 := backs_con l v hl
  have h2 := all_con needs (backs l v) hn hm
  generalize allQ needs (backs l v) = z at h2
  generalize backs l v = y at h1 h2
  simp only [Vt.cells] at h1 ⊢
  refine wBody Try.tab Try.mixed Try.func22 rfl rfl Try.ntmps22 (by simp) (by simp) fun Q hr hn => ?_
  repeat' first | (refine hK _ ?_; clear hK) | (clear hK; refine hK _ ?_; clear hK) | (clear hK; clear hK; refine hK _ ?_; clear hK) | (clear hK; clear hK; clear hK; refine hK _ ?_; clear hK) | (clear hK; clear hK; clear hK; clear hK; refine hK _ ?_; clear hK) | (refine wSeq fun K hK => ?_) | (refine wReg ?_; simp only [List.map_cons, List.map_nil, strip]) | (refine wDrw (by kernel_rfl) ?_; simp only [List.map_cons, List.map_nil, strip]) | (refine wOs fun K hK => ?_; simp) | (refine wQs fun K hK => ?_; simp) | (refine CallK_plain ?_; simp) | (refine CallQ_plain ?_; simp) | (refine wRet ?_; try simp) | (refine wCond ?_; simp) | (refine wBlock ?_) | (refine wScope ?_) | (refine wExit ?_; try simp) | (refine wSkip ?_; try simp) | (refine wOn ?_; try simp only [thenA_n]) | (refine wQn ?_; try simp only [thenA_n]) | (refine CallE.pure (h1) rfl ?_) | (refine CallE.lent (h1) rfl ?_) | (refine CallF.pure (h1) rfl ?_) | (refine CallF.lent (h1) rfl ?_) | (refine CallE.own (h1) ?_) | (refine CallE.pure (h2) rfl ?_) | (refine CallE.lent (h2) rfl ?_) | (refine CallF.pure (h2) rfl ?_) | (refine CallF.lent (h2) rfl ?_) | (refine CallE.own (h2) ?_)
  all_goals apply hr
  all_goals simp [Try.f22]
theorem won17_con (needs : List Cf) (l : List Vt) (v : Vt) (hn : needs.length ≤ 1000) (hm : ∀ c ∈ needs, c.ms.length ≤ 1000000) (hl : l.length ≤ 1000000) : ACon Try.prog 71 [.p (.sl 4 (cfs needs)), .p (.sl 7 (vts l)), .p (.agg v.cells)] (.p (B (allQ needs (backs l v)))) := by
  have h1 := backs17_con l v hl
  have h2 := all05_con needs (backs l v) hn hm
  generalize allQ needs (backs l v) = z at h2
  generalize backs l v = y at h1 h2
  simp only [Vt.cells] at h1 ⊢
  refine wBody Try.tab Try.mixed Try.func71 rfl rfl Try.ntmps71 (by simp) (by simp) fun Q hr hn => ?_
  repeat' first | (refine hK _ ?_; clear hK) | (clear hK; refine hK _ ?_; clear hK) | (clear hK; clear hK; refine hK _ ?_; clear hK) | (clear hK; clear hK; clear hK; refine hK _ ?_; clear hK) | (clear hK; clear hK; clear hK; clear hK; refine hK _ ?_; clear hK) | (refine wSeq fun K hK => ?_) | (refine wReg ?_; simp only [List.map_cons, List.map_nil, strip]) | (refine wDrw (by kernel_rfl) ?_; simp only [List.map_cons, List.map_nil, strip]) | (refine wOs fun K hK => ?_; simp) | (refine wQs fun K hK => ?_; simp) | (refine CallK_plain ?_; simp) | (refine CallQ_plain ?_; simp) | (refine wRet ?_; try simp) | (refine wCond ?_; simp) | (refine wBlock ?_) | (refine wScope ?_) | (refine wExit ?_; try simp) | (refine wSkip ?_; try simp) | (refine wOn ?_; try simp only [thenA_n]) | (refine wQn ?_; try simp only [thenA_n]) | (refine CallE.pure (h1) rfl ?_) | (refine CallE.lent (h1) rfl ?_) | (refine CallF.pure (h1) rfl ?_) | (refine CallF.lent (h1) rfl ?_) | (refine CallE.own (h1) ?_) | (refine CallE.pure (h2) rfl ?_) | (refine CallE.lent (h2) rfl ?_) | (refine CallF.pure (h2) rfl ?_) | (refine CallF.lent (h2) rfl ?_) | (refine CallE.own (h2) ?_)
  all_goals apply hr
  all_goals simp [Try.f71]

end Go.Proofs.Ytdacplfmpjhjhaa
