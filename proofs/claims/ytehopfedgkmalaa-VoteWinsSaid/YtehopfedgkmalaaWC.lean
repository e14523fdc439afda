/- Who backs a vote, whether that is enough; the law VoteWins. -/
import Derived.Test.YtehopfedgkmalaaWB
import Derived.Test.YtehopfedgkmalaaQG
namespace Go.Proofs.Ytehopfedgkmalaa
set_option linter.unusedSimpArgs false
set_option linter.unusedVariables false
open Go Go.Av
attribute [local simp] Try.T
attribute [local irreducible] Go.Av.CallK Go.Av.CallE Go.Av.CallQ Go.Av.CallF Go.Av.Con

def backs (l : List Vt) (v : Vt) : List Int := (kept (fun x => cause x v) l).map Vt.f
theorem backs_con (l : List Vt) (v : Vt) (hl : l.length ≤ 1000000) : ACon Try.prog 32 [.p (.sl 7 (vts l)), .p (.agg v.cells)] (.p (.sl 1 (ints (backs l v)))) := by
  have hs := sifted_con l 53 v (fun x => cause x v) hl (fun x => backs1_con x v)
  have hkl := kept_len (fun x => cause x v) l
  unfold backs
  generalize kept (fun x => cause x v) l = ks at hs hkl ⊢
  obtain ⟨v0, v1, v2, v3, v4, v5, v6⟩ := v
  simp only [Vt.cells, List.map_cons, List.map_nil] at hs ⊢
  refine wBody Try.tab Try.mixed Try.func32 rfl rfl Try.ntmps32 (by simp) (by simp) fun Q hr hn => ?_
  repeat' first | (refine CallK_gen [3] hs (by decide) (by decide) (by simp [blksOf, inN, pos, renB, ren0]) (by simp [argsG, argG, ren0, inN, pos, renCs, renC]) ⟨[10], by simp, by simp, ?_⟩; simp [lv, ouN, kpI, kpR, pos, ren, ren0, renB, renC, renCs]) | (refine hK _ ?_; clear hK) | (clear hK; refine hK _ ?_; clear hK) | (clear hK; clear hK; refine hK _ ?_; clear hK) | (clear hK; clear hK; clear hK; refine hK _ ?_; clear hK) | (clear hK; clear hK; clear hK; clear hK; refine hK _ ?_; clear hK) | (refine wSeq fun K hK => ?_) | (refine wReg ?_; simp only [List.map_cons, List.map_nil, strip]) | (refine wDrw (by kernel_rfl) ?_; simp only [List.map_cons, List.map_nil, strip]) | (refine wOs fun K hK => ?_; simp) | (refine wQs fun K hK => ?_; simp) | (refine CallK_plain ?_; simp) | (refine CallQ_plain ?_; simp) | (refine wRet ?_; try simp) | (refine wCond ?_; simp) | (refine wBlock ?_) | (refine wExit ?_; try simp) | (refine wSkip ?_; try simp) | (refine wOn ?_; try simp only [thenA_n]) | (refine wQn ?_; try simp only [thenA_n])
  refine wLoopG [.row 5 3 1] (fun N st => ∃ k, k + N = ks.length ∧ st.s 5 = .row 5 ∧ st.s 10 = .row 10 ∧ st.s 11 = .p (I ks.length) ∧ st.s 12 = .p (I k) ∧ st.b 10 = some (.row 45 7 (vts ks)) ∧
    st.b 5 = some (.row 3 1 (ints ((ks.take k).map Vt.f)))) ks.length ⟨0, by simp [lv, ouN, kpI, kpR, pos, ren, ren0, renB, renC, renCs, ints]⟩ fun K N st hL ⟨k, hk, g5, g10, g11, g12, b10, b5⟩ => ?_
  by_cases hlt : k < ks.length
  · have hw := wrapS k _ hlt (by omega)
    have hln : ((ks.take k).map Vt.f).length ≤ k := by simp; omega
    repeat' first | (refine And.intro (by omega) ?_) | (refine hK _ ?_; clear hK) | (clear hK; refine hK _ ?_; clear hK) | (clear hK; clear hK; refine hK _ ?_; clear hK) | (clear hK; clear hK; clear hK; refine hK _ ?_; clear hK) | (clear hK; clear hK; clear hK; clear hK; refine hK _ ?_; clear hK) | (refine wSeq fun K hK => ?_) | (refine wReg ?_; simp only [List.map_cons, List.map_nil, strip]) | (refine wDrw (by kernel_rfl) ?_; simp only [List.map_cons, List.map_nil, strip]) | (refine wOs fun K hK => ?_; simp [g5, g10, g11, g12, b10, b5, hlt, hw]) | (refine wQs fun K hK => ?_; simp [g5, g10, g11, g12, b10, b5, hlt, hw]) | (refine CallK_plain ?_; simp [g5, g10, g11, g12, b10, b5, hlt, hw]) | (refine CallQ_plain ?_; simp [g5, g10, g11, g12, b10, b5, hlt, hw]) | (refine wRet ?_; try simp) | (refine wCond ?_; simp [g5, g10, g11, g12, b10, b5, hlt, hw]) | (refine wBlock ?_) | (refine wExit ?_; try simp) | (refine wSkip ?_; try simp) | (refine wOn ?_; try simp only [thenA_n]) | (refine wQn ?_; try simp only [thenA_n])
    refine hL _ (N - 1) (by omega) ⟨k + 1, by omega, ?_⟩
    simp [g5, g10, g11, g12, b10, b5, hw]
    rw [← List.map_take, ints_snoc, List.map_take, take_snoc (ks.map Vt.f) k (by simpa using hlt), List.getElem_map]
  · rw [List.take_of_length_le (by omega)] at b5
    repeat' first | (refine hK _ ?_; clear hK) | (clear hK; refine hK _ ?_; clear hK) | (clear hK; clear hK; refine hK _ ?_; clear hK) | (clear hK; clear hK; clear hK; refine hK _ ?_; clear hK) | (clear hK; clear hK; clear hK; clear hK; refine hK _ ?_; clear hK) | (refine wSeq fun K hK => ?_) | (refine wReg ?_; simp only [List.map_cons, List.map_nil, strip]) | (refine wDrw (by kernel_rfl) ?_; simp only [List.map_cons, List.map_nil, strip]) | (refine wOs fun K hK => ?_; simp [g5, g10, g11, g12, b10, b5, hlt]) | (refine wQs fun K hK => ?_; simp [g5, g10, g11, g12, b10, b5, hlt]) | (refine CallK_plain ?_; simp [g5, g10, g11, g12, b10, b5, hlt]) | (refine CallQ_plain ?_; simp [g5, g10, g11, g12, b10, b5, hlt]) | (refine wRet ?_; try simp) | (refine wCond ?_; simp [g5, g10, g11, g12, b10, b5, hlt]) | (refine wBlock ?_) | (refine wExit ?_; try simp) | (refine wSkip ?_; try simp) | (refine wOn ?_; try simp only [thenA_n]) | (refine wQn ?_; try simp only [thenA_n])
    apply hr
    simp [Try.f32, g5, b5]

theorem backs_snoc (l : List Vt) (v : Vt) (k : Nat) (h : k < l.length) : backs (l.take (k + 1)) v = if cause l[k] v = true then backs (l.take k) v ++ [l[k].f] else backs (l.take k) v := by
  unfold backs
  rw [kept_snoc _ l k h]
  by_cases g : cause l[k] v = true
  · rw [if_pos g, if_pos g, List.map_append]; rfl
  · rw [if_neg g, if_neg g]
theorem backs_len (l : List Vt) (v : Vt) : (backs l v).length ≤ l.length := by unfold backs; rw [List.length_map]; exact kept_len _ _
set_option maxHeartbeats 2000000 in
theorem backs17_con (l : List Vt) (v : Vt) (hl : l.length ≤ 1000000) : ACon Try.prog 33 [.p (.sl 7 (vts l)), .p (.agg v.cells)] (.p (.sl 1 (ints (backs l v)))) := by
  have hsn := fun k h => backs_snoc l v k h
  have hln0 := fun k => backs_len (l.take k) v
  have hfin : l.take l.length = l := List.take_of_length_le (by omega)
  obtain ⟨v0, v1, v2, v3, v4, v5, v6⟩ := v
  simp only [Vt.cells] at ⊢
  refine wBody Try.tab Try.mixed Try.func33 rfl rfl Try.ntmps33 (by simp) (by simp) fun Q hr hn => ?_
  repeat' first | (refine hK _ ?_; clear hK) | (clear hK; refine hK _ ?_; clear hK) | (clear hK; clear hK; refine hK _ ?_; clear hK) | (clear hK; clear hK; clear hK; refine hK _ ?_; clear hK) | (clear hK; clear hK; clear hK; clear hK; refine hK _ ?_; clear hK) | (refine wSeq fun K hK => ?_) | (refine wReg ?_; simp only [List.map_cons, List.map_nil, strip]) | (refine wDrw (by kernel_rfl) ?_; simp only [List.map_cons, List.map_nil, strip]) | (refine wOs fun K hK => ?_; simp) | (refine wQs fun K hK => ?_; simp) | (refine CallK_plain ?_; simp) | (refine CallQ_plain ?_; simp) | (refine wRet ?_; try simp) | (refine wCond ?_; simp) | (refine wBlock ?_) | (refine wExit ?_; try simp) | (refine wSkip ?_; try simp) | (refine wOn ?_; try simp only [thenA_n]) | (refine wQn ?_; try simp only [thenA_n])
  refine wLoopG [.row 5 3 1] (fun N st => ∃ k, k + N = l.length ∧ st.s 3 = .ptr 3 0 ∧ st.b 3 = some (.box 45 [.p (I v0), .p (I v1), .p (I v2), .p (I v3), .p (I v4), .p (I v5), .p (I v6)]) ∧ st.s 5 = .row 5 ∧ st.s 8 = .p (.sl 7 (vts l)) ∧ st.s 9 = .p (I l.length) ∧ st.s 10 = .p (I k) ∧
    st.b 5 = some (.row 3 1 (ints (backs (l.take k) ⟨v0, v1, v2, v3, v4, v5, v6⟩)))) l.length ⟨0, by simp [backs, kept, ints]⟩ fun K N st hL ⟨k, hk, g3, b3, g5, g8, g9, g10, b5⟩ => ?_
  by_cases hlt : k < l.length
  · have hw := wrapS k _ hlt (by omega)
    have hln : (backs (l.take k) ⟨v0, v1, v2, v3, v4, v5, v6⟩).length ≤ k := Nat.le_trans (hln0 k) (by simp; omega)
    have hsk := hsn k hlt
    simp only [cause] at hsk
    by_cases o1 : l[k].r = v1
    · by_cases o2 : l[k].e = v2
      · by_cases o3 : l[k].le = v3 ∧ l[k].ln = v4
        · by_cases o4 : l[k].c = v5
          · replace hsk := hsk.trans (if_pos (decide_eq_true ⟨o1, o2, o3.1, o3.2, o4⟩))
            repeat' first | (refine And.intro (by omega) ?_) | (refine hK _ ?_; clear hK) | (clear hK; refine hK _ ?_; clear hK) | (clear hK; clear hK; refine hK _ ?_; clear hK) | (clear hK; clear hK; clear hK; refine hK _ ?_; clear hK) | (clear hK; clear hK; clear hK; clear hK; refine hK _ ?_; clear hK) | (refine wSeq fun K hK => ?_) | (refine wReg ?_; simp only [List.map_cons, List.map_nil, strip]) | (refine wDrw (by kernel_rfl) ?_; simp only [List.map_cons, List.map_nil, strip]) | (refine wOs fun K hK => ?_; simp [g3, b3, g5, g8, g9, g10, b5, hlt, hw, o1, o2, o3, o4]) | (refine wQs fun K hK => ?_; simp [g3, b3, g5, g8, g9, g10, b5, hlt, hw, o1, o2, o3, o4]) | (refine CallK_plain ?_; simp [g3, b3, g5, g8, g9, g10, b5, hlt, hw, o1, o2, o3, o4]) | (refine CallQ_plain ?_; simp [g3, b3, g5, g8, g9, g10, b5, hlt, hw, o1, o2, o3, o4]) | (refine wRet ?_; try simp) | (refine wCond ?_; simp [g3, b3, g5, g8, g9, g10, b5, hlt, hw, o1, o2, o3, o4]) | (refine wBlock ?_) | (refine wExit ?_; try simp) | (refine wSkip ?_; try simp) | (refine wOn ?_; try simp only [thenA_n]) | (refine wQn ?_; try simp only [thenA_n])
            refine hL _ (N - 1) (by omega) ⟨k + 1, by omega, ?_⟩
            simp [g3, b3, g5, g8, g9, g10, b5, hw]
            rw [ints_snoc, hsk]
          · replace hsk := hsk.trans (if_neg (fun h => o4 (of_decide_eq_true h).2.2.2.2))
            repeat' first | (refine hK _ ?_; clear hK) | (clear hK; refine hK _ ?_; clear hK) | (clear hK; clear hK; refine hK _ ?_; clear hK) | (clear hK; clear hK; clear hK; refine hK _ ?_; clear hK) | (clear hK; clear hK; clear hK; clear hK; refine hK _ ?_; clear hK) | (refine wSeq fun K hK => ?_) | (refine wReg ?_; simp only [List.map_cons, List.map_nil, strip]) | (refine wDrw (by kernel_rfl) ?_; simp only [List.map_cons, List.map_nil, strip]) | (refine wOs fun K hK => ?_; simp [g3, b3, g5, g8, g9, g10, b5, hlt, hw, o1, o2, o3, o4]) | (refine wQs fun K hK => ?_; simp [g3, b3, g5, g8, g9, g10, b5, hlt, hw, o1, o2, o3, o4]) | (refine CallK_plain ?_; simp [g3, b3, g5, g8, g9, g10, b5, hlt, hw, o1, o2, o3, o4]) | (refine CallQ_plain ?_; simp [g3, b3, g5, g8, g9, g10, b5, hlt, hw, o1, o2, o3, o4]) | (refine wRet ?_; try simp) | (refine wCond ?_; simp [g3, b3, g5, g8, g9, g10, b5, hlt, hw, o1, o2, o3, o4]) | (refine wBlock ?_) | (refine wExit ?_; try simp) | (refine wSkip ?_; try simp) | (refine wOn ?_; try simp only [thenA_n]) | (refine wQn ?_; try simp only [thenA_n])
            refine hL _ (N - 1) (by omega) ⟨k + 1, by omega, ?_⟩
            simp [g3, b3, g5, g8, g9, g10, b5, hw, hsk]
        · replace hsk := hsk.trans (if_neg (fun h => o3 ⟨(of_decide_eq_true h).2.2.1, (of_decide_eq_true h).2.2.2.1⟩))
          repeat' first | (refine hK _ ?_; clear hK) | (clear hK; refine hK _ ?_; clear hK) | (clear hK; clear hK; refine hK _ ?_; clear hK) | (clear hK; clear hK; clear hK; refine hK _ ?_; clear hK) | (clear hK; clear hK; clear hK; clear hK; refine hK _ ?_; clear hK) | (refine wSeq fun K hK => ?_) | (refine wReg ?_; simp only [List.map_cons, List.map_nil, strip]) | (refine wDrw (by kernel_rfl) ?_; simp only [List.map_cons, List.map_nil, strip]) | (refine wOs fun K hK => ?_; simp [g3, b3, g5, g8, g9, g10, b5, hlt, hw, o1, o2, o3]) | (refine wQs fun K hK => ?_; simp [g3, b3, g5, g8, g9, g10, b5, hlt, hw, o1, o2, o3]) | (refine CallK_plain ?_; simp [g3, b3, g5, g8, g9, g10, b5, hlt, hw, o1, o2, o3]) | (refine CallQ_plain ?_; simp [g3, b3, g5, g8, g9, g10, b5, hlt, hw, o1, o2, o3]) | (refine wRet ?_; try simp) | (refine wCond ?_; simp [g3, b3, g5, g8, g9, g10, b5, hlt, hw, o1, o2, o3]) | (refine wBlock ?_) | (refine wExit ?_; try simp) | (refine wSkip ?_; try simp) | (refine wOn ?_; try simp only [thenA_n]) | (refine wQn ?_; try simp only [thenA_n]) | (intro _)
          all_goals first | exact o3 | skip
          refine hL _ (N - 1) (by omega) ⟨k + 1, by omega, ?_⟩
          simp [g3, b3, g5, g8, g9, g10, b5, hw, hsk]
      · replace hsk := hsk.trans (if_neg (fun h => o2 (of_decide_eq_true h).2.1))
        repeat' first | (refine hK _ ?_; clear hK) | (clear hK; refine hK _ ?_; clear hK) | (clear hK; clear hK; refine hK _ ?_; clear hK) | (clear hK; clear hK; clear hK; refine hK _ ?_; clear hK) | (clear hK; clear hK; clear hK; clear hK; refine hK _ ?_; clear hK) | (refine wSeq fun K hK => ?_) | (refine wReg ?_; simp only [List.map_cons, List.map_nil, strip]) | (refine wDrw (by kernel_rfl) ?_; simp only [List.map_cons, List.map_nil, strip]) | (refine wOs fun K hK => ?_; simp [g3, b3, g5, g8, g9, g10, b5, hlt, hw, o1, o2]) | (refine wQs fun K hK => ?_; simp [g3, b3, g5, g8, g9, g10, b5, hlt, hw, o1, o2]) | (refine CallK_plain ?_; simp [g3, b3, g5, g8, g9, g10, b5, hlt, hw, o1, o2]) | (refine CallQ_plain ?_; simp [g3, b3, g5, g8, g9, g10, b5, hlt, hw, o1, o2]) | (refine wRet ?_; try simp) | (refine wCond ?_; simp [g3, b3, g5, g8, g9, g10, b5, hlt, hw, o1, o2]) | (refine wBlock ?_) | (refine wExit ?_; try simp) | (refine wSkip ?_; try simp) | (refine wOn ?_; try simp only [thenA_n]) | (refine wQn ?_; try simp only [thenA_n])
        refine hL _ (N - 1) (by omega) ⟨k + 1, by omega, ?_⟩
        simp [g3, b3, g5, g8, g9, g10, b5, hw, hsk]
    · replace hsk := hsk.trans (if_neg (fun h => o1 (of_decide_eq_true h).1))
      repeat' first | (refine hK _ ?_; clear hK) | (clear hK; refine hK _ ?_; clear hK) | (clear hK; clear hK; refine hK _ ?_; clear hK) | (clear hK; clear hK; clear hK; refine hK _ ?_; clear hK) | (clear hK; clear hK; clear hK; clear hK; refine hK _ ?_; clear hK) | (refine wSeq fun K hK => ?_) | (refine wReg ?_; simp only [List.map_cons, List.map_nil, strip]) | (refine wDrw (by kernel_rfl) ?_; simp only [List.map_cons, List.map_nil, strip]) | (refine wOs fun K hK => ?_; simp [g3, b3, g5, g8, g9, g10, b5, hlt, hw, o1]) | (refine wQs fun K hK => ?_; simp [g3, b3, g5, g8, g9, g10, b5, hlt, hw, o1]) | (refine CallK_plain ?_; simp [g3, b3, g5, g8, g9, g10, b5, hlt, hw, o1]) | (refine CallQ_plain ?_; simp [g3, b3, g5, g8, g9, g10, b5, hlt, hw, o1]) | (refine wRet ?_; try simp) | (refine wCond ?_; simp [g3, b3, g5, g8, g9, g10, b5, hlt, hw, o1]) | (refine wBlock ?_) | (refine wExit ?_; try simp) | (refine wSkip ?_; try simp) | (refine wOn ?_; try simp only [thenA_n]) | (refine wQn ?_; try simp only [thenA_n])
      refine hL _ (N - 1) (by omega) ⟨k + 1, by omega, ?_⟩
      simp [g3, b3, g5, g8, g9, g10, b5, hw, hsk]
  · rw [List.take_of_length_le (by omega)] at b5
    repeat' first | (refine hK _ ?_; clear hK) | (clear hK; refine hK _ ?_; clear hK) | (clear hK; clear hK; refine hK _ ?_; clear hK) | (clear hK; clear hK; clear hK; refine hK _ ?_; clear hK) | (clear hK; clear hK; clear hK; clear hK; refine hK _ ?_; clear hK) | (refine wSeq fun K hK => ?_) | (refine wReg ?_; simp only [List.map_cons, List.map_nil, strip]) | (refine wDrw (by kernel_rfl) ?_; simp only [List.map_cons, List.map_nil, strip]) | (refine wOs fun K hK => ?_; simp [g3, b3, g5, g8, g9, g10, b5, hlt]) | (refine wQs fun K hK => ?_; simp [g3, b3, g5, g8, g9, g10, b5, hlt]) | (refine CallK_plain ?_; simp [g3, b3, g5, g8, g9, g10, b5, hlt]) | (refine CallQ_plain ?_; simp [g3, b3, g5, g8, g9, g10, b5, hlt]) | (refine wRet ?_; try simp) | (refine wCond ?_; simp [g3, b3, g5, g8, g9, g10, b5, hlt]) | (refine wBlock ?_) | (refine wExit ?_; try simp) | (refine wSkip ?_; try simp) | (refine wOn ?_; try simp only [thenA_n]) | (refine wQn ?_; try simp only [thenA_n])
    apply hr
    simp [Try.f33, g5, b5]

theorem won_con (needs : List Cf) (l : List Vt) (v : Vt) (hn : needs.length ≤ 1000) (hm : ∀ c ∈ needs, c.ms.length ≤ 1000000) (hl : l.length ≤ 1000000) : ACon Try.prog 34 [.p (.sl 4 (cfs needs)), .p (.sl 7 (vts l)), .p (.agg v.cells)] (.p (B (allQ needs (backs l v)))) := by
  have h1 := backs_con l v hl
  have h2 := all_con needs (backs l v) hn hm
  generalize allQ needs (backs l v) = z at h2
  generalize backs l v = y at h1 h2
  simp only [Vt.cells] at h1 ⊢
  refine wBody Try.tab Try.mixed Try.func34 rfl rfl Try.ntmps34 (by simp) (by simp) fun Q hr hn => ?_
  repeat' first | (refine hK _ ?_; clear hK) | (clear hK; refine hK _ ?_; clear hK) | (clear hK; clear hK; refine hK _ ?_; clear hK) | (clear hK; clear hK; clear hK; refine hK _ ?_; clear hK) | (clear hK; clear hK; clear hK; clear hK; refine hK _ ?_; clear hK) | (refine wSeq fun K hK => ?_) | (refine wReg ?_; simp only [List.map_cons, List.map_nil, strip]) | (refine wDrw (by kernel_rfl) ?_; simp only [List.map_cons, List.map_nil, strip]) | (refine wOs fun K hK => ?_; simp) | (refine wQs fun K hK => ?_; simp) | (refine CallK_plain ?_; simp) | (refine CallQ_plain ?_; simp) | (refine wRet ?_; try simp) | (refine wCond ?_; simp) | (refine wBlock ?_) | (refine wExit ?_; try simp) | (refine wSkip ?_; try simp) | (refine wOn ?_; try simp only [thenA_n]) | (refine wQn ?_; try simp only [thenA_n]) | (refine CallE.pure (h1) rfl ?_) | (refine CallE.lent (h1) rfl ?_) | (refine CallF.pure (h1) rfl ?_) | (refine CallF.lent (h1) rfl ?_) | (refine CallE.own (h1) ?_) | (refine CallE.pure (h2) rfl ?_) | (refine CallE.lent (h2) rfl ?_) | (refine CallF.pure (h2) rfl ?_) | (refine CallF.lent (h2) rfl ?_) | (refine CallE.own (h2) ?_)
  all_goals apply hr
  all_goals simp [Try.f34]
theorem won17_con (needs : List Cf) (l : List Vt) (v : Vt) (hn : needs.length ≤ 1000) (hm : ∀ c ∈ needs, c.ms.length ≤ 1000000) (hl : l.length ≤ 1000000) : ACon Try.prog 35 [.p (.sl 4 (cfs needs)), .p (.sl 7 (vts l)), .p (.agg v.cells)] (.p (B (allQ needs (backs l v)))) := by
  have h1 := backs17_con l v hl
  have h2 := all05_con needs (backs l v) hn hm
  generalize allQ needs (backs l v) = z at h2
  generalize backs l v = y at h1 h2
  simp only [Vt.cells] at h1 ⊢
  refine wBody Try.tab Try.mixed Try.func35 rfl rfl Try.ntmps35 (by simp) (by simp) fun Q hr hn => ?_
  repeat' first | (refine hK _ ?_; clear hK) | (clear hK; refine hK _ ?_; clear hK) | (clear hK; clear hK; refine hK _ ?_; clear hK) | (clear hK; clear hK; clear hK; refine hK _ ?_; clear hK) | (clear hK; clear hK; clear hK; clear hK; refine hK _ ?_; clear hK) | (refine wSeq fun K hK => ?_) | (refine wReg ?_; simp only [List.map_cons, List.map_nil, strip]) | (refine wDrw (by kernel_rfl) ?_; simp only [List.map_cons, List.map_nil, strip]) | (refine wOs fun K hK => ?_; simp) | (refine wQs fun K hK => ?_; simp) | (refine CallK_plain ?_; simp) | (refine CallQ_plain ?_; simp) | (refine wRet ?_; try simp) | (refine wCond ?_; simp) | (refine wBlock ?_) | (refine wExit ?_; try simp) | (refine wSkip ?_; try simp) | (refine wOn ?_; try simp only [thenA_n]) | (refine wQn ?_; try simp only [thenA_n]) | (refine CallE.pure (h1) rfl ?_) | (refine CallE.lent (h1) rfl ?_) | (refine CallF.pure (h1) rfl ?_) | (refine CallF.lent (h1) rfl ?_) | (refine CallE.own (h1) ?_) | (refine CallE.pure (h2) rfl ?_) | (refine CallE.lent (h2) rfl ?_) | (refine CallF.pure (h2) rfl ?_) | (refine CallF.lent (h2) rfl ?_) | (refine CallE.own (h2) ?_)
  all_goals apply hr
  all_goals simp [Try.f35]

theorem voteWins_con (needs : List Cf) (l : List Vt) (v : Vt) : ACon Try.prog 9 [.p (.sl 4 (cfs needs)), .p (.sl 7 (vts l)), .p (.agg v.cells)] (.p (B true)) := by
  have w1 := fun hn hm hl => won_con needs l v hn hm hl
  have w2 := fun hn hm hl => won17_con needs l v hn hm hl
  simp only [Vt.cells] at w1 w2 ⊢
  by_cases hl : 300 < l.length
  · have hl' : (300 : Int) < l.length := by omega
    refine wBody Try.tab Try.mixed Try.func9 rfl rfl Try.ntmps9 (by simp) (by simp) fun Q hr hn => ?_
    repeat' first | (refine hK _ ?_; clear hK) | (clear hK; refine hK _ ?_; clear hK) | (clear hK; clear hK; refine hK _ ?_; clear hK) | (clear hK; clear hK; clear hK; refine hK _ ?_; clear hK) | (clear hK; clear hK; clear hK; clear hK; refine hK _ ?_; clear hK) | (refine wSeq fun K hK => ?_) | (refine wReg ?_; simp only [List.map_cons, List.map_nil, strip]) | (refine wDrw (by kernel_rfl) ?_; simp only [List.map_cons, List.map_nil, strip]) | (refine wOs fun K hK => ?_; simp [hl, hl']) | (refine wQs fun K hK => ?_; simp [hl, hl']) | (refine CallK_plain ?_; simp [hl, hl']) | (refine CallQ_plain ?_; simp [hl, hl']) | (refine wRet ?_; try simp) | (refine wCond ?_; simp [hl, hl']) | (refine wBlock ?_) | (refine wExit ?_; try simp) | (refine wSkip ?_; try simp) | (refine wOn ?_; try simp only [thenA_n]) | (refine wQn ?_; try simp only [thenA_n]) | (refine CallE.pure (awake17) rfl ?_) | (refine CallE.lent (awake17) rfl ?_) | (refine CallF.pure (awake17) rfl ?_) | (refine CallF.lent (awake17) rfl ?_) | (refine CallE.own (awake17) ?_)
    all_goals apply hr
    all_goals simp [Try.f9]
  have hl' : ¬ (300 : Int) < l.length := by omega
  by_cases hn : 10 < needs.length
  · have hn' : (10 : Int) < needs.length := by omega
    refine wBody Try.tab Try.mixed Try.func9 rfl rfl Try.ntmps9 (by simp) (by simp) fun Q hr hn => ?_
    repeat' first | (refine hK _ ?_; clear hK) | (clear hK; refine hK _ ?_; clear hK) | (clear hK; clear hK; refine hK _ ?_; clear hK) | (clear hK; clear hK; clear hK; refine hK _ ?_; clear hK) | (clear hK; clear hK; clear hK; clear hK; refine hK _ ?_; clear hK) | (refine wSeq fun K hK => ?_) | (refine wReg ?_; simp only [List.map_cons, List.map_nil, strip]) | (refine wDrw (by kernel_rfl) ?_; simp only [List.map_cons, List.map_nil, strip]) | (refine wOs fun K hK => ?_; simp [hl, hl', hn, hn']) | (refine wQs fun K hK => ?_; simp [hl, hl', hn, hn']) | (refine CallK_plain ?_; simp [hl, hl', hn, hn']) | (refine CallQ_plain ?_; simp [hl, hl', hn, hn']) | (refine wRet ?_; try simp) | (refine wCond ?_; simp [hl, hl', hn, hn']) | (refine wBlock ?_) | (refine wExit ?_; try simp) | (refine wSkip ?_; try simp) | (refine wOn ?_; try simp only [thenA_n]) | (refine wQn ?_; try simp only [thenA_n]) | (refine CallE.pure (awake17) rfl ?_) | (refine CallE.lent (awake17) rfl ?_) | (refine CallF.pure (awake17) rfl ?_) | (refine CallF.lent (awake17) rfl ?_) | (refine CallE.own (awake17) ?_)
    all_goals apply hr
    all_goals simp [Try.f9]
  have hn' : ¬ (10 : Int) < needs.length := by omega
  refine wBody Try.tab Try.mixed Try.func9 rfl rfl Try.ntmps9 (by simp) (by simp) fun Q hr hn => ?_
  repeat' first | (refine hK _ ?_; clear hK) | (clear hK; refine hK _ ?_; clear hK) | (clear hK; clear hK; refine hK _ ?_; clear hK) | (clear hK; clear hK; clear hK; refine hK _ ?_; clear hK) | (clear hK; clear hK; clear hK; clear hK; refine hK _ ?_; clear hK) | (refine wSeq fun K hK => ?_) | (refine wReg ?_; simp only [List.map_cons, List.map_nil, strip]) | (refine wDrw (by kernel_rfl) ?_; simp only [List.map_cons, List.map_nil, strip]) | (refine wOs fun K hK => ?_; simp [hl, hl', hn, hn']) | (refine wQs fun K hK => ?_; simp [hl, hl', hn, hn']) | (refine CallK_plain ?_; simp [hl, hl', hn, hn']) | (refine CallQ_plain ?_; simp [hl, hl', hn, hn']) | (refine wRet ?_; try simp) | (refine wCond ?_; simp [hl, hl', hn, hn']) | (refine wBlock ?_) | (refine wExit ?_; try simp) | (refine wSkip ?_; try simp) | (refine wOn ?_; try simp only [thenA_n]) | (refine wQn ?_; try simp only [thenA_n])
  refine wLoop (fun N st => ∃ (k : Nat), k + N = needs.length ∧ st.s 0 = .p (.sl 4 (cfs needs)) ∧ st.s 1 = .p (.sl 7 (vts l)) ∧ st.s 5 = .ptr 5 0 ∧ st.b 5 = some (.box 45 [.p (I v.f), .p (I v.r), .p (I v.e), .p (I v.le), .p (I v.ln), .p (I v.c), .p (I v.m)]) ∧ st.s 18 = .p (.sl 4 (cfs needs)) ∧ st.s 19 = .p (I needs.length) ∧ st.s 20 = .p (I k) ∧ ∀ c ∈ needs.take k, c.ms.length ≤ 100) needs.length ⟨0, by simp⟩ fun K N st hL ⟨k, hk, g0, g1, g5, b5, g18, g19, g20, hi⟩ => ?_
  by_cases hlt : k < needs.length
  · have hw := wrapS k _ hlt (by omega)
    by_cases hm : 100 < needs[k].ms.length
    · have hm' : (100 : Int) < needs[k].ms.length := by omega
      repeat' first | (refine hK _ ?_; clear hK) | (clear hK; refine hK _ ?_; clear hK) | (clear hK; clear hK; refine hK _ ?_; clear hK) | (clear hK; clear hK; clear hK; refine hK _ ?_; clear hK) | (clear hK; clear hK; clear hK; clear hK; refine hK _ ?_; clear hK) | (refine wSeq fun K hK => ?_) | (refine wReg ?_; simp only [List.map_cons, List.map_nil, strip]) | (refine wDrw (by kernel_rfl) ?_; simp only [List.map_cons, List.map_nil, strip]) | (refine wOs fun K hK => ?_; simp [g0, g1, g5, b5, g18, g19, g20, hlt, hw, hm, hm']) | (refine wQs fun K hK => ?_; simp [g0, g1, g5, b5, g18, g19, g20, hlt, hw, hm, hm']) | (refine CallK_plain ?_; simp [g0, g1, g5, b5, g18, g19, g20, hlt, hw, hm, hm']) | (refine CallQ_plain ?_; simp [g0, g1, g5, b5, g18, g19, g20, hlt, hw, hm, hm']) | (refine wRet ?_; try simp) | (refine wCond ?_; simp [g0, g1, g5, b5, g18, g19, g20, hlt, hw, hm, hm']) | (refine wBlock ?_) | (refine wExit ?_; try simp) | (refine wSkip ?_; try simp) | (refine wOn ?_; try simp only [thenA_n]) | (refine wQn ?_; try simp only [thenA_n]) | (refine CallE.pure (awake17) rfl ?_) | (refine CallE.lent (awake17) rfl ?_) | (refine CallF.pure (awake17) rfl ?_) | (refine CallF.lent (awake17) rfl ?_) | (refine CallE.own (awake17) ?_)
      all_goals apply hr
      all_goals simp [Try.f9]
    · have hm' : ¬ (100 : Int) < needs[k].ms.length := by omega
      repeat' first | (refine hK _ ?_; clear hK) | (clear hK; refine hK _ ?_; clear hK) | (clear hK; clear hK; refine hK _ ?_; clear hK) | (clear hK; clear hK; clear hK; refine hK _ ?_; clear hK) | (clear hK; clear hK; clear hK; clear hK; refine hK _ ?_; clear hK) | (refine wSeq fun K hK => ?_) | (refine wReg ?_; simp only [List.map_cons, List.map_nil, strip]) | (refine wDrw (by kernel_rfl) ?_; simp only [List.map_cons, List.map_nil, strip]) | (refine wOs fun K hK => ?_; simp [g0, g1, g5, b5, g18, g19, g20, hlt, hw, hm, hm']) | (refine wQs fun K hK => ?_; simp [g0, g1, g5, b5, g18, g19, g20, hlt, hw, hm, hm']) | (refine CallK_plain ?_; simp [g0, g1, g5, b5, g18, g19, g20, hlt, hw, hm, hm']) | (refine CallQ_plain ?_; simp [g0, g1, g5, b5, g18, g19, g20, hlt, hw, hm, hm']) | (refine wRet ?_; try simp) | (refine wCond ?_; simp [g0, g1, g5, b5, g18, g19, g20, hlt, hw, hm, hm']) | (refine wBlock ?_) | (refine wExit ?_; try simp) | (refine wSkip ?_; try simp) | (refine wOn ?_; try simp only [thenA_n]) | (refine wQn ?_; try simp only [thenA_n])
      refine hL _ (N - 1) (by omega) ⟨k + 1, by omega, ?_⟩
      have hi' : ∀ c ∈ needs.take (k + 1), c.ms.length ≤ 100 := fun c hc => by
        rw [take_snoc _ k hlt] at hc
        rcases List.mem_append.1 hc with hc | hc
        · exact hi c hc
        · rw [List.mem_singleton.1 hc]; omega
      refine ⟨?_, ?_, ?_, ?_, ?_, ?_, ?_, hi'⟩
      all_goals simp [g0, g1, g5, b5, g18, g19, hw]
  · rw [List.take_of_length_le (by omega)] at hi
    have c1 := w1 (by omega) (fun c hc => by have := hi c hc; omega) (by omega)
    have c2 := w2 (by omega) (fun c hc => by have := hi c hc; omega) (by omega)
    generalize allQ needs (backs l v) = z at c1 c2
    repeat' first | (refine hK _ ?_; clear hK) | (clear hK; refine hK _ ?_; clear hK) | (clear hK; clear hK; refine hK _ ?_; clear hK) | (clear hK; clear hK; clear hK; refine hK _ ?_; clear hK) | (clear hK; clear hK; clear hK; clear hK; refine hK _ ?_; clear hK) | (refine wSeq fun K hK => ?_) | (refine wReg ?_; simp only [List.map_cons, List.map_nil, strip]) | (refine wDrw (by kernel_rfl) ?_; simp only [List.map_cons, List.map_nil, strip]) | (refine wOs fun K hK => ?_; simp [g0, g1, g5, b5, g18, g19, g20, hlt]) | (refine wQs fun K hK => ?_; simp [g0, g1, g5, b5, g18, g19, g20, hlt]) | (refine CallK_plain ?_; simp [g0, g1, g5, b5, g18, g19, g20, hlt]) | (refine CallQ_plain ?_; simp [g0, g1, g5, b5, g18, g19, g20, hlt]) | (refine wRet ?_; try simp) | (refine wCond ?_; simp [g0, g1, g5, b5, g18, g19, g20, hlt]) | (refine wBlock ?_) | (refine wExit ?_; try simp) | (refine wSkip ?_; try simp) | (refine wOn ?_; try simp only [thenA_n]) | (refine wQn ?_; try simp only [thenA_n]) | (refine CallE.pure (c1) rfl ?_) | (refine CallE.lent (c1) rfl ?_) | (refine CallF.pure (c1) rfl ?_) | (refine CallF.lent (c1) rfl ?_) | (refine CallE.own (c1) ?_) | (refine CallE.pure (c2) rfl ?_) | (refine CallE.lent (c2) rfl ?_) | (refine CallF.pure (c2) rfl ?_) | (refine CallF.lent (c2) rfl ?_) | (refine CallE.own (c2) ?_) | (refine CallE.pure (awake17) rfl ?_) | (refine CallE.lent (awake17) rfl ?_) | (refine CallF.pure (awake17) rfl ?_) | (refine CallF.lent (awake17) rfl ?_) | (refine CallE.own (awake17) ?_)
    all_goals apply hr
    all_goals simp [Try.f9]
end Go.Proofs.Ytehopfedgkmalaa
