import Derived.Test.YtnjnloonlcknkaaLib
namespace Go.Proofs.Ytnjnloonlcknkaa
set_option linter.unusedSimpArgs false
set_option linter.unusedVariables false
open Go Go.Av
attribute [local simp] Try.T
attribute [local irreducible] Go.Av.CallK Go.Av.CallE Go.Av.CallQ Go.Av.CallF Go.Av.Con

theorem isNaN_con (n : Int) : ACon Try.prog 32 [.p (I n)] (.p (B false)) := by
  refine wBody Try.tab Try.mixed Try.func32 rfl rfl Try.ntmps32 (by simp) (by simp) fun Q hr hn => ?_
  repeat' first | (refine hK _ ?_; clear hK) | (clear hK; refine hK _ ?_; clear hK) | (clear hK; clear hK; refine hK _ ?_; clear hK) | (clear hK; clear hK; clear hK; refine hK _ ?_; clear hK) | (clear hK; clear hK; clear hK; clear hK; refine hK _ ?_; clear hK) | (refine wSeq fun K hK => ?_) | (refine wReg ?_; simp only [List.map_cons, List.map_nil, strip]) | (refine wDrw (by kernel_rfl) ?_; simp only [List.map_cons, List.map_nil, strip]) | (refine wOs fun K hK => ?_; simp) | (refine wQs fun K hK => ?_; simp) | (refine CallK_plain ?_; simp) | (refine CallQ_plain ?_; simp) | (refine wRet ?_; try simp) | (refine wCond ?_; simp) | (refine wBlock ?_) | (refine wExit ?_; try simp) | (refine wSkip ?_; try simp) | (refine wOn ?_; try simp only [thenA_n]) | (refine wQn ?_; try simp only [thenA_n])
  apply hr
  simp [Try.f32]

def cmpInt (a b : Int) : Int := if a < b then -1 else if b < a then 1 else 0
theorem compare_con (a b : Int) : ACon Try.prog 31 [.p (I a), .p (I b)] (.p (I (cmpInt a b))) := by
  refine wBody Try.tab Try.mixed Try.func31 rfl rfl Try.ntmps31 (by simp) (by simp) fun Q hr hn => ?_
  repeat' first | (refine hK _ ?_; clear hK) | (clear hK; refine hK _ ?_; clear hK) | (clear hK; clear hK; refine hK _ ?_; clear hK) | (clear hK; clear hK; clear hK; refine hK _ ?_; clear hK) | (clear hK; clear hK; clear hK; clear hK; refine hK _ ?_; clear hK) | (refine wSeq fun K hK => ?_) | (refine wReg ?_; simp only [List.map_cons, List.map_nil, strip]) | (refine wDrw (by kernel_rfl) ?_; simp only [List.map_cons, List.map_nil, strip]) | (refine wOs fun K hK => ?_; simp) | (refine wQs fun K hK => ?_; simp) | (refine CallK_plain ?_; simp) | (refine CallQ_plain ?_; simp) | (refine wRet ?_; try simp) | (refine wCond ?_; simp) | (refine wBlock ?_) | (refine wExit ?_; try simp) | (refine wSkip ?_; try simp) | (refine wOn ?_; try simp only [thenA_n]) | (refine wQn ?_; try simp only [thenA_n]) | (refine CallE.pure (isNaN_con _) rfl ?_) | (refine CallE.lent (isNaN_con _) rfl ?_) | (refine CallF.pure (isNaN_con _) rfl ?_) | (refine CallF.lent (isNaN_con _) rfl ?_) | (refine CallE.own (isNaN_con _) ?_) | (refine And.intro (fun _ => ?_) (fun _ => ?_))
  all_goals (apply hr; simp [Try.f31, cmpInt]; try omega)

def orL : List Int → Int
  | [] => 0
  | a :: l => if a = 0 then orL l else a

theorem or_con (l : List Int) : ACon Try.prog 30 [.p (.sl 1 (l.map fun n => [I n]))] (.p (I (orL l))) := by
  refine ACon.len ⟨Try.f30, Try.func30, rfl, rfl⟩ 0 _ _ rfl fun hlen => ?_
  simp only [List.length_map] at hlen
  refine wBody Try.tab Try.mixed Try.func30 rfl rfl Try.ntmps30 (by simp) (by simp) fun Q hr hn => ?_
  repeat' first | (refine hK _ ?_; clear hK) | (clear hK; refine hK _ ?_; clear hK) | (clear hK; clear hK; refine hK _ ?_; clear hK) | (clear hK; clear hK; clear hK; refine hK _ ?_; clear hK) | (clear hK; clear hK; clear hK; clear hK; refine hK _ ?_; clear hK) | (refine wSeq fun K hK => ?_) | (refine wReg ?_; simp only [List.map_cons, List.map_nil, strip]) | (refine wDrw (by kernel_rfl) ?_; simp only [List.map_cons, List.map_nil, strip]) | (refine wOs fun K hK => ?_; simp) | (refine wQs fun K hK => ?_; simp) | (refine CallK_plain ?_; simp) | (refine CallQ_plain ?_; simp) | (refine wRet ?_; try simp) | (refine wCond ?_; simp) | (refine wBlock ?_) | (refine wExit ?_; try simp) | (refine wSkip ?_; try simp) | (refine wOn ?_; try simp only [thenA_n]) | (refine wQn ?_; try simp only [thenA_n])
  refine wLoop (fun n st => ∃ k, k + n = l.length ∧ st.s 6 = .p (.sl 1 (l.map fun n => [I n])) ∧ st.s 7 = .p (I l.length) ∧ st.s 8 = .p (I k) ∧ st.s 3 = .p (I 0) ∧ orL (l.drop k) = orL l) l.length ⟨0, by simp⟩ fun K n st hL ⟨k, hk, h6, h7, h8, h3, hor⟩ => ?_
  by_cases hlt : k < l.length
  · have hw : IntKind.i64.wrap ((k : Int) + 1) = ((k + 1 : Nat) : Int) := by rw [wrap_id] <;> omega
    have hd : l.drop k = l[k] :: l.drop (k + 1) := List.drop_eq_getElem_cons hlt
    have he : l[k]? = some l[k] := List.getElem?_eq_getElem hlt
    rw [hd, orL] at hor
    repeat' first | (refine hK _ ?_; clear hK) | (clear hK; refine hK _ ?_; clear hK) | (clear hK; clear hK; refine hK _ ?_; clear hK) | (clear hK; clear hK; clear hK; refine hK _ ?_; clear hK) | (clear hK; clear hK; clear hK; clear hK; refine hK _ ?_; clear hK) | (refine wSeq fun K hK => ?_) | (refine wReg ?_; simp only [List.map_cons, List.map_nil, strip]) | (refine wDrw (by kernel_rfl) ?_; simp only [List.map_cons, List.map_nil, strip]) | (refine wOs fun K hK => ?_; simp [h6, h7, h8, h3, hlt, hw, he]) | (refine wQs fun K hK => ?_; simp [h6, h7, h8, h3, hlt, hw, he]) | (refine CallK_plain ?_; simp [h6, h7, h8, h3, hlt, hw, he]) | (refine CallQ_plain ?_; simp [h6, h7, h8, h3, hlt, hw, he]) | (refine wRet ?_; try simp) | (refine wCond ?_; simp [h6, h7, h8, h3, hlt, hw, he]) | (refine wBlock ?_) | (refine wExit ?_; try simp) | (refine wSkip ?_; try simp) | (refine wOn ?_; try simp only [thenA_n]) | (refine wQn ?_; try simp only [thenA_n]) | (refine And.intro (fun hc => ?_) (fun hc => ?_))
    · apply hr
      simp [Try.f30]
      rw [if_neg hc] at hor; exact hor.symm
    · refine hL _ (n - 1) (by omega) ⟨k + 1, by omega, ?_⟩
      rw [if_pos hc] at hor
      simp [h6, h7, h3, hw, hor]
  · have hd : l.drop k = [] := List.drop_of_length_le (by omega)
    rw [hd] at hor
    repeat' first | (refine hK _ ?_; clear hK) | (clear hK; refine hK _ ?_; clear hK) | (clear hK; clear hK; refine hK _ ?_; clear hK) | (clear hK; clear hK; clear hK; refine hK _ ?_; clear hK) | (clear hK; clear hK; clear hK; clear hK; refine hK _ ?_; clear hK) | (refine wSeq fun K hK => ?_) | (refine wReg ?_; simp only [List.map_cons, List.map_nil, strip]) | (refine wDrw (by kernel_rfl) ?_; simp only [List.map_cons, List.map_nil, strip]) | (refine wOs fun K hK => ?_; simp [h6, h7, h8, h3, hlt]) | (refine wQs fun K hK => ?_; simp [h6, h7, h8, h3, hlt]) | (refine CallK_plain ?_; simp [h6, h7, h8, h3, hlt]) | (refine CallQ_plain ?_; simp [h6, h7, h8, h3, hlt]) | (refine wRet ?_; try simp) | (refine wCond ?_; simp [h6, h7, h8, h3, hlt]) | (refine wBlock ?_) | (refine wExit ?_; try simp) | (refine wSkip ?_; try simp) | (refine wOn ?_; try simp only [thenA_n]) | (refine wQn ?_; try simp only [thenA_n])
    apply hr
    simp [Try.f30, h3, ← hor, orL]

def zcmp (a b c d : Int) : Int := if a = c ∧ b = d then 0 else orL [cmpInt a c, cmpInt b d]
theorem cmp_con (a b c d : Int) : ACon Try.prog 27 [.p (.agg [I a, I b]), .p (.agg [I c, I d])] (.p (I (zcmp a b c d))) := by
  have hor := or_con [cmpInt a c, cmpInt b d]
  simp only [List.map_cons, List.map_nil] at hor
  by_cases hab : a = c ∧ b = d
  · obtain ⟨rfl, rfl⟩ := hab
    refine wBody Try.tab Try.mixed Try.func27 rfl rfl Try.ntmps27 (by simp) (by simp) fun Q hr hn => ?_
    repeat' first | (refine hK _ ?_; clear hK) | (clear hK; refine hK _ ?_; clear hK) | (clear hK; clear hK; refine hK _ ?_; clear hK) | (clear hK; clear hK; clear hK; refine hK _ ?_; clear hK) | (clear hK; clear hK; clear hK; clear hK; refine hK _ ?_; clear hK) | (refine wSeq fun K hK => ?_) | (refine wReg ?_; simp only [List.map_cons, List.map_nil, strip]) | (refine wDrw (by kernel_rfl) ?_; simp only [List.map_cons, List.map_nil, strip]) | (refine wOs fun K hK => ?_; simp) | (refine wQs fun K hK => ?_; simp) | (refine CallK_plain ?_; simp) | (refine CallQ_plain ?_; simp) | (refine wRet ?_; try simp) | (refine wCond ?_; simp) | (refine wBlock ?_) | (refine wExit ?_; try simp) | (refine wSkip ?_; try simp) | (refine wOn ?_; try simp only [thenA_n]) | (refine wQn ?_; try simp only [thenA_n])
    apply hr
    simp [Try.f27, zcmp]
  · refine wBody Try.tab Try.mixed Try.func27 rfl rfl Try.ntmps27 (by simp) (by simp) fun Q hr hn => ?_
    repeat' first | (refine hK _ ?_; clear hK) | (clear hK; refine hK _ ?_; clear hK) | (clear hK; clear hK; refine hK _ ?_; clear hK) | (clear hK; clear hK; clear hK; refine hK _ ?_; clear hK) | (clear hK; clear hK; clear hK; clear hK; refine hK _ ?_; clear hK) | (refine wSeq fun K hK => ?_) | (refine wReg ?_; simp only [List.map_cons, List.map_nil, strip]) | (refine wDrw (by kernel_rfl) ?_; simp only [List.map_cons, List.map_nil, strip]) | (refine wOs fun K hK => ?_; simp [hab]) | (refine wQs fun K hK => ?_; simp [hab]) | (refine CallK_plain ?_; simp [hab]) | (refine CallQ_plain ?_; simp [hab]) | (refine wRet ?_; try simp) | (refine wCond ?_; simp [hab]) | (refine wBlock ?_) | (refine wExit ?_; try simp) | (refine wSkip ?_; try simp) | (refine wOn ?_; try simp only [thenA_n]) | (refine wQn ?_; try simp only [thenA_n]) | (refine CallE.pure (compare_con _ _) rfl ?_) | (refine CallE.lent (compare_con _ _) rfl ?_) | (refine CallF.pure (compare_con _ _) rfl ?_) | (refine CallF.lent (compare_con _ _) rfl ?_) | (refine CallE.own (compare_con _ _) ?_) | (refine CallE.pure (hor) rfl ?_) | (refine CallE.lent (hor) rfl ?_) | (refine CallF.pure (hor) rfl ?_) | (refine CallF.lent (hor) rfl ?_) | (refine CallE.own (hor) ?_) | (intro _)
    apply hr
    simp [Try.f27, zcmp, hab]

structure Vt where
  (f r e le ln c m : Int)
  deriving DecidableEq
def Vt.cells (v : Vt) : List PV := [I v.f, I v.r, I v.e, I v.le, I v.ln, I v.c, I v.m]
def better (a b : Vt) : Bool :=
  if a.e ≠ b.e then decide (b.e < a.e) else if ¬ (a.le = b.le ∧ a.ln = b.ln) then decide (0 < zcmp a.le a.ln b.le b.ln) else decide (b.c < a.c)
theorem better_con (a b : Vt) : ACon Try.prog 21 [.p (.agg a.cells), .p (.agg b.cells)] (.p (B (better a b))) := by
  obtain ⟨a0, a1, a2, a3, a4, a5, a6⟩ := a
  obtain ⟨b0, b1, b2, b3, b4, b5, b6⟩ := b
  simp only [Vt.cells, better]
  by_cases he : a2 = b2
  · subst he
    by_cases hl : a3 = b3 ∧ a4 = b4
    · obtain ⟨rfl, rfl⟩ := hl
      refine wBody Try.tab Try.mixed Try.func21 rfl rfl Try.ntmps21 (by simp) (by simp) fun Q hr hn => ?_
      repeat' first | (refine hK _ ?_; clear hK) | (clear hK; refine hK _ ?_; clear hK) | (clear hK; clear hK; refine hK _ ?_; clear hK) | (clear hK; clear hK; clear hK; refine hK _ ?_; clear hK) | (clear hK; clear hK; clear hK; clear hK; refine hK _ ?_; clear hK) | (refine wSeq fun K hK => ?_) | (refine wReg ?_; simp only [List.map_cons, List.map_nil, strip]) | (refine wDrw (by kernel_rfl) ?_; simp only [List.map_cons, List.map_nil, strip]) | (refine wOs fun K hK => ?_; simp) | (refine wQs fun K hK => ?_; simp) | (refine CallK_plain ?_; simp) | (refine CallQ_plain ?_; simp) | (refine wRet ?_; try simp) | (refine wCond ?_; simp) | (refine wBlock ?_) | (refine wExit ?_; try simp) | (refine wSkip ?_; try simp) | (refine wOn ?_; try simp only [thenA_n]) | (refine wQn ?_; try simp only [thenA_n])
      all_goals (apply hr; simp [Try.f21])
    · refine wBody Try.tab Try.mixed Try.func21 rfl rfl Try.ntmps21 (by simp) (by simp) fun Q hr hn => ?_
      repeat' first | (refine hK _ ?_; clear hK) | (clear hK; refine hK _ ?_; clear hK) | (clear hK; clear hK; refine hK _ ?_; clear hK) | (clear hK; clear hK; clear hK; refine hK _ ?_; clear hK) | (clear hK; clear hK; clear hK; clear hK; refine hK _ ?_; clear hK) | (refine wSeq fun K hK => ?_) | (refine wReg ?_; simp only [List.map_cons, List.map_nil, strip]) | (refine wDrw (by kernel_rfl) ?_; simp only [List.map_cons, List.map_nil, strip]) | (refine wOs fun K hK => ?_; simp [hl]) | (refine wQs fun K hK => ?_; simp [hl]) | (refine CallK_plain ?_; simp [hl]) | (refine CallQ_plain ?_; simp [hl]) | (refine wRet ?_; try simp) | (refine wCond ?_; simp [hl]) | (refine wBlock ?_) | (refine wExit ?_; try simp) | (refine wSkip ?_; try simp) | (refine wOn ?_; try simp only [thenA_n]) | (refine wQn ?_; try simp only [thenA_n]) | (refine CallE.pure (cmp_con _ _ _ _) rfl ?_) | (refine CallE.lent (cmp_con _ _ _ _) rfl ?_) | (refine CallF.pure (cmp_con _ _ _ _) rfl ?_) | (refine CallF.lent (cmp_con _ _ _ _) rfl ?_) | (refine CallE.own (cmp_con _ _ _ _) ?_) | (intro _)
      all_goals (apply hr; simp [Try.f21, hl])
  · refine wBody Try.tab Try.mixed Try.func21 rfl rfl Try.ntmps21 (by simp) (by simp) fun Q hr hn => ?_
    repeat' first | (refine hK _ ?_; clear hK) | (clear hK; refine hK _ ?_; clear hK) | (clear hK; clear hK; refine hK _ ?_; clear hK) | (clear hK; clear hK; clear hK; refine hK _ ?_; clear hK) | (clear hK; clear hK; clear hK; clear hK; refine hK _ ?_; clear hK) | (refine wSeq fun K hK => ?_) | (refine wReg ?_; simp only [List.map_cons, List.map_nil, strip]) | (refine wDrw (by kernel_rfl) ?_; simp only [List.map_cons, List.map_nil, strip]) | (refine wOs fun K hK => ?_; simp [he]) | (refine wQs fun K hK => ?_; simp [he]) | (refine CallK_plain ?_; simp [he]) | (refine CallQ_plain ?_; simp [he]) | (refine wRet ?_; try simp) | (refine wCond ?_; simp [he]) | (refine wBlock ?_) | (refine wExit ?_; try simp) | (refine wSkip ?_; try simp) | (refine wOn ?_; try simp only [thenA_n]) | (refine wQn ?_; try simp only [thenA_n])
    all_goals (apply hr; simp [Try.f21, he])

def Vt.zero : Vt := ⟨0, 0, 0, 0, 0, 0, 0⟩
def bestGo (b : Vt) : List Vt → Vt
  | [] => b
  | v :: l => bestGo (if better v b then v else b) l
def best : List Vt → Vt
  | [] => Vt.zero
  | v :: l => bestGo v l
theorem best_con (l : List Vt) : ACon Try.prog 19 [.p (.sl 7 (l.map Vt.cells))] (.tup [.p (.agg (best l).cells), .p (B (decide (0 < l.length)))]) := by
  refine ACon.len ⟨Try.f19, Try.func19, rfl, rfl⟩ 0 _ _ rfl fun hlen => ?_
  simp only [List.length_map] at hlen
  refine wBody Try.tab Try.mixed Try.func19 rfl rfl Try.ntmps19 (by simp) (by simp) fun Q hr hn => ?_
  repeat' first | (refine hK _ ?_; clear hK) | (clear hK; refine hK _ ?_; clear hK) | (clear hK; clear hK; refine hK _ ?_; clear hK) | (clear hK; clear hK; clear hK; refine hK _ ?_; clear hK) | (clear hK; clear hK; clear hK; clear hK; refine hK _ ?_; clear hK) | (refine wSeq fun K hK => ?_) | (refine wReg ?_; simp only [List.map_cons, List.map_nil, strip]) | (refine wDrw (by kernel_rfl) ?_; simp only [List.map_cons, List.map_nil, strip]) | (refine wOs fun K hK => ?_; simp) | (refine wQs fun K hK => ?_; simp) | (refine CallK_plain ?_; simp) | (refine CallQ_plain ?_; simp) | (refine wRet ?_; try simp) | (refine wCond ?_; simp) | (refine wBlock ?_) | (refine wExit ?_; try simp) | (refine wSkip ?_; try simp) | (refine wOn ?_; try simp only [thenA_n]) | (refine wQn ?_; try simp only [thenA_n])
  refine wLoop (fun n st => ∃ k b, k + n = l.length ∧ st.s 0 = .p (.sl 7 (l.map Vt.cells)) ∧ st.s 7 = .p (.sl 7 (l.map Vt.cells)) ∧ st.s 8 = .p (I l.length) ∧ st.s 9 = .p (I k) ∧ st.s 2 = .ptr 2 0 ∧ st.s 4 = .ptr 4 0 ∧
    st.b 2 = some (.box 38 (Vt.zero.cells.map .p)) ∧ st.b 4 = some (.box 38 (b.cells.map .p)) ∧ ((k = 0 ∧ b = Vt.zero) ∨ (0 < k ∧ bestGo b (l.drop k) = best l))) l.length ⟨0, Vt.zero, by simp [Vt.zero, Vt.cells]⟩ fun K n st hL ⟨k, b, hk, h0, h7, h8, h9, h2, h4, b2, b4, hb⟩ => ?_
  obtain ⟨b0, b1, b2', b3, b4', b5, b6⟩ := b
  simp only [Vt.cells, Vt.zero, List.map_cons, List.map_nil] at b2 b4
  by_cases hlt : k < l.length
  · have hw : IntKind.i64.wrap ((k : Int) + 1) = ((k + 1 : Nat) : Int) := by rw [wrap_id] <;> omega
    have hd : l.drop k = l[k] :: l.drop (k + 1) := List.drop_eq_getElem_cons hlt
    have he : l[k]? = some l[k] := List.getElem?_eq_getElem hlt
    rw [hd] at hb
    have hx := better_con l[k] ⟨b0, b1, b2', b3, b4', b5, b6⟩
    simp only [Vt.cells] at hx
    by_cases hk0 : k = 0
    · subst hk0
      have hw1 : IntKind.i64.wrap 1 = 1 := by rw [wrap_id] <;> omega
      simp at h9
      repeat' first | (refine hK _ ?_; clear hK) | (clear hK; refine hK _ ?_; clear hK) | (clear hK; clear hK; refine hK _ ?_; clear hK) | (clear hK; clear hK; clear hK; refine hK _ ?_; clear hK) | (clear hK; clear hK; clear hK; clear hK; refine hK _ ?_; clear hK) | (refine wSeq fun K hK => ?_) | (refine wReg ?_; simp only [List.map_cons, List.map_nil, strip]) | (refine wDrw (by kernel_rfl) ?_; simp only [List.map_cons, List.map_nil, strip]) | (refine wOs fun K hK => ?_; simp [h0, h7, h8, h9, h2, h4, b2, b4, hlt, Vt.cells]) | (refine wQs fun K hK => ?_; simp [h0, h7, h8, h9, h2, h4, b2, b4, hlt, Vt.cells]) | (refine CallK_plain ?_; simp [h0, h7, h8, h9, h2, h4, b2, b4, hlt, Vt.cells]) | (refine CallQ_plain ?_; simp [h0, h7, h8, h9, h2, h4, b2, b4, hlt, Vt.cells]) | (refine wRet ?_; try simp) | (refine wCond ?_; simp [h0, h7, h8, h9, h2, h4, b2, b4, hlt, Vt.cells]) | (refine wBlock ?_) | (refine wExit ?_; try simp) | (refine wSkip ?_; try simp) | (refine wOn ?_; try simp only [thenA_n]) | (refine wQn ?_; try simp only [thenA_n])
      refine hL _ (n - 1) (by omega) ⟨1, l[0], by omega, ?_⟩
      have hbest : bestGo l[0] (l.drop 1) = best l := by
        conv => rhs; rw [show l = l[0] :: l.drop 1 from hd]
        rfl
      rw [List.drop_one] at hbest
      simp [h0, h7, h8, h2, h4, b2, hw1, hbest, Vt.zero, Vt.cells]
    · have hkb : ¬ ((k : Int) = 0) := by omega
      obtain ⟨-, hb⟩ := hb.resolve_left (fun h => hk0 h.1)
      rw [bestGo] at hb
      by_cases hbt : better l[k] ⟨b0, b1, b2', b3, b4', b5, b6⟩ = true
      · rw [if_pos hbt] at hb
        rw [hbt] at hx
        repeat' first | (refine hK _ ?_; clear hK) | (clear hK; refine hK _ ?_; clear hK) | (clear hK; clear hK; refine hK _ ?_; clear hK) | (clear hK; clear hK; clear hK; refine hK _ ?_; clear hK) | (clear hK; clear hK; clear hK; clear hK; refine hK _ ?_; clear hK) | (refine wSeq fun K hK => ?_) | (refine wReg ?_; simp only [List.map_cons, List.map_nil, strip]) | (refine wDrw (by kernel_rfl) ?_; simp only [List.map_cons, List.map_nil, strip]) | (refine wOs fun K hK => ?_; simp [h0, h7, h8, h9, h2, h4, b2, b4, hlt, hk0, hw, Vt.cells]) | (refine wQs fun K hK => ?_; simp [h0, h7, h8, h9, h2, h4, b2, b4, hlt, hk0, hw, Vt.cells]) | (refine CallK_plain ?_; simp [h0, h7, h8, h9, h2, h4, b2, b4, hlt, hk0, hw, Vt.cells]) | (refine CallQ_plain ?_; simp [h0, h7, h8, h9, h2, h4, b2, b4, hlt, hk0, hw, Vt.cells]) | (refine wRet ?_; try simp) | (refine wCond ?_; simp [h0, h7, h8, h9, h2, h4, b2, b4, hlt, hk0, hw, Vt.cells]) | (refine wBlock ?_) | (refine wExit ?_; try simp) | (refine wSkip ?_; try simp) | (refine wOn ?_; try simp only [thenA_n]) | (refine wQn ?_; try simp only [thenA_n]) | (refine CallE.pure (hx) rfl ?_) | (refine CallE.lent (hx) rfl ?_) | (refine CallF.pure (hx) rfl ?_) | (refine CallF.lent (hx) rfl ?_) | (refine CallE.own (hx) ?_)
        refine hL _ (n - 1) (by omega) ⟨k + 1, l[k], by omega, ?_⟩
        simp [h0, h7, h8, h2, h4, b2, hw, hb, Vt.zero, Vt.cells]
      · rw [if_neg hbt] at hb
        have hbf : better l[k] ⟨b0, b1, b2', b3, b4', b5, b6⟩ = false := by simpa using hbt
        rw [hbf] at hx
        repeat' first | (refine hK _ ?_; clear hK) | (clear hK; refine hK _ ?_; clear hK) | (clear hK; clear hK; refine hK _ ?_; clear hK) | (clear hK; clear hK; clear hK; refine hK _ ?_; clear hK) | (clear hK; clear hK; clear hK; clear hK; refine hK _ ?_; clear hK) | (refine wSeq fun K hK => ?_) | (refine wReg ?_; simp only [List.map_cons, List.map_nil, strip]) | (refine wDrw (by kernel_rfl) ?_; simp only [List.map_cons, List.map_nil, strip]) | (refine wOs fun K hK => ?_; simp [h0, h7, h8, h9, h2, h4, b2, b4, hlt, hk0, hw, Vt.cells]) | (refine wQs fun K hK => ?_; simp [h0, h7, h8, h9, h2, h4, b2, b4, hlt, hk0, hw, Vt.cells]) | (refine CallK_plain ?_; simp [h0, h7, h8, h9, h2, h4, b2, b4, hlt, hk0, hw, Vt.cells]) | (refine CallQ_plain ?_; simp [h0, h7, h8, h9, h2, h4, b2, b4, hlt, hk0, hw, Vt.cells]) | (refine wRet ?_; try simp) | (refine wCond ?_; simp [h0, h7, h8, h9, h2, h4, b2, b4, hlt, hk0, hw, Vt.cells]) | (refine wBlock ?_) | (refine wExit ?_; try simp) | (refine wSkip ?_; try simp) | (refine wOn ?_; try simp only [thenA_n]) | (refine wQn ?_; try simp only [thenA_n]) | (refine CallE.pure (hx) rfl ?_) | (refine CallE.lent (hx) rfl ?_) | (refine CallF.pure (hx) rfl ?_) | (refine CallF.lent (hx) rfl ?_) | (refine CallE.own (hx) ?_)
        refine hL _ (n - 1) (by omega) ⟨k + 1, ⟨b0, b1, b2', b3, b4', b5, b6⟩, by omega, ?_⟩
        simp [h0, h7, h8, h2, h4, b2, b4, hw, hb, Vt.zero, Vt.cells]
  · have hbest : (⟨b0, b1, b2', b3, b4', b5, b6⟩ : Vt) = best l := by
      rcases hb with ⟨h1, h2⟩ | ⟨h1, h2⟩
      · have : l = [] := List.length_eq_zero_iff.1 (by omega)
        rw [this, h2]; rfl
      · rw [List.drop_of_length_le (by omega)] at h2
        exact h2
    repeat' first | (refine hK _ ?_; clear hK) | (clear hK; refine hK _ ?_; clear hK) | (clear hK; clear hK; refine hK _ ?_; clear hK) | (clear hK; clear hK; clear hK; refine hK _ ?_; clear hK) | (clear hK; clear hK; clear hK; clear hK; refine hK _ ?_; clear hK) | (refine wSeq fun K hK => ?_) | (refine wReg ?_; simp only [List.map_cons, List.map_nil, strip]) | (refine wDrw (by kernel_rfl) ?_; simp only [List.map_cons, List.map_nil, strip]) | (refine wOs fun K hK => ?_; simp [h0, h7, h8, h9, h2, h4, b2, b4, hlt]) | (refine wQs fun K hK => ?_; simp [h0, h7, h8, h9, h2, h4, b2, b4, hlt]) | (refine CallK_plain ?_; simp [h0, h7, h8, h9, h2, h4, b2, b4, hlt]) | (refine CallQ_plain ?_; simp [h0, h7, h8, h9, h2, h4, b2, b4, hlt]) | (refine wRet ?_; try simp) | (refine wCond ?_; simp [h0, h7, h8, h9, h2, h4, b2, b4, hlt]) | (refine wBlock ?_) | (refine wExit ?_; try simp) | (refine wSkip ?_; try simp) | (refine wOn ?_; try simp only [thenA_n]) | (refine wQn ?_; try simp only [thenA_n])
    apply hr
    rw [← hbest]
    simp [Try.f19, Vt.cells, h0, h2, h4, b2, b4]

end Go.Proofs.Ytnjnloonlcknkaa
