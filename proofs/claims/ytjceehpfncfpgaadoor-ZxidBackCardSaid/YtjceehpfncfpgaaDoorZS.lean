/- Layer 2: numbers and places, as text; the document's. -/
import Derived.Test.YtjceehpfncfpgaaDoorZM
import Derived.Test.YtjceehpfncfpgaaDoorAvStr
namespace Go.Proofs.YtjceehpfncfpgaaDoor
set_option linter.unusedSimpArgs false
set_option linter.unusedVariables false
open Go Go.Av
attribute [local simp] Tryd.T1 Tryd.T2 Tryd.T3 Tryd.T4 Tryd.T5 Tryd.T9 Tryd.T12 Tryd.T21 Tryd.T23 Tryd.T24 Tryd.T25 Tryd.T27 Tryd.T28 Tryd.T29 Tryd.T30 Tryd.T31 Tryd.T33 Tryd.T34 Tryd.T35 Tryd.T36 Tryd.T37 Tryd.T38 Tryd.T39 Tryd.T40 Tryd.T41 Tryd.T42 Tryd.T44 Tryd.T45 Tryd.T47 Tryd.T49 Tryd.T50 Tryd.T51 Tryd.T52 Tryd.T53 Tryd.T54 Tryd.T55 Tryd.T56 Tryd.T57 Tryd.T59 Tryd.T60 Tryd.T61 Tryd.T62 Tryd.T63 Tryd.T64 Tryd.T66 Tryd.T68 Tryd.T69 Tryd.T70 Tryd.T71 Tryd.T72 Tryd.T73 Tryd.T75 Tryd.T76 Tryd.T77 Tryd.T78 Tryd.T79 Tryd.T80 Tryd.T81 Tryd.T83 Tryd.T84 Tryd.T85 Tryd.T86 Tryd.T87 Tryd.T88 Tryd.T89 Tryd.T90 Tryd.T91 Tryd.T92 Tryd.T93 Tryd.T94 Tryd.T95 Tryd.T96 Tryd.T98 Tryd.T99 Tryd.T101 Tryd.T102 Tryd.T104 Tryd.T105 Tryd.T106 Tryd.T108 Tryd.T109 Tryd.T112 Tryd.T113 Tryd.T114 Tryd.T115 Tryd.T116 Tryd.T122 Tryd.T125
attribute [local irreducible] Go.Av.CallK Go.Av.CallE Go.Av.CallQ Go.Av.CallF Go.Av.Con

def dig (b : UInt8) : Bool := decide (48 ≤ b.toNat ∧ b.toNat ≤ 57)
def dv (l : List UInt8) : Int := l.foldl (fun (n : Int) b => 10 * n + ((b.toNat : Int) - 48)) 0
theorem dv_snoc (l : List UInt8) (k : Nat) (h : k < l.length) : dv (l.take (k + 1)) = 10 * dv (l.take k) + ((l[k].toNat : Int) - 48) := by
  rw [List.take_succ_eq_append_getElem h, dv, List.foldl_append]; rfl
theorem all_snoc (l : List UInt8) (k : Nat) (h : k < l.length) : (l.take (k + 1)).all dig = ((l.take k).all dig && dig l[k]) := by
  rw [List.take_succ_eq_append_getElem h, List.all_append]; simp
theorem all_take {l : List UInt8} (k : Nat) (h : l.all dig = true) : (l.take k).all dig = true := by
  rw [List.all_eq_true] at h ⊢
  exact fun x hx => h x (List.mem_of_mem_take hx)
theorem dv_bound (l : List UInt8) : ∀ k, (l.take k).all dig = true → 0 ≤ dv (l.take k) ∧ dv (l.take k) < (10 ^ k : Nat) := by
  intro k
  induction k with
  | zero => intro _; simp [dv]
  | succ k ih =>
    intro h
    by_cases hk : k < l.length
    · rw [all_snoc l k hk, Bool.and_eq_true] at h
      obtain ⟨h1, h2⟩ := ih h.1
      rw [dv_snoc l k hk]
      have h3 := h.2
      simp only [dig, decide_eq_true_eq] at h3
      rw [Nat.pow_succ]
      generalize 10 ^ k = p at h2 ⊢
      omega
    · rw [List.take_of_length_le (by omega)] at h ⊢
      rw [List.take_of_length_le (by omega)] at ih
      obtain ⟨h1, h2⟩ := ih h
      refine ⟨h1, ?_⟩
      rw [Nat.pow_succ]
      generalize 10 ^ k = p at h2 ⊢
      omega
theorem dv_13 {l : List UInt8} {k : Nat} (hl : l.length ≤ 13) (h : (l.take k).all dig = true) : 0 ≤ dv (l.take k) ∧ dv (l.take k) < 10000000000000 := by
  have hm : l.take k = l.take (min k l.length) := by
    by_cases hk : k ≤ l.length
    · rw [Nat.min_eq_left hk]
    · rw [Nat.min_eq_right (by omega), List.take_of_length_le (by omega), List.take_of_length_le (by omega)]
  rw [hm] at h ⊢
  obtain ⟨h1, h2⟩ := dv_bound l _ h
  have h3 : 10 ^ (min k l.length) ≤ 10 ^ 13 := Nat.pow_le_pow_right (by omega) (by omega)
  refine ⟨h1, Int.lt_of_lt_of_le h2 ?_⟩
  have : ((10 ^ (min k l.length) : Nat) : Int) ≤ ((10 ^ 13 : Nat) : Int) := by exact_mod_cast h3
  simpa using this
def badN (l : List UInt8) : Bool := decide (l = [] ∨ 13 < l.length ∨ (l[0]? = some 48 ∧ l ≠ [48])) || !l.all dig
def num (l : List UInt8) : Int × Bool := if badN l = true then (0, false) else (dv l, decide (dv l ≤ 1099511627776))
/-- The loop of number, and of the document's. -/
theorem numL {Q : AExit → St → Prop} {st : St} (l : List UInt8) (hl : l.length ≤ 13) (hret : l.all dig = false → ∀ st, st.s 2 = .p (I 0) ∧ st.s 3 = .p (B false) → Q .ret st)
    (hex : l.all dig = true → ∀ st, st.s 4 = .p (I (dv l)) → Q (.exit 0) st) (h0 : st.s 24 = .p (.sl 1 (l.map fun b => [.v (.int .u8 b.toNat)])) ∧ st.s 25 = .p (I l.length) ∧ st.s 26 = .p (I 0) ∧ st.s 4 = .p (I 0)) :
    WC Tryd.prog Tryd.T 46 (lp Tryd.f49 0) Q st := by
  obtain ⟨g24, g25, g26, g4⟩ := h0
  refine wLoop (fun N st => ∃ k, k + N = l.length ∧ (l.take k).all dig = true ∧ st.s 24 = .p (.sl 1 (l.map fun b => [.v (.int .u8 b.toNat)])) ∧ st.s 25 = .p (I l.length) ∧ st.s 26 = .p (I k) ∧ st.s 4 = .p (I (dv (l.take k)))) l.length ⟨0, by simp, by simp, g24, g25, g26, g4⟩ fun K N st hL ⟨k, hk, ha, g24, g25, g26, g4⟩ => ?_
  by_cases hlt : k < l.length
  · have hw := wrapS k _ hlt (by omega)
    have hs := dv_snoc l k hlt
    have has := all_snoc l k hlt
    have hb := dv_13 hl ha
    rw [ha, Bool.true_and] at has
    by_cases d1 : (l[k].toNat : Int) < 48
    · have hn : l.all dig = false := by
        cases h : l.all dig with
        | false => rfl
        | true => have := all_take (k + 1) h; rw [has] at this; simp [dig] at this; omega
      repeat' first | (refine hK _ ?_; clear hK) | (refine hK _ _ ?_; clear hK) | (clear hK; refine hK _ ?_; clear hK) | (clear hK; clear hK; refine hK _ ?_; clear hK) | (clear hK; clear hK; clear hK; refine hK _ ?_; clear hK) | (clear hK; clear hK; clear hK; clear hK; refine hK _ ?_; clear hK) | (refine wSeq fun K hK => ?_) | (refine wReg ?_; simp only [List.map_cons, List.map_nil, strip]) | (refine wDrwQ rfl (by kernel_rfl) ?_; simp only [List.map_cons, List.map_nil, strip]) | (refine wDrwI ?_; simp only [List.map_cons, List.map_nil, strip]) | (refine wDrw (by kernel_rfl) ?_; simp only [List.map_cons, List.map_nil, strip]) | (refine wIs fun K hK => ?_; simp [g24, g25, g26, g4, hlt, hw, d1]) | (refine wIn ?_; refine And.intro (by kernel_rfl) ?_; try simp only [thenA_n]) | (refine wOs fun K hK => ?_; simp [g24, g25, g26, g4, hlt, hw, d1]) | (refine wQs fun K hK => ?_; simp [g24, g25, g26, g4, hlt, hw, d1]) | (refine CallK_plain ?_; simp [g24, g25, g26, g4, hlt, hw, d1]) | (refine CallQ_plain ?_; simp [g24, g25, g26, g4, hlt, hw, d1]) | (refine wRet ?_; try simp) | (refine wCond ?_; simp [g24, g25, g26, g4, hlt, hw, d1]) | (refine wBlock ?_) | (refine wScope ?_) | (refine wExit ?_; try simp) | (refine wSkip ?_; try simp) | (refine wOn ?_; try simp only [thenA_n]) | (refine wQn ?_; try simp only [thenA_n])
      exact hret hn _ ⟨by simp, by simp⟩
    by_cases d2 : 57 < (l[k].toNat : Int)
    · have hn : l.all dig = false := by
        cases h : l.all dig with
        | false => rfl
        | true => have := all_take (k + 1) h; rw [has] at this; simp [dig] at this; omega
      repeat' first | (refine hK _ ?_; clear hK) | (refine hK _ _ ?_; clear hK) | (clear hK; refine hK _ ?_; clear hK) | (clear hK; clear hK; refine hK _ ?_; clear hK) | (clear hK; clear hK; clear hK; refine hK _ ?_; clear hK) | (clear hK; clear hK; clear hK; clear hK; refine hK _ ?_; clear hK) | (refine wSeq fun K hK => ?_) | (refine wReg ?_; simp only [List.map_cons, List.map_nil, strip]) | (refine wDrwQ rfl (by kernel_rfl) ?_; simp only [List.map_cons, List.map_nil, strip]) | (refine wDrwI ?_; simp only [List.map_cons, List.map_nil, strip]) | (refine wDrw (by kernel_rfl) ?_; simp only [List.map_cons, List.map_nil, strip]) | (refine wIs fun K hK => ?_; simp [g24, g25, g26, g4, hlt, hw, d1, d2]) | (refine wIn ?_; refine And.intro (by kernel_rfl) ?_; try simp only [thenA_n]) | (refine wOs fun K hK => ?_; simp [g24, g25, g26, g4, hlt, hw, d1, d2]) | (refine wQs fun K hK => ?_; simp [g24, g25, g26, g4, hlt, hw, d1, d2]) | (refine CallK_plain ?_; simp [g24, g25, g26, g4, hlt, hw, d1, d2]) | (refine CallQ_plain ?_; simp [g24, g25, g26, g4, hlt, hw, d1, d2]) | (refine wRet ?_; try simp) | (refine wCond ?_; simp [g24, g25, g26, g4, hlt, hw, d1, d2]) | (refine wBlock ?_) | (refine wScope ?_) | (refine wExit ?_; try simp) | (refine wSkip ?_; try simp) | (refine wOn ?_; try simp only [thenA_n]) | (refine wQn ?_; try simp only [thenA_n])
      exact hret hn _ ⟨by simp, by simp⟩
    · have hd : dig l[k] = true := by simp [dig]; omega
      rw [hd] at has
      have w1 : IntKind.i64.wrap (10 * dv (l.take k)) = 10 * dv (l.take k) := wrap_id (by omega) (by omega)
      have w2 : IntKind.u8.wrap ((l[k].toNat : Int) - 48) = (l[k].toNat : Int) - 48 := by simp [IntKind.wrap, IntKind.bits, IntKind.signed]; omega
      have w3 : IntKind.i64.wrap ((l[k].toNat : Int) - 48) = (l[k].toNat : Int) - 48 := wrap_id (by omega) (by omega)
      have w4 : IntKind.i64.wrap (10 * dv (l.take k) + ((l[k].toNat : Int) - 48)) = dv (l.take (k + 1)) := by rw [hs]; exact wrap_id (by omega) (by omega)
      generalize dv (l.take k) = a at g4 w1 w4
      repeat' first | (refine hK _ ?_; clear hK) | (refine hK _ _ ?_; clear hK) | (clear hK; refine hK _ ?_; clear hK) | (clear hK; clear hK; refine hK _ ?_; clear hK) | (clear hK; clear hK; clear hK; refine hK _ ?_; clear hK) | (clear hK; clear hK; clear hK; clear hK; refine hK _ ?_; clear hK) | (refine wSeq fun K hK => ?_) | (refine wReg ?_; simp only [List.map_cons, List.map_nil, strip]) | (refine wDrwQ rfl (by kernel_rfl) ?_; simp only [List.map_cons, List.map_nil, strip]) | (refine wDrwI ?_; simp only [List.map_cons, List.map_nil, strip]) | (refine wDrw (by kernel_rfl) ?_; simp only [List.map_cons, List.map_nil, strip]) | (refine wIs fun K hK => ?_; simp [g24, g25, g26, g4, hlt, hw, d1, d2, w1, w2, w3, w4]) | (refine wIn ?_; refine And.intro (by kernel_rfl) ?_; try simp only [thenA_n]) | (refine wOs fun K hK => ?_; simp [g24, g25, g26, g4, hlt, hw, d1, d2, w1, w2, w3, w4]) | (refine wQs fun K hK => ?_; simp [g24, g25, g26, g4, hlt, hw, d1, d2, w1, w2, w3, w4]) | (refine CallK_plain ?_; simp [g24, g25, g26, g4, hlt, hw, d1, d2, w1, w2, w3, w4]) | (refine CallQ_plain ?_; simp [g24, g25, g26, g4, hlt, hw, d1, d2, w1, w2, w3, w4]) | (refine wRet ?_; try simp) | (refine wCond ?_; simp [g24, g25, g26, g4, hlt, hw, d1, d2, w1, w2, w3, w4]) | (refine wBlock ?_) | (refine wScope ?_) | (refine wExit ?_; try simp) | (refine wSkip ?_; try simp) | (refine wOn ?_; try simp only [thenA_n]) | (refine wQn ?_; try simp only [thenA_n])
      refine hL _ (N - 1) (by omega) ⟨k + 1, by omega, has, ?_⟩
      simp [g24, g25, g26, g4, hw, w1, w2, w3, w4]
  · have e : l.take k = l := List.take_of_length_le (by omega)
    rw [e] at ha g4
    repeat' first | (refine hK _ ?_; clear hK) | (refine hK _ _ ?_; clear hK) | (clear hK; refine hK _ ?_; clear hK) | (clear hK; clear hK; refine hK _ ?_; clear hK) | (clear hK; clear hK; clear hK; refine hK _ ?_; clear hK) | (clear hK; clear hK; clear hK; clear hK; refine hK _ ?_; clear hK) | (refine wSeq fun K hK => ?_) | (refine wReg ?_; simp only [List.map_cons, List.map_nil, strip]) | (refine wDrwQ rfl (by kernel_rfl) ?_; simp only [List.map_cons, List.map_nil, strip]) | (refine wDrwI ?_; simp only [List.map_cons, List.map_nil, strip]) | (refine wDrw (by kernel_rfl) ?_; simp only [List.map_cons, List.map_nil, strip]) | (refine wIs fun K hK => ?_; simp [g24, g25, g26, g4, hlt]) | (refine wIn ?_; refine And.intro (by kernel_rfl) ?_; try simp only [thenA_n]) | (refine wOs fun K hK => ?_; simp [g24, g25, g26, g4, hlt]) | (refine wQs fun K hK => ?_; simp [g24, g25, g26, g4, hlt]) | (refine CallK_plain ?_; simp [g24, g25, g26, g4, hlt]) | (refine CallQ_plain ?_; simp [g24, g25, g26, g4, hlt]) | (refine wRet ?_; try simp) | (refine wCond ?_; simp [g24, g25, g26, g4, hlt]) | (refine wBlock ?_) | (refine wScope ?_) | (refine wExit ?_; try simp) | (refine wSkip ?_; try simp) | (refine wOn ?_; try simp only [thenA_n]) | (refine wQn ?_; try simp only [thenA_n])
    exact hex ha _ (by simp [g4])
theorem numL2 {Q : AExit → St → Prop} {st : St} (l : List UInt8) (hl : l.length ≤ 13) (hret : l.all dig = false → ∀ st, st.s 2 = .p (I 0) ∧ st.s 3 = .p (B false) → Q .ret st)
    (hex : l.all dig = true → ∀ st, st.s 4 = .p (I (dv l)) → Q (.exit 0) st) (h0 : st.s 0 = .p (SB l) ∧ st.s 25 = .p (I l.length) ∧ st.s 26 = .p (I 0) ∧ st.s 4 = .p (I 0)) :
    WC Tryd.prog Tryd.T 51 (lp Tryd.f50 0) Q st := by
  obtain ⟨g0, g25, g26, g4⟩ := h0
  refine wLoop (fun N st => ∃ k, k + N = l.length ∧ (l.take k).all dig = true ∧ st.s 0 = .p (SB l) ∧ st.s 25 = .p (I l.length) ∧ st.s 26 = .p (I k) ∧ st.s 4 = .p (I (dv (l.take k)))) l.length ⟨0, by simp, by simp, g0, g25, g26, g4⟩ fun K N st hL ⟨k, hk, ha, g0, g25, g26, g4⟩ => ?_
  by_cases hlt : k < l.length
  · have hw := wrapS k _ hlt (by omega)
    have hs := dv_snoc l k hlt
    have has := all_snoc l k hlt
    have hb := dv_13 hl ha
    rw [ha, Bool.true_and] at has
    by_cases d1 : (l[k].toNat : Int) < 48
    · have hn : l.all dig = false := by
        cases h : l.all dig with
        | false => rfl
        | true => have := all_take (k + 1) h; rw [has] at this; simp [dig] at this; omega
      repeat' first | (refine hK _ ?_; clear hK) | (refine hK _ _ ?_; clear hK) | (clear hK; refine hK _ ?_; clear hK) | (clear hK; clear hK; refine hK _ ?_; clear hK) | (clear hK; clear hK; clear hK; refine hK _ ?_; clear hK) | (clear hK; clear hK; clear hK; clear hK; refine hK _ ?_; clear hK) | (refine wSeq fun K hK => ?_) | (refine wReg ?_; simp only [List.map_cons, List.map_nil, strip]) | (refine wDrwQ rfl (by kernel_rfl) ?_; simp only [List.map_cons, List.map_nil, strip]) | (refine wDrwI ?_; simp only [List.map_cons, List.map_nil, strip]) | (refine wDrw (by kernel_rfl) ?_; simp only [List.map_cons, List.map_nil, strip]) | (refine wIs fun K hK => ?_; simp [g0, g25, g26, g4, hlt, hw, d1]) | (refine wIn ?_; refine And.intro (by kernel_rfl) ?_; try simp only [thenA_n]) | (refine wOs fun K hK => ?_; simp [g0, g25, g26, g4, hlt, hw, d1]) | (refine wQs fun K hK => ?_; simp [g0, g25, g26, g4, hlt, hw, d1]) | (refine CallK_plain ?_; simp [g0, g25, g26, g4, hlt, hw, d1]) | (refine CallQ_plain ?_; simp [g0, g25, g26, g4, hlt, hw, d1]) | (refine wRet ?_; try simp) | (refine wCond ?_; simp [g0, g25, g26, g4, hlt, hw, d1]) | (refine wBlock ?_) | (refine wScope ?_) | (refine wExit ?_; try simp) | (refine wSkip ?_; try simp) | (refine wOn ?_; try simp only [thenA_n]) | (refine wQn ?_; try simp only [thenA_n])
      exact hret hn _ ⟨by simp, by simp⟩
    by_cases d2 : 57 < (l[k].toNat : Int)
    · have hn : l.all dig = false := by
        cases h : l.all dig with
        | false => rfl
        | true => have := all_take (k + 1) h; rw [has] at this; simp [dig] at this; omega
      repeat' first | (refine hK _ ?_; clear hK) | (refine hK _ _ ?_; clear hK) | (clear hK; refine hK _ ?_; clear hK) | (clear hK; clear hK; refine hK _ ?_; clear hK) | (clear hK; clear hK; clear hK; refine hK _ ?_; clear hK) | (clear hK; clear hK; clear hK; clear hK; refine hK _ ?_; clear hK) | (refine wSeq fun K hK => ?_) | (refine wReg ?_; simp only [List.map_cons, List.map_nil, strip]) | (refine wDrwQ rfl (by kernel_rfl) ?_; simp only [List.map_cons, List.map_nil, strip]) | (refine wDrwI ?_; simp only [List.map_cons, List.map_nil, strip]) | (refine wDrw (by kernel_rfl) ?_; simp only [List.map_cons, List.map_nil, strip]) | (refine wIs fun K hK => ?_; simp [g0, g25, g26, g4, hlt, hw, d1, d2]) | (refine wIn ?_; refine And.intro (by kernel_rfl) ?_; try simp only [thenA_n]) | (refine wOs fun K hK => ?_; simp [g0, g25, g26, g4, hlt, hw, d1, d2]) | (refine wQs fun K hK => ?_; simp [g0, g25, g26, g4, hlt, hw, d1, d2]) | (refine CallK_plain ?_; simp [g0, g25, g26, g4, hlt, hw, d1, d2]) | (refine CallQ_plain ?_; simp [g0, g25, g26, g4, hlt, hw, d1, d2]) | (refine wRet ?_; try simp) | (refine wCond ?_; simp [g0, g25, g26, g4, hlt, hw, d1, d2]) | (refine wBlock ?_) | (refine wScope ?_) | (refine wExit ?_; try simp) | (refine wSkip ?_; try simp) | (refine wOn ?_; try simp only [thenA_n]) | (refine wQn ?_; try simp only [thenA_n])
      exact hret hn _ ⟨by simp, by simp⟩
    · have hd : dig l[k] = true := by simp [dig]; omega
      rw [hd] at has
      have w1 : IntKind.i64.wrap (10 * dv (l.take k)) = 10 * dv (l.take k) := wrap_id (by omega) (by omega)
      have w2 : IntKind.u8.wrap ((l[k].toNat : Int) - 48) = (l[k].toNat : Int) - 48 := by simp [IntKind.wrap, IntKind.bits, IntKind.signed]; omega
      have w3 : IntKind.i64.wrap ((l[k].toNat : Int) - 48) = (l[k].toNat : Int) - 48 := wrap_id (by omega) (by omega)
      have w4 : IntKind.i64.wrap (10 * dv (l.take k) + ((l[k].toNat : Int) - 48)) = dv (l.take (k + 1)) := by rw [hs]; exact wrap_id (by omega) (by omega)
      generalize dv (l.take k) = a at g4 w1 w4
      repeat' first | (refine hK _ ?_; clear hK) | (refine hK _ _ ?_; clear hK) | (clear hK; refine hK _ ?_; clear hK) | (clear hK; clear hK; refine hK _ ?_; clear hK) | (clear hK; clear hK; clear hK; refine hK _ ?_; clear hK) | (clear hK; clear hK; clear hK; clear hK; refine hK _ ?_; clear hK) | (refine wSeq fun K hK => ?_) | (refine wReg ?_; simp only [List.map_cons, List.map_nil, strip]) | (refine wDrwQ rfl (by kernel_rfl) ?_; simp only [List.map_cons, List.map_nil, strip]) | (refine wDrwI ?_; simp only [List.map_cons, List.map_nil, strip]) | (refine wDrw (by kernel_rfl) ?_; simp only [List.map_cons, List.map_nil, strip]) | (refine wIs fun K hK => ?_; simp [g0, g25, g26, g4, hlt, hw, d1, d2, w1, w2, w3, w4]) | (refine wIn ?_; refine And.intro (by kernel_rfl) ?_; try simp only [thenA_n]) | (refine wOs fun K hK => ?_; simp [g0, g25, g26, g4, hlt, hw, d1, d2, w1, w2, w3, w4]) | (refine wQs fun K hK => ?_; simp [g0, g25, g26, g4, hlt, hw, d1, d2, w1, w2, w3, w4]) | (refine CallK_plain ?_; simp [g0, g25, g26, g4, hlt, hw, d1, d2, w1, w2, w3, w4]) | (refine CallQ_plain ?_; simp [g0, g25, g26, g4, hlt, hw, d1, d2, w1, w2, w3, w4]) | (refine wRet ?_; try simp) | (refine wCond ?_; simp [g0, g25, g26, g4, hlt, hw, d1, d2, w1, w2, w3, w4]) | (refine wBlock ?_) | (refine wScope ?_) | (refine wExit ?_; try simp) | (refine wSkip ?_; try simp) | (refine wOn ?_; try simp only [thenA_n]) | (refine wQn ?_; try simp only [thenA_n])
      refine hL _ (N - 1) (by omega) ⟨k + 1, by omega, has, ?_⟩
      simp [g0, g25, g26, g4, hw, w1, w2, w3, w4]
  · have e : l.take k = l := List.take_of_length_le (by omega)
    rw [e] at ha g4
    repeat' first | (refine hK _ ?_; clear hK) | (refine hK _ _ ?_; clear hK) | (clear hK; refine hK _ ?_; clear hK) | (clear hK; clear hK; refine hK _ ?_; clear hK) | (clear hK; clear hK; clear hK; refine hK _ ?_; clear hK) | (clear hK; clear hK; clear hK; clear hK; refine hK _ ?_; clear hK) | (refine wSeq fun K hK => ?_) | (refine wReg ?_; simp only [List.map_cons, List.map_nil, strip]) | (refine wDrwQ rfl (by kernel_rfl) ?_; simp only [List.map_cons, List.map_nil, strip]) | (refine wDrwI ?_; simp only [List.map_cons, List.map_nil, strip]) | (refine wDrw (by kernel_rfl) ?_; simp only [List.map_cons, List.map_nil, strip]) | (refine wIs fun K hK => ?_; simp [g0, g25, g26, g4, hlt]) | (refine wIn ?_; refine And.intro (by kernel_rfl) ?_; try simp only [thenA_n]) | (refine wOs fun K hK => ?_; simp [g0, g25, g26, g4, hlt]) | (refine wQs fun K hK => ?_; simp [g0, g25, g26, g4, hlt]) | (refine CallK_plain ?_; simp [g0, g25, g26, g4, hlt]) | (refine CallQ_plain ?_; simp [g0, g25, g26, g4, hlt]) | (refine wRet ?_; try simp) | (refine wCond ?_; simp [g0, g25, g26, g4, hlt]) | (refine wBlock ?_) | (refine wScope ?_) | (refine wExit ?_; try simp) | (refine wSkip ?_; try simp) | (refine wOn ?_; try simp only [thenA_n]) | (refine wQn ?_; try simp only [thenA_n])
    exact hex ha _ (by simp [g4])
theorem num_cons {a : UInt8} {r : List UInt8} (h13 : ¬ 13 < r.length + 1) (hbad : ¬ ((a.toNat : Int) = 48 ∧ r ≠ [])) :
    num (a :: r) = if (a :: r).all dig = true then (dv (a :: r), decide (dv (a :: r) ≤ 1099511627776)) else (0, false) := by
  have hb : ¬ (a = 48 ∧ ¬ r = []) := fun ⟨h1, h2⟩ => hbad ⟨by subst h1; rfl, h2⟩
  have hB : badN (a :: r) = !(a :: r).all dig := by
    have : decide ((a :: r) = [] ∨ 13 < (a :: r).length ∨ ((a :: r)[0]? = some 48 ∧ (a :: r) ≠ [48])) = false := by
      rw [decide_eq_false_iff_not]
      rintro (g | g | ⟨g, g'⟩)
      · exact absurd g (by simp)
      · exact h13 g
      · simp only [List.getElem?_cons_zero, Option.some.injEq] at g
        exact hb ⟨g, fun h => g' (by rw [g, h])⟩
    unfold badN
    rw [this, Bool.false_or]
  unfold num
  rw [hB]
  cases h : (a :: r).all dig <;> simp
set_option maxHeartbeats 2000000 in
theorem number_con (l : List UInt8) (hl : l.length ≤ 9223372036854775807) : ACon Tryd.prog 49 [.p (SB l)] (.tup [.p (I (num l).1), .p (B (num l).2)]) := by
  by_cases h13 : 13 < l.length
  · have hN : num l = (0, false) := by simp [num, badN, h13]
    have h13' : (13 : Int) < l.length := by omega
    have h1' : ¬ (l.length : Int) < 1 := by omega
    have hne : ¬ l = [] := by intro h; subst h; simp at h13
    have hne' : (l == []) = false := by simpa using hne
    rw [hN]
    refine wBody Tryd.tab Tryd.mixed Tryd.func49 rfl rfl Tryd.ntmps49 (by simp) (by simp) fun Q hr hn => ?_
    repeat' first | (refine hK _ ?_; clear hK) | (refine hK _ _ ?_; clear hK) | (clear hK; refine hK _ ?_; clear hK) | (clear hK; clear hK; refine hK _ ?_; clear hK) | (clear hK; clear hK; clear hK; refine hK _ ?_; clear hK) | (clear hK; clear hK; clear hK; clear hK; refine hK _ ?_; clear hK) | (refine wSeq fun K hK => ?_) | (refine wReg ?_; simp only [List.map_cons, List.map_nil, strip]) | (refine wDrwQ rfl (by kernel_rfl) ?_; simp only [List.map_cons, List.map_nil, strip]) | (refine wDrwI ?_; simp only [List.map_cons, List.map_nil, strip]) | (refine wDrw (by kernel_rfl) ?_; simp only [List.map_cons, List.map_nil, strip]) | (refine wIs fun K hK => ?_; simp [h13, h13', h1', hne, hne']) | (refine wIn ?_; refine And.intro (by kernel_rfl) ?_; try simp only [thenA_n]) | (refine wOs fun K hK => ?_; simp [h13, h13', h1', hne, hne']) | (refine wQs fun K hK => ?_; simp [h13, h13', h1', hne, hne']) | (refine CallK_plain ?_; simp [h13, h13', h1', hne, hne']) | (refine CallQ_plain ?_; simp [h13, h13', h1', hne, hne']) | (refine wRet ?_; try simp) | (refine wCond ?_; simp [h13, h13', h1', hne, hne']) | (refine wBlock ?_) | (refine wScope ?_) | (refine wExit ?_; try simp) | (refine wSkip ?_; try simp) | (refine wOn ?_; try simp only [thenA_n]) | (refine wQn ?_; try simp only [thenA_n])
    all_goals apply hr
    all_goals simp [Tryd.f49]
  have h13' : ¬ (13 : Int) < l.length := by omega
  cases l with
  | nil =>
    have hN : num [] = (0, false) := rfl
    rw [hN]
    refine wBody Tryd.tab Tryd.mixed Tryd.func49 rfl rfl Tryd.ntmps49 (by simp) (by simp) fun Q hr hn => ?_
    repeat' first | (refine hK _ ?_; clear hK) | (refine hK _ _ ?_; clear hK) | (clear hK; refine hK _ ?_; clear hK) | (clear hK; clear hK; refine hK _ ?_; clear hK) | (clear hK; clear hK; clear hK; refine hK _ ?_; clear hK) | (clear hK; clear hK; clear hK; clear hK; refine hK _ ?_; clear hK) | (refine wSeq fun K hK => ?_) | (refine wReg ?_; simp only [List.map_cons, List.map_nil, strip]) | (refine wDrwQ rfl (by kernel_rfl) ?_; simp only [List.map_cons, List.map_nil, strip]) | (refine wDrwI ?_; simp only [List.map_cons, List.map_nil, strip]) | (refine wDrw (by kernel_rfl) ?_; simp only [List.map_cons, List.map_nil, strip]) | (refine wIs fun K hK => ?_; simp) | (refine wIn ?_; refine And.intro (by kernel_rfl) ?_; try simp only [thenA_n]) | (refine wOs fun K hK => ?_; simp) | (refine wQs fun K hK => ?_; simp) | (refine CallK_plain ?_; simp) | (refine CallQ_plain ?_; simp) | (refine wRet ?_; try simp) | (refine wCond ?_; simp) | (refine wBlock ?_) | (refine wScope ?_) | (refine wExit ?_; try simp) | (refine wSkip ?_; try simp) | (refine wOn ?_; try simp only [thenA_n]) | (refine wQn ?_; try simp only [thenA_n])
    all_goals apply hr
    all_goals simp [Tryd.f49]
  | cons a r =>
    have hlp := fun {Q} {st} h h' h'' => numL (Q := Q) (st := st) (a :: r) (by omega) h h' h''
    simp only [List.length_cons] at h13 h13' hlp hl
    have h13'' : ¬ (13 : Int) < (r.length : Int) + 1 := by omega
    have h1'' : ¬ (r.length : Int) + 1 < 1 := by omega
    by_cases hbad : (a.toNat : Int) = 48 ∧ r ≠ []
    · obtain ⟨h48, hr0⟩ := hbad
      have ha : a = 48 := UInt8.toNat_inj.1 (show a.toNat = 48 by omega)
      subst ha
      have hN : num (48 :: r) = (0, false) := by simp [num, badN, hr0]
      have hl2 : r.length ≤ 9223372036854775806 := by omega
      have hr1 : (1 : Int) < (r.length : Int) + 1 := by have := List.length_pos_iff.2 hr0; omega
      rw [hN]
      refine wBody Tryd.tab Tryd.mixed Tryd.func49 rfl rfl Tryd.ntmps49 (by simp) (by simp) fun Q hr hn => ?_
      repeat' first | (refine hK _ ?_; clear hK) | (refine hK _ _ ?_; clear hK) | (clear hK; refine hK _ ?_; clear hK) | (clear hK; clear hK; refine hK _ ?_; clear hK) | (clear hK; clear hK; clear hK; refine hK _ ?_; clear hK) | (clear hK; clear hK; clear hK; clear hK; refine hK _ ?_; clear hK) | (refine wSeq fun K hK => ?_) | (refine wReg ?_; simp only [List.map_cons, List.map_nil, strip]) | (refine wDrwQ rfl (by kernel_rfl) ?_; simp only [List.map_cons, List.map_nil, strip]) | (refine wDrwI ?_; simp only [List.map_cons, List.map_nil, strip]) | (refine wDrw (by kernel_rfl) ?_; simp only [List.map_cons, List.map_nil, strip]) | (refine wIs fun K hK => ?_; simp [h13'', h1'', hr0, hr1, hl2]) | (refine wIn ?_; refine And.intro (by kernel_rfl) ?_; try simp only [thenA_n]) | (refine wOs fun K hK => ?_; simp [h13'', h1'', hr0, hr1, hl2]) | (refine wQs fun K hK => ?_; simp [h13'', h1'', hr0, hr1, hl2]) | (refine CallK_plain ?_; simp [h13'', h1'', hr0, hr1, hl2]) | (refine CallQ_plain ?_; simp [h13'', h1'', hr0, hr1, hl2]) | (refine wRet ?_; try simp) | (refine wCond ?_; simp [h13'', h1'', hr0, hr1, hl2]) | (refine wBlock ?_) | (refine wScope ?_) | (refine wExit ?_; try simp) | (refine wSkip ?_; try simp) | (refine wOn ?_; try simp only [thenA_n]) | (refine wQn ?_; try simp only [thenA_n])
      all_goals apply hr
      all_goals simp [Tryd.f49]
    · have hN := num_cons (a := a) (r := r) (by omega) hbad
      have hl2 : r.length ≤ 9223372036854775806 := by omega
      have hcc := counts_con (dv (a :: r))
      have hpos := fun h => (dv_13 (l := a :: r) (k := r.length + 1) (by simp; omega) h)
      rw [List.take_of_length_le (by simp)] at hpos
      by_cases h48 : (a.toNat : Int) = 48
      · have ha : a = 48 := UInt8.toNat_inj.1 (show a.toNat = 48 by omega)
        subst ha
        have hr0 : r = [] := by
          by_cases h : r = []
          · exact h
          · exact absurd ⟨rfl, h⟩ hbad
        subst hr0
        rw [if_pos (by decide)] at hN
        have e1 : dv [48] = 0 := by decide
        rw [e1] at hN hcc hlp
        rw [hN]
        refine wBody Tryd.tab Tryd.mixed Tryd.func49 rfl rfl Tryd.ntmps49 (by simp) (by simp) fun Q hr hn => ?_
        repeat' first | (refine hlp ?_ ?_ ⟨by simp, by simp, by simp, by simp⟩) | (refine hK _ ?_; clear hK) | (refine hK _ _ ?_; clear hK) | (clear hK; refine hK _ ?_; clear hK) | (clear hK; clear hK; refine hK _ ?_; clear hK) | (clear hK; clear hK; clear hK; refine hK _ ?_; clear hK) | (clear hK; clear hK; clear hK; clear hK; refine hK _ ?_; clear hK) | (refine wSeq fun K hK => ?_) | (refine wReg ?_; simp only [List.map_cons, List.map_nil, strip]) | (refine wDrwQ rfl (by kernel_rfl) ?_; simp only [List.map_cons, List.map_nil, strip]) | (refine wDrwI ?_; simp only [List.map_cons, List.map_nil, strip]) | (refine wDrw (by kernel_rfl) ?_; simp only [List.map_cons, List.map_nil, strip]) | (refine wIs fun K hK => ?_; simp) | (refine wIn ?_; refine And.intro (by kernel_rfl) ?_; try simp only [thenA_n]) | (refine wOs fun K hK => ?_; simp) | (refine wQs fun K hK => ?_; simp) | (refine CallK_plain ?_; simp) | (refine CallQ_plain ?_; simp) | (refine wRet ?_; try simp) | (refine wCond ?_; simp) | (refine wBlock ?_) | (refine wScope ?_) | (refine wExit ?_; try simp) | (refine wSkip ?_; try simp) | (refine wOn ?_; try simp only [thenA_n]) | (refine wQn ?_; try simp only [thenA_n])
        · intro hd; exact absurd hd (by decide)
        · intro _ st g4
          simp only [blockA_e, if_true, thenA_n]
          repeat' first | (refine hK _ ?_; clear hK) | (refine hK _ _ ?_; clear hK) | (clear hK; refine hK _ ?_; clear hK) | (clear hK; clear hK; refine hK _ ?_; clear hK) | (clear hK; clear hK; clear hK; refine hK _ ?_; clear hK) | (clear hK; clear hK; clear hK; clear hK; refine hK _ ?_; clear hK) | (refine wSeq fun K hK => ?_) | (refine wReg ?_; simp only [List.map_cons, List.map_nil, strip]) | (refine wDrwQ rfl (by kernel_rfl) ?_; simp only [List.map_cons, List.map_nil, strip]) | (refine wDrwI ?_; simp only [List.map_cons, List.map_nil, strip]) | (refine wDrw (by kernel_rfl) ?_; simp only [List.map_cons, List.map_nil, strip]) | (refine wIs fun K hK => ?_; simp [g4]) | (refine wIn ?_; refine And.intro (by kernel_rfl) ?_; try simp only [thenA_n]) | (refine wOs fun K hK => ?_; simp [g4]) | (refine wQs fun K hK => ?_; simp [g4]) | (refine CallK_plain ?_; simp [g4]) | (refine CallQ_plain ?_; simp [g4]) | (refine wRet ?_; try simp) | (refine wCond ?_; simp [g4]) | (refine wBlock ?_) | (refine wScope ?_) | (refine wExit ?_; try simp) | (refine wSkip ?_; try simp) | (refine wOn ?_; try simp only [thenA_n]) | (refine wQn ?_; try simp only [thenA_n]) | (refine CallE.pure (hcc) rfl ?_) | (refine CallE.lent (hcc) rfl ?_) | (refine CallF.pure (hcc) rfl ?_) | (refine CallF.lent (hcc) rfl ?_) | (refine CallE.own (hcc) ?_)
          all_goals apply hr
          all_goals simp [Tryd.f49, g4]
      · by_cases hr1 : (1 : Int) < (r.length : Int) + 1
        all_goals
          cases hd : (a :: r).all dig
          · rw [hd, if_neg (by simp)] at hN
            rw [hN]
            refine wBody Tryd.tab Tryd.mixed Tryd.func49 rfl rfl Tryd.ntmps49 (by simp) (by simp) fun Q hr hn => ?_
            repeat' first | (refine hlp ?_ ?_ ⟨by simp, by simp, by simp, by simp⟩) | (refine hK _ ?_; clear hK) | (refine hK _ _ ?_; clear hK) | (clear hK; refine hK _ ?_; clear hK) | (clear hK; clear hK; refine hK _ ?_; clear hK) | (clear hK; clear hK; clear hK; refine hK _ ?_; clear hK) | (clear hK; clear hK; clear hK; clear hK; refine hK _ ?_; clear hK) | (refine wSeq fun K hK => ?_) | (refine wReg ?_; simp only [List.map_cons, List.map_nil, strip]) | (refine wDrwQ rfl (by kernel_rfl) ?_; simp only [List.map_cons, List.map_nil, strip]) | (refine wDrwI ?_; simp only [List.map_cons, List.map_nil, strip]) | (refine wDrw (by kernel_rfl) ?_; simp only [List.map_cons, List.map_nil, strip]) | (refine wIs fun K hK => ?_; simp [h13'', h1'', h48, hl2, hr1]) | (refine wIn ?_; refine And.intro (by kernel_rfl) ?_; try simp only [thenA_n]) | (refine wOs fun K hK => ?_; simp [h13'', h1'', h48, hl2, hr1]) | (refine wQs fun K hK => ?_; simp [h13'', h1'', h48, hl2, hr1]) | (refine CallK_plain ?_; simp [h13'', h1'', h48, hl2, hr1]) | (refine CallQ_plain ?_; simp [h13'', h1'', h48, hl2, hr1]) | (refine wRet ?_; try simp) | (refine wCond ?_; simp [h13'', h1'', h48, hl2, hr1]) | (refine wBlock ?_) | (refine wScope ?_) | (refine wExit ?_; try simp) | (refine wSkip ?_; try simp) | (refine wOn ?_; try simp only [thenA_n]) | (refine wQn ?_; try simp only [thenA_n])
            · intro _ st ⟨g2, g3⟩
              simp only [blockA_r, thenA_r]
              apply hr
              simp [Tryd.f49, g2, g3]
            · intro h; rw [hd] at h; simp at h
          · rw [hd, if_pos rfl] at hN
            have hp := (hpos hd).1
            have hcc' : decide (0 ≤ dv (a :: r) ∧ dv (a :: r) ≤ 1099511627776) = decide (dv (a :: r) ≤ 1099511627776) := by simp [hp]
            rw [hcc'] at hcc
            rw [hN]
            generalize dv (a :: r) = D at hcc hlp
            refine wBody Tryd.tab Tryd.mixed Tryd.func49 rfl rfl Tryd.ntmps49 (by simp) (by simp) fun Q hr hn => ?_
            repeat' first | (refine hlp ?_ ?_ ⟨by simp, by simp, by simp, by simp⟩) | (refine hK _ ?_; clear hK) | (refine hK _ _ ?_; clear hK) | (clear hK; refine hK _ ?_; clear hK) | (clear hK; clear hK; refine hK _ ?_; clear hK) | (clear hK; clear hK; clear hK; refine hK _ ?_; clear hK) | (clear hK; clear hK; clear hK; clear hK; refine hK _ ?_; clear hK) | (refine wSeq fun K hK => ?_) | (refine wReg ?_; simp only [List.map_cons, List.map_nil, strip]) | (refine wDrwQ rfl (by kernel_rfl) ?_; simp only [List.map_cons, List.map_nil, strip]) | (refine wDrwI ?_; simp only [List.map_cons, List.map_nil, strip]) | (refine wDrw (by kernel_rfl) ?_; simp only [List.map_cons, List.map_nil, strip]) | (refine wIs fun K hK => ?_; simp [h13'', h1'', h48, hl2, hr1]) | (refine wIn ?_; refine And.intro (by kernel_rfl) ?_; try simp only [thenA_n]) | (refine wOs fun K hK => ?_; simp [h13'', h1'', h48, hl2, hr1]) | (refine wQs fun K hK => ?_; simp [h13'', h1'', h48, hl2, hr1]) | (refine CallK_plain ?_; simp [h13'', h1'', h48, hl2, hr1]) | (refine CallQ_plain ?_; simp [h13'', h1'', h48, hl2, hr1]) | (refine wRet ?_; try simp) | (refine wCond ?_; simp [h13'', h1'', h48, hl2, hr1]) | (refine wBlock ?_) | (refine wScope ?_) | (refine wExit ?_; try simp) | (refine wSkip ?_; try simp) | (refine wOn ?_; try simp only [thenA_n]) | (refine wQn ?_; try simp only [thenA_n])
            · intro h; rw [hd] at h; simp at h
            · intro _ st g4
              simp only [blockA_e, if_true, thenA_n]
              repeat' first | (refine hK _ ?_; clear hK) | (refine hK _ _ ?_; clear hK) | (clear hK; refine hK _ ?_; clear hK) | (clear hK; clear hK; refine hK _ ?_; clear hK) | (clear hK; clear hK; clear hK; refine hK _ ?_; clear hK) | (clear hK; clear hK; clear hK; clear hK; refine hK _ ?_; clear hK) | (refine wSeq fun K hK => ?_) | (refine wReg ?_; simp only [List.map_cons, List.map_nil, strip]) | (refine wDrwQ rfl (by kernel_rfl) ?_; simp only [List.map_cons, List.map_nil, strip]) | (refine wDrwI ?_; simp only [List.map_cons, List.map_nil, strip]) | (refine wDrw (by kernel_rfl) ?_; simp only [List.map_cons, List.map_nil, strip]) | (refine wIs fun K hK => ?_; simp [g4]) | (refine wIn ?_; refine And.intro (by kernel_rfl) ?_; try simp only [thenA_n]) | (refine wOs fun K hK => ?_; simp [g4]) | (refine wQs fun K hK => ?_; simp [g4]) | (refine CallK_plain ?_; simp [g4]) | (refine CallQ_plain ?_; simp [g4]) | (refine wRet ?_; try simp) | (refine wCond ?_; simp [g4]) | (refine wBlock ?_) | (refine wScope ?_) | (refine wExit ?_; try simp) | (refine wSkip ?_; try simp) | (refine wOn ?_; try simp only [thenA_n]) | (refine wQn ?_; try simp only [thenA_n]) | (refine CallE.pure (hcc) rfl ?_) | (refine CallE.lent (hcc) rfl ?_) | (refine CallF.pure (hcc) rfl ?_) | (refine CallF.lent (hcc) rfl ?_) | (refine CallE.own (hcc) ?_)
              all_goals apply hr
              all_goals simp [Tryd.f49, g4]
set_option maxHeartbeats 2000000 in
theorem number02_con (l : List UInt8) (hl : l.length ≤ 9223372036854775807) : ACon Tryd.prog 50 [.p (SB l)] (.tup [.p (I (num l).1), .p (B (num l).2)]) := by
  by_cases h13 : 13 < l.length
  · have hN : num l = (0, false) := by simp [num, badN, h13]
    have h13' : (13 : Int) < l.length := by omega
    have h1' : ¬ (l.length : Int) < 1 := by omega
    have hne : ¬ l = [] := by intro h; subst h; simp at h13
    have hne' : (l == []) = false := by simpa using hne
    rw [hN]
    refine wBody Tryd.tab Tryd.mixed Tryd.func50 rfl rfl Tryd.ntmps50 (by simp) (by simp) fun Q hr hn => ?_
    repeat' first | (refine hK _ ?_; clear hK) | (refine hK _ _ ?_; clear hK) | (clear hK; refine hK _ ?_; clear hK) | (clear hK; clear hK; refine hK _ ?_; clear hK) | (clear hK; clear hK; clear hK; refine hK _ ?_; clear hK) | (clear hK; clear hK; clear hK; clear hK; refine hK _ ?_; clear hK) | (refine wSeq fun K hK => ?_) | (refine wReg ?_; simp only [List.map_cons, List.map_nil, strip]) | (refine wDrwQ rfl (by kernel_rfl) ?_; simp only [List.map_cons, List.map_nil, strip]) | (refine wDrwI ?_; simp only [List.map_cons, List.map_nil, strip]) | (refine wDrw (by kernel_rfl) ?_; simp only [List.map_cons, List.map_nil, strip]) | (refine wIs fun K hK => ?_; simp [h13, h13', h1', hne, hne']) | (refine wIn ?_; refine And.intro (by kernel_rfl) ?_; try simp only [thenA_n]) | (refine wOs fun K hK => ?_; simp [h13, h13', h1', hne, hne']) | (refine wQs fun K hK => ?_; simp [h13, h13', h1', hne, hne']) | (refine CallK_plain ?_; simp [h13, h13', h1', hne, hne']) | (refine CallQ_plain ?_; simp [h13, h13', h1', hne, hne']) | (refine wRet ?_; try simp) | (refine wCond ?_; simp [h13, h13', h1', hne, hne']) | (refine wBlock ?_) | (refine wScope ?_) | (refine wExit ?_; try simp) | (refine wSkip ?_; try simp) | (refine wOn ?_; try simp only [thenA_n]) | (refine wQn ?_; try simp only [thenA_n])
    all_goals apply hr
    all_goals simp [Tryd.f50]
  have h13' : ¬ (13 : Int) < l.length := by omega
  cases l with
  | nil =>
    have hN : num [] = (0, false) := rfl
    rw [hN]
    refine wBody Tryd.tab Tryd.mixed Tryd.func50 rfl rfl Tryd.ntmps50 (by simp) (by simp) fun Q hr hn => ?_
    repeat' first | (refine hK _ ?_; clear hK) | (refine hK _ _ ?_; clear hK) | (clear hK; refine hK _ ?_; clear hK) | (clear hK; clear hK; refine hK _ ?_; clear hK) | (clear hK; clear hK; clear hK; refine hK _ ?_; clear hK) | (clear hK; clear hK; clear hK; clear hK; refine hK _ ?_; clear hK) | (refine wSeq fun K hK => ?_) | (refine wReg ?_; simp only [List.map_cons, List.map_nil, strip]) | (refine wDrwQ rfl (by kernel_rfl) ?_; simp only [List.map_cons, List.map_nil, strip]) | (refine wDrwI ?_; simp only [List.map_cons, List.map_nil, strip]) | (refine wDrw (by kernel_rfl) ?_; simp only [List.map_cons, List.map_nil, strip]) | (refine wIs fun K hK => ?_; simp) | (refine wIn ?_; refine And.intro (by kernel_rfl) ?_; try simp only [thenA_n]) | (refine wOs fun K hK => ?_; simp) | (refine wQs fun K hK => ?_; simp) | (refine CallK_plain ?_; simp) | (refine CallQ_plain ?_; simp) | (refine wRet ?_; try simp) | (refine wCond ?_; simp) | (refine wBlock ?_) | (refine wScope ?_) | (refine wExit ?_; try simp) | (refine wSkip ?_; try simp) | (refine wOn ?_; try simp only [thenA_n]) | (refine wQn ?_; try simp only [thenA_n])
    all_goals apply hr
    all_goals simp [Tryd.f50]
  | cons a r =>
    have hlp := fun {Q} {st} h h' h'' => numL2 (Q := Q) (st := st) (a :: r) (by omega) h h' h''
    simp only [List.length_cons] at h13 h13' hlp hl
    have h13'' : ¬ (13 : Int) < (r.length : Int) + 1 := by omega
    have h1'' : ¬ (r.length : Int) + 1 < 1 := by omega
    by_cases hbad : (a.toNat : Int) = 48 ∧ r ≠ []
    · obtain ⟨h48, hr0⟩ := hbad
      have ha : a = 48 := UInt8.toNat_inj.1 (show a.toNat = 48 by omega)
      subst ha
      have hN : num (48 :: r) = (0, false) := by simp [num, badN, hr0]
      have hl2 : r.length ≤ 9223372036854775806 := by omega
      have hr1 : (1 : Int) < (r.length : Int) + 1 := by have := List.length_pos_iff.2 hr0; omega
      rw [hN]
      refine wBody Tryd.tab Tryd.mixed Tryd.func50 rfl rfl Tryd.ntmps50 (by simp) (by simp) fun Q hr hn => ?_
      repeat' first | (refine hK _ ?_; clear hK) | (refine hK _ _ ?_; clear hK) | (clear hK; refine hK _ ?_; clear hK) | (clear hK; clear hK; refine hK _ ?_; clear hK) | (clear hK; clear hK; clear hK; refine hK _ ?_; clear hK) | (clear hK; clear hK; clear hK; clear hK; refine hK _ ?_; clear hK) | (refine wSeq fun K hK => ?_) | (refine wReg ?_; simp only [List.map_cons, List.map_nil, strip]) | (refine wDrwQ rfl (by kernel_rfl) ?_; simp only [List.map_cons, List.map_nil, strip]) | (refine wDrwI ?_; simp only [List.map_cons, List.map_nil, strip]) | (refine wDrw (by kernel_rfl) ?_; simp only [List.map_cons, List.map_nil, strip]) | (refine wIs fun K hK => ?_; simp [h13'', h1'', hr0, hr1, hl2]) | (refine wIn ?_; refine And.intro (by kernel_rfl) ?_; try simp only [thenA_n]) | (refine wOs fun K hK => ?_; simp [h13'', h1'', hr0, hr1, hl2]) | (refine wQs fun K hK => ?_; simp [h13'', h1'', hr0, hr1, hl2]) | (refine CallK_plain ?_; simp [h13'', h1'', hr0, hr1, hl2]) | (refine CallQ_plain ?_; simp [h13'', h1'', hr0, hr1, hl2]) | (refine wRet ?_; try simp) | (refine wCond ?_; simp [h13'', h1'', hr0, hr1, hl2]) | (refine wBlock ?_) | (refine wScope ?_) | (refine wExit ?_; try simp) | (refine wSkip ?_; try simp) | (refine wOn ?_; try simp only [thenA_n]) | (refine wQn ?_; try simp only [thenA_n])
      all_goals apply hr
      all_goals simp [Tryd.f50]
    · have hN := num_cons (a := a) (r := r) (by omega) hbad
      have hl2 : r.length ≤ 9223372036854775806 := by omega
      have hcc := counts_con (dv (a :: r))
      have hpos := fun h => (dv_13 (l := a :: r) (k := r.length + 1) (by simp; omega) h)
      rw [List.take_of_length_le (by simp)] at hpos
      by_cases h48 : (a.toNat : Int) = 48
      · have ha : a = 48 := UInt8.toNat_inj.1 (show a.toNat = 48 by omega)
        subst ha
        have hr0 : r = [] := by
          by_cases h : r = []
          · exact h
          · exact absurd ⟨rfl, h⟩ hbad
        subst hr0
        rw [if_pos (by decide)] at hN
        have e1 : dv [48] = 0 := by decide
        rw [e1] at hN hcc hlp
        rw [hN]
        refine wBody Tryd.tab Tryd.mixed Tryd.func50 rfl rfl Tryd.ntmps50 (by simp) (by simp) fun Q hr hn => ?_
        repeat' first | (refine hlp ?_ ?_ ⟨by simp, by simp, by simp, by simp⟩) | (refine hK _ ?_; clear hK) | (refine hK _ _ ?_; clear hK) | (clear hK; refine hK _ ?_; clear hK) | (clear hK; clear hK; refine hK _ ?_; clear hK) | (clear hK; clear hK; clear hK; refine hK _ ?_; clear hK) | (clear hK; clear hK; clear hK; clear hK; refine hK _ ?_; clear hK) | (refine wSeq fun K hK => ?_) | (refine wReg ?_; simp only [List.map_cons, List.map_nil, strip]) | (refine wDrwQ rfl (by kernel_rfl) ?_; simp only [List.map_cons, List.map_nil, strip]) | (refine wDrwI ?_; simp only [List.map_cons, List.map_nil, strip]) | (refine wDrw (by kernel_rfl) ?_; simp only [List.map_cons, List.map_nil, strip]) | (refine wIs fun K hK => ?_; simp) | (refine wIn ?_; refine And.intro (by kernel_rfl) ?_; try simp only [thenA_n]) | (refine wOs fun K hK => ?_; simp) | (refine wQs fun K hK => ?_; simp) | (refine CallK_plain ?_; simp) | (refine CallQ_plain ?_; simp) | (refine wRet ?_; try simp) | (refine wCond ?_; simp) | (refine wBlock ?_) | (refine wScope ?_) | (refine wExit ?_; try simp) | (refine wSkip ?_; try simp) | (refine wOn ?_; try simp only [thenA_n]) | (refine wQn ?_; try simp only [thenA_n])
        · intro hd; exact absurd hd (by decide)
        · intro _ st g4
          simp only [blockA_e, if_true, thenA_n]
          repeat' first | (refine hK _ ?_; clear hK) | (refine hK _ _ ?_; clear hK) | (clear hK; refine hK _ ?_; clear hK) | (clear hK; clear hK; refine hK _ ?_; clear hK) | (clear hK; clear hK; clear hK; refine hK _ ?_; clear hK) | (clear hK; clear hK; clear hK; clear hK; refine hK _ ?_; clear hK) | (refine wSeq fun K hK => ?_) | (refine wReg ?_; simp only [List.map_cons, List.map_nil, strip]) | (refine wDrwQ rfl (by kernel_rfl) ?_; simp only [List.map_cons, List.map_nil, strip]) | (refine wDrwI ?_; simp only [List.map_cons, List.map_nil, strip]) | (refine wDrw (by kernel_rfl) ?_; simp only [List.map_cons, List.map_nil, strip]) | (refine wIs fun K hK => ?_; simp [g4]) | (refine wIn ?_; refine And.intro (by kernel_rfl) ?_; try simp only [thenA_n]) | (refine wOs fun K hK => ?_; simp [g4]) | (refine wQs fun K hK => ?_; simp [g4]) | (refine CallK_plain ?_; simp [g4]) | (refine CallQ_plain ?_; simp [g4]) | (refine wRet ?_; try simp) | (refine wCond ?_; simp [g4]) | (refine wBlock ?_) | (refine wScope ?_) | (refine wExit ?_; try simp) | (refine wSkip ?_; try simp) | (refine wOn ?_; try simp only [thenA_n]) | (refine wQn ?_; try simp only [thenA_n]) | (refine CallE.pure (hcc) rfl ?_) | (refine CallE.lent (hcc) rfl ?_) | (refine CallF.pure (hcc) rfl ?_) | (refine CallF.lent (hcc) rfl ?_) | (refine CallE.own (hcc) ?_)
          all_goals apply hr
          all_goals simp [Tryd.f50, g4]
      · by_cases hr1 : (1 : Int) < (r.length : Int) + 1
        all_goals
          cases hd : (a :: r).all dig
          · rw [hd, if_neg (by simp)] at hN
            rw [hN]
            refine wBody Tryd.tab Tryd.mixed Tryd.func50 rfl rfl Tryd.ntmps50 (by simp) (by simp) fun Q hr hn => ?_
            repeat' first | (refine hlp ?_ ?_ ⟨by simp, by simp, by simp, by simp⟩) | (refine hK _ ?_; clear hK) | (refine hK _ _ ?_; clear hK) | (clear hK; refine hK _ ?_; clear hK) | (clear hK; clear hK; refine hK _ ?_; clear hK) | (clear hK; clear hK; clear hK; refine hK _ ?_; clear hK) | (clear hK; clear hK; clear hK; clear hK; refine hK _ ?_; clear hK) | (refine wSeq fun K hK => ?_) | (refine wReg ?_; simp only [List.map_cons, List.map_nil, strip]) | (refine wDrwQ rfl (by kernel_rfl) ?_; simp only [List.map_cons, List.map_nil, strip]) | (refine wDrwI ?_; simp only [List.map_cons, List.map_nil, strip]) | (refine wDrw (by kernel_rfl) ?_; simp only [List.map_cons, List.map_nil, strip]) | (refine wIs fun K hK => ?_; simp [h13'', h1'', h48, hl2, hr1]) | (refine wIn ?_; refine And.intro (by kernel_rfl) ?_; try simp only [thenA_n]) | (refine wOs fun K hK => ?_; simp [h13'', h1'', h48, hl2, hr1]) | (refine wQs fun K hK => ?_; simp [h13'', h1'', h48, hl2, hr1]) | (refine CallK_plain ?_; simp [h13'', h1'', h48, hl2, hr1]) | (refine CallQ_plain ?_; simp [h13'', h1'', h48, hl2, hr1]) | (refine wRet ?_; try simp) | (refine wCond ?_; simp [h13'', h1'', h48, hl2, hr1]) | (refine wBlock ?_) | (refine wScope ?_) | (refine wExit ?_; try simp) | (refine wSkip ?_; try simp) | (refine wOn ?_; try simp only [thenA_n]) | (refine wQn ?_; try simp only [thenA_n])
            · intro _ st ⟨g2, g3⟩
              simp only [blockA_r, thenA_r]
              apply hr
              simp [Tryd.f50, g2, g3]
            · intro h; rw [hd] at h; simp at h
          · rw [hd, if_pos rfl] at hN
            have hp := (hpos hd).1
            have hcc' : decide (0 ≤ dv (a :: r) ∧ dv (a :: r) ≤ 1099511627776) = decide (dv (a :: r) ≤ 1099511627776) := by simp [hp]
            rw [hcc'] at hcc
            rw [hN]
            generalize dv (a :: r) = D at hcc hlp
            refine wBody Tryd.tab Tryd.mixed Tryd.func50 rfl rfl Tryd.ntmps50 (by simp) (by simp) fun Q hr hn => ?_
            repeat' first | (refine hlp ?_ ?_ ⟨by simp, by simp, by simp, by simp⟩) | (refine hK _ ?_; clear hK) | (refine hK _ _ ?_; clear hK) | (clear hK; refine hK _ ?_; clear hK) | (clear hK; clear hK; refine hK _ ?_; clear hK) | (clear hK; clear hK; clear hK; refine hK _ ?_; clear hK) | (clear hK; clear hK; clear hK; clear hK; refine hK _ ?_; clear hK) | (refine wSeq fun K hK => ?_) | (refine wReg ?_; simp only [List.map_cons, List.map_nil, strip]) | (refine wDrwQ rfl (by kernel_rfl) ?_; simp only [List.map_cons, List.map_nil, strip]) | (refine wDrwI ?_; simp only [List.map_cons, List.map_nil, strip]) | (refine wDrw (by kernel_rfl) ?_; simp only [List.map_cons, List.map_nil, strip]) | (refine wIs fun K hK => ?_; simp [h13'', h1'', h48, hl2, hr1]) | (refine wIn ?_; refine And.intro (by kernel_rfl) ?_; try simp only [thenA_n]) | (refine wOs fun K hK => ?_; simp [h13'', h1'', h48, hl2, hr1]) | (refine wQs fun K hK => ?_; simp [h13'', h1'', h48, hl2, hr1]) | (refine CallK_plain ?_; simp [h13'', h1'', h48, hl2, hr1]) | (refine CallQ_plain ?_; simp [h13'', h1'', h48, hl2, hr1]) | (refine wRet ?_; try simp) | (refine wCond ?_; simp [h13'', h1'', h48, hl2, hr1]) | (refine wBlock ?_) | (refine wScope ?_) | (refine wExit ?_; try simp) | (refine wSkip ?_; try simp) | (refine wOn ?_; try simp only [thenA_n]) | (refine wQn ?_; try simp only [thenA_n])
            · intro h; rw [hd] at h; simp at h
            · intro _ st g4
              simp only [blockA_e, if_true, thenA_n]
              repeat' first | (refine hK _ ?_; clear hK) | (refine hK _ _ ?_; clear hK) | (clear hK; refine hK _ ?_; clear hK) | (clear hK; clear hK; refine hK _ ?_; clear hK) | (clear hK; clear hK; clear hK; refine hK _ ?_; clear hK) | (clear hK; clear hK; clear hK; clear hK; refine hK _ ?_; clear hK) | (refine wSeq fun K hK => ?_) | (refine wReg ?_; simp only [List.map_cons, List.map_nil, strip]) | (refine wDrwQ rfl (by kernel_rfl) ?_; simp only [List.map_cons, List.map_nil, strip]) | (refine wDrwI ?_; simp only [List.map_cons, List.map_nil, strip]) | (refine wDrw (by kernel_rfl) ?_; simp only [List.map_cons, List.map_nil, strip]) | (refine wIs fun K hK => ?_; simp [g4]) | (refine wIn ?_; refine And.intro (by kernel_rfl) ?_; try simp only [thenA_n]) | (refine wOs fun K hK => ?_; simp [g4]) | (refine wQs fun K hK => ?_; simp [g4]) | (refine CallK_plain ?_; simp [g4]) | (refine CallQ_plain ?_; simp [g4]) | (refine wRet ?_; try simp) | (refine wCond ?_; simp [g4]) | (refine wBlock ?_) | (refine wScope ?_) | (refine wExit ?_; try simp) | (refine wSkip ?_; try simp) | (refine wOn ?_; try simp only [thenA_n]) | (refine wQn ?_; try simp only [thenA_n]) | (refine CallE.pure (hcc) rfl ?_) | (refine CallE.lent (hcc) rfl ?_) | (refine CallF.pure (hcc) rfl ?_) | (refine CallF.lent (hcc) rfl ?_) | (refine CallE.own (hcc) ?_)
              all_goals apply hr
              all_goals simp [Tryd.f50, g4]
end Go.Proofs.YtjceehpfncfpgaaDoor
