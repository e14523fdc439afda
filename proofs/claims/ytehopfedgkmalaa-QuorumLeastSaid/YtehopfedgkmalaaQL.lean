/- Bits: how many stand, which are chosen. -/
import Derived.Test.YtehopfedgkmalaaQI
import Derived.Test.YtehopfedgkmalaaAvRun
namespace Go.Proofs.Ytehopfedgkmalaa
set_option linter.unusedSimpArgs false
set_option linter.unusedVariables false
open Go Go.Av
attribute [local simp] Try.T
attribute [local irreducible] Go.Av.CallK Go.Av.CallE Go.Av.CallQ Go.Av.CallF Go.Av.Con

abbrev U (n : Int) : PV := .v (.int .u64 n)
def popN (n m : Nat) : Nat := ((List.range n).filter fun i => m.testBit i).length
noncomputable def ocOut (m : Nat) : Bool := match xCall Try.prog Try.T noBase 40 44 [.p (U m)] [] with
  | some (.ret (.p (.v (.int .i64 k))) [] []) => decide (k = (popN 8 m : Nat))
  | _ => false
theorem ocAll : (List.range 256).all ocOut = true := by kernel_rfl
theorem ones_con (m : Nat) (hm : m < 256) : ACon Try.prog 44 [.p (U m)] (.p (I (popN 8 m : Nat))) := by
  have h := List.all_eq_true.1 ocAll m (List.mem_range.2 hm)
  unfold ocOut at h
  split at h
  · rename_i k he
    simp only [decide_eq_true_eq] at h
    subst h
    exact xCall_sound Try.tab Try.mixed noBase_ok 40 _ _ _ _ he
  · simp at h

def chs (m : Nat) (v : List Int) : Nat → List Int
  | 0 => []
  | k + 1 => chs m v k ++ (if m.testBit k then [v.getD k 0] else [])
theorem popN_succ (k m : Nat) : popN (k + 1) m = popN k m + (if m.testBit k then 1 else 0) := by
  unfold popN; rw [List.range_succ, List.filter_append, List.length_append]
  by_cases h : m.testBit k = true <;> simp [List.filter, h]
theorem chs_len (m : Nat) (v : List Int) : ∀ k, (chs m v k).length = popN k m
  | 0 => rfl
  | k + 1 => by rw [popN_succ, chs, List.length_append, chs_len m v k]; split <;> rfl
theorem popN_le (m : Nat) : ∀ k, popN k m ≤ k
  | 0 => by simp [popN]
  | k + 1 => by have := popN_le m k; rw [popN_succ]; split <;> omega

theorem bit_u64 : ∀ m : Nat, m < 256 → ∀ k : Nat, k < 8 → IntKind.u64.wrap ((((m : Int).fdiv (2 ^ min k IntKind.u64.bits) % 2 ^ IntKind.u64.bits).toNat &&& 1 % 2 ^ IntKind.u64.bits : Nat) : Int) = if m.testBit k = true then 1 else 0 := by decide +kernel
theorem bit_i64 : ∀ m : Nat, m < 256 → ∀ k : Nat, k < 8 → IntKind.i64.wrap ((((m : Int).fdiv (2 ^ min k IntKind.i64.bits) % 2 ^ IntKind.i64.bits).toNat &&& 1 % 2 ^ IntKind.i64.bits : Nat) : Int) = if m.testBit k = true then 1 else 0 := by decide +kernel
theorem chosen_con (v : List Int) (m : Nat) (hm : m < 256) (hv : v.length ≤ 8) : ACon Try.prog 45 [.p (.sl 1 (ints v)), .p (U m)] (.p (.sl 1 (ints (chs m v v.length)))) := by
  refine wBody Try.tab Try.mixed Try.func45 rfl rfl Try.ntmps45 (by simp) (by simp) fun Q hr hn => ?_
  repeat' first | (refine hK _ ?_; clear hK) | (clear hK; refine hK _ ?_; clear hK) | (clear hK; clear hK; refine hK _ ?_; clear hK) | (clear hK; clear hK; clear hK; refine hK _ ?_; clear hK) | (clear hK; clear hK; clear hK; clear hK; refine hK _ ?_; clear hK) | (refine wSeq fun K hK => ?_) | (refine wReg ?_; simp only [List.map_cons, List.map_nil, strip]) | (refine wDrw (by kernel_rfl) ?_; simp only [List.map_cons, List.map_nil, strip]) | (refine wOs fun K hK => ?_; simp) | (refine wQs fun K hK => ?_; simp) | (refine CallK_plain ?_; simp) | (refine CallQ_plain ?_; simp) | (refine wRet ?_; try simp) | (refine wCond ?_; simp) | (refine wBlock ?_) | (refine wExit ?_; try simp) | (refine wSkip ?_; try simp) | (refine wOn ?_; try simp only [thenA_n]) | (refine wQn ?_; try simp only [thenA_n])
  refine wLoopG [.row 5 3 1] (fun N st => ∃ k, k + N = v.length ∧ st.s 1 = .p (U m) ∧ st.s 5 = .row 5 ∧ st.s 8 = .p (.sl 1 (ints v)) ∧ st.s 9 = .p (I v.length) ∧ st.s 10 = .p (I k) ∧
    st.b 5 = some (.row 3 1 (ints (chs m v k)))) v.length ⟨0, by simp [chs, ints]⟩ fun K N st hL ⟨k, hk, g1, g5, g8, g9, g10, b5⟩ => ?_
  by_cases hlt : k < v.length
  · have hw := wrapS k _ hlt (by omega)
    have hk8 : k < 8 := by omega
    have hln : (chs m v k).length ≤ 8 := by rw [chs_len]; have := popN_le m k; omega
    by_cases hb : m.testBit k = true
    · have hbit := bit_u64 m hm k hk8
      rw [if_pos hb] at hbit
      repeat' first | (refine And.intro (by omega) ?_) | (refine hK _ ?_; clear hK) | (clear hK; refine hK _ ?_; clear hK) | (clear hK; clear hK; refine hK _ ?_; clear hK) | (clear hK; clear hK; clear hK; refine hK _ ?_; clear hK) | (clear hK; clear hK; clear hK; clear hK; refine hK _ ?_; clear hK) | (refine wSeq fun K hK => ?_) | (refine wReg ?_; simp only [List.map_cons, List.map_nil, strip]) | (refine wDrw (by kernel_rfl) ?_; simp only [List.map_cons, List.map_nil, strip]) | (refine wOs fun K hK => ?_; simp [g1, g5, g8, g9, g10, b5, hlt, hw, hbit]) | (refine wQs fun K hK => ?_; simp [g1, g5, g8, g9, g10, b5, hlt, hw, hbit]) | (refine CallK_plain ?_; simp [g1, g5, g8, g9, g10, b5, hlt, hw, hbit]) | (refine CallQ_plain ?_; simp [g1, g5, g8, g9, g10, b5, hlt, hw, hbit]) | (refine wRet ?_; try simp) | (refine wCond ?_; simp [g1, g5, g8, g9, g10, b5, hlt, hw, hbit]) | (refine wBlock ?_) | (refine wExit ?_; try simp) | (refine wSkip ?_; try simp) | (refine wOn ?_; try simp only [thenA_n]) | (refine wQn ?_; try simp only [thenA_n])
      refine hL _ (N - 1) (by omega) ⟨k + 1, by omega, ?_⟩
      simp [g1, g5, g8, g9, hw, b5]
      rw [ints_snoc, chs, if_pos hb, show v.getD k 0 = v[k] by simp [List.getD, hlt]]
    · have hbit := bit_u64 m hm k hk8
      rw [if_neg hb] at hbit
      repeat' first | (refine And.intro (by omega) ?_) | (refine hK _ ?_; clear hK) | (clear hK; refine hK _ ?_; clear hK) | (clear hK; clear hK; refine hK _ ?_; clear hK) | (clear hK; clear hK; clear hK; refine hK _ ?_; clear hK) | (clear hK; clear hK; clear hK; clear hK; refine hK _ ?_; clear hK) | (refine wSeq fun K hK => ?_) | (refine wReg ?_; simp only [List.map_cons, List.map_nil, strip]) | (refine wDrw (by kernel_rfl) ?_; simp only [List.map_cons, List.map_nil, strip]) | (refine wOs fun K hK => ?_; simp [g1, g5, g8, g9, g10, b5, hlt, hw, hbit]) | (refine wQs fun K hK => ?_; simp [g1, g5, g8, g9, g10, b5, hlt, hw, hbit]) | (refine CallK_plain ?_; simp [g1, g5, g8, g9, g10, b5, hlt, hw, hbit]) | (refine CallQ_plain ?_; simp [g1, g5, g8, g9, g10, b5, hlt, hw, hbit]) | (refine wRet ?_; try simp) | (refine wCond ?_; simp [g1, g5, g8, g9, g10, b5, hlt, hw, hbit]) | (refine wBlock ?_) | (refine wExit ?_; try simp) | (refine wSkip ?_; try simp) | (refine wOn ?_; try simp only [thenA_n]) | (refine wQn ?_; try simp only [thenA_n])
      refine hL _ (N - 1) (by omega) ⟨k + 1, by omega, ?_⟩
      simp [g1, g5, g8, g9, hw, b5]
      rw [chs, if_neg hb, List.append_nil]
  · repeat' first | (refine hK _ ?_; clear hK) | (clear hK; refine hK _ ?_; clear hK) | (clear hK; clear hK; refine hK _ ?_; clear hK) | (clear hK; clear hK; clear hK; refine hK _ ?_; clear hK) | (clear hK; clear hK; clear hK; clear hK; refine hK _ ?_; clear hK) | (refine wSeq fun K hK => ?_) | (refine wReg ?_; simp only [List.map_cons, List.map_nil, strip]) | (refine wDrw (by kernel_rfl) ?_; simp only [List.map_cons, List.map_nil, strip]) | (refine wOs fun K hK => ?_; simp [g1, g5, g8, g9, g10, b5, hlt]) | (refine wQs fun K hK => ?_; simp [g1, g5, g8, g9, g10, b5, hlt]) | (refine CallK_plain ?_; simp [g1, g5, g8, g9, g10, b5, hlt]) | (refine CallQ_plain ?_; simp [g1, g5, g8, g9, g10, b5, hlt]) | (refine wRet ?_; try simp) | (refine wCond ?_; simp [g1, g5, g8, g9, g10, b5, hlt]) | (refine wBlock ?_) | (refine wExit ?_; try simp) | (refine wSkip ?_; try simp) | (refine wOn ?_; try simp only [thenA_n]) | (refine wQn ?_; try simp only [thenA_n])
    apply hr
    obtain rfl : k = v.length := by omega
    simp [Try.f45, g5, b5]
end Go.Proofs.Ytehopfedgkmalaa
