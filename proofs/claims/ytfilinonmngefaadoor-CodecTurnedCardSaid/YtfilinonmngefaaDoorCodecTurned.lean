/- CodecTurned: bits turned within 32 neighbouring ones are told by the sum. No condition. -/
import Derived.Test.YtfilinonmngefaaDoorCUO
import Derived.Test.YtfilinonmngefaaDoorLay
import Derived.ProofKit
import Derived.SevenTiedAt
-- ALIAS Tryd
set_option linter.unusedVariables false
namespace Go.Proofs.YtfilinonmngefaaDoor
open Go Go.Av Go.ChangeShapes Go.WideShapes Go.ChangeAt Go.RowKit
theorem codecTurned_all (ps : List PV) (h : ShTs Tryd.T Tryd.f9.params.toList ps) : ACon Tryd.prog 9 (ps.map .p) (.p (B true)) := by
  have hp : Tryd.f9.params.toList = [22, 3, 35] := by kernel_rfl
  rw [hp] at h
  match ps, h with
  | [p0, p1, p2], ⟨h0, h1, h2, _⟩ =>
    obtain ⟨l, rfl⟩ := by8_open h0
    obtain ⟨a, -, rfl⟩ := okn_open h1
    obtain ⟨m, hm, rfl⟩ := u32_open h2
    exact codecTurned_con l a m hm
set_option maxRecDepth 100000 in
theorem codecTurned_lifted (os : Os) (started : os.Started) (H : Type) (enc : TypeId × Value → H) (F : Stop.Interp) :
    ReturnsInHanded {} Tryd.checked os 9 .any ((OpenSpec.ofChange Rows.codecTurnedSpec).preRow enc Tryd.prog Tryd.f9 Rows.codecTurnedRow.domain false Rows.codecTurnedRow.laid) (((OpenSpec.ofChange Rows.codecTurnedSpec).at F).post enc Tryd.prog Tryd.f9 false true false false) :=
  row_liftedC (C := Tryd.checked) (tb := 4) Tryd.tab (by kernel_rfl) started (by kernel_rfl) Tryd.func9
    (witnessC (enc := enc) (C := Tryd.checked) (laidWorld Tryd.prog os Tryd.lays) #[.slice none 0 0, .int .i64 0, .int .u32 0] rfl (by kernel_rfl) (by kernel_rfl) (by kernel_rfl) (by kernel_rfl) rfl (by kernel_rfl) (Tryd.laid_met os _))
    rfl rfl Tryd.underlying4
    (fun ds h => by
      match ds, h with
      | [_, _, _], _ => exact ⟨rfl, rfl, rfl⟩)
    (by kernel_rfl) Tryd.globOK codecTurned_all ⟨Tryd.f9, Tryd.func9, rfl, rfl⟩
theorem codecTurned_said : Rows.CodecTurnedSaid :=
  OpenClaim.holds_of_cond 9 Tryd.f9 rfl rfl rfl rfl rfl rfl rfl ⟨rfl, rfl, rfl, rfl, rfl⟩ rfl rfl rfl rfl rfl (by kernel_rfl) Tryd.func9 (by kernel_rfl)
    (of_decide_eq_true (by kernel_rfl)) (by unfold Func.isWrapper; first | (rw [if_pos (by decide +kernel)]; kernel_rfl) | (rw [if_neg (by decide +kernel)]; exact ⟨rfl, rfl⟩))
    (fun os started H enc _ F => by rw [OpenClaim.pre_eq_preRow]; exact codecTurned_lifted os started H enc F)
theorem codecTurned_plain (f : FuncId) (fn : Func) (hf : Tryd.pinned.checked.prog.funcNamed Rows.codecTurnedRow.func = some f) (hfn : Tryd.pinned.checked.prog.funcs[f]? = some fn) :
    Rows.codecTurnedCard.stood.looks = Tryd.pinned.checked.prog.looks [] ∧ ∀ (j : Nat) t, fn.params[j]? = some t → Tryd.pinned.checked.prog.wantsStandIn t = false := by
  obtain rfl : f = 9 := Option.some.inj ((show Tryd.prog.funcNamed Rows.codecTurnedRow.func = some 9 by kernel_rfl).symm.trans hf) |>.symm
  obtain rfl : fn = Tryd.f9 := (Option.some.inj (Tryd.func9.symm.trans hfn)).symm
  refine ⟨by kernel_rfl, fun j t ht => ?_⟩
  have h := List.all_eq_true.1 (show (Tryd.f9.params.toList.all fun t => !Tryd.prog.wantsStandIn t) = true by kernel_rfl) t (by simpa using Array.mem_of_getElem? ht)
  have h' : Tryd.prog.wantsStandIn t = false := by simpa using h
  exact h'
theorem codecTurned_holds : Rows.CodecTurnedCardSaid :=
  Claim7.holds_tied_plain_at .later [] _ _ _ _ codecTurned_said (fun _ h => by cases h) (by kernel_rfl) (fun _ h => by cases h) codecTurned_row_tie rfl ⟨rfl, rfl⟩ (by kernel_rfl) rfl codecTurned_plain (by kernel_rfl)
#print axioms codecTurned_holds
end Go.Proofs.YtfilinonmngefaaDoor
