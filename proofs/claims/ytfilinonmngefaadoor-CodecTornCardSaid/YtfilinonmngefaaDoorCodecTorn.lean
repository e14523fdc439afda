/- CodecTorn: of frames cut off anywhere just the whole ones are told. No condition. -/
import Derived.Test.YtfilinonmngefaaDoorCTO
import Derived.Test.YtfilinonmngefaaDoorLay
import Derived.ProofKit
import Derived.SevenTiedAt
-- ALIAS Tryd
set_option linter.unusedVariables false
namespace Go.Proofs.YtfilinonmngefaaDoor
open Go Go.Av Go.ChangeShapes Go.WideShapes Go.ChangeAt Go.RowKit
theorem codecTorn_all (ps : List PV) (h : ShTs Tryd.T Tryd.f8.params.toList ps) : ACon Tryd.prog 8 (ps.map .p) (.p (B true)) := by
  have hp : Tryd.f8.params.toList = [39, 3] := by kernel_rfl
  rw [hp] at h
  match ps, h with
  | [p0, p1], ⟨h0, h1, _⟩ =>
    obtain ⟨l, rfl⟩ := lds_open h0
    obtain ⟨c, -, rfl⟩ := okn_open h1
    exact codecTorn_con l c
set_option maxRecDepth 100000 in
theorem codecTorn_lifted (os : Os) (started : os.Started) (H : Type) (enc : TypeId × Value → H) (F : Stop.Interp) :
    ReturnsInHanded {} Tryd.checked os 8 .any ((OpenSpec.ofChange Rows.codecTornSpec).preRow enc Tryd.prog Tryd.f8 Rows.codecTornRow.domain false Rows.codecTornRow.laid) (((OpenSpec.ofChange Rows.codecTornSpec).at F).post enc Tryd.prog Tryd.f8 false true false false) :=
  row_liftedC (C := Tryd.checked) (tb := 4) Tryd.tab (by kernel_rfl) started (by kernel_rfl) Tryd.func8
    (witnessC (enc := enc) (C := Tryd.checked) (laidWorld Tryd.prog os Tryd.lays) #[.slice none 0 0, .int .i64 0] rfl (by kernel_rfl) (by kernel_rfl) (by kernel_rfl) (by kernel_rfl) rfl (by kernel_rfl) (Tryd.laid_met os _))
    rfl rfl Tryd.underlying4
    (fun ds h => by
      match ds, h with
      | [_, _], _ => exact ⟨rfl, rfl, rfl⟩)
    (by kernel_rfl) Tryd.globOK codecTorn_all ⟨Tryd.f8, Tryd.func8, rfl, rfl⟩
theorem codecTorn_said : Rows.CodecTornSaid :=
  OpenClaim.holds_of_cond 8 Tryd.f8 rfl rfl rfl rfl rfl rfl rfl ⟨rfl, rfl, rfl, rfl, rfl⟩ rfl rfl rfl rfl rfl (by kernel_rfl) Tryd.func8 (by kernel_rfl)
    (of_decide_eq_true (by kernel_rfl)) (by unfold Func.isWrapper; first | (rw [if_pos (by decide +kernel)]; kernel_rfl) | (rw [if_neg (by decide +kernel)]; exact ⟨rfl, rfl⟩))
    (fun os started H enc _ F => by rw [OpenClaim.pre_eq_preRow]; exact codecTorn_lifted os started H enc F)
theorem codecTorn_plain (f : FuncId) (fn : Func) (hf : Tryd.pinned.checked.prog.funcNamed Rows.codecTornRow.func = some f) (hfn : Tryd.pinned.checked.prog.funcs[f]? = some fn) :
    Rows.codecTornCard.stood.looks = Tryd.pinned.checked.prog.looks [] ∧ ∀ (j : Nat) t, fn.params[j]? = some t → Tryd.pinned.checked.prog.wantsStandIn t = false := by
  obtain rfl : f = 8 := Option.some.inj ((show Tryd.prog.funcNamed Rows.codecTornRow.func = some 8 by kernel_rfl).symm.trans hf) |>.symm
  obtain rfl : fn = Tryd.f8 := (Option.some.inj (Tryd.func8.symm.trans hfn)).symm
  refine ⟨by kernel_rfl, fun j t ht => ?_⟩
  have h := List.all_eq_true.1 (show (Tryd.f8.params.toList.all fun t => !Tryd.prog.wantsStandIn t) = true by kernel_rfl) t (by simpa using Array.mem_of_getElem? ht)
  have h' : Tryd.prog.wantsStandIn t = false := by simpa using h
  exact h'
theorem codecTorn_holds : Rows.CodecTornCardSaid :=
  Claim7.holds_tied_plain_at .later [] _ _ _ _ codecTorn_said (fun _ h => by cases h) (by kernel_rfl) (fun _ h => by cases h) codecTorn_row_tie rfl ⟨rfl, rfl⟩ (by kernel_rfl) rfl codecTorn_plain (by kernel_rfl)
#print axioms codecTorn_holds
end Go.Proofs.YtfilinonmngefaaDoor
