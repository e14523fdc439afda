/- CodecFrames: frames, both ways. No condition. -/
import Derived.Test.YtfilinonmngefaaDoorCO
import Derived.Test.YtfilinonmngefaaDoorCN
import Derived.Test.YtfilinonmngefaaDoorLay
import Derived.ProofKit
import Derived.SevenTiedAt
-- ALIAS Tryd
set_option linter.unusedVariables false
namespace Go.Proofs.YtfilinonmngefaaDoor
open Go Go.Av Go.ChangeShapes Go.WideShapes Go.ChangeAt Go.RowKit
theorem codecFrames_all (ps : List PV) (h : ShTs Tryd.T Tryd.f5.params.toList ps) : ACon Tryd.prog 5 (ps.map .p) (.p (B true)) := by
  have hp : Tryd.f5.params.toList = [22, 22, 3] := by kernel_rfl
  rw [hp] at h
  match ps, h with
  | [p0, p1, p2], ⟨h0, h1, h2, _⟩ =>
    obtain ⟨l, rfl⟩ := by8_open h0
    obtain ⟨b, rfl⟩ := by8_open h1
    obtain ⟨a, -, rfl⟩ := okn_open h2
    exact codecFrames_con l b a
set_option maxRecDepth 100000 in
theorem codecFrames_lifted (os : Os) (started : os.Started) (H : Type) (enc : TypeId × Value → H) (F : Stop.Interp) :
    ReturnsInHanded {} Tryd.checked os 5 .any ((OpenSpec.ofChange Rows.codecFramesSpec).preRow enc Tryd.prog Tryd.f5 Rows.codecFramesRow.domain false Rows.codecFramesRow.laid) (((OpenSpec.ofChange Rows.codecFramesSpec).at F).post enc Tryd.prog Tryd.f5 false true false false) :=
  row_liftedC (C := Tryd.checked) (tb := 4) Tryd.tab (by kernel_rfl) started (by kernel_rfl) Tryd.func5
    (witnessC (enc := enc) (C := Tryd.checked) (laidWorld Tryd.prog os Tryd.lays) #[.slice none 0 0, .slice none 0 0, .int .i64 0] rfl (by kernel_rfl) (by kernel_rfl) (by kernel_rfl) (by kernel_rfl) rfl (by kernel_rfl) (Tryd.laid_met os _))
    rfl rfl Tryd.underlying4
    (fun ds h => by
      match ds, h with
      | [_, _, _], _ => exact ⟨rfl, rfl, rfl⟩)
    (by kernel_rfl) Tryd.globOK codecFrames_all ⟨Tryd.f5, Tryd.func5, rfl, rfl⟩
theorem codecFrames_said : Rows.CodecFramesSaid :=
  OpenClaim.holds_of_cond 5 Tryd.f5 rfl rfl rfl rfl rfl rfl rfl ⟨rfl, rfl, rfl, rfl, rfl⟩ rfl rfl rfl rfl rfl (by kernel_rfl) Tryd.func5 (by kernel_rfl)
    (of_decide_eq_true (by kernel_rfl)) (by unfold Func.isWrapper; first | (rw [if_pos (by decide +kernel)]; kernel_rfl) | (rw [if_neg (by decide +kernel)]; exact ⟨rfl, rfl⟩))
    (fun os started H enc _ F => by rw [OpenClaim.pre_eq_preRow]; exact codecFrames_lifted os started H enc F)
theorem codecFrames_plain (f : FuncId) (fn : Func) (hf : Tryd.pinned.checked.prog.funcNamed Rows.codecFramesRow.func = some f) (hfn : Tryd.pinned.checked.prog.funcs[f]? = some fn) :
    Rows.codecFramesCard.stood.looks = Tryd.pinned.checked.prog.looks [] ∧ ∀ (j : Nat) t, fn.params[j]? = some t → Tryd.pinned.checked.prog.wantsStandIn t = false := by
  obtain rfl : f = 5 := Option.some.inj ((show Tryd.prog.funcNamed Rows.codecFramesRow.func = some 5 by kernel_rfl).symm.trans hf) |>.symm
  obtain rfl : fn = Tryd.f5 := (Option.some.inj (Tryd.func5.symm.trans hfn)).symm
  refine ⟨by kernel_rfl, fun j t ht => ?_⟩
  have h := List.all_eq_true.1 (show (Tryd.f5.params.toList.all fun t => !Tryd.prog.wantsStandIn t) = true by kernel_rfl) t (by simpa using Array.mem_of_getElem? ht)
  have h' : Tryd.prog.wantsStandIn t = false := by simpa using h
  exact h'
theorem codecFrames_holds : Rows.CodecFramesCardSaid :=
  Claim7.holds_tied_plain_at .later [] _ _ _ _ codecFrames_said (fun _ h => by cases h) (by kernel_rfl) (fun _ h => by cases h) codecFrames_row_tie rfl ⟨rfl, rfl⟩ (by kernel_rfl) rfl codecFrames_plain (by kernel_rfl)
#print axioms codecFrames_holds
end Go.Proofs.YtfilinonmngefaaDoor
