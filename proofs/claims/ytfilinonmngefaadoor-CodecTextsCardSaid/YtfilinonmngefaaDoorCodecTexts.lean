/- CodecTexts: texts, both ways. No condition. -/
import Derived.Test.YtfilinonmngefaaDoorCO
import Derived.Test.YtfilinonmngefaaDoorLay
import Derived.ProofKit
import Derived.SevenTiedAt
-- ALIAS Tryd
set_option linter.unusedVariables false
namespace Go.Proofs.YtfilinonmngefaaDoor
open Go Go.Av Go.ChangeShapes Go.WideShapes Go.ChangeAt Go.RowKit
theorem codecTexts_all (ps : List PV) (h : ShTs Tryd.T Tryd.f4.params.toList ps) : ACon Tryd.prog 4 (ps.map .p) (.p (B true)) := by
  have hp : Tryd.f4.params.toList = [22, 9, 3] := by kernel_rfl
  rw [hp] at h
  match ps, h with
  | [p0, p1, p2], ⟨h0, h1, h2, _⟩ =>
    obtain ⟨b, rfl⟩ := by8_open h0
    obtain ⟨s, -, rfl⟩ := str_open h1
    obtain ⟨a, -, rfl⟩ := okn_open h2
    exact codecTexts_con b s a
set_option maxRecDepth 100000 in
theorem codecTexts_lifted (os : Os) (started : os.Started) (H : Type) (enc : TypeId × Value → H) (F : Stop.Interp) :
    ReturnsInHanded {} Tryd.checked os 4 .any ((OpenSpec.ofChange Rows.codecTextsSpec).preRow enc Tryd.prog Tryd.f4 Rows.codecTextsRow.domain false Rows.codecTextsRow.laid) (((OpenSpec.ofChange Rows.codecTextsSpec).at F).post enc Tryd.prog Tryd.f4 false true false false) :=
  row_liftedC (C := Tryd.checked) (tb := 4) Tryd.tab (by kernel_rfl) started (by kernel_rfl) Tryd.func4
    (witnessC (enc := enc) (C := Tryd.checked) (laidWorld Tryd.prog os Tryd.lays) #[.slice none 0 0, .string ByteArray.empty, .int .i64 0] rfl (by kernel_rfl) (by kernel_rfl) (by kernel_rfl) (by kernel_rfl) rfl (by kernel_rfl) (Tryd.laid_met os _))
    rfl rfl Tryd.underlying4
    (fun ds h => by
      match ds, h with
      | [_, _, _], _ => exact ⟨rfl, rfl, rfl⟩)
    (by kernel_rfl) Tryd.globOK codecTexts_all ⟨Tryd.f4, Tryd.func4, rfl, rfl⟩
theorem codecTexts_said : Rows.CodecTextsSaid :=
  OpenClaim.holds_of_cond 4 Tryd.f4 rfl rfl rfl rfl rfl rfl rfl ⟨rfl, rfl, rfl, rfl, rfl⟩ rfl rfl rfl rfl rfl (by kernel_rfl) Tryd.func4 (by kernel_rfl)
    (of_decide_eq_true (by kernel_rfl)) (by unfold Func.isWrapper; first | (rw [if_pos (by decide +kernel)]; kernel_rfl) | (rw [if_neg (by decide +kernel)]; exact ⟨rfl, rfl⟩))
    (fun os started H enc _ F => by rw [OpenClaim.pre_eq_preRow]; exact codecTexts_lifted os started H enc F)
theorem codecTexts_plain (f : FuncId) (fn : Func) (hf : Tryd.pinned.checked.prog.funcNamed Rows.codecTextsRow.func = some f) (hfn : Tryd.pinned.checked.prog.funcs[f]? = some fn) :
    Rows.codecTextsCard.stood.looks = Tryd.pinned.checked.prog.looks [] ∧ ∀ (j : Nat) t, fn.params[j]? = some t → Tryd.pinned.checked.prog.wantsStandIn t = false := by
  obtain rfl : f = 4 := Option.some.inj ((show Tryd.prog.funcNamed Rows.codecTextsRow.func = some 4 by kernel_rfl).symm.trans hf) |>.symm
  obtain rfl : fn = Tryd.f4 := (Option.some.inj (Tryd.func4.symm.trans hfn)).symm
  refine ⟨by kernel_rfl, fun j t ht => ?_⟩
  have h := List.all_eq_true.1 (show (Tryd.f4.params.toList.all fun t => !Tryd.prog.wantsStandIn t) = true by kernel_rfl) t (by simpa using Array.mem_of_getElem? ht)
  have h' : Tryd.prog.wantsStandIn t = false := by simpa using h
  exact h'
theorem codecTexts_holds : Rows.CodecTextsCardSaid :=
  Claim7.holds_tied_plain_at .later [] _ _ _ _ codecTexts_said (fun _ h => by cases h) (by kernel_rfl) (fun _ h => by cases h) codecTexts_row_tie rfl ⟨rfl, rfl⟩ (by kernel_rfl) rfl codecTexts_plain (by kernel_rfl)
#print axioms codecTexts_holds
end Go.Proofs.YtfilinonmngefaaDoor
