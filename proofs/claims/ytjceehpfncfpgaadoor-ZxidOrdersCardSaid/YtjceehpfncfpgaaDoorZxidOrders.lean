/- ZxidOrders: whatever three places: the law of layer 2 answers true, and what came in reads as before. No condition but that the library's listed tables hold what their text lays. -/
import Derived.Test.YtjceehpfncfpgaaDoorZO
import Derived.Test.YtjceehpfncfpgaaDoorLay
import Derived.ProofKit
import Derived.SevenTiedAt
-- ALIAS Tryd
set_option linter.unusedVariables false
namespace Go.Proofs.YtjceehpfncfpgaaDoor
open Go Go.Av Go.ChangeShapes Go.WideShapes Go.ChangeAt Go.RowKit
theorem zxidOrders_all (ps : List PV) (h : ShTs Tryd.T Tryd.f6.params.toList ps) : ACon Tryd.prog 6 (ps.map .p) (.p (B true)) := by
  have hp : Tryd.f6.params.toList = [23, 23, 23] := by kernel_rfl
  rw [hp] at h
  match ps, h with
  | [p0, p1, p2], ⟨h0, h1, h2, _⟩ =>
    obtain ⟨a, rfl⟩ := zx_open h0
    obtain ⟨b, rfl⟩ := zx_open h1
    obtain ⟨c, rfl⟩ := zx_open h2
    exact zxidOrders_con a b c
set_option maxRecDepth 100000 in
theorem zxidOrders_lifted (os : Os) (started : os.Started) (H : Type) (enc : TypeId × Value → H) (F : Stop.Interp) :
    ReturnsInHanded {} Tryd.checked os 6 .any ((OpenSpec.ofChange Rows.zxidOrdersSpec).preRow enc Tryd.prog Tryd.f6 Rows.zxidOrdersRow.domain false Rows.zxidOrdersRow.laid) (((OpenSpec.ofChange Rows.zxidOrdersSpec).at F).post enc Tryd.prog Tryd.f6 false true false false) :=
  row_liftedC (C := Tryd.checked) (tb := 4) Tryd.tab (by kernel_rfl) started (by kernel_rfl) Tryd.func6
    (witnessC (enc := enc) (C := Tryd.checked) (laidWorld Tryd.prog os Tryd.lays) #[.agg #[.int .i64 0, .int .i64 0], .agg #[.int .i64 0, .int .i64 0], .agg #[.int .i64 0, .int .i64 0]] rfl (by kernel_rfl) (by kernel_rfl) (by kernel_rfl) (by kernel_rfl) rfl (by kernel_rfl) (Tryd.laid_met os _))
    rfl rfl Tryd.underlying4
    (fun ds h => by
      match ds, h with
      | [_, _, _], _ => exact ⟨rfl, rfl, rfl⟩)
    (by kernel_rfl) Tryd.globOK zxidOrders_all ⟨Tryd.f6, Tryd.func6, rfl, rfl⟩
theorem zxidOrders_said : Rows.ZxidOrdersSaid :=
  OpenClaim.holds_of_cond 6 Tryd.f6 rfl rfl rfl rfl rfl rfl rfl ⟨rfl, rfl, rfl, rfl, rfl⟩ rfl rfl rfl rfl rfl (by kernel_rfl) Tryd.func6 (by kernel_rfl)
    (of_decide_eq_true (by kernel_rfl)) (by unfold Func.isWrapper; first | (rw [if_pos (by decide +kernel)]; kernel_rfl) | (rw [if_neg (by decide +kernel)]; exact ⟨rfl, rfl⟩))
    (fun os started H enc _ F => by rw [OpenClaim.pre_eq_preRow]; exact zxidOrders_lifted os started H enc F)
theorem zxidOrders_plain (f : FuncId) (fn : Func) (hf : Tryd.pinned.checked.prog.funcNamed Rows.zxidOrdersRow.func = some f) (hfn : Tryd.pinned.checked.prog.funcs[f]? = some fn) :
    false = Tryd.pinned.checked.prog.looks [] ∧ ∀ (j : Nat) t, fn.params[j]? = some t → Tryd.pinned.checked.prog.wantsStandIn t = false := by
  obtain rfl : f = 6 := Option.some.inj ((show Tryd.prog.funcNamed Rows.zxidOrdersRow.func = some 6 by kernel_rfl).symm.trans hf) |>.symm
  obtain rfl : fn = Tryd.f6 := (Option.some.inj (Tryd.func6.symm.trans hfn)).symm
  refine ⟨by kernel_rfl, fun j t ht => ?_⟩
  have h := List.all_eq_true.1 (show (Tryd.f6.params.toList.all fun t => !Tryd.prog.wantsStandIn t) = true by kernel_rfl) t (by simpa using Array.mem_of_getElem? ht)
  have h' : Tryd.prog.wantsStandIn t = false := by simpa using h
  exact h'
theorem zxidOrders_holds : Rows.ZxidOrdersCardSaid :=
  Claim7.holds_tied_plain_at .later [] _ _ _ _ zxidOrders_said (fun _ h => by cases h) (by kernel_rfl) (fun _ h => by cases h) zxidOrders_row_tie rfl ⟨rfl, rfl⟩ (by kernel_rfl) rfl zxidOrders_plain (by kernel_rfl)
#print axioms zxidOrders_holds
end Go.Proofs.YtjceehpfncfpgaaDoor
