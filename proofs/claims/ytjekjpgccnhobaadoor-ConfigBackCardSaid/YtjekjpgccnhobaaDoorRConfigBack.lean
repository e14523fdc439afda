/- ConfigBack: a config written and read is the config; a text read and written is the text: the law of layer 4 answers true, whatever the config and the text, and what came in reads as before. No condition but that the library's listed tables hold what their text lays. -/
import Derived.Test.YtjekjpgccnhobaaDoorP29ConfigBack
import Derived.Test.YtjekjpgccnhobaaDoorP31ConfigBack
import Derived.Test.YtjekjpgccnhobaaDoorP32ConfigBack
import Derived.Test.YtjekjpgccnhobaaDoorP33ConfigBack
import Derived.ProofKit
import Derived.SevenTiedAt
set_option linter.unusedVariables false
namespace Go.Proofs.YtjekjpgccnhobaaDoor
open Go Go.Av Go.ChangeShapes Go.WideShapes Go.ChangeAt Go.RowKit
theorem configBack_all (ps : List PV) (h : ShTs Tryd.T Tryd.f5.params.toList ps) (hz : ∀ p ∈ ps, SzI KB reachBytes p) : zD Tryd.prog 5 (ps.map .p) (.p (B true)) := by
  have hp : Tryd.f5.params.toList = [26,9]:=by kernel_rfl
  rw [hp] at h
  match ps,h,hz with
  | [p0, p1], ⟨h0, h1, _⟩, hz =>
    obtain ⟨c,rfl⟩:=cf_open h0
    obtain ⟨s,rfl⟩:=str_openC h1
    have zc:=cf_len (hz (.agg c.cells) (by simp))
    exact configBack_con c s (by omega) (by have:=szS (hz (SB s) (by simp));omega)
set_option maxRecDepth 100000 in
theorem configBack_lifted (os : Os) (started : os.Started) (H : Type) (enc : TypeId × Value → H) (F : Stop.Interp) :
    ReturnsInHanded {} Tryd.checked os 5 .any ((OpenSpec.ofChange Rows.configBackSpec).preRow enc Tryd.prog Tryd.f5 Rows.configBackRow.domain false Rows.configBackRow.laid) (((OpenSpec.ofChange Rows.configBackSpec).at F).post enc Tryd.prog Tryd.f5 false true false false) :=
  row_liftedCD (K := KB) (C := Tryd.checked) (tb := 4) Tryd.tab (by kernel_rfl) started (by kernel_rfl) Tryd.func5
    (witnessC (enc:=enc) (C:=Tryd.checked) (laidWorld Tryd.prog os Tryd.lays) #[.agg #[.int .i64 0,.int .i64 0,.int .i64 0,.slice none 0 0],.string .empty] rfl (by kernel_rfl) (by kernel_rfl) (by kernel_rfl) (by kernel_rfl) rfl (by kernel_rfl) (Tryd.laid_met os _))
    rfl rfl Tryd.underlying4
    (fun ds h => by
      match ds,h with
      | [_,_],_=>exact ⟨rfl,rfl,rfl⟩)
    (by kernel_rfl) Tryd.globOK xI configBack_all ⟨Tryd.f5,Tryd.func5,rfl,rfl⟩
theorem configBack_said : Rows.ConfigBackSaid :=
  OpenClaim.holds_of_cond 5 Tryd.f5 rfl rfl rfl rfl rfl rfl rfl ⟨rfl, rfl, rfl, rfl, rfl⟩ rfl rfl rfl rfl rfl (by kernel_rfl) Tryd.func5 (by kernel_rfl)
    (of_decide_eq_true (by kernel_rfl)) (by unfold Func.isWrapper;first|(rw [if_pos (by decide +kernel)];kernel_rfl)|(rw [if_neg (by decide +kernel)];exact ⟨rfl,rfl⟩))
    (fun os started H enc _ F=>by rw [OpenClaim.pre_eq_preRow];exact configBack_lifted os started H enc F)
theorem configBack_plain (f : FuncId) (fn : Func) (hf : Tryd.pinned.checked.prog.funcNamed Rows.configBackRow.func = some f) (hfn : Tryd.pinned.checked.prog.funcs[f]? = some fn) :
    Rows.configBackCard.stood.looks = Tryd.pinned.checked.prog.looks [] ∧ ∀ (j : Nat) t,fn.params[j]? = some t → Tryd.pinned.checked.prog.wantsStandIn t = false:=by
  obtain rfl : f = 5:=Option.some.inj ((show Tryd.prog.funcNamed Rows.configBackRow.func = some 5 by kernel_rfl).symm.trans hf) |>.symm
  obtain rfl : fn = Tryd.f5:=(Option.some.inj (Tryd.func5.symm.trans hfn)).symm
  refine ⟨by kernel_rfl,fun j t ht=>?_⟩
  have h:=List.all_eq_true.1 (show (Tryd.f5.params.toList.all fun t=>!Tryd.prog.wantsStandIn t) = true by kernel_rfl) t (by simpa using Array.mem_of_getElem? ht)
  have h' : Tryd.prog.wantsStandIn t = false:=by simpa using h
  exact h'
theorem configBack_holds : Rows.ConfigBackCardSaid :=
  Claim7.holds_tied_plain_at .later [] _ _ _ _ configBack_said (fun _ h=>by cases h) (by kernel_rfl) (fun _ h=>by cases h) configBack_row_tie rfl ⟨rfl,rfl⟩ (by kernel_rfl) rfl configBack_plain (by kernel_rfl)
#print axioms configBack_holds
end Go.Proofs.YtjekjpgccnhobaaDoor

