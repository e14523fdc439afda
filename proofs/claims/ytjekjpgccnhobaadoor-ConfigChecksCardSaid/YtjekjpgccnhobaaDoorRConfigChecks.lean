/- ConfigChecks: what may be a config, and who of it is asked for: the program's answers are the document's: the law of layer 4 answers true, whatever the config and the number, and what came in reads as before. No condition but that the library's listed tables hold what their text lays. -/
import Derived.Test.YtjekjpgccnhobaaDoorP28ConfigChecks
import Derived.Test.YtjekjpgccnhobaaDoorP30ConfigChecks
import Derived.Test.YtjekjpgccnhobaaDoorP31ConfigChecks
import Derived.Test.YtjekjpgccnhobaaDoorP32ConfigChecks
import Derived.ProofKit
import Derived.SevenTiedAt
set_option linter.unusedVariables false
namespace Go.Proofs.YtjekjpgccnhobaaDoor
open Go Go.Av Go.ChangeShapes Go.WideShapes Go.ChangeAt Go.RowKit
theorem configChecks_all (ps : List PV) (h : ShTs Tryd.T Tryd.f3.params.toList ps) (hz : ∀ p ∈ ps, SzI KB reachBytes p) : zF Tryd.prog 3 (ps.map .p) (.p (B true)) := by
  have hp : Tryd.f3.params.toList = [26,3]:=by kernel_rfl
  rw [hp] at h
  match ps,h,hz with
  | [p0, p1], ⟨h0, h1, _⟩, hz =>
    obtain ⟨c,rfl⟩:=cf_open h0
    obtain ⟨n,rfl⟩:=int_open9 h1
    have zc:=cf_len (hz (.agg c.cells) (by simp))
    exact configChecks_con c n (by omega)
set_option maxRecDepth 100000 in
theorem configChecks_lifted (os : Os) (started : os.Started) (H : Type) (enc : TypeId × Value → H) (F : Stop.Interp) :
    ReturnsInHanded {} Tryd.checked os 3 .any ((OpenSpec.ofChange Rows.configChecksSpec).preRow enc Tryd.prog Tryd.f3 Rows.configChecksRow.domain false Rows.configChecksRow.laid) (((OpenSpec.ofChange Rows.configChecksSpec).at F).post enc Tryd.prog Tryd.f3 false true false false) :=
  row_liftedCD (K := KB) (C := Tryd.checked) (tb := 4) Tryd.tab (by kernel_rfl) started (by kernel_rfl) Tryd.func3
    (witnessC (enc:=enc) (C:=Tryd.checked) (laidWorld Tryd.prog os Tryd.lays) #[.agg #[.int .i64 0,.int .i64 0,.int .i64 0,.slice none 0 0],.int .i64 0] rfl (by kernel_rfl) (by kernel_rfl) (by kernel_rfl) (by kernel_rfl) rfl (by kernel_rfl) (Tryd.laid_met os _))
    rfl rfl Tryd.underlying4
    (fun ds h => by
      match ds,h with
      | [_,_],_=>exact ⟨rfl,rfl,rfl⟩)
    (by kernel_rfl) Tryd.globOK hpos configChecks_all ⟨Tryd.f3,Tryd.func3,rfl,rfl⟩
theorem configChecks_said : Rows.ConfigChecksSaid :=
  OpenClaim.holds_of_cond 3 Tryd.f3 rfl rfl rfl rfl rfl rfl rfl ⟨rfl, rfl, rfl, rfl, rfl⟩ rfl rfl rfl rfl rfl (by kernel_rfl) Tryd.func3 (by kernel_rfl)
    (of_decide_eq_true (by kernel_rfl)) (by unfold Func.isWrapper;first|(rw [if_pos (by decide +kernel)];kernel_rfl)|(rw [if_neg (by decide +kernel)];exact ⟨rfl,rfl⟩))
    (fun os started H enc _ F=>by rw [OpenClaim.pre_eq_preRow];exact configChecks_lifted os started H enc F)
theorem configChecks_plain (f : FuncId) (fn : Func) (hf : Tryd.pinned.checked.prog.funcNamed Rows.configChecksRow.func = some f) (hfn : Tryd.pinned.checked.prog.funcs[f]? = some fn) :
    Rows.configChecksCard.stood.looks = Tryd.pinned.checked.prog.looks [] ∧ ∀ (j : Nat) t,fn.params[j]? = some t → Tryd.pinned.checked.prog.wantsStandIn t = false:=by
  obtain rfl : f = 3:=Option.some.inj ((show Tryd.prog.funcNamed Rows.configChecksRow.func = some 3 by kernel_rfl).symm.trans hf) |>.symm
  obtain rfl : fn = Tryd.f3:=(Option.some.inj (Tryd.func3.symm.trans hfn)).symm
  refine ⟨by kernel_rfl,fun j t ht=>?_⟩
  have h:=List.all_eq_true.1 (show (Tryd.f3.params.toList.all fun t=>!Tryd.prog.wantsStandIn t) = true by kernel_rfl) t (by simpa using Array.mem_of_getElem? ht)
  have h' : Tryd.prog.wantsStandIn t = false:=by simpa using h
  exact h'
theorem configChecks_holds : Rows.ConfigChecksCardSaid :=
  Claim7.holds_tied_plain_at .later [] _ _ _ _ configChecks_said (fun _ h=>by cases h) (by kernel_rfl) (fun _ h=>by cases h) configChecks_row_tie rfl ⟨rfl,rfl⟩ (by kernel_rfl) rfl configChecks_plain (by kernel_rfl)
#print axioms configChecks_holds
end Go.Proofs.YtjekjpgccnhobaaDoor

