/- ConfigSorts: members by their numbers, and which configs are the same: the program's answers are the document's: the law of layer 4 answers true, whatever the two configs, and what came in reads as before. No condition but that the library's listed tables hold what their text lays. -/
import Derived.Test.YtjekjpgccnhobaaDoorP31ConfigSorts
import Derived.Test.YtjekjpgccnhobaaDoorP33ConfigSorts
import Derived.Test.YtjekjpgccnhobaaDoorP34ConfigSorts
import Derived.Test.YtjekjpgccnhobaaDoorP35ConfigSorts
import Derived.ProofKit
import Derived.SevenTiedAt
set_option linter.unusedVariables false
namespace Go.Proofs.YtjekjpgccnhobaaDoor
open Go Go.Av Go.ChangeShapes Go.WideShapes Go.ChangeAt Go.RowKit
theorem configSorts_all (ps : List PV) (h : ShTs Tryd.T Tryd.f4.params.toList ps) (hz : ∀ p ∈ ps, SzI KB reachBytes p) : zE Tryd.prog 4 (ps.map .p) (.p (B true)) := by
 have hp : Tryd.f4.params.toList = [26,26]:=by kernel_rfl
 rw [hp] at h
 match ps,h,hz with
 | [p0, p1], ⟨h0, h1, _⟩, hz =>
  obtain ⟨a,rfl⟩:=cf_open h0
  obtain ⟨b,rfl⟩:=cf_open h1
  have za:=cf_len (hz (.agg a.cells) (by simp))
  have zb:=cf_len (hz (.agg b.cells) (by simp))
  exact configSorts_con a b (by omega) (by omega)
set_option maxRecDepth 100000 in
theorem configSorts_lifted (os : Os) (started : os.Started) (H : Type) (enc : TypeId × Value -> H) (F : Stop.Interp) :
 ReturnsInHanded {} Tryd.checked os 4 .any ((OpenSpec.ofChange Rows.configSortsSpec).preRow enc Tryd.prog Tryd.f4 Rows.configSortsRow.domain false Rows.configSortsRow.laid) (((OpenSpec.ofChange Rows.configSortsSpec).at F).post enc Tryd.prog Tryd.f4 false true false false) :=
 row_liftedCD (K := KB) (C := Tryd.checked) (tb := 4) Tryd.tab (by kernel_rfl) started (by kernel_rfl) Tryd.func4
  (witnessC (enc:=enc) (C:=Tryd.checked) (laidWorld Tryd.prog os Tryd.lays) #[.agg #[.int .i64 0,.int .i64 0,.int .i64 0,.slice none 0 0],.agg #[.int .i64 0,.int .i64 0,.int .i64 0,.slice none 0 0]] rfl (by kernel_rfl) (by kernel_rfl) (by kernel_rfl) (by kernel_rfl) rfl (by kernel_rfl) (Tryd.laid_met os _))
  rfl rfl Tryd.underlying4
  (fun ds h => by
   match ds,h with
   | [_,_],_=>exact ⟨rfl,rfl,rfl⟩)
  (by kernel_rfl) Tryd.globOK hpos configSorts_all ⟨Tryd.f4,Tryd.func4,rfl,rfl⟩
theorem configSorts_said : Rows.ConfigSortsSaid :=
 OpenClaim.holds_of_cond 4 Tryd.f4 rfl rfl rfl rfl rfl rfl rfl ⟨rfl, rfl, rfl, rfl, rfl⟩ rfl rfl rfl rfl rfl (by kernel_rfl) Tryd.func4 (by kernel_rfl)
  (of_decide_eq_true (by kernel_rfl)) (by unfold Func.isWrapper;first|(rw [if_pos (by decide +kernel)];kernel_rfl)|(rw [if_neg (by decide +kernel)];exact ⟨rfl,rfl⟩))
  (fun os started H enc _ F=>by rw [OpenClaim.pre_eq_preRow];exact configSorts_lifted os started H enc F)
theorem configSorts_plain (f : FuncId) (fn : Func) (hf : Tryd.pinned.checked.prog.funcNamed Rows.configSortsRow.func = some f) (hfn : Tryd.pinned.checked.prog.funcs[f]? = some fn) :
 Rows.configSortsCard.stood.looks = Tryd.pinned.checked.prog.looks [] /\ ∀ (j : Nat) t,fn.params[j]? = some t -> Tryd.pinned.checked.prog.wantsStandIn t = false:=by
 obtain rfl : f = 4:=Option.some.inj ((show Tryd.prog.funcNamed Rows.configSortsRow.func = some 4 by kernel_rfl).symm.trans hf) |>.symm
 obtain rfl : fn = Tryd.f4:=(Option.some.inj (Tryd.func4.symm.trans hfn)).symm
 refine ⟨by kernel_rfl,fun j t ht=>?_⟩
 have h:=List.all_eq_true.1 (show (Tryd.f4.params.toList.all fun t=>!Tryd.prog.wantsStandIn t) = true by kernel_rfl) t (by simpa using Array.mem_of_getElem? ht)
 have h' : Tryd.prog.wantsStandIn t = false:=by simpa using h
 exact h'
theorem configSorts_holds : Rows.ConfigSortsCardSaid :=
 Claim7.holds_tied_plain_at .later [] _ _ _ _ configSorts_said (fun _ h=>by cases h) (by kernel_rfl) (fun _ h=>by cases h) configSorts_row_tie rfl ⟨rfl,rfl⟩ (by kernel_rfl) rfl configSorts_plain (by kernel_rfl)
#print axioms configSorts_holds
end Go.Proofs.YtjekjpgccnhobaaDoor

