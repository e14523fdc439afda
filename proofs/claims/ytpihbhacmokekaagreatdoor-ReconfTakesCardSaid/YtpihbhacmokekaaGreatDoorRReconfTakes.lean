/- ReconfTakes: what is taken may be, has a quorum of those that have all that is committed, and is the last config with the change done to it; nothing is taken while one is on its way: the law of layer 20 answers true, whatever the history, the book and the request, and what came in reads as before. No condition but that the library's listed tables hold what their text lays. -/
import Derived.Test.YtpihbhacmokekaaGreatDoorP42ReconfTakes
import Derived.Test.YtpihbhacmokekaaGreatDoorP44ReconfTakes
import Derived.Test.YtpihbhacmokekaaGreatDoorP46ReconfTakes
import Derived.Test.YtpihbhacmokekaaGreatDoorP47ReconfTakes
import Derived.ProofKit
import Derived.SevenTiedAt
set_option linter.unusedVariables false
namespace Go.Proofs.YtpihbhacmokekaaGreatDoor
open Go Go.Av Go.ChangeShapes Go.WideShapes Go.ChangeAt Go.RowKit
theorem reconfTakes_all (ps : List PV) (h : ShTs Tryz.T Tryz.f4.params.toList ps) (hz : ∀ p ∈ ps, SzI KB reachBytes p) : zE Tryz.prog 4 (ps.map .p) (.p (B true)) := by
 have hp : Tryz.f4.params.toList = [36,41]:=by kernel_rfl
 rw [hp] at h
 match ps,h,hz with
 | [p0, p1], ⟨h0, h1, _⟩, hz =>
  obtain ⟨x,rfl⟩:=ca_open h0
  obtain ⟨r,rfl⟩:=rp_open h1
  have zx:=hz (.agg x.cells) (by simp)
  exact reconfTakes_con x r (.of (Ca.hyz zx)) (.of (zx.part (by simp [Ca.cells]))) (.of (hz _ (by simp))) (.of (Ca.hyz zx))
set_option maxRecDepth 100000 in
theorem reconfTakes_lifted (os : Os) (started : os.Started) (H : Type) (enc : TypeId × Value -> H) (F : Stop.Interp) :
 ReturnsInHanded {} Tryz.checked os 4 .any ((OpenSpec.ofChange Rows.reconfTakesSpec).preRow enc Tryz.prog Tryz.f4 Rows.reconfTakesRow.domain false Rows.reconfTakesRow.laid) (((OpenSpec.ofChange Rows.reconfTakesSpec).at F).post enc Tryz.prog Tryz.f4 false true false false) :=
 row_liftedCD (K := KB) (C := Tryz.checked) (tb := 4) Tryz.tab (by kernel_rfl) started (by kernel_rfl) Tryz.func4
  (witnessC (enc:=enc) (C:=Tryz.checked) (laidWorld Tryz.prog os Tryz.lays) #[.agg #[.slice none 0 0,.slice none 0 0,.int .i64 0,.int .i64 0,.int .i64 0,.int .i64 0,.slice none 0 0,.int .i64 0,.int .i64 0,.slice none 0 0,.int .i64 0,.int .i64 0,.int .i64 0,.slice none 0 0],.agg #[.int .i64 0,.int .i64 0,.int .i64 0,.slice none 0 0,.int .i64 0,.slice none 0 0,.slice none 0 0,.int .i64 0,.int .i64 0]] rfl (by kernel_rfl) (by kernel_rfl) (by kernel_rfl) (by kernel_rfl) rfl (by kernel_rfl) (Tryz.laid_met os _))
  rfl rfl Tryz.underlying4
  (fun ds h => by
   match ds,h with
   | [_,_],_=>exact ⟨rfl,rfl,rfl⟩)
  (by kernel_rfl) Tryz.globOK hpos reconfTakes_all ⟨Tryz.f4,Tryz.func4,rfl,rfl⟩
theorem reconfTakes_said : Rows.ReconfTakesSaid :=
 OpenClaim.holds_of_cond 4 Tryz.f4 rfl rfl rfl rfl rfl rfl rfl ⟨rfl, rfl, rfl, rfl, rfl⟩ rfl rfl rfl rfl rfl (by kernel_rfl) Tryz.func4 (by kernel_rfl)
  (of_decide_eq_true (by kernel_rfl)) (by unfold Func.isWrapper;first|(rw [if_pos (by decide +kernel)];kernel_rfl)|(rw [if_neg (by decide +kernel)];exact ⟨rfl,rfl⟩))
  (fun os started H enc _ F=>by rw [OpenClaim.pre_eq_preRow];exact reconfTakes_lifted os started H enc F)
theorem reconfTakes_plain (f : FuncId) (fn : Func) (hf : Tryz.pinned.checked.prog.funcNamed Rows.reconfTakesRow.func = some f) (hfn : Tryz.pinned.checked.prog.funcs[f]? = some fn) :
 Rows.reconfTakesCard.stood.looks = Tryz.pinned.checked.prog.looks [] /\ ∀ (j : Nat) t,fn.params[j]? = some t -> Tryz.pinned.checked.prog.wantsStandIn t = false:=by
 obtain rfl : f = 4:=Option.some.inj ((show Tryz.prog.funcNamed Rows.reconfTakesRow.func = some 4 by kernel_rfl).symm.trans hf) |>.symm
 obtain rfl : fn = Tryz.f4:=(Option.some.inj (Tryz.func4.symm.trans hfn)).symm
 refine ⟨by kernel_rfl,fun j t ht=>?_⟩
 have h:=List.all_eq_true.1 (show (Tryz.f4.params.toList.all fun t=>!Tryz.prog.wantsStandIn t) = true by kernel_rfl) t (by simpa using Array.mem_of_getElem? ht)
 have h' : Tryz.prog.wantsStandIn t = false:=by simpa using h
 exact h'
theorem reconfTakes_holds : Rows.ReconfTakesCardSaid :=
 Claim7.holds_tied_plain_at .later [] _ _ _ _ reconfTakes_said (fun _ h=>by cases h) (by kernel_rfl) (fun _ h=>by cases h) reconfTakes_row_tie rfl ⟨rfl,rfl⟩ (by kernel_rfl) rfl reconfTakes_plain (by kernel_rfl)
#print axioms reconfTakes_holds
end Go.Proofs.YtpihbhacmokekaaGreatDoor

