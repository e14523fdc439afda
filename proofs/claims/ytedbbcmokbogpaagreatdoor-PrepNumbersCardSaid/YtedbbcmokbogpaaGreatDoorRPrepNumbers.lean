/- PrepNumbers: two nodes made one behind the other with numbers behind one path: the later one's is the greater: the law of layer 9 answers true, whatever the state, the request and the path, and what came in reads as before. No condition but that the library's listed tables hold what their text lays. -/
import Derived.Test.YtedbbcmokbogpaaGreatDoorP46PrepNumbers
import Derived.Test.YtedbbcmokbogpaaGreatDoorP48PrepNumbers
import Derived.Test.YtedbbcmokbogpaaGreatDoorP49PrepNumbers
import Derived.Test.YtedbbcmokbogpaaGreatDoorP50PrepNumbers
import Derived.ProofKit
import Derived.SevenTiedAt
set_option linter.unusedVariables false
namespace Go.Proofs.YtedbbcmokbogpaaGreatDoor
open Go Go.Av Go.ChangeShapes Go.WideShapes Go.ChangeAt Go.RowKit
theorem prepNumbers_all (ps : List PV) (h : ShTs Tryz.T Tryz.f6.params.toList ps) (hz : ∀ p ∈ ps, SzI KB reachBytes p) : zD Tryz.prog 6 (ps.map .p) (.p (B true)) := by
 have hp : Tryz.f6.params.toList = [30,36,9]:=by kernel_rfl
 rw [hp] at h
 match ps,h,hz with
 | [p0, p1, p2], ⟨h0, h1, h2, _⟩, hz =>
  obtain ⟨s,rfl⟩:=sv_open h0
  obtain ⟨r,rfl⟩:=rp_open h1
  obtain ⟨p,rfl⟩:=str_open9 h2
  have zs:=hz (.agg s.cells) (by simp)
  exact prepNumbers_con s r p (long_of zs) (.of zs (hz _ (by simp))) (szS (hz _ (by simp)))
set_option maxRecDepth 100000 in
theorem prepNumbers_lifted (os : Os) (started : os.Started) (H : Type) (enc : TypeId × Value -> H) (F : Stop.Interp) :
 ReturnsInHanded {} Tryz.checked os 6 .any ((OpenSpec.ofChange Rows.prepNumbersSpec).preRow enc Tryz.prog Tryz.f6 Rows.prepNumbersRow.domain false Rows.prepNumbersRow.laid) (((OpenSpec.ofChange Rows.prepNumbersSpec).at F).post enc Tryz.prog Tryz.f6 false true false false) :=
 row_liftedCD (K := KB) (C := Tryz.checked) (tb := 4) Tryz.tab (by kernel_rfl) started (by kernel_rfl) Tryz.func6
  (witnessC (enc:=enc) (C:=Tryz.checked) (laidWorld Tryz.prog os Tryz.lays) #[.agg #[.slice none 0 0,.slice none 0 0,.int .i64 0,.int .i64 0,.int .i64 0,.int .i64 0,.slice none 0 0,.int .i64 0,.int .i64 0],.agg #[.int .i64 0,.int .i64 0,.int .i64 0,.slice none 0 0,.int .i64 0,.slice none 0 0,.slice none 0 0,.int .i64 0,.int .i64 0],.string .empty] rfl (by kernel_rfl) (by kernel_rfl) (by kernel_rfl) (by kernel_rfl) rfl (by kernel_rfl) (Tryz.laid_met os _))
  rfl rfl Tryz.underlying4
  (fun ds h => by
   match ds,h with
   | [_,_,_],_=>exact ⟨rfl,rfl,rfl⟩)
  (by kernel_rfl) Tryz.globOK hpos prepNumbers_all ⟨Tryz.f6,Tryz.func6,rfl,rfl⟩
theorem prepNumbers_said : Rows.PrepNumbersSaid :=
 OpenClaim.holds_of_cond 6 Tryz.f6 rfl rfl rfl rfl rfl rfl rfl ⟨rfl, rfl, rfl, rfl, rfl⟩ rfl rfl rfl rfl rfl (by kernel_rfl) Tryz.func6 (by kernel_rfl)
  (of_decide_eq_true (by kernel_rfl)) (by unfold Func.isWrapper;first|(rw [if_pos (by decide +kernel)];kernel_rfl)|(rw [if_neg (by decide +kernel)];exact ⟨rfl,rfl⟩))
  (fun os started H enc _ F=>by rw [OpenClaim.pre_eq_preRow];exact prepNumbers_lifted os started H enc F)
theorem prepNumbers_plain (f : FuncId) (fn : Func) (hf : Tryz.pinned.checked.prog.funcNamed Rows.prepNumbersRow.func = some f) (hfn : Tryz.pinned.checked.prog.funcs[f]? = some fn) :
 Rows.prepNumbersCard.stood.looks = Tryz.pinned.checked.prog.looks [] /\ ∀ (j : Nat) t,fn.params[j]? = some t -> Tryz.pinned.checked.prog.wantsStandIn t = false:=by
 obtain rfl : f = 6:=Option.some.inj ((show Tryz.prog.funcNamed Rows.prepNumbersRow.func = some 6 by kernel_rfl).symm.trans hf) |>.symm
 obtain rfl : fn = Tryz.f6:=(Option.some.inj (Tryz.func6.symm.trans hfn)).symm
 refine ⟨by kernel_rfl,fun j t ht=>?_⟩
 have h:=List.all_eq_true.1 (show (Tryz.f6.params.toList.all fun t=>!Tryz.prog.wantsStandIn t) = true by kernel_rfl) t (by simpa using Array.mem_of_getElem? ht)
 have h' : Tryz.prog.wantsStandIn t = false:=by simpa using h
 exact h'
theorem prepNumbers_holds : Rows.PrepNumbersCardSaid :=
 Claim7.holds_tied_plain_at .later [] _ _ _ _ prepNumbers_said (fun _ h=>by cases h) (by kernel_rfl) (fun _ h=>by cases h) prepNumbers_row_tie rfl ⟨rfl,rfl⟩ (by kernel_rfl) rfl prepNumbers_plain (by kernel_rfl)
#print axioms prepNumbers_holds
end Go.Proofs.YtedbbcmokbogpaaGreatDoor

