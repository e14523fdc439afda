/- PrepAtOnce: ops at once come to what they come to one by one; where one is wrong, those ahead of it are right one by one, and it is wrong by itself, with the same error: the law of layer 9 answers true, whatever the state, the request and the place, and what came in reads as before. No condition but that the library's listed tables hold what their text lays. -/
import Derived.Test.YtedbbcmokbogpaaGreatDoorP47PrepAtOnce
import Derived.Test.YtedbbcmokbogpaaGreatDoorP49PrepAtOnce
import Derived.Test.YtedbbcmokbogpaaGreatDoorP50PrepAtOnce
import Derived.Test.YtedbbcmokbogpaaGreatDoorP51PrepAtOnce
import Derived.ProofKit
import Derived.SevenTiedAt
set_option linter.unusedVariables false
namespace Go.Proofs.YtedbbcmokbogpaaGreatDoor
open Go Go.Av Go.ChangeShapes Go.WideShapes Go.ChangeAt Go.RowKit
theorem prepAtOnce_all (ps : List PV) (h : ShTs Tryz.T Tryz.f5.params.toList ps) (hz : ∀ p ∈ ps, SzI KB reachBytes p) : zE Tryz.prog 5 (ps.map .p) (.p (B true)) := by
 have hp : Tryz.f5.params.toList = [30,36,25]:=by kernel_rfl
 rw [hp] at h
 match ps,h,hz with
 | [p0, p1, p2], ⟨h0, h1, h2, _⟩, hz =>
  obtain ⟨s,rfl⟩:=sv_open h0
  obtain ⟨r,rfl⟩:=rp_open h1
  obtain ⟨a,b,rfl⟩:=zx_open9 h2
  have zs:=hz (.agg s.cells) (by simp)
  exact prepAtOnce_con s r a b (long_of zs) (.of zs (hz _ (by simp)))
set_option maxRecDepth 100000 in
theorem prepAtOnce_lifted (os : Os) (started : os.Started) (H : Type) (enc : TypeId × Value -> H) (F : Stop.Interp) :
 ReturnsInHanded {} Tryz.checked os 5 .any ((OpenSpec.ofChange Rows.prepAtOnceSpec).preRow enc Tryz.prog Tryz.f5 Rows.prepAtOnceRow.domain false Rows.prepAtOnceRow.laid) (((OpenSpec.ofChange Rows.prepAtOnceSpec).at F).post enc Tryz.prog Tryz.f5 false true false false) :=
 row_liftedCD (K := KB) (C := Tryz.checked) (tb := 4) Tryz.tab (by kernel_rfl) started (by kernel_rfl) Tryz.func5
  (witnessC (enc:=enc) (C:=Tryz.checked) (laidWorld Tryz.prog os Tryz.lays) #[.agg #[.slice none 0 0,.slice none 0 0,.int .i64 0,.int .i64 0,.int .i64 0,.int .i64 0,.slice none 0 0,.int .i64 0,.int .i64 0],.agg #[.int .i64 0,.int .i64 0,.int .i64 0,.slice none 0 0,.int .i64 0,.slice none 0 0,.slice none 0 0,.int .i64 0,.int .i64 0],.agg #[.int .i64 0,.int .i64 0]] rfl (by kernel_rfl) (by kernel_rfl) (by kernel_rfl) (by kernel_rfl) rfl (by kernel_rfl) (Tryz.laid_met os _))
  rfl rfl Tryz.underlying4
  (fun ds h => by
   match ds,h with
   | [_,_,_],_=>exact ⟨rfl,rfl,rfl⟩)
  (by kernel_rfl) Tryz.globOK hpos prepAtOnce_all ⟨Tryz.f5,Tryz.func5,rfl,rfl⟩
theorem prepAtOnce_said : Rows.PrepAtOnceSaid :=
 OpenClaim.holds_of_cond 5 Tryz.f5 rfl rfl rfl rfl rfl rfl rfl ⟨rfl, rfl, rfl, rfl, rfl⟩ rfl rfl rfl rfl rfl (by kernel_rfl) Tryz.func5 (by kernel_rfl)
  (of_decide_eq_true (by kernel_rfl)) (by unfold Func.isWrapper;first|(rw [if_pos (by decide +kernel)];kernel_rfl)|(rw [if_neg (by decide +kernel)];exact ⟨rfl,rfl⟩))
  (fun os started H enc _ F=>by rw [OpenClaim.pre_eq_preRow];exact prepAtOnce_lifted os started H enc F)
theorem prepAtOnce_plain (f : FuncId) (fn : Func) (hf : Tryz.pinned.checked.prog.funcNamed Rows.prepAtOnceRow.func = some f) (hfn : Tryz.pinned.checked.prog.funcs[f]? = some fn) :
 Rows.prepAtOnceCard.stood.looks = Tryz.pinned.checked.prog.looks [] /\ ∀ (j : Nat) t,fn.params[j]? = some t -> Tryz.pinned.checked.prog.wantsStandIn t = false:=by
 obtain rfl : f = 5:=Option.some.inj ((show Tryz.prog.funcNamed Rows.prepAtOnceRow.func = some 5 by kernel_rfl).symm.trans hf) |>.symm
 obtain rfl : fn = Tryz.f5:=(Option.some.inj (Tryz.func5.symm.trans hfn)).symm
 refine ⟨by kernel_rfl,fun j t ht=>?_⟩
 have h:=List.all_eq_true.1 (show (Tryz.f5.params.toList.all fun t=>!Tryz.prog.wantsStandIn t) = true by kernel_rfl) t (by simpa using Array.mem_of_getElem? ht)
 have h' : Tryz.prog.wantsStandIn t = false:=by simpa using h
 exact h'
theorem prepAtOnce_holds : Rows.PrepAtOnceCardSaid :=
 Claim7.holds_tied_plain_at .later [] _ _ _ _ prepAtOnce_said (fun _ h=>by cases h) (by kernel_rfl) (fun _ h=>by cases h) prepAtOnce_row_tie rfl ⟨rfl,rfl⟩ (by kernel_rfl) rfl prepAtOnce_plain (by kernel_rfl)
#print axioms prepAtOnce_holds
end Go.Proofs.YtedbbcmokbogpaaGreatDoor

