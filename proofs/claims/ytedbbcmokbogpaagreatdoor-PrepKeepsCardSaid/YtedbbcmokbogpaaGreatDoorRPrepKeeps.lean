/- P9.5 -/
import Derived.Test.YtedbbcmokbogpaaGreatDoorP46PrepKeeps
import Derived.Test.YtedbbcmokbogpaaGreatDoorP48PrepKeeps
import Derived.Test.YtedbbcmokbogpaaGreatDoorP49PrepKeeps
import Derived.Test.YtedbbcmokbogpaaGreatDoorP50PrepKeeps
import Derived.ProofKit
import Derived.SevenTiedAt
set_option linter.unusedVariables false
namespace Go.Proofs.YtedbbcmokbogpaaGreatDoor
open Go Go.Av Go.ChangeShapes Go.WideShapes Go.ChangeAt Go.RowKit
theorem prepKeeps_all (ps : List PV) (h : ShTs Tryz.T Tryz.f4.params.toList ps) (hz : ∀ p ∈ ps, SzI KB reachBytes p) : zD Tryz.prog 4 (ps.map .p) (.p (B true)) := by
 have hp : Tryz.f4.params.toList = [30,36,25]:=by kernel_rfl
 rw [hp] at h
 match ps,h,hz with
 | [p0, p1, p2], ⟨h0, h1, h2, _⟩, hz =>
  obtain ⟨s,rfl⟩:=sv_open h0
  obtain ⟨r,rfl⟩:=rp_open h1
  obtain ⟨a,b,rfl⟩:=zx_open9 h2
  have zs:=hz (.agg s.cells) (by simp)
  exact prepKeeps_con s r a b (long_of zs) (.of zs (hz _ (by simp)))
set_option maxRecDepth 100000 in
theorem prepKeeps_lifted (os : Os) (started : os.Started) (H : Type) (enc : TypeId × Value -> H) (F : Stop.Interp) :
 ReturnsInHanded {} Tryz.checked os 4 .any ((OpenSpec.ofChange Rows.prepKeepsSpec).preRow enc Tryz.prog Tryz.f4 Rows.prepKeepsRow.domain false Rows.prepKeepsRow.laid) (((OpenSpec.ofChange Rows.prepKeepsSpec).at F).post enc Tryz.prog Tryz.f4 false true false false) :=
 row_liftedCD (K := KB) (C := Tryz.checked) (tb := 4) Tryz.tab (by kernel_rfl) started (by kernel_rfl) Tryz.func4
  (witnessC (enc:=enc) (C:=Tryz.checked) (laidWorld Tryz.prog os Tryz.lays) #[.agg #[.slice none 0 0,.slice none 0 0,.int .i64 0,.int .i64 0,.int .i64 0,.int .i64 0,.slice none 0 0,.int .i64 0,.int .i64 0],.agg #[.int .i64 0,.int .i64 0,.int .i64 0,.slice none 0 0,.int .i64 0,.slice none 0 0,.slice none 0 0,.int .i64 0,.int .i64 0],.agg #[.int .i64 0,.int .i64 0]] rfl (by kernel_rfl) (by kernel_rfl) (by kernel_rfl) (by kernel_rfl) rfl (by kernel_rfl) (Tryz.laid_met os _))
  rfl rfl Tryz.underlying4
  (fun ds h => by
   match ds,h with
   | [_,_,_],_=>exact ⟨rfl,rfl,rfl⟩)
  (by kernel_rfl) Tryz.globOK hpos prepKeeps_all ⟨Tryz.f4,Tryz.func4,rfl,rfl⟩
theorem prepKeeps_said : Rows.PrepKeepsSaid :=
 OpenClaim.holds_of_cond 4 Tryz.f4 rfl rfl rfl rfl rfl rfl rfl ⟨rfl, rfl, rfl, rfl, rfl⟩ rfl rfl rfl rfl rfl (by kernel_rfl) Tryz.func4 (by kernel_rfl)
  (of_decide_eq_true (by kernel_rfl)) (by unfold Func.isWrapper;first|(rw [if_pos (by decide +kernel)];kernel_rfl)|(rw [if_neg (by decide +kernel)];exact ⟨rfl,rfl⟩))
  (fun os started H enc _ F=>by rw [OpenClaim.pre_eq_preRow];exact prepKeeps_lifted os started H enc F)
theorem prepKeeps_plain (f : FuncId) (fn : Func) (hf : Tryz.pinned.checked.prog.funcNamed Rows.prepKeepsRow.func = some f) (hfn : Tryz.pinned.checked.prog.funcs[f]? = some fn) :
 Rows.prepKeepsCard.stood.looks = Tryz.pinned.checked.prog.looks [] /\ ∀ (j : Nat) t,fn.params[j]? = some t -> Tryz.pinned.checked.prog.wantsStandIn t = false:=by
 obtain rfl : f = 4:=Option.some.inj ((show Tryz.prog.funcNamed Rows.prepKeepsRow.func = some 4 by kernel_rfl).symm.trans hf) |>.symm
 obtain rfl : fn = Tryz.f4:=(Option.some.inj (Tryz.func4.symm.trans hfn)).symm
 refine ⟨by kernel_rfl,fun j t ht=>?_⟩
 have h:=List.all_eq_true.1 (show (Tryz.f4.params.toList.all fun t=>!Tryz.prog.wantsStandIn t) = true by kernel_rfl) t (by simpa using Array.mem_of_getElem? ht)
 have h' : Tryz.prog.wantsStandIn t = false:=by simpa using h
 exact h'
theorem prepKeeps_holds : Rows.PrepKeepsCardSaid :=
 Claim7.holds_tied_plain_at .later [] _ _ _ _ prepKeeps_said (fun _ h=>by cases h) (by kernel_rfl) (fun _ h=>by cases h) prepKeeps_row_tie rfl ⟨rfl,rfl⟩ (by kernel_rfl) rfl prepKeeps_plain (by kernel_rfl)
#print axioms prepKeeps_holds
end Go.Proofs.YtedbbcmokbogpaaGreatDoor

