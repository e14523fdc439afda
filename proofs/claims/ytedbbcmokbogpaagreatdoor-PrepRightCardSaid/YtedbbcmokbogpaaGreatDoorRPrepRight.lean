/- PrepRight: which states are right, the program says as the document does, of any state: the law of layer 9 answers true, and what came in reads as before. No condition but that the library's listed tables hold what their text lays. -/
import Derived.Test.YtedbbcmokbogpaaGreatDoorP47PrepRight
import Derived.Test.YtedbbcmokbogpaaGreatDoorP49PrepRight
import Derived.Test.YtedbbcmokbogpaaGreatDoorP50PrepRight
import Derived.Test.YtedbbcmokbogpaaGreatDoorP51PrepRight
import Derived.ProofKit
import Derived.SevenTiedAt
set_option linter.unusedVariables false
namespace Go.Proofs.YtedbbcmokbogpaaGreatDoor
open Go Go.Av Go.ChangeShapes Go.WideShapes Go.ChangeAt Go.RowKit
theorem rp0_sz : SzI KB reachBytes (.agg rp0.cells) := by
 refine .agg _ fun j p hj=>?_
 have hp:=List.mem_of_getElem? hj
 have hc : rp0.cells = [I 0,I 0,I 0,.sl 6 [],I 0,.sl 4 [],.sl 1 [],I 0,I 0]:=rfl
 rw [hc] at hp
 have hi : SzI KB reachBytes (I 0):=.v _ (by intro s h;cases h)
 have hs : ∀ c,SzI KB reachBytes (.sl c []):=fun c=>.sl _ _ (by simp) (by simp)
 rcases List.mem_cons.1 hp with rfl | hp
 ·exact hi
 rcases List.mem_cons.1 hp with rfl | hp
 ·exact hi
 rcases List.mem_cons.1 hp with rfl | hp
 ·exact hi
 rcases List.mem_cons.1 hp with rfl | hp
 ·exact hs _
 rcases List.mem_cons.1 hp with rfl | hp
 ·exact hi
 rcases List.mem_cons.1 hp with rfl | hp
 ·exact hs _
 rcases List.mem_cons.1 hp with rfl | hp
 ·exact hs _
 rcases List.mem_cons.1 hp with rfl | hp
 ·exact hi
 rcases List.mem_cons.1 hp with rfl | hp
 ·exact hi
 ·simp at hp
theorem prepRight_all (ps : List PV) (h : ShTs Tryz.T Tryz.f3.params.toList ps) (hz : ∀ p ∈ ps, SzI KB reachBytes p) : zF Tryz.prog 3 (ps.map .p) (.p (B true)) := by
 have hp : Tryz.f3.params.toList = [30]:=by kernel_rfl
 rw [hp] at h
 match ps,h,hz with
 | [p0], ⟨h0, _⟩, hz =>
  obtain ⟨s,rfl⟩:=sv_open h0
  have zs:=hz (.agg s.cells) (by simp)
  exact prepRight_con s (long_of zs) (.of zs rp0_sz)
set_option maxRecDepth 100000 in
theorem prepRight_lifted (os : Os) (started : os.Started) (H : Type) (enc : TypeId × Value -> H) (F : Stop.Interp) :
 ReturnsInHanded {} Tryz.checked os 3 .any ((OpenSpec.ofChange Rows.prepRightSpec).preRow enc Tryz.prog Tryz.f3 Rows.prepRightRow.domain false Rows.prepRightRow.laid) (((OpenSpec.ofChange Rows.prepRightSpec).at F).post enc Tryz.prog Tryz.f3 false true false false) :=
 row_liftedCD (K := KB) (C := Tryz.checked) (tb := 4) Tryz.tab (by kernel_rfl) started (by kernel_rfl) Tryz.func3
  (witnessC (enc:=enc) (C:=Tryz.checked) (laidWorld Tryz.prog os Tryz.lays) #[.agg #[.slice none 0 0,.slice none 0 0,.int .i64 0,.int .i64 0,.int .i64 0,.int .i64 0,.slice none 0 0,.int .i64 0,.int .i64 0]] rfl (by kernel_rfl) (by kernel_rfl) (by kernel_rfl) (by kernel_rfl) rfl (by kernel_rfl) (Tryz.laid_met os _))
  rfl rfl Tryz.underlying4
  (fun ds h => by
   match ds,h with
   | [_],_=>exact ⟨rfl,rfl,rfl⟩)
  (by kernel_rfl) Tryz.globOK hpos prepRight_all ⟨Tryz.f3,Tryz.func3,rfl,rfl⟩
theorem prepRight_said : Rows.PrepRightSaid :=
 OpenClaim.holds_of_cond 3 Tryz.f3 rfl rfl rfl rfl rfl rfl rfl ⟨rfl, rfl, rfl, rfl, rfl⟩ rfl rfl rfl rfl rfl (by kernel_rfl) Tryz.func3 (by kernel_rfl)
  (of_decide_eq_true (by kernel_rfl)) (by unfold Func.isWrapper;first|(rw [if_pos (by decide +kernel)];kernel_rfl)|(rw [if_neg (by decide +kernel)];exact ⟨rfl,rfl⟩))
  (fun os started H enc _ F=>by rw [OpenClaim.pre_eq_preRow];exact prepRight_lifted os started H enc F)
theorem prepRight_plain (f : FuncId) (fn : Func) (hf : Tryz.pinned.checked.prog.funcNamed Rows.prepRightRow.func = some f) (hfn : Tryz.pinned.checked.prog.funcs[f]? = some fn) :
 Rows.prepRightCard.stood.looks = Tryz.pinned.checked.prog.looks [] /\ ∀ (j : Nat) t,fn.params[j]? = some t -> Tryz.pinned.checked.prog.wantsStandIn t = false:=by
 obtain rfl : f = 3:=Option.some.inj ((show Tryz.prog.funcNamed Rows.prepRightRow.func = some 3 by kernel_rfl).symm.trans hf) |>.symm
 obtain rfl : fn = Tryz.f3:=(Option.some.inj (Tryz.func3.symm.trans hfn)).symm
 refine ⟨by kernel_rfl,fun j t ht=>?_⟩
 have h:=List.all_eq_true.1 (show (Tryz.f3.params.toList.all fun t=>!Tryz.prog.wantsStandIn t) = true by kernel_rfl) t (by simpa using Array.mem_of_getElem? ht)
 have h' : Tryz.prog.wantsStandIn t = false:=by simpa using h
 exact h'
theorem prepRight_holds : Rows.PrepRightCardSaid :=
 Claim7.holds_tied_plain_at .later [] _ _ _ _ prepRight_said (fun _ h=>by cases h) (by kernel_rfl) (fun _ h=>by cases h) prepRight_row_tie rfl ⟨rfl,rfl⟩ (by kernel_rfl) rfl prepRight_plain (by kernel_rfl)
#print axioms prepRight_holds
end Go.Proofs.YtedbbcmokbogpaaGreatDoor

