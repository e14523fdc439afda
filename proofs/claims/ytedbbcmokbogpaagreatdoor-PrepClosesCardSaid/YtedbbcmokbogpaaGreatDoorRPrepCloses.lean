/- PrepCloses: with a session its nodes go, and no others; it is closed, and all others are open still: the law of layer 9 answers true, whatever the state and the session, and what came in reads as before. No condition but that the library's listed tables hold what their text lays. -/
import Derived.Test.YtedbbcmokbogpaaGreatDoorP48PrepCloses
import Derived.Test.YtedbbcmokbogpaaGreatDoorP50PrepCloses
import Derived.Test.YtedbbcmokbogpaaGreatDoorP51PrepCloses
import Derived.Test.YtedbbcmokbogpaaGreatDoorP52PrepCloses
import Derived.ProofKit
import Derived.SevenTiedAt
set_option linter.unusedVariables false
namespace Go.Proofs.YtedbbcmokbogpaaGreatDoor
open Go Go.Av Go.ChangeShapes Go.WideShapes Go.ChangeAt Go.RowKit
theorem prepCloses_all (ps : List PV) (h : ShTs Tryz.T Tryz.f7.params.toList ps) (hz : ∀ p ∈ ps, SzI KB reachBytes p) : zF Tryz.prog 7 (ps.map .p) (.p (B true)) := by
 have hp : Tryz.f7.params.toList = [30,3]:=by kernel_rfl
 rw [hp] at h
 match ps,h,hz with
 | [p0, p1], ⟨h0, h1, _⟩, hz =>
  obtain ⟨s,rfl⟩:=sv_open h0
  obtain ⟨n,rfl⟩:=int_open9 h1
  have zs:=hz (.agg s.cells) (by simp)
  exact prepCloses_con s n (long_of zs) (.of zs rp0_sz)
set_option maxRecDepth 100000 in
theorem prepCloses_lifted (os : Os) (started : os.Started) (H : Type) (enc : TypeId × Value -> H) (F : Stop.Interp) :
 ReturnsInHanded {} Tryz.checked os 7 .any ((OpenSpec.ofChange Rows.prepClosesSpec).preRow enc Tryz.prog Tryz.f7 Rows.prepClosesRow.domain false Rows.prepClosesRow.laid) (((OpenSpec.ofChange Rows.prepClosesSpec).at F).post enc Tryz.prog Tryz.f7 false true false false) :=
 row_liftedCD (K := KB) (C := Tryz.checked) (tb := 4) Tryz.tab (by kernel_rfl) started (by kernel_rfl) Tryz.func7
  (witnessC (enc:=enc) (C:=Tryz.checked) (laidWorld Tryz.prog os Tryz.lays) #[.agg #[.slice none 0 0,.slice none 0 0,.int .i64 0,.int .i64 0,.int .i64 0,.int .i64 0,.slice none 0 0,.int .i64 0,.int .i64 0],.int .i64 0] rfl (by kernel_rfl) (by kernel_rfl) (by kernel_rfl) (by kernel_rfl) rfl (by kernel_rfl) (Tryz.laid_met os _))
  rfl rfl Tryz.underlying4
  (fun ds h => by
   match ds,h with
   | [_,_],_=>exact ⟨rfl,rfl,rfl⟩)
  (by kernel_rfl) Tryz.globOK hpos prepCloses_all ⟨Tryz.f7,Tryz.func7,rfl,rfl⟩
theorem prepCloses_said : Rows.PrepClosesSaid :=
 OpenClaim.holds_of_cond 7 Tryz.f7 rfl rfl rfl rfl rfl rfl rfl ⟨rfl, rfl, rfl, rfl, rfl⟩ rfl rfl rfl rfl rfl (by kernel_rfl) Tryz.func7 (by kernel_rfl)
  (of_decide_eq_true (by kernel_rfl)) (by unfold Func.isWrapper;first|(rw [if_pos (by decide +kernel)];kernel_rfl)|(rw [if_neg (by decide +kernel)];exact ⟨rfl,rfl⟩))
  (fun os started H enc _ F=>by rw [OpenClaim.pre_eq_preRow];exact prepCloses_lifted os started H enc F)
theorem prepCloses_plain (f : FuncId) (fn : Func) (hf : Tryz.pinned.checked.prog.funcNamed Rows.prepClosesRow.func = some f) (hfn : Tryz.pinned.checked.prog.funcs[f]? = some fn) :
 Rows.prepClosesCard.stood.looks = Tryz.pinned.checked.prog.looks [] /\ ∀ (j : Nat) t,fn.params[j]? = some t -> Tryz.pinned.checked.prog.wantsStandIn t = false:=by
 obtain rfl : f = 7:=Option.some.inj ((show Tryz.prog.funcNamed Rows.prepClosesRow.func = some 7 by kernel_rfl).symm.trans hf) |>.symm
 obtain rfl : fn = Tryz.f7:=(Option.some.inj (Tryz.func7.symm.trans hfn)).symm
 refine ⟨by kernel_rfl,fun j t ht=>?_⟩
 have h:=List.all_eq_true.1 (show (Tryz.f7.params.toList.all fun t=>!Tryz.prog.wantsStandIn t) = true by kernel_rfl) t (by simpa using Array.mem_of_getElem? ht)
 have h' : Tryz.prog.wantsStandIn t = false:=by simpa using h
 exact h'
theorem prepCloses_holds : Rows.PrepClosesCardSaid :=
 Claim7.holds_tied_plain_at .later [] _ _ _ _ prepCloses_said (fun _ h=>by cases h) (by kernel_rfl) (fun _ h=>by cases h) prepCloses_row_tie rfl ⟨rfl,rfl⟩ (by kernel_rfl) rfl prepCloses_plain (by kernel_rfl)
#print axioms prepCloses_holds
end Go.Proofs.YtedbbcmokbogpaaGreatDoor

