/- JournalCrash: a log is added to while the power may fail at any operation, and the power comes back: what was added with OK is read, and behind it a beginning of what was under way; cut to what is whole it takes another transaction behind it. The law of layer 14 answers true, whatever the transactions, the fuse and what the crash keeps, and what came in reads as before. No condition but that the library's listed tables hold what their text lays. -/
import Derived.Test.YtbeofcbehhljdaaGreatDoorP32JournalCrash
import Derived.Test.YtbeofcbehhljdaaGreatDoorP34JournalCrash
import Derived.Test.YtbeofcbehhljdaaGreatDoorP35JournalCrash
import Derived.Test.YtbeofcbehhljdaaGreatDoorP36JournalCrash
import Derived.ProofKit
import Derived.SevenTiedAt
set_option linter.unusedVariables false
namespace Go.Proofs.YtbeofcbehhljdaaGreatDoor
open Go Go.Av Go.ChangeShapes Go.WideShapes Go.ChangeAt Go.RowKit
theorem journalCrash_all (ps : List PV) (h : ShTs Tryz.T Tryz.f3.params.toList ps) (hz : ∀ p ∈ ps, SzI KB reachBytes p) : ACon Tryz.prog 3 (ps.map .p) (.p (B true)) := by
 have hp : Tryz.f3.params.toList = [22, 3, 23] := by kernel_rfl
 rw [hp] at h
 match ps, h, hz with
 | [p0, p1, p2], ⟨h0, h1, h2, _⟩, hz =>
  obtain ⟨ll, rfl, ho, hb⟩ := lls_open h0 (hz _ (by simp))
  obtain ⟨n, rfl, hn⟩ := int_open h1
  obtain ⟨ks, rfl⟩ := ints_open h2
  exact journalCrash_con ll n ks hn ho hb
set_option maxRecDepth 100000 in
theorem journalCrash_lifted (os : Os) (started : os.Started) (H : Type) (enc : TypeId × Value -> H) (F : Stop.Interp) :
 ReturnsInHanded {} Tryz.checked os 3 .any ((OpenSpec.ofChange Rows.journalCrashSpec).preRow enc Tryz.prog Tryz.f3 Rows.journalCrashRow.domain false Rows.journalCrashRow.laid) (((OpenSpec.ofChange Rows.journalCrashSpec).at F).post enc Tryz.prog Tryz.f3 false true false false) :=
 row_liftedCD (K := KB) (C := Tryz.checked) (tb := 4) Tryz.tab (by kernel_rfl) started (by kernel_rfl) Tryz.func3
  (witnessC (enc := enc) (C := Tryz.checked) (laidWorld Tryz.prog os Tryz.lays) #[.slice none 0 0, .int .i64 0, .slice none 0 0] rfl (by kernel_rfl) (by kernel_rfl) (by kernel_rfl) (by kernel_rfl) rfl (by kernel_rfl) (Tryz.laid_met os _))
  rfl rfl Tryz.underlying4
  (fun ds h => by
   match ds, h with
   | [_, _, _], _ => exact ⟨rfl, rfl, rfl⟩)
  (by kernel_rfl) Tryz.globOK hpos journalCrash_all ⟨Tryz.f3, Tryz.func3, rfl, rfl⟩
theorem journalCrash_said : Rows.JournalCrashSaid :=
 OpenClaim.holds_of_cond 3 Tryz.f3 rfl rfl rfl rfl rfl rfl rfl ⟨rfl, rfl, rfl, rfl, rfl⟩ rfl rfl rfl rfl rfl (by kernel_rfl) Tryz.func3 (by kernel_rfl)
  (of_decide_eq_true (by kernel_rfl)) (by unfold Func.isWrapper; first | (rw [if_pos (by decide +kernel)]; kernel_rfl) | (rw [if_neg (by decide +kernel)]; exact ⟨rfl, rfl⟩))
  (fun os started H enc _ F => by rw [OpenClaim.pre_eq_preRow]; exact journalCrash_lifted os started H enc F)
theorem journalCrash_plain (f : FuncId) (fn : Func) (hf : Tryz.pinned.checked.prog.funcNamed Rows.journalCrashRow.func = some f) (hfn : Tryz.pinned.checked.prog.funcs[f]? = some fn) :
 Rows.journalCrashCard.stood.looks = Tryz.pinned.checked.prog.looks [] /\ ∀ (j : Nat) t, fn.params[j]? = some t -> Tryz.pinned.checked.prog.wantsStandIn t = false := by
 obtain rfl : f = 3 := Option.some.inj ((show Tryz.prog.funcNamed Rows.journalCrashRow.func = some 3 by kernel_rfl).symm.trans hf) |>.symm
 obtain rfl : fn = Tryz.f3 := (Option.some.inj (Tryz.func3.symm.trans hfn)).symm
 refine ⟨by kernel_rfl, fun j t ht => ?_⟩
 have h := List.all_eq_true.1 (show (Tryz.f3.params.toList.all fun t => !Tryz.prog.wantsStandIn t) = true by kernel_rfl) t (by simpa using Array.mem_of_getElem? ht)
 have h' : Tryz.prog.wantsStandIn t = false := by simpa using h
 exact h'
theorem journalCrash_holds : Rows.JournalCrashCardSaid :=
 Claim7.holds_tied_plain_at .later [] _ _ _ _ journalCrash_said (fun _ h => by cases h) (by kernel_rfl) (fun _ h => by cases h) journalCrash_row_tie rfl ⟨rfl, rfl⟩ (by kernel_rfl) rfl journalCrash_plain (by kernel_rfl)
#print axioms journalCrash_holds
end Go.Proofs.YtbeofcbehhljdaaGreatDoor

