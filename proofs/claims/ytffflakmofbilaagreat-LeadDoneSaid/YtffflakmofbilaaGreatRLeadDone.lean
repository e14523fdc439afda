/- LeadDone: whatever a leader hears, what it knows to be committed never falls, is a place of its history, and has the quorums that its book must have for it; its history only grows. No condition. -/
import Derived.Test.YtffflakmofbilaaGreatP33LeadDone
import Derived.Test.YtffflakmofbilaaGreatP47LeadDone
import Derived.Test.YtffflakmofbilaaGreatRows
import Derived.ProofKit
set_option linter.unusedVariables false
namespace Go.Proofs.YtffflakmofbilaaGreat
open Go Go.Av Go.ChangeShapes Go.WideShapes Go.ChangeAt Go.RowKit
theorem leadDone_all (ps : List PV) (h : ShTs Tryz.T Tryz.f4.params.toList ps) (hz : ∀ p ∈ ps, SzI KB reachBytes p) : zG Tryz.prog 4 (ps.map .p) (.p (B true)) := by
 have hp : Tryz.f4.params.toList = [35,36]:=by kernel_rfl
 rw [hp] at h
 match ps,h,hz with
 | [p0, p1], ⟨h0, h1, _⟩, hz =>
  obtain ⟨w,rfl⟩:=who_open h0
  obtain ⟨l,rfl⟩:=evs_open h1
  have z0:=hz (.agg w.cells) (by simp)
  have z1:=hz (.sl 56 (evsC l)) (by simp)
  exact leadDone_con w l (.ofW z0) (SmallE.ofL z1)
set_option maxRecDepth 100000 in
theorem leadDone_lifted (os : Os) (started : os.Started) (H : Type) (enc : TypeId × Value -> H) :
 ReturnsInHanded {} Tryz.checked os 4 .any (Rows.leadDoneSpec.pre6 enc Tryz.prog Tryz.f4 Rows.leadDoneRow.domain false) (Rows.leadDoneSpec.post enc Tryz.prog Tryz.f4 false true false false) :=
 row_liftedD (K := KB) (C := Tryz.checked) (tb := 4) Tryz.tab (by kernel_rfl) started (by kernel_rfl) Tryz.func4
  (ChangeSpec.witness6 (enc:=enc) (C:=Tryz.checked) false ⟨#[],#[.agg #[.int .i64 0,.int .i64 0,.int .i64 0,.slice none 0 0,.slice none 0 0,.int .i64 0,.int .i64 0,.int .i64 0,.int .i64 0,.slice none 0 0,.int .i64 0,.int .i64 0,.slice none 0 0],.slice none 0 0],[]⟩ 8 (by kernel_rfl) (by kernel_rfl) (by kernel_rfl) (by kernel_rfl))
  rfl rfl Tryz.underlying4
  (fun ds h => by
   match ds,h with
   | [_,_],_=>exact ⟨rfl,rfl,rfl⟩)
  (by kernel_rfl) hpos leadDone_all ⟨Tryz.f4,Tryz.func4,rfl,rfl⟩
theorem leadDone_holds : Rows.LeadDoneSaid :=
 OpenClaim.holds_of_wide 4 Tryz.f4 rfl rfl rfl rfl rfl rfl rfl ⟨rfl, rfl, rfl, rfl, rfl⟩ rfl rfl rfl rfl rfl (by kernel_rfl) Tryz.func4 (by kernel_rfl)
  (of_decide_eq_true (by kernel_rfl)) (by unfold Func.isWrapper;first|(rw [if_pos (by decide +kernel)];kernel_rfl)|(rw [if_neg (by decide +kernel)];exact ⟨rfl,rfl⟩))
  (fun os started H enc _=>leadDone_lifted os started H enc)
#print axioms leadDone_holds
end Go.Proofs.YtffflakmofbilaaGreat

