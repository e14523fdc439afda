/- LeadEpoch: whatever a leader hears, the epoch that it chooses is its own, above all that it was told of, chosen once, and with a quorum of what is needed; its promise is its own, too. No condition. -/
import Derived.Test.YtffflakmofbilaaGreatP33LeadEpoch
import Derived.Test.YtffflakmofbilaaGreatP47LeadEpoch
import Derived.Test.YtffflakmofbilaaGreatRows
import Derived.ProofKit
set_option linter.unusedVariables false
namespace Go.Proofs.YtffflakmofbilaaGreat
open Go Go.Av Go.ChangeShapes Go.WideShapes Go.ChangeAt Go.RowKit
theorem leadEpoch_all (ps : List PV) (h : ShTs Tryz.T Tryz.f3.params.toList ps) (hz : ∀ p ∈ ps, SzI KB reachBytes p) : zF Tryz.prog 3 (ps.map .p) (.p (B true)) := by
 have hp : Tryz.f3.params.toList = [35, 36] := by kernel_rfl
 rw [hp] at h
 match ps, h, hz with
 | [p0, p1], ⟨h0, h1, _⟩, hz =>
  obtain ⟨w, rfl⟩ := who_open h0
  obtain ⟨l, rfl⟩ := evs_open h1
  have z0 := hz (.agg w.cells) (by simp)
  have z1 := hz (.sl 56 (evsC l)) (by simp)
  exact leadEpoch_con w l (.ofW z0) (SmallE.ofL z1)
set_option maxRecDepth 100000 in
theorem leadEpoch_lifted (os : Os) (started : os.Started) (H : Type) (enc : TypeId × Value -> H) :
 ReturnsInHanded {} Tryz.checked os 3 .any (Rows.leadEpochSpec.pre6 enc Tryz.prog Tryz.f3 Rows.leadEpochRow.domain false) (Rows.leadEpochSpec.post enc Tryz.prog Tryz.f3 false true false false) :=
 row_liftedD (K := KB) (C := Tryz.checked) (tb := 4) Tryz.tab (by kernel_rfl) started (by kernel_rfl) Tryz.func3
  (ChangeSpec.witness6 (enc := enc) (C := Tryz.checked) false ⟨#[], #[.agg #[.int .i64 0, .int .i64 0, .int .i64 0, .slice none 0 0, .slice none 0 0, .int .i64 0, .int .i64 0, .int .i64 0, .int .i64 0, .slice none 0 0, .int .i64 0, .int .i64 0, .slice none 0 0], .slice none 0 0], []⟩ 8 (by kernel_rfl) (by kernel_rfl) (by kernel_rfl) (by kernel_rfl))
  rfl rfl Tryz.underlying4
  (fun ds h => by
   match ds, h with
   | [_, _], _ => exact ⟨rfl, rfl, rfl⟩)
  (by kernel_rfl) hpos leadEpoch_all ⟨Tryz.f3, Tryz.func3, rfl, rfl⟩
theorem leadEpoch_holds : Rows.LeadEpochSaid :=
 OpenClaim.holds_of_wide 3 Tryz.f3 rfl rfl rfl rfl rfl rfl rfl ⟨rfl, rfl, rfl, rfl, rfl⟩ rfl rfl rfl rfl rfl (by kernel_rfl) Tryz.func3 (by kernel_rfl)
  (of_decide_eq_true (by kernel_rfl)) (by unfold Func.isWrapper; first | (rw [if_neg (by decide +kernel)]; exact ⟨rfl, rfl⟩))
  (fun os started H enc _ => leadEpoch_lifted os started H enc)
#print axioms leadEpoch_holds
end Go.Proofs.YtffflakmofbilaaGreat

