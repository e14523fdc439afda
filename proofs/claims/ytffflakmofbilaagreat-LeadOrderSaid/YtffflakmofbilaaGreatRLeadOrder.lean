/- LeadOrder: whatever a leader hears, what it sends stands in order: what comes next stands right behind what a learner has by then, or it has it. -/
import Derived.Test.YtffflakmofbilaaGreatP48LeadOrder
import Derived.Test.YtffflakmofbilaaGreatRows
import Derived.ProofKit
set_option linter.unusedVariables false
namespace Go.Proofs.YtffflakmofbilaaGreat
open Go Go.Av Go.ChangeShapes Go.WideShapes Go.ChangeAt Go.RowKit
theorem leadOrder_all (ps : List PV) (h : ShTs Tryz.T Tryz.f5.params.toList ps) (hz : ∀ p ∈ ps, SzI KB reachBytes p) : zB Tryz.prog 5 (ps.map .p) (.p (B true)) := by
 have hp : Tryz.f5.params.toList = [35,36]:=by kernel_rfl
 rw [hp] at h
 match ps,h,hz with
 | [p0, p1], ⟨h0, h1, _⟩, hz =>
  obtain ⟨w,rfl⟩:=who_open h0
  obtain ⟨l,rfl⟩:=evs_open h1
  have z0:=hz (.agg w.cells) (by simp)
  have z1:=hz (.sl 56 (evsC l)) (by simp)
  exact leadOrder_con w l (.ofW z0) (SmallE.ofL z1)
set_option maxRecDepth 100000 in
theorem leadOrder_lifted (os : Os) (started : os.Started) (H : Type) (enc : TypeId × Value -> H) :
 ReturnsInHanded {} Tryz.checked os 5 .any (Rows.leadOrderSpec.pre6 enc Tryz.prog Tryz.f5 Rows.leadOrderRow.domain false) (Rows.leadOrderSpec.post enc Tryz.prog Tryz.f5 false true false false) :=
 row_liftedD (K := KB) (C := Tryz.checked) (tb := 4) Tryz.tab (by kernel_rfl) started (by kernel_rfl) Tryz.func5
  (ChangeSpec.witness6 (enc:=enc) (C:=Tryz.checked) false ⟨#[],#[.agg #[.int .i64 0,.int .i64 0,.int .i64 0,.slice none 0 0,.slice none 0 0,.int .i64 0,.int .i64 0,.int .i64 0,.int .i64 0,.slice none 0 0,.int .i64 0,.int .i64 0,.slice none 0 0],.slice none 0 0],[]⟩ 8 (by kernel_rfl) (by kernel_rfl) (by kernel_rfl) (by kernel_rfl))
  rfl rfl Tryz.underlying4
  (fun ds h => by
   match ds,h with
   | [_,_],_=>exact ⟨rfl,rfl,rfl⟩)
  (by kernel_rfl) hpos leadOrder_all ⟨Tryz.f5,Tryz.func5,rfl,rfl⟩
theorem leadOrder_holds : Rows.LeadOrderSaid :=
 OpenClaim.holds_of_wide 5 Tryz.f5 rfl rfl rfl rfl rfl rfl rfl ⟨rfl, rfl, rfl, rfl, rfl⟩ rfl rfl rfl rfl rfl (by kernel_rfl) Tryz.func5 (by kernel_rfl)
  (of_decide_eq_true (by kernel_rfl)) (by unfold Func.isWrapper;first|(rw [if_pos (by decide +kernel)];kernel_rfl)|(rw [if_neg (by decide +kernel)];exact ⟨rfl,rfl⟩))
  (fun os started H enc _=>leadOrder_lifted os started H enc)
#print axioms leadOrder_holds
end Go.Proofs.YtffflakmofbilaaGreat

