/- Texts that the proof needs: LD10b. -/
import Derived.Test.YtffflakmofbilaaGreatP37LeadOrder
import Derived.Test.YtffflakmofbilaaGreatP52LeadOrder
import Derived.Test.YtffflakmofbilaaGreatP53LeadOrder
import Derived.Test.YtffflakmofbilaaGreatP49LeadOrder
import Derived.Test.YtffflakmofbilaaGreatP50LeadOrder
import Derived.Test.YtffflakmofbilaaGreatP51LeadOrder
namespace Go.Proofs.YtffflakmofbilaaGreat
set_option linter.unusedSimpArgs false
set_option linter.unusedVariables false
set_option maxRecDepth 8000
open Go Go.Av
attribute [local irreducible] Go.Av.yA Go.Av.zR Go.Av.xZ Go.Av.zJ Go.Av.xV Go.Av.zG Go.Av.Con
theorem ackEp2_con {n b : Nat} {s : Sq} (h : OkS n b s) (hn' : n <= 200) (hb' : b <= 2000) (m : Mg) (hm : m.ms.length <= 1000000) (R1 : Lr) (hR : yB s.p.ls m.fr 1 = (R1, true)) (h0 : ¬ m.ms.length = 0) (hp1 : ¬ s.p.ph = 1) : Con Tryz.prog 93 [.ptr 1024 0, .p (.agg m.cells)] (sqW s) (.ret (.tup []) [] (sqW (uB s m))) := by
 have hE : uB s m = if s.p.ph = 3 \/ (s.p.ph = 2 /\ R1.id ∈ zI (s.lay { R1 with ph := 2, cu := m.cu, ms := m.ms, q := 0 }).p) then vB (s.lay { R1 with ph := 2, cu := m.cu, ms := m.ms, q := 0 }) { R1 with ph := 2, cu := m.cu, ms := m.ms, q := 0 } else s.lay { R1 with ph := 2, cu := m.cu, ms := m.ms, q := 0 } := by
  unfold uB ackX
  rw [hR]
  simp only [Bool.true_eq_false,false_or,if_neg h0,if_neg hp1]
 by_cases q3 : s.p.ph = 3
 ·rw [hE, if_pos (Or.inl q3)]
  exact ackEp2a_con h hn' hb' m hm R1 hR h0 hp1 q3
 by_cases q2 : s.p.ph = 2
 ·by_cases q4 : R1.id ∈ zI (s.lay { R1 with ph := 2, cu := m.cu, ms := m.ms, q := 0 }).p
  ·rw [hE, if_pos (Or.inr ⟨q2, q4⟩)]
   exact ackEp2b_con h hn' hb' m hm R1 hR h0 hp1 q3 q2 q4
  ·rw [hE, if_neg (fun h => h.elim q3 (fun h => q4 h.2))]
   exact ackEp2c_con h hn' hb' m hm R1 hR h0 hp1 q3 q2 q4
 ·rw [hE, if_neg (fun h => h.elim q3 (fun h => q2 h.1))]
  exact ackEp2d_con h hn' hb' m hm R1 hR h0 hp1 q3 q2
theorem ackEp_con {n b : Nat} {s : Sq} (h : OkS n b s) (hn' : n <= 200) (hb' : b <= 2000) (m : Mg) (hm : m.ms.length <= 1000000) : Con Tryz.prog 93 [.ptr 1024 0, .p (.agg m.cells)] (sqW s) (.ret (.tup []) [] (sqW (uB s m))) := by
 by_cases hf : (yB s.p.ls m.fr 1).2 = false \/ m.ms.length = 0
 ·have hE : uB s m = s := by unfold uB; rw [if_pos hf]
  rw [hE]
  exact ackEp0_con h hn' hb' m hm hf
 have h0 : ¬ m.ms.length = 0:=fun h'=>hf (.inr h')
 obtain ⟨R1, hR⟩ : ∃ R1, yB s.p.ls m.fr 1 = (R1, true) := by
  cases hq : yB s.p.ls m.fr 1 with
  | mk a c =>
   cases c
   ·exact absurd (.inl (by rw [hq])) hf
   ·exact ⟨a,rfl⟩
 by_cases hp1 : s.p.ph = 1
 case neg=>exact ackEp2_con h hn' hb' m hm R1 hR h0 hp1
 have hE : ∀ P1, (uA s m) = ⟨P1, s.g, s.o⟩ -> uB s m = ackGo P1 s.g s.o m R1 := fun P1 hP => by
  unfold uB ackX ackGo
  rw [hR,hP]
  simp only [Bool.true_eq_false,false_or,if_neg h0,if_pos hp1]
 by_cases q1 : 0 < xN m.z.e m.z.n s.p.d.e s.p.d.n
 ·by_cases q2 : m.z ∈ mks s.p.h
  ·rw [hE { s.p with d := m.z } (by unfold uA; rw [if_pos ⟨q1, q2⟩])]
   exact ackEpC_con s.p s.g s.o h hn' hb' m hm R1 hR h0 hp1 q1 q2
  ·rw [hE s.p (by unfold uA; rw [if_neg (fun h => q2 h.2)])]
   exact ackEpB_con s.p s.g s.o h hn' hb' m hm R1 hR h0 hp1 q1 q2
 ·rw [hE s.p (by unfold uA; rw [if_neg (fun h => q1 h.1)])]
  exact ackEpA_con s.p s.g s.o h hn' hb' m hm R1 hR h0 hp1 q1
end Go.Proofs.YtffflakmofbilaaGreat
