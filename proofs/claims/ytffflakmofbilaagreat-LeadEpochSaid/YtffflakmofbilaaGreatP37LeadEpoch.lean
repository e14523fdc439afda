/- Texts that the proof needs: LD10h LD10D LD10b1 LD10b2 LD10b3. -/
import Derived.Test.YtffflakmofbilaaGreatP35LeadEpoch
import Derived.Test.YtffflakmofbilaaGreatP29LeadEpoch
import Derived.Test.YtffflakmofbilaaGreatP30LeadEpoch
import Derived.Test.YtffflakmofbilaaGreatP33LeadEpoch
namespace Go.Proofs.YtffflakmofbilaaGreat
set_option linter.unusedSimpArgs false
set_option linter.unusedVariables false
set_option maxRecDepth 8000
open Go Go.Av
attribute [local irreducible] Go.Av.yG Go.Av.zQ Go.Av.yD Go.Av.zI Go.Av.yA Go.Av.yX Go.Av.Con
set_option maxHeartbeats 4000000 in
theorem aheadP_con (p : Lq) (q : PV) (g : Bool) (m : Mg) (hl : p.h.lg.length <= 1000) (h0 : ¬ m.ms.length = 0) (hm : m.ms.length <= 1000000) : Con Tryz.prog 123 [.ptr 1024 0, .p (.agg m.cells)] (pW p q g) (.ret (.p (B (aheadQ p m))) [] (pW p q g)) := by
 have cL := lastH_con p.h hl
 have cC := uW (m.ms.getD (m.ms.length - 1) ⟨0, 0⟩).e (m.ms.getD (m.ms.length - 1) ⟨0, 0⟩).n (yJ p.h).e (yJ p.h).n
 have hA : aheadQ p m = if ¬ m.cu = p.cu then decide (p.cu < m.cu) else decide (0 < xF (m.ms.getD (m.ms.length - 1) ⟨0, 0⟩).e (m.ms.getD (m.ms.length - 1) ⟨0, 0⟩).n (yJ p.h).e (yJ p.h).n) := rfl
 rw [hA]
 clear hA
 unfold pW
 by_cases h1 : m.cu = p.cu
 case neg =>
  rw [if_pos h1]
  have h1' : (m.cu = p.cu) = False := eq_false h1
  clear h1
  by_cases h2 : p.cu < m.cu
  ·rw [decide_eq_true h2]
   refine zG Tryz.tab Tryz.mixed Tryz.func123 rfl rfl Tryz.ntmps123 (by simp) (by simp) fun Q hr hn hp => ?_
   repeat' first | (refine hK _ ?_; clear hK) | (refine zU fun K hK => ?_) | ((first | refine zS ?_ | refine zA rfl (by kernel_rfl) ?_); simp only [uU, uT, strip]) | ((first | refine wOs fun K hK => ?_ | refine wQs fun K hK => ?_ | refine zX ?_); simp [h1', h2]) | (refine zM ?_; try simp) | ((first | refine wOn ?_ | refine wQn ?_); try simp only [zZ])
   all_goals first | apply hr
   all_goals refine ⟨[], by simp, by simp, ?_⟩
   all_goals simp [Tryz.f123, yN, yO, zO, zW]
  ·rw [decide_eq_false h2]
   refine zG Tryz.tab Tryz.mixed Tryz.func123 rfl rfl Tryz.ntmps123 (by simp) (by simp) fun Q hr hn hp => ?_
   repeat' first | (refine hK _ ?_; clear hK) | (refine zU fun K hK => ?_) | ((first | refine zS ?_ | refine zA rfl (by kernel_rfl) ?_); simp only [uU, uT, strip]) | ((first | refine wOs fun K hK => ?_ | refine wQs fun K hK => ?_ | refine zX ?_); simp [h1', h2]) | (refine zM ?_; try simp) | ((first | refine wOn ?_ | refine wQn ?_); try simp only [zZ])
   all_goals first | apply hr
   all_goals refine ⟨[], by simp, by simp, ?_⟩
   all_goals simp [Tryz.f123, yN, yO, zO, zW]
 rw [if_neg (not_not_intro h1)]
 have h1' : (m.cu = p.cu) = True := eq_true h1
 clear h1
 obtain ⟨j, hj⟩ : ∃ j, m.ms.length = j + 1 := ⟨m.ms.length - 1, by omega⟩
 have hw : IntKind.i64.wrap ((m.ms.length : Int) - 1) = (j : Int) := by rw [zE] <;> omega
 have hw' : IntKind.i64.wrap (j : Int) = (j : Int) := by rw [zE] <;> omega
 have hjl : j < m.ms.length := by omega
 have he : (zxs m.ms)[j]? = some [I (m.ms.getD (m.ms.length - 1) ⟨0, 0⟩).e, I (m.ms.getD (m.ms.length - 1) ⟨0, 0⟩).n] := by
  rw [show (zxs m.ms)[j]? = some [I m.ms[j].e, I m.ms[j].n] by simp [zxs, hjl]]
  have : m.ms.getD (m.ms.length - 1) ⟨0, 0⟩ = m.ms[j] := by rw [hj, List.getD_eq_getElem?_getD]; simp [hjl]
  rw [this]
 have hz : m.ms.getD (m.ms.length - 1) ⟨0, 0⟩ = m.ms[j] := by rw [hj, List.getD_eq_getElem?_getD]; simp [hjl]
 rw [hz] at cC he ⊢
 generalize yJ p.h = last at *
 generalize xF m.ms[j].e m.ms[j].n last.e last.n = zz at *
 by_cases h2 : 0 < zz
 ·rw [decide_eq_true h2]
  refine zG Tryz.tab Tryz.mixed Tryz.func123 rfl rfl Tryz.ntmps123 (by simp) (by simp) fun Q hr hn hp => ?_
  repeat' first | (refine zI.pure (cL) rfl ?_) | (refine zI.pure (cC) rfl ?_) | (refine hK _ ?_; clear hK) | (refine zU fun K hK => ?_) | ((first | refine zS ?_ | refine zA rfl (by kernel_rfl) ?_); simp only [uU, uT, strip]) | ((first | refine wOs fun K hK => ?_ | refine wQs fun K hK => ?_ | refine zK ?_ | refine zX ?_); simp [h1', h2, hw', hj]) | ((first | refine zM ?_ | refine zR ?_); try simp) | ((first | refine wOn ?_ | refine wQn ?_); try simp only [zZ])
  all_goals first | apply hr
  all_goals refine ⟨[], by simp, by simp, ?_⟩
  all_goals simp [Tryz.f123, yN, yO, zO, zW]
 ·rw [decide_eq_false h2]
  refine zG Tryz.tab Tryz.mixed Tryz.func123 rfl rfl Tryz.ntmps123 (by simp) (by simp) fun Q hr hn hp => ?_
  repeat' first | (refine zI.pure (cL) rfl ?_) | (refine zI.pure (cC) rfl ?_) | (refine hK _ ?_; clear hK) | (refine zU fun K hK => ?_) | ((first | refine zS ?_ | refine zA rfl (by kernel_rfl) ?_); simp only [uU, uT, strip]) | ((first | refine wOs fun K hK => ?_ | refine wQs fun K hK => ?_ | refine zK ?_ | refine zX ?_); simp [h1', h2, hw', hj]) | ((first | refine zM ?_ | refine zR ?_); try simp) | ((first | refine wOn ?_ | refine wQn ?_); try simp only [zZ])
  all_goals first | apply hr
  all_goals refine ⟨[], by simp, by simp, ?_⟩
  all_goals simp [Tryz.f123, yN, yO, zO, zW]
def ackGo (P1 : Lq) (g : Bool) (o : List Mg) (m : Mg) (R1 : Lr) : Sq := if R1.id ∈ zC P1 /\ aheadQ P1 m = true then ⟨P1, true, o⟩ else vU ((⟨P1, g, o⟩ : Sq).lay { R1 with ph := 2, cu := m.cu, ms := m.ms, q := 0 })
set_option maxHeartbeats 8000000 in
theorem ackEpA_con {n b : Nat} (p : Lq) (g : Bool) (o : List Mg) (h : OkS n b ⟨p, g, o⟩) (hn' : n <= 200) (hb' : b <= 2000) (m : Mg) (hm : m.ms.length <= 1000000) (R1 : Lr) (hR : xS p.ls m.fr 1 = (R1, true)) (h0 : ¬ m.ms.length = 0) (hp1 : p.ph = 1) (q1 : ¬ 0 < xF m.z.e m.z.n p.d.e p.d.n) : Con Tryz.prog 93 [.ptr 1024 0, .p (.agg m.cells)] (lW p g o) (.ret (.tup []) [] (sqW (ackGo p g o m R1))) := by
 have cR := xR p g o m.fr 1 (by have := h.ll; simp only at this; omega)
 have cC := uW m.z.e m.z.n p.d.e p.d.n
 have hok : OkS n b ⟨p, g, o⟩ := ⟨h.hk, h.ll, h.lo, h.lm⟩
 have cV := fun x => wO p (.v x) g hok.hk
 have cv := xL (zC p) R1.id
 have cA := fun x => aheadP_con p (.v x) g m hok.hk.lg h0 hm
 have hE : ackGo p g o m R1 = if R1.id ∈ zC p /\ aheadQ p m = true then ⟨p, true, o⟩ else vU ((⟨p, g, o⟩ : Sq).lay { R1 with ph := 2, cu := m.cu, ms := m.ms, q := 0 }) := rfl
 have hll := hok.ll
 have cY := vN p g o { R1 with ph := 2, cu := m.cu, ms := m.ms, q := 0 } (by simp only at hll ⊢; omega) hok.lm hm
 have cG := gath_con (hok.lay (x := { R1 with ph := 2, cu := m.cu, ms := m.ms, q := 0 }) hm) (by omega) (by omega)
 have hp1' : (p.ph = 1) = True := eq_true hp1
 have h0' : (m.ms.length = 0) = False := eq_false h0
 rw [hR] at cR
 rw [hE]
 simp only [sqW, lW, pW, Sq.lay] at *
 generalize vU _ = S3 at *
 generalize hL2 : xE p.ls { R1 with ph := 2, cu := m.cu, ms := m.ms, q := 0 } = L2 at *
 generalize hO : zD o = O at *
 generalize hO3 : zD S3.o = O3 at *
 generalize xF m.z.e m.z.n p.d.e p.d.n = zz at *
 generalize zC p = V at *
 clear hE hok hll h
 unfold Lr.cells at cR cY
 dsimp only at cR cY
 by_cases q3 : R1.id ∈ V
 ·rw [decide_eq_true q3] at cv
  by_cases q4 : aheadQ p m = true
  ·rw [if_pos ⟨q3, q4⟩]
   rw [q4] at cA
   clear q3 q4 cY cG
   refine zG Tryz.tab Tryz.mixed Tryz.func93 rfl rfl Tryz.ntmps93 (by simp) (by simp) fun Q hr hn hp => ?_
   repeat' first | (refine zT [1024, 1025] (cR) (by decide) (by decide) (by simp [zP, inN, pos, zO, zW]) (by simp [zN, zJ, zW, inN, pos]) ⟨[], by simp, by simp, ?_⟩; simp [lv, kpI, kpR, pos, ren, zW]) | (refine zI.pure (cC) rfl ?_) | (refine zB 1024 1025 (lBx p (.row 1025) g) (rfl) (rfl) rfl (by simp [zN, zJ, zW, inN, pos]) (fun x _ => cV x) rfl ?_) | (refine zI.pure (cv) rfl ?_) | (refine zB 1024 1025 (lBx p (.row 1025) g) (rfl) (rfl) rfl (by simp [zN, zJ, zW, inN, pos]) (fun x _ => cA x) rfl ?_) | (refine hK _ ?_; clear hK) | (refine zU fun K hK => ?_) | ((first | refine zS ?_ | refine zA rfl (by kernel_rfl) ?_); simp only [uU, uT, strip]) | ((first | refine wOs fun K hK => ?_ | refine wQs fun K hK => ?_ | refine zK ?_ | refine zX ?_); simp [q1, hp1', h0']) | ((first | refine zM ?_ | refine zR ?_); try simp) | ((first | refine wOn ?_ | refine wQn ?_); try simp only [zZ])
   all_goals first | apply hr
   all_goals refine ⟨[], by simp, by simp, ?_⟩
   all_goals simp [Tryz.f93, yN, yO, zO, gaN, ouN, zW, hO]
  ·rw [if_neg (fun h => q4 h.2)]
   rw [Bool.not_eq_true] at q4
   rw [q4] at cA
   clear q3 q4
   refine zG Tryz.tab Tryz.mixed Tryz.func93 rfl rfl Tryz.ntmps93 (by simp) (by simp) fun Q hr hn hp => ?_
   repeat' first | (refine zT [1024, 1025] (cR) (by decide) (by decide) (by simp [zP, inN, pos, zO, zW]) (by simp [zN, zJ, zW, inN, pos]) ⟨[], by simp, by simp, ?_⟩; simp [lv, kpI, kpR, pos, ren, zW]) | (refine zI.pure (cC) rfl ?_) | (refine zB 1024 1025 (lBx p (.row 1025) g) (rfl) (rfl) rfl (by simp [zN, zJ, zW, inN, pos]) (fun x _ => cV x) rfl ?_) | (refine zI.pure (cv) rfl ?_) | (refine zB 1024 1025 (lBx p (.row 1025) g) (rfl) (rfl) rfl (by simp [zN, zJ, zW, inN, pos]) (fun x _ => cA x) rfl ?_) | (refine zT [1024, 1025] (cY) (by decide) (by decide) (by simp [zP, inN, pos, zO, zW, ouN]) (by simp [zN, zJ, zW, inN, pos]) ⟨[], by simp, by simp, ?_⟩; simp [lv, kpI, kpR, pos, ren, zW]) | (refine zT [1024, 1025] (cG) (by decide) (by decide) (by simp [zP, inN, pos, zO, zW, ouN]) (by simp [zN, zJ, zW, inN, pos]) ⟨[], by simp, by simp, ?_⟩; simp [lv, kpI, kpR, pos, ren, zW]) | (refine hK _ ?_; clear hK) | (refine hK _ _ ?_; clear hK) | (refine zU fun K hK => ?_) | ((first | refine zS ?_ | refine zA rfl (by kernel_rfl) ?_ | refine yE ?_); simp only [uU, uT, strip]) | ((first | refine wIs fun K hK => ?_ | refine wOs fun K hK => ?_ | refine wQs fun K hK => ?_ | refine zK ?_ | refine zX ?_); simp [q1, hp1', h0']) | (refine wIn ?_; refine And.intro (by kernel_rfl) ?_; try simp only [zZ]) | (first | refine zV ?_) | (refine zR ?_; try simp) | ((first | refine wOn ?_ | refine wQn ?_); try simp only [zZ])
   all_goals first | apply hn
   all_goals refine ⟨[], by simp, by simp, ?_⟩
   all_goals simp [Tryz.f93, yN, yO, zO, gaN, ouN, zW, hO3]
 ·rw [if_neg (fun h => q3 h.1)]
  rw [decide_eq_false q3] at cv
  clear q3 cA
  refine zG Tryz.tab Tryz.mixed Tryz.func93 rfl rfl Tryz.ntmps93 (by simp) (by simp) fun Q hr hn hp => ?_
  repeat' first | (refine zT [1024, 1025] (cR) (by decide) (by decide) (by simp [zP, inN, pos, zO, zW]) (by simp [zN, zJ, zW, inN, pos]) ⟨[], by simp, by simp, ?_⟩; simp [lv, kpI, kpR, pos, ren, zW]) | (refine zI.pure (cC) rfl ?_) | (refine zB 1024 1025 (lBx p (.row 1025) g) (rfl) (rfl) rfl (by simp [zN, zJ, zW, inN, pos]) (fun x _ => cV x) rfl ?_) | (refine zI.pure (cv) rfl ?_) | (refine zT [1024, 1025] (cY) (by decide) (by decide) (by simp [zP, inN, pos, zO, zW, ouN]) (by simp [zN, zJ, zW, inN, pos]) ⟨[], by simp, by simp, ?_⟩; simp [lv, kpI, kpR, pos, ren, zW]) | (refine zT [1024, 1025] (cG) (by decide) (by decide) (by simp [zP, inN, pos, zO, zW, ouN]) (by simp [zN, zJ, zW, inN, pos]) ⟨[], by simp, by simp, ?_⟩; simp [lv, kpI, kpR, pos, ren, zW]) | (refine hK _ ?_; clear hK) | (refine hK _ _ ?_; clear hK) | (refine zU fun K hK => ?_) | ((first | refine zS ?_ | refine zA rfl (by kernel_rfl) ?_ | refine yE ?_); simp only [uU, uT, strip]) | ((first | refine wIs fun K hK => ?_ | refine wOs fun K hK => ?_ | refine wQs fun K hK => ?_ | refine zK ?_ | refine zX ?_); simp [q1, hp1', h0']) | (refine wIn ?_; refine And.intro (by kernel_rfl) ?_; try simp only [zZ]) | (first | refine zV ?_) | (refine zR ?_; try simp) | ((first | refine wOn ?_ | refine wQn ?_); try simp only [zZ])
  all_goals first | apply hn
  all_goals refine ⟨[], by simp, by simp, ?_⟩
  all_goals simp [Tryz.f93, yN, yO, zO, gaN, ouN, zW, hO3]
set_option maxHeartbeats 8000000 in
theorem ackEpB_con {n b : Nat} (p : Lq) (g : Bool) (o : List Mg) (h : OkS n b ⟨p, g, o⟩) (hn' : n <= 200) (hb' : b <= 2000) (m : Mg) (hm : m.ms.length <= 1000000) (R1 : Lr) (hR : xS p.ls m.fr 1 = (R1, true)) (h0 : ¬ m.ms.length = 0) (hp1 : p.ph = 1) (q1 : 0 < xF m.z.e m.z.n p.d.e p.d.n) (q2 : ¬ m.z ∈ mks p.h) : Con Tryz.prog 93 [.ptr 1024 0, .p (.agg m.cells)] (lW p g o) (.ret (.tup []) [] (sqW (ackGo p g o m R1))) := by
 have cR := xR p g o m.fr 1 (by have := h.ll; simp only at this; omega)
 have cC := uW m.z.e m.z.n p.d.e p.d.n
 have cM := marks_con p.h h.hk.lg
 have cN := containsZ_con (mks p.h) m.z
 rw [decide_eq_false q2] at cN
 have hok : OkS n b ⟨p, g, o⟩ := ⟨h.hk, h.ll, h.lo, h.lm⟩
 have cV := fun x => wO p (.v x) g hok.hk
 have cv := xL (zC p) R1.id
 have cA := fun x => aheadP_con p (.v x) g m hok.hk.lg h0 hm
 have hE : ackGo p g o m R1 = if R1.id ∈ zC p /\ aheadQ p m = true then ⟨p, true, o⟩ else vU ((⟨p, g, o⟩ : Sq).lay { R1 with ph := 2, cu := m.cu, ms := m.ms, q := 0 }) := rfl
 have hll := hok.ll
 have cY := vN p g o { R1 with ph := 2, cu := m.cu, ms := m.ms, q := 0 } (by simp only at hll ⊢; omega) hok.lm hm
 have cG := gath_con (hok.lay (x := { R1 with ph := 2, cu := m.cu, ms := m.ms, q := 0 }) hm) (by omega) (by omega)
 have hp1' : (p.ph = 1) = True := eq_true hp1
 have h0' : (m.ms.length = 0) = False := eq_false h0
 rw [hR] at cR
 rw [hE]
 simp only [sqW, lW, pW, Sq.lay] at *
 generalize vU _ = S3 at *
 generalize hL2 : xE p.ls { R1 with ph := 2, cu := m.cu, ms := m.ms, q := 0 } = L2 at *
 generalize hO : zD o = O at *
 generalize hO3 : zD S3.o = O3 at *
 clear q2
 generalize xF m.z.e m.z.n p.d.e p.d.n = zz at *
 generalize zC p = V at *
 clear hE hok hll h
 unfold Lr.cells at cR cY
 dsimp only at cR cY
 by_cases q3 : R1.id ∈ V
 ·rw [decide_eq_true q3] at cv
  by_cases q4 : aheadQ p m = true
  ·rw [if_pos ⟨q3, q4⟩]
   rw [q4] at cA
   clear q3 q4 cY cG
   refine zG Tryz.tab Tryz.mixed Tryz.func93 rfl rfl Tryz.ntmps93 (by simp) (by simp) fun Q hr hn hp => ?_
   repeat' first | (refine zT [1024, 1025] (cR) (by decide) (by decide) (by simp [zP, inN, pos, zO, zW]) (by simp [zN, zJ, zW, inN, pos]) ⟨[], by simp, by simp, ?_⟩; simp [lv, kpI, kpR, pos, ren, zW]) | (refine zI.pure (cC) rfl ?_) | (refine zI.pure (cM) rfl ?_) | (refine zI.pure (cN) rfl ?_) | (refine zB 1024 1025 (lBx p (.row 1025) g) (rfl) (rfl) rfl (by simp [zN, zJ, zW, inN, pos]) (fun x _ => cV x) rfl ?_) | (refine zI.pure (cv) rfl ?_) | (refine zB 1024 1025 (lBx p (.row 1025) g) (rfl) (rfl) rfl (by simp [zN, zJ, zW, inN, pos]) (fun x _ => cA x) rfl ?_) | (refine hK _ ?_; clear hK) | (refine zU fun K hK => ?_) | ((first | refine zS ?_ | refine zA rfl (by kernel_rfl) ?_); simp only [uU, uT, strip]) | ((first | refine wOs fun K hK => ?_ | refine wQs fun K hK => ?_ | refine zK ?_ | refine zX ?_); simp [q1, hp1', h0']) | ((first | refine zM ?_ | refine zR ?_); try simp) | ((first | refine wOn ?_ | refine wQn ?_); try simp only [zZ])
   all_goals first | apply hr
   all_goals refine ⟨[], by simp, by simp, ?_⟩
   all_goals simp [Tryz.f93, yN, yO, zO, gaN, ouN, zW, hO]
  ·rw [if_neg (fun h => q4 h.2)]
   rw [Bool.not_eq_true] at q4
   rw [q4] at cA
   clear q3 q4
   refine zG Tryz.tab Tryz.mixed Tryz.func93 rfl rfl Tryz.ntmps93 (by simp) (by simp) fun Q hr hn hp => ?_
   repeat' first | (refine zT [1024, 1025] (cR) (by decide) (by decide) (by simp [zP, inN, pos, zO, zW]) (by simp [zN, zJ, zW, inN, pos]) ⟨[], by simp, by simp, ?_⟩; simp [lv, kpI, kpR, pos, ren, zW]) | (refine zI.pure (cC) rfl ?_) | (refine zI.pure (cM) rfl ?_) | (refine zI.pure (cN) rfl ?_) | (refine zB 1024 1025 (lBx p (.row 1025) g) (rfl) (rfl) rfl (by simp [zN, zJ, zW, inN, pos]) (fun x _ => cV x) rfl ?_) | (refine zI.pure (cv) rfl ?_) | (refine zB 1024 1025 (lBx p (.row 1025) g) (rfl) (rfl) rfl (by simp [zN, zJ, zW, inN, pos]) (fun x _ => cA x) rfl ?_) | (refine zT [1024, 1025] (cY) (by decide) (by decide) (by simp [zP, inN, pos, zO, zW, ouN]) (by simp [zN, zJ, zW, inN, pos]) ⟨[], by simp, by simp, ?_⟩; simp [lv, kpI, kpR, pos, ren, zW]) | (refine zT [1024, 1025] (cG) (by decide) (by decide) (by simp [zP, inN, pos, zO, zW, ouN]) (by simp [zN, zJ, zW, inN, pos]) ⟨[], by simp, by simp, ?_⟩; simp [lv, kpI, kpR, pos, ren, zW]) | (refine hK _ ?_; clear hK) | (refine hK _ _ ?_; clear hK) | (refine zU fun K hK => ?_) | ((first | refine zS ?_ | refine zA rfl (by kernel_rfl) ?_ | refine yE ?_); simp only [uU, uT, strip]) | ((first | refine wIs fun K hK => ?_ | refine wOs fun K hK => ?_ | refine wQs fun K hK => ?_ | refine zK ?_ | refine zX ?_); simp [q1, hp1', h0']) | (refine wIn ?_; refine And.intro (by kernel_rfl) ?_; try simp only [zZ]) | (first | refine zV ?_) | (refine zR ?_; try simp) | ((first | refine wOn ?_ | refine wQn ?_); try simp only [zZ])
   all_goals first | apply hn
   all_goals refine ⟨[], by simp, by simp, ?_⟩
   all_goals simp [Tryz.f93, yN, yO, zO, gaN, ouN, zW, hO3]
 ·rw [if_neg (fun h => q3 h.1)]
  rw [decide_eq_false q3] at cv
  clear q3 cA
  refine zG Tryz.tab Tryz.mixed Tryz.func93 rfl rfl Tryz.ntmps93 (by simp) (by simp) fun Q hr hn hp => ?_
  repeat' first | (refine zT [1024, 1025] (cR) (by decide) (by decide) (by simp [zP, inN, pos, zO, zW]) (by simp [zN, zJ, zW, inN, pos]) ⟨[], by simp, by simp, ?_⟩; simp [lv, kpI, kpR, pos, ren, zW]) | (refine zI.pure (cC) rfl ?_) | (refine zI.pure (cM) rfl ?_) | (refine zI.pure (cN) rfl ?_) | (refine zB 1024 1025 (lBx p (.row 1025) g) (rfl) (rfl) rfl (by simp [zN, zJ, zW, inN, pos]) (fun x _ => cV x) rfl ?_) | (refine zI.pure (cv) rfl ?_) | (refine zT [1024, 1025] (cY) (by decide) (by decide) (by simp [zP, inN, pos, zO, zW, ouN]) (by simp [zN, zJ, zW, inN, pos]) ⟨[], by simp, by simp, ?_⟩; simp [lv, kpI, kpR, pos, ren, zW]) | (refine zT [1024, 1025] (cG) (by decide) (by decide) (by simp [zP, inN, pos, zO, zW, ouN]) (by simp [zN, zJ, zW, inN, pos]) ⟨[], by simp, by simp, ?_⟩; simp [lv, kpI, kpR, pos, ren, zW]) | (refine hK _ ?_; clear hK) | (refine hK _ _ ?_; clear hK) | (refine zU fun K hK => ?_) | ((first | refine zS ?_ | refine zA rfl (by kernel_rfl) ?_ | refine yE ?_); simp only [uU, uT, strip]) | ((first | refine wIs fun K hK => ?_ | refine wOs fun K hK => ?_ | refine wQs fun K hK => ?_ | refine zK ?_ | refine zX ?_); simp [q1, hp1', h0']) | (refine wIn ?_; refine And.intro (by kernel_rfl) ?_; try simp only [zZ]) | (first | refine zV ?_) | (refine zR ?_; try simp) | ((first | refine wOn ?_ | refine wQn ?_); try simp only [zZ])
  all_goals first | apply hn
  all_goals refine ⟨[], by simp, by simp, ?_⟩
  all_goals simp [Tryz.f93, yN, yO, zO, gaN, ouN, zW, hO3]
set_option maxHeartbeats 8000000 in
theorem ackEpC_con {n b : Nat} (p : Lq) (g : Bool) (o : List Mg) (h : OkS n b ⟨p, g, o⟩) (hn' : n <= 200) (hb' : b <= 2000) (m : Mg) (hm : m.ms.length <= 1000000) (R1 : Lr) (hR : xS p.ls m.fr 1 = (R1, true)) (h0 : ¬ m.ms.length = 0) (hp1 : p.ph = 1) (q1 : 0 < xF m.z.e m.z.n p.d.e p.d.n) (q2 : m.z ∈ mks p.h) : Con Tryz.prog 93 [.ptr 1024 0, .p (.agg m.cells)] (lW p g o) (.ret (.tup []) [] (sqW (ackGo { p with d := m.z } g o m R1))) := by
 have cR := xR p g o m.fr 1 (by have := h.ll; simp only at this; omega)
 have cC := uW m.z.e m.z.n p.d.e p.d.n
 have cM := marks_con p.h h.hk.lg
 have cN := containsZ_con (mks p.h) m.z
 rw [decide_eq_true q2] at cN
 have hok : OkS n b ⟨{ p with d := m.z }, g, o⟩ := ⟨h.hk, h.ll, h.lo, h.lm⟩
 have cV := fun x => wO { p with d := m.z } (.v x) g hok.hk
 have cv := xL (zC { p with d := m.z }) R1.id
 have cA := fun x => aheadP_con { p with d := m.z } (.v x) g m hok.hk.lg h0 hm
 have hE : ackGo { p with d := m.z } g o m R1 = if R1.id ∈ zC { p with d := m.z } /\ aheadQ { p with d := m.z } m = true then ⟨{ p with d := m.z }, true, o⟩ else vU ((⟨{ p with d := m.z }, g, o⟩ : Sq).lay { R1 with ph := 2, cu := m.cu, ms := m.ms, q := 0 }) := rfl
 have hll := hok.ll
 have cY := vN { p with d := m.z } g o { R1 with ph := 2, cu := m.cu, ms := m.ms, q := 0 } (by simp only at hll ⊢; omega) hok.lm hm
 have cG := gath_con (hok.lay (x := { R1 with ph := 2, cu := m.cu, ms := m.ms, q := 0 }) hm) (by omega) (by omega)
 have hp1' : (p.ph = 1) = True := eq_true hp1
 have h0' : (m.ms.length = 0) = False := eq_false h0
 rw [hR] at cR
 rw [hE]
 simp only [sqW, lW, pW, Sq.lay] at *
 generalize vU _ = S3 at *
 generalize hL2 : xE p.ls { R1 with ph := 2, cu := m.cu, ms := m.ms, q := 0 } = L2 at *
 generalize hO : zD o = O at *
 generalize hO3 : zD S3.o = O3 at *
 clear q2
 generalize xF m.z.e m.z.n p.d.e p.d.n = zz at *
 generalize zC { p with d := m.z } = V at *
 clear hE hok hll h
 unfold Lr.cells at cR cY
 dsimp only at cR cY
 by_cases q3 : R1.id ∈ V
 ·rw [decide_eq_true q3] at cv
  by_cases q4 : aheadQ { p with d := m.z } m = true
  ·rw [if_pos ⟨q3, q4⟩]
   rw [q4] at cA
   clear q3 q4 cY cG
   refine zG Tryz.tab Tryz.mixed Tryz.func93 rfl rfl Tryz.ntmps93 (by simp) (by simp) fun Q hr hn hp => ?_
   repeat' first | (refine zT [1024, 1025] (cR) (by decide) (by decide) (by simp [zP, inN, pos, zO, zW]) (by simp [zN, zJ, zW, inN, pos]) ⟨[], by simp, by simp, ?_⟩; simp [lv, kpI, kpR, pos, ren, zW]) | (refine zI.pure (cC) rfl ?_) | (refine zI.pure (cM) rfl ?_) | (refine zI.pure (cN) rfl ?_) | (refine zB 1024 1025 (lBx { p with d := m.z } (.row 1025) g) (rfl) (rfl) rfl (by simp [zN, zJ, zW, inN, pos]) (fun x _ => cV x) rfl ?_) | (refine zI.pure (cv) rfl ?_) | (refine zB 1024 1025 (lBx { p with d := m.z } (.row 1025) g) (rfl) (rfl) rfl (by simp [zN, zJ, zW, inN, pos]) (fun x _ => cA x) rfl ?_) | (refine hK _ ?_; clear hK) | (refine zU fun K hK => ?_) | ((first | refine zS ?_ | refine zA rfl (by kernel_rfl) ?_); simp only [uU, uT, strip]) | ((first | refine wOs fun K hK => ?_ | refine wQs fun K hK => ?_ | refine zK ?_ | refine zX ?_); simp [q1, hp1', h0']) | ((first | refine zM ?_ | refine zR ?_); try simp) | ((first | refine wOn ?_ | refine wQn ?_); try simp only [zZ])
   all_goals first | apply hr
   all_goals refine ⟨[], by simp, by simp, ?_⟩
   all_goals simp [Tryz.f93, yN, yO, zO, gaN, ouN, zW, hO]
  ·rw [if_neg (fun h => q4 h.2)]
   rw [Bool.not_eq_true] at q4
   rw [q4] at cA
   clear q3 q4
   refine zG Tryz.tab Tryz.mixed Tryz.func93 rfl rfl Tryz.ntmps93 (by simp) (by simp) fun Q hr hn hp => ?_
   repeat' first | (refine zT [1024, 1025] (cR) (by decide) (by decide) (by simp [zP, inN, pos, zO, zW]) (by simp [zN, zJ, zW, inN, pos]) ⟨[], by simp, by simp, ?_⟩; simp [lv, kpI, kpR, pos, ren, zW]) | (refine zI.pure (cC) rfl ?_) | (refine zI.pure (cM) rfl ?_) | (refine zI.pure (cN) rfl ?_) | (refine zB 1024 1025 (lBx { p with d := m.z } (.row 1025) g) (rfl) (rfl) rfl (by simp [zN, zJ, zW, inN, pos]) (fun x _ => cV x) rfl ?_) | (refine zI.pure (cv) rfl ?_) | (refine zB 1024 1025 (lBx { p with d := m.z } (.row 1025) g) (rfl) (rfl) rfl (by simp [zN, zJ, zW, inN, pos]) (fun x _ => cA x) rfl ?_) | (refine zT [1024, 1025] (cY) (by decide) (by decide) (by simp [zP, inN, pos, zO, zW, ouN]) (by simp [zN, zJ, zW, inN, pos]) ⟨[], by simp, by simp, ?_⟩; simp [lv, ouN, kpI, kpR, pos, ren, zW]) | (refine zT [1024, 1025] (cG) (by decide) (by decide) (by simp [zP, inN, pos, zO, zW, ouN]) (by simp [zN, zJ, zW, inN, pos]) ⟨[], by simp, by simp, ?_⟩; simp [lv, kpI, kpR, pos, ren, zW]) | (refine hK _ ?_; clear hK) | (refine hK _ _ ?_; clear hK) | (refine zU fun K hK => ?_) | ((first | refine zS ?_ | refine zA rfl (by kernel_rfl) ?_ | refine yE ?_); simp only [uU, uT, strip]) | ((first | refine wIs fun K hK => ?_ | refine wOs fun K hK => ?_ | refine wQs fun K hK => ?_ | refine zK ?_ | refine zX ?_); simp [q1, hp1', h0']) | (refine wIn ?_; refine And.intro (by kernel_rfl) ?_; try simp only [zZ]) | (first | refine zV ?_) | (refine zR ?_; try simp) | ((first | refine wOn ?_ | refine wQn ?_); try simp only [zZ])
   all_goals first | apply hn
   all_goals refine ⟨[], by simp, by simp, ?_⟩
   all_goals simp [Tryz.f93, yN, yO, zO, gaN, ouN, zW, hO3]
 ·rw [if_neg (fun h => q3 h.1)]
  rw [decide_eq_false q3] at cv
  clear q3 cA
  refine zG Tryz.tab Tryz.mixed Tryz.func93 rfl rfl Tryz.ntmps93 (by simp) (by simp) fun Q hr hn hp => ?_
  repeat' first | (refine zT [1024, 1025] (cR) (by decide) (by decide) (by simp [zP, inN, pos, zO, zW]) (by simp [zN, zJ, zW, inN, pos]) ⟨[], by simp, by simp, ?_⟩; simp [lv, kpI, kpR, pos, ren, zW]) | (refine zI.pure (cC) rfl ?_) | (refine zI.pure (cM) rfl ?_) | (refine zI.pure (cN) rfl ?_) | (refine zB 1024 1025 (lBx { p with d := m.z } (.row 1025) g) (rfl) (rfl) rfl (by simp [zN, zJ, zW, inN, pos]) (fun x _ => cV x) rfl ?_) | (refine zI.pure (cv) rfl ?_) | (refine zT [1024, 1025] (cY) (by decide) (by decide) (by simp [zP, inN, pos, zO, zW, ouN]) (by simp [zN, zJ, zW, inN, pos]) ⟨[], by simp, by simp, ?_⟩; simp [lv, ouN, kpI, kpR, pos, ren, zW]) | (refine zT [1024, 1025] (cG) (by decide) (by decide) (by simp [zP, inN, pos, zO, zW, ouN]) (by simp [zN, zJ, zW, inN, pos]) ⟨[], by simp, by simp, ?_⟩; simp [lv, kpI, kpR, pos, ren, zW]) | (refine hK _ ?_; clear hK) | (refine hK _ _ ?_; clear hK) | (refine zU fun K hK => ?_) | ((first | refine zS ?_ | refine zA rfl (by kernel_rfl) ?_ | refine yE ?_); simp only [uU, uT, strip]) | ((first | refine wIs fun K hK => ?_ | refine wOs fun K hK => ?_ | refine wQs fun K hK => ?_ | refine zK ?_ | refine zX ?_); simp [q1, hp1', h0']) | (refine wIn ?_; refine And.intro (by kernel_rfl) ?_; try simp only [zZ]) | (first | refine zV ?_) | (refine zR ?_; try simp) | ((first | refine wOn ?_ | refine wQn ?_); try simp only [zZ])
  all_goals first | apply hn
  all_goals refine ⟨[], by simp, by simp, ?_⟩
  all_goals simp [Tryz.f93, yN, yO, zO, gaN, ouN, zW, hO3]
end Go.Proofs.YtffflakmofbilaaGreat
