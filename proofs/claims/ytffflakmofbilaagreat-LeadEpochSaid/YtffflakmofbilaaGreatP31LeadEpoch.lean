/- Texts that the proof needs: LE3. -/
import Derived.Test.YtffflakmofbilaaGreatP26LeadEpoch
import Derived.Test.YtffflakmofbilaaGreatP29LeadEpoch
import Derived.Test.YtffflakmofbilaaGreatP30LeadEpoch
import Derived.Test.YtffflakmofbilaaGreatP28LeadEpoch
import Derived.Test.YtffflakmofbilaaGreatP23LeadEpoch
namespace Go.Proofs.YtffflakmofbilaaGreat
set_option linter.unusedSimpArgs false
set_option linter.unusedVariables false
set_option maxRecDepth 8000
open Go Go.Av
attribute [local irreducible] Go.Av.yG Go.Av.zQ Go.Av.yD Go.Av.zI Go.Av.yA Go.Av.yX Go.Av.Con
structure Ev21 where
 (k n : Int)
 (m : Mg)
 (t : Tx)
def Ev21.cells (e : Ev21) : List PV := [I e.k, I e.n, I e.m.fr, I e.m.to, I e.m.kd, I e.m.v0, I e.m.v1, I e.m.v2, I e.m.v3, I e.m.v4, I e.m.v5, I e.m.v6, I e.m.ep, I e.m.cu, I e.m.z.e, I e.m.z.n, .sl 2 (zxs e.m.ms), I e.m.pk, I e.m.pz.e, I e.m.pz.n, .sl 5 (zns e.m.pim.ns), .sl 1 (ints e.m.pim.ss), I e.m.pim.nx, I e.m.pim.c.ep, I e.m.pim.c.n, I e.m.pim.c.kind, .sl 4 (mbs e.m.pim.c.ms), I e.m.pim.ae, I e.m.pim.an, .sl 8 (yY e.m.pl), I e.m.tx.e, I e.m.tx.n, I e.m.tx.s, I e.m.tx.x, I e.m.tx.r, I e.m.tx.b, SB e.m.tx.m, .sl 11 (pts e.m.tx.ps), .sl 1 e.m.tc, I e.m.aK, I e.m.aS, I e.m.aX, .sl 6 e.m.ao, I e.m.adk, .sl 4 e.m.ap, .sl 1 e.m.ad, I e.m.awe, I e.m.awn, I e.t.e, I e.t.n, I e.t.s, I e.t.x, I e.t.r, I e.t.b, SB e.t.m, .sl 11 (pts e.t.ps)]
def evsC (l : List Ev21) : List (List PV) := l.map Ev21.cells
@[simp] theorem evsC_len (l : List Ev21) : (evsC l).length = l.length := by simp [evsC]
@[simp] theorem evsC_getElem (l : List Ev21) (k : Nat) (h : k < (evsC l).length) : (evsC l)[k] = [I (l[k]'(by simpa using h)).k, I (l[k]'(by simpa using h)).n, I (l[k]'(by simpa using h)).m.fr, I (l[k]'(by simpa using h)).m.to, I (l[k]'(by simpa using h)).m.kd, I (l[k]'(by simpa using h)).m.v0, I (l[k]'(by simpa using h)).m.v1, I (l[k]'(by simpa using h)).m.v2, I (l[k]'(by simpa using h)).m.v3, I (l[k]'(by simpa using h)).m.v4, I (l[k]'(by simpa using h)).m.v5, I (l[k]'(by simpa using h)).m.v6, I (l[k]'(by simpa using h)).m.ep, I (l[k]'(by simpa using h)).m.cu, I (l[k]'(by simpa using h)).m.z.e, I (l[k]'(by simpa using h)).m.z.n, .sl 2 (zxs (l[k]'(by simpa using h)).m.ms), I (l[k]'(by simpa using h)).m.pk, I (l[k]'(by simpa using h)).m.pz.e, I (l[k]'(by simpa using h)).m.pz.n, .sl 5 (zns (l[k]'(by simpa using h)).m.pim.ns), .sl 1 (ints (l[k]'(by simpa using h)).m.pim.ss), I (l[k]'(by simpa using h)).m.pim.nx, I (l[k]'(by simpa using h)).m.pim.c.ep, I (l[k]'(by simpa using h)).m.pim.c.n, I (l[k]'(by simpa using h)).m.pim.c.kind, .sl 4 (mbs (l[k]'(by simpa using h)).m.pim.c.ms), I (l[k]'(by simpa using h)).m.pim.ae, I (l[k]'(by simpa using h)).m.pim.an, .sl 8 (yY (l[k]'(by simpa using h)).m.pl), I (l[k]'(by simpa using h)).m.tx.e, I (l[k]'(by simpa using h)).m.tx.n, I (l[k]'(by simpa using h)).m.tx.s, I (l[k]'(by simpa using h)).m.tx.x, I (l[k]'(by simpa using h)).m.tx.r, I (l[k]'(by simpa using h)).m.tx.b, SB (l[k]'(by simpa using h)).m.tx.m, .sl 11 (pts (l[k]'(by simpa using h)).m.tx.ps), .sl 1 (l[k]'(by simpa using h)).m.tc, I (l[k]'(by simpa using h)).m.aK, I (l[k]'(by simpa using h)).m.aS, I (l[k]'(by simpa using h)).m.aX, .sl 6 (l[k]'(by simpa using h)).m.ao, I (l[k]'(by simpa using h)).m.adk, .sl 4 (l[k]'(by simpa using h)).m.ap, .sl 1 (l[k]'(by simpa using h)).m.ad, I (l[k]'(by simpa using h)).m.awe, I (l[k]'(by simpa using h)).m.awn, I (l[k]'(by simpa using h)).t.e, I (l[k]'(by simpa using h)).t.n, I (l[k]'(by simpa using h)).t.s, I (l[k]'(by simpa using h)).t.x, I (l[k]'(by simpa using h)).t.r, I (l[k]'(by simpa using h)).t.b, SB (l[k]'(by simpa using h)).t.m, .sl 11 (pts (l[k]'(by simpa using h)).t.ps)] := by simp [evsC, Ev21.cells]
theorem evsC_get {l : List Ev21} {k : Nat} (h : k < l.length) : (evsC l)[k]? = some l[k].cells := by simp [evsC, h]
abbrev hyZ (l : List Tx) : Hy := ⟨sv0, l⟩
structure SmallE (e : Ev21) : Prop where
 pl : SmallH ⟨e.m.pim, e.m.pl⟩
 tx : SmallH (hyZ [e.m.tx])
 t : SmallH (hyZ [e.t])
def nearE (e : Ev21) : Prop := e.m.ms.length <= 50 /\ wG (hyZ [e.t]) /\ wG ⟨e.m.pim, e.m.pl⟩ /\ wG (hyZ [e.m.tx])
instance (e : Ev21) : Decidable (nearE e) := by unfold nearE; infer_instance
def nearL (l : List Ev21) : Prop := l.length <= 60 /\ ∀ e ∈ l, nearE e
instance (l : List Ev21) : Decidable (nearL l) := by unfold nearL; infer_instance
set_option maxHeartbeats 8000000 in
theorem evs_con (l : List Ev21) (hs : ∀ e ∈ l, SmallE e) : zF Tryz.prog 8 [.p (.sl 56 (evsC l))] (.p (B (decide (¬ nearL l)))) := by
 refine zF.len ⟨Tryz.f8, Tryz.func8, rfl, rfl⟩ 0 _ _ rfl fun hlen => ?_
 simp only [evsC_len] at hlen
 by_cases q1 : 60 < l.length
 ·have q1' : (60 : Int) < l.length := by omega
  rw [show decide (¬ nearL l) = true from decide_eq_true fun h => by have := h.1; omega]
  refine zL Tryz.tab Tryz.mixed Tryz.func8 rfl rfl Tryz.ntmps8 (by simp) (by simp) fun Q hr hn => ?_
  repeat' first | (refine hK _ ?_; clear hK) | (refine zU fun K hK => ?_) | (refine zS ?_; simp only [uU, uT, strip]) | ((first | refine wOs fun K hK => ?_ | refine zX ?_); simp [q1']) | (refine zM ?_; try simp) | (refine wOn ?_; try simp only [zZ])
  all_goals apply hr
  all_goals simp [Tryz.f8]
 have q1' : ¬ (60 : Int) < l.length := by omega
 refine zL Tryz.tab Tryz.mixed Tryz.func8 rfl rfl Tryz.ntmps8 (by simp) (by simp) fun Q hr hn => ?_
 repeat' first | (refine hK _ ?_; clear hK) | (refine zU fun K hK => ?_) | (refine zS ?_; simp only [uU, uT, strip]) | ((first | refine wOs fun K hK => ?_ | refine zX ?_); simp [q1']) | (first | refine zV ?_) | (refine zR ?_; try simp) | (refine wOn ?_; try simp only [zZ])
 refine yU (fun N st => ∃ k, k + N = l.length /\ (∀ j (hj : j < l.length), j < k -> nearE l[j]) /\ st.s 8 = .p (.sl 56 (evsC l)) /\ st.s 9 = .p (I l.length) /\ st.s 10 = .p (I k)) l.length ⟨0, by simp⟩ fun K N st hL ⟨k, hk, hn, g8, g9, g10⟩ => ?_
 by_cases hlt : k < l.length
 ·have hw := yT k _ hlt hlen
  have he := evsC_get hlt
  have hsk := hs l[k] (List.getElem_mem hlt)
  have c0 := far21_con _ hsk.t
  have c1 := far21_con _ hsk.pl
  have c2 := far21_con _ hsk.tx
  have hbad : ¬ nearE l[k] -> decide (¬ nearL l) = true := fun h => decide_eq_true fun h' => h (h'.2 _ (List.getElem_mem hlt))
  by_cases o1 : 50 < l[k].m.ms.length
  ·have o1' : (50 : Int) < l[k].m.ms.length := by omega
   rw [hbad fun h => by have := h.1; omega] at hr
   unfold Ev21.cells at he
   clear c0 c1 c2 hbad hsk
   repeat' first | (refine hK _ ?_; clear hK) | (refine zU fun K hK => ?_) | (refine zS ?_; simp only [uU, uT, strip]) | ((first | refine wOs fun K hK => ?_ | refine zX ?_); simp [g8, g9, g10, hlt, o1']) | (first | refine zV ?_) | ((first | refine zM ?_ | refine zR ?_); try simp) | (refine wOn ?_; try simp only [zZ])
   all_goals apply hr
   all_goals simp [Tryz.f8]
  have o1' : ¬ (50 : Int) < l[k].m.ms.length := by omega
  by_cases o0 : wG (hyZ [l[k].t])
  case neg =>
   rw [decide_eq_true o0] at c0
   rw [hbad fun h => o0 h.2.1] at hr
   clear c1 c2 hbad hsk o0
   generalize hx : l[k] = x at *
   simp only [Hy.cells, zns, ints, mbs, yY, uT, uU, Tx.cells] at c0
   unfold Ev21.cells at he
   repeat' first | (refine zQ.pure (c0) rfl ?_) | (refine hK _ ?_; clear hK) | (refine zU fun K hK => ?_) | (refine zS ?_; simp only [uU, uT, strip]) | ((first | refine wOs fun K hK => ?_ | refine zY ?_ | refine zX ?_); simp [g8, g9, g10, hlt, o1', hx]) | (first | refine zV ?_) | ((first | refine zM ?_ | refine zR ?_); try simp) | (refine wOn ?_; try simp only [zZ])
   all_goals apply hr
   all_goals simp [Tryz.f8]
  rw [decide_eq_false (not_not_intro o0)] at c0
  by_cases o2 : wG ⟨l[k].m.pim, l[k].m.pl⟩
  case neg =>
   rw [decide_eq_true o2] at c1
   rw [hbad fun h => o2 h.2.2.1] at hr
   clear c2 hbad hsk o2 o0
   generalize hx : l[k] = x at *
   simp only [Hy.cells, zns, ints, mbs, yY, uT, uU, Tx.cells] at c0
   simp only [Hy.cells] at c1
   unfold Ev21.cells at he
   repeat' first | (refine zQ.pure (c0) rfl ?_) | (refine zQ.pure (c1) rfl ?_) | (refine hK _ ?_; clear hK) | (refine zU fun K hK => ?_) | (refine zS ?_; simp only [uU, uT, strip]) | ((first | refine wOs fun K hK => ?_ | refine zY ?_ | refine zX ?_); simp [g8, g9, g10, hlt, o1', hx]) | (first | refine zV ?_) | ((first | refine zM ?_ | refine zR ?_); try simp) | (refine wOn ?_; try simp only [zZ])
   all_goals apply hr
   all_goals simp [Tryz.f8]
  rw [decide_eq_false (not_not_intro o2)] at c1
  by_cases o3 : wG (hyZ [l[k].m.tx])
  ·rw [decide_eq_false (not_not_intro o3)] at c2
   have hok : nearE l[k] := ⟨by omega, o0, o2, o3⟩
   clear hbad hsk o2 o3 o0
   generalize hx : l[k] = x at *
   simp only [Hy.cells, zns, ints, mbs, yY, uT, uU, Tx.cells] at c0 c2
   simp only [Hy.cells] at c1
   unfold Ev21.cells at he
   repeat' first | (refine zQ.pure (c0) rfl ?_) | (refine zQ.pure (c1) rfl ?_) | (refine zQ.pure (c2) rfl ?_) | (refine hK _ ?_; clear hK) | (refine zU fun K hK => ?_) | (refine zS ?_; simp only [uU, uT, strip]) | ((first | refine wOs fun K hK => ?_ | refine zY ?_ | refine zX ?_); simp [g8, g9, g10, hlt, hw, o1', hx]) | (first | refine zV ?_) | (refine zR ?_; try simp) | (refine wOn ?_; try simp only [zZ])
   refine hL _ (N - 1) (by omega) ⟨k + 1, by omega, fun j hj hjk => ?_, ?_⟩
   ·by_cases hjk' : j = k
    ·subst hjk'; rw [hx]; exact hok
    ·exact hn j hj (by omega)
   ·simp [g8, g9]
  ·rw [decide_eq_true o3] at c2
   rw [hbad fun h => o3 h.2.2.2] at hr
   clear hbad hsk o2 o3 o0
   generalize hx : l[k] = x at *
   simp only [Hy.cells, zns, ints, mbs, yY, uT, uU, Tx.cells] at c0 c2
   simp only [Hy.cells] at c1
   unfold Ev21.cells at he
   repeat' first | (refine zQ.pure (c0) rfl ?_) | (refine zQ.pure (c1) rfl ?_) | (refine zQ.pure (c2) rfl ?_) | (refine hK _ ?_; clear hK) | (refine zU fun K hK => ?_) | (refine zS ?_; simp only [uU, uT, strip]) | ((first | refine wOs fun K hK => ?_ | refine zY ?_ | refine zX ?_); simp [g8, g9, g10, hlt, o1', hx]) | (first | refine zV ?_) | ((first | refine zM ?_ | refine zR ?_); try simp) | (refine wOn ?_; try simp only [zZ])
   all_goals apply hr
   all_goals simp [Tryz.f8]
 ·rw [show decide (¬ nearL l) = false from decide_eq_false fun h => h ⟨by omega, fun e he => by
   obtain ⟨j, hj, rfl⟩ := List.getElem_of_mem he
   exact hn j hj (by omega)⟩] at hr
  repeat' first | (refine hK _ ?_; clear hK) | (clear hK; refine hK _ ?_; clear hK) | (refine zU fun K hK => ?_) | (refine zS ?_; simp only [uU, uT, strip]) | ((first | refine wOs fun K hK => ?_ | refine zX ?_); simp [g9, g10, hlt]) | ((first | refine zM ?_ | refine zH ?_); try simp) | (refine wOn ?_; try simp only [zZ])
  all_goals apply hr
  all_goals simp [Tryz.f8]
structure Wh where
 (id ac cu : Int)
 (h : Hy)
def Wh.cells (w : Wh) : List PV := [I w.id, I w.ac, I w.cu, .sl 5 (zns w.h.im.ns), .sl 1 (ints w.h.im.ss), I w.h.im.nx, I w.h.im.c.ep, I w.h.im.c.n, I w.h.im.c.kind, .sl 4 (mbs w.h.im.c.ms), I w.h.im.ae, I w.h.im.an, .sl 8 (yY w.h.lg)]
def mayW (w : Wh) : Prop := 0 <= w.id /\ w.id < 16 /\ 0 <= w.ac /\ wG w.h /\ risesB (mks w.h) = true /\ check w.h.im.c = 0
instance (w : Wh) : Decidable (mayW w) := by unfold mayW; infer_instance
set_option maxHeartbeats 4000000 in
theorem may_con (w : Wh) (hs : SmallH w.h) : zF Tryz.prog 7 [.p (.agg w.cells)] (.p (B (decide (mayW w)))) := by
 have c1 := far21_con w.h hs
 have hm : mayW w ↔ 0 <= w.id /\ w.id < 16 /\ 0 <= w.ac /\ wG w.h /\ risesB (mks w.h) = true /\ check w.h.im.c = 0 := Iff.rfl
 unfold Hy.cells at c1
 unfold Wh.cells
 by_cases h1 : 0 <= w.id
 case neg =>
  rw [decide_eq_false (fun h => h1 (hm.1 h).1)]
  refine zL Tryz.tab Tryz.mixed Tryz.func7 rfl rfl Tryz.ntmps7 (by simp) (by simp) fun Q hr hn => ?_
  repeat' first | (refine hK _ ?_; clear hK) | (refine zU fun K hK => ?_) | (refine zS ?_; simp only [uU, uT, strip]) | (refine wOs fun K hK => ?_; simp [h1]) | (refine zM ?_; try simp) | (refine wOn ?_; try simp only [zZ])
  all_goals apply hr
  all_goals simp [Tryz.f7]
 by_cases h2 : w.id < 16
 case neg =>
  rw [decide_eq_false (fun h => h2 (hm.1 h).2.1)]
  have h2' : 16 <= w.id := by omega
  refine zL Tryz.tab Tryz.mixed Tryz.func7 rfl rfl Tryz.ntmps7 (by simp) (by simp) fun Q hr hn => ?_
  repeat' first | (refine hK _ ?_; clear hK) | (refine zU fun K hK => ?_) | (refine zS ?_; simp only [uU, uT, strip]) | (refine wOs fun K hK => ?_; simp [h1, h2]) | (refine zM ?_; try simp) | (refine wOn ?_; try simp only [zZ])
  all_goals apply hr
  all_goals simp [Tryz.f7]
 by_cases h3 : 0 <= w.ac
 case neg =>
  rw [decide_eq_false (fun h => h3 (hm.1 h).2.2.1)]
  refine zL Tryz.tab Tryz.mixed Tryz.func7 rfl rfl Tryz.ntmps7 (by simp) (by simp) fun Q hr hn => ?_
  repeat' first | (refine hK _ ?_; clear hK) | (refine zU fun K hK => ?_) | (refine zS ?_; simp only [uU, uT, strip]) | (refine wOs fun K hK => ?_; simp [h1, h2, h3]) | (refine zM ?_; try simp) | (refine wOn ?_; try simp only [zZ])
  all_goals apply hr
  all_goals simp [Tryz.f7]
 by_cases h7 : wG w.h
 case neg =>
  rw [decide_eq_false (fun h => h7 (hm.1 h).2.2.2.1)]
  rw [decide_eq_true h7] at c1
  clear h7
  refine zL Tryz.tab Tryz.mixed Tryz.func7 rfl rfl Tryz.ntmps7 (by simp) (by simp) fun Q hr hn => ?_
  repeat' first | (refine zQ.pure (c1) rfl ?_) | (refine hK _ ?_; clear hK) | (refine zU fun K hK => ?_) | (refine zS ?_; simp only [uU, uT, strip]) | ((first | refine wOs fun K hK => ?_ | refine zY ?_); simp [h1, h2, h3]) | (refine zM ?_; try simp) | (refine wOn ?_; try simp only [zZ])
  all_goals apply hr
  all_goals simp [Tryz.f7]
 have c2 := check16_con w.h (by have := h7.1; omega)
 have c3 := check04_con w.h.im.c (by have := h7.2.2; unfold wH at this; omega)
 unfold Hy.cells at c2
 unfold Cf.cells at c3
 rw [decide_eq_false (not_not_intro h7)] at c1
 by_cases h8 : risesB (mks w.h) = true
 case neg =>
  rw [decide_eq_false (fun h => h8 (hm.1 h).2.2.2.2.1)]
  rw [Bool.not_eq_true] at h8
  rw [h8] at c2
  clear h7 hm
  refine zL Tryz.tab Tryz.mixed Tryz.func7 rfl rfl Tryz.ntmps7 (by simp) (by simp) fun Q hr hn => ?_
  repeat' first | (refine zQ.pure (c1) rfl ?_) | (refine zQ.pure (c2) rfl ?_) | (refine hK _ ?_; clear hK) | (refine zU fun K hK => ?_) | (refine zS ?_; simp only [uU, uT, strip]) | ((first | refine wOs fun K hK => ?_ | refine zY ?_); simp [h1, h2, h3]) | (refine zM ?_; try simp) | (refine wOn ?_; try simp only [zZ])
  all_goals apply hr
  all_goals simp [Tryz.f7]
 rw [h8] at c2
 rw [show decide (mayW w) = decide (check w.h.im.c = 0) by
  rw [Bool.eq_iff_iff, decide_eq_true_iff, decide_eq_true_iff, hm]
  exact ⟨fun h => h.2.2.2.2.2, fun h => ⟨h1, h2, h3, h7, h8, h⟩⟩]
 generalize check w.h.im.c = ce at *
 clear h7 hm h8
 by_cases h9 : ce = 0
 ·rw [decide_eq_true h9]
  replace h9 : (ce = 0) = True := eq_true h9
  refine zL Tryz.tab Tryz.mixed Tryz.func7 rfl rfl Tryz.ntmps7 (by simp) (by simp) fun Q hr hn => ?_
  repeat' first | (refine zQ.pure (c1) rfl ?_) | (refine zQ.pure (c2) rfl ?_) | (refine zQ.pure (c3) rfl ?_) | (refine hK _ ?_; clear hK) | (refine zU fun K hK => ?_) | (refine zS ?_; simp only [uU, uT, strip]) | ((first | refine wOs fun K hK => ?_ | refine zY ?_); simp [h1, h2, h3]) | (refine zM ?_; try simp) | (refine wOn ?_; try simp only [zZ])
  all_goals apply hr
  all_goals simp [Tryz.f7, h9]
 ·rw [decide_eq_false h9]
  replace h9 : (ce = 0) = False := eq_false h9
  refine zL Tryz.tab Tryz.mixed Tryz.func7 rfl rfl Tryz.ntmps7 (by simp) (by simp) fun Q hr hn => ?_
  repeat' first | (refine zQ.pure (c1) rfl ?_) | (refine zQ.pure (c2) rfl ?_) | (refine zQ.pure (c3) rfl ?_) | (refine hK _ ?_; clear hK) | (refine zU fun K hK => ?_) | (refine zS ?_; simp only [uU, uT, strip]) | ((first | refine wOs fun K hK => ?_ | refine zY ?_); simp [h1, h2, h3]) | (refine zM ?_; try simp) | (refine wOn ?_; try simp only [zZ])
  all_goals apply hr
  all_goals simp [Tryz.f7, h9]
theorem base16_con (h : Hy) : zF Tryz.prog 16 [.p (.agg h.cells)] (.p (.agg [I h.im.ae, I h.im.an])) := by
 unfold Hy.cells
 refine zL Tryz.tab Tryz.mixed Tryz.func16 rfl rfl Tryz.ntmps16 (by simp) (by simp) fun Q hr hn => ?_
 repeat' first | (refine hK _ ?_; clear hK) | (refine zU fun K hK => ?_) | (refine zS ?_; simp only [uU, uT, strip]) | (refine wOs fun K hK => ?_; simp) | (refine zM ?_; try simp) | (refine wOn ?_; try simp only [zZ])
 all_goals apply hr
 all_goals simp [Tryz.f16]
def beg (w : Wh) : Lq := ⟨w.id, w.ac, w.cu, w.h, ⟨w.h.im.ae, w.h.im.an⟩, 0, 0, 0, 0, 0, []⟩
theorem begin21_con (w : Wh) : zF Tryz.prog 11 [.p (I w.id), .p (I w.ac), .p (I w.cu), .p (.agg w.h.cells)] (.p (.agg (beg w).cells)) := by
 have c1 := base16_con w.h
 unfold Hy.cells at c1
 unfold beg Lq.cells Hy.cells
 dsimp only
 refine zL Tryz.tab Tryz.mixed Tryz.func11 rfl rfl Tryz.ntmps11 (by simp) (by simp) fun Q hr hn => ?_
 repeat' first | (refine yX.pure (c1) rfl ?_) | (refine hK _ ?_; clear hK) | (refine hK _ _ ?_; clear hK) | (refine zU fun K hK => ?_) | ((first | refine zS ?_ | refine yE ?_); simp only [uU, uT, strip]) | ((first | refine wIs fun K hK => ?_ | refine wOs fun K hK => ?_ | refine yS ?_); simp) | (refine wIn ?_; refine And.intro (by kernel_rfl) ?_; try simp only [zZ]) | (refine zM ?_; try simp) | (refine wOn ?_; try simp only [zZ])
 all_goals apply hr
 all_goals simp [Tryz.f11, show lrs [] = [] from rfl]
theorem three_con : zF Tryz.prog 33 [] (.p (.agg [I 0, I 0, I 1, .sl 4 [[I 0, I 1, I 0, I 0], [I 1, I 1, I 0, I 0], [I 2, I 1, I 0, I 0]]])) :=
 by
 refine zL Tryz.tab Tryz.mixed Tryz.func33 rfl rfl Tryz.ntmps33 (by simp) (by simp) fun Q hr hn => ?_
 repeat' first | (refine hK _ ?_; clear hK) | (refine hK _ _ ?_; clear hK) | (refine zU fun K hK => ?_) | ((first | refine zS ?_ | refine zA rfl (by kernel_rfl) ?_ | refine yE ?_); simp only [uU, uT, strip]) | ((first | refine wIs fun K hK => ?_ | refine wOs fun K hK => ?_ | refine wQs fun K hK => ?_ | refine zY ?_ | refine zK ?_ | refine yS ?_ | refine zX ?_); simp) | (refine wIn ?_; refine And.intro (by kernel_rfl) ?_; try simp only [zZ]) | ((first | refine zM ?_ | refine zH ?_ | refine zR ?_); try simp) | ((first | refine wLabel ?_ | refine wOn ?_ | refine wQn ?_); try simp only [zZ])
 all_goals apply hr
 all_goals simp [Tryz.f33]
end Go.Proofs.YtffflakmofbilaaGreat
