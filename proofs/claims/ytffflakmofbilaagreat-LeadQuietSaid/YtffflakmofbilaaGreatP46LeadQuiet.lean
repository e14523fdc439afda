/- Texts that the proof needs: LE8. -/
import Derived.Test.YtffflakmofbilaaGreatP45LeadQuiet
namespace Go.Proofs.YtffflakmofbilaaGreat
set_option linter.unusedSimpArgs false
set_option linter.unusedVariables false
set_option maxRecDepth 8000
open Go Go.Av
attribute [local irreducible] Go.Av.yF Go.Av.zR Go.Av.yE Go.Av.zI Go.Av.yC Go.Av.yW Go.Av.Con
def oB (m : Mg) (t : Tx) : List V := [.p (I m.fr), .p (I m.to), .p (I m.kd), .p (I m.v0), .p (I m.v1), .p (I m.v2), .p (I m.v3), .p (I m.v4), .p (I m.v5), .p (I m.v6), .p (I m.ep), .p (I m.cu), .p (I m.z.e), .p (I m.z.n), .p (.sl 2 (zxs m.ms)), .p (I m.pk), .p (I m.pz.e), .p (I m.pz.n), .p (.sl 5 (zns m.pim.ns)), .p (.sl 1 (ints m.pim.ss)), .p (I m.pim.nx), .p (I m.pim.c.ep), .p (I m.pim.c.n), .p (I m.pim.c.kind), .p (.sl 4 (mbs m.pim.c.ms)), .p (I m.pim.ae), .p (I m.pim.an), .p (.sl 8 (zA m.pl)), .p (I m.tx.e), .p (I m.tx.n), .p (I m.tx.s), .p (I m.tx.x), .p (I m.tx.r), .p (I m.tx.b), .p (SB m.tx.m), .p (.sl 11 (pts m.tx.ps)), .p (.sl 1 m.tc), .p (I m.aK), .p (I m.aS), .p (I m.aX), .p (.sl 6 m.ao), .p (I m.adk), .p (.sl 4 m.ap), .p (.sl 1 m.ad), .p (I m.awe), .p (I m.awn), .p (I t.e), .p (I t.n), .p (I t.s), .p (I t.x), .p (I t.r), .p (I t.b), .p (SB t.m), .p (.sl 11 (pts t.ps))]
def oddM (id : Int) (p : Lq) (m : Mg) : Prop := (¬ m.kd = 2 /\ ¬ m.ep = p.ep) \/ m.fr = id \/ m.fr < 0 \/ 16 <= m.fr \/ m.kd = 1
theorem hear_odd {id : Int} {p : Lq} {m : Mg} (hb : Bk id p) (ho : oddM id p m) : hearS p m = ⟨p, false, []⟩ := by
 have hr : ({ p with ls := yY p.ls } : Lq) = p := hb.relay
 unfold hearS
 rw [hr]
 by_cases hc : p.mo = 2 /\ concQ p m
 ·rw [if_pos hc]
  obtain ⟨-, c1, c2, c3, c4⟩ := hc
  rw [hb.eq] at c1
  have hk : m.kd = 1 := by
   rcases ho with h | h | h | h | h
   ·exfalso
    rcases c4 with c4 | c4
    ·exact h.1 c4
    ·exact h.2 c4.2
   ·exact absurd h c1
   ·omega
   ·omega
   ·exact h
  unfold doS21
  rw [hk]
  rfl
 ·rw [if_neg hc]
set_option maxHeartbeats 64000000 in
theorem quiet15 {Q : AExit -> St -> Prop} {st : St} (w : Wh) (m : Mg) (t : Tx) (p : Lq) (cs : zG Tryz.prog 27 [.p (.agg p.cells), .p (.agg p.cells)] (.p (B true)))
 (ch : oddM w.id p m -> zG Tryz.prog 28 [.p (.agg p.cells), .p (.agg m.cells)] (.tup [.p (.agg p.cells), .p (.sl 46 []), .p (B true)])) (hret : ∀ st, st.s 6 = .p (B true) -> Q .ret st)
 (g3 : st.s 3 = .ptr 3 0) (b3 : st.b 3 = some (.box 35 (wB w))) (g5 : st.s 5 = .ptr 5 0) (b5 : st.b 5 = some (.box 88 (oB m t))) (g7 : st.s 7 = .ptr 7 0) (b7 : st.b 7 = some (.box 47 (pB p))) :
 WC Tryz.prog Tryz.T 162 (sfx Tryz.f6 6) Q st := by
 have ca := awake21
 unfold sfx
 simp only [Tryz.f6, sfxC]
 unfold pB at b7
 unfold wB at b3
 unfold oB at b5
 unfold oddM at ch
 unfold Lq.cells Mg.cells at *
 by_cases q1 : m.kd = 2
 ·have f1 := eq_true q1
  have f1' : (m.kd = 1) = False := eq_false (by omega)
  by_cases q3 : m.fr = w.id
  ·have f3 := eq_true q3
   have ch := ch (.inr (.inl q3))
   repeat' first | (refine hK _ ?_; clear hK) | (refine zU fun K hK => ?_) | (refine zT ?_; simp only [vB, vA, strip]) | ((first | refine wOs fun K hK => ?_ | refine zY ?_ | refine zW ?_); simp [g3, b3, g5, b5, g7, b7, f1, f3]) | (refine zM ?_; try simp) | (refine wOn ?_; try simp only [zZ]) | (refine zR.pure (ch) rfl ?_) | (refine zR.pure (cs) rfl ?_) | (refine zR.pure (ca) rfl ?_)
   all_goals apply hret
   all_goals simp
  have f3 := eq_false q3
  by_cases q4 : m.fr < 0
  ·have f4 := eq_true q4
   have ch := ch (.inr (.inr (.inl q4)))
   repeat' first | (refine hK _ ?_; clear hK) | (refine zU fun K hK => ?_) | (refine zT ?_; simp only [vB, vA, strip]) | ((first | refine wOs fun K hK => ?_ | refine zY ?_ | refine zW ?_); simp [g3, b3, g5, b5, g7, b7, f1, f3, f4]) | (refine zM ?_; try simp) | (refine wOn ?_; try simp only [zZ]) | (refine zR.pure (ch) rfl ?_) | (refine zR.pure (cs) rfl ?_) | (refine zR.pure (ca) rfl ?_)
   all_goals apply hret
   all_goals simp
  have f4 := eq_false q4
  by_cases q5 : 16 <= m.fr
  ·have f5 := eq_true q5
   have ch := ch (.inr (.inr (.inr (.inl q5))))
   repeat' first | (refine hK _ ?_; clear hK) | (refine zU fun K hK => ?_) | (refine zT ?_; simp only [vB, vA, strip]) | ((first | refine wOs fun K hK => ?_ | refine zY ?_ | refine zW ?_); simp [g3, b3, g5, b5, g7, b7, f1, f3, f4, f5]) | (refine zM ?_; try simp) | (refine wOn ?_; try simp only [zZ]) | (refine zR.pure (ch) rfl ?_) | (refine zR.pure (cs) rfl ?_) | (refine zR.pure (ca) rfl ?_)
   all_goals apply hret
   all_goals simp
  ·have f5 := eq_false q5
   clear ch cs
   repeat' first | (refine hK _ ?_; clear hK) | (refine zU fun K hK => ?_) | (refine zT ?_; simp only [vB, vA, strip]) | ((first | refine wOs fun K hK => ?_ | refine zY ?_ | refine zW ?_); simp [g3, b3, g5, b5, g7, f1, f1', f3, f4, f5]) | ((first | refine zM ?_ | refine zQ ?_); try simp) | (refine wOn ?_; try simp only [zZ]) | (refine zR.pure (ca) rfl ?_)
   all_goals apply hret
   all_goals simp
 have f1 := eq_false q1
 by_cases q2 : m.ep = p.ep
 ·have f2 := eq_true q2
  by_cases q3 : m.fr = w.id
  ·have f3 := eq_true q3
   have ch := ch (.inr (.inl q3))
   repeat' first | (refine hK _ ?_; clear hK) | (refine zU fun K hK => ?_) | (refine zT ?_; simp only [vB, vA, strip]) | ((first | refine wOs fun K hK => ?_ | refine zY ?_ | refine zW ?_); simp [g3, b3, g5, b5, g7, b7, f1, f2, f3]) | (refine zM ?_; try simp) | (refine wOn ?_; try simp only [zZ]) | (refine zR.pure (ch) rfl ?_) | (refine zR.pure (cs) rfl ?_) | (refine zR.pure (ca) rfl ?_)
   all_goals apply hret
   all_goals simp
  have f3 := eq_false q3
  by_cases q4 : m.fr < 0
  ·have f4 := eq_true q4
   have ch := ch (.inr (.inr (.inl q4)))
   repeat' first | (refine hK _ ?_; clear hK) | (refine zU fun K hK => ?_) | (refine zT ?_; simp only [vB, vA, strip]) | ((first | refine wOs fun K hK => ?_ | refine zY ?_ | refine zW ?_); simp [g3, b3, g5, b5, g7, b7, f1, f2, f3, f4]) | (refine zM ?_; try simp) | (refine wOn ?_; try simp only [zZ]) | (refine zR.pure (ch) rfl ?_) | (refine zR.pure (cs) rfl ?_) | (refine zR.pure (ca) rfl ?_)
   all_goals apply hret
   all_goals simp
  have f4 := eq_false q4
  by_cases q5 : 16 <= m.fr
  ·have f5 := eq_true q5
   have ch := ch (.inr (.inr (.inr (.inl q5))))
   repeat' first | (refine hK _ ?_; clear hK) | (refine zU fun K hK => ?_) | (refine zT ?_; simp only [vB, vA, strip]) | ((first | refine wOs fun K hK => ?_ | refine zY ?_ | refine zW ?_); simp [g3, b3, g5, b5, g7, b7, f1, f2, f3, f4, f5]) | (refine zM ?_; try simp) | (refine wOn ?_; try simp only [zZ]) | (refine zR.pure (ch) rfl ?_) | (refine zR.pure (cs) rfl ?_) | (refine zR.pure (ca) rfl ?_)
   all_goals apply hret
   all_goals simp
  have f5 := eq_false q5
  by_cases q6 : m.kd = 1
  ·have f6 := eq_true q6
   have ch := ch (.inr (.inr (.inr (.inr q6))))
   repeat' first | (refine hK _ ?_; clear hK) | (refine zU fun K hK => ?_) | (refine zT ?_; simp only [vB, vA, strip]) | ((first | refine wOs fun K hK => ?_ | refine zY ?_ | refine zW ?_); simp [g3, b3, g5, b5, g7, b7, f1, f2, f3, f4, f5, f6]) | (refine zM ?_; try simp) | (refine wOn ?_; try simp only [zZ]) | (refine zR.pure (ch) rfl ?_) | (refine zR.pure (cs) rfl ?_) | (refine zR.pure (ca) rfl ?_)
   all_goals apply hret
   all_goals simp
  ·have f6 := eq_false q6
   clear ch cs
   repeat' first | (refine hK _ ?_; clear hK) | (refine zU fun K hK => ?_) | (refine zT ?_; simp only [vB, vA, strip]) | ((first | refine wOs fun K hK => ?_ | refine zY ?_ | refine zW ?_); simp [g3, b3, g5, b5, g7, b7, f1, f2, f3, f4, f5, f6]) | ((first | refine zM ?_ | refine zQ ?_); try simp) | (refine wOn ?_; try simp only [zZ]) | (refine zR.pure (ca) rfl ?_)
   all_goals apply hret
   all_goals simp
 ·have f2 := eq_false q2
  have ch := ch (.inl ⟨q1, q2⟩)
  repeat' first | (refine hK _ ?_; clear hK) | (refine zU fun K hK => ?_) | (refine zT ?_; simp only [vB, vA, strip]) | ((first | refine wOs fun K hK => ?_ | refine zY ?_ | refine zW ?_); simp [g3, g5, b5, g7, b7, f1, f2]) | (refine zM ?_; try simp) | (refine wOn ?_; try simp only [zZ]) | (refine zR.pure (ch) rfl ?_) | (refine zR.pure (cs) rfl ?_) | (refine zR.pure (ca) rfl ?_)
  all_goals apply hret
  all_goals simp
set_option maxHeartbeats 64000000 in
theorem leadQuiet_con (w : Wh) (l : List Ev21) (m : Mg) (t : Tx) (hs : SmallH w.h) (hl : ∀ e ∈ l, SmallE e) (hm2 : SmallE ⟨0, 0, m, t⟩) : zG Tryz.prog 6 [.p (.agg w.cells), .p (.sl 56 (evsC l)), .p (.agg (m.cells ++ t.cells))] (.p (B true)) := by
 have cm := may_con w hs
 have ce := evs_con l hl
 have co := evs_con [⟨0, 0, m, t⟩] (by intro e he; rw [List.mem_singleton] at he; subst he; exact hm2)
 rw [show evsC [⟨0, 0, m, t⟩] = [(⟨0, 0, m, t⟩ : Ev21).cells] from rfl] at co
 have ca := awake21
 by_cases hm : mayW w
 case neg =>
  rw [decide_eq_false hm] at cm
  clear ce co hm
  unfold Wh.cells Mg.cells Tx.cells at *
  simp only [List.cons_append, List.nil_append]
  refine zL Tryz.tab Tryz.mixed Tryz.func6 rfl rfl Tryz.ntmps6 (by simp) (by simp) fun Q hr hn => ?_
  repeat' first | (refine zR.pure (cm) rfl ?_) | (refine zR.pure (ca) rfl ?_) | (refine hK _ ?_; clear hK) | (refine zU fun K hK => ?_) | (refine zT ?_; simp only [vB, vA, strip]) | ((first | refine wOs fun K hK => ?_ | refine zY ?_ | refine zW ?_); simp [List.length_nil]) | (refine zM ?_; try simp) | (refine wOn ?_; try simp only [zZ])
  all_goals apply hr
  all_goals simp [Tryz.f6]
 rw [decide_eq_true hm] at cm
 by_cases he : nearL l
 case neg =>
  rw [decide_eq_true he] at ce
  clear he hm co
  unfold Wh.cells Mg.cells Tx.cells at *
  simp only [List.cons_append, List.nil_append]
  refine zL Tryz.tab Tryz.mixed Tryz.func6 rfl rfl Tryz.ntmps6 (by simp) (by simp) fun Q hr hn => ?_
  repeat' first | (refine zR.pure (cm) rfl ?_) | (refine zR.pure (ce) rfl ?_) | (refine zR.pure (ca) rfl ?_) | (refine hK _ ?_; clear hK) | (refine zU fun K hK => ?_) | (refine zT ?_; simp only [vB, vA, strip]) | ((first | refine wOs fun K hK => ?_ | refine zY ?_ | refine zW ?_); simp [List.length_nil]) | (refine zM ?_; try simp) | (refine wOn ?_; try simp only [zZ])
  all_goals apply hr
  all_goals simp [Tryz.f6]
 rw [decide_eq_false (not_not_intro he)] at ce
 by_cases hf : nearL [⟨0, 0, m, t⟩]
 case neg =>
  rw [decide_eq_true hf] at co
  clear he hm hf
  unfold Ev21.cells at co
  unfold Wh.cells Mg.cells Tx.cells at *
  simp only [List.cons_append, List.nil_append]
  refine zL Tryz.tab Tryz.mixed Tryz.func6 rfl rfl Tryz.ntmps6 (by simp) (by simp) fun Q hr hn => ?_
  repeat' first | (refine zR.pure (cm) rfl ?_) | (refine zR.pure (ce) rfl ?_) | (refine zR.pure (co) rfl ?_) | (refine zR.pure (ca) rfl ?_) | (refine hK _ ?_; clear hK) | (refine zU fun K hK => ?_) | (refine zT ?_; simp only [vB, vA, strip]) | ((first | refine wOs fun K hK => ?_ | refine zY ?_ | refine zW ?_); simp [List.length_nil]) | (refine zM ?_; try simp) | (refine wOn ?_; try simp only [zZ])
  all_goals apply hr
  all_goals simp [Tryz.f6]
 rw [decide_eq_false (not_not_intro hf)] at co
 have hne0 := hf.2 _ (List.mem_singleton.2 rfl)
 have hms0 : m.ms.length <= 1000000 := by have := hne0.1; dsimp only at this; omega
 have hnt0 := hne0.t
 dsimp only at hnt0
 have hi0 := begin_inv hm
 have okw : OkH w.h := (near_HB hm.2.2.2.1).ok (by omega)
 have c1 := begin21_con w
 have c2 := begin_con (beg w) okw (by simp [beg]) (by simp [beg])
 have hln := he.1
 have hq := fun (Q : AExit -> St -> Prop) (st : St) (p : Lq) cs ch hret => quiet15 (Q := Q) (st := st) w m t p cs ch hret
 have hoB : oB m t = oB m t := rfl
 generalize hS0 : choS ⟨begQ (beg w), false, []⟩ = S0 at *
 generalize beg w = w0 at *
 obtain ⟨p0, g0, o0⟩ := S0
 dsimp only at hi0 c2
 generalize zF o0 = O0 at *
 unfold sfx at hq
 simp only [Tryz.f6, sfxC] at hq
 unfold Ev21.cells at co
 unfold Wh.cells Mg.cells Tx.cells at *
 unfold Lq.cells at c1 c2
 simp only [List.cons_append, List.nil_append]
 refine zL Tryz.tab Tryz.mixed Tryz.func6 rfl rfl Tryz.ntmps6 (by simp) (by simp) fun Q hr hn => ?_
 repeat' first | (refine zR.pure (cm) rfl ?_) | (refine zR.pure (ce) rfl ?_) | (refine zR.pure (co) rfl ?_) | (refine zR.pure (c1) rfl ?_) | (refine zR.pure (c2) rfl ?_) | (refine hK _ ?_; clear hK) | (refine zU fun K hK => ?_) | (refine zT ?_; simp only [vB, vA, strip]) | ((first | refine wOs fun K hK => ?_ | refine zY ?_ | refine zW ?_); simp [List.length_nil]) | (first | refine zS ?_) | (refine zQ ?_; try simp) | (refine wOn ?_; try simp only [zZ])
 clear c1 c2 cm ce co hS0
 refine yU (fun N st => ∃ k p up, k + N = l.length /\ InvE w k p /\ st.s 3 = .ptr 3 0 /\ st.b 3 = some (.box 35 (wB w)) /\ st.s 5 = .ptr 5 0 /\ st.b 5 = some (.box 88 (oB m t)) /\ st.s 7 = .ptr 7 0 /\ st.b 7 = some (.box 47 (pB p)) /\ st.s 9 = .p (B up) /\ st.s 51 = .p (.sl 56 (evsC l)) /\ st.s 52 = .p (I l.length) /\ st.s 53 = .p (I k)) l.length ⟨0, p0, !g0, by simp [pB, wB, oB]; exact hi0⟩ fun K N st hL ⟨k, p, up, hkN, hI, g3, b3, g5, b5, g7, b7, g9, g51, g52, g53⟩ => ?_
 by_cases hlt : k < l.length
 ·have hw := yR k _ hlt (by omega)
  have hg := evsC_get hlt
  cases up
  ·have hI2 : InvE w (k + 1) p := ⟨hI.bk, hI.hb.mono (by omega), hI.e0⟩
   clear hq
   generalize hx : l[k] = x at *
   unfold Ev21.cells at hg
   repeat' first | (refine hK _ ?_; clear hK) | (refine zU fun K hK => ?_) | (refine zT ?_; simp only [vB, vA, strip]) | ((first | refine wOs fun K hK => ?_ | refine zW ?_); simp [g9, g51, g52, g53, hlt, hx, hw]) | (first | refine zS ?_) | (refine zQ ?_; try simp) | (refine wOn ?_; try simp only [zZ])
   refine hL _ (N - 1) (by omega) ⟨k + 1, p, false, by omega, hI2, ?_⟩
   simp [g3, b3, g5, b5, g7, b7, g9, g51, g52, pB, oB, wB]
  ·have hne := he.2 l[k] (List.getElem_mem hlt)
   have hms : l[k].m.ms.length <= 1000000 := by have := hne.1; omega
   have hnt := hne.t
   have cd := do21_con p l[k] hI.bk (hI.hb.ok (by omega)) ((hI.hb.snoc (t := evT p l[k]) hnt).ok (by omega)) hms ⟨by have := hnt.1; omega, fun x hx => by have := hnt.2 x hx; omega⟩
   obtain ⟨hI2, -, -⟩ := hI.act (e := l[k]) hms hnt
   clear hne hms hnt hI hq
   unfold sOut at cd
   generalize actS p l[k] = R at *
   obtain ⟨q, gq, oq⟩ := R
   dsimp only at *
   generalize zF oq = OQ at *
   generalize hx : l[k] = x at *
   unfold pB at b7
   unfold Ev21.cells at hg cd
   unfold Lq.cells at cd
   repeat' first | (refine zR.pure (cd) rfl ?_) | (refine hK _ ?_; clear hK) | (refine zU fun K hK => ?_) | (refine zT ?_; simp only [vB, vA, strip]) | ((first | refine wOs fun K hK => ?_ | refine zY ?_ | refine zW ?_); simp [g7, b7, g9, g51, g52, g53, hlt, hx, hw]) | (first | refine zS ?_) | (refine zQ ?_; try simp) | (refine wOn ?_; try simp only [zZ])
   refine hL _ (N - 1) (by omega) ⟨k + 1, q, !gq, by omega, hI2, ?_⟩
   simp [g3, b3, g5, b5, g7, g51, g52, pB, oB, wB]
 ·have okp : OkH p.h := hI.hb.ok (by omega)
  have hll := hI.bk.len
  have cP := place21_con p okp.lg
  have cS := same21_con p (by have := okp.lg; omega) (by omega) hI.bk.ms
  have cH := fun h : oddM w.id p m => by
   have := hear_con p m hI.bk okp hms0
   rw [hear_odd hI.bk h] at this
   unfold sOut at this
   exact this
  have hq := fun (Q : AExit -> St -> Prop) (st : St) hret => hq Q st p cS cH hret
  have hF : ¬ propOK p t -> zG Tryz.prog 26 [.p (.agg p.cells), .p (.agg t.cells)] (.tup [.p (.agg p.cells), .p (.sl 46 []), .p (B true)]) := fun h => by
   have := prop0_con p t okp (by omega) hI.bk.ms ⟨by have := hnt0.1; omega, fun x hx => by have := hnt0.2 x hx; omega⟩ h
   rw [hI.bk.relay] at this
   exact this
  have hpr : propOK p t -> (plcQ p).2 = true /\ (t.e = (plcQ p).1.e /\ t.n = (plcQ p).1.n) := fun h => ⟨h.1, h.2.1⟩
  generalize plcQ p = Z at *
  obtain ⟨⟨ze, zn⟩, zi⟩ := Z
  dsimp only at cP hpr
  clear cH hI hll okp
  unfold pB at b7
  have hb7 := b7
  unfold oB at b5
  have hb5 := b5
  unfold Lq.cells Tx.cells at *
  cases zi
  ·have hF := hF (fun h => by simpa using (hpr h).1)
   repeat' first | (refine hq _ _ ?_ ?_ ?_ ?_ ?_ ?_ ?_) | (refine hK _ ?_; clear hK) | (clear hK; refine hK _ ?_; clear hK) | (refine zU fun K hK => ?_) | (refine zT ?_; simp only [vB, vA, strip]) | ((first | refine wOs fun K hK => ?_ | refine zY ?_ | refine zW ?_); simp [g5, b5, g7, b7, g52, g53, hlt]) | ((first | refine zE ?_ | refine zQ ?_); try simp) | (refine wOn ?_; try simp only [zZ]) | (refine zR.pure (cP) rfl ?_) | (refine zR.pure (hF) rfl ?_) | (refine zR.pure (cS) rfl ?_)
   all_goals first | (intro st2 h6; apply hr; simp [Tryz.f6, h6]; done) | (simp [pB, oB, wB, g3, b3, g5, b5, g7, b7]; done)
  ·by_cases hz : t.e = ze /\ t.n = zn
   ·obtain ⟨z1, z2⟩ := hz
    have z1' := eq_true z1
    have z2' := eq_true z2
    clear hF hpr
    repeat' first | (refine hq _ _ ?_ ?_ ?_ ?_ ?_ ?_ ?_) | (refine hK _ ?_; clear hK) | (clear hK; refine hK _ ?_; clear hK) | (refine zU fun K hK => ?_) | (refine zT ?_; simp only [vB, vA, strip]) | ((first | refine wOs fun K hK => ?_ | refine zY ?_ | refine zW ?_); simp [g5, b5, g7, b7, g52, g53, hlt, z1', z2']) | ((first | refine zE ?_ | refine zQ ?_); try simp) | (refine wOn ?_; try simp only [zZ]) | (refine zR.pure (cP) rfl ?_)
    all_goals first | (intro st2 h6; apply hr; simp [Tryz.f6, h6]; done) | (simp [pB, oB, wB, g3, b3, g5, b5, g7, b7]; done)
   ·have hF := hF (fun h => hz (hpr h).2)
    have hz' := eq_false hz
    clear hpr
    by_cases z1 : t.e = ze
    ·have z2' : (t.n = zn) = False := eq_false fun z2 => hz ⟨z1, z2⟩
     have z1' := eq_true z1
     repeat' first | (refine hq _ _ ?_ ?_ ?_ ?_ ?_ ?_ ?_) | (refine hK _ ?_; clear hK) | (clear hK; refine hK _ ?_; clear hK) | (refine zU fun K hK => ?_) | (refine zT ?_; simp only [vB, vA, strip]) | ((first | refine wOs fun K hK => ?_ | refine zY ?_ | refine zW ?_); simp [g5, b5, g7, b7, g52, g53, hlt, z1', z2']) | ((first | refine zE ?_ | refine zQ ?_); try simp) | (refine wOn ?_; try simp only [zZ]) | (refine zR.pure (cP) rfl ?_) | (refine zR.pure (hF) rfl ?_) | (refine zR.pure (cS) rfl ?_)
     all_goals first | (intro st2 h6; apply hr; simp [Tryz.f6, h6]; done) | (simp [pB, oB, wB, g3, b3, g5, b5, g7, b7]; done)
    ·have z1' := eq_false z1
     repeat' first | (refine hq _ _ ?_ ?_ ?_ ?_ ?_ ?_ ?_) | (refine hK _ ?_; clear hK) | (clear hK; refine hK _ ?_; clear hK) | (refine zU fun K hK => ?_) | (refine zT ?_; simp only [vB, vA, strip]) | ((first | refine wOs fun K hK => ?_ | refine zY ?_ | refine zW ?_); simp [g5, b5, g7, b7, g52, g53, hlt, z1']) | ((first | refine zE ?_ | refine zQ ?_); try simp) | (refine wOn ?_; try simp only [zZ]) | (refine zR.pure (cP) rfl ?_) | (refine zR.pure (hF) rfl ?_) | (refine zR.pure (cS) rfl ?_)
     all_goals first | (intro st2 h6; apply hr; simp [Tryz.f6, h6]; done) | (simp [pB, oB, wB, g3, b3, g5, b5, g7, b7]; done)
end Go.Proofs.YtffflakmofbilaaGreat
