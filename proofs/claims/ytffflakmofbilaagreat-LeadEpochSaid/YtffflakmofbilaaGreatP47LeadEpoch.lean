/- Texts that the proof needs: LE6. -/
import Derived.Test.YtffflakmofbilaaGreatP46LeadEpoch
namespace Go.Proofs.YtffflakmofbilaaGreat
set_option linter.unusedSimpArgs false
set_option linter.unusedVariables false
set_option maxRecDepth 8000
open Go Go.Av
attribute [local irreducible] Go.Av.yG Go.Av.zQ Go.Av.yD Go.Av.zI Go.Av.yA Go.Av.yX Go.Av.Con
def pB (p : Lq) : List V := [.p (I p.id), .p (I p.ac), .p (I p.cu), .p (.sl 5 (zns p.h.im.ns)), .p (.sl 1 (ints p.h.im.ss)), .p (I p.h.im.nx), .p (I p.h.im.c.ep), .p (I p.h.im.c.n), .p (I p.h.im.c.kind), .p (.sl 4 (mbs p.h.im.c.ms)), .p (I p.h.im.ae), .p (I p.h.im.an), .p (.sl 8 (yY p.h.lg)), .p (I p.d.e), .p (I p.d.n), .p (I p.mo), .p (I 0), .p (I 0), .p (I 0), .p (I 0), .p (I 0), .p (I 0), .p (I 0), .p (I 0), .p (I 0), .p (I 0), .p (I 0), .p (I 0), .p (I 0), .p (I 0), .p (I 0), .p (I 0), .p (.sl 7 []), .p (I p.ld), .p (I p.ph), .p (I p.wt), .p (I p.ep), .p (.sl 8 (lrs p.ls))]
def wB (w : Wh) : List V := [.p (I w.id), .p (I w.ac), .p (I w.cu), .p (.sl 5 (zns w.h.im.ns)), .p (.sl 1 (ints w.h.im.ss)), .p (I w.h.im.nx), .p (I w.h.im.c.ep), .p (I w.h.im.c.n), .p (I w.h.im.c.kind), .p (.sl 4 (mbs w.h.im.c.ms)), .p (I w.h.im.ae), .p (I w.h.im.an), .p (.sl 8 (yY w.h.lg))]
theorem begin_inv {w : Wh} (hm : mayW w) : InvE w 0 (choS ⟨begQ (beg w), false, []⟩).p := by
 have hb := near_HB hm.2.2.2.1
 have bk : Bk w.id (begQ (beg w)) := ⟨rfl, rfl, List.Pairwise.nil, fun y hy => (by cases hy), fun y hy => (by cases hy)⟩
 have sk : Sk w.id w.h ⟨begQ (beg w), false, []⟩ := ⟨bk, rfl⟩
 have sk2 := sk.cho
 refine ⟨sk2.bk, by rw [sk2.h]; exact hb, fun h => ?_⟩
 rcases cho_ep ⟨begQ (beg w), false, []⟩ with hc | hc
 ·rw [hc]; exact ⟨rfl, rfl, rfl, rfl⟩
 ·exact absurd h hc.ne
set_option maxHeartbeats 32000000 in
theorem leadEpoch_con (w : Wh) (l : List Ev21) (hs : SmallH w.h) (hl : ∀ e ∈ l, SmallE e) : zF Tryz.prog 3 [.p (.agg w.cells), .p (.sl 56 (evsC l))] (.p (B true)) := by
 have cm := may_con w hs
 have ce := evs_con l hl
 have ca := awake21
 by_cases hm : mayW w
 case neg =>
  rw [decide_eq_false hm] at cm
  clear ce hm
  unfold Wh.cells at *
  refine zL Tryz.tab Tryz.mixed Tryz.func3 rfl rfl Tryz.ntmps3 (by simp) (by simp) fun Q hr hn => ?_
  repeat' first | (refine zQ.pure (cm) rfl ?_) | (refine zQ.pure (ca) rfl ?_) | (refine hK _ ?_; clear hK) | (refine zU fun K hK => ?_) | (refine zS ?_; simp only [uU, uT, strip]) | ((first | refine wOs fun K hK => ?_ | refine zY ?_ | refine zX ?_); simp [List.length_nil]) | (refine zM ?_; try simp) | (refine wOn ?_; try simp only [zZ])
  all_goals apply hr
  all_goals simp [Tryz.f3]
 rw [decide_eq_true hm] at cm
 by_cases he : nearL l
 case neg =>
  rw [decide_eq_true he] at ce
  clear he hm
  unfold Wh.cells at *
  refine zL Tryz.tab Tryz.mixed Tryz.func3 rfl rfl Tryz.ntmps3 (by simp) (by simp) fun Q hr hn => ?_
  repeat' first | (refine zQ.pure (cm) rfl ?_) | (refine zQ.pure (ce) rfl ?_) | (refine zQ.pure (ca) rfl ?_) | (refine hK _ ?_; clear hK) | (refine zU fun K hK => ?_) | (refine zS ?_; simp only [uU, uT, strip]) | ((first | refine wOs fun K hK => ?_ | refine zY ?_ | refine zX ?_); simp [List.length_nil]) | (refine zM ?_; try simp) | (refine wOn ?_; try simp only [zZ])
  all_goals apply hr
  all_goals simp [Tryz.f3]
 rw [decide_eq_false (not_not_intro he)] at ce
 have hi0 := begin_inv hm
 have okw : OkH w.h := (near_HB hm.2.2.2.1).ok (by omega)
 have c1 := begin21_con w
 have c2 := begin_con (beg w) okw (by simp [beg]) (by simp [beg])
 have c5 := base16_con w.h
 have c6 := needs16_con w.h w.h.im.ae w.h.im.an okw
 have hln := he.1
 have hac := hm.2.2.1
 have hA := fun set => all05_con (yZ w.h w.h.im.ae w.h.im.an) set (by have := endN_len (vT w.h w.h.lg) w.h.im.ae w.h.im.an; unfold yZ; omega) (fun c hc => by have := needs_ok okw w.h.im.ae w.h.im.an c hc; omega)
 generalize hS0 : choS ⟨begQ (beg w), false, []⟩ = S0 at *
 generalize beg w = w0 at *
 obtain ⟨p0, g0, o0⟩ := S0
 dsimp only at hi0 c2
 generalize zD o0 = O0 at *
 unfold Wh.cells Lq.cells Hy.cells at *
 refine zL Tryz.tab Tryz.mixed Tryz.func3 rfl rfl Tryz.ntmps3 (by simp) (by simp) fun Q hr hn => ?_
 repeat' first | (refine zQ.pure (cm) rfl ?_) | (refine zQ.pure (ce) rfl ?_) | (refine zQ.pure (c1) rfl ?_) | (refine zQ.pure (c2) rfl ?_) | (refine hK _ ?_; clear hK) | (refine zU fun K hK => ?_) | (refine zS ?_; simp only [uU, uT, strip]) | ((first | refine wOs fun K hK => ?_ | refine zY ?_ | refine zX ?_); simp [List.length_nil]) | (first | refine zV ?_) | (refine zR ?_; try simp) | (refine wOn ?_; try simp only [zZ])
 clear c1 c2 cm ce hS0
 refine yU (fun N st => ∃ k p up, k + N = l.length /\ InvE w k p /\ st.s 2 = .ptr 2 0 /\ st.b 2 = some (.box 35 (wB w)) /\ st.s 5 = .ptr 5 0 /\ st.b 5 = some (.box 47 (pB p)) /\ st.s 7 = .p (B up) /\ st.s 38 = .p (.sl 56 (evsC l)) /\ st.s 39 = .p (I l.length) /\ st.s 40 = .p (I k)) l.length ⟨0, p0, !g0, by simp [pB, wB]; exact hi0⟩ fun K N st hL ⟨k, p, up, hkN, hI, g2, b2, g5, b5, g7, g38, g39, g40⟩ => ?_
 by_cases hlt : k < l.length
 case neg =>
  clear hI
  unfold pB at b5
  unfold wB at b2
  repeat' first | (refine zQ.pure (ca) rfl ?_) | (refine hK _ ?_; clear hK) | (clear hK; refine hK _ ?_; clear hK) | (refine zU fun K hK => ?_) | (refine zS ?_; simp only [uU, uT, strip]) | ((first | refine wOs fun K hK => ?_ | refine zY ?_ | refine zX ?_); simp [g39, g40, hlt]) | ((first | refine zM ?_ | refine zH ?_); try simp) | (refine wOn ?_; try simp only [zZ])
  all_goals apply hr
  all_goals simp [Tryz.f3]
 have hw := yT k _ hlt (by omega)
 have hne := he.2 l[k] (List.getElem_mem hlt)
 cases up
 ·clear hI hne
  unfold pB at b5
  unfold wB at b2
  repeat' first | (refine zQ.pure (ca) rfl ?_) | (refine hK _ ?_; clear hK) | (refine zU fun K hK => ?_) | (refine zS ?_; simp only [uU, uT, strip]) | ((first | refine wOs fun K hK => ?_ | refine zY ?_ | refine zX ?_); simp [g7, g38, g39, g40, hlt]) | (first | refine zV ?_) | ((first | refine zM ?_ | refine zR ?_); try simp) | (refine wOn ?_; try simp only [zZ])
  all_goals apply hr
  all_goals simp [Tryz.f3]
 have hg := evsC_get hlt
 have hms : l[k].m.ms.length <= 1000000 := by have := hne.1; omega
 have hnt := hne.t
 have cd := do21_con p l[k] hI.bk (hI.hb.ok (by omega)) ((hI.hb.snoc (t := evT p l[k]) hnt).ok (by omega)) hms ⟨by have := hnt.1; omega, fun x hx => by have := hnt.2 x hx; omega⟩
 obtain ⟨hI2, a1, a2⟩ := hI.act (e := l[k]) hms hnt
 have hlen2 := hI2.bk.len
 clear hne hms hnt hI
 unfold sOut at cd
 generalize actS p l[k] = R at *
 obtain ⟨q, gq, oq⟩ := R
 dsimp only at *
 generalize zD oq = OQ at *
 generalize hx : l[k] = x at *
 unfold pB at b5
 unfold wB at b2
 unfold Ev21.cells at hg cd
 unfold Lq.cells at cd
 by_cases e0 : p.ep = 0
 case neg =>
  have q1 : (q.ep = p.ep) = True := eq_true (a1 e0)
  have e0' : (p.ep = 0) = False := eq_false e0
  clear a1 a2 e0 ca
  repeat' first | (refine zQ.pure (cd) rfl ?_) | (refine hK _ ?_; clear hK) | (refine zU fun K hK => ?_) | (refine zS ?_; simp only [uU, uT, strip]) | ((first | refine wOs fun K hK => ?_ | refine zY ?_ | refine zX ?_); simp [g5, b5, g7, g38, g39, g40, hlt, hx, e0', q1, hw]) | (first | refine zV ?_) | (refine zR ?_; try simp) | (refine wOn ?_; try simp only [zZ])
  refine hL _ (N - 1) (by omega) ⟨k + 1, q, !gq, by omega, hI2, ?_⟩
  simp [g2, b2, g5, g38, g39, pB, wB]
 have e0' : (p.ep = 0) = True := eq_true e0
 by_cases e1 : q.ep = 0
 ·have e1' : (q.ep = 0) = True := eq_true e1
  clear a1 a2 e0 e1 ca
  repeat' first | (refine zQ.pure (cd) rfl ?_) | (refine hK _ ?_; clear hK) | (refine zU fun K hK => ?_) | (refine zS ?_; simp only [uU, uT, strip]) | ((first | refine wOs fun K hK => ?_ | refine zY ?_ | refine zX ?_); simp [g5, b5, g7, g38, g39, g40, hlt, hx, e0', e1', hw]) | (first | refine zV ?_) | (refine zR ?_; try simp) | (refine wOn ?_; try simp only [zZ])
  refine hL _ (N - 1) (by omega) ⟨k + 1, q, !gq, by omega, hI2, ?_⟩
  simp [g2, b2, g5, g38, g39, pB, wB]
 obtain ⟨m1, m2, m3, m4, m5⟩ := a2 e0 e1
 have e1' : (q.ep = 0) = False := eq_false e1
 have co := owner02_con q.ep
 have cA := hA (q.ls.map Lr.id ++ [w.id])
 rw [m5] at cA
 have hsn := ints_sn (q.ls.map Lr.id) w.id
 have m2' : ¬ q.ep <= w.ac := by omega
 clear a1 a2 e0 e1 hA m2 m5
 generalize hIL : ints (q.ls.map Lr.id) = IL at *
 generalize yZ w.h w.h.im.ae w.h.im.an = ND at *
 repeat' first | (refine zQ.pure (cd) rfl ?_) | (refine hK _ ?_; clear hK) | (refine zU fun K hK => ?_) | (refine zS ?_; simp only [uU, uT, strip]) | ((first | refine wOs fun K hK => ?_ | refine zY ?_ | refine zX ?_); simp [g5, b5, g7, g38, g39, g40, hlt, hx, e0', e1']) | (first | refine zV ?_) | (refine zR ?_; try simp) | (refine wOn ?_; try simp only [zZ])
 refine wLoopG [.row 13 3 1] (fun N' st => ∃ j, j + N' = q.ls.length /\ st.s 2 = .ptr 2 0 /\ st.b 2 = some (.box 35 (wB w)) /\ st.s 5 = .ptr 5 0 /\ st.b 5 = some (.box 47 (pB p)) /\ st.s 7 = .p (B true) /\ st.s 38 = .p (.sl 56 (evsC l)) /\ st.s 39 = .p (I l.length) /\ st.s 40 = .p (I k) /\ st.s 10 = .ptr 10 0 /\ st.b 10 = some (.box 47 (pB q)) /\ st.s 12 = .p (B (!gq)) /\ st.s 13 = .row 13 /\ st.b 13 = some (.row 3 1 (ints ((q.ls.take j).map Lr.id))) /\ st.s 73 = .p (.sl 8 (lrs q.ls)) /\ st.s 74 = .p (I q.ls.length) /\ st.s 75 = .p (I j)) q.ls.length ⟨0, by simp [vX, gh1, g2, b2, g5, b5, g7, g38, g39, g40, pB, wB, ints]⟩ fun K' N' st hL' ⟨j, hjN, g2, b2, g5, b5, g7, g38, g39, g40, g10, b10, g12, g13, b13, g73, g74, g75⟩ => ?_
 unfold pB at b5 b10
 unfold wB at b2
 by_cases hlj : j < q.ls.length
 ·have hwj := yT j _ hlj (by omega)
  have hej := yB hlj
  have hsj : ints ((q.ls.take j).map Lr.id) ++ [[I q.ls[j].id]] = ints ((q.ls.take (j + 1)).map Lr.id) := by
   rw [ints_sn, List.take_succ_eq_append_getElem hlj, List.map_append]; rfl
  have hmj : ¬ q.ep <= q.ls[j].ac := by have := m1 _ (List.getElem_mem hlj); omega
  have hlj2 : (ints ((q.ls.take j).map Lr.id)).length <= 16 := by simp; omega
  generalize ints ((q.ls.take j).map Lr.id) = I1 at *
  generalize hI2' : ints ((q.ls.take (j + 1)).map Lr.id) = I2 at *
  have hI2'' : ints (List.take (j + 1) (q.ls.map Lr.id)) = I2 := by rw [<- hI2', List.map_take]
  clear hI2 cd ca co cA m1
  repeat' first | (refine And.intro (by (try simp); omega) ?_) | (refine hK _ ?_; clear hK) | (refine zU fun K hK => ?_) | (refine zS ?_; simp only [uU, uT, strip]) | ((first | refine wOs fun K hK => ?_ | refine zX ?_); simp [g10, b10, g13, b13, g73, g74, g75, hlj, hwj, hmj, hsj]) | (first | refine zV ?_) | (refine zR ?_; try simp) | (refine wOn ?_; try simp only [zZ])
  refine hL' _ (N' - 1) (by omega) ⟨j + 1, by omega, ?_⟩
  simp [g2, b2, g5, b5, g7, g38, g39, g40, g10, b10, g12, g73, g74, hI2'', pB, wB]
 rw [List.take_of_length_le (by omega), hIL] at b13
 have hil : IL.length <= 16 := by rw [<- hIL]; simp; omega
 have m3' : (owner q.ep = w.id) = True := eq_true m3
 have m4' : (q.ac = q.ep) = True := eq_true m4
 clear m1 cd ca
 repeat' first | (refine yX.pure (co) rfl ?_) | (refine yX.pure (c5) rfl ?_) | (refine yX.pure (c6) rfl ?_) | (refine yX.lent (cA) rfl ?_) | (refine And.intro (by (try simp); omega) ?_) | (refine hK _ ?_; clear hK) | (refine hK _ _ ?_; clear hK) | (clear hK; refine hK _ ?_; clear hK) | (refine zU fun K hK => ?_) | ((first | refine zS ?_ | refine yE ?_); simp only [uU, uT, strip]) | ((first | refine wIs fun K hK => ?_ | refine wOs fun K hK => ?_ | refine yS ?_ | refine zX ?_); simp [g2, b2, g5, b5, g40, g10, b10, g12, g13, b13, g74, g75, hlj, hw, m2', m3', m4', hsn]) | (refine wIn ?_; refine And.intro (by kernel_rfl) ?_; try simp only [zZ]) | ((first | refine zH ?_ | refine zR ?_); try simp) | (refine wOn ?_; try simp only [zZ])
 refine hL _ (N - 1) (by omega) ⟨k + 1, q, !gq, by omega, hI2, ?_⟩
 simp [g2, b2, g5, g38, g39, pB, wB]
end Go.Proofs.YtffflakmofbilaaGreat
