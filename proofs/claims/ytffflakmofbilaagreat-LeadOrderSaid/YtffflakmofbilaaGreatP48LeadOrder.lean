/- Texts that the proof needs: LE15b LE16. -/
import Derived.Test.YtffflakmofbilaaGreatP47LeadOrder
import Derived.Test.YtffflakmofbilaaGreatP45LeadOrder
import Derived.Test.YtffflakmofbilaaGreatP46LeadOrder
namespace Go.Proofs.YtffflakmofbilaaGreat
set_option linter.unusedSimpArgs false
set_option linter.unusedVariables false
open Go Go.Av
theorem OkS.fold {f : Sq -> Lr -> Sq} {i j : Nat} {l : List Lr} {n b : Nat} {s : Sq} (hf : ∀ {n b : Nat} {s : Sq} {x : Lr}, OkS n b s -> x ∈ l -> OkS (n + i) (b + j) (f s x)) (h : OkS n b s) {c : Nat} (hc : l.length <= c) : OkS (n + i * c) (b + j * c) (l.foldl f s) :=
 (fold_ok l hf h).mono (Nat.add_le_add_left (Nat.mul_le_mul_left _ hc) _) (Nat.add_le_add_left (Nat.mul_le_mul_left _ hc) _)
theorem com_ok {n b : Nat} {s : Sq} (h : OkS n b s) : OkS n (b + 1000 * n) (comS s) := by
 unfold comS
 split
 ·exact h.mono (by omega) (by omega)
 ·refine stayS_ok ?_
  have hl : (wR s.p.d.e s.p.d.n (uV s.p).e (uV s.p).n s.p.h.lg).length <= 1000:=Nat.le_trans (comd_len _ _ _ _ _) h.hk.lg
  have F:=OkS.fold (f:=vV (zI s.p) (uV s.p) (wR s.p.d.e s.p.d.n (uV s.p).e (uV s.p).n s.p.h.lg)) (i:=0) (j:=1000) (l:=s.p.ls) (fun h _=>eachCom_ok hl h) h h.ll
  have F:=F.mono (n':=n) (b':=b + 1000 * n) (by omega) (by omega)
  exact ⟨F.hk,F.ll,F.lo,F.lm⟩
theorem est_ok {n b : Nat} {s : Sq} (h : OkS n b s) : OkS (n + n) (b + n + n) (estS s) := by
 unfold estS
 split
 ·refine stayS_ok ?_
  have hT : OkS n b { s with p:={ s.p with ph:=3,wt:=0,d:=zA s.p.h } }:=⟨h.hk,h.ll,h.lo,h.lm⟩
  have F1:=OkS.fold (f:=xX (zA s.p.h)) (i:=0) (j:=1) (l:=s.p.ls) (fun h _=>eachReady_ok h) hT h.ll
  have F2:=OkS.fold (f:=xW) (i:=1) (j:=1) (l:=s.p.ls) (fun h' hx=>eachPlan_ok h' (h.lm _ hx)) F1 h.ll
  exact F2.mono (by omega) (by omega)
 ·exact h.mono (by omega) (by omega)
theorem gath_ok {n b : Nat} {s : Sq} (h : OkS n b s) : OkS (4 * n) (b + 5 * n) (xJ s) := by
 unfold xJ
 split
 ·have hT : OkS n b { s with p := { s.p with ph := 2, wt := 0, cu := s.p.ep } } := ⟨h.hk, h.ll, h.lo, h.lm⟩
  have F:=OkS.fold (f:=yO (zI { s.p with ph:=2,wt:=0,cu:=s.p.ep })) (i:=1) (j:=1) (l:=s.p.ls) (fun h' hx=>eachPlanV_ok h' (h.lm _ hx)) hT h.ll
  exact (est_ok F).mono (by omega) (by omega)
 ·exact h.mono (by omega) (by omega)
theorem cho_ok {n b : Nat} {s : Sq} (h : OkS n b s) : OkS (4 * n) (b + 6 * n) (vQ s) := by
 unfold vQ
 split
 ·split
  ·have hT : OkS n b { s with p := { s.p with ep := xU (wG s.p) s.p.id, ac := xU (wG s.p) s.p.id } } := ⟨h.hk, h.ll, h.lo, h.lm⟩
   have F:=OkS.fold (f:=yD) (i:=0) (j:=1) (l:=s.p.ls) (fun h' _=>eachEpoch_ok h') hT h.ll
   exact (gath_ok (F.mono (n':=n) (b':=b + n) (by omega) (by omega))).mono (by omega) (by omega)
  ·exact ⟨h.hk,by have:=h.ll;show s.p.ls.length <= _;omega,by have:=h.lo;show s.o.length <= _;omega,h.lm⟩
 ·exact h.mono (by omega) (by omega)
theorem lrn_len {n b : Nat} {s : Sq} (h : OkS n b s) (fr ph : Int) : (yB s.p.ls fr ph).1.ms.length <= 1000000 := by
 unfold yB
 cases hf : s.p.ls.find? (isLr fr ph) with
 | none=>simp [lrZ]
 | some x=>exact h.lm _ (List.mem_of_find?_eq_some hf)
theorem doS_ok {n : Nat} {s : Sq} {m : Mg} (h : OkS n 0 s) (hm : m.ms.length <= 1000000) : OkS (5 * (n + 1)) (1010 * (n + 1)) (uN s m) := by
 have all : ∀ {a c : Nat} {t : Sq},OkS a c t -> a <= 5 * (n + 1) -> c <= 1010 * (n + 1) -> OkS (5 * (n + 1)) (1010 * (n + 1)) t:=fun h h1 h2=>h.mono h1 h2
 have hg : ∀ {a c : Nat} {t : Sq} {G : Bool},OkS a c t -> OkS a c { t with g:=G }:=fun h=>⟨h.hk,h.ll,h.lo,h.lm⟩
 unfold uN
 split
 ·unfold infoS
  have hX : (yG s.p m).ms.length <= 1000000 := by
   unfold yG
   split
   ·exact lrn_len h m.fr 1
   ·simp [lrZ]
  split
  ·exact all (hg h) (by omega) (by omega)
  ·split
   ·exact all ((h.lay hX).send _ _) (by omega) (by omega)
   ·exact all (cho_ok (h.lay hX)) (by omega) (by omega)
 split
 ·unfold uB
  have hD : OkS n 0 (uA s m) := by
   unfold uA
   split
   ·exact ⟨h.hk,h.ll,h.lo,h.lm⟩
   ·exact h
  have hX : (ackX s.p m).ms.length <= 1000000:=hm
  split
  ·exact all h (by omega) (by omega)
  ·split
   ·split
    ·exact all (hg hD) (by omega) (by omega)
    ·exact all (gath_ok (hD.lay hX)) (by omega) (by omega)
   ·split
    ·exact all (planS_ok (h.lay hX) hX) (by omega) (by omega)
    ·exact all (h.lay hX) (by omega) (by omega)
 split
 ·unfold syncS
  have hX : (syncX s.p m).ms.length <= 1000000:=lrn_len h m.fr 3
  split
  ·exact all h (by omega) (by omega)
  ·split
   ·exact all (est_ok (h.lay hX)) (by omega) (by omega)
   ·split
    ·exact all (com_ok ((h.lay hX).send _ _)) (by omega) (by omega)
    ·exact all (h.lay hX) (by omega) (by omega)
 split
 ·unfold ackdS
  have hX : (ackdX s.p m).ms.length <= 1000000:=lrn_len h m.fr 4
  split
  ·exact all h (by omega) (by omega)
  ·split
   ·exact all (com_ok (h.lay hX)) (by omega) (by omega)
   ·exact all (h.lay hX) (by omega) (by omega)
 split
 ·refine all (a := n) (c := 0) ⟨h.hk, ?_, h.lo, fun y hy => ?_⟩ (by omega) (by omega)
  ·show (vM s.p.ls m.fr).length <= n
   rw [vM,List.length_map];exact h.ll
  ·obtain ⟨x, hx, rfl⟩ := List.mem_map.1 (show y ∈ vM s.p.ls m.fr from hy)
   have:=h.lm x hx
   split <;> exact this
 ·exact all h (by omega) (by omega)
theorem act_len {id : Int} {p : Lq} {e : Ev21} (hb : Bk id p) (hk : OkH p.h) (hk2 : OkH { p.h with lg := p.h.lg ++ [evT p e] }) (hms : e.m.ms.length <= 1000000) : (actS p e).o.length <= 100000 := by
 have hl:=hb.len
 have h0 : OkS 16 0 (⟨p,false,[]⟩ : Sq):=⟨hk,hl,by simp,hb.ms⟩
 unfold actS
 split
 ·have hE : hearS p e.m = if p.mo = 2 /\ concQ (yQ p) e.m then uN ⟨yQ p, false, []⟩ e.m else ⟨yQ p, false, []⟩ := rfl
  rw [hE,hb.relay]
  split
  ·have:=(doS_ok (m:=e.m) h0 hms).lo;omega
  ·simp
 split
 ·unfold wO
  rw [if_pos hb.mo,hb.relay]
  have:=tkM_len p (yU p.ls)
  rw [wP hb.srt] at this ⊢
  show (tkM p p.ls).length <= _
  omega
 split
 ·simp
 ·rcases prop_sk hb (evT p e) with ⟨-, h⟩ | ⟨hok, -⟩
  ·rw [h];simp
  ·unfold uI
   rw [if_pos hok,hb.relay,wP hb.srt]
   have hP : OkS 16 0 (⟨vN p (evT p e), false, []⟩ : Sq) := by
    have e1 : vN p (evT p e) = { p with h:={ p.h with lg:=p.h.lg ++ [evT p e] } }:=by unfold vN;rw [hb.relay]
    rw [e1];exact ⟨hk2,hl,by simp,hb.ms⟩
   have hc : (wR p.d.e p.d.n (evT p e).e (evT p e).n (p.h.lg ++ [evT p e])).length <= 1000:=Nat.le_trans (comd_len _ _ _ _ _) hk2.lg
   have F:=OkS.fold (f:=wL (zI p) (zI (vN p (evT p e))) (wR p.d.e p.d.n (evT p e).e (evT p e).n (p.h.lg ++ [evT p e])) (evT p e)) (i:=0) (j:=1000) (l:=p.ls) (fun h _=>eachProp_ok hc h) hP hl
   have:=(com_ok (F.mono (n':=16) (b':=16000) (by omega) (by omega))).lo
   omega
end Go.Proofs.YtffflakmofbilaaGreat
namespace Go.Proofs.YtffflakmofbilaaGreat
set_option linter.unusedSimpArgs false
set_option linter.unusedVariables false
set_option maxRecDepth 8000
open Go Go.Av
attribute [local irreducible] Go.Av.yA Go.Av.zR Go.Av.xZ Go.Av.zJ Go.Av.xV Go.Av.zG Go.Av.Con
theorem cho_nil {s : Sq} (h : s.p.ls = []) : ∀ x ∈ (vQ s).p.ls, False := by
 have no : ∀ x ∈ s.p.ls,False:=fun x hx=>by rw [h] at hx;cases hx
 unfold vQ
 split
 ·split
  ·have hp := xS vY s.p.ls { s with p := { s.p with ep := xU (wG s.p) s.p.id, ac := xU (wG s.p) s.p.id } }
   have hw : Wo [] (s.p.ls.foldl yD { s with p := { s.p with ep := xU (wG s.p) s.p.id, ac := xU (wG s.p) s.p.id } }) := by
    unfold Wo;rw [hp];exact ⟨fun y hy=>(no y hy).elim,fun x hx=>by cases hx⟩
   intro x hx
   obtain ⟨z,hz,-⟩:=hw.gath.1 x hx
   cases hz
  ·exact no
 ·exact no
theorem begin_ord {w : Wh} (hm : mayW w) (L : List Zx) : Or w.id (vQ ⟨begQ (beg w), false, []⟩).p.h L ⟨(vQ ⟨begQ (beg w), false, []⟩).p, false, []⟩ := by
 have hls : ∀ x ∈ (vQ ⟨begQ (beg w),false,[]⟩).p.ls,False:=cho_nil rfl
 obtain ⟨-,hd⟩:=begin_done hm
 exact ⟨⟨(begin_inv hm).bk,rfl⟩,hd,trivial,fun x hx=>(hls x hx).elim,fun x hx=>(hls x hx).elim,fun _ x hx=>(hls x hx).elim,fun _ x hx=>(hls x hx).elim⟩
set_option maxHeartbeats 64000000 in
theorem leadOrder_con (w : Wh) (l : List Ev21) (hs : SmallH w.h) (hl : ∀ e ∈ l, SmallE e) : zB Tryz.prog 5 [.p (.agg w.cells), .p (.sl 56 (evsC l))] (.p (B true)) := by
 have cm:=may_con w hs
 have ce:=evs_con l hl
 have ca:=awake21
 by_cases hm : mayW w
 case neg =>
  rw [decide_eq_false hm] at cm
  clear ce hm
  unfold Wh.cells at *
  refine zK Tryz.tab Tryz.mixed Tryz.func5 rfl rfl Tryz.ntmps5 (by simp) (by simp) fun Q hr hn=>?_
  repeat' first|(refine zR.pure (cm) rfl ?_)|(refine zR.lent (cm) rfl ?_)|(refine zJ.pure (cm) rfl ?_)|(refine zJ.lent (cm) rfl ?_)|(refine zR.own (cm) ?_)|(refine zG.pure (cm) rfl ?_)|(refine zG.lent (cm) rfl ?_)|(refine zG.own (cm) ?_)|(refine zR.pure (ca) rfl ?_)|(refine zR.lent (ca) rfl ?_)|(refine zJ.pure (ca) rfl ?_)|(refine zJ.lent (ca) rfl ?_)|(refine zR.own (ca) ?_)|(refine zG.pure (ca) rfl ?_)|(refine zG.lent (ca) rfl ?_)|(refine zG.own (ca) ?_)|(refine hK _ ?_;clear hK)|(refine hK _ _ ?_;clear hK)|(clear hK;refine hK _ ?_;clear hK)|(clear hK;clear hK;refine hK _ ?_;clear hK)|(clear hK;clear hK;clear hK;refine hK _ ?_;clear hK)|(clear hK;clear hK;clear hK;clear hK;refine hK _ ?_;clear hK)|(refine zT fun K hK=>?_)|((first | refine zS ?_ | refine yZ rfl (by kernel_rfl) ?_ | refine yI ?_ | refine wDrw (by kernel_rfl) ?_);simp only [tZ,tY,strip])|((first | refine wIs fun K hK=>?_ | refine wOs fun K hK=>?_ | refine wQs fun K hK=>?_ | refine zY ?_ | refine zM ?_ | refine zF ?_ | refine zW ?_);simp [List.length_nil])|(refine wIn ?_;refine And.intro (by kernel_rfl) ?_;try simp only [zZ])|(first | refine zU ?_ | refine wD ?_)|((first | refine zL ?_ | refine zC ?_ | refine zP ?_);try simp)|((first | refine wK ?_ | refine wOn ?_ | refine wQn ?_);try simp only [zZ])
  all_goals apply hr
  all_goals simp [Tryz.f5]
 rw [decide_eq_true hm] at cm
 by_cases he : nearL l
 case neg =>
  rw [decide_eq_true he] at ce
  clear he hm
  unfold Wh.cells at *
  refine zK Tryz.tab Tryz.mixed Tryz.func5 rfl rfl Tryz.ntmps5 (by simp) (by simp) fun Q hr hn=>?_
  repeat' first|(refine zR.pure (cm) rfl ?_)|(refine zR.lent (cm) rfl ?_)|(refine zJ.pure (cm) rfl ?_)|(refine zJ.lent (cm) rfl ?_)|(refine zR.own (cm) ?_)|(refine zG.pure (cm) rfl ?_)|(refine zG.lent (cm) rfl ?_)|(refine zG.own (cm) ?_)|(refine zR.pure (ce) rfl ?_)|(refine zR.lent (ce) rfl ?_)|(refine zJ.pure (ce) rfl ?_)|(refine zJ.lent (ce) rfl ?_)|(refine zR.own (ce) ?_)|(refine zG.pure (ce) rfl ?_)|(refine zG.lent (ce) rfl ?_)|(refine zG.own (ce) ?_)|(refine zR.pure (ca) rfl ?_)|(refine zR.lent (ca) rfl ?_)|(refine zJ.pure (ca) rfl ?_)|(refine zJ.lent (ca) rfl ?_)|(refine zR.own (ca) ?_)|(refine zG.pure (ca) rfl ?_)|(refine zG.lent (ca) rfl ?_)|(refine zG.own (ca) ?_)|(refine hK _ ?_;clear hK)|(refine hK _ _ ?_;clear hK)|(clear hK;refine hK _ ?_;clear hK)|(clear hK;clear hK;refine hK _ ?_;clear hK)|(clear hK;clear hK;clear hK;refine hK _ ?_;clear hK)|(clear hK;clear hK;clear hK;clear hK;refine hK _ ?_;clear hK)|(refine zT fun K hK=>?_)|((first | refine zS ?_ | refine yZ rfl (by kernel_rfl) ?_ | refine yI ?_ | refine wDrw (by kernel_rfl) ?_);simp only [tZ,tY,strip])|((first | refine wIs fun K hK=>?_ | refine wOs fun K hK=>?_ | refine wQs fun K hK=>?_ | refine zY ?_ | refine zM ?_ | refine zF ?_ | refine zW ?_);simp [List.length_nil])|(refine wIn ?_;refine And.intro (by kernel_rfl) ?_;try simp only [zZ])|(first | refine zU ?_ | refine wD ?_)|((first | refine zL ?_ | refine zC ?_ | refine zP ?_);try simp)|((first | refine wK ?_ | refine wOn ?_ | refine wQn ?_);try simp only [zZ])
  all_goals apply hr
  all_goals simp [Tryz.f5]
 rw [decide_eq_false (not_not_intro he)] at ce
 have hi0:=begin_inv hm
 obtain ⟨hr0,hd0⟩:=begin_done hm
 have ho0:=begin_ord hm (List.replicate 16 ⟨0,0⟩)
 have okw : OkH w.h:=(near_HB hm.2.2.2.1).ok (by omega)
 have c1:=begin21_con w
 have c2:=begin_con (beg w) okw (by simp [beg]) (by simp [beg])
 have hln:=he.1
 have hloop:=fun (Q : AExit -> St -> Prop) (st : St) (p : Lq) (up : Bool) (i : Nat) (O : List Mg) (L0 : List Zx) h16 hok hlg hO hex h0=>ordL (Q:=Q) (st:=st) w p up l i O L0 h16 hok hlg hO hex h0
 generalize hS0 : vQ ⟨begQ (beg w),false,[]⟩ = S0 at *
 generalize beg w = w0 at *
 obtain ⟨p0,g0,o0⟩:=S0
 dsimp only at hi0 hr0 ho0 c2
 generalize zD o0 = O0 at *
 unfold lp at hloop
 unfold Wh.cells at *
 unfold Lq.cells Hy.cells at c1
 unfold Lq.cells at c2
 refine zK Tryz.tab Tryz.mixed Tryz.func5 rfl rfl Tryz.ntmps5 (by simp) (by simp) fun Q hr hn=>?_
 repeat' first|(refine zR.pure (cm) rfl ?_)|(refine zR.lent (cm) rfl ?_)|(refine zJ.pure (cm) rfl ?_)|(refine zJ.lent (cm) rfl ?_)|(refine zR.own (cm) ?_)|(refine zG.pure (cm) rfl ?_)|(refine zG.lent (cm) rfl ?_)|(refine zG.own (cm) ?_)|(refine zR.pure (ce) rfl ?_)|(refine zR.lent (ce) rfl ?_)|(refine zJ.pure (ce) rfl ?_)|(refine zJ.lent (ce) rfl ?_)|(refine zR.own (ce) ?_)|(refine zG.pure (ce) rfl ?_)|(refine zG.lent (ce) rfl ?_)|(refine zG.own (ce) ?_)|(refine zR.pure (c1) rfl ?_)|(refine zR.lent (c1) rfl ?_)|(refine zJ.pure (c1) rfl ?_)|(refine zJ.lent (c1) rfl ?_)|(refine zR.own (c1) ?_)|(refine zG.pure (c1) rfl ?_)|(refine zG.lent (c1) rfl ?_)|(refine zG.own (c1) ?_)|(refine zR.pure (c2) rfl ?_)|(refine zR.lent (c2) rfl ?_)|(refine zJ.pure (c2) rfl ?_)|(refine zJ.lent (c2) rfl ?_)|(refine zR.own (c2) ?_)|(refine zG.pure (c2) rfl ?_)|(refine zG.lent (c2) rfl ?_)|(refine zG.own (c2) ?_)|(refine hK _ ?_;clear hK)|(refine hK _ _ ?_;clear hK)|(clear hK;refine hK _ ?_;clear hK)|(clear hK;clear hK;refine hK _ ?_;clear hK)|(clear hK;clear hK;clear hK;refine hK _ ?_;clear hK)|(clear hK;clear hK;clear hK;clear hK;refine hK _ ?_;clear hK)|(refine zT fun K hK=>?_)|((first | refine zS ?_ | refine yZ rfl (by kernel_rfl) ?_ | refine yI ?_ | refine wDrw (by kernel_rfl) ?_);simp only [tZ,tY,strip])|((first | refine wIs fun K hK=>?_ | refine wOs fun K hK=>?_ | refine wQs fun K hK=>?_ | refine zY ?_ | refine zM ?_ | refine zF ?_ | refine zW ?_);simp [List.length_nil])|(refine wIn ?_;refine And.intro (by kernel_rfl) ?_;try simp only [zZ])|(first | refine zU ?_ | refine wD ?_)|((first | refine zL ?_ | refine zC ?_ | refine zP ?_);try simp)|((first | refine wK ?_ | refine wOn ?_ | refine wQn ?_);try simp only [zZ])
 clear c1 c2 cm ce hS0
 refine yJ (fun N st=>∃ k p up L,k + N = l.length /\ InvE w k p /\ yK (mks p.h) = true /\ L.length = 16 /\ Or w.id p.h L ⟨p,false,[]⟩ /\ FO w p up l k L st) l.length ⟨0,p0,!g0,List.replicate 16 ⟨0,0⟩,by omega,hi0,hr0,by simp,ho0,by simp [FO,pB,wB,zb,List.replicate]⟩ fun K N st hL ⟨k,p,up,L,hkN,hI,hRs,hL16,hOr,hF⟩=>?_
 obtain ⟨g2,b2,g5,b5,g7,g8,b8,g38,g39,g40⟩:=hF
 by_cases hlt : k < l.length
 case neg =>
  clear hI hOr hloop
  unfold pB at b5
  unfold wB at b2
  repeat' first|(refine zR.pure (ca) rfl ?_)|(refine zR.lent (ca) rfl ?_)|(refine zJ.pure (ca) rfl ?_)|(refine zJ.lent (ca) rfl ?_)|(refine zR.own (ca) ?_)|(refine zG.pure (ca) rfl ?_)|(refine zG.lent (ca) rfl ?_)|(refine zG.own (ca) ?_)|(refine hK _ ?_;clear hK)|(refine hK _ _ ?_;clear hK)|(clear hK;refine hK _ ?_;clear hK)|(clear hK;clear hK;refine hK _ ?_;clear hK)|(clear hK;clear hK;clear hK;refine hK _ ?_;clear hK)|(clear hK;clear hK;clear hK;clear hK;refine hK _ ?_;clear hK)|(refine zT fun K hK=>?_)|((first | refine zS ?_ | refine yZ rfl (by kernel_rfl) ?_ | refine yI ?_ | refine wDrw (by kernel_rfl) ?_);simp only [tZ,tY,strip])|((first | refine wIs fun K hK=>?_ | refine wOs fun K hK=>?_ | refine wQs fun K hK=>?_ | refine zY ?_ | refine zM ?_ | refine zF ?_ | refine zW ?_);simp [g2,b2,g5,b5,g7,g8,b8,g38,g39,g40,hlt])|(refine wIn ?_;refine And.intro (by kernel_rfl) ?_;try simp only [zZ])|(first | refine zU ?_ | refine wD ?_)|((first | refine zL ?_ | refine zC ?_ | refine zP ?_);try simp)|((first | refine wK ?_ | refine wOn ?_ | refine wQn ?_);try simp only [zZ])
  all_goals apply hr
  all_goals simp [Tryz.f5]
 have hw:=yF k _ hlt (by omega)
 have hne:=he.2 l[k] (List.getElem_mem hlt)
 cases up
 ·clear hI hne hOr hloop
  unfold pB at b5
  unfold wB at b2
  repeat' first|(refine zR.pure (ca) rfl ?_)|(refine zR.lent (ca) rfl ?_)|(refine zJ.pure (ca) rfl ?_)|(refine zJ.lent (ca) rfl ?_)|(refine zR.own (ca) ?_)|(refine zG.pure (ca) rfl ?_)|(refine zG.lent (ca) rfl ?_)|(refine zG.own (ca) ?_)|(refine hK _ ?_;clear hK)|(refine hK _ _ ?_;clear hK)|(clear hK;refine hK _ ?_;clear hK)|(clear hK;clear hK;refine hK _ ?_;clear hK)|(clear hK;clear hK;clear hK;refine hK _ ?_;clear hK)|(clear hK;clear hK;clear hK;clear hK;refine hK _ ?_;clear hK)|(refine zT fun K hK=>?_)|((first | refine zS ?_ | refine yZ rfl (by kernel_rfl) ?_ | refine yI ?_ | refine wDrw (by kernel_rfl) ?_);simp only [tZ,tY,strip])|((first | refine wIs fun K hK=>?_ | refine wOs fun K hK=>?_ | refine wQs fun K hK=>?_ | refine zY ?_ | refine zM ?_ | refine zF ?_ | refine zW ?_);simp [g2,b2,g5,b5,g7,g8,b8,g38,g39,g40,hlt])|(refine wIn ?_;refine And.intro (by kernel_rfl) ?_;try simp only [zZ])|(first | refine zU ?_ | refine wD ?_)|((first | refine zL ?_ | refine zC ?_ | refine zP ?_);try simp)|((first | refine wK ?_ | refine wOn ?_ | refine wQn ?_);try simp only [zZ])
  all_goals apply hr
  all_goals simp [Tryz.f5]
 have hg:=evsC_get hlt
 have hms : l[k].m.ms.length <= 1000000:=by have:=hne.1;omega
 have hnt:=hne.t
 have cd:=do21_con p l[k] hI.bk (hI.hb.ok (by omega)) ((hI.hb.snoc (t:=evT p l[k]) hnt).ok (by omega)) hms ⟨by have:=hnt.1;omega,fun x hx=>by have:=hnt.2 x hx;omega⟩
 obtain ⟨hI2,-,-⟩:=hI.act (e:=l[k]) hms hnt
 obtain ⟨dq,hRs2,-,-⟩:=act_done (e:=l[k]) hI.bk hRs hOr.d (fun h=>(hI.e0 h).2.2.2) hms
 obtain ⟨hOk,hOr2⟩:=act_ord (e:=l[k]) hI.bk hRs hL16 hOr (fun h=>(hI.e0 h).2.2.2) hms
 have hlenO : (actS p l[k]).o.length <= 1000000000:=by have:=act_len (e:=l[k]) hI.bk (hI.hb.ok (by omega)) ((hI.hb.snoc (t:=evT p l[k]) hnt).ok (by omega)) hms;omega
 clear hne hms hnt hI dq hOr
 unfold sOut at cd
 generalize actS p l[k] = R at *
 obtain ⟨q,gq,oq⟩:=R
 dsimp only at *
 have hlg2 : q.h.lg.length <= 1000:=by have:=hI2.hb.lg;omega
 have hlen2 : (xB L oq).length = 16:=by rw [runL_len,hL16]
 have hloop:=fun (Q : AExit -> St -> Prop) (st : St) hex h0=>hloop Q st q (!gq) k oq L hL16 hOk hlg2 hlenO hex h0
 generalize hx : l[k] = x at *
 unfold pB at b5
 unfold wB at b2
 unfold Ev21.cells at hg cd
 unfold Lq.cells at cd
 repeat' first|(refine hloop _ _ ?_ ?_)|(refine zR.pure (cd) rfl ?_)|(refine zR.lent (cd) rfl ?_)|(refine zJ.pure (cd) rfl ?_)|(refine zJ.lent (cd) rfl ?_)|(refine zR.own (cd) ?_)|(refine zG.pure (cd) rfl ?_)|(refine zG.lent (cd) rfl ?_)|(refine zG.own (cd) ?_)|(refine hK _ ?_;clear hK)|(refine hK _ _ ?_;clear hK)|(clear hK;refine hK _ ?_;clear hK)|(clear hK;clear hK;refine hK _ ?_;clear hK)|(clear hK;clear hK;clear hK;refine hK _ ?_;clear hK)|(clear hK;clear hK;clear hK;clear hK;refine hK _ ?_;clear hK)|(refine zT fun K hK=>?_)|((first | refine zS ?_ | refine yZ rfl (by kernel_rfl) ?_ | refine yI ?_ | refine wDrw (by kernel_rfl) ?_);simp only [tZ,tY,strip])|((first | refine wIs fun K hK=>?_ | refine wOs fun K hK=>?_ | refine wQs fun K hK=>?_ | refine zY ?_ | refine zM ?_ | refine zF ?_ | refine zW ?_);simp [g2,b2,g5,b5,g7,g8,b8,g38,g39,g40,hlt,hx,hg,hw])|(refine wIn ?_;refine And.intro (by kernel_rfl) ?_;try simp only [zZ])|(first | refine zU ?_ | refine wD ?_)|((first | refine zL ?_ | refine zC ?_ | refine zP ?_);try simp)|((first | refine wK ?_ | refine wOn ?_ | refine wQn ?_);try simp only [zZ])
 ·intro st ⟨g2, b2, g5, b5, g7, g8, b8, g38, g39, g40⟩
  simp only [blockA_e,if_true,zZ]
  repeat' first|(refine hK _ ?_;clear hK)|(refine hK _ _ ?_;clear hK)|(clear hK;refine hK _ ?_;clear hK)|(clear hK;clear hK;refine hK _ ?_;clear hK)|(clear hK;clear hK;clear hK;refine hK _ ?_;clear hK)|(clear hK;clear hK;clear hK;clear hK;refine hK _ ?_;clear hK)|(refine zT fun K hK=>?_)|((first | refine zS ?_ | refine yZ rfl (by kernel_rfl) ?_ | refine yI ?_ | refine wDrw (by kernel_rfl) ?_);simp only [tZ,tY,strip])|((first | refine wIs fun K hK=>?_ | refine wOs fun K hK=>?_ | refine wQs fun K hK=>?_ | refine zY ?_ | refine zM ?_ | refine zF ?_ | refine zW ?_);simp [g38,g39,g40,hw])|(refine wIn ?_;refine And.intro (by kernel_rfl) ?_;try simp only [zZ])|(first | refine zU ?_ | refine wD ?_)|((first | refine zL ?_ | refine zC ?_ | refine zP ?_);try simp)|((first | refine wK ?_ | refine wOn ?_ | refine wQn ?_);try simp only [zZ])
  refine hL _ (N - 1) (by omega) ⟨k + 1,q,!gq,xB L oq,by omega,hI2,hRs2,hlen2,hOr2,?_⟩
  simp [FO,g2,b2,g5,b5,g7,g8,b8,g38,g39,g40,hw]
 ·simp [FO,pB,wB,g2,b2,g5,b5,g7,g8,b8,g38,g39,g40,Lq.cells]
end Go.Proofs.YtffflakmofbilaaGreat
