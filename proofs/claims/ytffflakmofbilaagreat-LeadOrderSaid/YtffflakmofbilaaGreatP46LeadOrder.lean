/- Texts that the proof needs: LE4 QH QIQ ZL ZM LE5 LE5b LE4b KLQ LE6 LE7 LE9 KMQ LE10 LE11. -/
import Derived.Test.YtffflakmofbilaaGreatP40LeadOrder
import Derived.Test.YtffflakmofbilaaGreatP31LeadOrder
import Derived.Test.YtffflakmofbilaaGreatP43LeadOrder
import Derived.Test.YtffflakmofbilaaGreatP42LeadOrder
import Derived.Test.YtffflakmofbilaaGreatP44LeadOrder
import Derived.Test.YtffflakmofbilaaGreatP45LeadOrder
import Derived.Test.YtffflakmofbilaaGreatP24LeadOrder
import Derived.Test.YtffflakmofbilaaGreatP25LeadOrder
import Derived.Test.YtffflakmofbilaaGreatP20LeadOrder
import Derived.Test.YtffflakmofbilaaGreatP21LeadOrder
import Derived.Test.YtffflakmofbilaaGreatP30LeadOrder
namespace Go.Proofs.YtffflakmofbilaaGreat
set_option linter.unusedSimpArgs false
set_option linter.unusedVariables false
set_option maxRecDepth 8000
open Go Go.Av
attribute [local irreducible] Go.Av.yA Go.Av.zR Go.Av.xZ Go.Av.zJ Go.Av.xV Go.Av.zG Go.Av.Con
theorem last16_con (h : Hy) (hl : h.lg.length <= 1000) : zB Tryz.prog 22 [.p (.agg h.cells)] (.p (.agg [I (zA h).e, I (zA h).n])) := by
 by_cases h0 : h.lg.length = 0
 ·have hg : zA h = ⟨h.im.ae, h.im.an⟩ := by unfold zA; rw [List.length_eq_zero_iff.1 h0]; rfl
  rw [hg]
  unfold Hy.cells
  refine zK Tryz.tab Tryz.mixed Tryz.func22 rfl rfl Tryz.ntmps22 (by simp) (by simp) fun Q hr hn=>?_
  repeat' first|(refine hK _ ?_;clear hK)|(refine zT fun K hK=>?_)|(refine zS ?_;simp only [tZ,tY,strip])|((first | refine wOs fun K hK=>?_ | refine zW ?_);simp [h0])|(refine zL ?_;try simp)|(refine wOn ?_;try simp only [zZ])
  all_goals apply hr
  all_goals simp [Tryz.f22]
 ·obtain ⟨q, hq⟩ : ∃ q, q + 1 = h.lg.length := ⟨h.lg.length - 1, by omega⟩
  have hlt : q < h.lg.length:=by omega
  have hg : zA h = ⟨h.lg[q].e, h.lg[q].n⟩ := by
   unfold zA
   rw [if_neg h0,show h.lg.length - 1 = q by omega,List.getD_eq_getElem?_getD,List.getElem?_eq_getElem hlt];rfl
  rw [hg]
  have h0' : ¬ (h.lg.length : Int) = 0:=by omega
  have w : IntKind.i64.wrap ((h.lg.length : Int) - 1) = (q : Int):=by rw [yV] <;> omega
  have he:=wC hlt
  unfold Hy.cells
  refine zK Tryz.tab Tryz.mixed Tryz.func22 rfl rfl Tryz.ntmps22 (by simp) (by simp) fun Q hr hn=>?_
  repeat' first|(refine hK _ ?_;clear hK)|(refine zT fun K hK=>?_)|(refine zS ?_;simp only [tZ,tY,strip])|((first | refine wOs fun K hK=>?_ | refine zW ?_);simp [h0,w,hlt])|((first | refine zL ?_ | refine zP ?_);try simp)|(refine wOn ?_;try simp only [zZ])
  all_goals apply hr
  all_goals simp [Tryz.f22]
set_option maxHeartbeats 4000000 in
theorem place21_con (p : Lq) (hl : p.h.lg.length <= 1000) : zB Tryz.prog 25 [.p (.agg p.cells)] (.tup [.p (.agg [I (plcQ p).1.e, I (plcQ p).1.n]), .p (B (plcQ p).2)]) := by
 have c1:=last16_con p.h hl
 have c2:=next02_con (zA p.h).e (zA p.h).n
 unfold plcQ
 unfold Lq.cells
 unfold Hy.cells at c1
 generalize zA p.h = last at *
 by_cases f1 : p.mo = 2
 ·by_cases f2 : p.ph = 3
  ·rw [if_pos ⟨f1, f2⟩]
   have f1' : (p.mo = 2) = True:=eq_true f1
   have f2' : (p.ph = 3) = True:=eq_true f2
   clear f1 f2
   by_cases f3 : last.e = p.ep
   ·rw [if_pos f3]
    have f3' : (last.e = p.ep) = True:=eq_true f3
    clear f3
    dsimp only
    by_cases f4 : uG last.e last.n = 0
    ·rw [decide_eq_true f4]
     generalize uH last.e last.n = NN at *
     generalize uG last.e last.n = NE at *
     replace f4 : (NE = 0) = True:=eq_true f4
     refine zK Tryz.tab Tryz.mixed Tryz.func25 rfl rfl Tryz.ntmps25 (by simp) (by simp) fun Q hr hn=>?_
     repeat' first|(refine zR.pure (c1) rfl ?_)|(refine zR.pure (c2) rfl ?_)|(refine hK _ ?_;clear hK)|(refine zT fun K hK=>?_)|(refine zS ?_;simp only [tZ,tY,strip])|((first | refine wOs fun K hK=>?_ | refine zY ?_ | refine zW ?_);simp [f1',f2',f3'])|((first | refine zL ?_ | refine zP ?_);try simp)|(refine wOn ?_;try simp only [zZ])
     all_goals first | apply hr
     all_goals simp [Tryz.f25,f4]
    ·rw [decide_eq_false f4]
     generalize uH last.e last.n = NN at *
     generalize uG last.e last.n = NE at *
     replace f4 : (NE = 0) = False:=eq_false f4
     refine zK Tryz.tab Tryz.mixed Tryz.func25 rfl rfl Tryz.ntmps25 (by simp) (by simp) fun Q hr hn=>?_
     repeat' first|(refine zR.pure (c1) rfl ?_)|(refine zR.pure (c2) rfl ?_)|(refine hK _ ?_;clear hK)|(refine zT fun K hK=>?_)|(refine zS ?_;simp only [tZ,tY,strip])|((first | refine wOs fun K hK=>?_ | refine zY ?_ | refine zW ?_);simp [f1',f2',f3'])|((first | refine zL ?_ | refine zP ?_);try simp)|(refine wOn ?_;try simp only [zZ])
     all_goals first | apply hr
     all_goals simp [Tryz.f25,f4]
   ·rw [if_neg f3]
    have f3' : (last.e = p.ep) = False:=eq_false f3
    clear f3
    refine zK Tryz.tab Tryz.mixed Tryz.func25 rfl rfl Tryz.ntmps25 (by simp) (by simp) fun Q hr hn=>?_
    repeat' first|(refine zR.pure (c1) rfl ?_)|(refine hK _ ?_;clear hK)|(refine zT fun K hK=>?_)|(refine zS ?_;simp only [tZ,tY,strip])|((first | refine wOs fun K hK=>?_ | refine zY ?_ | refine zW ?_);simp [f1',f2',f3'])|((first | refine zL ?_ | refine zP ?_);try simp)|(refine wOn ?_;try simp only [zZ])
    all_goals first | apply hr
    all_goals simp [Tryz.f25]
  ·rw [if_neg fun h => f2 h.2]
   have f1' : (p.mo = 2) = True:=eq_true f1
   have f2' : (p.ph = 3) = False:=eq_false f2
   clear f1 f2
   refine zK Tryz.tab Tryz.mixed Tryz.func25 rfl rfl Tryz.ntmps25 (by simp) (by simp) fun Q hr hn=>?_
   repeat' first|(refine hK _ ?_;clear hK)|(refine zT fun K hK=>?_)|(refine zS ?_;simp only [tZ,tY,strip])|((first | refine wOs fun K hK=>?_ | refine zW ?_);simp [f1',f2'])|(refine zL ?_;try simp)|(refine wOn ?_;try simp only [zZ])
   all_goals first | apply hr
   all_goals simp [Tryz.f25]
 ·rw [if_neg fun h => f1 h.1]
  have f1' : (p.mo = 2) = False:=eq_false f1
  clear f1
  refine zK Tryz.tab Tryz.mixed Tryz.func25 rfl rfl Tryz.ntmps25 (by simp) (by simp) fun Q hr hn=>?_
  repeat' first|(refine hK _ ?_;clear hK)|(refine zT fun K hK=>?_)|(refine zS ?_;simp only [tZ,tY,strip])|((first | refine wOs fun K hK=>?_ | refine zW ?_);simp [f1'])|(refine zL ?_;try simp)|(refine wOn ?_;try simp only [zZ])
  all_goals first | apply hr
  all_goals simp [Tryz.f25]
abbrev sOut (s : Sq) : V := .tup [.p (.agg s.p.cells), .p (.sl 46 (zD s.o)), .p (B (!s.g))]
theorem hear_con {id : Int} (p : Lq) (m : Mg) (hb : Bk id p) (hk : OkH p.h) (hm : m.ms.length <= 1000000) : zB Tryz.prog 28 [.p (.agg p.cells), .p (.agg m.cells)] (sOut (hearS p m)) := by
 have hl:=hb.len
 have hR:=hb.relay
 have hrl : yU p.ls = p.ls:=wP hb.srt
 have hE : hearS p m = if p.mo = 2 /\ concQ (yQ p) m then uN ⟨yQ p,false,[]⟩ m else ⟨yQ p,false,[]⟩:=rfl
 rw [hE]
 by_cases hf : p.mo = 2 /\ concQ (yQ p) m
 case neg=>rw [if_neg hf];exact hearN_con p m hk (by omega) hb.ms hf
 rw [if_pos hf]
 have ok : OkS 16 0 (⟨yQ p,false,[]⟩ : Sq):=⟨hk,by rw [hR];exact hl,by simp,by rw [hR];exact hb.ms⟩
 have go:=fun S c3=>hearF_con p m hk (by omega) hb.ms hf.1 hf.2 S c3
 unfold uN
 by_cases k2 : m.kd = 2
 ·rw [if_pos k2];refine go _ ?_;rw [show doF m.kd = 92 by rw [k2];rfl];exact info_con ok (by omega) (by omega) m
 rw [if_neg k2]
 by_cases k4 : m.kd = 4
 ·rw [if_pos k4];refine go _ ?_;rw [show doF m.kd = 93 by rw [k4];rfl];exact ackEp_con ok (by omega) (by omega) m hm
 rw [if_neg k4]
 by_cases k6 : m.kd = 6
 ·rw [if_pos k6];refine go _ ?_;rw [show doF m.kd = 94 by rw [k6];rfl];exact sync_con ok (by omega) (by omega) m
 rw [if_neg k6]
 by_cases k9 : m.kd = 9
 ·rw [if_pos k9];refine go _ ?_;rw [show doF m.kd = 95 by rw [k9];rfl];exact ackd_con ok (by omega) (by omega) m
 rw [if_neg k9]
 by_cases k13 : m.kd = 13
 ·rw [if_pos k13]
  by_cases h0 : p.ls.length = 0
  ·have h0' : p.ls = [] := List.length_eq_zero_iff.1 h0
   have e : pongS ⟨yQ p, false, []⟩ m = ⟨yQ p, false, []⟩ := by
    unfold pongS
    have : (yQ p).ls = []:=by rw [hR];exact h0'
    simp only [this,vM,tY]
    rw [<- this]
   rw [e]
   refine go _ ?_
   rw [show doF m.kd = 96 by rw [k13];rfl]
   exact pong0_con (yQ p) false (zD []) m (by rw [hR];exact h0')
  ·exact hearP_con p m hk h0 (by omega) (by rw [hrl];omega) hb.ms hf.1 hf.2 k13
 rw [if_neg k13]
 refine go _ ?_
 rw [show doF m.kd = 97 by unfold doF;rw [if_neg k2,if_neg k4,if_neg k6,if_neg k9,if_neg k13]]
 exact nothing_con (yQ p) false [] m
theorem tick_con {id : Int} (p : Lq) (hb : Bk id p) (hk : OkH p.h) : zB Tryz.prog 37 [.p (.agg p.cells)] (sOut (wO p)) := by
 have hl:=hb.len
 have hrl : yU p.ls = p.ls:=wP hb.srt
 unfold wO
 rw [if_pos hb.mo]
 by_cases h0 : p.ls.length = 0
 ·have h0' : p.ls = [] := List.length_eq_zero_iff.1 h0
  have c:=tick0_con p hk h0' hb.mo
  have e1 : tkP (yQ p) = { p with wt := tkW p } := by
   rw [hb.relay];unfold tkP;rw [h0',tY,<- h0']
  have e2 : tkM (yQ p) (yU p.ls) = []:=by rw [hrl,h0'];rfl
  have e3 : tkG (yQ p) = if p.ph = 1 \/ p.ph = 2 then decide (8 < tkW p) else if p.ph = 3 then !yS p [p.id] else false := by
   rw [hb.relay];unfold tkG;rw [h0'];rfl
  rw [e1,e2,e3]
  exact c
 ·exact tickR_con p hk h0 (by omega) (by rw [hrl];omega) hb.ms hb.mo
theorem lost_con {id : Int} (p : Lq) (n : Int) (hb : Bk id p) (hk : OkH p.h) : zB Tryz.prog 38 [.p (.agg p.cells), .p (I n)] (sOut ⟨lostQ p n, false, []⟩) := by
 have hl:=hb.len
 have hrl : yU p.ls = p.ls:=wP hb.srt
 unfold lostQ
 rw [if_pos hb.mo]
 by_cases h0 : p.ls.length = 0
 ·have h0' : p.ls = [] := List.length_eq_zero_iff.1 h0
  have e : ({ p with ls:=wQ (yU p.ls) n } : Lq) = p:=by rw [hrl,h0'];show ({ p with ls:=[] } : Lq) = p;rw [<- h0']
  rw [e]
  exact lostE_con p n hk h0' hb.mo
 ·exact lostR_con p n hk h0 (by omega) (by rw [hrl];omega) hb.ms hb.mo
theorem prop_con {id : Int} (p : Lq) (t : Tx) (hb : Bk id p) (hk : OkH p.h) (hk2 : OkH { p.h with lg := p.h.lg ++ [t] }) (ht : t.ps.length <= 1000 /\ ∀ x ∈ t.ps, x.c.ms.length <= 1000) : zB Tryz.prog 26 [.p (.agg p.cells), .p (.agg t.cells)] (sOut (uI p t)) := by
 have hl:=hb.len
 have hrl : yU p.ls = p.ls:=wP hb.srt
 by_cases hf : propOK p t
 ·exact prop1_con p t hk hk2 (by omega) (by rw [hrl];exact hl) hb.ms (by rw [hrl];exact hb.ms) ht hf
 ·unfold uI
  rw [if_neg hf]
  exact prop0_con p t hk (by omega) hb.ms ht hf
def evT (p : Lq) (e : Ev21) : Tx := { e.t with e := (plcQ p).1.e, n := (plcQ p).1.n }
def actS (p : Lq) (e : Ev21) : Sq := if e.k = 0 then hearS p e.m else if e.k = 1 then wO p else if e.k = 2 then ⟨lostQ p e.n, false, []⟩ else uI p (evT p e)
set_option maxHeartbeats 4000000 in
theorem do21_con {id : Int} (p : Lq) (e : Ev21) (hb : Bk id p) (hk : OkH p.h) (hk2 : OkH { p.h with lg := p.h.lg ++ [evT p e] }) (hm : e.m.ms.length <= 1000000) (ht : e.t.ps.length <= 1000 /\ ∀ x ∈ e.t.ps, x.c.ms.length <= 1000) : zB Tryz.prog 12 [.p (.agg p.cells), .p (.agg e.cells)] (sOut (actS p e)) := by
 have c0:=hear_con p e.m hb hk hm
 have c1:=tick_con p hb hk
 have c2:=lost_con p e.n hb hk
 have c3:=place21_con p hk.lg
 have c4:=prop_con p (evT p e) hb hk hk2 ht
 have het : (evT p e).cells = [I (plcQ p).1.e,I (plcQ p).1.n,I e.t.s,I e.t.x,I e.t.r,I e.t.b,SB e.t.m,.sl 11 (pts e.t.ps)]:=rfl
 unfold actS
 generalize hearS p e.m = S0 at *
 generalize wO p = S1 at *
 generalize (⟨lostQ p e.n,false,[]⟩ : Sq) = S2 at *
 generalize uI p (evT p e) = S3 at *
 rw [het] at c4
 generalize plcQ p = PQ at *
 clear hb hk hk2 hm ht het
 unfold sOut at *
 unfold Ev21.cells
 unfold Mg.cells at c0
 by_cases h0 : e.k = 0
 ·rw [if_pos h0]
  replace h0 : (e.k = 0) = True:=eq_true h0
  clear c1 c2 c3 c4
  generalize zD S0.o = O at *
  unfold Lq.cells at *
  refine zK Tryz.tab Tryz.mixed Tryz.func12 rfl rfl Tryz.ntmps12 (by simp) (by simp) fun Q hr hn=>?_
  repeat' first|(refine zR.pure (c0) rfl ?_)|(refine hK _ ?_;clear hK)|(refine zT fun K hK=>?_)|(refine zS ?_;simp only [tZ,tY,strip])|((first | refine wOs fun K hK=>?_ | refine zY ?_ | refine zW ?_);simp [h0])|(first | refine zU ?_)|(refine zL ?_;try simp)|(refine wOn ?_;try simp only [zZ])
  all_goals apply hr
  all_goals simp [Tryz.f12]
 rw [if_neg h0]
 replace h0 : (e.k = 0) = False:=eq_false h0
 by_cases h1 : e.k = 1
 ·rw [if_pos h1]
  replace h1 : (e.k = 1) = True:=eq_true h1
  clear c0 c2 c3 c4
  generalize zD S1.o = O at *
  unfold Lq.cells at *
  refine zK Tryz.tab Tryz.mixed Tryz.func12 rfl rfl Tryz.ntmps12 (by simp) (by simp) fun Q hr hn=>?_
  repeat' first|(refine zR.pure (c1) rfl ?_)|(refine hK _ ?_;clear hK)|(refine zT fun K hK=>?_)|(refine zS ?_;simp only [tZ,tY,strip])|((first | refine wOs fun K hK=>?_ | refine zY ?_ | refine zW ?_);simp [h0,h1])|(first | refine zU ?_)|(refine zL ?_;try simp)|(refine wOn ?_;try simp only [zZ])
  all_goals apply hr
  all_goals simp [Tryz.f12]
 rw [if_neg h1]
 replace h1 : (e.k = 1) = False:=eq_false h1
 by_cases h2 : e.k = 2
 ·rw [if_pos h2]
  replace h2 : (e.k = 2) = True:=eq_true h2
  clear c0 c1 c3 c4
  generalize zD S2.o = O at *
  unfold Lq.cells at *
  refine zK Tryz.tab Tryz.mixed Tryz.func12 rfl rfl Tryz.ntmps12 (by simp) (by simp) fun Q hr hn=>?_
  repeat' first|(refine zR.pure (c2) rfl ?_)|(refine hK _ ?_;clear hK)|(refine zT fun K hK=>?_)|(refine zS ?_;simp only [tZ,tY,strip])|((first | refine wOs fun K hK=>?_ | refine zY ?_ | refine zW ?_);simp [h0,h1,h2])|(first | refine zU ?_)|(refine zL ?_;try simp)|(refine wOn ?_;try simp only [zZ])
  all_goals apply hr
  all_goals simp [Tryz.f12]
 rw [if_neg h2]
 replace h2 : (e.k = 2) = False:=eq_false h2
 clear c0 c1 c2
 generalize zD S3.o = O at *
 unfold Lq.cells at *
 refine zK Tryz.tab Tryz.mixed Tryz.func12 rfl rfl Tryz.ntmps12 (by simp) (by simp) fun Q hr hn=>?_
 repeat' first|(refine zR.pure (c3) rfl ?_)|(refine zR.pure (c4) rfl ?_)|(refine hK _ ?_;clear hK)|(refine zT fun K hK=>?_)|(refine zS ?_;simp only [tZ,tY,strip])|((first | refine wOs fun K hK=>?_ | refine zY ?_ | refine zW ?_);simp [h0,h1,h2])|(first | refine zU ?_)|((first | refine zL ?_ | refine zP ?_);try simp)|(refine wOn ?_;try simp only [zZ])
 all_goals apply hr
 all_goals simp [Tryz.f12]
end Go.Proofs.YtffflakmofbilaaGreat
namespace Go.Proofs.YtffflakmofbilaaGreat
set_option linter.unusedSimpArgs false
set_option linter.unusedVariables false
open Go Go.Av
attribute [local irreducible] Go.Av.yA Go.Av.zR Go.Av.xZ Go.Av.zJ Go.Av.xV Go.Av.zG Go.Av.Con
theorem tot_le (f : Mb -> Int) (p q : Mb -> Bool) : ∀ l : List Mb, (∀ m ∈ l, 0 <= f m) -> (∀ m ∈ l, m.r = 1 -> p m = true -> q m = true) -> tot f p l <= tot f q l
 | [],_,_=>by simp [tot]
 | m :: l, h, hpq => by
  have h1:=tot_le f p q l (fun x hx=>h x (List.mem_cons_of_mem _ hx)) (fun x hx=>hpq x (List.mem_cons_of_mem _ hx))
  have h2:=h m (by simp)
  have h3:=hpq m (by simp)
  simp only [tot]
  by_cases a : m.r = 1 /\ p m = true
  ·rw [if_pos a,if_pos ⟨a.1,h3 a.1 a.2⟩];omega
  ·rw [if_neg a];split <;> omega
theorem num_le (p q : Nat -> Bool) : ∀ k, (∀ g, p g = true -> q g = true) -> num p k <= num q k
 | 0,_=>by simp [num]
 | k + 1, h => by
  have h1:=num_le p q k h
  have h2:=h k
  simp only [num]
  cases hp : p k
  ·simp only [Bool.false_eq_true,if_false];split <;> omega
  ·rw [h2 hp];omega
theorem isQ_mono {c : Cf} {a b : List Int} (h : ∀ m ∈ c.ms, m.r = 1 -> m.i ∈ a -> m.i ∈ b) (ha : isQ c a = true) : isQ c b = true := by
 by_cases hc : check c = 0
 rotate_left
 ·unfold isQ at ha;rw [if_neg hc] at ha;simp at ha
 obtain ⟨-,hf,-⟩:=check_ok hc
 have ho:=fine_ok _ _ hf
 unfold isQ at ha ⊢
 rw [if_pos hc] at ha ⊢
 unfold enough at ha ⊢
 have hd : ∀ m ∈ c.ms, m.r = 1 -> inS a m = true -> inS b m = true := fun m hm h1 h2 => by
  simp only [inS,decide_eq_true_eq] at h2 ⊢;exact h m hm h1 h2
 by_cases k1 : c.kind = 1
 ·rw [if_pos k1, decide_eq_true_eq] at ha ⊢
  have:=tot_le one (inS a) (inS b) c.ms (fun m _=>by simp [one]) hd
  omega
 rw [if_neg k1] at ha ⊢
 by_cases k2 : c.kind = 2
 ·rw [if_pos k2, decide_eq_true_eq] at ha ⊢
  have:=tot_le Mb.w (inS a) (inS b) c.ms (fun m hm=>(okL_w ho m hm).1) hd
  omega
 rw [if_neg k2,decide_eq_true_eq] at ha ⊢
 have := num_le (wonG a c.ms) (wonG b c.ms) 8 (fun g h1 => by
  simp only [wonG,decide_eq_true_eq] at h1 ⊢
  have := tot_le Mb.w (inG (inS a) g) (inG (inS b) g) c.ms (fun m hm => (okL_w ho m hm).1) (fun m hm e1 e2 => by
   simp only [inG,Bool.and_eq_true] at e2 ⊢
   exact ⟨e2.1,hd m hm e1 e2.2⟩)
  omega)
 omega
end Go.Proofs.YtffflakmofbilaaGreat
namespace Go.Proofs.YtffflakmofbilaaGreat
open Go Go.Av
end Go.Proofs.YtffflakmofbilaaGreat
namespace Go.Proofs.YtffflakmofbilaaGreat
set_option linter.unusedSimpArgs false
set_option linter.unusedVariables false
open Go Go.Av
attribute [local irreducible] Go.Av.yA Go.Av.zR Go.Av.xZ Go.Av.zJ Go.Av.xV Go.Av.zG Go.Av.Con
theorem fresh_ok {e i : Int} (h : uR e i = 0) : 0 <= i /\ i < 16 /\ 0 <= e /\ e < xU e i /\ xU e i <= e + 16 /\ owner (xU e i) = i /\ xU e i % 16 = i := by
 unfold uR at h
 split at h
 ·simp at h
 rename_i h1
 split at h
 ·simp at h
 rename_i h2
 have hm : e.tmod 16 = e % 16:=Int.tmod_eq_emod_of_nonneg (by omega)
 have hE : uR e i = 0:=by unfold uR;rw [if_neg h1,if_neg h2]
 have hN : xU e i = if e - e % 16 + i <= e then e - e % 16 + i + 16 else e - e % 16 + i := by
  unfold xU;rw [hm];simp [hE]
 have ho : 1 <= xU e i -> owner (xU e i) = xU e i % 16 := fun hh => by
  unfold owner;rw [if_neg (by omega),Int.tmod_eq_emod_of_nonneg (by omega)]
 generalize xU e i = n at *
 split at hN
 ·have:=ho (by omega);omega
 ·have:=ho (by omega);omega
end Go.Proofs.YtffflakmofbilaaGreat
namespace Go.Proofs.YtffflakmofbilaaGreat
set_option linter.unusedSimpArgs false
set_option linter.unusedVariables false
open Go Go.Av
def Ke (e a : Int) (s : Sq) : Prop := s.p.ep = e /\ s.p.ac = a
theorem Ke.stay {e a : Int} {s : Sq} (k : Ke e a s) : Ke e a (vD s) := by
 unfold vD
 split <;> exact k
theorem Ke.plans {e a : Int} {s : Sq} (k : Ke e a s) (l : List Lr) : Ke e a (l.foldl xW s) :=
 foldB (R:=Ke e a) l s (fun s x _ k=>by unfold xW;split <;> exact k) k
theorem Ke.plansV {e a : Int} {s : Sq} (k : Ke e a s) (v : List Int) (l : List Lr) : Ke e a (l.foldl (yO v) s) :=
 foldB (R:=Ke e a) l s (fun s x _ k=>by unfold yO;split <;> exact k) k
theorem Ke.est {e a : Int} {s : Sq} (k : Ke e a s) : Ke e a (estS s) := by
 unfold estS
 split
 ·refine Ke.stay (Ke.plans ?_ _)
  unfold Ke
  rw [xS (wM _)]
  exact k
 ·exact k
theorem Ke.gath {e a : Int} {s : Sq} (k : Ke e a s) : Ke e a (xJ s) := by
 unfold xJ
 split
 ·refine Ke.est (Ke.plansV ?_ _ _)
  exact ⟨k.1,k.2⟩
 ·exact k
theorem Ke.com {e a : Int} {s : Sq} (k : Ke e a s) : Ke e a (comS s) := by
 unfold comS
 split
 ·exact k
 ·refine Ke.stay ?_
  unfold Ke
  simp only [xS (eachCom_p _ _ _)]
  exact k
theorem Ke.doS {e a : Int} {s : Sq} (k : Ke e a s) (he : ¬ e = 0) (m : Mg) : Ke e a (uN s m) := by
 have hep : ¬ s.p.ep = 0:=by rw [k.1];exact he
 have kD : Ke e a (uA s m):=by unfold uA;split <;> exact k
 unfold uN
 split
 ·unfold infoS
  rw [if_pos hep]
  split <;> exact k
 split
 ·unfold uB
  split
  ·exact k
  ·split
   ·split
    ·exact kD
    ·exact Ke.gath (s:=(uA s m).lay (ackX s.p m)) kD
   ·split <;> exact k
 split
 ·unfold syncS
  split
  ·exact k
  ·split
   ·exact Ke.est (s:=s.lay (syncX s.p m)) k
   ·split
    ·exact Ke.com (s:=(s.lay (syncX s.p m)).send _ _) k
    ·exact k
 split
 ·unfold ackdS
  split
  ·exact k
  ·split
   ·exact Ke.com (s:=s.lay (ackdX s.p m)) k
   ·exact k
 split <;> exact k
def Wo (l0 : List Lr) (s : Sq) : Prop := (∀ y ∈ s.p.ls, ∃ x ∈ l0, x.id = y.id /\ x.ac = y.ac) /\ ∀ x ∈ l0, ∃ y ∈ s.p.ls, y.id = x.id
theorem Wo.plan {l0 : List Lr} {s : Sq} (k : Wo l0 s) {x : Lr} (hx : ∃ z ∈ l0, z.id = x.id /\ z.ac = x.ac) : Wo l0 (vB s x) := by
 refine ⟨fun y hy=>?_,fun z hz=>?_⟩
 ·rcases vJ.1 hy with rfl | ⟨hy, -⟩
  ·exact hx
  ·exact k.1 y hy
 ·obtain ⟨y, hy, he⟩ := k.2 z hz
  by_cases o : y.id = x.id
  ·exact ⟨{ x with ph:=3 },vJ.2 (.inl rfl),o.symm.trans he⟩
  ·exact ⟨y,vJ.2 (.inr ⟨hy,o⟩),he⟩
theorem Wo.stay {l0 : List Lr} {s : Sq} (k : Wo l0 s) : Wo l0 (vD s) := by
 unfold vD
 split <;> exact k
theorem Wo.plans {l0 : List Lr} {s : Sq} (k : Wo l0 s) {l : List Lr} (hl : ∀ x ∈ l, ∃ z ∈ l0, z.id = x.id /\ z.ac = x.ac) : Wo l0 (l.foldl xW s) :=
 foldB (R := Wo l0) l s (fun s x hx k => by
  unfold xW
  split
  ·exact k.plan (hl x hx)
  ·exact k) k
theorem Wo.plansV {l0 : List Lr} {s : Sq} (k : Wo l0 s) (v : List Int) {l : List Lr} (hl : ∀ x ∈ l, ∃ z ∈ l0, z.id = x.id /\ z.ac = x.ac) : Wo l0 (l.foldl (yO v) s) :=
 foldB (R := Wo l0) l s (fun s x hx k => by
  unfold yO
  split
  ·exact k.plan (hl x hx)
  ·exact k) k
theorem Wo.est {l0 : List Lr} {s : Sq} (k : Wo l0 s) : Wo l0 (estS s) := by
 unfold estS
 split
 ·refine Wo.stay (Wo.plans ?_ k.1)
  unfold Wo
  rw [xS (wM _)]
  exact k
 ·exact k
theorem Wo.gath {l0 : List Lr} {s : Sq} (k : Wo l0 s) : Wo l0 (xJ s) := by
 unfold xJ
 split
 ·refine Wo.est (Wo.plansV ?_ _ k.1)
  exact ⟨k.1,k.2⟩
 ·exact k
theorem most_ge : ∀ (l : List Lr) (a : Int), a <= l.foldl (fun a x => if a < x.ac then x.ac else a) a /\ ∀ x ∈ l, x.ac <= l.foldl (fun a x => if a < x.ac then x.ac else a) a
 | [],a=>⟨Int.le_refl _,by simp⟩
 | x :: l, a => by
  obtain ⟨h1,h2⟩:=most_ge l (if a < x.ac then x.ac else a)
  rw [List.foldl_cons]
  have h3 : a <= (if a < x.ac then x.ac else a) /\ x.ac <= (if a < x.ac then x.ac else a):=by split <;> omega
  refine ⟨by omega,fun y hy=>?_⟩
  rcases List.mem_cons.1 hy with rfl | hy
  ·omega
  ·exact h2 y hy
structure Chose (s : Sq) (q : Lq) : Prop where
 ne : ¬ q.ep = 0
 ac : q.ac = q.ep
 ow : owner q.ep = s.p.id
 up : s.p.ac < q.ep
 all : ∀ y ∈ q.ls,y.ac < q.ep
 has : ∀ x ∈ s.p.ls,∃ y ∈ q.ls,y.id = x.id
 en : yS s.p (xC s.p.id 1 0 0 s.p.ls) = true
theorem cho_ep (s : Sq) : (vQ s).p = s.p \/ Chose s (vQ s).p := by
 unfold vQ
 by_cases h1 : yS s.p (xC s.p.id 1 0 0 s.p.ls) = true
 case neg=>rw [if_neg h1];exact .inl rfl
 rw [if_pos h1]
 by_cases h2 : uR (wG s.p) s.p.id = 0
 case neg=>rw [if_neg h2];exact .inl rfl
 rw [if_pos h2]
 obtain ⟨-,-,f3,f4,-,f6,-⟩:=fresh_ok h2
 obtain ⟨m1,m2⟩:=most_ge s.p.ls s.p.ac
 have hmq : wG s.p = s.p.ls.foldl (fun a x=>if a < x.ac then x.ac else a) s.p.ac:=rfl
 rw [<- hmq] at m1 m2
 generalize hE : xU (wG s.p) s.p.id = E at *
 have hp : (s.p.ls.foldl yD { s with p:={ s.p with ep:=E,ac:=E } }).p = { s.p with ep:=E,ac:=E }:=xS vY _ _
 have hk : Ke E E (s.p.ls.foldl yD { s with p:={ s.p with ep:=E,ac:=E } }):=by unfold Ke;rw [hp];exact ⟨rfl,rfl⟩
 have hw : Wo s.p.ls (s.p.ls.foldl yD { s with p := { s.p with ep := E, ac := E } }) := by
  unfold Wo;rw [hp]
  exact ⟨fun y hy=>⟨y,hy,rfl,rfl⟩,fun x hx=>⟨x,hx,rfl⟩⟩
 have gk:=hk.gath
 have gw:=hw.gath
 have hshow : (fun s1 : Sq=>xJ (s1.p.ls.foldl yD s1)) { s with p:={ s.p with ep:=E,ac:=E } } = xJ (s.p.ls.foldl yD { s with p:={ s.p with ep:=E,ac:=E } }):=rfl
 rw [hshow]
 generalize xJ (s.p.ls.foldl yD { s with p:={ s.p with ep:=E,ac:=E } }) = S2 at *
 obtain ⟨g1,g2⟩:=gk
 refine .inr ⟨by rw [g1];omega,by rw [g1,g2],by rw [g1];exact f6,by rw [g1];omega,fun y hy=>?_,gw.2,h1⟩
 obtain ⟨x,hx,-,ha⟩:=gw.1 y hy
 have:=m2 x hx
 rw [g1];omega
structure InvE (w : Wh) (k : Nat) (p : Lq) : Prop where
 bk : Bk w.id p
 hb : HB (30 + k) p.h
 e0 : p.ep = 0 -> p.h = w.h /\ p.d = ⟨w.h.im.ae,w.h.im.an⟩ /\ p.ac = w.ac /\ p.ph = 1
theorem mem_setS {self ph e n : Int} {l : List Lr} {x : Int} (h : x ∈ xC self ph e n l) : x = self \/ ∃ y ∈ l, y.id = x := by
 unfold xC at h
 rcases List.mem_cons.1 h with h | h
 ·exact .inl h
 ·obtain ⟨y, hy, rfl⟩ := List.mem_map.1 h
  exact .inr ⟨y,(List.mem_filter.1 hy).1,rfl⟩
theorem allQ_mono {l : List Cf} {a b : List Int} (h : ∀ x ∈ a, x ∈ b) (ha : allQ l a = true) : allQ l b = true := by
 unfold allQ at *
 rw [Bool.and_eq_true] at *
 refine ⟨List.all_eq_true.2 fun c hc=>isQ_mono (fun m _ _ hm=>h _ hm) (List.all_eq_true.1 ha.1 c hc),ha.2⟩
def NearT (t : Tx) : Prop := t.ps.length <= 200 /\ ∀ x ∈ t.ps, x.c.ms.length <= 200
theorem HB.snoc {k : Nat} {h : Hy} (b : HB k h) {t : Tx} (ht : NearT t) : HB (k + 1) { h with lg := h.lg ++ [t] } := by
 refine ⟨b.ns,b.ss,b.c,by have:=b.lg;simp;omega,fun u hu=>?_⟩
 rcases List.mem_append.1 hu with hu | hu
 ·exact b.ps u hu
 ·rw [List.mem_singleton.1 hu];exact ht
theorem sum_mem : ∀ {l : List Nat} {x : Nat}, x ∈ l -> x <= l.sum
 | a :: l, x, h => by
  rw [List.sum_cons]
  rcases List.mem_cons.1 h with rfl | h
  ·omega
  ·have:=sum_mem h;omega
theorem near_HB {h : Hy} (hn : vO h) : HB 30 h := by
 obtain ⟨h1,h2,h3⟩:=hn
 unfold wH at h3
 refine ⟨by omega,by omega,by omega,h1,fun t ht=>⟨by have:=h2 t ht;omega,fun p hp=>?_⟩⟩
 have a : wT t <= (h.lg.map wT).sum:=sum_mem (List.mem_map.2 ⟨t,ht,rfl⟩)
 have b : p.c.ms.length <= (t.ps.map fun p=>p.c.ms.length).sum:=sum_mem (List.mem_map.2 ⟨p,hp,rfl⟩)
 have a' : wT t = t.ps.length + (t.ps.map fun p=>p.c.ms.length).sum:=rfl
 omega
theorem nearE.t {e : Ev21} (h : nearE e) : NearT e.t := (near_HB h.2.1).ps e.t (by simp)
theorem hear_sk {id : Int} {p : Lq} (hb : Bk id p) {m : Mg} (hm : m.ms.length <= 1000000) : Sk id p.h (hearS p m) := by
 have hR:=hb.relay
 have k0 : Sk id p.h ⟨yQ p,false,[]⟩:=by rw [hR];exact ⟨hb,rfl⟩
 have hE : hearS p m = if p.mo = 2 /\ concQ (yQ p) m then uN ⟨yQ p,false,[]⟩ m else ⟨yQ p,false,[]⟩:=rfl
 rw [hE]
 split
 ·rename_i hf
  refine k0.doS ⟨hf.2.2.1,hf.2.2.2.1,fun h=>hf.2.1 ?_⟩ hm
  rw [h];exact hb.eq.symm
 ·exact k0
theorem tick_bk {id : Int} {p : Lq} (hb : Bk id p) : Bk id (wO p).p /\ (wO p).p.h = p.h := by
 unfold wO
 rw [if_pos hb.mo,hb.relay]
 refine ⟨⟨hb.eq,hb.mo,srt_map (fun _=>rfl) hb.srt,fun y hy=>?_,fun y hy=>?_⟩,rfl⟩
 ·obtain ⟨x,hx,rfl⟩:=List.mem_map.1 hy;exact hb.ids x hx
 ·obtain ⟨x,hx,rfl⟩:=List.mem_map.1 hy;exact hb.ms x hx
theorem lost_bk {id : Int} {p : Lq} (hb : Bk id p) (n : Int) : Bk id (lostQ p n) /\ (lostQ p n).h = p.h := by
 unfold lostQ
 rw [if_pos hb.mo,wP hb.srt]
 exact ⟨⟨hb.eq,hb.mo,srt_but hb.srt n,fun y hy=>hb.ids y (List.mem_filter.1 hy).1,fun y hy=>hb.ms y (List.mem_filter.1 hy).1⟩,rfl⟩
theorem eachProp_p (v1 v2 : List Int) (op : List Tx) (t : Tx) (s : Sq) (x : Lr) : (wL v1 v2 op t s x).p = s.p := by unfold wL; split <;> (try split) <;> rfl
theorem prop_sk {id : Int} {p : Lq} (hb : Bk id p) (t : Tx) : (¬ propOK p t /\ uI p t = ⟨p, false, []⟩) \/ (propOK p t /\ Sk id { p.h with lg := p.h.lg ++ [t] } (uI p t)) := by
 by_cases hf : propOK p t
 ·refine .inr ⟨hf, ?_⟩
  unfold uI
  rw [if_pos hf]
  refine Sk.com ⟨?_,?_⟩
  ·rw [xS (eachProp_p _ _ _ _)]
   have : Bk id (yQ p):=by rw [hb.relay];exact hb
   exact this.same rfl rfl rfl
  ·rw [xS (eachProp_p _ _ _ _)];rfl
 ·refine .inl ⟨hf, ?_⟩
  unfold uI
  rw [if_neg hf,hb.relay]
structure Ask (w : Wh) (q : Lq) : Prop where
 all : ∀ y ∈ q.ls,y.ac < q.ep
 up : w.ac < q.ep
 ow : owner q.ep = w.id
 ac : q.ac = q.ep
 en : allQ (yX w.h w.h.im.ae w.h.im.an) ((q.ls.map Lr.id) ++ [w.id]) = true
theorem InvE.act {w : Wh} {k : Nat} {p : Lq} (hI : InvE w k p) {e : Ev21} (hm : e.m.ms.length <= 1000000) (ht : NearT e.t) :
 InvE w (k + 1) (actS p e).p /\ (¬ p.ep = 0 -> (actS p e).p.ep = p.ep) /\ (p.ep = 0 -> ¬ (actS p e).p.ep = 0 -> Ask w (actS p e).p):=by
 obtain ⟨hb,hh,he0⟩:=hI
 have hh1 : HB (30 + (k + 1)) p.h:=hh.mono (by omega)
 have stay : ∀ q : Lq, Bk w.id q -> q.h = p.h -> q.ep = p.ep -> q.d = p.d -> q.ac = p.ac -> q.ph = p.ph -> InvE w (k + 1) q /\ (¬ p.ep = 0 -> q.ep = p.ep) /\ (p.ep = 0 -> ¬ q.ep = 0 -> Ask w q) := fun q b1 b2 b3 b4 b5 b6 =>
  ⟨⟨b1,by rw [b2];exact hh1,fun h=>by rw [b2,b4,b5,b6];exact he0 (b3 ▸ h)⟩,fun _=>b3,fun h h'=>absurd (b3.trans h) h'⟩
 unfold actS
 split
 ·have sk := hear_sk hb hm
  have hE : hearS p e.m = if p.mo = 2 /\ concQ (yQ p) e.m then uN ⟨yQ p,false,[]⟩ e.m else ⟨yQ p,false,[]⟩:=rfl
  by_cases hf : p.mo = 2 /\ concQ (yQ p) e.m
  case neg =>
   rw [hE,if_neg hf,hb.relay]
   exact stay p hb rfl rfl rfl rfl rfl
  rw [hE,if_pos hf] at sk ⊢
  rw [hb.relay] at sk hf ⊢
  by_cases h0 : p.ep = 0
  case neg =>
   have ke:=Ke.doS (s:=⟨p,false,[]⟩) (e:=p.ep) (a:=p.ac) ⟨rfl,rfl⟩ h0 e.m
   exact ⟨⟨sk.bk,by rw [sk.h];exact hh1,fun h=>absurd (ke.1 ▸ h) h0⟩,fun _=>ke.1,fun h=>absurd h h0⟩
  have k2 : e.m.kd = 2 := by
   rcases hf.2.2.2.2 with h | h
   ·exact h
   ·exact absurd h0 h.1
  obtain ⟨z1,z2,z3,z4⟩:=he0 h0
  have hS : uN ⟨p, false, []⟩ e.m = vQ ((⟨p, false, []⟩ : Sq).lay (yG p e.m)) := by
   unfold uN
   rw [if_pos k2]
   unfold infoS
   rw [if_neg (fun h=>h.1 h0),if_neg (not_not_intro h0)]
  rw [hS] at sk ⊢
  rcases cho_ep ((⟨p,false,[]⟩ : Sq).lay (yG p e.m)) with hc | hc
  ·have b := sk.bk
   rw [hc] at b ⊢
   exact stay _ b rfl rfl rfl rfl rfl
  ·refine ⟨⟨sk.bk, by rw [sk.h]; exact hh1, fun h => absurd h hc.ne⟩, fun h => absurd h0 h, fun _ _ => ⟨hc.all, ?_, ?_, hc.ac, ?_⟩⟩
   ·have := hc.up
    rw [<- z3];exact this
   ·rw [hc.ow];exact hb.eq
   ·have hen := hc.en
    unfold yS at hen
    have e1 : ((⟨p,false,[]⟩ : Sq).lay (yG p e.m)).p.h = w.h:=z1
    have e2 : ((⟨p,false,[]⟩ : Sq).lay (yG p e.m)).p.d = ⟨w.h.im.ae,w.h.im.an⟩:=z2
    rw [e1,e2] at hen
    refine allQ_mono (fun x hx=>?_) hen
    rcases mem_setS hx with rfl | ⟨y,hy,rfl⟩
    ·exact List.mem_append_right _ (List.mem_singleton.2 hb.eq)
    ·obtain ⟨u, hu, hi⟩ := hc.has y hy
     exact List.mem_append_left _ (List.mem_map.2 ⟨u,hu,hi⟩)
 split
 ·obtain ⟨b1, b2⟩ := tick_bk hb
  have hT : (wO p).p = tkP p:=by unfold wO;rw [if_pos hb.mo,hb.relay]
  rw [hT] at b1 b2 ⊢
  exact stay _ b1 b2 rfl rfl rfl rfl
 split
 ·obtain ⟨b1, b2⟩ := lost_bk hb e.n
  have hT : lostQ p e.n = { p with ls:=wQ p.ls e.n }:=by unfold lostQ;rw [if_pos hb.mo,wP hb.srt]
  refine stay _ b1 b2 ?_ ?_ ?_ ?_ <;> rw [hT]
 ·rcases prop_sk hb (evT p e) with ⟨h1, h2⟩ | ⟨h1, sk⟩
  ·rw [h2];exact stay p hb rfl rfl rfl rfl rfl
  ·have h3 : ¬ p.ep = 0 := fun h => by
    have h4:=(he0 h).2.2.2
    have h5:=h1.1
    unfold plcQ at h5
    rw [if_neg (fun h=>by have:=h.2;omega)] at h5
    simp at h5
   have ke : Ke p.ep p.ac (uI p (evT p e)) := by
    unfold uI
    rw [if_pos h1]
    refine Ke.com ?_
    unfold Ke
    rw [xS (eachProp_p _ _ _ _)]
    exact ⟨rfl,rfl⟩
   refine ⟨⟨sk.bk,?_,fun h=>absurd (ke.1 ▸ h) h3⟩,fun _=>ke.1,fun h=>absurd h h3⟩
   rw [sk.h]
   exact (hh.snoc (t:=evT p e) ht).mono (by omega)
end Go.Proofs.YtffflakmofbilaaGreat
namespace Go.Proofs.YtffflakmofbilaaGreat
set_option linter.unusedSimpArgs false
set_option linter.unusedVariables false
set_option maxRecDepth 8000
open Go Go.Av
attribute [local irreducible] Go.Av.yA Go.Av.zR Go.Av.xZ Go.Av.zJ Go.Av.xV Go.Av.zG Go.Av.Con
abbrev cA : Cf := ⟨0, 0, 1, [⟨0, 1, 0, 0⟩, ⟨1, 1, 0, 0⟩, ⟨2, 1, 0, 0⟩]⟩
def p0A : Lq := ⟨0, 0, 0, ⟨startS cA, []⟩, ⟨0, 0⟩, 0, 0, 0, 0, 0, []⟩
def mA : Mg := mgZ 1 0 2 0 0 ⟨0, 0⟩ []
def p1A : Lq := begQ p0A
def p2A : Lq := { p1A with ep := 16, ac := 16, ls := [⟨1, 1, 0, 0, [], 0, 0, 0⟩] }
theorem okP0 : OkH p0A.h := ⟨by decide, by decide, by decide, by decide, fun t ht => (by cases ht), by decide⟩
theorem bkP1 : Bk 0 p1A := ⟨rfl, rfl, List.Pairwise.nil, fun y hy => (by cases hy), fun y hy => (by cases hy)⟩
theorem choA : vQ ⟨p1A, false, []⟩ = ⟨p1A, false, []⟩ := by kernel_rfl
theorem hearA : hearS p1A mA = ⟨p2A, false, [yH p2A 1 (mgK 3)]⟩ := by kernel_rfl
theorem start21_con : zB Tryz.prog 32 [.p (.agg [I 0, I 0, I 1, .sl 4 [[I 0, I 1, I 0, I 0], [I 1, I 1, I 0, I 0], [I 2, I 1, I 0, I 0]]])] (.p (.agg [.sl 5 [[SB [47], SB [], I 0, I 0, I 0]], .sl 1 [], I 1, I 0, I 0, I 1, .sl 4 [[I 0, I 1, I 0, I 0], [I 1, I 1, I 0, I 0], [I 2, I 1, I 0, I 0]], I 0, I 0])) :=
 start08_con cA (by unfold okC;decide)
set_option maxHeartbeats 4000000 in
theorem awake21 : zB Tryz.prog 9 [] (.p (B true)) := by
 have c0:=three_con
 have c1:=start21_con
 have c2:=begin_con p0A okP0 (by decide) (fun y hy=>by cases hy)
 rw [show begQ p0A = p1A from rfl,choA] at c2
 have c3:=hear_con p1A mA bkP1 okP0 (by decide)
 rw [hearA] at c3
 unfold sOut at c3
 dsimp only at c2 c3
 rw [show zD [] = [] from rfl] at c2
 rw [show zD [yH p2A 1 (mgK 3)] = [(yH p2A 1 (mgK 3)).cells] from rfl] at c3
 have e0 : p0A.cells = [I 0,I 0,I 0,.sl 5 [[SB [47],SB [],I 0,I 0,I 0]],.sl 1 [],I 1,I 0,I 0,I 1,.sl 4 [[I 0,I 1,I 0,I 0],[I 1,I 1,I 0,I 0],[I 2,I 1,I 0,I 0]],I 0,I 0,.sl 8 [],I 0,I 0,I 0,I 0,I 0,I 0,I 0,I 0,I 0,I 0,I 0,I 0,I 0,I 0,I 0,I 0,I 0,I 0,I 0,.sl 7 [],I 0,I 0,I 0,I 0,.sl 8 []]:=rfl
 have e1 : p1A.cells = [I 0,I 0,I 0,.sl 5 [[SB [47],SB [],I 0,I 0,I 0]],.sl 1 [],I 1,I 0,I 0,I 1,.sl 4 [[I 0,I 1,I 0,I 0],[I 1,I 1,I 0,I 0],[I 2,I 1,I 0,I 0]],I 0,I 0,.sl 8 [],I 0,I 0,I 2,I 0,I 0,I 0,I 0,I 0,I 0,I 0,I 0,I 0,I 0,I 0,I 0,I 0,I 0,I 0,I 0,.sl 7 [],I 0,I 1,I 0,I 0,.sl 8 []]:=rfl
 have e2 : p2A.cells = [I 0,I 16,I 0,.sl 5 [[SB [47],SB [],I 0,I 0,I 0]],.sl 1 [],I 1,I 0,I 0,I 1,.sl 4 [[I 0,I 1,I 0,I 0],[I 1,I 1,I 0,I 0],[I 2,I 1,I 0,I 0]],I 0,I 0,.sl 8 [],I 0,I 0,I 2,I 0,I 0,I 0,I 0,I 0,I 0,I 0,I 0,I 0,I 0,I 0,I 0,I 0,I 0,I 0,I 0,.sl 7 [],I 0,I 1,I 0,I 16,.sl 8 [[I 1,I 1,I 0,I 0,.sl 2 [],I 0,I 0,I 0]]]:=rfl
 have e3 : mA.cells = [I 1,I 0,I 2,I 0,I 0,I 0,I 0,I 0,I 0,I 0,I 0,I 0,I 0,I 0,.sl 2 [],I 0,I 0,I 0,.sl 5 [],.sl 1 [],I 0,I 0,I 0,I 0,.sl 4 [],I 0,I 0,.sl 8 [],I 0,I 0,I 0,I 0,I 0,I 0,SB [],.sl 11 [],.sl 1 [],I 0,I 0,I 0,.sl 6 [],I 0,.sl 4 [],.sl 1 [],I 0,I 0]:=rfl
 have e4 : (yH p2A 1 (mgK 3)).cells = [I 0,I 1,I 3,I 0,I 0,I 0,I 0,I 0,I 0,I 0,I 16,I 0,I 0,I 0,.sl 2 [],I 0,I 0,I 0,.sl 5 [],.sl 1 [],I 0,I 0,I 0,I 0,.sl 4 [],I 0,I 0,.sl 8 [],I 0,I 0,I 0,I 0,I 0,I 0,SB [],.sl 11 [],.sl 1 [],I 0,I 0,I 0,.sl 6 [],I 0,.sl 4 [],.sl 1 [],I 0,I 0]:=rfl
 rw [e0,e1] at c2
 rw [e1,e2,e3,e4] at c3
 refine zK Tryz.tab Tryz.mixed Tryz.func9 rfl rfl Tryz.ntmps9 (by simp) (by simp) fun Q hr hn=>?_
 repeat' first|(refine zR.pure (c0) rfl ?_)|(refine zR.pure (c1) rfl ?_)|(refine zR.pure (c2) rfl ?_)|(refine zR.pure (c3) rfl ?_)|(refine hK _ ?_;clear hK)|(refine zT fun K hK=>?_)|(refine zS ?_;simp only [tZ,tY,strip])|((first | refine wOs fun K hK=>?_ | refine zY ?_);simp)|(refine zL ?_;try simp)|(refine wOn ?_;try simp only [zZ])
 all_goals apply hr
 all_goals simp [Tryz.f9]
end Go.Proofs.YtffflakmofbilaaGreat
namespace Go.Proofs.YtffflakmofbilaaGreat
set_option linter.unusedSimpArgs false
set_option linter.unusedVariables false
open Go Go.Av
attribute [local irreducible] Go.Av.yA Go.Av.zR Go.Av.xZ Go.Av.zJ Go.Av.xV Go.Av.zG Go.Av.Con
end Go.Proofs.YtffflakmofbilaaGreat
namespace Go.Proofs.YtffflakmofbilaaGreat
set_option linter.unusedSimpArgs false
set_option linter.unusedVariables false
set_option maxRecDepth 8000
open Go Go.Av
attribute [local irreducible] Go.Av.yA Go.Av.zR Go.Av.xZ Go.Av.zJ Go.Av.xV Go.Av.zG Go.Av.Con
def pB (p : Lq) : List V := [.p (I p.id), .p (I p.ac), .p (I p.cu), .p (.sl 5 (zns p.h.im.ns)), .p (.sl 1 (ints p.h.im.ss)), .p (I p.h.im.nx), .p (I p.h.im.c.ep), .p (I p.h.im.c.n), .p (I p.h.im.c.kind), .p (.sl 4 (mbs p.h.im.c.ms)), .p (I p.h.im.ae), .p (I p.h.im.an), .p (.sl 8 (yW p.h.lg)), .p (I p.d.e), .p (I p.d.n), .p (I p.mo), .p (I 0), .p (I 0), .p (I 0), .p (I 0), .p (I 0), .p (I 0), .p (I 0), .p (I 0), .p (I 0), .p (I 0), .p (I 0), .p (I 0), .p (I 0), .p (I 0), .p (I 0), .p (I 0), .p (.sl 7 []), .p (I p.ld), .p (I p.ph), .p (I p.wt), .p (I p.ep), .p (.sl 8 (lrs p.ls))]
def wB (w : Wh) : List V := [.p (I w.id), .p (I w.ac), .p (I w.cu), .p (.sl 5 (zns w.h.im.ns)), .p (.sl 1 (ints w.h.im.ss)), .p (I w.h.im.nx), .p (I w.h.im.c.ep), .p (I w.h.im.c.n), .p (I w.h.im.c.kind), .p (.sl 4 (mbs w.h.im.c.ms)), .p (I w.h.im.ae), .p (I w.h.im.an), .p (.sl 8 (yW w.h.lg))]
theorem begin_inv {w : Wh} (hm : mayW w) : InvE w 0 (vQ ⟨begQ (beg w), false, []⟩).p := by
 have hb:=near_HB hm.2.2.2.1
 have bk : Bk w.id (begQ (beg w)):=⟨rfl,rfl,List.Pairwise.nil,fun y hy=>(by cases hy),fun y hy=>(by cases hy)⟩
 have sk : Sk w.id w.h ⟨begQ (beg w),false,[]⟩:=⟨bk,rfl⟩
 have sk2:=sk.cho
 refine ⟨sk2.bk,by rw [sk2.h];exact hb,fun h=>?_⟩
 rcases cho_ep ⟨begQ (beg w),false,[]⟩ with hc | hc
 ·rw [hc];exact ⟨rfl,rfl,rfl,rfl⟩
 ·exact absurd h hc.ne
end Go.Proofs.YtffflakmofbilaaGreat
namespace Go.Proofs.YtffflakmofbilaaGreat
set_option linter.unusedSimpArgs false
set_option linter.unusedVariables false
open Go Go.Av
def cle (a b : Zx) : Prop := a.e < b.e \/ (a.e = b.e /\ a.n <= b.n)
theorem xP (a : Zx) : cle a a := .inr ⟨rfl, by omega⟩
theorem yC {a b c : Zx} (h : cle a b) (k : cle b c) : cle a c := by unfold cle at *; omega
theorem cle_lt {a b : Zx} (h : zlt a b) : cle a b := by rw [zlt_iff] at h; unfold cle; omega
theorem cmp_cle {a b : Zx} (h : ¬ xN b.e b.n a.e a.n <= 0) : cle a b := by
 rw [zcmp_spec] at h
 unfold cle
 split at h
 ·omega
 ·split at h
  ·omega
  ·omega
theorem mks_ne (h : Hy) : mks h ≠ [] := by simp [mks]
theorem lastH_eq (h : Hy) : zA h = (mks h).getLast (mks_ne h) := by
 unfold zA mks
 split
 ·rename_i h0
  have : h.lg = []:=List.length_eq_zero_iff.1 h0
  simp [this]
 ·rename_i h0
  have hne : h.lg ≠ []:=fun e=>h0 (by rw [e];rfl)
  have hm : (h.lg.map fun t=>(⟨t.e,t.n⟩ : Zx)) ≠ []:=by simpa using hne
  rw [List.getLast_cons hm,List.getLast_map]
  have hlt : h.lg.length - 1 < h.lg.length:=by omega
  have : h.lg.getD (h.lg.length - 1) tx0 = h.lg.getLast hne := by
   rw [List.getLast_eq_getElem,List.getD_eq_getElem?_getD,List.getElem?_eq_getElem hlt];rfl
  rw [this]
theorem lastH_mem (h : Hy) : zA h ∈ mks h := by rw [lastH_eq]; exact List.getLast_mem _
theorem lastH_max {h : Hy} (hr : yK (mks h) = true) {z : Zx} (hz : z ∈ mks h) : cle z (zA h) := by
 rw [lastH_eq]
 have hp:=rises_pw hr
 rw [<- List.dropLast_concat_getLast (mks_ne h)] at hp hz
 rw [List.pairwise_append] at hp
 rcases List.mem_append.1 hz with h1 | h1
 ·exact cle_lt (hp.2.2 z h1 _ (List.mem_singleton.2 rfl))
 ·rw [List.mem_singleton.1 h1];exact xP _
theorem mks_snoc (h : Hy) (t : Tx) : mks { h with lg := h.lg ++ [t] } = mks h ++ [⟨t.e, t.n⟩] := by simp [mks]
theorem rises_snoc {h : Hy} {t : Tx} (hr : yK (mks h) = true) (hg : growOk h [t] = true) : yK (mks { h with lg := h.lg ++ [t] }) = true := by
 rw [mks_snoc]
 refine pw_rises ?_
 rw [List.pairwise_append]
 refine ⟨rises_pw hr,List.pairwise_singleton _ _,fun a ha b hb=>?_⟩
 rw [List.mem_singleton.1 hb]
 have hm:=lastH_max hr ha
 unfold growOk follows at hg
 split at hg
 ·cases hg
 ·rename_i hc
  have : zlt (zA h) ⟨t.e, t.n⟩ := by
   rw [zlt_iff]
   rw [zcmp_spec] at hc
   split at hc
   ·omega
   ·split at hc
    ·omega
    ·simp only;omega
  rw [zlt_iff] at this ⊢
  unfold cle at hm
  omega
theorem comF_facts (h : Hy) (self : Int) (ls : List Lr) (M : List Zx) : ∀ (l : List Tx) (k : Nat) (e n : Int), (∀ t ∈ l, (⟨t.e, t.n⟩ : Zx) ∈ M) -> (⟨e, n⟩ : Zx) ∈ M →
 (⟨(comF h self ls l k e n).1,(comF h self ls l k e n).2⟩ : Zx) ∈ M /\ cle ⟨e,n⟩ ⟨(comF h self ls l k e n).1,(comF h self ls l k e n).2⟩
 | [],k,e,n,_,hm=>⟨hm,xP _⟩
 | t :: r, k, e, n, hl, hm => by
  unfold comF
  split
  ·exact comF_facts h self ls M r (k + 1) e n (fun x hx=>hl x (List.mem_cons_of_mem _ hx)) hm
  ·rename_i hc
   split
   ·obtain ⟨h1, h2⟩ := comF_facts h self ls M r (k + 1) t.e t.n (fun x hx => hl x (List.mem_cons_of_mem _ hx)) (hl t List.mem_cons_self)
    exact ⟨h1,yC (cmp_cle (a:=⟨e,n⟩) (b:=⟨t.e,t.n⟩) hc) h2⟩
   ·exact ⟨hm,xP _⟩
theorem comZ_facts {p : Lq} (hm : p.d ∈ mks p.h) : uV p ∈ mks p.h /\ cle p.d (uV p) :=
 comF_facts p.h p.id p.ls (mks p.h) p.h.lg 0 p.d.e p.d.n (fun t ht=>by simp only [mks,List.mem_cons,List.mem_map];exact .inr ⟨t,ht,rfl⟩) hm
structure DoneQ (p q : Lq) : Prop where
 up : cle p.d q.d
 mem : q.d ∈ mks q.h
 c4 : ¬ q.d = p.d -> q.ph = 3 -> p.ph = 3 -> comF q.h q.id q.ls q.h.lg 0 p.d.e p.d.n = (q.d.e,q.d.n)
 c5 : q.ph = 3 -> p.ph = 2 -> allQ (yX q.h p.d.e p.d.n) (xC q.id 4 (zA q.h).e (zA q.h).n q.ls) = true
theorem DoneQ.same {p q : Lq} (h1 : q.d = p.d) (h2 : q.ph = p.ph) (h3 : p.d ∈ mks q.h) : DoneQ p q :=
 ⟨by rw [h1];exact xP _,by rw [h1];exact h3,fun h=>absurd h1 h,fun h h'=>by rw [h2,h'] at h;exact absurd h (by decide)⟩
theorem DoneQ.one {p q : Lq} (h1 : cle p.d q.d) (h2 : q.d ∈ mks q.h) (h3 : p.ph = 1) : DoneQ p q :=
 ⟨h1,h2,fun _ _ h=>by rw [h3] at h;exact absurd h (by decide),fun _ h=>by rw [h3] at h;exact absurd h (by decide)⟩
theorem stay_p (s : Sq) : (vD s).p = s.p := by unfold vD; split <;> rfl
theorem com_done {p : Lq} {s : Sq} (h1 : s.p.d = p.d) (h2 : s.p.ph = p.ph) (h3 : p.d ∈ mks s.p.h) : DoneQ p (comS s).p := by
 unfold comS
 split
 ·exact .same h1 h2 h3
 ·rename_i hne
  obtain ⟨f1,f2⟩:=comZ_facts (p:=s.p) (by rw [h1];exact h3)
  simp only [stay_p,xS (eachCom_p _ _ _)]
  refine ⟨by rw [<- h1];exact f2,f1,fun _ _ _=>?_,fun h h'=>?_⟩
  ·show comF s.p.h s.p.id s.p.ls s.p.h.lg 0 p.d.e p.d.n = _
   rw [<- h1];rfl
  ·have : s.p.ph = 3 := h
   rw [h2,h'] at this;exact absurd this (by decide)
theorem setS_lay {self e n : Int} {l : List Lr} {x : Lr} (hs : Srt l) (hx : x.ph < 4) (hy : ∀ y ∈ l, y.id = x.id -> y.ph < 4) : xC self 4 e n (xK l x) = xC self 4 e n l := by
 unfold xC
 rw [filter_lay _ hs (decide_eq_false fun h=>by have:=h.2.1;omega) fun y hym hi=>decide_eq_false fun h=>by have:=hy y hym hi;have:=h.2.1;omega]
structure Pl (me : Int) (s t : Sq) : Prop where
 h : t.p.h = s.p.h
 d : t.p.d = s.p.d
 ph : t.p.ph = s.p.ph
 id : t.p.id = s.p.id
 srt : Srt t.p.ls
 set : ∀ e n,xC me 4 e n t.p.ls = xC me 4 e n s.p.ls
 low : ∀ y ∈ t.p.ls,y ∈ s.p.ls \/ (y.ph = 3 /\ ∃ x ∈ s.p.ls,x.id = y.id /\ x.ph = 2)
theorem Pl.refl {self : Int} {s : Sq} (hs : Srt s.p.ls) : Pl self s s := ⟨rfl, rfl, rfl, rfl, hs, fun _ _ => rfl, fun y hy => .inl hy⟩
theorem Pl.plan {self : Int} {s t : Sq} (k : Pl self s t) (hs : Srt s.p.ls) {x : Lr} (hx : x ∈ s.p.ls) (h2 : x.ph = 2) : Pl self s (vB t x) := by
 have hy : ∀ y ∈ t.p.ls, y.id = x.id -> y.ph < 4 := fun y hy hi => by
  rcases k.low y hy with h | ⟨h,-⟩
  ·rw [srt_uniq hs h hx hi,h2];decide
  ·omega
 refine ⟨k.h,k.d,k.ph,k.id,srt_lay k.srt,fun e n=>?_,fun y hy2=>?_⟩
 ·show xC self 4 e n (xK t.p.ls { x with ph := 3 }) = _
  rw [setS_lay (x:={ x with ph:=3 }) k.srt (show (3 : Int) < 4 by decide) hy,k.set]
 ·rcases vJ.1 hy2 with rfl | ⟨h, -⟩
  ·exact .inr ⟨rfl,x,hx,rfl,h2⟩
  ·exact k.low y h
theorem Pl.plans {self : Int} {s : Sq} (hs : Srt s.p.ls) {l : List Lr} (hl : ∀ x ∈ l, x ∈ s.p.ls) : Pl self s (l.foldl xW s) :=
 foldB (R := Pl self s) l s (fun t x hx k => by
  unfold xW
  split
  ·rename_i h2;exact k.plan hs (hl x hx) h2
  ·exact k) (.refl hs)
theorem Pl.plansV {self : Int} {s : Sq} (hs : Srt s.p.ls) (v : List Int) {l : List Lr} (hl : ∀ x ∈ l, x ∈ s.p.ls) : Pl self s (l.foldl (yO v) s) :=
 foldB (R := Pl self s) l s (fun t x hx k => by
  unfold yO
  split
  ·rename_i h2;exact k.plan hs (hl x hx) h2.1
  ·exact k) (.refl hs)
theorem ready_p (z : Zx) (l : List Lr) (s : Sq) : (l.foldl (xX z) s).p = s.p := xS (wM z) l s
theorem est_eq (s : Sq) (h : yS s.p (xC s.p.id 4 (zA s.p.h).e (zA s.p.h).n s.p.ls) = true) : ∃ T : Sq, T.p = { s.p with ph := 3, wt := 0, d := zA s.p.h } /\ estS s = vD ((T.p.ls.foldl (xX (zA s.p.h)) T).p.ls.foldl xW (T.p.ls.foldl (xX (zA s.p.h)) T)) := by
 refine ⟨{ s with p:={ s.p with ph:=3,wt:=0,d:=zA s.p.h } },rfl,?_⟩
 rw [ready_p]
 unfold estS
 rw [if_pos h]
theorem est_facts {s : Sq} (hs : Srt s.p.ls) : (estS s).p = s.p \/ ((estS s).p.d = zA s.p.h /\ (estS s).p.h = s.p.h /\ (estS s).p.ph = 3 /\ (estS s).p.id = s.p.id /\ yS s.p (xC s.p.id 4 (zA s.p.h).e (zA s.p.h).n s.p.ls) = true /\ ∀ e n, xC s.p.id 4 e n (estS s).p.ls = xC s.p.id 4 e n s.p.ls) := by
 by_cases hq : yS s.p (xC s.p.id 4 (zA s.p.h).e (zA s.p.h).n s.p.ls) = true
 ·refine .inr ?_
  obtain ⟨T,hTp,hE⟩:=est_eq s hq
  rw [hE,stay_p]
  have hrp:=ready_p (zA s.p.h) T.p.ls T
  generalize T.p.ls.foldl (xX (zA s.p.h)) T = U at *
  have hs2 : Srt U.p.ls:=by rw [hrp,hTp];exact hs
  have k:=Pl.plans (self:=s.p.id) (s:=U) hs2 (l:=U.p.ls) (fun x hx=>hx)
  refine ⟨by rw [k.d,hrp,hTp],by rw [k.h,hrp,hTp],by rw [k.ph,hrp,hTp],by rw [k.id,hrp,hTp],hq,fun e n=>by rw [k.set,hrp,hTp]⟩
 ·left
  unfold estS
  rw [if_neg hq]
theorem gath_eq (s : Sq) (h : ¬ s.p.ep = 0 /\ yS s.p (xC s.p.id 2 0 0 s.p.ls) = true) : ∃ T : Sq, T.p = { s.p with ph := 2, wt := 0, cu := s.p.ep } /\ xJ s = estS (T.p.ls.foldl (yO (zI T.p)) T) := by
 refine ⟨{ s with p:={ s.p with ph:=2,wt:=0,cu:=s.p.ep } },rfl,?_⟩
 unfold xJ
 rw [if_pos h]
theorem gath_facts {s : Sq} (hs : Srt s.p.ls) (hr : yK (mks s.p.h) = true) (hm : s.p.d ∈ mks s.p.h) : cle s.p.d (xJ s).p.d /\ (xJ s).p.d ∈ mks (xJ s).p.h /\ (xJ s).p.h = s.p.h := by
 by_cases hq : ¬ s.p.ep = 0 /\ yS s.p (xC s.p.id 2 0 0 s.p.ls) = true
 ·obtain ⟨T, hTp, hE⟩ := gath_eq s hq
  rw [hE]
  have k:=Pl.plansV (self:=s.p.id) (s:=T) (by rw [hTp];exact hs) (zI T.p) (l:=T.p.ls) (fun x hx=>hx)
  generalize T.p.ls.foldl (yO (zI T.p)) T = U at *
  have hd : U.p.d = s.p.d:=by rw [k.d,hTp]
  have hh : U.p.h = s.p.h:=by rw [k.h,hTp]
  rcases est_facts (s:=U) k.srt with h | ⟨h1,h2,-⟩
  ·rw [h,hd,hh];exact ⟨xP _,hm,rfl⟩
  ·rw [h1,h2,hh];exact ⟨lastH_max hr hm,lastH_mem _,rfl⟩
 ·unfold xJ
  rw [if_neg hq]
  exact ⟨xP _,hm,rfl⟩
theorem epoch_p (l : List Lr) (s : Sq) : (l.foldl yD s).p = s.p := xS vY l s
theorem cho_eq (s : Sq) (h : yS s.p (xC s.p.id 1 0 0 s.p.ls) = true) (h2 : uR (wG s.p) s.p.id = 0) : ∃ T : Sq, T.p = { s.p with ep := xU (wG s.p) s.p.id, ac := xU (wG s.p) s.p.id } /\ vQ s = xJ (T.p.ls.foldl yD T) := by
 refine ⟨{ s with p:={ s.p with ep:=xU (wG s.p) s.p.id,ac:=xU (wG s.p) s.p.id } },rfl,?_⟩
 unfold vQ
 rw [if_pos h,if_pos h2]
theorem cho_facts {s : Sq} (hs : Srt s.p.ls) (hr : yK (mks s.p.h) = true) (hm : s.p.d ∈ mks s.p.h) : cle s.p.d (vQ s).p.d /\ (vQ s).p.d ∈ mks (vQ s).p.h /\ (vQ s).p.h = s.p.h := by
 by_cases hq : yS s.p (xC s.p.id 1 0 0 s.p.ls) = true
 ·by_cases hf : uR (wG s.p) s.p.id = 0
  ·obtain ⟨T, hTp, hE⟩ := cho_eq s hq hf
   rw [hE]
   have hep:=epoch_p T.p.ls T
   have:=gath_facts (s:=T.p.ls.foldl yD T) (by rw [hep,hTp];exact hs) (by rw [hep,hTp];exact hr) (by rw [hep,hTp];exact hm)
   have hd : T.p.d = s.p.d:=by rw [hTp]
   have hh : T.p.h = s.p.h:=by rw [hTp]
   rw [hep,hd,hh] at this
   exact this
  ·unfold vQ
   rw [if_pos hq,if_neg hf]
   exact ⟨xP _,hm,rfl⟩
 ·unfold vQ
  rw [if_neg hq]
  exact ⟨xP _,hm,rfl⟩
theorem ackD_facts (s : Sq) (m : Mg) (hm : s.p.d ∈ mks s.p.h) : cle s.p.d (uA s m).p.d /\ (uA s m).p.d ∈ mks s.p.h /\ (uA s m).p.h = s.p.h /\ (uA s m).p.ls = s.p.ls := by
 unfold uA
 split
 ·rename_i hc
  exact ⟨cmp_cle (a:=s.p.d) (b:=m.z) (by omega),hc.2,rfl,rfl⟩
 ·exact ⟨xP _,hm,rfl,rfl⟩
theorem do_done {id : Int} {p : Lq} {m : Mg} (hb : Bk id p) (hr : yK (mks p.h) = true) (hm : p.d ∈ mks p.h) (h0 : p.ep = 0 -> p.ph = 1) (hf : 0 <= m.fr /\ m.fr < 16 /\ ¬ m.fr = id) (hms : m.ms.length <= 1000000) : DoneQ p (uN ⟨p, false, []⟩ m).p := by
 have hlay : ∀ x : Lr,Srt (xK p.ls x):=fun x=>srt_lay hb.srt
 have same0 : DoneQ p p:=.same rfl rfl hm
 unfold uN
 split
 ·unfold infoS
  split
  ·exact same0
  ·split
   ·exact .same rfl rfl hm
   ·rename_i he
    have h1:=h0 (by simpa using he)
    obtain ⟨f1,f2,f3⟩:=cho_facts (s:=(⟨p,false,[]⟩ : Sq).lay (yG p m)) (hlay _) hr hm
    exact .one f1 f2 h1
 split
 ·unfold uB
  split
  ·exact same0
  ·split
   ·rename_i h1
    obtain ⟨a1,a2,a3,a4⟩:=ackD_facts ⟨p,false,[]⟩ m hm
    split
    ·exact .one a1 (by rw [a3];exact a2) h1
    ·obtain ⟨f1, f2, f3⟩ := gath_facts (s := (uA ⟨p, false, []⟩ m).lay (ackX p m)) (by show Srt (xK (uA ⟨p, false, []⟩ m).p.ls _); rw [a4]; exact hlay _) (by show yK (mks (uA ⟨p, false, []⟩ m).p.h) = true; rw [a3]; exact hr) (by show (uA ⟨p, false, []⟩ m).p.d ∈ mks (uA ⟨p, false, []⟩ m).p.h; rw [a3]; exact a2)
     exact .one (yC a1 f1) f2 h1
   ·split
    ·exact .same rfl rfl hm
    ·exact .same rfl rfl hm
 split
 ·unfold syncS
  split
  ·exact same0
  ·split
   ·rename_i h2
    have hsr:=hlay (syncX p m)
    rcases est_facts (s:=(⟨p,false,[]⟩ : Sq).lay (syncX p m)) hsr with h | ⟨d1,d2,d3,d4,d5,d6⟩
    ·rw [h];exact .same rfl rfl hm
    ·refine ⟨?_, ?_, fun _ _ h => ?_, fun _ _ => ?_⟩
     ·rw [d1];exact lastH_max hr hm
     ·rw [d1,d2];exact lastH_mem _
     ·have : p.ph = 2 := h2
      rw [this] at h;exact absurd h (by decide)
     ·rw [d2,d4,d6];exact d5
   ·split
    ·exact com_done rfl rfl hm
    ·exact .same rfl rfl hm
 split
 ·unfold ackdS
  split
  ·exact same0
  ·split
   ·exact com_done rfl rfl hm
   ·exact .same rfl rfl hm
 split
 ·exact .same rfl rfl hm
 ·exact same0
theorem act_done {id : Int} {p : Lq} {e : Ev21} (hb : Bk id p) (hr : yK (mks p.h) = true) (hm : p.d ∈ mks p.h) (h0 : p.ep = 0 -> p.ph = 1) (hms : e.m.ms.length <= 1000000) :
 DoneQ p (actS p e).p /\ yK (mks (actS p e).p.h) = true /\ p.h.lg.length <= (actS p e).p.h.lg.length /\ (actS p e).p.h.lg.take p.h.lg.length = p.h.lg:=by
 have keep : ∀ q : Lq, q.h = p.h -> yK (mks q.h) = true /\ p.h.lg.length <= q.h.lg.length /\ q.h.lg.take p.h.lg.length = p.h.lg := fun q h => by
  rw [h];exact ⟨hr,Nat.le_refl _,List.take_length⟩
 have same0 : DoneQ p p:=.same rfl rfl hm
 unfold actS
 split
 ·have sk := hear_sk hb hms
  refine ⟨?_,keep _ sk.h⟩
  have hE : hearS p e.m = if p.mo = 2 /\ concQ (yQ p) e.m then uN ⟨yQ p,false,[]⟩ e.m else ⟨yQ p,false,[]⟩:=rfl
  rw [hE,hb.relay]
  split
  ·rename_i hf
   exact do_done hb hr hm h0 ⟨hf.2.2.1,hf.2.2.2.1,fun h=>hf.2.1 (by rw [h];exact hb.eq.symm)⟩ hms
  ·exact same0
 split
 ·have hk := tick_bk hb
  refine ⟨?_,keep _ hk.2⟩
  unfold wO
  rw [if_pos hb.mo,hb.relay]
  exact .same rfl rfl hm
 split
 ·have hk := lost_bk hb e.n
  refine ⟨?_,keep _ hk.2⟩
  show DoneQ p (lostQ p e.n)
  unfold lostQ
  rw [if_pos hb.mo]
  exact .same rfl rfl hm
 ·rcases prop_sk hb (evT p e) with ⟨-, h⟩ | ⟨hok, sk⟩
  ·rw [h];exact ⟨same0,keep p rfl⟩
  ·refine ⟨?_, ?_, ?_, ?_⟩
   ·unfold uI
    rw [if_pos hok]
    refine com_done ?_ ?_ ?_
    ·rw [xS (eachProp_p _ _ _ _)];rfl
    ·rw [xS (eachProp_p _ _ _ _)];rfl
    ·rw [xS (eachProp_p _ _ _ _)]
     show p.d ∈ mks { p.h with lg:=p.h.lg ++ [evT p e] }
     rw [mks_snoc];exact List.mem_append_left _ hm
   ·rw [sk.h];exact rises_snoc hr hok.2.2
   ·rw [sk.h];simp
   ·rw [sk.h];simp
theorem plc_of {z : Zx} : ∀ (l : List Zx) (k : Nat), z ∈ l -> ∃ n, plc z l k = some n
 | [],_,h=>by cases h
 | a :: l, k, h => by
  unfold plc
  by_cases o : a = z
  ·exact ⟨k,by simp [o]⟩
  ·rcases List.mem_cons.1 h with h | h
   ·exact absurd h.symm o
   ·obtain ⟨n, hn⟩ := plc_of l (k + 1) h
    exact ⟨n,by simp [o,hn]⟩
end Go.Proofs.YtffflakmofbilaaGreat
namespace Go.Proofs.YtffflakmofbilaaGreat
set_option linter.unusedSimpArgs false
set_option linter.unusedVariables false
open Go Go.Av
attribute [local irreducible] Go.Av.yA Go.Av.zR Go.Av.xZ Go.Av.zJ Go.Av.xV Go.Av.zG Go.Av.Con
end Go.Proofs.YtffflakmofbilaaGreat
namespace Go.Proofs.YtffflakmofbilaaGreat
set_option linter.unusedSimpArgs false
set_option linter.unusedVariables false
set_option maxRecDepth 8000
open Go Go.Av
attribute [local irreducible] Go.Av.yA Go.Av.zR Go.Av.xZ Go.Av.zJ Go.Av.xV Go.Av.zG Go.Av.Con
theorem begin_done {w : Wh} (hm : mayW w) : yK (mks (vQ ⟨begQ (beg w), false, []⟩).p.h) = true /\ (vQ ⟨begQ (beg w), false, []⟩).p.d ∈ mks (vQ ⟨begQ (beg w), false, []⟩).p.h := by
 have hd : (beg w).d ∈ mks (beg w).h:=List.mem_cons_self
 obtain ⟨-,h2,h3⟩:=cho_facts (s:=⟨begQ (beg w),false,[]⟩) List.Pairwise.nil hm.2.2.2.2.1 hd
 exact ⟨by rw [h3];exact hm.2.2.2.2.1,h2⟩
end Go.Proofs.YtffflakmofbilaaGreat
namespace Go.Proofs.YtffflakmofbilaaGreat
set_option linter.unusedSimpArgs false
set_option linter.unusedVariables false
open Go Go.Av
abbrev tAt (t : Tx) : Zx := ⟨t.e, t.n⟩
def zat (L : List Zx) (i : Int) : Zx := L.getD i.toNat ⟨0, 0⟩
theorem zat_set {L : List Zx} {i j : Int} (z : Zx) (hi : 0 <= i /\ i < L.length) (hj : 0 <= j) : zat (L.set i.toNat z) j = if j = i then z else zat L j := by
 unfold zat
 rw [List.getD_eq_getElem?_getD,List.getElem?_set,List.getD_eq_getElem?_getD]
 by_cases h : j = i
 ·subst h;rw [if_pos rfl,if_pos (by omega),if_pos rfl];rfl
 ·have : ¬ i.toNat = j.toNat := by omega
  rw [if_neg this,if_neg h]
def bfL (pm : Zx) : List Zx -> Zx -> Option Zx
 | [],_=>none
 | a :: r,z=>if a = z then some pm else bfL a r z
def befH (h : Hy) (z : Zx) : Option Zx := bfL ⟨h.im.ae, h.im.an⟩ (h.lg.map tAt) z
def endPl (m : Mg) : Zx := match m.pl.getLast? with
 | some t=>tAt t
 | none=>if m.pk = 3 then ⟨m.pim.ae,m.pim.an⟩ else m.pz
def goL (L : List Zx) (m : Mg) : List Zx := if m.kd = 5 then L.set m.to.toNat (endPl m) else if m.kd = 8 \/ m.kd = 11 then L.set m.to.toNat (uO [zat L m.to, tAt m.tx]) else L
structure OkM (id ep : Int) (h : Hy) (L : List Zx) (m : Mg) : Prop where
 fr : m.fr = id
 to : 0 <= m.to /\ m.to < 16 /\ ¬ m.to = id
 ep : m.ep = ep
 bf : m.kd = 8 \/ m.kd = 11 -> ∃ z,befH h (tAt m.tx) = some z /\ cle z (zat L m.to)
 pl : m.pl.length <= h.lg.length
def OkMs (id ep : Int) (h : Hy) : List Zx -> List Mg -> Prop
 | _,[]=>True
 | L,m :: r=>OkM id ep h L m /\ OkMs id ep h (goL L m) r
def xB (L : List Zx) (o : List Mg) : List Zx := o.foldl goL L
theorem vK (L : List Zx) (o o' : List Mg) : xB L (o ++ o') = xB (xB L o) o' := List.foldl_append
theorem OkMs.append {id ep : Int} {h : Hy} {o' : List Mg} : ∀ {o : List Mg} {L : List Zx}, OkMs id ep h L o -> OkMs id ep h (xB L o) o' -> OkMs id ep h L (o ++ o')
 | [],_,_,k=>k
 | _ :: _,_,a,k=>⟨a.1,OkMs.append a.2 k⟩
theorem goL_len (L : List Zx) (m : Mg) : (goL L m).length = L.length := by
 unfold goL
 split
 ·simp
 ·split <;> simp
theorem runL_len : ∀ (o : List Mg) (L : List Zx), (xB L o).length = L.length
 | [],_=>rfl
 | m :: o, L => by
  show (xB (goL L m) o).length = _
  rw [runL_len o,goL_len]
theorem lastZ_two (a b : Zx) : cle a (uO [a, b]) /\ cle b (uO [a, b]) := by
 show cle a (if 0 < xN b.e b.n a.e a.n then b else a) /\ cle b (if 0 < xN b.e b.n a.e a.n then b else a)
 rw [zcmp_spec]
 unfold cle
 repeat' split
 all_goals omega
theorem cle_of {a b : Zx} (h : ¬ 0 < xN a.e a.n b.e b.n) : cle a b := by
 rw [zcmp_spec] at h
 unfold cle
 split at h
 ·omega
 ·split at h <;> omega
theorem zcmp_le {a b : Zx} (h : cle a b) : xN a.e a.n b.e b.n <= 0 := by
 rw [zcmp_spec]
 unfold cle at h
 repeat' split
 all_goals omega
theorem not_lt {a b : Zx} (h : cle a b) : ¬ zlt b a := by rw [zlt_iff]; unfold cle at h; omega
theorem bfL_at : ∀ (A : List Zx) (pm b : Zx) (R : List Zx), b ∉ A -> bfL pm (A ++ b :: R) b = some ((pm :: A).getLast (by simp))
 | [],pm,b,R,_=>by simp [bfL]
 | a :: A, pm, b, R, h => by
  have h1 : ¬ a = b:=fun e=>h (by simp [e])
  show (if a = b then some pm else bfL a (A ++ b :: R) b) = _
  rw [if_neg h1,bfL_at A a b R (fun e=>h (List.mem_cons_of_mem _ e))]
  exact congrArg some (List.getLast_cons (by simp)).symm
theorem bef_at {h : Hy} (hr : yK (mks h) = true) {a r : List Tx} {t : Tx} (hl : h.lg = a ++ t :: r) : befH h (tAt t) = some (zA { h with lg := a }) := by
 have hp:=rises_pw hr
 unfold mks at hp
 rw [hl,List.map_append,tZ] at hp
 have hp2:=(List.pairwise_cons.1 hp).2
 rw [List.pairwise_append] at hp2
 unfold befH
 rw [hl,List.map_append,tZ,bfL_at,lastH_eq]
 ·rfl
 ·intro hm
  exact not_lt (xP (tAt t)) (hp2.2.2 _ hm _ List.mem_cons_self)
theorem lastH_snoc (h : Hy) (a : List Tx) (t : Tx) : zA { h with lg := a ++ [t] } = tAt t := by
 rw [lastH_eq]
 have:=mks_snoc { h with lg:=a } t
 simp only [this]
 simp
theorem run_to {L : List Zx} {m : Mg} (hk : m.kd = 8 \/ m.kd = 11) (ht : 0 <= m.to /\ m.to < 16) (hL : L.length = 16) {j : Int} (hj : 0 <= j) : zat (goL L m) j = if j = m.to then uO [zat L m.to, tAt m.tx] else zat L j := by
 unfold goL
 rw [if_neg (by omega),if_pos hk,zat_set _ (by omega) hj]
theorem run_up {L : List Zx} {m : Mg} (hk : m.kd = 8 \/ m.kd = 11) (ht : 0 <= m.to /\ m.to < 16) (hL : L.length = 16) {j : Int} (hj : 0 <= j) : cle (zat L j) (zat (goL L m) j) := by
 rw [run_to hk ht hL hj]
 split
 ·rename_i h;rw [h];exact (lastZ_two _ _).1
 ·exact xP _
theorem each_run {p : Lq} {h : Hy} {kd to : Int} {d z : Zx} (hkd : kd = 8 \/ kd = 11) (ht : 0 <= to /\ to < 16 /\ ¬ to = p.id) (hr : yK (mks h) = true) : ∀ (r a : List Tx) (L : List Zx), L.length = 16 -> h.lg = a ++ r -> cle (zA { h with lg := a }) (zat L to) -> cle d (zat L to) →
 OkMs p.id p.ep h L (vZ p to kd (wR d.e d.n z.e z.n r)) /\ (∀ j,0 <= j -> cle (zat L j) (zat (xB L (vZ p to kd (wR d.e d.n z.e z.n r))) j)) /\ ∀ t ∈ r,cle (tAt t) z -> cle (tAt t) (zat (xB L (vZ p to kd (wR d.e d.n z.e z.n r))) to)
 | [],a,L,_,_,_,_=>⟨trivial,fun _ _=>xP _,fun _ h=>by cases h⟩
 | t :: r, a, L, hL, hl, hp, hd => by
  have hl2 : h.lg = (a ++ [t]) ++ r:=by rw [hl];simp
  have hrest : ∀ u ∈ r, zlt (tAt t) (tAt u) := fun u hu => by
   have hp:=rises_pw hr
   unfold mks at hp
   rw [hl,List.map_append,tZ] at hp
   have hp2:=(List.pairwise_cons.1 hp).2
   rw [List.pairwise_append] at hp2
   exact (List.pairwise_cons.1 hp2.2.1).1 _ (List.mem_map.2 ⟨u,hu,rfl⟩)
  by_cases hin : 0 < xN t.e t.n d.e d.n /\ xN t.e t.n z.e z.n <= 0
  ·have e : wR d.e d.n z.e z.n (t :: r) = t :: wR d.e d.n z.e z.n r := by unfold wR; rw [List.filter_cons, if_pos (decide_eq_true hin)]
   rw [e]
   generalize hm : yH p to { mgZ 0 0 kd 0 0 ⟨0,0⟩ [] with tx:=t } = m
   have em : vZ p to kd (t :: wR d.e d.n z.e z.n r) = m :: vZ p to kd (wR d.e d.n z.e z.n r):=by rw [<- hm];rfl
   have mk : m.kd = 8 \/ m.kd = 11:=by rw [<- hm];exact hkd
   have mt : m.to = to:=by rw [<- hm];rfl
   have mx : m.tx = t:=by rw [<- hm];rfl
   have mf : m.fr = p.id:=by rw [<- hm];rfl
   have me : m.ep = p.ep:=by rw [<- hm];rfl
   have ml : m.pl.length <= h.lg.length:=by rw [<- hm];exact Nat.zero_le _
   rw [em]
   have up:=fun {j : Int} (hj : 0 <= j)=>run_up (L:=L) (m:=m) mk (by rw [mt];exact ⟨ht.1,ht.2.1⟩) hL hj
   have hto:=run_to (L:=L) (m:=m) mk (by rw [mt];exact ⟨ht.1,ht.2.1⟩) hL ht.1
   rw [mt,if_pos rfl,mx] at hto
   obtain ⟨i1,i2,i3⟩:=each_run (kd:=kd) (d:=d) (z:=z) hkd ht hr r (a ++ [t]) (goL L m) (by rw [goL_len];exact hL) hl2 (by rw [lastH_snoc,hto];exact (lastZ_two _ _).2) (yC hd (up ht.1))
   refine ⟨⟨⟨mf,by rw [mt];exact ht,me,fun _=>⟨_,by rw [mx];exact bef_at hr hl,by rw [mt];exact hp⟩,ml⟩,i1⟩,fun j hj=>yC (up hj) (i2 j hj),fun u hu hz=>?_⟩
   rcases List.mem_cons.1 hu with rfl | hu
   ·refine yC ?_ (i2 to ht.1)
    rw [hto];exact (lastZ_two _ _).2
   ·exact i3 u hu hz
  ·have e : wR d.e d.n z.e z.n (t :: r) = wR d.e d.n z.e z.n r := by unfold wR; rw [List.filter_cons, if_neg (by simpa using fun h1 => Int.not_le.1 fun h2 => hin ⟨h1, h2⟩)]
   rw [e]
   by_cases htd : cle (tAt t) d
   ·obtain ⟨i1, i2, i3⟩ := each_run (kd := kd) (d := d) (z := z) hkd ht hr r (a ++ [t]) L hL hl2 (by rw [lastH_snoc]; exact yC htd hd) hd
    refine ⟨i1,i2,fun u hu hz=>?_⟩
    rcases List.mem_cons.1 hu with rfl | hu
    ·exact yC (yC htd hd) (i2 to ht.1)
    ·exact i3 u hu hz
   ·have h1 : 0 < xN t.e t.n d.e d.n := Classical.byContradiction fun h => htd (cle_of (a := tAt t) (b := d) h)
    have hz : ¬ cle (tAt t) z:=fun h=>hin ⟨h1,zcmp_le (a:=tAt t) (b:=z) h⟩
    have hz2 : ∀ u ∈ r,¬ cle (tAt u) z:=fun u hu h=>hz (yC (cle_lt (hrest u hu)) h)
    have e2 : wR d.e d.n z.e z.n r = [] := by
     unfold wR
     rw [List.filter_eq_nil_iff]
     intro u hu h
     rw [decide_eq_true_iff] at h
     exact hz2 u hu (cle_of (a:=tAt u) (b:=z) (Int.not_lt.2 h.2))
    rw [e2]
    refine ⟨trivial,fun _ _=>xP _,fun u hu h=>?_⟩
    rcases List.mem_cons.1 hu with rfl | hu
    ·exact absurd h hz
    ·exact absurd h (hz2 u hu)
theorem each_all {p : Lq} {h : Hy} {kd to : Int} {d z : Zx} (hkd : kd = 8 \/ kd = 11) (ht : 0 <= to /\ to < 16 /\ ¬ to = p.id) (hr : yK (mks h) = true) (hdm : d ∈ mks h) (hzm : z ∈ mks h) {L : List Zx} (hL : L.length = 16) (hd : cle d (zat L to)) :
 OkMs p.id p.ep h L (vZ p to kd (wR d.e d.n z.e z.n h.lg)) /\ (∀ j,0 <= j -> cle (zat L j) (zat (xB L (vZ p to kd (wR d.e d.n z.e z.n h.lg))) j)) /\ cle z (zat (xB L (vZ p to kd (wR d.e d.n z.e z.n h.lg))) to):=by
 have him : cle ⟨h.im.ae, h.im.an⟩ d := by
  rcases List.mem_cons.1 hdm with e | hm
  ·rw [e];exact xP _
  ·have hp := rises_pw hr
   unfold mks at hp
   exact cle_lt ((List.pairwise_cons.1 hp).1 _ hm)
 have h0 : zA { h with lg:=[] } = ⟨h.im.ae,h.im.an⟩:=by unfold zA;simp
 obtain ⟨i1,i2,i3⟩:=each_run (p:=p) (h:=h) (kd:=kd) (to:=to) (d:=d) (z:=z) hkd ht hr h.lg [] L hL rfl (by rw [h0];exact yC him hd) hd
 refine ⟨i1,i2,?_⟩
 rcases List.mem_cons.1 hzm with e | hm
 ·subst e;exact yC him (yC hd (i2 to ht.1))
 ·obtain ⟨t, htm, rfl⟩ := List.mem_map.1 hm
  exact i3 t htm (xP _)
end Go.Proofs.YtffflakmofbilaaGreat
