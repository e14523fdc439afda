/- Texts that the proof needs: LE4 QH QIQ ZL ZM LE5 LE5b LE4b KLQ LE6. -/
import Derived.Test.YtffflakmofbilaaGreatP40LeadDone
import Derived.Test.YtffflakmofbilaaGreatP31LeadDone
import Derived.Test.YtffflakmofbilaaGreatP43LeadDone
import Derived.Test.YtffflakmofbilaaGreatP42LeadDone
import Derived.Test.YtffflakmofbilaaGreatP44LeadDone
import Derived.Test.YtffflakmofbilaaGreatP45LeadDone
import Derived.Test.YtffflakmofbilaaGreatP23LeadDone
import Derived.Test.YtffflakmofbilaaGreatP24LeadDone
import Derived.Test.YtffflakmofbilaaGreatP20LeadDone
import Derived.Test.YtffflakmofbilaaGreatP21LeadDone
import Derived.Test.YtffflakmofbilaaGreatP30LeadDone
namespace Go.Proofs.YtffflakmofbilaaGreat
set_option linter.unusedSimpArgs false
set_option linter.unusedVariables false
set_option maxRecDepth 8000
open Go Go.Av
attribute [local irreducible] Go.Av.yD Go.Av.zQ Go.Av.yC Go.Av.zJ Go.Av.xZ Go.Av.yT Go.Av.Con
theorem last16_con (h : Hy) (hl : h.lg.length <= 1000) : zG Tryz.prog 22 [.p (.agg h.cells)] (.p (.agg [I (yX h).e, I (yX h).n])) := by
 by_cases h0 : h.lg.length = 0
 ·have hg : yX h = ⟨h.im.ae, h.im.an⟩ := by unfold yX; rw [List.length_eq_zero_iff.1 h0]; rfl
  rw [hg]
  unfold Hy.cells
  refine zL Tryz.tab Tryz.mixed Tryz.func22 rfl rfl Tryz.ntmps22 (by simp) (by simp) fun Q hr hn=>?_
  repeat' first|(refine hK _ ?_;clear hK)|(refine zU fun K hK=>?_)|(refine zT ?_;simp only [uP,uO,strip])|((first | refine wOs fun K hK=>?_ | refine zX ?_);simp [h0])|(refine zN ?_;try simp)|(refine wOn ?_;try simp only [zZ])
  all_goals apply hr
  all_goals simp [Tryz.f22]
 ·obtain ⟨q, hq⟩ : ∃ q, q + 1 = h.lg.length := ⟨h.lg.length - 1, by omega⟩
  have hlt : q < h.lg.length:=by omega
  have hg : yX h = ⟨h.lg[q].e, h.lg[q].n⟩ := by
   unfold yX
   rw [if_neg h0,show h.lg.length - 1 = q by omega,List.getD_eq_getElem?_getD,List.getElem?_eq_getElem hlt];rfl
  rw [hg]
  have h0' : ¬ (h.lg.length : Int) = 0:=by omega
  have w : IntKind.i64.wrap ((h.lg.length : Int) - 1) = (q : Int):=by rw [zD] <;> omega
  have he:=xI hlt
  unfold Hy.cells
  refine zL Tryz.tab Tryz.mixed Tryz.func22 rfl rfl Tryz.ntmps22 (by simp) (by simp) fun Q hr hn=>?_
  repeat' first|(refine hK _ ?_;clear hK)|(refine zU fun K hK=>?_)|(refine zT ?_;simp only [uP,uO,strip])|((first | refine wOs fun K hK=>?_ | refine zX ?_);simp [h0,w,hlt])|((first | refine zN ?_ | refine zR ?_);try simp)|(refine wOn ?_;try simp only [zZ])
  all_goals apply hr
  all_goals simp [Tryz.f22]
set_option maxHeartbeats 4000000 in
theorem place21_con (p : Lq) (hl : p.h.lg.length <= 1000) : zG Tryz.prog 25 [.p (.agg p.cells)] (.tup [.p (.agg [I (plcQ p).1.e, I (plcQ p).1.n]), .p (B (plcQ p).2)]) := by
 have c1:=last16_con p.h hl
 have c2:=next02_con (yX p.h).e (yX p.h).n
 unfold plcQ
 unfold Lq.cells
 unfold Hy.cells at c1
 generalize yX p.h = last at *
 by_cases f1 : p.mo = 2
 ·by_cases f2 : p.ph = 3
  ·rw [if_pos ⟨f1, f2⟩]
   have f1' : (p.mo = 2) = True:=eq_true f1
   have f2' : (p.ph = 3) = True:=eq_true f2
   clear f1 f2
   by_cases f3 : last.e = p.ep
   ·rw [if_pos f3]
    have f3' : (last.e = p.ep) = True:=eq_true f3
    clear f3
    dsimp only
    by_cases f4 : uV last.e last.n = 0
    ·rw [decide_eq_true f4]
     generalize uW last.e last.n = NN at *
     generalize uV last.e last.n = NE at *
     replace f4 : (NE = 0) = True:=eq_true f4
     refine zL Tryz.tab Tryz.mixed Tryz.func25 rfl rfl Tryz.ntmps25 (by simp) (by simp) fun Q hr hn=>?_
     repeat' first|(refine zQ.pure (c1) rfl ?_)|(refine zQ.pure (c2) rfl ?_)|(refine hK _ ?_;clear hK)|(refine zU fun K hK=>?_)|(refine zT ?_;simp only [uP,uO,strip])|((first | refine wOs fun K hK=>?_ | refine zY ?_ | refine zX ?_);simp [f1',f2',f3'])|((first | refine zN ?_ | refine zR ?_);try simp)|(refine wOn ?_;try simp only [zZ])
     all_goals first | apply hr
     all_goals simp [Tryz.f25,f4]
    ·rw [decide_eq_false f4]
     generalize uW last.e last.n = NN at *
     generalize uV last.e last.n = NE at *
     replace f4 : (NE = 0) = False:=eq_false f4
     refine zL Tryz.tab Tryz.mixed Tryz.func25 rfl rfl Tryz.ntmps25 (by simp) (by simp) fun Q hr hn=>?_
     repeat' first|(refine zQ.pure (c1) rfl ?_)|(refine zQ.pure (c2) rfl ?_)|(refine hK _ ?_;clear hK)|(refine zU fun K hK=>?_)|(refine zT ?_;simp only [uP,uO,strip])|((first | refine wOs fun K hK=>?_ | refine zY ?_ | refine zX ?_);simp [f1',f2',f3'])|((first | refine zN ?_ | refine zR ?_);try simp)|(refine wOn ?_;try simp only [zZ])
     all_goals first | apply hr
     all_goals simp [Tryz.f25,f4]
   ·rw [if_neg f3]
    have f3' : (last.e = p.ep) = False:=eq_false f3
    clear f3
    refine zL Tryz.tab Tryz.mixed Tryz.func25 rfl rfl Tryz.ntmps25 (by simp) (by simp) fun Q hr hn=>?_
    repeat' first|(refine zQ.pure (c1) rfl ?_)|(refine hK _ ?_;clear hK)|(refine zU fun K hK=>?_)|(refine zT ?_;simp only [uP,uO,strip])|((first | refine wOs fun K hK=>?_ | refine zY ?_ | refine zX ?_);simp [f1',f2',f3'])|((first | refine zN ?_ | refine zR ?_);try simp)|(refine wOn ?_;try simp only [zZ])
    all_goals first | apply hr
    all_goals simp [Tryz.f25]
  ·rw [if_neg fun h => f2 h.2]
   have f1' : (p.mo = 2) = True:=eq_true f1
   have f2' : (p.ph = 3) = False:=eq_false f2
   clear f1 f2
   refine zL Tryz.tab Tryz.mixed Tryz.func25 rfl rfl Tryz.ntmps25 (by simp) (by simp) fun Q hr hn=>?_
   repeat' first|(refine hK _ ?_;clear hK)|(refine zU fun K hK=>?_)|(refine zT ?_;simp only [uP,uO,strip])|((first | refine wOs fun K hK=>?_ | refine zX ?_);simp [f1',f2'])|(refine zN ?_;try simp)|(refine wOn ?_;try simp only [zZ])
   all_goals first | apply hr
   all_goals simp [Tryz.f25]
 ·rw [if_neg fun h => f1 h.1]
  have f1' : (p.mo = 2) = False:=eq_false f1
  clear f1
  refine zL Tryz.tab Tryz.mixed Tryz.func25 rfl rfl Tryz.ntmps25 (by simp) (by simp) fun Q hr hn=>?_
  repeat' first|(refine hK _ ?_;clear hK)|(refine zU fun K hK=>?_)|(refine zT ?_;simp only [uP,uO,strip])|((first | refine wOs fun K hK=>?_ | refine zX ?_);simp [f1'])|(refine zN ?_;try simp)|(refine wOn ?_;try simp only [zZ])
  all_goals first | apply hr
  all_goals simp [Tryz.f25]
abbrev sOut (s : Sq) : V := .tup [.p (.agg s.p.cells), .p (.sl 46 (zC s.o)), .p (B (!s.g))]
theorem hear_con {id : Int} (p : Lq) (m : Mg) (hb : Bk id p) (hk : OkH p.h) (hm : m.ms.length <= 1000000) : zG Tryz.prog 28 [.p (.agg p.cells), .p (.agg m.cells)] (sOut (hearS p m)) := by
 have hl:=hb.len
 have hR:=hb.relay
 have hrl : yU p.ls = p.ls:=relay_srt hb.srt
 have hE : hearS p m = if p.mo = 2 /\ concQ (yK p) m then doS21 ⟨yK p,false,[]⟩ m else ⟨yK p,false,[]⟩:=rfl
 rw [hE]
 by_cases hf : p.mo = 2 /\ concQ (yK p) m
 case neg=>rw [if_neg hf];exact hearN_con p m hk (by omega) hb.ms hf
 rw [if_pos hf]
 have ok : OkS 16 0 (⟨yK p,false,[]⟩ : Sq):=⟨hk,by rw [hR];exact hl,by simp,by rw [hR];exact hb.ms⟩
 have go:=fun S c3=>hearF_con p m hk (by omega) hb.ms hf.1 hf.2 S c3
 unfold doS21
 by_cases k2 : m.kd = 2
 ·rw [if_pos k2];refine go _ ?_;rw [show doF m.kd = 92 by rw [k2];rfl];exact info_con ok (by omega) (by omega) m
 rw [if_neg k2]
 by_cases k4 : m.kd = 4
 ·rw [if_pos k4];refine go _ ?_;rw [show doF m.kd = 93 by rw [k4];rfl];exact ackEp_con ok (by omega) (by omega) m hm
 rw [if_neg k4]
 by_cases k6 : m.kd = 6
 ·rw [if_pos k6];refine go _ ?_;rw [show doF m.kd = 94 by rw [k6];rfl];exact sync_con ok (by omega) (by omega) m
 rw [if_neg k6]
 by_cases k9 : m.kd = 9
 ·rw [if_pos k9];refine go _ ?_;rw [show doF m.kd = 95 by rw [k9];rfl];exact ackd_con ok (by omega) (by omega) m
 rw [if_neg k9]
 by_cases k13 : m.kd = 13
 ·rw [if_pos k13]
  by_cases h0 : p.ls.length = 0
  ·have h0' : p.ls = [] := List.length_eq_zero_iff.1 h0
   have e : pongS ⟨yK p, false, []⟩ m = ⟨yK p, false, []⟩ := by
    unfold pongS
    have : (yK p).ls = []:=by rw [hR];exact h0'
    simp only [this,vE,uO]
    rw [<- this]
   rw [e]
   refine go _ ?_
   rw [show doF m.kd = 96 by rw [k13];rfl]
   exact pong0_con (yK p) false (zC []) m (by rw [hR];exact h0')
  ·exact hearP_con p m hk h0 (by omega) (by rw [hrl];omega) hb.ms hf.1 hf.2 k13
 rw [if_neg k13]
 refine go _ ?_
 rw [show doF m.kd = 97 by unfold doF;rw [if_neg k2,if_neg k4,if_neg k6,if_neg k9,if_neg k13]]
 exact nothing_con (yK p) false [] m
theorem tick_con {id : Int} (p : Lq) (hb : Bk id p) (hk : OkH p.h) : zG Tryz.prog 37 [.p (.agg p.cells)] (sOut (tickS p)) := by
 have hl:=hb.len
 have hrl : yU p.ls = p.ls:=relay_srt hb.srt
 unfold tickS
 rw [if_pos hb.mo]
 by_cases h0 : p.ls.length = 0
 ·have h0' : p.ls = [] := List.length_eq_zero_iff.1 h0
  have c:=tick0_con p hk h0' hb.mo
  have e1 : tkP (yK p) = { p with wt := tkW p } := by
   rw [hb.relay];unfold tkP;rw [h0',uO,<- h0']
  have e2 : tkM (yK p) (yU p.ls) = []:=by rw [hrl,h0'];rfl
  have e3 : tkG (yK p) = if p.ph = 1 \/ p.ph = 2 then decide (8 < tkW p) else if p.ph = 3 then !yQ p [p.id] else false := by
   rw [hb.relay];unfold tkG;rw [h0'];rfl
  rw [e1,e2,e3]
  exact c
 ·exact tickR_con p hk h0 (by omega) (by rw [hrl];omega) hb.ms hb.mo
theorem lost_con {id : Int} (p : Lq) (n : Int) (hb : Bk id p) (hk : OkH p.h) : zG Tryz.prog 38 [.p (.agg p.cells), .p (I n)] (sOut ⟨lostQ p n, false, []⟩) := by
 have hl:=hb.len
 have hrl : yU p.ls = p.ls:=relay_srt hb.srt
 unfold lostQ
 rw [if_pos hb.mo]
 by_cases h0 : p.ls.length = 0
 ·have h0' : p.ls = [] := List.length_eq_zero_iff.1 h0
  have e : ({ p with ls:=wP (yU p.ls) n } : Lq) = p:=by rw [hrl,h0'];show ({ p with ls:=[] } : Lq) = p;rw [<- h0']
  rw [e]
  exact lostE_con p n hk h0' hb.mo
 ·exact lostR_con p n hk h0 (by omega) (by rw [hrl];omega) hb.ms hb.mo
theorem prop_con {id : Int} (p : Lq) (t : Tx) (hb : Bk id p) (hk : OkH p.h) (hk2 : OkH { p.h with lg := p.h.lg ++ [t] }) (ht : t.ps.length <= 1000 /\ ∀ x ∈ t.ps, x.c.ms.length <= 1000) : zG Tryz.prog 26 [.p (.agg p.cells), .p (.agg t.cells)] (sOut (propS p t)) := by
 have hl:=hb.len
 have hrl : yU p.ls = p.ls:=relay_srt hb.srt
 by_cases hf : propOK p t
 ·exact prop1_con p t hk hk2 (by omega) (by rw [hrl];exact hl) hb.ms (by rw [hrl];exact hb.ms) ht hf
 ·unfold propS
  rw [if_neg hf]
  exact prop0_con p t hk (by omega) hb.ms ht hf
def evT (p : Lq) (e : Ev21) : Tx := { e.t with e := (plcQ p).1.e, n := (plcQ p).1.n }
def actS (p : Lq) (e : Ev21) : Sq := if e.k = 0 then hearS p e.m else if e.k = 1 then tickS p else if e.k = 2 then ⟨lostQ p e.n, false, []⟩ else propS p (evT p e)
set_option maxHeartbeats 4000000 in
theorem do21_con {id : Int} (p : Lq) (e : Ev21) (hb : Bk id p) (hk : OkH p.h) (hk2 : OkH { p.h with lg := p.h.lg ++ [evT p e] }) (hm : e.m.ms.length <= 1000000) (ht : e.t.ps.length <= 1000 /\ ∀ x ∈ e.t.ps, x.c.ms.length <= 1000) : zG Tryz.prog 12 [.p (.agg p.cells), .p (.agg e.cells)] (sOut (actS p e)) := by
 have c0:=hear_con p e.m hb hk hm
 have c1:=tick_con p hb hk
 have c2:=lost_con p e.n hb hk
 have c3:=place21_con p hk.lg
 have c4:=prop_con p (evT p e) hb hk hk2 ht
 have het : (evT p e).cells = [I (plcQ p).1.e,I (plcQ p).1.n,I e.t.s,I e.t.x,I e.t.r,I e.t.b,SB e.t.m,.sl 11 (pts e.t.ps)]:=rfl
 unfold actS
 generalize hearS p e.m = S0 at *
 generalize tickS p = S1 at *
 generalize (⟨lostQ p e.n,false,[]⟩ : Sq) = S2 at *
 generalize propS p (evT p e) = S3 at *
 rw [het] at c4
 generalize plcQ p = PQ at *
 clear hb hk hk2 hm ht het
 unfold sOut at *
 unfold Ev21.cells
 unfold Mg.cells at c0
 by_cases h0 : e.k = 0
 ·rw [if_pos h0]
  replace h0 : (e.k = 0) = True:=eq_true h0
  clear c1 c2 c3 c4
  generalize zC S0.o = O at *
  unfold Lq.cells at *
  refine zL Tryz.tab Tryz.mixed Tryz.func12 rfl rfl Tryz.ntmps12 (by simp) (by simp) fun Q hr hn=>?_
  repeat' first|(refine zQ.pure (c0) rfl ?_)|(refine hK _ ?_;clear hK)|(refine zU fun K hK=>?_)|(refine zT ?_;simp only [uP,uO,strip])|((first | refine wOs fun K hK=>?_ | refine zY ?_ | refine zX ?_);simp [h0])|(first | refine zW ?_)|(refine zN ?_;try simp)|(refine wOn ?_;try simp only [zZ])
  all_goals apply hr
  all_goals simp [Tryz.f12]
 rw [if_neg h0]
 replace h0 : (e.k = 0) = False:=eq_false h0
 by_cases h1 : e.k = 1
 ·rw [if_pos h1]
  replace h1 : (e.k = 1) = True:=eq_true h1
  clear c0 c2 c3 c4
  generalize zC S1.o = O at *
  unfold Lq.cells at *
  refine zL Tryz.tab Tryz.mixed Tryz.func12 rfl rfl Tryz.ntmps12 (by simp) (by simp) fun Q hr hn=>?_
  repeat' first|(refine zQ.pure (c1) rfl ?_)|(refine hK _ ?_;clear hK)|(refine zU fun K hK=>?_)|(refine zT ?_;simp only [uP,uO,strip])|((first | refine wOs fun K hK=>?_ | refine zY ?_ | refine zX ?_);simp [h0,h1])|(first | refine zW ?_)|(refine zN ?_;try simp)|(refine wOn ?_;try simp only [zZ])
  all_goals apply hr
  all_goals simp [Tryz.f12]
 rw [if_neg h1]
 replace h1 : (e.k = 1) = False:=eq_false h1
 by_cases h2 : e.k = 2
 ·rw [if_pos h2]
  replace h2 : (e.k = 2) = True:=eq_true h2
  clear c0 c1 c3 c4
  generalize zC S2.o = O at *
  unfold Lq.cells at *
  refine zL Tryz.tab Tryz.mixed Tryz.func12 rfl rfl Tryz.ntmps12 (by simp) (by simp) fun Q hr hn=>?_
  repeat' first|(refine zQ.pure (c2) rfl ?_)|(refine hK _ ?_;clear hK)|(refine zU fun K hK=>?_)|(refine zT ?_;simp only [uP,uO,strip])|((first | refine wOs fun K hK=>?_ | refine zY ?_ | refine zX ?_);simp [h0,h1,h2])|(first | refine zW ?_)|(refine zN ?_;try simp)|(refine wOn ?_;try simp only [zZ])
  all_goals apply hr
  all_goals simp [Tryz.f12]
 rw [if_neg h2]
 replace h2 : (e.k = 2) = False:=eq_false h2
 clear c0 c1 c2
 generalize zC S3.o = O at *
 unfold Lq.cells at *
 refine zL Tryz.tab Tryz.mixed Tryz.func12 rfl rfl Tryz.ntmps12 (by simp) (by simp) fun Q hr hn=>?_
 repeat' first|(refine zQ.pure (c3) rfl ?_)|(refine zQ.pure (c4) rfl ?_)|(refine hK _ ?_;clear hK)|(refine zU fun K hK=>?_)|(refine zT ?_;simp only [uP,uO,strip])|((first | refine wOs fun K hK=>?_ | refine zY ?_ | refine zX ?_);simp [h0,h1,h2])|(first | refine zW ?_)|((first | refine zN ?_ | refine zR ?_);try simp)|(refine wOn ?_;try simp only [zZ])
 all_goals apply hr
 all_goals simp [Tryz.f12]
end Go.Proofs.YtffflakmofbilaaGreat
namespace Go.Proofs.YtffflakmofbilaaGreat
set_option linter.unusedSimpArgs false
set_option linter.unusedVariables false
open Go Go.Av
attribute [local irreducible] Go.Av.yD Go.Av.zQ Go.Av.yC Go.Av.zJ Go.Av.xZ Go.Av.yT Go.Av.Con
theorem tot_le (f : Mb -> Int) (p q : Mb -> Bool) : ∀ l : List Mb, (∀ m ∈ l, 0 <= f m) -> (∀ m ∈ l, m.r = 1 -> p m = true -> q m = true) -> tot f p l <= tot f q l
 | [],_,_=>by simp [tot]
 | m :: l, h, hpq => by
  have h1:=tot_le f p q l (fun x hx=>h x (List.mem_cons_of_mem _ hx)) (fun x hx=>hpq x (List.mem_cons_of_mem _ hx))
  have h2:=h m (by simp)
  have h3:=hpq m (by simp)
  simp only [tot]
  by_cases a : m.r = 1 /\ p m = true
  ·rw [if_pos a,if_pos ⟨a.1,h3 a.1 a.2⟩];omega
  ·rw [if_neg a];split <;> omega
theorem num_le (p q : Nat -> Bool) : ∀ k, (∀ g, p g = true -> q g = true) -> num p k <= num q k
 | 0,_=>by simp [num]
 | k + 1, h => by
  have h1:=num_le p q k h
  have h2:=h k
  simp only [num]
  cases hp : p k
  ·simp only [Bool.false_eq_true,if_false];split <;> omega
  ·rw [h2 hp];omega
theorem isQ_mono {c : Cf} {a b : List Int} (h : ∀ m ∈ c.ms, m.r = 1 -> m.i ∈ a -> m.i ∈ b) (ha : isQ c a = true) : isQ c b = true := by
 by_cases hc : check c = 0
 rotate_left
 ·unfold isQ at ha;rw [if_neg hc] at ha;simp at ha
 obtain ⟨-,hf,-⟩:=check_ok hc
 have ho:=fine_ok _ _ hf
 unfold isQ at ha ⊢
 rw [if_pos hc] at ha ⊢
 unfold enough at ha ⊢
 have hd : ∀ m ∈ c.ms, m.r = 1 -> inS a m = true -> inS b m = true := fun m hm h1 h2 => by
  simp only [inS,decide_eq_true_eq] at h2 ⊢;exact h m hm h1 h2
 by_cases k1 : c.kind = 1
 ·rw [if_pos k1, decide_eq_true_eq] at ha ⊢
  have:=tot_le one (inS a) (inS b) c.ms (fun m _=>by simp [one]) hd
  omega
 rw [if_neg k1] at ha ⊢
 by_cases k2 : c.kind = 2
 ·rw [if_pos k2, decide_eq_true_eq] at ha ⊢
  have:=tot_le Mb.w (inS a) (inS b) c.ms (fun m hm=>(okL_w ho m hm).1) hd
  omega
 rw [if_neg k2,decide_eq_true_eq] at ha ⊢
 have := num_le (wonG a c.ms) (wonG b c.ms) 8 (fun g h1 => by
  simp only [wonG,decide_eq_true_eq] at h1 ⊢
  have := tot_le Mb.w (inG (inS a) g) (inG (inS b) g) c.ms (fun m hm => (okL_w ho m hm).1) (fun m hm e1 e2 => by
   simp only [inG,Bool.and_eq_true] at e2 ⊢
   exact ⟨e2.1,hd m hm e1 e2.2⟩)
  omega)
 omega
end Go.Proofs.YtffflakmofbilaaGreat
namespace Go.Proofs.YtffflakmofbilaaGreat
open Go Go.Av
end Go.Proofs.YtffflakmofbilaaGreat
namespace Go.Proofs.YtffflakmofbilaaGreat
set_option linter.unusedSimpArgs false
set_option linter.unusedVariables false
open Go Go.Av
attribute [local irreducible] Go.Av.yD Go.Av.zQ Go.Av.yC Go.Av.zJ Go.Av.xZ Go.Av.yT Go.Av.Con
theorem fresh_ok {e i : Int} (h : vH e i = 0) : 0 <= i /\ i < 16 /\ 0 <= e /\ e < xB e i /\ xB e i <= e + 16 /\ owner (xB e i) = i /\ xB e i % 16 = i := by
 unfold vH at h
 split at h
 ·simp at h
 rename_i h1
 split at h
 ·simp at h
 rename_i h2
 have hm : e.tmod 16 = e % 16:=Int.tmod_eq_emod_of_nonneg (by omega)
 have hE : vH e i = 0:=by unfold vH;rw [if_neg h1,if_neg h2]
 have hN : xB e i = if e - e % 16 + i <= e then e - e % 16 + i + 16 else e - e % 16 + i := by
  unfold xB;rw [hm];simp [hE]
 have ho : 1 <= xB e i -> owner (xB e i) = xB e i % 16 := fun hh => by
  unfold owner;rw [if_neg (by omega),Int.tmod_eq_emod_of_nonneg (by omega)]
 generalize xB e i = n at *
 split at hN
 ·have:=ho (by omega);omega
 ·have:=ho (by omega);omega
end Go.Proofs.YtffflakmofbilaaGreat
namespace Go.Proofs.YtffflakmofbilaaGreat
set_option linter.unusedSimpArgs false
set_option linter.unusedVariables false
open Go Go.Av
def Ke (e a : Int) (s : Sq) : Prop := s.p.ep = e /\ s.p.ac = a
theorem Ke.stay {e a : Int} {s : Sq} (k : Ke e a s) : Ke e a (stayS s) := by
 unfold stayS
 split <;> exact k
theorem Ke.plans {e a : Int} {s : Sq} (k : Ke e a s) (l : List Lr) : Ke e a (l.foldl xV s) :=
 foldB (R:=Ke e a) l s (fun s x _ k=>by unfold xV;split <;> exact k) k
theorem Ke.plansV {e a : Int} {s : Sq} (k : Ke e a s) (v : List Int) (l : List Lr) : Ke e a (l.foldl (yG v) s) :=
 foldB (R:=Ke e a) l s (fun s x _ k=>by unfold yG;split <;> exact k) k
theorem Ke.est {e a : Int} {s : Sq} (k : Ke e a s) : Ke e a (estS s) := by
 unfold estS
 split
 ·refine Ke.stay (Ke.plans ?_ _)
  unfold Ke
  rw [xQ (wK _)]
  exact k
 ·exact k
theorem Ke.gath {e a : Int} {s : Sq} (k : Ke e a s) : Ke e a (wX s) := by
 unfold wX
 split
 ·refine Ke.est (Ke.plansV ?_ _ _)
  exact ⟨k.1,k.2⟩
 ·exact k
theorem Ke.com {e a : Int} {s : Sq} (k : Ke e a s) : Ke e a (comS s) := by
 unfold comS
 split
 ·exact k
 ·refine Ke.stay ?_
  unfold Ke
  simp only [xQ (eachCom_p _ _ _)]
  exact k
theorem Ke.doS {e a : Int} {s : Sq} (k : Ke e a s) (he : ¬ e = 0) (m : Mg) : Ke e a (doS21 s m) := by
 have hep : ¬ s.p.ep = 0:=by rw [k.1];exact he
 have kD : Ke e a (ackD s m):=by unfold ackD;split <;> exact k
 unfold doS21
 split
 ·unfold infoS
  rw [if_pos hep]
  split <;> exact k
 split
 ·unfold ackEpS
  split
  ·exact k
  ·split
   ·split
    ·exact kD
    ·exact Ke.gath (s:=(ackD s m).lay (ackX s.p m)) kD
   ·split <;> exact k
 split
 ·unfold syncS
  split
  ·exact k
  ·split
   ·exact Ke.est (s:=s.lay (syncX s.p m)) k
   ·split
    ·exact Ke.com (s:=(s.lay (syncX s.p m)).send _ _) k
    ·exact k
 split
 ·unfold ackdS
  split
  ·exact k
  ·split
   ·exact Ke.com (s:=s.lay (ackdX s.p m)) k
   ·exact k
 split <;> exact k
def Wo (l0 : List Lr) (s : Sq) : Prop := (∀ y ∈ s.p.ls, ∃ x ∈ l0, x.id = y.id /\ x.ac = y.ac) /\ ∀ x ∈ l0, ∃ y ∈ s.p.ls, y.id = x.id
theorem Wo.plan {l0 : List Lr} {s : Sq} (k : Wo l0 s) {x : Lr} (hx : ∃ z ∈ l0, z.id = x.id /\ z.ac = x.ac) : Wo l0 (vD s x) := by
 refine ⟨fun y hy=>?_,fun z hz=>?_⟩
 ·rcases mem_layL.1 hy with rfl | ⟨hy, -⟩
  ·exact hx
  ·exact k.1 y hy
 ·obtain ⟨y, hy, he⟩ := k.2 z hz
  by_cases o : y.id = x.id
  ·exact ⟨{ x with ph:=3 },mem_layL.2 (.inl rfl),o.symm.trans he⟩
  ·exact ⟨y,mem_layL.2 (.inr ⟨hy,o⟩),he⟩
theorem Wo.stay {l0 : List Lr} {s : Sq} (k : Wo l0 s) : Wo l0 (stayS s) := by
 unfold stayS
 split <;> exact k
theorem Wo.plans {l0 : List Lr} {s : Sq} (k : Wo l0 s) {l : List Lr} (hl : ∀ x ∈ l, ∃ z ∈ l0, z.id = x.id /\ z.ac = x.ac) : Wo l0 (l.foldl xV s) :=
 foldB (R := Wo l0) l s (fun s x hx k => by
  unfold xV
  split
  ·exact k.plan (hl x hx)
  ·exact k) k
theorem Wo.plansV {l0 : List Lr} {s : Sq} (k : Wo l0 s) (v : List Int) {l : List Lr} (hl : ∀ x ∈ l, ∃ z ∈ l0, z.id = x.id /\ z.ac = x.ac) : Wo l0 (l.foldl (yG v) s) :=
 foldB (R := Wo l0) l s (fun s x hx k => by
  unfold yG
  split
  ·exact k.plan (hl x hx)
  ·exact k) k
theorem Wo.est {l0 : List Lr} {s : Sq} (k : Wo l0 s) : Wo l0 (estS s) := by
 unfold estS
 split
 ·refine Wo.stay (Wo.plans ?_ k.1)
  unfold Wo
  rw [xQ (wK _)]
  exact k
 ·exact k
theorem Wo.gath {l0 : List Lr} {s : Sq} (k : Wo l0 s) : Wo l0 (wX s) := by
 unfold wX
 split
 ·refine Wo.est (Wo.plansV ?_ _ k.1)
  exact ⟨k.1,k.2⟩
 ·exact k
theorem most_ge : ∀ (l : List Lr) (a : Int), a <= l.foldl (fun a x => if a < x.ac then x.ac else a) a /\ ∀ x ∈ l, x.ac <= l.foldl (fun a x => if a < x.ac then x.ac else a) a
 | [],a=>⟨Int.le_refl _,by simp⟩
 | x :: l, a => by
  obtain ⟨h1,h2⟩:=most_ge l (if a < x.ac then x.ac else a)
  rw [List.foldl_cons]
  have h3 : a <= (if a < x.ac then x.ac else a) /\ x.ac <= (if a < x.ac then x.ac else a):=by split <;> omega
  refine ⟨by omega,fun y hy=>?_⟩
  rcases List.mem_cons.1 hy with rfl | hy
  ·omega
  ·exact h2 y hy
structure Chose (s : Sq) (q : Lq) : Prop where
 ne : ¬ q.ep = 0
 ac : q.ac = q.ep
 ow : owner q.ep = s.p.id
 up : s.p.ac < q.ep
 all : ∀ y ∈ q.ls,y.ac < q.ep
 has : ∀ x ∈ s.p.ls,∃ y ∈ q.ls,y.id = x.id
 en : yQ s.p (xS s.p.id 1 0 0 s.p.ls) = true
theorem cho_ep (s : Sq) : (uR s).p = s.p \/ Chose s (uR s).p := by
 unfold uR
 by_cases h1 : yQ s.p (xS s.p.id 1 0 0 s.p.ls) = true
 case neg=>rw [if_neg h1];exact .inl rfl
 rw [if_pos h1]
 by_cases h2 : vH (mostQ s.p) s.p.id = 0
 case neg=>rw [if_neg h2];exact .inl rfl
 rw [if_pos h2]
 obtain ⟨-,-,f3,f4,-,f6,-⟩:=fresh_ok h2
 obtain ⟨m1,m2⟩:=most_ge s.p.ls s.p.ac
 have hmq : mostQ s.p = s.p.ls.foldl (fun a x=>if a < x.ac then x.ac else a) s.p.ac:=rfl
 rw [<- hmq] at m1 m2
 generalize hE : xB (mostQ s.p) s.p.id = E at *
 have hp : (s.p.ls.foldl yE { s with p:={ s.p with ep:=E,ac:=E } }).p = { s.p with ep:=E,ac:=E }:=xQ vB _ _
 have hk : Ke E E (s.p.ls.foldl yE { s with p:={ s.p with ep:=E,ac:=E } }):=by unfold Ke;rw [hp];exact ⟨rfl,rfl⟩
 have hw : Wo s.p.ls (s.p.ls.foldl yE { s with p := { s.p with ep := E, ac := E } }) := by
  unfold Wo;rw [hp]
  exact ⟨fun y hy=>⟨y,hy,rfl,rfl⟩,fun x hx=>⟨x,hx,rfl⟩⟩
 have gk:=hk.gath
 have gw:=hw.gath
 have hshow : (fun s1 : Sq=>wX (s1.p.ls.foldl yE s1)) { s with p:={ s.p with ep:=E,ac:=E } } = wX (s.p.ls.foldl yE { s with p:={ s.p with ep:=E,ac:=E } }):=rfl
 rw [hshow]
 generalize wX (s.p.ls.foldl yE { s with p:={ s.p with ep:=E,ac:=E } }) = S2 at *
 obtain ⟨g1,g2⟩:=gk
 refine .inr ⟨by rw [g1];omega,by rw [g1,g2],by rw [g1];exact f6,by rw [g1];omega,fun y hy=>?_,gw.2,h1⟩
 obtain ⟨x,hx,-,ha⟩:=gw.1 y hy
 have:=m2 x hx
 rw [g1];omega
structure InvE (w : Wh) (k : Nat) (p : Lq) : Prop where
 bk : Bk w.id p
 hb : HB (30 + k) p.h
 e0 : p.ep = 0 -> p.h = w.h /\ p.d = ⟨w.h.im.ae,w.h.im.an⟩ /\ p.ac = w.ac /\ p.ph = 1
theorem mem_setS {self ph e n : Int} {l : List Lr} {x : Int} (h : x ∈ xS self ph e n l) : x = self \/ ∃ y ∈ l, y.id = x := by
 unfold xS at h
 rcases List.mem_cons.1 h with h | h
 ·exact .inl h
 ·obtain ⟨y, hy, rfl⟩ := List.mem_map.1 h
  exact .inr ⟨y,(List.mem_filter.1 hy).1,rfl⟩
theorem allQ_mono {l : List Cf} {a b : List Int} (h : ∀ x ∈ a, x ∈ b) (ha : allQ l a = true) : allQ l b = true := by
 unfold allQ at *
 rw [Bool.and_eq_true] at *
 refine ⟨List.all_eq_true.2 fun c hc=>isQ_mono (fun m _ _ hm=>h _ hm) (List.all_eq_true.1 ha.1 c hc),ha.2⟩
def NearT (t : Tx) : Prop := t.ps.length <= 200 /\ ∀ x ∈ t.ps, x.c.ms.length <= 200
theorem HB.snoc {k : Nat} {h : Hy} (b : HB k h) {t : Tx} (ht : NearT t) : HB (k + 1) { h with lg := h.lg ++ [t] } := by
 refine ⟨b.ns,b.ss,b.c,by have:=b.lg;simp;omega,fun u hu=>?_⟩
 rcases List.mem_append.1 hu with hu | hu
 ·exact b.ps u hu
 ·rw [List.mem_singleton.1 hu];exact ht
theorem sum_mem : ∀ {l : List Nat} {x : Nat}, x ∈ l -> x <= l.sum
 | a :: l, x, h => by
  rw [List.sum_cons]
  rcases List.mem_cons.1 h with rfl | h
  ·omega
  ·have:=sum_mem h;omega
theorem near_HB {h : Hy} (hn : wC h) : HB 30 h := by
 obtain ⟨h1,h2,h3⟩:=hn
 unfold wH at h3
 refine ⟨by omega,by omega,by omega,h1,fun t ht=>⟨by have:=h2 t ht;omega,fun p hp=>?_⟩⟩
 have a : wT t <= (h.lg.map wT).sum:=sum_mem (List.mem_map.2 ⟨t,ht,rfl⟩)
 have b : p.c.ms.length <= (t.ps.map fun p=>p.c.ms.length).sum:=sum_mem (List.mem_map.2 ⟨p,hp,rfl⟩)
 have a' : wT t = t.ps.length + (t.ps.map fun p=>p.c.ms.length).sum:=rfl
 omega
theorem nearE.t {e : Ev21} (h : nearE e) : NearT e.t := (near_HB h.2.1).ps e.t (by simp)
theorem hear_sk {id : Int} {p : Lq} (hb : Bk id p) {m : Mg} (hm : m.ms.length <= 1000000) : Sk id p.h (hearS p m) := by
 have hR:=hb.relay
 have k0 : Sk id p.h ⟨yK p,false,[]⟩:=by rw [hR];exact ⟨hb,rfl⟩
 have hE : hearS p m = if p.mo = 2 /\ concQ (yK p) m then doS21 ⟨yK p,false,[]⟩ m else ⟨yK p,false,[]⟩:=rfl
 rw [hE]
 split
 ·rename_i hf
  refine k0.doS ⟨hf.2.2.1,hf.2.2.2.1,fun h=>hf.2.1 ?_⟩ hm
  rw [h];exact hb.eq.symm
 ·exact k0
theorem tick_bk {id : Int} {p : Lq} (hb : Bk id p) : Bk id (tickS p).p /\ (tickS p).p.h = p.h := by
 unfold tickS
 rw [if_pos hb.mo,hb.relay]
 refine ⟨⟨hb.eq,hb.mo,srt_map (fun _=>rfl) hb.srt,fun y hy=>?_,fun y hy=>?_⟩,rfl⟩
 ·obtain ⟨x,hx,rfl⟩:=List.mem_map.1 hy;exact hb.ids x hx
 ·obtain ⟨x,hx,rfl⟩:=List.mem_map.1 hy;exact hb.ms x hx
theorem lost_bk {id : Int} {p : Lq} (hb : Bk id p) (n : Int) : Bk id (lostQ p n) /\ (lostQ p n).h = p.h := by
 unfold lostQ
 rw [if_pos hb.mo,relay_srt hb.srt]
 exact ⟨⟨hb.eq,hb.mo,srt_but hb.srt n,fun y hy=>hb.ids y (List.mem_filter.1 hy).1,fun y hy=>hb.ms y (List.mem_filter.1 hy).1⟩,rfl⟩
theorem eachProp_p (v1 v2 : List Int) (op : List Tx) (t : Tx) (s : Sq) (x : Lr) : (vY v1 v2 op t s x).p = s.p := by unfold vY; split <;> (try split) <;> rfl
theorem prop_sk {id : Int} {p : Lq} (hb : Bk id p) (t : Tx) : (¬ propOK p t /\ propS p t = ⟨p, false, []⟩) \/ (propOK p t /\ Sk id { p.h with lg := p.h.lg ++ [t] } (propS p t)) := by
 by_cases hf : propOK p t
 ·refine .inr ⟨hf, ?_⟩
  unfold propS
  rw [if_pos hf]
  refine Sk.com ⟨?_,?_⟩
  ·rw [xQ (eachProp_p _ _ _ _)]
   have : Bk id (yK p):=by rw [hb.relay];exact hb
   exact this.same rfl rfl rfl
  ·rw [xQ (eachProp_p _ _ _ _)];rfl
 ·refine .inl ⟨hf, ?_⟩
  unfold propS
  rw [if_neg hf,hb.relay]
structure Ask (w : Wh) (q : Lq) : Prop where
 all : ∀ y ∈ q.ls,y.ac < q.ep
 up : w.ac < q.ep
 ow : owner q.ep = w.id
 ac : q.ac = q.ep
 en : allQ (yY w.h w.h.im.ae w.h.im.an) ((q.ls.map Lr.id) ++ [w.id]) = true
theorem InvE.act {w : Wh} {k : Nat} {p : Lq} (hI : InvE w k p) {e : Ev21} (hm : e.m.ms.length <= 1000000) (ht : NearT e.t) :
 InvE w (k + 1) (actS p e).p /\ (¬ p.ep = 0 -> (actS p e).p.ep = p.ep) /\ (p.ep = 0 -> ¬ (actS p e).p.ep = 0 -> Ask w (actS p e).p):=by
 obtain ⟨hb,hh,he0⟩:=hI
 have hh1 : HB (30 + (k + 1)) p.h:=hh.mono (by omega)
 have stay : ∀ q : Lq, Bk w.id q -> q.h = p.h -> q.ep = p.ep -> q.d = p.d -> q.ac = p.ac -> q.ph = p.ph -> InvE w (k + 1) q /\ (¬ p.ep = 0 -> q.ep = p.ep) /\ (p.ep = 0 -> ¬ q.ep = 0 -> Ask w q) := fun q b1 b2 b3 b4 b5 b6 =>
  ⟨⟨b1,by rw [b2];exact hh1,fun h=>by rw [b2,b4,b5,b6];exact he0 (b3 ▸ h)⟩,fun _=>b3,fun h h'=>absurd (b3.trans h) h'⟩
 unfold actS
 split
 ·have sk := hear_sk hb hm
  have hE : hearS p e.m = if p.mo = 2 /\ concQ (yK p) e.m then doS21 ⟨yK p,false,[]⟩ e.m else ⟨yK p,false,[]⟩:=rfl
  by_cases hf : p.mo = 2 /\ concQ (yK p) e.m
  case neg =>
   rw [hE,if_neg hf,hb.relay]
   exact stay p hb rfl rfl rfl rfl rfl
  rw [hE,if_pos hf] at sk ⊢
  rw [hb.relay] at sk hf ⊢
  by_cases h0 : p.ep = 0
  case neg =>
   have ke:=Ke.doS (s:=⟨p,false,[]⟩) (e:=p.ep) (a:=p.ac) ⟨rfl,rfl⟩ h0 e.m
   exact ⟨⟨sk.bk,by rw [sk.h];exact hh1,fun h=>absurd (ke.1 ▸ h) h0⟩,fun _=>ke.1,fun h=>absurd h h0⟩
  have k2 : e.m.kd = 2 := by
   rcases hf.2.2.2.2 with h | h
   ·exact h
   ·exact absurd h0 h.1
  obtain ⟨z1,z2,z3,z4⟩:=he0 h0
  have hS : doS21 ⟨p, false, []⟩ e.m = uR ((⟨p, false, []⟩ : Sq).lay (yH p e.m)) := by
   unfold doS21
   rw [if_pos k2]
   unfold infoS
   rw [if_neg (fun h=>h.1 h0),if_neg (not_not_intro h0)]
  rw [hS] at sk ⊢
  rcases cho_ep ((⟨p,false,[]⟩ : Sq).lay (yH p e.m)) with hc | hc
  ·have b := sk.bk
   rw [hc] at b ⊢
   exact stay _ b rfl rfl rfl rfl rfl
  ·refine ⟨⟨sk.bk, by rw [sk.h]; exact hh1, fun h => absurd h hc.ne⟩, fun h => absurd h0 h, fun _ _ => ⟨hc.all, ?_, ?_, hc.ac, ?_⟩⟩
   ·have := hc.up
    rw [<- z3];exact this
   ·rw [hc.ow];exact hb.eq
   ·have hen := hc.en
    unfold yQ at hen
    have e1 : ((⟨p,false,[]⟩ : Sq).lay (yH p e.m)).p.h = w.h:=z1
    have e2 : ((⟨p,false,[]⟩ : Sq).lay (yH p e.m)).p.d = ⟨w.h.im.ae,w.h.im.an⟩:=z2
    rw [e1,e2] at hen
    refine allQ_mono (fun x hx=>?_) hen
    rcases mem_setS hx with rfl | ⟨y,hy,rfl⟩
    ·exact List.mem_append_right _ (List.mem_singleton.2 hb.eq)
    ·obtain ⟨u, hu, hi⟩ := hc.has y hy
     exact List.mem_append_left _ (List.mem_map.2 ⟨u,hu,hi⟩)
 split
 ·obtain ⟨b1, b2⟩ := tick_bk hb
  have hT : (tickS p).p = tkP p:=by unfold tickS;rw [if_pos hb.mo,hb.relay]
  rw [hT] at b1 b2 ⊢
  exact stay _ b1 b2 rfl rfl rfl rfl
 split
 ·obtain ⟨b1, b2⟩ := lost_bk hb e.n
  have hT : lostQ p e.n = { p with ls:=wP p.ls e.n }:=by unfold lostQ;rw [if_pos hb.mo,relay_srt hb.srt]
  refine stay _ b1 b2 ?_ ?_ ?_ ?_ <;> rw [hT]
 ·rcases prop_sk hb (evT p e) with ⟨h1, h2⟩ | ⟨h1, sk⟩
  ·rw [h2];exact stay p hb rfl rfl rfl rfl rfl
  ·have h3 : ¬ p.ep = 0 := fun h => by
    have h4:=(he0 h).2.2.2
    have h5:=h1.1
    unfold plcQ at h5
    rw [if_neg (fun h=>by have:=h.2;omega)] at h5
    simp at h5
   have ke : Ke p.ep p.ac (propS p (evT p e)) := by
    unfold propS
    rw [if_pos h1]
    refine Ke.com ?_
    unfold Ke
    rw [xQ (eachProp_p _ _ _ _)]
    exact ⟨rfl,rfl⟩
   refine ⟨⟨sk.bk,?_,fun h=>absurd (ke.1 ▸ h) h3⟩,fun _=>ke.1,fun h=>absurd h h3⟩
   rw [sk.h]
   exact (hh.snoc (t:=evT p e) ht).mono (by omega)
end Go.Proofs.YtffflakmofbilaaGreat
namespace Go.Proofs.YtffflakmofbilaaGreat
set_option linter.unusedSimpArgs false
set_option linter.unusedVariables false
set_option maxRecDepth 8000
open Go Go.Av
attribute [local irreducible] Go.Av.yD Go.Av.zQ Go.Av.yC Go.Av.zJ Go.Av.xZ Go.Av.yT Go.Av.Con
abbrev cA : Cf := ⟨0, 0, 1, [⟨0, 1, 0, 0⟩, ⟨1, 1, 0, 0⟩, ⟨2, 1, 0, 0⟩]⟩
def p0A : Lq := ⟨0, 0, 0, ⟨startS cA, []⟩, ⟨0, 0⟩, 0, 0, 0, 0, 0, []⟩
def mA : Mg := mgZ 1 0 2 0 0 ⟨0, 0⟩ []
def p1A : Lq := begQ p0A
def p2A : Lq := { p1A with ep := 16, ac := 16, ls := [⟨1, 1, 0, 0, [], 0, 0, 0⟩] }
theorem okP0 : OkH p0A.h := ⟨by decide, by decide, by decide, by decide, fun t ht => (by cases ht), by decide⟩
theorem bkP1 : Bk 0 p1A := ⟨rfl, rfl, List.Pairwise.nil, fun y hy => (by cases hy), fun y hy => (by cases hy)⟩
theorem choA : uR ⟨p1A, false, []⟩ = ⟨p1A, false, []⟩ := by kernel_rfl
theorem hearA : hearS p1A mA = ⟨p2A, false, [xP p2A 1 (mgK 3)]⟩ := by kernel_rfl
theorem start21_con : zG Tryz.prog 32 [.p (.agg [I 0, I 0, I 1, .sl 4 [[I 0, I 1, I 0, I 0], [I 1, I 1, I 0, I 0], [I 2, I 1, I 0, I 0]]])] (.p (.agg [.sl 5 [[SB [47], SB [], I 0, I 0, I 0]], .sl 1 [], I 1, I 0, I 0, I 1, .sl 4 [[I 0, I 1, I 0, I 0], [I 1, I 1, I 0, I 0], [I 2, I 1, I 0, I 0]], I 0, I 0])) :=
 start08_con cA (by unfold okC;decide)
set_option maxHeartbeats 4000000 in
theorem awake21 : zG Tryz.prog 9 [] (.p (B true)) := by
 have c0:=three_con
 have c1:=start21_con
 have c2:=begin_con p0A okP0 (by decide) (fun y hy=>by cases hy)
 rw [show begQ p0A = p1A from rfl,choA] at c2
 have c3:=hear_con p1A mA bkP1 okP0 (by decide)
 rw [hearA] at c3
 unfold sOut at c3
 dsimp only at c2 c3
 rw [show zC [] = [] from rfl] at c2
 rw [show zC [xP p2A 1 (mgK 3)] = [(xP p2A 1 (mgK 3)).cells] from rfl] at c3
 have e0 : p0A.cells = [I 0,I 0,I 0,.sl 5 [[SB [47],SB [],I 0,I 0,I 0]],.sl 1 [],I 1,I 0,I 0,I 1,.sl 4 [[I 0,I 1,I 0,I 0],[I 1,I 1,I 0,I 0],[I 2,I 1,I 0,I 0]],I 0,I 0,.sl 8 [],I 0,I 0,I 0,I 0,I 0,I 0,I 0,I 0,I 0,I 0,I 0,I 0,I 0,I 0,I 0,I 0,I 0,I 0,I 0,.sl 7 [],I 0,I 0,I 0,I 0,.sl 8 []]:=rfl
 have e1 : p1A.cells = [I 0,I 0,I 0,.sl 5 [[SB [47],SB [],I 0,I 0,I 0]],.sl 1 [],I 1,I 0,I 0,I 1,.sl 4 [[I 0,I 1,I 0,I 0],[I 1,I 1,I 0,I 0],[I 2,I 1,I 0,I 0]],I 0,I 0,.sl 8 [],I 0,I 0,I 2,I 0,I 0,I 0,I 0,I 0,I 0,I 0,I 0,I 0,I 0,I 0,I 0,I 0,I 0,I 0,I 0,.sl 7 [],I 0,I 1,I 0,I 0,.sl 8 []]:=rfl
 have e2 : p2A.cells = [I 0,I 16,I 0,.sl 5 [[SB [47],SB [],I 0,I 0,I 0]],.sl 1 [],I 1,I 0,I 0,I 1,.sl 4 [[I 0,I 1,I 0,I 0],[I 1,I 1,I 0,I 0],[I 2,I 1,I 0,I 0]],I 0,I 0,.sl 8 [],I 0,I 0,I 2,I 0,I 0,I 0,I 0,I 0,I 0,I 0,I 0,I 0,I 0,I 0,I 0,I 0,I 0,I 0,I 0,.sl 7 [],I 0,I 1,I 0,I 16,.sl 8 [[I 1,I 1,I 0,I 0,.sl 2 [],I 0,I 0,I 0]]]:=rfl
 have e3 : mA.cells = [I 1,I 0,I 2,I 0,I 0,I 0,I 0,I 0,I 0,I 0,I 0,I 0,I 0,I 0,.sl 2 [],I 0,I 0,I 0,.sl 5 [],.sl 1 [],I 0,I 0,I 0,I 0,.sl 4 [],I 0,I 0,.sl 8 [],I 0,I 0,I 0,I 0,I 0,I 0,SB [],.sl 11 [],.sl 1 [],I 0,I 0,I 0,.sl 6 [],I 0,.sl 4 [],.sl 1 [],I 0,I 0]:=rfl
 have e4 : (xP p2A 1 (mgK 3)).cells = [I 0,I 1,I 3,I 0,I 0,I 0,I 0,I 0,I 0,I 0,I 16,I 0,I 0,I 0,.sl 2 [],I 0,I 0,I 0,.sl 5 [],.sl 1 [],I 0,I 0,I 0,I 0,.sl 4 [],I 0,I 0,.sl 8 [],I 0,I 0,I 0,I 0,I 0,I 0,SB [],.sl 11 [],.sl 1 [],I 0,I 0,I 0,.sl 6 [],I 0,.sl 4 [],.sl 1 [],I 0,I 0]:=rfl
 rw [e0,e1] at c2
 rw [e1,e2,e3,e4] at c3
 refine zL Tryz.tab Tryz.mixed Tryz.func9 rfl rfl Tryz.ntmps9 (by simp) (by simp) fun Q hr hn=>?_
 repeat' first|(refine zQ.pure (c0) rfl ?_)|(refine zQ.pure (c1) rfl ?_)|(refine zQ.pure (c2) rfl ?_)|(refine zQ.pure (c3) rfl ?_)|(refine hK _ ?_;clear hK)|(refine zU fun K hK=>?_)|(refine zT ?_;simp only [uP,uO,strip])|((first | refine wOs fun K hK=>?_ | refine zY ?_);simp)|(refine zN ?_;try simp)|(refine wOn ?_;try simp only [zZ])
 all_goals apply hr
 all_goals simp [Tryz.f9]
end Go.Proofs.YtffflakmofbilaaGreat
namespace Go.Proofs.YtffflakmofbilaaGreat
set_option linter.unusedSimpArgs false
set_option linter.unusedVariables false
open Go Go.Av
attribute [local irreducible] Go.Av.yD Go.Av.zQ Go.Av.yC Go.Av.zJ Go.Av.xZ Go.Av.yT Go.Av.Con
theorem lastC_snoc {ps : List Pt} {q : Nat} (h : q < ps.length) : xO (ps.take (q + 1)) = if ps[q].k = 5 then some ps[q].c else xO (ps.take q) := by
 rw [List.take_succ_eq_append_getElem h]
 unfold xO
 rw [List.filter_append]
 by_cases g : ps[q].k = 5
 ·rw [if_pos g,List.filter_cons,if_pos (decide_eq_true g)];simp
 ·rw [if_neg g,List.filter_cons,if_neg (by simpa using g)];simp
def addC (l : List Cf) : Option Cf -> List Cf
 | none=>l
 | some c=>l ++ [c]
def addZ (l : List Zx) (z : Zx) : Option Cf -> List Zx
 | none=>l
 | some _=>l ++ [z]
def cfA (h : Hy) (l : List Tx) : List Cf := l.foldl (fun a t => addC a (xO t.ps)) [h.im.c]
def zxA (h : Hy) (l : List Tx) : List Zx := l.foldl (fun a t => addZ a ⟨t.e, t.n⟩ (xO t.ps)) [⟨h.im.ae, h.im.an⟩]
theorem cfA_snoc (h : Hy) {l : List Tx} {k : Nat} (hk : k < l.length) : cfA h (l.take (k + 1)) = addC (cfA h (l.take k)) (xO l[k].ps) := by
 rw [List.take_succ_eq_append_getElem hk,cfA,List.foldl_append];rfl
theorem zxA_snoc (h : Hy) {l : List Tx} {k : Nat} (hk : k < l.length) : zxA h (l.take (k + 1)) = addZ (zxA h (l.take k)) ⟨l[k].e, l[k].n⟩ (xO l[k].ps) := by
 rw [List.take_succ_eq_append_getElem hk,zxA,List.foldl_append];rfl
theorem cfA_ns (h : Hy) : ∀ (k : Nat) {l : List Tx}, k <= l.length -> ∃ pre prz, (cfA h (l.take k) = pre ++ (if (wA h (l.take k)).ch = true then [(wA h (l.take k)).was, (wA h (l.take k)).now] else [(wA h (l.take k)).now])) /\ ((wA h (l.take k)).ch = false -> pre = []) /\ zxA h (l.take k) = prz ++ [⟨(wA h (l.take k)).fe, (wA h (l.take k)).fn⟩] /\ (zxA h (l.take k)).length = (cfA h (l.take k)).length /\ (cfA h (l.take k)).length <= k + 1
 | 0,l,_=>⟨[],[],by simp [cfA,wA,ns0],by simp,by simp [zxA,wA,ns0],by simp [cfA,zxA],by simp [cfA]⟩
 | k + 1, l, hk => by
  obtain ⟨pre,prz,h1,h2,h3,h4,h5⟩:=cfA_ns h k (l:=l) (by omega)
  rw [cfA_snoc h (by omega),zxA_snoc h (by omega),nsOf_snoc h (by omega)]
  generalize cfA h (l.take k) = a at *
  generalize zxA h (l.take k) = z at *
  generalize wA h (l.take k) = s at *
  cases hc : xO (l[k]'(by omega)).ps with
  | none =>
   refine ⟨pre,prz,?_,?_,?_,?_,?_⟩
   all_goals simp only [nsStep,hc,addC,addZ]
   ·exact h1
   ·exact h2
   ·exact h3
   ·exact h4
   ·omega
  | some c =>
   by_cases hch : s.ch = true
   ·refine ⟨pre ++ [s.was], z, ?_, ?_, ?_, ?_, ?_⟩
    all_goals simp only [nsStep,hc,addC,addZ,if_true]
    ·rw [h1,if_pos hch];simp
    ·intro h;simp at h
    ·simp [h4]
    ·simp;omega
   ·refine ⟨[], z, ?_, ?_, ?_, ?_, ?_⟩
    all_goals simp only [nsStep,hc,addC,addZ,if_true]
    ·rw [h1,if_neg hch,h2 (by simpa using hch)];simp
    ·intro h;trivial
    ·simp [h4]
    ·simp;omega
theorem cfs_app (l : List Cf) (c : Cf) : cfs l ++ [[I c.ep, I c.n, I c.kind, .sl 4 (mbs c.ms)]] = cfs (l ++ [c]) := by simp [cfs, Cf.cells]
theorem zxs_appK (l : List Zx) (e n : Int) : zxs l ++ [[I e, I n]] = zxs (l ++ [⟨e, n⟩]) := by simp [zxs]
theorem cfs_cut (l : List Cf) (c : Cf) : (cfs (l ++ [c])).take l.length = cfs l := by simp [cfs]
theorem zxs_cut (l : List Zx) (z : Zx) : (zxs (l ++ [z])).take l.length = zxs l := by simp [zxs]
set_option maxHeartbeats 16000000 in
theorem configs16_con (h : Hy) (hk : OkH h) : zG Tryz.prog 40 [.p (.agg h.cells)] (.tup [.p (.sl 4 (cfs (cfA h h.lg))), .p (.sl 2 (zxs (zxA h h.lg)))]) := by
 have c1:=own16_con h.im hk.ns hk.ss hk.c
 have hlg:=hk.lg
 have e0 : cfs [h.im.c] = [[I h.im.c.ep,I h.im.c.n,I h.im.c.kind,.sl 4 (mbs h.im.c.ms)]]:=rfl
 have e1 : zxs [⟨h.im.ae,h.im.an⟩] = [[I h.im.ae,I h.im.an]]:=rfl
 unfold Hy.cells
 unfold Sv.cells at c1
 refine zL Tryz.tab Tryz.mixed Tryz.func40 rfl rfl Tryz.ntmps40 (by simp) (by simp) fun Q hr hn=>?_
 repeat' first|(refine hK _ ?_;clear hK)|(refine zU fun K hK=>?_)|(refine zT ?_;simp only [uP,uO,strip])|((first | refine wOs fun K hK=>?_ | refine zY ?_);simp)|(first | refine zW ?_)|(refine wOn ?_;try simp only [zZ])|(refine zQ.pure (c1) rfl ?_)
 refine yW (fun N st=>∃ (k : Nat) (a : List Cf) (z : List Zx),k + N = h.lg.length /\ a = cfA h (h.lg.take k) /\ z = zxA h (h.lg.take k) /\ z.length = a.length /\ 1 <= a.length /\ a.length <= k + 1 /\ st.s 1 = .ptr 1 0 /\ st.b 1 = some (.box 33 [.p (.sl 5 (zns h.im.ns)),.p (.sl 1 (ints h.im.ss)),.p (I h.im.nx),.p (I h.im.c.ep),.p (I h.im.c.n),.p (I h.im.c.kind),.p (.sl 4 (mbs h.im.c.ms)),.p (I h.im.ae),.p (I h.im.an),.p (.sl 8 (zA h.lg))]) /\ st.s 21 = .p (.sl 8 (zA h.lg)) /\ st.s 22 = .p (I h.lg.length) /\ st.s 23 = .p (I k) /\ ((st.s 4 = .full 4 (cfs a) /\ st.s 5 = .full 2 (zxs z) /\ a.length = 1 /\ z.length = 1) \/ (st.s 4 = .row 53 /\ st.s 5 = .row 58 /\ st.b 53 = some (.row 28 4 (cfs a)) /\ st.b 58 = some (.row 25 2 (zxs z))))) h.lg.length ⟨0,[h.im.c],[⟨h.im.ae,h.im.an⟩],by simp [cfA,zxA,e0,e1]⟩ fun K N st hL ⟨k,a,z,hkN,ha,hz,hzl,ha1,hal,g1,b1,g21,g22,g23,hrow⟩=>?_
 by_cases hlt : k < h.lg.length
 ·have hlt' : (k : Int) < h.lg.length := by omega
  have hw:=yV k _ hlt (by omega)
  have he:=xI hlt
  have hca:=cfA_snoc h hlt
  have hza:=zxA_snoc h hlt
  rw [<- ha] at hca
  rw [<- hz] at hza
  obtain ⟨hp1,hp2⟩:=hk.ps _ (List.getElem_mem hlt)
  have c2:=copied16_con h.lg[k] hp1 hp2
  unfold Tx.cells at c2
  have hlc0 : xO (h.lg[k].ps.take 0) = none:=by simp [xO]
  obtain ⟨ps,hps⟩ : ∃ ps,ps = h.lg[k].ps:=⟨_,rfl⟩
  rcases hrow with ⟨g4,g5,l4,l5⟩ | ⟨g4,g5,b53,b58⟩
  ·repeat' first | (refine hK _ ?_; clear hK) | (refine zU fun K hK => ?_) | (refine zT ?_; simp only [uP, uO, strip]) | ((first | refine wOs fun K hK => ?_ | refine zY ?_ | refine zX ?_); simp [g21, g22, g23, hlt, hlt']) | (first | refine zW ?_) | (refine zR ?_; try simp) | (refine wOn ?_; try simp only [zZ]) | (refine zQ.pure (c2) rfl ?_)
   refine yW (fun N' st=>∃ (q : Nat),q + N' = h.lg[k].ps.length /\ st.s 1 = .ptr 1 0 /\ st.b 1 = some (.box 33 [.p (.sl 5 (zns h.im.ns)),.p (.sl 1 (ints h.im.ss)),.p (I h.im.nx),.p (I h.im.c.ep),.p (I h.im.c.n),.p (I h.im.c.kind),.p (.sl 4 (mbs h.im.c.ms)),.p (I h.im.ae),.p (I h.im.an),.p (.sl 8 (zA h.lg))]) /\ st.s 21 = .p (.sl 8 (zA h.lg)) /\ st.s 22 = .p (I h.lg.length) /\ st.s 23 = .p (I k) /\ st.s 7 = .ptr 7 0 /\ st.b 7 = some (.box 58 [.p (I h.lg[k].e),.p (I h.lg[k].n),.p (I h.lg[k].s),.p (I h.lg[k].x),.p (I h.lg[k].r),.p (I h.lg[k].b),.p (SB h.lg[k].m),.p (.sl 11 (pts h.lg[k].ps))]) /\ st.s 8 = .p (B (xO (h.lg[k].ps.take q)).isSome) /\ st.s 29 = .p (.sl 11 (pts h.lg[k].ps)) /\ st.s 30 = .p (I h.lg[k].ps.length) /\ st.s 31 = .p (I q) /\ ((st.s 4 = .full 4 (cfs (addC a (xO (h.lg[k].ps.take q)))) /\ st.s 5 = .full 2 (zxs (addZ z ⟨h.lg[k].e,h.lg[k].n⟩ (xO (h.lg[k].ps.take q)))) /\ (addC a (xO (h.lg[k].ps.take q))).length = 1 /\ (addZ z ⟨h.lg[k].e,h.lg[k].n⟩ (xO (h.lg[k].ps.take q))).length = 1) \/ (st.s 4 = .row 53 /\ st.s 5 = .row 58 /\ st.b 53 = some (.row 28 4 (cfs (addC a (xO (h.lg[k].ps.take q))))) /\ st.b 58 = some (.row 25 2 (zxs (addZ z ⟨h.lg[k].e,h.lg[k].n⟩ (xO (h.lg[k].ps.take q)))))))) h.lg[k].ps.length ⟨0,by simp [g1,b1,g21,g22,g23,g4,g5,xO,addC,addZ];omega⟩ fun K' N' st hL' ⟨q,hq,e1,d1,e21,e22,e23,e7,d7,e8,e29,e30,e31,hr2⟩=>?_
   by_cases hlq : q < h.lg[k].ps.length
   ·have hlq' : (q : Int) < h.lg[k].ps.length := by omega
    have hwq:=yV q _ hlq (by omega)
    have heq:=pts_get hlq
    have hsn:=lastC_snoc hlq
    by_cases o : (h.lg[k].ps[q]).k = 5
    ·rw [if_pos o] at hsn
     cases hlc : xO (h.lg[k].ps.take q) with
     | none =>
      rw [hlc] at e8 hr2
      simp only [addC,addZ,Option.isSome] at e8 hr2
      have s1:=cfs_app a (h.lg[k].ps[q]).c
      have s2:=zxs_appK z h.lg[k].e h.lg[k].n
      rcases hr2 with ⟨f4,f5,m4,m5⟩ | ⟨f4,f5,d53,d58⟩
      ·repeat' first | (refine And.intro (by (try simp only [cfs_len, wO, List.length_append, List.length_cons, List.length_nil]); omega) ?_) | (refine Or.inl ?_) | (refine hK _ ?_; clear hK) | (refine zU fun K hK => ?_) | (refine zT ?_; simp only [uP, uO, strip]) | ((first | refine wOs fun K hK => ?_ | refine zX ?_); simp [e7, d7, e8, e29, e30, e31, f4, f5, hlq, hlq', hwq, o, s1, s2, Pt.cells]) | (first | refine zW ?_) | (refine zR ?_; try simp) | (refine wOn ?_; try simp only [zZ])
       refine hL' _ (N' - 1) (by omega) ⟨q + 1,by omega,?_⟩
       simp [e1,d1,e7,d7,e21,e22,e23,e29,e30,hsn,addC,addZ]
      ·repeat' first | (refine And.intro (by (try simp only [cfs_len, wO, List.length_append, List.length_cons, List.length_nil]); omega) ?_) | (refine hK _ ?_; clear hK) | (refine zU fun K hK => ?_) | (refine zT ?_; simp only [uP, uO, strip]) | ((first | refine wOs fun K hK => ?_ | refine zX ?_); simp [e7, d7, e8, e29, e30, e31, f4, f5, d53, d58, hlq, hlq', hwq, o, s1, s2, Pt.cells]) | (first | refine zW ?_) | (refine zR ?_; try simp) | (refine wOn ?_; try simp only [zZ])
       refine hL' _ (N' - 1) (by omega) ⟨q + 1,by omega,?_⟩
       simp [e1,d1,e7,d7,e21,e22,e23,e29,e30,hsn,addC,addZ]
     | some c =>
      rw [hlc] at e8 hr2
      simp only [addC,addZ,Option.isSome] at e8 hr2
      have s1:=cfs_app a (h.lg[k].ps[q]).c
      have s2:=zxs_appK z h.lg[k].e h.lg[k].n
      have s3:=cfs_cut a c
      have s4:=zxs_cut z ⟨h.lg[k].e,h.lg[k].n⟩
      have w1 : IntKind.i64.wrap (a.length : Int) = a.length:=by rw [zD] <;> omega
      have w2 : IntKind.i64.wrap (z.length : Int) = z.length:=by rw [zD] <;> omega
      rcases hr2 with ⟨f4,f5,m4,m5⟩ | ⟨f4,f5,d53,d58⟩
      ·rw [List.length_append,List.length_cons,List.length_nil] at m4;omega
      ·repeat' first | (refine And.intro (by (try simp only [cfs_len, wO, List.length_append, List.length_cons, List.length_nil]); omega) ?_) | (refine hK _ ?_; clear hK) | (refine zU fun K hK => ?_) | (refine zT ?_; simp only [uP, uO, strip]) | ((first | refine wOs fun K hK => ?_ | refine zX ?_); simp [e7, d7, e8, e29, e30, e31, f4, f5, d53, d58, hlq, hlq', hwq, o, s1, s2, s3, s4, w1, w2, cfs_len, wO, Pt.cells]) | (first | refine zW ?_) | (refine zR ?_; try simp) | (refine wOn ?_; try simp only [zZ])
       refine hL' _ (N' - 1) (by omega) ⟨q + 1,by omega,?_⟩
       simp [e1,d1,e7,d7,e21,e22,e23,e29,e30,hsn,addC,addZ]
    ·rw [if_neg o] at hsn
     rcases hr2 with ⟨f4,f5,m4,m5⟩ | ⟨f4,f5,d53,d58⟩
     ·repeat' first | (refine hK _ ?_; clear hK) | (clear hK; refine hK _ ?_; clear hK) | (refine zU fun K hK => ?_) | (refine zT ?_; simp only [uP, uO, strip]) | ((first | refine wOs fun K hK => ?_ | refine zX ?_); simp [e29, e30, e31, hlq, hlq', hwq, o, Pt.cells]) | (first | refine zW ?_) | ((first | refine zH ?_ | refine zR ?_); try simp) | (refine wOn ?_; try simp only [zZ])
      refine hL' _ (N' - 1) (by omega) ⟨q + 1,by omega,?_⟩
      simp [e1,d1,e7,d7,e8,e21,e22,e23,e29,e30,f4,f5,hsn,m4,m5]
     ·repeat' first | (refine hK _ ?_; clear hK) | (clear hK; refine hK _ ?_; clear hK) | (refine zU fun K hK => ?_) | (refine zT ?_; simp only [uP, uO, strip]) | ((first | refine wOs fun K hK => ?_ | refine zX ?_); simp [e29, e30, e31, hlq, hlq', hwq, o, Pt.cells]) | (first | refine zW ?_) | ((first | refine zH ?_ | refine zR ?_); try simp) | (refine wOn ?_; try simp only [zZ])
      refine hL' _ (N' - 1) (by omega) ⟨q + 1,by omega,?_⟩
      simp [e1,d1,e7,d7,e8,e21,e22,e23,e29,e30,f4,f5,d53,d58,hsn]
   ·have hlq' : ¬ (q : Int) < h.lg[k].ps.length := by omega
    rw [List.take_of_length_le (by omega)] at hr2
    rw [<- hca,<- hza] at hr2
    have hl1 : (zxA h (h.lg.take (k + 1))).length = (cfA h (h.lg.take (k + 1))).length /\ 1 <= (cfA h (h.lg.take (k + 1))).length /\ (cfA h (h.lg.take (k + 1))).length <= k + 2 := by
     rw [hca,hza]
     cases xO h.lg[k].ps <;> simp [addC,addZ] <;> omega
    rcases hr2 with ⟨f4,f5,m4,m5⟩ | ⟨f4,f5,d53,d58⟩
    ·repeat' first | (refine hK _ ?_; clear hK) | (clear hK; refine hK _ ?_; clear hK) | (refine zU fun K hK => ?_) | (refine zT ?_; simp only [uP, uO, strip]) | ((first | refine wOs fun K hK => ?_ | refine zX ?_); simp [e23, e30, e31, hlq', hw]) | (refine zH ?_; try simp) | (refine wOn ?_; try simp only [zZ])
     refine hL _ (N - 1) (by omega) ⟨k + 1,_,_,by omega,rfl,rfl,hl1.1,hl1.2.1,hl1.2.2,?_⟩
     simp [e1,d1,e21,e22,f4,f5,m4,m5]
    ·repeat' first | (refine hK _ ?_; clear hK) | (clear hK; refine hK _ ?_; clear hK) | (refine zU fun K hK => ?_) | (refine zT ?_; simp only [uP, uO, strip]) | ((first | refine wOs fun K hK => ?_ | refine zX ?_); simp [e23, e30, e31, hlq', hw]) | (refine zH ?_; try simp) | (refine wOn ?_; try simp only [zZ])
     refine hL _ (N - 1) (by omega) ⟨k + 1,_,_,by omega,rfl,rfl,hl1.1,hl1.2.1,hl1.2.2,?_⟩
     simp [e1,d1,e21,e22,f4,f5,d53,d58]
  ·repeat' first | (refine hK _ ?_; clear hK) | (refine zU fun K hK => ?_) | (refine zT ?_; simp only [uP, uO, strip]) | ((first | refine wOs fun K hK => ?_ | refine zY ?_ | refine zX ?_); simp [g21, g22, g23, hlt, hlt']) | (first | refine zW ?_) | (refine zR ?_; try simp) | (refine wOn ?_; try simp only [zZ]) | (refine zQ.pure (c2) rfl ?_)
   refine yW (fun N' st=>∃ (q : Nat),q + N' = h.lg[k].ps.length /\ st.s 1 = .ptr 1 0 /\ st.b 1 = some (.box 33 [.p (.sl 5 (zns h.im.ns)),.p (.sl 1 (ints h.im.ss)),.p (I h.im.nx),.p (I h.im.c.ep),.p (I h.im.c.n),.p (I h.im.c.kind),.p (.sl 4 (mbs h.im.c.ms)),.p (I h.im.ae),.p (I h.im.an),.p (.sl 8 (zA h.lg))]) /\ st.s 21 = .p (.sl 8 (zA h.lg)) /\ st.s 22 = .p (I h.lg.length) /\ st.s 23 = .p (I k) /\ st.s 7 = .ptr 7 0 /\ st.b 7 = some (.box 58 [.p (I h.lg[k].e),.p (I h.lg[k].n),.p (I h.lg[k].s),.p (I h.lg[k].x),.p (I h.lg[k].r),.p (I h.lg[k].b),.p (SB h.lg[k].m),.p (.sl 11 (pts h.lg[k].ps))]) /\ st.s 8 = .p (B (xO (h.lg[k].ps.take q)).isSome) /\ st.s 29 = .p (.sl 11 (pts h.lg[k].ps)) /\ st.s 30 = .p (I h.lg[k].ps.length) /\ st.s 31 = .p (I q) /\ ((st.s 4 = .full 4 (cfs (addC a (xO (h.lg[k].ps.take q)))) /\ st.s 5 = .full 2 (zxs (addZ z ⟨h.lg[k].e,h.lg[k].n⟩ (xO (h.lg[k].ps.take q)))) /\ (addC a (xO (h.lg[k].ps.take q))).length = 1 /\ (addZ z ⟨h.lg[k].e,h.lg[k].n⟩ (xO (h.lg[k].ps.take q))).length = 1) \/ (st.s 4 = .row 53 /\ st.s 5 = .row 58 /\ st.b 53 = some (.row 28 4 (cfs (addC a (xO (h.lg[k].ps.take q))))) /\ st.b 58 = some (.row 25 2 (zxs (addZ z ⟨h.lg[k].e,h.lg[k].n⟩ (xO (h.lg[k].ps.take q)))))))) h.lg[k].ps.length ⟨0,by simp [g1,b1,g21,g22,g23,g4,g5,b53,b58,xO,addC,addZ]⟩ fun K' N' st hL' ⟨q,hq,e1,d1,e21,e22,e23,e7,d7,e8,e29,e30,e31,hr2⟩=>?_
   by_cases hlq : q < h.lg[k].ps.length
   ·have hlq' : (q : Int) < h.lg[k].ps.length := by omega
    have hwq:=yV q _ hlq (by omega)
    have heq:=pts_get hlq
    have hsn:=lastC_snoc hlq
    by_cases o : (h.lg[k].ps[q]).k = 5
    ·rw [if_pos o] at hsn
     cases hlc : xO (h.lg[k].ps.take q) with
     | none =>
      rw [hlc] at e8 hr2
      simp only [addC,addZ,Option.isSome] at e8 hr2
      have s1:=cfs_app a (h.lg[k].ps[q]).c
      have s2:=zxs_appK z h.lg[k].e h.lg[k].n
      rcases hr2 with ⟨f4,f5,m4,m5⟩ | ⟨f4,f5,d53,d58⟩
      ·repeat' first | (refine And.intro (by (try simp only [cfs_len, wO, List.length_append, List.length_cons, List.length_nil]); omega) ?_) | (refine Or.inl ?_) | (refine hK _ ?_; clear hK) | (refine zU fun K hK => ?_) | (refine zT ?_; simp only [uP, uO, strip]) | ((first | refine wOs fun K hK => ?_ | refine zX ?_); simp [e7, d7, e8, e29, e30, e31, f4, f5, hlq, hlq', hwq, o, s1, s2, Pt.cells]) | (first | refine zW ?_) | (refine zR ?_; try simp) | (refine wOn ?_; try simp only [zZ])
       refine hL' _ (N' - 1) (by omega) ⟨q + 1,by omega,?_⟩
       simp [e1,d1,e7,d7,e21,e22,e23,e29,e30,hsn,addC,addZ]
      ·repeat' first | (refine And.intro (by (try simp only [cfs_len, wO, List.length_append, List.length_cons, List.length_nil]); omega) ?_) | (refine hK _ ?_; clear hK) | (refine zU fun K hK => ?_) | (refine zT ?_; simp only [uP, uO, strip]) | ((first | refine wOs fun K hK => ?_ | refine zX ?_); simp [e7, d7, e8, e29, e30, e31, f4, f5, d53, d58, hlq, hlq', hwq, o, s1, s2, Pt.cells]) | (first | refine zW ?_) | (refine zR ?_; try simp) | (refine wOn ?_; try simp only [zZ])
       refine hL' _ (N' - 1) (by omega) ⟨q + 1,by omega,?_⟩
       simp [e1,d1,e7,d7,e21,e22,e23,e29,e30,hsn,addC,addZ]
     | some c =>
      rw [hlc] at e8 hr2
      simp only [addC,addZ,Option.isSome] at e8 hr2
      have s1:=cfs_app a (h.lg[k].ps[q]).c
      have s2:=zxs_appK z h.lg[k].e h.lg[k].n
      have s3:=cfs_cut a c
      have s4:=zxs_cut z ⟨h.lg[k].e,h.lg[k].n⟩
      have w1 : IntKind.i64.wrap (a.length : Int) = a.length:=by rw [zD] <;> omega
      have w2 : IntKind.i64.wrap (z.length : Int) = z.length:=by rw [zD] <;> omega
      rcases hr2 with ⟨f4,f5,m4,m5⟩ | ⟨f4,f5,d53,d58⟩
      ·rw [List.length_append,List.length_cons,List.length_nil] at m4;omega
      ·repeat' first | (refine And.intro (by (try simp only [cfs_len, wO, List.length_append, List.length_cons, List.length_nil]); omega) ?_) | (refine hK _ ?_; clear hK) | (refine zU fun K hK => ?_) | (refine zT ?_; simp only [uP, uO, strip]) | ((first | refine wOs fun K hK => ?_ | refine zX ?_); simp [e7, d7, e8, e29, e30, e31, f4, f5, d53, d58, hlq, hlq', hwq, o, s1, s2, s3, s4, w1, w2, cfs_len, wO, Pt.cells]) | (first | refine zW ?_) | (refine zR ?_; try simp) | (refine wOn ?_; try simp only [zZ])
       refine hL' _ (N' - 1) (by omega) ⟨q + 1,by omega,?_⟩
       simp [e1,d1,e7,d7,e21,e22,e23,e29,e30,hsn,addC,addZ]
    ·rw [if_neg o] at hsn
     rcases hr2 with ⟨f4,f5,m4,m5⟩ | ⟨f4,f5,d53,d58⟩
     ·repeat' first | (refine hK _ ?_; clear hK) | (clear hK; refine hK _ ?_; clear hK) | (refine zU fun K hK => ?_) | (refine zT ?_; simp only [uP, uO, strip]) | ((first | refine wOs fun K hK => ?_ | refine zX ?_); simp [e29, e30, e31, hlq, hlq', hwq, o, Pt.cells]) | (first | refine zW ?_) | ((first | refine zH ?_ | refine zR ?_); try simp) | (refine wOn ?_; try simp only [zZ])
      refine hL' _ (N' - 1) (by omega) ⟨q + 1,by omega,?_⟩
      simp [e1,d1,e7,d7,e8,e21,e22,e23,e29,e30,f4,f5,hsn,m4,m5]
     ·repeat' first | (refine hK _ ?_; clear hK) | (clear hK; refine hK _ ?_; clear hK) | (refine zU fun K hK => ?_) | (refine zT ?_; simp only [uP, uO, strip]) | ((first | refine wOs fun K hK => ?_ | refine zX ?_); simp [e29, e30, e31, hlq, hlq', hwq, o, Pt.cells]) | (first | refine zW ?_) | ((first | refine zH ?_ | refine zR ?_); try simp) | (refine wOn ?_; try simp only [zZ])
      refine hL' _ (N' - 1) (by omega) ⟨q + 1,by omega,?_⟩
      simp [e1,d1,e7,d7,e8,e21,e22,e23,e29,e30,f4,f5,d53,d58,hsn]
   ·have hlq' : ¬ (q : Int) < h.lg[k].ps.length := by omega
    rw [List.take_of_length_le (by omega)] at hr2
    rw [<- hca,<- hza] at hr2
    have hl1 : (zxA h (h.lg.take (k + 1))).length = (cfA h (h.lg.take (k + 1))).length /\ 1 <= (cfA h (h.lg.take (k + 1))).length /\ (cfA h (h.lg.take (k + 1))).length <= k + 2 := by
     rw [hca,hza]
     cases xO h.lg[k].ps <;> simp [addC,addZ] <;> omega
    rcases hr2 with ⟨f4,f5,m4,m5⟩ | ⟨f4,f5,d53,d58⟩
    ·repeat' first | (refine hK _ ?_; clear hK) | (clear hK; refine hK _ ?_; clear hK) | (refine zU fun K hK => ?_) | (refine zT ?_; simp only [uP, uO, strip]) | ((first | refine wOs fun K hK => ?_ | refine zX ?_); simp [e23, e30, e31, hlq', hw]) | (refine zH ?_; try simp) | (refine wOn ?_; try simp only [zZ])
     refine hL _ (N - 1) (by omega) ⟨k + 1,_,_,by omega,rfl,rfl,hl1.1,hl1.2.1,hl1.2.2,?_⟩
     simp [e1,d1,e21,e22,f4,f5,m4,m5]
    ·repeat' first | (refine hK _ ?_; clear hK) | (clear hK; refine hK _ ?_; clear hK) | (refine zU fun K hK => ?_) | (refine zT ?_; simp only [uP, uO, strip]) | ((first | refine wOs fun K hK => ?_ | refine zX ?_); simp [e23, e30, e31, hlq', hw]) | (refine zH ?_; try simp) | (refine wOn ?_; try simp only [zZ])
     refine hL _ (N - 1) (by omega) ⟨k + 1,_,_,by omega,rfl,rfl,hl1.1,hl1.2.1,hl1.2.2,?_⟩
     simp [e1,d1,e21,e22,f4,f5,d53,d58]
 ·have hlt' : ¬ (k : Int) < h.lg.length := by omega
  rw [List.take_of_length_le (by omega)] at ha hz
  rw [<- ha,<- hz] at hr
  rcases hrow with ⟨g4,g5,l4,l5⟩ | ⟨g4,g5,b53,b58⟩
  ·repeat' first | (refine hK _ ?_; clear hK) | (clear hK; refine hK _ ?_; clear hK) | (refine zU fun K hK => ?_) | (refine zT ?_; simp only [uP, uO, strip]) | ((first | refine wOs fun K hK => ?_ | refine zX ?_); simp [g22, g23, g4, g5, hlt']) | ((first | refine zN ?_ | refine zH ?_); try simp) | (refine wOn ?_; try simp only [zZ])
   all_goals apply hr
   all_goals simp [Tryz.f40]
  ·repeat' first | (refine hK _ ?_; clear hK) | (clear hK; refine hK _ ?_; clear hK) | (refine zU fun K hK => ?_) | (refine zT ?_; simp only [uP, uO, strip]) | ((first | refine wOs fun K hK => ?_ | refine zX ?_); simp [g22, g23, g4, g5, hlt']) | ((first | refine zN ?_ | refine zH ?_); try simp) | (refine wOn ?_; try simp only [zZ])
   all_goals apply hr
   all_goals simp [Tryz.f40,b53,b58]
theorem cfs_drop (p l : List Cf) : (cfs (p ++ l)).drop p.length = cfs l := by simp [cfs]
set_option maxHeartbeats 4000000 in
theorem needs16_con (h : Hy) (de dn : Int) (hk : OkH h) : zG Tryz.prog 15 [.p (.agg h.cells), .p (.agg [I de, I dn])] (.p (.sl 4 (cfs (yY h de dn)))) := by
 have c1:=configs16_con h hk
 obtain ⟨pre,prz,h1,h2,h3,h4,h5⟩:=cfA_ns h h.lg.length (l:=h.lg) (Nat.le_refl _)
 have hlg:=hk.lg
 simp only [List.take_length] at h1 h2 h3 h4 h5
 have c2:=cmp02_con (wA h h.lg).fe (wA h h.lg).fn de dn
 unfold yY endN
 generalize wA h h.lg = s at h1 h2 h3 c2 ⊢
 generalize cfA h h.lg = L at c1 h1 h4 h5
 generalize zxA h h.lg = Z at c1 h3 h4
 have hZ : Z.length = prz.length + 1:=by rw [h3];simp
 have hZg : (zxs Z)[prz.length]? = some [I s.fe,I s.fn]:=by rw [h3];simp [zxs]
 have hcl:=cfs_len L
 have hzl:=wO Z
 unfold Hy.cells at c1 ⊢
 by_cases o1 : s.ch = false
 ·rw [if_pos (.inl o1)]
  obtain rfl:=h2 o1
  rw [if_neg (by simp [o1]),List.nil_append] at h1
  have hl1 : L.length = 1:=by rw [h1];rfl
  have e1 : (cfs L).drop 0 = cfs [s.now]:=by rw [h1];rfl
  have e2 : cfs L = cfs [s.now]:=by rw [h1]
  rw [hl1] at hcl
  have w0 : IntKind.i64.wrap 0 = 0:=by rw [zD] <;> omega
  refine zL Tryz.tab Tryz.mixed Tryz.func15 rfl rfl Tryz.ntmps15 (by simp) (by simp) fun Q hr hn=>?_
  repeat' first|(refine hK _ ?_;clear hK)|(refine zU fun K hK=>?_)|((first | refine zT ?_ | refine zE rfl (by kernel_rfl) ?_);simp only [uP,uO,strip])|((first | refine wOs fun K hK=>?_ | refine wQs fun K hK=>?_ | refine zY ?_ | refine zX ?_);simp [hcl,w0])|(refine zN ?_;try simp)|((first | refine wOn ?_ | refine wQn ?_);try simp only [zZ])|(refine zQ.pure (c1) rfl ?_)
  all_goals apply hr
  all_goals simp [Tryz.f15,e2]
  all_goals rfl
 ·have o1' : s.ch = true := by simpa using o1
  rw [if_pos o1'] at h1
  have hl1 : L.length = pre.length + 2:=by rw [h1];simp
  have hpp : prz.length = pre.length + 1:=by omega
  rw [hpp] at hZg hZ
  rw [hl1] at hcl
  rw [hZ] at hzl
  have w1 : IntKind.i64.wrap ((pre.length : Int) + 2 - 1) = (pre.length : Int) + 1:=by rw [zD] <;> omega
  have w2 : IntKind.i64.wrap ((pre.length : Int) + 1 - 1) = (pre.length : Int):=by rw [zD] <;> omega
  have w2' : IntKind.i64.wrap (pre.length : Int) = (pre.length : Int):=by rw [zD] <;> omega
  have n0 : ¬ (pre.length : Int) + 1 = 0:=by omega
  have n1 : (0 : Int) <= (pre.length : Int) + 1:=by omega
  have n2 : ((pre.length : Int) + 1).toNat = pre.length + 1:=by omega
  have n3 : pre.length + 1 < Z.length:=by omega
  have n4 : pre.length + 1 <= L.length:=by omega
  have n5 : pre.length <= L.length:=by omega
  have e1 : (cfs L).drop (pre.length + 1) = cfs [s.now] := by
   have:=cfs_drop (pre ++ [s.was]) [s.now]
   rw [List.append_assoc,List.singleton_append,<- h1] at this
   rw [<- this];congr 1;simp
  have e2 : (cfs L).drop pre.length = cfs [s.was, s.now] := by
   have:=cfs_drop pre [s.was,s.now]
   rw [<- h1] at this
   exact this
  have hz1 : (Z[pre.length + 1]'(by omega)) = ⟨s.fe, s.fn⟩ := by
   have : Z[pre.length + 1]? = some ⟨s.fe,s.fn⟩:=by rw [h3,<- hpp];simp
   rw [List.getElem?_eq_getElem (by omega)] at this
   exact Option.some.inj this
  have hfe : s.fe = (Z[pre.length + 1]'(by omega)).e:=by rw [hz1]
  have hfn : s.fn = (Z[pre.length + 1]'(by omega)).n:=by rw [hz1]
  rw [hfe,hfn] at c2 ⊢
  clear hz1 hfe hfn hZg
  by_cases o2 : xM (Z[pre.length + 1]'(by omega)).e (Z[pre.length + 1]'(by omega)).n de dn <= 0
  ·rw [if_pos (.inr o2)]
   refine zL Tryz.tab Tryz.mixed Tryz.func15 rfl rfl Tryz.ntmps15 (by simp) (by simp) fun Q hr hn=>?_
   repeat' first|(refine hK _ ?_;clear hK)|(refine zU fun K hK=>?_)|((first | refine zT ?_ | refine zE rfl (by kernel_rfl) ?_);simp only [uP,uO,strip])|((first | refine wOs fun K hK=>?_ | refine wQs fun K hK=>?_ | refine zY ?_ | refine zK ?_ | refine zX ?_);simp [hcl,hzl,w1,n0,n1,n2,o2])|(refine zN ?_;try simp)|((first | refine wOn ?_ | refine wQn ?_);try simp only [zZ])|(refine zQ.pure (c1) rfl ?_)|(refine zJ.pure (c2) rfl ?_)
   all_goals apply hr
   all_goals simp [Tryz.f15]
   all_goals rw [List.take_of_length_le (by omega),e1]
  ·rw [if_neg (by rintro (h | h); exact o1 h; exact o2 h)]
   refine zL Tryz.tab Tryz.mixed Tryz.func15 rfl rfl Tryz.ntmps15 (by simp) (by simp) fun Q hr hn=>?_
   repeat' first|(refine hK _ ?_;clear hK)|(refine zU fun K hK=>?_)|((first | refine zT ?_ | refine zE rfl (by kernel_rfl) ?_);simp only [uP,uO,strip])|((first | refine wOs fun K hK=>?_ | refine wQs fun K hK=>?_ | refine zY ?_ | refine zK ?_ | refine zX ?_);simp [hcl,hzl,w1,w2',n0,n1,n2,o2])|((first | refine zN ?_ | refine zR ?_);try simp)|((first | refine wOn ?_ | refine wQn ?_);try simp only [zZ])|(refine zQ.pure (c1) rfl ?_)|(refine zJ.pure (c2) rfl ?_)
   all_goals apply hr
   all_goals simp [Tryz.f15]
   all_goals rw [List.take_of_length_le (by omega),e2]
end Go.Proofs.YtffflakmofbilaaGreat
namespace Go.Proofs.YtffflakmofbilaaGreat
set_option linter.unusedSimpArgs false
set_option linter.unusedVariables false
set_option maxRecDepth 8000
open Go Go.Av
attribute [local irreducible] Go.Av.yD Go.Av.zQ Go.Av.yC Go.Av.zJ Go.Av.xZ Go.Av.yT Go.Av.Con
def pB (p : Lq) : List V := [.p (I p.id), .p (I p.ac), .p (I p.cu), .p (.sl 5 (zns p.h.im.ns)), .p (.sl 1 (ints p.h.im.ss)), .p (I p.h.im.nx), .p (I p.h.im.c.ep), .p (I p.h.im.c.n), .p (I p.h.im.c.kind), .p (.sl 4 (mbs p.h.im.c.ms)), .p (I p.h.im.ae), .p (I p.h.im.an), .p (.sl 8 (zA p.h.lg)), .p (I p.d.e), .p (I p.d.n), .p (I p.mo), .p (I 0), .p (I 0), .p (I 0), .p (I 0), .p (I 0), .p (I 0), .p (I 0), .p (I 0), .p (I 0), .p (I 0), .p (I 0), .p (I 0), .p (I 0), .p (I 0), .p (I 0), .p (I 0), .p (.sl 7 []), .p (I p.ld), .p (I p.ph), .p (I p.wt), .p (I p.ep), .p (.sl 8 (lrs p.ls))]
def wB (w : Wh) : List V := [.p (I w.id), .p (I w.ac), .p (I w.cu), .p (.sl 5 (zns w.h.im.ns)), .p (.sl 1 (ints w.h.im.ss)), .p (I w.h.im.nx), .p (I w.h.im.c.ep), .p (I w.h.im.c.n), .p (I w.h.im.c.kind), .p (.sl 4 (mbs w.h.im.c.ms)), .p (I w.h.im.ae), .p (I w.h.im.an), .p (.sl 8 (zA w.h.lg))]
theorem begin_inv {w : Wh} (hm : mayW w) : InvE w 0 (uR ⟨begQ (beg w), false, []⟩).p := by
 have hb:=near_HB hm.2.2.2.1
 have bk : Bk w.id (begQ (beg w)):=⟨rfl,rfl,List.Pairwise.nil,fun y hy=>(by cases hy),fun y hy=>(by cases hy)⟩
 have sk : Sk w.id w.h ⟨begQ (beg w),false,[]⟩:=⟨bk,rfl⟩
 have sk2:=sk.cho
 refine ⟨sk2.bk,by rw [sk2.h];exact hb,fun h=>?_⟩
 rcases cho_ep ⟨begQ (beg w),false,[]⟩ with hc | hc
 ·rw [hc];exact ⟨rfl,rfl,rfl,rfl⟩
 ·exact absurd h hc.ne
end Go.Proofs.YtffflakmofbilaaGreat
