/- Texts that the proof needs: LDL LD12b LD12e. -/
import Derived.Test.YtffflakmofbilaaGreatP39LeadOrder
import Derived.Test.YtffflakmofbilaaGreatP35LeadOrder
import Derived.Test.YtffflakmofbilaaGreatP24LeadOrder
namespace Go.Proofs.YtffflakmofbilaaGreat
set_option linter.unusedSimpArgs false
set_option linter.unusedVariables false
set_option maxRecDepth 8000
open Go Go.Av
attribute [local irreducible] Go.Av.yA Go.Av.zR Go.Av.xZ Go.Av.zJ Go.Av.xV Go.Av.zG Go.Av.Con
theorem gone_con (y : Lr) (n : Int) : zB Tryz.prog 70 [.p (.agg y.cells), .rptr [I n] 0] (.p (B (decide (y.id = n)))) := by
 unfold Lr.cells
 by_cases h : y.id = n
 all_goals refine zK Tryz.tab Tryz.mixed Tryz.func70 rfl rfl Tryz.ntmps70 (by simp) (by simp) fun Q hr hn=>?_
 all_goals repeat' first|(refine hK _ ?_;clear hK)|(refine zT fun K hK=>?_)|(refine zS ?_;simp only [tZ,tY,strip])|(refine wOs fun K hK=>?_;simp [h])|(refine zL ?_;try simp)|(refine wOn ?_;try simp only [zZ])
 all_goals apply hr
 all_goals simp [Tryz.f70,h]
set_option maxHeartbeats 1000000 in
theorem indexN_con (l : List Lr) (n : Int) (hl : l.length <= 1000000) :
 zB Tryz.prog 103 [.p (.sl 8 (lrs l)),.clo ⟨70,false⟩ [.rp [I n] 0]] (.p (I (fiLV l n))):=by
 refine zK Tryz.tab Tryz.mixed Tryz.func103 rfl rfl Tryz.ntmps103 (by simp) (by simp) fun Q hr hn=>?_
 repeat' first|(refine hK _ ?_;clear hK)|(refine zT fun K hK=>?_)|(refine zS ?_;simp only [tZ,tY,strip])|(refine wOs fun K hK=>?_;simp)|(first | refine zU ?_)|(refine wOn ?_;try simp only [zZ])
 refine yJ (fun N st=>∃ k,k + N = l.length /\ st.s 0 = .p (.sl 8 (lrs l)) /\ st.s 1 = .clo ⟨70,false⟩ [.rp [I n] 0] /\ st.s 7 = .p (I l.length) /\ st.s 8 = .p (I k) /\ ∀ j (hj : j < k) (hjl : j < l.length),¬ l[j].id = n) l.length ⟨0,by simp⟩ fun K N st hL ⟨k,hk,g0,g1,g7,g8,hi⟩=>?_
 by_cases hlt : k < l.length
 ·have hlt' : (k : Int) < l.length := by omega
  have hw:=yF k _ hlt (by omega)
  have he:=xQ hlt
  have hx:=gone_con l[k] n
  unfold Lr.cells at hx
  by_cases o : l[k].id = n
  ·have hf : fiLV l n = k := by
    have:=fiL_of hlt o fun j hj=>hi j hj (by omega)
    unfold fiLV;rw [this,if_neg (by omega)]
   rw [hf] at hr
   rw [decide_eq_true o] at hx
   repeat' first|(refine hK _ ?_;clear hK)|(refine zT fun K hK=>?_)|(refine zS ?_;simp only [tZ,tY,strip])|((first | refine wOs fun K hK=>?_ | refine zY ?_ | refine zW ?_);simp [g0,g1,g7,g8,hlt,hlt'])|(first | refine zU ?_)|((first | refine zL ?_ | refine zP ?_);try simp)|(refine wOn ?_;try simp only [zZ])|(refine zR.pure (hx) rfl ?_)
   all_goals apply hr
   all_goals simp [Tryz.f103]
  ·rw [decide_eq_false o] at hx
   repeat' first|(refine hK _ ?_;clear hK)|(refine zT fun K hK=>?_)|(refine zS ?_;simp only [tZ,tY,strip])|((first | refine wOs fun K hK=>?_ | refine zY ?_ | refine zW ?_);simp [g0,g1,g7,g8,hlt,hlt',hw])|(first | refine zU ?_)|(refine zP ?_;try simp)|(refine wOn ?_;try simp only [zZ])|(refine zR.pure (hx) rfl ?_)
   refine hL _ (N - 1) (by omega) ⟨k + 1,by omega,?_⟩
   simp [g0,g1,g7]
   intro j hj hjl
   by_cases hjk : j = k
   ·subst hjk;exact o
   ·exact hi j (by omega) hjl
 ·have hlt' : ¬ (k : Int) < l.length := by omega
  have hf : fiLV l n = -1 := by
   have:=fiL_none (l:=l) (n:=n) fun j hj=>hi j (by omega) hj
   unfold fiLV;rw [if_pos this]
  rw [hf] at hr
  repeat' first|(refine hK _ ?_;clear hK)|(clear hK;refine hK _ ?_;clear hK)|(refine zT fun K hK=>?_)|(refine zS ?_;simp only [tZ,tY,strip])|((first | refine wOs fun K hK=>?_ | refine zW ?_);simp [g7,g8,hlt'])|((first | refine zL ?_ | refine zC ?_);try simp)|(refine wOn ?_;try simp only [zZ])
  all_goals apply hr
  all_goals simp [Tryz.f103]
set_option maxHeartbeats 4000000 in
theorem deleteN_con (l : List Lr) (n : Int) (hl : l.length <= 1000000) :
 Con Tryz.prog 69 [.row 1024,.clo ⟨70,false⟩ [.rp [I n] 0]] [.row 70 8 (lrs l)] (.ret (.row 1024) [] [.row 70 8 (lrs (wQ l n))]):=by
 have hc:=indexN_con l n hl
 by_cases hf : fiL l n = l.length
 ·have hv : fiLV l n = -1 := by unfold fiLV; rw [if_pos hf]
  rw [hv] at hc
  rw [butL_id hf]
  refine zE Tryz.tab Tryz.mixed Tryz.func69 rfl rfl Tryz.ntmps69 (by simp) (by simp) fun Q hr hn hp=>?_
  repeat' first|(refine hK _ ?_;clear hK)|(refine zT fun K hK=>?_)|(refine zS ?_;simp only [tZ,tY,strip])|((first | refine wOs fun K hK=>?_ | refine zY ?_ | refine zW ?_);simp [Cap.free])|(refine zL ?_;try simp)|(refine wOn ?_;try simp only [zZ])|(refine zR.lent (hc) rfl ?_)
  all_goals apply hr
  all_goals refine ⟨[],by simp,by simp,?_⟩
  all_goals simp [Tryz.f69,yL,yM,zO,gaN]
 ·have hlt0 : fiL l n < l.length := Nat.lt_of_le_of_ne (fiL_le l n) hf
  have hv : fiLV l n = fiL l n:=by unfold fiLV;rw [if_neg hf]
  have hne : ¬ ((fiL l n : Nat) : Int) = -1:=by omega
  have hw0:=yF (fiL l n) _ hlt0 (by omega)
  rw [hv] at hc
  have hst:=butL_fi hlt0
  generalize fiL l n = i0 at *
  refine zE Tryz.tab Tryz.mixed Tryz.func69 rfl rfl Tryz.ntmps69 (by simp) (by simp) fun Q hr hn hp=>?_
  repeat' first|(refine hK _ ?_;clear hK)|(refine zT fun K hK=>?_)|(refine zS ?_;simp only [tZ,tY,strip])|((first | refine wOs fun K hK=>?_ | refine zY ?_ | refine zW ?_);simp [hne,hw0,Cap.free])|(first | refine zU ?_)|(refine zP ?_;try simp)|(refine wOn ?_;try simp only [zZ])|(refine zR.lent (hc) rfl ?_)
  refine yJ (fun N st=>∃ (i j : Nat) (L : List Lr),j + N = l.length /\ i < j /\ L.length = l.length /\ wQ (l.take j) n = L.take i /\ (∀ q,j <= q -> L[q]? = l[q]?) /\ st.s 0 = .row 1024 /\ st.s 1 = .clo ⟨70,false⟩ [.rp [I n] 0] /\ st.s 5 = .p (I i) /\ st.s 6 = .p (I j) /\ st.b 1024 = some (.row 70 8 (lrs L))) (l.length - (i0 + 1)) ⟨i0,i0 + 1,l,by omega,by omega,rfl,hst,fun _ _=>rfl,by simp []⟩ fun K N st hL ⟨i,j,L,hk,hij,hLl,hB,hT,g0,g1,g5,g6,b0⟩=>?_
  by_cases hlt : j < l.length
  ·have hlt' : (j : Int) < l.length := by omega
   have hw:=yF j _ hlt (by omega)
   have hwi:=yF i l.length (by omega) (by omega)
   have hjL : j < L.length:=by omega
   have hiL : i < L.length:=by omega
   have he:=xQ hjL
   have hej : L[j] = l[j] := by
    have:=hT j (Nat.le_refl _)
    rw [List.getElem?_eq_getElem hjL,List.getElem?_eq_getElem hlt] at this
    simpa using this
   have hei:=xQ hiL
   have hil : i < l.length:=by omega
   have hx:=gone_con L[j] n
   have hs:=butL_snoc hlt n
   rw [<- hej] at hs
   have hset:=lrs_set L i L[j]
   unfold Lr.cells at hx
   by_cases o : L[j].id = n
   ·rw [if_pos o] at hs
    rw [decide_eq_true o] at hx
    repeat' first|(refine hK _ ?_;clear hK)|(refine zT fun K hK=>?_)|(refine zS ?_;simp only [tZ,tY,strip])|((first | refine wOs fun K hK=>?_ | refine zY ?_ | refine zW ?_);simp [g0,g1,g6,b0,hlt,hlt',hw,hLl])|(first | refine zU ?_)|(refine zP ?_;try simp)|(refine wOn ?_;try simp only [zZ])|(refine zR.pure (hx) rfl ?_)
    refine hL _ (N - 1) (by omega) ⟨i,j + 1,L,by omega,by omega,hLl,by rw [hs];exact hB,fun q hq=>hT q (by omega),?_⟩
    simp [g0,g1,g5,b0]
   ·rw [if_neg o, hB] at hs
    rw [decide_eq_false o] at hx
    repeat' first|(refine hK _ ?_;clear hK)|(refine zT fun K hK=>?_)|(refine zS ?_;simp only [tZ,tY,strip])|((first | refine wOs fun K hK=>?_ | refine zY ?_ | refine zW ?_);simp [g0,g1,g5,g6,b0,hlt,hlt',hw,hwi,hLl,hil,hset])|(first | refine zU ?_)|(refine zP ?_;try simp)|(refine wOn ?_;try simp only [zZ])|(refine zR.pure (hx) rfl ?_)
    refine hL _ (N - 1) (by omega) ⟨i + 1,j + 1,L.set i L[j],by omega,by omega,by simpa using hLl,?_,fun q hq=>?_,?_⟩
    ·rw [hs,set_takeK _ _ _ hiL]
    ·rw [List.getElem?_set_ne (by omega)];exact hT q (by omega)
    ·simp [g0,g1]
  ·obtain rfl : j = l.length := by omega
   rw [List.take_of_length_le (Nat.le_refl _)] at hB
   have hiL : i < L.length:=by omega
   have hiL' : i <= L.length:=by omega
   have hil2 : i <= l.length:=by omega
   have ht:=lrs_take L i
   have hfin : ∀ z : List (List PV), (List.take i (lrs L) ++ z).take i = lrs (wQ l n) := fun z => by
    have h1 : (lrs L).take i = lrs (L.take i):=lrs_take L i
    rw [h1,hB,List.take_append_of_le_length (by simp;omega),List.take_of_length_le (by simp;omega)]
   repeat' first|(refine hK _ ?_;clear hK)|(clear hK;refine hK _ ?_;clear hK)|(refine zT fun K hK=>?_)|(refine zS ?_;simp only [tZ,tY,strip])|((first | refine wOs fun K hK=>?_ | refine zW ?_);simp [g0,g5,g6,b0,hLl,hil2,hij])|((first | refine zL ?_ | refine zC ?_);try simp)|(refine wOn ?_;try simp only [zZ])
   all_goals (try rw [hfin])
   repeat' first|(refine hK _ ?_;clear hK)
   all_goals apply hr
   all_goals refine ⟨[],by simp,by simp,?_⟩
   all_goals simp [Tryz.f69,yL,yM,zO,gaN,hB,ht]
@[simp high] theorem lBxR_t_Y (p : Lq) (Y Z X : V) (g : Bool) : List.take 37 (yE p Y X g) ++ Z :: List.drop 38 (yE p Y X g) = yE p Z X g := rfl
def lostQ (p : Lq) (n : Int) : Lq := if p.mo = 2 then { p with ls := wQ (yU p.ls) n } else yQ p
set_option maxHeartbeats 4000000 in
theorem lostR_con (p : Lq) (n : Int) (hk : OkH p.h) (hne : ¬ p.ls.length = 0) (hl : p.ls.length <= 10000) (hl2 : (yU p.ls).length <= 1000000) (hm : ∀ y ∈ p.ls, y.ms.length <= 1000000) (f1 : p.mo = 2) : zB Tryz.prog 38 [.p (.agg p.cells), .p (I n)] (.tup [.p (.agg ({ p with ls := wQ (yU p.ls) n } : Lq).cells), .p (.sl 46 []), .p (B true)]) := by
 have c1:=startR_con p hk hne hl hm
 have c3:=deleteN_con (yU p.ls) n hl2
 have c4:=endR_con p false [] (lrs (wQ (yU p.ls) n))
 generalize yU p.ls = L at *
 have f1' : (p.mo = 2) = True:=eq_true f1
 generalize wQ L n = L2 at *
 have hres : ({ p with ls:=L2 } : Lq).cells = [I p.id,I p.ac,I p.cu,.sl 5 (zns p.h.im.ns),.sl 1 (ints p.h.im.ss),I p.h.im.nx,I p.h.im.c.ep,I p.h.im.c.n,I p.h.im.c.kind,.sl 4 (mbs p.h.im.c.ms),I p.h.im.ae,I p.h.im.an,.sl 8 (yW p.h.lg),I p.d.e,I p.d.n,I p.mo,I 0,I 0,I 0,I 0,I 0,I 0,I 0,I 0,I 0,I 0,I 0,I 0,I 0,I 0,I 0,I 0,.sl 7 [],I p.ld,I p.ph,I p.wt,I p.ep,.sl 8 (lrs L2)]:=rfl
 rw [hres]
 unfold lqFcR at c4
 clear f1 hk hl hm hne hl2 hres
 unfold Lq.cells at *
 refine zK Tryz.tab Tryz.mixed Tryz.func38 rfl rfl Tryz.ntmps38 (by simp) (by simp) fun Q hr hn=>?_
 repeat' first|(refine zV [] (c1) (by decide) (by decide) (by simp [zQ]) (by simp [zN,zH,toP]) ⟨[500,501,502],by simp,by simp,?_⟩;simp [lv,ouN,kpI,kpR,pos,ren,zX])|(refine wFrzX 3 rfl rfl ?_;simp [frzx,subx,subx0])|(refine zV [502] (c3) (by decide) (by decide) (by simp [zQ,zO]) (by simp [zN,zH,zX,inN,pos,xY,wS]) ⟨[],by simp,by simp,?_⟩;simp [lv,ouN,kpI,kpR,pos,ren,zX])|(refine zV [500,501,502] (c4) (by decide) (by decide) (by simp [zQ,inN,pos,zO,zX]) (by simp [zN,zH,zX,inN,pos]) ⟨[],by simp,by simp,?_⟩;simp [lv,ouN,kpI,kpR,pos,ren,zX,uJ,xA])|(refine hK _ ?_;clear hK)|(refine zT fun K hK=>?_)|(refine zS ?_;simp only [tZ,tY,strip])|((first | refine wOs fun K hK=>?_ | refine zW ?_);simp [ouN,kpR,pos,zX,zO,f1'])|(refine zL ?_;try simp)|(refine wOn ?_;try simp only [zZ])
 all_goals first | apply hr
 all_goals simp [Tryz.f38,pos,zO]
def plcQ (p : Lq) : Zx × Bool := if p.mo = 2 /\ p.ph = 3 then (if (zA p.h).e = p.ep then (⟨(uH (zA p.h).e (zA p.h).n).1, (uH (zA p.h).e (zA p.h).n).2⟩, decide (uG (zA p.h).e (zA p.h).n = 0)) else (⟨p.ep, 1⟩, true)) else (⟨0, 0⟩, false)
set_option maxHeartbeats 4000000 in
theorem place_con (p : Lq) (hl : p.h.lg.length <= 1000) : zB Tryz.prog 48 [.p (.agg p.cells)] (.tup [.p (.agg [I (plcQ p).1.e, I (plcQ p).1.n]), .p (B (plcQ p).2)]) := by
 have c1:=lastH_con p.h hl
 have c2:=next_con (zA p.h).e (zA p.h).n
 unfold plcQ
 unfold Lq.cells
 unfold Hy.cells at c1
 generalize zA p.h = last at *
 by_cases f1 : p.mo = 2
 ·by_cases f2 : p.ph = 3
  ·rw [if_pos ⟨f1, f2⟩]
   have f1' : (p.mo = 2) = True:=eq_true f1
   have f2' : (p.ph = 3) = True:=eq_true f2
   clear f1 f2
   by_cases f3 : last.e = p.ep
   ·rw [if_pos f3]
    have f3' : (last.e = p.ep) = True:=eq_true f3
    clear f3
    dsimp only
    by_cases f4 : uG last.e last.n = 0
    ·rw [decide_eq_true f4]
     generalize uH last.e last.n = NN at *
     generalize uG last.e last.n = NE at *
     replace f4 : (NE = 0) = True:=eq_true f4
     refine zK Tryz.tab Tryz.mixed Tryz.func48 rfl rfl Tryz.ntmps48 (by simp) (by simp) fun Q hr hn=>?_
     repeat' first|(refine zR.pure (c1) rfl ?_)|(refine zR.pure (c2) rfl ?_)|(refine hK _ ?_;clear hK)|(refine zT fun K hK=>?_)|(refine zS ?_;simp only [tZ,tY,strip])|((first | refine wOs fun K hK=>?_ | refine zY ?_ | refine zW ?_);simp [f1',f2',f3'])|(first | refine zU ?_)|((first | refine zL ?_ | refine zP ?_);try simp)|(refine wOn ?_;try simp only [zZ])
     all_goals first | apply hr
     all_goals simp [Tryz.f48,f4]
    ·rw [decide_eq_false f4]
     generalize uH last.e last.n = NN at *
     generalize uG last.e last.n = NE at *
     replace f4 : (NE = 0) = False:=eq_false f4
     refine zK Tryz.tab Tryz.mixed Tryz.func48 rfl rfl Tryz.ntmps48 (by simp) (by simp) fun Q hr hn=>?_
     repeat' first|(refine zR.pure (c1) rfl ?_)|(refine zR.pure (c2) rfl ?_)|(refine hK _ ?_;clear hK)|(refine zT fun K hK=>?_)|(refine zS ?_;simp only [tZ,tY,strip])|((first | refine wOs fun K hK=>?_ | refine zY ?_ | refine zW ?_);simp [f1',f2',f3'])|(first | refine zU ?_)|((first | refine zL ?_ | refine zP ?_);try simp)|(refine wOn ?_;try simp only [zZ])
     all_goals first | apply hr
     all_goals simp [Tryz.f48,f4]
   ·rw [if_neg f3]
    have f3' : (last.e = p.ep) = False:=eq_false f3
    clear f3
    refine zK Tryz.tab Tryz.mixed Tryz.func48 rfl rfl Tryz.ntmps48 (by simp) (by simp) fun Q hr hn=>?_
    repeat' first|(refine zR.pure (c1) rfl ?_)|(refine hK _ ?_;clear hK)|(refine zT fun K hK=>?_)|(refine zS ?_;simp only [tZ,tY,strip])|((first | refine wOs fun K hK=>?_ | refine zY ?_ | refine zW ?_);simp [f1',f2',f3'])|(first | refine zU ?_)|(refine zL ?_;try simp)|(refine wOn ?_;try simp only [zZ])
    all_goals first | apply hr
    all_goals simp [Tryz.f48]
  ·rw [if_neg fun h => f2 h.2]
   have f1' : (p.mo = 2) = True:=eq_true f1
   have f2' : (p.ph = 3) = False:=eq_false f2
   clear f1 f2
   refine zK Tryz.tab Tryz.mixed Tryz.func48 rfl rfl Tryz.ntmps48 (by simp) (by simp) fun Q hr hn=>?_
   repeat' first|(refine zR.pure (c1) rfl ?_)|(refine hK _ ?_;clear hK)|(refine zT fun K hK=>?_)|(refine zS ?_;simp only [tZ,tY,strip])|((first | refine wOs fun K hK=>?_ | refine zY ?_ | refine zW ?_);simp [f1',f2'])|(first | refine zU ?_)|(refine zL ?_;try simp)|(refine wOn ?_;try simp only [zZ])
   all_goals first | apply hr
   all_goals simp [Tryz.f48]
 ·rw [if_neg fun h => f1 h.1]
  have f1' : (p.mo = 2) = False:=eq_false f1
  clear f1
  refine zK Tryz.tab Tryz.mixed Tryz.func48 rfl rfl Tryz.ntmps48 (by simp) (by simp) fun Q hr hn=>?_
  repeat' first|(refine zR.pure (c1) rfl ?_)|(refine hK _ ?_;clear hK)|(refine zT fun K hK=>?_)|(refine zS ?_;simp only [tZ,tY,strip])|((first | refine wOs fun K hK=>?_ | refine zY ?_ | refine zW ?_);simp [f1'])|(first | refine zU ?_)|(refine zL ?_;try simp)|(refine wOn ?_;try simp only [zZ])
  all_goals first | apply hr
  all_goals simp [Tryz.f48]
def begQ (p : Lq) : Lq := { p with mo := 2, ld := p.id, ph := 1, wt := 0, ep := 0, ls := [] }
set_option maxHeartbeats 4000000 in
theorem begin_con (p : Lq) (hk : OkH p.h) (hl : p.ls.length <= 10000) (hm : ∀ y ∈ p.ls, y.ms.length <= 1000000) : zB Tryz.prog 10 [.p (.agg p.cells)] (.tup [.p (.agg (vQ ⟨begQ p, false, []⟩).p.cells), .p (.sl 46 (zD (vQ ⟨begQ p, false, []⟩).o)), .p (B (!(vQ ⟨begQ p, false, []⟩).g))]) := by
 have c1:=uS p hk hl hm
 have c3:=cho_con (s:=⟨begQ p,false,[]⟩) (n:=0) (b:=0) ⟨hk,by simp [begQ],by simp,by simp [begQ]⟩ (by omega) (by omega)
 have hb : begQ p = { p with mo:=2,ld:=p.id,ph:=1,wt:=0,ep:=0,ls:=[] }:=rfl
 generalize vQ ⟨begQ p,false,[]⟩ = S at *
 have c4:=end_con S.p S.g S.o
 rw [hb] at c3
 obtain ⟨Sp,Sg,So⟩:=S
 simp only [sqW,lW,show zD [] = [] from rfl] at *
 generalize zD So = O at *
 clear hb hk hl hm
 unfold Lq.cells at *
 refine zK Tryz.tab Tryz.mixed Tryz.func10 rfl rfl Tryz.ntmps10 (by simp) (by simp) fun Q hr hn=>?_
 repeat' first|(refine zV [] (c1) (by decide) (by decide) (by simp [zQ]) (by simp [zN,zH,toP]) ⟨[500,501],by simp,by simp,?_⟩;simp [lv,ouN,kpI,kpR,pos,ren,zX])|(refine wCelA 500 37 502 70 (by decide) rfl rfl ?_;simp [scr,yR])|(refine wFrzA 502 500 rfl rfl ?_;simp [frz,sub,xM])|(refine zV [500,501] (c3) (by decide) (by decide) (by simp [zQ,inN,pos,zO,zX]) (by simp [zN,zH,zX,inN,pos]) ⟨[],by simp,by simp,?_⟩;simp [lv,kpI,kpR,pos,ren,zX])|(refine zV [500,501] (c4) (by decide) (by decide) (by simp [zQ,inN,pos,zO,zX,ouN]) (by simp [zN,zH,zX,inN,pos]) ⟨[],by simp,by simp,?_⟩;simp [lv,ouN,kpI,kpR,pos,ren,zX])|(refine hK _ ?_;clear hK)|(refine zT fun K hK=>?_)|(refine zS ?_;simp only [tZ,tY,strip])|(refine wOs fun K hK=>?_;simp [ouN,zX,zO,scr,yR,wU,xM,subB])|(refine zL ?_;try simp)|(refine wOn ?_;try simp only [zZ])
 all_goals first | apply hr
 all_goals simp [Tryz.f10,pos,zO]
theorem deleteE_con (n : Int) : zB Tryz.prog 69 [.p (.sl 8 []), .clo ⟨70, false⟩ [.rp [I n] 0]] (.p (.sl 8 [])) := by
 have hc:=indexN_con [] n (by simp)
 rw [show fiLV [] n = -1 from rfl,show lrs [] = [] from rfl] at hc
 refine zK Tryz.tab Tryz.mixed Tryz.func69 rfl rfl Tryz.ntmps69 (by simp) (by simp) fun Q hr hn=>?_
 repeat' first|(refine zR.pure (hc) rfl ?_)|(refine hK _ ?_;clear hK)|(refine zT fun K hK=>?_)|(refine zS ?_;simp only [tZ,tY,strip])|((first | refine wOs fun K hK=>?_ | refine zY ?_ | refine zW ?_);simp [Cap.free])|(refine zL ?_;try simp)|(refine wOn ?_;try simp only [zZ])
 all_goals apply hr
 all_goals simp [Tryz.f69]
@[simp high] theorem lBx_t_ls0 (p : Lq) (X : V) (g : Bool) : List.take 37 (lBx p X g) ++ V.p (.sl 8 []) :: List.drop 38 (lBx p X g) = lBx { p with ls := [] } X g := rfl
set_option maxHeartbeats 4000000 in
theorem lostE_con (p : Lq) (n : Int) (hk : OkH p.h) (h0 : p.ls = []) (f1 : p.mo = 2) : zB Tryz.prog 38 [.p (.agg p.cells), .p (I n)] (.tup [.p (.agg p.cells), .p (.sl 46 []), .p (B true)]) := by
 have c1:=uS p hk (by simp [h0]) (by simp [h0])
 have c3:=deleteE_con n
 have c4:=end_con p false []
 have hr0 : yU p.ls = []:=by rw [h0];rfl
 rw [show ({ p with ls:=yU p.ls } : Lq) = p by rw [hr0,<- h0]] at c1
 have f1' : (p.mo = 2) = True:=eq_true f1
 have hls : lrs p.ls = []:=by rw [h0];rfl
 have hpe : ({ p with ls:=[] } : Lq) = p:=by rw [<- h0]
 simp only [lW,show zD [] = [] from rfl] at *
 clear f1 hk hr0 h0
 unfold Lq.cells at *
 simp only [hls] at c1 c4 ⊢
 refine zK Tryz.tab Tryz.mixed Tryz.func38 rfl rfl Tryz.ntmps38 (by simp) (by simp) fun Q hr hn=>?_
 repeat' first|(refine zV [] (c1) (by decide) (by decide) (by simp [zQ]) (by simp [zN,zH,toP]) ⟨[500,501],by simp,by simp,?_⟩;simp [lv,ouN,kpI,kpR,pos,ren,zX])|(refine wFrzX 3 rfl rfl ?_;simp [frzx,subx,subx0])|(refine zR.pure (c3) rfl ?_)|(refine zV [500,501] (c4) (by decide) (by decide) (by simp [zQ,inN,pos,zO,zX]) (by simp [zN,zH,zX,inN,pos]) ⟨[],by simp,by simp,?_⟩;simp [lv,ouN,kpI,kpR,pos,ren,zX])|(refine hK _ ?_;clear hK)|(refine zT fun K hK=>?_)|(refine zS ?_;simp only [tZ,tY,strip])|((first | refine wOs fun K hK=>?_ | refine zY ?_ | refine zW ?_);simp [ouN,zX,zO,f1',hls,hpe,Cap.free])|(refine zL ?_;try simp)|(refine wOn ?_;try simp only [zZ])
 all_goals first | apply hr
 all_goals simp [Tryz.f38,pos,zO]
end Go.Proofs.YtffflakmofbilaaGreat
