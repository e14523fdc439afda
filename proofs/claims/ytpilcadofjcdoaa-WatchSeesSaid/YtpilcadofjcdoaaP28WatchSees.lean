/- Texts that the proof needs: WM2. -/
import Derived.Test.YtpilcadofjcdoaaP27WatchSees
namespace Go.Proofs.Ytpilcadofjcdoaa
set_option linter.unusedSimpArgs false
set_option linter.unusedVariables false
set_option maxRecDepth 8000
open Go Go.Av
attribute [local irreducible] Go.Av.yQ Go.Av.zZ Go.Av.yG Go.Av.zT Go.Av.yH Go.Av.zY Go.Av.Con
structure Oq where
 (k : Int)
 (pa da : List UInt8)
 (v : Int)
 (ow sq : Bool)
def Oq.cells (o : Oq) : List PV := [I o.k, SB o.pa, SB o.da, I o.v, B o.ow, B o.sq]
def oqs (l : List Oq) : List (List PV) := l.map Oq.cells
@[simp] theorem oqs_len (l : List Oq) : (oqs l).length = l.length := by simp [oqs]
theorem oqs_get {l : List Oq} {k : Nat} (h : k < l.length) : (oqs l)[k]? = some [I l[k].k, SB l[k].pa, SB l[k].da, I l[k].v, B l[k].ow, B l[k].sq] := by simp [oqs, h, Oq.cells]
theorem nmb_len (p : List UInt8) (n : Int) : (nmb p n).1.length <= 9223372036854775807 := by
 unfold nmb
 split
 ·simp
 split
 ·simp
 split
 ·rw [nbr,List.length_append,pw_len];omega
 ·simp
theorem yZ : PsOk [] := fun p hp => by simp at hp
theorem ps1_ok {a : Pt} (h : PtOk a) : PsOk [a] := fun p hp => by simp at hp; subst hp; exact h
theorem ps2_ok {a b : Pt} (h : PtOk a) (h2 : PtOk b) : PsOk [a, b] := fun p hp => by
 simp at hp;rcases hp with rfl | rfl
 ·exact h
 ·exact h2
set_option maxHeartbeats 16000000 in
theorem create_ex (s : Sv) (ses : Int) (o : Oq) (hp : o.pa.length <= 9223372036854775807) (hd : o.da.length <= 9223372036854775807) (hn : ∀ z ∈ s.ns, long z) (hl : s.ns.length <= 1000000) :
 ∃ (ps : List Pt) (p : List UInt8) (e : Int),PsOk ps /\ ps.length <= 2 /\ zF Try.prog 61 [.p (.agg s.cells),.p (I ses),.p (.agg o.cells)] (.tup [.p (.sl 11 (pts ps)),.p (SB p),.p (I e)]):=by
 have hg:=fun p hp=>get08s_con s p hp
 have hgl:=getZ_long hn
 have hbu:=fun p hp=>bumped_ex s p hp hn
 obtain ⟨ns,ss,nx,⟨ep,n,kd,ms⟩,ae,an⟩:=s
 obtain ⟨ok,pa,da,ov,ow,sq⟩:=o
 dsimp only at hp hd hl hgl
 have c1:=wR pa hp
 unfold Sv.cells Oq.cells at *
 dsimp only at *
 by_cases h1 : 128 < da.length
 ·have h1' : (128 : Int) < da.length := by omega
  refine ⟨[],[],5,yZ,by simp,?_⟩
  refine zG Try.tab Try.mixed Try.func61 rfl rfl Try.ntmps61 (by simp) (by simp) fun Q hr hn=>?_
  repeat' first|(refine hK _ ?_;clear hK)|(refine hK _ _ ?_;clear hK)|(clear hK;refine hK _ ?_;clear hK)|(clear hK;clear hK;refine hK _ ?_;clear hK)|(clear hK;clear hK;clear hK;refine hK _ ?_;clear hK)|(clear hK;clear hK;clear hK;clear hK;refine hK _ ?_;clear hK)|(refine zJ fun K hK=>?_)|((first | refine zH ?_ | refine zN rfl (by kernel_rfl) ?_ | refine zM ?_ | refine zK (by kernel_rfl) ?_);simp only [wJ,wI,strip])|((first | refine wIs fun K hK=>?_ | refine wOs fun K hK=>?_ | refine wQs fun K hK=>?_ | refine zU ?_ | refine zV ?_ | refine zW ?_ | refine zL ?_);simp [h1,h1',show ByteArray.empty = bs [] from rfl])|(refine wIn ?_;refine And.intro (by kernel_rfl) ?_;try simp only [zX])|(first | refine zQ ?_ | refine zS ?_)|((first | refine zI ?_ | refine zO ?_ | refine zP ?_);try simp)|((first | refine zR ?_ | refine wOn ?_ | refine wQn ?_);try simp only [zX])
  all_goals apply hr
  all_goals simp [Try.f61,pts,show ByteArray.empty = bs [] from rfl]
 have h1' : ¬ (128 : Int) < da.length:=by omega
 cases sq with
 | true =>
  have c2:=numbered03_con pa 0 hp
  have hpl:=nmb_len pa 0
  generalize nmb pa 0 = q0 at c2 hpl
  obtain ⟨p0,e0⟩:=q0
  dsimp only at c2 hpl
  by_cases h2 : e0 = 0
  case neg =>
   have h2':=eq_false h2
   refine ⟨[],[],e0,yZ,by simp,?_⟩
   refine zG Try.tab Try.mixed Try.func61 rfl rfl Try.ntmps61 (by simp) (by simp) fun Q hr hn=>?_
   repeat' first|(refine hK _ ?_;clear hK)|(refine hK _ _ ?_;clear hK)|(clear hK;refine hK _ ?_;clear hK)|(clear hK;clear hK;refine hK _ ?_;clear hK)|(clear hK;clear hK;clear hK;refine hK _ ?_;clear hK)|(clear hK;clear hK;clear hK;clear hK;refine hK _ ?_;clear hK)|(refine zJ fun K hK=>?_)|((first | refine zH ?_ | refine zN rfl (by kernel_rfl) ?_ | refine zM ?_ | refine zK (by kernel_rfl) ?_);simp only [wJ,wI,strip])|((first | refine wIs fun K hK=>?_ | refine wOs fun K hK=>?_ | refine wQs fun K hK=>?_ | refine zU ?_ | refine zV ?_ | refine zW ?_ | refine zL ?_);simp [h1,h1',h2',show ByteArray.empty = bs [] from rfl])|(refine wIn ?_;refine And.intro (by kernel_rfl) ?_;try simp only [zX])|(first | refine zQ ?_ | refine zS ?_)|((first | refine zI ?_ | refine zO ?_ | refine zP ?_);try simp)|((first | refine zR ?_ | refine wOn ?_ | refine wQn ?_);try simp only [zX])|(refine zZ.pure (c1) rfl ?_)|(refine zZ.lent (c1) rfl ?_)|(refine zT.pure (c1) rfl ?_)|(refine zT.lent (c1) rfl ?_)|(refine zZ.own (c1) ?_)|(refine zY.pure (c1) rfl ?_)|(refine zY.lent (c1) rfl ?_)|(refine zY.own (c1) ?_)|(refine zZ.pure (c2) rfl ?_)|(refine zZ.lent (c2) rfl ?_)|(refine zT.pure (c2) rfl ?_)|(refine zT.lent (c2) rfl ?_)|(refine zZ.own (c2) ?_)|(refine zY.pure (c2) rfl ?_)|(refine zY.lent (c2) rfl ?_)|(refine zY.own (c2) ?_)
   all_goals apply hr
   all_goals simp [Try.f61,pts,show ByteArray.empty = bs [] from rfl]
  subst h2
  have c3:=xC p0 hpl
  unfold parV at c3
  by_cases h3 : chd p0 = true
  case neg =>
   rw [if_neg h3] at c3
   refine ⟨[],[],7,yZ,by simp,?_⟩
   refine zG Try.tab Try.mixed Try.func61 rfl rfl Try.ntmps61 (by simp) (by simp) fun Q hr hn=>?_
   repeat' first|(refine hK _ ?_;clear hK)|(refine hK _ _ ?_;clear hK)|(clear hK;refine hK _ ?_;clear hK)|(clear hK;clear hK;refine hK _ ?_;clear hK)|(clear hK;clear hK;clear hK;refine hK _ ?_;clear hK)|(clear hK;clear hK;clear hK;clear hK;refine hK _ ?_;clear hK)|(refine zJ fun K hK=>?_)|((first | refine zH ?_ | refine zN rfl (by kernel_rfl) ?_ | refine zM ?_ | refine zK (by kernel_rfl) ?_);simp only [wJ,wI,strip])|((first | refine wIs fun K hK=>?_ | refine wOs fun K hK=>?_ | refine wQs fun K hK=>?_ | refine zU ?_ | refine zV ?_ | refine zW ?_ | refine zL ?_);simp [h1,h1',show ByteArray.empty = bs [] from rfl])|(refine wIn ?_;refine And.intro (by kernel_rfl) ?_;try simp only [zX])|(first | refine zQ ?_ | refine zS ?_)|((first | refine zI ?_ | refine zO ?_ | refine zP ?_);try simp)|((first | refine zR ?_ | refine wOn ?_ | refine wQn ?_);try simp only [zX])|(refine zZ.pure (c1) rfl ?_)|(refine zZ.lent (c1) rfl ?_)|(refine zT.pure (c1) rfl ?_)|(refine zT.lent (c1) rfl ?_)|(refine zZ.own (c1) ?_)|(refine zY.pure (c1) rfl ?_)|(refine zY.lent (c1) rfl ?_)|(refine zY.own (c1) ?_)|(refine zZ.pure (c2) rfl ?_)|(refine zZ.lent (c2) rfl ?_)|(refine zT.pure (c2) rfl ?_)|(refine zT.lent (c2) rfl ?_)|(refine zZ.own (c2) ?_)|(refine zY.pure (c2) rfl ?_)|(refine zY.lent (c2) rfl ?_)|(refine zY.own (c2) ?_)|(refine zZ.pure (c3) rfl ?_)|(refine zZ.lent (c3) rfl ?_)|(refine zT.pure (c3) rfl ?_)|(refine zT.lent (c3) rfl ?_)|(refine zZ.own (c3) ?_)|(refine zY.pure (c3) rfl ?_)|(refine zY.lent (c3) rfl ?_)|(refine zY.own (c3) ?_)
   all_goals apply hr
   all_goals simp [Try.f61,pts,show ByteArray.empty = bs [] from rfl]
  rw [if_pos h3] at c3
  have hul : (p0.take (max (lx p0 p0.length) 1)).length <= 9223372036854775807:=by rw [List.length_take];omega
  generalize p0.take (max (lx p0 p0.length) 1) = up at c3 hul
  have c4:=hg up hul
  have hzl:=hgl up
  generalize wZ ns up = g at c4 hzl
  obtain ⟨⟨zp,zd,zv,zk,zo⟩,ge⟩:=g
  dsimp only at c4 hzl
  unfold Zn.c at c4
  dsimp only at c4
  by_cases h4 : ge = 0
  case neg =>
   have h4':=eq_false h4
   refine ⟨[],[],ge,yZ,by simp,?_⟩
   refine zG Try.tab Try.mixed Try.func61 rfl rfl Try.ntmps61 (by simp) (by simp) fun Q hr hn=>?_
   repeat' first|(refine hK _ ?_;clear hK)|(refine hK _ _ ?_;clear hK)|(clear hK;refine hK _ ?_;clear hK)|(clear hK;clear hK;refine hK _ ?_;clear hK)|(clear hK;clear hK;clear hK;refine hK _ ?_;clear hK)|(clear hK;clear hK;clear hK;clear hK;refine hK _ ?_;clear hK)|(refine zJ fun K hK=>?_)|((first | refine zH ?_ | refine zN rfl (by kernel_rfl) ?_ | refine zM ?_ | refine zK (by kernel_rfl) ?_);simp only [wJ,wI,strip])|((first | refine wIs fun K hK=>?_ | refine wOs fun K hK=>?_ | refine wQs fun K hK=>?_ | refine zU ?_ | refine zV ?_ | refine zW ?_ | refine zL ?_);simp [h1,h1',h4',show ByteArray.empty = bs [] from rfl])|(refine wIn ?_;refine And.intro (by kernel_rfl) ?_;try simp only [zX])|(first | refine zQ ?_ | refine zS ?_)|((first | refine zI ?_ | refine zO ?_ | refine zP ?_);try simp)|((first | refine zR ?_ | refine wOn ?_ | refine wQn ?_);try simp only [zX])|(refine zZ.pure (c1) rfl ?_)|(refine zZ.lent (c1) rfl ?_)|(refine zT.pure (c1) rfl ?_)|(refine zT.lent (c1) rfl ?_)|(refine zZ.own (c1) ?_)|(refine zY.pure (c1) rfl ?_)|(refine zY.lent (c1) rfl ?_)|(refine zY.own (c1) ?_)|(refine zZ.pure (c2) rfl ?_)|(refine zZ.lent (c2) rfl ?_)|(refine zT.pure (c2) rfl ?_)|(refine zT.lent (c2) rfl ?_)|(refine zZ.own (c2) ?_)|(refine zY.pure (c2) rfl ?_)|(refine zY.lent (c2) rfl ?_)|(refine zY.own (c2) ?_)|(refine zZ.pure (c3) rfl ?_)|(refine zZ.lent (c3) rfl ?_)|(refine zT.pure (c3) rfl ?_)|(refine zT.lent (c3) rfl ?_)|(refine zZ.own (c3) ?_)|(refine zY.pure (c3) rfl ?_)|(refine zY.lent (c3) rfl ?_)|(refine zY.own (c3) ?_)|(refine zZ.pure (c4) rfl ?_)|(refine zZ.lent (c4) rfl ?_)|(refine zT.pure (c4) rfl ?_)|(refine zT.lent (c4) rfl ?_)|(refine zZ.own (c4) ?_)|(refine zY.pure (c4) rfl ?_)|(refine zY.lent (c4) rfl ?_)|(refine zY.own (c4) ?_)
   all_goals apply hr
   all_goals simp [Try.f61,pts,show ByteArray.empty = bs [] from rfl]
  subst h4
  by_cases h5 : zo = 0
  case neg =>
   have h5':=eq_false h5
   refine ⟨[],[],12,yZ,by simp,?_⟩
   refine zG Try.tab Try.mixed Try.func61 rfl rfl Try.ntmps61 (by simp) (by simp) fun Q hr hn=>?_
   repeat' first|(refine hK _ ?_;clear hK)|(refine hK _ _ ?_;clear hK)|(clear hK;refine hK _ ?_;clear hK)|(clear hK;clear hK;refine hK _ ?_;clear hK)|(clear hK;clear hK;clear hK;refine hK _ ?_;clear hK)|(clear hK;clear hK;clear hK;clear hK;refine hK _ ?_;clear hK)|(refine zJ fun K hK=>?_)|((first | refine zH ?_ | refine zN rfl (by kernel_rfl) ?_ | refine zM ?_ | refine zK (by kernel_rfl) ?_);simp only [wJ,wI,strip])|((first | refine wIs fun K hK=>?_ | refine wOs fun K hK=>?_ | refine wQs fun K hK=>?_ | refine zU ?_ | refine zV ?_ | refine zW ?_ | refine zL ?_);simp [h1,h1',h5',show ByteArray.empty = bs [] from rfl])|(refine wIn ?_;refine And.intro (by kernel_rfl) ?_;try simp only [zX])|(first | refine zQ ?_ | refine zS ?_)|((first | refine zI ?_ | refine zO ?_ | refine zP ?_);try simp)|((first | refine zR ?_ | refine wOn ?_ | refine wQn ?_);try simp only [zX])|(refine zZ.pure (c1) rfl ?_)|(refine zZ.lent (c1) rfl ?_)|(refine zT.pure (c1) rfl ?_)|(refine zT.lent (c1) rfl ?_)|(refine zZ.own (c1) ?_)|(refine zY.pure (c1) rfl ?_)|(refine zY.lent (c1) rfl ?_)|(refine zY.own (c1) ?_)|(refine zZ.pure (c2) rfl ?_)|(refine zZ.lent (c2) rfl ?_)|(refine zT.pure (c2) rfl ?_)|(refine zT.lent (c2) rfl ?_)|(refine zZ.own (c2) ?_)|(refine zY.pure (c2) rfl ?_)|(refine zY.lent (c2) rfl ?_)|(refine zY.own (c2) ?_)|(refine zZ.pure (c3) rfl ?_)|(refine zZ.lent (c3) rfl ?_)|(refine zT.pure (c3) rfl ?_)|(refine zT.lent (c3) rfl ?_)|(refine zZ.own (c3) ?_)|(refine zY.pure (c3) rfl ?_)|(refine zY.lent (c3) rfl ?_)|(refine zY.own (c3) ?_)|(refine zZ.pure (c4) rfl ?_)|(refine zZ.lent (c4) rfl ?_)|(refine zT.pure (c4) rfl ?_)|(refine zT.lent (c4) rfl ?_)|(refine zZ.own (c4) ?_)|(refine zY.pure (c4) rfl ?_)|(refine zY.lent (c4) rfl ?_)|(refine zY.own (c4) ?_)
   all_goals apply hr
   all_goals simp [Try.f61,pts,show ByteArray.empty = bs [] from rfl]
  subst h5
  have c5:=numbered03_con pa zk hp
  have hpl1:=nmb_len pa zk
  generalize nmb pa zk = q1 at c5 hpl1
  obtain ⟨p1,e1⟩:=q1
  dsimp only at c5 hpl1
  by_cases h6 : e1 = 0
  case neg =>
   have h6':=eq_false h6
   refine ⟨[],[],e1,yZ,by simp,?_⟩
   refine zG Try.tab Try.mixed Try.func61 rfl rfl Try.ntmps61 (by simp) (by simp) fun Q hr hn=>?_
   repeat' first|(refine hK _ ?_;clear hK)|(refine hK _ _ ?_;clear hK)|(clear hK;refine hK _ ?_;clear hK)|(clear hK;clear hK;refine hK _ ?_;clear hK)|(clear hK;clear hK;clear hK;refine hK _ ?_;clear hK)|(clear hK;clear hK;clear hK;clear hK;refine hK _ ?_;clear hK)|(refine zJ fun K hK=>?_)|((first | refine zH ?_ | refine zN rfl (by kernel_rfl) ?_ | refine zM ?_ | refine zK (by kernel_rfl) ?_);simp only [wJ,wI,strip])|((first | refine wIs fun K hK=>?_ | refine wOs fun K hK=>?_ | refine wQs fun K hK=>?_ | refine zU ?_ | refine zV ?_ | refine zW ?_ | refine zL ?_);simp [h1,h1',h6',show ByteArray.empty = bs [] from rfl])|(refine wIn ?_;refine And.intro (by kernel_rfl) ?_;try simp only [zX])|(first | refine zQ ?_ | refine zS ?_)|((first | refine zI ?_ | refine zO ?_ | refine zP ?_);try simp)|((first | refine zR ?_ | refine wOn ?_ | refine wQn ?_);try simp only [zX])|(refine zZ.pure (c1) rfl ?_)|(refine zZ.lent (c1) rfl ?_)|(refine zT.pure (c1) rfl ?_)|(refine zT.lent (c1) rfl ?_)|(refine zZ.own (c1) ?_)|(refine zY.pure (c1) rfl ?_)|(refine zY.lent (c1) rfl ?_)|(refine zY.own (c1) ?_)|(refine zZ.pure (c2) rfl ?_)|(refine zZ.lent (c2) rfl ?_)|(refine zT.pure (c2) rfl ?_)|(refine zT.lent (c2) rfl ?_)|(refine zZ.own (c2) ?_)|(refine zY.pure (c2) rfl ?_)|(refine zY.lent (c2) rfl ?_)|(refine zY.own (c2) ?_)|(refine zZ.pure (c3) rfl ?_)|(refine zZ.lent (c3) rfl ?_)|(refine zT.pure (c3) rfl ?_)|(refine zT.lent (c3) rfl ?_)|(refine zZ.own (c3) ?_)|(refine zY.pure (c3) rfl ?_)|(refine zY.lent (c3) rfl ?_)|(refine zY.own (c3) ?_)|(refine zZ.pure (c4) rfl ?_)|(refine zZ.lent (c4) rfl ?_)|(refine zT.pure (c4) rfl ?_)|(refine zT.lent (c4) rfl ?_)|(refine zZ.own (c4) ?_)|(refine zY.pure (c4) rfl ?_)|(refine zY.lent (c4) rfl ?_)|(refine zY.own (c4) ?_)|(refine zZ.pure (c5) rfl ?_)|(refine zZ.lent (c5) rfl ?_)|(refine zT.pure (c5) rfl ?_)|(refine zT.lent (c5) rfl ?_)|(refine zZ.own (c5) ?_)|(refine zY.pure (c5) rfl ?_)|(refine zY.lent (c5) rfl ?_)|(refine zY.own (c5) ?_)
   all_goals apply hr
   all_goals simp [Try.f61,pts,show ByteArray.empty = bs [] from rfl]
  subst h6
  have c6:=hg p1 hpl1
  generalize wZ ns p1 = g1 at c6
  obtain ⟨⟨yp,yd,yv,yk,yo⟩,ye⟩:=g1
  unfold Zn.c at c6
  dsimp only at c6
  by_cases h7 : ye = 0
  ·subst h7
   refine ⟨[],[],7,yZ,by simp,?_⟩
   refine zG Try.tab Try.mixed Try.func61 rfl rfl Try.ntmps61 (by simp) (by simp) fun Q hr hn=>?_
   repeat' first|(refine hK _ ?_;clear hK)|(refine hK _ _ ?_;clear hK)|(clear hK;refine hK _ ?_;clear hK)|(clear hK;clear hK;refine hK _ ?_;clear hK)|(clear hK;clear hK;clear hK;refine hK _ ?_;clear hK)|(clear hK;clear hK;clear hK;clear hK;refine hK _ ?_;clear hK)|(refine zJ fun K hK=>?_)|((first | refine zH ?_ | refine zN rfl (by kernel_rfl) ?_ | refine zM ?_ | refine zK (by kernel_rfl) ?_);simp only [wJ,wI,strip])|((first | refine wIs fun K hK=>?_ | refine wOs fun K hK=>?_ | refine wQs fun K hK=>?_ | refine zU ?_ | refine zV ?_ | refine zW ?_ | refine zL ?_);simp [h1,h1',show ByteArray.empty = bs [] from rfl])|(refine wIn ?_;refine And.intro (by kernel_rfl) ?_;try simp only [zX])|(first | refine zQ ?_ | refine zS ?_)|((first | refine zI ?_ | refine zO ?_ | refine zP ?_);try simp)|((first | refine zR ?_ | refine wOn ?_ | refine wQn ?_);try simp only [zX])|(refine zZ.pure (c1) rfl ?_)|(refine zZ.lent (c1) rfl ?_)|(refine zT.pure (c1) rfl ?_)|(refine zT.lent (c1) rfl ?_)|(refine zZ.own (c1) ?_)|(refine zY.pure (c1) rfl ?_)|(refine zY.lent (c1) rfl ?_)|(refine zY.own (c1) ?_)|(refine zZ.pure (c2) rfl ?_)|(refine zZ.lent (c2) rfl ?_)|(refine zT.pure (c2) rfl ?_)|(refine zT.lent (c2) rfl ?_)|(refine zZ.own (c2) ?_)|(refine zY.pure (c2) rfl ?_)|(refine zY.lent (c2) rfl ?_)|(refine zY.own (c2) ?_)|(refine zZ.pure (c3) rfl ?_)|(refine zZ.lent (c3) rfl ?_)|(refine zT.pure (c3) rfl ?_)|(refine zT.lent (c3) rfl ?_)|(refine zZ.own (c3) ?_)|(refine zY.pure (c3) rfl ?_)|(refine zY.lent (c3) rfl ?_)|(refine zY.own (c3) ?_)|(refine zZ.pure (c4) rfl ?_)|(refine zZ.lent (c4) rfl ?_)|(refine zT.pure (c4) rfl ?_)|(refine zT.lent (c4) rfl ?_)|(refine zZ.own (c4) ?_)|(refine zY.pure (c4) rfl ?_)|(refine zY.lent (c4) rfl ?_)|(refine zY.own (c4) ?_)|(refine zZ.pure (c5) rfl ?_)|(refine zZ.lent (c5) rfl ?_)|(refine zT.pure (c5) rfl ?_)|(refine zT.lent (c5) rfl ?_)|(refine zZ.own (c5) ?_)|(refine zY.pure (c5) rfl ?_)|(refine zY.lent (c5) rfl ?_)|(refine zY.own (c5) ?_)|(refine zZ.pure (c6) rfl ?_)|(refine zZ.lent (c6) rfl ?_)|(refine zT.pure (c6) rfl ?_)|(refine zT.lent (c6) rfl ?_)|(refine zZ.own (c6) ?_)|(refine zY.pure (c6) rfl ?_)|(refine zY.lent (c6) rfl ?_)|(refine zY.own (c6) ?_)
   all_goals apply hr
   all_goals simp [Try.f61,pts,show ByteArray.empty = bs [] from rfl]
  have h7':=eq_false h7
  by_cases h8 : 60 <= ns.length
  ·have h8' : (60 : Int) <= ns.length := by omega
   refine ⟨[],[],8,yZ,by simp,?_⟩
   refine zG Try.tab Try.mixed Try.func61 rfl rfl Try.ntmps61 (by simp) (by simp) fun Q hr hn=>?_
   repeat' first|(refine hK _ ?_;clear hK)|(refine hK _ _ ?_;clear hK)|(clear hK;refine hK _ ?_;clear hK)|(clear hK;clear hK;refine hK _ ?_;clear hK)|(clear hK;clear hK;clear hK;refine hK _ ?_;clear hK)|(clear hK;clear hK;clear hK;clear hK;refine hK _ ?_;clear hK)|(refine zJ fun K hK=>?_)|((first | refine zH ?_ | refine zN rfl (by kernel_rfl) ?_ | refine zM ?_ | refine zK (by kernel_rfl) ?_);simp only [wJ,wI,strip])|((first | refine wIs fun K hK=>?_ | refine wOs fun K hK=>?_ | refine wQs fun K hK=>?_ | refine zU ?_ | refine zV ?_ | refine zW ?_ | refine zL ?_);simp [h1,h1',h7',h8,h8',show ByteArray.empty = bs [] from rfl])|(refine wIn ?_;refine And.intro (by kernel_rfl) ?_;try simp only [zX])|(first | refine zQ ?_ | refine zS ?_)|((first | refine zI ?_ | refine zO ?_ | refine zP ?_);try simp)|((first | refine zR ?_ | refine wOn ?_ | refine wQn ?_);try simp only [zX])|(refine zZ.pure (c1) rfl ?_)|(refine zZ.lent (c1) rfl ?_)|(refine zT.pure (c1) rfl ?_)|(refine zT.lent (c1) rfl ?_)|(refine zZ.own (c1) ?_)|(refine zY.pure (c1) rfl ?_)|(refine zY.lent (c1) rfl ?_)|(refine zY.own (c1) ?_)|(refine zZ.pure (c2) rfl ?_)|(refine zZ.lent (c2) rfl ?_)|(refine zT.pure (c2) rfl ?_)|(refine zT.lent (c2) rfl ?_)|(refine zZ.own (c2) ?_)|(refine zY.pure (c2) rfl ?_)|(refine zY.lent (c2) rfl ?_)|(refine zY.own (c2) ?_)|(refine zZ.pure (c3) rfl ?_)|(refine zZ.lent (c3) rfl ?_)|(refine zT.pure (c3) rfl ?_)|(refine zT.lent (c3) rfl ?_)|(refine zZ.own (c3) ?_)|(refine zY.pure (c3) rfl ?_)|(refine zY.lent (c3) rfl ?_)|(refine zY.own (c3) ?_)|(refine zZ.pure (c4) rfl ?_)|(refine zZ.lent (c4) rfl ?_)|(refine zT.pure (c4) rfl ?_)|(refine zT.lent (c4) rfl ?_)|(refine zZ.own (c4) ?_)|(refine zY.pure (c4) rfl ?_)|(refine zY.lent (c4) rfl ?_)|(refine zY.own (c4) ?_)|(refine zZ.pure (c5) rfl ?_)|(refine zZ.lent (c5) rfl ?_)|(refine zT.pure (c5) rfl ?_)|(refine zT.lent (c5) rfl ?_)|(refine zZ.own (c5) ?_)|(refine zY.pure (c5) rfl ?_)|(refine zY.lent (c5) rfl ?_)|(refine zY.own (c5) ?_)|(refine zZ.pure (c6) rfl ?_)|(refine zZ.lent (c6) rfl ?_)|(refine zT.pure (c6) rfl ?_)|(refine zT.lent (c6) rfl ?_)|(refine zZ.own (c6) ?_)|(refine zY.pure (c6) rfl ?_)|(refine zY.lent (c6) rfl ?_)|(refine zY.own (c6) ?_)
   all_goals apply hr
   all_goals simp [Try.f61,pts,show ByteArray.empty = bs [] from rfl]
  have h8' : ¬ (60 : Int) <= ns.length:=by omega
  obtain ⟨b,e2,hb,c7⟩:=hbu up hul
  obtain ⟨bk,⟨bp,bd,bv,bkk,bo⟩,bs1,⟨be,bn,bkd,bms⟩⟩:=b
  have hb0:=hb
  unfold Pt.cells at c7
  dsimp only at c7
  by_cases h9 : e2 = 0
  case neg =>
   have h9':=eq_false h9
   refine ⟨[],[],e2,yZ,by simp,?_⟩
   refine zG Try.tab Try.mixed Try.func61 rfl rfl Try.ntmps61 (by simp) (by simp) fun Q hr hn=>?_
   repeat' first|(refine hK _ ?_;clear hK)|(refine hK _ _ ?_;clear hK)|(clear hK;refine hK _ ?_;clear hK)|(clear hK;clear hK;refine hK _ ?_;clear hK)|(clear hK;clear hK;clear hK;refine hK _ ?_;clear hK)|(clear hK;clear hK;clear hK;clear hK;refine hK _ ?_;clear hK)|(refine zJ fun K hK=>?_)|((first | refine zH ?_ | refine zN rfl (by kernel_rfl) ?_ | refine zM ?_ | refine zK (by kernel_rfl) ?_);simp only [wJ,wI,strip])|((first | refine wIs fun K hK=>?_ | refine wOs fun K hK=>?_ | refine wQs fun K hK=>?_ | refine zU ?_ | refine zV ?_ | refine zW ?_ | refine zL ?_);simp [h1,h1',h7',h8,h8',h9',show ByteArray.empty = bs [] from rfl])|(refine wIn ?_;refine And.intro (by kernel_rfl) ?_;try simp only [zX])|(first | refine zQ ?_ | refine zS ?_)|((first | refine zI ?_ | refine zO ?_ | refine zP ?_);try simp)|((first | refine zR ?_ | refine wOn ?_ | refine wQn ?_);try simp only [zX])|(refine zZ.pure (c1) rfl ?_)|(refine zZ.lent (c1) rfl ?_)|(refine zT.pure (c1) rfl ?_)|(refine zT.lent (c1) rfl ?_)|(refine zZ.own (c1) ?_)|(refine zY.pure (c1) rfl ?_)|(refine zY.lent (c1) rfl ?_)|(refine zY.own (c1) ?_)|(refine zZ.pure (c2) rfl ?_)|(refine zZ.lent (c2) rfl ?_)|(refine zT.pure (c2) rfl ?_)|(refine zT.lent (c2) rfl ?_)|(refine zZ.own (c2) ?_)|(refine zY.pure (c2) rfl ?_)|(refine zY.lent (c2) rfl ?_)|(refine zY.own (c2) ?_)|(refine zZ.pure (c3) rfl ?_)|(refine zZ.lent (c3) rfl ?_)|(refine zT.pure (c3) rfl ?_)|(refine zT.lent (c3) rfl ?_)|(refine zZ.own (c3) ?_)|(refine zY.pure (c3) rfl ?_)|(refine zY.lent (c3) rfl ?_)|(refine zY.own (c3) ?_)|(refine zZ.pure (c4) rfl ?_)|(refine zZ.lent (c4) rfl ?_)|(refine zT.pure (c4) rfl ?_)|(refine zT.lent (c4) rfl ?_)|(refine zZ.own (c4) ?_)|(refine zY.pure (c4) rfl ?_)|(refine zY.lent (c4) rfl ?_)|(refine zY.own (c4) ?_)|(refine zZ.pure (c5) rfl ?_)|(refine zZ.lent (c5) rfl ?_)|(refine zT.pure (c5) rfl ?_)|(refine zT.lent (c5) rfl ?_)|(refine zZ.own (c5) ?_)|(refine zY.pure (c5) rfl ?_)|(refine zY.lent (c5) rfl ?_)|(refine zY.own (c5) ?_)|(refine zZ.pure (c6) rfl ?_)|(refine zZ.lent (c6) rfl ?_)|(refine zT.pure (c6) rfl ?_)|(refine zT.lent (c6) rfl ?_)|(refine zZ.own (c6) ?_)|(refine zY.pure (c6) rfl ?_)|(refine zY.lent (c6) rfl ?_)|(refine zY.own (c6) ?_)|(refine zZ.pure (c7) rfl ?_)|(refine zZ.lent (c7) rfl ?_)|(refine zT.pure (c7) rfl ?_)|(refine zT.lent (c7) rfl ?_)|(refine zZ.own (c7) ?_)|(refine zY.pure (c7) rfl ?_)|(refine zY.lent (c7) rfl ?_)|(refine zY.own (c7) ?_)
   all_goals apply hr
   all_goals simp [Try.f61,pts,show ByteArray.empty = bs [] from rfl]
  subst h9
  cases ow with
  | true =>
   have c8:=put09_con ⟨p1,da,0,0,ses⟩
   unfold Zn.c at c8
   dsimp only at c8
   refine ⟨[⟨bk,⟨bp,bd,bv,bkk,bo⟩,bs1,⟨be,bn,bkd,bms⟩⟩,putP ⟨p1,da,0,0,ses⟩],p1,0,ps2_ok hb0 (putP_ok ⟨hpl1,hd⟩),by simp,?_⟩
   unfold putP Pt.cells cf0 at c8
   dsimp only at c8
   simp only [pts,wJ,wI,putP,Pt.cells,cf0]
   refine zG Try.tab Try.mixed Try.func61 rfl rfl Try.ntmps61 (by simp) (by simp) fun Q hr hn=>?_
   repeat' first|(refine hK _ ?_;clear hK)|(refine hK _ _ ?_;clear hK)|(clear hK;refine hK _ ?_;clear hK)|(clear hK;clear hK;refine hK _ ?_;clear hK)|(clear hK;clear hK;clear hK;refine hK _ ?_;clear hK)|(clear hK;clear hK;clear hK;clear hK;refine hK _ ?_;clear hK)|(refine zJ fun K hK=>?_)|((first | refine zH ?_ | refine zN rfl (by kernel_rfl) ?_ | refine zM ?_ | refine zK (by kernel_rfl) ?_);simp only [wJ,wI,strip])|((first | refine wIs fun K hK=>?_ | refine wOs fun K hK=>?_ | refine wQs fun K hK=>?_ | refine zU ?_ | refine zV ?_ | refine zW ?_ | refine zL ?_);simp [h1,h1',h7',h8,h8',show ByteArray.empty = bs [] from rfl])|(refine wIn ?_;refine And.intro (by kernel_rfl) ?_;try simp only [zX])|(first | refine zQ ?_ | refine zS ?_)|((first | refine zI ?_ | refine zO ?_ | refine zP ?_);try simp)|((first | refine zR ?_ | refine wOn ?_ | refine wQn ?_);try simp only [zX])|(refine zZ.pure (c1) rfl ?_)|(refine zZ.lent (c1) rfl ?_)|(refine zT.pure (c1) rfl ?_)|(refine zT.lent (c1) rfl ?_)|(refine zZ.own (c1) ?_)|(refine zY.pure (c1) rfl ?_)|(refine zY.lent (c1) rfl ?_)|(refine zY.own (c1) ?_)|(refine zZ.pure (c2) rfl ?_)|(refine zZ.lent (c2) rfl ?_)|(refine zT.pure (c2) rfl ?_)|(refine zT.lent (c2) rfl ?_)|(refine zZ.own (c2) ?_)|(refine zY.pure (c2) rfl ?_)|(refine zY.lent (c2) rfl ?_)|(refine zY.own (c2) ?_)|(refine zZ.pure (c3) rfl ?_)|(refine zZ.lent (c3) rfl ?_)|(refine zT.pure (c3) rfl ?_)|(refine zT.lent (c3) rfl ?_)|(refine zZ.own (c3) ?_)|(refine zY.pure (c3) rfl ?_)|(refine zY.lent (c3) rfl ?_)|(refine zY.own (c3) ?_)|(refine zZ.pure (c4) rfl ?_)|(refine zZ.lent (c4) rfl ?_)|(refine zT.pure (c4) rfl ?_)|(refine zT.lent (c4) rfl ?_)|(refine zZ.own (c4) ?_)|(refine zY.pure (c4) rfl ?_)|(refine zY.lent (c4) rfl ?_)|(refine zY.own (c4) ?_)|(refine zZ.pure (c5) rfl ?_)|(refine zZ.lent (c5) rfl ?_)|(refine zT.pure (c5) rfl ?_)|(refine zT.lent (c5) rfl ?_)|(refine zZ.own (c5) ?_)|(refine zY.pure (c5) rfl ?_)|(refine zY.lent (c5) rfl ?_)|(refine zY.own (c5) ?_)|(refine zZ.pure (c6) rfl ?_)|(refine zZ.lent (c6) rfl ?_)|(refine zT.pure (c6) rfl ?_)|(refine zT.lent (c6) rfl ?_)|(refine zZ.own (c6) ?_)|(refine zY.pure (c6) rfl ?_)|(refine zY.lent (c6) rfl ?_)|(refine zY.own (c6) ?_)|(refine zZ.pure (c7) rfl ?_)|(refine zZ.lent (c7) rfl ?_)|(refine zT.pure (c7) rfl ?_)|(refine zT.lent (c7) rfl ?_)|(refine zZ.own (c7) ?_)|(refine zY.pure (c7) rfl ?_)|(refine zY.lent (c7) rfl ?_)|(refine zY.own (c7) ?_)|(refine zZ.pure (c8) rfl ?_)|(refine zZ.lent (c8) rfl ?_)|(refine zT.pure (c8) rfl ?_)|(refine zT.lent (c8) rfl ?_)|(refine zZ.own (c8) ?_)|(refine zY.pure (c8) rfl ?_)|(refine zY.lent (c8) rfl ?_)|(refine zY.own (c8) ?_)
   all_goals apply hr
   all_goals simp [Try.f61,mbs,show ByteArray.empty = bs [] from rfl]
  | false =>
   have c8:=put09_con ⟨p1,da,0,0,0⟩
   unfold Zn.c at c8
   dsimp only at c8
   refine ⟨[⟨bk,⟨bp,bd,bv,bkk,bo⟩,bs1,⟨be,bn,bkd,bms⟩⟩,putP ⟨p1,da,0,0,0⟩],p1,0,ps2_ok hb0 (putP_ok ⟨hpl1,hd⟩),by simp,?_⟩
   unfold putP Pt.cells cf0 at c8
   dsimp only at c8
   simp only [pts,wJ,wI,putP,Pt.cells,cf0]
   refine zG Try.tab Try.mixed Try.func61 rfl rfl Try.ntmps61 (by simp) (by simp) fun Q hr hn=>?_
   repeat' first|(refine hK _ ?_;clear hK)|(refine hK _ _ ?_;clear hK)|(clear hK;refine hK _ ?_;clear hK)|(clear hK;clear hK;refine hK _ ?_;clear hK)|(clear hK;clear hK;clear hK;refine hK _ ?_;clear hK)|(clear hK;clear hK;clear hK;clear hK;refine hK _ ?_;clear hK)|(refine zJ fun K hK=>?_)|((first | refine zH ?_ | refine zN rfl (by kernel_rfl) ?_ | refine zM ?_ | refine zK (by kernel_rfl) ?_);simp only [wJ,wI,strip])|((first | refine wIs fun K hK=>?_ | refine wOs fun K hK=>?_ | refine wQs fun K hK=>?_ | refine zU ?_ | refine zV ?_ | refine zW ?_ | refine zL ?_);simp [h1,h1',h7',h8,h8',show ByteArray.empty = bs [] from rfl])|(refine wIn ?_;refine And.intro (by kernel_rfl) ?_;try simp only [zX])|(first | refine zQ ?_ | refine zS ?_)|((first | refine zI ?_ | refine zO ?_ | refine zP ?_);try simp)|((first | refine zR ?_ | refine wOn ?_ | refine wQn ?_);try simp only [zX])|(refine zZ.pure (c1) rfl ?_)|(refine zZ.lent (c1) rfl ?_)|(refine zT.pure (c1) rfl ?_)|(refine zT.lent (c1) rfl ?_)|(refine zZ.own (c1) ?_)|(refine zY.pure (c1) rfl ?_)|(refine zY.lent (c1) rfl ?_)|(refine zY.own (c1) ?_)|(refine zZ.pure (c2) rfl ?_)|(refine zZ.lent (c2) rfl ?_)|(refine zT.pure (c2) rfl ?_)|(refine zT.lent (c2) rfl ?_)|(refine zZ.own (c2) ?_)|(refine zY.pure (c2) rfl ?_)|(refine zY.lent (c2) rfl ?_)|(refine zY.own (c2) ?_)|(refine zZ.pure (c3) rfl ?_)|(refine zZ.lent (c3) rfl ?_)|(refine zT.pure (c3) rfl ?_)|(refine zT.lent (c3) rfl ?_)|(refine zZ.own (c3) ?_)|(refine zY.pure (c3) rfl ?_)|(refine zY.lent (c3) rfl ?_)|(refine zY.own (c3) ?_)|(refine zZ.pure (c4) rfl ?_)|(refine zZ.lent (c4) rfl ?_)|(refine zT.pure (c4) rfl ?_)|(refine zT.lent (c4) rfl ?_)|(refine zZ.own (c4) ?_)|(refine zY.pure (c4) rfl ?_)|(refine zY.lent (c4) rfl ?_)|(refine zY.own (c4) ?_)|(refine zZ.pure (c5) rfl ?_)|(refine zZ.lent (c5) rfl ?_)|(refine zT.pure (c5) rfl ?_)|(refine zT.lent (c5) rfl ?_)|(refine zZ.own (c5) ?_)|(refine zY.pure (c5) rfl ?_)|(refine zY.lent (c5) rfl ?_)|(refine zY.own (c5) ?_)|(refine zZ.pure (c6) rfl ?_)|(refine zZ.lent (c6) rfl ?_)|(refine zT.pure (c6) rfl ?_)|(refine zT.lent (c6) rfl ?_)|(refine zZ.own (c6) ?_)|(refine zY.pure (c6) rfl ?_)|(refine zY.lent (c6) rfl ?_)|(refine zY.own (c6) ?_)|(refine zZ.pure (c7) rfl ?_)|(refine zZ.lent (c7) rfl ?_)|(refine zT.pure (c7) rfl ?_)|(refine zT.lent (c7) rfl ?_)|(refine zZ.own (c7) ?_)|(refine zY.pure (c7) rfl ?_)|(refine zY.lent (c7) rfl ?_)|(refine zY.own (c7) ?_)|(refine zZ.pure (c8) rfl ?_)|(refine zZ.lent (c8) rfl ?_)|(refine zT.pure (c8) rfl ?_)|(refine zT.lent (c8) rfl ?_)|(refine zZ.own (c8) ?_)|(refine zY.pure (c8) rfl ?_)|(refine zY.lent (c8) rfl ?_)|(refine zY.own (c8) ?_)
   all_goals apply hr
   all_goals simp [Try.f61,mbs,show ByteArray.empty = bs [] from rfl]
 | false =>
  have hpl:=hp
  obtain ⟨p0,hp0⟩ : ∃ p0,p0 = pa:=⟨_,rfl⟩
  subst hp0
  generalize chk p0 = e0 at c1
  by_cases h2 : e0 = 0
  case neg =>
   have h2':=eq_false h2
   refine ⟨[],[],e0,yZ,by simp,?_⟩
   refine zG Try.tab Try.mixed Try.func61 rfl rfl Try.ntmps61 (by simp) (by simp) fun Q hr hn=>?_
   repeat' first|(refine hK _ ?_;clear hK)|(refine hK _ _ ?_;clear hK)|(clear hK;refine hK _ ?_;clear hK)|(clear hK;clear hK;refine hK _ ?_;clear hK)|(clear hK;clear hK;clear hK;refine hK _ ?_;clear hK)|(clear hK;clear hK;clear hK;clear hK;refine hK _ ?_;clear hK)|(refine zJ fun K hK=>?_)|((first | refine zH ?_ | refine zN rfl (by kernel_rfl) ?_ | refine zM ?_ | refine zK (by kernel_rfl) ?_);simp only [wJ,wI,strip])|((first | refine wIs fun K hK=>?_ | refine wOs fun K hK=>?_ | refine wQs fun K hK=>?_ | refine zU ?_ | refine zV ?_ | refine zW ?_ | refine zL ?_);simp [h1,h1',h2',show ByteArray.empty = bs [] from rfl])|(refine wIn ?_;refine And.intro (by kernel_rfl) ?_;try simp only [zX])|(first | refine zQ ?_ | refine zS ?_)|((first | refine zI ?_ | refine zO ?_ | refine zP ?_);try simp)|((first | refine zR ?_ | refine wOn ?_ | refine wQn ?_);try simp only [zX])|(refine zZ.pure (c1) rfl ?_)|(refine zZ.lent (c1) rfl ?_)|(refine zT.pure (c1) rfl ?_)|(refine zT.lent (c1) rfl ?_)|(refine zZ.own (c1) ?_)|(refine zY.pure (c1) rfl ?_)|(refine zY.lent (c1) rfl ?_)|(refine zY.own (c1) ?_)
   all_goals apply hr
   all_goals simp [Try.f61,pts,show ByteArray.empty = bs [] from rfl]
  subst h2
  have c3:=xC p0 hpl
  unfold parV at c3
  by_cases h3 : chd p0 = true
  case neg =>
   rw [if_neg h3] at c3
   refine ⟨[],[],7,yZ,by simp,?_⟩
   refine zG Try.tab Try.mixed Try.func61 rfl rfl Try.ntmps61 (by simp) (by simp) fun Q hr hn=>?_
   repeat' first|(refine hK _ ?_;clear hK)|(refine hK _ _ ?_;clear hK)|(clear hK;refine hK _ ?_;clear hK)|(clear hK;clear hK;refine hK _ ?_;clear hK)|(clear hK;clear hK;clear hK;refine hK _ ?_;clear hK)|(clear hK;clear hK;clear hK;clear hK;refine hK _ ?_;clear hK)|(refine zJ fun K hK=>?_)|((first | refine zH ?_ | refine zN rfl (by kernel_rfl) ?_ | refine zM ?_ | refine zK (by kernel_rfl) ?_);simp only [wJ,wI,strip])|((first | refine wIs fun K hK=>?_ | refine wOs fun K hK=>?_ | refine wQs fun K hK=>?_ | refine zU ?_ | refine zV ?_ | refine zW ?_ | refine zL ?_);simp [h1,h1',show ByteArray.empty = bs [] from rfl])|(refine wIn ?_;refine And.intro (by kernel_rfl) ?_;try simp only [zX])|(first | refine zQ ?_ | refine zS ?_)|((first | refine zI ?_ | refine zO ?_ | refine zP ?_);try simp)|((first | refine zR ?_ | refine wOn ?_ | refine wQn ?_);try simp only [zX])|(refine zZ.pure (c1) rfl ?_)|(refine zZ.lent (c1) rfl ?_)|(refine zT.pure (c1) rfl ?_)|(refine zT.lent (c1) rfl ?_)|(refine zZ.own (c1) ?_)|(refine zY.pure (c1) rfl ?_)|(refine zY.lent (c1) rfl ?_)|(refine zY.own (c1) ?_)|(refine zZ.pure (c3) rfl ?_)|(refine zZ.lent (c3) rfl ?_)|(refine zT.pure (c3) rfl ?_)|(refine zT.lent (c3) rfl ?_)|(refine zZ.own (c3) ?_)|(refine zY.pure (c3) rfl ?_)|(refine zY.lent (c3) rfl ?_)|(refine zY.own (c3) ?_)
   all_goals apply hr
   all_goals simp [Try.f61,pts,show ByteArray.empty = bs [] from rfl]
  rw [if_pos h3] at c3
  have hul : (p0.take (max (lx p0 p0.length) 1)).length <= 9223372036854775807:=by rw [List.length_take];omega
  generalize p0.take (max (lx p0 p0.length) 1) = up at c3 hul
  have c4:=hg up hul
  have hzl:=hgl up
  generalize wZ ns up = g at c4 hzl
  obtain ⟨⟨zp,zd,zv,zk,zo⟩,ge⟩:=g
  dsimp only at c4 hzl
  unfold Zn.c at c4
  dsimp only at c4
  by_cases h4 : ge = 0
  case neg =>
   have h4':=eq_false h4
   refine ⟨[],[],ge,yZ,by simp,?_⟩
   refine zG Try.tab Try.mixed Try.func61 rfl rfl Try.ntmps61 (by simp) (by simp) fun Q hr hn=>?_
   repeat' first|(refine hK _ ?_;clear hK)|(refine hK _ _ ?_;clear hK)|(clear hK;refine hK _ ?_;clear hK)|(clear hK;clear hK;refine hK _ ?_;clear hK)|(clear hK;clear hK;clear hK;refine hK _ ?_;clear hK)|(clear hK;clear hK;clear hK;clear hK;refine hK _ ?_;clear hK)|(refine zJ fun K hK=>?_)|((first | refine zH ?_ | refine zN rfl (by kernel_rfl) ?_ | refine zM ?_ | refine zK (by kernel_rfl) ?_);simp only [wJ,wI,strip])|((first | refine wIs fun K hK=>?_ | refine wOs fun K hK=>?_ | refine wQs fun K hK=>?_ | refine zU ?_ | refine zV ?_ | refine zW ?_ | refine zL ?_);simp [h1,h1',h4',show ByteArray.empty = bs [] from rfl])|(refine wIn ?_;refine And.intro (by kernel_rfl) ?_;try simp only [zX])|(first | refine zQ ?_ | refine zS ?_)|((first | refine zI ?_ | refine zO ?_ | refine zP ?_);try simp)|((first | refine zR ?_ | refine wOn ?_ | refine wQn ?_);try simp only [zX])|(refine zZ.pure (c1) rfl ?_)|(refine zZ.lent (c1) rfl ?_)|(refine zT.pure (c1) rfl ?_)|(refine zT.lent (c1) rfl ?_)|(refine zZ.own (c1) ?_)|(refine zY.pure (c1) rfl ?_)|(refine zY.lent (c1) rfl ?_)|(refine zY.own (c1) ?_)|(refine zZ.pure (c3) rfl ?_)|(refine zZ.lent (c3) rfl ?_)|(refine zT.pure (c3) rfl ?_)|(refine zT.lent (c3) rfl ?_)|(refine zZ.own (c3) ?_)|(refine zY.pure (c3) rfl ?_)|(refine zY.lent (c3) rfl ?_)|(refine zY.own (c3) ?_)|(refine zZ.pure (c4) rfl ?_)|(refine zZ.lent (c4) rfl ?_)|(refine zT.pure (c4) rfl ?_)|(refine zT.lent (c4) rfl ?_)|(refine zZ.own (c4) ?_)|(refine zY.pure (c4) rfl ?_)|(refine zY.lent (c4) rfl ?_)|(refine zY.own (c4) ?_)
   all_goals apply hr
   all_goals simp [Try.f61,pts,show ByteArray.empty = bs [] from rfl]
  subst h4
  by_cases h5 : zo = 0
  case neg =>
   have h5':=eq_false h5
   refine ⟨[],[],12,yZ,by simp,?_⟩
   refine zG Try.tab Try.mixed Try.func61 rfl rfl Try.ntmps61 (by simp) (by simp) fun Q hr hn=>?_
   repeat' first|(refine hK _ ?_;clear hK)|(refine hK _ _ ?_;clear hK)|(clear hK;refine hK _ ?_;clear hK)|(clear hK;clear hK;refine hK _ ?_;clear hK)|(clear hK;clear hK;clear hK;refine hK _ ?_;clear hK)|(clear hK;clear hK;clear hK;clear hK;refine hK _ ?_;clear hK)|(refine zJ fun K hK=>?_)|((first | refine zH ?_ | refine zN rfl (by kernel_rfl) ?_ | refine zM ?_ | refine zK (by kernel_rfl) ?_);simp only [wJ,wI,strip])|((first | refine wIs fun K hK=>?_ | refine wOs fun K hK=>?_ | refine wQs fun K hK=>?_ | refine zU ?_ | refine zV ?_ | refine zW ?_ | refine zL ?_);simp [h1,h1',h5',show ByteArray.empty = bs [] from rfl])|(refine wIn ?_;refine And.intro (by kernel_rfl) ?_;try simp only [zX])|(first | refine zQ ?_ | refine zS ?_)|((first | refine zI ?_ | refine zO ?_ | refine zP ?_);try simp)|((first | refine zR ?_ | refine wOn ?_ | refine wQn ?_);try simp only [zX])|(refine zZ.pure (c1) rfl ?_)|(refine zZ.lent (c1) rfl ?_)|(refine zT.pure (c1) rfl ?_)|(refine zT.lent (c1) rfl ?_)|(refine zZ.own (c1) ?_)|(refine zY.pure (c1) rfl ?_)|(refine zY.lent (c1) rfl ?_)|(refine zY.own (c1) ?_)|(refine zZ.pure (c3) rfl ?_)|(refine zZ.lent (c3) rfl ?_)|(refine zT.pure (c3) rfl ?_)|(refine zT.lent (c3) rfl ?_)|(refine zZ.own (c3) ?_)|(refine zY.pure (c3) rfl ?_)|(refine zY.lent (c3) rfl ?_)|(refine zY.own (c3) ?_)|(refine zZ.pure (c4) rfl ?_)|(refine zZ.lent (c4) rfl ?_)|(refine zT.pure (c4) rfl ?_)|(refine zT.lent (c4) rfl ?_)|(refine zZ.own (c4) ?_)|(refine zY.pure (c4) rfl ?_)|(refine zY.lent (c4) rfl ?_)|(refine zY.own (c4) ?_)
   all_goals apply hr
   all_goals simp [Try.f61,pts,show ByteArray.empty = bs [] from rfl]
  subst h5
  obtain ⟨p1,hp1⟩ : ∃ p1,p1 = p0:=⟨_,rfl⟩
  subst hp1
  have hpl1:=hpl
  have c6:=hg p1 hpl1
  generalize wZ ns p1 = g1 at c6
  obtain ⟨⟨yp,yd,yv,yk,yo⟩,ye⟩:=g1
  unfold Zn.c at c6
  dsimp only at c6
  by_cases h7 : ye = 0
  ·subst h7
   refine ⟨[],[],7,yZ,by simp,?_⟩
   refine zG Try.tab Try.mixed Try.func61 rfl rfl Try.ntmps61 (by simp) (by simp) fun Q hr hn=>?_
   repeat' first|(refine hK _ ?_;clear hK)|(refine hK _ _ ?_;clear hK)|(clear hK;refine hK _ ?_;clear hK)|(clear hK;clear hK;refine hK _ ?_;clear hK)|(clear hK;clear hK;clear hK;refine hK _ ?_;clear hK)|(clear hK;clear hK;clear hK;clear hK;refine hK _ ?_;clear hK)|(refine zJ fun K hK=>?_)|((first | refine zH ?_ | refine zN rfl (by kernel_rfl) ?_ | refine zM ?_ | refine zK (by kernel_rfl) ?_);simp only [wJ,wI,strip])|((first | refine wIs fun K hK=>?_ | refine wOs fun K hK=>?_ | refine wQs fun K hK=>?_ | refine zU ?_ | refine zV ?_ | refine zW ?_ | refine zL ?_);simp [h1,h1',show ByteArray.empty = bs [] from rfl])|(refine wIn ?_;refine And.intro (by kernel_rfl) ?_;try simp only [zX])|(first | refine zQ ?_ | refine zS ?_)|((first | refine zI ?_ | refine zO ?_ | refine zP ?_);try simp)|((first | refine zR ?_ | refine wOn ?_ | refine wQn ?_);try simp only [zX])|(refine zZ.pure (c1) rfl ?_)|(refine zZ.lent (c1) rfl ?_)|(refine zT.pure (c1) rfl ?_)|(refine zT.lent (c1) rfl ?_)|(refine zZ.own (c1) ?_)|(refine zY.pure (c1) rfl ?_)|(refine zY.lent (c1) rfl ?_)|(refine zY.own (c1) ?_)|(refine zZ.pure (c3) rfl ?_)|(refine zZ.lent (c3) rfl ?_)|(refine zT.pure (c3) rfl ?_)|(refine zT.lent (c3) rfl ?_)|(refine zZ.own (c3) ?_)|(refine zY.pure (c3) rfl ?_)|(refine zY.lent (c3) rfl ?_)|(refine zY.own (c3) ?_)|(refine zZ.pure (c4) rfl ?_)|(refine zZ.lent (c4) rfl ?_)|(refine zT.pure (c4) rfl ?_)|(refine zT.lent (c4) rfl ?_)|(refine zZ.own (c4) ?_)|(refine zY.pure (c4) rfl ?_)|(refine zY.lent (c4) rfl ?_)|(refine zY.own (c4) ?_)|(refine zZ.pure (c6) rfl ?_)|(refine zZ.lent (c6) rfl ?_)|(refine zT.pure (c6) rfl ?_)|(refine zT.lent (c6) rfl ?_)|(refine zZ.own (c6) ?_)|(refine zY.pure (c6) rfl ?_)|(refine zY.lent (c6) rfl ?_)|(refine zY.own (c6) ?_)
   all_goals apply hr
   all_goals simp [Try.f61,pts,show ByteArray.empty = bs [] from rfl]
  have h7':=eq_false h7
  by_cases h8 : 60 <= ns.length
  ·have h8' : (60 : Int) <= ns.length := by omega
   refine ⟨[],[],8,yZ,by simp,?_⟩
   refine zG Try.tab Try.mixed Try.func61 rfl rfl Try.ntmps61 (by simp) (by simp) fun Q hr hn=>?_
   repeat' first|(refine hK _ ?_;clear hK)|(refine hK _ _ ?_;clear hK)|(clear hK;refine hK _ ?_;clear hK)|(clear hK;clear hK;refine hK _ ?_;clear hK)|(clear hK;clear hK;clear hK;refine hK _ ?_;clear hK)|(clear hK;clear hK;clear hK;clear hK;refine hK _ ?_;clear hK)|(refine zJ fun K hK=>?_)|((first | refine zH ?_ | refine zN rfl (by kernel_rfl) ?_ | refine zM ?_ | refine zK (by kernel_rfl) ?_);simp only [wJ,wI,strip])|((first | refine wIs fun K hK=>?_ | refine wOs fun K hK=>?_ | refine wQs fun K hK=>?_ | refine zU ?_ | refine zV ?_ | refine zW ?_ | refine zL ?_);simp [h1,h1',h7',h8,h8',show ByteArray.empty = bs [] from rfl])|(refine wIn ?_;refine And.intro (by kernel_rfl) ?_;try simp only [zX])|(first | refine zQ ?_ | refine zS ?_)|((first | refine zI ?_ | refine zO ?_ | refine zP ?_);try simp)|((first | refine zR ?_ | refine wOn ?_ | refine wQn ?_);try simp only [zX])|(refine zZ.pure (c1) rfl ?_)|(refine zZ.lent (c1) rfl ?_)|(refine zT.pure (c1) rfl ?_)|(refine zT.lent (c1) rfl ?_)|(refine zZ.own (c1) ?_)|(refine zY.pure (c1) rfl ?_)|(refine zY.lent (c1) rfl ?_)|(refine zY.own (c1) ?_)|(refine zZ.pure (c3) rfl ?_)|(refine zZ.lent (c3) rfl ?_)|(refine zT.pure (c3) rfl ?_)|(refine zT.lent (c3) rfl ?_)|(refine zZ.own (c3) ?_)|(refine zY.pure (c3) rfl ?_)|(refine zY.lent (c3) rfl ?_)|(refine zY.own (c3) ?_)|(refine zZ.pure (c4) rfl ?_)|(refine zZ.lent (c4) rfl ?_)|(refine zT.pure (c4) rfl ?_)|(refine zT.lent (c4) rfl ?_)|(refine zZ.own (c4) ?_)|(refine zY.pure (c4) rfl ?_)|(refine zY.lent (c4) rfl ?_)|(refine zY.own (c4) ?_)|(refine zZ.pure (c6) rfl ?_)|(refine zZ.lent (c6) rfl ?_)|(refine zT.pure (c6) rfl ?_)|(refine zT.lent (c6) rfl ?_)|(refine zZ.own (c6) ?_)|(refine zY.pure (c6) rfl ?_)|(refine zY.lent (c6) rfl ?_)|(refine zY.own (c6) ?_)
   all_goals apply hr
   all_goals simp [Try.f61,pts,show ByteArray.empty = bs [] from rfl]
  have h8' : ¬ (60 : Int) <= ns.length:=by omega
  obtain ⟨b,e2,hb,c7⟩:=hbu up hul
  obtain ⟨bk,⟨bp,bd,bv,bkk,bo⟩,bs1,⟨be,bn,bkd,bms⟩⟩:=b
  have hb0:=hb
  unfold Pt.cells at c7
  dsimp only at c7
  by_cases h9 : e2 = 0
  case neg =>
   have h9':=eq_false h9
   refine ⟨[],[],e2,yZ,by simp,?_⟩
   refine zG Try.tab Try.mixed Try.func61 rfl rfl Try.ntmps61 (by simp) (by simp) fun Q hr hn=>?_
   repeat' first|(refine hK _ ?_;clear hK)|(refine hK _ _ ?_;clear hK)|(clear hK;refine hK _ ?_;clear hK)|(clear hK;clear hK;refine hK _ ?_;clear hK)|(clear hK;clear hK;clear hK;refine hK _ ?_;clear hK)|(clear hK;clear hK;clear hK;clear hK;refine hK _ ?_;clear hK)|(refine zJ fun K hK=>?_)|((first | refine zH ?_ | refine zN rfl (by kernel_rfl) ?_ | refine zM ?_ | refine zK (by kernel_rfl) ?_);simp only [wJ,wI,strip])|((first | refine wIs fun K hK=>?_ | refine wOs fun K hK=>?_ | refine wQs fun K hK=>?_ | refine zU ?_ | refine zV ?_ | refine zW ?_ | refine zL ?_);simp [h1,h1',h7',h8,h8',h9',show ByteArray.empty = bs [] from rfl])|(refine wIn ?_;refine And.intro (by kernel_rfl) ?_;try simp only [zX])|(first | refine zQ ?_ | refine zS ?_)|((first | refine zI ?_ | refine zO ?_ | refine zP ?_);try simp)|((first | refine zR ?_ | refine wOn ?_ | refine wQn ?_);try simp only [zX])|(refine zZ.pure (c1) rfl ?_)|(refine zZ.lent (c1) rfl ?_)|(refine zT.pure (c1) rfl ?_)|(refine zT.lent (c1) rfl ?_)|(refine zZ.own (c1) ?_)|(refine zY.pure (c1) rfl ?_)|(refine zY.lent (c1) rfl ?_)|(refine zY.own (c1) ?_)|(refine zZ.pure (c3) rfl ?_)|(refine zZ.lent (c3) rfl ?_)|(refine zT.pure (c3) rfl ?_)|(refine zT.lent (c3) rfl ?_)|(refine zZ.own (c3) ?_)|(refine zY.pure (c3) rfl ?_)|(refine zY.lent (c3) rfl ?_)|(refine zY.own (c3) ?_)|(refine zZ.pure (c4) rfl ?_)|(refine zZ.lent (c4) rfl ?_)|(refine zT.pure (c4) rfl ?_)|(refine zT.lent (c4) rfl ?_)|(refine zZ.own (c4) ?_)|(refine zY.pure (c4) rfl ?_)|(refine zY.lent (c4) rfl ?_)|(refine zY.own (c4) ?_)|(refine zZ.pure (c6) rfl ?_)|(refine zZ.lent (c6) rfl ?_)|(refine zT.pure (c6) rfl ?_)|(refine zT.lent (c6) rfl ?_)|(refine zZ.own (c6) ?_)|(refine zY.pure (c6) rfl ?_)|(refine zY.lent (c6) rfl ?_)|(refine zY.own (c6) ?_)|(refine zZ.pure (c7) rfl ?_)|(refine zZ.lent (c7) rfl ?_)|(refine zT.pure (c7) rfl ?_)|(refine zT.lent (c7) rfl ?_)|(refine zZ.own (c7) ?_)|(refine zY.pure (c7) rfl ?_)|(refine zY.lent (c7) rfl ?_)|(refine zY.own (c7) ?_)
   all_goals apply hr
   all_goals simp [Try.f61,pts,show ByteArray.empty = bs [] from rfl]
  subst h9
  cases ow with
  | true =>
   have c8:=put09_con ⟨p1,da,0,0,ses⟩
   unfold Zn.c at c8
   dsimp only at c8
   refine ⟨[⟨bk,⟨bp,bd,bv,bkk,bo⟩,bs1,⟨be,bn,bkd,bms⟩⟩,putP ⟨p1,da,0,0,ses⟩],p1,0,ps2_ok hb0 (putP_ok ⟨hpl1,hd⟩),by simp,?_⟩
   unfold putP Pt.cells cf0 at c8
   dsimp only at c8
   simp only [pts,wJ,wI,putP,Pt.cells,cf0]
   refine zG Try.tab Try.mixed Try.func61 rfl rfl Try.ntmps61 (by simp) (by simp) fun Q hr hn=>?_
   repeat' first|(refine hK _ ?_;clear hK)|(refine hK _ _ ?_;clear hK)|(clear hK;refine hK _ ?_;clear hK)|(clear hK;clear hK;refine hK _ ?_;clear hK)|(clear hK;clear hK;clear hK;refine hK _ ?_;clear hK)|(clear hK;clear hK;clear hK;clear hK;refine hK _ ?_;clear hK)|(refine zJ fun K hK=>?_)|((first | refine zH ?_ | refine zN rfl (by kernel_rfl) ?_ | refine zM ?_ | refine zK (by kernel_rfl) ?_);simp only [wJ,wI,strip])|((first | refine wIs fun K hK=>?_ | refine wOs fun K hK=>?_ | refine wQs fun K hK=>?_ | refine zU ?_ | refine zV ?_ | refine zW ?_ | refine zL ?_);simp [h1,h1',h7',h8,h8',show ByteArray.empty = bs [] from rfl])|(refine wIn ?_;refine And.intro (by kernel_rfl) ?_;try simp only [zX])|(first | refine zQ ?_ | refine zS ?_)|((first | refine zI ?_ | refine zO ?_ | refine zP ?_);try simp)|((first | refine zR ?_ | refine wOn ?_ | refine wQn ?_);try simp only [zX])|(refine zZ.pure (c1) rfl ?_)|(refine zZ.lent (c1) rfl ?_)|(refine zT.pure (c1) rfl ?_)|(refine zT.lent (c1) rfl ?_)|(refine zZ.own (c1) ?_)|(refine zY.pure (c1) rfl ?_)|(refine zY.lent (c1) rfl ?_)|(refine zY.own (c1) ?_)|(refine zZ.pure (c3) rfl ?_)|(refine zZ.lent (c3) rfl ?_)|(refine zT.pure (c3) rfl ?_)|(refine zT.lent (c3) rfl ?_)|(refine zZ.own (c3) ?_)|(refine zY.pure (c3) rfl ?_)|(refine zY.lent (c3) rfl ?_)|(refine zY.own (c3) ?_)|(refine zZ.pure (c4) rfl ?_)|(refine zZ.lent (c4) rfl ?_)|(refine zT.pure (c4) rfl ?_)|(refine zT.lent (c4) rfl ?_)|(refine zZ.own (c4) ?_)|(refine zY.pure (c4) rfl ?_)|(refine zY.lent (c4) rfl ?_)|(refine zY.own (c4) ?_)|(refine zZ.pure (c6) rfl ?_)|(refine zZ.lent (c6) rfl ?_)|(refine zT.pure (c6) rfl ?_)|(refine zT.lent (c6) rfl ?_)|(refine zZ.own (c6) ?_)|(refine zY.pure (c6) rfl ?_)|(refine zY.lent (c6) rfl ?_)|(refine zY.own (c6) ?_)|(refine zZ.pure (c7) rfl ?_)|(refine zZ.lent (c7) rfl ?_)|(refine zT.pure (c7) rfl ?_)|(refine zT.lent (c7) rfl ?_)|(refine zZ.own (c7) ?_)|(refine zY.pure (c7) rfl ?_)|(refine zY.lent (c7) rfl ?_)|(refine zY.own (c7) ?_)|(refine zZ.pure (c8) rfl ?_)|(refine zZ.lent (c8) rfl ?_)|(refine zT.pure (c8) rfl ?_)|(refine zT.lent (c8) rfl ?_)|(refine zZ.own (c8) ?_)|(refine zY.pure (c8) rfl ?_)|(refine zY.lent (c8) rfl ?_)|(refine zY.own (c8) ?_)
   all_goals apply hr
   all_goals simp [Try.f61,mbs,show ByteArray.empty = bs [] from rfl]
  | false =>
   have c8:=put09_con ⟨p1,da,0,0,0⟩
   unfold Zn.c at c8
   dsimp only at c8
   refine ⟨[⟨bk,⟨bp,bd,bv,bkk,bo⟩,bs1,⟨be,bn,bkd,bms⟩⟩,putP ⟨p1,da,0,0,0⟩],p1,0,ps2_ok hb0 (putP_ok ⟨hpl1,hd⟩),by simp,?_⟩
   unfold putP Pt.cells cf0 at c8
   dsimp only at c8
   simp only [pts,wJ,wI,putP,Pt.cells,cf0]
   refine zG Try.tab Try.mixed Try.func61 rfl rfl Try.ntmps61 (by simp) (by simp) fun Q hr hn=>?_
   repeat' first|(refine hK _ ?_;clear hK)|(refine hK _ _ ?_;clear hK)|(clear hK;refine hK _ ?_;clear hK)|(clear hK;clear hK;refine hK _ ?_;clear hK)|(clear hK;clear hK;clear hK;refine hK _ ?_;clear hK)|(clear hK;clear hK;clear hK;clear hK;refine hK _ ?_;clear hK)|(refine zJ fun K hK=>?_)|((first | refine zH ?_ | refine zN rfl (by kernel_rfl) ?_ | refine zM ?_ | refine zK (by kernel_rfl) ?_);simp only [wJ,wI,strip])|((first | refine wIs fun K hK=>?_ | refine wOs fun K hK=>?_ | refine wQs fun K hK=>?_ | refine zU ?_ | refine zV ?_ | refine zW ?_ | refine zL ?_);simp [h1,h1',h7',h8,h8',show ByteArray.empty = bs [] from rfl])|(refine wIn ?_;refine And.intro (by kernel_rfl) ?_;try simp only [zX])|(first | refine zQ ?_ | refine zS ?_)|((first | refine zI ?_ | refine zO ?_ | refine zP ?_);try simp)|((first | refine zR ?_ | refine wOn ?_ | refine wQn ?_);try simp only [zX])|(refine zZ.pure (c1) rfl ?_)|(refine zZ.lent (c1) rfl ?_)|(refine zT.pure (c1) rfl ?_)|(refine zT.lent (c1) rfl ?_)|(refine zZ.own (c1) ?_)|(refine zY.pure (c1) rfl ?_)|(refine zY.lent (c1) rfl ?_)|(refine zY.own (c1) ?_)|(refine zZ.pure (c3) rfl ?_)|(refine zZ.lent (c3) rfl ?_)|(refine zT.pure (c3) rfl ?_)|(refine zT.lent (c3) rfl ?_)|(refine zZ.own (c3) ?_)|(refine zY.pure (c3) rfl ?_)|(refine zY.lent (c3) rfl ?_)|(refine zY.own (c3) ?_)|(refine zZ.pure (c4) rfl ?_)|(refine zZ.lent (c4) rfl ?_)|(refine zT.pure (c4) rfl ?_)|(refine zT.lent (c4) rfl ?_)|(refine zZ.own (c4) ?_)|(refine zY.pure (c4) rfl ?_)|(refine zY.lent (c4) rfl ?_)|(refine zY.own (c4) ?_)|(refine zZ.pure (c6) rfl ?_)|(refine zZ.lent (c6) rfl ?_)|(refine zT.pure (c6) rfl ?_)|(refine zT.lent (c6) rfl ?_)|(refine zZ.own (c6) ?_)|(refine zY.pure (c6) rfl ?_)|(refine zY.lent (c6) rfl ?_)|(refine zY.own (c6) ?_)|(refine zZ.pure (c7) rfl ?_)|(refine zZ.lent (c7) rfl ?_)|(refine zT.pure (c7) rfl ?_)|(refine zT.lent (c7) rfl ?_)|(refine zZ.own (c7) ?_)|(refine zY.pure (c7) rfl ?_)|(refine zY.lent (c7) rfl ?_)|(refine zY.own (c7) ?_)|(refine zZ.pure (c8) rfl ?_)|(refine zZ.lent (c8) rfl ?_)|(refine zT.pure (c8) rfl ?_)|(refine zT.lent (c8) rfl ?_)|(refine zZ.own (c8) ?_)|(refine zY.pure (c8) rfl ?_)|(refine zY.lent (c8) rfl ?_)|(refine zY.own (c8) ?_)
   all_goals apply hr
   all_goals simp [Try.f61,mbs,show ByteArray.empty = bs [] from rfl]
end Go.Proofs.Ytpilcadofjcdoaa
