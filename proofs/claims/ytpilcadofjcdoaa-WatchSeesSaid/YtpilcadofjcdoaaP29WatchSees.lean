/- Texts that the proof needs: WM2b WM3 WM4 Awm. -/
import Derived.Test.YtpilcadofjcdoaaP28WatchSees
import Derived.Test.YtpilcadofjcdoaaP18WatchSees
import Derived.Test.YtpilcadofjcdoaaP15WatchSees
import Derived.Test.YtpilcadofjcdoaaP12WatchSees
import Derived.Test.YtpilcadofjcdoaaP21WatchSees
import Derived.WalkKit
namespace Go.Proofs.Ytpilcadofjcdoaa
set_option linter.unusedSimpArgs false
set_option linter.unusedVariables false
set_option maxRecDepth 8000
open Go Go.Av
attribute [local irreducible] Go.Av.yQ Go.Av.zZ Go.Av.yG Go.Av.zT Go.Av.yH Go.Av.zY Go.Av.Con
set_option maxHeartbeats 16000000 in
theorem change_ex (s : Sv) (o : Oq) (hp : o.pa.length <= 9223372036854775807) (hd : o.da.length <= 9223372036854775807) (hn : ∀ z ∈ s.ns, long z) (hl : s.ns.length <= 1000000) :
 ∃ (ps : List Pt) (e : Int),PsOk ps /\ ps.length <= 2 /\ zF Try.prog 62 [.p (.agg s.cells),.p (.agg o.cells)] (.tup [.p (.sl 11 (pts ps)),.p (I e)]):=by
 have hbu:=fun p hp=>bumped_ex s p hp hn
 have c1:=get08s_con s o.pa hp
 have hzl:=getZ_long hn o.pa
 have c2:=xC o.pa hp
 have c3:=kids07_con s.ns o.pa hl hn
 have c4:=gone09_con o.pa
 obtain ⟨ns,ss,nx,⟨ep,n,kd,ms⟩,ae,an⟩:=s
 obtain ⟨ok,pa,da,ov,ow,sq⟩:=o
 dsimp only at *
 unfold Sv.cells Oq.cells at *
 dsimp only at *
 generalize wZ ns pa = g at c1 hzl
 obtain ⟨⟨zp,zd,zv,zk,zo⟩,ge⟩:=g
 dsimp only at c1 hzl
 unfold Zn.c at c1
 dsimp only at c1
 unfold parV at c2
 have hul : (pa.take (max (lx pa pa.length) 1)).length <= 9223372036854775807:=by rw [List.length_take];omega
 generalize hup : pa.take (max (lx pa pa.length) 1) = up at *
 have htl : (txs (kds ns pa)).length = (kds ns pa).length:=by simp
 generalize txs (kds ns pa) = TX at c3 htl
 generalize (kds ns pa).length = tl at htl
 obtain ⟨b,e2,hb,c5⟩:=hbu up hul
 obtain ⟨bk,⟨bp,bd,bv,bkk,bo⟩,bs1,⟨be,bn,bkd,bms⟩⟩:=b
 have hb0:=hb
 unfold Pt.cells at c5
 dsimp only at c5
 unfold gonP Pt.cells cf0 at c4
 dsimp only at c4
 by_cases k3 : ok = 3
 ·have k3v := eq_true k3
  have k4v : (ok = 4) = False:=eq_false (by omega)
  by_cases h1 : 128 < da.length
  ·have h1' : (128 : Int) < da.length := by omega
   refine ⟨[],5,yZ,by simp,?_⟩
   refine zG Try.tab Try.mixed Try.func62 rfl rfl Try.ntmps62 (by simp) (by simp) fun Q hr hn=>?_
   repeat' first|(refine hK _ ?_;clear hK)|(refine hK _ _ ?_;clear hK)|(clear hK;refine hK _ ?_;clear hK)|(clear hK;clear hK;refine hK _ ?_;clear hK)|(clear hK;clear hK;clear hK;refine hK _ ?_;clear hK)|(clear hK;clear hK;clear hK;clear hK;refine hK _ ?_;clear hK)|(refine zJ fun K hK=>?_)|((first | refine zH ?_ | refine zN rfl (by kernel_rfl) ?_ | refine zM ?_ | refine zK (by kernel_rfl) ?_);simp only [wJ,wI,strip])|((first | refine wIs fun K hK=>?_ | refine wOs fun K hK=>?_ | refine wQs fun K hK=>?_ | refine zU ?_ | refine zV ?_ | refine zW ?_ | refine zL ?_);simp [k3v,k4v,h1,h1',show ByteArray.empty = bs [] from rfl])|(refine wIn ?_;refine And.intro (by kernel_rfl) ?_;try simp only [zX])|(first | refine zQ ?_ | refine zS ?_)|((first | refine zI ?_ | refine zO ?_ | refine zP ?_);try simp)|((first | refine zR ?_ | refine wOn ?_ | refine wQn ?_);try simp only [zX])
   all_goals apply hr
   all_goals simp [Try.f62,pts,show ByteArray.empty = bs [] from rfl]
  have h1' : ¬ (128 : Int) < da.length:=by omega
  by_cases h2 : ge = 0
  case neg =>
   have h2':=eq_false h2
   refine ⟨[],ge,yZ,by simp,?_⟩
   refine zG Try.tab Try.mixed Try.func62 rfl rfl Try.ntmps62 (by simp) (by simp) fun Q hr hn=>?_
   repeat' first|(refine hK _ ?_;clear hK)|(refine hK _ _ ?_;clear hK)|(clear hK;refine hK _ ?_;clear hK)|(clear hK;clear hK;refine hK _ ?_;clear hK)|(clear hK;clear hK;clear hK;refine hK _ ?_;clear hK)|(clear hK;clear hK;clear hK;clear hK;refine hK _ ?_;clear hK)|(refine zJ fun K hK=>?_)|((first | refine zH ?_ | refine zN rfl (by kernel_rfl) ?_ | refine zM ?_ | refine zK (by kernel_rfl) ?_);simp only [wJ,wI,strip])|((first | refine wIs fun K hK=>?_ | refine wOs fun K hK=>?_ | refine wQs fun K hK=>?_ | refine zU ?_ | refine zV ?_ | refine zW ?_ | refine zL ?_);simp [k3v,k4v,h1,h1',h2',show ByteArray.empty = bs [] from rfl])|(refine wIn ?_;refine And.intro (by kernel_rfl) ?_;try simp only [zX])|(first | refine zQ ?_ | refine zS ?_)|((first | refine zI ?_ | refine zO ?_ | refine zP ?_);try simp)|((first | refine zR ?_ | refine wOn ?_ | refine wQn ?_);try simp only [zX])|(refine zZ.pure (c1) rfl ?_)|(refine zZ.lent (c1) rfl ?_)|(refine zT.pure (c1) rfl ?_)|(refine zT.lent (c1) rfl ?_)|(refine zZ.own (c1) ?_)|(refine zY.pure (c1) rfl ?_)|(refine zY.lent (c1) rfl ?_)|(refine zY.own (c1) ?_)
   all_goals apply hr
   all_goals simp [Try.f62,pts,show ByteArray.empty = bs [] from rfl]
  subst h2
  by_cases h3 : ov = -1
  ·have h3v := eq_true h3
   by_cases h5 : 1099511627776 <= zv
   ·refine ⟨[], 5, yZ, by simp, ?_⟩
    refine zG Try.tab Try.mixed Try.func62 rfl rfl Try.ntmps62 (by simp) (by simp) fun Q hr hn=>?_
    repeat' first|(refine hK _ ?_;clear hK)|(refine hK _ _ ?_;clear hK)|(clear hK;refine hK _ ?_;clear hK)|(clear hK;clear hK;refine hK _ ?_;clear hK)|(clear hK;clear hK;clear hK;refine hK _ ?_;clear hK)|(clear hK;clear hK;clear hK;clear hK;refine hK _ ?_;clear hK)|(refine zJ fun K hK=>?_)|((first | refine zH ?_ | refine zN rfl (by kernel_rfl) ?_ | refine zM ?_ | refine zK (by kernel_rfl) ?_);simp only [wJ,wI,strip])|((first | refine wIs fun K hK=>?_ | refine wOs fun K hK=>?_ | refine wQs fun K hK=>?_ | refine zU ?_ | refine zV ?_ | refine zW ?_ | refine zL ?_);simp [k3v,k4v,h1,h1',h3v,h5,show ByteArray.empty = bs [] from rfl])|(refine wIn ?_;refine And.intro (by kernel_rfl) ?_;try simp only [zX])|(first | refine zQ ?_ | refine zS ?_)|((first | refine zI ?_ | refine zO ?_ | refine zP ?_);try simp)|((first | refine zR ?_ | refine wOn ?_ | refine wQn ?_);try simp only [zX])|(refine zZ.pure (c1) rfl ?_)|(refine zZ.lent (c1) rfl ?_)|(refine zT.pure (c1) rfl ?_)|(refine zT.lent (c1) rfl ?_)|(refine zZ.own (c1) ?_)|(refine zY.pure (c1) rfl ?_)|(refine zY.lent (c1) rfl ?_)|(refine zY.own (c1) ?_)
    all_goals apply hr
    all_goals simp [Try.f62,pts,show ByteArray.empty = bs [] from rfl]
   have c6:=put09_con ⟨zp,da,IntKind.i64.wrap (zv + 1),zk,zo⟩
   unfold Zn.c at c6
   dsimp only at c6
   refine ⟨[putP ⟨zp,da,IntKind.i64.wrap (zv + 1),zk,zo⟩],0,ps1_ok (putP_ok ⟨hzl.1,hd⟩),by simp,?_⟩
   unfold putP Pt.cells cf0 at c6
   dsimp only at c6
   simp only [pts,wJ,wI,putP,Pt.cells,cf0]
   refine zG Try.tab Try.mixed Try.func62 rfl rfl Try.ntmps62 (by simp) (by simp) fun Q hr hn=>?_
   repeat' first|(refine hK _ ?_;clear hK)|(refine hK _ _ ?_;clear hK)|(clear hK;refine hK _ ?_;clear hK)|(clear hK;clear hK;refine hK _ ?_;clear hK)|(clear hK;clear hK;clear hK;refine hK _ ?_;clear hK)|(clear hK;clear hK;clear hK;clear hK;refine hK _ ?_;clear hK)|(refine zJ fun K hK=>?_)|((first | refine zH ?_ | refine zN rfl (by kernel_rfl) ?_ | refine zM ?_ | refine zK (by kernel_rfl) ?_);simp only [wJ,wI,strip])|((first | refine wIs fun K hK=>?_ | refine wOs fun K hK=>?_ | refine wQs fun K hK=>?_ | refine zU ?_ | refine zV ?_ | refine zW ?_ | refine zL ?_);simp [k3v,k4v,h1,h1',h3v,h5,show ByteArray.empty = bs [] from rfl])|(refine wIn ?_;refine And.intro (by kernel_rfl) ?_;try simp only [zX])|(first | refine zQ ?_ | refine zS ?_)|((first | refine zI ?_ | refine zO ?_ | refine zP ?_);try simp)|((first | refine zR ?_ | refine wOn ?_ | refine wQn ?_);try simp only [zX])|(refine zZ.pure (c1) rfl ?_)|(refine zZ.lent (c1) rfl ?_)|(refine zT.pure (c1) rfl ?_)|(refine zT.lent (c1) rfl ?_)|(refine zZ.own (c1) ?_)|(refine zY.pure (c1) rfl ?_)|(refine zY.lent (c1) rfl ?_)|(refine zY.own (c1) ?_)|(refine zZ.pure (c6) rfl ?_)|(refine zZ.lent (c6) rfl ?_)|(refine zT.pure (c6) rfl ?_)|(refine zT.lent (c6) rfl ?_)|(refine zZ.own (c6) ?_)|(refine zY.pure (c6) rfl ?_)|(refine zY.lent (c6) rfl ?_)|(refine zY.own (c6) ?_)
   all_goals apply hr
   all_goals simp [Try.f62,mbs,show ByteArray.empty = bs [] from rfl]
  ·have h3v := eq_false h3
   by_cases h4 : ov = zv
   case neg =>
    have h4':=eq_false h4
    refine ⟨[],10,yZ,by simp,?_⟩
    refine zG Try.tab Try.mixed Try.func62 rfl rfl Try.ntmps62 (by simp) (by simp) fun Q hr hn=>?_
    repeat' first|(refine hK _ ?_;clear hK)|(refine hK _ _ ?_;clear hK)|(clear hK;refine hK _ ?_;clear hK)|(clear hK;clear hK;refine hK _ ?_;clear hK)|(clear hK;clear hK;clear hK;refine hK _ ?_;clear hK)|(clear hK;clear hK;clear hK;clear hK;refine hK _ ?_;clear hK)|(refine zJ fun K hK=>?_)|((first | refine zH ?_ | refine zN rfl (by kernel_rfl) ?_ | refine zM ?_ | refine zK (by kernel_rfl) ?_);simp only [wJ,wI,strip])|((first | refine wIs fun K hK=>?_ | refine wOs fun K hK=>?_ | refine wQs fun K hK=>?_ | refine zU ?_ | refine zV ?_ | refine zW ?_ | refine zL ?_);simp [k3v,k4v,h1,h1',h3v,h4',show ByteArray.empty = bs [] from rfl])|(refine wIn ?_;refine And.intro (by kernel_rfl) ?_;try simp only [zX])|(first | refine zQ ?_ | refine zS ?_)|((first | refine zI ?_ | refine zO ?_ | refine zP ?_);try simp)|((first | refine zR ?_ | refine wOn ?_ | refine wQn ?_);try simp only [zX])|(refine zZ.pure (c1) rfl ?_)|(refine zZ.lent (c1) rfl ?_)|(refine zT.pure (c1) rfl ?_)|(refine zT.lent (c1) rfl ?_)|(refine zZ.own (c1) ?_)|(refine zY.pure (c1) rfl ?_)|(refine zY.lent (c1) rfl ?_)|(refine zY.own (c1) ?_)
    all_goals apply hr
    all_goals simp [Try.f62,pts,show ByteArray.empty = bs [] from rfl]
   have h4v:=eq_true h4
   by_cases h5 : 1099511627776 <= zv
   ·refine ⟨[], 5, yZ, by simp, ?_⟩
    refine zG Try.tab Try.mixed Try.func62 rfl rfl Try.ntmps62 (by simp) (by simp) fun Q hr hn=>?_
    repeat' first|(refine hK _ ?_;clear hK)|(refine hK _ _ ?_;clear hK)|(clear hK;refine hK _ ?_;clear hK)|(clear hK;clear hK;refine hK _ ?_;clear hK)|(clear hK;clear hK;clear hK;refine hK _ ?_;clear hK)|(clear hK;clear hK;clear hK;clear hK;refine hK _ ?_;clear hK)|(refine zJ fun K hK=>?_)|((first | refine zH ?_ | refine zN rfl (by kernel_rfl) ?_ | refine zM ?_ | refine zK (by kernel_rfl) ?_);simp only [wJ,wI,strip])|((first | refine wIs fun K hK=>?_ | refine wOs fun K hK=>?_ | refine wQs fun K hK=>?_ | refine zU ?_ | refine zV ?_ | refine zW ?_ | refine zL ?_);simp [k3v,k4v,h1,h1',h3v,h4v,h5,show ByteArray.empty = bs [] from rfl])|(refine wIn ?_;refine And.intro (by kernel_rfl) ?_;try simp only [zX])|(first | refine zQ ?_ | refine zS ?_)|((first | refine zI ?_ | refine zO ?_ | refine zP ?_);try simp)|((first | refine zR ?_ | refine wOn ?_ | refine wQn ?_);try simp only [zX])|(refine zZ.pure (c1) rfl ?_)|(refine zZ.lent (c1) rfl ?_)|(refine zT.pure (c1) rfl ?_)|(refine zT.lent (c1) rfl ?_)|(refine zZ.own (c1) ?_)|(refine zY.pure (c1) rfl ?_)|(refine zY.lent (c1) rfl ?_)|(refine zY.own (c1) ?_)
    all_goals apply hr
    all_goals simp [Try.f62,pts,show ByteArray.empty = bs [] from rfl]
   have c6:=put09_con ⟨zp,da,IntKind.i64.wrap (zv + 1),zk,zo⟩
   unfold Zn.c at c6
   dsimp only at c6
   refine ⟨[putP ⟨zp,da,IntKind.i64.wrap (zv + 1),zk,zo⟩],0,ps1_ok (putP_ok ⟨hzl.1,hd⟩),by simp,?_⟩
   unfold putP Pt.cells cf0 at c6
   dsimp only at c6
   simp only [pts,wJ,wI,putP,Pt.cells,cf0]
   refine zG Try.tab Try.mixed Try.func62 rfl rfl Try.ntmps62 (by simp) (by simp) fun Q hr hn=>?_
   repeat' first|(refine hK _ ?_;clear hK)|(refine hK _ _ ?_;clear hK)|(clear hK;refine hK _ ?_;clear hK)|(clear hK;clear hK;refine hK _ ?_;clear hK)|(clear hK;clear hK;clear hK;refine hK _ ?_;clear hK)|(clear hK;clear hK;clear hK;clear hK;refine hK _ ?_;clear hK)|(refine zJ fun K hK=>?_)|((first | refine zH ?_ | refine zN rfl (by kernel_rfl) ?_ | refine zM ?_ | refine zK (by kernel_rfl) ?_);simp only [wJ,wI,strip])|((first | refine wIs fun K hK=>?_ | refine wOs fun K hK=>?_ | refine wQs fun K hK=>?_ | refine zU ?_ | refine zV ?_ | refine zW ?_ | refine zL ?_);simp [k3v,k4v,h1,h1',h3v,h4v,h5,show ByteArray.empty = bs [] from rfl])|(refine wIn ?_;refine And.intro (by kernel_rfl) ?_;try simp only [zX])|(first | refine zQ ?_ | refine zS ?_)|((first | refine zI ?_ | refine zO ?_ | refine zP ?_);try simp)|((first | refine zR ?_ | refine wOn ?_ | refine wQn ?_);try simp only [zX])|(refine zZ.pure (c1) rfl ?_)|(refine zZ.lent (c1) rfl ?_)|(refine zT.pure (c1) rfl ?_)|(refine zT.lent (c1) rfl ?_)|(refine zZ.own (c1) ?_)|(refine zY.pure (c1) rfl ?_)|(refine zY.lent (c1) rfl ?_)|(refine zY.own (c1) ?_)|(refine zZ.pure (c6) rfl ?_)|(refine zZ.lent (c6) rfl ?_)|(refine zT.pure (c6) rfl ?_)|(refine zT.lent (c6) rfl ?_)|(refine zZ.own (c6) ?_)|(refine zY.pure (c6) rfl ?_)|(refine zY.lent (c6) rfl ?_)|(refine zY.own (c6) ?_)
   all_goals apply hr
   all_goals simp [Try.f62,mbs,show ByteArray.empty = bs [] from rfl]
 ·have k3v := eq_false k3
  by_cases k4 : ok = 4
  ·have k4v := eq_true k4
   by_cases h2 : ge = 0
   case neg =>
    have h2':=eq_false h2
    refine ⟨[],ge,yZ,by simp,?_⟩
    refine zG Try.tab Try.mixed Try.func62 rfl rfl Try.ntmps62 (by simp) (by simp) fun Q hr hn=>?_
    repeat' first|(refine hK _ ?_;clear hK)|(refine hK _ _ ?_;clear hK)|(clear hK;refine hK _ ?_;clear hK)|(clear hK;clear hK;refine hK _ ?_;clear hK)|(clear hK;clear hK;clear hK;refine hK _ ?_;clear hK)|(clear hK;clear hK;clear hK;clear hK;refine hK _ ?_;clear hK)|(refine zJ fun K hK=>?_)|((first | refine zH ?_ | refine zN rfl (by kernel_rfl) ?_ | refine zM ?_ | refine zK (by kernel_rfl) ?_);simp only [wJ,wI,strip])|((first | refine wIs fun K hK=>?_ | refine wOs fun K hK=>?_ | refine wQs fun K hK=>?_ | refine zU ?_ | refine zV ?_ | refine zW ?_ | refine zL ?_);simp [k3v,k4v,h2',show ByteArray.empty = bs [] from rfl])|(refine wIn ?_;refine And.intro (by kernel_rfl) ?_;try simp only [zX])|(first | refine zQ ?_ | refine zS ?_)|((first | refine zI ?_ | refine zO ?_ | refine zP ?_);try simp)|((first | refine zR ?_ | refine wOn ?_ | refine wQn ?_);try simp only [zX])|(refine zZ.pure (c1) rfl ?_)|(refine zZ.lent (c1) rfl ?_)|(refine zT.pure (c1) rfl ?_)|(refine zT.lent (c1) rfl ?_)|(refine zZ.own (c1) ?_)|(refine zY.pure (c1) rfl ?_)|(refine zY.lent (c1) rfl ?_)|(refine zY.own (c1) ?_)
    all_goals apply hr
    all_goals simp [Try.f62,pts,show ByteArray.empty = bs [] from rfl]
   subst h2
   by_cases h3 : ov = -1
   ·have h3v := eq_true h3
    refine ⟨[],0,yZ,by simp,?_⟩
    refine zG Try.tab Try.mixed Try.func62 rfl rfl Try.ntmps62 (by simp) (by simp) fun Q hr hn=>?_
    repeat' first|(refine hK _ ?_;clear hK)|(refine hK _ _ ?_;clear hK)|(clear hK;refine hK _ ?_;clear hK)|(clear hK;clear hK;refine hK _ ?_;clear hK)|(clear hK;clear hK;clear hK;refine hK _ ?_;clear hK)|(clear hK;clear hK;clear hK;clear hK;refine hK _ ?_;clear hK)|(refine zJ fun K hK=>?_)|((first | refine zH ?_ | refine zN rfl (by kernel_rfl) ?_ | refine zM ?_ | refine zK (by kernel_rfl) ?_);simp only [wJ,wI,strip])|((first | refine wIs fun K hK=>?_ | refine wOs fun K hK=>?_ | refine wQs fun K hK=>?_ | refine zU ?_ | refine zV ?_ | refine zW ?_ | refine zL ?_);simp [k3v,k4v,h3v,show ByteArray.empty = bs [] from rfl])|(refine wIn ?_;refine And.intro (by kernel_rfl) ?_;try simp only [zX])|(first | refine zQ ?_ | refine zS ?_)|((first | refine zI ?_ | refine zO ?_ | refine zP ?_);try simp)|((first | refine zR ?_ | refine wOn ?_ | refine wQn ?_);try simp only [zX])|(refine zZ.pure (c1) rfl ?_)|(refine zZ.lent (c1) rfl ?_)|(refine zT.pure (c1) rfl ?_)|(refine zT.lent (c1) rfl ?_)|(refine zZ.own (c1) ?_)|(refine zY.pure (c1) rfl ?_)|(refine zY.lent (c1) rfl ?_)|(refine zY.own (c1) ?_)
    all_goals apply hr
    all_goals simp [Try.f62,pts,show ByteArray.empty = bs [] from rfl]
   ·have h3v := eq_false h3
    by_cases h4 : ov = zv
    case neg =>
     have h4':=eq_false h4
     refine ⟨[],10,yZ,by simp,?_⟩
     refine zG Try.tab Try.mixed Try.func62 rfl rfl Try.ntmps62 (by simp) (by simp) fun Q hr hn=>?_
     repeat' first|(refine hK _ ?_;clear hK)|(refine hK _ _ ?_;clear hK)|(clear hK;refine hK _ ?_;clear hK)|(clear hK;clear hK;refine hK _ ?_;clear hK)|(clear hK;clear hK;clear hK;refine hK _ ?_;clear hK)|(clear hK;clear hK;clear hK;clear hK;refine hK _ ?_;clear hK)|(refine zJ fun K hK=>?_)|((first | refine zH ?_ | refine zN rfl (by kernel_rfl) ?_ | refine zM ?_ | refine zK (by kernel_rfl) ?_);simp only [wJ,wI,strip])|((first | refine wIs fun K hK=>?_ | refine wOs fun K hK=>?_ | refine wQs fun K hK=>?_ | refine zU ?_ | refine zV ?_ | refine zW ?_ | refine zL ?_);simp [k3v,k4v,h3v,h4',show ByteArray.empty = bs [] from rfl])|(refine wIn ?_;refine And.intro (by kernel_rfl) ?_;try simp only [zX])|(first | refine zQ ?_ | refine zS ?_)|((first | refine zI ?_ | refine zO ?_ | refine zP ?_);try simp)|((first | refine zR ?_ | refine wOn ?_ | refine wQn ?_);try simp only [zX])|(refine zZ.pure (c1) rfl ?_)|(refine zZ.lent (c1) rfl ?_)|(refine zT.pure (c1) rfl ?_)|(refine zT.lent (c1) rfl ?_)|(refine zZ.own (c1) ?_)|(refine zY.pure (c1) rfl ?_)|(refine zY.lent (c1) rfl ?_)|(refine zY.own (c1) ?_)
     all_goals apply hr
     all_goals simp [Try.f62,pts,show ByteArray.empty = bs [] from rfl]
    have h4v:=eq_true h4
    refine ⟨[],0,yZ,by simp,?_⟩
    refine zG Try.tab Try.mixed Try.func62 rfl rfl Try.ntmps62 (by simp) (by simp) fun Q hr hn=>?_
    repeat' first|(refine hK _ ?_;clear hK)|(refine hK _ _ ?_;clear hK)|(clear hK;refine hK _ ?_;clear hK)|(clear hK;clear hK;refine hK _ ?_;clear hK)|(clear hK;clear hK;clear hK;refine hK _ ?_;clear hK)|(clear hK;clear hK;clear hK;clear hK;refine hK _ ?_;clear hK)|(refine zJ fun K hK=>?_)|((first | refine zH ?_ | refine zN rfl (by kernel_rfl) ?_ | refine zM ?_ | refine zK (by kernel_rfl) ?_);simp only [wJ,wI,strip])|((first | refine wIs fun K hK=>?_ | refine wOs fun K hK=>?_ | refine wQs fun K hK=>?_ | refine zU ?_ | refine zV ?_ | refine zW ?_ | refine zL ?_);simp [k3v,k4v,h3v,h4v,show ByteArray.empty = bs [] from rfl])|(refine wIn ?_;refine And.intro (by kernel_rfl) ?_;try simp only [zX])|(first | refine zQ ?_ | refine zS ?_)|((first | refine zI ?_ | refine zO ?_ | refine zP ?_);try simp)|((first | refine zR ?_ | refine wOn ?_ | refine wQn ?_);try simp only [zX])|(refine zZ.pure (c1) rfl ?_)|(refine zZ.lent (c1) rfl ?_)|(refine zT.pure (c1) rfl ?_)|(refine zT.lent (c1) rfl ?_)|(refine zZ.own (c1) ?_)|(refine zY.pure (c1) rfl ?_)|(refine zY.lent (c1) rfl ?_)|(refine zY.own (c1) ?_)
    all_goals apply hr
    all_goals simp [Try.f62,pts,show ByteArray.empty = bs [] from rfl]
  ·have k4v := eq_false k4
   by_cases h2 : ge = 0
   case neg =>
    have h2':=eq_false h2
    refine ⟨[],ge,yZ,by simp,?_⟩
    refine zG Try.tab Try.mixed Try.func62 rfl rfl Try.ntmps62 (by simp) (by simp) fun Q hr hn=>?_
    repeat' first|(refine hK _ ?_;clear hK)|(refine hK _ _ ?_;clear hK)|(clear hK;refine hK _ ?_;clear hK)|(clear hK;clear hK;refine hK _ ?_;clear hK)|(clear hK;clear hK;clear hK;refine hK _ ?_;clear hK)|(clear hK;clear hK;clear hK;clear hK;refine hK _ ?_;clear hK)|(refine zJ fun K hK=>?_)|((first | refine zH ?_ | refine zN rfl (by kernel_rfl) ?_ | refine zM ?_ | refine zK (by kernel_rfl) ?_);simp only [wJ,wI,strip])|((first | refine wIs fun K hK=>?_ | refine wOs fun K hK=>?_ | refine wQs fun K hK=>?_ | refine zU ?_ | refine zV ?_ | refine zW ?_ | refine zL ?_);simp [k3v,k4v,h2',show ByteArray.empty = bs [] from rfl])|(refine wIn ?_;refine And.intro (by kernel_rfl) ?_;try simp only [zX])|(first | refine zQ ?_ | refine zS ?_)|((first | refine zI ?_ | refine zO ?_ | refine zP ?_);try simp)|((first | refine zR ?_ | refine wOn ?_ | refine wQn ?_);try simp only [zX])|(refine zZ.pure (c1) rfl ?_)|(refine zZ.lent (c1) rfl ?_)|(refine zT.pure (c1) rfl ?_)|(refine zT.lent (c1) rfl ?_)|(refine zZ.own (c1) ?_)|(refine zY.pure (c1) rfl ?_)|(refine zY.lent (c1) rfl ?_)|(refine zY.own (c1) ?_)
    all_goals apply hr
    all_goals simp [Try.f62,pts,show ByteArray.empty = bs [] from rfl]
   subst h2
   by_cases h3 : ov = -1
   ·have h3v := eq_true h3
    by_cases h6 : chd pa = true
    case neg =>
     rw [if_neg h6] at c2
     refine ⟨[],1,yZ,by simp,?_⟩
     refine zG Try.tab Try.mixed Try.func62 rfl rfl Try.ntmps62 (by simp) (by simp) fun Q hr hn=>?_
     repeat' first|(refine hK _ ?_;clear hK)|(refine hK _ _ ?_;clear hK)|(clear hK;refine hK _ ?_;clear hK)|(clear hK;clear hK;refine hK _ ?_;clear hK)|(clear hK;clear hK;clear hK;refine hK _ ?_;clear hK)|(clear hK;clear hK;clear hK;clear hK;refine hK _ ?_;clear hK)|(refine zJ fun K hK=>?_)|((first | refine zH ?_ | refine zN rfl (by kernel_rfl) ?_ | refine zM ?_ | refine zK (by kernel_rfl) ?_);simp only [wJ,wI,strip])|((first | refine wIs fun K hK=>?_ | refine wOs fun K hK=>?_ | refine wQs fun K hK=>?_ | refine zU ?_ | refine zV ?_ | refine zW ?_ | refine zL ?_);simp [k3v,k4v,h3v,show ByteArray.empty = bs [] from rfl])|(refine wIn ?_;refine And.intro (by kernel_rfl) ?_;try simp only [zX])|(first | refine zQ ?_ | refine zS ?_)|((first | refine zI ?_ | refine zO ?_ | refine zP ?_);try simp)|((first | refine zR ?_ | refine wOn ?_ | refine wQn ?_);try simp only [zX])|(refine zZ.pure (c1) rfl ?_)|(refine zZ.lent (c1) rfl ?_)|(refine zT.pure (c1) rfl ?_)|(refine zT.lent (c1) rfl ?_)|(refine zZ.own (c1) ?_)|(refine zY.pure (c1) rfl ?_)|(refine zY.lent (c1) rfl ?_)|(refine zY.own (c1) ?_)|(refine zZ.pure (c2) rfl ?_)|(refine zZ.lent (c2) rfl ?_)|(refine zT.pure (c2) rfl ?_)|(refine zT.lent (c2) rfl ?_)|(refine zZ.own (c2) ?_)|(refine zY.pure (c2) rfl ?_)|(refine zY.lent (c2) rfl ?_)|(refine zY.own (c2) ?_)
     all_goals apply hr
     all_goals simp [Try.f62,pts,show ByteArray.empty = bs [] from rfl]
    rw [if_pos h6] at c2
    by_cases h7 : 0 < tl
    ·have h7' : (0 : Int) < tl := by omega
     refine ⟨[],11,yZ,by simp,?_⟩
     refine zG Try.tab Try.mixed Try.func62 rfl rfl Try.ntmps62 (by simp) (by simp) fun Q hr hn=>?_
     repeat' first|(refine hK _ ?_;clear hK)|(refine hK _ _ ?_;clear hK)|(clear hK;refine hK _ ?_;clear hK)|(clear hK;clear hK;refine hK _ ?_;clear hK)|(clear hK;clear hK;clear hK;refine hK _ ?_;clear hK)|(clear hK;clear hK;clear hK;clear hK;refine hK _ ?_;clear hK)|(refine zJ fun K hK=>?_)|((first | refine zH ?_ | refine zN rfl (by kernel_rfl) ?_ | refine zM ?_ | refine zK (by kernel_rfl) ?_);simp only [wJ,wI,strip])|((first | refine wIs fun K hK=>?_ | refine wOs fun K hK=>?_ | refine wQs fun K hK=>?_ | refine zU ?_ | refine zV ?_ | refine zW ?_ | refine zL ?_);simp [k3v,k4v,h3v,htl,h7,h7',show ByteArray.empty = bs [] from rfl])|(refine wIn ?_;refine And.intro (by kernel_rfl) ?_;try simp only [zX])|(first | refine zQ ?_ | refine zS ?_)|((first | refine zI ?_ | refine zO ?_ | refine zP ?_);try simp)|((first | refine zR ?_ | refine wOn ?_ | refine wQn ?_);try simp only [zX])|(refine zZ.pure (c1) rfl ?_)|(refine zZ.lent (c1) rfl ?_)|(refine zT.pure (c1) rfl ?_)|(refine zT.lent (c1) rfl ?_)|(refine zZ.own (c1) ?_)|(refine zY.pure (c1) rfl ?_)|(refine zY.lent (c1) rfl ?_)|(refine zY.own (c1) ?_)|(refine zZ.pure (c2) rfl ?_)|(refine zZ.lent (c2) rfl ?_)|(refine zT.pure (c2) rfl ?_)|(refine zT.lent (c2) rfl ?_)|(refine zZ.own (c2) ?_)|(refine zY.pure (c2) rfl ?_)|(refine zY.lent (c2) rfl ?_)|(refine zY.own (c2) ?_)|(refine zZ.pure (c3) rfl ?_)|(refine zZ.lent (c3) rfl ?_)|(refine zT.pure (c3) rfl ?_)|(refine zT.lent (c3) rfl ?_)|(refine zZ.own (c3) ?_)|(refine zY.pure (c3) rfl ?_)|(refine zY.lent (c3) rfl ?_)|(refine zY.own (c3) ?_)
     all_goals apply hr
     all_goals simp [Try.f62,pts,show ByteArray.empty = bs [] from rfl]
    have h7' : ¬ (0 : Int) < tl:=by omega
    have h7z : tl = 0:=by omega
    by_cases h8 : e2 = 0
    case neg =>
     have h8':=eq_false h8
     refine ⟨[],e2,yZ,by simp,?_⟩
     refine zG Try.tab Try.mixed Try.func62 rfl rfl Try.ntmps62 (by simp) (by simp) fun Q hr hn=>?_
     repeat' first|(refine hK _ ?_;clear hK)|(refine hK _ _ ?_;clear hK)|(clear hK;refine hK _ ?_;clear hK)|(clear hK;clear hK;refine hK _ ?_;clear hK)|(clear hK;clear hK;clear hK;refine hK _ ?_;clear hK)|(clear hK;clear hK;clear hK;clear hK;refine hK _ ?_;clear hK)|(refine zJ fun K hK=>?_)|((first | refine zH ?_ | refine zN rfl (by kernel_rfl) ?_ | refine zM ?_ | refine zK (by kernel_rfl) ?_);simp only [wJ,wI,strip])|((first | refine wIs fun K hK=>?_ | refine wOs fun K hK=>?_ | refine wQs fun K hK=>?_ | refine zU ?_ | refine zV ?_ | refine zW ?_ | refine zL ?_);simp [k3v,k4v,h3v,htl,h7,h7',h7z,h8',show ByteArray.empty = bs [] from rfl])|(refine wIn ?_;refine And.intro (by kernel_rfl) ?_;try simp only [zX])|(first | refine zQ ?_ | refine zS ?_)|((first | refine zI ?_ | refine zO ?_ | refine zP ?_);try simp)|((first | refine zR ?_ | refine wOn ?_ | refine wQn ?_);try simp only [zX])|(refine zZ.pure (c1) rfl ?_)|(refine zZ.lent (c1) rfl ?_)|(refine zT.pure (c1) rfl ?_)|(refine zT.lent (c1) rfl ?_)|(refine zZ.own (c1) ?_)|(refine zY.pure (c1) rfl ?_)|(refine zY.lent (c1) rfl ?_)|(refine zY.own (c1) ?_)|(refine zZ.pure (c2) rfl ?_)|(refine zZ.lent (c2) rfl ?_)|(refine zT.pure (c2) rfl ?_)|(refine zT.lent (c2) rfl ?_)|(refine zZ.own (c2) ?_)|(refine zY.pure (c2) rfl ?_)|(refine zY.lent (c2) rfl ?_)|(refine zY.own (c2) ?_)|(refine zZ.pure (c3) rfl ?_)|(refine zZ.lent (c3) rfl ?_)|(refine zT.pure (c3) rfl ?_)|(refine zT.lent (c3) rfl ?_)|(refine zZ.own (c3) ?_)|(refine zY.pure (c3) rfl ?_)|(refine zY.lent (c3) rfl ?_)|(refine zY.own (c3) ?_)|(refine zZ.pure (c5) rfl ?_)|(refine zZ.lent (c5) rfl ?_)|(refine zT.pure (c5) rfl ?_)|(refine zT.lent (c5) rfl ?_)|(refine zZ.own (c5) ?_)|(refine zY.pure (c5) rfl ?_)|(refine zY.lent (c5) rfl ?_)|(refine zY.own (c5) ?_)
     all_goals apply hr
     all_goals simp [Try.f62,pts,show ByteArray.empty = bs [] from rfl]
    subst h8
    refine ⟨[gonP pa,⟨bk,⟨bp,bd,bv,bkk,bo⟩,bs1,⟨be,bn,bkd,bms⟩⟩],0,ps2_ok ⟨⟨hp,Nat.zero_le _⟩,Nat.zero_le _⟩ hb0,by simp,?_⟩
    simp only [pts,wJ,wI,gonP,Pt.cells,cf0]
    refine zG Try.tab Try.mixed Try.func62 rfl rfl Try.ntmps62 (by simp) (by simp) fun Q hr hn=>?_
    repeat' first|(refine hK _ ?_;clear hK)|(refine hK _ _ ?_;clear hK)|(clear hK;refine hK _ ?_;clear hK)|(clear hK;clear hK;refine hK _ ?_;clear hK)|(clear hK;clear hK;clear hK;refine hK _ ?_;clear hK)|(clear hK;clear hK;clear hK;clear hK;refine hK _ ?_;clear hK)|(refine zJ fun K hK=>?_)|((first | refine zH ?_ | refine zN rfl (by kernel_rfl) ?_ | refine zM ?_ | refine zK (by kernel_rfl) ?_);simp only [wJ,wI,strip])|((first | refine wIs fun K hK=>?_ | refine wOs fun K hK=>?_ | refine wQs fun K hK=>?_ | refine zU ?_ | refine zV ?_ | refine zW ?_ | refine zL ?_);simp [k3v,k4v,h3v,htl,h7,h7',h7z,show ByteArray.empty = bs [] from rfl])|(refine wIn ?_;refine And.intro (by kernel_rfl) ?_;try simp only [zX])|(first | refine zQ ?_ | refine zS ?_)|((first | refine zI ?_ | refine zO ?_ | refine zP ?_);try simp)|((first | refine zR ?_ | refine wOn ?_ | refine wQn ?_);try simp only [zX])|(refine zZ.pure (c1) rfl ?_)|(refine zZ.lent (c1) rfl ?_)|(refine zT.pure (c1) rfl ?_)|(refine zT.lent (c1) rfl ?_)|(refine zZ.own (c1) ?_)|(refine zY.pure (c1) rfl ?_)|(refine zY.lent (c1) rfl ?_)|(refine zY.own (c1) ?_)|(refine zZ.pure (c2) rfl ?_)|(refine zZ.lent (c2) rfl ?_)|(refine zT.pure (c2) rfl ?_)|(refine zT.lent (c2) rfl ?_)|(refine zZ.own (c2) ?_)|(refine zY.pure (c2) rfl ?_)|(refine zY.lent (c2) rfl ?_)|(refine zY.own (c2) ?_)|(refine zZ.pure (c3) rfl ?_)|(refine zZ.lent (c3) rfl ?_)|(refine zT.pure (c3) rfl ?_)|(refine zT.lent (c3) rfl ?_)|(refine zZ.own (c3) ?_)|(refine zY.pure (c3) rfl ?_)|(refine zY.lent (c3) rfl ?_)|(refine zY.own (c3) ?_)|(refine zZ.pure (c4) rfl ?_)|(refine zZ.lent (c4) rfl ?_)|(refine zT.pure (c4) rfl ?_)|(refine zT.lent (c4) rfl ?_)|(refine zZ.own (c4) ?_)|(refine zY.pure (c4) rfl ?_)|(refine zY.lent (c4) rfl ?_)|(refine zY.own (c4) ?_)|(refine zZ.pure (c5) rfl ?_)|(refine zZ.lent (c5) rfl ?_)|(refine zT.pure (c5) rfl ?_)|(refine zT.lent (c5) rfl ?_)|(refine zZ.own (c5) ?_)|(refine zY.pure (c5) rfl ?_)|(refine zY.lent (c5) rfl ?_)|(refine zY.own (c5) ?_)
    all_goals apply hr
    all_goals simp [Try.f62,mbs,show ByteArray.empty = bs [] from rfl]
   ·have h3v := eq_false h3
    by_cases h4 : ov = zv
    case neg =>
     have h4':=eq_false h4
     refine ⟨[],10,yZ,by simp,?_⟩
     refine zG Try.tab Try.mixed Try.func62 rfl rfl Try.ntmps62 (by simp) (by simp) fun Q hr hn=>?_
     repeat' first|(refine hK _ ?_;clear hK)|(refine hK _ _ ?_;clear hK)|(clear hK;refine hK _ ?_;clear hK)|(clear hK;clear hK;refine hK _ ?_;clear hK)|(clear hK;clear hK;clear hK;refine hK _ ?_;clear hK)|(clear hK;clear hK;clear hK;clear hK;refine hK _ ?_;clear hK)|(refine zJ fun K hK=>?_)|((first | refine zH ?_ | refine zN rfl (by kernel_rfl) ?_ | refine zM ?_ | refine zK (by kernel_rfl) ?_);simp only [wJ,wI,strip])|((first | refine wIs fun K hK=>?_ | refine wOs fun K hK=>?_ | refine wQs fun K hK=>?_ | refine zU ?_ | refine zV ?_ | refine zW ?_ | refine zL ?_);simp [k3v,k4v,h3v,h4',show ByteArray.empty = bs [] from rfl])|(refine wIn ?_;refine And.intro (by kernel_rfl) ?_;try simp only [zX])|(first | refine zQ ?_ | refine zS ?_)|((first | refine zI ?_ | refine zO ?_ | refine zP ?_);try simp)|((first | refine zR ?_ | refine wOn ?_ | refine wQn ?_);try simp only [zX])|(refine zZ.pure (c1) rfl ?_)|(refine zZ.lent (c1) rfl ?_)|(refine zT.pure (c1) rfl ?_)|(refine zT.lent (c1) rfl ?_)|(refine zZ.own (c1) ?_)|(refine zY.pure (c1) rfl ?_)|(refine zY.lent (c1) rfl ?_)|(refine zY.own (c1) ?_)
     all_goals apply hr
     all_goals simp [Try.f62,pts,show ByteArray.empty = bs [] from rfl]
    have h4v:=eq_true h4
    by_cases h6 : chd pa = true
    case neg =>
     rw [if_neg h6] at c2
     refine ⟨[],1,yZ,by simp,?_⟩
     refine zG Try.tab Try.mixed Try.func62 rfl rfl Try.ntmps62 (by simp) (by simp) fun Q hr hn=>?_
     repeat' first|(refine hK _ ?_;clear hK)|(refine hK _ _ ?_;clear hK)|(clear hK;refine hK _ ?_;clear hK)|(clear hK;clear hK;refine hK _ ?_;clear hK)|(clear hK;clear hK;clear hK;refine hK _ ?_;clear hK)|(clear hK;clear hK;clear hK;clear hK;refine hK _ ?_;clear hK)|(refine zJ fun K hK=>?_)|((first | refine zH ?_ | refine zN rfl (by kernel_rfl) ?_ | refine zM ?_ | refine zK (by kernel_rfl) ?_);simp only [wJ,wI,strip])|((first | refine wIs fun K hK=>?_ | refine wOs fun K hK=>?_ | refine wQs fun K hK=>?_ | refine zU ?_ | refine zV ?_ | refine zW ?_ | refine zL ?_);simp [k3v,k4v,h3v,h4v,show ByteArray.empty = bs [] from rfl])|(refine wIn ?_;refine And.intro (by kernel_rfl) ?_;try simp only [zX])|(first | refine zQ ?_ | refine zS ?_)|((first | refine zI ?_ | refine zO ?_ | refine zP ?_);try simp)|((first | refine zR ?_ | refine wOn ?_ | refine wQn ?_);try simp only [zX])|(refine zZ.pure (c1) rfl ?_)|(refine zZ.lent (c1) rfl ?_)|(refine zT.pure (c1) rfl ?_)|(refine zT.lent (c1) rfl ?_)|(refine zZ.own (c1) ?_)|(refine zY.pure (c1) rfl ?_)|(refine zY.lent (c1) rfl ?_)|(refine zY.own (c1) ?_)|(refine zZ.pure (c2) rfl ?_)|(refine zZ.lent (c2) rfl ?_)|(refine zT.pure (c2) rfl ?_)|(refine zT.lent (c2) rfl ?_)|(refine zZ.own (c2) ?_)|(refine zY.pure (c2) rfl ?_)|(refine zY.lent (c2) rfl ?_)|(refine zY.own (c2) ?_)
     all_goals apply hr
     all_goals simp [Try.f62,pts,show ByteArray.empty = bs [] from rfl]
    rw [if_pos h6] at c2
    by_cases h7 : 0 < tl
    ·have h7' : (0 : Int) < tl := by omega
     refine ⟨[],11,yZ,by simp,?_⟩
     refine zG Try.tab Try.mixed Try.func62 rfl rfl Try.ntmps62 (by simp) (by simp) fun Q hr hn=>?_
     repeat' first|(refine hK _ ?_;clear hK)|(refine hK _ _ ?_;clear hK)|(clear hK;refine hK _ ?_;clear hK)|(clear hK;clear hK;refine hK _ ?_;clear hK)|(clear hK;clear hK;clear hK;refine hK _ ?_;clear hK)|(clear hK;clear hK;clear hK;clear hK;refine hK _ ?_;clear hK)|(refine zJ fun K hK=>?_)|((first | refine zH ?_ | refine zN rfl (by kernel_rfl) ?_ | refine zM ?_ | refine zK (by kernel_rfl) ?_);simp only [wJ,wI,strip])|((first | refine wIs fun K hK=>?_ | refine wOs fun K hK=>?_ | refine wQs fun K hK=>?_ | refine zU ?_ | refine zV ?_ | refine zW ?_ | refine zL ?_);simp [k3v,k4v,h3v,h4v,htl,h7,h7',show ByteArray.empty = bs [] from rfl])|(refine wIn ?_;refine And.intro (by kernel_rfl) ?_;try simp only [zX])|(first | refine zQ ?_ | refine zS ?_)|((first | refine zI ?_ | refine zO ?_ | refine zP ?_);try simp)|((first | refine zR ?_ | refine wOn ?_ | refine wQn ?_);try simp only [zX])|(refine zZ.pure (c1) rfl ?_)|(refine zZ.lent (c1) rfl ?_)|(refine zT.pure (c1) rfl ?_)|(refine zT.lent (c1) rfl ?_)|(refine zZ.own (c1) ?_)|(refine zY.pure (c1) rfl ?_)|(refine zY.lent (c1) rfl ?_)|(refine zY.own (c1) ?_)|(refine zZ.pure (c2) rfl ?_)|(refine zZ.lent (c2) rfl ?_)|(refine zT.pure (c2) rfl ?_)|(refine zT.lent (c2) rfl ?_)|(refine zZ.own (c2) ?_)|(refine zY.pure (c2) rfl ?_)|(refine zY.lent (c2) rfl ?_)|(refine zY.own (c2) ?_)|(refine zZ.pure (c3) rfl ?_)|(refine zZ.lent (c3) rfl ?_)|(refine zT.pure (c3) rfl ?_)|(refine zT.lent (c3) rfl ?_)|(refine zZ.own (c3) ?_)|(refine zY.pure (c3) rfl ?_)|(refine zY.lent (c3) rfl ?_)|(refine zY.own (c3) ?_)
     all_goals apply hr
     all_goals simp [Try.f62,pts,show ByteArray.empty = bs [] from rfl]
    have h7' : ¬ (0 : Int) < tl:=by omega
    have h7z : tl = 0:=by omega
    by_cases h8 : e2 = 0
    case neg =>
     have h8':=eq_false h8
     refine ⟨[],e2,yZ,by simp,?_⟩
     refine zG Try.tab Try.mixed Try.func62 rfl rfl Try.ntmps62 (by simp) (by simp) fun Q hr hn=>?_
     repeat' first|(refine hK _ ?_;clear hK)|(refine hK _ _ ?_;clear hK)|(clear hK;refine hK _ ?_;clear hK)|(clear hK;clear hK;refine hK _ ?_;clear hK)|(clear hK;clear hK;clear hK;refine hK _ ?_;clear hK)|(clear hK;clear hK;clear hK;clear hK;refine hK _ ?_;clear hK)|(refine zJ fun K hK=>?_)|((first | refine zH ?_ | refine zN rfl (by kernel_rfl) ?_ | refine zM ?_ | refine zK (by kernel_rfl) ?_);simp only [wJ,wI,strip])|((first | refine wIs fun K hK=>?_ | refine wOs fun K hK=>?_ | refine wQs fun K hK=>?_ | refine zU ?_ | refine zV ?_ | refine zW ?_ | refine zL ?_);simp [k3v,k4v,h3v,h4v,htl,h7,h7',h7z,h8',show ByteArray.empty = bs [] from rfl])|(refine wIn ?_;refine And.intro (by kernel_rfl) ?_;try simp only [zX])|(first | refine zQ ?_ | refine zS ?_)|((first | refine zI ?_ | refine zO ?_ | refine zP ?_);try simp)|((first | refine zR ?_ | refine wOn ?_ | refine wQn ?_);try simp only [zX])|(refine zZ.pure (c1) rfl ?_)|(refine zZ.lent (c1) rfl ?_)|(refine zT.pure (c1) rfl ?_)|(refine zT.lent (c1) rfl ?_)|(refine zZ.own (c1) ?_)|(refine zY.pure (c1) rfl ?_)|(refine zY.lent (c1) rfl ?_)|(refine zY.own (c1) ?_)|(refine zZ.pure (c2) rfl ?_)|(refine zZ.lent (c2) rfl ?_)|(refine zT.pure (c2) rfl ?_)|(refine zT.lent (c2) rfl ?_)|(refine zZ.own (c2) ?_)|(refine zY.pure (c2) rfl ?_)|(refine zY.lent (c2) rfl ?_)|(refine zY.own (c2) ?_)|(refine zZ.pure (c3) rfl ?_)|(refine zZ.lent (c3) rfl ?_)|(refine zT.pure (c3) rfl ?_)|(refine zT.lent (c3) rfl ?_)|(refine zZ.own (c3) ?_)|(refine zY.pure (c3) rfl ?_)|(refine zY.lent (c3) rfl ?_)|(refine zY.own (c3) ?_)|(refine zZ.pure (c5) rfl ?_)|(refine zZ.lent (c5) rfl ?_)|(refine zT.pure (c5) rfl ?_)|(refine zT.lent (c5) rfl ?_)|(refine zZ.own (c5) ?_)|(refine zY.pure (c5) rfl ?_)|(refine zY.lent (c5) rfl ?_)|(refine zY.own (c5) ?_)
     all_goals apply hr
     all_goals simp [Try.f62,pts,show ByteArray.empty = bs [] from rfl]
    subst h8
    refine ⟨[gonP pa,⟨bk,⟨bp,bd,bv,bkk,bo⟩,bs1,⟨be,bn,bkd,bms⟩⟩],0,ps2_ok ⟨⟨hp,Nat.zero_le _⟩,Nat.zero_le _⟩ hb0,by simp,?_⟩
    simp only [pts,wJ,wI,gonP,Pt.cells,cf0]
    refine zG Try.tab Try.mixed Try.func62 rfl rfl Try.ntmps62 (by simp) (by simp) fun Q hr hn=>?_
    repeat' first|(refine hK _ ?_;clear hK)|(refine hK _ _ ?_;clear hK)|(clear hK;refine hK _ ?_;clear hK)|(clear hK;clear hK;refine hK _ ?_;clear hK)|(clear hK;clear hK;clear hK;refine hK _ ?_;clear hK)|(clear hK;clear hK;clear hK;clear hK;refine hK _ ?_;clear hK)|(refine zJ fun K hK=>?_)|((first | refine zH ?_ | refine zN rfl (by kernel_rfl) ?_ | refine zM ?_ | refine zK (by kernel_rfl) ?_);simp only [wJ,wI,strip])|((first | refine wIs fun K hK=>?_ | refine wOs fun K hK=>?_ | refine wQs fun K hK=>?_ | refine zU ?_ | refine zV ?_ | refine zW ?_ | refine zL ?_);simp [k3v,k4v,h3v,h4v,htl,h7,h7',h7z,show ByteArray.empty = bs [] from rfl])|(refine wIn ?_;refine And.intro (by kernel_rfl) ?_;try simp only [zX])|(first | refine zQ ?_ | refine zS ?_)|((first | refine zI ?_ | refine zO ?_ | refine zP ?_);try simp)|((first | refine zR ?_ | refine wOn ?_ | refine wQn ?_);try simp only [zX])|(refine zZ.pure (c1) rfl ?_)|(refine zZ.lent (c1) rfl ?_)|(refine zT.pure (c1) rfl ?_)|(refine zT.lent (c1) rfl ?_)|(refine zZ.own (c1) ?_)|(refine zY.pure (c1) rfl ?_)|(refine zY.lent (c1) rfl ?_)|(refine zY.own (c1) ?_)|(refine zZ.pure (c2) rfl ?_)|(refine zZ.lent (c2) rfl ?_)|(refine zT.pure (c2) rfl ?_)|(refine zT.lent (c2) rfl ?_)|(refine zZ.own (c2) ?_)|(refine zY.pure (c2) rfl ?_)|(refine zY.lent (c2) rfl ?_)|(refine zY.own (c2) ?_)|(refine zZ.pure (c3) rfl ?_)|(refine zZ.lent (c3) rfl ?_)|(refine zT.pure (c3) rfl ?_)|(refine zT.lent (c3) rfl ?_)|(refine zZ.own (c3) ?_)|(refine zY.pure (c3) rfl ?_)|(refine zY.lent (c3) rfl ?_)|(refine zY.own (c3) ?_)|(refine zZ.pure (c4) rfl ?_)|(refine zZ.lent (c4) rfl ?_)|(refine zT.pure (c4) rfl ?_)|(refine zT.lent (c4) rfl ?_)|(refine zZ.own (c4) ?_)|(refine zY.pure (c4) rfl ?_)|(refine zY.lent (c4) rfl ?_)|(refine zY.own (c4) ?_)|(refine zZ.pure (c5) rfl ?_)|(refine zZ.lent (c5) rfl ?_)|(refine zT.pure (c5) rfl ?_)|(refine zT.lent (c5) rfl ?_)|(refine zZ.own (c5) ?_)|(refine zY.pure (c5) rfl ?_)|(refine zY.lent (c5) rfl ?_)|(refine zY.own (c5) ?_)
    all_goals apply hr
    all_goals simp [Try.f62,mbs,show ByteArray.empty = bs [] from rfl]
structure SvOk (s : Sv) (n : Nat) : Prop where
 F : Fits s n
 l : ∀ z ∈ s.ns,long z
def OqOk (o : Oq) : Prop := o.pa.length <= 9223372036854775807 /\ o.da.length <= 9223372036854775807
def txP (ps : List Pt) : Tx := ⟨0, 0, 0, 0, 0, 0, [], ps⟩
theorem put_mem {l : List Zn} {z y : Zn} (h : y ∈ putZ l z) : y = z \/ y ∈ l := by
 unfold putZ at h
 rcases List.mem_append.1 h with h | h
 ·exact .inr (List.mem_of_mem_take h)
 ·rcases List.mem_cons.1 h with h | h
  ·exact .inl h
  ·exact .inr (List.mem_of_mem_drop ((rst_sub _ _).subset h))
theorem stepP_long {s : Sv} {p : Pt} (h : ∀ z ∈ s.ns, long z) (hp : long p.z) : ∀ z ∈ (xL s p).ns, long z := by
 unfold xL
 split
 ·intro z hz
  rcases put_mem hz with rfl | hz
  ·exact hp
  ·exact h z hz
 split
 ·intro z hz
  exact h z (List.mem_filter.1 hz).1
 split
 ·exact h
 split
 ·exact h
 split <;> exact h
theorem runP_long : ∀ (l : List Pt) {s : Sv}, (∀ z ∈ s.ns, long z) -> PsOk l -> ∀ z ∈ (runP s l).ns, long z
 | [],s,h,_=>h
 | p :: l,s,h,hp=>runP_long l (stepP_long h (hp p List.mem_cons_self).1) fun q hq=>hp q (List.mem_cons_of_mem _ hq)
theorem okT_ps {t : Tx} (h : PsOk t.ps) : okT t := fun p hp => by have := (h p hp).2; unfold okC; omega
theorem doS_ok {s : Sv} {t : Tx} {n k : Nat} (h : SvOk s n) (hp : PsOk t.ps) (hk : t.ps.length + k <= n) : SvOk (doS s t) k :=
 ⟨doS_fits (h.F.le hk) (okT_ps hp),runP_long t.ps h.l hp⟩
theorem op_ex (s : Sv) (ses : Int) (o : Oq) {n : Nat} (hs : SvOk s n) (ho : OqOk o) :
 ∃ (ps : List Pt) (p : List UInt8) (e : Int),PsOk ps /\ ps.length <= 2 /\ zF Try.prog 43 [.p (.agg s.cells),.p (I ses),.p (.agg o.cells)] (.tup [.p (.sl 11 (pts ps)),.p (SB p),.p (I e)]):=by
 have hl : s.ns.length <= 1000000:=by have:=hs.F.ns;omega
 by_cases h1 : o.k = 1
 ·obtain ⟨ps, p, e, h2, h3, c1⟩ := create_ex s ses o ho.1 ho.2 hs.l hl
  refine ⟨ps,p,e,h2,h3,?_⟩
  generalize pts ps = P at *
  clear hs ho hl h2 h3
  obtain ⟨k,pa,da,v,ow,sq⟩:=o
  dsimp only at h1
  subst h1
  unfold Sv.cells Oq.cells at *
  dsimp only at *
  refine zG Try.tab Try.mixed Try.func43 rfl rfl Try.ntmps43 (by simp) (by simp) fun Q hr hn=>?_
  repeat' first|(refine hK _ ?_;clear hK)|(refine hK _ _ ?_;clear hK)|(clear hK;refine hK _ ?_;clear hK)|(clear hK;clear hK;refine hK _ ?_;clear hK)|(clear hK;clear hK;clear hK;refine hK _ ?_;clear hK)|(clear hK;clear hK;clear hK;clear hK;refine hK _ ?_;clear hK)|(refine zJ fun K hK=>?_)|((first | refine zH ?_ | refine zN rfl (by kernel_rfl) ?_ | refine zM ?_ | refine zK (by kernel_rfl) ?_);simp only [wJ,wI,strip])|((first | refine wIs fun K hK=>?_ | refine wOs fun K hK=>?_ | refine wQs fun K hK=>?_ | refine zU ?_ | refine zV ?_ | refine zW ?_ | refine zL ?_);simp)|(refine wIn ?_;refine And.intro (by kernel_rfl) ?_;try simp only [zX])|(first | refine zQ ?_ | refine zS ?_)|((first | refine zI ?_ | refine zO ?_ | refine zP ?_);try simp)|((first | refine zR ?_ | refine wOn ?_ | refine wQn ?_);try simp only [zX])|(refine zZ.pure (c1) rfl ?_)|(refine zZ.lent (c1) rfl ?_)|(refine zT.pure (c1) rfl ?_)|(refine zT.lent (c1) rfl ?_)|(refine zZ.own (c1) ?_)|(refine zY.pure (c1) rfl ?_)|(refine zY.lent (c1) rfl ?_)|(refine zY.own (c1) ?_)
  all_goals apply hr
  all_goals simp [Try.f43]
 by_cases h2 : o.k = 2 \/ o.k = 3 \/ o.k = 4
 ·obtain ⟨ps, e, h3, h4, c1⟩ := change_ex s o ho.1 ho.2 hs.l hl
  refine ⟨ps,[],e,h3,h4,?_⟩
  generalize pts ps = P at *
  clear hs ho hl h3 h4
  obtain ⟨k,pa,da,v,ow,sq⟩:=o
  dsimp only at h1 h2
  unfold Sv.cells Oq.cells at *
  dsimp only at *
  rcases h2 with rfl | rfl | rfl
  all_goals
   refine zG Try.tab Try.mixed Try.func43 rfl rfl Try.ntmps43 (by simp) (by simp) fun Q hr hn=>?_
   repeat' first|(refine hK _ ?_;clear hK)|(refine hK _ _ ?_;clear hK)|(clear hK;refine hK _ ?_;clear hK)|(clear hK;clear hK;refine hK _ ?_;clear hK)|(clear hK;clear hK;clear hK;refine hK _ ?_;clear hK)|(clear hK;clear hK;clear hK;clear hK;refine hK _ ?_;clear hK)|(refine zJ fun K hK=>?_)|((first | refine zH ?_ | refine zN rfl (by kernel_rfl) ?_ | refine zM ?_ | refine zK (by kernel_rfl) ?_);simp only [wJ,wI,strip])|((first | refine wIs fun K hK=>?_ | refine wOs fun K hK=>?_ | refine wQs fun K hK=>?_ | refine zU ?_ | refine zV ?_ | refine zW ?_ | refine zL ?_);simp)|(refine wIn ?_;refine And.intro (by kernel_rfl) ?_;try simp only [zX])|(first | refine zQ ?_ | refine zS ?_)|((first | refine zI ?_ | refine zO ?_ | refine zP ?_);try simp)|((first | refine zR ?_ | refine wOn ?_ | refine wQn ?_);try simp only [zX])|(refine zZ.pure (c1) rfl ?_)|(refine zZ.lent (c1) rfl ?_)|(refine zT.pure (c1) rfl ?_)|(refine zT.lent (c1) rfl ?_)|(refine zZ.own (c1) ?_)|(refine zY.pure (c1) rfl ?_)|(refine zY.lent (c1) rfl ?_)|(refine zY.own (c1) ?_)
   all_goals apply hr
   all_goals simp [Try.f43]
 ·refine ⟨[], [], 1, yZ, by simp, ?_⟩
  clear hs ho hl
  obtain ⟨k,pa,da,v,ow,sq⟩:=o
  dsimp only at h1 h2
  have e1:=eq_false h1
  have e2 : (k = 2) = False:=eq_false fun h=>h2 (.inl h)
  have e3 : (k = 3) = False:=eq_false fun h=>h2 (.inr (.inl h))
  have e4 : (k = 4) = False:=eq_false fun h=>h2 (.inr (.inr h))
  unfold Sv.cells Oq.cells at *
  dsimp only at *
  refine zG Try.tab Try.mixed Try.func43 rfl rfl Try.ntmps43 (by simp) (by simp) fun Q hr hn=>?_
  repeat' first|(refine hK _ ?_;clear hK)|(refine hK _ _ ?_;clear hK)|(clear hK;refine hK _ ?_;clear hK)|(clear hK;clear hK;refine hK _ ?_;clear hK)|(clear hK;clear hK;clear hK;refine hK _ ?_;clear hK)|(clear hK;clear hK;clear hK;clear hK;refine hK _ ?_;clear hK)|(refine zJ fun K hK=>?_)|((first | refine zH ?_ | refine zN rfl (by kernel_rfl) ?_ | refine zM ?_ | refine zK (by kernel_rfl) ?_);simp only [wJ,wI,strip])|((first | refine wIs fun K hK=>?_ | refine wOs fun K hK=>?_ | refine wQs fun K hK=>?_ | refine zU ?_ | refine zV ?_ | refine zW ?_ | refine zL ?_);simp [e1,e2,e3,e4])|(refine wIn ?_;refine And.intro (by kernel_rfl) ?_;try simp only [zX])|(first | refine zQ ?_ | refine zS ?_)|((first | refine zI ?_ | refine zO ?_ | refine zP ?_);try simp)|((first | refine zR ?_ | refine wOn ?_ | refine wQn ?_);try simp only [zX])
  all_goals apply hr
  all_goals simp [Try.f43,pts]
abbrev OpF := Sv -> Oq -> List Pt × List UInt8 × Int
def OpFok (ses : Int) (F : OpF) : Prop := ∀ (s : Sv) (o : Oq), SvOk s 2 -> OqOk o -> PsOk (F s o).1 /\ (F s o).1.length <= 2 ∧
 zF Try.prog 43 [.p (.agg s.cells),.p (I ses),.p (.agg o.cells)] (.tup [.p (.sl 11 (pts (F s o).1)),.p (SB (F s o).2.1),.p (I (F s o).2.2)])
theorem opF_ex (ses : Int) : ∃ F : OpF, OpFok ses F := by
 have h : ∀ (s : Sv) (o : Oq), ∃ r : List Pt × List UInt8 × Int, SvOk s 2 -> OqOk o -> PsOk r.1 /\ r.1.length <= 2 ∧
  zF Try.prog 43 [.p (.agg s.cells),.p (I ses),.p (.agg o.cells)] (.tup [.p (.sl 11 (pts r.1)),.p (SB r.2.1),.p (I r.2.2)]):=fun s o=>by
  by_cases hc : SvOk s 2 /\ OqOk o
  ·obtain ⟨ps, p, e, h1, h2, h3⟩ := op_ex s ses o hc.1 hc.2
   exact ⟨(ps,p,e),fun _ _=>⟨h1,h2,h3⟩⟩
  ·exact ⟨([],[],0),fun h1 h2=>absurd ⟨h1,h2⟩ hc⟩
 exact ⟨fun s o=>Classical.choose (h s o),fun s o=>Classical.choose_spec (h s o)⟩
def opsM (F : OpF) : List Oq -> Nat -> Sv -> List UInt8 -> List Pt -> Int × Int × List UInt8 × List Pt
 | [],_,_,md,ps=>(0,0,md,ps)
 | o :: l,i,s,md,ps=>if (F s o).2.2 = 0 then opsM F l (i + 1) (doS s (txP (F s o).1)) (if md = [] then (F s o).2.1 else md) (ps ++ (F s o).1) else ((F s o).2.2,i,[],[])
theorem opsM_ok {ses : Int} {F : OpF} (hF : OpFok ses F) : ∀ (l : List Oq) (i : Nat) (s : Sv) (md : List UInt8) (ps : List Pt) (n : Nat), SvOk s n -> 2 * l.length + 2 <= n -> (∀ o ∈ l, OqOk o) -> PsOk ps -> PsOk (opsM F l i s md ps).2.2.2 /\ (opsM F l i s md ps).2.2.2.length <= ps.length + 2 * l.length
 | [],i,s,md,ps,n,hs,hn,ho,hp=>⟨hp,by simp [opsM]⟩
 | o :: l, i, s, md, ps, n, hs, hn, ho, hp => by
  rw [List.length_cons] at hn ⊢
  obtain ⟨h1,h2,-⟩:=hF s o ⟨hs.F.le (by omega),hs.l⟩ (ho o List.mem_cons_self)
  unfold opsM
  split
  ·have := opsM_ok hF l (i + 1) (doS s (txP (F s o).1)) (if md = [] then (F s o).2.1 else md) (ps ++ (F s o).1) (n - 2) (doS_ok hs h1 (by show (F s o).1.length + _ <= _; omega)) (by omega) (fun x hx => ho x (List.mem_cons_of_mem _ hx)) (fun p hp' => (List.mem_append.1 hp').elim (hp p) (h1 p))
   rw [List.length_append] at this
   exact ⟨this.1,by omega⟩
  ·exact ⟨yZ,by simp⟩
set_option maxHeartbeats 8000000 in
theorem ops_con (s : Sv) (e n ses x : Int) (l : List Oq) {F : OpF} (hF : OpFok ses F) (hs : SvOk s 1000) (hl : l.length <= 100) (ho : ∀ o ∈ l, OqOk o) :
 zF Try.prog 24 [.p (.agg s.cells),.p (.agg [I e,I n,I ses,I x,I 0,I 0,SB [],.sl 11 []]),.p (.sl 6 (oqs l))] (.p (.agg (Tx.cells ⟨e,n,ses,x,(opsM F l 0 s [] []).1,(opsM F l 0 s [] []).2.1,(opsM F l 0 s [] []).2.2.1,(opsM F l 0 s [] []).2.2.2⟩))):=by
 generalize hR : opsM F l 0 s [] [] = R at *
 unfold Sv.cells Tx.cells
 dsimp only
 refine zG Try.tab Try.mixed Try.func24 rfl rfl Try.ntmps24 (by simp) (by simp) fun Q hr hn=>?_
 repeat' first|(refine hK _ ?_;clear hK)|(refine hK _ _ ?_;clear hK)|(clear hK;refine hK _ ?_;clear hK)|(clear hK;clear hK;refine hK _ ?_;clear hK)|(clear hK;clear hK;clear hK;refine hK _ ?_;clear hK)|(clear hK;clear hK;clear hK;clear hK;refine hK _ ?_;clear hK)|(refine zJ fun K hK=>?_)|((first | refine zH ?_ | refine zN rfl (by kernel_rfl) ?_ | refine zM ?_ | refine zK (by kernel_rfl) ?_);simp only [wJ,wI,strip])|((first | refine wIs fun K hK=>?_ | refine wOs fun K hK=>?_ | refine wQs fun K hK=>?_ | refine zU ?_ | refine zV ?_ | refine zW ?_ | refine zL ?_);simp)|(refine wIn ?_;refine And.intro (by kernel_rfl) ?_;try simp only [zX])|(first | refine zQ ?_ | refine zS ?_)|((first | refine zI ?_ | refine zO ?_ | refine zP ?_);try simp)|((first | refine zR ?_ | refine wOn ?_ | refine wQn ?_);try simp only [zX])
 refine wLoopG [.row 8 68 11] (fun N st => ∃ (i : Nat) (q : Sv) (md : List UInt8) (ps : List Pt), i + N = l.length /\ SvOk q (1000 - 2 * i) /\ ps.length <= 2 * i /\ opsM F (l.drop i) i q md ps = R ∧
  st.s 3 = .ptr 3 0 /\ st.b 3 = some (.box 30 [.p (.sl 5 (zns q.ns)),.p (.sl 1 (ints q.ss)),.p (I q.nx),.p (I q.c.ep),.p (I q.c.n),.p (I q.c.kind),.p (.sl 4 (mbs q.c.ms)),.p (I q.ae),.p (I q.an)]) ∧
  st.s 4 = .ptr 4 0 /\ st.b 4 = some (.box 44 [.p (I e),.p (I n),.p (I ses),.p (I x),.p (I 0),.p (I 0),.p (SB []),.p (.sl 11 [])]) ∧
  st.s 6 = .ptr 6 0 /\ st.b 6 = some (.box 44 [.p (I 0),.p (I 0),.p (I 0),.p (I 0),.p (I 0),.p (I 0),.p (SB []),.nil 11]) ∧
  st.s 7 = .p (SB md) /\ st.s 8 = .row 8 /\ st.b 8 = some (.row 68 11 (pts ps)) /\ st.s 14 = .p (.sl 6 (oqs l)) /\ st.s 15 = .p (I l.length) /\ st.s 16 = .p (I i)) l.length ⟨0,s,[],[],by simp [pts,wL,gh1];exact ⟨hs,hR⟩⟩ fun K N st hL ⟨i,q,md,ps,hN,hq,hpl,hRi,g3,b3,g4,b4,g6,b6,g7,g8,b8,g14,g15,g16⟩=>?_
 by_cases hlt : i < l.length
 ·have hlt' : (i : Int) < l.length := by omega
  have hw:=xY i _ hlt (by omega)
  have he:=oqs_get hlt
  have hcell:=Option.some.inj ((List.getElem?_eq_getElem (by simpa using hlt : i < (oqs l).length)).symm.trans he)
  rw [List.drop_eq_getElem_cons hlt,opsM] at hRi
  have hoi:=ho _ (List.getElem_mem hlt)
  obtain ⟨f1,f2,c1⟩:=hF q l[i] ⟨hq.F.le (by omega),hq.l⟩ hoi
  have hq2 : SvOk (doS q (txP (F q l[i]).1)) (1000 - 2 * (i + 1)):=doS_ok hq f1 (by show (F q l[i]).1.length + _ <= _;omega)
  have c2:=apply08_con q (txP (F q l[i]).1) (hq.F.le (by show (F q l[i]).1.length <= _;omega)) (okT_ps f1)
  generalize hFq : F q l[i] = r at *
  obtain ⟨pr,p1,e1⟩:=r
  dsimp only at *
  generalize l[i] = o at *
  obtain ⟨ok,pa,da,ov,ow,sq⟩:=o
  unfold Sv.cells Oq.cells at c1
  unfold Sv.cells txP Tx.cells at c2
  dsimp only at c1 c2 he hcell
  by_cases h1 : e1 = 0
  ·subst h1
   rw [if_pos rfl] at hRi
   have hap : pts ps ++ pts pr = pts (ps ++ pr):=by simp [pts]
   have hpl2 : (ps ++ pr).length <= 2 * (i + 1):=by rw [List.length_append];omega
   have hpn : (pts ps).length + (pts pr).length <= 1000:=by rw [pts_len,pts_len];omega
   change SvOk (doS q (txP pr)) _ at hq2
   generalize hdo : doS q (txP pr) = q2 at *
   unfold txP at hdo
   rw [hdo] at c2
   by_cases h2 : md = []
   ·subst h2
    rw [if_pos rfl] at hRi
    repeat' first|(refine hK _ ?_;clear hK)|(refine hK _ _ ?_;clear hK)|(clear hK;refine hK _ ?_;clear hK)|(clear hK;clear hK;refine hK _ ?_;clear hK)|(clear hK;clear hK;clear hK;refine hK _ ?_;clear hK)|(clear hK;clear hK;clear hK;clear hK;refine hK _ ?_;clear hK)|(refine zJ fun K hK=>?_)|((first | refine zH ?_ | refine zN rfl (by kernel_rfl) ?_ | refine zM ?_ | refine zK (by kernel_rfl) ?_);simp only [wJ,wI,strip])|((first | refine wIs fun K hK=>?_ | refine wOs fun K hK=>?_ | refine wQs fun K hK=>?_ | refine zU ?_ | refine zV ?_ | refine zW ?_ | refine zL ?_);simp [g3,b3,g4,b4,g6,b6,g7,g8,b8,g14,g15,g16,hlt,hlt',hw,he,hcell,hap,show ByteArray.empty = bs [] from rfl])|(refine wIn ?_;refine And.intro (by kernel_rfl) ?_;try simp only [zX])|(first | refine zQ ?_ | refine zS ?_)|((first | refine zI ?_ | refine zO ?_ | refine zP ?_);try simp)|((first | refine zR ?_ | refine wOn ?_ | refine wQn ?_);try simp only [zX])|(refine zZ.pure (c1) rfl ?_)|(refine zZ.lent (c1) rfl ?_)|(refine zT.pure (c1) rfl ?_)|(refine zT.lent (c1) rfl ?_)|(refine zZ.own (c1) ?_)|(refine zY.pure (c1) rfl ?_)|(refine zY.lent (c1) rfl ?_)|(refine zY.own (c1) ?_)|(refine zZ.pure (c2) rfl ?_)|(refine zZ.lent (c2) rfl ?_)|(refine zT.pure (c2) rfl ?_)|(refine zT.lent (c2) rfl ?_)|(refine zZ.own (c2) ?_)|(refine zY.pure (c2) rfl ?_)|(refine zY.lent (c2) rfl ?_)|(refine zY.own (c2) ?_)|(refine And.intro (by (try simp only [pts_len]);omega) ?_)
    refine hL _ (N - 1) (by omega) ⟨i + 1,q2,p1,ps ++ pr,by omega,hq2,hpl2,hRi,?_⟩
    simp [g3,b3,g4,b4,g6,b6,g7,g8,b8,g14,g15,g16,hw,hap]
   ·rw [if_neg h2] at hRi
    repeat' first|(refine hK _ ?_;clear hK)|(refine hK _ _ ?_;clear hK)|(clear hK;refine hK _ ?_;clear hK)|(clear hK;clear hK;refine hK _ ?_;clear hK)|(clear hK;clear hK;clear hK;refine hK _ ?_;clear hK)|(clear hK;clear hK;clear hK;clear hK;refine hK _ ?_;clear hK)|(refine zJ fun K hK=>?_)|((first | refine zH ?_ | refine zN rfl (by kernel_rfl) ?_ | refine zM ?_ | refine zK (by kernel_rfl) ?_);simp only [wJ,wI,strip])|((first | refine wIs fun K hK=>?_ | refine wOs fun K hK=>?_ | refine wQs fun K hK=>?_ | refine zU ?_ | refine zV ?_ | refine zW ?_ | refine zL ?_);simp [g3,b3,g4,b4,g6,b6,g7,g8,b8,g14,g15,g16,hlt,hlt',hw,he,hcell,hap,h2,show ByteArray.empty = bs [] from rfl])|(refine wIn ?_;refine And.intro (by kernel_rfl) ?_;try simp only [zX])|(first | refine zQ ?_ | refine zS ?_)|((first | refine zI ?_ | refine zO ?_ | refine zP ?_);try simp)|((first | refine zR ?_ | refine wOn ?_ | refine wQn ?_);try simp only [zX])|(refine zZ.pure (c1) rfl ?_)|(refine zZ.lent (c1) rfl ?_)|(refine zT.pure (c1) rfl ?_)|(refine zT.lent (c1) rfl ?_)|(refine zZ.own (c1) ?_)|(refine zY.pure (c1) rfl ?_)|(refine zY.lent (c1) rfl ?_)|(refine zY.own (c1) ?_)|(refine zZ.pure (c2) rfl ?_)|(refine zZ.lent (c2) rfl ?_)|(refine zT.pure (c2) rfl ?_)|(refine zT.lent (c2) rfl ?_)|(refine zZ.own (c2) ?_)|(refine zY.pure (c2) rfl ?_)|(refine zY.lent (c2) rfl ?_)|(refine zY.own (c2) ?_)|(refine And.intro (by (try simp only [pts_len]);omega) ?_)
    refine hL _ (N - 1) (by omega) ⟨i + 1,q2,md,ps ++ pr,by omega,hq2,hpl2,hRi,?_⟩
    simp [g3,b3,g4,b4,g6,b6,g7,g8,b8,g14,g15,g16,hw,hap]
  ·rw [if_neg h1] at hRi
   subst hRi
   have h1':=eq_false h1
   repeat' first|(refine hK _ ?_;clear hK)|(refine hK _ _ ?_;clear hK)|(clear hK;refine hK _ ?_;clear hK)|(clear hK;clear hK;refine hK _ ?_;clear hK)|(clear hK;clear hK;clear hK;refine hK _ ?_;clear hK)|(clear hK;clear hK;clear hK;clear hK;refine hK _ ?_;clear hK)|(refine zJ fun K hK=>?_)|((first | refine zH ?_ | refine zN rfl (by kernel_rfl) ?_ | refine zM ?_ | refine zK (by kernel_rfl) ?_);simp only [wJ,wI,strip])|((first | refine wIs fun K hK=>?_ | refine wOs fun K hK=>?_ | refine wQs fun K hK=>?_ | refine zU ?_ | refine zV ?_ | refine zW ?_ | refine zL ?_);simp [g3,b3,g4,b4,g6,b6,g7,g8,b8,g14,g15,g16,hlt,hlt',hw,he,hcell,h1'])|(refine wIn ?_;refine And.intro (by kernel_rfl) ?_;try simp only [zX])|(first | refine zQ ?_ | refine zS ?_)|((first | refine zI ?_ | refine zO ?_ | refine zP ?_);try simp)|((first | refine zR ?_ | refine wOn ?_ | refine wQn ?_);try simp only [zX])|(refine zZ.pure (c1) rfl ?_)|(refine zZ.lent (c1) rfl ?_)|(refine zT.pure (c1) rfl ?_)|(refine zT.lent (c1) rfl ?_)|(refine zZ.own (c1) ?_)|(refine zY.pure (c1) rfl ?_)|(refine zY.lent (c1) rfl ?_)|(refine zY.own (c1) ?_)
   all_goals apply hr
   all_goals simp [Try.f24,g6,b6,pts]
 ·rw [List.drop_of_length_le (by omega), opsM] at hRi
  subst hRi
  have hlt' : ¬ (i : Int) < l.length:=by omega
  repeat' first|(refine hK _ ?_;clear hK)|(refine hK _ _ ?_;clear hK)|(clear hK;refine hK _ ?_;clear hK)|(clear hK;clear hK;refine hK _ ?_;clear hK)|(clear hK;clear hK;clear hK;refine hK _ ?_;clear hK)|(clear hK;clear hK;clear hK;clear hK;refine hK _ ?_;clear hK)|(refine zJ fun K hK=>?_)|((first | refine zH ?_ | refine zN rfl (by kernel_rfl) ?_ | refine zM ?_ | refine zK (by kernel_rfl) ?_);simp only [wJ,wI,strip])|((first | refine wIs fun K hK=>?_ | refine wOs fun K hK=>?_ | refine wQs fun K hK=>?_ | refine zU ?_ | refine zV ?_ | refine zW ?_ | refine zL ?_);simp [g3,b3,g4,b4,g6,b6,g7,g8,b8,g14,g15,g16,hlt,hlt'])|(refine wIn ?_;refine And.intro (by kernel_rfl) ?_;try simp only [zX])|(first | refine zQ ?_ | refine zS ?_)|((first | refine zI ?_ | refine zO ?_ | refine zP ?_);try simp)|((first | refine zR ?_ | refine wOn ?_ | refine wQn ?_);try simp only [zX])
  all_goals apply hr
  all_goals simp [Try.f24,g6,b6,b8]
abbrev BuF := Sv -> List UInt8 -> Pt × Int
def BuFok (G : BuF) : Prop := ∀ (s : Sv) (p : List UInt8), (∀ z ∈ s.ns, long z) -> p.length <= 9223372036854775807 -> PtOk (G s p).1 ∧
 zF Try.prog 41 [.p (.agg s.cells),.p (SB p)] (.tup [.p (.agg (G s p).1.cells),.p (I (G s p).2)])
theorem buF_ex : ∃ G : BuF, BuFok G := by
 have h : ∀ (s : Sv) (p : List UInt8), ∃ r : Pt × Int, (∀ z ∈ s.ns, long z) -> p.length <= 9223372036854775807 -> PtOk r.1 ∧
  zF Try.prog 41 [.p (.agg s.cells),.p (SB p)] (.tup [.p (.agg r.1.cells),.p (I r.2)]):=fun s p=>by
  by_cases hc : (∀ z ∈ s.ns,long z) /\ p.length <= 9223372036854775807
  ·obtain ⟨pt, e, h1, h2⟩ := bumped_ex s p hc.2 hc.1
   exact ⟨(pt,e),fun _ _=>⟨h1,h2⟩⟩
  ·exact ⟨(nilP,0),fun h1 h2=>absurd ⟨h1,h2⟩ hc⟩
 exact ⟨fun s p=>Classical.choose (h s p),fun s p=>Classical.choose_spec (h s p)⟩
def parU (p : List UInt8) : List UInt8 := if chd p = true then p.take (max (lx p p.length) 1) else []
theorem parU_con (p : List UInt8) (hp : p.length <= 9223372036854775807) : zF Try.prog 33 [.p (SB p)] (.tup [.p (SB (parU p)), .p (B (chd p))]) := by
 have c:=xC p hp
 unfold parV at c
 unfold parU
 cases h : chd p with
 | true=>rw [h,if_pos rfl] at c;rw [if_pos rfl];exact c
 | false=>rw [h,if_neg (by decide)] at c;rw [if_neg (by decide)];exact c
theorem parU_len (p : List UInt8) : (parU p).length <= p.length := by
 unfold parU
 split
 ·rw [List.length_take];omega
 ·simp
def clsP (ses : Int) : Pt := ⟨4, zz, ses, cf0⟩
def clsM (G : BuF) (ses : Int) : List Zn -> Sv -> List Pt -> Int × List Pt
 | [],_,ps=>(0,ps ++ [clsP ses])
 | z :: l,s,ps=>if z.o = ses then (if (G s (parU z.p)).2 = 0 then clsM G ses l (doS s (txP [gonP z.p,(G s (parU z.p)).1])) (ps ++ [gonP z.p,(G s (parU z.p)).1]) else ((G s (parU z.p)).2,[])) else clsM G ses l s ps
theorem gonP_ok {p : List UInt8} (h : p.length <= 9223372036854775807) : PtOk (gonP p) := ⟨⟨h, by show (0 : Nat) <= _; omega⟩, Nat.zero_le _⟩
theorem clsM_ok {G : BuF} (hG : BuFok G) (ses : Int) : ∀ (l : List Zn) (s : Sv) (ps : List Pt), (∀ z ∈ s.ns, long z) -> (∀ z ∈ l, long z) -> PsOk ps -> PsOk (clsM G ses l s ps).2 /\ (clsM G ses l s ps).2.length <= ps.length + 2 * l.length + 1
 | [],s,ps,hs,hz,hp=>⟨fun p hp'=>(List.mem_append.1 hp').elim (hp p) (fun h=>by simp at h;subst h;exact ⟨zz_long,Nat.zero_le _⟩),by simp [clsM]⟩
 | z :: l, s, ps, hs, hz, hp => by
  have hzz:=hz z List.mem_cons_self
  have hl2 : ∀ z ∈ l,long z:=fun x hx=>hz x (List.mem_cons_of_mem _ hx)
  have hg:=(hG s (parU z.p) hs (Nat.le_trans (parU_len z.p) hzz.1)).1
  have h2:=ps2_ok (gonP_ok hzz.1) hg
  rw [List.length_cons]
  unfold clsM
  split
  ·split
   ·have := clsM_ok hG ses l (doS s (txP [gonP z.p, (G s (parU z.p)).1])) (ps ++ [gonP z.p, (G s (parU z.p)).1]) (runP_long _ hs h2) hl2 (fun p hp' => (List.mem_append.1 hp').elim (hp p) (h2 p))
    rw [List.length_append] at this
    exact ⟨this.1,by have:=this.2;simp at this;omega⟩
   ·exact ⟨yZ,by simp⟩
  ·have := clsM_ok hG ses l s ps hs hl2 hp
   exact ⟨this.1,by omega⟩
set_option maxHeartbeats 8000000 in
theorem closing_con (s : Sv) (e n ses x : Int) {G : BuF} (hG : BuFok G) (hs : SvOk s 1000) (hl : s.ns.length <= 200) :
 zF Try.prog 23 [.p (.agg s.cells),.p (.agg [I e,I n,I ses,I x,I 0,I 0,SB [],.sl 11 []])] (.p (.agg (Tx.cells ⟨e,n,ses,x,(clsM G ses s.ns s []).1,0,[],(clsM G ses s.ns s []).2⟩))):=by
 generalize hR : clsM G ses s.ns s [] = R at *
 have hsl:=hs.l
 obtain ⟨l,hll⟩ : ∃ l,l = s.ns:=⟨_,rfl⟩
 rw [<- hll] at hR hl hsl
 unfold Sv.cells Tx.cells
 dsimp only
 refine zG Try.tab Try.mixed Try.func23 rfl rfl Try.ntmps23 (by simp) (by simp) fun Q hr hn=>?_
 repeat' first|(refine hK _ ?_;clear hK)|(refine hK _ _ ?_;clear hK)|(clear hK;refine hK _ ?_;clear hK)|(clear hK;clear hK;refine hK _ ?_;clear hK)|(clear hK;clear hK;clear hK;refine hK _ ?_;clear hK)|(clear hK;clear hK;clear hK;clear hK;refine hK _ ?_;clear hK)|(refine zJ fun K hK=>?_)|((first | refine zH ?_ | refine zN rfl (by kernel_rfl) ?_ | refine zM ?_ | refine zK (by kernel_rfl) ?_);simp only [wJ,wI,strip])|((first | refine wIs fun K hK=>?_ | refine wOs fun K hK=>?_ | refine wQs fun K hK=>?_ | refine zU ?_ | refine zV ?_ | refine zW ?_ | refine zL ?_);simp)|(refine wIn ?_;refine And.intro (by kernel_rfl) ?_;try simp only [zX])|(first | refine zQ ?_ | refine zS ?_)|((first | refine zI ?_ | refine zO ?_ | refine zP ?_);try simp)|((first | refine zR ?_ | refine wOn ?_ | refine wQn ?_);try simp only [zX])
 refine wLoopG [.row 5 68 11] (fun N st => ∃ (i : Nat) (q : Sv) (ps : List Pt), i + N = l.length /\ SvOk q (1000 - 2 * i) /\ ps.length <= 2 * i /\ clsM G ses (l.drop i) q ps = R ∧
  st.s 2 = .ptr 2 0 /\ st.b 2 = some (.box 30 [.p (.sl 5 (zns q.ns)),.p (.sl 1 (ints q.ss)),.p (I q.nx),.p (I q.c.ep),.p (I q.c.n),.p (I q.c.kind),.p (.sl 4 (mbs q.c.ms)),.p (I q.ae),.p (I q.an)]) ∧
  st.s 3 = .ptr 3 0 /\ st.b 3 = some (.box 44 [.p (I e),.p (I n),.p (I ses),.p (I x),.p (I 0),.p (I 0),.p (SB []),.p (.sl 11 [])]) ∧
  st.s 4 = .ptr 4 0 /\ st.b 4 = some (.box 44 [.p (I 0),.p (I 0),.p (I 0),.p (I 0),.p (I 0),.p (I 0),.p (SB []),.nil 11]) ∧
  st.s 5 = .row 5 /\ st.b 5 = some (.row 68 11 (pts ps)) /\ st.s 14 = .p (.sl 5 (zns l)) /\ st.s 15 = .p (I l.length) /\ st.s 16 = .p (I i)) l.length ⟨0,s,[],by simp [pts,wL,gh1,<- hll];exact ⟨hs,hR⟩⟩ fun K N st hL ⟨i,q,ps,hN,hq,hpl,hRi,g2,b2,g3,b3,g4,b4,g5,b5,g14,g15,g16⟩=>?_
 by_cases hlt : i < l.length
 ·have hlt' : (i : Int) < l.length := by omega
  have hw:=xY i _ hlt (by omega)
  have hcell : (zns l)[i]? = some [SB l[i].p,SB l[i].d,I l[i].v,I l[i].k,I l[i].o]:=by simp [zns,hlt,Zn.c]
  rw [List.drop_eq_getElem_cons hlt,clsM] at hRi
  have hzi:=hsl _ (List.getElem_mem hlt)
  have c1:=parU_con l[i].p hzi.1
  obtain ⟨f1,c2⟩:=hG q (parU l[i].p) hq.l (Nat.le_trans (parU_len _) hzi.1)
  have c3:=gone09_con l[i].p
  have hps:=ps2_ok (gonP_ok hzi.1) f1
  have hq2 : SvOk (doS q (txP [gonP l[i].p,(G q (parU l[i].p)).1])) (1000 - 2 * (i + 1)):=doS_ok hq hps (by show 2 + _ <= _;omega)
  have hq3 : SvOk q (1000 - 2 * (i + 1)):=⟨hq.F.le (by omega),hq.l⟩
  have c4:=apply08_con q (txP [gonP l[i].p,(G q (parU l[i].p)).1]) (hq.F.le (by show 2 <= _;omega)) (okT_ps hps)
  generalize hF : l[i] = z at *
  obtain ⟨zp,zd,zv,zk,zo⟩:=z
  dsimp only at *
  generalize hGq : G q (parU zp) = r at *
  obtain ⟨⟨bk,⟨bp,bd,bv,bkk,bo⟩,bs1,⟨be,bn,bkd,bms⟩⟩,e1⟩:=r
  dsimp only at *
  generalize parU zp = up at *
  generalize chd zp = cb at *
  by_cases h0 : zo = ses
  case neg =>
   have h0':=eq_false h0
   rw [if_neg h0] at hRi
   repeat' first|(refine hK _ ?_;clear hK)|(refine hK _ _ ?_;clear hK)|(clear hK;refine hK _ ?_;clear hK)|(clear hK;clear hK;refine hK _ ?_;clear hK)|(clear hK;clear hK;clear hK;refine hK _ ?_;clear hK)|(clear hK;clear hK;clear hK;clear hK;refine hK _ ?_;clear hK)|(refine zJ fun K hK=>?_)|((first | refine zH ?_ | refine zN rfl (by kernel_rfl) ?_ | refine zM ?_ | refine zK (by kernel_rfl) ?_);simp only [wJ,wI,strip])|((first | refine wIs fun K hK=>?_ | refine wOs fun K hK=>?_ | refine wQs fun K hK=>?_ | refine zU ?_ | refine zV ?_ | refine zW ?_ | refine zL ?_);simp [g2,b2,g3,b3,g4,b4,g5,b5,g14,g15,g16,hlt,hlt',hw,hcell,hF,h0'])|(refine wIn ?_;refine And.intro (by kernel_rfl) ?_;try simp only [zX])|(first | refine zQ ?_ | refine zS ?_)|((first | refine zI ?_ | refine zO ?_ | refine zP ?_);try simp)|((first | refine zR ?_ | refine wOn ?_ | refine wQn ?_);try simp only [zX])
   refine hL _ (N - 1) (by omega) ⟨i + 1,q,ps,by omega,hq3,by omega,hRi,?_⟩
   simp [g2,b2,g3,b3,g4,b4,g5,b5,g14,g15,g16,hw]
  subst h0
  rw [if_pos rfl] at hRi
  by_cases h1 : e1 = 0
  ·subst h1
   rw [if_pos rfl] at hRi
   have hap : pts ps ++ [[I 2,SB zp,SB [],I 0,I 0,I 0,I 0,I 0,I 0,I 0,.sl 4 []],[I bk,SB bp,SB bd,I bv,I bkk,I bo,I bs1,I be,I bn,I bkd,.sl 4 (mbs bms)]] = pts (ps ++ [gonP zp,⟨bk,⟨bp,bd,bv,bkk,bo⟩,bs1,⟨be,bn,bkd,bms⟩⟩]):=by simp [pts,gonP,cf0,Pt.cells,mbs]
   have hpl2 : (ps ++ [gonP zp,⟨bk,⟨bp,bd,bv,bkk,bo⟩,bs1,⟨be,bn,bkd,bms⟩⟩]).length <= 2 * (i + 1):=by rw [List.length_append];simp;omega
   have hpn : (pts ps).length + 2 <= 1000:=by rw [pts_len];omega
   have hpn' : ps.length + 2 <= 1000:=by omega
   change SvOk (doS q (txP [gonP zp,⟨bk,⟨bp,bd,bv,bkk,bo⟩,bs1,⟨be,bn,bkd,bms⟩⟩])) _ at hq2
   generalize hdo : doS q (txP [gonP zp,⟨bk,⟨bp,bd,bv,bkk,bo⟩,bs1,⟨be,bn,bkd,bms⟩⟩]) = q2 at *
   generalize hps2 : ps ++ [gonP zp,⟨bk,⟨bp,bd,bv,bkk,bo⟩,bs1,⟨be,bn,bkd,bms⟩⟩] = P2 at *
   have hg4 : pts [gonP zp,⟨bk,⟨bp,bd,bv,bkk,bo⟩,bs1,⟨be,bn,bkd,bms⟩⟩] = [[I 2,SB zp,SB [],I 0,I 0,I 0,I 0,I 0,I 0,I 0,.sl 4 []],[I bk,SB bp,SB bd,I bv,I bkk,I bo,I bs1,I be,I bn,I bkd,.sl 4 (mbs bms)]]:=by simp [pts,gonP,cf0,Pt.cells,mbs]
   unfold Sv.cells Pt.cells at c2
   dsimp only at c2
   unfold Sv.cells txP Tx.cells at c4
   dsimp only at c4
   rw [hg4] at c4
   change zF _ _ _ (.p (.agg [I 2,SB zp,SB [],I 0,I 0,I 0,I 0,I 0,I 0,I 0,.sl 4 []])) at c3
   repeat' first|(refine hK _ ?_;clear hK)|(refine hK _ _ ?_;clear hK)|(clear hK;refine hK _ ?_;clear hK)|(clear hK;clear hK;refine hK _ ?_;clear hK)|(clear hK;clear hK;clear hK;refine hK _ ?_;clear hK)|(clear hK;clear hK;clear hK;clear hK;refine hK _ ?_;clear hK)|(refine zJ fun K hK=>?_)|((first | refine zH ?_ | refine zN rfl (by kernel_rfl) ?_ | refine zM ?_ | refine zK (by kernel_rfl) ?_);simp only [wJ,wI,strip])|((first | refine wIs fun K hK=>?_ | refine wOs fun K hK=>?_ | refine wQs fun K hK=>?_ | refine zU ?_ | refine zV ?_ | refine zW ?_ | refine zL ?_);simp [g2,b2,g3,b3,g4,b4,g5,b5,g14,g15,g16,hlt,hlt',hw,hcell,hF,hap,hpn,hpn',show ByteArray.empty = bs [] from rfl])|(refine wIn ?_;refine And.intro (by kernel_rfl) ?_;try simp only [zX])|(first | refine zQ ?_ | refine zS ?_)|((first | refine zI ?_ | refine zO ?_ | refine zP ?_);try simp)|((first | refine zR ?_ | refine wOn ?_ | refine wQn ?_);try simp only [zX])|(refine zZ.pure (c1) rfl ?_)|(refine zZ.lent (c1) rfl ?_)|(refine zT.pure (c1) rfl ?_)|(refine zT.lent (c1) rfl ?_)|(refine zZ.own (c1) ?_)|(refine zY.pure (c1) rfl ?_)|(refine zY.lent (c1) rfl ?_)|(refine zY.own (c1) ?_)|(refine zZ.pure (c2) rfl ?_)|(refine zZ.lent (c2) rfl ?_)|(refine zT.pure (c2) rfl ?_)|(refine zT.lent (c2) rfl ?_)|(refine zZ.own (c2) ?_)|(refine zY.pure (c2) rfl ?_)|(refine zY.lent (c2) rfl ?_)|(refine zY.own (c2) ?_)|(refine zZ.pure (c3) rfl ?_)|(refine zZ.lent (c3) rfl ?_)|(refine zT.pure (c3) rfl ?_)|(refine zT.lent (c3) rfl ?_)|(refine zZ.own (c3) ?_)|(refine zY.pure (c3) rfl ?_)|(refine zY.lent (c3) rfl ?_)|(refine zY.own (c3) ?_)|(refine zZ.pure (c4) rfl ?_)|(refine zZ.lent (c4) rfl ?_)|(refine zT.pure (c4) rfl ?_)|(refine zT.lent (c4) rfl ?_)|(refine zZ.own (c4) ?_)|(refine zY.pure (c4) rfl ?_)|(refine zY.lent (c4) rfl ?_)|(refine zY.own (c4) ?_)|(refine And.intro (by (try simp only [pts_len]);omega) ?_)
   refine hL _ (N - 1) (by omega) ⟨i + 1,q2,P2,by omega,hq2,hpl2,hRi,?_⟩
   simp [g2,b2,g3,b3,g4,b4,g5,b5,g14,g15,g16,hw,hap]
  ·rw [if_neg h1] at hRi
   subst hRi
   have h1':=eq_false h1
   unfold Sv.cells Pt.cells at c2
   dsimp only at c2
   repeat' first|(refine hK _ ?_;clear hK)|(refine hK _ _ ?_;clear hK)|(clear hK;refine hK _ ?_;clear hK)|(clear hK;clear hK;refine hK _ ?_;clear hK)|(clear hK;clear hK;clear hK;refine hK _ ?_;clear hK)|(clear hK;clear hK;clear hK;clear hK;refine hK _ ?_;clear hK)|(refine zJ fun K hK=>?_)|((first | refine zH ?_ | refine zN rfl (by kernel_rfl) ?_ | refine zM ?_ | refine zK (by kernel_rfl) ?_);simp only [wJ,wI,strip])|((first | refine wIs fun K hK=>?_ | refine wOs fun K hK=>?_ | refine wQs fun K hK=>?_ | refine zU ?_ | refine zV ?_ | refine zW ?_ | refine zL ?_);simp [g2,b2,g3,b3,g4,b4,g5,b5,g14,g15,g16,hlt,hlt',hw,hcell,hF,h1'])|(refine wIn ?_;refine And.intro (by kernel_rfl) ?_;try simp only [zX])|(first | refine zQ ?_ | refine zS ?_)|((first | refine zI ?_ | refine zO ?_ | refine zP ?_);try simp)|((first | refine zR ?_ | refine wOn ?_ | refine wQn ?_);try simp only [zX])|(refine zZ.pure (c1) rfl ?_)|(refine zZ.lent (c1) rfl ?_)|(refine zT.pure (c1) rfl ?_)|(refine zT.lent (c1) rfl ?_)|(refine zZ.own (c1) ?_)|(refine zY.pure (c1) rfl ?_)|(refine zY.lent (c1) rfl ?_)|(refine zY.own (c1) ?_)|(refine zZ.pure (c2) rfl ?_)|(refine zZ.lent (c2) rfl ?_)|(refine zT.pure (c2) rfl ?_)|(refine zT.lent (c2) rfl ?_)|(refine zZ.own (c2) ?_)|(refine zY.pure (c2) rfl ?_)|(refine zY.lent (c2) rfl ?_)|(refine zY.own (c2) ?_)
   all_goals apply hr
   all_goals simp [Try.f23,g4,b4,pts]
 ·rw [List.drop_of_length_le (by omega), clsM] at hRi
  subst hRi
  have hlt' : ¬ (i : Int) < l.length:=by omega
  have hap : pts ps ++ [[I 4,SB [],SB [],I 0,I 0,I 0,I ses,I 0,I 0,I 0,.sl 4 []]] = pts (ps ++ [clsP ses]):=by simp [pts,clsP,zz,cf0,Pt.cells,mbs]
  generalize hps2 : ps ++ [clsP ses] = P2 at *
  have hpn' : ps.length + 1 <= 1000:=by omega
  repeat' first|(refine hK _ ?_;clear hK)|(refine hK _ _ ?_;clear hK)|(clear hK;refine hK _ ?_;clear hK)|(clear hK;clear hK;refine hK _ ?_;clear hK)|(clear hK;clear hK;clear hK;refine hK _ ?_;clear hK)|(clear hK;clear hK;clear hK;clear hK;refine hK _ ?_;clear hK)|(refine zJ fun K hK=>?_)|((first | refine zH ?_ | refine zN rfl (by kernel_rfl) ?_ | refine zM ?_ | refine zK (by kernel_rfl) ?_);simp only [wJ,wI,strip])|((first | refine wIs fun K hK=>?_ | refine wOs fun K hK=>?_ | refine wQs fun K hK=>?_ | refine zU ?_ | refine zV ?_ | refine zW ?_ | refine zL ?_);simp [g2,b2,g3,b3,g4,b4,g5,b5,g14,g15,g16,hlt,hlt',hap,hpn',show ByteArray.empty = bs [] from rfl])|(refine wIn ?_;refine And.intro (by kernel_rfl) ?_;try simp only [zX])|(first | refine zQ ?_ | refine zS ?_)|((first | refine zI ?_ | refine zO ?_ | refine zP ?_);try simp)|((first | refine zR ?_ | refine wOn ?_ | refine wQn ?_);try simp only [zX])|(refine And.intro (by (try simp only [pts_len]);omega) ?_)
  all_goals apply hr
  all_goals simp [Try.f23,g4,b4,hap]
end Go.Proofs.Ytpilcadofjcdoaa
namespace Go.Proofs.Ytpilcadofjcdoaa
set_option linter.unusedSimpArgs false
set_option linter.unusedVariables false
open Go Go.Av
attribute [local irreducible] Go.Av.yQ Go.Av.zZ Go.Av.yG Go.Av.zT Go.Av.yH Go.Av.zY Go.Av.Con
theorem clone36 (l : List (List PV)) (hl : l.length <= 1000000) : RCon 36 [.p (.sl 3 l)] 37 3 l := by
 refine wBodyR Try.tab Try.mixed Try.func36 rfl rfl Try.ntmps36 rfl (by simp) (by simp) fun Q hr hn=>?_
 repeat' first|(refine wRetG [.row 2 37 3] ?_)|(refine And.intro (by omega) (Or.inl ?_))|(refine And.intro ?_ (fun hnil=>?_))|(refine hK _ ?_;clear hK)|(refine hK _ _ ?_;clear hK)|(clear hK;refine hK _ ?_;clear hK)|(clear hK;clear hK;refine hK _ ?_;clear hK)|(clear hK;clear hK;clear hK;refine hK _ ?_;clear hK)|(clear hK;clear hK;clear hK;clear hK;refine hK _ ?_;clear hK)|(refine zJ fun K hK=>?_)|((first | refine zH ?_ | refine zN rfl (by kernel_rfl) ?_ | refine zM ?_ | refine zK (by kernel_rfl) ?_);simp only [wJ,wI,strip])|((first | refine wIs fun K hK=>?_ | refine wOs fun K hK=>?_ | refine wQs fun K hK=>?_ | refine zU ?_ | refine zV ?_ | refine zW ?_ | refine zL ?_);simp)|(refine wIn ?_;refine And.intro (by kernel_rfl) ?_;try simp only [zX])|(first | refine zQ ?_ | refine zS ?_)|((first | refine zI ?_ | refine zO ?_ | refine zP ?_);try simp)|((first | refine zR ?_ | refine wOn ?_ | refine wQn ?_);try simp only [zX])
 ·refine hr _ 7 (by simp) (by simp) (by omega)
 ·subst hnil
  simp only [thenA_r]
  refine hr _ 2 (by simp) (by simp) (by omega)
def cloneT : Nat -> Option (Nat × Nat)
 | 36=>some (37,3)
 | _=>none
theorem clone_ok {g e c : Nat} (h : cloneT g = some (e, c)) (l : List (List PV)) (hl : l.length <= 1000000) : RCon g [.p (.sl c l)] e c l := by
 unfold cloneT at h
 split at h
 ·simp only [wH,Prod.mk.injEq] at h;obtain ⟨rfl,rfl⟩:=h;exact clone36 l hl
 ·simp at h
def base : yN := fun g args β => match args, β with
 | [.p (.sl c' l)], [] => match cloneT g with
  | some (e,c)=>if c' = c /\ l.length <= 1000000 then some (.ret (.row 2048) [.row e c l] []) else none
  | none=>none
 | _,_=>none
end Go.Proofs.Ytpilcadofjcdoaa
