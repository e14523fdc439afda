/- A text that the proof needs. -/
import Derived.Test.YtffflakmofbilaaGreatP37LeadOrder
namespace Go.Proofs.YtffflakmofbilaaGreat
set_option linter.unusedSimpArgs false
set_option linter.unusedVariables false
set_option maxRecDepth 8000
open Go Go.Av
attribute [local irreducible] Go.Av.yA Go.Av.zR Go.Av.xZ Go.Av.zJ Go.Av.xV Go.Av.zG Go.Av.Con
set_option maxHeartbeats 8000000 in
theorem ackEpB_con {n b : Nat} (p : Lq) (g : Bool) (o : List Mg) (h : OkS n b ⟨p, g, o⟩) (hn' : n <= 200) (hb' : b <= 2000) (m : Mg) (hm : m.ms.length <= 1000000) (R1 : Lr) (hR : yB p.ls m.fr 1 = (R1, true)) (h0 : ¬ m.ms.length = 0) (hp1 : p.ph = 1) (q1 : 0 < xN m.z.e m.z.n p.d.e p.d.n) (q2 : ¬ m.z ∈ mks p.h) : Con Tryz.prog 93 [.ptr 1024 0, .p (.agg m.cells)] (lW p g o) (.ret (.tup []) [] (sqW (ackGo p g o m R1))) := by
 have cR:=xL p g o m.fr 1 (by have:=h.ll;simp only at this;omega)
 have cC:=uD m.z.e m.z.n p.d.e p.d.n
 have cM:=marks_con p.h h.hk.lg
 have cN:=containsZ_con (mks p.h) m.z
 rw [decide_eq_false q2] at cN
 have hok : OkS n b ⟨p,g,o⟩:=⟨h.hk,h.ll,h.lo,h.lm⟩
 have cV:=fun x=>vX p (.v x) g hok.hk
 have cv:=xD (zI p) R1.id
 have cA:=fun x=>aheadP_con p (.v x) g m hok.hk.lg h0 hm
 have hE : ackGo p g o m R1 = if R1.id ∈ zI p /\ aheadQ p m = true then ⟨p,true,o⟩ else xJ ((⟨p,g,o⟩ : Sq).lay { R1 with ph:=2,cu:=m.cu,ms:=m.ms,q:=0 }):=rfl
 have hll:=hok.ll
 have cY:=uT p g o { R1 with ph:=2,cu:=m.cu,ms:=m.ms,q:=0 } (by simp only at hll ⊢;omega) hok.lm hm
 have cG:=gath_con (hok.lay (x:={ R1 with ph:=2,cu:=m.cu,ms:=m.ms,q:=0 }) hm) (by omega) (by omega)
 have hp1' : (p.ph = 1) = True:=eq_true hp1
 have h0' : (m.ms.length = 0) = False:=eq_false h0
 rw [hR] at cR
 rw [hE]
 simp only [sqW,lW,pW,Sq.lay] at *
 generalize xJ _ = S3 at *
 generalize hL2 : xK p.ls { R1 with ph:=2,cu:=m.cu,ms:=m.ms,q:=0 } = L2 at *
 generalize hO : zD o = O at *
 generalize hO3 : zD S3.o = O3 at *
 clear q2
 generalize xN m.z.e m.z.n p.d.e p.d.n = zz at *
 generalize zI p = V at *
 clear hE hok hll h
 unfold Lr.cells at cR cY
 dsimp only at cR cY
 by_cases q3 : R1.id ∈ V
 ·rw [decide_eq_true q3] at cv
  by_cases q4 : aheadQ p m = true
  ·rw [if_pos ⟨q3, q4⟩]
   rw [q4] at cA
   clear q3 q4 cY cG
   refine zE Tryz.tab Tryz.mixed Tryz.func93 rfl rfl Tryz.ntmps93 (by simp) (by simp) fun Q hr hn hp=>?_
   repeat' first|(refine zV [1024,1025] (cR) (by decide) (by decide) (by simp [zQ,inN,pos,zO,zX]) (by simp [zN,zH,zX,inN,pos]) ⟨[],by simp,by simp,?_⟩;simp [lv,kpI,kpR,pos,ren,zX])|(refine zJ.pure (cC) rfl ?_)|(refine zJ.pure (cM) rfl ?_)|(refine zJ.pure (cN) rfl ?_)|(refine yY 1024 1025 (lBx p (.row 1025) g) (rfl) (rfl) rfl (by simp [zN,zH,zX,inN,pos]) (fun x _=>cV x) rfl ?_)|(refine zJ.pure (cv) rfl ?_)|(refine yY 1024 1025 (lBx p (.row 1025) g) (rfl) (rfl) rfl (by simp [zN,zH,zX,inN,pos]) (fun x _=>cA x) rfl ?_)|(refine hK _ ?_;clear hK)|(refine zT fun K hK=>?_)|((first | refine zS ?_ | refine yZ rfl (by kernel_rfl) ?_);simp only [tZ,tY,strip])|((first | refine wOs fun K hK=>?_ | refine wQs fun K hK=>?_ | refine zM ?_ | refine zW ?_);simp [q1,hp1',h0'])|((first | refine zL ?_ | refine zP ?_);try simp)|((first | refine wOn ?_ | refine wQn ?_);try simp only [zZ])
   all_goals first | apply hr
   all_goals refine ⟨[],by simp,by simp,?_⟩
   all_goals simp [Tryz.f93,yL,yM,zO,gaN,ouN,zX,hO]
  ·rw [if_neg (fun h => q4 h.2)]
   rw [Bool.not_eq_true] at q4
   rw [q4] at cA
   clear q3 q4
   refine zE Tryz.tab Tryz.mixed Tryz.func93 rfl rfl Tryz.ntmps93 (by simp) (by simp) fun Q hr hn hp=>?_
   repeat' first|(refine zV [1024,1025] (cR) (by decide) (by decide) (by simp [zQ,inN,pos,zO,zX]) (by simp [zN,zH,zX,inN,pos]) ⟨[],by simp,by simp,?_⟩;simp [lv,kpI,kpR,pos,ren,zX])|(refine zJ.pure (cC) rfl ?_)|(refine zJ.pure (cM) rfl ?_)|(refine zJ.pure (cN) rfl ?_)|(refine yY 1024 1025 (lBx p (.row 1025) g) (rfl) (rfl) rfl (by simp [zN,zH,zX,inN,pos]) (fun x _=>cV x) rfl ?_)|(refine zJ.pure (cv) rfl ?_)|(refine yY 1024 1025 (lBx p (.row 1025) g) (rfl) (rfl) rfl (by simp [zN,zH,zX,inN,pos]) (fun x _=>cA x) rfl ?_)|(refine zV [1024,1025] (cY) (by decide) (by decide) (by simp [zQ,inN,pos,zO,zX,ouN]) (by simp [zN,zH,zX,inN,pos]) ⟨[],by simp,by simp,?_⟩;simp [lv,kpI,kpR,pos,ren,zX])|(refine zV [1024,1025] (cG) (by decide) (by decide) (by simp [zQ,inN,pos,zO,zX,ouN]) (by simp [zN,zH,zX,inN,pos]) ⟨[],by simp,by simp,?_⟩;simp [lv,kpI,kpR,pos,ren,zX])|(refine hK _ ?_;clear hK)|(refine hK _ _ ?_;clear hK)|(refine zT fun K hK=>?_)|((first | refine zS ?_ | refine yZ rfl (by kernel_rfl) ?_ | refine yI ?_);simp only [tZ,tY,strip])|((first | refine wIs fun K hK=>?_ | refine wOs fun K hK=>?_ | refine wQs fun K hK=>?_ | refine zM ?_ | refine zW ?_);simp [q1,hp1',h0'])|(refine wIn ?_;refine And.intro (by kernel_rfl) ?_;try simp only [zZ])|(first | refine zU ?_)|(refine zP ?_;try simp)|((first | refine wOn ?_ | refine wQn ?_);try simp only [zZ])
   all_goals first | apply hn
   all_goals refine ⟨[],by simp,by simp,?_⟩
   all_goals simp [Tryz.f93,yL,yM,zO,gaN,ouN,zX,hO3]
 ·rw [if_neg (fun h => q3 h.1)]
  rw [decide_eq_false q3] at cv
  clear q3 cA
  refine zE Tryz.tab Tryz.mixed Tryz.func93 rfl rfl Tryz.ntmps93 (by simp) (by simp) fun Q hr hn hp=>?_
  repeat' first|(refine zV [1024,1025] (cR) (by decide) (by decide) (by simp [zQ,inN,pos,zO,zX]) (by simp [zN,zH,zX,inN,pos]) ⟨[],by simp,by simp,?_⟩;simp [lv,kpI,kpR,pos,ren,zX])|(refine zJ.pure (cC) rfl ?_)|(refine zJ.pure (cM) rfl ?_)|(refine zJ.pure (cN) rfl ?_)|(refine yY 1024 1025 (lBx p (.row 1025) g) (rfl) (rfl) rfl (by simp [zN,zH,zX,inN,pos]) (fun x _=>cV x) rfl ?_)|(refine zJ.pure (cv) rfl ?_)|(refine zV [1024,1025] (cY) (by decide) (by decide) (by simp [zQ,inN,pos,zO,zX,ouN]) (by simp [zN,zH,zX,inN,pos]) ⟨[],by simp,by simp,?_⟩;simp [lv,kpI,kpR,pos,ren,zX])|(refine zV [1024,1025] (cG) (by decide) (by decide) (by simp [zQ,inN,pos,zO,zX,ouN]) (by simp [zN,zH,zX,inN,pos]) ⟨[],by simp,by simp,?_⟩;simp [lv,kpI,kpR,pos,ren,zX])|(refine hK _ ?_;clear hK)|(refine hK _ _ ?_;clear hK)|(refine zT fun K hK=>?_)|((first | refine zS ?_ | refine yZ rfl (by kernel_rfl) ?_ | refine yI ?_);simp only [tZ,tY,strip])|((first | refine wIs fun K hK=>?_ | refine wOs fun K hK=>?_ | refine wQs fun K hK=>?_ | refine zM ?_ | refine zW ?_);simp [q1,hp1',h0'])|(refine wIn ?_;refine And.intro (by kernel_rfl) ?_;try simp only [zZ])|(first | refine zU ?_)|(refine zP ?_;try simp)|((first | refine wOn ?_ | refine wQn ?_);try simp only [zZ])
  all_goals first | apply hn
  all_goals refine ⟨[],by simp,by simp,?_⟩
  all_goals simp [Tryz.f93,yL,yM,zO,gaN,ouN,zX,hO3]
end Go.Proofs.YtffflakmofbilaaGreat
