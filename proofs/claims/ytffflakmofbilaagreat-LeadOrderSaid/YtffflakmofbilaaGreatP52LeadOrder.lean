/- A text that the proof needs. -/
import Derived.Test.YtffflakmofbilaaGreatP35LeadOrder
import Derived.Test.YtffflakmofbilaaGreatP30LeadOrder
import Derived.Test.YtffflakmofbilaaGreatP31LeadOrder
import Derived.Test.YtffflakmofbilaaGreatP33LeadOrder
namespace Go.Proofs.YtffflakmofbilaaGreat
set_option linter.unusedSimpArgs false
set_option linter.unusedVariables false
set_option maxRecDepth 8000
open Go Go.Av
attribute [local irreducible] Go.Av.yA Go.Av.zR Go.Av.xZ Go.Av.zJ Go.Av.xV Go.Av.zG Go.Av.Con
set_option maxHeartbeats 8000000 in
theorem ackEp0_con {n b : Nat} {s : Sq} (h : OkS n b s) (hn' : n <= 200) (hb' : b <= 2000) (m : Mg) (hm : m.ms.length <= 1000000) (hf : (yB s.p.ls m.fr 1).2 = false \/ m.ms.length = 0) : Con Tryz.prog 93 [.ptr 1024 0, .p (.agg m.cells)] (sqW s) (.ret (.tup []) [] (sqW s)) := by
 have cR:=xL s.p s.g s.o m.fr 1 (by have:=h.ll;omega)
 obtain ⟨p,g,o⟩:=s
 dsimp only at *
 simp only [sqW,lW] at *
 generalize yB p.ls m.fr 1 = R at *
 generalize zD o = O at *
 obtain ⟨R1,R2⟩:=R
 clear h
 unfold Lr.cells at cR
 dsimp only at *
 cases R2
 ·clear hf
  refine zE Tryz.tab Tryz.mixed Tryz.func93 rfl rfl Tryz.ntmps93 (by simp) (by simp) fun Q hr hn hp=>?_
  repeat' first|(refine zV [1024,1025] (cR) (by decide) (by decide) (by simp [zQ,inN,pos,zO,zX]) (by simp [zN,zH,zX,inN,pos]) ⟨[],by simp,by simp,?_⟩;simp [lv,kpI,kpR,pos,ren,zX])|(refine hK _ ?_;clear hK)|(refine zT fun K hK=>?_)|(refine zS ?_;simp only [tZ,tY,strip])|((first | refine wOs fun K hK=>?_ | refine zW ?_);simp)|(refine zL ?_;try simp)|(refine wOn ?_;try simp only [zZ])
  all_goals first | apply hr
  all_goals refine ⟨[],by simp,by simp,?_⟩
  all_goals simp [Tryz.f93,yL,yM,zO,gaN,ouN,zX]
 ·replace hf : (m.ms.length = 0) = True := eq_true (hf.resolve_left (by simp))
  refine zE Tryz.tab Tryz.mixed Tryz.func93 rfl rfl Tryz.ntmps93 (by simp) (by simp) fun Q hr hn hp=>?_
  repeat' first|(refine zV [1024,1025] (cR) (by decide) (by decide) (by simp [zQ,inN,pos,zO,zX]) (by simp [zN,zH,zX,inN,pos]) ⟨[],by simp,by simp,?_⟩;simp [lv,kpI,kpR,pos,ren,zX])|(refine hK _ ?_;clear hK)|(refine zT fun K hK=>?_)|(refine zS ?_;simp only [tZ,tY,strip])|((first | refine wOs fun K hK=>?_ | refine zW ?_);simp [hf])|(refine zL ?_;try simp)|(refine wOn ?_;try simp only [zZ])
  all_goals first | apply hr
  all_goals refine ⟨[],by simp,by simp,?_⟩
  all_goals simp [Tryz.f93,yL,yM,zO,gaN,ouN,zX]
set_option maxHeartbeats 8000000 in
theorem ackEp2a_con {n b : Nat} {s : Sq} (h : OkS n b s) (hn' : n <= 200) (hb' : b <= 2000) (m : Mg) (hm : m.ms.length <= 1000000) (R1 : Lr) (hR : yB s.p.ls m.fr 1 = (R1, true)) (h0 : ¬ m.ms.length = 0) (hp1 : ¬ s.p.ph = 1) (q3 : s.p.ph = 3) : Con Tryz.prog 93 [.ptr 1024 0, .p (.agg m.cells)] (sqW s) (.ret (.tup []) [] (sqW (vB (s.lay { R1 with ph := 2, cu := m.cu, ms := m.ms, q := 0 }) { R1 with ph := 2, cu := m.cu, ms := m.ms, q := 0 }))) := by
 have cR:=xL s.p s.g s.o m.fr 1 (by have:=h.ll;omega)
 have hok:=h.lay (x:={ R1 with ph:=2,cu:=m.cu,ms:=m.ms,q:=0 }) hm
 have cY:=uT s.p s.g s.o { R1 with ph:=2,cu:=m.cu,ms:=m.ms,q:=0 } (by have:=h.ll;omega) h.lm hm
 have cV:=fun x=>vX (s.lay { R1 with ph:=2,cu:=m.cu,ms:=m.ms,q:=0 }).p (.v x) s.g hok.hk
 have cv:=xD (zI (s.lay { R1 with ph:=2,cu:=m.cu,ms:=m.ms,q:=0 }).p) R1.id
 have cP:=plan_con hok { R1 with ph:=2,cu:=m.cu,ms:=m.ms,q:=0 } hm (by omega) (by omega)
 have h0' : (m.ms.length = 0) = False:=eq_false h0
 have hp1' : (s.p.ph = 1) = False:=eq_false hp1
 rw [hR] at cR
 have q3' : (s.p.ph = 3) = True:=eq_true q3
 clear cv cV
 obtain ⟨p,g,o⟩:=s
 simp only [sqW,lW,Sq.lay] at *
 generalize vB _ _ = S3 at *
 generalize xK p.ls { R1 with ph:=2,cu:=m.cu,ms:=m.ms,q:=0 } = L2 at *
 generalize hO : zD o = O at *
 generalize hO3 : zD S3.o = O3 at *
 try generalize zI { p with ls:=L2 } = V at *
 unfold Lr.cells at cR cY cP
 dsimp only at cR cY cP
 clear hok
 refine zE Tryz.tab Tryz.mixed Tryz.func93 rfl rfl Tryz.ntmps93 (by simp) (by simp) fun Q hr hn hp=>?_
 repeat' first|(refine zV [1024,1025] (cR) (by decide) (by decide) (by simp [zQ,inN,pos,zO,zX]) (by simp [zN,zH,zX,inN,pos]) ⟨[],by simp,by simp,?_⟩;simp [lv,kpI,kpR,pos,ren,zX])|(refine zV [1024,1025] (cY) (by decide) (by decide) (by simp [zQ,inN,pos,zO,zX,ouN]) (by simp [zN,zH,zX,inN,pos]) ⟨[],by simp,by simp,?_⟩;simp [lv,kpI,kpR,pos,ren,zX])|(refine zV [1024,1025] (cP) (by decide) (by decide) (by simp [zQ,inN,pos,zO,zX,ouN]) (by simp [zN,zH,zX,inN,pos]) ⟨[],by simp,by simp,?_⟩;simp [lv,kpI,kpR,pos,ren,zX])|(refine hK _ ?_;clear hK)|(refine hK _ _ ?_;clear hK)|(refine zT fun K hK=>?_)|((first | refine zS ?_ | refine yI ?_);simp only [tZ,tY,strip])|((first | refine wIs fun K hK=>?_ | refine wOs fun K hK=>?_ | refine zW ?_);simp [hp1',h0',q3'])|(refine wIn ?_;refine And.intro (by kernel_rfl) ?_;try simp only [zZ])|(first | refine zU ?_)|(refine zP ?_;try simp)|(refine wOn ?_;try simp only [zZ])
 all_goals first | apply hn
 all_goals refine ⟨[],by simp,by simp,?_⟩
 all_goals simp [Tryz.f93,yL,yM,zO,gaN,ouN,zX]
set_option maxHeartbeats 8000000 in
theorem ackEp2b_con {n b : Nat} {s : Sq} (h : OkS n b s) (hn' : n <= 200) (hb' : b <= 2000) (m : Mg) (hm : m.ms.length <= 1000000) (R1 : Lr) (hR : yB s.p.ls m.fr 1 = (R1, true)) (h0 : ¬ m.ms.length = 0) (hp1 : ¬ s.p.ph = 1) (q3 : ¬ s.p.ph = 3) (q2 : s.p.ph = 2) (q4 : R1.id ∈ zI (s.lay { R1 with ph := 2, cu := m.cu, ms := m.ms, q := 0 }).p) : Con Tryz.prog 93 [.ptr 1024 0, .p (.agg m.cells)] (sqW s) (.ret (.tup []) [] (sqW (vB (s.lay { R1 with ph := 2, cu := m.cu, ms := m.ms, q := 0 }) { R1 with ph := 2, cu := m.cu, ms := m.ms, q := 0 }))) := by
 have cR:=xL s.p s.g s.o m.fr 1 (by have:=h.ll;omega)
 have hok:=h.lay (x:={ R1 with ph:=2,cu:=m.cu,ms:=m.ms,q:=0 }) hm
 have cY:=uT s.p s.g s.o { R1 with ph:=2,cu:=m.cu,ms:=m.ms,q:=0 } (by have:=h.ll;omega) h.lm hm
 have cV:=fun x=>vX (s.lay { R1 with ph:=2,cu:=m.cu,ms:=m.ms,q:=0 }).p (.v x) s.g hok.hk
 have cv:=xD (zI (s.lay { R1 with ph:=2,cu:=m.cu,ms:=m.ms,q:=0 }).p) R1.id
 have cP:=plan_con hok { R1 with ph:=2,cu:=m.cu,ms:=m.ms,q:=0 } hm (by omega) (by omega)
 have h0' : (m.ms.length = 0) = False:=eq_false h0
 have hp1' : (s.p.ph = 1) = False:=eq_false hp1
 rw [hR] at cR
 have q3' : (s.p.ph = 3) = False:=eq_false q3
 have q2' : (s.p.ph = 2) = True:=eq_true q2
 rw [decide_eq_true q4] at cv
 clear q4
 obtain ⟨p,g,o⟩:=s
 simp only [sqW,lW,pW,Sq.lay] at *
 generalize vB _ _ = S3 at *
 generalize xK p.ls { R1 with ph:=2,cu:=m.cu,ms:=m.ms,q:=0 } = L2 at *
 generalize hO : zD o = O at *
 generalize hO3 : zD S3.o = O3 at *
 try generalize zI { p with ls:=L2 } = V at *
 unfold Lr.cells at cR cY cP
 dsimp only at cR cY cP
 clear hok
 refine zE Tryz.tab Tryz.mixed Tryz.func93 rfl rfl Tryz.ntmps93 (by simp) (by simp) fun Q hr hn hp=>?_
 repeat' first|(refine zV [1024,1025] (cR) (by decide) (by decide) (by simp [zQ,inN,pos,zO,zX]) (by simp [zN,zH,zX,inN,pos]) ⟨[],by simp,by simp,?_⟩;simp [lv,kpI,kpR,pos,ren,zX])|(refine zV [1024,1025] (cY) (by decide) (by decide) (by simp [zQ,inN,pos,zO,zX,ouN]) (by simp [zN,zH,zX,inN,pos]) ⟨[],by simp,by simp,?_⟩;simp [lv,kpI,kpR,pos,ren,zX])|(refine yY 1024 1025 (lBx { p with ls:=L2 } (.row 1025) g) (rfl) (rfl) rfl (by simp [zN,zH,zX,inN,pos]) (fun x _=>cV x) rfl ?_)|(refine zJ.pure (cv) rfl ?_)|(refine zV [1024,1025] (cP) (by decide) (by decide) (by simp [zQ,inN,pos,zO,zX,ouN]) (by simp [zN,zH,zX,inN,pos]) ⟨[],by simp,by simp,?_⟩;simp [lv,kpI,kpR,pos,ren,zX])|(refine hK _ ?_;clear hK)|(refine hK _ _ ?_;clear hK)|(refine zT fun K hK=>?_)|((first | refine zS ?_ | refine yZ rfl (by kernel_rfl) ?_ | refine yI ?_);simp only [tZ,tY,strip])|((first | refine wIs fun K hK=>?_ | refine wOs fun K hK=>?_ | refine wQs fun K hK=>?_ | refine zM ?_ | refine zW ?_);simp [hp1',h0',q3',q2'])|(refine wIn ?_;refine And.intro (by kernel_rfl) ?_;try simp only [zZ])|(first | refine zU ?_)|(refine zP ?_;try simp)|((first | refine wOn ?_ | refine wQn ?_);try simp only [zZ])
 all_goals first | apply hn
 all_goals refine ⟨[],by simp,by simp,?_⟩
 all_goals simp [Tryz.f93,yL,yM,zO,gaN,ouN,zX]
end Go.Proofs.YtffflakmofbilaaGreat
