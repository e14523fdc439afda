/- Texts that the proof needs: LD10b. -/
import Derived.Test.YtffflakmofbilaaGreatP37LeadDone
namespace Go.Proofs.YtffflakmofbilaaGreat
set_option linter.unusedSimpArgs false
set_option linter.unusedVariables false
set_option maxRecDepth 8000
open Go Go.Av
attribute [local irreducible] Go.Av.yD Go.Av.zQ Go.Av.yC Go.Av.zJ Go.Av.xZ Go.Av.yT Go.Av.Con
set_option maxHeartbeats 8000000 in
theorem ackEp0_con {n b : Nat} {s : Sq} (h : OkS n b s) (hn' : n <= 200) (hb' : b <= 2000) (m : Mg) (hm : m.ms.length <= 1000000) (hf : (xN s.p.ls m.fr 1).2 = false \/ m.ms.length = 0) : Con Tryz.prog 93 [.ptr 1024 0, .p (.agg m.cells)] (sqW s) (.ret (.tup []) [] (sqW s)) := by
 have cR:=xL s.p s.g s.o m.fr 1 (by have:=h.ll;omega)
 obtain ⟨p,g,o⟩:=s
 dsimp only at *
 simp only [sqW,lW] at *
 generalize xN p.ls m.fr 1 = R at *
 generalize zC o = O at *
 obtain ⟨R1,R2⟩:=R
 clear h
 unfold Lr.cells at cR
 dsimp only at *
 cases R2
 ·clear hf
  refine zF Tryz.tab Tryz.mixed Tryz.func93 rfl rfl Tryz.ntmps93 (by simp) (by simp) fun Q hr hn hp=>?_
  repeat' first|(refine zS [1024,1025] (cR) (by decide) (by decide) (by simp [zP,inN,pos,zO,zV]) (by simp [zM,zI,zV,inN,pos]) ⟨[],by simp,by simp,?_⟩;simp [lv,kpI,kpR,pos,ren,zV])|(refine hK _ ?_;clear hK)|(refine zU fun K hK=>?_)|(refine zT ?_;simp only [uP,uO,strip])|((first | refine wOs fun K hK=>?_ | refine zX ?_);simp)|(refine zN ?_;try simp)|(refine wOn ?_;try simp only [zZ])
  all_goals first | apply hr
  all_goals refine ⟨[],by simp,by simp,?_⟩
  all_goals simp [Tryz.f93,yL,yM,zO,gaN,ouN,zV]
 ·replace hf : (m.ms.length = 0) = True := eq_true (hf.resolve_left (by simp))
  refine zF Tryz.tab Tryz.mixed Tryz.func93 rfl rfl Tryz.ntmps93 (by simp) (by simp) fun Q hr hn hp=>?_
  repeat' first|(refine zS [1024,1025] (cR) (by decide) (by decide) (by simp [zP,inN,pos,zO,zV]) (by simp [zM,zI,zV,inN,pos]) ⟨[],by simp,by simp,?_⟩;simp [lv,kpI,kpR,pos,ren,zV])|(refine hK _ ?_;clear hK)|(refine zU fun K hK=>?_)|(refine zT ?_;simp only [uP,uO,strip])|((first | refine wOs fun K hK=>?_ | refine zX ?_);simp [hf])|(refine zN ?_;try simp)|(refine wOn ?_;try simp only [zZ])
  all_goals first | apply hr
  all_goals refine ⟨[],by simp,by simp,?_⟩
  all_goals simp [Tryz.f93,yL,yM,zO,gaN,ouN,zV]
set_option maxHeartbeats 8000000 in
theorem ackEp2a_con {n b : Nat} {s : Sq} (h : OkS n b s) (hn' : n <= 200) (hb' : b <= 2000) (m : Mg) (hm : m.ms.length <= 1000000) (R1 : Lr) (hR : xN s.p.ls m.fr 1 = (R1, true)) (h0 : ¬ m.ms.length = 0) (hp1 : ¬ s.p.ph = 1) (q3 : s.p.ph = 3) : Con Tryz.prog 93 [.ptr 1024 0, .p (.agg m.cells)] (sqW s) (.ret (.tup []) [] (sqW (vD (s.lay { R1 with ph := 2, cu := m.cu, ms := m.ms, q := 0 }) { R1 with ph := 2, cu := m.cu, ms := m.ms, q := 0 }))) := by
 have cR:=xL s.p s.g s.o m.fr 1 (by have:=h.ll;omega)
 have hok:=h.lay (x:={ R1 with ph:=2,cu:=m.cu,ms:=m.ms,q:=0 }) hm
 have cY:=vK s.p s.g s.o { R1 with ph:=2,cu:=m.cu,ms:=m.ms,q:=0 } (by have:=h.ll;omega) h.lm hm
 have cV:=fun x=>wJ (s.lay { R1 with ph:=2,cu:=m.cu,ms:=m.ms,q:=0 }).p (.v x) s.g hok.hk
 have cv:=xE (zB (s.lay { R1 with ph:=2,cu:=m.cu,ms:=m.ms,q:=0 }).p) R1.id
 have cP:=plan_con hok { R1 with ph:=2,cu:=m.cu,ms:=m.ms,q:=0 } hm (by omega) (by omega)
 have h0' : (m.ms.length = 0) = False:=eq_false h0
 have hp1' : (s.p.ph = 1) = False:=eq_false hp1
 rw [hR] at cR
 have q3' : (s.p.ph = 3) = True:=eq_true q3
 clear cv cV
 obtain ⟨p,g,o⟩:=s
 simp only [sqW,lW,Sq.lay] at *
 generalize vD _ _ = S3 at *
 generalize xK p.ls { R1 with ph:=2,cu:=m.cu,ms:=m.ms,q:=0 } = L2 at *
 generalize hO : zC o = O at *
 generalize hO3 : zC S3.o = O3 at *
 try generalize zB { p with ls:=L2 } = V at *
 unfold Lr.cells at cR cY cP
 dsimp only at cR cY cP
 clear hok
 refine zF Tryz.tab Tryz.mixed Tryz.func93 rfl rfl Tryz.ntmps93 (by simp) (by simp) fun Q hr hn hp=>?_
 repeat' first|(refine zS [1024,1025] (cR) (by decide) (by decide) (by simp [zP,inN,pos,zO,zV]) (by simp [zM,zI,zV,inN,pos]) ⟨[],by simp,by simp,?_⟩;simp [lv,kpI,kpR,pos,ren,zV])|(refine zS [1024,1025] (cY) (by decide) (by decide) (by simp [zP,inN,pos,zO,zV,ouN]) (by simp [zM,zI,zV,inN,pos]) ⟨[],by simp,by simp,?_⟩;simp [lv,kpI,kpR,pos,ren,zV])|(refine zS [1024,1025] (cP) (by decide) (by decide) (by simp [zP,inN,pos,zO,zV,ouN]) (by simp [zM,zI,zV,inN,pos]) ⟨[],by simp,by simp,?_⟩;simp [lv,kpI,kpR,pos,ren,zV])|(refine hK _ ?_;clear hK)|(refine hK _ _ ?_;clear hK)|(refine zU fun K hK=>?_)|((first | refine zT ?_ | refine yI ?_);simp only [uP,uO,strip])|((first | refine wIs fun K hK=>?_ | refine wOs fun K hK=>?_ | refine zX ?_);simp [hp1',h0',q3'])|(refine wIn ?_;refine And.intro (by kernel_rfl) ?_;try simp only [zZ])|(first | refine zW ?_)|(refine zR ?_;try simp)|(refine wOn ?_;try simp only [zZ])
 all_goals first | apply hn
 all_goals refine ⟨[],by simp,by simp,?_⟩
 all_goals simp [Tryz.f93,yL,yM,zO,gaN,ouN,zV]
set_option maxHeartbeats 8000000 in
theorem ackEp2b_con {n b : Nat} {s : Sq} (h : OkS n b s) (hn' : n <= 200) (hb' : b <= 2000) (m : Mg) (hm : m.ms.length <= 1000000) (R1 : Lr) (hR : xN s.p.ls m.fr 1 = (R1, true)) (h0 : ¬ m.ms.length = 0) (hp1 : ¬ s.p.ph = 1) (q3 : ¬ s.p.ph = 3) (q2 : s.p.ph = 2) (q4 : R1.id ∈ zB (s.lay { R1 with ph := 2, cu := m.cu, ms := m.ms, q := 0 }).p) : Con Tryz.prog 93 [.ptr 1024 0, .p (.agg m.cells)] (sqW s) (.ret (.tup []) [] (sqW (vD (s.lay { R1 with ph := 2, cu := m.cu, ms := m.ms, q := 0 }) { R1 with ph := 2, cu := m.cu, ms := m.ms, q := 0 }))) := by
 have cR:=xL s.p s.g s.o m.fr 1 (by have:=h.ll;omega)
 have hok:=h.lay (x:={ R1 with ph:=2,cu:=m.cu,ms:=m.ms,q:=0 }) hm
 have cY:=vK s.p s.g s.o { R1 with ph:=2,cu:=m.cu,ms:=m.ms,q:=0 } (by have:=h.ll;omega) h.lm hm
 have cV:=fun x=>wJ (s.lay { R1 with ph:=2,cu:=m.cu,ms:=m.ms,q:=0 }).p (.v x) s.g hok.hk
 have cv:=xE (zB (s.lay { R1 with ph:=2,cu:=m.cu,ms:=m.ms,q:=0 }).p) R1.id
 have cP:=plan_con hok { R1 with ph:=2,cu:=m.cu,ms:=m.ms,q:=0 } hm (by omega) (by omega)
 have h0' : (m.ms.length = 0) = False:=eq_false h0
 have hp1' : (s.p.ph = 1) = False:=eq_false hp1
 rw [hR] at cR
 have q3' : (s.p.ph = 3) = False:=eq_false q3
 have q2' : (s.p.ph = 2) = True:=eq_true q2
 rw [decide_eq_true q4] at cv
 clear q4
 obtain ⟨p,g,o⟩:=s
 simp only [sqW,lW,pW,Sq.lay] at *
 generalize vD _ _ = S3 at *
 generalize xK p.ls { R1 with ph:=2,cu:=m.cu,ms:=m.ms,q:=0 } = L2 at *
 generalize hO : zC o = O at *
 generalize hO3 : zC S3.o = O3 at *
 try generalize zB { p with ls:=L2 } = V at *
 unfold Lr.cells at cR cY cP
 dsimp only at cR cY cP
 clear hok
 refine zF Tryz.tab Tryz.mixed Tryz.func93 rfl rfl Tryz.ntmps93 (by simp) (by simp) fun Q hr hn hp=>?_
 repeat' first|(refine zS [1024,1025] (cR) (by decide) (by decide) (by simp [zP,inN,pos,zO,zV]) (by simp [zM,zI,zV,inN,pos]) ⟨[],by simp,by simp,?_⟩;simp [lv,kpI,kpR,pos,ren,zV])|(refine zS [1024,1025] (cY) (by decide) (by decide) (by simp [zP,inN,pos,zO,zV,ouN]) (by simp [zM,zI,zV,inN,pos]) ⟨[],by simp,by simp,?_⟩;simp [lv,kpI,kpR,pos,ren,zV])|(refine yZ 1024 1025 (lBx { p with ls:=L2 } (.row 1025) g) (rfl) (rfl) rfl (by simp [zM,zI,zV,inN,pos]) (fun x _=>cV x) rfl ?_)|(refine zJ.pure (cv) rfl ?_)|(refine zS [1024,1025] (cP) (by decide) (by decide) (by simp [zP,inN,pos,zO,zV,ouN]) (by simp [zM,zI,zV,inN,pos]) ⟨[],by simp,by simp,?_⟩;simp [lv,kpI,kpR,pos,ren,zV])|(refine hK _ ?_;clear hK)|(refine hK _ _ ?_;clear hK)|(refine zU fun K hK=>?_)|((first | refine zT ?_ | refine zE rfl (by kernel_rfl) ?_ | refine yI ?_);simp only [uP,uO,strip])|((first | refine wIs fun K hK=>?_ | refine wOs fun K hK=>?_ | refine wQs fun K hK=>?_ | refine zK ?_ | refine zX ?_);simp [hp1',h0',q3',q2'])|(refine wIn ?_;refine And.intro (by kernel_rfl) ?_;try simp only [zZ])|(first | refine zW ?_)|(refine zR ?_;try simp)|((first | refine wOn ?_ | refine wQn ?_);try simp only [zZ])
 all_goals first | apply hn
 all_goals refine ⟨[],by simp,by simp,?_⟩
 all_goals simp [Tryz.f93,yL,yM,zO,gaN,ouN,zV]
set_option maxHeartbeats 8000000 in
theorem ackEp2c_con {n b : Nat} {s : Sq} (h : OkS n b s) (hn' : n <= 200) (hb' : b <= 2000) (m : Mg) (hm : m.ms.length <= 1000000) (R1 : Lr) (hR : xN s.p.ls m.fr 1 = (R1, true)) (h0 : ¬ m.ms.length = 0) (hp1 : ¬ s.p.ph = 1) (q3 : ¬ s.p.ph = 3) (q2 : s.p.ph = 2) (q4 : ¬ R1.id ∈ zB (s.lay { R1 with ph := 2, cu := m.cu, ms := m.ms, q := 0 }).p) : Con Tryz.prog 93 [.ptr 1024 0, .p (.agg m.cells)] (sqW s) (.ret (.tup []) [] (sqW (s.lay { R1 with ph := 2, cu := m.cu, ms := m.ms, q := 0 }))) := by
 have cR:=xL s.p s.g s.o m.fr 1 (by have:=h.ll;omega)
 have hok:=h.lay (x:={ R1 with ph:=2,cu:=m.cu,ms:=m.ms,q:=0 }) hm
 have cY:=vK s.p s.g s.o { R1 with ph:=2,cu:=m.cu,ms:=m.ms,q:=0 } (by have:=h.ll;omega) h.lm hm
 have cV:=fun x=>wJ (s.lay { R1 with ph:=2,cu:=m.cu,ms:=m.ms,q:=0 }).p (.v x) s.g hok.hk
 have cv:=xE (zB (s.lay { R1 with ph:=2,cu:=m.cu,ms:=m.ms,q:=0 }).p) R1.id
 have cP:=plan_con hok { R1 with ph:=2,cu:=m.cu,ms:=m.ms,q:=0 } hm (by omega) (by omega)
 have h0' : (m.ms.length = 0) = False:=eq_false h0
 have hp1' : (s.p.ph = 1) = False:=eq_false hp1
 rw [hR] at cR
 have q3' : (s.p.ph = 3) = False:=eq_false q3
 have q2' : (s.p.ph = 2) = True:=eq_true q2
 rw [decide_eq_false q4] at cv
 clear q4
 obtain ⟨p,g,o⟩:=s
 simp only [sqW,lW,pW,Sq.lay] at *
 generalize vD _ _ = S3 at *
 generalize xK p.ls { R1 with ph:=2,cu:=m.cu,ms:=m.ms,q:=0 } = L2 at *
 generalize hO : zC o = O at *
 generalize hO3 : zC S3.o = O3 at *
 try generalize zB { p with ls:=L2 } = V at *
 unfold Lr.cells at cR cY cP
 dsimp only at cR cY cP
 clear hok cP
 refine zF Tryz.tab Tryz.mixed Tryz.func93 rfl rfl Tryz.ntmps93 (by simp) (by simp) fun Q hr hn hp=>?_
 repeat' first|(refine zS [1024,1025] (cR) (by decide) (by decide) (by simp [zP,inN,pos,zO,zV]) (by simp [zM,zI,zV,inN,pos]) ⟨[],by simp,by simp,?_⟩;simp [lv,kpI,kpR,pos,ren,zV])|(refine zS [1024,1025] (cY) (by decide) (by decide) (by simp [zP,inN,pos,zO,zV,ouN]) (by simp [zM,zI,zV,inN,pos]) ⟨[],by simp,by simp,?_⟩;simp [lv,kpI,kpR,pos,ren,zV])|(refine yZ 1024 1025 (lBx { p with ls:=L2 } (.row 1025) g) (rfl) (rfl) rfl (by simp [zM,zI,zV,inN,pos]) (fun x _=>cV x) rfl ?_)|(refine zJ.pure (cv) rfl ?_)|(refine hK _ ?_;clear hK)|(refine hK _ _ ?_;clear hK)|(refine zU fun K hK=>?_)|((first | refine zT ?_ | refine zE rfl (by kernel_rfl) ?_ | refine yI ?_);simp only [uP,uO,strip])|((first | refine wIs fun K hK=>?_ | refine wOs fun K hK=>?_ | refine wQs fun K hK=>?_ | refine zK ?_ | refine zX ?_);simp [hp1',h0',q3',q2'])|(refine wIn ?_;refine And.intro (by kernel_rfl) ?_;try simp only [zZ])|(first | refine zW ?_)|(refine zR ?_;try simp)|((first | refine wOn ?_ | refine wQn ?_);try simp only [zZ])
 all_goals first | apply hn
 all_goals refine ⟨[],by simp,by simp,?_⟩
 all_goals simp [Tryz.f93,yL,yM,zO,gaN,ouN,zV]
set_option maxHeartbeats 8000000 in
theorem ackEp2d_con {n b : Nat} {s : Sq} (h : OkS n b s) (hn' : n <= 200) (hb' : b <= 2000) (m : Mg) (hm : m.ms.length <= 1000000) (R1 : Lr) (hR : xN s.p.ls m.fr 1 = (R1, true)) (h0 : ¬ m.ms.length = 0) (hp1 : ¬ s.p.ph = 1) (q3 : ¬ s.p.ph = 3) (q2 : ¬ s.p.ph = 2) : Con Tryz.prog 93 [.ptr 1024 0, .p (.agg m.cells)] (sqW s) (.ret (.tup []) [] (sqW (s.lay { R1 with ph := 2, cu := m.cu, ms := m.ms, q := 0 }))) := by
 have cR:=xL s.p s.g s.o m.fr 1 (by have:=h.ll;omega)
 have hok:=h.lay (x:={ R1 with ph:=2,cu:=m.cu,ms:=m.ms,q:=0 }) hm
 have cY:=vK s.p s.g s.o { R1 with ph:=2,cu:=m.cu,ms:=m.ms,q:=0 } (by have:=h.ll;omega) h.lm hm
 have cV:=fun x=>wJ (s.lay { R1 with ph:=2,cu:=m.cu,ms:=m.ms,q:=0 }).p (.v x) s.g hok.hk
 have cv:=xE (zB (s.lay { R1 with ph:=2,cu:=m.cu,ms:=m.ms,q:=0 }).p) R1.id
 have cP:=plan_con hok { R1 with ph:=2,cu:=m.cu,ms:=m.ms,q:=0 } hm (by omega) (by omega)
 have h0' : (m.ms.length = 0) = False:=eq_false h0
 have hp1' : (s.p.ph = 1) = False:=eq_false hp1
 rw [hR] at cR
 have q3' : (s.p.ph = 3) = False:=eq_false q3
 have q2' : (s.p.ph = 2) = False:=eq_false q2
 clear cv cV
 obtain ⟨p,g,o⟩:=s
 simp only [sqW,lW,Sq.lay] at *
 generalize vD _ _ = S3 at *
 generalize xK p.ls { R1 with ph:=2,cu:=m.cu,ms:=m.ms,q:=0 } = L2 at *
 generalize hO : zC o = O at *
 generalize hO3 : zC S3.o = O3 at *
 try generalize zB { p with ls:=L2 } = V at *
 unfold Lr.cells at cR cY cP
 dsimp only at cR cY cP
 clear hok cP
 refine zF Tryz.tab Tryz.mixed Tryz.func93 rfl rfl Tryz.ntmps93 (by simp) (by simp) fun Q hr hn hp=>?_
 repeat' first|(refine zS [1024,1025] (cR) (by decide) (by decide) (by simp [zP,inN,pos,zO,zV]) (by simp [zM,zI,zV,inN,pos]) ⟨[],by simp,by simp,?_⟩;simp [lv,kpI,kpR,pos,ren,zV])|(refine zS [1024,1025] (cY) (by decide) (by decide) (by simp [zP,inN,pos,zO,zV,ouN]) (by simp [zM,zI,zV,inN,pos]) ⟨[],by simp,by simp,?_⟩;simp [lv,kpI,kpR,pos,ren,zV])|(refine hK _ ?_;clear hK)|(refine hK _ _ ?_;clear hK)|(refine zU fun K hK=>?_)|((first | refine zT ?_ | refine zE rfl (by kernel_rfl) ?_ | refine yI ?_);simp only [uP,uO,strip])|((first | refine wIs fun K hK=>?_ | refine wOs fun K hK=>?_ | refine wQs fun K hK=>?_ | refine zX ?_);simp [hp1',h0',q3',q2'])|(refine wIn ?_;refine And.intro (by kernel_rfl) ?_;try simp only [zZ])|(first | refine zW ?_)|(refine zR ?_;try simp)|((first | refine wOn ?_ | refine wQn ?_);try simp only [zZ])
 all_goals first | apply hn
 all_goals refine ⟨[],by simp,by simp,?_⟩
 all_goals simp [Tryz.f93,yL,yM,zO,gaN,ouN,zV]
theorem ackEp2_con {n b : Nat} {s : Sq} (h : OkS n b s) (hn' : n <= 200) (hb' : b <= 2000) (m : Mg) (hm : m.ms.length <= 1000000) (R1 : Lr) (hR : xN s.p.ls m.fr 1 = (R1, true)) (h0 : ¬ m.ms.length = 0) (hp1 : ¬ s.p.ph = 1) : Con Tryz.prog 93 [.ptr 1024 0, .p (.agg m.cells)] (sqW s) (.ret (.tup []) [] (sqW (ackEpS s m))) := by
 have hE : ackEpS s m = if s.p.ph = 3 \/ (s.p.ph = 2 /\ R1.id ∈ zB (s.lay { R1 with ph := 2, cu := m.cu, ms := m.ms, q := 0 }).p) then vD (s.lay { R1 with ph := 2, cu := m.cu, ms := m.ms, q := 0 }) { R1 with ph := 2, cu := m.cu, ms := m.ms, q := 0 } else s.lay { R1 with ph := 2, cu := m.cu, ms := m.ms, q := 0 } := by
  unfold ackEpS ackX
  rw [hR]
  simp only [Bool.true_eq_false,false_or,if_neg h0,if_neg hp1]
 by_cases q3 : s.p.ph = 3
 ·rw [hE, if_pos (Or.inl q3)]
  exact ackEp2a_con h hn' hb' m hm R1 hR h0 hp1 q3
 by_cases q2 : s.p.ph = 2
 ·by_cases q4 : R1.id ∈ zB (s.lay { R1 with ph := 2, cu := m.cu, ms := m.ms, q := 0 }).p
  ·rw [hE, if_pos (Or.inr ⟨q2, q4⟩)]
   exact ackEp2b_con h hn' hb' m hm R1 hR h0 hp1 q3 q2 q4
  ·rw [hE, if_neg (fun h => h.elim q3 (fun h => q4 h.2))]
   exact ackEp2c_con h hn' hb' m hm R1 hR h0 hp1 q3 q2 q4
 ·rw [hE, if_neg (fun h => h.elim q3 (fun h => q2 h.1))]
  exact ackEp2d_con h hn' hb' m hm R1 hR h0 hp1 q3 q2
theorem ackEp_con {n b : Nat} {s : Sq} (h : OkS n b s) (hn' : n <= 200) (hb' : b <= 2000) (m : Mg) (hm : m.ms.length <= 1000000) : Con Tryz.prog 93 [.ptr 1024 0, .p (.agg m.cells)] (sqW s) (.ret (.tup []) [] (sqW (ackEpS s m))) := by
 by_cases hf : (xN s.p.ls m.fr 1).2 = false \/ m.ms.length = 0
 ·have hE : ackEpS s m = s := by unfold ackEpS; rw [if_pos hf]
  rw [hE]
  exact ackEp0_con h hn' hb' m hm hf
 have h0 : ¬ m.ms.length = 0:=fun h'=>hf (.inr h')
 obtain ⟨R1, hR⟩ : ∃ R1, xN s.p.ls m.fr 1 = (R1, true) := by
  cases hq : xN s.p.ls m.fr 1 with
  | mk a c =>
   cases c
   ·exact absurd (.inl (by rw [hq])) hf
   ·exact ⟨a,rfl⟩
 by_cases hp1 : s.p.ph = 1
 case neg=>exact ackEp2_con h hn' hb' m hm R1 hR h0 hp1
 have hE : ∀ P1, (ackD s m) = ⟨P1, s.g, s.o⟩ -> ackEpS s m = ackGo P1 s.g s.o m R1 := fun P1 hP => by
  unfold ackEpS ackX ackGo
  rw [hR,hP]
  simp only [Bool.true_eq_false,false_or,if_neg h0,if_pos hp1]
 by_cases q1 : 0 < xM m.z.e m.z.n s.p.d.e s.p.d.n
 ·by_cases q2 : m.z ∈ mks s.p.h
  ·rw [hE { s.p with d := m.z } (by unfold ackD; rw [if_pos ⟨q1, q2⟩])]
   exact ackEpC_con s.p s.g s.o h hn' hb' m hm R1 hR h0 hp1 q1 q2
  ·rw [hE s.p (by unfold ackD; rw [if_neg (fun h => q2 h.2)])]
   exact ackEpB_con s.p s.g s.o h hn' hb' m hm R1 hR h0 hp1 q1 q2
 ·rw [hE s.p (by unfold ackD; rw [if_neg (fun h => q1 h.1)])]
  exact ackEpA_con s.p s.g s.o h hn' hb' m hm R1 hR h0 hp1 q1
end Go.Proofs.YtffflakmofbilaaGreat
