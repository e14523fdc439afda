/- Texts that the proof needs: LD10c LD10d LDC LDR LD11a LD12a LD12s. -/
import Derived.Test.YtffflakmofbilaaGreatP35LeadOrder
import Derived.Test.YtffflakmofbilaaGreatP34LeadOrder
import Derived.Test.YtffflakmofbilaaGreatP30LeadOrder
import Derived.Test.YtffflakmofbilaaGreatP33LeadOrder
import Derived.Test.YtffflakmofbilaaGreatP31LeadOrder
namespace Go.Proofs.YtffflakmofbilaaGreat
set_option linter.unusedSimpArgs false
set_option linter.unusedVariables false
set_option maxRecDepth 8000
open Go Go.Av
attribute [local irreducible] Go.Av.yA Go.Av.zR Go.Av.xZ Go.Av.zJ Go.Av.xV Go.Av.zG Go.Av.Con
theorem lrn_ms {l : List Lr} {id ph : Int} {R1 : Lr} (hR : yB l id ph = (R1, true)) : R1 ∈ l /\ R1.id = id /\ R1.ph = ph := by
 unfold yB at hR
 cases hf : l.find? (isLr id ph) with
 | none=>rw [hf] at hR;simp at hR
 | some x =>
  rw [hf] at hR
  simp only [Prod.mk.injEq,and_true] at hR
  subst hR
  have:=List.find?_some hf
  unfold isLr at this
  rw [decide_eq_true_iff] at this
  exact ⟨List.mem_of_find?_eq_some hf,this.1,this.2⟩
theorem lrn_no {l : List Lr} {id ph : Int} (hR : (yB l id ph).2 = false) : yB l id ph = (lrZ, false) := by
 unfold yB at *
 cases hf : l.find? (isLr id ph) with
 | none=>rfl
 | some x=>rw [hf] at hR;simp at hR
set_option maxHeartbeats 8000000 in
theorem sync_con {n b : Nat} {s : Sq} (h : OkS n b s) (hn' : n <= 39) (hb' : b <= 2000) (m : Mg) : Con Tryz.prog 94 [.ptr 1024 0, .p (.agg m.cells)] (sqW s) (.ret (.tup []) [] (sqW (syncS s m))) := by
 have cR:=xL s.p s.g s.o m.fr 3 (by have:=h.ll;omega)
 cases hq : (yB s.p.ls m.fr 3).2 with
 | false =>
  have hE : syncS s m = s:=by unfold syncS;rw [if_pos hq]
  rw [hE]
  rw [lrn_no hq] at cR
  obtain ⟨p,g,o⟩:=s
  simp only [sqW,lW] at *
  generalize zD o = O at *
  clear h hE hq
  unfold Lr.cells lrZ at cR
  dsimp only at cR
  simp only [show zxs [] = [] from rfl] at cR
  refine zE Tryz.tab Tryz.mixed Tryz.func94 rfl rfl Tryz.ntmps94 (by simp) (by simp) fun Q hr hn hp=>?_
  repeat' first|(refine zV [1024,1025] (cR) (by decide) (by decide) (by simp [zQ,inN,pos,zO,zX]) (by simp [zN,zH,zX,inN,pos]) ⟨[],by simp,by simp,?_⟩;simp [lv,kpI,kpR,pos,ren,zX])|(refine hK _ ?_;clear hK)|(refine zT fun K hK=>?_)|(refine zS ?_;simp only [tZ,tY,strip])|((first | refine wOs fun K hK=>?_ | refine zW ?_);simp)|(refine zL ?_;try simp)|(refine wOn ?_;try simp only [zZ])
  all_goals first | apply hr
  all_goals refine ⟨[],by simp,by simp,?_⟩
  all_goals simp [Tryz.f94,yL,yM,zO,gaN,ouN,zX]
 | true =>
 obtain ⟨R1,hR⟩ : ∃ R1,yB s.p.ls m.fr 3 = (R1,true):=⟨(yB s.p.ls m.fr 3).1,by rw [<- hq]⟩
 have hx : R1.ms.length <= 1000000:=h.lm _ (lrn_ms hR).1
 have hE : syncS s m = if s.p.ph = 2 then estS (s.lay { R1 with ph := 4, ae := m.z.e, an := m.z.n, q := 0 }) else if s.p.ph = 3 then comS ((s.lay { R1 with ph := 4, ae := m.z.e, an := m.z.n, q := 0 }).send R1.id { mgK 7 with z := s.p.d }) else s.lay { R1 with ph := 4, ae := m.z.e, an := m.z.n, q := 0 } := by
  unfold syncS syncX;rw [hR];rfl
 rw [hR] at cR
 rw [hE]
 have hok:=h.lay (x:={ R1 with ph:=4,ae:=m.z.e,an:=m.z.n,q:=0 }) hx
 have cY:=uT s.p s.g s.o { R1 with ph:=4,ae:=m.z.e,an:=m.z.n,q:=0 } (by have:=h.ll;omega) h.lm hx
 have c2:=est_con hok (by omega) (by omega)
 have c3:=com_con (hok.send R1.id { mgK 7 with z:=s.p.d }) (by omega) (by omega)
 have c4:=send_con (s.lay { R1 with ph:=4,ae:=m.z.e,an:=m.z.n,q:=0 }).p s.g s.o R1.id { mgK 7 with z:=s.p.d } (by have:=h.lo;omega)
 have hT1 : ((s.lay { R1 with ph:=4,ae:=m.z.e,an:=m.z.n,q:=0 }).send R1.id { mgK 7 with z:=s.p.d }).p = (s.lay { R1 with ph:=4,ae:=m.z.e,an:=m.z.n,q:=0 }).p:=rfl
 have hT2 : ((s.lay { R1 with ph:=4,ae:=m.z.e,an:=m.z.n,q:=0 }).send R1.id { mgK 7 with z:=s.p.d }).g = s.g:=rfl
 have hT3 : zD ((s.lay { R1 with ph:=4,ae:=m.z.e,an:=m.z.n,q:=0 }).send R1.id { mgK 7 with z:=s.p.d }).o = zD (s.o ++ [yH (s.lay { R1 with ph:=4,ae:=m.z.e,an:=m.z.n,q:=0 }).p R1.id { mgK 7 with z:=s.p.d }]):=rfl
 have hU1 : (s.lay { R1 with ph:=4,ae:=m.z.e,an:=m.z.n,q:=0 }).p = { s.p with ls:=xK s.p.ls { R1 with ph:=4,ae:=m.z.e,an:=m.z.n,q:=0 } }:=rfl
 have hU2 : (s.lay { R1 with ph:=4,ae:=m.z.e,an:=m.z.n,q:=0 }).g = s.g:=rfl
 have hU3 : (s.lay { R1 with ph:=4,ae:=m.z.e,an:=m.z.n,q:=0 }).o = s.o:=rfl
 simp only [sqW] at c2 c3 ⊢
 unfold lW at *
 rw [hT1,hT2,hT3] at c3
 rw [hU2,hU3] at c2
 rw [<- hU1] at cY
 generalize zD (s.o ++ [yH (s.lay { R1 with ph:=4,ae:=m.z.e,an:=m.z.n,q:=0 }).p R1.id { mgK 7 with z:=s.p.d }]) = O2 at *
 generalize comS ((s.lay { R1 with ph:=4,ae:=m.z.e,an:=m.z.n,q:=0 }).send R1.id { mgK 7 with z:=s.p.d }) = S3 at *
 generalize estS (s.lay { R1 with ph:=4,ae:=m.z.e,an:=m.z.n,q:=0 }) = S2 at *
 have hP : (s.lay { R1 with ph:=4,ae:=m.z.e,an:=m.z.n,q:=0 }).p.ph = s.p.ph:=rfl
 have hD : (s.lay { R1 with ph:=4,ae:=m.z.e,an:=m.z.n,q:=0 }).p.d = s.p.d:=rfl
 have hPe : (s.lay { R1 with ph:=4,ae:=m.z.e,an:=m.z.n,q:=0 }).p = { s.p with ls:=xK s.p.ls { R1 with ph:=4,ae:=m.z.e,an:=m.z.n,q:=0 } }:=rfl
 generalize hG : s.lay { R1 with ph:=4,ae:=m.z.e,an:=m.z.n,q:=0 } = S1 at *
 obtain ⟨P1,g1,o1⟩:=S1
 dsimp only at hU2 hU3 hP hD hPe c2 c3 c4 cY ⊢
 subst hU2 hU3
 obtain ⟨p,g,o⟩:=s
 dsimp only at *
 generalize hO : zD o = O at *
 generalize xK p.ls { R1 with ph:=4,ae:=m.z.e,an:=m.z.n,q:=0 } = L2 at *
 subst hPe
 unfold mgK mgZ Mg.cells at c4
 dsimp only at c4
 simp only [show zns [] = [] from rfl,show ints [] = [] from rfl,show mbs [] = [] from rfl,show yW [] = [] from rfl,show zxs [] = [] from rfl,show pts [] = [] from rfl] at c4
 unfold Lr.cells at cR cY
 dsimp only at cR cY
 clear h hE hok hx hR hq hT1 hT2 hT3 hU1 hP hD hG
 by_cases q2 : p.ph = 2
 ·rw [if_pos q2]
  replace q2 : (p.ph = 2) = True:=eq_true q2
  generalize zD S2.o = OO at *
  clear c3 c4
  refine zE Tryz.tab Tryz.mixed Tryz.func94 rfl rfl Tryz.ntmps94 (by simp) (by simp) fun Q hr hn hp=>?_
  repeat' first|(refine zV [1024,1025] (cR) (by decide) (by decide) (by simp [zQ,inN,pos,zO,zX]) (by simp [zN,zH,zX,inN,pos]) ⟨[],by simp,by simp,?_⟩;simp [lv,kpI,kpR,pos,ren,zX])|(refine zV [1024,1025] (cY) (by decide) (by decide) (by simp [zQ,inN,pos,zO,zX,ouN]) (by simp [zN,zH,zX,inN,pos]) ⟨[],by simp,by simp,?_⟩;simp [lv,kpI,kpR,pos,ren,zX])|(refine zV [1024,1025] (c2) (by decide) (by decide) (by simp [zQ,inN,pos,zO,zX,ouN]) (by simp [zN,zH,zX,inN,pos]) ⟨[],by simp,by simp,?_⟩;simp [lv,kpI,kpR,pos,ren,zX])|(refine hK _ ?_;clear hK)|(refine hK _ _ ?_;clear hK)|(refine zT fun K hK=>?_)|((first | refine zS ?_ | refine yI ?_);simp only [tZ,tY,strip])|((first | refine wIs fun K hK=>?_ | refine wOs fun K hK=>?_ | refine zW ?_);simp [q2])|(refine wIn ?_;refine And.intro (by kernel_rfl) ?_;try simp only [zZ])|(first | refine zU ?_)|(refine zP ?_;try simp)|(refine wOn ?_;try simp only [zZ])
  all_goals first | apply hn
  all_goals refine ⟨[],by simp,by simp,?_⟩
  all_goals simp [Tryz.f94,yL,yM,zO,gaN,ouN,zX]
 by_cases q3 : p.ph = 3
 ·rw [if_neg q2, if_pos q3]
  replace q2 : (p.ph = 2) = False:=eq_false q2
  replace q3 : (p.ph = 3) = True:=eq_true q3
  generalize zD S3.o = OO at *
  clear c2
  refine zE Tryz.tab Tryz.mixed Tryz.func94 rfl rfl Tryz.ntmps94 (by simp) (by simp) fun Q hr hn hp=>?_
  repeat' first|(refine zV [1024,1025] (cR) (by decide) (by decide) (by simp [zQ,inN,pos,zO,zX]) (by simp [zN,zH,zX,inN,pos]) ⟨[],by simp,by simp,?_⟩;simp [lv,kpI,kpR,pos,ren,zX])|(refine zV [1024,1025] (cY) (by decide) (by decide) (by simp [zQ,inN,pos,zO,zX,ouN]) (by simp [zN,zH,zX,inN,pos]) ⟨[],by simp,by simp,?_⟩;simp [lv,kpI,kpR,pos,ren,zX])|(refine zV [1024,1025] (c4) (by decide) (by decide) (by simp [zQ,inN,pos,zO,zX,ouN]) (by simp [zN,zH,zX,inN,pos]) ⟨[],by simp,by simp,?_⟩;simp [lv,kpI,kpR,pos,ren,zX])|(refine zV [1024,1025] (c3) (by decide) (by decide) (by simp [zQ,inN,pos,zO,zX,ouN]) (by simp [zN,zH,zX,inN,pos]) ⟨[],by simp,by simp,?_⟩;simp [lv,kpI,kpR,pos,ren,zX])|(refine wDrwT (id:=9) 9 (by kernel_rfl) ?_;simp only [tZ,tY,strip,List.take_succ_cons,List.take_zero,List.drop_succ_cons,List.drop_zero])|(refine hK _ ?_;clear hK)|(refine hK _ _ ?_;clear hK)|(refine zT fun K hK=>?_)|((first | refine zS ?_ | refine yI ?_);simp only [tZ,tY,strip])|((first | refine wIs fun K hK=>?_ | refine wOs fun K hK=>?_ | refine wQs fun K hK=>?_ | refine zW ?_);simp [q2,q3])|(refine wIn ?_;refine And.intro (by kernel_rfl) ?_;try simp only [zZ])|(first | refine zU ?_)|(refine zP ?_;try simp)|((first | refine wOn ?_ | refine wQn ?_);try simp only [zZ])
  all_goals first | apply hn
  all_goals refine ⟨[],by simp,by simp,?_⟩
  all_goals simp [Tryz.f94,yL,yM,zO,gaN,ouN,zX]
 ·rw [if_neg q2, if_neg q3]
  replace q2 : (p.ph = 2) = False:=eq_false q2
  replace q3 : (p.ph = 3) = False:=eq_false q3
  clear c2 c3 c4
  refine zE Tryz.tab Tryz.mixed Tryz.func94 rfl rfl Tryz.ntmps94 (by simp) (by simp) fun Q hr hn hp=>?_
  repeat' first|(refine zV [1024,1025] (cR) (by decide) (by decide) (by simp [zQ,inN,pos,zO,zX]) (by simp [zN,zH,zX,inN,pos]) ⟨[],by simp,by simp,?_⟩;simp [lv,kpI,kpR,pos,ren,zX])|(refine zV [1024,1025] (cY) (by decide) (by decide) (by simp [zQ,inN,pos,zO,zX,ouN]) (by simp [zN,zH,zX,inN,pos]) ⟨[],by simp,by simp,?_⟩;simp [lv,kpI,kpR,pos,ren,zX])|(refine hK _ ?_;clear hK)|(refine hK _ _ ?_;clear hK)|(refine zT fun K hK=>?_)|((first | refine zS ?_ | refine yI ?_);simp only [tZ,tY,strip])|((first | refine wIs fun K hK=>?_ | refine wOs fun K hK=>?_ | refine zW ?_);simp [q2,q3])|(refine wIn ?_;refine And.intro (by kernel_rfl) ?_;try simp only [zZ])|(first | refine zU ?_)|(refine zP ?_;try simp)|(refine wOn ?_;try simp only [zZ])
  all_goals first | apply hn
  all_goals refine ⟨[],by simp,by simp,?_⟩
  all_goals simp [Tryz.f94,yL,yM,zO,gaN,ouN,zX,hO]
set_option maxHeartbeats 8000000 in
theorem ackd_con {n b : Nat} {s : Sq} (h : OkS n b s) (hn' : n <= 39) (hb' : b <= 2000) (m : Mg) : Con Tryz.prog 95 [.ptr 1024 0, .p (.agg m.cells)] (sqW s) (.ret (.tup []) [] (sqW (ackdS s m))) := by
 have cR:=xL s.p s.g s.o m.fr 4 (by have:=h.ll;omega)
 cases hq : (yB s.p.ls m.fr 4).2 with
 | false =>
  have hE : ackdS s m = s:=by unfold ackdS;rw [if_pos (.inl hq)]
  rw [hE]
  rw [lrn_no hq] at cR
  obtain ⟨p,g,o⟩:=s
  simp only [sqW,lW] at *
  generalize zD o = O at *
  clear h hE hq
  unfold Lr.cells lrZ at cR
  dsimp only at cR
  simp only [show zxs [] = [] from rfl] at cR
  refine zE Tryz.tab Tryz.mixed Tryz.func95 rfl rfl Tryz.ntmps95 (by simp) (by simp) fun Q hr hn hp=>?_
  repeat' first|(refine zV [1024,1025] (cR) (by decide) (by decide) (by simp [zQ,inN,pos,zO,zX]) (by simp [zN,zH,zX,inN,pos]) ⟨[],by simp,by simp,?_⟩;simp [lv,kpI,kpR,pos,ren,zX])|(refine hK _ ?_;clear hK)|(refine zT fun K hK=>?_)|(refine zS ?_;simp only [tZ,tY,strip])|((first | refine wOs fun K hK=>?_ | refine zW ?_);simp)|(refine zL ?_;try simp)|(refine wOn ?_;try simp only [zZ])
  all_goals first | apply hr
  all_goals refine ⟨[],by simp,by simp,?_⟩
  all_goals simp [Tryz.f95,yL,yM,zO,gaN,ouN,zX]
 | true =>
 obtain ⟨R1,hR⟩ : ∃ R1,yB s.p.ls m.fr 4 = (R1,true):=⟨(yB s.p.ls m.fr 4).1,by rw [<- hq]⟩
 have hx : R1.ms.length <= 1000000:=h.lm _ (lrn_ms hR).1
 have hE : ackdS s m = if xN m.z.e m.z.n R1.ae R1.an <= 0 then s else if s.p.ph = 3 then comS (s.lay { R1 with ae := m.z.e, an := m.z.n, q := 0 }) else s.lay { R1 with ae := m.z.e, an := m.z.n, q := 0 } := by
  unfold ackdS ackdX;rw [hR];simp only [Bool.true_eq_false,false_or]
 rw [hR] at cR
 rw [hE]
 have cC:=uD m.z.e m.z.n R1.ae R1.an
 generalize xN m.z.e m.z.n R1.ae R1.an = zz at *
 by_cases q1 : zz <= 0
 ·rw [if_pos q1]
  obtain ⟨p,g,o⟩:=s
  simp only [sqW,lW] at *
  generalize zD o = O at *
  clear h hE hq hR
  unfold Lr.cells at cR
  refine zE Tryz.tab Tryz.mixed Tryz.func95 rfl rfl Tryz.ntmps95 (by simp) (by simp) fun Q hr hn hp=>?_
  repeat' first|(refine zV [1024,1025] (cR) (by decide) (by decide) (by simp [zQ,inN,pos,zO,zX]) (by simp [zN,zH,zX,inN,pos]) ⟨[],by simp,by simp,?_⟩;simp [lv,kpI,kpR,pos,ren,zX])|(refine zR.pure (cC) rfl ?_)|(refine hK _ ?_;clear hK)|(refine zT fun K hK=>?_)|(refine zS ?_;simp only [tZ,tY,strip])|((first | refine wOs fun K hK=>?_ | refine zY ?_ | refine zW ?_);simp [q1])|(refine zL ?_;try simp)|(refine wOn ?_;try simp only [zZ])
  all_goals first | apply hr
  all_goals refine ⟨[],by simp,by simp,?_⟩
  all_goals simp [Tryz.f95,yL,yM,zO,gaN,ouN,zX]
 rw [if_neg q1]
 have hok:=h.lay (x:={ R1 with ae:=m.z.e,an:=m.z.n,q:=0 }) hx
 have cY:=uT s.p s.g s.o { R1 with ae:=m.z.e,an:=m.z.n,q:=0 } (by have:=h.ll;omega) h.lm hx
 have c3:=com_con hok (by omega) (by omega)
 have hU1 : (s.lay { R1 with ae:=m.z.e,an:=m.z.n,q:=0 }).p = { s.p with ls:=xK s.p.ls { R1 with ae:=m.z.e,an:=m.z.n,q:=0 } }:=rfl
 have hU2 : (s.lay { R1 with ae:=m.z.e,an:=m.z.n,q:=0 }).g = s.g:=rfl
 have hU3 : (s.lay { R1 with ae:=m.z.e,an:=m.z.n,q:=0 }).o = s.o:=rfl
 simp only [sqW] at c3 ⊢
 unfold lW at *
 rw [hU2,hU3] at c3
 rw [<- hU1] at cY
 generalize comS (s.lay { R1 with ae:=m.z.e,an:=m.z.n,q:=0 }) = S3 at *
 have hPe : (s.lay { R1 with ae:=m.z.e,an:=m.z.n,q:=0 }).p = { s.p with ls:=xK s.p.ls { R1 with ae:=m.z.e,an:=m.z.n,q:=0 } }:=rfl
 generalize hG : s.lay { R1 with ae:=m.z.e,an:=m.z.n,q:=0 } = S1 at *
 obtain ⟨P1,g1,o1⟩:=S1
 dsimp only at hU2 hU3 hPe c3 cY ⊢
 subst hU2 hU3
 obtain ⟨p,g,o⟩:=s
 dsimp only at *
 generalize hO : zD o = O at *
 generalize xK p.ls { R1 with ae:=m.z.e,an:=m.z.n,q:=0 } = L2 at *
 subst hPe
 unfold Lr.cells at cR cY
 dsimp only at cR cY
 clear h hE hok hx hR hq hU1 hG
 by_cases q3 : p.ph = 3
 ·rw [if_pos q3]
  replace q3 : (p.ph = 3) = True:=eq_true q3
  generalize zD S3.o = OO at *
  refine zE Tryz.tab Tryz.mixed Tryz.func95 rfl rfl Tryz.ntmps95 (by simp) (by simp) fun Q hr hn hp=>?_
  repeat' first|(refine zV [1024,1025] (cR) (by decide) (by decide) (by simp [zQ,inN,pos,zO,zX]) (by simp [zN,zH,zX,inN,pos]) ⟨[],by simp,by simp,?_⟩;simp [lv,kpI,kpR,pos,ren,zX])|(refine zV [1024,1025] (cY) (by decide) (by decide) (by simp [zQ,inN,pos,zO,zX,ouN]) (by simp [zN,zH,zX,inN,pos]) ⟨[],by simp,by simp,?_⟩;simp [lv,kpI,kpR,pos,ren,zX])|(refine zV [1024,1025] (c3) (by decide) (by decide) (by simp [zQ,inN,pos,zO,zX,ouN]) (by simp [zN,zH,zX,inN,pos]) ⟨[],by simp,by simp,?_⟩;simp [lv,kpI,kpR,pos,ren,zX])|(refine zR.pure (cC) rfl ?_)|(refine hK _ ?_;clear hK)|(refine zT fun K hK=>?_)|(refine zS ?_;simp only [tZ,tY,strip])|((first | refine wOs fun K hK=>?_ | refine zY ?_ | refine zW ?_);simp [q1,q3])|(refine zP ?_;try simp)|(refine wOn ?_;try simp only [zZ])
  all_goals first | apply hn
  all_goals refine ⟨[],by simp,by simp,?_⟩
  all_goals simp [Tryz.f95,yL,yM,zO,gaN,ouN,zX]
 ·rw [if_neg q3]
  replace q3 : (p.ph = 3) = False:=eq_false q3
  clear c3
  refine zE Tryz.tab Tryz.mixed Tryz.func95 rfl rfl Tryz.ntmps95 (by simp) (by simp) fun Q hr hn hp=>?_
  repeat' first|(refine zV [1024,1025] (cR) (by decide) (by decide) (by simp [zQ,inN,pos,zO,zX]) (by simp [zN,zH,zX,inN,pos]) ⟨[],by simp,by simp,?_⟩;simp [lv,kpI,kpR,pos,ren,zX])|(refine zV [1024,1025] (cY) (by decide) (by decide) (by simp [zQ,inN,pos,zO,zX,ouN]) (by simp [zN,zH,zX,inN,pos]) ⟨[],by simp,by simp,?_⟩;simp [lv,kpI,kpR,pos,ren,zX])|(refine zR.pure (cC) rfl ?_)|(refine hK _ ?_;clear hK)|(refine zT fun K hK=>?_)|(refine zS ?_;simp only [tZ,tY,strip])|((first | refine wOs fun K hK=>?_ | refine zY ?_ | refine zW ?_);simp [q1,q3])|(refine zP ?_;try simp)|(refine wOn ?_;try simp only [zZ])
  all_goals first | apply hn
  all_goals refine ⟨[],by simp,by simp,?_⟩
  all_goals simp [Tryz.f95,yL,yM,zO,gaN,ouN,zX,hO]
def yE (p : Lq) (Y X : V) (g : Bool) : List V := [.p (I p.id), .p (I p.ac), .p (I p.cu), .p (.sl 5 (zns p.h.im.ns)), .p (.sl 1 (ints p.h.im.ss)), .p (I p.h.im.nx), .p (I p.h.im.c.ep), .p (I p.h.im.c.n), .p (I p.h.im.c.kind), .p (.sl 4 (mbs p.h.im.c.ms)), .p (I p.h.im.ae), .p (I p.h.im.an), .p (.sl 8 (yW p.h.lg)), .p (I p.d.e), .p (I p.d.n), .p (I p.mo), .p (I 0), .p (I 0), .p (I 0), .p (I 0), .p (I 0), .p (I 0), .p (I 0), .p (I 0), .p (I 0), .p (I 0), .p (I 0), .p (I 0), .p (I 0), .p (I 0), .p (I 0), .p (I 0), .p (.sl 7 []), .p (I p.ld), .p (I p.ph), .p (I p.wt), .p (I p.ep), Y, X, .p (B g)]
def lqFcR (p : Lq) (Z Y : Fc) : List Fc := [.p (I p.id), .p (I p.ac), .p (I p.cu), .p (.sl 5 (zns p.h.im.ns)), .p (.sl 1 (ints p.h.im.ss)), .p (I p.h.im.nx), .p (I p.h.im.c.ep), .p (I p.h.im.c.n), .p (I p.h.im.c.kind), .p (.sl 4 (mbs p.h.im.c.ms)), .p (I p.h.im.ae), .p (I p.h.im.an), Z, .p (I p.d.e), .p (I p.d.n), .p (I p.mo), .p (I 0), .p (I 0), .p (I 0), .p (I 0), .p (I 0), .p (I 0), .p (I 0), .p (I 0), .p (I 0), .p (I 0), .p (I 0), .p (I 0), .p (I 0), .p (I 0), .p (I 0), .p (I 0), .p (.sl 7 []), .p (I p.ld), .p (I p.ph), .p (I p.wt), .p (I p.ep), Y]
@[simp] theorem lBxR_len (p : Lq) (Y X : V) (g : Bool) : (yE p Y X g).length = 40 := rfl
@[simp high] theorem lBxR_Y (p : Lq) (Y X : V) (g : Bool) : (yE p Y X g)[37]? = some Y := rfl
@[simp high] theorem lBxR_X (p : Lq) (Y X : V) (g : Bool) : (yE p Y X g)[38]? = some X := rfl
@[simp high] theorem lBxR_g (p : Lq) (Y X : V) (g : Bool) : (yE p Y X g)[39]? = some (.p (B g)) := rfl
@[simp high] theorem lBxR_h (p : Lq) (Y X : V) (g : Bool) : uL (((yE p Y X g).drop 3).take 10) = some p.h.cells := rfl
@[simp high] theorem lBxR_d (p : Lq) (Y X : V) (g : Bool) : uL (((yE p Y X g).drop 13).take 2) = some [I p.d.e, I p.d.n] := rfl
@[simp high] theorem lBxR_ren (p : Lq) (Y X : V) (g : Bool) (r s : Nat -> Option Nat) : (yE p Y X g).map (zX r s) = yE p (zX r s Y) (zX r s X) g := rfl
@[simp high] theorem lBxR_scr (p : Lq) (Y X : V) (g : Bool) (b : Nat) : (yE p Y X g).map (yR b) = yE p (yR b Y) (yR b X) g := rfl
@[simp high] theorem lBxR_sub (p : Lq) (Y X : V) (g : Bool) (b : Nat) (q : PV) : (yE p Y X g).map (xM b q) = yE p (xM b q Y) (xM b q X) g := rfl
@[simp high] theorem lBxR_reX (p : Lq) (Y X : V) (g : Bool) (S : List Nat) (b : Nat) : (yE p Y X g).map (reX S b) = yE p (reX S b Y) (reX S b X) g := rfl
@[simp high] theorem lBxR_set (p : Lq) (Y Z X : V) (g : Bool) : (yE p Y X g).set 37 Z = yE p Z X g := rfl
@[simp high] theorem lBxR_setX (p : Lq) (Y Z X : V) (g : Bool) : (yE p Y X g).set 38 Z = yE p Y Z g := rfl
@[simp high] theorem lBxR_nil (p : Lq) (X : V) (g : Bool) : List.take 37 (lBx p X g) ++ V.nil 8 :: List.drop 38 (lBx p X g) = yE p (.nil 8) X g := rfl
@[simp high] theorem lBxR_toFs (p : Lq) (b : Nat) (X : V) (g : Bool) : toFs (List.take 38 (yE p (.row b) X g)) = some (lqFcR p (.p (.sl 8 (yW p.h.lg))) (.row b)) := rfl
@[simp high] theorem lBxR_toPs (p : Lq) (b : Nat) (X : V) (g : Bool) : uL (List.take 38 (yE p (.row b) X g)) = none := rfl
@[simp high] theorem lBxR_back (p : Lq) (l : List Lr) (X : V) (g : Bool) : yE p (.p (.sl 8 (lrs l))) X g = lBx { p with ls := l } X g := rfl
@[simp high] theorem lBxR_back0 (p : Lq) (X : V) (g : Bool) : yE p (.p (.sl 8 [])) X g = lBx { p with ls := [] } X g := rfl
@[simp high] theorem lBxR_id (p : Lq) (Y X : V) (g : Bool) : (yE p Y X g)[0]? = some (.p (I p.id)) := rfl
@[simp high] theorem lBxR_t_id (p : Lq) (Y X : V) (g : Bool) (n : Int) : List.take 0 (yE p Y X g) ++ V.p (I n) :: List.drop 1 (yE p Y X g) = yE { p with id := n } Y X g := rfl
@[simp high] theorem lBxR_ac (p : Lq) (Y X : V) (g : Bool) : (yE p Y X g)[1]? = some (.p (I p.ac)) := rfl
@[simp high] theorem lBxR_t_ac (p : Lq) (Y X : V) (g : Bool) (n : Int) : List.take 1 (yE p Y X g) ++ V.p (I n) :: List.drop 2 (yE p Y X g) = yE { p with ac := n } Y X g := rfl
@[simp high] theorem lBxR_cu (p : Lq) (Y X : V) (g : Bool) : (yE p Y X g)[2]? = some (.p (I p.cu)) := rfl
@[simp high] theorem lBxR_t_cu (p : Lq) (Y X : V) (g : Bool) (n : Int) : List.take 2 (yE p Y X g) ++ V.p (I n) :: List.drop 3 (yE p Y X g) = yE { p with cu := n } Y X g := rfl
@[simp high] theorem lBxR_mo (p : Lq) (Y X : V) (g : Bool) : (yE p Y X g)[15]? = some (.p (I p.mo)) := rfl
@[simp high] theorem lBxR_t_mo (p : Lq) (Y X : V) (g : Bool) (n : Int) : List.take 15 (yE p Y X g) ++ V.p (I n) :: List.drop 16 (yE p Y X g) = yE { p with mo := n } Y X g := rfl
@[simp high] theorem lBxR_ld (p : Lq) (Y X : V) (g : Bool) : (yE p Y X g)[33]? = some (.p (I p.ld)) := rfl
@[simp high] theorem lBxR_t_ld (p : Lq) (Y X : V) (g : Bool) (n : Int) : List.take 33 (yE p Y X g) ++ V.p (I n) :: List.drop 34 (yE p Y X g) = yE { p with ld := n } Y X g := rfl
@[simp high] theorem lBxR_ph (p : Lq) (Y X : V) (g : Bool) : (yE p Y X g)[34]? = some (.p (I p.ph)) := rfl
@[simp high] theorem lBxR_t_ph (p : Lq) (Y X : V) (g : Bool) (n : Int) : List.take 34 (yE p Y X g) ++ V.p (I n) :: List.drop 35 (yE p Y X g) = yE { p with ph := n } Y X g := rfl
@[simp high] theorem lBxR_wt (p : Lq) (Y X : V) (g : Bool) : (yE p Y X g)[35]? = some (.p (I p.wt)) := rfl
@[simp high] theorem lBxR_t_wt (p : Lq) (Y X : V) (g : Bool) (n : Int) : List.take 35 (yE p Y X g) ++ V.p (I n) :: List.drop 36 (yE p Y X g) = yE { p with wt := n } Y X g := rfl
@[simp high] theorem lBxR_ep (p : Lq) (Y X : V) (g : Bool) : (yE p Y X g)[36]? = some (.p (I p.ep)) := rfl
@[simp high] theorem lBxR_t_ep (p : Lq) (Y X : V) (g : Bool) (n : Int) : List.take 36 (yE p Y X g) ++ V.p (I n) :: List.drop 37 (yE p Y X g) = yE { p with ep := n } Y X g := rfl
@[simp high] theorem lBxR_t_g (p : Lq) (Y X : V) (g b : Bool) : List.take 39 (yE p Y X g) ++ V.p (B b) :: List.drop 40 (yE p Y X g) = yE p Y X b := rfl
def lqCd (p : Lq) (c c2 : Nat) (L O : List (List PV)) (g : Bool) : List PV := [I p.id, I p.ac, I p.cu, .sl 5 (zns p.h.im.ns), .sl 1 (ints p.h.im.ss), I p.h.im.nx, I p.h.im.c.ep, I p.h.im.c.n, I p.h.im.c.kind, .sl 4 (mbs p.h.im.c.ms), I p.h.im.ae, I p.h.im.an, .sl 8 (yW p.h.lg), I p.d.e, I p.d.n, I p.mo, I 0, I 0, I 0, I 0, I 0, I 0, I 0, I 0, I 0, I 0, I 0, I 0, I 0, I 0, I 0, I 0, .sl 7 [], I p.ld, I p.ph, I p.wt, I p.ep, .sl c2 L, .sl c O, B g]
@[simp high] theorem lendC_lBxR (st : St) (p : Lq) (b b2 : Nat) (g : Bool) : vT st (yE p (.row b2) (.row b) g) = match st.b b2, st.b b with | some (.row _ c2 l2), some (.row _ c l) => some (lqCd p c c2 l2 l g) | _, _ => none := by
 simp only [yE,vT,lqCd]
 cases st.b b2 with
 | none=>rfl
 | some blk2 => cases st.b b with
  | none=>cases blk2 <;> rfl
  | some blk=>cases blk <;> cases blk2 <;> rfl
set_option maxHeartbeats 4000000 in
theorem learnersR_con (l : List Lr) (x : Lr) (hl : l.length <= 100000) (hm : ∀ y ∈ l, y.ms.length <= 1000000) (hx : x.ms.length <= 1000000) :
 RCon 99 [.p (.sl 8 (lrs l)),.p (.agg x.cells)] 70 8 (lrs (xK l x)):=by
 have c1:=listLr_con l (by omega) hm
 have c2:=deleteL_con l x (by omega)
 have c3:=ownLr_con x hx
 have hbl:=butL_len l x.id
 have hcx : x.cells = [I x.id,I x.ph,I x.ac,I x.cu,.sl 2 (zxs x.ms),I x.ae,I x.an,I x.q]:=rfl
 rw [hcx] at c2 c3 ⊢
 refine wBodyR Tryz.tab Tryz.mixed Tryz.func99 rfl rfl Tryz.ntmps99 rfl (by simp) (by simp) fun Q hr hn=>?_
 repeat' first|(refine hK _ ?_;clear hK)|(refine zT fun K hK=>?_)|(refine zS ?_;simp only [tZ,tY,strip])|(refine wOs fun K hK=>?_;simp)|(first | refine zU ?_)|(refine wOn ?_;try simp only [zZ])
 refine wLoopG [.bx 3] (fun N st=>∃ k,k + N = l.length /\ (∀ j (hj : j < k) (hjl : j < l.length),l[j].id < x.id) /\ st.s 0 = .p (.sl 8 (lrs l)) /\ st.s 3 = .rptr x.cells 0 /\ st.s 5 = .p (I k)) l.length ⟨0,by simp [uY,gh1,plC,frzx,subx,subx0,hcx]⟩ fun K N st hL ⟨k,hk,hi,g0,g3,g5⟩=>?_
 rw [hcx] at g3
 by_cases hlt : k < l.length
 ·have hlt' : (k : Int) < l.length := by omega
  have hw:=yF k _ hlt (by omega)
  have he:=xQ hlt
  by_cases o : l[k].id < x.id
  ·repeat' first | (refine hK _ ?_; clear hK) | (refine zT fun K hK => ?_) | ((first | refine zS ?_ | refine yZ rfl (by kernel_rfl) ?_); simp only [tZ, tY, strip]) | ((first | refine wOs fun K hK => ?_ | refine wQs fun K hK => ?_ | refine zW ?_); simp [g0, g3, g5, hlt, hlt', hw, o]) | (first | refine zU ?_) | (refine zP ?_; try simp) | ((first | refine wOn ?_ | refine wQn ?_); try simp only [zZ])
   refine hL _ (N - 1) (by omega) ⟨k + 1,by omega,fun j hj hjl=>?_,?_⟩
   ·by_cases hjk : j = k
    ·subst hjk;exact o
    ·exact hi j (by omega) hjl
   ·simp [g0,g3,hcx]
  ·have ⟨hb, hfin⟩ := layL_at (l := l) (x := x) (k := k) (by omega) (fun j hj => hi j hj (by omega)) (fun h => o)
   have c4:=insert_con (lrs (wQ l x.id)) k [I x.id,I x.ph,I x.ac,I x.cu,.sl 2 (zxs x.ms),I x.ae,I x.an,I x.q] (by simpa using hb) (by simp;omega) rfl
   rw [hfin] at c4
   repeat' first|(refine zV [24] c2 (by decide) (by decide) (by simp [zQ,zO]) (by simp [zN,zH,zX,inN,pos,xY,wS];try rfl) ⟨[],by simp,by simp,?_⟩;simp [lv,ouN,kpI,kpR,pos,ren,zX])|(refine zV [24] c4 (by decide) (by decide) (by simp [zQ,zO]) (by simp [zN,zH,zX,inN,pos]) ⟨[],by simp,by simp,?_⟩;simp [lv,ouN,kpI,kpR,pos,ren,zX])|(refine hK _ ?_;clear hK)|(clear hK;refine hK _ ?_;clear hK)|(refine zT fun K hK=>?_)|((first | refine zS ?_ | refine yZ rfl (by kernel_rfl) ?_);simp only [tZ,tY,strip])|((first | refine wOs fun K hK=>?_ | refine wQs fun K hK=>?_ | refine zY ?_ | refine zW ?_);simp [g0,g3,g5,hlt,hlt',o])|((first | refine zL ?_ | refine zC ?_);try simp)|((first | refine wOn ?_ | refine wQn ?_);try simp only [zZ])|(refine zR.own (c1) ?_)|(refine zR.pure (c3) rfl ?_)
   refine hr _ 24 (by simp) (by simp) (by omega)
 ·have hlt' : ¬ (k : Int) < l.length := by omega
  have ⟨hb,hfin⟩:=layL_at (l:=l) (x:=x) (k:=k) (by omega) (fun j hj=>hi j hj (by omega)) (fun h=>absurd h hlt)
  have c4:=insert_con (lrs (wQ l x.id)) k [I x.id,I x.ph,I x.ac,I x.cu,.sl 2 (zxs x.ms),I x.ae,I x.an,I x.q] (by simpa using hb) (by simp;omega) rfl
  rw [hfin] at c4
  repeat' first|(refine zV [24] c2 (by decide) (by decide) (by simp [zQ,zO]) (by simp [zN,zH,zX,inN,pos,xY,wS];try rfl) ⟨[],by simp,by simp,?_⟩;simp [lv,ouN,kpI,kpR,pos,ren,zX])|(refine zV [24] c4 (by decide) (by decide) (by simp [zQ,zO]) (by simp [zN,zH,zX,inN,pos]) ⟨[],by simp,by simp,?_⟩;simp [lv,ouN,kpI,kpR,pos,ren,zX])|(refine hK _ ?_;clear hK)|(clear hK;refine hK _ ?_;clear hK)|(refine zT fun K hK=>?_)|((first | refine zS ?_ | refine yZ rfl (by kernel_rfl) ?_);simp only [tZ,tY,strip])|((first | refine wOs fun K hK=>?_ | refine wQs fun K hK=>?_ | refine zY ?_ | refine zW ?_);simp [g0,g3,g5,hlt'])|((first | refine zL ?_ | refine zC ?_);try simp)|((first | refine wOn ?_ | refine wQn ?_);try simp only [zZ])|(refine zR.own (c1) ?_)|(refine zR.pure (c3) rfl ?_)
  refine hr _ 24 (by simp) (by simp) (by omega)
set_option maxHeartbeats 2000000 in
theorem leadOwnR_con (p : Lq) (hk : OkH p.h) (hne : ¬ p.ls.length = 0) (hl : p.ls.length <= 10000) (hm : ∀ y ∈ p.ls, y.ms.length <= 1000000) : Con Tryz.prog 64 [.p (.agg p.cells)] [] (.ret (.ag (lqFcR p (.row 2048) (.row 2049))) [.row 58 8 (yW p.h.lg), .row 70 8 (lrs (yU p.ls))] []) := by
 have c1:=ownPeer_con { p with ls:=[] } hk rfl
 unfold Lq.cells lqFc lqFcR at *
 dsimp only at c1
 rw [show lrs [] = [] from rfl] at c1
 refine zE Tryz.tab Tryz.mixed Tryz.func64 rfl rfl Tryz.ntmps64 (by simp) (by simp) fun Q hr hn hp=>?_
 repeat' first|(refine zV [] (c1) (by decide) (by decide) (by simp [zQ]) (by simp [zN,zH,toP]) ⟨[500],by simp,by simp,?_⟩;simp [lv,ouN,kpI,kpR,pos,ren,zX,uJ,xA])|(refine hK _ ?_;clear hK)|(refine zT fun K hK=>?_)|(refine zS ?_;simp only [tZ,tY,strip])|(refine wOs fun K hK=>?_;simp [zX,zO])|(first | refine zU ?_)|(refine wOn ?_;try simp only [zZ])
 refine yJ (fun N st=>∃ k,k + N = p.ls.length /\ st.s 1 = .ptr 1 0 /\ (k = 0 /\ st.b 1 = some (.box 47 [.p (I p.id),.p (I p.ac),.p (I p.cu),.p (.sl 5 (zns p.h.im.ns)),.p (.sl 1 (ints p.h.im.ss)),.p (I p.h.im.nx),.p (I p.h.im.c.ep),.p (I p.h.im.c.n),.p (I p.h.im.c.kind),.p (.sl 4 (mbs p.h.im.c.ms)),.p (I p.h.im.ae),.p (I p.h.im.an),.row 500,.p (I p.d.e),.p (I p.d.n),.p (I p.mo),.p (I 0),.p (I 0),.p (I 0),.p (I 0),.p (I 0),.p (I 0),.p (I 0),.p (I 0),.p (I 0),.p (I 0),.p (I 0),.p (I 0),.p (I 0),.p (I 0),.p (I 0),.p (I 0),.p (.sl 7 []),.p (I p.ld),.p (I p.ph),.p (I p.wt),.p (I p.ep),.p (.sl 8 [])]) \/ 0 < k /\ st.b 1 = some (.box 47 [.p (I p.id),.p (I p.ac),.p (I p.cu),.p (.sl 5 (zns p.h.im.ns)),.p (.sl 1 (ints p.h.im.ss)),.p (I p.h.im.nx),.p (I p.h.im.c.ep),.p (I p.h.im.c.n),.p (I p.h.im.c.kind),.p (.sl 4 (mbs p.h.im.c.ms)),.p (I p.h.im.ae),.p (I p.h.im.an),.row 500,.p (I p.d.e),.p (I p.d.n),.p (I p.mo),.p (I 0),.p (I 0),.p (I 0),.p (I 0),.p (I 0),.p (I 0),.p (I 0),.p (I 0),.p (I 0),.p (I 0),.p (I 0),.p (I 0),.p (I 0),.p (I 0),.p (I 0),.p (I 0),.p (.sl 7 []),.p (I p.ld),.p (I p.ph),.p (I p.wt),.p (I p.ep),.row 20]) /\ st.b 20 = some (.row 70 8 (lrs (yU (p.ls.take k))))) /\ st.b 500 = some (.row 58 8 (yW p.h.lg)) /\ st.s 2 = .ptr 2 0 /\ st.b 2 = some (.box 47 [.p (I 0),.p (I 0),.p (I 0),.nil 5,.nil 1,.p (I 0),.p (I 0),.p (I 0),.p (I 0),.nil 4,.p (I 0),.p (I 0),.nil 8,.p (I 0),.p (I 0),.p (I 0),.p (I 0),.p (I 0),.p (I 0),.p (I 0),.p (I 0),.p (I 0),.p (I 0),.p (I 0),.p (I 0),.p (I 0),.p (I 0),.p (I 0),.p (I 0),.p (I 0),.p (I 0),.p (I 0),.nil 7,.p (I 0),.p (I 0),.p (I 0),.p (I 0),.nil 8]) /\ st.s 11 = .p (.sl 8 (lrs p.ls)) /\ st.s 12 = .p (I p.ls.length) /\ st.s 13 = .p (I k)) p.ls.length ⟨0,by simp [yU,lrs,zX,zO]⟩ fun K N st hL ⟨k,hkN,g1,hb,b500,g2,b2,g11,g12,g13⟩=>?_
 by_cases hlt : k < p.ls.length
 ·have hw := yF k _ hlt (by omega)
  have he:=xQ hlt
  have hsn:=relay_snoc hlt
  have hrl:=relay_len (p.ls.take k) []
  rw [List.length_take] at hrl
  simp only [List.length_nil] at hrl
  have c2 := learnersR_con (yU (p.ls.take k)) p.ls[k] (by unfold yU; omega) (fun y hy => by
   rcases relay_mem _ _ _ hy with h | h
   ·exact hm y (List.mem_of_mem_take h)
   ·simp at h) (hm _ (List.getElem_mem hlt))
  rw [<- hsn] at c2
  unfold Lr.cells at c2
  rcases hb with ⟨h0,b1⟩ | ⟨h0,b1,b20⟩
  ·subst h0
   simp only [List.take_zero,show yU [] = [] from rfl,show lrs [] = [] from rfl] at c2
   have hw1 : IntKind.i64.wrap 1 = 1:=by decide
   generalize hL2 : yU (p.ls.take (0 + 1)) = L2 at *
   repeat' first|(refine zR.own (c2) ?_)|(refine hK _ ?_;clear hK)|(refine zT fun K hK=>?_)|(refine zS ?_;simp only [tZ,tY,strip])|((first | refine wOs fun K hK=>?_ | refine zY ?_ | refine zW ?_);simp [g1,b1,g11,g12,g13,hlt])|(first | refine zU ?_)|(refine zP ?_;try simp)|(refine wOn ?_;try simp only [zZ])
   refine hL _ (N - 1) (by omega) ⟨0 + 1,by omega,?_⟩
   simp [g1,b500,g2,b2,g11,g12,hw1,hL2]
  ·generalize yU (p.ls.take k) = L1 at *
   generalize hL2 : yU (p.ls.take (k + 1)) = L2 at *
   repeat' first|(refine wFrzA 20 1 (by simp [b1]) b20 ?_;simp [frz,sub,xM])|(refine zR.own (c2) ?_)|(refine hK _ ?_;clear hK)|(refine zT fun K hK=>?_)|(refine zS ?_;simp only [tZ,tY,strip])|((first | refine wOs fun K hK=>?_ | refine zY ?_ | refine zW ?_);simp [g1,b1,g11,g12,g13,hlt,hw,xM,subB])|(first | refine zU ?_)|(refine zP ?_;try simp)|(refine wOn ?_;try simp only [zZ])
   refine hL _ (N - 1) (by omega) ⟨k + 1,by omega,?_⟩
   simp [g1,b500,g2,b2,g11,g12,hL2,xM,subB]
 ·rcases hb with ⟨h0, b1⟩ | ⟨h0, b1, b20⟩
  ·omega
  rw [List.take_of_length_le (by omega)] at b20
  repeat' first|(refine hK _ ?_;clear hK)|(clear hK;refine hK _ ?_;clear hK)|(refine zT fun K hK=>?_)|(refine zS ?_;simp only [tZ,tY,strip])|((first | refine wOs fun K hK=>?_ | refine zW ?_);simp [g1,b1,g2,b2,g12,g13,hlt])|((first | refine zL ?_ | refine zC ?_);try simp)|(refine wOn ?_;try simp only [zZ])
  all_goals first | apply hr
  all_goals refine ⟨[500,20],by simp,by simp,?_⟩
  all_goals simp [Tryz.f64,yL,yM,zO,b500,b20,g2]
set_option maxHeartbeats 2000000 in
theorem startR_con (p : Lq) (hk : OkH p.h) (hne : ¬ p.ls.length = 0) (hl : p.ls.length <= 10000) (hm : ∀ y ∈ p.ls, y.ms.length <= 1000000) : Con Tryz.prog 34 [.p (.agg p.cells)] [] (.ret (.ptr 2048 0) [.box 101 (yE p (.row 2050) (.row 2049) false), .row 65 46 [], .row 70 8 (lrs (yU p.ls))] []) := by
 have c1:=leadOwnR_con p hk hne hl hm
 generalize yU p.ls = L at *
 unfold Lq.cells lqFcR at *
 unfold yE
 dsimp only
 refine zE Tryz.tab Tryz.mixed Tryz.func34 rfl rfl Tryz.ntmps34 (by simp) (by simp) fun Q hr hn hp=>?_
 repeat' first|(refine zV [] (c1) (by decide) (by decide) (by simp [zQ]) (by simp [zN,zH,toP]) ⟨[500,501],by simp,by simp,?_⟩;simp [lv,ouN,kpI,kpR,pos,ren,zX,zO,uJ,xA])|(refine wFrzA 500 6 rfl rfl ?_;simp [frz,sub,xM])|(refine wCelA 6 38 502 65 (by decide) rfl rfl ?_;simp [scr,yR])|(refine hK _ ?_;clear hK)|(refine zT fun K hK=>?_)|(refine zS ?_;simp only [tZ,tY,strip])|(refine wOs fun K hK=>?_;simp)|(refine zL ?_;try simp)|(refine wOn ?_;try simp only [zZ])
 all_goals first | apply hr
 all_goals refine ⟨[6,502,501],by simp,by simp,?_⟩
 all_goals simp [Tryz.f34,yL,yM,zO,gaN]
def doF (k : Int) : FuncId := if k = 2 then 92 else if k = 4 then 93 else if k = 6 then 94 else if k = 9 then 95 else if k = 13 then 96 else 97
theorem doingO_con (k : Int) : zB Tryz.prog 60 [.ptr 1024 0, .p (I k)] (.clo ⟨doF k, true⟩ [.box 1024]) := by
 unfold doF
 by_cases h2 : k = 2
 ·subst h2
  simp only [reduceIte]
  refine zK Tryz.tab Tryz.mixed Tryz.func60 rfl rfl Tryz.ntmps60 (by simp) (by simp) fun Q hr hn=>?_
  repeat' first|(refine hK _ ?_;clear hK)|(refine zT fun K hK=>?_)|(refine zS ?_;simp only [tZ,tY,strip])|((first | refine wOs fun K hK=>?_ | refine zW ?_);simp)|(first | refine zU ?_)|(refine zL ?_;try simp)|(refine wOn ?_;try simp only [zZ])
  all_goals apply hr
  all_goals simp [Tryz.f60,wS,xY]
 by_cases h4 : k = 4
 ·subst h4
  simp only [reduceIte,show ((4 : Int) = 2) = False from eq_false (by decide)]
  refine zK Tryz.tab Tryz.mixed Tryz.func60 rfl rfl Tryz.ntmps60 (by simp) (by simp) fun Q hr hn=>?_
  repeat' first|(refine hK _ ?_;clear hK)|(refine zT fun K hK=>?_)|(refine zS ?_;simp only [tZ,tY,strip])|((first | refine wOs fun K hK=>?_ | refine zW ?_);simp)|(first | refine zU ?_)|(refine zL ?_;try simp)|(refine wOn ?_;try simp only [zZ])
  all_goals apply hr
  all_goals simp [Tryz.f60,wS,xY]
 by_cases h6 : k = 6
 ·subst h6
  simp only [reduceIte,show ((6 : Int) = 2) = False from eq_false (by decide),show ((6 : Int) = 4) = False from eq_false (by decide)]
  refine zK Tryz.tab Tryz.mixed Tryz.func60 rfl rfl Tryz.ntmps60 (by simp) (by simp) fun Q hr hn=>?_
  repeat' first|(refine hK _ ?_;clear hK)|(refine zT fun K hK=>?_)|(refine zS ?_;simp only [tZ,tY,strip])|((first | refine wOs fun K hK=>?_ | refine zW ?_);simp)|(first | refine zU ?_)|(refine zL ?_;try simp)|(refine wOn ?_;try simp only [zZ])
  all_goals apply hr
  all_goals simp [Tryz.f60,wS,xY]
 by_cases h9 : k = 9
 ·subst h9
  simp only [reduceIte,show ((9 : Int) = 2) = False from eq_false (by decide),show ((9 : Int) = 4) = False from eq_false (by decide),show ((9 : Int) = 6) = False from eq_false (by decide)]
  refine zK Tryz.tab Tryz.mixed Tryz.func60 rfl rfl Tryz.ntmps60 (by simp) (by simp) fun Q hr hn=>?_
  repeat' first|(refine hK _ ?_;clear hK)|(refine zT fun K hK=>?_)|(refine zS ?_;simp only [tZ,tY,strip])|((first | refine wOs fun K hK=>?_ | refine zW ?_);simp)|(first | refine zU ?_)|(refine zL ?_;try simp)|(refine wOn ?_;try simp only [zZ])
  all_goals apply hr
  all_goals simp [Tryz.f60,wS,xY]
 by_cases h13 : k = 13
 ·subst h13
  simp only [reduceIte,show ((13 : Int) = 2) = False from eq_false (by decide),show ((13 : Int) = 4) = False from eq_false (by decide),show ((13 : Int) = 6) = False from eq_false (by decide),show ((13 : Int) = 9) = False from eq_false (by decide)]
  refine zK Tryz.tab Tryz.mixed Tryz.func60 rfl rfl Tryz.ntmps60 (by simp) (by simp) fun Q hr hn=>?_
  repeat' first|(refine hK _ ?_;clear hK)|(refine zT fun K hK=>?_)|(refine zS ?_;simp only [tZ,tY,strip])|((first | refine wOs fun K hK=>?_ | refine zW ?_);simp)|(first | refine zU ?_)|(refine zL ?_;try simp)|(refine wOn ?_;try simp only [zZ])
  all_goals apply hr
  all_goals simp [Tryz.f60,wS,xY]
 simp only [if_neg h2,if_neg h4,if_neg h6,if_neg h9,if_neg h13]
 refine zK Tryz.tab Tryz.mixed Tryz.func60 rfl rfl Tryz.ntmps60 (by simp) (by simp) fun Q hr hn=>?_
 repeat' first|(refine hK _ ?_;clear hK)|(refine zT fun K hK=>?_)|(refine zS ?_;simp only [tZ,tY,strip])|((first | refine wOs fun K hK=>?_ | refine zW ?_);simp [h2,h4,h6,h9,h13])|(first | refine zU ?_)|((first | refine zL ?_ | refine zP ?_);try simp)|(refine wOn ?_;try simp only [zZ])
 all_goals apply hr
 all_goals simp [Tryz.f60,wS,xY]
def vC (l : List Lr) (id : Int) (k : Nat) : List Lr := vM (l.take k) id ++ l.drop k
theorem pongL_app (a b : List Lr) (id : Int) : vM (a ++ b) id = vM a id ++ vM b id := by simp [vM]
theorem pongK_len (l : List Lr) (id : Int) (k : Nat) : (vC l id k).length = l.length := by simp [vC, vM]; omega
theorem pongK_get {l : List Lr} {id : Int} {k : Nat} (h : k < l.length) (h' : k < (vC l id k).length) : (vC l id k)[k] = l[k] := by
 have hl : (vM (l.take k) id).length = k:=by simp [vM];omega
 simp only [vC]
 rw [List.getElem_append_right (by omega)]
 simp [hl]
theorem pongK_at {l : List Lr} {id : Int} {k : Nat} (h : k < l.length) : (lrs (vC l id k))[k]? = some [I l[k].id, I l[k].ph, I l[k].ac, I l[k].cu, .sl 2 (zxs l[k].ms), I l[k].ae, I l[k].an, I l[k].q] := by
 have h' : k < (vC l id k).length:=by rw [pongK_len];exact h
 rw [xQ h',pongK_get h h']
theorem pongK_eq {l : List Lr} {id : Int} {k : Nat} (h : k < l.length) (hi : l[k].id = id) : (lrs (vC l id k)).set k [I l[k].id, I l[k].ph, I l[k].ac, I l[k].cu, .sl 2 (zxs l[k].ms), I l[k].ae, I l[k].an, I 0] = lrs (vC l id (k + 1)) := by
 rw [lrs_set _ k { l[k] with q:=0 }]
 congr 1
 have hl : (vM (l.take k) id).length = k:=by simp [vM];omega
 unfold vC
 rw [List.set_append_right _ _ (by omega),hl,Nat.sub_self,List.drop_eq_getElem_cons h,List.set_cons_zero,List.take_succ_eq_append_getElem h,pongL_app,List.append_assoc]
 congr 1
 simp only [vM,tZ,tY,if_pos hi,List.cons_append,List.nil_append]
theorem pongK_ne {l : List Lr} {id : Int} {k : Nat} (h : k < l.length) (hi : ¬ l[k].id = id) : vC l id (k + 1) = vC l id k := by
 unfold vC
 rw [List.take_succ_eq_append_getElem h,List.drop_eq_getElem_cons h,pongL_app,List.append_assoc]
 congr 1
 simp only [vM,tZ,tY,if_neg hi,List.cons_append,List.nil_append]
set_option maxHeartbeats 4000000 in
theorem pongR_con (p : Lq) (g : Bool) (O : List (List PV)) (l : List Lr) (m : Mg) (hl : l.length <= 100000) : Con Tryz.prog 96 [.ptr 1024 0, .p (.agg m.cells)] [.box 101 (yE p (.row 1026) (.row 1025) g), .row 65 46 O, .row 70 8 (lrs l)] (.ret (.tup []) [] [.box 101 (yE p (.row 1026) (.row 1025) g), .row 65 46 O, .row 70 8 (lrs (vM l m.fr))]) := by
 refine zE Tryz.tab Tryz.mixed Tryz.func96 rfl rfl Tryz.ntmps96 (by simp) (by simp) fun Q hr hn hp=>?_
 repeat' first|(refine hK _ ?_;clear hK)|(refine zT fun K hK=>?_)|(refine zS ?_;simp only [tZ,tY,strip])|(refine wOs fun K hK=>?_;simp)|(first | refine zU ?_)|(refine wOn ?_;try simp only [zZ])
 refine yJ (fun N st=>∃ k,k + N = l.length /\ st.s 0 = .ptr 1024 0 /\ st.s 3 = .ptr 3 0 /\ st.b 3 = some (.box 65 (m.cells.map V.p)) /\ st.s 10 = .p (I l.length) /\ st.s 11 = .p (I k) /\ st.b 1024 = some (.box 101 (yE p (.row 1026) (.row 1025) g)) /\ st.b 1025 = some (.row 65 46 O) /\ st.b 1026 = some (.row 70 8 (lrs (vC l m.fr k)))) l.length ⟨0,by simp [vC,vM]⟩ fun K N st hL ⟨k,hkN,g0,g3,b3,g10,g11,b0,b1,b2⟩=>?_
 by_cases hlt : k < l.length
 ·have hw := yF k _ hlt (by omega)
  have he:=pongK_at (id:=m.fr) hlt
  have hpl:=pongK_len l m.fr k
  have hlt' : k < (vC l m.fr k).length:=by omega
  have hg : ∀ h',(vC l m.fr k)[k]'h' = l[k]:=fun h'=>pongK_get hlt h'
  by_cases o1 : l[k].id = m.fr
  ·have hs := pongK_eq hlt o1
   replace o1 : (l[k].id = m.fr) = True:=eq_true o1
   generalize vC l m.fr k = L1 at *
   generalize hL2 : vC l m.fr (k + 1) = L2 at *
   repeat' first|(refine hK _ ?_;clear hK)|(refine zT fun K hK=>?_)|((first | refine zS ?_ | refine yZ rfl (by kernel_rfl) ?_);simp only [tZ,tY,strip])|((first | refine wOs fun K hK=>?_ | refine wQs fun K hK=>?_ | refine zW ?_);simp [g0,g3,b3,g10,g11,b0,b2,hlt,hw,hpl,hg,o1,hs])|(first | refine zU ?_)|(refine zP ?_;try simp)|((first | refine wOn ?_ | refine wQn ?_);try simp only [zZ])
   refine hL _ (N - 1) (by omega) ⟨k + 1,by omega,?_⟩
   simp [g0,g3,b3,g10,b0,b1,hL2]
  ·have hs := pongK_ne hlt o1
   replace o1 : (l[k].id = m.fr) = False:=eq_false o1
   generalize hL1 : vC l m.fr k = L1 at *
   repeat' first|(refine hK _ ?_;clear hK)|(refine zT fun K hK=>?_)|((first | refine zS ?_ | refine yZ rfl (by kernel_rfl) ?_);simp only [tZ,tY,strip])|((first | refine wOs fun K hK=>?_ | refine wQs fun K hK=>?_ | refine zW ?_);simp [g0,g3,b3,g10,g11,b0,b2,hlt,hw,hpl,hg,o1])|(first | refine zU ?_)|(refine zP ?_;try simp)|((first | refine wOn ?_ | refine wQn ?_);try simp only [zZ])
   refine hL _ (N - 1) (by omega) ⟨k + 1,by omega,?_⟩
   simp [g0,g3,b3,g10,b0,b1,b2,hs]
 have hf : vC l m.fr k = vM l m.fr:=by unfold vC;rw [List.take_of_length_le (by omega),List.drop_of_length_le (by omega),List.append_nil]
 rw [hf] at b2
 repeat' first|(refine hK _ ?_;clear hK)|(refine zT fun K hK=>?_)|(refine zS ?_;simp only [tZ,tY,strip])|((first | refine wOs fun K hK=>?_ | refine zW ?_);simp [g10,g11,hlt])|(refine zC ?_;try simp)|(refine wOn ?_;try simp only [zZ])
 all_goals first | apply hn
 all_goals refine ⟨[],by simp,by simp,?_⟩
 all_goals simp [Tryz.f96,yL,yM,zO,gaN,zX,b0,b1,b2]
theorem pong0_con (p : Lq) (g : Bool) (O : List (List PV)) (m : Mg) (h0 : p.ls = []) : Con Tryz.prog 96 [.ptr 1024 0, .p (.agg m.cells)] [.box 101 (lBx p (.row 1025) g), .row 65 46 O] (.ret (.tup []) [] [.box 101 (lBx p (.row 1025) g), .row 65 46 O]) := by
 refine zE Tryz.tab Tryz.mixed Tryz.func96 rfl rfl Tryz.ntmps96 (by simp) (by simp) fun Q hr hn hp=>?_
 repeat' first|(refine hK _ ?_;clear hK)|(refine zT fun K hK=>?_)|(refine zS ?_;simp only [tZ,tY,strip])|(refine wOs fun K hK=>?_;simp [h0,show lrs [] = [] from rfl])|(first | refine zU ?_)|(refine wOn ?_;try simp only [zZ])
 refine yJ (fun N st=>st.s 0 = .ptr 1024 0 /\ st.s 10 = .p (I 0) /\ st.s 11 = .p (I 0) /\ st.b 1024 = some (.box 101 (lBx p (.row 1025) g)) /\ st.b 1025 = some (.row 65 46 O)) 0 (by simp) fun K N st hL ⟨g0,g10,g11,b0,b1⟩=>?_
 repeat' first|(refine hK _ ?_;clear hK)|(refine zT fun K hK=>?_)|(refine zS ?_;simp only [tZ,tY,strip])|((first | refine wOs fun K hK=>?_ | refine zW ?_);simp [g10,g11])|(refine zC ?_;try simp)|(refine wOn ?_;try simp only [zZ])
 all_goals first | apply hn
 all_goals refine ⟨[],by simp,by simp,?_⟩
 all_goals simp [Tryz.f96,yL,yM,zO,gaN,zX,b0,b1]
theorem endR_con (p : Lq) (g : Bool) (O L : List (List PV)) : Con Tryz.prog 36 [.ptr 1024 0] [.box 101 (yE p (.row 1026) (.row 1025) g), .row 65 46 O, .row 70 8 L] (.ret (.tup [.ag (lqFcR p (.p (.sl 8 (yW p.h.lg))) (.row 1026)), .row 1025, .p (B (!g))]) [] [.box 101 (yE p (.row 1026) (.row 1025) g), .row 65 46 O, .row 70 8 L]) := by
 unfold yE lqFcR
 refine zE Tryz.tab Tryz.mixed Tryz.func36 rfl rfl Tryz.ntmps36 (by simp) (by simp) fun Q hr hn hp=>?_
 repeat' first|(refine hK _ ?_;clear hK)|(refine hK _ _ ?_;clear hK)|(refine zT fun K hK=>?_)|((first | refine zS ?_ | refine yI ?_);simp only [tZ,tY,strip])|((first | refine wIs fun K hK=>?_ | refine wOs fun K hK=>?_);simp)|(refine wIn ?_;refine And.intro (by kernel_rfl) ?_;try simp only [zZ])|(refine zL ?_;try simp)|(refine wOn ?_;try simp only [zZ])
 all_goals first | apply hr
 all_goals refine ⟨[],by simp,by simp,?_⟩
 all_goals simp [Tryz.f36,yL,yM,zO,gaN,zX]
def yQ (p : Lq) : Lq := { p with ls := yU p.ls }
theorem concC_con (p : Lq) (m : Mg) : zB Tryz.prog 59 [.rptr (lqCc p 46 [] false) 0, .p (.agg m.cells)] (.p (B (decide (concQ p m)))) := concernsA_con p [] false m
theorem concD_con (p : Lq) (m : Mg) : zB Tryz.prog 59 [.rptr (lqCd p 46 8 (lrs p.ls) [] false) 0, .p (.agg m.cells)] (.p (B (decide (concQ p m)))) := concernsA_con p [] false m
set_option maxHeartbeats 4000000 in
theorem hearN_con (p : Lq) (m : Mg) (hk : OkH p.h) (hl : p.ls.length <= 10000) (hm : ∀ y ∈ p.ls, y.ms.length <= 1000000) (hf : ¬ (p.mo = 2 /\ concQ (yQ p) m)) : zB Tryz.prog 28 [.p (.agg p.cells), .p (.agg m.cells)] (.tup [.p (.agg (yQ p).cells), .p (.sl 46 []), .p (B true)]) := by
 have c1:=uS p hk hl hm
 have c2:=concC_con (yQ p) m
 have c4:=end_con (yQ p) false []
 rw [show ({ p with ls:=yU p.ls } : Lq) = yQ p from rfl] at c1
 have hmo : (yQ p).mo = p.mo:=rfl
 simp only [lW,show zD [] = [] from rfl] at *
 by_cases f1 : p.mo = 2
 ·rw [decide_eq_false (fun h => hf ⟨f1, h⟩)] at c2
  rw [f1] at hmo
  generalize yQ p = P at *
  have f1' : (P.mo = 2) = True:=eq_true hmo
  clear hf f1 hk hl hm
  unfold Lq.cells at *
  refine zK Tryz.tab Tryz.mixed Tryz.func28 rfl rfl Tryz.ntmps28 (by simp) (by simp) fun Q hr hn=>?_
  repeat' first|(refine zV [] (c1) (by decide) (by decide) (by simp [zQ]) (by simp [zN,zH,toP]) ⟨[500,501],by simp,by simp,?_⟩;simp [lv,ouN,kpI,kpR,pos,ren,zX])|(refine uM (c2) (by simp [argsA,argA,ouN,zX,zO]) rfl ?_;simp)|(refine zV [500,501] (c4) (by decide) (by decide) (by simp [zQ,inN,pos,zO,zX,ouN]) (by simp [zN,zH,zX,inN,pos]) ⟨[],by simp,by simp,?_⟩;simp [lv,ouN,kpI,kpR,pos,ren,zX])|(refine hK _ ?_;clear hK)|(refine zT fun K hK=>?_)|(refine zS ?_;simp only [tZ,tY,strip])|((first | refine wOs fun K hK=>?_ | refine zW ?_);simp [ouN,zX,zO,f1'])|((first | refine zL ?_ | refine zP ?_);try simp)|(refine wOn ?_;try simp only [zZ])
  all_goals first | apply hr
  all_goals simp [Tryz.f28,pos,zO]
 ·generalize yQ p = P at *
  have f1' : (P.mo = 2) = False:=eq_false (by rw [hmo];exact f1)
  clear hf f1 hk hl hm c2
  unfold Lq.cells at *
  refine zK Tryz.tab Tryz.mixed Tryz.func28 rfl rfl Tryz.ntmps28 (by simp) (by simp) fun Q hr hn=>?_
  repeat' first|(refine zV [] (c1) (by decide) (by decide) (by simp [zQ]) (by simp [zN,zH,toP]) ⟨[500,501],by simp,by simp,?_⟩;simp [lv,ouN,kpI,kpR,pos,ren,zX])|(refine zV [500,501] (c4) (by decide) (by decide) (by simp [zQ,inN,pos,zO,zX,ouN]) (by simp [zN,zH,zX,inN,pos]) ⟨[],by simp,by simp,?_⟩;simp [lv,ouN,kpI,kpR,pos,ren,zX])|(refine hK _ ?_;clear hK)|(refine zT fun K hK=>?_)|(refine zS ?_;simp only [tZ,tY,strip])|((first | refine wOs fun K hK=>?_ | refine zW ?_);simp [ouN,zX,zO,f1'])|((first | refine zL ?_ | refine zP ?_);try simp)|(refine wOn ?_;try simp only [zZ])
  all_goals first | apply hr
  all_goals simp [Tryz.f28,pos,zO]
set_option maxHeartbeats 4000000 in
theorem hearF_con (p : Lq) (m : Mg) (hk : OkH p.h) (hl : p.ls.length <= 10000) (hm : ∀ y ∈ p.ls, y.ms.length <= 1000000) (f1 : p.mo = 2) (f2 : concQ (yQ p) m) (S : Sq) (c3 : Con Tryz.prog (doF m.kd) [.ptr 1024 0, .p (.agg m.cells)] (sqW ⟨yQ p, false, []⟩) (.ret (.tup []) [] (sqW S))) : zB Tryz.prog 28 [.p (.agg p.cells), .p (.agg m.cells)] (.tup [.p (.agg S.p.cells), .p (.sl 46 (zD S.o)), .p (B (!S.g))]) := by
 have c1:=uS p hk hl hm
 have c2:=concC_con (yQ p) m
 rw [decide_eq_true f2] at c2
 have cD:=doingO_con m.kd
 have c4:=end_con S.p S.g S.o
 rw [show ({ p with ls:=yU p.ls } : Lq) = yQ p from rfl] at c1
 have hmo : (yQ p).mo = p.mo:=rfl
 rw [f1] at hmo
 simp only [sqW,lW,show zD [] = [] from rfl] at *
 generalize doF m.kd = FD at *
 generalize yQ p = P at *
 have f1' : (P.mo = 2) = True:=eq_true hmo
 obtain ⟨Sp,Sg,So⟩:=S
 dsimp only at *
 generalize zD So = O at *
 clear f1 f2 hk hl hm
 unfold Lq.cells at *
 refine zK Tryz.tab Tryz.mixed Tryz.func28 rfl rfl Tryz.ntmps28 (by simp) (by simp) fun Q hr hn=>?_
 repeat' first|(refine zV [] (c1) (by decide) (by decide) (by simp [zQ]) (by simp [zN,zH,toP]) ⟨[500,501],by simp,by simp,?_⟩;simp [lv,ouN,kpI,kpR,pos,ren,zX])|(refine uM (c2) (by simp [argsA,argA,ouN,zX,zO]) rfl ?_;simp)|(refine wDrwT (id:=3) 5 (by kernel_rfl) ?_;simp only [tZ,tY,strip,List.take_succ_cons,List.take_zero,List.drop_succ_cons,List.drop_zero])|(refine CallQ_opq [500] cD (by decide) (by simp [zN,zH,zX,inN,pos]) ?_;simp [ouN,ren,zX,wS,xY])|(refine zV [500,501] (c3) (by decide) (by decide) (by simp [zQ,inN,pos,zO,zX,ouN]) (by simp [zN,zH,zX,inN,pos]) ⟨[],by simp,by simp,?_⟩;simp [lv,kpI,kpR,pos,ren,zX])|(refine zV [500,501] (c4) (by decide) (by decide) (by simp [zQ,inN,pos,zO,zX,ouN]) (by simp [zN,zH,zX,inN,pos]) ⟨[],by simp,by simp,?_⟩;simp [lv,ouN,kpI,kpR,pos,ren,zX])|(refine hK _ ?_;clear hK)|(refine zT fun K hK=>?_)|(refine zS ?_;simp only [tZ,tY,strip])|((first | refine wOs fun K hK=>?_ | refine wQs fun K hK=>?_ | refine zW ?_);simp [ouN,zX,zO,f1'])|(refine zL ?_;try simp)|((first | refine wOn ?_ | refine wQn ?_);try simp only [zZ])
 all_goals first | apply hr
 all_goals simp [Tryz.f28,pos,zO]
set_option maxHeartbeats 4000000 in
theorem hearP_con (p : Lq) (m : Mg) (hk : OkH p.h) (hne : ¬ p.ls.length = 0) (hl : p.ls.length <= 10000) (hl2 : (yU p.ls).length <= 100000) (hm : ∀ y ∈ p.ls, y.ms.length <= 1000000) (f1 : p.mo = 2) (f2 : concQ (yQ p) m) (hkd : m.kd = 13) : zB Tryz.prog 28 [.p (.agg p.cells), .p (.agg m.cells)] (.tup [.p (.agg ({ p with ls := vM (yU p.ls) m.fr } : Lq).cells), .p (.sl 46 []), .p (B true)]) := by
 have c1:=startR_con p hk hne hl hm
 have c2:=concD_con (yQ p) m
 rw [decide_eq_true f2] at c2
 have hrl : (yQ p).ls = yU p.ls:=rfl
 rw [hrl] at c2
 have cD:=doingO_con m.kd
 rw [show doF m.kd = 96 by rw [hkd];rfl] at cD
 have c3:=pongR_con p false [] (yU p.ls) m hl2
 have c4:=endR_con p false [] (lrs (vM (yU p.ls) m.fr))
 have hq : lqCd (yQ p) 46 8 (lrs (yU p.ls)) [] false = lqCd p 46 8 (lrs (yU p.ls)) [] false:=rfl
 rw [hq] at c2
 generalize yU p.ls = L at *
 have f1' : (p.mo = 2) = True:=eq_true f1
 generalize vM L m.fr = L2 at *
 have hres : ({ p with ls:=L2 } : Lq).cells = [I p.id,I p.ac,I p.cu,.sl 5 (zns p.h.im.ns),.sl 1 (ints p.h.im.ss),I p.h.im.nx,I p.h.im.c.ep,I p.h.im.c.n,I p.h.im.c.kind,.sl 4 (mbs p.h.im.c.ms),I p.h.im.ae,I p.h.im.an,.sl 8 (yW p.h.lg),I p.d.e,I p.d.n,I p.mo,I 0,I 0,I 0,I 0,I 0,I 0,I 0,I 0,I 0,I 0,I 0,I 0,I 0,I 0,I 0,I 0,.sl 7 [],I p.ld,I p.ph,I p.wt,I p.ep,.sl 8 (lrs L2)]:=rfl
 rw [hres]
 unfold lqFcR at c4
 clear f1 f2 hk hl hm hne hl2 hrl hq hres
 unfold Lq.cells at *
 refine zK Tryz.tab Tryz.mixed Tryz.func28 rfl rfl Tryz.ntmps28 (by simp) (by simp) fun Q hr hn=>?_
 repeat' first|(refine zV [] (c1) (by decide) (by decide) (by simp [zQ]) (by simp [zN,zH,toP]) ⟨[500,501,502],by simp,by simp,?_⟩;simp [lv,ouN,kpI,kpR,pos,ren,zX])|(refine uM (c2) (by simp [argsA,argA,ouN,zX,zO]) rfl ?_;simp)|(refine wDrwT (id:=3) 5 (by kernel_rfl) ?_;simp only [tZ,tY,strip,List.take_succ_cons,List.take_zero,List.drop_succ_cons,List.drop_zero])|(refine CallQ_opq [500] cD (by decide) (by simp [zN,zH,zX,inN,pos]) ?_;simp [ouN,ren,zX,wS,xY])|(refine zV [500,501,502] (c3) (by decide) (by decide) (by simp [zQ,inN,pos,zO,zX,ouN]) (by simp [zN,zH,zX,inN,pos]) ⟨[],by simp,by simp,?_⟩;simp [lv,kpI,kpR,pos,ren,zX])|(refine zV [500,501,502] (c4) (by decide) (by decide) (by simp [zQ,inN,pos,zO,zX,ouN]) (by simp [zN,zH,zX,inN,pos]) ⟨[],by simp,by simp,?_⟩;simp [lv,ouN,kpI,kpR,pos,ren,zX,uJ,xA])|(refine hK _ ?_;clear hK)|(refine zT fun K hK=>?_)|(refine zS ?_;simp only [tZ,tY,strip])|((first | refine wOs fun K hK=>?_ | refine wQs fun K hK=>?_ | refine zW ?_);simp [ouN,zX,zO,f1'])|(refine zL ?_;try simp)|((first | refine wOn ?_ | refine wQn ?_);try simp only [zZ])
 all_goals first | apply hr
 all_goals simp [Tryz.f28,pos,zO]
theorem sendX_con (p : Lq) (q : PV) (g : Bool) (o : List Mg) (to : Int) (m : Mg) (hl : o.length <= 100000) : Con Tryz.prog 52 [.ptr 1024 0, .p (I to), .p (.agg m.cells)] [.box 101 (yE p (.p q) (.row 1025) g), .row 65 46 (zD o)] (.ret (.tup []) [] [.box 101 (yE p (.p q) (.row 1025) g), .row 65 46 (zD (o ++ [yH p to m]))]) := by
 have hs:=mgsC_snoc o (yH p to m)
 have hlen:=mgsC_len o
 unfold yE
 generalize zD (o ++ [yH p to m]) = O2 at *
 generalize zD o = O at *
 unfold yH Mg.cells at hs
 unfold Mg.cells
 dsimp only at hs
 refine zE Tryz.tab Tryz.mixed Tryz.func52 rfl rfl Tryz.ntmps52 (by simp) (by simp) fun Q hr hn hp=>?_
 repeat' first|(refine And.intro (by (try simp);omega) ?_)|(refine hK _ ?_;clear hK)|(refine hK _ _ ?_;clear hK)|(refine zT fun K hK=>?_)|((first | refine zS ?_ | refine yI ?_);simp only [tZ,tY,strip])|((first | refine wIs fun K hK=>?_ | refine wOs fun K hK=>?_);simp [hs,hlen])|(refine wIn ?_;refine And.intro (by kernel_rfl) ?_;try simp only [zZ])|(refine wOn ?_;try simp only [zZ])
 all_goals first | apply hn
 all_goals refine ⟨[],by simp,by simp,?_⟩
 all_goals simp [Tryz.f52,yL,yM,zO,gaN]
def tkX (x : Lr) : Lr := { x with q := IntKind.i64.wrap (x.q + 1) }
def tkB (x : Lr) : Bool := decide (x.ph = 3 \/ x.ph = 4)
def tkA (x : Lr) : Bool := decide (x.ph = 4 /\ IntKind.i64.wrap (x.q + 1) <= 8)
def tkM (P : Lq) (l : List Lr) : List Mg := (l.filter tkB).map fun x => yH P x.id (mgK 12)
def tkN (id : Int) (l : List Lr) : List Int := id :: ((l.filter tkA).map Lr.id)
def tkW (p : Lq) : Int := IntKind.i64.wrap (p.wt + 1)
def tkG (p : Lq) : Bool := if p.ph = 1 \/ p.ph = 2 then decide (8 < tkW p) else if p.ph = 3 then !yS p (tkN p.id p.ls) else false
def tkP (p : Lq) : Lq := { p with wt := tkW p, ls := p.ls.map tkX }
def wO (p : Lq) : Sq := if p.mo = 2 then ⟨tkP (yQ p), tkG (yQ p), tkM (yQ p) (yU p.ls)⟩ else ⟨yQ p, false, []⟩
theorem tkM_snoc (P : Lq) {l : List Lr} {k : Nat} (h : k < l.length) : tkM P (l.take (k + 1)) = if tkB l[k] = true then tkM P (l.take k) ++ [yH P l[k].id (mgK 12)] else tkM P (l.take k) := by
 unfold tkM
 rw [List.take_succ_eq_append_getElem h,List.filter_append]
 by_cases g : tkB l[k] = true
 ·rw [if_pos g,List.filter_cons,if_pos g];simp
 ·rw [if_neg g,List.filter_cons,if_neg g];simp
theorem tkN_snoc (id : Int) {l : List Lr} {k : Nat} (h : k < l.length) : tkN id (l.take (k + 1)) = if tkA l[k] = true then tkN id (l.take k) ++ [l[k].id] else tkN id (l.take k) := by
 unfold tkN
 rw [List.take_succ_eq_append_getElem h,List.filter_append]
 by_cases g : tkA l[k] = true
 ·rw [if_pos g,List.filter_cons,if_pos g];simp
 ·rw [if_neg g,List.filter_cons,if_neg g];simp
theorem tkM_len (P : Lq) (l : List Lr) : (tkM P l).length <= l.length := by unfold tkM; rw [List.length_map]; exact List.length_filter_le _ _
theorem tkN_len (id : Int) (l : List Lr) : (tkN id l).length <= l.length + 1 := by unfold tkN; rw [List.length_cons, List.length_map]; have := List.length_filter_le tkA l; omega
def tkK (l : List Lr) (k : Nat) : List Lr := (l.take k).map tkX ++ l.drop k
theorem tkK_len (l : List Lr) (k : Nat) : (tkK l k).length = l.length := by simp [tkK]; omega
theorem tkK_get {l : List Lr} {k : Nat} (h : k < l.length) (h' : k < (tkK l k).length) : (tkK l k)[k] = l[k] := by
 have hl : ((l.take k).map tkX).length = k:=by simp;omega
 simp only [tkK]
 rw [List.getElem_append_right (by omega)]
 simp only [hl,Nat.sub_self,List.getElem_drop,Nat.add_zero]
theorem tkK_eq {l : List Lr} {k : Nat} (h : k < l.length) : (lrs (tkK l k)).set k [I l[k].id, I l[k].ph, I l[k].ac, I l[k].cu, .sl 2 (zxs l[k].ms), I l[k].ae, I l[k].an, I (IntKind.i64.wrap (l[k].q + 1))] = lrs (tkK l (k + 1)) := by
 refine (lrs_set (tkK l k) k (tkX l[k])).trans ?_
 congr 1
 have hl : ((l.take k).map tkX).length = k:=by simp;omega
 unfold tkK
 rw [List.set_append_right _ _ (by omega),hl,Nat.sub_self,List.drop_eq_getElem_cons h,List.set_cons_zero,List.take_succ_eq_append_getElem h,List.map_append,List.append_assoc]
 rfl
theorem tkK_got {l : List Lr} {k : Nat} (h : k < l.length) (h' : k < (tkK l (k + 1)).length) : (tkK l (k + 1))[k] = tkX l[k] := by
 simp only [tkK]
 rw [List.getElem_append_left (by simp;omega)]
 simp
theorem enoughD_con (p : Lq) (L : List Lr) (O : List (List PV)) (g : Bool) (set : List Int) (hk : OkH p.h) : zB Tryz.prog 65 [.rptr (lqCd p 46 8 (lrs L) O g) 0, .p (.sl 1 (ints set))] (.p (B (yS p set))) :=
 enoughA_con { p with ls:=L } O g set hk (by have:=endN_len (nsOf p.h p.h.lg) p.d.e p.d.n;show (yX p.h p.d.e p.d.n).length <= 1000;unfold yX;omega) (fun c hc=>by have:=needs_ok hk p.d.e p.d.n c hc;omega)
end Go.Proofs.YtffflakmofbilaaGreat
