/- Texts that the proof needs: LD10h LD10D LD10b1 LD10b2 LD10b3. -/
import Derived.Test.YtffflakmofbilaaGreatP35LeadDone
import Derived.Test.YtffflakmofbilaaGreatP29LeadDone
import Derived.Test.YtffflakmofbilaaGreatP31LeadDone
import Derived.Test.YtffflakmofbilaaGreatP33LeadDone
namespace Go.Proofs.YtffflakmofbilaaGreat
set_option linter.unusedSimpArgs false
set_option linter.unusedVariables false
set_option maxRecDepth 8000
open Go Go.Av
attribute [local irreducible] Go.Av.yD Go.Av.zQ Go.Av.yC Go.Av.zJ Go.Av.xZ Go.Av.yT Go.Av.Con
set_option maxHeartbeats 4000000 in
theorem aheadP_con (p : Lq) (q : PV) (g : Bool) (m : Mg) (hl : p.h.lg.length <= 1000) (h0 : ¬ m.ms.length = 0) (hm : m.ms.length <= 1000000) : Con Tryz.prog 123 [.ptr 1024 0, .p (.agg m.cells)] (pW p q g) (.ret (.p (B (aheadQ p m))) [] (pW p q g)) := by
 have cL:=lastH_con p.h hl
 have cC:=uT (m.ms.getD (m.ms.length - 1) ⟨0,0⟩).e (m.ms.getD (m.ms.length - 1) ⟨0,0⟩).n (yX p.h).e (yX p.h).n
 have hA : aheadQ p m = if ¬ m.cu = p.cu then decide (p.cu < m.cu) else decide (0 < xM (m.ms.getD (m.ms.length - 1) ⟨0,0⟩).e (m.ms.getD (m.ms.length - 1) ⟨0,0⟩).n (yX p.h).e (yX p.h).n):=rfl
 rw [hA]
 clear hA
 unfold pW
 by_cases h1 : m.cu = p.cu
 case neg =>
  rw [if_pos h1]
  have h1' : (m.cu = p.cu) = False:=eq_false h1
  clear h1
  by_cases h2 : p.cu < m.cu
  ·rw [decide_eq_true h2]
   refine zF Tryz.tab Tryz.mixed Tryz.func123 rfl rfl Tryz.ntmps123 (by simp) (by simp) fun Q hr hn hp=>?_
   repeat' first|(refine hK _ ?_;clear hK)|(refine zU fun K hK=>?_)|((first | refine zT ?_ | refine zE rfl (by kernel_rfl) ?_);simp only [uP,uO,strip])|((first | refine wOs fun K hK=>?_ | refine wQs fun K hK=>?_ | refine zX ?_);simp [h1',h2])|(refine zN ?_;try simp)|((first | refine wOn ?_ | refine wQn ?_);try simp only [zZ])
   all_goals first | apply hr
   all_goals refine ⟨[],by simp,by simp,?_⟩
   all_goals simp [Tryz.f123,yL,yM,zO,zV]
  ·rw [decide_eq_false h2]
   refine zF Tryz.tab Tryz.mixed Tryz.func123 rfl rfl Tryz.ntmps123 (by simp) (by simp) fun Q hr hn hp=>?_
   repeat' first|(refine hK _ ?_;clear hK)|(refine zU fun K hK=>?_)|((first | refine zT ?_ | refine zE rfl (by kernel_rfl) ?_);simp only [uP,uO,strip])|((first | refine wOs fun K hK=>?_ | refine wQs fun K hK=>?_ | refine zX ?_);simp [h1',h2])|(refine zN ?_;try simp)|((first | refine wOn ?_ | refine wQn ?_);try simp only [zZ])
   all_goals first | apply hr
   all_goals refine ⟨[],by simp,by simp,?_⟩
   all_goals simp [Tryz.f123,yL,yM,zO,zV]
 rw [if_neg (not_not_intro h1)]
 have h1' : (m.cu = p.cu) = True:=eq_true h1
 clear h1
 obtain ⟨j,hj⟩ : ∃ j,m.ms.length = j + 1:=⟨m.ms.length - 1,by omega⟩
 have hw : IntKind.i64.wrap ((m.ms.length : Int) - 1) = (j : Int):=by rw [zD] <;> omega
 have hw' : IntKind.i64.wrap (j : Int) = (j : Int):=by rw [zD] <;> omega
 have hjl : j < m.ms.length:=by omega
 have he : (zxs m.ms)[j]? = some [I (m.ms.getD (m.ms.length - 1) ⟨0, 0⟩).e, I (m.ms.getD (m.ms.length - 1) ⟨0, 0⟩).n] := by
  rw [show (zxs m.ms)[j]? = some [I m.ms[j].e,I m.ms[j].n] by simp [zxs,hjl]]
  have : m.ms.getD (m.ms.length - 1) ⟨0,0⟩ = m.ms[j]:=by rw [hj,List.getD_eq_getElem?_getD];simp [hjl]
  rw [this]
 have hz : m.ms.getD (m.ms.length - 1) ⟨0,0⟩ = m.ms[j]:=by rw [hj,List.getD_eq_getElem?_getD];simp [hjl]
 rw [hz] at cC he ⊢
 generalize yX p.h = last at *
 generalize xM m.ms[j].e m.ms[j].n last.e last.n = zz at *
 by_cases h2 : 0 < zz
 ·rw [decide_eq_true h2]
  refine zF Tryz.tab Tryz.mixed Tryz.func123 rfl rfl Tryz.ntmps123 (by simp) (by simp) fun Q hr hn hp=>?_
  repeat' first|(refine zJ.pure (cL) rfl ?_)|(refine zJ.pure (cC) rfl ?_)|(refine hK _ ?_;clear hK)|(refine zU fun K hK=>?_)|((first | refine zT ?_ | refine zE rfl (by kernel_rfl) ?_);simp only [uP,uO,strip])|((first | refine wOs fun K hK=>?_ | refine wQs fun K hK=>?_ | refine zK ?_ | refine zX ?_);simp [h1',h2,hw',hj])|((first | refine zN ?_ | refine zR ?_);try simp)|((first | refine wOn ?_ | refine wQn ?_);try simp only [zZ])
  all_goals first | apply hr
  all_goals refine ⟨[],by simp,by simp,?_⟩
  all_goals simp [Tryz.f123,yL,yM,zO,zV]
 ·rw [decide_eq_false h2]
  refine zF Tryz.tab Tryz.mixed Tryz.func123 rfl rfl Tryz.ntmps123 (by simp) (by simp) fun Q hr hn hp=>?_
  repeat' first|(refine zJ.pure (cL) rfl ?_)|(refine zJ.pure (cC) rfl ?_)|(refine hK _ ?_;clear hK)|(refine zU fun K hK=>?_)|((first | refine zT ?_ | refine zE rfl (by kernel_rfl) ?_);simp only [uP,uO,strip])|((first | refine wOs fun K hK=>?_ | refine wQs fun K hK=>?_ | refine zK ?_ | refine zX ?_);simp [h1',h2,hw',hj])|((first | refine zN ?_ | refine zR ?_);try simp)|((first | refine wOn ?_ | refine wQn ?_);try simp only [zZ])
  all_goals first | apply hr
  all_goals refine ⟨[],by simp,by simp,?_⟩
  all_goals simp [Tryz.f123,yL,yM,zO,zV]
def ackGo (P1 : Lq) (g : Bool) (o : List Mg) (m : Mg) (R1 : Lr) : Sq := if R1.id ∈ zB P1 /\ aheadQ P1 m = true then ⟨P1, true, o⟩ else wX ((⟨P1, g, o⟩ : Sq).lay { R1 with ph := 2, cu := m.cu, ms := m.ms, q := 0 })
set_option maxHeartbeats 8000000 in
theorem ackEpA_con {n b : Nat} (p : Lq) (g : Bool) (o : List Mg) (h : OkS n b ⟨p, g, o⟩) (hn' : n <= 200) (hb' : b <= 2000) (m : Mg) (hm : m.ms.length <= 1000000) (R1 : Lr) (hR : xN p.ls m.fr 1 = (R1, true)) (h0 : ¬ m.ms.length = 0) (hp1 : p.ph = 1) (q1 : ¬ 0 < xM m.z.e m.z.n p.d.e p.d.n) : Con Tryz.prog 93 [.ptr 1024 0, .p (.agg m.cells)] (lW p g o) (.ret (.tup []) [] (sqW (ackGo p g o m R1))) := by
 have cR:=xL p g o m.fr 1 (by have:=h.ll;simp only at this;omega)
 have cC:=uT m.z.e m.z.n p.d.e p.d.n
 have hok : OkS n b ⟨p,g,o⟩:=⟨h.hk,h.ll,h.lo,h.lm⟩
 have cV:=fun x=>wJ p (.v x) g hok.hk
 have cv:=xE (zB p) R1.id
 have cA:=fun x=>aheadP_con p (.v x) g m hok.hk.lg h0 hm
 have hE : ackGo p g o m R1 = if R1.id ∈ zB p /\ aheadQ p m = true then ⟨p,true,o⟩ else wX ((⟨p,g,o⟩ : Sq).lay { R1 with ph:=2,cu:=m.cu,ms:=m.ms,q:=0 }):=rfl
 have hll:=hok.ll
 have cY:=vK p g o { R1 with ph:=2,cu:=m.cu,ms:=m.ms,q:=0 } (by simp only at hll ⊢;omega) hok.lm hm
 have cG:=gath_con (hok.lay (x:={ R1 with ph:=2,cu:=m.cu,ms:=m.ms,q:=0 }) hm) (by omega) (by omega)
 have hp1' : (p.ph = 1) = True:=eq_true hp1
 have h0' : (m.ms.length = 0) = False:=eq_false h0
 rw [hR] at cR
 rw [hE]
 simp only [sqW,lW,pW,Sq.lay] at *
 generalize wX _ = S3 at *
 generalize hL2 : xK p.ls { R1 with ph:=2,cu:=m.cu,ms:=m.ms,q:=0 } = L2 at *
 generalize hO : zC o = O at *
 generalize hO3 : zC S3.o = O3 at *
 generalize xM m.z.e m.z.n p.d.e p.d.n = zz at *
 generalize zB p = V at *
 clear hE hok hll h
 unfold Lr.cells at cR cY
 dsimp only at cR cY
 by_cases q3 : R1.id ∈ V
 ·rw [decide_eq_true q3] at cv
  by_cases q4 : aheadQ p m = true
  ·rw [if_pos ⟨q3, q4⟩]
   rw [q4] at cA
   clear q3 q4 cY cG
   refine zF Tryz.tab Tryz.mixed Tryz.func93 rfl rfl Tryz.ntmps93 (by simp) (by simp) fun Q hr hn hp=>?_
   repeat' first|(refine zS [1024,1025] (cR) (by decide) (by decide) (by simp [zP,inN,pos,zO,zV]) (by simp [zM,zI,zV,inN,pos]) ⟨[],by simp,by simp,?_⟩;simp [lv,kpI,kpR,pos,ren,zV])|(refine zJ.pure (cC) rfl ?_)|(refine yZ 1024 1025 (lBx p (.row 1025) g) (rfl) (rfl) rfl (by simp [zM,zI,zV,inN,pos]) (fun x _=>cV x) rfl ?_)|(refine zJ.pure (cv) rfl ?_)|(refine yZ 1024 1025 (lBx p (.row 1025) g) (rfl) (rfl) rfl (by simp [zM,zI,zV,inN,pos]) (fun x _=>cA x) rfl ?_)|(refine hK _ ?_;clear hK)|(refine zU fun K hK=>?_)|((first | refine zT ?_ | refine zE rfl (by kernel_rfl) ?_);simp only [uP,uO,strip])|((first | refine wOs fun K hK=>?_ | refine wQs fun K hK=>?_ | refine zK ?_ | refine zX ?_);simp [q1,hp1',h0'])|((first | refine zN ?_ | refine zR ?_);try simp)|((first | refine wOn ?_ | refine wQn ?_);try simp only [zZ])
   all_goals first | apply hr
   all_goals refine ⟨[],by simp,by simp,?_⟩
   all_goals simp [Tryz.f93,yL,yM,zO,gaN,ouN,zV,hO]
  ·rw [if_neg (fun h => q4 h.2)]
   rw [Bool.not_eq_true] at q4
   rw [q4] at cA
   clear q3 q4
   refine zF Tryz.tab Tryz.mixed Tryz.func93 rfl rfl Tryz.ntmps93 (by simp) (by simp) fun Q hr hn hp=>?_
   repeat' first|(refine zS [1024,1025] (cR) (by decide) (by decide) (by simp [zP,inN,pos,zO,zV]) (by simp [zM,zI,zV,inN,pos]) ⟨[],by simp,by simp,?_⟩;simp [lv,kpI,kpR,pos,ren,zV])|(refine zJ.pure (cC) rfl ?_)|(refine yZ 1024 1025 (lBx p (.row 1025) g) (rfl) (rfl) rfl (by simp [zM,zI,zV,inN,pos]) (fun x _=>cV x) rfl ?_)|(refine zJ.pure (cv) rfl ?_)|(refine yZ 1024 1025 (lBx p (.row 1025) g) (rfl) (rfl) rfl (by simp [zM,zI,zV,inN,pos]) (fun x _=>cA x) rfl ?_)|(refine zS [1024,1025] (cY) (by decide) (by decide) (by simp [zP,inN,pos,zO,zV,ouN]) (by simp [zM,zI,zV,inN,pos]) ⟨[],by simp,by simp,?_⟩;simp [lv,kpI,kpR,pos,ren,zV])|(refine zS [1024,1025] (cG) (by decide) (by decide) (by simp [zP,inN,pos,zO,zV,ouN]) (by simp [zM,zI,zV,inN,pos]) ⟨[],by simp,by simp,?_⟩;simp [lv,kpI,kpR,pos,ren,zV])|(refine hK _ ?_;clear hK)|(refine hK _ _ ?_;clear hK)|(refine zU fun K hK=>?_)|((first | refine zT ?_ | refine zE rfl (by kernel_rfl) ?_ | refine yI ?_);simp only [uP,uO,strip])|((first | refine wIs fun K hK=>?_ | refine wOs fun K hK=>?_ | refine wQs fun K hK=>?_ | refine zK ?_ | refine zX ?_);simp [q1,hp1',h0'])|(refine wIn ?_;refine And.intro (by kernel_rfl) ?_;try simp only [zZ])|(first | refine zW ?_)|(refine zR ?_;try simp)|((first | refine wOn ?_ | refine wQn ?_);try simp only [zZ])
   all_goals first | apply hn
   all_goals refine ⟨[],by simp,by simp,?_⟩
   all_goals simp [Tryz.f93,yL,yM,zO,gaN,ouN,zV,hO3]
 ·rw [if_neg (fun h => q3 h.1)]
  rw [decide_eq_false q3] at cv
  clear q3 cA
  refine zF Tryz.tab Tryz.mixed Tryz.func93 rfl rfl Tryz.ntmps93 (by simp) (by simp) fun Q hr hn hp=>?_
  repeat' first|(refine zS [1024,1025] (cR) (by decide) (by decide) (by simp [zP,inN,pos,zO,zV]) (by simp [zM,zI,zV,inN,pos]) ⟨[],by simp,by simp,?_⟩;simp [lv,kpI,kpR,pos,ren,zV])|(refine zJ.pure (cC) rfl ?_)|(refine yZ 1024 1025 (lBx p (.row 1025) g) (rfl) (rfl) rfl (by simp [zM,zI,zV,inN,pos]) (fun x _=>cV x) rfl ?_)|(refine zJ.pure (cv) rfl ?_)|(refine zS [1024,1025] (cY) (by decide) (by decide) (by simp [zP,inN,pos,zO,zV,ouN]) (by simp [zM,zI,zV,inN,pos]) ⟨[],by simp,by simp,?_⟩;simp [lv,kpI,kpR,pos,ren,zV])|(refine zS [1024,1025] (cG) (by decide) (by decide) (by simp [zP,inN,pos,zO,zV,ouN]) (by simp [zM,zI,zV,inN,pos]) ⟨[],by simp,by simp,?_⟩;simp [lv,kpI,kpR,pos,ren,zV])|(refine hK _ ?_;clear hK)|(refine hK _ _ ?_;clear hK)|(refine zU fun K hK=>?_)|((first | refine zT ?_ | refine zE rfl (by kernel_rfl) ?_ | refine yI ?_);simp only [uP,uO,strip])|((first | refine wIs fun K hK=>?_ | refine wOs fun K hK=>?_ | refine wQs fun K hK=>?_ | refine zK ?_ | refine zX ?_);simp [q1,hp1',h0'])|(refine wIn ?_;refine And.intro (by kernel_rfl) ?_;try simp only [zZ])|(first | refine zW ?_)|(refine zR ?_;try simp)|((first | refine wOn ?_ | refine wQn ?_);try simp only [zZ])
  all_goals first | apply hn
  all_goals refine ⟨[],by simp,by simp,?_⟩
  all_goals simp [Tryz.f93,yL,yM,zO,gaN,ouN,zV,hO3]
set_option maxHeartbeats 8000000 in
theorem ackEpB_con {n b : Nat} (p : Lq) (g : Bool) (o : List Mg) (h : OkS n b ⟨p, g, o⟩) (hn' : n <= 200) (hb' : b <= 2000) (m : Mg) (hm : m.ms.length <= 1000000) (R1 : Lr) (hR : xN p.ls m.fr 1 = (R1, true)) (h0 : ¬ m.ms.length = 0) (hp1 : p.ph = 1) (q1 : 0 < xM m.z.e m.z.n p.d.e p.d.n) (q2 : ¬ m.z ∈ mks p.h) : Con Tryz.prog 93 [.ptr 1024 0, .p (.agg m.cells)] (lW p g o) (.ret (.tup []) [] (sqW (ackGo p g o m R1))) := by
 have cR:=xL p g o m.fr 1 (by have:=h.ll;simp only at this;omega)
 have cC:=uT m.z.e m.z.n p.d.e p.d.n
 have cM:=marks_con p.h h.hk.lg
 have cN:=containsZ_con (mks p.h) m.z
 rw [decide_eq_false q2] at cN
 have hok : OkS n b ⟨p,g,o⟩:=⟨h.hk,h.ll,h.lo,h.lm⟩
 have cV:=fun x=>wJ p (.v x) g hok.hk
 have cv:=xE (zB p) R1.id
 have cA:=fun x=>aheadP_con p (.v x) g m hok.hk.lg h0 hm
 have hE : ackGo p g o m R1 = if R1.id ∈ zB p /\ aheadQ p m = true then ⟨p,true,o⟩ else wX ((⟨p,g,o⟩ : Sq).lay { R1 with ph:=2,cu:=m.cu,ms:=m.ms,q:=0 }):=rfl
 have hll:=hok.ll
 have cY:=vK p g o { R1 with ph:=2,cu:=m.cu,ms:=m.ms,q:=0 } (by simp only at hll ⊢;omega) hok.lm hm
 have cG:=gath_con (hok.lay (x:={ R1 with ph:=2,cu:=m.cu,ms:=m.ms,q:=0 }) hm) (by omega) (by omega)
 have hp1' : (p.ph = 1) = True:=eq_true hp1
 have h0' : (m.ms.length = 0) = False:=eq_false h0
 rw [hR] at cR
 rw [hE]
 simp only [sqW,lW,pW,Sq.lay] at *
 generalize wX _ = S3 at *
 generalize hL2 : xK p.ls { R1 with ph:=2,cu:=m.cu,ms:=m.ms,q:=0 } = L2 at *
 generalize hO : zC o = O at *
 generalize hO3 : zC S3.o = O3 at *
 clear q2
 generalize xM m.z.e m.z.n p.d.e p.d.n = zz at *
 generalize zB p = V at *
 clear hE hok hll h
 unfold Lr.cells at cR cY
 dsimp only at cR cY
 by_cases q3 : R1.id ∈ V
 ·rw [decide_eq_true q3] at cv
  by_cases q4 : aheadQ p m = true
  ·rw [if_pos ⟨q3, q4⟩]
   rw [q4] at cA
   clear q3 q4 cY cG
   refine zF Tryz.tab Tryz.mixed Tryz.func93 rfl rfl Tryz.ntmps93 (by simp) (by simp) fun Q hr hn hp=>?_
   repeat' first|(refine zS [1024,1025] (cR) (by decide) (by decide) (by simp [zP,inN,pos,zO,zV]) (by simp [zM,zI,zV,inN,pos]) ⟨[],by simp,by simp,?_⟩;simp [lv,kpI,kpR,pos,ren,zV])|(refine zJ.pure (cC) rfl ?_)|(refine zJ.pure (cM) rfl ?_)|(refine zJ.pure (cN) rfl ?_)|(refine yZ 1024 1025 (lBx p (.row 1025) g) (rfl) (rfl) rfl (by simp [zM,zI,zV,inN,pos]) (fun x _=>cV x) rfl ?_)|(refine zJ.pure (cv) rfl ?_)|(refine yZ 1024 1025 (lBx p (.row 1025) g) (rfl) (rfl) rfl (by simp [zM,zI,zV,inN,pos]) (fun x _=>cA x) rfl ?_)|(refine hK _ ?_;clear hK)|(refine zU fun K hK=>?_)|((first | refine zT ?_ | refine zE rfl (by kernel_rfl) ?_);simp only [uP,uO,strip])|((first | refine wOs fun K hK=>?_ | refine wQs fun K hK=>?_ | refine zK ?_ | refine zX ?_);simp [q1,hp1',h0'])|((first | refine zN ?_ | refine zR ?_);try simp)|((first | refine wOn ?_ | refine wQn ?_);try simp only [zZ])
   all_goals first | apply hr
   all_goals refine ⟨[],by simp,by simp,?_⟩
   all_goals simp [Tryz.f93,yL,yM,zO,gaN,ouN,zV,hO]
  ·rw [if_neg (fun h => q4 h.2)]
   rw [Bool.not_eq_true] at q4
   rw [q4] at cA
   clear q3 q4
   refine zF Tryz.tab Tryz.mixed Tryz.func93 rfl rfl Tryz.ntmps93 (by simp) (by simp) fun Q hr hn hp=>?_
   repeat' first|(refine zS [1024,1025] (cR) (by decide) (by decide) (by simp [zP,inN,pos,zO,zV]) (by simp [zM,zI,zV,inN,pos]) ⟨[],by simp,by simp,?_⟩;simp [lv,kpI,kpR,pos,ren,zV])|(refine zJ.pure (cC) rfl ?_)|(refine zJ.pure (cM) rfl ?_)|(refine zJ.pure (cN) rfl ?_)|(refine yZ 1024 1025 (lBx p (.row 1025) g) (rfl) (rfl) rfl (by simp [zM,zI,zV,inN,pos]) (fun x _=>cV x) rfl ?_)|(refine zJ.pure (cv) rfl ?_)|(refine yZ 1024 1025 (lBx p (.row 1025) g) (rfl) (rfl) rfl (by simp [zM,zI,zV,inN,pos]) (fun x _=>cA x) rfl ?_)|(refine zS [1024,1025] (cY) (by decide) (by decide) (by simp [zP,inN,pos,zO,zV,ouN]) (by simp [zM,zI,zV,inN,pos]) ⟨[],by simp,by simp,?_⟩;simp [lv,kpI,kpR,pos,ren,zV])|(refine zS [1024,1025] (cG) (by decide) (by decide) (by simp [zP,inN,pos,zO,zV,ouN]) (by simp [zM,zI,zV,inN,pos]) ⟨[],by simp,by simp,?_⟩;simp [lv,kpI,kpR,pos,ren,zV])|(refine hK _ ?_;clear hK)|(refine hK _ _ ?_;clear hK)|(refine zU fun K hK=>?_)|((first | refine zT ?_ | refine zE rfl (by kernel_rfl) ?_ | refine yI ?_);simp only [uP,uO,strip])|((first | refine wIs fun K hK=>?_ | refine wOs fun K hK=>?_ | refine wQs fun K hK=>?_ | refine zK ?_ | refine zX ?_);simp [q1,hp1',h0'])|(refine wIn ?_;refine And.intro (by kernel_rfl) ?_;try simp only [zZ])|(first | refine zW ?_)|(refine zR ?_;try simp)|((first | refine wOn ?_ | refine wQn ?_);try simp only [zZ])
   all_goals first | apply hn
   all_goals refine ⟨[],by simp,by simp,?_⟩
   all_goals simp [Tryz.f93,yL,yM,zO,gaN,ouN,zV,hO3]
 ·rw [if_neg (fun h => q3 h.1)]
  rw [decide_eq_false q3] at cv
  clear q3 cA
  refine zF Tryz.tab Tryz.mixed Tryz.func93 rfl rfl Tryz.ntmps93 (by simp) (by simp) fun Q hr hn hp=>?_
  repeat' first|(refine zS [1024,1025] (cR) (by decide) (by decide) (by simp [zP,inN,pos,zO,zV]) (by simp [zM,zI,zV,inN,pos]) ⟨[],by simp,by simp,?_⟩;simp [lv,kpI,kpR,pos,ren,zV])|(refine zJ.pure (cC) rfl ?_)|(refine zJ.pure (cM) rfl ?_)|(refine zJ.pure (cN) rfl ?_)|(refine yZ 1024 1025 (lBx p (.row 1025) g) (rfl) (rfl) rfl (by simp [zM,zI,zV,inN,pos]) (fun x _=>cV x) rfl ?_)|(refine zJ.pure (cv) rfl ?_)|(refine zS [1024,1025] (cY) (by decide) (by decide) (by simp [zP,inN,pos,zO,zV,ouN]) (by simp [zM,zI,zV,inN,pos]) ⟨[],by simp,by simp,?_⟩;simp [lv,kpI,kpR,pos,ren,zV])|(refine zS [1024,1025] (cG) (by decide) (by decide) (by simp [zP,inN,pos,zO,zV,ouN]) (by simp [zM,zI,zV,inN,pos]) ⟨[],by simp,by simp,?_⟩;simp [lv,kpI,kpR,pos,ren,zV])|(refine hK _ ?_;clear hK)|(refine hK _ _ ?_;clear hK)|(refine zU fun K hK=>?_)|((first | refine zT ?_ | refine zE rfl (by kernel_rfl) ?_ | refine yI ?_);simp only [uP,uO,strip])|((first | refine wIs fun K hK=>?_ | refine wOs fun K hK=>?_ | refine wQs fun K hK=>?_ | refine zK ?_ | refine zX ?_);simp [q1,hp1',h0'])|(refine wIn ?_;refine And.intro (by kernel_rfl) ?_;try simp only [zZ])|(first | refine zW ?_)|(refine zR ?_;try simp)|((first | refine wOn ?_ | refine wQn ?_);try simp only [zZ])
  all_goals first | apply hn
  all_goals refine ⟨[],by simp,by simp,?_⟩
  all_goals simp [Tryz.f93,yL,yM,zO,gaN,ouN,zV,hO3]
set_option maxHeartbeats 8000000 in
theorem ackEpC_con {n b : Nat} (p : Lq) (g : Bool) (o : List Mg) (h : OkS n b ⟨p, g, o⟩) (hn' : n <= 200) (hb' : b <= 2000) (m : Mg) (hm : m.ms.length <= 1000000) (R1 : Lr) (hR : xN p.ls m.fr 1 = (R1, true)) (h0 : ¬ m.ms.length = 0) (hp1 : p.ph = 1) (q1 : 0 < xM m.z.e m.z.n p.d.e p.d.n) (q2 : m.z ∈ mks p.h) : Con Tryz.prog 93 [.ptr 1024 0, .p (.agg m.cells)] (lW p g o) (.ret (.tup []) [] (sqW (ackGo { p with d := m.z } g o m R1))) := by
 have cR:=xL p g o m.fr 1 (by have:=h.ll;simp only at this;omega)
 have cC:=uT m.z.e m.z.n p.d.e p.d.n
 have cM:=marks_con p.h h.hk.lg
 have cN:=containsZ_con (mks p.h) m.z
 rw [decide_eq_true q2] at cN
 have hok : OkS n b ⟨{ p with d:=m.z },g,o⟩:=⟨h.hk,h.ll,h.lo,h.lm⟩
 have cV:=fun x=>wJ { p with d:=m.z } (.v x) g hok.hk
 have cv:=xE (zB { p with d:=m.z }) R1.id
 have cA:=fun x=>aheadP_con { p with d:=m.z } (.v x) g m hok.hk.lg h0 hm
 have hE : ackGo { p with d:=m.z } g o m R1 = if R1.id ∈ zB { p with d:=m.z } /\ aheadQ { p with d:=m.z } m = true then ⟨{ p with d:=m.z },true,o⟩ else wX ((⟨{ p with d:=m.z },g,o⟩ : Sq).lay { R1 with ph:=2,cu:=m.cu,ms:=m.ms,q:=0 }):=rfl
 have hll:=hok.ll
 have cY:=vK { p with d:=m.z } g o { R1 with ph:=2,cu:=m.cu,ms:=m.ms,q:=0 } (by simp only at hll ⊢;omega) hok.lm hm
 have cG:=gath_con (hok.lay (x:={ R1 with ph:=2,cu:=m.cu,ms:=m.ms,q:=0 }) hm) (by omega) (by omega)
 have hp1' : (p.ph = 1) = True:=eq_true hp1
 have h0' : (m.ms.length = 0) = False:=eq_false h0
 rw [hR] at cR
 rw [hE]
 simp only [sqW,lW,pW,Sq.lay] at *
 generalize wX _ = S3 at *
 generalize hL2 : xK p.ls { R1 with ph:=2,cu:=m.cu,ms:=m.ms,q:=0 } = L2 at *
 generalize hO : zC o = O at *
 generalize hO3 : zC S3.o = O3 at *
 clear q2
 generalize xM m.z.e m.z.n p.d.e p.d.n = zz at *
 generalize zB { p with d:=m.z } = V at *
 clear hE hok hll h
 unfold Lr.cells at cR cY
 dsimp only at cR cY
 by_cases q3 : R1.id ∈ V
 ·rw [decide_eq_true q3] at cv
  by_cases q4 : aheadQ { p with d:=m.z } m = true
  ·rw [if_pos ⟨q3, q4⟩]
   rw [q4] at cA
   clear q3 q4 cY cG
   refine zF Tryz.tab Tryz.mixed Tryz.func93 rfl rfl Tryz.ntmps93 (by simp) (by simp) fun Q hr hn hp=>?_
   repeat' first|(refine zS [1024,1025] (cR) (by decide) (by decide) (by simp [zP,inN,pos,zO,zV]) (by simp [zM,zI,zV,inN,pos]) ⟨[],by simp,by simp,?_⟩;simp [lv,kpI,kpR,pos,ren,zV])|(refine zJ.pure (cC) rfl ?_)|(refine zJ.pure (cM) rfl ?_)|(refine zJ.pure (cN) rfl ?_)|(refine yZ 1024 1025 (lBx { p with d:=m.z } (.row 1025) g) (rfl) (rfl) rfl (by simp [zM,zI,zV,inN,pos]) (fun x _=>cV x) rfl ?_)|(refine zJ.pure (cv) rfl ?_)|(refine yZ 1024 1025 (lBx { p with d:=m.z } (.row 1025) g) (rfl) (rfl) rfl (by simp [zM,zI,zV,inN,pos]) (fun x _=>cA x) rfl ?_)|(refine hK _ ?_;clear hK)|(refine zU fun K hK=>?_)|((first | refine zT ?_ | refine zE rfl (by kernel_rfl) ?_);simp only [uP,uO,strip])|((first | refine wOs fun K hK=>?_ | refine wQs fun K hK=>?_ | refine zK ?_ | refine zX ?_);simp [q1,hp1',h0'])|((first | refine zN ?_ | refine zR ?_);try simp)|((first | refine wOn ?_ | refine wQn ?_);try simp only [zZ])
   all_goals first | apply hr
   all_goals refine ⟨[],by simp,by simp,?_⟩
   all_goals simp [Tryz.f93,yL,yM,zO,gaN,ouN,zV,hO]
  ·rw [if_neg (fun h => q4 h.2)]
   rw [Bool.not_eq_true] at q4
   rw [q4] at cA
   clear q3 q4
   refine zF Tryz.tab Tryz.mixed Tryz.func93 rfl rfl Tryz.ntmps93 (by simp) (by simp) fun Q hr hn hp=>?_
   repeat' first|(refine zS [1024,1025] (cR) (by decide) (by decide) (by simp [zP,inN,pos,zO,zV]) (by simp [zM,zI,zV,inN,pos]) ⟨[],by simp,by simp,?_⟩;simp [lv,kpI,kpR,pos,ren,zV])|(refine zJ.pure (cC) rfl ?_)|(refine zJ.pure (cM) rfl ?_)|(refine zJ.pure (cN) rfl ?_)|(refine yZ 1024 1025 (lBx { p with d:=m.z } (.row 1025) g) (rfl) (rfl) rfl (by simp [zM,zI,zV,inN,pos]) (fun x _=>cV x) rfl ?_)|(refine zJ.pure (cv) rfl ?_)|(refine yZ 1024 1025 (lBx { p with d:=m.z } (.row 1025) g) (rfl) (rfl) rfl (by simp [zM,zI,zV,inN,pos]) (fun x _=>cA x) rfl ?_)|(refine zS [1024,1025] (cY) (by decide) (by decide) (by simp [zP,inN,pos,zO,zV,ouN]) (by simp [zM,zI,zV,inN,pos]) ⟨[],by simp,by simp,?_⟩;simp [lv,ouN,kpI,kpR,pos,ren,zV])|(refine zS [1024,1025] (cG) (by decide) (by decide) (by simp [zP,inN,pos,zO,zV,ouN]) (by simp [zM,zI,zV,inN,pos]) ⟨[],by simp,by simp,?_⟩;simp [lv,kpI,kpR,pos,ren,zV])|(refine hK _ ?_;clear hK)|(refine hK _ _ ?_;clear hK)|(refine zU fun K hK=>?_)|((first | refine zT ?_ | refine zE rfl (by kernel_rfl) ?_ | refine yI ?_);simp only [uP,uO,strip])|((first | refine wIs fun K hK=>?_ | refine wOs fun K hK=>?_ | refine wQs fun K hK=>?_ | refine zK ?_ | refine zX ?_);simp [q1,hp1',h0'])|(refine wIn ?_;refine And.intro (by kernel_rfl) ?_;try simp only [zZ])|(first | refine zW ?_)|(refine zR ?_;try simp)|((first | refine wOn ?_ | refine wQn ?_);try simp only [zZ])
   all_goals first | apply hn
   all_goals refine ⟨[],by simp,by simp,?_⟩
   all_goals simp [Tryz.f93,yL,yM,zO,gaN,ouN,zV,hO3]
 ·rw [if_neg (fun h => q3 h.1)]
  rw [decide_eq_false q3] at cv
  clear q3 cA
  refine zF Tryz.tab Tryz.mixed Tryz.func93 rfl rfl Tryz.ntmps93 (by simp) (by simp) fun Q hr hn hp=>?_
  repeat' first|(refine zS [1024,1025] (cR) (by decide) (by decide) (by simp [zP,inN,pos,zO,zV]) (by simp [zM,zI,zV,inN,pos]) ⟨[],by simp,by simp,?_⟩;simp [lv,kpI,kpR,pos,ren,zV])|(refine zJ.pure (cC) rfl ?_)|(refine zJ.pure (cM) rfl ?_)|(refine zJ.pure (cN) rfl ?_)|(refine yZ 1024 1025 (lBx { p with d:=m.z } (.row 1025) g) (rfl) (rfl) rfl (by simp [zM,zI,zV,inN,pos]) (fun x _=>cV x) rfl ?_)|(refine zJ.pure (cv) rfl ?_)|(refine zS [1024,1025] (cY) (by decide) (by decide) (by simp [zP,inN,pos,zO,zV,ouN]) (by simp [zM,zI,zV,inN,pos]) ⟨[],by simp,by simp,?_⟩;simp [lv,ouN,kpI,kpR,pos,ren,zV])|(refine zS [1024,1025] (cG) (by decide) (by decide) (by simp [zP,inN,pos,zO,zV,ouN]) (by simp [zM,zI,zV,inN,pos]) ⟨[],by simp,by simp,?_⟩;simp [lv,kpI,kpR,pos,ren,zV])|(refine hK _ ?_;clear hK)|(refine hK _ _ ?_;clear hK)|(refine zU fun K hK=>?_)|((first | refine zT ?_ | refine zE rfl (by kernel_rfl) ?_ | refine yI ?_);simp only [uP,uO,strip])|((first | refine wIs fun K hK=>?_ | refine wOs fun K hK=>?_ | refine wQs fun K hK=>?_ | refine zK ?_ | refine zX ?_);simp [q1,hp1',h0'])|(refine wIn ?_;refine And.intro (by kernel_rfl) ?_;try simp only [zZ])|(first | refine zW ?_)|(refine zR ?_;try simp)|((first | refine wOn ?_ | refine wQn ?_);try simp only [zZ])
  all_goals first | apply hn
  all_goals refine ⟨[],by simp,by simp,?_⟩
  all_goals simp [Tryz.f93,yL,yM,zO,gaN,ouN,zV,hO3]
end Go.Proofs.YtffflakmofbilaaGreat
