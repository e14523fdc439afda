/- Texts that the proof needs: LD10a. -/
import Derived.Test.YtffflakmofbilaaGreatP35LeadOrder
import Derived.Test.YtffflakmofbilaaGreatP30LeadOrder
namespace Go.Proofs.YtffflakmofbilaaGreat
set_option linter.unusedSimpArgs false
set_option linter.unusedVariables false
set_option maxRecDepth 8000
open Go Go.Av
attribute [local irreducible] Go.Av.yA Go.Av.zR Go.Av.xZ Go.Av.zJ Go.Av.xV Go.Av.zG Go.Av.Con
set_option maxHeartbeats 8000000 in
theorem info_con {n b : Nat} {s : Sq} (h : OkS n b s) (hn' : n <= 200) (hb' : b <= 2000) (m : Mg) : Con Tryz.prog 92 [.ptr 1024 0, .p (.agg m.cells)] (sqW s) (.ret (.tup []) [] (sqW (infoS s m))) := by
 have cC:=fun x=>chosenP_con s.p (.v x) s.g
 have cR:=xL s.p s.g s.o m.fr 1 (by have:=h.ll;omega)
 have hE : infoS s m = if ¬ s.p.ep = 0 /\ s.p.ep < m.ep then { s with g:=true } else if ¬ s.p.ep = 0 then (s.lay (yG s.p m)).send (yG s.p m).id (mgK 3) else vQ (s.lay (yG s.p m)):=rfl
 by_cases h0 : s.p.ep = 0
 case neg =>
  rw [decide_eq_true h0] at cC
  by_cases h1 : s.p.ep < m.ep
  ·rw [if_pos ⟨h0, h1⟩] at hE
   rw [hE]
   obtain ⟨p,g,o⟩:=s
   simp only [sqW,lW,pW] at *
   generalize zD o = O at *
   clear hE h
   refine zE Tryz.tab Tryz.mixed Tryz.func92 rfl rfl Tryz.ntmps92 (by simp) (by simp) fun Q hr hn hp=>?_
   repeat' first|(refine yY 1024 1025 (lBx p (.row 1025) g) (rfl) (rfl) rfl (by simp [zN,zH,zX,inN,pos]) (fun x _=>cC x) rfl ?_)|(refine hK _ ?_;clear hK)|(refine zT fun K hK=>?_)|((first | refine zS ?_ | refine yZ rfl (by kernel_rfl) ?_);simp only [tZ,tY,strip])|((first | refine wOs fun K hK=>?_ | refine wQs fun K hK=>?_ | refine zW ?_);simp [h1])|(refine zL ?_;try simp)|((first | refine wOn ?_ | refine wQn ?_);try simp only [zZ])
   all_goals first | apply hr
   all_goals refine ⟨[],by simp,by simp,?_⟩
   all_goals simp [Tryz.f92,yL,yM,zO,gaN,zX]
  rw [if_neg (fun h=>h1 h.2),if_pos h0] at hE
  rw [hE]
  have hms : ∀ y ∈ s.p.ls,y.ms.length <= 1000000:=h.lm
  have hxm : (yG s.p m).ms.length <= 1000000 := by
   unfold yG yB
   cases hf : s.p.ls.find? (isLr m.fr 1) with
   | none=>simp [lrZ]
   | some x=>simp;exact hms x (List.mem_of_find?_eq_some hf)
  have cY:=uT s.p s.g s.o (yG s.p m) (by have:=h.ll;omega) hms hxm
  have cD:=chosen_con (s.lay (yG s.p m)).p s.g s.o
  rw [decide_eq_true (show ¬ (s.lay (yG s.p m)).p.ep = 0 from h0)] at cD
  have cS:=send_con (s.lay (yG s.p m)).p s.g s.o (yG s.p m).id (mgK 3) (by have:=h.lo;omega)
  have hIX : yG s.p m = { (if (yB s.p.ls m.fr 1).2 = true then (yB s.p.ls m.fr 1).1 else { lrZ with id:=m.fr,ph:=1 }) with ac:=m.ep,q:=0 }:=rfl
  have hT1 : ((s.lay (yG s.p m)).send (yG s.p m).id (mgK 3)).p = (s.lay (yG s.p m)).p:=rfl
  have hT2 : ((s.lay (yG s.p m)).send (yG s.p m).id (mgK 3)).g = s.g:=rfl
  have hT3 : zD ((s.lay (yG s.p m)).send (yG s.p m).id (mgK 3)).o = zD (s.o ++ [yH (s.lay (yG s.p m)).p (yG s.p m).id (mgK 3)]):=rfl
  simp only [sqW,lW,pW] at *
  rw [hT1,hT2,hT3]
  rw [show ({ s.p with ls:=xK s.p.ls (yG s.p m) } : Lq) = (s.lay (yG s.p m)).p from rfl] at cY
  generalize zD (s.o ++ [yH (s.lay (yG s.p m)).p (yG s.p m).id (mgK 3)]) = O2 at *
  generalize (s.lay (yG s.p m)).p = P2 at *
  generalize yG s.p m = X at *
  generalize yB s.p.ls m.fr 1 = R at *
  obtain ⟨p,g,o⟩:=s
  dsimp only at *
  generalize zD o = O at *
  unfold mgK mgZ Mg.cells at cS
  dsimp only at cS
  simp only [show zns [] = [] from rfl,show ints [] = [] from rfl,show mbs [] = [] from rfl,show yW [] = [] from rfl,show zxs [] = [] from rfl,show pts [] = [] from rfl] at cS
  obtain ⟨R1,R2⟩:=R
  clear hE h hT1 hT2 hT3 hms hxm h0
  cases R2
  ·simp only [Bool.false_eq_true, if_false] at hIX
   subst hIX
   unfold Lr.cells lrZ at *
   dsimp only at *
   simp only [show zxs [] = [] from rfl] at *
   refine zE Tryz.tab Tryz.mixed Tryz.func92 rfl rfl Tryz.ntmps92 (by simp) (by simp) fun Q hr hn hp=>?_
   repeat' first|(refine yY 1024 1025 (lBx p (.row 1025) g) (rfl) (rfl) rfl (by simp [zN,zH,zX,inN,pos]) (fun x _=>cC x) rfl ?_)|(refine zV [1024,1025] (cR) (by decide) (by decide) (by simp [zQ,inN,pos,zO,zX]) (by simp [zN,zH,zX,inN,pos]) ⟨[],by simp,by simp,?_⟩;simp [lv,kpI,kpR,pos,ren,zX])|(refine zV [1024,1025] (cY) (by decide) (by decide) (by simp [zQ,inN,pos,zO,zX,ouN]) (by simp [zN,zH,zX,inN,pos]) ⟨[],by simp,by simp,?_⟩;simp [lv,kpI,kpR,pos,ren,zX])|(refine zV [1024,1025] (cD) (by decide) (by decide) (by simp [zQ,inN,pos,zO,zX,ouN]) (by simp [zN,zH,zX,inN,pos]) ⟨[],by simp,by simp,?_⟩;simp [lv,kpI,kpR,pos,ren,zX])|(refine zV [1024,1025] (cS) (by decide) (by decide) (by simp [zQ,inN,pos,zO,zX,ouN]) (by simp [zN,zH,zX,inN,pos]) ⟨[],by simp,by simp,?_⟩;simp [lv,kpI,kpR,pos,ren,zX])|(refine hK _ ?_;clear hK)|(refine zT fun K hK=>?_)|((first | refine zS ?_ | refine yZ rfl (by kernel_rfl) ?_);simp only [tZ,tY,strip])|((first | refine wOs fun K hK=>?_ | refine wQs fun K hK=>?_ | refine zW ?_);simp [h1])|((first | refine zL ?_ | refine zP ?_);try simp)|((first | refine wOn ?_ | refine wQn ?_);try simp only [zZ])
   all_goals first | apply hr
   all_goals refine ⟨[],by simp,by simp,?_⟩
   all_goals simp [Tryz.f92,yL,yM,zO,gaN,ouN,zX]
  ·simp only [if_true] at hIX
   subst hIX
   unfold Lr.cells at *
   dsimp only at *
   refine zE Tryz.tab Tryz.mixed Tryz.func92 rfl rfl Tryz.ntmps92 (by simp) (by simp) fun Q hr hn hp=>?_
   repeat' first|(refine yY 1024 1025 (lBx p (.row 1025) g) (rfl) (rfl) rfl (by simp [zN,zH,zX,inN,pos]) (fun x _=>cC x) rfl ?_)|(refine zV [1024,1025] (cR) (by decide) (by decide) (by simp [zQ,inN,pos,zO,zX]) (by simp [zN,zH,zX,inN,pos]) ⟨[],by simp,by simp,?_⟩;simp [lv,kpI,kpR,pos,ren,zX])|(refine zV [1024,1025] (cY) (by decide) (by decide) (by simp [zQ,inN,pos,zO,zX,ouN]) (by simp [zN,zH,zX,inN,pos]) ⟨[],by simp,by simp,?_⟩;simp [lv,kpI,kpR,pos,ren,zX])|(refine zV [1024,1025] (cD) (by decide) (by decide) (by simp [zQ,inN,pos,zO,zX,ouN]) (by simp [zN,zH,zX,inN,pos]) ⟨[],by simp,by simp,?_⟩;simp [lv,kpI,kpR,pos,ren,zX])|(refine zV [1024,1025] (cS) (by decide) (by decide) (by simp [zQ,inN,pos,zO,zX,ouN]) (by simp [zN,zH,zX,inN,pos]) ⟨[],by simp,by simp,?_⟩;simp [lv,kpI,kpR,pos,ren,zX])|(refine hK _ ?_;clear hK)|(refine zT fun K hK=>?_)|((first | refine zS ?_ | refine yZ rfl (by kernel_rfl) ?_);simp only [tZ,tY,strip])|((first | refine wOs fun K hK=>?_ | refine wQs fun K hK=>?_ | refine zW ?_);simp [h1])|((first | refine zL ?_ | refine zP ?_);try simp)|((first | refine wOn ?_ | refine wQn ?_);try simp only [zZ])
   all_goals first | apply hr
   all_goals refine ⟨[],by simp,by simp,?_⟩
   all_goals simp [Tryz.f92,yL,yM,zO,gaN,ouN,zX]
 rw [decide_eq_false (not_not_intro h0)] at cC
 rw [if_neg (fun h=>h.1 h0),if_neg (not_not_intro h0)] at hE
 rw [hE]
 have hms : ∀ y ∈ s.p.ls,y.ms.length <= 1000000:=h.lm
 have hxm : (yG s.p m).ms.length <= 1000000 := by
  unfold yG yB
  cases hf : s.p.ls.find? (isLr m.fr 1) with
  | none=>simp [lrZ]
  | some x=>simp;exact hms x (List.mem_of_find?_eq_some hf)
 have cY:=uT s.p s.g s.o (yG s.p m) (by have:=h.ll;omega) hms hxm
 have cD:=chosen_con (s.lay (yG s.p m)).p s.g s.o
 rw [decide_eq_false (not_not_intro (show (s.lay (yG s.p m)).p.ep = 0 from h0))] at cD
 have cS:=cho_con (h.lay hxm) (by omega) (by omega)
 have hIX : yG s.p m = { (if (yB s.p.ls m.fr 1).2 = true then (yB s.p.ls m.fr 1).1 else { lrZ with id:=m.fr,ph:=1 }) with ac:=m.ep,q:=0 }:=rfl
 have hg : (s.lay (yG s.p m)).g = s.g:=rfl
 have ho : (s.lay (yG s.p m)).o = s.o:=rfl
 simp only [sqW,lW,pW] at *
 rw [show ({ s.p with ls:=xK s.p.ls (yG s.p m) } : Lq) = (s.lay (yG s.p m)).p from rfl] at cY
 rw [hg,ho] at cS
 generalize vQ (s.lay (yG s.p m)) = S2 at *
 generalize (s.lay (yG s.p m)).p = P2 at *
 generalize yG s.p m = X at *
 generalize yB s.p.ls m.fr 1 = R at *
 obtain ⟨p,g,o⟩:=s
 dsimp only at *
 generalize zD o = O at *
 generalize zD S2.o = O2 at *
 obtain ⟨R1,R2⟩:=R
 clear hE h hms hxm h0 hg ho
 cases R2
 ·simp only [Bool.false_eq_true, if_false] at hIX
  subst hIX
  unfold Lr.cells lrZ at *
  dsimp only at *
  simp only [show zxs [] = [] from rfl] at *
  refine zE Tryz.tab Tryz.mixed Tryz.func92 rfl rfl Tryz.ntmps92 (by simp) (by simp) fun Q hr hn hp=>?_
  repeat' first|(refine yY 1024 1025 (lBx p (.row 1025) g) (rfl) (rfl) rfl (by simp [zN,zH,zX,inN,pos]) (fun x _=>cC x) rfl ?_)|(refine zV [1024,1025] (cR) (by decide) (by decide) (by simp [zQ,inN,pos,zO,zX]) (by simp [zN,zH,zX,inN,pos]) ⟨[],by simp,by simp,?_⟩;simp [lv,kpI,kpR,pos,ren,zX])|(refine zV [1024,1025] (cY) (by decide) (by decide) (by simp [zQ,inN,pos,zO,zX,ouN]) (by simp [zN,zH,zX,inN,pos]) ⟨[],by simp,by simp,?_⟩;simp [lv,kpI,kpR,pos,ren,zX])|(refine zV [1024,1025] (cD) (by decide) (by decide) (by simp [zQ,inN,pos,zO,zX,ouN]) (by simp [zN,zH,zX,inN,pos]) ⟨[],by simp,by simp,?_⟩;simp [lv,kpI,kpR,pos,ren,zX])|(refine zV [1024,1025] (cS) (by decide) (by decide) (by simp [zQ,inN,pos,zO,zX,ouN]) (by simp [zN,zH,zX,inN,pos]) ⟨[],by simp,by simp,?_⟩;simp [lv,kpI,kpR,pos,ren,zX])|(refine hK _ ?_;clear hK)|(refine zT fun K hK=>?_)|((first | refine zS ?_ | refine yZ rfl (by kernel_rfl) ?_);simp only [tZ,tY,strip])|((first | refine wOs fun K hK=>?_ | refine wQs fun K hK=>?_ | refine zW ?_);simp)|(refine zP ?_;try simp)|((first | refine wOn ?_ | refine wQn ?_);try simp only [zZ])
  all_goals first | apply hn
  all_goals refine ⟨[],by simp,by simp,?_⟩
  all_goals simp [Tryz.f92,yL,yM,zO,gaN,ouN,zX]
 ·simp only [if_true] at hIX
  subst hIX
  unfold Lr.cells at *
  dsimp only at *
  refine zE Tryz.tab Tryz.mixed Tryz.func92 rfl rfl Tryz.ntmps92 (by simp) (by simp) fun Q hr hn hp=>?_
  repeat' first|(refine yY 1024 1025 (lBx p (.row 1025) g) (rfl) (rfl) rfl (by simp [zN,zH,zX,inN,pos]) (fun x _=>cC x) rfl ?_)|(refine zV [1024,1025] (cR) (by decide) (by decide) (by simp [zQ,inN,pos,zO,zX]) (by simp [zN,zH,zX,inN,pos]) ⟨[],by simp,by simp,?_⟩;simp [lv,kpI,kpR,pos,ren,zX])|(refine zV [1024,1025] (cY) (by decide) (by decide) (by simp [zQ,inN,pos,zO,zX,ouN]) (by simp [zN,zH,zX,inN,pos]) ⟨[],by simp,by simp,?_⟩;simp [lv,kpI,kpR,pos,ren,zX])|(refine zV [1024,1025] (cD) (by decide) (by decide) (by simp [zQ,inN,pos,zO,zX,ouN]) (by simp [zN,zH,zX,inN,pos]) ⟨[],by simp,by simp,?_⟩;simp [lv,kpI,kpR,pos,ren,zX])|(refine zV [1024,1025] (cS) (by decide) (by decide) (by simp [zQ,inN,pos,zO,zX,ouN]) (by simp [zN,zH,zX,inN,pos]) ⟨[],by simp,by simp,?_⟩;simp [lv,kpI,kpR,pos,ren,zX])|(refine hK _ ?_;clear hK)|(refine zT fun K hK=>?_)|((first | refine zS ?_ | refine yZ rfl (by kernel_rfl) ?_);simp only [tZ,tY,strip])|((first | refine wOs fun K hK=>?_ | refine wQs fun K hK=>?_ | refine zW ?_);simp)|(refine zP ?_;try simp)|((first | refine wOn ?_ | refine wQn ?_);try simp only [zZ])
  all_goals first | apply hn
  all_goals refine ⟨[],by simp,by simp,?_⟩
  all_goals simp [Tryz.f92,yL,yM,zO,gaN,ouN,zX]
end Go.Proofs.YtffflakmofbilaaGreat
