/- Texts that the proof needs: LD12r. -/
import Derived.Test.YtffflakmofbilaaGreatP41LeadOrder
import Derived.Test.YtffflakmofbilaaGreatP42LeadOrder
namespace Go.Proofs.YtffflakmofbilaaGreat
set_option linter.unusedSimpArgs false
set_option linter.unusedVariables false
set_option maxRecDepth 8000
open Go Go.Av
attribute [local irreducible] Go.Av.yA Go.Av.zR Go.Av.xZ Go.Av.zJ Go.Av.xV Go.Av.zG Go.Av.Con
set_option maxHeartbeats 32000000 in
theorem tickR_con (p : Lq) (hk : OkH p.h) (hne : ¬ p.ls.length = 0) (hl : p.ls.length <= 10000) (hl2 : (yU p.ls).length <= 10000) (hm : ∀ y ∈ p.ls, y.ms.length <= 1000000) (f1 : p.mo = 2) : zB Tryz.prog 37 [.p (.agg p.cells)] (.tup [.p (.agg ({ p with wt := tkW p, ls := (yU p.ls).map tkX } : Lq).cells), .p (.sl 46 (zD (tkM p (yU p.ls)))), .p (B (!(if p.ph = 1 \/ p.ph = 2 then decide (8 < tkW p) else if p.ph = 3 then !yS p (tkN p.id (yU p.ls)) else false)))]) := by
 have c1:=startR_con p hk hne hl hm
 have cE:=fun O set=>enoughD_con { p with wt:=tkW p } ((yU p.ls).map tkX) O false set hk
 have hee : ∀ set,yS { p with wt:=tkW p } set = yS p set:=fun _=>rfl
 simp only [hee] at cE
 generalize yU p.ls = L at *
 have c4:=fun g O=>endR_con { p with wt:=tkW p } g O (lrs (L.map tkX))
 have hW : IntKind.i64.wrap (p.wt + 1) = tkW p:=rfl
 generalize tkW p = W at *
 have f1' : (p.mo = 2) = True:=eq_true f1
 have hres : ({ p with wt:=W,ls:=L.map tkX } : Lq).cells = [I p.id,I p.ac,I p.cu,.sl 5 (zns p.h.im.ns),.sl 1 (ints p.h.im.ss),I p.h.im.nx,I p.h.im.c.ep,I p.h.im.c.n,I p.h.im.c.kind,.sl 4 (mbs p.h.im.c.ms),I p.h.im.ae,I p.h.im.an,.sl 8 (yW p.h.lg),I p.d.e,I p.d.n,I p.mo,I 0,I 0,I 0,I 0,I 0,I 0,I 0,I 0,I 0,I 0,I 0,I 0,I 0,I 0,I 0,I 0,.sl 7 [],I p.ld,I p.ph,I W,I p.ep,.sl 8 (lrs (L.map tkX))]:=rfl
 rw [hres]
 have sM : ∀ x : Lr,yH { p with wt:=W } x.id (mgK 12) = yH p x.id (mgK 12):=fun _=>rfl
 clear f1 hk hl hm hne hres hee
 unfold lqFcR at c4
 unfold Lq.cells at *
 dsimp only at *
 refine zK Tryz.tab Tryz.mixed Tryz.func37 rfl rfl Tryz.ntmps37 (by simp) (by simp) fun Q hr hn=>?_
 repeat' first|(refine tickL_con p W L hl2 ?_ ?_)|(refine zV [] (c1) (by decide) (by decide) (by simp [zQ]) (by simp [zN,zH,toP]) ⟨[500,501,502],by simp,by simp,?_⟩;simp [lv,ouN,kpI,kpR,pos,ren,zX])|(refine hK _ ?_;clear hK)|(refine zT fun K hK=>?_)|(refine zS ?_;simp only [tZ,tY,strip])|((first | refine wOs fun K hK=>?_ | refine zW ?_);simp [ouN,zX,zO,f1',hW])|(first | refine zU ?_)|(refine zP ?_;try simp)|(refine wOn ?_;try simp only [zZ])
 ·simp [tkI,tkN,tkM,tkK,zD,ints,zX,zO]
 rintro st ⟨g5,hn6,g42,g43,hz,g2,b0,b1,b2⟩
 obtain ⟨z,bz,hzl⟩:=hz
 simp only [blockA_e,if_true,zZ]
 have hfin : tkK L L.length = L.map tkX:=by unfold tkK;rw [List.take_length,List.drop_length,List.append_nil]
 rw [List.take_length] at hn6 b1
 rw [hfin] at b2
 clear hfin sM c1
 by_cases p1 : p.ph = 1
 ·rw [if_pos (.inl p1)] at hr hn
  replace p1 : (p.ph = 1) = True:=eq_true p1
  clear hn6
  by_cases w1 : 8 < W
  ·rw [decide_eq_true w1] at hr hn
   replace c4:=c4 true (zD (tkM p L))
   generalize zD (tkM p L) = OO at *
   have hzd : List.drop 38 z = []:=List.drop_of_length_le (by omega)
   repeat' first|(refine zV [500,501,502] (c4) (by decide) (by decide) (by simp [zQ,inN,pos,zO,zX,b1,b2]) (by simp [zN,zH,zX,inN,pos]) ⟨[],by simp,by simp,?_⟩;simp [lv,ouN,kpI,kpR,pos,ren,zX,uJ,xA])|(refine hK _ ?_;clear hK)|(refine zT fun K hK=>?_)|(refine zS ?_;simp only [tZ,tY,strip])|((first | refine wOs fun K hK=>?_ | refine zW ?_);simp [zO,g2,g5,b0,bz,hzl,p1,w1])|(first | refine zU ?_)|((first | refine zL ?_ | refine zP ?_);try simp)|(refine wOn ?_;try simp only [zZ])
   all_goals first | apply hr
   all_goals simp [Tryz.f37,pos,zO,g2,hzl]
  ·rw [decide_eq_false w1] at hr hn
   replace c4:=c4 false (zD (tkM p L))
   generalize zD (tkM p L) = OO at *
   have hzd : List.drop 38 z = []:=List.drop_of_length_le (by omega)
   repeat' first|(refine zV [500,501,502] (c4) (by decide) (by decide) (by simp [zQ,inN,pos,zO,zX,b1,b2]) (by simp [zN,zH,zX,inN,pos]) ⟨[],by simp,by simp,?_⟩;simp [lv,ouN,kpI,kpR,pos,ren,zX,uJ,xA])|(refine hK _ ?_;clear hK)|(refine zT fun K hK=>?_)|(refine zS ?_;simp only [tZ,tY,strip])|((first | refine wOs fun K hK=>?_ | refine zW ?_);simp [zO,g2,g5,b0,bz,hzl,p1,w1])|(first | refine zU ?_)|((first | refine zL ?_ | refine zP ?_);try simp)|(refine wOn ?_;try simp only [zZ])
   all_goals first | apply hr
   all_goals simp [Tryz.f37,pos,zO,g2,hzl]
 by_cases p2 : p.ph = 2
 ·rw [if_pos (.inr p2)] at hr hn
  replace p1 : (p.ph = 1) = False:=eq_false p1
  replace p2 : (p.ph = 2) = True:=eq_true p2
  clear hn6
  by_cases w1 : 8 < W
  ·rw [decide_eq_true w1] at hr hn
   replace c4:=c4 true (zD (tkM p L))
   generalize zD (tkM p L) = OO at *
   have hzd : List.drop 38 z = []:=List.drop_of_length_le (by omega)
   repeat' first|(refine zV [500,501,502] (c4) (by decide) (by decide) (by simp [zQ,inN,pos,zO,zX,b1,b2]) (by simp [zN,zH,zX,inN,pos]) ⟨[],by simp,by simp,?_⟩;simp [lv,ouN,kpI,kpR,pos,ren,zX,uJ,xA])|(refine hK _ ?_;clear hK)|(refine zT fun K hK=>?_)|(refine zS ?_;simp only [tZ,tY,strip])|((first | refine wOs fun K hK=>?_ | refine zW ?_);simp [zO,g2,g5,b0,bz,hzl,p1,p2,w1])|(first | refine zU ?_)|(refine zL ?_;try simp)|(refine wOn ?_;try simp only [zZ])
   all_goals first | apply hr
   all_goals simp [Tryz.f37,pos,zO,g2,hzl]
  ·rw [decide_eq_false w1] at hr hn
   replace c4:=c4 false (zD (tkM p L))
   generalize zD (tkM p L) = OO at *
   have hzd : List.drop 38 z = []:=List.drop_of_length_le (by omega)
   repeat' first|(refine zV [500,501,502] (c4) (by decide) (by decide) (by simp [zQ,inN,pos,zO,zX,b1,b2]) (by simp [zN,zH,zX,inN,pos]) ⟨[],by simp,by simp,?_⟩;simp [lv,ouN,kpI,kpR,pos,ren,zX,uJ,xA])|(refine hK _ ?_;clear hK)|(refine zT fun K hK=>?_)|(refine zS ?_;simp only [tZ,tY,strip])|((first | refine wOs fun K hK=>?_ | refine zW ?_);simp [zO,g2,g5,b0,bz,hzl,p1,p2,w1])|(first | refine zU ?_)|(refine zL ?_;try simp)|(refine wOn ?_;try simp only [zZ])
   all_goals first | apply hr
   all_goals simp [Tryz.f37,pos,zO,g2,hzl]
 rw [if_neg (fun h=>h.elim p1 p2)] at hr hn
 replace p1 : (p.ph = 1) = False:=eq_false p1
 replace p2 : (p.ph = 2) = False:=eq_false p2
 by_cases p3 : p.ph = 3
 ·rw [if_pos p3] at hr hn
  replace p3 : (p.ph = 3) = True:=eq_true p3
  replace cE:=cE (zD (tkM p L)) (tkN p.id L)
  generalize yS p (tkN p.id L) = eb at *
  rcases hn6 with n6 | ⟨n6,n97⟩
  ·skip
   replace c4:=c4 (!eb) (zD (tkM p L))
   generalize zD (tkM p L) = OO at *
   have hzd : List.drop 38 z = []:=List.drop_of_length_le (by omega)
   repeat' first|(refine uM (cE) (by simp [argsA,argA,b0,b1,b2]) rfl ?_;simp)|(refine zV [500,501,502] (c4) (by decide) (by decide) (by simp [zQ,inN,pos,zO,zX,b1,b2]) (by simp [zN,zH,zX,inN,pos]) ⟨[],by simp,by simp,?_⟩;simp [lv,ouN,kpI,kpR,pos,ren,zX,uJ,xA])|(refine hK _ ?_;clear hK)|(refine zT fun K hK=>?_)|(refine zS ?_;simp only [tZ,tY,strip])|((first | refine wOs fun K hK=>?_ | refine zW ?_);simp [zO,g2,g5,b0,bz,hzl,n6,p1,p2,p3])|(first | refine zU ?_)|(refine zL ?_;try simp)|(refine wOn ?_;try simp only [zZ])
   all_goals first | apply hr
   all_goals simp [Tryz.f37,pos,zO,g2,hzl]
  ·skip
   replace c4:=c4 (!eb) (zD (tkM p L))
   generalize zD (tkM p L) = OO at *
   have hzd : List.drop 38 z = []:=List.drop_of_length_le (by omega)
   repeat' first|(refine uM (cE) (by simp [argsA,argA,n97,b0,b1,b2]) rfl ?_;simp)|(refine zV [500,501,502] (c4) (by decide) (by decide) (by simp [zQ,inN,pos,zO,zX,b1,b2]) (by simp [zN,zH,zX,inN,pos]) ⟨[],by simp,by simp,?_⟩;simp [lv,ouN,kpI,kpR,pos,ren,zX,uJ,xA])|(refine hK _ ?_;clear hK)|(refine zT fun K hK=>?_)|(refine zS ?_;simp only [tZ,tY,strip])|((first | refine wOs fun K hK=>?_ | refine zW ?_);simp [zO,g2,g5,b0,bz,hzl,n6,p1,p2,p3])|(first | refine zU ?_)|(refine zL ?_;try simp)|(refine wOn ?_;try simp only [zZ])
   all_goals first | apply hr
   all_goals simp [Tryz.f37,pos,zO,g2,hzl]
 ·rw [if_neg p3] at hr hn
  replace p3 : (p.ph = 3) = False:=eq_false p3
  clear hn6
  replace c4:=c4 false (zD (tkM p L))
  generalize zD (tkM p L) = OO at *
  have hzd : List.drop 38 z = []:=List.drop_of_length_le (by omega)
  repeat' first|(refine zV [500,501,502] (c4) (by decide) (by decide) (by simp [zQ,inN,pos,zO,zX,b0,b1,b2]) (by simp [zN,zH,zX,inN,pos]) ⟨[],by simp,by simp,?_⟩;simp [lv,ouN,kpI,kpR,pos,ren,zX,uJ,xA])|(refine hK _ ?_;clear hK)|(refine zT fun K hK=>?_)|(refine zS ?_;simp only [tZ,tY,strip])|((first | refine wOs fun K hK=>?_ | refine zW ?_);simp [zO,g2,g5,b0,bz,hzl,p1,p2,p3])|(first | refine zU ?_)|((first | refine zL ?_ | refine zP ?_);try simp)|(refine wOn ?_;try simp only [zZ])
  all_goals first | apply hr
  all_goals simp [Tryz.f37,pos,zO,g2,hzl]
end Go.Proofs.YtffflakmofbilaaGreat
