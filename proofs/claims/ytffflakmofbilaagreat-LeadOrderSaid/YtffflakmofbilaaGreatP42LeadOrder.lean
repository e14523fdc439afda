/- Texts that the proof needs: LD12t0. -/
import Derived.Test.YtffflakmofbilaaGreatP39LeadOrder
namespace Go.Proofs.YtffflakmofbilaaGreat
set_option linter.unusedSimpArgs false
set_option linter.unusedVariables false
set_option maxRecDepth 8000
open Go Go.Av
attribute [local irreducible] Go.Av.yA Go.Av.zR Go.Av.xZ Go.Av.zJ Go.Av.xV Go.Av.zG Go.Av.Con
set_option maxHeartbeats 16000000 in
theorem tick0_con (p : Lq) (hk : OkH p.h) (h0 : p.ls = []) (f1 : p.mo = 2) : zB Tryz.prog 37 [.p (.agg p.cells)] (.tup [.p (.agg ({ p with wt := tkW p } : Lq).cells), .p (.sl 46 []), .p (B (!(if p.ph = 1 \/ p.ph = 2 then decide (8 < tkW p) else if p.ph = 3 then !yS p [p.id] else false)))]) := by
 have c1:=uS p hk (by simp [h0]) (by simp [h0])
 have hr0 : yU p.ls = []:=by rw [h0];rfl
 rw [show ({ p with ls:=yU p.ls } : Lq) = p by rw [hr0,<- h0]] at c1
 have hrow : ∀ (P : Lq) (g : Bool),zB Tryz.prog 65 [.rptr (lqCc P 46 [] g) 0,.p (.sl 1 (ints [p.id]))] (.p (B (yS P [p.id]))) \/ True:=fun _ _=>.inr trivial
 clear hrow
 have cE:=enoughA_con { p with wt:=tkW p } [] false [p.id] hk (by have:=endN_len (nsOf p.h p.h.lg) p.d.e p.d.n;show (yX p.h p.d.e p.d.n).length <= 1000;unfold yX;omega) (fun c hc=>by have:=needs_ok hk p.d.e p.d.n c hc;omega)
 rw [show yS { p with wt:=tkW p } [p.id] = yS p [p.id] from rfl,<- lqCc_46] at cE
 have c4:=fun g=>end_con { p with wt:=tkW p } g []
 generalize yS p [p.id] = eb at *
 have hW : IntKind.i64.wrap (p.wt + 1) = tkW p:=rfl
 generalize tkW p = W at *
 have hls : lrs p.ls = []:=by rw [h0];rfl
 have f1' : (p.mo = 2) = True:=eq_true f1
 simp only [lW,show zD [] = [] from rfl,show ints [p.id] = [[I p.id]] from rfl] at *
 clear f1 hk hr0
 unfold Lq.cells at *
 dsimp only at *
 simp only [hls] at c1 c4 ⊢
 by_cases p1 : p.ph = 1
 ·rw [if_pos (.inl p1)]
  replace p1 : (p.ph = 1) = True:=eq_true p1
  by_cases w1 : 8 < W
  ·rw [decide_eq_true w1]
   replace c4:=c4 true
   refine zK Tryz.tab Tryz.mixed Tryz.func37 rfl rfl Tryz.ntmps37 (by simp) (by simp) fun Q hr hn=>?_
   repeat' first|(refine zV [] (c1) (by decide) (by decide) (by simp [zQ]) (by simp [zN,zH,toP]) ⟨[500,501],by simp,by simp,?_⟩;simp [lv,ouN,kpI,kpR,pos,ren,zX])|(refine hK _ ?_;clear hK)|(refine zT fun K hK=>?_)|(refine zS ?_;simp only [tZ,tY,strip])|((first | refine wOs fun K hK=>?_ | refine zW ?_);simp [ouN,zX,zO,f1',hW,hls])|(first | refine zU ?_)|(refine zP ?_;try simp)|(refine wOn ?_;try simp only [zZ])
   refine yJ (fun N st=>st.s 5 = .ptr 500 0 /\ st.s 6 = .full 1 [[I p.id]] /\ st.s 42 = .p (I 0) /\ st.s 43 = .p (I 0) /\ (∃ z,st.b 2 = some (.box 47 z) /\ z.length = 38) /\ st.s 2 = .ptr 2 0 /\ st.b 500 = some (.box 101 (lBx { p with wt:=W } (.row 501) false)) /\ st.b 501 = some (.row 65 46 [])) 0 (by simp [zX,zO]) fun K N st hL ⟨g5,g6,g42,g43,hz,g2,b0,b1⟩=>?_
   obtain ⟨z,bz,hzl⟩:=hz
   have hzd : List.drop 38 z = []:=List.drop_of_length_le (by omega)
   repeat' first|(refine zV [500,501] (c4) (by decide) (by decide) (by simp [zQ,inN,pos,zO,zX,b1]) (by simp [zN,zH,zX,inN,pos]) ⟨[],by simp,by simp,?_⟩;simp [lv,ouN,kpI,kpR,pos,ren,zX])|(refine hK _ ?_;clear hK)|(clear hK;refine hK _ ?_;clear hK)|(refine zT fun K hK=>?_)|(refine zS ?_;simp only [tZ,tY,strip])|((first | refine wOs fun K hK=>?_ | refine zW ?_);simp [zO,g5,g42,g43,g2,b0,bz,hzl,p1,w1])|(first | refine zU ?_)|((first | refine zL ?_ | refine zC ?_ | refine zP ?_);try simp)|(refine wOn ?_;try simp only [zZ])
   all_goals first | apply hr
   all_goals simp [Tryz.f37,pos,zO,g2,hzl]
  ·rw [decide_eq_false w1]
   replace c4:=c4 false
   refine zK Tryz.tab Tryz.mixed Tryz.func37 rfl rfl Tryz.ntmps37 (by simp) (by simp) fun Q hr hn=>?_
   repeat' first|(refine zV [] (c1) (by decide) (by decide) (by simp [zQ]) (by simp [zN,zH,toP]) ⟨[500,501],by simp,by simp,?_⟩;simp [lv,ouN,kpI,kpR,pos,ren,zX])|(refine hK _ ?_;clear hK)|(refine zT fun K hK=>?_)|(refine zS ?_;simp only [tZ,tY,strip])|((first | refine wOs fun K hK=>?_ | refine zW ?_);simp [ouN,zX,zO,f1',hW,hls])|(first | refine zU ?_)|(refine zP ?_;try simp)|(refine wOn ?_;try simp only [zZ])
   refine yJ (fun N st=>st.s 5 = .ptr 500 0 /\ st.s 6 = .full 1 [[I p.id]] /\ st.s 42 = .p (I 0) /\ st.s 43 = .p (I 0) /\ (∃ z,st.b 2 = some (.box 47 z) /\ z.length = 38) /\ st.s 2 = .ptr 2 0 /\ st.b 500 = some (.box 101 (lBx { p with wt:=W } (.row 501) false)) /\ st.b 501 = some (.row 65 46 [])) 0 (by simp [zX,zO]) fun K N st hL ⟨g5,g6,g42,g43,hz,g2,b0,b1⟩=>?_
   obtain ⟨z,bz,hzl⟩:=hz
   have hzd : List.drop 38 z = []:=List.drop_of_length_le (by omega)
   repeat' first|(refine zV [500,501] (c4) (by decide) (by decide) (by simp [zQ,inN,pos,zO,zX,b1]) (by simp [zN,zH,zX,inN,pos]) ⟨[],by simp,by simp,?_⟩;simp [lv,ouN,kpI,kpR,pos,ren,zX])|(refine hK _ ?_;clear hK)|(clear hK;refine hK _ ?_;clear hK)|(refine zT fun K hK=>?_)|(refine zS ?_;simp only [tZ,tY,strip])|((first | refine wOs fun K hK=>?_ | refine zW ?_);simp [zO,g5,g42,g43,g2,b0,bz,hzl,p1,w1])|(first | refine zU ?_)|((first | refine zL ?_ | refine zC ?_ | refine zP ?_);try simp)|(refine wOn ?_;try simp only [zZ])
   all_goals first | apply hr
   all_goals simp [Tryz.f37,pos,zO,g2,hzl]
 by_cases p2 : p.ph = 2
 ·rw [if_pos (.inr p2)]
  replace p1 : (p.ph = 1) = False:=eq_false p1
  replace p2 : (p.ph = 2) = True:=eq_true p2
  by_cases w1 : 8 < W
  ·rw [decide_eq_true w1]
   replace c4:=c4 true
   refine zK Tryz.tab Tryz.mixed Tryz.func37 rfl rfl Tryz.ntmps37 (by simp) (by simp) fun Q hr hn=>?_
   repeat' first|(refine zV [] (c1) (by decide) (by decide) (by simp [zQ]) (by simp [zN,zH,toP]) ⟨[500,501],by simp,by simp,?_⟩;simp [lv,ouN,kpI,kpR,pos,ren,zX])|(refine hK _ ?_;clear hK)|(refine zT fun K hK=>?_)|(refine zS ?_;simp only [tZ,tY,strip])|((first | refine wOs fun K hK=>?_ | refine zW ?_);simp [ouN,zX,zO,f1',hW,hls])|(first | refine zU ?_)|(refine zP ?_;try simp)|(refine wOn ?_;try simp only [zZ])
   refine yJ (fun N st=>st.s 5 = .ptr 500 0 /\ st.s 6 = .full 1 [[I p.id]] /\ st.s 42 = .p (I 0) /\ st.s 43 = .p (I 0) /\ (∃ z,st.b 2 = some (.box 47 z) /\ z.length = 38) /\ st.s 2 = .ptr 2 0 /\ st.b 500 = some (.box 101 (lBx { p with wt:=W } (.row 501) false)) /\ st.b 501 = some (.row 65 46 [])) 0 (by simp [zX,zO]) fun K N st hL ⟨g5,g6,g42,g43,hz,g2,b0,b1⟩=>?_
   obtain ⟨z,bz,hzl⟩:=hz
   have hzd : List.drop 38 z = []:=List.drop_of_length_le (by omega)
   repeat' first|(refine zV [500,501] (c4) (by decide) (by decide) (by simp [zQ,inN,pos,zO,zX,b1]) (by simp [zN,zH,zX,inN,pos]) ⟨[],by simp,by simp,?_⟩;simp [lv,ouN,kpI,kpR,pos,ren,zX])|(refine hK _ ?_;clear hK)|(clear hK;refine hK _ ?_;clear hK)|(refine zT fun K hK=>?_)|(refine zS ?_;simp only [tZ,tY,strip])|((first | refine wOs fun K hK=>?_ | refine zW ?_);simp [zO,g5,g42,g43,g2,b0,bz,hzl,p1,p2,w1])|(first | refine zU ?_)|((first | refine zL ?_ | refine zC ?_);try simp)|(refine wOn ?_;try simp only [zZ])
   all_goals first | apply hr
   all_goals simp [Tryz.f37,pos,zO,g2,hzl]
  ·rw [decide_eq_false w1]
   replace c4:=c4 false
   refine zK Tryz.tab Tryz.mixed Tryz.func37 rfl rfl Tryz.ntmps37 (by simp) (by simp) fun Q hr hn=>?_
   repeat' first|(refine zV [] (c1) (by decide) (by decide) (by simp [zQ]) (by simp [zN,zH,toP]) ⟨[500,501],by simp,by simp,?_⟩;simp [lv,ouN,kpI,kpR,pos,ren,zX])|(refine hK _ ?_;clear hK)|(refine zT fun K hK=>?_)|(refine zS ?_;simp only [tZ,tY,strip])|((first | refine wOs fun K hK=>?_ | refine zW ?_);simp [ouN,zX,zO,f1',hW,hls])|(first | refine zU ?_)|(refine zP ?_;try simp)|(refine wOn ?_;try simp only [zZ])
   refine yJ (fun N st=>st.s 5 = .ptr 500 0 /\ st.s 6 = .full 1 [[I p.id]] /\ st.s 42 = .p (I 0) /\ st.s 43 = .p (I 0) /\ (∃ z,st.b 2 = some (.box 47 z) /\ z.length = 38) /\ st.s 2 = .ptr 2 0 /\ st.b 500 = some (.box 101 (lBx { p with wt:=W } (.row 501) false)) /\ st.b 501 = some (.row 65 46 [])) 0 (by simp [zX,zO]) fun K N st hL ⟨g5,g6,g42,g43,hz,g2,b0,b1⟩=>?_
   obtain ⟨z,bz,hzl⟩:=hz
   have hzd : List.drop 38 z = []:=List.drop_of_length_le (by omega)
   repeat' first|(refine zV [500,501] (c4) (by decide) (by decide) (by simp [zQ,inN,pos,zO,zX,b1]) (by simp [zN,zH,zX,inN,pos]) ⟨[],by simp,by simp,?_⟩;simp [lv,ouN,kpI,kpR,pos,ren,zX])|(refine hK _ ?_;clear hK)|(clear hK;refine hK _ ?_;clear hK)|(refine zT fun K hK=>?_)|(refine zS ?_;simp only [tZ,tY,strip])|((first | refine wOs fun K hK=>?_ | refine zW ?_);simp [zO,g5,g42,g43,g2,b0,bz,hzl,p1,p2,w1])|(first | refine zU ?_)|((first | refine zL ?_ | refine zC ?_);try simp)|(refine wOn ?_;try simp only [zZ])
   all_goals first | apply hr
   all_goals simp [Tryz.f37,pos,zO,g2,hzl]
 rw [if_neg (fun h=>h.elim p1 p2)]
 replace p1 : (p.ph = 1) = False:=eq_false p1
 replace p2 : (p.ph = 2) = False:=eq_false p2
 by_cases p3 : p.ph = 3
 ·rw [if_pos p3]
  replace p3 : (p.ph = 3) = True:=eq_true p3
  replace c4:=c4 (!eb)
  refine zK Tryz.tab Tryz.mixed Tryz.func37 rfl rfl Tryz.ntmps37 (by simp) (by simp) fun Q hr hn=>?_
  repeat' first|(refine zV [] (c1) (by decide) (by decide) (by simp [zQ]) (by simp [zN,zH,toP]) ⟨[500,501],by simp,by simp,?_⟩;simp [lv,ouN,kpI,kpR,pos,ren,zX])|(refine hK _ ?_;clear hK)|(refine zT fun K hK=>?_)|(refine zS ?_;simp only [tZ,tY,strip])|((first | refine wOs fun K hK=>?_ | refine zW ?_);simp [ouN,zX,zO,f1',hW,hls])|(first | refine zU ?_)|(refine zP ?_;try simp)|(refine wOn ?_;try simp only [zZ])
  refine yJ (fun N st=>st.s 5 = .ptr 500 0 /\ st.s 6 = .full 1 [[I p.id]] /\ st.s 42 = .p (I 0) /\ st.s 43 = .p (I 0) /\ (∃ z,st.b 2 = some (.box 47 z) /\ z.length = 38) /\ st.s 2 = .ptr 2 0 /\ st.b 500 = some (.box 101 (lBx { p with wt:=W } (.row 501) false)) /\ st.b 501 = some (.row 65 46 [])) 0 (by simp [zX,zO]) fun K N st hL ⟨g5,g6,g42,g43,hz,g2,b0,b1⟩=>?_
  obtain ⟨z,bz,hzl⟩:=hz
  have hzd : List.drop 38 z = []:=List.drop_of_length_le (by omega)
  repeat' first|(refine uM (cE) (by simp [argsA,argA,b0,b1]) rfl ?_;simp)|(refine zV [500,501] (c4) (by decide) (by decide) (by simp [zQ,inN,pos,zO,zX,b1]) (by simp [zN,zH,zX,inN,pos]) ⟨[],by simp,by simp,?_⟩;simp [lv,ouN,kpI,kpR,pos,ren,zX])|(refine hK _ ?_;clear hK)|(clear hK;refine hK _ ?_;clear hK)|(refine zT fun K hK=>?_)|(refine zS ?_;simp only [tZ,tY,strip])|((first | refine wOs fun K hK=>?_ | refine zW ?_);simp [zO,g5,g6,g42,g43,g2,b0,bz,hzl,p1,p2,p3])|(first | refine zU ?_)|((first | refine zL ?_ | refine zC ?_);try simp)|(refine wOn ?_;try simp only [zZ])
  all_goals first | apply hr
  all_goals simp [Tryz.f37,pos,zO,g2,hzl]
 ·rw [if_neg p3]
  replace p3 : (p.ph = 3) = False:=eq_false p3
  replace c4:=c4 false
  refine zK Tryz.tab Tryz.mixed Tryz.func37 rfl rfl Tryz.ntmps37 (by simp) (by simp) fun Q hr hn=>?_
  repeat' first|(refine zV [] (c1) (by decide) (by decide) (by simp [zQ]) (by simp [zN,zH,toP]) ⟨[500,501],by simp,by simp,?_⟩;simp [lv,ouN,kpI,kpR,pos,ren,zX])|(refine hK _ ?_;clear hK)|(refine zT fun K hK=>?_)|(refine zS ?_;simp only [tZ,tY,strip])|((first | refine wOs fun K hK=>?_ | refine zW ?_);simp [ouN,zX,zO,f1',hW,hls])|(first | refine zU ?_)|(refine zP ?_;try simp)|(refine wOn ?_;try simp only [zZ])
  refine yJ (fun N st=>st.s 5 = .ptr 500 0 /\ st.s 6 = .full 1 [[I p.id]] /\ st.s 42 = .p (I 0) /\ st.s 43 = .p (I 0) /\ (∃ z,st.b 2 = some (.box 47 z) /\ z.length = 38) /\ st.s 2 = .ptr 2 0 /\ st.b 500 = some (.box 101 (lBx { p with wt:=W } (.row 501) false)) /\ st.b 501 = some (.row 65 46 [])) 0 (by simp [zX,zO]) fun K N st hL ⟨g5,g6,g42,g43,hz,g2,b0,b1⟩=>?_
  obtain ⟨z,bz,hzl⟩:=hz
  have hzd : List.drop 38 z = []:=List.drop_of_length_le (by omega)
  repeat' first|(refine zV [500,501] (c4) (by decide) (by decide) (by simp [zQ,inN,pos,zO,zX,b0,b1]) (by simp [zN,zH,zX,inN,pos]) ⟨[],by simp,by simp,?_⟩;simp [lv,ouN,kpI,kpR,pos,ren,zX])|(refine hK _ ?_;clear hK)|(clear hK;refine hK _ ?_;clear hK)|(refine zT fun K hK=>?_)|(refine zS ?_;simp only [tZ,tY,strip])|((first | refine wOs fun K hK=>?_ | refine zW ?_);simp [zO,g5,g42,g43,g2,b0,bz,hzl,p1,p2,p3])|(first | refine zU ?_)|((first | refine zL ?_ | refine zC ?_ | refine zP ?_);try simp)|(refine wOn ?_;try simp only [zZ])
  all_goals first | apply hr
  all_goals simp [Tryz.f37,pos,zO,g2,hzl]
end Go.Proofs.YtffflakmofbilaaGreat
