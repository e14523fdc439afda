/- Texts that the proof needs: LD8a LD8b LD8c. -/
import Derived.Test.YtffflakmofbilaaGreatP33LeadOrder
namespace Go.Proofs.YtffflakmofbilaaGreat
set_option linter.unusedSimpArgs false
set_option linter.unusedVariables false
set_option maxRecDepth 8000
open Go Go.Av
attribute [local irreducible] Go.Av.yA Go.Av.zR Go.Av.xZ Go.Av.zJ Go.Av.xV Go.Av.zG Go.Av.Con
theorem chosenP_con (p : Lq) (q : PV) (g : Bool) : Con Tryz.prog 91 [.ptr 1024 0] (pW p q g) (.ret (.p (B (decide (¬ p.ep = 0)))) [] (pW p q g)) := by
 unfold pW
 by_cases h : p.ep = 0
 ·rw [decide_eq_false (not_not_intro h)]
  replace h : (p.ep = 0) = True:=eq_true h
  refine zE Tryz.tab Tryz.mixed Tryz.func91 rfl rfl Tryz.ntmps91 (by simp) (by simp) fun Q hr hn hp=>?_
  repeat' first|(refine hK _ ?_;clear hK)|(refine zT fun K hK=>?_)|(refine zS ?_;simp only [tZ,tY,strip])|(refine wOs fun K hK=>?_;simp)|(refine zL ?_;try simp)|(refine wOn ?_;try simp only [zZ])
  all_goals first | apply hr
  all_goals refine ⟨[],by simp,by simp,?_⟩
  all_goals simp [Tryz.f91,yL,yM,zO,zX,h]
 ·rw [decide_eq_true h]
  replace h : (p.ep = 0) = False:=eq_false h
  refine zE Tryz.tab Tryz.mixed Tryz.func91 rfl rfl Tryz.ntmps91 (by simp) (by simp) fun Q hr hn hp=>?_
  repeat' first|(refine hK _ ?_;clear hK)|(refine zT fun K hK=>?_)|(refine zS ?_;simp only [tZ,tY,strip])|(refine wOs fun K hK=>?_;simp)|(refine zL ?_;try simp)|(refine wOn ?_;try simp only [zZ])
  all_goals first | apply hr
  all_goals refine ⟨[],by simp,by simp,?_⟩
  all_goals simp [Tryz.f91,yL,yM,zO,zX,h]
theorem enoughP_con (p : Lq) (q : PV) (g : Bool) (set : List Int) (hk : OkH p.h) : Con Tryz.prog 65 [.ptr 1024 0, .p (.sl 1 (ints set))] (pW p q g) (.ret (.p (B (yS p set))) [] (pW p q g)) := by
 have c1:=needsP_con p q g hk
 have c2:=all_con (yX p.h p.d.e p.d.n) set (by have:=endN_len (nsOf p.h p.h.lg) p.d.e p.d.n;unfold yX;omega) (fun c hc=>by have:=needs_ok hk p.d.e p.d.n c hc;omega)
 unfold yS
 generalize allQ (yX p.h p.d.e p.d.n) set = b at *
 generalize cfs (yX p.h p.d.e p.d.n) = C at *
 unfold pW at *
 refine zE Tryz.tab Tryz.mixed Tryz.func65 rfl rfl Tryz.ntmps65 (by simp) (by simp) fun Q hr hn hp=>?_
 repeat' first|(refine zV [1024] (c1) (by decide) (by decide) (by simp [zQ,zO,zX]) (by simp [zN,zH,zX,inN,pos]) ⟨[],by simp,by simp,?_⟩;simp [lv,kpI,kpR,pos,ren,zX])|(refine zR.pure (c2) rfl ?_)|(refine hK _ ?_;clear hK)|(refine zT fun K hK=>?_)|(refine zS ?_;simp only [tZ,tY,strip])|((first | refine wOs fun K hK=>?_ | refine zY ?_);simp)|(refine zL ?_;try simp)|(refine wOn ?_;try simp only [zZ])
 all_goals first | apply hr
 all_goals refine ⟨[],by simp,by simp,?_⟩
 all_goals simp [Tryz.f65,yL,yM,zO,zX]
set_option maxHeartbeats 8000000 in
theorem est_con {n b : Nat} {s : Sq} (h : OkS n b s) (hn' : n <= 1000) (hb' : b <= 10000) : Con Tryz.prog 102 [.ptr 1024 0] (sqW s) (.ret (.tup []) [] (sqW (estS s))) := by
 have cL:=lastH_con s.p.h h.hk.lg
 have cS:=set_con s.p.id 4 (zA s.p.h).e (zA s.p.h).n s.p.ls (by have:=h.ll;omega)
 have cE:=fun x=>enoughP_con s.p (.v x) s.g (xC s.p.id 4 (zA s.p.h).e (zA s.p.h).n s.p.ls) h.hk
 have hE : estS s = if yS s.p (xC s.p.id 4 (zA s.p.h).e (zA s.p.h).n s.p.ls) = true then vD (s.p.ls.foldl xW (s.p.ls.foldl (xX (zA s.p.h)) { s with p:={ s.p with ph:=3,wt:=0,d:=zA s.p.h } })) else s:=rfl
 have hll:=h.ll
 obtain ⟨p,g,o⟩:=s
 dsimp only at *
 simp only [sqW,lW,pW] at *
 generalize xC p.id 4 (zA p.h).e (zA p.h).n p.ls = set at *
 generalize zA p.h = last at *
 by_cases h1 : yS p set = true
 case neg =>
  have h1' : yS p set = false:=by simpa using h1
  rw [if_neg h1] at hE
  rw [hE]
  rw [h1'] at cE
  clear hE h1 h1' h
  generalize zD o = O at *
  refine zE Tryz.tab Tryz.mixed Tryz.func102 rfl rfl Tryz.ntmps102 (by simp) (by simp) fun Q hr hn hp=>?_
  repeat' first|(refine zR.pure (cL) rfl ?_)|(refine zJ.pure (cS) rfl ?_)|(refine yY 1024 1025 (lBx p (.row 1025) g) (rfl) (rfl) rfl (by simp [zN,zH,zX,inN,pos]) (fun x _=>cE x) rfl ?_)|(refine hK _ ?_;clear hK)|(refine zT fun K hK=>?_)|((first | refine zS ?_ | refine yZ rfl (by kernel_rfl) ?_);simp only [tZ,tY,strip])|((first | refine wOs fun K hK=>?_ | refine wQs fun K hK=>?_ | refine zY ?_ | refine zM ?_ | refine zW ?_);simp)|(refine zL ?_;try simp)|((first | refine wOn ?_ | refine wQn ?_);try simp only [zZ])
  all_goals first | apply hr
  all_goals refine ⟨[],by simp,by simp,?_⟩
  all_goals simp [Tryz.f102,yL,yM,zO,gaN,zX]
 rw [if_pos h1] at hE
 rw [hE]
 rw [h1] at cE
 clear hE h1
 have ok1 : OkS n b ⟨{ p with ph:=3,wt:=0,d:=last },g,o⟩:=⟨h.hk,h.ll,h.lo,h.lm⟩
 have hlm:=h.lm
 clear h
 refine zE Tryz.tab Tryz.mixed Tryz.func102 rfl rfl Tryz.ntmps102 (by simp) (by simp) fun Q hr hn hp=>?_
 repeat' first|(refine zR.pure (cL) rfl ?_)|(refine zJ.pure (cS) rfl ?_)|(refine yY 1024 1025 (lBx p (.row 1025) g) (rfl) (rfl) rfl (by simp [zN,zH,zX,inN,pos]) (fun x _=>cE x) rfl ?_)|(refine hK _ ?_;clear hK)|(refine hK _ _ ?_;clear hK)|(refine zT fun K hK=>?_)|((first | refine zS ?_ | refine yZ rfl (by kernel_rfl) ?_ | refine yI ?_);simp only [tZ,tY,strip])|((first | refine wIs fun K hK=>?_ | refine wOs fun K hK=>?_ | refine wQs fun K hK=>?_ | refine zY ?_ | refine zM ?_ | refine zW ?_);simp)|(refine wIn ?_;refine And.intro (by kernel_rfl) ?_;try simp only [zZ])|(first | refine zU ?_)|(refine zP ?_;try simp)|((first | refine wOn ?_ | refine wQn ?_);try simp only [zZ])
 clear cL cS cE
 refine yJ (fun N st=>∃ k S,k + N = p.ls.length /\ S = (p.ls.take k).foldl (xX last) ⟨{ p with ph:=3,wt:=0,d:=last },g,o⟩ /\ st.s 0 = .ptr 1024 0 /\ st.s 2 = .ptr 2 0 /\ st.b 2 = some (.box 25 [.p (I last.e),.p (I last.n)]) /\ st.s 45 = .p (.sl 8 (lrs p.ls)) /\ st.s 46 = .p (I p.ls.length) /\ st.s 47 = .p (I k) /\ st.b 1024 = some (.box 101 (lBx S.p (.row 1025) S.g)) /\ st.b 1025 = some (.row 65 46 (zD S.o))) p.ls.length ⟨0,⟨{ p with ph:=3,wt:=0,d:=last },g,o⟩,by simp ⟩ fun K N st hL ⟨k,S,hkN,hS,g0,gz,bz,ga,gb,gc,b0,b1⟩=>?_
 by_cases hlt : k < p.ls.length
 ·have hw := yF k _ hlt (by omega)
  have he:=xQ hlt
  have okS : OkS n (b + k) S := by
   have:=uX (f:=xX last) (i:=0) (j:=1) (l:=p.ls) (fun h _=>eachReady_ok h) ok1 k (by omega)
   rw [hS];exact this.mono (by omega) (by omega)
  have hS2:=fold_snoc (xX last) ⟨{ p with ph:=3,wt:=0,d:=last },g,o⟩ hlt
  rw [<- hS] at hS2
  have hx : xX last S p.ls[k] = if p.ls[k].ph = 4 then S.send p.ls[k].id { mgK 7 with z:=last } else S:=rfl
  by_cases o1 : p.ls[k].ph = 4
  ·have c1 := send_con S.p S.g S.o p.ls[k].id { mgK 7 with z := last } (by have := okS.lo; omega)
   rw [if_pos o1] at hx
   rw [hx] at hS2
   replace o1 : (p.ls[k].ph = 4) = True:=eq_true o1
   unfold lW at c1
   have hSp : (S.send p.ls[k].id { mgK 7 with z:=last }).p = S.p:=rfl
   have hSg : (S.send p.ls[k].id { mgK 7 with z:=last }).g = S.g:=rfl
   have hSo : zD (S.send p.ls[k].id { mgK 7 with z:=last }).o = zD (S.o ++ [yH S.p p.ls[k].id { mgK 7 with z:=last }]):=rfl
   generalize zD (S.o ++ [yH S.p p.ls[k].id { mgK 7 with z:=last }]) = O2 at *
   generalize S.send p.ls[k].id { mgK 7 with z:=last } = S' at *
   generalize zD S.o = O1 at *
   unfold mgK mgZ Mg.cells at c1
   dsimp only at c1
   simp only [show zns [] = [] from rfl,show ints [] = [] from rfl,show mbs [] = [] from rfl,show yW [] = [] from rfl,show zxs [] = [] from rfl,show pts [] = [] from rfl] at c1
   clear hx ok1 okS hS hlm
   repeat' first|(refine zV [1024,1025] (c1) (by decide) (by decide) (by simp [zQ,inN,pos,zO,zX,b0,b1]) (by simp [zN,zH,zX,inN,pos]) ⟨[],by simp,by simp,?_⟩;simp [lv,kpI,kpR,pos,ren,zX])|(refine hK _ ?_;clear hK)|(refine zT fun K hK=>?_)|(refine zS ?_;simp only [tZ,tY,strip])|((first | refine wOs fun K hK=>?_ | refine zW ?_);simp [g0,gz,bz,ga,gb,gc,hlt,hw,o1])|(first | refine zU ?_)|(refine zP ?_;try simp)|(refine wOn ?_;try simp only [zZ])
   refine hL _ (N - 1) (by omega) ⟨k + 1,S',by omega,hS2.symm,?_⟩
   simp [g0,gz,bz,ga,gb,hSp,hSg,hSo,ouN,zX,zO]
  ·rw [if_neg o1] at hx
   rw [hx] at hS2
   replace o1 : (p.ls[k].ph = 4) = False:=eq_false o1
   clear hx ok1 okS hlm
   repeat' first|(refine hK _ ?_;clear hK)|(refine zT fun K hK=>?_)|(refine zS ?_;simp only [tZ,tY,strip])|((first | refine wOs fun K hK=>?_ | refine zW ?_);simp [ga,gb,gc,hlt,hw,o1])|(first | refine zU ?_)|(refine zP ?_;try simp)|(refine wOn ?_;try simp only [zZ])
   refine hL _ (N - 1) (by omega) ⟨k + 1,S,by omega,hS2.symm,?_⟩
   simp [g0,gz,bz,ga,gb,b0,b1]
 have hSf : S = p.ls.foldl (xX last) ⟨{ p with ph:=3,wt:=0,d:=last },g,o⟩:=by rw [hS,List.take_of_length_le (by omega)]
 have ok2 : OkS n (b + p.ls.length) S := by
  have:=uX (f:=xX last) (i:=0) (j:=1) (l:=p.ls) (fun h _=>eachReady_ok h) ok1 k (by omega)
  rw [hS];exact this.mono (by omega) (by omega)
 have hpS : S.p = { p with ph:=3,wt:=0,d:=last }:=by rw [hSf,xS (wM last)]
 have hls : S.p.ls = p.ls:=by rw [hpS]
 rw [<- hSf] at hr hn hp
 generalize hS0 : S = S0 at *
 clear hS hSf hS0 ok1
 repeat' first|(refine hK _ ?_;clear hK)|(clear hK;refine hK _ ?_;clear hK)|(refine zT fun K hK=>?_)|(refine zS ?_;simp only [tZ,tY,strip])|((first | refine wOs fun K hK=>?_ | refine zW ?_);simp [g0,gb,gc,b0,hlt,hls])|(first | refine zU ?_)|(refine zC ?_;try simp)|(refine wOn ?_;try simp only [zZ])
 refine yJ (fun N st=>∃ k S,k + N = p.ls.length /\ S = (p.ls.take k).foldl xW S0 /\ st.s 0 = .ptr 1024 0 /\ st.s 65 = .p (.sl 8 (lrs p.ls)) /\ st.s 66 = .p (I p.ls.length) /\ st.s 67 = .p (I k) /\ st.b 1024 = some (.box 101 (lBx S.p (.row 1025) S.g)) /\ st.b 1025 = some (.row 65 46 (zD S.o))) p.ls.length ⟨0,S0,by simp [g0,b0,b1]⟩ fun K N st hL ⟨k,S,hkN,hS,g0,ga,gb,gc,b0,b1⟩=>?_
 by_cases hlt2 : k < p.ls.length
 ·have hw := yF k _ hlt2 (by omega)
  have he:=xQ hlt2
  have okS : OkS (n + k) (b + p.ls.length + k) S := by
   have:=uX (f:=xW) (i:=1) (j:=1) (l:=p.ls) (fun h hx=>eachPlan_ok h (hlm _ hx)) ok2 k (by omega)
   rw [hS];exact this.mono (by omega) (by omega)
  have hS2:=fold_snoc xW S0 hlt2
  rw [<- hS] at hS2
  have hx : xW S p.ls[k] = if p.ls[k].ph = 2 then vB S p.ls[k] else S:=rfl
  by_cases o1 : p.ls[k].ph = 2
  ·have c1 := plan_con okS p.ls[k] (hlm _ (List.getElem_mem hlt2)) (by omega) (by omega)
   rw [if_pos o1] at hx
   rw [hx] at hS2
   replace o1 : (p.ls[k].ph = 2) = True:=eq_true o1
   generalize vB S p.ls[k] = S' at *
   simp only [sqW,lW] at c1
   generalize zD S.o = O1 at *
   generalize hO2 : zD S'.o = O2 at *
   unfold Lr.cells at c1
   clear hx ok2 okS hS hlm
   repeat' first|(refine zV [1024,1025] (c1) (by decide) (by decide) (by simp [zQ,inN,pos,zO,zX,b0,b1]) (by simp [zN,zH,zX,inN,pos]) ⟨[],by simp,by simp,?_⟩;simp [lv,kpI,kpR,pos,ren,zX])|(refine hK _ ?_;clear hK)|(refine zT fun K hK=>?_)|(refine zS ?_;simp only [tZ,tY,strip])|((first | refine wOs fun K hK=>?_ | refine zW ?_);simp [g0,ga,gb,gc,hlt2,hw,o1])|(first | refine zU ?_)|(refine zP ?_;try simp)|(refine wOn ?_;try simp only [zZ])
   refine hL _ (N - 1) (by omega) ⟨k + 1,S',by omega,hS2.symm,?_⟩
   simp [g0,ga,gb,hO2,ouN,zX,zO]
  ·rw [if_neg o1] at hx
   rw [hx] at hS2
   replace o1 : (p.ls[k].ph = 2) = False:=eq_false o1
   clear hx ok2 okS hlm
   repeat' first|(refine hK _ ?_;clear hK)|(refine zT fun K hK=>?_)|(refine zS ?_;simp only [tZ,tY,strip])|((first | refine wOs fun K hK=>?_ | refine zW ?_);simp [ga,gb,gc,hlt2,hw,o1])|(first | refine zU ?_)|(refine zP ?_;try simp)|(refine wOn ?_;try simp only [zZ])
   refine hL _ (N - 1) (by omega) ⟨k + 1,S,by omega,hS2.symm,?_⟩
   simp [g0,ga,gb,b0,b1]
 have hSf : S = p.ls.foldl xW S0:=by rw [hS,List.take_of_length_le (by omega)]
 have ok3 : OkS (n + p.ls.length) (b + p.ls.length + p.ls.length) S := by
  have:=uX (f:=xW) (i:=1) (j:=1) (l:=p.ls) (fun h hx=>eachPlan_ok h (hlm _ hx)) ok2 k (by omega)
  rw [hS];exact this.mono (by omega) (by omega)
 have c1:=stay_con ok3
 rw [<- hSf] at hr hn hp
 generalize hT : vD S = S' at *
 simp only [sqW,lW] at c1
 generalize zD S.o = O1 at *
 generalize zD S'.o = O2 at *
 clear hS hSf ok2 ok3 hlm
 repeat' first|(refine zV [1024,1025] (c1) (by decide) (by decide) (by simp [zQ,inN,pos,zO,zX,b0,b1]) (by simp [zN,zH,zX,inN,pos]) ⟨[],by simp,by simp,?_⟩;simp [lv,kpI,kpR,pos,ren,zX])|(refine hK _ ?_;clear hK)|(clear hK;refine hK _ ?_;clear hK)|(refine zT fun K hK=>?_)|(refine zS ?_;simp only [tZ,tY,strip])|((first | refine wOs fun K hK=>?_ | refine zW ?_);simp [g0,gb,gc,hlt2])|(refine zC ?_;try simp)|(refine wOn ?_;try simp only [zZ])
 all_goals first | apply hn
 all_goals refine ⟨[],by simp,by simp,?_⟩
 all_goals simp [Tryz.f102,yL,yM,zO,gaN,ouN,zX]
set_option maxHeartbeats 8000000 in
theorem gath_con {n b : Nat} {s : Sq} (h : OkS n b s) (hn' : n <= 400) (hb' : b <= 4000) : Con Tryz.prog 68 [.ptr 1024 0] (sqW s) (.ret (.tup []) [] (sqW (xJ s))) := by
 have cC:=fun x=>chosenP_con s.p (.v x) s.g
 have cS:=set_con s.p.id 2 0 0 s.p.ls (by have:=h.ll;omega)
 have cE:=fun x=>enoughP_con s.p (.v x) s.g (xC s.p.id 2 0 0 s.p.ls) h.hk
 have hE : xJ s = if ¬ s.p.ep = 0 /\ yS s.p (xC s.p.id 2 0 0 s.p.ls) = true then estS (s.p.ls.foldl (yO (zI { s.p with ph:=2,wt:=0,cu:=s.p.ep })) { s with p:={ s.p with ph:=2,wt:=0,cu:=s.p.ep } }) else s:=rfl
 have hll:=h.ll
 obtain ⟨p,g,o⟩:=s
 dsimp only at *
 simp only [sqW,lW,pW] at *
 generalize xC p.id 2 0 0 p.ls = set at *
 by_cases h0 : p.ep = 0
 ·rw [if_neg (fun h => h.1 h0)] at hE
  rw [hE]
  rw [decide_eq_false (not_not_intro h0)] at cC
  clear hE h0 h cS cE
  generalize zD o = O at *
  refine zE Tryz.tab Tryz.mixed Tryz.func68 rfl rfl Tryz.ntmps68 (by simp) (by simp) fun Q hr hn hp=>?_
  repeat' first|(refine yY 1024 1025 (lBx p (.row 1025) g) (rfl) (rfl) rfl (by simp [zN,zH,zX,inN,pos]) (fun x _=>cC x) rfl ?_)|(refine hK _ ?_;clear hK)|(refine zT fun K hK=>?_)|((first | refine yZ rfl (by kernel_rfl) ?_);simp only [tZ,tY,strip])|((first | refine wQs fun K hK=>?_ | refine zW ?_);simp)|(refine zL ?_;try simp)|(refine wQn ?_;try simp only [zZ])
  all_goals first | apply hr
  all_goals refine ⟨[],by simp,by simp,?_⟩
  all_goals simp [Tryz.f68,yL,yM,zO,gaN,zX]
 rw [decide_eq_true h0] at cC
 by_cases h1 : yS p set = true
 case neg =>
  have h1' : yS p set = false:=by simpa using h1
  rw [if_neg (fun h=>h1 h.2)] at hE
  rw [hE]
  rw [h1'] at cE
  clear hE h1 h1' h h0
  generalize zD o = O at *
  refine zE Tryz.tab Tryz.mixed Tryz.func68 rfl rfl Tryz.ntmps68 (by simp) (by simp) fun Q hr hn hp=>?_
  repeat' first|(refine yY 1024 1025 (lBx p (.row 1025) g) (rfl) (rfl) rfl (by simp [zN,zH,zX,inN,pos]) (fun x _=>cC x) rfl ?_)|(refine zJ.pure (cS) rfl ?_)|(refine yY 1024 1025 (lBx p (.row 1025) g) (rfl) (rfl) rfl (by simp [zN,zH,zX,inN,pos]) (fun x _=>cE x) rfl ?_)|(refine hK _ ?_;clear hK)|(refine zT fun K hK=>?_)|((first | refine yZ rfl (by kernel_rfl) ?_);simp only [tZ,tY,strip])|((first | refine wQs fun K hK=>?_ | refine zM ?_ | refine zW ?_);simp)|(refine zL ?_;try simp)|(refine wQn ?_;try simp only [zZ])
  all_goals first | apply hr
  all_goals refine ⟨[],by simp,by simp,?_⟩
  all_goals simp [Tryz.f68,yL,yM,zO,gaN,zX]
 rw [if_pos ⟨h0,h1⟩] at hE
 rw [hE]
 rw [h1] at cE
 clear hE h1 h0
 have ok1 : OkS n b ⟨{ p with ph:=2,wt:=0,cu:=p.ep },g,o⟩:=⟨h.hk,h.ll,h.lo,h.lm⟩
 have hlm:=h.lm
 have cV:=voterS_con ok1
 simp only [sqW,lW] at cV
 have cv:=fun i=>xD (zI { p with ph:=2,wt:=0,cu:=p.ep }) i
 generalize hV : zI { p with ph:=2,wt:=0,cu:=p.ep } = V at *
 clear h
 refine zE Tryz.tab Tryz.mixed Tryz.func68 rfl rfl Tryz.ntmps68 (by simp) (by simp) fun Q hr hn hp=>?_
 repeat' first|(refine yY 1024 1025 (lBx p (.row 1025) g) (rfl) (rfl) rfl (by simp [zN,zH,zX,inN,pos]) (fun x _=>cC x) rfl ?_)|(refine zJ.pure (cS) rfl ?_)|(refine yY 1024 1025 (lBx p (.row 1025) g) (rfl) (rfl) rfl (by simp [zN,zH,zX,inN,pos]) (fun x _=>cE x) rfl ?_)|(refine zV [1024,1025] (cV) (by decide) (by decide) (by simp [zQ,inN,pos,zO,zX]) (by simp [zN,zH,zX,inN,pos]) ⟨[],by simp,by simp,?_⟩;simp [lv,kpI,kpR,pos,ren,zX,wS,xY])|(refine hK _ ?_;clear hK)|(refine zT fun K hK=>?_)|((first | refine zS ?_ | refine yZ rfl (by kernel_rfl) ?_);simp only [tZ,tY,strip])|((first | refine wOs fun K hK=>?_ | refine wQs fun K hK=>?_ | refine zM ?_ | refine zW ?_);simp)|(first | refine zU ?_)|(refine zP ?_;try simp)|((first | refine wOn ?_ | refine wQn ?_);try simp only [zZ])
 clear cV cS cE cC
 refine yJ (fun N st=>∃ k S,k + N = p.ls.length /\ S = (p.ls.take k).foldl (yO V) ⟨{ p with ph:=2,wt:=0,cu:=p.ep },g,o⟩ /\ st.s 0 = .ptr 1024 0 /\ st.s 2 = .clo ⟨82,false⟩ [.rp [.sl 1 (ints V)] 0] /\ st.s 48 = .p (.sl 8 (lrs p.ls)) /\ st.s 49 = .p (I p.ls.length) /\ st.s 50 = .p (I k) /\ st.b 1024 = some (.box 101 (lBx S.p (.row 1025) S.g)) /\ st.b 1025 = some (.row 65 46 (zD S.o))) p.ls.length ⟨0,⟨{ p with ph:=2,wt:=0,cu:=p.ep },g,o⟩,by simp [ouN,zX,zO]⟩ fun K N st hL ⟨k,S,hkN,hS,g0,g2,ga,gb,gc,b0,b1⟩=>?_
 by_cases hlt : k < p.ls.length
 ·have hw := yF k _ hlt (by omega)
  have he:=xQ hlt
  have okS : OkS (n + k) (b + k) S := by
   have:=uX (f:=yO V) (i:=1) (j:=1) (l:=p.ls) (fun h hx=>eachPlanV_ok h (hlm _ hx)) ok1 k (by omega)
   rw [hS];exact this.mono (by omega) (by omega)
  have hS2:=fold_snoc (yO V) ⟨{ p with ph:=2,wt:=0,cu:=p.ep },g,o⟩ hlt
  rw [<- hS] at hS2
  have hx : yO V S p.ls[k] = if p.ls[k].ph = 2 /\ p.ls[k].id ∈ V then vB S p.ls[k] else S:=rfl
  have c0:=cv p.ls[k].id
  by_cases o1 : p.ls[k].ph = 2
  ·by_cases o2 : p.ls[k].id ∈ V
   ·have c1 := plan_con okS p.ls[k] (hlm _ (List.getElem_mem hlt)) (by omega) (by omega)
    rw [if_pos ⟨o1,o2⟩] at hx
    rw [hx] at hS2
    rw [decide_eq_true o2] at c0
    replace o1 : (p.ls[k].ph = 2) = True:=eq_true o1
    generalize vB S p.ls[k] = S' at *
    simp only [sqW,lW] at c1
    generalize zD S.o = O1 at *
    generalize hO2 : zD S'.o = O2 at *
    unfold Lr.cells at c1
    clear hx ok1 okS hS hlm o2 cv
    repeat' first|(refine zR.pure (c0) rfl ?_)|(refine zV [1024,1025] (c1) (by decide) (by decide) (by simp [zQ,inN,pos,zO,zX,b0,b1]) (by simp [zN,zH,zX,inN,pos]) ⟨[],by simp,by simp,?_⟩;simp [lv,kpI,kpR,pos,ren,zX])|(refine hK _ ?_;clear hK)|(refine zT fun K hK=>?_)|(refine zS ?_;simp only [tZ,tY,strip])|((first | refine wOs fun K hK=>?_ | refine zY ?_ | refine zW ?_);simp [g0,g2,ga,gb,gc,hlt,hw,o1])|(first | refine zU ?_)|(refine zP ?_;try simp)|(refine wOn ?_;try simp only [zZ])
    refine hL _ (N - 1) (by omega) ⟨k + 1,S',by omega,hS2.symm,?_⟩
    simp [g0,g2,ga,gb,hO2,ouN,zX,zO,wS,xY]
   ·rw [if_neg (fun h => o2 h.2)] at hx
    rw [hx] at hS2
    rw [decide_eq_false o2] at c0
    replace o1 : (p.ls[k].ph = 2) = True:=eq_true o1
    clear hx ok1 okS hlm o2 cv
    repeat' first|(refine zR.pure (c0) rfl ?_)|(refine hK _ ?_;clear hK)|(refine zT fun K hK=>?_)|(refine zS ?_;simp only [tZ,tY,strip])|((first | refine wOs fun K hK=>?_ | refine zY ?_ | refine zW ?_);simp [g2,ga,gb,gc,hlt,hw,o1])|(first | refine zU ?_)|(refine zP ?_;try simp)|(refine wOn ?_;try simp only [zZ])
    refine hL _ (N - 1) (by omega) ⟨k + 1,S,by omega,hS2.symm,?_⟩
    simp [g0,g2,ga,gb,b0,b1]
  ·rw [if_neg (fun h => o1 h.1)] at hx
   rw [hx] at hS2
   replace o1 : (p.ls[k].ph = 2) = False:=eq_false o1
   clear hx ok1 okS hlm c0 cv
   repeat' first|(refine hK _ ?_;clear hK)|(refine zT fun K hK=>?_)|(refine zS ?_;simp only [tZ,tY,strip])|((first | refine wOs fun K hK=>?_ | refine zW ?_);simp [g2,ga,gb,gc,hlt,hw,o1])|(first | refine zU ?_)|(refine zP ?_;try simp)|(refine wOn ?_;try simp only [zZ])
   refine hL _ (N - 1) (by omega) ⟨k + 1,S,by omega,hS2.symm,?_⟩
   simp [g0,g2,ga,gb,b0,b1]
 have hSf : S = p.ls.foldl (yO V) ⟨{ p with ph:=2,wt:=0,cu:=p.ep },g,o⟩:=by rw [hS,List.take_of_length_le (by omega)]
 have ok3 : OkS (n + p.ls.length) (b + p.ls.length) S := by
  have:=uX (f:=yO V) (i:=1) (j:=1) (l:=p.ls) (fun h hx=>eachPlanV_ok h (hlm _ hx)) ok1 k (by omega)
  rw [hS];exact this.mono (by omega) (by omega)
 have c1:=est_con ok3 (by omega) (by omega)
 rw [<- hSf] at hr hn hp
 generalize hT : estS S = S' at *
 simp only [sqW,lW] at c1
 generalize zD S.o = O1 at *
 generalize zD S'.o = O2 at *
 clear hS hSf ok1 ok3 hlm cv
 repeat' first|(refine zV [1024,1025] (c1) (by decide) (by decide) (by simp [zQ,inN,pos,zO,zX,b0,b1]) (by simp [zN,zH,zX,inN,pos]) ⟨[],by simp,by simp,?_⟩;simp [lv,kpI,kpR,pos,ren,zX])|(refine hK _ ?_;clear hK)|(clear hK;refine hK _ ?_;clear hK)|(refine zT fun K hK=>?_)|(refine zS ?_;simp only [tZ,tY,strip])|((first | refine wOs fun K hK=>?_ | refine zW ?_);simp [g0,gb,gc,hlt])|(refine zC ?_;try simp)|(refine wOn ?_;try simp only [zZ])
 all_goals first | apply hn
 all_goals refine ⟨[],by simp,by simp,?_⟩
 all_goals simp [Tryz.f68,yL,yM,zO,gaN,ouN,zX]
theorem most_snoc (p : Lq) {k : Nat} (h : k < p.ls.length) : (p.ls.take (k + 1)).foldl (fun a x => if a < x.ac then x.ac else a) p.ac = if (p.ls.take k).foldl (fun a x => if a < x.ac then x.ac else a) p.ac < p.ls[k].ac then p.ls[k].ac else (p.ls.take k).foldl (fun a x => if a < x.ac then x.ac else a) p.ac := by
 rw [List.take_succ_eq_append_getElem h,List.foldl_append];rfl
set_option maxHeartbeats 8000000 in
theorem cho_con {n b : Nat} {s : Sq} (h : OkS n b s) (hn' : n <= 300) (hb' : b <= 3000) : Con Tryz.prog 35 [.ptr 1024 0] (sqW s) (.ret (.tup []) [] (sqW (vQ s))) := by
 have cS:=set_con s.p.id 1 0 0 s.p.ls (by have:=h.ll;omega)
 have cE:=fun x=>enoughP_con s.p (.v x) s.g (xC s.p.id 1 0 0 s.p.ls) h.hk
 have hE : vQ s = if yS s.p (xC s.p.id 1 0 0 s.p.ls) = true then (if uR (wG s.p) s.p.id = 0 then xJ (s.p.ls.foldl yD { s with p:={ s.p with ep:=xU (wG s.p) s.p.id,ac:=xU (wG s.p) s.p.id } }) else { s with g:=true }) else s:=rfl
 have hll:=h.ll
 obtain ⟨p,g,o⟩:=s
 dsimp only at *
 simp only [sqW,lW,pW] at *
 generalize xC p.id 1 0 0 p.ls = set at *
 by_cases h1 : yS p set = true
 case neg =>
  have h1' : yS p set = false:=by simpa using h1
  rw [if_neg h1] at hE
  rw [hE]
  rw [h1'] at cE
  clear hE h1 h1' h
  generalize zD o = O at *
  refine zE Tryz.tab Tryz.mixed Tryz.func35 rfl rfl Tryz.ntmps35 (by simp) (by simp) fun Q hr hn hp=>?_
  repeat' first|(refine zJ.pure (cS) rfl ?_)|(refine yY 1024 1025 (lBx p (.row 1025) g) (rfl) (rfl) rfl (by simp [zN,zH,zX,inN,pos]) (fun x _=>cE x) rfl ?_)|(refine hK _ ?_;clear hK)|(refine zT fun K hK=>?_)|((first | refine yZ rfl (by kernel_rfl) ?_);simp only [tZ,tY,strip])|((first | refine wQs fun K hK=>?_ | refine zM ?_ | refine zW ?_);simp)|(refine zL ?_;try simp)|(refine wQn ?_;try simp only [zZ])
  all_goals first | apply hr
  all_goals refine ⟨[],by simp,by simp,?_⟩
  all_goals simp [Tryz.f35,yL,yM,zO,gaN,zX]
 rw [if_pos h1] at hE
 rw [hE]
 rw [h1] at cE
 clear hE h1
 have hlm:=h.lm
 have hms : wG p = p.ls.foldl (fun a x=>if a < x.ac then x.ac else a) p.ac:=rfl
 refine zE Tryz.tab Tryz.mixed Tryz.func35 rfl rfl Tryz.ntmps35 (by simp) (by simp) fun Q hr hn hp=>?_
 repeat' first|(refine zJ.pure (cS) rfl ?_)|(refine yY 1024 1025 (lBx p (.row 1025) g) (rfl) (rfl) rfl (by simp [zN,zH,zX,inN,pos]) (fun x _=>cE x) rfl ?_)|(refine hK _ ?_;clear hK)|(refine zT fun K hK=>?_)|((first | refine zS ?_ | refine yZ rfl (by kernel_rfl) ?_);simp only [tZ,tY,strip])|((first | refine wOs fun K hK=>?_ | refine wQs fun K hK=>?_ | refine zM ?_ | refine zW ?_);simp)|(first | refine zU ?_)|(refine zP ?_;try simp)|((first | refine wOn ?_ | refine wQn ?_);try simp only [zZ])
 clear cS cE
 refine yJ (fun N st=>∃ k,k + N = p.ls.length /\ st.s 0 = .ptr 1024 0 /\ st.s 2 = .p (I ((p.ls.take k).foldl (fun a x=>if a < x.ac then x.ac else a) p.ac)) /\ st.s 33 = .p (.sl 8 (lrs p.ls)) /\ st.s 34 = .p (I p.ls.length) /\ st.s 35 = .p (I k) /\ st.b 1024 = some (.box 101 (lBx p (.row 1025) g)) /\ st.b 1025 = some (.row 65 46 (zD o))) p.ls.length ⟨0,by simp⟩ fun K N st hL ⟨k,hkN,g0,g2,ga,gb,gc,b0,b1⟩=>?_
 by_cases hlt : k < p.ls.length
 ·have hw := yF k _ hlt (by omega)
  have he:=xQ hlt
  have hm:=most_snoc p hlt
  generalize (p.ls.take k).foldl (fun a x=>if a < x.ac then x.ac else a) p.ac = M at *
  by_cases o1 : M < p.ls[k].ac
  ·rw [if_pos o1] at hm
   clear h hlm hms
   repeat' first|(refine hK _ ?_;clear hK)|(refine zT fun K hK=>?_)|(refine zS ?_;simp only [tZ,tY,strip])|((first | refine wOs fun K hK=>?_ | refine zW ?_);simp [g2,ga,gb,gc,hlt,hw,o1])|(first | refine zU ?_)|(refine zP ?_;try simp)|(refine wOn ?_;try simp only [zZ])
   refine hL _ (N - 1) (by omega) ⟨k + 1,by omega,?_⟩
   simp [g0,ga,gb,b0,b1,hm]
  ·rw [if_neg o1] at hm
   clear h hlm hms
   repeat' first|(refine hK _ ?_;clear hK)|(refine zT fun K hK=>?_)|(refine zS ?_;simp only [tZ,tY,strip])|((first | refine wOs fun K hK=>?_ | refine zW ?_);simp [g2,ga,gb,gc,hlt,hw,o1])|(first | refine zU ?_)|(refine zP ?_;try simp)|(refine wOn ?_;try simp only [zZ])
   refine hL _ (N - 1) (by omega) ⟨k + 1,by omega,?_⟩
   simp [g0,ga,gb,b0,b1,hm]
 rw [List.take_of_length_le (by omega),<- hms] at g2
 have cF:=fresh_con (wG p) p.id
 generalize wG p = M at *
 by_cases h2 : uR M p.id = 0
 case neg =>
  rw [if_neg h2] at hr hn hp
  replace h2 : (uR M p.id = 0) = False:=eq_false h2
  generalize uR M p.id = FE at *
  generalize xU M p.id = E at *
  clear h hlm hms
  repeat' first|(refine zR.pure (cF) rfl ?_)|(refine hK _ ?_;clear hK)|(clear hK;refine hK _ ?_;clear hK)|(refine zT fun K hK=>?_)|(refine zS ?_;simp only [tZ,tY,strip])|((first | refine wOs fun K hK=>?_ | refine zY ?_ | refine zW ?_);simp [g0,g2,gb,gc,b0,hlt,h2])|((first | refine zL ?_ | refine zC ?_);try simp)|(refine wOn ?_;try simp only [zZ])
  all_goals first | apply hr
  all_goals refine ⟨[],by simp,by simp,?_⟩
  all_goals simp [Tryz.f35,yL,yM,zO,gaN,zX,b1]
 rw [if_pos h2] at hr hn hp
 rw [h2] at cF
 generalize xU M p.id = E at *
 have ok1 : OkS n b ⟨{ p with ep:=E,ac:=E },g,o⟩:=⟨h.hk,h.ll,h.lo,h.lm⟩
 clear h hms h2
 repeat' first|(refine zR.pure (cF) rfl ?_)|(refine hK _ ?_;clear hK)|(clear hK;refine hK _ ?_;clear hK)|(refine zT fun K hK=>?_)|(refine zS ?_;simp only [tZ,tY,strip])|((first | refine wOs fun K hK=>?_ | refine zY ?_ | refine zW ?_);simp [g0,g2,gb,gc,b0,hlt])|(first | refine zU ?_)|((first | refine zC ?_ | refine zP ?_);try simp)|(refine wOn ?_;try simp only [zZ])
 refine yJ (fun N st=>∃ k S,k + N = p.ls.length /\ S = (p.ls.take k).foldl yD ⟨{ p with ep:=E,ac:=E },g,o⟩ /\ st.s 0 = .ptr 1024 0 /\ st.s 73 = .p (.sl 8 (lrs p.ls)) /\ st.s 74 = .p (I p.ls.length) /\ st.s 75 = .p (I k) /\ st.b 1024 = some (.box 101 (lBx S.p (.row 1025) S.g)) /\ st.b 1025 = some (.row 65 46 (zD S.o))) p.ls.length ⟨0,⟨{ p with ep:=E,ac:=E },g,o⟩,by simp [g0,b1]⟩ fun K N st hL ⟨k,S,hkN,hS,g0,ga,gb,gc,b0,b1⟩=>?_
 by_cases hlt2 : k < p.ls.length
 ·have hw := yF k _ hlt2 (by omega)
  have he:=xQ hlt2
  have okS : OkS n (b + k) S := by
   have:=uX (f:=yD) (i:=0) (j:=1) (l:=p.ls) (fun h _=>eachEpoch_ok h) ok1 k (by omega)
   rw [hS];exact this.mono (by omega) (by omega)
  have hS2:=fold_snoc yD ⟨{ p with ep:=E,ac:=E },g,o⟩ hlt2
  rw [<- hS] at hS2
  have c1:=send_con S.p S.g S.o p.ls[k].id (mgK 3) (by have:=okS.lo;omega)
  rw [show yD S p.ls[k] = S.send p.ls[k].id (mgK 3) from rfl] at hS2
  unfold lW at c1
  have hSp : (S.send p.ls[k].id (mgK 3)).p = S.p:=rfl
  have hSg : (S.send p.ls[k].id (mgK 3)).g = S.g:=rfl
  have hSo : zD (S.send p.ls[k].id (mgK 3)).o = zD (S.o ++ [yH S.p p.ls[k].id (mgK 3)]):=rfl
  generalize zD (S.o ++ [yH S.p p.ls[k].id (mgK 3)]) = O2 at *
  generalize S.send p.ls[k].id (mgK 3) = S' at *
  generalize zD S.o = O1 at *
  unfold mgK mgZ Mg.cells at c1
  dsimp only at c1
  simp only [show zns [] = [] from rfl,show ints [] = [] from rfl,show mbs [] = [] from rfl,show yW [] = [] from rfl,show zxs [] = [] from rfl,show pts [] = [] from rfl] at c1
  clear ok1 okS hS hlm
  repeat' first|(refine zV [1024,1025] (c1) (by decide) (by decide) (by simp [zQ,inN,pos,zO,zX,b0,b1]) (by simp [zN,zH,zX,inN,pos]) ⟨[],by simp,by simp,?_⟩;simp [lv,kpI,kpR,pos,ren,zX])|(refine hK _ ?_;clear hK)|(refine zT fun K hK=>?_)|(refine zS ?_;simp only [tZ,tY,strip])|((first | refine wOs fun K hK=>?_ | refine zW ?_);simp [g0,ga,gb,gc,hlt2,hw])|(first | refine zU ?_)|(refine zP ?_;try simp)|(refine wOn ?_;try simp only [zZ])
  refine hL _ (N - 1) (by omega) ⟨k + 1,S',by omega,hS2.symm,?_⟩
  simp [g0,ga,gb,hSp,hSg,hSo,ouN,zX,zO]
 have hSf : S = p.ls.foldl yD ⟨{ p with ep:=E,ac:=E },g,o⟩:=by rw [hS,List.take_of_length_le (by omega)]
 have ok3 : OkS n (b + p.ls.length) S := by
  have:=uX (f:=yD) (i:=0) (j:=1) (l:=p.ls) (fun h _=>eachEpoch_ok h) ok1 k (by omega)
  rw [hS];exact this.mono (by omega) (by omega)
 have c1:=gath_con ok3 (by omega) (by omega)
 rw [<- hSf] at hr hn hp
 generalize hT : xJ S = S' at *
 simp only [sqW,lW] at c1
 generalize zD S.o = O1 at *
 generalize zD S'.o = O2 at *
 clear hS hSf ok1 ok3 hlm
 repeat' first|(refine zV [1024,1025] (c1) (by decide) (by decide) (by simp [zQ,inN,pos,zO,zX,b0,b1]) (by simp [zN,zH,zX,inN,pos]) ⟨[],by simp,by simp,?_⟩;simp [lv,kpI,kpR,pos,ren,zX])|(refine hK _ ?_;clear hK)|(clear hK;refine hK _ ?_;clear hK)|(refine zT fun K hK=>?_)|(refine zS ?_;simp only [tZ,tY,strip])|((first | refine wOs fun K hK=>?_ | refine zW ?_);simp [g0,gb,gc,hlt2])|(refine zC ?_;try simp)|(refine wOn ?_;try simp only [zZ])
 all_goals first | apply hn
 all_goals refine ⟨[],by simp,by simp,?_⟩
 all_goals simp [Tryz.f35,yL,yM,zO,gaN,ouN,zX]
end Go.Proofs.YtffflakmofbilaaGreat
