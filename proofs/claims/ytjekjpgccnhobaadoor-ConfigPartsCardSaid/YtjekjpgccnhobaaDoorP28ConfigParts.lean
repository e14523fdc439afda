/- Texts that the proof needs: CF3 CF4 I01 CF5 XGQ Awm. -/
import Derived.Test.YtjekjpgccnhobaaDoorP26ConfigParts
import Derived.Test.YtjekjpgccnhobaaDoorP27ConfigParts
import Derived.Test.YtjekjpgccnhobaaDoorP24ConfigParts
import Derived.Test.YtjekjpgccnhobaaDoorP17ConfigParts
import Derived.Test.YtjekjpgccnhobaaDoorP23ConfigParts
import Derived.Test.YtjekjpgccnhobaaDoorP14ConfigParts
import Derived.Test.YtjekjpgccnhobaaDoorP19ConfigParts
import Derived.WalkKit
namespace Go.Proofs.YtjekjpgccnhobaaDoor
set_option linter.unusedSimpArgs false
set_option linter.unusedVariables false
set_option maxRecDepth 8000
open Go Go.Av
attribute [local irreducible] Go.Av.xH Go.Av.zU Go.Av.wY Go.Av.zT Go.Av.wZ Go.Av.zV Go.Av.Con
def cf0 : Cf := ⟨0, 0, 0, []⟩
theorem zE.wkT2 [Glob] {P : Program} {g : FuncId} {args : List V} {p p' q : PV} (h : zE P g args (.tup [.p p, .p q])) (hw : Wk (.p p) (.p p')) : zE P g args (.tup [.p p', .p q]) := by
 unfold zE Con at h ⊢
 intro F w m xs hp hl ha
 refine (h F w m xs hp hl ha).mono fun en w' ⟨hk,ho⟩=>?_
 obtain ⟨x,m',he,hp',how,hnm,ys,hx,hs,hy⟩:=ho
 refine ⟨hk,x,m',he,hp',how,hnm,ys,hx,hs,fun i v hi=>?_⟩
 match i with
 | 0 =>
  simp at hi;subst hi
  obtain ⟨y,h1,h2⟩:=hy 0 (.p p) rfl
  exact ⟨y,h1,RV0.wk hw h2⟩
 | 1=>exact hy 1 v hi
 | i + 2=>simp at hi
theorem wkCf : Wk (.p (.agg [I 0, I 0, I 0, .v (.slice none 0 0)])) (.p (.agg cf0.cells)) := .agg _ _ ⟨.same _, .same _, .same _, .nil 4, trivial⟩
def hdB (a b : List UInt8) : Bool := decide (b.length = 1) && decide ((prs a).2 = 0 /\ 0 <= numI b /\ numR b = [])
def shpB : List (List UInt8) -> Bool
 | a :: b :: l=>hdB a b && l.all memB
 | _=>false
def shpC : List (List UInt8) -> Cf
 | a :: b :: l=>if (hdB a b && l.all memB) = true then ⟨(prs a).1.e,(prs a).1.n,numI b,l.map memM⟩ else cf0
 | _=>cf0
set_option maxHeartbeats 8000000 in
theorem shaped_con (ws : List (List UInt8)) (hl : ws.length <= 1000000) (hw : ∀ w ∈ ws, w.length <= 1000000) : zE Tryd.prog 35 [.p (.sl 1 (sts ws))] (.tup [.p (.agg (shpC ws).cells), .p (B (shpB ws))]) := by
 match ws with
 | [] =>
  simp only [shpC,shpB,sts,wW]
  refine zE.wkT2 ?_ wkCf
  refine zF Tryd.tab Tryd.mixed Tryd.func35 rfl rfl Tryd.ntmps35 (by simp) (by simp) fun Q hr hn=>?_
  repeat' first|(refine hK _ ?_;clear hK)|(refine hK _ _ ?_;clear hK)|(clear hK;refine hK _ ?_;clear hK)|(clear hK;clear hK;refine hK _ ?_;clear hK)|(clear hK;clear hK;clear hK;refine hK _ ?_;clear hK)|(clear hK;clear hK;clear hK;clear hK;refine hK _ ?_;clear hK)|(refine zJ fun K hK=>?_)|((first | refine zH ?_ | refine zN rfl (by kernel_rfl) ?_ | refine zM ?_ | refine zK (by kernel_rfl) ?_);simp only [wX,wW,strip])|((first | refine wIs fun K hK=>?_ | refine wOs fun K hK=>?_ | refine wQs fun K hK=>?_ | refine zW ?_ | refine zX ?_ | refine zY ?_ | refine zL ?_);simp)|(refine wIn ?_;refine And.intro (by kernel_rfl) ?_;try simp only [zZ])|(first | refine zQ ?_ | refine zS ?_)|((first | refine zI ?_ | refine zO ?_ | refine zP ?_);try simp)|((first | refine zR ?_ | refine wOn ?_ | refine wQn ?_);try simp only [zZ])
  all_goals apply hr
  all_goals simp [Tryd.f35,cf0,Cf.cells,mbs]
 | [a] =>
  simp only [shpC,shpB,sts,wW,wX]
  refine zE.wkT2 ?_ wkCf
  refine zF Tryd.tab Tryd.mixed Tryd.func35 rfl rfl Tryd.ntmps35 (by simp) (by simp) fun Q hr hn=>?_
  repeat' first|(refine hK _ ?_;clear hK)|(refine hK _ _ ?_;clear hK)|(clear hK;refine hK _ ?_;clear hK)|(clear hK;clear hK;refine hK _ ?_;clear hK)|(clear hK;clear hK;clear hK;refine hK _ ?_;clear hK)|(clear hK;clear hK;clear hK;clear hK;refine hK _ ?_;clear hK)|(refine zJ fun K hK=>?_)|((first | refine zH ?_ | refine zN rfl (by kernel_rfl) ?_ | refine zM ?_ | refine zK (by kernel_rfl) ?_);simp only [wX,wW,strip])|((first | refine wIs fun K hK=>?_ | refine wOs fun K hK=>?_ | refine wQs fun K hK=>?_ | refine zW ?_ | refine zX ?_ | refine zY ?_ | refine zL ?_);simp)|(refine wIn ?_;refine And.intro (by kernel_rfl) ?_;try simp only [zZ])|(first | refine zQ ?_ | refine zS ?_)|((first | refine zI ?_ | refine zO ?_ | refine zP ?_);try simp)|((first | refine zR ?_ | refine wOn ?_ | refine wQn ?_);try simp only [zZ])
  all_goals apply hr
  all_goals simp [Tryd.f35,cf0,Cf.cells,mbs]
 | a :: b :: l =>
 have c1:=parse_con a (by have:=hw a (by simp);omega)
 have c2:=cnum_con b (by have:=hw b (by simp);omega)
 have hlw : ∀ w ∈ l,w.length <= 1000000:=fun w h=>hw w (by simp [h])
 have hll : l.length <= 1000000:=by simp at hl;omega
 simp only [shpC,shpB]
 have hW : (sts (a :: b :: l)).length = l.length + 2:=by simp
 have h0 : (sts (a :: b :: l))[0]? = some [SB a]:=rfl
 have h1 : (sts (a :: b :: l))[1]? = some [SB b]:=rfl
 have h2 : (sts (a :: b :: l)).drop 2 = sts l:=rfl
 have h0' : ∀ h,(sts (a :: b :: l))[0]'h = [SB a]:=fun _=>rfl
 have h1' : ∀ h,(sts (a :: b :: l))[1]'h = [SB b]:=fun _=>rfl
 generalize sts (a :: b :: l) = W at *
 have h2' : (W.take (l.length + 2)).drop 2 = sts l:=by rw [<- hW,List.take_length,h2]
 have g2 : ¬ l.length + 2 < 2:=by omega
 have g2' : ¬ ((l.length : Int) + 2 < 2):=by omega
 unfold hdB
 by_cases q1 : b.length = 1
 case neg =>
  have q1' : ¬ (b.length : Int) = 1:=by omega
  rw [decide_eq_false q1,Bool.false_and,Bool.false_and,if_neg (by decide)]
  refine zE.wkT2 ?_ wkCf
  refine zF Tryd.tab Tryd.mixed Tryd.func35 rfl rfl Tryd.ntmps35 (by simp) (by simp) fun Q hr hn=>?_
  repeat' first|(refine hK _ ?_;clear hK)|(refine hK _ _ ?_;clear hK)|(clear hK;refine hK _ ?_;clear hK)|(clear hK;clear hK;refine hK _ ?_;clear hK)|(clear hK;clear hK;clear hK;refine hK _ ?_;clear hK)|(clear hK;clear hK;clear hK;clear hK;refine hK _ ?_;clear hK)|(refine zJ fun K hK=>?_)|((first | refine zH ?_ | refine zN rfl (by kernel_rfl) ?_ | refine zM ?_ | refine zK (by kernel_rfl) ?_);simp only [wX,wW,strip])|((first | refine wIs fun K hK=>?_ | refine wOs fun K hK=>?_ | refine wQs fun K hK=>?_ | refine zW ?_ | refine zX ?_ | refine zY ?_ | refine zL ?_);simp [hW,h0,h1,h0',h1',g2,g2',q1,q1'])|(refine wIn ?_;refine And.intro (by kernel_rfl) ?_;try simp only [zZ])|(first | refine zQ ?_ | refine zS ?_)|((first | refine zI ?_ | refine zO ?_ | refine zP ?_);try simp)|((first | refine zR ?_ | refine wOn ?_ | refine wQn ?_);try simp only [zZ])
  all_goals apply hr
  all_goals simp [Tryd.f35,cf0,Cf.cells,mbs]
 have q1' : ((b.length : Int) = 1) = True:=eq_true (by omega)
 rw [decide_eq_true q1,Bool.true_and]
 generalize hpa : prs a = pa at *
 obtain ⟨⟨ze,zn⟩,pe⟩:=pa
 dsimp only at *
 generalize numI b = kd at *
 generalize numR b = rb at *
 by_cases q2 : pe = 0 /\ 0 <= kd /\ rb = []
 case neg =>
  rw [decide_eq_false q2,Bool.false_and,if_neg (by decide)]
  by_cases q3 : pe = 0
  case neg =>
   have q3':=eq_false q3
   refine zE.wkT2 ?_ wkCf
   refine zF Tryd.tab Tryd.mixed Tryd.func35 rfl rfl Tryd.ntmps35 (by simp) (by simp) fun Q hr hn=>?_
   repeat' first|(refine hK _ ?_;clear hK)|(refine hK _ _ ?_;clear hK)|(clear hK;refine hK _ ?_;clear hK)|(clear hK;clear hK;refine hK _ ?_;clear hK)|(clear hK;clear hK;clear hK;refine hK _ ?_;clear hK)|(clear hK;clear hK;clear hK;clear hK;refine hK _ ?_;clear hK)|(refine zJ fun K hK=>?_)|((first | refine zH ?_ | refine zN rfl (by kernel_rfl) ?_ | refine zM ?_ | refine zK (by kernel_rfl) ?_);simp only [wX,wW,strip])|((first | refine wIs fun K hK=>?_ | refine wOs fun K hK=>?_ | refine wQs fun K hK=>?_ | refine zW ?_ | refine zX ?_ | refine zY ?_ | refine zL ?_);simp [hW,h0,h1,h0',h1',g2,g2',q1,q1',q3'])|(refine wIn ?_;refine And.intro (by kernel_rfl) ?_;try simp only [zZ])|(first | refine zQ ?_ | refine zS ?_)|((first | refine zI ?_ | refine zO ?_ | refine zP ?_);try simp)|((first | refine zR ?_ | refine wOn ?_ | refine wQn ?_);try simp only [zZ])|(refine zU.pure (c1) rfl ?_)|(refine zU.lent (c1) rfl ?_)|(refine zT.pure (c1) rfl ?_)|(refine zT.lent (c1) rfl ?_)|(refine zU.own (c1) ?_)|(refine zV.pure (c1) rfl ?_)|(refine zV.lent (c1) rfl ?_)|(refine zV.own (c1) ?_)|(refine zU.pure (c2) rfl ?_)|(refine zU.lent (c2) rfl ?_)|(refine zT.pure (c2) rfl ?_)|(refine zT.lent (c2) rfl ?_)|(refine zU.own (c2) ?_)|(refine zV.pure (c2) rfl ?_)|(refine zV.lent (c2) rfl ?_)|(refine zV.own (c2) ?_)
   all_goals apply hr
   all_goals simp [Tryd.f35,cf0,Cf.cells,mbs]
  subst q3
  by_cases q4 : kd < 0
  ·refine zE.wkT2 ?_ wkCf
   refine zF Tryd.tab Tryd.mixed Tryd.func35 rfl rfl Tryd.ntmps35 (by simp) (by simp) fun Q hr hn=>?_
   repeat' first|(refine hK _ ?_;clear hK)|(refine hK _ _ ?_;clear hK)|(clear hK;refine hK _ ?_;clear hK)|(clear hK;clear hK;refine hK _ ?_;clear hK)|(clear hK;clear hK;clear hK;refine hK _ ?_;clear hK)|(clear hK;clear hK;clear hK;clear hK;refine hK _ ?_;clear hK)|(refine zJ fun K hK=>?_)|((first | refine zH ?_ | refine zN rfl (by kernel_rfl) ?_ | refine zM ?_ | refine zK (by kernel_rfl) ?_);simp only [wX,wW,strip])|((first | refine wIs fun K hK=>?_ | refine wOs fun K hK=>?_ | refine wQs fun K hK=>?_ | refine zW ?_ | refine zX ?_ | refine zY ?_ | refine zL ?_);simp [hW,h0,h1,h0',h1',g2,g2',q1,q1',q4])|(refine wIn ?_;refine And.intro (by kernel_rfl) ?_;try simp only [zZ])|(first | refine zQ ?_ | refine zS ?_)|((first | refine zI ?_ | refine zO ?_ | refine zP ?_);try simp)|((first | refine zR ?_ | refine wOn ?_ | refine wQn ?_);try simp only [zZ])|(refine zU.pure (c1) rfl ?_)|(refine zU.lent (c1) rfl ?_)|(refine zT.pure (c1) rfl ?_)|(refine zT.lent (c1) rfl ?_)|(refine zU.own (c1) ?_)|(refine zV.pure (c1) rfl ?_)|(refine zV.lent (c1) rfl ?_)|(refine zV.own (c1) ?_)|(refine zU.pure (c2) rfl ?_)|(refine zU.lent (c2) rfl ?_)|(refine zT.pure (c2) rfl ?_)|(refine zT.lent (c2) rfl ?_)|(refine zU.own (c2) ?_)|(refine zV.pure (c2) rfl ?_)|(refine zV.lent (c2) rfl ?_)|(refine zV.own (c2) ?_)
   all_goals apply hr
   all_goals simp [Tryd.f35,cf0,Cf.cells,mbs]
  have q5 : ¬ rb = []:=fun h=>q2 ⟨rfl,by omega,h⟩
  ·refine zE.wkT2 ?_ wkCf
   refine zF Tryd.tab Tryd.mixed Tryd.func35 rfl rfl Tryd.ntmps35 (by simp) (by simp) fun Q hr hn=>?_
   repeat' first|(refine hK _ ?_;clear hK)|(refine hK _ _ ?_;clear hK)|(clear hK;refine hK _ ?_;clear hK)|(clear hK;clear hK;refine hK _ ?_;clear hK)|(clear hK;clear hK;clear hK;refine hK _ ?_;clear hK)|(clear hK;clear hK;clear hK;clear hK;refine hK _ ?_;clear hK)|(refine zJ fun K hK=>?_)|((first | refine zH ?_ | refine zN rfl (by kernel_rfl) ?_ | refine zM ?_ | refine zK (by kernel_rfl) ?_);simp only [wX,wW,strip])|((first | refine wIs fun K hK=>?_ | refine wOs fun K hK=>?_ | refine wQs fun K hK=>?_ | refine zW ?_ | refine zX ?_ | refine zY ?_ | refine zL ?_);simp [hW,h0,h1,h0',h1',g2,g2',q1,q1',q4,q5])|(refine wIn ?_;refine And.intro (by kernel_rfl) ?_;try simp only [zZ])|(first | refine zQ ?_ | refine zS ?_)|((first | refine zI ?_ | refine zO ?_ | refine zP ?_);try simp)|((first | refine zR ?_ | refine wOn ?_ | refine wQn ?_);try simp only [zZ])|(refine zU.pure (c1) rfl ?_)|(refine zU.lent (c1) rfl ?_)|(refine zT.pure (c1) rfl ?_)|(refine zT.lent (c1) rfl ?_)|(refine zU.own (c1) ?_)|(refine zV.pure (c1) rfl ?_)|(refine zV.lent (c1) rfl ?_)|(refine zV.own (c1) ?_)|(refine zU.pure (c2) rfl ?_)|(refine zU.lent (c2) rfl ?_)|(refine zT.pure (c2) rfl ?_)|(refine zT.lent (c2) rfl ?_)|(refine zU.own (c2) ?_)|(refine zV.pure (c2) rfl ?_)|(refine zV.lent (c2) rfl ?_)|(refine zV.own (c2) ?_)
   all_goals apply hr
   all_goals simp [Tryd.f35,cf0,Cf.cells,mbs]
 rw [decide_eq_true q2,Bool.true_and]
 obtain ⟨rfl,q4,q5⟩:=q2
 have q4' : ¬ kd < 0:=by omega
 have hln : 2 <= l.length + 2:=by omega
 cases hx : l.all memB with
 | true =>
  rw [if_pos rfl]
  refine zF Tryd.tab Tryd.mixed Tryd.func35 rfl rfl Tryd.ntmps35 (by simp) (by simp) fun Q hr hn=>?_
  repeat' first|(refine hK _ ?_;clear hK)|(refine hK _ _ ?_;clear hK)|(clear hK;refine hK _ ?_;clear hK)|(clear hK;clear hK;refine hK _ ?_;clear hK)|(clear hK;clear hK;clear hK;refine hK _ ?_;clear hK)|(clear hK;clear hK;clear hK;clear hK;refine hK _ ?_;clear hK)|(refine zJ fun K hK=>?_)|((first | refine zH ?_ | refine zN rfl (by kernel_rfl) ?_ | refine zM ?_ | refine zK (by kernel_rfl) ?_);simp only [wX,wW,strip])|((first | refine wIs fun K hK=>?_ | refine wOs fun K hK=>?_ | refine wQs fun K hK=>?_ | refine zW ?_ | refine zX ?_ | refine zY ?_ | refine zL ?_);simp [hW,h0,h1,h0',h1',h2,g2,g2',q1,q1',q4',q5,hln])|(refine wIn ?_;refine And.intro (by kernel_rfl) ?_;try simp only [zZ])|(first | refine zQ ?_ | refine zS ?_)|((first | refine zI ?_ | refine zO ?_ | refine zP ?_);try simp)|((first | refine zR ?_ | refine wOn ?_ | refine wQn ?_);try simp only [zZ])|(refine zU.pure (c1) rfl ?_)|(refine zU.lent (c1) rfl ?_)|(refine zT.pure (c1) rfl ?_)|(refine zT.lent (c1) rfl ?_)|(refine zU.own (c1) ?_)|(refine zV.pure (c1) rfl ?_)|(refine zV.lent (c1) rfl ?_)|(refine zV.own (c1) ?_)|(refine zU.pure (c2) rfl ?_)|(refine zU.lent (c2) rfl ?_)|(refine zT.pure (c2) rfl ?_)|(refine zT.lent (c2) rfl ?_)|(refine zU.own (c2) ?_)|(refine zV.pure (c2) rfl ?_)|(refine zV.lent (c2) rfl ?_)|(refine zV.own (c2) ?_)
  refine wLoopG [.cel 8 3 71 30 4] (fun N st => ∃ k, k + N = l.length /\ (l.take k).all memB = true /\ st.s 2 = .ptr 2 0 /\ st.b 2 = some (.box 26 [.p (I 0), .p (I 0), .p (I 0), .p (.v (.slice none 0 0))]) /\ st.s 8 = .ptr 8 0 /\ st.b 8 = some (.box 26 [.p (I ze), .p (I zn), .p (I kd), .row 71]) /\ st.b 71 = some (.row 30 4 (mbs ((l.take k).map memM))) ∧
   st.s 53 = .p (.sl 1 (sts l)) /\ st.s 54 = .p (I l.length) /\ st.s 55 = .p (I k)) l.length ⟨0,by simp [xG,gh1,mbs,h2,h2']⟩ fun K N st hL ⟨k,hk,hall,g2s,b2,g8,b8,b71,g53,g54,g55⟩=>?_
  by_cases hlt : k < l.length
  ·have hwr := wrapS k _ hlt (by omega)
   have he:=sts_get hlt
   have c3:=member_con l[k] (hlw _ (List.getElem_mem hlt))
   have htk : l.take (k + 1) = l.take k ++ [l[k]]:=List.take_succ_eq_append_getElem hlt
   have hll2 : ((l.take k).map memM).length <= k:=by simp;omega
   have hF : ∀ h,(sts l)[k]'h = [SB l[k]]:=fun h=>by simp
   generalize hw0 : l[k] = w at *
   cases hm : memB w with
   | true =>
    rw [hm] at c3
    have ha : mbs ((l.take k).map memM) ++ [[I (memM w).i,I (memM w).r,I (memM w).w,I (memM w).g]] = mbs ((l.take (k + 1)).map memM):=by rw [htk];simp [mbs,Mb.cells]
    have hall2 : (l.take (k + 1)).all memB = true:=by rw [htk,List.all_append,hall];simp [hm]
    generalize memM w = m at *
    obtain ⟨mi,mr,mw,mg⟩:=m
    simp only [Mb.cells] at c3 ha
    generalize (l.take k).map memM = Y at *
    generalize hY2 : (l.take (k + 1)).map memM = Y2 at *
    repeat' first|(refine hK _ ?_;clear hK)|(refine hK _ _ ?_;clear hK)|(clear hK;refine hK _ ?_;clear hK)|(clear hK;clear hK;refine hK _ ?_;clear hK)|(clear hK;clear hK;clear hK;refine hK _ ?_;clear hK)|(clear hK;clear hK;clear hK;clear hK;refine hK _ ?_;clear hK)|(refine zJ fun K hK=>?_)|((first | refine zH ?_ | refine zN rfl (by kernel_rfl) ?_ | refine zM ?_ | refine zK (by kernel_rfl) ?_);simp only [wX,wW,strip])|((first | refine wIs fun K hK=>?_ | refine wOs fun K hK=>?_ | refine wQs fun K hK=>?_ | refine zW ?_ | refine zX ?_ | refine zY ?_ | refine zL ?_);simp [g2s,b2,g8,b8,b71,g53,g54,g55,hlt,hwr,he,hw0,hF,ha])|(refine wIn ?_;refine And.intro (by kernel_rfl) ?_;try simp only [zZ])|(first | refine zQ ?_ | refine zS ?_)|((first | refine zI ?_ | refine zO ?_ | refine zP ?_);try simp)|((first | refine zR ?_ | refine wOn ?_ | refine wQn ?_);try simp only [zZ])|(refine zU.pure (c3) rfl ?_)|(refine zU.lent (c3) rfl ?_)|(refine zT.pure (c3) rfl ?_)|(refine zT.lent (c3) rfl ?_)|(refine zU.own (c3) ?_)|(refine zV.pure (c3) rfl ?_)|(refine zV.lent (c3) rfl ?_)|(refine zV.own (c3) ?_)|(refine And.intro (by (try simp);omega) ?_)
    refine hL _ (N - 1) (by omega) ⟨k + 1,by omega,hall2,?_⟩
    simp [g2s,b2,g8,b8,b71,g53,g54,g55,hwr,ha,hY2]
   | false =>
    rw [hm] at c3
    have:=List.all_eq_true.1 hx w (hw0 ▸ List.getElem_mem hlt)
    rw [hm] at this;cases this
  ·rw [List.take_of_length_le (by omega)] at hall b71
   generalize l.map memM = Y at *
   repeat' first|(refine hK _ ?_;clear hK)|(refine hK _ _ ?_;clear hK)|(clear hK;refine hK _ ?_;clear hK)|(clear hK;clear hK;refine hK _ ?_;clear hK)|(clear hK;clear hK;clear hK;refine hK _ ?_;clear hK)|(clear hK;clear hK;clear hK;clear hK;refine hK _ ?_;clear hK)|(refine zJ fun K hK=>?_)|((first | refine zH ?_ | refine zN rfl (by kernel_rfl) ?_ | refine zM ?_ | refine zK (by kernel_rfl) ?_);simp only [wX,wW,strip])|((first | refine wIs fun K hK=>?_ | refine wOs fun K hK=>?_ | refine wQs fun K hK=>?_ | refine zW ?_ | refine zX ?_ | refine zY ?_ | refine zL ?_);simp [g2s,b2,g8,b8,b71,g53,g54,g55,hlt])|(refine wIn ?_;refine And.intro (by kernel_rfl) ?_;try simp only [zZ])|(first | refine zQ ?_ | refine zS ?_)|((first | refine zI ?_ | refine zO ?_ | refine zP ?_);try simp)|((first | refine zR ?_ | refine wOn ?_ | refine wQn ?_);try simp only [zZ])
   all_goals apply hr
   all_goals simp [Tryd.f35,Cf.cells,g2s,b2,b71]
 | false =>
  rw [if_neg (by decide)]
  refine zE.wkT2 ?_ wkCf
  refine zF Tryd.tab Tryd.mixed Tryd.func35 rfl rfl Tryd.ntmps35 (by simp) (by simp) fun Q hr hn=>?_
  repeat' first|(refine hK _ ?_;clear hK)|(refine hK _ _ ?_;clear hK)|(clear hK;refine hK _ ?_;clear hK)|(clear hK;clear hK;refine hK _ ?_;clear hK)|(clear hK;clear hK;clear hK;refine hK _ ?_;clear hK)|(clear hK;clear hK;clear hK;clear hK;refine hK _ ?_;clear hK)|(refine zJ fun K hK=>?_)|((first | refine zH ?_ | refine zN rfl (by kernel_rfl) ?_ | refine zM ?_ | refine zK (by kernel_rfl) ?_);simp only [wX,wW,strip])|((first | refine wIs fun K hK=>?_ | refine wOs fun K hK=>?_ | refine wQs fun K hK=>?_ | refine zW ?_ | refine zX ?_ | refine zY ?_ | refine zL ?_);simp [hW,h0,h1,h0',h1',h2,g2,g2',q1,q1',q4',q5,hln])|(refine wIn ?_;refine And.intro (by kernel_rfl) ?_;try simp only [zZ])|(first | refine zQ ?_ | refine zS ?_)|((first | refine zI ?_ | refine zO ?_ | refine zP ?_);try simp)|((first | refine zR ?_ | refine wOn ?_ | refine wQn ?_);try simp only [zZ])|(refine zU.pure (c1) rfl ?_)|(refine zU.lent (c1) rfl ?_)|(refine zT.pure (c1) rfl ?_)|(refine zT.lent (c1) rfl ?_)|(refine zU.own (c1) ?_)|(refine zV.pure (c1) rfl ?_)|(refine zV.lent (c1) rfl ?_)|(refine zV.own (c1) ?_)|(refine zU.pure (c2) rfl ?_)|(refine zU.lent (c2) rfl ?_)|(refine zT.pure (c2) rfl ?_)|(refine zT.lent (c2) rfl ?_)|(refine zU.own (c2) ?_)|(refine zV.pure (c2) rfl ?_)|(refine zV.lent (c2) rfl ?_)|(refine zV.own (c2) ?_)
  refine wLoopG [.cel 8 3 71 30 4] (fun N st => ∃ k, k + N = l.length /\ (l.take k).all memB = true /\ st.s 2 = .ptr 2 0 /\ st.b 2 = some (.box 26 [.p (I 0), .p (I 0), .p (I 0), .p (.v (.slice none 0 0))]) /\ st.s 8 = .ptr 8 0 /\ st.b 8 = some (.box 26 [.p (I ze), .p (I zn), .p (I kd), .row 71]) /\ st.b 71 = some (.row 30 4 (mbs ((l.take k).map memM))) ∧
   st.s 53 = .p (.sl 1 (sts l)) /\ st.s 54 = .p (I l.length) /\ st.s 55 = .p (I k)) l.length ⟨0,by simp [xG,gh1,mbs,h2,h2']⟩ fun K N st hL ⟨k,hk,hall,g2s,b2,g8,b8,b71,g53,g54,g55⟩=>?_
  by_cases hlt : k < l.length
  ·have hwr := wrapS k _ hlt (by omega)
   have he:=sts_get hlt
   have c3:=member_con l[k] (hlw _ (List.getElem_mem hlt))
   have htk : l.take (k + 1) = l.take k ++ [l[k]]:=List.take_succ_eq_append_getElem hlt
   have hll2 : ((l.take k).map memM).length <= k:=by simp;omega
   have hF : ∀ h,(sts l)[k]'h = [SB l[k]]:=fun h=>by simp
   generalize hw0 : l[k] = w at *
   cases hm : memB w with
   | true =>
    rw [hm] at c3
    have ha : mbs ((l.take k).map memM) ++ [[I (memM w).i,I (memM w).r,I (memM w).w,I (memM w).g]] = mbs ((l.take (k + 1)).map memM):=by rw [htk];simp [mbs,Mb.cells]
    have hall2 : (l.take (k + 1)).all memB = true:=by rw [htk,List.all_append,hall];simp [hm]
    generalize memM w = m at *
    obtain ⟨mi,mr,mw,mg⟩:=m
    simp only [Mb.cells] at c3 ha
    generalize (l.take k).map memM = Y at *
    generalize hY2 : (l.take (k + 1)).map memM = Y2 at *
    repeat' first|(refine hK _ ?_;clear hK)|(refine hK _ _ ?_;clear hK)|(clear hK;refine hK _ ?_;clear hK)|(clear hK;clear hK;refine hK _ ?_;clear hK)|(clear hK;clear hK;clear hK;refine hK _ ?_;clear hK)|(clear hK;clear hK;clear hK;clear hK;refine hK _ ?_;clear hK)|(refine zJ fun K hK=>?_)|((first | refine zH ?_ | refine zN rfl (by kernel_rfl) ?_ | refine zM ?_ | refine zK (by kernel_rfl) ?_);simp only [wX,wW,strip])|((first | refine wIs fun K hK=>?_ | refine wOs fun K hK=>?_ | refine wQs fun K hK=>?_ | refine zW ?_ | refine zX ?_ | refine zY ?_ | refine zL ?_);simp [g2s,b2,g8,b8,b71,g53,g54,g55,hlt,hwr,he,hw0,hF,ha])|(refine wIn ?_;refine And.intro (by kernel_rfl) ?_;try simp only [zZ])|(first | refine zQ ?_ | refine zS ?_)|((first | refine zI ?_ | refine zO ?_ | refine zP ?_);try simp)|((first | refine zR ?_ | refine wOn ?_ | refine wQn ?_);try simp only [zZ])|(refine zU.pure (c3) rfl ?_)|(refine zU.lent (c3) rfl ?_)|(refine zT.pure (c3) rfl ?_)|(refine zT.lent (c3) rfl ?_)|(refine zU.own (c3) ?_)|(refine zV.pure (c3) rfl ?_)|(refine zV.lent (c3) rfl ?_)|(refine zV.own (c3) ?_)|(refine And.intro (by (try simp);omega) ?_)
    refine hL _ (N - 1) (by omega) ⟨k + 1,by omega,hall2,?_⟩
    simp [g2s,b2,g8,b8,b71,g53,g54,g55,hwr,ha,hY2]
   | false =>
    rw [hm] at c3
    generalize memM w = m at *
    obtain ⟨mi,mr,mw,mg⟩:=m
    simp only [Mb.cells] at c3
    repeat' first|(refine hK _ ?_;clear hK)|(refine hK _ _ ?_;clear hK)|(clear hK;refine hK _ ?_;clear hK)|(clear hK;clear hK;refine hK _ ?_;clear hK)|(clear hK;clear hK;clear hK;refine hK _ ?_;clear hK)|(clear hK;clear hK;clear hK;clear hK;refine hK _ ?_;clear hK)|(refine zJ fun K hK=>?_)|((first | refine zH ?_ | refine zN rfl (by kernel_rfl) ?_ | refine zM ?_ | refine zK (by kernel_rfl) ?_);simp only [wX,wW,strip])|((first | refine wIs fun K hK=>?_ | refine wOs fun K hK=>?_ | refine wQs fun K hK=>?_ | refine zW ?_ | refine zX ?_ | refine zY ?_ | refine zL ?_);simp [g2s,b2,g8,b8,b71,g53,g54,g55,hlt,hwr,he,hw0,hF])|(refine wIn ?_;refine And.intro (by kernel_rfl) ?_;try simp only [zZ])|(first | refine zQ ?_ | refine zS ?_)|((first | refine zI ?_ | refine zO ?_ | refine zP ?_);try simp)|((first | refine zR ?_ | refine wOn ?_ | refine wQn ?_);try simp only [zZ])|(refine zU.pure (c3) rfl ?_)|(refine zU.lent (c3) rfl ?_)|(refine zT.pure (c3) rfl ?_)|(refine zT.lent (c3) rfl ?_)|(refine zU.own (c3) ?_)|(refine zV.pure (c3) rfl ?_)|(refine zV.lent (c3) rfl ?_)|(refine zV.own (c3) ?_)
    all_goals apply hr
    all_goals simp [Tryd.f35,cf0,Cf.cells,mbs,g2s,b2]
  ·rw [List.take_of_length_le (by omega)] at hall
   rw [hx] at hall;cases hall
def prsC (s : List UInt8) : Cf := if shpB (spl s) = true then (if check (shpC (spl s)) = 0 then shpC (spl s) else cf0) else cf0
def prsE (s : List UInt8) : Int := if shpB (spl s) = true then check (shpC (spl s)) else 3
theorem spl_mem (s : List UInt8) : ∀ w ∈ spl s, w.length <= s.length := by
 induction s with
 | nil=>intro w hw;simp [spl] at hw;subst hw;simp
 | cons b l ih =>
  intro w hw
  unfold spl at hw
  split at hw
  ·rcases List.mem_cons.1 hw with rfl | hw
   ·simp
   ·have:=ih w hw;simp;omega
  ·split at hw
   ·simp at hw;subst hw;simp
   ·rename_i h t he
    rw [he] at ih
    rcases List.mem_cons.1 hw with rfl | hw
    ·have:=ih h (by simp);simp;omega
    ·have:=ih w (by simp [hw]);simp;omega
theorem shpC_len (ws : List (List UInt8)) : (shpC ws).ms.length <= ws.length := by
 match ws with
 | []=>simp [shpC,cf0]
 | [a]=>simp [shpC,cf0]
 | a :: b :: l =>
  simp only [shpC]
  split
  ·simp;omega
  ·simp [cf0]
set_option maxHeartbeats 4000000 in
theorem parseC_con (s : List UInt8) (hs : s.length <= 900000) : zE Tryd.prog 23 [.p (SB s)] (.tup [.p (.agg (prsC s).cells), .p (I (prsE s))]) := by
 have hsl:=spl_len s
 have hcl:=count_le s
 have c1:=split_con s (by omega)
 have c2:=shaped_con (spl s) (by omega) fun w hw=>by have:=spl_mem s w hw;omega
 have c3:=check_con (shpC (spl s)) (by have:=shpC_len (spl s);omega)
 unfold prsC prsE
 generalize shpC (spl s) = C at *
 cases hb : shpB (spl s) with
 | false =>
  rw [hb] at c2
  simp only [Bool.false_eq_true,if_false]
  generalize spl s = W at *
  clear c3
  refine zE.wkT2 ?_ wkCf
  unfold Cf.cells at *
  refine zF Tryd.tab Tryd.mixed Tryd.func23 rfl rfl Tryd.ntmps23 (by simp) (by simp) fun Q hr hn=>?_
  repeat' first|(refine hK _ ?_;clear hK)|(refine hK _ _ ?_;clear hK)|(clear hK;refine hK _ ?_;clear hK)|(clear hK;clear hK;refine hK _ ?_;clear hK)|(clear hK;clear hK;clear hK;refine hK _ ?_;clear hK)|(clear hK;clear hK;clear hK;clear hK;refine hK _ ?_;clear hK)|(refine zJ fun K hK=>?_)|((first | refine zH ?_ | refine zN rfl (by kernel_rfl) ?_ | refine zM ?_ | refine zK (by kernel_rfl) ?_);simp only [wX,wW,strip])|((first | refine wIs fun K hK=>?_ | refine wOs fun K hK=>?_ | refine wQs fun K hK=>?_ | refine zW ?_ | refine zX ?_ | refine zY ?_ | refine zL ?_);simp)|(refine wIn ?_;refine And.intro (by kernel_rfl) ?_;try simp only [zZ])|(first | refine zQ ?_ | refine zS ?_)|((first | refine zI ?_ | refine zO ?_ | refine zP ?_);try simp)|((first | refine zR ?_ | refine wOn ?_ | refine wQn ?_);try simp only [zZ])|(refine zU.pure (c1) rfl ?_)|(refine zU.lent (c1) rfl ?_)|(refine zT.pure (c1) rfl ?_)|(refine zT.lent (c1) rfl ?_)|(refine zU.own (c1) ?_)|(refine zV.pure (c1) rfl ?_)|(refine zV.lent (c1) rfl ?_)|(refine zV.own (c1) ?_)|(refine zU.pure (c2) rfl ?_)|(refine zU.lent (c2) rfl ?_)|(refine zT.pure (c2) rfl ?_)|(refine zT.lent (c2) rfl ?_)|(refine zU.own (c2) ?_)|(refine zV.pure (c2) rfl ?_)|(refine zV.lent (c2) rfl ?_)|(refine zV.own (c2) ?_)
  all_goals apply hr
  all_goals simp [Tryd.f23,mbs]
 | true =>
  rw [hb] at c2
  simp only [if_true]
  generalize check C = e at *
  generalize spl s = W at *
  by_cases he : e = 0
  ·subst he
   rw [if_pos rfl]
   unfold Cf.cells at *
   refine zF Tryd.tab Tryd.mixed Tryd.func23 rfl rfl Tryd.ntmps23 (by simp) (by simp) fun Q hr hn=>?_
   repeat' first|(refine hK _ ?_;clear hK)|(refine hK _ _ ?_;clear hK)|(clear hK;refine hK _ ?_;clear hK)|(clear hK;clear hK;refine hK _ ?_;clear hK)|(clear hK;clear hK;clear hK;refine hK _ ?_;clear hK)|(clear hK;clear hK;clear hK;clear hK;refine hK _ ?_;clear hK)|(refine zJ fun K hK=>?_)|((first | refine zH ?_ | refine zN rfl (by kernel_rfl) ?_ | refine zM ?_ | refine zK (by kernel_rfl) ?_);simp only [wX,wW,strip])|((first | refine wIs fun K hK=>?_ | refine wOs fun K hK=>?_ | refine wQs fun K hK=>?_ | refine zW ?_ | refine zX ?_ | refine zY ?_ | refine zL ?_);simp)|(refine wIn ?_;refine And.intro (by kernel_rfl) ?_;try simp only [zZ])|(first | refine zQ ?_ | refine zS ?_)|((first | refine zI ?_ | refine zO ?_ | refine zP ?_);try simp)|((first | refine zR ?_ | refine wOn ?_ | refine wQn ?_);try simp only [zZ])|(refine zU.pure (c1) rfl ?_)|(refine zU.lent (c1) rfl ?_)|(refine zT.pure (c1) rfl ?_)|(refine zT.lent (c1) rfl ?_)|(refine zU.own (c1) ?_)|(refine zV.pure (c1) rfl ?_)|(refine zV.lent (c1) rfl ?_)|(refine zV.own (c1) ?_)|(refine zU.pure (c2) rfl ?_)|(refine zU.lent (c2) rfl ?_)|(refine zT.pure (c2) rfl ?_)|(refine zT.lent (c2) rfl ?_)|(refine zU.own (c2) ?_)|(refine zV.pure (c2) rfl ?_)|(refine zV.lent (c2) rfl ?_)|(refine zV.own (c2) ?_)|(refine zU.pure (c3) rfl ?_)|(refine zU.lent (c3) rfl ?_)|(refine zT.pure (c3) rfl ?_)|(refine zT.lent (c3) rfl ?_)|(refine zU.own (c3) ?_)|(refine zV.pure (c3) rfl ?_)|(refine zV.lent (c3) rfl ?_)|(refine zV.own (c3) ?_)
   all_goals apply hr
   all_goals simp [Tryd.f23]
  ·rw [if_neg he]
   have he':=eq_false he
   refine zE.wkT2 ?_ wkCf
   unfold Cf.cells at *
   refine zF Tryd.tab Tryd.mixed Tryd.func23 rfl rfl Tryd.ntmps23 (by simp) (by simp) fun Q hr hn=>?_
   repeat' first|(refine hK _ ?_;clear hK)|(refine hK _ _ ?_;clear hK)|(clear hK;refine hK _ ?_;clear hK)|(clear hK;clear hK;refine hK _ ?_;clear hK)|(clear hK;clear hK;clear hK;refine hK _ ?_;clear hK)|(clear hK;clear hK;clear hK;clear hK;refine hK _ ?_;clear hK)|(refine zJ fun K hK=>?_)|((first | refine zH ?_ | refine zN rfl (by kernel_rfl) ?_ | refine zM ?_ | refine zK (by kernel_rfl) ?_);simp only [wX,wW,strip])|((first | refine wIs fun K hK=>?_ | refine wOs fun K hK=>?_ | refine wQs fun K hK=>?_ | refine zW ?_ | refine zX ?_ | refine zY ?_ | refine zL ?_);simp [he'])|(refine wIn ?_;refine And.intro (by kernel_rfl) ?_;try simp only [zZ])|(first | refine zQ ?_ | refine zS ?_)|((first | refine zI ?_ | refine zO ?_ | refine zP ?_);try simp)|((first | refine zR ?_ | refine wOn ?_ | refine wQn ?_);try simp only [zZ])|(refine zU.pure (c1) rfl ?_)|(refine zU.lent (c1) rfl ?_)|(refine zT.pure (c1) rfl ?_)|(refine zT.lent (c1) rfl ?_)|(refine zU.own (c1) ?_)|(refine zV.pure (c1) rfl ?_)|(refine zV.lent (c1) rfl ?_)|(refine zV.own (c1) ?_)|(refine zU.pure (c2) rfl ?_)|(refine zU.lent (c2) rfl ?_)|(refine zT.pure (c2) rfl ?_)|(refine zT.lent (c2) rfl ?_)|(refine zU.own (c2) ?_)|(refine zV.pure (c2) rfl ?_)|(refine zV.lent (c2) rfl ?_)|(refine zV.own (c2) ?_)|(refine zU.pure (c3) rfl ?_)|(refine zU.lent (c3) rfl ?_)|(refine zT.pure (c3) rfl ?_)|(refine zT.lent (c3) rfl ?_)|(refine zU.own (c3) ?_)|(refine zV.pure (c3) rfl ?_)|(refine zV.lent (c3) rfl ?_)|(refine zV.own (c3) ?_)
   all_goals apply hr
   all_goals simp [Tryd.f23,mbs]
theorem check_all {c : Cf} (h : check c = 0) : ranged c /\ fine (-1) c.ms = true /\ xN c.kind c.ms = true := by
 unfold check at h
 split at h
 ·split at h
  ·split at h
   ·exact ⟨‹_›,‹_›,‹_›⟩
   ·exact absurd h (by decide)
  ·exact absurd h (by decide)
 ·exact absurd h (by decide)
theorem fine_all : ∀ (l : List Mb) (p : Int), fine p l = true -> ∀ m ∈ l, okM m
 | [],_,_,m,hm=>by simp at hm
 | a :: l, p, h, m, hm => by
  unfold fine at h
  simp only [Bool.and_eq_true,decide_eq_true_eq] at h
  rcases List.mem_cons.1 hm with rfl | hm
  ·exact h.1.1
  ·exact fine_all l a.i h.2 m hm
def rolB (m : Mb) : UInt8 := if m.r = 2 then 111 else 112
def memT (m : Mb) : List UInt8 := 32 :: (xF m.i.toNat ++ (rolB m :: (xF m.w.toNat ++ (103 :: xF m.g.toNat))))
theorem decL_len (n : Nat) : (xF n).length <= 3 := by unfold xF; split <;> (try split) <;> simp
theorem memT_len (m : Mb) : (memT m).length <= 12 := by
 have:=decL_len m.i.toNat
 have:=decL_len m.w.toNat
 have:=decL_len m.g.toNat
 simp [memT];omega
theorem memsT_len (l : List Mb) : ((l.map memT).flatten).length <= 12 * l.length := by
 induction l with
 | nil=>simp
 | cons m l ih =>
  have:=memT_len m
  rw [wX,List.flatten_cons,List.length_append,List.length_cons]
  omega
theorem txt_len (z : Zx) : (txt z).length <= 27 := by
 unfold txt
 split
 ·rename_i h
  have a:=itoa_len h.1
  have b:=itoa_len h.2
  simp;omega
 ·simp
def hdT (c : Cf) : List UInt8 := txt ⟨c.ep, c.n⟩ ++ 32 :: xF c.kind.toNat
def txtC (c : Cf) : List UInt8 := if check c = 0 then hdT c ++ (c.ms.map memT).flatten else []
theorem decI_con {n : Int} (h0 : 0 <= n) (h : n < 1000) : zE Tryd.prog 34 [.p (I n)] (.p (SB (xF n.toNat))) := by
 have:=decimal_con n.toNat (by omega)
 rw [Int.toNat_of_nonneg h0] at this
 exact this
set_option maxHeartbeats 4000000 in
theorem textC_con (c : Cf) (hl : c.ms.length <= 100000) : zE Tryd.prog 22 [.p (.agg c.cells)] (.p (SB (txtC c))) := by
 have c1:=check_con c (by omega)
 unfold txtC
 by_cases hc : check c = 0
 case neg =>
  rw [if_neg hc]
  have hc':=eq_false hc
  generalize check c = e at *
  unfold Cf.cells at *
  refine zF Tryd.tab Tryd.mixed Tryd.func22 rfl rfl Tryd.ntmps22 (by simp) (by simp) fun Q hr hn=>?_
  repeat' first|(refine hK _ ?_;clear hK)|(refine hK _ _ ?_;clear hK)|(clear hK;refine hK _ ?_;clear hK)|(clear hK;clear hK;refine hK _ ?_;clear hK)|(clear hK;clear hK;clear hK;refine hK _ ?_;clear hK)|(clear hK;clear hK;clear hK;clear hK;refine hK _ ?_;clear hK)|(refine zJ fun K hK=>?_)|((first | refine zH ?_ | refine zN rfl (by kernel_rfl) ?_ | refine zM ?_ | refine zK (by kernel_rfl) ?_);simp only [wX,wW,strip])|((first | refine wIs fun K hK=>?_ | refine wOs fun K hK=>?_ | refine wQs fun K hK=>?_ | refine zW ?_ | refine zX ?_ | refine zY ?_ | refine zL ?_);simp [hc'])|(refine wIn ?_;refine And.intro (by kernel_rfl) ?_;try simp only [zZ])|(first | refine zQ ?_ | refine zS ?_)|((first | refine zI ?_ | refine zO ?_ | refine zP ?_);try simp)|((first | refine zR ?_ | refine wOn ?_ | refine wQn ?_);try simp only [zZ])|(refine zU.pure (c1) rfl ?_)|(refine zU.lent (c1) rfl ?_)|(refine zT.pure (c1) rfl ?_)|(refine zT.lent (c1) rfl ?_)|(refine zU.own (c1) ?_)|(refine zV.pure (c1) rfl ?_)|(refine zV.lent (c1) rfl ?_)|(refine zV.own (c1) ?_)
  all_goals apply hr
  all_goals simp [Tryd.f22]
 rw [if_pos hc]
 rw [hc] at c1
 obtain ⟨hr1,hf,-⟩:=check_all hc
 have hok:=fine_all _ _ hf
 have c2:=text_con ⟨c.ep,c.n⟩
 have c3:=decI_con (n:=c.kind) (by have:=hr1.1;omega) (by have:=hr1.1;omega)
 have e111 : Utf8.encode 111 = bs [111]:=enc_asc (b:=111) (by decide)
 have e112 : Utf8.encode 112 = bs [112]:=enc_asc (b:=112) (by decide)
 unfold hdT
 clear hc hr1 hf
 obtain ⟨ep,n,kind,ms⟩:=c
 unfold Cf.cells at *
 dsimp only at *
 have hh : ∀ a b : List UInt8,a ++ 32 :: b = (a ++ [32]) ++ b:=fun a b=>by simp
 rw [hh]
 have z1:=txt_len ⟨ep,n⟩
 have z2:=decL_len kind.toNat
 generalize txt ⟨ep,n⟩ = tz at *
 generalize xF kind.toNat = tk at *
 refine zF Tryd.tab Tryd.mixed Tryd.func22 rfl rfl Tryd.ntmps22 (by simp) (by simp) fun Q hr hn=>?_
 repeat' first|(refine hK _ ?_;clear hK)|(refine hK _ _ ?_;clear hK)|(clear hK;refine hK _ ?_;clear hK)|(clear hK;clear hK;refine hK _ ?_;clear hK)|(clear hK;clear hK;clear hK;refine hK _ ?_;clear hK)|(clear hK;clear hK;clear hK;clear hK;refine hK _ ?_;clear hK)|(refine zJ fun K hK=>?_)|((first | refine zH ?_ | refine zN rfl (by kernel_rfl) ?_ | refine zM ?_ | refine zK (by kernel_rfl) ?_);simp only [wX,wW,strip])|((first | refine wIs fun K hK=>?_ | refine wOs fun K hK=>?_ | refine wQs fun K hK=>?_ | refine zW ?_ | refine zX ?_ | refine zY ?_ | refine zL ?_);simp)|(refine wIn ?_;refine And.intro (by kernel_rfl) ?_;try simp only [zZ])|(first | refine zQ ?_ | refine zS ?_)|((first | refine zI ?_ | refine zO ?_ | refine zP ?_);try simp)|((first | refine zR ?_ | refine wOn ?_ | refine wQn ?_);try simp only [zZ])|(refine zU.pure (c1) rfl ?_)|(refine zU.lent (c1) rfl ?_)|(refine zT.pure (c1) rfl ?_)|(refine zT.lent (c1) rfl ?_)|(refine zU.own (c1) ?_)|(refine zV.pure (c1) rfl ?_)|(refine zV.lent (c1) rfl ?_)|(refine zV.own (c1) ?_)|(refine zU.pure (c2) rfl ?_)|(refine zU.lent (c2) rfl ?_)|(refine zT.pure (c2) rfl ?_)|(refine zT.lent (c2) rfl ?_)|(refine zU.own (c2) ?_)|(refine zV.pure (c2) rfl ?_)|(refine zV.lent (c2) rfl ?_)|(refine zV.own (c2) ?_)|(refine zU.pure (c3) rfl ?_)|(refine zU.lent (c3) rfl ?_)|(refine zT.pure (c3) rfl ?_)|(refine zT.lent (c3) rfl ?_)|(refine zU.own (c3) ?_)|(refine zV.pure (c3) rfl ?_)|(refine zV.lent (c3) rfl ?_)|(refine zV.own (c3) ?_)|(rw [if_pos (by (try simp only [List.length_append,List.length_cons,List.length_nil]);omega)])
 refine yB (fun N st=>∃ k,k + N = ms.length /\ st.s 1 = .ptr 1 0 /\ st.b 1 = some (.box 26 [.p (I ep),.p (I n),.p (I kind),.p (.sl 4 (mbs ms))]) /\ st.s 3 = .p (SB (((tz ++ [32]) ++ tk) ++ ((ms.take k).map memT).flatten)) /\ st.s 19 = .p (.sl 4 (mbs ms)) /\ st.s 20 = .p (I ms.length) /\ st.s 21 = .p (I k)) ms.length ⟨0,by simp⟩ fun K N st hL ⟨k,hk,g1,b1,g3,g19,g20,g21⟩=>?_
 by_cases hlt : k < ms.length
 ·have hw := wrapS k _ hlt (by omega)
  have he:=mbs_get hlt
  obtain ⟨⟨o1,o2⟩,o3,⟨o4,o5⟩,o6,o7⟩:=hok _ (List.getElem_mem hlt)
  have d1:=decI_con o1 (by omega)
  have d2:=decI_con o4 (by omega)
  have d3:=decI_con o6 (by omega)
  have htk : ((ms.take (k + 1)).map memT).flatten = ((ms.take k).map memT).flatten ++ memT ms[k]:=by rw [List.take_succ_eq_append_getElem hlt,List.map_append,List.flatten_append];simp
  have v1:=decL_len ms[k].i.toNat
  have v2:=decL_len ms[k].w.toNat
  have v3:=decL_len ms[k].g.toNat
  have v4 : (((tz ++ [32]) ++ tk) ++ ((ms.take k).map memT).flatten).length <= 1300000 := by
   have:=memsT_len (ms.take k)
   rw [List.length_append,List.length_append,List.length_append]
   simp only [List.length_take,List.length_cons,List.length_nil] at this ⊢
   omega
  have htk2 : ((tz ++ [32]) ++ tk) ++ ((ms.take (k + 1)).map memT).flatten = (((tz ++ [32]) ++ tk) ++ ((ms.take k).map memT).flatten) ++ memT ms[k]:=by rw [htk,<- List.append_assoc]
  have hmt : memT ms[k] = 32 :: (xF ms[k].i.toNat ++ ((if ms[k].r = 2 then 111 else 112) :: (xF ms[k].w.toNat ++ (103 :: xF ms[k].g.toNat)))):=rfl
  rw [hmt] at htk2
  clear hmt
  generalize hT2 : ((tz ++ [32]) ++ tk) ++ ((ms.take (k + 1)).map memT).flatten = T2 at *
  generalize ((tz ++ [32]) ++ tk) ++ ((ms.take k).map memT).flatten = T at *
  clear htk
  generalize hF : ms[k] = m at *
  generalize xF m.i.toNat = t1 at *
  generalize xF m.w.toNat = t2 at *
  generalize xF m.g.toNat = t3 at *
  by_cases hr2 : m.r = 2
  ·rw [if_pos hr2] at htk2
   repeat' first|(refine hK _ ?_;clear hK)|(refine hK _ _ ?_;clear hK)|(clear hK;refine hK _ ?_;clear hK)|(clear hK;clear hK;refine hK _ ?_;clear hK)|(clear hK;clear hK;clear hK;refine hK _ ?_;clear hK)|(clear hK;clear hK;clear hK;clear hK;refine hK _ ?_;clear hK)|(refine zJ fun K hK=>?_)|((first | refine zH ?_ | refine zN rfl (by kernel_rfl) ?_ | refine zM ?_ | refine zK (by kernel_rfl) ?_);simp only [wX,wW,strip])|((first | refine wIs fun K hK=>?_ | refine wOs fun K hK=>?_ | refine wQs fun K hK=>?_ | refine zW ?_ | refine zX ?_ | refine zY ?_ | refine zL ?_);simp [g1,b1,g3,g19,g20,g21,hlt,hw,he,hF,hr2,e111,e112])|(refine wIn ?_;refine And.intro (by kernel_rfl) ?_;try simp only [zZ])|(first | refine zQ ?_ | refine zS ?_)|((first | refine zI ?_ | refine zO ?_ | refine zP ?_);try simp)|((first | refine zR ?_ | refine wOn ?_ | refine wQn ?_);try simp only [zZ])|(refine zU.pure (d1) rfl ?_)|(refine zU.lent (d1) rfl ?_)|(refine zT.pure (d1) rfl ?_)|(refine zT.lent (d1) rfl ?_)|(refine zU.own (d1) ?_)|(refine zV.pure (d1) rfl ?_)|(refine zV.lent (d1) rfl ?_)|(refine zV.own (d1) ?_)|(refine zU.pure (d2) rfl ?_)|(refine zU.lent (d2) rfl ?_)|(refine zT.pure (d2) rfl ?_)|(refine zT.lent (d2) rfl ?_)|(refine zU.own (d2) ?_)|(refine zV.pure (d2) rfl ?_)|(refine zV.lent (d2) rfl ?_)|(refine zV.own (d2) ?_)|(refine zU.pure (d3) rfl ?_)|(refine zU.lent (d3) rfl ?_)|(refine zT.pure (d3) rfl ?_)|(refine zT.lent (d3) rfl ?_)|(refine zU.own (d3) ?_)|(refine zV.pure (d3) rfl ?_)|(refine zV.lent (d3) rfl ?_)|(refine zV.own (d3) ?_)|(rw [if_pos (by (try simp only [List.length_append,List.length_cons,List.length_nil]);omega)])
   refine hL _ (N - 1) (by omega) ⟨k + 1,by omega,?_⟩
   rw [hT2,htk2];simp [g1,b1,g3,g19,g20,g21,hw]
  ·rw [if_neg hr2] at htk2
   have hr2':=eq_false hr2
   repeat' first|(refine hK _ ?_;clear hK)|(refine hK _ _ ?_;clear hK)|(clear hK;refine hK _ ?_;clear hK)|(clear hK;clear hK;refine hK _ ?_;clear hK)|(clear hK;clear hK;clear hK;refine hK _ ?_;clear hK)|(clear hK;clear hK;clear hK;clear hK;refine hK _ ?_;clear hK)|(refine zJ fun K hK=>?_)|((first | refine zH ?_ | refine zN rfl (by kernel_rfl) ?_ | refine zM ?_ | refine zK (by kernel_rfl) ?_);simp only [wX,wW,strip])|((first | refine wIs fun K hK=>?_ | refine wOs fun K hK=>?_ | refine wQs fun K hK=>?_ | refine zW ?_ | refine zX ?_ | refine zY ?_ | refine zL ?_);simp [g1,b1,g3,g19,g20,g21,hlt,hw,he,hF,hr2',e111,e112])|(refine wIn ?_;refine And.intro (by kernel_rfl) ?_;try simp only [zZ])|(first | refine zQ ?_ | refine zS ?_)|((first | refine zI ?_ | refine zO ?_ | refine zP ?_);try simp)|((first | refine zR ?_ | refine wOn ?_ | refine wQn ?_);try simp only [zZ])|(refine zU.pure (d1) rfl ?_)|(refine zU.lent (d1) rfl ?_)|(refine zT.pure (d1) rfl ?_)|(refine zT.lent (d1) rfl ?_)|(refine zU.own (d1) ?_)|(refine zV.pure (d1) rfl ?_)|(refine zV.lent (d1) rfl ?_)|(refine zV.own (d1) ?_)|(refine zU.pure (d2) rfl ?_)|(refine zU.lent (d2) rfl ?_)|(refine zT.pure (d2) rfl ?_)|(refine zT.lent (d2) rfl ?_)|(refine zU.own (d2) ?_)|(refine zV.pure (d2) rfl ?_)|(refine zV.lent (d2) rfl ?_)|(refine zV.own (d2) ?_)|(refine zU.pure (d3) rfl ?_)|(refine zU.lent (d3) rfl ?_)|(refine zT.pure (d3) rfl ?_)|(refine zT.lent (d3) rfl ?_)|(refine zU.own (d3) ?_)|(refine zV.pure (d3) rfl ?_)|(refine zV.lent (d3) rfl ?_)|(refine zV.own (d3) ?_)|(rw [if_pos (by (try simp only [List.length_append,List.length_cons,List.length_nil]);omega)])
   refine hL _ (N - 1) (by omega) ⟨k + 1,by omega,?_⟩
   rw [hT2,htk2];simp [g1,b1,g3,g19,g20,g21,hw]
 ·rw [List.take_of_length_le (by omega)] at g3
  generalize (ms.map memT).flatten = tt at *
  repeat' first|(refine hK _ ?_;clear hK)|(refine hK _ _ ?_;clear hK)|(clear hK;refine hK _ ?_;clear hK)|(clear hK;clear hK;refine hK _ ?_;clear hK)|(clear hK;clear hK;clear hK;refine hK _ ?_;clear hK)|(clear hK;clear hK;clear hK;clear hK;refine hK _ ?_;clear hK)|(refine zJ fun K hK=>?_)|((first | refine zH ?_ | refine zN rfl (by kernel_rfl) ?_ | refine zM ?_ | refine zK (by kernel_rfl) ?_);simp only [wX,wW,strip])|((first | refine wIs fun K hK=>?_ | refine wOs fun K hK=>?_ | refine wQs fun K hK=>?_ | refine zW ?_ | refine zX ?_ | refine zY ?_ | refine zL ?_);simp [g1,b1,g3,g19,g20,g21,hlt])|(refine wIn ?_;refine And.intro (by kernel_rfl) ?_;try simp only [zZ])|(first | refine zQ ?_ | refine zS ?_)|((first | refine zI ?_ | refine zO ?_ | refine zP ?_);try simp)|((first | refine zR ?_ | refine wOn ?_ | refine wQn ?_);try simp only [zZ])
  all_goals apply hr
  all_goals simp [Tryd.f22]
end Go.Proofs.YtjekjpgccnhobaaDoor
namespace Go.Proofs.YtjekjpgccnhobaaDoor
set_option linter.unusedSimpArgs false
set_option linter.unusedVariables false
open Go Go.Av
attribute [local irreducible] Go.Av.xH Go.Av.zU Go.Av.wY Go.Av.zT Go.Av.wZ Go.Av.zV Go.Av.Con
theorem ints01_con (a b : List Int) : zE Tryd.prog 13 [.p (.sl 1 (ints a)), .p (.sl 1 (ints b))] (.p (B (decide (a = b)))) := by
 refine zE.len ⟨Tryd.f13,Tryd.func13,rfl,rfl⟩ 0 _ _ rfl fun hlen=>?_
 simp only [ints_len] at hlen
 by_cases hl : a.length = b.length
 ·refine zF Tryd.tab Tryd.mixed Tryd.func13 rfl rfl Tryd.ntmps13 (by simp) (by simp) fun Q hr hn => ?_
  repeat' first|(refine hK _ ?_;clear hK)|(refine hK _ _ ?_;clear hK)|(clear hK;refine hK _ ?_;clear hK)|(clear hK;clear hK;refine hK _ ?_;clear hK)|(clear hK;clear hK;clear hK;refine hK _ ?_;clear hK)|(clear hK;clear hK;clear hK;clear hK;refine hK _ ?_;clear hK)|(refine zJ fun K hK=>?_)|((first | refine zH ?_ | refine zN rfl (by kernel_rfl) ?_ | refine zM ?_ | refine zK (by kernel_rfl) ?_);simp only [wX,wW,strip])|((first | refine wIs fun K hK=>?_ | refine wOs fun K hK=>?_ | refine wQs fun K hK=>?_ | refine zW ?_ | refine zX ?_ | refine zY ?_ | refine zL ?_);simp [hl])|(refine wIn ?_;refine And.intro (by kernel_rfl) ?_;try simp only [zZ])|(first | refine zQ ?_ | refine zS ?_)|((first | refine zI ?_ | refine zO ?_ | refine zP ?_);try simp)|((first | refine zR ?_ | refine wOn ?_ | refine wQn ?_);try simp only [zZ])
  refine yB (fun N st=>∃ k,k + N = a.length /\ st.s 0 = .p (.sl 1 (ints a)) /\ st.s 1 = .p (.sl 1 (ints b)) /\ st.s 12 = .p (I a.length) /\ st.s 13 = .p (I k) /\ (a = b ↔ a.drop k = b.drop k)) a.length ⟨0,by simp [hl]⟩ fun K N st hL ⟨k,hk,h0,h1,h12,h13,hi⟩=>?_
  by_cases hlt : k < a.length
  ·have hw := wrapS k _ hlt hlen
   have he:=ints_get hlt
   have he':=ints_get (l:=b) (k:=k) (by omega)
   rw [List.drop_eq_getElem_cons hlt,List.drop_eq_getElem_cons (l:=b) (by omega),List.cons.injEq] at hi
   repeat' first|(refine hK _ ?_;clear hK)|(refine hK _ _ ?_;clear hK)|(clear hK;refine hK _ ?_;clear hK)|(clear hK;clear hK;refine hK _ ?_;clear hK)|(clear hK;clear hK;clear hK;refine hK _ ?_;clear hK)|(clear hK;clear hK;clear hK;clear hK;refine hK _ ?_;clear hK)|(refine zJ fun K hK=>?_)|((first | refine zH ?_ | refine zN rfl (by kernel_rfl) ?_ | refine zM ?_ | refine zK (by kernel_rfl) ?_);simp only [wX,wW,strip])|((first | refine wIs fun K hK=>?_ | refine wOs fun K hK=>?_ | refine wQs fun K hK=>?_ | refine zW ?_ | refine zX ?_ | refine zY ?_ | refine zL ?_);simp [h0,h1,h12,h13,hlt,hw,he,he'])|(refine wIn ?_;refine And.intro (by kernel_rfl) ?_;try simp only [zZ])|(first | refine zQ ?_ | refine zS ?_)|((first | refine zI ?_ | refine zO ?_ | refine zP ?_);try simp)|((first | refine zR ?_ | refine wOn ?_ | refine wQn ?_);try simp only [zZ])|(refine And.intro (fun hc=>?_) (fun hc=>?_))
   ·apply hr
    simp [Tryd.f13]
    intro h
    exact hc (hi.1 h).1
   ·refine hL _ (N - 1) (by omega) ⟨k + 1, by omega, ?_⟩
    simp [h0,h1,h12,hw]
    rw [hi];simp [hc]
  ·have hd : a.drop k = [] := List.drop_of_length_le (by omega)
   have hd' : b.drop k = []:=List.drop_of_length_le (by omega)
   rw [hd,hd'] at hi
   repeat' first|(refine hK _ ?_;clear hK)|(refine hK _ _ ?_;clear hK)|(clear hK;refine hK _ ?_;clear hK)|(clear hK;clear hK;refine hK _ ?_;clear hK)|(clear hK;clear hK;clear hK;refine hK _ ?_;clear hK)|(clear hK;clear hK;clear hK;clear hK;refine hK _ ?_;clear hK)|(refine zJ fun K hK=>?_)|((first | refine zH ?_ | refine zN rfl (by kernel_rfl) ?_ | refine zM ?_ | refine zK (by kernel_rfl) ?_);simp only [wX,wW,strip])|((first | refine wIs fun K hK=>?_ | refine wOs fun K hK=>?_ | refine wQs fun K hK=>?_ | refine zW ?_ | refine zX ?_ | refine zY ?_ | refine zL ?_);simp [h0,h1,h12,h13,hlt])|(refine wIn ?_;refine And.intro (by kernel_rfl) ?_;try simp only [zZ])|(first | refine zQ ?_ | refine zS ?_)|((first | refine zI ?_ | refine zO ?_ | refine zP ?_);try simp)|((first | refine zR ?_ | refine wOn ?_ | refine wQn ?_);try simp only [zZ])
   apply hr
   simp [Tryd.f13]
   simpa using hi
 ·have hne : ¬ a = b := fun h => hl (by rw [h])
  have hl' : ¬ ((a.length : Int) = b.length):=by omega
  refine zF Tryd.tab Tryd.mixed Tryd.func13 rfl rfl Tryd.ntmps13 (by simp) (by simp) fun Q hr hn=>?_
  repeat' first|(refine hK _ ?_;clear hK)|(refine hK _ _ ?_;clear hK)|(clear hK;refine hK _ ?_;clear hK)|(clear hK;clear hK;refine hK _ ?_;clear hK)|(clear hK;clear hK;clear hK;refine hK _ ?_;clear hK)|(clear hK;clear hK;clear hK;clear hK;refine hK _ ?_;clear hK)|(refine zJ fun K hK=>?_)|((first | refine zH ?_ | refine zN rfl (by kernel_rfl) ?_ | refine zM ?_ | refine zK (by kernel_rfl) ?_);simp only [wX,wW,strip])|((first | refine wIs fun K hK=>?_ | refine wOs fun K hK=>?_ | refine wQs fun K hK=>?_ | refine zW ?_ | refine zX ?_ | refine zY ?_ | refine zL ?_);simp [hl,hl'])|(refine wIn ?_;refine And.intro (by kernel_rfl) ?_;try simp only [zZ])|(first | refine zQ ?_ | refine zS ?_)|((first | refine zI ?_ | refine zO ?_ | refine zP ?_);try simp)|((first | refine zR ?_ | refine wOn ?_ | refine wQn ?_);try simp only [zZ])
  all_goals apply hr
  all_goals simp [Tryd.f13,hne]
end Go.Proofs.YtjekjpgccnhobaaDoor
namespace Go.Proofs.YtjekjpgccnhobaaDoor
set_option linter.unusedSimpArgs false
set_option linter.unusedVariables false
set_option maxRecDepth 8000
open Go Go.Av
attribute [local irreducible] Go.Av.xH Go.Av.zU Go.Av.wY Go.Av.zT Go.Av.wZ Go.Av.zV Go.Av.Con
def fm (id : Int) : List Mb -> Mb × Bool
 | []=>(⟨0,0,0,0⟩,false)
 | m :: l=>if m.i = id then (m,true) else fm id l
theorem find_con (c : Cf) (id : Int) (hl : c.ms.length <= 1000000) : zE Tryd.prog 9 [.p (.agg c.cells), .p (I id)] (.tup [.p (.agg (fm id c.ms).1.cells), .p (B (fm id c.ms).2)]) := by
 obtain ⟨ep,n,kind,l⟩:=c
 simp only [Cf.cells] at hl ⊢
 refine zF Tryd.tab Tryd.mixed Tryd.func9 rfl rfl Tryd.ntmps9 (by simp) (by simp) fun Q hr hn=>?_
 repeat' first|(refine hK _ ?_;clear hK)|(refine hK _ _ ?_;clear hK)|(clear hK;refine hK _ ?_;clear hK)|(clear hK;clear hK;refine hK _ ?_;clear hK)|(clear hK;clear hK;clear hK;refine hK _ ?_;clear hK)|(clear hK;clear hK;clear hK;clear hK;refine hK _ ?_;clear hK)|(refine zJ fun K hK=>?_)|((first | refine zH ?_ | refine zN rfl (by kernel_rfl) ?_ | refine zM ?_ | refine zK (by kernel_rfl) ?_);simp only [wX,wW,strip])|((first | refine wIs fun K hK=>?_ | refine wOs fun K hK=>?_ | refine wQs fun K hK=>?_ | refine zW ?_ | refine zX ?_ | refine zY ?_ | refine zL ?_);simp)|(refine wIn ?_;refine And.intro (by kernel_rfl) ?_;try simp only [zZ])|(first | refine zQ ?_ | refine zS ?_)|((first | refine zI ?_ | refine zO ?_ | refine zP ?_);try simp)|((first | refine zR ?_ | refine wOn ?_ | refine wQn ?_);try simp only [zZ])
 refine yB (fun N st=>∃ (k : Nat),k + N = l.length /\ st.s 1 = .p (I id) /\ st.s 4 = .ptr 4 0 /\ st.b 4 = some (.box 30 [.p (I 0),.p (I 0),.p (I 0),.p (I 0)]) /\ st.s 9 = .p (.sl 4 (mbs l)) /\ st.s 10 = .p (I l.length) /\ st.s 11 = .p (I k) /\ fm id (l.drop k) = fm id l) l.length ⟨0,by simp⟩ fun K N st hL ⟨k,hk,h1,h4,b4,h9,h10,h11,hi⟩=>?_
 by_cases hlt : k < l.length
 ·have hw := wrapS k _ hlt (by omega)
  rw [List.drop_eq_getElem_cons hlt,fm] at hi
  by_cases o : l[k].i = id
  ·rw [if_pos o] at hi
   repeat' first|(refine hK _ ?_;clear hK)|(refine hK _ _ ?_;clear hK)|(clear hK;refine hK _ ?_;clear hK)|(clear hK;clear hK;refine hK _ ?_;clear hK)|(clear hK;clear hK;clear hK;refine hK _ ?_;clear hK)|(clear hK;clear hK;clear hK;clear hK;refine hK _ ?_;clear hK)|(refine zJ fun K hK=>?_)|((first | refine zH ?_ | refine zN rfl (by kernel_rfl) ?_ | refine zM ?_ | refine zK (by kernel_rfl) ?_);simp only [wX,wW,strip])|((first | refine wIs fun K hK=>?_ | refine wOs fun K hK=>?_ | refine wQs fun K hK=>?_ | refine zW ?_ | refine zX ?_ | refine zY ?_ | refine zL ?_);simp [h1,h4,b4,h9,h10,h11,hlt,hw,o])|(refine wIn ?_;refine And.intro (by kernel_rfl) ?_;try simp only [zZ])|(first | refine zQ ?_ | refine zS ?_)|((first | refine zI ?_ | refine zO ?_ | refine zP ?_);try simp)|((first | refine zR ?_ | refine wOn ?_ | refine wQn ?_);try simp only [zZ])
   all_goals apply hr
   all_goals rw [<- hi]
   all_goals simp [Tryd.f9,Mb.cells,o,h4,b4]
  ·rw [if_neg o] at hi
   repeat' first|(refine hK _ ?_;clear hK)|(refine hK _ _ ?_;clear hK)|(clear hK;refine hK _ ?_;clear hK)|(clear hK;clear hK;refine hK _ ?_;clear hK)|(clear hK;clear hK;clear hK;refine hK _ ?_;clear hK)|(clear hK;clear hK;clear hK;clear hK;refine hK _ ?_;clear hK)|(refine zJ fun K hK=>?_)|((first | refine zH ?_ | refine zN rfl (by kernel_rfl) ?_ | refine zM ?_ | refine zK (by kernel_rfl) ?_);simp only [wX,wW,strip])|((first | refine wIs fun K hK=>?_ | refine wOs fun K hK=>?_ | refine wQs fun K hK=>?_ | refine zW ?_ | refine zX ?_ | refine zY ?_ | refine zL ?_);simp [h1,h4,b4,h9,h10,h11,hlt,hw,o])|(refine wIn ?_;refine And.intro (by kernel_rfl) ?_;try simp only [zZ])|(first | refine zQ ?_ | refine zS ?_)|((first | refine zI ?_ | refine zO ?_ | refine zP ?_);try simp)|((first | refine zR ?_ | refine wOn ?_ | refine wQn ?_);try simp only [zZ])
   refine hL _ (N - 1) (by omega) ⟨k + 1,by omega,?_⟩
   simp [h1,h4,b4,h9,h10,hw,hi]
 ·rw [List.drop_of_length_le (by omega), fm] at hi
  repeat' first|(refine hK _ ?_;clear hK)|(refine hK _ _ ?_;clear hK)|(clear hK;refine hK _ ?_;clear hK)|(clear hK;clear hK;refine hK _ ?_;clear hK)|(clear hK;clear hK;clear hK;refine hK _ ?_;clear hK)|(clear hK;clear hK;clear hK;clear hK;refine hK _ ?_;clear hK)|(refine zJ fun K hK=>?_)|((first | refine zH ?_ | refine zN rfl (by kernel_rfl) ?_ | refine zM ?_ | refine zK (by kernel_rfl) ?_);simp only [wX,wW,strip])|((first | refine wIs fun K hK=>?_ | refine wOs fun K hK=>?_ | refine wQs fun K hK=>?_ | refine zW ?_ | refine zX ?_ | refine zY ?_ | refine zL ?_);simp [h1,h4,b4,h9,h10,h11,hlt])|(refine wIn ?_;refine And.intro (by kernel_rfl) ?_;try simp only [zZ])|(first | refine zQ ?_ | refine zS ?_)|((first | refine zI ?_ | refine zO ?_ | refine zP ?_);try simp)|((first | refine zR ?_ | refine wOn ?_ | refine wQn ?_);try simp only [zZ])
  apply hr
  rw [<- hi]
  simp [Tryd.f9,Mb.cells,h4,b4]
theorem watchers_con (c : Cf) (hl : c.ms.length <= 1000000) : zE Tryd.prog 16 [.p (.agg c.cells)] (.p (.sl 1 (ints (ids c.ms 2)))) := by
 have c1:=ids_con c 2 hl
 obtain ⟨ep,n,kind,l⟩:=c
 simp only [Cf.cells] at *
 refine zF Tryd.tab Tryd.mixed Tryd.func16 rfl rfl Tryd.ntmps16 (by simp) (by simp) fun Q hr hn=>?_
 repeat' first|(refine hK _ ?_;clear hK)|(refine hK _ _ ?_;clear hK)|(clear hK;refine hK _ ?_;clear hK)|(clear hK;clear hK;refine hK _ ?_;clear hK)|(clear hK;clear hK;clear hK;refine hK _ ?_;clear hK)|(clear hK;clear hK;clear hK;clear hK;refine hK _ ?_;clear hK)|(refine zJ fun K hK=>?_)|((first | refine zH ?_ | refine zN rfl (by kernel_rfl) ?_ | refine zM ?_ | refine zK (by kernel_rfl) ?_);simp only [wX,wW,strip])|((first | refine wIs fun K hK=>?_ | refine wOs fun K hK=>?_ | refine wQs fun K hK=>?_ | refine zW ?_ | refine zX ?_ | refine zY ?_ | refine zL ?_);simp)|(refine wIn ?_;refine And.intro (by kernel_rfl) ?_;try simp only [zZ])|(first | refine zQ ?_ | refine zS ?_)|((first | refine zI ?_ | refine zO ?_ | refine zP ?_);try simp)|((first | refine zR ?_ | refine wOn ?_ | refine wQn ?_);try simp only [zZ])|(refine zU.pure (c1) rfl ?_)|(refine zU.lent (c1) rfl ?_)|(refine zT.pure (c1) rfl ?_)|(refine zT.lent (c1) rfl ?_)|(refine zU.own (c1) ?_)|(refine zV.pure (c1) rfl ?_)|(refine zV.lent (c1) rfl ?_)|(refine zV.own (c1) ?_)
 all_goals apply hr
 all_goals simp [Tryd.f16]
def L04 : List UInt8 := [51, 46, 55, 32, 49, 32, 48, 112, 49, 103, 48, 32, 50, 111, 49, 103, 48]
def C04 : Cf := ⟨3, 7, 1, [⟨0, 1, 1, 0⟩, ⟨2, 2, 1, 0⟩]⟩
theorem prs04 : prsC L04 = C04 /\ prsE L04 = 0 := ⟨by kernel_rfl, by kernel_rfl⟩
theorem txt04 : txtC C04 = L04 := by decide +kernel
theorem ids04 : ids C04.ms 1 = [0] := by decide +kernel
set_option maxHeartbeats 4000000 in
theorem awake04 : zE Tryd.prog 8 [] (.p (B true)) := by
 have c1:=parseC_con L04 (by decide)
 rw [prs04.1,prs04.2] at c1
 have c2:=textC_con C04 (by decide)
 rw [txt04] at c2
 have c3:=voters_con C04 (by decide)
 rw [ids04] at c3
 have c4:=ints01_con [0] [0]
 rw [decide_eq_true rfl] at c4
 simp only [L04,C04,Cf.cells,mbs,Mb.cells,ints,wX,wW] at c1 c2 c3 c4
 refine zF Tryd.tab Tryd.mixed Tryd.func8 rfl rfl Tryd.ntmps8 (by simp) (by simp) fun Q hr hn=>?_
 repeat' first|(refine hK _ ?_;clear hK)|(refine hK _ _ ?_;clear hK)|(clear hK;refine hK _ ?_;clear hK)|(clear hK;clear hK;refine hK _ ?_;clear hK)|(clear hK;clear hK;clear hK;refine hK _ ?_;clear hK)|(clear hK;clear hK;clear hK;clear hK;refine hK _ ?_;clear hK)|(refine zJ fun K hK=>?_)|((first | refine zH ?_ | refine zN rfl (by kernel_rfl) ?_ | refine zM ?_ | refine zK (by kernel_rfl) ?_);simp only [wX,wW,strip])|((first | refine wIs fun K hK=>?_ | refine wOs fun K hK=>?_ | refine wQs fun K hK=>?_ | refine zW ?_ | refine zX ?_ | refine zY ?_ | refine zL ?_);simp)|(refine wIn ?_;refine And.intro (by kernel_rfl) ?_;try simp only [zZ])|(first | refine zQ ?_ | refine zS ?_)|((first | refine zI ?_ | refine zO ?_ | refine zP ?_);try simp)|((first | refine zR ?_ | refine wOn ?_ | refine wQn ?_);try simp only [zZ])|(refine zU.pure (c1) rfl ?_)|(refine zU.lent (c1) rfl ?_)|(refine zT.pure (c1) rfl ?_)|(refine zT.lent (c1) rfl ?_)|(refine zU.own (c1) ?_)|(refine zV.pure (c1) rfl ?_)|(refine zV.lent (c1) rfl ?_)|(refine zV.own (c1) ?_)|(refine zU.pure (c2) rfl ?_)|(refine zU.lent (c2) rfl ?_)|(refine zT.pure (c2) rfl ?_)|(refine zT.lent (c2) rfl ?_)|(refine zU.own (c2) ?_)|(refine zV.pure (c2) rfl ?_)|(refine zV.lent (c2) rfl ?_)|(refine zV.own (c2) ?_)|(refine zU.pure (c3) rfl ?_)|(refine zU.lent (c3) rfl ?_)|(refine zT.pure (c3) rfl ?_)|(refine zT.lent (c3) rfl ?_)|(refine zU.own (c3) ?_)|(refine zV.pure (c3) rfl ?_)|(refine zV.lent (c3) rfl ?_)|(refine zV.own (c3) ?_)|(refine zU.pure (c4) rfl ?_)|(refine zU.lent (c4) rfl ?_)|(refine zT.pure (c4) rfl ?_)|(refine zT.lent (c4) rfl ?_)|(refine zU.own (c4) ?_)|(refine zV.pure (c4) rfl ?_)|(refine zV.lent (c4) rfl ?_)|(refine zV.own (c4) ?_)
 all_goals apply hr
 all_goals simp [Tryd.f8]
theorem far04_con (c : Cf) (hl : c.ms.length <= 9223372036854775807) : zE Tryd.prog 7 [.p (.agg c.cells)] (.p (B (decide (300 < c.ms.length)))) := by
 obtain ⟨ep,n,kind,l⟩:=c
 simp only [Cf.cells] at *
 by_cases h : 300 < l.length
 ·have h' : (300 : Int) < l.length := by omega
  rw [decide_eq_true h]
  refine zF Tryd.tab Tryd.mixed Tryd.func7 rfl rfl Tryd.ntmps7 (by simp) (by simp) fun Q hr hn=>?_
  repeat' first|(refine hK _ ?_;clear hK)|(refine hK _ _ ?_;clear hK)|(clear hK;refine hK _ ?_;clear hK)|(clear hK;clear hK;refine hK _ ?_;clear hK)|(clear hK;clear hK;clear hK;refine hK _ ?_;clear hK)|(clear hK;clear hK;clear hK;clear hK;refine hK _ ?_;clear hK)|(refine zJ fun K hK=>?_)|((first | refine zH ?_ | refine zN rfl (by kernel_rfl) ?_ | refine zM ?_ | refine zK (by kernel_rfl) ?_);simp only [wX,wW,strip])|((first | refine wIs fun K hK=>?_ | refine wOs fun K hK=>?_ | refine wQs fun K hK=>?_ | refine zW ?_ | refine zX ?_ | refine zY ?_ | refine zL ?_);simp [h,h'])|(refine wIn ?_;refine And.intro (by kernel_rfl) ?_;try simp only [zZ])|(first | refine zQ ?_ | refine zS ?_)|((first | refine zI ?_ | refine zO ?_ | refine zP ?_);try simp)|((first | refine zR ?_ | refine wOn ?_ | refine wQn ?_);try simp only [zZ])
  all_goals apply hr
  all_goals simp [Tryd.f7,h]
 ·have h' : ¬ (300 : Int) < l.length := by omega
  rw [decide_eq_false h]
  refine zF Tryd.tab Tryd.mixed Tryd.func7 rfl rfl Tryd.ntmps7 (by simp) (by simp) fun Q hr hn=>?_
  repeat' first|(refine hK _ ?_;clear hK)|(refine hK _ _ ?_;clear hK)|(clear hK;refine hK _ ?_;clear hK)|(clear hK;clear hK;refine hK _ ?_;clear hK)|(clear hK;clear hK;clear hK;refine hK _ ?_;clear hK)|(clear hK;clear hK;clear hK;clear hK;refine hK _ ?_;clear hK)|(refine zJ fun K hK=>?_)|((first | refine zH ?_ | refine zN rfl (by kernel_rfl) ?_ | refine zM ?_ | refine zK (by kernel_rfl) ?_);simp only [wX,wW,strip])|((first | refine wIs fun K hK=>?_ | refine wOs fun K hK=>?_ | refine wQs fun K hK=>?_ | refine zW ?_ | refine zX ?_ | refine zY ?_ | refine zL ?_);simp [h,h'])|(refine wIn ?_;refine And.intro (by kernel_rfl) ?_;try simp only [zZ])|(first | refine zQ ?_ | refine zS ?_)|((first | refine zI ?_ | refine zO ?_ | refine zP ?_);try simp)|((first | refine zR ?_ | refine wOn ?_ | refine wQn ?_);try simp only [zZ])
  all_goals apply hr
  all_goals simp [Tryd.f7,h]
end Go.Proofs.YtjekjpgccnhobaaDoor
namespace Go.Proofs.YtjekjpgccnhobaaDoor
set_option linter.unusedSimpArgs false
set_option linter.unusedVariables false
open Go Go.Av
attribute [local irreducible] Go.Av.xH Go.Av.zU Go.Av.wY Go.Av.zT Go.Av.wZ Go.Av.zV Go.Av.Con
theorem Mb.ext4 {x y : Mb} : x = y ↔ x.i = y.i /\ x.r = y.r /\ x.w = y.w /\ x.g = y.g := by cases x; cases y; simp
theorem Cf.ext4 {x y : Cf} : x = y ↔ x.ep = y.ep /\ x.n = y.n /\ x.kind = y.kind /\ x.ms = y.ms := by cases x; cases y; simp
instance : DecidableEq Cf := fun x y => decidable_of_iff _ Cf.ext4.symm
theorem cfSame04_con (a b : Cf) : zE Tryd.prog 20 [.p (.agg a.cells), .p (.agg b.cells)] (.p (B (decide (a = b)))) := by
 unfold Cf.cells
 refine zE.lenA ⟨Tryd.f20,Tryd.func20,rfl,rfl⟩ 0 3 4 (mbs a.ms) _ rfl rfl fun hlen=>?_
 simp only [mbs_len] at hlen
 by_cases o1 : a.ep = b.ep
 rotate_left
 ·rw [decide_eq_false fun h => o1 (by rw [h])]
  refine zF Tryd.tab Tryd.mixed Tryd.func20 rfl rfl Tryd.ntmps20 (by simp) (by simp) fun Q hr hn=>?_
  repeat' first|(refine hK _ ?_;clear hK)|(refine hK _ _ ?_;clear hK)|(clear hK;refine hK _ ?_;clear hK)|(clear hK;clear hK;refine hK _ ?_;clear hK)|(clear hK;clear hK;clear hK;refine hK _ ?_;clear hK)|(clear hK;clear hK;clear hK;clear hK;refine hK _ ?_;clear hK)|(refine zJ fun K hK=>?_)|((first | refine zH ?_ | refine zN rfl (by kernel_rfl) ?_ | refine zM ?_ | refine zK (by kernel_rfl) ?_);simp only [wX,wW,strip])|((first | refine wIs fun K hK=>?_ | refine wOs fun K hK=>?_ | refine wQs fun K hK=>?_ | refine zW ?_ | refine zX ?_ | refine zY ?_ | refine zL ?_);simp [o1])|(refine wIn ?_;refine And.intro (by kernel_rfl) ?_;try simp only [zZ])|(first | refine zQ ?_ | refine zS ?_)|((first | refine zI ?_ | refine zO ?_ | refine zP ?_);try simp)|((first | refine zR ?_ | refine wOn ?_ | refine wQn ?_);try simp only [zZ])
  all_goals apply hr
  all_goals simp [Tryd.f20]
 by_cases o2 : a.n = b.n
 rotate_left
 ·rw [decide_eq_false fun h => o2 (by rw [h])]
  refine zF Tryd.tab Tryd.mixed Tryd.func20 rfl rfl Tryd.ntmps20 (by simp) (by simp) fun Q hr hn=>?_
  repeat' first|(refine hK _ ?_;clear hK)|(refine hK _ _ ?_;clear hK)|(clear hK;refine hK _ ?_;clear hK)|(clear hK;clear hK;refine hK _ ?_;clear hK)|(clear hK;clear hK;clear hK;refine hK _ ?_;clear hK)|(clear hK;clear hK;clear hK;clear hK;refine hK _ ?_;clear hK)|(refine zJ fun K hK=>?_)|((first | refine zH ?_ | refine zN rfl (by kernel_rfl) ?_ | refine zM ?_ | refine zK (by kernel_rfl) ?_);simp only [wX,wW,strip])|((first | refine wIs fun K hK=>?_ | refine wOs fun K hK=>?_ | refine wQs fun K hK=>?_ | refine zW ?_ | refine zX ?_ | refine zY ?_ | refine zL ?_);simp [o1,o2])|(refine wIn ?_;refine And.intro (by kernel_rfl) ?_;try simp only [zZ])|(first | refine zQ ?_ | refine zS ?_)|((first | refine zI ?_ | refine zO ?_ | refine zP ?_);try simp)|((first | refine zR ?_ | refine wOn ?_ | refine wQn ?_);try simp only [zZ])
  all_goals apply hr
  all_goals simp [Tryd.f20]
 by_cases o3 : a.kind = b.kind
 rotate_left
 ·rw [decide_eq_false fun h => o3 (by rw [h])]
  refine zF Tryd.tab Tryd.mixed Tryd.func20 rfl rfl Tryd.ntmps20 (by simp) (by simp) fun Q hr hn=>?_
  repeat' first|(refine hK _ ?_;clear hK)|(refine hK _ _ ?_;clear hK)|(clear hK;refine hK _ ?_;clear hK)|(clear hK;clear hK;refine hK _ ?_;clear hK)|(clear hK;clear hK;clear hK;refine hK _ ?_;clear hK)|(clear hK;clear hK;clear hK;clear hK;refine hK _ ?_;clear hK)|(refine zJ fun K hK=>?_)|((first | refine zH ?_ | refine zN rfl (by kernel_rfl) ?_ | refine zM ?_ | refine zK (by kernel_rfl) ?_);simp only [wX,wW,strip])|((first | refine wIs fun K hK=>?_ | refine wOs fun K hK=>?_ | refine wQs fun K hK=>?_ | refine zW ?_ | refine zX ?_ | refine zY ?_ | refine zL ?_);simp [o1,o2,o3])|(refine wIn ?_;refine And.intro (by kernel_rfl) ?_;try simp only [zZ])|(first | refine zQ ?_ | refine zS ?_)|((first | refine zI ?_ | refine zO ?_ | refine zP ?_);try simp)|((first | refine zR ?_ | refine wOn ?_ | refine wQn ?_);try simp only [zZ])
  all_goals apply hr
  all_goals simp [Tryd.f20]
 by_cases o4 : a.ms.length = b.ms.length
 rotate_left
 ·rw [decide_eq_false fun h => o4 (by rw [h])]
  have o4' : ¬ (a.ms.length : Int) = b.ms.length:=by omega
  refine zF Tryd.tab Tryd.mixed Tryd.func20 rfl rfl Tryd.ntmps20 (by simp) (by simp) fun Q hr hn=>?_
  repeat' first|(refine hK _ ?_;clear hK)|(refine hK _ _ ?_;clear hK)|(clear hK;refine hK _ ?_;clear hK)|(clear hK;clear hK;refine hK _ ?_;clear hK)|(clear hK;clear hK;clear hK;refine hK _ ?_;clear hK)|(clear hK;clear hK;clear hK;clear hK;refine hK _ ?_;clear hK)|(refine zJ fun K hK=>?_)|((first | refine zH ?_ | refine zN rfl (by kernel_rfl) ?_ | refine zM ?_ | refine zK (by kernel_rfl) ?_);simp only [wX,wW,strip])|((first | refine wIs fun K hK=>?_ | refine wOs fun K hK=>?_ | refine wQs fun K hK=>?_ | refine zW ?_ | refine zX ?_ | refine zY ?_ | refine zL ?_);simp [o1,o2,o3,o4,o4'])|(refine wIn ?_;refine And.intro (by kernel_rfl) ?_;try simp only [zZ])|(first | refine zQ ?_ | refine zS ?_)|((first | refine zI ?_ | refine zO ?_ | refine zP ?_);try simp)|((first | refine zR ?_ | refine wOn ?_ | refine wQn ?_);try simp only [zZ])
  all_goals apply hr
  all_goals simp [Tryd.f20]
 have hd : (a = b) ↔ a.ms = b.ms:=by rw [Cf.ext4];simp [o1,o2,o3]
 refine zF Tryd.tab Tryd.mixed Tryd.func20 rfl rfl Tryd.ntmps20 (by simp) (by simp) fun Q hr hn=>?_
 repeat' first|(refine hK _ ?_;clear hK)|(refine hK _ _ ?_;clear hK)|(clear hK;refine hK _ ?_;clear hK)|(clear hK;clear hK;refine hK _ ?_;clear hK)|(clear hK;clear hK;clear hK;refine hK _ ?_;clear hK)|(clear hK;clear hK;clear hK;clear hK;refine hK _ ?_;clear hK)|(refine zJ fun K hK=>?_)|((first | refine zH ?_ | refine zN rfl (by kernel_rfl) ?_ | refine zM ?_ | refine zK (by kernel_rfl) ?_);simp only [wX,wW,strip])|((first | refine wIs fun K hK=>?_ | refine wOs fun K hK=>?_ | refine wQs fun K hK=>?_ | refine zW ?_ | refine zX ?_ | refine zY ?_ | refine zL ?_);simp [o1,o2,o3,o4])|(refine wIn ?_;refine And.intro (by kernel_rfl) ?_;try simp only [zZ])|(first | refine zQ ?_ | refine zS ?_)|((first | refine zI ?_ | refine zO ?_ | refine zP ?_);try simp)|((first | refine zR ?_ | refine wOn ?_ | refine wQn ?_);try simp only [zZ])
 refine yB (fun N st=>∃ k,k + N = a.ms.length /\ st.s 2 = .ptr 2 0 /\ st.s 3 = .ptr 3 0 /\ st.s 29 = .p (I a.ms.length) /\ st.s 30 = .p (I k) /\ st.b 2 = some (.box 26 [.p (I a.ep),.p (I a.n),.p (I a.kind),.p (.sl 4 (mbs a.ms))]) /\ st.b 3 = some (.box 26 [.p (I b.ep),.p (I b.n),.p (I b.kind),.p (.sl 4 (mbs b.ms))]) /\ (a.ms = b.ms ↔ a.ms.drop k = b.ms.drop k)) a.ms.length ⟨0,by simp [o1,o2,o3,o4]⟩ fun K N st hL ⟨k,hk,g2,g3,g29,g30,b2,b3,hi⟩=>?_
 by_cases hlt : k < a.ms.length
 ·have hlt' : k < b.ms.length := by omega
  have hw:=wrapS k _ hlt hlen
  have h1:=mbs_get hlt
  have h2:=mbs_get hlt'
  rw [List.drop_eq_getElem_cons hlt,List.drop_eq_getElem_cons hlt',List.cons.injEq,Mb.ext4] at hi
  by_cases o : a.ms[k].i = b.ms[k].i /\ a.ms[k].r = b.ms[k].r /\ a.ms[k].w = b.ms[k].w /\ a.ms[k].g = b.ms[k].g
  ·rw [and_iff_right o] at hi
   obtain ⟨q1,q2,q3,q4⟩:=o
   repeat' first|(refine hK _ ?_;clear hK)|(refine hK _ _ ?_;clear hK)|(clear hK;refine hK _ ?_;clear hK)|(clear hK;clear hK;refine hK _ ?_;clear hK)|(clear hK;clear hK;clear hK;refine hK _ ?_;clear hK)|(clear hK;clear hK;clear hK;clear hK;refine hK _ ?_;clear hK)|(refine zJ fun K hK=>?_)|((first | refine zH ?_ | refine zN rfl (by kernel_rfl) ?_ | refine zM ?_ | refine zK (by kernel_rfl) ?_);simp only [wX,wW,strip])|((first | refine wIs fun K hK=>?_ | refine wOs fun K hK=>?_ | refine wQs fun K hK=>?_ | refine zW ?_ | refine zX ?_ | refine zY ?_ | refine zL ?_);simp [g2,g3,g29,g30,b2,b3,hlt,hlt',hw,h1,h2,q1,q2,q3,q4])|(refine wIn ?_;refine And.intro (by kernel_rfl) ?_;try simp only [zZ])|(first | refine zQ ?_ | refine zS ?_)|((first | refine zI ?_ | refine zO ?_ | refine zP ?_);try simp)|((first | refine zR ?_ | refine wOn ?_ | refine wQn ?_);try simp only [zZ])
   refine hL _ (N - 1) (by omega) ⟨k + 1,by omega,?_⟩
   simp [g2,g3,g29,g30,b2,b3,hw,o1,o2,o3,o4]
   exact hi
  ·rw [show decide (a = b) = false from decide_eq_false fun h => o (hi.1 (hd.1 h)).1] at hr
   repeat' first|(refine hK _ ?_;clear hK)|(refine hK _ _ ?_;clear hK)|(clear hK;refine hK _ ?_;clear hK)|(clear hK;clear hK;refine hK _ ?_;clear hK)|(clear hK;clear hK;clear hK;refine hK _ ?_;clear hK)|(clear hK;clear hK;clear hK;clear hK;refine hK _ ?_;clear hK)|(refine zJ fun K hK=>?_)|((first | refine zH ?_ | refine zN rfl (by kernel_rfl) ?_ | refine zM ?_ | refine zK (by kernel_rfl) ?_);simp only [wX,wW,strip])|((first | refine wIs fun K hK=>?_ | refine wOs fun K hK=>?_ | refine wQs fun K hK=>?_ | refine zW ?_ | refine zX ?_ | refine zY ?_ | refine zL ?_);simp [g2,g3,g29,g30,b2,b3,hlt,hlt',hw,h1,h2,o])|(refine wIn ?_;refine And.intro (by kernel_rfl) ?_;try simp only [zZ])|(first | refine zQ ?_ | refine zS ?_)|((first | refine zI ?_ | refine zO ?_ | refine zP ?_);try simp)|((first | refine zR ?_ | refine wOn ?_ | refine wQn ?_);try simp only [zZ])|(intro _)
   all_goals first | exact o | skip
   all_goals apply hr
   all_goals simp [Tryd.f20]
 ·rw [List.drop_of_length_le (by omega), List.drop_of_length_le (by omega)] at hi
  rw [show decide (a = b) = true from decide_eq_true (hd.2 (hi.2 rfl))] at hr
  repeat' first|(refine hK _ ?_;clear hK)|(refine hK _ _ ?_;clear hK)|(clear hK;refine hK _ ?_;clear hK)|(clear hK;clear hK;refine hK _ ?_;clear hK)|(clear hK;clear hK;clear hK;refine hK _ ?_;clear hK)|(clear hK;clear hK;clear hK;clear hK;refine hK _ ?_;clear hK)|(refine zJ fun K hK=>?_)|((first | refine zH ?_ | refine zN rfl (by kernel_rfl) ?_ | refine zM ?_ | refine zK (by kernel_rfl) ?_);simp only [wX,wW,strip])|((first | refine wIs fun K hK=>?_ | refine wOs fun K hK=>?_ | refine wQs fun K hK=>?_ | refine zW ?_ | refine zX ?_ | refine zY ?_ | refine zL ?_);simp [g2,g3,g29,g30,b2,b3,hlt])|(refine wIn ?_;refine And.intro (by kernel_rfl) ?_;try simp only [zZ])|(first | refine zQ ?_ | refine zS ?_)|((first | refine zI ?_ | refine zO ?_ | refine zP ?_);try simp)|((first | refine zR ?_ | refine wOn ?_ | refine wQn ?_);try simp only [zZ])
  all_goals apply hr
  all_goals simp [Tryd.f20]
theorem clone30 (l : List (List PV)) (hl : l.length <= 1000000) : RCon 30 [.p (.sl 4 l)] 30 4 l := by
 refine wBodyR Tryd.tab Tryd.mixed Tryd.func30 rfl rfl Tryd.ntmps30 rfl (by simp) (by simp) fun Q hr hn=>?_
 repeat' first|(refine wRetG [.row 2 30 4] ?_)|(refine And.intro (by omega) (Or.inl ?_))|(refine And.intro ?_ (fun hnil=>?_))|(refine hK _ ?_;clear hK)|(refine hK _ _ ?_;clear hK)|(clear hK;refine hK _ ?_;clear hK)|(clear hK;clear hK;refine hK _ ?_;clear hK)|(clear hK;clear hK;clear hK;refine hK _ ?_;clear hK)|(clear hK;clear hK;clear hK;clear hK;refine hK _ ?_;clear hK)|(refine zJ fun K hK=>?_)|((first | refine zH ?_ | refine zN rfl (by kernel_rfl) ?_ | refine zM ?_ | refine zK (by kernel_rfl) ?_);simp only [wX,wW,strip])|((first | refine wIs fun K hK=>?_ | refine wOs fun K hK=>?_ | refine wQs fun K hK=>?_ | refine zW ?_ | refine zX ?_ | refine zY ?_ | refine zL ?_);simp)|(refine wIn ?_;refine And.intro (by kernel_rfl) ?_;try simp only [zZ])|(first | refine zQ ?_ | refine zS ?_)|((first | refine zI ?_ | refine zO ?_ | refine zP ?_);try simp)|((first | refine zR ?_ | refine wOn ?_ | refine wQn ?_);try simp only [zZ])
 ·refine hr _ 7 (by simp) (by simp) (by omega)
 ·subst hnil
  simp only [thenA_r]
  refine hr _ 2 (by simp) (by simp) (by omega)
def cloneT : Nat -> Option (Nat × Nat)
 | 30=>some (30,4)
 | _=>none
theorem clone_ok {g e c : Nat} (h : cloneT g = some (e, c)) (l : List (List PV)) (hl : l.length <= 1000000) : RCon g [.p (.sl c l)] e c l := by
 unfold cloneT at h
 split at h
 ·simp only [wV,Prod.mk.injEq] at h;obtain ⟨rfl,rfl⟩:=h;exact clone30 l hl
 ·simp at h
def base : CallF' := fun g args β => match args, β with
 | [.p (.sl c' l)], [] => match cloneT g with
  | some (e,c)=>if c' = c /\ l.length <= 1000000 then some (.ret (.row 2048) [.row e c l] []) else none
  | none=>none
 | _,_=>none
end Go.Proofs.YtjekjpgccnhobaaDoor
