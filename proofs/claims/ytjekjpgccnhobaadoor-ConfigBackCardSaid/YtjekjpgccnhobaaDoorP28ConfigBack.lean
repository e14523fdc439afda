/- Texts that the proof needs: CF3 CF4 ZN CB1 CB2 I01 CF5 XGQ. -/
import Derived.Test.YtjekjpgccnhobaaDoorP26ConfigBack
import Derived.Test.YtjekjpgccnhobaaDoorP27ConfigBack
import Derived.Test.YtjekjpgccnhobaaDoorP25ConfigBack
import Derived.Test.YtjekjpgccnhobaaDoorP24ConfigBack
import Derived.Test.YtjekjpgccnhobaaDoorP17ConfigBack
import Derived.Test.YtjekjpgccnhobaaDoorP23ConfigBack
/- Configs read from texts: the words, the whole. -/
namespace Go.Proofs.YtjekjpgccnhobaaDoor
set_option linter.unusedSimpArgs false
set_option linter.unusedVariables false
set_option maxRecDepth 8000
open Go Go.Av
attribute [local irreducible] Go.Av.CallK Go.Av.zZ Go.Av.CallQ Go.Av.zW Go.Av.CallR Go.Av.zY Go.Av.Con
def cf0 : Cf := ⟨0, 0, 0, []⟩
theorem zD.wkT2 [Glob] {P : Program} {g : FuncId} {args : List V} {p p' q : PV} (h : zD P g args (.tup [.p p, .p q])) (hw : Wk (.p p) (.p p')) : zD P g args (.tup [.p p', .p q]) := by
  unfold zD Con at h ⊢
  intro F w m xs hp hl ha
  refine (h F w m xs hp hl ha).mono fun en w' ⟨hk,ho⟩=>?_
  obtain ⟨x,m',he,hp',how,hnm,ys,hx,hs,hy⟩:=ho
  refine ⟨hk,x,m',he,hp',how,hnm,ys,hx,hs,fun i v hi=>?_⟩
  match i with
  | 0 =>
    simp at hi;subst hi
    obtain ⟨y,h1,h2⟩:=hy 0 (.p p) rfl
    exact ⟨y,h1,RV0.wk hw h2⟩
  | 1=>exact hy 1 v hi
  | i + 2=>simp at hi
theorem wkCf : Wk (.p (.agg [I 0, I 0, I 0, .v (.slice none 0 0)])) (.p (.agg cf0.cells)) := .agg _ _ ⟨.same _, .same _, .same _, .nil 4, trivial⟩
def hdB (a b : List UInt8) : Bool := decide (b.length = 1) && decide ((prs a).2 = 0 ∧ 0 ≤ yG b ∧ yB b = [])
def shpB : List (List UInt8) → Bool
  | a :: b :: l=>hdB a b && l.all memB
  | _=>false
def shpC : List (List UInt8) → Cf
  | a :: b :: l=>if (hdB a b && l.all memB) = true then ⟨(prs a).1.e,(prs a).1.n,yG b,l.map xY⟩ else cf0
  | _=>cf0
set_option maxHeartbeats 8000000 in
theorem shaped_con (ws : List (List UInt8)) (hl : ws.length ≤ 1000000) (hw : ∀ w ∈ ws, w.length ≤ 1000000) : zD Tryd.prog 35 [.p (.sl 1 (sts ws))] (.tup [.p (.agg (shpC ws).cells), .p (B (shpB ws))]) := by
  match ws with
  | [] =>
    simp only [shpC,shpB,sts,xB]
    refine zD.wkT2 ?_ wkCf
    refine zK Tryd.tab Tryd.mixed Tryd.func35 rfl rfl Tryd.ntmps35 (by simp) (by simp) fun Q hr hn=>?_
    repeat' first|(refine hK _ ?_;clear hK)|(refine hK _ _ ?_;clear hK)|(clear hK;refine hK _ ?_;clear hK)|(clear hK;clear hK;refine hK _ ?_;clear hK)|(clear hK;clear hK;clear hK;refine hK _ ?_;clear hK)|(clear hK;clear hK;clear hK;clear hK;refine hK _ ?_;clear hK)|(refine zI fun K hK=>?_)|((first | refine zG ?_ | refine zN rfl (by kernel_rfl) ?_ | refine zM ?_ | refine zJ (by kernel_rfl) ?_);simp only [xC,xB,strip])|((first | refine wIs fun K hK=>?_ | refine wOs fun K hK=>?_ | refine wQs fun K hK=>?_ | refine zT ?_ | refine zU ?_ | refine zV ?_ | refine zL ?_);simp)|(refine wIn ?_;refine And.intro (by kernel_rfl) ?_;try simp only [zX])|(first | refine zQ ?_ | refine zS ?_)|((first | refine zH ?_ | refine zO ?_ | refine zP ?_);try simp)|((first | refine zR ?_ | refine wOn ?_ | refine wQn ?_);try simp only [zX])
    all_goals apply hr
    all_goals simp [Tryd.f35,cf0,Cf.cells,mbs]
  | [a] =>
    simp only [shpC,shpB,sts,xB,xC]
    refine zD.wkT2 ?_ wkCf
    refine zK Tryd.tab Tryd.mixed Tryd.func35 rfl rfl Tryd.ntmps35 (by simp) (by simp) fun Q hr hn=>?_
    repeat' first|(refine hK _ ?_;clear hK)|(refine hK _ _ ?_;clear hK)|(clear hK;refine hK _ ?_;clear hK)|(clear hK;clear hK;refine hK _ ?_;clear hK)|(clear hK;clear hK;clear hK;refine hK _ ?_;clear hK)|(clear hK;clear hK;clear hK;clear hK;refine hK _ ?_;clear hK)|(refine zI fun K hK=>?_)|((first | refine zG ?_ | refine zN rfl (by kernel_rfl) ?_ | refine zM ?_ | refine zJ (by kernel_rfl) ?_);simp only [xC,xB,strip])|((first | refine wIs fun K hK=>?_ | refine wOs fun K hK=>?_ | refine wQs fun K hK=>?_ | refine zT ?_ | refine zU ?_ | refine zV ?_ | refine zL ?_);simp)|(refine wIn ?_;refine And.intro (by kernel_rfl) ?_;try simp only [zX])|(first | refine zQ ?_ | refine zS ?_)|((first | refine zH ?_ | refine zO ?_ | refine zP ?_);try simp)|((first | refine zR ?_ | refine wOn ?_ | refine wQn ?_);try simp only [zX])
    all_goals apply hr
    all_goals simp [Tryd.f35,cf0,Cf.cells,mbs]
  | a :: b :: l =>
  have c1:=parse_con a (by have:=hw a (by simp);omega)
  have c2:=cnum_con b (by have:=hw b (by simp);omega)
  have hlw : ∀ w ∈ l,w.length ≤ 1000000:=fun w h=>hw w (by simp [h])
  have hll : l.length ≤ 1000000:=by simp at hl;omega
  simp only [shpC,shpB]
  have hW : (sts (a :: b :: l)).length = l.length + 2:=by simp
  have h0 : (sts (a :: b :: l))[0]? = some [SB a]:=rfl
  have h1 : (sts (a :: b :: l))[1]? = some [SB b]:=rfl
  have h2 : (sts (a :: b :: l)).drop 2 = sts l:=rfl
  have h0' : ∀ h,(sts (a :: b :: l))[0]'h = [SB a]:=fun _=>rfl
  have h1' : ∀ h,(sts (a :: b :: l))[1]'h = [SB b]:=fun _=>rfl
  generalize sts (a :: b :: l) = W at *
  have h2' : (W.take (l.length + 2)).drop 2 = sts l:=by rw [← hW,List.take_length,h2]
  have g2 : ¬ l.length + 2 < 2:=by omega
  have g2' : ¬ ((l.length : Int) + 2 < 2):=by omega
  unfold hdB
  by_cases q1 : b.length = 1
  case neg =>
    have q1' : ¬ (b.length : Int) = 1:=by omega
    rw [decide_eq_false q1,Bool.false_and,Bool.false_and,if_neg (by decide)]
    refine zD.wkT2 ?_ wkCf
    refine zK Tryd.tab Tryd.mixed Tryd.func35 rfl rfl Tryd.ntmps35 (by simp) (by simp) fun Q hr hn=>?_
    repeat' first|(refine hK _ ?_;clear hK)|(refine hK _ _ ?_;clear hK)|(clear hK;refine hK _ ?_;clear hK)|(clear hK;clear hK;refine hK _ ?_;clear hK)|(clear hK;clear hK;clear hK;refine hK _ ?_;clear hK)|(clear hK;clear hK;clear hK;clear hK;refine hK _ ?_;clear hK)|(refine zI fun K hK=>?_)|((first | refine zG ?_ | refine zN rfl (by kernel_rfl) ?_ | refine zM ?_ | refine zJ (by kernel_rfl) ?_);simp only [xC,xB,strip])|((first | refine wIs fun K hK=>?_ | refine wOs fun K hK=>?_ | refine wQs fun K hK=>?_ | refine zT ?_ | refine zU ?_ | refine zV ?_ | refine zL ?_);simp [hW,h0,h1,h0',h1',g2,g2',q1,q1'])|(refine wIn ?_;refine And.intro (by kernel_rfl) ?_;try simp only [zX])|(first | refine zQ ?_ | refine zS ?_)|((first | refine zH ?_ | refine zO ?_ | refine zP ?_);try simp)|((first | refine zR ?_ | refine wOn ?_ | refine wQn ?_);try simp only [zX])
    all_goals apply hr
    all_goals simp [Tryd.f35,cf0,Cf.cells,mbs]
  have q1' : ((b.length : Int) = 1) = True:=eq_true (by omega)
  rw [decide_eq_true q1,Bool.true_and]
  generalize hpa : prs a = pa at *
  obtain ⟨⟨ze,zn⟩,pe⟩:=pa
  dsimp only at *
  generalize yG b = kd at *
  generalize yB b = rb at *
  by_cases q2 : pe = 0 ∧ 0 ≤ kd ∧ rb = []
  case neg =>
    rw [decide_eq_false q2,Bool.false_and,if_neg (by decide)]
    by_cases q3 : pe = 0
    case neg =>
      have q3':=eq_false q3
      refine zD.wkT2 ?_ wkCf
      refine zK Tryd.tab Tryd.mixed Tryd.func35 rfl rfl Tryd.ntmps35 (by simp) (by simp) fun Q hr hn=>?_
      repeat' first|(refine hK _ ?_;clear hK)|(refine hK _ _ ?_;clear hK)|(clear hK;refine hK _ ?_;clear hK)|(clear hK;clear hK;refine hK _ ?_;clear hK)|(clear hK;clear hK;clear hK;refine hK _ ?_;clear hK)|(clear hK;clear hK;clear hK;clear hK;refine hK _ ?_;clear hK)|(refine zI fun K hK=>?_)|((first | refine zG ?_ | refine zN rfl (by kernel_rfl) ?_ | refine zM ?_ | refine zJ (by kernel_rfl) ?_);simp only [xC,xB,strip])|((first | refine wIs fun K hK=>?_ | refine wOs fun K hK=>?_ | refine wQs fun K hK=>?_ | refine zT ?_ | refine zU ?_ | refine zV ?_ | refine zL ?_);simp [hW,h0,h1,h0',h1',g2,g2',q1,q1',q3'])|(refine wIn ?_;refine And.intro (by kernel_rfl) ?_;try simp only [zX])|(first | refine zQ ?_ | refine zS ?_)|((first | refine zH ?_ | refine zO ?_ | refine zP ?_);try simp)|((first | refine zR ?_ | refine wOn ?_ | refine wQn ?_);try simp only [zX])|(refine zZ.pure (c1) rfl ?_)|(refine zZ.lent (c1) rfl ?_)|(refine zW.pure (c1) rfl ?_)|(refine zW.lent (c1) rfl ?_)|(refine zZ.own (c1) ?_)|(refine zY.pure (c1) rfl ?_)|(refine zY.lent (c1) rfl ?_)|(refine zY.own (c1) ?_)|(refine zZ.pure (c2) rfl ?_)|(refine zZ.lent (c2) rfl ?_)|(refine zW.pure (c2) rfl ?_)|(refine zW.lent (c2) rfl ?_)|(refine zZ.own (c2) ?_)|(refine zY.pure (c2) rfl ?_)|(refine zY.lent (c2) rfl ?_)|(refine zY.own (c2) ?_)
      all_goals apply hr
      all_goals simp [Tryd.f35,cf0,Cf.cells,mbs]
    subst q3
    by_cases q4 : kd < 0
    · refine zD.wkT2 ?_ wkCf
      refine zK Tryd.tab Tryd.mixed Tryd.func35 rfl rfl Tryd.ntmps35 (by simp) (by simp) fun Q hr hn=>?_
      repeat' first|(refine hK _ ?_;clear hK)|(refine hK _ _ ?_;clear hK)|(clear hK;refine hK _ ?_;clear hK)|(clear hK;clear hK;refine hK _ ?_;clear hK)|(clear hK;clear hK;clear hK;refine hK _ ?_;clear hK)|(clear hK;clear hK;clear hK;clear hK;refine hK _ ?_;clear hK)|(refine zI fun K hK=>?_)|((first | refine zG ?_ | refine zN rfl (by kernel_rfl) ?_ | refine zM ?_ | refine zJ (by kernel_rfl) ?_);simp only [xC,xB,strip])|((first | refine wIs fun K hK=>?_ | refine wOs fun K hK=>?_ | refine wQs fun K hK=>?_ | refine zT ?_ | refine zU ?_ | refine zV ?_ | refine zL ?_);simp [hW,h0,h1,h0',h1',g2,g2',q1,q1',q4])|(refine wIn ?_;refine And.intro (by kernel_rfl) ?_;try simp only [zX])|(first | refine zQ ?_ | refine zS ?_)|((first | refine zH ?_ | refine zO ?_ | refine zP ?_);try simp)|((first | refine zR ?_ | refine wOn ?_ | refine wQn ?_);try simp only [zX])|(refine zZ.pure (c1) rfl ?_)|(refine zZ.lent (c1) rfl ?_)|(refine zW.pure (c1) rfl ?_)|(refine zW.lent (c1) rfl ?_)|(refine zZ.own (c1) ?_)|(refine zY.pure (c1) rfl ?_)|(refine zY.lent (c1) rfl ?_)|(refine zY.own (c1) ?_)|(refine zZ.pure (c2) rfl ?_)|(refine zZ.lent (c2) rfl ?_)|(refine zW.pure (c2) rfl ?_)|(refine zW.lent (c2) rfl ?_)|(refine zZ.own (c2) ?_)|(refine zY.pure (c2) rfl ?_)|(refine zY.lent (c2) rfl ?_)|(refine zY.own (c2) ?_)
      all_goals apply hr
      all_goals simp [Tryd.f35,cf0,Cf.cells,mbs]
    have q5 : ¬ rb = []:=fun h=>q2 ⟨rfl,by omega,h⟩
    · refine zD.wkT2 ?_ wkCf
      refine zK Tryd.tab Tryd.mixed Tryd.func35 rfl rfl Tryd.ntmps35 (by simp) (by simp) fun Q hr hn=>?_
      repeat' first|(refine hK _ ?_;clear hK)|(refine hK _ _ ?_;clear hK)|(clear hK;refine hK _ ?_;clear hK)|(clear hK;clear hK;refine hK _ ?_;clear hK)|(clear hK;clear hK;clear hK;refine hK _ ?_;clear hK)|(clear hK;clear hK;clear hK;clear hK;refine hK _ ?_;clear hK)|(refine zI fun K hK=>?_)|((first | refine zG ?_ | refine zN rfl (by kernel_rfl) ?_ | refine zM ?_ | refine zJ (by kernel_rfl) ?_);simp only [xC,xB,strip])|((first | refine wIs fun K hK=>?_ | refine wOs fun K hK=>?_ | refine wQs fun K hK=>?_ | refine zT ?_ | refine zU ?_ | refine zV ?_ | refine zL ?_);simp [hW,h0,h1,h0',h1',g2,g2',q1,q1',q4,q5])|(refine wIn ?_;refine And.intro (by kernel_rfl) ?_;try simp only [zX])|(first | refine zQ ?_ | refine zS ?_)|((first | refine zH ?_ | refine zO ?_ | refine zP ?_);try simp)|((first | refine zR ?_ | refine wOn ?_ | refine wQn ?_);try simp only [zX])|(refine zZ.pure (c1) rfl ?_)|(refine zZ.lent (c1) rfl ?_)|(refine zW.pure (c1) rfl ?_)|(refine zW.lent (c1) rfl ?_)|(refine zZ.own (c1) ?_)|(refine zY.pure (c1) rfl ?_)|(refine zY.lent (c1) rfl ?_)|(refine zY.own (c1) ?_)|(refine zZ.pure (c2) rfl ?_)|(refine zZ.lent (c2) rfl ?_)|(refine zW.pure (c2) rfl ?_)|(refine zW.lent (c2) rfl ?_)|(refine zZ.own (c2) ?_)|(refine zY.pure (c2) rfl ?_)|(refine zY.lent (c2) rfl ?_)|(refine zY.own (c2) ?_)
      all_goals apply hr
      all_goals simp [Tryd.f35,cf0,Cf.cells,mbs]
  rw [decide_eq_true q2,Bool.true_and]
  obtain ⟨rfl,q4,q5⟩:=q2
  have q4' : ¬ kd < 0:=by omega
  have hln : 2 ≤ l.length + 2:=by omega
  cases hx : l.all memB with
  | true =>
    rw [if_pos rfl]
    refine zK Tryd.tab Tryd.mixed Tryd.func35 rfl rfl Tryd.ntmps35 (by simp) (by simp) fun Q hr hn=>?_
    repeat' first|(refine hK _ ?_;clear hK)|(refine hK _ _ ?_;clear hK)|(clear hK;refine hK _ ?_;clear hK)|(clear hK;clear hK;refine hK _ ?_;clear hK)|(clear hK;clear hK;clear hK;refine hK _ ?_;clear hK)|(clear hK;clear hK;clear hK;clear hK;refine hK _ ?_;clear hK)|(refine zI fun K hK=>?_)|((first | refine zG ?_ | refine zN rfl (by kernel_rfl) ?_ | refine zM ?_ | refine zJ (by kernel_rfl) ?_);simp only [xC,xB,strip])|((first | refine wIs fun K hK=>?_ | refine wOs fun K hK=>?_ | refine wQs fun K hK=>?_ | refine zT ?_ | refine zU ?_ | refine zV ?_ | refine zL ?_);simp [hW,h0,h1,h0',h1',h2,g2,g2',q1,q1',q4',q5,hln])|(refine wIn ?_;refine And.intro (by kernel_rfl) ?_;try simp only [zX])|(first | refine zQ ?_ | refine zS ?_)|((first | refine zH ?_ | refine zO ?_ | refine zP ?_);try simp)|((first | refine zR ?_ | refine wOn ?_ | refine wQn ?_);try simp only [zX])|(refine zZ.pure (c1) rfl ?_)|(refine zZ.lent (c1) rfl ?_)|(refine zW.pure (c1) rfl ?_)|(refine zW.lent (c1) rfl ?_)|(refine zZ.own (c1) ?_)|(refine zY.pure (c1) rfl ?_)|(refine zY.lent (c1) rfl ?_)|(refine zY.own (c1) ?_)|(refine zZ.pure (c2) rfl ?_)|(refine zZ.lent (c2) rfl ?_)|(refine zW.pure (c2) rfl ?_)|(refine zW.lent (c2) rfl ?_)|(refine zZ.own (c2) ?_)|(refine zY.pure (c2) rfl ?_)|(refine zY.lent (c2) rfl ?_)|(refine zY.own (c2) ?_)
    refine wLoopG [.cel 8 3 71 30 4] (fun N st => ∃ k, k + N = l.length ∧ (l.take k).all memB = true ∧ st.s 2 = .ptr 2 0 ∧ st.b 2 = some (.box 26 [.p (I 0), .p (I 0), .p (I 0), .p (.v (.slice none 0 0))]) ∧ st.s 8 = .ptr 8 0 ∧ st.b 8 = some (.box 26 [.p (I ze), .p (I zn), .p (I kd), .row 71]) ∧ st.b 71 = some (.row 30 4 (mbs ((l.take k).map xY))) ∧
      st.s 53 = .p (.sl 1 (sts l)) ∧ st.s 54 = .p (I l.length) ∧ st.s 55 = .p (I k)) l.length ⟨0,by simp [frzL,gh1,mbs,h2,h2']⟩ fun K N st hL ⟨k,hk,hall,g2s,b2,g8,b8,b71,g53,g54,g55⟩=>?_
    by_cases hlt : k < l.length
    · have hwr := wrapS k _ hlt (by omega)
      have he:=sts_get hlt
      have c3:=member_con l[k] (hlw _ (List.getElem_mem hlt))
      have htk : l.take (k + 1) = l.take k ++ [l[k]]:=List.take_succ_eq_append_getElem hlt
      have hll2 : ((l.take k).map xY).length ≤ k:=by simp;omega
      have hF : ∀ h,(sts l)[k]'h = [SB l[k]]:=fun h=>by simp
      generalize hw0 : l[k] = w at *
      cases hm : memB w with
      | true =>
        rw [hm] at c3
        have ha : mbs ((l.take k).map xY) ++ [[I (xY w).i,I (xY w).r,I (xY w).w,I (xY w).g]] = mbs ((l.take (k + 1)).map xY):=by rw [htk];simp [mbs,Mb.cells]
        have hall2 : (l.take (k + 1)).all memB = true:=by rw [htk,List.all_append,hall];simp [hm]
        generalize xY w = m at *
        obtain ⟨mi,mr,mw,mg⟩:=m
        simp only [Mb.cells] at c3 ha
        generalize (l.take k).map xY = Y at *
        generalize hY2 : (l.take (k + 1)).map xY = Y2 at *
        repeat' first|(refine hK _ ?_;clear hK)|(refine hK _ _ ?_;clear hK)|(clear hK;refine hK _ ?_;clear hK)|(clear hK;clear hK;refine hK _ ?_;clear hK)|(clear hK;clear hK;clear hK;refine hK _ ?_;clear hK)|(clear hK;clear hK;clear hK;clear hK;refine hK _ ?_;clear hK)|(refine zI fun K hK=>?_)|((first | refine zG ?_ | refine zN rfl (by kernel_rfl) ?_ | refine zM ?_ | refine zJ (by kernel_rfl) ?_);simp only [xC,xB,strip])|((first | refine wIs fun K hK=>?_ | refine wOs fun K hK=>?_ | refine wQs fun K hK=>?_ | refine zT ?_ | refine zU ?_ | refine zV ?_ | refine zL ?_);simp [g2s,b2,g8,b8,b71,g53,g54,g55,hlt,hwr,he,hw0,hF,ha])|(refine wIn ?_;refine And.intro (by kernel_rfl) ?_;try simp only [zX])|(first | refine zQ ?_ | refine zS ?_)|((first | refine zH ?_ | refine zO ?_ | refine zP ?_);try simp)|((first | refine zR ?_ | refine wOn ?_ | refine wQn ?_);try simp only [zX])|(refine zZ.pure (c3) rfl ?_)|(refine zZ.lent (c3) rfl ?_)|(refine zW.pure (c3) rfl ?_)|(refine zW.lent (c3) rfl ?_)|(refine zZ.own (c3) ?_)|(refine zY.pure (c3) rfl ?_)|(refine zY.lent (c3) rfl ?_)|(refine zY.own (c3) ?_)|(refine And.intro (by (try simp);omega) ?_)
        refine hL _ (N - 1) (by omega) ⟨k + 1,by omega,hall2,?_⟩
        simp [g2s,b2,g8,b8,b71,g53,g54,g55,hwr,ha,hY2]
      | false =>
        rw [hm] at c3
        have:=List.all_eq_true.1 hx w (hw0 ▸ List.getElem_mem hlt)
        rw [hm] at this;cases this
    · rw [List.take_of_length_le (by omega)] at hall b71
      generalize l.map xY = Y at *
      repeat' first|(refine hK _ ?_;clear hK)|(refine hK _ _ ?_;clear hK)|(clear hK;refine hK _ ?_;clear hK)|(clear hK;clear hK;refine hK _ ?_;clear hK)|(clear hK;clear hK;clear hK;refine hK _ ?_;clear hK)|(clear hK;clear hK;clear hK;clear hK;refine hK _ ?_;clear hK)|(refine zI fun K hK=>?_)|((first | refine zG ?_ | refine zN rfl (by kernel_rfl) ?_ | refine zM ?_ | refine zJ (by kernel_rfl) ?_);simp only [xC,xB,strip])|((first | refine wIs fun K hK=>?_ | refine wOs fun K hK=>?_ | refine wQs fun K hK=>?_ | refine zT ?_ | refine zU ?_ | refine zV ?_ | refine zL ?_);simp [g2s,b2,g8,b8,b71,g53,g54,g55,hlt])|(refine wIn ?_;refine And.intro (by kernel_rfl) ?_;try simp only [zX])|(first | refine zQ ?_ | refine zS ?_)|((first | refine zH ?_ | refine zO ?_ | refine zP ?_);try simp)|((first | refine zR ?_ | refine wOn ?_ | refine wQn ?_);try simp only [zX])
      all_goals apply hr
      all_goals simp [Tryd.f35,Cf.cells,g2s,b2,b71]
  | false =>
    rw [if_neg (by decide)]
    refine zD.wkT2 ?_ wkCf
    refine zK Tryd.tab Tryd.mixed Tryd.func35 rfl rfl Tryd.ntmps35 (by simp) (by simp) fun Q hr hn=>?_
    repeat' first|(refine hK _ ?_;clear hK)|(refine hK _ _ ?_;clear hK)|(clear hK;refine hK _ ?_;clear hK)|(clear hK;clear hK;refine hK _ ?_;clear hK)|(clear hK;clear hK;clear hK;refine hK _ ?_;clear hK)|(clear hK;clear hK;clear hK;clear hK;refine hK _ ?_;clear hK)|(refine zI fun K hK=>?_)|((first | refine zG ?_ | refine zN rfl (by kernel_rfl) ?_ | refine zM ?_ | refine zJ (by kernel_rfl) ?_);simp only [xC,xB,strip])|((first | refine wIs fun K hK=>?_ | refine wOs fun K hK=>?_ | refine wQs fun K hK=>?_ | refine zT ?_ | refine zU ?_ | refine zV ?_ | refine zL ?_);simp [hW,h0,h1,h0',h1',h2,g2,g2',q1,q1',q4',q5,hln])|(refine wIn ?_;refine And.intro (by kernel_rfl) ?_;try simp only [zX])|(first | refine zQ ?_ | refine zS ?_)|((first | refine zH ?_ | refine zO ?_ | refine zP ?_);try simp)|((first | refine zR ?_ | refine wOn ?_ | refine wQn ?_);try simp only [zX])|(refine zZ.pure (c1) rfl ?_)|(refine zZ.lent (c1) rfl ?_)|(refine zW.pure (c1) rfl ?_)|(refine zW.lent (c1) rfl ?_)|(refine zZ.own (c1) ?_)|(refine zY.pure (c1) rfl ?_)|(refine zY.lent (c1) rfl ?_)|(refine zY.own (c1) ?_)|(refine zZ.pure (c2) rfl ?_)|(refine zZ.lent (c2) rfl ?_)|(refine zW.pure (c2) rfl ?_)|(refine zW.lent (c2) rfl ?_)|(refine zZ.own (c2) ?_)|(refine zY.pure (c2) rfl ?_)|(refine zY.lent (c2) rfl ?_)|(refine zY.own (c2) ?_)
    refine wLoopG [.cel 8 3 71 30 4] (fun N st => ∃ k, k + N = l.length ∧ (l.take k).all memB = true ∧ st.s 2 = .ptr 2 0 ∧ st.b 2 = some (.box 26 [.p (I 0), .p (I 0), .p (I 0), .p (.v (.slice none 0 0))]) ∧ st.s 8 = .ptr 8 0 ∧ st.b 8 = some (.box 26 [.p (I ze), .p (I zn), .p (I kd), .row 71]) ∧ st.b 71 = some (.row 30 4 (mbs ((l.take k).map xY))) ∧
      st.s 53 = .p (.sl 1 (sts l)) ∧ st.s 54 = .p (I l.length) ∧ st.s 55 = .p (I k)) l.length ⟨0,by simp [frzL,gh1,mbs,h2,h2']⟩ fun K N st hL ⟨k,hk,hall,g2s,b2,g8,b8,b71,g53,g54,g55⟩=>?_
    by_cases hlt : k < l.length
    · have hwr := wrapS k _ hlt (by omega)
      have he:=sts_get hlt
      have c3:=member_con l[k] (hlw _ (List.getElem_mem hlt))
      have htk : l.take (k + 1) = l.take k ++ [l[k]]:=List.take_succ_eq_append_getElem hlt
      have hll2 : ((l.take k).map xY).length ≤ k:=by simp;omega
      have hF : ∀ h,(sts l)[k]'h = [SB l[k]]:=fun h=>by simp
      generalize hw0 : l[k] = w at *
      cases hm : memB w with
      | true =>
        rw [hm] at c3
        have ha : mbs ((l.take k).map xY) ++ [[I (xY w).i,I (xY w).r,I (xY w).w,I (xY w).g]] = mbs ((l.take (k + 1)).map xY):=by rw [htk];simp [mbs,Mb.cells]
        have hall2 : (l.take (k + 1)).all memB = true:=by rw [htk,List.all_append,hall];simp [hm]
        generalize xY w = m at *
        obtain ⟨mi,mr,mw,mg⟩:=m
        simp only [Mb.cells] at c3 ha
        generalize (l.take k).map xY = Y at *
        generalize hY2 : (l.take (k + 1)).map xY = Y2 at *
        repeat' first|(refine hK _ ?_;clear hK)|(refine hK _ _ ?_;clear hK)|(clear hK;refine hK _ ?_;clear hK)|(clear hK;clear hK;refine hK _ ?_;clear hK)|(clear hK;clear hK;clear hK;refine hK _ ?_;clear hK)|(clear hK;clear hK;clear hK;clear hK;refine hK _ ?_;clear hK)|(refine zI fun K hK=>?_)|((first | refine zG ?_ | refine zN rfl (by kernel_rfl) ?_ | refine zM ?_ | refine zJ (by kernel_rfl) ?_);simp only [xC,xB,strip])|((first | refine wIs fun K hK=>?_ | refine wOs fun K hK=>?_ | refine wQs fun K hK=>?_ | refine zT ?_ | refine zU ?_ | refine zV ?_ | refine zL ?_);simp [g2s,b2,g8,b8,b71,g53,g54,g55,hlt,hwr,he,hw0,hF,ha])|(refine wIn ?_;refine And.intro (by kernel_rfl) ?_;try simp only [zX])|(first | refine zQ ?_ | refine zS ?_)|((first | refine zH ?_ | refine zO ?_ | refine zP ?_);try simp)|((first | refine zR ?_ | refine wOn ?_ | refine wQn ?_);try simp only [zX])|(refine zZ.pure (c3) rfl ?_)|(refine zZ.lent (c3) rfl ?_)|(refine zW.pure (c3) rfl ?_)|(refine zW.lent (c3) rfl ?_)|(refine zZ.own (c3) ?_)|(refine zY.pure (c3) rfl ?_)|(refine zY.lent (c3) rfl ?_)|(refine zY.own (c3) ?_)|(refine And.intro (by (try simp);omega) ?_)
        refine hL _ (N - 1) (by omega) ⟨k + 1,by omega,hall2,?_⟩
        simp [g2s,b2,g8,b8,b71,g53,g54,g55,hwr,ha,hY2]
      | false =>
        rw [hm] at c3
        generalize xY w = m at *
        obtain ⟨mi,mr,mw,mg⟩:=m
        simp only [Mb.cells] at c3
        repeat' first|(refine hK _ ?_;clear hK)|(refine hK _ _ ?_;clear hK)|(clear hK;refine hK _ ?_;clear hK)|(clear hK;clear hK;refine hK _ ?_;clear hK)|(clear hK;clear hK;clear hK;refine hK _ ?_;clear hK)|(clear hK;clear hK;clear hK;clear hK;refine hK _ ?_;clear hK)|(refine zI fun K hK=>?_)|((first | refine zG ?_ | refine zN rfl (by kernel_rfl) ?_ | refine zM ?_ | refine zJ (by kernel_rfl) ?_);simp only [xC,xB,strip])|((first | refine wIs fun K hK=>?_ | refine wOs fun K hK=>?_ | refine wQs fun K hK=>?_ | refine zT ?_ | refine zU ?_ | refine zV ?_ | refine zL ?_);simp [g2s,b2,g8,b8,b71,g53,g54,g55,hlt,hwr,he,hw0,hF])|(refine wIn ?_;refine And.intro (by kernel_rfl) ?_;try simp only [zX])|(first | refine zQ ?_ | refine zS ?_)|((first | refine zH ?_ | refine zO ?_ | refine zP ?_);try simp)|((first | refine zR ?_ | refine wOn ?_ | refine wQn ?_);try simp only [zX])|(refine zZ.pure (c3) rfl ?_)|(refine zZ.lent (c3) rfl ?_)|(refine zW.pure (c3) rfl ?_)|(refine zW.lent (c3) rfl ?_)|(refine zZ.own (c3) ?_)|(refine zY.pure (c3) rfl ?_)|(refine zY.lent (c3) rfl ?_)|(refine zY.own (c3) ?_)
        all_goals apply hr
        all_goals simp [Tryd.f35,cf0,Cf.cells,mbs,g2s,b2]
    · rw [List.take_of_length_le (by omega)] at hall
      rw [hx] at hall;cases hall
def prsC (s : List UInt8) : Cf := if shpB (spl s) = true then (if check (shpC (spl s)) = 0 then shpC (spl s) else cf0) else cf0
def prsE (s : List UInt8) : Int := if shpB (spl s) = true then check (shpC (spl s)) else 3
theorem spl_mem (s : List UInt8) : ∀ w ∈ spl s, w.length ≤ s.length := by
  induction s with
  | nil=>intro w hw;simp [spl] at hw;subst hw;simp
  | cons b l ih =>
    intro w hw
    unfold spl at hw
    split at hw
    · rcases List.mem_cons.1 hw with rfl | hw
      · simp
      · have:=ih w hw;simp;omega
    · split at hw
      · simp at hw;subst hw;simp
      · rename_i h t he
        rw [he] at ih
        rcases List.mem_cons.1 hw with rfl | hw
        · have:=ih h (by simp);simp;omega
        · have:=ih w (by simp [hw]);simp;omega
theorem shpC_len (ws : List (List UInt8)) : (shpC ws).ms.length ≤ ws.length := by
  match ws with
  | []=>simp [shpC,cf0]
  | [a]=>simp [shpC,cf0]
  | a :: b :: l =>
    simp only [shpC]
    split
    · simp;omega
    · simp [cf0]
set_option maxHeartbeats 4000000 in
theorem parseC_con (s : List UInt8) (hs : s.length ≤ 900000) : zD Tryd.prog 23 [.p (SB s)] (.tup [.p (.agg (prsC s).cells), .p (I (prsE s))]) := by
  have hsl:=spl_len s
  have hcl:=count_le s
  have c1:=split_con s (by omega)
  have c2:=shaped_con (spl s) (by omega) fun w hw=>by have:=spl_mem s w hw;omega
  have c3:=check_con (shpC (spl s)) (by have:=shpC_len (spl s);omega)
  unfold prsC prsE
  generalize shpC (spl s) = C at *
  cases hb : shpB (spl s) with
  | false =>
    rw [hb] at c2
    simp only [Bool.false_eq_true,if_false]
    generalize spl s = W at *
    clear c3
    refine zD.wkT2 ?_ wkCf
    unfold Cf.cells at *
    refine zK Tryd.tab Tryd.mixed Tryd.func23 rfl rfl Tryd.ntmps23 (by simp) (by simp) fun Q hr hn=>?_
    repeat' first|(refine hK _ ?_;clear hK)|(refine hK _ _ ?_;clear hK)|(clear hK;refine hK _ ?_;clear hK)|(clear hK;clear hK;refine hK _ ?_;clear hK)|(clear hK;clear hK;clear hK;refine hK _ ?_;clear hK)|(clear hK;clear hK;clear hK;clear hK;refine hK _ ?_;clear hK)|(refine zI fun K hK=>?_)|((first | refine zG ?_ | refine zN rfl (by kernel_rfl) ?_ | refine zM ?_ | refine zJ (by kernel_rfl) ?_);simp only [xC,xB,strip])|((first | refine wIs fun K hK=>?_ | refine wOs fun K hK=>?_ | refine wQs fun K hK=>?_ | refine zT ?_ | refine zU ?_ | refine zV ?_ | refine zL ?_);simp)|(refine wIn ?_;refine And.intro (by kernel_rfl) ?_;try simp only [zX])|(first | refine zQ ?_ | refine zS ?_)|((first | refine zH ?_ | refine zO ?_ | refine zP ?_);try simp)|((first | refine zR ?_ | refine wOn ?_ | refine wQn ?_);try simp only [zX])|(refine zZ.pure (c1) rfl ?_)|(refine zZ.lent (c1) rfl ?_)|(refine zW.pure (c1) rfl ?_)|(refine zW.lent (c1) rfl ?_)|(refine zZ.own (c1) ?_)|(refine zY.pure (c1) rfl ?_)|(refine zY.lent (c1) rfl ?_)|(refine zY.own (c1) ?_)|(refine zZ.pure (c2) rfl ?_)|(refine zZ.lent (c2) rfl ?_)|(refine zW.pure (c2) rfl ?_)|(refine zW.lent (c2) rfl ?_)|(refine zZ.own (c2) ?_)|(refine zY.pure (c2) rfl ?_)|(refine zY.lent (c2) rfl ?_)|(refine zY.own (c2) ?_)
    all_goals apply hr
    all_goals simp [Tryd.f23,mbs]
  | true =>
    rw [hb] at c2
    simp only [if_true]
    generalize check C = e at *
    generalize spl s = W at *
    by_cases he : e = 0
    · subst he
      rw [if_pos rfl]
      unfold Cf.cells at *
      refine zK Tryd.tab Tryd.mixed Tryd.func23 rfl rfl Tryd.ntmps23 (by simp) (by simp) fun Q hr hn=>?_
      repeat' first|(refine hK _ ?_;clear hK)|(refine hK _ _ ?_;clear hK)|(clear hK;refine hK _ ?_;clear hK)|(clear hK;clear hK;refine hK _ ?_;clear hK)|(clear hK;clear hK;clear hK;refine hK _ ?_;clear hK)|(clear hK;clear hK;clear hK;clear hK;refine hK _ ?_;clear hK)|(refine zI fun K hK=>?_)|((first | refine zG ?_ | refine zN rfl (by kernel_rfl) ?_ | refine zM ?_ | refine zJ (by kernel_rfl) ?_);simp only [xC,xB,strip])|((first | refine wIs fun K hK=>?_ | refine wOs fun K hK=>?_ | refine wQs fun K hK=>?_ | refine zT ?_ | refine zU ?_ | refine zV ?_ | refine zL ?_);simp)|(refine wIn ?_;refine And.intro (by kernel_rfl) ?_;try simp only [zX])|(first | refine zQ ?_ | refine zS ?_)|((first | refine zH ?_ | refine zO ?_ | refine zP ?_);try simp)|((first | refine zR ?_ | refine wOn ?_ | refine wQn ?_);try simp only [zX])|(refine zZ.pure (c1) rfl ?_)|(refine zZ.lent (c1) rfl ?_)|(refine zW.pure (c1) rfl ?_)|(refine zW.lent (c1) rfl ?_)|(refine zZ.own (c1) ?_)|(refine zY.pure (c1) rfl ?_)|(refine zY.lent (c1) rfl ?_)|(refine zY.own (c1) ?_)|(refine zZ.pure (c2) rfl ?_)|(refine zZ.lent (c2) rfl ?_)|(refine zW.pure (c2) rfl ?_)|(refine zW.lent (c2) rfl ?_)|(refine zZ.own (c2) ?_)|(refine zY.pure (c2) rfl ?_)|(refine zY.lent (c2) rfl ?_)|(refine zY.own (c2) ?_)|(refine zZ.pure (c3) rfl ?_)|(refine zZ.lent (c3) rfl ?_)|(refine zW.pure (c3) rfl ?_)|(refine zW.lent (c3) rfl ?_)|(refine zZ.own (c3) ?_)|(refine zY.pure (c3) rfl ?_)|(refine zY.lent (c3) rfl ?_)|(refine zY.own (c3) ?_)
      all_goals apply hr
      all_goals simp [Tryd.f23]
    · rw [if_neg he]
      have he':=eq_false he
      refine zD.wkT2 ?_ wkCf
      unfold Cf.cells at *
      refine zK Tryd.tab Tryd.mixed Tryd.func23 rfl rfl Tryd.ntmps23 (by simp) (by simp) fun Q hr hn=>?_
      repeat' first|(refine hK _ ?_;clear hK)|(refine hK _ _ ?_;clear hK)|(clear hK;refine hK _ ?_;clear hK)|(clear hK;clear hK;refine hK _ ?_;clear hK)|(clear hK;clear hK;clear hK;refine hK _ ?_;clear hK)|(clear hK;clear hK;clear hK;clear hK;refine hK _ ?_;clear hK)|(refine zI fun K hK=>?_)|((first | refine zG ?_ | refine zN rfl (by kernel_rfl) ?_ | refine zM ?_ | refine zJ (by kernel_rfl) ?_);simp only [xC,xB,strip])|((first | refine wIs fun K hK=>?_ | refine wOs fun K hK=>?_ | refine wQs fun K hK=>?_ | refine zT ?_ | refine zU ?_ | refine zV ?_ | refine zL ?_);simp [he'])|(refine wIn ?_;refine And.intro (by kernel_rfl) ?_;try simp only [zX])|(first | refine zQ ?_ | refine zS ?_)|((first | refine zH ?_ | refine zO ?_ | refine zP ?_);try simp)|((first | refine zR ?_ | refine wOn ?_ | refine wQn ?_);try simp only [zX])|(refine zZ.pure (c1) rfl ?_)|(refine zZ.lent (c1) rfl ?_)|(refine zW.pure (c1) rfl ?_)|(refine zW.lent (c1) rfl ?_)|(refine zZ.own (c1) ?_)|(refine zY.pure (c1) rfl ?_)|(refine zY.lent (c1) rfl ?_)|(refine zY.own (c1) ?_)|(refine zZ.pure (c2) rfl ?_)|(refine zZ.lent (c2) rfl ?_)|(refine zW.pure (c2) rfl ?_)|(refine zW.lent (c2) rfl ?_)|(refine zZ.own (c2) ?_)|(refine zY.pure (c2) rfl ?_)|(refine zY.lent (c2) rfl ?_)|(refine zY.own (c2) ?_)|(refine zZ.pure (c3) rfl ?_)|(refine zZ.lent (c3) rfl ?_)|(refine zW.pure (c3) rfl ?_)|(refine zW.lent (c3) rfl ?_)|(refine zZ.own (c3) ?_)|(refine zY.pure (c3) rfl ?_)|(refine zY.lent (c3) rfl ?_)|(refine zY.own (c3) ?_)
      all_goals apply hr
      all_goals simp [Tryd.f23,mbs]
/- Configs written as texts. -/
theorem check_all {c : Cf} (h : check c = 0) : ranged c ∧ fine (-1) c.ms = true ∧ xE c.kind c.ms = true := by
  unfold check at h
  split at h
  · split at h
    · split at h
      · exact ⟨‹_›,‹_›,‹_›⟩
      · exact absurd h (by decide)
    · exact absurd h (by decide)
  · exact absurd h (by decide)
theorem fine_all : ∀ (l : List Mb) (p : Int), fine p l = true → ∀ m ∈ l, okM m
  | [],_,_,m,hm=>by simp at hm
  | a :: l, p, h, m, hm => by
    unfold fine at h
    simp only [Bool.and_eq_true,decide_eq_true_eq] at h
    rcases List.mem_cons.1 hm with rfl | hm
    · exact h.1.1
    · exact fine_all l a.i h.2 m hm
def rolB (m : Mb) : UInt8 := if m.r = 2 then 111 else 112
def memT (m : Mb) : List UInt8 := 32 :: (yZ m.i.toNat ++ (rolB m :: (yZ m.w.toNat ++ (103 :: yZ m.g.toNat))))
theorem xF (n : Nat) : (yZ n).length ≤ 3 := by unfold yZ; split <;> (try split) <;> simp
theorem memT_len (m : Mb) : (memT m).length ≤ 12 := by
  have:=xF m.i.toNat
  have:=xF m.w.toNat
  have:=xF m.g.toNat
  simp [memT];omega
theorem memsT_len (l : List Mb) : ((l.map memT).flatten).length ≤ 12 * l.length := by
  induction l with
  | nil=>simp
  | cons m l ih =>
    have:=memT_len m
    rw [xC,List.flatten_cons,List.length_append,List.length_cons]
    omega
theorem txt_len (z : Zx) : (txt z).length ≤ 27 := by
  unfold txt
  split
  · rename_i h
    have a:=itoa_len h.1
    have b:=itoa_len h.2
    simp;omega
  · simp
def hdT (c : Cf) : List UInt8 := txt ⟨c.ep, c.n⟩ ++ 32 :: yZ c.kind.toNat
def txtC (c : Cf) : List UInt8 := if check c = 0 then hdT c ++ (c.ms.map memT).flatten else []
theorem decI_con {n : Int} (h0 : 0 ≤ n) (h : n < 1000) : zD Tryd.prog 34 [.p (I n)] (.p (SB (yZ n.toNat))) := by
  have:=decimal_con n.toNat (by omega)
  rw [Int.toNat_of_nonneg h0] at this
  exact this
set_option maxHeartbeats 4000000 in
theorem textC_con (c : Cf) (hl : c.ms.length ≤ 100000) : zD Tryd.prog 22 [.p (.agg c.cells)] (.p (SB (txtC c))) := by
  have c1:=check_con c (by omega)
  unfold txtC
  by_cases hc : check c = 0
  case neg =>
    rw [if_neg hc]
    have hc':=eq_false hc
    generalize check c = e at *
    unfold Cf.cells at *
    refine zK Tryd.tab Tryd.mixed Tryd.func22 rfl rfl Tryd.ntmps22 (by simp) (by simp) fun Q hr hn=>?_
    repeat' first|(refine hK _ ?_;clear hK)|(refine hK _ _ ?_;clear hK)|(clear hK;refine hK _ ?_;clear hK)|(clear hK;clear hK;refine hK _ ?_;clear hK)|(clear hK;clear hK;clear hK;refine hK _ ?_;clear hK)|(clear hK;clear hK;clear hK;clear hK;refine hK _ ?_;clear hK)|(refine zI fun K hK=>?_)|((first | refine zG ?_ | refine zN rfl (by kernel_rfl) ?_ | refine zM ?_ | refine zJ (by kernel_rfl) ?_);simp only [xC,xB,strip])|((first | refine wIs fun K hK=>?_ | refine wOs fun K hK=>?_ | refine wQs fun K hK=>?_ | refine zT ?_ | refine zU ?_ | refine zV ?_ | refine zL ?_);simp [hc'])|(refine wIn ?_;refine And.intro (by kernel_rfl) ?_;try simp only [zX])|(first | refine zQ ?_ | refine zS ?_)|((first | refine zH ?_ | refine zO ?_ | refine zP ?_);try simp)|((first | refine zR ?_ | refine wOn ?_ | refine wQn ?_);try simp only [zX])|(refine zZ.pure (c1) rfl ?_)|(refine zZ.lent (c1) rfl ?_)|(refine zW.pure (c1) rfl ?_)|(refine zW.lent (c1) rfl ?_)|(refine zZ.own (c1) ?_)|(refine zY.pure (c1) rfl ?_)|(refine zY.lent (c1) rfl ?_)|(refine zY.own (c1) ?_)
    all_goals apply hr
    all_goals simp [Tryd.f22]
  rw [if_pos hc]
  rw [hc] at c1
  obtain ⟨hr1,hf,-⟩:=check_all hc
  have hok:=fine_all _ _ hf
  have c2:=text_con ⟨c.ep,c.n⟩
  have c3:=decI_con (n:=c.kind) (by have:=hr1.1;omega) (by have:=hr1.1;omega)
  have e111 : Utf8.encode 111 = bs [111]:=enc_asc (b:=111) (by decide)
  have e112 : Utf8.encode 112 = bs [112]:=enc_asc (b:=112) (by decide)
  unfold hdT
  clear hc hr1 hf
  obtain ⟨ep,n,kind,ms⟩:=c
  unfold Cf.cells at *
  dsimp only at *
  have hh : ∀ a b : List UInt8,a ++ 32 :: b = (a ++ [32]) ++ b:=fun a b=>by simp
  rw [hh]
  have z1:=txt_len ⟨ep,n⟩
  have z2:=xF kind.toNat
  generalize txt ⟨ep,n⟩ = tz at *
  generalize yZ kind.toNat = tk at *
  refine zK Tryd.tab Tryd.mixed Tryd.func22 rfl rfl Tryd.ntmps22 (by simp) (by simp) fun Q hr hn=>?_
  repeat' first|(refine hK _ ?_;clear hK)|(refine hK _ _ ?_;clear hK)|(clear hK;refine hK _ ?_;clear hK)|(clear hK;clear hK;refine hK _ ?_;clear hK)|(clear hK;clear hK;clear hK;refine hK _ ?_;clear hK)|(clear hK;clear hK;clear hK;clear hK;refine hK _ ?_;clear hK)|(refine zI fun K hK=>?_)|((first | refine zG ?_ | refine zN rfl (by kernel_rfl) ?_ | refine zM ?_ | refine zJ (by kernel_rfl) ?_);simp only [xC,xB,strip])|((first | refine wIs fun K hK=>?_ | refine wOs fun K hK=>?_ | refine wQs fun K hK=>?_ | refine zT ?_ | refine zU ?_ | refine zV ?_ | refine zL ?_);simp)|(refine wIn ?_;refine And.intro (by kernel_rfl) ?_;try simp only [zX])|(first | refine zQ ?_ | refine zS ?_)|((first | refine zH ?_ | refine zO ?_ | refine zP ?_);try simp)|((first | refine zR ?_ | refine wOn ?_ | refine wQn ?_);try simp only [zX])|(refine zZ.pure (c1) rfl ?_)|(refine zZ.lent (c1) rfl ?_)|(refine zW.pure (c1) rfl ?_)|(refine zW.lent (c1) rfl ?_)|(refine zZ.own (c1) ?_)|(refine zY.pure (c1) rfl ?_)|(refine zY.lent (c1) rfl ?_)|(refine zY.own (c1) ?_)|(refine zZ.pure (c2) rfl ?_)|(refine zZ.lent (c2) rfl ?_)|(refine zW.pure (c2) rfl ?_)|(refine zW.lent (c2) rfl ?_)|(refine zZ.own (c2) ?_)|(refine zY.pure (c2) rfl ?_)|(refine zY.lent (c2) rfl ?_)|(refine zY.own (c2) ?_)|(refine zZ.pure (c3) rfl ?_)|(refine zZ.lent (c3) rfl ?_)|(refine zW.pure (c3) rfl ?_)|(refine zW.lent (c3) rfl ?_)|(refine zZ.own (c3) ?_)|(refine zY.pure (c3) rfl ?_)|(refine zY.lent (c3) rfl ?_)|(refine zY.own (c3) ?_)|(rw [if_pos (by (try simp only [List.length_append,List.length_cons,List.length_nil]);omega)])
  refine wLoop (fun N st=>∃ k,k + N = ms.length ∧ st.s 1 = .ptr 1 0 ∧ st.b 1 = some (.box 26 [.p (I ep),.p (I n),.p (I kind),.p (.sl 4 (mbs ms))]) ∧ st.s 3 = .p (SB (((tz ++ [32]) ++ tk) ++ ((ms.take k).map memT).flatten)) ∧ st.s 19 = .p (.sl 4 (mbs ms)) ∧ st.s 20 = .p (I ms.length) ∧ st.s 21 = .p (I k)) ms.length ⟨0,by simp⟩ fun K N st hL ⟨k,hk,g1,b1,g3,g19,g20,g21⟩=>?_
  by_cases hlt : k < ms.length
  · have hw := wrapS k _ hlt (by omega)
    have he:=mbs_get hlt
    obtain ⟨⟨o1,o2⟩,o3,⟨o4,o5⟩,o6,o7⟩:=hok _ (List.getElem_mem hlt)
    have d1:=decI_con o1 (by omega)
    have d2:=decI_con o4 (by omega)
    have d3:=decI_con o6 (by omega)
    have htk : ((ms.take (k + 1)).map memT).flatten = ((ms.take k).map memT).flatten ++ memT ms[k]:=by rw [List.take_succ_eq_append_getElem hlt,List.map_append,List.flatten_append];simp
    have v1:=xF ms[k].i.toNat
    have v2:=xF ms[k].w.toNat
    have v3:=xF ms[k].g.toNat
    have v4 : (((tz ++ [32]) ++ tk) ++ ((ms.take k).map memT).flatten).length ≤ 1300000 := by
      have:=memsT_len (ms.take k)
      rw [List.length_append,List.length_append,List.length_append]
      simp only [List.length_take,List.length_cons,List.length_nil] at this ⊢
      omega
    have htk2 : ((tz ++ [32]) ++ tk) ++ ((ms.take (k + 1)).map memT).flatten = (((tz ++ [32]) ++ tk) ++ ((ms.take k).map memT).flatten) ++ memT ms[k]:=by rw [htk,← List.append_assoc]
    have hmt : memT ms[k] = 32 :: (yZ ms[k].i.toNat ++ ((if ms[k].r = 2 then 111 else 112) :: (yZ ms[k].w.toNat ++ (103 :: yZ ms[k].g.toNat)))):=rfl
    rw [hmt] at htk2
    clear hmt
    generalize hT2 : ((tz ++ [32]) ++ tk) ++ ((ms.take (k + 1)).map memT).flatten = T2 at *
    generalize ((tz ++ [32]) ++ tk) ++ ((ms.take k).map memT).flatten = T at *
    clear htk
    generalize hF : ms[k] = m at *
    generalize yZ m.i.toNat = t1 at *
    generalize yZ m.w.toNat = t2 at *
    generalize yZ m.g.toNat = t3 at *
    by_cases hr2 : m.r = 2
    · rw [if_pos hr2] at htk2
      repeat' first|(refine hK _ ?_;clear hK)|(refine hK _ _ ?_;clear hK)|(clear hK;refine hK _ ?_;clear hK)|(clear hK;clear hK;refine hK _ ?_;clear hK)|(clear hK;clear hK;clear hK;refine hK _ ?_;clear hK)|(clear hK;clear hK;clear hK;clear hK;refine hK _ ?_;clear hK)|(refine zI fun K hK=>?_)|((first | refine zG ?_ | refine zN rfl (by kernel_rfl) ?_ | refine zM ?_ | refine zJ (by kernel_rfl) ?_);simp only [xC,xB,strip])|((first | refine wIs fun K hK=>?_ | refine wOs fun K hK=>?_ | refine wQs fun K hK=>?_ | refine zT ?_ | refine zU ?_ | refine zV ?_ | refine zL ?_);simp [g1,b1,g3,g19,g20,g21,hlt,hw,he,hF,hr2,e111,e112])|(refine wIn ?_;refine And.intro (by kernel_rfl) ?_;try simp only [zX])|(first | refine zQ ?_ | refine zS ?_)|((first | refine zH ?_ | refine zO ?_ | refine zP ?_);try simp)|((first | refine zR ?_ | refine wOn ?_ | refine wQn ?_);try simp only [zX])|(refine zZ.pure (d1) rfl ?_)|(refine zZ.lent (d1) rfl ?_)|(refine zW.pure (d1) rfl ?_)|(refine zW.lent (d1) rfl ?_)|(refine zZ.own (d1) ?_)|(refine zY.pure (d1) rfl ?_)|(refine zY.lent (d1) rfl ?_)|(refine zY.own (d1) ?_)|(refine zZ.pure (d2) rfl ?_)|(refine zZ.lent (d2) rfl ?_)|(refine zW.pure (d2) rfl ?_)|(refine zW.lent (d2) rfl ?_)|(refine zZ.own (d2) ?_)|(refine zY.pure (d2) rfl ?_)|(refine zY.lent (d2) rfl ?_)|(refine zY.own (d2) ?_)|(refine zZ.pure (d3) rfl ?_)|(refine zZ.lent (d3) rfl ?_)|(refine zW.pure (d3) rfl ?_)|(refine zW.lent (d3) rfl ?_)|(refine zZ.own (d3) ?_)|(refine zY.pure (d3) rfl ?_)|(refine zY.lent (d3) rfl ?_)|(refine zY.own (d3) ?_)|(rw [if_pos (by (try simp only [List.length_append,List.length_cons,List.length_nil]);omega)])
      refine hL _ (N - 1) (by omega) ⟨k + 1,by omega,?_⟩
      rw [hT2,htk2];simp [g1,b1,g3,g19,g20,g21,hw]
    · rw [if_neg hr2] at htk2
      have hr2':=eq_false hr2
      repeat' first|(refine hK _ ?_;clear hK)|(refine hK _ _ ?_;clear hK)|(clear hK;refine hK _ ?_;clear hK)|(clear hK;clear hK;refine hK _ ?_;clear hK)|(clear hK;clear hK;clear hK;refine hK _ ?_;clear hK)|(clear hK;clear hK;clear hK;clear hK;refine hK _ ?_;clear hK)|(refine zI fun K hK=>?_)|((first | refine zG ?_ | refine zN rfl (by kernel_rfl) ?_ | refine zM ?_ | refine zJ (by kernel_rfl) ?_);simp only [xC,xB,strip])|((first | refine wIs fun K hK=>?_ | refine wOs fun K hK=>?_ | refine wQs fun K hK=>?_ | refine zT ?_ | refine zU ?_ | refine zV ?_ | refine zL ?_);simp [g1,b1,g3,g19,g20,g21,hlt,hw,he,hF,hr2',e111,e112])|(refine wIn ?_;refine And.intro (by kernel_rfl) ?_;try simp only [zX])|(first | refine zQ ?_ | refine zS ?_)|((first | refine zH ?_ | refine zO ?_ | refine zP ?_);try simp)|((first | refine zR ?_ | refine wOn ?_ | refine wQn ?_);try simp only [zX])|(refine zZ.pure (d1) rfl ?_)|(refine zZ.lent (d1) rfl ?_)|(refine zW.pure (d1) rfl ?_)|(refine zW.lent (d1) rfl ?_)|(refine zZ.own (d1) ?_)|(refine zY.pure (d1) rfl ?_)|(refine zY.lent (d1) rfl ?_)|(refine zY.own (d1) ?_)|(refine zZ.pure (d2) rfl ?_)|(refine zZ.lent (d2) rfl ?_)|(refine zW.pure (d2) rfl ?_)|(refine zW.lent (d2) rfl ?_)|(refine zZ.own (d2) ?_)|(refine zY.pure (d2) rfl ?_)|(refine zY.lent (d2) rfl ?_)|(refine zY.own (d2) ?_)|(refine zZ.pure (d3) rfl ?_)|(refine zZ.lent (d3) rfl ?_)|(refine zW.pure (d3) rfl ?_)|(refine zW.lent (d3) rfl ?_)|(refine zZ.own (d3) ?_)|(refine zY.pure (d3) rfl ?_)|(refine zY.lent (d3) rfl ?_)|(refine zY.own (d3) ?_)|(rw [if_pos (by (try simp only [List.length_append,List.length_cons,List.length_nil]);omega)])
      refine hL _ (N - 1) (by omega) ⟨k + 1,by omega,?_⟩
      rw [hT2,htk2];simp [g1,b1,g3,g19,g20,g21,hw]
  · rw [List.take_of_length_le (by omega)] at g3
    generalize (ms.map memT).flatten = tt at *
    repeat' first|(refine hK _ ?_;clear hK)|(refine hK _ _ ?_;clear hK)|(clear hK;refine hK _ ?_;clear hK)|(clear hK;clear hK;refine hK _ ?_;clear hK)|(clear hK;clear hK;clear hK;refine hK _ ?_;clear hK)|(clear hK;clear hK;clear hK;clear hK;refine hK _ ?_;clear hK)|(refine zI fun K hK=>?_)|((first | refine zG ?_ | refine zN rfl (by kernel_rfl) ?_ | refine zM ?_ | refine zJ (by kernel_rfl) ?_);simp only [xC,xB,strip])|((first | refine wIs fun K hK=>?_ | refine wOs fun K hK=>?_ | refine wQs fun K hK=>?_ | refine zT ?_ | refine zU ?_ | refine zV ?_ | refine zL ?_);simp [g1,b1,g3,g19,g20,g21,hlt])|(refine wIn ?_;refine And.intro (by kernel_rfl) ?_;try simp only [zX])|(first | refine zQ ?_ | refine zS ?_)|((first | refine zH ?_ | refine zO ?_ | refine zP ?_);try simp)|((first | refine zR ?_ | refine wOn ?_ | refine wQn ?_);try simp only [zX])
    all_goals apply hr
    all_goals simp [Tryd.f22]
end Go.Proofs.YtjekjpgccnhobaaDoor
/- Layer 2: a number written and read; the law ZxidBack. -/
namespace Go.Proofs.YtjekjpgccnhobaaDoor
set_option linter.unusedSimpArgs false
set_option linter.unusedVariables false
open Go Go.Av Go.Lib
attribute [local irreducible] Go.Av.CallK Go.Av.zZ Go.Av.CallQ Go.Av.zW Go.Av.CallR Go.Av.zY Go.Av.Con
theorem num_itoa {n : Int} (h : rgt n = true) : num (itoa n) = (n, true) := by
  simp only [rgt,decide_eq_true_eq] at h
  have e : itoa n = decDigits n.toNat:=by unfold itoa;rw [if_neg (by omega)]
  obtain ⟨a1,a2,a3,a4,a5⟩:=dec_spec n.toNat
  have h13:=a5 12 (by omega)
  rw [e]
  have hb : badN (decDigits n.toNat) = false := by
    simp only [badN,a1,Bool.not_true,Bool.or_false,decide_eq_false_iff_not]
    rintro (h1 | h1 | ⟨h1,h2⟩)
    · exact a3 h1
    · omega
    · cases hd : decDigits n.toNat with
      | nil=>exact a3 hd
      | cons c t =>
        rw [hd] at h1 h2
        simp only [List.getElem?_cons_zero,xA] at h1
        have:=a4 c t hd h1
        subst this
        exact h2 (by rw [h1])
  have hv : dv (decDigits n.toNat) = n:=by rw [a2];omega
  simp only [num,hb,Bool.false_eq_true,if_false,hv,Prod.mk.injEq,decide_eq_true_eq,true_and]
  exact h.2
theorem dec_back : ∀ (k : Nat) (l : List UInt8), l.length = k → l ≠ [] → l.all dig = true → (∀ b r, l = b :: r → b = 48 → r = []) → 0 ≤ dv l ∧ decDigits (dv l).toNat = l := by
  intro k
  induction k with
  | zero=>intro l hl hn;exact absurd (List.length_eq_zero_iff.1 hl) hn
  | succ k ih =>
    intro l hl hn ha hz
    rcases List.eq_nil_or_concat l with rfl | ⟨m,d,rfl⟩
    · exact absurd rfl hn
    · rw [List.concat_eq_append] at *
      rw [List.all_append,Bool.and_eq_true] at ha
      have hd : dig d = true:=by simpa using ha.2
      simp only [dig,decide_eq_true_eq] at hd
      have ed : ∀ j : Nat, (j : Int) = (d.toNat : Int) - 48 → UInt8.ofNat (48 + j) = d := fun j hj => by
        apply UInt8.toNat_inj.1
        rw [UInt8.toNat_ofNat']
        omega
      by_cases hm : m = []
      · subst hm
        simp only [List.nil_append]
        have e : dv [d] = (d.toNat : Int) - 48:=by simp [dv]
        rw [e]
        refine ⟨by omega,?_⟩
        rw [decDigits,dif_pos (by omega)]
        rw [ed _ (by omega)]
      · have hzm : ∀ b r, m = b :: r → b = 48 → r = [] := fun b r e hb => by
          subst e
          have:=hz b (r ++ [d]) rfl hb
          simp at this
        obtain ⟨h1,h2⟩:=ih m (by simp at hl;exact hl) hm ha.1 hzm
        rw [dv_app]
        have xI : 1 ≤ dv m := by
          cases m with
          | nil=>exact absurd rfl hm
          | cons b r =>
            rcases Int.lt_or_le 0 (dv (b :: r)) with h3 | h3
            · omega
            · exfalso
              have h4 : dv (b :: r) = 0:=by omega
              rw [h4] at h2
              have h5 : decDigits (0 : Int).toNat = [48]:=by decide +kernel
              rw [h5] at h2
              simp only [List.cons.injEq] at h2
              have:=hz b (r ++ [d]) rfl h2.1.symm
              simp at this
        refine ⟨by omega,?_⟩
        rw [decDigits,dif_neg (by omega)]
        have e1 : (10 * dv m + ((d.toNat : Int) - 48)).toNat / 10 = (dv m).toNat:=by omega
        have e2 : (((10 * dv m + ((d.toNat : Int) - 48)).toNat % 10 : Nat) : Int) = (d.toNat : Int) - 48:=by omega
        rw [e1,h2,ed _ e2]
theorem itoa_num {l : List UInt8} {v : Int} (h : num l = (v, true)) : rgt v = true ∧ itoa v = l := by
  unfold num at h
  split at h
  · simp at h
  rename_i hb
  simp only [Prod.mk.injEq,decide_eq_true_eq] at h
  obtain ⟨h1,h2⟩:=h
  simp only [badN,Bool.or_eq_true,decide_eq_true_eq,not_or,Bool.not_eq_true',Bool.not_eq_false] at hb
  obtain ⟨⟨b1,b2,b3⟩,b4⟩:=hb
  obtain ⟨c1, c2⟩ := dec_back _ l rfl b1 b4 (fun b r e hb => by
    subst e
    by_cases hr : r = []
    · exact hr
    · exact absurd ⟨by rw [hb];rfl,by rw [hb];simpa using hr⟩ b3)
  rw [h1] at c1 c2 h2
  refine ⟨by simp [rgt];exact ⟨c1,h2⟩,?_⟩
  unfold itoa
  rw [if_neg (by omega),c2]
theorem ix_app {a b : List UInt8} (h : a.all dig = true) : ix (a ++ 46 :: b) = a.length := by
  induction a with
  | nil=>rfl
  | cons x a ih =>
    simp only [List.all_cons,Bool.and_eq_true] at h
    have hx : (x == 46) = false := by
      have:=h.1
      simp only [dig,decide_eq_true_eq] at this
      rw [beq_eq_false_iff_ne]
      intro e;subst e
      simp at this
    have : ix (a ++ 46 :: b) = a.length:=ih h.2
    unfold ix at this ⊢
    rw [List.cons_append,List.findIdx_cons,hx]
    simp [this]
theorem itoa_dig {n : Int} (h : rgt n = true) : (itoa n).all dig = true := by
  simp only [rgt,decide_eq_true_eq] at h
  have e : itoa n = decDigits n.toNat:=by unfold itoa;rw [if_neg (by omega)]
  rw [e];exact (dec_spec _).1
theorem prs_txt (z : Zx) : (txt z = [] ∧ prs (txt z) = (⟨0, 0⟩, 3)) ∨ (txt z ≠ [] ∧ prs (txt z) = (z, 0)) := by
  unfold txt
  by_cases h : rgt z.e = true ∧ rgt z.n = true
  · rw [if_pos h]
    right
    refine ⟨by simp,?_⟩
    have hi:=ix_app (b:=itoa z.n) (itoa_dig h.1)
    unfold prs
    rw [hi,if_neg (by simp),List.take_left,num_itoa h.1]
    have e : (itoa z.e ++ 46 :: itoa z.n).drop ((itoa z.e).length + 1) = itoa z.n := by
      rw [← List.drop_drop,List.drop_left];rfl
    rw [e,num_itoa h.2]
    simp
  · rw [if_neg h]
    exact .inl ⟨rfl,rfl⟩
theorem txt_prs {l : List UInt8} (h : (prs l).2 = 0) : txt (prs l).1 = l := by
  unfold prs at h ⊢
  split at h
  · simp at h
  rename_i hx
  rw [if_neg hx]
  split at h
  · rename_i hp
    rw [if_pos hp]
    have e1:=itoa_num (l:=l.take (ix l)) (v:=(num (l.take (ix l))).1) (by rw [← hp.1])
    have e2:=itoa_num (l:=l.drop (ix l + 1)) (v:=(num (l.drop (ix l + 1))).1) (by rw [← hp.2])
    unfold txt
    rw [if_pos ⟨e1.1,e2.1⟩,e1.2,e2.2]
    have hlt : ix l < l.length:=by have:=ix_le l;omega
    have:=List.take_append_drop (ix l) l
    rw [List.drop_eq_getElem_cons hlt,ix_at hlt] at this
    exact this
  · simp at h
end Go.Proofs.YtjekjpgccnhobaaDoor
/- Configs written and read: what is written is read back, what is read was written so. -/
namespace Go.Proofs.YtjekjpgccnhobaaDoor
set_option linter.unusedSimpArgs false
set_option linter.unusedVariables false
open Go Go.Av
theorem isD_dg {k : Nat} (h : k < 10) : isD (dg k) = true := by
  unfold isD;rw [xG h,decide_eq_true_eq];omega
theorem dg_of {b : UInt8} (h : isD b = true) : dg (b.toNat - 48) = b := by
  simp only [isD,decide_eq_true_eq] at h
  apply UInt8.toNat_inj.1
  rw [xG (by omega)];omega
theorem decL_dig {n : Nat} (h : n < 1000) : ∀ b ∈ yZ n, isD b = true := by
  intro b hb
  unfold yZ at hb
  split at hb
  · simp at hb;subst hb;exact isD_dg (by omega)
  split at hb
  · simp at hb;rcases hb with rfl | rfl <;> exact isD_dg (by omega)
  · simp at hb;rcases hb with rfl | rfl | rfl <;> exact isD_dg (by omega)
def noD (l : List UInt8) : Prop := ∀ b, l.head? = some b → isD b = false
theorem tw_app : ∀ {a r : List UInt8}, (∀ b ∈ a, isD b = true) → noD r → (a ++ r).takeWhile isD = a
  | [], r, _, hr => by
    cases r with
    | nil=>rfl
    | cons b r=>rw [List.nil_append,List.takeWhile_cons,hr b rfl];rfl
  | b :: a, r, ha, hr => by
    rw [List.cons_append,List.takeWhile_cons,ha b List.mem_cons_self]
    simp only [if_true]
    rw [tw_app (fun x hx=>ha x (List.mem_cons_of_mem _ hx)) hr]
theorem dgN_dec {n : Nat} (h : n < 1000) {r : List UInt8} (hr : noD r) : dgN (yZ n ++ r) = (yZ n).length := by
  rw [dgN_eq,tw_app (decL_dig h) hr]
  have:=xF n
  omega
theorem valD_dec {n : Nat} (h : n < 1000) : valD (yZ n) = n := by
  unfold yZ valD
  split
  · simp only [List.foldl_cons, List.foldl_nil]
    rw [xG (by omega)];omega
  split
  · simp only [List.foldl_cons, List.foldl_nil]
    rw [xG (by omega),xG (by omega)];omega
  · simp only [List.foldl_cons, List.foldl_nil]
    rw [xG (by omega),xG (by omega),xG (by omega)];omega
theorem dec_head {n : Nat} (h : n < 1000) (h1 : 1 < (yZ n).length) (r : List UInt8) : ¬ (yZ n ++ r).head? = some 48 := by
  unfold yZ at h1 ⊢
  intro hh
  split at h1
  · simp at h1
  rename_i g1
  rw [if_neg g1] at hh
  have h48 : ((48 : UInt8)).toNat = 48:=rfl
  split at hh
  · simp at hh
    have:=congrArg UInt8.toNat hh
    rw [xG (by omega),h48] at this;omega
  · simp at hh
    have:=congrArg UInt8.toNat hh
    rw [xG (by omega),h48] at this;omega
theorem dec_pos (n : Nat) : 0 < (yZ n).length := by unfold yZ; split <;> (try split) <;> simp
theorem num_dec {n : Nat} (h : n < 1000) {r : List UInt8} (hr : noD r) : yG (yZ n ++ r) = n ∧ yB (yZ n ++ r) = r := by
  have hd:=dgN_dec h hr
  have h0:=dec_pos n
  unfold yG yB
  rw [hd,List.take_left,List.drop_left]
  refine ⟨?_,rfl⟩
  rw [if_neg (fun g=>g.elim (by omega) fun g=>dec_head h g.1 r g.2)]
  exact valD_dec h
theorem dec_val {a : List UInt8} (ha : ∀ b ∈ a, isD b = true) (h0 : 0 < a.length) (h3 : a.length ≤ 3) (hz : 1 < a.length → ¬ a.head? = some 48) : yZ (valD a).toNat = a ∧ valD a < 1000 := by
  have nz : ∀ b : UInt8, isD b = true → ¬ b = 48 → 49 ≤ b.toNat := by
    intro b hb hn
    simp only [isD,decide_eq_true_eq] at hb
    have : ¬ b.toNat = 48:=fun h=>hn (UInt8.toNat_inj.1 (by rw [h];rfl))
    omega
  match a,h0,h3 with
  | [x], _, _ =>
    have hx:=ha x (by simp)
    have hx':=hx
    simp only [isD,decide_eq_true_eq] at hx'
    have hv : valD [x] = (x.toNat : Int) - 48:=by simp [valD]
    rw [hv]
    refine ⟨?_,by omega⟩
    unfold yZ
    rw [if_pos (by omega),show ((x.toNat : Int) - 48).toNat = x.toNat - 48 by omega,dg_of hx]
  | [x, y], _, _ =>
    have hx:=ha x (by simp)
    have hy:=ha y (by simp)
    have h1:=nz x hx fun e=>hz (by simp) (by rw [e];rfl)
    have hx':=hx
    have hy':=hy
    simp only [isD,decide_eq_true_eq] at hx' hy'
    have hv : valD [x,y] = 10 * ((x.toNat : Int) - 48) + ((y.toNat : Int) - 48):=by simp [valD]
    rw [hv]
    refine ⟨?_,by omega⟩
    generalize hn : (10 * ((x.toNat : Int) - 48) + ((y.toNat : Int) - 48)).toNat = n
    unfold yZ
    rw [if_neg (by omega),if_pos (by omega),show n / 10 = x.toNat - 48 by omega,show n % 10 = y.toNat - 48 by omega,dg_of hx,dg_of hy]
  | [x, y, z], _, _ =>
    have hx:=ha x (by simp)
    have hy:=ha y (by simp)
    have hz':=ha z (by simp)
    have h1:=nz x hx fun e=>hz (by simp) (by rw [e];rfl)
    have hx':=hx
    have hy':=hy
    have hzz:=hz'
    simp only [isD,decide_eq_true_eq] at hx' hy' hzz
    have hv : valD [x,y,z] = 10 * (10 * ((x.toNat : Int) - 48) + ((y.toNat : Int) - 48)) + ((z.toNat : Int) - 48):=by simp [valD]
    rw [hv]
    refine ⟨?_,by omega⟩
    generalize hn : (10 * (10 * ((x.toNat : Int) - 48) + ((y.toNat : Int) - 48)) + ((z.toNat : Int) - 48)).toNat = n
    unfold yZ
    rw [if_neg (by omega),if_neg (by omega),show n / 100 = x.toNat - 48 by omega,show n / 10 % 10 = y.toNat - 48 by omega,show n % 10 = z.toNat - 48 by omega,dg_of hx,dg_of hy,dg_of hz']
theorem tw_all (l : List UInt8) : ∀ b ∈ l.takeWhile isD, isD b = true := fun b hb => by
  have:=List.all_takeWhile (p:=isD) (l:=l)
  exact List.all_eq_true.1 this b hb
theorem num_back {l : List UInt8} (h : 0 ≤ yG l) : l = yZ (yG l).toNat ++ yB l ∧ yG l < 1000 := by
  unfold yG yB at *
  by_cases hc : dgN l = 0 ∨ (1 < dgN l ∧ l.head? = some 48)
  · rw [if_pos hc] at h;exact absurd h (by decide)
  rw [if_neg hc] at h ⊢
  have hlt : dgN l ≤ (l.takeWhile isD).length:=by rw [dgN_eq];omega
  have hle : (l.takeWhile isD).length ≤ l.length:=(List.takeWhile_sublist _).length_le
  have hlen : (l.take (dgN l)).length = dgN l:=by rw [List.length_take];omega
  have h3 : dgN l ≤ 3:=by rw [dgN_eq];omega
  have hdig : ∀ b ∈ l.take (dgN l), isD b = true := by
    rw [← tw_take isD l (dgN l) hlt]
    exact fun b hb=>tw_all l b (List.mem_of_mem_take hb)
  have := dec_val hdig (by rw [hlen]; exact Nat.pos_of_ne_zero fun h => hc (.inl h)) (by rw [hlen]; exact h3) (fun h1 h2 => hc (.inr ⟨by rw [hlen] at h1; exact h1, by
    cases l with
    | nil=>simp at h2
    | cons b r =>
      rw [hlen] at h1
      rw [show dgN (b :: r) = (dgN (b :: r) - 1) + 1 by omega,List.take_succ_cons] at h2
      exact h2⟩))
  refine ⟨?_,this.2⟩
  rw [this.1,List.take_append_drop]
theorem spl_app : ∀ {a : List UInt8}, (∀ b ∈ a, ¬ b = 32) → ∀ r, spl (a ++ 32 :: r) = a :: spl r
  | [], _, r => by 
    show spl (32 :: r) = _
    conv=>lhs;unfold spl
    rw [if_pos rfl]
  | b :: a, h, r => by
    rw [List.cons_append]
    conv=>lhs;unfold spl
    rw [if_neg (h b List.mem_cons_self),spl_app (fun x hx=>h x (List.mem_cons_of_mem _ hx)) r]
theorem spl_one : ∀ {a : List UInt8}, (∀ b ∈ a, ¬ b = 32) → spl a = [a]
  | [],_=>rfl
  | b :: a, h => by
    unfold spl
    rw [if_neg (h b List.mem_cons_self),spl_one (fun x hx=>h x (List.mem_cons_of_mem _ hx))]
theorem spl_all : ∀ (l : List (List UInt8)) (a : List UInt8), (∀ b ∈ a, ¬ b = 32) → (∀ w ∈ l, ∀ b ∈ w, ¬ b = 32) → spl (a ++ (l.map fun w => 32 :: w).flatten) = a :: l
  | [],a,ha,_=>by simp [spl_one ha]
  | w :: l, a, ha, hl => by
    rw [xC,List.flatten_cons,List.cons_append,spl_app ha,spl_all l w (hl w List.mem_cons_self) fun x hx=>hl x (List.mem_cons_of_mem _ hx)]
theorem join_spl : ∀ (s : List UInt8) (a : List UInt8) (l : List (List UInt8)), spl s = a :: l → s = a ++ (l.map fun w => 32 :: w).flatten
  | [], a, l, h => by
    simp [spl] at h
    obtain ⟨rfl,rfl⟩:=h;rfl
  | b :: s, a, l, h => by
    unfold spl at h
    split at h
    · rename_i hb
      simp only [List.cons.injEq] at h
      obtain ⟨rfl,h⟩:=h
      match hs : spl s,h with
      | w :: t, h =>
        subst h
        have:=join_spl s w t hs
        rw [List.nil_append,xC,List.flatten_cons,List.cons_append,← this,hb]
      | [],h=>have:=spl_len s;rw [hs] at this;simp at this
    · split at h
      · rename_i hs;have:=spl_len s;rw [hs] at this;simp at this
      · rename_i hd t hs
        simp only [List.cons.injEq] at h
        obtain ⟨rfl,rfl⟩:=h
        have:=join_spl s hd t hs
        rw [List.cons_append,← this]
/- Configs written and read: the whole. -/
def memW (m : Mb) : List UInt8 := yZ m.i.toNat ++ (rolB m :: (yZ m.w.toNat ++ (103 :: yZ m.g.toNat)))
theorem memT_W (m : Mb) : memT m = 32 :: memW m := rfl
theorem hpx_cons (c d : UInt8) (l : List UInt8) : hpx (c :: l) [d] = decide (c = d) := by
  unfold hpx
  rw [Bool.eq_iff_iff,decide_eq_true_eq,decide_eq_true_eq]
  simp
theorem noD_cons {c : UInt8} {l : List UInt8} (h : isD c = false) : noD (c :: l) := fun b hb => by simp at hb; subst hb; exact h
theorem noD_nil : noD [] := fun b hb => by simp at hb
theorem rol_noD (m : Mb) : isD (rolB m) = false := by unfold rolB; split <;> decide
theorem mem_back {m : Mb} (h : okM m) : memB (memW m) = true ∧ xY (memW m) = m := by
  obtain ⟨⟨h1,h2⟩,h3,⟨h4,h5⟩,h6,h7⟩:=h
  have a1:=num_dec (n:=m.i.toNat) (by omega) (noD_cons (l:=yZ m.w.toNat ++ (103 :: yZ m.g.toNat)) (rol_noD m))
  have a2:=num_dec (n:=m.w.toNat) (by omega) (noD_cons (c:=103) (l:=yZ m.g.toNat) (by decide))
  have a3:=num_dec (n:=m.g.toNat) (by omega) noD_nil
  rw [List.append_nil] at a3
  have e0 : yG (memW m) = m.i:=by unfold memW;rw [a1.1];omega
  have e1 : yB (memW m) = rolB m :: (yZ m.w.toNat ++ (103 :: yZ m.g.toNat)):=a1.2
  have e2 : mw1 (memW m) = yZ m.w.toNat ++ (103 :: yZ m.g.toNat):=by unfold mw1;rw [e1];rfl
  have e3 : yG (mw1 (memW m)) = m.w:=by rw [e2,a2.1];omega
  have e4 : yB (mw1 (memW m)) = 103 :: yZ m.g.toNat:=by rw [e2];exact a2.2
  have e5 : mw2 (memW m) = yZ m.g.toNat:=by unfold mw2;rw [e4];rfl
  have e6 : yG (mw2 (memW m)) = m.g:=by rw [e5,a3.1];omega
  have e7 : yB (mw2 (memW m)) = []:=by rw [e5];exact a3.2
  have hb : memB (memW m) = true := by
    unfold memB
    rw [e1,e4,e0,e3,e6,e7,hpx_cons,hpx_cons,hpx_cons]
    simp only [Bool.and_eq_true,Bool.or_eq_true,decide_eq_true_eq]
    refine ⟨?_,trivial,by omega,by omega,by omega,trivial⟩
    unfold rolB
    split <;> simp
  refine ⟨hb,?_⟩
  unfold xY
  rw [if_pos hb,e0,e3,e6]
  have e8 : mro (memW m) = m.r := by
    unfold mro
    rw [e1,hpx_cons]
    unfold rolB
    rcases h3 with h3 | h3
    · have g : ¬ m.r = 2 := by omega
      rw [if_neg g,if_neg (by decide),h3]
    · rw [if_pos h3,if_pos (by decide),h3]
  rw [e8]
theorem dig_no32 {b : UInt8} (h : isD b = true) : ¬ b = 32 := by
  rintro rfl;exact absurd h (by decide)
theorem decL_no32 {n : Nat} (h : n < 1000) : ∀ b ∈ yZ n, ¬ b = 32 := fun b hb => dig_no32 (decL_dig h b hb)
theorem memW_no32 {m : Mb} (h : okM m) : ∀ b ∈ memW m, ¬ b = 32 := by
  obtain ⟨⟨h1,h2⟩,h3,⟨h4,h5⟩,h6,h7⟩:=h
  intro b hb
  unfold memW at hb
  rcases List.mem_append.1 hb with hb | hb
  · exact decL_no32 (by omega) b hb
  rcases List.mem_cons.1 hb with rfl | hb
  · unfold rolB;split <;> decide
  rcases List.mem_append.1 hb with hb | hb
  · exact decL_no32 (by omega) b hb
  rcases List.mem_cons.1 hb with rfl | hb
  · decide
  · exact decL_no32 (by omega) b hb
theorem dig_no32' {b : UInt8} (h : dig b = true) : ¬ b = 32 := by
  rintro rfl;exact absurd h (by decide)
theorem txt_no32 {z : Zx} (h : rgt z.e = true ∧ rgt z.n = true) : ∀ b ∈ txt z, ¬ b = 32 := by
  unfold txt
  rw [if_pos h]
  intro b hb
  rcases List.mem_append.1 hb with hb | hb
  · exact dig_no32' (List.all_eq_true.1 (itoa_dig h.1) b hb)
  rcases List.mem_cons.1 hb with rfl | hb
  · decide
  · exact dig_no32' (List.all_eq_true.1 (itoa_dig h.2) b hb)
theorem txt_ne {z : Zx} (h : rgt z.e = true ∧ rgt z.n = true) : txt z ≠ [] := by
  unfold txt;rw [if_pos h];simp
theorem text_back {c : Cf} (h : check c = 0) : prsC (txtC c) = c ∧ prsE (txtC c) = 0 ∧ txtC c ≠ [] := by
  obtain ⟨⟨hk,⟨he1,he2⟩,hn1,hn2⟩,hf,-⟩:=check_all h
  have hok:=fine_all _ _ hf
  have hz : rgt c.ep = true ∧ rgt c.n = true:=⟨decide_eq_true ⟨he1,he2⟩,decide_eq_true ⟨hn1,hn2⟩⟩
  have hzz : rgt (Zx.mk c.ep c.n).e = true ∧ rgt (Zx.mk c.ep c.n).n = true:=hz
  have ht : txtC c = txt ⟨c.ep, c.n⟩ ++ ((yZ c.kind.toNat :: c.ms.map memW).map fun w => 32 :: w).flatten := by
    unfold txtC hdT
    rw [if_pos h,xC,List.flatten_cons,List.map_map,List.append_assoc]
    rfl
  have hs : spl (txtC c) = txt ⟨c.ep, c.n⟩ :: yZ c.kind.toNat :: c.ms.map memW := by
    rw [ht]
    refine spl_all _ _ (txt_no32 hzz) fun w hw=>?_
    rcases List.mem_cons.1 hw with rfl | hw
    · exact decL_no32 (by omega)
    · obtain ⟨m, hm, rfl⟩ := List.mem_map.1 hw
      exact memW_no32 (hok m hm)
  have hp : prs (txt ⟨c.ep, c.n⟩) = (⟨c.ep, c.n⟩, 0) := by
    rcases prs_txt ⟨c.ep,c.n⟩ with ⟨h1,-⟩ | ⟨-,h2⟩
    · exact absurd h1 (txt_ne hzz)
    · exact h2
  have hd1:=num_dec (n:=c.kind.toNat) (by omega) noD_nil
  rw [List.append_nil] at hd1
  have hkl : (yZ c.kind.toNat).length = 1:=by unfold yZ;rw [if_pos (by omega)];rfl
  have hki : yG (yZ c.kind.toNat) = c.kind:=by rw [hd1.1];omega
  have hhd : hdB (txt ⟨c.ep, c.n⟩) (yZ c.kind.toNat) = true := by
    unfold hdB
    rw [hp,hki,hd1.2,hkl]
    simp only [Bool.and_eq_true,decide_eq_true_eq]
    exact ⟨trivial,trivial,by omega,trivial⟩
  have hall : (c.ms.map memW).all memB = true := by
    rw [List.all_eq_true]
    intro w hw
    obtain ⟨m,hm,rfl⟩:=List.mem_map.1 hw
    exact (mem_back (hok m hm)).1
  have hmm : (c.ms.map memW).map xY = c.ms := by
    rw [List.map_map]
    conv=>rhs;rw [← List.map_id c.ms]
    exact List.map_congr_left fun m hm=>(mem_back (hok m hm)).2
  have hB : shpB (spl (txtC c)) = true:=by rw [hs];show (hdB _ _ && _) = true;rw [hhd,hall];rfl
  have hC : shpC (spl (txtC c)) = c := by
    rw [hs]
    show (if (hdB _ _ && _) = true then _ else _) = _
    rw [hhd,hall,if_pos (by rfl),hp,hki,hmm]
  refine ⟨?_,?_,?_⟩
  · unfold prsC;rw [if_pos hB,hC,if_pos h]
  · unfold prsE;rw [if_pos hB,hC,h]
  · rw [ht];simp
theorem hpx_eq {l : List UInt8} {c : UInt8} (h : hpx l [c] = true) : l = c :: l.drop 1 := by
  unfold hpx at h
  rw [decide_eq_true_eq] at h
  cases l with
  | nil=>simp at h
  | cons b l =>
    have:=h.2
    simp at this
    rw [this];rfl
theorem word_back {w : List UInt8} (h : memB w = true) : memW (xY w) = w := by
  have hb:=h
  unfold memB at h
  simp only [Bool.and_eq_true,Bool.or_eq_true,decide_eq_true_eq] at h
  obtain ⟨h1,h2,h3,h4,h5,h6⟩:=h
  obtain ⟨b1,-⟩:=num_back h3
  obtain ⟨b2,-⟩:=num_back h4
  obtain ⟨b3,-⟩:=num_back h5
  rw [h6,List.append_nil] at b3
  unfold xY
  rw [if_pos hb]
  have e1 : yB w = rolB ⟨yG w, mro w, yG (mw1 w), yG (mw2 w)⟩ :: mw1 w := by
    unfold rolB mro mw1
    dsimp only
    by_cases g : hpx (yB w) [111] = true
    · rw [if_pos g,if_pos rfl];exact hpx_eq g
    · rw [if_neg g,if_neg (by decide)];exact hpx_eq (h1.resolve_left g)
  have e2 : yB (mw1 w) = 103 :: mw2 w:=hpx_eq h2
  have e3 : memW ⟨yG w,mro w,yG (mw1 w),yG (mw2 w)⟩ = yZ (yG w).toNat ++ (rolB ⟨yG w,mro w,yG (mw1 w),yG (mw2 w)⟩ :: (yZ (yG (mw1 w)).toNat ++ (103 :: yZ (yG (mw2 w)).toNat))):=rfl
  rw [← b3,← e2,← b2,← e1,← b1] at e3
  exact e3
theorem read_back {s : List UInt8} (h : prsE s = 0) : txtC (prsC s) = s ∧ check (prsC s) = 0 := by
  unfold prsE at h
  unfold prsC
  by_cases hB : shpB (spl s) = true
  case neg=>rw [if_neg hB] at h;exact absurd h (by decide)
  rw [if_pos hB] at h
  rw [if_pos hB,if_pos h]
  refine ⟨?_,h⟩
  match hs : spl s,hB,h with
  | a :: b :: l, hB, h =>
    have hB' : (hdB a b && l.all memB) = true:=hB
    have hC : shpC (a :: b :: l) = ⟨(prs a).1.e, (prs a).1.n, yG b, l.map xY⟩ := by
      show (if (hdB a b && l.all memB) = true then _ else _) = _
      rw [if_pos hB']
    have hj:=join_spl s a (b :: l) hs
    rw [Bool.and_eq_true] at hB'
    obtain ⟨g1,g2⟩:=hB'
    unfold hdB at g1
    simp only [Bool.and_eq_true,decide_eq_true_eq] at g1
    obtain ⟨q1,q2,q3,q4⟩:=g1
    have hta:=txt_prs q2
    obtain ⟨hb1,-⟩:=num_back q3
    rw [q4,List.append_nil] at hb1
    have hms : ((l.map xY).map memT) = l.map fun w => 32 :: w := by
      rw [List.map_map]
      refine List.map_congr_left fun w hw=>?_
      show memT (xY w) = _
      rw [memT_W,word_back (List.all_eq_true.1 g2 w hw)]
    unfold txtC
    rw [if_pos h,hC]
    unfold hdT
    dsimp only
    rw [hms,← hb1]
    conv=>rhs;rw [hj]
    rw [show (Zx.mk (prs a).1.e (prs a).1.n) = (prs a).1 from rfl,hta]
    simp
end Go.Proofs.YtjekjpgccnhobaaDoor
/- When two lists of numbers are the same, by the document. -/
namespace Go.Proofs.YtjekjpgccnhobaaDoor
set_option linter.unusedSimpArgs false
set_option linter.unusedVariables false
open Go Go.Av
attribute [local irreducible] Go.Av.CallK Go.Av.zZ Go.Av.CallQ Go.Av.zW Go.Av.CallR Go.Av.zY Go.Av.Con
theorem ints01_con (a b : List Int) : zD Tryd.prog 13 [.p (.sl 1 (ints a)), .p (.sl 1 (ints b))] (.p (B (decide (a = b)))) := by
  refine zD.len ⟨Tryd.f13,Tryd.func13,rfl,rfl⟩ 0 _ _ rfl fun hlen=>?_
  simp only [ints_len] at hlen
  by_cases hl : a.length = b.length
  · refine zK Tryd.tab Tryd.mixed Tryd.func13 rfl rfl Tryd.ntmps13 (by simp) (by simp) fun Q hr hn => ?_
    repeat' first|(refine hK _ ?_;clear hK)|(refine hK _ _ ?_;clear hK)|(clear hK;refine hK _ ?_;clear hK)|(clear hK;clear hK;refine hK _ ?_;clear hK)|(clear hK;clear hK;clear hK;refine hK _ ?_;clear hK)|(clear hK;clear hK;clear hK;clear hK;refine hK _ ?_;clear hK)|(refine zI fun K hK=>?_)|((first | refine zG ?_ | refine zN rfl (by kernel_rfl) ?_ | refine zM ?_ | refine zJ (by kernel_rfl) ?_);simp only [xC,xB,strip])|((first | refine wIs fun K hK=>?_ | refine wOs fun K hK=>?_ | refine wQs fun K hK=>?_ | refine zT ?_ | refine zU ?_ | refine zV ?_ | refine zL ?_);simp [hl])|(refine wIn ?_;refine And.intro (by kernel_rfl) ?_;try simp only [zX])|(first | refine zQ ?_ | refine zS ?_)|((first | refine zH ?_ | refine zO ?_ | refine zP ?_);try simp)|((first | refine zR ?_ | refine wOn ?_ | refine wQn ?_);try simp only [zX])
    refine wLoop (fun N st=>∃ k,k + N = a.length ∧ st.s 0 = .p (.sl 1 (ints a)) ∧ st.s 1 = .p (.sl 1 (ints b)) ∧ st.s 12 = .p (I a.length) ∧ st.s 13 = .p (I k) ∧ (a = b ↔ a.drop k = b.drop k)) a.length ⟨0,by simp [hl]⟩ fun K N st hL ⟨k,hk,h0,h1,h12,h13,hi⟩=>?_
    by_cases hlt : k < a.length
    · have hw := wrapS k _ hlt hlen
      have he:=ints_get hlt
      have he':=ints_get (l:=b) (k:=k) (by omega)
      rw [List.drop_eq_getElem_cons hlt,List.drop_eq_getElem_cons (l:=b) (by omega),List.cons.injEq] at hi
      repeat' first|(refine hK _ ?_;clear hK)|(refine hK _ _ ?_;clear hK)|(clear hK;refine hK _ ?_;clear hK)|(clear hK;clear hK;refine hK _ ?_;clear hK)|(clear hK;clear hK;clear hK;refine hK _ ?_;clear hK)|(clear hK;clear hK;clear hK;clear hK;refine hK _ ?_;clear hK)|(refine zI fun K hK=>?_)|((first | refine zG ?_ | refine zN rfl (by kernel_rfl) ?_ | refine zM ?_ | refine zJ (by kernel_rfl) ?_);simp only [xC,xB,strip])|((first | refine wIs fun K hK=>?_ | refine wOs fun K hK=>?_ | refine wQs fun K hK=>?_ | refine zT ?_ | refine zU ?_ | refine zV ?_ | refine zL ?_);simp [h0,h1,h12,h13,hlt,hw,he,he'])|(refine wIn ?_;refine And.intro (by kernel_rfl) ?_;try simp only [zX])|(first | refine zQ ?_ | refine zS ?_)|((first | refine zH ?_ | refine zO ?_ | refine zP ?_);try simp)|((first | refine zR ?_ | refine wOn ?_ | refine wQn ?_);try simp only [zX])|(refine And.intro (fun hc=>?_) (fun hc=>?_))
      · apply hr
        simp [Tryd.f13]
        intro h
        exact hc (hi.1 h).1
      · refine hL _ (N - 1) (by omega) ⟨k + 1, by omega, ?_⟩
        simp [h0,h1,h12,hw]
        rw [hi];simp [hc]
    · have hd : a.drop k = [] := List.drop_of_length_le (by omega)
      have hd' : b.drop k = []:=List.drop_of_length_le (by omega)
      rw [hd,hd'] at hi
      repeat' first|(refine hK _ ?_;clear hK)|(refine hK _ _ ?_;clear hK)|(clear hK;refine hK _ ?_;clear hK)|(clear hK;clear hK;refine hK _ ?_;clear hK)|(clear hK;clear hK;clear hK;refine hK _ ?_;clear hK)|(clear hK;clear hK;clear hK;clear hK;refine hK _ ?_;clear hK)|(refine zI fun K hK=>?_)|((first | refine zG ?_ | refine zN rfl (by kernel_rfl) ?_ | refine zM ?_ | refine zJ (by kernel_rfl) ?_);simp only [xC,xB,strip])|((first | refine wIs fun K hK=>?_ | refine wOs fun K hK=>?_ | refine wQs fun K hK=>?_ | refine zT ?_ | refine zU ?_ | refine zV ?_ | refine zL ?_);simp [h0,h1,h12,h13,hlt])|(refine wIn ?_;refine And.intro (by kernel_rfl) ?_;try simp only [zX])|(first | refine zQ ?_ | refine zS ?_)|((first | refine zH ?_ | refine zO ?_ | refine zP ?_);try simp)|((first | refine zR ?_ | refine wOn ?_ | refine wQn ?_);try simp only [zX])
      apply hr
      simp [Tryd.f13]
      simpa using hi
  · have hne : ¬ a = b := fun h => hl (by rw [h])
    have hl' : ¬ ((a.length : Int) = b.length):=by omega
    refine zK Tryd.tab Tryd.mixed Tryd.func13 rfl rfl Tryd.ntmps13 (by simp) (by simp) fun Q hr hn=>?_
    repeat' first|(refine hK _ ?_;clear hK)|(refine hK _ _ ?_;clear hK)|(clear hK;refine hK _ ?_;clear hK)|(clear hK;clear hK;refine hK _ ?_;clear hK)|(clear hK;clear hK;clear hK;refine hK _ ?_;clear hK)|(clear hK;clear hK;clear hK;clear hK;refine hK _ ?_;clear hK)|(refine zI fun K hK=>?_)|((first | refine zG ?_ | refine zN rfl (by kernel_rfl) ?_ | refine zM ?_ | refine zJ (by kernel_rfl) ?_);simp only [xC,xB,strip])|((first | refine wIs fun K hK=>?_ | refine wOs fun K hK=>?_ | refine wQs fun K hK=>?_ | refine zT ?_ | refine zU ?_ | refine zV ?_ | refine zL ?_);simp [hl,hl'])|(refine wIn ?_;refine And.intro (by kernel_rfl) ?_;try simp only [zX])|(first | refine zQ ?_ | refine zS ?_)|((first | refine zH ?_ | refine zO ?_ | refine zP ?_);try simp)|((first | refine zR ?_ | refine wOn ?_ | refine wQn ?_);try simp only [zX])
    all_goals apply hr
    all_goals simp [Tryd.f13,hne]
end Go.Proofs.YtjekjpgccnhobaaDoor
/- Configs: members found, who looks on; awake of layer 4. -/
namespace Go.Proofs.YtjekjpgccnhobaaDoor
set_option linter.unusedSimpArgs false
set_option linter.unusedVariables false
set_option maxRecDepth 8000
open Go Go.Av
attribute [local irreducible] Go.Av.CallK Go.Av.zZ Go.Av.CallQ Go.Av.zW Go.Av.CallR Go.Av.zY Go.Av.Con
def L04 : List UInt8 := [51, 46, 55, 32, 49, 32, 48, 112, 49, 103, 48, 32, 50, 111, 49, 103, 48]
def C04 : Cf := ⟨3, 7, 1, [⟨0, 1, 1, 0⟩, ⟨2, 2, 1, 0⟩]⟩
theorem prs04 : prsC L04 = C04 ∧ prsE L04 = 0 := ⟨by kernel_rfl, by kernel_rfl⟩
theorem txt04 : txtC C04 = L04 := by decide +kernel
theorem ids04 : ids C04.ms 1 = [0] := by decide +kernel
set_option maxHeartbeats 4000000 in
theorem awake04 : zD Tryd.prog 8 [] (.p (B true)) := by
  have c1:=parseC_con L04 (by decide)
  rw [prs04.1,prs04.2] at c1
  have c2:=textC_con C04 (by decide)
  rw [txt04] at c2
  have c3:=voters_con C04 (by decide)
  rw [ids04] at c3
  have c4:=ints01_con [0] [0]
  rw [decide_eq_true rfl] at c4
  simp only [L04,C04,Cf.cells,mbs,Mb.cells,ints,xC,xB] at c1 c2 c3 c4
  refine zK Tryd.tab Tryd.mixed Tryd.func8 rfl rfl Tryd.ntmps8 (by simp) (by simp) fun Q hr hn=>?_
  repeat' first|(refine hK _ ?_;clear hK)|(refine hK _ _ ?_;clear hK)|(clear hK;refine hK _ ?_;clear hK)|(clear hK;clear hK;refine hK _ ?_;clear hK)|(clear hK;clear hK;clear hK;refine hK _ ?_;clear hK)|(clear hK;clear hK;clear hK;clear hK;refine hK _ ?_;clear hK)|(refine zI fun K hK=>?_)|((first | refine zG ?_ | refine zN rfl (by kernel_rfl) ?_ | refine zM ?_ | refine zJ (by kernel_rfl) ?_);simp only [xC,xB,strip])|((first | refine wIs fun K hK=>?_ | refine wOs fun K hK=>?_ | refine wQs fun K hK=>?_ | refine zT ?_ | refine zU ?_ | refine zV ?_ | refine zL ?_);simp)|(refine wIn ?_;refine And.intro (by kernel_rfl) ?_;try simp only [zX])|(first | refine zQ ?_ | refine zS ?_)|((first | refine zH ?_ | refine zO ?_ | refine zP ?_);try simp)|((first | refine zR ?_ | refine wOn ?_ | refine wQn ?_);try simp only [zX])|(refine zZ.pure (c1) rfl ?_)|(refine zZ.lent (c1) rfl ?_)|(refine zW.pure (c1) rfl ?_)|(refine zW.lent (c1) rfl ?_)|(refine zZ.own (c1) ?_)|(refine zY.pure (c1) rfl ?_)|(refine zY.lent (c1) rfl ?_)|(refine zY.own (c1) ?_)|(refine zZ.pure (c2) rfl ?_)|(refine zZ.lent (c2) rfl ?_)|(refine zW.pure (c2) rfl ?_)|(refine zW.lent (c2) rfl ?_)|(refine zZ.own (c2) ?_)|(refine zY.pure (c2) rfl ?_)|(refine zY.lent (c2) rfl ?_)|(refine zY.own (c2) ?_)|(refine zZ.pure (c3) rfl ?_)|(refine zZ.lent (c3) rfl ?_)|(refine zW.pure (c3) rfl ?_)|(refine zW.lent (c3) rfl ?_)|(refine zZ.own (c3) ?_)|(refine zY.pure (c3) rfl ?_)|(refine zY.lent (c3) rfl ?_)|(refine zY.own (c3) ?_)|(refine zZ.pure (c4) rfl ?_)|(refine zZ.lent (c4) rfl ?_)|(refine zW.pure (c4) rfl ?_)|(refine zW.lent (c4) rfl ?_)|(refine zZ.own (c4) ?_)|(refine zY.pure (c4) rfl ?_)|(refine zY.lent (c4) rfl ?_)|(refine zY.own (c4) ?_)
  all_goals apply hr
  all_goals simp [Tryd.f8]
theorem far04_con (c : Cf) (hl : c.ms.length ≤ 9223372036854775807) : zD Tryd.prog 7 [.p (.agg c.cells)] (.p (B (decide (300 < c.ms.length)))) := by
  obtain ⟨ep,n,kind,l⟩:=c
  simp only [Cf.cells] at *
  by_cases h : 300 < l.length
  · have h' : (300 : Int) < l.length := by omega
    rw [decide_eq_true h]
    refine zK Tryd.tab Tryd.mixed Tryd.func7 rfl rfl Tryd.ntmps7 (by simp) (by simp) fun Q hr hn=>?_
    repeat' first|(refine hK _ ?_;clear hK)|(refine hK _ _ ?_;clear hK)|(clear hK;refine hK _ ?_;clear hK)|(clear hK;clear hK;refine hK _ ?_;clear hK)|(clear hK;clear hK;clear hK;refine hK _ ?_;clear hK)|(clear hK;clear hK;clear hK;clear hK;refine hK _ ?_;clear hK)|(refine zI fun K hK=>?_)|((first | refine zG ?_ | refine zN rfl (by kernel_rfl) ?_ | refine zM ?_ | refine zJ (by kernel_rfl) ?_);simp only [xC,xB,strip])|((first | refine wIs fun K hK=>?_ | refine wOs fun K hK=>?_ | refine wQs fun K hK=>?_ | refine zT ?_ | refine zU ?_ | refine zV ?_ | refine zL ?_);simp [h,h'])|(refine wIn ?_;refine And.intro (by kernel_rfl) ?_;try simp only [zX])|(first | refine zQ ?_ | refine zS ?_)|((first | refine zH ?_ | refine zO ?_ | refine zP ?_);try simp)|((first | refine zR ?_ | refine wOn ?_ | refine wQn ?_);try simp only [zX])
    all_goals apply hr
    all_goals simp [Tryd.f7,h]
  · have h' : ¬ (300 : Int) < l.length := by omega
    rw [decide_eq_false h]
    refine zK Tryd.tab Tryd.mixed Tryd.func7 rfl rfl Tryd.ntmps7 (by simp) (by simp) fun Q hr hn=>?_
    repeat' first|(refine hK _ ?_;clear hK)|(refine hK _ _ ?_;clear hK)|(clear hK;refine hK _ ?_;clear hK)|(clear hK;clear hK;refine hK _ ?_;clear hK)|(clear hK;clear hK;clear hK;refine hK _ ?_;clear hK)|(clear hK;clear hK;clear hK;clear hK;refine hK _ ?_;clear hK)|(refine zI fun K hK=>?_)|((first | refine zG ?_ | refine zN rfl (by kernel_rfl) ?_ | refine zM ?_ | refine zJ (by kernel_rfl) ?_);simp only [xC,xB,strip])|((first | refine wIs fun K hK=>?_ | refine wOs fun K hK=>?_ | refine wQs fun K hK=>?_ | refine zT ?_ | refine zU ?_ | refine zV ?_ | refine zL ?_);simp [h,h'])|(refine wIn ?_;refine And.intro (by kernel_rfl) ?_;try simp only [zX])|(first | refine zQ ?_ | refine zS ?_)|((first | refine zH ?_ | refine zO ?_ | refine zP ?_);try simp)|((first | refine zR ?_ | refine wOn ?_ | refine wQn ?_);try simp only [zX])
    all_goals apply hr
    all_goals simp [Tryd.f7,h]
end Go.Proofs.YtjekjpgccnhobaaDoor
/- States: when configs, lists of numbers, parts are the same. -/
namespace Go.Proofs.YtjekjpgccnhobaaDoor
set_option linter.unusedSimpArgs false
set_option linter.unusedVariables false
open Go Go.Av
attribute [local irreducible] Go.Av.CallK Go.Av.zZ Go.Av.CallQ Go.Av.zW Go.Av.CallR Go.Av.zY Go.Av.Con
theorem Mb.ext4 {x y : Mb} : x = y ↔ x.i = y.i ∧ x.r = y.r ∧ x.w = y.w ∧ x.g = y.g := by cases x; cases y; simp
theorem Cf.ext4 {x y : Cf} : x = y ↔ x.ep = y.ep ∧ x.n = y.n ∧ x.kind = y.kind ∧ x.ms = y.ms := by cases x; cases y; simp
instance : DecidableEq Cf := fun x y => decidable_of_iff _ Cf.ext4.symm
theorem cfSame04_con (a b : Cf) : zD Tryd.prog 20 [.p (.agg a.cells), .p (.agg b.cells)] (.p (B (decide (a = b)))) := by
  unfold Cf.cells
  refine zD.lenA ⟨Tryd.f20,Tryd.func20,rfl,rfl⟩ 0 3 4 (mbs a.ms) _ rfl rfl fun hlen=>?_
  simp only [mbs_len] at hlen
  by_cases o1 : a.ep = b.ep
  rotate_left
  · rw [decide_eq_false fun h => o1 (by rw [h])]
    refine zK Tryd.tab Tryd.mixed Tryd.func20 rfl rfl Tryd.ntmps20 (by simp) (by simp) fun Q hr hn=>?_
    repeat' first|(refine hK _ ?_;clear hK)|(refine hK _ _ ?_;clear hK)|(clear hK;refine hK _ ?_;clear hK)|(clear hK;clear hK;refine hK _ ?_;clear hK)|(clear hK;clear hK;clear hK;refine hK _ ?_;clear hK)|(clear hK;clear hK;clear hK;clear hK;refine hK _ ?_;clear hK)|(refine zI fun K hK=>?_)|((first | refine zG ?_ | refine zN rfl (by kernel_rfl) ?_ | refine zM ?_ | refine zJ (by kernel_rfl) ?_);simp only [xC,xB,strip])|((first | refine wIs fun K hK=>?_ | refine wOs fun K hK=>?_ | refine wQs fun K hK=>?_ | refine zT ?_ | refine zU ?_ | refine zV ?_ | refine zL ?_);simp [o1])|(refine wIn ?_;refine And.intro (by kernel_rfl) ?_;try simp only [zX])|(first | refine zQ ?_ | refine zS ?_)|((first | refine zH ?_ | refine zO ?_ | refine zP ?_);try simp)|((first | refine zR ?_ | refine wOn ?_ | refine wQn ?_);try simp only [zX])
    all_goals apply hr
    all_goals simp [Tryd.f20]
  by_cases o2 : a.n = b.n
  rotate_left
  · rw [decide_eq_false fun h => o2 (by rw [h])]
    refine zK Tryd.tab Tryd.mixed Tryd.func20 rfl rfl Tryd.ntmps20 (by simp) (by simp) fun Q hr hn=>?_
    repeat' first|(refine hK _ ?_;clear hK)|(refine hK _ _ ?_;clear hK)|(clear hK;refine hK _ ?_;clear hK)|(clear hK;clear hK;refine hK _ ?_;clear hK)|(clear hK;clear hK;clear hK;refine hK _ ?_;clear hK)|(clear hK;clear hK;clear hK;clear hK;refine hK _ ?_;clear hK)|(refine zI fun K hK=>?_)|((first | refine zG ?_ | refine zN rfl (by kernel_rfl) ?_ | refine zM ?_ | refine zJ (by kernel_rfl) ?_);simp only [xC,xB,strip])|((first | refine wIs fun K hK=>?_ | refine wOs fun K hK=>?_ | refine wQs fun K hK=>?_ | refine zT ?_ | refine zU ?_ | refine zV ?_ | refine zL ?_);simp [o1,o2])|(refine wIn ?_;refine And.intro (by kernel_rfl) ?_;try simp only [zX])|(first | refine zQ ?_ | refine zS ?_)|((first | refine zH ?_ | refine zO ?_ | refine zP ?_);try simp)|((first | refine zR ?_ | refine wOn ?_ | refine wQn ?_);try simp only [zX])
    all_goals apply hr
    all_goals simp [Tryd.f20]
  by_cases o3 : a.kind = b.kind
  rotate_left
  · rw [decide_eq_false fun h => o3 (by rw [h])]
    refine zK Tryd.tab Tryd.mixed Tryd.func20 rfl rfl Tryd.ntmps20 (by simp) (by simp) fun Q hr hn=>?_
    repeat' first|(refine hK _ ?_;clear hK)|(refine hK _ _ ?_;clear hK)|(clear hK;refine hK _ ?_;clear hK)|(clear hK;clear hK;refine hK _ ?_;clear hK)|(clear hK;clear hK;clear hK;refine hK _ ?_;clear hK)|(clear hK;clear hK;clear hK;clear hK;refine hK _ ?_;clear hK)|(refine zI fun K hK=>?_)|((first | refine zG ?_ | refine zN rfl (by kernel_rfl) ?_ | refine zM ?_ | refine zJ (by kernel_rfl) ?_);simp only [xC,xB,strip])|((first | refine wIs fun K hK=>?_ | refine wOs fun K hK=>?_ | refine wQs fun K hK=>?_ | refine zT ?_ | refine zU ?_ | refine zV ?_ | refine zL ?_);simp [o1,o2,o3])|(refine wIn ?_;refine And.intro (by kernel_rfl) ?_;try simp only [zX])|(first | refine zQ ?_ | refine zS ?_)|((first | refine zH ?_ | refine zO ?_ | refine zP ?_);try simp)|((first | refine zR ?_ | refine wOn ?_ | refine wQn ?_);try simp only [zX])
    all_goals apply hr
    all_goals simp [Tryd.f20]
  by_cases o4 : a.ms.length = b.ms.length
  rotate_left
  · rw [decide_eq_false fun h => o4 (by rw [h])]
    have o4' : ¬ (a.ms.length : Int) = b.ms.length:=by omega
    refine zK Tryd.tab Tryd.mixed Tryd.func20 rfl rfl Tryd.ntmps20 (by simp) (by simp) fun Q hr hn=>?_
    repeat' first|(refine hK _ ?_;clear hK)|(refine hK _ _ ?_;clear hK)|(clear hK;refine hK _ ?_;clear hK)|(clear hK;clear hK;refine hK _ ?_;clear hK)|(clear hK;clear hK;clear hK;refine hK _ ?_;clear hK)|(clear hK;clear hK;clear hK;clear hK;refine hK _ ?_;clear hK)|(refine zI fun K hK=>?_)|((first | refine zG ?_ | refine zN rfl (by kernel_rfl) ?_ | refine zM ?_ | refine zJ (by kernel_rfl) ?_);simp only [xC,xB,strip])|((first | refine wIs fun K hK=>?_ | refine wOs fun K hK=>?_ | refine wQs fun K hK=>?_ | refine zT ?_ | refine zU ?_ | refine zV ?_ | refine zL ?_);simp [o1,o2,o3,o4,o4'])|(refine wIn ?_;refine And.intro (by kernel_rfl) ?_;try simp only [zX])|(first | refine zQ ?_ | refine zS ?_)|((first | refine zH ?_ | refine zO ?_ | refine zP ?_);try simp)|((first | refine zR ?_ | refine wOn ?_ | refine wQn ?_);try simp only [zX])
    all_goals apply hr
    all_goals simp [Tryd.f20]
  have hd : (a = b) ↔ a.ms = b.ms:=by rw [Cf.ext4];simp [o1,o2,o3]
  refine zK Tryd.tab Tryd.mixed Tryd.func20 rfl rfl Tryd.ntmps20 (by simp) (by simp) fun Q hr hn=>?_
  repeat' first|(refine hK _ ?_;clear hK)|(refine hK _ _ ?_;clear hK)|(clear hK;refine hK _ ?_;clear hK)|(clear hK;clear hK;refine hK _ ?_;clear hK)|(clear hK;clear hK;clear hK;refine hK _ ?_;clear hK)|(clear hK;clear hK;clear hK;clear hK;refine hK _ ?_;clear hK)|(refine zI fun K hK=>?_)|((first | refine zG ?_ | refine zN rfl (by kernel_rfl) ?_ | refine zM ?_ | refine zJ (by kernel_rfl) ?_);simp only [xC,xB,strip])|((first | refine wIs fun K hK=>?_ | refine wOs fun K hK=>?_ | refine wQs fun K hK=>?_ | refine zT ?_ | refine zU ?_ | refine zV ?_ | refine zL ?_);simp [o1,o2,o3,o4])|(refine wIn ?_;refine And.intro (by kernel_rfl) ?_;try simp only [zX])|(first | refine zQ ?_ | refine zS ?_)|((first | refine zH ?_ | refine zO ?_ | refine zP ?_);try simp)|((first | refine zR ?_ | refine wOn ?_ | refine wQn ?_);try simp only [zX])
  refine wLoop (fun N st=>∃ k,k + N = a.ms.length ∧ st.s 2 = .ptr 2 0 ∧ st.s 3 = .ptr 3 0 ∧ st.s 29 = .p (I a.ms.length) ∧ st.s 30 = .p (I k) ∧ st.b 2 = some (.box 26 [.p (I a.ep),.p (I a.n),.p (I a.kind),.p (.sl 4 (mbs a.ms))]) ∧ st.b 3 = some (.box 26 [.p (I b.ep),.p (I b.n),.p (I b.kind),.p (.sl 4 (mbs b.ms))]) ∧ (a.ms = b.ms ↔ a.ms.drop k = b.ms.drop k)) a.ms.length ⟨0,by simp [o1,o2,o3,o4]⟩ fun K N st hL ⟨k,hk,g2,g3,g29,g30,b2,b3,hi⟩=>?_
  by_cases hlt : k < a.ms.length
  · have hlt' : k < b.ms.length := by omega
    have hw:=wrapS k _ hlt hlen
    have h1:=mbs_get hlt
    have h2:=mbs_get hlt'
    rw [List.drop_eq_getElem_cons hlt,List.drop_eq_getElem_cons hlt',List.cons.injEq,Mb.ext4] at hi
    by_cases o : a.ms[k].i = b.ms[k].i ∧ a.ms[k].r = b.ms[k].r ∧ a.ms[k].w = b.ms[k].w ∧ a.ms[k].g = b.ms[k].g
    · rw [and_iff_right o] at hi
      obtain ⟨q1,q2,q3,q4⟩:=o
      repeat' first|(refine hK _ ?_;clear hK)|(refine hK _ _ ?_;clear hK)|(clear hK;refine hK _ ?_;clear hK)|(clear hK;clear hK;refine hK _ ?_;clear hK)|(clear hK;clear hK;clear hK;refine hK _ ?_;clear hK)|(clear hK;clear hK;clear hK;clear hK;refine hK _ ?_;clear hK)|(refine zI fun K hK=>?_)|((first | refine zG ?_ | refine zN rfl (by kernel_rfl) ?_ | refine zM ?_ | refine zJ (by kernel_rfl) ?_);simp only [xC,xB,strip])|((first | refine wIs fun K hK=>?_ | refine wOs fun K hK=>?_ | refine wQs fun K hK=>?_ | refine zT ?_ | refine zU ?_ | refine zV ?_ | refine zL ?_);simp [g2,g3,g29,g30,b2,b3,hlt,hlt',hw,h1,h2,q1,q2,q3,q4])|(refine wIn ?_;refine And.intro (by kernel_rfl) ?_;try simp only [zX])|(first | refine zQ ?_ | refine zS ?_)|((first | refine zH ?_ | refine zO ?_ | refine zP ?_);try simp)|((first | refine zR ?_ | refine wOn ?_ | refine wQn ?_);try simp only [zX])
      refine hL _ (N - 1) (by omega) ⟨k + 1,by omega,?_⟩
      simp [g2,g3,g29,g30,b2,b3,hw,o1,o2,o3,o4]
      exact hi
    · rw [show decide (a = b) = false from decide_eq_false fun h => o (hi.1 (hd.1 h)).1] at hr
      repeat' first|(refine hK _ ?_;clear hK)|(refine hK _ _ ?_;clear hK)|(clear hK;refine hK _ ?_;clear hK)|(clear hK;clear hK;refine hK _ ?_;clear hK)|(clear hK;clear hK;clear hK;refine hK _ ?_;clear hK)|(clear hK;clear hK;clear hK;clear hK;refine hK _ ?_;clear hK)|(refine zI fun K hK=>?_)|((first | refine zG ?_ | refine zN rfl (by kernel_rfl) ?_ | refine zM ?_ | refine zJ (by kernel_rfl) ?_);simp only [xC,xB,strip])|((first | refine wIs fun K hK=>?_ | refine wOs fun K hK=>?_ | refine wQs fun K hK=>?_ | refine zT ?_ | refine zU ?_ | refine zV ?_ | refine zL ?_);simp [g2,g3,g29,g30,b2,b3,hlt,hlt',hw,h1,h2,o])|(refine wIn ?_;refine And.intro (by kernel_rfl) ?_;try simp only [zX])|(first | refine zQ ?_ | refine zS ?_)|((first | refine zH ?_ | refine zO ?_ | refine zP ?_);try simp)|((first | refine zR ?_ | refine wOn ?_ | refine wQn ?_);try simp only [zX])|(intro _)
      all_goals first | exact o | skip
      all_goals apply hr
      all_goals simp [Tryd.f20]
  · rw [List.drop_of_length_le (by omega), List.drop_of_length_le (by omega)] at hi
    rw [show decide (a = b) = true from decide_eq_true (hd.2 (hi.2 rfl))] at hr
    repeat' first|(refine hK _ ?_;clear hK)|(refine hK _ _ ?_;clear hK)|(clear hK;refine hK _ ?_;clear hK)|(clear hK;clear hK;refine hK _ ?_;clear hK)|(clear hK;clear hK;clear hK;refine hK _ ?_;clear hK)|(clear hK;clear hK;clear hK;clear hK;refine hK _ ?_;clear hK)|(refine zI fun K hK=>?_)|((first | refine zG ?_ | refine zN rfl (by kernel_rfl) ?_ | refine zM ?_ | refine zJ (by kernel_rfl) ?_);simp only [xC,xB,strip])|((first | refine wIs fun K hK=>?_ | refine wOs fun K hK=>?_ | refine wQs fun K hK=>?_ | refine zT ?_ | refine zU ?_ | refine zV ?_ | refine zL ?_);simp [g2,g3,g29,g30,b2,b3,hlt])|(refine wIn ?_;refine And.intro (by kernel_rfl) ?_;try simp only [zX])|(first | refine zQ ?_ | refine zS ?_)|((first | refine zH ?_ | refine zO ?_ | refine zP ?_);try simp)|((first | refine zR ?_ | refine wOn ?_ | refine wQn ?_);try simp only [zX])
    all_goals apply hr
    all_goals simp [Tryd.f20]
end Go.Proofs.YtjekjpgccnhobaaDoor
