/- Texts that the proof needs: CF3 CF4 I01 CF5. -/
import Derived.Test.YtjekjpgccnhobaaDoorP26ConfigChecks
import Derived.Test.YtjekjpgccnhobaaDoorP27ConfigChecks
import Derived.Test.YtjekjpgccnhobaaDoorP24ConfigChecks
/- Configs read from texts: the words, the whole. -/
namespace Go.Proofs.YtjekjpgccnhobaaDoor
set_option linter.unusedSimpArgs false
set_option linter.unusedVariables false
set_option maxRecDepth 8000
open Go Go.Av
attribute [local irreducible] Go.Av.CallK Go.Av.zZ Go.Av.CallQ Go.Av.zT Go.Av.CallR Go.Av.zY Go.Av.Con
def cf0 : Cf := ⟨0, 0, 0, []⟩
theorem zF.wkT2 [Glob] {P : Program} {g : FuncId} {args : List V} {p p' q : PV} (h : zF P g args (.tup [.p p, .p q])) (hw : Wk (.p p) (.p p')) : zF P g args (.tup [.p p', .p q]) := by
  unfold zF Con at h ⊢
  intro F w m xs hp hl ha
  refine (h F w m xs hp hl ha).mono fun en w' ⟨hk,ho⟩=>?_
  obtain ⟨x,m',he,hp',how,hnm,ys,hx,hs,hy⟩:=ho
  refine ⟨hk,x,m',he,hp',how,hnm,ys,hx,hs,fun i v hi=>?_⟩
  match i with
  | 0 =>
    simp at hi;subst hi
    obtain ⟨y,h1,h2⟩:=hy 0 (.p p) rfl
    exact ⟨y,h1,RV0.wk hw h2⟩
  | 1=>exact hy 1 v hi
  | i + 2=>simp at hi
theorem wkCf : Wk (.p (.agg [I 0, I 0, I 0, .v (.slice none 0 0)])) (.p (.agg cf0.cells)) := .agg _ _ ⟨.same _, .same _, .same _, .nil 4, trivial⟩
def hdB (a b : List UInt8) : Bool := decide (b.length = 1) && decide ((prs a).2 = 0 ∧ 0 ≤ numI b ∧ numR b = [])
def shpB : List (List UInt8) → Bool
  | a :: b :: l=>hdB a b && l.all memB
  | _=>false
def shpC : List (List UInt8) → Cf
  | a :: b :: l=>if (hdB a b && l.all memB) = true then ⟨(prs a).1.e,(prs a).1.n,numI b,l.map memM⟩ else cf0
  | _=>cf0
set_option maxHeartbeats 8000000 in
theorem shaped_con (ws : List (List UInt8)) (hl : ws.length ≤ 1000000) (hw : ∀ w ∈ ws, w.length ≤ 1000000) : zF Tryd.prog 35 [.p (.sl 1 (sts ws))] (.tup [.p (.agg (shpC ws).cells), .p (B (shpB ws))]) := by
  match ws with
  | [] =>
    simp only [shpC,shpB,sts,xH]
    refine zF.wkT2 ?_ wkCf
    refine zJ Tryd.tab Tryd.mixed Tryd.func35 rfl rfl Tryd.ntmps35 (by simp) (by simp) fun Q hr hn=>?_
    repeat' first|(refine hK _ ?_;clear hK)|(refine hK _ _ ?_;clear hK)|(clear hK;refine hK _ ?_;clear hK)|(clear hK;clear hK;refine hK _ ?_;clear hK)|(clear hK;clear hK;clear hK;refine hK _ ?_;clear hK)|(clear hK;clear hK;clear hK;clear hK;refine hK _ ?_;clear hK)|(refine zI fun K hK=>?_)|((first | refine zG ?_ | refine zN rfl (by kernel_rfl) ?_ | refine zM ?_ | refine zK (by kernel_rfl) ?_);simp only [xI,xH,strip])|((first | refine wIs fun K hK=>?_ | refine wOs fun K hK=>?_ | refine wQs fun K hK=>?_ | refine zU ?_ | refine zV ?_ | refine zW ?_ | refine zL ?_);simp)|(refine wIn ?_;refine And.intro (by kernel_rfl) ?_;try simp only [zX])|(first | refine zQ ?_ | refine zS ?_)|((first | refine zH ?_ | refine zO ?_ | refine zP ?_);try simp)|((first | refine zR ?_ | refine wOn ?_ | refine wQn ?_);try simp only [zX])
    all_goals apply hr
    all_goals simp [Tryd.f35,cf0,Cf.cells,mbs]
  | [a] =>
    simp only [shpC,shpB,sts,xH,xI]
    refine zF.wkT2 ?_ wkCf
    refine zJ Tryd.tab Tryd.mixed Tryd.func35 rfl rfl Tryd.ntmps35 (by simp) (by simp) fun Q hr hn=>?_
    repeat' first|(refine hK _ ?_;clear hK)|(refine hK _ _ ?_;clear hK)|(clear hK;refine hK _ ?_;clear hK)|(clear hK;clear hK;refine hK _ ?_;clear hK)|(clear hK;clear hK;clear hK;refine hK _ ?_;clear hK)|(clear hK;clear hK;clear hK;clear hK;refine hK _ ?_;clear hK)|(refine zI fun K hK=>?_)|((first | refine zG ?_ | refine zN rfl (by kernel_rfl) ?_ | refine zM ?_ | refine zK (by kernel_rfl) ?_);simp only [xI,xH,strip])|((first | refine wIs fun K hK=>?_ | refine wOs fun K hK=>?_ | refine wQs fun K hK=>?_ | refine zU ?_ | refine zV ?_ | refine zW ?_ | refine zL ?_);simp)|(refine wIn ?_;refine And.intro (by kernel_rfl) ?_;try simp only [zX])|(first | refine zQ ?_ | refine zS ?_)|((first | refine zH ?_ | refine zO ?_ | refine zP ?_);try simp)|((first | refine zR ?_ | refine wOn ?_ | refine wQn ?_);try simp only [zX])
    all_goals apply hr
    all_goals simp [Tryd.f35,cf0,Cf.cells,mbs]
  | a :: b :: l =>
  have c1:=parse_con a (by have:=hw a (by simp);omega)
  have c2:=cnum_con b (by have:=hw b (by simp);omega)
  have hlw : ∀ w ∈ l,w.length ≤ 1000000:=fun w h=>hw w (by simp [h])
  have hll : l.length ≤ 1000000:=by simp at hl;omega
  simp only [shpC,shpB]
  have hW : (sts (a :: b :: l)).length = l.length + 2:=by simp
  have h0 : (sts (a :: b :: l))[0]? = some [SB a]:=rfl
  have h1 : (sts (a :: b :: l))[1]? = some [SB b]:=rfl
  have h2 : (sts (a :: b :: l)).drop 2 = sts l:=rfl
  have h0' : ∀ h,(sts (a :: b :: l))[0]'h = [SB a]:=fun _=>rfl
  have h1' : ∀ h,(sts (a :: b :: l))[1]'h = [SB b]:=fun _=>rfl
  generalize sts (a :: b :: l) = W at *
  have h2' : (W.take (l.length + 2)).drop 2 = sts l:=by rw [← hW,List.take_length,h2]
  have g2 : ¬ l.length + 2 < 2:=by omega
  have g2' : ¬ ((l.length : Int) + 2 < 2):=by omega
  unfold hdB
  by_cases q1 : b.length = 1
  case neg =>
    have q1' : ¬ (b.length : Int) = 1:=by omega
    rw [decide_eq_false q1,Bool.false_and,Bool.false_and,if_neg (by decide)]
    refine zF.wkT2 ?_ wkCf
    refine zJ Tryd.tab Tryd.mixed Tryd.func35 rfl rfl Tryd.ntmps35 (by simp) (by simp) fun Q hr hn=>?_
    repeat' first|(refine hK _ ?_;clear hK)|(refine hK _ _ ?_;clear hK)|(clear hK;refine hK _ ?_;clear hK)|(clear hK;clear hK;refine hK _ ?_;clear hK)|(clear hK;clear hK;clear hK;refine hK _ ?_;clear hK)|(clear hK;clear hK;clear hK;clear hK;refine hK _ ?_;clear hK)|(refine zI fun K hK=>?_)|((first | refine zG ?_ | refine zN rfl (by kernel_rfl) ?_ | refine zM ?_ | refine zK (by kernel_rfl) ?_);simp only [xI,xH,strip])|((first | refine wIs fun K hK=>?_ | refine wOs fun K hK=>?_ | refine wQs fun K hK=>?_ | refine zU ?_ | refine zV ?_ | refine zW ?_ | refine zL ?_);simp [hW,h0,h1,h0',h1',g2,g2',q1,q1'])|(refine wIn ?_;refine And.intro (by kernel_rfl) ?_;try simp only [zX])|(first | refine zQ ?_ | refine zS ?_)|((first | refine zH ?_ | refine zO ?_ | refine zP ?_);try simp)|((first | refine zR ?_ | refine wOn ?_ | refine wQn ?_);try simp only [zX])
    all_goals apply hr
    all_goals simp [Tryd.f35,cf0,Cf.cells,mbs]
  have q1' : ((b.length : Int) = 1) = True:=eq_true (by omega)
  rw [decide_eq_true q1,Bool.true_and]
  generalize hpa : prs a = pa at *
  obtain ⟨⟨ze,zn⟩,pe⟩:=pa
  dsimp only at *
  generalize numI b = kd at *
  generalize numR b = rb at *
  by_cases q2 : pe = 0 ∧ 0 ≤ kd ∧ rb = []
  case neg =>
    rw [decide_eq_false q2,Bool.false_and,if_neg (by decide)]
    by_cases q3 : pe = 0
    case neg =>
      have q3':=eq_false q3
      refine zF.wkT2 ?_ wkCf
      refine zJ Tryd.tab Tryd.mixed Tryd.func35 rfl rfl Tryd.ntmps35 (by simp) (by simp) fun Q hr hn=>?_
      repeat' first|(refine hK _ ?_;clear hK)|(refine hK _ _ ?_;clear hK)|(clear hK;refine hK _ ?_;clear hK)|(clear hK;clear hK;refine hK _ ?_;clear hK)|(clear hK;clear hK;clear hK;refine hK _ ?_;clear hK)|(clear hK;clear hK;clear hK;clear hK;refine hK _ ?_;clear hK)|(refine zI fun K hK=>?_)|((first | refine zG ?_ | refine zN rfl (by kernel_rfl) ?_ | refine zM ?_ | refine zK (by kernel_rfl) ?_);simp only [xI,xH,strip])|((first | refine wIs fun K hK=>?_ | refine wOs fun K hK=>?_ | refine wQs fun K hK=>?_ | refine zU ?_ | refine zV ?_ | refine zW ?_ | refine zL ?_);simp [hW,h0,h1,h0',h1',g2,g2',q1,q1',q3'])|(refine wIn ?_;refine And.intro (by kernel_rfl) ?_;try simp only [zX])|(first | refine zQ ?_ | refine zS ?_)|((first | refine zH ?_ | refine zO ?_ | refine zP ?_);try simp)|((first | refine zR ?_ | refine wOn ?_ | refine wQn ?_);try simp only [zX])|(refine zZ.pure (c1) rfl ?_)|(refine zZ.lent (c1) rfl ?_)|(refine zT.pure (c1) rfl ?_)|(refine zT.lent (c1) rfl ?_)|(refine zZ.own (c1) ?_)|(refine zY.pure (c1) rfl ?_)|(refine zY.lent (c1) rfl ?_)|(refine zY.own (c1) ?_)|(refine zZ.pure (c2) rfl ?_)|(refine zZ.lent (c2) rfl ?_)|(refine zT.pure (c2) rfl ?_)|(refine zT.lent (c2) rfl ?_)|(refine zZ.own (c2) ?_)|(refine zY.pure (c2) rfl ?_)|(refine zY.lent (c2) rfl ?_)|(refine zY.own (c2) ?_)
      all_goals apply hr
      all_goals simp [Tryd.f35,cf0,Cf.cells,mbs]
    subst q3
    by_cases q4 : kd < 0
    · refine zF.wkT2 ?_ wkCf
      refine zJ Tryd.tab Tryd.mixed Tryd.func35 rfl rfl Tryd.ntmps35 (by simp) (by simp) fun Q hr hn=>?_
      repeat' first|(refine hK _ ?_;clear hK)|(refine hK _ _ ?_;clear hK)|(clear hK;refine hK _ ?_;clear hK)|(clear hK;clear hK;refine hK _ ?_;clear hK)|(clear hK;clear hK;clear hK;refine hK _ ?_;clear hK)|(clear hK;clear hK;clear hK;clear hK;refine hK _ ?_;clear hK)|(refine zI fun K hK=>?_)|((first | refine zG ?_ | refine zN rfl (by kernel_rfl) ?_ | refine zM ?_ | refine zK (by kernel_rfl) ?_);simp only [xI,xH,strip])|((first | refine wIs fun K hK=>?_ | refine wOs fun K hK=>?_ | refine wQs fun K hK=>?_ | refine zU ?_ | refine zV ?_ | refine zW ?_ | refine zL ?_);simp [hW,h0,h1,h0',h1',g2,g2',q1,q1',q4])|(refine wIn ?_;refine And.intro (by kernel_rfl) ?_;try simp only [zX])|(first | refine zQ ?_ | refine zS ?_)|((first | refine zH ?_ | refine zO ?_ | refine zP ?_);try simp)|((first | refine zR ?_ | refine wOn ?_ | refine wQn ?_);try simp only [zX])|(refine zZ.pure (c1) rfl ?_)|(refine zZ.lent (c1) rfl ?_)|(refine zT.pure (c1) rfl ?_)|(refine zT.lent (c1) rfl ?_)|(refine zZ.own (c1) ?_)|(refine zY.pure (c1) rfl ?_)|(refine zY.lent (c1) rfl ?_)|(refine zY.own (c1) ?_)|(refine zZ.pure (c2) rfl ?_)|(refine zZ.lent (c2) rfl ?_)|(refine zT.pure (c2) rfl ?_)|(refine zT.lent (c2) rfl ?_)|(refine zZ.own (c2) ?_)|(refine zY.pure (c2) rfl ?_)|(refine zY.lent (c2) rfl ?_)|(refine zY.own (c2) ?_)
      all_goals apply hr
      all_goals simp [Tryd.f35,cf0,Cf.cells,mbs]
    have q5 : ¬ rb = []:=fun h=>q2 ⟨rfl,by omega,h⟩
    · refine zF.wkT2 ?_ wkCf
      refine zJ Tryd.tab Tryd.mixed Tryd.func35 rfl rfl Tryd.ntmps35 (by simp) (by simp) fun Q hr hn=>?_
      repeat' first|(refine hK _ ?_;clear hK)|(refine hK _ _ ?_;clear hK)|(clear hK;refine hK _ ?_;clear hK)|(clear hK;clear hK;refine hK _ ?_;clear hK)|(clear hK;clear hK;clear hK;refine hK _ ?_;clear hK)|(clear hK;clear hK;clear hK;clear hK;refine hK _ ?_;clear hK)|(refine zI fun K hK=>?_)|((first | refine zG ?_ | refine zN rfl (by kernel_rfl) ?_ | refine zM ?_ | refine zK (by kernel_rfl) ?_);simp only [xI,xH,strip])|((first | refine wIs fun K hK=>?_ | refine wOs fun K hK=>?_ | refine wQs fun K hK=>?_ | refine zU ?_ | refine zV ?_ | refine zW ?_ | refine zL ?_);simp [hW,h0,h1,h0',h1',g2,g2',q1,q1',q4,q5])|(refine wIn ?_;refine And.intro (by kernel_rfl) ?_;try simp only [zX])|(first | refine zQ ?_ | refine zS ?_)|((first | refine zH ?_ | refine zO ?_ | refine zP ?_);try simp)|((first | refine zR ?_ | refine wOn ?_ | refine wQn ?_);try simp only [zX])|(refine zZ.pure (c1) rfl ?_)|(refine zZ.lent (c1) rfl ?_)|(refine zT.pure (c1) rfl ?_)|(refine zT.lent (c1) rfl ?_)|(refine zZ.own (c1) ?_)|(refine zY.pure (c1) rfl ?_)|(refine zY.lent (c1) rfl ?_)|(refine zY.own (c1) ?_)|(refine zZ.pure (c2) rfl ?_)|(refine zZ.lent (c2) rfl ?_)|(refine zT.pure (c2) rfl ?_)|(refine zT.lent (c2) rfl ?_)|(refine zZ.own (c2) ?_)|(refine zY.pure (c2) rfl ?_)|(refine zY.lent (c2) rfl ?_)|(refine zY.own (c2) ?_)
      all_goals apply hr
      all_goals simp [Tryd.f35,cf0,Cf.cells,mbs]
  rw [decide_eq_true q2,Bool.true_and]
  obtain ⟨rfl,q4,q5⟩:=q2
  have q4' : ¬ kd < 0:=by omega
  have hln : 2 ≤ l.length + 2:=by omega
  cases hx : l.all memB with
  | true =>
    rw [if_pos rfl]
    refine zJ Tryd.tab Tryd.mixed Tryd.func35 rfl rfl Tryd.ntmps35 (by simp) (by simp) fun Q hr hn=>?_
    repeat' first|(refine hK _ ?_;clear hK)|(refine hK _ _ ?_;clear hK)|(clear hK;refine hK _ ?_;clear hK)|(clear hK;clear hK;refine hK _ ?_;clear hK)|(clear hK;clear hK;clear hK;refine hK _ ?_;clear hK)|(clear hK;clear hK;clear hK;clear hK;refine hK _ ?_;clear hK)|(refine zI fun K hK=>?_)|((first | refine zG ?_ | refine zN rfl (by kernel_rfl) ?_ | refine zM ?_ | refine zK (by kernel_rfl) ?_);simp only [xI,xH,strip])|((first | refine wIs fun K hK=>?_ | refine wOs fun K hK=>?_ | refine wQs fun K hK=>?_ | refine zU ?_ | refine zV ?_ | refine zW ?_ | refine zL ?_);simp [hW,h0,h1,h0',h1',h2,g2,g2',q1,q1',q4',q5,hln])|(refine wIn ?_;refine And.intro (by kernel_rfl) ?_;try simp only [zX])|(first | refine zQ ?_ | refine zS ?_)|((first | refine zH ?_ | refine zO ?_ | refine zP ?_);try simp)|((first | refine zR ?_ | refine wOn ?_ | refine wQn ?_);try simp only [zX])|(refine zZ.pure (c1) rfl ?_)|(refine zZ.lent (c1) rfl ?_)|(refine zT.pure (c1) rfl ?_)|(refine zT.lent (c1) rfl ?_)|(refine zZ.own (c1) ?_)|(refine zY.pure (c1) rfl ?_)|(refine zY.lent (c1) rfl ?_)|(refine zY.own (c1) ?_)|(refine zZ.pure (c2) rfl ?_)|(refine zZ.lent (c2) rfl ?_)|(refine zT.pure (c2) rfl ?_)|(refine zT.lent (c2) rfl ?_)|(refine zZ.own (c2) ?_)|(refine zY.pure (c2) rfl ?_)|(refine zY.lent (c2) rfl ?_)|(refine zY.own (c2) ?_)
    refine wLoopG [.cel 8 3 71 30 4] (fun N st => ∃ k, k + N = l.length ∧ (l.take k).all memB = true ∧ st.s 2 = .ptr 2 0 ∧ st.b 2 = some (.box 26 [.p (I 0), .p (I 0), .p (I 0), .p (.v (.slice none 0 0))]) ∧ st.s 8 = .ptr 8 0 ∧ st.b 8 = some (.box 26 [.p (I ze), .p (I zn), .p (I kd), .row 71]) ∧ st.b 71 = some (.row 30 4 (mbs ((l.take k).map memM))) ∧
      st.s 53 = .p (.sl 1 (sts l)) ∧ st.s 54 = .p (I l.length) ∧ st.s 55 = .p (I k)) l.length ⟨0,by simp [frzL,gh1,mbs,h2,h2']⟩ fun K N st hL ⟨k,hk,hall,g2s,b2,g8,b8,b71,g53,g54,g55⟩=>?_
    by_cases hlt : k < l.length
    · have hwr := wrapS k _ hlt (by omega)
      have he:=sts_get hlt
      have c3:=member_con l[k] (hlw _ (List.getElem_mem hlt))
      have htk : l.take (k + 1) = l.take k ++ [l[k]]:=List.take_succ_eq_append_getElem hlt
      have hll2 : ((l.take k).map memM).length ≤ k:=by simp;omega
      have hF : ∀ h,(sts l)[k]'h = [SB l[k]]:=fun h=>by simp
      generalize hw0 : l[k] = w at *
      cases hm : memB w with
      | true =>
        rw [hm] at c3
        have ha : mbs ((l.take k).map memM) ++ [[I (memM w).i,I (memM w).r,I (memM w).w,I (memM w).g]] = mbs ((l.take (k + 1)).map memM):=by rw [htk];simp [mbs,Mb.cells]
        have hall2 : (l.take (k + 1)).all memB = true:=by rw [htk,List.all_append,hall];simp [hm]
        generalize memM w = m at *
        obtain ⟨mi,mr,mw,mg⟩:=m
        simp only [Mb.cells] at c3 ha
        generalize (l.take k).map memM = Y at *
        generalize hY2 : (l.take (k + 1)).map memM = Y2 at *
        repeat' first|(refine hK _ ?_;clear hK)|(refine hK _ _ ?_;clear hK)|(clear hK;refine hK _ ?_;clear hK)|(clear hK;clear hK;refine hK _ ?_;clear hK)|(clear hK;clear hK;clear hK;refine hK _ ?_;clear hK)|(clear hK;clear hK;clear hK;clear hK;refine hK _ ?_;clear hK)|(refine zI fun K hK=>?_)|((first | refine zG ?_ | refine zN rfl (by kernel_rfl) ?_ | refine zM ?_ | refine zK (by kernel_rfl) ?_);simp only [xI,xH,strip])|((first | refine wIs fun K hK=>?_ | refine wOs fun K hK=>?_ | refine wQs fun K hK=>?_ | refine zU ?_ | refine zV ?_ | refine zW ?_ | refine zL ?_);simp [g2s,b2,g8,b8,b71,g53,g54,g55,hlt,hwr,he,hw0,hF,ha])|(refine wIn ?_;refine And.intro (by kernel_rfl) ?_;try simp only [zX])|(first | refine zQ ?_ | refine zS ?_)|((first | refine zH ?_ | refine zO ?_ | refine zP ?_);try simp)|((first | refine zR ?_ | refine wOn ?_ | refine wQn ?_);try simp only [zX])|(refine zZ.pure (c3) rfl ?_)|(refine zZ.lent (c3) rfl ?_)|(refine zT.pure (c3) rfl ?_)|(refine zT.lent (c3) rfl ?_)|(refine zZ.own (c3) ?_)|(refine zY.pure (c3) rfl ?_)|(refine zY.lent (c3) rfl ?_)|(refine zY.own (c3) ?_)|(refine And.intro (by (try simp);omega) ?_)
        refine hL _ (N - 1) (by omega) ⟨k + 1,by omega,hall2,?_⟩
        simp [g2s,b2,g8,b8,b71,g53,g54,g55,hwr,ha,hY2]
      | false =>
        rw [hm] at c3
        have:=List.all_eq_true.1 hx w (hw0 ▸ List.getElem_mem hlt)
        rw [hm] at this;cases this
    · rw [List.take_of_length_le (by omega)] at hall b71
      generalize l.map memM = Y at *
      repeat' first|(refine hK _ ?_;clear hK)|(refine hK _ _ ?_;clear hK)|(clear hK;refine hK _ ?_;clear hK)|(clear hK;clear hK;refine hK _ ?_;clear hK)|(clear hK;clear hK;clear hK;refine hK _ ?_;clear hK)|(clear hK;clear hK;clear hK;clear hK;refine hK _ ?_;clear hK)|(refine zI fun K hK=>?_)|((first | refine zG ?_ | refine zN rfl (by kernel_rfl) ?_ | refine zM ?_ | refine zK (by kernel_rfl) ?_);simp only [xI,xH,strip])|((first | refine wIs fun K hK=>?_ | refine wOs fun K hK=>?_ | refine wQs fun K hK=>?_ | refine zU ?_ | refine zV ?_ | refine zW ?_ | refine zL ?_);simp [g2s,b2,g8,b8,b71,g53,g54,g55,hlt])|(refine wIn ?_;refine And.intro (by kernel_rfl) ?_;try simp only [zX])|(first | refine zQ ?_ | refine zS ?_)|((first | refine zH ?_ | refine zO ?_ | refine zP ?_);try simp)|((first | refine zR ?_ | refine wOn ?_ | refine wQn ?_);try simp only [zX])
      all_goals apply hr
      all_goals simp [Tryd.f35,Cf.cells,g2s,b2,b71]
  | false =>
    rw [if_neg (by decide)]
    refine zF.wkT2 ?_ wkCf
    refine zJ Tryd.tab Tryd.mixed Tryd.func35 rfl rfl Tryd.ntmps35 (by simp) (by simp) fun Q hr hn=>?_
    repeat' first|(refine hK _ ?_;clear hK)|(refine hK _ _ ?_;clear hK)|(clear hK;refine hK _ ?_;clear hK)|(clear hK;clear hK;refine hK _ ?_;clear hK)|(clear hK;clear hK;clear hK;refine hK _ ?_;clear hK)|(clear hK;clear hK;clear hK;clear hK;refine hK _ ?_;clear hK)|(refine zI fun K hK=>?_)|((first | refine zG ?_ | refine zN rfl (by kernel_rfl) ?_ | refine zM ?_ | refine zK (by kernel_rfl) ?_);simp only [xI,xH,strip])|((first | refine wIs fun K hK=>?_ | refine wOs fun K hK=>?_ | refine wQs fun K hK=>?_ | refine zU ?_ | refine zV ?_ | refine zW ?_ | refine zL ?_);simp [hW,h0,h1,h0',h1',h2,g2,g2',q1,q1',q4',q5,hln])|(refine wIn ?_;refine And.intro (by kernel_rfl) ?_;try simp only [zX])|(first | refine zQ ?_ | refine zS ?_)|((first | refine zH ?_ | refine zO ?_ | refine zP ?_);try simp)|((first | refine zR ?_ | refine wOn ?_ | refine wQn ?_);try simp only [zX])|(refine zZ.pure (c1) rfl ?_)|(refine zZ.lent (c1) rfl ?_)|(refine zT.pure (c1) rfl ?_)|(refine zT.lent (c1) rfl ?_)|(refine zZ.own (c1) ?_)|(refine zY.pure (c1) rfl ?_)|(refine zY.lent (c1) rfl ?_)|(refine zY.own (c1) ?_)|(refine zZ.pure (c2) rfl ?_)|(refine zZ.lent (c2) rfl ?_)|(refine zT.pure (c2) rfl ?_)|(refine zT.lent (c2) rfl ?_)|(refine zZ.own (c2) ?_)|(refine zY.pure (c2) rfl ?_)|(refine zY.lent (c2) rfl ?_)|(refine zY.own (c2) ?_)
    refine wLoopG [.cel 8 3 71 30 4] (fun N st => ∃ k, k + N = l.length ∧ (l.take k).all memB = true ∧ st.s 2 = .ptr 2 0 ∧ st.b 2 = some (.box 26 [.p (I 0), .p (I 0), .p (I 0), .p (.v (.slice none 0 0))]) ∧ st.s 8 = .ptr 8 0 ∧ st.b 8 = some (.box 26 [.p (I ze), .p (I zn), .p (I kd), .row 71]) ∧ st.b 71 = some (.row 30 4 (mbs ((l.take k).map memM))) ∧
      st.s 53 = .p (.sl 1 (sts l)) ∧ st.s 54 = .p (I l.length) ∧ st.s 55 = .p (I k)) l.length ⟨0,by simp [frzL,gh1,mbs,h2,h2']⟩ fun K N st hL ⟨k,hk,hall,g2s,b2,g8,b8,b71,g53,g54,g55⟩=>?_
    by_cases hlt : k < l.length
    · have hwr := wrapS k _ hlt (by omega)
      have he:=sts_get hlt
      have c3:=member_con l[k] (hlw _ (List.getElem_mem hlt))
      have htk : l.take (k + 1) = l.take k ++ [l[k]]:=List.take_succ_eq_append_getElem hlt
      have hll2 : ((l.take k).map memM).length ≤ k:=by simp;omega
      have hF : ∀ h,(sts l)[k]'h = [SB l[k]]:=fun h=>by simp
      generalize hw0 : l[k] = w at *
      cases hm : memB w with
      | true =>
        rw [hm] at c3
        have ha : mbs ((l.take k).map memM) ++ [[I (memM w).i,I (memM w).r,I (memM w).w,I (memM w).g]] = mbs ((l.take (k + 1)).map memM):=by rw [htk];simp [mbs,Mb.cells]
        have hall2 : (l.take (k + 1)).all memB = true:=by rw [htk,List.all_append,hall];simp [hm]
        generalize memM w = m at *
        obtain ⟨mi,mr,mw,mg⟩:=m
        simp only [Mb.cells] at c3 ha
        generalize (l.take k).map memM = Y at *
        generalize hY2 : (l.take (k + 1)).map memM = Y2 at *
        repeat' first|(refine hK _ ?_;clear hK)|(refine hK _ _ ?_;clear hK)|(clear hK;refine hK _ ?_;clear hK)|(clear hK;clear hK;refine hK _ ?_;clear hK)|(clear hK;clear hK;clear hK;refine hK _ ?_;clear hK)|(clear hK;clear hK;clear hK;clear hK;refine hK _ ?_;clear hK)|(refine zI fun K hK=>?_)|((first | refine zG ?_ | refine zN rfl (by kernel_rfl) ?_ | refine zM ?_ | refine zK (by kernel_rfl) ?_);simp only [xI,xH,strip])|((first | refine wIs fun K hK=>?_ | refine wOs fun K hK=>?_ | refine wQs fun K hK=>?_ | refine zU ?_ | refine zV ?_ | refine zW ?_ | refine zL ?_);simp [g2s,b2,g8,b8,b71,g53,g54,g55,hlt,hwr,he,hw0,hF,ha])|(refine wIn ?_;refine And.intro (by kernel_rfl) ?_;try simp only [zX])|(first | refine zQ ?_ | refine zS ?_)|((first | refine zH ?_ | refine zO ?_ | refine zP ?_);try simp)|((first | refine zR ?_ | refine wOn ?_ | refine wQn ?_);try simp only [zX])|(refine zZ.pure (c3) rfl ?_)|(refine zZ.lent (c3) rfl ?_)|(refine zT.pure (c3) rfl ?_)|(refine zT.lent (c3) rfl ?_)|(refine zZ.own (c3) ?_)|(refine zY.pure (c3) rfl ?_)|(refine zY.lent (c3) rfl ?_)|(refine zY.own (c3) ?_)|(refine And.intro (by (try simp);omega) ?_)
        refine hL _ (N - 1) (by omega) ⟨k + 1,by omega,hall2,?_⟩
        simp [g2s,b2,g8,b8,b71,g53,g54,g55,hwr,ha,hY2]
      | false =>
        rw [hm] at c3
        generalize memM w = m at *
        obtain ⟨mi,mr,mw,mg⟩:=m
        simp only [Mb.cells] at c3
        repeat' first|(refine hK _ ?_;clear hK)|(refine hK _ _ ?_;clear hK)|(clear hK;refine hK _ ?_;clear hK)|(clear hK;clear hK;refine hK _ ?_;clear hK)|(clear hK;clear hK;clear hK;refine hK _ ?_;clear hK)|(clear hK;clear hK;clear hK;clear hK;refine hK _ ?_;clear hK)|(refine zI fun K hK=>?_)|((first | refine zG ?_ | refine zN rfl (by kernel_rfl) ?_ | refine zM ?_ | refine zK (by kernel_rfl) ?_);simp only [xI,xH,strip])|((first | refine wIs fun K hK=>?_ | refine wOs fun K hK=>?_ | refine wQs fun K hK=>?_ | refine zU ?_ | refine zV ?_ | refine zW ?_ | refine zL ?_);simp [g2s,b2,g8,b8,b71,g53,g54,g55,hlt,hwr,he,hw0,hF])|(refine wIn ?_;refine And.intro (by kernel_rfl) ?_;try simp only [zX])|(first | refine zQ ?_ | refine zS ?_)|((first | refine zH ?_ | refine zO ?_ | refine zP ?_);try simp)|((first | refine zR ?_ | refine wOn ?_ | refine wQn ?_);try simp only [zX])|(refine zZ.pure (c3) rfl ?_)|(refine zZ.lent (c3) rfl ?_)|(refine zT.pure (c3) rfl ?_)|(refine zT.lent (c3) rfl ?_)|(refine zZ.own (c3) ?_)|(refine zY.pure (c3) rfl ?_)|(refine zY.lent (c3) rfl ?_)|(refine zY.own (c3) ?_)
        all_goals apply hr
        all_goals simp [Tryd.f35,cf0,Cf.cells,mbs,g2s,b2]
    · rw [List.take_of_length_le (by omega)] at hall
      rw [hx] at hall;cases hall
def prsC (s : List UInt8) : Cf := if shpB (spl s) = true then (if check (shpC (spl s)) = 0 then shpC (spl s) else cf0) else cf0
def prsE (s : List UInt8) : Int := if shpB (spl s) = true then check (shpC (spl s)) else 3
theorem spl_mem (s : List UInt8) : ∀ w ∈ spl s, w.length ≤ s.length := by
  induction s with
  | nil=>intro w hw;simp [spl] at hw;subst hw;simp
  | cons b l ih =>
    intro w hw
    unfold spl at hw
    split at hw
    · rcases List.mem_cons.1 hw with rfl | hw
      · simp
      · have:=ih w hw;simp;omega
    · split at hw
      · simp at hw;subst hw;simp
      · rename_i h t he
        rw [he] at ih
        rcases List.mem_cons.1 hw with rfl | hw
        · have:=ih h (by simp);simp;omega
        · have:=ih w (by simp [hw]);simp;omega
theorem shpC_len (ws : List (List UInt8)) : (shpC ws).ms.length ≤ ws.length := by
  match ws with
  | []=>simp [shpC,cf0]
  | [a]=>simp [shpC,cf0]
  | a :: b :: l =>
    simp only [shpC]
    split
    · simp;omega
    · simp [cf0]
set_option maxHeartbeats 4000000 in
theorem parseC_con (s : List UInt8) (hs : s.length ≤ 900000) : zF Tryd.prog 23 [.p (SB s)] (.tup [.p (.agg (prsC s).cells), .p (I (prsE s))]) := by
  have hsl:=spl_len s
  have hcl:=count_le s
  have c1:=split_con s (by omega)
  have c2:=shaped_con (spl s) (by omega) fun w hw=>by have:=spl_mem s w hw;omega
  have c3:=check_con (shpC (spl s)) (by have:=shpC_len (spl s);omega)
  unfold prsC prsE
  generalize shpC (spl s) = C at *
  cases hb : shpB (spl s) with
  | false =>
    rw [hb] at c2
    simp only [Bool.false_eq_true,if_false]
    generalize spl s = W at *
    clear c3
    refine zF.wkT2 ?_ wkCf
    unfold Cf.cells at *
    refine zJ Tryd.tab Tryd.mixed Tryd.func23 rfl rfl Tryd.ntmps23 (by simp) (by simp) fun Q hr hn=>?_
    repeat' first|(refine hK _ ?_;clear hK)|(refine hK _ _ ?_;clear hK)|(clear hK;refine hK _ ?_;clear hK)|(clear hK;clear hK;refine hK _ ?_;clear hK)|(clear hK;clear hK;clear hK;refine hK _ ?_;clear hK)|(clear hK;clear hK;clear hK;clear hK;refine hK _ ?_;clear hK)|(refine zI fun K hK=>?_)|((first | refine zG ?_ | refine zN rfl (by kernel_rfl) ?_ | refine zM ?_ | refine zK (by kernel_rfl) ?_);simp only [xI,xH,strip])|((first | refine wIs fun K hK=>?_ | refine wOs fun K hK=>?_ | refine wQs fun K hK=>?_ | refine zU ?_ | refine zV ?_ | refine zW ?_ | refine zL ?_);simp)|(refine wIn ?_;refine And.intro (by kernel_rfl) ?_;try simp only [zX])|(first | refine zQ ?_ | refine zS ?_)|((first | refine zH ?_ | refine zO ?_ | refine zP ?_);try simp)|((first | refine zR ?_ | refine wOn ?_ | refine wQn ?_);try simp only [zX])|(refine zZ.pure (c1) rfl ?_)|(refine zZ.lent (c1) rfl ?_)|(refine zT.pure (c1) rfl ?_)|(refine zT.lent (c1) rfl ?_)|(refine zZ.own (c1) ?_)|(refine zY.pure (c1) rfl ?_)|(refine zY.lent (c1) rfl ?_)|(refine zY.own (c1) ?_)|(refine zZ.pure (c2) rfl ?_)|(refine zZ.lent (c2) rfl ?_)|(refine zT.pure (c2) rfl ?_)|(refine zT.lent (c2) rfl ?_)|(refine zZ.own (c2) ?_)|(refine zY.pure (c2) rfl ?_)|(refine zY.lent (c2) rfl ?_)|(refine zY.own (c2) ?_)
    all_goals apply hr
    all_goals simp [Tryd.f23,mbs]
  | true =>
    rw [hb] at c2
    simp only [if_true]
    generalize check C = e at *
    generalize spl s = W at *
    by_cases he : e = 0
    · subst he
      rw [if_pos rfl]
      unfold Cf.cells at *
      refine zJ Tryd.tab Tryd.mixed Tryd.func23 rfl rfl Tryd.ntmps23 (by simp) (by simp) fun Q hr hn=>?_
      repeat' first|(refine hK _ ?_;clear hK)|(refine hK _ _ ?_;clear hK)|(clear hK;refine hK _ ?_;clear hK)|(clear hK;clear hK;refine hK _ ?_;clear hK)|(clear hK;clear hK;clear hK;refine hK _ ?_;clear hK)|(clear hK;clear hK;clear hK;clear hK;refine hK _ ?_;clear hK)|(refine zI fun K hK=>?_)|((first | refine zG ?_ | refine zN rfl (by kernel_rfl) ?_ | refine zM ?_ | refine zK (by kernel_rfl) ?_);simp only [xI,xH,strip])|((first | refine wIs fun K hK=>?_ | refine wOs fun K hK=>?_ | refine wQs fun K hK=>?_ | refine zU ?_ | refine zV ?_ | refine zW ?_ | refine zL ?_);simp)|(refine wIn ?_;refine And.intro (by kernel_rfl) ?_;try simp only [zX])|(first | refine zQ ?_ | refine zS ?_)|((first | refine zH ?_ | refine zO ?_ | refine zP ?_);try simp)|((first | refine zR ?_ | refine wOn ?_ | refine wQn ?_);try simp only [zX])|(refine zZ.pure (c1) rfl ?_)|(refine zZ.lent (c1) rfl ?_)|(refine zT.pure (c1) rfl ?_)|(refine zT.lent (c1) rfl ?_)|(refine zZ.own (c1) ?_)|(refine zY.pure (c1) rfl ?_)|(refine zY.lent (c1) rfl ?_)|(refine zY.own (c1) ?_)|(refine zZ.pure (c2) rfl ?_)|(refine zZ.lent (c2) rfl ?_)|(refine zT.pure (c2) rfl ?_)|(refine zT.lent (c2) rfl ?_)|(refine zZ.own (c2) ?_)|(refine zY.pure (c2) rfl ?_)|(refine zY.lent (c2) rfl ?_)|(refine zY.own (c2) ?_)|(refine zZ.pure (c3) rfl ?_)|(refine zZ.lent (c3) rfl ?_)|(refine zT.pure (c3) rfl ?_)|(refine zT.lent (c3) rfl ?_)|(refine zZ.own (c3) ?_)|(refine zY.pure (c3) rfl ?_)|(refine zY.lent (c3) rfl ?_)|(refine zY.own (c3) ?_)
      all_goals apply hr
      all_goals simp [Tryd.f23]
    · rw [if_neg he]
      have he':=eq_false he
      refine zF.wkT2 ?_ wkCf
      unfold Cf.cells at *
      refine zJ Tryd.tab Tryd.mixed Tryd.func23 rfl rfl Tryd.ntmps23 (by simp) (by simp) fun Q hr hn=>?_
      repeat' first|(refine hK _ ?_;clear hK)|(refine hK _ _ ?_;clear hK)|(clear hK;refine hK _ ?_;clear hK)|(clear hK;clear hK;refine hK _ ?_;clear hK)|(clear hK;clear hK;clear hK;refine hK _ ?_;clear hK)|(clear hK;clear hK;clear hK;clear hK;refine hK _ ?_;clear hK)|(refine zI fun K hK=>?_)|((first | refine zG ?_ | refine zN rfl (by kernel_rfl) ?_ | refine zM ?_ | refine zK (by kernel_rfl) ?_);simp only [xI,xH,strip])|((first | refine wIs fun K hK=>?_ | refine wOs fun K hK=>?_ | refine wQs fun K hK=>?_ | refine zU ?_ | refine zV ?_ | refine zW ?_ | refine zL ?_);simp [he'])|(refine wIn ?_;refine And.intro (by kernel_rfl) ?_;try simp only [zX])|(first | refine zQ ?_ | refine zS ?_)|((first | refine zH ?_ | refine zO ?_ | refine zP ?_);try simp)|((first | refine zR ?_ | refine wOn ?_ | refine wQn ?_);try simp only [zX])|(refine zZ.pure (c1) rfl ?_)|(refine zZ.lent (c1) rfl ?_)|(refine zT.pure (c1) rfl ?_)|(refine zT.lent (c1) rfl ?_)|(refine zZ.own (c1) ?_)|(refine zY.pure (c1) rfl ?_)|(refine zY.lent (c1) rfl ?_)|(refine zY.own (c1) ?_)|(refine zZ.pure (c2) rfl ?_)|(refine zZ.lent (c2) rfl ?_)|(refine zT.pure (c2) rfl ?_)|(refine zT.lent (c2) rfl ?_)|(refine zZ.own (c2) ?_)|(refine zY.pure (c2) rfl ?_)|(refine zY.lent (c2) rfl ?_)|(refine zY.own (c2) ?_)|(refine zZ.pure (c3) rfl ?_)|(refine zZ.lent (c3) rfl ?_)|(refine zT.pure (c3) rfl ?_)|(refine zT.lent (c3) rfl ?_)|(refine zZ.own (c3) ?_)|(refine zY.pure (c3) rfl ?_)|(refine zY.lent (c3) rfl ?_)|(refine zY.own (c3) ?_)
      all_goals apply hr
      all_goals simp [Tryd.f23,mbs]
/- Configs written as texts. -/
theorem check_all {c : Cf} (h : check c = 0) : ranged c ∧ fine (-1) c.ms = true ∧ yF c.kind c.ms = true := by
  unfold check at h
  split at h
  · split at h
    · split at h
      · exact ⟨‹_›,‹_›,‹_›⟩
      · exact absurd h (by decide)
    · exact absurd h (by decide)
  · exact absurd h (by decide)
theorem fine_all : ∀ (l : List Mb) (p : Int), fine p l = true → ∀ m ∈ l, okM m
  | [],_,_,m,hm=>by simp at hm
  | a :: l, p, h, m, hm => by
    unfold fine at h
    simp only [Bool.and_eq_true,decide_eq_true_eq] at h
    rcases List.mem_cons.1 hm with rfl | hm
    · exact h.1.1
    · exact fine_all l a.i h.2 m hm
def rolB (m : Mb) : UInt8 := if m.r = 2 then 111 else 112
def memT (m : Mb) : List UInt8 := 32 :: (xN m.i.toNat ++ (rolB m :: (xN m.w.toNat ++ (103 :: xN m.g.toNat))))
theorem decL_len (n : Nat) : (xN n).length ≤ 3 := by unfold xN; split <;> (try split) <;> simp
theorem memT_len (m : Mb) : (memT m).length ≤ 12 := by
  have:=decL_len m.i.toNat
  have:=decL_len m.w.toNat
  have:=decL_len m.g.toNat
  simp [memT];omega
theorem memsT_len (l : List Mb) : ((l.map memT).flatten).length ≤ 12 * l.length := by
  induction l with
  | nil=>simp
  | cons m l ih =>
    have:=memT_len m
    rw [xI,List.flatten_cons,List.length_append,List.length_cons]
    omega
theorem txt_len (z : Zx) : (txt z).length ≤ 27 := by
  unfold txt
  split
  · rename_i h
    have a:=itoa_len h.1
    have b:=itoa_len h.2
    simp;omega
  · simp
def hdT (c : Cf) : List UInt8 := txt ⟨c.ep, c.n⟩ ++ 32 :: xN c.kind.toNat
def txtC (c : Cf) : List UInt8 := if check c = 0 then hdT c ++ (c.ms.map memT).flatten else []
theorem decI_con {n : Int} (h0 : 0 ≤ n) (h : n < 1000) : zF Tryd.prog 34 [.p (I n)] (.p (SB (xN n.toNat))) := by
  have:=decimal_con n.toNat (by omega)
  rw [Int.toNat_of_nonneg h0] at this
  exact this
set_option maxHeartbeats 4000000 in
theorem textC_con (c : Cf) (hl : c.ms.length ≤ 100000) : zF Tryd.prog 22 [.p (.agg c.cells)] (.p (SB (txtC c))) := by
  have c1:=check_con c (by omega)
  unfold txtC
  by_cases hc : check c = 0
  case neg =>
    rw [if_neg hc]
    have hc':=eq_false hc
    generalize check c = e at *
    unfold Cf.cells at *
    refine zJ Tryd.tab Tryd.mixed Tryd.func22 rfl rfl Tryd.ntmps22 (by simp) (by simp) fun Q hr hn=>?_
    repeat' first|(refine hK _ ?_;clear hK)|(refine hK _ _ ?_;clear hK)|(clear hK;refine hK _ ?_;clear hK)|(clear hK;clear hK;refine hK _ ?_;clear hK)|(clear hK;clear hK;clear hK;refine hK _ ?_;clear hK)|(clear hK;clear hK;clear hK;clear hK;refine hK _ ?_;clear hK)|(refine zI fun K hK=>?_)|((first | refine zG ?_ | refine zN rfl (by kernel_rfl) ?_ | refine zM ?_ | refine zK (by kernel_rfl) ?_);simp only [xI,xH,strip])|((first | refine wIs fun K hK=>?_ | refine wOs fun K hK=>?_ | refine wQs fun K hK=>?_ | refine zU ?_ | refine zV ?_ | refine zW ?_ | refine zL ?_);simp [hc'])|(refine wIn ?_;refine And.intro (by kernel_rfl) ?_;try simp only [zX])|(first | refine zQ ?_ | refine zS ?_)|((first | refine zH ?_ | refine zO ?_ | refine zP ?_);try simp)|((first | refine zR ?_ | refine wOn ?_ | refine wQn ?_);try simp only [zX])|(refine zZ.pure (c1) rfl ?_)|(refine zZ.lent (c1) rfl ?_)|(refine zT.pure (c1) rfl ?_)|(refine zT.lent (c1) rfl ?_)|(refine zZ.own (c1) ?_)|(refine zY.pure (c1) rfl ?_)|(refine zY.lent (c1) rfl ?_)|(refine zY.own (c1) ?_)
    all_goals apply hr
    all_goals simp [Tryd.f22]
  rw [if_pos hc]
  rw [hc] at c1
  obtain ⟨hr1,hf,-⟩:=check_all hc
  have hok:=fine_all _ _ hf
  have c2:=text_con ⟨c.ep,c.n⟩
  have c3:=decI_con (n:=c.kind) (by have:=hr1.1;omega) (by have:=hr1.1;omega)
  have e111 : Utf8.encode 111 = bs [111]:=enc_asc (b:=111) (by decide)
  have e112 : Utf8.encode 112 = bs [112]:=enc_asc (b:=112) (by decide)
  unfold hdT
  clear hc hr1 hf
  obtain ⟨ep,n,kind,ms⟩:=c
  unfold Cf.cells at *
  dsimp only at *
  have hh : ∀ a b : List UInt8,a ++ 32 :: b = (a ++ [32]) ++ b:=fun a b=>by simp
  rw [hh]
  have z1:=txt_len ⟨ep,n⟩
  have z2:=decL_len kind.toNat
  generalize txt ⟨ep,n⟩ = tz at *
  generalize xN kind.toNat = tk at *
  refine zJ Tryd.tab Tryd.mixed Tryd.func22 rfl rfl Tryd.ntmps22 (by simp) (by simp) fun Q hr hn=>?_
  repeat' first|(refine hK _ ?_;clear hK)|(refine hK _ _ ?_;clear hK)|(clear hK;refine hK _ ?_;clear hK)|(clear hK;clear hK;refine hK _ ?_;clear hK)|(clear hK;clear hK;clear hK;refine hK _ ?_;clear hK)|(clear hK;clear hK;clear hK;clear hK;refine hK _ ?_;clear hK)|(refine zI fun K hK=>?_)|((first | refine zG ?_ | refine zN rfl (by kernel_rfl) ?_ | refine zM ?_ | refine zK (by kernel_rfl) ?_);simp only [xI,xH,strip])|((first | refine wIs fun K hK=>?_ | refine wOs fun K hK=>?_ | refine wQs fun K hK=>?_ | refine zU ?_ | refine zV ?_ | refine zW ?_ | refine zL ?_);simp)|(refine wIn ?_;refine And.intro (by kernel_rfl) ?_;try simp only [zX])|(first | refine zQ ?_ | refine zS ?_)|((first | refine zH ?_ | refine zO ?_ | refine zP ?_);try simp)|((first | refine zR ?_ | refine wOn ?_ | refine wQn ?_);try simp only [zX])|(refine zZ.pure (c1) rfl ?_)|(refine zZ.lent (c1) rfl ?_)|(refine zT.pure (c1) rfl ?_)|(refine zT.lent (c1) rfl ?_)|(refine zZ.own (c1) ?_)|(refine zY.pure (c1) rfl ?_)|(refine zY.lent (c1) rfl ?_)|(refine zY.own (c1) ?_)|(refine zZ.pure (c2) rfl ?_)|(refine zZ.lent (c2) rfl ?_)|(refine zT.pure (c2) rfl ?_)|(refine zT.lent (c2) rfl ?_)|(refine zZ.own (c2) ?_)|(refine zY.pure (c2) rfl ?_)|(refine zY.lent (c2) rfl ?_)|(refine zY.own (c2) ?_)|(refine zZ.pure (c3) rfl ?_)|(refine zZ.lent (c3) rfl ?_)|(refine zT.pure (c3) rfl ?_)|(refine zT.lent (c3) rfl ?_)|(refine zZ.own (c3) ?_)|(refine zY.pure (c3) rfl ?_)|(refine zY.lent (c3) rfl ?_)|(refine zY.own (c3) ?_)|(rw [if_pos (by (try simp only [List.length_append,List.length_cons,List.length_nil]);omega)])
  refine wLoop (fun N st=>∃ k,k + N = ms.length ∧ st.s 1 = .ptr 1 0 ∧ st.b 1 = some (.box 26 [.p (I ep),.p (I n),.p (I kind),.p (.sl 4 (mbs ms))]) ∧ st.s 3 = .p (SB (((tz ++ [32]) ++ tk) ++ ((ms.take k).map memT).flatten)) ∧ st.s 19 = .p (.sl 4 (mbs ms)) ∧ st.s 20 = .p (I ms.length) ∧ st.s 21 = .p (I k)) ms.length ⟨0,by simp⟩ fun K N st hL ⟨k,hk,g1,b1,g3,g19,g20,g21⟩=>?_
  by_cases hlt : k < ms.length
  · have hw := wrapS k _ hlt (by omega)
    have he:=mbs_get hlt
    obtain ⟨⟨o1,o2⟩,o3,⟨o4,o5⟩,o6,o7⟩:=hok _ (List.getElem_mem hlt)
    have d1:=decI_con o1 (by omega)
    have d2:=decI_con o4 (by omega)
    have d3:=decI_con o6 (by omega)
    have htk : ((ms.take (k + 1)).map memT).flatten = ((ms.take k).map memT).flatten ++ memT ms[k]:=by rw [List.take_succ_eq_append_getElem hlt,List.map_append,List.flatten_append];simp
    have v1:=decL_len ms[k].i.toNat
    have v2:=decL_len ms[k].w.toNat
    have v3:=decL_len ms[k].g.toNat
    have v4 : (((tz ++ [32]) ++ tk) ++ ((ms.take k).map memT).flatten).length ≤ 1300000 := by
      have:=memsT_len (ms.take k)
      rw [List.length_append,List.length_append,List.length_append]
      simp only [List.length_take,List.length_cons,List.length_nil] at this ⊢
      omega
    have htk2 : ((tz ++ [32]) ++ tk) ++ ((ms.take (k + 1)).map memT).flatten = (((tz ++ [32]) ++ tk) ++ ((ms.take k).map memT).flatten) ++ memT ms[k]:=by rw [htk,← List.append_assoc]
    have hmt : memT ms[k] = 32 :: (xN ms[k].i.toNat ++ ((if ms[k].r = 2 then 111 else 112) :: (xN ms[k].w.toNat ++ (103 :: xN ms[k].g.toNat)))):=rfl
    rw [hmt] at htk2
    clear hmt
    generalize hT2 : ((tz ++ [32]) ++ tk) ++ ((ms.take (k + 1)).map memT).flatten = T2 at *
    generalize ((tz ++ [32]) ++ tk) ++ ((ms.take k).map memT).flatten = T at *
    clear htk
    generalize hF : ms[k] = m at *
    generalize xN m.i.toNat = t1 at *
    generalize xN m.w.toNat = t2 at *
    generalize xN m.g.toNat = t3 at *
    by_cases hr2 : m.r = 2
    · rw [if_pos hr2] at htk2
      repeat' first|(refine hK _ ?_;clear hK)|(refine hK _ _ ?_;clear hK)|(clear hK;refine hK _ ?_;clear hK)|(clear hK;clear hK;refine hK _ ?_;clear hK)|(clear hK;clear hK;clear hK;refine hK _ ?_;clear hK)|(clear hK;clear hK;clear hK;clear hK;refine hK _ ?_;clear hK)|(refine zI fun K hK=>?_)|((first | refine zG ?_ | refine zN rfl (by kernel_rfl) ?_ | refine zM ?_ | refine zK (by kernel_rfl) ?_);simp only [xI,xH,strip])|((first | refine wIs fun K hK=>?_ | refine wOs fun K hK=>?_ | refine wQs fun K hK=>?_ | refine zU ?_ | refine zV ?_ | refine zW ?_ | refine zL ?_);simp [g1,b1,g3,g19,g20,g21,hlt,hw,he,hF,hr2,e111,e112])|(refine wIn ?_;refine And.intro (by kernel_rfl) ?_;try simp only [zX])|(first | refine zQ ?_ | refine zS ?_)|((first | refine zH ?_ | refine zO ?_ | refine zP ?_);try simp)|((first | refine zR ?_ | refine wOn ?_ | refine wQn ?_);try simp only [zX])|(refine zZ.pure (d1) rfl ?_)|(refine zZ.lent (d1) rfl ?_)|(refine zT.pure (d1) rfl ?_)|(refine zT.lent (d1) rfl ?_)|(refine zZ.own (d1) ?_)|(refine zY.pure (d1) rfl ?_)|(refine zY.lent (d1) rfl ?_)|(refine zY.own (d1) ?_)|(refine zZ.pure (d2) rfl ?_)|(refine zZ.lent (d2) rfl ?_)|(refine zT.pure (d2) rfl ?_)|(refine zT.lent (d2) rfl ?_)|(refine zZ.own (d2) ?_)|(refine zY.pure (d2) rfl ?_)|(refine zY.lent (d2) rfl ?_)|(refine zY.own (d2) ?_)|(refine zZ.pure (d3) rfl ?_)|(refine zZ.lent (d3) rfl ?_)|(refine zT.pure (d3) rfl ?_)|(refine zT.lent (d3) rfl ?_)|(refine zZ.own (d3) ?_)|(refine zY.pure (d3) rfl ?_)|(refine zY.lent (d3) rfl ?_)|(refine zY.own (d3) ?_)|(rw [if_pos (by (try simp only [List.length_append,List.length_cons,List.length_nil]);omega)])
      refine hL _ (N - 1) (by omega) ⟨k + 1,by omega,?_⟩
      rw [hT2,htk2];simp [g1,b1,g3,g19,g20,g21,hw]
    · rw [if_neg hr2] at htk2
      have hr2':=eq_false hr2
      repeat' first|(refine hK _ ?_;clear hK)|(refine hK _ _ ?_;clear hK)|(clear hK;refine hK _ ?_;clear hK)|(clear hK;clear hK;refine hK _ ?_;clear hK)|(clear hK;clear hK;clear hK;refine hK _ ?_;clear hK)|(clear hK;clear hK;clear hK;clear hK;refine hK _ ?_;clear hK)|(refine zI fun K hK=>?_)|((first | refine zG ?_ | refine zN rfl (by kernel_rfl) ?_ | refine zM ?_ | refine zK (by kernel_rfl) ?_);simp only [xI,xH,strip])|((first | refine wIs fun K hK=>?_ | refine wOs fun K hK=>?_ | refine wQs fun K hK=>?_ | refine zU ?_ | refine zV ?_ | refine zW ?_ | refine zL ?_);simp [g1,b1,g3,g19,g20,g21,hlt,hw,he,hF,hr2',e111,e112])|(refine wIn ?_;refine And.intro (by kernel_rfl) ?_;try simp only [zX])|(first | refine zQ ?_ | refine zS ?_)|((first | refine zH ?_ | refine zO ?_ | refine zP ?_);try simp)|((first | refine zR ?_ | refine wOn ?_ | refine wQn ?_);try simp only [zX])|(refine zZ.pure (d1) rfl ?_)|(refine zZ.lent (d1) rfl ?_)|(refine zT.pure (d1) rfl ?_)|(refine zT.lent (d1) rfl ?_)|(refine zZ.own (d1) ?_)|(refine zY.pure (d1) rfl ?_)|(refine zY.lent (d1) rfl ?_)|(refine zY.own (d1) ?_)|(refine zZ.pure (d2) rfl ?_)|(refine zZ.lent (d2) rfl ?_)|(refine zT.pure (d2) rfl ?_)|(refine zT.lent (d2) rfl ?_)|(refine zZ.own (d2) ?_)|(refine zY.pure (d2) rfl ?_)|(refine zY.lent (d2) rfl ?_)|(refine zY.own (d2) ?_)|(refine zZ.pure (d3) rfl ?_)|(refine zZ.lent (d3) rfl ?_)|(refine zT.pure (d3) rfl ?_)|(refine zT.lent (d3) rfl ?_)|(refine zZ.own (d3) ?_)|(refine zY.pure (d3) rfl ?_)|(refine zY.lent (d3) rfl ?_)|(refine zY.own (d3) ?_)|(rw [if_pos (by (try simp only [List.length_append,List.length_cons,List.length_nil]);omega)])
      refine hL _ (N - 1) (by omega) ⟨k + 1,by omega,?_⟩
      rw [hT2,htk2];simp [g1,b1,g3,g19,g20,g21,hw]
  · rw [List.take_of_length_le (by omega)] at g3
    generalize (ms.map memT).flatten = tt at *
    repeat' first|(refine hK _ ?_;clear hK)|(refine hK _ _ ?_;clear hK)|(clear hK;refine hK _ ?_;clear hK)|(clear hK;clear hK;refine hK _ ?_;clear hK)|(clear hK;clear hK;clear hK;refine hK _ ?_;clear hK)|(clear hK;clear hK;clear hK;clear hK;refine hK _ ?_;clear hK)|(refine zI fun K hK=>?_)|((first | refine zG ?_ | refine zN rfl (by kernel_rfl) ?_ | refine zM ?_ | refine zK (by kernel_rfl) ?_);simp only [xI,xH,strip])|((first | refine wIs fun K hK=>?_ | refine wOs fun K hK=>?_ | refine wQs fun K hK=>?_ | refine zU ?_ | refine zV ?_ | refine zW ?_ | refine zL ?_);simp [g1,b1,g3,g19,g20,g21,hlt])|(refine wIn ?_;refine And.intro (by kernel_rfl) ?_;try simp only [zX])|(first | refine zQ ?_ | refine zS ?_)|((first | refine zH ?_ | refine zO ?_ | refine zP ?_);try simp)|((first | refine zR ?_ | refine wOn ?_ | refine wQn ?_);try simp only [zX])
    all_goals apply hr
    all_goals simp [Tryd.f22]
end Go.Proofs.YtjekjpgccnhobaaDoor
/- When two lists of numbers are the same, by the document. -/
namespace Go.Proofs.YtjekjpgccnhobaaDoor
set_option linter.unusedSimpArgs false
set_option linter.unusedVariables false
open Go Go.Av
attribute [local irreducible] Go.Av.CallK Go.Av.zZ Go.Av.CallQ Go.Av.zT Go.Av.CallR Go.Av.zY Go.Av.Con
theorem ints01_con (a b : List Int) : zF Tryd.prog 13 [.p (.sl 1 (ints a)), .p (.sl 1 (ints b))] (.p (B (decide (a = b)))) := by
  refine zF.len ⟨Tryd.f13,Tryd.func13,rfl,rfl⟩ 0 _ _ rfl fun hlen=>?_
  simp only [ints_len] at hlen
  by_cases hl : a.length = b.length
  · refine zJ Tryd.tab Tryd.mixed Tryd.func13 rfl rfl Tryd.ntmps13 (by simp) (by simp) fun Q hr hn => ?_
    repeat' first|(refine hK _ ?_;clear hK)|(refine hK _ _ ?_;clear hK)|(clear hK;refine hK _ ?_;clear hK)|(clear hK;clear hK;refine hK _ ?_;clear hK)|(clear hK;clear hK;clear hK;refine hK _ ?_;clear hK)|(clear hK;clear hK;clear hK;clear hK;refine hK _ ?_;clear hK)|(refine zI fun K hK=>?_)|((first | refine zG ?_ | refine zN rfl (by kernel_rfl) ?_ | refine zM ?_ | refine zK (by kernel_rfl) ?_);simp only [xI,xH,strip])|((first | refine wIs fun K hK=>?_ | refine wOs fun K hK=>?_ | refine wQs fun K hK=>?_ | refine zU ?_ | refine zV ?_ | refine zW ?_ | refine zL ?_);simp [hl])|(refine wIn ?_;refine And.intro (by kernel_rfl) ?_;try simp only [zX])|(first | refine zQ ?_ | refine zS ?_)|((first | refine zH ?_ | refine zO ?_ | refine zP ?_);try simp)|((first | refine zR ?_ | refine wOn ?_ | refine wQn ?_);try simp only [zX])
    refine wLoop (fun N st=>∃ k,k + N = a.length ∧ st.s 0 = .p (.sl 1 (ints a)) ∧ st.s 1 = .p (.sl 1 (ints b)) ∧ st.s 12 = .p (I a.length) ∧ st.s 13 = .p (I k) ∧ (a = b ↔ a.drop k = b.drop k)) a.length ⟨0,by simp [hl]⟩ fun K N st hL ⟨k,hk,h0,h1,h12,h13,hi⟩=>?_
    by_cases hlt : k < a.length
    · have hw := wrapS k _ hlt hlen
      have he:=ints_get hlt
      have he':=ints_get (l:=b) (k:=k) (by omega)
      rw [List.drop_eq_getElem_cons hlt,List.drop_eq_getElem_cons (l:=b) (by omega),List.cons.injEq] at hi
      repeat' first|(refine hK _ ?_;clear hK)|(refine hK _ _ ?_;clear hK)|(clear hK;refine hK _ ?_;clear hK)|(clear hK;clear hK;refine hK _ ?_;clear hK)|(clear hK;clear hK;clear hK;refine hK _ ?_;clear hK)|(clear hK;clear hK;clear hK;clear hK;refine hK _ ?_;clear hK)|(refine zI fun K hK=>?_)|((first | refine zG ?_ | refine zN rfl (by kernel_rfl) ?_ | refine zM ?_ | refine zK (by kernel_rfl) ?_);simp only [xI,xH,strip])|((first | refine wIs fun K hK=>?_ | refine wOs fun K hK=>?_ | refine wQs fun K hK=>?_ | refine zU ?_ | refine zV ?_ | refine zW ?_ | refine zL ?_);simp [h0,h1,h12,h13,hlt,hw,he,he'])|(refine wIn ?_;refine And.intro (by kernel_rfl) ?_;try simp only [zX])|(first | refine zQ ?_ | refine zS ?_)|((first | refine zH ?_ | refine zO ?_ | refine zP ?_);try simp)|((first | refine zR ?_ | refine wOn ?_ | refine wQn ?_);try simp only [zX])|(refine And.intro (fun hc=>?_) (fun hc=>?_))
      · apply hr
        simp [Tryd.f13]
        intro h
        exact hc (hi.1 h).1
      · refine hL _ (N - 1) (by omega) ⟨k + 1, by omega, ?_⟩
        simp [h0,h1,h12,hw]
        rw [hi];simp [hc]
    · have hd : a.drop k = [] := List.drop_of_length_le (by omega)
      have hd' : b.drop k = []:=List.drop_of_length_le (by omega)
      rw [hd,hd'] at hi
      repeat' first|(refine hK _ ?_;clear hK)|(refine hK _ _ ?_;clear hK)|(clear hK;refine hK _ ?_;clear hK)|(clear hK;clear hK;refine hK _ ?_;clear hK)|(clear hK;clear hK;clear hK;refine hK _ ?_;clear hK)|(clear hK;clear hK;clear hK;clear hK;refine hK _ ?_;clear hK)|(refine zI fun K hK=>?_)|((first | refine zG ?_ | refine zN rfl (by kernel_rfl) ?_ | refine zM ?_ | refine zK (by kernel_rfl) ?_);simp only [xI,xH,strip])|((first | refine wIs fun K hK=>?_ | refine wOs fun K hK=>?_ | refine wQs fun K hK=>?_ | refine zU ?_ | refine zV ?_ | refine zW ?_ | refine zL ?_);simp [h0,h1,h12,h13,hlt])|(refine wIn ?_;refine And.intro (by kernel_rfl) ?_;try simp only [zX])|(first | refine zQ ?_ | refine zS ?_)|((first | refine zH ?_ | refine zO ?_ | refine zP ?_);try simp)|((first | refine zR ?_ | refine wOn ?_ | refine wQn ?_);try simp only [zX])
      apply hr
      simp [Tryd.f13]
      simpa using hi
  · have hne : ¬ a = b := fun h => hl (by rw [h])
    have hl' : ¬ ((a.length : Int) = b.length):=by omega
    refine zJ Tryd.tab Tryd.mixed Tryd.func13 rfl rfl Tryd.ntmps13 (by simp) (by simp) fun Q hr hn=>?_
    repeat' first|(refine hK _ ?_;clear hK)|(refine hK _ _ ?_;clear hK)|(clear hK;refine hK _ ?_;clear hK)|(clear hK;clear hK;refine hK _ ?_;clear hK)|(clear hK;clear hK;clear hK;refine hK _ ?_;clear hK)|(clear hK;clear hK;clear hK;clear hK;refine hK _ ?_;clear hK)|(refine zI fun K hK=>?_)|((first | refine zG ?_ | refine zN rfl (by kernel_rfl) ?_ | refine zM ?_ | refine zK (by kernel_rfl) ?_);simp only [xI,xH,strip])|((first | refine wIs fun K hK=>?_ | refine wOs fun K hK=>?_ | refine wQs fun K hK=>?_ | refine zU ?_ | refine zV ?_ | refine zW ?_ | refine zL ?_);simp [hl,hl'])|(refine wIn ?_;refine And.intro (by kernel_rfl) ?_;try simp only [zX])|(first | refine zQ ?_ | refine zS ?_)|((first | refine zH ?_ | refine zO ?_ | refine zP ?_);try simp)|((first | refine zR ?_ | refine wOn ?_ | refine wQn ?_);try simp only [zX])
    all_goals apply hr
    all_goals simp [Tryd.f13,hne]
end Go.Proofs.YtjekjpgccnhobaaDoor
/- Configs: members found, who looks on; awake of layer 4. -/
namespace Go.Proofs.YtjekjpgccnhobaaDoor
set_option linter.unusedSimpArgs false
set_option linter.unusedVariables false
set_option maxRecDepth 8000
open Go Go.Av
attribute [local irreducible] Go.Av.CallK Go.Av.zZ Go.Av.CallQ Go.Av.zT Go.Av.CallR Go.Av.zY Go.Av.Con
def fm (id : Int) : List Mb → Mb × Bool
  | []=>(⟨0,0,0,0⟩,false)
  | m :: l=>if m.i = id then (m,true) else fm id l
theorem find04_con (c : Cf) (id : Int) (hl : c.ms.length ≤ 1000000) : zF Tryd.prog 10 [.p (.agg c.cells), .p (I id)] (.tup [.p (.agg (fm id c.ms).1.cells), .p (B (fm id c.ms).2)]) := by
  obtain ⟨ep,n,kind,l⟩:=c
  simp only [Cf.cells] at hl ⊢
  refine zJ Tryd.tab Tryd.mixed Tryd.func10 rfl rfl Tryd.ntmps10 (by simp) (by simp) fun Q hr hn=>?_
  repeat' first|(refine hK _ ?_;clear hK)|(refine hK _ _ ?_;clear hK)|(clear hK;refine hK _ ?_;clear hK)|(clear hK;clear hK;refine hK _ ?_;clear hK)|(clear hK;clear hK;clear hK;refine hK _ ?_;clear hK)|(clear hK;clear hK;clear hK;clear hK;refine hK _ ?_;clear hK)|(refine zI fun K hK=>?_)|((first | refine zG ?_ | refine zN rfl (by kernel_rfl) ?_ | refine zM ?_ | refine zK (by kernel_rfl) ?_);simp only [xI,xH,strip])|((first | refine wIs fun K hK=>?_ | refine wOs fun K hK=>?_ | refine wQs fun K hK=>?_ | refine zU ?_ | refine zV ?_ | refine zW ?_ | refine zL ?_);simp)|(refine wIn ?_;refine And.intro (by kernel_rfl) ?_;try simp only [zX])|(first | refine zQ ?_ | refine zS ?_)|((first | refine zH ?_ | refine zO ?_ | refine zP ?_);try simp)|((first | refine zR ?_ | refine wOn ?_ | refine wQn ?_);try simp only [zX])
  refine wLoop (fun N st=>∃ (k : Nat),k + N = l.length ∧ st.s 1 = .p (I id) ∧ st.s 4 = .ptr 4 0 ∧ st.b 4 = some (.box 30 [.p (I 0),.p (I 0),.p (I 0),.p (I 0)]) ∧ st.s 9 = .p (.sl 4 (mbs l)) ∧ st.s 10 = .p (I l.length) ∧ st.s 11 = .p (I k) ∧ fm id (l.drop k) = fm id l) l.length ⟨0,by simp⟩ fun K N st hL ⟨k,hk,h1,h4,b4,h9,h10,h11,hi⟩=>?_
  by_cases hlt : k < l.length
  · have hw := wrapS k _ hlt (by omega)
    rw [List.drop_eq_getElem_cons hlt,fm] at hi
    by_cases o : l[k].i = id
    · rw [if_pos o] at hi
      repeat' first|(refine hK _ ?_;clear hK)|(refine hK _ _ ?_;clear hK)|(clear hK;refine hK _ ?_;clear hK)|(clear hK;clear hK;refine hK _ ?_;clear hK)|(clear hK;clear hK;clear hK;refine hK _ ?_;clear hK)|(clear hK;clear hK;clear hK;clear hK;refine hK _ ?_;clear hK)|(refine zI fun K hK=>?_)|((first | refine zG ?_ | refine zN rfl (by kernel_rfl) ?_ | refine zM ?_ | refine zK (by kernel_rfl) ?_);simp only [xI,xH,strip])|((first | refine wIs fun K hK=>?_ | refine wOs fun K hK=>?_ | refine wQs fun K hK=>?_ | refine zU ?_ | refine zV ?_ | refine zW ?_ | refine zL ?_);simp [h1,h4,b4,h9,h10,h11,hlt,hw,o])|(refine wIn ?_;refine And.intro (by kernel_rfl) ?_;try simp only [zX])|(first | refine zQ ?_ | refine zS ?_)|((first | refine zH ?_ | refine zO ?_ | refine zP ?_);try simp)|((first | refine zR ?_ | refine wOn ?_ | refine wQn ?_);try simp only [zX])
      all_goals apply hr
      all_goals rw [← hi]
      all_goals simp [Tryd.f10,Mb.cells,o,h4,b4]
    · rw [if_neg o] at hi
      repeat' first|(refine hK _ ?_;clear hK)|(refine hK _ _ ?_;clear hK)|(clear hK;refine hK _ ?_;clear hK)|(clear hK;clear hK;refine hK _ ?_;clear hK)|(clear hK;clear hK;clear hK;refine hK _ ?_;clear hK)|(clear hK;clear hK;clear hK;clear hK;refine hK _ ?_;clear hK)|(refine zI fun K hK=>?_)|((first | refine zG ?_ | refine zN rfl (by kernel_rfl) ?_ | refine zM ?_ | refine zK (by kernel_rfl) ?_);simp only [xI,xH,strip])|((first | refine wIs fun K hK=>?_ | refine wOs fun K hK=>?_ | refine wQs fun K hK=>?_ | refine zU ?_ | refine zV ?_ | refine zW ?_ | refine zL ?_);simp [h1,h4,b4,h9,h10,h11,hlt,hw,o])|(refine wIn ?_;refine And.intro (by kernel_rfl) ?_;try simp only [zX])|(first | refine zQ ?_ | refine zS ?_)|((first | refine zH ?_ | refine zO ?_ | refine zP ?_);try simp)|((first | refine zR ?_ | refine wOn ?_ | refine wQn ?_);try simp only [zX])
      refine hL _ (N - 1) (by omega) ⟨k + 1,by omega,?_⟩
      simp [h1,h4,b4,h9,h10,hw,hi]
  · rw [List.drop_of_length_le (by omega), fm] at hi
    repeat' first|(refine hK _ ?_;clear hK)|(refine hK _ _ ?_;clear hK)|(clear hK;refine hK _ ?_;clear hK)|(clear hK;clear hK;refine hK _ ?_;clear hK)|(clear hK;clear hK;clear hK;refine hK _ ?_;clear hK)|(clear hK;clear hK;clear hK;clear hK;refine hK _ ?_;clear hK)|(refine zI fun K hK=>?_)|((first | refine zG ?_ | refine zN rfl (by kernel_rfl) ?_ | refine zM ?_ | refine zK (by kernel_rfl) ?_);simp only [xI,xH,strip])|((first | refine wIs fun K hK=>?_ | refine wOs fun K hK=>?_ | refine wQs fun K hK=>?_ | refine zU ?_ | refine zV ?_ | refine zW ?_ | refine zL ?_);simp [h1,h4,b4,h9,h10,h11,hlt])|(refine wIn ?_;refine And.intro (by kernel_rfl) ?_;try simp only [zX])|(first | refine zQ ?_ | refine zS ?_)|((first | refine zH ?_ | refine zO ?_ | refine zP ?_);try simp)|((first | refine zR ?_ | refine wOn ?_ | refine wQn ?_);try simp only [zX])
    apply hr
    rw [← hi]
    simp [Tryd.f10,Mb.cells,h4,b4]
theorem find_con (c : Cf) (id : Int) (hl : c.ms.length ≤ 1000000) : zF Tryd.prog 9 [.p (.agg c.cells), .p (I id)] (.tup [.p (.agg (fm id c.ms).1.cells), .p (B (fm id c.ms).2)]) := by
  obtain ⟨ep,n,kind,l⟩:=c
  simp only [Cf.cells] at hl ⊢
  refine zJ Tryd.tab Tryd.mixed Tryd.func9 rfl rfl Tryd.ntmps9 (by simp) (by simp) fun Q hr hn=>?_
  repeat' first|(refine hK _ ?_;clear hK)|(refine hK _ _ ?_;clear hK)|(clear hK;refine hK _ ?_;clear hK)|(clear hK;clear hK;refine hK _ ?_;clear hK)|(clear hK;clear hK;clear hK;refine hK _ ?_;clear hK)|(clear hK;clear hK;clear hK;clear hK;refine hK _ ?_;clear hK)|(refine zI fun K hK=>?_)|((first | refine zG ?_ | refine zN rfl (by kernel_rfl) ?_ | refine zM ?_ | refine zK (by kernel_rfl) ?_);simp only [xI,xH,strip])|((first | refine wIs fun K hK=>?_ | refine wOs fun K hK=>?_ | refine wQs fun K hK=>?_ | refine zU ?_ | refine zV ?_ | refine zW ?_ | refine zL ?_);simp)|(refine wIn ?_;refine And.intro (by kernel_rfl) ?_;try simp only [zX])|(first | refine zQ ?_ | refine zS ?_)|((first | refine zH ?_ | refine zO ?_ | refine zP ?_);try simp)|((first | refine zR ?_ | refine wOn ?_ | refine wQn ?_);try simp only [zX])
  refine wLoop (fun N st=>∃ (k : Nat),k + N = l.length ∧ st.s 1 = .p (I id) ∧ st.s 4 = .ptr 4 0 ∧ st.b 4 = some (.box 30 [.p (I 0),.p (I 0),.p (I 0),.p (I 0)]) ∧ st.s 9 = .p (.sl 4 (mbs l)) ∧ st.s 10 = .p (I l.length) ∧ st.s 11 = .p (I k) ∧ fm id (l.drop k) = fm id l) l.length ⟨0,by simp⟩ fun K N st hL ⟨k,hk,h1,h4,b4,h9,h10,h11,hi⟩=>?_
  by_cases hlt : k < l.length
  · have hw := wrapS k _ hlt (by omega)
    rw [List.drop_eq_getElem_cons hlt,fm] at hi
    by_cases o : l[k].i = id
    · rw [if_pos o] at hi
      repeat' first|(refine hK _ ?_;clear hK)|(refine hK _ _ ?_;clear hK)|(clear hK;refine hK _ ?_;clear hK)|(clear hK;clear hK;refine hK _ ?_;clear hK)|(clear hK;clear hK;clear hK;refine hK _ ?_;clear hK)|(clear hK;clear hK;clear hK;clear hK;refine hK _ ?_;clear hK)|(refine zI fun K hK=>?_)|((first | refine zG ?_ | refine zN rfl (by kernel_rfl) ?_ | refine zM ?_ | refine zK (by kernel_rfl) ?_);simp only [xI,xH,strip])|((first | refine wIs fun K hK=>?_ | refine wOs fun K hK=>?_ | refine wQs fun K hK=>?_ | refine zU ?_ | refine zV ?_ | refine zW ?_ | refine zL ?_);simp [h1,h4,b4,h9,h10,h11,hlt,hw,o])|(refine wIn ?_;refine And.intro (by kernel_rfl) ?_;try simp only [zX])|(first | refine zQ ?_ | refine zS ?_)|((first | refine zH ?_ | refine zO ?_ | refine zP ?_);try simp)|((first | refine zR ?_ | refine wOn ?_ | refine wQn ?_);try simp only [zX])
      all_goals apply hr
      all_goals rw [← hi]
      all_goals simp [Tryd.f9,Mb.cells,o,h4,b4]
    · rw [if_neg o] at hi
      repeat' first|(refine hK _ ?_;clear hK)|(refine hK _ _ ?_;clear hK)|(clear hK;refine hK _ ?_;clear hK)|(clear hK;clear hK;refine hK _ ?_;clear hK)|(clear hK;clear hK;clear hK;refine hK _ ?_;clear hK)|(clear hK;clear hK;clear hK;clear hK;refine hK _ ?_;clear hK)|(refine zI fun K hK=>?_)|((first | refine zG ?_ | refine zN rfl (by kernel_rfl) ?_ | refine zM ?_ | refine zK (by kernel_rfl) ?_);simp only [xI,xH,strip])|((first | refine wIs fun K hK=>?_ | refine wOs fun K hK=>?_ | refine wQs fun K hK=>?_ | refine zU ?_ | refine zV ?_ | refine zW ?_ | refine zL ?_);simp [h1,h4,b4,h9,h10,h11,hlt,hw,o])|(refine wIn ?_;refine And.intro (by kernel_rfl) ?_;try simp only [zX])|(first | refine zQ ?_ | refine zS ?_)|((first | refine zH ?_ | refine zO ?_ | refine zP ?_);try simp)|((first | refine zR ?_ | refine wOn ?_ | refine wQn ?_);try simp only [zX])
      refine hL _ (N - 1) (by omega) ⟨k + 1,by omega,?_⟩
      simp [h1,h4,b4,h9,h10,hw,hi]
  · rw [List.drop_of_length_le (by omega), fm] at hi
    repeat' first|(refine hK _ ?_;clear hK)|(refine hK _ _ ?_;clear hK)|(clear hK;refine hK _ ?_;clear hK)|(clear hK;clear hK;refine hK _ ?_;clear hK)|(clear hK;clear hK;clear hK;refine hK _ ?_;clear hK)|(clear hK;clear hK;clear hK;clear hK;refine hK _ ?_;clear hK)|(refine zI fun K hK=>?_)|((first | refine zG ?_ | refine zN rfl (by kernel_rfl) ?_ | refine zM ?_ | refine zK (by kernel_rfl) ?_);simp only [xI,xH,strip])|((first | refine wIs fun K hK=>?_ | refine wOs fun K hK=>?_ | refine wQs fun K hK=>?_ | refine zU ?_ | refine zV ?_ | refine zW ?_ | refine zL ?_);simp [h1,h4,b4,h9,h10,h11,hlt])|(refine wIn ?_;refine And.intro (by kernel_rfl) ?_;try simp only [zX])|(first | refine zQ ?_ | refine zS ?_)|((first | refine zH ?_ | refine zO ?_ | refine zP ?_);try simp)|((first | refine zR ?_ | refine wOn ?_ | refine wQn ?_);try simp only [zX])
    apply hr
    rw [← hi]
    simp [Tryd.f9,Mb.cells,h4,b4]
theorem watchers_con (c : Cf) (hl : c.ms.length ≤ 1000000) : zF Tryd.prog 16 [.p (.agg c.cells)] (.p (.sl 1 (ints (ids c.ms 2)))) := by
  have c1:=ids_con c 2 hl
  obtain ⟨ep,n,kind,l⟩:=c
  simp only [Cf.cells] at *
  refine zJ Tryd.tab Tryd.mixed Tryd.func16 rfl rfl Tryd.ntmps16 (by simp) (by simp) fun Q hr hn=>?_
  repeat' first|(refine hK _ ?_;clear hK)|(refine hK _ _ ?_;clear hK)|(clear hK;refine hK _ ?_;clear hK)|(clear hK;clear hK;refine hK _ ?_;clear hK)|(clear hK;clear hK;clear hK;refine hK _ ?_;clear hK)|(clear hK;clear hK;clear hK;clear hK;refine hK _ ?_;clear hK)|(refine zI fun K hK=>?_)|((first | refine zG ?_ | refine zN rfl (by kernel_rfl) ?_ | refine zM ?_ | refine zK (by kernel_rfl) ?_);simp only [xI,xH,strip])|((first | refine wIs fun K hK=>?_ | refine wOs fun K hK=>?_ | refine wQs fun K hK=>?_ | refine zU ?_ | refine zV ?_ | refine zW ?_ | refine zL ?_);simp)|(refine wIn ?_;refine And.intro (by kernel_rfl) ?_;try simp only [zX])|(first | refine zQ ?_ | refine zS ?_)|((first | refine zH ?_ | refine zO ?_ | refine zP ?_);try simp)|((first | refine zR ?_ | refine wOn ?_ | refine wQn ?_);try simp only [zX])|(refine zZ.pure (c1) rfl ?_)|(refine zZ.lent (c1) rfl ?_)|(refine zT.pure (c1) rfl ?_)|(refine zT.lent (c1) rfl ?_)|(refine zZ.own (c1) ?_)|(refine zY.pure (c1) rfl ?_)|(refine zY.lent (c1) rfl ?_)|(refine zY.own (c1) ?_)
  all_goals apply hr
  all_goals simp [Tryd.f16]
theorem watchers04_con (c : Cf) (hl : c.ms.length ≤ 1000000) : zF Tryd.prog 17 [.p (.agg c.cells)] (.p (.sl 1 (ints (ids c.ms 2)))) := by
  have c1:=role04_con c 2 hl
  obtain ⟨ep,n,kind,l⟩:=c
  simp only [Cf.cells] at *
  refine zJ Tryd.tab Tryd.mixed Tryd.func17 rfl rfl Tryd.ntmps17 (by simp) (by simp) fun Q hr hn=>?_
  repeat' first|(refine hK _ ?_;clear hK)|(refine hK _ _ ?_;clear hK)|(clear hK;refine hK _ ?_;clear hK)|(clear hK;clear hK;refine hK _ ?_;clear hK)|(clear hK;clear hK;clear hK;refine hK _ ?_;clear hK)|(clear hK;clear hK;clear hK;clear hK;refine hK _ ?_;clear hK)|(refine zI fun K hK=>?_)|((first | refine zG ?_ | refine zN rfl (by kernel_rfl) ?_ | refine zM ?_ | refine zK (by kernel_rfl) ?_);simp only [xI,xH,strip])|((first | refine wIs fun K hK=>?_ | refine wOs fun K hK=>?_ | refine wQs fun K hK=>?_ | refine zU ?_ | refine zV ?_ | refine zW ?_ | refine zL ?_);simp)|(refine wIn ?_;refine And.intro (by kernel_rfl) ?_;try simp only [zX])|(first | refine zQ ?_ | refine zS ?_)|((first | refine zH ?_ | refine zO ?_ | refine zP ?_);try simp)|((first | refine zR ?_ | refine wOn ?_ | refine wQn ?_);try simp only [zX])|(refine zZ.pure (c1) rfl ?_)|(refine zZ.lent (c1) rfl ?_)|(refine zT.pure (c1) rfl ?_)|(refine zT.lent (c1) rfl ?_)|(refine zZ.own (c1) ?_)|(refine zY.pure (c1) rfl ?_)|(refine zY.lent (c1) rfl ?_)|(refine zY.own (c1) ?_)
  all_goals apply hr
  all_goals simp [Tryd.f17]
def L04 : List UInt8 := [51, 46, 55, 32, 49, 32, 48, 112, 49, 103, 48, 32, 50, 111, 49, 103, 48]
def C04 : Cf := ⟨3, 7, 1, [⟨0, 1, 1, 0⟩, ⟨2, 2, 1, 0⟩]⟩
theorem prs04 : prsC L04 = C04 ∧ prsE L04 = 0 := ⟨by kernel_rfl, by kernel_rfl⟩
theorem txt04 : txtC C04 = L04 := by decide +kernel
theorem ids04 : ids C04.ms 1 = [0] := by decide +kernel
set_option maxHeartbeats 4000000 in
theorem awake04 : zF Tryd.prog 8 [] (.p (B true)) := by
  have c1:=parseC_con L04 (by decide)
  rw [prs04.1,prs04.2] at c1
  have c2:=textC_con C04 (by decide)
  rw [txt04] at c2
  have c3:=voters_con C04 (by decide)
  rw [ids04] at c3
  have c4:=ints01_con [0] [0]
  rw [decide_eq_true rfl] at c4
  simp only [L04,C04,Cf.cells,mbs,Mb.cells,ints,xI,xH] at c1 c2 c3 c4
  refine zJ Tryd.tab Tryd.mixed Tryd.func8 rfl rfl Tryd.ntmps8 (by simp) (by simp) fun Q hr hn=>?_
  repeat' first|(refine hK _ ?_;clear hK)|(refine hK _ _ ?_;clear hK)|(clear hK;refine hK _ ?_;clear hK)|(clear hK;clear hK;refine hK _ ?_;clear hK)|(clear hK;clear hK;clear hK;refine hK _ ?_;clear hK)|(clear hK;clear hK;clear hK;clear hK;refine hK _ ?_;clear hK)|(refine zI fun K hK=>?_)|((first | refine zG ?_ | refine zN rfl (by kernel_rfl) ?_ | refine zM ?_ | refine zK (by kernel_rfl) ?_);simp only [xI,xH,strip])|((first | refine wIs fun K hK=>?_ | refine wOs fun K hK=>?_ | refine wQs fun K hK=>?_ | refine zU ?_ | refine zV ?_ | refine zW ?_ | refine zL ?_);simp)|(refine wIn ?_;refine And.intro (by kernel_rfl) ?_;try simp only [zX])|(first | refine zQ ?_ | refine zS ?_)|((first | refine zH ?_ | refine zO ?_ | refine zP ?_);try simp)|((first | refine zR ?_ | refine wOn ?_ | refine wQn ?_);try simp only [zX])|(refine zZ.pure (c1) rfl ?_)|(refine zZ.lent (c1) rfl ?_)|(refine zT.pure (c1) rfl ?_)|(refine zT.lent (c1) rfl ?_)|(refine zZ.own (c1) ?_)|(refine zY.pure (c1) rfl ?_)|(refine zY.lent (c1) rfl ?_)|(refine zY.own (c1) ?_)|(refine zZ.pure (c2) rfl ?_)|(refine zZ.lent (c2) rfl ?_)|(refine zT.pure (c2) rfl ?_)|(refine zT.lent (c2) rfl ?_)|(refine zZ.own (c2) ?_)|(refine zY.pure (c2) rfl ?_)|(refine zY.lent (c2) rfl ?_)|(refine zY.own (c2) ?_)|(refine zZ.pure (c3) rfl ?_)|(refine zZ.lent (c3) rfl ?_)|(refine zT.pure (c3) rfl ?_)|(refine zT.lent (c3) rfl ?_)|(refine zZ.own (c3) ?_)|(refine zY.pure (c3) rfl ?_)|(refine zY.lent (c3) rfl ?_)|(refine zY.own (c3) ?_)|(refine zZ.pure (c4) rfl ?_)|(refine zZ.lent (c4) rfl ?_)|(refine zT.pure (c4) rfl ?_)|(refine zT.lent (c4) rfl ?_)|(refine zZ.own (c4) ?_)|(refine zY.pure (c4) rfl ?_)|(refine zY.lent (c4) rfl ?_)|(refine zY.own (c4) ?_)
  all_goals apply hr
  all_goals simp [Tryd.f8]
theorem far04_con (c : Cf) (hl : c.ms.length ≤ 9223372036854775807) : zF Tryd.prog 7 [.p (.agg c.cells)] (.p (B (decide (300 < c.ms.length)))) := by
  obtain ⟨ep,n,kind,l⟩:=c
  simp only [Cf.cells] at *
  by_cases h : 300 < l.length
  · have h' : (300 : Int) < l.length := by omega
    rw [decide_eq_true h]
    refine zJ Tryd.tab Tryd.mixed Tryd.func7 rfl rfl Tryd.ntmps7 (by simp) (by simp) fun Q hr hn=>?_
    repeat' first|(refine hK _ ?_;clear hK)|(refine hK _ _ ?_;clear hK)|(clear hK;refine hK _ ?_;clear hK)|(clear hK;clear hK;refine hK _ ?_;clear hK)|(clear hK;clear hK;clear hK;refine hK _ ?_;clear hK)|(clear hK;clear hK;clear hK;clear hK;refine hK _ ?_;clear hK)|(refine zI fun K hK=>?_)|((first | refine zG ?_ | refine zN rfl (by kernel_rfl) ?_ | refine zM ?_ | refine zK (by kernel_rfl) ?_);simp only [xI,xH,strip])|((first | refine wIs fun K hK=>?_ | refine wOs fun K hK=>?_ | refine wQs fun K hK=>?_ | refine zU ?_ | refine zV ?_ | refine zW ?_ | refine zL ?_);simp [h,h'])|(refine wIn ?_;refine And.intro (by kernel_rfl) ?_;try simp only [zX])|(first | refine zQ ?_ | refine zS ?_)|((first | refine zH ?_ | refine zO ?_ | refine zP ?_);try simp)|((first | refine zR ?_ | refine wOn ?_ | refine wQn ?_);try simp only [zX])
    all_goals apply hr
    all_goals simp [Tryd.f7,h]
  · have h' : ¬ (300 : Int) < l.length := by omega
    rw [decide_eq_false h]
    refine zJ Tryd.tab Tryd.mixed Tryd.func7 rfl rfl Tryd.ntmps7 (by simp) (by simp) fun Q hr hn=>?_
    repeat' first|(refine hK _ ?_;clear hK)|(refine hK _ _ ?_;clear hK)|(clear hK;refine hK _ ?_;clear hK)|(clear hK;clear hK;refine hK _ ?_;clear hK)|(clear hK;clear hK;clear hK;refine hK _ ?_;clear hK)|(clear hK;clear hK;clear hK;clear hK;refine hK _ ?_;clear hK)|(refine zI fun K hK=>?_)|((first | refine zG ?_ | refine zN rfl (by kernel_rfl) ?_ | refine zM ?_ | refine zK (by kernel_rfl) ?_);simp only [xI,xH,strip])|((first | refine wIs fun K hK=>?_ | refine wOs fun K hK=>?_ | refine wQs fun K hK=>?_ | refine zU ?_ | refine zV ?_ | refine zW ?_ | refine zL ?_);simp [h,h'])|(refine wIn ?_;refine And.intro (by kernel_rfl) ?_;try simp only [zX])|(first | refine zQ ?_ | refine zS ?_)|((first | refine zH ?_ | refine zO ?_ | refine zP ?_);try simp)|((first | refine zR ?_ | refine wOn ?_ | refine wQn ?_);try simp only [zX])
    all_goals apply hr
    all_goals simp [Tryd.f7,h]
set_option maxHeartbeats 4000000 in
theorem configChecks_con (c : Cf) (id : Int) (hz : c.ms.length ≤ 9223372036854775807) : zF Tryd.prog 3 [.p (.agg c.cells), .p (I id)] (.p (B true)) := by
  have c0:=far04_con c hz
  have ca:=awake04
  by_cases hf : 300 < c.ms.length
  · rw [decide_eq_true hf] at c0
    obtain ⟨ep,n,kind,l⟩:=c
    simp only [Cf.cells] at *
    clear hz hf
    refine zJ Tryd.tab Tryd.mixed Tryd.func3 rfl rfl Tryd.ntmps3 (by simp) (by simp) fun Q hr hn=>?_
    repeat' first|(refine hK _ ?_;clear hK)|(refine hK _ _ ?_;clear hK)|(clear hK;refine hK _ ?_;clear hK)|(clear hK;clear hK;refine hK _ ?_;clear hK)|(clear hK;clear hK;clear hK;refine hK _ ?_;clear hK)|(clear hK;clear hK;clear hK;clear hK;refine hK _ ?_;clear hK)|(refine zI fun K hK=>?_)|((first | refine zG ?_ | refine zN rfl (by kernel_rfl) ?_ | refine zM ?_ | refine zK (by kernel_rfl) ?_);simp only [xI,xH,strip])|((first | refine wIs fun K hK=>?_ | refine wOs fun K hK=>?_ | refine wQs fun K hK=>?_ | refine zU ?_ | refine zV ?_ | refine zW ?_ | refine zL ?_);simp)|(refine wIn ?_;refine And.intro (by kernel_rfl) ?_;try simp only [zX])|(first | refine zQ ?_ | refine zS ?_)|((first | refine zH ?_ | refine zO ?_ | refine zP ?_);try simp)|((first | refine zR ?_ | refine wOn ?_ | refine wQn ?_);try simp only [zX])|(refine zZ.pure (c0) rfl ?_)|(refine zZ.lent (c0) rfl ?_)|(refine zT.pure (c0) rfl ?_)|(refine zT.lent (c0) rfl ?_)|(refine zZ.own (c0) ?_)|(refine zY.pure (c0) rfl ?_)|(refine zY.lent (c0) rfl ?_)|(refine zY.own (c0) ?_)|(refine zZ.pure (ca) rfl ?_)|(refine zZ.lent (ca) rfl ?_)|(refine zT.pure (ca) rfl ?_)|(refine zT.lent (ca) rfl ?_)|(refine zZ.own (ca) ?_)|(refine zY.pure (ca) rfl ?_)|(refine zY.lent (ca) rfl ?_)|(refine zY.own (ca) ?_)
    all_goals apply hr
    all_goals simp [Tryd.f3]
  rw [decide_eq_false hf] at c0
  have c1:=find_con c id (by omega)
  have c2:=find04_con c id (by omega)
  have c3:=check_con c (by omega)
  have c4:=check04_con c (by omega)
  have c5:=voters_con c (by omega)
  have c6:=voters04_con c (by omega)
  have c7:=watchers_con c (by omega)
  have c8:=watchers04_con c (by omega)
  have c9:=ints01_con (ids c.ms 1) (ids c.ms 1)
  have c10:=ints01_con (ids c.ms 2) (ids c.ms 2)
  rw [decide_eq_true rfl] at c9 c10
  generalize ids c.ms 1 = i1 at *
  generalize ids c.ms 2 = i2 at *
  generalize check c = e at *
  generalize fm id c.ms = f at *
  obtain ⟨⟨f1,f2,f3,f4⟩,f5⟩:=f
  obtain ⟨ep,n,kind,l⟩:=c
  simp only [Cf.cells,Mb.cells] at *
  clear hz hf
  refine zJ Tryd.tab Tryd.mixed Tryd.func3 rfl rfl Tryd.ntmps3 (by simp) (by simp) fun Q hr hn=>?_
  repeat' first|(refine hK _ ?_;clear hK)|(refine hK _ _ ?_;clear hK)|(clear hK;refine hK _ ?_;clear hK)|(clear hK;clear hK;refine hK _ ?_;clear hK)|(clear hK;clear hK;clear hK;refine hK _ ?_;clear hK)|(clear hK;clear hK;clear hK;clear hK;refine hK _ ?_;clear hK)|(refine zI fun K hK=>?_)|((first | refine zG ?_ | refine zN rfl (by kernel_rfl) ?_ | refine zM ?_ | refine zK (by kernel_rfl) ?_);simp only [xI,xH,strip])|((first | refine wIs fun K hK=>?_ | refine wOs fun K hK=>?_ | refine wQs fun K hK=>?_ | refine zU ?_ | refine zV ?_ | refine zW ?_ | refine zL ?_);simp)|(refine wIn ?_;refine And.intro (by kernel_rfl) ?_;try simp only [zX])|(first | refine zQ ?_ | refine zS ?_)|((first | refine zH ?_ | refine zO ?_ | refine zP ?_);try simp)|((first | refine zR ?_ | refine wOn ?_ | refine wQn ?_);try simp only [zX])|(refine zZ.pure (c0) rfl ?_)|(refine zZ.lent (c0) rfl ?_)|(refine zT.pure (c0) rfl ?_)|(refine zT.lent (c0) rfl ?_)|(refine zZ.own (c0) ?_)|(refine zY.pure (c0) rfl ?_)|(refine zY.lent (c0) rfl ?_)|(refine zY.own (c0) ?_)|(refine zZ.pure (c1) rfl ?_)|(refine zZ.lent (c1) rfl ?_)|(refine zT.pure (c1) rfl ?_)|(refine zT.lent (c1) rfl ?_)|(refine zZ.own (c1) ?_)|(refine zY.pure (c1) rfl ?_)|(refine zY.lent (c1) rfl ?_)|(refine zY.own (c1) ?_)|(refine zZ.pure (c2) rfl ?_)|(refine zZ.lent (c2) rfl ?_)|(refine zT.pure (c2) rfl ?_)|(refine zT.lent (c2) rfl ?_)|(refine zZ.own (c2) ?_)|(refine zY.pure (c2) rfl ?_)|(refine zY.lent (c2) rfl ?_)|(refine zY.own (c2) ?_)|(refine zZ.pure (c3) rfl ?_)|(refine zZ.lent (c3) rfl ?_)|(refine zT.pure (c3) rfl ?_)|(refine zT.lent (c3) rfl ?_)|(refine zZ.own (c3) ?_)|(refine zY.pure (c3) rfl ?_)|(refine zY.lent (c3) rfl ?_)|(refine zY.own (c3) ?_)|(refine zZ.pure (c4) rfl ?_)|(refine zZ.lent (c4) rfl ?_)|(refine zT.pure (c4) rfl ?_)|(refine zT.lent (c4) rfl ?_)|(refine zZ.own (c4) ?_)|(refine zY.pure (c4) rfl ?_)|(refine zY.lent (c4) rfl ?_)|(refine zY.own (c4) ?_)|(refine zZ.pure (c5) rfl ?_)|(refine zZ.lent (c5) rfl ?_)|(refine zT.pure (c5) rfl ?_)|(refine zT.lent (c5) rfl ?_)|(refine zZ.own (c5) ?_)|(refine zY.pure (c5) rfl ?_)|(refine zY.lent (c5) rfl ?_)|(refine zY.own (c5) ?_)|(refine zZ.pure (c6) rfl ?_)|(refine zZ.lent (c6) rfl ?_)|(refine zT.pure (c6) rfl ?_)|(refine zT.lent (c6) rfl ?_)|(refine zZ.own (c6) ?_)|(refine zY.pure (c6) rfl ?_)|(refine zY.lent (c6) rfl ?_)|(refine zY.own (c6) ?_)|(refine zZ.pure (c7) rfl ?_)|(refine zZ.lent (c7) rfl ?_)|(refine zT.pure (c7) rfl ?_)|(refine zT.lent (c7) rfl ?_)|(refine zZ.own (c7) ?_)|(refine zY.pure (c7) rfl ?_)|(refine zY.lent (c7) rfl ?_)|(refine zY.own (c7) ?_)|(refine zZ.pure (c8) rfl ?_)|(refine zZ.lent (c8) rfl ?_)|(refine zT.pure (c8) rfl ?_)|(refine zT.lent (c8) rfl ?_)|(refine zZ.own (c8) ?_)|(refine zY.pure (c8) rfl ?_)|(refine zY.lent (c8) rfl ?_)|(refine zY.own (c8) ?_)|(refine zZ.pure (c9) rfl ?_)|(refine zZ.lent (c9) rfl ?_)|(refine zT.pure (c9) rfl ?_)|(refine zT.lent (c9) rfl ?_)|(refine zZ.own (c9) ?_)|(refine zY.pure (c9) rfl ?_)|(refine zY.lent (c9) rfl ?_)|(refine zY.own (c9) ?_)|(refine zZ.pure (c10) rfl ?_)|(refine zZ.lent (c10) rfl ?_)|(refine zT.pure (c10) rfl ?_)|(refine zT.lent (c10) rfl ?_)|(refine zZ.own (c10) ?_)|(refine zY.pure (c10) rfl ?_)|(refine zY.lent (c10) rfl ?_)|(refine zY.own (c10) ?_)|(refine zZ.pure (ca) rfl ?_)|(refine zZ.lent (ca) rfl ?_)|(refine zT.pure (ca) rfl ?_)|(refine zT.lent (ca) rfl ?_)|(refine zZ.own (ca) ?_)|(refine zY.pure (ca) rfl ?_)|(refine zY.lent (ca) rfl ?_)|(refine zY.own (ca) ?_)
  all_goals apply hr
  all_goals simp [Tryd.f3]
end Go.Proofs.YtjekjpgccnhobaaDoor
