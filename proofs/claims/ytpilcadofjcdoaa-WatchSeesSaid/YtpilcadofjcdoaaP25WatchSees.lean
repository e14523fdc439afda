/- Texts that the proof needs: ND PE PF PG PH NE NF XG XH XI. -/
import Derived.Test.YtpilcadofjcdoaaP24WatchSees
import Derived.Test.YtpilcadofjcdoaaP22WatchSees
import Derived.Test.YtpilcadofjcdoaaP23WatchSees
import Derived.Test.YtpilcadofjcdoaaP18WatchSees
import Derived.Test.YtpilcadofjcdoaaP21WatchSees
namespace Go.Proofs.Ytpilcadofjcdoaa
set_option linter.unusedSimpArgs false
set_option linter.unusedVariables false
open Go Go.Av
attribute [local irreducible] Go.Av.yQ Go.Av.zZ Go.Av.yG Go.Av.zT Go.Av.yH Go.Av.zY Go.Av.Con
def hdo (l : List Zn) : Bool := decide (1 <= l.length /\ l.length <= 60) && match l[0]? with
 | some z=>decide (z.p = [47]) && decide (z.o = 0)
 | none=>false
def allr (f : Nat -> Bool) (n : Nat) : Bool := (List.range n).all f
theorem allr_succ (f : Nat -> Bool) (n : Nat) : allr f (n + 1) = (allr f n && f n) := by
 unfold allr;rw [List.range_succ,List.all_append];simp
theorem allr_iff {f : Nat -> Bool} {n : Nat} : allr f n = true ↔ ∀ i, i < n -> f i = true := by
 unfold allr;rw [List.all_eq_true];simp
theorem allr_bad {f : Nat -> Bool} {n k : Nat} (h : k < n) (hf : f k = false) : allr f n = false := by
 cases h' : allr f n with
 | false=>rfl
 | true=>have:=allr_iff.1 h' k h;rw [hf] at this;simp at this
def okA (l : List Zn) (i : Nat) : Bool := match l[i]? with
 | some z => rgz z && (match i with
  | 0=>true
  | j + 1 => match l[j]? with
   | some y=>lss y.p z.p && hld (l.take (j + 1)) z
   | none=>false)
 | none=>false
def okR (l : List Zn) (i : Nat) : Bool := match l[i]? with
 | some z => rgz z && (match i with
  | 0=>true
  | j + 1 => match l[j]? with
   | some y=>lss y.p z.p && ((fnd l (par z.p).1).2 && decide ((fnd l (par z.p).1).1.o = 0))
   | none=>false)
 | none=>false
set_option maxHeartbeats 1000000 in
theorem tree07_con (l : List Zn) (hz : ∀ z ∈ l, long z) : zF Try.prog 12 [.p (.sl 5 (zns l))] (.p (B (hdo l && allr (okR l) l.length))) := by
 refine zF.len ⟨Try.f12,Try.func12,rfl,rfl⟩ 0 _ _ rfl fun hlen=>?_
 simp only [zns_len] at hlen
 by_cases a1 : l.length < 1
 ·have a1' : (l.length : Int) < 1 := by omega
  rw [show hdo l = false by simp [hdo];omega,Bool.false_and]
  refine zG Try.tab Try.mixed Try.func12 rfl rfl Try.ntmps12 (by simp) (by simp) fun Q hr hn=>?_
  repeat' first|(refine hK _ ?_;clear hK)|(refine hK _ _ ?_;clear hK)|(clear hK;refine hK _ ?_;clear hK)|(clear hK;clear hK;refine hK _ ?_;clear hK)|(clear hK;clear hK;clear hK;refine hK _ ?_;clear hK)|(clear hK;clear hK;clear hK;clear hK;refine hK _ ?_;clear hK)|(refine zJ fun K hK=>?_)|((first | refine zH ?_ | refine zN rfl (by kernel_rfl) ?_ | refine zM ?_ | refine zK (by kernel_rfl) ?_);simp only [wJ,wI,strip])|((first | refine wIs fun K hK=>?_ | refine wOs fun K hK=>?_ | refine wQs fun K hK=>?_ | refine zU ?_ | refine zV ?_ | refine zW ?_ | refine zL ?_);simp [a1,a1'])|(refine wIn ?_;refine And.intro (by kernel_rfl) ?_;try simp only [zX])|(first | refine zQ ?_ | refine zS ?_)|((first | refine zI ?_ | refine zO ?_ | refine zP ?_);try simp)|((first | refine zR ?_ | refine wOn ?_ | refine wQn ?_);try simp only [zX])
  all_goals apply hr
  all_goals simp [Try.f12]
 have a1' : ¬ (l.length : Int) < 1:=by omega
 by_cases a2 : 60 < l.length
 ·have a2' : (60 : Int) < l.length := by omega
  rw [show hdo l = false by simp [hdo];omega,Bool.false_and]
  refine zG Try.tab Try.mixed Try.func12 rfl rfl Try.ntmps12 (by simp) (by simp) fun Q hr hn=>?_
  repeat' first|(refine hK _ ?_;clear hK)|(refine hK _ _ ?_;clear hK)|(clear hK;refine hK _ ?_;clear hK)|(clear hK;clear hK;refine hK _ ?_;clear hK)|(clear hK;clear hK;clear hK;refine hK _ ?_;clear hK)|(clear hK;clear hK;clear hK;clear hK;refine hK _ ?_;clear hK)|(refine zJ fun K hK=>?_)|((first | refine zH ?_ | refine zN rfl (by kernel_rfl) ?_ | refine zM ?_ | refine zK (by kernel_rfl) ?_);simp only [wJ,wI,strip])|((first | refine wIs fun K hK=>?_ | refine wOs fun K hK=>?_ | refine wQs fun K hK=>?_ | refine zU ?_ | refine zV ?_ | refine zW ?_ | refine zL ?_);simp [a1,a1',a2,a2'])|(refine wIn ?_;refine And.intro (by kernel_rfl) ?_;try simp only [zX])|(first | refine zQ ?_ | refine zS ?_)|((first | refine zI ?_ | refine zO ?_ | refine zP ?_);try simp)|((first | refine zR ?_ | refine wOn ?_ | refine wQn ?_);try simp only [zX])
  all_goals apply hr
  all_goals simp [Try.f12]
 have a2' : ¬ (60 : Int) < l.length:=by omega
 have h0 : 0 < l.length:=by omega
 have he0:=zns_get h0
 have hh : hdo l = (decide (l[0].p = [47]) && decide (l[0].o = 0)) := by
  rw [hdo,show decide (1 <= l.length /\ l.length <= 60) = true by simp;omega,Bool.true_and,List.getElem?_eq_getElem h0]
 rw [hh]
 by_cases a3 : l[0].p = [47]
 rotate_left
 ·rw [show decide (l[0].p = [47]) = false from decide_eq_false a3, Bool.false_and, Bool.false_and]
  refine zG Try.tab Try.mixed Try.func12 rfl rfl Try.ntmps12 (by simp) (by simp) fun Q hr hn=>?_
  repeat' first|(refine hK _ ?_;clear hK)|(refine hK _ _ ?_;clear hK)|(clear hK;refine hK _ ?_;clear hK)|(clear hK;clear hK;refine hK _ ?_;clear hK)|(clear hK;clear hK;clear hK;refine hK _ ?_;clear hK)|(clear hK;clear hK;clear hK;clear hK;refine hK _ ?_;clear hK)|(refine zJ fun K hK=>?_)|((first | refine zH ?_ | refine zN rfl (by kernel_rfl) ?_ | refine zM ?_ | refine zK (by kernel_rfl) ?_);simp only [wJ,wI,strip])|((first | refine wIs fun K hK=>?_ | refine wOs fun K hK=>?_ | refine wQs fun K hK=>?_ | refine zU ?_ | refine zV ?_ | refine zW ?_ | refine zL ?_);simp [a1,a1',a2,a2',h0,he0,a3])|(refine wIn ?_;refine And.intro (by kernel_rfl) ?_;try simp only [zX])|(first | refine zQ ?_ | refine zS ?_)|((first | refine zI ?_ | refine zO ?_ | refine zP ?_);try simp)|((first | refine zR ?_ | refine wOn ?_ | refine wQn ?_);try simp only [zX])
  all_goals apply hr
  all_goals simp [Try.f12]
 by_cases a4 : l[0].o = 0
 rotate_left
 ·rw [show decide (l[0].o = 0) = false from decide_eq_false a4, Bool.and_false, Bool.false_and]
  refine zG Try.tab Try.mixed Try.func12 rfl rfl Try.ntmps12 (by simp) (by simp) fun Q hr hn=>?_
  repeat' first|(refine hK _ ?_;clear hK)|(refine hK _ _ ?_;clear hK)|(clear hK;refine hK _ ?_;clear hK)|(clear hK;clear hK;refine hK _ ?_;clear hK)|(clear hK;clear hK;clear hK;refine hK _ ?_;clear hK)|(clear hK;clear hK;clear hK;clear hK;refine hK _ ?_;clear hK)|(refine zJ fun K hK=>?_)|((first | refine zH ?_ | refine zN rfl (by kernel_rfl) ?_ | refine zM ?_ | refine zK (by kernel_rfl) ?_);simp only [wJ,wI,strip])|((first | refine wIs fun K hK=>?_ | refine wOs fun K hK=>?_ | refine wQs fun K hK=>?_ | refine zU ?_ | refine zV ?_ | refine zW ?_ | refine zL ?_);simp [a1,a1',a2,a2',h0,he0,a3,a4])|(refine wIn ?_;refine And.intro (by kernel_rfl) ?_;try simp only [zX])|(first | refine zQ ?_ | refine zS ?_)|((first | refine zI ?_ | refine zO ?_ | refine zP ?_);try simp)|((first | refine zR ?_ | refine wOn ?_ | refine wQn ?_);try simp only [zX])
  all_goals apply hr
  all_goals simp [Try.f12]
 rw [show decide (l[0].p = [47]) = true from decide_eq_true a3,show decide (l[0].o = 0) = true from decide_eq_true a4,Bool.true_and,Bool.true_and]
 refine zG Try.tab Try.mixed Try.func12 rfl rfl Try.ntmps12 (by simp) (by simp) fun Q hr hn=>?_
 repeat' first|(refine hK _ ?_;clear hK)|(refine hK _ _ ?_;clear hK)|(clear hK;refine hK _ ?_;clear hK)|(clear hK;clear hK;refine hK _ ?_;clear hK)|(clear hK;clear hK;clear hK;refine hK _ ?_;clear hK)|(clear hK;clear hK;clear hK;clear hK;refine hK _ ?_;clear hK)|(refine zJ fun K hK=>?_)|((first | refine zH ?_ | refine zN rfl (by kernel_rfl) ?_ | refine zM ?_ | refine zK (by kernel_rfl) ?_);simp only [wJ,wI,strip])|((first | refine wIs fun K hK=>?_ | refine wOs fun K hK=>?_ | refine wQs fun K hK=>?_ | refine zU ?_ | refine zV ?_ | refine zW ?_ | refine zL ?_);simp [a1,a1',a2,a2',h0,he0,a3,a4])|(refine wIn ?_;refine And.intro (by kernel_rfl) ?_;try simp only [zX])|(first | refine zQ ?_ | refine zS ?_)|((first | refine zI ?_ | refine zO ?_ | refine zP ?_);try simp)|((first | refine zR ?_ | refine wOn ?_ | refine wQn ?_);try simp only [zX])
 refine xS (fun N st=>∃ k,k + N = l.length /\ allr (okR l) k = true /\ st.s 0 = .p (.sl 5 (zns l)) /\ st.s 31 = .p (.sl 5 (zns l)) /\ st.s 32 = .p (I l.length) /\ st.s 33 = .p (I k)) l.length ⟨0,by simp [allr]⟩ fun K N st hL ⟨k,hk,ha,g0,g27,g28,g29⟩=>?_
 by_cases hlt : k < l.length
 rotate_left
 ·obtain rfl : k = l.length := by omega
  rw [ha] at hr
  repeat' first|(refine hK _ ?_;clear hK)|(refine hK _ _ ?_;clear hK)|(clear hK;refine hK _ ?_;clear hK)|(clear hK;clear hK;refine hK _ ?_;clear hK)|(clear hK;clear hK;clear hK;refine hK _ ?_;clear hK)|(clear hK;clear hK;clear hK;clear hK;refine hK _ ?_;clear hK)|(refine zJ fun K hK=>?_)|((first | refine zH ?_ | refine zN rfl (by kernel_rfl) ?_ | refine zM ?_ | refine zK (by kernel_rfl) ?_);simp only [wJ,wI,strip])|((first | refine wIs fun K hK=>?_ | refine wOs fun K hK=>?_ | refine wQs fun K hK=>?_ | refine zU ?_ | refine zV ?_ | refine zW ?_ | refine zL ?_);simp [g0,g27,g28,g29])|(refine wIn ?_;refine And.intro (by kernel_rfl) ?_;try simp only [zX])|(first | refine zQ ?_ | refine zS ?_)|((first | refine zI ?_ | refine zO ?_ | refine zP ?_);try simp)|((first | refine zR ?_ | refine wOn ?_ | refine wQn ?_);try simp only [zX])
  all_goals apply hr
  all_goals simp [Try.f12]
 have hw:=xY k _ hlt hlen
 have he:=zns_get hlt
 have hzk:=hz l[k] (List.getElem_mem hlt)
 have hx : l[k]? = some l[k]:=List.getElem?_eq_getElem hlt
 have hbad:=fun h=>allr_bad (f:=okR l) hlt h
 have hgood : okR l k = true -> allr (okR l) (k + 1) = true:=fun h=>by rw [allr_succ,ha,h];rfl
 have cr:=right07_con l[k] hzk
 simp only [Zn.c] at cr
 cases hrg : rgz l[k]
 ·rw [hrg] at cr
  rw [hbad (by simp only [okR,hx,hrg];rfl)] at hr
  repeat' first|(refine hK _ ?_;clear hK)|(refine hK _ _ ?_;clear hK)|(clear hK;refine hK _ ?_;clear hK)|(clear hK;clear hK;refine hK _ ?_;clear hK)|(clear hK;clear hK;clear hK;refine hK _ ?_;clear hK)|(clear hK;clear hK;clear hK;clear hK;refine hK _ ?_;clear hK)|(refine zJ fun K hK=>?_)|((first | refine zH ?_ | refine zN rfl (by kernel_rfl) ?_ | refine zM ?_ | refine zK (by kernel_rfl) ?_);simp only [wJ,wI,strip])|((first | refine wIs fun K hK=>?_ | refine wOs fun K hK=>?_ | refine wQs fun K hK=>?_ | refine zU ?_ | refine zV ?_ | refine zW ?_ | refine zL ?_);simp [g0,g27,g28,g29,hlt,hw,he])|(refine wIn ?_;refine And.intro (by kernel_rfl) ?_;try simp only [zX])|(first | refine zQ ?_ | refine zS ?_)|((first | refine zI ?_ | refine zO ?_ | refine zP ?_);try simp)|((first | refine zR ?_ | refine wOn ?_ | refine wQn ?_);try simp only [zX])|(refine zZ.pure (cr) rfl ?_)|(refine zZ.lent (cr) rfl ?_)|(refine zT.pure (cr) rfl ?_)|(refine zT.lent (cr) rfl ?_)|(refine zZ.own (cr) ?_)|(refine zY.pure (cr) rfl ?_)|(refine zY.lent (cr) rfl ?_)|(refine zY.own (cr) ?_)
  all_goals apply hr
  all_goals simp [Try.f12]
 rw [hrg] at cr
 cases k with
 | zero =>
  have hg:=hgood (by simp only [okR,hx,hrg];rfl)
  repeat' first|(refine hK _ ?_;clear hK)|(refine hK _ _ ?_;clear hK)|(clear hK;refine hK _ ?_;clear hK)|(clear hK;clear hK;refine hK _ ?_;clear hK)|(clear hK;clear hK;clear hK;refine hK _ ?_;clear hK)|(clear hK;clear hK;clear hK;clear hK;refine hK _ ?_;clear hK)|(refine zJ fun K hK=>?_)|((first | refine zH ?_ | refine zN rfl (by kernel_rfl) ?_ | refine zM ?_ | refine zK (by kernel_rfl) ?_);simp only [wJ,wI,strip])|((first | refine wIs fun K hK=>?_ | refine wOs fun K hK=>?_ | refine wQs fun K hK=>?_ | refine zU ?_ | refine zV ?_ | refine zW ?_ | refine zL ?_);simp [g0,g27,g28,g29,hlt,hw,he])|(refine wIn ?_;refine And.intro (by kernel_rfl) ?_;try simp only [zX])|(first | refine zQ ?_ | refine zS ?_)|((first | refine zI ?_ | refine zO ?_ | refine zP ?_);try simp)|((first | refine zR ?_ | refine wOn ?_ | refine wQn ?_);try simp only [zX])|(refine zZ.pure (cr) rfl ?_)|(refine zZ.lent (cr) rfl ?_)|(refine zT.pure (cr) rfl ?_)|(refine zT.lent (cr) rfl ?_)|(refine zZ.own (cr) ?_)|(refine zY.pure (cr) rfl ?_)|(refine zY.lent (cr) rfl ?_)|(refine zY.own (cr) ?_)
  refine hL _ (N - 1) (by omega) ⟨1,by omega,hg,?_⟩
  simp [g0,g27,g28,g29]
  try decide
 | succ j =>
  have hj : j < l.length:=by omega
  have hxj : l[j]? = some l[j]:=List.getElem?_eq_getElem hj
  have hej:=zns_get hj
  have h0j : (0 : Int) < (j : Int) + 1:=by omega
  have h0k : (0 : Int) <= (j : Int) + 1:=by omega
  have hwj : IntKind.i64.wrap (j : Int) = (j : Int):=by rw [yW] <;> omega
  have hle : j + 1 <= l.length:=by omega
  have ht:=zns_take l (j + 1)
  have hne : ¬ (j : Int) + 1 = 0:=by omega
  have hltI : (j : Int) + 1 < l.length:=by omega
  cases hls : lss l[j].p l[j + 1].p
  ·have hls' : Op.bytesLess l[j].p l[j + 1].p = false := hls
   rw [hbad (by simp only [okR,hx,hrg,hxj,hls];rfl)] at hr
   repeat' first|(refine hK _ ?_;clear hK)|(refine hK _ _ ?_;clear hK)|(clear hK;refine hK _ ?_;clear hK)|(clear hK;clear hK;refine hK _ ?_;clear hK)|(clear hK;clear hK;clear hK;refine hK _ ?_;clear hK)|(clear hK;clear hK;clear hK;clear hK;refine hK _ ?_;clear hK)|(refine zJ fun K hK=>?_)|((first | refine zH ?_ | refine zN rfl (by kernel_rfl) ?_ | refine zM ?_ | refine zK (by kernel_rfl) ?_);simp only [wJ,wI,strip])|((first | refine wIs fun K hK=>?_ | refine wOs fun K hK=>?_ | refine wQs fun K hK=>?_ | refine zU ?_ | refine zV ?_ | refine zW ?_ | refine zL ?_);simp [g0,g27,g28,g29,hlt,hltI,hw,he,hj,hej,h0j,h0k,hwj,hle,ht,hne,hls'])|(refine wIn ?_;refine And.intro (by kernel_rfl) ?_;try simp only [zX])|(first | refine zQ ?_ | refine zS ?_)|((first | refine zI ?_ | refine zO ?_ | refine zP ?_);try simp)|((first | refine zR ?_ | refine wOn ?_ | refine wQn ?_);try simp only [zX])|(refine zZ.pure (cr) rfl ?_)|(refine zZ.lent (cr) rfl ?_)|(refine zT.pure (cr) rfl ?_)|(refine zT.lent (cr) rfl ?_)|(refine zZ.own (cr) ?_)|(refine zY.pure (cr) rfl ?_)|(refine zY.lent (cr) rfl ?_)|(refine zY.own (cr) ?_)
   all_goals apply hr
   all_goals simp [Try.f12]
  have hls' : Op.bytesLess l[j].p l[j + 1].p = true:=hls
  have ch:=xC l[j + 1].p hzk.1
  rw [parV_par] at ch
  have cf:=find07_con l (par l[j + 1].p).1
  simp only [Zn.c] at cf
  have hok : okR l (j + 1) = ((fnd l (par l[j + 1].p).1).2 && decide ((fnd l (par l[j + 1].p).1).1.o = 0)) := by
   simp only [okR,hx,hrg,hxj,hls];rfl
  generalize par l[j + 1].p = q at ch cf hok
  obtain ⟨q,b⟩:=q
  dsimp only at ch cf hok
  generalize fnd l q = r at cf hok
  obtain ⟨r,d⟩:=r
  dsimp only at cf hok
  cases d
  ·rw [hbad (by rw [hok]; rfl)] at hr
   repeat' first|(refine hK _ ?_;clear hK)|(refine hK _ _ ?_;clear hK)|(clear hK;refine hK _ ?_;clear hK)|(clear hK;clear hK;refine hK _ ?_;clear hK)|(clear hK;clear hK;clear hK;refine hK _ ?_;clear hK)|(clear hK;clear hK;clear hK;clear hK;refine hK _ ?_;clear hK)|(refine zJ fun K hK=>?_)|((first | refine zH ?_ | refine zN rfl (by kernel_rfl) ?_ | refine zM ?_ | refine zK (by kernel_rfl) ?_);simp only [wJ,wI,strip])|((first | refine wIs fun K hK=>?_ | refine wOs fun K hK=>?_ | refine wQs fun K hK=>?_ | refine zU ?_ | refine zV ?_ | refine zW ?_ | refine zL ?_);simp [g0,g27,g28,g29,hlt,hltI,hw,he,hj,hej,h0j,h0k,hwj,hle,ht,hne,hls'])|(refine wIn ?_;refine And.intro (by kernel_rfl) ?_;try simp only [zX])|(first | refine zQ ?_ | refine zS ?_)|((first | refine zI ?_ | refine zO ?_ | refine zP ?_);try simp)|((first | refine zR ?_ | refine wOn ?_ | refine wQn ?_);try simp only [zX])|(refine zZ.pure (cr) rfl ?_)|(refine zZ.lent (cr) rfl ?_)|(refine zT.pure (cr) rfl ?_)|(refine zT.lent (cr) rfl ?_)|(refine zZ.own (cr) ?_)|(refine zY.pure (cr) rfl ?_)|(refine zY.lent (cr) rfl ?_)|(refine zY.own (cr) ?_)|(refine zZ.pure (ch) rfl ?_)|(refine zZ.lent (ch) rfl ?_)|(refine zT.pure (ch) rfl ?_)|(refine zT.lent (ch) rfl ?_)|(refine zZ.own (ch) ?_)|(refine zY.pure (ch) rfl ?_)|(refine zY.lent (ch) rfl ?_)|(refine zY.own (ch) ?_)|(refine zZ.pure (cf) rfl ?_)|(refine zZ.lent (cf) rfl ?_)|(refine zT.pure (cf) rfl ?_)|(refine zT.lent (cf) rfl ?_)|(refine zZ.own (cf) ?_)|(refine zY.pure (cf) rfl ?_)|(refine zY.lent (cf) rfl ?_)|(refine zY.own (cf) ?_)
   all_goals apply hr
   all_goals simp [Try.f12]
  by_cases ho : r.o = 0
  ·have hg := hgood (by rw [hok]; simp [ho])
   repeat' first|(refine hK _ ?_;clear hK)|(refine hK _ _ ?_;clear hK)|(clear hK;refine hK _ ?_;clear hK)|(clear hK;clear hK;refine hK _ ?_;clear hK)|(clear hK;clear hK;clear hK;refine hK _ ?_;clear hK)|(clear hK;clear hK;clear hK;clear hK;refine hK _ ?_;clear hK)|(refine zJ fun K hK=>?_)|((first | refine zH ?_ | refine zN rfl (by kernel_rfl) ?_ | refine zM ?_ | refine zK (by kernel_rfl) ?_);simp only [wJ,wI,strip])|((first | refine wIs fun K hK=>?_ | refine wOs fun K hK=>?_ | refine wQs fun K hK=>?_ | refine zU ?_ | refine zV ?_ | refine zW ?_ | refine zL ?_);simp [g0,g27,g28,g29,hlt,hltI,hw,he,hj,hej,h0j,h0k,hwj,hle,ht,hne,hls',ho])|(refine wIn ?_;refine And.intro (by kernel_rfl) ?_;try simp only [zX])|(first | refine zQ ?_ | refine zS ?_)|((first | refine zI ?_ | refine zO ?_ | refine zP ?_);try simp)|((first | refine zR ?_ | refine wOn ?_ | refine wQn ?_);try simp only [zX])|(refine zZ.pure (cr) rfl ?_)|(refine zZ.lent (cr) rfl ?_)|(refine zT.pure (cr) rfl ?_)|(refine zT.lent (cr) rfl ?_)|(refine zZ.own (cr) ?_)|(refine zY.pure (cr) rfl ?_)|(refine zY.lent (cr) rfl ?_)|(refine zY.own (cr) ?_)|(refine zZ.pure (ch) rfl ?_)|(refine zZ.lent (ch) rfl ?_)|(refine zT.pure (ch) rfl ?_)|(refine zT.lent (ch) rfl ?_)|(refine zZ.own (ch) ?_)|(refine zY.pure (ch) rfl ?_)|(refine zY.lent (ch) rfl ?_)|(refine zY.own (ch) ?_)|(refine zZ.pure (cf) rfl ?_)|(refine zZ.lent (cf) rfl ?_)|(refine zT.pure (cf) rfl ?_)|(refine zT.lent (cf) rfl ?_)|(refine zZ.own (cf) ?_)|(refine zY.pure (cf) rfl ?_)|(refine zY.lent (cf) rfl ?_)|(refine zY.own (cf) ?_)
   refine hL _ (N - 1) (by omega) ⟨j + 1 + 1,by omega,hg,?_⟩
   have hw' : IntKind.i64.wrap ((j : Int) + 1 + 1) = (j : Int) + 1 + 1:=by rw [yW] <;> omega
   simp [g0,g27,g28,g29,hw']
  ·rw [hbad (by rw [hok]; simp [ho])] at hr
   repeat' first|(refine hK _ ?_;clear hK)|(refine hK _ _ ?_;clear hK)|(clear hK;refine hK _ ?_;clear hK)|(clear hK;clear hK;refine hK _ ?_;clear hK)|(clear hK;clear hK;clear hK;refine hK _ ?_;clear hK)|(clear hK;clear hK;clear hK;clear hK;refine hK _ ?_;clear hK)|(refine zJ fun K hK=>?_)|((first | refine zH ?_ | refine zN rfl (by kernel_rfl) ?_ | refine zM ?_ | refine zK (by kernel_rfl) ?_);simp only [wJ,wI,strip])|((first | refine wIs fun K hK=>?_ | refine wOs fun K hK=>?_ | refine wQs fun K hK=>?_ | refine zU ?_ | refine zV ?_ | refine zW ?_ | refine zL ?_);simp [g0,g27,g28,g29,hlt,hltI,hw,he,hj,hej,h0j,h0k,hwj,hle,ht,hne,hls',ho])|(refine wIn ?_;refine And.intro (by kernel_rfl) ?_;try simp only [zX])|(first | refine zQ ?_ | refine zS ?_)|((first | refine zI ?_ | refine zO ?_ | refine zP ?_);try simp)|((first | refine zR ?_ | refine wOn ?_ | refine wQn ?_);try simp only [zX])|(refine zZ.pure (cr) rfl ?_)|(refine zZ.lent (cr) rfl ?_)|(refine zT.pure (cr) rfl ?_)|(refine zT.lent (cr) rfl ?_)|(refine zZ.own (cr) ?_)|(refine zY.pure (cr) rfl ?_)|(refine zY.lent (cr) rfl ?_)|(refine zY.own (cr) ?_)|(refine zZ.pure (ch) rfl ?_)|(refine zZ.lent (ch) rfl ?_)|(refine zT.pure (ch) rfl ?_)|(refine zT.lent (ch) rfl ?_)|(refine zZ.own (ch) ?_)|(refine zY.pure (ch) rfl ?_)|(refine zY.lent (ch) rfl ?_)|(refine zY.own (ch) ?_)|(refine zZ.pure (cf) rfl ?_)|(refine zZ.lent (cf) rfl ?_)|(refine zT.pure (cf) rfl ?_)|(refine zT.lent (cf) rfl ?_)|(refine zZ.own (cf) ?_)|(refine zY.pure (cf) rfl ?_)|(refine zY.lent (cf) rfl ?_)|(refine zY.own (cf) ?_)
   all_goals apply hr
   all_goals simp [Try.f12]
end Go.Proofs.Ytpilcadofjcdoaa
namespace Go.Proofs.Ytpilcadofjcdoaa
set_option linter.unusedSimpArgs false
set_option linter.unusedVariables false
open Go Go.Av
theorem fnd_mem : ∀ {l : List Zn} {p : List UInt8}, (fnd l p).2 = true -> (fnd l p).1 ∈ l /\ (fnd l p).1.p = p
 | [],_,h=>by simp [fnd] at h
 | z :: r, p, h => by
  rw [fnd] at h ⊢
  by_cases g : z.p = p
  ·simp [g]
  ·rw [if_neg g] at h ⊢
   obtain ⟨h1,h2⟩:=fnd_mem h
   exact ⟨by simp [h1],h2⟩
def tre (l : List Zn) : Bool := hdo l && allr (okR l) l.length
end Go.Proofs.Ytpilcadofjcdoaa
namespace Go.Proofs.Ytpilcadofjcdoaa
set_option linter.unusedSimpArgs false
set_option linter.unusedVariables false
open Go Go.Av
attribute [local irreducible] Go.Av.yQ Go.Av.zZ Go.Av.yG Go.Av.zT Go.Av.yH Go.Av.zY Go.Av.Con
theorem treeR_con (l : List Zn) (hz : ∀ z ∈ l, long z) : zF Try.prog 12 [.p (.sl 5 (zns l))] (.p (B (tre l))) := tree07_con l hz
theorem Zn.ofL {ps : List PV} (h : ShL [.str, .str, .int .i64, .int .i64, .int .i64] ps) : ∃ a : {z : Zn // long z}, ps = a.1.c := by
 obtain ⟨_,_,rfl,h0,h⟩:=h.cons
 obtain ⟨_,_,rfl,h1,h⟩:=h.cons
 obtain ⟨_,_,rfl,h2,h⟩:=h.cons
 obtain ⟨_,_,rfl,h3,h⟩:=h.cons
 obtain ⟨_,_,rfl,h4,h⟩:=h.cons
 obtain rfl:=h.nil
 obtain ⟨s,rfl,hs⟩:=h0.strI
 obtain ⟨d,rfl,hd⟩:=h1.strI
 obtain ⟨v,rfl,-⟩:=h2.intI
 obtain ⟨k,rfl,-⟩:=h3.intI
 obtain ⟨o,rfl,-⟩:=h4.intI
 have hl : ∀ s : ByteArray, s.size <= maxLen -> s.data.toList.length <= 9223372036854775807 := fun s hs => by
  have h1 : s.data.toList.length = s.size:=Array.length_toList
  have h2 : maxLen = 9223372036854775807:=rfl
  omega
 refine ⟨⟨⟨s.data.toList,d.data.toList,v,k,o⟩,hl s hs,hl d hd⟩,?_⟩
 obtain ⟨a,ha⟩:=bs_all s
 obtain ⟨b,hb⟩:=bs_all d
 subst ha;subst hb
 simp [Zn.c]
theorem Zn.open {p : PV} (hp : ShT Try.T 48 p) : ∃ z : Zn, long z /\ p = .agg z.c := by
 obtain ⟨ps,rfl,h⟩:=hp.agg (E:=[.str,.str,.int .i64,.int .i64,.int .i64]) rfl rfl rfl
 obtain ⟨⟨z,hz⟩,rfl⟩:=Zn.ofL h
 exact ⟨z,hz,rfl⟩
theorem Mb.ext4 {x y : Mb} : x = y ↔ x.i = y.i /\ x.r = y.r /\ x.w = y.w /\ x.g = y.g := by cases x; cases y; simp
theorem Cf.ext4 {x y : Cf} : x = y ↔ x.ep = y.ep /\ x.n = y.n /\ x.kind = y.kind /\ x.ms = y.ms := by cases x; cases y; simp
instance : DecidableEq Cf := fun x y => decidable_of_iff _ Cf.ext4.symm
structure Pt where
 (k : Int)
 (z : Zn)
 (s : Int)
 (c : Cf)
 deriving DecidableEq
def Pt.cells (x : Pt) : List PV := [I x.k, SB x.z.p, SB x.z.d, I x.z.v, I x.z.k, I x.z.o, I x.s, I x.c.ep, I x.c.n, I x.c.kind, .sl 4 (mbs x.c.ms)]
def pts (l : List Pt) : List (List PV) := l.map Pt.cells
@[simp] theorem pts_len (l : List Pt) : (pts l).length = l.length := by simp [pts]
@[simp] theorem pts_getElem (l : List Pt) (k : Nat) (h : k < (pts l).length) : (pts l)[k] = (l[k]'(by simpa using h)).cells := by simp [pts]
theorem pts_get {l : List Pt} {k : Nat} (h : k < l.length) : (pts l)[k]? = some [I l[k].k, SB l[k].z.p, SB l[k].z.d, I l[k].z.v, I l[k].z.k, I l[k].z.o, I l[k].s, I l[k].c.ep, I l[k].c.n, I l[k].c.kind, .sl 4 (mbs l[k].c.ms)] := by simp [pts, h, Pt.cells]
structure Sv where
 (ns : List Zn)
 (ss : List Int)
 (nx : Int)
 (c : Cf)
 (ae an : Int)
 deriving DecidableEq
def Sv.cells (s : Sv) : List PV := [.sl 5 (zns s.ns), .sl 1 (ints s.ss), I s.nx, I s.c.ep, I s.c.n, I s.c.kind, .sl 4 (mbs s.c.ms), I s.ae, I s.an]
end Go.Proofs.Ytpilcadofjcdoaa
