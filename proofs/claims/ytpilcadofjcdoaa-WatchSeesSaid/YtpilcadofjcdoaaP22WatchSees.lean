/- Texts that the proof needs: PB PL PC. -/
import Derived.Test.YtpilcadofjcdoaaP21WatchSees
namespace Go.Proofs.Ytpilcadofjcdoaa
set_option linter.unusedSimpArgs false
set_option linter.unusedVariables false
open Go Go.Av
attribute [local irreducible] Go.Av.yQ Go.Av.zZ Go.Av.yG Go.Av.zT Go.Av.yH Go.Av.zY Go.Av.Con
def g : List UInt8 -> List UInt8 -> Bool
 | c,[]=>nm c
 | c,b :: r=>if b = 47 then nm c && g [] r else g (c ++ [b]) r
def nmd : List UInt8 -> Bool
 | []=>false
 | b :: r=>if b = 47 then g [] r else false
def chk (l : List UInt8) : Int := if 64 < l.length then 5 else if l = [47] \/ nmd l = true then 0 else 1
theorem g_step (c l : List UInt8) (k : Nat) (h : k < l.length) : g c (l.drop k) = if l[k] = 47 then nm c && g [] (l.drop (k + 1)) else g (c ++ [l[k]]) (l.drop (k + 1)) := by
 rw [List.drop_eq_getElem_cons h];rfl
theorem g_end (c l : List UInt8) (k : Nat) (h : l.length <= k) : g c (l.drop k) = nm c := by
 rw [List.drop_of_length_le h];cases c <;> rfl
theorem namedI {Q : AExit -> St -> Prop} {st : St} (R : List UInt8) (hl : R.length <= 9223372036854775806)
 (hbrk : g [] R = false -> ∀ st,Q (.exit 0) st) (hcon : ∀ i,i < R.length -> g [] R = nmd (R.drop i) -> ∀ st,st.s 3 = .p (SB (R.drop i)) -> Q (.exit 1) st)
 (hend : g [] R = nm R -> ∀ st,st.s 3 = .p (SB R) -> Q (.exit 2) st) (h0 : st.s 3 = .p (SB R) /\ st.s 14 = .p (I R.length) /\ st.s 15 = .p (I 0)) :
 WC Try.prog Try.T 33 (lp Try.f54 1) Q st:=by
 obtain ⟨g3,g14,g15⟩:=h0
 refine xS (fun N st=>∃ k,k + N = R.length /\ g [] R = g (R.take k) (R.drop k) /\ st.s 3 = .p (SB R) /\ st.s 14 = .p (I R.length) /\ st.s 15 = .p (I k)) R.length ⟨0,by simp,by simp,g3,g14,g15⟩ fun K N st hL ⟨k,hk,ha,g3,g14,g15⟩=>?_
 by_cases hlt : k < R.length
 ·have hw := xY k _ hlt (by omega)
  have hs:=g_step (R.take k) R k hlt
  have hle : k <= R.length:=by omega
  by_cases d : R[k] = 47
  ·have d' : (R[k].toNat : Int) = 47 := by rw [d]; rfl
   rw [if_pos d] at hs
   have c:=isName_con (R.take k) (by simp;omega)
   cases hn : nm (R.take k)
   ·rw [hn] at c hs
    repeat' first|(refine hK _ ?_;clear hK)|(refine hK _ _ ?_;clear hK)|(clear hK;refine hK _ ?_;clear hK)|(clear hK;clear hK;refine hK _ ?_;clear hK)|(clear hK;clear hK;clear hK;refine hK _ ?_;clear hK)|(clear hK;clear hK;clear hK;clear hK;refine hK _ ?_;clear hK)|(refine zJ fun K hK=>?_)|((first | refine zH ?_ | refine zN rfl (by kernel_rfl) ?_ | refine zM ?_ | refine zK (by kernel_rfl) ?_);simp only [wJ,wI,strip])|((first | refine wIs fun K hK=>?_ | refine wOs fun K hK=>?_ | refine wQs fun K hK=>?_ | refine zU ?_ | refine zV ?_ | refine zW ?_ | refine zL ?_);simp [g3,g14,g15,hlt,hle,hw,d,d'])|(refine wIn ?_;refine And.intro (by kernel_rfl) ?_;try simp only [zX])|(first | refine zQ ?_ | refine zS ?_)|((first | refine zI ?_ | refine zO ?_ | refine zP ?_);try simp)|((first | refine zR ?_ | refine wOn ?_ | refine wQn ?_);try simp only [zX])|(refine zZ.pure (c) rfl ?_)|(refine zZ.lent (c) rfl ?_)|(refine zT.pure (c) rfl ?_)|(refine zT.lent (c) rfl ?_)|(refine zZ.own (c) ?_)|(refine zY.pure (c) rfl ?_)|(refine zY.lent (c) rfl ?_)|(refine zY.own (c) ?_)
    exact hbrk (by rw [ha,hs];rfl) _
   ·rw [hn] at c hs
    repeat' first|(refine hK _ ?_;clear hK)|(refine hK _ _ ?_;clear hK)|(clear hK;refine hK _ ?_;clear hK)|(clear hK;clear hK;refine hK _ ?_;clear hK)|(clear hK;clear hK;clear hK;refine hK _ ?_;clear hK)|(clear hK;clear hK;clear hK;clear hK;refine hK _ ?_;clear hK)|(refine zJ fun K hK=>?_)|((first | refine zH ?_ | refine zN rfl (by kernel_rfl) ?_ | refine zM ?_ | refine zK (by kernel_rfl) ?_);simp only [wJ,wI,strip])|((first | refine wIs fun K hK=>?_ | refine wOs fun K hK=>?_ | refine wQs fun K hK=>?_ | refine zU ?_ | refine zV ?_ | refine zW ?_ | refine zL ?_);simp [g3,g14,g15,hlt,hle,hw,d,d'])|(refine wIn ?_;refine And.intro (by kernel_rfl) ?_;try simp only [zX])|(first | refine zQ ?_ | refine zS ?_)|((first | refine zI ?_ | refine zO ?_ | refine zP ?_);try simp)|((first | refine zR ?_ | refine wOn ?_ | refine wQn ?_);try simp only [zX])|(refine zZ.pure (c) rfl ?_)|(refine zZ.lent (c) rfl ?_)|(refine zT.pure (c) rfl ?_)|(refine zT.lent (c) rfl ?_)|(refine zZ.own (c) ?_)|(refine zY.pure (c) rfl ?_)|(refine zY.lent (c) rfl ?_)|(refine zY.own (c) ?_)
    refine hcon k hlt ?_ _ (by simp)
    rw [ha,hs,List.drop_eq_getElem_cons hlt,nmd,if_pos d,Bool.true_and]
  ·have d' : ¬ (R[k].toNat : Int) = 47 := fun h => d (UInt8.toNat_inj.1 (by exact (by exact_mod_cast h : R[k].toNat = 47)))
   rw [if_neg d,<- List.take_succ_eq_append_getElem hlt] at hs
   repeat' first|(refine hK _ ?_;clear hK)|(refine hK _ _ ?_;clear hK)|(clear hK;refine hK _ ?_;clear hK)|(clear hK;clear hK;refine hK _ ?_;clear hK)|(clear hK;clear hK;clear hK;refine hK _ ?_;clear hK)|(clear hK;clear hK;clear hK;clear hK;refine hK _ ?_;clear hK)|(refine zJ fun K hK=>?_)|((first | refine zH ?_ | refine zN rfl (by kernel_rfl) ?_ | refine zM ?_ | refine zK (by kernel_rfl) ?_);simp only [wJ,wI,strip])|((first | refine wIs fun K hK=>?_ | refine wOs fun K hK=>?_ | refine wQs fun K hK=>?_ | refine zU ?_ | refine zV ?_ | refine zW ?_ | refine zL ?_);simp [g3,g14,g15,hlt,hle,hw,d,d'])|(refine wIn ?_;refine And.intro (by kernel_rfl) ?_;try simp only [zX])|(first | refine zQ ?_ | refine zS ?_)|((first | refine zI ?_ | refine zO ?_ | refine zP ?_);try simp)|((first | refine zR ?_ | refine wOn ?_ | refine wQn ?_);try simp only [zX])
   refine hL _ (N - 1) (by omega) ⟨k + 1,by omega,by rw [ha,hs],?_⟩
   simp [g3,g14,g15,hw]
 ·have e : R.take k = R := List.take_of_length_le (by omega)
  rw [g_end _ _ _ (by omega),e] at ha
  repeat' first|(refine hK _ ?_;clear hK)|(refine hK _ _ ?_;clear hK)|(clear hK;refine hK _ ?_;clear hK)|(clear hK;clear hK;refine hK _ ?_;clear hK)|(clear hK;clear hK;clear hK;refine hK _ ?_;clear hK)|(clear hK;clear hK;clear hK;clear hK;refine hK _ ?_;clear hK)|(refine zJ fun K hK=>?_)|((first | refine zH ?_ | refine zN rfl (by kernel_rfl) ?_ | refine zM ?_ | refine zK (by kernel_rfl) ?_);simp only [wJ,wI,strip])|((first | refine wIs fun K hK=>?_ | refine wOs fun K hK=>?_ | refine wQs fun K hK=>?_ | refine zU ?_ | refine zV ?_ | refine zW ?_ | refine zL ?_);simp [g3,g14,g15,hlt])|(refine wIn ?_;refine And.intro (by kernel_rfl) ?_;try simp only [zX])|(first | refine zQ ?_ | refine zS ?_)|((first | refine zI ?_ | refine zO ?_ | refine zP ?_);try simp)|((first | refine zR ?_ | refine wOn ?_ | refine wQn ?_);try simp only [zX])
  exact hend ha _ (by simp [g3])
set_option maxHeartbeats 2000000 in
theorem named_con (l : List UInt8) (hl : l.length <= 9223372036854775807) : zF Try.prog 54 [.p (SB l)] (.p (B (nmd l))) := by
 refine zG Try.tab Try.mixed Try.func54 rfl rfl Try.ntmps54 (by simp) (by simp) fun Q hr hn=>?_
 repeat' first|(refine hK _ ?_;clear hK)|(refine hK _ _ ?_;clear hK)|(clear hK;refine hK _ ?_;clear hK)|(clear hK;clear hK;refine hK _ ?_;clear hK)|(clear hK;clear hK;clear hK;refine hK _ ?_;clear hK)|(clear hK;clear hK;clear hK;clear hK;refine hK _ ?_;clear hK)|(refine zJ fun K hK=>?_)|((first | refine zH ?_ | refine zN rfl (by kernel_rfl) ?_ | refine zM ?_ | refine zK (by kernel_rfl) ?_);simp only [wJ,wI,strip])|((first | refine wIs fun K hK=>?_ | refine wOs fun K hK=>?_ | refine wQs fun K hK=>?_ | refine zU ?_ | refine zV ?_ | refine zW ?_ | refine zL ?_);simp)|(refine wIn ?_;refine And.intro (by kernel_rfl) ?_;try simp only [zX])|(first | refine zQ ?_ | refine zS ?_)|((first | refine zI ?_ | refine zO ?_ | refine zP ?_);try simp)|((first | refine zR ?_ | refine wOn ?_ | refine wQn ?_);try simp only [zX])
 refine xS (fun N st=>∃ r,r.length = N /\ N <= 9223372036854775807 /\ nmd l = nmd r /\ st.s 3 = .p (SB r)) l.length ⟨l,rfl,hl,rfl,by simp⟩ fun K N st hL ⟨r,hrN,hN,hd,g3⟩=>?_
 cases r with
 | nil =>
  repeat' first|(refine hK _ ?_;clear hK)|(refine hK _ _ ?_;clear hK)|(clear hK;refine hK _ ?_;clear hK)|(clear hK;clear hK;refine hK _ ?_;clear hK)|(clear hK;clear hK;clear hK;refine hK _ ?_;clear hK)|(clear hK;clear hK;clear hK;clear hK;refine hK _ ?_;clear hK)|(refine zJ fun K hK=>?_)|((first | refine zH ?_ | refine zN rfl (by kernel_rfl) ?_ | refine zM ?_ | refine zK (by kernel_rfl) ?_);simp only [wJ,wI,strip])|((first | refine wIs fun K hK=>?_ | refine wOs fun K hK=>?_ | refine wQs fun K hK=>?_ | refine zU ?_ | refine zV ?_ | refine zW ?_ | refine zL ?_);simp [g3])|(refine wIn ?_;refine And.intro (by kernel_rfl) ?_;try simp only [zX])|(first | refine zQ ?_ | refine zS ?_)|((first | refine zI ?_ | refine zO ?_ | refine zP ?_);try simp)|((first | refine zR ?_ | refine wOn ?_ | refine wQn ?_);try simp only [zX])
  all_goals apply hr
  all_goals simp [Try.f54,show nmd l = false from hd]
 | cons b R =>
  simp only [List.length_cons] at hrN
  by_cases d : b = 47
  ·subst d
   have hlp:=fun {Q} {st} h h1 h2 h'=>namedI (Q:=Q) (st:=st) R (by omega) h h1 h2 h'
   have hd' : nmd l = g [] R:=hd
   repeat' first|(refine hlp ?_ ?_ ?_ ⟨by simp,by simp,by simp⟩)|(refine hK _ ?_;clear hK)|(refine hK _ _ ?_;clear hK)|(clear hK;refine hK _ ?_;clear hK)|(clear hK;clear hK;refine hK _ ?_;clear hK)|(clear hK;clear hK;clear hK;refine hK _ ?_;clear hK)|(clear hK;clear hK;clear hK;clear hK;refine hK _ ?_;clear hK)|(refine zJ fun K hK=>?_)|((first | refine zH ?_ | refine zN rfl (by kernel_rfl) ?_ | refine zM ?_ | refine zK (by kernel_rfl) ?_);simp only [wJ,wI,strip])|((first | refine wIs fun K hK=>?_ | refine wOs fun K hK=>?_ | refine wQs fun K hK=>?_ | refine zU ?_ | refine zV ?_ | refine zW ?_ | refine zL ?_);simp [g3])|(refine wIn ?_;refine And.intro (by kernel_rfl) ?_;try simp only [zX])|(first | refine zQ ?_ | refine zS ?_)|((first | refine zI ?_ | refine zO ?_ | refine zP ?_);try simp)|((first | refine zR ?_ | refine wOn ?_ | refine wQn ?_);try simp only [zX])
   ·intro hg st
    rw [hg] at hd'
    simp
    repeat' first|(refine hK _ ?_;clear hK)|(refine hK _ _ ?_;clear hK)|(clear hK;refine hK _ ?_;clear hK)|(clear hK;clear hK;refine hK _ ?_;clear hK)|(clear hK;clear hK;clear hK;refine hK _ ?_;clear hK)|(clear hK;clear hK;clear hK;clear hK;refine hK _ ?_;clear hK)|(refine zJ fun K hK=>?_)|((first | refine zH ?_ | refine zN rfl (by kernel_rfl) ?_ | refine zM ?_ | refine zK (by kernel_rfl) ?_);simp only [wJ,wI,strip])|((first | refine wIs fun K hK=>?_ | refine wOs fun K hK=>?_ | refine wQs fun K hK=>?_ | refine zU ?_ | refine zV ?_ | refine zW ?_ | refine zL ?_);simp)|(refine wIn ?_;refine And.intro (by kernel_rfl) ?_;try simp only [zX])|(first | refine zQ ?_ | refine zS ?_)|((first | refine zI ?_ | refine zO ?_ | refine zP ?_);try simp)|((first | refine zR ?_ | refine wOn ?_ | refine wQn ?_);try simp only [zX])
    all_goals apply hr
    all_goals simp [Try.f54,hd']
   ·intro i hi hg st g3
    rw [hg] at hd'
    simp
    refine hL _ (R.drop i).length (by simp;omega) ⟨R.drop i,rfl,by simp;omega,hd',?_⟩
    simp [g3]
   ·intro hg st g3
    rw [hg] at hd'
    have c:=isName_con R (by omega)
    simp
    repeat' first|(refine hK _ ?_;clear hK)|(refine hK _ _ ?_;clear hK)|(clear hK;refine hK _ ?_;clear hK)|(clear hK;clear hK;refine hK _ ?_;clear hK)|(clear hK;clear hK;clear hK;refine hK _ ?_;clear hK)|(clear hK;clear hK;clear hK;clear hK;refine hK _ ?_;clear hK)|(refine zJ fun K hK=>?_)|((first | refine zH ?_ | refine zN rfl (by kernel_rfl) ?_ | refine zM ?_ | refine zK (by kernel_rfl) ?_);simp only [wJ,wI,strip])|((first | refine wIs fun K hK=>?_ | refine wOs fun K hK=>?_ | refine wQs fun K hK=>?_ | refine zU ?_ | refine zV ?_ | refine zW ?_ | refine zL ?_);simp [g3])|(refine wIn ?_;refine And.intro (by kernel_rfl) ?_;try simp only [zX])|(first | refine zQ ?_ | refine zS ?_)|((first | refine zI ?_ | refine zO ?_ | refine zP ?_);try simp)|((first | refine zR ?_ | refine wOn ?_ | refine wQn ?_);try simp only [zX])|(refine zZ.pure (c) rfl ?_)|(refine zZ.lent (c) rfl ?_)|(refine zT.pure (c) rfl ?_)|(refine zT.lent (c) rfl ?_)|(refine zZ.own (c) ?_)|(refine zY.pure (c) rfl ?_)|(refine zY.lent (c) rfl ?_)|(refine zY.own (c) ?_)
    all_goals apply hr
    all_goals simp [Try.f54,hd']
  ·have d' : ¬ (b.toNat : Int) = 47 := fun h => d (UInt8.toNat_inj.1 (by exact (by exact_mod_cast h : b.toNat = 47)))
   have hd' : nmd l = false:=by rw [hd,nmd,if_neg d]
   repeat' first|(refine hK _ ?_;clear hK)|(refine hK _ _ ?_;clear hK)|(clear hK;refine hK _ ?_;clear hK)|(clear hK;clear hK;refine hK _ ?_;clear hK)|(clear hK;clear hK;clear hK;refine hK _ ?_;clear hK)|(clear hK;clear hK;clear hK;clear hK;refine hK _ ?_;clear hK)|(refine zJ fun K hK=>?_)|((first | refine zH ?_ | refine zN rfl (by kernel_rfl) ?_ | refine zM ?_ | refine zK (by kernel_rfl) ?_);simp only [wJ,wI,strip])|((first | refine wIs fun K hK=>?_ | refine wOs fun K hK=>?_ | refine wQs fun K hK=>?_ | refine zU ?_ | refine zV ?_ | refine zW ?_ | refine zL ?_);simp [g3,d,d'])|(refine wIn ?_;refine And.intro (by kernel_rfl) ?_;try simp only [zX])|(first | refine zQ ?_ | refine zS ?_)|((first | refine zI ?_ | refine zO ?_ | refine zP ?_);try simp)|((first | refine zR ?_ | refine wOn ?_ | refine wQn ?_);try simp only [zX])
   all_goals apply hr
   all_goals simp [Try.f54,hd']
theorem check_con (l : List UInt8) (hl : l.length <= 9223372036854775807) : zF Try.prog 35 [.p (SB l)] (.p (I (chk l))) := by
 have c:=named_con l hl
 unfold chk
 by_cases h1 : 64 < l.length
 ·have h1' : (64 : Int) < l.length := by omega
  rw [if_pos h1]
  refine zG Try.tab Try.mixed Try.func35 rfl rfl Try.ntmps35 (by simp) (by simp) fun Q hr hn=>?_
  repeat' first|(refine hK _ ?_;clear hK)|(refine hK _ _ ?_;clear hK)|(clear hK;refine hK _ ?_;clear hK)|(clear hK;clear hK;refine hK _ ?_;clear hK)|(clear hK;clear hK;clear hK;refine hK _ ?_;clear hK)|(clear hK;clear hK;clear hK;clear hK;refine hK _ ?_;clear hK)|(refine zJ fun K hK=>?_)|((first | refine zH ?_ | refine zN rfl (by kernel_rfl) ?_ | refine zM ?_ | refine zK (by kernel_rfl) ?_);simp only [wJ,wI,strip])|((first | refine wIs fun K hK=>?_ | refine wOs fun K hK=>?_ | refine wQs fun K hK=>?_ | refine zU ?_ | refine zV ?_ | refine zW ?_ | refine zL ?_);simp [h1,h1'])|(refine wIn ?_;refine And.intro (by kernel_rfl) ?_;try simp only [zX])|(first | refine zQ ?_ | refine zS ?_)|((first | refine zI ?_ | refine zO ?_ | refine zP ?_);try simp)|((first | refine zR ?_ | refine wOn ?_ | refine wQn ?_);try simp only [zX])
  all_goals apply hr
  all_goals simp [Try.f35]
 have h1' : ¬ (64 : Int) < l.length:=by omega
 rw [if_neg h1]
 by_cases h2 : l = [47]
 ·subst h2
  rw [if_pos (.inl rfl)]
  refine zG Try.tab Try.mixed Try.func35 rfl rfl Try.ntmps35 (by simp) (by simp) fun Q hr hn=>?_
  repeat' first|(refine hK _ ?_;clear hK)|(refine hK _ _ ?_;clear hK)|(clear hK;refine hK _ ?_;clear hK)|(clear hK;clear hK;refine hK _ ?_;clear hK)|(clear hK;clear hK;clear hK;refine hK _ ?_;clear hK)|(clear hK;clear hK;clear hK;clear hK;refine hK _ ?_;clear hK)|(refine zJ fun K hK=>?_)|((first | refine zH ?_ | refine zN rfl (by kernel_rfl) ?_ | refine zM ?_ | refine zK (by kernel_rfl) ?_);simp only [wJ,wI,strip])|((first | refine wIs fun K hK=>?_ | refine wOs fun K hK=>?_ | refine wQs fun K hK=>?_ | refine zU ?_ | refine zV ?_ | refine zW ?_ | refine zL ?_);simp)|(refine wIn ?_;refine And.intro (by kernel_rfl) ?_;try simp only [zX])|(first | refine zQ ?_ | refine zS ?_)|((first | refine zI ?_ | refine zO ?_ | refine zP ?_);try simp)|((first | refine zR ?_ | refine wOn ?_ | refine wQn ?_);try simp only [zX])|(refine zZ.pure (c) rfl ?_)|(refine zZ.lent (c) rfl ?_)|(refine zT.pure (c) rfl ?_)|(refine zT.lent (c) rfl ?_)|(refine zZ.own (c) ?_)|(refine zY.pure (c) rfl ?_)|(refine zY.lent (c) rfl ?_)|(refine zY.own (c) ?_)
  all_goals apply hr
  all_goals simp [Try.f35]
 ·cases h3 : nmd l
  ·rw [h3] at c
   rw [if_neg (by simp [h2])]
   refine zG Try.tab Try.mixed Try.func35 rfl rfl Try.ntmps35 (by simp) (by simp) fun Q hr hn=>?_
   repeat' first|(refine hK _ ?_;clear hK)|(refine hK _ _ ?_;clear hK)|(clear hK;refine hK _ ?_;clear hK)|(clear hK;clear hK;refine hK _ ?_;clear hK)|(clear hK;clear hK;clear hK;refine hK _ ?_;clear hK)|(clear hK;clear hK;clear hK;clear hK;refine hK _ ?_;clear hK)|(refine zJ fun K hK=>?_)|((first | refine zH ?_ | refine zN rfl (by kernel_rfl) ?_ | refine zM ?_ | refine zK (by kernel_rfl) ?_);simp only [wJ,wI,strip])|((first | refine wIs fun K hK=>?_ | refine wOs fun K hK=>?_ | refine wQs fun K hK=>?_ | refine zU ?_ | refine zV ?_ | refine zW ?_ | refine zL ?_);simp [h1,h1',h2])|(refine wIn ?_;refine And.intro (by kernel_rfl) ?_;try simp only [zX])|(first | refine zQ ?_ | refine zS ?_)|((first | refine zI ?_ | refine zO ?_ | refine zP ?_);try simp)|((first | refine zR ?_ | refine wOn ?_ | refine wQn ?_);try simp only [zX])|(refine zZ.pure (c) rfl ?_)|(refine zZ.lent (c) rfl ?_)|(refine zT.pure (c) rfl ?_)|(refine zT.lent (c) rfl ?_)|(refine zZ.own (c) ?_)|(refine zY.pure (c) rfl ?_)|(refine zY.lent (c) rfl ?_)|(refine zY.own (c) ?_)
   all_goals apply hr
   all_goals simp [Try.f35]
  ·rw [h3] at c
   rw [if_pos (.inr rfl)]
   refine zG Try.tab Try.mixed Try.func35 rfl rfl Try.ntmps35 (by simp) (by simp) fun Q hr hn=>?_
   repeat' first|(refine hK _ ?_;clear hK)|(refine hK _ _ ?_;clear hK)|(clear hK;refine hK _ ?_;clear hK)|(clear hK;clear hK;refine hK _ ?_;clear hK)|(clear hK;clear hK;clear hK;refine hK _ ?_;clear hK)|(clear hK;clear hK;clear hK;clear hK;refine hK _ ?_;clear hK)|(refine zJ fun K hK=>?_)|((first | refine zH ?_ | refine zN rfl (by kernel_rfl) ?_ | refine zM ?_ | refine zK (by kernel_rfl) ?_);simp only [wJ,wI,strip])|((first | refine wIs fun K hK=>?_ | refine wOs fun K hK=>?_ | refine wQs fun K hK=>?_ | refine zU ?_ | refine zV ?_ | refine zW ?_ | refine zL ?_);simp [h1,h1',h2])|(refine wIn ?_;refine And.intro (by kernel_rfl) ?_;try simp only [zX])|(first | refine zQ ?_ | refine zS ?_)|((first | refine zI ?_ | refine zO ?_ | refine zP ?_);try simp)|((first | refine zR ?_ | refine wOn ?_ | refine wQn ?_);try simp only [zX])|(refine zZ.pure (c) rfl ?_)|(refine zZ.lent (c) rfl ?_)|(refine zT.pure (c) rfl ?_)|(refine zT.lent (c) rfl ?_)|(refine zZ.own (c) ?_)|(refine zY.pure (c) rfl ?_)|(refine zY.lent (c) rfl ?_)|(refine zY.own (c) ?_)
   all_goals apply hr
   all_goals simp [Try.f35]
theorem check03L {Q : AExit -> St -> Prop} {st : St} (l : List UInt8) (hl : l.length <= 64) (h1 : 1 <= l.length) (v : Bool) (hv : g [] (l.drop 1) = v)
 (hret : v = false -> ∀ st,st.s 2 = .p (I 1) -> Q .ret st)
 (hend : ∀ f,f <= l.length -> nm (l.drop f) = v -> ∀ st,st.s 0 = .p (SB l) /\ st.s 3 = .p (I f) -> Q (.exit 0) st) (h0 : st.s 0 = .p (SB l) /\ st.s 3 = .p (I 1) /\ st.s 4 = .p (I 1)) :
 WC Try.prog Try.T 42 (lp Try.f29 0) Q st:=by
 obtain ⟨g0,g3,g4⟩:=h0
 refine xS (fun N st=>∃ k f,k + N = l.length /\ f <= k /\ g ((l.take k).drop f) (l.drop k) = v /\ st.s 0 = .p (SB l) /\ st.s 3 = .p (I f) /\ st.s 4 = .p (I k)) (l.length - 1) ⟨1,1,by omega,by omega,by rw [<- hv];congr 1;simp <;> omega,g0,g3,g4⟩ fun K N st hL ⟨k,f,hk,hf,ha,g0,g3,g4⟩=>?_
 by_cases hlt : k < l.length
 ·have hw := xY k _ hlt (by omega)
  have hs:=g_step ((l.take k).drop f) l k hlt
  have hle : k <= l.length:=by omega
  have hkn : ¬ (k : Int) = l.length:=by omega
  have hkn' : ¬ k = l.length:=by omega
  by_cases d : l[k] = 47
  ·have d' : (l[k].toNat : Int) = 47 := by rw [d]; rfl
   rw [if_pos d] at hs
   have c:=isName03_con ((l.take k).drop f) (by simp;omega)
   cases hn : nm ((l.take k).drop f)
   ·rw [hn] at c hs
    repeat' first|(refine hK _ ?_;clear hK)|(refine hK _ _ ?_;clear hK)|(clear hK;refine hK _ ?_;clear hK)|(clear hK;clear hK;refine hK _ ?_;clear hK)|(clear hK;clear hK;clear hK;refine hK _ ?_;clear hK)|(clear hK;clear hK;clear hK;clear hK;refine hK _ ?_;clear hK)|(refine zJ fun K hK=>?_)|((first | refine zH ?_ | refine zN rfl (by kernel_rfl) ?_ | refine zM ?_ | refine zK (by kernel_rfl) ?_);simp only [wJ,wI,strip])|((first | refine wIs fun K hK=>?_ | refine wOs fun K hK=>?_ | refine wQs fun K hK=>?_ | refine zU ?_ | refine zV ?_ | refine zW ?_ | refine zL ?_);simp [g0,g3,g4,hlt,hle,hf,hkn,hkn',hw,d,d'])|(refine wIn ?_;refine And.intro (by kernel_rfl) ?_;try simp only [zX])|(first | refine zQ ?_ | refine zS ?_)|((first | refine zI ?_ | refine zO ?_ | refine zP ?_);try simp)|((first | refine zR ?_ | refine wOn ?_ | refine wQn ?_);try simp only [zX])|(refine zZ.pure (c) rfl ?_)|(refine zZ.lent (c) rfl ?_)|(refine zT.pure (c) rfl ?_)|(refine zT.lent (c) rfl ?_)|(refine zZ.own (c) ?_)|(refine zY.pure (c) rfl ?_)|(refine zY.lent (c) rfl ?_)|(refine zY.own (c) ?_)
    exact hret (by rw [<- ha,hs];rfl) _ (by simp)
   ·rw [hn] at c hs
    repeat' first|(refine hK _ ?_;clear hK)|(refine hK _ _ ?_;clear hK)|(clear hK;refine hK _ ?_;clear hK)|(clear hK;clear hK;refine hK _ ?_;clear hK)|(clear hK;clear hK;clear hK;refine hK _ ?_;clear hK)|(clear hK;clear hK;clear hK;clear hK;refine hK _ ?_;clear hK)|(refine zJ fun K hK=>?_)|((first | refine zH ?_ | refine zN rfl (by kernel_rfl) ?_ | refine zM ?_ | refine zK (by kernel_rfl) ?_);simp only [wJ,wI,strip])|((first | refine wIs fun K hK=>?_ | refine wOs fun K hK=>?_ | refine wQs fun K hK=>?_ | refine zU ?_ | refine zV ?_ | refine zW ?_ | refine zL ?_);simp [g0,g3,g4,hlt,hle,hf,hkn,hkn',hw,d,d'])|(refine wIn ?_;refine And.intro (by kernel_rfl) ?_;try simp only [zX])|(first | refine zQ ?_ | refine zS ?_)|((first | refine zI ?_ | refine zO ?_ | refine zP ?_);try simp)|((first | refine zR ?_ | refine wOn ?_ | refine wQn ?_);try simp only [zX])|(refine zZ.pure (c) rfl ?_)|(refine zZ.lent (c) rfl ?_)|(refine zT.pure (c) rfl ?_)|(refine zT.lent (c) rfl ?_)|(refine zZ.own (c) ?_)|(refine zY.pure (c) rfl ?_)|(refine zY.lent (c) rfl ?_)|(refine zY.own (c) ?_)
    refine hL _ (N - 1) (by omega) ⟨k + 1,k + 1,by omega,by omega,?_,?_⟩
    ·rw [<- ha,hs,Bool.true_and];congr 1;simp <;> omega
    ·simp [g0,g3,g4,hw]
  ·have d' : ¬ (l[k].toNat : Int) = 47 := fun h => d (UInt8.toNat_inj.1 (by exact (by exact_mod_cast h : l[k].toNat = 47)))
   rw [if_neg d] at hs
   repeat' first|(refine hK _ ?_;clear hK)|(refine hK _ _ ?_;clear hK)|(clear hK;refine hK _ ?_;clear hK)|(clear hK;clear hK;refine hK _ ?_;clear hK)|(clear hK;clear hK;clear hK;refine hK _ ?_;clear hK)|(clear hK;clear hK;clear hK;clear hK;refine hK _ ?_;clear hK)|(refine zJ fun K hK=>?_)|((first | refine zH ?_ | refine zN rfl (by kernel_rfl) ?_ | refine zM ?_ | refine zK (by kernel_rfl) ?_);simp only [wJ,wI,strip])|((first | refine wIs fun K hK=>?_ | refine wOs fun K hK=>?_ | refine wQs fun K hK=>?_ | refine zU ?_ | refine zV ?_ | refine zW ?_ | refine zL ?_);simp [g0,g3,g4,hlt,hle,hf,hkn,hkn',hw,d,d'])|(refine wIn ?_;refine And.intro (by kernel_rfl) ?_;try simp only [zX])|(first | refine zQ ?_ | refine zS ?_)|((first | refine zI ?_ | refine zO ?_ | refine zP ?_);try simp)|((first | refine zR ?_ | refine wOn ?_ | refine wQn ?_);try simp only [zX])
   refine hL _ (N - 1) (by omega) ⟨k + 1,f,by omega,by omega,?_,?_⟩
   ·rw [<- ha,hs,List.take_succ_eq_append_getElem hlt,List.drop_append_of_le_length (by simp;omega)]
   ·simp [g0,g3,g4,hw]
 ·have e : l.take k = l := List.take_of_length_le (by omega)
  obtain rfl : k = l.length:=by omega
  rw [g_end _ _ _ (by omega),e] at ha
  repeat' first|(refine hK _ ?_;clear hK)|(refine hK _ _ ?_;clear hK)|(clear hK;refine hK _ ?_;clear hK)|(clear hK;clear hK;refine hK _ ?_;clear hK)|(clear hK;clear hK;clear hK;refine hK _ ?_;clear hK)|(clear hK;clear hK;clear hK;clear hK;refine hK _ ?_;clear hK)|(refine zJ fun K hK=>?_)|((first | refine zH ?_ | refine zN rfl (by kernel_rfl) ?_ | refine zM ?_ | refine zK (by kernel_rfl) ?_);simp only [wJ,wI,strip])|((first | refine wIs fun K hK=>?_ | refine wOs fun K hK=>?_ | refine wQs fun K hK=>?_ | refine zU ?_ | refine zV ?_ | refine zW ?_ | refine zL ?_);simp [g0,g3,g4])|(refine wIn ?_;refine And.intro (by kernel_rfl) ?_;try simp only [zX])|(first | refine zQ ?_ | refine zS ?_)|((first | refine zI ?_ | refine zO ?_ | refine zP ?_);try simp)|((first | refine zR ?_ | refine wOn ?_ | refine wQn ?_);try simp only [zX])
  exact hend f hf ha _ (by simp [g0,g3])
set_option maxHeartbeats 2000000 in
theorem wR (l : List UInt8) (hl : l.length <= 9223372036854775807) : zF Try.prog 29 [.p (SB l)] (.p (I (chk l))) := by
 unfold chk
 by_cases h1 : 64 < l.length
 ·have h1' : (64 : Int) < l.length := by omega
  rw [if_pos h1]
  refine zG Try.tab Try.mixed Try.func29 rfl rfl Try.ntmps29 (by simp) (by simp) fun Q hr hn=>?_
  repeat' first|(refine hK _ ?_;clear hK)|(refine hK _ _ ?_;clear hK)|(clear hK;refine hK _ ?_;clear hK)|(clear hK;clear hK;refine hK _ ?_;clear hK)|(clear hK;clear hK;clear hK;refine hK _ ?_;clear hK)|(clear hK;clear hK;clear hK;clear hK;refine hK _ ?_;clear hK)|(refine zJ fun K hK=>?_)|((first | refine zH ?_ | refine zN rfl (by kernel_rfl) ?_ | refine zM ?_ | refine zK (by kernel_rfl) ?_);simp only [wJ,wI,strip])|((first | refine wIs fun K hK=>?_ | refine wOs fun K hK=>?_ | refine wQs fun K hK=>?_ | refine zU ?_ | refine zV ?_ | refine zW ?_ | refine zL ?_);simp [h1,h1'])|(refine wIn ?_;refine And.intro (by kernel_rfl) ?_;try simp only [zX])|(first | refine zQ ?_ | refine zS ?_)|((first | refine zI ?_ | refine zO ?_ | refine zP ?_);try simp)|((first | refine zR ?_ | refine wOn ?_ | refine wQn ?_);try simp only [zX])
  all_goals apply hr
  all_goals simp [Try.f29]
 have h1' : ¬ (64 : Int) < l.length:=by omega
 rw [if_neg h1]
 by_cases h2 : l = [47]
 ·subst h2
  rw [if_pos (.inl rfl)]
  refine zG Try.tab Try.mixed Try.func29 rfl rfl Try.ntmps29 (by simp) (by simp) fun Q hr hn=>?_
  repeat' first|(refine hK _ ?_;clear hK)|(refine hK _ _ ?_;clear hK)|(clear hK;refine hK _ ?_;clear hK)|(clear hK;clear hK;refine hK _ ?_;clear hK)|(clear hK;clear hK;clear hK;refine hK _ ?_;clear hK)|(clear hK;clear hK;clear hK;clear hK;refine hK _ ?_;clear hK)|(refine zJ fun K hK=>?_)|((first | refine zH ?_ | refine zN rfl (by kernel_rfl) ?_ | refine zM ?_ | refine zK (by kernel_rfl) ?_);simp only [wJ,wI,strip])|((first | refine wIs fun K hK=>?_ | refine wOs fun K hK=>?_ | refine wQs fun K hK=>?_ | refine zU ?_ | refine zV ?_ | refine zW ?_ | refine zL ?_);simp)|(refine wIn ?_;refine And.intro (by kernel_rfl) ?_;try simp only [zX])|(first | refine zQ ?_ | refine zS ?_)|((first | refine zI ?_ | refine zO ?_ | refine zP ?_);try simp)|((first | refine zR ?_ | refine wOn ?_ | refine wQn ?_);try simp only [zX])
  all_goals apply hr
  all_goals simp [Try.f29]
 cases l with
 | nil =>
  rw [if_neg (by simp [nmd])]
  refine zG Try.tab Try.mixed Try.func29 rfl rfl Try.ntmps29 (by simp) (by simp) fun Q hr hn=>?_
  repeat' first|(refine hK _ ?_;clear hK)|(refine hK _ _ ?_;clear hK)|(clear hK;refine hK _ ?_;clear hK)|(clear hK;clear hK;refine hK _ ?_;clear hK)|(clear hK;clear hK;clear hK;refine hK _ ?_;clear hK)|(clear hK;clear hK;clear hK;clear hK;refine hK _ ?_;clear hK)|(refine zJ fun K hK=>?_)|((first | refine zH ?_ | refine zN rfl (by kernel_rfl) ?_ | refine zM ?_ | refine zK (by kernel_rfl) ?_);simp only [wJ,wI,strip])|((first | refine wIs fun K hK=>?_ | refine wOs fun K hK=>?_ | refine wQs fun K hK=>?_ | refine zU ?_ | refine zV ?_ | refine zW ?_ | refine zL ?_);simp)|(refine wIn ?_;refine And.intro (by kernel_rfl) ?_;try simp only [zX])|(first | refine zQ ?_ | refine zS ?_)|((first | refine zI ?_ | refine zO ?_ | refine zP ?_);try simp)|((first | refine zR ?_ | refine wOn ?_ | refine wQn ?_);try simp only [zX])
  all_goals apply hr
  all_goals simp [Try.f29]
 | cons b R =>
  simp only [List.length_cons] at h1 h1' hl
  have h2' : b = 47 -> ¬ R = []:=fun h h'=>h2 (by rw [h,h'])
  by_cases d : b = 47
  ·subst d
   have hR:=h2' rfl
   have hv : g [] ((47 :: R).drop 1) = nmd (47 :: R):=rfl
   have hlp:=fun {Q} {st} h h1 h'=>check03L (Q:=Q) (st:=st) (47 :: R) (by simp;omega) (by simp) _ hv h h1 h'
   generalize nmd (47 :: R) = v at hlp
   have h64 : ¬ (64 : Int) < (R.length : Int) + 1:=by omega
   refine zG Try.tab Try.mixed Try.func29 rfl rfl Try.ntmps29 (by simp) (by simp) fun Q hr hn=>?_
   repeat' first|(refine hlp ?_ ?_ ⟨by simp,by simp,by simp⟩)|(refine hK _ ?_;clear hK)|(refine hK _ _ ?_;clear hK)|(clear hK;refine hK _ ?_;clear hK)|(clear hK;clear hK;refine hK _ ?_;clear hK)|(clear hK;clear hK;clear hK;refine hK _ ?_;clear hK)|(clear hK;clear hK;clear hK;clear hK;refine hK _ ?_;clear hK)|(refine zJ fun K hK=>?_)|((first | refine zH ?_ | refine zN rfl (by kernel_rfl) ?_ | refine zM ?_ | refine zK (by kernel_rfl) ?_);simp only [wJ,wI,strip])|((first | refine wIs fun K hK=>?_ | refine wOs fun K hK=>?_ | refine wQs fun K hK=>?_ | refine zU ?_ | refine zV ?_ | refine zW ?_ | refine zL ?_);simp [h1,h1',h64,hR])|(refine wIn ?_;refine And.intro (by kernel_rfl) ?_;try simp only [zX])|(first | refine zQ ?_ | refine zS ?_)|((first | refine zI ?_ | refine zO ?_ | refine zP ?_);try simp)|((first | refine zR ?_ | refine wOn ?_ | refine wQn ?_);try simp only [zX])
   ·intro hv st g2
    subst hv
    simp
    apply hr
    simp [Try.f29,g2,hR]
   ·intro f hf hn st ⟨g0, g3⟩
    have c:=isName03_con ((47 :: R).drop f) (by simp;omega)
    rw [hn] at c
    have hf' : f <= R.length + 1:=by simpa using hf
    simp
    cases v
    all_goals repeat' first|(refine hK _ ?_;clear hK)|(refine hK _ _ ?_;clear hK)|(clear hK;refine hK _ ?_;clear hK)|(clear hK;clear hK;refine hK _ ?_;clear hK)|(clear hK;clear hK;clear hK;refine hK _ ?_;clear hK)|(clear hK;clear hK;clear hK;clear hK;refine hK _ ?_;clear hK)|(refine zJ fun K hK=>?_)|((first | refine zH ?_ | refine zN rfl (by kernel_rfl) ?_ | refine zM ?_ | refine zK (by kernel_rfl) ?_);simp only [wJ,wI,strip])|((first | refine wIs fun K hK=>?_ | refine wOs fun K hK=>?_ | refine wQs fun K hK=>?_ | refine zU ?_ | refine zV ?_ | refine zW ?_ | refine zL ?_);simp [g0,g3,hf,hf'])|(refine wIn ?_;refine And.intro (by kernel_rfl) ?_;try simp only [zX])|(first | refine zQ ?_ | refine zS ?_)|((first | refine zI ?_ | refine zO ?_ | refine zP ?_);try simp)|((first | refine zR ?_ | refine wOn ?_ | refine wQn ?_);try simp only [zX])|(refine zZ.pure (c) rfl ?_)|(refine zZ.lent (c) rfl ?_)|(refine zT.pure (c) rfl ?_)|(refine zT.lent (c) rfl ?_)|(refine zZ.own (c) ?_)|(refine zY.pure (c) rfl ?_)|(refine zY.lent (c) rfl ?_)|(refine zY.own (c) ?_)
    all_goals apply hr
    all_goals simp [Try.f29,hR]
  ·have d' : ¬ (b.toNat : Int) = 47 := fun h => d (UInt8.toNat_inj.1 (by exact (by exact_mod_cast h : b.toNat = 47)))
   have h64 : ¬ (64 : Int) < (R.length : Int) + 1:=by omega
   rw [if_neg (by simp [nmd,d])]
   refine zG Try.tab Try.mixed Try.func29 rfl rfl Try.ntmps29 (by simp) (by simp) fun Q hr hn=>?_
   repeat' first|(refine hK _ ?_;clear hK)|(refine hK _ _ ?_;clear hK)|(clear hK;refine hK _ ?_;clear hK)|(clear hK;clear hK;refine hK _ ?_;clear hK)|(clear hK;clear hK;clear hK;refine hK _ ?_;clear hK)|(clear hK;clear hK;clear hK;clear hK;refine hK _ ?_;clear hK)|(refine zJ fun K hK=>?_)|((first | refine zH ?_ | refine zN rfl (by kernel_rfl) ?_ | refine zM ?_ | refine zK (by kernel_rfl) ?_);simp only [wJ,wI,strip])|((first | refine wIs fun K hK=>?_ | refine wOs fun K hK=>?_ | refine wQs fun K hK=>?_ | refine zU ?_ | refine zV ?_ | refine zW ?_ | refine zL ?_);simp [h1,h1',h64,d,d'])|(refine wIn ?_;refine And.intro (by kernel_rfl) ?_;try simp only [zX])|(first | refine zQ ?_ | refine zS ?_)|((first | refine zI ?_ | refine zO ?_ | refine zP ?_);try simp)|((first | refine zR ?_ | refine wOn ?_ | refine wQn ?_);try simp only [zX])
   all_goals apply hr
   all_goals simp [Try.f29]
end Go.Proofs.Ytpilcadofjcdoaa
namespace Go.Proofs.Ytpilcadofjcdoaa
open Go Go.Av
end Go.Proofs.Ytpilcadofjcdoaa
namespace Go.Proofs.Ytpilcadofjcdoaa
set_option linter.unusedSimpArgs false
set_option linter.unusedVariables false
open Go Go.Av
attribute [local irreducible] Go.Av.yQ Go.Av.zZ Go.Av.yG Go.Av.zT Go.Av.yH Go.Av.zY Go.Av.Con
def lx (l : List UInt8) : Nat -> Nat
 | 0=>0
 | k + 1=>if l[k]? = some 47 then k else lx l k
theorem lx_lt (l : List UInt8) : ∀ k, 1 <= k -> lx l k < k
 | 0,h=>absurd h (by omega)
 | 1,_=>by unfold lx;split <;> simp [lx]
 | k + 2, _ => by
  have:=lx_lt l (k + 1) (by omega)
  unfold lx;split <;> omega
theorem lx_step {l : List UInt8} {k : Nat} (h : k < l.length) : lx l (k + 1) = if l[k] = 47 then k else lx l k := by
 rw [lx,List.getElem?_eq_getElem h];simp
theorem ne47 {b : UInt8} (d : ¬ b = 47) : ¬ (b.toNat : Int) = 47 := fun h => d (UInt8.toNat_inj.1 (by exact (by exact_mod_cast h : b.toNat = 47)))
theorem last03_con (l : List UInt8) (hl : l.length <= 9223372036854775807) : zF Try.prog 53 [.p (SB l)] (.p (I (lx l l.length))) := by
 refine zG Try.tab Try.mixed Try.func53 rfl rfl Try.ntmps53 (by simp) (by simp) fun Q hr hn=>?_
 repeat' first|(refine hK _ ?_;clear hK)|(refine hK _ _ ?_;clear hK)|(clear hK;refine hK _ ?_;clear hK)|(clear hK;clear hK;refine hK _ ?_;clear hK)|(clear hK;clear hK;clear hK;refine hK _ ?_;clear hK)|(clear hK;clear hK;clear hK;clear hK;refine hK _ ?_;clear hK)|(refine zJ fun K hK=>?_)|((first | refine zH ?_ | refine zN rfl (by kernel_rfl) ?_ | refine zM ?_ | refine zK (by kernel_rfl) ?_);simp only [wJ,wI,strip])|((first | refine wIs fun K hK=>?_ | refine wOs fun K hK=>?_ | refine wQs fun K hK=>?_ | refine zU ?_ | refine zV ?_ | refine zW ?_ | refine zL ?_);simp)|(refine wIn ?_;refine And.intro (by kernel_rfl) ?_;try simp only [zX])|(first | refine zQ ?_ | refine zS ?_)|((first | refine zI ?_ | refine zO ?_ | refine zP ?_);try simp)|((first | refine zR ?_ | refine wOn ?_ | refine wQn ?_);try simp only [zX])
 refine xS (fun N st=>∃ k,k + N = l.length /\ st.s 0 = .p (SB l) /\ st.s 6 = .p (I l.length) /\ st.s 7 = .p (I k) /\ st.s 3 = .p (I (lx l k))) l.length ⟨0,by simp [lx]⟩ fun K N st hL ⟨k,hk,g0,g6,g7,g3⟩=>?_
 by_cases hlt : k < l.length
 ·have hw := xY k _ hlt hl
  have hs:=lx_step hlt
  by_cases d : l[k] = 47
  ·have d' : (l[k].toNat : Int) = 47 := by rw [d]; rfl
   rw [if_pos d] at hs
   repeat' first|(refine hK _ ?_;clear hK)|(refine hK _ _ ?_;clear hK)|(clear hK;refine hK _ ?_;clear hK)|(clear hK;clear hK;refine hK _ ?_;clear hK)|(clear hK;clear hK;clear hK;refine hK _ ?_;clear hK)|(clear hK;clear hK;clear hK;clear hK;refine hK _ ?_;clear hK)|(refine zJ fun K hK=>?_)|((first | refine zH ?_ | refine zN rfl (by kernel_rfl) ?_ | refine zM ?_ | refine zK (by kernel_rfl) ?_);simp only [wJ,wI,strip])|((first | refine wIs fun K hK=>?_ | refine wOs fun K hK=>?_ | refine wQs fun K hK=>?_ | refine zU ?_ | refine zV ?_ | refine zW ?_ | refine zL ?_);simp [g0,g6,g7,g3,hlt,hw,d,d'])|(refine wIn ?_;refine And.intro (by kernel_rfl) ?_;try simp only [zX])|(first | refine zQ ?_ | refine zS ?_)|((first | refine zI ?_ | refine zO ?_ | refine zP ?_);try simp)|((first | refine zR ?_ | refine wOn ?_ | refine wQn ?_);try simp only [zX])
   refine hL _ (N - 1) (by omega) ⟨k + 1,by omega,?_⟩
   simp [g0,g6,g7,g3,hw,hs]
  ·have d' := ne47 d
   rw [if_neg d] at hs
   repeat' first|(refine hK _ ?_;clear hK)|(refine hK _ _ ?_;clear hK)|(clear hK;refine hK _ ?_;clear hK)|(clear hK;clear hK;refine hK _ ?_;clear hK)|(clear hK;clear hK;clear hK;refine hK _ ?_;clear hK)|(clear hK;clear hK;clear hK;clear hK;refine hK _ ?_;clear hK)|(refine zJ fun K hK=>?_)|((first | refine zH ?_ | refine zN rfl (by kernel_rfl) ?_ | refine zM ?_ | refine zK (by kernel_rfl) ?_);simp only [wJ,wI,strip])|((first | refine wIs fun K hK=>?_ | refine wOs fun K hK=>?_ | refine wQs fun K hK=>?_ | refine zU ?_ | refine zV ?_ | refine zW ?_ | refine zL ?_);simp [g0,g6,g7,g3,hlt,hw,d,d'])|(refine wIn ?_;refine And.intro (by kernel_rfl) ?_;try simp only [zX])|(first | refine zQ ?_ | refine zS ?_)|((first | refine zI ?_ | refine zO ?_ | refine zP ?_);try simp)|((first | refine zR ?_ | refine wOn ?_ | refine wQn ?_);try simp only [zX])
   refine hL _ (N - 1) (by omega) ⟨k + 1,by omega,?_⟩
   simp [g0,g6,g7,g3,hw,hs]
 ·obtain rfl : k = l.length := by omega
  repeat' first|(refine hK _ ?_;clear hK)|(refine hK _ _ ?_;clear hK)|(clear hK;refine hK _ ?_;clear hK)|(clear hK;clear hK;refine hK _ ?_;clear hK)|(clear hK;clear hK;clear hK;refine hK _ ?_;clear hK)|(clear hK;clear hK;clear hK;clear hK;refine hK _ ?_;clear hK)|(refine zJ fun K hK=>?_)|((first | refine zH ?_ | refine zN rfl (by kernel_rfl) ?_ | refine zM ?_ | refine zK (by kernel_rfl) ?_);simp only [wJ,wI,strip])|((first | refine wIs fun K hK=>?_ | refine wOs fun K hK=>?_ | refine wQs fun K hK=>?_ | refine zU ?_ | refine zV ?_ | refine zW ?_ | refine zL ?_);simp [g0,g6,g7,g3])|(refine wIn ?_;refine And.intro (by kernel_rfl) ?_;try simp only [zX])|(first | refine zQ ?_ | refine zS ?_)|((first | refine zI ?_ | refine zO ?_ | refine zP ?_);try simp)|((first | refine zR ?_ | refine wOn ?_ | refine wQn ?_);try simp only [zX])
  all_goals apply hr
  all_goals simp [Try.f53,g3]
theorem lastB_con (l : List UInt8) (hl : l.length <= 9223372036854775807) (h0 : l[0]? = some 47) : zF Try.prog 70 [.p (SB l), .p (.v (.int .u8 47))] (.p (I (lx l l.length))) := by
 have hlen : 1 <= l.length := by
  cases l with
  | nil=>simp at h0
  | cons a r=>simp
 have hw0 : IntKind.i64.wrap ((l.length : Int) - 1) = ((l.length - 1 : Nat) : Int):=by rw [yW] <;> omega
 refine zG Try.tab Try.mixed Try.func70 rfl rfl Try.ntmps70 (by simp) (by simp) fun Q hr hn=>?_
 repeat' first|(refine hK _ ?_;clear hK)|(refine hK _ _ ?_;clear hK)|(clear hK;refine hK _ ?_;clear hK)|(clear hK;clear hK;refine hK _ ?_;clear hK)|(clear hK;clear hK;clear hK;refine hK _ ?_;clear hK)|(clear hK;clear hK;clear hK;clear hK;refine hK _ ?_;clear hK)|(refine zJ fun K hK=>?_)|((first | refine zH ?_ | refine zN rfl (by kernel_rfl) ?_ | refine zM ?_ | refine zK (by kernel_rfl) ?_);simp only [wJ,wI,strip])|((first | refine wIs fun K hK=>?_ | refine wOs fun K hK=>?_ | refine wQs fun K hK=>?_ | refine zU ?_ | refine zV ?_ | refine zW ?_ | refine zL ?_);simp [hw0])|(refine wIn ?_;refine And.intro (by kernel_rfl) ?_;try simp only [zX])|(first | refine zQ ?_ | refine zS ?_)|((first | refine zI ?_ | refine zO ?_ | refine zP ?_);try simp)|((first | refine zR ?_ | refine wOn ?_ | refine wQn ?_);try simp only [zX])
 refine xS (fun N st=>∃ k,k = N /\ k < l.length /\ lx l l.length = lx l (k + 1) /\ st.s 0 = .p (SB l) /\ st.s 1 = .p (.v (.int .u8 47)) /\ st.s 5 = .p (I k)) (l.length - 1) ⟨l.length - 1,rfl,by omega,by rw [show l.length - 1 + 1 = l.length by omega],by simp [hw0]⟩ fun K N st hL ⟨k,hk,hlt,ha,g0,g1,g5⟩=>?_
 have hs:=lx_step hlt
 by_cases d : l[k] = 47
 ·have d' : (l[k].toNat : Int) = 47 := by rw [d]; rfl
  rw [if_pos d] at hs
  rw [ha,hs] at hr
  repeat' first|(refine hK _ ?_;clear hK)|(refine hK _ _ ?_;clear hK)|(clear hK;refine hK _ ?_;clear hK)|(clear hK;clear hK;refine hK _ ?_;clear hK)|(clear hK;clear hK;clear hK;refine hK _ ?_;clear hK)|(clear hK;clear hK;clear hK;clear hK;refine hK _ ?_;clear hK)|(refine zJ fun K hK=>?_)|((first | refine zH ?_ | refine zN rfl (by kernel_rfl) ?_ | refine zM ?_ | refine zK (by kernel_rfl) ?_);simp only [wJ,wI,strip])|((first | refine wIs fun K hK=>?_ | refine wOs fun K hK=>?_ | refine wQs fun K hK=>?_ | refine zU ?_ | refine zV ?_ | refine zW ?_ | refine zL ?_);simp [g0,g1,g5,hlt,d,d'])|(refine wIn ?_;refine And.intro (by kernel_rfl) ?_;try simp only [zX])|(first | refine zQ ?_ | refine zS ?_)|((first | refine zI ?_ | refine zO ?_ | refine zP ?_);try simp)|((first | refine zR ?_ | refine wOn ?_ | refine wQn ?_);try simp only [zX])
  all_goals apply hr
  all_goals simp [Try.f70,g5]
 ·have d' := ne47 d
  rw [if_neg d] at hs
  cases k with
  | zero =>
   rw [List.getElem?_eq_getElem hlt] at h0
   simp at h0
   exact absurd h0 d
  | succ k =>
   have hw : IntKind.i64.wrap (((k + 1 : Nat) : Int) - 1) = (k : Int):=by rw [yW] <;> omega
   have hw' : IntKind.i64.wrap (((k : Nat) : Int) + 1 - 1) = (k : Int):=by rw [yW] <;> omega
   have hp : (0 : Int) <= (k : Int) + 1:=by omega
   have hw2 : IntKind.i64.wrap (k : Int) = (k : Int):=by rw [yW] <;> omega
   repeat' first|(refine hK _ ?_;clear hK)|(refine hK _ _ ?_;clear hK)|(clear hK;refine hK _ ?_;clear hK)|(clear hK;clear hK;refine hK _ ?_;clear hK)|(clear hK;clear hK;clear hK;refine hK _ ?_;clear hK)|(clear hK;clear hK;clear hK;clear hK;refine hK _ ?_;clear hK)|(refine zJ fun K hK=>?_)|((first | refine zH ?_ | refine zN rfl (by kernel_rfl) ?_ | refine zM ?_ | refine zK (by kernel_rfl) ?_);simp only [wJ,wI,strip])|((first | refine wIs fun K hK=>?_ | refine wOs fun K hK=>?_ | refine wQs fun K hK=>?_ | refine zU ?_ | refine zV ?_ | refine zW ?_ | refine zL ?_);simp [g0,g1,g5,hlt,d,d',hw,hw',hw2,hp])|(refine wIn ?_;refine And.intro (by kernel_rfl) ?_;try simp only [zX])|(first | refine zQ ?_ | refine zS ?_)|((first | refine zI ?_ | refine zO ?_ | refine zP ?_);try simp)|((first | refine zR ?_ | refine wOn ?_ | refine wQn ?_);try simp only [zX])
   refine hL _ k (by omega) ⟨k,rfl,by omega,by rw [ha,hs],?_⟩
   simp [g0,g1,g5,hw,hw',hw2]
theorem lastIx_con (l : List UInt8) (hl : l.length <= 9223372036854775807) (h0 : l[0]? = some 47) : zF Try.prog 64 [.p (SB l), .p (SB [47])] (.p (I (lx l l.length))) := by
 have c:=lastB_con l hl h0
 refine zG Try.tab Try.mixed Try.func64 rfl rfl Try.ntmps64 (by simp) (by simp) fun Q hr hn=>?_
 repeat' first|(refine hK _ ?_;clear hK)|(refine hK _ _ ?_;clear hK)|(clear hK;refine hK _ ?_;clear hK)|(clear hK;clear hK;refine hK _ ?_;clear hK)|(clear hK;clear hK;clear hK;refine hK _ ?_;clear hK)|(clear hK;clear hK;clear hK;clear hK;refine hK _ ?_;clear hK)|(refine zJ fun K hK=>?_)|((first | refine zH ?_ | refine zN rfl (by kernel_rfl) ?_ | refine zM ?_ | refine zK (by kernel_rfl) ?_);simp only [wJ,wI,strip])|((first | refine wIs fun K hK=>?_ | refine wOs fun K hK=>?_ | refine wQs fun K hK=>?_ | refine zU ?_ | refine zV ?_ | refine zW ?_ | refine zL ?_);simp)|(refine wIn ?_;refine And.intro (by kernel_rfl) ?_;try simp only [zX])|(first | refine zQ ?_ | refine zS ?_)|((first | refine zI ?_ | refine zO ?_ | refine zP ?_);try simp)|((first | refine zR ?_ | refine wOn ?_ | refine wQn ?_);try simp only [zX])|(refine zZ.pure (c) rfl ?_)|(refine zZ.lent (c) rfl ?_)|(refine zT.pure (c) rfl ?_)|(refine zT.lent (c) rfl ?_)|(refine zZ.own (c) ?_)|(refine zY.pure (c) rfl ?_)|(refine zY.lent (c) rfl ?_)|(refine zY.own (c) ?_)
 all_goals apply hr
 all_goals simp [Try.f64]
def chd (l : List UInt8) : Bool := decide (l ≠ [47] /\ chk l = 0)
theorem chk_spec {l : List UInt8} (h : chk l = 0) : l = [47] \/ (l ≠ [47] /\ ∃ R, l = 47 :: R /\ R ≠ []) := by
 by_cases h1 : l = [47]
 ·exact .inl h1
 refine .inr ⟨h1,?_⟩
 unfold chk at h
 split at h
 ·simp at h
 split at h
 ·rename_i h2
  rcases h2 with h2 | h2
  ·exact absurd h2 h1
  ·cases l with
   | nil=>simp [nmd] at h2
   | cons b R =>
    simp only [nmd] at h2
    split at h2
    ·rename_i hb
     subst hb
     exact ⟨R,rfl,fun h=>h1 (by rw [h])⟩
    ·simp at h2
 ·simp at h
theorem child_con (l : List UInt8) (hl : l.length <= 9223372036854775807) : zF Try.prog 63 [.p (SB l)] (.p (B (chd l))) := by
 have c:=check_con l hl
 unfold chd
 by_cases h1 : l = [47]
 ·subst h1
  refine zG Try.tab Try.mixed Try.func63 rfl rfl Try.ntmps63 (by simp) (by simp) fun Q hr hn=>?_
  repeat' first|(refine hK _ ?_;clear hK)|(refine hK _ _ ?_;clear hK)|(clear hK;refine hK _ ?_;clear hK)|(clear hK;clear hK;refine hK _ ?_;clear hK)|(clear hK;clear hK;clear hK;refine hK _ ?_;clear hK)|(clear hK;clear hK;clear hK;clear hK;refine hK _ ?_;clear hK)|(refine zJ fun K hK=>?_)|((first | refine zH ?_ | refine zN rfl (by kernel_rfl) ?_ | refine zM ?_ | refine zK (by kernel_rfl) ?_);simp only [wJ,wI,strip])|((first | refine wIs fun K hK=>?_ | refine wOs fun K hK=>?_ | refine wQs fun K hK=>?_ | refine zU ?_ | refine zV ?_ | refine zW ?_ | refine zL ?_);simp)|(refine wIn ?_;refine And.intro (by kernel_rfl) ?_;try simp only [zX])|(first | refine zQ ?_ | refine zS ?_)|((first | refine zI ?_ | refine zO ?_ | refine zP ?_);try simp)|((first | refine zR ?_ | refine wOn ?_ | refine wQn ?_);try simp only [zX])|(refine zZ.pure (c) rfl ?_)|(refine zZ.lent (c) rfl ?_)|(refine zT.pure (c) rfl ?_)|(refine zT.lent (c) rfl ?_)|(refine zZ.own (c) ?_)|(refine zY.pure (c) rfl ?_)|(refine zY.lent (c) rfl ?_)|(refine zY.own (c) ?_)
  all_goals apply hr
  all_goals simp [Try.f63]
 ·generalize chk l = e at c ⊢
  by_cases h2 : e = 0
  ·subst h2
   refine zG Try.tab Try.mixed Try.func63 rfl rfl Try.ntmps63 (by simp) (by simp) fun Q hr hn=>?_
   repeat' first|(refine hK _ ?_;clear hK)|(refine hK _ _ ?_;clear hK)|(clear hK;refine hK _ ?_;clear hK)|(clear hK;clear hK;refine hK _ ?_;clear hK)|(clear hK;clear hK;clear hK;refine hK _ ?_;clear hK)|(clear hK;clear hK;clear hK;clear hK;refine hK _ ?_;clear hK)|(refine zJ fun K hK=>?_)|((first | refine zH ?_ | refine zN rfl (by kernel_rfl) ?_ | refine zM ?_ | refine zK (by kernel_rfl) ?_);simp only [wJ,wI,strip])|((first | refine wIs fun K hK=>?_ | refine wOs fun K hK=>?_ | refine wQs fun K hK=>?_ | refine zU ?_ | refine zV ?_ | refine zW ?_ | refine zL ?_);simp [h1])|(refine wIn ?_;refine And.intro (by kernel_rfl) ?_;try simp only [zX])|(first | refine zQ ?_ | refine zS ?_)|((first | refine zI ?_ | refine zO ?_ | refine zP ?_);try simp)|((first | refine zR ?_ | refine wOn ?_ | refine wQn ?_);try simp only [zX])|(refine zZ.pure (c) rfl ?_)|(refine zZ.lent (c) rfl ?_)|(refine zT.pure (c) rfl ?_)|(refine zT.lent (c) rfl ?_)|(refine zZ.own (c) ?_)|(refine zY.pure (c) rfl ?_)|(refine zY.lent (c) rfl ?_)|(refine zY.own (c) ?_)
   all_goals apply hr
   all_goals simp [Try.f63,h1]
  ·refine zG Try.tab Try.mixed Try.func63 rfl rfl Try.ntmps63 (by simp) (by simp) fun Q hr hn => ?_
   repeat' first|(refine hK _ ?_;clear hK)|(refine hK _ _ ?_;clear hK)|(clear hK;refine hK _ ?_;clear hK)|(clear hK;clear hK;refine hK _ ?_;clear hK)|(clear hK;clear hK;clear hK;refine hK _ ?_;clear hK)|(clear hK;clear hK;clear hK;clear hK;refine hK _ ?_;clear hK)|(refine zJ fun K hK=>?_)|((first | refine zH ?_ | refine zN rfl (by kernel_rfl) ?_ | refine zM ?_ | refine zK (by kernel_rfl) ?_);simp only [wJ,wI,strip])|((first | refine wIs fun K hK=>?_ | refine wOs fun K hK=>?_ | refine wQs fun K hK=>?_ | refine zU ?_ | refine zV ?_ | refine zW ?_ | refine zL ?_);simp [h1,h2])|(refine wIn ?_;refine And.intro (by kernel_rfl) ?_;try simp only [zX])|(first | refine zQ ?_ | refine zS ?_)|((first | refine zI ?_ | refine zO ?_ | refine zP ?_);try simp)|((first | refine zR ?_ | refine wOn ?_ | refine wQn ?_);try simp only [zX])|(refine zZ.pure (c) rfl ?_)|(refine zZ.lent (c) rfl ?_)|(refine zT.pure (c) rfl ?_)|(refine zT.lent (c) rfl ?_)|(refine zZ.own (c) ?_)|(refine zY.pure (c) rfl ?_)|(refine zY.lent (c) rfl ?_)|(refine zY.own (c) ?_)
   all_goals apply hr
   all_goals simp [Try.f63,h1,h2]
def parV (l : List UInt8) : V := if chd l = true then .tup [.p (SB (l.take (max (lx l l.length) 1))), .p (B true)] else .tup [.p (SB []), .p (B false)]
def nam (l : List UInt8) : List UInt8 := if chd l = true then l.drop (lx l l.length + 1) else []
theorem parent_con (l : List UInt8) (hl : l.length <= 9223372036854775807) : zF Try.prog 49 [.p (SB l)] (parV l) := by
 have c:=child_con l hl
 unfold parV
 cases h : chd l
 ·rw [h] at c
  rw [if_neg (by simp)]
  refine zG Try.tab Try.mixed Try.func49 rfl rfl Try.ntmps49 (by simp) (by simp) fun Q hr hn=>?_
  repeat' first|(refine hK _ ?_;clear hK)|(refine hK _ _ ?_;clear hK)|(clear hK;refine hK _ ?_;clear hK)|(clear hK;clear hK;refine hK _ ?_;clear hK)|(clear hK;clear hK;clear hK;refine hK _ ?_;clear hK)|(clear hK;clear hK;clear hK;clear hK;refine hK _ ?_;clear hK)|(refine zJ fun K hK=>?_)|((first | refine zH ?_ | refine zN rfl (by kernel_rfl) ?_ | refine zM ?_ | refine zK (by kernel_rfl) ?_);simp only [wJ,wI,strip])|((first | refine wIs fun K hK=>?_ | refine wOs fun K hK=>?_ | refine wQs fun K hK=>?_ | refine zU ?_ | refine zV ?_ | refine zW ?_ | refine zL ?_);simp)|(refine wIn ?_;refine And.intro (by kernel_rfl) ?_;try simp only [zX])|(first | refine zQ ?_ | refine zS ?_)|((first | refine zI ?_ | refine zO ?_ | refine zP ?_);try simp)|((first | refine zR ?_ | refine wOn ?_ | refine wQn ?_);try simp only [zX])|(refine zZ.pure (c) rfl ?_)|(refine zZ.lent (c) rfl ?_)|(refine zT.pure (c) rfl ?_)|(refine zT.lent (c) rfl ?_)|(refine zZ.own (c) ?_)|(refine zY.pure (c) rfl ?_)|(refine zY.lent (c) rfl ?_)|(refine zY.own (c) ?_)
  all_goals apply hr
  all_goals simp [Try.f49]
 ·rw [h] at c
  rw [if_pos rfl]
  simp only [chd,decide_eq_true_eq] at h
  rcases chk_spec h.2 with h1 | ⟨-,R,rfl,hR⟩
  ·exact absurd h1 h.1
  have c2:=lastIx_con (47 :: R) hl rfl
  have hx:=lx_lt (47 :: R) (47 :: R).length (by simp)
  generalize lx (47 :: R) (47 :: R).length = x at c2 hx ⊢
  simp only [List.length_cons] at hx hl
  cases x with
  | zero =>
   refine zG Try.tab Try.mixed Try.func49 rfl rfl Try.ntmps49 (by simp) (by simp) fun Q hr hn=>?_
   repeat' first|(refine hK _ ?_;clear hK)|(refine hK _ _ ?_;clear hK)|(clear hK;refine hK _ ?_;clear hK)|(clear hK;clear hK;refine hK _ ?_;clear hK)|(clear hK;clear hK;clear hK;refine hK _ ?_;clear hK)|(clear hK;clear hK;clear hK;clear hK;refine hK _ ?_;clear hK)|(refine zJ fun K hK=>?_)|((first | refine zH ?_ | refine zN rfl (by kernel_rfl) ?_ | refine zM ?_ | refine zK (by kernel_rfl) ?_);simp only [wJ,wI,strip])|((first | refine wIs fun K hK=>?_ | refine wOs fun K hK=>?_ | refine wQs fun K hK=>?_ | refine zU ?_ | refine zV ?_ | refine zW ?_ | refine zL ?_);simp)|(refine wIn ?_;refine And.intro (by kernel_rfl) ?_;try simp only [zX])|(first | refine zQ ?_ | refine zS ?_)|((first | refine zI ?_ | refine zO ?_ | refine zP ?_);try simp)|((first | refine zR ?_ | refine wOn ?_ | refine wQn ?_);try simp only [zX])|(refine zZ.pure (c) rfl ?_)|(refine zZ.lent (c) rfl ?_)|(refine zT.pure (c) rfl ?_)|(refine zT.lent (c) rfl ?_)|(refine zZ.own (c) ?_)|(refine zY.pure (c) rfl ?_)|(refine zY.lent (c) rfl ?_)|(refine zY.own (c) ?_)|(refine zZ.pure (c2) rfl ?_)|(refine zZ.lent (c2) rfl ?_)|(refine zT.pure (c2) rfl ?_)|(refine zT.lent (c2) rfl ?_)|(refine zZ.own (c2) ?_)|(refine zY.pure (c2) rfl ?_)|(refine zY.lent (c2) rfl ?_)|(refine zY.own (c2) ?_)
   all_goals apply hr
   all_goals simp [Try.f49]
  | succ x =>
   have hm : max (x + 1) 1 = x + 1:=by omega
   have hm' : ¬ (x : Int) + 1 < 1:=by omega
   have h0 : (0 : Int) <= (x : Int) + 1:=by omega
   have hx' : x <= R.length:=by omega
   rw [hm]
   refine zG Try.tab Try.mixed Try.func49 rfl rfl Try.ntmps49 (by simp) (by simp) fun Q hr hn=>?_
   repeat' first|(refine hK _ ?_;clear hK)|(refine hK _ _ ?_;clear hK)|(clear hK;refine hK _ ?_;clear hK)|(clear hK;clear hK;refine hK _ ?_;clear hK)|(clear hK;clear hK;clear hK;refine hK _ ?_;clear hK)|(clear hK;clear hK;clear hK;clear hK;refine hK _ ?_;clear hK)|(refine zJ fun K hK=>?_)|((first | refine zH ?_ | refine zN rfl (by kernel_rfl) ?_ | refine zM ?_ | refine zK (by kernel_rfl) ?_);simp only [wJ,wI,strip])|((first | refine wIs fun K hK=>?_ | refine wOs fun K hK=>?_ | refine wQs fun K hK=>?_ | refine zU ?_ | refine zV ?_ | refine zW ?_ | refine zL ?_);simp [hm',h0,hx,hx'])|(refine wIn ?_;refine And.intro (by kernel_rfl) ?_;try simp only [zX])|(first | refine zQ ?_ | refine zS ?_)|((first | refine zI ?_ | refine zO ?_ | refine zP ?_);try simp)|((first | refine zR ?_ | refine wOn ?_ | refine wQn ?_);try simp only [zX])|(refine zZ.pure (c) rfl ?_)|(refine zZ.lent (c) rfl ?_)|(refine zT.pure (c) rfl ?_)|(refine zT.lent (c) rfl ?_)|(refine zZ.own (c) ?_)|(refine zY.pure (c) rfl ?_)|(refine zY.lent (c) rfl ?_)|(refine zY.own (c) ?_)|(refine zZ.pure (c2) rfl ?_)|(refine zZ.lent (c2) rfl ?_)|(refine zT.pure (c2) rfl ?_)|(refine zT.lent (c2) rfl ?_)|(refine zZ.own (c2) ?_)|(refine zY.pure (c2) rfl ?_)|(refine zY.lent (c2) rfl ?_)|(refine zY.own (c2) ?_)
   all_goals apply hr
   all_goals simp [Try.f49]
theorem xC (l : List UInt8) (hl : l.length <= 9223372036854775807) : zF Try.prog 33 [.p (SB l)] (parV l) := by
 have c:=wR l hl
 unfold parV
 by_cases h0 : chk l = 0
 ·rw [h0] at c
  rcases chk_spec h0 with rfl | ⟨h1,R,rfl,hR⟩
  ·rw [if_neg (by simp [chd])]
   refine zG Try.tab Try.mixed Try.func33 rfl rfl Try.ntmps33 (by simp) (by simp) fun Q hr hn=>?_
   repeat' first|(refine hK _ ?_;clear hK)|(refine hK _ _ ?_;clear hK)|(clear hK;refine hK _ ?_;clear hK)|(clear hK;clear hK;refine hK _ ?_;clear hK)|(clear hK;clear hK;clear hK;refine hK _ ?_;clear hK)|(clear hK;clear hK;clear hK;clear hK;refine hK _ ?_;clear hK)|(refine zJ fun K hK=>?_)|((first | refine zH ?_ | refine zN rfl (by kernel_rfl) ?_ | refine zM ?_ | refine zK (by kernel_rfl) ?_);simp only [wJ,wI,strip])|((first | refine wIs fun K hK=>?_ | refine wOs fun K hK=>?_ | refine wQs fun K hK=>?_ | refine zU ?_ | refine zV ?_ | refine zW ?_ | refine zL ?_);simp)|(refine wIn ?_;refine And.intro (by kernel_rfl) ?_;try simp only [zX])|(first | refine zQ ?_ | refine zS ?_)|((first | refine zI ?_ | refine zO ?_ | refine zP ?_);try simp)|((first | refine zR ?_ | refine wOn ?_ | refine wQn ?_);try simp only [zX])|(refine zZ.pure (c) rfl ?_)|(refine zZ.lent (c) rfl ?_)|(refine zT.pure (c) rfl ?_)|(refine zT.lent (c) rfl ?_)|(refine zZ.own (c) ?_)|(refine zY.pure (c) rfl ?_)|(refine zY.lent (c) rfl ?_)|(refine zY.own (c) ?_)
   all_goals apply hr
   all_goals simp [Try.f33]
  ·rw [if_pos (by simp [chd, h0, hR])]
   have c2:=last03_con (47 :: R) hl
   have hx:=lx_lt (47 :: R) (47 :: R).length (by simp)
   generalize lx (47 :: R) (47 :: R).length = x at c2 hx ⊢
   simp only [List.length_cons] at hx hl
   cases x with
   | zero =>
    refine zG Try.tab Try.mixed Try.func33 rfl rfl Try.ntmps33 (by simp) (by simp) fun Q hr hn=>?_
    repeat' first|(refine hK _ ?_;clear hK)|(refine hK _ _ ?_;clear hK)|(clear hK;refine hK _ ?_;clear hK)|(clear hK;clear hK;refine hK _ ?_;clear hK)|(clear hK;clear hK;clear hK;refine hK _ ?_;clear hK)|(clear hK;clear hK;clear hK;clear hK;refine hK _ ?_;clear hK)|(refine zJ fun K hK=>?_)|((first | refine zH ?_ | refine zN rfl (by kernel_rfl) ?_ | refine zM ?_ | refine zK (by kernel_rfl) ?_);simp only [wJ,wI,strip])|((first | refine wIs fun K hK=>?_ | refine wOs fun K hK=>?_ | refine wQs fun K hK=>?_ | refine zU ?_ | refine zV ?_ | refine zW ?_ | refine zL ?_);simp [h1,hR])|(refine wIn ?_;refine And.intro (by kernel_rfl) ?_;try simp only [zX])|(first | refine zQ ?_ | refine zS ?_)|((first | refine zI ?_ | refine zO ?_ | refine zP ?_);try simp)|((first | refine zR ?_ | refine wOn ?_ | refine wQn ?_);try simp only [zX])|(refine zZ.pure (c) rfl ?_)|(refine zZ.lent (c) rfl ?_)|(refine zT.pure (c) rfl ?_)|(refine zT.lent (c) rfl ?_)|(refine zZ.own (c) ?_)|(refine zY.pure (c) rfl ?_)|(refine zY.lent (c) rfl ?_)|(refine zY.own (c) ?_)|(refine zZ.pure (c2) rfl ?_)|(refine zZ.lent (c2) rfl ?_)|(refine zT.pure (c2) rfl ?_)|(refine zT.lent (c2) rfl ?_)|(refine zZ.own (c2) ?_)|(refine zY.pure (c2) rfl ?_)|(refine zY.lent (c2) rfl ?_)|(refine zY.own (c2) ?_)
    all_goals apply hr
    all_goals simp [Try.f33]
   | succ x =>
    have hm : max (x + 1) 1 = x + 1:=by omega
    have h0 : (0 : Int) <= (x : Int) + 1:=by omega
    have hn0 : ¬ (x : Int) + 1 = 0:=by omega
    have hx' : x <= R.length:=by omega
    rw [hm]
    refine zG Try.tab Try.mixed Try.func33 rfl rfl Try.ntmps33 (by simp) (by simp) fun Q hr hn=>?_
    repeat' first|(refine hK _ ?_;clear hK)|(refine hK _ _ ?_;clear hK)|(clear hK;refine hK _ ?_;clear hK)|(clear hK;clear hK;refine hK _ ?_;clear hK)|(clear hK;clear hK;clear hK;refine hK _ ?_;clear hK)|(clear hK;clear hK;clear hK;clear hK;refine hK _ ?_;clear hK)|(refine zJ fun K hK=>?_)|((first | refine zH ?_ | refine zN rfl (by kernel_rfl) ?_ | refine zM ?_ | refine zK (by kernel_rfl) ?_);simp only [wJ,wI,strip])|((first | refine wIs fun K hK=>?_ | refine wOs fun K hK=>?_ | refine wQs fun K hK=>?_ | refine zU ?_ | refine zV ?_ | refine zW ?_ | refine zL ?_);simp [h1,hR,h0,hn0,hx,hx'])|(refine wIn ?_;refine And.intro (by kernel_rfl) ?_;try simp only [zX])|(first | refine zQ ?_ | refine zS ?_)|((first | refine zI ?_ | refine zO ?_ | refine zP ?_);try simp)|((first | refine zR ?_ | refine wOn ?_ | refine wQn ?_);try simp only [zX])|(refine zZ.pure (c) rfl ?_)|(refine zZ.lent (c) rfl ?_)|(refine zT.pure (c) rfl ?_)|(refine zT.lent (c) rfl ?_)|(refine zZ.own (c) ?_)|(refine zY.pure (c) rfl ?_)|(refine zY.lent (c) rfl ?_)|(refine zY.own (c) ?_)|(refine zZ.pure (c2) rfl ?_)|(refine zZ.lent (c2) rfl ?_)|(refine zT.pure (c2) rfl ?_)|(refine zT.lent (c2) rfl ?_)|(refine zZ.own (c2) ?_)|(refine zY.pure (c2) rfl ?_)|(refine zY.lent (c2) rfl ?_)|(refine zY.own (c2) ?_)
    all_goals apply hr
    all_goals simp [Try.f33]
 ·rw [if_neg (by simp [chd, h0])]
  generalize chk l = e at c h0
  refine zG Try.tab Try.mixed Try.func33 rfl rfl Try.ntmps33 (by simp) (by simp) fun Q hr hn=>?_
  repeat' first|(refine hK _ ?_;clear hK)|(refine hK _ _ ?_;clear hK)|(clear hK;refine hK _ ?_;clear hK)|(clear hK;clear hK;refine hK _ ?_;clear hK)|(clear hK;clear hK;clear hK;refine hK _ ?_;clear hK)|(clear hK;clear hK;clear hK;clear hK;refine hK _ ?_;clear hK)|(refine zJ fun K hK=>?_)|((first | refine zH ?_ | refine zN rfl (by kernel_rfl) ?_ | refine zM ?_ | refine zK (by kernel_rfl) ?_);simp only [wJ,wI,strip])|((first | refine wIs fun K hK=>?_ | refine wOs fun K hK=>?_ | refine wQs fun K hK=>?_ | refine zU ?_ | refine zV ?_ | refine zW ?_ | refine zL ?_);simp [h0])|(refine wIn ?_;refine And.intro (by kernel_rfl) ?_;try simp only [zX])|(first | refine zQ ?_ | refine zS ?_)|((first | refine zI ?_ | refine zO ?_ | refine zP ?_);try simp)|((first | refine zR ?_ | refine wOn ?_ | refine wQn ?_);try simp only [zX])|(refine zZ.pure (c) rfl ?_)|(refine zZ.lent (c) rfl ?_)|(refine zT.pure (c) rfl ?_)|(refine zT.lent (c) rfl ?_)|(refine zZ.own (c) ?_)|(refine zY.pure (c) rfl ?_)|(refine zY.lent (c) rfl ?_)|(refine zY.own (c) ?_)
  all_goals apply hr
  all_goals simp [Try.f33]
end Go.Proofs.Ytpilcadofjcdoaa
