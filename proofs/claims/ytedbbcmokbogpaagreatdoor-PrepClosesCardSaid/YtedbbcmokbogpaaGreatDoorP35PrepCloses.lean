/- Texts that the proof needs: QCQ. -/
import Derived.Test.YtedbbcmokbogpaaGreatDoorP34PrepCloses
namespace Go.Proofs.YtedbbcmokbogpaaGreatDoor
set_option linter.unusedSimpArgs false
set_option linter.unusedVariables false
open Go Go.Av
attribute [local irreducible] Go.Av.yR Go.Av.zU Go.Av.yM Go.Av.zT Go.Av.yO Go.Av.zV Go.Av.Con
def wsum : List Mb -> Int
 | []=>0
 | m :: l=>(if m.r = 1 then m.w else 0) + wsum l
def cnt : List Mb -> Int
 | []=>0
 | m :: l=>(if m.r = 1 then 1 else 0) + cnt l
theorem sums (kind : Int) (l : List Mb) : ∀ p, fine p l = true -> 0 <= wsum l /\ 0 <= cnt l /\ (cnt l = 0 -> wsum l = 0) /\ (kind = 1 -> xH kind l = decide (0 < cnt l)) /\ (kind ≠ 1 -> xH kind l = decide (0 < wsum l)) := by
 induction l with
 | nil=>intro p h;simp [wsum,cnt,xH]
 | cons m l ih =>
  intro p h
  simp only [fine,Bool.and_eq_true,decide_eq_true_eq] at h
  obtain ⟨⟨ho,hp⟩,hf⟩:=h
  obtain ⟨e1,e2,e3,e4,e5⟩:=ih _ hf
  have hw:=ho.2.2.1
  simp only [wsum,cnt,xH,List.any_cons,carrier] at *
  by_cases hr : m.r = 1
  ·simp only [hr, if_true, decide_true, Bool.true_and]
   refine ⟨by omega,by omega,by omega,fun hk=>?_,fun hk=>?_⟩
   ·simp [hk];omega
   ·rw [e5 hk]
    by_cases g : 0 < m.w
    ·simp [hk,g];omega
    ·simp [hk,g,show m.w = 0 by omega]
  ·simp only [hr, if_false, decide_false, Bool.false_and, Bool.false_or, Int.zero_add]
   exact ⟨e1,e2,e3,e4,e5⟩
set_option maxHeartbeats 8000000 in
theorem check04_con (c : Cf) (hl : c.ms.length <= 1000000) : zF Tryz.prog 20 [.p (.agg c.cells)] (.p (I (check c))) := by
 obtain ⟨ep,n,kind,l⟩:=c
 simp only [Cf.cells,check,ranged] at hl ⊢
 by_cases g1 : kind < 1
 ·have g1' : ¬ 1 <= kind := by omega
  refine zG Tryz.tab Tryz.mixed Tryz.func20 rfl rfl Tryz.ntmps20 (by simp) (by simp) fun Q hr hn=>?_
  repeat' first|(refine hK _ ?_;clear hK)|(refine hK _ _ ?_;clear hK)|(clear hK;refine hK _ ?_;clear hK)|(clear hK;clear hK;refine hK _ ?_;clear hK)|(clear hK;clear hK;clear hK;refine hK _ ?_;clear hK)|(clear hK;clear hK;clear hK;clear hK;refine hK _ ?_;clear hK)|(refine zJ fun K hK=>?_)|((first | refine zH ?_ | refine zN rfl (by kernel_rfl) ?_ | refine zM ?_ | refine zK (by kernel_rfl) ?_);simp only [wK,wJ,strip])|((first | refine wIs fun K hK=>?_ | refine wOs fun K hK=>?_ | refine wQs fun K hK=>?_ | refine zW ?_ | refine zX ?_ | refine zY ?_ | refine zL ?_);simp [g1])|(refine wIn ?_;refine And.intro (by kernel_rfl) ?_;try simp only [zZ])|(first | refine zQ ?_ | refine zS ?_)|((first | refine zI ?_ | refine zO ?_ | refine zP ?_);try simp)|((first | refine zR ?_ | refine wOn ?_ | refine wQn ?_);try simp only [zZ])
  all_goals apply hr
  all_goals simp [Tryz.f20,g1']
 by_cases g2 : 3 < kind
 ·have g2' : ¬ kind <= 3 := by omega
  refine zG Tryz.tab Tryz.mixed Tryz.func20 rfl rfl Tryz.ntmps20 (by simp) (by simp) fun Q hr hn=>?_
  repeat' first|(refine hK _ ?_;clear hK)|(refine hK _ _ ?_;clear hK)|(clear hK;refine hK _ ?_;clear hK)|(clear hK;clear hK;refine hK _ ?_;clear hK)|(clear hK;clear hK;clear hK;refine hK _ ?_;clear hK)|(clear hK;clear hK;clear hK;clear hK;refine hK _ ?_;clear hK)|(refine zJ fun K hK=>?_)|((first | refine zH ?_ | refine zN rfl (by kernel_rfl) ?_ | refine zM ?_ | refine zK (by kernel_rfl) ?_);simp only [wK,wJ,strip])|((first | refine wIs fun K hK=>?_ | refine wOs fun K hK=>?_ | refine wQs fun K hK=>?_ | refine zW ?_ | refine zX ?_ | refine zY ?_ | refine zL ?_);simp [g1,g2])|(refine wIn ?_;refine And.intro (by kernel_rfl) ?_;try simp only [zZ])|(first | refine zQ ?_ | refine zS ?_)|((first | refine zI ?_ | refine zO ?_ | refine zP ?_);try simp)|((first | refine zR ?_ | refine wOn ?_ | refine wQn ?_);try simp only [zZ])
  all_goals apply hr
  all_goals simp [Tryz.f20,g2']
 by_cases g3 : ep < 0
 ·have g3' : ¬ 0 <= ep := by omega
  refine zG Tryz.tab Tryz.mixed Tryz.func20 rfl rfl Tryz.ntmps20 (by simp) (by simp) fun Q hr hn=>?_
  repeat' first|(refine hK _ ?_;clear hK)|(refine hK _ _ ?_;clear hK)|(clear hK;refine hK _ ?_;clear hK)|(clear hK;clear hK;refine hK _ ?_;clear hK)|(clear hK;clear hK;clear hK;refine hK _ ?_;clear hK)|(clear hK;clear hK;clear hK;clear hK;refine hK _ ?_;clear hK)|(refine zJ fun K hK=>?_)|((first | refine zH ?_ | refine zN rfl (by kernel_rfl) ?_ | refine zM ?_ | refine zK (by kernel_rfl) ?_);simp only [wK,wJ,strip])|((first | refine wIs fun K hK=>?_ | refine wOs fun K hK=>?_ | refine wQs fun K hK=>?_ | refine zW ?_ | refine zX ?_ | refine zY ?_ | refine zL ?_);simp [g1,g2,g3])|(refine wIn ?_;refine And.intro (by kernel_rfl) ?_;try simp only [zZ])|(first | refine zQ ?_ | refine zS ?_)|((first | refine zI ?_ | refine zO ?_ | refine zP ?_);try simp)|((first | refine zR ?_ | refine wOn ?_ | refine wQn ?_);try simp only [zZ])
  all_goals apply hr
  all_goals simp [Tryz.f20,g3']
 by_cases g4 : 1099511627776 < ep
 ·have g4' : ¬ ep <= 1099511627776 := by omega
  refine zG Tryz.tab Tryz.mixed Tryz.func20 rfl rfl Tryz.ntmps20 (by simp) (by simp) fun Q hr hn=>?_
  repeat' first|(refine hK _ ?_;clear hK)|(refine hK _ _ ?_;clear hK)|(clear hK;refine hK _ ?_;clear hK)|(clear hK;clear hK;refine hK _ ?_;clear hK)|(clear hK;clear hK;clear hK;refine hK _ ?_;clear hK)|(clear hK;clear hK;clear hK;clear hK;refine hK _ ?_;clear hK)|(refine zJ fun K hK=>?_)|((first | refine zH ?_ | refine zN rfl (by kernel_rfl) ?_ | refine zM ?_ | refine zK (by kernel_rfl) ?_);simp only [wK,wJ,strip])|((first | refine wIs fun K hK=>?_ | refine wOs fun K hK=>?_ | refine wQs fun K hK=>?_ | refine zW ?_ | refine zX ?_ | refine zY ?_ | refine zL ?_);simp [g1,g2,g3,g4])|(refine wIn ?_;refine And.intro (by kernel_rfl) ?_;try simp only [zZ])|(first | refine zQ ?_ | refine zS ?_)|((first | refine zI ?_ | refine zO ?_ | refine zP ?_);try simp)|((first | refine zR ?_ | refine wOn ?_ | refine wQn ?_);try simp only [zZ])
  all_goals apply hr
  all_goals simp [Tryz.f20,g4']
 by_cases g5 : n < 0
 ·have g5' : ¬ 0 <= n := by omega
  refine zG Tryz.tab Tryz.mixed Tryz.func20 rfl rfl Tryz.ntmps20 (by simp) (by simp) fun Q hr hn=>?_
  repeat' first|(refine hK _ ?_;clear hK)|(refine hK _ _ ?_;clear hK)|(clear hK;refine hK _ ?_;clear hK)|(clear hK;clear hK;refine hK _ ?_;clear hK)|(clear hK;clear hK;clear hK;refine hK _ ?_;clear hK)|(clear hK;clear hK;clear hK;clear hK;refine hK _ ?_;clear hK)|(refine zJ fun K hK=>?_)|((first | refine zH ?_ | refine zN rfl (by kernel_rfl) ?_ | refine zM ?_ | refine zK (by kernel_rfl) ?_);simp only [wK,wJ,strip])|((first | refine wIs fun K hK=>?_ | refine wOs fun K hK=>?_ | refine wQs fun K hK=>?_ | refine zW ?_ | refine zX ?_ | refine zY ?_ | refine zL ?_);simp [g1,g2,g3,g4,g5])|(refine wIn ?_;refine And.intro (by kernel_rfl) ?_;try simp only [zZ])|(first | refine zQ ?_ | refine zS ?_)|((first | refine zI ?_ | refine zO ?_ | refine zP ?_);try simp)|((first | refine zR ?_ | refine wOn ?_ | refine wQn ?_);try simp only [zZ])
  all_goals apply hr
  all_goals simp [Tryz.f20,g5']
 by_cases g6 : 1099511627776 < n
 ·have g6' : ¬ n <= 1099511627776 := by omega
  refine zG Tryz.tab Tryz.mixed Tryz.func20 rfl rfl Tryz.ntmps20 (by simp) (by simp) fun Q hr hn=>?_
  repeat' first|(refine hK _ ?_;clear hK)|(refine hK _ _ ?_;clear hK)|(clear hK;refine hK _ ?_;clear hK)|(clear hK;clear hK;refine hK _ ?_;clear hK)|(clear hK;clear hK;clear hK;refine hK _ ?_;clear hK)|(clear hK;clear hK;clear hK;clear hK;refine hK _ ?_;clear hK)|(refine zJ fun K hK=>?_)|((first | refine zH ?_ | refine zN rfl (by kernel_rfl) ?_ | refine zM ?_ | refine zK (by kernel_rfl) ?_);simp only [wK,wJ,strip])|((first | refine wIs fun K hK=>?_ | refine wOs fun K hK=>?_ | refine wQs fun K hK=>?_ | refine zW ?_ | refine zX ?_ | refine zY ?_ | refine zL ?_);simp [g1,g2,g3,g4,g5,g6])|(refine wIn ?_;refine And.intro (by kernel_rfl) ?_;try simp only [zZ])|(first | refine zQ ?_ | refine zS ?_)|((first | refine zI ?_ | refine zO ?_ | refine zP ?_);try simp)|((first | refine zR ?_ | refine wOn ?_ | refine wQn ?_);try simp only [zZ])
  all_goals apply hr
  all_goals simp [Tryz.f20,g6']
 rw [if_pos ⟨⟨by omega,by omega⟩,⟨by omega,by omega⟩,⟨by omega,by omega⟩⟩]
 refine zG Tryz.tab Tryz.mixed Tryz.func20 rfl rfl Tryz.ntmps20 (by simp) (by simp) fun Q hr hn=>?_
 repeat' first|(refine hK _ ?_;clear hK)|(refine hK _ _ ?_;clear hK)|(clear hK;refine hK _ ?_;clear hK)|(clear hK;clear hK;refine hK _ ?_;clear hK)|(clear hK;clear hK;clear hK;refine hK _ ?_;clear hK)|(clear hK;clear hK;clear hK;clear hK;refine hK _ ?_;clear hK)|(refine zJ fun K hK=>?_)|((first | refine zH ?_ | refine zN rfl (by kernel_rfl) ?_ | refine zM ?_ | refine zK (by kernel_rfl) ?_);simp only [wK,wJ,strip])|((first | refine wIs fun K hK=>?_ | refine wOs fun K hK=>?_ | refine wQs fun K hK=>?_ | refine zW ?_ | refine zX ?_ | refine zY ?_ | refine zL ?_);simp [g1,g2,g3,g4,g5,g6])|(refine wIn ?_;refine And.intro (by kernel_rfl) ?_;try simp only [zZ])|(first | refine zQ ?_ | refine zS ?_)|((first | refine zI ?_ | refine zO ?_ | refine zP ?_);try simp)|((first | refine zR ?_ | refine wOn ?_ | refine wQn ?_);try simp only [zZ])
 refine yA (fun N st => ∃ (k : Nat) (a b : Int), k + N = l.length /\ st.s 1 = .ptr 1 0 /\ st.b 1 = some (.box 28 [.p (I ep), .p (I n), .p (I kind), .p (.sl 4 (mbs l))]) /\ st.s 40 = .p (.sl 4 (mbs l)) /\ st.s 41 = .p (I l.length) /\ st.s 42 = .p (I k) /\ st.s 3 = .p (I a) /\ st.s 4 = .p (I b) /\ fine (prevI l k) (l.drop k) = fine (-1) l ∧
  (0 <= a /\ a <= 100 * k /\ a + wsum (l.drop k) = wsum l) /\ (0 <= b /\ b <= k /\ b + cnt (l.drop k) = cnt l)) l.length ⟨0,0,0,by simp [prevI_zero]⟩ fun K N st hL ⟨k,a,b,hk,h1,b1,h40,h41,h42,h3,h4,hi,⟨ha0,ha1,ha⟩,⟨hb0,hb1,hb⟩⟩=>?_
 by_cases hlt : k < l.length
 ·have hw := yB k _ hlt (by omega)
  have hwb : IntKind.i64.wrap (b + 1) = b + 1:=by rw [yY] <;> omega
  rw [List.drop_eq_getElem_cons hlt,fine] at hi
  rw [List.drop_eq_getElem_cons hlt,wsum] at ha
  rw [List.drop_eq_getElem_cons hlt,cnt] at hb
  have cr:=ok04_con l[k]
  simp only [Mb.cells] at cr
  by_cases o1 : okM l[k]
  ·rw [decide_eq_true o1] at cr
   have hw0:=o1.2.2.1
   have hwa : IntKind.i64.wrap (a + l[k].w) = a + l[k].w:=by rw [yY] <;> omega
   by_cases o2 : 0 < k
   ·have o2' : (0 : Int) < k := by omega
    have hw1 : IntKind.i64.wrap ((k : Int) - 1) = ((k - 1 : Nat) : Int):=by rw [yY] <;> omega
    have hk1 : k - 1 < l.length:=by omega
    rw [prevI_pos l k o2 hlt] at hi
    by_cases o3 : l[k].i <= l[k - 1].i
    ·repeat' first | (refine hK _ ?_; clear hK) | (refine hK _ _ ?_; clear hK) | (clear hK; refine hK _ ?_; clear hK) | (clear hK; clear hK; refine hK _ ?_; clear hK) | (clear hK; clear hK; clear hK; refine hK _ ?_; clear hK) | (clear hK; clear hK; clear hK; clear hK; refine hK _ ?_; clear hK) | (refine zJ fun K hK => ?_) | ((first | refine zH ?_ | refine zN rfl (by kernel_rfl) ?_ | refine zM ?_ | refine zK (by kernel_rfl) ?_); simp only [wK, wJ, strip]) | ((first | refine wIs fun K hK => ?_ | refine wOs fun K hK => ?_ | refine wQs fun K hK => ?_ | refine zW ?_ | refine zX ?_ | refine zY ?_ | refine zL ?_); simp [h1, b1, h40, h41, h42, h3, h4, hlt, hw, o2, o2', hw1, hk1, o3]) | (refine wIn ?_; refine And.intro (by kernel_rfl) ?_; try simp only [zZ]) | (first | refine zQ ?_ | refine zS ?_) | ((first | refine zI ?_ | refine zO ?_ | refine zP ?_); try simp) | ((first | refine zR ?_ | refine wOn ?_ | refine wQn ?_); try simp only [zZ]) | (refine zU.pure (cr) rfl ?_) | (refine zU.lent (cr) rfl ?_) | (refine zT.pure (cr) rfl ?_) | (refine zT.lent (cr) rfl ?_) | (refine zU.own (cr) ?_) | (refine zV.pure (cr) rfl ?_) | (refine zV.lent (cr) rfl ?_) | (refine zV.own (cr) ?_)
     all_goals apply hr
     all_goals simp [Tryz.f20]
     all_goals rw [decide_eq_false (by omega)] at hi
     all_goals simp [<- hi]
    ·rw [decide_eq_true ⟨o1, by omega⟩, Bool.true_and] at hi
     by_cases o4 : l[k].r = 1
     ·rw [o4] at cr
      repeat' first|(refine hK _ ?_;clear hK)|(refine hK _ _ ?_;clear hK)|(clear hK;refine hK _ ?_;clear hK)|(clear hK;clear hK;refine hK _ ?_;clear hK)|(clear hK;clear hK;clear hK;refine hK _ ?_;clear hK)|(clear hK;clear hK;clear hK;clear hK;refine hK _ ?_;clear hK)|(refine zJ fun K hK=>?_)|((first | refine zH ?_ | refine zN rfl (by kernel_rfl) ?_ | refine zM ?_ | refine zK (by kernel_rfl) ?_);simp only [wK,wJ,strip])|((first | refine wIs fun K hK=>?_ | refine wOs fun K hK=>?_ | refine wQs fun K hK=>?_ | refine zW ?_ | refine zX ?_ | refine zY ?_ | refine zL ?_);simp [h1,b1,h40,h41,h42,h3,h4,hlt,hw,o2,o2',hw1,hk1,o3,o4,hwa,hwb])|(refine wIn ?_;refine And.intro (by kernel_rfl) ?_;try simp only [zZ])|(first | refine zQ ?_ | refine zS ?_)|((first | refine zI ?_ | refine zO ?_ | refine zP ?_);try simp)|((first | refine zR ?_ | refine wOn ?_ | refine wQn ?_);try simp only [zZ])|(refine zU.pure (cr) rfl ?_)|(refine zU.lent (cr) rfl ?_)|(refine zT.pure (cr) rfl ?_)|(refine zT.lent (cr) rfl ?_)|(refine zU.own (cr) ?_)|(refine zV.pure (cr) rfl ?_)|(refine zV.lent (cr) rfl ?_)|(refine zV.own (cr) ?_)
      refine hL _ (N - 1) (by omega) ⟨k + 1,a + l[k].w,b + 1,by omega,?_⟩
      rw [if_pos o4] at ha hb
      simp [h1,b1,h40,h41,hw,hwa,hwb]
      rw [prevI_succ l k hlt]
      refine ⟨hi,⟨by omega,by omega,by omega⟩,by omega,by omega⟩
     ·repeat' first | (refine hK _ ?_; clear hK) | (refine hK _ _ ?_; clear hK) | (clear hK; refine hK _ ?_; clear hK) | (clear hK; clear hK; refine hK _ ?_; clear hK) | (clear hK; clear hK; clear hK; refine hK _ ?_; clear hK) | (clear hK; clear hK; clear hK; clear hK; refine hK _ ?_; clear hK) | (refine zJ fun K hK => ?_) | ((first | refine zH ?_ | refine zN rfl (by kernel_rfl) ?_ | refine zM ?_ | refine zK (by kernel_rfl) ?_); simp only [wK, wJ, strip]) | ((first | refine wIs fun K hK => ?_ | refine wOs fun K hK => ?_ | refine wQs fun K hK => ?_ | refine zW ?_ | refine zX ?_ | refine zY ?_ | refine zL ?_); simp [h1, b1, h40, h41, h42, h3, h4, hlt, hw, o2, o2', hw1, hk1, o3, o4]) | (refine wIn ?_; refine And.intro (by kernel_rfl) ?_; try simp only [zZ]) | (first | refine zQ ?_ | refine zS ?_) | ((first | refine zI ?_ | refine zO ?_ | refine zP ?_); try simp) | ((first | refine zR ?_ | refine wOn ?_ | refine wQn ?_); try simp only [zZ]) | (refine zU.pure (cr) rfl ?_) | (refine zU.lent (cr) rfl ?_) | (refine zT.pure (cr) rfl ?_) | (refine zT.lent (cr) rfl ?_) | (refine zU.own (cr) ?_) | (refine zV.pure (cr) rfl ?_) | (refine zV.lent (cr) rfl ?_) | (refine zV.own (cr) ?_)
      refine hL _ (N - 1) (by omega) ⟨k + 1,a,b,by omega,?_⟩
      rw [if_neg o4] at ha hb
      simp [h1,b1,h40,h41,h3,h4,hw]
      rw [prevI_succ l k hlt]
      refine ⟨hi,⟨by omega,by omega,by omega⟩,by omega,by omega,by omega⟩
   ·obtain rfl : k = 0 := by omega
    have:=o1.1.1
    rw [prevI_zero,decide_eq_true ⟨o1,by omega⟩,Bool.true_and] at hi
    simp at h42 hw
    by_cases o4 : l[0].r = 1
    ·rw [o4] at cr
     repeat' first|(refine hK _ ?_;clear hK)|(refine hK _ _ ?_;clear hK)|(clear hK;refine hK _ ?_;clear hK)|(clear hK;clear hK;refine hK _ ?_;clear hK)|(clear hK;clear hK;clear hK;refine hK _ ?_;clear hK)|(clear hK;clear hK;clear hK;clear hK;refine hK _ ?_;clear hK)|(refine zJ fun K hK=>?_)|((first | refine zH ?_ | refine zN rfl (by kernel_rfl) ?_ | refine zM ?_ | refine zK (by kernel_rfl) ?_);simp only [wK,wJ,strip])|((first | refine wIs fun K hK=>?_ | refine wOs fun K hK=>?_ | refine wQs fun K hK=>?_ | refine zW ?_ | refine zX ?_ | refine zY ?_ | refine zL ?_);simp [h1,b1,h40,h41,h42,h3,h4,hlt,hw,o4,hwa,hwb])|(refine wIn ?_;refine And.intro (by kernel_rfl) ?_;try simp only [zZ])|(first | refine zQ ?_ | refine zS ?_)|((first | refine zI ?_ | refine zO ?_ | refine zP ?_);try simp)|((first | refine zR ?_ | refine wOn ?_ | refine wQn ?_);try simp only [zZ])|(refine zU.pure (cr) rfl ?_)|(refine zU.lent (cr) rfl ?_)|(refine zT.pure (cr) rfl ?_)|(refine zT.lent (cr) rfl ?_)|(refine zU.own (cr) ?_)|(refine zV.pure (cr) rfl ?_)|(refine zV.lent (cr) rfl ?_)|(refine zV.own (cr) ?_)
     refine hL _ (N - 1) (by omega) ⟨0 + 1,a + l[0].w,b + 1,by omega,?_⟩
     rw [if_pos o4] at ha hb
     rw [prevI_succ l 0 hlt]
     simp [h1,b1,h40,h41,hw,hwa,hwb]
     rw [<- List.drop_one]
     simp only [Nat.zero_add] at ha hb hi
     refine ⟨hi,⟨by omega,by omega,by omega⟩,by omega,by omega,by omega⟩
    ·repeat' first | (refine hK _ ?_; clear hK) | (refine hK _ _ ?_; clear hK) | (clear hK; refine hK _ ?_; clear hK) | (clear hK; clear hK; refine hK _ ?_; clear hK) | (clear hK; clear hK; clear hK; refine hK _ ?_; clear hK) | (clear hK; clear hK; clear hK; clear hK; refine hK _ ?_; clear hK) | (refine zJ fun K hK => ?_) | ((first | refine zH ?_ | refine zN rfl (by kernel_rfl) ?_ | refine zM ?_ | refine zK (by kernel_rfl) ?_); simp only [wK, wJ, strip]) | ((first | refine wIs fun K hK => ?_ | refine wOs fun K hK => ?_ | refine wQs fun K hK => ?_ | refine zW ?_ | refine zX ?_ | refine zY ?_ | refine zL ?_); simp [h1, b1, h40, h41, h42, h3, h4, hlt, hw, o4]) | (refine wIn ?_; refine And.intro (by kernel_rfl) ?_; try simp only [zZ]) | (first | refine zQ ?_ | refine zS ?_) | ((first | refine zI ?_ | refine zO ?_ | refine zP ?_); try simp) | ((first | refine zR ?_ | refine wOn ?_ | refine wQn ?_); try simp only [zZ]) | (refine zU.pure (cr) rfl ?_) | (refine zU.lent (cr) rfl ?_) | (refine zT.pure (cr) rfl ?_) | (refine zT.lent (cr) rfl ?_) | (refine zU.own (cr) ?_) | (refine zV.pure (cr) rfl ?_) | (refine zV.lent (cr) rfl ?_) | (refine zV.own (cr) ?_)
     refine hL _ (N - 1) (by omega) ⟨0 + 1,a,b,by omega,?_⟩
     rw [if_neg o4] at ha hb
     rw [prevI_succ l 0 hlt]
     simp [h1,b1,h40,h41,h3,h4,hw]
     rw [<- List.drop_one]
     simp only [Nat.zero_add] at ha hb hi
     refine ⟨hi,⟨by omega,by omega,by omega⟩,by omega,by omega,by omega⟩
  ·rw [decide_eq_false o1] at cr
   repeat' first|(refine hK _ ?_;clear hK)|(refine hK _ _ ?_;clear hK)|(clear hK;refine hK _ ?_;clear hK)|(clear hK;clear hK;refine hK _ ?_;clear hK)|(clear hK;clear hK;clear hK;refine hK _ ?_;clear hK)|(clear hK;clear hK;clear hK;clear hK;refine hK _ ?_;clear hK)|(refine zJ fun K hK=>?_)|((first | refine zH ?_ | refine zN rfl (by kernel_rfl) ?_ | refine zM ?_ | refine zK (by kernel_rfl) ?_);simp only [wK,wJ,strip])|((first | refine wIs fun K hK=>?_ | refine wOs fun K hK=>?_ | refine wQs fun K hK=>?_ | refine zW ?_ | refine zX ?_ | refine zY ?_ | refine zL ?_);simp [h1,b1,h40,h41,h42,h3,h4,hlt,hw])|(refine wIn ?_;refine And.intro (by kernel_rfl) ?_;try simp only [zZ])|(first | refine zQ ?_ | refine zS ?_)|((first | refine zI ?_ | refine zO ?_ | refine zP ?_);try simp)|((first | refine zR ?_ | refine wOn ?_ | refine wQn ?_);try simp only [zZ])|(refine zU.pure (cr) rfl ?_)|(refine zU.lent (cr) rfl ?_)|(refine zT.pure (cr) rfl ?_)|(refine zT.lent (cr) rfl ?_)|(refine zU.own (cr) ?_)|(refine zV.pure (cr) rfl ?_)|(refine zV.lent (cr) rfl ?_)|(refine zV.own (cr) ?_)
   all_goals apply hr
   all_goals simp [Tryz.f20]
   all_goals simp [<- hi,o1]
 ·rw [List.drop_of_length_le (by omega)] at hi ha hb
  have hi' : fine (-1) l = true:=hi ▸ rfl
  obtain ⟨e1,e2,e3,e4,e5⟩:=sums kind l _ hi'
  simp only [wsum,cnt,Int.add_zero] at ha hb
  subst ha hb
  by_cases g5 : cnt l = 0
  ·repeat' first | (refine hK _ ?_; clear hK) | (refine hK _ _ ?_; clear hK) | (clear hK; refine hK _ ?_; clear hK) | (clear hK; clear hK; refine hK _ ?_; clear hK) | (clear hK; clear hK; clear hK; refine hK _ ?_; clear hK) | (clear hK; clear hK; clear hK; clear hK; refine hK _ ?_; clear hK) | (refine zJ fun K hK => ?_) | ((first | refine zH ?_ | refine zN rfl (by kernel_rfl) ?_ | refine zM ?_ | refine zK (by kernel_rfl) ?_); simp only [wK, wJ, strip]) | ((first | refine wIs fun K hK => ?_ | refine wOs fun K hK => ?_ | refine wQs fun K hK => ?_ | refine zW ?_ | refine zX ?_ | refine zY ?_ | refine zL ?_); simp [h1, b1, h40, h41, h42, h3, h4, hlt, g5]) | (refine wIn ?_; refine And.intro (by kernel_rfl) ?_; try simp only [zZ]) | (first | refine zQ ?_ | refine zS ?_) | ((first | refine zI ?_ | refine zO ?_ | refine zP ?_); try simp) | ((first | refine zR ?_ | refine wOn ?_ | refine wQn ?_); try simp only [zZ])
   all_goals apply hr
   all_goals simp [Tryz.f20,hi']
   all_goals by_cases g6 : kind = 1
   all_goals first | rw [e4 g6,decide_eq_false (by omega)] | rw [e5 g6,decide_eq_false (by omega)]
   all_goals rfl
  ·by_cases g6 : kind = 1
   ·repeat' first | (refine hK _ ?_; clear hK) | (refine hK _ _ ?_; clear hK) | (clear hK; refine hK _ ?_; clear hK) | (clear hK; clear hK; refine hK _ ?_; clear hK) | (clear hK; clear hK; clear hK; refine hK _ ?_; clear hK) | (clear hK; clear hK; clear hK; clear hK; refine hK _ ?_; clear hK) | (refine zJ fun K hK => ?_) | ((first | refine zH ?_ | refine zN rfl (by kernel_rfl) ?_ | refine zM ?_ | refine zK (by kernel_rfl) ?_); simp only [wK, wJ, strip]) | ((first | refine wIs fun K hK => ?_ | refine wOs fun K hK => ?_ | refine wQs fun K hK => ?_ | refine zW ?_ | refine zX ?_ | refine zY ?_ | refine zL ?_); simp [h1, b1, h40, h41, h42, h3, h4, hlt, g5, g6]) | (refine wIn ?_; refine And.intro (by kernel_rfl) ?_; try simp only [zZ]) | (first | refine zQ ?_ | refine zS ?_) | ((first | refine zI ?_ | refine zO ?_ | refine zP ?_); try simp) | ((first | refine zR ?_ | refine wOn ?_ | refine wQn ?_); try simp only [zZ])
    all_goals apply hr
    all_goals simp [Tryz.f20,hi']
    all_goals rw [e4 g6,decide_eq_true (by omega)]
    all_goals rfl
   ·by_cases g7 : wsum l = 0
    ·repeat' first | (refine hK _ ?_; clear hK) | (refine hK _ _ ?_; clear hK) | (clear hK; refine hK _ ?_; clear hK) | (clear hK; clear hK; refine hK _ ?_; clear hK) | (clear hK; clear hK; clear hK; refine hK _ ?_; clear hK) | (clear hK; clear hK; clear hK; clear hK; refine hK _ ?_; clear hK) | (refine zJ fun K hK => ?_) | ((first | refine zH ?_ | refine zN rfl (by kernel_rfl) ?_ | refine zM ?_ | refine zK (by kernel_rfl) ?_); simp only [wK, wJ, strip]) | ((first | refine wIs fun K hK => ?_ | refine wOs fun K hK => ?_ | refine wQs fun K hK => ?_ | refine zW ?_ | refine zX ?_ | refine zY ?_ | refine zL ?_); simp [h1, b1, h40, h41, h42, h3, h4, hlt, g5, g6, g7]) | (refine wIn ?_; refine And.intro (by kernel_rfl) ?_; try simp only [zZ]) | (first | refine zQ ?_ | refine zS ?_) | ((first | refine zI ?_ | refine zO ?_ | refine zP ?_); try simp) | ((first | refine zR ?_ | refine wOn ?_ | refine wQn ?_); try simp only [zZ])
     all_goals apply hr
     all_goals simp [Tryz.f20,hi']
     all_goals rw [e5 g6,decide_eq_false (by omega)]
     all_goals rfl
    ·repeat' first | (refine hK _ ?_; clear hK) | (refine hK _ _ ?_; clear hK) | (clear hK; refine hK _ ?_; clear hK) | (clear hK; clear hK; refine hK _ ?_; clear hK) | (clear hK; clear hK; clear hK; refine hK _ ?_; clear hK) | (clear hK; clear hK; clear hK; clear hK; refine hK _ ?_; clear hK) | (refine zJ fun K hK => ?_) | ((first | refine zH ?_ | refine zN rfl (by kernel_rfl) ?_ | refine zM ?_ | refine zK (by kernel_rfl) ?_); simp only [wK, wJ, strip]) | ((first | refine wIs fun K hK => ?_ | refine wOs fun K hK => ?_ | refine wQs fun K hK => ?_ | refine zW ?_ | refine zX ?_ | refine zY ?_ | refine zL ?_); simp [h1, b1, h40, h41, h42, h3, h4, hlt, g5, g6, g7]) | (refine wIn ?_; refine And.intro (by kernel_rfl) ?_; try simp only [zZ]) | (first | refine zQ ?_ | refine zS ?_) | ((first | refine zI ?_ | refine zO ?_ | refine zP ?_); try simp) | ((first | refine zR ?_ | refine wOn ?_ | refine wQn ?_); try simp only [zZ])
     all_goals apply hr
     all_goals simp [Tryz.f20,hi']
     all_goals rw [e5 g6,decide_eq_true (by omega)]
     all_goals rfl
end Go.Proofs.YtedbbcmokbogpaaGreatDoor
