/- Texts that the proof needs: PA. -/
import Derived.Test.YtedbbcmokbogpaaGreatDoorP17PrepCloses
import Derived.Test.YtedbbcmokbogpaaGreatDoorP21PrepCloses
import Derived.Test.YtedbbcmokbogpaaGreatDoorP23PrepCloses
namespace Go.Proofs.YtedbbcmokbogpaaGreatDoor
set_option linter.unusedSimpArgs false
set_option linter.unusedVariables false
open Go Go.Av
attribute [local irreducible] Go.Av.yR Go.Av.zU Go.Av.yM Go.Av.zT Go.Av.yO Go.Av.zV Go.Av.Con
def chr (b : UInt8) : Bool := decide (33 <= b.toNat /\ b.toNat <= 126 /\ b.toNat ≠ 47)
def nm (l : List UInt8) : Bool := decide (1 <= l.length /\ l.length <= 16 /\ l ≠ [46] /\ l ≠ [46, 46]) && l.all chr
theorem all_snocp (p : UInt8 -> Bool) (l : List UInt8) (k : Nat) (h : k < l.length) : (l.take (k + 1)).all p = ((l.take k).all p && p l[k]) := by
 rw [List.take_succ_eq_append_getElem h,List.all_append];simp
theorem not_all {l : List UInt8} {k : Nat} (h : k < l.length) (hc : chr l[k] = false) : l.all chr = false := by
 cases h2 : l.all chr with
 | false=>rfl
 | true =>
  rw [List.all_eq_true] at h2
  have:=h2 _ (List.getElem_mem h)
  rw [hc] at this;simp at this
theorem chr_cases (b : UInt8) : ((b.toNat : Int) < 33 /\ chr b = false) \/ (¬ (b.toNat : Int) < 33 /\ (126 : Int) < b.toNat /\ chr b = false) \/ (¬ (b.toNat : Int) < 33 /\ ¬ (126 : Int) < b.toNat /\ (b.toNat : Int) = 47 /\ chr b = false) \/ (¬ (b.toNat : Int) < 33 /\ ¬ (126 : Int) < b.toNat /\ ¬ (b.toNat : Int) = 47 /\ chr b = true) := by
 simp only [chr,decide_eq_true_eq,decide_eq_false_iff_not]
 omega
theorem isNameL {Q : AExit -> St -> Prop} {st : St} (l : List UInt8) (hl : l.length <= 16) (hret : l.all chr = false -> ∀ st, st.s 2 = .p (B false) -> Q .ret st)
 (hex : l.all chr = true -> ∀ st,Q (.exit 0) st) (h0 : st.s 21 = .p (.sl 1 (l.map fun b=>[.v (.int .u8 b.toNat)])) /\ st.s 22 = .p (I l.length) /\ st.s 23 = .p (I 0)) :
 WC Tryz.prog Tryz.T 38 (lp Tryz.f83 0) Q st:=by
 obtain ⟨g21,g22,g23⟩:=h0
 refine yA (fun N st=>∃ k,k + N = l.length /\ (l.take k).all chr = true /\ st.s 21 = .p (.sl 1 (l.map fun b=>[.v (.int .u8 b.toNat)])) /\ st.s 22 = .p (I l.length) /\ st.s 23 = .p (I k)) l.length ⟨0,by simp,by simp,g21,g22,g23⟩ fun K N st hL ⟨k,hk,ha,g21,g22,g23⟩=>?_
 by_cases hlt : k < l.length
 ·have hw := yB k _ hlt (by omega)
  have has:=all_snocp chr l k hlt
  rw [ha,Bool.true_and] at has
  rcases chr_cases l[k] with ⟨d1,hc⟩ | ⟨d1,d2,hc⟩ | ⟨d1,d2,d3,hc⟩ | ⟨d1,d2,d3,hc⟩
  ·repeat' first | (refine hK _ ?_; clear hK) | (refine hK _ _ ?_; clear hK) | (clear hK; refine hK _ ?_; clear hK) | (clear hK; clear hK; refine hK _ ?_; clear hK) | (clear hK; clear hK; clear hK; refine hK _ ?_; clear hK) | (clear hK; clear hK; clear hK; clear hK; refine hK _ ?_; clear hK) | (refine zJ fun K hK => ?_) | ((first | refine zH ?_ | refine zN rfl (by kernel_rfl) ?_ | refine zM ?_ | refine zK (by kernel_rfl) ?_); simp only [wK, wJ, strip]) | ((first | refine wIs fun K hK => ?_ | refine wOs fun K hK => ?_ | refine wQs fun K hK => ?_ | refine zW ?_ | refine zX ?_ | refine zY ?_ | refine zL ?_); simp [g21, g22, g23, hlt, hw, d1]) | (refine wIn ?_; refine And.intro (by kernel_rfl) ?_; try simp only [zZ]) | (first | refine zQ ?_ | refine zS ?_) | ((first | refine zI ?_ | refine zO ?_ | refine zP ?_); try simp) | ((first | refine zR ?_ | refine wOn ?_ | refine wQn ?_); try simp only [zZ])
   exact hret (not_all hlt hc) _ (by simp)
  ·repeat' first | (refine hK _ ?_; clear hK) | (refine hK _ _ ?_; clear hK) | (clear hK; refine hK _ ?_; clear hK) | (clear hK; clear hK; refine hK _ ?_; clear hK) | (clear hK; clear hK; clear hK; refine hK _ ?_; clear hK) | (clear hK; clear hK; clear hK; clear hK; refine hK _ ?_; clear hK) | (refine zJ fun K hK => ?_) | ((first | refine zH ?_ | refine zN rfl (by kernel_rfl) ?_ | refine zM ?_ | refine zK (by kernel_rfl) ?_); simp only [wK, wJ, strip]) | ((first | refine wIs fun K hK => ?_ | refine wOs fun K hK => ?_ | refine wQs fun K hK => ?_ | refine zW ?_ | refine zX ?_ | refine zY ?_ | refine zL ?_); simp [g21, g22, g23, hlt, hw, d1, d2]) | (refine wIn ?_; refine And.intro (by kernel_rfl) ?_; try simp only [zZ]) | (first | refine zQ ?_ | refine zS ?_) | ((first | refine zI ?_ | refine zO ?_ | refine zP ?_); try simp) | ((first | refine zR ?_ | refine wOn ?_ | refine wQn ?_); try simp only [zZ])
   exact hret (not_all hlt hc) _ (by simp)
  ·repeat' first | (refine hK _ ?_; clear hK) | (refine hK _ _ ?_; clear hK) | (clear hK; refine hK _ ?_; clear hK) | (clear hK; clear hK; refine hK _ ?_; clear hK) | (clear hK; clear hK; clear hK; refine hK _ ?_; clear hK) | (clear hK; clear hK; clear hK; clear hK; refine hK _ ?_; clear hK) | (refine zJ fun K hK => ?_) | ((first | refine zH ?_ | refine zN rfl (by kernel_rfl) ?_ | refine zM ?_ | refine zK (by kernel_rfl) ?_); simp only [wK, wJ, strip]) | ((first | refine wIs fun K hK => ?_ | refine wOs fun K hK => ?_ | refine wQs fun K hK => ?_ | refine zW ?_ | refine zX ?_ | refine zY ?_ | refine zL ?_); simp [g21, g22, g23, hlt, hw, d1, d2, d3]) | (refine wIn ?_; refine And.intro (by kernel_rfl) ?_; try simp only [zZ]) | (first | refine zQ ?_ | refine zS ?_) | ((first | refine zI ?_ | refine zO ?_ | refine zP ?_); try simp) | ((first | refine zR ?_ | refine wOn ?_ | refine wQn ?_); try simp only [zZ])
   exact hret (not_all hlt hc) _ (by simp)
  ·rw [hc] at has
   repeat' first|(refine hK _ ?_;clear hK)|(refine hK _ _ ?_;clear hK)|(clear hK;refine hK _ ?_;clear hK)|(clear hK;clear hK;refine hK _ ?_;clear hK)|(clear hK;clear hK;clear hK;refine hK _ ?_;clear hK)|(clear hK;clear hK;clear hK;clear hK;refine hK _ ?_;clear hK)|(refine zJ fun K hK=>?_)|((first | refine zH ?_ | refine zN rfl (by kernel_rfl) ?_ | refine zM ?_ | refine zK (by kernel_rfl) ?_);simp only [wK,wJ,strip])|((first | refine wIs fun K hK=>?_ | refine wOs fun K hK=>?_ | refine wQs fun K hK=>?_ | refine zW ?_ | refine zX ?_ | refine zY ?_ | refine zL ?_);simp [g21,g22,g23,hlt,hw,d1,d2,d3])|(refine wIn ?_;refine And.intro (by kernel_rfl) ?_;try simp only [zZ])|(first | refine zQ ?_ | refine zS ?_)|((first | refine zI ?_ | refine zO ?_ | refine zP ?_);try simp)|((first | refine zR ?_ | refine wOn ?_ | refine wQn ?_);try simp only [zZ])
   refine hL _ (N - 1) (by omega) ⟨k + 1,by omega,has,?_⟩
   simp [g21,g22,g23,hw]
 ·have e : l.take k = l := List.take_of_length_le (by omega)
  rw [e] at ha
  repeat' first|(refine hK _ ?_;clear hK)|(refine hK _ _ ?_;clear hK)|(clear hK;refine hK _ ?_;clear hK)|(clear hK;clear hK;refine hK _ ?_;clear hK)|(clear hK;clear hK;clear hK;refine hK _ ?_;clear hK)|(clear hK;clear hK;clear hK;clear hK;refine hK _ ?_;clear hK)|(refine zJ fun K hK=>?_)|((first | refine zH ?_ | refine zN rfl (by kernel_rfl) ?_ | refine zM ?_ | refine zK (by kernel_rfl) ?_);simp only [wK,wJ,strip])|((first | refine wIs fun K hK=>?_ | refine wOs fun K hK=>?_ | refine wQs fun K hK=>?_ | refine zW ?_ | refine zX ?_ | refine zY ?_ | refine zL ?_);simp [g21,g22,g23,hlt])|(refine wIn ?_;refine And.intro (by kernel_rfl) ?_;try simp only [zZ])|(first | refine zQ ?_ | refine zS ?_)|((first | refine zI ?_ | refine zO ?_ | refine zP ?_);try simp)|((first | refine zR ?_ | refine wOn ?_ | refine wQn ?_);try simp only [zZ])
  exact hex ha _
theorem isNameL2 {Q : AExit -> St -> Prop} {st : St} (l : List UInt8) (hl : l.length <= 16) (hret : l.all chr = false -> ∀ st, st.s 2 = .p (B false) -> Q .ret st)
 (hex : l.all chr = true -> ∀ st,Q (.exit 0) st) (h0 : st.s 0 = .p (SB l) /\ st.s 21 = .p (I l.length) /\ st.s 22 = .p (I 0)) :
 WC Tryz.prog Tryz.T 42 (lp Tryz.f52 0) Q st:=by
 obtain ⟨g0,g21,g22⟩:=h0
 refine yA (fun N st=>∃ k,k + N = l.length /\ (l.take k).all chr = true /\ st.s 0 = .p (SB l) /\ st.s 21 = .p (I l.length) /\ st.s 22 = .p (I k)) l.length ⟨0,by simp,by simp,g0,g21,g22⟩ fun K N st hL ⟨k,hk,ha,g0,g21,g22⟩=>?_
 by_cases hlt : k < l.length
 ·have hw := yB k _ hlt (by omega)
  have has:=all_snocp chr l k hlt
  rw [ha,Bool.true_and] at has
  rcases chr_cases l[k] with ⟨d1,hc⟩ | ⟨d1,d2,hc⟩ | ⟨d1,d2,d3,hc⟩ | ⟨d1,d2,d3,hc⟩
  ·repeat' first | (refine hK _ ?_; clear hK) | (refine hK _ _ ?_; clear hK) | (clear hK; refine hK _ ?_; clear hK) | (clear hK; clear hK; refine hK _ ?_; clear hK) | (clear hK; clear hK; clear hK; refine hK _ ?_; clear hK) | (clear hK; clear hK; clear hK; clear hK; refine hK _ ?_; clear hK) | (refine zJ fun K hK => ?_) | ((first | refine zH ?_ | refine zN rfl (by kernel_rfl) ?_ | refine zM ?_ | refine zK (by kernel_rfl) ?_); simp only [wK, wJ, strip]) | ((first | refine wIs fun K hK => ?_ | refine wOs fun K hK => ?_ | refine wQs fun K hK => ?_ | refine zW ?_ | refine zX ?_ | refine zY ?_ | refine zL ?_); simp [g0, g21, g22, hlt, hw, d1]) | (refine wIn ?_; refine And.intro (by kernel_rfl) ?_; try simp only [zZ]) | (first | refine zQ ?_ | refine zS ?_) | ((first | refine zI ?_ | refine zO ?_ | refine zP ?_); try simp) | ((first | refine zR ?_ | refine wOn ?_ | refine wQn ?_); try simp only [zZ])
   exact hret (not_all hlt hc) _ (by simp)
  ·repeat' first | (refine hK _ ?_; clear hK) | (refine hK _ _ ?_; clear hK) | (clear hK; refine hK _ ?_; clear hK) | (clear hK; clear hK; refine hK _ ?_; clear hK) | (clear hK; clear hK; clear hK; refine hK _ ?_; clear hK) | (clear hK; clear hK; clear hK; clear hK; refine hK _ ?_; clear hK) | (refine zJ fun K hK => ?_) | ((first | refine zH ?_ | refine zN rfl (by kernel_rfl) ?_ | refine zM ?_ | refine zK (by kernel_rfl) ?_); simp only [wK, wJ, strip]) | ((first | refine wIs fun K hK => ?_ | refine wOs fun K hK => ?_ | refine wQs fun K hK => ?_ | refine zW ?_ | refine zX ?_ | refine zY ?_ | refine zL ?_); simp [g0, g21, g22, hlt, hw, d1, d2]) | (refine wIn ?_; refine And.intro (by kernel_rfl) ?_; try simp only [zZ]) | (first | refine zQ ?_ | refine zS ?_) | ((first | refine zI ?_ | refine zO ?_ | refine zP ?_); try simp) | ((first | refine zR ?_ | refine wOn ?_ | refine wQn ?_); try simp only [zZ])
   exact hret (not_all hlt hc) _ (by simp)
  ·repeat' first | (refine hK _ ?_; clear hK) | (refine hK _ _ ?_; clear hK) | (clear hK; refine hK _ ?_; clear hK) | (clear hK; clear hK; refine hK _ ?_; clear hK) | (clear hK; clear hK; clear hK; refine hK _ ?_; clear hK) | (clear hK; clear hK; clear hK; clear hK; refine hK _ ?_; clear hK) | (refine zJ fun K hK => ?_) | ((first | refine zH ?_ | refine zN rfl (by kernel_rfl) ?_ | refine zM ?_ | refine zK (by kernel_rfl) ?_); simp only [wK, wJ, strip]) | ((first | refine wIs fun K hK => ?_ | refine wOs fun K hK => ?_ | refine wQs fun K hK => ?_ | refine zW ?_ | refine zX ?_ | refine zY ?_ | refine zL ?_); simp [g0, g21, g22, hlt, hw, d1, d2, d3]) | (refine wIn ?_; refine And.intro (by kernel_rfl) ?_; try simp only [zZ]) | (first | refine zQ ?_ | refine zS ?_) | ((first | refine zI ?_ | refine zO ?_ | refine zP ?_); try simp) | ((first | refine zR ?_ | refine wOn ?_ | refine wQn ?_); try simp only [zZ])
   exact hret (not_all hlt hc) _ (by simp)
  ·rw [hc] at has
   repeat' first|(refine hK _ ?_;clear hK)|(refine hK _ _ ?_;clear hK)|(clear hK;refine hK _ ?_;clear hK)|(clear hK;clear hK;refine hK _ ?_;clear hK)|(clear hK;clear hK;clear hK;refine hK _ ?_;clear hK)|(clear hK;clear hK;clear hK;clear hK;refine hK _ ?_;clear hK)|(refine zJ fun K hK=>?_)|((first | refine zH ?_ | refine zN rfl (by kernel_rfl) ?_ | refine zM ?_ | refine zK (by kernel_rfl) ?_);simp only [wK,wJ,strip])|((first | refine wIs fun K hK=>?_ | refine wOs fun K hK=>?_ | refine wQs fun K hK=>?_ | refine zW ?_ | refine zX ?_ | refine zY ?_ | refine zL ?_);simp [g0,g21,g22,hlt,hw,d1,d2,d3])|(refine wIn ?_;refine And.intro (by kernel_rfl) ?_;try simp only [zZ])|(first | refine zQ ?_ | refine zS ?_)|((first | refine zI ?_ | refine zO ?_ | refine zP ?_);try simp)|((first | refine zR ?_ | refine wOn ?_ | refine wQn ?_);try simp only [zZ])
   refine hL _ (N - 1) (by omega) ⟨k + 1,by omega,has,?_⟩
   simp [g0,g21,g22,hw]
 ·have e : l.take k = l := List.take_of_length_le (by omega)
  rw [e] at ha
  repeat' first|(refine hK _ ?_;clear hK)|(refine hK _ _ ?_;clear hK)|(clear hK;refine hK _ ?_;clear hK)|(clear hK;clear hK;refine hK _ ?_;clear hK)|(clear hK;clear hK;clear hK;refine hK _ ?_;clear hK)|(clear hK;clear hK;clear hK;clear hK;refine hK _ ?_;clear hK)|(refine zJ fun K hK=>?_)|((first | refine zH ?_ | refine zN rfl (by kernel_rfl) ?_ | refine zM ?_ | refine zK (by kernel_rfl) ?_);simp only [wK,wJ,strip])|((first | refine wIs fun K hK=>?_ | refine wOs fun K hK=>?_ | refine wQs fun K hK=>?_ | refine zW ?_ | refine zX ?_ | refine zY ?_ | refine zL ?_);simp [g0,g21,g22,hlt])|(refine wIn ?_;refine And.intro (by kernel_rfl) ?_;try simp only [zZ])|(first | refine zQ ?_ | refine zS ?_)|((first | refine zI ?_ | refine zO ?_ | refine zP ?_);try simp)|((first | refine zR ?_ | refine wOn ?_ | refine wQn ?_);try simp only [zZ])
  exact hex ha _
theorem isName_con (l : List UInt8) (hl : l.length <= 9223372036854775807) : zF Tryz.prog 83 [.p (SB l)] (.p (B (nm l))) := by
 by_cases h1 : l = []
 ·subst h1
  rw [show nm [] = false from rfl]
  refine zG Tryz.tab Tryz.mixed Tryz.func83 rfl rfl Tryz.ntmps83 (by simp) (by simp) fun Q hr hn=>?_
  repeat' first|(refine hK _ ?_;clear hK)|(refine hK _ _ ?_;clear hK)|(clear hK;refine hK _ ?_;clear hK)|(clear hK;clear hK;refine hK _ ?_;clear hK)|(clear hK;clear hK;clear hK;refine hK _ ?_;clear hK)|(clear hK;clear hK;clear hK;clear hK;refine hK _ ?_;clear hK)|(refine zJ fun K hK=>?_)|((first | refine zH ?_ | refine zN rfl (by kernel_rfl) ?_ | refine zM ?_ | refine zK (by kernel_rfl) ?_);simp only [wK,wJ,strip])|((first | refine wIs fun K hK=>?_ | refine wOs fun K hK=>?_ | refine wQs fun K hK=>?_ | refine zW ?_ | refine zX ?_ | refine zY ?_ | refine zL ?_);simp)|(refine wIn ?_;refine And.intro (by kernel_rfl) ?_;try simp only [zZ])|(first | refine zQ ?_ | refine zS ?_)|((first | refine zI ?_ | refine zO ?_ | refine zP ?_);try simp)|((first | refine zR ?_ | refine wOn ?_ | refine wQn ?_);try simp only [zZ])
  all_goals apply hr
  all_goals simp [Tryz.f83]
 by_cases h2 : l = [46]
 ·subst h2
  rw [show nm [46] = false from rfl]
  refine zG Tryz.tab Tryz.mixed Tryz.func83 rfl rfl Tryz.ntmps83 (by simp) (by simp) fun Q hr hn=>?_
  repeat' first|(refine hK _ ?_;clear hK)|(refine hK _ _ ?_;clear hK)|(clear hK;refine hK _ ?_;clear hK)|(clear hK;clear hK;refine hK _ ?_;clear hK)|(clear hK;clear hK;clear hK;refine hK _ ?_;clear hK)|(clear hK;clear hK;clear hK;clear hK;refine hK _ ?_;clear hK)|(refine zJ fun K hK=>?_)|((first | refine zH ?_ | refine zN rfl (by kernel_rfl) ?_ | refine zM ?_ | refine zK (by kernel_rfl) ?_);simp only [wK,wJ,strip])|((first | refine wIs fun K hK=>?_ | refine wOs fun K hK=>?_ | refine wQs fun K hK=>?_ | refine zW ?_ | refine zX ?_ | refine zY ?_ | refine zL ?_);simp)|(refine wIn ?_;refine And.intro (by kernel_rfl) ?_;try simp only [zZ])|(first | refine zQ ?_ | refine zS ?_)|((first | refine zI ?_ | refine zO ?_ | refine zP ?_);try simp)|((first | refine zR ?_ | refine wOn ?_ | refine wQn ?_);try simp only [zZ])
  all_goals apply hr
  all_goals simp [Tryz.f83]
 by_cases h3 : l = [46,46]
 ·subst h3
  rw [show nm [46,46] = false from rfl]
  refine zG Tryz.tab Tryz.mixed Tryz.func83 rfl rfl Tryz.ntmps83 (by simp) (by simp) fun Q hr hn=>?_
  repeat' first|(refine hK _ ?_;clear hK)|(refine hK _ _ ?_;clear hK)|(clear hK;refine hK _ ?_;clear hK)|(clear hK;clear hK;refine hK _ ?_;clear hK)|(clear hK;clear hK;clear hK;refine hK _ ?_;clear hK)|(clear hK;clear hK;clear hK;clear hK;refine hK _ ?_;clear hK)|(refine zJ fun K hK=>?_)|((first | refine zH ?_ | refine zN rfl (by kernel_rfl) ?_ | refine zM ?_ | refine zK (by kernel_rfl) ?_);simp only [wK,wJ,strip])|((first | refine wIs fun K hK=>?_ | refine wOs fun K hK=>?_ | refine wQs fun K hK=>?_ | refine zW ?_ | refine zX ?_ | refine zY ?_ | refine zL ?_);simp)|(refine wIn ?_;refine And.intro (by kernel_rfl) ?_;try simp only [zZ])|(first | refine zQ ?_ | refine zS ?_)|((first | refine zI ?_ | refine zO ?_ | refine zP ?_);try simp)|((first | refine zR ?_ | refine wOn ?_ | refine wQn ?_);try simp only [zZ])
  all_goals apply hr
  all_goals simp [Tryz.f83]
 by_cases h4 : 16 < l.length
 ·have hN : nm l = false := by simp [nm]; omega
  have h4' : (16 : Int) < l.length:=by omega
  rw [hN]
  refine zG Tryz.tab Tryz.mixed Tryz.func83 rfl rfl Tryz.ntmps83 (by simp) (by simp) fun Q hr hn=>?_
  repeat' first|(refine hK _ ?_;clear hK)|(refine hK _ _ ?_;clear hK)|(clear hK;refine hK _ ?_;clear hK)|(clear hK;clear hK;refine hK _ ?_;clear hK)|(clear hK;clear hK;clear hK;refine hK _ ?_;clear hK)|(clear hK;clear hK;clear hK;clear hK;refine hK _ ?_;clear hK)|(refine zJ fun K hK=>?_)|((first | refine zH ?_ | refine zN rfl (by kernel_rfl) ?_ | refine zM ?_ | refine zK (by kernel_rfl) ?_);simp only [wK,wJ,strip])|((first | refine wIs fun K hK=>?_ | refine wOs fun K hK=>?_ | refine wQs fun K hK=>?_ | refine zW ?_ | refine zX ?_ | refine zY ?_ | refine zL ?_);simp [h1,h2,h3,h4,h4'])|(refine wIn ?_;refine And.intro (by kernel_rfl) ?_;try simp only [zZ])|(first | refine zQ ?_ | refine zS ?_)|((first | refine zI ?_ | refine zO ?_ | refine zP ?_);try simp)|((first | refine zR ?_ | refine wOn ?_ | refine wQn ?_);try simp only [zZ])
  all_goals apply hr
  all_goals simp [Tryz.f83]
 ·have hlen : 1 <= l.length := List.length_pos_iff.2 h1
  have hN : nm l = l.all chr := by
   have : decide (1 <= l.length /\ l.length <= 16 /\ l ≠ [46] /\ l ≠ [46,46]) = true:=by simp [h2,h3];omega
   rw [nm,this,Bool.true_and]
  have h4' : ¬ (16 : Int) < l.length:=by omega
  have hlp:=fun {Q} {st} h h' h''=>isNameL (Q:=Q) (st:=st) l (by omega) h h' h''
  rw [hN]
  refine zG Tryz.tab Tryz.mixed Tryz.func83 rfl rfl Tryz.ntmps83 (by simp) (by simp) fun Q hr hn=>?_
  repeat' first|(refine hlp ?_ ?_ ⟨by simp,by simp,by simp⟩)|(refine hK _ ?_;clear hK)|(refine hK _ _ ?_;clear hK)|(clear hK;refine hK _ ?_;clear hK)|(clear hK;clear hK;refine hK _ ?_;clear hK)|(clear hK;clear hK;clear hK;refine hK _ ?_;clear hK)|(clear hK;clear hK;clear hK;clear hK;refine hK _ ?_;clear hK)|(refine zJ fun K hK=>?_)|((first | refine zH ?_ | refine zN rfl (by kernel_rfl) ?_ | refine zM ?_ | refine zK (by kernel_rfl) ?_);simp only [wK,wJ,strip])|((first | refine wIs fun K hK=>?_ | refine wOs fun K hK=>?_ | refine wQs fun K hK=>?_ | refine zW ?_ | refine zX ?_ | refine zY ?_ | refine zL ?_);simp [h1,h2,h3,h4,h4',hl])|(refine wIn ?_;refine And.intro (by kernel_rfl) ?_;try simp only [zZ])|(first | refine zQ ?_ | refine zS ?_)|((first | refine zI ?_ | refine zO ?_ | refine zP ?_);try simp)|((first | refine zR ?_ | refine wOn ?_ | refine wQn ?_);try simp only [zZ])
  ·intro ha st g2
   simp only [blockA_r,thenA_r]
   apply hr
   simp [Tryz.f83,g2,ha]
  ·intro ha st
   simp only [blockA_e,if_true,zZ]
   repeat' first|(refine hK _ ?_;clear hK)|(refine hK _ _ ?_;clear hK)|(clear hK;refine hK _ ?_;clear hK)|(clear hK;clear hK;refine hK _ ?_;clear hK)|(clear hK;clear hK;clear hK;refine hK _ ?_;clear hK)|(clear hK;clear hK;clear hK;clear hK;refine hK _ ?_;clear hK)|(refine zJ fun K hK=>?_)|((first | refine zH ?_ | refine zN rfl (by kernel_rfl) ?_ | refine zM ?_ | refine zK (by kernel_rfl) ?_);simp only [wK,wJ,strip])|((first | refine wIs fun K hK=>?_ | refine wOs fun K hK=>?_ | refine wQs fun K hK=>?_ | refine zW ?_ | refine zX ?_ | refine zY ?_ | refine zL ?_);simp)|(refine wIn ?_;refine And.intro (by kernel_rfl) ?_;try simp only [zZ])|(first | refine zQ ?_ | refine zS ?_)|((first | refine zI ?_ | refine zO ?_ | refine zP ?_);try simp)|((first | refine zR ?_ | refine wOn ?_ | refine wQn ?_);try simp only [zZ])
   all_goals apply hr
   all_goals simp [Tryz.f83,ha]
theorem isName03_con (l : List UInt8) (hl : l.length <= 9223372036854775807) : zF Tryz.prog 52 [.p (SB l)] (.p (B (nm l))) := by
 by_cases h1 : l = []
 ·subst h1
  rw [show nm [] = false from rfl]
  refine zG Tryz.tab Tryz.mixed Tryz.func52 rfl rfl Tryz.ntmps52 (by simp) (by simp) fun Q hr hn=>?_
  repeat' first|(refine hK _ ?_;clear hK)|(refine hK _ _ ?_;clear hK)|(clear hK;refine hK _ ?_;clear hK)|(clear hK;clear hK;refine hK _ ?_;clear hK)|(clear hK;clear hK;clear hK;refine hK _ ?_;clear hK)|(clear hK;clear hK;clear hK;clear hK;refine hK _ ?_;clear hK)|(refine zJ fun K hK=>?_)|((first | refine zH ?_ | refine zN rfl (by kernel_rfl) ?_ | refine zM ?_ | refine zK (by kernel_rfl) ?_);simp only [wK,wJ,strip])|((first | refine wIs fun K hK=>?_ | refine wOs fun K hK=>?_ | refine wQs fun K hK=>?_ | refine zW ?_ | refine zX ?_ | refine zY ?_ | refine zL ?_);simp)|(refine wIn ?_;refine And.intro (by kernel_rfl) ?_;try simp only [zZ])|(first | refine zQ ?_ | refine zS ?_)|((first | refine zI ?_ | refine zO ?_ | refine zP ?_);try simp)|((first | refine zR ?_ | refine wOn ?_ | refine wQn ?_);try simp only [zZ])
  all_goals apply hr
  all_goals simp [Tryz.f52]
 by_cases h2 : l = [46]
 ·subst h2
  rw [show nm [46] = false from rfl]
  refine zG Tryz.tab Tryz.mixed Tryz.func52 rfl rfl Tryz.ntmps52 (by simp) (by simp) fun Q hr hn=>?_
  repeat' first|(refine hK _ ?_;clear hK)|(refine hK _ _ ?_;clear hK)|(clear hK;refine hK _ ?_;clear hK)|(clear hK;clear hK;refine hK _ ?_;clear hK)|(clear hK;clear hK;clear hK;refine hK _ ?_;clear hK)|(clear hK;clear hK;clear hK;clear hK;refine hK _ ?_;clear hK)|(refine zJ fun K hK=>?_)|((first | refine zH ?_ | refine zN rfl (by kernel_rfl) ?_ | refine zM ?_ | refine zK (by kernel_rfl) ?_);simp only [wK,wJ,strip])|((first | refine wIs fun K hK=>?_ | refine wOs fun K hK=>?_ | refine wQs fun K hK=>?_ | refine zW ?_ | refine zX ?_ | refine zY ?_ | refine zL ?_);simp)|(refine wIn ?_;refine And.intro (by kernel_rfl) ?_;try simp only [zZ])|(first | refine zQ ?_ | refine zS ?_)|((first | refine zI ?_ | refine zO ?_ | refine zP ?_);try simp)|((first | refine zR ?_ | refine wOn ?_ | refine wQn ?_);try simp only [zZ])
  all_goals apply hr
  all_goals simp [Tryz.f52]
 by_cases h3 : l = [46,46]
 ·subst h3
  rw [show nm [46,46] = false from rfl]
  refine zG Tryz.tab Tryz.mixed Tryz.func52 rfl rfl Tryz.ntmps52 (by simp) (by simp) fun Q hr hn=>?_
  repeat' first|(refine hK _ ?_;clear hK)|(refine hK _ _ ?_;clear hK)|(clear hK;refine hK _ ?_;clear hK)|(clear hK;clear hK;refine hK _ ?_;clear hK)|(clear hK;clear hK;clear hK;refine hK _ ?_;clear hK)|(clear hK;clear hK;clear hK;clear hK;refine hK _ ?_;clear hK)|(refine zJ fun K hK=>?_)|((first | refine zH ?_ | refine zN rfl (by kernel_rfl) ?_ | refine zM ?_ | refine zK (by kernel_rfl) ?_);simp only [wK,wJ,strip])|((first | refine wIs fun K hK=>?_ | refine wOs fun K hK=>?_ | refine wQs fun K hK=>?_ | refine zW ?_ | refine zX ?_ | refine zY ?_ | refine zL ?_);simp)|(refine wIn ?_;refine And.intro (by kernel_rfl) ?_;try simp only [zZ])|(first | refine zQ ?_ | refine zS ?_)|((first | refine zI ?_ | refine zO ?_ | refine zP ?_);try simp)|((first | refine zR ?_ | refine wOn ?_ | refine wQn ?_);try simp only [zZ])
  all_goals apply hr
  all_goals simp [Tryz.f52]
 have hlen : 1 <= l.length:=List.length_pos_iff.2 h1
 have hlen' : ¬ (l.length : Int) < 1:=by omega
 by_cases h4 : 16 < l.length
 ·have hN : nm l = false := by simp [nm]; omega
  have h4' : (16 : Int) < l.length:=by omega
  rw [hN]
  refine zG Tryz.tab Tryz.mixed Tryz.func52 rfl rfl Tryz.ntmps52 (by simp) (by simp) fun Q hr hn=>?_
  repeat' first|(refine hK _ ?_;clear hK)|(refine hK _ _ ?_;clear hK)|(clear hK;refine hK _ ?_;clear hK)|(clear hK;clear hK;refine hK _ ?_;clear hK)|(clear hK;clear hK;clear hK;refine hK _ ?_;clear hK)|(clear hK;clear hK;clear hK;clear hK;refine hK _ ?_;clear hK)|(refine zJ fun K hK=>?_)|((first | refine zH ?_ | refine zN rfl (by kernel_rfl) ?_ | refine zM ?_ | refine zK (by kernel_rfl) ?_);simp only [wK,wJ,strip])|((first | refine wIs fun K hK=>?_ | refine wOs fun K hK=>?_ | refine wQs fun K hK=>?_ | refine zW ?_ | refine zX ?_ | refine zY ?_ | refine zL ?_);simp [h1,h2,h3,h4,h4',hlen'])|(refine wIn ?_;refine And.intro (by kernel_rfl) ?_;try simp only [zZ])|(first | refine zQ ?_ | refine zS ?_)|((first | refine zI ?_ | refine zO ?_ | refine zP ?_);try simp)|((first | refine zR ?_ | refine wOn ?_ | refine wQn ?_);try simp only [zZ])
  all_goals apply hr
  all_goals simp [Tryz.f52]
 ·have hN : nm l = l.all chr := by
   have : decide (1 <= l.length /\ l.length <= 16 /\ l ≠ [46] /\ l ≠ [46,46]) = true:=by simp [h2,h3];omega
   rw [nm,this,Bool.true_and]
  have h4' : ¬ (16 : Int) < l.length:=by omega
  have hlp:=fun {Q} {st} h h' h''=>isNameL2 (Q:=Q) (st:=st) l (by omega) h h' h''
  rw [hN]
  refine zG Tryz.tab Tryz.mixed Tryz.func52 rfl rfl Tryz.ntmps52 (by simp) (by simp) fun Q hr hn=>?_
  repeat' first|(refine hlp ?_ ?_ ⟨by simp,by simp,by simp⟩)|(refine hK _ ?_;clear hK)|(refine hK _ _ ?_;clear hK)|(clear hK;refine hK _ ?_;clear hK)|(clear hK;clear hK;refine hK _ ?_;clear hK)|(clear hK;clear hK;clear hK;refine hK _ ?_;clear hK)|(clear hK;clear hK;clear hK;clear hK;refine hK _ ?_;clear hK)|(refine zJ fun K hK=>?_)|((first | refine zH ?_ | refine zN rfl (by kernel_rfl) ?_ | refine zM ?_ | refine zK (by kernel_rfl) ?_);simp only [wK,wJ,strip])|((first | refine wIs fun K hK=>?_ | refine wOs fun K hK=>?_ | refine wQs fun K hK=>?_ | refine zW ?_ | refine zX ?_ | refine zY ?_ | refine zL ?_);simp [h1,h2,h3,h4,h4',hlen'])|(refine wIn ?_;refine And.intro (by kernel_rfl) ?_;try simp only [zZ])|(first | refine zQ ?_ | refine zS ?_)|((first | refine zI ?_ | refine zO ?_ | refine zP ?_);try simp)|((first | refine zR ?_ | refine wOn ?_ | refine wQn ?_);try simp only [zZ])
  ·intro ha st g2
   simp only [blockA_r,thenA_r]
   apply hr
   simp [Tryz.f52,g2,ha]
  ·intro ha st
   simp only [blockA_e,if_true,zZ]
   repeat' first|(refine hK _ ?_;clear hK)|(refine hK _ _ ?_;clear hK)|(clear hK;refine hK _ ?_;clear hK)|(clear hK;clear hK;refine hK _ ?_;clear hK)|(clear hK;clear hK;clear hK;refine hK _ ?_;clear hK)|(clear hK;clear hK;clear hK;clear hK;refine hK _ ?_;clear hK)|(refine zJ fun K hK=>?_)|((first | refine zH ?_ | refine zN rfl (by kernel_rfl) ?_ | refine zM ?_ | refine zK (by kernel_rfl) ?_);simp only [wK,wJ,strip])|((first | refine wIs fun K hK=>?_ | refine wOs fun K hK=>?_ | refine wQs fun K hK=>?_ | refine zW ?_ | refine zX ?_ | refine zY ?_ | refine zL ?_);simp)|(refine wIn ?_;refine And.intro (by kernel_rfl) ?_;try simp only [zZ])|(first | refine zQ ?_ | refine zS ?_)|((first | refine zI ?_ | refine zO ?_ | refine zP ?_);try simp)|((first | refine zR ?_ | refine wOn ?_ | refine wQn ?_);try simp only [zZ])
   all_goals apply hr
   all_goals simp [Tryz.f52,ha]
end Go.Proofs.YtedbbcmokbogpaaGreatDoor
