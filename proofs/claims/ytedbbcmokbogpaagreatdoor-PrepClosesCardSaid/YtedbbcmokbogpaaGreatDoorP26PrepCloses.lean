/- Texts that the proof needs: PC. -/
import Derived.Test.YtedbbcmokbogpaaGreatDoorP25PrepCloses
namespace Go.Proofs.YtedbbcmokbogpaaGreatDoor
set_option linter.unusedSimpArgs false
set_option linter.unusedVariables false
open Go Go.Av
attribute [local irreducible] Go.Av.yR Go.Av.zU Go.Av.yM Go.Av.zT Go.Av.yO Go.Av.zV Go.Av.Con
def lx (l : List UInt8) : Nat -> Nat
 | 0=>0
 | k + 1=>if l[k]? = some 47 then k else lx l k
theorem lx_lt (l : List UInt8) : ∀ k, 1 <= k -> lx l k < k
 | 0,h=>absurd h (by omega)
 | 1,_=>by unfold lx;split <;> simp [lx]
 | k + 2, _ => by
  have:=lx_lt l (k + 1) (by omega)
  unfold lx;split <;> omega
theorem lx_step {l : List UInt8} {k : Nat} (h : k < l.length) : lx l (k + 1) = if l[k] = 47 then k else lx l k := by
 rw [lx,List.getElem?_eq_getElem h];simp
theorem ne47 {b : UInt8} (d : ¬ b = 47) : ¬ (b.toNat : Int) = 47 := fun h => d (UInt8.toNat_inj.1 (by exact (by exact_mod_cast h : b.toNat = 47)))
theorem last03_con (l : List UInt8) (hl : l.length <= 9223372036854775807) : zF Tryz.prog 38 [.p (SB l)] (.p (I (lx l l.length))) := by
 refine zG Tryz.tab Tryz.mixed Tryz.func38 rfl rfl Tryz.ntmps38 (by simp) (by simp) fun Q hr hn=>?_
 repeat' first|(refine hK _ ?_;clear hK)|(refine hK _ _ ?_;clear hK)|(clear hK;refine hK _ ?_;clear hK)|(clear hK;clear hK;refine hK _ ?_;clear hK)|(clear hK;clear hK;clear hK;refine hK _ ?_;clear hK)|(clear hK;clear hK;clear hK;clear hK;refine hK _ ?_;clear hK)|(refine zJ fun K hK=>?_)|((first | refine zH ?_ | refine zN rfl (by kernel_rfl) ?_ | refine zM ?_ | refine zK (by kernel_rfl) ?_);simp only [wK,wJ,strip])|((first | refine wIs fun K hK=>?_ | refine wOs fun K hK=>?_ | refine wQs fun K hK=>?_ | refine zW ?_ | refine zX ?_ | refine zY ?_ | refine zL ?_);simp)|(refine wIn ?_;refine And.intro (by kernel_rfl) ?_;try simp only [zZ])|(first | refine zQ ?_ | refine zS ?_)|((first | refine zI ?_ | refine zO ?_ | refine zP ?_);try simp)|((first | refine zR ?_ | refine wOn ?_ | refine wQn ?_);try simp only [zZ])
 refine yA (fun N st=>∃ k,k + N = l.length /\ st.s 0 = .p (SB l) /\ st.s 6 = .p (I l.length) /\ st.s 7 = .p (I k) /\ st.s 3 = .p (I (lx l k))) l.length ⟨0,by simp [lx]⟩ fun K N st hL ⟨k,hk,g0,g6,g7,g3⟩=>?_
 by_cases hlt : k < l.length
 ·have hw := yB k _ hlt hl
  have hs:=lx_step hlt
  by_cases d : l[k] = 47
  ·have d' : (l[k].toNat : Int) = 47 := by rw [d]; rfl
   rw [if_pos d] at hs
   repeat' first|(refine hK _ ?_;clear hK)|(refine hK _ _ ?_;clear hK)|(clear hK;refine hK _ ?_;clear hK)|(clear hK;clear hK;refine hK _ ?_;clear hK)|(clear hK;clear hK;clear hK;refine hK _ ?_;clear hK)|(clear hK;clear hK;clear hK;clear hK;refine hK _ ?_;clear hK)|(refine zJ fun K hK=>?_)|((first | refine zH ?_ | refine zN rfl (by kernel_rfl) ?_ | refine zM ?_ | refine zK (by kernel_rfl) ?_);simp only [wK,wJ,strip])|((first | refine wIs fun K hK=>?_ | refine wOs fun K hK=>?_ | refine wQs fun K hK=>?_ | refine zW ?_ | refine zX ?_ | refine zY ?_ | refine zL ?_);simp [g0,g6,g7,g3,hlt,hw,d,d'])|(refine wIn ?_;refine And.intro (by kernel_rfl) ?_;try simp only [zZ])|(first | refine zQ ?_ | refine zS ?_)|((first | refine zI ?_ | refine zO ?_ | refine zP ?_);try simp)|((first | refine zR ?_ | refine wOn ?_ | refine wQn ?_);try simp only [zZ])
   refine hL _ (N - 1) (by omega) ⟨k + 1,by omega,?_⟩
   simp [g0,g6,g7,g3,hw,hs]
  ·have d' := ne47 d
   rw [if_neg d] at hs
   repeat' first|(refine hK _ ?_;clear hK)|(refine hK _ _ ?_;clear hK)|(clear hK;refine hK _ ?_;clear hK)|(clear hK;clear hK;refine hK _ ?_;clear hK)|(clear hK;clear hK;clear hK;refine hK _ ?_;clear hK)|(clear hK;clear hK;clear hK;clear hK;refine hK _ ?_;clear hK)|(refine zJ fun K hK=>?_)|((first | refine zH ?_ | refine zN rfl (by kernel_rfl) ?_ | refine zM ?_ | refine zK (by kernel_rfl) ?_);simp only [wK,wJ,strip])|((first | refine wIs fun K hK=>?_ | refine wOs fun K hK=>?_ | refine wQs fun K hK=>?_ | refine zW ?_ | refine zX ?_ | refine zY ?_ | refine zL ?_);simp [g0,g6,g7,g3,hlt,hw,d,d'])|(refine wIn ?_;refine And.intro (by kernel_rfl) ?_;try simp only [zZ])|(first | refine zQ ?_ | refine zS ?_)|((first | refine zI ?_ | refine zO ?_ | refine zP ?_);try simp)|((first | refine zR ?_ | refine wOn ?_ | refine wQn ?_);try simp only [zZ])
   refine hL _ (N - 1) (by omega) ⟨k + 1,by omega,?_⟩
   simp [g0,g6,g7,g3,hw,hs]
 ·obtain rfl : k = l.length := by omega
  repeat' first|(refine hK _ ?_;clear hK)|(refine hK _ _ ?_;clear hK)|(clear hK;refine hK _ ?_;clear hK)|(clear hK;clear hK;refine hK _ ?_;clear hK)|(clear hK;clear hK;clear hK;refine hK _ ?_;clear hK)|(clear hK;clear hK;clear hK;clear hK;refine hK _ ?_;clear hK)|(refine zJ fun K hK=>?_)|((first | refine zH ?_ | refine zN rfl (by kernel_rfl) ?_ | refine zM ?_ | refine zK (by kernel_rfl) ?_);simp only [wK,wJ,strip])|((first | refine wIs fun K hK=>?_ | refine wOs fun K hK=>?_ | refine wQs fun K hK=>?_ | refine zW ?_ | refine zX ?_ | refine zY ?_ | refine zL ?_);simp [g0,g6,g7,g3])|(refine wIn ?_;refine And.intro (by kernel_rfl) ?_;try simp only [zZ])|(first | refine zQ ?_ | refine zS ?_)|((first | refine zI ?_ | refine zO ?_ | refine zP ?_);try simp)|((first | refine zR ?_ | refine wOn ?_ | refine wQn ?_);try simp only [zZ])
  all_goals apply hr
  all_goals simp [Tryz.f38,g3]
theorem lastB_con (l : List UInt8) (hl : l.length <= 9223372036854775807) (h0 : l[0]? = some 47) : zF Tryz.prog 84 [.p (SB l), .p (.v (.int .u8 47))] (.p (I (lx l l.length))) := by
 have hlen : 1 <= l.length := by
  cases l with
  | nil=>simp at h0
  | cons a r=>simp
 have hw0 : IntKind.i64.wrap ((l.length : Int) - 1) = ((l.length - 1 : Nat) : Int):=by rw [yY] <;> omega
 refine zG Tryz.tab Tryz.mixed Tryz.func84 rfl rfl Tryz.ntmps84 (by simp) (by simp) fun Q hr hn=>?_
 repeat' first|(refine hK _ ?_;clear hK)|(refine hK _ _ ?_;clear hK)|(clear hK;refine hK _ ?_;clear hK)|(clear hK;clear hK;refine hK _ ?_;clear hK)|(clear hK;clear hK;clear hK;refine hK _ ?_;clear hK)|(clear hK;clear hK;clear hK;clear hK;refine hK _ ?_;clear hK)|(refine zJ fun K hK=>?_)|((first | refine zH ?_ | refine zN rfl (by kernel_rfl) ?_ | refine zM ?_ | refine zK (by kernel_rfl) ?_);simp only [wK,wJ,strip])|((first | refine wIs fun K hK=>?_ | refine wOs fun K hK=>?_ | refine wQs fun K hK=>?_ | refine zW ?_ | refine zX ?_ | refine zY ?_ | refine zL ?_);simp [hw0])|(refine wIn ?_;refine And.intro (by kernel_rfl) ?_;try simp only [zZ])|(first | refine zQ ?_ | refine zS ?_)|((first | refine zI ?_ | refine zO ?_ | refine zP ?_);try simp)|((first | refine zR ?_ | refine wOn ?_ | refine wQn ?_);try simp only [zZ])
 refine yA (fun N st=>∃ k,k = N /\ k < l.length /\ lx l l.length = lx l (k + 1) /\ st.s 0 = .p (SB l) /\ st.s 1 = .p (.v (.int .u8 47)) /\ st.s 5 = .p (I k)) (l.length - 1) ⟨l.length - 1,rfl,by omega,by rw [show l.length - 1 + 1 = l.length by omega],by simp [hw0]⟩ fun K N st hL ⟨k,hk,hlt,ha,g0,g1,g5⟩=>?_
 have hs:=lx_step hlt
 by_cases d : l[k] = 47
 ·have d' : (l[k].toNat : Int) = 47 := by rw [d]; rfl
  rw [if_pos d] at hs
  rw [ha,hs] at hr
  repeat' first|(refine hK _ ?_;clear hK)|(refine hK _ _ ?_;clear hK)|(clear hK;refine hK _ ?_;clear hK)|(clear hK;clear hK;refine hK _ ?_;clear hK)|(clear hK;clear hK;clear hK;refine hK _ ?_;clear hK)|(clear hK;clear hK;clear hK;clear hK;refine hK _ ?_;clear hK)|(refine zJ fun K hK=>?_)|((first | refine zH ?_ | refine zN rfl (by kernel_rfl) ?_ | refine zM ?_ | refine zK (by kernel_rfl) ?_);simp only [wK,wJ,strip])|((first | refine wIs fun K hK=>?_ | refine wOs fun K hK=>?_ | refine wQs fun K hK=>?_ | refine zW ?_ | refine zX ?_ | refine zY ?_ | refine zL ?_);simp [g0,g1,g5,hlt,d,d'])|(refine wIn ?_;refine And.intro (by kernel_rfl) ?_;try simp only [zZ])|(first | refine zQ ?_ | refine zS ?_)|((first | refine zI ?_ | refine zO ?_ | refine zP ?_);try simp)|((first | refine zR ?_ | refine wOn ?_ | refine wQn ?_);try simp only [zZ])
  all_goals apply hr
  all_goals simp [Tryz.f84,g5]
 ·have d' := ne47 d
  rw [if_neg d] at hs
  cases k with
  | zero =>
   rw [List.getElem?_eq_getElem hlt] at h0
   simp at h0
   exact absurd h0 d
  | succ k =>
   have hw : IntKind.i64.wrap (((k + 1 : Nat) : Int) - 1) = (k : Int):=by rw [yY] <;> omega
   have hw' : IntKind.i64.wrap (((k : Nat) : Int) + 1 - 1) = (k : Int):=by rw [yY] <;> omega
   have hp : (0 : Int) <= (k : Int) + 1:=by omega
   have hw2 : IntKind.i64.wrap (k : Int) = (k : Int):=by rw [yY] <;> omega
   repeat' first|(refine hK _ ?_;clear hK)|(refine hK _ _ ?_;clear hK)|(clear hK;refine hK _ ?_;clear hK)|(clear hK;clear hK;refine hK _ ?_;clear hK)|(clear hK;clear hK;clear hK;refine hK _ ?_;clear hK)|(clear hK;clear hK;clear hK;clear hK;refine hK _ ?_;clear hK)|(refine zJ fun K hK=>?_)|((first | refine zH ?_ | refine zN rfl (by kernel_rfl) ?_ | refine zM ?_ | refine zK (by kernel_rfl) ?_);simp only [wK,wJ,strip])|((first | refine wIs fun K hK=>?_ | refine wOs fun K hK=>?_ | refine wQs fun K hK=>?_ | refine zW ?_ | refine zX ?_ | refine zY ?_ | refine zL ?_);simp [g0,g1,g5,hlt,d,d',hw,hw',hw2,hp])|(refine wIn ?_;refine And.intro (by kernel_rfl) ?_;try simp only [zZ])|(first | refine zQ ?_ | refine zS ?_)|((first | refine zI ?_ | refine zO ?_ | refine zP ?_);try simp)|((first | refine zR ?_ | refine wOn ?_ | refine wQn ?_);try simp only [zZ])
   refine hL _ k (by omega) ⟨k,rfl,by omega,by rw [ha,hs],?_⟩
   simp [g0,g1,g5,hw,hw',hw2]
theorem lastIx_con (l : List UInt8) (hl : l.length <= 9223372036854775807) (h0 : l[0]? = some 47) : zF Tryz.prog 67 [.p (SB l), .p (SB [47])] (.p (I (lx l l.length))) := by
 have c:=lastB_con l hl h0
 refine zG Tryz.tab Tryz.mixed Tryz.func67 rfl rfl Tryz.ntmps67 (by simp) (by simp) fun Q hr hn=>?_
 repeat' first|(refine hK _ ?_;clear hK)|(refine hK _ _ ?_;clear hK)|(clear hK;refine hK _ ?_;clear hK)|(clear hK;clear hK;refine hK _ ?_;clear hK)|(clear hK;clear hK;clear hK;refine hK _ ?_;clear hK)|(clear hK;clear hK;clear hK;clear hK;refine hK _ ?_;clear hK)|(refine zJ fun K hK=>?_)|((first | refine zH ?_ | refine zN rfl (by kernel_rfl) ?_ | refine zM ?_ | refine zK (by kernel_rfl) ?_);simp only [wK,wJ,strip])|((first | refine wIs fun K hK=>?_ | refine wOs fun K hK=>?_ | refine wQs fun K hK=>?_ | refine zW ?_ | refine zX ?_ | refine zY ?_ | refine zL ?_);simp)|(refine wIn ?_;refine And.intro (by kernel_rfl) ?_;try simp only [zZ])|(first | refine zQ ?_ | refine zS ?_)|((first | refine zI ?_ | refine zO ?_ | refine zP ?_);try simp)|((first | refine zR ?_ | refine wOn ?_ | refine wQn ?_);try simp only [zZ])|(refine zU.pure (c) rfl ?_)|(refine zU.lent (c) rfl ?_)|(refine zT.pure (c) rfl ?_)|(refine zT.lent (c) rfl ?_)|(refine zU.own (c) ?_)|(refine zV.pure (c) rfl ?_)|(refine zV.lent (c) rfl ?_)|(refine zV.own (c) ?_)
 all_goals apply hr
 all_goals simp [Tryz.f67]
def chd (l : List UInt8) : Bool := decide (l ≠ [47] /\ chk l = 0)
theorem chk_spec {l : List UInt8} (h : chk l = 0) : l = [47] \/ (l ≠ [47] /\ ∃ R, l = 47 :: R /\ R ≠ []) := by
 by_cases h1 : l = [47]
 ·exact .inl h1
 refine .inr ⟨h1,?_⟩
 unfold chk at h
 split at h
 ·simp at h
 split at h
 ·rename_i h2
  rcases h2 with h2 | h2
  ·exact absurd h2 h1
  ·cases l with
   | nil=>simp [nmd] at h2
   | cons b R =>
    simp only [nmd] at h2
    split at h2
    ·rename_i hb
     subst hb
     exact ⟨R,rfl,fun h=>h1 (by rw [h])⟩
    ·simp at h2
 ·simp at h
theorem chk_len {l : List UInt8} (h : chk l = 0) : l.length <= 64 := by
 unfold chk at h
 split at h
 ·simp at h
 ·omega
theorem child_con (l : List UInt8) (hl : l.length <= 9223372036854775807) : zF Tryz.prog 66 [.p (SB l)] (.p (B (chd l))) := by
 have c:=check_con l hl
 unfold chd
 by_cases h1 : l = [47]
 ·subst h1
  refine zG Tryz.tab Tryz.mixed Tryz.func66 rfl rfl Tryz.ntmps66 (by simp) (by simp) fun Q hr hn=>?_
  repeat' first|(refine hK _ ?_;clear hK)|(refine hK _ _ ?_;clear hK)|(clear hK;refine hK _ ?_;clear hK)|(clear hK;clear hK;refine hK _ ?_;clear hK)|(clear hK;clear hK;clear hK;refine hK _ ?_;clear hK)|(clear hK;clear hK;clear hK;clear hK;refine hK _ ?_;clear hK)|(refine zJ fun K hK=>?_)|((first | refine zH ?_ | refine zN rfl (by kernel_rfl) ?_ | refine zM ?_ | refine zK (by kernel_rfl) ?_);simp only [wK,wJ,strip])|((first | refine wIs fun K hK=>?_ | refine wOs fun K hK=>?_ | refine wQs fun K hK=>?_ | refine zW ?_ | refine zX ?_ | refine zY ?_ | refine zL ?_);simp)|(refine wIn ?_;refine And.intro (by kernel_rfl) ?_;try simp only [zZ])|(first | refine zQ ?_ | refine zS ?_)|((first | refine zI ?_ | refine zO ?_ | refine zP ?_);try simp)|((first | refine zR ?_ | refine wOn ?_ | refine wQn ?_);try simp only [zZ])|(refine zU.pure (c) rfl ?_)|(refine zU.lent (c) rfl ?_)|(refine zT.pure (c) rfl ?_)|(refine zT.lent (c) rfl ?_)|(refine zU.own (c) ?_)|(refine zV.pure (c) rfl ?_)|(refine zV.lent (c) rfl ?_)|(refine zV.own (c) ?_)
  all_goals apply hr
  all_goals simp [Tryz.f66]
 ·generalize chk l = e at c ⊢
  by_cases h2 : e = 0
  ·subst h2
   refine zG Tryz.tab Tryz.mixed Tryz.func66 rfl rfl Tryz.ntmps66 (by simp) (by simp) fun Q hr hn=>?_
   repeat' first|(refine hK _ ?_;clear hK)|(refine hK _ _ ?_;clear hK)|(clear hK;refine hK _ ?_;clear hK)|(clear hK;clear hK;refine hK _ ?_;clear hK)|(clear hK;clear hK;clear hK;refine hK _ ?_;clear hK)|(clear hK;clear hK;clear hK;clear hK;refine hK _ ?_;clear hK)|(refine zJ fun K hK=>?_)|((first | refine zH ?_ | refine zN rfl (by kernel_rfl) ?_ | refine zM ?_ | refine zK (by kernel_rfl) ?_);simp only [wK,wJ,strip])|((first | refine wIs fun K hK=>?_ | refine wOs fun K hK=>?_ | refine wQs fun K hK=>?_ | refine zW ?_ | refine zX ?_ | refine zY ?_ | refine zL ?_);simp [h1])|(refine wIn ?_;refine And.intro (by kernel_rfl) ?_;try simp only [zZ])|(first | refine zQ ?_ | refine zS ?_)|((first | refine zI ?_ | refine zO ?_ | refine zP ?_);try simp)|((first | refine zR ?_ | refine wOn ?_ | refine wQn ?_);try simp only [zZ])|(refine zU.pure (c) rfl ?_)|(refine zU.lent (c) rfl ?_)|(refine zT.pure (c) rfl ?_)|(refine zT.lent (c) rfl ?_)|(refine zU.own (c) ?_)|(refine zV.pure (c) rfl ?_)|(refine zV.lent (c) rfl ?_)|(refine zV.own (c) ?_)
   all_goals apply hr
   all_goals simp [Tryz.f66,h1]
  ·refine zG Tryz.tab Tryz.mixed Tryz.func66 rfl rfl Tryz.ntmps66 (by simp) (by simp) fun Q hr hn => ?_
   repeat' first|(refine hK _ ?_;clear hK)|(refine hK _ _ ?_;clear hK)|(clear hK;refine hK _ ?_;clear hK)|(clear hK;clear hK;refine hK _ ?_;clear hK)|(clear hK;clear hK;clear hK;refine hK _ ?_;clear hK)|(clear hK;clear hK;clear hK;clear hK;refine hK _ ?_;clear hK)|(refine zJ fun K hK=>?_)|((first | refine zH ?_ | refine zN rfl (by kernel_rfl) ?_ | refine zM ?_ | refine zK (by kernel_rfl) ?_);simp only [wK,wJ,strip])|((first | refine wIs fun K hK=>?_ | refine wOs fun K hK=>?_ | refine wQs fun K hK=>?_ | refine zW ?_ | refine zX ?_ | refine zY ?_ | refine zL ?_);simp [h1,h2])|(refine wIn ?_;refine And.intro (by kernel_rfl) ?_;try simp only [zZ])|(first | refine zQ ?_ | refine zS ?_)|((first | refine zI ?_ | refine zO ?_ | refine zP ?_);try simp)|((first | refine zR ?_ | refine wOn ?_ | refine wQn ?_);try simp only [zZ])|(refine zU.pure (c) rfl ?_)|(refine zU.lent (c) rfl ?_)|(refine zT.pure (c) rfl ?_)|(refine zT.lent (c) rfl ?_)|(refine zU.own (c) ?_)|(refine zV.pure (c) rfl ?_)|(refine zV.lent (c) rfl ?_)|(refine zV.own (c) ?_)
   all_goals apply hr
   all_goals simp [Tryz.f66,h1,h2]
def parV (l : List UInt8) : V := if chd l = true then .tup [.p (SB (l.take (max (lx l l.length) 1))), .p (B true)] else .tup [.p (SB []), .p (B false)]
def nam (l : List UInt8) : List UInt8 := if chd l = true then l.drop (lx l l.length + 1) else []
theorem parent_con (l : List UInt8) (hl : l.length <= 9223372036854775807) : zF Tryz.prog 55 [.p (SB l)] (parV l) := by
 have c:=child_con l hl
 unfold parV
 cases h : chd l
 ·rw [h] at c
  rw [if_neg (by simp)]
  refine zG Tryz.tab Tryz.mixed Tryz.func55 rfl rfl Tryz.ntmps55 (by simp) (by simp) fun Q hr hn=>?_
  repeat' first|(refine hK _ ?_;clear hK)|(refine hK _ _ ?_;clear hK)|(clear hK;refine hK _ ?_;clear hK)|(clear hK;clear hK;refine hK _ ?_;clear hK)|(clear hK;clear hK;clear hK;refine hK _ ?_;clear hK)|(clear hK;clear hK;clear hK;clear hK;refine hK _ ?_;clear hK)|(refine zJ fun K hK=>?_)|((first | refine zH ?_ | refine zN rfl (by kernel_rfl) ?_ | refine zM ?_ | refine zK (by kernel_rfl) ?_);simp only [wK,wJ,strip])|((first | refine wIs fun K hK=>?_ | refine wOs fun K hK=>?_ | refine wQs fun K hK=>?_ | refine zW ?_ | refine zX ?_ | refine zY ?_ | refine zL ?_);simp)|(refine wIn ?_;refine And.intro (by kernel_rfl) ?_;try simp only [zZ])|(first | refine zQ ?_ | refine zS ?_)|((first | refine zI ?_ | refine zO ?_ | refine zP ?_);try simp)|((first | refine zR ?_ | refine wOn ?_ | refine wQn ?_);try simp only [zZ])|(refine zU.pure (c) rfl ?_)|(refine zU.lent (c) rfl ?_)|(refine zT.pure (c) rfl ?_)|(refine zT.lent (c) rfl ?_)|(refine zU.own (c) ?_)|(refine zV.pure (c) rfl ?_)|(refine zV.lent (c) rfl ?_)|(refine zV.own (c) ?_)
  all_goals apply hr
  all_goals simp [Tryz.f55]
 ·rw [h] at c
  rw [if_pos rfl]
  simp only [chd,decide_eq_true_eq] at h
  rcases chk_spec h.2 with h1 | ⟨-,R,rfl,hR⟩
  ·exact absurd h1 h.1
  have c2:=lastIx_con (47 :: R) hl rfl
  have hx:=lx_lt (47 :: R) (47 :: R).length (by simp)
  generalize lx (47 :: R) (47 :: R).length = x at c2 hx ⊢
  simp only [List.length_cons] at hx hl
  cases x with
  | zero =>
   refine zG Tryz.tab Tryz.mixed Tryz.func55 rfl rfl Tryz.ntmps55 (by simp) (by simp) fun Q hr hn=>?_
   repeat' first|(refine hK _ ?_;clear hK)|(refine hK _ _ ?_;clear hK)|(clear hK;refine hK _ ?_;clear hK)|(clear hK;clear hK;refine hK _ ?_;clear hK)|(clear hK;clear hK;clear hK;refine hK _ ?_;clear hK)|(clear hK;clear hK;clear hK;clear hK;refine hK _ ?_;clear hK)|(refine zJ fun K hK=>?_)|((first | refine zH ?_ | refine zN rfl (by kernel_rfl) ?_ | refine zM ?_ | refine zK (by kernel_rfl) ?_);simp only [wK,wJ,strip])|((first | refine wIs fun K hK=>?_ | refine wOs fun K hK=>?_ | refine wQs fun K hK=>?_ | refine zW ?_ | refine zX ?_ | refine zY ?_ | refine zL ?_);simp)|(refine wIn ?_;refine And.intro (by kernel_rfl) ?_;try simp only [zZ])|(first | refine zQ ?_ | refine zS ?_)|((first | refine zI ?_ | refine zO ?_ | refine zP ?_);try simp)|((first | refine zR ?_ | refine wOn ?_ | refine wQn ?_);try simp only [zZ])|(refine zU.pure (c) rfl ?_)|(refine zU.lent (c) rfl ?_)|(refine zT.pure (c) rfl ?_)|(refine zT.lent (c) rfl ?_)|(refine zU.own (c) ?_)|(refine zV.pure (c) rfl ?_)|(refine zV.lent (c) rfl ?_)|(refine zV.own (c) ?_)|(refine zU.pure (c2) rfl ?_)|(refine zU.lent (c2) rfl ?_)|(refine zT.pure (c2) rfl ?_)|(refine zT.lent (c2) rfl ?_)|(refine zU.own (c2) ?_)|(refine zV.pure (c2) rfl ?_)|(refine zV.lent (c2) rfl ?_)|(refine zV.own (c2) ?_)
   all_goals apply hr
   all_goals simp [Tryz.f55]
  | succ x =>
   have hm : max (x + 1) 1 = x + 1:=by omega
   have hm' : ¬ (x : Int) + 1 < 1:=by omega
   have h0 : (0 : Int) <= (x : Int) + 1:=by omega
   have hx' : x <= R.length:=by omega
   rw [hm]
   refine zG Tryz.tab Tryz.mixed Tryz.func55 rfl rfl Tryz.ntmps55 (by simp) (by simp) fun Q hr hn=>?_
   repeat' first|(refine hK _ ?_;clear hK)|(refine hK _ _ ?_;clear hK)|(clear hK;refine hK _ ?_;clear hK)|(clear hK;clear hK;refine hK _ ?_;clear hK)|(clear hK;clear hK;clear hK;refine hK _ ?_;clear hK)|(clear hK;clear hK;clear hK;clear hK;refine hK _ ?_;clear hK)|(refine zJ fun K hK=>?_)|((first | refine zH ?_ | refine zN rfl (by kernel_rfl) ?_ | refine zM ?_ | refine zK (by kernel_rfl) ?_);simp only [wK,wJ,strip])|((first | refine wIs fun K hK=>?_ | refine wOs fun K hK=>?_ | refine wQs fun K hK=>?_ | refine zW ?_ | refine zX ?_ | refine zY ?_ | refine zL ?_);simp [hm',h0,hx,hx'])|(refine wIn ?_;refine And.intro (by kernel_rfl) ?_;try simp only [zZ])|(first | refine zQ ?_ | refine zS ?_)|((first | refine zI ?_ | refine zO ?_ | refine zP ?_);try simp)|((first | refine zR ?_ | refine wOn ?_ | refine wQn ?_);try simp only [zZ])|(refine zU.pure (c) rfl ?_)|(refine zU.lent (c) rfl ?_)|(refine zT.pure (c) rfl ?_)|(refine zT.lent (c) rfl ?_)|(refine zU.own (c) ?_)|(refine zV.pure (c) rfl ?_)|(refine zV.lent (c) rfl ?_)|(refine zV.own (c) ?_)|(refine zU.pure (c2) rfl ?_)|(refine zU.lent (c2) rfl ?_)|(refine zT.pure (c2) rfl ?_)|(refine zT.lent (c2) rfl ?_)|(refine zU.own (c2) ?_)|(refine zV.pure (c2) rfl ?_)|(refine zV.lent (c2) rfl ?_)|(refine zV.own (c2) ?_)
   all_goals apply hr
   all_goals simp [Tryz.f55]
theorem parent03_con (l : List UInt8) (hl : l.length <= 9223372036854775807) : zF Tryz.prog 15 [.p (SB l)] (parV l) := by
 have c:=check03_con l hl
 unfold parV
 by_cases h0 : chk l = 0
 ·rw [h0] at c
  rcases chk_spec h0 with rfl | ⟨h1,R,rfl,hR⟩
  ·rw [if_neg (by simp [chd])]
   refine zG Tryz.tab Tryz.mixed Tryz.func15 rfl rfl Tryz.ntmps15 (by simp) (by simp) fun Q hr hn=>?_
   repeat' first|(refine hK _ ?_;clear hK)|(refine hK _ _ ?_;clear hK)|(clear hK;refine hK _ ?_;clear hK)|(clear hK;clear hK;refine hK _ ?_;clear hK)|(clear hK;clear hK;clear hK;refine hK _ ?_;clear hK)|(clear hK;clear hK;clear hK;clear hK;refine hK _ ?_;clear hK)|(refine zJ fun K hK=>?_)|((first | refine zH ?_ | refine zN rfl (by kernel_rfl) ?_ | refine zM ?_ | refine zK (by kernel_rfl) ?_);simp only [wK,wJ,strip])|((first | refine wIs fun K hK=>?_ | refine wOs fun K hK=>?_ | refine wQs fun K hK=>?_ | refine zW ?_ | refine zX ?_ | refine zY ?_ | refine zL ?_);simp)|(refine wIn ?_;refine And.intro (by kernel_rfl) ?_;try simp only [zZ])|(first | refine zQ ?_ | refine zS ?_)|((first | refine zI ?_ | refine zO ?_ | refine zP ?_);try simp)|((first | refine zR ?_ | refine wOn ?_ | refine wQn ?_);try simp only [zZ])|(refine zU.pure (c) rfl ?_)|(refine zU.lent (c) rfl ?_)|(refine zT.pure (c) rfl ?_)|(refine zT.lent (c) rfl ?_)|(refine zU.own (c) ?_)|(refine zV.pure (c) rfl ?_)|(refine zV.lent (c) rfl ?_)|(refine zV.own (c) ?_)
   all_goals apply hr
   all_goals simp [Tryz.f15]
  ·rw [if_pos (by simp [chd, h0, hR])]
   have c2:=last03_con (47 :: R) hl
   have hx:=lx_lt (47 :: R) (47 :: R).length (by simp)
   generalize lx (47 :: R) (47 :: R).length = x at c2 hx ⊢
   simp only [List.length_cons] at hx hl
   cases x with
   | zero =>
    refine zG Tryz.tab Tryz.mixed Tryz.func15 rfl rfl Tryz.ntmps15 (by simp) (by simp) fun Q hr hn=>?_
    repeat' first|(refine hK _ ?_;clear hK)|(refine hK _ _ ?_;clear hK)|(clear hK;refine hK _ ?_;clear hK)|(clear hK;clear hK;refine hK _ ?_;clear hK)|(clear hK;clear hK;clear hK;refine hK _ ?_;clear hK)|(clear hK;clear hK;clear hK;clear hK;refine hK _ ?_;clear hK)|(refine zJ fun K hK=>?_)|((first | refine zH ?_ | refine zN rfl (by kernel_rfl) ?_ | refine zM ?_ | refine zK (by kernel_rfl) ?_);simp only [wK,wJ,strip])|((first | refine wIs fun K hK=>?_ | refine wOs fun K hK=>?_ | refine wQs fun K hK=>?_ | refine zW ?_ | refine zX ?_ | refine zY ?_ | refine zL ?_);simp [h1,hR])|(refine wIn ?_;refine And.intro (by kernel_rfl) ?_;try simp only [zZ])|(first | refine zQ ?_ | refine zS ?_)|((first | refine zI ?_ | refine zO ?_ | refine zP ?_);try simp)|((first | refine zR ?_ | refine wOn ?_ | refine wQn ?_);try simp only [zZ])|(refine zU.pure (c) rfl ?_)|(refine zU.lent (c) rfl ?_)|(refine zT.pure (c) rfl ?_)|(refine zT.lent (c) rfl ?_)|(refine zU.own (c) ?_)|(refine zV.pure (c) rfl ?_)|(refine zV.lent (c) rfl ?_)|(refine zV.own (c) ?_)|(refine zU.pure (c2) rfl ?_)|(refine zU.lent (c2) rfl ?_)|(refine zT.pure (c2) rfl ?_)|(refine zT.lent (c2) rfl ?_)|(refine zU.own (c2) ?_)|(refine zV.pure (c2) rfl ?_)|(refine zV.lent (c2) rfl ?_)|(refine zV.own (c2) ?_)
    all_goals apply hr
    all_goals simp [Tryz.f15]
   | succ x =>
    have hm : max (x + 1) 1 = x + 1:=by omega
    have h0 : (0 : Int) <= (x : Int) + 1:=by omega
    have hn0 : ¬ (x : Int) + 1 = 0:=by omega
    have hx' : x <= R.length:=by omega
    rw [hm]
    refine zG Tryz.tab Tryz.mixed Tryz.func15 rfl rfl Tryz.ntmps15 (by simp) (by simp) fun Q hr hn=>?_
    repeat' first|(refine hK _ ?_;clear hK)|(refine hK _ _ ?_;clear hK)|(clear hK;refine hK _ ?_;clear hK)|(clear hK;clear hK;refine hK _ ?_;clear hK)|(clear hK;clear hK;clear hK;refine hK _ ?_;clear hK)|(clear hK;clear hK;clear hK;clear hK;refine hK _ ?_;clear hK)|(refine zJ fun K hK=>?_)|((first | refine zH ?_ | refine zN rfl (by kernel_rfl) ?_ | refine zM ?_ | refine zK (by kernel_rfl) ?_);simp only [wK,wJ,strip])|((first | refine wIs fun K hK=>?_ | refine wOs fun K hK=>?_ | refine wQs fun K hK=>?_ | refine zW ?_ | refine zX ?_ | refine zY ?_ | refine zL ?_);simp [h1,hR,h0,hn0,hx,hx'])|(refine wIn ?_;refine And.intro (by kernel_rfl) ?_;try simp only [zZ])|(first | refine zQ ?_ | refine zS ?_)|((first | refine zI ?_ | refine zO ?_ | refine zP ?_);try simp)|((first | refine zR ?_ | refine wOn ?_ | refine wQn ?_);try simp only [zZ])|(refine zU.pure (c) rfl ?_)|(refine zU.lent (c) rfl ?_)|(refine zT.pure (c) rfl ?_)|(refine zT.lent (c) rfl ?_)|(refine zU.own (c) ?_)|(refine zV.pure (c) rfl ?_)|(refine zV.lent (c) rfl ?_)|(refine zV.own (c) ?_)|(refine zU.pure (c2) rfl ?_)|(refine zU.lent (c2) rfl ?_)|(refine zT.pure (c2) rfl ?_)|(refine zT.lent (c2) rfl ?_)|(refine zU.own (c2) ?_)|(refine zV.pure (c2) rfl ?_)|(refine zV.lent (c2) rfl ?_)|(refine zV.own (c2) ?_)
    all_goals apply hr
    all_goals simp [Tryz.f15]
 ·rw [if_neg (by simp [chd, h0])]
  generalize chk l = e at c h0
  refine zG Tryz.tab Tryz.mixed Tryz.func15 rfl rfl Tryz.ntmps15 (by simp) (by simp) fun Q hr hn=>?_
  repeat' first|(refine hK _ ?_;clear hK)|(refine hK _ _ ?_;clear hK)|(clear hK;refine hK _ ?_;clear hK)|(clear hK;clear hK;refine hK _ ?_;clear hK)|(clear hK;clear hK;clear hK;refine hK _ ?_;clear hK)|(clear hK;clear hK;clear hK;clear hK;refine hK _ ?_;clear hK)|(refine zJ fun K hK=>?_)|((first | refine zH ?_ | refine zN rfl (by kernel_rfl) ?_ | refine zM ?_ | refine zK (by kernel_rfl) ?_);simp only [wK,wJ,strip])|((first | refine wIs fun K hK=>?_ | refine wOs fun K hK=>?_ | refine wQs fun K hK=>?_ | refine zW ?_ | refine zX ?_ | refine zY ?_ | refine zL ?_);simp [h0])|(refine wIn ?_;refine And.intro (by kernel_rfl) ?_;try simp only [zZ])|(first | refine zQ ?_ | refine zS ?_)|((first | refine zI ?_ | refine zO ?_ | refine zP ?_);try simp)|((first | refine zR ?_ | refine wOn ?_ | refine wQn ?_);try simp only [zZ])|(refine zU.pure (c) rfl ?_)|(refine zU.lent (c) rfl ?_)|(refine zT.pure (c) rfl ?_)|(refine zT.lent (c) rfl ?_)|(refine zU.own (c) ?_)|(refine zV.pure (c) rfl ?_)|(refine zV.lent (c) rfl ?_)|(refine zV.own (c) ?_)
  all_goals apply hr
  all_goals simp [Tryz.f15]
end Go.Proofs.YtedbbcmokbogpaaGreatDoor
