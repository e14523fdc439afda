/- Texts that the proof needs: QA ZC. -/
import Derived.Test.YtedbbcmokbogpaaGreatDoorP21PrepCloses
import Derived.Test.YtedbbcmokbogpaaGreatDoorP15PrepCloses
namespace Go.Proofs.YtedbbcmokbogpaaGreatDoor
set_option linter.unusedSimpArgs false
set_option linter.unusedVariables false
open Go Go.Av
attribute [local irreducible] Go.Av.yR Go.Av.zU Go.Av.yM Go.Av.zT Go.Av.yO Go.Av.zV Go.Av.Con
def idx (n : Int) : List Int -> Nat -> Int
 | [],_=>-1
 | a :: l,k=>if n = a then k else idx n l (k + 1)
theorem idx_mem (n : Int) : ∀ (l : List Int) (k : Nat), decide (0 <= idx n l k) = decide (n ∈ l)
 | [],k=>by simp [idx]
 | a :: l, k => by
  by_cases h : n = a
  ·subst h;simp [idx]
  ·simp [idx,h,idx_mem n l (k + 1)]
def ints (l : List Int) : List (List PV) := l.map fun n => [I n]
@[simp] theorem ints_len (l : List Int) : (ints l).length = l.length := by simp [ints]
@[simp] theorem ints_getElem (l : List Int) (k : Nat) (h : k < (ints l).length) : (ints l)[k] = [I (l[k]'(by simpa using h))] := by simp [ints]
theorem ints_get {l : List Int} {k : Nat} (h : k < l.length) : (ints l)[k]? = some [I l[k]] := by simp [ints, h]
theorem index_con (l : List Int) (n : Int) : zF Tryz.prog 47 [.p (.sl 1 (ints l)), .p (I n)] (.p (I (idx n l 0))) := by
 refine zF.len ⟨Tryz.f47,Tryz.func47,rfl,rfl⟩ 0 _ _ rfl fun hlen=>?_
 simp only [ints_len] at hlen
 refine zG Tryz.tab Tryz.mixed Tryz.func47 rfl rfl Tryz.ntmps47 (by simp) (by simp) fun Q hr hn=>?_
 repeat' first|(refine hK _ ?_;clear hK)|(refine hK _ _ ?_;clear hK)|(clear hK;refine hK _ ?_;clear hK)|(clear hK;clear hK;refine hK _ ?_;clear hK)|(clear hK;clear hK;clear hK;refine hK _ ?_;clear hK)|(clear hK;clear hK;clear hK;clear hK;refine hK _ ?_;clear hK)|(refine zJ fun K hK=>?_)|((first | refine zH ?_ | refine zN rfl (by kernel_rfl) ?_ | refine zM ?_ | refine zK (by kernel_rfl) ?_);simp only [wK,wJ,strip])|((first | refine wIs fun K hK=>?_ | refine wOs fun K hK=>?_ | refine wQs fun K hK=>?_ | refine zW ?_ | refine zX ?_ | refine zY ?_ | refine zL ?_);simp)|(refine wIn ?_;refine And.intro (by kernel_rfl) ?_;try simp only [zZ])|(first | refine zQ ?_ | refine zS ?_)|((first | refine zI ?_ | refine zO ?_ | refine zP ?_);try simp)|((first | refine zR ?_ | refine wOn ?_ | refine wQn ?_);try simp only [zZ])
 refine yA (fun N st=>∃ k,k + N = l.length /\ st.s 0 = .p (.sl 1 (ints l)) /\ st.s 1 = .p (I n) /\ st.s 7 = .p (I l.length) /\ st.s 8 = .p (I k) /\ idx n (l.drop k) k = idx n l 0) l.length ⟨0,by simp⟩ fun K N st hL ⟨k,hk,h0,h1,h7,h8,hi⟩=>?_
 by_cases hlt : k < l.length
 ·have hw := yB k _ hlt hlen
  have he:=ints_get hlt
  rw [List.drop_eq_getElem_cons hlt,idx] at hi
  repeat' first|(refine hK _ ?_;clear hK)|(refine hK _ _ ?_;clear hK)|(clear hK;refine hK _ ?_;clear hK)|(clear hK;clear hK;refine hK _ ?_;clear hK)|(clear hK;clear hK;clear hK;refine hK _ ?_;clear hK)|(clear hK;clear hK;clear hK;clear hK;refine hK _ ?_;clear hK)|(refine zJ fun K hK=>?_)|((first | refine zH ?_ | refine zN rfl (by kernel_rfl) ?_ | refine zM ?_ | refine zK (by kernel_rfl) ?_);simp only [wK,wJ,strip])|((first | refine wIs fun K hK=>?_ | refine wOs fun K hK=>?_ | refine wQs fun K hK=>?_ | refine zW ?_ | refine zX ?_ | refine zY ?_ | refine zL ?_);simp [h0,h1,h7,h8,hlt,hw,he])|(refine wIn ?_;refine And.intro (by kernel_rfl) ?_;try simp only [zZ])|(first | refine zQ ?_ | refine zS ?_)|((first | refine zI ?_ | refine zO ?_ | refine zP ?_);try simp)|((first | refine zR ?_ | refine wOn ?_ | refine wQn ?_);try simp only [zZ])|(refine And.intro (fun hc=>?_) (fun hc=>?_))
  ·apply hr
   rw [if_pos hc] at hi
   simp [Tryz.f47,hi]
  ·rw [if_neg hc] at hi
   refine hL _ (N - 1) (by omega) ⟨k + 1,by omega,?_⟩
   simp [h0,h1,h7,hw,hi]
 ·have hd : l.drop k = [] := List.drop_of_length_le (by omega)
  rw [hd] at hi
  repeat' first|(refine hK _ ?_;clear hK)|(refine hK _ _ ?_;clear hK)|(clear hK;refine hK _ ?_;clear hK)|(clear hK;clear hK;refine hK _ ?_;clear hK)|(clear hK;clear hK;clear hK;refine hK _ ?_;clear hK)|(clear hK;clear hK;clear hK;clear hK;refine hK _ ?_;clear hK)|(refine zJ fun K hK=>?_)|((first | refine zH ?_ | refine zN rfl (by kernel_rfl) ?_ | refine zM ?_ | refine zK (by kernel_rfl) ?_);simp only [wK,wJ,strip])|((first | refine wIs fun K hK=>?_ | refine wOs fun K hK=>?_ | refine wQs fun K hK=>?_ | refine zW ?_ | refine zX ?_ | refine zY ?_ | refine zL ?_);simp [h0,h1,h7,h8,hlt])|(refine wIn ?_;refine And.intro (by kernel_rfl) ?_;try simp only [zZ])|(first | refine zQ ?_ | refine zS ?_)|((first | refine zI ?_ | refine zO ?_ | refine zP ?_);try simp)|((first | refine zR ?_ | refine wOn ?_ | refine wQn ?_);try simp only [zZ])
  apply hr
  simp [Tryz.f47,<- hi,idx]
theorem contains_con (l : List Int) (n : Int) : zF Tryz.prog 23 [.p (.sl 1 (ints l)), .p (I n)] (.p (B (decide (n ∈ l)))) := by
 have h:=index_con l n
 have hz:=idx_mem n l 0
 generalize idx n l 0 = z at h hz
 rw [<- hz]
 refine zG Tryz.tab Tryz.mixed Tryz.func23 rfl rfl Tryz.ntmps23 (by simp) (by simp) fun Q hr hn=>?_
 repeat' first|(refine hK _ ?_;clear hK)|(refine hK _ _ ?_;clear hK)|(clear hK;refine hK _ ?_;clear hK)|(clear hK;clear hK;refine hK _ ?_;clear hK)|(clear hK;clear hK;clear hK;refine hK _ ?_;clear hK)|(clear hK;clear hK;clear hK;clear hK;refine hK _ ?_;clear hK)|(refine zJ fun K hK=>?_)|((first | refine zH ?_ | refine zN rfl (by kernel_rfl) ?_ | refine zM ?_ | refine zK (by kernel_rfl) ?_);simp only [wK,wJ,strip])|((first | refine wIs fun K hK=>?_ | refine wOs fun K hK=>?_ | refine wQs fun K hK=>?_ | refine zW ?_ | refine zX ?_ | refine zY ?_ | refine zL ?_);simp)|(refine wIn ?_;refine And.intro (by kernel_rfl) ?_;try simp only [zZ])|(first | refine zQ ?_ | refine zS ?_)|((first | refine zI ?_ | refine zO ?_ | refine zP ?_);try simp)|((first | refine zR ?_ | refine wOn ?_ | refine wQn ?_);try simp only [zZ])|(refine zU.pure (h) rfl ?_)|(refine zU.lent (h) rfl ?_)|(refine zT.pure (h) rfl ?_)|(refine zT.lent (h) rfl ?_)|(refine zU.own (h) ?_)|(refine zV.pure (h) rfl ?_)|(refine zV.lent (h) rfl ?_)|(refine zV.own (h) ?_)
 apply hr
 simp [Tryz.f23]
structure Mb where
 (i r w g : Int)
 deriving DecidableEq
def Mb.cells (m : Mb) : List PV := [I m.i, I m.r, I m.w, I m.g]
def mbs (l : List Mb) : List (List PV) := l.map Mb.cells
@[simp] theorem mbs_len (l : List Mb) : (mbs l).length = l.length := by simp [mbs]
@[simp] theorem mbs_getElem (l : List Mb) (k : Nat) (h : k < (mbs l).length) : (mbs l)[k] = [I (l[k]'(by simpa using h)).i, I (l[k]'(by simpa using h)).r, I (l[k]'(by simpa using h)).w, I (l[k]'(by simpa using h)).g] := by simp [mbs, Mb.cells]
structure Cf where
 (ep n kind : Int)
 ms : List Mb
def Cf.cells (c : Cf) : List PV := [I c.ep, I c.n, I c.kind, .sl 4 (mbs c.ms)]
def okM (m : Mb) : Prop := (0 <= m.i /\ m.i <= 15) /\ (m.r = 1 \/ m.r = 2) /\ (0 <= m.w /\ m.w <= 100) /\ (0 <= m.g /\ m.g <= 7)
instance (m : Mb) : Decidable (okM m) := by unfold okM; infer_instance
theorem within_con (n l : Int) : zF Tryz.prog 41 [.p (I n), .p (I l)] (.p (B (decide (0 <= n /\ n <= l)))) := by
 by_cases h : 0 <= n
 ·refine zG Tryz.tab Tryz.mixed Tryz.func41 rfl rfl Tryz.ntmps41 (by simp) (by simp) fun Q hr hn => ?_
  repeat' first|(refine hK _ ?_;clear hK)|(refine hK _ _ ?_;clear hK)|(clear hK;refine hK _ ?_;clear hK)|(clear hK;clear hK;refine hK _ ?_;clear hK)|(clear hK;clear hK;clear hK;refine hK _ ?_;clear hK)|(clear hK;clear hK;clear hK;clear hK;refine hK _ ?_;clear hK)|(refine zJ fun K hK=>?_)|((first | refine zH ?_ | refine zN rfl (by kernel_rfl) ?_ | refine zM ?_ | refine zK (by kernel_rfl) ?_);simp only [wK,wJ,strip])|((first | refine wIs fun K hK=>?_ | refine wOs fun K hK=>?_ | refine wQs fun K hK=>?_ | refine zW ?_ | refine zX ?_ | refine zY ?_ | refine zL ?_);simp [h])|(refine wIn ?_;refine And.intro (by kernel_rfl) ?_;try simp only [zZ])|(first | refine zQ ?_ | refine zS ?_)|((first | refine zI ?_ | refine zO ?_ | refine zP ?_);try simp)|((first | refine zR ?_ | refine wOn ?_ | refine wQn ?_);try simp only [zZ])
  all_goals apply hr
  all_goals simp [Tryz.f41,h]
 ·refine zG Tryz.tab Tryz.mixed Tryz.func41 rfl rfl Tryz.ntmps41 (by simp) (by simp) fun Q hr hn => ?_
  repeat' first|(refine hK _ ?_;clear hK)|(refine hK _ _ ?_;clear hK)|(clear hK;refine hK _ ?_;clear hK)|(clear hK;clear hK;refine hK _ ?_;clear hK)|(clear hK;clear hK;clear hK;refine hK _ ?_;clear hK)|(clear hK;clear hK;clear hK;clear hK;refine hK _ ?_;clear hK)|(refine zJ fun K hK=>?_)|((first | refine zH ?_ | refine zN rfl (by kernel_rfl) ?_ | refine zM ?_ | refine zK (by kernel_rfl) ?_);simp only [wK,wJ,strip])|((first | refine wIs fun K hK=>?_ | refine wOs fun K hK=>?_ | refine wQs fun K hK=>?_ | refine zW ?_ | refine zX ?_ | refine zY ?_ | refine zL ?_);simp [h])|(refine wIn ?_;refine And.intro (by kernel_rfl) ?_;try simp only [zZ])|(first | refine zQ ?_ | refine zS ?_)|((first | refine zI ?_ | refine zO ?_ | refine zP ?_);try simp)|((first | refine zR ?_ | refine wOn ?_ | refine wQn ?_);try simp only [zZ])
  all_goals apply hr
  all_goals simp [Tryz.f41,h]
theorem rightM_con (m : Mb) : zF Tryz.prog 42 [.p (.agg m.cells)] (.p (B (decide (okM m)))) := by
 obtain ⟨i,r,w,g⟩:=m
 simp only [Mb.cells,okM]
 have c1:=within_con i 15
 have c2:=within_con w 100
 have c3:=within_con g 7
 by_cases h1 : 0 <= i /\ i <= 15
 ·rw [decide_eq_true h1] at c1
  by_cases h2 : r = 1
  ·by_cases h3 : 0 <= w /\ w <= 100
   ·rw [decide_eq_true h3] at c2
    refine zG Tryz.tab Tryz.mixed Tryz.func42 rfl rfl Tryz.ntmps42 (by simp) (by simp) fun Q hr hn=>?_
    repeat' first|(refine hK _ ?_;clear hK)|(refine hK _ _ ?_;clear hK)|(clear hK;refine hK _ ?_;clear hK)|(clear hK;clear hK;refine hK _ ?_;clear hK)|(clear hK;clear hK;clear hK;refine hK _ ?_;clear hK)|(clear hK;clear hK;clear hK;clear hK;refine hK _ ?_;clear hK)|(refine zJ fun K hK=>?_)|((first | refine zH ?_ | refine zN rfl (by kernel_rfl) ?_ | refine zM ?_ | refine zK (by kernel_rfl) ?_);simp only [wK,wJ,strip])|((first | refine wIs fun K hK=>?_ | refine wOs fun K hK=>?_ | refine wQs fun K hK=>?_ | refine zW ?_ | refine zX ?_ | refine zY ?_ | refine zL ?_);simp [h1,h2,h3])|(refine wIn ?_;refine And.intro (by kernel_rfl) ?_;try simp only [zZ])|(first | refine zQ ?_ | refine zS ?_)|((first | refine zI ?_ | refine zO ?_ | refine zP ?_);try simp)|((first | refine zR ?_ | refine wOn ?_ | refine wQn ?_);try simp only [zZ])|(refine zU.pure (c1) rfl ?_)|(refine zU.lent (c1) rfl ?_)|(refine zT.pure (c1) rfl ?_)|(refine zT.lent (c1) rfl ?_)|(refine zU.own (c1) ?_)|(refine zV.pure (c1) rfl ?_)|(refine zV.lent (c1) rfl ?_)|(refine zV.own (c1) ?_)|(refine zU.pure (c2) rfl ?_)|(refine zU.lent (c2) rfl ?_)|(refine zT.pure (c2) rfl ?_)|(refine zT.lent (c2) rfl ?_)|(refine zU.own (c2) ?_)|(refine zV.pure (c2) rfl ?_)|(refine zV.lent (c2) rfl ?_)|(refine zV.own (c2) ?_)|(refine zU.pure (c3) rfl ?_)|(refine zU.lent (c3) rfl ?_)|(refine zT.pure (c3) rfl ?_)|(refine zT.lent (c3) rfl ?_)|(refine zU.own (c3) ?_)|(refine zV.pure (c3) rfl ?_)|(refine zV.lent (c3) rfl ?_)|(refine zV.own (c3) ?_)
    all_goals apply hr
    all_goals simp [Tryz.f42,h1,h2,h3]
   ·rw [decide_eq_false h3] at c2
    refine zG Tryz.tab Tryz.mixed Tryz.func42 rfl rfl Tryz.ntmps42 (by simp) (by simp) fun Q hr hn=>?_
    repeat' first|(refine hK _ ?_;clear hK)|(refine hK _ _ ?_;clear hK)|(clear hK;refine hK _ ?_;clear hK)|(clear hK;clear hK;refine hK _ ?_;clear hK)|(clear hK;clear hK;clear hK;refine hK _ ?_;clear hK)|(clear hK;clear hK;clear hK;clear hK;refine hK _ ?_;clear hK)|(refine zJ fun K hK=>?_)|((first | refine zH ?_ | refine zN rfl (by kernel_rfl) ?_ | refine zM ?_ | refine zK (by kernel_rfl) ?_);simp only [wK,wJ,strip])|((first | refine wIs fun K hK=>?_ | refine wOs fun K hK=>?_ | refine wQs fun K hK=>?_ | refine zW ?_ | refine zX ?_ | refine zY ?_ | refine zL ?_);simp [h1,h2])|(refine wIn ?_;refine And.intro (by kernel_rfl) ?_;try simp only [zZ])|(first | refine zQ ?_ | refine zS ?_)|((first | refine zI ?_ | refine zO ?_ | refine zP ?_);try simp)|((first | refine zR ?_ | refine wOn ?_ | refine wQn ?_);try simp only [zZ])|(refine zU.pure (c1) rfl ?_)|(refine zU.lent (c1) rfl ?_)|(refine zT.pure (c1) rfl ?_)|(refine zT.lent (c1) rfl ?_)|(refine zU.own (c1) ?_)|(refine zV.pure (c1) rfl ?_)|(refine zV.lent (c1) rfl ?_)|(refine zV.own (c1) ?_)|(refine zU.pure (c2) rfl ?_)|(refine zU.lent (c2) rfl ?_)|(refine zT.pure (c2) rfl ?_)|(refine zT.lent (c2) rfl ?_)|(refine zU.own (c2) ?_)|(refine zV.pure (c2) rfl ?_)|(refine zV.lent (c2) rfl ?_)|(refine zV.own (c2) ?_)
    all_goals apply hr
    all_goals simp [Tryz.f42,h1,h2,h3]
  ·by_cases h2' : r = 2
   ·by_cases h3 : 0 <= w /\ w <= 100
    ·rw [decide_eq_true h3] at c2
     refine zG Tryz.tab Tryz.mixed Tryz.func42 rfl rfl Tryz.ntmps42 (by simp) (by simp) fun Q hr hn=>?_
     repeat' first|(refine hK _ ?_;clear hK)|(refine hK _ _ ?_;clear hK)|(clear hK;refine hK _ ?_;clear hK)|(clear hK;clear hK;refine hK _ ?_;clear hK)|(clear hK;clear hK;clear hK;refine hK _ ?_;clear hK)|(clear hK;clear hK;clear hK;clear hK;refine hK _ ?_;clear hK)|(refine zJ fun K hK=>?_)|((first | refine zH ?_ | refine zN rfl (by kernel_rfl) ?_ | refine zM ?_ | refine zK (by kernel_rfl) ?_);simp only [wK,wJ,strip])|((first | refine wIs fun K hK=>?_ | refine wOs fun K hK=>?_ | refine wQs fun K hK=>?_ | refine zW ?_ | refine zX ?_ | refine zY ?_ | refine zL ?_);simp [h1,h2,h2',h3])|(refine wIn ?_;refine And.intro (by kernel_rfl) ?_;try simp only [zZ])|(first | refine zQ ?_ | refine zS ?_)|((first | refine zI ?_ | refine zO ?_ | refine zP ?_);try simp)|((first | refine zR ?_ | refine wOn ?_ | refine wQn ?_);try simp only [zZ])|(refine zU.pure (c1) rfl ?_)|(refine zU.lent (c1) rfl ?_)|(refine zT.pure (c1) rfl ?_)|(refine zT.lent (c1) rfl ?_)|(refine zU.own (c1) ?_)|(refine zV.pure (c1) rfl ?_)|(refine zV.lent (c1) rfl ?_)|(refine zV.own (c1) ?_)|(refine zU.pure (c2) rfl ?_)|(refine zU.lent (c2) rfl ?_)|(refine zT.pure (c2) rfl ?_)|(refine zT.lent (c2) rfl ?_)|(refine zU.own (c2) ?_)|(refine zV.pure (c2) rfl ?_)|(refine zV.lent (c2) rfl ?_)|(refine zV.own (c2) ?_)|(refine zU.pure (c3) rfl ?_)|(refine zU.lent (c3) rfl ?_)|(refine zT.pure (c3) rfl ?_)|(refine zT.lent (c3) rfl ?_)|(refine zU.own (c3) ?_)|(refine zV.pure (c3) rfl ?_)|(refine zV.lent (c3) rfl ?_)|(refine zV.own (c3) ?_)
     all_goals apply hr
     all_goals simp [Tryz.f42,h1,h2,h2',h3]
    ·rw [decide_eq_false h3] at c2
     refine zG Tryz.tab Tryz.mixed Tryz.func42 rfl rfl Tryz.ntmps42 (by simp) (by simp) fun Q hr hn=>?_
     repeat' first|(refine hK _ ?_;clear hK)|(refine hK _ _ ?_;clear hK)|(clear hK;refine hK _ ?_;clear hK)|(clear hK;clear hK;refine hK _ ?_;clear hK)|(clear hK;clear hK;clear hK;refine hK _ ?_;clear hK)|(clear hK;clear hK;clear hK;clear hK;refine hK _ ?_;clear hK)|(refine zJ fun K hK=>?_)|((first | refine zH ?_ | refine zN rfl (by kernel_rfl) ?_ | refine zM ?_ | refine zK (by kernel_rfl) ?_);simp only [wK,wJ,strip])|((first | refine wIs fun K hK=>?_ | refine wOs fun K hK=>?_ | refine wQs fun K hK=>?_ | refine zW ?_ | refine zX ?_ | refine zY ?_ | refine zL ?_);simp [h1,h2,h2'])|(refine wIn ?_;refine And.intro (by kernel_rfl) ?_;try simp only [zZ])|(first | refine zQ ?_ | refine zS ?_)|((first | refine zI ?_ | refine zO ?_ | refine zP ?_);try simp)|((first | refine zR ?_ | refine wOn ?_ | refine wQn ?_);try simp only [zZ])|(refine zU.pure (c1) rfl ?_)|(refine zU.lent (c1) rfl ?_)|(refine zT.pure (c1) rfl ?_)|(refine zT.lent (c1) rfl ?_)|(refine zU.own (c1) ?_)|(refine zV.pure (c1) rfl ?_)|(refine zV.lent (c1) rfl ?_)|(refine zV.own (c1) ?_)|(refine zU.pure (c2) rfl ?_)|(refine zU.lent (c2) rfl ?_)|(refine zT.pure (c2) rfl ?_)|(refine zT.lent (c2) rfl ?_)|(refine zU.own (c2) ?_)|(refine zV.pure (c2) rfl ?_)|(refine zV.lent (c2) rfl ?_)|(refine zV.own (c2) ?_)
     all_goals apply hr
     all_goals simp [Tryz.f42,h1,h2,h2',h3]
   ·refine zG Tryz.tab Tryz.mixed Tryz.func42 rfl rfl Tryz.ntmps42 (by simp) (by simp) fun Q hr hn => ?_
    repeat' first|(refine hK _ ?_;clear hK)|(refine hK _ _ ?_;clear hK)|(clear hK;refine hK _ ?_;clear hK)|(clear hK;clear hK;refine hK _ ?_;clear hK)|(clear hK;clear hK;clear hK;refine hK _ ?_;clear hK)|(clear hK;clear hK;clear hK;clear hK;refine hK _ ?_;clear hK)|(refine zJ fun K hK=>?_)|((first | refine zH ?_ | refine zN rfl (by kernel_rfl) ?_ | refine zM ?_ | refine zK (by kernel_rfl) ?_);simp only [wK,wJ,strip])|((first | refine wIs fun K hK=>?_ | refine wOs fun K hK=>?_ | refine wQs fun K hK=>?_ | refine zW ?_ | refine zX ?_ | refine zY ?_ | refine zL ?_);simp [h1,h2,h2'])|(refine wIn ?_;refine And.intro (by kernel_rfl) ?_;try simp only [zZ])|(first | refine zQ ?_ | refine zS ?_)|((first | refine zI ?_ | refine zO ?_ | refine zP ?_);try simp)|((first | refine zR ?_ | refine wOn ?_ | refine wQn ?_);try simp only [zZ])|(refine zU.pure (c1) rfl ?_)|(refine zU.lent (c1) rfl ?_)|(refine zT.pure (c1) rfl ?_)|(refine zT.lent (c1) rfl ?_)|(refine zU.own (c1) ?_)|(refine zV.pure (c1) rfl ?_)|(refine zV.lent (c1) rfl ?_)|(refine zV.own (c1) ?_)
    all_goals apply hr
    all_goals simp [Tryz.f42,h1,h2,h2']
 ·rw [decide_eq_false h1] at c1
  refine zG Tryz.tab Tryz.mixed Tryz.func42 rfl rfl Tryz.ntmps42 (by simp) (by simp) fun Q hr hn=>?_
  repeat' first|(refine hK _ ?_;clear hK)|(refine hK _ _ ?_;clear hK)|(clear hK;refine hK _ ?_;clear hK)|(clear hK;clear hK;refine hK _ ?_;clear hK)|(clear hK;clear hK;clear hK;refine hK _ ?_;clear hK)|(clear hK;clear hK;clear hK;clear hK;refine hK _ ?_;clear hK)|(refine zJ fun K hK=>?_)|((first | refine zH ?_ | refine zN rfl (by kernel_rfl) ?_ | refine zM ?_ | refine zK (by kernel_rfl) ?_);simp only [wK,wJ,strip])|((first | refine wIs fun K hK=>?_ | refine wOs fun K hK=>?_ | refine wQs fun K hK=>?_ | refine zW ?_ | refine zX ?_ | refine zY ?_ | refine zL ?_);simp [h1])|(refine wIn ?_;refine And.intro (by kernel_rfl) ?_;try simp only [zZ])|(first | refine zQ ?_ | refine zS ?_)|((first | refine zI ?_ | refine zO ?_ | refine zP ?_);try simp)|((first | refine zR ?_ | refine wOn ?_ | refine wQn ?_);try simp only [zZ])|(refine zU.pure (c1) rfl ?_)|(refine zU.lent (c1) rfl ?_)|(refine zT.pure (c1) rfl ?_)|(refine zT.lent (c1) rfl ?_)|(refine zU.own (c1) ?_)|(refine zV.pure (c1) rfl ?_)|(refine zV.lent (c1) rfl ?_)|(refine zV.own (c1) ?_)
  all_goals apply hr
  all_goals simp [Tryz.f42,h1]
set_option maxHeartbeats 8000000 in
theorem ok04_con (m : Mb) : zF Tryz.prog 45 [.p (.agg m.cells)] (.p (B (decide (okM m)))) := by
 obtain ⟨i,r,w,g⟩:=m
 simp only [Mb.cells,okM]
 by_cases h1 : 0 <= i
 ·by_cases h2 : i < 16
  ·by_cases h3 : r = 1
   ·by_cases h4 : 0 <= w
    ·by_cases h5 : w <= 100
     ·by_cases h6 : 0 <= g
      ·refine zG Tryz.tab Tryz.mixed Tryz.func45 rfl rfl Tryz.ntmps45 (by simp) (by simp) fun Q hr hn => ?_
       repeat' first|(refine hK _ ?_;clear hK)|(refine hK _ _ ?_;clear hK)|(clear hK;refine hK _ ?_;clear hK)|(clear hK;clear hK;refine hK _ ?_;clear hK)|(clear hK;clear hK;clear hK;refine hK _ ?_;clear hK)|(clear hK;clear hK;clear hK;clear hK;refine hK _ ?_;clear hK)|(refine zJ fun K hK=>?_)|((first | refine zH ?_ | refine zN rfl (by kernel_rfl) ?_ | refine zM ?_ | refine zK (by kernel_rfl) ?_);simp only [wK,wJ,strip])|((first | refine wIs fun K hK=>?_ | refine wOs fun K hK=>?_ | refine wQs fun K hK=>?_ | refine zW ?_ | refine zX ?_ | refine zY ?_ | refine zL ?_);simp [h1,h2,h3,h4,h5,h6])|(refine wIn ?_;refine And.intro (by kernel_rfl) ?_;try simp only [zZ])|(first | refine zQ ?_ | refine zS ?_)|((first | refine zI ?_ | refine zO ?_ | refine zP ?_);try simp)|((first | refine zR ?_ | refine wOn ?_ | refine wQn ?_);try simp only [zZ])
       all_goals apply hr
       all_goals simp [Tryz.f45,h1,h2,h3,h4,h5,h6]
       all_goals omega
      ·refine zG Tryz.tab Tryz.mixed Tryz.func45 rfl rfl Tryz.ntmps45 (by simp) (by simp) fun Q hr hn => ?_
       repeat' first|(refine hK _ ?_;clear hK)|(refine hK _ _ ?_;clear hK)|(clear hK;refine hK _ ?_;clear hK)|(clear hK;clear hK;refine hK _ ?_;clear hK)|(clear hK;clear hK;clear hK;refine hK _ ?_;clear hK)|(clear hK;clear hK;clear hK;clear hK;refine hK _ ?_;clear hK)|(refine zJ fun K hK=>?_)|((first | refine zH ?_ | refine zN rfl (by kernel_rfl) ?_ | refine zM ?_ | refine zK (by kernel_rfl) ?_);simp only [wK,wJ,strip])|((first | refine wIs fun K hK=>?_ | refine wOs fun K hK=>?_ | refine wQs fun K hK=>?_ | refine zW ?_ | refine zX ?_ | refine zY ?_ | refine zL ?_);simp [h1,h2,h3,h4,h5,h6])|(refine wIn ?_;refine And.intro (by kernel_rfl) ?_;try simp only [zZ])|(first | refine zQ ?_ | refine zS ?_)|((first | refine zI ?_ | refine zO ?_ | refine zP ?_);try simp)|((first | refine zR ?_ | refine wOn ?_ | refine wQn ?_);try simp only [zZ])
       all_goals apply hr
       all_goals simp [Tryz.f45,h1,h2,h3,h4,h5,h6]
     ·refine zG Tryz.tab Tryz.mixed Tryz.func45 rfl rfl Tryz.ntmps45 (by simp) (by simp) fun Q hr hn => ?_
      repeat' first|(refine hK _ ?_;clear hK)|(refine hK _ _ ?_;clear hK)|(clear hK;refine hK _ ?_;clear hK)|(clear hK;clear hK;refine hK _ ?_;clear hK)|(clear hK;clear hK;clear hK;refine hK _ ?_;clear hK)|(clear hK;clear hK;clear hK;clear hK;refine hK _ ?_;clear hK)|(refine zJ fun K hK=>?_)|((first | refine zH ?_ | refine zN rfl (by kernel_rfl) ?_ | refine zM ?_ | refine zK (by kernel_rfl) ?_);simp only [wK,wJ,strip])|((first | refine wIs fun K hK=>?_ | refine wOs fun K hK=>?_ | refine wQs fun K hK=>?_ | refine zW ?_ | refine zX ?_ | refine zY ?_ | refine zL ?_);simp [h1,h2,h3,h4,h5])|(refine wIn ?_;refine And.intro (by kernel_rfl) ?_;try simp only [zZ])|(first | refine zQ ?_ | refine zS ?_)|((first | refine zI ?_ | refine zO ?_ | refine zP ?_);try simp)|((first | refine zR ?_ | refine wOn ?_ | refine wQn ?_);try simp only [zZ])
      all_goals apply hr
      all_goals simp [Tryz.f45,h1,h2,h3,h4,h5]
    ·refine zG Tryz.tab Tryz.mixed Tryz.func45 rfl rfl Tryz.ntmps45 (by simp) (by simp) fun Q hr hn => ?_
     repeat' first|(refine hK _ ?_;clear hK)|(refine hK _ _ ?_;clear hK)|(clear hK;refine hK _ ?_;clear hK)|(clear hK;clear hK;refine hK _ ?_;clear hK)|(clear hK;clear hK;clear hK;refine hK _ ?_;clear hK)|(clear hK;clear hK;clear hK;clear hK;refine hK _ ?_;clear hK)|(refine zJ fun K hK=>?_)|((first | refine zH ?_ | refine zN rfl (by kernel_rfl) ?_ | refine zM ?_ | refine zK (by kernel_rfl) ?_);simp only [wK,wJ,strip])|((first | refine wIs fun K hK=>?_ | refine wOs fun K hK=>?_ | refine wQs fun K hK=>?_ | refine zW ?_ | refine zX ?_ | refine zY ?_ | refine zL ?_);simp [h1,h2,h3,h4])|(refine wIn ?_;refine And.intro (by kernel_rfl) ?_;try simp only [zZ])|(first | refine zQ ?_ | refine zS ?_)|((first | refine zI ?_ | refine zO ?_ | refine zP ?_);try simp)|((first | refine zR ?_ | refine wOn ?_ | refine wQn ?_);try simp only [zZ])
     all_goals apply hr
     all_goals simp [Tryz.f45,h1,h2,h3,h4]
   ·by_cases h3' : r = 2
    ·by_cases h4 : 0 <= w
     ·by_cases h5 : w <= 100
      ·by_cases h6 : 0 <= g
       ·refine zG Tryz.tab Tryz.mixed Tryz.func45 rfl rfl Tryz.ntmps45 (by simp) (by simp) fun Q hr hn => ?_
        repeat' first|(refine hK _ ?_;clear hK)|(refine hK _ _ ?_;clear hK)|(clear hK;refine hK _ ?_;clear hK)|(clear hK;clear hK;refine hK _ ?_;clear hK)|(clear hK;clear hK;clear hK;refine hK _ ?_;clear hK)|(clear hK;clear hK;clear hK;clear hK;refine hK _ ?_;clear hK)|(refine zJ fun K hK=>?_)|((first | refine zH ?_ | refine zN rfl (by kernel_rfl) ?_ | refine zM ?_ | refine zK (by kernel_rfl) ?_);simp only [wK,wJ,strip])|((first | refine wIs fun K hK=>?_ | refine wOs fun K hK=>?_ | refine wQs fun K hK=>?_ | refine zW ?_ | refine zX ?_ | refine zY ?_ | refine zL ?_);simp [h1,h2,h3,h3',h4,h5,h6])|(refine wIn ?_;refine And.intro (by kernel_rfl) ?_;try simp only [zZ])|(first | refine zQ ?_ | refine zS ?_)|((first | refine zI ?_ | refine zO ?_ | refine zP ?_);try simp)|((first | refine zR ?_ | refine wOn ?_ | refine wQn ?_);try simp only [zZ])
        all_goals apply hr
        all_goals simp [Tryz.f45,h1,h2,h3,h3',h4,h5,h6]
        all_goals omega
       ·refine zG Tryz.tab Tryz.mixed Tryz.func45 rfl rfl Tryz.ntmps45 (by simp) (by simp) fun Q hr hn => ?_
        repeat' first|(refine hK _ ?_;clear hK)|(refine hK _ _ ?_;clear hK)|(clear hK;refine hK _ ?_;clear hK)|(clear hK;clear hK;refine hK _ ?_;clear hK)|(clear hK;clear hK;clear hK;refine hK _ ?_;clear hK)|(clear hK;clear hK;clear hK;clear hK;refine hK _ ?_;clear hK)|(refine zJ fun K hK=>?_)|((first | refine zH ?_ | refine zN rfl (by kernel_rfl) ?_ | refine zM ?_ | refine zK (by kernel_rfl) ?_);simp only [wK,wJ,strip])|((first | refine wIs fun K hK=>?_ | refine wOs fun K hK=>?_ | refine wQs fun K hK=>?_ | refine zW ?_ | refine zX ?_ | refine zY ?_ | refine zL ?_);simp [h1,h2,h3,h3',h4,h5,h6])|(refine wIn ?_;refine And.intro (by kernel_rfl) ?_;try simp only [zZ])|(first | refine zQ ?_ | refine zS ?_)|((first | refine zI ?_ | refine zO ?_ | refine zP ?_);try simp)|((first | refine zR ?_ | refine wOn ?_ | refine wQn ?_);try simp only [zZ])
        all_goals apply hr
        all_goals simp [Tryz.f45,h1,h2,h3,h3',h4,h5,h6]
      ·refine zG Tryz.tab Tryz.mixed Tryz.func45 rfl rfl Tryz.ntmps45 (by simp) (by simp) fun Q hr hn => ?_
       repeat' first|(refine hK _ ?_;clear hK)|(refine hK _ _ ?_;clear hK)|(clear hK;refine hK _ ?_;clear hK)|(clear hK;clear hK;refine hK _ ?_;clear hK)|(clear hK;clear hK;clear hK;refine hK _ ?_;clear hK)|(clear hK;clear hK;clear hK;clear hK;refine hK _ ?_;clear hK)|(refine zJ fun K hK=>?_)|((first | refine zH ?_ | refine zN rfl (by kernel_rfl) ?_ | refine zM ?_ | refine zK (by kernel_rfl) ?_);simp only [wK,wJ,strip])|((first | refine wIs fun K hK=>?_ | refine wOs fun K hK=>?_ | refine wQs fun K hK=>?_ | refine zW ?_ | refine zX ?_ | refine zY ?_ | refine zL ?_);simp [h1,h2,h3,h3',h4,h5])|(refine wIn ?_;refine And.intro (by kernel_rfl) ?_;try simp only [zZ])|(first | refine zQ ?_ | refine zS ?_)|((first | refine zI ?_ | refine zO ?_ | refine zP ?_);try simp)|((first | refine zR ?_ | refine wOn ?_ | refine wQn ?_);try simp only [zZ])
       all_goals apply hr
       all_goals simp [Tryz.f45,h1,h2,h3,h3',h4,h5]
     ·refine zG Tryz.tab Tryz.mixed Tryz.func45 rfl rfl Tryz.ntmps45 (by simp) (by simp) fun Q hr hn => ?_
      repeat' first|(refine hK _ ?_;clear hK)|(refine hK _ _ ?_;clear hK)|(clear hK;refine hK _ ?_;clear hK)|(clear hK;clear hK;refine hK _ ?_;clear hK)|(clear hK;clear hK;clear hK;refine hK _ ?_;clear hK)|(clear hK;clear hK;clear hK;clear hK;refine hK _ ?_;clear hK)|(refine zJ fun K hK=>?_)|((first | refine zH ?_ | refine zN rfl (by kernel_rfl) ?_ | refine zM ?_ | refine zK (by kernel_rfl) ?_);simp only [wK,wJ,strip])|((first | refine wIs fun K hK=>?_ | refine wOs fun K hK=>?_ | refine wQs fun K hK=>?_ | refine zW ?_ | refine zX ?_ | refine zY ?_ | refine zL ?_);simp [h1,h2,h3,h3',h4])|(refine wIn ?_;refine And.intro (by kernel_rfl) ?_;try simp only [zZ])|(first | refine zQ ?_ | refine zS ?_)|((first | refine zI ?_ | refine zO ?_ | refine zP ?_);try simp)|((first | refine zR ?_ | refine wOn ?_ | refine wQn ?_);try simp only [zZ])
      all_goals apply hr
      all_goals simp [Tryz.f45,h1,h2,h3,h3',h4]
    ·refine zG Tryz.tab Tryz.mixed Tryz.func45 rfl rfl Tryz.ntmps45 (by simp) (by simp) fun Q hr hn => ?_
     repeat' first|(refine hK _ ?_;clear hK)|(refine hK _ _ ?_;clear hK)|(clear hK;refine hK _ ?_;clear hK)|(clear hK;clear hK;refine hK _ ?_;clear hK)|(clear hK;clear hK;clear hK;refine hK _ ?_;clear hK)|(clear hK;clear hK;clear hK;clear hK;refine hK _ ?_;clear hK)|(refine zJ fun K hK=>?_)|((first | refine zH ?_ | refine zN rfl (by kernel_rfl) ?_ | refine zM ?_ | refine zK (by kernel_rfl) ?_);simp only [wK,wJ,strip])|((first | refine wIs fun K hK=>?_ | refine wOs fun K hK=>?_ | refine wQs fun K hK=>?_ | refine zW ?_ | refine zX ?_ | refine zY ?_ | refine zL ?_);simp [h1,h2,h3,h3'])|(refine wIn ?_;refine And.intro (by kernel_rfl) ?_;try simp only [zZ])|(first | refine zQ ?_ | refine zS ?_)|((first | refine zI ?_ | refine zO ?_ | refine zP ?_);try simp)|((first | refine zR ?_ | refine wOn ?_ | refine wQn ?_);try simp only [zZ])
     all_goals apply hr
     all_goals simp [Tryz.f45,h1,h2,h3,h3']
  ·refine zG Tryz.tab Tryz.mixed Tryz.func45 rfl rfl Tryz.ntmps45 (by simp) (by simp) fun Q hr hn => ?_
   repeat' first|(refine hK _ ?_;clear hK)|(refine hK _ _ ?_;clear hK)|(clear hK;refine hK _ ?_;clear hK)|(clear hK;clear hK;refine hK _ ?_;clear hK)|(clear hK;clear hK;clear hK;refine hK _ ?_;clear hK)|(clear hK;clear hK;clear hK;clear hK;refine hK _ ?_;clear hK)|(refine zJ fun K hK=>?_)|((first | refine zH ?_ | refine zN rfl (by kernel_rfl) ?_ | refine zM ?_ | refine zK (by kernel_rfl) ?_);simp only [wK,wJ,strip])|((first | refine wIs fun K hK=>?_ | refine wOs fun K hK=>?_ | refine wQs fun K hK=>?_ | refine zW ?_ | refine zX ?_ | refine zY ?_ | refine zL ?_);simp [h1,h2])|(refine wIn ?_;refine And.intro (by kernel_rfl) ?_;try simp only [zZ])|(first | refine zQ ?_ | refine zS ?_)|((first | refine zI ?_ | refine zO ?_ | refine zP ?_);try simp)|((first | refine zR ?_ | refine wOn ?_ | refine wQn ?_);try simp only [zZ])
   all_goals apply hr
   all_goals simp [Tryz.f45,h1,h2]
   all_goals omega
 ·refine zG Tryz.tab Tryz.mixed Tryz.func45 rfl rfl Tryz.ntmps45 (by simp) (by simp) fun Q hr hn => ?_
  repeat' first|(refine hK _ ?_;clear hK)|(refine hK _ _ ?_;clear hK)|(clear hK;refine hK _ ?_;clear hK)|(clear hK;clear hK;refine hK _ ?_;clear hK)|(clear hK;clear hK;clear hK;refine hK _ ?_;clear hK)|(clear hK;clear hK;clear hK;clear hK;refine hK _ ?_;clear hK)|(refine zJ fun K hK=>?_)|((first | refine zH ?_ | refine zN rfl (by kernel_rfl) ?_ | refine zM ?_ | refine zK (by kernel_rfl) ?_);simp only [wK,wJ,strip])|((first | refine wIs fun K hK=>?_ | refine wOs fun K hK=>?_ | refine wQs fun K hK=>?_ | refine zW ?_ | refine zX ?_ | refine zY ?_ | refine zL ?_);simp [h1])|(refine wIn ?_;refine And.intro (by kernel_rfl) ?_;try simp only [zZ])|(first | refine zQ ?_ | refine zS ?_)|((first | refine zI ?_ | refine zO ?_ | refine zP ?_);try simp)|((first | refine zR ?_ | refine wOn ?_ | refine wQn ?_);try simp only [zZ])
  all_goals apply hr
  all_goals simp [Tryz.f45,h1]
theorem wP (n : Int) : zF Tryz.prog 117 [.p (I n)] (.p (B false)) := by
 refine zG Tryz.tab Tryz.mixed Tryz.func117 rfl rfl Tryz.ntmps117 (by simp) (by simp) fun Q hr hn=>?_
 repeat' first|(refine hK _ ?_;clear hK)|(refine hK _ _ ?_;clear hK)|(clear hK;refine hK _ ?_;clear hK)|(clear hK;clear hK;refine hK _ ?_;clear hK)|(clear hK;clear hK;clear hK;refine hK _ ?_;clear hK)|(clear hK;clear hK;clear hK;clear hK;refine hK _ ?_;clear hK)|(refine zJ fun K hK=>?_)|((first | refine zH ?_ | refine zN rfl (by kernel_rfl) ?_ | refine zM ?_ | refine zK (by kernel_rfl) ?_);simp only [wK,wJ,strip])|((first | refine wIs fun K hK=>?_ | refine wOs fun K hK=>?_ | refine wQs fun K hK=>?_ | refine zW ?_ | refine zX ?_ | refine zY ?_ | refine zL ?_);simp)|(refine wIn ?_;refine And.intro (by kernel_rfl) ?_;try simp only [zZ])|(first | refine zQ ?_ | refine zS ?_)|((first | refine zI ?_ | refine zO ?_ | refine zP ?_);try simp)|((first | refine zR ?_ | refine wOn ?_ | refine wQn ?_);try simp only [zZ])
 apply hr
 simp [Tryz.f117]
def cmpInt (a b : Int) : Int := if a < b then -1 else if b < a then 1 else 0
theorem xS (a b : Int) : zF Tryz.prog 108 [.p (I a), .p (I b)] (.p (I (cmpInt a b))) := by
 refine zG Tryz.tab Tryz.mixed Tryz.func108 rfl rfl Tryz.ntmps108 (by simp) (by simp) fun Q hr hn=>?_
 repeat' first|(refine hK _ ?_;clear hK)|(refine hK _ _ ?_;clear hK)|(clear hK;refine hK _ ?_;clear hK)|(clear hK;clear hK;refine hK _ ?_;clear hK)|(clear hK;clear hK;clear hK;refine hK _ ?_;clear hK)|(clear hK;clear hK;clear hK;clear hK;refine hK _ ?_;clear hK)|(refine zJ fun K hK=>?_)|((first | refine zH ?_ | refine zN rfl (by kernel_rfl) ?_ | refine zM ?_ | refine zK (by kernel_rfl) ?_);simp only [wK,wJ,strip])|((first | refine wIs fun K hK=>?_ | refine wOs fun K hK=>?_ | refine wQs fun K hK=>?_ | refine zW ?_ | refine zX ?_ | refine zY ?_ | refine zL ?_);simp)|(refine wIn ?_;refine And.intro (by kernel_rfl) ?_;try simp only [zZ])|(first | refine zQ ?_ | refine zS ?_)|((first | refine zI ?_ | refine zO ?_ | refine zP ?_);try simp)|((first | refine zR ?_ | refine wOn ?_ | refine wQn ?_);try simp only [zZ])|(refine zU.pure (wP _) rfl ?_)|(refine zU.lent (wP _) rfl ?_)|(refine zT.pure (wP _) rfl ?_)|(refine zT.lent (wP _) rfl ?_)|(refine zU.own (wP _) ?_)|(refine zV.pure (wP _) rfl ?_)|(refine zV.lent (wP _) rfl ?_)|(refine zV.own (wP _) ?_)|(refine And.intro (fun _=>?_) (fun _=>?_))
 all_goals (apply hr;simp [Tryz.f108,cmpInt];try omega)
def orL : List Int -> Int
 | []=>0
 | a :: l=>if a = 0 then orL l else a
theorem or_con (l : List Int) : zF Tryz.prog 107 [.p (.sl 1 (l.map fun n => [I n]))] (.p (I (orL l))) := by
 refine zF.len ⟨Tryz.f107,Tryz.func107,rfl,rfl⟩ 0 _ _ rfl fun hlen=>?_
 simp only [List.length_map] at hlen
 refine zG Tryz.tab Tryz.mixed Tryz.func107 rfl rfl Tryz.ntmps107 (by simp) (by simp) fun Q hr hn=>?_
 repeat' first|(refine hK _ ?_;clear hK)|(refine hK _ _ ?_;clear hK)|(clear hK;refine hK _ ?_;clear hK)|(clear hK;clear hK;refine hK _ ?_;clear hK)|(clear hK;clear hK;clear hK;refine hK _ ?_;clear hK)|(clear hK;clear hK;clear hK;clear hK;refine hK _ ?_;clear hK)|(refine zJ fun K hK=>?_)|((first | refine zH ?_ | refine zN rfl (by kernel_rfl) ?_ | refine zM ?_ | refine zK (by kernel_rfl) ?_);simp only [wK,wJ,strip])|((first | refine wIs fun K hK=>?_ | refine wOs fun K hK=>?_ | refine wQs fun K hK=>?_ | refine zW ?_ | refine zX ?_ | refine zY ?_ | refine zL ?_);simp)|(refine wIn ?_;refine And.intro (by kernel_rfl) ?_;try simp only [zZ])|(first | refine zQ ?_ | refine zS ?_)|((first | refine zI ?_ | refine zO ?_ | refine zP ?_);try simp)|((first | refine zR ?_ | refine wOn ?_ | refine wQn ?_);try simp only [zZ])
 refine yA (fun n st=>∃ k,k + n = l.length /\ st.s 6 = .p (.sl 1 (l.map fun n=>[I n])) /\ st.s 7 = .p (I l.length) /\ st.s 8 = .p (I k) /\ st.s 3 = .p (I 0) /\ orL (l.drop k) = orL l) l.length ⟨0,by simp⟩ fun K n st hL ⟨k,hk,h6,h7,h8,h3,hor⟩=>?_
 by_cases hlt : k < l.length
 ·have hw := yB k _ hlt hlen
  have hd : l.drop k = l[k] :: l.drop (k + 1):=List.drop_eq_getElem_cons hlt
  have he : l[k]? = some l[k]:=List.getElem?_eq_getElem hlt
  rw [hd,orL] at hor
  repeat' first|(refine hK _ ?_;clear hK)|(refine hK _ _ ?_;clear hK)|(clear hK;refine hK _ ?_;clear hK)|(clear hK;clear hK;refine hK _ ?_;clear hK)|(clear hK;clear hK;clear hK;refine hK _ ?_;clear hK)|(clear hK;clear hK;clear hK;clear hK;refine hK _ ?_;clear hK)|(refine zJ fun K hK=>?_)|((first | refine zH ?_ | refine zN rfl (by kernel_rfl) ?_ | refine zM ?_ | refine zK (by kernel_rfl) ?_);simp only [wK,wJ,strip])|((first | refine wIs fun K hK=>?_ | refine wOs fun K hK=>?_ | refine wQs fun K hK=>?_ | refine zW ?_ | refine zX ?_ | refine zY ?_ | refine zL ?_);simp [h6,h7,h8,h3,hlt,hw,he])|(refine wIn ?_;refine And.intro (by kernel_rfl) ?_;try simp only [zZ])|(first | refine zQ ?_ | refine zS ?_)|((first | refine zI ?_ | refine zO ?_ | refine zP ?_);try simp)|((first | refine zR ?_ | refine wOn ?_ | refine wQn ?_);try simp only [zZ])|(refine And.intro (fun hc=>?_) (fun hc=>?_))
  ·apply hr
   simp [Tryz.f107]
   rw [if_neg hc] at hor;exact hor.symm
  ·refine hL _ (n - 1) (by omega) ⟨k + 1, by omega, ?_⟩
   rw [if_pos hc] at hor
   simp [h6,h7,h3,hw,hor]
 ·have hd : l.drop k = [] := List.drop_of_length_le (by omega)
  rw [hd] at hor
  repeat' first|(refine hK _ ?_;clear hK)|(refine hK _ _ ?_;clear hK)|(clear hK;refine hK _ ?_;clear hK)|(clear hK;clear hK;refine hK _ ?_;clear hK)|(clear hK;clear hK;clear hK;refine hK _ ?_;clear hK)|(clear hK;clear hK;clear hK;clear hK;refine hK _ ?_;clear hK)|(refine zJ fun K hK=>?_)|((first | refine zH ?_ | refine zN rfl (by kernel_rfl) ?_ | refine zM ?_ | refine zK (by kernel_rfl) ?_);simp only [wK,wJ,strip])|((first | refine wIs fun K hK=>?_ | refine wOs fun K hK=>?_ | refine wQs fun K hK=>?_ | refine zW ?_ | refine zX ?_ | refine zY ?_ | refine zL ?_);simp [h6,h7,h8,h3,hlt])|(refine wIn ?_;refine And.intro (by kernel_rfl) ?_;try simp only [zZ])|(first | refine zQ ?_ | refine zS ?_)|((first | refine zI ?_ | refine zO ?_ | refine zP ?_);try simp)|((first | refine zR ?_ | refine wOn ?_ | refine wQn ?_);try simp only [zZ])
  apply hr
  simp [Tryz.f107,h3,<- hor,orL]
def zcmp (a b c d : Int) : Int := if a = c /\ b = d then 0 else orL [cmpInt a c, cmpInt b d]
theorem cmp_con (a b c d : Int) : zF Tryz.prog 92 [.p (.agg [I a, I b]), .p (.agg [I c, I d])] (.p (I (zcmp a b c d))) := by
 have hor:=or_con [cmpInt a c,cmpInt b d]
 simp only [wK,wJ] at hor
 by_cases hab : a = c /\ b = d
 ·obtain ⟨rfl, rfl⟩ := hab
  refine zG Tryz.tab Tryz.mixed Tryz.func92 rfl rfl Tryz.ntmps92 (by simp) (by simp) fun Q hr hn=>?_
  repeat' first|(refine hK _ ?_;clear hK)|(refine hK _ _ ?_;clear hK)|(clear hK;refine hK _ ?_;clear hK)|(clear hK;clear hK;refine hK _ ?_;clear hK)|(clear hK;clear hK;clear hK;refine hK _ ?_;clear hK)|(clear hK;clear hK;clear hK;clear hK;refine hK _ ?_;clear hK)|(refine zJ fun K hK=>?_)|((first | refine zH ?_ | refine zN rfl (by kernel_rfl) ?_ | refine zM ?_ | refine zK (by kernel_rfl) ?_);simp only [wK,wJ,strip])|((first | refine wIs fun K hK=>?_ | refine wOs fun K hK=>?_ | refine wQs fun K hK=>?_ | refine zW ?_ | refine zX ?_ | refine zY ?_ | refine zL ?_);simp)|(refine wIn ?_;refine And.intro (by kernel_rfl) ?_;try simp only [zZ])|(first | refine zQ ?_ | refine zS ?_)|((first | refine zI ?_ | refine zO ?_ | refine zP ?_);try simp)|((first | refine zR ?_ | refine wOn ?_ | refine wQn ?_);try simp only [zZ])
  apply hr
  simp [Tryz.f92,zcmp]
 ·refine zG Tryz.tab Tryz.mixed Tryz.func92 rfl rfl Tryz.ntmps92 (by simp) (by simp) fun Q hr hn => ?_
  repeat' first|(refine hK _ ?_;clear hK)|(refine hK _ _ ?_;clear hK)|(clear hK;refine hK _ ?_;clear hK)|(clear hK;clear hK;refine hK _ ?_;clear hK)|(clear hK;clear hK;clear hK;refine hK _ ?_;clear hK)|(clear hK;clear hK;clear hK;clear hK;refine hK _ ?_;clear hK)|(refine zJ fun K hK=>?_)|((first | refine zH ?_ | refine zN rfl (by kernel_rfl) ?_ | refine zM ?_ | refine zK (by kernel_rfl) ?_);simp only [wK,wJ,strip])|((first | refine wIs fun K hK=>?_ | refine wOs fun K hK=>?_ | refine wQs fun K hK=>?_ | refine zW ?_ | refine zX ?_ | refine zY ?_ | refine zL ?_);simp [hab])|(refine wIn ?_;refine And.intro (by kernel_rfl) ?_;try simp only [zZ])|(first | refine zQ ?_ | refine zS ?_)|((first | refine zI ?_ | refine zO ?_ | refine zP ?_);try simp)|((first | refine zR ?_ | refine wOn ?_ | refine wQn ?_);try simp only [zZ])|(refine zU.pure (xS _ _) rfl ?_)|(refine zU.lent (xS _ _) rfl ?_)|(refine zT.pure (xS _ _) rfl ?_)|(refine zT.lent (xS _ _) rfl ?_)|(refine zU.own (xS _ _) ?_)|(refine zV.pure (xS _ _) rfl ?_)|(refine zV.lent (xS _ _) rfl ?_)|(refine zV.own (xS _ _) ?_)|(refine zU.pure (hor) rfl ?_)|(refine zU.lent (hor) rfl ?_)|(refine zT.pure (hor) rfl ?_)|(refine zT.lent (hor) rfl ?_)|(refine zU.own (hor) ?_)|(refine zV.pure (hor) rfl ?_)|(refine zV.lent (hor) rfl ?_)|(refine zV.own (hor) ?_)|(intro _)
  all_goals first | exact hab | skip
  apply hr
  simp [Tryz.f92,zcmp,hab]
theorem zcmp_spec (a b c d : Int) : zcmp a b c d = if a = c /\ b = d then 0 else if a < c \/ (a = c /\ b < d) then -1 else 1 := by
 unfold zcmp cmpInt
 simp only [orL]
 repeat' split
 all_goals omega
theorem cmp02_con (a b c d : Int) : zF Tryz.prog 33 [.p (.agg [I a, I b]), .p (.agg [I c, I d])] (.p (I (zcmp a b c d))) := by
 rw [zcmp_spec]
 by_cases hab : a = c /\ b = d
 ·rw [if_pos hab]
  obtain ⟨rfl,rfl⟩:=hab
  refine zG Tryz.tab Tryz.mixed Tryz.func33 rfl rfl Tryz.ntmps33 (by simp) (by simp) fun Q hr hn=>?_
  repeat' first|(refine hK _ ?_;clear hK)|(refine hK _ _ ?_;clear hK)|(clear hK;refine hK _ ?_;clear hK)|(clear hK;clear hK;refine hK _ ?_;clear hK)|(clear hK;clear hK;clear hK;refine hK _ ?_;clear hK)|(clear hK;clear hK;clear hK;clear hK;refine hK _ ?_;clear hK)|(refine zJ fun K hK=>?_)|((first | refine zH ?_ | refine zN rfl (by kernel_rfl) ?_ | refine zM ?_ | refine zK (by kernel_rfl) ?_);simp only [wK,wJ,strip])|((first | refine wIs fun K hK=>?_ | refine wOs fun K hK=>?_ | refine wQs fun K hK=>?_ | refine zW ?_ | refine zX ?_ | refine zY ?_ | refine zL ?_);simp)|(refine wIn ?_;refine And.intro (by kernel_rfl) ?_;try simp only [zZ])|(first | refine zQ ?_ | refine zS ?_)|((first | refine zI ?_ | refine zO ?_ | refine zP ?_);try simp)|((first | refine zR ?_ | refine wOn ?_ | refine wQn ?_);try simp only [zZ])
  all_goals apply hr
  all_goals simp [Tryz.f33]
 ·rw [if_neg hab]
  by_cases h1 : a < c
  ·have h2 : ¬ a = c := by omega
   refine zG Tryz.tab Tryz.mixed Tryz.func33 rfl rfl Tryz.ntmps33 (by simp) (by simp) fun Q hr hn=>?_
   repeat' first|(refine hK _ ?_;clear hK)|(refine hK _ _ ?_;clear hK)|(clear hK;refine hK _ ?_;clear hK)|(clear hK;clear hK;refine hK _ ?_;clear hK)|(clear hK;clear hK;clear hK;refine hK _ ?_;clear hK)|(clear hK;clear hK;clear hK;clear hK;refine hK _ ?_;clear hK)|(refine zJ fun K hK=>?_)|((first | refine zH ?_ | refine zN rfl (by kernel_rfl) ?_ | refine zM ?_ | refine zK (by kernel_rfl) ?_);simp only [wK,wJ,strip])|((first | refine wIs fun K hK=>?_ | refine wOs fun K hK=>?_ | refine wQs fun K hK=>?_ | refine zW ?_ | refine zX ?_ | refine zY ?_ | refine zL ?_);simp [hab,h1,h2])|(refine wIn ?_;refine And.intro (by kernel_rfl) ?_;try simp only [zZ])|(first | refine zQ ?_ | refine zS ?_)|((first | refine zI ?_ | refine zO ?_ | refine zP ?_);try simp)|((first | refine zR ?_ | refine wOn ?_ | refine wQn ?_);try simp only [zZ])|(intro _)
   all_goals first | exact hab | skip
   all_goals apply hr
   all_goals simp [Tryz.f33,h1]
  ·by_cases h2 : a = c
   ·by_cases h3 : b < d
    ·have h4 : ¬ b = d := by omega
     refine zG Tryz.tab Tryz.mixed Tryz.func33 rfl rfl Tryz.ntmps33 (by simp) (by simp) fun Q hr hn=>?_
     repeat' first|(refine hK _ ?_;clear hK)|(refine hK _ _ ?_;clear hK)|(clear hK;refine hK _ ?_;clear hK)|(clear hK;clear hK;refine hK _ ?_;clear hK)|(clear hK;clear hK;clear hK;refine hK _ ?_;clear hK)|(clear hK;clear hK;clear hK;clear hK;refine hK _ ?_;clear hK)|(refine zJ fun K hK=>?_)|((first | refine zH ?_ | refine zN rfl (by kernel_rfl) ?_ | refine zM ?_ | refine zK (by kernel_rfl) ?_);simp only [wK,wJ,strip])|((first | refine wIs fun K hK=>?_ | refine wOs fun K hK=>?_ | refine wQs fun K hK=>?_ | refine zW ?_ | refine zX ?_ | refine zY ?_ | refine zL ?_);simp [hab,h1,h2,h3,h4])|(refine wIn ?_;refine And.intro (by kernel_rfl) ?_;try simp only [zZ])|(first | refine zQ ?_ | refine zS ?_)|((first | refine zI ?_ | refine zO ?_ | refine zP ?_);try simp)|((first | refine zR ?_ | refine wOn ?_ | refine wQn ?_);try simp only [zZ])|(intro _)
     all_goals first | exact hab | skip
     all_goals apply hr
     all_goals simp [Tryz.f33,h1,h2,h3]
    ·have h4 : ¬ b = d := fun h => hab ⟨h2, h⟩
     refine zG Tryz.tab Tryz.mixed Tryz.func33 rfl rfl Tryz.ntmps33 (by simp) (by simp) fun Q hr hn=>?_
     repeat' first|(refine hK _ ?_;clear hK)|(refine hK _ _ ?_;clear hK)|(clear hK;refine hK _ ?_;clear hK)|(clear hK;clear hK;refine hK _ ?_;clear hK)|(clear hK;clear hK;clear hK;refine hK _ ?_;clear hK)|(clear hK;clear hK;clear hK;clear hK;refine hK _ ?_;clear hK)|(refine zJ fun K hK=>?_)|((first | refine zH ?_ | refine zN rfl (by kernel_rfl) ?_ | refine zM ?_ | refine zK (by kernel_rfl) ?_);simp only [wK,wJ,strip])|((first | refine wIs fun K hK=>?_ | refine wOs fun K hK=>?_ | refine wQs fun K hK=>?_ | refine zW ?_ | refine zX ?_ | refine zY ?_ | refine zL ?_);simp [hab,h1,h2,h3,h4])|(refine wIn ?_;refine And.intro (by kernel_rfl) ?_;try simp only [zZ])|(first | refine zQ ?_ | refine zS ?_)|((first | refine zI ?_ | refine zO ?_ | refine zP ?_);try simp)|((first | refine zR ?_ | refine wOn ?_ | refine wQn ?_);try simp only [zZ])|(intro _)
     all_goals first | exact hab | skip
     all_goals apply hr
     all_goals simp [Tryz.f33,h1,h2,h3]
   ·refine zG Tryz.tab Tryz.mixed Tryz.func33 rfl rfl Tryz.ntmps33 (by simp) (by simp) fun Q hr hn => ?_
    repeat' first|(refine hK _ ?_;clear hK)|(refine hK _ _ ?_;clear hK)|(clear hK;refine hK _ ?_;clear hK)|(clear hK;clear hK;refine hK _ ?_;clear hK)|(clear hK;clear hK;clear hK;refine hK _ ?_;clear hK)|(clear hK;clear hK;clear hK;clear hK;refine hK _ ?_;clear hK)|(refine zJ fun K hK=>?_)|((first | refine zH ?_ | refine zN rfl (by kernel_rfl) ?_ | refine zM ?_ | refine zK (by kernel_rfl) ?_);simp only [wK,wJ,strip])|((first | refine wIs fun K hK=>?_ | refine wOs fun K hK=>?_ | refine wQs fun K hK=>?_ | refine zW ?_ | refine zX ?_ | refine zY ?_ | refine zL ?_);simp [hab,h1,h2])|(refine wIn ?_;refine And.intro (by kernel_rfl) ?_;try simp only [zZ])|(first | refine zQ ?_ | refine zS ?_)|((first | refine zI ?_ | refine zO ?_ | refine zP ?_);try simp)|((first | refine zR ?_ | refine wOn ?_ | refine wQn ?_);try simp only [zZ])|(intro _)
    all_goals first | exact hab | skip
    all_goals apply hr
    all_goals simp [Tryz.f33,h1,h2]
end Go.Proofs.YtedbbcmokbogpaaGreatDoor
