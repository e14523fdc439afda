/- Texts that the proof needs: SO SP SS1 SS2. -/
import Derived.Test.YtjekjpgccnhobaaDoorP24ConfigParts
import Derived.Test.YtjekjpgccnhobaaDoorP28ConfigParts
import Derived.Test.YtjekjpgccnhobaaDoorP21ConfigParts
namespace Go.Proofs.YtjekjpgccnhobaaDoor
set_option linter.unusedSimpArgs false
set_option linter.unusedVariables false
open Go Go.Av
attribute [local irreducible] Go.Av.xH Go.Av.zU Go.Av.wY Go.Av.zT Go.Av.wZ Go.Av.zV Go.Av.Con
def insM (x : Mb) : List Mb -> List Mb
 | []=>[x]
 | y :: T=>if x.i < y.i then x :: y :: T else y :: insM x T
def yA (l : List Mb) : List Mb := l.foldl (fun T x => insM x T) []
def Ord (l : List Mb) : Prop := l.Pairwise (fun a b => a.i <= b.i)
theorem insM_len (x : Mb) : ∀ T, (insM x T).length = T.length + 1
 | []=>rfl
 | y :: T=>by unfold insM;split <;> simp [insM_len x T]
theorem insM_mem (x z : Mb) : ∀ T, z ∈ insM x T ↔ z = x \/ z ∈ T
 | []=>by simp [insM]
 | y :: T => by
  unfold insM
  split
  ·simp
  ·simp only [List.mem_cons, insM_mem x z T]
   constructor
   ·rintro (h | h | h) <;> simp [h]
   ·rintro (h | h | h) <;> simp [h]
theorem insM_ord (x : Mb) : ∀ T, Ord T -> Ord (insM x T)
 | [],_=>by simp [insM,Ord]
 | y :: T, h => by
  unfold Ord at h
  rw [List.pairwise_cons] at h
  unfold insM
  split
  ·rename_i hx
   unfold Ord
   rw [List.pairwise_cons,List.pairwise_cons]
   refine ⟨fun z hz=>?_,h⟩
   rcases List.mem_cons.1 hz with rfl | hz
   ·omega
   ·have:=h.1 z hz;omega
  ·rename_i hx
   unfold Ord
   rw [List.pairwise_cons]
   refine ⟨fun z hz=>?_,insM_ord x T h.2⟩
   rcases (insM_mem x z T).1 hz with rfl | hz
   ·omega
   ·exact h.1 z hz
theorem insM_split (x : Mb) (B : List Mb) (hB : ∀ y ∈ B, x.i < y.i) : ∀ A : List Mb, (∀ y ∈ A, ¬ x.i < y.i) -> insM x (A ++ B) = A ++ x :: B
 | [], _ => by
  cases B with
  | nil=>rfl
  | cons y B=>simp [insM,hB y (by simp)]
 | y :: A, h => by
  simp only [List.cons_append,insM]
  rw [if_neg (h y (by simp)),insM_split x B hB A fun z hz=>h z (List.mem_cons_of_mem _ hz)]
theorem srtM_snoc (l : List Mb) (x : Mb) : yA (l ++ [x]) = insM x (yA l) := by simp [yA, List.foldl_append]
theorem srtM_spec (l : List Mb) : (yA l).length = l.length /\ Ord (yA l) /\ ∀ z, z ∈ yA l ↔ z ∈ l := by
 have : ∀ (m T : List Mb), Ord T -> (m.foldl (fun T x => insM x T) T).length = T.length + m.length /\ Ord (m.foldl (fun T x => insM x T) T) /\ ∀ z, z ∈ m.foldl (fun T x => insM x T) T ↔ z ∈ T \/ z ∈ m := by
  intro m
  induction m with
  | nil=>intro T h;simp [h]
  | cons x m ih =>
   intro T h
   obtain ⟨h1,h2,h3⟩:=ih (insM x T) (insM_ord x T h)
   simp only [List.foldl_cons]
   refine ⟨by rw [h1,insM_len];simp;omega,h2,fun z=>?_⟩
   rw [h3,insM_mem,List.mem_cons]
   constructor
   ·rintro ((h | h) | h) <;> simp [h]
   ·rintro (h | h | h) <;> simp [h]
 obtain ⟨h1,h2,h3⟩:=this l [] (by simp [Ord])
 exact ⟨by simpa [yA] using h1,h2,fun z=>by have:=h3 z;simpa [yA] using this⟩
theorem srtM_len (l : List Mb) : (yA l).length = l.length := (srtM_spec l).1
def cmpM (a b : Mb) : Int := if a.i < b.i then -1 else if b.i < a.i then 1 else 0
theorem sort1_con (a b : Mb) : zE Tryd.prog 32 [.p (.agg [I a.i, I a.r, I a.w, I a.g]), .p (.agg [I b.i, I b.r, I b.w, I b.g])] (.p (I (cmpM a b))) := by
 unfold cmpM
 by_cases h1 : a.i < b.i
 ·rw [if_pos h1]
  refine zF Tryd.tab Tryd.mixed Tryd.func32 rfl rfl Tryd.ntmps32 (by simp) (by simp) fun Q hr hn=>?_
  repeat' first|(refine hK _ ?_;clear hK)|(refine hK _ _ ?_;clear hK)|(clear hK;refine hK _ ?_;clear hK)|(clear hK;clear hK;refine hK _ ?_;clear hK)|(clear hK;clear hK;clear hK;refine hK _ ?_;clear hK)|(clear hK;clear hK;clear hK;clear hK;refine hK _ ?_;clear hK)|(refine zJ fun K hK=>?_)|((first | refine zH ?_ | refine zN rfl (by kernel_rfl) ?_ | refine zM ?_ | refine zK (by kernel_rfl) ?_);simp only [wX,wW,strip])|((first | refine wIs fun K hK=>?_ | refine wOs fun K hK=>?_ | refine wQs fun K hK=>?_ | refine zW ?_ | refine zX ?_ | refine zY ?_ | refine zL ?_);simp [h1])|(refine wIn ?_;refine And.intro (by kernel_rfl) ?_;try simp only [zZ])|(first | refine zQ ?_ | refine zS ?_)|((first | refine zI ?_ | refine zO ?_ | refine zP ?_);try simp)|((first | refine zR ?_ | refine wOn ?_ | refine wQn ?_);try simp only [zZ])
  all_goals apply hr
  all_goals simp [Tryd.f32]
 ·rw [if_neg h1]
  by_cases h2 : b.i < a.i
  ·rw [if_pos h2]
   refine zF Tryd.tab Tryd.mixed Tryd.func32 rfl rfl Tryd.ntmps32 (by simp) (by simp) fun Q hr hn=>?_
   repeat' first|(refine hK _ ?_;clear hK)|(refine hK _ _ ?_;clear hK)|(clear hK;refine hK _ ?_;clear hK)|(clear hK;clear hK;refine hK _ ?_;clear hK)|(clear hK;clear hK;clear hK;refine hK _ ?_;clear hK)|(clear hK;clear hK;clear hK;clear hK;refine hK _ ?_;clear hK)|(refine zJ fun K hK=>?_)|((first | refine zH ?_ | refine zN rfl (by kernel_rfl) ?_ | refine zM ?_ | refine zK (by kernel_rfl) ?_);simp only [wX,wW,strip])|((first | refine wIs fun K hK=>?_ | refine wOs fun K hK=>?_ | refine wQs fun K hK=>?_ | refine zW ?_ | refine zX ?_ | refine zY ?_ | refine zL ?_);simp [h1,h2])|(refine wIn ?_;refine And.intro (by kernel_rfl) ?_;try simp only [zZ])|(first | refine zQ ?_ | refine zS ?_)|((first | refine zI ?_ | refine zO ?_ | refine zP ?_);try simp)|((first | refine zR ?_ | refine wOn ?_ | refine wQn ?_);try simp only [zZ])
   all_goals apply hr
   all_goals simp [Tryd.f32]
  ·rw [if_neg h2]
   refine zF Tryd.tab Tryd.mixed Tryd.func32 rfl rfl Tryd.ntmps32 (by simp) (by simp) fun Q hr hn=>?_
   repeat' first|(refine hK _ ?_;clear hK)|(refine hK _ _ ?_;clear hK)|(clear hK;refine hK _ ?_;clear hK)|(clear hK;clear hK;refine hK _ ?_;clear hK)|(clear hK;clear hK;clear hK;refine hK _ ?_;clear hK)|(clear hK;clear hK;clear hK;clear hK;refine hK _ ?_;clear hK)|(refine zJ fun K hK=>?_)|((first | refine zH ?_ | refine zN rfl (by kernel_rfl) ?_ | refine zM ?_ | refine zK (by kernel_rfl) ?_);simp only [wX,wW,strip])|((first | refine wIs fun K hK=>?_ | refine wOs fun K hK=>?_ | refine wQs fun K hK=>?_ | refine zW ?_ | refine zX ?_ | refine zY ?_ | refine zL ?_);simp [h1,h2])|(refine wIn ?_;refine And.intro (by kernel_rfl) ?_;try simp only [zZ])|(first | refine zQ ?_ | refine zS ?_)|((first | refine zI ?_ | refine zO ?_ | refine zP ?_);try simp)|((first | refine zR ?_ | refine wOn ?_ | refine wQn ?_);try simp only [zZ])
   all_goals apply hr
   all_goals simp [Tryd.f32]
abbrev cmpV : V := .p (.v (.func (.func 32) #[] #[]))
theorem set2 {α : Type} (A B : List α) (y x : α) (k : Nat) (hk : A.length = k) : ((A ++ y :: x :: B).set (k + 1) y).set k x = A ++ x :: y :: B := by
 subst hk
 rw [List.set_append_right _ _ (by omega),List.set_append_right _ _ (by omega)]
 simp
set_option maxHeartbeats 4000000 in
theorem isort_con (L S : List Mb) (a b : Nat) (P M : List Mb) (hL : L = P ++ (M ++ S)) (ha : a = P.length) (hb : b = P.length + M.length) (hl : L.length <= 1000000) :
 ConW Tryd.prog 45 [.row 1024,.p (I a),.p (I b),cmpV] 30 4 (mbs L) (mbs (P ++ (yA M ++ S))) (.tup []):=by
 have hPl : P.length + (M.length + S.length) <= 1000000:=by rw [hL] at hl;simpa using hl
 have hw0 : IntKind.i64.wrap ((a : Int) + 1) = ((a + 1 : Nat) : Int):=by rw [zG] <;> omega
 refine wBodyW Tryd.tab Tryd.mixed Tryd.func45 rfl rfl Tryd.ntmps45 (by simp) (by simp) rfl rfl fun Q hr hn=>?_
 repeat' first|(refine hK _ ?_;clear hK)|(refine hK _ _ ?_;clear hK)|(clear hK;refine hK _ ?_;clear hK)|(clear hK;clear hK;refine hK _ ?_;clear hK)|(clear hK;clear hK;clear hK;refine hK _ ?_;clear hK)|(clear hK;clear hK;clear hK;clear hK;refine hK _ ?_;clear hK)|(refine zJ fun K hK=>?_)|((first | refine zH ?_ | refine zN rfl (by kernel_rfl) ?_ | refine zM ?_ | refine zK (by kernel_rfl) ?_);simp only [wX,wW,strip])|((first | refine wIs fun K hK=>?_ | refine wOs fun K hK=>?_ | refine wQs fun K hK=>?_ | refine zW ?_ | refine zX ?_ | refine zY ?_ | refine zL ?_);simp [hw0])|(refine wIn ?_;refine And.intro (by kernel_rfl) ?_;try simp only [zZ])|(first | refine zQ ?_ | refine zS ?_)|((first | refine zI ?_ | refine zO ?_ | refine zP ?_);try simp)|((first | refine zR ?_ | refine wOn ?_ | refine wQn ?_);try simp only [zZ])
 refine yB (fun N st=>∃ k i : Nat,1 <= k /\ i = a + k /\ k + N = max 1 M.length /\ st.s 0 = .row 1024 /\ st.s 1 = .p (I a) /\ st.s 2 = .p (I b) /\ st.s 3 = cmpV /\ st.s 8 = .p (I i) /\ st.b 1024 = some (.row 30 4 (mbs (P ++ (yA (M.take k) ++ (M.drop k ++ S)))))) (max 1 M.length - 1) ⟨1,a + 1,by omega,rfl,by omega,?_⟩ fun K N st hL1 ⟨k,i,hk1,hi,hk,g0,g1,g2,g3,g8,b0⟩=>?_
 ·have h1 : yA (M.take 1) ++ (M.drop 1 ++ S) = M ++ S := by
   cases M with
   | nil=>rfl
   | cons m M=>simp [yA,insM]
  rw [h1,<- hL]
  simp
 by_cases hlt : i < b
 ·have hkM : k < M.length := by omega
  have hwi : IntKind.i64.wrap ((i : Int) + 1) = ((i + 1 : Nat) : Int):=by rw [zG] <;> omega
  have hT:=srtM_spec (M.take k)
  have hsn:=srtM_snoc (M.take k) M[k]
  rw [<- take_snoc _ k hkM] at hsn
  rw [List.drop_eq_getElem_cons hkM] at b0
  generalize yA (M.take k) = T at *
  obtain ⟨hTl,hTo,-⟩:=hT
  rw [List.length_take,Nat.min_eq_left (by omega)] at hTl
  generalize M[k] = x at *
  generalize hR : M.drop (k + 1) ++ S = R at *
  rw [List.cons_append,hR] at b0
  repeat' first|(refine hK _ ?_;clear hK)|(refine hK _ _ ?_;clear hK)|(clear hK;refine hK _ ?_;clear hK)|(clear hK;clear hK;refine hK _ ?_;clear hK)|(clear hK;clear hK;clear hK;refine hK _ ?_;clear hK)|(clear hK;clear hK;clear hK;clear hK;refine hK _ ?_;clear hK)|(refine zJ fun K hK=>?_)|((first | refine zH ?_ | refine zN rfl (by kernel_rfl) ?_ | refine zM ?_ | refine zK (by kernel_rfl) ?_);simp only [wX,wW,strip])|((first | refine wIs fun K hK=>?_ | refine wOs fun K hK=>?_ | refine wQs fun K hK=>?_ | refine zW ?_ | refine zX ?_ | refine zY ?_ | refine zL ?_);simp [g0,g1,g2,g3,g8,b0,hlt])|(refine wIn ?_;refine And.intro (by kernel_rfl) ?_;try simp only [zZ])|(first | refine zQ ?_ | refine zS ?_)|((first | refine zI ?_ | refine zO ?_ | refine zP ?_);try simp)|((first | refine zR ?_ | refine wOn ?_ | refine wQn ?_);try simp only [zZ])
  refine yB (fun N st=>∃ p j : Nat,p <= k /\ j = a + p /\ p = N /\ (∀ y ∈ T.drop p,x.i < y.i) /\ st.s 0 = .row 1024 /\ st.s 1 = .p (I a) /\ st.s 2 = .p (I b) /\ st.s 3 = cmpV /\ st.s 8 = .p (I i) /\ st.s 9 = .p (I j) /\ st.b 1024 = some (.row 30 4 (mbs (P ++ (T.take p ++ x :: (T.drop p ++ R)))))) k ⟨k,i,by omega,hi,rfl,?_⟩ fun K' N' st hL2 ⟨p,j,hpk,hj,hpN,hall,g0,g1,g2,g3,g8,g9,b0⟩=>?_
  ·have h1 : T.take k = T := List.take_of_length_le (by omega)
   have h2 : T.drop k = []:=List.drop_of_length_le (by omega)
   rw [h1,h2]
   simp [g0,g1,g2,g3,g8,b0]
  rcases Nat.eq_zero_or_pos p with rfl | hp
  ·have hja : j = a := by omega
   have hfin : T.take 0 ++ x :: (T.drop 0 ++ R) = yA (M.take (k + 1)) ++ R := by
    have:=insM_split x T (by simpa using hall) [] (by simp)
    rw [hsn]
    simp only [List.nil_append] at this
    rw [this];simp
   subst hja
   repeat' first|(refine hK _ ?_;clear hK)|(refine hK _ _ ?_;clear hK)|(clear hK;refine hK _ ?_;clear hK)|(clear hK;clear hK;refine hK _ ?_;clear hK)|(clear hK;clear hK;clear hK;refine hK _ ?_;clear hK)|(clear hK;clear hK;clear hK;clear hK;refine hK _ ?_;clear hK)|(refine zJ fun K hK=>?_)|((first | refine zH ?_ | refine zN rfl (by kernel_rfl) ?_ | refine zM ?_ | refine zK (by kernel_rfl) ?_);simp only [wX,wW,strip])|((first | refine wIs fun K hK=>?_ | refine wOs fun K hK=>?_ | refine wQs fun K hK=>?_ | refine zW ?_ | refine zX ?_ | refine zY ?_ | refine zL ?_);simp [g0,g1,g2,g3,g8,g9,b0,hwi])|(refine wIn ?_;refine And.intro (by kernel_rfl) ?_;try simp only [zZ])|(first | refine zQ ?_ | refine zS ?_)|((first | refine zI ?_ | refine zO ?_ | refine zP ?_);try simp)|((first | refine zR ?_ | refine wOn ?_ | refine wQn ?_);try simp only [zZ])
   refine hL1 _ (N - 1) (by omega) ⟨k + 1,i + 1,by omega,by omega,by omega,?_⟩
   rw [hfin,<- hR] at b0
   simp [g0,g1,g2,g3,g8,b0,hwi]
  ·obtain ⟨q, rfl⟩ : ∃ q, p = q + 1 := ⟨p - 1, by omega⟩
   have hqT : q < T.length:=by omega
   have hjq : j = (a + q) + 1:=by omega
   obtain ⟨j',hj'⟩ : ∃ j',j' = a + q:=⟨_,rfl⟩
   have hjj : j = j' + 1:=by omega
   have hwj : IntKind.i64.wrap ((j : Int) - 1) = (j' : Int):=by rw [zG] <;> omega
   have hja : (a : Int) < j:=by omega
   have hc:=sort1_con x T[q]
   have hct : (cmpM x T[q] < 0) ↔ x.i < T[q].i:=by unfold cmpM;split <;> (try split) <;> omega
   generalize cmpM x T[q] = z at hc hct
   have hs1 : T.take (q + 1) = T.take q ++ [T[q]]:=take_snoc _ q hqT
   have hs2 : T.drop q = T[q] :: T.drop (q + 1):=List.drop_eq_getElem_cons hqT
   obtain ⟨LL,hLL⟩ : ∃ LL,LL = P ++ (T.take (q + 1) ++ x :: (T.drop (q + 1) ++ R)):=⟨_,rfl⟩
   have hLL' : LL = (P ++ T.take q) ++ T[q] :: x :: (T.drop (q + 1) ++ R):=by rw [hLL,hs1];simp only [List.append_assoc,List.cons_append,List.nil_append]
   have hAl : (P ++ T.take q).length = j':=by rw [List.length_append,List.length_take,Nat.min_eq_left (by omega)];omega
   have hset:=set2 (P ++ T.take q) (T.drop (q + 1) ++ R) T[q] x j' hAl
   have hset' : ((mbs LL).set j [I T[q].i, I T[q].r, I T[q].w, I T[q].g]).set j' [I x.i, I x.r, I x.w, I x.g] = mbs (P ++ (T.take q ++ x :: (T.drop q ++ R))) := by
    have : ((mbs LL).set j [I T[q].i,I T[q].r,I T[q].w,I T[q].g]).set j' [I x.i,I x.r,I x.w,I x.g] = mbs ((LL.set j T[q]).set j' x):=by simp [mbs,Mb.cells,List.map_set]
    rw [this,hjj,hLL',hset,hs2];simp only [List.append_assoc,List.cons_append,List.nil_append]
   have hLLl : j < LL.length:=by rw [hLL',List.length_append,hAl];simp;omega
   have hLLj : j' < LL.length:=by omega
   have hgx : LL[j] = x := by
    have : LL[j]? = some x:=by rw [hLL',List.getElem?_append_right (by omega),hAl,show j - j' = 1 by omega];rfl
    rw [List.getElem?_eq_getElem hLLl] at this;exact Option.some.inj this
   have hgy : LL[j'] = T[q] := by
    have : LL[j']? = some T[q]:=by rw [hLL',List.getElem?_append_right (by omega),hAl,show j' - j' = 0 by omega];rfl
    rw [List.getElem?_eq_getElem hLLj] at this;exact Option.some.inj this
   have hTq : T[q] ∈ T.drop q:=by rw [hs2];exact List.mem_cons_self
   have hne : ¬ j = j':=by omega
   generalize T[q] = y at *
   rw [<- hLL] at b0
   by_cases ho : x.i < y.i
   ·have hz : z < 0 := hct.2 ho
    repeat' first|(refine zU.pure (hc) rfl ?_)|(refine zU.lent (hc) rfl ?_)|(refine zT.pure (hc) rfl ?_)|(refine zT.lent (hc) rfl ?_)|(refine zU.own (hc) ?_)|(refine zV.pure (hc) rfl ?_)|(refine zV.lent (hc) rfl ?_)|(refine zV.own (hc) ?_)|(refine hK _ ?_;clear hK)|(refine hK _ _ ?_;clear hK)|(clear hK;refine hK _ ?_;clear hK)|(clear hK;clear hK;refine hK _ ?_;clear hK)|(clear hK;clear hK;clear hK;refine hK _ ?_;clear hK)|(clear hK;clear hK;clear hK;clear hK;refine hK _ ?_;clear hK)|(refine zJ fun K hK=>?_)|((first | refine zH ?_ | refine zN rfl (by kernel_rfl) ?_ | refine zM ?_ | refine zK (by kernel_rfl) ?_);simp only [wX,wW,strip])|((first | refine wIs fun K hK=>?_ | refine wOs fun K hK=>?_ | refine wQs fun K hK=>?_ | refine zW ?_ | refine zX ?_ | refine zY ?_ | refine zL ?_);simp [g0,g1,g2,g3,g8,g9,b0,hwj,hja,hgx,hgy,hLLl,hLLj,hz,hne,List.getElem_set])|(refine wIn ?_;refine And.intro (by kernel_rfl) ?_;try simp only [zZ])|(first | refine zQ ?_ | refine zS ?_)|((first | refine zI ?_ | refine zO ?_ | refine zP ?_);try simp)|((first | refine zR ?_ | refine wOn ?_ | refine wQn ?_);try simp only [zZ])
    refine hL2 _ q (by omega) ⟨q,j',by omega,hj',rfl,?_,?_⟩
    ·intro y' hy
     rw [hs2] at hy
     rcases List.mem_cons.1 hy with rfl | hy
     ·exact ho
     ·exact hall _ hy
    ·simp [g0,g1,g2,g3,g8,b0,hwj,hset']
   ·have hz : ¬ z < 0 := fun h => ho (hct.1 h)
    have hfin : T.take (q + 1) ++ x :: (T.drop (q + 1) ++ R) = yA (M.take (k + 1)) ++ R := by
     have hA : ∀ y' ∈ T.take (q + 1), ¬ x.i < y'.i := fun y' hy => by
      rw [hs1] at hy
      have hp:=hTo
      unfold Ord at hp
      rw [<- List.take_append_drop q T] at hp
      rcases List.mem_append.1 hy with hy | hy
      ·have := (List.pairwise_append.1 hp).2.2 y' hy y hTq
       omega
      ·rw [List.mem_singleton.1 hy];exact ho
     have:=insM_split x (T.drop (q + 1)) hall (T.take (q + 1)) hA
     rw [List.take_append_drop] at this
     rw [hsn,this];simp only [List.append_assoc,List.cons_append,List.nil_append]
    repeat' first|(refine zU.pure (hc) rfl ?_)|(refine zU.lent (hc) rfl ?_)|(refine zT.pure (hc) rfl ?_)|(refine zT.lent (hc) rfl ?_)|(refine zU.own (hc) ?_)|(refine zV.pure (hc) rfl ?_)|(refine zV.lent (hc) rfl ?_)|(refine zV.own (hc) ?_)|(refine hK _ ?_;clear hK)|(refine hK _ _ ?_;clear hK)|(clear hK;refine hK _ ?_;clear hK)|(clear hK;clear hK;refine hK _ ?_;clear hK)|(clear hK;clear hK;clear hK;refine hK _ ?_;clear hK)|(clear hK;clear hK;clear hK;clear hK;refine hK _ ?_;clear hK)|(refine zJ fun K hK=>?_)|((first | refine zH ?_ | refine zN rfl (by kernel_rfl) ?_ | refine zM ?_ | refine zK (by kernel_rfl) ?_);simp only [wX,wW,strip])|((first | refine wIs fun K hK=>?_ | refine wOs fun K hK=>?_ | refine wQs fun K hK=>?_ | refine zW ?_ | refine zX ?_ | refine zY ?_ | refine zL ?_);simp [g0,g1,g2,g3,g8,g9,b0,hwj,hja,hgx,hgy,hLLl,hLLj,hz,hwi])|(refine wIn ?_;refine And.intro (by kernel_rfl) ?_;try simp only [zZ])|(first | refine zQ ?_ | refine zS ?_)|((first | refine zI ?_ | refine zO ?_ | refine zP ?_);try simp)|((first | refine zR ?_ | refine wOn ?_ | refine wQn ?_);try simp only [zZ])
    refine hL1 _ (N - 1) (by omega) ⟨k + 1,i + 1,by omega,by omega,by omega,?_⟩
    rw [hLL,hfin,<- hR] at b0
    simp [g0,g1,g2,g3,g8,b0,hwi]
 ·have hkM : M.take k = M := List.take_of_length_le (by omega)
  have hkD : M.drop k = []:=List.drop_of_length_le (by omega)
  rw [hkM,hkD] at b0
  repeat' first|(refine hK _ ?_;clear hK)|(refine hK _ _ ?_;clear hK)|(clear hK;refine hK _ ?_;clear hK)|(clear hK;clear hK;refine hK _ ?_;clear hK)|(clear hK;clear hK;clear hK;refine hK _ ?_;clear hK)|(clear hK;clear hK;clear hK;clear hK;refine hK _ ?_;clear hK)|(refine zJ fun K hK=>?_)|((first | refine zH ?_ | refine zN rfl (by kernel_rfl) ?_ | refine zM ?_ | refine zK (by kernel_rfl) ?_);simp only [wX,wW,strip])|((first | refine wIs fun K hK=>?_ | refine wOs fun K hK=>?_ | refine wQs fun K hK=>?_ | refine zW ?_ | refine zX ?_ | refine zY ?_ | refine zL ?_);simp [g0,g1,g2,g3,g8,b0,hlt])|(refine wIn ?_;refine And.intro (by kernel_rfl) ?_;try simp only [zZ])|(first | refine zQ ?_ | refine zS ?_)|((first | refine zI ?_ | refine zO ?_ | refine zP ?_);try simp)|((first | refine zR ?_ | refine wOn ?_ | refine wQn ?_);try simp only [zZ])
  refine hn _ ⟨[],by simp,by simp,?_⟩ (by simp [g0]) (by simp [b0])
  simp [Tryd.f45,outR,outB,yP,b0]
end Go.Proofs.YtjekjpgccnhobaaDoor
namespace Go.Proofs.YtjekjpgccnhobaaDoor
set_option linter.unusedSimpArgs false
set_option linter.unusedVariables false
set_option maxRecDepth 8000
open Go Go.Av
attribute [local irreducible] Go.Av.xH Go.Av.zU Go.Av.wY Go.Av.zT Go.Av.wZ Go.Av.zV Go.Av.Con
theorem stable_con (l : List Mb) (hl : l.length <= 20) : ConW Tryd.prog 37 [.row 1024, .p (I l.length), cmpV] 30 4 (mbs l) (mbs (yA l)) (.tup []) := by
 by_cases h20 : l.length = 20
 ·have c1 := isort_con l [] 0 20 [] l (by simp) (by simp) (by simp [h20]) (by omega)
  have c2:=isort_con (yA l) [] 20 20 (yA l) [] (by simp) (by rw [srtM_len,h20]) (by simp [srtM_len,h20]) (by rw [srtM_len];omega)
  rw [h20]
  simp only [List.nil_append,List.append_nil] at c1 c2
  have hw1 : IntKind.i64.wrap 40 = 40:=by rw [zG] <;> omega
  have hw2 : IntKind.i64.wrap 60 = 60:=by rw [zG] <;> omega
  rw [show yA ([] : List Mb) = [] from rfl,List.append_nil] at c2
  refine wBodyW Tryd.tab Tryd.mixed Tryd.func37 rfl rfl Tryd.ntmps37 (by simp) (by simp) rfl rfl fun Q hr hn=>?_
  repeat' first|(refine hK _ ?_;clear hK)|(refine hK _ _ ?_;clear hK)|(clear hK;refine hK _ ?_;clear hK)|(clear hK;clear hK;refine hK _ ?_;clear hK)|(clear hK;clear hK;clear hK;refine hK _ ?_;clear hK)|(clear hK;clear hK;clear hK;clear hK;refine hK _ ?_;clear hK)|(refine zJ fun K hK=>?_)|((first | refine zH ?_ | refine zN rfl (by kernel_rfl) ?_ | refine zM ?_ | refine zK (by kernel_rfl) ?_);simp only [wX,wW,strip])|((first | refine wIs fun K hK=>?_ | refine wOs fun K hK=>?_ | refine wQs fun K hK=>?_ | refine zW ?_ | refine zX ?_ | refine zY ?_ | refine zL ?_);simp)|(refine wIn ?_;refine And.intro (by kernel_rfl) ?_;try simp only [zZ])|(first | refine zQ ?_ | refine zS ?_)|((first | refine zI ?_ | refine zO ?_ | refine zP ?_);try simp)|((first | refine zR ?_ | refine wOn ?_ | refine wQn ?_);try simp only [zZ])
  refine yB (fun N st=>∃ L : List Mb,(N = 1 /\ st.s 7 = .p (I 0) /\ st.s 8 = .p (I 20) /\ L = l \/ N = 0 /\ st.s 7 = .p (I 20) /\ st.s 8 = .p (I 40) /\ L = yA l) /\ st.s 0 = .row 1024 /\ st.s 1 = .p (I 20) /\ st.s 2 = cmpV /\ st.s 6 = .p (I 20) /\ st.b 1024 = some (.row 30 4 (mbs L))) 1 ⟨l,by simp⟩ fun K N st hL ⟨L,hc,g0,g1,g2,g6,b0⟩=>?_
  rcases hc with ⟨rfl,g7,g8,rfl⟩ | ⟨rfl,g7,g8,rfl⟩
  ·repeat' first | (refine yX 1024 (c1) (by simp [b0]) (by simp [yO, argG, yY, inN, pos, yF, renC, b0]) rfl ?_; simp [b0]) | (refine hK _ ?_; clear hK) | (refine hK _ _ ?_; clear hK) | (clear hK; refine hK _ ?_; clear hK) | (clear hK; clear hK; refine hK _ ?_; clear hK) | (clear hK; clear hK; clear hK; refine hK _ ?_; clear hK) | (clear hK; clear hK; clear hK; clear hK; refine hK _ ?_; clear hK) | (refine zJ fun K hK => ?_) | ((first | refine zH ?_ | refine zN rfl (by kernel_rfl) ?_ | refine zM ?_ | refine zK (by kernel_rfl) ?_); simp only [wX, wW, strip]) | ((first | refine wIs fun K hK => ?_ | refine wOs fun K hK => ?_ | refine wQs fun K hK => ?_ | refine zW ?_ | refine zX ?_ | refine zY ?_ | refine zL ?_); simp [g0, g1, g2, g6, g7, g8, b0, hw1, hw2]) | (refine wIn ?_; refine And.intro (by kernel_rfl) ?_; try simp only [zZ]) | (first | refine zQ ?_ | refine zS ?_) | ((first | refine zI ?_ | refine zO ?_ | refine zP ?_); try simp) | ((first | refine zR ?_ | refine wOn ?_ | refine wQn ?_); try simp only [zZ])
   refine hL _ 0 (by omega) ⟨yA L,Or.inr ⟨rfl,?_⟩,?_⟩
   ·simp [g0,g1,g2,g6,g7,g8,b0]
   ·simp [g0,g1,g2,g6,g7,g8,b0]
  ·repeat' first | (refine yX 1024 (c2) (by simp [b0]) (by simp [yO, argG, yY, inN, pos, yF, renC, b0]) rfl ?_; simp [b0]) | (refine hK _ ?_; clear hK) | (refine hK _ _ ?_; clear hK) | (clear hK; refine hK _ ?_; clear hK) | (clear hK; clear hK; refine hK _ ?_; clear hK) | (clear hK; clear hK; clear hK; refine hK _ ?_; clear hK) | (clear hK; clear hK; clear hK; clear hK; refine hK _ ?_; clear hK) | (refine zJ fun K hK => ?_) | ((first | refine zH ?_ | refine zN rfl (by kernel_rfl) ?_ | refine zM ?_ | refine zK (by kernel_rfl) ?_); simp only [wX, wW, strip]) | ((first | refine wIs fun K hK => ?_ | refine wOs fun K hK => ?_ | refine wQs fun K hK => ?_ | refine zW ?_ | refine zX ?_ | refine zY ?_ | refine zL ?_); simp [g0, g1, g2, g6, g7, g8, b0, hw1, hw2]) | (refine wIn ?_; refine And.intro (by kernel_rfl) ?_; try simp only [zZ]) | (first | refine zQ ?_ | refine zS ?_) | ((first | refine zI ?_ | refine zO ?_ | refine zP ?_); try simp) | ((first | refine zR ?_ | refine wOn ?_ | refine wQn ?_); try simp only [zZ])
   refine yB (fun N st=>st.s 0 = .row 1024 /\ st.s 1 = .p (I 20) /\ st.s 6 = .p (I 20) /\ st.b 1024 = some (.row 30 4 (mbs (yA l)))) 0 (by simp [g0,g1,g6,b0]) fun K N st hL2 ⟨g0,g1,g6,b0⟩=>?_
   repeat' first|(refine hK _ ?_;clear hK)|(refine hK _ _ ?_;clear hK)|(clear hK;refine hK _ ?_;clear hK)|(clear hK;clear hK;refine hK _ ?_;clear hK)|(clear hK;clear hK;clear hK;refine hK _ ?_;clear hK)|(clear hK;clear hK;clear hK;clear hK;refine hK _ ?_;clear hK)|(refine zJ fun K hK=>?_)|((first | refine zH ?_ | refine zN rfl (by kernel_rfl) ?_ | refine zM ?_ | refine zK (by kernel_rfl) ?_);simp only [wX,wW,strip])|((first | refine wIs fun K hK=>?_ | refine wOs fun K hK=>?_ | refine wQs fun K hK=>?_ | refine zW ?_ | refine zX ?_ | refine zY ?_ | refine zL ?_);simp [g0,g1,g6,b0])|(refine wIn ?_;refine And.intro (by kernel_rfl) ?_;try simp only [zZ])|(first | refine zQ ?_ | refine zS ?_)|((first | refine zI ?_ | refine zO ?_ | refine zP ?_);try simp)|((first | refine zR ?_ | refine wOn ?_ | refine wQn ?_);try simp only [zZ])
   refine hn _ ⟨[],by simp,by simp,?_⟩ (by simp [g0]) (by simp [b0])
   simp [Tryd.f37,outR,outB,yP,b0]
 ·have hlt : l.length < 20 := by omega
  have hlt1 : (l.length : Int) < 20:=by omega
  have hlt2 : ¬ (20 : Int) < l.length:=by omega
  have hlt3 : ¬ (20 : Int) <= l.length:=by omega
  have c1:=isort_con l [] 0 l.length [] l (by simp) (by simp) (by simp) (by omega)
  simp only [List.nil_append,List.append_nil] at c1
  refine wBodyW Tryd.tab Tryd.mixed Tryd.func37 rfl rfl Tryd.ntmps37 (by simp) (by simp) rfl rfl fun Q hr hn=>?_
  repeat' first|(refine hK _ ?_;clear hK)|(refine hK _ _ ?_;clear hK)|(clear hK;refine hK _ ?_;clear hK)|(clear hK;clear hK;refine hK _ ?_;clear hK)|(clear hK;clear hK;clear hK;refine hK _ ?_;clear hK)|(clear hK;clear hK;clear hK;clear hK;refine hK _ ?_;clear hK)|(refine zJ fun K hK=>?_)|((first | refine zH ?_ | refine zN rfl (by kernel_rfl) ?_ | refine zM ?_ | refine zK (by kernel_rfl) ?_);simp only [wX,wW,strip])|((first | refine wIs fun K hK=>?_ | refine wOs fun K hK=>?_ | refine wQs fun K hK=>?_ | refine zW ?_ | refine zX ?_ | refine zY ?_ | refine zL ?_);simp)|(refine wIn ?_;refine And.intro (by kernel_rfl) ?_;try simp only [zZ])|(first | refine zQ ?_ | refine zS ?_)|((first | refine zI ?_ | refine zO ?_ | refine zP ?_);try simp)|((first | refine zR ?_ | refine wOn ?_ | refine wQn ?_);try simp only [zZ])
  refine yB (fun N st=>st.s 0 = .row 1024 /\ st.s 1 = .p (I l.length) /\ st.s 2 = cmpV /\ st.s 6 = .p (I 20) /\ st.s 7 = .p (I 0) /\ st.s 8 = .p (I 20) /\ st.b 1024 = some (.row 30 4 (mbs l))) 0 (by simp) fun K N st hL ⟨g0,g1,g2,g6,g7,g8,b0⟩=>?_
  repeat' first|(refine yX 1024 (c1) (by simp [b0]) (by simp [yO,argG,yY,inN,pos,yF,renC,b0]) rfl ?_;simp [b0])|(refine hK _ ?_;clear hK)|(refine hK _ _ ?_;clear hK)|(clear hK;refine hK _ ?_;clear hK)|(clear hK;clear hK;refine hK _ ?_;clear hK)|(clear hK;clear hK;clear hK;refine hK _ ?_;clear hK)|(clear hK;clear hK;clear hK;clear hK;refine hK _ ?_;clear hK)|(refine zJ fun K hK=>?_)|((first | refine zH ?_ | refine zN rfl (by kernel_rfl) ?_ | refine zM ?_ | refine zK (by kernel_rfl) ?_);simp only [wX,wW,strip])|((first | refine wIs fun K hK=>?_ | refine wOs fun K hK=>?_ | refine wQs fun K hK=>?_ | refine zW ?_ | refine zX ?_ | refine zY ?_ | refine zL ?_);simp [g0,g1,g2,g6,g7,g8,b0,hlt3])|(refine wIn ?_;refine And.intro (by kernel_rfl) ?_;try simp only [zZ])|(first | refine zQ ?_ | refine zS ?_)|((first | refine zI ?_ | refine zO ?_ | refine zP ?_);try simp)|((first | refine zR ?_ | refine wOn ?_ | refine wQn ?_);try simp only [zZ])
  refine yB (fun N st=>st.s 0 = .row 1024 /\ st.s 1 = .p (I l.length) /\ st.s 6 = .p (I 20) /\ st.b 1024 = some (.row 30 4 (mbs (yA l)))) 0 (by simp [g0,g1,g6,b0]) fun K N st hL2 ⟨g0,g1,g6,b0⟩=>?_
  repeat' first|(refine hK _ ?_;clear hK)|(refine hK _ _ ?_;clear hK)|(clear hK;refine hK _ ?_;clear hK)|(clear hK;clear hK;refine hK _ ?_;clear hK)|(clear hK;clear hK;clear hK;refine hK _ ?_;clear hK)|(clear hK;clear hK;clear hK;clear hK;refine hK _ ?_;clear hK)|(refine zJ fun K hK=>?_)|((first | refine zH ?_ | refine zN rfl (by kernel_rfl) ?_ | refine zM ?_ | refine zK (by kernel_rfl) ?_);simp only [wX,wW,strip])|((first | refine wIs fun K hK=>?_ | refine wOs fun K hK=>?_ | refine wQs fun K hK=>?_ | refine zW ?_ | refine zX ?_ | refine zY ?_ | refine zL ?_);simp [g0,g1,g6,b0,hlt2])|(refine wIn ?_;refine And.intro (by kernel_rfl) ?_;try simp only [zZ])|(first | refine zQ ?_ | refine zS ?_)|((first | refine zI ?_ | refine zO ?_ | refine zP ?_);try simp)|((first | refine zR ?_ | refine wOn ?_ | refine wQn ?_);try simp only [zZ])
  refine hn _ ⟨[],by simp,by simp,?_⟩ (by simp [g0]) (by simp [b0])
  simp [Tryd.f37,outR,outB,yP,b0]
theorem sortS_con (l : List Mb) (hl : l.length <= 20) : ConW Tryd.prog 31 [.row 1024, cmpV] 30 4 (mbs l) (mbs (yA l)) (.tup []) := by
 have c1:=stable_con l hl
 refine wBodyW Tryd.tab Tryd.mixed Tryd.func31 rfl rfl Tryd.ntmps31 (by simp) (by simp) rfl rfl fun Q hr hn=>?_
 repeat' first|(refine yX 1024 (c1) (by simp [List.length_map]) (by simp [yO,argG,yY,inN,pos,yF,renC,List.length_map]) rfl ?_;simp [List.length_map])|(refine hK _ ?_;clear hK)|(refine hK _ _ ?_;clear hK)|(clear hK;refine hK _ ?_;clear hK)|(clear hK;clear hK;refine hK _ ?_;clear hK)|(clear hK;clear hK;clear hK;refine hK _ ?_;clear hK)|(clear hK;clear hK;clear hK;clear hK;refine hK _ ?_;clear hK)|(refine zJ fun K hK=>?_)|((first | refine zH ?_ | refine zN rfl (by kernel_rfl) ?_ | refine zM ?_ | refine zK (by kernel_rfl) ?_);simp only [wX,wW,strip])|((first | refine wIs fun K hK=>?_ | refine wOs fun K hK=>?_ | refine wQs fun K hK=>?_ | refine zW ?_ | refine zX ?_ | refine zY ?_ | refine zL ?_);simp)|(refine wIn ?_;refine And.intro (by kernel_rfl) ?_;try simp only [zZ])|(first | refine zQ ?_ | refine zS ?_)|((first | refine zI ?_ | refine zO ?_ | refine zP ?_);try simp)|((first | refine zR ?_ | refine wOn ?_ | refine wQn ?_);try simp only [zZ])
 refine hn _ ⟨[],by simp,by simp,?_⟩ (by simp) (by simp)
 simp [Tryd.f31,outR,outB,yP]
theorem sort_con (l : List Mb) (hl : l.length <= 20) : Con Tryd.prog 18 [.p (.sl 4 (mbs l))] [] (.ret (.row 2048) [.row 30 4 (mbs (yA l))] []) := by
 have c0:=clone_ok (c:=4) (g:=30) rfl (mbs l) (by simp;omega)
 have c1:=sortS_con l hl
 refine wBodyG Tryd.tab Tryd.mixed Tryd.func18 rfl rfl Tryd.ntmps18 (by simp) (by simp) fun Q hr hn hp=>?_
 repeat' first|(refine zU.pure (c0) rfl ?_)|(refine zU.lent (c0) rfl ?_)|(refine zT.pure (c0) rfl ?_)|(refine zT.lent (c0) rfl ?_)|(refine zU.own (c0) ?_)|(refine zV.pure (c0) rfl ?_)|(refine zV.lent (c0) rfl ?_)|(refine zV.own (c0) ?_)|(refine yX 5 (c1) (by simp [List.length_map]) (by simp [yO,argG,yY,inN,pos,yF,renC,List.length_map]) rfl ?_;simp [List.length_map])|(refine hK _ ?_;clear hK)|(refine hK _ _ ?_;clear hK)|(clear hK;refine hK _ ?_;clear hK)|(clear hK;clear hK;refine hK _ ?_;clear hK)|(clear hK;clear hK;clear hK;refine hK _ ?_;clear hK)|(clear hK;clear hK;clear hK;clear hK;refine hK _ ?_;clear hK)|(refine zJ fun K hK=>?_)|((first | refine zH ?_ | refine zN rfl (by kernel_rfl) ?_ | refine zM ?_ | refine zK (by kernel_rfl) ?_);simp only [wX,wW,strip])|((first | refine wIs fun K hK=>?_ | refine wOs fun K hK=>?_ | refine wQs fun K hK=>?_ | refine zW ?_ | refine zX ?_ | refine zY ?_ | refine zL ?_);simp)|(refine wIn ?_;refine And.intro (by kernel_rfl) ?_;try simp only [zZ])|(first | refine zQ ?_ | refine zS ?_)|((first | refine zI ?_ | refine zO ?_ | refine zP ?_);try simp)|((first | refine zR ?_ | refine wOn ?_ | refine wQn ?_);try simp only [zZ])
 all_goals first | apply hn | apply hr
 all_goals refine ⟨[5],by simp,by simp,?_⟩
 all_goals simp [Tryd.f18,outR,outB,yP]
def mz : Mb := ⟨0, 0, 0, 0⟩
def swp (L : List Mb) (i j : Nat) : List Mb := (L.set i (L.getD j mz)).set j (L.getD i mz)
@[simp] theorem swp_len (L : List Mb) (i j : Nat) : (swp L i j).length = L.length := by simp [swp]
theorem mbs_set2 {L : List Mb} {i j : Nat} (hi : i < L.length) (hj : j < L.length) : ((mbs L).set i [I L[j].i, I L[j].r, I L[j].w, I L[j].g]).set j [I L[i].i, I L[i].r, I L[i].w, I L[i].g] = mbs (swp L i j) := by
 have e1 : L.getD j mz = L[j]:=by rw [List.getD_eq_getElem?_getD,List.getElem?_eq_getElem hj];rfl
 have e2 : L.getD i mz = L[i]:=by rw [List.getD_eq_getElem?_getD,List.getElem?_eq_getElem hi];rfl
 unfold swp
 rw [e1,e2]
 simp [mbs,Mb.cells,List.map_set]
def swR (L : List Mb) (a b : Nat) : Nat -> List Mb
 | 0=>L
 | n + 1=>swp (swR L a b n) (a + n) (b + n)
@[simp] theorem swR_len (L : List Mb) (a b : Nat) : ∀ n, (swR L a b n).length = L.length
 | 0=>rfl
 | n + 1=>by rw [swR,swp_len,swR_len L a b n]
set_option maxHeartbeats 4000000 in
theorem swap_con (L : List Mb) (a b n : Nat) (hab : a < b) (hb : b + n <= L.length) (hl : L.length <= 1000000) :
 ConW Tryd.prog 62 [.row 1024,.p (I a),.p (I b),.p (I n),cmpV] 30 4 (mbs L) (mbs (swR L a b n)) (.tup []):=by
 refine wBodyW Tryd.tab Tryd.mixed Tryd.func62 rfl rfl Tryd.ntmps62 (by simp) (by simp) rfl rfl fun Q hr hn=>?_
 repeat' first|(refine hK _ ?_;clear hK)|(refine hK _ _ ?_;clear hK)|(clear hK;refine hK _ ?_;clear hK)|(clear hK;clear hK;refine hK _ ?_;clear hK)|(clear hK;clear hK;clear hK;refine hK _ ?_;clear hK)|(clear hK;clear hK;clear hK;clear hK;refine hK _ ?_;clear hK)|(refine zJ fun K hK=>?_)|((first | refine zH ?_ | refine zN rfl (by kernel_rfl) ?_ | refine zM ?_ | refine zK (by kernel_rfl) ?_);simp only [wX,wW,strip])|((first | refine wIs fun K hK=>?_ | refine wOs fun K hK=>?_ | refine wQs fun K hK=>?_ | refine zW ?_ | refine zX ?_ | refine zY ?_ | refine zL ?_);simp)|(refine wIn ?_;refine And.intro (by kernel_rfl) ?_;try simp only [zZ])|(first | refine zQ ?_ | refine zS ?_)|((first | refine zI ?_ | refine zO ?_ | refine zP ?_);try simp)|((first | refine zR ?_ | refine wOn ?_ | refine wQn ?_);try simp only [zZ])
 refine yB (fun N st=>∃ k : Nat,k + N = n /\ st.s 0 = .row 1024 /\ st.s 1 = .p (I a) /\ st.s 2 = .p (I b) /\ st.s 3 = .p (I n) /\ st.s 10 = .p (I k) /\ st.b 1024 = some (.row 30 4 (mbs (swR L a b k)))) n ⟨0,by omega,by simp [swR]⟩ fun K N st hL ⟨k,hk,g0,g1,g2,g3,g10,b0⟩=>?_
 by_cases hlt : k < n
 ·have hlt' : (k : Int) < n := by omega
  have hw:=wrapS k n hlt (by omega)
  have hw1 : IntKind.i64.wrap ((a : Int) + k) = ((a + k : Nat) : Int):=by rw [zG] <;> omega
  have hw2 : IntKind.i64.wrap ((b : Int) + k) = ((b + k : Nat) : Int):=by rw [zG] <;> omega
  have hLen:=swR_len L a b k
  have hnx : swR L a b (k + 1) = swp (swR L a b k) (a + k) (b + k):=rfl
  generalize swR L a b k = X at *
  have hi : a + k < X.length:=by omega
  have hj : b + k < X.length:=by omega
  have hne : ¬ a + k = b + k:=by omega
  have hs:=mbs_set2 hi hj
  rw [<- hnx] at hs
  clear hLen
  generalize a + k = i at *
  generalize b + k = j at *
  generalize hx : X[i] = x at hs
  generalize hy : X[j] = y at hs
  repeat' first|(refine hK _ ?_;clear hK)|(refine hK _ _ ?_;clear hK)|(clear hK;refine hK _ ?_;clear hK)|(clear hK;clear hK;refine hK _ ?_;clear hK)|(clear hK;clear hK;clear hK;refine hK _ ?_;clear hK)|(clear hK;clear hK;clear hK;clear hK;refine hK _ ?_;clear hK)|(refine zJ fun K hK=>?_)|((first | refine zH ?_ | refine zN rfl (by kernel_rfl) ?_ | refine zM ?_ | refine zK (by kernel_rfl) ?_);simp only [wX,wW,strip])|((first | refine wIs fun K hK=>?_ | refine wOs fun K hK=>?_ | refine wQs fun K hK=>?_ | refine zW ?_ | refine zX ?_ | refine zY ?_ | refine zL ?_);simp [g0,g1,g2,g3,g10,b0,hlt,hlt',hw,hw1,hw2,hi,hj,hx,hy,hne])|(refine wIn ?_;refine And.intro (by kernel_rfl) ?_;try simp only [zZ])|(first | refine zQ ?_ | refine zS ?_)|((first | refine zI ?_ | refine zO ?_ | refine zP ?_);try simp)|((first | refine zR ?_ | refine wOn ?_ | refine wQn ?_);try simp only [zZ])
  refine hL _ (N - 1) (by omega) ⟨k + 1,by omega,?_⟩
  simp [g0,g1,g2,g3,g10,b0,hw,hs]
 ·have hlt' : ¬ (k : Int) < n := by omega
  have hkn : k = n:=by omega
  subst hkn
  repeat' first|(refine hK _ ?_;clear hK)|(refine hK _ _ ?_;clear hK)|(clear hK;refine hK _ ?_;clear hK)|(clear hK;clear hK;refine hK _ ?_;clear hK)|(clear hK;clear hK;clear hK;refine hK _ ?_;clear hK)|(clear hK;clear hK;clear hK;clear hK;refine hK _ ?_;clear hK)|(refine zJ fun K hK=>?_)|((first | refine zH ?_ | refine zN rfl (by kernel_rfl) ?_ | refine zM ?_ | refine zK (by kernel_rfl) ?_);simp only [wX,wW,strip])|((first | refine wIs fun K hK=>?_ | refine wOs fun K hK=>?_ | refine wQs fun K hK=>?_ | refine zW ?_ | refine zX ?_ | refine zY ?_ | refine zL ?_);simp [g0,g1,g2,g3,g10,b0,hlt,hlt'])|(refine wIn ?_;refine And.intro (by kernel_rfl) ?_;try simp only [zZ])|(first | refine zQ ?_ | refine zS ?_)|((first | refine zI ?_ | refine zO ?_ | refine zP ?_);try simp)|((first | refine zR ?_ | refine wOn ?_ | refine wQn ?_);try simp only [zZ])
  refine hn _ ⟨[],by simp,by simp,?_⟩ (by simp [g0]) (by simp [b0])
  simp [Tryd.f62,outR,outB,yP,b0]
def rotM (m : Nat) : Nat -> List Mb -> Nat -> Nat -> List Mb
 | 0,L,_,_=>L
 | f + 1,L,i,j=>if i = j then swR L (m - i) m i else if j < i then rotM m f (swR L (m - i) m j) (i - j) j else rotM m f (swR L (m - i) (m + j - i) i) i (j - i)
@[simp] theorem rotM_len (m : Nat) : ∀ (f : Nat) (L : List Mb) (i j : Nat), (rotM m f L i j).length = L.length
 | 0,_,_,_=>rfl
 | f + 1, L, i, j => by
  rw [rotM]
  split
  ·simp
  split
  ·rw [rotM_len m f,swR_len]
  ·rw [rotM_len m f,swR_len]
set_option maxHeartbeats 4000000 in
theorem rotate_con (L : List Mb) (a m b : Nat) (h1 : a < m) (h2 : m < b) (hb : b <= L.length) (hl : L.length <= 1000000) :
 ConW Tryd.prog 54 [.row 1024,.p (I a),.p (I m),.p (I b),cmpV] 30 4 (mbs L) (mbs (rotM m (b - a) L (m - a) (b - m))) (.tup []):=by
 have w1 : IntKind.i64.wrap ((m : Int) - a) = ((m - a : Nat) : Int):=by rw [zG] <;> omega
 have w2 : IntKind.i64.wrap ((b : Int) - m) = ((b - m : Nat) : Int):=by rw [zG] <;> omega
 generalize hR : rotM m (b - a) L (m - a) (b - m) = R
 refine wBodyW Tryd.tab Tryd.mixed Tryd.func54 rfl rfl Tryd.ntmps54 (by simp) (by simp) rfl rfl fun Q hr hn=>?_
 repeat' first|(refine hK _ ?_;clear hK)|(refine hK _ _ ?_;clear hK)|(clear hK;refine hK _ ?_;clear hK)|(clear hK;clear hK;refine hK _ ?_;clear hK)|(clear hK;clear hK;clear hK;refine hK _ ?_;clear hK)|(clear hK;clear hK;clear hK;clear hK;refine hK _ ?_;clear hK)|(refine zJ fun K hK=>?_)|((first | refine zH ?_ | refine zN rfl (by kernel_rfl) ?_ | refine zM ?_ | refine zK (by kernel_rfl) ?_);simp only [wX,wW,strip])|((first | refine wIs fun K hK=>?_ | refine wOs fun K hK=>?_ | refine wQs fun K hK=>?_ | refine zW ?_ | refine zX ?_ | refine zY ?_ | refine zL ?_);simp [w1,w2])|(refine wIn ?_;refine And.intro (by kernel_rfl) ?_;try simp only [zZ])|(first | refine zQ ?_ | refine zS ?_)|((first | refine zI ?_ | refine zO ?_ | refine zP ?_);try simp)|((first | refine zR ?_ | refine wOn ?_ | refine wQn ?_);try simp only [zZ])
 refine yB (fun N st=>∃ (i j : Nat) (X : List Mb),(i + j <= N /\ 0 < i /\ 0 < j /\ i <= m /\ m + j <= L.length /\ X.length = L.length /\ rotM m N X i j = R) /\ st.s 0 = .row 1024 /\ st.s 2 = .p (I m) /\ st.s 4 = cmpV /\ st.s 10 = .p (I i) /\ st.s 11 = .p (I j) /\ st.b 1024 = some (.row 30 4 (mbs X))) (b - a) ⟨m - a,b - m,L,⟨by omega,by omega,by omega,by omega,by omega,rfl,hR⟩,by simp [w1,w2]⟩ fun K N st hL ⟨i,j,X,⟨q1,q2,q3,q4,q5,q6,q7⟩,g0,g2,g4,g10,g11,b0⟩=>?_
 obtain ⟨f,rfl⟩ : ∃ f,N = f + 1:=⟨N - 1,by omega⟩
 rw [rotM] at q7
 have u1 : IntKind.i64.wrap ((m : Int) - i) = ((m - i : Nat) : Int):=by rw [zG] <;> omega
 by_cases hij : i = j
 ·subst hij
  rw [if_pos rfl] at q7
  have c1:=swap_con X (m - i) m i (by omega) (by omega) (by omega)
  rw [q7] at c1
  repeat' first|(refine yX 1024 (c1) (by simp [b0]) (by simp [yO,argG,yY,inN,pos,yF,renC,b0]) rfl ?_;simp [b0])|(refine hK _ ?_;clear hK)|(refine hK _ _ ?_;clear hK)|(clear hK;refine hK _ ?_;clear hK)|(clear hK;clear hK;refine hK _ ?_;clear hK)|(clear hK;clear hK;clear hK;refine hK _ ?_;clear hK)|(clear hK;clear hK;clear hK;clear hK;refine hK _ ?_;clear hK)|(refine zJ fun K hK=>?_)|((first | refine zH ?_ | refine zN rfl (by kernel_rfl) ?_ | refine zM ?_ | refine zK (by kernel_rfl) ?_);simp only [wX,wW,strip])|((first | refine wIs fun K hK=>?_ | refine wOs fun K hK=>?_ | refine wQs fun K hK=>?_ | refine zW ?_ | refine zX ?_ | refine zY ?_ | refine zL ?_);simp [g0,g2,g4,g10,g11,b0,u1])|(refine wIn ?_;refine And.intro (by kernel_rfl) ?_;try simp only [zZ])|(first | refine zQ ?_ | refine zS ?_)|((first | refine zI ?_ | refine zO ?_ | refine zP ?_);try simp)|((first | refine zR ?_ | refine wOn ?_ | refine wQn ?_);try simp only [zZ])
  refine hn _ ⟨[],by simp,by simp,?_⟩ (by simp [g0]) (by simp [b0])
  simp [Tryd.f54,outR,outB,yP,b0]
 rw [if_neg hij] at q7
 have hij' : ((i : Int) = j) = False:=eq_false (by omega)
 have hij2 : (i = j) = False:=eq_false hij
 by_cases hji : j < i
 ·rw [if_pos hji] at q7
  have hji' : (j : Int) < i:=by omega
  have u2 : IntKind.i64.wrap ((i : Int) - j) = ((i - j : Nat) : Int):=by rw [zG] <;> omega
  have c1:=swap_con X (m - i) m j (by omega) (by omega) (by omega)
  have hl2:=swR_len X (m - i) m j
  generalize swR X (m - i) m j = Y at c1 q7 hl2
  repeat' first|(refine yX 1024 (c1) (by simp [b0]) (by simp [yO,argG,yY,inN,pos,yF,renC,b0]) rfl ?_;simp [b0])|(refine hK _ ?_;clear hK)|(refine hK _ _ ?_;clear hK)|(clear hK;refine hK _ ?_;clear hK)|(clear hK;clear hK;refine hK _ ?_;clear hK)|(clear hK;clear hK;clear hK;refine hK _ ?_;clear hK)|(clear hK;clear hK;clear hK;clear hK;refine hK _ ?_;clear hK)|(refine zJ fun K hK=>?_)|((first | refine zH ?_ | refine zN rfl (by kernel_rfl) ?_ | refine zM ?_ | refine zK (by kernel_rfl) ?_);simp only [wX,wW,strip])|((first | refine wIs fun K hK=>?_ | refine wOs fun K hK=>?_ | refine wQs fun K hK=>?_ | refine zW ?_ | refine zX ?_ | refine zY ?_ | refine zL ?_);simp [g0,g2,g4,g10,g11,b0,u1,u2,hij',hij2,hji,hji'])|(refine wIn ?_;refine And.intro (by kernel_rfl) ?_;try simp only [zZ])|(first | refine zQ ?_ | refine zS ?_)|((first | refine zI ?_ | refine zO ?_ | refine zP ?_);try simp)|((first | refine zR ?_ | refine wOn ?_ | refine wQn ?_);try simp only [zZ])
  refine hL _ f (by omega) ⟨i - j,j,Y,⟨by omega,by omega,by omega,by omega,by omega,by omega,q7⟩,?_⟩
  simp [g0,g2,g4,g10,g11,b0,u2]
 ·rw [if_neg hji] at q7
  have hji' : ¬ (j : Int) < i:=by omega
  have u2 : IntKind.i64.wrap ((j : Int) - i) = ((j - i : Nat) : Int):=by rw [zG] <;> omega
  have u3 : IntKind.i64.wrap ((m : Int) + j) = ((m + j : Nat) : Int):=by rw [zG] <;> omega
  have u4 : IntKind.i64.wrap (((m + j : Nat) : Int) - i) = ((m + j - i : Nat) : Int):=by rw [zG] <;> omega
  have c1:=swap_con X (m - i) (m + j - i) i (by omega) (by omega) (by omega)
  have hl2:=swR_len X (m - i) (m + j - i) i
  generalize swR X (m - i) (m + j - i) i = Y at c1 q7 hl2
  obtain ⟨q,hq⟩ : ∃ q,q = m + j:=⟨_,rfl⟩
  obtain ⟨p,hp⟩ : ∃ p,p = m + j - i:=⟨_,rfl⟩
  rw [<- hp] at c1 u4
  rw [<- hq] at u3 u4
  repeat' first|(refine yX 1024 (c1) (by simp [b0]) (by simp [yO,argG,yY,inN,pos,yF,renC,b0]) rfl ?_;simp [b0])|(refine hK _ ?_;clear hK)|(refine hK _ _ ?_;clear hK)|(clear hK;refine hK _ ?_;clear hK)|(clear hK;clear hK;refine hK _ ?_;clear hK)|(clear hK;clear hK;clear hK;refine hK _ ?_;clear hK)|(clear hK;clear hK;clear hK;clear hK;refine hK _ ?_;clear hK)|(refine zJ fun K hK=>?_)|((first | refine zH ?_ | refine zN rfl (by kernel_rfl) ?_ | refine zM ?_ | refine zK (by kernel_rfl) ?_);simp only [wX,wW,strip])|((first | refine wIs fun K hK=>?_ | refine wOs fun K hK=>?_ | refine wQs fun K hK=>?_ | refine zW ?_ | refine zX ?_ | refine zY ?_ | refine zL ?_);simp [g0,g2,g4,g10,g11,b0,u1,u2,u3,u4,hij',hij2,hji,hji'])|(refine wIn ?_;refine And.intro (by kernel_rfl) ?_;try simp only [zZ])|(first | refine zQ ?_ | refine zS ?_)|((first | refine zI ?_ | refine zO ?_ | refine zP ?_);try simp)|((first | refine zR ?_ | refine wOn ?_ | refine wQn ?_);try simp only [zZ])
  refine hL _ f (by omega) ⟨i,j - i,Y,⟨by omega,by omega,by omega,by omega,by omega,by omega,q7⟩,?_⟩
  simp [g0,g2,g4,g10,g11,b0,u2]
def bsL (p : Nat -> Bool) : Nat -> Nat -> Nat -> Nat
 | 0,i,_=>i
 | f + 1,i,j=>if i < j then (if p ((i + j) / 2) = true then bsL p f ((i + j) / 2 + 1) j else bsL p f i ((i + j) / 2)) else i
theorem bsL_bd (p : Nat -> Bool) : ∀ (f i j : Nat), i <= j -> i <= bsL p f i j /\ bsL p f i j <= j
 | 0,i,j,h=>⟨Nat.le_refl _,h⟩
 | f + 1, i, j, h => by
  rw [bsL]
  split
  ·split
   ·have:=bsL_bd p f ((i + j) / 2 + 1) j (by omega);omega
   ·have:=bsL_bd p f i ((i + j) / 2) (by omega);omega
  ·omega
theorem bsL_end (p : Nat -> Bool) : ∀ (f i j : Nat), ¬ i < j -> bsL p f i j = i
 | 0,_,_,_=>rfl
 | f + 1,i,j,h=>by rw [bsL,if_neg h]
def ltM (L : List Mb) (i j : Nat) : Bool := decide ((L.getD i mz).i < (L.getD j mz).i)
theorem getD_at {L : List Mb} {i : Nat} (h : i < L.length) : L.getD i mz = L[i] := by rw [List.getD_eq_getElem?_getD, List.getElem?_eq_getElem h]; rfl
theorem mbs_at {L : List Mb} {i : Nat} (h : i < L.length) : (mbs L)[i]? = some [I (L.getD i mz).i, I (L.getD i mz).r, I (L.getD i mz).w, I (L.getD i mz).g] := by rw [getD_at h]; simp [mbs, h, Mb.cells]
theorem half_w (s : Nat) (h : s <= 2000000) : IntKind.i64.wrap ((IntKind.u64.wrap (s : Int)).fdiv (2 ^ min 1 IntKind.u64.bits)) = ((s / 2 : Nat) : Int) := by
 have h1 : IntKind.u64.wrap (s : Int) = s := by
  unfold IntKind.wrap
  simp [IntKind.bits,IntKind.signed]
  omega
 have h2 : (2 : Int) ^ min 1 IntKind.u64.bits = 2:=by decide
 rw [h1,h2,Int.fdiv_eq_ediv_of_nonneg _ (by decide),zG] <;> omega
set_option maxHeartbeats 4000000 in
theorem sm1 {Q : AExit -> St -> Prop} {st : St} (L : List Mb) (a m b i0 : Nat) (ha : a < m) (hb : b <= L.length) (hl : L.length <= 1000000) (hi0 : i0 = bsL (fun h => ltM L h a) (b - m) m b) (hm : m <= b)
 (hex : ∀ st,st.s 0 = .row 1024 -> st.s 1 = .p (I a) -> st.s 10 = .p (I i0) -> st.b 1024 = some (.row 30 4 (mbs L)) -> Q (.exit 0) st)
 (g0 : st.s 0 = .row 1024) (g1 : st.s 1 = .p (I a)) (g4 : st.s 4 = cmpV) (g10 : st.s 10 = .p (I m)) (g11 : st.s 11 = .p (I b)) (b0 : st.b 1024 = some (.row 30 4 (mbs L))) :
 WC Tryd.prog Tryd.T (220 + 4096) (lp Tryd.f46 0) Q st:=by
 refine yB (fun N st=>∃ i j : Nat,(j - i <= N /\ i <= j /\ m <= i /\ j <= b /\ bsL (fun h=>ltM L h a) N i j = i0) /\ st.s 0 = .row 1024 /\ st.s 1 = .p (I a) /\ st.s 4 = cmpV /\ st.s 10 = .p (I i) /\ st.s 11 = .p (I j) /\ st.b 1024 = some (.row 30 4 (mbs L))) (b - m) ⟨m,b,⟨by omega,hm,by omega,by omega,hi0.symm⟩,g0,g1,g4,g10,g11,b0⟩ fun K N st hL ⟨i,j,⟨q1,q2,q3,q4,q5⟩,g0,g1,g4,g10,g11,b0⟩=>?_
 by_cases hlt : i < j
 ·have hlt' : (i : Int) < j := by omega
  obtain ⟨f,rfl⟩ : ∃ f,N = f + 1:=⟨N - 1,by omega⟩
  rw [bsL,if_pos hlt] at q5
  obtain ⟨s,hs⟩ : ∃ s,s = i + j:=⟨_,rfl⟩
  have w1 : IntKind.i64.wrap ((i : Int) + j) = (s : Int):=by rw [zG] <;> omega
  have w2:=half_w s (by omega)
  rw [<- hs] at q5
  obtain ⟨h,hh⟩ : ∃ h,h = s / 2:=⟨_,rfl⟩
  rw [<- hh] at q5 w2
  have w3 : IntKind.i64.wrap ((h : Int) + 1) = ((h + 1 : Nat) : Int):=by rw [zG] <;> omega
  have hhl : h < L.length:=by omega
  have hal : a < L.length:=by omega
  have e1:=mbs_at hhl
  have e2:=mbs_at hal
  have c1:=sort1_con (L.getD h mz) (L.getD a mz)
  have hz : (cmpM (L.getD h mz) (L.getD a mz) < 0) ↔ ltM L h a = true:=by unfold cmpM ltM;rw [decide_eq_true_eq];split <;> (try split) <;> omega
  generalize cmpM (L.getD h mz) (L.getD a mz) = z at c1 hz
  rw [getD_at hhl,getD_at hal] at c1
  by_cases hp : ltM L h a = true
  ·have hz' : z < 0 := hz.2 hp
   rw [if_pos hp] at q5
   repeat' first|(refine zU.pure (c1) rfl ?_)|(refine zU.lent (c1) rfl ?_)|(refine zT.pure (c1) rfl ?_)|(refine zT.lent (c1) rfl ?_)|(refine zU.own (c1) ?_)|(refine zV.pure (c1) rfl ?_)|(refine zV.lent (c1) rfl ?_)|(refine zV.own (c1) ?_)|(refine hK _ ?_;clear hK)|(refine hK _ _ ?_;clear hK)|(clear hK;refine hK _ ?_;clear hK)|(clear hK;clear hK;refine hK _ ?_;clear hK)|(clear hK;clear hK;clear hK;refine hK _ ?_;clear hK)|(clear hK;clear hK;clear hK;clear hK;refine hK _ ?_;clear hK)|(refine zJ fun K hK=>?_)|((first | refine zH ?_ | refine zN rfl (by kernel_rfl) ?_ | refine zM ?_ | refine zK (by kernel_rfl) ?_);simp only [wX,wW,strip])|((first | refine wIs fun K hK=>?_ | refine wOs fun K hK=>?_ | refine wQs fun K hK=>?_ | refine zW ?_ | refine zX ?_ | refine zY ?_ | refine zL ?_);simp [g0,g1,g4,g10,g11,b0,hlt,hlt',w1,w2,w3,hhl,hal,e1,e2,hz'])|(refine wIn ?_;refine And.intro (by kernel_rfl) ?_;try simp only [zZ])|(first | refine zQ ?_ | refine zS ?_)|((first | refine zI ?_ | refine zO ?_ | refine zP ?_);try simp)|((first | refine zR ?_ | refine wOn ?_ | refine wQn ?_);try simp only [zZ])
   all_goals refine hL _ f (by omega) ⟨h + 1,j,⟨by omega,by omega,by omega,by omega,q5⟩,?_⟩
   all_goals simp [g0,g1,g4,g10,g11,b0,w3]
  ·have hz' : ¬ z < 0 := fun hh => hp (hz.1 hh)
   rw [if_neg hp] at q5
   repeat' first|(refine zU.pure (c1) rfl ?_)|(refine zU.lent (c1) rfl ?_)|(refine zT.pure (c1) rfl ?_)|(refine zT.lent (c1) rfl ?_)|(refine zU.own (c1) ?_)|(refine zV.pure (c1) rfl ?_)|(refine zV.lent (c1) rfl ?_)|(refine zV.own (c1) ?_)|(refine hK _ ?_;clear hK)|(refine hK _ _ ?_;clear hK)|(clear hK;refine hK _ ?_;clear hK)|(clear hK;clear hK;refine hK _ ?_;clear hK)|(clear hK;clear hK;clear hK;refine hK _ ?_;clear hK)|(clear hK;clear hK;clear hK;clear hK;refine hK _ ?_;clear hK)|(refine zJ fun K hK=>?_)|((first | refine zH ?_ | refine zN rfl (by kernel_rfl) ?_ | refine zM ?_ | refine zK (by kernel_rfl) ?_);simp only [wX,wW,strip])|((first | refine wIs fun K hK=>?_ | refine wOs fun K hK=>?_ | refine wQs fun K hK=>?_ | refine zW ?_ | refine zX ?_ | refine zY ?_ | refine zL ?_);simp [g0,g1,g4,g10,g11,b0,hlt,hlt',w1,w2,w3,hhl,hal,e1,e2,hz'])|(refine wIn ?_;refine And.intro (by kernel_rfl) ?_;try simp only [zZ])|(first | refine zQ ?_ | refine zS ?_)|((first | refine zI ?_ | refine zO ?_ | refine zP ?_);try simp)|((first | refine zR ?_ | refine wOn ?_ | refine wQn ?_);try simp only [zZ])
   all_goals refine hL _ f (by omega) ⟨i,h,⟨by omega,by omega,by omega,by omega,q5⟩,?_⟩
   all_goals simp [g0,g1,g4,g10,g11,b0,w2]
 ·have hlt' : ¬ (i : Int) < j := by omega
  rw [bsL_end _ _ _ _ hlt] at q5
  repeat' first|(refine hK _ ?_;clear hK)|(refine hK _ _ ?_;clear hK)|(clear hK;refine hK _ ?_;clear hK)|(clear hK;clear hK;refine hK _ ?_;clear hK)|(clear hK;clear hK;clear hK;refine hK _ ?_;clear hK)|(clear hK;clear hK;clear hK;clear hK;refine hK _ ?_;clear hK)|(refine zJ fun K hK=>?_)|((first | refine zH ?_ | refine zN rfl (by kernel_rfl) ?_ | refine zM ?_ | refine zK (by kernel_rfl) ?_);simp only [wX,wW,strip])|((first | refine wIs fun K hK=>?_ | refine wOs fun K hK=>?_ | refine wQs fun K hK=>?_ | refine zW ?_ | refine zX ?_ | refine zY ?_ | refine zL ?_);simp [g0,g1,g4,g10,g11,b0,hlt,hlt'])|(refine wIn ?_;refine And.intro (by kernel_rfl) ?_;try simp only [zZ])|(first | refine zQ ?_ | refine zS ?_)|((first | refine zI ?_ | refine zO ?_ | refine zP ?_);try simp)|((first | refine zR ?_ | refine wOn ?_ | refine wQn ?_);try simp only [zZ])
  all_goals apply hex
  all_goals simp [g0,g1,g4,g10,g11,b0,q5]
def shU (L : List Mb) (a : Nat) : Nat -> List Mb
 | 0=>L
 | n + 1=>swp (shU L a n) (a + n) (a + n + 1)
@[simp] theorem shU_len (L : List Mb) (a : Nat) : ∀ n, (shU L a n).length = L.length
 | 0=>rfl
 | n + 1=>by rw [shU,swp_len,shU_len L a n]
def shD (L : List Mb) (m : Nat) : Nat -> List Mb
 | 0=>L
 | n + 1=>swp (shD L m n) (m - n) (m - n - 1)
@[simp] theorem shD_len (L : List Mb) (m : Nat) : ∀ n, (shD L m n).length = L.length
 | 0=>rfl
 | n + 1=>by rw [shD,swp_len,shD_len L m n]
set_option maxHeartbeats 4000000 in
theorem sm2 {Q : AExit -> St -> Prop} {st : St} (L : List Mb) (a i0 : Nat) (ha : a < i0) (hb : i0 <= L.length) (hl : L.length <= 1000000)
 (hex : ∀ st,st.s 0 = .row 1024 -> st.b 1024 = some (.row 30 4 (mbs (shU L a (i0 - 1 - a)))) -> Q (.exit 2) st)
 (g0 : st.s 0 = .row 1024) (g10 : st.s 10 = .p (I i0)) (g13 : st.s 13 = .p (I a)) (b0 : st.b 1024 = some (.row 30 4 (mbs L))) :
 WC Tryd.prog Tryd.T (220 + 4096) (lp Tryd.f46 1) Q st:=by
 refine yB (fun N st=>∃ k : Nat,k + N = i0 - 1 - a /\ st.s 0 = .row 1024 /\ st.s 10 = .p (I i0) /\ st.s 13 = .p (I ((a + k : Nat) : Int)) /\ st.b 1024 = some (.row 30 4 (mbs (shU L a k)))) (i0 - 1 - a) ⟨0,by omega,g0,g10,g13,b0⟩ fun K N st hL ⟨k,hk,g0,g10,g13,b0⟩=>?_
 have w1 : IntKind.i64.wrap ((i0 : Int) - 1) = ((i0 - 1 : Nat) : Int):=by rw [zG] <;> omega
 by_cases hlt : a + k < i0 - 1
 ·have hnx : shU L a (k + 1) = swp (shU L a k) (a + k) (a + k + 1) := rfl
  have hLen:=shU_len L a k
  obtain ⟨i,hi0⟩ : ∃ i,i = a + k:=⟨_,rfl⟩
  rw [<- hi0] at hlt g13 hnx
  have hlt' : (i : Int) < ((i0 - 1 : Nat) : Int):=by omega
  have w2 : IntKind.i64.wrap ((i : Int) + 1) = ((i + 1 : Nat) : Int):=by rw [zG] <;> omega
  have hnx2 : a + (k + 1) = i + 1:=by omega
  generalize shU L a k = X at *
  have hi : i < X.length:=by omega
  have hj : i + 1 < X.length:=by omega
  have hs:=mbs_set2 hi hj
  rw [<- hnx] at hs
  generalize hj0 : i + 1 = j at *
  have hne : ¬ i = j:=by omega
  obtain ⟨u,hu⟩ : ∃ u,u = i0 - 1:=⟨_,rfl⟩
  rw [<- hu] at hlt hlt' w1
  generalize hx : X[i] = x at hs
  generalize hy : X[j] = y at hs
  repeat' first|(refine hK _ ?_;clear hK)|(refine hK _ _ ?_;clear hK)|(clear hK;refine hK _ ?_;clear hK)|(clear hK;clear hK;refine hK _ ?_;clear hK)|(clear hK;clear hK;clear hK;refine hK _ ?_;clear hK)|(clear hK;clear hK;clear hK;clear hK;refine hK _ ?_;clear hK)|(refine zJ fun K hK=>?_)|((first | refine zH ?_ | refine zN rfl (by kernel_rfl) ?_ | refine zM ?_ | refine zK (by kernel_rfl) ?_);simp only [wX,wW,strip])|((first | refine wIs fun K hK=>?_ | refine wOs fun K hK=>?_ | refine wQs fun K hK=>?_ | refine zW ?_ | refine zX ?_ | refine zY ?_ | refine zL ?_);simp [g0,g10,g13,b0,hlt,hlt',w1,w2,hi,hj,hx,hy,hne])|(refine wIn ?_;refine And.intro (by kernel_rfl) ?_;try simp only [zZ])|(first | refine zQ ?_ | refine zS ?_)|((first | refine zI ?_ | refine zO ?_ | refine zP ?_);try simp)|((first | refine zR ?_ | refine wOn ?_ | refine wQn ?_);try simp only [zZ])
  refine hL _ (N - 1) (by omega) ⟨k + 1,by omega,?_⟩
  rw [hnx2]
  simp [g0,g10,g13,b0,w2,hs]
 ·have hlt' : ¬ ((a + k : Nat) : Int) < ((i0 - 1 : Nat) : Int) := by omega
  have hkn : k = i0 - 1 - a:=by omega
  rw [hkn] at b0
  obtain ⟨i,hi0⟩ : ∃ i,i = a + k:=⟨_,rfl⟩
  rw [<- hi0] at hlt hlt' g13
  obtain ⟨u,hu⟩ : ∃ u,u = i0 - 1:=⟨_,rfl⟩
  rw [<- hu] at hlt hlt' w1 b0 hex
  repeat' first|(refine hK _ ?_;clear hK)|(refine hK _ _ ?_;clear hK)|(clear hK;refine hK _ ?_;clear hK)|(clear hK;clear hK;refine hK _ ?_;clear hK)|(clear hK;clear hK;clear hK;refine hK _ ?_;clear hK)|(clear hK;clear hK;clear hK;clear hK;refine hK _ ?_;clear hK)|(refine zJ fun K hK=>?_)|((first | refine zH ?_ | refine zN rfl (by kernel_rfl) ?_ | refine zM ?_ | refine zK (by kernel_rfl) ?_);simp only [wX,wW,strip])|((first | refine wIs fun K hK=>?_ | refine wOs fun K hK=>?_ | refine wQs fun K hK=>?_ | refine zW ?_ | refine zX ?_ | refine zY ?_ | refine zL ?_);simp [g0,g10,g13,b0,hlt,hlt',w1])|(refine wIn ?_;refine And.intro (by kernel_rfl) ?_;try simp only [zZ])|(first | refine zQ ?_ | refine zS ?_)|((first | refine zI ?_ | refine zO ?_ | refine zP ?_);try simp)|((first | refine zR ?_ | refine wOn ?_ | refine wQn ?_);try simp only [zZ])
  all_goals apply hex
  all_goals simp [g0,b0]
set_option maxHeartbeats 4000000 in
theorem sm3 {Q : AExit -> St -> Prop} {st : St} (L : List Mb) (a m i0 : Nat) (ha : a <= m) (hb : m < L.length) (hl : L.length <= 1000000) (hi0 : i0 = bsL (fun h => !ltM L m h) (m - a) a m)
 (hex : ∀ st,st.s 0 = .row 1024 -> st.s 2 = .p (I m) -> st.s 14 = .p (I i0) -> st.b 1024 = some (.row 30 4 (mbs L)) -> Q (.exit 4) st)
 (g0 : st.s 0 = .row 1024) (g2 : st.s 2 = .p (I m)) (g4 : st.s 4 = cmpV) (g14 : st.s 14 = .p (I a)) (g15 : st.s 15 = .p (I m)) (b0 : st.b 1024 = some (.row 30 4 (mbs L))) :
 WC Tryd.prog Tryd.T (220 + 4096) (lp Tryd.f46 2) Q st:=by
 refine yB (fun N st=>∃ i j : Nat,(j - i <= N /\ i <= j /\ a <= i /\ j <= m /\ bsL (fun h=>!ltM L m h) N i j = i0) /\ st.s 0 = .row 1024 /\ st.s 2 = .p (I m) /\ st.s 4 = cmpV /\ st.s 14 = .p (I i) /\ st.s 15 = .p (I j) /\ st.b 1024 = some (.row 30 4 (mbs L))) (m - a) ⟨a,m,⟨by omega,ha,by omega,by omega,hi0.symm⟩,g0,g2,g4,g14,g15,b0⟩ fun K N st hL ⟨i,j,⟨q1,q2,q3,q4,q5⟩,g0,g2,g4,g14,g15,b0⟩=>?_
 by_cases hlt : i < j
 ·have hlt' : (i : Int) < j := by omega
  obtain ⟨f,rfl⟩ : ∃ f,N = f + 1:=⟨N - 1,by omega⟩
  rw [bsL,if_pos hlt] at q5
  obtain ⟨s,hs⟩ : ∃ s,s = i + j:=⟨_,rfl⟩
  have w1 : IntKind.i64.wrap ((i : Int) + j) = (s : Int):=by rw [zG] <;> omega
  have w2:=half_w s (by omega)
  rw [<- hs] at q5
  obtain ⟨h,hh⟩ : ∃ h,h = s / 2:=⟨_,rfl⟩
  rw [<- hh] at q5 w2
  have w3 : IntKind.i64.wrap ((h : Int) + 1) = ((h + 1 : Nat) : Int):=by rw [zG] <;> omega
  have hhl : h < L.length:=by omega
  have e1:=mbs_at hhl
  have e2:=mbs_at hb
  have c1:=sort1_con (L.getD m mz) (L.getD h mz)
  have hz : (cmpM (L.getD m mz) (L.getD h mz) < 0) ↔ ltM L m h = true:=by unfold cmpM ltM;rw [decide_eq_true_eq];split <;> (try split) <;> omega
  generalize cmpM (L.getD m mz) (L.getD h mz) = z at c1 hz
  rw [getD_at hhl,getD_at hb] at c1
  by_cases hp : ltM L m h = true
  ·have hz' : z < 0 := hz.2 hp
   rw [hp] at q5
   rw [if_neg (by simp)] at q5
   repeat' first|(refine zU.pure (c1) rfl ?_)|(refine zU.lent (c1) rfl ?_)|(refine zT.pure (c1) rfl ?_)|(refine zT.lent (c1) rfl ?_)|(refine zU.own (c1) ?_)|(refine zV.pure (c1) rfl ?_)|(refine zV.lent (c1) rfl ?_)|(refine zV.own (c1) ?_)|(refine hK _ ?_;clear hK)|(refine hK _ _ ?_;clear hK)|(clear hK;refine hK _ ?_;clear hK)|(clear hK;clear hK;refine hK _ ?_;clear hK)|(clear hK;clear hK;clear hK;refine hK _ ?_;clear hK)|(clear hK;clear hK;clear hK;clear hK;refine hK _ ?_;clear hK)|(refine zJ fun K hK=>?_)|((first | refine zH ?_ | refine zN rfl (by kernel_rfl) ?_ | refine zM ?_ | refine zK (by kernel_rfl) ?_);simp only [wX,wW,strip])|((first | refine wIs fun K hK=>?_ | refine wOs fun K hK=>?_ | refine wQs fun K hK=>?_ | refine zW ?_ | refine zX ?_ | refine zY ?_ | refine zL ?_);simp [g0,g2,g4,g14,g15,b0,hlt,hlt',w1,w2,w3,hhl,hb,e1,e2,hz'])|(refine wIn ?_;refine And.intro (by kernel_rfl) ?_;try simp only [zZ])|(first | refine zQ ?_ | refine zS ?_)|((first | refine zI ?_ | refine zO ?_ | refine zP ?_);try simp)|((first | refine zR ?_ | refine wOn ?_ | refine wQn ?_);try simp only [zZ])
   all_goals refine hL _ f (by omega) ⟨i,h,⟨by omega,by omega,by omega,by omega,q5⟩,?_⟩
   all_goals simp [g0,g2,g4,g14,g15,b0,w2]
  ·have hz' : ¬ z < 0 := fun hh => hp (hz.1 hh)
   rw [if_pos (by simp [hp])] at q5
   repeat' first|(refine zU.pure (c1) rfl ?_)|(refine zU.lent (c1) rfl ?_)|(refine zT.pure (c1) rfl ?_)|(refine zT.lent (c1) rfl ?_)|(refine zU.own (c1) ?_)|(refine zV.pure (c1) rfl ?_)|(refine zV.lent (c1) rfl ?_)|(refine zV.own (c1) ?_)|(refine hK _ ?_;clear hK)|(refine hK _ _ ?_;clear hK)|(clear hK;refine hK _ ?_;clear hK)|(clear hK;clear hK;refine hK _ ?_;clear hK)|(clear hK;clear hK;clear hK;refine hK _ ?_;clear hK)|(clear hK;clear hK;clear hK;clear hK;refine hK _ ?_;clear hK)|(refine zJ fun K hK=>?_)|((first | refine zH ?_ | refine zN rfl (by kernel_rfl) ?_ | refine zM ?_ | refine zK (by kernel_rfl) ?_);simp only [wX,wW,strip])|((first | refine wIs fun K hK=>?_ | refine wOs fun K hK=>?_ | refine wQs fun K hK=>?_ | refine zW ?_ | refine zX ?_ | refine zY ?_ | refine zL ?_);simp [g0,g2,g4,g14,g15,b0,hlt,hlt',w1,w2,w3,hhl,hb,e1,e2,hz'])|(refine wIn ?_;refine And.intro (by kernel_rfl) ?_;try simp only [zZ])|(first | refine zQ ?_ | refine zS ?_)|((first | refine zI ?_ | refine zO ?_ | refine zP ?_);try simp)|((first | refine zR ?_ | refine wOn ?_ | refine wQn ?_);try simp only [zZ])
   all_goals refine hL _ f (by omega) ⟨h + 1,j,⟨by omega,by omega,by omega,by omega,q5⟩,?_⟩
   all_goals simp [g0,g2,g4,g14,g15,b0,w3]
 ·have hlt' : ¬ (i : Int) < j := by omega
  rw [bsL_end _ _ _ _ hlt] at q5
  repeat' first|(refine hK _ ?_;clear hK)|(refine hK _ _ ?_;clear hK)|(clear hK;refine hK _ ?_;clear hK)|(clear hK;clear hK;refine hK _ ?_;clear hK)|(clear hK;clear hK;clear hK;refine hK _ ?_;clear hK)|(clear hK;clear hK;clear hK;clear hK;refine hK _ ?_;clear hK)|(refine zJ fun K hK=>?_)|((first | refine zH ?_ | refine zN rfl (by kernel_rfl) ?_ | refine zM ?_ | refine zK (by kernel_rfl) ?_);simp only [wX,wW,strip])|((first | refine wIs fun K hK=>?_ | refine wOs fun K hK=>?_ | refine wQs fun K hK=>?_ | refine zW ?_ | refine zX ?_ | refine zY ?_ | refine zL ?_);simp [g0,g2,g4,g14,g15,b0,hlt,hlt'])|(refine wIn ?_;refine And.intro (by kernel_rfl) ?_;try simp only [zZ])|(first | refine zQ ?_ | refine zS ?_)|((first | refine zI ?_ | refine zO ?_ | refine zP ?_);try simp)|((first | refine zR ?_ | refine wOn ?_ | refine wQn ?_);try simp only [zZ])
  all_goals apply hex
  all_goals simp [g0,g2,g4,g14,g15,b0,q5]
set_option maxHeartbeats 4000000 in
theorem sm4 {Q : AExit -> St -> Prop} {st : St} (L : List Mb) (m i0 : Nat) (ha : i0 <= m) (hb : m < L.length) (hl : L.length <= 1000000)
 (hex : ∀ st,st.s 0 = .row 1024 -> st.b 1024 = some (.row 30 4 (mbs (shD L m (m - i0)))) -> Q (.exit 6) st)
 (g0 : st.s 0 = .row 1024) (g14 : st.s 14 = .p (I i0)) (g17 : st.s 17 = .p (I m)) (b0 : st.b 1024 = some (.row 30 4 (mbs L))) :
 WC Tryd.prog Tryd.T (220 + 4096) (lp Tryd.f46 3) Q st:=by
 refine yB (fun N st=>∃ k : Nat,k + N = m - i0 /\ st.s 0 = .row 1024 /\ st.s 14 = .p (I i0) /\ st.s 17 = .p (I ((m - k : Nat) : Int)) /\ st.b 1024 = some (.row 30 4 (mbs (shD L m k)))) (m - i0) ⟨0,by omega,g0,g14,g17,b0⟩ fun K N st hL ⟨k,hk,g0,g14,g17,b0⟩=>?_
 obtain ⟨i,hi0⟩ : ∃ i,i = m - k:=⟨_,rfl⟩
 have hnx : shD L m (k + 1) = swp (shD L m k) (m - k) (m - k - 1):=rfl
 rw [<- hi0] at g17 hnx
 by_cases hlt : i0 < i
 ·have hLen := shD_len L m k
  have hlt' : (i0 : Int) < (i : Int):=by omega
  have w2 : IntKind.i64.wrap ((i : Int) - 1) = ((i - 1 : Nat) : Int):=by rw [zG] <;> omega
  have hnx2 : m - (k + 1) = i - 1:=by omega
  generalize shD L m k = X at *
  have hi : i < X.length:=by omega
  have hj : i - 1 < X.length:=by omega
  have hs:=mbs_set2 hi hj
  rw [<- hnx] at hs
  generalize hj0 : i - 1 = j at *
  have hne : ¬ i = j:=by omega
  have hne2 : ¬ j = i:=by omega
  generalize hx : X[i] = x at hs
  generalize hy : X[j] = y at hs
  repeat' first|(refine hK _ ?_;clear hK)|(refine hK _ _ ?_;clear hK)|(clear hK;refine hK _ ?_;clear hK)|(clear hK;clear hK;refine hK _ ?_;clear hK)|(clear hK;clear hK;clear hK;refine hK _ ?_;clear hK)|(clear hK;clear hK;clear hK;clear hK;refine hK _ ?_;clear hK)|(refine zJ fun K hK=>?_)|((first | refine zH ?_ | refine zN rfl (by kernel_rfl) ?_ | refine zM ?_ | refine zK (by kernel_rfl) ?_);simp only [wX,wW,strip])|((first | refine wIs fun K hK=>?_ | refine wOs fun K hK=>?_ | refine wQs fun K hK=>?_ | refine zW ?_ | refine zX ?_ | refine zY ?_ | refine zL ?_);simp [g0,g14,g17,b0,hlt,hlt',w2,hi,hj,hx,hy,hne,hne2])|(refine wIn ?_;refine And.intro (by kernel_rfl) ?_;try simp only [zZ])|(first | refine zQ ?_ | refine zS ?_)|((first | refine zI ?_ | refine zO ?_ | refine zP ?_);try simp)|((first | refine zR ?_ | refine wOn ?_ | refine wQn ?_);try simp only [zZ])
  refine hL _ (N - 1) (by omega) ⟨k + 1,by omega,?_⟩
  rw [hnx2]
  simp [g0,g14,g17,b0,w2,hs]
 ·have hlt' : ¬ (i0 : Int) < (i : Int) := by omega
  have hkn : k = m - i0:=by omega
  rw [hkn] at b0
  repeat' first|(refine hK _ ?_;clear hK)|(refine hK _ _ ?_;clear hK)|(clear hK;refine hK _ ?_;clear hK)|(clear hK;clear hK;refine hK _ ?_;clear hK)|(clear hK;clear hK;clear hK;refine hK _ ?_;clear hK)|(clear hK;clear hK;clear hK;clear hK;refine hK _ ?_;clear hK)|(refine zJ fun K hK=>?_)|((first | refine zH ?_ | refine zN rfl (by kernel_rfl) ?_ | refine zM ?_ | refine zK (by kernel_rfl) ?_);simp only [wX,wW,strip])|((first | refine wIs fun K hK=>?_ | refine wOs fun K hK=>?_ | refine wQs fun K hK=>?_ | refine zW ?_ | refine zX ?_ | refine zY ?_ | refine zL ?_);simp [g0,g14,g17,b0,hlt,hlt'])|(refine wIn ?_;refine And.intro (by kernel_rfl) ?_;try simp only [zZ])|(first | refine zQ ?_ | refine zS ?_)|((first | refine zI ?_ | refine zO ?_ | refine zP ?_);try simp)|((first | refine zR ?_ | refine wOn ?_ | refine wQn ?_);try simp only [zZ])
  all_goals apply hex
  all_goals simp [g0,b0]
set_option maxHeartbeats 4000000 in
theorem sm5 {Q : AExit -> St -> Prop} {st : St} (L : List Mb) (s0 r0 p i0 : Nat) (a m b md n : Int) (ha : s0 <= r0) (hp0 : r0 <= p + 1) (hb : p - s0 < L.length) (hb2 : r0 <= L.length) (hpl : p <= 2000000) (hl : L.length <= 1000000) (hi0 : i0 = bsL (fun c => !ltM L (p - c) c) (r0 - s0) s0 r0)
 (hex : ∀ st,st.s 0 = .row 1024 -> st.s 1 = .p (I a) -> st.s 2 = .p (I m) -> st.s 3 = .p (I b) -> st.s 4 = cmpV -> st.s 18 = .p (I md) -> st.s 19 = .p (I n) -> st.s 20 = .p (I i0) -> st.b 1024 = some (.row 30 4 (mbs L)) -> Q (.exit 8) st)
 (g0 : st.s 0 = .row 1024) (g1 : st.s 1 = .p (I a)) (g2 : st.s 2 = .p (I m)) (g3 : st.s 3 = .p (I b)) (g4 : st.s 4 = cmpV) (g18 : st.s 18 = .p (I md)) (g19 : st.s 19 = .p (I n)) (g20 : st.s 20 = .p (I s0)) (g21 : st.s 21 = .p (I r0)) (g22 : st.s 22 = .p (I p)) (b0 : st.b 1024 = some (.row 30 4 (mbs L))) :
 WC Tryd.prog Tryd.T (220 + 4096) (lp Tryd.f46 4) Q st:=by
 refine yB (fun N st=>∃ i j : Nat,(j - i <= N /\ i <= j /\ s0 <= i /\ j <= r0 /\ bsL (fun c=>!ltM L (p - c) c) N i j = i0) /\ st.s 0 = .row 1024 /\ st.s 1 = .p (I a) /\ st.s 2 = .p (I m) /\ st.s 3 = .p (I b) /\ st.s 4 = cmpV /\ st.s 18 = .p (I md) /\ st.s 19 = .p (I n) /\ st.s 20 = .p (I i) /\ st.s 21 = .p (I j) /\ st.s 22 = .p (I p) /\ st.b 1024 = some (.row 30 4 (mbs L))) (r0 - s0) ⟨s0,r0,⟨by omega,ha,by omega,by omega,hi0.symm⟩,g0,g1,g2,g3,g4,g18,g19,g20,g21,g22,b0⟩ fun K N st hL ⟨i,j,⟨q1,q2,q3,q4,q5⟩,g0,g1,g2,g3,g4,g18,g19,g20,g21,g22,b0⟩=>?_
 by_cases hlt : i < j
 ·have hlt' : (i : Int) < j := by omega
  obtain ⟨f,rfl⟩ : ∃ f,N = f + 1:=⟨N - 1,by omega⟩
  rw [bsL,if_pos hlt] at q5
  obtain ⟨s,hs⟩ : ∃ s,s = i + j:=⟨_,rfl⟩
  have w1 : IntKind.i64.wrap ((i : Int) + j) = (s : Int):=by rw [zG] <;> omega
  have w2:=half_w s (by omega)
  rw [<- hs] at q5
  obtain ⟨h,hh⟩ : ∃ h,h = s / 2:=⟨_,rfl⟩
  rw [<- hh] at q5 w2
  have w3 : IntKind.i64.wrap ((h : Int) + 1) = ((h + 1 : Nat) : Int):=by rw [zG] <;> omega
  have w4 : IntKind.i64.wrap ((p : Int) - h) = ((p - h : Nat) : Int):=by rw [zG] <;> omega
  have hhl : h < L.length:=by omega
  have hpl2 : p - h < L.length:=by omega
  obtain ⟨u,hu⟩ : ∃ u,u = p - h:=⟨_,rfl⟩
  rw [<- hu] at q5 w4 hpl2
  have e1:=mbs_at hhl
  have e2:=mbs_at hpl2
  have c1:=sort1_con (L.getD u mz) (L.getD h mz)
  have hz : (cmpM (L.getD u mz) (L.getD h mz) < 0) ↔ ltM L u h = true:=by unfold cmpM ltM;rw [decide_eq_true_eq];split <;> (try split) <;> omega
  generalize cmpM (L.getD u mz) (L.getD h mz) = z at c1 hz
  rw [getD_at hhl,getD_at hpl2] at c1
  by_cases hp : ltM L u h = true
  ·have hz' : z < 0 := hz.2 hp
   rw [hp] at q5
   rw [if_neg (by simp)] at q5
   repeat' first|(refine zU.pure (c1) rfl ?_)|(refine zU.lent (c1) rfl ?_)|(refine zT.pure (c1) rfl ?_)|(refine zT.lent (c1) rfl ?_)|(refine zU.own (c1) ?_)|(refine zV.pure (c1) rfl ?_)|(refine zV.lent (c1) rfl ?_)|(refine zV.own (c1) ?_)|(refine hK _ ?_;clear hK)|(refine hK _ _ ?_;clear hK)|(clear hK;refine hK _ ?_;clear hK)|(clear hK;clear hK;refine hK _ ?_;clear hK)|(clear hK;clear hK;clear hK;refine hK _ ?_;clear hK)|(clear hK;clear hK;clear hK;clear hK;refine hK _ ?_;clear hK)|(refine zJ fun K hK=>?_)|((first | refine zH ?_ | refine zN rfl (by kernel_rfl) ?_ | refine zM ?_ | refine zK (by kernel_rfl) ?_);simp only [wX,wW,strip])|((first | refine wIs fun K hK=>?_ | refine wOs fun K hK=>?_ | refine wQs fun K hK=>?_ | refine zW ?_ | refine zX ?_ | refine zY ?_ | refine zL ?_);simp [g0,g1,g2,g3,g4,g18,g19,g20,g21,g22,b0,hlt,hlt',w1,w2,w3,w4,hhl,hpl2,e1,e2,hz'])|(refine wIn ?_;refine And.intro (by kernel_rfl) ?_;try simp only [zZ])|(first | refine zQ ?_ | refine zS ?_)|((first | refine zI ?_ | refine zO ?_ | refine zP ?_);try simp)|((first | refine zR ?_ | refine wOn ?_ | refine wQn ?_);try simp only [zZ])
   all_goals refine hL _ f (by omega) ⟨i,h,⟨by omega,by omega,by omega,by omega,q5⟩,?_⟩
   all_goals simp [g0,g1,g2,g3,g4,g18,g19,g20,g21,g22,b0,w2]
  ·have hz' : ¬ z < 0 := fun hh => hp (hz.1 hh)
   rw [if_pos (by simp [hp])] at q5
   repeat' first|(refine zU.pure (c1) rfl ?_)|(refine zU.lent (c1) rfl ?_)|(refine zT.pure (c1) rfl ?_)|(refine zT.lent (c1) rfl ?_)|(refine zU.own (c1) ?_)|(refine zV.pure (c1) rfl ?_)|(refine zV.lent (c1) rfl ?_)|(refine zV.own (c1) ?_)|(refine hK _ ?_;clear hK)|(refine hK _ _ ?_;clear hK)|(clear hK;refine hK _ ?_;clear hK)|(clear hK;clear hK;refine hK _ ?_;clear hK)|(clear hK;clear hK;clear hK;refine hK _ ?_;clear hK)|(clear hK;clear hK;clear hK;clear hK;refine hK _ ?_;clear hK)|(refine zJ fun K hK=>?_)|((first | refine zH ?_ | refine zN rfl (by kernel_rfl) ?_ | refine zM ?_ | refine zK (by kernel_rfl) ?_);simp only [wX,wW,strip])|((first | refine wIs fun K hK=>?_ | refine wOs fun K hK=>?_ | refine wQs fun K hK=>?_ | refine zW ?_ | refine zX ?_ | refine zY ?_ | refine zL ?_);simp [g0,g1,g2,g3,g4,g18,g19,g20,g21,g22,b0,hlt,hlt',w1,w2,w3,w4,hhl,hpl2,e1,e2,hz'])|(refine wIn ?_;refine And.intro (by kernel_rfl) ?_;try simp only [zZ])|(first | refine zQ ?_ | refine zS ?_)|((first | refine zI ?_ | refine zO ?_ | refine zP ?_);try simp)|((first | refine zR ?_ | refine wOn ?_ | refine wQn ?_);try simp only [zZ])
   all_goals refine hL _ f (by omega) ⟨h + 1,j,⟨by omega,by omega,by omega,by omega,q5⟩,?_⟩
   all_goals simp [g0,g1,g2,g3,g4,g18,g19,g20,g21,g22,b0,w3]
 ·have hlt' : ¬ (i : Int) < j := by omega
  rw [bsL_end _ _ _ _ hlt] at q5
  repeat' first|(refine hK _ ?_;clear hK)|(refine hK _ _ ?_;clear hK)|(clear hK;refine hK _ ?_;clear hK)|(clear hK;clear hK;refine hK _ ?_;clear hK)|(clear hK;clear hK;clear hK;refine hK _ ?_;clear hK)|(clear hK;clear hK;clear hK;clear hK;refine hK _ ?_;clear hK)|(refine zJ fun K hK=>?_)|((first | refine zH ?_ | refine zN rfl (by kernel_rfl) ?_ | refine zM ?_ | refine zK (by kernel_rfl) ?_);simp only [wX,wW,strip])|((first | refine wIs fun K hK=>?_ | refine wOs fun K hK=>?_ | refine wQs fun K hK=>?_ | refine zW ?_ | refine zX ?_ | refine zY ?_ | refine zL ?_);simp [g0,g1,g2,g3,g4,g18,g19,g20,g21,g22,b0,hlt,hlt'])|(refine wIn ?_;refine And.intro (by kernel_rfl) ?_;try simp only [zZ])|(first | refine zQ ?_ | refine zS ?_)|((first | refine zI ?_ | refine zO ?_ | refine zP ?_);try simp)|((first | refine zR ?_ | refine wOn ?_ | refine wQn ?_);try simp only [zZ])
  all_goals apply hex
  all_goals simp [g0,g1,g2,g3,g4,g18,g19,g20,g21,g22,b0,q5]
end Go.Proofs.YtjekjpgccnhobaaDoor
