/- Texts that the proof needs: SO RS1 QB QC QCQ DAQ SP SS1 SS2 SS3 SS4 SS5 DEW DFW SX1 SX2 SX3 SX4 SX5 SX6. -/
import Derived.Test.YtpilcadofjcdoaaP21WatchSees
import Derived.Test.YtpilcadofjcdoaaP29WatchSees
import Derived.Test.YtpilcadofjcdoaaP30WatchSees
namespace Go.Proofs.Ytpilcadofjcdoaa
set_option linter.unusedSimpArgs false
set_option linter.unusedVariables false
open Go Go.Av
attribute [local irreducible] Go.Av.yQ Go.Av.zZ Go.Av.yG Go.Av.zT Go.Av.yH Go.Av.zY Go.Av.Con
def insM (x : Mb) : List Mb -> List Mb
 | []=>[x]
 | y :: T=>if x.i < y.i then x :: y :: T else y :: insM x T
def wQ (l : List Mb) : List Mb := l.foldl (fun T x => insM x T) []
def Ord (l : List Mb) : Prop := l.Pairwise (fun a b => a.i <= b.i)
theorem insM_len (x : Mb) : ∀ T, (insM x T).length = T.length + 1
 | []=>rfl
 | y :: T=>by unfold insM;split <;> simp [insM_len x T]
theorem insM_mem (x z : Mb) : ∀ T, z ∈ insM x T ↔ z = x \/ z ∈ T
 | []=>by simp [insM]
 | y :: T => by
  unfold insM
  split
  ·simp
  ·simp only [List.mem_cons, insM_mem x z T]
   constructor
   ·rintro (h | h | h) <;> simp [h]
   ·rintro (h | h | h) <;> simp [h]
theorem insM_ord (x : Mb) : ∀ T, Ord T -> Ord (insM x T)
 | [],_=>by simp [insM,Ord]
 | y :: T, h => by
  unfold Ord at h
  rw [List.pairwise_cons] at h
  unfold insM
  split
  ·rename_i hx
   unfold Ord
   rw [List.pairwise_cons,List.pairwise_cons]
   refine ⟨fun z hz=>?_,h⟩
   rcases List.mem_cons.1 hz with rfl | hz
   ·omega
   ·have:=h.1 z hz;omega
  ·rename_i hx
   unfold Ord
   rw [List.pairwise_cons]
   refine ⟨fun z hz=>?_,insM_ord x T h.2⟩
   rcases (insM_mem x z T).1 hz with rfl | hz
   ·omega
   ·exact h.1 z hz
theorem insM_split (x : Mb) (B : List Mb) (hB : ∀ y ∈ B, x.i < y.i) : ∀ A : List Mb, (∀ y ∈ A, ¬ x.i < y.i) -> insM x (A ++ B) = A ++ x :: B
 | [], _ => by
  cases B with
  | nil=>rfl
  | cons y B=>simp [insM,hB y (by simp)]
 | y :: A, h => by
  simp only [List.cons_append,insM]
  rw [if_neg (h y (by simp)),insM_split x B hB A fun z hz=>h z (List.mem_cons_of_mem _ hz)]
theorem srtM_snoc (l : List Mb) (x : Mb) : wQ (l ++ [x]) = insM x (wQ l) := by simp [wQ, List.foldl_append]
theorem srtM_spec (l : List Mb) : (wQ l).length = l.length /\ Ord (wQ l) /\ ∀ z, z ∈ wQ l ↔ z ∈ l := by
 have : ∀ (m T : List Mb), Ord T -> (m.foldl (fun T x => insM x T) T).length = T.length + m.length /\ Ord (m.foldl (fun T x => insM x T) T) /\ ∀ z, z ∈ m.foldl (fun T x => insM x T) T ↔ z ∈ T \/ z ∈ m := by
  intro m
  induction m with
  | nil=>intro T h;simp [h]
  | cons x m ih =>
   intro T h
   obtain ⟨h1,h2,h3⟩:=ih (insM x T) (insM_ord x T h)
   simp only [List.foldl_cons]
   refine ⟨by rw [h1,insM_len];simp;omega,h2,fun z=>?_⟩
   rw [h3,insM_mem,List.mem_cons]
   constructor
   ·rintro ((h | h) | h) <;> simp [h]
   ·rintro (h | h | h) <;> simp [h]
 obtain ⟨h1,h2,h3⟩:=this l [] (by simp [Ord])
 exact ⟨by simpa [wQ] using h1,h2,fun z=>by have:=h3 z;simpa [wQ] using this⟩
theorem srtM_len (l : List Mb) : (wQ l).length = l.length := (srtM_spec l).1
theorem mbs_setS (l : List Mb) (k : Nat) (x : Mb) : (mbs l).set k [I x.i, I x.r, I x.w, I x.g] = mbs (l.set k x) := by simp [mbs, Mb.cells, List.map_set]
theorem set_midS (A B : List Mb) (x y : Mb) (j : Nat) (h : j = A.length) : (A ++ x :: B).set j y = A ++ y :: B := by
 subst h
 rw [List.set_append_right _ _ (Nat.le_refl _)];simp
theorem get_midS (A B : List Mb) (x : Mb) (j : Nat) (h : j < A.length) (h' : j < (A ++ x :: B).length) : (A ++ x :: B)[j] = A[j] := List.getElem_append_left h
theorem takeS_prev (S : List Mb) (j : Nat) (h0 : 0 < j) (h : j <= S.length) : S.take j = S.take (j - 1) ++ [S[j - 1]] := by
 have e : j = (j - 1) + 1:=by omega
 conv=>lhs;rw [e]
 rw [List.take_succ_eq_append_getElem (by omega)]
theorem dropS_prev (S : List Mb) (j : Nat) (h0 : 0 < j) (h : j <= S.length) : S.drop (j - 1) = S[j - 1] :: S.drop j := by
 rw [List.drop_eq_getElem_cons (by omega)]
 congr 2;omega
theorem headS {S : List Mb} (hS : Ord S) (m : Mb) (j : Nat) (hj : j <= S.length) (h : j = 0 \/ ∃ h0 : 0 < j, ¬ m.i < (S[j - 1]'(by omega)).i) : ∀ y ∈ S.take j, ¬ m.i < y.i := by
 rcases h with rfl | ⟨h0,h⟩
 ·intro y hy;simp at hy
 ·intro y hy
  obtain ⟨i,hi,rfl⟩:=List.mem_iff_getElem.1 hy
  rw [List.length_take] at hi
  rw [List.getElem_take]
  by_cases e : i = j - 1
  ·subst e;exact h
  ·have := List.pairwise_iff_getElem.1 hS i (j - 1) (by omega) (by omega) (by omega)
   omega
set_option maxHeartbeats 4000000 in
theorem sort04R_con (l : List Mb) (hl : l.length <= 4398046511000) : RCon 48 [.p (.sl 4 (mbs l))] 86 4 (mbs (wQ l)) := by
 refine wBodyR Try.tab Try.mixed Try.func48 rfl rfl Try.ntmps48 rfl (by simp) (by simp) fun Q hr hn=>?_
 repeat' first|(refine hK _ ?_;clear hK)|(refine hK _ _ ?_;clear hK)|(clear hK;refine hK _ ?_;clear hK)|(clear hK;clear hK;refine hK _ ?_;clear hK)|(clear hK;clear hK;clear hK;refine hK _ ?_;clear hK)|(clear hK;clear hK;clear hK;clear hK;refine hK _ ?_;clear hK)|(refine zJ fun K hK=>?_)|((first | refine zH ?_ | refine zN rfl (by kernel_rfl) ?_ | refine zM ?_ | refine zK (by kernel_rfl) ?_);simp only [wJ,wI,strip])|((first | refine wIs fun K hK=>?_ | refine wOs fun K hK=>?_ | refine wQs fun K hK=>?_ | refine zU ?_ | refine zV ?_ | refine zW ?_ | refine zL ?_);simp)|(refine wIn ?_;refine And.intro (by kernel_rfl) ?_;try simp only [zX])|(first | refine zQ ?_ | refine zS ?_)|((first | refine zI ?_ | refine zO ?_ | refine zP ?_);try simp)|((first | refine zR ?_ | refine wOn ?_ | refine wQn ?_);try simp only [zX])
 refine wLoopG [.row 3 86 4] (fun N st=>∃ k,k + N = l.length /\ st.s 3 = .row 3 /\ st.s 7 = .p (.sl 4 (mbs l)) /\ st.s 8 = .p (I l.length) /\ st.s 9 = .p (I k) /\ st.b 3 = some (.row 86 4 (mbs (wQ (l.take k))))) l.length ⟨0,by simp [wQ,mbs]⟩ fun K N st hL ⟨k,hk,h3,h7,h8,h9,b3⟩=>?_
 by_cases hlt : k < l.length
 ·have hw := xY k _ hlt (by omega)
  have he:=mbs_get hlt
  have hsn : wQ (l.take (k + 1)) = insM l[k] (wQ (l.take k)):=by rw [List.take_succ_eq_append_getElem hlt,srtM_snoc]
  have hSo:=(srtM_spec (l.take k)).2.1
  have hSl : (wQ (l.take k)).length = k:=by rw [srtM_len,List.length_take];omega
  generalize wQ (l.take k) = S at *
  generalize hT : wQ (l.take (k + 1)) = T at *
  generalize hF : l[k] = m at *
  have ha : mbs S ++ [[I m.i,I m.r,I m.w,I m.g]] = mbs (S ++ [m]):=by simp [mbs,Mb.cells]
  have hml : (mbs S).length = k:=by simpa using hSl
  repeat' first|(refine And.intro (by (try simp only [hml]);omega) ?_)|(refine hK _ ?_;clear hK)|(refine hK _ _ ?_;clear hK)|(clear hK;refine hK _ ?_;clear hK)|(clear hK;clear hK;refine hK _ ?_;clear hK)|(clear hK;clear hK;clear hK;refine hK _ ?_;clear hK)|(clear hK;clear hK;clear hK;clear hK;refine hK _ ?_;clear hK)|(refine zJ fun K hK=>?_)|((first | refine zH ?_ | refine zN rfl (by kernel_rfl) ?_ | refine zM ?_ | refine zK (by kernel_rfl) ?_);simp only [wJ,wI,strip])|((first | refine wIs fun K hK=>?_ | refine wOs fun K hK=>?_ | refine wQs fun K hK=>?_ | refine zU ?_ | refine zV ?_ | refine zW ?_ | refine zL ?_);simp [h3,h7,h8,h9,b3,hlt,hw,he,hF,ha,hml])|(refine wIn ?_;refine And.intro (by kernel_rfl) ?_;try simp only [zX])|(first | refine zQ ?_ | refine zS ?_)|((first | refine zI ?_ | refine zO ?_ | refine zP ?_);try simp)|((first | refine zR ?_ | refine wOn ?_ | refine wQn ?_);try simp only [zX])
  refine xS (fun N st=>∃ (j : Nat) (x : Mb),j = N /\ j <= k /\ (∀ y ∈ S.drop j,m.i < y.i) /\ st.s 3 = .row 3 /\ st.s 5 = .ptr 5 0 /\ st.b 5 = some (.box 86 [.p (I m.i),.p (I m.r),.p (I m.w),.p (I m.g)]) /\ st.s 6 = .p (I j) /\ st.s 7 = .p (.sl 4 (mbs l)) /\ st.s 8 = .p (I l.length) /\ st.s 9 = .p (I k) /\ st.b 3 = some (.row 86 4 (mbs (S.take j ++ x :: S.drop j)))) k ⟨k,m,rfl,Nat.le_refl _,?_⟩ fun K' N' st hL2 ⟨j,x,hj,hjk,hd,h3,h5,b5,h6,h7,h8,h9,b3⟩=>?_
  ·rw [List.take_of_length_le (by omega), List.drop_of_length_le (by omega)]
   simp [h3,h7,h8,h9,b3,hF,ha]
  have hXl : (S.take j ++ x :: S.drop j).length = k + 1:=by simp;omega
  by_cases hj0 : 0 < j
  ·have hj0' : (0 : Int) < j := by omega
   have hwj : IntKind.i64.wrap ((j : Int) - 1) = ((j - 1 : Nat) : Int):=by rw [yW] <;> omega
   have hjl : j - 1 < (S.take j ++ x :: S.drop j).length:=by omega
   have hY : ∀ h',(S.take j ++ x :: S.drop j)[j - 1]'h' = S[j - 1]:=fun h'=>by rw [get_midS _ _ _ _ (by rw [List.length_take];omega),List.getElem_take]
   have hj1 : j - 1 < k + 1:=by omega
   by_cases hc : m.i < S[j - 1].i
   ·have hset : (mbs (S.take j ++ x :: S.drop j)).set j [I S[j - 1].i, I S[j - 1].r, I S[j - 1].w, I S[j - 1].g] = mbs (S.take (j - 1) ++ S[j - 1] :: S.drop (j - 1)) := by
     rw [mbs_setS,set_midS _ _ _ _ _ (by rw [List.length_take];omega),dropS_prev S j hj0 (by omega),takeS_prev S j hj0 (by omega),List.append_assoc];rfl
    have hd2 : ∀ y ∈ S.drop (j - 1), m.i < y.i := by
     rw [dropS_prev S j hj0 (by omega)]
     intro y hy
     rcases List.mem_cons.1 hy with rfl | hy
     ·exact hc
     ·exact hd y hy
    have hjk1 : j < k + 1:=by omega
    generalize S[j - 1] = p at *
    generalize S.take j ++ x :: S.drop j = Y at *
    repeat' first|(refine hK _ ?_;clear hK)|(refine hK _ _ ?_;clear hK)|(clear hK;refine hK _ ?_;clear hK)|(clear hK;clear hK;refine hK _ ?_;clear hK)|(clear hK;clear hK;clear hK;refine hK _ ?_;clear hK)|(clear hK;clear hK;clear hK;clear hK;refine hK _ ?_;clear hK)|(refine zJ fun K hK=>?_)|((first | refine zH ?_ | refine zN rfl (by kernel_rfl) ?_ | refine zM ?_ | refine zK (by kernel_rfl) ?_);simp only [wJ,wI,strip])|((first | refine wIs fun K hK=>?_ | refine wOs fun K hK=>?_ | refine wQs fun K hK=>?_ | refine zU ?_ | refine zV ?_ | refine zW ?_ | refine zL ?_);simp [h3,h5,b5,h6,h7,h8,h9,b3,hj0,hj0',hwj,hY,hXl,hj1,hjk1,hc,hset])|(refine wIn ?_;refine And.intro (by kernel_rfl) ?_;try simp only [zX])|(first | refine zQ ?_ | refine zS ?_)|((first | refine zI ?_ | refine zO ?_ | refine zP ?_);try simp)|((first | refine zR ?_ | refine wOn ?_ | refine wQn ?_);try simp only [zX])
    refine hL2 _ (N' - 1) (by omega) ⟨j - 1,p,by omega,by omega,hd2,?_⟩
    simp [h3,h5,b5,h6,h7,h8,h9,b3,hwj,hset]
   ·have hset : (mbs (S.take j ++ x :: S.drop j)).set j [I m.i, I m.r, I m.w, I m.g] = mbs T := by
     rw [mbs_setS,set_midS _ _ _ _ _ (by rw [List.length_take];omega),hsn]
     conv=>rhs;rw [<- List.take_append_drop j S]
     rw [insM_split m _ hd _ (headS hSo m j (by omega) (.inr ⟨hj0,hc⟩))]
    have hjk1 : j < k + 1:=by omega
    generalize S[j - 1] = p at *
    generalize S.take j ++ x :: S.drop j = Y at *
    repeat' first|(refine hK _ ?_;clear hK)|(refine hK _ _ ?_;clear hK)|(clear hK;refine hK _ ?_;clear hK)|(clear hK;clear hK;refine hK _ ?_;clear hK)|(clear hK;clear hK;clear hK;refine hK _ ?_;clear hK)|(clear hK;clear hK;clear hK;clear hK;refine hK _ ?_;clear hK)|(refine zJ fun K hK=>?_)|((first | refine zH ?_ | refine zN rfl (by kernel_rfl) ?_ | refine zM ?_ | refine zK (by kernel_rfl) ?_);simp only [wJ,wI,strip])|((first | refine wIs fun K hK=>?_ | refine wOs fun K hK=>?_ | refine wQs fun K hK=>?_ | refine zU ?_ | refine zV ?_ | refine zW ?_ | refine zL ?_);simp [h3,h5,b5,h6,h7,h8,h9,b3,hj0,hj0',hwj,hY,hXl,hj1,hjk1,hc,hset,hw])|(refine wIn ?_;refine And.intro (by kernel_rfl) ?_;try simp only [zX])|(first | refine zQ ?_ | refine zS ?_)|((first | refine zI ?_ | refine zO ?_ | refine zP ?_);try simp)|((first | refine zR ?_ | refine wOn ?_ | refine wQn ?_);try simp only [zX])
    refine hL _ (N - 1) (by omega) ⟨k + 1,by omega,?_⟩
    simp [h3,h5,b5,h6,h7,h8,h9,b3,hset,hw,hT]
  ·obtain rfl : j = 0 := by omega
   have hset : (mbs (S.take 0 ++ x :: S.drop 0)).set 0 [I m.i, I m.r, I m.w, I m.g] = mbs T := by
    rw [mbs_setS,set_midS _ _ _ _ _ (by simp),hsn]
    conv=>rhs;rw [<- List.take_append_drop 0 S]
    rw [insM_split m _ hd _ (headS hSo m 0 (by omega) (.inl rfl))]
   have hjk1 : 0 < k + 1:=by omega
   generalize S.take 0 ++ x :: S.drop 0 = Y at *
   repeat' first|(refine hK _ ?_;clear hK)|(refine hK _ _ ?_;clear hK)|(clear hK;refine hK _ ?_;clear hK)|(clear hK;clear hK;refine hK _ ?_;clear hK)|(clear hK;clear hK;clear hK;refine hK _ ?_;clear hK)|(clear hK;clear hK;clear hK;clear hK;refine hK _ ?_;clear hK)|(refine zJ fun K hK=>?_)|((first | refine zH ?_ | refine zN rfl (by kernel_rfl) ?_ | refine zM ?_ | refine zK (by kernel_rfl) ?_);simp only [wJ,wI,strip])|((first | refine wIs fun K hK=>?_ | refine wOs fun K hK=>?_ | refine wQs fun K hK=>?_ | refine zU ?_ | refine zV ?_ | refine zW ?_ | refine zL ?_);simp [h3,h5,b5,h6,h7,h8,h9,b3,hXl,hjk1,hset,hw])|(refine wIn ?_;refine And.intro (by kernel_rfl) ?_;try simp only [zX])|(first | refine zQ ?_ | refine zS ?_)|((first | refine zI ?_ | refine zO ?_ | refine zP ?_);try simp)|((first | refine zR ?_ | refine wOn ?_ | refine wQn ?_);try simp only [zX])
   refine hL _ (N - 1) (by omega) ⟨k + 1,by omega,?_⟩
   simp [h3,h5,b5,h6,h7,h8,h9,b3,hset,hw,hT]
 ·rw [List.take_of_length_le (by omega)] at b3
  generalize wQ l = S at *
  repeat' first|(refine hK _ ?_;clear hK)|(refine hK _ _ ?_;clear hK)|(clear hK;refine hK _ ?_;clear hK)|(clear hK;clear hK;refine hK _ ?_;clear hK)|(clear hK;clear hK;clear hK;refine hK _ ?_;clear hK)|(clear hK;clear hK;clear hK;clear hK;refine hK _ ?_;clear hK)|(refine zJ fun K hK=>?_)|((first | refine zH ?_ | refine zN rfl (by kernel_rfl) ?_ | refine zM ?_ | refine zK (by kernel_rfl) ?_);simp only [wJ,wI,strip])|((first | refine wIs fun K hK=>?_ | refine wOs fun K hK=>?_ | refine wQs fun K hK=>?_ | refine zU ?_ | refine zV ?_ | refine zW ?_ | refine zL ?_);simp [h3,h7,h8,h9,b3,hlt])|(refine wIn ?_;refine And.intro (by kernel_rfl) ?_;try simp only [zX])|(first | refine zQ ?_ | refine zS ?_)|((first | refine zI ?_ | refine zO ?_ | refine zP ?_);try simp)|((first | refine zR ?_ | refine wOn ?_ | refine wQn ?_);try simp only [zX])
  all_goals refine hr _ 3 (by simp [h3]) (by simp [b3]) (by omega)
def carrier (kind : Int) (m : Mb) : Bool := decide (m.r = 1) && (decide (kind = 1) || decide (0 < m.w))
def carries (kind : Int) (l : List Mb) : Bool := l.any (carrier kind)
def fine (p : Int) : List Mb -> Bool
 | []=>true
 | m :: l=>decide (okM m /\ p < m.i) && fine m.i l
def ranged (c : Cf) : Prop := (1 <= c.kind /\ c.kind <= 3) /\ (0 <= c.ep /\ c.ep <= 1099511627776) /\ (0 <= c.n /\ c.n <= 1099511627776)
instance (c : Cf) : Decidable (ranged c) := by unfold ranged; infer_instance
def check (c : Cf) : Int := if ranged c then if fine (-1) c.ms = true then if carries c.kind c.ms = true then 0 else 15 else 1 else 1
def prevI (l : List Mb) (k : Nat) : Int := if h : 0 < k /\ k <= l.length then (l[k - 1]'(by omega)).i else -1
theorem xH (l : List Mb) (k : Nat) (h : k < l.length) : prevI l (k + 1) = l[k].i := by
 unfold prevI;rw [dif_pos ⟨by omega,by omega⟩];rfl
theorem prevI_pos (l : List Mb) (k : Nat) (h0 : 0 < k) (h : k < l.length) : prevI l k = (l[k - 1]'(by omega)).i := by
 unfold prevI;rw [dif_pos ⟨by omega,by omega⟩]
theorem prevI_zero (l : List Mb) : prevI l 0 = -1 := by unfold prevI; rw [dif_neg (by omega)]
def wsum : List Mb -> Int
 | []=>0
 | m :: l=>(if m.r = 1 then m.w else 0) + wsum l
def cnt : List Mb -> Int
 | []=>0
 | m :: l=>(if m.r = 1 then 1 else 0) + cnt l
theorem sums (kind : Int) (l : List Mb) : ∀ p, fine p l = true -> 0 <= wsum l /\ 0 <= cnt l /\ (cnt l = 0 -> wsum l = 0) /\ (kind = 1 -> carries kind l = decide (0 < cnt l)) /\ (kind ≠ 1 -> carries kind l = decide (0 < wsum l)) := by
 induction l with
 | nil=>intro p h;simp [wsum,cnt,carries]
 | cons m l ih =>
  intro p h
  simp only [fine,Bool.and_eq_true,decide_eq_true_eq] at h
  obtain ⟨⟨ho,hp⟩,hf⟩:=h
  obtain ⟨e1,e2,e3,e4,e5⟩:=ih _ hf
  have hw:=ho.2.2.1
  simp only [wsum,cnt,carries,List.any_cons,carrier] at *
  by_cases hr : m.r = 1
  ·simp only [hr, if_true, decide_true, Bool.true_and]
   refine ⟨by omega,by omega,by omega,fun hk=>?_,fun hk=>?_⟩
   ·simp [hk];omega
   ·rw [e5 hk]
    by_cases g : 0 < m.w
    ·simp [hk,g];omega
    ·simp [hk,g,show m.w = 0 by omega]
  ·simp only [hr, if_false, decide_false, Bool.false_and, Bool.false_or, Int.zero_add]
   exact ⟨e1,e2,e3,e4,e5⟩
set_option maxHeartbeats 8000000 in
theorem check04_con (c : Cf) (hl : c.ms.length <= 1000000) : zF Try.prog 13 [.p (.agg c.cells)] (.p (I (check c))) := by
 obtain ⟨ep,n,kind,l⟩:=c
 simp only [Cf.cells,check,ranged] at hl ⊢
 by_cases g1 : kind < 1
 ·have g1' : ¬ 1 <= kind := by omega
  refine zG Try.tab Try.mixed Try.func13 rfl rfl Try.ntmps13 (by simp) (by simp) fun Q hr hn=>?_
  repeat' first|(refine hK _ ?_;clear hK)|(refine hK _ _ ?_;clear hK)|(clear hK;refine hK _ ?_;clear hK)|(clear hK;clear hK;refine hK _ ?_;clear hK)|(clear hK;clear hK;clear hK;refine hK _ ?_;clear hK)|(clear hK;clear hK;clear hK;clear hK;refine hK _ ?_;clear hK)|(refine zJ fun K hK=>?_)|((first | refine zH ?_ | refine zN rfl (by kernel_rfl) ?_ | refine zM ?_ | refine zK (by kernel_rfl) ?_);simp only [wJ,wI,strip])|((first | refine wIs fun K hK=>?_ | refine wOs fun K hK=>?_ | refine wQs fun K hK=>?_ | refine zU ?_ | refine zV ?_ | refine zW ?_ | refine zL ?_);simp [g1])|(refine wIn ?_;refine And.intro (by kernel_rfl) ?_;try simp only [zX])|(first | refine zQ ?_ | refine zS ?_)|((first | refine zI ?_ | refine zO ?_ | refine zP ?_);try simp)|((first | refine zR ?_ | refine wOn ?_ | refine wQn ?_);try simp only [zX])
  all_goals apply hr
  all_goals simp [Try.f13,g1']
 by_cases g2 : 3 < kind
 ·have g2' : ¬ kind <= 3 := by omega
  refine zG Try.tab Try.mixed Try.func13 rfl rfl Try.ntmps13 (by simp) (by simp) fun Q hr hn=>?_
  repeat' first|(refine hK _ ?_;clear hK)|(refine hK _ _ ?_;clear hK)|(clear hK;refine hK _ ?_;clear hK)|(clear hK;clear hK;refine hK _ ?_;clear hK)|(clear hK;clear hK;clear hK;refine hK _ ?_;clear hK)|(clear hK;clear hK;clear hK;clear hK;refine hK _ ?_;clear hK)|(refine zJ fun K hK=>?_)|((first | refine zH ?_ | refine zN rfl (by kernel_rfl) ?_ | refine zM ?_ | refine zK (by kernel_rfl) ?_);simp only [wJ,wI,strip])|((first | refine wIs fun K hK=>?_ | refine wOs fun K hK=>?_ | refine wQs fun K hK=>?_ | refine zU ?_ | refine zV ?_ | refine zW ?_ | refine zL ?_);simp [g1,g2])|(refine wIn ?_;refine And.intro (by kernel_rfl) ?_;try simp only [zX])|(first | refine zQ ?_ | refine zS ?_)|((first | refine zI ?_ | refine zO ?_ | refine zP ?_);try simp)|((first | refine zR ?_ | refine wOn ?_ | refine wQn ?_);try simp only [zX])
  all_goals apply hr
  all_goals simp [Try.f13,g2']
 by_cases g3 : ep < 0
 ·have g3' : ¬ 0 <= ep := by omega
  refine zG Try.tab Try.mixed Try.func13 rfl rfl Try.ntmps13 (by simp) (by simp) fun Q hr hn=>?_
  repeat' first|(refine hK _ ?_;clear hK)|(refine hK _ _ ?_;clear hK)|(clear hK;refine hK _ ?_;clear hK)|(clear hK;clear hK;refine hK _ ?_;clear hK)|(clear hK;clear hK;clear hK;refine hK _ ?_;clear hK)|(clear hK;clear hK;clear hK;clear hK;refine hK _ ?_;clear hK)|(refine zJ fun K hK=>?_)|((first | refine zH ?_ | refine zN rfl (by kernel_rfl) ?_ | refine zM ?_ | refine zK (by kernel_rfl) ?_);simp only [wJ,wI,strip])|((first | refine wIs fun K hK=>?_ | refine wOs fun K hK=>?_ | refine wQs fun K hK=>?_ | refine zU ?_ | refine zV ?_ | refine zW ?_ | refine zL ?_);simp [g1,g2,g3])|(refine wIn ?_;refine And.intro (by kernel_rfl) ?_;try simp only [zX])|(first | refine zQ ?_ | refine zS ?_)|((first | refine zI ?_ | refine zO ?_ | refine zP ?_);try simp)|((first | refine zR ?_ | refine wOn ?_ | refine wQn ?_);try simp only [zX])
  all_goals apply hr
  all_goals simp [Try.f13,g3']
 by_cases g4 : 1099511627776 < ep
 ·have g4' : ¬ ep <= 1099511627776 := by omega
  refine zG Try.tab Try.mixed Try.func13 rfl rfl Try.ntmps13 (by simp) (by simp) fun Q hr hn=>?_
  repeat' first|(refine hK _ ?_;clear hK)|(refine hK _ _ ?_;clear hK)|(clear hK;refine hK _ ?_;clear hK)|(clear hK;clear hK;refine hK _ ?_;clear hK)|(clear hK;clear hK;clear hK;refine hK _ ?_;clear hK)|(clear hK;clear hK;clear hK;clear hK;refine hK _ ?_;clear hK)|(refine zJ fun K hK=>?_)|((first | refine zH ?_ | refine zN rfl (by kernel_rfl) ?_ | refine zM ?_ | refine zK (by kernel_rfl) ?_);simp only [wJ,wI,strip])|((first | refine wIs fun K hK=>?_ | refine wOs fun K hK=>?_ | refine wQs fun K hK=>?_ | refine zU ?_ | refine zV ?_ | refine zW ?_ | refine zL ?_);simp [g1,g2,g3,g4])|(refine wIn ?_;refine And.intro (by kernel_rfl) ?_;try simp only [zX])|(first | refine zQ ?_ | refine zS ?_)|((first | refine zI ?_ | refine zO ?_ | refine zP ?_);try simp)|((first | refine zR ?_ | refine wOn ?_ | refine wQn ?_);try simp only [zX])
  all_goals apply hr
  all_goals simp [Try.f13,g4']
 by_cases g5 : n < 0
 ·have g5' : ¬ 0 <= n := by omega
  refine zG Try.tab Try.mixed Try.func13 rfl rfl Try.ntmps13 (by simp) (by simp) fun Q hr hn=>?_
  repeat' first|(refine hK _ ?_;clear hK)|(refine hK _ _ ?_;clear hK)|(clear hK;refine hK _ ?_;clear hK)|(clear hK;clear hK;refine hK _ ?_;clear hK)|(clear hK;clear hK;clear hK;refine hK _ ?_;clear hK)|(clear hK;clear hK;clear hK;clear hK;refine hK _ ?_;clear hK)|(refine zJ fun K hK=>?_)|((first | refine zH ?_ | refine zN rfl (by kernel_rfl) ?_ | refine zM ?_ | refine zK (by kernel_rfl) ?_);simp only [wJ,wI,strip])|((first | refine wIs fun K hK=>?_ | refine wOs fun K hK=>?_ | refine wQs fun K hK=>?_ | refine zU ?_ | refine zV ?_ | refine zW ?_ | refine zL ?_);simp [g1,g2,g3,g4,g5])|(refine wIn ?_;refine And.intro (by kernel_rfl) ?_;try simp only [zX])|(first | refine zQ ?_ | refine zS ?_)|((first | refine zI ?_ | refine zO ?_ | refine zP ?_);try simp)|((first | refine zR ?_ | refine wOn ?_ | refine wQn ?_);try simp only [zX])
  all_goals apply hr
  all_goals simp [Try.f13,g5']
 by_cases g6 : 1099511627776 < n
 ·have g6' : ¬ n <= 1099511627776 := by omega
  refine zG Try.tab Try.mixed Try.func13 rfl rfl Try.ntmps13 (by simp) (by simp) fun Q hr hn=>?_
  repeat' first|(refine hK _ ?_;clear hK)|(refine hK _ _ ?_;clear hK)|(clear hK;refine hK _ ?_;clear hK)|(clear hK;clear hK;refine hK _ ?_;clear hK)|(clear hK;clear hK;clear hK;refine hK _ ?_;clear hK)|(clear hK;clear hK;clear hK;clear hK;refine hK _ ?_;clear hK)|(refine zJ fun K hK=>?_)|((first | refine zH ?_ | refine zN rfl (by kernel_rfl) ?_ | refine zM ?_ | refine zK (by kernel_rfl) ?_);simp only [wJ,wI,strip])|((first | refine wIs fun K hK=>?_ | refine wOs fun K hK=>?_ | refine wQs fun K hK=>?_ | refine zU ?_ | refine zV ?_ | refine zW ?_ | refine zL ?_);simp [g1,g2,g3,g4,g5,g6])|(refine wIn ?_;refine And.intro (by kernel_rfl) ?_;try simp only [zX])|(first | refine zQ ?_ | refine zS ?_)|((first | refine zI ?_ | refine zO ?_ | refine zP ?_);try simp)|((first | refine zR ?_ | refine wOn ?_ | refine wQn ?_);try simp only [zX])
  all_goals apply hr
  all_goals simp [Try.f13,g6']
 rw [if_pos ⟨⟨by omega,by omega⟩,⟨by omega,by omega⟩,⟨by omega,by omega⟩⟩]
 refine zG Try.tab Try.mixed Try.func13 rfl rfl Try.ntmps13 (by simp) (by simp) fun Q hr hn=>?_
 repeat' first|(refine hK _ ?_;clear hK)|(refine hK _ _ ?_;clear hK)|(clear hK;refine hK _ ?_;clear hK)|(clear hK;clear hK;refine hK _ ?_;clear hK)|(clear hK;clear hK;clear hK;refine hK _ ?_;clear hK)|(clear hK;clear hK;clear hK;clear hK;refine hK _ ?_;clear hK)|(refine zJ fun K hK=>?_)|((first | refine zH ?_ | refine zN rfl (by kernel_rfl) ?_ | refine zM ?_ | refine zK (by kernel_rfl) ?_);simp only [wJ,wI,strip])|((first | refine wIs fun K hK=>?_ | refine wOs fun K hK=>?_ | refine wQs fun K hK=>?_ | refine zU ?_ | refine zV ?_ | refine zW ?_ | refine zL ?_);simp [g1,g2,g3,g4,g5,g6])|(refine wIn ?_;refine And.intro (by kernel_rfl) ?_;try simp only [zX])|(first | refine zQ ?_ | refine zS ?_)|((first | refine zI ?_ | refine zO ?_ | refine zP ?_);try simp)|((first | refine zR ?_ | refine wOn ?_ | refine wQn ?_);try simp only [zX])
 refine xS (fun N st => ∃ (k : Nat) (a b : Int), k + N = l.length /\ st.s 1 = .ptr 1 0 /\ st.b 1 = some (.box 28 [.p (I ep), .p (I n), .p (I kind), .p (.sl 4 (mbs l))]) /\ st.s 40 = .p (.sl 4 (mbs l)) /\ st.s 41 = .p (I l.length) /\ st.s 42 = .p (I k) /\ st.s 3 = .p (I a) /\ st.s 4 = .p (I b) /\ fine (prevI l k) (l.drop k) = fine (-1) l ∧
  (0 <= a /\ a <= 100 * k /\ a + wsum (l.drop k) = wsum l) /\ (0 <= b /\ b <= k /\ b + cnt (l.drop k) = cnt l)) l.length ⟨0,0,0,by simp [prevI_zero]⟩ fun K N st hL ⟨k,a,b,hk,h1,b1,h40,h41,h42,h3,h4,hi,⟨ha0,ha1,ha⟩,⟨hb0,hb1,hb⟩⟩=>?_
 by_cases hlt : k < l.length
 ·have hw := xY k _ hlt (by omega)
  have hwb : IntKind.i64.wrap (b + 1) = b + 1:=by rw [yW] <;> omega
  rw [List.drop_eq_getElem_cons hlt,fine] at hi
  rw [List.drop_eq_getElem_cons hlt,wsum] at ha
  rw [List.drop_eq_getElem_cons hlt,cnt] at hb
  have cr:=ok04_con l[k]
  simp only [Mb.cells] at cr
  by_cases o1 : okM l[k]
  ·rw [decide_eq_true o1] at cr
   have hw0:=o1.2.2.1
   have hwa : IntKind.i64.wrap (a + l[k].w) = a + l[k].w:=by rw [yW] <;> omega
   by_cases o2 : 0 < k
   ·have o2' : (0 : Int) < k := by omega
    have hw1 : IntKind.i64.wrap ((k : Int) - 1) = ((k - 1 : Nat) : Int):=by rw [yW] <;> omega
    have hk1 : k - 1 < l.length:=by omega
    rw [prevI_pos l k o2 hlt] at hi
    by_cases o3 : l[k].i <= l[k - 1].i
    ·repeat' first | (refine hK _ ?_; clear hK) | (refine hK _ _ ?_; clear hK) | (clear hK; refine hK _ ?_; clear hK) | (clear hK; clear hK; refine hK _ ?_; clear hK) | (clear hK; clear hK; clear hK; refine hK _ ?_; clear hK) | (clear hK; clear hK; clear hK; clear hK; refine hK _ ?_; clear hK) | (refine zJ fun K hK => ?_) | ((first | refine zH ?_ | refine zN rfl (by kernel_rfl) ?_ | refine zM ?_ | refine zK (by kernel_rfl) ?_); simp only [wJ, wI, strip]) | ((first | refine wIs fun K hK => ?_ | refine wOs fun K hK => ?_ | refine wQs fun K hK => ?_ | refine zU ?_ | refine zV ?_ | refine zW ?_ | refine zL ?_); simp [h1, b1, h40, h41, h42, h3, h4, hlt, hw, o2, o2', hw1, hk1, o3]) | (refine wIn ?_; refine And.intro (by kernel_rfl) ?_; try simp only [zX]) | (first | refine zQ ?_ | refine zS ?_) | ((first | refine zI ?_ | refine zO ?_ | refine zP ?_); try simp) | ((first | refine zR ?_ | refine wOn ?_ | refine wQn ?_); try simp only [zX]) | (refine zZ.pure (cr) rfl ?_) | (refine zZ.lent (cr) rfl ?_) | (refine zT.pure (cr) rfl ?_) | (refine zT.lent (cr) rfl ?_) | (refine zZ.own (cr) ?_) | (refine zY.pure (cr) rfl ?_) | (refine zY.lent (cr) rfl ?_) | (refine zY.own (cr) ?_)
     all_goals apply hr
     all_goals simp [Try.f13]
     all_goals rw [decide_eq_false (by omega)] at hi
     all_goals simp [<- hi]
    ·rw [decide_eq_true ⟨o1, by omega⟩, Bool.true_and] at hi
     by_cases o4 : l[k].r = 1
     ·rw [o4] at cr
      repeat' first|(refine hK _ ?_;clear hK)|(refine hK _ _ ?_;clear hK)|(clear hK;refine hK _ ?_;clear hK)|(clear hK;clear hK;refine hK _ ?_;clear hK)|(clear hK;clear hK;clear hK;refine hK _ ?_;clear hK)|(clear hK;clear hK;clear hK;clear hK;refine hK _ ?_;clear hK)|(refine zJ fun K hK=>?_)|((first | refine zH ?_ | refine zN rfl (by kernel_rfl) ?_ | refine zM ?_ | refine zK (by kernel_rfl) ?_);simp only [wJ,wI,strip])|((first | refine wIs fun K hK=>?_ | refine wOs fun K hK=>?_ | refine wQs fun K hK=>?_ | refine zU ?_ | refine zV ?_ | refine zW ?_ | refine zL ?_);simp [h1,b1,h40,h41,h42,h3,h4,hlt,hw,o2,o2',hw1,hk1,o3,o4,hwa,hwb])|(refine wIn ?_;refine And.intro (by kernel_rfl) ?_;try simp only [zX])|(first | refine zQ ?_ | refine zS ?_)|((first | refine zI ?_ | refine zO ?_ | refine zP ?_);try simp)|((first | refine zR ?_ | refine wOn ?_ | refine wQn ?_);try simp only [zX])|(refine zZ.pure (cr) rfl ?_)|(refine zZ.lent (cr) rfl ?_)|(refine zT.pure (cr) rfl ?_)|(refine zT.lent (cr) rfl ?_)|(refine zZ.own (cr) ?_)|(refine zY.pure (cr) rfl ?_)|(refine zY.lent (cr) rfl ?_)|(refine zY.own (cr) ?_)
      refine hL _ (N - 1) (by omega) ⟨k + 1,a + l[k].w,b + 1,by omega,?_⟩
      rw [if_pos o4] at ha hb
      simp [h1,b1,h40,h41,hw,hwa,hwb]
      rw [xH l k hlt]
      refine ⟨hi,⟨by omega,by omega,by omega⟩,by omega,by omega⟩
     ·repeat' first | (refine hK _ ?_; clear hK) | (refine hK _ _ ?_; clear hK) | (clear hK; refine hK _ ?_; clear hK) | (clear hK; clear hK; refine hK _ ?_; clear hK) | (clear hK; clear hK; clear hK; refine hK _ ?_; clear hK) | (clear hK; clear hK; clear hK; clear hK; refine hK _ ?_; clear hK) | (refine zJ fun K hK => ?_) | ((first | refine zH ?_ | refine zN rfl (by kernel_rfl) ?_ | refine zM ?_ | refine zK (by kernel_rfl) ?_); simp only [wJ, wI, strip]) | ((first | refine wIs fun K hK => ?_ | refine wOs fun K hK => ?_ | refine wQs fun K hK => ?_ | refine zU ?_ | refine zV ?_ | refine zW ?_ | refine zL ?_); simp [h1, b1, h40, h41, h42, h3, h4, hlt, hw, o2, o2', hw1, hk1, o3, o4]) | (refine wIn ?_; refine And.intro (by kernel_rfl) ?_; try simp only [zX]) | (first | refine zQ ?_ | refine zS ?_) | ((first | refine zI ?_ | refine zO ?_ | refine zP ?_); try simp) | ((first | refine zR ?_ | refine wOn ?_ | refine wQn ?_); try simp only [zX]) | (refine zZ.pure (cr) rfl ?_) | (refine zZ.lent (cr) rfl ?_) | (refine zT.pure (cr) rfl ?_) | (refine zT.lent (cr) rfl ?_) | (refine zZ.own (cr) ?_) | (refine zY.pure (cr) rfl ?_) | (refine zY.lent (cr) rfl ?_) | (refine zY.own (cr) ?_)
      refine hL _ (N - 1) (by omega) ⟨k + 1,a,b,by omega,?_⟩
      rw [if_neg o4] at ha hb
      simp [h1,b1,h40,h41,h3,h4,hw]
      rw [xH l k hlt]
      refine ⟨hi,⟨by omega,by omega,by omega⟩,by omega,by omega,by omega⟩
   ·obtain rfl : k = 0 := by omega
    have:=o1.1.1
    rw [prevI_zero,decide_eq_true ⟨o1,by omega⟩,Bool.true_and] at hi
    simp at h42 hw
    by_cases o4 : l[0].r = 1
    ·rw [o4] at cr
     repeat' first|(refine hK _ ?_;clear hK)|(refine hK _ _ ?_;clear hK)|(clear hK;refine hK _ ?_;clear hK)|(clear hK;clear hK;refine hK _ ?_;clear hK)|(clear hK;clear hK;clear hK;refine hK _ ?_;clear hK)|(clear hK;clear hK;clear hK;clear hK;refine hK _ ?_;clear hK)|(refine zJ fun K hK=>?_)|((first | refine zH ?_ | refine zN rfl (by kernel_rfl) ?_ | refine zM ?_ | refine zK (by kernel_rfl) ?_);simp only [wJ,wI,strip])|((first | refine wIs fun K hK=>?_ | refine wOs fun K hK=>?_ | refine wQs fun K hK=>?_ | refine zU ?_ | refine zV ?_ | refine zW ?_ | refine zL ?_);simp [h1,b1,h40,h41,h42,h3,h4,hlt,hw,o4,hwa,hwb])|(refine wIn ?_;refine And.intro (by kernel_rfl) ?_;try simp only [zX])|(first | refine zQ ?_ | refine zS ?_)|((first | refine zI ?_ | refine zO ?_ | refine zP ?_);try simp)|((first | refine zR ?_ | refine wOn ?_ | refine wQn ?_);try simp only [zX])|(refine zZ.pure (cr) rfl ?_)|(refine zZ.lent (cr) rfl ?_)|(refine zT.pure (cr) rfl ?_)|(refine zT.lent (cr) rfl ?_)|(refine zZ.own (cr) ?_)|(refine zY.pure (cr) rfl ?_)|(refine zY.lent (cr) rfl ?_)|(refine zY.own (cr) ?_)
     refine hL _ (N - 1) (by omega) ⟨0 + 1,a + l[0].w,b + 1,by omega,?_⟩
     rw [if_pos o4] at ha hb
     rw [xH l 0 hlt]
     simp [h1,b1,h40,h41,hw,hwa,hwb]
     rw [<- List.drop_one]
     simp only [Nat.zero_add] at ha hb hi
     refine ⟨hi,⟨by omega,by omega,by omega⟩,by omega,by omega,by omega⟩
    ·repeat' first | (refine hK _ ?_; clear hK) | (refine hK _ _ ?_; clear hK) | (clear hK; refine hK _ ?_; clear hK) | (clear hK; clear hK; refine hK _ ?_; clear hK) | (clear hK; clear hK; clear hK; refine hK _ ?_; clear hK) | (clear hK; clear hK; clear hK; clear hK; refine hK _ ?_; clear hK) | (refine zJ fun K hK => ?_) | ((first | refine zH ?_ | refine zN rfl (by kernel_rfl) ?_ | refine zM ?_ | refine zK (by kernel_rfl) ?_); simp only [wJ, wI, strip]) | ((first | refine wIs fun K hK => ?_ | refine wOs fun K hK => ?_ | refine wQs fun K hK => ?_ | refine zU ?_ | refine zV ?_ | refine zW ?_ | refine zL ?_); simp [h1, b1, h40, h41, h42, h3, h4, hlt, hw, o4]) | (refine wIn ?_; refine And.intro (by kernel_rfl) ?_; try simp only [zX]) | (first | refine zQ ?_ | refine zS ?_) | ((first | refine zI ?_ | refine zO ?_ | refine zP ?_); try simp) | ((first | refine zR ?_ | refine wOn ?_ | refine wQn ?_); try simp only [zX]) | (refine zZ.pure (cr) rfl ?_) | (refine zZ.lent (cr) rfl ?_) | (refine zT.pure (cr) rfl ?_) | (refine zT.lent (cr) rfl ?_) | (refine zZ.own (cr) ?_) | (refine zY.pure (cr) rfl ?_) | (refine zY.lent (cr) rfl ?_) | (refine zY.own (cr) ?_)
     refine hL _ (N - 1) (by omega) ⟨0 + 1,a,b,by omega,?_⟩
     rw [if_neg o4] at ha hb
     rw [xH l 0 hlt]
     simp [h1,b1,h40,h41,h3,h4,hw]
     rw [<- List.drop_one]
     simp only [Nat.zero_add] at ha hb hi
     refine ⟨hi,⟨by omega,by omega,by omega⟩,by omega,by omega,by omega⟩
  ·rw [decide_eq_false o1] at cr
   repeat' first|(refine hK _ ?_;clear hK)|(refine hK _ _ ?_;clear hK)|(clear hK;refine hK _ ?_;clear hK)|(clear hK;clear hK;refine hK _ ?_;clear hK)|(clear hK;clear hK;clear hK;refine hK _ ?_;clear hK)|(clear hK;clear hK;clear hK;clear hK;refine hK _ ?_;clear hK)|(refine zJ fun K hK=>?_)|((first | refine zH ?_ | refine zN rfl (by kernel_rfl) ?_ | refine zM ?_ | refine zK (by kernel_rfl) ?_);simp only [wJ,wI,strip])|((first | refine wIs fun K hK=>?_ | refine wOs fun K hK=>?_ | refine wQs fun K hK=>?_ | refine zU ?_ | refine zV ?_ | refine zW ?_ | refine zL ?_);simp [h1,b1,h40,h41,h42,h3,h4,hlt,hw])|(refine wIn ?_;refine And.intro (by kernel_rfl) ?_;try simp only [zX])|(first | refine zQ ?_ | refine zS ?_)|((first | refine zI ?_ | refine zO ?_ | refine zP ?_);try simp)|((first | refine zR ?_ | refine wOn ?_ | refine wQn ?_);try simp only [zX])|(refine zZ.pure (cr) rfl ?_)|(refine zZ.lent (cr) rfl ?_)|(refine zT.pure (cr) rfl ?_)|(refine zT.lent (cr) rfl ?_)|(refine zZ.own (cr) ?_)|(refine zY.pure (cr) rfl ?_)|(refine zY.lent (cr) rfl ?_)|(refine zY.own (cr) ?_)
   all_goals apply hr
   all_goals simp [Try.f13]
   all_goals simp [<- hi,o1]
 ·rw [List.drop_of_length_le (by omega)] at hi ha hb
  have hi' : fine (-1) l = true:=hi ▸ rfl
  obtain ⟨e1,e2,e3,e4,e5⟩:=sums kind l _ hi'
  simp only [wsum,cnt,Int.add_zero] at ha hb
  subst ha hb
  by_cases g5 : cnt l = 0
  ·repeat' first | (refine hK _ ?_; clear hK) | (refine hK _ _ ?_; clear hK) | (clear hK; refine hK _ ?_; clear hK) | (clear hK; clear hK; refine hK _ ?_; clear hK) | (clear hK; clear hK; clear hK; refine hK _ ?_; clear hK) | (clear hK; clear hK; clear hK; clear hK; refine hK _ ?_; clear hK) | (refine zJ fun K hK => ?_) | ((first | refine zH ?_ | refine zN rfl (by kernel_rfl) ?_ | refine zM ?_ | refine zK (by kernel_rfl) ?_); simp only [wJ, wI, strip]) | ((first | refine wIs fun K hK => ?_ | refine wOs fun K hK => ?_ | refine wQs fun K hK => ?_ | refine zU ?_ | refine zV ?_ | refine zW ?_ | refine zL ?_); simp [h1, b1, h40, h41, h42, h3, h4, hlt, g5]) | (refine wIn ?_; refine And.intro (by kernel_rfl) ?_; try simp only [zX]) | (first | refine zQ ?_ | refine zS ?_) | ((first | refine zI ?_ | refine zO ?_ | refine zP ?_); try simp) | ((first | refine zR ?_ | refine wOn ?_ | refine wQn ?_); try simp only [zX])
   all_goals apply hr
   all_goals simp [Try.f13,hi']
   all_goals by_cases g6 : kind = 1
   all_goals first | rw [e4 g6,decide_eq_false (by omega)] | rw [e5 g6,decide_eq_false (by omega)]
   all_goals rfl
  ·by_cases g6 : kind = 1
   ·repeat' first | (refine hK _ ?_; clear hK) | (refine hK _ _ ?_; clear hK) | (clear hK; refine hK _ ?_; clear hK) | (clear hK; clear hK; refine hK _ ?_; clear hK) | (clear hK; clear hK; clear hK; refine hK _ ?_; clear hK) | (clear hK; clear hK; clear hK; clear hK; refine hK _ ?_; clear hK) | (refine zJ fun K hK => ?_) | ((first | refine zH ?_ | refine zN rfl (by kernel_rfl) ?_ | refine zM ?_ | refine zK (by kernel_rfl) ?_); simp only [wJ, wI, strip]) | ((first | refine wIs fun K hK => ?_ | refine wOs fun K hK => ?_ | refine wQs fun K hK => ?_ | refine zU ?_ | refine zV ?_ | refine zW ?_ | refine zL ?_); simp [h1, b1, h40, h41, h42, h3, h4, hlt, g5, g6]) | (refine wIn ?_; refine And.intro (by kernel_rfl) ?_; try simp only [zX]) | (first | refine zQ ?_ | refine zS ?_) | ((first | refine zI ?_ | refine zO ?_ | refine zP ?_); try simp) | ((first | refine zR ?_ | refine wOn ?_ | refine wQn ?_); try simp only [zX])
    all_goals apply hr
    all_goals simp [Try.f13,hi']
    all_goals rw [e4 g6,decide_eq_true (by omega)]
    all_goals rfl
   ·by_cases g7 : wsum l = 0
    ·repeat' first | (refine hK _ ?_; clear hK) | (refine hK _ _ ?_; clear hK) | (clear hK; refine hK _ ?_; clear hK) | (clear hK; clear hK; refine hK _ ?_; clear hK) | (clear hK; clear hK; clear hK; refine hK _ ?_; clear hK) | (clear hK; clear hK; clear hK; clear hK; refine hK _ ?_; clear hK) | (refine zJ fun K hK => ?_) | ((first | refine zH ?_ | refine zN rfl (by kernel_rfl) ?_ | refine zM ?_ | refine zK (by kernel_rfl) ?_); simp only [wJ, wI, strip]) | ((first | refine wIs fun K hK => ?_ | refine wOs fun K hK => ?_ | refine wQs fun K hK => ?_ | refine zU ?_ | refine zV ?_ | refine zW ?_ | refine zL ?_); simp [h1, b1, h40, h41, h42, h3, h4, hlt, g5, g6, g7]) | (refine wIn ?_; refine And.intro (by kernel_rfl) ?_; try simp only [zX]) | (first | refine zQ ?_ | refine zS ?_) | ((first | refine zI ?_ | refine zO ?_ | refine zP ?_); try simp) | ((first | refine zR ?_ | refine wOn ?_ | refine wQn ?_); try simp only [zX])
     all_goals apply hr
     all_goals simp [Try.f13,hi']
     all_goals rw [e5 g6,decide_eq_false (by omega)]
     all_goals rfl
    ·repeat' first | (refine hK _ ?_; clear hK) | (refine hK _ _ ?_; clear hK) | (clear hK; refine hK _ ?_; clear hK) | (clear hK; clear hK; refine hK _ ?_; clear hK) | (clear hK; clear hK; clear hK; refine hK _ ?_; clear hK) | (clear hK; clear hK; clear hK; clear hK; refine hK _ ?_; clear hK) | (refine zJ fun K hK => ?_) | ((first | refine zH ?_ | refine zN rfl (by kernel_rfl) ?_ | refine zM ?_ | refine zK (by kernel_rfl) ?_); simp only [wJ, wI, strip]) | ((first | refine wIs fun K hK => ?_ | refine wOs fun K hK => ?_ | refine wQs fun K hK => ?_ | refine zU ?_ | refine zV ?_ | refine zW ?_ | refine zL ?_); simp [h1, b1, h40, h41, h42, h3, h4, hlt, g5, g6, g7]) | (refine wIn ?_; refine And.intro (by kernel_rfl) ?_; try simp only [zX]) | (first | refine zQ ?_ | refine zS ?_) | ((first | refine zI ?_ | refine zO ?_ | refine zP ?_); try simp) | ((first | refine zR ?_ | refine wOn ?_ | refine wQn ?_); try simp only [zX])
     all_goals apply hr
     all_goals simp [Try.f13,hi']
     all_goals rw [e5 g6,decide_eq_true (by omega)]
     all_goals rfl
end Go.Proofs.Ytpilcadofjcdoaa
namespace Go.Proofs.Ytpilcadofjcdoaa
end Go.Proofs.Ytpilcadofjcdoaa
namespace Go.Proofs.Ytpilcadofjcdoaa
set_option linter.unusedSimpArgs false
set_option linter.unusedVariables false
open Go Go.Av
attribute [local irreducible] Go.Av.yQ Go.Av.zZ Go.Av.yG Go.Av.zT Go.Av.yH Go.Av.zY Go.Av.Con
def fm (id : Int) : List Mb -> Mb × Bool
 | []=>(⟨0,0,0,0⟩,false)
 | m :: l=>if m.i = id then (m,true) else fm id l
structure Dl where
 kind : Int
 put : List Mb
 drop : List Int
def Dl.cells (d : Dl) : List PV := [I d.kind, .sl 4 (mbs d.put), .sl 1 (ints d.drop)]
def hasI (b : List Mb) (id : Int) : Bool := b.any fun x => decide (x.i = id)
theorem mbs_snoc (l : List Mb) (a : Mb) : mbs l ++ [[I a.i, I a.r, I a.w, I a.g]] = mbs (l ++ [a]) := by simp [mbs, Mb.cells]
end Go.Proofs.Ytpilcadofjcdoaa
namespace Go.Proofs.Ytpilcadofjcdoaa
set_option linter.unusedSimpArgs false
set_option linter.unusedVariables false
set_option maxRecDepth 8000
open Go Go.Av
attribute [local irreducible] Go.Av.yQ Go.Av.zZ Go.Av.yG Go.Av.zT Go.Av.yH Go.Av.zY Go.Av.Con
def mz : Mb := ⟨0, 0, 0, 0⟩
def swp (L : List Mb) (i j : Nat) : List Mb := (L.set i (L.getD j mz)).set j (L.getD i mz)
@[simp] theorem swp_len (L : List Mb) (i j : Nat) : (swp L i j).length = L.length := by simp [swp]
def swR (L : List Mb) (a b : Nat) : Nat -> List Mb
 | 0=>L
 | n + 1=>swp (swR L a b n) (a + n) (b + n)
@[simp] theorem swR_len (L : List Mb) (a b : Nat) : ∀ n, (swR L a b n).length = L.length
 | 0=>rfl
 | n + 1=>by rw [swR,swp_len,swR_len L a b n]
def rotM (m : Nat) : Nat -> List Mb -> Nat -> Nat -> List Mb
 | 0,L,_,_=>L
 | f + 1,L,i,j=>if i = j then swR L (m - i) m i else if j < i then rotM m f (swR L (m - i) m j) (i - j) j else rotM m f (swR L (m - i) (m + j - i) i) i (j - i)
@[simp] theorem rotM_len (m : Nat) : ∀ (f : Nat) (L : List Mb) (i j : Nat), (rotM m f L i j).length = L.length
 | 0,_,_,_=>rfl
 | f + 1, L, i, j => by
  rw [rotM]
  split
  ·simp
  split
  ·rw [rotM_len m f,swR_len]
  ·rw [rotM_len m f,swR_len]
def bsL (p : Nat -> Bool) : Nat -> Nat -> Nat -> Nat
 | 0,i,_=>i
 | f + 1,i,j=>if i < j then (if p ((i + j) / 2) = true then bsL p f ((i + j) / 2 + 1) j else bsL p f i ((i + j) / 2)) else i
theorem bsL_bd (p : Nat -> Bool) : ∀ (f i j : Nat), i <= j -> i <= bsL p f i j /\ bsL p f i j <= j
 | 0,i,j,h=>⟨Nat.le_refl _,h⟩
 | f + 1, i, j, h => by
  rw [bsL]
  split
  ·split
   ·have:=bsL_bd p f ((i + j) / 2 + 1) j (by omega);omega
   ·have:=bsL_bd p f i ((i + j) / 2) (by omega);omega
  ·omega
def ltM (L : List Mb) (i j : Nat) : Bool := decide ((L.getD i mz).i < (L.getD j mz).i)
theorem getD_at {L : List Mb} {i : Nat} (h : i < L.length) : L.getD i mz = L[i] := by rw [List.getD_eq_getElem?_getD, List.getElem?_eq_getElem h]; rfl
def shU (L : List Mb) (a : Nat) : Nat -> List Mb
 | 0=>L
 | n + 1=>swp (shU L a n) (a + n) (a + n + 1)
@[simp] theorem shU_len (L : List Mb) (a : Nat) : ∀ n, (shU L a n).length = L.length
 | 0=>rfl
 | n + 1=>by rw [shU,swp_len,shU_len L a n]
def shD (L : List Mb) (m : Nat) : Nat -> List Mb
 | 0=>L
 | n + 1=>swp (shD L m n) (m - n) (m - n - 1)
@[simp] theorem shD_len (L : List Mb) (m : Nat) : ∀ n, (shD L m n).length = L.length
 | 0=>rfl
 | n + 1=>by rw [shD,swp_len,shD_len L m n]
def mgP (g : List Mb -> Nat -> Nat -> Nat -> List Mb) (L : List Mb) (a m b s : Nat) : List Mb :=
 let e:=(a + b) / 2 + m - s
 let L1:=if s < m /\ m < e then rotM m (e - s) L (m - s) (e - m) else L
 let L2:=if a < s /\ s < (a + b) / 2 then g L1 a s ((a + b) / 2) else L1
 if (a + b) / 2 < e /\ e < b then g L2 ((a + b) / 2) e b else L2
def mgS (L : List Mb) (a m b : Nat) : Nat :=
 if (a + b) / 2 < m then bsL (fun c=>!ltM L ((a + b) / 2 + m - 1 - c) c) ((a + b) / 2 - ((a + b) / 2 + m - b)) ((a + b) / 2 + m - b) ((a + b) / 2)
 else bsL (fun c=>!ltM L ((a + b) / 2 + m - 1 - c) c) (m - a) a m
def symM : Nat -> List Mb -> Nat -> Nat -> Nat -> List Mb
 | 0,L,_,_,_=>L
 | f + 1, L, a, m, b =>
  if m - a = 1 then shU L a (bsL (fun h=>ltM L h a) (b - m) m b - 1 - a)
  else if b - m = 1 then shD L m (m - bsL (fun h=>!ltM L m h) (m - a) a m)
  else mgP (symM f) L a m b (mgS L a m b)
theorem mgP_len {g : List Mb -> Nat -> Nat -> Nat -> List Mb} (hg : ∀ L a m b, (g L a m b).length = L.length) (L : List Mb) (a m b s : Nat) : (mgP g L a m b s).length = L.length := by
 unfold mgP
 dsimp only
 split <;> (try rw [hg]) <;> (split <;> (try rw [hg]) <;> (split <;> simp))
theorem symM_len : ∀ (f : Nat) (L : List Mb) (a m b : Nat), (symM f L a m b).length = L.length
 | 0,_,_,_,_=>rfl
 | f + 1, L, a, m, b => by
  rw [symM]
  split
  ·simp
  split
  ·simp
  ·exact mgP_len (symM_len f) _ _ _ _ _
def isrt (L : List Mb) (a b : Nat) : List Mb := L.take a ++ (wQ ((L.drop a).take (b - a)) ++ L.drop b)
theorem isrt_len {L : List Mb} {a b : Nat} (h : a <= b) (h2 : b <= L.length) : (isrt L a b).length = L.length := by
 unfold isrt
 simp only [List.length_append,srtM_len,List.length_take,List.length_drop]
 omega
def blkM (n : Nat) : Nat -> List Mb -> Nat -> List Mb × Nat
 | 0,L,a=>(L,a)
 | f + 1,L,a=>if a + 20 <= n then blkM n f (isrt L a (a + 20)) (a + 20) else (L,a)
theorem blkM_end (n : Nat) : ∀ (f : Nat) (L : List Mb) (a : Nat), ¬ a + 20 <= n -> blkM n f L a = (L, a)
 | 0,_,_,_=>rfl
 | f + 1,L,a,h=>by rw [blkM,if_neg h]
def mrgM (n bs : Nat) : Nat -> List Mb -> Nat -> List Mb × Nat
 | 0,L,a=>(L,a)
 | f + 1,L,a=>if a + 2 * bs <= n then mrgM n bs f (symM n L a (a + bs) (a + 2 * bs)) (a + 2 * bs) else (L,a)
theorem mrgM_end (n bs : Nat) : ∀ (f : Nat) (L : List Mb) (a : Nat), ¬ a + 2 * bs <= n -> mrgM n bs f L a = (L, a)
 | 0,_,_,_=>rfl
 | f + 1,L,a,h=>by rw [mrgM,if_neg h]
theorem mrgM_spec (n bs : Nat) : ∀ (f : Nat) (L : List Mb) (a : Nat), a <= n -> (mrgM n bs f L a).1.length = L.length /\ (mrgM n bs f L a).2 <= n
 | 0,_,_,h=>⟨rfl,h⟩
 | f + 1, L, a, h => by
  rw [mrgM]
  split
  ·have := mrgM_spec n bs f (symM n L a (a + bs) (a + 2 * bs)) (a + 2 * bs) (by omega)
   rw [symM_len] at this
   exact this
  ·exact ⟨rfl,h⟩
theorem blkM_spec (n : Nat) : ∀ (f : Nat) (L : List Mb) (a : Nat), a <= n -> n <= L.length -> (blkM n f L a).1.length = L.length /\ (blkM n f L a).2 <= n
 | 0,_,_,h,_=>⟨rfl,h⟩
 | f + 1, L, a, h, h2 => by
  rw [blkM]
  split
  ·have hi := isrt_len (L := L) (a := a) (b := a + 20) (by omega) (by omega)
   have:=blkM_spec n f (isrt L a (a + 20)) (a + 20) (by omega) (by omega)
   rw [hi] at this
   exact this
  ·exact ⟨rfl,h⟩
def rndM (n bs : Nat) (L : List Mb) : List Mb := if (mrgM n bs n L 0).2 + bs < n then symM n (mrgM n bs n L 0).1 (mrgM n bs n L 0).2 ((mrgM n bs n L 0).2 + bs) n else (mrgM n bs n L 0).1
theorem rndM_len (n bs : Nat) (L : List Mb) : (rndM n bs L).length = L.length := by
 have:=(mrgM_spec n bs n L 0 (by omega)).1
 unfold rndM
 split
 ·rw [symM_len,this]
 ·exact this
def stbM (n : Nat) : Nat -> Nat -> List Mb -> List Mb
 | 0,_,L=>L
 | f + 1,bs,L=>if bs < n then stbM n f (bs * 2) (rndM n bs L) else L
theorem stbM_len (n : Nat) : ∀ (f bs : Nat) (L : List Mb), (stbM n f bs L).length = L.length
 | 0,_,_=>rfl
 | f + 1, bs, L => by
  rw [stbM]
  split
  ·rw [stbM_len n f,rndM_len]
  ·rfl
def stab (l : List Mb) : List Mb := stbM l.length l.length 20 (isrt (blkM l.length l.length l 0).1 (blkM l.length l.length l 0).2 l.length)
theorem stab_len (l : List Mb) : (stab l).length = l.length := by
 have:=blkM_spec l.length l.length l 0 (by omega) (by omega)
 rw [stab,stbM_len,isrt_len this.2 (by omega),this.1]
def stS (l : List Mb) : List Mb := if l.length <= 20 then wQ l else stab l
theorem stS_len (l : List Mb) : (stS l).length = l.length := by
 unfold stS
 split
 ·exact srtM_len l
 ·exact stab_len l
end Go.Proofs.Ytpilcadofjcdoaa
namespace Go.Proofs.Ytpilcadofjcdoaa
set_option linter.unusedSimpArgs false
set_option linter.unusedVariables false
open Go Go.Av
attribute [local irreducible] Go.Av.yQ Go.Av.zZ Go.Av.yG Go.Av.zT Go.Av.yH Go.Av.zY Go.Av.Con
def wP (l : List Mb) : List Int := l.map Mb.i
@[simp] theorem pids_len (l : List Mb) : (wP l).length = l.length := by simp [wP]
def twL (l : List Int) : Bool := decide (¬ l.Nodup)
theorem nodup_snoc (l : List Int) (k : Nat) (h : k < l.length) : (l.take (k + 1)).Nodup ↔ (l.take k).Nodup /\ l[k] ∉ l.take k := by
 rw [take_snoc _ k h,List.nodup_append]
 constructor
 ·rintro ⟨h1, -, h3⟩
  exact ⟨h1,fun hm=>h3 _ hm _ (by simp) rfl⟩
 ·rintro ⟨h1, h2⟩
  exact ⟨h1,by simp,fun a ha b hb=>by rw [List.mem_singleton.1 hb];intro h4;exact h2 (h4 ▸ ha)⟩
theorem nodup_take {l : List Int} (k : Nat) (h : ¬ (l.take k).Nodup) : ¬ l.Nodup := fun hn => h (hn.sublist (List.take_sublist _ _))
theorem ints_take (l : List Int) (k : Nat) : (ints l).take k = ints (l.take k) := by simp [ints, List.map_take]
def dropE (c : Cf) (put : List Int) : List Int -> Int
 | []=>0
 | id :: l=>if id ∈ put then 1 else if (fm id c.ms).2 = true then dropE c put l else 6
def wrongD (d : Dl) : Bool := twL (wP d.put) || (twL d.drop || (decide (d.kind < 0) || decide (3 < d.kind)))
def fitsE (c : Cf) (d : Dl) : Int := if wrongD d = true then 1 else dropE c (wP d.put) d.drop
theorem flatL_mbs (l : List Mb) : flatL (mbs l) = true := by
 unfold flatL mbs
 rw [List.all_eq_true]
 intro e he
 obtain ⟨m,-,rfl⟩:=List.mem_map.1 he
 simp [Mb.cells]
def yC (c : Cf) (d : Dl) : List Mb := c.ms.filter fun m => !(decide (m.i ∈ d.drop)) && !(hasI d.put m.i)
def chg (c : Cf) (d : Dl) : Cf := ⟨0, 0, if d.kind = 0 then c.kind else d.kind, stS (yC c d ++ d.put)⟩
theorem keepM_snoc (dr : List Int) (put ms : List Mb) (ep n kind dk : Int) (k : Nat) (h : k < ms.length) : yC ⟨ep, n, kind, ms.take (k + 1)⟩ ⟨dk, put, dr⟩ = if ms[k].i ∈ dr then yC ⟨ep, n, kind, ms.take k⟩ ⟨dk, put, dr⟩ else if hasI put ms[k].i = true then yC ⟨ep, n, kind, ms.take k⟩ ⟨dk, put, dr⟩ else yC ⟨ep, n, kind, ms.take k⟩ ⟨dk, put, dr⟩ ++ [ms[k]] := by
 unfold yC
 simp only
 rw [take_snoc _ k h,List.filter_append]
 by_cases o1 : ms[k].i ∈ dr
 ·rw [if_pos o1];simp [List.filter,o1]
 ·rw [if_neg o1]
  by_cases o2 : hasI put ms[k].i = true
  ·rw [if_pos o2];simp [List.filter,o1,o2]
  ·rw [if_neg o2];simp only [Bool.not_eq_true] at o2;simp [List.filter,o1,o2]
theorem keepM_len (c : Cf) (d : Dl) : (yC c d).length <= c.ms.length := by simp [yC, List.length_filter_le]
def appE (c : Cf) (d : Dl) (e n : Int) : Int := if check c = 0 then if fitsE c d = 0 then check { chg c d with ep := e, n := n } else fitsE c d else 16
end Go.Proofs.Ytpilcadofjcdoaa
namespace Go.Proofs.Ytpilcadofjcdoaa
set_option linter.unusedSimpArgs false
set_option linter.unusedVariables false
open Go Go.Av
theorem swp_get {L : List Mb} {i j : Nat} (hi : i < L.length) (hj : j < L.length) (k : Nat) : (swp L i j)[k]? = if k = j then L[i]? else if k = i then L[j]? else L[k]? := by
 unfold swp
 rw [getD_at hi,getD_at hj]
 rw [List.getElem?_set,List.getElem?_set]
 by_cases h1 : k = j
 ·subst h1
  rw [if_pos rfl,if_pos (by simpa using hj),if_pos rfl,List.getElem?_eq_getElem hi]
 ·rw [if_neg (fun h => h1 h.symm), if_neg h1]
  by_cases h2 : k = i
  ·subst h2
   rw [if_pos rfl,if_pos hi,if_pos rfl,List.getElem?_eq_getElem hj]
  ·rw [if_neg (fun h=>h2 h.symm),if_neg h2]
theorem swR_get {L : List Mb} {a b : Nat} : ∀ (n : Nat), a + n <= b -> b + n <= L.length -> ∀ k, (swR L a b n)[k]? = if a <= k /\ k < a + n then L[b + (k - a)]? else if b <= k /\ k < b + n then L[a + (k - b)]? else L[k]?
 | 0, _, _, k => by
  rw [swR,if_neg (by omega),if_neg (by omega)]
 | n + 1, h1, h2, k => by
  have ih:=swR_get (L:=L) (a:=a) (b:=b) n (by omega) (by omega)
  rw [swR,swp_get (by rw [swR_len];omega) (by rw [swR_len];omega),ih,ih,ih]
  by_cases k1 : k = b + n
  ·subst k1
   rw [if_pos rfl,if_neg (by omega),if_neg (by omega),if_neg (by omega),if_pos (by omega)]
   congr 1;omega
  rw [if_neg k1]
  by_cases k2 : k = a + n
  ·subst k2
   rw [if_pos rfl,if_neg (by omega),if_neg (by omega),if_pos (by omega)]
   congr 1;omega
  rw [if_neg k2]
  by_cases k3 : a <= k /\ k < a + n
  ·have e3 : a <= k /\ k < a + (n + 1) := by omega
   rw [if_pos k3,if_pos e3]
  have e3 : ¬ (a <= k /\ k < a + (n + 1)):=by omega
  rw [if_neg k3,if_neg e3]
  by_cases k4 : b <= k /\ k < b + n
  ·have e4 : b <= k /\ k < b + (n + 1) := by omega
   rw [if_pos k4,if_pos e4]
  ·have e4 : ¬ (b <= k /\ k < b + (n + 1)) := by omega
   rw [if_neg k4,if_neg e4]
theorem swR_app (X A M B Y : List Mb) (h : A.length = B.length) (a b n : Nat) (ha : a = X.length) (hn : n = A.length) (hb : b = X.length + A.length + M.length) :
 swR (X ++ (A ++ (M ++ (B ++ Y)))) a b n = X ++ (B ++ (M ++ (A ++ Y))):=by
 apply List.ext_getElem?
 intro k
 rw [swR_get n (by omega) (by simp only [List.length_append];omega)]
 simp only [List.getElem?_append]
 repeat' split
 all_goals first | rfl|(exfalso;omega)|(congr 1;omega)
theorem rotM_app (m : Nat) : ∀ (f : Nat) (X A B Y : List Mb) (i j : Nat), i + j <= f -> 0 < i -> 0 < j -> i = A.length -> j = B.length -> m = X.length + A.length -> rotM m f (X ++ (A ++ (B ++ Y))) i j = X ++ (B ++ (A ++ Y))
 | 0,_,_,_,_,_,_,h,_,_,_,_,_=>by omega
 | f + 1, X, A, B, Y, i, j, h, hi, hj, hA, hB, hm => by
  rw [rotM]
  by_cases h1 : i = j
  ·rw [if_pos h1]
   have:=swR_app X A [] B Y (by omega) (m - i) m i (by omega) (by omega) (by simp;omega)
   simpa using this
  rw [if_neg h1]
  by_cases h2 : j < i
  ·rw [if_pos h2]
   obtain ⟨A1,A2,rfl,hl⟩ : ∃ A1 A2,A = A1 ++ A2 /\ A1.length = j:=⟨A.take j,A.drop j,(List.take_append_drop j A).symm,by rw [List.length_take];omega⟩
   rw [List.length_append] at hA hm
   have e:=swR_app X A1 A2 B Y (by omega) (m - i) m j (by omega) (by omega) (by omega)
   have e0 : X ++ (A1 ++ A2 ++ (B ++ Y)) = X ++ (A1 ++ (A2 ++ (B ++ Y))):=by simp only [List.append_assoc]
   rw [e0,e]
   have e1 : X ++ (B ++ (A2 ++ (A1 ++ Y))) = (X ++ B) ++ (A2 ++ (A1 ++ Y)):=by simp only [List.append_assoc]
   rw [e1,rotM_app m f (X ++ B) A2 A1 Y (i - j) j (by omega) (by omega) hj (by omega) (by omega) (by rw [List.length_append];omega)]
   simp only [List.append_assoc]
  ·rw [if_neg h2]
   obtain ⟨B1,B2,rfl,hl⟩ : ∃ B1 B2,B = B1 ++ B2 /\ B1.length = j - i:=⟨B.take (j - i),B.drop (j - i),(List.take_append_drop _ B).symm,by rw [List.length_take];omega⟩
   rw [List.length_append] at hB
   have e:=swR_app X A B1 B2 Y (by omega) (m - i) (m + j - i) i (by omega) (by omega) (by omega)
   have e0 : X ++ (A ++ (B1 ++ B2 ++ Y)) = X ++ (A ++ (B1 ++ (B2 ++ Y))):=by simp only [List.append_assoc]
   rw [e0,e,rotM_app m f X B2 B1 (A ++ Y) i (j - i) (by omega) hi (by omega) (by omega) (by omega) (by omega)]
   simp only [List.append_assoc]
theorem bsL_spec (p : Nat -> Bool) : ∀ (f i j : Nat), j <= i + f -> i <= j -> (∀ h h', i <= h -> h <= h' -> h' < j -> p h' = true -> p h = true) →
 (∀ h,i <= h -> h < bsL p f i j -> p h = true) /\ (∀ h,bsL p f i j <= h -> h < j -> p h = false)
 | 0, i, j, h1, h2, _ => by
  rw [bsL]
  exact ⟨fun h a b=>by omega,fun h a b=>by omega⟩
 | f + 1, i, j, h1, h2, mono => by
  rw [bsL]
  split
  ·rename_i hlt
   have hh1 : i <= (i + j) / 2:=by omega
   have hh2 : (i + j) / 2 < j:=by omega
   generalize (i + j) / 2 = q at *
   split
   ·rename_i hp
    have ih:=bsL_spec p f (q + 1) j (by omega) (by omega) fun h h' a b c d=>mono h h' (by omega) b c d
    refine ⟨fun h a b=>?_,ih.2⟩
    by_cases e : q + 1 <= h
    ·exact ih.1 h e b
    ·exact mono h q a (by omega) hh2 hp
   ·rename_i hp
    have hb:=bsL_bd p f i q hh1
    have ih:=bsL_spec p f i q (by omega) hh1 fun h h' a b c d=>mono h h' a b (by omega) d
    refine ⟨ih.1,fun h a b=>?_⟩
    by_cases e : h < q
    ·exact ih.2 h a e
    ·cases hc : p h with
     | false=>rfl
     | true=>exact absurd (mono q h hh1 (by omega) b hc) hp
  ·exact ⟨fun h a b=>by omega,fun h a b=>by omega⟩
theorem shU_app (x : Mb) (Y : List Mb) : ∀ (X B : List Mb) (a n : Nat), a = X.length -> n = B.length -> shU (X ++ x :: (B ++ Y)) a n = X ++ (B ++ x :: Y) := by
 intro X B a n ha hn
 subst ha
 induction n generalizing B Y with
 | zero =>
  obtain rfl:=List.length_eq_zero_iff.1 hn.symm
  rfl
 | succ n ih =>
  obtain ⟨B', y, rfl⟩ : ∃ B' y, B = B' ++ [y] := by
   rcases List.eq_nil_or_concat B with rfl | ⟨B',y,rfl⟩
   ·simp at hn
   ·exact ⟨B',y,by simp⟩
  rw [List.length_append] at hn
  have hn' : n = B'.length:=by simp at hn;omega
  have e:=ih (y :: Y) B' hn'
  rw [shU,show X ++ x :: (B' ++ [y] ++ Y) = X ++ x :: (B' ++ y :: Y) by simp,e]
  have e2:=swR_app (X ++ B') [x] [] [y] Y rfl (X.length + n) (X.length + n + 1) 1 (by rw [List.length_append];omega) rfl (by rw [List.length_append];simp;omega)
  have e3 : swR (X ++ B' ++ ([x] ++ ([] ++ ([y] ++ Y)))) (X.length + n) (X.length + n + 1) 1 = swp (X ++ (B' ++ x :: (y :: Y))) (X.length + n) (X.length + n + 1) := by
   rw [swR,swR];simp
  rw [<- e3,e2]
  simp
theorem shD_app (x : Mb) (X : List Mb) : ∀ (A Y : List Mb) (m n : Nat), m = X.length + A.length -> n = A.length -> shD (X ++ (A ++ x :: Y)) m n = X ++ x :: (A ++ Y) := by
 intro A Y m n hm hn
 induction n generalizing A X with
 | zero =>
  obtain rfl:=List.length_eq_zero_iff.1 hn.symm
  rfl
 | succ n ih =>
  cases A with
  | nil=>simp at hn
  | cons y A =>
   rw [List.length_cons] at hn hm
   have e:=ih (X ++ [y]) A (by rw [List.length_append];simp;omega) (by omega)
   rw [shD,show X ++ (y :: A ++ x :: Y) = X ++ [y] ++ (A ++ x :: Y) by simp,e]
   have e2:=swR_app X [y] [] [x] (A ++ Y) rfl (m - n - 1) (m - n) 1 (by omega) rfl (by simp;omega)
   have hx : (X ++ [y] ++ x :: (A ++ Y)).length = X.length + 2 + (A ++ Y).length:=by simp;omega
   have e3 : swp (X ++ [y] ++ x :: (A ++ Y)) (m - n) (m - n - 1) = swp (X ++ [y] ++ x :: (A ++ Y)) (m - n - 1) (m - n) := by
    apply List.ext_getElem?
    intro k
    rw [swp_get (by omega) (by omega),swp_get (by omega) (by omega)]
    by_cases k1 : k = m - n - 1
    ·rw [if_pos k1,if_neg (by omega),if_pos k1]
    ·rw [if_neg k1,if_neg k1]
   have e4 : swR (X ++ ([y] ++ ([] ++ ([x] ++ (A ++ Y))))) (m - n - 1) (m - n) 1 = swp (X ++ [y] ++ x :: (A ++ Y)) (m - n - 1) (m - n) := by
    rw [swR,swR];simp
   rw [e3,<- e4,e2]
   simp
structure Sb (R A : List Mb) : Prop where
 l : R.length = A.length
 f : ∀ k : Int,R.filter (fun x=>decide (x.i = k)) = A.filter (fun x=>decide (x.i = k))
theorem Sb.refl (A : List Mb) : Sb A A := ⟨rfl, fun _ => rfl⟩
theorem Sb.trans {A B C : List Mb} (h : Sb A B) (h' : Sb B C) : Sb A C := ⟨h.l.trans h'.l, fun k => (h.f k).trans (h'.f k)⟩
theorem Sb.app {A B C D : List Mb} (h : Sb A B) (h' : Sb C D) : Sb (A ++ C) (B ++ D) := ⟨by rw [List.length_append, List.length_append, h.l, h'.l], fun k => by rw [List.filter_append, List.filter_append, h.f k, h'.f k]⟩
theorem Sb.mem {A B : List Mb} (h : Sb A B) {x : Mb} (hx : x ∈ A) : x ∈ B := by
 have h1 : x ∈ A.filter (fun y=>decide (y.i = x.i)):=List.mem_filter.2 ⟨hx,by simp⟩
 rw [h.f] at h1
 exact (List.mem_filter.1 h1).1
theorem Sb.swap {A B : List Mb} (h : ∀ a ∈ A, ∀ b ∈ B, a.i ≠ b.i) : Sb (B ++ A) (A ++ B) := by
 refine ⟨by simp [Nat.add_comm],fun k=>?_⟩
 rw [List.filter_append,List.filter_append]
 by_cases hA : A.filter (fun x=>decide (x.i = k)) = []
 ·rw [hA];simp
 ·have hB : B.filter (fun x => decide (x.i = k)) = [] := by
   rw [List.filter_eq_nil_iff]
   intro b hb e
   obtain ⟨a,ha⟩:=List.exists_mem_of_ne_nil _ hA
   obtain ⟨ha1,ha2⟩:=List.mem_filter.1 ha
   rw [decide_eq_true_eq] at ha2 e
   exact h a ha1 b hb (by rw [ha2,e])
  rw [hB];simp
theorem Sb.eq : ∀ {R A : List Mb}, Ord R -> Ord A -> Sb R A -> R = A
 | [],[],_,_,_=>rfl
 | [],y :: A,_,_,h=>by have:=h.l;simp at this
 | x :: R,[],_,_,h=>by have:=h.l;simp at this
 | x :: R, y :: A, hR, hA, h => by
  obtain ⟨r1,r2⟩:=List.pairwise_cons.1 hR
  obtain ⟨a1,a2⟩:=List.pairwise_cons.1 hA
  have e1 : y.i <= x.i := by
   rcases List.mem_cons.1 (h.mem List.mem_cons_self) with e | hx
   ·rw [e];exact Int.le_refl _
   ·exact a1 x hx
  have hs : Sb (y :: A) (x :: R):=⟨h.l.symm,fun k=>(h.f k).symm⟩
  have e2 : x.i <= y.i := by
   rcases List.mem_cons.1 (hs.mem List.mem_cons_self) with e | hx
   ·rw [e];exact Int.le_refl _
   ·exact r1 y hx
  have e3 : x.i = y.i:=Int.le_antisymm e2 e1
  have e4:=h.f x.i
  rw [List.filter_cons_of_pos (by simp),List.filter_cons_of_pos (by simp [e3])] at e4
  obtain ⟨e5,-⟩:=List.cons.inj e4
  subst e5
  have h2 : Sb R A := ⟨by have := h.l; simpa using this, fun k => by
   have:=h.f k
   by_cases hk : x.i = k
   ·rw [List.filter_cons_of_pos (by simp [hk]), List.filter_cons_of_pos (by simp [hk])] at this
    exact (List.cons.inj this).2
   ·rw [List.filter_cons_of_neg (by simp [hk]), List.filter_cons_of_neg (by simp [hk])] at this
    exact this⟩
  rw [Sb.eq r2 a2 h2]
theorem ord_app {A B : List Mb} : Ord (A ++ B) ↔ Ord A /\ Ord B /\ ∀ a ∈ A, ∀ b ∈ B, a.i <= b.i := List.pairwise_append
theorem ins_sb (x : Mb) : ∀ T : List Mb, Ord T -> Sb (insM x T) (T ++ [x])
 | [],_=>Sb.refl _
 | y :: T, h => by
  obtain ⟨h1,h2⟩:=List.pairwise_cons.1 h
  unfold insM
  split
  ·rename_i hx
   refine Sb.swap (A:=y :: T) (B:=[x]) fun a ha b hb=>?_
   rw [List.mem_singleton.1 hb]
   rcases List.mem_cons.1 ha with rfl | ha
   ·omega
   ·have:=h1 a ha;omega
  ·exact Sb.app (Sb.refl [y]) (ins_sb x T h2)
theorem srt_sb (l : List Mb) : Sb (wQ l) l := by
 have key : ∀ (n : Nat) (l : List Mb), l.length = n -> Sb (wQ l) l := by
  intro n
  induction n with
  | zero=>intro l hl;rw [List.length_eq_zero_iff.1 hl];exact Sb.refl _
  | succ n ih =>
   intro l hl
   obtain ⟨B, x, rfl⟩ : ∃ B x, l = B ++ [x] := by
    rcases List.eq_nil_or_concat l with rfl | ⟨B,x,rfl⟩
    ·simp at hl
    ·exact ⟨B,x,by simp⟩
   rw [srtM_snoc]
   exact (ins_sb x _ (srtM_spec B).2.1).trans (Sb.app (ih B (by simpa using hl)) (Sb.refl [x]))
 exact key _ l rfl
theorem ltM_at {L : List Mb} {i j : Nat} {x y : Mb} (hx : L[i]? = some x) (hy : L[j]? = some y) : ltM L i j = decide (x.i < y.i) := by
 unfold ltM
 rw [List.getD_eq_getElem?_getD,List.getD_eq_getElem?_getD,hx,hy];rfl
theorem ord_at {A : List Mb} (h : Ord A) {i j : Nat} {x y : Mb} (hij : i <= j) (hx : A[i]? = some x) (hy : A[j]? = some y) : x.i <= y.i := by
 obtain ⟨h1,rfl⟩:=List.getElem?_eq_some_iff.1 hx
 obtain ⟨h2,rfl⟩:=List.getElem?_eq_some_iff.1 hy
 by_cases e : i = j
 ·subst e;exact Int.le_refl _
 ·exact List.pairwise_iff_getElem.1 h i j h1 h2 (by omega)
theorem at_A {X A R : List Mb} {h : Nat} (h1 : X.length <= h) (h2 : h < X.length + A.length) : (X ++ (A ++ R))[h]? = A[h - X.length]? := by
 rw [List.getElem?_append_right h1,List.getElem?_append_left (by omega)]
theorem at_B {X A B R : List Mb} {h : Nat} (h1 : X.length + A.length <= h) (h2 : h < X.length + A.length + B.length) : (X ++ (A ++ (B ++ R)))[h]? = B[h - X.length - A.length]? := by
 rw [List.getElem?_append_right (by omega),List.getElem?_append_right (by omega),List.getElem?_append_left (by omega)]
theorem some_at {A : List Mb} {i : Nat} (h : i < A.length) : ∃ x, A[i]? = some x /\ x ∈ A := ⟨A[i], List.getElem?_eq_getElem h, List.getElem_mem h⟩
theorem mem_take_at {A : List Mb} {n : Nat} {x : Mb} (h : x ∈ A.take n) : ∃ i, i < n /\ A[i]? = some x := by
 obtain ⟨i,hi,rfl⟩:=List.getElem_of_mem h
 rw [List.length_take] at hi
 exact ⟨i,by omega,by rw [List.getElem_take];exact List.getElem?_eq_getElem (by omega)⟩
theorem mem_drop_at {A : List Mb} {n : Nat} {x : Mb} (h : x ∈ A.drop n) : ∃ i, n <= i /\ i < A.length /\ A[i]? = some x := by
 obtain ⟨i,hi,rfl⟩:=List.getElem_of_mem h
 rw [List.length_drop] at hi
 exact ⟨n + i,by omega,by omega,by rw [List.getElem_drop];exact List.getElem?_eq_getElem (by omega)⟩
theorem sym_one {X B Y : List Mb} {x : Mb} {a m b : Nat} (ha : a = X.length) (hm : m = X.length + 1) (hb : b = X.length + 1 + B.length) (hB : Ord B) :
 ∃ R,shU (X ++ ([x] ++ (B ++ Y))) a (bsL (fun h=>ltM (X ++ ([x] ++ (B ++ Y))) h a) (b - m) m b - 1 - a) = X ++ (R ++ Y) /\ Ord R /\ Sb R ([x] ++ B):=by
 have hx : (X ++ ([x] ++ (B ++ Y)))[a]? = some x:=by rw [at_A (by omega) (by simp;omega)];simp [ha]
 have hp : ∀ h, m <= h -> h < b -> ∃ y, B[h - m]? = some y /\ ltM (X ++ ([x] ++ (B ++ Y))) h a = decide (y.i < x.i) := fun h h1 h2 => by
  obtain ⟨y,hy,-⟩:=some_at (A:=B) (i:=h - m) (by omega)
  refine ⟨y,hy,ltM_at ?_ hx⟩
  rw [at_B (by simp;omega) (by simp;omega),<- hy]
  congr 1;simp;omega
 generalize hP : (fun h=>ltM (X ++ ([x] ++ (B ++ Y))) h a) = P
 have hp' : ∀ h,m <= h -> h < b -> ∃ y,B[h - m]? = some y /\ P h = decide (y.i < x.i):=fun h h1 h2=>by rw [<- hP];exact hp h h1 h2
 have sp := bsL_spec P (b - m) m b (by omega) (by omega) fun h h' h1 h2 h3 h4 => by
  obtain ⟨y,hy,e⟩:=hp' h h1 (by omega)
  obtain ⟨z,hz,e'⟩:=hp' h' (by omega) h3
  rw [e',decide_eq_true_eq] at h4
  rw [e,decide_eq_true_eq]
  have:=ord_at hB (by omega) hy hz
  omega
 have bd:=bsL_bd P (b - m) m b (by omega)
 generalize bsL P (b - m) m b = k at *
 have l1 : ∀ y ∈ B.take (k - m), y.i < x.i := fun y hy => by
  obtain ⟨i,hi,hyi⟩:=mem_take_at hy
  obtain ⟨z,hz,e⟩:=hp' (m + i) (by omega) (by omega)
  rw [sp.1 (m + i) (by omega) (by omega)] at e
  rw [show m + i - m = i by omega,hyi] at hz
  rw [Option.some.inj hz]
  exact of_decide_eq_true e.symm
 have l2 : ∀ y ∈ B.drop (k - m), x.i <= y.i := fun y hy => by
  obtain ⟨i,hi,hi2,hyi⟩:=mem_drop_at hy
  obtain ⟨z,hz,e⟩:=hp' (m + i) (by omega) (by omega)
  rw [sp.2 (m + i) (by omega) (by omega)] at e
  rw [show m + i - m = i by omega,hyi] at hz
  rw [Option.some.inj hz]
  have:=of_decide_eq_false e.symm
  omega
 have hBt:=List.take_append_drop (k - m) B
 have hlen : (B.take (k - m)).length = k - m:=by rw [List.length_take];omega
 generalize B.take (k - m) = B1 at *
 generalize B.drop (k - m) = B2 at *
 subst hBt
 obtain ⟨o1,o2,o3⟩:=ord_app.1 hB
 refine ⟨B1 ++ x :: B2,?_,?_,?_⟩
 ·have := shU_app x (B2 ++ Y) X B1 a (k - 1 - a) ha (by omega)
  simpa using this
 ·refine ord_app.2 ⟨o1, List.pairwise_cons.2 ⟨l2, o2⟩, fun u hu q hq => ?_⟩
  rcases List.mem_cons.1 hq with e | hq
  ·have:=l1 u hu;rw [e];omega
  ·exact o3 u hu q hq
 ·have e1 := Sb.swap (A := [x]) (B := B1) fun p hp q hq => by
   rw [List.mem_singleton.1 hp];have:=l1 q hq;omega
  have:=e1.app (Sb.refl B2)
  simpa using this
theorem sym_last {X A Y : List Mb} {x : Mb} {a m : Nat} (ha : a = X.length) (hm : m = X.length + A.length) (hA : Ord A) :
 ∃ R,shD (X ++ (A ++ ([x] ++ Y))) m (m - bsL (fun h=>!ltM (X ++ (A ++ ([x] ++ Y))) m h) (m - a) a m) = X ++ (R ++ Y) /\ Ord R /\ Sb R (A ++ [x]):=by
 have hx : (X ++ (A ++ ([x] ++ Y)))[m]? = some x:=by rw [at_B (by omega) (by simp;omega)];simp [hm]
 generalize hP : (fun h=>!ltM (X ++ (A ++ ([x] ++ Y))) m h) = P
 have hp' : ∀ h, a <= h -> h < m -> ∃ y, A[h - a]? = some y /\ P h = !decide (x.i < y.i) := fun h h1 h2 => by
  obtain ⟨y,hy,-⟩:=some_at (A:=A) (i:=h - a) (by omega)
  refine ⟨y,hy,?_⟩
  rw [<- hP]
  show (!ltM _ m h) = _
  rw [ltM_at hx (y:=y) (by rw [at_A (by omega) (by omega),<- hy,ha])]
 have sp := bsL_spec P (m - a) a m (by omega) (by omega) fun h h' h1 h2 h3 h4 => by
  obtain ⟨y,hy,e⟩:=hp' h h1 (by omega)
  obtain ⟨z,hz,e'⟩:=hp' h' (by omega) h3
  rw [e'] at h4
  rw [e]
  simp only [Bool.not_eq_true',decide_eq_false_iff_not] at h4 ⊢
  have:=ord_at hA (by omega) hy hz
  omega
 have bd:=bsL_bd P (m - a) a m (by omega)
 generalize bsL P (m - a) a m = k at *
 have l1 : ∀ y ∈ A.take (k - a), y.i <= x.i := fun y hy => by
  obtain ⟨i,hi,hyi⟩:=mem_take_at hy
  obtain ⟨z,hz,e⟩:=hp' (a + i) (by omega) (by omega)
  rw [sp.1 (a + i) (by omega) (by omega)] at e
  rw [show a + i - a = i by omega,hyi] at hz
  rw [Option.some.inj hz]
  have:=e.symm
  simp only [Bool.not_eq_true',decide_eq_false_iff_not] at this
  omega
 have l2 : ∀ y ∈ A.drop (k - a), x.i < y.i := fun y hy => by
  obtain ⟨i,hi,hi2,hyi⟩:=mem_drop_at hy
  obtain ⟨z,hz,e⟩:=hp' (a + i) (by omega) (by omega)
  rw [sp.2 (a + i) (by omega) (by omega)] at e
  rw [show a + i - a = i by omega,hyi] at hz
  rw [Option.some.inj hz]
  have:=e.symm
  simpa using this
 have hBt:=List.take_append_drop (k - a) A
 have hlen : (A.drop (k - a)).length = m - k:=by rw [List.length_drop];omega
 have hlen1 : (A.take (k - a)).length = k - a:=by rw [List.length_take];omega
 generalize A.take (k - a) = A1 at *
 generalize A.drop (k - a) = A2 at *
 subst hBt
 obtain ⟨o1,o2,o3⟩:=ord_app.1 hA
 refine ⟨A1 ++ x :: A2,?_,?_,?_⟩
 ·have := shD_app x (X ++ A1) A2 Y m (m - k) (by simp only [List.length_append]; omega) (by omega)
  simpa using this
 ·refine ord_app.2 ⟨o1, List.pairwise_cons.2 ⟨fun y hy => by have := l2 y hy; omega, o2⟩, fun p hp q hq => ?_⟩
  rcases List.mem_cons.1 hq with rfl | hq
  ·exact l1 p hp
  ·exact o3 p hp q hq
 ·have e1 := Sb.swap (A := A2) (B := [x]) fun p hp q hq => by
   rw [List.mem_singleton.1 hq];have:=l2 p hp;omega
  have:=(Sb.refl A1).app e1
  simpa using this
theorem srch {X A B Y : List Mb} {a m b d s0 r0 : Nat} (ha : a = X.length) (hm : m = X.length + A.length) (hb : b = X.length + A.length + B.length) (hA : Ord A) (hB : Ord B)
 (h1 : a <= s0) (h2 : s0 <= r0) (h3 : r0 <= m) (h4 : r0 <= d) (h5 : d + m <= b + s0) (h6 : r0 = d \/ r0 = m) (h7 : s0 = a \/ d + m = b + s0) (s : Nat)
 (hs : s = bsL (fun c=>!ltM (X ++ (A ++ (B ++ Y))) (d + m - 1 - c) c) (r0 - s0) s0 r0) :
 s0 <= s /\ s <= r0 /\ (∀ x ∈ A.take (s - a),∀ y ∈ B.drop (d - s),x.i <= y.i) /\ (∀ x ∈ A.drop (s - a),∀ y ∈ B.take (d - s),y.i < x.i):=by
 generalize hP : (fun c=>!ltM (X ++ (A ++ (B ++ Y))) (d + m - 1 - c) c) = P at hs
 have hp' : ∀ c, s0 <= c -> c < r0 -> ∃ x y, A[c - a]? = some x /\ B[d - 1 - c]? = some y /\ P c = !decide (y.i < x.i) := fun c c1 c2 => by
  obtain ⟨x,hx,-⟩:=some_at (A:=A) (i:=c - a) (by omega)
  obtain ⟨y,hy,-⟩:=some_at (A:=B) (i:=d - 1 - c) (by omega)
  refine ⟨x,y,hx,hy,?_⟩
  rw [<- hP]
  show (!ltM _ (d + m - 1 - c) c) = _
  rw [ltM_at (x:=y) (y:=x)]
  ·rw [at_B (by omega) (by omega),<- hy];congr 1;omega
  ·rw [at_A (by omega) (by omega),<- hx,ha]
 have sp := bsL_spec P (r0 - s0) s0 r0 (by omega) h2 fun c c' c1 c2 c3 c4 => by
  obtain ⟨x,y,hx,hy,e⟩:=hp' c c1 (by omega)
  obtain ⟨x',y',hx',hy',e'⟩:=hp' c' (by omega) c3
  rw [e'] at c4
  rw [e]
  simp only [Bool.not_eq_true',decide_eq_false_iff_not] at c4 ⊢
  have q1:=ord_at hA (by omega) hx hx'
  have q2:=ord_at hB (by omega) hy' hy
  omega
 have bd:=bsL_bd P (r0 - s0) s0 r0 h2
 rw [<- hs] at sp bd
 refine ⟨bd.1,bd.2,fun x hx y hy=>?_,fun x hx y hy=>?_⟩
 ·obtain ⟨i, hi, hxi⟩ := mem_take_at hx
  obtain ⟨j,hj,hj2,hyj⟩:=mem_drop_at hy
  by_cases e : s0 < s
  ·obtain ⟨x', y', hx', hy', e'⟩ := hp' (s - 1) (by omega) (by omega)
   rw [sp.1 (s - 1) (by omega) (by omega)] at e'
   have e':=e'.symm
   simp only [Bool.not_eq_true',decide_eq_false_iff_not] at e'
   have q1:=ord_at hA (by omega) hxi hx'
   have q2:=ord_at hB (by omega) hy' hyj
   omega
  ·omega
 ·obtain ⟨i, hi, hi2, hxi⟩ := mem_drop_at hx
  obtain ⟨j,hj,hyj⟩:=mem_take_at hy
  by_cases e : s < r0
  ·obtain ⟨x', y', hx', hy', e'⟩ := hp' s (by omega) e
   rw [sp.2 s (by omega) e] at e'
   have e':=e'.symm
   simp only [Bool.not_eq_false',decide_eq_true_eq] at e'
   have q1:=ord_at hA (by omega) hx' hxi
   have q2:=ord_at hB (by omega) hyj hy'
   omega
  ·obtain ⟨hjl, -⟩ := List.getElem?_eq_some_iff.1 hyj
   omega
theorem symM_spec : ∀ (f : Nat) (X A B Y : List Mb) (a m b : Nat), b <= a + f -> a = X.length -> m = X.length + A.length -> b = X.length + A.length + B.length -> 0 < A.length -> 0 < B.length -> Ord A -> Ord B →
 ∃ R,symM f (X ++ (A ++ (B ++ Y))) a m b = X ++ (R ++ Y) /\ Ord R /\ Sb R (A ++ B)
 | 0,X,A,B,Y,a,m,b,h,ha,hm,hb,h1,h2,_,_=>by omega
 | f + 1, X, A, B, Y, a, m, b, h, ha, hm, hb, h1, h2, hA, hB => by
  rw [symM]
  by_cases q1 : m - a = 1
  ·rw [if_pos q1]
   obtain ⟨x,rfl⟩ : ∃ x,A = [x]:=List.length_eq_one_iff.1 (by omega)
   exact sym_one ha (by simpa using hm) (by simpa using hb) hB
  rw [if_neg q1]
  by_cases q2 : b - m = 1
  ·rw [if_pos q2]
   obtain ⟨x,rfl⟩ : ∃ x,B = [x]:=List.length_eq_one_iff.1 (by omega)
   exact sym_last ha hm hA
  rw [if_neg q2]
  have hd1 : a + 1 < (a + b) / 2:=by omega
  have hd2 : (a + b) / 2 + 1 < b:=by omega
  have hdd : 2 * ((a + b) / 2) <= a + b /\ a + b <= 2 * ((a + b) / 2) + 1:=by omega
  have hS : ∃ s, mgS (X ++ (A ++ (B ++ Y))) a m b = s /\ a <= s /\ s <= m /\ s <= (a + b) / 2 /\ (a + b) / 2 + m <= b + s /\ (∀ x ∈ A.take (s - a), ∀ y ∈ B.drop ((a + b) / 2 - s), x.i <= y.i) /\ (∀ x ∈ A.drop (s - a), ∀ y ∈ B.take ((a + b) / 2 - s), y.i < x.i) := by
   refine ⟨_,rfl,?_⟩
   unfold mgS
   generalize (a + b) / 2 = d at *
   by_cases q3 : d < m
   ·rw [if_pos q3]
    obtain ⟨w1,w2,w3,w4⟩:=srch (Y:=Y) (d:=d) (s0:=d + m - b) (r0:=d) ha hm hb hA hB (by omega) (by omega) (by omega) (by omega) (by omega) (.inl rfl) (.inr (by omega)) _ rfl
    exact ⟨by omega,by omega,w2,by omega,w3,w4⟩
   ·rw [if_neg q3]
    obtain ⟨w1,w2,w3,w4⟩:=srch (Y:=Y) (d:=d) (s0:=a) (r0:=m) ha hm hb hA hB (by omega) (by omega) (by omega) (by omega) (by omega) (.inr rfl) (.inl rfl) _ rfl
    exact ⟨w1,w2,by omega,by omega,w3,w4⟩
  obtain ⟨s,es,s1,s2,s3,s4,f2,f1⟩:=hS
  rw [es]
  unfold mgP
  dsimp only
  generalize (a + b) / 2 = d at *
  have lA:=List.take_append_drop (s - a) A
  have lB:=List.take_append_drop (d - s) B
  have n1 : (A.take (s - a)).length = s - a:=by rw [List.length_take];omega
  have n2 : (A.drop (s - a)).length = m - s:=by rw [List.length_drop];omega
  have n3 : (B.take (d - s)).length = d - s:=by rw [List.length_take];omega
  have n4 : (B.drop (d - s)).length = b - m - (d - s):=by rw [List.length_drop];omega
  generalize A.take (s - a) = A1 at *
  generalize A.drop (s - a) = A2 at *
  generalize B.take (d - s) = B1 at *
  generalize B.drop (d - s) = B2 at *
  subst lA lB
  obtain ⟨oA1,oA2,oA⟩:=ord_app.1 hA
  obtain ⟨oB1,oB2,oB⟩:=ord_app.1 hB
  simp only [List.length_append] at hm hb h1 h2
  have eL : X ++ (A1 ++ A2 ++ (B1 ++ B2 ++ Y)) = X ++ A1 ++ (A2 ++ (B1 ++ (B2 ++ Y))):=by simp only [List.append_assoc]
  have e1 : (if s < m /\ m < d + m - s then rotM m (d + m - s - s) (X ++ (A1 ++ A2 ++ (B1 ++ B2 ++ Y))) (m - s) (d + m - s - m) else X ++ (A1 ++ A2 ++ (B1 ++ B2 ++ Y))) = X ++ (A1 ++ (B1 ++ (A2 ++ (B2 ++ Y)))) := by
   by_cases q : s < m /\ m < d + m - s
   ·rw [if_pos q, eL, rotM_app m _ (X ++ A1) A2 B1 (B2 ++ Y) _ _ (by omega) (by omega) (by omega) (by omega) (by omega) (by rw [List.length_append]; omega)]
    simp only [List.append_assoc]
   ·rw [if_neg q]
    by_cases q' : s < m
    ·have : B1 = [] := List.length_eq_zero_iff.1 (by omega)
     subst this;simp
    ·have : A2 = [] := List.length_eq_zero_iff.1 (by omega)
     subst this;simp
  rw [e1]
  obtain ⟨R1, e2, o2, b2⟩ : ∃ R1, (if a < s /\ s < d then symM f (X ++ (A1 ++ (B1 ++ (A2 ++ (B2 ++ Y))))) a s d else X ++ (A1 ++ (B1 ++ (A2 ++ (B2 ++ Y))))) = X ++ (R1 ++ (A2 ++ (B2 ++ Y))) /\ Ord R1 /\ Sb R1 (A1 ++ B1) := by
   by_cases q : a < s /\ s < d
   ·rw [if_pos q]
    exact symM_spec f X A1 B1 (A2 ++ (B2 ++ Y)) a s d (by omega) ha (by omega) (by omega) (by omega) (by omega) oA1 oB1
   ·rw [if_neg q]
    refine ⟨A1 ++ B1,by simp only [List.append_assoc],?_,Sb.refl _⟩
    by_cases q' : a < s
    ·have : B1 = [] := List.length_eq_zero_iff.1 (by omega)
     subst this;simpa using oA1
    ·have : A1 = [] := List.length_eq_zero_iff.1 (by omega)
     subst this;simpa using oB1
  rw [e2]
  have l2:=b2.l
  rw [List.length_append] at l2
  obtain ⟨R2, e3, o3, b3⟩ : ∃ R2, (if d < d + m - s /\ d + m - s < b then symM f (X ++ (R1 ++ (A2 ++ (B2 ++ Y)))) d (d + m - s) b else X ++ (R1 ++ (A2 ++ (B2 ++ Y)))) = X ++ (R1 ++ (R2 ++ Y)) /\ Ord R2 /\ Sb R2 (A2 ++ B2) := by
   by_cases q : d < d + m - s /\ d + m - s < b
   ·rw [if_pos q]
    obtain ⟨R2,w1,w2,w3⟩:=symM_spec f (X ++ R1) A2 B2 Y d (d + m - s) b (by omega) (by rw [List.length_append];omega) (by rw [List.length_append];omega) (by rw [List.length_append];omega) (by omega) (by omega) oA2 oB2
    exact ⟨R2,by simpa only [List.append_assoc] using w1,w2,w3⟩
   ·rw [if_neg q]
    refine ⟨A2 ++ B2,by simp only [List.append_assoc],?_,Sb.refl _⟩
    by_cases q' : d < d + m - s
    ·have : B2 = [] := List.length_eq_zero_iff.1 (by omega)
     subst this;simpa using oA2
    ·have : A2 = [] := List.length_eq_zero_iff.1 (by omega)
     subst this;simpa using oB2
  rw [e3]
  refine ⟨R1 ++ R2,by simp only [List.append_assoc],?_,?_⟩
  ·refine ord_app.2 ⟨o2, o3, fun x hx y hy => ?_⟩
   rcases List.mem_append.1 (b2.mem hx) with hx | hx
   ·rcases List.mem_append.1 (b3.mem hy) with hy | hy
    ·exact oA x hx y hy
    ·exact f2 x hx y hy
   ·rcases List.mem_append.1 (b3.mem hy) with hy | hy
    ·have:=f1 y hy x hx;omega
    ·exact oB x hx y hy
  ·refine (b2.app b3).trans ?_
   have w:=Sb.swap (A:=A2) (B:=B1) fun x hx y hy=>by have:=f1 x hx y hy;omega
   have:=((Sb.refl A1).app w).app (Sb.refl B2)
   simpa only [List.append_assoc] using this
theorem Sb.symm {A B : List Mb} (h : Sb A B) : Sb B A := ⟨h.l.symm, fun k => (h.f k).symm⟩
theorem isrt_app (X A Y : List Mb) (a b : Nat) (ha : a = X.length) (hb : b = X.length + A.length) : isrt (X ++ (A ++ Y)) a b = X ++ (wQ A ++ Y) := by
 unfold isrt
 have e1 : (X ++ (A ++ Y)).take a = X:=by rw [ha];exact List.take_left
 have e2 : (X ++ (A ++ Y)).drop a = A ++ Y:=by rw [ha];exact List.drop_left
 have e3 : (X ++ (A ++ Y)).drop b = Y:=by rw [hb,<- List.append_assoc,<- List.length_append];exact List.drop_left
 rw [e1,e2,e3]
 have e4 : (A ++ Y).take (b - a) = A:=by rw [show b - a = A.length by omega];exact List.take_left
 rw [e4]
inductive Bks (bs : Nat) : List Mb -> Prop
 | last {A : List Mb} (h : Ord A) (hl : A.length < bs) : Bks bs A
 | cons {A T : List Mb} (h : Ord A) (hl : A.length = bs) (hT : Bks bs T) : Bks bs (A ++ T)
theorem srt_ord (l : List Mb) : Ord (wQ l) := (srtM_spec l).2.1
theorem blk_spec (n : Nat) : ∀ (f : Nat) (X T : List Mb) (a : Nat), n <= a + f -> a = X.length -> n = X.length + T.length -> ∃ T', isrt (blkM n f (X ++ T) a).1 (blkM n f (X ++ T) a).2 n = X ++ T' /\ Bks 20 T' /\ Sb T' T := by
 intro f
 have fin : ∀ (f : Nat) (X T : List Mb) (a : Nat), ¬ a + 20 <= n -> a = X.length -> n = X.length + T.length -> ∃ T', isrt (blkM n f (X ++ T) a).1 (blkM n f (X ++ T) a).2 n = X ++ T' /\ Bks 20 T' /\ Sb T' T := fun f X T a h0 ha hn => by
  rw [blkM_end n f _ a h0]
  have:=isrt_app X T [] a n ha hn
  simp only [List.append_nil] at this
  exact ⟨wQ T,this,.last (srt_ord T) (by rw [srtM_len];omega),srt_sb T⟩
 induction f with
 | zero=>intro X T a h ha hn;exact fin 0 X T a (by omega) ha hn
 | succ f ih =>
  intro X T a h ha hn
  by_cases h20 : a + 20 <= n
  ·obtain ⟨A, T2, rfl, hl⟩ : ∃ A T2, T = A ++ T2 /\ A.length = 20 := ⟨T.take 20, T.drop 20, (List.take_append_drop 20 T).symm, by rw [List.length_take]; omega⟩
   rw [List.length_append] at hn
   rw [blkM,if_pos h20,isrt_app X A T2 a (a + 20) ha (by omega),<- List.append_assoc]
   obtain ⟨T',e,b,s⟩:=ih (X ++ wQ A) T2 (a + 20) (by omega) (by rw [List.length_append,srtM_len];omega) (by rw [List.length_append,srtM_len];omega)
   exact ⟨wQ A ++ T',by rw [e,List.append_assoc],.cons (srt_ord A) (by rw [srtM_len];exact hl) b,(srt_sb A).app s⟩
  ·exact fin _ X T a h20 ha hn
theorem mrg_spec (n bs : Nat) (h0 : 0 < bs) : ∀ (f : Nat) (X T : List Mb) (a : Nat), n <= a + f -> a = X.length -> n = X.length + T.length -> Bks bs T →
 ∃ T',(if (mrgM n bs f (X ++ T) a).2 + bs < n then symM n (mrgM n bs f (X ++ T) a).1 (mrgM n bs f (X ++ T) a).2 ((mrgM n bs f (X ++ T) a).2 + bs) n else (mrgM n bs f (X ++ T) a).1) = X ++ T' /\ Bks (bs * 2) T' /\ Sb T' T:=by
 intro f
 induction f with
 | zero =>
  intro X T a h ha hn hT
  have : T = []:=List.length_eq_zero_iff.1 (by omega)
  subst this
  rw [mrgM_end n bs 0 _ a (by omega)]
  dsimp only
  rw [if_neg (by omega)]
  exact ⟨[],rfl,.last .nil (by simp;omega),Sb.refl _⟩
 | succ f ih =>
  intro X T a h ha hn hT
  cases hT with
  | last o l =>
   rw [mrgM_end n bs _ _ a (by omega)]
   dsimp only
   rw [if_neg (by omega)]
   exact ⟨T,rfl,.last o (by omega),Sb.refl _⟩
  | @cons A T1 oA lA hT1 =>
   rw [List.length_append] at hn
   cases hT1 with
   | last oB lB =>
    rw [mrgM_end n bs _ _ a (by omega)]
    dsimp only
    by_cases hb : a + bs < n
    ·rw [if_pos hb]
     obtain ⟨R,e,o,s⟩:=symM_spec n X A T1 [] a (a + bs) n (by omega) ha (by omega) (by omega) (by omega) (by omega) oA oB
     simp only [List.append_nil] at e
     have:=s.l
     rw [List.length_append] at this
     exact ⟨R,e,.last o (by omega),s⟩
    ·rw [if_neg hb]
     have : T1 = []:=List.length_eq_zero_iff.1 (by omega)
     subst this
     exact ⟨A ++ [],rfl,.last (by simpa using oA) (by simp;omega),Sb.refl _⟩
   | @cons B T2 oB lB hT2 =>
    rw [List.length_append] at hn
    obtain ⟨R,e,o,s⟩:=symM_spec n X A B T2 a (a + bs) (a + 2 * bs) (by omega) ha (by omega) (by omega) (by omega) (by omega) oA oB
    have hl:=s.l
    rw [List.length_append] at hl
    have e0 : X ++ (A ++ (B ++ T2)) = X ++ (A ++ (B ++ T2)):=rfl
    have hc : a + 2 * bs <= n:=by omega
    rw [mrgM,if_pos hc,e,<- List.append_assoc X R T2]
    obtain ⟨T',e',b,s'⟩:=ih (X ++ R) T2 (a + 2 * bs) (by omega) (by rw [List.length_append];omega) (by rw [List.length_append];omega) hT2
    refine ⟨R ++ T',by rw [e',List.append_assoc],.cons o (by omega) b,?_⟩
    have:=s.app s'
    rw [List.append_assoc] at this
    exact this
theorem stb_spec (n : Nat) : ∀ (f bs : Nat) (L : List Mb), n <= bs + f -> 0 < bs -> n = L.length -> Bks bs L -> Ord (stbM n f bs L) /\ Sb (stbM n f bs L) L := by
 have fin : ∀ (bs : Nat) (L : List Mb), n <= bs -> n = L.length -> Bks bs L -> Ord L /\ Sb L L := fun bs L h hn hL => by
  refine ⟨?_,Sb.refl _⟩
  cases hL with
  | last o _=>exact o
  | @cons A T o l hT =>
   rw [List.length_append] at hn
   have : T = []:=List.length_eq_zero_iff.1 (by omega)
   subst this
   simpa using o
 intro f
 induction f with
 | zero=>intro bs L h h0 hn hL;rw [stbM];exact fin bs L (by omega) hn hL
 | succ f ih =>
  intro bs L h h0 hn hL
  rw [stbM]
  split
  ·have := mrg_spec n bs h0 n [] L 0 (by omega) rfl (by simpa using hn) hL
   obtain ⟨T',e,b,s⟩:=this
   have e' : rndM n bs L = T':=by unfold rndM;simpa using e
   rw [e']
   obtain ⟨o,s'⟩:=ih (bs * 2) T' (by omega) (by omega) (by rw [s.l];exact hn) b
   exact ⟨o,s'.trans s⟩
  ·exact fin bs L (by omega) hn hL
theorem stab_srt (l : List Mb) : stab l = wQ l := by
 obtain ⟨T',e,b,s⟩:=blk_spec l.length l.length [] l 0 (by omega) rfl (by simp)
 simp only [List.nil_append] at e
 obtain ⟨o,s'⟩:=stb_spec l.length l.length 20 T' (by omega) (by omega) s.l.symm b
 unfold stab
 rw [e]
 exact Sb.eq o (srt_ord l) ((s'.trans s).trans (srt_sb l).symm)
theorem stS_srt (l : List Mb) : stS l = wQ l := by
 unfold stS
 split
 ·rfl
 ·exact stab_srt l
end Go.Proofs.Ytpilcadofjcdoaa
