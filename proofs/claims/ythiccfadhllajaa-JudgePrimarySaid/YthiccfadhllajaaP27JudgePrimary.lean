/- Texts that the proof needs: JSO JSP. -/
import Derived.Test.YthiccfadhllajaaP25JudgePrimary
import Derived.Test.YthiccfadhllajaaP26JudgePrimary
import Derived.Test.YthiccfadhllajaaP20JudgePrimary
namespace Go.Proofs.Ythiccfadhllajaa
set_option linter.unusedSimpArgs false
set_option linter.unusedVariables false
set_option maxRecDepth 8000
open Go Go.Av
attribute [local irreducible] Go.Av.CallK Go.Av.CallE Go.Av.CallQ Go.Av.CallF Go.Av.CallR Go.Av.CallH Go.Av.Con
abbrev zl (a b : Tx) : Prop := a.e < b.e \/ (a.e = b.e /\ a.n < b.n)
@[simp] theorem txnsS_getElem (l : List Tx) (k : Nat) (h : k < (txns l).length) : (txns l)[k] = [I (l[k]'(by simpa [txns] using h)).e, I (l[k]'(by simpa [txns] using h)).n, I (l[k]'(by simpa [txns] using h)).s, I (l[k]'(by simpa [txns] using h)).x, I (l[k]'(by simpa [txns] using h)).r, I (l[k]'(by simpa [txns] using h)).b, SB (l[k]'(by simpa [txns] using h)).m, .sl 11 (pts (l[k]'(by simpa [txns] using h)).ps)] := by simp [txns, Tx.cells]
def insT (x : Tx) : List Tx -> List Tx
 | [] => [x]
 | y :: T => if zl x y then x :: y :: T else y :: insT x T
def srtT (l : List Tx) : List Tx := l.foldl (fun T x => insT x T) []
def OrdT (l : List Tx) : Prop := l.Pairwise (fun a b => ¬ zl b a)
theorem insT_len (x : Tx) : ∀ T, (insT x T).length = T.length + 1
 | [] => rfl
 | y :: T => by unfold insT; split <;> simp [insT_len x T]
theorem insT_mem (x z : Tx) : ∀ T, z ∈ insT x T ↔ z = x \/ z ∈ T
 | [] => by simp [insT]
 | y :: T => by
  unfold insT
  split
  ·simp
  ·simp only [List.mem_cons, insT_mem x z T]
   constructor
   ·rintro (h | h | h) <;> simp [h]
   ·rintro (h | h | h) <;> simp [h]
theorem insT_ord (x : Tx) : ∀ T, OrdT T -> OrdT (insT x T)
 | [], _ => by simp [insT, OrdT]
 | y :: T, h => by
  unfold OrdT at h
  rw [List.pairwise_cons] at h
  unfold insT
  split
  ·rename_i hx
   unfold OrdT
   rw [List.pairwise_cons, List.pairwise_cons]
   refine ⟨fun z hz => ?_, h⟩
   rcases List.mem_cons.1 hz with rfl | hz
   ·omega
   ·have := h.1 z hz; omega
  ·rename_i hx
   unfold OrdT
   rw [List.pairwise_cons]
   refine ⟨fun z hz => ?_, insT_ord x T h.2⟩
   rcases (insT_mem x z T).1 hz with rfl | hz
   ·omega
   ·exact h.1 z hz
theorem insT_split (x : Tx) (B : List Tx) (hB : ∀ y ∈ B, zl x y) : ∀ A : List Tx, (∀ y ∈ A, ¬ zl x y) -> insT x (A ++ B) = A ++ x :: B
 | [], _ => by
  cases B with
  | nil => rfl
  | cons y B => simp [insT, hB y (by simp)]
 | y :: A, h => by
  simp only [List.cons_append, insT]
  rw [if_neg (h y (by simp)), insT_split x B hB A fun z hz => h z (List.mem_cons_of_mem _ hz)]
theorem srtT_snoc (l : List Tx) (x : Tx) : srtT (l ++ [x]) = insT x (srtT l) := by simp [srtT, List.foldl_append]
theorem srtT_spec (l : List Tx) : (srtT l).length = l.length /\ OrdT (srtT l) /\ ∀ z, z ∈ srtT l ↔ z ∈ l := by
 have : ∀ (m T : List Tx), OrdT T -> (m.foldl (fun T x => insT x T) T).length = T.length + m.length /\ OrdT (m.foldl (fun T x => insT x T) T) /\ ∀ z, z ∈ m.foldl (fun T x => insT x T) T ↔ z ∈ T \/ z ∈ m := by
  intro m
  induction m with
  | nil => intro T h; simp [h]
  | cons x m ih =>
   intro T h
   obtain ⟨h1, h2, h3⟩ := ih (insT x T) (insT_ord x T h)
   simp only [List.foldl_cons]
   refine ⟨by rw [h1, insT_len]; simp; omega, h2, fun z => ?_⟩
   rw [h3, insT_mem, List.mem_cons]
   constructor
   ·rintro ((h | h) | h) <;> simp [h]
   ·rintro (h | h | h) <;> simp [h]
 obtain ⟨h1, h2, h3⟩ := this l [] (by simp [OrdT])
 exact ⟨by simpa [srtT] using h1, h2, fun z => by have := h3 z; simpa [srtT] using this⟩
theorem srtT_len (l : List Tx) : (srtT l).length = l.length := (srtT_spec l).1
def cmpT (a b : Tx) : Int := zcmp a.e a.n b.e b.n
theorem log1_con (a b : Tx) : ACon Try.prog 22 [.p (.agg [I a.e, I a.n, I a.s, I a.x, I a.r, I a.b, SB a.m, .sl 11 (pts a.ps)]), .p (.agg [I b.e, I b.n, I b.s, I b.x, I b.r, I b.b, SB b.m, .sl 11 (pts b.ps)])] (.p (I (cmpT a b))) := by
 have c := cmp_con a.e a.n b.e b.n
 unfold cmpT
 generalize zcmp a.e a.n b.e b.n = z at *
 refine wBody Try.tab Try.mixed Try.func22 rfl rfl Try.ntmps22 (by simp) (by simp) fun Q hr hn => ?_
 repeat' first | (refine hK _ ?_; clear hK) | (refine hK _ _ ?_; clear hK) | (clear hK; refine hK _ ?_; clear hK) | (clear hK; clear hK; refine hK _ ?_; clear hK) | (clear hK; clear hK; clear hK; refine hK _ ?_; clear hK) | (clear hK; clear hK; clear hK; clear hK; refine hK _ ?_; clear hK) | (refine wSeq fun K hK => ?_) | ((first | refine wReg ?_ | refine wDrwQ rfl (by kernel_rfl) ?_ | refine wDrwI ?_ | refine wDrw (by kernel_rfl) ?_); simp only [List.map_cons, List.map_nil, strip]) | ((first | refine wIs fun K hK => ?_ | refine wOs fun K hK => ?_ | refine wQs fun K hK => ?_ | refine CallK_plain ?_ | refine CallQ_plain ?_ | refine CallR_plain ?_ | refine wCond ?_); simp) | (refine wIn ?_; refine And.intro (by kernel_rfl) ?_; try simp only [thenA_n]) | (first | refine wBlock ?_ | refine wScope ?_) | ((first | refine wRet ?_ | refine wExit ?_ | refine wSkip ?_); try simp) | ((first | refine wLabel ?_ | refine wOn ?_ | refine wQn ?_); try simp only [thenA_n]) | (refine CallE.pure (c) rfl ?_) | (refine CallE.lent (c) rfl ?_) | (refine CallF.pure (c) rfl ?_) | (refine CallF.lent (c) rfl ?_) | (refine CallE.own (c) ?_) | (refine CallH.pure (c) rfl ?_) | (refine CallH.lent (c) rfl ?_) | (refine CallH.own (c) ?_)
 all_goals apply hr
 all_goals simp [Try.f22]
theorem cmpT_neg (a b : Tx) : cmpT a b < 0 ↔ zl a b := by
 unfold cmpT zl; rw [zcmp_spec]; split <;> (try split) <;> omega
abbrev cmpVT : V := .p (.v (.func (.func 22) #[] #[]))
theorem set2T {α : Type} (A B : List α) (y x : α) (k : Nat) (hk : A.length = k) : ((A ++ y :: x :: B).set (k + 1) y).set k x = A ++ x :: y :: B := by
 subst hk
 rw [List.set_append_right _ _ (by omega), List.set_append_right _ _ (by omega)]
 simp
set_option maxHeartbeats 4000000 in
theorem isortT_con (L S : List Tx) (a b : Nat) (P M : List Tx) (hL : L = P ++ (M ++ S)) (ha : a = P.length) (hb : b = P.length + M.length) (hl : L.length <= 1000000) :
 ConW Try.prog 41 [.row 1024, .p (I a), .p (I b), cmpVT] 39 8 (txns L) (txns (P ++ (srtT M ++ S))) (.tup []) := by
 have hPl : P.length + (M.length + S.length) <= 1000000 := by rw [hL] at hl; simpa using hl
 have hw0 : IntKind.i64.wrap ((a : Int) + 1) = ((a + 1 : Nat) : Int) := by rw [wrap_id] <;> omega
 refine wBodyW Try.tab Try.mixed Try.func41 rfl rfl Try.ntmps41 (by simp) (by simp) rfl rfl fun Q hr hn => ?_
 repeat' first | (refine hK _ ?_; clear hK) | (refine hK _ _ ?_; clear hK) | (clear hK; refine hK _ ?_; clear hK) | (clear hK; clear hK; refine hK _ ?_; clear hK) | (clear hK; clear hK; clear hK; refine hK _ ?_; clear hK) | (clear hK; clear hK; clear hK; clear hK; refine hK _ ?_; clear hK) | (refine wSeq fun K hK => ?_) | ((first | refine wReg ?_ | refine wDrwQ rfl (by kernel_rfl) ?_ | refine wDrwI ?_ | refine wDrw (by kernel_rfl) ?_); simp only [List.map_cons, List.map_nil, strip]) | ((first | refine wIs fun K hK => ?_ | refine wOs fun K hK => ?_ | refine wQs fun K hK => ?_ | refine CallK_plain ?_ | refine CallQ_plain ?_ | refine CallR_plain ?_ | refine wCond ?_); simp [hw0]) | (refine wIn ?_; refine And.intro (by kernel_rfl) ?_; try simp only [thenA_n]) | (first | refine wBlock ?_ | refine wScope ?_) | ((first | refine wRet ?_ | refine wExit ?_ | refine wSkip ?_); try simp) | ((first | refine wLabel ?_ | refine wOn ?_ | refine wQn ?_); try simp only [thenA_n])
 refine wLoop (fun N st => ∃ k i : Nat, 1 <= k /\ i = a + k /\ k + N = max 1 M.length /\ st.s 0 = .row 1024 /\ st.s 1 = .p (I a) /\ st.s 2 = .p (I b) /\ st.s 3 = cmpVT /\ st.s 8 = .p (I i) /\ st.b 1024 = some (.row 39 8 (txns (P ++ (srtT (M.take k) ++ (M.drop k ++ S)))))) (max 1 M.length - 1) ⟨1, a + 1, by omega, rfl, by omega, ?_⟩ fun K N st hL1 ⟨k, i, hk1, hi, hk, g0, g1, g2, g3, g8, b0⟩ => ?_
 ·have h1 : srtT (M.take 1) ++ (M.drop 1 ++ S) = M ++ S := by
   cases M with
   | nil => rfl
   | cons m M => simp [srtT, insT]
  rw [h1, <- hL]
  simp
 by_cases hlt : i < b
 ·have hkM : k < M.length := by omega
  have hwi : IntKind.i64.wrap ((i : Int) + 1) = ((i + 1 : Nat) : Int) := by rw [wrap_id] <;> omega
  have hT := srtT_spec (M.take k)
  have hsn := srtT_snoc (M.take k) M[k]
  rw [<- take_snoc _ k hkM] at hsn
  rw [List.drop_eq_getElem_cons hkM] at b0
  generalize srtT (M.take k) = T at *
  obtain ⟨hTl, hTo, -⟩ := hT
  rw [List.length_take, Nat.min_eq_left (by omega)] at hTl
  generalize M[k] = x at *
  generalize hR : M.drop (k + 1) ++ S = R at *
  rw [List.cons_append, hR] at b0
  repeat' first | (refine hK _ ?_; clear hK) | (refine hK _ _ ?_; clear hK) | (clear hK; refine hK _ ?_; clear hK) | (clear hK; clear hK; refine hK _ ?_; clear hK) | (clear hK; clear hK; clear hK; refine hK _ ?_; clear hK) | (clear hK; clear hK; clear hK; clear hK; refine hK _ ?_; clear hK) | (refine wSeq fun K hK => ?_) | ((first | refine wReg ?_ | refine wDrwQ rfl (by kernel_rfl) ?_ | refine wDrwI ?_ | refine wDrw (by kernel_rfl) ?_); simp only [List.map_cons, List.map_nil, strip]) | ((first | refine wIs fun K hK => ?_ | refine wOs fun K hK => ?_ | refine wQs fun K hK => ?_ | refine CallK_plain ?_ | refine CallQ_plain ?_ | refine CallR_plain ?_ | refine wCond ?_); simp [g0, g1, g2, g3, g8, b0, hlt]) | (refine wIn ?_; refine And.intro (by kernel_rfl) ?_; try simp only [thenA_n]) | (first | refine wBlock ?_ | refine wScope ?_) | ((first | refine wRet ?_ | refine wExit ?_ | refine wSkip ?_); try simp) | ((first | refine wLabel ?_ | refine wOn ?_ | refine wQn ?_); try simp only [thenA_n])
  refine wLoop (fun N st => ∃ p j : Nat, p <= k /\ j = a + p /\ p = N /\ (∀ y ∈ T.drop p, zl x y) /\ st.s 0 = .row 1024 /\ st.s 1 = .p (I a) /\ st.s 2 = .p (I b) /\ st.s 3 = cmpVT /\ st.s 8 = .p (I i) /\ st.s 9 = .p (I j) /\ st.b 1024 = some (.row 39 8 (txns (P ++ (T.take p ++ x :: (T.drop p ++ R)))))) k ⟨k, i, by omega, hi, rfl, ?_⟩ fun K' N' st hL2 ⟨p, j, hpk, hj, hpN, hall, g0, g1, g2, g3, g8, g9, b0⟩ => ?_
  ·have h1 : T.take k = T := List.take_of_length_le (by omega)
   have h2 : T.drop k = [] := List.drop_of_length_le (by omega)
   rw [h1, h2]
   simp [g0, g1, g2, g3, g8, b0]
  rcases Nat.eq_zero_or_pos p with rfl | hp
  ·have hja : j = a := by omega
   have hfin : T.take 0 ++ x :: (T.drop 0 ++ R) = srtT (M.take (k + 1)) ++ R := by
    have := insT_split x T (by simpa using hall) [] (by simp)
    rw [hsn]
    simp only [List.nil_append] at this
    rw [this]; simp
   subst hja
   repeat' first | (refine hK _ ?_; clear hK) | (refine hK _ _ ?_; clear hK) | (clear hK; refine hK _ ?_; clear hK) | (clear hK; clear hK; refine hK _ ?_; clear hK) | (clear hK; clear hK; clear hK; refine hK _ ?_; clear hK) | (clear hK; clear hK; clear hK; clear hK; refine hK _ ?_; clear hK) | (refine wSeq fun K hK => ?_) | ((first | refine wReg ?_ | refine wDrwQ rfl (by kernel_rfl) ?_ | refine wDrwI ?_ | refine wDrw (by kernel_rfl) ?_); simp only [List.map_cons, List.map_nil, strip]) | ((first | refine wIs fun K hK => ?_ | refine wOs fun K hK => ?_ | refine wQs fun K hK => ?_ | refine CallK_plain ?_ | refine CallQ_plain ?_ | refine CallR_plain ?_ | refine wCond ?_); simp [g0, g1, g2, g3, g8, g9, b0, hwi]) | (refine wIn ?_; refine And.intro (by kernel_rfl) ?_; try simp only [thenA_n]) | (first | refine wBlock ?_ | refine wScope ?_) | ((first | refine wRet ?_ | refine wExit ?_ | refine wSkip ?_); try simp) | ((first | refine wLabel ?_ | refine wOn ?_ | refine wQn ?_); try simp only [thenA_n])
   refine hL1 _ (N - 1) (by omega) ⟨k + 1, i + 1, by omega, by omega, by omega, ?_⟩
   rw [hfin, <- hR] at b0
   simp [g0, g1, g2, g3, g8, b0, hwi]
  ·obtain ⟨q, rfl⟩ : ∃ q, p = q + 1 := ⟨p - 1, by omega⟩
   have hqT : q < T.length := by omega
   have hjq : j = (a + q) + 1 := by omega
   obtain ⟨j', hj'⟩ : ∃ j', j' = a + q := ⟨_, rfl⟩
   have hjj : j = j' + 1 := by omega
   have hwj : IntKind.i64.wrap ((j : Int) - 1) = (j' : Int) := by rw [wrap_id] <;> omega
   have hja : (a : Int) < j := by omega
   have hc := log1_con x T[q]
   have hct : (cmpT x T[q] < 0) ↔ zl x T[q] := cmpT_neg x T[q]
   generalize cmpT x T[q] = z at hc hct
   have hs1 : T.take (q + 1) = T.take q ++ [T[q]] := take_snoc _ q hqT
   have hs2 : T.drop q = T[q] :: T.drop (q + 1) := List.drop_eq_getElem_cons hqT
   obtain ⟨LL, hLL⟩ : ∃ LL, LL = P ++ (T.take (q + 1) ++ x :: (T.drop (q + 1) ++ R)) := ⟨_, rfl⟩
   have hLL' : LL = (P ++ T.take q) ++ T[q] :: x :: (T.drop (q + 1) ++ R) := by rw [hLL, hs1]; simp only [List.append_assoc, List.cons_append, List.nil_append]
   have hAl : (P ++ T.take q).length = j' := by rw [List.length_append, List.length_take, Nat.min_eq_left (by omega)]; omega
   have hset := set2T (P ++ T.take q) (T.drop (q + 1) ++ R) T[q] x j' hAl
   have hset' : ((txns LL).set j [I T[q].e, I T[q].n, I T[q].s, I T[q].x, I T[q].r, I T[q].b, SB T[q].m, .sl 11 (pts T[q].ps)]).set j' [I x.e, I x.n, I x.s, I x.x, I x.r, I x.b, SB x.m, .sl 11 (pts x.ps)] = txns (P ++ (T.take q ++ x :: (T.drop q ++ R))) := by
    have : ((txns LL).set j [I T[q].e, I T[q].n, I T[q].s, I T[q].x, I T[q].r, I T[q].b, SB T[q].m, .sl 11 (pts T[q].ps)]).set j' [I x.e, I x.n, I x.s, I x.x, I x.r, I x.b, SB x.m, .sl 11 (pts x.ps)] = txns ((LL.set j T[q]).set j' x) := by simp [txns, Tx.cells, List.map_set]
    rw [this, hjj, hLL', hset, hs2]; simp only [List.append_assoc, List.cons_append, List.nil_append]
   have hLLl : j < LL.length := by rw [hLL', List.length_append, hAl]; simp; omega
   have hLLj : j' < LL.length := by omega
   have hgx : LL[j] = x := by
    have : LL[j]? = some x := by rw [hLL', List.getElem?_append_right (by omega), hAl, show j - j' = 1 by omega]; rfl
    rw [List.getElem?_eq_getElem hLLl] at this; exact Option.some.inj this
   have hgy : LL[j'] = T[q] := by
    have : LL[j']? = some T[q] := by rw [hLL', List.getElem?_append_right (by omega), hAl, show j' - j' = 0 by omega]; rfl
    rw [List.getElem?_eq_getElem hLLj] at this; exact Option.some.inj this
   have hTq : T[q] ∈ T.drop q := by rw [hs2]; exact List.mem_cons_self
   have hne : ¬ j = j' := by omega
   generalize T[q] = y at *
   rw [<- hLL] at b0
   by_cases ho : zl x y
   ·have hz : z < 0 := hct.2 ho
    repeat' first | (refine CallE.pure (hc) rfl ?_) | (refine CallE.lent (hc) rfl ?_) | (refine CallF.pure (hc) rfl ?_) | (refine CallF.lent (hc) rfl ?_) | (refine CallE.own (hc) ?_) | (refine CallH.pure (hc) rfl ?_) | (refine CallH.lent (hc) rfl ?_) | (refine CallH.own (hc) ?_) | (refine hK _ ?_; clear hK) | (refine hK _ _ ?_; clear hK) | (clear hK; refine hK _ ?_; clear hK) | (clear hK; clear hK; refine hK _ ?_; clear hK) | (clear hK; clear hK; clear hK; refine hK _ ?_; clear hK) | (clear hK; clear hK; clear hK; clear hK; refine hK _ ?_; clear hK) | (refine wSeq fun K hK => ?_) | ((first | refine wReg ?_ | refine wDrwQ rfl (by kernel_rfl) ?_ | refine wDrwI ?_ | refine wDrw (by kernel_rfl) ?_); simp only [List.map_cons, List.map_nil, strip]) | ((first | refine wIs fun K hK => ?_ | refine wOs fun K hK => ?_ | refine wQs fun K hK => ?_ | refine CallK_plain ?_ | refine CallQ_plain ?_ | refine CallR_plain ?_ | refine wCond ?_); simp [g0, g1, g2, g3, g8, g9, b0, hwj, hja, hgx, hgy, hLLl, hLLj, hz, hne, List.getElem_set]) | (refine wIn ?_; refine And.intro (by kernel_rfl) ?_; try simp only [thenA_n]) | (first | refine wBlock ?_ | refine wScope ?_) | ((first | refine wRet ?_ | refine wExit ?_ | refine wSkip ?_); try simp) | ((first | refine wLabel ?_ | refine wOn ?_ | refine wQn ?_); try simp only [thenA_n])
    refine hL2 _ q (by omega) ⟨q, j', by omega, hj', rfl, ?_, ?_⟩
    ·intro y' hy
     rw [hs2] at hy
     rcases List.mem_cons.1 hy with rfl | hy
     ·exact ho
     ·exact hall _ hy
    ·simp [g0, g1, g2, g3, g8, b0, hwj, hset']
   ·have hz : ¬ z < 0 := fun h => ho (hct.1 h)
    have hfin : T.take (q + 1) ++ x :: (T.drop (q + 1) ++ R) = srtT (M.take (k + 1)) ++ R := by
     have hA : ∀ y' ∈ T.take (q + 1), ¬ zl x y' := fun y' hy => by
      rw [hs1] at hy
      have hp := hTo
      unfold OrdT at hp
      rw [<- List.take_append_drop q T] at hp
      rcases List.mem_append.1 hy with hy | hy
      ·have := (List.pairwise_append.1 hp).2.2 y' hy y hTq
       omega
      ·rw [List.mem_singleton.1 hy]; exact ho
     have := insT_split x (T.drop (q + 1)) hall (T.take (q + 1)) hA
     rw [List.take_append_drop] at this
     rw [hsn, this]; simp only [List.append_assoc, List.cons_append, List.nil_append]
    repeat' first | (refine CallE.pure (hc) rfl ?_) | (refine CallE.lent (hc) rfl ?_) | (refine CallF.pure (hc) rfl ?_) | (refine CallF.lent (hc) rfl ?_) | (refine CallE.own (hc) ?_) | (refine CallH.pure (hc) rfl ?_) | (refine CallH.lent (hc) rfl ?_) | (refine CallH.own (hc) ?_) | (refine hK _ ?_; clear hK) | (refine hK _ _ ?_; clear hK) | (clear hK; refine hK _ ?_; clear hK) | (clear hK; clear hK; refine hK _ ?_; clear hK) | (clear hK; clear hK; clear hK; refine hK _ ?_; clear hK) | (clear hK; clear hK; clear hK; clear hK; refine hK _ ?_; clear hK) | (refine wSeq fun K hK => ?_) | ((first | refine wReg ?_ | refine wDrwQ rfl (by kernel_rfl) ?_ | refine wDrwI ?_ | refine wDrw (by kernel_rfl) ?_); simp only [List.map_cons, List.map_nil, strip]) | ((first | refine wIs fun K hK => ?_ | refine wOs fun K hK => ?_ | refine wQs fun K hK => ?_ | refine CallK_plain ?_ | refine CallQ_plain ?_ | refine CallR_plain ?_ | refine wCond ?_); simp [g0, g1, g2, g3, g8, g9, b0, hwj, hja, hgx, hgy, hLLl, hLLj, hz, hwi]) | (refine wIn ?_; refine And.intro (by kernel_rfl) ?_; try simp only [thenA_n]) | (first | refine wBlock ?_ | refine wScope ?_) | ((first | refine wRet ?_ | refine wExit ?_ | refine wSkip ?_); try simp) | ((first | refine wLabel ?_ | refine wOn ?_ | refine wQn ?_); try simp only [thenA_n])
    refine hL1 _ (N - 1) (by omega) ⟨k + 1, i + 1, by omega, by omega, by omega, ?_⟩
    rw [hLL, hfin, <- hR] at b0
    simp [g0, g1, g2, g3, g8, b0, hwi]
 ·have hkM : M.take k = M := List.take_of_length_le (by omega)
  have hkD : M.drop k = [] := List.drop_of_length_le (by omega)
  rw [hkM, hkD] at b0
  repeat' first | (refine hK _ ?_; clear hK) | (refine hK _ _ ?_; clear hK) | (clear hK; refine hK _ ?_; clear hK) | (clear hK; clear hK; refine hK _ ?_; clear hK) | (clear hK; clear hK; clear hK; refine hK _ ?_; clear hK) | (clear hK; clear hK; clear hK; clear hK; refine hK _ ?_; clear hK) | (refine wSeq fun K hK => ?_) | ((first | refine wReg ?_ | refine wDrwQ rfl (by kernel_rfl) ?_ | refine wDrwI ?_ | refine wDrw (by kernel_rfl) ?_); simp only [List.map_cons, List.map_nil, strip]) | ((first | refine wIs fun K hK => ?_ | refine wOs fun K hK => ?_ | refine wQs fun K hK => ?_ | refine CallK_plain ?_ | refine CallQ_plain ?_ | refine CallR_plain ?_ | refine wCond ?_); simp [g0, g1, g2, g3, g8, b0, hlt]) | (refine wIn ?_; refine And.intro (by kernel_rfl) ?_; try simp only [thenA_n]) | (first | refine wBlock ?_ | refine wScope ?_) | ((first | refine wRet ?_ | refine wExit ?_ | refine wSkip ?_); try simp) | ((first | refine wLabel ?_ | refine wOn ?_ | refine wQn ?_); try simp only [thenA_n])
  refine hn _ ⟨[], by simp, by simp, ?_⟩ (by simp [g0]) (by simp [b0])
  simp [Try.f41, outR, outB, renB, b0]
theorem noBaseJ : ∀ g args β out, (fun (_ : Nat) (_ : List V) (_ : List Blk) => (none : Option Out)) g args β = some out -> Con Try.prog g args β out := fun _ _ _ _ h => by simp at h
noncomputable def blOut (m : Nat) : Bool := match xCall Try.prog Try.T (fun _ _ _ => none) 40 32 [.p (.v (.int .u64 m))] [] with
 | some (.ret (.p (.v (.int .i64 k))) [] []) => true
 | _ => false
theorem blAll : (List.range 13).all blOut = true := by kernel_rfl
theorem bitsLen_con (m : Nat) (hm : m <= 12) : ∃ k : Int, ACon Try.prog 32 [.p (.v (.int .u64 m))] (.p (I k)) := by
 have h := List.all_eq_true.1 blAll m (List.mem_range.2 (by omega))
 unfold blOut at h
 split at h
 ·rename_i k he
  exact ⟨k, xCall_sound Try.tab Try.mixed noBaseJ 40 _ _ _ _ he⟩
 ·simp at h
theorem pdq_con (l : List Tx) (hl : l.length <= 12) (k : Int) : ConW Try.prog 31 [.row 1024, .p (I 0), .p (I l.length), .p (I k), cmpVT] 39 8 (txns l) (txns (srtT l)) (.tup []) := by
 have c1 := isortT_con l [] 0 l.length [] l (by simp) (by simp) (by simp) (by omega)
 simp only [List.nil_append, List.append_nil] at c1
 rw [show ((0 : Nat) : Int) = 0 from rfl] at c1
 have h12 : (l.length : Int) <= 12 := by omega
 have hw : IntKind.i64.wrap ((l.length : Int) - 0) = l.length := by rw [wrap_id] <;> omega
 have hw' : IntKind.i64.wrap (l.length : Int) = l.length := by rw [wrap_id] <;> omega
 refine wBodyW Try.tab Try.mixed Try.func31 rfl rfl Try.ntmps31 (by simp) (by simp) rfl rfl fun Q hr hn => ?_
 repeat' first | (refine hK _ ?_; clear hK) | (refine hK _ _ ?_; clear hK) | (clear hK; refine hK _ ?_; clear hK) | (clear hK; clear hK; refine hK _ ?_; clear hK) | (clear hK; clear hK; clear hK; refine hK _ ?_; clear hK) | (clear hK; clear hK; clear hK; clear hK; refine hK _ ?_; clear hK) | (refine wSeq fun K hK => ?_) | ((first | refine wReg ?_ | refine wDrwQ rfl (by kernel_rfl) ?_ | refine wDrwI ?_ | refine wDrw (by kernel_rfl) ?_); simp only [List.map_cons, List.map_nil, strip]) | ((first | refine wIs fun K hK => ?_ | refine wOs fun K hK => ?_ | refine wQs fun K hK => ?_ | refine CallK_plain ?_ | refine CallQ_plain ?_ | refine CallR_plain ?_ | refine wCond ?_); simp) | (refine wIn ?_; refine And.intro (by kernel_rfl) ?_; try simp only [thenA_n]) | (first | refine wBlock ?_ | refine wScope ?_) | ((first | refine wRet ?_ | refine wExit ?_ | refine wSkip ?_); try simp) | ((first | refine wLabel ?_ | refine wOn ?_ | refine wQn ?_); try simp only [thenA_n])
 refine wLoop (fun N st => st.s 0 = .row 1024 /\ st.s 1 = .p (I 0) /\ st.s 2 = .p (I l.length) /\ st.s 4 = cmpVT /\ st.b 1024 = some (.row 39 8 (txns l))) 0 (by simp) fun K N st hL ⟨g0, g1, g2, g4, b0⟩ => ?_
 repeat' first | (refine CallK_inpl 1024 (c1) (by simp [b0]) (by simp [argsG, argG, ren0, inN, pos, renCs, renC, b0]) rfl ?_; simp [b0]) | (refine hK _ ?_; clear hK) | (refine hK _ _ ?_; clear hK) | (clear hK; refine hK _ ?_; clear hK) | (clear hK; clear hK; refine hK _ ?_; clear hK) | (clear hK; clear hK; clear hK; refine hK _ ?_; clear hK) | (clear hK; clear hK; clear hK; clear hK; refine hK _ ?_; clear hK) | (refine wSeq fun K hK => ?_) | ((first | refine wReg ?_ | refine wDrwQ rfl (by kernel_rfl) ?_ | refine wDrwI ?_ | refine wDrw (by kernel_rfl) ?_); simp only [List.map_cons, List.map_nil, strip]) | ((first | refine wIs fun K hK => ?_ | refine wOs fun K hK => ?_ | refine wQs fun K hK => ?_ | refine CallK_plain ?_ | refine CallQ_plain ?_ | refine CallR_plain ?_ | refine wCond ?_); simp [g0, g1, g2, g4, b0, h12, hw, hw']) | (refine wIn ?_; refine And.intro (by kernel_rfl) ?_; try simp only [thenA_n]) | (first | refine wBlock ?_ | refine wScope ?_) | ((first | refine wRet ?_ | refine wExit ?_ | refine wSkip ?_); try simp) | ((first | refine wLabel ?_ | refine wOn ?_ | refine wQn ?_); try simp only [thenA_n])
 all_goals first | refine hr _ ⟨[], by simp, by simp, ?_⟩ (by simp [g0]) (by simp [b0]) | refine hn _ ⟨[], by simp, by simp, ?_⟩ (by simp [g0]) (by simp [b0])
 all_goals simp [Try.f31, outR, outB, renB, b0]
theorem sortT_con (l : List Tx) (hl : l.length <= 12) : ConW Try.prog 21 [.row 1024, cmpVT] 39 8 (txns l) (txns (srtT l)) (.tup []) := by
 obtain ⟨k, c0⟩ := bitsLen_con l.length hl
 have c1 := pdq_con l hl k
 have hw : IntKind.u64.wrap (l.length : Int) = l.length := by
  have h : ∀ n : Nat, n < 13 -> IntKind.u64.wrap (n : Int) = n := by decide
  exact h _ (by omega)
 refine wBodyW Try.tab Try.mixed Try.func21 rfl rfl Try.ntmps21 (by simp) (by simp) rfl rfl fun Q hr hn => ?_
 repeat' first | (refine CallK_inpl 1024 (c1) (by simp [List.length_map]) (by simp [argsG, argG, ren0, inN, pos, renCs, renC, List.length_map]) rfl ?_; simp [List.length_map]) | (refine CallE.pure (c0) rfl ?_) | (refine CallE.lent (c0) rfl ?_) | (refine CallF.pure (c0) rfl ?_) | (refine CallF.lent (c0) rfl ?_) | (refine CallE.own (c0) ?_) | (refine CallH.pure (c0) rfl ?_) | (refine CallH.lent (c0) rfl ?_) | (refine CallH.own (c0) ?_) | (refine hK _ ?_; clear hK) | (refine hK _ _ ?_; clear hK) | (clear hK; refine hK _ ?_; clear hK) | (clear hK; clear hK; refine hK _ ?_; clear hK) | (clear hK; clear hK; clear hK; refine hK _ ?_; clear hK) | (clear hK; clear hK; clear hK; clear hK; refine hK _ ?_; clear hK) | (refine wSeq fun K hK => ?_) | ((first | refine wReg ?_ | refine wDrwQ rfl (by kernel_rfl) ?_ | refine wDrwI ?_ | refine wDrw (by kernel_rfl) ?_); simp only [List.map_cons, List.map_nil, strip]) | ((first | refine wIs fun K hK => ?_ | refine wOs fun K hK => ?_ | refine wQs fun K hK => ?_ | refine CallK_plain ?_ | refine CallQ_plain ?_ | refine CallR_plain ?_ | refine wCond ?_); simp [hw]) | (refine wIn ?_; refine And.intro (by kernel_rfl) ?_; try simp only [thenA_n]) | (first | refine wBlock ?_ | refine wScope ?_) | ((first | refine wRet ?_ | refine wExit ?_ | refine wSkip ?_); try simp) | ((first | refine wLabel ?_ | refine wOn ?_ | refine wQn ?_); try simp only [thenA_n])
 all_goals refine hn _ ⟨[], by simp, by simp, ?_⟩ (by simp) (by simp)
 all_goals simp [Try.f21, outR, outB, renB]
end Go.Proofs.Ythiccfadhllajaa
