/- Members in order: the insertion sort of slices.SortStableFunc. -/
import Derived.Test.YtiemabhnhgablaaQA
import Derived.Test.YtiemabhnhgablaaAwm
import Derived.Test.YtiemabhnhgablaaAvTup
namespace Go.Proofs.Ytiemabhnhgablaa
set_option linter.unusedSimpArgs false
set_option linter.unusedVariables false
open Go Go.Av
attribute [local simp] Try.T1 Try.T2 Try.T3 Try.T4 Try.T5 Try.T9 Try.T12 Try.T15 Try.T16 Try.T17 Try.T21 Try.T23 Try.T24 Try.T26 Try.T27 Try.T28 Try.T30 Try.T31 Try.T32 Try.T33 Try.T35 Try.T36 Try.T37 Try.T38 Try.T39 Try.T41 Try.T43 Try.T44 Try.T45 Try.T46 Try.T47 Try.T48 Try.T49 Try.T50 Try.T51 Try.T52 Try.T53 Try.T54 Try.T55 Try.T56 Try.T57 Try.T58 Try.T59 Try.T60 Try.T61 Try.T62 Try.T65 Try.T68 Try.T69 Try.T72 Try.T73
attribute [local irreducible] Go.Av.CallK Go.Av.CallE Go.Av.CallQ Go.Av.CallF Go.Av.CallR Go.Av.CallH Go.Av.Con

/-! ### The model -/
def insM (x : Mb) : List Mb → List Mb
  | [] => [x]
  | y :: T => if x.i < y.i then x :: y :: T else y :: insM x T
def srtM (l : List Mb) : List Mb := l.foldl (fun T x => insM x T) []
def Ord (l : List Mb) : Prop := l.Pairwise (fun a b => a.i ≤ b.i)
theorem insM_len (x : Mb) : ∀ T, (insM x T).length = T.length + 1
  | [] => rfl
  | y :: T => by unfold insM; split <;> simp [insM_len x T]
theorem insM_mem (x z : Mb) : ∀ T, z ∈ insM x T ↔ z = x ∨ z ∈ T
  | [] => by simp [insM]
  | y :: T => by
    unfold insM
    split
    · simp
    · simp only [List.mem_cons, insM_mem x z T]
      constructor
      · rintro (h | h | h) <;> simp [h]
      · rintro (h | h | h) <;> simp [h]
theorem insM_ord (x : Mb) : ∀ T, Ord T → Ord (insM x T)
  | [], _ => by simp [insM, Ord]
  | y :: T, h => by
    unfold Ord at h
    rw [List.pairwise_cons] at h
    unfold insM
    split
    · rename_i hx
      unfold Ord
      rw [List.pairwise_cons, List.pairwise_cons]
      refine ⟨fun z hz => ?_, h⟩
      rcases List.mem_cons.1 hz with rfl | hz
      · omega
      · have := h.1 z hz; omega
    · rename_i hx
      unfold Ord
      rw [List.pairwise_cons]
      refine ⟨fun z hz => ?_, insM_ord x T h.2⟩
      rcases (insM_mem x z T).1 hz with rfl | hz
      · omega
      · exact h.1 z hz
theorem insM_split (x : Mb) (B : List Mb) (hB : ∀ y ∈ B, x.i < y.i) : ∀ A : List Mb, (∀ y ∈ A, ¬ x.i < y.i) → insM x (A ++ B) = A ++ x :: B
  | [], _ => by
    cases B with
    | nil => rfl
    | cons y B => simp [insM, hB y (by simp)]
  | y :: A, h => by
    simp only [List.cons_append, insM]
    rw [if_neg (h y (by simp)), insM_split x B hB A fun z hz => h z (List.mem_cons_of_mem _ hz)]
theorem srtM_snoc (l : List Mb) (x : Mb) : srtM (l ++ [x]) = insM x (srtM l) := by simp [srtM, List.foldl_append]
theorem srtM_spec (l : List Mb) : (srtM l).length = l.length ∧ Ord (srtM l) ∧ ∀ z, z ∈ srtM l ↔ z ∈ l := by
  have : ∀ (m T : List Mb), Ord T → (m.foldl (fun T x => insM x T) T).length = T.length + m.length ∧ Ord (m.foldl (fun T x => insM x T) T) ∧ ∀ z, z ∈ m.foldl (fun T x => insM x T) T ↔ z ∈ T ∨ z ∈ m := by
    intro m
    induction m with
    | nil => intro T h; simp [h]
    | cons x m ih =>
      intro T h
      obtain ⟨h1, h2, h3⟩ := ih (insM x T) (insM_ord x T h)
      simp only [List.foldl_cons]
      refine ⟨by rw [h1, insM_len]; simp; omega, h2, fun z => ?_⟩
      rw [h3, insM_mem, List.mem_cons]
      constructor
      · rintro ((h | h) | h) <;> simp [h]
      · rintro (h | h | h) <;> simp [h]
  obtain ⟨h1, h2, h3⟩ := this l [] (by simp [Ord])
  exact ⟨by simpa [srtM] using h1, h2, fun z => by have := h3 z; simpa [srtM] using this⟩
theorem srtM_len (l : List Mb) : (srtM l).length = l.length := (srtM_spec l).1

def cmpM (a b : Mb) : Int := if a.i < b.i then -1 else if b.i < a.i then 1 else 0
theorem sort1_con (a b : Mb) : ACon Try.prog 29 [.p (.agg [I a.i, I a.r, I a.w, I a.g]), .p (.agg [I b.i, I b.r, I b.w, I b.g])] (.p (I (cmpM a b))) := by
  unfold cmpM
  by_cases h1 : a.i < b.i
  · rw [if_pos h1]
    refine wBody Try.tab Try.mixed Try.func29 rfl rfl Try.ntmps29 (by simp) (by simp) fun Q hr hn => ?_
    repeat' first | (refine hK _ ?_; clear hK) | (refine hK _ _ ?_; clear hK) | (clear hK; refine hK _ ?_; clear hK) | (clear hK; clear hK; refine hK _ ?_; clear hK) | (clear hK; clear hK; clear hK; refine hK _ ?_; clear hK) | (clear hK; clear hK; clear hK; clear hK; refine hK _ ?_; clear hK) | (refine wSeq fun K hK => ?_) | ((first | refine wReg ?_ | refine wDrwQ rfl (by kernel_rfl) ?_ | refine wDrwI ?_ | refine wDrw (by kernel_rfl) ?_); simp only [List.map_cons, List.map_nil, strip]) | ((first | refine wIs fun K hK => ?_ | refine wOs fun K hK => ?_ | refine wQs fun K hK => ?_ | refine CallK_plain ?_ | refine CallQ_plain ?_ | refine CallR_plain ?_ | refine wCond ?_); simp [h1]) | (refine wIn ?_; refine And.intro (by kernel_rfl) ?_; try simp only [thenA_n]) | (first | refine wBlock ?_ | refine wScope ?_) | ((first | refine wRet ?_ | refine wExit ?_ | refine wSkip ?_); try simp) | ((first | refine wLabel ?_ | refine wOn ?_ | refine wQn ?_); try simp only [thenA_n])
    all_goals apply hr
    all_goals simp [Try.f29]
  · rw [if_neg h1]
    by_cases h2 : b.i < a.i
    · rw [if_pos h2]
      refine wBody Try.tab Try.mixed Try.func29 rfl rfl Try.ntmps29 (by simp) (by simp) fun Q hr hn => ?_
      repeat' first | (refine hK _ ?_; clear hK) | (refine hK _ _ ?_; clear hK) | (clear hK; refine hK _ ?_; clear hK) | (clear hK; clear hK; refine hK _ ?_; clear hK) | (clear hK; clear hK; clear hK; refine hK _ ?_; clear hK) | (clear hK; clear hK; clear hK; clear hK; refine hK _ ?_; clear hK) | (refine wSeq fun K hK => ?_) | ((first | refine wReg ?_ | refine wDrwQ rfl (by kernel_rfl) ?_ | refine wDrwI ?_ | refine wDrw (by kernel_rfl) ?_); simp only [List.map_cons, List.map_nil, strip]) | ((first | refine wIs fun K hK => ?_ | refine wOs fun K hK => ?_ | refine wQs fun K hK => ?_ | refine CallK_plain ?_ | refine CallQ_plain ?_ | refine CallR_plain ?_ | refine wCond ?_); simp [h1, h2]) | (refine wIn ?_; refine And.intro (by kernel_rfl) ?_; try simp only [thenA_n]) | (first | refine wBlock ?_ | refine wScope ?_) | ((first | refine wRet ?_ | refine wExit ?_ | refine wSkip ?_); try simp) | ((first | refine wLabel ?_ | refine wOn ?_ | refine wQn ?_); try simp only [thenA_n])
      all_goals apply hr
      all_goals simp [Try.f29]
    · rw [if_neg h2]
      refine wBody Try.tab Try.mixed Try.func29 rfl rfl Try.ntmps29 (by simp) (by simp) fun Q hr hn => ?_
      repeat' first | (refine hK _ ?_; clear hK) | (refine hK _ _ ?_; clear hK) | (clear hK; refine hK _ ?_; clear hK) | (clear hK; clear hK; refine hK _ ?_; clear hK) | (clear hK; clear hK; clear hK; refine hK _ ?_; clear hK) | (clear hK; clear hK; clear hK; clear hK; refine hK _ ?_; clear hK) | (refine wSeq fun K hK => ?_) | ((first | refine wReg ?_ | refine wDrwQ rfl (by kernel_rfl) ?_ | refine wDrwI ?_ | refine wDrw (by kernel_rfl) ?_); simp only [List.map_cons, List.map_nil, strip]) | ((first | refine wIs fun K hK => ?_ | refine wOs fun K hK => ?_ | refine wQs fun K hK => ?_ | refine CallK_plain ?_ | refine CallQ_plain ?_ | refine CallR_plain ?_ | refine wCond ?_); simp [h1, h2]) | (refine wIn ?_; refine And.intro (by kernel_rfl) ?_; try simp only [thenA_n]) | (first | refine wBlock ?_ | refine wScope ?_) | ((first | refine wRet ?_ | refine wExit ?_ | refine wSkip ?_); try simp) | ((first | refine wLabel ?_ | refine wOn ?_ | refine wQn ?_); try simp only [thenA_n])
      all_goals apply hr
      all_goals simp [Try.f29]

/-! ### The insertion sort -/
abbrev cmpV : V := .p (.v (.func (.func 29) #[] #[]))
theorem mbs_app (a b : List Mb) : mbs (a ++ b) = mbs a ++ mbs b := by simp [mbs]
theorem set2 {α : Type} (A B : List α) (y x : α) (k : Nat) (hk : A.length = k) : ((A ++ y :: x :: B).set (k + 1) y).set k x = A ++ x :: y :: B := by
  subst hk
  rw [List.set_append_right _ _ (by omega), List.set_append_right _ _ (by omega)]
  simp
set_option maxHeartbeats 4000000 in
theorem isort_con (L S : List Mb) (a b : Nat) (P M : List Mb) (hL : L = P ++ (M ++ S)) (ha : a = P.length) (hb : b = P.length + M.length) (hl : L.length ≤ 1000000) :
    ConW Try.prog 31 [.row 1024, .p (I a), .p (I b), cmpV] 41 4 (mbs L) (mbs (P ++ (srtM M ++ S))) (.tup []) := by
  have hPl : P.length + (M.length + S.length) ≤ 1000000 := by rw [hL] at hl; simpa using hl
  have hw0 : IntKind.i64.wrap ((a : Int) + 1) = ((a + 1 : Nat) : Int) := by rw [wrap_id] <;> omega
  refine wBodyW Try.tab Try.mixed Try.func31 rfl rfl Try.ntmps31 (by simp) (by simp) rfl rfl fun Q hr hn => ?_
  repeat' first | (refine hK _ ?_; clear hK) | (refine hK _ _ ?_; clear hK) | (clear hK; refine hK _ ?_; clear hK) | (clear hK; clear hK; refine hK _ ?_; clear hK) | (clear hK; clear hK; clear hK; refine hK _ ?_; clear hK) | (clear hK; clear hK; clear hK; clear hK; refine hK _ ?_; clear hK) | (refine wSeq fun K hK => ?_) | ((first | refine wReg ?_ | refine wDrwQ rfl (by kernel_rfl) ?_ | refine wDrwI ?_ | refine wDrw (by kernel_rfl) ?_); simp only [List.map_cons, List.map_nil, strip]) | ((first | refine wIs fun K hK => ?_ | refine wOs fun K hK => ?_ | refine wQs fun K hK => ?_ | refine CallK_plain ?_ | refine CallQ_plain ?_ | refine CallR_plain ?_ | refine wCond ?_); simp [hw0]) | (refine wIn ?_; refine And.intro (by kernel_rfl) ?_; try simp only [thenA_n]) | (first | refine wBlock ?_ | refine wScope ?_) | ((first | refine wRet ?_ | refine wExit ?_ | refine wSkip ?_); try simp) | ((first | refine wLabel ?_ | refine wOn ?_ | refine wQn ?_); try simp only [thenA_n])
  refine wLoop (fun N st => ∃ k i : Nat, 1 ≤ k ∧ i = a + k ∧ k + N = max 1 M.length ∧ st.s 0 = .row 1024 ∧ st.s 1 = .p (I a) ∧ st.s 2 = .p (I b) ∧ st.s 3 = cmpV ∧ st.s 8 = .p (I i) ∧ st.b 1024 = some (.row 41 4 (mbs (P ++ (srtM (M.take k) ++ (M.drop k ++ S)))))) (max 1 M.length - 1) ⟨1, a + 1, by omega, rfl, by omega, ?_⟩ fun K N st hL1 ⟨k, i, hk1, hi, hk, g0, g1, g2, g3, g8, b0⟩ => ?_
  · have h1 : srtM (M.take 1) ++ (M.drop 1 ++ S) = M ++ S := by
      cases M with
      | nil => rfl
      | cons m M => simp [srtM, insM]
    rw [h1, ← hL]
    simp
  by_cases hlt : i < b
  · have hkM : k < M.length := by omega
    have hwi : IntKind.i64.wrap ((i : Int) + 1) = ((i + 1 : Nat) : Int) := by rw [wrap_id] <;> omega
    have hT := srtM_spec (M.take k)
    have hsn := srtM_snoc (M.take k) M[k]
    rw [← take_snoc _ k hkM] at hsn
    rw [List.drop_eq_getElem_cons hkM] at b0
    generalize srtM (M.take k) = T at *
    obtain ⟨hTl, hTo, -⟩ := hT
    rw [List.length_take, Nat.min_eq_left (by omega)] at hTl
    generalize M[k] = x at *
    generalize hR : M.drop (k + 1) ++ S = R at *
    rw [List.cons_append, hR] at b0
    repeat' first | (refine hK _ ?_; clear hK) | (refine hK _ _ ?_; clear hK) | (clear hK; refine hK _ ?_; clear hK) | (clear hK; clear hK; refine hK _ ?_; clear hK) | (clear hK; clear hK; clear hK; refine hK _ ?_; clear hK) | (clear hK; clear hK; clear hK; clear hK; refine hK _ ?_; clear hK) | (refine wSeq fun K hK => ?_) | ((first | refine wReg ?_ | refine wDrwQ rfl (by kernel_rfl) ?_ | refine wDrwI ?_ | refine wDrw (by kernel_rfl) ?_); simp only [List.map_cons, List.map_nil, strip]) | ((first | refine wIs fun K hK => ?_ | refine wOs fun K hK => ?_ | refine wQs fun K hK => ?_ | refine CallK_plain ?_ | refine CallQ_plain ?_ | refine CallR_plain ?_ | refine wCond ?_); simp [g0, g1, g2, g3, g8, b0, hlt]) | (refine wIn ?_; refine And.intro (by kernel_rfl) ?_; try simp only [thenA_n]) | (first | refine wBlock ?_ | refine wScope ?_) | ((first | refine wRet ?_ | refine wExit ?_ | refine wSkip ?_); try simp) | ((first | refine wLabel ?_ | refine wOn ?_ | refine wQn ?_); try simp only [thenA_n])
    refine wLoop (fun N st => ∃ p j : Nat, p ≤ k ∧ j = a + p ∧ p = N ∧ (∀ y ∈ T.drop p, x.i < y.i) ∧ st.s 0 = .row 1024 ∧ st.s 1 = .p (I a) ∧ st.s 2 = .p (I b) ∧ st.s 3 = cmpV ∧ st.s 8 = .p (I i) ∧ st.s 9 = .p (I j) ∧ st.b 1024 = some (.row 41 4 (mbs (P ++ (T.take p ++ x :: (T.drop p ++ R)))))) k ⟨k, i, by omega, hi, rfl, ?_⟩ fun K' N' st hL2 ⟨p, j, hpk, hj, hpN, hall, g0, g1, g2, g3, g8, g9, b0⟩ => ?_
    · have h1 : T.take k = T := List.take_of_length_le (by omega)
      have h2 : T.drop k = [] := List.drop_of_length_le (by omega)
      rw [h1, h2]
      simp [g0, g1, g2, g3, g8, b0]
    rcases Nat.eq_zero_or_pos p with rfl | hp
    · have hja : j = a := by omega
      have hfin : T.take 0 ++ x :: (T.drop 0 ++ R) = srtM (M.take (k + 1)) ++ R := by
        have := insM_split x T (by simpa using hall) [] (by simp)
        rw [hsn]
        simp only [List.nil_append] at this
        rw [this]; simp
      subst hja
      repeat' first | (refine hK _ ?_; clear hK) | (refine hK _ _ ?_; clear hK) | (clear hK; refine hK _ ?_; clear hK) | (clear hK; clear hK; refine hK _ ?_; clear hK) | (clear hK; clear hK; clear hK; refine hK _ ?_; clear hK) | (clear hK; clear hK; clear hK; clear hK; refine hK _ ?_; clear hK) | (refine wSeq fun K hK => ?_) | ((first | refine wReg ?_ | refine wDrwQ rfl (by kernel_rfl) ?_ | refine wDrwI ?_ | refine wDrw (by kernel_rfl) ?_); simp only [List.map_cons, List.map_nil, strip]) | ((first | refine wIs fun K hK => ?_ | refine wOs fun K hK => ?_ | refine wQs fun K hK => ?_ | refine CallK_plain ?_ | refine CallQ_plain ?_ | refine CallR_plain ?_ | refine wCond ?_); simp [g0, g1, g2, g3, g8, g9, b0, hwi]) | (refine wIn ?_; refine And.intro (by kernel_rfl) ?_; try simp only [thenA_n]) | (first | refine wBlock ?_ | refine wScope ?_) | ((first | refine wRet ?_ | refine wExit ?_ | refine wSkip ?_); try simp) | ((first | refine wLabel ?_ | refine wOn ?_ | refine wQn ?_); try simp only [thenA_n])
      refine hL1 _ (N - 1) (by omega) ⟨k + 1, i + 1, by omega, by omega, by omega, ?_⟩
      rw [hfin, ← hR] at b0
      simp [g0, g1, g2, g3, g8, b0, hwi]
    · obtain ⟨q, rfl⟩ : ∃ q, p = q + 1 := ⟨p - 1, by omega⟩
      have hqT : q < T.length := by omega
      have hjq : j = (a + q) + 1 := by omega
      obtain ⟨j', hj'⟩ : ∃ j', j' = a + q := ⟨_, rfl⟩
      have hjj : j = j' + 1 := by omega
      have hwj : IntKind.i64.wrap ((j : Int) - 1) = (j' : Int) := by rw [wrap_id] <;> omega
      have hja : (a : Int) < j := by omega
      have hc := sort1_con x T[q]
      have hct : (cmpM x T[q] < 0) ↔ x.i < T[q].i := by unfold cmpM; split <;> (try split) <;> omega
      generalize cmpM x T[q] = z at hc hct
      have hs1 : T.take (q + 1) = T.take q ++ [T[q]] := take_snoc _ q hqT
      have hs2 : T.drop q = T[q] :: T.drop (q + 1) := List.drop_eq_getElem_cons hqT
      obtain ⟨LL, hLL⟩ : ∃ LL, LL = P ++ (T.take (q + 1) ++ x :: (T.drop (q + 1) ++ R)) := ⟨_, rfl⟩
      have hLL' : LL = (P ++ T.take q) ++ T[q] :: x :: (T.drop (q + 1) ++ R) := by rw [hLL, hs1]; simp only [List.append_assoc, List.cons_append, List.nil_append]
      have hAl : (P ++ T.take q).length = j' := by rw [List.length_append, List.length_take, Nat.min_eq_left (by omega)]; omega
      have hset := set2 (P ++ T.take q) (T.drop (q + 1) ++ R) T[q] x j' hAl
      have hset' : ((mbs LL).set j [I T[q].i, I T[q].r, I T[q].w, I T[q].g]).set j' [I x.i, I x.r, I x.w, I x.g] = mbs (P ++ (T.take q ++ x :: (T.drop q ++ R))) := by
        have : ((mbs LL).set j [I T[q].i, I T[q].r, I T[q].w, I T[q].g]).set j' [I x.i, I x.r, I x.w, I x.g] = mbs ((LL.set j T[q]).set j' x) := by simp [mbs, Mb.cells, List.map_set]
        rw [this, hjj, hLL', hset, hs2]; simp only [List.append_assoc, List.cons_append, List.nil_append]
      have hLLl : j < LL.length := by rw [hLL', List.length_append, hAl]; simp; omega
      have hLLj : j' < LL.length := by omega
      have hgx : LL[j] = x := by
        have : LL[j]? = some x := by rw [hLL', List.getElem?_append_right (by omega), hAl, show j - j' = 1 by omega]; rfl
        rw [List.getElem?_eq_getElem hLLl] at this; exact Option.some.inj this
      have hgy : LL[j'] = T[q] := by
        have : LL[j']? = some T[q] := by rw [hLL', List.getElem?_append_right (by omega), hAl, show j' - j' = 0 by omega]; rfl
        rw [List.getElem?_eq_getElem hLLj] at this; exact Option.some.inj this
      have hTq : T[q] ∈ T.drop q := by rw [hs2]; exact List.mem_cons_self
      have hne : ¬ j = j' := by omega
      generalize T[q] = y at *
      rw [← hLL] at b0
      by_cases ho : x.i < y.i
      · have hz : z < 0 := hct.2 ho
        repeat' first | (refine CallE.pure (hc) rfl ?_) | (refine CallE.lent (hc) rfl ?_) | (refine CallF.pure (hc) rfl ?_) | (refine CallF.lent (hc) rfl ?_) | (refine CallE.own (hc) ?_) | (refine CallH.pure (hc) rfl ?_) | (refine CallH.lent (hc) rfl ?_) | (refine CallH.own (hc) ?_) | (refine hK _ ?_; clear hK) | (refine hK _ _ ?_; clear hK) | (clear hK; refine hK _ ?_; clear hK) | (clear hK; clear hK; refine hK _ ?_; clear hK) | (clear hK; clear hK; clear hK; refine hK _ ?_; clear hK) | (clear hK; clear hK; clear hK; clear hK; refine hK _ ?_; clear hK) | (refine wSeq fun K hK => ?_) | ((first | refine wReg ?_ | refine wDrwQ rfl (by kernel_rfl) ?_ | refine wDrwI ?_ | refine wDrw (by kernel_rfl) ?_); simp only [List.map_cons, List.map_nil, strip]) | ((first | refine wIs fun K hK => ?_ | refine wOs fun K hK => ?_ | refine wQs fun K hK => ?_ | refine CallK_plain ?_ | refine CallQ_plain ?_ | refine CallR_plain ?_ | refine wCond ?_); simp [g0, g1, g2, g3, g8, g9, b0, hwj, hja, hgx, hgy, hLLl, hLLj, hz, hne, List.getElem_set]) | (refine wIn ?_; refine And.intro (by kernel_rfl) ?_; try simp only [thenA_n]) | (first | refine wBlock ?_ | refine wScope ?_) | ((first | refine wRet ?_ | refine wExit ?_ | refine wSkip ?_); try simp) | ((first | refine wLabel ?_ | refine wOn ?_ | refine wQn ?_); try simp only [thenA_n])
        refine hL2 _ q (by omega) ⟨q, j', by omega, hj', rfl, ?_, ?_⟩
        · intro y' hy
          rw [hs2] at hy
          rcases List.mem_cons.1 hy with rfl | hy
          · exact ho
          · exact hall _ hy
        · simp [g0, g1, g2, g3, g8, b0, hwj, hset']
      · have hz : ¬ z < 0 := fun h => ho (hct.1 h)
        have hfin : T.take (q + 1) ++ x :: (T.drop (q + 1) ++ R) = srtM (M.take (k + 1)) ++ R := by
          have hA : ∀ y' ∈ T.take (q + 1), ¬ x.i < y'.i := fun y' hy => by
            rw [hs1] at hy
            have hp := hTo
            unfold Ord at hp
            rw [← List.take_append_drop q T] at hp
            rcases List.mem_append.1 hy with hy | hy
            · have := (List.pairwise_append.1 hp).2.2 y' hy y hTq
              omega
            · rw [List.mem_singleton.1 hy]; exact ho
          have := insM_split x (T.drop (q + 1)) hall (T.take (q + 1)) hA
          rw [List.take_append_drop] at this
          rw [hsn, this]; simp only [List.append_assoc, List.cons_append, List.nil_append]
        repeat' first | (refine CallE.pure (hc) rfl ?_) | (refine CallE.lent (hc) rfl ?_) | (refine CallF.pure (hc) rfl ?_) | (refine CallF.lent (hc) rfl ?_) | (refine CallE.own (hc) ?_) | (refine CallH.pure (hc) rfl ?_) | (refine CallH.lent (hc) rfl ?_) | (refine CallH.own (hc) ?_) | (refine hK _ ?_; clear hK) | (refine hK _ _ ?_; clear hK) | (clear hK; refine hK _ ?_; clear hK) | (clear hK; clear hK; refine hK _ ?_; clear hK) | (clear hK; clear hK; clear hK; refine hK _ ?_; clear hK) | (clear hK; clear hK; clear hK; clear hK; refine hK _ ?_; clear hK) | (refine wSeq fun K hK => ?_) | ((first | refine wReg ?_ | refine wDrwQ rfl (by kernel_rfl) ?_ | refine wDrwI ?_ | refine wDrw (by kernel_rfl) ?_); simp only [List.map_cons, List.map_nil, strip]) | ((first | refine wIs fun K hK => ?_ | refine wOs fun K hK => ?_ | refine wQs fun K hK => ?_ | refine CallK_plain ?_ | refine CallQ_plain ?_ | refine CallR_plain ?_ | refine wCond ?_); simp [g0, g1, g2, g3, g8, g9, b0, hwj, hja, hgx, hgy, hLLl, hLLj, hz, hwi]) | (refine wIn ?_; refine And.intro (by kernel_rfl) ?_; try simp only [thenA_n]) | (first | refine wBlock ?_ | refine wScope ?_) | ((first | refine wRet ?_ | refine wExit ?_ | refine wSkip ?_); try simp) | ((first | refine wLabel ?_ | refine wOn ?_ | refine wQn ?_); try simp only [thenA_n])
        refine hL1 _ (N - 1) (by omega) ⟨k + 1, i + 1, by omega, by omega, by omega, ?_⟩
        rw [hLL, hfin, ← hR] at b0
        simp [g0, g1, g2, g3, g8, b0, hwi]
  · have hkM : M.take k = M := List.take_of_length_le (by omega)
    have hkD : M.drop k = [] := List.drop_of_length_le (by omega)
    rw [hkM, hkD] at b0
    repeat' first | (refine hK _ ?_; clear hK) | (refine hK _ _ ?_; clear hK) | (clear hK; refine hK _ ?_; clear hK) | (clear hK; clear hK; refine hK _ ?_; clear hK) | (clear hK; clear hK; clear hK; refine hK _ ?_; clear hK) | (clear hK; clear hK; clear hK; clear hK; refine hK _ ?_; clear hK) | (refine wSeq fun K hK => ?_) | ((first | refine wReg ?_ | refine wDrwQ rfl (by kernel_rfl) ?_ | refine wDrwI ?_ | refine wDrw (by kernel_rfl) ?_); simp only [List.map_cons, List.map_nil, strip]) | ((first | refine wIs fun K hK => ?_ | refine wOs fun K hK => ?_ | refine wQs fun K hK => ?_ | refine CallK_plain ?_ | refine CallQ_plain ?_ | refine CallR_plain ?_ | refine wCond ?_); simp [g0, g1, g2, g3, g8, b0, hlt]) | (refine wIn ?_; refine And.intro (by kernel_rfl) ?_; try simp only [thenA_n]) | (first | refine wBlock ?_ | refine wScope ?_) | ((first | refine wRet ?_ | refine wExit ?_ | refine wSkip ?_); try simp) | ((first | refine wLabel ?_ | refine wOn ?_ | refine wQn ?_); try simp only [thenA_n])
    refine hn _ ⟨[], by simp, by simp, ?_⟩ (by simp [g0]) (by simp [b0])
    simp [Try.f31, outR, outB, renB, b0]
end Go.Proofs.Ytiemabhnhgablaa
