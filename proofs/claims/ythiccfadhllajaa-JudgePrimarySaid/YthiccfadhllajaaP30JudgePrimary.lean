/- Texts that the proof needs: JR1 JR2 XB. -/
import Derived.Test.YthiccfadhllajaaP29JudgePrimary
import Derived.Test.YthiccfadhllajaaP25JudgePrimary
namespace Go.Proofs.Ythiccfadhllajaa
set_option linter.unusedSimpArgs false
set_option linter.unusedVariables false
set_option maxRecDepth 8000
open Go Go.Av
attribute [local irreducible] Go.Av.CallK Go.Av.CallE Go.Av.CallQ Go.Av.CallF Go.Av.CallR Go.Av.CallH Go.Av.Con
theorem fz_take {T : List Tx} {e n : Int} {k : Nat} (h : k < T.length) (hn : fz (T.take k) e n = none) : fz (T.take (k + 1)) e n = if T[k].e = e /\ T[k].n = n then some k else none := by
 rw [List.take_succ_eq_append_getElem h, fz_app, hn]
 simp only [List.length_take, Nat.min_eq_left (Nat.le_of_lt h)]
theorem fz_pre {T : List Tx} {e n : Int} {k j : Nat} (h : fz (T.take k) e n = some j) : fz T e n = some j := by
 have : T = T.take k ++ T.drop k := (List.take_append_drop k T).symm
 rw [this]
 unfold fz at h ⊢
 rw [List.findIdx?_append, h]; rfl
abbrev fndN : V := .tup [.p (.agg [I 0, I 0, I 0, I 0, I 0, I 0, SB [], .sl 11 []]), .p (B false)]
abbrev fndS (t : Tx) : V := .tup [.p (.agg [I t.e, I t.n, I t.s, I t.x, I t.r, I t.b, SB t.m, .sl 11 (pts t.ps)]), .p (B true)]
set_option maxHeartbeats 8000000 in
theorem find27N_con (T : List Tx) (e n : Int) (hl : T.length <= 1000) (h0 : fz T e n = none) : ConW Try.prog 17 [.row 1024, .p (.agg [I e, I n])] 39 8 (txns T) (txns T) fndN := by
 refine wBodyW Try.tab Try.mixed Try.func17 rfl rfl Try.ntmps17 (by simp) (by simp) rfl rfl fun Q hr hn => ?_
 repeat' first | (refine hK _ ?_; clear hK) | (refine hK _ _ ?_; clear hK) | (clear hK; refine hK _ ?_; clear hK) | (clear hK; clear hK; refine hK _ ?_; clear hK) | (clear hK; clear hK; clear hK; refine hK _ ?_; clear hK) | (clear hK; clear hK; clear hK; clear hK; refine hK _ ?_; clear hK) | (refine wSeq fun K hK => ?_) | ((first | refine wReg ?_ | refine wDrwQ rfl (by kernel_rfl) ?_ | refine wDrwI ?_ | refine wDrw (by kernel_rfl) ?_); simp only [List.map_cons, List.map_nil, strip]) | ((first | refine wIs fun K hK => ?_ | refine wOs fun K hK => ?_ | refine wQs fun K hK => ?_ | refine CallK_plain ?_ | refine CallQ_plain ?_ | refine CallR_plain ?_ | refine wCond ?_); simp) | (refine wIn ?_; refine And.intro (by kernel_rfl) ?_; try simp only [thenA_n]) | (first | refine wBlock ?_ | refine wScope ?_) | ((first | refine wRet ?_ | refine wExit ?_ | refine wSkip ?_); try simp) | ((first | refine wLabel ?_ | refine wOn ?_ | refine wQn ?_); try simp only [thenA_n])
 refine wLoop (fun N st => ∃ k, k + N = T.length /\ fz (T.take k) e n = none /\ st.s 0 = .row 1024 /\ st.s 3 = .ptr 3 0 /\ st.b 3 = some (.box 25 [.p (I e), .p (I n)]) /\ st.s 4 = .ptr 4 0 /\ st.b 4 = some (.box 39 [.p (I 0), .p (I 0), .p (I 0), .p (I 0), .p (I 0), .p (I 0), .p (SB []), .nil 11]) /\ st.s 8 = .row 1024 /\ st.b 1024 = some (.row 39 8 (txns T)) /\ st.s 9 = .p (I T.length) /\ st.s 10 = .p (I k)) T.length ⟨0, by simp [fz, show ByteArray.empty = bs [] from rfl]⟩ fun K N st hL ⟨k, hk, hf, g0, g3, b3, g4, b4, g8, b0, g9, g10⟩ => ?_
 by_cases hlt : k < T.length
 case neg =>
  have hlt' : ¬ (k : Int) < T.length := by omega
  rw [List.take_of_length_le (by omega)] at hf
  repeat' first | (refine hK _ ?_; clear hK) | (refine hK _ _ ?_; clear hK) | (clear hK; refine hK _ ?_; clear hK) | (clear hK; clear hK; refine hK _ ?_; clear hK) | (clear hK; clear hK; clear hK; refine hK _ ?_; clear hK) | (clear hK; clear hK; clear hK; clear hK; refine hK _ ?_; clear hK) | (refine wSeq fun K hK => ?_) | ((first | refine wReg ?_ | refine wDrwQ rfl (by kernel_rfl) ?_ | refine wDrwI ?_ | refine wDrw (by kernel_rfl) ?_); simp only [List.map_cons, List.map_nil, strip]) | ((first | refine wIs fun K hK => ?_ | refine wOs fun K hK => ?_ | refine wQs fun K hK => ?_ | refine CallK_plain ?_ | refine CallQ_plain ?_ | refine CallR_plain ?_ | refine wCond ?_); simp [g0, g3, g4, g8, g9, g10, b3, b4, b0, hlt, hlt']) | (refine wIn ?_; refine And.intro (by kernel_rfl) ?_; try simp only [thenA_n]) | (first | refine wBlock ?_ | refine wScope ?_) | ((first | refine wRet ?_ | refine wExit ?_ | refine wSkip ?_); try simp) | ((first | refine wLabel ?_ | refine wOn ?_ | refine wQn ?_); try simp only [thenA_n])
  all_goals refine hr _ ⟨[], by simp, by simp, ?_⟩ (by simp [g0]) (by simp [b0])
  all_goals simp [Try.f17, outR, outB, renB, gaN, g4, b4, b0, b3, show ByteArray.empty = bs [] from rfl]
 have hlt' : (k : Int) < T.length := by omega
 have hw := wrapS k _ hlt (by omega)
 have he := txns_get hlt
 have hs := fz_take hlt hf
 by_cases hc : T[k].e = e /\ T[k].n = n
 ·rw [if_pos hc] at hs
  have hfz := fz_pre hs
  obtain ⟨h1, h2⟩ := hc
  have h1' := eq_true h1
  have h2' := eq_true h2
  rw [h0] at hfz; cases hfz
 ·rw [if_neg hc] at hs
  have hc1 : T[k].e = e -> ¬ T[k].n = n := fun h1 h2 => hc ⟨h1, h2⟩
  have hc2 : (T[k].e == e && T[k].n == n) = false := by
   rw [Bool.and_eq_false_iff]
   by_cases h1 : T[k].e = e
   ·exact .inr (by simpa using hc1 h1)
   ·exact .inl (by simpa using h1)
  by_cases h1 : T[k].e = e
  ·have h2' := eq_false (hc1 h1)
   have h1' := eq_true h1
   repeat' first | (refine hK _ ?_; clear hK) | (refine hK _ _ ?_; clear hK) | (clear hK; refine hK _ ?_; clear hK) | (clear hK; clear hK; refine hK _ ?_; clear hK) | (clear hK; clear hK; clear hK; refine hK _ ?_; clear hK) | (clear hK; clear hK; clear hK; clear hK; refine hK _ ?_; clear hK) | (refine wSeq fun K hK => ?_) | ((first | refine wReg ?_ | refine wDrwQ rfl (by kernel_rfl) ?_ | refine wDrwI ?_ | refine wDrw (by kernel_rfl) ?_); simp only [List.map_cons, List.map_nil, strip]) | ((first | refine wIs fun K hK => ?_ | refine wOs fun K hK => ?_ | refine wQs fun K hK => ?_ | refine CallK_plain ?_ | refine CallQ_plain ?_ | refine CallR_plain ?_ | refine wCond ?_); simp [g0, g3, g4, g8, g9, g10, b3, b4, b0, hlt, hlt', hw, he, h1', h2']) | (refine wIn ?_; refine And.intro (by kernel_rfl) ?_; try simp only [thenA_n]) | (first | refine wBlock ?_ | refine wScope ?_) | ((first | refine wRet ?_ | refine wExit ?_ | refine wSkip ?_); try simp) | ((first | refine wLabel ?_ | refine wOn ?_ | refine wQn ?_); try simp only [thenA_n])
   refine hL _ (N - 1) (by omega) ⟨k + 1, by omega, hs, ?_⟩
   simp [g0, g3, g4, g8, g9, g10, b3, b4, b0, hw]
  ·have h1' := eq_false h1
   repeat' first | (refine hK _ ?_; clear hK) | (refine hK _ _ ?_; clear hK) | (clear hK; refine hK _ ?_; clear hK) | (clear hK; clear hK; refine hK _ ?_; clear hK) | (clear hK; clear hK; clear hK; refine hK _ ?_; clear hK) | (clear hK; clear hK; clear hK; clear hK; refine hK _ ?_; clear hK) | (refine wSeq fun K hK => ?_) | ((first | refine wReg ?_ | refine wDrwQ rfl (by kernel_rfl) ?_ | refine wDrwI ?_ | refine wDrw (by kernel_rfl) ?_); simp only [List.map_cons, List.map_nil, strip]) | ((first | refine wIs fun K hK => ?_ | refine wOs fun K hK => ?_ | refine wQs fun K hK => ?_ | refine CallK_plain ?_ | refine CallQ_plain ?_ | refine CallR_plain ?_ | refine wCond ?_); simp [g0, g3, g4, g8, g9, g10, b3, b4, b0, hlt, hlt', hw, he, h1']) | (refine wIn ?_; refine And.intro (by kernel_rfl) ?_; try simp only [thenA_n]) | (first | refine wBlock ?_ | refine wScope ?_) | ((first | refine wRet ?_ | refine wExit ?_ | refine wSkip ?_); try simp) | ((first | refine wLabel ?_ | refine wOn ?_ | refine wQn ?_); try simp only [thenA_n])
   refine hL _ (N - 1) (by omega) ⟨k + 1, by omega, hs, ?_⟩
   simp [g0, g3, g4, g8, g9, g10, b3, b4, b0, hw]
set_option maxHeartbeats 8000000 in
theorem find27S_con (T : List Tx) (e n : Int) (hl : T.length <= 1000) (j : Nat) (t : Tx) (h0 : fz T e n = some j) (ht : T[j]? = some t) : ConW Try.prog 17 [.row 1024, .p (.agg [I e, I n])] 39 8 (txns T) (txns T) (fndS t) := by
 refine wBodyW Try.tab Try.mixed Try.func17 rfl rfl Try.ntmps17 (by simp) (by simp) rfl rfl fun Q hr hn => ?_
 repeat' first | (refine hK _ ?_; clear hK) | (refine hK _ _ ?_; clear hK) | (clear hK; refine hK _ ?_; clear hK) | (clear hK; clear hK; refine hK _ ?_; clear hK) | (clear hK; clear hK; clear hK; refine hK _ ?_; clear hK) | (clear hK; clear hK; clear hK; clear hK; refine hK _ ?_; clear hK) | (refine wSeq fun K hK => ?_) | ((first | refine wReg ?_ | refine wDrwQ rfl (by kernel_rfl) ?_ | refine wDrwI ?_ | refine wDrw (by kernel_rfl) ?_); simp only [List.map_cons, List.map_nil, strip]) | ((first | refine wIs fun K hK => ?_ | refine wOs fun K hK => ?_ | refine wQs fun K hK => ?_ | refine CallK_plain ?_ | refine CallQ_plain ?_ | refine CallR_plain ?_ | refine wCond ?_); simp) | (refine wIn ?_; refine And.intro (by kernel_rfl) ?_; try simp only [thenA_n]) | (first | refine wBlock ?_ | refine wScope ?_) | ((first | refine wRet ?_ | refine wExit ?_ | refine wSkip ?_); try simp) | ((first | refine wLabel ?_ | refine wOn ?_ | refine wQn ?_); try simp only [thenA_n])
 refine wLoop (fun N st => ∃ k, k + N = T.length /\ fz (T.take k) e n = none /\ st.s 0 = .row 1024 /\ st.s 3 = .ptr 3 0 /\ st.b 3 = some (.box 25 [.p (I e), .p (I n)]) /\ st.s 4 = .ptr 4 0 /\ st.b 4 = some (.box 39 [.p (I 0), .p (I 0), .p (I 0), .p (I 0), .p (I 0), .p (I 0), .p (SB []), .nil 11]) /\ st.s 8 = .row 1024 /\ st.b 1024 = some (.row 39 8 (txns T)) /\ st.s 9 = .p (I T.length) /\ st.s 10 = .p (I k)) T.length ⟨0, by simp [fz, show ByteArray.empty = bs [] from rfl]⟩ fun K N st hL ⟨k, hk, hf, g0, g3, b3, g4, b4, g8, b0, g9, g10⟩ => ?_
 by_cases hlt : k < T.length
 case neg =>
  have hlt' : ¬ (k : Int) < T.length := by omega
  rw [List.take_of_length_le (by omega)] at hf
  rw [h0] at hf; cases hf
 have hlt' : (k : Int) < T.length := by omega
 have hw := wrapS k _ hlt (by omega)
 have he := txns_get hlt
 have hs := fz_take hlt hf
 by_cases hc : T[k].e = e /\ T[k].n = n
 ·rw [if_pos hc] at hs
  have hfz := fz_pre hs
  obtain ⟨h1, h2⟩ := hc
  have h1' := eq_true h1
  have h2' := eq_true h2
  rw [h0] at hfz
  simp only [Option.some.injEq] at hfz
  subst hfz
  rw [List.getElem?_eq_getElem hlt] at ht
  simp only [Option.some.injEq] at ht
  subst ht
  repeat' first | (refine hK _ ?_; clear hK) | (refine hK _ _ ?_; clear hK) | (clear hK; refine hK _ ?_; clear hK) | (clear hK; clear hK; refine hK _ ?_; clear hK) | (clear hK; clear hK; clear hK; refine hK _ ?_; clear hK) | (clear hK; clear hK; clear hK; clear hK; refine hK _ ?_; clear hK) | (refine wSeq fun K hK => ?_) | ((first | refine wReg ?_ | refine wDrwQ rfl (by kernel_rfl) ?_ | refine wDrwI ?_ | refine wDrw (by kernel_rfl) ?_); simp only [List.map_cons, List.map_nil, strip]) | ((first | refine wIs fun K hK => ?_ | refine wOs fun K hK => ?_ | refine wQs fun K hK => ?_ | refine CallK_plain ?_ | refine CallQ_plain ?_ | refine CallR_plain ?_ | refine wCond ?_); simp [g0, g3, g4, g8, g9, g10, b3, b4, b0, hlt, hlt', hw, he, h1', h2']) | (refine wIn ?_; refine And.intro (by kernel_rfl) ?_; try simp only [thenA_n]) | (first | refine wBlock ?_ | refine wScope ?_) | ((first | refine wRet ?_ | refine wExit ?_ | refine wSkip ?_); try simp) | ((first | refine wLabel ?_ | refine wOn ?_ | refine wQn ?_); try simp only [thenA_n])
  all_goals refine hr _ ⟨[], by simp, by simp, ?_⟩ (by simp [g0]) (by simp [b0])
  all_goals simp [Try.f17, outR, outB, renB, gaN, g4, b4, b0, b3]
 ·rw [if_neg hc] at hs
  have hc1 : T[k].e = e -> ¬ T[k].n = n := fun h1 h2 => hc ⟨h1, h2⟩
  have hc2 : (T[k].e == e && T[k].n == n) = false := by
   rw [Bool.and_eq_false_iff]
   by_cases h1 : T[k].e = e
   ·exact .inr (by simpa using hc1 h1)
   ·exact .inl (by simpa using h1)
  by_cases h1 : T[k].e = e
  ·have h2' := eq_false (hc1 h1)
   have h1' := eq_true h1
   repeat' first | (refine hK _ ?_; clear hK) | (refine hK _ _ ?_; clear hK) | (clear hK; refine hK _ ?_; clear hK) | (clear hK; clear hK; refine hK _ ?_; clear hK) | (clear hK; clear hK; clear hK; refine hK _ ?_; clear hK) | (clear hK; clear hK; clear hK; clear hK; refine hK _ ?_; clear hK) | (refine wSeq fun K hK => ?_) | ((first | refine wReg ?_ | refine wDrwQ rfl (by kernel_rfl) ?_ | refine wDrwI ?_ | refine wDrw (by kernel_rfl) ?_); simp only [List.map_cons, List.map_nil, strip]) | ((first | refine wIs fun K hK => ?_ | refine wOs fun K hK => ?_ | refine wQs fun K hK => ?_ | refine CallK_plain ?_ | refine CallQ_plain ?_ | refine CallR_plain ?_ | refine wCond ?_); simp [g0, g3, g4, g8, g9, g10, b3, b4, b0, hlt, hlt', hw, he, h1', h2']) | (refine wIn ?_; refine And.intro (by kernel_rfl) ?_; try simp only [thenA_n]) | (first | refine wBlock ?_ | refine wScope ?_) | ((first | refine wRet ?_ | refine wExit ?_ | refine wSkip ?_); try simp) | ((first | refine wLabel ?_ | refine wOn ?_ | refine wQn ?_); try simp only [thenA_n])
   refine hL _ (N - 1) (by omega) ⟨k + 1, by omega, hs, ?_⟩
   simp [g0, g3, g4, g8, g9, g10, b3, b4, b0, hw]
  ·have h1' := eq_false h1
   repeat' first | (refine hK _ ?_; clear hK) | (refine hK _ _ ?_; clear hK) | (clear hK; refine hK _ ?_; clear hK) | (clear hK; clear hK; refine hK _ ?_; clear hK) | (clear hK; clear hK; clear hK; refine hK _ ?_; clear hK) | (clear hK; clear hK; clear hK; clear hK; refine hK _ ?_; clear hK) | (refine wSeq fun K hK => ?_) | ((first | refine wReg ?_ | refine wDrwQ rfl (by kernel_rfl) ?_ | refine wDrwI ?_ | refine wDrw (by kernel_rfl) ?_); simp only [List.map_cons, List.map_nil, strip]) | ((first | refine wIs fun K hK => ?_ | refine wOs fun K hK => ?_ | refine wQs fun K hK => ?_ | refine CallK_plain ?_ | refine CallQ_plain ?_ | refine CallR_plain ?_ | refine wCond ?_); simp [g0, g3, g4, g8, g9, g10, b3, b4, b0, hlt, hlt', hw, he, h1']) | (refine wIn ?_; refine And.intro (by kernel_rfl) ?_; try simp only [thenA_n]) | (first | refine wBlock ?_ | refine wScope ?_) | ((first | refine wRet ?_ | refine wExit ?_ | refine wSkip ?_); try simp) | ((first | refine wLabel ?_ | refine wOn ?_ | refine wQn ?_); try simp only [thenA_n])
   refine hL _ (N - 1) (by omega) ⟨k + 1, by omega, hs, ?_⟩
   simp [g0, g3, g4, g8, g9, g10, b3, b4, b0, hw]
def fBx (f : Fa) : List V := .p (I f.kd) :: .p (I f.nd) :: .p (I f.xi) :: .p (I f.ep) :: .p (I f.ae) :: .p (I f.an) :: .p (I f.t.e) :: .p (I f.t.n) :: .p (I f.t.s) :: .p (I f.t.x) :: .p (I f.t.r) :: .p (I f.t.b) :: .p (SB f.t.m) :: .p (.sl 11 (pts f.t.ps)) :: f.r.map V.p
theorem fBx_scr (f : Fa) (n : Nat) : (fBx f).map (scr0 n) = fBx f := by simp [fBx, scr0, Function.comp_def]
structure RJ (l : List Fa) (k : Nat) (f : Fa) (T : List Tx) (st : St) : Prop where
 g0 : st.s 0 = .p (.sl 58 (fas l))
 g3 : st.s 3 = .row 3
 b3 : st.b 3 = some (.row 39 8 (txns T))
 g12 : st.s 12 = .p (.sl 58 (fas l))
 g13 : st.s 13 = .p (I l.length)
 g14 : st.s 14 = .p (I k)
 g5 : st.s 5 = .ptr 5 0
 b5 : st.b 5 = some (.box 54 (fBx f))
 g6 : st.s 6 = .ptr 6 0
 b6 : st.b 6 = some (.box 25 [.p (I f.t.e), .p (I f.t.n)])
set_option maxHeartbeats 8000000 in
theorem refMx {Q : AExit -> St -> Prop} {st : St} (l : List Fa) (k : Nat) (f : Fa) (T : List Tx) (hl : T.length <= 1000)
 (hex : ∀ st, RJ l k f T st -> st.s 7 = .p (I (mx T f.t.e)) -> Q (.exit 3) st)
 (hF : RJ l k f T st) (h7 : st.s 7 = .p (I 0)) (g43 : st.s 43 = .row 3) (g44 : st.s 44 = .p (I T.length)) (g45 : st.s 45 = .p (I 0)) : WC Try.prog Try.T 91 (lp Try.f8 1) Q st := by
 obtain ⟨g0, g3, b3, g12, g13, g14, g5, b5, g6, b6⟩ := hF
 refine wLoop (fun N st => ∃ i, i + N = T.length /\ RJ l k f T st /\ st.s 7 = .p (I (mx (T.take i) f.t.e)) /\ st.s 43 = .row 3 /\ st.s 44 = .p (I T.length) /\ st.s 45 = .p (I i)) T.length ⟨0, by omega, ⟨g0, g3, b3, g12, g13, g14, g5, b5, g6, b6⟩, by simpa [mx] using h7, g43, g44, by simpa using g45⟩ fun K N st hL ⟨i, hi, ⟨g0, g3, b3, g12, g13, g14, g5, b5, g6, b6⟩, g7, g43, g44, g45⟩ => ?_
 by_cases hlt : i < T.length
 case neg =>
  have hlt' : ¬ (i : Int) < T.length := by omega
  rw [List.take_of_length_le (by omega)] at g7
  repeat' first | (refine hK _ ?_; clear hK) | (refine hK _ _ ?_; clear hK) | (clear hK; refine hK _ ?_; clear hK) | (clear hK; clear hK; refine hK _ ?_; clear hK) | (clear hK; clear hK; clear hK; refine hK _ ?_; clear hK) | (clear hK; clear hK; clear hK; clear hK; refine hK _ ?_; clear hK) | (refine wSeq fun K hK => ?_) | ((first | refine wReg ?_ | refine wDrwQ rfl (by kernel_rfl) ?_ | refine wDrwI ?_ | refine wDrw (by kernel_rfl) ?_); simp only [List.map_cons, List.map_nil, strip]) | ((first | refine wIs fun K hK => ?_ | refine wOs fun K hK => ?_ | refine wQs fun K hK => ?_ | refine CallK_plain ?_ | refine CallQ_plain ?_ | refine CallR_plain ?_ | refine wCond ?_); simp [g0, g3, b3, g12, g13, g14, g5, b5, g6, b6, g7, g43, g44, g45, hlt, hlt']) | (refine wIn ?_; refine And.intro (by kernel_rfl) ?_; try simp only [thenA_n]) | (first | refine wBlock ?_ | refine wScope ?_) | ((first | refine wRet ?_ | refine wExit ?_ | refine wSkip ?_); try simp) | ((first | refine wLabel ?_ | refine wOn ?_ | refine wQn ?_); try simp only [thenA_n])
  all_goals refine hex _ ⟨?_, ?_, ?_, ?_, ?_, ?_, ?_, ?_, ?_, ?_⟩ ?_
  all_goals simp [g0, g3, b3, g12, g13, g14, g5, b5, g6, b6, g7]
 have hlt' : (i : Int) < T.length := by omega
 have hw := wrapS i _ hlt (by omega)
 have he := txns_get hlt
 have hmx := mx_snoc (T.take i) T[i] f.t.e
 rw [<- List.take_succ_eq_append_getElem hlt] at hmx
 generalize hm : mx (T.take i) f.t.e = m at *
 by_cases h1 : T[i].e = f.t.e
 ·rw [if_pos h1] at hmx
  have h1' := eq_true h1
  have hif : (if m < T[i].n then T[i].n else m) = mx (T.take (i + 1)) f.t.e := by rw [hmx]; split <;> omega
  repeat' first | (refine hK _ ?_; clear hK) | (refine hK _ _ ?_; clear hK) | (clear hK; refine hK _ ?_; clear hK) | (clear hK; clear hK; refine hK _ ?_; clear hK) | (clear hK; clear hK; clear hK; refine hK _ ?_; clear hK) | (clear hK; clear hK; clear hK; clear hK; refine hK _ ?_; clear hK) | (refine wSeq fun K hK => ?_) | ((first | refine wReg ?_ | refine wDrwQ rfl (by kernel_rfl) ?_ | refine wDrwI ?_ | refine wDrw (by kernel_rfl) ?_); simp only [List.map_cons, List.map_nil, strip]) | ((first | refine wIs fun K hK => ?_ | refine wOs fun K hK => ?_ | refine wQs fun K hK => ?_ | refine CallK_plain ?_ | refine CallQ_plain ?_ | refine CallR_plain ?_ | refine wCond ?_); simp [g0, g3, b3, g12, g13, g14, g5, b5, g6, b6, g7, g43, g44, g45, hlt, hlt', hw, he, h1', hif]) | (refine wIn ?_; refine And.intro (by kernel_rfl) ?_; try simp only [thenA_n]) | (first | refine wBlock ?_ | refine wScope ?_) | ((first | refine wRet ?_ | refine wExit ?_ | refine wSkip ?_); try simp) | ((first | refine wLabel ?_ | refine wOn ?_ | refine wQn ?_); try simp only [thenA_n])
  refine hL _ (N - 1) (by omega) ⟨i + 1, by omega, ⟨?_, ?_, ?_, ?_, ?_, ?_, ?_, ?_, ?_, ?_⟩, ?_⟩
  all_goals simp [g0, g3, b3, g12, g13, g14, g5, b5, g6, b6, g7, g43, g44, g45, hw, hif, fBx_scr]
 ·rw [if_neg h1] at hmx
  have h1' := eq_false h1
  repeat' first | (refine hK _ ?_; clear hK) | (refine hK _ _ ?_; clear hK) | (clear hK; refine hK _ ?_; clear hK) | (clear hK; clear hK; refine hK _ ?_; clear hK) | (clear hK; clear hK; clear hK; refine hK _ ?_; clear hK) | (clear hK; clear hK; clear hK; clear hK; refine hK _ ?_; clear hK) | (refine wSeq fun K hK => ?_) | ((first | refine wReg ?_ | refine wDrwQ rfl (by kernel_rfl) ?_ | refine wDrwI ?_ | refine wDrw (by kernel_rfl) ?_); simp only [List.map_cons, List.map_nil, strip]) | ((first | refine wIs fun K hK => ?_ | refine wOs fun K hK => ?_ | refine wQs fun K hK => ?_ | refine CallK_plain ?_ | refine CallQ_plain ?_ | refine CallR_plain ?_ | refine wCond ?_); simp [g0, g3, b3, g12, g13, g14, g5, b5, g6, b6, g7, g43, g44, g45, hlt, hlt', hw, he, h1']) | (refine wIn ?_; refine And.intro (by kernel_rfl) ?_; try simp only [thenA_n]) | (first | refine wBlock ?_ | refine wScope ?_) | ((first | refine wRet ?_ | refine wExit ?_ | refine wSkip ?_); try simp) | ((first | refine wLabel ?_ | refine wOn ?_ | refine wQn ?_); try simp only [thenA_n])
  refine hL _ (N - 1) (by omega) ⟨i + 1, by omega, ⟨?_, ?_, ?_, ?_, ?_, ?_, ?_, ?_, ?_, ?_⟩, ?_⟩
  all_goals simp [g0, g3, b3, g12, g13, g14, g5, b5, g6, b6, g7, g43, g44, g45, hw, hmx, fBx_scr]
theorem stQ_bd {T T' : List Tx} {f : Fa} (h : stQ T f = some T') (hb : ∀ e, mx T e <= T.length) : T'.length <= T.length + 1 /\ ∀ e, mx T' e <= T'.length := by
 unfold stQ at h
 split at h
 ·split at h
  ·rename_i h1
   simp only [Option.some.injEq] at h; subst h
   refine ⟨by simp, fun e => ?_⟩
   rw [mx_snoc, List.length_append]
   have := hb e
   have := hb f.ep
   split
   ·simp only [List.length_cons, List.length_nil]; omega
   ·simp only [List.length_cons, List.length_nil]; omega
  ·cases h
 ·split at h
  ·split at h
   ·split at h
    ·simp only [Option.some.injEq] at h; subst h
     exact ⟨by omega, hb⟩
    ·cases h
   ·cases h
  ·simp only [Option.some.injEq] at h; subst h
   exact ⟨by omega, hb⟩
set_option maxHeartbeats 16000000 in
theorem prim27_con (l : List Fa) (h44 : ∀ f ∈ l, f.r.length = 44) (hl : l.length <= 1000) : ACon Try.prog 8 [.p (.sl 58 (fas l))] (.p (B (primB l))) := by
 unfold primB
 refine wBody Try.tab Try.mixed Try.func8 rfl rfl Try.ntmps8 (by simp) (by simp) fun Q hr hn => ?_
 repeat' first | (refine hK _ ?_; clear hK) | (refine hK _ _ ?_; clear hK) | (clear hK; refine hK _ ?_; clear hK) | (clear hK; clear hK; refine hK _ ?_; clear hK) | (clear hK; clear hK; clear hK; refine hK _ ?_; clear hK) | (clear hK; clear hK; clear hK; clear hK; refine hK _ ?_; clear hK) | (refine wSeq fun K hK => ?_) | ((first | refine wReg ?_ | refine wDrwQ rfl (by kernel_rfl) ?_ | refine wDrwI ?_ | refine wDrw (by kernel_rfl) ?_); simp only [List.map_cons, List.map_nil, strip]) | ((first | refine wIs fun K hK => ?_ | refine wOs fun K hK => ?_ | refine wQs fun K hK => ?_ | refine CallK_plain ?_ | refine CallQ_plain ?_ | refine CallR_plain ?_ | refine wCond ?_); simp) | (refine wIn ?_; refine And.intro (by kernel_rfl) ?_; try simp only [thenA_n]) | (first | refine wBlock ?_ | refine wScope ?_) | ((first | refine wRet ?_ | refine wExit ?_ | refine wSkip ?_); try simp) | ((first | refine wLabel ?_ | refine wOn ?_ | refine wQn ?_); try simp only [thenA_n])
 refine wLoopG [.row 3 39 8] (fun N st => ∃ k T, k + N = l.length /\ prQ (l.take k) = some T /\ T.length <= k /\ (∀ e, mx T e <= T.length) /\ st.s 0 = .p (.sl 58 (fas l)) /\ st.s 3 = .row 3 /\ st.b 3 = some (.row 39 8 (txns T)) /\ st.s 12 = .p (.sl 58 (fas l)) /\ st.s 13 = .p (I l.length) /\ st.s 14 = .p (I k)) l.length ⟨0, [], by omega, by simp [prQ], by simp, fun e => by simp [mx], by simp [txns]⟩ fun K N st hL ⟨k, T, hk, hT, hTl, hbd, g0, g3, b3, g12, g13, g14⟩ => ?_
 by_cases hlt : k < l.length
 case neg =>
  have hlt' : ¬ (k : Int) < l.length := by omega
  rw [List.take_of_length_le (by omega)] at hT
  rw [hT] at hr
  repeat' first | (refine hK _ ?_; clear hK) | (refine hK _ _ ?_; clear hK) | (clear hK; refine hK _ ?_; clear hK) | (clear hK; clear hK; refine hK _ ?_; clear hK) | (clear hK; clear hK; clear hK; refine hK _ ?_; clear hK) | (clear hK; clear hK; clear hK; clear hK; refine hK _ ?_; clear hK) | (refine wSeq fun K hK => ?_) | ((first | refine wReg ?_ | refine wDrwQ rfl (by kernel_rfl) ?_ | refine wDrwI ?_ | refine wDrw (by kernel_rfl) ?_); simp only [List.map_cons, List.map_nil, strip]) | ((first | refine wIs fun K hK => ?_ | refine wOs fun K hK => ?_ | refine wQs fun K hK => ?_ | refine CallK_plain ?_ | refine CallQ_plain ?_ | refine CallR_plain ?_ | refine wCond ?_); simp [g0, g3, b3, g12, g13, g14, hlt, hlt']) | (refine wIn ?_; refine And.intro (by kernel_rfl) ?_; try simp only [thenA_n]) | (first | refine wBlock ?_ | refine wScope ?_) | ((first | refine wRet ?_ | refine wExit ?_ | refine wSkip ?_); try simp) | ((first | refine wLabel ?_ | refine wOn ?_ | refine wQn ?_); try simp only [thenA_n])
  all_goals apply hr
  all_goals simp [Try.f8]
 have hlt' : (k : Int) < l.length := by omega
 have hw := wrapS k _ hlt (by omega)
 have he := fas_get hlt
 have hsn := prQ_snoc hlt
 rw [hT] at hsn
 simp only [Option.bind_some] at hsn
 have h44k := h44 _ (List.getElem_mem hlt)
 have hbad : stQ T l[k] = none -> prQ l = none := fun h => prQ_none (k := k + 1) (by rw [hsn, h])
 have hst := fun {T'} (h : stQ T l[k] = some T') => stQ_bd h hbd
 have hMx := fun {Q : AExit -> St -> Prop} {st : St} => refMx (Q := Q) (st := st) l k l[k] T (by omega)
 generalize hQ : l[k] = f at *
 unfold stQ at hsn hbad hst
 by_cases h1 : f.kd = 1
 ·rw [if_pos h1] at hsn hbad hst
  have co := owner02_con f.t.e
  have hbd1 := hbd f.ep
  have hge1 := (mx_ge T f.ep).1
  by_cases c1 : f.t.e = f.ep
  case neg =>
   have hN := hbad (by rw [if_neg fun h => c1 h.1])
   rw [hN] at hr
   have c1' := eq_false c1
   repeat' first | (refine hK _ ?_; clear hK) | (refine hK _ _ ?_; clear hK) | (clear hK; refine hK _ ?_; clear hK) | (clear hK; clear hK; refine hK _ ?_; clear hK) | (clear hK; clear hK; clear hK; refine hK _ ?_; clear hK) | (clear hK; clear hK; clear hK; clear hK; refine hK _ ?_; clear hK) | (refine wSeq fun K hK => ?_) | ((first | refine wReg ?_ | refine wDrwQ rfl (by kernel_rfl) ?_ | refine wDrwI ?_ | refine wDrw (by kernel_rfl) ?_); simp only [List.map_cons, List.map_nil, strip]) | ((first | refine wIs fun K hK => ?_ | refine wOs fun K hK => ?_ | refine wQs fun K hK => ?_ | refine CallK_plain ?_ | refine CallQ_plain ?_ | refine CallR_plain ?_ | refine wCond ?_); simp [g0, g3, b3, g12, g13, g14, hlt, hlt', hw, he, hQ, h44k, h1, c1', c1]) | (refine wIn ?_; refine And.intro (by kernel_rfl) ?_; try simp only [thenA_n]) | (first | refine wBlock ?_ | refine wScope ?_) | ((first | refine wRet ?_ | refine wExit ?_ | refine wSkip ?_); try simp) | ((first | refine wLabel ?_ | refine wOn ?_ | refine wQn ?_); try simp only [thenA_n]) | (refine CallE.pure (co) rfl ?_) | (refine CallE.lent (co) rfl ?_) | (refine CallF.pure (co) rfl ?_) | (refine CallF.lent (co) rfl ?_) | (refine CallE.own (co) ?_) | (refine CallH.pure (co) rfl ?_) | (refine CallH.lent (co) rfl ?_) | (refine CallH.own (co) ?_)
   all_goals apply hr
   all_goals simp [Try.f8]
  have c1t := eq_true c1
  rw [c1] at co
  have co' := co
  rw [<- c1] at co
  by_cases c2 : owner f.ep = f.nd
  case neg =>
   have hN := hbad (by rw [if_neg fun h => c2 h.2.1])
   rw [hN] at hr
   have c2t : (owner f.t.e = f.nd) = False := eq_false (by rw [c1]; exact c2)
   repeat' first | (refine hK _ ?_; clear hK) | (refine hK _ _ ?_; clear hK) | (clear hK; refine hK _ ?_; clear hK) | (clear hK; clear hK; refine hK _ ?_; clear hK) | (clear hK; clear hK; clear hK; refine hK _ ?_; clear hK) | (clear hK; clear hK; clear hK; clear hK; refine hK _ ?_; clear hK) | (refine wSeq fun K hK => ?_) | ((first | refine wReg ?_ | refine wDrwQ rfl (by kernel_rfl) ?_ | refine wDrwI ?_ | refine wDrw (by kernel_rfl) ?_); simp only [List.map_cons, List.map_nil, strip]) | ((first | refine wIs fun K hK => ?_ | refine wOs fun K hK => ?_ | refine wQs fun K hK => ?_ | refine CallK_plain ?_ | refine CallQ_plain ?_ | refine CallR_plain ?_ | refine wCond ?_); simp [g0, g3, b3, g12, g13, g14, hlt, hlt', hw, he, hQ, h44k, h1, c1t, c2t]) | (refine wIn ?_; refine And.intro (by kernel_rfl) ?_; try simp only [thenA_n]) | (first | refine wBlock ?_ | refine wScope ?_) | ((first | refine wRet ?_ | refine wExit ?_ | refine wSkip ?_); try simp) | ((first | refine wLabel ?_ | refine wOn ?_ | refine wQn ?_); try simp only [thenA_n]) | (refine CallE.pure (co) rfl ?_) | (refine CallE.lent (co) rfl ?_) | (refine CallF.pure (co) rfl ?_) | (refine CallF.lent (co) rfl ?_) | (refine CallE.own (co) ?_) | (refine CallH.pure (co) rfl ?_) | (refine CallH.lent (co) rfl ?_) | (refine CallH.own (co) ?_)
   all_goals apply hr
   all_goals simp [Try.f8]
  have c2t : (owner f.t.e = f.nd) = True := eq_true (by rw [c1]; exact c2)
  by_cases c0 : f.t.n < 1
  ·have hN := hbad (by rw [if_neg fun h => by have := h.2.2; omega])
   rw [hN] at hr
   have c0t := eq_true c0
   repeat' first | (refine hK _ ?_; clear hK) | (refine hK _ _ ?_; clear hK) | (clear hK; refine hK _ ?_; clear hK) | (clear hK; clear hK; refine hK _ ?_; clear hK) | (clear hK; clear hK; clear hK; refine hK _ ?_; clear hK) | (clear hK; clear hK; clear hK; clear hK; refine hK _ ?_; clear hK) | (refine wSeq fun K hK => ?_) | ((first | refine wReg ?_ | refine wDrwQ rfl (by kernel_rfl) ?_ | refine wDrwI ?_ | refine wDrw (by kernel_rfl) ?_); simp only [List.map_cons, List.map_nil, strip]) | ((first | refine wIs fun K hK => ?_ | refine wOs fun K hK => ?_ | refine wQs fun K hK => ?_ | refine CallK_plain ?_ | refine CallQ_plain ?_ | refine CallR_plain ?_ | refine wCond ?_); simp [g0, g3, b3, g12, g13, g14, hlt, hlt', hw, he, hQ, h44k, h1, c1t, c2t, c0t]) | (refine wIn ?_; refine And.intro (by kernel_rfl) ?_; try simp only [thenA_n]) | (first | refine wBlock ?_ | refine wScope ?_) | ((first | refine wRet ?_ | refine wExit ?_ | refine wSkip ?_); try simp) | ((first | refine wLabel ?_ | refine wOn ?_ | refine wQn ?_); try simp only [thenA_n]) | (refine CallE.pure (co) rfl ?_) | (refine CallE.lent (co) rfl ?_) | (refine CallF.pure (co) rfl ?_) | (refine CallF.lent (co) rfl ?_) | (refine CallE.own (co) ?_) | (refine CallH.pure (co) rfl ?_) | (refine CallH.lent (co) rfl ?_) | (refine CallH.own (co) ?_)
   all_goals apply hr
   all_goals simp [Try.f8]
  have c0t := eq_false c0
  repeat' first | (refine hK _ ?_; clear hK) | (refine hK _ _ ?_; clear hK) | (clear hK; refine hK _ ?_; clear hK) | (clear hK; clear hK; refine hK _ ?_; clear hK) | (clear hK; clear hK; clear hK; refine hK _ ?_; clear hK) | (clear hK; clear hK; clear hK; clear hK; refine hK _ ?_; clear hK) | (refine wSeq fun K hK => ?_) | ((first | refine wReg ?_ | refine wDrwQ rfl (by kernel_rfl) ?_ | refine wDrwI ?_ | refine wDrw (by kernel_rfl) ?_); simp only [List.map_cons, List.map_nil, strip]) | ((first | refine wIs fun K hK => ?_ | refine wOs fun K hK => ?_ | refine wQs fun K hK => ?_ | refine CallK_plain ?_ | refine CallQ_plain ?_ | refine CallR_plain ?_ | refine wCond ?_); simp [g0, g3, b3, g12, g13, g14, hlt, hlt', hw, he, hQ, h44k, h1, c1t, c2t, c0t]) | (refine wIn ?_; refine And.intro (by kernel_rfl) ?_; try simp only [thenA_n]) | (first | refine wBlock ?_ | refine wScope ?_) | ((first | refine wRet ?_ | refine wExit ?_ | refine wSkip ?_); try simp) | ((first | refine wLabel ?_ | refine wOn ?_ | refine wQn ?_); try simp only [thenA_n]) | (refine CallE.pure (co) rfl ?_) | (refine CallE.lent (co) rfl ?_) | (refine CallF.pure (co) rfl ?_) | (refine CallF.lent (co) rfl ?_) | (refine CallE.own (co) ?_) | (refine CallH.pure (co) rfl ?_) | (refine CallH.lent (co) rfl ?_) | (refine CallH.own (co) ?_)
  have hsr : ∀ n, List.map (scr0 n ∘ V.p) f.r = f.r.map V.p := fun n => List.map_congr_left fun x _ => rfl
  have htk : List.take 44 (f.r.map V.p) = f.r.map V.p := List.take_of_length_le (by simp; omega)
  refine hMx ?_ ⟨?_, ?_, ?_, ?_, ?_, ?_, ?_, ?_, ?_, ?_⟩ ?_ ?_ ?_ ?_
  rotate_left 1
  any_goals (simp [fBx, g0, g3, b3, g12, g13, g14, h44k, hsr, htk, h1]; done)
  clear g0 g3 b3 g12 g13 g14
  rintro st5 ⟨g0, g3, b3, g12, g13, g14, g5, b5, g6, b6⟩ g7
  simp only [blockA_e, if_true, thenA_n]
  unfold fBx at b5
  rw [c1] at g7
  have hwv : IntKind.i64.wrap (mx T f.ep + 1) = mx T f.ep + 1 := by rw [wrap_id] <;> omega
  generalize mx T f.ep = m at *
  by_cases c3 : f.t.n = m + 1
  case neg =>
   have hN := hbad (by rw [if_neg fun h => c3 h.2.2])
   rw [hN] at hr
   have c3t := eq_false c3
   repeat' first | (refine hK _ ?_; clear hK) | (refine hK _ _ ?_; clear hK) | (clear hK; refine hK _ ?_; clear hK) | (clear hK; clear hK; refine hK _ ?_; clear hK) | (clear hK; clear hK; clear hK; refine hK _ ?_; clear hK) | (clear hK; clear hK; clear hK; clear hK; refine hK _ ?_; clear hK) | (refine wSeq fun K hK => ?_) | ((first | refine wReg ?_ | refine wDrwQ rfl (by kernel_rfl) ?_ | refine wDrwI ?_ | refine wDrw (by kernel_rfl) ?_); simp only [List.map_cons, List.map_nil, strip]) | ((first | refine wIs fun K hK => ?_ | refine wOs fun K hK => ?_ | refine wQs fun K hK => ?_ | refine CallK_plain ?_ | refine CallQ_plain ?_ | refine CallR_plain ?_ | refine wCond ?_); simp [g0, g3, b3, g12, g13, g14, g5, b5, g6, b6, g7, hwv, c3t]) | (refine wIn ?_; refine And.intro (by kernel_rfl) ?_; try simp only [thenA_n]) | (first | refine wBlock ?_ | refine wScope ?_) | ((first | refine wRet ?_ | refine wExit ?_ | refine wSkip ?_); try simp) | ((first | refine wLabel ?_ | refine wOn ?_ | refine wQn ?_); try simp only [thenA_n])
   all_goals apply hr
   all_goals simp [Try.f8]
  have c3t := eq_true c3
  rw [if_pos ⟨c1, c2, c3⟩] at hsn hst
  obtain ⟨hT1, hT2⟩ := hst rfl
  have hap : txns T ++ [[I f.t.e, I f.t.n, I f.t.s, I f.t.x, I f.t.r, I f.t.b, SB f.t.m, .sl 11 (pts f.t.ps)]] = txns (T ++ [f.t]) := by simp [txns, Tx.cells]
  repeat' first | (refine And.intro (by (try simp only [txns_len]); omega) ?_) | (refine hK _ ?_; clear hK) | (refine hK _ _ ?_; clear hK) | (clear hK; refine hK _ ?_; clear hK) | (clear hK; clear hK; refine hK _ ?_; clear hK) | (clear hK; clear hK; clear hK; refine hK _ ?_; clear hK) | (clear hK; clear hK; clear hK; clear hK; refine hK _ ?_; clear hK) | (refine wSeq fun K hK => ?_) | ((first | refine wReg ?_ | refine wDrwQ rfl (by kernel_rfl) ?_ | refine wDrwI ?_ | refine wDrw (by kernel_rfl) ?_); simp only [List.map_cons, List.map_nil, strip]) | ((first | refine wIs fun K hK => ?_ | refine wOs fun K hK => ?_ | refine wQs fun K hK => ?_ | refine CallK_plain ?_ | refine CallQ_plain ?_ | refine CallR_plain ?_ | refine wCond ?_); simp [g0, g3, b3, g12, g13, g14, g5, b5, g6, b6, g7, hwv, c3t, hap, hw, h44k]) | (refine wIn ?_; refine And.intro (by kernel_rfl) ?_; try simp only [thenA_n]) | (first | refine wBlock ?_ | refine wScope ?_) | ((first | refine wRet ?_ | refine wExit ?_ | refine wSkip ?_); try simp) | ((first | refine wLabel ?_ | refine wOn ?_ | refine wQn ?_); try simp only [thenA_n])
  refine hL _ (N - 1) (by omega) ⟨k + 1, T ++ [f.t], by omega, hsn, by simp; omega, hT2, ?_⟩
  simp [g0, g3, b3, g12, g13, g14, hw, hap]
 rw [if_neg h1] at hsn hbad hst
 have h1' := eq_false h1
 by_cases h2 : f.kd = 2
 case neg =>
  have h2' := eq_false h2
  rw [if_neg h2] at hsn
  repeat' first | (refine hK _ ?_; clear hK) | (refine hK _ _ ?_; clear hK) | (clear hK; refine hK _ ?_; clear hK) | (clear hK; clear hK; refine hK _ ?_; clear hK) | (clear hK; clear hK; clear hK; refine hK _ ?_; clear hK) | (clear hK; clear hK; clear hK; clear hK; refine hK _ ?_; clear hK) | (refine wSeq fun K hK => ?_) | ((first | refine wReg ?_ | refine wDrwQ rfl (by kernel_rfl) ?_ | refine wDrwI ?_ | refine wDrw (by kernel_rfl) ?_); simp only [List.map_cons, List.map_nil, strip]) | ((first | refine wIs fun K hK => ?_ | refine wOs fun K hK => ?_ | refine wQs fun K hK => ?_ | refine CallK_plain ?_ | refine CallQ_plain ?_ | refine CallR_plain ?_ | refine wCond ?_); simp [g0, g3, b3, g12, g13, g14, hlt, hlt', hw, he, hQ, h44k, h1', h2', h1, h2]) | (refine wIn ?_; refine And.intro (by kernel_rfl) ?_; try simp only [thenA_n]) | (first | refine wBlock ?_ | refine wScope ?_) | ((first | refine wRet ?_ | refine wExit ?_ | refine wSkip ?_); try simp) | ((first | refine wLabel ?_ | refine wOn ?_ | refine wQn ?_); try simp only [thenA_n])
  refine hL _ (N - 1) (by omega) ⟨k + 1, T, by omega, hsn, by omega, hbd, ?_⟩
  simp [g0, g3, b3, g12, g13, g14, hw]
 rw [if_pos h2] at hsn hbad
 cases hf : fz T f.t.e f.t.n with
 | none =>
  rw [hf] at hbad
  have cf := find27N_con T f.t.e f.t.n (by omega) hf
  have hN := hbad rfl
  rw [hN] at hr
  repeat' first | (refine CallK_inpl 3 (cf) (by simp [g3, b3]) (by simp [argsG, argG, ren0, inN, pos, renCs, renC, g3, b3]) rfl ?_; simp [g3, b3]) | (refine hK _ ?_; clear hK) | (refine hK _ _ ?_; clear hK) | (clear hK; refine hK _ ?_; clear hK) | (clear hK; clear hK; refine hK _ ?_; clear hK) | (clear hK; clear hK; clear hK; refine hK _ ?_; clear hK) | (clear hK; clear hK; clear hK; clear hK; refine hK _ ?_; clear hK) | (refine wSeq fun K hK => ?_) | ((first | refine wReg ?_ | refine wDrwQ rfl (by kernel_rfl) ?_ | refine wDrwI ?_ | refine wDrw (by kernel_rfl) ?_); simp only [List.map_cons, List.map_nil, strip]) | ((first | refine wIs fun K hK => ?_ | refine wOs fun K hK => ?_ | refine wQs fun K hK => ?_ | refine CallK_plain ?_ | refine CallQ_plain ?_ | refine CallR_plain ?_ | refine wCond ?_); simp [g0, g3, b3, g12, g13, g14, hlt, hlt', hw, he, hQ, h44k, h1', h2]) | (refine wIn ?_; refine And.intro (by kernel_rfl) ?_; try simp only [thenA_n]) | (first | refine wBlock ?_ | refine wScope ?_) | ((first | refine wRet ?_ | refine wExit ?_ | refine wSkip ?_); try simp) | ((first | refine wLabel ?_ | refine wOn ?_ | refine wQn ?_); try simp only [thenA_n])
  all_goals apply hr
  all_goals simp [Try.f8]
 | some j =>
  rw [hf] at hbad hsn
  obtain ⟨hj, -, -⟩ := fz_some hf
  have hTj : T[j]? = some T[j] := List.getElem?_eq_getElem hj
  have cf := find27S_con T f.t.e f.t.n (by omega) j T[j] hf hTj
  simp only [hTj, Option.some.injEq] at hsn hbad
  have cc := sameT08_con T[j] f.t
  unfold Tx.cells at cc
  by_cases hs : T[j] = f.t
  ·rw [if_pos hs] at hsn
   rw [decide_eq_true hs] at cc
   repeat' first | (refine CallK_inpl 3 (cf) (by simp [g3, b3]) (by simp [argsG, argG, ren0, inN, pos, renCs, renC, g3, b3]) rfl ?_; simp [g3, b3]) | (refine hK _ ?_; clear hK) | (refine hK _ _ ?_; clear hK) | (clear hK; refine hK _ ?_; clear hK) | (clear hK; clear hK; refine hK _ ?_; clear hK) | (clear hK; clear hK; clear hK; refine hK _ ?_; clear hK) | (clear hK; clear hK; clear hK; clear hK; refine hK _ ?_; clear hK) | (refine wSeq fun K hK => ?_) | ((first | refine wReg ?_ | refine wDrwQ rfl (by kernel_rfl) ?_ | refine wDrwI ?_ | refine wDrw (by kernel_rfl) ?_); simp only [List.map_cons, List.map_nil, strip]) | ((first | refine wIs fun K hK => ?_ | refine wOs fun K hK => ?_ | refine wQs fun K hK => ?_ | refine CallK_plain ?_ | refine CallQ_plain ?_ | refine CallR_plain ?_ | refine wCond ?_); simp [g0, g3, b3, g12, g13, g14, hlt, hlt', hw, he, hQ, h44k, h1', h2]) | (refine wIn ?_; refine And.intro (by kernel_rfl) ?_; try simp only [thenA_n]) | (first | refine wBlock ?_ | refine wScope ?_) | ((first | refine wRet ?_ | refine wExit ?_ | refine wSkip ?_); try simp) | ((first | refine wLabel ?_ | refine wOn ?_ | refine wQn ?_); try simp only [thenA_n]) | (refine CallE.pure (cc) rfl ?_) | (refine CallE.lent (cc) rfl ?_) | (refine CallF.pure (cc) rfl ?_) | (refine CallF.lent (cc) rfl ?_) | (refine CallE.own (cc) ?_) | (refine CallH.pure (cc) rfl ?_) | (refine CallH.lent (cc) rfl ?_) | (refine CallH.own (cc) ?_)
   refine hL _ (N - 1) (by omega) ⟨k + 1, T, by omega, hsn, by omega, hbd, ?_⟩
   simp [g0, g3, b3, g12, g13, g14, hw]
  ·have hN := hbad (by rw [if_neg hs])
   rw [hN] at hr
   rw [decide_eq_false hs] at cc
   repeat' first | (refine CallK_inpl 3 (cf) (by simp [g3, b3]) (by simp [argsG, argG, ren0, inN, pos, renCs, renC, g3, b3]) rfl ?_; simp [g3, b3]) | (refine hK _ ?_; clear hK) | (refine hK _ _ ?_; clear hK) | (clear hK; refine hK _ ?_; clear hK) | (clear hK; clear hK; refine hK _ ?_; clear hK) | (clear hK; clear hK; clear hK; refine hK _ ?_; clear hK) | (clear hK; clear hK; clear hK; clear hK; refine hK _ ?_; clear hK) | (refine wSeq fun K hK => ?_) | ((first | refine wReg ?_ | refine wDrwQ rfl (by kernel_rfl) ?_ | refine wDrwI ?_ | refine wDrw (by kernel_rfl) ?_); simp only [List.map_cons, List.map_nil, strip]) | ((first | refine wIs fun K hK => ?_ | refine wOs fun K hK => ?_ | refine wQs fun K hK => ?_ | refine CallK_plain ?_ | refine CallQ_plain ?_ | refine CallR_plain ?_ | refine wCond ?_); simp [g0, g3, b3, g12, g13, g14, hlt, hlt', hw, he, hQ, h44k, h1', h2]) | (refine wIn ?_; refine And.intro (by kernel_rfl) ?_; try simp only [thenA_n]) | (first | refine wBlock ?_ | refine wScope ?_) | ((first | refine wRet ?_ | refine wExit ?_ | refine wSkip ?_); try simp) | ((first | refine wLabel ?_ | refine wOn ?_ | refine wQn ?_); try simp only [thenA_n]) | (refine CallE.pure (cc) rfl ?_) | (refine CallE.lent (cc) rfl ?_) | (refine CallF.pure (cc) rfl ?_) | (refine CallF.lent (cc) rfl ?_) | (refine CallE.own (cc) ?_) | (refine CallH.pure (cc) rfl ?_) | (refine CallH.lent (cc) rfl ?_) | (refine CallH.own (cc) ?_)
   all_goals apply hr
   all_goals simp [Try.f8]
end Go.Proofs.Ythiccfadhllajaa
namespace Go.Proofs.Ythiccfadhllajaa
set_option linter.unusedSimpArgs false
set_option linter.unusedVariables false
open Go Go.Av
attribute [local irreducible] Go.Av.CallK Go.Av.CallE Go.Av.CallQ Go.Av.CallF Go.Av.CallR Go.Av.CallH Go.Av.Con
def zis (l : List Int) : List (List PV) := l.map fun x => [I x]
@[simp] theorem zis_len (l : List Int) : (zis l).length = l.length := by simp [zis]
@[simp] theorem zis_getElem (l : List Int) (k : Nat) (h : k < (zis l).length) : (zis l)[k] = [I (l[k]'(by simpa using h))] := by simp [zis]
end Go.Proofs.Ythiccfadhllajaa
