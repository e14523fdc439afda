/- Disks: law DiskRefuses. -/
import Derived.Test.YtijjfiebmdejaaaDKG
namespace Go.Proofs.Ytijjfiebmdejaaa
set_option linter.unusedSimpArgs false
set_option linter.unusedVariables false
set_option maxRecDepth 8000
open Go Go.Av
attribute [local simp] Try.T1 Try.T2 Try.T3 Try.T4 Try.T5 Try.T9 Try.T12 Try.T15 Try.T16 Try.T17 Try.T21 Try.T22 Try.T23 Try.T24 Try.T25 Try.T27 Try.T28 Try.T29 Try.T30 Try.T32 Try.T33 Try.T35 Try.T37 Try.T38 Try.T39 Try.T40 Try.T41 Try.T42 Try.T43 Try.T44 Try.T45 Try.T47 Try.T48 Try.T49 Try.T50 Try.T51 Try.T52 Try.T53 Try.T55 Try.T56 Try.T57 Try.T58 Try.T59 Try.T60 Try.T61 Try.T62 Try.T63 Try.T64 Try.T65 Try.T66 Try.T67 Try.T69 Try.T71 Try.T72 Try.T73 Try.T74 Try.T75 Try.T78 Try.T81 Try.T82 Try.T85 Try.T86
attribute [local irreducible] Go.Av.CallK Go.Av.CallE Go.Av.CallQ Go.Av.CallF Go.Av.CallR Go.Av.CallH Go.Av.Con
theorem chg_ref (d : Dk) (nm : List UInt8) (g : Fl → Fl) (e : Fl → Int) (he : ∀ f, e f ≠ 9) : ((chg d nm g e).2 ≠ 0 → ((chg d nm g e).2 ≠ 9 ∨ d.dn = true) → (chg d nm g e).1 = d) ∧ ((chg d nm g e).2 = 9 → (chg d nm g e).1.dn = true) := by
  rcases chg_cases d nm g e with ⟨h, h1⟩ | ⟨h, h1, -⟩ | ⟨h, h1, -, h2⟩ | ⟨h, h1, h2⟩ | ⟨h, -⟩ <;> rw [h]
  · exact ⟨fun _ _ => rfl, fun _ => h1⟩
  · exact ⟨fun _ _ => rfl, fun h => by simp at h⟩
  · exact ⟨fun _ _ => rfl, fun h => absurd h (he _)⟩
  · refine ⟨fun _ h => ?_, fun _ => ?_⟩
    · rw [h1] at h; simp at h
    · unfold brn burnN; rw [if_pos h2]
  · exact ⟨fun h => by simp at h, fun h => by simp at h⟩
theorem ply_ref (d : Dk) (o : Op13) : ((ply d o).2 ≠ 0 → ((ply d o).2 ≠ 9 ∨ d.dn = true) → (ply d o).1 = d) ∧ ((ply d o).2 = 9 → (ply d o).1.dn = true) := by
  unfold ply
  split
  · unfold app
    split
    · rename_i h; exact ⟨fun _ _ => rfl, fun _ => h⟩
    · rename_i hdn
      split
      · split
        · exact ⟨fun _ _ => rfl, fun h => by simp at h⟩
        · by_cases hf : d.fuse = 1
          · refine ⟨fun _ h => ?_, fun _ => by unfold burnN; simp only; rw [if_pos hf]⟩
            unfold burnE at h
            simp only [hf, if_true] at h
            rcases h with h | h
            · simp at h
            · exact absurd h hdn
          · unfold burnE
            exact ⟨fun h => by simp [hf] at h, fun h => by simp [hf] at h⟩
      · exact ⟨fun _ _ => rfl, fun h => by simp at h⟩
  split
  · exact chg_ref d _ _ _ fun f => by decide
  split
  · exact chg_ref d _ _ _ fun f => by unfold cutE; split <;> decide
  split
  · unfold rmv
    split
    · split
      · rename_i h1 h2
        have hdn : ¬ d.dn = true := fun h => by unfold openE at h1; rw [if_pos h] at h1; simp at h1
        refine ⟨fun _ h => ?_, fun _ => by unfold brn burnN; rw [if_pos h2]⟩
        rcases h with h | h
        · simp at h
        · exact absurd h hdn
      · exact ⟨fun h => by simp at h, fun h => by simp at h⟩
    · refine ⟨fun _ _ => rfl, fun h => ?_⟩
      simp only at h ⊢
      unfold openE at h
      split at h
      · assumption
      · split at h <;> simp at h
  split
  · unfold ren13
    split
    · rename_i h; exact ⟨fun _ _ => rfl, fun _ => h⟩
    · rename_i hdn
      split
      · split
        · split
          · rename_i h2
            refine ⟨fun _ h => ?_, fun _ => by unfold brn burnN; rw [if_pos h2]⟩
            rcases h with h | h
            · simp at h
            · exact absurd h hdn
          · exact ⟨fun h => by simp at h, fun h => by simp at h⟩
        · exact ⟨fun _ _ => rfl, fun h => by simp at h⟩
      · exact ⟨fun _ _ => rfl, fun h => by simp at h⟩
  split
  · exact ⟨fun h => by simp at h, fun h => by simp at h⟩
  split
  · exact ⟨fun h => by simp at h, fun h => by simp at h⟩
  · exact ⟨fun h => by simp at h, fun h => by simp at h⟩
theorem plys_cap (n : Int) {l : List Op13} (hn : ∀ o ∈ l, o.n ≤ 9223372036854775807) (k : Nat) : (plys (newD n) (l.take k)).cap = max n 0 ∧ ((usedL (plys (newD n) (l.take k)).fs : Nat) : Int) ≤ max n 0 := by
  induction k with
  | zero => simp [plys, newD, usedL]; omega
  | succ k ih =>
    by_cases hk : k < l.length
    · rw [plys_snoc _ hk]
      have c := ply_come (plys (newD n) (l.take k)) l[k] (plys_inv n hn k).f (hn _ (List.getElem_mem hk))
      refine ⟨by rw [c.cap, ih.1], ?_⟩
      have h1 := ih.1
      have h2 := ih.2
      rcases c.u with h | ⟨h, h'⟩
      · omega
      · rw [h, ← h1]; omega
    · rw [List.take_of_length_le (by omega)] at ih ⊢
      exact ih
set_option maxHeartbeats 8000000 in
theorem diskRefuses_con (n : Int) (l : List Op13) (hl : ∀ o ∈ l, OkS o) (l63 : l.length ≤ 9223372036854775807) :
    ACon Try.prog 5 [.p (I n), .p (.sl 6 (ops13 l))] (.p (B true)) := by
  have cf1 := far13_con l hl l63
  cases f1 : farO l with
  | true =>
    rw [f1] at cf1
    refine wBody Try.tab Try.mixed Try.func5 rfl rfl Try.ntmps5 (by simp) (by simp) fun Q hr hn => ?_
    repeat' first | (refine hK _ ?_; clear hK) | (refine hK _ _ ?_; clear hK) | (clear hK; refine hK _ ?_; clear hK) | (clear hK; clear hK; refine hK _ ?_; clear hK) | (clear hK; clear hK; clear hK; refine hK _ ?_; clear hK) | (clear hK; clear hK; clear hK; clear hK; refine hK _ ?_; clear hK) | (refine wSeq fun K hK => ?_) | ((first | refine wReg ?_ | refine wDrwQ rfl (by kernel_rfl) ?_ | refine wDrwI ?_ | refine wDrw (by kernel_rfl) ?_); simp only [List.map_cons, List.map_nil, strip]) | ((first | refine wIs fun K hK => ?_ | refine wOs fun K hK => ?_ | refine wQs fun K hK => ?_ | refine CallK_plain ?_ | refine CallQ_plain ?_ | refine CallR_plain ?_ | refine wCond ?_); simp) | (refine wIn ?_; refine And.intro (by kernel_rfl) ?_; try simp only [thenA_n]) | (first | refine wBlock ?_ | refine wScope ?_) | ((first | refine wRet ?_ | refine wExit ?_ | refine wSkip ?_); try simp) | ((first | refine wLabel ?_ | refine wOn ?_ | refine wQn ?_); try simp only [thenA_n]) | (refine CallE.pure (cf1) rfl ?_) | (refine CallE.lent (cf1) rfl ?_) | (refine CallF.pure (cf1) rfl ?_) | (refine CallF.lent (cf1) rfl ?_) | (refine CallE.own (cf1) ?_) | (refine CallH.pure (cf1) rfl ?_) | (refine CallH.lent (cf1) rfl ?_) | (refine CallH.own (cf1) ?_) | (refine CallE.pure (awake13) rfl ?_) | (refine CallE.lent (awake13) rfl ?_) | (refine CallF.pure (awake13) rfl ?_) | (refine CallF.lent (awake13) rfl ?_) | (refine CallE.own (awake13) ?_) | (refine CallH.pure (awake13) rfl ?_) | (refine CallH.lent (awake13) rfl ?_) | (refine CallH.own (awake13) ?_)
    all_goals apply hr
    all_goals simp [Try.f5]
  | false =>
  rw [f1] at cf1
  have cn := new_con n
  unfold Dk.cells at cn
  have hln : ∀ o ∈ l, o.n ≤ 9223372036854775807 := fun o ho => (hl o ho).n
  have hfar := farO_not f1
  refine wBody Try.tab Try.mixed Try.func5 rfl rfl Try.ntmps5 (by simp) (by simp) fun Q hr hn => ?_
  repeat' first | (refine hK _ ?_; clear hK) | (refine hK _ _ ?_; clear hK) | (clear hK; refine hK _ ?_; clear hK) | (clear hK; clear hK; refine hK _ ?_; clear hK) | (clear hK; clear hK; clear hK; refine hK _ ?_; clear hK) | (clear hK; clear hK; clear hK; clear hK; refine hK _ ?_; clear hK) | (refine wSeq fun K hK => ?_) | ((first | refine wReg ?_ | refine wDrwQ rfl (by kernel_rfl) ?_ | refine wDrwI ?_ | refine wDrw (by kernel_rfl) ?_); simp only [List.map_cons, List.map_nil, strip]) | ((first | refine wIs fun K hK => ?_ | refine wOs fun K hK => ?_ | refine wQs fun K hK => ?_ | refine CallK_plain ?_ | refine CallQ_plain ?_ | refine CallR_plain ?_ | refine wCond ?_); simp) | (refine wIn ?_; refine And.intro (by kernel_rfl) ?_; try simp only [thenA_n]) | (first | refine wBlock ?_ | refine wScope ?_) | ((first | refine wRet ?_ | refine wExit ?_ | refine wSkip ?_); try simp) | ((first | refine wLabel ?_ | refine wOn ?_ | refine wQn ?_); try simp only [thenA_n]) | (refine CallE.pure (cf1) rfl ?_) | (refine CallE.lent (cf1) rfl ?_) | (refine CallF.pure (cf1) rfl ?_) | (refine CallF.lent (cf1) rfl ?_) | (refine CallE.own (cf1) ?_) | (refine CallH.pure (cf1) rfl ?_) | (refine CallH.lent (cf1) rfl ?_) | (refine CallH.own (cf1) ?_) | (refine CallE.pure (cn) rfl ?_) | (refine CallE.lent (cn) rfl ?_) | (refine CallF.pure (cn) rfl ?_) | (refine CallF.lent (cn) rfl ?_) | (refine CallE.own (cn) ?_) | (refine CallH.pure (cn) rfl ?_) | (refine CallH.lent (cn) rfl ?_) | (refine CallH.own (cn) ?_)
  refine wLoop (fun N st => ∃ k, k + N = l.length ∧ st.s 0 = .p (I n) ∧ st.s 5 = .ptr 5 0 ∧ st.b 5 = some (.box 27 (bxD (plys (newD n) (l.take k)))) ∧ st.s 15 = .p (.sl 6 (ops13 l)) ∧ st.s 16 = .p (I l.length) ∧ st.s 17 = .p (I k)) l.length ⟨0, by simp [plys, bxD]⟩ fun K N st hL ⟨k, hk, g0, g5, b5, g15, g16, g17⟩ => ?_
  by_cases hlt : k < l.length
  · have hlt' : (k : Int) < l.length := by omega
    have hw := wrapS k _ hlt (by omega)
    have he := ops13_get hlt
    have hok := plys_okP n hln f1 k
    have hok2 := plys_okP n hln f1 (k + 1)
    have cp := play_con (plys (newD n) (l.take k)) l[k] hok (.of f1 (List.getElem_mem hlt))
    have hsn := plys_snoc (newD n) hlt
    have hcap := (plys_cap n hln (k + 1)).2
    have hrf := ply_ref (plys (newD n) (l.take k)) l[k]
    rw [hsn] at hcap hok2
    generalize ply (plys (newD n) (l.take k)) l[k] = r at *
    obtain ⟨x, e⟩ := r
    dsimp only at *
    have cu := used_con x (by have := hok2.n; omega) (by have := hok2.u; omega)
    generalize plys (newD n) (l.take k) = d at *
    have hm1 : ¬ (if 0 < n then n else 0) < ((usedL x.fs : Nat) : Int) := by split <;> omega
    have hm2 : ¬ (if n < 0 then 0 else n) < ((usedL x.fs : Nat) : Int) := by split <;> omega
    have hm3 : ¬ (if n ≤ 0 then 0 else n) < ((usedL x.fs : Nat) : Int) := by split <;> omega
    have hL2 : ∀ st : St, st.s 0 = .p (I n) → st.s 5 = .ptr 5 0 → st.b 5 = some (.box 27 (bxD x)) → st.s 15 = .p (.sl 6 (ops13 l)) → st.s 16 = .p (I l.length) → st.s 17 = .p (I ((k + 1 : Nat) : Int)) → K st := fun st a1 a2 a3 a4 a5 a6 => hL st (N - 1) (by omega) ⟨k + 1, by omega, a1, a2, by rw [hsn]; exact a3, a4, a5, a6⟩
    clear hL hsn hcap
    generalize usedL x.fs = u at *
    have cs := same13_con d d (by have := hok.n; omega) (by have := hok.n; omega)
    rw [show decide (d = d) = true from decide_eq_true rfl] at cs
    unfold Op13.cells at cp
    by_cases e0 : e = 0
    · subst e0
      unfold Dk.cells at cp cu
      unfold bxD at b5
      repeat' first | (refine hK _ ?_; clear hK) | (refine hK _ _ ?_; clear hK) | (clear hK; refine hK _ ?_; clear hK) | (clear hK; clear hK; refine hK _ ?_; clear hK) | (clear hK; clear hK; clear hK; refine hK _ ?_; clear hK) | (clear hK; clear hK; clear hK; clear hK; refine hK _ ?_; clear hK) | (refine wSeq fun K hK => ?_) | ((first | refine wReg ?_ | refine wDrwQ rfl (by kernel_rfl) ?_ | refine wDrwI ?_ | refine wDrw (by kernel_rfl) ?_); simp only [List.map_cons, List.map_nil, strip]) | ((first | refine wIs fun K hK => ?_ | refine wOs fun K hK => ?_ | refine wQs fun K hK => ?_ | refine CallK_plain ?_ | refine CallQ_plain ?_ | refine CallR_plain ?_ | refine wCond ?_); simp [g0, g5, b5, g15, g16, g17, hlt, hlt', hw, he, hm1, hm2, hm3]) | (refine wIn ?_; refine And.intro (by kernel_rfl) ?_; try simp only [thenA_n]) | (first | refine wBlock ?_ | refine wScope ?_) | ((first | refine wRet ?_ | refine wExit ?_ | refine wSkip ?_); try simp) | ((first | refine wLabel ?_ | refine wOn ?_ | refine wQn ?_); try simp only [thenA_n]) | (refine CallE.pure (cp) rfl ?_) | (refine CallE.lent (cp) rfl ?_) | (refine CallF.pure (cp) rfl ?_) | (refine CallF.lent (cp) rfl ?_) | (refine CallE.own (cp) ?_) | (refine CallH.pure (cp) rfl ?_) | (refine CallH.lent (cp) rfl ?_) | (refine CallH.own (cp) ?_) | (refine CallE.pure (cu) rfl ?_) | (refine CallE.lent (cu) rfl ?_) | (refine CallF.pure (cu) rfl ?_) | (refine CallF.lent (cu) rfl ?_) | (refine CallE.own (cu) ?_) | (refine CallH.pure (cu) rfl ?_) | (refine CallH.lent (cu) rfl ?_) | (refine CallH.own (cu) ?_)
      all_goals refine hL2 _ ?_ ?_ ?_ ?_ ?_ ?_
      all_goals simp [g0, g5, b5, g15, g16, g17, hw, bxD]
    by_cases e9 : e = 9
    · subst e9
      have hxd := hrf.2 rfl
      cases hdn : d.dn with
      | true =>
        have hx := hrf.1 (by decide) (.inr hdn)
        subst hx
        unfold Dk.cells at cp cu cs
        unfold bxD at b5
        rw [hdn] at cp cu cs b5
        repeat' first | (refine hK _ ?_; clear hK) | (refine hK _ _ ?_; clear hK) | (clear hK; refine hK _ ?_; clear hK) | (clear hK; clear hK; refine hK _ ?_; clear hK) | (clear hK; clear hK; clear hK; refine hK _ ?_; clear hK) | (clear hK; clear hK; clear hK; clear hK; refine hK _ ?_; clear hK) | (refine wSeq fun K hK => ?_) | ((first | refine wReg ?_ | refine wDrwQ rfl (by kernel_rfl) ?_ | refine wDrwI ?_ | refine wDrw (by kernel_rfl) ?_); simp only [List.map_cons, List.map_nil, strip]) | ((first | refine wIs fun K hK => ?_ | refine wOs fun K hK => ?_ | refine wQs fun K hK => ?_ | refine CallK_plain ?_ | refine CallQ_plain ?_ | refine CallR_plain ?_ | refine wCond ?_); simp [g0, g5, b5, g15, g16, g17, hlt, hlt', hw, he, hm1, hm2, hm3]) | (refine wIn ?_; refine And.intro (by kernel_rfl) ?_; try simp only [thenA_n]) | (first | refine wBlock ?_ | refine wScope ?_) | ((first | refine wRet ?_ | refine wExit ?_ | refine wSkip ?_); try simp) | ((first | refine wLabel ?_ | refine wOn ?_ | refine wQn ?_); try simp only [thenA_n]) | (refine CallE.pure (cp) rfl ?_) | (refine CallE.lent (cp) rfl ?_) | (refine CallF.pure (cp) rfl ?_) | (refine CallF.lent (cp) rfl ?_) | (refine CallE.own (cp) ?_) | (refine CallH.pure (cp) rfl ?_) | (refine CallH.lent (cp) rfl ?_) | (refine CallH.own (cp) ?_) | (refine CallE.pure (cu) rfl ?_) | (refine CallE.lent (cu) rfl ?_) | (refine CallF.pure (cu) rfl ?_) | (refine CallF.lent (cu) rfl ?_) | (refine CallE.own (cu) ?_) | (refine CallH.pure (cu) rfl ?_) | (refine CallH.lent (cu) rfl ?_) | (refine CallH.own (cu) ?_) | (refine CallE.pure (cs) rfl ?_) | (refine CallE.lent (cs) rfl ?_) | (refine CallF.pure (cs) rfl ?_) | (refine CallF.lent (cs) rfl ?_) | (refine CallE.own (cs) ?_) | (refine CallH.pure (cs) rfl ?_) | (refine CallH.lent (cs) rfl ?_) | (refine CallH.own (cs) ?_)
        all_goals refine hL2 _ ?_ ?_ ?_ ?_ ?_ ?_
        all_goals simp [g0, g5, b5, g15, g16, g17, hw, bxD, hdn]
      | false =>
        unfold Dk.cells at cp cu
        unfold bxD at b5
        rw [hdn] at cp b5
        rw [hxd] at cp cu
        repeat' first | (refine hK _ ?_; clear hK) | (refine hK _ _ ?_; clear hK) | (clear hK; refine hK _ ?_; clear hK) | (clear hK; clear hK; refine hK _ ?_; clear hK) | (clear hK; clear hK; clear hK; refine hK _ ?_; clear hK) | (clear hK; clear hK; clear hK; clear hK; refine hK _ ?_; clear hK) | (refine wSeq fun K hK => ?_) | ((first | refine wReg ?_ | refine wDrwQ rfl (by kernel_rfl) ?_ | refine wDrwI ?_ | refine wDrw (by kernel_rfl) ?_); simp only [List.map_cons, List.map_nil, strip]) | ((first | refine wIs fun K hK => ?_ | refine wOs fun K hK => ?_ | refine wQs fun K hK => ?_ | refine CallK_plain ?_ | refine CallQ_plain ?_ | refine CallR_plain ?_ | refine wCond ?_); simp [g0, g5, b5, g15, g16, g17, hlt, hlt', hw, he, hm1, hm2, hm3]) | (refine wIn ?_; refine And.intro (by kernel_rfl) ?_; try simp only [thenA_n]) | (first | refine wBlock ?_ | refine wScope ?_) | ((first | refine wRet ?_ | refine wExit ?_ | refine wSkip ?_); try simp) | ((first | refine wLabel ?_ | refine wOn ?_ | refine wQn ?_); try simp only [thenA_n]) | (refine CallE.pure (cp) rfl ?_) | (refine CallE.lent (cp) rfl ?_) | (refine CallF.pure (cp) rfl ?_) | (refine CallF.lent (cp) rfl ?_) | (refine CallE.own (cp) ?_) | (refine CallH.pure (cp) rfl ?_) | (refine CallH.lent (cp) rfl ?_) | (refine CallH.own (cp) ?_) | (refine CallE.pure (cu) rfl ?_) | (refine CallE.lent (cu) rfl ?_) | (refine CallF.pure (cu) rfl ?_) | (refine CallF.lent (cu) rfl ?_) | (refine CallE.own (cu) ?_) | (refine CallH.pure (cu) rfl ?_) | (refine CallH.lent (cu) rfl ?_) | (refine CallH.own (cu) ?_)
        all_goals refine hL2 _ ?_ ?_ ?_ ?_ ?_ ?_
        all_goals simp [g0, g5, b5, g15, g16, g17, hw, bxD, hxd]
    · have hx := hrf.1 e0 (.inl e9)
      subst hx
      unfold Dk.cells at cp cu cs
      unfold bxD at b5
      repeat' first | (refine hK _ ?_; clear hK) | (refine hK _ _ ?_; clear hK) | (clear hK; refine hK _ ?_; clear hK) | (clear hK; clear hK; refine hK _ ?_; clear hK) | (clear hK; clear hK; clear hK; refine hK _ ?_; clear hK) | (clear hK; clear hK; clear hK; clear hK; refine hK _ ?_; clear hK) | (refine wSeq fun K hK => ?_) | ((first | refine wReg ?_ | refine wDrwQ rfl (by kernel_rfl) ?_ | refine wDrwI ?_ | refine wDrw (by kernel_rfl) ?_); simp only [List.map_cons, List.map_nil, strip]) | ((first | refine wIs fun K hK => ?_ | refine wOs fun K hK => ?_ | refine wQs fun K hK => ?_ | refine CallK_plain ?_ | refine CallQ_plain ?_ | refine CallR_plain ?_ | refine wCond ?_); simp [g0, g5, b5, g15, g16, g17, hlt, hlt', hw, he, hm1, hm2, hm3, e0, e9]) | (refine wIn ?_; refine And.intro (by kernel_rfl) ?_; try simp only [thenA_n]) | (first | refine wBlock ?_ | refine wScope ?_) | ((first | refine wRet ?_ | refine wExit ?_ | refine wSkip ?_); try simp) | ((first | refine wLabel ?_ | refine wOn ?_ | refine wQn ?_); try simp only [thenA_n]) | (refine CallE.pure (cp) rfl ?_) | (refine CallE.lent (cp) rfl ?_) | (refine CallF.pure (cp) rfl ?_) | (refine CallF.lent (cp) rfl ?_) | (refine CallE.own (cp) ?_) | (refine CallH.pure (cp) rfl ?_) | (refine CallH.lent (cp) rfl ?_) | (refine CallH.own (cp) ?_) | (refine CallE.pure (cu) rfl ?_) | (refine CallE.lent (cu) rfl ?_) | (refine CallF.pure (cu) rfl ?_) | (refine CallF.lent (cu) rfl ?_) | (refine CallE.own (cu) ?_) | (refine CallH.pure (cu) rfl ?_) | (refine CallH.lent (cu) rfl ?_) | (refine CallH.own (cu) ?_) | (refine CallE.pure (cs) rfl ?_) | (refine CallE.lent (cs) rfl ?_) | (refine CallF.pure (cs) rfl ?_) | (refine CallF.lent (cs) rfl ?_) | (refine CallE.own (cs) ?_) | (refine CallH.pure (cs) rfl ?_) | (refine CallH.lent (cs) rfl ?_) | (refine CallH.own (cs) ?_)
      all_goals refine hL2 _ ?_ ?_ ?_ ?_ ?_ ?_
      all_goals simp [g0, g5, b5, g15, g16, g17, hw, bxD]
  · have hlt' : ¬ (k : Int) < l.length := by omega
    repeat' first | (refine hK _ ?_; clear hK) | (refine hK _ _ ?_; clear hK) | (clear hK; refine hK _ ?_; clear hK) | (clear hK; clear hK; refine hK _ ?_; clear hK) | (clear hK; clear hK; clear hK; refine hK _ ?_; clear hK) | (clear hK; clear hK; clear hK; clear hK; refine hK _ ?_; clear hK) | (refine wSeq fun K hK => ?_) | ((first | refine wReg ?_ | refine wDrwQ rfl (by kernel_rfl) ?_ | refine wDrwI ?_ | refine wDrw (by kernel_rfl) ?_); simp only [List.map_cons, List.map_nil, strip]) | ((first | refine wIs fun K hK => ?_ | refine wOs fun K hK => ?_ | refine wQs fun K hK => ?_ | refine CallK_plain ?_ | refine CallQ_plain ?_ | refine CallR_plain ?_ | refine wCond ?_); simp [g0, g5, b5, g15, g16, g17, hlt, hlt']) | (refine wIn ?_; refine And.intro (by kernel_rfl) ?_; try simp only [thenA_n]) | (first | refine wBlock ?_ | refine wScope ?_) | ((first | refine wRet ?_ | refine wExit ?_ | refine wSkip ?_); try simp) | ((first | refine wLabel ?_ | refine wOn ?_ | refine wQn ?_); try simp only [thenA_n]) | (refine CallE.pure (awake13) rfl ?_) | (refine CallE.lent (awake13) rfl ?_) | (refine CallF.pure (awake13) rfl ?_) | (refine CallF.lent (awake13) rfl ?_) | (refine CallE.own (awake13) ?_) | (refine CallH.pure (awake13) rfl ?_) | (refine CallH.lent (awake13) rfl ?_) | (refine CallH.own (awake13) ?_)
    all_goals apply hr
    all_goals simp [Try.f5]
end Go.Proofs.Ytijjfiebmdejaaa
