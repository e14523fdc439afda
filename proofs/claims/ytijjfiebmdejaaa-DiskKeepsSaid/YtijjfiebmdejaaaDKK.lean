/- Disks: law DiskKeeps. -/
import Derived.Test.YtijjfiebmdejaaaDKJ
namespace Go.Proofs.Ytijjfiebmdejaaa
set_option linter.unusedSimpArgs false
set_option linter.unusedVariables false
set_option maxRecDepth 8000
open Go Go.Av
attribute [local simp] Try.T1 Try.T2 Try.T3 Try.T4 Try.T5 Try.T9 Try.T12 Try.T15 Try.T16 Try.T17 Try.T21 Try.T22 Try.T23 Try.T24 Try.T25 Try.T27 Try.T28 Try.T29 Try.T30 Try.T32 Try.T33 Try.T35 Try.T37 Try.T38 Try.T39 Try.T40 Try.T41 Try.T42 Try.T43 Try.T44 Try.T45 Try.T47 Try.T48 Try.T49 Try.T50 Try.T51 Try.T52 Try.T53 Try.T55 Try.T56 Try.T57 Try.T58 Try.T59 Try.T60 Try.T61 Try.T62 Try.T63 Try.T64 Try.T65 Try.T66 Try.T67 Try.T69 Try.T71 Try.T72 Try.T73 Try.T74 Try.T75 Try.T78 Try.T81 Try.T82 Try.T85 Try.T86
attribute [local irreducible] Go.Av.CallK Go.Av.CallE Go.Av.CallQ Go.Av.CallF Go.Av.CallR Go.Av.CallH Go.Av.Con
set_option maxHeartbeats 16000000 in
theorem diskKeeps_con (l : List Op13) (ks : List Int) (hl : ∀ o ∈ l, OkS o) (l63 : l.length ≤ 9223372036854775807) (ks63 : ks.length < 9223372036854775808) :
    ACon Try.prog 4 [.p (.sl 6 (ops13 l)), .p (.sl 1 (ints ks))] (.p (B true)) := by
  have cf1 := far13_con l hl l63
  cases f1 : farO l with
  | true =>
    rw [f1] at cf1
    refine wBody Try.tab Try.mixed Try.func4 rfl rfl Try.ntmps4 (by simp) (by simp) fun Q hr hn => ?_
    repeat' first | (refine hK _ ?_; clear hK) | (refine hK _ _ ?_; clear hK) | (clear hK; refine hK _ ?_; clear hK) | (clear hK; clear hK; refine hK _ ?_; clear hK) | (clear hK; clear hK; clear hK; refine hK _ ?_; clear hK) | (clear hK; clear hK; clear hK; clear hK; refine hK _ ?_; clear hK) | (refine wSeq fun K hK => ?_) | ((first | refine wReg ?_ | refine wDrwQ rfl (by kernel_rfl) ?_ | refine wDrwI ?_ | refine wDrw (by kernel_rfl) ?_); simp only [List.map_cons, List.map_nil, strip]) | ((first | refine wIs fun K hK => ?_ | refine wOs fun K hK => ?_ | refine wQs fun K hK => ?_ | refine CallK_plain ?_ | refine CallQ_plain ?_ | refine CallR_plain ?_ | refine wCond ?_); simp) | (refine wIn ?_; refine And.intro (by kernel_rfl) ?_; try simp only [thenA_n]) | (first | refine wBlock ?_ | refine wScope ?_) | ((first | refine wRet ?_ | refine wExit ?_ | refine wSkip ?_); try simp) | ((first | refine wLabel ?_ | refine wOn ?_ | refine wQn ?_); try simp only [thenA_n]) | (refine CallE.pure (cf1) rfl ?_) | (refine CallE.lent (cf1) rfl ?_) | (refine CallF.pure (cf1) rfl ?_) | (refine CallF.lent (cf1) rfl ?_) | (refine CallE.own (cf1) ?_) | (refine CallH.pure (cf1) rfl ?_) | (refine CallH.lent (cf1) rfl ?_) | (refine CallH.own (cf1) ?_) | (refine CallE.pure (awake13) rfl ?_) | (refine CallE.lent (awake13) rfl ?_) | (refine CallF.pure (awake13) rfl ?_) | (refine CallF.lent (awake13) rfl ?_) | (refine CallE.own (awake13) ?_) | (refine CallH.pure (awake13) rfl ?_) | (refine CallH.lent (awake13) rfl ?_) | (refine CallH.own (awake13) ?_)
    all_goals apply hr
    all_goals simp [Try.f4]
  | false =>
  rw [f1] at cf1
  by_cases hks : 100 < ks.length
  · have hks' : (100 : Int) < ks.length := by omega
    refine wBody Try.tab Try.mixed Try.func4 rfl rfl Try.ntmps4 (by simp) (by simp) fun Q hr hn => ?_
    repeat' first | (refine hK _ ?_; clear hK) | (refine hK _ _ ?_; clear hK) | (clear hK; refine hK _ ?_; clear hK) | (clear hK; clear hK; refine hK _ ?_; clear hK) | (clear hK; clear hK; clear hK; refine hK _ ?_; clear hK) | (clear hK; clear hK; clear hK; clear hK; refine hK _ ?_; clear hK) | (refine wSeq fun K hK => ?_) | ((first | refine wReg ?_ | refine wDrwQ rfl (by kernel_rfl) ?_ | refine wDrwI ?_ | refine wDrw (by kernel_rfl) ?_); simp only [List.map_cons, List.map_nil, strip]) | ((first | refine wIs fun K hK => ?_ | refine wOs fun K hK => ?_ | refine wQs fun K hK => ?_ | refine CallK_plain ?_ | refine CallQ_plain ?_ | refine CallR_plain ?_ | refine wCond ?_); simp [ks63, hks, hks']) | (refine wIn ?_; refine And.intro (by kernel_rfl) ?_; try simp only [thenA_n]) | (first | refine wBlock ?_ | refine wScope ?_) | ((first | refine wRet ?_ | refine wExit ?_ | refine wSkip ?_); try simp) | ((first | refine wLabel ?_ | refine wOn ?_ | refine wQn ?_); try simp only [thenA_n]) | (refine CallE.pure (cf1) rfl ?_) | (refine CallE.lent (cf1) rfl ?_) | (refine CallF.pure (cf1) rfl ?_) | (refine CallF.lent (cf1) rfl ?_) | (refine CallE.own (cf1) ?_) | (refine CallH.pure (cf1) rfl ?_) | (refine CallH.lent (cf1) rfl ?_) | (refine CallH.own (cf1) ?_) | (refine CallE.pure (awake13) rfl ?_) | (refine CallE.lent (awake13) rfl ?_) | (refine CallF.pure (awake13) rfl ?_) | (refine CallF.lent (awake13) rfl ?_) | (refine CallE.own (awake13) ?_) | (refine CallH.pure (awake13) rfl ?_) | (refine CallH.lent (awake13) rfl ?_) | (refine CallH.own (awake13) ?_)
    all_goals apply hr
    all_goals simp [Try.f4]
  have hks' : ¬ (100 : Int) < ks.length := by omega
  have cn := new_con 10000
  unfold Dk.cells at cn
  have hln : ∀ o ∈ l, o.n ≤ 9223372036854775807 := fun o ho => (hl o ho).n
  have hfar := farO_not f1
  refine wBody Try.tab Try.mixed Try.func4 rfl rfl Try.ntmps4 (by simp) (by simp) fun Q hr hn => ?_
  repeat' first | (refine hK _ ?_; clear hK) | (refine hK _ _ ?_; clear hK) | (clear hK; refine hK _ ?_; clear hK) | (clear hK; clear hK; refine hK _ ?_; clear hK) | (clear hK; clear hK; clear hK; refine hK _ ?_; clear hK) | (clear hK; clear hK; clear hK; clear hK; refine hK _ ?_; clear hK) | (refine wSeq fun K hK => ?_) | ((first | refine wReg ?_ | refine wDrwQ rfl (by kernel_rfl) ?_ | refine wDrwI ?_ | refine wDrw (by kernel_rfl) ?_); simp only [List.map_cons, List.map_nil, strip]) | ((first | refine wIs fun K hK => ?_ | refine wOs fun K hK => ?_ | refine wQs fun K hK => ?_ | refine CallK_plain ?_ | refine CallQ_plain ?_ | refine CallR_plain ?_ | refine wCond ?_); simp [ks63, hks, hks']) | (refine wIn ?_; refine And.intro (by kernel_rfl) ?_; try simp only [thenA_n]) | (first | refine wBlock ?_ | refine wScope ?_) | ((first | refine wRet ?_ | refine wExit ?_ | refine wSkip ?_); try simp) | ((first | refine wLabel ?_ | refine wOn ?_ | refine wQn ?_); try simp only [thenA_n]) | (refine CallE.pure (cf1) rfl ?_) | (refine CallE.lent (cf1) rfl ?_) | (refine CallF.pure (cf1) rfl ?_) | (refine CallF.lent (cf1) rfl ?_) | (refine CallE.own (cf1) ?_) | (refine CallH.pure (cf1) rfl ?_) | (refine CallH.lent (cf1) rfl ?_) | (refine CallH.own (cf1) ?_) | (refine CallE.pure (cn) rfl ?_) | (refine CallE.lent (cn) rfl ?_) | (refine CallF.pure (cn) rfl ?_) | (refine CallF.lent (cn) rfl ?_) | (refine CallE.own (cn) ?_) | (refine CallH.pure (cn) rfl ?_) | (refine CallH.lent (cn) rfl ?_) | (refine CallH.own (cn) ?_)
  refine wLoop (fun N st => ∃ (k : Nat) (d : Dk) (a : List UInt8) (s : Nat), k + N = l.length ∧ Mine d a s ∧ Inv13 d k (szO (l.take k)) ∧ a.length ≤ szO (l.take k) ∧ st.s 1 = .p (.sl 1 (ints ks)) ∧ st.s 5 = .ptr 5 0 ∧ st.b 5 = some (.box 27 (bxD d)) ∧ st.s 6 = .p (SB a) ∧ st.s 7 = .p (I s) ∧ st.s 23 = .p (.sl 6 (ops13 l)) ∧ st.s 24 = .p (I l.length) ∧ st.s 25 = .p (I k)) l.length ⟨0, newD 10000, [], 0, by simp, .new _, Inv13.new _, by simp, by simp [bxD]⟩ fun K N st hL ⟨k, d, a, s, hk, hM, hI, ha, g1, g5, b5, g6, g7, g23, g24, g25⟩ => ?_
  by_cases hlt : k < l.length
  · have hlt' : (k : Int) < l.length := by omega
    have hw := wrapS k _ hlt (by omega)
    have he := ops13_get hlt
    have hsz := szO_le (l := l) (k := k + 1)
    rw [szO_take hlt] at hsz
    have hok := hI.okP (by omega) (by omega)
    have hoO := OkO.of f1 (List.getElem_mem hlt)
    have hL2 : ∀ (d' : Dk) (a' : List UInt8) (s' : Nat), Mine d' a' s' → Inv13 d' (k + 1) (szO (l.take k) + l[k].sz) → a'.length ≤ szO (l.take k) + l[k].sz → ∀ st : St, st.s 1 = .p (.sl 1 (ints ks)) → st.s 5 = .ptr 5 0 → st.b 5 = some (.box 27 (bxD d')) → st.s 6 = .p (SB a') → st.s 7 = .p (I s') → st.s 23 = .p (.sl 6 (ops13 l)) → st.s 24 = .p (I l.length) → st.s 25 = .p (I ((k + 1 : Nat) : Int)) → K st := fun d' a' s' m1 m2 m3 st a1 a2 a3 a4 a5 a6 a7 a8 => hL st (N - 1) (by omega) ⟨k + 1, d', a', s', by omega, m1, by rw [szO_take hlt]; exact m2, by rw [szO_take hlt]; exact m3, a1, a2, a3, a4, a5, a6, a7, a8⟩
    have hskip := hL2 d a s hM ⟨by have := hI.n; omega, by have := hI.u; omega, hI.f⟩ (by omega)
    have hII : Inv13 (ply d l[k]).1 (k + 1) (szO (l.take k) + l[k].sz) := by
      have h := hI.ply l[k] (hln _ (List.getElem_mem hlt))
      exact ⟨h.n, by have := h.u; unfold Op13.sz; omega, h.f⟩
    have hap : (a ++ l[k].p).length ≤ szO (l.take k) + l[k].sz := by rw [List.length_append]; unfold Op13.sz; omega
    have hpl : l[k].p.length ≤ l[k].sz := by unfold Op13.sz; omega
    clear hL
    have cp := play_con d l[k] hok hoO
    have cM1 : ∀ (h0 : 0 ≤ l[k].k) (h4 : l[k].k ≤ 4) (ha : l[k].a ≠ mine13) (hb : l[k].k = 4 → l[k].b ≠ mine13), Mine (ply d l[k]).1 a s := fun h0 h4 ha hb => hM.others h0 h4 ha hb
    have cM2 : ∀ (h0 : 0 ≤ l[k].k) (h4 : l[k].k ≤ 4) (he : (ply d l[k]).2 ≠ 0), Mine (ply d l[k]).1 a s := fun h0 h4 he => hM.refused h0 h4 he
    have cM3 : ∀ (hk : l[k].k = 0) (ha : l[k].a = mine13) (he : (ply d l[k]).2 = 0), Mine (ply d l[k]).1 (a ++ l[k].p) s := fun hk ha he => hM.append hk ha he
    have cM4 : ∀ (hk : l[k].k = 1) (ha : l[k].a = mine13) (he : (ply d l[k]).2 = 0), Mine (ply d l[k]).1 a a.length := fun hk ha he => hM.sync hk ha he
    generalize ply d l[k] = r at *
    obtain ⟨x, e⟩ := r
    dsimp only at *
    unfold mine13 at cM1 cM3 cM4
    generalize hO : l[k] = o at *
    obtain ⟨ok, oa, ob, op, on, oks⟩ := o
    simp only at cM1 cM2 cM3 cM4 he hap hpl
    have q1 : l[k].k = ok := by rw [hO]
    have q2 : l[k].a = oa := by rw [hO]
    have q3 : l[k].b = ob := by rw [hO]
    have q4 : l[k].p = op := by rw [hO]
    have q5 : l[k].n = on := by rw [hO]
    have q6 : l[k].ks = oks := by rw [hO]
    unfold Dk.cells Op13.cells at cp
    dsimp only at cp
    unfold bxD at b5
    have u1 := unL_by8 op
    have v1 := strOf_by8 op
    have hal : a.length + op.length ≤ 9223372036854775807 := by rw [List.length_append] at hap; omega
    have hal2 : a.length < 9223372036854775808 := by omega
    clear hO hI hok hoO hM hl hln hsz
    by_cases k0 : ok = 0
    · subst k0
      by_cases hA : oa = [109, 105, 110, 101]
      · by_cases e0 : e = 0
        · subst e0
          have hq := hL2 x (a ++ op) s (cM3 rfl hA rfl) hII hap
          subst hA
          repeat' first | (refine And.intro (by omega) ?_) | (refine hK _ ?_; clear hK) | (refine hK _ _ ?_; clear hK) | (clear hK; refine hK _ ?_; clear hK) | (clear hK; clear hK; refine hK _ ?_; clear hK) | (clear hK; clear hK; clear hK; refine hK _ ?_; clear hK) | (clear hK; clear hK; clear hK; clear hK; refine hK _ ?_; clear hK) | (refine wSeq fun K hK => ?_) | ((first | refine wReg ?_ | refine wDrwQ rfl (by kernel_rfl) ?_ | refine wDrwI ?_ | refine wDrw (by kernel_rfl) ?_); simp only [List.map_cons, List.map_nil, strip]) | ((first | refine wIs fun K hK => ?_ | refine wOs fun K hK => ?_ | refine wQs fun K hK => ?_ | refine CallK_plain ?_ | refine CallQ_plain ?_ | refine CallR_plain ?_ | refine wCond ?_); simp [g1, g5, b5, g6, g7, g23, g24, g25, hlt, hlt', hw, he, q1, q2, q3, q4, q5, q6, u1, v1, hal]) | (refine wIn ?_; refine And.intro (by kernel_rfl) ?_; try simp only [thenA_n]) | (first | refine wBlock ?_ | refine wScope ?_) | ((first | refine wRet ?_ | refine wExit ?_ | refine wSkip ?_); try simp) | ((first | refine wLabel ?_ | refine wOn ?_ | refine wQn ?_); try simp only [thenA_n]) | (refine CallE.pure (cp) rfl ?_) | (refine CallE.lent (cp) rfl ?_) | (refine CallF.pure (cp) rfl ?_) | (refine CallF.lent (cp) rfl ?_) | (refine CallE.own (cp) ?_) | (refine CallH.pure (cp) rfl ?_) | (refine CallH.lent (cp) rfl ?_) | (refine CallH.own (cp) ?_)
          all_goals refine hq _ ?_ ?_ ?_ ?_ ?_ ?_ ?_ ?_
          all_goals simp [g1, g5, b5, g6, g7, g23, g24, g25, hw, bxD]
        · have hq := hL2 x a s (cM2 (by decide) (by decide) e0) hII (by omega)
          subst hA
          repeat' first | (refine hK _ ?_; clear hK) | (refine hK _ _ ?_; clear hK) | (clear hK; refine hK _ ?_; clear hK) | (clear hK; clear hK; refine hK _ ?_; clear hK) | (clear hK; clear hK; clear hK; refine hK _ ?_; clear hK) | (clear hK; clear hK; clear hK; clear hK; refine hK _ ?_; clear hK) | (refine wSeq fun K hK => ?_) | ((first | refine wReg ?_ | refine wDrwQ rfl (by kernel_rfl) ?_ | refine wDrwI ?_ | refine wDrw (by kernel_rfl) ?_); simp only [List.map_cons, List.map_nil, strip]) | ((first | refine wIs fun K hK => ?_ | refine wOs fun K hK => ?_ | refine wQs fun K hK => ?_ | refine CallK_plain ?_ | refine CallQ_plain ?_ | refine CallR_plain ?_ | refine wCond ?_); simp [g1, g5, b5, g6, g7, g23, g24, g25, hlt, hlt', hw, he, q1, q2, q3, q4, q5, q6, e0]) | (refine wIn ?_; refine And.intro (by kernel_rfl) ?_; try simp only [thenA_n]) | (first | refine wBlock ?_ | refine wScope ?_) | ((first | refine wRet ?_ | refine wExit ?_ | refine wSkip ?_); try simp) | ((first | refine wLabel ?_ | refine wOn ?_ | refine wQn ?_); try simp only [thenA_n]) | (refine CallE.pure (cp) rfl ?_) | (refine CallE.lent (cp) rfl ?_) | (refine CallF.pure (cp) rfl ?_) | (refine CallF.lent (cp) rfl ?_) | (refine CallE.own (cp) ?_) | (refine CallH.pure (cp) rfl ?_) | (refine CallH.lent (cp) rfl ?_) | (refine CallH.own (cp) ?_)
          all_goals refine hq _ ?_ ?_ ?_ ?_ ?_ ?_ ?_ ?_
          all_goals simp [g1, g5, b5, g6, g7, g23, g24, g25, hw, bxD]
      · have hq := hL2 x a s (cM1 (by decide) (by decide) hA (fun h => by simp at h)) hII (by omega)
        repeat' first | (refine hK _ ?_; clear hK) | (refine hK _ _ ?_; clear hK) | (clear hK; refine hK _ ?_; clear hK) | (clear hK; clear hK; refine hK _ ?_; clear hK) | (clear hK; clear hK; clear hK; refine hK _ ?_; clear hK) | (clear hK; clear hK; clear hK; clear hK; refine hK _ ?_; clear hK) | (refine wSeq fun K hK => ?_) | ((first | refine wReg ?_ | refine wDrwQ rfl (by kernel_rfl) ?_ | refine wDrwI ?_ | refine wDrw (by kernel_rfl) ?_); simp only [List.map_cons, List.map_nil, strip]) | ((first | refine wIs fun K hK => ?_ | refine wOs fun K hK => ?_ | refine wQs fun K hK => ?_ | refine CallK_plain ?_ | refine CallQ_plain ?_ | refine CallR_plain ?_ | refine wCond ?_); simp [g1, g5, b5, g6, g7, g23, g24, g25, hlt, hlt', hw, he, q1, q2, q3, q4, q5, q6, hA]) | (refine wIn ?_; refine And.intro (by kernel_rfl) ?_; try simp only [thenA_n]) | (first | refine wBlock ?_ | refine wScope ?_) | ((first | refine wRet ?_ | refine wExit ?_ | refine wSkip ?_); try simp) | ((first | refine wLabel ?_ | refine wOn ?_ | refine wQn ?_); try simp only [thenA_n]) | (refine CallE.pure (cp) rfl ?_) | (refine CallE.lent (cp) rfl ?_) | (refine CallF.pure (cp) rfl ?_) | (refine CallF.lent (cp) rfl ?_) | (refine CallE.own (cp) ?_) | (refine CallH.pure (cp) rfl ?_) | (refine CallH.lent (cp) rfl ?_) | (refine CallH.own (cp) ?_)
        all_goals refine hq _ ?_ ?_ ?_ ?_ ?_ ?_ ?_ ?_
        all_goals simp [g1, g5, b5, g6, g7, g23, g24, g25, hw, bxD]
    by_cases k1 : ok = 1
    · subst k1
      by_cases hA : oa = [109, 105, 110, 101]
      · by_cases e0 : e = 0
        · subst e0
          have hq := hL2 x a a.length (cM4 rfl hA rfl) hII (by omega)
          subst hA
          repeat' first | (refine hK _ ?_; clear hK) | (refine hK _ _ ?_; clear hK) | (clear hK; refine hK _ ?_; clear hK) | (clear hK; clear hK; refine hK _ ?_; clear hK) | (clear hK; clear hK; clear hK; refine hK _ ?_; clear hK) | (clear hK; clear hK; clear hK; clear hK; refine hK _ ?_; clear hK) | (refine wSeq fun K hK => ?_) | ((first | refine wReg ?_ | refine wDrwQ rfl (by kernel_rfl) ?_ | refine wDrwI ?_ | refine wDrw (by kernel_rfl) ?_); simp only [List.map_cons, List.map_nil, strip]) | ((first | refine wIs fun K hK => ?_ | refine wOs fun K hK => ?_ | refine wQs fun K hK => ?_ | refine CallK_plain ?_ | refine CallQ_plain ?_ | refine CallR_plain ?_ | refine wCond ?_); simp [g1, g5, b5, g6, g7, g23, g24, g25, hlt, hlt', hw, he, q1, q2, q3, q4, q5, q6, hal2]) | (refine wIn ?_; refine And.intro (by kernel_rfl) ?_; try simp only [thenA_n]) | (first | refine wBlock ?_ | refine wScope ?_) | ((first | refine wRet ?_ | refine wExit ?_ | refine wSkip ?_); try simp) | ((first | refine wLabel ?_ | refine wOn ?_ | refine wQn ?_); try simp only [thenA_n]) | (refine CallE.pure (cp) rfl ?_) | (refine CallE.lent (cp) rfl ?_) | (refine CallF.pure (cp) rfl ?_) | (refine CallF.lent (cp) rfl ?_) | (refine CallE.own (cp) ?_) | (refine CallH.pure (cp) rfl ?_) | (refine CallH.lent (cp) rfl ?_) | (refine CallH.own (cp) ?_)
          all_goals refine hq _ ?_ ?_ ?_ ?_ ?_ ?_ ?_ ?_
          all_goals simp [g1, g5, b5, g6, g7, g23, g24, g25, hw, bxD]
        · have hq := hL2 x a s (cM2 (by decide) (by decide) e0) hII (by omega)
          subst hA
          repeat' first | (refine hK _ ?_; clear hK) | (refine hK _ _ ?_; clear hK) | (clear hK; refine hK _ ?_; clear hK) | (clear hK; clear hK; refine hK _ ?_; clear hK) | (clear hK; clear hK; clear hK; refine hK _ ?_; clear hK) | (clear hK; clear hK; clear hK; clear hK; refine hK _ ?_; clear hK) | (refine wSeq fun K hK => ?_) | ((first | refine wReg ?_ | refine wDrwQ rfl (by kernel_rfl) ?_ | refine wDrwI ?_ | refine wDrw (by kernel_rfl) ?_); simp only [List.map_cons, List.map_nil, strip]) | ((first | refine wIs fun K hK => ?_ | refine wOs fun K hK => ?_ | refine wQs fun K hK => ?_ | refine CallK_plain ?_ | refine CallQ_plain ?_ | refine CallR_plain ?_ | refine wCond ?_); simp [g1, g5, b5, g6, g7, g23, g24, g25, hlt, hlt', hw, he, q1, q2, q3, q4, q5, q6, e0]) | (refine wIn ?_; refine And.intro (by kernel_rfl) ?_; try simp only [thenA_n]) | (first | refine wBlock ?_ | refine wScope ?_) | ((first | refine wRet ?_ | refine wExit ?_ | refine wSkip ?_); try simp) | ((first | refine wLabel ?_ | refine wOn ?_ | refine wQn ?_); try simp only [thenA_n]) | (refine CallE.pure (cp) rfl ?_) | (refine CallE.lent (cp) rfl ?_) | (refine CallF.pure (cp) rfl ?_) | (refine CallF.lent (cp) rfl ?_) | (refine CallE.own (cp) ?_) | (refine CallH.pure (cp) rfl ?_) | (refine CallH.lent (cp) rfl ?_) | (refine CallH.own (cp) ?_)
          all_goals refine hq _ ?_ ?_ ?_ ?_ ?_ ?_ ?_ ?_
          all_goals simp [g1, g5, b5, g6, g7, g23, g24, g25, hw, bxD]
      · have hq := hL2 x a s (cM1 (by decide) (by decide) hA (fun h => by simp at h)) hII (by omega)
        repeat' first | (refine hK _ ?_; clear hK) | (refine hK _ _ ?_; clear hK) | (clear hK; refine hK _ ?_; clear hK) | (clear hK; clear hK; refine hK _ ?_; clear hK) | (clear hK; clear hK; clear hK; refine hK _ ?_; clear hK) | (clear hK; clear hK; clear hK; clear hK; refine hK _ ?_; clear hK) | (refine wSeq fun K hK => ?_) | ((first | refine wReg ?_ | refine wDrwQ rfl (by kernel_rfl) ?_ | refine wDrwI ?_ | refine wDrw (by kernel_rfl) ?_); simp only [List.map_cons, List.map_nil, strip]) | ((first | refine wIs fun K hK => ?_ | refine wOs fun K hK => ?_ | refine wQs fun K hK => ?_ | refine CallK_plain ?_ | refine CallQ_plain ?_ | refine CallR_plain ?_ | refine wCond ?_); simp [g1, g5, b5, g6, g7, g23, g24, g25, hlt, hlt', hw, he, q1, q2, q3, q4, q5, q6, hA]) | (refine wIn ?_; refine And.intro (by kernel_rfl) ?_; try simp only [thenA_n]) | (first | refine wBlock ?_ | refine wScope ?_) | ((first | refine wRet ?_ | refine wExit ?_ | refine wSkip ?_); try simp) | ((first | refine wLabel ?_ | refine wOn ?_ | refine wQn ?_); try simp only [thenA_n]) | (refine CallE.pure (cp) rfl ?_) | (refine CallE.lent (cp) rfl ?_) | (refine CallF.pure (cp) rfl ?_) | (refine CallF.lent (cp) rfl ?_) | (refine CallE.own (cp) ?_) | (refine CallH.pure (cp) rfl ?_) | (refine CallH.lent (cp) rfl ?_) | (refine CallH.own (cp) ?_)
        all_goals refine hq _ ?_ ?_ ?_ ?_ ?_ ?_ ?_ ?_
        all_goals simp [g1, g5, b5, g6, g7, g23, g24, g25, hw, bxD]
    by_cases hA : oa = [109, 105, 110, 101]
    · subst hA
      repeat' first | (refine hK _ ?_; clear hK) | (refine hK _ _ ?_; clear hK) | (clear hK; refine hK _ ?_; clear hK) | (clear hK; clear hK; refine hK _ ?_; clear hK) | (clear hK; clear hK; clear hK; refine hK _ ?_; clear hK) | (clear hK; clear hK; clear hK; clear hK; refine hK _ ?_; clear hK) | (refine wSeq fun K hK => ?_) | ((first | refine wReg ?_ | refine wDrwQ rfl (by kernel_rfl) ?_ | refine wDrwI ?_ | refine wDrw (by kernel_rfl) ?_); simp only [List.map_cons, List.map_nil, strip]) | ((first | refine wIs fun K hK => ?_ | refine wOs fun K hK => ?_ | refine wQs fun K hK => ?_ | refine CallK_plain ?_ | refine CallQ_plain ?_ | refine CallR_plain ?_ | refine wCond ?_); simp [g1, g5, b5, g6, g7, g23, g24, g25, hlt, hlt', hw, he, q1, q2, q3, q4, q5, q6, k0, k1]) | (refine wIn ?_; refine And.intro (by kernel_rfl) ?_; try simp only [thenA_n]) | (first | refine wBlock ?_ | refine wScope ?_) | ((first | refine wRet ?_ | refine wExit ?_ | refine wSkip ?_); try simp) | ((first | refine wLabel ?_ | refine wOn ?_ | refine wQn ?_); try simp only [thenA_n])
      all_goals refine hskip _ ?_ ?_ ?_ ?_ ?_ ?_ ?_ ?_
      all_goals simp [g1, g5, b5, g6, g7, g23, g24, g25, hw, bxD]
    by_cases hB : ob = [109, 105, 110, 101]
    · subst hB
      repeat' first | (refine hK _ ?_; clear hK) | (refine hK _ _ ?_; clear hK) | (clear hK; refine hK _ ?_; clear hK) | (clear hK; clear hK; refine hK _ ?_; clear hK) | (clear hK; clear hK; clear hK; refine hK _ ?_; clear hK) | (clear hK; clear hK; clear hK; clear hK; refine hK _ ?_; clear hK) | (refine wSeq fun K hK => ?_) | ((first | refine wReg ?_ | refine wDrwQ rfl (by kernel_rfl) ?_ | refine wDrwI ?_ | refine wDrw (by kernel_rfl) ?_); simp only [List.map_cons, List.map_nil, strip]) | ((first | refine wIs fun K hK => ?_ | refine wOs fun K hK => ?_ | refine wQs fun K hK => ?_ | refine CallK_plain ?_ | refine CallQ_plain ?_ | refine CallR_plain ?_ | refine wCond ?_); simp [g1, g5, b5, g6, g7, g23, g24, g25, hlt, hlt', hw, he, q1, q2, q3, q4, q5, q6, k0, k1, hA]) | (refine wIn ?_; refine And.intro (by kernel_rfl) ?_; try simp only [thenA_n]) | (first | refine wBlock ?_ | refine wScope ?_) | ((first | refine wRet ?_ | refine wExit ?_ | refine wSkip ?_); try simp) | ((first | refine wLabel ?_ | refine wOn ?_ | refine wQn ?_); try simp only [thenA_n])
      all_goals refine hskip _ ?_ ?_ ?_ ?_ ?_ ?_ ?_ ?_
      all_goals simp [g1, g5, b5, g6, g7, g23, g24, g25, hw, bxD]
    by_cases k5 : 5 ≤ ok
    · repeat' first | (refine hK _ ?_; clear hK) | (refine hK _ _ ?_; clear hK) | (clear hK; refine hK _ ?_; clear hK) | (clear hK; clear hK; refine hK _ ?_; clear hK) | (clear hK; clear hK; clear hK; refine hK _ ?_; clear hK) | (clear hK; clear hK; clear hK; clear hK; refine hK _ ?_; clear hK) | (refine wSeq fun K hK => ?_) | ((first | refine wReg ?_ | refine wDrwQ rfl (by kernel_rfl) ?_ | refine wDrwI ?_ | refine wDrw (by kernel_rfl) ?_); simp only [List.map_cons, List.map_nil, strip]) | ((first | refine wIs fun K hK => ?_ | refine wOs fun K hK => ?_ | refine wQs fun K hK => ?_ | refine CallK_plain ?_ | refine CallQ_plain ?_ | refine CallR_plain ?_ | refine wCond ?_); simp [g1, g5, b5, g6, g7, g23, g24, g25, hlt, hlt', hw, he, q1, q2, q3, q4, q5, q6, k0, k1, hA, hB, k5]) | (refine wIn ?_; refine And.intro (by kernel_rfl) ?_; try simp only [thenA_n]) | (first | refine wBlock ?_ | refine wScope ?_) | ((first | refine wRet ?_ | refine wExit ?_ | refine wSkip ?_); try simp) | ((first | refine wLabel ?_ | refine wOn ?_ | refine wQn ?_); try simp only [thenA_n])
      all_goals refine hskip _ ?_ ?_ ?_ ?_ ?_ ?_ ?_ ?_
      all_goals simp [g1, g5, b5, g6, g7, g23, g24, g25, hw, bxD]
    by_cases kn : ok < 0
    · repeat' first | (refine hK _ ?_; clear hK) | (refine hK _ _ ?_; clear hK) | (clear hK; refine hK _ ?_; clear hK) | (clear hK; clear hK; refine hK _ ?_; clear hK) | (clear hK; clear hK; clear hK; refine hK _ ?_; clear hK) | (clear hK; clear hK; clear hK; clear hK; refine hK _ ?_; clear hK) | (refine wSeq fun K hK => ?_) | ((first | refine wReg ?_ | refine wDrwQ rfl (by kernel_rfl) ?_ | refine wDrwI ?_ | refine wDrw (by kernel_rfl) ?_); simp only [List.map_cons, List.map_nil, strip]) | ((first | refine wIs fun K hK => ?_ | refine wOs fun K hK => ?_ | refine wQs fun K hK => ?_ | refine CallK_plain ?_ | refine CallQ_plain ?_ | refine CallR_plain ?_ | refine wCond ?_); simp [g1, g5, b5, g6, g7, g23, g24, g25, hlt, hlt', hw, he, q1, q2, q3, q4, q5, q6, k0, k1, hA, hB, k5, kn]) | (refine wIn ?_; refine And.intro (by kernel_rfl) ?_; try simp only [thenA_n]) | (first | refine wBlock ?_ | refine wScope ?_) | ((first | refine wRet ?_ | refine wExit ?_ | refine wSkip ?_); try simp) | ((first | refine wLabel ?_ | refine wOn ?_ | refine wQn ?_); try simp only [thenA_n])
      all_goals refine hskip _ ?_ ?_ ?_ ?_ ?_ ?_ ?_ ?_
      all_goals simp [g1, g5, b5, g6, g7, g23, g24, g25, hw, bxD]
    have hq := hL2 x a s (cM1 (by omega) (by omega) hA (fun h => hB)) hII (by omega)
    repeat' first | (refine hK _ ?_; clear hK) | (refine hK _ _ ?_; clear hK) | (clear hK; refine hK _ ?_; clear hK) | (clear hK; clear hK; refine hK _ ?_; clear hK) | (clear hK; clear hK; clear hK; refine hK _ ?_; clear hK) | (clear hK; clear hK; clear hK; clear hK; refine hK _ ?_; clear hK) | (refine wSeq fun K hK => ?_) | ((first | refine wReg ?_ | refine wDrwQ rfl (by kernel_rfl) ?_ | refine wDrwI ?_ | refine wDrw (by kernel_rfl) ?_); simp only [List.map_cons, List.map_nil, strip]) | ((first | refine wIs fun K hK => ?_ | refine wOs fun K hK => ?_ | refine wQs fun K hK => ?_ | refine CallK_plain ?_ | refine CallQ_plain ?_ | refine CallR_plain ?_ | refine wCond ?_); simp [g1, g5, b5, g6, g7, g23, g24, g25, hlt, hlt', hw, he, q1, q2, q3, q4, q5, q6, k0, k1, hA, hB, k5, kn]) | (refine wIn ?_; refine And.intro (by kernel_rfl) ?_; try simp only [thenA_n]) | (first | refine wBlock ?_ | refine wScope ?_) | ((first | refine wRet ?_ | refine wExit ?_ | refine wSkip ?_); try simp) | ((first | refine wLabel ?_ | refine wOn ?_ | refine wQn ?_); try simp only [thenA_n]) | (refine CallE.pure (cp) rfl ?_) | (refine CallE.lent (cp) rfl ?_) | (refine CallF.pure (cp) rfl ?_) | (refine CallF.lent (cp) rfl ?_) | (refine CallE.own (cp) ?_) | (refine CallH.pure (cp) rfl ?_) | (refine CallH.lent (cp) rfl ?_) | (refine CallH.own (cp) ?_)
    all_goals refine hq _ ?_ ?_ ?_ ?_ ?_ ?_ ?_ ?_
    all_goals simp [g1, g5, b5, g6, g7, g23, g24, g25, hw, bxD]
  · have hlt' : ¬ (k : Int) < l.length := by omega
    have hsz := szO_le (l := l) (k := k)
    have hok := hI.okP (by omega) (by omega)
    have cc := crash_con d ks hok.toOkD (by omega)
    have ok1 := crsh_okP hok ks
    have cst := start_con (crsh d ks) ok1.toOkD
    have cr := read_con (staD (crsh d ks)) [109, 105, 110, 101] (staD_okP ok1).toOkD
    have hrd := hM.read ks
    unfold mine13 at hrd
    generalize readB (staD (crsh d ks)) [109, 105, 110, 101] = rb at *
    generalize readE (staD (crsh d ks)) [109, 105, 110, 101] = re at *
    generalize staD (crsh d ks) = d2 at *
    generalize crsh d ks = d1 at *
    clear hL
    unfold Dk.cells at cc cst cr
    unfold bxD at b5
    rcases hrd with ⟨m, h1, h2, rfl, rfl⟩ | ⟨rfl, rfl, rfl⟩
    · have hml : (a.take m).length = m := by simp; omega
      have u1 := unL_by8 (a.take m)
      have v1 := strOf_by8 (a.take m)
      generalize hT : a.take m = t at *
      have h1' : (s : Int) ≤ m := by omega
      have h2' : (m : Int) ≤ a.length := by omega
      have hal : a.length < 9223372036854775808 := by omega
      have hml2 : m < 9223372036854775808 := by omega
      have ht2 : List.take t.length a = t := by rw [hml]; exact hT
      have ht3 : (s : Int) ≤ t.length := by omega
      have ht4 : (t.length : Int) ≤ a.length := by omega
      have ht5 : s ≤ t.length := by omega
      have ht6 : t.length ≤ a.length := by omega
      have ht7 : t.length < 9223372036854775808 := by omega
      repeat' first | (refine hK _ ?_; clear hK) | (refine hK _ _ ?_; clear hK) | (clear hK; refine hK _ ?_; clear hK) | (clear hK; clear hK; refine hK _ ?_; clear hK) | (clear hK; clear hK; clear hK; refine hK _ ?_; clear hK) | (clear hK; clear hK; clear hK; clear hK; refine hK _ ?_; clear hK) | (refine wSeq fun K hK => ?_) | ((first | refine wReg ?_ | refine wDrwQ rfl (by kernel_rfl) ?_ | refine wDrwI ?_ | refine wDrw (by kernel_rfl) ?_); simp only [List.map_cons, List.map_nil, strip]) | ((first | refine wIs fun K hK => ?_ | refine wOs fun K hK => ?_ | refine wQs fun K hK => ?_ | refine CallK_plain ?_ | refine CallQ_plain ?_ | refine CallR_plain ?_ | refine wCond ?_); simp [g1, g5, b5, g6, g7, g23, g24, g25, hlt, hlt', u1, v1, hT, ht2, ht3, ht4, ht5, ht6, ht7, hal]) | (refine wIn ?_; refine And.intro (by kernel_rfl) ?_; try simp only [thenA_n]) | (first | refine wBlock ?_ | refine wScope ?_) | ((first | refine wRet ?_ | refine wExit ?_ | refine wSkip ?_); try simp) | ((first | refine wLabel ?_ | refine wOn ?_ | refine wQn ?_); try simp only [thenA_n]) | (refine CallE.pure (cc) rfl ?_) | (refine CallE.lent (cc) rfl ?_) | (refine CallF.pure (cc) rfl ?_) | (refine CallF.lent (cc) rfl ?_) | (refine CallE.own (cc) ?_) | (refine CallH.pure (cc) rfl ?_) | (refine CallH.lent (cc) rfl ?_) | (refine CallH.own (cc) ?_) | (refine CallE.pure (cst) rfl ?_) | (refine CallE.lent (cst) rfl ?_) | (refine CallF.pure (cst) rfl ?_) | (refine CallF.lent (cst) rfl ?_) | (refine CallE.own (cst) ?_) | (refine CallH.pure (cst) rfl ?_) | (refine CallH.lent (cst) rfl ?_) | (refine CallH.own (cst) ?_) | (refine CallE.pure (cr) rfl ?_) | (refine CallE.lent (cr) rfl ?_) | (refine CallF.pure (cr) rfl ?_) | (refine CallF.lent (cr) rfl ?_) | (refine CallE.own (cr) ?_) | (refine CallH.pure (cr) rfl ?_) | (refine CallH.lent (cr) rfl ?_) | (refine CallH.own (cr) ?_) | (refine CallE.pure (awake13) rfl ?_) | (refine CallE.lent (awake13) rfl ?_) | (refine CallF.pure (awake13) rfl ?_) | (refine CallF.lent (awake13) rfl ?_) | (refine CallE.own (awake13) ?_) | (refine CallH.pure (awake13) rfl ?_) | (refine CallH.lent (awake13) rfl ?_) | (refine CallH.own (awake13) ?_)
      all_goals apply hr
      all_goals simp [Try.f4]
    · repeat' first | (refine hK _ ?_; clear hK) | (refine hK _ _ ?_; clear hK) | (clear hK; refine hK _ ?_; clear hK) | (clear hK; clear hK; refine hK _ ?_; clear hK) | (clear hK; clear hK; clear hK; refine hK _ ?_; clear hK) | (clear hK; clear hK; clear hK; clear hK; refine hK _ ?_; clear hK) | (refine wSeq fun K hK => ?_) | ((first | refine wReg ?_ | refine wDrwQ rfl (by kernel_rfl) ?_ | refine wDrwI ?_ | refine wDrw (by kernel_rfl) ?_); simp only [List.map_cons, List.map_nil, strip]) | ((first | refine wIs fun K hK => ?_ | refine wOs fun K hK => ?_ | refine wQs fun K hK => ?_ | refine CallK_plain ?_ | refine CallQ_plain ?_ | refine CallR_plain ?_ | refine wCond ?_); simp [g1, g5, b5, g6, g7, g23, g24, g25, hlt, hlt']) | (refine wIn ?_; refine And.intro (by kernel_rfl) ?_; try simp only [thenA_n]) | (first | refine wBlock ?_ | refine wScope ?_) | ((first | refine wRet ?_ | refine wExit ?_ | refine wSkip ?_); try simp) | ((first | refine wLabel ?_ | refine wOn ?_ | refine wQn ?_); try simp only [thenA_n]) | (refine CallE.pure (cc) rfl ?_) | (refine CallE.lent (cc) rfl ?_) | (refine CallF.pure (cc) rfl ?_) | (refine CallF.lent (cc) rfl ?_) | (refine CallE.own (cc) ?_) | (refine CallH.pure (cc) rfl ?_) | (refine CallH.lent (cc) rfl ?_) | (refine CallH.own (cc) ?_) | (refine CallE.pure (cst) rfl ?_) | (refine CallE.lent (cst) rfl ?_) | (refine CallF.pure (cst) rfl ?_) | (refine CallF.lent (cst) rfl ?_) | (refine CallE.own (cst) ?_) | (refine CallH.pure (cst) rfl ?_) | (refine CallH.lent (cst) rfl ?_) | (refine CallH.own (cst) ?_) | (refine CallE.pure (cr) rfl ?_) | (refine CallE.lent (cr) rfl ?_) | (refine CallF.pure (cr) rfl ?_) | (refine CallF.lent (cr) rfl ?_) | (refine CallE.own (cr) ?_) | (refine CallH.pure (cr) rfl ?_) | (refine CallH.lent (cr) rfl ?_) | (refine CallH.own (cr) ?_) | (refine CallE.pure (awake13) rfl ?_) | (refine CallE.lent (awake13) rfl ?_) | (refine CallF.pure (awake13) rfl ?_) | (refine CallF.lent (awake13) rfl ?_) | (refine CallE.own (awake13) ?_) | (refine CallH.pure (awake13) rfl ?_) | (refine CallH.lent (awake13) rfl ?_) | (refine CallH.own (awake13) ?_)
      all_goals apply hr
      all_goals simp [Try.f4]
end Go.Proofs.Ytijjfiebmdejaaa
