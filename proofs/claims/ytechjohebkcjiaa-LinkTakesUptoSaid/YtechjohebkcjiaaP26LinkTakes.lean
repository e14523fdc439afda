/- Texts that the proof needs: LG3. -/
import Derived.Test.YtechjohebkcjiaaP25LinkTakes
import Derived.Test.YtechjohebkcjiaaP24LinkTakes
/- The document's messages: copied. -/
namespace Go.Proofs.Ytechjohebkcjiaa
set_option linter.unusedSimpArgs false
set_option linter.unusedVariables false
set_option maxRecDepth 8000
open Go Go.Av
attribute [local simp] Try.T1 Try.T2 Try.T3 Try.T4 Try.T5 Try.T9 Try.T12 Try.T15 Try.T16 Try.T17 Try.T21 Try.T22 Try.T23 Try.T24 Try.T25 Try.T27 Try.T29 Try.T30 Try.T31 Try.T32 Try.T33 Try.T35 Try.T37 Try.T38 Try.T40 Try.T41 Try.T42 Try.T44 Try.T45 Try.T47 Try.T49 Try.T51 Try.T53 Try.T54 Try.T55 Try.T56 Try.T57 Try.T58 Try.T59 Try.T60 Try.T61 Try.T62 Try.T63 Try.T64 Try.T66 Try.T67 Try.T68 Try.T69 Try.T70 Try.T72 Try.T74 Try.T76 Try.T77 Try.T78 Try.T79 Try.T80 Try.T81 Try.T82 Try.T83 Try.T84 Try.T85 Try.T87 Try.T88 Try.T89 Try.T90 Try.T91 Try.T92 Try.T93 Try.T94 Try.T96 Try.T97 Try.T98 Try.T99 Try.T100 Try.T101 Try.T102 Try.T103 Try.T104 Try.T105 Try.T106 Try.T107 Try.T108 Try.T109 Try.T110 Try.T111 Try.T113 Try.T114 Try.T115 Try.T116 Try.T117 Try.T118 Try.T119 Try.T120 Try.T121 Try.T122 Try.T123 Try.T124 Try.T125 Try.T126 Try.T127 Try.T128 Try.T129 Try.T130 Try.T133 Try.T136 Try.T137 Try.T140 Try.T141
attribute [local irreducible] Go.Av.CallK Go.Av.CallE Go.Av.CallQ Go.Av.CallF Go.Av.CallR Go.Av.CallH Go.Av.Con
set_option maxHeartbeats 32000000 in
theorem own25_con (l : List Mq) (ho : ∀ m ∈ l, OkM m) (hl : l.length ≤ 1048576) : RConX 25 [.p (.sl 46 (mqs l))] 51 46 (mqs l) := by
  refine wBodyR Try.tab Try.mixed Try.func25 rfl rfl Try.ntmps25 rfl (by simp) (by simp) fun Q hr hn => ?_
  repeat' first | (refine hK _ ?_; clear hK) | (refine hK _ _ ?_; clear hK) | (clear hK; refine hK _ ?_; clear hK) | (clear hK; clear hK; refine hK _ ?_; clear hK) | (clear hK; clear hK; clear hK; refine hK _ ?_; clear hK) | (clear hK; clear hK; clear hK; clear hK; refine hK _ ?_; clear hK) | (refine wSeq fun K hK => ?_) | ((first | refine wReg ?_ | refine wDrwQ rfl (by kernel_rfl) ?_ | refine wDrwI ?_ | refine wDrw (by kernel_rfl) ?_); simp only [List.map_cons, List.map_nil, strip]) | ((first | refine wIs fun K hK => ?_ | refine wOs fun K hK => ?_ | refine wQs fun K hK => ?_ | refine CallK_plain ?_ | refine CallQ_plain ?_ | refine CallR_plain ?_ | refine wCond ?_); simp) | (refine wIn ?_; refine And.intro (by kernel_rfl) ?_; try simp only [thenA_n]) | (first | refine wBlock ?_ | refine wScope ?_) | ((first | refine wRet ?_ | refine wExit ?_ | refine wSkip ?_); try simp) | ((first | refine wLabel ?_ | refine wOn ?_ | refine wQn ?_); try simp only [thenA_n])
  refine wLoopG [.row 3 51 46] (fun N st => ∃ k, k + N = l.length ∧ st.s 3 = .row 3 ∧ st.b 3 = some (.row 51 46 (mqs (l.take k))) ∧ st.s 9 = .p (.sl 46 (mqs l)) ∧ st.s 10 = .p (I l.length) ∧ st.s 11 = .p (I k)) l.length ⟨0, by simp [frzL, gh1, mqs]⟩ fun K N st hL ⟨k, hk, g3, b3, g9, g10, g11⟩ => ?_
  by_cases hlt : k < l.length
  case neg =>
    have hlt' : ¬ (k : Int) < l.length := by omega
    rw [List.take_of_length_le (by omega)] at b3
    repeat' first | (refine hK _ ?_; clear hK) | (refine hK _ _ ?_; clear hK) | (clear hK; refine hK _ ?_; clear hK) | (clear hK; clear hK; refine hK _ ?_; clear hK) | (clear hK; clear hK; clear hK; refine hK _ ?_; clear hK) | (clear hK; clear hK; clear hK; clear hK; refine hK _ ?_; clear hK) | (refine wSeq fun K hK => ?_) | ((first | refine wReg ?_ | refine wDrwQ rfl (by kernel_rfl) ?_ | refine wDrwI ?_ | refine wDrw (by kernel_rfl) ?_); simp only [List.map_cons, List.map_nil, strip]) | ((first | refine wIs fun K hK => ?_ | refine wOs fun K hK => ?_ | refine wQs fun K hK => ?_ | refine CallK_plain ?_ | refine CallQ_plain ?_ | refine CallR_plain ?_ | refine wCond ?_); simp [g3, b3, g9, g10, g11, hlt, hlt']) | (refine wIn ?_; refine And.intro (by kernel_rfl) ?_; try simp only [thenA_n]) | (first | refine wBlock ?_ | refine wScope ?_) | ((first | refine wRet ?_ | refine wExit ?_ | refine wSkip ?_); try simp) | ((first | refine wLabel ?_ | refine wOn ?_ | refine wQn ?_); try simp only [thenA_n])
    all_goals refine hr _ 3 (by simp [g3]) (by simp [b3]) (by omega)
  have hlt' : (k : Int) < l.length := by omega
  have hw := wrapS k _ hlt (by omega)
  have he := mqs_get hlt
  have hok := ho _ (List.getElem_mem hlt)
  have hs : mqs (l.take k) ++ [l[k].cells] = mqs (l.take (k + 1)) := by rw [mqs_snoc, ← List.take_succ_eq_append_getElem hlt]
  have hll : (mqs (l.take k)).length = k := by rw [mqs_len, List.length_take]; omega
  generalize hQ : l[k] = m at *
  generalize hR : mqs (l.take k) = R0 at *
  generalize hR1 : mqs (l.take (k + 1)) = R1 at *
  obtain ⟨hk1, hz⟩ := hok
  generalize hM : m.cells = cs at *
  obtain ⟨m0, m1, m2, m3, m4, m5, m6, m7, m8, m9, m10, m11, m12, m13, m14, m15, m16, m17, m18, m19, m20, m21, m22, m23, m24, m25, m26, m27, m28, m29, m30, m31, m32, m33, m34, m35, m36, m37, m38, m39, m40, m41, m42, m43, m44, m45, rfl, k0, k1, k2, k3, k4, k5, k6, k7, k8, k9, k10, k11⟩ := fMs_sh hk1
  have z14 := z1_len (hz (.sl 2 m14) (by simp))
  have z36 := z1_len (hz (.sl 1 m36) (by simp))
  have z40 := z1_len (hz (.sl 6 m40) (by simp))
  have z42 := z1_len (hz (.sl 4 m42) (by simp))
  have z43 := z1_len (hz (.sl 1 m43) (by simp))
  have z18 := z1_len (hz (.sl 5 m18) (by simp))
  have z19 := z1_len (hz (.sl 1 m19) (by simp))
  have z24 := z1_len (hz (.sl 4 m24) (by simp))
  have z27 := z1_len (hz (.sl 8 m27) (by simp))
  have z35 := z1_len (hz (.sl 11 m35) (by simp))
  obtain ⟨p0, p1⟩ := k8
  obtain ⟨p1, p2⟩ := p1
  obtain ⟨p2, p3⟩ := p2
  change (fl 8 fTx).ok [.sl 8 m27] at p3
  have hto : ∀ r ∈ m27 ++ [[I m28, I m29, I m30, I m31, I m32, I m33, SB m34, .sl 11 m35]], fTx.ok r := fun r hr2 => by
    rcases List.mem_append.1 hr2 with h | h
    · exact (fl_ok p3).2 r h
    · rw [List.mem_singleton] at h; subst h; exact k9
  have htz : ∀ r ∈ m27 ++ [[I m28, I m29, I m30, I m31, I m32, I m33, SB m34, .sl 11 m35]], Zs r := fun r hr2 => by
    rcases List.mem_append.1 hr2 with h | h
    · exact z1_row (hz (.sl 8 m27) (by simp)) h
    · rw [List.mem_singleton] at h; subst h
      intro p hp
      refine hz p ?_
      simp only [List.mem_cons, List.not_mem_nil, or_false] at hp
      rcases hp with rfl | rfl | rfl | rfl | rfl | rfl | rfl | rfl <;> simp
  have cO := own16HR m18 m19 m24 m20 m21 m22 m23 m25 m26 z18 z19 z24 _ hto htz (by simp; omega)
  clear hto htz k0 k1 k2 k3 k4 k5 k6 k7 k9 k10 k11 p0 p1 p2 p3 hz hk1
  obtain ⟨s1, hs1⟩ : ∃ s : Nat, s = m27.length + m35.length := ⟨_, rfl⟩
  have v1 : IntKind.i64.wrap ((m27.length : Int) + (m35.length : Int)) = (s1 : Int) := by rw [wrap_id (by omega) (by omega)]; omega
  obtain ⟨s2, hs2⟩ : ∃ s : Nat, s = s1 + m18.length := ⟨_, rfl⟩
  have v2 : IntKind.i64.wrap ((s1 : Int) + (m18.length : Int)) = (s2 : Int) := by rw [wrap_id (by omega) (by omega)]; omega
  obtain ⟨s3, hs3⟩ : ∃ s : Nat, s = s2 + m19.length := ⟨_, rfl⟩
  have v3 : IntKind.i64.wrap ((s2 : Int) + (m19.length : Int)) = (s3 : Int) := by rw [wrap_id (by omega) (by omega)]; omega
  obtain ⟨s4, hs4⟩ : ∃ s : Nat, s = s3 + m24.length := ⟨_, rfl⟩
  have v4 : IntKind.i64.wrap ((s3 : Int) + (m24.length : Int)) = (s4 : Int) := by rw [wrap_id (by omega) (by omega)]; omega
  by_cases h0 : s4 = 0
  · have h0' := eq_true h0
    repeat' first | (refine And.intro (by (try simp only [hll, List.length_cons, List.length_nil]); omega) (Or.inr ?_)) | (refine And.intro (by (try simp only [hll, List.length_cons, List.length_nil]); omega) ?_) | (refine Or.inr ?_) | (refine hK _ ?_; clear hK) | (refine hK _ _ ?_; clear hK) | (clear hK; refine hK _ ?_; clear hK) | (clear hK; clear hK; refine hK _ ?_; clear hK) | (clear hK; clear hK; clear hK; refine hK _ ?_; clear hK) | (clear hK; clear hK; clear hK; clear hK; refine hK _ ?_; clear hK) | (refine wSeq fun K hK => ?_) | ((first | refine wReg ?_ | refine wDrwQ rfl (by kernel_rfl) ?_ | refine wDrwI ?_ | refine wDrw (by kernel_rfl) ?_); simp only [List.map_cons, List.map_nil, strip]) | ((first | refine wIs fun K hK => ?_ | refine wOs fun K hK => ?_ | refine wQs fun K hK => ?_ | refine CallK_plain ?_ | refine CallQ_plain ?_ | refine CallR_plain ?_ | refine wCond ?_); simp [g3, b3, g9, g10, g11, hlt, hlt', hw, he, hQ, hM, v1, v2, v3, v4, h0']) | (refine wIn ?_; refine And.intro (by kernel_rfl) ?_; try simp only [thenA_n]) | (first | refine wBlock ?_ | refine wScope ?_) | ((first | refine wRet ?_ | refine wExit ?_ | refine wSkip ?_); try simp) | ((first | refine wLabel ?_ | refine wOn ?_ | refine wQn ?_); try simp only [thenA_n])
    refine hL _ (N - 1) (by omega) ⟨k + 1, by omega, ?_⟩
    simp [g3, b3, g9, g10, g11, hw, hs, hR1]
  have h0' := eq_false h0
  have v5 : IntKind.i64.wrap (m27.length : Int) = (m27.length : Int) := wrap_id (by omega) (by omega)
  have v6 : IntKind.i64.wrap ((m27.length : Int) + 1 - 1) = (m27.length : Int) := by rw [wrap_id (by omega) (by omega)]; omega
  have v7 : (m27.length : Int) < (m27.length : Int) + 1 := by omega
  have v8 : (m27.length : Int) ≤ (m27.length : Int) + 1 := by omega
  have v9 : ∀ x : List PV, (m27 ++ [x])[m27.length]? = some x := fun x => by simp
  have u1 : ∀ x : List PV, (m27 ++ [x]).take m27.length = m27 := fun x => by simp
  repeat' first | (refine CallR_rowP 87 cO (by simp) (by simp [nms, nms0, nmsF]) (by simp [argsG, argG, ren0, inN, pos, renCs, renC]) ?_; simp) | (refine And.intro (show m27.length * 88 ≤ 140737488355328 by omega) (Or.inl ?_)) | (refine And.intro (by (try simp only [hll, List.length_cons, List.length_nil]); omega) (Or.inr ?_)) | (refine And.intro (by (try simp only [hll, List.length_append, List.length_cons, List.length_nil]); omega) ?_) | (refine hK _ ?_; clear hK) | (refine hK _ _ ?_; clear hK) | (clear hK; refine hK _ ?_; clear hK) | (clear hK; clear hK; refine hK _ ?_; clear hK) | (clear hK; clear hK; clear hK; refine hK _ ?_; clear hK) | (clear hK; clear hK; clear hK; clear hK; refine hK _ ?_; clear hK) | (refine wSeq fun K hK => ?_) | ((first | refine wReg ?_ | refine wDrwQ rfl (by kernel_rfl) ?_ | refine wDrwI ?_ | refine wDrw (by kernel_rfl) ?_); simp only [List.map_cons, List.map_nil, strip]) | ((first | refine wIs fun K hK => ?_ | refine wOs fun K hK => ?_ | refine wQs fun K hK => ?_ | refine CallK_plain ?_ | refine CallQ_plain ?_ | refine CallR_plain ?_ | refine wCond ?_); simp [g3, b3, g9, g10, g11, hlt, hlt', hw, he, hQ, hM, v1, v2, v3, v4, h0', v5, v6, v7, v8, v9, u1]) | (refine wIn ?_; refine And.intro (by kernel_rfl) ?_; try simp only [thenA_n]) | (first | refine wBlock ?_ | refine wScope ?_) | ((first | refine wRet ?_ | refine wExit ?_ | refine wSkip ?_); try simp) | ((first | refine wLabel ?_ | refine wOn ?_ | refine wQn ?_); try simp only [thenA_n])
  refine hL _ (N - 1) (by omega) ⟨k + 1, by omega, ?_⟩
  simp [g3, b3, g9, g10, g11, hw, hs, hR1]
end Go.Proofs.Ytechjohebkcjiaa
