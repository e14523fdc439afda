/- Texts that the proof needs: LF3. -/
import Derived.Test.YtechjohebkcjiaaP32LinkTakes
/- Messages: far. -/
namespace Go.Proofs.Ytechjohebkcjiaa
set_option linter.unusedSimpArgs false
set_option linter.unusedVariables false
set_option maxRecDepth 8000
open Go Go.Av
attribute [local simp] Try.T1 Try.T2 Try.T3 Try.T4 Try.T5 Try.T9 Try.T12 Try.T15 Try.T16 Try.T17 Try.T21 Try.T22 Try.T23 Try.T24 Try.T25 Try.T27 Try.T29 Try.T30 Try.T31 Try.T32 Try.T33 Try.T35 Try.T37 Try.T38 Try.T40 Try.T41 Try.T42 Try.T44 Try.T45 Try.T47 Try.T49 Try.T51 Try.T53 Try.T54 Try.T55 Try.T56 Try.T57 Try.T58 Try.T59 Try.T60 Try.T61 Try.T62 Try.T63 Try.T64 Try.T66 Try.T67 Try.T68 Try.T69 Try.T70 Try.T72 Try.T74 Try.T76 Try.T77 Try.T78 Try.T79 Try.T80 Try.T81 Try.T82 Try.T83 Try.T84 Try.T85 Try.T87 Try.T88 Try.T89 Try.T90 Try.T91 Try.T92 Try.T93 Try.T94 Try.T96 Try.T97 Try.T98 Try.T99 Try.T100 Try.T101 Try.T102 Try.T103 Try.T104 Try.T105 Try.T106 Try.T107 Try.T108 Try.T109 Try.T110 Try.T111 Try.T113 Try.T114 Try.T115 Try.T116 Try.T117 Try.T118 Try.T119 Try.T120 Try.T121 Try.T122 Try.T123 Try.T124 Try.T125 Try.T126 Try.T127 Try.T128 Try.T129 Try.T130 Try.T133 Try.T136 Try.T137 Try.T140 Try.T141
attribute [local irreducible] Go.Av.CallK Go.Av.CallE Go.Av.CallQ Go.Av.CallF Go.Av.CallR Go.Av.CallH Go.Av.Con
set_option maxHeartbeats 32000000 in
theorem far25_con (rows : List (List PV)) (ho : ∀ r ∈ rows, fMs.ok r) (hz : ∀ r ∈ rows, Zs r) (hlen : rows.length ≤ 1048576) : ∃ D : Bool, ACon Try.prog 6 [.p (.sl 46 rows)] (.p (B D)) ∧ (D = false → Pass rows) := by
  suffices hall : ∀ D : Bool, (D = true ↔ farP rows) → ACon Try.prog 6 [.p (.sl 46 rows)] (.p (B D)) by
    by_cases h : farP rows
    · exact ⟨true, hall true (by simp [h]), fun h => by cases h⟩
    · exact ⟨false, hall false (by simp [h]), fun _ => pass_of h⟩
  intro D hD
  by_cases h300 : 300 < rows.length
  · have h300' := eq_true (show (300 : Int) < (rows.length : Int) by omega)
    rw [hD.2 (.inl h300)]
    refine wBody Try.tab Try.mixed Try.func6 rfl rfl Try.ntmps6 (by simp) (by simp) fun Q hr hn => ?_
    repeat' first | (refine hK _ ?_; clear hK) | (refine hK _ _ ?_; clear hK) | (clear hK; refine hK _ ?_; clear hK) | (clear hK; clear hK; refine hK _ ?_; clear hK) | (clear hK; clear hK; clear hK; refine hK _ ?_; clear hK) | (clear hK; clear hK; clear hK; clear hK; refine hK _ ?_; clear hK) | (refine wSeq fun K hK => ?_) | ((first | refine wReg ?_ | refine wDrwQ rfl (by kernel_rfl) ?_ | refine wDrwI ?_ | refine wDrw (by kernel_rfl) ?_); simp only [List.map_cons, List.map_nil, strip]) | ((first | refine wIs fun K hK => ?_ | refine wOs fun K hK => ?_ | refine wQs fun K hK => ?_ | refine CallK_plain ?_ | refine CallQ_plain ?_ | refine CallR_plain ?_ | refine wCond ?_); simp [h300']) | (refine wIn ?_; refine And.intro (by kernel_rfl) ?_; try simp only [thenA_n]) | (first | refine wBlock ?_ | refine wScope ?_) | ((first | refine wRet ?_ | refine wExit ?_ | refine wSkip ?_); try simp) | ((first | refine wLabel ?_ | refine wOn ?_ | refine wQn ?_); try simp only [thenA_n])
    all_goals apply hr
    all_goals simp [Try.f6]
  have h300' := eq_false (show ¬ (300 : Int) < (rows.length : Int) by omega)
  have hbad : (∃ r ∈ rows, ¬ Ok5 r) → D = true := fun h => hD.2 (.inr (.inl h))
  refine wBody Try.tab Try.mixed Try.func6 rfl rfl Try.ntmps6 (by simp) (by simp) fun Q hr hn => ?_
  repeat' first | (refine hK _ ?_; clear hK) | (refine hK _ _ ?_; clear hK) | (clear hK; refine hK _ ?_; clear hK) | (clear hK; clear hK; refine hK _ ?_; clear hK) | (clear hK; clear hK; clear hK; refine hK _ ?_; clear hK) | (clear hK; clear hK; clear hK; clear hK; refine hK _ ?_; clear hK) | (refine wSeq fun K hK => ?_) | ((first | refine wReg ?_ | refine wDrwQ rfl (by kernel_rfl) ?_ | refine wDrwI ?_ | refine wDrw (by kernel_rfl) ?_); simp only [List.map_cons, List.map_nil, strip]) | ((first | refine wIs fun K hK => ?_ | refine wOs fun K hK => ?_ | refine wQs fun K hK => ?_ | refine CallK_plain ?_ | refine CallQ_plain ?_ | refine CallR_plain ?_ | refine wCond ?_); simp [h300']) | (refine wIn ?_; refine And.intro (by kernel_rfl) ?_; try simp only [thenA_n]) | (first | refine wBlock ?_ | refine wScope ?_) | ((first | refine wRet ?_ | refine wExit ?_ | refine wSkip ?_); try simp) | ((first | refine wLabel ?_ | refine wOn ?_ | refine wQn ?_); try simp only [thenA_n])
  refine wLoop (fun N st => ∃ i n, i + N = rows.length ∧ n = ((rows.take i).map w5Ms).sum ∧ n ≤ i * 100000000000 ∧ (∀ r ∈ rows.take i, Ok5 r) ∧ st.s 0 = .p (.sl 46 rows) ∧ st.s 3 = .p (I (n : Nat)) ∧ st.s 4 = .p (I i)) rows.length ⟨0, 0, by simp⟩ fun K N st hL ⟨i, n, hi, hn, hnb, hall, g0, g3, g4⟩ => ?_
  by_cases hlt : i < rows.length
  case neg =>
    have hlt' : ¬ (i : Int) < rows.length := by omega
    rw [List.take_of_length_le (by omega)] at hn hall
    have hfp : farP rows ↔ (700 < n ∨ 200 < rows.length) := by
      rw [hn]
      unfold farP
      constructor
      · rintro (h | ⟨r, h1, h2⟩ | h | h)
        · exact absurd h h300
        · exact absurd (hall r h1) h2
        · exact .inl h
        · exact .inr h
      · rintro (h | h)
        · exact .inr (.inr (.inl h))
        · exact .inr (.inr (.inr h))
    rw [hfp] at hD
    clear hfp hn hall hbad
    by_cases h7 : 700 < n
    · have h7' := eq_true (show (700 : Int) < (n : Int) by omega)
      rw [hD.2 (.inl h7)] at hr
      repeat' first | (refine hK _ ?_; clear hK) | (refine hK _ _ ?_; clear hK) | (clear hK; refine hK _ ?_; clear hK) | (clear hK; clear hK; refine hK _ ?_; clear hK) | (clear hK; clear hK; clear hK; refine hK _ ?_; clear hK) | (clear hK; clear hK; clear hK; clear hK; refine hK _ ?_; clear hK) | (refine wSeq fun K hK => ?_) | ((first | refine wReg ?_ | refine wDrwQ rfl (by kernel_rfl) ?_ | refine wDrwI ?_ | refine wDrw (by kernel_rfl) ?_); simp only [List.map_cons, List.map_nil, strip]) | ((first | refine wIs fun K hK => ?_ | refine wOs fun K hK => ?_ | refine wQs fun K hK => ?_ | refine CallK_plain ?_ | refine CallQ_plain ?_ | refine CallR_plain ?_ | refine wCond ?_); simp [g0, g3, g4, hlt, hlt', h7']) | (refine wIn ?_; refine And.intro (by kernel_rfl) ?_; try simp only [thenA_n]) | (first | refine wBlock ?_ | refine wScope ?_) | ((first | refine wRet ?_ | refine wExit ?_ | refine wSkip ?_); try simp) | ((first | refine wLabel ?_ | refine wOn ?_ | refine wQn ?_); try simp only [thenA_n])
      all_goals apply hr
      all_goals simp [Try.f6]
    have h7' := eq_false (show ¬ (700 : Int) < (n : Int) by omega)
    by_cases h2 : 200 < rows.length
    · have h2' := eq_true (show (200 : Int) < (rows.length : Int) by omega)
      rw [hD.2 (.inr h2)] at hr
      repeat' first | (refine hK _ ?_; clear hK) | (refine hK _ _ ?_; clear hK) | (clear hK; refine hK _ ?_; clear hK) | (clear hK; clear hK; refine hK _ ?_; clear hK) | (clear hK; clear hK; clear hK; refine hK _ ?_; clear hK) | (clear hK; clear hK; clear hK; clear hK; refine hK _ ?_; clear hK) | (refine wSeq fun K hK => ?_) | ((first | refine wReg ?_ | refine wDrwQ rfl (by kernel_rfl) ?_ | refine wDrwI ?_ | refine wDrw (by kernel_rfl) ?_); simp only [List.map_cons, List.map_nil, strip]) | ((first | refine wIs fun K hK => ?_ | refine wOs fun K hK => ?_ | refine wQs fun K hK => ?_ | refine CallK_plain ?_ | refine CallQ_plain ?_ | refine CallR_plain ?_ | refine wCond ?_); simp [g0, g3, g4, hlt, hlt', h7', h2']) | (refine wIn ?_; refine And.intro (by kernel_rfl) ?_; try simp only [thenA_n]) | (first | refine wBlock ?_ | refine wScope ?_) | ((first | refine wRet ?_ | refine wExit ?_ | refine wSkip ?_); try simp) | ((first | refine wLabel ?_ | refine wOn ?_ | refine wQn ?_); try simp only [thenA_n])
      all_goals apply hr
      all_goals simp [Try.f6]
    · have h2' := eq_false (show ¬ (200 : Int) < (rows.length : Int) by omega)
      rw [show D = false from Bool.eq_false_iff.2 fun h => (hD.1 h).elim h7 h2] at hr
      repeat' first | (refine hK _ ?_; clear hK) | (refine hK _ _ ?_; clear hK) | (clear hK; refine hK _ ?_; clear hK) | (clear hK; clear hK; refine hK _ ?_; clear hK) | (clear hK; clear hK; clear hK; refine hK _ ?_; clear hK) | (clear hK; clear hK; clear hK; clear hK; refine hK _ ?_; clear hK) | (refine wSeq fun K hK => ?_) | ((first | refine wReg ?_ | refine wDrwQ rfl (by kernel_rfl) ?_ | refine wDrwI ?_ | refine wDrw (by kernel_rfl) ?_); simp only [List.map_cons, List.map_nil, strip]) | ((first | refine wIs fun K hK => ?_ | refine wOs fun K hK => ?_ | refine wQs fun K hK => ?_ | refine CallK_plain ?_ | refine CallQ_plain ?_ | refine CallR_plain ?_ | refine wCond ?_); simp [g0, g3, g4, hlt, hlt', h7', h2']) | (refine wIn ?_; refine And.intro (by kernel_rfl) ?_; try simp only [thenA_n]) | (first | refine wBlock ?_ | refine wScope ?_) | ((first | refine wRet ?_ | refine wExit ?_ | refine wSkip ?_); try simp) | ((first | refine wLabel ?_ | refine wOn ?_ | refine wQn ?_); try simp only [thenA_n])
      all_goals apply hr
      all_goals simp [Try.f6]
  have hlt' : (i : Int) < rows.length := by omega
  have hw := wrapS i _ hlt (by omega)
  have he : rows[i]? = some rows[i] := List.getElem?_eq_getElem hlt
  have hsn := sum_snoc w5Ms hlt
  have hmem := List.getElem_mem hlt
  have hok := ho _ hmem
  have hzz := hz _ hmem
  have htk : rows.take (i + 1) = rows.take i ++ [rows[i]] := List.take_succ_eq_append_getElem hlt
  generalize hQ : rows[i] = r at *
  have hbr : ¬ Ok5 r → D = true := fun h => hbad ⟨r, hmem, h⟩
  have h46 := fMs_L.len _ hok
  rw [fMs_n] at h46
  obtain ⟨mk, lg, ns, ss, cm, ma, ps, tc, os, pm, dl, q14, q27, q18, q19, q24, q34, q35, q36, q40, q42, q43, o35, o27, o18, o40⟩ : ∃ mk lg ns ss cm ma ps tc os pm dl, r[14]? = some (.sl 2 mk) ∧ r[27]? = some (.sl 8 lg) ∧ r[18]? = some (.sl 5 ns) ∧ r[19]? = some (.sl 1 ss) ∧ r[24]? = some (.sl 4 cm) ∧ r[34]? = some (SB ma) ∧ r[35]? = some (.sl 11 ps) ∧ r[36]? = some (.sl 1 tc) ∧ r[40]? = some (.sl 6 os) ∧ r[42]? = some (.sl 4 pm) ∧ r[43]? = some (.sl 1 dl) ∧ (∀ q ∈ ps, fPt.ok q) ∧ (∀ q ∈ lg, fTx.ok q) ∧ (∀ q ∈ ns, fNd.ok q) ∧ (∀ q ∈ os, fOp.ok q) := by
    obtain ⟨m0, m1, m2, m3, m4, m5, m6, m7, m8, m9, m10, m11, m12, m13, m14, m15, m16, m17, m18, m19, m20, m21, m22, m23, m24, m25, m26, m27, m28, m29, m30, m31, m32, m33, m34, m35, m36, m37, m38, m39, m40, m41, m42, m43, m44, m45, hx, k0, k1, k2, k3, k4, k5, k6, k7, k8, k9, k10, k11⟩ := fMs_sh hok
    obtain ⟨p0, p1⟩ := k8
    obtain ⟨p1, p2⟩ := p1
    obtain ⟨p2, p3⟩ := p2
    change (fl 8 fTx).ok [.sl 8 m27] at p3
    obtain ⟨s1, s2⟩ := p2
    change (fl 5 fNd).ok [.sl 5 m18] at s1
    obtain ⟨_, _, _, _, _, _, _, _, hy, -, -, -, -, -, -, t7⟩ := fTx_sh k9
    simp only [List.cons.injEq, PV.sl.injEq, true_and] at hy
    obtain ⟨_, _, _, _, _, _, _, _, _, hv, -, -, -, t3, -⟩ := fRq_sh k11
    simp only [List.cons.injEq, PV.sl.injEq, true_and] at hv
    refine ⟨m14, m27, m18, m19, m24, m34, m35, m36, m40, m42, m43, by rw [hx]; rfl, by rw [hx]; rfl, by rw [hx]; rfl, by rw [hx]; rfl, by rw [hx]; rfl, by rw [hx]; rfl, by rw [hx]; rfl, by rw [hx]; rfl, by rw [hx]; rfl, by rw [hx]; rfl, by rw [hx]; rfl, ?_, (fl_ok p3).2, (fl_ok s1).2, ?_⟩
    · rw [hy.2.2.2.2.2.2.2.1]; exact (fl_ok t7).2
    · rw [hv.2.2.2.1]; exact (fl_ok t3).2
  have zz : ∀ {j : Nat} {p : PV}, r[j]? = some p → Z1 p := fun {j : Nat} {p : PV} (h : r[j]? = some p) => hzz p (List.mem_of_getElem? h)
  have z14 := z1_len (zz q14)
  have z27 := z1_len (zz q27)
  have z18 := z1_len (zz q18)
  have z19 := z1_len (zz q19)
  have z24 := z1_len (zz q24)
  have z34 := z1_str (zz q34)
  have z35 := z1_len (zz q35)
  have z36 := z1_len (zz q36)
  have z40 := z1_len (zz q40)
  have z42 := z1_len (zz q42)
  have z43 := z1_len (zz q43)
  have hW : w5Ms r = (1 + mk.length + tc.length + lg.length + ns.length + ss.length + cm.length + ps.length + os.length + pm.length + dl.length + ma.length / 20) + (ps.map w5Pt).sum + (lg.map w5Tx).sum + (ns.map w5Nd).sum + (os.map w5Op).sum := by
    unfold w5Ms w5Hd
    rw [at_of q14, at_of q27, at_of q18, at_of q19, at_of q24, at_of q34, at_of q35, at_of q36, at_of q40, at_of q42, at_of q43]
    simp only [lenP_SB, lenP_sl, rowsP_sl]
  have hOk : Ok5 r ↔ (ps.length ≤ 50 ∧ lg.length ≤ 50 ∧ (∀ t ∈ lg, lenP (at' t 7) ≤ 50) ∧ ns.length ≤ 100 ∧ os.length ≤ 50) := by
    constructor
    · rintro ⟨a, b, c, d, e⟩
      rw [at_of q35] at a; rw [at_of q27] at b c; rw [at_of q18] at d; rw [at_of q40] at e
      exact ⟨a, b, c, d, e⟩
    · rintro ⟨a, b, c, d, e⟩
      exact ⟨by rw [at_of q35]; exact a, by rw [at_of q27]; exact b, by rw [at_of q27]; exact c, by rw [at_of q18]; exact d, by rw [at_of q40]; exact e⟩
  have gg := fun {j : Nat} {p : PV} (h : r[j]? = some p) => (fun hh => by rw [List.getElem?_eq_getElem hh] at h; exact Option.some.inj h : ∀ hh, r[j]'hh = p)
  have r14 := gg q14
  have r27 := gg q27
  have r18 := gg q18
  have r19 := gg q19
  have r24 := gg q24
  have r34 := gg q34
  have r35 := gg q35
  have r36 := gg q36
  have r40 := gg q40
  have r42 := gg q42
  have r43 := gg q43
  have ht46 : r.take 46 = r := List.take_of_length_le (by omega)
  have ht46v : (r.map V.p).take 46 = r.map V.p := List.take_of_length_le (by simp; omega)
  obtain ⟨a1, e1⟩ : ∃ a : Nat, a = 1 + mk.length := ⟨_, rfl⟩
  have v1 : IntKind.i64.wrap (1 + (mk.length : Int)) = (a1 : Int) := by rw [wrap_id (by omega) (by omega)]; omega
  obtain ⟨a2, e2⟩ : ∃ a : Nat, a = a1 + tc.length := ⟨_, rfl⟩
  have v2 : IntKind.i64.wrap ((a1 : Int) + (tc.length : Int)) = (a2 : Int) := by rw [wrap_id (by omega) (by omega)]; omega
  obtain ⟨a3, e3⟩ : ∃ a : Nat, a = a2 + lg.length := ⟨_, rfl⟩
  have v3 : IntKind.i64.wrap ((a2 : Int) + (lg.length : Int)) = (a3 : Int) := by rw [wrap_id (by omega) (by omega)]; omega
  obtain ⟨a4, e4⟩ : ∃ a : Nat, a = a3 + ns.length := ⟨_, rfl⟩
  have v4 : IntKind.i64.wrap ((a3 : Int) + (ns.length : Int)) = (a4 : Int) := by rw [wrap_id (by omega) (by omega)]; omega
  obtain ⟨a5, e5⟩ : ∃ a : Nat, a = a4 + ss.length := ⟨_, rfl⟩
  have v5 : IntKind.i64.wrap ((a4 : Int) + (ss.length : Int)) = (a5 : Int) := by rw [wrap_id (by omega) (by omega)]; omega
  obtain ⟨a6, e6⟩ : ∃ a : Nat, a = a5 + cm.length := ⟨_, rfl⟩
  have v6 : IntKind.i64.wrap ((a5 : Int) + (cm.length : Int)) = (a6 : Int) := by rw [wrap_id (by omega) (by omega)]; omega
  obtain ⟨a7, e7⟩ : ∃ a : Nat, a = a6 + ps.length := ⟨_, rfl⟩
  have v7 : IntKind.i64.wrap ((a6 : Int) + (ps.length : Int)) = (a7 : Int) := by rw [wrap_id (by omega) (by omega)]; omega
  obtain ⟨a8, e8⟩ : ∃ a : Nat, a = a7 + os.length := ⟨_, rfl⟩
  have v8 : IntKind.i64.wrap ((a7 : Int) + (os.length : Int)) = (a8 : Int) := by rw [wrap_id (by omega) (by omega)]; omega
  obtain ⟨a9, e9⟩ : ∃ a : Nat, a = a8 + pm.length := ⟨_, rfl⟩
  have v9 : IntKind.i64.wrap ((a8 : Int) + (pm.length : Int)) = (a9 : Int) := by rw [wrap_id (by omega) (by omega)]; omega
  obtain ⟨b1, f1⟩ : ∃ a : Nat, a = a9 + dl.length := ⟨_, rfl⟩
  have u1 : IntKind.i64.wrap ((a9 : Int) + (dl.length : Int)) = (b1 : Int) := by rw [wrap_id (by omega) (by omega)]; omega
  obtain ⟨b2, f2⟩ : ∃ a : Nat, a = ma.length / 20 := ⟨_, rfl⟩
  have u2 : IntKind.i64.wrap ((ma.length : Int) / 20) = (b2 : Int) := by rw [wrap_id (by omega) (by omega)]; omega
  obtain ⟨b3, f3⟩ : ∃ a : Nat, a = b1 + b2 := ⟨_, rfl⟩
  have u3 : IntKind.i64.wrap ((b1 : Int) + (b2 : Int)) = (b3 : Int) := by rw [wrap_id (by omega) (by omega)]; omega
  obtain ⟨n1, f4⟩ : ∃ a : Nat, a = n + b3 := ⟨_, rfl⟩
  have u4 : IntKind.i64.wrap ((n : Int) + (b3 : Int)) = (n1 : Int) := by rw [wrap_id (by omega) (by omega)]; omega
  by_cases h35 : ps.length ≤ 50
  case neg =>
    have h35' := eq_true (show (50 : Int) < (ps.length : Int) by omega)
    rw [hbr (fun h => h35 (hOk.1 h).1)] at hr
    repeat' first | (refine hK _ ?_; clear hK) | (refine hK _ _ ?_; clear hK) | (clear hK; refine hK _ ?_; clear hK) | (clear hK; clear hK; refine hK _ ?_; clear hK) | (clear hK; clear hK; clear hK; refine hK _ ?_; clear hK) | (clear hK; clear hK; clear hK; clear hK; refine hK _ ?_; clear hK) | (refine wSeq fun K hK => ?_) | ((first | refine wReg ?_ | refine wDrwQ rfl (by kernel_rfl) ?_ | refine wDrwI ?_ | refine wDrw (by kernel_rfl) ?_); simp only [List.map_cons, List.map_nil, strip]) | ((first | refine wIs fun K hK => ?_ | refine wOs fun K hK => ?_ | refine wQs fun K hK => ?_ | refine CallK_plain ?_ | refine CallQ_plain ?_ | refine CallR_plain ?_ | refine wCond ?_); simp [g0, g3, g4, hlt, hlt', he, hQ, h46, q14, q27, q18, q19, q24, q34, q35, q36, q40, q42, q43, r14, r27, r18, r19, r24, r34, r35, r36, r40, r42, r43, ht46, ht46v, v1, v2, v3, v4, v5, v6, v7, v8, v9, u1, u2, u3, u4, h35']) | (refine wIn ?_; refine And.intro (by kernel_rfl) ?_; try simp only [thenA_n]) | (first | refine wBlock ?_ | refine wScope ?_) | ((first | refine wRet ?_ | refine wExit ?_ | refine wSkip ?_); try simp) | ((first | refine wLabel ?_ | refine wOn ?_ | refine wQn ?_); try simp only [thenA_n])
    all_goals apply hr
    all_goals simp [Try.f6]
  have h35' := eq_false (show ¬ (50 : Int) < (ps.length : Int) by omega)
  repeat' first | (refine hK _ ?_; clear hK) | (refine hK _ _ ?_; clear hK) | (clear hK; refine hK _ ?_; clear hK) | (clear hK; clear hK; refine hK _ ?_; clear hK) | (clear hK; clear hK; clear hK; refine hK _ ?_; clear hK) | (clear hK; clear hK; clear hK; clear hK; refine hK _ ?_; clear hK) | (refine wSeq fun K hK => ?_) | ((first | refine wReg ?_ | refine wDrwQ rfl (by kernel_rfl) ?_ | refine wDrwI ?_ | refine wDrw (by kernel_rfl) ?_); simp only [List.map_cons, List.map_nil, strip]) | ((first | refine wIs fun K hK => ?_ | refine wOs fun K hK => ?_ | refine wQs fun K hK => ?_ | refine CallK_plain ?_ | refine CallQ_plain ?_ | refine CallR_plain ?_ | refine wCond ?_); simp [g0, g3, g4, hlt, hlt', he, hQ, h46, q14, q27, q18, q19, q24, q34, q35, q36, q40, q42, q43, r14, r27, r18, r19, r24, r34, r35, r36, r40, r42, r43, ht46, ht46v, v1, v2, v3, v4, v5, v6, v7, v8, v9, u1, u2, u3, u4, h35']) | (refine wIn ?_; refine And.intro (by kernel_rfl) ?_; try simp only [thenA_n]) | (first | refine wBlock ?_ | refine wScope ?_) | ((first | refine wRet ?_ | refine wExit ?_ | refine wSkip ?_); try simp) | ((first | refine wLabel ?_ | refine wOn ?_ | refine wQn ?_); try simp only [thenA_n])
  refine farPs rows i r ps n1 (by omega) q35 (by omega) o35 (zz q35) ?_ ⟨?_, ?_, ?_, ?_, ?_⟩ ?_
  rotate_left 1
  any_goals (simp [g0, g3, g4, he, hQ, ht46, ht46v, u4]; done)
  have zz35 := zz q35
  clear g0 g3 g4 he v1 v2 v3 v4 v5 v6 v7 v8 v9 u1 u2 u3 u4 h35' q14 q19 q24 q34 q35 q36 q42 q43 r14 r19 r24 r34 r35 r36 r42 r43 ht46 ht46v
  have s35 : (ps.map w5Pt).sum ≤ 100000000 := by
    have h4 : (ps.map w5Pt).sum ≤ (ps.map fun _ => 2000000).sum := sum_le fun q hq => w5Pt_le (o35 q hq) (z1_row (zz35) hq)
    rw [sum_const] at h4; omega
  obtain ⟨n2, f5⟩ : ∃ a : Nat, a = n1 + (ps.map w5Pt).sum := ⟨_, rfl⟩
  rw [← f5]
  rintro st2 ⟨c0, c3, c4, c5, d5⟩
  simp only [blockA_e, if_true, thenA_n]
  by_cases h27 : lg.length ≤ 50
  case neg =>
    have h27' := eq_true (show (50 : Int) < (lg.length : Int) by omega)
    rw [hbr (fun h => h27 (hOk.1 h).2.1)] at hr
    repeat' first | (refine hK _ ?_; clear hK) | (refine hK _ _ ?_; clear hK) | (clear hK; refine hK _ ?_; clear hK) | (clear hK; clear hK; refine hK _ ?_; clear hK) | (clear hK; clear hK; clear hK; refine hK _ ?_; clear hK) | (clear hK; clear hK; clear hK; clear hK; refine hK _ ?_; clear hK) | (refine wSeq fun K hK => ?_) | ((first | refine wReg ?_ | refine wDrwQ rfl (by kernel_rfl) ?_ | refine wDrwI ?_ | refine wDrw (by kernel_rfl) ?_); simp only [List.map_cons, List.map_nil, strip]) | ((first | refine wIs fun K hK => ?_ | refine wOs fun K hK => ?_ | refine wQs fun K hK => ?_ | refine CallK_plain ?_ | refine CallQ_plain ?_ | refine CallR_plain ?_ | refine wCond ?_); simp [c0, c3, c4, c5, d5, hlt, hlt', hw, q27, q18, q40, r27, r18, r40, h46, h27']) | (refine wIn ?_; refine And.intro (by kernel_rfl) ?_; try simp only [thenA_n]) | (first | refine wBlock ?_ | refine wScope ?_) | ((first | refine wRet ?_ | refine wExit ?_ | refine wSkip ?_); try simp) | ((first | refine wLabel ?_ | refine wOn ?_ | refine wQn ?_); try simp only [thenA_n])
    all_goals apply hr
    all_goals simp [Try.f6]
  have h27' := eq_false (show ¬ (50 : Int) < (lg.length : Int) by omega)
  repeat' first | (refine hK _ ?_; clear hK) | (refine hK _ _ ?_; clear hK) | (clear hK; refine hK _ ?_; clear hK) | (clear hK; clear hK; refine hK _ ?_; clear hK) | (clear hK; clear hK; clear hK; refine hK _ ?_; clear hK) | (clear hK; clear hK; clear hK; clear hK; refine hK _ ?_; clear hK) | (refine wSeq fun K hK => ?_) | ((first | refine wReg ?_ | refine wDrwQ rfl (by kernel_rfl) ?_ | refine wDrwI ?_ | refine wDrw (by kernel_rfl) ?_); simp only [List.map_cons, List.map_nil, strip]) | ((first | refine wIs fun K hK => ?_ | refine wOs fun K hK => ?_ | refine wQs fun K hK => ?_ | refine CallK_plain ?_ | refine CallQ_plain ?_ | refine CallR_plain ?_ | refine wCond ?_); simp [c0, c3, c4, c5, d5, hlt, hlt', hw, q27, q18, q40, r27, r18, r40, h46, h27']) | (refine wIn ?_; refine And.intro (by kernel_rfl) ?_; try simp only [thenA_n]) | (first | refine wBlock ?_ | refine wScope ?_) | ((first | refine wRet ?_ | refine wExit ?_ | refine wSkip ?_); try simp) | ((first | refine wLabel ?_ | refine wOn ?_ | refine wQn ?_); try simp only [thenA_n])
  refine farLg rows i r lg n2 (by omega) q27 (by omega) o27 (zz q27) hmem ?_ ?_ ⟨?_, ?_, ?_, ?_, ?_⟩ ?_
  rotate_left 2
  any_goals (simp [c0, c3, c4, c5, d5]; done)
  rotate_left 1
  · intro st3 hno h2
    rw [hbr (fun h => hno (hOk.1 h).2.2.1)] at hr
    apply hr
    simp [Try.f6, h2]
  clear c0 c3 c4 c5 d5
  rintro st3 ⟨c0, c3, c4, c5, d5⟩ hall27
  simp only [blockA_e, if_true, thenA_n]
  have s27 : (lg.map w5Tx).sum ≤ 10000000000 := by
    have h4 : (lg.map w5Tx).sum ≤ (lg.map fun _ => 200000000).sum := sum_le fun q hq => w5Tx_le (o27 q hq) (z1_row (zz q27) hq) (hall27 q hq)
    rw [sum_const] at h4; omega
  obtain ⟨n3, f6⟩ : ∃ a : Nat, a = n2 + (lg.map w5Tx).sum := ⟨_, rfl⟩
  rw [← f6] at c3
  by_cases h18 : ns.length ≤ 100
  case neg =>
    have h18' := eq_true (show (100 : Int) < (ns.length : Int) by omega)
    rw [hbr (fun h => h18 (hOk.1 h).2.2.2.1)] at hr
    repeat' first | (refine hK _ ?_; clear hK) | (refine hK _ _ ?_; clear hK) | (clear hK; refine hK _ ?_; clear hK) | (clear hK; clear hK; refine hK _ ?_; clear hK) | (clear hK; clear hK; clear hK; refine hK _ ?_; clear hK) | (clear hK; clear hK; clear hK; clear hK; refine hK _ ?_; clear hK) | (refine wSeq fun K hK => ?_) | ((first | refine wReg ?_ | refine wDrwQ rfl (by kernel_rfl) ?_ | refine wDrwI ?_ | refine wDrw (by kernel_rfl) ?_); simp only [List.map_cons, List.map_nil, strip]) | ((first | refine wIs fun K hK => ?_ | refine wOs fun K hK => ?_ | refine wQs fun K hK => ?_ | refine CallK_plain ?_ | refine CallQ_plain ?_ | refine CallR_plain ?_ | refine wCond ?_); simp [c0, c3, c4, c5, d5, hlt, hlt', hw, q27, q18, q40, r27, r18, r40, h46, h18']) | (refine wIn ?_; refine And.intro (by kernel_rfl) ?_; try simp only [thenA_n]) | (first | refine wBlock ?_ | refine wScope ?_) | ((first | refine wRet ?_ | refine wExit ?_ | refine wSkip ?_); try simp) | ((first | refine wLabel ?_ | refine wOn ?_ | refine wQn ?_); try simp only [thenA_n])
    all_goals apply hr
    all_goals simp [Try.f6]
  have h18' := eq_false (show ¬ (100 : Int) < (ns.length : Int) by omega)
  repeat' first | (refine hK _ ?_; clear hK) | (refine hK _ _ ?_; clear hK) | (clear hK; refine hK _ ?_; clear hK) | (clear hK; clear hK; refine hK _ ?_; clear hK) | (clear hK; clear hK; clear hK; refine hK _ ?_; clear hK) | (clear hK; clear hK; clear hK; clear hK; refine hK _ ?_; clear hK) | (refine wSeq fun K hK => ?_) | ((first | refine wReg ?_ | refine wDrwQ rfl (by kernel_rfl) ?_ | refine wDrwI ?_ | refine wDrw (by kernel_rfl) ?_); simp only [List.map_cons, List.map_nil, strip]) | ((first | refine wIs fun K hK => ?_ | refine wOs fun K hK => ?_ | refine wQs fun K hK => ?_ | refine CallK_plain ?_ | refine CallQ_plain ?_ | refine CallR_plain ?_ | refine wCond ?_); simp [c0, c3, c4, c5, d5, hlt, hlt', hw, q27, q18, q40, r27, r18, r40, h46, h18']) | (refine wIn ?_; refine And.intro (by kernel_rfl) ?_; try simp only [thenA_n]) | (first | refine wBlock ?_ | refine wScope ?_) | ((first | refine wRet ?_ | refine wExit ?_ | refine wSkip ?_); try simp) | ((first | refine wLabel ?_ | refine wOn ?_ | refine wQn ?_); try simp only [thenA_n])
  refine farNs rows i r ns n3 (by omega) q18 (by omega) o18 (zz q18) ?_ ⟨?_, ?_, ?_, ?_, ?_⟩ ?_
  rotate_left 1
  any_goals (simp [c0, c3, c4, c5, d5]; done)
  clear c0 c3 c4 c5 d5
  rintro st4 ⟨c0, c3, c4, c5, d5⟩
  simp only [blockA_e, if_true, thenA_n]
  have s18 : (ns.map w5Nd).sum ≤ 20000000 := by
    have h4 : (ns.map w5Nd).sum ≤ (ns.map fun _ => 200000).sum := sum_le fun q hq => by
      have hzq := z1_row (zz q18) hq
      obtain ⟨y0, y1, y2, y3, y4, rfl, -⟩ := fNd_sh (o18 q hq)
      have l2 := z1_str (hzq (SB y0) (by simp))
      have l3 := z1_str (hzq (SB y1) (by simp))
      show (lenP (SB y0) + lenP (SB y1)) / 20 ≤ _
      simp only [lenP_SB]; omega
    rw [sum_const] at h4; omega
  obtain ⟨n4, f7⟩ : ∃ a : Nat, a = n3 + (ns.map w5Nd).sum := ⟨_, rfl⟩
  rw [← f7] at c3
  by_cases h40 : os.length ≤ 50
  case neg =>
    have h40' := eq_true (show (50 : Int) < (os.length : Int) by omega)
    rw [hbr (fun h => h40 (hOk.1 h).2.2.2.2)] at hr
    repeat' first | (refine hK _ ?_; clear hK) | (refine hK _ _ ?_; clear hK) | (clear hK; refine hK _ ?_; clear hK) | (clear hK; clear hK; refine hK _ ?_; clear hK) | (clear hK; clear hK; clear hK; refine hK _ ?_; clear hK) | (clear hK; clear hK; clear hK; clear hK; refine hK _ ?_; clear hK) | (refine wSeq fun K hK => ?_) | ((first | refine wReg ?_ | refine wDrwQ rfl (by kernel_rfl) ?_ | refine wDrwI ?_ | refine wDrw (by kernel_rfl) ?_); simp only [List.map_cons, List.map_nil, strip]) | ((first | refine wIs fun K hK => ?_ | refine wOs fun K hK => ?_ | refine wQs fun K hK => ?_ | refine CallK_plain ?_ | refine CallQ_plain ?_ | refine CallR_plain ?_ | refine wCond ?_); simp [c0, c3, c4, c5, d5, hlt, hlt', hw, q27, q18, q40, r27, r18, r40, h46, h40']) | (refine wIn ?_; refine And.intro (by kernel_rfl) ?_; try simp only [thenA_n]) | (first | refine wBlock ?_ | refine wScope ?_) | ((first | refine wRet ?_ | refine wExit ?_ | refine wSkip ?_); try simp) | ((first | refine wLabel ?_ | refine wOn ?_ | refine wQn ?_); try simp only [thenA_n])
    all_goals apply hr
    all_goals simp [Try.f6]
  have h40' := eq_false (show ¬ (50 : Int) < (os.length : Int) by omega)
  repeat' first | (refine hK _ ?_; clear hK) | (refine hK _ _ ?_; clear hK) | (clear hK; refine hK _ ?_; clear hK) | (clear hK; clear hK; refine hK _ ?_; clear hK) | (clear hK; clear hK; clear hK; refine hK _ ?_; clear hK) | (clear hK; clear hK; clear hK; clear hK; refine hK _ ?_; clear hK) | (refine wSeq fun K hK => ?_) | ((first | refine wReg ?_ | refine wDrwQ rfl (by kernel_rfl) ?_ | refine wDrwI ?_ | refine wDrw (by kernel_rfl) ?_); simp only [List.map_cons, List.map_nil, strip]) | ((first | refine wIs fun K hK => ?_ | refine wOs fun K hK => ?_ | refine wQs fun K hK => ?_ | refine CallK_plain ?_ | refine CallQ_plain ?_ | refine CallR_plain ?_ | refine wCond ?_); simp [c0, c3, c4, c5, d5, hlt, hlt', hw, q27, q18, q40, r27, r18, r40, h46, h40']) | (refine wIn ?_; refine And.intro (by kernel_rfl) ?_; try simp only [thenA_n]) | (first | refine wBlock ?_ | refine wScope ?_) | ((first | refine wRet ?_ | refine wExit ?_ | refine wSkip ?_); try simp) | ((first | refine wLabel ?_ | refine wOn ?_ | refine wQn ?_); try simp only [thenA_n])
  refine farOs rows i r os n4 (by omega) q40 (by omega) o40 (zz q40) ?_ ⟨?_, ?_, ?_, ?_, ?_⟩ ?_
  rotate_left 1
  any_goals (simp [c0, c3, c4, c5, d5]; done)
  clear c0 c3 c4 c5 d5
  rintro st5 ⟨c0, c3, c4, c5, d5⟩
  simp only [blockA_e, if_true, thenA_n]
  have s40 : (os.map w5Op).sum ≤ 20000000 := by
    have h4 : (os.map w5Op).sum ≤ (os.map fun _ => 200000).sum := sum_le fun q hq => by
      have hzq := z1_row (zz q40) hq
      obtain ⟨y0, y1, y2, y3, y4, y5, rfl, -⟩ := fOp_sh (o40 q hq)
      have l2 := z1_str (hzq (SB y1) (by simp))
      have l3 := z1_str (hzq (SB y2) (by simp))
      show (lenP (SB y1) + lenP (SB y2)) / 20 ≤ _
      simp only [lenP_SB]; omega
    rw [sum_const] at h4; omega
  obtain ⟨n5, f8⟩ : ∃ a : Nat, a = n4 + (os.map w5Op).sum := ⟨_, rfl⟩
  rw [← f8] at c3
  have hO5 : Ok5 r := hOk.2 ⟨h35, h27, hall27, h18, h40⟩
  repeat' first | (refine hK _ ?_; clear hK) | (refine hK _ _ ?_; clear hK) | (clear hK; refine hK _ ?_; clear hK) | (clear hK; clear hK; refine hK _ ?_; clear hK) | (clear hK; clear hK; clear hK; refine hK _ ?_; clear hK) | (clear hK; clear hK; clear hK; clear hK; refine hK _ ?_; clear hK) | (refine wSeq fun K hK => ?_) | ((first | refine wReg ?_ | refine wDrwQ rfl (by kernel_rfl) ?_ | refine wDrwI ?_ | refine wDrw (by kernel_rfl) ?_); simp only [List.map_cons, List.map_nil, strip]) | ((first | refine wIs fun K hK => ?_ | refine wOs fun K hK => ?_ | refine wQs fun K hK => ?_ | refine CallK_plain ?_ | refine CallQ_plain ?_ | refine CallR_plain ?_ | refine wCond ?_); simp [c0, c3, c4, c5, d5, hw]) | (refine wIn ?_; refine And.intro (by kernel_rfl) ?_; try simp only [thenA_n]) | (first | refine wBlock ?_ | refine wScope ?_) | ((first | refine wRet ?_ | refine wExit ?_ | refine wSkip ?_); try simp) | ((first | refine wLabel ?_ | refine wOn ?_ | refine wQn ?_); try simp only [thenA_n])
  refine hL _ (N - 1) (by omega) ⟨i + 1, n5, by omega, by rw [hsn, hW]; omega, by omega, fun q hq => ?_, ?_⟩
  · rw [htk] at hq
    rcases List.mem_append.1 hq with h | h
    · exact hall q h
    · rw [List.mem_singleton] at h; subst h; exact hO5
  · simp [c0, c3, c4, hw]
end Go.Proofs.Ytechjohebkcjiaa
