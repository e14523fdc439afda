/- Texts that the proof needs: LF2. -/
import Derived.Test.YtechjohebkcjiaaP31LinkTakes
/- Messages: the loops that weigh them. -/
namespace Go.Proofs.Ytechjohebkcjiaa
set_option linter.unusedSimpArgs false
set_option linter.unusedVariables false
set_option maxRecDepth 8000
open Go Go.Av
attribute [local simp] Try.T1 Try.T2 Try.T3 Try.T4 Try.T5 Try.T9 Try.T12 Try.T15 Try.T16 Try.T17 Try.T21 Try.T22 Try.T23 Try.T24 Try.T25 Try.T27 Try.T29 Try.T30 Try.T31 Try.T32 Try.T33 Try.T35 Try.T37 Try.T38 Try.T40 Try.T41 Try.T42 Try.T44 Try.T45 Try.T47 Try.T49 Try.T51 Try.T53 Try.T54 Try.T55 Try.T56 Try.T57 Try.T58 Try.T59 Try.T60 Try.T61 Try.T62 Try.T63 Try.T64 Try.T66 Try.T67 Try.T68 Try.T69 Try.T70 Try.T72 Try.T74 Try.T76 Try.T77 Try.T78 Try.T79 Try.T80 Try.T81 Try.T82 Try.T83 Try.T84 Try.T85 Try.T87 Try.T88 Try.T89 Try.T90 Try.T91 Try.T92 Try.T93 Try.T94 Try.T96 Try.T97 Try.T98 Try.T99 Try.T100 Try.T101 Try.T102 Try.T103 Try.T104 Try.T105 Try.T106 Try.T107 Try.T108 Try.T109 Try.T110 Try.T111 Try.T113 Try.T114 Try.T115 Try.T116 Try.T117 Try.T118 Try.T119 Try.T120 Try.T121 Try.T122 Try.T123 Try.T124 Try.T125 Try.T126 Try.T127 Try.T128 Try.T129 Try.T130 Try.T133 Try.T136 Try.T137 Try.T140 Try.T141
attribute [local irreducible] Go.Av.CallK Go.Av.CallE Go.Av.CallQ Go.Av.CallF Go.Av.CallR Go.Av.CallH Go.Av.Con
@[simp ↓] theorem dk306 (x : Nat) : 306 / 4096 / x = 0 := by rw [show 306 / 4096 = 0 from rfl, Nat.zero_div]
/-- What stands while a message is weighed. -/
def FB (rows : List (List PV)) (i : Nat) (r : List PV) (n : Nat) (st : St) : Prop :=
  st.s 0 = .p (.sl 46 rows) ∧ st.s 3 = .p (I (n : Nat)) ∧ st.s 4 = .p (I i) ∧ st.s 5 = .ptr 5 0 ∧ st.b 5 = some (.box 51 (r.map V.p))
theorem w5Pt_le {q : List PV} (ho : fPt.ok q) (hz : Zs q) : w5Pt q ≤ 2000000 := by
  obtain ⟨z0, z1, z2, z3, z4, z5, z6, z7, z8, z9, z10, rfl, -⟩ := fPt_sh ho
  have h1 := z1_len (hz (.sl 4 z10) (by simp))
  have h2 := z1_str (hz (SB z1) (by simp))
  have h3 := z1_str (hz (SB z2) (by simp))
  show lenP (.sl 4 z10) + (lenP (SB z1) + lenP (SB z2)) / 20 ≤ _
  simp only [lenP_SB, lenP_sl]; omega
set_option maxHeartbeats 4000000 in
theorem farPs {Q : AExit → St → Prop} {st : St} (rows : List (List PV)) (i : Nat) (r : List PV) (ps : List (List PV)) (n0 : Nat) (hn0 : n0 ≤ 1000000000000000) (hr : r[35]? = some (.sl 11 ps)) (hl : ps.length ≤ 100) (ho : ∀ q ∈ ps, fPt.ok q) (hz : Z1 (.sl 11 ps))
    (hex : ∀ st, FB rows i r (n0 + (ps.map w5Pt).sum) st → Q (.exit 2) st)
    (hF : FB rows i r n0 st) (h6 : st.s 6 = .p (I 0)) : WC Try.prog Try.T 306 (lp Try.f6 1) Q st := by
  obtain ⟨g0, g3, g4, g5, b5⟩ := hF
  have hrl : 35 < r.length := (List.getElem?_eq_some_iff.1 hr).1
  have hrg : ∀ h, r[35]'h = .sl 11 ps := fun h => by rw [List.getElem?_eq_getElem h] at hr; exact Option.some.inj hr
  refine wLoop (fun N st => ∃ j m, j + N = ps.length ∧ m = n0 + ((ps.take j).map w5Pt).sum ∧ m ≤ n0 + j * 2000000 ∧ FB rows i r m st ∧ st.s 6 = .p (I j)) ps.length ⟨0, n0, by omega, by simp, by omega, ⟨g0, g3, g4, g5, b5⟩, h6⟩ fun K N st hL ⟨j, m, hj, hm, hmb, ⟨g0, g3, g4, g5, b5⟩, g6⟩ => ?_
  by_cases hlt : j < ps.length
  case neg =>
    have hlt' : ¬ (j : Int) < ps.length := by omega
    rw [List.take_of_length_le (by omega)] at hm
    subst hm
    repeat' first | (refine hK _ ?_; clear hK) | (refine hK _ _ ?_; clear hK) | (clear hK; refine hK _ ?_; clear hK) | (clear hK; clear hK; refine hK _ ?_; clear hK) | (clear hK; clear hK; clear hK; refine hK _ ?_; clear hK) | (clear hK; clear hK; clear hK; clear hK; refine hK _ ?_; clear hK) | (refine wSeq fun K hK => ?_) | ((first | refine wReg ?_ | refine wDrwQ rfl (by kernel_rfl) ?_ | refine wDrwI ?_ | refine wDrw (by kernel_rfl) ?_); simp only [List.map_cons, List.map_nil, strip]) | ((first | refine wIs fun K hK => ?_ | refine wOs fun K hK => ?_ | refine wQs fun K hK => ?_ | refine CallK_plain ?_ | refine CallQ_plain ?_ | refine CallR_plain ?_ | refine wCond ?_); simp [g0, g3, g4, g5, b5, g6, hr, hrl, hrg, hlt, hlt']) | (refine wIn ?_; refine And.intro (by kernel_rfl) ?_; try simp only [thenA_n]) | (first | refine wBlock ?_ | refine wScope ?_) | ((first | refine wRet ?_ | refine wExit ?_ | refine wSkip ?_); try simp) | ((first | refine wLabel ?_ | refine wOn ?_ | refine wQn ?_); try simp only [thenA_n])
    refine hex _ ⟨?_, ?_, ?_, ?_, ?_⟩
    all_goals simp [g0, g3, g4, g5, b5]
  have hlt' : (j : Int) < ps.length := by omega
  have hw := wrapS j _ hlt (by omega)
  have he : ps[j]? = some ps[j] := List.getElem?_eq_getElem hlt
  have hsj := sum_snoc w5Pt hlt
  have hok := ho _ (List.getElem_mem hlt)
  have hzz := z1_row hz (List.getElem_mem hlt)
  generalize hQ : ps[j] = q at *
  obtain ⟨z0, z1, z2, z3, z4, z5, z6, z7, z8, z9, z10, rfl, -⟩ := fPt_sh hok
  have l1 := z1_len (hzz (.sl 4 z10) (by simp))
  have l2 := z1_str (hzz (SB z1) (by simp))
  have l3 := z1_str (hzz (SB z2) (by simp))
  have hwp : w5Pt [I z0, SB z1, SB z2, I z3, I z4, I z5, I z6, I z7, I z8, I z9, .sl 4 z10] = z10.length + (z1.length + z2.length) / 20 := by
    show lenP (.sl 4 z10) + (lenP (SB z1) + lenP (SB z2)) / 20 = _
    simp only [lenP_SB, lenP_sl]
  rw [hwp] at hsj
  obtain ⟨a30, ha30⟩ : ∃ a30 : Nat, a30 = (z1.length + z2.length) / 20 := ⟨_, rfl⟩
  rw [← ha30] at hsj
  obtain ⟨s12, hs12⟩ : ∃ s12 : Nat, s12 = z1.length + z2.length := ⟨_, rfl⟩
  have v0 : IntKind.i64.wrap ((z1.length : Int) + (z2.length : Int)) = (s12 : Int) := by rw [wrap_id (by omega) (by omega)]; omega
  have v1 : IntKind.i64.wrap ((s12 : Int) / 20) = (a30 : Int) := by rw [wrap_id (by omega) (by omega)]; omega
  obtain ⟨d2, hd2⟩ : ∃ d2 : Nat, d2 = z10.length + a30 := ⟨_, rfl⟩
  have v2 : IntKind.i64.wrap ((z10.length : Int) + (a30 : Int)) = (d2 : Int) := by rw [wrap_id (by omega) (by omega)]; omega
  obtain ⟨m2, hm2⟩ : ∃ m2 : Nat, m2 = m + d2 := ⟨_, rfl⟩
  have v3 : IntKind.i64.wrap ((m : Int) + (d2 : Int)) = (m2 : Int) := by rw [wrap_id (by omega) (by omega)]; omega
  repeat' first | (refine hK _ ?_; clear hK) | (refine hK _ _ ?_; clear hK) | (clear hK; refine hK _ ?_; clear hK) | (clear hK; clear hK; refine hK _ ?_; clear hK) | (clear hK; clear hK; clear hK; refine hK _ ?_; clear hK) | (clear hK; clear hK; clear hK; clear hK; refine hK _ ?_; clear hK) | (refine wSeq fun K hK => ?_) | ((first | refine wReg ?_ | refine wDrwQ rfl (by kernel_rfl) ?_ | refine wDrwI ?_ | refine wDrw (by kernel_rfl) ?_); simp only [List.map_cons, List.map_nil, strip]) | ((first | refine wIs fun K hK => ?_ | refine wOs fun K hK => ?_ | refine wQs fun K hK => ?_ | refine CallK_plain ?_ | refine CallQ_plain ?_ | refine CallR_plain ?_ | refine wCond ?_); simp [g0, g3, g4, g5, b5, g6, hr, hrl, hrg, hlt, hlt', hw, he, hQ, v0, v1, v2, v3]) | (refine wIn ?_; refine And.intro (by kernel_rfl) ?_; try simp only [thenA_n]) | (first | refine wBlock ?_ | refine wScope ?_) | ((first | refine wRet ?_ | refine wExit ?_ | refine wSkip ?_); try simp) | ((first | refine wLabel ?_ | refine wOn ?_ | refine wQn ?_); try simp only [thenA_n])
  refine hL _ (N - 1) (by omega) ⟨j + 1, m2, by omega, by rw [hsj]; omega, by omega, ⟨?_, ?_, ?_, ?_, ?_⟩, ?_⟩
  all_goals simp [g0, g3, g4, g5, b5, g6, hw]
set_option maxHeartbeats 4000000 in
theorem farNs {Q : AExit → St → Prop} {st : St} (rows : List (List PV)) (i : Nat) (r : List PV) (ps : List (List PV)) (n0 : Nat) (hn0 : n0 ≤ 1000000000000000) (hr : r[18]? = some (.sl 5 ps)) (hl : ps.length ≤ 100) (ho : ∀ q ∈ ps, fNd.ok q) (hz : Z1 (.sl 5 ps))
    (hex : ∀ st, FB rows i r (n0 + (ps.map w5Nd).sum) st → Q (.exit 8) st)
    (hF : FB rows i r n0 st) (h6 : st.s 9 = .p (I 0)) : WC Try.prog Try.T 306 (lp Try.f6 4) Q st := by
  obtain ⟨g0, g3, g4, g5, b5⟩ := hF
  have hrl : 18 < r.length := (List.getElem?_eq_some_iff.1 hr).1
  have hrg : ∀ h, r[18]'h = .sl 5 ps := fun h => by rw [List.getElem?_eq_getElem h] at hr; exact Option.some.inj hr
  refine wLoop (fun N st => ∃ j m, j + N = ps.length ∧ m = n0 + ((ps.take j).map w5Nd).sum ∧ m ≤ n0 + j * 2000000 ∧ FB rows i r m st ∧ st.s 9 = .p (I j)) ps.length ⟨0, n0, by omega, by simp, by omega, ⟨g0, g3, g4, g5, b5⟩, h6⟩ fun K N st hL ⟨j, m, hj, hm, hmb, ⟨g0, g3, g4, g5, b5⟩, g6⟩ => ?_
  by_cases hlt : j < ps.length
  case neg =>
    have hlt' : ¬ (j : Int) < ps.length := by omega
    rw [List.take_of_length_le (by omega)] at hm
    subst hm
    repeat' first | (refine hK _ ?_; clear hK) | (refine hK _ _ ?_; clear hK) | (clear hK; refine hK _ ?_; clear hK) | (clear hK; clear hK; refine hK _ ?_; clear hK) | (clear hK; clear hK; clear hK; refine hK _ ?_; clear hK) | (clear hK; clear hK; clear hK; clear hK; refine hK _ ?_; clear hK) | (refine wSeq fun K hK => ?_) | ((first | refine wReg ?_ | refine wDrwQ rfl (by kernel_rfl) ?_ | refine wDrwI ?_ | refine wDrw (by kernel_rfl) ?_); simp only [List.map_cons, List.map_nil, strip]) | ((first | refine wIs fun K hK => ?_ | refine wOs fun K hK => ?_ | refine wQs fun K hK => ?_ | refine CallK_plain ?_ | refine CallQ_plain ?_ | refine CallR_plain ?_ | refine wCond ?_); simp [g0, g3, g4, g5, b5, g6, hr, hrl, hrg, hlt, hlt']) | (refine wIn ?_; refine And.intro (by kernel_rfl) ?_; try simp only [thenA_n]) | (first | refine wBlock ?_ | refine wScope ?_) | ((first | refine wRet ?_ | refine wExit ?_ | refine wSkip ?_); try simp) | ((first | refine wLabel ?_ | refine wOn ?_ | refine wQn ?_); try simp only [thenA_n])
    refine hex _ ⟨?_, ?_, ?_, ?_, ?_⟩
    all_goals simp [g0, g3, g4, g5, b5]
  have hlt' : (j : Int) < ps.length := by omega
  have hw := wrapS j _ hlt (by omega)
  have he : ps[j]? = some ps[j] := List.getElem?_eq_getElem hlt
  have hsj := sum_snoc w5Nd hlt
  have hok := ho _ (List.getElem_mem hlt)
  have hzz := z1_row hz (List.getElem_mem hlt)
  generalize hQ : ps[j] = q at *
  obtain ⟨z0, z1, z2, z3, z4, rfl, -⟩ := fNd_sh hok
  have l2 := z1_str (hzz (SB z0) (by simp))
  have l3 := z1_str (hzz (SB z1) (by simp))
  have hwp : w5Nd [SB z0, SB z1, I z2, I z3, I z4] = (z0.length + z1.length) / 20 := by
    show (lenP (SB z0) + lenP (SB z1)) / 20 = _
    simp only [lenP_SB]
  rw [hwp] at hsj
  obtain ⟨d2, hd2⟩ : ∃ d2 : Nat, d2 = (z0.length + z1.length) / 20 := ⟨_, rfl⟩
  rw [← hd2] at hsj
  obtain ⟨s12, hs12⟩ : ∃ s12 : Nat, s12 = z0.length + z1.length := ⟨_, rfl⟩
  have v0 : IntKind.i64.wrap ((z0.length : Int) + (z1.length : Int)) = (s12 : Int) := by rw [wrap_id (by omega) (by omega)]; omega
  have v1 : IntKind.i64.wrap ((s12 : Int) / 20) = (d2 : Int) := by rw [wrap_id (by omega) (by omega)]; omega
  obtain ⟨m2, hm2⟩ : ∃ m2 : Nat, m2 = m + d2 := ⟨_, rfl⟩
  have v3 : IntKind.i64.wrap ((m : Int) + (d2 : Int)) = (m2 : Int) := by rw [wrap_id (by omega) (by omega)]; omega
  repeat' first | (refine hK _ ?_; clear hK) | (refine hK _ _ ?_; clear hK) | (clear hK; refine hK _ ?_; clear hK) | (clear hK; clear hK; refine hK _ ?_; clear hK) | (clear hK; clear hK; clear hK; refine hK _ ?_; clear hK) | (clear hK; clear hK; clear hK; clear hK; refine hK _ ?_; clear hK) | (refine wSeq fun K hK => ?_) | ((first | refine wReg ?_ | refine wDrwQ rfl (by kernel_rfl) ?_ | refine wDrwI ?_ | refine wDrw (by kernel_rfl) ?_); simp only [List.map_cons, List.map_nil, strip]) | ((first | refine wIs fun K hK => ?_ | refine wOs fun K hK => ?_ | refine wQs fun K hK => ?_ | refine CallK_plain ?_ | refine CallQ_plain ?_ | refine CallR_plain ?_ | refine wCond ?_); simp [g0, g3, g4, g5, b5, g6, hr, hrl, hrg, hlt, hlt', hw, he, hQ, v0, v1, v3]) | (refine wIn ?_; refine And.intro (by kernel_rfl) ?_; try simp only [thenA_n]) | (first | refine wBlock ?_ | refine wScope ?_) | ((first | refine wRet ?_ | refine wExit ?_ | refine wSkip ?_); try simp) | ((first | refine wLabel ?_ | refine wOn ?_ | refine wQn ?_); try simp only [thenA_n])
  refine hL _ (N - 1) (by omega) ⟨j + 1, m2, by omega, by rw [hsj]; omega, by omega, ⟨?_, ?_, ?_, ?_, ?_⟩, ?_⟩
  all_goals simp [g0, g3, g4, g5, b5, g6, hw]
set_option maxHeartbeats 4000000 in
theorem farOs {Q : AExit → St → Prop} {st : St} (rows : List (List PV)) (i : Nat) (r : List PV) (ps : List (List PV)) (n0 : Nat) (hn0 : n0 ≤ 1000000000000000) (hr : r[40]? = some (.sl 6 ps)) (hl : ps.length ≤ 100) (ho : ∀ q ∈ ps, fOp.ok q) (hz : Z1 (.sl 6 ps))
    (hex : ∀ st, FB rows i r (n0 + (ps.map w5Op).sum) st → Q (.exit 10) st)
    (hF : FB rows i r n0 st) (h6 : st.s 10 = .p (I 0)) : WC Try.prog Try.T 306 (lp Try.f6 5) Q st := by
  obtain ⟨g0, g3, g4, g5, b5⟩ := hF
  have hrl : 40 < r.length := (List.getElem?_eq_some_iff.1 hr).1
  have hrg : ∀ h, r[40]'h = .sl 6 ps := fun h => by rw [List.getElem?_eq_getElem h] at hr; exact Option.some.inj hr
  refine wLoop (fun N st => ∃ j m, j + N = ps.length ∧ m = n0 + ((ps.take j).map w5Op).sum ∧ m ≤ n0 + j * 2000000 ∧ FB rows i r m st ∧ st.s 10 = .p (I j)) ps.length ⟨0, n0, by omega, by simp, by omega, ⟨g0, g3, g4, g5, b5⟩, h6⟩ fun K N st hL ⟨j, m, hj, hm, hmb, ⟨g0, g3, g4, g5, b5⟩, g6⟩ => ?_
  by_cases hlt : j < ps.length
  case neg =>
    have hlt' : ¬ (j : Int) < ps.length := by omega
    rw [List.take_of_length_le (by omega)] at hm
    subst hm
    repeat' first | (refine hK _ ?_; clear hK) | (refine hK _ _ ?_; clear hK) | (clear hK; refine hK _ ?_; clear hK) | (clear hK; clear hK; refine hK _ ?_; clear hK) | (clear hK; clear hK; clear hK; refine hK _ ?_; clear hK) | (clear hK; clear hK; clear hK; clear hK; refine hK _ ?_; clear hK) | (refine wSeq fun K hK => ?_) | ((first | refine wReg ?_ | refine wDrwQ rfl (by kernel_rfl) ?_ | refine wDrwI ?_ | refine wDrw (by kernel_rfl) ?_); simp only [List.map_cons, List.map_nil, strip]) | ((first | refine wIs fun K hK => ?_ | refine wOs fun K hK => ?_ | refine wQs fun K hK => ?_ | refine CallK_plain ?_ | refine CallQ_plain ?_ | refine CallR_plain ?_ | refine wCond ?_); simp [g0, g3, g4, g5, b5, g6, hr, hrl, hrg, hlt, hlt']) | (refine wIn ?_; refine And.intro (by kernel_rfl) ?_; try simp only [thenA_n]) | (first | refine wBlock ?_ | refine wScope ?_) | ((first | refine wRet ?_ | refine wExit ?_ | refine wSkip ?_); try simp) | ((first | refine wLabel ?_ | refine wOn ?_ | refine wQn ?_); try simp only [thenA_n])
    refine hex _ ⟨?_, ?_, ?_, ?_, ?_⟩
    all_goals simp [g0, g3, g4, g5, b5]
  have hlt' : (j : Int) < ps.length := by omega
  have hw := wrapS j _ hlt (by omega)
  have he : ps[j]? = some ps[j] := List.getElem?_eq_getElem hlt
  have hsj := sum_snoc w5Op hlt
  have hok := ho _ (List.getElem_mem hlt)
  have hzz := z1_row hz (List.getElem_mem hlt)
  generalize hQ : ps[j] = q at *
  obtain ⟨z0, z1, z2, z3, z4, z5, rfl, -⟩ := fOp_sh hok
  have l2 := z1_str (hzz (SB z1) (by simp))
  have l3 := z1_str (hzz (SB z2) (by simp))
  have hwp : w5Op [I z0, SB z1, SB z2, I z3, B z4, B z5] = (z1.length + z2.length) / 20 := by
    show (lenP (SB z1) + lenP (SB z2)) / 20 = _
    simp only [lenP_SB]
  rw [hwp] at hsj
  obtain ⟨d2, hd2⟩ : ∃ d2 : Nat, d2 = (z1.length + z2.length) / 20 := ⟨_, rfl⟩
  rw [← hd2] at hsj
  obtain ⟨s12, hs12⟩ : ∃ s12 : Nat, s12 = z1.length + z2.length := ⟨_, rfl⟩
  have v0 : IntKind.i64.wrap ((z1.length : Int) + (z2.length : Int)) = (s12 : Int) := by rw [wrap_id (by omega) (by omega)]; omega
  have v1 : IntKind.i64.wrap ((s12 : Int) / 20) = (d2 : Int) := by rw [wrap_id (by omega) (by omega)]; omega
  obtain ⟨m2, hm2⟩ : ∃ m2 : Nat, m2 = m + d2 := ⟨_, rfl⟩
  have v3 : IntKind.i64.wrap ((m : Int) + (d2 : Int)) = (m2 : Int) := by rw [wrap_id (by omega) (by omega)]; omega
  repeat' first | (refine hK _ ?_; clear hK) | (refine hK _ _ ?_; clear hK) | (clear hK; refine hK _ ?_; clear hK) | (clear hK; clear hK; refine hK _ ?_; clear hK) | (clear hK; clear hK; clear hK; refine hK _ ?_; clear hK) | (clear hK; clear hK; clear hK; clear hK; refine hK _ ?_; clear hK) | (refine wSeq fun K hK => ?_) | ((first | refine wReg ?_ | refine wDrwQ rfl (by kernel_rfl) ?_ | refine wDrwI ?_ | refine wDrw (by kernel_rfl) ?_); simp only [List.map_cons, List.map_nil, strip]) | ((first | refine wIs fun K hK => ?_ | refine wOs fun K hK => ?_ | refine wQs fun K hK => ?_ | refine CallK_plain ?_ | refine CallQ_plain ?_ | refine CallR_plain ?_ | refine wCond ?_); simp [g0, g3, g4, g5, b5, g6, hr, hrl, hrg, hlt, hlt', hw, he, hQ, v0, v1, v3]) | (refine wIn ?_; refine And.intro (by kernel_rfl) ?_; try simp only [thenA_n]) | (first | refine wBlock ?_ | refine wScope ?_) | ((first | refine wRet ?_ | refine wExit ?_ | refine wSkip ?_); try simp) | ((first | refine wLabel ?_ | refine wOn ?_ | refine wQn ?_); try simp only [thenA_n])
  refine hL _ (N - 1) (by omega) ⟨j + 1, m2, by omega, by rw [hsj]; omega, by omega, ⟨?_, ?_, ?_, ?_, ?_⟩, ?_⟩
  all_goals simp [g0, g3, g4, g5, b5, g6, hw]
theorem w5Tx_le {q : List PV} (ho : fTx.ok q) (hz : Zs q) (h50 : lenP (at' q 7) ≤ 50) : w5Tx q ≤ 200000000 := by
  obtain ⟨z0, z1, z2, z3, z4, z5, z6, z7, rfl, -, -, -, -, -, -, hp⟩ := fTx_sh ho
  have h2 := z1_str (hz (SB z6) (by simp))
  have h3 := hz (.sl 11 z7) (by simp)
  change z7.length ≤ 50 at h50
  have h4 : (z7.map w5Pt).sum ≤ (z7.map fun _ => 2000000).sum := sum_le fun q hq => w5Pt_le ((fl_ok hp).2 q hq) (z1_row h3 hq)
  rw [sum_const] at h4
  show lenP (.sl 11 z7) + lenP (SB z6) / 20 + ((rowsP (.sl 11 z7)).map w5Pt).sum ≤ _
  simp only [lenP_SB, lenP_sl, rowsP_sl]; omega
set_option maxHeartbeats 4000000 in
theorem farIn {Q : AExit → St → Prop} {st : St} (rows : List (List PV)) (i : Nat) (r : List PV) (lg : List (List PV)) (k : Nat) (t : List PV) (ps : List (List PV)) (n0 : Nat) (hn0 : n0 ≤ 1000000000000000) (hr : r[27]? = some (.sl 8 lg)) (hlg : lg.length ≤ 100) (hk : k < lg.length) (ht : lg[k] = t) (hp : at' t 7 = .sl 11 ps) (hto : fTx.ok t) (hl : ps.length ≤ 100) (ho : ∀ q ∈ ps, fPt.ok q) (hz : Z1 (.sl 11 ps))
    (hex : ∀ st, FB rows i r (n0 + (ps.map w5Pt).sum) st → st.s 7 = .p (I k) → Q (.exit 6) st)
    (hF : FB rows i r n0 st) (h7 : st.s 7 = .p (I k)) (h8 : st.s 8 = .p (I 0)) : WC Try.prog Try.T 306 (lp Try.f6 3) Q st := by
  obtain ⟨g0, g3, g4, g5, b5⟩ := hF
  have hrl : 27 < r.length := (List.getElem?_eq_some_iff.1 hr).1
  have hrg : ∀ h, r[27]'h = .sl 8 lg := fun h => by rw [List.getElem?_eq_getElem h] at hr; exact Option.some.inj hr
  have hkl : (k : Int) < lg.length := by omega
  have hgk : lg[k]? = some lg[k] := List.getElem?_eq_getElem hk
  obtain ⟨y0, y1, y2, y3, y4, y5, y6, y7, rfl, -⟩ := fTx_sh hto
  obtain rfl : y7 = ps := by
    simp only [at', List.getElem?_cons_succ, List.getElem?_cons_zero, Option.getD_some, PV.sl.injEq, true_and] at hp
    exact hp
  rw [ht] at hgk
  refine wLoop (fun N st => ∃ j m, j + N = y7.length ∧ m = n0 + ((y7.take j).map w5Pt).sum ∧ m ≤ n0 + j * 2000000 ∧ FB rows i r m st ∧ st.s 7 = .p (I k) ∧ st.s 8 = .p (I j)) y7.length ⟨0, n0, by omega, by simp, by omega, ⟨g0, g3, g4, g5, b5⟩, h7, h8⟩ fun K N st hL ⟨j, m, hj, hm, hmb, ⟨g0, g3, g4, g5, b5⟩, g7, g8⟩ => ?_
  by_cases hlt : j < y7.length
  case neg =>
    have hlt' : ¬ (j : Int) < y7.length := by omega
    rw [List.take_of_length_le (by omega)] at hm
    subst hm
    repeat' first | (refine hK _ ?_; clear hK) | (refine hK _ _ ?_; clear hK) | (clear hK; refine hK _ ?_; clear hK) | (clear hK; clear hK; refine hK _ ?_; clear hK) | (clear hK; clear hK; clear hK; refine hK _ ?_; clear hK) | (clear hK; clear hK; clear hK; clear hK; refine hK _ ?_; clear hK) | (refine wSeq fun K hK => ?_) | ((first | refine wReg ?_ | refine wDrwQ rfl (by kernel_rfl) ?_ | refine wDrwI ?_ | refine wDrw (by kernel_rfl) ?_); simp only [List.map_cons, List.map_nil, strip]) | ((first | refine wIs fun K hK => ?_ | refine wOs fun K hK => ?_ | refine wQs fun K hK => ?_ | refine CallK_plain ?_ | refine CallQ_plain ?_ | refine CallR_plain ?_ | refine wCond ?_); simp [g0, g3, g4, g5, b5, g7, g8, hr, hrl, hrg, hk, hkl, hgk, ht, hlt, hlt']) | (refine wIn ?_; refine And.intro (by kernel_rfl) ?_; try simp only [thenA_n]) | (first | refine wBlock ?_ | refine wScope ?_) | ((first | refine wRet ?_ | refine wExit ?_ | refine wSkip ?_); try simp) | ((first | refine wLabel ?_ | refine wOn ?_ | refine wQn ?_); try simp only [thenA_n])
    refine hex _ ⟨?_, ?_, ?_, ?_, ?_⟩ ?_
    all_goals simp [g0, g3, g4, g5, b5, g7]
  have hlt' : (j : Int) < y7.length := by omega
  have hw := wrapS j _ hlt (by omega)
  have he : y7[j]? = some y7[j] := List.getElem?_eq_getElem hlt
  have hsj := sum_snoc w5Pt hlt
  have hok := ho _ (List.getElem_mem hlt)
  have hzz := z1_row hz (List.getElem_mem hlt)
  generalize hQ : y7[j] = q at *
  obtain ⟨z0, z1, z2, z3, z4, z5, z6, z7, z8, z9, z10, rfl, -⟩ := fPt_sh hok
  have l1 := z1_len (hzz (.sl 4 z10) (by simp))
  have l2 := z1_str (hzz (SB z1) (by simp))
  have l3 := z1_str (hzz (SB z2) (by simp))
  have hwp : w5Pt [I z0, SB z1, SB z2, I z3, I z4, I z5, I z6, I z7, I z8, I z9, .sl 4 z10] = z10.length + (z1.length + z2.length) / 20 := by
    show lenP (.sl 4 z10) + (lenP (SB z1) + lenP (SB z2)) / 20 = _
    simp only [lenP_SB, lenP_sl]
  rw [hwp] at hsj
  obtain ⟨a30, ha30⟩ : ∃ a30 : Nat, a30 = (z1.length + z2.length) / 20 := ⟨_, rfl⟩
  rw [← ha30] at hsj
  obtain ⟨s12, hs12⟩ : ∃ s12 : Nat, s12 = z1.length + z2.length := ⟨_, rfl⟩
  have v0 : IntKind.i64.wrap ((z1.length : Int) + (z2.length : Int)) = (s12 : Int) := by rw [wrap_id (by omega) (by omega)]; omega
  have v1 : IntKind.i64.wrap ((s12 : Int) / 20) = (a30 : Int) := by rw [wrap_id (by omega) (by omega)]; omega
  obtain ⟨d2, hd2⟩ : ∃ d2 : Nat, d2 = z10.length + a30 := ⟨_, rfl⟩
  have v2 : IntKind.i64.wrap ((z10.length : Int) + (a30 : Int)) = (d2 : Int) := by rw [wrap_id (by omega) (by omega)]; omega
  obtain ⟨m2, hm2⟩ : ∃ m2 : Nat, m2 = m + d2 := ⟨_, rfl⟩
  have v3 : IntKind.i64.wrap ((m : Int) + (d2 : Int)) = (m2 : Int) := by rw [wrap_id (by omega) (by omega)]; omega
  repeat' first | (refine hK _ ?_; clear hK) | (refine hK _ _ ?_; clear hK) | (clear hK; refine hK _ ?_; clear hK) | (clear hK; clear hK; refine hK _ ?_; clear hK) | (clear hK; clear hK; clear hK; refine hK _ ?_; clear hK) | (clear hK; clear hK; clear hK; clear hK; refine hK _ ?_; clear hK) | (refine wSeq fun K hK => ?_) | ((first | refine wReg ?_ | refine wDrwQ rfl (by kernel_rfl) ?_ | refine wDrwI ?_ | refine wDrw (by kernel_rfl) ?_); simp only [List.map_cons, List.map_nil, strip]) | ((first | refine wIs fun K hK => ?_ | refine wOs fun K hK => ?_ | refine wQs fun K hK => ?_ | refine CallK_plain ?_ | refine CallQ_plain ?_ | refine CallR_plain ?_ | refine wCond ?_); simp [g0, g3, g4, g5, b5, g7, g8, hr, hrl, hrg, hk, hkl, hgk, ht, hlt, hlt', hw, he, hQ, v0, v1, v2, v3]) | (refine wIn ?_; refine And.intro (by kernel_rfl) ?_; try simp only [thenA_n]) | (first | refine wBlock ?_ | refine wScope ?_) | ((first | refine wRet ?_ | refine wExit ?_ | refine wSkip ?_); try simp) | ((first | refine wLabel ?_ | refine wOn ?_ | refine wQn ?_); try simp only [thenA_n])
  refine hL _ (N - 1) (by omega) ⟨j + 1, m2, by omega, by rw [hsj]; omega, by omega, ⟨?_, ?_, ?_, ?_, ?_⟩, ?_, ?_⟩
  all_goals simp [g0, g3, g4, g5, b5, g7, g8, hw]
set_option maxHeartbeats 4000000 in
theorem farLg {Q : AExit → St → Prop} {st : St} (rows : List (List PV)) (i : Nat) (r : List PV) (lg : List (List PV)) (n0 : Nat) (hn0 : n0 ≤ 100000000000000) (hr : r[27]? = some (.sl 8 lg)) (hlg : lg.length ≤ 100) (ho : ∀ q ∈ lg, fTx.ok q) (hz : Z1 (.sl 8 lg)) (hmem : r ∈ rows)
    (hex : ∀ st, FB rows i r (n0 + (lg.map w5Tx).sum) st → (∀ t ∈ lg, lenP (at' t 7) ≤ 50) → Q (.exit 4) st)
    (hret : ∀ st, ¬ (∀ t ∈ lg, lenP (at' t 7) ≤ 50) → st.s 2 = .p (B true) → Q .ret st)
    (hF : FB rows i r n0 st) (h7 : st.s 7 = .p (I 0)) : WC Try.prog Try.T 306 (lp Try.f6 2) Q st := by
  obtain ⟨g0, g3, g4, g5, b5⟩ := hF
  have hrl : 27 < r.length := (List.getElem?_eq_some_iff.1 hr).1
  have hrg : ∀ h, r[27]'h = .sl 8 lg := fun h => by rw [List.getElem?_eq_getElem h] at hr; exact Option.some.inj hr
  refine wLoop (fun N st => ∃ j m, j + N = lg.length ∧ m = n0 + ((lg.take j).map w5Tx).sum ∧ m ≤ n0 + j * 200000000 ∧ (∀ t ∈ lg.take j, lenP (at' t 7) ≤ 50) ∧ FB rows i r m st ∧ st.s 7 = .p (I j)) lg.length ⟨0, n0, by omega, by simp, by omega, by simp, ⟨g0, g3, g4, g5, b5⟩, h7⟩ fun K N st hL ⟨j, m, hj, hm, hmb, hall, ⟨g0, g3, g4, g5, b5⟩, g7⟩ => ?_
  by_cases hlt : j < lg.length
  case neg =>
    have hlt' : ¬ (j : Int) < lg.length := by omega
    rw [List.take_of_length_le (by omega)] at hm hall
    subst hm
    repeat' first | (refine hK _ ?_; clear hK) | (refine hK _ _ ?_; clear hK) | (clear hK; refine hK _ ?_; clear hK) | (clear hK; clear hK; refine hK _ ?_; clear hK) | (clear hK; clear hK; clear hK; refine hK _ ?_; clear hK) | (clear hK; clear hK; clear hK; clear hK; refine hK _ ?_; clear hK) | (refine wSeq fun K hK => ?_) | ((first | refine wReg ?_ | refine wDrwQ rfl (by kernel_rfl) ?_ | refine wDrwI ?_ | refine wDrw (by kernel_rfl) ?_); simp only [List.map_cons, List.map_nil, strip]) | ((first | refine wIs fun K hK => ?_ | refine wOs fun K hK => ?_ | refine wQs fun K hK => ?_ | refine CallK_plain ?_ | refine CallQ_plain ?_ | refine CallR_plain ?_ | refine wCond ?_); simp [g0, g3, g4, g5, b5, g7, hr, hrl, hrg, hlt, hlt']) | (refine wIn ?_; refine And.intro (by kernel_rfl) ?_; try simp only [thenA_n]) | (first | refine wBlock ?_ | refine wScope ?_) | ((first | refine wRet ?_ | refine wExit ?_ | refine wSkip ?_); try simp) | ((first | refine wLabel ?_ | refine wOn ?_ | refine wQn ?_); try simp only [thenA_n])
    refine hex _ ⟨?_, ?_, ?_, ?_, ?_⟩ hall
    all_goals simp [g0, g3, g4, g5, b5]
  have hlt' : (j : Int) < lg.length := by omega
  have hw := wrapS j _ hlt (by omega)
  have he : lg[j]? = some lg[j] := List.getElem?_eq_getElem hlt
  have hsj := sum_snoc w5Tx hlt
  have hok := ho _ (List.getElem_mem hlt)
  have hzz := z1_row hz (List.getElem_mem hlt)
  have hmj := List.getElem_mem hlt
  have htk : lg.take (j + 1) = lg.take j ++ [lg[j]] := List.take_succ_eq_append_getElem hlt
  generalize hQ : lg[j] = q at *
  have hwq := fun h => w5Tx_le hok hzz h
  have hok2 := hok
  obtain ⟨z0, z1, z2, z3, z4, z5, z6, z7, rfl, -, -, -, -, -, -, hp⟩ := fTx_sh hok
  have l1 := hzz (.sl 11 z7) (by simp)
  have l1' := z1_len l1
  have l2 := z1_str (hzz (SB z6) (by simp))
  have hwp : w5Tx [I z0, I z1, I z2, I z3, I z4, I z5, SB z6, .sl 11 z7] = z7.length + z6.length / 20 + (z7.map w5Pt).sum := by
    show lenP (.sl 11 z7) + lenP (SB z6) / 20 + ((rowsP (.sl 11 z7)).map w5Pt).sum = _
    simp only [lenP_SB, lenP_sl, rowsP_sl]
  have ha7 : lenP (at' [I z0, I z1, I z2, I z3, I z4, I z5, SB z6, .sl 11 z7] 7) = z7.length := rfl
  rw [hwp] at hsj
  obtain ⟨a20, ha20⟩ : ∃ a20 : Nat, a20 = z6.length / 20 := ⟨_, rfl⟩
  have v0 : IntKind.i64.wrap ((z6.length : Int) / 20) = (a20 : Int) := by rw [wrap_id (by omega) (by omega)]; omega
  obtain ⟨d2, hd2⟩ : ∃ d2 : Nat, d2 = z7.length + a20 := ⟨_, rfl⟩
  have v1 : IntKind.i64.wrap ((z7.length : Int) + (a20 : Int)) = (d2 : Int) := by rw [wrap_id (by omega) (by omega)]; omega
  obtain ⟨m2, hm2⟩ : ∃ m2 : Nat, m2 = m + d2 := ⟨_, rfl⟩
  have v2 : IntKind.i64.wrap ((m : Int) + (d2 : Int)) = (m2 : Int) := by rw [wrap_id (by omega) (by omega)]; omega
  by_cases h50 : 50 < z7.length
  · have h50' := eq_true (show (50 : Int) < (z7.length : Int) by omega)
    have hno : ¬ (∀ t ∈ lg, lenP (at' t 7) ≤ 50) := fun h => by have := h _ hmj; rw [ha7] at this; omega
    repeat' first | (refine hK _ ?_; clear hK) | (refine hK _ _ ?_; clear hK) | (clear hK; refine hK _ ?_; clear hK) | (clear hK; clear hK; refine hK _ ?_; clear hK) | (clear hK; clear hK; clear hK; refine hK _ ?_; clear hK) | (clear hK; clear hK; clear hK; clear hK; refine hK _ ?_; clear hK) | (refine wSeq fun K hK => ?_) | ((first | refine wReg ?_ | refine wDrwQ rfl (by kernel_rfl) ?_ | refine wDrwI ?_ | refine wDrw (by kernel_rfl) ?_); simp only [List.map_cons, List.map_nil, strip]) | ((first | refine wIs fun K hK => ?_ | refine wOs fun K hK => ?_ | refine wQs fun K hK => ?_ | refine CallK_plain ?_ | refine CallQ_plain ?_ | refine CallR_plain ?_ | refine wCond ?_); simp [g0, g3, g4, g5, b5, g7, hr, hrl, hrg, hlt, hlt', hw, he, hQ, v0, v1, v2, h50']) | (refine wIn ?_; refine And.intro (by kernel_rfl) ?_; try simp only [thenA_n]) | (first | refine wBlock ?_ | refine wScope ?_) | ((first | refine wRet ?_ | refine wExit ?_ | refine wSkip ?_); try simp) | ((first | refine wLabel ?_ | refine wOn ?_ | refine wQn ?_); try simp only [thenA_n])
    all_goals refine hret _ hno ?_
    all_goals simp
  have h50' := eq_false (show ¬ (50 : Int) < (z7.length : Int) by omega)
  have hwq := hwq (by rw [ha7]; omega)
  rw [hwp] at hwq
  repeat' first | (refine farIn rows i r lg j _ z7 m2 (by omega) hr hlg hlt hQ rfl hok2 (by omega) (fl_ok hp).2 l1 ?_ ⟨?_, ?_, ?_, ?_, ?_⟩ ?_ ?_) | (refine hK _ ?_; clear hK) | (refine hK _ _ ?_; clear hK) | (clear hK; refine hK _ ?_; clear hK) | (clear hK; clear hK; refine hK _ ?_; clear hK) | (clear hK; clear hK; clear hK; refine hK _ ?_; clear hK) | (clear hK; clear hK; clear hK; clear hK; refine hK _ ?_; clear hK) | (refine wSeq fun K hK => ?_) | ((first | refine wReg ?_ | refine wDrwQ rfl (by kernel_rfl) ?_ | refine wDrwI ?_ | refine wDrw (by kernel_rfl) ?_); simp only [List.map_cons, List.map_nil, strip]) | ((first | refine wIs fun K hK => ?_ | refine wOs fun K hK => ?_ | refine wQs fun K hK => ?_ | refine CallK_plain ?_ | refine CallQ_plain ?_ | refine CallR_plain ?_ | refine wCond ?_); simp [g0, g3, g4, g5, b5, g7, hr, hrl, hrg, hlt, hlt', hw, he, hQ, v0, v1, v2, h50']) | (refine wIn ?_; refine And.intro (by kernel_rfl) ?_; try simp only [thenA_n]) | (first | refine wBlock ?_ | refine wScope ?_) | ((first | refine wRet ?_ | refine wExit ?_ | refine wSkip ?_); try simp) | ((first | refine wLabel ?_ | refine wOn ?_ | refine wQn ?_); try simp only [thenA_n])
  · intro st2 ⟨e0, e3, e4, e5, c5⟩ e7
    simp only [blockA_e, if_true, thenA_n]
    repeat' first | (refine hK _ ?_; clear hK) | (refine hK _ _ ?_; clear hK) | (clear hK; refine hK _ ?_; clear hK) | (clear hK; clear hK; refine hK _ ?_; clear hK) | (clear hK; clear hK; clear hK; refine hK _ ?_; clear hK) | (clear hK; clear hK; clear hK; clear hK; refine hK _ ?_; clear hK) | (refine wSeq fun K hK => ?_) | ((first | refine wReg ?_ | refine wDrwQ rfl (by kernel_rfl) ?_ | refine wDrwI ?_ | refine wDrw (by kernel_rfl) ?_); simp only [List.map_cons, List.map_nil, strip]) | ((first | refine wIs fun K hK => ?_ | refine wOs fun K hK => ?_ | refine wQs fun K hK => ?_ | refine CallK_plain ?_ | refine CallQ_plain ?_ | refine CallR_plain ?_ | refine wCond ?_); simp [e0, e3, e4, e5, c5, e7, hw]) | (refine wIn ?_; refine And.intro (by kernel_rfl) ?_; try simp only [thenA_n]) | (first | refine wBlock ?_ | refine wScope ?_) | ((first | refine wRet ?_ | refine wExit ?_ | refine wSkip ?_); try simp) | ((first | refine wLabel ?_ | refine wOn ?_ | refine wQn ?_); try simp only [thenA_n])
    refine hL _ (N - 1) (by omega) ⟨j + 1, m2 + (z7.map w5Pt).sum, by omega, by rw [hsj]; omega, by omega, fun t ht => ?_, ⟨?_, ?_, ?_, ?_, ?_⟩, ?_⟩
    · rw [htk] at ht
      rcases List.mem_append.1 ht with h | h
      · exact hall t h
      · rw [List.mem_singleton] at h; subst h; rw [ha7]; omega
    all_goals simp [e0, e3, e4, e5, c5, e7, hw]
  all_goals simp [g0, g3, g4, g5, b5, g7]
end Go.Proofs.Ytechjohebkcjiaa
