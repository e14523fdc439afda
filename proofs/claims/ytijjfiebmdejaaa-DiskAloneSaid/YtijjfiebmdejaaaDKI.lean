/- Disks: law DiskAlone. -/
import Derived.Test.YtijjfiebmdejaaaDKG
import Derived.Test.YtijjfiebmdejaaaDKS
namespace Go.Proofs.Ytijjfiebmdejaaa
set_option linter.unusedSimpArgs false
set_option linter.unusedVariables false
set_option maxRecDepth 8000
open Go Go.Av
attribute [local simp] Try.T1 Try.T2 Try.T3 Try.T4 Try.T5 Try.T9 Try.T12 Try.T15 Try.T16 Try.T17 Try.T21 Try.T22 Try.T23 Try.T24 Try.T25 Try.T27 Try.T28 Try.T29 Try.T30 Try.T32 Try.T33 Try.T35 Try.T37 Try.T38 Try.T39 Try.T40 Try.T41 Try.T42 Try.T43 Try.T44 Try.T45 Try.T47 Try.T48 Try.T49 Try.T50 Try.T51 Try.T52 Try.T53 Try.T55 Try.T56 Try.T57 Try.T58 Try.T59 Try.T60 Try.T61 Try.T62 Try.T63 Try.T64 Try.T65 Try.T66 Try.T67 Try.T69 Try.T71 Try.T72 Try.T73 Try.T74 Try.T75 Try.T78 Try.T81 Try.T82 Try.T85 Try.T86
attribute [local irreducible] Go.Av.CallK Go.Av.CallE Go.Av.CallQ Go.Av.CallF Go.Av.CallR Go.Av.CallH Go.Av.Con
theorem Fl.ext' {a b : Fl} (h1 : a.n = b.n) (h2 : a.d = b.d) (h3 : a.s = b.s) : a = b := by cases a; cases b; simp only at h1 h2 h3; subst h1 h2 h3; rfl
theorem memD_take {l : List Fl} {j : Nat} (h : j < l.length) (f : Fl) : decide (f ∈ l.take (j + 1)) = (decide (f ∈ l.take j) || decide (l[j] = f)) := by
  have e : (f ∈ l.take (j + 1)) ↔ (f ∈ l.take j ∨ l[j] = f) := by
    rw [List.take_succ_eq_append_getElem h, List.mem_append, List.mem_singleton]
    exact or_congr Iff.rfl eq_comm
  simp only [e, Bool.decide_or]
set_option maxHeartbeats 16000000 in
theorem diskAlone_con (l : List Op13) (o : Op13) (hl : ∀ o ∈ l, OkS o) (ho : OkS o) (l96 : l.length * 96 ≤ 140737488351232) :
    ACon Try.prog 7 [.p (.sl 6 (ops13 l)), .p (.agg o.cells)] (.p (B true)) := by
  have hlo : ∀ x ∈ l ++ [o], OkS x := fun x hx => by
    rcases List.mem_append.1 hx with h | h
    · exact hl x h
    · simp at h; rw [h]; exact ho
  have cf1 := far13_con (l ++ [o]) hlo (by simp; omega)
  have eo : ops13 (l ++ [o]) = ops13 l ++ [o.cells] := by simp [ops13]
  rw [eo] at cf1
  cases f1 : farO (l ++ [o]) with
  | true =>
    rw [f1] at cf1
    unfold Op13.cells at cf1 ⊢
    refine wBody Try.tab Try.mixed Try.func7 rfl rfl Try.ntmps7 (by simp) (by simp) fun Q hr hn => ?_
    repeat' first | (refine And.intro (by omega) (Or.inl ?_)) | (refine And.intro (by omega) ?_) | (refine hK _ ?_; clear hK) | (refine hK _ _ ?_; clear hK) | (clear hK; refine hK _ ?_; clear hK) | (clear hK; clear hK; refine hK _ ?_; clear hK) | (clear hK; clear hK; clear hK; refine hK _ ?_; clear hK) | (clear hK; clear hK; clear hK; clear hK; refine hK _ ?_; clear hK) | (refine wSeq fun K hK => ?_) | ((first | refine wReg ?_ | refine wDrwQ rfl (by kernel_rfl) ?_ | refine wDrwI ?_ | refine wDrw (by kernel_rfl) ?_); simp only [List.map_cons, List.map_nil, strip]) | ((first | refine wIs fun K hK => ?_ | refine wOs fun K hK => ?_ | refine wQs fun K hK => ?_ | refine CallK_plain ?_ | refine CallQ_plain ?_ | refine CallR_plain ?_ | refine wCond ?_); simp) | (refine wIn ?_; refine And.intro (by kernel_rfl) ?_; try simp only [thenA_n]) | (first | refine wBlock ?_ | refine wScope ?_) | ((first | refine wRet ?_ | refine wExit ?_ | refine wSkip ?_); try simp) | ((first | refine wLabel ?_ | refine wOn ?_ | refine wQn ?_); try simp only [thenA_n]) | (refine CallE.pure (cf1) rfl ?_) | (refine CallE.lent (cf1) rfl ?_) | (refine CallF.pure (cf1) rfl ?_) | (refine CallF.lent (cf1) rfl ?_) | (refine CallE.own (cf1) ?_) | (refine CallH.pure (cf1) rfl ?_) | (refine CallH.lent (cf1) rfl ?_) | (refine CallH.own (cf1) ?_) | (refine CallE.pure (awake13) rfl ?_) | (refine CallE.lent (awake13) rfl ?_) | (refine CallF.pure (awake13) rfl ?_) | (refine CallF.lent (awake13) rfl ?_) | (refine CallE.own (awake13) ?_) | (refine CallH.pure (awake13) rfl ?_) | (refine CallH.lent (awake13) rfl ?_) | (refine CallH.own (awake13) ?_)
    all_goals apply hr
    all_goals simp [Try.f7]
  | false =>
  rw [f1] at cf1
  have f2 : farO l = false := by
    have h := farO_not f1
    rw [szO_app, List.length_append] at h
    unfold farO
    rw [decide_eq_false (by simp at h; omega), decide_eq_false (by omega)]; rfl
  have hoo : OkO o := .of f1 (by simp)
  have cn := new_con 2000
  unfold Dk.cells at cn
  have hln : ∀ o ∈ l, o.n ≤ 9223372036854775807 := fun o ho => (hl o ho).n
  have hfar := farO_not f2
  unfold Op13.cells at cf1
  rw [show o.cells = [I o.k, SB o.a, SB o.b, .sl 1 (by8 o.p), I o.n, .sl 1 (ints o.ks)] from rfl]
  refine wBody Try.tab Try.mixed Try.func7 rfl rfl Try.ntmps7 (by simp) (by simp) fun Q hr hn => ?_
  repeat' first | (refine And.intro (by omega) (Or.inl ?_)) | (refine And.intro (by omega) ?_) | (refine hK _ ?_; clear hK) | (refine hK _ _ ?_; clear hK) | (clear hK; refine hK _ ?_; clear hK) | (clear hK; clear hK; refine hK _ ?_; clear hK) | (clear hK; clear hK; clear hK; refine hK _ ?_; clear hK) | (clear hK; clear hK; clear hK; clear hK; refine hK _ ?_; clear hK) | (refine wSeq fun K hK => ?_) | ((first | refine wReg ?_ | refine wDrwQ rfl (by kernel_rfl) ?_ | refine wDrwI ?_ | refine wDrw (by kernel_rfl) ?_); simp only [List.map_cons, List.map_nil, strip]) | ((first | refine wIs fun K hK => ?_ | refine wOs fun K hK => ?_ | refine wQs fun K hK => ?_ | refine CallK_plain ?_ | refine CallQ_plain ?_ | refine CallR_plain ?_ | refine wCond ?_); simp) | (refine wIn ?_; refine And.intro (by kernel_rfl) ?_; try simp only [thenA_n]) | (first | refine wBlock ?_ | refine wScope ?_) | ((first | refine wRet ?_ | refine wExit ?_ | refine wSkip ?_); try simp) | ((first | refine wLabel ?_ | refine wOn ?_ | refine wQn ?_); try simp only [thenA_n]) | (refine CallE.pure (cf1) rfl ?_) | (refine CallE.lent (cf1) rfl ?_) | (refine CallF.pure (cf1) rfl ?_) | (refine CallF.lent (cf1) rfl ?_) | (refine CallE.own (cf1) ?_) | (refine CallH.pure (cf1) rfl ?_) | (refine CallH.lent (cf1) rfl ?_) | (refine CallH.own (cf1) ?_) | (refine CallE.pure (cn) rfl ?_) | (refine CallE.lent (cn) rfl ?_) | (refine CallF.pure (cn) rfl ?_) | (refine CallF.lent (cn) rfl ?_) | (refine CallE.own (cn) ?_) | (refine CallH.pure (cn) rfl ?_) | (refine CallH.lent (cn) rfl ?_) | (refine CallH.own (cn) ?_)
  refine wLoop (fun N st => ∃ k, k + N = l.length ∧ st.s 3 = .ptr 3 0 ∧ st.b 3 = some (.box 32 [.p (I o.k), .p (SB o.a), .p (SB o.b), .p (.sl 1 (by8 o.p)), .p (I o.n), .p (.sl 1 (ints o.ks))]) ∧ st.s 5 = .ptr 5 0 ∧ st.b 5 = some (.box 27 (bxD (plys (newD 2000) (l.take k)))) ∧ st.s 25 = .p (.sl 6 (ops13 l)) ∧ st.s 26 = .p (I l.length) ∧ st.s 27 = .p (I k)) l.length ⟨0, by simp [plys, bxD]⟩ fun K N st hL ⟨k, hk, g3, b3, g5, b5, g25, g26, g27⟩ => ?_
  by_cases hlt : k < l.length
  · have hlt' : (k : Int) < l.length := by omega
    have hw := wrapS k _ hlt (by omega)
    have he := ops13_get hlt
    have cp := play_con (plys (newD 2000) (l.take k)) l[k] (plys_okP 2000 hln f2 k) (.of f2 (List.getElem_mem hlt))
    have hsn := plys_snoc (newD 2000) hlt
    generalize hP : ply (plys (newD 2000) (l.take k)) l[k] = r at cp hsn
    generalize plys (newD 2000) (l.take k) = d at cp b5 hP
    clear hP
    unfold Dk.cells Op13.cells at cp
    unfold bxD at b5
    repeat' first | (refine hK _ ?_; clear hK) | (refine hK _ _ ?_; clear hK) | (clear hK; refine hK _ ?_; clear hK) | (clear hK; clear hK; refine hK _ ?_; clear hK) | (clear hK; clear hK; clear hK; refine hK _ ?_; clear hK) | (clear hK; clear hK; clear hK; clear hK; refine hK _ ?_; clear hK) | (refine wSeq fun K hK => ?_) | ((first | refine wReg ?_ | refine wDrwQ rfl (by kernel_rfl) ?_ | refine wDrwI ?_ | refine wDrw (by kernel_rfl) ?_); simp only [List.map_cons, List.map_nil, strip]) | ((first | refine wIs fun K hK => ?_ | refine wOs fun K hK => ?_ | refine wQs fun K hK => ?_ | refine CallK_plain ?_ | refine CallQ_plain ?_ | refine CallR_plain ?_ | refine wCond ?_); simp [g3, b3, g5, b5, g25, g26, g27, hlt, hlt', hw, he]) | (refine wIn ?_; refine And.intro (by kernel_rfl) ?_; try simp only [thenA_n]) | (first | refine wBlock ?_ | refine wScope ?_) | ((first | refine wRet ?_ | refine wExit ?_ | refine wSkip ?_); try simp) | ((first | refine wLabel ?_ | refine wOn ?_ | refine wQn ?_); try simp only [thenA_n]) | (refine CallE.pure (cp) rfl ?_) | (refine CallE.lent (cp) rfl ?_) | (refine CallF.pure (cp) rfl ?_) | (refine CallF.lent (cp) rfl ?_) | (refine CallE.own (cp) ?_) | (refine CallH.pure (cp) rfl ?_) | (refine CallH.lent (cp) rfl ?_) | (refine CallH.own (cp) ?_)
    refine hL _ (N - 1) (by omega) ⟨k + 1, by omega, ?_⟩
    rw [hsn]
    simp [g3, b3, g5, b5, g25, g26, g27, hw, bxD]
  have hlt' : ¬ (k : Int) < l.length := by omega
  rw [List.take_of_length_le (by omega)] at b5
  have hokl := plys_okP 2000 hln f2 l.length
  rw [List.take_length] at hokl
  have hsr := plys_srt 2000 l
  have hiv := plys_inv 2000 hln l.length
  rw [List.take_length] at hiv
  generalize plys (newD 2000) l = d at b5 hokl hsr hiv
  unfold bxD at b5
  by_cases n0 : o.k < 0
  · repeat' first | (refine hK _ ?_; clear hK) | (refine hK _ _ ?_; clear hK) | (clear hK; refine hK _ ?_; clear hK) | (clear hK; clear hK; refine hK _ ?_; clear hK) | (clear hK; clear hK; clear hK; refine hK _ ?_; clear hK) | (clear hK; clear hK; clear hK; clear hK; refine hK _ ?_; clear hK) | (refine wSeq fun K hK => ?_) | ((first | refine wReg ?_ | refine wDrwQ rfl (by kernel_rfl) ?_ | refine wDrwI ?_ | refine wDrw (by kernel_rfl) ?_); simp only [List.map_cons, List.map_nil, strip]) | ((first | refine wIs fun K hK => ?_ | refine wOs fun K hK => ?_ | refine wQs fun K hK => ?_ | refine CallK_plain ?_ | refine CallQ_plain ?_ | refine CallR_plain ?_ | refine wCond ?_); simp [g3, b3, g5, b5, g25, g26, g27, hlt, hlt', n0]) | (refine wIn ?_; refine And.intro (by kernel_rfl) ?_; try simp only [thenA_n]) | (first | refine wBlock ?_ | refine wScope ?_) | ((first | refine wRet ?_ | refine wExit ?_ | refine wSkip ?_); try simp) | ((first | refine wLabel ?_ | refine wOn ?_ | refine wQn ?_); try simp only [thenA_n]) | (refine CallE.pure (awake13) rfl ?_) | (refine CallE.lent (awake13) rfl ?_) | (refine CallF.pure (awake13) rfl ?_) | (refine CallF.lent (awake13) rfl ?_) | (refine CallE.own (awake13) ?_) | (refine CallH.pure (awake13) rfl ?_) | (refine CallH.lent (awake13) rfl ?_) | (refine CallH.own (awake13) ?_)
    all_goals apply hr
    all_goals simp [Try.f7]
  by_cases n5 : 5 < o.k
  · repeat' first | (refine hK _ ?_; clear hK) | (refine hK _ _ ?_; clear hK) | (clear hK; refine hK _ ?_; clear hK) | (clear hK; clear hK; refine hK _ ?_; clear hK) | (clear hK; clear hK; clear hK; refine hK _ ?_; clear hK) | (clear hK; clear hK; clear hK; clear hK; refine hK _ ?_; clear hK) | (refine wSeq fun K hK => ?_) | ((first | refine wReg ?_ | refine wDrwQ rfl (by kernel_rfl) ?_ | refine wDrwI ?_ | refine wDrw (by kernel_rfl) ?_); simp only [List.map_cons, List.map_nil, strip]) | ((first | refine wIs fun K hK => ?_ | refine wOs fun K hK => ?_ | refine wQs fun K hK => ?_ | refine CallK_plain ?_ | refine CallQ_plain ?_ | refine CallR_plain ?_ | refine wCond ?_); simp [g3, b3, g5, b5, g25, g26, g27, hlt, hlt', n0, n5]) | (refine wIn ?_; refine And.intro (by kernel_rfl) ?_; try simp only [thenA_n]) | (first | refine wBlock ?_ | refine wScope ?_) | ((first | refine wRet ?_ | refine wExit ?_ | refine wSkip ?_); try simp) | ((first | refine wLabel ?_ | refine wOn ?_ | refine wQn ?_); try simp only [thenA_n]) | (refine CallE.pure (awake13) rfl ?_) | (refine CallE.lent (awake13) rfl ?_) | (refine CallF.pure (awake13) rfl ?_) | (refine CallF.lent (awake13) rfl ?_) | (refine CallE.own (awake13) ?_) | (refine CallH.pure (awake13) rfl ?_) | (refine CallH.lent (awake13) rfl ?_) | (refine CallH.own (awake13) ?_)
    all_goals apply hr
    all_goals simp [Try.f7]
  have cp := play_con d o hokl hoo
  have hsx := ply_srt hsr o
  have hmx : ∀ f ∈ d.fs, f.n ≠ o.a → f.n ≠ o.b → f ∈ (ply d o).1.fs := fun f hf ha hb => (ply_mem hsr (by omega) (by omega) ha fun _ => hb).2 hf
  have hxl : (ply d o).1.fs.length ≤ 1000 := by
    have := (ply_come d o hiv.f ho.n).n; have := hiv.n; omega
  generalize ply d o = r at cp hsx hmx hxl
  obtain ⟨x, e⟩ := r
  dsimp only at cp hsx hmx hxl
  unfold Dk.cells Op13.cells at cp
  have hdl : d.fs.length ≤ 1000 := by have := hiv.n; omega
  obtain ⟨fs, dc, df, dd⟩ := d
  obtain ⟨xs, xc, xf, xd⟩ := x
  dsimp only at *
  clear hL hokl hiv hsr hl hlo cf1 eo f1
  repeat' first | (refine hK _ ?_; clear hK) | (refine hK _ _ ?_; clear hK) | (clear hK; refine hK _ ?_; clear hK) | (clear hK; clear hK; refine hK _ ?_; clear hK) | (clear hK; clear hK; clear hK; refine hK _ ?_; clear hK) | (clear hK; clear hK; clear hK; clear hK; refine hK _ ?_; clear hK) | (refine wSeq fun K hK => ?_) | ((first | refine wReg ?_ | refine wDrwQ rfl (by kernel_rfl) ?_ | refine wDrwI ?_ | refine wDrw (by kernel_rfl) ?_); simp only [List.map_cons, List.map_nil, strip]) | ((first | refine wIs fun K hK => ?_ | refine wOs fun K hK => ?_ | refine wQs fun K hK => ?_ | refine CallK_plain ?_ | refine CallQ_plain ?_ | refine CallR_plain ?_ | refine wCond ?_); simp [g3, b3, g5, b5, g25, g26, g27, hlt, hlt', n0, n5]) | (refine wIn ?_; refine And.intro (by kernel_rfl) ?_; try simp only [thenA_n]) | (first | refine wBlock ?_ | refine wScope ?_) | ((first | refine wRet ?_ | refine wExit ?_ | refine wSkip ?_); try simp) | ((first | refine wLabel ?_ | refine wOn ?_ | refine wQn ?_); try simp only [thenA_n]) | (refine CallE.pure (cp) rfl ?_) | (refine CallE.lent (cp) rfl ?_) | (refine CallF.pure (cp) rfl ?_) | (refine CallF.lent (cp) rfl ?_) | (refine CallE.own (cp) ?_) | (refine CallH.pure (cp) rfl ?_) | (refine CallH.lent (cp) rfl ?_) | (refine CallH.own (cp) ?_)
  refine wLoop (fun N st => ∃ k, k + N = fs.length ∧ st.s 3 = .ptr 3 0 ∧ st.b 3 = some (.box 32 [.p (I o.k), .p (SB o.a), .p (SB o.b), .p (.sl 1 (by8 o.p)), .p (I o.n), .p (.sl 1 (ints o.ks))]) ∧ st.s 8 = .ptr 8 0 ∧ st.b 8 = some (.box 27 [.p (.sl 3 (fls xs)), .p (I xc), .p (I xf), .p (B xd)]) ∧ st.s 54 = .p (.sl 3 (fls fs)) ∧ st.s 55 = .p (I fs.length) ∧ st.s 56 = .p (I k)) fs.length ⟨0, by simp [g3, b3, g5, b5]⟩ fun K N st hL ⟨k, hk, g3, b3, g8, b8, g54, g55, g56⟩ => ?_
  by_cases hlt : k < fs.length
  · have hlt' : (k : Int) < fs.length := by omega
    have hw := wrapS k _ hlt (by omega)
    have he := fls_get hlt
    have hmf := hmx fs[k] (List.getElem_mem hlt)
    have hL2 : ∀ st : St, st.s 3 = .ptr 3 0 → st.b 3 = some (.box 32 [.p (I o.k), .p (SB o.a), .p (SB o.b), .p (.sl 1 (by8 o.p)), .p (I o.n), .p (.sl 1 (ints o.ks))]) → st.s 8 = .ptr 8 0 → st.b 8 = some (.box 27 [.p (.sl 3 (fls xs)), .p (I xc), .p (I xf), .p (B xd)]) → st.s 54 = .p (.sl 3 (fls fs)) → st.s 55 = .p (I fs.length) → st.s 56 = .p (I ((k + 1 : Nat) : Int)) → K st := fun st a1 a2 a3 a4 a5 a6 a7 => hL st (N - 1) (by omega) ⟨k + 1, by omega, a1, a2, a3, a4, a5, a6, a7⟩
    clear hL
    generalize hF : fs[k] = f at *
    by_cases na : f.n = o.a
    · repeat' first | (refine hK _ ?_; clear hK) | (refine hK _ _ ?_; clear hK) | (clear hK; refine hK _ ?_; clear hK) | (clear hK; clear hK; refine hK _ ?_; clear hK) | (clear hK; clear hK; clear hK; refine hK _ ?_; clear hK) | (clear hK; clear hK; clear hK; clear hK; refine hK _ ?_; clear hK) | (refine wSeq fun K hK => ?_) | ((first | refine wReg ?_ | refine wDrwQ rfl (by kernel_rfl) ?_ | refine wDrwI ?_ | refine wDrw (by kernel_rfl) ?_); simp only [List.map_cons, List.map_nil, strip]) | ((first | refine wIs fun K hK => ?_ | refine wOs fun K hK => ?_ | refine wQs fun K hK => ?_ | refine CallK_plain ?_ | refine CallQ_plain ?_ | refine CallR_plain ?_ | refine wCond ?_); simp [g3, b3, g8, b8, g54, g55, g56, hlt, hlt', hw, he, hF, na]) | (refine wIn ?_; refine And.intro (by kernel_rfl) ?_; try simp only [thenA_n]) | (first | refine wBlock ?_ | refine wScope ?_) | ((first | refine wRet ?_ | refine wExit ?_ | refine wSkip ?_); try simp) | ((first | refine wLabel ?_ | refine wOn ?_ | refine wQn ?_); try simp only [thenA_n])
      all_goals refine hL2 _ ?_ ?_ ?_ ?_ ?_ ?_ ?_
      all_goals simp [g3, b3, g8, b8, g54, g55, g56, hw]
    by_cases nb : f.n = o.b
    · have na2 : ¬ o.b = o.a := by rw [← nb]; exact na
      repeat' first | (refine hK _ ?_; clear hK) | (refine hK _ _ ?_; clear hK) | (clear hK; refine hK _ ?_; clear hK) | (clear hK; clear hK; refine hK _ ?_; clear hK) | (clear hK; clear hK; clear hK; refine hK _ ?_; clear hK) | (clear hK; clear hK; clear hK; clear hK; refine hK _ ?_; clear hK) | (refine wSeq fun K hK => ?_) | ((first | refine wReg ?_ | refine wDrwQ rfl (by kernel_rfl) ?_ | refine wDrwI ?_ | refine wDrw (by kernel_rfl) ?_); simp only [List.map_cons, List.map_nil, strip]) | ((first | refine wIs fun K hK => ?_ | refine wOs fun K hK => ?_ | refine wQs fun K hK => ?_ | refine CallK_plain ?_ | refine CallQ_plain ?_ | refine CallR_plain ?_ | refine wCond ?_); simp [g3, b3, g8, b8, g54, g55, g56, hlt, hlt', hw, he, hF, na, nb, na2]) | (refine wIn ?_; refine And.intro (by kernel_rfl) ?_; try simp only [thenA_n]) | (first | refine wBlock ?_ | refine wScope ?_) | ((first | refine wRet ?_ | refine wExit ?_ | refine wSkip ?_); try simp) | ((first | refine wLabel ?_ | refine wOn ?_ | refine wQn ?_); try simp only [thenA_n])
      all_goals refine hL2 _ ?_ ?_ ?_ ?_ ?_ ?_ ?_
      all_goals simp [g3, b3, g8, b8, g54, g55, g56, hw]
    have hm := hmf na nb
    repeat' first | (refine hK _ ?_; clear hK) | (refine hK _ _ ?_; clear hK) | (clear hK; refine hK _ ?_; clear hK) | (clear hK; clear hK; refine hK _ ?_; clear hK) | (clear hK; clear hK; clear hK; refine hK _ ?_; clear hK) | (clear hK; clear hK; clear hK; clear hK; refine hK _ ?_; clear hK) | (refine wSeq fun K hK => ?_) | ((first | refine wReg ?_ | refine wDrwQ rfl (by kernel_rfl) ?_ | refine wDrwI ?_ | refine wDrw (by kernel_rfl) ?_); simp only [List.map_cons, List.map_nil, strip]) | ((first | refine wIs fun K hK => ?_ | refine wOs fun K hK => ?_ | refine wQs fun K hK => ?_ | refine CallK_plain ?_ | refine CallQ_plain ?_ | refine CallR_plain ?_ | refine wCond ?_); simp [g3, b3, g8, b8, g54, g55, g56, hlt, hlt', hw, he, hF, na, nb]) | (refine wIn ?_; refine And.intro (by kernel_rfl) ?_; try simp only [thenA_n]) | (first | refine wBlock ?_ | refine wScope ?_) | ((first | refine wRet ?_ | refine wExit ?_ | refine wSkip ?_); try simp) | ((first | refine wLabel ?_ | refine wOn ?_ | refine wQn ?_); try simp only [thenA_n])
    refine wLoop (fun N st => ∃ j, j + N = xs.length ∧ st.s 3 = .ptr 3 0 ∧ st.b 3 = some (.box 32 [.p (I o.k), .p (SB o.a), .p (SB o.b), .p (.sl 1 (by8 o.p)), .p (I o.n), .p (.sl 1 (ints o.ks))]) ∧ st.s 8 = .ptr 8 0 ∧ st.b 8 = some (.box 27 [.p (.sl 3 (fls xs)), .p (I xc), .p (I xf), .p (B xd)]) ∧ st.s 11 = .ptr 11 0 ∧ st.b 11 = some (.box 47 [.p (SB f.n), .p (.sl 1 (by8 f.d)), .p (I f.s)]) ∧ st.s 12 = .p (B (decide (f ∈ xs.take j))) ∧ st.s 54 = .p (.sl 3 (fls fs)) ∧ st.s 55 = .p (I fs.length) ∧ st.s 56 = .p (I k) ∧ st.s 73 = .p (.sl 3 (fls xs)) ∧ st.s 74 = .p (I xs.length) ∧ st.s 75 = .p (I j)) xs.length ⟨0, by simp [g3, b3, g8, b8, g54, g55, g56]⟩ fun K N st hM ⟨j, hj, g3, b3, g8, b8, g11, b11, g12, g54, g55, g56, g73, g74, g75⟩ => ?_
    by_cases hjt : j < xs.length
    · have hjt' : (j : Int) < xs.length := by omega
      have hwj := wrapS j _ hjt (by omega)
      have hej := fls_get hjt
      have hmd := memD_take hjt f
      have hM2 : ∀ st : St, st.s 3 = .ptr 3 0 → st.b 3 = some (.box 32 [.p (I o.k), .p (SB o.a), .p (SB o.b), .p (.sl 1 (by8 o.p)), .p (I o.n), .p (.sl 1 (ints o.ks))]) → st.s 8 = .ptr 8 0 → st.b 8 = some (.box 27 [.p (.sl 3 (fls xs)), .p (I xc), .p (I xf), .p (B xd)]) → st.s 11 = .ptr 11 0 → st.b 11 = some (.box 47 [.p (SB f.n), .p (.sl 1 (by8 f.d)), .p (I f.s)]) → st.s 12 = .p (B (decide (f ∈ xs.take j) || decide (xs[j] = f))) → st.s 54 = .p (.sl 3 (fls fs)) → st.s 55 = .p (I fs.length) → st.s 56 = .p (I k) → st.s 73 = .p (.sl 3 (fls xs)) → st.s 74 = .p (I xs.length) → st.s 75 = .p (I ((j + 1 : Nat) : Int)) → K st := fun st a1 a2 a3 a4 a5 a6 a7 a8 a9 a10 a11 a12 a13 => hM st (N - 1) (by omega) ⟨j + 1, by omega, a1, a2, a3, a4, a5, a6, by rw [hmd]; exact a7, a8, a9, a10, a11, a12, a13⟩
      clear hM hmd
      generalize decide (f ∈ xs.take j) = fd at *
      generalize hG : xs[j] = g at *
      cases fd with
      | true =>
        repeat' first | (refine hK _ ?_; clear hK) | (refine hK _ _ ?_; clear hK) | (clear hK; refine hK _ ?_; clear hK) | (clear hK; clear hK; refine hK _ ?_; clear hK) | (clear hK; clear hK; clear hK; refine hK _ ?_; clear hK) | (clear hK; clear hK; clear hK; clear hK; refine hK _ ?_; clear hK) | (refine wSeq fun K hK => ?_) | ((first | refine wReg ?_ | refine wDrwQ rfl (by kernel_rfl) ?_ | refine wDrwI ?_ | refine wDrw (by kernel_rfl) ?_); simp only [List.map_cons, List.map_nil, strip]) | ((first | refine wIs fun K hK => ?_ | refine wOs fun K hK => ?_ | refine wQs fun K hK => ?_ | refine CallK_plain ?_ | refine CallQ_plain ?_ | refine CallR_plain ?_ | refine wCond ?_); simp [g3, b3, g8, b8, g11, b11, g12, g54, g55, g56, g73, g74, g75, hjt, hjt', hwj, hej, hG]) | (refine wIn ?_; refine And.intro (by kernel_rfl) ?_; try simp only [thenA_n]) | (first | refine wBlock ?_ | refine wScope ?_) | ((first | refine wRet ?_ | refine wExit ?_ | refine wSkip ?_); try simp) | ((first | refine wLabel ?_ | refine wOn ?_ | refine wQn ?_); try simp only [thenA_n])
        all_goals refine hM2 _ ?_ ?_ ?_ ?_ ?_ ?_ ?_ ?_ ?_ ?_ ?_ ?_ ?_
        all_goals simp [g3, b3, g8, b8, g11, b11, g12, g54, g55, g56, g73, g74, g75, hwj]
      | false =>
        by_cases e1 : g.n = f.n
        · by_cases e3 : g.s = f.s
          · have u1 := unL_by8 g.d
            have v1 := strOf_by8 g.d
            have u2 := unL_by8 f.d
            have v2 := strOf_by8 f.d
            by_cases e2 : g.d = f.d
            · have eg : decide (g = f) = true := decide_eq_true (Fl.ext' e1 e2 e3)
              rw [eg] at hM2
              have e2' : bs g.d = bs f.d := by rw [e2]
              repeat' first | (refine hK _ ?_; clear hK) | (refine hK _ _ ?_; clear hK) | (clear hK; refine hK _ ?_; clear hK) | (clear hK; clear hK; refine hK _ ?_; clear hK) | (clear hK; clear hK; clear hK; refine hK _ ?_; clear hK) | (clear hK; clear hK; clear hK; clear hK; refine hK _ ?_; clear hK) | (refine wSeq fun K hK => ?_) | ((first | refine wReg ?_ | refine wDrwQ rfl (by kernel_rfl) ?_ | refine wDrwI ?_ | refine wDrw (by kernel_rfl) ?_); simp only [List.map_cons, List.map_nil, strip]) | ((first | refine wIs fun K hK => ?_ | refine wOs fun K hK => ?_ | refine wQs fun K hK => ?_ | refine CallK_plain ?_ | refine CallQ_plain ?_ | refine CallR_plain ?_ | refine wCond ?_); simp [g3, b3, g8, b8, g11, b11, g12, g54, g55, g56, g73, g74, g75, hjt, hjt', hwj, hej, hG, e1, e3, u1, v1, u2, v2, e2]) | (refine wIn ?_; refine And.intro (by kernel_rfl) ?_; try simp only [thenA_n]) | (first | refine wBlock ?_ | refine wScope ?_) | ((first | refine wRet ?_ | refine wExit ?_ | refine wSkip ?_); try simp) | ((first | refine wLabel ?_ | refine wOn ?_ | refine wQn ?_); try simp only [thenA_n])
              all_goals refine hM2 _ ?_ ?_ ?_ ?_ ?_ ?_ ?_ ?_ ?_ ?_ ?_ ?_ ?_
              all_goals simp [g3, b3, g8, b8, g11, b11, g12, g54, g55, g56, g73, g74, g75, hwj]
            · have eg : decide (g = f) = false := decide_eq_false fun h => e2 (by rw [h])
              rw [eg] at hM2
              have e2' : ¬ bs g.d = bs f.d := by rw [bs_inj]; exact e2
              repeat' first | (refine hK _ ?_; clear hK) | (refine hK _ _ ?_; clear hK) | (clear hK; refine hK _ ?_; clear hK) | (clear hK; clear hK; refine hK _ ?_; clear hK) | (clear hK; clear hK; clear hK; refine hK _ ?_; clear hK) | (clear hK; clear hK; clear hK; clear hK; refine hK _ ?_; clear hK) | (refine wSeq fun K hK => ?_) | ((first | refine wReg ?_ | refine wDrwQ rfl (by kernel_rfl) ?_ | refine wDrwI ?_ | refine wDrw (by kernel_rfl) ?_); simp only [List.map_cons, List.map_nil, strip]) | ((first | refine wIs fun K hK => ?_ | refine wOs fun K hK => ?_ | refine wQs fun K hK => ?_ | refine CallK_plain ?_ | refine CallQ_plain ?_ | refine CallR_plain ?_ | refine wCond ?_); simp [g3, b3, g8, b8, g11, b11, g12, g54, g55, g56, g73, g74, g75, hjt, hjt', hwj, hej, hG, e1, e3, u1, v1, u2, v2, e2, e2']) | (refine wIn ?_; refine And.intro (by kernel_rfl) ?_; try simp only [thenA_n]) | (first | refine wBlock ?_ | refine wScope ?_) | ((first | refine wRet ?_ | refine wExit ?_ | refine wSkip ?_); try simp) | ((first | refine wLabel ?_ | refine wOn ?_ | refine wQn ?_); try simp only [thenA_n])
              all_goals refine hM2 _ ?_ ?_ ?_ ?_ ?_ ?_ ?_ ?_ ?_ ?_ ?_ ?_ ?_
              all_goals simp [g3, b3, g8, b8, g11, b11, g12, g54, g55, g56, g73, g74, g75, hwj, e2]
          · have eg : decide (g = f) = false := decide_eq_false fun h => e3 (by rw [h])
            rw [eg] at hM2
            repeat' first | (refine hK _ ?_; clear hK) | (refine hK _ _ ?_; clear hK) | (clear hK; refine hK _ ?_; clear hK) | (clear hK; clear hK; refine hK _ ?_; clear hK) | (clear hK; clear hK; clear hK; refine hK _ ?_; clear hK) | (clear hK; clear hK; clear hK; clear hK; refine hK _ ?_; clear hK) | (refine wSeq fun K hK => ?_) | ((first | refine wReg ?_ | refine wDrwQ rfl (by kernel_rfl) ?_ | refine wDrwI ?_ | refine wDrw (by kernel_rfl) ?_); simp only [List.map_cons, List.map_nil, strip]) | ((first | refine wIs fun K hK => ?_ | refine wOs fun K hK => ?_ | refine wQs fun K hK => ?_ | refine CallK_plain ?_ | refine CallQ_plain ?_ | refine CallR_plain ?_ | refine wCond ?_); simp [g3, b3, g8, b8, g11, b11, g12, g54, g55, g56, g73, g74, g75, hjt, hjt', hwj, hej, hG, e1, e3]) | (refine wIn ?_; refine And.intro (by kernel_rfl) ?_; try simp only [thenA_n]) | (first | refine wBlock ?_ | refine wScope ?_) | ((first | refine wRet ?_ | refine wExit ?_ | refine wSkip ?_); try simp) | ((first | refine wLabel ?_ | refine wOn ?_ | refine wQn ?_); try simp only [thenA_n])
            all_goals refine hM2 _ ?_ ?_ ?_ ?_ ?_ ?_ ?_ ?_ ?_ ?_ ?_ ?_ ?_
            all_goals simp [g3, b3, g8, b8, g11, b11, g12, g54, g55, g56, g73, g74, g75, hwj]
        · have eg : decide (g = f) = false := decide_eq_false fun h => e1 (by rw [h])
          rw [eg] at hM2
          repeat' first | (refine hK _ ?_; clear hK) | (refine hK _ _ ?_; clear hK) | (clear hK; refine hK _ ?_; clear hK) | (clear hK; clear hK; refine hK _ ?_; clear hK) | (clear hK; clear hK; clear hK; refine hK _ ?_; clear hK) | (clear hK; clear hK; clear hK; clear hK; refine hK _ ?_; clear hK) | (refine wSeq fun K hK => ?_) | ((first | refine wReg ?_ | refine wDrwQ rfl (by kernel_rfl) ?_ | refine wDrwI ?_ | refine wDrw (by kernel_rfl) ?_); simp only [List.map_cons, List.map_nil, strip]) | ((first | refine wIs fun K hK => ?_ | refine wOs fun K hK => ?_ | refine wQs fun K hK => ?_ | refine CallK_plain ?_ | refine CallQ_plain ?_ | refine CallR_plain ?_ | refine wCond ?_); simp [g3, b3, g8, b8, g11, b11, g12, g54, g55, g56, g73, g74, g75, hjt, hjt', hwj, hej, hG, e1]) | (refine wIn ?_; refine And.intro (by kernel_rfl) ?_; try simp only [thenA_n]) | (first | refine wBlock ?_ | refine wScope ?_) | ((first | refine wRet ?_ | refine wExit ?_ | refine wSkip ?_); try simp) | ((first | refine wLabel ?_ | refine wOn ?_ | refine wQn ?_); try simp only [thenA_n])
          all_goals refine hM2 _ ?_ ?_ ?_ ?_ ?_ ?_ ?_ ?_ ?_ ?_ ?_ ?_ ?_
          all_goals simp [g3, b3, g8, b8, g11, b11, g12, g54, g55, g56, g73, g74, g75, hwj]
    · have hjt' : ¬ (j : Int) < xs.length := by omega
      rw [List.take_of_length_le (by omega), decide_eq_true hm] at g12
      repeat' first | (refine hK _ ?_; clear hK) | (refine hK _ _ ?_; clear hK) | (clear hK; refine hK _ ?_; clear hK) | (clear hK; clear hK; refine hK _ ?_; clear hK) | (clear hK; clear hK; clear hK; refine hK _ ?_; clear hK) | (clear hK; clear hK; clear hK; clear hK; refine hK _ ?_; clear hK) | (refine wSeq fun K hK => ?_) | ((first | refine wReg ?_ | refine wDrwQ rfl (by kernel_rfl) ?_ | refine wDrwI ?_ | refine wDrw (by kernel_rfl) ?_); simp only [List.map_cons, List.map_nil, strip]) | ((first | refine wIs fun K hK => ?_ | refine wOs fun K hK => ?_ | refine wQs fun K hK => ?_ | refine CallK_plain ?_ | refine CallQ_plain ?_ | refine CallR_plain ?_ | refine wCond ?_); simp [g3, b3, g8, b8, g11, b11, g12, g54, g55, g56, g73, g74, g75, hjt, hjt', hw]) | (refine wIn ?_; refine And.intro (by kernel_rfl) ?_; try simp only [thenA_n]) | (first | refine wBlock ?_ | refine wScope ?_) | ((first | refine wRet ?_ | refine wExit ?_ | refine wSkip ?_); try simp) | ((first | refine wLabel ?_ | refine wOn ?_ | refine wQn ?_); try simp only [thenA_n])
      all_goals refine hL2 _ ?_ ?_ ?_ ?_ ?_ ?_ ?_
      all_goals simp [g3, b3, g8, b8, g54, g55, g56, hw]
  have hlt' : ¬ (k : Int) < fs.length := by omega
  clear hL
  repeat' first | (refine hK _ ?_; clear hK) | (refine hK _ _ ?_; clear hK) | (clear hK; refine hK _ ?_; clear hK) | (clear hK; clear hK; refine hK _ ?_; clear hK) | (clear hK; clear hK; clear hK; refine hK _ ?_; clear hK) | (clear hK; clear hK; clear hK; clear hK; refine hK _ ?_; clear hK) | (refine wSeq fun K hK => ?_) | ((first | refine wReg ?_ | refine wDrwQ rfl (by kernel_rfl) ?_ | refine wDrwI ?_ | refine wDrw (by kernel_rfl) ?_); simp only [List.map_cons, List.map_nil, strip]) | ((first | refine wIs fun K hK => ?_ | refine wOs fun K hK => ?_ | refine wQs fun K hK => ?_ | refine CallK_plain ?_ | refine CallQ_plain ?_ | refine CallR_plain ?_ | refine wCond ?_); simp [g3, b3, g8, b8, g54, g55, g56, hlt, hlt']) | (refine wIn ?_; refine And.intro (by kernel_rfl) ?_; try simp only [thenA_n]) | (first | refine wBlock ?_ | refine wScope ?_) | ((first | refine wRet ?_ | refine wExit ?_ | refine wSkip ?_); try simp) | ((first | refine wLabel ?_ | refine wOn ?_ | refine wQn ?_); try simp only [thenA_n])
  refine wLoop (fun N st => ∃ j, j + N = xs.length ∧ st.s 8 = .ptr 8 0 ∧ st.b 8 = some (.box 27 [.p (.sl 3 (fls xs)), .p (I xc), .p (I xf), .p (B xd)]) ∧ st.s 109 = .p (I xs.length) ∧ st.s 110 = .p (I j)) xs.length ⟨0, by simp [g8, b8]⟩ fun K N st hM ⟨j, hj, g8, b8, g109, g110⟩ => ?_
  by_cases hjt : j < xs.length
  · have hjt' : (j : Int) < xs.length := by omega
    have hwj := wrapS j _ hjt (by omega)
    have hej := fls_get hjt
    cases j with
    | zero =>
      have hw1 : IntKind.i64.wrap 1 = 1 := by rw [wrap_id] <;> omega
      have hjt0 : (0 : Int) < xs.length := by omega
      repeat' first | (refine hK _ ?_; clear hK) | (refine hK _ _ ?_; clear hK) | (clear hK; refine hK _ ?_; clear hK) | (clear hK; clear hK; refine hK _ ?_; clear hK) | (clear hK; clear hK; clear hK; refine hK _ ?_; clear hK) | (clear hK; clear hK; clear hK; clear hK; refine hK _ ?_; clear hK) | (refine wSeq fun K hK => ?_) | ((first | refine wReg ?_ | refine wDrwQ rfl (by kernel_rfl) ?_ | refine wDrwI ?_ | refine wDrw (by kernel_rfl) ?_); simp only [List.map_cons, List.map_nil, strip]) | ((first | refine wIs fun K hK => ?_ | refine wOs fun K hK => ?_ | refine wQs fun K hK => ?_ | refine CallK_plain ?_ | refine CallQ_plain ?_ | refine CallR_plain ?_ | refine wCond ?_); simp [g8, b8, g109, g110, hjt, hjt', hjt0, hwj, hej, hw1]) | (refine wIn ?_; refine And.intro (by kernel_rfl) ?_; try simp only [thenA_n]) | (first | refine wBlock ?_ | refine wScope ?_) | ((first | refine wRet ?_ | refine wExit ?_ | refine wSkip ?_); try simp) | ((first | refine wLabel ?_ | refine wOn ?_ | refine wQn ?_); try simp only [thenA_n])
      all_goals refine hM _ (N - 1) (by omega) ⟨1, by omega, ?_⟩
      all_goals simp [g8, b8, g109, g110, hwj, hw1]
    | succ i =>
      have hit : i < xs.length := by omega
      have hei := fls_get hit
      have hit' : (i : Int) < xs.length := by omega
      have hpos : (0 : Int) < ((i + 1 : Nat) : Int) := by omega
      have hsub : IntKind.i64.wrap (((i + 1 : Nat) : Int) - 1) = i := by rw [wrap_id] <;> omega
      have hsub2 : IntKind.i64.wrap ((i : Int) + 1 - 1) = i := by rw [wrap_id] <;> omega
      have hjt2 : (i : Int) + 1 < xs.length := by omega
      have hwj2 : IntKind.i64.wrap ((i : Int) + 1 + 1) = ((i + 1 + 1 : Nat) : Int) := by rw [wrap_id] <;> omega
      have hip : (0 : Int) < (i : Int) + 1 := by omega
      have hge0 : (0 : Int) ≤ (i : Int) + 1 := by omega
      have hwi : IntKind.i64.wrap (i : Int) = i := by rw [wrap_id] <;> omega
      have hls : Op.bytesLess xs[i].n xs[i + 1].n = true := by
        rw [less_eq]; exact decide_eq_true (List.pairwise_iff_getElem.1 hsx i (i + 1) hit hjt (by omega))
      repeat' first | (refine hK _ ?_; clear hK) | (refine hK _ _ ?_; clear hK) | (clear hK; refine hK _ ?_; clear hK) | (clear hK; clear hK; refine hK _ ?_; clear hK) | (clear hK; clear hK; clear hK; refine hK _ ?_; clear hK) | (clear hK; clear hK; clear hK; clear hK; refine hK _ ?_; clear hK) | (refine wSeq fun K hK => ?_) | ((first | refine wReg ?_ | refine wDrwQ rfl (by kernel_rfl) ?_ | refine wDrwI ?_ | refine wDrw (by kernel_rfl) ?_); simp only [List.map_cons, List.map_nil, strip]) | ((first | refine wIs fun K hK => ?_ | refine wOs fun K hK => ?_ | refine wQs fun K hK => ?_ | refine CallK_plain ?_ | refine CallQ_plain ?_ | refine CallR_plain ?_ | refine wCond ?_); simp [g8, b8, g109, g110, hjt, hjt', hwj, hej, hit, hit', hei, hpos, hsub, hsub2, hwi, hls, hjt2, hwj2, hip, hge0]) | (refine wIn ?_; refine And.intro (by kernel_rfl) ?_; try simp only [thenA_n]) | (first | refine wBlock ?_ | refine wScope ?_) | ((first | refine wRet ?_ | refine wExit ?_ | refine wSkip ?_); try simp) | ((first | refine wLabel ?_ | refine wOn ?_ | refine wQn ?_); try simp only [thenA_n])
      all_goals refine hM _ (N - 1) (by omega) ⟨i + 1 + 1, by omega, ?_⟩
      all_goals simp [g8, b8, g109, g110, hwj, hwj2]
  · have hjt' : ¬ (j : Int) < xs.length := by omega
    repeat' first | (refine hK _ ?_; clear hK) | (refine hK _ _ ?_; clear hK) | (clear hK; refine hK _ ?_; clear hK) | (clear hK; clear hK; refine hK _ ?_; clear hK) | (clear hK; clear hK; clear hK; refine hK _ ?_; clear hK) | (clear hK; clear hK; clear hK; clear hK; refine hK _ ?_; clear hK) | (refine wSeq fun K hK => ?_) | ((first | refine wReg ?_ | refine wDrwQ rfl (by kernel_rfl) ?_ | refine wDrwI ?_ | refine wDrw (by kernel_rfl) ?_); simp only [List.map_cons, List.map_nil, strip]) | ((first | refine wIs fun K hK => ?_ | refine wOs fun K hK => ?_ | refine wQs fun K hK => ?_ | refine CallK_plain ?_ | refine CallQ_plain ?_ | refine CallR_plain ?_ | refine wCond ?_); simp [g8, b8, g109, g110, hjt, hjt']) | (refine wIn ?_; refine And.intro (by kernel_rfl) ?_; try simp only [thenA_n]) | (first | refine wBlock ?_ | refine wScope ?_) | ((first | refine wRet ?_ | refine wExit ?_ | refine wSkip ?_); try simp) | ((first | refine wLabel ?_ | refine wOn ?_ | refine wQn ?_); try simp only [thenA_n]) | (refine CallE.pure (awake13) rfl ?_) | (refine CallE.lent (awake13) rfl ?_) | (refine CallF.pure (awake13) rfl ?_) | (refine CallF.lent (awake13) rfl ?_) | (refine CallE.own (awake13) ?_) | (refine CallH.pure (awake13) rfl ?_) | (refine CallH.lent (awake13) rfl ?_) | (refine CallH.own (awake13) ?_)
    all_goals apply hr
    all_goals simp [Try.f7]
end Go.Proofs.Ytijjfiebmdejaaa
