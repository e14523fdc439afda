/- Acknowledged: the law AckMore. -/
import Derived.Test.YtnfcbkageifmfaaMM5
namespace Go.Proofs.Ytnfcbkageifmfaa
set_option linter.unusedSimpArgs false
set_option linter.unusedVariables false
open Go Go.Av
attribute [local simp] Try.T1 Try.T2 Try.T3 Try.T4 Try.T5 Try.T9 Try.T12 Try.T15 Try.T16 Try.T17 Try.T21 Try.T22 Try.T23 Try.T25 Try.T27 Try.T29 Try.T30 Try.T31 Try.T32 Try.T33 Try.T35 Try.T37 Try.T38 Try.T40 Try.T41 Try.T42 Try.T43 Try.T44 Try.T45 Try.T46 Try.T47 Try.T48 Try.T49 Try.T50 Try.T51 Try.T52 Try.T53 Try.T54 Try.T56 Try.T57 Try.T58 Try.T59 Try.T60 Try.T61 Try.T62 Try.T64 Try.T66 Try.T67 Try.T68 Try.T69 Try.T71 Try.T72 Try.T73 Try.T74 Try.T75 Try.T76 Try.T77 Try.T78 Try.T79 Try.T80 Try.T81 Try.T82 Try.T83 Try.T84 Try.T85 Try.T86 Try.T87 Try.T88 Try.T89 Try.T90 Try.T91 Try.T92 Try.T93 Try.T94 Try.T95 Try.T97 Try.T98 Try.T99 Try.T100 Try.T101 Try.T102 Try.T103 Try.T104 Try.T105 Try.T106 Try.T107 Try.T108 Try.T109 Try.T110 Try.T111 Try.T112 Try.T113 Try.T114 Try.T115 Try.T116 Try.T117 Try.T120 Try.T123 Try.T124 Try.T127 Try.T128
attribute [local irreducible] Go.Av.CallK Go.Av.CallE Go.Av.CallQ Go.Av.CallF Go.Av.CallR Go.Av.CallH Go.Av.Con
def upd (id e n : Int) (y : Lr) : Lr := if y.id = id then (if zcmp y.ae y.an e n < 0 then { y with ph := 4, ae := e, an := n } else { y with ph := 4 }) else y
def moreL (id e n : Int) (l : List Lr) : List Lr := l.map (upd id e n)
theorem upd_ge (id e n : Int) (y : Lr) : (upd id e n y).id = y.id ∧ (4 ≤ y.ph → 4 ≤ (upd id e n y).ph) ∧ (y.ae < (upd id e n y).ae ∨ (y.ae = (upd id e n y).ae ∧ y.an ≤ (upd id e n y).an)) := by
  unfold upd
  split
  · split
    · rename_i h
      rw [zcmp_neg] at h
      exact ⟨rfl, fun _ => by show (4 : Int) ≤ 4; omega, by show y.ae < e ∨ y.ae = e ∧ y.an ≤ n; omega⟩
    · exact ⟨rfl, fun _ => by show (4 : Int) ≤ 4; omega, by show y.ae < y.ae ∨ y.ae = y.ae ∧ y.an ≤ y.an; omega⟩
  · exact ⟨rfl, fun h => h, by omega⟩
theorem moreL_set {id a b self e n : Int} {l : List Lr} {x : Int} (h : x ∈ setS self 4 e n l) : x ∈ setS self 4 e n (moreL id a b l) := by
  rw [mem_setS] at h ⊢
  rcases h with h | ⟨y, h1, h2, h3⟩
  · exact .inl h
  · obtain ⟨u1, u2, u3⟩ := upd_ge id a b y
    refine .inr ⟨upd id a b y, List.mem_map.2 ⟨y, h1, rfl⟩, ⟨by rw [u1]; exact h2.1, u2 h2.2.1, ?_⟩, by rw [u1]; exact h3⟩
    have h4 := h2.2.2
    rw [zcmp_ge] at h4 ⊢
    omega
theorem moreL_snoc (id e n : Int) {l : List Lr} {k : Nat} (h : k < l.length) : moreL id e n (l.take (k + 1)) = moreL id e n (l.take k) ++ [upd id e n l[k]] := by
  rw [List.take_succ_eq_append_getElem h]; unfold moreL; rw [List.map_append]; rfl
set_option maxHeartbeats 8000000 in
theorem ackMore_con (h : Hy) (l : List Lr) (self id e n : Int) (hs : SmallH h) (hl : SmallL l) :
    ACon Try.prog 6 [.p (.agg h.cells), .p (.sl 8 (lrs l)), .p (.agg [I self, I id, I e, I n])] (.p (B true)) := by
  have c0 := far19_con h l hs hl
  have ca := awake19
  by_cases hn : nearK h l
  rotate_left
  · rw [decide_eq_true hn] at c0
    unfold Hy.cells at c0 ⊢
    refine wBody Try.tab Try.mixed Try.func6 rfl rfl Try.ntmps6 (by simp) (by simp) fun Q hr hn => ?_
    repeat' first | (refine hK _ ?_; clear hK) | (refine hK _ _ ?_; clear hK) | (clear hK; refine hK _ ?_; clear hK) | (clear hK; clear hK; refine hK _ ?_; clear hK) | (clear hK; clear hK; clear hK; refine hK _ ?_; clear hK) | (clear hK; clear hK; clear hK; clear hK; refine hK _ ?_; clear hK) | (refine wSeq fun K hK => ?_) | ((first | refine wReg ?_ | refine wDrwQ rfl (by kernel_rfl) ?_ | refine wDrwI ?_ | refine wDrw (by kernel_rfl) ?_); simp only [List.map_cons, List.map_nil, strip]) | ((first | refine wIs fun K hK => ?_ | refine wOs fun K hK => ?_ | refine wQs fun K hK => ?_ | refine CallK_plain ?_ | refine CallQ_plain ?_ | refine CallR_plain ?_ | refine wCond ?_); simp) | (refine wIn ?_; refine And.intro (by kernel_rfl) ?_; try simp only [thenA_n]) | (first | refine wBlock ?_ | refine wScope ?_) | ((first | refine wRet ?_ | refine wExit ?_ | refine wSkip ?_); try simp) | ((first | refine wLabel ?_ | refine wOn ?_ | refine wQn ?_); try simp only [thenA_n]) | (refine CallE.pure (c0) rfl ?_) | (refine CallE.lent (c0) rfl ?_) | (refine CallF.pure (c0) rfl ?_) | (refine CallF.lent (c0) rfl ?_) | (refine CallE.own (c0) ?_) | (refine CallH.pure (c0) rfl ?_) | (refine CallH.lent (c0) rfl ?_) | (refine CallH.own (c0) ?_) | (refine CallE.pure (ca) rfl ?_) | (refine CallE.lent (ca) rfl ?_) | (refine CallF.pure (ca) rfl ?_) | (refine CallF.lent (ca) rfl ?_) | (refine CallE.own (ca) ?_) | (refine CallH.pure (ca) rfl ?_) | (refine CallH.lent (ca) rfl ?_) | (refine CallH.own (ca) ?_)
    all_goals apply hr
    all_goals simp [Try.f6]
  rw [decide_eq_false (fun h => h hn)] at c0
  have hk := OkH.of hn
  have hll := hn.2.2.1
  have hlg := hk.lg
  have cc := check16_con h hlg
  by_cases hr0 : risesB (marksH h) = true
  rotate_left
  · simp only [Bool.not_eq_true] at hr0
    rw [hr0] at cc
    unfold Hy.cells at c0 cc ⊢
    refine wBody Try.tab Try.mixed Try.func6 rfl rfl Try.ntmps6 (by simp) (by simp) fun Q hr hn => ?_
    repeat' first | (refine hK _ ?_; clear hK) | (refine hK _ _ ?_; clear hK) | (clear hK; refine hK _ ?_; clear hK) | (clear hK; clear hK; refine hK _ ?_; clear hK) | (clear hK; clear hK; clear hK; refine hK _ ?_; clear hK) | (clear hK; clear hK; clear hK; clear hK; refine hK _ ?_; clear hK) | (refine wSeq fun K hK => ?_) | ((first | refine wReg ?_ | refine wDrwQ rfl (by kernel_rfl) ?_ | refine wDrwI ?_ | refine wDrw (by kernel_rfl) ?_); simp only [List.map_cons, List.map_nil, strip]) | ((first | refine wIs fun K hK => ?_ | refine wOs fun K hK => ?_ | refine wQs fun K hK => ?_ | refine CallK_plain ?_ | refine CallQ_plain ?_ | refine CallR_plain ?_ | refine wCond ?_); simp) | (refine wIn ?_; refine And.intro (by kernel_rfl) ?_; try simp only [thenA_n]) | (first | refine wBlock ?_ | refine wScope ?_) | ((first | refine wRet ?_ | refine wExit ?_ | refine wSkip ?_); try simp) | ((first | refine wLabel ?_ | refine wOn ?_ | refine wQn ?_); try simp only [thenA_n]) | (refine CallE.pure (c0) rfl ?_) | (refine CallE.lent (c0) rfl ?_) | (refine CallF.pure (c0) rfl ?_) | (refine CallF.lent (c0) rfl ?_) | (refine CallE.own (c0) ?_) | (refine CallH.pure (c0) rfl ?_) | (refine CallH.lent (c0) rfl ?_) | (refine CallH.own (c0) ?_) | (refine CallE.pure (cc) rfl ?_) | (refine CallE.lent (cc) rfl ?_) | (refine CallF.pure (cc) rfl ?_) | (refine CallF.lent (cc) rfl ?_) | (refine CallE.own (cc) ?_) | (refine CallH.pure (cc) rfl ?_) | (refine CallH.lent (cc) rfl ?_) | (refine CallH.own (cc) ?_) | (refine CallE.pure (ca) rfl ?_) | (refine CallE.lent (ca) rfl ?_) | (refine CallF.pure (ca) rfl ?_) | (refine CallF.lent (ca) rfl ?_) | (refine CallE.own (ca) ?_) | (refine CallH.pure (ca) rfl ?_) | (refine CallH.lent (ca) rfl ?_) | (refine CallH.own (ca) ?_)
    all_goals apply hr
    all_goals simp [Try.f6]
  rw [hr0] at cc
  have cb := base16_con h
  have c1 := commit_con h h.im.ae h.im.an self l hk (by omega)
  have c2 := commit_con h h.im.ae h.im.an self (moreL id e n l) hk (by simp [moreL]; omega)
  have hge := com_more hr0 self l (moreL id e n l) (fun a b x hx => moreL_set hx)
  have hag := com_again hr0 self l
  generalize comF h self (moreL id e n l) h.lg 0 h.im.ae h.im.an = ww at c2 hge
  have c3 := commit_con h (comF h self l h.lg 0 h.im.ae h.im.an).1 (comF h self l h.lg 0 h.im.ae h.im.an).2 self l hk (by omega)
  rw [hag] at c3
  generalize comF h self l h.lg 0 h.im.ae h.im.an = zz at c1 c3 hge
  have c4 := cmp02_con ww.1 ww.2 zz.1 zz.2
  generalize zcmp ww.1 ww.2 zz.1 zz.2 = cv at c4 hge
  clear hag
  unfold Hy.cells at c0 cc cb c1 c2 c3 ⊢
  refine wBody Try.tab Try.mixed Try.func6 rfl rfl Try.ntmps6 (by simp) (by simp) fun Q hr hn => ?_
  repeat' first | (refine hK _ ?_; clear hK) | (refine hK _ _ ?_; clear hK) | (clear hK; refine hK _ ?_; clear hK) | (clear hK; clear hK; refine hK _ ?_; clear hK) | (clear hK; clear hK; clear hK; refine hK _ ?_; clear hK) | (clear hK; clear hK; clear hK; clear hK; refine hK _ ?_; clear hK) | (refine wSeq fun K hK => ?_) | ((first | refine wReg ?_ | refine wDrwQ rfl (by kernel_rfl) ?_ | refine wDrwI ?_ | refine wDrw (by kernel_rfl) ?_); simp only [List.map_cons, List.map_nil, strip]) | ((first | refine wIs fun K hK => ?_ | refine wOs fun K hK => ?_ | refine wQs fun K hK => ?_ | refine CallK_plain ?_ | refine CallQ_plain ?_ | refine CallR_plain ?_ | refine wCond ?_); simp) | (refine wIn ?_; refine And.intro (by kernel_rfl) ?_; try simp only [thenA_n]) | (first | refine wBlock ?_ | refine wScope ?_) | ((first | refine wRet ?_ | refine wExit ?_ | refine wSkip ?_); try simp) | ((first | refine wLabel ?_ | refine wOn ?_ | refine wQn ?_); try simp only [thenA_n]) | (refine CallE.pure (c0) rfl ?_) | (refine CallE.lent (c0) rfl ?_) | (refine CallF.pure (c0) rfl ?_) | (refine CallF.lent (c0) rfl ?_) | (refine CallE.own (c0) ?_) | (refine CallH.pure (c0) rfl ?_) | (refine CallH.lent (c0) rfl ?_) | (refine CallH.own (c0) ?_) | (refine CallE.pure (cc) rfl ?_) | (refine CallE.lent (cc) rfl ?_) | (refine CallF.pure (cc) rfl ?_) | (refine CallF.lent (cc) rfl ?_) | (refine CallE.own (cc) ?_) | (refine CallH.pure (cc) rfl ?_) | (refine CallH.lent (cc) rfl ?_) | (refine CallH.own (cc) ?_) | (refine CallE.pure (cb) rfl ?_) | (refine CallE.lent (cb) rfl ?_) | (refine CallF.pure (cb) rfl ?_) | (refine CallF.lent (cb) rfl ?_) | (refine CallE.own (cb) ?_) | (refine CallH.pure (cb) rfl ?_) | (refine CallH.lent (cb) rfl ?_) | (refine CallH.own (cb) ?_) | (refine CallE.pure (c1) rfl ?_) | (refine CallE.lent (c1) rfl ?_) | (refine CallF.pure (c1) rfl ?_) | (refine CallF.lent (c1) rfl ?_) | (refine CallE.own (c1) ?_) | (refine CallH.pure (c1) rfl ?_) | (refine CallH.lent (c1) rfl ?_) | (refine CallH.own (c1) ?_)
  refine wLoopG [.row 8 27 8] (fun N st => ∃ (k : Nat), k + N = l.length ∧ st.s 1 = .p (.sl 8 (lrs l)) ∧ st.s 3 = .ptr 3 0 ∧ st.b 3 = some (.box 40 [.p (.sl 5 (zns h.im.ns)), .p (.sl 1 (ints h.im.ss)), .p (I h.im.nx), .p (I h.im.c.ep), .p (I h.im.c.n), .p (I h.im.c.kind), .p (.sl 4 (mbs h.im.c.ms)), .p (I h.im.ae), .p (I h.im.an), .p (.sl 8 (txns h.lg))]) ∧ st.s 5 = .ptr 5 0 ∧ st.b 5 = some (.box 29 [.p (I self), .p (I id), .p (I e), .p (I n)]) ∧ st.s 7 = .ptr 7 0 ∧ st.b 7 = some (.box 25 [.p (I zz.1), .p (I zz.2)]) ∧ st.s 8 = .row 8 ∧ st.b 8 = some (.row 27 8 (lrs (moreL id e n (l.take k)))) ∧ st.s 28 = .p (.sl 8 (lrs l)) ∧ st.s 29 = .p (I l.length) ∧ st.s 30 = .p (I k)) l.length ⟨0, by simp [frzL, gh1, moreL, lrs]⟩ fun K N st hL ⟨k, hkN, g1, g3, b3, g5, b5, g7, b7, g8, b8, g28, g29, g30⟩ => ?_
  by_cases hlt : k < l.length
  · have hlt' : (k : Int) < l.length := by omega
    have hw := wrapS k _ hlt (by omega)
    have he := lrs_get hlt
    have d := cmp02_con l[k].ae l[k].an e n
    have hsn := moreL_snoc id e n hlt
    have hml : (moreL id e n (l.take k)).length ≤ k := by simp [moreL]; omega
    have s1 := lrs_snoc (moreL id e n (l.take k)) (upd id e n l[k])
    have hqq := lrs_len (moreL id e n (l.take k))
    rw [← hsn] at s1
    generalize moreL id e n (l.take k) = q at *
    by_cases p1 : l[k].id = id
    · by_cases p2 : zcmp l[k].ae l[k].an e n < 0
      · have hu : upd id e n l[k] = { l[k] with ph := 4, ae := e, an := n } := by unfold upd; rw [if_pos p1, if_pos p2]
        rw [hu] at s1
        simp only at s1
        replace p1 : (l[k].id = id) = True := eq_true p1
        repeat' first | (refine And.intro (by (try simp only [hqq, List.length_cons, List.length_nil]); omega) ?_) | (refine hK _ ?_; clear hK) | (refine hK _ _ ?_; clear hK) | (clear hK; refine hK _ ?_; clear hK) | (clear hK; clear hK; refine hK _ ?_; clear hK) | (clear hK; clear hK; clear hK; refine hK _ ?_; clear hK) | (clear hK; clear hK; clear hK; clear hK; refine hK _ ?_; clear hK) | (refine wSeq fun K hK => ?_) | ((first | refine wReg ?_ | refine wDrwQ rfl (by kernel_rfl) ?_ | refine wDrwI ?_ | refine wDrw (by kernel_rfl) ?_); simp only [List.map_cons, List.map_nil, strip]) | ((first | refine wIs fun K hK => ?_ | refine wOs fun K hK => ?_ | refine wQs fun K hK => ?_ | refine CallK_plain ?_ | refine CallQ_plain ?_ | refine CallR_plain ?_ | refine wCond ?_); simp [g1, g3, b3, g5, b5, g7, b7, g8, b8, g28, g29, g30, hlt, hlt', hw, he, p1, p2, s1]) | (refine wIn ?_; refine And.intro (by kernel_rfl) ?_; try simp only [thenA_n]) | (first | refine wBlock ?_ | refine wScope ?_) | ((first | refine wRet ?_ | refine wExit ?_ | refine wSkip ?_); try simp) | ((first | refine wLabel ?_ | refine wOn ?_ | refine wQn ?_); try simp only [thenA_n]) | (refine CallE.pure (d) rfl ?_) | (refine CallE.lent (d) rfl ?_) | (refine CallF.pure (d) rfl ?_) | (refine CallF.lent (d) rfl ?_) | (refine CallE.own (d) ?_) | (refine CallH.pure (d) rfl ?_) | (refine CallH.lent (d) rfl ?_) | (refine CallH.own (d) ?_)
        refine hL _ (N - 1) (by omega) ⟨k + 1, by omega, ?_⟩
        simp [g1, g3, b3, g5, b5, g7, b7, g8, b8, g28, g29, g30, hw, s1]
      · have hu : upd id e n l[k] = { l[k] with ph := 4 } := by unfold upd; rw [if_pos p1, if_neg p2]
        rw [hu] at s1
        simp only at s1
        replace p1 : (l[k].id = id) = True := eq_true p1
        repeat' first | (refine And.intro (by (try simp only [hqq, List.length_cons, List.length_nil]); omega) ?_) | (refine hK _ ?_; clear hK) | (refine hK _ _ ?_; clear hK) | (clear hK; refine hK _ ?_; clear hK) | (clear hK; clear hK; refine hK _ ?_; clear hK) | (clear hK; clear hK; clear hK; refine hK _ ?_; clear hK) | (clear hK; clear hK; clear hK; clear hK; refine hK _ ?_; clear hK) | (refine wSeq fun K hK => ?_) | ((first | refine wReg ?_ | refine wDrwQ rfl (by kernel_rfl) ?_ | refine wDrwI ?_ | refine wDrw (by kernel_rfl) ?_); simp only [List.map_cons, List.map_nil, strip]) | ((first | refine wIs fun K hK => ?_ | refine wOs fun K hK => ?_ | refine wQs fun K hK => ?_ | refine CallK_plain ?_ | refine CallQ_plain ?_ | refine CallR_plain ?_ | refine wCond ?_); simp [g1, g3, b3, g5, b5, g7, b7, g8, b8, g28, g29, g30, hlt, hlt', hw, he, p1, p2, s1]) | (refine wIn ?_; refine And.intro (by kernel_rfl) ?_; try simp only [thenA_n]) | (first | refine wBlock ?_ | refine wScope ?_) | ((first | refine wRet ?_ | refine wExit ?_ | refine wSkip ?_); try simp) | ((first | refine wLabel ?_ | refine wOn ?_ | refine wQn ?_); try simp only [thenA_n]) | (refine CallE.pure (d) rfl ?_) | (refine CallE.lent (d) rfl ?_) | (refine CallF.pure (d) rfl ?_) | (refine CallF.lent (d) rfl ?_) | (refine CallE.own (d) ?_) | (refine CallH.pure (d) rfl ?_) | (refine CallH.lent (d) rfl ?_) | (refine CallH.own (d) ?_)
        refine hL _ (N - 1) (by omega) ⟨k + 1, by omega, ?_⟩
        simp [g1, g3, b3, g5, b5, g7, b7, g8, b8, g28, g29, g30, hw, s1]
    · have hu : upd id e n l[k] = l[k] := by unfold upd; rw [if_neg p1]
      rw [hu] at s1
      replace p1 : (l[k].id = id) = False := eq_false p1
      repeat' first | (refine And.intro (by (try simp only [hqq, List.length_cons, List.length_nil]); omega) ?_) | (refine hK _ ?_; clear hK) | (refine hK _ _ ?_; clear hK) | (clear hK; refine hK _ ?_; clear hK) | (clear hK; clear hK; refine hK _ ?_; clear hK) | (clear hK; clear hK; clear hK; refine hK _ ?_; clear hK) | (clear hK; clear hK; clear hK; clear hK; refine hK _ ?_; clear hK) | (refine wSeq fun K hK => ?_) | ((first | refine wReg ?_ | refine wDrwQ rfl (by kernel_rfl) ?_ | refine wDrwI ?_ | refine wDrw (by kernel_rfl) ?_); simp only [List.map_cons, List.map_nil, strip]) | ((first | refine wIs fun K hK => ?_ | refine wOs fun K hK => ?_ | refine wQs fun K hK => ?_ | refine CallK_plain ?_ | refine CallQ_plain ?_ | refine CallR_plain ?_ | refine wCond ?_); simp [g1, g3, b3, g5, b5, g7, b7, g8, b8, g28, g29, g30, hlt, hlt', hw, he, p1, s1]) | (refine wIn ?_; refine And.intro (by kernel_rfl) ?_; try simp only [thenA_n]) | (first | refine wBlock ?_ | refine wScope ?_) | ((first | refine wRet ?_ | refine wExit ?_ | refine wSkip ?_); try simp) | ((first | refine wLabel ?_ | refine wOn ?_ | refine wQn ?_); try simp only [thenA_n])
      refine hL _ (N - 1) (by omega) ⟨k + 1, by omega, ?_⟩
      simp [g1, g3, b3, g5, b5, g7, b7, g8, b8, g28, g29, g30, hw, s1]
  · have hlt' : ¬ (k : Int) < l.length := by omega
    rw [List.take_of_length_le (by omega)] at b8
    repeat' first | (refine hK _ ?_; clear hK) | (refine hK _ _ ?_; clear hK) | (clear hK; refine hK _ ?_; clear hK) | (clear hK; clear hK; refine hK _ ?_; clear hK) | (clear hK; clear hK; clear hK; refine hK _ ?_; clear hK) | (clear hK; clear hK; clear hK; clear hK; refine hK _ ?_; clear hK) | (refine wSeq fun K hK => ?_) | ((first | refine wReg ?_ | refine wDrwQ rfl (by kernel_rfl) ?_ | refine wDrwI ?_ | refine wDrw (by kernel_rfl) ?_); simp only [List.map_cons, List.map_nil, strip]) | ((first | refine wIs fun K hK => ?_ | refine wOs fun K hK => ?_ | refine wQs fun K hK => ?_ | refine CallK_plain ?_ | refine CallQ_plain ?_ | refine CallR_plain ?_ | refine wCond ?_); simp [g1, g3, b3, g5, b5, g7, b7, g8, b8, g28, g29, g30, hlt, hlt', hge]) | (refine wIn ?_; refine And.intro (by kernel_rfl) ?_; try simp only [thenA_n]) | (first | refine wBlock ?_ | refine wScope ?_) | ((first | refine wRet ?_ | refine wExit ?_ | refine wSkip ?_); try simp) | ((first | refine wLabel ?_ | refine wOn ?_ | refine wQn ?_); try simp only [thenA_n]) | (refine CallE.pure (cb) rfl ?_) | (refine CallE.lent (cb) rfl ?_) | (refine CallF.pure (cb) rfl ?_) | (refine CallF.lent (cb) rfl ?_) | (refine CallE.own (cb) ?_) | (refine CallH.pure (cb) rfl ?_) | (refine CallH.lent (cb) rfl ?_) | (refine CallH.own (cb) ?_) | (refine CallE.pure (c2) rfl ?_) | (refine CallE.lent (c2) rfl ?_) | (refine CallF.pure (c2) rfl ?_) | (refine CallF.lent (c2) rfl ?_) | (refine CallE.own (c2) ?_) | (refine CallH.pure (c2) rfl ?_) | (refine CallH.lent (c2) rfl ?_) | (refine CallH.own (c2) ?_) | (refine CallE.pure (c3) rfl ?_) | (refine CallE.lent (c3) rfl ?_) | (refine CallF.pure (c3) rfl ?_) | (refine CallF.lent (c3) rfl ?_) | (refine CallE.own (c3) ?_) | (refine CallH.pure (c3) rfl ?_) | (refine CallH.lent (c3) rfl ?_) | (refine CallH.own (c3) ?_) | (refine CallE.pure (c4) rfl ?_) | (refine CallE.lent (c4) rfl ?_) | (refine CallF.pure (c4) rfl ?_) | (refine CallF.lent (c4) rfl ?_) | (refine CallE.own (c4) ?_) | (refine CallH.pure (c4) rfl ?_) | (refine CallH.lent (c4) rfl ?_) | (refine CallH.own (c4) ?_) | (refine CallE.pure (ca) rfl ?_) | (refine CallE.lent (ca) rfl ?_) | (refine CallF.pure (ca) rfl ?_) | (refine CallF.lent (ca) rfl ?_) | (refine CallE.own (ca) ?_) | (refine CallH.pure (ca) rfl ?_) | (refine CallH.lent (ca) rfl ?_) | (refine CallH.own (ca) ?_)
    all_goals apply hr
    all_goals simp [Try.f6]
end Go.Proofs.Ytnfcbkageifmfaa
