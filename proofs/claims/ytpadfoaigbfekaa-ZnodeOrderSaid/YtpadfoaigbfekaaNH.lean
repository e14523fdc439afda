/- Nodes of the tree: the law ZnodeStays. -/
import Derived.Test.YtpadfoaigbfekaaNF
import Derived.Test.YtpadfoaigbfekaaNG
namespace Go.Proofs.Ytpadfoaigbfekaa
set_option linter.unusedSimpArgs false
set_option linter.unusedVariables false
open Go Go.Av
attribute [local simp] Try.T1 Try.T2 Try.T3 Try.T4 Try.T5 Try.T9 Try.T12 Try.T21 Try.T22 Try.T24 Try.T25 Try.T26 Try.T27 Try.T28 Try.T29 Try.T30 Try.T31 Try.T33 Try.T34 Try.T35 Try.T36 Try.T37 Try.T38 Try.T39 Try.T41 Try.T42 Try.T43 Try.T44 Try.T46 Try.T47 Try.T49 Try.T51 Try.T52 Try.T53 Try.T54 Try.T56 Try.T57 Try.T58 Try.T59 Try.T60 Try.T62 Try.T64 Try.T65 Try.T66 Try.T67 Try.T68 Try.T69 Try.T70 Try.T71 Try.T72 Try.T73 Try.T75 Try.T76 Try.T77 Try.T78 Try.T79 Try.T80 Try.T82 Try.T83 Try.T84 Try.T85 Try.T87 Try.T88 Try.T89 Try.T90 Try.T91 Try.T92 Try.T93 Try.T94 Try.T95 Try.T96 Try.T97 Try.T98 Try.T99 Try.T100 Try.T102 Try.T103 Try.T104 Try.T105 Try.T106 Try.T107 Try.T109 Try.T110 Try.T111 Try.T112 Try.T113 Try.T114 Try.T115 Try.T116 Try.T117 Try.T123 Try.T126
attribute [local irreducible] Go.Av.CallK Go.Av.CallE Go.Av.CallQ Go.Av.CallF Go.Av.Con

theorem rst_len (l : List Zn) (q : List UInt8) : (rst l q).length ≤ l.length := (rst_sub l q).length_le
theorem putZ_len (l : List Zn) (z : Zn) : (putZ l z).length ≤ l.length + 1 := by
  have := rst_len (l.drop (att l z.p)) z.p
  have h2 := att_le l z.p
  unfold putZ
  simp at this ⊢
  omega
theorem goneZ_len (l : List Zn) (p : List UInt8) : (gone l p).length ≤ l.length := List.length_filter_le _ _
theorem tre_len {l : List Zn} (h : tre l = true) : 1 ≤ l.length ∧ l.length ≤ 60 := by
  obtain ⟨h1, -⟩ := tre_ris h
  unfold hdo at h1
  simp only [Bool.and_eq_true, decide_eq_true_eq] at h1
  exact h1.1
def sum3 (z : Zn) (p : List UInt8) : Int := IntKind.i64.wrap (IntKind.i64.wrap ((z.p.length : Int) + z.d.length) + p.length)
set_option maxHeartbeats 8000000 in
theorem znodeStays_con (l : List Zn) (z : Zn) (p : List UInt8) (hz : ∀ z ∈ l, long z) : ACon Try.prog 5 [.p (.sl 5 (zns l)), .p (.agg z.c), .p (SB p)] (.p (B true)) := by
  have c := far07_con l
  cases hf1 : farN l
  rotate_left
  · rw [hf1] at c
    unfold Zn.c
    refine wBody Try.tab Try.mixed Try.func5 rfl rfl Try.ntmps5 (by simp) (by simp) fun Q hr hn => ?_
    repeat' first | (refine hK _ ?_; clear hK) | (refine hK _ _ ?_; clear hK) | (clear hK; refine hK _ ?_; clear hK) | (clear hK; clear hK; refine hK _ ?_; clear hK) | (clear hK; clear hK; clear hK; refine hK _ ?_; clear hK) | (clear hK; clear hK; clear hK; clear hK; refine hK _ ?_; clear hK) | (refine wSeq fun K hK => ?_) | (refine wReg ?_; simp only [List.map_cons, List.map_nil, strip]) | (refine wDrwQ rfl (by kernel_rfl) ?_; simp only [List.map_cons, List.map_nil, strip]) | (refine wDrwI ?_; simp only [List.map_cons, List.map_nil, strip]) | (refine wDrw (by kernel_rfl) ?_; simp only [List.map_cons, List.map_nil, strip]) | (refine wIs fun K hK => ?_; simp) | (refine wIn ?_; refine And.intro (by kernel_rfl) ?_; try simp only [thenA_n]) | (refine wOs fun K hK => ?_; simp) | (refine wQs fun K hK => ?_; simp) | (refine CallK_plain ?_; simp) | (refine CallQ_plain ?_; simp) | (refine wRet ?_; try simp) | (refine wCond ?_; simp) | (refine wBlock ?_) | (refine wScope ?_) | (refine wLabel ?_; try simp only [thenA_n]) | (refine wExit ?_; try simp) | (refine wSkip ?_; try simp) | (refine wOn ?_; try simp only [thenA_n]) | (refine wQn ?_; try simp only [thenA_n]) | (refine CallE.pure (c) rfl ?_) | (refine CallE.lent (c) rfl ?_) | (refine CallF.pure (c) rfl ?_) | (refine CallF.lent (c) rfl ?_) | (refine CallE.own (c) ?_) | (refine CallE.pure (awake07) rfl ?_) | (refine CallE.lent (awake07) rfl ?_) | (refine CallF.pure (awake07) rfl ?_) | (refine CallF.lent (awake07) rfl ?_) | (refine CallE.own (awake07) ?_)
    all_goals apply hr
    all_goals simp [Try.f5]
  rw [hf1] at c
  by_cases hs : 3000 < IntKind.i64.wrap (IntKind.i64.wrap ((z.p.length : Int) + z.d.length) + p.length)
  · unfold Zn.c
    refine wBody Try.tab Try.mixed Try.func5 rfl rfl Try.ntmps5 (by simp) (by simp) fun Q hr hn => ?_
    repeat' first | (refine hK _ ?_; clear hK) | (refine hK _ _ ?_; clear hK) | (clear hK; refine hK _ ?_; clear hK) | (clear hK; clear hK; refine hK _ ?_; clear hK) | (clear hK; clear hK; clear hK; refine hK _ ?_; clear hK) | (clear hK; clear hK; clear hK; clear hK; refine hK _ ?_; clear hK) | (refine wSeq fun K hK => ?_) | (refine wReg ?_; simp only [List.map_cons, List.map_nil, strip]) | (refine wDrwQ rfl (by kernel_rfl) ?_; simp only [List.map_cons, List.map_nil, strip]) | (refine wDrwI ?_; simp only [List.map_cons, List.map_nil, strip]) | (refine wDrw (by kernel_rfl) ?_; simp only [List.map_cons, List.map_nil, strip]) | (refine wIs fun K hK => ?_; simp [hs]) | (refine wIn ?_; refine And.intro (by kernel_rfl) ?_; try simp only [thenA_n]) | (refine wOs fun K hK => ?_; simp [hs]) | (refine wQs fun K hK => ?_; simp [hs]) | (refine CallK_plain ?_; simp [hs]) | (refine CallQ_plain ?_; simp [hs]) | (refine wRet ?_; try simp) | (refine wCond ?_; simp [hs]) | (refine wBlock ?_) | (refine wScope ?_) | (refine wLabel ?_; try simp only [thenA_n]) | (refine wExit ?_; try simp) | (refine wSkip ?_; try simp) | (refine wOn ?_; try simp only [thenA_n]) | (refine wQn ?_; try simp only [thenA_n]) | (refine CallE.pure (c) rfl ?_) | (refine CallE.lent (c) rfl ?_) | (refine CallF.pure (c) rfl ?_) | (refine CallF.lent (c) rfl ?_) | (refine CallE.own (c) ?_) | (refine CallE.pure (awake07) rfl ?_) | (refine CallE.lent (awake07) rfl ?_) | (refine CallF.pure (awake07) rfl ?_) | (refine CallF.lent (awake07) rfl ?_) | (refine CallE.own (awake07) ?_)
    all_goals apply hr
    all_goals simp [Try.f5]
  have ct := treeR_con l hz
  cases ht : tre l
  · rw [ht] at ct
    unfold Zn.c
    refine wBody Try.tab Try.mixed Try.func5 rfl rfl Try.ntmps5 (by simp) (by simp) fun Q hr hn => ?_
    repeat' first | (refine hK _ ?_; clear hK) | (refine hK _ _ ?_; clear hK) | (clear hK; refine hK _ ?_; clear hK) | (clear hK; clear hK; refine hK _ ?_; clear hK) | (clear hK; clear hK; clear hK; refine hK _ ?_; clear hK) | (clear hK; clear hK; clear hK; clear hK; refine hK _ ?_; clear hK) | (refine wSeq fun K hK => ?_) | (refine wReg ?_; simp only [List.map_cons, List.map_nil, strip]) | (refine wDrwQ rfl (by kernel_rfl) ?_; simp only [List.map_cons, List.map_nil, strip]) | (refine wDrwI ?_; simp only [List.map_cons, List.map_nil, strip]) | (refine wDrw (by kernel_rfl) ?_; simp only [List.map_cons, List.map_nil, strip]) | (refine wIs fun K hK => ?_; simp [hs]) | (refine wIn ?_; refine And.intro (by kernel_rfl) ?_; try simp only [thenA_n]) | (refine wOs fun K hK => ?_; simp [hs]) | (refine wQs fun K hK => ?_; simp [hs]) | (refine CallK_plain ?_; simp [hs]) | (refine CallQ_plain ?_; simp [hs]) | (refine wRet ?_; try simp) | (refine wCond ?_; simp [hs]) | (refine wBlock ?_) | (refine wScope ?_) | (refine wLabel ?_; try simp only [thenA_n]) | (refine wExit ?_; try simp) | (refine wSkip ?_; try simp) | (refine wOn ?_; try simp only [thenA_n]) | (refine wQn ?_; try simp only [thenA_n]) | (refine CallE.pure (c) rfl ?_) | (refine CallE.lent (c) rfl ?_) | (refine CallF.pure (c) rfl ?_) | (refine CallF.lent (c) rfl ?_) | (refine CallE.own (c) ?_) | (refine CallE.pure (ct) rfl ?_) | (refine CallE.lent (ct) rfl ?_) | (refine CallF.pure (ct) rfl ?_) | (refine CallF.lent (ct) rfl ?_) | (refine CallE.own (ct) ?_) | (refine CallE.pure (awake07) rfl ?_) | (refine CallE.lent (awake07) rfl ?_) | (refine CallF.pure (awake07) rfl ?_) | (refine CallF.lent (awake07) rfl ?_) | (refine CallE.own (awake07) ?_)
    all_goals apply hr
    all_goals simp [Try.f5]
  rw [ht] at ct
  have hl := (tre_len ht).2
  obtain ⟨-, hris, -, -⟩ := tre_ris ht
  have hpl := putZ_len l z
  have hgl := goneZ_len l p
  have c1 := put_con l z (by omega)
  have c2 := gone_con l p (by omega)
  have c3 := find_con (putZ l z) z.p
  rw [fnd_put, if_pos rfl] at c3
  have c4 := find_con (gone l p) p
  rw [fnd_gone, if_pos rfl] at c4
  have c5 := put_con (putZ l z) z (by omega)
  rw [put_put] at c5
  have c6 := same07_con (putZ l z) (putZ l z)
  have c7 := gone_con (gone l p) p (by omega)
  rw [gone_gone] at c7
  have c8 := same07_con (gone l p) (gone l p)
  rw [decide_eq_true rfl] at c6 c8
  have e1 : ∀ y ∈ l, ¬ y.p = z.p → fnd (putZ l z) y.p = (y, true) := fun y hy h => by
    rw [fnd_put, if_neg fun e => h e.symm]; exact ris_fnd hris hy
  have e2 : ∀ y ∈ l, ¬ y.p = p → fnd (gone l p) y.p = (y, true) := fun y hy h => by
    rw [fnd_gone, if_neg h]; exact ris_fnd hris hy
  have f1 := fun w => find_con (putZ l z) w
  have f2 := fun w => find_con (gone l p) w
  generalize putZ l z = m at *
  generalize gone l p = n at *
  simp only [Zn.c, zz] at c1 c3 c4 c5 f1 f2 ⊢
  refine wBody Try.tab Try.mixed Try.func5 rfl rfl Try.ntmps5 (by simp) (by simp) fun Q hr hn => ?_
  repeat' first | (refine hK _ ?_; clear hK) | (refine hK _ _ ?_; clear hK) | (clear hK; refine hK _ ?_; clear hK) | (clear hK; clear hK; refine hK _ ?_; clear hK) | (clear hK; clear hK; clear hK; refine hK _ ?_; clear hK) | (clear hK; clear hK; clear hK; clear hK; refine hK _ ?_; clear hK) | (refine wSeq fun K hK => ?_) | (refine wReg ?_; simp only [List.map_cons, List.map_nil, strip]) | (refine wDrwQ rfl (by kernel_rfl) ?_; simp only [List.map_cons, List.map_nil, strip]) | (refine wDrwI ?_; simp only [List.map_cons, List.map_nil, strip]) | (refine wDrw (by kernel_rfl) ?_; simp only [List.map_cons, List.map_nil, strip]) | (refine wIs fun K hK => ?_; simp [hs]) | (refine wIn ?_; refine And.intro (by kernel_rfl) ?_; try simp only [thenA_n]) | (refine wOs fun K hK => ?_; simp [hs]) | (refine wQs fun K hK => ?_; simp [hs]) | (refine CallK_plain ?_; simp [hs]) | (refine CallQ_plain ?_; simp [hs]) | (refine wRet ?_; try simp) | (refine wCond ?_; simp [hs]) | (refine wBlock ?_) | (refine wScope ?_) | (refine wLabel ?_; try simp only [thenA_n]) | (refine wExit ?_; try simp) | (refine wSkip ?_; try simp) | (refine wOn ?_; try simp only [thenA_n]) | (refine wQn ?_; try simp only [thenA_n]) | (refine CallE.pure (c) rfl ?_) | (refine CallE.lent (c) rfl ?_) | (refine CallF.pure (c) rfl ?_) | (refine CallF.lent (c) rfl ?_) | (refine CallE.own (c) ?_) | (refine CallE.pure (ct) rfl ?_) | (refine CallE.lent (ct) rfl ?_) | (refine CallF.pure (ct) rfl ?_) | (refine CallF.lent (ct) rfl ?_) | (refine CallE.own (ct) ?_) | (refine CallE.pure (c1) rfl ?_) | (refine CallE.lent (c1) rfl ?_) | (refine CallF.pure (c1) rfl ?_) | (refine CallF.lent (c1) rfl ?_) | (refine CallE.own (c1) ?_) | (refine CallE.pure (c2) rfl ?_) | (refine CallE.lent (c2) rfl ?_) | (refine CallF.pure (c2) rfl ?_) | (refine CallF.lent (c2) rfl ?_) | (refine CallE.own (c2) ?_) | (refine CallE.pure (c3) rfl ?_) | (refine CallE.lent (c3) rfl ?_) | (refine CallF.pure (c3) rfl ?_) | (refine CallF.lent (c3) rfl ?_) | (refine CallE.own (c3) ?_) | (refine CallE.pure (c4) rfl ?_) | (refine CallE.lent (c4) rfl ?_) | (refine CallF.pure (c4) rfl ?_) | (refine CallF.lent (c4) rfl ?_) | (refine CallE.own (c4) ?_) | (refine CallE.pure (c5) rfl ?_) | (refine CallE.lent (c5) rfl ?_) | (refine CallF.pure (c5) rfl ?_) | (refine CallF.lent (c5) rfl ?_) | (refine CallE.own (c5) ?_) | (refine CallE.pure (c6) rfl ?_) | (refine CallE.lent (c6) rfl ?_) | (refine CallF.pure (c6) rfl ?_) | (refine CallF.lent (c6) rfl ?_) | (refine CallE.own (c6) ?_) | (refine CallE.pure (c7) rfl ?_) | (refine CallE.lent (c7) rfl ?_) | (refine CallF.pure (c7) rfl ?_) | (refine CallF.lent (c7) rfl ?_) | (refine CallE.own (c7) ?_) | (refine CallE.pure (c8) rfl ?_) | (refine CallE.lent (c8) rfl ?_) | (refine CallF.pure (c8) rfl ?_) | (refine CallF.lent (c8) rfl ?_) | (refine CallE.own (c8) ?_)
  refine wLoop (fun N st => ∃ k, k + N = l.length ∧ st.s 2 = .p (SB p) ∧ st.s 7 = .p (.sl 5 (zns m)) ∧ st.s 8 = .p (.sl 5 (zns n)) ∧ st.s 85 = .p (.sl 5 (zns l)) ∧ st.s 86 = .p (I l.length) ∧ st.s 87 = .p (I k) ∧ st.s 4 = .ptr 4 0 ∧ st.b 4 = some (.box 24 [.p (SB z.p), .p (SB z.d), .p (I z.v), .p (I z.k), .p (I z.o)])) l.length ⟨0, by simp⟩ fun K N st hL ⟨k, hk, g2, g7, g8, g85, g86, g87, g4, b4⟩ => ?_
  by_cases hlt : k < l.length
  · have hw := wrapS k _ hlt (by omega)
    have he := zns_get hlt
    have d1 := f1 l[k].p
    have d2 := f2 l[k].p
    have e1' := e1 l[k] (List.getElem_mem hlt)
    have e2' := e2 l[k] (List.getElem_mem hlt)
    by_cases o1 : l[k].p = z.p
    all_goals by_cases o2 : l[k].p = p
    · generalize fnd m l[k].p = r1 at d1 e1'
      generalize fnd n l[k].p = r2 at d2 e2'
      replace o1 : (l[k].p = z.p) = True := eq_true o1
      replace o2 : (l[k].p = p) = True := eq_true o2
      repeat' first | (refine hK _ ?_; clear hK) | (refine hK _ _ ?_; clear hK) | (clear hK; refine hK _ ?_; clear hK) | (clear hK; clear hK; refine hK _ ?_; clear hK) | (clear hK; clear hK; clear hK; refine hK _ ?_; clear hK) | (clear hK; clear hK; clear hK; clear hK; refine hK _ ?_; clear hK) | (refine wSeq fun K hK => ?_) | (refine wReg ?_; simp only [List.map_cons, List.map_nil, strip]) | (refine wDrwQ rfl (by kernel_rfl) ?_; simp only [List.map_cons, List.map_nil, strip]) | (refine wDrwI ?_; simp only [List.map_cons, List.map_nil, strip]) | (refine wDrw (by kernel_rfl) ?_; simp only [List.map_cons, List.map_nil, strip]) | (refine wIs fun K hK => ?_; simp [g2, g7, g8, g85, g86, g87, g4, b4, hlt, hw, he, o1, o2]) | (refine wIn ?_; refine And.intro (by kernel_rfl) ?_; try simp only [thenA_n]) | (refine wOs fun K hK => ?_; simp [g2, g7, g8, g85, g86, g87, g4, b4, hlt, hw, he, o1, o2]) | (refine wQs fun K hK => ?_; simp [g2, g7, g8, g85, g86, g87, g4, b4, hlt, hw, he, o1, o2]) | (refine CallK_plain ?_; simp [g2, g7, g8, g85, g86, g87, g4, b4, hlt, hw, he, o1, o2]) | (refine CallQ_plain ?_; simp [g2, g7, g8, g85, g86, g87, g4, b4, hlt, hw, he, o1, o2]) | (refine wRet ?_; try simp) | (refine wCond ?_; simp [g2, g7, g8, g85, g86, g87, g4, b4, hlt, hw, he, o1, o2]) | (refine wBlock ?_) | (refine wScope ?_) | (refine wLabel ?_; try simp only [thenA_n]) | (refine wExit ?_; try simp) | (refine wSkip ?_; try simp) | (refine wOn ?_; try simp only [thenA_n]) | (refine wQn ?_; try simp only [thenA_n]) | (refine CallE.pure (d1) rfl ?_) | (refine CallE.lent (d1) rfl ?_) | (refine CallF.pure (d1) rfl ?_) | (refine CallF.lent (d1) rfl ?_) | (refine CallE.own (d1) ?_) | (refine CallE.pure (d2) rfl ?_) | (refine CallE.lent (d2) rfl ?_) | (refine CallF.pure (d2) rfl ?_) | (refine CallF.lent (d2) rfl ?_) | (refine CallE.own (d2) ?_)
      refine hL _ (N - 1) (by omega) ⟨k + 1, by omega, ?_⟩
      simp [g2, g7, g8, g85, g86, g87, g4, b4, hw]
    · generalize fnd m l[k].p = r1 at d1 e1'
      rw [e2' o2] at d2
      replace o1 : (l[k].p = z.p) = True := eq_true o1
      replace o2 : (l[k].p = p) = False := eq_false o2
      repeat' first | (refine hK _ ?_; clear hK) | (refine hK _ _ ?_; clear hK) | (clear hK; refine hK _ ?_; clear hK) | (clear hK; clear hK; refine hK _ ?_; clear hK) | (clear hK; clear hK; clear hK; refine hK _ ?_; clear hK) | (clear hK; clear hK; clear hK; clear hK; refine hK _ ?_; clear hK) | (refine wSeq fun K hK => ?_) | (refine wReg ?_; simp only [List.map_cons, List.map_nil, strip]) | (refine wDrwQ rfl (by kernel_rfl) ?_; simp only [List.map_cons, List.map_nil, strip]) | (refine wDrwI ?_; simp only [List.map_cons, List.map_nil, strip]) | (refine wDrw (by kernel_rfl) ?_; simp only [List.map_cons, List.map_nil, strip]) | (refine wIs fun K hK => ?_; simp [g2, g7, g8, g85, g86, g87, g4, b4, hlt, hw, he, o1, o2]) | (refine wIn ?_; refine And.intro (by kernel_rfl) ?_; try simp only [thenA_n]) | (refine wOs fun K hK => ?_; simp [g2, g7, g8, g85, g86, g87, g4, b4, hlt, hw, he, o1, o2]) | (refine wQs fun K hK => ?_; simp [g2, g7, g8, g85, g86, g87, g4, b4, hlt, hw, he, o1, o2]) | (refine CallK_plain ?_; simp [g2, g7, g8, g85, g86, g87, g4, b4, hlt, hw, he, o1, o2]) | (refine CallQ_plain ?_; simp [g2, g7, g8, g85, g86, g87, g4, b4, hlt, hw, he, o1, o2]) | (refine wRet ?_; try simp) | (refine wCond ?_; simp [g2, g7, g8, g85, g86, g87, g4, b4, hlt, hw, he, o1, o2]) | (refine wBlock ?_) | (refine wScope ?_) | (refine wLabel ?_; try simp only [thenA_n]) | (refine wExit ?_; try simp) | (refine wSkip ?_; try simp) | (refine wOn ?_; try simp only [thenA_n]) | (refine wQn ?_; try simp only [thenA_n]) | (refine CallE.pure (d1) rfl ?_) | (refine CallE.lent (d1) rfl ?_) | (refine CallF.pure (d1) rfl ?_) | (refine CallF.lent (d1) rfl ?_) | (refine CallE.own (d1) ?_) | (refine CallE.pure (d2) rfl ?_) | (refine CallE.lent (d2) rfl ?_) | (refine CallF.pure (d2) rfl ?_) | (refine CallF.lent (d2) rfl ?_) | (refine CallE.own (d2) ?_)
      refine hL _ (N - 1) (by omega) ⟨k + 1, by omega, ?_⟩
      simp [g2, g7, g8, g85, g86, g87, g4, b4, hw]
    · rw [e1' o1] at d1
      generalize fnd n l[k].p = r2 at d2 e2'
      replace o1 : (l[k].p = z.p) = False := eq_false o1
      replace o2 : (l[k].p = p) = True := eq_true o2
      repeat' first | (refine hK _ ?_; clear hK) | (refine hK _ _ ?_; clear hK) | (clear hK; refine hK _ ?_; clear hK) | (clear hK; clear hK; refine hK _ ?_; clear hK) | (clear hK; clear hK; clear hK; refine hK _ ?_; clear hK) | (clear hK; clear hK; clear hK; clear hK; refine hK _ ?_; clear hK) | (refine wSeq fun K hK => ?_) | (refine wReg ?_; simp only [List.map_cons, List.map_nil, strip]) | (refine wDrwQ rfl (by kernel_rfl) ?_; simp only [List.map_cons, List.map_nil, strip]) | (refine wDrwI ?_; simp only [List.map_cons, List.map_nil, strip]) | (refine wDrw (by kernel_rfl) ?_; simp only [List.map_cons, List.map_nil, strip]) | (refine wIs fun K hK => ?_; simp [g2, g7, g8, g85, g86, g87, g4, b4, hlt, hw, he, o1, o2]) | (refine wIn ?_; refine And.intro (by kernel_rfl) ?_; try simp only [thenA_n]) | (refine wOs fun K hK => ?_; simp [g2, g7, g8, g85, g86, g87, g4, b4, hlt, hw, he, o1, o2]) | (refine wQs fun K hK => ?_; simp [g2, g7, g8, g85, g86, g87, g4, b4, hlt, hw, he, o1, o2]) | (refine CallK_plain ?_; simp [g2, g7, g8, g85, g86, g87, g4, b4, hlt, hw, he, o1, o2]) | (refine CallQ_plain ?_; simp [g2, g7, g8, g85, g86, g87, g4, b4, hlt, hw, he, o1, o2]) | (refine wRet ?_; try simp) | (refine wCond ?_; simp [g2, g7, g8, g85, g86, g87, g4, b4, hlt, hw, he, o1, o2]) | (refine wBlock ?_) | (refine wScope ?_) | (refine wLabel ?_; try simp only [thenA_n]) | (refine wExit ?_; try simp) | (refine wSkip ?_; try simp) | (refine wOn ?_; try simp only [thenA_n]) | (refine wQn ?_; try simp only [thenA_n]) | (refine CallE.pure (d1) rfl ?_) | (refine CallE.lent (d1) rfl ?_) | (refine CallF.pure (d1) rfl ?_) | (refine CallF.lent (d1) rfl ?_) | (refine CallE.own (d1) ?_) | (refine CallE.pure (d2) rfl ?_) | (refine CallE.lent (d2) rfl ?_) | (refine CallF.pure (d2) rfl ?_) | (refine CallF.lent (d2) rfl ?_) | (refine CallE.own (d2) ?_)
      refine hL _ (N - 1) (by omega) ⟨k + 1, by omega, ?_⟩
      simp [g2, g7, g8, g85, g86, g87, g4, b4, hw]
    · rw [e1' o1] at d1
      rw [e2' o2] at d2
      replace o1 : (l[k].p = z.p) = False := eq_false o1
      replace o2 : (l[k].p = p) = False := eq_false o2
      repeat' first | (refine hK _ ?_; clear hK) | (refine hK _ _ ?_; clear hK) | (clear hK; refine hK _ ?_; clear hK) | (clear hK; clear hK; refine hK _ ?_; clear hK) | (clear hK; clear hK; clear hK; refine hK _ ?_; clear hK) | (clear hK; clear hK; clear hK; clear hK; refine hK _ ?_; clear hK) | (refine wSeq fun K hK => ?_) | (refine wReg ?_; simp only [List.map_cons, List.map_nil, strip]) | (refine wDrwQ rfl (by kernel_rfl) ?_; simp only [List.map_cons, List.map_nil, strip]) | (refine wDrwI ?_; simp only [List.map_cons, List.map_nil, strip]) | (refine wDrw (by kernel_rfl) ?_; simp only [List.map_cons, List.map_nil, strip]) | (refine wIs fun K hK => ?_; simp [g2, g7, g8, g85, g86, g87, g4, b4, hlt, hw, he, o1, o2]) | (refine wIn ?_; refine And.intro (by kernel_rfl) ?_; try simp only [thenA_n]) | (refine wOs fun K hK => ?_; simp [g2, g7, g8, g85, g86, g87, g4, b4, hlt, hw, he, o1, o2]) | (refine wQs fun K hK => ?_; simp [g2, g7, g8, g85, g86, g87, g4, b4, hlt, hw, he, o1, o2]) | (refine CallK_plain ?_; simp [g2, g7, g8, g85, g86, g87, g4, b4, hlt, hw, he, o1, o2]) | (refine CallQ_plain ?_; simp [g2, g7, g8, g85, g86, g87, g4, b4, hlt, hw, he, o1, o2]) | (refine wRet ?_; try simp) | (refine wCond ?_; simp [g2, g7, g8, g85, g86, g87, g4, b4, hlt, hw, he, o1, o2]) | (refine wBlock ?_) | (refine wScope ?_) | (refine wLabel ?_; try simp only [thenA_n]) | (refine wExit ?_; try simp) | (refine wSkip ?_; try simp) | (refine wOn ?_; try simp only [thenA_n]) | (refine wQn ?_; try simp only [thenA_n]) | (refine CallE.pure (d1) rfl ?_) | (refine CallE.lent (d1) rfl ?_) | (refine CallF.pure (d1) rfl ?_) | (refine CallF.lent (d1) rfl ?_) | (refine CallE.own (d1) ?_) | (refine CallE.pure (d2) rfl ?_) | (refine CallE.lent (d2) rfl ?_) | (refine CallF.pure (d2) rfl ?_) | (refine CallF.lent (d2) rfl ?_) | (refine CallE.own (d2) ?_)
      refine hL _ (N - 1) (by omega) ⟨k + 1, by omega, ?_⟩
      simp [g2, g7, g8, g85, g86, g87, g4, b4, hw]
  · repeat' first | (refine hK _ ?_; clear hK) | (refine hK _ _ ?_; clear hK) | (clear hK; refine hK _ ?_; clear hK) | (clear hK; clear hK; refine hK _ ?_; clear hK) | (clear hK; clear hK; clear hK; refine hK _ ?_; clear hK) | (clear hK; clear hK; clear hK; clear hK; refine hK _ ?_; clear hK) | (refine wSeq fun K hK => ?_) | (refine wReg ?_; simp only [List.map_cons, List.map_nil, strip]) | (refine wDrwQ rfl (by kernel_rfl) ?_; simp only [List.map_cons, List.map_nil, strip]) | (refine wDrwI ?_; simp only [List.map_cons, List.map_nil, strip]) | (refine wDrw (by kernel_rfl) ?_; simp only [List.map_cons, List.map_nil, strip]) | (refine wIs fun K hK => ?_; simp [g2, g7, g8, g85, g86, g87, g4, b4, hlt]) | (refine wIn ?_; refine And.intro (by kernel_rfl) ?_; try simp only [thenA_n]) | (refine wOs fun K hK => ?_; simp [g2, g7, g8, g85, g86, g87, g4, b4, hlt]) | (refine wQs fun K hK => ?_; simp [g2, g7, g8, g85, g86, g87, g4, b4, hlt]) | (refine CallK_plain ?_; simp [g2, g7, g8, g85, g86, g87, g4, b4, hlt]) | (refine CallQ_plain ?_; simp [g2, g7, g8, g85, g86, g87, g4, b4, hlt]) | (refine wRet ?_; try simp) | (refine wCond ?_; simp [g2, g7, g8, g85, g86, g87, g4, b4, hlt]) | (refine wBlock ?_) | (refine wScope ?_) | (refine wLabel ?_; try simp only [thenA_n]) | (refine wExit ?_; try simp) | (refine wSkip ?_; try simp) | (refine wOn ?_; try simp only [thenA_n]) | (refine wQn ?_; try simp only [thenA_n]) | (refine CallE.pure (awake07) rfl ?_) | (refine CallE.lent (awake07) rfl ?_) | (refine CallF.pure (awake07) rfl ?_) | (refine CallF.lent (awake07) rfl ?_) | (refine CallE.own (awake07) ?_)
    all_goals apply hr
    all_goals simp [Try.f5]
end Go.Proofs.Ytpadfoaigbfekaa
