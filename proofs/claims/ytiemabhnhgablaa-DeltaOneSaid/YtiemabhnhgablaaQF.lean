/- Whether a set is a quorum: the program's answer and the document's. -/
import Derived.Test.YtiemabhnhgablaaQE
namespace Go.Proofs.Ytiemabhnhgablaa
set_option linter.unusedSimpArgs false
set_option linter.unusedVariables false
open Go Go.Av
attribute [local simp] Try.T1 Try.T2 Try.T3 Try.T4 Try.T5 Try.T9 Try.T12 Try.T15 Try.T16 Try.T17 Try.T21 Try.T23 Try.T24 Try.T26 Try.T27 Try.T28 Try.T30 Try.T31 Try.T32 Try.T33 Try.T35 Try.T36 Try.T37 Try.T38 Try.T39 Try.T41 Try.T43 Try.T44 Try.T45 Try.T46 Try.T47 Try.T48 Try.T49 Try.T50 Try.T51 Try.T52 Try.T53 Try.T54 Try.T55 Try.T56 Try.T57 Try.T58 Try.T59 Try.T60 Try.T61 Try.T62 Try.T65 Try.T68 Try.T69 Try.T72 Try.T73
attribute [local irreducible] Go.Av.CallK Go.Av.CallE Go.Av.CallQ Go.Av.CallF Go.Av.CallR Go.Av.CallH Go.Av.Con

theorem check_ok {c : Cf} (h : check c = 0) : ranged c ∧ fine (-1) c.ms = true ∧ carries c.kind c.ms = true := by
  unfold check at h
  by_cases h1 : ranged c
  · rw [if_pos h1] at h
    by_cases h2 : fine (-1) c.ms = true
    · rw [if_pos h2] at h
      by_cases h3 : carries c.kind c.ms = true
      · exact ⟨h1, h2, h3⟩
      · rw [if_neg h3] at h; omega
    · rw [if_neg h2] at h; omega
  · rw [if_neg h1] at h; omega
def enough (c : Cf) (set : List Int) : Bool :=
  if c.kind = 1 then decide (tot one yes c.ms < 2 * tot one (inS set) c.ms)
  else if c.kind = 2 then decide (tot Mb.w yes c.ms < 2 * tot Mb.w (inS set) c.ms)
  else decide (num (hasG c.ms) 8 < 2 * num (wonG set c.ms) 8)
def isQ (c : Cf) (set : List Int) : Bool := if check c = 0 then enough c set else false

def oneOr (b : Bool) : Int := if b = true then 1 else 0
set_option maxHeartbeats 8000000 in
theorem is05_con (c : Cf) (set : List Int) (hl : c.ms.length ≤ 1000000) : ACon Try.prog 11 [.p (.agg c.cells), .p (.sl 1 (ints set))] (.p (B (isQ c set))) := by
  have hch := check04_con c hl
  by_cases hc : check c = 0
  rotate_left
  · have he : isQ c set = false := by unfold isQ; rw [if_neg hc]
    rw [he]
    generalize check c = z at hch hc
    obtain ⟨ep, n, kind, l⟩ := c
    simp only [Cf.cells] at hch ⊢
    refine wBody Try.tab Try.mixed Try.func11 rfl rfl Try.ntmps11 (by simp) (by simp) fun Q hr hn => ?_
    repeat' first | (refine hK _ ?_; clear hK) | (refine hK _ _ ?_; clear hK) | (clear hK; refine hK _ ?_; clear hK) | (clear hK; clear hK; refine hK _ ?_; clear hK) | (clear hK; clear hK; clear hK; refine hK _ ?_; clear hK) | (clear hK; clear hK; clear hK; clear hK; refine hK _ ?_; clear hK) | (refine wSeq fun K hK => ?_) | ((first | refine wReg ?_ | refine wDrwQ rfl (by kernel_rfl) ?_ | refine wDrwI ?_ | refine wDrw (by kernel_rfl) ?_); simp only [List.map_cons, List.map_nil, strip]) | ((first | refine wIs fun K hK => ?_ | refine wOs fun K hK => ?_ | refine wQs fun K hK => ?_ | refine CallK_plain ?_ | refine CallQ_plain ?_ | refine CallR_plain ?_ | refine wCond ?_); simp [hc]) | (refine wIn ?_; refine And.intro (by kernel_rfl) ?_; try simp only [thenA_n]) | (first | refine wBlock ?_ | refine wScope ?_) | ((first | refine wRet ?_ | refine wExit ?_ | refine wSkip ?_); try simp) | ((first | refine wLabel ?_ | refine wOn ?_ | refine wQn ?_); try simp only [thenA_n]) | (refine CallE.pure (hch) rfl ?_) | (refine CallE.lent (hch) rfl ?_) | (refine CallF.pure (hch) rfl ?_) | (refine CallF.lent (hch) rfl ?_) | (refine CallE.own (hch) ?_) | (refine CallH.pure (hch) rfl ?_) | (refine CallH.lent (hch) rfl ?_) | (refine CallH.own (hch) ?_)
    all_goals apply hr
    all_goals simp [Try.f11]
  obtain ⟨-, hf, -⟩ := check_ok hc
  have ho := fine_ok _ _ hf
  have he : isQ c set = enough c set := by unfold isQ; rw [if_pos hc]
  rw [he]
  rw [hc] at hch
  unfold enough
  obtain ⟨ep, n, kind, l⟩ := c
  simp only [Cf.cells] at hch hl ho ⊢
  refine wBody Try.tab Try.mixed Try.func11 rfl rfl Try.ntmps11 (by simp) (by simp) fun Q hr hn => ?_
  repeat' first | (refine hK _ ?_; clear hK) | (refine hK _ _ ?_; clear hK) | (clear hK; refine hK _ ?_; clear hK) | (clear hK; clear hK; refine hK _ ?_; clear hK) | (clear hK; clear hK; clear hK; refine hK _ ?_; clear hK) | (clear hK; clear hK; clear hK; clear hK; refine hK _ ?_; clear hK) | (refine wSeq fun K hK => ?_) | ((first | refine wReg ?_ | refine wDrwQ rfl (by kernel_rfl) ?_ | refine wDrwI ?_ | refine wDrw (by kernel_rfl) ?_); simp only [List.map_cons, List.map_nil, strip]) | ((first | refine wIs fun K hK => ?_ | refine wOs fun K hK => ?_ | refine wQs fun K hK => ?_ | refine CallK_plain ?_ | refine CallQ_plain ?_ | refine CallR_plain ?_ | refine wCond ?_); simp) | (refine wIn ?_; refine And.intro (by kernel_rfl) ?_; try simp only [thenA_n]) | (first | refine wBlock ?_ | refine wScope ?_) | ((first | refine wRet ?_ | refine wExit ?_ | refine wSkip ?_); try simp) | ((first | refine wLabel ?_ | refine wOn ?_ | refine wQn ?_); try simp only [thenA_n]) | (refine CallE.pure (hch) rfl ?_) | (refine CallE.lent (hch) rfl ?_) | (refine CallF.pure (hch) rfl ?_) | (refine CallF.lent (hch) rfl ?_) | (refine CallE.own (hch) ?_) | (refine CallH.pure (hch) rfl ?_) | (refine CallH.lent (hch) rfl ?_) | (refine CallH.own (hch) ?_)
  refine wLoop (fun N st => ∃ (k : Nat), k + N = l.length ∧ st.s 1 = .p (.sl 1 (ints set)) ∧ st.s 2 = .ptr 2 0 ∧ st.s 5 = .ptr 5 0 ∧ st.s 6 = .ptr 6 0 ∧ st.b 2 = some (.box 26 [.p (I ep), .p (I n), .p (I kind), .p (.sl 4 (mbs l))]) ∧ st.s 20 = .p (.sl 4 (mbs l)) ∧ st.s 21 = .p (I l.length) ∧ st.s 22 = .p (I k) ∧
    st.b 6 = some (.box 49 (bx (gs (inS set) (l.take k)))) ∧ st.b 5 = some (.box 49 (bx (gs yes (l.take k)))) ∧ st.s 7 = .p (I (tot one yes (l.take k))) ∧ st.s 8 = .p (I (tot one (inS set) (l.take k))) ∧ st.s 9 = .p (I (tot Mb.w yes (l.take k))) ∧ st.s 10 = .p (I (tot Mb.w (inS set) (l.take k)))) l.length ⟨0, by simp [bx, gs, List.range, List.range.loop, tot]⟩ fun K N st hL ⟨k, hk, h1, h2, h5, h6, b2, h20, h21, h22, b6, b5, h7, h8, h9, h10⟩ => ?_
  by_cases hlt : k < l.length
  · have hw := wrapS k _ hlt (by omega)
    have okk := okL_get ho k hlt
    obtain ⟨w0, w1⟩ := okk.2.2.1
    obtain ⟨g0, g1⟩ := okk.2.2.2
    have g2 : l[k].g.toNat < 8 := by omega
    have g1' : l[k].g < 8 := by omega
    by_cases o4 : l[k].r = 1
    · have hcall := has05_con set l[k].i
      have hlk : (l.take k).length ≤ 1000000 := by simp; omega
      have u1 := tot_bound one yes (l.take k) (fun m _ => by simp [one])
      have u2 := tot_bound one (inS set) (l.take k) (fun m _ => by simp [one])
      have u3 := tot_bound Mb.w yes (l.take k) (okL_w (okL_take ho k))
      have u4 := tot_bound Mb.w (inS set) (l.take k) (okL_w (okL_take ho k))
      have t1 := tot_bound Mb.w (inG yes l[k].g.toNat) (l.take k) (okL_w (okL_take ho k))
      have t2 := tot_bound Mb.w (inG (inS set) l[k].g.toNat) (l.take k) (okL_w (okL_take ho k))
      have hw1 : IntKind.i64.wrap (tot one yes (l.take k) + 1) = tot one yes (l.take k) + 1 := by rw [wrap_id] <;> omega
      have hw2 : IntKind.i64.wrap (tot one (inS set) (l.take k) + 1) = tot one (inS set) (l.take k) + 1 := by rw [wrap_id] <;> omega
      have hw3 : IntKind.i64.wrap (tot Mb.w yes (l.take k) + l[k].w) = tot Mb.w yes (l.take k) + l[k].w := by rw [wrap_id] <;> omega
      have hw4 : IntKind.i64.wrap (tot Mb.w (inS set) (l.take k) + l[k].w) = tot Mb.w (inS set) (l.take k) + l[k].w := by rw [wrap_id] <;> omega
      have hwa : IntKind.i64.wrap (tot Mb.w (inG yes l[k].g.toNat) (l.take k) + l[k].w) = tot Mb.w (inG yes l[k].g.toNat) (l.take k) + l[k].w := by rw [wrap_id] <;> omega
      have hwb : IntKind.i64.wrap (tot Mb.w (inG (inS set) l[k].g.toNat) (l.take k) + l[k].w) = tot Mb.w (inG (inS set) l[k].g.toNat) (l.take k) + l[k].w := by rw [wrap_id] <;> omega
      by_cases o5 : l[k].i ∈ set
      · have o6 : inS set l[k] = true := by simp [inS, o5]
        rw [decide_eq_true o5] at hcall
        repeat' first | (refine wDrwT 8 (by kernel_rfl) ?_; simp only [List.map_cons, List.map_nil, strip, List.take, List.drop]) | (refine hK _ ?_; clear hK) | (refine hK _ _ ?_; clear hK) | (clear hK; refine hK _ ?_; clear hK) | (clear hK; clear hK; refine hK _ ?_; clear hK) | (clear hK; clear hK; clear hK; refine hK _ ?_; clear hK) | (clear hK; clear hK; clear hK; clear hK; refine hK _ ?_; clear hK) | (refine wSeq fun K hK => ?_) | ((first | refine wReg ?_ | refine wDrwQ rfl (by kernel_rfl) ?_ | refine wDrwI ?_ | refine wDrw (by kernel_rfl) ?_); simp only [List.map_cons, List.map_nil, strip]) | ((first | refine wIs fun K hK => ?_ | refine wOs fun K hK => ?_ | refine wQs fun K hK => ?_ | refine CallK_plain ?_ | refine CallQ_plain ?_ | refine CallR_plain ?_ | refine wCond ?_); simp [h1, h2, h5, h6, b2, h20, h21, h22, b5, b6, h7, h8, h9, h10, hlt, hw, o4, g0, g1, g1', g2, hw1, hw2, hw3, hw4, hwa, hwb, PV.one]) | (refine wIn ?_; refine And.intro (by kernel_rfl) ?_; try simp only [thenA_n]) | (first | refine wBlock ?_ | refine wScope ?_) | ((first | refine wRet ?_ | refine wExit ?_ | refine wSkip ?_); try simp) | ((first | refine wLabel ?_ | refine wOn ?_ | refine wQn ?_); try simp only [thenA_n]) | (refine CallE.pure (hcall) rfl ?_) | (refine CallE.lent (hcall) rfl ?_) | (refine CallF.pure (hcall) rfl ?_) | (refine CallF.lent (hcall) rfl ?_) | (refine CallE.own (hcall) ?_) | (refine CallH.pure (hcall) rfl ?_) | (refine CallH.lent (hcall) rfl ?_) | (refine CallH.own (hcall) ?_)
        refine hL _ (N - 1) (by omega) ⟨k + 1, by omega, ?_⟩
        simp [h1, h2, h5, h6, b2, h20, h21, hw, hw1, hw2, hw3, hw4]
        rw [bx_put _ _ _ (by simpa using g2), bx_put _ _ _ (by simpa using g2), gs_snoc yes l k hlt okk o4 rfl, gs_snoc (inS set) l k hlt okk o4 o6]
        simp only [tot_snoc _ _ l k hlt, o4, o6, yes, one, and_self, if_true]
      · have o6 : ¬ (l[k].r = 1 ∧ inS set l[k] = true) := by simp [inS, o5]
        rw [decide_eq_false o5] at hcall
        repeat' first | (refine wDrwT 8 (by kernel_rfl) ?_; simp only [List.map_cons, List.map_nil, strip, List.take, List.drop]) | (refine hK _ ?_; clear hK) | (refine hK _ _ ?_; clear hK) | (clear hK; refine hK _ ?_; clear hK) | (clear hK; clear hK; refine hK _ ?_; clear hK) | (clear hK; clear hK; clear hK; refine hK _ ?_; clear hK) | (clear hK; clear hK; clear hK; clear hK; refine hK _ ?_; clear hK) | (refine wSeq fun K hK => ?_) | ((first | refine wReg ?_ | refine wDrwQ rfl (by kernel_rfl) ?_ | refine wDrwI ?_ | refine wDrw (by kernel_rfl) ?_); simp only [List.map_cons, List.map_nil, strip]) | ((first | refine wIs fun K hK => ?_ | refine wOs fun K hK => ?_ | refine wQs fun K hK => ?_ | refine CallK_plain ?_ | refine CallQ_plain ?_ | refine CallR_plain ?_ | refine wCond ?_); simp [h1, h2, h5, h6, b2, h20, h21, h22, b5, b6, h7, h8, h9, h10, hlt, hw, o4, g0, g1, g1', g2, hw1, hw2, hw3, hw4, hwa, hwb, PV.one]) | (refine wIn ?_; refine And.intro (by kernel_rfl) ?_; try simp only [thenA_n]) | (first | refine wBlock ?_ | refine wScope ?_) | ((first | refine wRet ?_ | refine wExit ?_ | refine wSkip ?_); try simp) | ((first | refine wLabel ?_ | refine wOn ?_ | refine wQn ?_); try simp only [thenA_n]) | (refine CallE.pure (hcall) rfl ?_) | (refine CallE.lent (hcall) rfl ?_) | (refine CallF.pure (hcall) rfl ?_) | (refine CallF.lent (hcall) rfl ?_) | (refine CallE.own (hcall) ?_) | (refine CallH.pure (hcall) rfl ?_) | (refine CallH.lent (hcall) rfl ?_) | (refine CallH.own (hcall) ?_)
        refine hL _ (N - 1) (by omega) ⟨k + 1, by omega, ?_⟩
        simp [h1, h2, h5, h6, b2, b6, h8, h10, h20, h21, hw, hw1, hw3]
        rw [bx_put _ _ _ (by simpa using g2), gs_snoc yes l k hlt okk o4 rfl, gs_skip (inS set) l k hlt o6]
        simp only [tot_snoc _ _ l k hlt]
        rw [if_neg o6, if_pos ⟨o4, rfl⟩]
        simp [one]
        rw [if_neg o6]
        simp [o4, yes]
    · repeat' first | (refine hK _ ?_; clear hK) | (refine hK _ _ ?_; clear hK) | (clear hK; refine hK _ ?_; clear hK) | (clear hK; clear hK; refine hK _ ?_; clear hK) | (clear hK; clear hK; clear hK; refine hK _ ?_; clear hK) | (clear hK; clear hK; clear hK; clear hK; refine hK _ ?_; clear hK) | (refine wSeq fun K hK => ?_) | ((first | refine wReg ?_ | refine wDrwQ rfl (by kernel_rfl) ?_ | refine wDrwI ?_ | refine wDrw (by kernel_rfl) ?_); simp only [List.map_cons, List.map_nil, strip]) | ((first | refine wIs fun K hK => ?_ | refine wOs fun K hK => ?_ | refine wQs fun K hK => ?_ | refine CallK_plain ?_ | refine CallQ_plain ?_ | refine CallR_plain ?_ | refine wCond ?_); simp [h1, h2, h5, h6, b2, h20, h21, h22, b5, b6, h7, h8, h9, h10, hlt, hw, o4]) | (refine wIn ?_; refine And.intro (by kernel_rfl) ?_; try simp only [thenA_n]) | (first | refine wBlock ?_ | refine wScope ?_) | ((first | refine wRet ?_ | refine wExit ?_ | refine wSkip ?_); try simp) | ((first | refine wLabel ?_ | refine wOn ?_ | refine wQn ?_); try simp only [thenA_n])
      refine hL _ (N - 1) (by omega) ⟨k + 1, by omega, ?_⟩
      simp [h1, h2, h5, h6, b2, b5, b6, h7, h8, h9, h10, h20, h21, hw]
      rw [gs_skip (inS set) l k hlt (fun x => o4 x.1), gs_skip yes l k hlt (fun x => o4 x.1)]
      simp [tot_snoc _ _ l k hlt, o4]
  · rw [List.take_of_length_le (by omega)] at b5 b6 h7 h8 h9 h10
    have u1 := tot_bound one yes l (fun m _ => by simp [one])
    have u2 := tot_bound one (inS set) l (fun m _ => by simp [one])
    have u3 := tot_bound Mb.w yes l (okL_w ho)
    have u4 := tot_bound Mb.w (inS set) l (okL_w ho)
    by_cases k1 : kind = 1
    · subst k1
      have hwx : IntKind.i64.wrap (2 * tot one (inS set) l) = 2 * tot one (inS set) l := by rw [wrap_id] <;> omega
      repeat' first | (refine hK _ ?_; clear hK) | (refine hK _ _ ?_; clear hK) | (clear hK; refine hK _ ?_; clear hK) | (clear hK; clear hK; refine hK _ ?_; clear hK) | (clear hK; clear hK; clear hK; refine hK _ ?_; clear hK) | (clear hK; clear hK; clear hK; clear hK; refine hK _ ?_; clear hK) | (refine wSeq fun K hK => ?_) | ((first | refine wReg ?_ | refine wDrwQ rfl (by kernel_rfl) ?_ | refine wDrwI ?_ | refine wDrw (by kernel_rfl) ?_); simp only [List.map_cons, List.map_nil, strip]) | ((first | refine wIs fun K hK => ?_ | refine wOs fun K hK => ?_ | refine wQs fun K hK => ?_ | refine CallK_plain ?_ | refine CallQ_plain ?_ | refine CallR_plain ?_ | refine wCond ?_); simp [h1, h2, h5, h6, b2, h20, h21, h22, b5, b6, h7, h8, h9, h10, hlt, hwx]) | (refine wIn ?_; refine And.intro (by kernel_rfl) ?_; try simp only [thenA_n]) | (first | refine wBlock ?_ | refine wScope ?_) | ((first | refine wRet ?_ | refine wExit ?_ | refine wSkip ?_); try simp) | ((first | refine wLabel ?_ | refine wOn ?_ | refine wQn ?_); try simp only [thenA_n])
      all_goals apply hr
      all_goals simp [Try.f11]
    by_cases k2 : kind = 2
    · subst k2
      have hwx : IntKind.i64.wrap (2 * tot Mb.w (inS set) l) = 2 * tot Mb.w (inS set) l := by rw [wrap_id] <;> omega
      repeat' first | (refine hK _ ?_; clear hK) | (refine hK _ _ ?_; clear hK) | (clear hK; refine hK _ ?_; clear hK) | (clear hK; clear hK; refine hK _ ?_; clear hK) | (clear hK; clear hK; clear hK; refine hK _ ?_; clear hK) | (clear hK; clear hK; clear hK; clear hK; refine hK _ ?_; clear hK) | (refine wSeq fun K hK => ?_) | ((first | refine wReg ?_ | refine wDrwQ rfl (by kernel_rfl) ?_ | refine wDrwI ?_ | refine wDrw (by kernel_rfl) ?_); simp only [List.map_cons, List.map_nil, strip]) | ((first | refine wIs fun K hK => ?_ | refine wOs fun K hK => ?_ | refine wQs fun K hK => ?_ | refine CallK_plain ?_ | refine CallQ_plain ?_ | refine CallR_plain ?_ | refine wCond ?_); simp [h1, h2, h5, h6, b2, h20, h21, h22, b5, b6, h7, h8, h9, h10, hlt, hwx]) | (refine wIn ?_; refine And.intro (by kernel_rfl) ?_; try simp only [thenA_n]) | (first | refine wBlock ?_ | refine wScope ?_) | ((first | refine wRet ?_ | refine wExit ?_ | refine wSkip ?_); try simp) | ((first | refine wLabel ?_ | refine wOn ?_ | refine wQn ?_); try simp only [thenA_n])
      all_goals apply hr
      all_goals simp [Try.f11]
    repeat' first | (refine hK _ ?_; clear hK) | (refine hK _ _ ?_; clear hK) | (clear hK; refine hK _ ?_; clear hK) | (clear hK; clear hK; refine hK _ ?_; clear hK) | (clear hK; clear hK; clear hK; refine hK _ ?_; clear hK) | (clear hK; clear hK; clear hK; clear hK; refine hK _ ?_; clear hK) | (refine wSeq fun K hK => ?_) | ((first | refine wReg ?_ | refine wDrwQ rfl (by kernel_rfl) ?_ | refine wDrwI ?_ | refine wDrw (by kernel_rfl) ?_); simp only [List.map_cons, List.map_nil, strip]) | ((first | refine wIs fun K hK => ?_ | refine wOs fun K hK => ?_ | refine wQs fun K hK => ?_ | refine CallK_plain ?_ | refine CallQ_plain ?_ | refine CallR_plain ?_ | refine wCond ?_); simp [h1, h2, h5, h6, b2, h20, h21, h22, b5, b6, h7, h8, h9, h10, hlt, k1, k2]) | (refine wIn ?_; refine And.intro (by kernel_rfl) ?_; try simp only [thenA_n]) | (first | refine wBlock ?_ | refine wScope ?_) | ((first | refine wRet ?_ | refine wExit ?_ | refine wSkip ?_); try simp) | ((first | refine wLabel ?_ | refine wOn ?_ | refine wQn ?_); try simp only [thenA_n])
    refine wLoop (fun N st => ∃ (k : Nat), k + N = 8 ∧ st.s 5 = .ptr 5 0 ∧ st.s 6 = .ptr 6 0 ∧ st.b 6 = some (.box 49 (bx (gs (inS set) l))) ∧ st.b 5 = some (.box 49 (bx (gs yes l))) ∧ st.s 76 = .p (I k) ∧ st.s 14 = .p (I (num (wonG set l) k)) ∧ st.s 13 = .p (I (num (hasG l) k))) 8 ⟨0, by simp [h5, b5, h6, b6, num]⟩ fun K' N' st' hL' ⟨j, hj, g5, g6, c6, c5, g76, g14, g13⟩ => ?_
    have nb1 := num_bound (wonG set l) j
    have nb2 := num_bound (hasG l) j
    by_cases hjl : j < 8
    · have hw := wrapS j 8 hjl (by omega)
      have hjI : (j : Int) < 8 := by omega
      have hwa : IntKind.i64.wrap (num (wonG set l) j + 1) = num (wonG set l) j + 1 := by rw [wrap_id] <;> omega
      have hwb : IntKind.i64.wrap (num (hasG l) j + 1) = num (hasG l) j + 1 := by rw [wrap_id] <;> omega
      have t1 := tot_bound Mb.w (inG yes j) l (okL_w ho)
      have t2 := tot_bound Mb.w (inG (inS set) j) l (okL_w ho)
      have hwc : IntKind.i64.wrap (2 * tot Mb.w (inG (inS set) j) l) = 2 * tot Mb.w (inG (inS set) j) l := by rw [wrap_id] <;> omega
      by_cases q1 : 0 < tot Mb.w (inG yes j) l
      · by_cases q2 : tot Mb.w (inG yes j) l < 2 * tot Mb.w (inG (inS set) j) l
        · repeat' first | (refine hK _ ?_; clear hK) | (refine hK _ _ ?_; clear hK) | (clear hK; refine hK _ ?_; clear hK) | (clear hK; clear hK; refine hK _ ?_; clear hK) | (clear hK; clear hK; clear hK; refine hK _ ?_; clear hK) | (clear hK; clear hK; clear hK; clear hK; refine hK _ ?_; clear hK) | (refine wSeq fun K hK => ?_) | ((first | refine wReg ?_ | refine wDrwQ rfl (by kernel_rfl) ?_ | refine wDrwI ?_ | refine wDrw (by kernel_rfl) ?_); simp only [List.map_cons, List.map_nil, strip]) | ((first | refine wIs fun K hK => ?_ | refine wOs fun K hK => ?_ | refine wQs fun K hK => ?_ | refine CallK_plain ?_ | refine CallQ_plain ?_ | refine CallR_plain ?_ | refine wCond ?_); simp [g5, g6, c5, c6, g76, g14, g13, hjl, hjI, hw, hwa, hwb, hwc, q1, q2, PV.one]) | (refine wIn ?_; refine And.intro (by kernel_rfl) ?_; try simp only [thenA_n]) | (first | refine wBlock ?_ | refine wScope ?_) | ((first | refine wRet ?_ | refine wExit ?_ | refine wSkip ?_); try simp) | ((first | refine wLabel ?_ | refine wOn ?_ | refine wQn ?_); try simp only [thenA_n])
          refine hL' _ (N' - 1) (by omega) ⟨j + 1, by omega, ?_⟩
          simp [g5, g6, c5, c6, hw, g14, g13, hwa, hwb]
          simp [num, hasG, wonG, q1, q2]
        · repeat' first | (refine hK _ ?_; clear hK) | (refine hK _ _ ?_; clear hK) | (clear hK; refine hK _ ?_; clear hK) | (clear hK; clear hK; refine hK _ ?_; clear hK) | (clear hK; clear hK; clear hK; refine hK _ ?_; clear hK) | (clear hK; clear hK; clear hK; clear hK; refine hK _ ?_; clear hK) | (refine wSeq fun K hK => ?_) | ((first | refine wReg ?_ | refine wDrwQ rfl (by kernel_rfl) ?_ | refine wDrwI ?_ | refine wDrw (by kernel_rfl) ?_); simp only [List.map_cons, List.map_nil, strip]) | ((first | refine wIs fun K hK => ?_ | refine wOs fun K hK => ?_ | refine wQs fun K hK => ?_ | refine CallK_plain ?_ | refine CallQ_plain ?_ | refine CallR_plain ?_ | refine wCond ?_); simp [g5, g6, c5, c6, g76, g14, g13, hjl, hjI, hw, hwa, hwb, hwc, q1, q2, PV.one]) | (refine wIn ?_; refine And.intro (by kernel_rfl) ?_; try simp only [thenA_n]) | (first | refine wBlock ?_ | refine wScope ?_) | ((first | refine wRet ?_ | refine wExit ?_ | refine wSkip ?_); try simp) | ((first | refine wLabel ?_ | refine wOn ?_ | refine wQn ?_); try simp only [thenA_n])
          refine hL' _ (N' - 1) (by omega) ⟨j + 1, by omega, ?_⟩
          simp [g5, g6, c5, c6, hw, g14, g13, hwa, hwb]
          simp [num, hasG, wonG, q1, q2]
      · by_cases q2 : tot Mb.w (inG yes j) l < 2 * tot Mb.w (inG (inS set) j) l
        · repeat' first | (refine hK _ ?_; clear hK) | (refine hK _ _ ?_; clear hK) | (clear hK; refine hK _ ?_; clear hK) | (clear hK; clear hK; refine hK _ ?_; clear hK) | (clear hK; clear hK; clear hK; refine hK _ ?_; clear hK) | (clear hK; clear hK; clear hK; clear hK; refine hK _ ?_; clear hK) | (refine wSeq fun K hK => ?_) | ((first | refine wReg ?_ | refine wDrwQ rfl (by kernel_rfl) ?_ | refine wDrwI ?_ | refine wDrw (by kernel_rfl) ?_); simp only [List.map_cons, List.map_nil, strip]) | ((first | refine wIs fun K hK => ?_ | refine wOs fun K hK => ?_ | refine wQs fun K hK => ?_ | refine CallK_plain ?_ | refine CallQ_plain ?_ | refine CallR_plain ?_ | refine wCond ?_); simp [g5, g6, c5, c6, g76, g14, g13, hjl, hjI, hw, hwa, hwb, hwc, q1, q2, PV.one]) | (refine wIn ?_; refine And.intro (by kernel_rfl) ?_; try simp only [thenA_n]) | (first | refine wBlock ?_ | refine wScope ?_) | ((first | refine wRet ?_ | refine wExit ?_ | refine wSkip ?_); try simp) | ((first | refine wLabel ?_ | refine wOn ?_ | refine wQn ?_); try simp only [thenA_n])
          refine hL' _ (N' - 1) (by omega) ⟨j + 1, by omega, ?_⟩
          simp [g5, g6, c5, c6, hw, g14, g13, hwa, hwb]
          simp [num, hasG, wonG, q1, q2]
        · repeat' first | (refine hK _ ?_; clear hK) | (refine hK _ _ ?_; clear hK) | (clear hK; refine hK _ ?_; clear hK) | (clear hK; clear hK; refine hK _ ?_; clear hK) | (clear hK; clear hK; clear hK; refine hK _ ?_; clear hK) | (clear hK; clear hK; clear hK; clear hK; refine hK _ ?_; clear hK) | (refine wSeq fun K hK => ?_) | ((first | refine wReg ?_ | refine wDrwQ rfl (by kernel_rfl) ?_ | refine wDrwI ?_ | refine wDrw (by kernel_rfl) ?_); simp only [List.map_cons, List.map_nil, strip]) | ((first | refine wIs fun K hK => ?_ | refine wOs fun K hK => ?_ | refine wQs fun K hK => ?_ | refine CallK_plain ?_ | refine CallQ_plain ?_ | refine CallR_plain ?_ | refine wCond ?_); simp [g5, g6, c5, c6, g76, g14, g13, hjl, hjI, hw, hwa, hwb, hwc, q1, q2, PV.one]) | (refine wIn ?_; refine And.intro (by kernel_rfl) ?_; try simp only [thenA_n]) | (first | refine wBlock ?_ | refine wScope ?_) | ((first | refine wRet ?_ | refine wExit ?_ | refine wSkip ?_); try simp) | ((first | refine wLabel ?_ | refine wOn ?_ | refine wQn ?_); try simp only [thenA_n])
          refine hL' _ (N' - 1) (by omega) ⟨j + 1, by omega, ?_⟩
          simp [g5, g6, c5, c6, hw, g14, g13, hwa, hwb]
          simp [num, hasG, wonG, q1, q2]
    · obtain rfl : j = 8 := by omega
      simp at g76
      have hwc : IntKind.i64.wrap (2 * num (wonG set l) 8) = 2 * num (wonG set l) 8 := by rw [wrap_id] <;> omega
      repeat' first | (refine hK _ ?_; clear hK) | (refine hK _ _ ?_; clear hK) | (clear hK; refine hK _ ?_; clear hK) | (clear hK; clear hK; refine hK _ ?_; clear hK) | (clear hK; clear hK; clear hK; refine hK _ ?_; clear hK) | (clear hK; clear hK; clear hK; clear hK; refine hK _ ?_; clear hK) | (refine wSeq fun K hK => ?_) | ((first | refine wReg ?_ | refine wDrwQ rfl (by kernel_rfl) ?_ | refine wDrwI ?_ | refine wDrw (by kernel_rfl) ?_); simp only [List.map_cons, List.map_nil, strip]) | ((first | refine wIs fun K hK => ?_ | refine wOs fun K hK => ?_ | refine wQs fun K hK => ?_ | refine CallK_plain ?_ | refine CallQ_plain ?_ | refine CallR_plain ?_ | refine wCond ?_); simp [g5, g6, c5, c6, g76, g14, g13, hwc]) | (refine wIn ?_; refine And.intro (by kernel_rfl) ?_; try simp only [thenA_n]) | (first | refine wBlock ?_ | refine wScope ?_) | ((first | refine wRet ?_ | refine wExit ?_ | refine wSkip ?_); try simp) | ((first | refine wLabel ?_ | refine wOn ?_ | refine wQn ?_); try simp only [thenA_n])
      apply hr
      simp [Try.f11, k1, k2]

end Go.Proofs.Ytiemabhnhgablaa
