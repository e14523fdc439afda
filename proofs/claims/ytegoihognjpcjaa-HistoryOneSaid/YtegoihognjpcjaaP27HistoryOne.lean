/- Texts that the proof needs: HN HP HQ HS HV Awm. -/
import Derived.Test.YtegoihognjpcjaaP25HistoryOne
import Derived.Test.YtegoihognjpcjaaP23HistoryOne
import Derived.Test.YtegoihognjpcjaaP26HistoryOne
import Derived.Test.YtegoihognjpcjaaP19HistoryOne
import Derived.Test.YtegoihognjpcjaaP14HistoryOne
import Derived.Test.YtegoihognjpcjaaP18HistoryOne
import Derived.Test.YtegoihognjpcjaaP22HistoryOne
import Derived.WalkKit
/- The plan that makes one history of another: the program's. -/
namespace Go.Proofs.Ytegoihognjpcjaa
set_option linter.unusedSimpArgs false
set_option linter.unusedVariables false
open Go Go.Av
attribute [local simp] Try.T1 Try.T2 Try.T3 Try.T4 Try.T5 Try.T9 Try.T12 Try.T15 Try.T16 Try.T17 Try.T21 Try.T22 Try.T23 Try.T25 Try.T26 Try.T28 Try.T30 Try.T31 Try.T33 Try.T34 Try.T35 Try.T36 Try.T37 Try.T38 Try.T40 Try.T42 Try.T43 Try.T44 Try.T45 Try.T46 Try.T48 Try.T49 Try.T50 Try.T51 Try.T52 Try.T53 Try.T54 Try.T55 Try.T56 Try.T57 Try.T58 Try.T59 Try.T60 Try.T61 Try.T62 Try.T64 Try.T66 Try.T67 Try.T68 Try.T69 Try.T70 Try.T71 Try.T72 Try.T73 Try.T74 Try.T75 Try.T76 Try.T77 Try.T78 Try.T80 Try.T81 Try.T82 Try.T83 Try.T84 Try.T85 Try.T86 Try.T88 Try.T89 Try.T90 Try.T91 Try.T92 Try.T93 Try.T94 Try.T95 Try.T96 Try.T97 Try.T98 Try.T99 Try.T100 Try.T101 Try.T102 Try.T103 Try.T104 Try.T105 Try.T106 Try.T107 Try.T108 Try.T109 Try.T110 Try.T111 Try.T112 Try.T113 Try.T116 Try.T119 Try.T120 Try.T123 Try.T124
attribute [local irreducible] Go.Av.CallK Go.Av.CallE Go.Av.CallQ Go.Av.CallF Go.Av.CallR Go.Av.CallH Go.Av.Con
def mks (h : Hy) : List Zx := ⟨h.im.ae, h.im.an⟩ :: h.lg.map fun t => ⟨t.e, t.n⟩
theorem mks_len (h : Hy) : (mks h).length = h.lg.length + 1 := by simp [mks]
theorem mks_take (h : Hy) (k : Nat) (hk : k < h.lg.length) : (mks h).take (k + 2) = (mks h).take (k + 1) ++ [⟨h.lg[k].e, h.lg[k].n⟩] := by
  unfold mks
  simp only [List.take_succ_cons, List.cons_append]
  rw [List.take_succ_eq_append_getElem (by simpa using hk)]
  simp
theorem zxs_app (a b : List Zx) : zxs (a ++ b) = zxs a ++ zxs b := by simp [zxs]
set_option maxHeartbeats 1000000 in
theorem marks_con (h : Hy) (hl : h.lg.length ≤ 1000) : ACon Try.prog 13 [.p (.agg h.cells)] (.p (.sl 2 (zxs (mks h)))) := by
  have cb := base_con h
  have hz0 : (mks h).take 1 = [⟨h.im.ae, h.im.an⟩] := rfl
  have hmt := mks_take h
  have hml := mks_len h
  generalize mks h = M at *
  unfold Hy.cells at *
  refine wBody Try.tab Try.mixed Try.func13 rfl rfl Try.ntmps13 (by simp) (by simp) fun Q hr hn => ?_
  repeat' first | (refine CallE.pure (cb) rfl ?_) | (refine CallE.lent (cb) rfl ?_) | (refine CallF.pure (cb) rfl ?_) | (refine CallF.lent (cb) rfl ?_) | (refine CallE.own (cb) ?_) | (refine CallH.pure (cb) rfl ?_) | (refine CallH.lent (cb) rfl ?_) | (refine CallH.own (cb) ?_) | (refine hK _ ?_; clear hK) | (refine hK _ _ ?_; clear hK) | (clear hK; refine hK _ ?_; clear hK) | (clear hK; clear hK; refine hK _ ?_; clear hK) | (clear hK; clear hK; clear hK; refine hK _ ?_; clear hK) | (clear hK; clear hK; clear hK; clear hK; refine hK _ ?_; clear hK) | (refine wSeq fun K hK => ?_) | ((first | refine wReg ?_ | refine wDrwQ rfl (by kernel_rfl) ?_ | refine wDrwI ?_ | refine wDrw (by kernel_rfl) ?_); simp only [List.map_cons, List.map_nil, strip]) | ((first | refine wIs fun K hK => ?_ | refine wOs fun K hK => ?_ | refine wQs fun K hK => ?_ | refine CallK_plain ?_ | refine CallQ_plain ?_ | refine CallR_plain ?_ | refine wCond ?_); simp) | (refine wIn ?_; refine And.intro (by kernel_rfl) ?_; try simp only [thenA_n]) | (first | refine wBlock ?_ | refine wScope ?_) | ((first | refine wRet ?_ | refine wExit ?_ | refine wSkip ?_); try simp) | ((first | refine wLabel ?_ | refine wOn ?_ | refine wQn ?_); try simp only [thenA_n])
  refine wLoop (fun N st => ∃ k, k + N = h.lg.length ∧ st.s 10 = .p (.sl 8 (txns h.lg)) ∧ st.s 11 = .p (I h.lg.length) ∧ st.s 12 = .p (I k) ∧ (k = 0 ∧ st.s 3 = .full 2 (zxs (M.take 1)) ∨ 0 < k ∧ st.s 3 = .row 20 ∧ st.b 20 = some (.row 25 2 (zxs (M.take (k + 1)))))) h.lg.length ⟨0, by simp [hz0, zxs]⟩ fun K N st hL ⟨k, hk, g10, g11, g12, hc⟩ => ?_
  by_cases hlt : k < h.lg.length
  · have hw := wrapS k _ hlt (by omega)
    have he := txns_get hlt
    have hs := zxs_app (M.take (k + 1)) [⟨h.lg[k].e, h.lg[k].n⟩]
    rw [← hmt k hlt] at hs
    have hs' : zxs (M.take (k + 1)) ++ [[I h.lg[k].e, I h.lg[k].n]] = zxs (M.take (k + 1 + 1)) := hs.symm
    have hw1 : IntKind.i64.wrap 1 = 1 := by rw [wrap_id] <;> omega
    have hln : (zxs (M.take (k + 1))).length ≤ 1001 := by rw [zxs_len, List.length_take]; omega
    rcases hc with ⟨rfl, g3⟩ | ⟨hk0, g3, b20⟩
    · repeat' first | (refine Or.inl ?_) | (refine And.intro (by (try simp); omega) ?_) | (refine hK _ ?_; clear hK) | (refine hK _ _ ?_; clear hK) | (clear hK; refine hK _ ?_; clear hK) | (clear hK; clear hK; refine hK _ ?_; clear hK) | (clear hK; clear hK; clear hK; refine hK _ ?_; clear hK) | (clear hK; clear hK; clear hK; clear hK; refine hK _ ?_; clear hK) | (refine wSeq fun K hK => ?_) | ((first | refine wReg ?_ | refine wDrwQ rfl (by kernel_rfl) ?_ | refine wDrwI ?_ | refine wDrw (by kernel_rfl) ?_); simp only [List.map_cons, List.map_nil, strip]) | ((first | refine wIs fun K hK => ?_ | refine wOs fun K hK => ?_ | refine wQs fun K hK => ?_ | refine CallK_plain ?_ | refine CallQ_plain ?_ | refine CallR_plain ?_ | refine wCond ?_); simp [g10, g11, g12, g3, hlt, hw, he]) | (refine wIn ?_; refine And.intro (by kernel_rfl) ?_; try simp only [thenA_n]) | (first | refine wBlock ?_ | refine wScope ?_) | ((first | refine wRet ?_ | refine wExit ?_ | refine wSkip ?_); try simp) | ((first | refine wLabel ?_ | refine wOn ?_ | refine wQn ?_); try simp only [thenA_n])
      refine hL _ (N - 1) (by omega) ⟨1, by omega, ?_⟩
      simp only [Nat.zero_add] at hs'
      simp [g10, g11, hw1, hs']
    · repeat' first | (refine And.intro (by (try simp); omega) ?_) | (refine hK _ ?_; clear hK) | (refine hK _ _ ?_; clear hK) | (clear hK; refine hK _ ?_; clear hK) | (clear hK; clear hK; refine hK _ ?_; clear hK) | (clear hK; clear hK; clear hK; refine hK _ ?_; clear hK) | (clear hK; clear hK; clear hK; clear hK; refine hK _ ?_; clear hK) | (refine wSeq fun K hK => ?_) | ((first | refine wReg ?_ | refine wDrwQ rfl (by kernel_rfl) ?_ | refine wDrwI ?_ | refine wDrw (by kernel_rfl) ?_); simp only [List.map_cons, List.map_nil, strip]) | ((first | refine wIs fun K hK => ?_ | refine wOs fun K hK => ?_ | refine wQs fun K hK => ?_ | refine CallK_plain ?_ | refine CallQ_plain ?_ | refine CallR_plain ?_ | refine wCond ?_); simp [g10, g11, g12, g3, b20, hlt, hw, he]) | (refine wIn ?_; refine And.intro (by kernel_rfl) ?_; try simp only [thenA_n]) | (first | refine wBlock ?_ | refine wScope ?_) | ((first | refine wRet ?_ | refine wExit ?_ | refine wSkip ?_); try simp) | ((first | refine wLabel ?_ | refine wOn ?_ | refine wQn ?_); try simp only [thenA_n])
      refine hL _ (N - 1) (by omega) ⟨k + 1, by omega, ?_⟩
      simp [g10, g11, g3, b20, hw, hs']
  · have hk0 : k = h.lg.length := by omega
    rcases hc with ⟨h0, g3⟩ | ⟨hk0, g3, b20⟩
    · rw [List.take_of_length_le (by omega)] at g3
      repeat' first | (refine hK _ ?_; clear hK) | (refine hK _ _ ?_; clear hK) | (clear hK; refine hK _ ?_; clear hK) | (clear hK; clear hK; refine hK _ ?_; clear hK) | (clear hK; clear hK; clear hK; refine hK _ ?_; clear hK) | (clear hK; clear hK; clear hK; clear hK; refine hK _ ?_; clear hK) | (refine wSeq fun K hK => ?_) | ((first | refine wReg ?_ | refine wDrwQ rfl (by kernel_rfl) ?_ | refine wDrwI ?_ | refine wDrw (by kernel_rfl) ?_); simp only [List.map_cons, List.map_nil, strip]) | ((first | refine wIs fun K hK => ?_ | refine wOs fun K hK => ?_ | refine wQs fun K hK => ?_ | refine CallK_plain ?_ | refine CallQ_plain ?_ | refine CallR_plain ?_ | refine wCond ?_); simp [g10, g11, g12, g3, hlt]) | (refine wIn ?_; refine And.intro (by kernel_rfl) ?_; try simp only [thenA_n]) | (first | refine wBlock ?_ | refine wScope ?_) | ((first | refine wRet ?_ | refine wExit ?_ | refine wSkip ?_); try simp) | ((first | refine wLabel ?_ | refine wOn ?_ | refine wQn ?_); try simp only [thenA_n])
      all_goals apply hr
      all_goals simp [Try.f13, g3]
    · rw [List.take_of_length_le (by omega)] at b20
      repeat' first | (refine hK _ ?_; clear hK) | (refine hK _ _ ?_; clear hK) | (clear hK; refine hK _ ?_; clear hK) | (clear hK; clear hK; refine hK _ ?_; clear hK) | (clear hK; clear hK; clear hK; refine hK _ ?_; clear hK) | (clear hK; clear hK; clear hK; clear hK; refine hK _ ?_; clear hK) | (refine wSeq fun K hK => ?_) | ((first | refine wReg ?_ | refine wDrwQ rfl (by kernel_rfl) ?_ | refine wDrwI ?_ | refine wDrw (by kernel_rfl) ?_); simp only [List.map_cons, List.map_nil, strip]) | ((first | refine wIs fun K hK => ?_ | refine wOs fun K hK => ?_ | refine wQs fun K hK => ?_ | refine CallK_plain ?_ | refine CallQ_plain ?_ | refine CallR_plain ?_ | refine wCond ?_); simp [g10, g11, g12, g3, b20, hlt]) | (refine wIn ?_; refine And.intro (by kernel_rfl) ?_; try simp only [thenA_n]) | (first | refine wBlock ?_ | refine wScope ?_) | ((first | refine wRet ?_ | refine wExit ?_ | refine wSkip ?_); try simp) | ((first | refine wLabel ?_ | refine wOn ?_ | refine wQn ?_); try simp only [thenA_n])
      all_goals apply hr
      all_goals simp [Try.f13, g3, b20]
theorem among_con (l : List Zx) (e n : Int) : ACon Try.prog 32 [.p (.sl 2 (zxs l)), .p (.agg [I e, I n])] (.p (B (decide ((⟨e, n⟩ : Zx) ∈ l)))) := by
  refine ACon.len ⟨Try.f32, Try.func32, rfl, rfl⟩ 0 _ _ rfl fun hlen => ?_
  simp only [zxs_len] at hlen
  refine wBody Try.tab Try.mixed Try.func32 rfl rfl Try.ntmps32 (by simp) (by simp) fun Q hr hn => ?_
  repeat' first | (refine hK _ ?_; clear hK) | (refine hK _ _ ?_; clear hK) | (clear hK; refine hK _ ?_; clear hK) | (clear hK; clear hK; refine hK _ ?_; clear hK) | (clear hK; clear hK; clear hK; refine hK _ ?_; clear hK) | (clear hK; clear hK; clear hK; clear hK; refine hK _ ?_; clear hK) | (refine wSeq fun K hK => ?_) | ((first | refine wReg ?_ | refine wDrwQ rfl (by kernel_rfl) ?_ | refine wDrwI ?_ | refine wDrw (by kernel_rfl) ?_); simp only [List.map_cons, List.map_nil, strip]) | ((first | refine wIs fun K hK => ?_ | refine wOs fun K hK => ?_ | refine wQs fun K hK => ?_ | refine CallK_plain ?_ | refine CallQ_plain ?_ | refine CallR_plain ?_ | refine wCond ?_); simp) | (refine wIn ?_; refine And.intro (by kernel_rfl) ?_; try simp only [thenA_n]) | (first | refine wBlock ?_ | refine wScope ?_) | ((first | refine wRet ?_ | refine wExit ?_ | refine wSkip ?_); try simp) | ((first | refine wLabel ?_ | refine wOn ?_ | refine wQn ?_); try simp only [thenA_n])
  refine wLoop (fun N st => ∃ k, k + N = l.length ∧ st.s 3 = .ptr 3 0 ∧ st.b 3 = some (.box 25 [.p (I e), .p (I n)]) ∧ st.s 7 = .p (.sl 2 (zxs l)) ∧ st.s 8 = .p (I l.length) ∧ st.s 9 = .p (I k) ∧ ((⟨e, n⟩ : Zx) ∈ l ↔ (⟨e, n⟩ : Zx) ∈ l.drop k)) l.length ⟨0, by simp⟩ fun K N st hL ⟨k, hk, g3, b3, g7, g8, g9, hi⟩ => ?_
  by_cases hlt : k < l.length
  · have hw := wrapS k _ hlt hlen
    rw [List.drop_eq_getElem_cons hlt, List.mem_cons] at hi
    have hx : (⟨e, n⟩ : Zx) = l[k] ↔ e = l[k].e ∧ n = l[k].n := by cases l[k]; simp
    by_cases o : l[k].e = e ∧ l[k].n = n
    · obtain ⟨o1, o2⟩ := o
      have hm : (⟨e, n⟩ : Zx) ∈ l := hi.2 (.inl (hx.2 ⟨o1.symm, o2.symm⟩))
      rw [decide_eq_true hm] at hr
      replace o1 : (l[k].e = e) = True := eq_true o1
      replace o2 : (l[k].n = n) = True := eq_true o2
      repeat' first | (refine hK _ ?_; clear hK) | (refine hK _ _ ?_; clear hK) | (clear hK; refine hK _ ?_; clear hK) | (clear hK; clear hK; refine hK _ ?_; clear hK) | (clear hK; clear hK; clear hK; refine hK _ ?_; clear hK) | (clear hK; clear hK; clear hK; clear hK; refine hK _ ?_; clear hK) | (refine wSeq fun K hK => ?_) | ((first | refine wReg ?_ | refine wDrwQ rfl (by kernel_rfl) ?_ | refine wDrwI ?_ | refine wDrw (by kernel_rfl) ?_); simp only [List.map_cons, List.map_nil, strip]) | ((first | refine wIs fun K hK => ?_ | refine wOs fun K hK => ?_ | refine wQs fun K hK => ?_ | refine CallK_plain ?_ | refine CallQ_plain ?_ | refine CallR_plain ?_ | refine wCond ?_); simp [g3, b3, g7, g8, g9, hlt, hw, o1, o2]) | (refine wIn ?_; refine And.intro (by kernel_rfl) ?_; try simp only [thenA_n]) | (first | refine wBlock ?_ | refine wScope ?_) | ((first | refine wRet ?_ | refine wExit ?_ | refine wSkip ?_); try simp) | ((first | refine wLabel ?_ | refine wOn ?_ | refine wQn ?_); try simp only [thenA_n])
      all_goals apply hr
      all_goals simp [Try.f32]
    · have hne : ¬ ((⟨e, n⟩ : Zx) = l[k]) := fun h => o ⟨(hx.1 h).1.symm, (hx.1 h).2.symm⟩
      rw [or_iff_right hne] at hi
      repeat' first | (refine hK _ ?_; clear hK) | (refine hK _ _ ?_; clear hK) | (clear hK; refine hK _ ?_; clear hK) | (clear hK; clear hK; refine hK _ ?_; clear hK) | (clear hK; clear hK; clear hK; refine hK _ ?_; clear hK) | (clear hK; clear hK; clear hK; clear hK; refine hK _ ?_; clear hK) | (refine wSeq fun K hK => ?_) | ((first | refine wReg ?_ | refine wDrwQ rfl (by kernel_rfl) ?_ | refine wDrwI ?_ | refine wDrw (by kernel_rfl) ?_); simp only [List.map_cons, List.map_nil, strip]) | ((first | refine wIs fun K hK => ?_ | refine wOs fun K hK => ?_ | refine wQs fun K hK => ?_ | refine CallK_plain ?_ | refine CallQ_plain ?_ | refine CallR_plain ?_ | refine wCond ?_); simp [g3, b3, g7, g8, g9, hlt, hw, o]) | (refine wIn ?_; refine And.intro (by kernel_rfl) ?_; try simp only [thenA_n]) | (first | refine wBlock ?_ | refine wScope ?_) | ((first | refine wRet ?_ | refine wExit ?_ | refine wSkip ?_); try simp) | ((first | refine wLabel ?_ | refine wOn ?_ | refine wQn ?_); try simp only [thenA_n]) | (intro _)
      all_goals first | exact o | skip
      refine hL _ (N - 1) (by omega) ⟨k + 1, by omega, ?_⟩
      simp [g3, b3, g7, g8, hw, hi]
  · rw [List.drop_of_length_le (by omega)] at hi
    rw [decide_eq_false (fun h => by have := hi.1 h; simp at this)] at hr
    repeat' first | (refine hK _ ?_; clear hK) | (refine hK _ _ ?_; clear hK) | (clear hK; refine hK _ ?_; clear hK) | (clear hK; clear hK; refine hK _ ?_; clear hK) | (clear hK; clear hK; clear hK; refine hK _ ?_; clear hK) | (clear hK; clear hK; clear hK; clear hK; refine hK _ ?_; clear hK) | (refine wSeq fun K hK => ?_) | ((first | refine wReg ?_ | refine wDrwQ rfl (by kernel_rfl) ?_ | refine wDrwI ?_ | refine wDrw (by kernel_rfl) ?_); simp only [List.map_cons, List.map_nil, strip]) | ((first | refine wIs fun K hK => ?_ | refine wOs fun K hK => ?_ | refine wQs fun K hK => ?_ | refine CallK_plain ?_ | refine CallQ_plain ?_ | refine CallR_plain ?_ | refine wCond ?_); simp [g3, b3, g7, g8, g9, hlt]) | (refine wIn ?_; refine And.intro (by kernel_rfl) ?_; try simp only [thenA_n]) | (first | refine wBlock ?_ | refine wScope ?_) | ((first | refine wRet ?_ | refine wExit ?_ | refine wSkip ?_); try simp) | ((first | refine wLabel ?_ | refine wOn ?_ | refine wQn ?_); try simp only [thenA_n])
    all_goals apply hr
    all_goals simp [Try.f32]
/-- A box is frozen ahead of an operation, once. -/
theorem wFrzX [Glob] {P : Program} {T : TypeId → Option Ty} {N : Nat} {ops : Array Oper} {o : Oper} {rest : List Oper} {st : St} {K : St → Prop} {Z : Value → St → Prop} (b : Nat) {e : TypeId} {cells : List V} {es : List PV} (hb : st.b b = some (.box e cells)) (hp : plC cells = some es) (h : WO P T N ops (o :: rest) (frzx st b es) K Z) : WO P T N ops (o :: rest) st K Z := by
  refine wFrz [.bx b] ?_
  have e0 : frzL st [.bx b] = frzx st b es := by simp only [frzL, gh1, hb, hp]
  rw [e0]
  exact h
theorem backward_con (l : List (List PV)) : ACon Try.prog 31 [.p (.sl 2 l)] (.clo ⟨49, false⟩ [.rp [.sl 2 l] 0]) := by
  refine wBodyG Try.tab Try.mixed Try.func31 rfl rfl Try.ntmps31 (by simp) (by simp) fun Q hr hn hp => ?_
  repeat' first | (refine wFrzX 1 rfl rfl ?_; simp [frzx, subx, subx0, subxC, subxB]) | (refine hK _ ?_; clear hK) | (refine hK _ _ ?_; clear hK) | (clear hK; refine hK _ ?_; clear hK) | (clear hK; clear hK; refine hK _ ?_; clear hK) | (clear hK; clear hK; clear hK; refine hK _ ?_; clear hK) | (clear hK; clear hK; clear hK; clear hK; refine hK _ ?_; clear hK) | (refine wSeq fun K hK => ?_) | ((first | refine wReg ?_ | refine wDrwQ rfl (by kernel_rfl) ?_ | refine wDrwI ?_ | refine wDrw (by kernel_rfl) ?_); simp only [List.map_cons, List.map_nil, strip]) | ((first | refine wIs fun K hK => ?_ | refine wOs fun K hK => ?_ | refine wQs fun K hK => ?_ | refine CallK_plain ?_ | refine CallQ_plain ?_ | refine CallR_plain ?_ | refine wCond ?_); simp) | (refine wIn ?_; refine And.intro (by kernel_rfl) ?_; try simp only [thenA_n]) | (first | refine wBlock ?_ | refine wScope ?_) | ((first | refine wRet ?_ | refine wExit ?_ | refine wSkip ?_); try simp) | ((first | refine wLabel ?_ | refine wOn ?_ | refine wQn ?_); try simp only [thenA_n])
  all_goals apply hr
  all_goals refine ⟨[], by simp, by simp, ?_⟩
  all_goals simp [Try.f31, outR, outB, renB]
/-! ### The plan -/
theorem ownStateP_con (ns ss ms : List (List PV)) (nx e n k ae an : Int) (h1 : ns.length ≤ 1000000) (h2 : ss.length ≤ 1000000) (h3 : ms.length ≤ 4398046510976) :
    ACon Try.prog 57 [.p (.agg [.sl 5 ns, .sl 1 ss, I nx, I e, I n, I k, .sl 4 ms, I ae, I an])] (.p (.agg [.sl 5 ns, .sl 1 ss, I nx, I e, I n, I k, .sl 4 ms, I ae, I an])) := by
  have c1 := cloneZ ns h1
  have c2 := cloneI ss h2
  have c3 := ownConfig_con e n k ms h3
  refine wBody Try.tab Try.mixed Try.func57 rfl rfl Try.ntmps57 (by simp) (by simp) fun Q hr hn => ?_
  repeat' first | (refine hK _ ?_; clear hK) | (refine hK _ _ ?_; clear hK) | (clear hK; refine hK _ ?_; clear hK) | (clear hK; clear hK; refine hK _ ?_; clear hK) | (clear hK; clear hK; clear hK; refine hK _ ?_; clear hK) | (clear hK; clear hK; clear hK; clear hK; refine hK _ ?_; clear hK) | (refine wSeq fun K hK => ?_) | ((first | refine wReg ?_ | refine wDrwQ rfl (by kernel_rfl) ?_ | refine wDrwI ?_ | refine wDrw (by kernel_rfl) ?_); simp only [List.map_cons, List.map_nil, strip]) | ((first | refine wIs fun K hK => ?_ | refine wOs fun K hK => ?_ | refine wQs fun K hK => ?_ | refine CallK_plain ?_ | refine CallQ_plain ?_ | refine CallR_plain ?_ | refine wCond ?_); simp) | (refine wIn ?_; refine And.intro (by kernel_rfl) ?_; try simp only [thenA_n]) | (first | refine wBlock ?_ | refine wScope ?_) | ((first | refine wRet ?_ | refine wExit ?_ | refine wSkip ?_); try simp) | ((first | refine wLabel ?_ | refine wOn ?_ | refine wQn ?_); try simp only [thenA_n]) | (refine CallE.pure (c1) rfl ?_) | (refine CallE.lent (c1) rfl ?_) | (refine CallF.pure (c1) rfl ?_) | (refine CallF.lent (c1) rfl ?_) | (refine CallE.own (c1) ?_) | (refine CallH.pure (c1) rfl ?_) | (refine CallH.lent (c1) rfl ?_) | (refine CallH.own (c1) ?_) | (refine CallE.pure (c2) rfl ?_) | (refine CallE.lent (c2) rfl ?_) | (refine CallF.pure (c2) rfl ?_) | (refine CallF.lent (c2) rfl ?_) | (refine CallE.own (c2) ?_) | (refine CallH.pure (c2) rfl ?_) | (refine CallH.lent (c2) rfl ?_) | (refine CallH.own (c2) ?_) | (refine CallE.pure (c3) rfl ?_) | (refine CallE.lent (c3) rfl ?_) | (refine CallF.pure (c3) rfl ?_) | (refine CallF.lent (c3) rfl ?_) | (refine CallE.own (c3) ?_) | (refine CallH.pure (c3) rfl ?_) | (refine CallH.lent (c3) rfl ?_) | (refine CallH.own (c3) ?_)
  all_goals apply hr
  all_goals simp [Try.f57]
theorem ownHist_con (h : Hy) (hk : OkH h) : ACon Try.prog 52 [.p (.agg h.cells)] (.p (.agg h.cells)) := by
  have c1 := ownStateP_con (zns h.im.ns) (ints h.im.ss) (mbs h.im.c.ms) h.im.nx h.im.c.ep h.im.c.n h.im.c.kind h.im.ae h.im.an (by have := hk.ns; simp; omega) (by have := hk.ss; simp; omega) (by have := hk.c; simp; omega)
  have c2 := (ownTxns_con h.lg hk.lg hk.ps).toPure
  unfold Hy.cells
  refine wBody Try.tab Try.mixed Try.func52 rfl rfl Try.ntmps52 (by simp) (by simp) fun Q hr hn => ?_
  repeat' first | (refine CallE.pure (c1) rfl ?_) | (refine CallE.lent (c1) rfl ?_) | (refine CallF.pure (c1) rfl ?_) | (refine CallF.lent (c1) rfl ?_) | (refine CallE.own (c1) ?_) | (refine CallH.pure (c1) rfl ?_) | (refine CallH.lent (c1) rfl ?_) | (refine CallH.own (c1) ?_) | (refine CallE.pure (c2) rfl ?_) | (refine CallE.lent (c2) rfl ?_) | (refine CallF.pure (c2) rfl ?_) | (refine CallF.lent (c2) rfl ?_) | (refine CallE.own (c2) ?_) | (refine CallH.pure (c2) rfl ?_) | (refine CallH.lent (c2) rfl ?_) | (refine CallH.own (c2) ?_) | (refine hK _ ?_; clear hK) | (refine hK _ _ ?_; clear hK) | (clear hK; refine hK _ ?_; clear hK) | (clear hK; clear hK; refine hK _ ?_; clear hK) | (clear hK; clear hK; clear hK; refine hK _ ?_; clear hK) | (clear hK; clear hK; clear hK; clear hK; refine hK _ ?_; clear hK) | (refine wSeq fun K hK => ?_) | ((first | refine wReg ?_ | refine wDrwQ rfl (by kernel_rfl) ?_ | refine wDrwI ?_ | refine wDrw (by kernel_rfl) ?_); simp only [List.map_cons, List.map_nil, strip]) | ((first | refine wIs fun K hK => ?_ | refine wOs fun K hK => ?_ | refine wQs fun K hK => ?_ | refine CallK_plain ?_ | refine CallQ_plain ?_ | refine CallR_plain ?_ | refine wCond ?_); simp) | (refine wIn ?_; refine And.intro (by kernel_rfl) ?_; try simp only [thenA_n]) | (first | refine wBlock ?_ | refine wScope ?_) | ((first | refine wRet ?_ | refine wExit ?_ | refine wSkip ?_); try simp) | ((first | refine wLabel ?_ | refine wOn ?_ | refine wQn ?_); try simp only [thenA_n])
  all_goals apply hr
  all_goals simp [Try.f52]
theorem ownH_con (h : Hy) (hk : OkH h) : ACon Try.prog 34 [.p (.agg h.cells)] (.p (.agg h.cells)) := by
  have c1 := ownHist_con h hk
  unfold Hy.cells at *
  refine wBody Try.tab Try.mixed Try.func34 rfl rfl Try.ntmps34 (by simp) (by simp) fun Q hr hn => ?_
  repeat' first | (refine CallE.pure (c1) rfl ?_) | (refine CallE.lent (c1) rfl ?_) | (refine CallF.pure (c1) rfl ?_) | (refine CallF.lent (c1) rfl ?_) | (refine CallE.own (c1) ?_) | (refine CallH.pure (c1) rfl ?_) | (refine CallH.lent (c1) rfl ?_) | (refine CallH.own (c1) ?_) | (refine hK _ ?_; clear hK) | (refine hK _ _ ?_; clear hK) | (clear hK; refine hK _ ?_; clear hK) | (clear hK; clear hK; refine hK _ ?_; clear hK) | (clear hK; clear hK; clear hK; refine hK _ ?_; clear hK) | (clear hK; clear hK; clear hK; clear hK; refine hK _ ?_; clear hK) | (refine wSeq fun K hK => ?_) | ((first | refine wReg ?_ | refine wDrwQ rfl (by kernel_rfl) ?_ | refine wDrwI ?_ | refine wDrw (by kernel_rfl) ?_); simp only [List.map_cons, List.map_nil, strip]) | ((first | refine wIs fun K hK => ?_ | refine wOs fun K hK => ?_ | refine wQs fun K hK => ?_ | refine CallK_plain ?_ | refine CallQ_plain ?_ | refine CallR_plain ?_ | refine wCond ?_); simp) | (refine wIn ?_; refine And.intro (by kernel_rfl) ?_; try simp only [thenA_n]) | (first | refine wBlock ?_ | refine wScope ?_) | ((first | refine wRet ?_ | refine wExit ?_ | refine wSkip ?_); try simp) | ((first | refine wLabel ?_ | refine wOn ?_ | refine wQn ?_); try simp only [thenA_n])
  all_goals apply hr
  all_goals simp [Try.f34]
end Go.Proofs.Ytegoihognjpcjaa


/- The plan that makes one history of another: history.Make. -/
namespace Go.Proofs.Ytegoihognjpcjaa
set_option linter.unusedSimpArgs false
set_option linter.unusedVariables false
open Go Go.Av
attribute [local simp] Try.T1 Try.T2 Try.T3 Try.T4 Try.T5 Try.T9 Try.T12 Try.T15 Try.T16 Try.T17 Try.T21 Try.T22 Try.T23 Try.T25 Try.T26 Try.T28 Try.T30 Try.T31 Try.T33 Try.T34 Try.T35 Try.T36 Try.T37 Try.T38 Try.T40 Try.T42 Try.T43 Try.T44 Try.T45 Try.T46 Try.T48 Try.T49 Try.T50 Try.T51 Try.T52 Try.T53 Try.T54 Try.T55 Try.T56 Try.T57 Try.T58 Try.T59 Try.T60 Try.T61 Try.T62 Try.T64 Try.T66 Try.T67 Try.T68 Try.T69 Try.T70 Try.T71 Try.T72 Try.T73 Try.T74 Try.T75 Try.T76 Try.T77 Try.T78 Try.T80 Try.T81 Try.T82 Try.T83 Try.T84 Try.T85 Try.T86 Try.T88 Try.T89 Try.T90 Try.T91 Try.T92 Try.T93 Try.T94 Try.T95 Try.T96 Try.T97 Try.T98 Try.T99 Try.T100 Try.T101 Try.T102 Try.T103 Try.T104 Try.T105 Try.T106 Try.T107 Try.T108 Try.T109 Try.T110 Try.T111 Try.T112 Try.T113 Try.T116 Try.T119 Try.T120 Try.T123 Try.T124
attribute [local irreducible] Go.Av.CallK Go.Av.CallE Go.Av.CallQ Go.Av.CallF Go.Av.CallR Go.Av.CallH Go.Av.Con
def lastIn (M ms : List Zx) : Nat → Option Nat
  | 0 => none
  | i + 1 => match M[i]? with
    | some z => if z ∈ ms then some i else lastIn M ms i
    | none => lastIn M ms i
theorem lastIn_succ {M ms : List Zx} {i : Nat} (h : i < M.length) : lastIn M ms (i + 1) = if M[i] ∈ ms then some i else lastIn M ms i := by
  simp only [lastIn, List.getElem?_eq_getElem h]
def makeP (h : Hy) (ms : List Zx) : List PV := match lastIn (mks h) ms (mks h).length with
  | some i => [I (if ms.getLast? = some ((mks h).getD i ⟨0, 0⟩) then 1 else 2), I ((mks h).getD i ⟨0, 0⟩).e, I ((mks h).getD i ⟨0, 0⟩).n, .sl 5 [], .sl 1 [], I 0, I 0, I 0, I 0, .sl 4 [], I 0, I 0, .sl 8 (txns (h.lg.drop i))]
  | none => [I 3, I 0, I 0, .sl 5 (zns h.im.ns), .sl 1 (ints h.im.ss), I h.im.nx, I h.im.c.ep, I h.im.c.n, I h.im.c.kind, .sl 4 (mbs h.im.c.ms), I h.im.ae, I h.im.an, .sl 8 (txns h.lg)]
theorem txns_drop (l : List Tx) (k : Nat) : (txns l).drop k = txns (l.drop k) := by simp [txns, List.map_drop]
set_option maxHeartbeats 8000000 in
theorem make_con (h : Hy) (ms : List Zx) (hk : OkH h) (hms : ms.length ≤ 1000000) : ACon Try.prog 12 [.p (.agg h.cells), .p (.sl 2 (zxs ms))] (.p (.agg (makeP h ms))) := by
  have c1 := marks_con h hk.lg
  have c2 := backward_con (zxs (mks h))
  have c3 := ownH_con h hk
  have hml := mks_len h
  have hlg := hk.lg
  have hE : Go.Av.Enters Try.prog 49 := ⟨Try.f49, Try.func49, rfl, rfl⟩
  have hown : ∀ i, ACon Try.prog 33 [.p (.sl 8 (txns (h.lg.drop i)))] (.p (.sl 8 (txns (h.lg.drop i)))) := fun i => (ownTxns_con (h.lg.drop i) (by simp; omega) fun t ht => hk.ps t (List.mem_of_mem_drop ht)).toPure
  unfold makeP
  generalize mks h = M at *
  unfold Hy.cells at *
  refine wBodyM Try.tab Try.mixed Try.func12 rfl rfl Try.ntmps12 (by simp) (by simp) fun Q hr hn => ?_
  repeat' first | (refine CallE.pure (c1) rfl ?_) | (refine CallE.lent (c1) rfl ?_) | (refine CallF.pure (c1) rfl ?_) | (refine CallF.lent (c1) rfl ?_) | (refine CallE.own (c1) ?_) | (refine CallH.pure (c1) rfl ?_) | (refine CallH.lent (c1) rfl ?_) | (refine CallH.own (c1) ?_) | (refine CallK_gen [] c2 (by decide) (by decide) (by simp [blksOf]) (by simp [argsG, argG, ren0, inN, pos, renCs, renC, toP, toPF]) ⟨[], by simp, by simp, ?_⟩; simp [lv, ouN, kpI, kpR, pos, ren, ren0, renB, renC, renCs, renF, renFs]) | (refine hK _ ?_; clear hK) | (refine hK _ _ ?_; clear hK) | (clear hK; refine hK _ ?_; clear hK) | (clear hK; clear hK; refine hK _ ?_; clear hK) | (clear hK; clear hK; clear hK; refine hK _ ?_; clear hK) | (clear hK; clear hK; clear hK; clear hK; refine hK _ ?_; clear hK) | (refine wSeq fun K hK => ?_) | ((first | refine wReg ?_ | refine wDrwQ rfl (by kernel_rfl) ?_ | refine wDrwI ?_ | refine wDrw (by kernel_rfl) ?_); simp only [List.map_cons, List.map_nil, strip]) | ((first | refine wIs fun K hK => ?_ | refine wOs fun K hK => ?_ | refine wQs fun K hK => ?_ | refine CallK_plain ?_ | refine CallQ_plain ?_ | refine CallR_plain ?_ | refine wCond ?_); simp) | (refine wIn ?_; refine And.intro (by kernel_rfl) ?_; try simp only [thenA_n]) | (first | refine wBlock ?_ | refine wScope ?_) | ((first | refine wRet ?_ | refine wExit ?_ | refine wSkip ?_); try simp) | ((first | refine wLabel ?_ | refine wOn ?_ | refine wQn ?_); try simp only [thenA_n])
  refine wRng (M := 8220) (l := zxs M) [2, 3, 4, 13] (fun k β => β 2 = some (.box 33 [.p (.sl 5 (zns h.im.ns)), .p (.sl 1 (ints h.im.ss)), .p (I h.im.nx), .p (I h.im.c.ep), .p (I h.im.c.n), .p (I h.im.c.kind), .p (.sl 4 (mbs h.im.c.ms)), .p (I h.im.ae), .p (I h.im.an), .p (.sl 8 (txns h.lg))]) ∧ β 3 = some (.box 43 [.p (.sl 2 (zxs ms))]) ∧ (∃ z, β 4 = some (.box 48 z) ∧ z.length = 13) ∧ lastIn M ms (M.length - k) = lastIn M ms M.length)
    (fun β => ∃ i kd, lastIn M ms M.length = some i ∧ kd = (if ms.getLast? = some (M.getD i ⟨0, 0⟩) then (1 : Int) else 2) ∧ β 4 = some (.box 48 [.p (I kd), .p (I (M.getD i ⟨0, 0⟩).e), .p (I (M.getD i ⟨0, 0⟩).n), .p (.sl 5 []), .p (.sl 1 []), .p (I 0), .p (I 0), .p (I 0), .p (I 0), .p (.sl 4 []), .p (I 0), .p (I 0), .p (.sl 8 (txns (h.lg.drop i)))]))
    backward_iter hE (by simp) (fun t => by rw [show 8220 = maskOf [2, 3, 4, 13] from rfl]; exact mask_bit _ t) (by decide) (by decide) (by decide) (by decide) (by decide) (by decide) (by decide) (by decide) (by decide) ?_ ?_ ?_ ?_
  · simp
  · intro k β hkl ⟨b2, b3, ⟨z, b4, hz'⟩, hli⟩ K hK
    have hkl' : k < M.length := by simpa using hkl
    obtain ⟨i, hi⟩ : ∃ i, i = M.length - 1 - k := ⟨_, rfl⟩
    have hiM : i < M.length := by omega
    have hz : (zxs M)[(zxs M).length - 1 - k]'(by omega) = [I M[i].e, I M[i].n] := by simp only [zxs_getE, zxs_len, hi]
    have hz2 : (zxs M).length - 1 - k = i := by rw [zxs_len]; exact hi.symm
    rw [hz, hz2]
    have hil : i ≤ h.lg.length := by omega
    have hmi : M.getD i ⟨0, 0⟩ = M[i] := by rw [List.getD_eq_getElem?_getD, List.getElem?_eq_getElem hiM]; rfl
    rw [show M.length - k = i + 1 by omega, lastIn_succ hiM] at hli
    have hki : M.length - (k + 1) = i := by omega
    have ca := among_con ms M[i].e M[i].n
    have hdr := txns_drop h.lg i
    have htk : List.take h.lg.length (txns h.lg) = txns h.lg := List.take_of_length_le (by simp)
    have hoi := hown i
    clear hi hz hz2
    generalize M[i] = x at *
    have hx : (⟨x.e, x.n⟩ : Zx) = x := by cases x; rfl
    rw [hx] at ca
    obtain ⟨z0, z1, z2, z3, z4, z5, z6, z7, z8, z9, z10, z11, z12, rfl⟩ : ∃ z0 z1 z2 z3 z4 z5 z6 z7 z8 z9 z10 z11 z12, z = [z0, z1, z2, z3, z4, z5, z6, z7, z8, z9, z10, z11, z12] := by
      match z, hz' with
      | [z0, z1, z2, z3, z4, z5, z6, z7, z8, z9, z10, z11, z12], _ => exact ⟨z0, z1, z2, z3, z4, z5, z6, z7, z8, z9, z10, z11, z12, rfl⟩
    by_cases o : x ∈ ms
    · rw [if_pos o] at hli
      rw [decide_eq_true o] at ca
      have hm0 : 0 < ms.length := List.length_pos_of_mem o
      have hmw : IntKind.i64.wrap ((ms.length : Int) - 1) = ((ms.length - 1 : Nat) : Int) := by rw [wrap_id] <;> omega
      have hml1 : ms.length - 1 < ms.length := by omega
      have hgl : ms.getLast? = some ms[ms.length - 1] := by rw [List.getLast?_eq_getElem?, List.getElem?_eq_getElem hml1]
      obtain ⟨j, hj⟩ : ∃ j, j = ms.length - 1 := ⟨_, rfl⟩
      have hjl : j < ms.length := by omega
      rw [← hj] at hmw
      have hgl' : ms.getLast? = some ms[j] := by rw [hgl]; simp only [hj]
      clear hgl hml1 hj
      have hyx : ms[j] = x ↔ ms[j].e = x.e ∧ ms[j].n = x.n := by cases h1 : ms[j]; cases x; simp
      by_cases o2 : ms[j].e = x.e ∧ ms[j].n = x.n
      · have hkd : (if ms.getLast? = some (M.getD i ⟨0, 0⟩) then (1 : Int) else 2) = 1 := by rw [hmi, hgl', if_pos (by rw [hyx.2 o2])]
        obtain ⟨o3, o4⟩ := o2
        replace o3 : (ms[j].e = x.e) = True := eq_true o3
        replace o4 : (ms[j].n = x.n) = True := eq_true o4
        repeat' first | (refine CallE.pure (ca) rfl ?_) | (refine CallE.lent (ca) rfl ?_) | (refine CallF.pure (ca) rfl ?_) | (refine CallF.lent (ca) rfl ?_) | (refine CallE.own (ca) ?_) | (refine CallH.pure (ca) rfl ?_) | (refine CallH.lent (ca) rfl ?_) | (refine CallH.own (ca) ?_) | (refine CallE.pure (hoi) rfl ?_) | (refine CallE.lent (hoi) rfl ?_) | (refine CallF.pure (hoi) rfl ?_) | (refine CallF.lent (hoi) rfl ?_) | (refine CallE.own (hoi) ?_) | (refine CallH.pure (hoi) rfl ?_) | (refine CallH.lent (hoi) rfl ?_) | (refine CallH.own (hoi) ?_) | (refine hK _ ?_; clear hK) | (refine hK _ _ ?_; clear hK) | (clear hK; refine hK _ ?_; clear hK) | (clear hK; clear hK; refine hK _ ?_; clear hK) | (clear hK; clear hK; clear hK; refine hK _ ?_; clear hK) | (clear hK; clear hK; clear hK; clear hK; refine hK _ ?_; clear hK) | (refine wSeq fun K hK => ?_) | ((first | refine wReg ?_ | refine wDrwQ rfl (by kernel_rfl) ?_ | refine wDrwI ?_ | refine wDrw (by kernel_rfl) ?_); simp only [List.map_cons, List.map_nil, strip]) | ((first | refine wIs fun K hK => ?_ | refine wOs fun K hK => ?_ | refine wQs fun K hK => ?_ | refine CallK_plain ?_ | refine CallQ_plain ?_ | refine CallR_plain ?_ | refine wCond ?_); simp [b2, b3, b4, hil, htk, hdr, hmw, hjl, o3, o4]) | (refine wIn ?_; refine And.intro (by kernel_rfl) ?_; try simp only [thenA_n]) | (first | refine wBlock ?_ | refine wScope ?_) | ((first | refine wRet ?_ | refine wExit ?_ | refine wSkip ?_); try simp) | ((first | refine wLabel ?_ | refine wOn ?_ | refine wQn ?_); try simp only [thenA_n])
        simp only [rndQ]
        refine ⟨⟨i, hli.symm, ?_⟩, by simp⟩
        have hmi2 : M[i]?.getD ⟨0, 0⟩ = x := by rw [← hmi, List.getD_eq_getElem?_getD]
        rw [hmi] at hkd
        simp [hmi, hmi2, hkd, b4]
      · have hkd : (if ms.getLast? = some (M.getD i ⟨0, 0⟩) then (1 : Int) else 2) = 2 := by
          rw [hmi, hgl', if_neg]
          intro hh
          exact o2 (hyx.1 (Option.some.inj hh))
        repeat' first | (refine CallE.pure (ca) rfl ?_) | (refine CallE.lent (ca) rfl ?_) | (refine CallF.pure (ca) rfl ?_) | (refine CallF.lent (ca) rfl ?_) | (refine CallE.own (ca) ?_) | (refine CallH.pure (ca) rfl ?_) | (refine CallH.lent (ca) rfl ?_) | (refine CallH.own (ca) ?_) | (refine CallE.pure (hoi) rfl ?_) | (refine CallE.lent (hoi) rfl ?_) | (refine CallF.pure (hoi) rfl ?_) | (refine CallF.lent (hoi) rfl ?_) | (refine CallE.own (hoi) ?_) | (refine CallH.pure (hoi) rfl ?_) | (refine CallH.lent (hoi) rfl ?_) | (refine CallH.own (hoi) ?_) | (refine hK _ ?_; clear hK) | (refine hK _ _ ?_; clear hK) | (clear hK; refine hK _ ?_; clear hK) | (clear hK; clear hK; refine hK _ ?_; clear hK) | (clear hK; clear hK; clear hK; refine hK _ ?_; clear hK) | (clear hK; clear hK; clear hK; clear hK; refine hK _ ?_; clear hK) | (refine wSeq fun K hK => ?_) | ((first | refine wReg ?_ | refine wDrwQ rfl (by kernel_rfl) ?_ | refine wDrwI ?_ | refine wDrw (by kernel_rfl) ?_); simp only [List.map_cons, List.map_nil, strip]) | ((first | refine wIs fun K hK => ?_ | refine wOs fun K hK => ?_ | refine wQs fun K hK => ?_ | refine CallK_plain ?_ | refine CallQ_plain ?_ | refine CallR_plain ?_ | refine wCond ?_); simp [b2, b3, b4, hil, htk, hdr, hmw, hjl, o2]) | (refine wIn ?_; refine And.intro (by kernel_rfl) ?_; try simp only [thenA_n]) | (first | refine wBlock ?_ | refine wScope ?_) | ((first | refine wRet ?_ | refine wExit ?_ | refine wSkip ?_); try simp) | ((first | refine wLabel ?_ | refine wOn ?_ | refine wQn ?_); try simp only [thenA_n]) | (intro _)
        all_goals first | exact o2 | skip
        simp only [rndQ]
        refine ⟨⟨i, hli.symm, ?_⟩, by simp⟩
        have hmi2 : M[i]?.getD ⟨0, 0⟩ = x := by rw [← hmi, List.getD_eq_getElem?_getD]
        rw [hmi] at hkd
        simp [hmi, hmi2, hkd, b4]
    · rw [if_neg o] at hli
      rw [decide_eq_false o] at ca
      repeat' first | (refine CallE.pure (ca) rfl ?_) | (refine CallE.lent (ca) rfl ?_) | (refine CallF.pure (ca) rfl ?_) | (refine CallF.lent (ca) rfl ?_) | (refine CallE.own (ca) ?_) | (refine CallH.pure (ca) rfl ?_) | (refine CallH.lent (ca) rfl ?_) | (refine CallH.own (ca) ?_) | (refine hK _ ?_; clear hK) | (refine hK _ _ ?_; clear hK) | (clear hK; refine hK _ ?_; clear hK) | (clear hK; clear hK; refine hK _ ?_; clear hK) | (clear hK; clear hK; clear hK; refine hK _ ?_; clear hK) | (clear hK; clear hK; clear hK; clear hK; refine hK _ ?_; clear hK) | (refine wSeq fun K hK => ?_) | ((first | refine wReg ?_ | refine wDrwQ rfl (by kernel_rfl) ?_ | refine wDrwI ?_ | refine wDrw (by kernel_rfl) ?_); simp only [List.map_cons, List.map_nil, strip]) | ((first | refine wIs fun K hK => ?_ | refine wOs fun K hK => ?_ | refine wQs fun K hK => ?_ | refine CallK_plain ?_ | refine CallQ_plain ?_ | refine CallR_plain ?_ | refine wCond ?_); simp [b2, b3, b4]) | (refine wIn ?_; refine And.intro (by kernel_rfl) ?_; try simp only [thenA_n]) | (first | refine wBlock ?_ | refine wScope ?_) | ((first | refine wRet ?_ | refine wExit ?_ | refine wSkip ?_); try simp) | ((first | refine wLabel ?_ | refine wOn ?_ | refine wQn ?_); try simp only [thenA_n])
      simp only [rndQ]
      rw [hki]
      refine ⟨⟨?_, ?_, ⟨[z0, z1, z2, z3, z4, z5, z6, z7, z8, z9, z10, z11, z12].map (scr0 7), ?_, by simp⟩, hli⟩, ?_⟩
      · simp [b2]
      · simp [b3]
      · simp [b4]
      · simp
  · rintro β ⟨b2, b3, ⟨z, b4, hz⟩, hli⟩
    rw [zxs_len, Nat.sub_self] at hli
    rw [← hli] at hr hn
    simp only [lastIn] at hr hn
    obtain ⟨z0, z1, z2, z3, z4, z5, z6, z7, z8, z9, z10, z11, z12, rfl⟩ : ∃ z0 z1 z2 z3 z4 z5 z6 z7 z8 z9 z10 z11 z12, z = [z0, z1, z2, z3, z4, z5, z6, z7, z8, z9, z10, z11, z12] := by
      match z, hz with
      | [z0, z1, z2, z3, z4, z5, z6, z7, z8, z9, z10, z11, z12], _ => exact ⟨z0, z1, z2, z3, z4, z5, z6, z7, z8, z9, z10, z11, z12, rfl⟩
    first | (apply_assumption) | skip
    repeat' first | (refine CallE.pure (c3) rfl ?_) | (refine CallE.lent (c3) rfl ?_) | (refine CallF.pure (c3) rfl ?_) | (refine CallF.lent (c3) rfl ?_) | (refine CallE.own (c3) ?_) | (refine CallH.pure (c3) rfl ?_) | (refine CallH.lent (c3) rfl ?_) | (refine CallH.own (c3) ?_) | (refine hK _ ?_; clear hK) | (refine hK _ _ ?_; clear hK) | (clear hK; refine hK _ ?_; clear hK) | (clear hK; clear hK; refine hK _ ?_; clear hK) | (clear hK; clear hK; clear hK; refine hK _ ?_; clear hK) | (clear hK; clear hK; clear hK; clear hK; refine hK _ ?_; clear hK) | (refine wSeq fun K hK => ?_) | ((first | refine wReg ?_ | refine wDrwQ rfl (by kernel_rfl) ?_ | refine wDrwI ?_ | refine wDrw (by kernel_rfl) ?_); simp only [List.map_cons, List.map_nil, strip]) | ((first | refine wIs fun K hK => ?_ | refine wOs fun K hK => ?_ | refine wQs fun K hK => ?_ | refine CallK_plain ?_ | refine CallQ_plain ?_ | refine CallR_plain ?_ | refine wCond ?_); simp [b2, b4]) | (refine wIn ?_; refine And.intro (by kernel_rfl) ?_; try simp only [thenA_n]) | (first | refine wBlock ?_ | refine wScope ?_) | ((first | refine wRet ?_ | refine wExit ?_ | refine wSkip ?_); try simp) | ((first | refine wLabel ?_ | refine wOn ?_ | refine wQn ?_); try simp only [thenA_n])
    all_goals apply hr
    all_goals refine ⟨[], by simp, by simp, trivial, trivial, by simp, ?_⟩
    all_goals simp [Try.f12, b4]
  · rintro β ⟨i, kd, hli, hkd, b4⟩
    rw [hli] at hr
    simp only at hr
    rw [← hkd] at hr
    apply hr
    refine ⟨[], by simp, by simp, trivial, trivial, by simp, ?_⟩
    simp [Try.f12, b4]
end Go.Proofs.Ytegoihognjpcjaa


/- Histories: one grown, cut, done by a plan: the program's. -/
namespace Go.Proofs.Ytegoihognjpcjaa
set_option linter.unusedSimpArgs false
set_option linter.unusedVariables false
open Go Go.Av
attribute [local simp] Try.T1 Try.T2 Try.T3 Try.T4 Try.T5 Try.T9 Try.T12 Try.T15 Try.T16 Try.T17 Try.T21 Try.T22 Try.T23 Try.T25 Try.T26 Try.T28 Try.T30 Try.T31 Try.T33 Try.T34 Try.T35 Try.T36 Try.T37 Try.T38 Try.T40 Try.T42 Try.T43 Try.T44 Try.T45 Try.T46 Try.T48 Try.T49 Try.T50 Try.T51 Try.T52 Try.T53 Try.T54 Try.T55 Try.T56 Try.T57 Try.T58 Try.T59 Try.T60 Try.T61 Try.T62 Try.T64 Try.T66 Try.T67 Try.T68 Try.T69 Try.T70 Try.T71 Try.T72 Try.T73 Try.T74 Try.T75 Try.T76 Try.T77 Try.T78 Try.T80 Try.T81 Try.T82 Try.T83 Try.T84 Try.T85 Try.T86 Try.T88 Try.T89 Try.T90 Try.T91 Try.T92 Try.T93 Try.T94 Try.T95 Try.T96 Try.T97 Try.T98 Try.T99 Try.T100 Try.T101 Try.T102 Try.T103 Try.T104 Try.T105 Try.T106 Try.T107 Try.T108 Try.T109 Try.T110 Try.T111 Try.T112 Try.T113 Try.T116 Try.T119 Try.T120 Try.T123 Try.T124
attribute [local irreducible] Go.Av.CallK Go.Av.CallE Go.Av.CallQ Go.Av.CallF Go.Av.CallR Go.Av.CallH Go.Av.Con
def hyCells (h : Hy) (X : Fc) : List Fc := [.p (.sl 5 (zns h.im.ns)), .p (.sl 1 (ints h.im.ss)), .p (I h.im.nx), .p (I h.im.c.ep), .p (I h.im.c.n), .p (I h.im.c.kind), .p (.sl 4 (mbs h.im.c.ms)), .p (I h.im.ae), .p (I h.im.an), X]
/-- Own, its log a row of the caller's. -/
theorem ownHistR_con (h : Hy) (hk : OkH h) : Con Try.prog 52 [.p (.agg h.cells)] [] (.ret (.ag (hyCells h (.row 2048))) [.row 40 8 (txns h.lg)] []) := by
  have c1 := ownStateP_con (zns h.im.ns) (ints h.im.ss) (mbs h.im.c.ms) h.im.nx h.im.c.ep h.im.c.n h.im.c.kind h.im.ae h.im.an (by have := hk.ns; simp; omega) (by have := hk.ss; simp; omega) (by have := hk.c; simp; omega)
  have c2 := ownTxns_con h.lg hk.lg hk.ps
  unfold Hy.cells hyCells
  refine wBodyG Try.tab Try.mixed Try.func52 rfl rfl Try.ntmps52 (by simp) (by simp) fun Q hr hn hp => ?_
  repeat' first | (refine CallE.pure (c1) rfl ?_) | (refine CallE.lent (c1) rfl ?_) | (refine CallF.pure (c1) rfl ?_) | (refine CallF.lent (c1) rfl ?_) | (refine CallE.own (c1) ?_) | (refine CallH.pure (c1) rfl ?_) | (refine CallH.lent (c1) rfl ?_) | (refine CallH.own (c1) ?_) | (refine CallE.pure (c2) rfl ?_) | (refine CallE.lent (c2) rfl ?_) | (refine CallF.pure (c2) rfl ?_) | (refine CallF.lent (c2) rfl ?_) | (refine CallE.own (c2) ?_) | (refine CallH.pure (c2) rfl ?_) | (refine CallH.lent (c2) rfl ?_) | (refine CallH.own (c2) ?_) | (refine hK _ ?_; clear hK) | (refine hK _ _ ?_; clear hK) | (clear hK; refine hK _ ?_; clear hK) | (clear hK; clear hK; refine hK _ ?_; clear hK) | (clear hK; clear hK; clear hK; refine hK _ ?_; clear hK) | (clear hK; clear hK; clear hK; clear hK; refine hK _ ?_; clear hK) | (refine wSeq fun K hK => ?_) | ((first | refine wReg ?_ | refine wDrwQ rfl (by kernel_rfl) ?_ | refine wDrwI ?_ | refine wDrw (by kernel_rfl) ?_); simp only [List.map_cons, List.map_nil, strip]) | ((first | refine wIs fun K hK => ?_ | refine wOs fun K hK => ?_ | refine wQs fun K hK => ?_ | refine CallK_plain ?_ | refine CallQ_plain ?_ | refine CallR_plain ?_ | refine wCond ?_); simp) | (refine wIn ?_; refine And.intro (by kernel_rfl) ?_; try simp only [thenA_n]) | (first | refine wBlock ?_ | refine wScope ?_) | ((first | refine wRet ?_ | refine wExit ?_ | refine wSkip ?_); try simp) | ((first | refine wLabel ?_ | refine wOn ?_ | refine wQn ?_); try simp only [thenA_n])
  all_goals apply hr
  all_goals refine ⟨[8], by simp, by simp, ?_⟩
  all_goals simp [Try.f52, outR, outB, renB]
theorem ownHR_con (h : Hy) (hk : OkH h) : Con Try.prog 34 [.p (.agg h.cells)] [] (.ret (.ag (hyCells h (.row 2048))) [.row 40 8 (txns h.lg)] []) := by
  have c1 := ownHistR_con h hk
  unfold Hy.cells hyCells at *
  refine wBodyG Try.tab Try.mixed Try.func34 rfl rfl Try.ntmps34 (by simp) (by simp) fun Q hr hn hp => ?_
  repeat' first | (refine CallK_gen [] (c1) (by decide) (by decide) (by simp [blksOf]) (by simp [argsG, argG, ren0, inN, pos, renCs, renC, toP, toPF]) ⟨[500], by simp, by simp, ?_⟩; simp [lv, ouN, kpI, kpR, pos, ren, ren0, renB, renC, renCs, renF, renFs]) | (refine hK _ ?_; clear hK) | (refine hK _ _ ?_; clear hK) | (clear hK; refine hK _ ?_; clear hK) | (clear hK; clear hK; refine hK _ ?_; clear hK) | (clear hK; clear hK; clear hK; refine hK _ ?_; clear hK) | (clear hK; clear hK; clear hK; clear hK; refine hK _ ?_; clear hK) | (refine wSeq fun K hK => ?_) | ((first | refine wReg ?_ | refine wDrwQ rfl (by kernel_rfl) ?_ | refine wDrwI ?_ | refine wDrw (by kernel_rfl) ?_); simp only [List.map_cons, List.map_nil, strip]) | ((first | refine wIs fun K hK => ?_ | refine wOs fun K hK => ?_ | refine wQs fun K hK => ?_ | refine CallK_plain ?_ | refine CallQ_plain ?_ | refine CallR_plain ?_ | refine wCond ?_); simp) | (refine wIn ?_; refine And.intro (by kernel_rfl) ?_; try simp only [thenA_n]) | (first | refine wBlock ?_ | refine wScope ?_) | ((first | refine wRet ?_ | refine wExit ?_ | refine wSkip ?_); try simp) | ((first | refine wLabel ?_ | refine wOn ?_ | refine wQn ?_); try simp only [thenA_n])
  all_goals apply hr
  all_goals refine ⟨[500], by simp, by simp, ?_⟩
  all_goals simp [Try.f34, outR, outB, renB]
def follows (z : Zx) : List Tx → Bool
  | [] => true
  | t :: l => if zcmp t.e t.n z.e z.n ≤ 0 then false else follows ⟨t.e, t.n⟩ l
theorem follows_con (z : Zx) (l : List Tx) (hl : l.length ≤ 1000) : ACon Try.prog 40 [.p (.agg [I z.e, I z.n]), .p (.sl 8 (txns l))] (.p (B (follows z l))) := by
  refine wBody Try.tab Try.mixed Try.func40 rfl rfl Try.ntmps40 (by simp) (by simp) fun Q hr hn => ?_
  repeat' first | (refine hK _ ?_; clear hK) | (refine hK _ _ ?_; clear hK) | (clear hK; refine hK _ ?_; clear hK) | (clear hK; clear hK; refine hK _ ?_; clear hK) | (clear hK; clear hK; clear hK; refine hK _ ?_; clear hK) | (clear hK; clear hK; clear hK; clear hK; refine hK _ ?_; clear hK) | (refine wSeq fun K hK => ?_) | ((first | refine wReg ?_ | refine wDrwQ rfl (by kernel_rfl) ?_ | refine wDrwI ?_ | refine wDrw (by kernel_rfl) ?_); simp only [List.map_cons, List.map_nil, strip]) | ((first | refine wIs fun K hK => ?_ | refine wOs fun K hK => ?_ | refine wQs fun K hK => ?_ | refine CallK_plain ?_ | refine CallQ_plain ?_ | refine CallR_plain ?_ | refine wCond ?_); simp) | (refine wIn ?_; refine And.intro (by kernel_rfl) ?_; try simp only [thenA_n]) | (first | refine wBlock ?_ | refine wScope ?_) | ((first | refine wRet ?_ | refine wExit ?_ | refine wSkip ?_); try simp) | ((first | refine wLabel ?_ | refine wOn ?_ | refine wQn ?_); try simp only [thenA_n])
  refine wLoop (fun N st => ∃ (k : Nat) (y : Zx), k + N = l.length ∧ st.s 2 = .ptr 2 0 ∧ st.b 2 = some (.box 25 [.p (I y.e), .p (I y.n)]) ∧ st.s 7 = .p (.sl 8 (txns l)) ∧ st.s 8 = .p (I l.length) ∧ st.s 9 = .p (I k) ∧ follows y (l.drop k) = follows z l) l.length ⟨0, z, by simp⟩ fun K N st hL ⟨k, y, hk, g2, b2, g7, g8, g9, hi⟩ => ?_
  by_cases hlt : k < l.length
  · have hw := wrapS k _ hlt (by omega)
    have he := txns_get hlt
    rw [List.drop_eq_getElem_cons hlt, follows] at hi
    have cc := cmp_con l[k].e l[k].n y.e y.n
    by_cases o : zcmp l[k].e l[k].n y.e y.n ≤ 0
    · rw [if_pos o] at hi
      rw [← hi] at hr
      generalize zcmp l[k].e l[k].n y.e y.n = q at *
      repeat' first | (refine CallE.pure (cc) rfl ?_) | (refine CallE.lent (cc) rfl ?_) | (refine CallF.pure (cc) rfl ?_) | (refine CallF.lent (cc) rfl ?_) | (refine CallE.own (cc) ?_) | (refine CallH.pure (cc) rfl ?_) | (refine CallH.lent (cc) rfl ?_) | (refine CallH.own (cc) ?_) | (refine hK _ ?_; clear hK) | (refine hK _ _ ?_; clear hK) | (clear hK; refine hK _ ?_; clear hK) | (clear hK; clear hK; refine hK _ ?_; clear hK) | (clear hK; clear hK; clear hK; refine hK _ ?_; clear hK) | (clear hK; clear hK; clear hK; clear hK; refine hK _ ?_; clear hK) | (refine wSeq fun K hK => ?_) | ((first | refine wReg ?_ | refine wDrwQ rfl (by kernel_rfl) ?_ | refine wDrwI ?_ | refine wDrw (by kernel_rfl) ?_); simp only [List.map_cons, List.map_nil, strip]) | ((first | refine wIs fun K hK => ?_ | refine wOs fun K hK => ?_ | refine wQs fun K hK => ?_ | refine CallK_plain ?_ | refine CallQ_plain ?_ | refine CallR_plain ?_ | refine wCond ?_); simp [g2, b2, g7, g8, g9, hlt, hw, he, o]) | (refine wIn ?_; refine And.intro (by kernel_rfl) ?_; try simp only [thenA_n]) | (first | refine wBlock ?_ | refine wScope ?_) | ((first | refine wRet ?_ | refine wExit ?_ | refine wSkip ?_); try simp) | ((first | refine wLabel ?_ | refine wOn ?_ | refine wQn ?_); try simp only [thenA_n])
      all_goals apply hr
      all_goals simp [Try.f40]
    · rw [if_neg o] at hi
      generalize zcmp l[k].e l[k].n y.e y.n = q at *
      repeat' first | (refine CallE.pure (cc) rfl ?_) | (refine CallE.lent (cc) rfl ?_) | (refine CallF.pure (cc) rfl ?_) | (refine CallF.lent (cc) rfl ?_) | (refine CallE.own (cc) ?_) | (refine CallH.pure (cc) rfl ?_) | (refine CallH.lent (cc) rfl ?_) | (refine CallH.own (cc) ?_) | (refine hK _ ?_; clear hK) | (refine hK _ _ ?_; clear hK) | (clear hK; refine hK _ ?_; clear hK) | (clear hK; clear hK; refine hK _ ?_; clear hK) | (clear hK; clear hK; clear hK; refine hK _ ?_; clear hK) | (clear hK; clear hK; clear hK; clear hK; refine hK _ ?_; clear hK) | (refine wSeq fun K hK => ?_) | ((first | refine wReg ?_ | refine wDrwQ rfl (by kernel_rfl) ?_ | refine wDrwI ?_ | refine wDrw (by kernel_rfl) ?_); simp only [List.map_cons, List.map_nil, strip]) | ((first | refine wIs fun K hK => ?_ | refine wOs fun K hK => ?_ | refine wQs fun K hK => ?_ | refine CallK_plain ?_ | refine CallQ_plain ?_ | refine CallR_plain ?_ | refine wCond ?_); simp [g2, b2, g7, g8, g9, hlt, hw, he, o]) | (refine wIn ?_; refine And.intro (by kernel_rfl) ?_; try simp only [thenA_n]) | (first | refine wBlock ?_ | refine wScope ?_) | ((first | refine wRet ?_ | refine wExit ?_ | refine wSkip ?_); try simp) | ((first | refine wLabel ?_ | refine wOn ?_ | refine wQn ?_); try simp only [thenA_n])
      refine hL _ (N - 1) (by omega) ⟨k + 1, ⟨l[k].e, l[k].n⟩, by omega, ?_⟩
      simp [g2, b2, g7, g8, hw, hi]
  · rw [List.drop_of_length_le (by omega), follows] at hi
    rw [← hi] at hr
    repeat' first | (refine hK _ ?_; clear hK) | (refine hK _ _ ?_; clear hK) | (clear hK; refine hK _ ?_; clear hK) | (clear hK; clear hK; refine hK _ ?_; clear hK) | (clear hK; clear hK; clear hK; refine hK _ ?_; clear hK) | (clear hK; clear hK; clear hK; clear hK; refine hK _ ?_; clear hK) | (refine wSeq fun K hK => ?_) | ((first | refine wReg ?_ | refine wDrwQ rfl (by kernel_rfl) ?_ | refine wDrwI ?_ | refine wDrw (by kernel_rfl) ?_); simp only [List.map_cons, List.map_nil, strip]) | ((first | refine wIs fun K hK => ?_ | refine wOs fun K hK => ?_ | refine wQs fun K hK => ?_ | refine CallK_plain ?_ | refine CallQ_plain ?_ | refine CallR_plain ?_ | refine wCond ?_); simp [g2, b2, g7, g8, g9, hlt]) | (refine wIn ?_; refine And.intro (by kernel_rfl) ?_; try simp only [thenA_n]) | (first | refine wBlock ?_ | refine wScope ?_) | ((first | refine wRet ?_ | refine wExit ?_ | refine wSkip ?_); try simp) | ((first | refine wLabel ?_ | refine wOn ?_ | refine wQn ?_); try simp only [thenA_n])
    all_goals apply hr
    all_goals simp [Try.f40]
def lastH (h : Hy) : Zx := if h.lg.length = 0 then ⟨h.im.ae, h.im.an⟩ else ⟨(h.lg.getD (h.lg.length - 1) tx0).e, (h.lg.getD (h.lg.length - 1) tx0).n⟩
theorem lastH_con (h : Hy) (hl : h.lg.length ≤ 1000) : ACon Try.prog 53 [.p (.agg h.cells)] (.p (.agg [I (lastH h).e, I (lastH h).n])) := by
  have cb := base_con h
  unfold lastH
  by_cases h0 : h.lg.length = 0
  · have h0' : (h.lg.length : Int) = 0 := by omega
    rw [if_pos h0]
    unfold Hy.cells at *
    refine wBody Try.tab Try.mixed Try.func53 rfl rfl Try.ntmps53 (by simp) (by simp) fun Q hr hn => ?_
    repeat' first | (refine CallE.pure (cb) rfl ?_) | (refine CallE.lent (cb) rfl ?_) | (refine CallF.pure (cb) rfl ?_) | (refine CallF.lent (cb) rfl ?_) | (refine CallE.own (cb) ?_) | (refine CallH.pure (cb) rfl ?_) | (refine CallH.lent (cb) rfl ?_) | (refine CallH.own (cb) ?_) | (refine hK _ ?_; clear hK) | (refine hK _ _ ?_; clear hK) | (clear hK; refine hK _ ?_; clear hK) | (clear hK; clear hK; refine hK _ ?_; clear hK) | (clear hK; clear hK; clear hK; refine hK _ ?_; clear hK) | (clear hK; clear hK; clear hK; clear hK; refine hK _ ?_; clear hK) | (refine wSeq fun K hK => ?_) | ((first | refine wReg ?_ | refine wDrwQ rfl (by kernel_rfl) ?_ | refine wDrwI ?_ | refine wDrw (by kernel_rfl) ?_); simp only [List.map_cons, List.map_nil, strip]) | ((first | refine wIs fun K hK => ?_ | refine wOs fun K hK => ?_ | refine wQs fun K hK => ?_ | refine CallK_plain ?_ | refine CallQ_plain ?_ | refine CallR_plain ?_ | refine wCond ?_); simp [h0, h0']) | (refine wIn ?_; refine And.intro (by kernel_rfl) ?_; try simp only [thenA_n]) | (first | refine wBlock ?_ | refine wScope ?_) | ((first | refine wRet ?_ | refine wExit ?_ | refine wSkip ?_); try simp) | ((first | refine wLabel ?_ | refine wOn ?_ | refine wQn ?_); try simp only [thenA_n])
    all_goals apply hr
    all_goals simp [Try.f53]
  · have h0' : ¬ (h.lg.length : Int) = 0 := by omega
    rw [if_neg h0]
    have hlt : h.lg.length - 1 < h.lg.length := by omega
    have hg : h.lg.getD (h.lg.length - 1) tx0 = h.lg[h.lg.length - 1] := by rw [List.getD_eq_getElem?_getD, List.getElem?_eq_getElem hlt]; rfl
    rw [hg]
    have hw : IntKind.i64.wrap ((h.lg.length : Int) - 1) = ((h.lg.length - 1 : Nat) : Int) := by rw [wrap_id] <;> omega
    have he := txns_get hlt
    generalize h.lg.length - 1 = j at *
    unfold Hy.cells at *
    refine wBody Try.tab Try.mixed Try.func53 rfl rfl Try.ntmps53 (by simp) (by simp) fun Q hr hn => ?_
    repeat' first | (refine CallE.pure (cb) rfl ?_) | (refine CallE.lent (cb) rfl ?_) | (refine CallF.pure (cb) rfl ?_) | (refine CallF.lent (cb) rfl ?_) | (refine CallE.own (cb) ?_) | (refine CallH.pure (cb) rfl ?_) | (refine CallH.lent (cb) rfl ?_) | (refine CallH.own (cb) ?_) | (refine hK _ ?_; clear hK) | (refine hK _ _ ?_; clear hK) | (clear hK; refine hK _ ?_; clear hK) | (clear hK; clear hK; refine hK _ ?_; clear hK) | (clear hK; clear hK; clear hK; refine hK _ ?_; clear hK) | (clear hK; clear hK; clear hK; clear hK; refine hK _ ?_; clear hK) | (refine wSeq fun K hK => ?_) | ((first | refine wReg ?_ | refine wDrwQ rfl (by kernel_rfl) ?_ | refine wDrwI ?_ | refine wDrw (by kernel_rfl) ?_); simp only [List.map_cons, List.map_nil, strip]) | ((first | refine wIs fun K hK => ?_ | refine wOs fun K hK => ?_ | refine wQs fun K hK => ?_ | refine CallK_plain ?_ | refine CallQ_plain ?_ | refine CallR_plain ?_ | refine wCond ?_); simp [h0, h0', hw, hlt, he]) | (refine wIn ?_; refine And.intro (by kernel_rfl) ?_; try simp only [thenA_n]) | (first | refine wBlock ?_ | refine wScope ?_) | ((first | refine wRet ?_ | refine wExit ?_ | refine wSkip ?_); try simp) | ((first | refine wLabel ?_ | refine wOn ?_ | refine wQn ?_); try simp only [thenA_n])
    all_goals apply hr
    all_goals simp [Try.f53]
def growOk (h : Hy) (l : List Tx) : Bool := follows (lastH h) l
set_option maxHeartbeats 1000000 in
theorem grow_con (h : Hy) (l : List Tx) (hk : OkH h) (hl : l.length ≤ 1000) (hp : ∀ x ∈ l, x.ps.length ≤ 1000 ∧ ∀ p ∈ x.ps, p.c.ms.length ≤ 1000) :
    ACon Try.prog 37 [.p (.agg h.cells), .p (.sl 8 (txns l))] (.tup [.p (.agg (if growOk h l = true then { h with lg := h.lg ++ l } else h).cells), .p (I (if growOk h l = true then 0 else 1))]) := by
  have c1 := ownHR_con h hk
  have c2 := lastH_con h hk.lg
  have c3 := follows_con (lastH h) l hl
  have c4 := (ownTxns_con l hl hp).toPure
  have ha : txns h.lg ++ txns l = txns (h.lg ++ l) := by simp [txns]
  have hlg := hk.lg
  unfold growOk
  generalize follows (lastH h) l = b at *
  generalize lastH h = z at *
  cases b
  · simp only [Bool.false_eq_true, if_false]
    unfold Hy.cells hyCells at *
    refine wBody Try.tab Try.mixed Try.func37 rfl rfl Try.ntmps37 (by simp) (by simp) fun Q hr hn => ?_
    repeat' first | (refine CallK_gen [] (c1) (by decide) (by decide) (by simp [blksOf]) (by simp [argsG, argG, ren0, inN, pos, renCs, renC, toP, toPF]) ⟨[500], by simp, by simp, ?_⟩; simp [lv, ouN, kpI, kpR, pos, ren, ren0, renB, renC, renCs, renF, renFs]) | (refine CallE.pure (c2) rfl ?_) | (refine CallE.lent (c2) rfl ?_) | (refine CallF.pure (c2) rfl ?_) | (refine CallF.lent (c2) rfl ?_) | (refine CallE.own (c2) ?_) | (refine CallH.pure (c2) rfl ?_) | (refine CallH.lent (c2) rfl ?_) | (refine CallH.own (c2) ?_) | (refine CallE.pure (c3) rfl ?_) | (refine CallE.lent (c3) rfl ?_) | (refine CallF.pure (c3) rfl ?_) | (refine CallF.lent (c3) rfl ?_) | (refine CallE.own (c3) ?_) | (refine CallH.pure (c3) rfl ?_) | (refine CallH.lent (c3) rfl ?_) | (refine CallH.own (c3) ?_) | (refine hK _ ?_; clear hK) | (refine hK _ _ ?_; clear hK) | (clear hK; refine hK _ ?_; clear hK) | (clear hK; clear hK; refine hK _ ?_; clear hK) | (clear hK; clear hK; clear hK; refine hK _ ?_; clear hK) | (clear hK; clear hK; clear hK; clear hK; refine hK _ ?_; clear hK) | (refine wSeq fun K hK => ?_) | ((first | refine wReg ?_ | refine wDrwQ rfl (by kernel_rfl) ?_ | refine wDrwI ?_ | refine wDrw (by kernel_rfl) ?_); simp only [List.map_cons, List.map_nil, strip]) | ((first | refine wIs fun K hK => ?_ | refine wOs fun K hK => ?_ | refine wQs fun K hK => ?_ | refine CallK_plain ?_ | refine CallQ_plain ?_ | refine CallR_plain ?_ | refine wCond ?_); simp) | (refine wIn ?_; refine And.intro (by kernel_rfl) ?_; try simp only [thenA_n]) | (first | refine wBlock ?_ | refine wScope ?_) | ((first | refine wRet ?_ | refine wExit ?_ | refine wSkip ?_); try simp) | ((first | refine wLabel ?_ | refine wOn ?_ | refine wQn ?_); try simp only [thenA_n])
    all_goals apply hr
    all_goals simp [Try.f37]
  · simp only [if_true]
    unfold Hy.cells hyCells at *
    refine wBody Try.tab Try.mixed Try.func37 rfl rfl Try.ntmps37 (by simp) (by simp) fun Q hr hn => ?_
    repeat' first | (refine CallK_gen [] (c1) (by decide) (by decide) (by simp [blksOf]) (by simp [argsG, argG, ren0, inN, pos, renCs, renC, toP, toPF]) ⟨[500], by simp, by simp, ?_⟩; simp [lv, ouN, kpI, kpR, pos, ren, ren0, renB, renC, renCs, renF, renFs]) | (refine CallE.pure (c2) rfl ?_) | (refine CallE.lent (c2) rfl ?_) | (refine CallF.pure (c2) rfl ?_) | (refine CallF.lent (c2) rfl ?_) | (refine CallE.own (c2) ?_) | (refine CallH.pure (c2) rfl ?_) | (refine CallH.lent (c2) rfl ?_) | (refine CallH.own (c2) ?_) | (refine CallE.pure (c3) rfl ?_) | (refine CallE.lent (c3) rfl ?_) | (refine CallF.pure (c3) rfl ?_) | (refine CallF.lent (c3) rfl ?_) | (refine CallE.own (c3) ?_) | (refine CallH.pure (c3) rfl ?_) | (refine CallH.lent (c3) rfl ?_) | (refine CallH.own (c3) ?_) | (refine CallE.pure (c4) rfl ?_) | (refine CallE.lent (c4) rfl ?_) | (refine CallF.pure (c4) rfl ?_) | (refine CallF.lent (c4) rfl ?_) | (refine CallE.own (c4) ?_) | (refine CallH.pure (c4) rfl ?_) | (refine CallH.lent (c4) rfl ?_) | (refine CallH.own (c4) ?_) | (refine And.intro (by (try simp); omega) ?_) | (refine Or.inl ?_) | (refine hK _ ?_; clear hK) | (refine hK _ _ ?_; clear hK) | (clear hK; refine hK _ ?_; clear hK) | (clear hK; clear hK; refine hK _ ?_; clear hK) | (clear hK; clear hK; clear hK; refine hK _ ?_; clear hK) | (clear hK; clear hK; clear hK; clear hK; refine hK _ ?_; clear hK) | (refine wSeq fun K hK => ?_) | ((first | refine wReg ?_ | refine wDrwQ rfl (by kernel_rfl) ?_ | refine wDrwI ?_ | refine wDrw (by kernel_rfl) ?_); simp only [List.map_cons, List.map_nil, strip]) | ((first | refine wIs fun K hK => ?_ | refine wOs fun K hK => ?_ | refine wQs fun K hK => ?_ | refine CallK_plain ?_ | refine CallQ_plain ?_ | refine CallR_plain ?_ | refine wCond ?_); simp [ha]) | (refine wIn ?_; refine And.intro (by kernel_rfl) ?_; try simp only [thenA_n]) | (first | refine wBlock ?_ | refine wScope ?_) | ((first | refine wRet ?_ | refine wExit ?_ | refine wSkip ?_); try simp) | ((first | refine wLabel ?_ | refine wOn ?_ | refine wQn ?_); try simp only [thenA_n])
    all_goals apply hr
    all_goals simp [Try.f37, ha]
end Go.Proofs.Ytegoihognjpcjaa


/- Histories: what is behind a mark, up to it; a plan done: the program's. -/
namespace Go.Proofs.Ytegoihognjpcjaa
set_option linter.unusedSimpArgs false
set_option linter.unusedVariables false
open Go Go.Av
attribute [local simp] Try.T1 Try.T2 Try.T3 Try.T4 Try.T5 Try.T9 Try.T12 Try.T15 Try.T16 Try.T17 Try.T21 Try.T22 Try.T23 Try.T25 Try.T26 Try.T28 Try.T30 Try.T31 Try.T33 Try.T34 Try.T35 Try.T36 Try.T37 Try.T38 Try.T40 Try.T42 Try.T43 Try.T44 Try.T45 Try.T46 Try.T48 Try.T49 Try.T50 Try.T51 Try.T52 Try.T53 Try.T54 Try.T55 Try.T56 Try.T57 Try.T58 Try.T59 Try.T60 Try.T61 Try.T62 Try.T64 Try.T66 Try.T67 Try.T68 Try.T69 Try.T70 Try.T71 Try.T72 Try.T73 Try.T74 Try.T75 Try.T76 Try.T77 Try.T78 Try.T80 Try.T81 Try.T82 Try.T83 Try.T84 Try.T85 Try.T86 Try.T88 Try.T89 Try.T90 Try.T91 Try.T92 Try.T93 Try.T94 Try.T95 Try.T96 Try.T97 Try.T98 Try.T99 Try.T100 Try.T101 Try.T102 Try.T103 Try.T104 Try.T105 Try.T106 Try.T107 Try.T108 Try.T109 Try.T110 Try.T111 Try.T112 Try.T113 Try.T116 Try.T119 Try.T120 Try.T123 Try.T124
attribute [local irreducible] Go.Av.CallK Go.Av.CallE Go.Av.CallQ Go.Av.CallF Go.Av.CallR Go.Av.CallH Go.Av.Con
def plc (z : Zx) : List Zx → Nat → Option Nat
  | [], _ => none
  | m :: l, k => if m = z then some k else plc z l (k + 1)
theorem plc_lt (z : Zx) : ∀ (l : List Zx) (k n : Nat), plc z l k = some n → k ≤ n ∧ n < k + l.length
  | [], _, _, h => by simp [plc] at h
  | m :: l, k, n, h => by
    simp only [plc] at h
    by_cases o : m = z
    · rw [if_pos o] at h
      simp only [Option.some.injEq] at h
      simp only [List.length_cons]; omega
    · rw [if_neg o] at h
      have := plc_lt z l (k + 1) n h
      simp only [List.length_cons]; omega
def bhN (o : Option Nat) : Int := match o with
  | some n => n
  | none => 0
def bhE (o : Option Nat) : Int := match o with
  | some _ => 0
  | none => 6
theorem behind_con (h : Hy) (z : Zx) (hl : h.lg.length ≤ 1000) : ACon Try.prog 39 [.p (.agg h.cells), .p (.agg [I z.e, I z.n])] (.tup [.p (I (bhN (plc z (mks h) 0))), .p (I (bhE (plc z (mks h) 0)))]) := by
  have c1 := marks_con h hl
  have hml := mks_len h
  generalize mks h = M at *
  unfold Hy.cells at *
  refine wBody Try.tab Try.mixed Try.func39 rfl rfl Try.ntmps39 (by simp) (by simp) fun Q hr hn => ?_
  repeat' first | (refine CallE.pure (c1) rfl ?_) | (refine CallE.lent (c1) rfl ?_) | (refine CallF.pure (c1) rfl ?_) | (refine CallF.lent (c1) rfl ?_) | (refine CallE.own (c1) ?_) | (refine CallH.pure (c1) rfl ?_) | (refine CallH.lent (c1) rfl ?_) | (refine CallH.own (c1) ?_) | (refine hK _ ?_; clear hK) | (refine hK _ _ ?_; clear hK) | (clear hK; refine hK _ ?_; clear hK) | (clear hK; clear hK; refine hK _ ?_; clear hK) | (clear hK; clear hK; clear hK; refine hK _ ?_; clear hK) | (clear hK; clear hK; clear hK; clear hK; refine hK _ ?_; clear hK) | (refine wSeq fun K hK => ?_) | ((first | refine wReg ?_ | refine wDrwQ rfl (by kernel_rfl) ?_ | refine wDrwI ?_ | refine wDrw (by kernel_rfl) ?_); simp only [List.map_cons, List.map_nil, strip]) | ((first | refine wIs fun K hK => ?_ | refine wOs fun K hK => ?_ | refine wQs fun K hK => ?_ | refine CallK_plain ?_ | refine CallQ_plain ?_ | refine CallR_plain ?_ | refine wCond ?_); simp) | (refine wIn ?_; refine And.intro (by kernel_rfl) ?_; try simp only [thenA_n]) | (first | refine wBlock ?_ | refine wScope ?_) | ((first | refine wRet ?_ | refine wExit ?_ | refine wSkip ?_); try simp) | ((first | refine wLabel ?_ | refine wOn ?_ | refine wQn ?_); try simp only [thenA_n])
  refine wLoop (fun N st => ∃ k, k + N = M.length ∧ st.s 3 = .ptr 3 0 ∧ st.b 3 = some (.box 25 [.p (I z.e), .p (I z.n)]) ∧ st.s 9 = .p (.sl 2 (zxs M)) ∧ st.s 10 = .p (I M.length) ∧ st.s 11 = .p (I k) ∧ plc z (M.drop k) k = plc z M 0) M.length ⟨0, by simp⟩ fun K N st hL ⟨k, hk, g3, b3, g9, g10, g11, hi⟩ => ?_
  by_cases hlt : k < M.length
  · have hw := wrapS k _ hlt (by omega)
    rw [List.drop_eq_getElem_cons hlt, plc] at hi
    have hx : M[k] = z ↔ M[k].e = z.e ∧ M[k].n = z.n := by cases M[k]; cases z; simp
    by_cases o : M[k].e = z.e ∧ M[k].n = z.n
    · rw [if_pos (hx.2 o)] at hi
      rw [← hi] at hr
      simp only [bhN, bhE] at hr
      obtain ⟨o1, o2⟩ := o
      replace o1 : (M[k].e = z.e) = True := eq_true o1
      replace o2 : (M[k].n = z.n) = True := eq_true o2
      repeat' first | (refine hK _ ?_; clear hK) | (refine hK _ _ ?_; clear hK) | (clear hK; refine hK _ ?_; clear hK) | (clear hK; clear hK; refine hK _ ?_; clear hK) | (clear hK; clear hK; clear hK; refine hK _ ?_; clear hK) | (clear hK; clear hK; clear hK; clear hK; refine hK _ ?_; clear hK) | (refine wSeq fun K hK => ?_) | ((first | refine wReg ?_ | refine wDrwQ rfl (by kernel_rfl) ?_ | refine wDrwI ?_ | refine wDrw (by kernel_rfl) ?_); simp only [List.map_cons, List.map_nil, strip]) | ((first | refine wIs fun K hK => ?_ | refine wOs fun K hK => ?_ | refine wQs fun K hK => ?_ | refine CallK_plain ?_ | refine CallQ_plain ?_ | refine CallR_plain ?_ | refine wCond ?_); simp [g3, b3, g9, g10, g11, hlt, hw, o1, o2]) | (refine wIn ?_; refine And.intro (by kernel_rfl) ?_; try simp only [thenA_n]) | (first | refine wBlock ?_ | refine wScope ?_) | ((first | refine wRet ?_ | refine wExit ?_ | refine wSkip ?_); try simp) | ((first | refine wLabel ?_ | refine wOn ?_ | refine wQn ?_); try simp only [thenA_n])
      all_goals apply hr
      all_goals simp [Try.f39]
    · rw [if_neg fun h => o (hx.1 h)] at hi
      repeat' first | (refine hK _ ?_; clear hK) | (refine hK _ _ ?_; clear hK) | (clear hK; refine hK _ ?_; clear hK) | (clear hK; clear hK; refine hK _ ?_; clear hK) | (clear hK; clear hK; clear hK; refine hK _ ?_; clear hK) | (clear hK; clear hK; clear hK; clear hK; refine hK _ ?_; clear hK) | (refine wSeq fun K hK => ?_) | ((first | refine wReg ?_ | refine wDrwQ rfl (by kernel_rfl) ?_ | refine wDrwI ?_ | refine wDrw (by kernel_rfl) ?_); simp only [List.map_cons, List.map_nil, strip]) | ((first | refine wIs fun K hK => ?_ | refine wOs fun K hK => ?_ | refine wQs fun K hK => ?_ | refine CallK_plain ?_ | refine CallQ_plain ?_ | refine CallR_plain ?_ | refine wCond ?_); simp [g3, b3, g9, g10, g11, hlt, hw, o]) | (refine wIn ?_; refine And.intro (by kernel_rfl) ?_; try simp only [thenA_n]) | (first | refine wBlock ?_ | refine wScope ?_) | ((first | refine wRet ?_ | refine wExit ?_ | refine wSkip ?_); try simp) | ((first | refine wLabel ?_ | refine wOn ?_ | refine wQn ?_); try simp only [thenA_n]) | (intro _)
      all_goals first | exact o | skip
      refine hL _ (N - 1) (by omega) ⟨k + 1, by omega, ?_⟩
      simp [g3, b3, g9, g10, hw, hi]
  · rw [List.drop_of_length_le (by omega), plc] at hi
    rw [← hi] at hr
    simp only [bhN, bhE] at hr
    repeat' first | (refine hK _ ?_; clear hK) | (refine hK _ _ ?_; clear hK) | (clear hK; refine hK _ ?_; clear hK) | (clear hK; clear hK; refine hK _ ?_; clear hK) | (clear hK; clear hK; clear hK; refine hK _ ?_; clear hK) | (clear hK; clear hK; clear hK; clear hK; refine hK _ ?_; clear hK) | (refine wSeq fun K hK => ?_) | ((first | refine wReg ?_ | refine wDrwQ rfl (by kernel_rfl) ?_ | refine wDrwI ?_ | refine wDrw (by kernel_rfl) ?_); simp only [List.map_cons, List.map_nil, strip]) | ((first | refine wIs fun K hK => ?_ | refine wOs fun K hK => ?_ | refine wQs fun K hK => ?_ | refine CallK_plain ?_ | refine CallQ_plain ?_ | refine CallR_plain ?_ | refine wCond ?_); simp [g3, b3, g9, g10, g11, hlt]) | (refine wIn ?_; refine And.intro (by kernel_rfl) ?_; try simp only [thenA_n]) | (first | refine wBlock ?_ | refine wScope ?_) | ((first | refine wRet ?_ | refine wExit ?_ | refine wSkip ?_); try simp) | ((first | refine wLabel ?_ | refine wOn ?_ | refine wQn ?_); try simp only [thenA_n])
    all_goals apply hr
    all_goals simp [Try.f39]
def uptoH (h : Hy) (z : Zx) : Hy := match plc z (mks h) 0 with
  | some n => { h with lg := h.lg.take n }
  | none => h
theorem OkH.take {h : Hy} (hk : OkH h) (n : Nat) : OkH { h with lg := h.lg.take n } := by
  refine ⟨hk.ns, hk.ss, hk.c, ?_, fun t ht => hk.ps t (List.mem_of_mem_take ht), ?_⟩
  · have := hk.lg; simp; omega
  · have := hk.tot
    refine Nat.le_trans ?_ this
    conv => rhs; rw [← List.take_append_drop n h.lg]
    simp only [List.map_append, List.sum_append]; omega
set_option maxHeartbeats 1000000 in
theorem upto_con (h : Hy) (z : Zx) (hk : OkH h) : ACon Try.prog 36 [.p (.agg h.cells), .p (.agg [I z.e, I z.n])] (.tup [.p (.agg (uptoH h z).cells), .p (I (bhE (plc z (mks h) 0)))]) := by
  have c1 := behind_con h z hk.lg
  have hml := mks_len h
  have hlt := plc_lt z (mks h) 0
  unfold uptoH
  generalize plc z (mks h) 0 = o at *
  cases o with
  | none =>
    have c2 := ownH_con h hk
    simp only [bhN, bhE] at *
    unfold Hy.cells at *
    refine wBody Try.tab Try.mixed Try.func36 rfl rfl Try.ntmps36 (by simp) (by simp) fun Q hr hn => ?_
    repeat' first | (refine CallE.pure (c1) rfl ?_) | (refine CallE.lent (c1) rfl ?_) | (refine CallF.pure (c1) rfl ?_) | (refine CallF.lent (c1) rfl ?_) | (refine CallE.own (c1) ?_) | (refine CallH.pure (c1) rfl ?_) | (refine CallH.lent (c1) rfl ?_) | (refine CallH.own (c1) ?_) | (refine CallE.pure (c2) rfl ?_) | (refine CallE.lent (c2) rfl ?_) | (refine CallF.pure (c2) rfl ?_) | (refine CallF.lent (c2) rfl ?_) | (refine CallE.own (c2) ?_) | (refine CallH.pure (c2) rfl ?_) | (refine CallH.lent (c2) rfl ?_) | (refine CallH.own (c2) ?_) | (refine hK _ ?_; clear hK) | (refine hK _ _ ?_; clear hK) | (clear hK; refine hK _ ?_; clear hK) | (clear hK; clear hK; refine hK _ ?_; clear hK) | (clear hK; clear hK; clear hK; refine hK _ ?_; clear hK) | (clear hK; clear hK; clear hK; clear hK; refine hK _ ?_; clear hK) | (refine wSeq fun K hK => ?_) | ((first | refine wReg ?_ | refine wDrwQ rfl (by kernel_rfl) ?_ | refine wDrwI ?_ | refine wDrw (by kernel_rfl) ?_); simp only [List.map_cons, List.map_nil, strip]) | ((first | refine wIs fun K hK => ?_ | refine wOs fun K hK => ?_ | refine wQs fun K hK => ?_ | refine CallK_plain ?_ | refine CallQ_plain ?_ | refine CallR_plain ?_ | refine wCond ?_); simp) | (refine wIn ?_; refine And.intro (by kernel_rfl) ?_; try simp only [thenA_n]) | (first | refine wBlock ?_ | refine wScope ?_) | ((first | refine wRet ?_ | refine wExit ?_ | refine wSkip ?_); try simp) | ((first | refine wLabel ?_ | refine wOn ?_ | refine wQn ?_); try simp only [thenA_n])
    all_goals apply hr
    all_goals simp [Try.f36]
  | some n =>
    have c2 := ownH_con { h with lg := h.lg.take n } (hk.take n)
    have hnl : n ≤ h.lg.length := by have := (hlt n rfl).2; omega
    have htk : (txns h.lg).take n = txns (h.lg.take n) := by simp [txns, List.map_take]
    simp only [bhN, bhE] at *
    unfold Hy.cells at *
    simp only at c2
    refine wBody Try.tab Try.mixed Try.func36 rfl rfl Try.ntmps36 (by simp) (by simp) fun Q hr hn => ?_
    repeat' first | (refine CallE.pure (c1) rfl ?_) | (refine CallE.lent (c1) rfl ?_) | (refine CallF.pure (c1) rfl ?_) | (refine CallF.lent (c1) rfl ?_) | (refine CallE.own (c1) ?_) | (refine CallH.pure (c1) rfl ?_) | (refine CallH.lent (c1) rfl ?_) | (refine CallH.own (c1) ?_) | (refine CallE.pure (c2) rfl ?_) | (refine CallE.lent (c2) rfl ?_) | (refine CallF.pure (c2) rfl ?_) | (refine CallF.lent (c2) rfl ?_) | (refine CallE.own (c2) ?_) | (refine CallH.pure (c2) rfl ?_) | (refine CallH.lent (c2) rfl ?_) | (refine CallH.own (c2) ?_) | (refine hK _ ?_; clear hK) | (refine hK _ _ ?_; clear hK) | (clear hK; refine hK _ ?_; clear hK) | (clear hK; clear hK; refine hK _ ?_; clear hK) | (clear hK; clear hK; clear hK; refine hK _ ?_; clear hK) | (clear hK; clear hK; clear hK; clear hK; refine hK _ ?_; clear hK) | (refine wSeq fun K hK => ?_) | ((first | refine wReg ?_ | refine wDrwQ rfl (by kernel_rfl) ?_ | refine wDrwI ?_ | refine wDrw (by kernel_rfl) ?_); simp only [List.map_cons, List.map_nil, strip]) | ((first | refine wIs fun K hK => ?_ | refine wOs fun K hK => ?_ | refine wQs fun K hK => ?_ | refine CallK_plain ?_ | refine CallQ_plain ?_ | refine CallR_plain ?_ | refine wCond ?_); simp [hnl, htk]) | (refine wIn ?_; refine And.intro (by kernel_rfl) ?_; try simp only [thenA_n]) | (first | refine wBlock ?_ | refine wScope ?_) | ((first | refine wRet ?_ | refine wExit ?_ | refine wSkip ?_); try simp) | ((first | refine wLabel ?_ | refine wOn ?_ | refine wQn ?_); try simp only [thenA_n])
    all_goals apply hr
    all_goals simp [Try.f36]
/-- What a plan without an image comes to: kept, then grown. -/
def doH (h : Hy) (kd : Int) (z : Zx) (l : List Tx) : Hy × Int :=
  if kd = 2 ∧ plc z (mks h) 0 = none then (h, 6)
  else if growOk (if kd = 2 then uptoH h z else h) l = true then ({ (if kd = 2 then uptoH h z else h) with lg := (if kd = 2 then uptoH h z else h).lg ++ l }, 0) else (h, 1)
set_option maxHeartbeats 2000000 in
theorem doPlan_con (h : Hy) (kd : Int) (z : Zx) (im : List PV) (l : List Tx) (hkd : kd = 1 ∨ kd = 2) (him : ∃ a b c d e f g i j, im = [.sl 5 a, .sl 1 b, I c, I d, I e, I f, .sl 4 g, I i, I j]) (hk : OkH h) (hl : l.length ≤ 1000) (hp : ∀ x ∈ l, x.ps.length ≤ 1000 ∧ ∀ p ∈ x.ps, p.c.ms.length ≤ 1000) :
    ACon Try.prog 14 [.p (.agg h.cells), .p (.agg ([I kd, I z.e, I z.n] ++ im ++ [.sl 8 (txns l)]))] (.tup [.p (.agg (doH h kd z l).1.cells), .p (I (doH h kd z l).2)]) := by
  obtain ⟨a, b, c, d, e, f, g, i, j, rfl⟩ := him
  have co := ownH_con h hk
  simp only [List.cons_append, List.nil_append]
  rcases hkd with rfl | rfl
  · have cg := grow_con h l hk hl hp
    simp only [doH, show ¬ ((1 : Int) = 2 ∧ plc z (mks h) 0 = none) from fun h => by omega, show ¬ (1 : Int) = 2 by omega, if_false]
    generalize growOk h l = q at *
    cases q
    · simp only [Bool.false_eq_true, if_false] at *
      unfold Hy.cells at *
      refine wBody Try.tab Try.mixed Try.func14 rfl rfl Try.ntmps14 (by simp) (by simp) fun Q hr hn => ?_
      repeat' first | (refine CallE.pure (co) rfl ?_) | (refine CallE.lent (co) rfl ?_) | (refine CallF.pure (co) rfl ?_) | (refine CallF.lent (co) rfl ?_) | (refine CallE.own (co) ?_) | (refine CallH.pure (co) rfl ?_) | (refine CallH.lent (co) rfl ?_) | (refine CallH.own (co) ?_) | (refine CallE.pure (cg) rfl ?_) | (refine CallE.lent (cg) rfl ?_) | (refine CallF.pure (cg) rfl ?_) | (refine CallF.lent (cg) rfl ?_) | (refine CallE.own (cg) ?_) | (refine CallH.pure (cg) rfl ?_) | (refine CallH.lent (cg) rfl ?_) | (refine CallH.own (cg) ?_) | (refine hK _ ?_; clear hK) | (refine hK _ _ ?_; clear hK) | (clear hK; refine hK _ ?_; clear hK) | (clear hK; clear hK; refine hK _ ?_; clear hK) | (clear hK; clear hK; clear hK; refine hK _ ?_; clear hK) | (clear hK; clear hK; clear hK; clear hK; refine hK _ ?_; clear hK) | (refine wSeq fun K hK => ?_) | ((first | refine wReg ?_ | refine wDrwQ rfl (by kernel_rfl) ?_ | refine wDrwI ?_ | refine wDrw (by kernel_rfl) ?_); simp only [List.map_cons, List.map_nil, strip]) | ((first | refine wIs fun K hK => ?_ | refine wOs fun K hK => ?_ | refine wQs fun K hK => ?_ | refine CallK_plain ?_ | refine CallQ_plain ?_ | refine CallR_plain ?_ | refine wCond ?_); simp) | (refine wIn ?_; refine And.intro (by kernel_rfl) ?_; try simp only [thenA_n]) | (first | refine wBlock ?_ | refine wScope ?_) | ((first | refine wRet ?_ | refine wExit ?_ | refine wSkip ?_); try simp) | ((first | refine wLabel ?_ | refine wOn ?_ | refine wQn ?_); try simp only [thenA_n])
      all_goals apply hr
      all_goals simp [Try.f14]
    · simp only [if_true] at *
      unfold Hy.cells at *
      refine wBody Try.tab Try.mixed Try.func14 rfl rfl Try.ntmps14 (by simp) (by simp) fun Q hr hn => ?_
      repeat' first | (refine CallE.pure (co) rfl ?_) | (refine CallE.lent (co) rfl ?_) | (refine CallF.pure (co) rfl ?_) | (refine CallF.lent (co) rfl ?_) | (refine CallE.own (co) ?_) | (refine CallH.pure (co) rfl ?_) | (refine CallH.lent (co) rfl ?_) | (refine CallH.own (co) ?_) | (refine CallE.pure (cg) rfl ?_) | (refine CallE.lent (cg) rfl ?_) | (refine CallF.pure (cg) rfl ?_) | (refine CallF.lent (cg) rfl ?_) | (refine CallE.own (cg) ?_) | (refine CallH.pure (cg) rfl ?_) | (refine CallH.lent (cg) rfl ?_) | (refine CallH.own (cg) ?_) | (refine hK _ ?_; clear hK) | (refine hK _ _ ?_; clear hK) | (clear hK; refine hK _ ?_; clear hK) | (clear hK; clear hK; refine hK _ ?_; clear hK) | (clear hK; clear hK; clear hK; refine hK _ ?_; clear hK) | (clear hK; clear hK; clear hK; clear hK; refine hK _ ?_; clear hK) | (refine wSeq fun K hK => ?_) | ((first | refine wReg ?_ | refine wDrwQ rfl (by kernel_rfl) ?_ | refine wDrwI ?_ | refine wDrw (by kernel_rfl) ?_); simp only [List.map_cons, List.map_nil, strip]) | ((first | refine wIs fun K hK => ?_ | refine wOs fun K hK => ?_ | refine wQs fun K hK => ?_ | refine CallK_plain ?_ | refine CallQ_plain ?_ | refine CallR_plain ?_ | refine wCond ?_); simp) | (refine wIn ?_; refine And.intro (by kernel_rfl) ?_; try simp only [thenA_n]) | (first | refine wBlock ?_ | refine wScope ?_) | ((first | refine wRet ?_ | refine wExit ?_ | refine wSkip ?_); try simp) | ((first | refine wLabel ?_ | refine wOn ?_ | refine wQn ?_); try simp only [thenA_n])
      all_goals apply hr
      all_goals simp [Try.f14]
  · have cu := upto_con h z hk
    have hu : OkH (uptoH h z) := by
      unfold uptoH
      split
      · exact hk.take _
      · exact hk
    have cg := grow_con (uptoH h z) l hu hl hp
    simp only [doH, true_and, if_true]
    generalize hy : uptoH h z = y at *
    generalize plc z (mks h) 0 = o at *
    cases o with
    | none =>
      simp only [bhE, if_true] at *
      unfold Hy.cells at *
      refine wBody Try.tab Try.mixed Try.func14 rfl rfl Try.ntmps14 (by simp) (by simp) fun Q hr hn => ?_
      repeat' first | (refine CallE.pure (co) rfl ?_) | (refine CallE.lent (co) rfl ?_) | (refine CallF.pure (co) rfl ?_) | (refine CallF.lent (co) rfl ?_) | (refine CallE.own (co) ?_) | (refine CallH.pure (co) rfl ?_) | (refine CallH.lent (co) rfl ?_) | (refine CallH.own (co) ?_) | (refine CallE.pure (cu) rfl ?_) | (refine CallE.lent (cu) rfl ?_) | (refine CallF.pure (cu) rfl ?_) | (refine CallF.lent (cu) rfl ?_) | (refine CallE.own (cu) ?_) | (refine CallH.pure (cu) rfl ?_) | (refine CallH.lent (cu) rfl ?_) | (refine CallH.own (cu) ?_) | (refine hK _ ?_; clear hK) | (refine hK _ _ ?_; clear hK) | (clear hK; refine hK _ ?_; clear hK) | (clear hK; clear hK; refine hK _ ?_; clear hK) | (clear hK; clear hK; clear hK; refine hK _ ?_; clear hK) | (clear hK; clear hK; clear hK; clear hK; refine hK _ ?_; clear hK) | (refine wSeq fun K hK => ?_) | ((first | refine wReg ?_ | refine wDrwQ rfl (by kernel_rfl) ?_ | refine wDrwI ?_ | refine wDrw (by kernel_rfl) ?_); simp only [List.map_cons, List.map_nil, strip]) | ((first | refine wIs fun K hK => ?_ | refine wOs fun K hK => ?_ | refine wQs fun K hK => ?_ | refine CallK_plain ?_ | refine CallQ_plain ?_ | refine CallR_plain ?_ | refine wCond ?_); simp) | (refine wIn ?_; refine And.intro (by kernel_rfl) ?_; try simp only [thenA_n]) | (first | refine wBlock ?_ | refine wScope ?_) | ((first | refine wRet ?_ | refine wExit ?_ | refine wSkip ?_); try simp) | ((first | refine wLabel ?_ | refine wOn ?_ | refine wQn ?_); try simp only [thenA_n])
      all_goals apply hr
      all_goals simp [Try.f14]
    | some n =>
      simp only [bhE, reduceCtorEq, if_false] at *
      generalize growOk y l = q at *
      cases q
      · simp only [Bool.false_eq_true, if_false] at *
        unfold Hy.cells at *
        refine wBody Try.tab Try.mixed Try.func14 rfl rfl Try.ntmps14 (by simp) (by simp) fun Q hr hn => ?_
        repeat' first | (refine CallE.pure (co) rfl ?_) | (refine CallE.lent (co) rfl ?_) | (refine CallF.pure (co) rfl ?_) | (refine CallF.lent (co) rfl ?_) | (refine CallE.own (co) ?_) | (refine CallH.pure (co) rfl ?_) | (refine CallH.lent (co) rfl ?_) | (refine CallH.own (co) ?_) | (refine CallE.pure (cu) rfl ?_) | (refine CallE.lent (cu) rfl ?_) | (refine CallF.pure (cu) rfl ?_) | (refine CallF.lent (cu) rfl ?_) | (refine CallE.own (cu) ?_) | (refine CallH.pure (cu) rfl ?_) | (refine CallH.lent (cu) rfl ?_) | (refine CallH.own (cu) ?_) | (refine CallE.pure (cg) rfl ?_) | (refine CallE.lent (cg) rfl ?_) | (refine CallF.pure (cg) rfl ?_) | (refine CallF.lent (cg) rfl ?_) | (refine CallE.own (cg) ?_) | (refine CallH.pure (cg) rfl ?_) | (refine CallH.lent (cg) rfl ?_) | (refine CallH.own (cg) ?_) | (refine hK _ ?_; clear hK) | (refine hK _ _ ?_; clear hK) | (clear hK; refine hK _ ?_; clear hK) | (clear hK; clear hK; refine hK _ ?_; clear hK) | (clear hK; clear hK; clear hK; refine hK _ ?_; clear hK) | (clear hK; clear hK; clear hK; clear hK; refine hK _ ?_; clear hK) | (refine wSeq fun K hK => ?_) | ((first | refine wReg ?_ | refine wDrwQ rfl (by kernel_rfl) ?_ | refine wDrwI ?_ | refine wDrw (by kernel_rfl) ?_); simp only [List.map_cons, List.map_nil, strip]) | ((first | refine wIs fun K hK => ?_ | refine wOs fun K hK => ?_ | refine wQs fun K hK => ?_ | refine CallK_plain ?_ | refine CallQ_plain ?_ | refine CallR_plain ?_ | refine wCond ?_); simp) | (refine wIn ?_; refine And.intro (by kernel_rfl) ?_; try simp only [thenA_n]) | (first | refine wBlock ?_ | refine wScope ?_) | ((first | refine wRet ?_ | refine wExit ?_ | refine wSkip ?_); try simp) | ((first | refine wLabel ?_ | refine wOn ?_ | refine wQn ?_); try simp only [thenA_n])
        all_goals apply hr
        all_goals simp [Try.f14]
      · simp only [if_true] at *
        unfold Hy.cells at *
        refine wBody Try.tab Try.mixed Try.func14 rfl rfl Try.ntmps14 (by simp) (by simp) fun Q hr hn => ?_
        repeat' first | (refine CallE.pure (co) rfl ?_) | (refine CallE.lent (co) rfl ?_) | (refine CallF.pure (co) rfl ?_) | (refine CallF.lent (co) rfl ?_) | (refine CallE.own (co) ?_) | (refine CallH.pure (co) rfl ?_) | (refine CallH.lent (co) rfl ?_) | (refine CallH.own (co) ?_) | (refine CallE.pure (cu) rfl ?_) | (refine CallE.lent (cu) rfl ?_) | (refine CallF.pure (cu) rfl ?_) | (refine CallF.lent (cu) rfl ?_) | (refine CallE.own (cu) ?_) | (refine CallH.pure (cu) rfl ?_) | (refine CallH.lent (cu) rfl ?_) | (refine CallH.own (cu) ?_) | (refine CallE.pure (cg) rfl ?_) | (refine CallE.lent (cg) rfl ?_) | (refine CallF.pure (cg) rfl ?_) | (refine CallF.lent (cg) rfl ?_) | (refine CallE.own (cg) ?_) | (refine CallH.pure (cg) rfl ?_) | (refine CallH.lent (cg) rfl ?_) | (refine CallH.own (cg) ?_) | (refine hK _ ?_; clear hK) | (refine hK _ _ ?_; clear hK) | (clear hK; refine hK _ ?_; clear hK) | (clear hK; clear hK; refine hK _ ?_; clear hK) | (clear hK; clear hK; clear hK; refine hK _ ?_; clear hK) | (clear hK; clear hK; clear hK; clear hK; refine hK _ ?_; clear hK) | (refine wSeq fun K hK => ?_) | ((first | refine wReg ?_ | refine wDrwQ rfl (by kernel_rfl) ?_ | refine wDrwI ?_ | refine wDrw (by kernel_rfl) ?_); simp only [List.map_cons, List.map_nil, strip]) | ((first | refine wIs fun K hK => ?_ | refine wOs fun K hK => ?_ | refine wQs fun K hK => ?_ | refine CallK_plain ?_ | refine CallQ_plain ?_ | refine CallR_plain ?_ | refine wCond ?_); simp) | (refine wIn ?_; refine And.intro (by kernel_rfl) ?_; try simp only [thenA_n]) | (first | refine wBlock ?_ | refine wScope ?_) | ((first | refine wRet ?_ | refine wExit ?_ | refine wSkip ?_); try simp) | ((first | refine wLabel ?_ | refine wOn ?_ | refine wQn ?_); try simp only [thenA_n])
        all_goals apply hr
        all_goals simp [Try.f14]
end Go.Proofs.Ytegoihognjpcjaa


/- Histories, the document's: marks, whether they rise, the last, the state at a place. -/
namespace Go.Proofs.Ytegoihognjpcjaa
set_option linter.unusedSimpArgs false
set_option linter.unusedVariables false
open Go Go.Av
attribute [local simp] Try.T1 Try.T2 Try.T3 Try.T4 Try.T5 Try.T9 Try.T12 Try.T15 Try.T16 Try.T17 Try.T21 Try.T22 Try.T23 Try.T25 Try.T26 Try.T28 Try.T30 Try.T31 Try.T33 Try.T34 Try.T35 Try.T36 Try.T37 Try.T38 Try.T40 Try.T42 Try.T43 Try.T44 Try.T45 Try.T46 Try.T48 Try.T49 Try.T50 Try.T51 Try.T52 Try.T53 Try.T54 Try.T55 Try.T56 Try.T57 Try.T58 Try.T59 Try.T60 Try.T61 Try.T62 Try.T64 Try.T66 Try.T67 Try.T68 Try.T69 Try.T70 Try.T71 Try.T72 Try.T73 Try.T74 Try.T75 Try.T76 Try.T77 Try.T78 Try.T80 Try.T81 Try.T82 Try.T83 Try.T84 Try.T85 Try.T86 Try.T88 Try.T89 Try.T90 Try.T91 Try.T92 Try.T93 Try.T94 Try.T95 Try.T96 Try.T97 Try.T98 Try.T99 Try.T100 Try.T101 Try.T102 Try.T103 Try.T104 Try.T105 Try.T106 Try.T107 Try.T108 Try.T109 Try.T110 Try.T111 Try.T112 Try.T113 Try.T116 Try.T119 Try.T120 Try.T123 Try.T124
attribute [local irreducible] Go.Av.CallK Go.Av.CallE Go.Av.CallQ Go.Av.CallF Go.Av.CallR Go.Av.CallH Go.Av.Con
set_option maxHeartbeats 1000000 in
theorem marks16_con (h : Hy) (hl : h.lg.length ≤ 1000) : ACon Try.prog 10 [.p (.agg h.cells)] (.p (.sl 2 (zxs (mks h)))) := by
  have hz0 : (mks h).take 1 = [⟨h.im.ae, h.im.an⟩] := rfl
  have hmt := mks_take h
  have hml := mks_len h
  generalize mks h = M at *
  unfold Hy.cells at *
  refine wBody Try.tab Try.mixed Try.func10 rfl rfl Try.ntmps10 (by simp) (by simp) fun Q hr hn => ?_
  repeat' first | (refine hK _ ?_; clear hK) | (refine hK _ _ ?_; clear hK) | (clear hK; refine hK _ ?_; clear hK) | (clear hK; clear hK; refine hK _ ?_; clear hK) | (clear hK; clear hK; clear hK; refine hK _ ?_; clear hK) | (clear hK; clear hK; clear hK; clear hK; refine hK _ ?_; clear hK) | (refine wSeq fun K hK => ?_) | ((first | refine wReg ?_ | refine wDrwQ rfl (by kernel_rfl) ?_ | refine wDrwI ?_ | refine wDrw (by kernel_rfl) ?_); simp only [List.map_cons, List.map_nil, strip]) | ((first | refine wIs fun K hK => ?_ | refine wOs fun K hK => ?_ | refine wQs fun K hK => ?_ | refine CallK_plain ?_ | refine CallQ_plain ?_ | refine CallR_plain ?_ | refine wCond ?_); simp) | (refine wIn ?_; refine And.intro (by kernel_rfl) ?_; try simp only [thenA_n]) | (first | refine wBlock ?_ | refine wScope ?_) | ((first | refine wRet ?_ | refine wExit ?_ | refine wSkip ?_); try simp) | ((first | refine wLabel ?_ | refine wOn ?_ | refine wQn ?_); try simp only [thenA_n])
  refine wLoop (fun N st => ∃ k, k + N = h.lg.length ∧ st.s 11 = .p (.sl 8 (txns h.lg)) ∧ st.s 12 = .p (I h.lg.length) ∧ st.s 13 = .p (I k) ∧ (k = 0 ∧ st.s 3 = .full 2 (zxs (M.take 1)) ∨ 0 < k ∧ st.s 3 = .row 21 ∧ st.b 21 = some (.row 25 2 (zxs (M.take (k + 1)))))) h.lg.length ⟨0, by simp [hz0, zxs]⟩ fun K N st hL ⟨k, hk, g11, g12, g13, hc⟩ => ?_
  by_cases hlt : k < h.lg.length
  · have hw := wrapS k _ hlt (by omega)
    have he := txns_get hlt
    have hs := zxs_app (M.take (k + 1)) [⟨h.lg[k].e, h.lg[k].n⟩]
    rw [← hmt k hlt] at hs
    have hs' : zxs (M.take (k + 1)) ++ [[I h.lg[k].e, I h.lg[k].n]] = zxs (M.take (k + 1 + 1)) := hs.symm
    have hw1 : IntKind.i64.wrap 1 = 1 := by rw [wrap_id] <;> omega
    have hln : (zxs (M.take (k + 1))).length ≤ 1001 := by rw [zxs_len, List.length_take]; omega
    rcases hc with ⟨rfl, g3⟩ | ⟨hk0, g3, b21⟩
    · repeat' first | (refine Or.inl ?_) | (refine And.intro (by (try simp); omega) ?_) | (refine hK _ ?_; clear hK) | (refine hK _ _ ?_; clear hK) | (clear hK; refine hK _ ?_; clear hK) | (clear hK; clear hK; refine hK _ ?_; clear hK) | (clear hK; clear hK; clear hK; refine hK _ ?_; clear hK) | (clear hK; clear hK; clear hK; clear hK; refine hK _ ?_; clear hK) | (refine wSeq fun K hK => ?_) | ((first | refine wReg ?_ | refine wDrwQ rfl (by kernel_rfl) ?_ | refine wDrwI ?_ | refine wDrw (by kernel_rfl) ?_); simp only [List.map_cons, List.map_nil, strip]) | ((first | refine wIs fun K hK => ?_ | refine wOs fun K hK => ?_ | refine wQs fun K hK => ?_ | refine CallK_plain ?_ | refine CallQ_plain ?_ | refine CallR_plain ?_ | refine wCond ?_); simp [g11, g12, g13, g3, hlt, hw, he]) | (refine wIn ?_; refine And.intro (by kernel_rfl) ?_; try simp only [thenA_n]) | (first | refine wBlock ?_ | refine wScope ?_) | ((first | refine wRet ?_ | refine wExit ?_ | refine wSkip ?_); try simp) | ((first | refine wLabel ?_ | refine wOn ?_ | refine wQn ?_); try simp only [thenA_n])
      refine hL _ (N - 1) (by omega) ⟨1, by omega, ?_⟩
      simp only [Nat.zero_add] at hs'
      simp [g11, g12, hw1, hs']
    · repeat' first | (refine And.intro (by (try simp); omega) ?_) | (refine hK _ ?_; clear hK) | (refine hK _ _ ?_; clear hK) | (clear hK; refine hK _ ?_; clear hK) | (clear hK; clear hK; refine hK _ ?_; clear hK) | (clear hK; clear hK; clear hK; refine hK _ ?_; clear hK) | (clear hK; clear hK; clear hK; clear hK; refine hK _ ?_; clear hK) | (refine wSeq fun K hK => ?_) | ((first | refine wReg ?_ | refine wDrwQ rfl (by kernel_rfl) ?_ | refine wDrwI ?_ | refine wDrw (by kernel_rfl) ?_); simp only [List.map_cons, List.map_nil, strip]) | ((first | refine wIs fun K hK => ?_ | refine wOs fun K hK => ?_ | refine wQs fun K hK => ?_ | refine CallK_plain ?_ | refine CallQ_plain ?_ | refine CallR_plain ?_ | refine wCond ?_); simp [g11, g12, g13, g3, b21, hlt, hw, he]) | (refine wIn ?_; refine And.intro (by kernel_rfl) ?_; try simp only [thenA_n]) | (first | refine wBlock ?_ | refine wScope ?_) | ((first | refine wRet ?_ | refine wExit ?_ | refine wSkip ?_); try simp) | ((first | refine wLabel ?_ | refine wOn ?_ | refine wQn ?_); try simp only [thenA_n])
      refine hL _ (N - 1) (by omega) ⟨k + 1, by omega, ?_⟩
      simp [g11, g12, g3, b21, hw, hs']
  · have hk0 : k = h.lg.length := by omega
    rcases hc with ⟨h0, g3⟩ | ⟨hk0, g3, b21⟩
    · rw [List.take_of_length_le (by omega)] at g3
      repeat' first | (refine hK _ ?_; clear hK) | (refine hK _ _ ?_; clear hK) | (clear hK; refine hK _ ?_; clear hK) | (clear hK; clear hK; refine hK _ ?_; clear hK) | (clear hK; clear hK; clear hK; refine hK _ ?_; clear hK) | (clear hK; clear hK; clear hK; clear hK; refine hK _ ?_; clear hK) | (refine wSeq fun K hK => ?_) | ((first | refine wReg ?_ | refine wDrwQ rfl (by kernel_rfl) ?_ | refine wDrwI ?_ | refine wDrw (by kernel_rfl) ?_); simp only [List.map_cons, List.map_nil, strip]) | ((first | refine wIs fun K hK => ?_ | refine wOs fun K hK => ?_ | refine wQs fun K hK => ?_ | refine CallK_plain ?_ | refine CallQ_plain ?_ | refine CallR_plain ?_ | refine wCond ?_); simp [g11, g12, g13, g3, hlt]) | (refine wIn ?_; refine And.intro (by kernel_rfl) ?_; try simp only [thenA_n]) | (first | refine wBlock ?_ | refine wScope ?_) | ((first | refine wRet ?_ | refine wExit ?_ | refine wSkip ?_); try simp) | ((first | refine wLabel ?_ | refine wOn ?_ | refine wQn ?_); try simp only [thenA_n])
      all_goals apply hr
      all_goals simp [Try.f10, g3]
    · rw [List.take_of_length_le (by omega)] at b21
      repeat' first | (refine hK _ ?_; clear hK) | (refine hK _ _ ?_; clear hK) | (clear hK; refine hK _ ?_; clear hK) | (clear hK; clear hK; refine hK _ ?_; clear hK) | (clear hK; clear hK; clear hK; refine hK _ ?_; clear hK) | (clear hK; clear hK; clear hK; clear hK; refine hK _ ?_; clear hK) | (refine wSeq fun K hK => ?_) | ((first | refine wReg ?_ | refine wDrwQ rfl (by kernel_rfl) ?_ | refine wDrwI ?_ | refine wDrw (by kernel_rfl) ?_); simp only [List.map_cons, List.map_nil, strip]) | ((first | refine wIs fun K hK => ?_ | refine wOs fun K hK => ?_ | refine wQs fun K hK => ?_ | refine CallK_plain ?_ | refine CallQ_plain ?_ | refine CallR_plain ?_ | refine wCond ?_); simp [g11, g12, g13, g3, b21, hlt]) | (refine wIn ?_; refine And.intro (by kernel_rfl) ?_; try simp only [thenA_n]) | (first | refine wBlock ?_ | refine wScope ?_) | ((first | refine wRet ?_ | refine wExit ?_ | refine wSkip ?_); try simp) | ((first | refine wLabel ?_ | refine wOn ?_ | refine wQn ?_); try simp only [thenA_n])
      all_goals apply hr
      all_goals simp [Try.f10, g3, b21]
def zlt (a b : Zx) : Prop := zcmp a.e a.n b.e b.n < 0
theorem zlt_iff (a b : Zx) : zlt a b ↔ a.e < b.e ∨ a.e = b.e ∧ a.n < b.n := by
  unfold zlt
  rw [zcmp_spec]
  repeat' split
  all_goals omega
theorem zlt_trans {a b c : Zx} (h : zlt a b) (g : zlt b c) : zlt a c := by rw [zlt_iff] at *; omega
def risesB : List Zx → Bool
  | [] => true
  | [_] => true
  | a :: b :: l => decide (zcmp a.e a.n b.e b.n < 0) && risesB (b :: l)
theorem rises_all : ∀ (l : List Zx) (a : Zx), risesB (a :: l) = true → ∀ x ∈ l, zlt a x
  | [], _, _, x, hx => by simp at hx
  | b :: l, a, h, x, hx => by
    simp only [risesB, Bool.and_eq_true, decide_eq_true_eq] at h
    rcases List.mem_cons.1 hx with rfl | hx
    · exact h.1
    · exact zlt_trans h.1 (rises_all l b h.2 x hx)
theorem rises_tail {a : Zx} {l : List Zx} (h : risesB (a :: l) = true) : risesB l = true := by
  cases l with
  | nil => rfl
  | cons b l => simp only [risesB, Bool.and_eq_true] at h; exact h.2
theorem rises_pw : ∀ {l : List Zx}, risesB l = true → l.Pairwise zlt
  | [], _ => .nil
  | a :: l, h => .cons (rises_all l a h) (rises_pw (rises_tail h))
theorem pw_rises : ∀ {l : List Zx}, l.Pairwise zlt → risesB l = true
  | [], _ => rfl
  | [_], _ => rfl
  | a :: b :: l, .cons h g => by
    simp only [risesB, Bool.and_eq_true, decide_eq_true_eq]
    exact ⟨h b (by simp), pw_rises g⟩
set_option maxHeartbeats 1000000 in
theorem check16_con (h : Hy) (hl : h.lg.length ≤ 1000) : ACon Try.prog 9 [.p (.agg h.cells)] (.p (B (risesB (mks h)))) := by
  have c1 := marks16_con h hl
  have hml := mks_len h
  generalize mks h = M at *
  unfold Hy.cells at *
  refine wBody Try.tab Try.mixed Try.func9 rfl rfl Try.ntmps9 (by simp) (by simp) fun Q hr hn => ?_
  repeat' first | (refine CallE.pure (c1) rfl ?_) | (refine CallE.lent (c1) rfl ?_) | (refine CallF.pure (c1) rfl ?_) | (refine CallF.lent (c1) rfl ?_) | (refine CallE.own (c1) ?_) | (refine CallH.pure (c1) rfl ?_) | (refine CallH.lent (c1) rfl ?_) | (refine CallH.own (c1) ?_) | (refine hK _ ?_; clear hK) | (refine hK _ _ ?_; clear hK) | (clear hK; refine hK _ ?_; clear hK) | (clear hK; clear hK; refine hK _ ?_; clear hK) | (clear hK; clear hK; clear hK; refine hK _ ?_; clear hK) | (clear hK; clear hK; clear hK; clear hK; refine hK _ ?_; clear hK) | (refine wSeq fun K hK => ?_) | ((first | refine wReg ?_ | refine wDrwQ rfl (by kernel_rfl) ?_ | refine wDrwI ?_ | refine wDrw (by kernel_rfl) ?_); simp only [List.map_cons, List.map_nil, strip]) | ((first | refine wIs fun K hK => ?_ | refine wOs fun K hK => ?_ | refine wQs fun K hK => ?_ | refine CallK_plain ?_ | refine CallQ_plain ?_ | refine CallR_plain ?_ | refine wCond ?_); simp) | (refine wIn ?_; refine And.intro (by kernel_rfl) ?_; try simp only [thenA_n]) | (first | refine wBlock ?_ | refine wScope ?_) | ((first | refine wRet ?_ | refine wExit ?_ | refine wSkip ?_); try simp) | ((first | refine wLabel ?_ | refine wOn ?_ | refine wQn ?_); try simp only [thenA_n])
  refine wLoop (fun N st => ∃ k, k + 1 + N = M.length ∧ st.s 3 = .p (.sl 2 (zxs M)) ∧ st.s 4 = .p (I ((k + 1 : Nat) : Int)) ∧ risesB (M.drop k) = risesB M) (M.length - 1) ⟨0, by omega, by simp⟩ fun K N st hL ⟨k, hk, g3, g4, hi⟩ => ?_
  by_cases hlt : k + 1 < M.length
  · have hlt' : ((k + 1 : Nat) : Int) < M.length := by omega
    have hk0 : k < M.length := by omega
    have hw : IntKind.i64.wrap (((k + 1 : Nat) : Int) + 1) = ((k + 1 + 1 : Nat) : Int) := by rw [wrap_id] <;> omega
    have hw2 : IntKind.i64.wrap (((k + 1 : Nat) : Int) - 1) = (k : Int) := by rw [wrap_id] <;> omega
    rw [List.drop_eq_getElem_cons hk0, List.drop_eq_getElem_cons hlt, risesB, ← List.drop_eq_getElem_cons hlt] at hi
    have cc := cmp02_con M[k].e M[k].n M[k + 1].e M[k + 1].n
    generalize zcmp M[k].e M[k].n M[k + 1].e M[k + 1].n = q at *
    generalize hj : k + 1 = j at *
    by_cases o : q < 0
    · rw [decide_eq_true o, Bool.true_and] at hi
      have o' : ¬ (0 ≤ q) := by omega
      repeat' first | (refine CallE.pure (cc) rfl ?_) | (refine CallE.lent (cc) rfl ?_) | (refine CallF.pure (cc) rfl ?_) | (refine CallF.lent (cc) rfl ?_) | (refine CallE.own (cc) ?_) | (refine CallH.pure (cc) rfl ?_) | (refine CallH.lent (cc) rfl ?_) | (refine CallH.own (cc) ?_) | (refine hK _ ?_; clear hK) | (refine hK _ _ ?_; clear hK) | (clear hK; refine hK _ ?_; clear hK) | (clear hK; clear hK; refine hK _ ?_; clear hK) | (clear hK; clear hK; clear hK; refine hK _ ?_; clear hK) | (clear hK; clear hK; clear hK; clear hK; refine hK _ ?_; clear hK) | (refine wSeq fun K hK => ?_) | ((first | refine wReg ?_ | refine wDrwQ rfl (by kernel_rfl) ?_ | refine wDrwI ?_ | refine wDrw (by kernel_rfl) ?_); simp only [List.map_cons, List.map_nil, strip]) | ((first | refine wIs fun K hK => ?_ | refine wOs fun K hK => ?_ | refine wQs fun K hK => ?_ | refine CallK_plain ?_ | refine CallQ_plain ?_ | refine CallR_plain ?_ | refine wCond ?_); simp [g3, g4, hlt, hlt', hk0, hw, hw2, o, o']) | (refine wIn ?_; refine And.intro (by kernel_rfl) ?_; try simp only [thenA_n]) | (first | refine wBlock ?_ | refine wScope ?_) | ((first | refine wRet ?_ | refine wExit ?_ | refine wSkip ?_); try simp) | ((first | refine wLabel ?_ | refine wOn ?_ | refine wQn ?_); try simp only [thenA_n])
      refine hL _ (N - 1) (by omega) ⟨j, by omega, ?_⟩
      simp [g3, g4, hw, hi]
    · rw [decide_eq_false o, Bool.false_and] at hi
      have o' : 0 ≤ q := by omega
      rw [← hi] at hr
      repeat' first | (refine CallE.pure (cc) rfl ?_) | (refine CallE.lent (cc) rfl ?_) | (refine CallF.pure (cc) rfl ?_) | (refine CallF.lent (cc) rfl ?_) | (refine CallE.own (cc) ?_) | (refine CallH.pure (cc) rfl ?_) | (refine CallH.lent (cc) rfl ?_) | (refine CallH.own (cc) ?_) | (refine hK _ ?_; clear hK) | (refine hK _ _ ?_; clear hK) | (clear hK; refine hK _ ?_; clear hK) | (clear hK; clear hK; refine hK _ ?_; clear hK) | (clear hK; clear hK; clear hK; refine hK _ ?_; clear hK) | (clear hK; clear hK; clear hK; clear hK; refine hK _ ?_; clear hK) | (refine wSeq fun K hK => ?_) | ((first | refine wReg ?_ | refine wDrwQ rfl (by kernel_rfl) ?_ | refine wDrwI ?_ | refine wDrw (by kernel_rfl) ?_); simp only [List.map_cons, List.map_nil, strip]) | ((first | refine wIs fun K hK => ?_ | refine wOs fun K hK => ?_ | refine wQs fun K hK => ?_ | refine CallK_plain ?_ | refine CallQ_plain ?_ | refine CallR_plain ?_ | refine wCond ?_); simp [g3, g4, hlt, hlt', hk0, hw, hw2, o, o']) | (refine wIn ?_; refine And.intro (by kernel_rfl) ?_; try simp only [thenA_n]) | (first | refine wBlock ?_ | refine wScope ?_) | ((first | refine wRet ?_ | refine wExit ?_ | refine wSkip ?_); try simp) | ((first | refine wLabel ?_ | refine wOn ?_ | refine wQn ?_); try simp only [thenA_n])
      all_goals apply hr
      all_goals simp [Try.f9]
  · have hlt' : ¬ ((k + 1 : Nat) : Int) < M.length := by omega
    have hd : risesB (M.drop k) = true := by
      have : (M.drop k).length = 1 := by rw [List.length_drop]; omega
      match hm : M.drop k, this with
      | [x], _ => rfl
    rw [hd] at hi
    rw [← hi] at hr
    generalize k + 1 = j at *
    repeat' first | (refine hK _ ?_; clear hK) | (refine hK _ _ ?_; clear hK) | (clear hK; refine hK _ ?_; clear hK) | (clear hK; clear hK; refine hK _ ?_; clear hK) | (clear hK; clear hK; clear hK; refine hK _ ?_; clear hK) | (clear hK; clear hK; clear hK; clear hK; refine hK _ ?_; clear hK) | (refine wSeq fun K hK => ?_) | ((first | refine wReg ?_ | refine wDrwQ rfl (by kernel_rfl) ?_ | refine wDrwI ?_ | refine wDrw (by kernel_rfl) ?_); simp only [List.map_cons, List.map_nil, strip]) | ((first | refine wIs fun K hK => ?_ | refine wOs fun K hK => ?_ | refine wQs fun K hK => ?_ | refine CallK_plain ?_ | refine CallQ_plain ?_ | refine CallR_plain ?_ | refine wCond ?_); simp [g3, g4, hlt, hlt']) | (refine wIn ?_; refine And.intro (by kernel_rfl) ?_; try simp only [thenA_n]) | (first | refine wBlock ?_ | refine wScope ?_) | ((first | refine wRet ?_ | refine wExit ?_ | refine wSkip ?_); try simp) | ((first | refine wLabel ?_ | refine wOn ?_ | refine wQn ?_); try simp only [thenA_n])
    all_goals apply hr
    all_goals simp [Try.f9]
theorem lastH16_con (h : Hy) (hl : h.lg.length ≤ 1000) : ACon Try.prog 23 [.p (.agg h.cells)] (.p (.agg [I (lastH h).e, I (lastH h).n])) := by
  unfold lastH
  by_cases h0 : h.lg.length = 0
  · have h0' : (h.lg.length : Int) = 0 := by omega
    rw [if_pos h0]
    unfold Hy.cells at *
    refine wBody Try.tab Try.mixed Try.func23 rfl rfl Try.ntmps23 (by simp) (by simp) fun Q hr hn => ?_
    repeat' first | (refine hK _ ?_; clear hK) | (refine hK _ _ ?_; clear hK) | (clear hK; refine hK _ ?_; clear hK) | (clear hK; clear hK; refine hK _ ?_; clear hK) | (clear hK; clear hK; clear hK; refine hK _ ?_; clear hK) | (clear hK; clear hK; clear hK; clear hK; refine hK _ ?_; clear hK) | (refine wSeq fun K hK => ?_) | ((first | refine wReg ?_ | refine wDrwQ rfl (by kernel_rfl) ?_ | refine wDrwI ?_ | refine wDrw (by kernel_rfl) ?_); simp only [List.map_cons, List.map_nil, strip]) | ((first | refine wIs fun K hK => ?_ | refine wOs fun K hK => ?_ | refine wQs fun K hK => ?_ | refine CallK_plain ?_ | refine CallQ_plain ?_ | refine CallR_plain ?_ | refine wCond ?_); simp [h0, h0']) | (refine wIn ?_; refine And.intro (by kernel_rfl) ?_; try simp only [thenA_n]) | (first | refine wBlock ?_ | refine wScope ?_) | ((first | refine wRet ?_ | refine wExit ?_ | refine wSkip ?_); try simp) | ((first | refine wLabel ?_ | refine wOn ?_ | refine wQn ?_); try simp only [thenA_n])
    all_goals apply hr
    all_goals simp [Try.f23]
  · have h0' : ¬ (h.lg.length : Int) = 0 := by omega
    rw [if_neg h0]
    have hlt : h.lg.length - 1 < h.lg.length := by omega
    have hg : h.lg.getD (h.lg.length - 1) tx0 = h.lg[h.lg.length - 1] := by rw [List.getD_eq_getElem?_getD, List.getElem?_eq_getElem hlt]; rfl
    rw [hg]
    have hw : IntKind.i64.wrap ((h.lg.length : Int) - 1) = ((h.lg.length - 1 : Nat) : Int) := by rw [wrap_id] <;> omega
    have he := txns_get hlt
    generalize h.lg.length - 1 = j at *
    unfold Hy.cells at *
    refine wBody Try.tab Try.mixed Try.func23 rfl rfl Try.ntmps23 (by simp) (by simp) fun Q hr hn => ?_
    repeat' first | (refine hK _ ?_; clear hK) | (refine hK _ _ ?_; clear hK) | (clear hK; refine hK _ ?_; clear hK) | (clear hK; clear hK; refine hK _ ?_; clear hK) | (clear hK; clear hK; clear hK; refine hK _ ?_; clear hK) | (clear hK; clear hK; clear hK; clear hK; refine hK _ ?_; clear hK) | (refine wSeq fun K hK => ?_) | ((first | refine wReg ?_ | refine wDrwQ rfl (by kernel_rfl) ?_ | refine wDrwI ?_ | refine wDrw (by kernel_rfl) ?_); simp only [List.map_cons, List.map_nil, strip]) | ((first | refine wIs fun K hK => ?_ | refine wOs fun K hK => ?_ | refine wQs fun K hK => ?_ | refine CallK_plain ?_ | refine CallQ_plain ?_ | refine CallR_plain ?_ | refine wCond ?_); simp [h0, h0', hw, hlt, he]) | (refine wIn ?_; refine And.intro (by kernel_rfl) ?_; try simp only [thenA_n]) | (first | refine wBlock ?_ | refine wScope ?_) | ((first | refine wRet ?_ | refine wExit ?_ | refine wSkip ?_); try simp) | ((first | refine wLabel ?_ | refine wOn ?_ | refine wQn ?_); try simp only [thenA_n])
    all_goals apply hr
    all_goals simp [Try.f23]
def upL (z : Zx) (l : List Tx) : List Tx := l.filter fun t => decide (zcmp t.e t.n z.e z.n ≤ 0)
def stAt (h : Hy) (z : Zx) : Sv := allS h.im (upL z h.lg)
theorem upL_snoc (z : Zx) {l : List Tx} {k : Nat} (h : k < l.length) : upL z (l.take (k + 1)) = upL z (l.take k) ++ if zcmp l[k].e l[k].n z.e z.n ≤ 0 then [l[k]] else [] := by
  unfold upL
  rw [List.take_succ_eq_append_getElem h, List.filter_append]
  congr 1
  by_cases o : zcmp l[k].e l[k].n z.e z.n ≤ 0
  · rw [if_pos o]; simp [o]
  · rw [if_neg o]; simp [o]
theorem psum_filter (p : Tx → Bool) : ∀ l : List Tx, psum (l.filter p) ≤ psum l
  | [] => by simp
  | t :: l => by
    have := psum_filter p l
    rw [List.filter_cons, psum_cons]
    split
    · rw [psum_cons]; omega
    · omega
theorem psum_takeL (l : List Tx) (k : Nat) : psum (l.take k) ≤ psum l := by
  conv => rhs; rw [← List.take_append_drop k l]
  unfold psum
  simp only [List.map_append, List.sum_append]; omega
theorem allS_app (s : Sv) (a b : List Tx) : allS s (a ++ b) = allS (allS s a) b := by unfold allS; rw [List.foldl_append]
theorem OkH.fits {h : Hy} (hk : OkH h) (n : Nat) (hn : n ≤ 900000) : Fits h.im n := ⟨by have := hk.ns; omega, by have := hk.ss; omega, by have := hk.c; unfold okC; omega⟩
theorem OkH.okT {h : Hy} (hk : OkH h) : ∀ t ∈ h.lg, okT t := fun t ht p hp => by have := (hk.ps t ht).2 p hp; unfold okC; omega
theorem OkH.up {h : Hy} (hk : OkH h) (z : Zx) (l : List Tx) (hl : ∀ t ∈ l, t ∈ h.lg) (hp : psum l ≤ 1000) : Fits (allS h.im (upL z l)) 1000 :=
  allS_fits (n := 1000) _ (hk.fits _ (by have := psum_filter (fun t => decide (zcmp t.e t.n z.e z.n ≤ 0)) l; unfold upL; omega)) fun t ht => hk.okT t (hl t (List.mem_filter.1 ht).1)
set_option maxHeartbeats 4000000 in
theorem stateAt16_con (h : Hy) (z : Zx) (hk : OkH h) : ACon Try.prog 22 [.p (.agg h.cells), .p (.agg [I z.e, I z.n])] (.p (.agg (stAt h z).cells)) := by
  have c1 := own16_con h.im hk.ns hk.ss hk.c
  have hlg := hk.lg
  have hps := hk.tot
  have s0 : allS h.im (upL z []) = h.im := by simp [upL, allS]
  unfold stAt
  unfold Sv.cells at c1 ⊢
  unfold Hy.cells
  refine wBody Try.tab Try.mixed Try.func22 rfl rfl Try.ntmps22 (by simp) (by simp) fun Q hr hn => ?_
  repeat' first | (refine hK _ ?_; clear hK) | (refine hK _ _ ?_; clear hK) | (clear hK; refine hK _ ?_; clear hK) | (clear hK; clear hK; refine hK _ ?_; clear hK) | (clear hK; clear hK; clear hK; refine hK _ ?_; clear hK) | (clear hK; clear hK; clear hK; clear hK; refine hK _ ?_; clear hK) | (refine wSeq fun K hK => ?_) | ((first | refine wReg ?_ | refine wDrwQ rfl (by kernel_rfl) ?_ | refine wDrwI ?_ | refine wDrw (by kernel_rfl) ?_); simp only [List.map_cons, List.map_nil, strip]) | ((first | refine wIs fun K hK => ?_ | refine wOs fun K hK => ?_ | refine wQs fun K hK => ?_ | refine CallK_plain ?_ | refine CallQ_plain ?_ | refine CallR_plain ?_ | refine wCond ?_); simp) | (refine wIn ?_; refine And.intro (by kernel_rfl) ?_; try simp only [thenA_n]) | (first | refine wBlock ?_ | refine wScope ?_) | ((first | refine wRet ?_ | refine wExit ?_ | refine wSkip ?_); try simp) | ((first | refine wLabel ?_ | refine wOn ?_ | refine wQn ?_); try simp only [thenA_n]) | (refine CallE.pure (c1) rfl ?_) | (refine CallE.lent (c1) rfl ?_) | (refine CallF.pure (c1) rfl ?_) | (refine CallF.lent (c1) rfl ?_) | (refine CallE.own (c1) ?_) | (refine CallH.pure (c1) rfl ?_) | (refine CallH.lent (c1) rfl ?_) | (refine CallH.own (c1) ?_)
  refine wLoop (fun N st => ∃ k q, k + N = h.lg.length ∧ q = allS h.im (upL z (h.lg.take k)) ∧ st.s 3 = .ptr 3 0 ∧ st.b 3 = some (.box 25 [.p (I z.e), .p (I z.n)]) ∧ st.s 5 = .ptr 5 0 ∧ st.s 4 = .ptr 4 0 ∧ st.s 12 = .p (.sl 8 (txns h.lg)) ∧ st.s 13 = .p (I h.lg.length) ∧ st.s 14 = .p (I k) ∧ st.b 4 = some (.box 30 [.nil 5, .nil 1, .p (I 0), .p (I 0), .p (I 0), .p (I 0), .nil 4, .p (I 0), .p (I 0)]) ∧ st.b 5 = some (.box 30 [.p (.sl 5 (zns q.ns)), .p (.sl 1 (ints q.ss)), .p (I q.nx), .p (I q.c.ep), .p (I q.c.n), .p (I q.c.kind), .p (.sl 4 (mbs q.c.ms)), .p (I q.ae), .p (I q.an)])) h.lg.length ⟨0, h.im, by simp [s0]⟩ fun K N st hL ⟨k, q, hkN, hq, g3, b3, g5, g4, g12, g13, g14, b4, b5⟩ => ?_
  by_cases hlt : k < h.lg.length
  · have hw := wrapS k _ hlt (by omega)
    have he := txns_get hlt
    have hsn := upL_snoc z hlt
    have htk := hk.okT h.lg[k] (List.getElem_mem hlt)
    have hpl := (hk.ps h.lg[k] (List.getElem_mem hlt)).1
    have hf := hk.up z (h.lg.take k) (fun t ht => List.mem_of_mem_take ht) (by have := psum_takeL h.lg k; unfold psum at *; omega)
    rw [← hq] at hf
    have c2 := apply08_con q h.lg[k] (hf.le hpl) htk
    have cc := cmp02_con h.lg[k].e h.lg[k].n z.e z.n
    by_cases o : zcmp h.lg[k].e h.lg[k].n z.e z.n ≤ 0
    · rw [if_pos o] at hsn
      have hq' : doS q h.lg[k] = allS h.im (upL z (h.lg.take (k + 1))) := by rw [hsn, allS_app, ← hq]; rfl
      generalize zcmp h.lg[k].e h.lg[k].n z.e z.n = r at *
      generalize doS q h.lg[k] = q2 at *
      unfold Sv.cells Tx.cells at c2
      repeat' first | (refine hK _ ?_; clear hK) | (refine hK _ _ ?_; clear hK) | (clear hK; refine hK _ ?_; clear hK) | (clear hK; clear hK; refine hK _ ?_; clear hK) | (clear hK; clear hK; clear hK; refine hK _ ?_; clear hK) | (clear hK; clear hK; clear hK; clear hK; refine hK _ ?_; clear hK) | (refine wSeq fun K hK => ?_) | ((first | refine wReg ?_ | refine wDrwQ rfl (by kernel_rfl) ?_ | refine wDrwI ?_ | refine wDrw (by kernel_rfl) ?_); simp only [List.map_cons, List.map_nil, strip]) | ((first | refine wIs fun K hK => ?_ | refine wOs fun K hK => ?_ | refine wQs fun K hK => ?_ | refine CallK_plain ?_ | refine CallQ_plain ?_ | refine CallR_plain ?_ | refine wCond ?_); simp [g3, b3, g5, g4, g12, g13, g14, b4, b5, hlt, hw, he, o]) | (refine wIn ?_; refine And.intro (by kernel_rfl) ?_; try simp only [thenA_n]) | (first | refine wBlock ?_ | refine wScope ?_) | ((first | refine wRet ?_ | refine wExit ?_ | refine wSkip ?_); try simp) | ((first | refine wLabel ?_ | refine wOn ?_ | refine wQn ?_); try simp only [thenA_n]) | (refine CallE.pure (c2) rfl ?_) | (refine CallE.lent (c2) rfl ?_) | (refine CallF.pure (c2) rfl ?_) | (refine CallF.lent (c2) rfl ?_) | (refine CallE.own (c2) ?_) | (refine CallH.pure (c2) rfl ?_) | (refine CallH.lent (c2) rfl ?_) | (refine CallH.own (c2) ?_) | (refine CallE.pure (cc) rfl ?_) | (refine CallE.lent (cc) rfl ?_) | (refine CallF.pure (cc) rfl ?_) | (refine CallF.lent (cc) rfl ?_) | (refine CallE.own (cc) ?_) | (refine CallH.pure (cc) rfl ?_) | (refine CallH.lent (cc) rfl ?_) | (refine CallH.own (cc) ?_)
      refine hL _ (N - 1) (by omega) ⟨k + 1, q2, by omega, hq', ?_⟩
      simp [g3, b3, g5, g4, g12, g13, g14, b4, b5, hw]
    · rw [if_neg o, List.append_nil] at hsn
      generalize zcmp h.lg[k].e h.lg[k].n z.e z.n = r at *
      repeat' first | (refine hK _ ?_; clear hK) | (refine hK _ _ ?_; clear hK) | (clear hK; refine hK _ ?_; clear hK) | (clear hK; clear hK; refine hK _ ?_; clear hK) | (clear hK; clear hK; clear hK; refine hK _ ?_; clear hK) | (clear hK; clear hK; clear hK; clear hK; refine hK _ ?_; clear hK) | (refine wSeq fun K hK => ?_) | ((first | refine wReg ?_ | refine wDrwQ rfl (by kernel_rfl) ?_ | refine wDrwI ?_ | refine wDrw (by kernel_rfl) ?_); simp only [List.map_cons, List.map_nil, strip]) | ((first | refine wIs fun K hK => ?_ | refine wOs fun K hK => ?_ | refine wQs fun K hK => ?_ | refine CallK_plain ?_ | refine CallQ_plain ?_ | refine CallR_plain ?_ | refine wCond ?_); simp [g3, b3, g5, g4, g12, g13, g14, b4, b5, hlt, hw, he, o]) | (refine wIn ?_; refine And.intro (by kernel_rfl) ?_; try simp only [thenA_n]) | (first | refine wBlock ?_ | refine wScope ?_) | ((first | refine wRet ?_ | refine wExit ?_ | refine wSkip ?_); try simp) | ((first | refine wLabel ?_ | refine wOn ?_ | refine wQn ?_); try simp only [thenA_n]) | (refine CallE.pure (cc) rfl ?_) | (refine CallE.lent (cc) rfl ?_) | (refine CallF.pure (cc) rfl ?_) | (refine CallF.lent (cc) rfl ?_) | (refine CallE.own (cc) ?_) | (refine CallH.pure (cc) rfl ?_) | (refine CallH.lent (cc) rfl ?_) | (refine CallH.own (cc) ?_)
      refine hL _ (N - 1) (by omega) ⟨k + 1, q, by omega, by rw [hsn]; exact hq, ?_⟩
      simp [g3, b3, g5, g4, g12, g13, g14, b4, b5, hw]
  · rw [List.take_of_length_le (by omega)] at hq
    rw [← hq] at hr
    repeat' first | (refine hK _ ?_; clear hK) | (refine hK _ _ ?_; clear hK) | (clear hK; refine hK _ ?_; clear hK) | (clear hK; clear hK; refine hK _ ?_; clear hK) | (clear hK; clear hK; clear hK; refine hK _ ?_; clear hK) | (clear hK; clear hK; clear hK; clear hK; refine hK _ ?_; clear hK) | (refine wSeq fun K hK => ?_) | ((first | refine wReg ?_ | refine wDrwQ rfl (by kernel_rfl) ?_ | refine wDrwI ?_ | refine wDrw (by kernel_rfl) ?_); simp only [List.map_cons, List.map_nil, strip]) | ((first | refine wIs fun K hK => ?_ | refine wOs fun K hK => ?_ | refine wQs fun K hK => ?_ | refine CallK_plain ?_ | refine CallQ_plain ?_ | refine CallR_plain ?_ | refine wCond ?_); simp [g3, b3, g5, g4, g12, g13, g14, b4, b5, hlt]) | (refine wIn ?_; refine And.intro (by kernel_rfl) ?_; try simp only [thenA_n]) | (first | refine wBlock ?_ | refine wScope ?_) | ((first | refine wRet ?_ | refine wExit ?_ | refine wSkip ?_); try simp) | ((first | refine wLabel ?_ | refine wOn ?_ | refine wQn ?_); try simp only [thenA_n])
    all_goals apply hr
    all_goals simp [Try.f22, g4, g5, b4, b5]
end Go.Proofs.Ytegoihognjpcjaa


/- The closed calls (awake), run. -/
namespace Go.Proofs.Ytegoihognjpcjaa
set_option linter.unusedSimpArgs false
set_option linter.unusedVariables false
open Go Go.Av
attribute [local simp] Try.T1 Try.T2 Try.T3 Try.T4 Try.T5 Try.T9 Try.T12 Try.T15 Try.T16 Try.T17 Try.T21 Try.T22 Try.T23 Try.T25 Try.T26 Try.T28 Try.T30 Try.T31 Try.T33 Try.T34 Try.T35 Try.T36 Try.T37 Try.T38 Try.T40 Try.T42 Try.T43 Try.T44 Try.T45 Try.T46 Try.T48 Try.T49 Try.T50 Try.T51 Try.T52 Try.T53 Try.T54 Try.T55 Try.T56 Try.T57 Try.T58 Try.T59 Try.T60 Try.T61 Try.T62 Try.T64 Try.T66 Try.T67 Try.T68 Try.T69 Try.T70 Try.T71 Try.T72 Try.T73 Try.T74 Try.T75 Try.T76 Try.T77 Try.T78 Try.T80 Try.T81 Try.T82 Try.T83 Try.T84 Try.T85 Try.T86 Try.T88 Try.T89 Try.T90 Try.T91 Try.T92 Try.T93 Try.T94 Try.T95 Try.T96 Try.T97 Try.T98 Try.T99 Try.T100 Try.T101 Try.T102 Try.T103 Try.T104 Try.T105 Try.T106 Try.T107 Try.T108 Try.T109 Try.T110 Try.T111 Try.T112 Try.T113 Try.T116 Try.T119 Try.T120 Try.T123 Try.T124
attribute [local irreducible] Go.Av.CallK Go.Av.CallE Go.Av.CallQ Go.Av.CallF Go.Av.CallR Go.Av.CallH Go.Av.Con
theorem clone59 (l : List (List PV)) (hl : l.length ≤ 1000000) : RCon 59 [.p (.sl 4 l)] 88 4 l := by
  refine wBodyR Try.tab Try.mixed Try.func59 rfl rfl Try.ntmps59 rfl (by simp) (by simp) fun Q hr hn => ?_
  repeat' first | (refine wRetG [.row 2 88 4] ?_) | (refine And.intro (by omega) (Or.inl ?_)) | (refine And.intro ?_ (fun hnil => ?_)) | (refine hK _ ?_; clear hK) | (refine hK _ _ ?_; clear hK) | (clear hK; refine hK _ ?_; clear hK) | (clear hK; clear hK; refine hK _ ?_; clear hK) | (clear hK; clear hK; clear hK; refine hK _ ?_; clear hK) | (clear hK; clear hK; clear hK; clear hK; refine hK _ ?_; clear hK) | (refine wSeq fun K hK => ?_) | ((first | refine wReg ?_ | refine wDrwQ rfl (by kernel_rfl) ?_ | refine wDrwI ?_ | refine wDrw (by kernel_rfl) ?_); simp only [List.map_cons, List.map_nil, strip]) | ((first | refine wIs fun K hK => ?_ | refine wOs fun K hK => ?_ | refine wQs fun K hK => ?_ | refine CallK_plain ?_ | refine CallQ_plain ?_ | refine CallR_plain ?_ | refine wCond ?_); simp) | (refine wIn ?_; refine And.intro (by kernel_rfl) ?_; try simp only [thenA_n]) | (first | refine wBlock ?_ | refine wScope ?_) | ((first | refine wRet ?_ | refine wExit ?_ | refine wSkip ?_); try simp) | ((first | refine wLabel ?_ | refine wOn ?_ | refine wQn ?_); try simp only [thenA_n])
  · refine hr _ 7 (by simp) (by simp) (by omega)
  · subst hnil
    simp only [thenA_r]
    refine hr _ 2 (by simp) (by simp) (by omega)
theorem clone68 (l : List (List PV)) (hl : l.length ≤ 1000000) : RCon 68 [.p (.sl 5 l)] 64 5 l := by
  refine wBodyR Try.tab Try.mixed Try.func68 rfl rfl Try.ntmps68 rfl (by simp) (by simp) fun Q hr hn => ?_
  repeat' first | (refine wRetG [.row 2 64 5] ?_) | (refine And.intro (by omega) (Or.inl ?_)) | (refine And.intro ?_ (fun hnil => ?_)) | (refine hK _ ?_; clear hK) | (refine hK _ _ ?_; clear hK) | (clear hK; refine hK _ ?_; clear hK) | (clear hK; clear hK; refine hK _ ?_; clear hK) | (clear hK; clear hK; clear hK; refine hK _ ?_; clear hK) | (clear hK; clear hK; clear hK; clear hK; refine hK _ ?_; clear hK) | (refine wSeq fun K hK => ?_) | ((first | refine wReg ?_ | refine wDrwQ rfl (by kernel_rfl) ?_ | refine wDrwI ?_ | refine wDrw (by kernel_rfl) ?_); simp only [List.map_cons, List.map_nil, strip]) | ((first | refine wIs fun K hK => ?_ | refine wOs fun K hK => ?_ | refine wQs fun K hK => ?_ | refine CallK_plain ?_ | refine CallQ_plain ?_ | refine CallR_plain ?_ | refine wCond ?_); simp) | (refine wIn ?_; refine And.intro (by kernel_rfl) ?_; try simp only [thenA_n]) | (first | refine wBlock ?_ | refine wScope ?_) | ((first | refine wRet ?_ | refine wExit ?_ | refine wSkip ?_); try simp) | ((first | refine wLabel ?_ | refine wOn ?_ | refine wQn ?_); try simp only [thenA_n])
  · refine hr _ 7 (by simp) (by simp) (by omega)
  · subst hnil
    simp only [thenA_r]
    refine hr _ 2 (by simp) (by simp) (by omega)
theorem clone69 (l : List (List PV)) (hl : l.length ≤ 1000000) : RCon 69 [.p (.sl 1 l)] 3 1 l := by
  refine wBodyR Try.tab Try.mixed Try.func69 rfl rfl Try.ntmps69 rfl (by simp) (by simp) fun Q hr hn => ?_
  repeat' first | (refine wRetG [.row 2 3 1] ?_) | (refine And.intro (by omega) (Or.inl ?_)) | (refine And.intro ?_ (fun hnil => ?_)) | (refine hK _ ?_; clear hK) | (refine hK _ _ ?_; clear hK) | (clear hK; refine hK _ ?_; clear hK) | (clear hK; clear hK; refine hK _ ?_; clear hK) | (clear hK; clear hK; clear hK; refine hK _ ?_; clear hK) | (clear hK; clear hK; clear hK; clear hK; refine hK _ ?_; clear hK) | (refine wSeq fun K hK => ?_) | ((first | refine wReg ?_ | refine wDrwQ rfl (by kernel_rfl) ?_ | refine wDrwI ?_ | refine wDrw (by kernel_rfl) ?_); simp only [List.map_cons, List.map_nil, strip]) | ((first | refine wIs fun K hK => ?_ | refine wOs fun K hK => ?_ | refine wQs fun K hK => ?_ | refine CallK_plain ?_ | refine CallQ_plain ?_ | refine CallR_plain ?_ | refine wCond ?_); simp) | (refine wIn ?_; refine And.intro (by kernel_rfl) ?_; try simp only [thenA_n]) | (first | refine wBlock ?_ | refine wScope ?_) | ((first | refine wRet ?_ | refine wExit ?_ | refine wSkip ?_); try simp) | ((first | refine wLabel ?_ | refine wOn ?_ | refine wQn ?_); try simp only [thenA_n])
  · refine hr _ 7 (by simp) (by simp) (by omega)
  · subst hnil
    simp only [thenA_r]
    refine hr _ 2 (by simp) (by simp) (by omega)
def cloneT : Nat → Option (Nat × Nat)
  | 59 => some (88, 4)
  | 68 => some (64, 5)
  | 69 => some (3, 1)
  | _ => none
theorem clone_ok {g e c : Nat} (h : cloneT g = some (e, c)) (l : List (List PV)) (hl : l.length ≤ 1000000) : RCon g [.p (.sl c l)] e c l := by
  unfold cloneT at h
  split at h
  · simp only [Option.some.injEq, Prod.mk.injEq] at h; obtain ⟨rfl, rfl⟩ := h; exact clone59 l hl
  · simp only [Option.some.injEq, Prod.mk.injEq] at h; obtain ⟨rfl, rfl⟩ := h; exact clone68 l hl
  · simp only [Option.some.injEq, Prod.mk.injEq] at h; obtain ⟨rfl, rfl⟩ := h; exact clone69 l hl
  · simp at h
def base : CallF' := fun g args β => match args, β with
  | [.p (.sl c' l)], [] => match cloneT g with
    | some (e, c) => if c' = c ∧ l.length ≤ 1000000 then some (.ret (.row 2048) [.row e c l] []) else none
    | none => none
  | _, _ => none
theorem base_ok : ∀ g args β out, base g args β = some out → Con Try.prog g args β out := fun g args β out h => by
  unfold base at h
  split at h
  · split at h
    · rename_i hc
      split at h
      · rename_i hl
        obtain ⟨rfl, hl⟩ := hl
        simp only [Option.some.injEq] at h; subst h
        exact clone_ok hc _ hl
      · simp at h
    · simp at h
  · simp at h
end Go.Proofs.Ytegoihognjpcjaa

