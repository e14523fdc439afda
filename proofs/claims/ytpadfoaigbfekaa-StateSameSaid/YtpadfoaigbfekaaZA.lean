/- Layer 2: what comes next, which is last, whose an epoch is; the document's answers. -/
import Derived.Test.YtpadfoaigbfekaaZC
namespace Go.Proofs.Ytpadfoaigbfekaa
set_option linter.unusedSimpArgs false
set_option linter.unusedVariables false
open Go Go.Av
attribute [local simp] Try.T1 Try.T2 Try.T3 Try.T4 Try.T5 Try.T9 Try.T12 Try.T21 Try.T22 Try.T24 Try.T25 Try.T26 Try.T27 Try.T28 Try.T29 Try.T30 Try.T31 Try.T33 Try.T34 Try.T35 Try.T36 Try.T37 Try.T38 Try.T39 Try.T41 Try.T42 Try.T43 Try.T44 Try.T46 Try.T47 Try.T49 Try.T51 Try.T52 Try.T53 Try.T54 Try.T56 Try.T57 Try.T58 Try.T59 Try.T60 Try.T62 Try.T64 Try.T65 Try.T66 Try.T67 Try.T68 Try.T69 Try.T70 Try.T71 Try.T72 Try.T73 Try.T75 Try.T76 Try.T77 Try.T78 Try.T79 Try.T80 Try.T82 Try.T83 Try.T84 Try.T85 Try.T87 Try.T88 Try.T89 Try.T90 Try.T91 Try.T92 Try.T93 Try.T94 Try.T95 Try.T96 Try.T97 Try.T98 Try.T99 Try.T100 Try.T102 Try.T103 Try.T104 Try.T105 Try.T106 Try.T107 Try.T109 Try.T110 Try.T111 Try.T112 Try.T113 Try.T114 Try.T115 Try.T116 Try.T117 Try.T123 Try.T126
attribute [local irreducible] Go.Av.CallK Go.Av.CallE Go.Av.CallQ Go.Av.CallF Go.Av.CallR Go.Av.CallH Go.Av.Con

def nextE (e n : Int) : Int := if ¬ (0 ≤ e ∧ e ≤ 1099511627776) ∨ n < 0 then 1 else if 1099511627776 ≤ n then 5 else 0
def nextN (e n : Int) : Int × Int := if nextE e n = 0 then (e, n + 1) else (0, 0)
def owner (n : Int) : Int := if n < 1 then -1 else n.tmod 16
def freshE (e i : Int) : Int := if i < 0 ∨ 16 ≤ i ∨ e < 0 then 1 else if 1099511627760 < e then 5 else 0
def freshN (e i : Int) : Int := if freshE e i ≠ 0 then 0 else if e - e.tmod 16 + i ≤ e then e - e.tmod 16 + i + 16 else e - e.tmod 16 + i
/-- Places. -/
structure Zx where
  (e n : Int)
  deriving DecidableEq
def zxs (l : List Zx) : List (List PV) := l.map fun z => [I z.e, I z.n]
@[simp] theorem zxs_len (l : List Zx) : (zxs l).length = l.length := by simp [zxs]
@[simp] theorem zxs_getE {l : List Zx} {k : Nat} (h : k < (zxs l).length) : (zxs l)[k] = [I (l[k]'(by simpa using h)).e, I (l[k]'(by simpa using h)).n] := by simp [zxs]
def lastZ : List Zx → Zx
  | [] => ⟨0, 0⟩
  | a :: r => r.foldl (fun m x => if 0 < zcmp x.e x.n m.e m.n then x else m) a
theorem lastZ_snoc (l : List Zx) (k : Nat) (h : k < l.length) : lastZ (l.take (k + 1)) = if k = 0 ∨ 0 < zcmp l[k].e l[k].n (lastZ (l.take k)).e (lastZ (l.take k)).n then l[k] else lastZ (l.take k) := by
  rw [List.take_succ_eq_append_getElem h]
  cases l with
  | nil => simp at h
  | cons a r =>
    cases k with
    | zero => simp [lastZ]
    | succ k =>
      simp only [List.take_succ_cons, List.cons_append, lastZ, List.foldl_append, List.foldl_cons, List.foldl_nil]
      simp
theorem last_con (l : List Zx) : ACon Try.prog 81 [.p (.sl 2 (zxs l))] (.p (.agg [I (lastZ l).e, I (lastZ l).n])) := by
  refine ACon.len ⟨Try.f81, Try.func81, rfl, rfl⟩ 0 _ _ rfl fun hlen => ?_
  simp only [zxs_len] at hlen
  have hs := fun k h => lastZ_snoc l k h
  have h0 : lastZ (l.take 0) = ⟨0, 0⟩ := rfl
  have hfin : lastZ l = lastZ (l.take l.length) := by rw [List.take_length]
  refine wBody Try.tab Try.mixed Try.func81 rfl rfl Try.ntmps81 (by simp) (by simp) fun Q hr hn => ?_
  repeat' first | (refine hK _ ?_; clear hK) | (refine hK _ _ ?_; clear hK) | (clear hK; refine hK _ ?_; clear hK) | (clear hK; clear hK; refine hK _ ?_; clear hK) | (clear hK; clear hK; clear hK; refine hK _ ?_; clear hK) | (clear hK; clear hK; clear hK; clear hK; refine hK _ ?_; clear hK) | (refine wSeq fun K hK => ?_) | ((first | refine wReg ?_ | refine wDrwQ rfl (by kernel_rfl) ?_ | refine wDrwI ?_ | refine wDrw (by kernel_rfl) ?_); simp only [List.map_cons, List.map_nil, strip]) | ((first | refine wIs fun K hK => ?_ | refine wOs fun K hK => ?_ | refine wQs fun K hK => ?_ | refine CallK_plain ?_ | refine CallQ_plain ?_ | refine CallR_plain ?_ | refine wCond ?_); simp) | (refine wIn ?_; refine And.intro (by kernel_rfl) ?_; try simp only [thenA_n]) | (first | refine wBlock ?_ | refine wScope ?_) | ((first | refine wRet ?_ | refine wExit ?_ | refine wSkip ?_); try simp) | ((first | refine wLabel ?_ | refine wOn ?_ | refine wQn ?_); try simp only [thenA_n])
  refine wLoop (fun N st => ∃ k, k + N = l.length ∧ ∃ m : Zx, m = lastZ (l.take k) ∧ st.s 2 = .ptr 2 0 ∧ st.s 3 = .ptr 3 0 ∧ st.b 3 = some (.box 46 [.p (I m.e), .p (I m.n)]) ∧ st.b 2 = some (.box 46 [.p (I 0), .p (I 0)]) ∧
    st.s 6 = .p (.sl 2 (zxs l)) ∧ st.s 7 = .p (I l.length) ∧ st.s 8 = .p (I k)) l.length ⟨0, by simp, ⟨0, 0⟩, h0.symm, by simp⟩ fun K N st hL ⟨k, hk, m, hm, g2, g3, b3, b2, g6, g7, g8⟩ => ?_
  by_cases hlt : k < l.length
  · have hw := wrapS k _ hlt (by omega)
    have hsk := hs k hlt
    rw [← hm] at hsk
    have c1 := cmp_con l[k].e l[k].n m.e m.n
    by_cases k0 : k = 0
    · rw [if_pos (.inl k0)] at hsk
      subst k0
      repeat' first | (refine hK _ ?_; clear hK) | (refine hK _ _ ?_; clear hK) | (clear hK; refine hK _ ?_; clear hK) | (clear hK; clear hK; refine hK _ ?_; clear hK) | (clear hK; clear hK; clear hK; refine hK _ ?_; clear hK) | (clear hK; clear hK; clear hK; clear hK; refine hK _ ?_; clear hK) | (refine wSeq fun K hK => ?_) | ((first | refine wReg ?_ | refine wDrwQ rfl (by kernel_rfl) ?_ | refine wDrwI ?_ | refine wDrw (by kernel_rfl) ?_); simp only [List.map_cons, List.map_nil, strip]) | ((first | refine wIs fun K hK => ?_ | refine wOs fun K hK => ?_ | refine wQs fun K hK => ?_ | refine CallK_plain ?_ | refine CallQ_plain ?_ | refine CallR_plain ?_ | refine wCond ?_); simp [g2, g3, b3, b2, g6, g7, g8, hlt, hw]) | (refine wIn ?_; refine And.intro (by kernel_rfl) ?_; try simp only [thenA_n]) | (first | refine wBlock ?_ | refine wScope ?_) | ((first | refine wRet ?_ | refine wExit ?_ | refine wSkip ?_); try simp) | ((first | refine wLabel ?_ | refine wOn ?_ | refine wQn ?_); try simp only [thenA_n])
      refine hL _ (N - 1) (by omega) ⟨1, by omega, _, hsk.symm, ?_⟩
      simp [g2, g3, b3, b2, g6, g7, g8, show IntKind.i64.wrap 1 = 1 from rfl]
    · have k0' : ¬ (k : Int) = 0 := by omega
      by_cases hg : 0 < zcmp l[k].e l[k].n m.e m.n
      · rw [if_pos (.inr hg)] at hsk
        generalize zcmp l[k].e l[k].n m.e m.n = q at c1 hg
        repeat' first | (refine hK _ ?_; clear hK) | (refine hK _ _ ?_; clear hK) | (clear hK; refine hK _ ?_; clear hK) | (clear hK; clear hK; refine hK _ ?_; clear hK) | (clear hK; clear hK; clear hK; refine hK _ ?_; clear hK) | (clear hK; clear hK; clear hK; clear hK; refine hK _ ?_; clear hK) | (refine wSeq fun K hK => ?_) | ((first | refine wReg ?_ | refine wDrwQ rfl (by kernel_rfl) ?_ | refine wDrwI ?_ | refine wDrw (by kernel_rfl) ?_); simp only [List.map_cons, List.map_nil, strip]) | ((first | refine wIs fun K hK => ?_ | refine wOs fun K hK => ?_ | refine wQs fun K hK => ?_ | refine CallK_plain ?_ | refine CallQ_plain ?_ | refine CallR_plain ?_ | refine wCond ?_); simp [g2, g3, b3, b2, g6, g7, g8, hlt, hw, k0, k0', hg]) | (refine wIn ?_; refine And.intro (by kernel_rfl) ?_; try simp only [thenA_n]) | (first | refine wBlock ?_ | refine wScope ?_) | ((first | refine wRet ?_ | refine wExit ?_ | refine wSkip ?_); try simp) | ((first | refine wLabel ?_ | refine wOn ?_ | refine wQn ?_); try simp only [thenA_n]) | (refine CallE.pure (c1) rfl ?_) | (refine CallE.lent (c1) rfl ?_) | (refine CallF.pure (c1) rfl ?_) | (refine CallF.lent (c1) rfl ?_) | (refine CallE.own (c1) ?_) | (refine CallH.pure (c1) rfl ?_) | (refine CallH.lent (c1) rfl ?_) | (refine CallH.own (c1) ?_)
        refine hL _ (N - 1) (by omega) ⟨k + 1, by omega, _, hsk.symm, ?_⟩
        simp [g2, g3, b3, b2, g6, g7, g8, hw]
      · rw [if_neg (fun h => h.elim k0 hg)] at hsk
        generalize zcmp l[k].e l[k].n m.e m.n = q at c1 hg
        repeat' first | (refine hK _ ?_; clear hK) | (refine hK _ _ ?_; clear hK) | (clear hK; refine hK _ ?_; clear hK) | (clear hK; clear hK; refine hK _ ?_; clear hK) | (clear hK; clear hK; clear hK; refine hK _ ?_; clear hK) | (clear hK; clear hK; clear hK; clear hK; refine hK _ ?_; clear hK) | (refine wSeq fun K hK => ?_) | ((first | refine wReg ?_ | refine wDrwQ rfl (by kernel_rfl) ?_ | refine wDrwI ?_ | refine wDrw (by kernel_rfl) ?_); simp only [List.map_cons, List.map_nil, strip]) | ((first | refine wIs fun K hK => ?_ | refine wOs fun K hK => ?_ | refine wQs fun K hK => ?_ | refine CallK_plain ?_ | refine CallQ_plain ?_ | refine CallR_plain ?_ | refine wCond ?_); simp [g2, g3, b3, b2, g6, g7, g8, hlt, hw, k0, k0', hg]) | (refine wIn ?_; refine And.intro (by kernel_rfl) ?_; try simp only [thenA_n]) | (first | refine wBlock ?_ | refine wScope ?_) | ((first | refine wRet ?_ | refine wExit ?_ | refine wSkip ?_); try simp) | ((first | refine wLabel ?_ | refine wOn ?_ | refine wQn ?_); try simp only [thenA_n]) | (refine CallE.pure (c1) rfl ?_) | (refine CallE.lent (c1) rfl ?_) | (refine CallF.pure (c1) rfl ?_) | (refine CallF.lent (c1) rfl ?_) | (refine CallE.own (c1) ?_) | (refine CallH.pure (c1) rfl ?_) | (refine CallH.lent (c1) rfl ?_) | (refine CallH.own (c1) ?_)
        refine hL _ (N - 1) (by omega) ⟨k + 1, by omega, _, hsk.symm, ?_⟩
        simp [g2, g3, b3, b2, g6, g7, g8, hw]
  · have : k = l.length := by omega
    subst this
    rw [← hfin] at hm
    subst hm
    repeat' first | (refine hK _ ?_; clear hK) | (refine hK _ _ ?_; clear hK) | (clear hK; refine hK _ ?_; clear hK) | (clear hK; clear hK; refine hK _ ?_; clear hK) | (clear hK; clear hK; clear hK; refine hK _ ?_; clear hK) | (clear hK; clear hK; clear hK; clear hK; refine hK _ ?_; clear hK) | (refine wSeq fun K hK => ?_) | ((first | refine wReg ?_ | refine wDrwQ rfl (by kernel_rfl) ?_ | refine wDrwI ?_ | refine wDrw (by kernel_rfl) ?_); simp only [List.map_cons, List.map_nil, strip]) | ((first | refine wIs fun K hK => ?_ | refine wOs fun K hK => ?_ | refine wQs fun K hK => ?_ | refine CallK_plain ?_ | refine CallQ_plain ?_ | refine CallR_plain ?_ | refine wCond ?_); simp [g2, g3, b3, b2, g6, g7, g8, hlt]) | (refine wIn ?_; refine And.intro (by kernel_rfl) ?_; try simp only [thenA_n]) | (first | refine wBlock ?_ | refine wScope ?_) | ((first | refine wRet ?_ | refine wExit ?_ | refine wSkip ?_); try simp) | ((first | refine wLabel ?_ | refine wOn ?_ | refine wQn ?_); try simp only [thenA_n])
    all_goals apply hr
    all_goals simp [Try.f81, g2, g3, b3, b2]
end Go.Proofs.Ytpadfoaigbfekaa
