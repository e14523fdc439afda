/- Disks: bytes joined, disks copied, what is used. -/
import Derived.Test.YtijjfiebmdejaaaCA
import Derived.Test.YtijjfiebmdejaaaAvTup
namespace Go.Proofs.Ytijjfiebmdejaaa
set_option linter.unusedSimpArgs false
set_option linter.unusedVariables false
open Go Go.Av
attribute [local simp] Try.T1 Try.T2 Try.T3 Try.T4 Try.T5 Try.T9 Try.T12 Try.T15 Try.T16 Try.T17 Try.T21 Try.T22 Try.T23 Try.T24 Try.T25 Try.T27 Try.T28 Try.T29 Try.T30 Try.T32 Try.T33 Try.T35 Try.T37 Try.T38 Try.T39 Try.T40 Try.T41 Try.T42 Try.T43 Try.T44 Try.T45 Try.T47 Try.T48 Try.T49 Try.T50 Try.T51 Try.T52 Try.T53 Try.T55 Try.T56 Try.T57 Try.T58 Try.T59 Try.T60 Try.T61 Try.T62 Try.T63 Try.T64 Try.T65 Try.T66 Try.T67 Try.T69 Try.T71 Try.T72 Try.T73 Try.T74 Try.T75 Try.T78 Try.T81 Try.T82 Try.T85 Try.T86
attribute [local irreducible] Go.Av.CallK Go.Av.CallE Go.Av.CallQ Go.Av.CallF Go.Av.CallR Go.Av.CallH Go.Av.Con
abbrev RCon (g : FuncId) (args : List V) (e c : Nat) (l : List (List PV)) : Prop := Con Try.prog g args [] (.ret (.row 2048) [.row e c l] [])
set_option maxHeartbeats 1000000 in
theorem joinedG_con (X Y : List (List PV)) (hl : X.length + Y.length ≤ 100000000) : RCon 37 [.p (.sl 1 X), .p (.sl 1 Y)] 5 1 (X ++ Y) := by
  have hw : IntKind.i64.wrap ((X.length : Int) + (Y.length : Int)) = ((X.length + Y.length : Nat) : Int) := by rw [wrap_id] <;> omega
  refine wBodyR Try.tab Try.mixed Try.func37 rfl rfl Try.ntmps37 rfl (by simp) (by simp) fun Q hr hn => ?_
  repeat' first | (rw [if_pos ⟨by omega, by omega⟩]) | (refine And.intro (by omega) ?_) | (refine hK _ ?_; clear hK) | (refine hK _ _ ?_; clear hK) | (clear hK; refine hK _ ?_; clear hK) | (clear hK; clear hK; refine hK _ ?_; clear hK) | (clear hK; clear hK; clear hK; refine hK _ ?_; clear hK) | (clear hK; clear hK; clear hK; clear hK; refine hK _ ?_; clear hK) | (refine wSeq fun K hK => ?_) | ((first | refine wReg ?_ | refine wDrwQ rfl (by kernel_rfl) ?_ | refine wDrwI ?_ | refine wDrw (by kernel_rfl) ?_); simp only [List.map_cons, List.map_nil, strip]) | ((first | refine wIs fun K hK => ?_ | refine wOs fun K hK => ?_ | refine wQs fun K hK => ?_ | refine CallK_plain ?_ | refine CallQ_plain ?_ | refine CallR_plain ?_ | refine wCond ?_); simp [hw]) | (refine wIn ?_; refine And.intro (by kernel_rfl) ?_; try simp only [thenA_n]) | (first | refine wBlock ?_ | refine wScope ?_) | ((first | refine wRet ?_ | refine wExit ?_ | refine wSkip ?_); try simp) | ((first | refine wLabel ?_ | refine wOn ?_ | refine wQn ?_); try simp only [thenA_n])
  all_goals refine hr _ 11 (by simp) (by simp; omega) (by omega)
theorem joined_con (a b : List UInt8) (hl : a.length + b.length ≤ 100000000) : RCon 37 [.p (.sl 1 (by8 a)), .p (.sl 1 (by8 b))] 5 1 (by8 (a ++ b)) := by
  have c := joinedG_con (by8 a) (by8 b) (by simpa using hl)
  rw [by8_app] at c
  exact c
structure Fl where
  (n d : List UInt8)
  (s : Int)
  deriving DecidableEq
def Fl.cells (x : Fl) : List PV := [SB x.n, .sl 1 (by8 x.d), I x.s]
def fls (l : List Fl) : List (List PV) := l.map Fl.cells
@[simp] theorem fls_len (l : List Fl) : (fls l).length = l.length := by simp [fls]
@[simp] theorem fls_getElem (l : List Fl) (k : Nat) (h : k < (fls l).length) : (fls l)[k] = [SB (l[k]'(by simpa using h)).n, .sl 1 (by8 (l[k]'(by simpa using h)).d), I (l[k]'(by simpa using h)).s] := by simp [fls, Fl.cells]
theorem fls_get {l : List Fl} {k : Nat} (h : k < l.length) : (fls l)[k]? = some [SB l[k].n, .sl 1 (by8 l[k].d), I l[k].s] := by simp [fls, h, Fl.cells]
theorem fls_set (l : List Fl) (k : Nat) (x : Fl) : (fls l).set k [SB x.n, .sl 1 (by8 x.d), I x.s] = fls (l.set k x) := by simp [fls, Fl.cells, List.map_set]
theorem fls_take (l : List Fl) (k : Nat) : (fls l).take k = fls (l.take k) := by simp [fls, List.map_take]
theorem fls_drop (l : List Fl) (k : Nat) : (fls l).drop k = fls (l.drop k) := by simp [fls, List.map_drop]
theorem fls_app (l m : List Fl) : fls l ++ fls m = fls (l ++ m) := by simp [fls]
theorem fls_snoc (l : List Fl) (x : Fl) : fls l ++ [[SB x.n, .sl 1 (by8 x.d), I x.s]] = fls (l ++ [x]) := by simp [fls, Fl.cells]
/-- A disk. -/
structure Dk where
  (fs : List Fl)
  (cap fuse : Int)
  (dn : Bool)
  deriving DecidableEq
def Dk.cells (d : Dk) : List PV := [.sl 3 (fls d.fs), I d.cap, I d.fuse, B d.dn]
/-- What a disk must be for the calls to do with it. -/
structure OkD (d : Dk) : Prop where
  n : d.fs.length ≤ 100000
  d : ∀ f ∈ d.fs, f.d.length ≤ 10000000
set_option maxHeartbeats 2000000 in
theorem own13_con (d : Dk) (hk : OkD d) : Con Try.prog 41 [.p (.agg d.cells)] [] (.ret (.ag [.row 2048, .p (I d.cap), .p (I d.fuse), .p (B d.dn)]) [.row 47 3 (fls d.fs)] []) := by
  obtain ⟨fs, cap, fuse, dn⟩ := d
  obtain ⟨h1, h2⟩ := hk
  simp only at h1 h2
  unfold Dk.cells
  dsimp only
  have e0 : ∀ Z : List (List PV), Z.length = fs.length → fls fs ++ Z.drop fs.length = fls fs := fun Z hz => by rw [List.drop_of_length_le (by omega), List.append_nil]
  refine wBodyG Try.tab Try.mixed Try.func41 rfl rfl Try.ntmps41 (by simp) (by simp) fun Q hr hn hp => ?_
  repeat' first | (rw [if_pos ⟨by omega, by omega⟩]) | (refine And.intro (by omega) ?_) | (refine hK _ ?_; clear hK) | (refine hK _ _ ?_; clear hK) | (clear hK; refine hK _ ?_; clear hK) | (clear hK; clear hK; refine hK _ ?_; clear hK) | (clear hK; clear hK; clear hK; refine hK _ ?_; clear hK) | (clear hK; clear hK; clear hK; clear hK; refine hK _ ?_; clear hK) | (refine wSeq fun K hK => ?_) | ((first | refine wReg ?_ | refine wDrwQ rfl (by kernel_rfl) ?_ | refine wDrwI ?_ | refine wDrw (by kernel_rfl) ?_); simp only [List.map_cons, List.map_nil, strip]) | ((first | refine wIs fun K hK => ?_ | refine wOs fun K hK => ?_ | refine wQs fun K hK => ?_ | refine CallK_plain ?_ | refine CallQ_plain ?_ | refine CallR_plain ?_ | refine wCond ?_); simp [e0]) | (refine wIn ?_; refine And.intro (by kernel_rfl) ?_; try simp only [thenA_n]) | (first | refine wBlock ?_ | refine wScope ?_) | ((first | refine wRet ?_ | refine wExit ?_ | refine wSkip ?_); try simp) | ((first | refine wLabel ?_ | refine wOn ?_ | refine wQn ?_); try simp only [thenA_n])
  refine wLoop (fun N st => ∃ k, k + N = fs.length ∧ st.s 1 = .ptr 1 0 ∧ st.b 1 = some (.box 27 [.p (.sl 3 (fls fs)), .p (I cap), .p (I fuse), .p (B dn)]) ∧ st.s 2 = .ptr 2 0 ∧ st.b 2 = some (.box 27 [.nil 3, .p (I 0), .p (I 0), .p (B false)]) ∧ st.s 3 = .row 8 ∧ st.b 8 = some (.row 47 3 (fls fs)) ∧ st.s 14 = .p (I fs.length) ∧ st.s 15 = .p (I k)) fs.length ⟨0, by simp [e0]⟩ fun K N st hL ⟨k, hk, g1, b1, g2, b2, g3, b8, g14, g15⟩ => ?_
  by_cases hlt : k < fs.length
  · have hlt' : (k : Int) < fs.length := by omega
    have hw := wrapS k _ hlt (by omega)
    have he := fls_get hlt
    have c := (joined_con fs[k].d [] (by have := h2 _ (List.getElem_mem hlt); simp; omega)).toPure
    rw [List.append_nil] at c
    have hs := fls_set fs k fs[k]
    rw [List.set_getElem_self] at hs
    simp only [show by8 [] = [] from rfl] at c
    repeat' first | (refine hK _ ?_; clear hK) | (refine hK _ _ ?_; clear hK) | (clear hK; refine hK _ ?_; clear hK) | (clear hK; clear hK; refine hK _ ?_; clear hK) | (clear hK; clear hK; clear hK; refine hK _ ?_; clear hK) | (clear hK; clear hK; clear hK; clear hK; refine hK _ ?_; clear hK) | (refine wSeq fun K hK => ?_) | ((first | refine wReg ?_ | refine wDrwQ rfl (by kernel_rfl) ?_ | refine wDrwI ?_ | refine wDrw (by kernel_rfl) ?_); simp only [List.map_cons, List.map_nil, strip]) | ((first | refine wIs fun K hK => ?_ | refine wOs fun K hK => ?_ | refine wQs fun K hK => ?_ | refine CallK_plain ?_ | refine CallQ_plain ?_ | refine CallR_plain ?_ | refine wCond ?_); simp [g1, b1, g2, b2, g3, b8, g14, g15, hlt, hlt', hw, he, hs]) | (refine wIn ?_; refine And.intro (by kernel_rfl) ?_; try simp only [thenA_n]) | (first | refine wBlock ?_ | refine wScope ?_) | ((first | refine wRet ?_ | refine wExit ?_ | refine wSkip ?_); try simp) | ((first | refine wLabel ?_ | refine wOn ?_ | refine wQn ?_); try simp only [thenA_n]) | (refine CallE.pure (c) rfl ?_) | (refine CallE.lent (c) rfl ?_) | (refine CallF.pure (c) rfl ?_) | (refine CallF.lent (c) rfl ?_) | (refine CallE.own (c) ?_) | (refine CallH.pure (c) rfl ?_) | (refine CallH.lent (c) rfl ?_) | (refine CallH.own (c) ?_)
    refine hL _ (N - 1) (by omega) ⟨k + 1, by omega, ?_⟩
    simp [g1, b1, g2, b2, g3, b8, g14, g15, hw, hs]
  · have hlt' : ¬ (k : Int) < fs.length := by omega
    repeat' first | (refine hK _ ?_; clear hK) | (refine hK _ _ ?_; clear hK) | (clear hK; refine hK _ ?_; clear hK) | (clear hK; clear hK; refine hK _ ?_; clear hK) | (clear hK; clear hK; clear hK; refine hK _ ?_; clear hK) | (clear hK; clear hK; clear hK; clear hK; refine hK _ ?_; clear hK) | (refine wSeq fun K hK => ?_) | ((first | refine wReg ?_ | refine wDrwQ rfl (by kernel_rfl) ?_ | refine wDrwI ?_ | refine wDrw (by kernel_rfl) ?_); simp only [List.map_cons, List.map_nil, strip]) | ((first | refine wIs fun K hK => ?_ | refine wOs fun K hK => ?_ | refine wQs fun K hK => ?_ | refine CallK_plain ?_ | refine CallQ_plain ?_ | refine CallR_plain ?_ | refine wCond ?_); simp [g1, b1, g2, b2, g3, b8, g14, g15, hlt, hlt']) | (refine wIn ?_; refine And.intro (by kernel_rfl) ?_; try simp only [thenA_n]) | (first | refine wBlock ?_ | refine wScope ?_) | ((first | refine wRet ?_ | refine wExit ?_ | refine wSkip ?_); try simp) | ((first | refine wLabel ?_ | refine wOn ?_ | refine wQn ?_); try simp only [thenA_n])
    all_goals apply hr
    all_goals refine ⟨[8], by simp, by simp, ?_⟩
    all_goals simp [Try.f41, outR, outB, renB, g2, b2, b8]
end Go.Proofs.Ytijjfiebmdejaaa
