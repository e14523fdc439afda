/- Watches: those that are told, and those that stay. -/
import Derived.Test.YtkeopdjnidmaeaaWB
import Derived.Test.YtkeopdjnidmaeaaExt
namespace Go.Proofs.Ytkeopdjnidmaeaa
set_option linter.unusedSimpArgs false
set_option linter.unusedVariables false
open Go Go.Av
attribute [local simp] Try.T1 Try.T2 Try.T3 Try.T4 Try.T5 Try.T9 Try.T12 Try.T21 Try.T22 Try.T23 Try.T24 Try.T26 Try.T27 Try.T29 Try.T31 Try.T32 Try.T33 Try.T34 Try.T35 Try.T37 Try.T39 Try.T41 Try.T42 Try.T43 Try.T44 Try.T46 Try.T47 Try.T48 Try.T50 Try.T51 Try.T52 Try.T53 Try.T54 Try.T55 Try.T56 Try.T57 Try.T59 Try.T60 Try.T61 Try.T62 Try.T63 Try.T64 Try.T65 Try.T66 Try.T67 Try.T69 Try.T70 Try.T71 Try.T72 Try.T73 Try.T74 Try.T75 Try.T77 Try.T78 Try.T79 Try.T85 Try.T88 Try.T95
attribute [local irreducible] Go.Av.CallK Go.Av.CallE Go.Av.CallQ Go.Av.CallF Go.Av.CallR Go.Av.CallH Go.Av.Con

def wts (l : List Wt) : List (List PV) := l.map Wt.c
@[simp] theorem wts_len (l : List Wt) : (wts l).length = l.length := by simp [wts]
@[simp] theorem wts_getElem (l : List Wt) (k : Nat) (h : k < (wts l).length) : (wts l)[k] = [I (l[k]'(by simpa using h)).s, I (l[k]'(by simpa using h)).k, SB (l[k]'(by simpa using h)).p] := by simp [wts, Wt.c]
theorem wts_get {l : List Wt} {k : Nat} (h : k < l.length) : (wts l)[k]? = some [I l[k].s, I l[k].k, SB l[k].p] := by simp [wts, h, Wt.c]
theorem wts_snoc (l : List Wt) (w : Wt) : wts l ++ [[I w.s, I w.k, SB w.p]] = wts (l ++ [w]) := by simp [wts, Wt.c]
structure Nt where
  (s k : Int)
  (p : List UInt8)
  (r e n : Int)
def Nt.c (x : Nt) : List PV := [I x.s, I x.k, SB x.p, I x.r, I x.e, I x.n]
def nts (l : List Nt) : List (List PV) := l.map Nt.c
@[simp] theorem nts_len (l : List Nt) : (nts l).length = l.length := by simp [nts]
@[simp] theorem nts_getElem (l : List Nt) (k : Nat) (h : k < (nts l).length) : (nts l)[k] = [I (l[k]'(by simpa using h)).s, I (l[k]'(by simpa using h)).k, SB (l[k]'(by simpa using h)).p, I (l[k]'(by simpa using h)).r, I (l[k]'(by simpa using h)).e, I (l[k]'(by simpa using h)).n] := by simp [nts, Nt.c]
theorem nts_get {l : List Nt} {k : Nat} (h : k < l.length) : (nts l)[k]? = some [I l[k].s, I l[k].k, SB l[k].p, I l[k].r, I l[k].e, I l[k].n] := by simp [nts, h, Nt.c]
theorem nts_snoc (l : List Nt) (x : Nt) : nts l ++ [[I x.s, I x.k, SB x.p, I x.r, I x.e, I x.n]] = nts (l ++ [x]) := by simp [nts, Nt.c]
def note (a b : Ws) (w : Wt) : Nt := ⟨w.s, w.k, w.p, told w a b, b.ae, b.an⟩
def stay (a b : Ws) (l : List Wt) : List Wt := l.filter fun w => decide (told w a b = 0)
def tolds (a b : Ws) (l : List Wt) : List Nt := (l.filter fun w => !decide (told w a b = 0)).map (note a b)
theorem stay_snoc (a b : Ws) {l : List Wt} {k : Nat} (h : k < l.length) : stay a b (l.take (k + 1)) = if told l[k] a b = 0 then stay a b (l.take k) ++ [l[k]] else stay a b (l.take k) := by
  rw [List.take_succ_eq_append_getElem h, stay, List.filter_append]
  by_cases g : told l[k] a b = 0 <;> simp [g, stay]
theorem tolds_snoc (a b : Ws) {l : List Wt} {k : Nat} (h : k < l.length) : tolds a b (l.take (k + 1)) = if told l[k] a b = 0 then tolds a b (l.take k) else tolds a b (l.take k) ++ [note a b l[k]] := by
  rw [List.take_succ_eq_append_getElem h, tolds, List.filter_append]
  by_cases g : told l[k] a b = 0 <;> simp [g, tolds]
theorem stay_len (a b : Ws) (l : List Wt) (k : Nat) : (stay a b (l.take k)).length ≤ k := Nat.le_trans (List.length_filter_le _ _) (by simp; omega)
theorem tolds_len (a b : Ws) (l : List Wt) (k : Nat) : (tolds a b (l.take k)).length ≤ k := by
  unfold tolds
  rw [List.length_map]
  exact Nat.le_trans (List.length_filter_le _ _) (by simp; omega)
structure Fit (a : Ws) : Prop where
  len : a.l.length ≤ 1000000
  long : ∀ z ∈ a.l, long z
def wbox (a : Ws) : Blk := .box 31 [.p (.sl 5 (zns a.l)), .p (.sl 1 a.ss), .p (I a.nx), .p (I a.e), .p (I a.n), .p (I a.k), .p (.sl 4 a.ms), .p (I a.ae), .p (I a.an)]
def nbx (v : V) : Blk := .box 35 [v]
theorem fire0_con (w : Wt) (a b : Ws) (ha : Fit a) (hb : Fit b) (h : told w a b = 0) : Con Try.prog 11 [.p (.agg w.c), .ptr 1024 0, .ptr 1025 0, .ptr 1026 0] [wbox a, wbox b, nbx (.nil 6)] (.ret (.p (B true)) [] [wbox a, wbox b, nbx (.nil 6)]) := by
  have c := told_con w a b ha.len hb.len ha.long hb.long
  rw [h] at c
  unfold wbox nbx Wt.c
  unfold Wt.c Ws.c at c
  generalize zns a.l = L1 at c ⊢
  generalize zns b.l = L2 at c ⊢
  refine wBodyG Try.tab Try.mixed Try.func11 rfl rfl Try.ntmps11 (by simp) (by simp) fun Q hr hn hp => ?_
  repeat' first | (refine hK _ ?_; clear hK) | (refine hK _ _ ?_; clear hK) | (clear hK; refine hK _ ?_; clear hK) | (clear hK; clear hK; refine hK _ ?_; clear hK) | (clear hK; clear hK; clear hK; refine hK _ ?_; clear hK) | (clear hK; clear hK; clear hK; clear hK; refine hK _ ?_; clear hK) | (refine wSeq fun K hK => ?_) | ((first | refine wReg ?_ | refine wDrwQ rfl (by kernel_rfl) ?_ | refine wDrwI ?_ | refine wDrw (by kernel_rfl) ?_); simp only [List.map_cons, List.map_nil, strip]) | ((first | refine wIs fun K hK => ?_ | refine wOs fun K hK => ?_ | refine wQs fun K hK => ?_ | refine CallK_plain ?_ | refine CallQ_plain ?_ | refine CallR_plain ?_ | refine wCond ?_); simp) | (refine wIn ?_; refine And.intro (by kernel_rfl) ?_; try simp only [thenA_n]) | (first | refine wBlock ?_ | refine wScope ?_) | ((first | refine wRet ?_ | refine wExit ?_ | refine wSkip ?_); try simp) | ((first | refine wLabel ?_ | refine wOn ?_ | refine wQn ?_); try simp only [thenA_n]) | (refine CallE.pure (c) rfl ?_) | (refine CallE.lent (c) rfl ?_) | (refine CallF.pure (c) rfl ?_) | (refine CallF.lent (c) rfl ?_) | (refine CallE.own (c) ?_) | (refine CallH.pure (c) rfl ?_) | (refine CallH.lent (c) rfl ?_) | (refine CallH.own (c) ?_)
  all_goals apply hr
  all_goals refine ⟨[], by simp, by simp, ?_⟩
  all_goals simp [Try.f11, outR, outB, renB, gaN]
theorem fire1_con (w : Wt) (a b : Ws) (N : List Nt) (ha : Fit a) (hb : Fit b) (h : told w a b = 0) : Con Try.prog 11 [.p (.agg w.c), .ptr 1024 0, .ptr 1025 0, .ptr 1026 0] [wbox a, wbox b, nbx (.row 1027), .row 41 6 (nts N)] (.ret (.p (B true)) [] [wbox a, wbox b, nbx (.row 1027), .row 41 6 (nts N)]) := by
  have c := told_con w a b ha.len hb.len ha.long hb.long
  rw [h] at c
  unfold wbox nbx Wt.c
  unfold Wt.c Ws.c at c
  generalize zns a.l = L1 at c ⊢
  generalize zns b.l = L2 at c ⊢
  refine wBodyG Try.tab Try.mixed Try.func11 rfl rfl Try.ntmps11 (by simp) (by simp) fun Q hr hn hp => ?_
  repeat' first | (refine hK _ ?_; clear hK) | (refine hK _ _ ?_; clear hK) | (clear hK; refine hK _ ?_; clear hK) | (clear hK; clear hK; refine hK _ ?_; clear hK) | (clear hK; clear hK; clear hK; refine hK _ ?_; clear hK) | (clear hK; clear hK; clear hK; clear hK; refine hK _ ?_; clear hK) | (refine wSeq fun K hK => ?_) | ((first | refine wReg ?_ | refine wDrwQ rfl (by kernel_rfl) ?_ | refine wDrwI ?_ | refine wDrw (by kernel_rfl) ?_); simp only [List.map_cons, List.map_nil, strip]) | ((first | refine wIs fun K hK => ?_ | refine wOs fun K hK => ?_ | refine wQs fun K hK => ?_ | refine CallK_plain ?_ | refine CallQ_plain ?_ | refine CallR_plain ?_ | refine wCond ?_); simp) | (refine wIn ?_; refine And.intro (by kernel_rfl) ?_; try simp only [thenA_n]) | (first | refine wBlock ?_ | refine wScope ?_) | ((first | refine wRet ?_ | refine wExit ?_ | refine wSkip ?_); try simp) | ((first | refine wLabel ?_ | refine wOn ?_ | refine wQn ?_); try simp only [thenA_n]) | (refine CallE.pure (c) rfl ?_) | (refine CallE.lent (c) rfl ?_) | (refine CallF.pure (c) rfl ?_) | (refine CallF.lent (c) rfl ?_) | (refine CallE.own (c) ?_) | (refine CallH.pure (c) rfl ?_) | (refine CallH.lent (c) rfl ?_) | (refine CallH.own (c) ?_)
  all_goals apply hr
  all_goals refine ⟨[], by simp, by simp, ?_⟩
  all_goals simp [Try.f11, outR, outB, renB, gaN]
theorem fire2_con (w : Wt) (a b : Ws) (ha : Fit a) (hb : Fit b) (h : ¬ told w a b = 0) : Con Try.prog 11 [.p (.agg w.c), .ptr 1024 0, .ptr 1025 0, .ptr 1026 0] [wbox a, wbox b, nbx (.nil 6)] (.ret (.p (B false)) [.row 41 6 (nts [note a b w])] [wbox a, wbox b, nbx (.row 2048)]) := by
  have c := told_con w a b ha.len hb.len ha.long hb.long
  rw [show nts [note a b w] = [[I w.s, I w.k, SB w.p, I (told w a b), I b.ae, I b.an]] from rfl]
  generalize told w a b = r at c h ⊢
  unfold wbox nbx Wt.c
  unfold Wt.c Ws.c at c
  generalize zns a.l = L1 at c ⊢
  generalize zns b.l = L2 at c ⊢
  refine wBodyG Try.tab Try.mixed Try.func11 rfl rfl Try.ntmps11 (by simp) (by simp) fun Q hr hn hp => ?_
  repeat' first | (refine hK _ ?_; clear hK) | (refine hK _ _ ?_; clear hK) | (clear hK; refine hK _ ?_; clear hK) | (clear hK; clear hK; refine hK _ ?_; clear hK) | (clear hK; clear hK; clear hK; refine hK _ ?_; clear hK) | (clear hK; clear hK; clear hK; clear hK; refine hK _ ?_; clear hK) | (refine wSeq fun K hK => ?_) | ((first | refine wReg ?_ | refine wDrwQ rfl (by kernel_rfl) ?_ | refine wDrwI ?_ | refine wDrw (by kernel_rfl) ?_); simp only [List.map_cons, List.map_nil, strip]) | ((first | refine wIs fun K hK => ?_ | refine wOs fun K hK => ?_ | refine wQs fun K hK => ?_ | refine CallK_plain ?_ | refine CallQ_plain ?_ | refine CallR_plain ?_ | refine wCond ?_); simp [h]) | (refine wIn ?_; refine And.intro (by kernel_rfl) ?_; try simp only [thenA_n]) | (first | refine wBlock ?_ | refine wScope ?_) | ((first | refine wRet ?_ | refine wExit ?_ | refine wSkip ?_); try simp) | ((first | refine wLabel ?_ | refine wOn ?_ | refine wQn ?_); try simp only [thenA_n]) | (refine CallE.pure (c) rfl ?_) | (refine CallE.lent (c) rfl ?_) | (refine CallF.pure (c) rfl ?_) | (refine CallF.lent (c) rfl ?_) | (refine CallE.own (c) ?_) | (refine CallH.pure (c) rfl ?_) | (refine CallH.lent (c) rfl ?_) | (refine CallH.own (c) ?_)
  all_goals apply hr
  all_goals refine ⟨[25], by simp, by simp, ?_⟩
  all_goals simp [Try.f11, outR, outB, renB, gaN]
theorem fire3_con (w : Wt) (a b : Ws) (N : List Nt) (ha : Fit a) (hb : Fit b) (hN : N.length ≤ 1000000) (h : ¬ told w a b = 0) : Con Try.prog 11 [.p (.agg w.c), .ptr 1024 0, .ptr 1025 0, .ptr 1026 0] [wbox a, wbox b, nbx (.row 1027), .row 41 6 (nts N)] (.ret (.p (B false)) [] [wbox a, wbox b, nbx (.row 1027), .row 41 6 (nts (N ++ [note a b w]))]) := by
  have c := told_con w a b ha.len hb.len ha.long hb.long
  have hx := nts_snoc N (note a b w)
  unfold note at hx ⊢
  dsimp only at hx
  have hl := nts_len N
  rw [← hx]
  generalize told w a b = r at c h ⊢
  unfold wbox nbx Wt.c
  unfold Wt.c Ws.c at c
  generalize zns a.l = L1 at c ⊢
  generalize zns b.l = L2 at c ⊢
  refine wBodyG Try.tab Try.mixed Try.func11 rfl rfl Try.ntmps11 (by simp) (by simp) fun Q hr hn hp => ?_
  repeat' first | (refine And.intro (by (try simp); omega) ?_) | (refine hK _ ?_; clear hK) | (refine hK _ _ ?_; clear hK) | (clear hK; refine hK _ ?_; clear hK) | (clear hK; clear hK; refine hK _ ?_; clear hK) | (clear hK; clear hK; clear hK; refine hK _ ?_; clear hK) | (clear hK; clear hK; clear hK; clear hK; refine hK _ ?_; clear hK) | (refine wSeq fun K hK => ?_) | ((first | refine wReg ?_ | refine wDrwQ rfl (by kernel_rfl) ?_ | refine wDrwI ?_ | refine wDrw (by kernel_rfl) ?_); simp only [List.map_cons, List.map_nil, strip]) | ((first | refine wIs fun K hK => ?_ | refine wOs fun K hK => ?_ | refine wQs fun K hK => ?_ | refine CallK_plain ?_ | refine CallQ_plain ?_ | refine CallR_plain ?_ | refine wCond ?_); simp [h]) | (refine wIn ?_; refine And.intro (by kernel_rfl) ?_; try simp only [thenA_n]) | (first | refine wBlock ?_ | refine wScope ?_) | ((first | refine wRet ?_ | refine wExit ?_ | refine wSkip ?_); try simp) | ((first | refine wLabel ?_ | refine wOn ?_ | refine wQn ?_); try simp only [thenA_n]) | (refine CallE.pure (c) rfl ?_) | (refine CallE.lent (c) rfl ?_) | (refine CallF.pure (c) rfl ?_) | (refine CallF.lent (c) rfl ?_) | (refine CallE.own (c) ?_) | (refine CallH.pure (c) rfl ?_) | (refine CallH.lent (c) rfl ?_) | (refine CallH.own (c) ?_)
  all_goals apply hr
  all_goals refine ⟨[], by simp, by simp, ?_⟩
  all_goals simp [Try.f11, outR, outB, renB, gaN]
end Go.Proofs.Ytkeopdjnidmaeaa
