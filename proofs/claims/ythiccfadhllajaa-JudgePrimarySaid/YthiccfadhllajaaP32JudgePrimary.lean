/- Texts that the proof needs: IX XC XL XM NG NH XN XO JX1 JX2 JY1 JYO. -/
import Derived.Test.YthiccfadhllajaaP19JudgePrimary
import Derived.Test.YthiccfadhllajaaP31JudgePrimary
import Derived.Test.YthiccfadhllajaaP13JudgePrimary
import Derived.WalkKit
import Derived.Deep.RegionLaw
import Derived.Test.YthiccfadhllajaaP30JudgePrimary
import Derived.Test.YthiccfadhllajaaP17JudgePrimary
import Derived.Test.YthiccfadhllajaaP23JudgePrimary
import Derived.Test.YthiccfadhllajaaP25JudgePrimary
import Derived.Test.YthiccfadhllajaaP29JudgePrimary
import Derived.Test.YthiccfadhllajaaP28JudgePrimary
namespace Go.Proofs.Ythiccfadhllajaa
set_option linter.unusedSimpArgs false
set_option linter.unusedVariables false
open Go Go.Av Go.Lib Go.RowKit
end Go.Proofs.Ythiccfadhllajaa
namespace Go.Proofs.Ythiccfadhllajaa
set_option linter.unusedSimpArgs false
set_option linter.unusedVariables false
open Go Go.Av
attribute [local irreducible] Go.Av.CallK Go.Av.CallE Go.Av.CallQ Go.Av.CallF Go.Av.CallR Go.Av.CallH Go.Av.Con
end Go.Proofs.Ythiccfadhllajaa
namespace Go.Proofs.Ythiccfadhllajaa
set_option linter.unusedSimpArgs false
set_option linter.unusedVariables false
open Go Go.Av
end Go.Proofs.Ythiccfadhllajaa
namespace Go.Proofs.Ythiccfadhllajaa
set_option linter.unusedSimpArgs false
set_option linter.unusedVariables false
open Go Go.Av
attribute [local irreducible] Go.Av.CallK Go.Av.CallE Go.Av.CallQ Go.Av.CallF Go.Av.CallR Go.Av.CallH Go.Av.Con
def okC (c : Cf) : Prop := c.ms.length <= 4398046510976
def startS (c : Cf) : Sv := ⟨[⟨[47], [], 0, 0, 0⟩], [], 1, c, 0, 0⟩
theorem start_con (c : Cf) (hc : okC c) : ACon Try.prog 53 [.p (.agg c.cells)] (.p (.agg (startS c).cells)) := by
 have c1 := root_con
 have c2 := ownConfig_con c.ep c.n c.kind (mbs c.ms) (by rw [mbs_len]; exact hc)
 unfold startS Sv.cells Cf.cells
 dsimp only
 generalize zns [⟨[47], [], 0, 0, 0⟩] = r at c1 ⊢
 rw [show ints [] = [] from rfl]
 refine wBody Try.tab Try.mixed Try.func53 rfl rfl Try.ntmps53 (by simp) (by simp) fun Q hr hn => ?_
 repeat' first | (refine hK _ ?_; clear hK) | (refine hK _ _ ?_; clear hK) | (clear hK; refine hK _ ?_; clear hK) | (clear hK; clear hK; refine hK _ ?_; clear hK) | (clear hK; clear hK; clear hK; refine hK _ ?_; clear hK) | (clear hK; clear hK; clear hK; clear hK; refine hK _ ?_; clear hK) | (refine wSeq fun K hK => ?_) | ((first | refine wReg ?_ | refine wDrwQ rfl (by kernel_rfl) ?_ | refine wDrwI ?_ | refine wDrw (by kernel_rfl) ?_); simp only [List.map_cons, List.map_nil, strip]) | ((first | refine wIs fun K hK => ?_ | refine wOs fun K hK => ?_ | refine wQs fun K hK => ?_ | refine CallK_plain ?_ | refine CallQ_plain ?_ | refine CallR_plain ?_ | refine wCond ?_); simp) | (refine wIn ?_; refine And.intro (by kernel_rfl) ?_; try simp only [thenA_n]) | (first | refine wBlock ?_ | refine wScope ?_) | ((first | refine wRet ?_ | refine wExit ?_ | refine wSkip ?_); try simp) | ((first | refine wLabel ?_ | refine wOn ?_ | refine wQn ?_); try simp only [thenA_n]) | (refine CallE.pure (c1) rfl ?_) | (refine CallE.lent (c1) rfl ?_) | (refine CallF.pure (c1) rfl ?_) | (refine CallF.lent (c1) rfl ?_) | (refine CallE.own (c1) ?_) | (refine CallH.pure (c1) rfl ?_) | (refine CallH.lent (c1) rfl ?_) | (refine CallH.own (c1) ?_) | (refine CallE.pure (c2) rfl ?_) | (refine CallE.lent (c2) rfl ?_) | (refine CallF.pure (c2) rfl ?_) | (refine CallF.lent (c2) rfl ?_) | (refine CallE.own (c2) ?_) | (refine CallH.pure (c2) rfl ?_) | (refine CallH.lent (c2) rfl ?_) | (refine CallH.own (c2) ?_)
 all_goals apply hr
 all_goals simp [Try.f53]
structure Fits (s : Sv) (n : Nat) : Prop where
 ns : s.ns.length + n <= 1000000
 ss : s.ss.length + n <= 1000000
 c : okC s.c
theorem Fits.le {s : Sv} {n m : Nat} (h : Fits s n) (hm : m <= n) : Fits s m := ⟨by have := h.ns; omega, by have := h.ss; omega, h.c⟩
end Go.Proofs.Ythiccfadhllajaa
namespace Go.Proofs.Ythiccfadhllajaa
set_option linter.unusedSimpArgs false
set_option linter.unusedVariables false
set_option maxRecDepth 8000
open Go Go.Av
attribute [local irreducible] Go.Av.CallK Go.Av.CallE Go.Av.CallQ Go.Av.CallF Go.Av.CallR Go.Av.CallH Go.Av.Con
abbrev trC (X : List (List PV)) : List V := [.p (.sl 58 []), .p (.sl 8 []), .p (.sl 9 X), .junk, .junk, .junk, .nil 2, .nil 1, .p (I 0), .p (I 0), .p (I 0), .p (I 0), .p (I 0), .p (I 0), .p (I 0), .p (I 0)]
abbrev trM (X : List (List PV)) : List V := [.p (.sl 58 []), .p (.sl 8 []), .p (.sl 9 X), .row 23, .row 26, .row 27, .nil 2, .nil 1, .p (I 0), .p (I 0), .p (I 0), .p (I 0), .p (I 0), .p (I 0), .p (I 0), .p (I 0)]
set_option maxHeartbeats 4000000 in
theorem gather0_con (X : List (List PV)) : Con Try.prog 55 [.ptr 1024 0] [.box 115 (trC X)] (.ret (.tup []) [] [.box 115 (trC X)]) := by
 unfold trC
 refine wBodyG Try.tab Try.mixed Try.func55 rfl rfl Try.ntmps55 (by simp) (by simp) fun Q hr hn hp => ?_
 repeat' first | (refine hK _ ?_; clear hK) | (refine hK _ _ ?_; clear hK) | (clear hK; refine hK _ ?_; clear hK) | (clear hK; clear hK; refine hK _ ?_; clear hK) | (clear hK; clear hK; clear hK; refine hK _ ?_; clear hK) | (clear hK; clear hK; clear hK; clear hK; refine hK _ ?_; clear hK) | (refine wSeq fun K hK => ?_) | ((first | refine wReg ?_ | refine wDrwQ rfl (by kernel_rfl) ?_ | refine wDrwI ?_ | refine wDrw (by kernel_rfl) ?_); simp only [List.map_cons, List.map_nil, strip]) | ((first | refine wIs fun K hK => ?_ | refine wOs fun K hK => ?_ | refine wQs fun K hK => ?_ | refine CallK_plain ?_ | refine CallQ_plain ?_ | refine CallR_plain ?_ | refine wCond ?_); simp) | (refine wIn ?_; refine And.intro (by kernel_rfl) ?_; try simp only [thenA_n]) | (first | refine wBlock ?_ | refine wScope ?_) | ((first | refine wRet ?_ | refine wExit ?_ | refine wSkip ?_); try simp) | ((first | refine wLabel ?_ | refine wOn ?_ | refine wQn ?_); try simp only [thenA_n])
 refine wLoop (fun N st => st.b 1024 = some (.box 115 (trC X)) /\ st.s 11 = .p (.sl 58 []) /\ st.s 12 = .p (I 0) /\ st.s 13 = .p (I 0)) 0 (by simp [trC]) fun K N st hL ⟨b0, g11, g12, g13⟩ => ?_
 unfold trC at b0
 repeat' first | (refine hK _ ?_; clear hK) | (refine hK _ _ ?_; clear hK) | (clear hK; refine hK _ ?_; clear hK) | (clear hK; clear hK; refine hK _ ?_; clear hK) | (clear hK; clear hK; clear hK; refine hK _ ?_; clear hK) | (clear hK; clear hK; clear hK; clear hK; refine hK _ ?_; clear hK) | (refine wSeq fun K hK => ?_) | ((first | refine wReg ?_ | refine wDrwQ rfl (by kernel_rfl) ?_ | refine wDrwI ?_ | refine wDrw (by kernel_rfl) ?_); simp only [List.map_cons, List.map_nil, strip]) | ((first | refine wIs fun K hK => ?_ | refine wOs fun K hK => ?_ | refine wQs fun K hK => ?_ | refine CallK_plain ?_ | refine CallQ_plain ?_ | refine CallR_plain ?_ | refine wCond ?_); simp [b0, g11, g12, g13]) | (refine wIn ?_; refine And.intro (by kernel_rfl) ?_; try simp only [thenA_n]) | (first | refine wBlock ?_ | refine wScope ?_) | ((first | refine wRet ?_ | refine wExit ?_ | refine wSkip ?_); try simp) | ((first | refine wLabel ?_ | refine wOn ?_ | refine wQn ?_); try simp only [thenA_n])
 all_goals first | apply hn | apply hr
 all_goals refine ⟨[], by simp, by simp, ?_⟩
 all_goals simp [Try.f55, outR, outB, renB, gaN, b0]
set_option maxHeartbeats 8000000 in
theorem newTrial0_con : ∃ X, Con Try.prog 36 [.p (.agg [I 0, I 0, I 0, .sl 4 []]), .p (.sl 58 []), .p (.sl 8 [])] [] (.ret (.ptr 2048 0) [.box 115 (trC X)] []) := by
 have cs := start_con ⟨0, 0, 0, []⟩ (by simp [okC])
 refine ⟨[(startS ⟨0, 0, 0, []⟩).cells], ?_⟩
 have cg := gather0_con [(startS ⟨0, 0, 0, []⟩).cells]
 unfold trC at cg ⊢
 unfold Sv.cells at *
 generalize startS ⟨0, 0, 0, []⟩ = s at *
 change ACon _ _ [.p (.agg [I 0, I 0, I 0, .sl 4 []])] _ at cs
 refine wBodyG Try.tab Try.mixed Try.func36 rfl rfl Try.ntmps36 (by simp) (by simp) fun Q hr hn hp => ?_
 repeat' first | (refine hK _ ?_; clear hK) | (refine hK _ _ ?_; clear hK) | (clear hK; refine hK _ ?_; clear hK) | (clear hK; clear hK; refine hK _ ?_; clear hK) | (clear hK; clear hK; clear hK; refine hK _ ?_; clear hK) | (clear hK; clear hK; clear hK; clear hK; refine hK _ ?_; clear hK) | (refine wSeq fun K hK => ?_) | ((first | refine wReg ?_ | refine wDrwQ rfl (by kernel_rfl) ?_ | refine wDrwI ?_ | refine wDrw (by kernel_rfl) ?_); simp only [List.map_cons, List.map_nil, strip]) | ((first | refine wIs fun K hK => ?_ | refine wOs fun K hK => ?_ | refine wQs fun K hK => ?_ | refine CallK_plain ?_ | refine CallQ_plain ?_ | refine CallR_plain ?_ | refine wCond ?_); simp) | (refine wIn ?_; refine And.intro (by kernel_rfl) ?_; try simp only [thenA_n]) | (first | refine wBlock ?_ | refine wScope ?_) | ((first | refine wRet ?_ | refine wExit ?_ | refine wSkip ?_); try simp) | ((first | refine wLabel ?_ | refine wOn ?_ | refine wQn ?_); try simp only [thenA_n]) | (refine CallE.pure (cs) rfl ?_) | (refine CallE.lent (cs) rfl ?_) | (refine CallF.pure (cs) rfl ?_) | (refine CallF.lent (cs) rfl ?_) | (refine CallE.own (cs) ?_) | (refine CallH.pure (cs) rfl ?_) | (refine CallH.lent (cs) rfl ?_) | (refine CallH.own (cs) ?_)
 refine wLoop (fun N st => st.b 29 = some (.box 115 (trM [[.sl 5 (zns s.ns), .sl 1 (ints s.ss), I s.nx, I s.c.ep, I s.c.n, I s.c.kind, .sl 4 (mbs s.c.ms), I s.ae, I s.an]])) /\ st.s 7 = .ptr 29 0 /\ st.s 1 = .p (.sl 58 []) /\ st.s 31 = .p (I 0) /\ st.s 32 = .p (I 0)) 0 (by simp [trM]) fun K N st hL ⟨b29, g7, g1, g31, g32⟩ => ?_
 unfold trM at b29
 repeat' first | (refine hK _ ?_; clear hK) | (refine hK _ _ ?_; clear hK) | (clear hK; refine hK _ ?_; clear hK) | (clear hK; clear hK; refine hK _ ?_; clear hK) | (clear hK; clear hK; clear hK; refine hK _ ?_; clear hK) | (clear hK; clear hK; clear hK; clear hK; refine hK _ ?_; clear hK) | (refine wSeq fun K hK => ?_) | ((first | refine wReg ?_ | refine wDrwQ rfl (by kernel_rfl) ?_ | refine wDrwI ?_ | refine wDrw (by kernel_rfl) ?_); simp only [List.map_cons, List.map_nil, strip]) | ((first | refine wIs fun K hK => ?_ | refine wOs fun K hK => ?_ | refine wQs fun K hK => ?_ | refine CallK_plain ?_ | refine CallQ_plain ?_ | refine CallR_plain ?_ | refine wCond ?_); simp [b29, g7, g1, g31, g32]) | (refine wIn ?_; refine And.intro (by kernel_rfl) ?_; try simp only [thenA_n]) | (first | refine wBlock ?_ | refine wScope ?_) | ((first | refine wRet ?_ | refine wExit ?_ | refine wSkip ?_); try simp) | ((first | refine wLabel ?_ | refine wOn ?_ | refine wQn ?_); try simp only [thenA_n])
 refine wLoop (fun N st => st.b 29 = some (.box 115 (trM [[.sl 5 (zns s.ns), .sl 1 (ints s.ss), I s.nx, I s.c.ep, I s.c.n, I s.c.kind, .sl 4 (mbs s.c.ms), I s.ae, I s.an]])) /\ st.s 7 = .ptr 29 0 /\ st.s 1 = .p (.sl 58 []) /\ st.s 85 = .p (I 0) /\ st.s 86 = .p (I 0)) 0 (by simp [trM, b29, g7, g1]) fun K N st hL ⟨b29, g7, g1, g31, g32⟩ => ?_
 unfold trM at b29
 repeat' first | (refine CallK_gen [29] (cg) (by decide) (by decide) (by simp [blksOf, inN, pos, renB, renC, renCs, ren0, lv, ouN, kpI, kpR, b29]) (by simp [argsG, argG, ren0, inN, pos, renCs, renC, b29]) ⟨[], by simp, by simp, ?_⟩; simp [lv, ouN, kpI, kpR, pos, ren, ren0, renB, renC, renCs, renF, renFs, b29]) | (refine hK _ ?_; clear hK) | (refine hK _ _ ?_; clear hK) | (clear hK; refine hK _ ?_; clear hK) | (clear hK; clear hK; refine hK _ ?_; clear hK) | (clear hK; clear hK; clear hK; refine hK _ ?_; clear hK) | (clear hK; clear hK; clear hK; clear hK; refine hK _ ?_; clear hK) | (refine wSeq fun K hK => ?_) | ((first | refine wReg ?_ | refine wDrwQ rfl (by kernel_rfl) ?_ | refine wDrwI ?_ | refine wDrw (by kernel_rfl) ?_); simp only [List.map_cons, List.map_nil, strip]) | ((first | refine wIs fun K hK => ?_ | refine wOs fun K hK => ?_ | refine wQs fun K hK => ?_ | refine CallK_plain ?_ | refine CallQ_plain ?_ | refine CallR_plain ?_ | refine wCond ?_); simp [b29, g7, g1, g31, g32]) | (refine wIn ?_; refine And.intro (by kernel_rfl) ?_; try simp only [thenA_n]) | (first | refine wBlock ?_ | refine wScope ?_) | ((first | refine wRet ?_ | refine wExit ?_ | refine wSkip ?_); try simp) | ((first | refine wLabel ?_ | refine wOn ?_ | refine wQn ?_); try simp only [thenA_n])
 all_goals first | apply hn | apply hr
 all_goals refine ⟨[29], by simp, by simp, ?_⟩
 all_goals simp [Try.f36, outR, outB, renB, gaN, b29]
set_option maxHeartbeats 4000000 in
theorem linear0_con : ACon Try.prog 28 [.p (.agg [I 0, I 0, I 0, .sl 4 []]), .p (.sl 58 [])] (.p (B true)) := by
 have cl : ACon Try.prog 11 [.p (.sl 58 [])] (.tup [.p (.sl 8 []), .p (B true)]) := log_con [] (by simp) (by simp) (by simp) (fun T h => by simp only [logP, List.foldl_nil, Option.some.injEq] at h; subst h; simp)
 obtain ⟨X, ct⟩ := newTrial0_con
 unfold trC at ct
 refine wBody Try.tab Try.mixed Try.func28 rfl rfl Try.ntmps28 (by simp) (by simp) fun Q hr hn => ?_
 repeat' first | (refine CallE.pure (cl) rfl ?_) | (refine CallE.lent (cl) rfl ?_) | (refine CallF.pure (cl) rfl ?_) | (refine CallF.lent (cl) rfl ?_) | (refine CallE.own (cl) ?_) | (refine CallH.pure (cl) rfl ?_) | (refine CallH.lent (cl) rfl ?_) | (refine CallH.own (cl) ?_) | (refine CallK_gen [] (ct) (by decide) (by decide) (by simp [blksOf]) (by simp [argsG, argG, ren0, inN, pos, renCs, renC, toP, toPF]) ⟨[500], by simp, by simp, ?_⟩; simp [lv, ouN, kpI, kpR, pos, ren, ren0, renB, renC, renCs, renF, renFs]) | (refine hK _ ?_; clear hK) | (refine hK _ _ ?_; clear hK) | (clear hK; refine hK _ ?_; clear hK) | (clear hK; clear hK; refine hK _ ?_; clear hK) | (clear hK; clear hK; clear hK; refine hK _ ?_; clear hK) | (clear hK; clear hK; clear hK; clear hK; refine hK _ ?_; clear hK) | (refine wSeq fun K hK => ?_) | ((first | refine wReg ?_ | refine wDrwQ rfl (by kernel_rfl) ?_ | refine wDrwI ?_ | refine wDrw (by kernel_rfl) ?_); simp only [List.map_cons, List.map_nil, strip]) | ((first | refine wIs fun K hK => ?_ | refine wOs fun K hK => ?_ | refine wQs fun K hK => ?_ | refine CallK_plain ?_ | refine CallQ_plain ?_ | refine CallR_plain ?_ | refine wCond ?_); simp) | (refine wIn ?_; refine And.intro (by kernel_rfl) ?_; try simp only [thenA_n]) | (first | refine wBlock ?_ | refine wScope ?_) | ((first | refine wRet ?_ | refine wExit ?_ | refine wSkip ?_); try simp) | ((first | refine wLabel ?_ | refine wOn ?_ | refine wQn ?_); try simp only [thenA_n])
 refine wLoop (fun N st => st.s 21 = .p (.sl 58 []) /\ st.s 22 = .p (I 0) /\ st.s 23 = .p (I 0)) 0 (by simp) fun K N st hL ⟨g21, g22, g23⟩ => ?_
 repeat' first | (refine hK _ ?_; clear hK) | (refine hK _ _ ?_; clear hK) | (clear hK; refine hK _ ?_; clear hK) | (clear hK; clear hK; refine hK _ ?_; clear hK) | (clear hK; clear hK; clear hK; refine hK _ ?_; clear hK) | (clear hK; clear hK; clear hK; clear hK; refine hK _ ?_; clear hK) | (refine wSeq fun K hK => ?_) | ((first | refine wReg ?_ | refine wDrwQ rfl (by kernel_rfl) ?_ | refine wDrwI ?_ | refine wDrw (by kernel_rfl) ?_); simp only [List.map_cons, List.map_nil, strip]) | ((first | refine wIs fun K hK => ?_ | refine wOs fun K hK => ?_ | refine wQs fun K hK => ?_ | refine CallK_plain ?_ | refine CallQ_plain ?_ | refine CallR_plain ?_ | refine wCond ?_); simp [g21, g22, g23]) | (refine wIn ?_; refine And.intro (by kernel_rfl) ?_; try simp only [thenA_n]) | (first | refine wBlock ?_ | refine wScope ?_) | ((first | refine wRet ?_ | refine wExit ?_ | refine wSkip ?_); try simp) | ((first | refine wLabel ?_ | refine wOn ?_ | refine wQn ?_); try simp only [thenA_n])
 all_goals apply hr
 all_goals simp [Try.f28]
theorem ch0 : chainB [] = true := by decide
theorem pr0 : primB [] = true := by decide
theorem judge0_con : ACon Try.prog 19 [.p (.agg [I 0, I 0, I 0, .sl 4 []]), .p (.sl 58 [])] (.p (I 0)) := by
 have cl : ACon Try.prog 11 [.p (.sl 58 (fas []))] (logT []) := log_con [] (by simp) (by simp) (by simp) (fun T h => by simp only [logP, List.foldl_nil, Option.some.injEq] at h; subst h; simp)
 have cc := chain_con [] cl (by simp) (by simp)
 have cp := prim_con [] (by simp) (by simp)
 have c0 := linear0_con
 rw [ch0] at cc
 rw [pr0] at cp
 change ACon _ _ [.p (.sl 58 [])] _ at cc
 change ACon _ _ [.p (.sl 58 [])] _ at cp
 refine wBody Try.tab Try.mixed Try.func19 rfl rfl Try.ntmps19 (by simp) (by simp) fun Q hr hn => ?_
 repeat' first | (refine hK _ ?_; clear hK) | (refine hK _ _ ?_; clear hK) | (clear hK; refine hK _ ?_; clear hK) | (clear hK; clear hK; refine hK _ ?_; clear hK) | (clear hK; clear hK; clear hK; refine hK _ ?_; clear hK) | (clear hK; clear hK; clear hK; clear hK; refine hK _ ?_; clear hK) | (refine wSeq fun K hK => ?_) | ((first | refine wReg ?_ | refine wDrwQ rfl (by kernel_rfl) ?_ | refine wDrwI ?_ | refine wDrw (by kernel_rfl) ?_); simp only [List.map_cons, List.map_nil, strip]) | ((first | refine wIs fun K hK => ?_ | refine wOs fun K hK => ?_ | refine wQs fun K hK => ?_ | refine CallK_plain ?_ | refine CallQ_plain ?_ | refine CallR_plain ?_ | refine wCond ?_); simp) | (refine wIn ?_; refine And.intro (by kernel_rfl) ?_; try simp only [thenA_n]) | (first | refine wBlock ?_ | refine wScope ?_) | ((first | refine wRet ?_ | refine wExit ?_ | refine wSkip ?_); try simp) | ((first | refine wLabel ?_ | refine wOn ?_ | refine wQn ?_); try simp only [thenA_n]) | (refine CallE.pure (cc) rfl ?_) | (refine CallE.lent (cc) rfl ?_) | (refine CallF.pure (cc) rfl ?_) | (refine CallF.lent (cc) rfl ?_) | (refine CallE.own (cc) ?_) | (refine CallH.pure (cc) rfl ?_) | (refine CallH.lent (cc) rfl ?_) | (refine CallH.own (cc) ?_) | (refine CallE.pure (cp) rfl ?_) | (refine CallE.lent (cp) rfl ?_) | (refine CallF.pure (cp) rfl ?_) | (refine CallF.lent (cp) rfl ?_) | (refine CallE.own (cp) ?_) | (refine CallH.pure (cp) rfl ?_) | (refine CallH.lent (cp) rfl ?_) | (refine CallH.own (cp) ?_) | (refine CallE.pure (c0) rfl ?_) | (refine CallE.lent (c0) rfl ?_) | (refine CallF.pure (c0) rfl ?_) | (refine CallF.lent (c0) rfl ?_) | (refine CallE.own (c0) ?_) | (refine CallH.pure (c0) rfl ?_) | (refine CallH.lent (c0) rfl ?_) | (refine CallH.own (c0) ?_)
 all_goals apply hr
 all_goals simp [Try.f19]
def rest44 : List PV := [I 0, I 0, I 0, .sl 6 [], I 0, .sl 4 [], .sl 1 [], I 0, I 0, I 0, SB [], I 0, I 0, I 0, I 0, I 0, I 0, I 0, I 0, I 0, I 0, .sl 6 [], I 0, .sl 4 [], .sl 1 [], I 0, I 0, I 0, SB [], B false, I 0, SB [], SB [], SB [], I 0, I 0, I 0, .sl 1 [], I 0, I 0, SB [], I 0, I 0, I 0]
def dFa (nd e n : Int) : Fa := ⟨2, nd, 0, 0, 0, 0, ⟨e, n, 0, 0, 0, 0, [], []⟩, rest44⟩
theorem txn_con (e n : Int) : ACon Try.prog 27 [.p (I e), .p (I n)] (.p (.agg [I e, I n, I 0, I 0, I 0, I 0, SB [], .sl 11 []])) := by
 refine wBody Try.tab Try.mixed Try.func27 rfl rfl Try.ntmps27 (by simp) (by simp) fun Q hr hn => ?_
 repeat' first | (refine hK _ ?_; clear hK) | (refine hK _ _ ?_; clear hK) | (clear hK; refine hK _ ?_; clear hK) | (clear hK; clear hK; refine hK _ ?_; clear hK) | (clear hK; clear hK; clear hK; refine hK _ ?_; clear hK) | (clear hK; clear hK; clear hK; clear hK; refine hK _ ?_; clear hK) | (refine wSeq fun K hK => ?_) | ((first | refine wReg ?_ | refine wDrwQ rfl (by kernel_rfl) ?_ | refine wDrwI ?_ | refine wDrw (by kernel_rfl) ?_); simp only [List.map_cons, List.map_nil, strip]) | ((first | refine wIs fun K hK => ?_ | refine wOs fun K hK => ?_ | refine wQs fun K hK => ?_ | refine CallK_plain ?_ | refine CallQ_plain ?_ | refine CallR_plain ?_ | refine wCond ?_); simp) | (refine wIn ?_; refine And.intro (by kernel_rfl) ?_; try simp only [thenA_n]) | (first | refine wBlock ?_ | refine wScope ?_) | ((first | refine wRet ?_ | refine wExit ?_ | refine wSkip ?_); try simp) | ((first | refine wLabel ?_ | refine wOn ?_ | refine wQn ?_); try simp only [thenA_n])
 all_goals apply hr
 all_goals simp [Try.f27]
theorem done_con (nd e n : Int) : ACon Try.prog 18 [.p (I nd), .p (I e), .p (I n)] (.p (.agg (dFa nd e n).cells)) := by
 have ct := txn_con e n
 unfold dFa Fa.cells rest44
 refine wBody Try.tab Try.mixed Try.func18 rfl rfl Try.ntmps18 (by simp) (by simp) fun Q hr hn => ?_
 repeat' first | (refine hK _ ?_; clear hK) | (refine hK _ _ ?_; clear hK) | (clear hK; refine hK _ ?_; clear hK) | (clear hK; clear hK; refine hK _ ?_; clear hK) | (clear hK; clear hK; clear hK; refine hK _ ?_; clear hK) | (clear hK; clear hK; clear hK; clear hK; refine hK _ ?_; clear hK) | (refine wSeq fun K hK => ?_) | ((first | refine wReg ?_ | refine wDrwQ rfl (by kernel_rfl) ?_ | refine wDrwI ?_ | refine wDrw (by kernel_rfl) ?_); simp only [List.map_cons, List.map_nil, strip]) | ((first | refine wIs fun K hK => ?_ | refine wOs fun K hK => ?_ | refine wQs fun K hK => ?_ | refine CallK_plain ?_ | refine CallQ_plain ?_ | refine CallR_plain ?_ | refine wCond ?_); simp) | (refine wIn ?_; refine And.intro (by kernel_rfl) ?_; try simp only [thenA_n]) | (first | refine wBlock ?_ | refine wScope ?_) | ((first | refine wRet ?_ | refine wExit ?_ | refine wSkip ?_); try simp) | ((first | refine wLabel ?_ | refine wOn ?_ | refine wQn ?_); try simp only [thenA_n]) | (refine CallE.pure (ct) rfl ?_) | (refine CallE.lent (ct) rfl ?_) | (refine CallF.pure (ct) rfl ?_) | (refine CallF.lent (ct) rfl ?_) | (refine CallE.own (ct) ?_) | (refine CallH.pure (ct) rfl ?_) | (refine CallH.lent (ct) rfl ?_) | (refine CallH.own (ct) ?_)
 all_goals apply hr
 all_goals simp [Try.f18, pts]
def aw4 : List Fa := [dFa 0 1 1, dFa 0 1 2, dFa 1 1 1, dFa 1 1 3]
def aw5 : List Fa := [dFa 0 1 1, dFa 0 1 2, dFa 1 1 1, dFa 1 1 3, dFa 0 1 3]
theorem lgA (l : List Fa) (h : ∀ f ∈ l, f.r = rest44 /\ f.t.ps = []) (hl : l.length <= 12) : ACon Try.prog 11 [.p (.sl 58 (fas l))] (logT l) := log_con l (fun f hf => by rw [(h f hf).1]; rfl) (by omega) (fun f hf => by rw [(h f hf).2]; simp) (fun T hT => by
 have := logP_len l l.length (T := T) (by rw [List.take_length]; exact hT)
 omega)
theorem h4 : ∀ f ∈ aw4, f.r = rest44 /\ f.t.ps = [] := by simp [aw4, dFa]
theorem h5 : ∀ f ∈ aw5, f.r = rest44 /\ f.t.ps = [] := by simp [aw5, dFa]
theorem ch4 : chainB aw4 = true := by decide +kernel
theorem ch5 : chainB aw5 = false := by decide +kernel
theorem pr4 : primB aw4 = false := by decide +kernel
theorem lg4 : ∃ X : List (List PV), logT aw4 = .tup [.p (.sl 8 X), .p (B true)] /\ X.length = 3 := by
 have h : logP aw4 = some [⟨1, 1, 0, 0, 0, 0, [], []⟩, ⟨1, 2, 0, 0, 0, 0, [], []⟩, ⟨1, 3, 0, 0, 0, 0, [], []⟩] := by decide +kernel
 unfold logT
 rw [h]
 refine ⟨_, rfl, ?_⟩
 rw [txns_len]
 decide +kernel
theorem rl4 {f : Fa} (h : f.r = rest44) : f.r.length = 44 := by rw [h]; rfl
set_option maxHeartbeats 8000000 in
theorem awake27_con : ACon Try.prog 9 [] (.p (B true)) := by
 have d1 := done_con 0 1 1
 have d2 := done_con 0 1 2
 have d3 := done_con 1 1 1
 have d4 := done_con 1 1 3
 have d5 := done_con 0 1 3
 have cl := lgA aw4 h4 (by decide)
 have cc := chain_con aw4 cl (fun f hf => rl4 (h4 f hf).1) (by decide)
 have cd := chain_con aw5 (lgA aw5 h5 (by decide)) (fun f hf => rl4 (h5 f hf).1) (by decide)
 have cp := prim_con aw4 (fun f hf => rl4 (h4 f hf).1) (by decide)
 have cj := judge0_con
 rw [ch4] at cc
 rw [ch5] at cd
 rw [pr4] at cp
 obtain ⟨X, hX, hl⟩ := lg4
 rw [hX] at cl
 have e4 : fas aw4 = [(dFa 0 1 1).cells, (dFa 0 1 2).cells, (dFa 1 1 1).cells, (dFa 1 1 3).cells] := rfl
 have e5 : fas aw5 = [(dFa 0 1 1).cells, (dFa 0 1 2).cells, (dFa 1 1 1).cells, (dFa 1 1 3).cells, (dFa 0 1 3).cells] := rfl
 rw [e4] at cl cc cp
 rw [e5] at cd
 have n1 : (dFa 0 1 1).cells.length = 58 := rfl
 have n2 : (dFa 0 1 2).cells.length = 58 := rfl
 have n3 : (dFa 1 1 1).cells.length = 58 := rfl
 have n4 : (dFa 1 1 3).cells.length = 58 := rfl
 have n5 : (dFa 0 1 3).cells.length = 58 := rfl
 generalize (dFa 0 1 1).cells = f1 at *
 generalize (dFa 0 1 2).cells = f2 at *
 generalize (dFa 1 1 1).cells = f3 at *
 generalize (dFa 1 1 3).cells = f4 at *
 generalize (dFa 0 1 3).cells = f5 at *
 refine wBody Try.tab Try.mixed Try.func9 rfl rfl Try.ntmps9 (by simp) (by simp) fun Q hr hn => ?_
 repeat' first | (refine hK _ ?_; clear hK) | (refine hK _ _ ?_; clear hK) | (clear hK; refine hK _ ?_; clear hK) | (clear hK; clear hK; refine hK _ ?_; clear hK) | (clear hK; clear hK; clear hK; refine hK _ ?_; clear hK) | (clear hK; clear hK; clear hK; clear hK; refine hK _ ?_; clear hK) | (refine wSeq fun K hK => ?_) | ((first | refine wReg ?_ | refine wDrwQ rfl (by kernel_rfl) ?_ | refine wDrwI ?_ | refine wDrw (by kernel_rfl) ?_); simp only [List.map_cons, List.map_nil, strip]) | ((first | refine wIs fun K hK => ?_ | refine wOs fun K hK => ?_ | refine wQs fun K hK => ?_ | refine CallK_plain ?_ | refine CallQ_plain ?_ | refine CallR_plain ?_ | refine wCond ?_); simp [n1, n2, n3, n4, n5, hl]) | (refine wIn ?_; refine And.intro (by kernel_rfl) ?_; try simp only [thenA_n]) | (first | refine wBlock ?_ | refine wScope ?_) | ((first | refine wRet ?_ | refine wExit ?_ | refine wSkip ?_); try simp) | ((first | refine wLabel ?_ | refine wOn ?_ | refine wQn ?_); try simp only [thenA_n]) | (refine CallE.pure (d1) rfl ?_) | (refine CallE.lent (d1) rfl ?_) | (refine CallF.pure (d1) rfl ?_) | (refine CallF.lent (d1) rfl ?_) | (refine CallE.own (d1) ?_) | (refine CallH.pure (d1) rfl ?_) | (refine CallH.lent (d1) rfl ?_) | (refine CallH.own (d1) ?_) | (refine CallE.pure (d2) rfl ?_) | (refine CallE.lent (d2) rfl ?_) | (refine CallF.pure (d2) rfl ?_) | (refine CallF.lent (d2) rfl ?_) | (refine CallE.own (d2) ?_) | (refine CallH.pure (d2) rfl ?_) | (refine CallH.lent (d2) rfl ?_) | (refine CallH.own (d2) ?_) | (refine CallE.pure (d3) rfl ?_) | (refine CallE.lent (d3) rfl ?_) | (refine CallF.pure (d3) rfl ?_) | (refine CallF.lent (d3) rfl ?_) | (refine CallE.own (d3) ?_) | (refine CallH.pure (d3) rfl ?_) | (refine CallH.lent (d3) rfl ?_) | (refine CallH.own (d3) ?_) | (refine CallE.pure (d4) rfl ?_) | (refine CallE.lent (d4) rfl ?_) | (refine CallF.pure (d4) rfl ?_) | (refine CallF.lent (d4) rfl ?_) | (refine CallE.own (d4) ?_) | (refine CallH.pure (d4) rfl ?_) | (refine CallH.lent (d4) rfl ?_) | (refine CallH.own (d4) ?_) | (refine CallE.pure (d5) rfl ?_) | (refine CallE.lent (d5) rfl ?_) | (refine CallF.pure (d5) rfl ?_) | (refine CallF.lent (d5) rfl ?_) | (refine CallE.own (d5) ?_) | (refine CallH.pure (d5) rfl ?_) | (refine CallH.lent (d5) rfl ?_) | (refine CallH.own (d5) ?_) | (refine CallE.pure (cl) rfl ?_) | (refine CallE.lent (cl) rfl ?_) | (refine CallF.pure (cl) rfl ?_) | (refine CallF.lent (cl) rfl ?_) | (refine CallE.own (cl) ?_) | (refine CallH.pure (cl) rfl ?_) | (refine CallH.lent (cl) rfl ?_) | (refine CallH.own (cl) ?_) | (refine CallE.pure (cc) rfl ?_) | (refine CallE.lent (cc) rfl ?_) | (refine CallF.pure (cc) rfl ?_) | (refine CallF.lent (cc) rfl ?_) | (refine CallE.own (cc) ?_) | (refine CallH.pure (cc) rfl ?_) | (refine CallH.lent (cc) rfl ?_) | (refine CallH.own (cc) ?_) | (refine CallE.pure (cd) rfl ?_) | (refine CallE.lent (cd) rfl ?_) | (refine CallF.pure (cd) rfl ?_) | (refine CallF.lent (cd) rfl ?_) | (refine CallE.own (cd) ?_) | (refine CallH.pure (cd) rfl ?_) | (refine CallH.lent (cd) rfl ?_) | (refine CallH.own (cd) ?_) | (refine CallE.pure (cp) rfl ?_) | (refine CallE.lent (cp) rfl ?_) | (refine CallF.pure (cp) rfl ?_) | (refine CallF.lent (cp) rfl ?_) | (refine CallE.own (cp) ?_) | (refine CallH.pure (cp) rfl ?_) | (refine CallH.lent (cp) rfl ?_) | (refine CallH.own (cp) ?_) | (refine CallE.pure (cj) rfl ?_) | (refine CallE.lent (cj) rfl ?_) | (refine CallF.pure (cj) rfl ?_) | (refine CallF.lent (cj) rfl ?_) | (refine CallE.own (cj) ?_) | (refine CallH.pure (cj) rfl ?_) | (refine CallH.lent (cj) rfl ?_) | (refine CallH.own (cj) ?_) | (refine Or.inr ?_)
 all_goals apply hr
 all_goals simp [Try.f9]
set_option maxHeartbeats 4000000 in
theorem judgePrimary_con (l : List Fa) (ho : ∀ f ∈ l, OkF f) (hlen : l.length <= 9223372036854775807) : ACon Try.prog 3 [.p (.sl 58 (fas l))] (.p (B true)) := by
 obtain ⟨D, cf, hD⟩ := far27_con l ho hlen
 have ca := awake27_con
 cases D with
 | true =>
  refine wBody Try.tab Try.mixed Try.func3 rfl rfl Try.ntmps3 (by simp) (by simp) fun Q hr hn => ?_
  repeat' first | (refine hK _ ?_; clear hK) | (refine hK _ _ ?_; clear hK) | (clear hK; refine hK _ ?_; clear hK) | (clear hK; clear hK; refine hK _ ?_; clear hK) | (clear hK; clear hK; clear hK; refine hK _ ?_; clear hK) | (clear hK; clear hK; clear hK; clear hK; refine hK _ ?_; clear hK) | (refine wSeq fun K hK => ?_) | ((first | refine wReg ?_ | refine wDrwQ rfl (by kernel_rfl) ?_ | refine wDrwI ?_ | refine wDrw (by kernel_rfl) ?_); simp only [List.map_cons, List.map_nil, strip]) | ((first | refine wIs fun K hK => ?_ | refine wOs fun K hK => ?_ | refine wQs fun K hK => ?_ | refine CallK_plain ?_ | refine CallQ_plain ?_ | refine CallR_plain ?_ | refine wCond ?_); simp) | (refine wIn ?_; refine And.intro (by kernel_rfl) ?_; try simp only [thenA_n]) | (first | refine wBlock ?_ | refine wScope ?_) | ((first | refine wRet ?_ | refine wExit ?_ | refine wSkip ?_); try simp) | ((first | refine wLabel ?_ | refine wOn ?_ | refine wQn ?_); try simp only [thenA_n]) | (refine CallE.pure (cf) rfl ?_) | (refine CallE.lent (cf) rfl ?_) | (refine CallF.pure (cf) rfl ?_) | (refine CallF.lent (cf) rfl ?_) | (refine CallE.own (cf) ?_) | (refine CallH.pure (cf) rfl ?_) | (refine CallH.lent (cf) rfl ?_) | (refine CallH.own (cf) ?_) | (refine CallE.pure (ca) rfl ?_) | (refine CallE.lent (ca) rfl ?_) | (refine CallF.pure (ca) rfl ?_) | (refine CallF.lent (ca) rfl ?_) | (refine CallE.own (ca) ?_) | (refine CallH.pure (ca) rfl ?_) | (refine CallH.lent (ca) rfl ?_) | (refine CallH.own (ca) ?_)
  all_goals apply hr
  all_goals simp [Try.f3]
 | false =>
  have hn := hD rfl
  have h120 : l.length <= 120 := by
   apply Nat.le_of_not_lt
   exact fun h => hn (.inr (.inr (.inr h)))
  have c1 := prim_con l (fun f hf => (ho f hf).len) (by omega)
  have c2 := prim27_con l (fun f hf => (ho f hf).len) (by omega)
  refine wBody Try.tab Try.mixed Try.func3 rfl rfl Try.ntmps3 (by simp) (by simp) fun Q hr hn => ?_
  repeat' first | (refine hK _ ?_; clear hK) | (refine hK _ _ ?_; clear hK) | (clear hK; refine hK _ ?_; clear hK) | (clear hK; clear hK; refine hK _ ?_; clear hK) | (clear hK; clear hK; clear hK; refine hK _ ?_; clear hK) | (clear hK; clear hK; clear hK; clear hK; refine hK _ ?_; clear hK) | (refine wSeq fun K hK => ?_) | ((first | refine wReg ?_ | refine wDrwQ rfl (by kernel_rfl) ?_ | refine wDrwI ?_ | refine wDrw (by kernel_rfl) ?_); simp only [List.map_cons, List.map_nil, strip]) | ((first | refine wIs fun K hK => ?_ | refine wOs fun K hK => ?_ | refine wQs fun K hK => ?_ | refine CallK_plain ?_ | refine CallQ_plain ?_ | refine CallR_plain ?_ | refine wCond ?_); simp) | (refine wIn ?_; refine And.intro (by kernel_rfl) ?_; try simp only [thenA_n]) | (first | refine wBlock ?_ | refine wScope ?_) | ((first | refine wRet ?_ | refine wExit ?_ | refine wSkip ?_); try simp) | ((first | refine wLabel ?_ | refine wOn ?_ | refine wQn ?_); try simp only [thenA_n]) | (refine CallE.pure (cf) rfl ?_) | (refine CallE.lent (cf) rfl ?_) | (refine CallF.pure (cf) rfl ?_) | (refine CallF.lent (cf) rfl ?_) | (refine CallE.own (cf) ?_) | (refine CallH.pure (cf) rfl ?_) | (refine CallH.lent (cf) rfl ?_) | (refine CallH.own (cf) ?_) | (refine CallE.pure (c1) rfl ?_) | (refine CallE.lent (c1) rfl ?_) | (refine CallF.pure (c1) rfl ?_) | (refine CallF.lent (c1) rfl ?_) | (refine CallE.own (c1) ?_) | (refine CallH.pure (c1) rfl ?_) | (refine CallH.lent (c1) rfl ?_) | (refine CallH.own (c1) ?_) | (refine CallE.pure (c2) rfl ?_) | (refine CallE.lent (c2) rfl ?_) | (refine CallF.pure (c2) rfl ?_) | (refine CallF.lent (c2) rfl ?_) | (refine CallE.own (c2) ?_) | (refine CallH.pure (c2) rfl ?_) | (refine CallH.lent (c2) rfl ?_) | (refine CallH.own (c2) ?_) | (refine CallE.pure (ca) rfl ?_) | (refine CallE.lent (ca) rfl ?_) | (refine CallF.pure (ca) rfl ?_) | (refine CallF.lent (ca) rfl ?_) | (refine CallE.own (ca) ?_) | (refine CallH.pure (ca) rfl ?_) | (refine CallH.lent (ca) rfl ?_) | (refine CallH.own (ca) ?_)
  all_goals apply hr
  all_goals simp [Try.f3]
end Go.Proofs.Ythiccfadhllajaa
namespace Go.Proofs.Ythiccfadhllajaa
set_option linter.unusedVariables false
set_option maxRecDepth 8000
open Go Go.Av Go.ChangeShapes Go.WideShapes Go.ChangeAt Go.RowKit
def KB (c : Nat) : Nat := 1
theorem hpos : PosK Try.T KB := by
 intro t yt e y h hk hy hs
 unfold Try.T at h
 split at h
 all_goals first | (cases h; done) | (cases h; cases hk; done) | (cases h; cases hk; cases hy; done) | (cases h; cases hk; cases hy; first | exact of_decide_eq_true (by kernel_rfl) | (simp at hs; done))
theorem Mb.ofL {ps : List PV} (h : ShL [.int .i64, .int .i64, .int .i64, .int .i64] ps) : ∃ a : Mb, ps = a.cells := by
 obtain ⟨_, _, rfl, h0, h⟩ := h.cons
 obtain ⟨_, _, rfl, h1, h⟩ := h.cons
 obtain ⟨_, _, rfl, h2, h⟩ := h.cons
 obtain ⟨_, _, rfl, h3, h⟩ := h.cons
 obtain rfl := h.nil
 obtain ⟨_, rfl, -⟩ := h0.intI
 obtain ⟨_, rfl, -⟩ := h1.intI
 obtain ⟨_, rfl, -⟩ := h2.intI
 obtain ⟨_, rfl, -⟩ := h3.intI
 exact ⟨⟨_, _, _, _⟩, rfl⟩
abbrev LMb : Lf := .sl [.int .i64, .int .i64, .int .i64, .int .i64]
abbrev LPt : List Lf := [.int .i64, .str, .str, .int .i64, .int .i64, .int .i64, .int .i64, .int .i64, .int .i64, .int .i64, LMb]
abbrev LTx : List Lf := [.int .i64, .int .i64, .int .i64, .int .i64, .int .i64, .int .i64, .str, .sl LPt]
theorem Pt.ofL {ps : List PV} (h : ShL LPt ps) : ∃ a : Pt, ps = a.cells := by
 obtain ⟨_, _, rfl, h0, h⟩ := h.cons
 obtain ⟨_, _, rfl, h1, h⟩ := h.cons
 obtain ⟨_, _, rfl, h2, h⟩ := h.cons
 obtain ⟨_, _, rfl, h3, h⟩ := h.cons
 obtain ⟨_, _, rfl, h4, h⟩ := h.cons
 obtain ⟨_, _, rfl, h5, h⟩ := h.cons
 obtain ⟨_, _, rfl, h6, h⟩ := h.cons
 obtain ⟨_, _, rfl, h7, h⟩ := h.cons
 obtain ⟨_, _, rfl, h8, h⟩ := h.cons
 obtain ⟨_, _, rfl, h9, h⟩ := h.cons
 obtain ⟨_, _, rfl, h10, h⟩ := h.cons
 obtain rfl := h.nil
 obtain ⟨_, rfl, -⟩ := h0.intI
 obtain ⟨s1, rfl, -⟩ := h1.strI
 obtain ⟨s2, rfl, -⟩ := h2.strI
 obtain ⟨_, rfl, -⟩ := h3.intI
 obtain ⟨_, rfl, -⟩ := h4.intI
 obtain ⟨_, rfl, -⟩ := h5.intI
 obtain ⟨_, rfl, -⟩ := h6.intI
 obtain ⟨_, rfl, -⟩ := h7.intI
 obtain ⟨_, rfl, -⟩ := h8.intI
 obtain ⟨_, rfl, -⟩ := h9.intI
 obtain ⟨l, rfl⟩ := h10.slI (f := Mb.cells) fun ps h => Mb.ofL h
 exact ⟨⟨_, ⟨s1.data.toList, s2.data.toList, _, _, _⟩, _, ⟨_, _, _, l⟩⟩, rfl⟩
theorem Tx.ofL {ps : List PV} (h : ShL LTx ps) : ∃ a : Tx, ps = a.cells := by
 obtain ⟨_, _, rfl, h0, h⟩ := h.cons
 obtain ⟨_, _, rfl, h1, h⟩ := h.cons
 obtain ⟨_, _, rfl, h2, h⟩ := h.cons
 obtain ⟨_, _, rfl, h3, h⟩ := h.cons
 obtain ⟨_, _, rfl, h4, h⟩ := h.cons
 obtain ⟨_, _, rfl, h5, h⟩ := h.cons
 obtain ⟨_, _, rfl, h6, h⟩ := h.cons
 obtain ⟨_, _, rfl, h7, h⟩ := h.cons
 obtain rfl := h.nil
 obtain ⟨_, rfl, -⟩ := h0.intI
 obtain ⟨_, rfl, -⟩ := h1.intI
 obtain ⟨_, rfl, -⟩ := h2.intI
 obtain ⟨_, rfl, -⟩ := h3.intI
 obtain ⟨_, rfl, -⟩ := h4.intI
 obtain ⟨_, rfl, -⟩ := h5.intI
 obtain ⟨s, rfl, -⟩ := h6.strI
 obtain ⟨l, rfl⟩ := h7.slI (f := Pt.cells) fun ps h => Pt.ofL h
 exact ⟨⟨_, _, _, _, _, _, s.data.toList, l⟩, rfl⟩
theorem szLe {N c : Nat} {l : List (List PV)} (h : SzI KB N (.sl c l)) : l.length <= N := by
 have := h.len
 have h1 : 1 <= KB c := by unfold KB; omega
 have := Nat.le_mul_of_pos_right l.length (show 0 < KB c by omega)
 omega
abbrev LOp : List Lf := [.int .i64, .str, .str, .int .i64, .bool, .bool]
abbrev LRe : List Lf := [.int .i64, .int .i64, .int .i64, .sl LOp, .int .i64, LMb, .sl [.int .i64], .int .i64, .int .i64, .int .i64, .str, .int .i64, .int .i64, .int .i64, .int .i64, .int .i64, .int .i64, .int .i64, .int .i64, .int .i64, .int .i64, .sl LOp, .int .i64, LMb, .sl [.int .i64], .int .i64, .int .i64, .int .i64, .str, .bool, .int .i64, .str, .str, .str, .int .i64, .int .i64, .int .i64, .sl [.str], .int .i64, .int .i64, .str, .int .i64, .int .i64, .int .i64]
abbrev LFa : List Lf := [.int .i64, .int .i64, .int .i64, .int .i64, .int .i64, .int .i64, .int .i64, .int .i64, .int .i64, .int .i64, .int .i64, .int .i64, .str, .sl LPt, .int .i64, .int .i64, .int .i64, .sl LOp, .int .i64, LMb, .sl [.int .i64], .int .i64, .int .i64, .int .i64, .str, .int .i64, .int .i64, .int .i64, .int .i64, .int .i64, .int .i64, .int .i64, .int .i64, .int .i64, .int .i64, .sl LOp, .int .i64, LMb, .sl [.int .i64], .int .i64, .int .i64, .int .i64, .str, .bool, .int .i64, .str, .str, .str, .int .i64, .int .i64, .int .i64, .sl [.str], .int .i64, .int .i64, .str, .int .i64, .int .i64, .int .i64]
theorem shl_partsJ {E E' : List Lf} {ps : List PV} (h : ShL (E ++ E') ps) : ShL E (ps.take E.length) /\ ShL E' (ps.drop E.length) := by
 obtain ⟨h1, h2⟩ := h
 rw [List.length_append] at h1
 refine ⟨⟨by rw [List.length_take]; omega, fun j f p hf hp => ?_⟩, ⟨by rw [List.length_drop]; omega, fun j f p hf hp => ?_⟩⟩
 ·have hj : j < E.length := by rw [List.getElem?_eq_some_iff] at hf; exact hf.1
  refine h2 j f p (by rw [List.getElem?_append_left hj]; exact hf) ?_
  rw [List.getElem?_take] at hp
  rw [if_pos hj] at hp; exact hp
 ·refine h2 (E.length + j) f p (by rw [List.getElem?_append_right (by omega)]; simpa using hf) ?_
  rw [List.getElem?_drop] at hp; exact hp
theorem Fa.ofL {ps : List PV} (h : ShL LFa ps) : ∃ f : {f : Fa // ShL LRe f.r}, ps = f.val.cells := by
 obtain ⟨h1, h2⟩ := shl_partsJ (E := [.int .i64, .int .i64, .int .i64, .int .i64, .int .i64, .int .i64]) (E' := LTx ++ LRe) h
 obtain ⟨h3, h4⟩ := shl_partsJ h2
 obtain ⟨t, ht⟩ := Tx.ofL h3
 generalize hA : ps.take 6 = A at *
 generalize hB : ps.drop 6 = X at *
 have hps : ps = A ++ X := by rw [<- hA, <- hB, List.take_append_drop]
 obtain ⟨Y, hY⟩ : ∃ Y, X.drop 8 = Y := ⟨_, rfl⟩
 have hX : X = t.cells ++ Y := by rw [<- ht, <- hY]; exact (List.take_append_drop 8 X).symm
 change ShL LRe (X.drop 8) at h4
 rw [hY] at h4
 obtain ⟨_, _, rfl, g0, h1⟩ := h1.cons
 obtain ⟨_, _, rfl, g1, h1⟩ := h1.cons
 obtain ⟨_, _, rfl, g2, h1⟩ := h1.cons
 obtain ⟨_, _, rfl, g3, h1⟩ := h1.cons
 obtain ⟨_, _, rfl, g4, h1⟩ := h1.cons
 obtain ⟨_, _, rfl, g5, h1⟩ := h1.cons
 obtain rfl := h1.nil
 obtain ⟨a0, rfl, -⟩ := g0.intI
 obtain ⟨a1, rfl, -⟩ := g1.intI
 obtain ⟨a2, rfl, -⟩ := g2.intI
 obtain ⟨a3, rfl, -⟩ := g3.intI
 obtain ⟨a4, rfl, -⟩ := g4.intI
 obtain ⟨a5, rfl, -⟩ := g5.intI
 refine ⟨⟨⟨a0, a1, a2, a3, a4, a5, t, Y⟩, h4⟩, ?_⟩
 rw [hps, hX]
 rfl
theorem zd_lenJ {p : PV} (h : SzI KB reachBytes p) : lenP p <= 140737488355328 := by
 have hr : reachBytes <= 140737488355328 := by decide
 cases h with
 | v x h =>
  cases x
  case string s =>
   have := h s rfl
   have h1 : s.data.toList.length = s.size := Array.length_toList
   show s.data.toList.length <= _; omega
  all_goals exact Nat.zero_le _
 | sl c l hl h =>
  have h1 : l.length * 1 <= reachBytes := hl
  show l.length <= _; omega
 | agg l h => exact Nat.zero_le _
theorem re_sl {r : List PV} (h : ShL LRe r) (hz : ∀ p ∈ r, SzI KB reachBytes p) (i : Nat) (E : List Lf) (hi : LRe[i]? = some (.sl E)) : ∃ o, r[i]? = some (.sl E.length o) /\ o.length <= 140737488355328 := by
 have hl : i < r.length := by rw [h.1]; exact (List.getElem?_eq_some_iff.1 hi).1
 have h0 := h.2 i _ r[i] hi (List.getElem?_eq_getElem hl)
 obtain ⟨l, hl'⟩ := h0.slI (α := {e : List PV // ShL E e}) (f := fun a => a.val) fun ps h => ⟨⟨ps, h⟩, rfl⟩
 have hb := zd_lenJ (hz _ (List.getElem_mem hl))
 rw [hl', lenP_sl] at hb
 exact ⟨_, by rw [List.getElem?_eq_getElem hl, hl'], hb⟩
theorem re_str {r : List PV} (h : ShL LRe r) (hz : ∀ p ∈ r, SzI KB reachBytes p) (i : Nat) (hi : LRe[i]? = some .str) : ∃ s, r[i]? = some (SB s) /\ s.length <= 140737488355328 := by
 have hl : i < r.length := by rw [h.1]; exact (List.getElem?_eq_some_iff.1 hi).1
 have h0 := h.2 i _ r[i] hi (List.getElem?_eq_getElem hl)
 obtain ⟨s, hs, -⟩ := h0.strI
 have hb := zd_lenJ (hz _ (List.getElem_mem hl))
 rw [hs] at hb
 refine ⟨s.data.toList, ?_, hb⟩
 rw [List.getElem?_eq_getElem hl, hs]
 rfl
theorem facts_open {p : PV} (hp : ShT Try.T 22 p) (hz : SzI KB reachBytes p) : ∃ l : List Fa, p = .sl 58 (fas l) /\ (∀ f ∈ l, OkF f) /\ l.length <= 9223372036854775807 := by
 obtain ⟨L, rfl⟩ := (hp.one (f := .sl LFa) rfl rfl rfl).slI (α := {f : Fa // ShL LRe f.r}) (f := fun a => a.val.cells) fun ps h => Fa.ofL h
 have hr : reachBytes <= 140737488355328 := by decide
 have hlen := szLe hz
 rw [List.length_map] at hlen
 refine ⟨L.map (·.val), by simp [fas, Function.comp_def], fun f hf => ?_, by rw [List.length_map]; omega⟩
 obtain ⟨⟨f, h⟩, hm, rfl⟩ := List.mem_map.1 hf
 have h0 : ∀ p ∈ f.cells, SzI KB reachBytes p := fun p hp => hz.at (e := f.cells) (List.mem_map.2 ⟨⟨f, h⟩, hm, rfl⟩) hp
 have h1 : ∀ p ∈ f.r, SzI KB reachBytes p := fun p hp => h0 p (by simp [Fa.cells, hp])
 have h4 := h0 (.sl 11 (pts f.t.ps)) (by simp [Fa.cells])
 refine ⟨h.1, re_sl h h1 3 LOp rfl, re_str h h1 10 rfl, re_str h h1 31 rfl, re_sl h h1 37 [.str] rfl, ?_, ?_, fun q hq => ?_⟩
 ·have := zd_lenJ (h0 (SB f.t.m) (by simp [Fa.cells])); rwa [lenP_SB] at this
 ·have := zd_lenJ h4; rw [lenP_sl, pts_len] at this; exact this
 ·have h5 := zd_lenJ (h4.at (e := q.cells) (List.mem_map.2 ⟨q, hq, rfl⟩) (p := .sl 4 (mbs q.c.ms)) (by simp [Pt.cells]))
  rw [lenP_sl, mbs_len] at h5; exact h5
end Go.Proofs.Ythiccfadhllajaa
