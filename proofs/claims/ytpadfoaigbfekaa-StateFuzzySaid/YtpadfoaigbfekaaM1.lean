/- MERGED XD XE XF NH XK XL XM XN XO XP XQ XR XU XS XT -/
import Derived.Test.YtpadfoaigbfekaaNF
import Derived.Test.YtpadfoaigbfekaaXC
import Derived.Test.YtpadfoaigbfekaaZA
import Derived.Test.YtpadfoaigbfekaaNG
import Derived.Test.YtpadfoaigbfekaaXJ
import Derived.Test.YtpadfoaigbfekaaAvStr
import Derived.Test.YtpadfoaigbfekaaAvDeep
/- States: what is asked of one; far. -/
namespace Go.Proofs.Ytpadfoaigbfekaa
set_option linter.unusedSimpArgs false
set_option linter.unusedVariables false
open Go Go.Av
attribute [local simp] Try.T1 Try.T2 Try.T3 Try.T4 Try.T5 Try.T9 Try.T12 Try.T21 Try.T22 Try.T24 Try.T25 Try.T26 Try.T27 Try.T28 Try.T29 Try.T30 Try.T31 Try.T33 Try.T34 Try.T35 Try.T36 Try.T37 Try.T38 Try.T39 Try.T41 Try.T42 Try.T43 Try.T44 Try.T46 Try.T47 Try.T49 Try.T51 Try.T52 Try.T53 Try.T54 Try.T56 Try.T57 Try.T58 Try.T59 Try.T60 Try.T62 Try.T64 Try.T65 Try.T66 Try.T67 Try.T68 Try.T69 Try.T70 Try.T71 Try.T72 Try.T73 Try.T75 Try.T76 Try.T77 Try.T78 Try.T79 Try.T80 Try.T82 Try.T83 Try.T84 Try.T85 Try.T87 Try.T88 Try.T89 Try.T90 Try.T91 Try.T92 Try.T93 Try.T94 Try.T95 Try.T96 Try.T97 Try.T98 Try.T99 Try.T100 Try.T102 Try.T103 Try.T104 Try.T105 Try.T106 Try.T107 Try.T109 Try.T110 Try.T111 Try.T112 Try.T113 Try.T114 Try.T115 Try.T116 Try.T117 Try.T123 Try.T126
attribute [local irreducible] Go.Av.CallK Go.Av.CallE Go.Av.CallQ Go.Av.CallF Go.Av.CallR Go.Av.CallH Go.Av.Con
def getZ (l : List Zn) (p : List UInt8) : Zn × Int := if chk p = 0 then (if (fnd l p).2 = true then ((fnd l p).1, 0) else (zz, 6)) else (zz, chk p)
theorem getX (f : Nat) (l : List Zn) (p : List UInt8) : chk p ≠ 0 → getZ l p = (zz, chk p) := fun h => by unfold getZ; rw [if_neg h]
theorem getN (l : List Zn) (p : List UInt8) (h : chk p = 0) (h2 : (fnd l p).2 = false) : getZ l p = (zz, 6) := by unfold getZ; rw [if_pos h, h2]; rfl
theorem getY (l : List Zn) (p : List UInt8) (h : chk p = 0) (h2 : (fnd l p).2 = true) : getZ l p = ((fnd l p).1, 0) := by unfold getZ; rw [if_pos h, if_pos h2]
theorem get_con (l : List Zn) (ss ms : List (List PV)) (nx e n k ae an : Int) (p : List UInt8) (hp : p.length ≤ 9223372036854775807) : ACon Try.prog 40 [.p (.agg [.sl 5 (zns l), .sl 1 ss, I nx, I e, I n, I k, .sl 4 ms, I ae, I an]), .p (SB p)] (.tup [.p (.agg (getZ l p).1.c), .p (I (getZ l p).2)]) := by
  have c1 := check_con p hp
  have c2 := find_con l p
  by_cases h : chk p = 0
  · rw [h] at c1
    cases h2 : (fnd l p).2
    · rw [getN l p h h2]
      rw [h2] at c2
      generalize (fnd l p).1 = z at c2
      simp only [Zn.c, zz] at c2 ⊢
      refine wBody Try.tab Try.mixed Try.func40 rfl rfl Try.ntmps40 (by simp) (by simp) fun Q hr hn => ?_
      repeat' first | (refine hK _ ?_; clear hK) | (refine hK _ _ ?_; clear hK) | (clear hK; refine hK _ ?_; clear hK) | (clear hK; clear hK; refine hK _ ?_; clear hK) | (clear hK; clear hK; clear hK; refine hK _ ?_; clear hK) | (clear hK; clear hK; clear hK; clear hK; refine hK _ ?_; clear hK) | (refine wSeq fun K hK => ?_) | ((first | refine wReg ?_ | refine wDrwQ rfl (by kernel_rfl) ?_ | refine wDrwI ?_ | refine wDrw (by kernel_rfl) ?_); simp only [List.map_cons, List.map_nil, strip]) | ((first | refine wIs fun K hK => ?_ | refine wOs fun K hK => ?_ | refine wQs fun K hK => ?_ | refine CallK_plain ?_ | refine CallQ_plain ?_ | refine CallR_plain ?_ | refine wCond ?_); simp) | (refine wIn ?_; refine And.intro (by kernel_rfl) ?_; try simp only [thenA_n]) | (first | refine wBlock ?_ | refine wScope ?_) | ((first | refine wRet ?_ | refine wExit ?_ | refine wSkip ?_); try simp) | ((first | refine wLabel ?_ | refine wOn ?_ | refine wQn ?_); try simp only [thenA_n]) | (refine CallE.pure (c1) rfl ?_) | (refine CallE.lent (c1) rfl ?_) | (refine CallF.pure (c1) rfl ?_) | (refine CallF.lent (c1) rfl ?_) | (refine CallE.own (c1) ?_) | (refine CallH.pure (c1) rfl ?_) | (refine CallH.lent (c1) rfl ?_) | (refine CallH.own (c1) ?_) | (refine CallE.pure (c2) rfl ?_) | (refine CallE.lent (c2) rfl ?_) | (refine CallF.pure (c2) rfl ?_) | (refine CallF.lent (c2) rfl ?_) | (refine CallE.own (c2) ?_) | (refine CallH.pure (c2) rfl ?_) | (refine CallH.lent (c2) rfl ?_) | (refine CallH.own (c2) ?_)
      all_goals apply hr
      all_goals simp [Try.f40]
    · rw [getY l p h h2]
      rw [h2] at c2
      generalize (fnd l p).1 = z at c2 ⊢
      simp only [Zn.c] at c2 ⊢
      refine wBody Try.tab Try.mixed Try.func40 rfl rfl Try.ntmps40 (by simp) (by simp) fun Q hr hn => ?_
      repeat' first | (refine hK _ ?_; clear hK) | (refine hK _ _ ?_; clear hK) | (clear hK; refine hK _ ?_; clear hK) | (clear hK; clear hK; refine hK _ ?_; clear hK) | (clear hK; clear hK; clear hK; refine hK _ ?_; clear hK) | (clear hK; clear hK; clear hK; clear hK; refine hK _ ?_; clear hK) | (refine wSeq fun K hK => ?_) | ((first | refine wReg ?_ | refine wDrwQ rfl (by kernel_rfl) ?_ | refine wDrwI ?_ | refine wDrw (by kernel_rfl) ?_); simp only [List.map_cons, List.map_nil, strip]) | ((first | refine wIs fun K hK => ?_ | refine wOs fun K hK => ?_ | refine wQs fun K hK => ?_ | refine CallK_plain ?_ | refine CallQ_plain ?_ | refine CallR_plain ?_ | refine wCond ?_); simp) | (refine wIn ?_; refine And.intro (by kernel_rfl) ?_; try simp only [thenA_n]) | (first | refine wBlock ?_ | refine wScope ?_) | ((first | refine wRet ?_ | refine wExit ?_ | refine wSkip ?_); try simp) | ((first | refine wLabel ?_ | refine wOn ?_ | refine wQn ?_); try simp only [thenA_n]) | (refine CallE.pure (c1) rfl ?_) | (refine CallE.lent (c1) rfl ?_) | (refine CallF.pure (c1) rfl ?_) | (refine CallF.lent (c1) rfl ?_) | (refine CallE.own (c1) ?_) | (refine CallH.pure (c1) rfl ?_) | (refine CallH.lent (c1) rfl ?_) | (refine CallH.own (c1) ?_) | (refine CallE.pure (c2) rfl ?_) | (refine CallE.lent (c2) rfl ?_) | (refine CallF.pure (c2) rfl ?_) | (refine CallF.lent (c2) rfl ?_) | (refine CallE.own (c2) ?_) | (refine CallH.pure (c2) rfl ?_) | (refine CallH.lent (c2) rfl ?_) | (refine CallH.own (c2) ?_)
      all_goals apply hr
      all_goals simp [Try.f40]
  · rw [getX 0 l p h]
    generalize chk p = x at h c1 ⊢
    simp only [Zn.c, zz]
    refine wBody Try.tab Try.mixed Try.func40 rfl rfl Try.ntmps40 (by simp) (by simp) fun Q hr hn => ?_
    repeat' first | (refine hK _ ?_; clear hK) | (refine hK _ _ ?_; clear hK) | (clear hK; refine hK _ ?_; clear hK) | (clear hK; clear hK; refine hK _ ?_; clear hK) | (clear hK; clear hK; clear hK; refine hK _ ?_; clear hK) | (clear hK; clear hK; clear hK; clear hK; refine hK _ ?_; clear hK) | (refine wSeq fun K hK => ?_) | ((first | refine wReg ?_ | refine wDrwQ rfl (by kernel_rfl) ?_ | refine wDrwI ?_ | refine wDrw (by kernel_rfl) ?_); simp only [List.map_cons, List.map_nil, strip]) | ((first | refine wIs fun K hK => ?_ | refine wOs fun K hK => ?_ | refine wQs fun K hK => ?_ | refine CallK_plain ?_ | refine CallQ_plain ?_ | refine CallR_plain ?_ | refine wCond ?_); simp [h]) | (refine wIn ?_; refine And.intro (by kernel_rfl) ?_; try simp only [thenA_n]) | (first | refine wBlock ?_ | refine wScope ?_) | ((first | refine wRet ?_ | refine wExit ?_ | refine wSkip ?_); try simp) | ((first | refine wLabel ?_ | refine wOn ?_ | refine wQn ?_); try simp only [thenA_n]) | (refine CallE.pure (c1) rfl ?_) | (refine CallE.lent (c1) rfl ?_) | (refine CallF.pure (c1) rfl ?_) | (refine CallF.lent (c1) rfl ?_) | (refine CallE.own (c1) ?_) | (refine CallH.pure (c1) rfl ?_) | (refine CallH.lent (c1) rfl ?_) | (refine CallH.own (c1) ?_)
    all_goals apply hr
    all_goals simp [Try.f40]
end Go.Proofs.Ytpadfoaigbfekaa
/- States: the one transaction that awake does. -/
namespace Go.Proofs.Ytpadfoaigbfekaa
set_option linter.unusedSimpArgs false
set_option linter.unusedVariables false
open Go Go.Av
attribute [local simp] Try.T1 Try.T2 Try.T3 Try.T4 Try.T5 Try.T9 Try.T12 Try.T21 Try.T22 Try.T24 Try.T25 Try.T26 Try.T27 Try.T28 Try.T29 Try.T30 Try.T31 Try.T33 Try.T34 Try.T35 Try.T36 Try.T37 Try.T38 Try.T39 Try.T41 Try.T42 Try.T43 Try.T44 Try.T46 Try.T47 Try.T49 Try.T51 Try.T52 Try.T53 Try.T54 Try.T56 Try.T57 Try.T58 Try.T59 Try.T60 Try.T62 Try.T64 Try.T65 Try.T66 Try.T67 Try.T68 Try.T69 Try.T70 Try.T71 Try.T72 Try.T73 Try.T75 Try.T76 Try.T77 Try.T78 Try.T79 Try.T80 Try.T82 Try.T83 Try.T84 Try.T85 Try.T87 Try.T88 Try.T89 Try.T90 Try.T91 Try.T92 Try.T93 Try.T94 Try.T95 Try.T96 Try.T97 Try.T98 Try.T99 Try.T100 Try.T102 Try.T103 Try.T104 Try.T105 Try.T106 Try.T107 Try.T109 Try.T110 Try.T111 Try.T112 Try.T113 Try.T114 Try.T115 Try.T116 Try.T117 Try.T123 Try.T126
attribute [local irreducible] Go.Av.CallK Go.Av.CallE Go.Av.CallQ Go.Av.CallF Go.Av.CallR Go.Av.CallH Go.Av.Con
theorem start1 : ACon Try.prog 38 [.p (.agg [I 0, I 0, I 1, .sl 4 []])] (.p (.agg [.sl 5 (zns [⟨[47], [], 0, 0, 0⟩]), .sl 1 [], I 1, I 0, I 0, I 1, .sl 4 [], I 0, I 0])) := by
  have c1 := root_con
  have c2 := ownConfig_con 0 0 1 [] (by simp)
  generalize zns [⟨[47], [], 0, 0, 0⟩] = r at c1 ⊢
  refine wBody Try.tab Try.mixed Try.func38 rfl rfl Try.ntmps38 (by simp) (by simp) fun Q hr hn => ?_
  repeat' first | (refine hK _ ?_; clear hK) | (refine hK _ _ ?_; clear hK) | (clear hK; refine hK _ ?_; clear hK) | (clear hK; clear hK; refine hK _ ?_; clear hK) | (clear hK; clear hK; clear hK; refine hK _ ?_; clear hK) | (clear hK; clear hK; clear hK; clear hK; refine hK _ ?_; clear hK) | (refine wSeq fun K hK => ?_) | ((first | refine wReg ?_ | refine wDrwQ rfl (by kernel_rfl) ?_ | refine wDrwI ?_ | refine wDrw (by kernel_rfl) ?_); simp only [List.map_cons, List.map_nil, strip]) | ((first | refine wIs fun K hK => ?_ | refine wOs fun K hK => ?_ | refine wQs fun K hK => ?_ | refine CallK_plain ?_ | refine CallQ_plain ?_ | refine CallR_plain ?_ | refine wCond ?_); simp) | (refine wIn ?_; refine And.intro (by kernel_rfl) ?_; try simp only [thenA_n]) | (first | refine wBlock ?_ | refine wScope ?_) | ((first | refine wRet ?_ | refine wExit ?_ | refine wSkip ?_); try simp) | ((first | refine wLabel ?_ | refine wOn ?_ | refine wQn ?_); try simp only [thenA_n]) | (refine CallE.pure (c1) rfl ?_) | (refine CallE.lent (c1) rfl ?_) | (refine CallF.pure (c1) rfl ?_) | (refine CallF.lent (c1) rfl ?_) | (refine CallE.own (c1) ?_) | (refine CallH.pure (c1) rfl ?_) | (refine CallH.lent (c1) rfl ?_) | (refine CallH.own (c1) ?_) | (refine CallE.pure (c2) rfl ?_) | (refine CallE.lent (c2) rfl ?_) | (refine CallF.pure (c2) rfl ?_) | (refine CallF.lent (c2) rfl ?_) | (refine CallE.own (c2) ?_) | (refine CallH.pure (c2) rfl ?_) | (refine CallH.lent (c2) rfl ?_) | (refine CallH.own (c2) ?_)
  all_goals apply hr
  all_goals simp [Try.f38]
def root1 : Zn := ⟨[47], [], 0, 0, 0⟩
def node1 : Zn := ⟨[47, 97], [], 0, 0, 0⟩
theorem put1 : putZ [root1] node1 = [root1, node1] := by decide
theorem last1 : lastZ [⟨0, 0⟩, ⟨1, 1⟩] = ⟨1, 1⟩ := by decide
theorem opnN1 : opnN 1 3 = 4 := by decide
theorem opnL1 : opnL [] 3 = [3] := by decide
def parts1 : List (List PV) := [[I 1, SB [47, 97], SB [], I 0, I 0, I 0, I 0, I 0, I 0, I 0, .sl 4 []], [I 3, SB [], SB [], I 0, I 0, I 0, I 3, I 0, I 0, I 0, .sl 4 []]]
theorem p10 : ∀ h, parts1[0]'h = [I 1, SB [47, 97], SB [], I 0, I 0, I 0, I 0, I 0, I 0, I 0, .sl 4 []] := fun _ => rfl
theorem p11 : ∀ h, parts1[1]'h = [I 3, SB [], SB [], I 0, I 0, I 0, I 3, I 0, I 0, I 0, .sl 4 []] := fun _ => rfl
theorem p1l : parts1.length = 2 := rfl
def st1 (ns : List Zn) (nx ae an : Int) : Blk := .box 51 [.p (.sl 5 (zns ns)), .row 1025, .p (I nx), .p (I 0), .p (I 0), .p (I 1), .p (.sl 4 []), .p (I ae), .p (I an)]
set_option maxHeartbeats 2000000 in
theorem do1 : Con Try.prog 60 [.ptr 1024 0, .p (.agg [I 1, I 1, I 0, I 0, I 0, I 0, SB [], .sl 11 parts1])] [st1 [root1] 1 0 0, .row 3 1 (zis [])] (.ret (.tup []) [] [st1 [root1, node1] 4 1 1, .row 3 1 (zis [3])]) := by
  have c1 := put_con [root1] node1 (by decide)
  rw [put1] at c1
  simp only [Zn.c, node1] at c1
  have c2 := open_con (zns [root1, node1]) [] [] 1 0 0 1 0 0 3 (by decide)
  rw [opnN1, opnL1] at c2
  have c3 := last_con [⟨0, 0⟩, ⟨1, 1⟩]
  rw [last1] at c3
  simp only [zxs, List.map_cons, List.map_nil] at c3
  simp only [st1, root1, node1] at c1 c2 ⊢
  generalize zns [⟨[47], [], 0, 0, 0⟩] = n1 at c1 ⊢
  generalize zns [⟨[47], [], 0, 0, 0⟩, ⟨[47, 97], [], 0, 0, 0⟩] = n2 at c1 c2 ⊢
  generalize zis [] = z0 at c2 ⊢
  generalize zis [3] = z3 at c2 ⊢
  have w1 : IntKind.i64.wrap 1 = 1 := by decide
  have w2 : IntKind.i64.wrap 2 = 2 := by decide
  have h0 := p10
  have h1 := p11
  have hl := p1l
  generalize parts1 = P at h0 h1 hl ⊢
  refine wBodyG Try.tab Try.mixed Try.func60 rfl rfl Try.ntmps60 (by simp) (by simp) fun Q hr hn hp => ?_
  repeat' first | (refine hK _ ?_; clear hK) | (refine hK _ _ ?_; clear hK) | (clear hK; refine hK _ ?_; clear hK) | (clear hK; clear hK; refine hK _ ?_; clear hK) | (clear hK; clear hK; clear hK; refine hK _ ?_; clear hK) | (clear hK; clear hK; clear hK; clear hK; refine hK _ ?_; clear hK) | (refine wSeq fun K hK => ?_) | ((first | refine wReg ?_ | refine wDrwQ rfl (by kernel_rfl) ?_ | refine wDrwI ?_ | refine wDrw (by kernel_rfl) ?_); simp only [List.map_cons, List.map_nil, strip]) | ((first | refine wIs fun K hK => ?_ | refine wOs fun K hK => ?_ | refine wQs fun K hK => ?_ | refine CallK_plain ?_ | refine CallQ_plain ?_ | refine CallR_plain ?_ | refine wCond ?_); simp [hl]) | (refine wIn ?_; refine And.intro (by kernel_rfl) ?_; try simp only [thenA_n]) | (first | refine wBlock ?_ | refine wScope ?_) | ((first | refine wRet ?_ | refine wExit ?_ | refine wSkip ?_); try simp) | ((first | refine wLabel ?_ | refine wOn ?_ | refine wQn ?_); try simp only [thenA_n])
  refine wLoop (fun N st => st.s 0 = .ptr 1024 0 ∧ st.s 7 = .p (.sl 11 P) ∧ st.s 8 = .p (I 2) ∧ st.s 3 = .ptr 3 0 ∧ st.b 3 = some (.box 56 [.p (I 1), .p (I 1), .p (I 0), .p (I 0), .p (I 0), .p (I 0), .p (SB []), .p (.sl 11 P)]) ∧ (
      (N = 2 ∧ st.s 9 = .p (I 0) ∧ st.b 1024 = some (.box 51 [.p (.sl 5 n1), .row 1025, .p (I 1), .p (I 0), .p (I 0), .p (I 1), .p (.sl 4 []), .p (I 0), .p (I 0)]) ∧ st.b 1025 = some (.row 3 1 z0)) ∨
      (N = 1 ∧ st.s 9 = .p (I 1) ∧ st.b 1024 = some (.box 51 [.p (.sl 5 n2), .row 1025, .p (I 1), .p (I 0), .p (I 0), .p (I 1), .p (.sl 4 []), .p (I 0), .p (I 0)]) ∧ st.b 1025 = some (.row 3 1 z0)) ∨
      (N = 0 ∧ st.s 9 = .p (I 2) ∧ st.b 1024 = some (.box 51 [.p (.sl 5 n2), .row 1025, .p (I 4), .p (I 0), .p (I 0), .p (I 1), .p (.sl 4 []), .p (I 0), .p (I 0)]) ∧ st.b 1025 = some (.row 3 1 z3)))) 2 (by simp) fun K N st hL ⟨g0, g7, g8, g3, b3, hs⟩ => ?_
  rcases hs with ⟨rfl, g9, b0, b1⟩ | ⟨rfl, g9, b0, b1⟩ | ⟨rfl, g9, b0, b1⟩
  · repeat' first | (refine hK _ ?_; clear hK) | (refine hK _ _ ?_; clear hK) | (clear hK; refine hK _ ?_; clear hK) | (clear hK; clear hK; refine hK _ ?_; clear hK) | (clear hK; clear hK; clear hK; refine hK _ ?_; clear hK) | (clear hK; clear hK; clear hK; clear hK; refine hK _ ?_; clear hK) | (refine wSeq fun K hK => ?_) | ((first | refine wReg ?_ | refine wDrwQ rfl (by kernel_rfl) ?_ | refine wDrwI ?_ | refine wDrw (by kernel_rfl) ?_); simp only [List.map_cons, List.map_nil, strip]) | ((first | refine wIs fun K hK => ?_ | refine wOs fun K hK => ?_ | refine wQs fun K hK => ?_ | refine CallK_plain ?_ | refine CallQ_plain ?_ | refine CallR_plain ?_ | refine wCond ?_); simp [g0, g7, g8, g3, b3, g9, b0, b1, h0, hl]) | (refine wIn ?_; refine And.intro (by kernel_rfl) ?_; try simp only [thenA_n]) | (first | refine wBlock ?_ | refine wScope ?_) | ((first | refine wRet ?_ | refine wExit ?_ | refine wSkip ?_); try simp) | ((first | refine wLabel ?_ | refine wOn ?_ | refine wQn ?_); try simp only [thenA_n]) | (refine CallE.pure (c1) rfl ?_) | (refine CallE.lent (c1) rfl ?_) | (refine CallF.pure (c1) rfl ?_) | (refine CallF.lent (c1) rfl ?_) | (refine CallE.own (c1) ?_) | (refine CallH.pure (c1) rfl ?_) | (refine CallH.lent (c1) rfl ?_) | (refine CallH.own (c1) ?_)
    refine hL _ 1 (by omega) ?_
    simp [w1, g0, g7, g8, g3, b3, g9, b0, b1]
  · repeat' first | (refine CallK_gen [1024, 1025] c2 (by decide) (by decide) (by simp [blksOf, inN, pos, renB, ren0, b0, b1]) (by simp [argsG, argG, ren0, inN, pos, renCs, renC]) ⟨[], by simp, by simp, ?_⟩; simp [lv, ouN, kpI, kpR, pos, ren, ren0, renB, renC, renCs, g0, g7, g8, g3, b3, g9]) | (refine hK _ ?_; clear hK) | (refine hK _ _ ?_; clear hK) | (clear hK; refine hK _ ?_; clear hK) | (clear hK; clear hK; refine hK _ ?_; clear hK) | (clear hK; clear hK; clear hK; refine hK _ ?_; clear hK) | (clear hK; clear hK; clear hK; clear hK; refine hK _ ?_; clear hK) | (refine wSeq fun K hK => ?_) | ((first | refine wReg ?_ | refine wDrwQ rfl (by kernel_rfl) ?_ | refine wDrwI ?_ | refine wDrw (by kernel_rfl) ?_); simp only [List.map_cons, List.map_nil, strip]) | ((first | refine wIs fun K hK => ?_ | refine wOs fun K hK => ?_ | refine wQs fun K hK => ?_ | refine CallK_plain ?_ | refine CallQ_plain ?_ | refine CallR_plain ?_ | refine wCond ?_); simp [g0, g7, g8, g3, b3, g9, b0, b1, h1, hl, lv, ouN, kpI, kpR, pos, ren, ren0, renB, renC, renCs]) | (refine wIn ?_; refine And.intro (by kernel_rfl) ?_; try simp only [thenA_n]) | (first | refine wBlock ?_ | refine wScope ?_) | ((first | refine wRet ?_ | refine wExit ?_ | refine wSkip ?_); try simp) | ((first | refine wLabel ?_ | refine wOn ?_ | refine wQn ?_); try simp only [thenA_n])
    refine hL _ 0 (by omega) ?_
    simp [w2, lv, ouN, kpI, kpR, pos, ren, ren0, g0, g7, g8, g3, b3, g9, b0, b1]
  · repeat' first | (refine hK _ ?_; clear hK) | (refine hK _ _ ?_; clear hK) | (clear hK; refine hK _ ?_; clear hK) | (clear hK; clear hK; refine hK _ ?_; clear hK) | (clear hK; clear hK; clear hK; refine hK _ ?_; clear hK) | (clear hK; clear hK; clear hK; clear hK; refine hK _ ?_; clear hK) | (refine wSeq fun K hK => ?_) | ((first | refine wReg ?_ | refine wDrwQ rfl (by kernel_rfl) ?_ | refine wDrwI ?_ | refine wDrw (by kernel_rfl) ?_); simp only [List.map_cons, List.map_nil, strip]) | ((first | refine wIs fun K hK => ?_ | refine wOs fun K hK => ?_ | refine wQs fun K hK => ?_ | refine CallK_plain ?_ | refine CallQ_plain ?_ | refine CallR_plain ?_ | refine wCond ?_); simp [g0, g7, g8, g3, b3, g9, b0, b1, hl]) | (refine wIn ?_; refine And.intro (by kernel_rfl) ?_; try simp only [thenA_n]) | (first | refine wBlock ?_ | refine wScope ?_) | ((first | refine wRet ?_ | refine wExit ?_ | refine wSkip ?_); try simp) | ((first | refine wLabel ?_ | refine wOn ?_ | refine wQn ?_); try simp only [thenA_n]) | (refine CallE.pure (c3) rfl ?_) | (refine CallE.lent (c3) rfl ?_) | (refine CallF.pure (c3) rfl ?_) | (refine CallF.lent (c3) rfl ?_) | (refine CallE.own (c3) ?_) | (refine CallH.pure (c3) rfl ?_) | (refine CallH.lent (c3) rfl ?_) | (refine CallH.own (c3) ?_)
    all_goals first | apply hr | apply hn
    all_goals refine ⟨[], by simp, by simp, ?_⟩
    all_goals simp [Try.f60, outR, outB, renB, gaN, b0, b1]
end Go.Proofs.Ytpadfoaigbfekaa
/- States: awake; the law StateAsks. -/
namespace Go.Proofs.Ytpadfoaigbfekaa
set_option linter.unusedSimpArgs false
set_option linter.unusedVariables false
open Go Go.Av
attribute [local simp] Try.T1 Try.T2 Try.T3 Try.T4 Try.T5 Try.T9 Try.T12 Try.T21 Try.T22 Try.T24 Try.T25 Try.T26 Try.T27 Try.T28 Try.T29 Try.T30 Try.T31 Try.T33 Try.T34 Try.T35 Try.T36 Try.T37 Try.T38 Try.T39 Try.T41 Try.T42 Try.T43 Try.T44 Try.T46 Try.T47 Try.T49 Try.T51 Try.T52 Try.T53 Try.T54 Try.T56 Try.T57 Try.T58 Try.T59 Try.T60 Try.T62 Try.T64 Try.T65 Try.T66 Try.T67 Try.T68 Try.T69 Try.T70 Try.T71 Try.T72 Try.T73 Try.T75 Try.T76 Try.T77 Try.T78 Try.T79 Try.T80 Try.T82 Try.T83 Try.T84 Try.T85 Try.T87 Try.T88 Try.T89 Try.T90 Try.T91 Try.T92 Try.T93 Try.T94 Try.T95 Try.T96 Try.T97 Try.T98 Try.T99 Try.T100 Try.T102 Try.T103 Try.T104 Try.T105 Try.T106 Try.T107 Try.T109 Try.T110 Try.T111 Try.T112 Try.T113 Try.T114 Try.T115 Try.T116 Try.T117 Try.T123 Try.T126
attribute [local irreducible] Go.Av.CallK Go.Av.CallE Go.Av.CallQ Go.Av.CallF Go.Av.CallR Go.Av.CallH Go.Av.Con
theorem apply1 : ACon Try.prog 33 [.p (.agg [.sl 5 (zns [root1]), .sl 1 [], I 1, I 0, I 0, I 1, .sl 4 [], I 0, I 0]), .p (.agg [I 1, I 1, I 0, I 0, I 0, I 0, SB [], .sl 11 parts1])] (.p (.agg [.sl 5 (zns [root1, node1]), .sl 1 (zis [3]), I 4, I 0, I 0, I 1, .sl 4 [], I 1, I 1])) := by
  have c1 := ownState_con (zns [root1]) [] [] 1 0 0 1 0 0 (by simp) (by simp) (by simp)
  have c2 := do1
  simp only [st1] at c2
  rw [show zis [] = [] from rfl] at c2
  generalize zns [root1] = n1 at c1 c2 ⊢
  generalize zns [root1, node1] = n2 at c2 ⊢
  generalize zis [3] = z3 at c2 ⊢
  generalize parts1 = P at c2 ⊢
  refine wBody Try.tab Try.mixed Try.func33 rfl rfl Try.ntmps33 (by simp) (by simp) fun Q hr hn => ?_
  repeat' first | (refine CallK_gen [] c1 (by decide) (by decide) (by simp [blksOf]) (by simp [argsG, argG, ren0, inN, pos, renCs, renC, toP, toPF]) ⟨[500], by simp, by simp, ?_⟩; simp [lv, ouN, kpI, kpR, pos, ren, ren0, renB, renC, renCs, renF, renFs]) | (refine CallK_gen [2, 500] c2 (by decide) (by decide) (by simp [blksOf, inN, pos, renB, renC, renCs, ren0, lv, ouN, kpI, kpR]) (by simp [argsG, argG, ren0, inN, pos, renCs, renC]) ⟨[], by simp, by simp, ?_⟩; simp [lv, ouN, kpI, kpR, pos, ren, ren0, renB, renC, renCs, renF, renFs]) | (refine hK _ ?_; clear hK) | (refine hK _ _ ?_; clear hK) | (clear hK; refine hK _ ?_; clear hK) | (clear hK; clear hK; refine hK _ ?_; clear hK) | (clear hK; clear hK; clear hK; refine hK _ ?_; clear hK) | (clear hK; clear hK; clear hK; clear hK; refine hK _ ?_; clear hK) | (refine wSeq fun K hK => ?_) | ((first | refine wReg ?_ | refine wDrwQ rfl (by kernel_rfl) ?_ | refine wDrwI ?_ | refine wDrw (by kernel_rfl) ?_); simp only [List.map_cons, List.map_nil, strip]) | ((first | refine wIs fun K hK => ?_ | refine wOs fun K hK => ?_ | refine wQs fun K hK => ?_ | refine CallK_plain ?_ | refine CallQ_plain ?_ | refine CallR_plain ?_ | refine wCond ?_); simp [lv, ouN, kpI, kpR, pos, ren, ren0, renB, renC, renCs, renF, renFs]) | (refine wIn ?_; refine And.intro (by kernel_rfl) ?_; try simp only [thenA_n]) | (first | refine wBlock ?_ | refine wScope ?_) | ((first | refine wRet ?_ | refine wExit ?_ | refine wSkip ?_); try simp) | ((first | refine wLabel ?_ | refine wOn ?_ | refine wQn ?_); try simp only [thenA_n])
  all_goals apply hr
  all_goals simp [Try.f33, lv, ouN, kpI, kpR, pos, ren, ren0, renB, renC, renCs, renF, renFs]
theorem ints1 : ACon Try.prog 58 [.p (.sl 1 (zis [3])), .p (.sl 1 [[I 3]])] (.p (B true)) := xCall_sound Try.tab Try.mixed noBase_ok 40 _ _ _ _ (by kernel_rfl)
theorem get1 : getZ [root1, node1] [47, 97] = (node1, 0) := by decide
set_option maxHeartbeats 2000000 in
theorem awake08 : ACon Try.prog 32 [] (.p (B true)) := by
  have c1 := start1
  have c2 := apply1
  have c3 := get_con [root1, node1] (zis [3]) [] 4 0 0 1 1 1 [47, 97] (by decide)
  rw [get1] at c3
  have c4 := ints1
  rw [show [⟨[47], [], 0, 0, 0⟩] = [root1] from rfl] at c1
  generalize zns [root1] = n1 at c1 c2
  generalize zns [root1, node1] = n2 at c2 c3
  generalize zis [3] = z3 at c2 c3 c4
  simp only [Zn.c, node1] at c3
  unfold parts1 at c2
  refine wBody Try.tab Try.mixed Try.func32 rfl rfl Try.ntmps32 (by simp) (by simp) fun Q hr hn => ?_
  repeat' first | (refine hK _ ?_; clear hK) | (refine hK _ _ ?_; clear hK) | (clear hK; refine hK _ ?_; clear hK) | (clear hK; clear hK; refine hK _ ?_; clear hK) | (clear hK; clear hK; clear hK; refine hK _ ?_; clear hK) | (clear hK; clear hK; clear hK; clear hK; refine hK _ ?_; clear hK) | (refine wSeq fun K hK => ?_) | ((first | refine wReg ?_ | refine wDrwQ rfl (by kernel_rfl) ?_ | refine wDrwI ?_ | refine wDrw (by kernel_rfl) ?_); simp only [List.map_cons, List.map_nil, strip]) | ((first | refine wIs fun K hK => ?_ | refine wOs fun K hK => ?_ | refine wQs fun K hK => ?_ | refine CallK_plain ?_ | refine CallQ_plain ?_ | refine CallR_plain ?_ | refine wCond ?_); simp) | (refine wIn ?_; refine And.intro (by kernel_rfl) ?_; try simp only [thenA_n]) | (first | refine wBlock ?_ | refine wScope ?_) | ((first | refine wRet ?_ | refine wExit ?_ | refine wSkip ?_); try simp) | ((first | refine wLabel ?_ | refine wOn ?_ | refine wQn ?_); try simp only [thenA_n]) | (refine CallE.pure (c1) rfl ?_) | (refine CallE.lent (c1) rfl ?_) | (refine CallF.pure (c1) rfl ?_) | (refine CallF.lent (c1) rfl ?_) | (refine CallE.own (c1) ?_) | (refine CallH.pure (c1) rfl ?_) | (refine CallH.lent (c1) rfl ?_) | (refine CallH.own (c1) ?_) | (refine CallE.pure (c2) rfl ?_) | (refine CallE.lent (c2) rfl ?_) | (refine CallF.pure (c2) rfl ?_) | (refine CallF.lent (c2) rfl ?_) | (refine CallE.own (c2) ?_) | (refine CallH.pure (c2) rfl ?_) | (refine CallH.lent (c2) rfl ?_) | (refine CallH.own (c2) ?_) | (refine CallE.pure (c3) rfl ?_) | (refine CallE.lent (c3) rfl ?_) | (refine CallF.pure (c3) rfl ?_) | (refine CallF.lent (c3) rfl ?_) | (refine CallE.own (c3) ?_) | (refine CallH.pure (c3) rfl ?_) | (refine CallH.lent (c3) rfl ?_) | (refine CallH.own (c3) ?_) | (refine CallE.pure (c4) rfl ?_) | (refine CallE.lent (c4) rfl ?_) | (refine CallF.pure (c4) rfl ?_) | (refine CallF.lent (c4) rfl ?_) | (refine CallE.own (c4) ?_) | (refine CallH.pure (c4) rfl ?_) | (refine CallH.lent (c4) rfl ?_) | (refine CallH.own (c4) ?_)
  all_goals apply hr
  all_goals simp [Try.f32]
end Go.Proofs.Ytpadfoaigbfekaa
/- Nodes of the tree: the law ZnodeStays. -/
namespace Go.Proofs.Ytpadfoaigbfekaa
set_option linter.unusedSimpArgs false
set_option linter.unusedVariables false
open Go Go.Av
attribute [local simp] Try.T1 Try.T2 Try.T3 Try.T4 Try.T5 Try.T9 Try.T12 Try.T21 Try.T22 Try.T24 Try.T25 Try.T26 Try.T27 Try.T28 Try.T29 Try.T30 Try.T31 Try.T33 Try.T34 Try.T35 Try.T36 Try.T37 Try.T38 Try.T39 Try.T41 Try.T42 Try.T43 Try.T44 Try.T46 Try.T47 Try.T49 Try.T51 Try.T52 Try.T53 Try.T54 Try.T56 Try.T57 Try.T58 Try.T59 Try.T60 Try.T62 Try.T64 Try.T65 Try.T66 Try.T67 Try.T68 Try.T69 Try.T70 Try.T71 Try.T72 Try.T73 Try.T75 Try.T76 Try.T77 Try.T78 Try.T79 Try.T80 Try.T82 Try.T83 Try.T84 Try.T85 Try.T87 Try.T88 Try.T89 Try.T90 Try.T91 Try.T92 Try.T93 Try.T94 Try.T95 Try.T96 Try.T97 Try.T98 Try.T99 Try.T100 Try.T102 Try.T103 Try.T104 Try.T105 Try.T106 Try.T107 Try.T109 Try.T110 Try.T111 Try.T112 Try.T113 Try.T114 Try.T115 Try.T116 Try.T117 Try.T123 Try.T126
attribute [local irreducible] Go.Av.CallK Go.Av.CallE Go.Av.CallQ Go.Av.CallF Go.Av.CallR Go.Av.CallH Go.Av.Con
theorem rst_len (l : List Zn) (q : List UInt8) : (rst l q).length ≤ l.length := (rst_sub l q).length_le
theorem putZ_len (l : List Zn) (z : Zn) : (putZ l z).length ≤ l.length + 1 := by
  have := rst_len (l.drop (att l z.p)) z.p
  have h2 := att_le l z.p
  unfold putZ
  simp at this ⊢
  omega
theorem goneZ_len (l : List Zn) (p : List UInt8) : (gone l p).length ≤ l.length := List.length_filter_le _ _
end Go.Proofs.Ytpadfoaigbfekaa
/- States: far, of any transactions. -/
namespace Go.Proofs.Ytpadfoaigbfekaa
set_option linter.unusedSimpArgs false
set_option linter.unusedVariables false
open Go Go.Av
attribute [local simp] Try.T1 Try.T2 Try.T3 Try.T4 Try.T5 Try.T9 Try.T12 Try.T21 Try.T22 Try.T24 Try.T25 Try.T26 Try.T27 Try.T28 Try.T29 Try.T30 Try.T31 Try.T33 Try.T34 Try.T35 Try.T36 Try.T37 Try.T38 Try.T39 Try.T41 Try.T42 Try.T43 Try.T44 Try.T46 Try.T47 Try.T49 Try.T51 Try.T52 Try.T53 Try.T54 Try.T56 Try.T57 Try.T58 Try.T59 Try.T60 Try.T62 Try.T64 Try.T65 Try.T66 Try.T67 Try.T68 Try.T69 Try.T70 Try.T71 Try.T72 Try.T73 Try.T75 Try.T76 Try.T77 Try.T78 Try.T79 Try.T80 Try.T82 Try.T83 Try.T84 Try.T85 Try.T87 Try.T88 Try.T89 Try.T90 Try.T91 Try.T92 Try.T93 Try.T94 Try.T95 Try.T96 Try.T97 Try.T98 Try.T99 Try.T100 Try.T102 Try.T103 Try.T104 Try.T105 Try.T106 Try.T107 Try.T109 Try.T110 Try.T111 Try.T112 Try.T113 Try.T114 Try.T115 Try.T116 Try.T117 Try.T123 Try.T126
attribute [local irreducible] Go.Av.CallK Go.Av.CallE Go.Av.CallQ Go.Av.CallF Go.Av.CallR Go.Av.CallH Go.Av.Con
def txns (l : List Tx) : List (List PV) := l.map Tx.cells
@[simp] theorem txns_len (l : List Tx) : (txns l).length = l.length := by simp [txns]
@[simp] theorem txns_getElem (l : List Tx) (k : Nat) (h : k < (txns l).length) : (txns l)[k] = [I (l[k]'(by simpa using h)).e, I (l[k]'(by simpa using h)).n, I (l[k]'(by simpa using h)).s, I (l[k]'(by simpa using h)).x, I (l[k]'(by simpa using h)).r, I (l[k]'(by simpa using h)).b, SB (l[k]'(by simpa using h)).m, .sl 11 (pts (l[k]'(by simpa using h)).ps)] := by simp [txns, Tx.cells]
theorem txns_get {l : List Tx} {k : Nat} (h : k < l.length) : (txns l)[k]? = some [I l[k].e, I l[k].n, I l[k].s, I l[k].x, I l[k].r, I l[k].b, SB l[k].m, .sl 11 (pts l[k].ps)] := by simp [txns, h, Tx.cells]
def farF (n : Int) (l : List Tx) : Int := l.foldl (fun n t => IntKind.i64.wrap (n + IntKind.i64.wrap (1 + (t.ps.length : Int)))) n
theorem farF_snoc (n : Int) {l : List Tx} {k : Nat} (h : k < l.length) : farF n (l.take (k + 1)) = IntKind.i64.wrap (farF n (l.take k) + IntKind.i64.wrap (1 + (l[k].ps.length : Int))) := by
  rw [take_snoc _ k h, farF, List.foldl_append]; rfl
def far0 (a b c : Nat) : Int := IntKind.i64.wrap (IntKind.i64.wrap ((b : Int) + c) + a)
def farB (n : Int) (l : List Tx) : Bool := decide (100 < l.length) || (decide (300 < farF n l) || decide (90 < l.length))
theorem farB_con (ns ss ms : List (List PV)) (nx e n k ae an : Int) (l : List Tx) : ACon Try.prog 31 [.p (.agg [.sl 5 ns, .sl 1 ss, I nx, I e, I n, I k, .sl 4 ms, I ae, I an]), .p (.sl 8 (txns l))] (.p (B (farB (far0 ns.length ss.length ms.length) l))) := by
  refine ACon.len ⟨Try.f31, Try.func31, rfl, rfl⟩ 1 _ _ rfl fun hlen => ?_
  simp only [txns_len] at hlen
  by_cases h1 : 100 < l.length
  · have h1' : (100 : Int) < l.length := by omega
    rw [show farB (far0 ns.length ss.length ms.length) l = true by unfold farB; simp [h1]]
    refine wBody Try.tab Try.mixed Try.func31 rfl rfl Try.ntmps31 (by simp) (by simp) fun Q hr hn => ?_
    repeat' first | (refine hK _ ?_; clear hK) | (refine hK _ _ ?_; clear hK) | (clear hK; refine hK _ ?_; clear hK) | (clear hK; clear hK; refine hK _ ?_; clear hK) | (clear hK; clear hK; clear hK; refine hK _ ?_; clear hK) | (clear hK; clear hK; clear hK; clear hK; refine hK _ ?_; clear hK) | (refine wSeq fun K hK => ?_) | ((first | refine wReg ?_ | refine wDrwQ rfl (by kernel_rfl) ?_ | refine wDrwI ?_ | refine wDrw (by kernel_rfl) ?_); simp only [List.map_cons, List.map_nil, strip]) | ((first | refine wIs fun K hK => ?_ | refine wOs fun K hK => ?_ | refine wQs fun K hK => ?_ | refine CallK_plain ?_ | refine CallQ_plain ?_ | refine CallR_plain ?_ | refine wCond ?_); simp [h1, h1']) | (refine wIn ?_; refine And.intro (by kernel_rfl) ?_; try simp only [thenA_n]) | (first | refine wBlock ?_ | refine wScope ?_) | ((first | refine wRet ?_ | refine wExit ?_ | refine wSkip ?_); try simp) | ((first | refine wLabel ?_ | refine wOn ?_ | refine wQn ?_); try simp only [thenA_n])
    all_goals apply hr
    all_goals simp [Try.f31]
  have h1' : ¬ (100 : Int) < l.length := by omega
  have hf : farB (far0 ns.length ss.length ms.length) l = (decide (300 < farF (far0 ns.length ss.length ms.length) l) || decide (90 < l.length)) := by unfold farB; simp [h1]
  rw [hf]
  generalize hz : far0 ns.length ss.length ms.length = z
  unfold far0 at hz
  refine wBody Try.tab Try.mixed Try.func31 rfl rfl Try.ntmps31 (by simp) (by simp) fun Q hr hn => ?_
  repeat' first | (refine hK _ ?_; clear hK) | (refine hK _ _ ?_; clear hK) | (clear hK; refine hK _ ?_; clear hK) | (clear hK; clear hK; refine hK _ ?_; clear hK) | (clear hK; clear hK; clear hK; refine hK _ ?_; clear hK) | (clear hK; clear hK; clear hK; clear hK; refine hK _ ?_; clear hK) | (refine wSeq fun K hK => ?_) | ((first | refine wReg ?_ | refine wDrwQ rfl (by kernel_rfl) ?_ | refine wDrwI ?_ | refine wDrw (by kernel_rfl) ?_); simp only [List.map_cons, List.map_nil, strip]) | ((first | refine wIs fun K hK => ?_ | refine wOs fun K hK => ?_ | refine wQs fun K hK => ?_ | refine CallK_plain ?_ | refine CallQ_plain ?_ | refine CallR_plain ?_ | refine wCond ?_); simp [h1, h1', hz]) | (refine wIn ?_; refine And.intro (by kernel_rfl) ?_; try simp only [thenA_n]) | (first | refine wBlock ?_ | refine wScope ?_) | ((first | refine wRet ?_ | refine wExit ?_ | refine wSkip ?_); try simp) | ((first | refine wLabel ?_ | refine wOn ?_ | refine wQn ?_); try simp only [thenA_n])
  refine wLoop (fun N st => ∃ k, k + N = l.length ∧ st.s 1 = .p (.sl 8 (txns l)) ∧ st.s 6 = .p (I k) ∧ st.s 5 = .p (I (farF z (l.take k)))) l.length ⟨0, by simp [farF, hz]⟩ fun K N st hL ⟨k, hk, g1, g6, g5⟩ => ?_
  by_cases hlt : k < l.length
  · have hw := wrapS k _ hlt hlen
    have he := txns_get hlt
    have hs := farF_snoc z hlt
    repeat' first | (refine hK _ ?_; clear hK) | (refine hK _ _ ?_; clear hK) | (clear hK; refine hK _ ?_; clear hK) | (clear hK; clear hK; refine hK _ ?_; clear hK) | (clear hK; clear hK; clear hK; refine hK _ ?_; clear hK) | (clear hK; clear hK; clear hK; clear hK; refine hK _ ?_; clear hK) | (refine wSeq fun K hK => ?_) | ((first | refine wReg ?_ | refine wDrwQ rfl (by kernel_rfl) ?_ | refine wDrwI ?_ | refine wDrw (by kernel_rfl) ?_); simp only [List.map_cons, List.map_nil, strip]) | ((first | refine wIs fun K hK => ?_ | refine wOs fun K hK => ?_ | refine wQs fun K hK => ?_ | refine CallK_plain ?_ | refine CallQ_plain ?_ | refine CallR_plain ?_ | refine wCond ?_); simp [g1, g6, g5, hlt, hw, he]) | (refine wIn ?_; refine And.intro (by kernel_rfl) ?_; try simp only [thenA_n]) | (first | refine wBlock ?_ | refine wScope ?_) | ((first | refine wRet ?_ | refine wExit ?_ | refine wSkip ?_); try simp) | ((first | refine wLabel ?_ | refine wOn ?_ | refine wQn ?_); try simp only [thenA_n])
    refine hL _ (N - 1) (by omega) ⟨k + 1, by omega, ?_⟩
    simp [g1, g6, g5, hw, hs]
  · obtain rfl : k = l.length := by omega
    rw [List.take_of_length_le (Nat.le_refl _)] at g5
    generalize farF z l = s at g5 hr
    by_cases h3 : 300 < s
    · repeat' first | (refine hK _ ?_; clear hK) | (refine hK _ _ ?_; clear hK) | (clear hK; refine hK _ ?_; clear hK) | (clear hK; clear hK; refine hK _ ?_; clear hK) | (clear hK; clear hK; clear hK; refine hK _ ?_; clear hK) | (clear hK; clear hK; clear hK; clear hK; refine hK _ ?_; clear hK) | (refine wSeq fun K hK => ?_) | ((first | refine wReg ?_ | refine wDrwQ rfl (by kernel_rfl) ?_ | refine wDrwI ?_ | refine wDrw (by kernel_rfl) ?_); simp only [List.map_cons, List.map_nil, strip]) | ((first | refine wIs fun K hK => ?_ | refine wOs fun K hK => ?_ | refine wQs fun K hK => ?_ | refine CallK_plain ?_ | refine CallQ_plain ?_ | refine CallR_plain ?_ | refine wCond ?_); simp [g1, g6, g5, h3]) | (refine wIn ?_; refine And.intro (by kernel_rfl) ?_; try simp only [thenA_n]) | (first | refine wBlock ?_ | refine wScope ?_) | ((first | refine wRet ?_ | refine wExit ?_ | refine wSkip ?_); try simp) | ((first | refine wLabel ?_ | refine wOn ?_ | refine wQn ?_); try simp only [thenA_n])
      all_goals apply hr
      all_goals simp [Try.f31, h3]
    · by_cases h4 : 90 < l.length
      · have h4' : (90 : Int) < l.length := by omega
        repeat' first | (refine hK _ ?_; clear hK) | (refine hK _ _ ?_; clear hK) | (clear hK; refine hK _ ?_; clear hK) | (clear hK; clear hK; refine hK _ ?_; clear hK) | (clear hK; clear hK; clear hK; refine hK _ ?_; clear hK) | (clear hK; clear hK; clear hK; clear hK; refine hK _ ?_; clear hK) | (refine wSeq fun K hK => ?_) | ((first | refine wReg ?_ | refine wDrwQ rfl (by kernel_rfl) ?_ | refine wDrwI ?_ | refine wDrw (by kernel_rfl) ?_); simp only [List.map_cons, List.map_nil, strip]) | ((first | refine wIs fun K hK => ?_ | refine wOs fun K hK => ?_ | refine wQs fun K hK => ?_ | refine CallK_plain ?_ | refine CallQ_plain ?_ | refine CallR_plain ?_ | refine wCond ?_); simp [g1, g6, g5, h3, h4, h4']) | (refine wIn ?_; refine And.intro (by kernel_rfl) ?_; try simp only [thenA_n]) | (first | refine wBlock ?_ | refine wScope ?_) | ((first | refine wRet ?_ | refine wExit ?_ | refine wSkip ?_); try simp) | ((first | refine wLabel ?_ | refine wOn ?_ | refine wQn ?_); try simp only [thenA_n])
        all_goals apply hr
        all_goals simp [Try.f31, h3, h4]
      · have h4' : ¬ (90 : Int) < l.length := by omega
        repeat' first | (refine hK _ ?_; clear hK) | (refine hK _ _ ?_; clear hK) | (clear hK; refine hK _ ?_; clear hK) | (clear hK; clear hK; refine hK _ ?_; clear hK) | (clear hK; clear hK; clear hK; refine hK _ ?_; clear hK) | (clear hK; clear hK; clear hK; clear hK; refine hK _ ?_; clear hK) | (refine wSeq fun K hK => ?_) | ((first | refine wReg ?_ | refine wDrwQ rfl (by kernel_rfl) ?_ | refine wDrwI ?_ | refine wDrw (by kernel_rfl) ?_); simp only [List.map_cons, List.map_nil, strip]) | ((first | refine wIs fun K hK => ?_ | refine wOs fun K hK => ?_ | refine wQs fun K hK => ?_ | refine CallK_plain ?_ | refine CallQ_plain ?_ | refine CallR_plain ?_ | refine wCond ?_); simp [g1, g6, g5, h3, h4, h4']) | (refine wIn ?_; refine And.intro (by kernel_rfl) ?_; try simp only [thenA_n]) | (first | refine wBlock ?_ | refine wScope ?_) | ((first | refine wRet ?_ | refine wExit ?_ | refine wSkip ?_); try simp) | ((first | refine wLabel ?_ | refine wOn ?_ | refine wQn ?_); try simp only [thenA_n])
        all_goals apply hr
        all_goals simp [Try.f31, h3, h4]
end Go.Proofs.Ytpadfoaigbfekaa
/- States: the document's copies and lists without a number. -/
namespace Go.Proofs.Ytpadfoaigbfekaa
set_option linter.unusedSimpArgs false
set_option linter.unusedVariables false
open Go Go.Av
attribute [local simp] Try.T1 Try.T2 Try.T3 Try.T4 Try.T5 Try.T9 Try.T12 Try.T21 Try.T22 Try.T24 Try.T25 Try.T26 Try.T27 Try.T28 Try.T29 Try.T30 Try.T31 Try.T33 Try.T34 Try.T35 Try.T36 Try.T37 Try.T38 Try.T39 Try.T41 Try.T42 Try.T43 Try.T44 Try.T46 Try.T47 Try.T49 Try.T51 Try.T52 Try.T53 Try.T54 Try.T56 Try.T57 Try.T58 Try.T59 Try.T60 Try.T62 Try.T64 Try.T65 Try.T66 Try.T67 Try.T68 Try.T69 Try.T70 Try.T71 Try.T72 Try.T73 Try.T75 Try.T76 Try.T77 Try.T78 Try.T79 Try.T80 Try.T82 Try.T83 Try.T84 Try.T85 Try.T87 Try.T88 Try.T89 Try.T90 Try.T91 Try.T92 Try.T93 Try.T94 Try.T95 Try.T96 Try.T97 Try.T98 Try.T99 Try.T100 Try.T102 Try.T103 Try.T104 Try.T105 Try.T106 Try.T107 Try.T109 Try.T110 Try.T111 Try.T112 Try.T113 Try.T114 Try.T115 Try.T116 Try.T117 Try.T123 Try.T126
attribute [local irreducible] Go.Av.CallK Go.Av.CallE Go.Av.CallQ Go.Av.CallF Go.Av.CallR Go.Av.CallH Go.Av.Con
theorem zis_snoc (l : List Int) (a : Int) : zis l ++ [[I a]] = zis (l ++ [a]) := by simp [zis]
theorem but_take_len (l : List Int) (n : Int) (k : Nat) : (but (l.take k) n).length ≤ k := Nat.le_trans (but_len _ _) (by simp; omega)
theorem without08_con (l : List Int) (n : Int) (hl : l.length ≤ 1000000) : ACon Try.prog 63 [.p (.sl 1 (zis l)), .p (I n)] (.p (.sl 1 (zis (but l n)))) := by
  refine wBody Try.tab Try.mixed Try.func63 rfl rfl Try.ntmps63 (by simp) (by simp) fun Q hr hn => ?_
  repeat' first | (refine hK _ ?_; clear hK) | (refine hK _ _ ?_; clear hK) | (clear hK; refine hK _ ?_; clear hK) | (clear hK; clear hK; refine hK _ ?_; clear hK) | (clear hK; clear hK; clear hK; refine hK _ ?_; clear hK) | (clear hK; clear hK; clear hK; clear hK; refine hK _ ?_; clear hK) | (refine wSeq fun K hK => ?_) | ((first | refine wReg ?_ | refine wDrwQ rfl (by kernel_rfl) ?_ | refine wDrwI ?_ | refine wDrw (by kernel_rfl) ?_); simp only [List.map_cons, List.map_nil, strip]) | ((first | refine wIs fun K hK => ?_ | refine wOs fun K hK => ?_ | refine wQs fun K hK => ?_ | refine CallK_plain ?_ | refine CallQ_plain ?_ | refine CallR_plain ?_ | refine wCond ?_); simp) | (refine wIn ?_; refine And.intro (by kernel_rfl) ?_; try simp only [thenA_n]) | (first | refine wBlock ?_ | refine wScope ?_) | ((first | refine wRet ?_ | refine wExit ?_ | refine wSkip ?_); try simp) | ((first | refine wLabel ?_ | refine wOn ?_ | refine wQn ?_); try simp only [thenA_n])
  refine wLoopG [.row 5 3 1] (fun N st => ∃ k, k + N = l.length ∧ st.s 1 = .p (I n) ∧ st.s 8 = .p (.sl 1 (zis l)) ∧ st.s 9 = .p (I l.length) ∧ st.s 10 = .p (I k) ∧ st.s 5 = .row 5 ∧ st.b 5 = some (.row 3 1 (zis (but (l.take k) n)))) l.length ⟨0, by simp [but, zis]⟩ fun K N st hL ⟨k, hk, g1, g8, g9, g10, g5, b5⟩ => ?_
  have hkl := but_take_len l n k
  by_cases hlt : k < l.length
  · have hw := wrapX k _ hlt (by omega)
    have he := zis_get hlt
    have hs := but_snoc hlt n
    have hx := zis_snoc (but (l.take k) n) l[k]
    by_cases o : l[k] = n
    · rw [if_pos o] at hs
      repeat' first | (refine hK _ ?_; clear hK) | (refine hK _ _ ?_; clear hK) | (clear hK; refine hK _ ?_; clear hK) | (clear hK; clear hK; refine hK _ ?_; clear hK) | (clear hK; clear hK; clear hK; refine hK _ ?_; clear hK) | (clear hK; clear hK; clear hK; clear hK; refine hK _ ?_; clear hK) | (refine wSeq fun K hK => ?_) | ((first | refine wReg ?_ | refine wDrwQ rfl (by kernel_rfl) ?_ | refine wDrwI ?_ | refine wDrw (by kernel_rfl) ?_); simp only [List.map_cons, List.map_nil, strip]) | ((first | refine wIs fun K hK => ?_ | refine wOs fun K hK => ?_ | refine wQs fun K hK => ?_ | refine CallK_plain ?_ | refine CallQ_plain ?_ | refine CallR_plain ?_ | refine wCond ?_); simp [g1, g8, g9, g10, g5, b5, hlt, hw, he, o]) | (refine wIn ?_; refine And.intro (by kernel_rfl) ?_; try simp only [thenA_n]) | (first | refine wBlock ?_ | refine wScope ?_) | ((first | refine wRet ?_ | refine wExit ?_ | refine wSkip ?_); try simp) | ((first | refine wLabel ?_ | refine wOn ?_ | refine wQn ?_); try simp only [thenA_n])
      refine hL _ (N - 1) (by omega) ⟨k + 1, by omega, ?_⟩
      simp [g1, g8, g9, g10, g5, b5, hw, hs]
    · rw [if_neg o] at hs
      rw [← hs] at hx
      repeat' first | (refine And.intro (by (try simp at hkl ⊢); omega) ?_) | (refine hK _ ?_; clear hK) | (refine hK _ _ ?_; clear hK) | (clear hK; refine hK _ ?_; clear hK) | (clear hK; clear hK; refine hK _ ?_; clear hK) | (clear hK; clear hK; clear hK; refine hK _ ?_; clear hK) | (clear hK; clear hK; clear hK; clear hK; refine hK _ ?_; clear hK) | (refine wSeq fun K hK => ?_) | ((first | refine wReg ?_ | refine wDrwQ rfl (by kernel_rfl) ?_ | refine wDrwI ?_ | refine wDrw (by kernel_rfl) ?_); simp only [List.map_cons, List.map_nil, strip]) | ((first | refine wIs fun K hK => ?_ | refine wOs fun K hK => ?_ | refine wQs fun K hK => ?_ | refine CallK_plain ?_ | refine CallQ_plain ?_ | refine CallR_plain ?_ | refine wCond ?_); simp [g1, g8, g9, g10, g5, b5, hlt, hw, he, o]) | (refine wIn ?_; refine And.intro (by kernel_rfl) ?_; try simp only [thenA_n]) | (first | refine wBlock ?_ | refine wScope ?_) | ((first | refine wRet ?_ | refine wExit ?_ | refine wSkip ?_); try simp) | ((first | refine wLabel ?_ | refine wOn ?_ | refine wQn ?_); try simp only [thenA_n])
      refine hL _ (N - 1) (by omega) ⟨k + 1, by omega, ?_⟩
      simp [g1, g8, g9, g10, g5, b5, hw, hx]
  · rw [List.take_of_length_le (by omega)] at b5
    repeat' first | (refine hK _ ?_; clear hK) | (refine hK _ _ ?_; clear hK) | (clear hK; refine hK _ ?_; clear hK) | (clear hK; clear hK; refine hK _ ?_; clear hK) | (clear hK; clear hK; clear hK; refine hK _ ?_; clear hK) | (clear hK; clear hK; clear hK; clear hK; refine hK _ ?_; clear hK) | (refine wSeq fun K hK => ?_) | ((first | refine wReg ?_ | refine wDrwQ rfl (by kernel_rfl) ?_ | refine wDrwI ?_ | refine wDrw (by kernel_rfl) ?_); simp only [List.map_cons, List.map_nil, strip]) | ((first | refine wIs fun K hK => ?_ | refine wOs fun K hK => ?_ | refine wQs fun K hK => ?_ | refine CallK_plain ?_ | refine CallQ_plain ?_ | refine CallR_plain ?_ | refine wCond ?_); simp [g1, g8, g9, g10, g5, b5, hlt]) | (refine wIn ?_; refine And.intro (by kernel_rfl) ?_; try simp only [thenA_n]) | (first | refine wBlock ?_ | refine wScope ?_) | ((first | refine wRet ?_ | refine wExit ?_ | refine wSkip ?_); try simp) | ((first | refine wLabel ?_ | refine wOn ?_ | refine wQn ?_); try simp only [thenA_n])
    all_goals apply hr
    all_goals simp [Try.f63, g5, b5]
theorem copied08_con (e n k : Int) (ms : List (List PV)) (hl : ms.length ≤ 4398046510976) : ACon Try.prog 61 [.p (.agg [I e, I n, I k, .sl 4 ms])] (.p (.agg [I e, I n, I k, .sl 4 ms])) := by
  refine wBody Try.tab Try.mixed Try.func61 rfl rfl Try.ntmps61 (by simp) (by simp) fun Q hr hn => ?_
  repeat' first | (refine And.intro (by (try simp); omega) ?_) | (refine Or.inl ?_) | (refine hK _ ?_; clear hK) | (refine hK _ _ ?_; clear hK) | (clear hK; refine hK _ ?_; clear hK) | (clear hK; clear hK; refine hK _ ?_; clear hK) | (clear hK; clear hK; clear hK; refine hK _ ?_; clear hK) | (clear hK; clear hK; clear hK; clear hK; refine hK _ ?_; clear hK) | (refine wSeq fun K hK => ?_) | ((first | refine wReg ?_ | refine wDrwQ rfl (by kernel_rfl) ?_ | refine wDrwI ?_ | refine wDrw (by kernel_rfl) ?_); simp only [List.map_cons, List.map_nil, strip]) | ((first | refine wIs fun K hK => ?_ | refine wOs fun K hK => ?_ | refine wQs fun K hK => ?_ | refine CallK_plain ?_ | refine CallQ_plain ?_ | refine CallR_plain ?_ | refine wCond ?_); simp) | (refine wIn ?_; refine And.intro (by kernel_rfl) ?_; try simp only [thenA_n]) | (first | refine wBlock ?_ | refine wScope ?_) | ((first | refine wRet ?_ | refine wExit ?_ | refine wSkip ?_); try simp) | ((first | refine wLabel ?_ | refine wOn ?_ | refine wQn ?_); try simp only [thenA_n])
  all_goals apply hr
  all_goals simp [Try.f61]
end Go.Proofs.Ytpadfoaigbfekaa
/- States: the document's list with a number. -/
namespace Go.Proofs.Ytpadfoaigbfekaa
set_option linter.unusedSimpArgs false
set_option linter.unusedVariables false
open Go Go.Av
attribute [local simp] Try.T1 Try.T2 Try.T3 Try.T4 Try.T5 Try.T9 Try.T12 Try.T21 Try.T22 Try.T24 Try.T25 Try.T26 Try.T27 Try.T28 Try.T29 Try.T30 Try.T31 Try.T33 Try.T34 Try.T35 Try.T36 Try.T37 Try.T38 Try.T39 Try.T41 Try.T42 Try.T43 Try.T44 Try.T46 Try.T47 Try.T49 Try.T51 Try.T52 Try.T53 Try.T54 Try.T56 Try.T57 Try.T58 Try.T59 Try.T60 Try.T62 Try.T64 Try.T65 Try.T66 Try.T67 Try.T68 Try.T69 Try.T70 Try.T71 Try.T72 Try.T73 Try.T75 Try.T76 Try.T77 Try.T78 Try.T79 Try.T80 Try.T82 Try.T83 Try.T84 Try.T85 Try.T87 Try.T88 Try.T89 Try.T90 Try.T91 Try.T92 Try.T93 Try.T94 Try.T95 Try.T96 Try.T97 Try.T98 Try.T99 Try.T100 Try.T102 Try.T103 Try.T104 Try.T105 Try.T106 Try.T107 Try.T109 Try.T110 Try.T111 Try.T112 Try.T113 Try.T114 Try.T115 Try.T116 Try.T117 Try.T123 Try.T126
attribute [local irreducible] Go.Av.CallK Go.Av.CallE Go.Av.CallQ Go.Av.CallF Go.Av.CallR Go.Av.CallH Go.Av.Con
def wst1 (n : Int) (q : List Int × Bool) (x : Int) : List Int × Bool :=
  if n ≤ x ∧ q.2 = false then (if x = n then q.1 ++ [n] else q.1 ++ [n] ++ [x], true) else (if x = n then q.1 else q.1 ++ [x], q.2)
def wst (l : List Int) (n : Int) : List Int × Bool := l.foldl (wst1 n) ([], false)
theorem wst_snoc {l : List Int} {k : Nat} (h : k < l.length) (n : Int) : wst (l.take (k + 1)) n = wst1 n (wst (l.take k) n) l[k] := by
  rw [List.take_succ_eq_append_getElem h, wst, List.foldl_append]; rfl
theorem wst_len (n : Int) : ∀ (l : List Int) (q : List Int × Bool), (l.foldl (wst1 n) q).1.length ≤ q.1.length + 2 * l.length
  | [], q => by simp
  | x :: l, q => by
    have := wst_len n l (wst1 n q x)
    have h1 : (wst1 n q x).1.length ≤ q.1.length + 2 := by unfold wst1; split <;> split <;> simp
    simp only [List.foldl_cons, List.length_cons]
    omega
def wth (l : List Int) (n : Int) : List Int := if (wst l n).2 = true then (wst l n).1 else (wst l n).1 ++ [n]
theorem wst_take_len (l : List Int) (n : Int) (k : Nat) : (wst (l.take k) n).1.length ≤ 2 * k := by
  have := wst_len n (l.take k) ([], false)
  have h2 : (l.take k).length ≤ k := by simp; omega
  unfold wst
  simp at this ⊢; omega
theorem with08_con (l : List Int) (n : Int) (hl : l.length ≤ 1000000) : ACon Try.prog 62 [.p (.sl 1 (zis l)), .p (I n)] (.p (.sl 1 (zis (wth l n)))) := by
  refine wBody Try.tab Try.mixed Try.func62 rfl rfl Try.ntmps62 (by simp) (by simp) fun Q hr hn => ?_
  repeat' first | (refine hK _ ?_; clear hK) | (refine hK _ _ ?_; clear hK) | (clear hK; refine hK _ ?_; clear hK) | (clear hK; clear hK; refine hK _ ?_; clear hK) | (clear hK; clear hK; clear hK; refine hK _ ?_; clear hK) | (clear hK; clear hK; clear hK; clear hK; refine hK _ ?_; clear hK) | (refine wSeq fun K hK => ?_) | ((first | refine wReg ?_ | refine wDrwQ rfl (by kernel_rfl) ?_ | refine wDrwI ?_ | refine wDrw (by kernel_rfl) ?_); simp only [List.map_cons, List.map_nil, strip]) | ((first | refine wIs fun K hK => ?_ | refine wOs fun K hK => ?_ | refine wQs fun K hK => ?_ | refine CallK_plain ?_ | refine CallQ_plain ?_ | refine CallR_plain ?_ | refine wCond ?_); simp) | (refine wIn ?_; refine And.intro (by kernel_rfl) ?_; try simp only [thenA_n]) | (first | refine wBlock ?_ | refine wScope ?_) | ((first | refine wRet ?_ | refine wExit ?_ | refine wSkip ?_); try simp) | ((first | refine wLabel ?_ | refine wOn ?_ | refine wQn ?_); try simp only [thenA_n])
  refine wLoopG [.row 5 3 1] (fun N st => ∃ k, k + N = l.length ∧ st.s 1 = .p (I n) ∧ st.s 9 = .p (.sl 1 (zis l)) ∧ st.s 10 = .p (I l.length) ∧ st.s 11 = .p (I k) ∧ st.s 5 = .row 5 ∧ st.s 6 = .p (B (wst (l.take k) n).2) ∧ st.b 5 = some (.row 3 1 (zis (wst (l.take k) n).1))) l.length ⟨0, by simp [wst, zis]⟩ fun K N st hL ⟨k, hk, g1, g9, g10, g11, g5, g6, b5⟩ => ?_
  have hkl := wst_take_len l n k
  by_cases hlt : k < l.length
  · have hw := wrapX k _ hlt (by omega)
    have he := zis_get hlt
    have hs := wst_snoc hlt n
    generalize wst (l.take k) n = q at hs g6 b5 hkl
    obtain ⟨o, d⟩ := q
    dsimp only at g6 b5 hkl
    generalize hx : l[k] = x at hs he
    by_cases h1 : n ≤ x
    · cases d
      · by_cases h2 : x = n
        · have hs' : wst (l.take (k + 1)) n = (o ++ [n], true) := by rw [hs]; simp [wst1, h1, h2]
          repeat' first | (refine And.intro (by (try simp at hkl ⊢); omega) ?_) | (refine hK _ ?_; clear hK) | (refine hK _ _ ?_; clear hK) | (clear hK; refine hK _ ?_; clear hK) | (clear hK; clear hK; refine hK _ ?_; clear hK) | (clear hK; clear hK; clear hK; refine hK _ ?_; clear hK) | (clear hK; clear hK; clear hK; clear hK; refine hK _ ?_; clear hK) | (refine wSeq fun K hK => ?_) | ((first | refine wReg ?_ | refine wDrwQ rfl (by kernel_rfl) ?_ | refine wDrwI ?_ | refine wDrw (by kernel_rfl) ?_); simp only [List.map_cons, List.map_nil, strip]) | ((first | refine wIs fun K hK => ?_ | refine wOs fun K hK => ?_ | refine wQs fun K hK => ?_ | refine CallK_plain ?_ | refine CallQ_plain ?_ | refine CallR_plain ?_ | refine wCond ?_); simp [g1, g9, g10, g11, g5, g6, b5, hlt, hw, he, hx, h1, h2, zis_snoc]) | (refine wIn ?_; refine And.intro (by kernel_rfl) ?_; try simp only [thenA_n]) | (first | refine wBlock ?_ | refine wScope ?_) | ((first | refine wRet ?_ | refine wExit ?_ | refine wSkip ?_); try simp) | ((first | refine wLabel ?_ | refine wOn ?_ | refine wQn ?_); try simp only [thenA_n])
          refine hL _ (N - 1) (by omega) ⟨k + 1, by omega, ?_⟩
          simp [g1, g9, g10, g11, g5, g6, b5, hw, hs', zis_snoc]
        · have hs' : wst (l.take (k + 1)) n = (o ++ [n] ++ [x], true) := by rw [hs]; simp [wst1, h1, h2]
          repeat' first | (refine And.intro (by (try simp at hkl ⊢); omega) ?_) | (refine hK _ ?_; clear hK) | (refine hK _ _ ?_; clear hK) | (clear hK; refine hK _ ?_; clear hK) | (clear hK; clear hK; refine hK _ ?_; clear hK) | (clear hK; clear hK; clear hK; refine hK _ ?_; clear hK) | (clear hK; clear hK; clear hK; clear hK; refine hK _ ?_; clear hK) | (refine wSeq fun K hK => ?_) | ((first | refine wReg ?_ | refine wDrwQ rfl (by kernel_rfl) ?_ | refine wDrwI ?_ | refine wDrw (by kernel_rfl) ?_); simp only [List.map_cons, List.map_nil, strip]) | ((first | refine wIs fun K hK => ?_ | refine wOs fun K hK => ?_ | refine wQs fun K hK => ?_ | refine CallK_plain ?_ | refine CallQ_plain ?_ | refine CallR_plain ?_ | refine wCond ?_); simp [g1, g9, g10, g11, g5, g6, b5, hlt, hw, he, hx, h1, h2, zis_snoc]) | (refine wIn ?_; refine And.intro (by kernel_rfl) ?_; try simp only [thenA_n]) | (first | refine wBlock ?_ | refine wScope ?_) | ((first | refine wRet ?_ | refine wExit ?_ | refine wSkip ?_); try simp) | ((first | refine wLabel ?_ | refine wOn ?_ | refine wQn ?_); try simp only [thenA_n])
          refine hL _ (N - 1) (by omega) ⟨k + 1, by omega, ?_⟩
          simp [g1, g9, g10, g11, g5, g6, b5, hw, hs', zis_snoc]
      · by_cases h2 : x = n
        · have hs' : wst (l.take (k + 1)) n = (o, true) := by rw [hs]; simp [wst1, h1, h2]
          repeat' first | (refine hK _ ?_; clear hK) | (refine hK _ _ ?_; clear hK) | (clear hK; refine hK _ ?_; clear hK) | (clear hK; clear hK; refine hK _ ?_; clear hK) | (clear hK; clear hK; clear hK; refine hK _ ?_; clear hK) | (clear hK; clear hK; clear hK; clear hK; refine hK _ ?_; clear hK) | (refine wSeq fun K hK => ?_) | ((first | refine wReg ?_ | refine wDrwQ rfl (by kernel_rfl) ?_ | refine wDrwI ?_ | refine wDrw (by kernel_rfl) ?_); simp only [List.map_cons, List.map_nil, strip]) | ((first | refine wIs fun K hK => ?_ | refine wOs fun K hK => ?_ | refine wQs fun K hK => ?_ | refine CallK_plain ?_ | refine CallQ_plain ?_ | refine CallR_plain ?_ | refine wCond ?_); simp [g1, g9, g10, g11, g5, g6, b5, hlt, hw, he, hx, h1, h2]) | (refine wIn ?_; refine And.intro (by kernel_rfl) ?_; try simp only [thenA_n]) | (first | refine wBlock ?_ | refine wScope ?_) | ((first | refine wRet ?_ | refine wExit ?_ | refine wSkip ?_); try simp) | ((first | refine wLabel ?_ | refine wOn ?_ | refine wQn ?_); try simp only [thenA_n])
          refine hL _ (N - 1) (by omega) ⟨k + 1, by omega, ?_⟩
          simp [g1, g9, g10, g11, g5, g6, b5, hw, hs']
        · have hs' : wst (l.take (k + 1)) n = (o ++ [x], true) := by rw [hs]; simp [wst1, h1, h2]
          repeat' first | (refine And.intro (by (try simp at hkl ⊢); omega) ?_) | (refine hK _ ?_; clear hK) | (refine hK _ _ ?_; clear hK) | (clear hK; refine hK _ ?_; clear hK) | (clear hK; clear hK; refine hK _ ?_; clear hK) | (clear hK; clear hK; clear hK; refine hK _ ?_; clear hK) | (clear hK; clear hK; clear hK; clear hK; refine hK _ ?_; clear hK) | (refine wSeq fun K hK => ?_) | ((first | refine wReg ?_ | refine wDrwQ rfl (by kernel_rfl) ?_ | refine wDrwI ?_ | refine wDrw (by kernel_rfl) ?_); simp only [List.map_cons, List.map_nil, strip]) | ((first | refine wIs fun K hK => ?_ | refine wOs fun K hK => ?_ | refine wQs fun K hK => ?_ | refine CallK_plain ?_ | refine CallQ_plain ?_ | refine CallR_plain ?_ | refine wCond ?_); simp [g1, g9, g10, g11, g5, g6, b5, hlt, hw, he, hx, h1, h2, zis_snoc]) | (refine wIn ?_; refine And.intro (by kernel_rfl) ?_; try simp only [thenA_n]) | (first | refine wBlock ?_ | refine wScope ?_) | ((first | refine wRet ?_ | refine wExit ?_ | refine wSkip ?_); try simp) | ((first | refine wLabel ?_ | refine wOn ?_ | refine wQn ?_); try simp only [thenA_n])
          refine hL _ (N - 1) (by omega) ⟨k + 1, by omega, ?_⟩
          simp [g1, g9, g10, g11, g5, g6, b5, hw, hs', zis_snoc]
    · have h2 : ¬ x = n := by omega
      have hs' : wst (l.take (k + 1)) n = (o ++ [x], d) := by rw [hs]; simp [wst1, h1, h2]
      repeat' first | (refine And.intro (by (try simp at hkl ⊢); omega) ?_) | (refine hK _ ?_; clear hK) | (refine hK _ _ ?_; clear hK) | (clear hK; refine hK _ ?_; clear hK) | (clear hK; clear hK; refine hK _ ?_; clear hK) | (clear hK; clear hK; clear hK; refine hK _ ?_; clear hK) | (clear hK; clear hK; clear hK; clear hK; refine hK _ ?_; clear hK) | (refine wSeq fun K hK => ?_) | ((first | refine wReg ?_ | refine wDrwQ rfl (by kernel_rfl) ?_ | refine wDrwI ?_ | refine wDrw (by kernel_rfl) ?_); simp only [List.map_cons, List.map_nil, strip]) | ((first | refine wIs fun K hK => ?_ | refine wOs fun K hK => ?_ | refine wQs fun K hK => ?_ | refine CallK_plain ?_ | refine CallQ_plain ?_ | refine CallR_plain ?_ | refine wCond ?_); simp [g1, g9, g10, g11, g5, g6, b5, hlt, hw, he, hx, h1, h2, zis_snoc]) | (refine wIn ?_; refine And.intro (by kernel_rfl) ?_; try simp only [thenA_n]) | (first | refine wBlock ?_ | refine wScope ?_) | ((first | refine wRet ?_ | refine wExit ?_ | refine wSkip ?_); try simp) | ((first | refine wLabel ?_ | refine wOn ?_ | refine wQn ?_); try simp only [thenA_n])
      refine hL _ (N - 1) (by omega) ⟨k + 1, by omega, ?_⟩
      simp [g1, g9, g10, g11, g5, g6, b5, hw, hs', zis_snoc]
  · rw [List.take_of_length_le (by omega)] at b5 g6 hkl
    unfold wth at hr
    generalize wst l n = q at g6 b5 hkl hr
    obtain ⟨o, d⟩ := q
    dsimp only at g6 b5 hkl hr
    cases d
    · simp only [Bool.false_eq_true, if_false] at hr
      repeat' first | (refine And.intro (by (try simp at hkl ⊢); omega) ?_) | (refine hK _ ?_; clear hK) | (refine hK _ _ ?_; clear hK) | (clear hK; refine hK _ ?_; clear hK) | (clear hK; clear hK; refine hK _ ?_; clear hK) | (clear hK; clear hK; clear hK; refine hK _ ?_; clear hK) | (clear hK; clear hK; clear hK; clear hK; refine hK _ ?_; clear hK) | (refine wSeq fun K hK => ?_) | ((first | refine wReg ?_ | refine wDrwQ rfl (by kernel_rfl) ?_ | refine wDrwI ?_ | refine wDrw (by kernel_rfl) ?_); simp only [List.map_cons, List.map_nil, strip]) | ((first | refine wIs fun K hK => ?_ | refine wOs fun K hK => ?_ | refine wQs fun K hK => ?_ | refine CallK_plain ?_ | refine CallQ_plain ?_ | refine CallR_plain ?_ | refine wCond ?_); simp [g1, g9, g10, g11, g5, g6, b5, hlt, zis_snoc]) | (refine wIn ?_; refine And.intro (by kernel_rfl) ?_; try simp only [thenA_n]) | (first | refine wBlock ?_ | refine wScope ?_) | ((first | refine wRet ?_ | refine wExit ?_ | refine wSkip ?_); try simp) | ((first | refine wLabel ?_ | refine wOn ?_ | refine wQn ?_); try simp only [thenA_n])
      all_goals apply hr
      all_goals simp [Try.f62, g5, b5, zis_snoc]
    · simp only [if_true] at hr
      repeat' first | (refine hK _ ?_; clear hK) | (refine hK _ _ ?_; clear hK) | (clear hK; refine hK _ ?_; clear hK) | (clear hK; clear hK; refine hK _ ?_; clear hK) | (clear hK; clear hK; clear hK; refine hK _ ?_; clear hK) | (clear hK; clear hK; clear hK; clear hK; refine hK _ ?_; clear hK) | (refine wSeq fun K hK => ?_) | ((first | refine wReg ?_ | refine wDrwQ rfl (by kernel_rfl) ?_ | refine wDrwI ?_ | refine wDrw (by kernel_rfl) ?_); simp only [List.map_cons, List.map_nil, strip]) | ((first | refine wIs fun K hK => ?_ | refine wOs fun K hK => ?_ | refine wQs fun K hK => ?_ | refine CallK_plain ?_ | refine CallQ_plain ?_ | refine CallR_plain ?_ | refine wCond ?_); simp [g1, g9, g10, g11, g5, g6, b5, hlt]) | (refine wIn ?_; refine And.intro (by kernel_rfl) ?_; try simp only [thenA_n]) | (first | refine wBlock ?_ | refine wScope ?_) | ((first | refine wRet ?_ | refine wExit ?_ | refine wSkip ?_); try simp) | ((first | refine wLabel ?_ | refine wOn ?_ | refine wQn ?_); try simp only [thenA_n])
      all_goals apply hr
      all_goals simp [Try.f62, g5, b5]
theorem wst_true (n : Int) : ∀ (l o : List Int), l.foldl (wst1 n) (o, true) = (o ++ but l n, true)
  | [], o => by simp [but]
  | x :: l, o => by
    rw [List.foldl_cons]
    by_cases h : x = n
    · rw [show wst1 n (o, true) x = (o, true) by simp [wst1, h], wst_true n l o]
      simp [but, h]
    · rw [show wst1 n (o, true) x = (o ++ [x], true) by simp [wst1, h], wst_true n l (o ++ [x])]
      simp [but, h]
theorem wst_ins (n : Int) : ∀ (l o : List Int), (if (l.foldl (wst1 n) (o, false)).2 = true then (l.foldl (wst1 n) (o, false)).1 else (l.foldl (wst1 n) (o, false)).1 ++ [n]) = o ++ insI l n
  | [], o => by simp [insI, but, atI]
  | x :: l, o => by
    rw [List.foldl_cons]
    by_cases h1 : n ≤ x
    · have ha : atI (x :: l) n = 0 := by rw [atI, if_neg (by omega)]
      by_cases h : x = n
      · rw [show wst1 n (o, false) x = (o ++ [n], true) by simp [wst1, h1, h], wst_true]
        simp only [if_true, insI, ha]
        simp [but, h]
      · rw [show wst1 n (o, false) x = (o ++ [n] ++ [x], true) by simp [wst1, h1, h], wst_true]
        simp only [if_true, insI, ha]
        simp [but, h]
    · have h : ¬ x = n := by omega
      rw [show wst1 n (o, false) x = (o ++ [x], false) by simp [wst1, h1, h], wst_ins n l (o ++ [x])]
      have ha : atI (x :: l) n = atI l n + 1 := by rw [atI, if_pos (by omega)]
      simp only [insI, ha]
      simp [but, h]
theorem wth_ins (l : List Int) (n : Int) : wth l n = insI l n := by
  unfold wth wst
  rw [wst_ins n l []]; rfl
end Go.Proofs.Ytpadfoaigbfekaa
/- States: what a transaction does. -/
namespace Go.Proofs.Ytpadfoaigbfekaa
set_option linter.unusedSimpArgs false
set_option linter.unusedVariables false
open Go Go.Av
attribute [local simp] Try.T1 Try.T2 Try.T3 Try.T4 Try.T5 Try.T9 Try.T12 Try.T21 Try.T22 Try.T24 Try.T25 Try.T26 Try.T27 Try.T28 Try.T29 Try.T30 Try.T31 Try.T33 Try.T34 Try.T35 Try.T36 Try.T37 Try.T38 Try.T39 Try.T41 Try.T42 Try.T43 Try.T44 Try.T46 Try.T47 Try.T49 Try.T51 Try.T52 Try.T53 Try.T54 Try.T56 Try.T57 Try.T58 Try.T59 Try.T60 Try.T62 Try.T64 Try.T65 Try.T66 Try.T67 Try.T68 Try.T69 Try.T70 Try.T71 Try.T72 Try.T73 Try.T75 Try.T76 Try.T77 Try.T78 Try.T79 Try.T80 Try.T82 Try.T83 Try.T84 Try.T85 Try.T87 Try.T88 Try.T89 Try.T90 Try.T91 Try.T92 Try.T93 Try.T94 Try.T95 Try.T96 Try.T97 Try.T98 Try.T99 Try.T100 Try.T102 Try.T103 Try.T104 Try.T105 Try.T106 Try.T107 Try.T109 Try.T110 Try.T111 Try.T112 Try.T113 Try.T114 Try.T115 Try.T116 Try.T117 Try.T123 Try.T126
attribute [local irreducible] Go.Av.CallK Go.Av.CallE Go.Av.CallQ Go.Av.CallF Go.Av.CallR Go.Av.CallH Go.Av.Con
theorem ints_zis (l : List Int) : ints l = zis l := rfl
def stepP (s : Sv) (p : Pt) : Sv :=
  if p.k = 1 then { s with ns := putZ s.ns p.z } else if p.k = 2 then { s with ns := gone s.ns p.z.p }
  else if p.k = 3 then { s with ss := opnL s.ss p.s, nx := opnN s.nx p.s } else if p.k = 4 then { s with ss := but s.ss p.s }
  else if p.k = 5 then { s with c := p.c } else s
def runP (s : Sv) (l : List Pt) : Sv := l.foldl stepP s
theorem runP_snoc (s : Sv) {l : List Pt} {k : Nat} (h : k < l.length) : runP s (l.take (k + 1)) = stepP (runP s (l.take k)) l[k] := by
  rw [List.take_succ_eq_append_getElem h, runP, List.foldl_append]; rfl
def lateS (s : Sv) (e n : Int) : Sv := { s with ae := (lastZ [⟨s.ae, s.an⟩, ⟨e, n⟩]).e, an := (lastZ [⟨s.ae, s.an⟩, ⟨e, n⟩]).n }
def doS (s : Sv) (t : Tx) : Sv := lateS (runP s t.ps) t.e t.n
theorem insI_len (l : List Int) (s : Int) : (insI l s).length ≤ l.length + 1 := by
  have h := but_len l s
  unfold insI
  simp
  omega
theorem opnL_len (l : List Int) (s : Int) : (opnL l s).length ≤ l.length + 1 := by
  unfold opnL
  split
  · exact insI_len l s
  · omega
theorem stepP_len (s : Sv) (p : Pt) : (stepP s p).ns.length ≤ s.ns.length + 1 ∧ (stepP s p).ss.length ≤ s.ss.length + 1 := by
  have h1 := putZ_len s.ns p.z
  have h2 := goneZ_len s.ns p.z.p
  have h3 := opnL_len s.ss p.s
  have h4 := but_len s.ss p.s
  unfold stepP
  split
  · exact ⟨h1, by simp⟩
  split
  · exact ⟨by show (gone s.ns p.z.p).length ≤ _; omega, by simp⟩
  split
  · exact ⟨by simp, h3⟩
  split
  · exact ⟨by simp, by show (but s.ss p.s).length ≤ _; omega⟩
  split <;> exact ⟨by simp, by simp⟩
theorem runP_len : ∀ (l : List Pt) (s : Sv), (runP s l).ns.length ≤ s.ns.length + l.length ∧ (runP s l).ss.length ≤ s.ss.length + l.length
  | [], s => ⟨by simp [runP], by simp [runP]⟩
  | p :: l, s => by
    have h := stepP_len s p
    have ih := runP_len l (stepP s p)
    have e : runP s (p :: l) = runP (stepP s p) l := rfl
    rw [e]
    simp only [List.length_cons]
    omega
theorem runP_take (s : Sv) (l : List Pt) (k : Nat) : (runP s (l.take k)).ns.length ≤ s.ns.length + l.length ∧ (runP s (l.take k)).ss.length ≤ s.ss.length + l.length := by
  have h := runP_len (l.take k) s
  have : (l.take k).length ≤ l.length := by simp; omega
  omega
def okC (c : Cf) : Prop := c.ms.length ≤ 4398046510976
theorem stepP_c (s : Sv) (p : Pt) (hs : okC s.c) (hp : okC p.c) : okC (stepP s p).c := by
  unfold stepP
  split
  · exact hs
  split
  · exact hs
  split
  · exact hs
  split
  · exact hs
  split
  · exact hp
  · exact hs
theorem runP_c : ∀ (l : List Pt) (s : Sv), okC s.c → (∀ p ∈ l, okC p.c) → okC (runP s l).c
  | [], s, hs, _ => hs
  | p :: l, s, hs, hp => runP_c l (stepP s p) (stepP_c s p hs (hp p (by simp))) fun q hq => hp q (by simp [hq])
def sbox (s : Sv) : Blk := .box 51 [.p (.sl 5 (zns s.ns)), .row 1025, .p (I s.nx), .p (I s.c.ep), .p (I s.c.n), .p (I s.c.kind), .p (.sl 4 (mbs s.c.ms)), .p (I s.ae), .p (I s.an)]
set_option maxHeartbeats 4000000 in
theorem do_con (s : Sv) (t : Tx) (h1 : s.ns.length + t.ps.length ≤ 1000000) (h2 : s.ss.length + t.ps.length ≤ 1000000) (hc : ∀ p ∈ t.ps, okC p.c) :
    Con Try.prog 60 [.ptr 1024 0, .p (.agg t.cells)] [sbox s, .row 3 1 (zis s.ss)] (.ret (.tup []) [] [sbox (doS s t), .row 3 1 (zis (doS s t).ss)]) := by
  unfold Tx.cells sbox
  refine wBodyG Try.tab Try.mixed Try.func60 rfl rfl Try.ntmps60 (by simp) (by simp) fun Q hr hn hp => ?_
  repeat' first | (refine hK _ ?_; clear hK) | (refine hK _ _ ?_; clear hK) | (clear hK; refine hK _ ?_; clear hK) | (clear hK; clear hK; refine hK _ ?_; clear hK) | (clear hK; clear hK; clear hK; refine hK _ ?_; clear hK) | (clear hK; clear hK; clear hK; clear hK; refine hK _ ?_; clear hK) | (refine wSeq fun K hK => ?_) | ((first | refine wReg ?_ | refine wDrwQ rfl (by kernel_rfl) ?_ | refine wDrwI ?_ | refine wDrw (by kernel_rfl) ?_); simp only [List.map_cons, List.map_nil, strip]) | ((first | refine wIs fun K hK => ?_ | refine wOs fun K hK => ?_ | refine wQs fun K hK => ?_ | refine CallK_plain ?_ | refine CallQ_plain ?_ | refine CallR_plain ?_ | refine wCond ?_); simp) | (refine wIn ?_; refine And.intro (by kernel_rfl) ?_; try simp only [thenA_n]) | (first | refine wBlock ?_ | refine wScope ?_) | ((first | refine wRet ?_ | refine wExit ?_ | refine wSkip ?_); try simp) | ((first | refine wLabel ?_ | refine wOn ?_ | refine wQn ?_); try simp only [thenA_n])
  refine wLoop (fun N st => ∃ k, k + N = t.ps.length ∧ st.s 0 = .ptr 1024 0 ∧ st.s 7 = .p (.sl 11 (pts t.ps)) ∧ st.s 8 = .p (I t.ps.length) ∧ st.s 9 = .p (I k) ∧ st.s 3 = .ptr 3 0 ∧ st.b 3 = some (.box 56 [.p (I t.e), .p (I t.n), .p (I t.s), .p (I t.x), .p (I t.r), .p (I t.b), .p (SB t.m), .p (.sl 11 (pts t.ps))]) ∧ st.b 1024 = some (sbox (runP s (t.ps.take k))) ∧ st.b 1025 = some (.row 3 1 (zis (runP s (t.ps.take k)).ss))) t.ps.length ⟨0, by simp [runP, sbox]⟩ fun K N st hL ⟨k, hk, g0, g7, g8, g9, g3, b3, b0, b1⟩ => ?_
  have hlen := runP_take s t.ps k
  by_cases hlt : k < t.ps.length
  · have hw := wrapX k _ hlt (by omega)
    have he := pts_get hlt
    have hs := runP_snoc s hlt
    have hpc := hc t.ps[k] (List.getElem_mem hlt)
    generalize runP s (t.ps.take k) = q at hs hlen b0 b1
    unfold sbox at b0
    unfold okC at hpc
    by_cases k1 : t.ps[k].k = 1
    · have c := put_con q.ns t.ps[k].z (by omega)
      unfold Zn.c at c
      have hs' : stepP q t.ps[k] = { q with ns := putZ q.ns t.ps[k].z } := by unfold stepP; rw [if_pos k1]
      generalize putZ q.ns t.ps[k].z = n1 at c hs'
      repeat' first | (refine hK _ ?_; clear hK) | (refine hK _ _ ?_; clear hK) | (clear hK; refine hK _ ?_; clear hK) | (clear hK; clear hK; refine hK _ ?_; clear hK) | (clear hK; clear hK; clear hK; refine hK _ ?_; clear hK) | (clear hK; clear hK; clear hK; clear hK; refine hK _ ?_; clear hK) | (refine wSeq fun K hK => ?_) | ((first | refine wReg ?_ | refine wDrwQ rfl (by kernel_rfl) ?_ | refine wDrwI ?_ | refine wDrw (by kernel_rfl) ?_); simp only [List.map_cons, List.map_nil, strip]) | ((first | refine wIs fun K hK => ?_ | refine wOs fun K hK => ?_ | refine wQs fun K hK => ?_ | refine CallK_plain ?_ | refine CallQ_plain ?_ | refine CallR_plain ?_ | refine wCond ?_); simp [g0, g7, g8, g9, g3, b3, b0, b1, hlt, hw, he, k1]) | (refine wIn ?_; refine And.intro (by kernel_rfl) ?_; try simp only [thenA_n]) | (first | refine wBlock ?_ | refine wScope ?_) | ((first | refine wRet ?_ | refine wExit ?_ | refine wSkip ?_); try simp) | ((first | refine wLabel ?_ | refine wOn ?_ | refine wQn ?_); try simp only [thenA_n]) | (refine CallE.pure (c) rfl ?_) | (refine CallE.lent (c) rfl ?_) | (refine CallF.pure (c) rfl ?_) | (refine CallF.lent (c) rfl ?_) | (refine CallE.own (c) ?_) | (refine CallH.pure (c) rfl ?_) | (refine CallH.lent (c) rfl ?_) | (refine CallH.own (c) ?_)
      refine hL _ (N - 1) (by omega) ⟨k + 1, by omega, ?_⟩
      simp [g0, g7, g8, g9, g3, b3, b0, b1, hw, hs, hs', sbox]
    by_cases k2 : t.ps[k].k = 2
    · have c := gone_con q.ns t.ps[k].z.p (by omega)
      have hs' : stepP q t.ps[k] = { q with ns := gone q.ns t.ps[k].z.p } := by unfold stepP; rw [if_neg k1, if_pos k2]
      generalize gone q.ns t.ps[k].z.p = n1 at c hs'
      repeat' first | (refine hK _ ?_; clear hK) | (refine hK _ _ ?_; clear hK) | (clear hK; refine hK _ ?_; clear hK) | (clear hK; clear hK; refine hK _ ?_; clear hK) | (clear hK; clear hK; clear hK; refine hK _ ?_; clear hK) | (clear hK; clear hK; clear hK; clear hK; refine hK _ ?_; clear hK) | (refine wSeq fun K hK => ?_) | ((first | refine wReg ?_ | refine wDrwQ rfl (by kernel_rfl) ?_ | refine wDrwI ?_ | refine wDrw (by kernel_rfl) ?_); simp only [List.map_cons, List.map_nil, strip]) | ((first | refine wIs fun K hK => ?_ | refine wOs fun K hK => ?_ | refine wQs fun K hK => ?_ | refine CallK_plain ?_ | refine CallQ_plain ?_ | refine CallR_plain ?_ | refine wCond ?_); simp [g0, g7, g8, g9, g3, b3, b0, b1, hlt, hw, he, k1, k2]) | (refine wIn ?_; refine And.intro (by kernel_rfl) ?_; try simp only [thenA_n]) | (first | refine wBlock ?_ | refine wScope ?_) | ((first | refine wRet ?_ | refine wExit ?_ | refine wSkip ?_); try simp) | ((first | refine wLabel ?_ | refine wOn ?_ | refine wQn ?_); try simp only [thenA_n]) | (refine CallE.pure (c) rfl ?_) | (refine CallE.lent (c) rfl ?_) | (refine CallF.pure (c) rfl ?_) | (refine CallF.lent (c) rfl ?_) | (refine CallE.own (c) ?_) | (refine CallH.pure (c) rfl ?_) | (refine CallH.lent (c) rfl ?_) | (refine CallH.own (c) ?_)
      refine hL _ (N - 1) (by omega) ⟨k + 1, by omega, ?_⟩
      simp [g0, g7, g8, g9, g3, b3, b0, b1, hw, hs, hs', sbox]
    by_cases k3 : t.ps[k].k = 3
    · have c := open_con (zns q.ns) (mbs q.c.ms) q.ss q.nx q.c.ep q.c.n q.c.kind q.ae q.an t.ps[k].s (by omega)
      have hs' : stepP q t.ps[k] = { q with ss := opnL q.ss t.ps[k].s, nx := opnN q.nx t.ps[k].s } := by unfold stepP; rw [if_neg k1, if_neg k2, if_pos k3]
      generalize opnL q.ss t.ps[k].s = n1 at c hs'
      generalize opnN q.nx t.ps[k].s = n2 at c hs'
      repeat' first | (refine CallK_gen [1024, 1025] c (by decide) (by decide) (by simp [blksOf, inN, pos, renB, ren0, b0, b1]) (by simp [argsG, argG, ren0, inN, pos, renCs, renC]) ⟨[], by simp, by simp, ?_⟩; simp [lv, ouN, kpI, kpR, pos, ren, ren0, renB, renC, renCs, g0, g7, g8, g3, b3, g9]) | (refine hK _ ?_; clear hK) | (refine hK _ _ ?_; clear hK) | (clear hK; refine hK _ ?_; clear hK) | (clear hK; clear hK; refine hK _ ?_; clear hK) | (clear hK; clear hK; clear hK; refine hK _ ?_; clear hK) | (clear hK; clear hK; clear hK; clear hK; refine hK _ ?_; clear hK) | (refine wSeq fun K hK => ?_) | ((first | refine wReg ?_ | refine wDrwQ rfl (by kernel_rfl) ?_ | refine wDrwI ?_ | refine wDrw (by kernel_rfl) ?_); simp only [List.map_cons, List.map_nil, strip]) | ((first | refine wIs fun K hK => ?_ | refine wOs fun K hK => ?_ | refine wQs fun K hK => ?_ | refine CallK_plain ?_ | refine CallQ_plain ?_ | refine CallR_plain ?_ | refine wCond ?_); simp [g0, g7, g8, g9, g3, b3, b0, b1, hlt, hw, he, k1, k2, k3, lv, ouN, kpI, kpR, pos, ren, ren0, renB, renC, renCs]) | (refine wIn ?_; refine And.intro (by kernel_rfl) ?_; try simp only [thenA_n]) | (first | refine wBlock ?_ | refine wScope ?_) | ((first | refine wRet ?_ | refine wExit ?_ | refine wSkip ?_); try simp) | ((first | refine wLabel ?_ | refine wOn ?_ | refine wQn ?_); try simp only [thenA_n])
      refine hL _ (N - 1) (by omega) ⟨k + 1, by omega, ?_⟩
      simp [g0, g7, g8, g9, g3, b3, b0, b1, hw, hs, hs', sbox, lv, ouN, kpI, kpR, pos, ren, ren0]
    by_cases k4 : t.ps[k].k = 4
    · have c := without_con q.ss t.ps[k].s (by omega)
      have hs' : stepP q t.ps[k] = { q with ss := but q.ss t.ps[k].s } := by unfold stepP; rw [if_neg k1, if_neg k2, if_neg k3, if_pos k4]
      generalize but q.ss t.ps[k].s = n1 at c hs'
      repeat' first | (refine CallR_row 1025 c (by simp [b1]) (by simp) (by simp [argsG, argG, ren0, inN, pos, renCs, renC]) ?_; simp [g0, g7, g8, g3, b3, g9, b0, b1]) | (refine hK _ ?_; clear hK) | (refine hK _ _ ?_; clear hK) | (clear hK; refine hK _ ?_; clear hK) | (clear hK; clear hK; refine hK _ ?_; clear hK) | (clear hK; clear hK; clear hK; refine hK _ ?_; clear hK) | (clear hK; clear hK; clear hK; clear hK; refine hK _ ?_; clear hK) | (refine wSeq fun K hK => ?_) | ((first | refine wReg ?_ | refine wDrwQ rfl (by kernel_rfl) ?_ | refine wDrwI ?_ | refine wDrw (by kernel_rfl) ?_); simp only [List.map_cons, List.map_nil, strip]) | ((first | refine wIs fun K hK => ?_ | refine wOs fun K hK => ?_ | refine wQs fun K hK => ?_ | refine CallK_plain ?_ | refine CallQ_plain ?_ | refine CallR_plain ?_ | refine wCond ?_); simp [g0, g7, g8, g9, g3, b3, b0, b1, hlt, hw, he, k1, k2, k3, k4]) | (refine wIn ?_; refine And.intro (by kernel_rfl) ?_; try simp only [thenA_n]) | (first | refine wBlock ?_ | refine wScope ?_) | ((first | refine wRet ?_ | refine wExit ?_ | refine wSkip ?_); try simp) | ((first | refine wLabel ?_ | refine wOn ?_ | refine wQn ?_); try simp only [thenA_n])
      refine hL _ (N - 1) (by omega) ⟨k + 1, by omega, ?_⟩
      simp [g0, g7, g8, g9, g3, b3, b0, b1, hw, hs, hs', sbox]
    by_cases k5 : t.ps[k].k = 5
    · have c := ownConfig_con t.ps[k].c.ep t.ps[k].c.n t.ps[k].c.kind (mbs t.ps[k].c.ms) (by rw [mbs_len]; exact hpc)
      have hs' : stepP q t.ps[k] = { q with c := t.ps[k].c } := by unfold stepP; rw [if_neg k1, if_neg k2, if_neg k3, if_neg k4, if_pos k5]
      repeat' first | (refine hK _ ?_; clear hK) | (refine hK _ _ ?_; clear hK) | (clear hK; refine hK _ ?_; clear hK) | (clear hK; clear hK; refine hK _ ?_; clear hK) | (clear hK; clear hK; clear hK; refine hK _ ?_; clear hK) | (clear hK; clear hK; clear hK; clear hK; refine hK _ ?_; clear hK) | (refine wSeq fun K hK => ?_) | ((first | refine wReg ?_ | refine wDrwQ rfl (by kernel_rfl) ?_ | refine wDrwI ?_ | refine wDrw (by kernel_rfl) ?_); simp only [List.map_cons, List.map_nil, strip]) | ((first | refine wIs fun K hK => ?_ | refine wOs fun K hK => ?_ | refine wQs fun K hK => ?_ | refine CallK_plain ?_ | refine CallQ_plain ?_ | refine CallR_plain ?_ | refine wCond ?_); simp [g0, g7, g8, g9, g3, b3, b0, b1, hlt, hw, he, k1, k2, k3, k4, k5]) | (refine wIn ?_; refine And.intro (by kernel_rfl) ?_; try simp only [thenA_n]) | (first | refine wBlock ?_ | refine wScope ?_) | ((first | refine wRet ?_ | refine wExit ?_ | refine wSkip ?_); try simp) | ((first | refine wLabel ?_ | refine wOn ?_ | refine wQn ?_); try simp only [thenA_n]) | (refine CallE.pure (c) rfl ?_) | (refine CallE.lent (c) rfl ?_) | (refine CallF.pure (c) rfl ?_) | (refine CallF.lent (c) rfl ?_) | (refine CallE.own (c) ?_) | (refine CallH.pure (c) rfl ?_) | (refine CallH.lent (c) rfl ?_) | (refine CallH.own (c) ?_)
      refine hL _ (N - 1) (by omega) ⟨k + 1, by omega, ?_⟩
      simp [g0, g7, g8, g9, g3, b3, b0, b1, hw, hs, hs', sbox]
    · have hs' : stepP q t.ps[k] = q := by unfold stepP; rw [if_neg k1, if_neg k2, if_neg k3, if_neg k4, if_neg k5]
      repeat' first | (refine hK _ ?_; clear hK) | (refine hK _ _ ?_; clear hK) | (clear hK; refine hK _ ?_; clear hK) | (clear hK; clear hK; refine hK _ ?_; clear hK) | (clear hK; clear hK; clear hK; refine hK _ ?_; clear hK) | (clear hK; clear hK; clear hK; clear hK; refine hK _ ?_; clear hK) | (refine wSeq fun K hK => ?_) | ((first | refine wReg ?_ | refine wDrwQ rfl (by kernel_rfl) ?_ | refine wDrwI ?_ | refine wDrw (by kernel_rfl) ?_); simp only [List.map_cons, List.map_nil, strip]) | ((first | refine wIs fun K hK => ?_ | refine wOs fun K hK => ?_ | refine wQs fun K hK => ?_ | refine CallK_plain ?_ | refine CallQ_plain ?_ | refine CallR_plain ?_ | refine wCond ?_); simp [g0, g7, g8, g9, g3, b3, b0, b1, hlt, hw, he, k1, k2, k3, k4, k5]) | (refine wIn ?_; refine And.intro (by kernel_rfl) ?_; try simp only [thenA_n]) | (first | refine wBlock ?_ | refine wScope ?_) | ((first | refine wRet ?_ | refine wExit ?_ | refine wSkip ?_); try simp) | ((first | refine wLabel ?_ | refine wOn ?_ | refine wQn ?_); try simp only [thenA_n])
      refine hL _ (N - 1) (by omega) ⟨k + 1, by omega, ?_⟩
      simp [g0, g7, g8, g9, g3, b3, b0, b1, hw, hs, hs', sbox]
  · rw [List.take_of_length_le (by omega)] at b0 b1
    unfold sbox doS lateS at hr
    unfold sbox doS lateS at hn
    generalize runP s t.ps = q at hr hn b0 b1
    unfold sbox at b0
    have c := last_con [⟨q.ae, q.an⟩, ⟨t.e, t.n⟩]
    simp only [zxs, List.map_cons, List.map_nil] at c
    generalize lastZ [⟨q.ae, q.an⟩, ⟨t.e, t.n⟩] = z at c hr hn
    repeat' first | (refine hK _ ?_; clear hK) | (refine hK _ _ ?_; clear hK) | (clear hK; refine hK _ ?_; clear hK) | (clear hK; clear hK; refine hK _ ?_; clear hK) | (clear hK; clear hK; clear hK; refine hK _ ?_; clear hK) | (clear hK; clear hK; clear hK; clear hK; refine hK _ ?_; clear hK) | (refine wSeq fun K hK => ?_) | ((first | refine wReg ?_ | refine wDrwQ rfl (by kernel_rfl) ?_ | refine wDrwI ?_ | refine wDrw (by kernel_rfl) ?_); simp only [List.map_cons, List.map_nil, strip]) | ((first | refine wIs fun K hK => ?_ | refine wOs fun K hK => ?_ | refine wQs fun K hK => ?_ | refine CallK_plain ?_ | refine CallQ_plain ?_ | refine CallR_plain ?_ | refine wCond ?_); simp [g0, g7, g8, g9, g3, b3, b0, b1, hlt]) | (refine wIn ?_; refine And.intro (by kernel_rfl) ?_; try simp only [thenA_n]) | (first | refine wBlock ?_ | refine wScope ?_) | ((first | refine wRet ?_ | refine wExit ?_ | refine wSkip ?_); try simp) | ((first | refine wLabel ?_ | refine wOn ?_ | refine wQn ?_); try simp only [thenA_n]) | (refine CallE.pure (c) rfl ?_) | (refine CallE.lent (c) rfl ?_) | (refine CallF.pure (c) rfl ?_) | (refine CallF.lent (c) rfl ?_) | (refine CallE.own (c) ?_) | (refine CallH.pure (c) rfl ?_) | (refine CallH.lent (c) rfl ?_) | (refine CallH.own (c) ?_)
    all_goals first | apply hr | apply hn
    all_goals refine ⟨[], by simp, by simp, ?_⟩
    all_goals simp [Try.f60, outR, outB, renB, gaN, b0, b1]
end Go.Proofs.Ytpadfoaigbfekaa
/- States: transactions, one by one and at once. -/
namespace Go.Proofs.Ytpadfoaigbfekaa
set_option linter.unusedSimpArgs false
set_option linter.unusedVariables false
open Go Go.Av
attribute [local simp] Try.T1 Try.T2 Try.T3 Try.T4 Try.T5 Try.T9 Try.T12 Try.T21 Try.T22 Try.T24 Try.T25 Try.T26 Try.T27 Try.T28 Try.T29 Try.T30 Try.T31 Try.T33 Try.T34 Try.T35 Try.T36 Try.T37 Try.T38 Try.T39 Try.T41 Try.T42 Try.T43 Try.T44 Try.T46 Try.T47 Try.T49 Try.T51 Try.T52 Try.T53 Try.T54 Try.T56 Try.T57 Try.T58 Try.T59 Try.T60 Try.T62 Try.T64 Try.T65 Try.T66 Try.T67 Try.T68 Try.T69 Try.T70 Try.T71 Try.T72 Try.T73 Try.T75 Try.T76 Try.T77 Try.T78 Try.T79 Try.T80 Try.T82 Try.T83 Try.T84 Try.T85 Try.T87 Try.T88 Try.T89 Try.T90 Try.T91 Try.T92 Try.T93 Try.T94 Try.T95 Try.T96 Try.T97 Try.T98 Try.T99 Try.T100 Try.T102 Try.T103 Try.T104 Try.T105 Try.T106 Try.T107 Try.T109 Try.T110 Try.T111 Try.T112 Try.T113 Try.T114 Try.T115 Try.T116 Try.T117 Try.T123 Try.T126
attribute [local irreducible] Go.Av.CallK Go.Av.CallE Go.Av.CallQ Go.Av.CallF Go.Av.CallR Go.Av.CallH Go.Av.Con
def startS (c : Cf) : Sv := ⟨[⟨[47], [], 0, 0, 0⟩], [], 1, c, 0, 0⟩
theorem start_con (c : Cf) (hc : okC c) : ACon Try.prog 38 [.p (.agg c.cells)] (.p (.agg (startS c).cells)) := by
  have c1 := root_con
  have c2 := ownConfig_con c.ep c.n c.kind (mbs c.ms) (by rw [mbs_len]; exact hc)
  unfold startS Sv.cells Cf.cells
  dsimp only
  generalize zns [⟨[47], [], 0, 0, 0⟩] = r at c1 ⊢
  rw [show ints [] = [] from rfl]
  refine wBody Try.tab Try.mixed Try.func38 rfl rfl Try.ntmps38 (by simp) (by simp) fun Q hr hn => ?_
  repeat' first | (refine hK _ ?_; clear hK) | (refine hK _ _ ?_; clear hK) | (clear hK; refine hK _ ?_; clear hK) | (clear hK; clear hK; refine hK _ ?_; clear hK) | (clear hK; clear hK; clear hK; refine hK _ ?_; clear hK) | (clear hK; clear hK; clear hK; clear hK; refine hK _ ?_; clear hK) | (refine wSeq fun K hK => ?_) | ((first | refine wReg ?_ | refine wDrwQ rfl (by kernel_rfl) ?_ | refine wDrwI ?_ | refine wDrw (by kernel_rfl) ?_); simp only [List.map_cons, List.map_nil, strip]) | ((first | refine wIs fun K hK => ?_ | refine wOs fun K hK => ?_ | refine wQs fun K hK => ?_ | refine CallK_plain ?_ | refine CallQ_plain ?_ | refine CallR_plain ?_ | refine wCond ?_); simp) | (refine wIn ?_; refine And.intro (by kernel_rfl) ?_; try simp only [thenA_n]) | (first | refine wBlock ?_ | refine wScope ?_) | ((first | refine wRet ?_ | refine wExit ?_ | refine wSkip ?_); try simp) | ((first | refine wLabel ?_ | refine wOn ?_ | refine wQn ?_); try simp only [thenA_n]) | (refine CallE.pure (c1) rfl ?_) | (refine CallE.lent (c1) rfl ?_) | (refine CallF.pure (c1) rfl ?_) | (refine CallF.lent (c1) rfl ?_) | (refine CallE.own (c1) ?_) | (refine CallH.pure (c1) rfl ?_) | (refine CallH.lent (c1) rfl ?_) | (refine CallH.own (c1) ?_) | (refine CallE.pure (c2) rfl ?_) | (refine CallE.lent (c2) rfl ?_) | (refine CallF.pure (c2) rfl ?_) | (refine CallF.lent (c2) rfl ?_) | (refine CallE.own (c2) ?_) | (refine CallH.pure (c2) rfl ?_) | (refine CallH.lent (c2) rfl ?_) | (refine CallH.own (c2) ?_)
  all_goals apply hr
  all_goals simp [Try.f38]
/-- What a call to do must be handed. -/
structure Fits (s : Sv) (n : Nat) : Prop where
  ns : s.ns.length + n ≤ 1000000
  ss : s.ss.length + n ≤ 1000000
  c : okC s.c
def okT (t : Tx) : Prop := ∀ p ∈ t.ps, okC p.c
theorem doS_fits {s : Sv} {t : Tx} {n : Nat} (h : Fits s (t.ps.length + n)) (ht : okT t) : Fits (doS s t) n := by
  have h1 := runP_len t.ps s
  have h2 := runP_c t.ps s h.c ht
  refine ⟨?_, ?_, h2⟩
  · have := h.ns
    show (runP s t.ps).ns.length + n ≤ _
    omega
  · have := h.ss
    show (runP s t.ps).ss.length + n ≤ _
    omega
set_option maxHeartbeats 2000000 in
theorem apply_con (s : Sv) (t : Tx) (h : Fits s t.ps.length) (ht : okT t) : ACon Try.prog 33 [.p (.agg s.cells), .p (.agg t.cells)] (.p (.agg (doS s t).cells)) := by
  have c1 := ownState_con (zns s.ns) (zis s.ss) (mbs s.c.ms) s.nx s.c.ep s.c.n s.c.kind s.ae s.an (by have := h.ns; simp; omega) (by have := h.ss; simp; omega) (by rw [mbs_len]; exact h.c)
  have c2 := do_con s t h.ns h.ss ht
  unfold sbox at c2
  generalize doS s t = r at c2 ⊢
  unfold Sv.cells
  simp only [ints_zis]
  unfold Tx.cells at c2 ⊢
  refine wBody Try.tab Try.mixed Try.func33 rfl rfl Try.ntmps33 (by simp) (by simp) fun Q hr hn => ?_
  repeat' first | (refine CallK_gen [] c1 (by decide) (by decide) (by simp [blksOf]) (by simp [argsG, argG, ren0, inN, pos, renCs, renC, toP, toPF]) ⟨[500], by simp, by simp, ?_⟩; simp [lv, ouN, kpI, kpR, pos, ren, ren0, renB, renC, renCs, renF, renFs]) | (refine CallK_gen [2, 500] c2 (by decide) (by decide) (by simp [blksOf, inN, pos, renB, renC, renCs, ren0, lv, ouN, kpI, kpR]) (by simp [argsG, argG, ren0, inN, pos, renCs, renC]) ⟨[], by simp, by simp, ?_⟩; simp [lv, ouN, kpI, kpR, pos, ren, ren0, renB, renC, renCs, renF, renFs]) | (refine hK _ ?_; clear hK) | (refine hK _ _ ?_; clear hK) | (clear hK; refine hK _ ?_; clear hK) | (clear hK; clear hK; refine hK _ ?_; clear hK) | (clear hK; clear hK; clear hK; refine hK _ ?_; clear hK) | (clear hK; clear hK; clear hK; clear hK; refine hK _ ?_; clear hK) | (refine wSeq fun K hK => ?_) | ((first | refine wReg ?_ | refine wDrwQ rfl (by kernel_rfl) ?_ | refine wDrwI ?_ | refine wDrw (by kernel_rfl) ?_); simp only [List.map_cons, List.map_nil, strip]) | ((first | refine wIs fun K hK => ?_ | refine wOs fun K hK => ?_ | refine wQs fun K hK => ?_ | refine CallK_plain ?_ | refine CallQ_plain ?_ | refine CallR_plain ?_ | refine wCond ?_); simp [lv, ouN, kpI, kpR, pos, ren, ren0, renB, renC, renCs, renF, renFs]) | (refine wIn ?_; refine And.intro (by kernel_rfl) ?_; try simp only [thenA_n]) | (first | refine wBlock ?_ | refine wScope ?_) | ((first | refine wRet ?_ | refine wExit ?_ | refine wSkip ?_); try simp) | ((first | refine wLabel ?_ | refine wOn ?_ | refine wQn ?_); try simp only [thenA_n])
  all_goals apply hr
  all_goals simp [Try.f33, lv, ouN, kpI, kpR, pos, ren, ren0, renB, renC, renCs, renF, renFs]
def allS (s : Sv) (l : List Tx) : Sv := l.foldl doS s
theorem allS_snoc (s : Sv) {l : List Tx} {k : Nat} (h : k < l.length) : allS s (l.take (k + 1)) = doS (allS s (l.take k)) l[k] := by
  rw [List.take_succ_eq_append_getElem h, allS, List.foldl_append]; rfl
def psum (l : List Tx) : Nat := (l.map fun t => t.ps.length).sum
theorem psum_cons (t : Tx) (l : List Tx) : psum (t :: l) = t.ps.length + psum l := by simp [psum]
theorem psum_drop {l : List Tx} {k : Nat} (h : k < l.length) : psum (l.drop k) = l[k].ps.length + psum (l.drop (k + 1)) := by
  rw [List.drop_eq_getElem_cons h, psum_cons]
theorem allS_fits : ∀ (l : List Tx) {s : Sv} {n : Nat}, Fits s (psum l + n) → (∀ t ∈ l, okT t) → Fits (allS s l) n
  | [], s, n, h, _ => by simpa [psum, allS] using h
  | t :: l, s, n, h, ht => by
    have h' : Fits s (t.ps.length + (psum l + n)) := by
      rw [psum_cons, Nat.add_assoc] at h; exact h
    exact allS_fits l (doS_fits h' (ht t (by simp))) fun t' h' => ht t' (by simp [h'])
theorem Fits.le {s : Sv} {n m : Nat} (h : Fits s n) (hm : m ≤ n) : Fits s m := ⟨by have := h.ns; omega, by have := h.ss; omega, h.c⟩
set_option maxHeartbeats 4000000 in
theorem all_con (s : Sv) (l : List Tx) (hs : Fits s (psum l)) (ht : ∀ t ∈ l, okT t) : ACon Try.prog 36 [.p (.agg s.cells), .p (.sl 8 (txns l))] (.p (.agg (allS s l).cells)) := by
  refine ACon.len ⟨Try.f36, Try.func36, rfl, rfl⟩ 1 _ _ rfl fun hlen => ?_
  simp only [txns_len] at hlen
  have c1 := ownState_con (zns s.ns) (zis s.ss) (mbs s.c.ms) s.nx s.c.ep s.c.n s.c.kind s.ae s.an (by have := hs.ns; simp; omega) (by have := hs.ss; simp; omega) (by rw [mbs_len]; exact hs.c)
  unfold Sv.cells
  simp only [ints_zis]
  refine wBody Try.tab Try.mixed Try.func36 rfl rfl Try.ntmps36 (by simp) (by simp) fun Q hr hn => ?_
  repeat' first | (refine CallK_gen [] c1 (by decide) (by decide) (by simp [blksOf]) (by simp [argsG, argG, ren0, inN, pos, renCs, renC, toP, toPF]) ⟨[500], by simp, by simp, ?_⟩; simp [lv, ouN, kpI, kpR, pos, ren, ren0, renB, renC, renCs, renF, renFs]) | (refine hK _ ?_; clear hK) | (refine hK _ _ ?_; clear hK) | (clear hK; refine hK _ ?_; clear hK) | (clear hK; clear hK; refine hK _ ?_; clear hK) | (clear hK; clear hK; clear hK; refine hK _ ?_; clear hK) | (clear hK; clear hK; clear hK; clear hK; refine hK _ ?_; clear hK) | (refine wSeq fun K hK => ?_) | ((first | refine wReg ?_ | refine wDrwQ rfl (by kernel_rfl) ?_ | refine wDrwI ?_ | refine wDrw (by kernel_rfl) ?_); simp only [List.map_cons, List.map_nil, strip]) | ((first | refine wIs fun K hK => ?_ | refine wOs fun K hK => ?_ | refine wQs fun K hK => ?_ | refine CallK_plain ?_ | refine CallQ_plain ?_ | refine CallR_plain ?_ | refine wCond ?_); simp [lv, ouN, kpI, kpR, pos, ren, ren0, renB, renC, renCs, renF, renFs]) | (refine wIn ?_; refine And.intro (by kernel_rfl) ?_; try simp only [thenA_n]) | (first | refine wBlock ?_ | refine wScope ?_) | ((first | refine wRet ?_ | refine wExit ?_ | refine wSkip ?_); try simp) | ((first | refine wLabel ?_ | refine wOn ?_ | refine wQn ?_); try simp only [thenA_n])
  refine wLoop (fun N st => ∃ k, k + N = l.length ∧ Fits (allS s (l.take k)) (psum (l.drop k)) ∧ st.s 2 = .ptr 2 0 ∧ st.s 4 = .ptr 4 0 ∧ st.s 9 = .p (.sl 8 (txns l)) ∧ st.s 10 = .p (I l.length) ∧ st.s 11 = .p (I k) ∧ st.b 4 = some (.box 51 [.nil 5, .nil 1, .p (I 0), .p (I 0), .p (I 0), .p (I 0), .nil 4, .p (I 0), .p (I 0)]) ∧ st.b 2 = some (.box 51 [.p (.sl 5 (zns (allS s (l.take k)).ns)), .row 500, .p (I (allS s (l.take k)).nx), .p (I (allS s (l.take k)).c.ep), .p (I (allS s (l.take k)).c.n), .p (I (allS s (l.take k)).c.kind), .p (.sl 4 (mbs (allS s (l.take k)).c.ms)), .p (I (allS s (l.take k)).ae), .p (I (allS s (l.take k)).an)]) ∧ st.b 500 = some (.row 3 1 (zis (allS s (l.take k)).ss))) l.length ⟨0, by simp [allS, lv, ouN, kpI, kpR, pos, ren, ren0, renB, renC, renCs, renF, renFs]; exact hs⟩ fun K N st hL ⟨k, hk, hf, g2, g4, g9, g10, g11, b4, b2, b500⟩ => ?_
  by_cases hlt : k < l.length
  · have hw := wrapX k _ hlt (by omega)
    have he := txns_get hlt
    have hsn := allS_snoc s hlt
    have hps := psum_drop hlt
    have htk := ht l[k] (List.getElem_mem hlt)
    rw [hps] at hf
    have hf2 := doS_fits hf htk
    rw [← hsn] at hf2
    generalize allS s (l.take k) = q at hsn hf b2 b500
    have c2 := do_con q l[k] (by have := hf.ns; omega) (by have := hf.ss; omega) htk
    rw [← hsn] at c2
    unfold sbox Tx.cells at c2
    generalize hr' : allS s (l.take (k + 1)) = r at c2 hf2
    repeat' first | (refine CallK_gen [2, 500] c2 (by decide) (by decide) (by simp [blksOf, inN, pos, renB, renC, renCs, ren0, lv, ouN, kpI, kpR, b2, b500]) (by simp [argsG, argG, ren0, inN, pos, renCs, renC]) ⟨[], by simp, by simp, ?_⟩; simp [lv, ouN, kpI, kpR, pos, ren, ren0, renB, renC, renCs, renF, renFs, g2, g4, g9, g10, g11, b4, b2, b500]) | (refine hK _ ?_; clear hK) | (refine hK _ _ ?_; clear hK) | (clear hK; refine hK _ ?_; clear hK) | (clear hK; clear hK; refine hK _ ?_; clear hK) | (clear hK; clear hK; clear hK; refine hK _ ?_; clear hK) | (clear hK; clear hK; clear hK; clear hK; refine hK _ ?_; clear hK) | (refine wSeq fun K hK => ?_) | ((first | refine wReg ?_ | refine wDrwQ rfl (by kernel_rfl) ?_ | refine wDrwI ?_ | refine wDrw (by kernel_rfl) ?_); simp only [List.map_cons, List.map_nil, strip]) | ((first | refine wIs fun K hK => ?_ | refine wOs fun K hK => ?_ | refine wQs fun K hK => ?_ | refine CallK_plain ?_ | refine CallQ_plain ?_ | refine CallR_plain ?_ | refine wCond ?_); simp [lv, ouN, kpI, kpR, pos, ren, ren0, renB, renC, renCs, renF, renFs, g2, g4, g9, g10, g11, b4, b2, b500, hlt, hw, he]) | (refine wIn ?_; refine And.intro (by kernel_rfl) ?_; try simp only [thenA_n]) | (first | refine wBlock ?_ | refine wScope ?_) | ((first | refine wRet ?_ | refine wExit ?_ | refine wSkip ?_); try simp) | ((first | refine wLabel ?_ | refine wOn ?_ | refine wQn ?_); try simp only [thenA_n])
    refine hL _ (N - 1) (by omega) ⟨k + 1, by omega, ?_⟩
    simp [lv, ouN, kpI, kpR, pos, ren, ren0, renB, renC, renCs, renF, renFs, g2, g4, g9, g10, g11, b4, b2, b500, hw, hr']
    exact hf2
  · rw [List.take_of_length_le (by omega)] at b2 b500
    generalize allS s l = q at b2 b500 hr
    repeat' first | (refine hK _ ?_; clear hK) | (refine hK _ _ ?_; clear hK) | (clear hK; refine hK _ ?_; clear hK) | (clear hK; clear hK; refine hK _ ?_; clear hK) | (clear hK; clear hK; clear hK; refine hK _ ?_; clear hK) | (clear hK; clear hK; clear hK; clear hK; refine hK _ ?_; clear hK) | (refine wSeq fun K hK => ?_) | ((first | refine wReg ?_ | refine wDrwQ rfl (by kernel_rfl) ?_ | refine wDrwI ?_ | refine wDrw (by kernel_rfl) ?_); simp only [List.map_cons, List.map_nil, strip]) | ((first | refine wIs fun K hK => ?_ | refine wOs fun K hK => ?_ | refine wQs fun K hK => ?_ | refine CallK_plain ?_ | refine CallQ_plain ?_ | refine CallR_plain ?_ | refine wCond ?_); simp [g2, g4, g9, g10, g11, b4, b2, b500, hlt]) | (refine wIn ?_; refine And.intro (by kernel_rfl) ?_; try simp only [thenA_n]) | (first | refine wBlock ?_ | refine wScope ?_) | ((first | refine wRet ?_ | refine wExit ?_ | refine wSkip ?_); try simp) | ((first | refine wLabel ?_ | refine wOn ?_ | refine wQn ?_); try simp only [thenA_n])
    all_goals apply hr
    all_goals simp [Try.f36, g2, g4, b2, b4, b500]
end Go.Proofs.Ytpadfoaigbfekaa
/- States: what the document does. -/
namespace Go.Proofs.Ytpadfoaigbfekaa
set_option linter.unusedSimpArgs false
set_option linter.unusedVariables false
open Go Go.Av
attribute [local simp] Try.T1 Try.T2 Try.T3 Try.T4 Try.T5 Try.T9 Try.T12 Try.T21 Try.T22 Try.T24 Try.T25 Try.T26 Try.T27 Try.T28 Try.T29 Try.T30 Try.T31 Try.T33 Try.T34 Try.T35 Try.T36 Try.T37 Try.T38 Try.T39 Try.T41 Try.T42 Try.T43 Try.T44 Try.T46 Try.T47 Try.T49 Try.T51 Try.T52 Try.T53 Try.T54 Try.T56 Try.T57 Try.T58 Try.T59 Try.T60 Try.T62 Try.T64 Try.T65 Try.T66 Try.T67 Try.T68 Try.T69 Try.T70 Try.T71 Try.T72 Try.T73 Try.T75 Try.T76 Try.T77 Try.T78 Try.T79 Try.T80 Try.T82 Try.T83 Try.T84 Try.T85 Try.T87 Try.T88 Try.T89 Try.T90 Try.T91 Try.T92 Try.T93 Try.T94 Try.T95 Try.T96 Try.T97 Try.T98 Try.T99 Try.T100 Try.T102 Try.T103 Try.T104 Try.T105 Try.T106 Try.T107 Try.T109 Try.T110 Try.T111 Try.T112 Try.T113 Try.T114 Try.T115 Try.T116 Try.T117 Try.T123 Try.T126
attribute [local irreducible] Go.Av.CallK Go.Av.CallE Go.Av.CallQ Go.Av.CallF Go.Av.CallR Go.Av.CallH Go.Av.Con
theorem start08_con (c : Cf) (hc : okC c) : ACon Try.prog 39 [.p (.agg c.cells)] (.p (.agg (startS c).cells)) := by
  have c1 := root07_con
  have c2 := copied08_con c.ep c.n c.kind (mbs c.ms) (by rw [mbs_len]; exact hc)
  unfold startS Sv.cells Cf.cells
  dsimp only
  generalize zns [⟨[47], [], 0, 0, 0⟩] = r at c1 ⊢
  rw [show ints [] = [] from rfl]
  refine wBody Try.tab Try.mixed Try.func39 rfl rfl Try.ntmps39 (by simp) (by simp) fun Q hr hn => ?_
  repeat' first | (refine hK _ ?_; clear hK) | (refine hK _ _ ?_; clear hK) | (clear hK; refine hK _ ?_; clear hK) | (clear hK; clear hK; refine hK _ ?_; clear hK) | (clear hK; clear hK; clear hK; refine hK _ ?_; clear hK) | (clear hK; clear hK; clear hK; clear hK; refine hK _ ?_; clear hK) | (refine wSeq fun K hK => ?_) | ((first | refine wReg ?_ | refine wDrwQ rfl (by kernel_rfl) ?_ | refine wDrwI ?_ | refine wDrw (by kernel_rfl) ?_); simp only [List.map_cons, List.map_nil, strip]) | ((first | refine wIs fun K hK => ?_ | refine wOs fun K hK => ?_ | refine wQs fun K hK => ?_ | refine CallK_plain ?_ | refine CallQ_plain ?_ | refine CallR_plain ?_ | refine wCond ?_); simp) | (refine wIn ?_; refine And.intro (by kernel_rfl) ?_; try simp only [thenA_n]) | (first | refine wBlock ?_ | refine wScope ?_) | ((first | refine wRet ?_ | refine wExit ?_ | refine wSkip ?_); try simp) | ((first | refine wLabel ?_ | refine wOn ?_ | refine wQn ?_); try simp only [thenA_n]) | (refine CallE.pure (c1) rfl ?_) | (refine CallE.lent (c1) rfl ?_) | (refine CallF.pure (c1) rfl ?_) | (refine CallF.lent (c1) rfl ?_) | (refine CallE.own (c1) ?_) | (refine CallH.pure (c1) rfl ?_) | (refine CallH.lent (c1) rfl ?_) | (refine CallH.own (c1) ?_) | (refine CallE.pure (c2) rfl ?_) | (refine CallE.lent (c2) rfl ?_) | (refine CallF.pure (c2) rfl ?_) | (refine CallF.lent (c2) rfl ?_) | (refine CallE.own (c2) ?_) | (refine CallH.pure (c2) rfl ?_) | (refine CallH.lent (c2) rfl ?_) | (refine CallH.own (c2) ?_)
  all_goals apply hr
  all_goals simp [Try.f39]
theorem last2 (a b : Zx) : lastZ [a, b] = if 0 < zcmp b.e b.n a.e a.n then b else a := rfl
set_option maxHeartbeats 8000000 in
theorem apply08_con (s : Sv) (t : Tx) (h : Fits s t.ps.length) (ht : okT t) : ACon Try.prog 34 [.p (.agg s.cells), .p (.agg t.cells)] (.p (.agg (doS s t).cells)) := by
  have h1 := h.ns
  have h2 := h.ss
  have c1 := copied08_con s.c.ep s.c.n s.c.kind (mbs s.c.ms) (by rw [mbs_len]; exact h.c)
  unfold Sv.cells Tx.cells
  simp only [ints_zis]
  refine wBody Try.tab Try.mixed Try.func34 rfl rfl Try.ntmps34 (by simp) (by simp) fun Q hr hn => ?_
  repeat' first | (refine And.intro (by (try simp); omega) ?_) | (refine Or.inr ?_) | (refine hK _ ?_; clear hK) | (refine hK _ _ ?_; clear hK) | (clear hK; refine hK _ ?_; clear hK) | (clear hK; clear hK; refine hK _ ?_; clear hK) | (clear hK; clear hK; clear hK; refine hK _ ?_; clear hK) | (clear hK; clear hK; clear hK; clear hK; refine hK _ ?_; clear hK) | (refine wSeq fun K hK => ?_) | ((first | refine wReg ?_ | refine wDrwQ rfl (by kernel_rfl) ?_ | refine wDrwI ?_ | refine wDrw (by kernel_rfl) ?_); simp only [List.map_cons, List.map_nil, strip]) | ((first | refine wIs fun K hK => ?_ | refine wOs fun K hK => ?_ | refine wQs fun K hK => ?_ | refine CallK_plain ?_ | refine CallQ_plain ?_ | refine CallR_plain ?_ | refine wCond ?_); simp) | (refine wIn ?_; refine And.intro (by kernel_rfl) ?_; try simp only [thenA_n]) | (first | refine wBlock ?_ | refine wScope ?_) | ((first | refine wRet ?_ | refine wExit ?_ | refine wSkip ?_); try simp) | ((first | refine wLabel ?_ | refine wOn ?_ | refine wQn ?_); try simp only [thenA_n]) | (refine CallE.pure (c1) rfl ?_) | (refine CallE.lent (c1) rfl ?_) | (refine CallF.pure (c1) rfl ?_) | (refine CallF.lent (c1) rfl ?_) | (refine CallE.own (c1) ?_) | (refine CallH.pure (c1) rfl ?_) | (refine CallH.lent (c1) rfl ?_) | (refine CallH.own (c1) ?_)
  refine wLoop (fun N st => ∃ k, k + N = t.ps.length ∧ st.s 4 = .ptr 4 0 ∧ st.s 3 = .ptr 3 0 ∧ st.s 5 = .ptr 5 0 ∧ st.s 25 = .p (.sl 11 (pts t.ps)) ∧ st.s 26 = .p (I t.ps.length) ∧ st.s 27 = .p (I k) ∧ st.b 4 = some (.box 51 [.nil 5, .nil 1, .p (I 0), .p (I 0), .p (I 0), .p (I 0), .nil 4, .p (I 0), .p (I 0)]) ∧ st.b 3 = some (.box 56 [.p (I t.e), .p (I t.n), .p (I t.s), .p (I t.x), .p (I t.r), .p (I t.b), .p (SB t.m), .p (.sl 11 (pts t.ps))]) ∧ st.b 5 = some (.box 51 [.p (.sl 5 (zns (runP s (t.ps.take k)).ns)), .p (.sl 1 (zis (runP s (t.ps.take k)).ss)), .p (I (runP s (t.ps.take k)).nx), .p (I (runP s (t.ps.take k)).c.ep), .p (I (runP s (t.ps.take k)).c.n), .p (I (runP s (t.ps.take k)).c.kind), .p (.sl 4 (mbs (runP s (t.ps.take k)).c.ms)), .p (I (runP s (t.ps.take k)).ae), .p (I (runP s (t.ps.take k)).an)])) t.ps.length ⟨0, by simp [runP]⟩ fun K N st hL ⟨k, hk, g4, g3, g5, g25, g26, g27, b4, b3, b5⟩ => ?_
  have hlen := runP_take s t.ps k
  by_cases hlt : k < t.ps.length
  · have hw := wrapX k _ hlt (by omega)
    have he := pts_get hlt
    have hs := runP_snoc s hlt
    have hpc := ht t.ps[k] (List.getElem_mem hlt)
    generalize runP s (t.ps.take k) = q at hs hlen b5
    unfold okC at hpc
    by_cases k1 : t.ps[k].k = 1
    · have c := put07_con q.ns t.ps[k].z (by omega)
      unfold Zn.c at c
      have hs' : stepP q t.ps[k] = { q with ns := putZ q.ns t.ps[k].z } := by unfold stepP; rw [if_pos k1]
      generalize putZ q.ns t.ps[k].z = n1 at c hs'
      repeat' first | (refine hK _ ?_; clear hK) | (refine hK _ _ ?_; clear hK) | (clear hK; refine hK _ ?_; clear hK) | (clear hK; clear hK; refine hK _ ?_; clear hK) | (clear hK; clear hK; clear hK; refine hK _ ?_; clear hK) | (clear hK; clear hK; clear hK; clear hK; refine hK _ ?_; clear hK) | (refine wSeq fun K hK => ?_) | ((first | refine wReg ?_ | refine wDrwQ rfl (by kernel_rfl) ?_ | refine wDrwI ?_ | refine wDrw (by kernel_rfl) ?_); simp only [List.map_cons, List.map_nil, strip]) | ((first | refine wIs fun K hK => ?_ | refine wOs fun K hK => ?_ | refine wQs fun K hK => ?_ | refine CallK_plain ?_ | refine CallQ_plain ?_ | refine CallR_plain ?_ | refine wCond ?_); simp [g4, g3, g5, g25, g26, g27, b4, b3, b5, hlt, hw, he, k1]) | (refine wIn ?_; refine And.intro (by kernel_rfl) ?_; try simp only [thenA_n]) | (first | refine wBlock ?_ | refine wScope ?_) | ((first | refine wRet ?_ | refine wExit ?_ | refine wSkip ?_); try simp) | ((first | refine wLabel ?_ | refine wOn ?_ | refine wQn ?_); try simp only [thenA_n]) | (refine CallE.pure (c) rfl ?_) | (refine CallE.lent (c) rfl ?_) | (refine CallF.pure (c) rfl ?_) | (refine CallF.lent (c) rfl ?_) | (refine CallE.own (c) ?_) | (refine CallH.pure (c) rfl ?_) | (refine CallH.lent (c) rfl ?_) | (refine CallH.own (c) ?_)
      refine hL _ (N - 1) (by omega) ⟨k + 1, by omega, ?_⟩
      simp [g4, g3, g5, g25, g26, g27, b4, b3, b5, hw, hs, hs']
    by_cases k2 : t.ps[k].k = 2
    · have c := gone07_con q.ns t.ps[k].z.p (by omega)
      have hs' : stepP q t.ps[k] = { q with ns := gone q.ns t.ps[k].z.p } := by unfold stepP; rw [if_neg k1, if_pos k2]
      generalize gone q.ns t.ps[k].z.p = n1 at c hs'
      repeat' first | (refine hK _ ?_; clear hK) | (refine hK _ _ ?_; clear hK) | (clear hK; refine hK _ ?_; clear hK) | (clear hK; clear hK; refine hK _ ?_; clear hK) | (clear hK; clear hK; clear hK; refine hK _ ?_; clear hK) | (clear hK; clear hK; clear hK; clear hK; refine hK _ ?_; clear hK) | (refine wSeq fun K hK => ?_) | ((first | refine wReg ?_ | refine wDrwQ rfl (by kernel_rfl) ?_ | refine wDrwI ?_ | refine wDrw (by kernel_rfl) ?_); simp only [List.map_cons, List.map_nil, strip]) | ((first | refine wIs fun K hK => ?_ | refine wOs fun K hK => ?_ | refine wQs fun K hK => ?_ | refine CallK_plain ?_ | refine CallQ_plain ?_ | refine CallR_plain ?_ | refine wCond ?_); simp [g4, g3, g5, g25, g26, g27, b4, b3, b5, hlt, hw, he, k1, k2]) | (refine wIn ?_; refine And.intro (by kernel_rfl) ?_; try simp only [thenA_n]) | (first | refine wBlock ?_ | refine wScope ?_) | ((first | refine wRet ?_ | refine wExit ?_ | refine wSkip ?_); try simp) | ((first | refine wLabel ?_ | refine wOn ?_ | refine wQn ?_); try simp only [thenA_n]) | (refine CallE.pure (c) rfl ?_) | (refine CallE.lent (c) rfl ?_) | (refine CallF.pure (c) rfl ?_) | (refine CallF.lent (c) rfl ?_) | (refine CallE.own (c) ?_) | (refine CallH.pure (c) rfl ?_) | (refine CallH.lent (c) rfl ?_) | (refine CallH.own (c) ?_)
      refine hL _ (N - 1) (by omega) ⟨k + 1, by omega, ?_⟩
      simp [g4, g3, g5, g25, g26, g27, b4, b3, b5, hw, hs, hs']
    by_cases k3 : t.ps[k].k = 3
    · have hs' : stepP q t.ps[k] = { q with ss := opnL q.ss t.ps[k].s, nx := opnN q.nx t.ps[k].s } := by unfold stepP; rw [if_neg k1, if_neg k2, if_pos k3]
      by_cases o1 : 1 ≤ t.ps[k].s
      · by_cases o2 : t.ps[k].s ≤ 1099511627776
        · have ho : okS t.ps[k].s = true := decide_eq_true ⟨o1, o2⟩
          have hw1 : IntKind.i64.wrap (t.ps[k].s + 1) = t.ps[k].s + 1 := by rw [wrap_id] <;> omega
          have c := with08_con q.ss t.ps[k].s (by omega)
          rw [wth_ins] at c
          have e1 : opnL q.ss t.ps[k].s = insI q.ss t.ps[k].s := by unfold opnL; rw [if_pos ho]
          have e2 : opnN q.nx t.ps[k].s = max q.nx (t.ps[k].s + 1) := by unfold opnN; rw [if_pos ho]
          rw [e1, e2] at hs'
          generalize insI q.ss t.ps[k].s = n1 at c hs'
          repeat' first | (refine hK _ ?_; clear hK) | (refine hK _ _ ?_; clear hK) | (clear hK; refine hK _ ?_; clear hK) | (clear hK; clear hK; refine hK _ ?_; clear hK) | (clear hK; clear hK; clear hK; refine hK _ ?_; clear hK) | (clear hK; clear hK; clear hK; clear hK; refine hK _ ?_; clear hK) | (refine wSeq fun K hK => ?_) | ((first | refine wReg ?_ | refine wDrwQ rfl (by kernel_rfl) ?_ | refine wDrwI ?_ | refine wDrw (by kernel_rfl) ?_); simp only [List.map_cons, List.map_nil, strip]) | ((first | refine wIs fun K hK => ?_ | refine wOs fun K hK => ?_ | refine wQs fun K hK => ?_ | refine CallK_plain ?_ | refine CallQ_plain ?_ | refine CallR_plain ?_ | refine wCond ?_); simp [g4, g3, g5, g25, g26, g27, b4, b3, b5, hlt, hw, he, k1, k2, k3, o1, o2, hw1]) | (refine wIn ?_; refine And.intro (by kernel_rfl) ?_; try simp only [thenA_n]) | (first | refine wBlock ?_ | refine wScope ?_) | ((first | refine wRet ?_ | refine wExit ?_ | refine wSkip ?_); try simp) | ((first | refine wLabel ?_ | refine wOn ?_ | refine wQn ?_); try simp only [thenA_n]) | (refine CallE.pure (c) rfl ?_) | (refine CallE.lent (c) rfl ?_) | (refine CallF.pure (c) rfl ?_) | (refine CallF.lent (c) rfl ?_) | (refine CallE.own (c) ?_) | (refine CallH.pure (c) rfl ?_) | (refine CallH.lent (c) rfl ?_) | (refine CallH.own (c) ?_)
          all_goals refine hL _ (N - 1) (by omega) ⟨k + 1, by omega, ?_⟩
          all_goals simp [g4, g3, g5, g25, g26, g27, b4, b3, b5, hw, hs, hs', hw1]
          all_goals omega
        · have ho : ¬ okS t.ps[k].s = true := by unfold okS; simp; omega
          have e1 : opnL q.ss t.ps[k].s = q.ss := by unfold opnL; rw [if_neg ho]
          have e2 : opnN q.nx t.ps[k].s = q.nx := by unfold opnN; rw [if_neg ho]
          rw [e1, e2] at hs'
          repeat' first | (refine hK _ ?_; clear hK) | (refine hK _ _ ?_; clear hK) | (clear hK; refine hK _ ?_; clear hK) | (clear hK; clear hK; refine hK _ ?_; clear hK) | (clear hK; clear hK; clear hK; refine hK _ ?_; clear hK) | (clear hK; clear hK; clear hK; clear hK; refine hK _ ?_; clear hK) | (refine wSeq fun K hK => ?_) | ((first | refine wReg ?_ | refine wDrwQ rfl (by kernel_rfl) ?_ | refine wDrwI ?_ | refine wDrw (by kernel_rfl) ?_); simp only [List.map_cons, List.map_nil, strip]) | ((first | refine wIs fun K hK => ?_ | refine wOs fun K hK => ?_ | refine wQs fun K hK => ?_ | refine CallK_plain ?_ | refine CallQ_plain ?_ | refine CallR_plain ?_ | refine wCond ?_); simp [g4, g3, g5, g25, g26, g27, b4, b3, b5, hlt, hw, he, k1, k2, k3, o1, o2]) | (refine wIn ?_; refine And.intro (by kernel_rfl) ?_; try simp only [thenA_n]) | (first | refine wBlock ?_ | refine wScope ?_) | ((first | refine wRet ?_ | refine wExit ?_ | refine wSkip ?_); try simp) | ((first | refine wLabel ?_ | refine wOn ?_ | refine wQn ?_); try simp only [thenA_n])
          all_goals refine hL _ (N - 1) (by omega) ⟨k + 1, by omega, ?_⟩
          all_goals simp [g4, g3, g5, g25, g26, g27, b4, b3, b5, hw, hs, hs']
      · have ho : ¬ okS t.ps[k].s = true := by unfold okS; simp; omega
        have e1 : opnL q.ss t.ps[k].s = q.ss := by unfold opnL; rw [if_neg ho]
        have e2 : opnN q.nx t.ps[k].s = q.nx := by unfold opnN; rw [if_neg ho]
        rw [e1, e2] at hs'
        repeat' first | (refine hK _ ?_; clear hK) | (refine hK _ _ ?_; clear hK) | (clear hK; refine hK _ ?_; clear hK) | (clear hK; clear hK; refine hK _ ?_; clear hK) | (clear hK; clear hK; clear hK; refine hK _ ?_; clear hK) | (clear hK; clear hK; clear hK; clear hK; refine hK _ ?_; clear hK) | (refine wSeq fun K hK => ?_) | ((first | refine wReg ?_ | refine wDrwQ rfl (by kernel_rfl) ?_ | refine wDrwI ?_ | refine wDrw (by kernel_rfl) ?_); simp only [List.map_cons, List.map_nil, strip]) | ((first | refine wIs fun K hK => ?_ | refine wOs fun K hK => ?_ | refine wQs fun K hK => ?_ | refine CallK_plain ?_ | refine CallQ_plain ?_ | refine CallR_plain ?_ | refine wCond ?_); simp [g4, g3, g5, g25, g26, g27, b4, b3, b5, hlt, hw, he, k1, k2, k3, o1]) | (refine wIn ?_; refine And.intro (by kernel_rfl) ?_; try simp only [thenA_n]) | (first | refine wBlock ?_ | refine wScope ?_) | ((first | refine wRet ?_ | refine wExit ?_ | refine wSkip ?_); try simp) | ((first | refine wLabel ?_ | refine wOn ?_ | refine wQn ?_); try simp only [thenA_n])
        all_goals refine hL _ (N - 1) (by omega) ⟨k + 1, by omega, ?_⟩
        all_goals simp [g4, g3, g5, g25, g26, g27, b4, b3, b5, hw, hs, hs']
    by_cases k4 : t.ps[k].k = 4
    · have c := without08_con q.ss t.ps[k].s (by omega)
      have hs' : stepP q t.ps[k] = { q with ss := but q.ss t.ps[k].s } := by unfold stepP; rw [if_neg k1, if_neg k2, if_neg k3, if_pos k4]
      generalize but q.ss t.ps[k].s = n1 at c hs'
      repeat' first | (refine hK _ ?_; clear hK) | (refine hK _ _ ?_; clear hK) | (clear hK; refine hK _ ?_; clear hK) | (clear hK; clear hK; refine hK _ ?_; clear hK) | (clear hK; clear hK; clear hK; refine hK _ ?_; clear hK) | (clear hK; clear hK; clear hK; clear hK; refine hK _ ?_; clear hK) | (refine wSeq fun K hK => ?_) | ((first | refine wReg ?_ | refine wDrwQ rfl (by kernel_rfl) ?_ | refine wDrwI ?_ | refine wDrw (by kernel_rfl) ?_); simp only [List.map_cons, List.map_nil, strip]) | ((first | refine wIs fun K hK => ?_ | refine wOs fun K hK => ?_ | refine wQs fun K hK => ?_ | refine CallK_plain ?_ | refine CallQ_plain ?_ | refine CallR_plain ?_ | refine wCond ?_); simp [g4, g3, g5, g25, g26, g27, b4, b3, b5, hlt, hw, he, k1, k2, k3, k4]) | (refine wIn ?_; refine And.intro (by kernel_rfl) ?_; try simp only [thenA_n]) | (first | refine wBlock ?_ | refine wScope ?_) | ((first | refine wRet ?_ | refine wExit ?_ | refine wSkip ?_); try simp) | ((first | refine wLabel ?_ | refine wOn ?_ | refine wQn ?_); try simp only [thenA_n]) | (refine CallE.pure (c) rfl ?_) | (refine CallE.lent (c) rfl ?_) | (refine CallF.pure (c) rfl ?_) | (refine CallF.lent (c) rfl ?_) | (refine CallE.own (c) ?_) | (refine CallH.pure (c) rfl ?_) | (refine CallH.lent (c) rfl ?_) | (refine CallH.own (c) ?_)
      refine hL _ (N - 1) (by omega) ⟨k + 1, by omega, ?_⟩
      simp [g4, g3, g5, g25, g26, g27, b4, b3, b5, hw, hs, hs']
    by_cases k5 : t.ps[k].k = 5
    · have c := copied08_con t.ps[k].c.ep t.ps[k].c.n t.ps[k].c.kind (mbs t.ps[k].c.ms) (by rw [mbs_len]; exact hpc)
      have hs' : stepP q t.ps[k] = { q with c := t.ps[k].c } := by unfold stepP; rw [if_neg k1, if_neg k2, if_neg k3, if_neg k4, if_pos k5]
      repeat' first | (refine hK _ ?_; clear hK) | (refine hK _ _ ?_; clear hK) | (clear hK; refine hK _ ?_; clear hK) | (clear hK; clear hK; refine hK _ ?_; clear hK) | (clear hK; clear hK; clear hK; refine hK _ ?_; clear hK) | (clear hK; clear hK; clear hK; clear hK; refine hK _ ?_; clear hK) | (refine wSeq fun K hK => ?_) | ((first | refine wReg ?_ | refine wDrwQ rfl (by kernel_rfl) ?_ | refine wDrwI ?_ | refine wDrw (by kernel_rfl) ?_); simp only [List.map_cons, List.map_nil, strip]) | ((first | refine wIs fun K hK => ?_ | refine wOs fun K hK => ?_ | refine wQs fun K hK => ?_ | refine CallK_plain ?_ | refine CallQ_plain ?_ | refine CallR_plain ?_ | refine wCond ?_); simp [g4, g3, g5, g25, g26, g27, b4, b3, b5, hlt, hw, he, k1, k2, k3, k4, k5]) | (refine wIn ?_; refine And.intro (by kernel_rfl) ?_; try simp only [thenA_n]) | (first | refine wBlock ?_ | refine wScope ?_) | ((first | refine wRet ?_ | refine wExit ?_ | refine wSkip ?_); try simp) | ((first | refine wLabel ?_ | refine wOn ?_ | refine wQn ?_); try simp only [thenA_n]) | (refine CallE.pure (c) rfl ?_) | (refine CallE.lent (c) rfl ?_) | (refine CallF.pure (c) rfl ?_) | (refine CallF.lent (c) rfl ?_) | (refine CallE.own (c) ?_) | (refine CallH.pure (c) rfl ?_) | (refine CallH.lent (c) rfl ?_) | (refine CallH.own (c) ?_)
      refine hL _ (N - 1) (by omega) ⟨k + 1, by omega, ?_⟩
      simp [g4, g3, g5, g25, g26, g27, b4, b3, b5, hw, hs, hs']
    · have hs' : stepP q t.ps[k] = q := by unfold stepP; rw [if_neg k1, if_neg k2, if_neg k3, if_neg k4, if_neg k5]
      repeat' first | (refine hK _ ?_; clear hK) | (refine hK _ _ ?_; clear hK) | (clear hK; refine hK _ ?_; clear hK) | (clear hK; clear hK; refine hK _ ?_; clear hK) | (clear hK; clear hK; clear hK; refine hK _ ?_; clear hK) | (clear hK; clear hK; clear hK; clear hK; refine hK _ ?_; clear hK) | (refine wSeq fun K hK => ?_) | ((first | refine wReg ?_ | refine wDrwQ rfl (by kernel_rfl) ?_ | refine wDrwI ?_ | refine wDrw (by kernel_rfl) ?_); simp only [List.map_cons, List.map_nil, strip]) | ((first | refine wIs fun K hK => ?_ | refine wOs fun K hK => ?_ | refine wQs fun K hK => ?_ | refine CallK_plain ?_ | refine CallQ_plain ?_ | refine CallR_plain ?_ | refine wCond ?_); simp [g4, g3, g5, g25, g26, g27, b4, b3, b5, hlt, hw, he, k1, k2, k3, k4, k5]) | (refine wIn ?_; refine And.intro (by kernel_rfl) ?_; try simp only [thenA_n]) | (first | refine wBlock ?_ | refine wScope ?_) | ((first | refine wRet ?_ | refine wExit ?_ | refine wSkip ?_); try simp) | ((first | refine wLabel ?_ | refine wOn ?_ | refine wQn ?_); try simp only [thenA_n])
      refine hL _ (N - 1) (by omega) ⟨k + 1, by omega, ?_⟩
      simp [g4, g3, g5, g25, g26, g27, b4, b3, b5, hw, hs, hs']
  · rw [List.take_of_length_le (by omega)] at b5
    unfold doS lateS at hr
    simp only [last2] at hr
    generalize runP s t.ps = q at hr b5
    have c := cmp02_con t.e t.n q.ae q.an
    by_cases o : 0 < zcmp t.e t.n q.ae q.an
    · simp only [if_pos o] at hr
      repeat' first | (refine hK _ ?_; clear hK) | (refine hK _ _ ?_; clear hK) | (clear hK; refine hK _ ?_; clear hK) | (clear hK; clear hK; refine hK _ ?_; clear hK) | (clear hK; clear hK; clear hK; refine hK _ ?_; clear hK) | (clear hK; clear hK; clear hK; clear hK; refine hK _ ?_; clear hK) | (refine wSeq fun K hK => ?_) | ((first | refine wReg ?_ | refine wDrwQ rfl (by kernel_rfl) ?_ | refine wDrwI ?_ | refine wDrw (by kernel_rfl) ?_); simp only [List.map_cons, List.map_nil, strip]) | ((first | refine wIs fun K hK => ?_ | refine wOs fun K hK => ?_ | refine wQs fun K hK => ?_ | refine CallK_plain ?_ | refine CallQ_plain ?_ | refine CallR_plain ?_ | refine wCond ?_); simp [g4, g3, g5, g25, g26, g27, b4, b3, b5, hlt, o]) | (refine wIn ?_; refine And.intro (by kernel_rfl) ?_; try simp only [thenA_n]) | (first | refine wBlock ?_ | refine wScope ?_) | ((first | refine wRet ?_ | refine wExit ?_ | refine wSkip ?_); try simp) | ((first | refine wLabel ?_ | refine wOn ?_ | refine wQn ?_); try simp only [thenA_n]) | (refine CallE.pure (c) rfl ?_) | (refine CallE.lent (c) rfl ?_) | (refine CallF.pure (c) rfl ?_) | (refine CallF.lent (c) rfl ?_) | (refine CallE.own (c) ?_) | (refine CallH.pure (c) rfl ?_) | (refine CallH.lent (c) rfl ?_) | (refine CallH.own (c) ?_)
      all_goals apply hr
      all_goals simp [Try.f34, g4, b4, b5]
    · simp only [if_neg o] at hr
      repeat' first | (refine hK _ ?_; clear hK) | (refine hK _ _ ?_; clear hK) | (clear hK; refine hK _ ?_; clear hK) | (clear hK; clear hK; refine hK _ ?_; clear hK) | (clear hK; clear hK; clear hK; refine hK _ ?_; clear hK) | (clear hK; clear hK; clear hK; clear hK; refine hK _ ?_; clear hK) | (refine wSeq fun K hK => ?_) | ((first | refine wReg ?_ | refine wDrwQ rfl (by kernel_rfl) ?_ | refine wDrwI ?_ | refine wDrw (by kernel_rfl) ?_); simp only [List.map_cons, List.map_nil, strip]) | ((first | refine wIs fun K hK => ?_ | refine wOs fun K hK => ?_ | refine wQs fun K hK => ?_ | refine CallK_plain ?_ | refine CallQ_plain ?_ | refine CallR_plain ?_ | refine wCond ?_); simp [g4, g3, g5, g25, g26, g27, b4, b3, b5, hlt, o]) | (refine wIn ?_; refine And.intro (by kernel_rfl) ?_; try simp only [thenA_n]) | (first | refine wBlock ?_ | refine wScope ?_) | ((first | refine wRet ?_ | refine wExit ?_ | refine wSkip ?_); try simp) | ((first | refine wLabel ?_ | refine wOn ?_ | refine wQn ?_); try simp only [thenA_n]) | (refine CallE.pure (c) rfl ?_) | (refine CallE.lent (c) rfl ?_) | (refine CallF.pure (c) rfl ?_) | (refine CallF.lent (c) rfl ?_) | (refine CallE.own (c) ?_) | (refine CallH.pure (c) rfl ?_) | (refine CallH.lent (c) rfl ?_) | (refine CallH.own (c) ?_)
      all_goals apply hr
      all_goals simp [Try.f34, g4, b4, b5]
theorem doS_at (s : Sv) (a b c d : Int) (m : List UInt8) : doS s ⟨s.ae, s.an, a, b, c, d, m, []⟩ = s := by
  unfold doS lateS runP
  rw [last2]
  simp [zcmp]
set_option maxHeartbeats 4000000 in
theorem all08_con (s : Sv) (l : List Tx) (hs : Fits s (psum l)) (ht : ∀ t ∈ l, okT t) : ACon Try.prog 37 [.p (.agg s.cells), .p (.sl 8 (txns l))] (.p (.agg (allS s l).cells)) := by
  refine ACon.len ⟨Try.f37, Try.func37, rfl, rfl⟩ 1 _ _ rfl fun hlen => ?_
  simp only [txns_len] at hlen
  have c1 := apply08_con s ⟨s.ae, s.an, 0, 0, 0, 0, [], []⟩ (hs.le (by simp)) (fun p hp => by simp at hp)
  rw [doS_at] at c1
  unfold Tx.cells Sv.cells at c1
  rw [show pts [] = [] from rfl] at c1
  unfold Sv.cells
  refine wBody Try.tab Try.mixed Try.func37 rfl rfl Try.ntmps37 (by simp) (by simp) fun Q hr hn => ?_
  repeat' first | (refine hK _ ?_; clear hK) | (refine hK _ _ ?_; clear hK) | (clear hK; refine hK _ ?_; clear hK) | (clear hK; clear hK; refine hK _ ?_; clear hK) | (clear hK; clear hK; clear hK; refine hK _ ?_; clear hK) | (clear hK; clear hK; clear hK; clear hK; refine hK _ ?_; clear hK) | (refine wSeq fun K hK => ?_) | ((first | refine wReg ?_ | refine wDrwQ rfl (by kernel_rfl) ?_ | refine wDrwI ?_ | refine wDrw (by kernel_rfl) ?_); simp only [List.map_cons, List.map_nil, strip]) | ((first | refine wIs fun K hK => ?_ | refine wOs fun K hK => ?_ | refine wQs fun K hK => ?_ | refine CallK_plain ?_ | refine CallQ_plain ?_ | refine CallR_plain ?_ | refine wCond ?_); simp) | (refine wIn ?_; refine And.intro (by kernel_rfl) ?_; try simp only [thenA_n]) | (first | refine wBlock ?_ | refine wScope ?_) | ((first | refine wRet ?_ | refine wExit ?_ | refine wSkip ?_); try simp) | ((first | refine wLabel ?_ | refine wOn ?_ | refine wQn ?_); try simp only [thenA_n]) | (refine CallE.pure (c1) rfl ?_) | (refine CallE.lent (c1) rfl ?_) | (refine CallF.pure (c1) rfl ?_) | (refine CallF.lent (c1) rfl ?_) | (refine CallE.own (c1) ?_) | (refine CallH.pure (c1) rfl ?_) | (refine CallH.lent (c1) rfl ?_) | (refine CallH.own (c1) ?_)
  refine wLoop (fun N st => ∃ k, k + N = l.length ∧ Fits (allS s (l.take k)) (psum (l.drop k)) ∧ st.s 5 = .ptr 5 0 ∧ st.s 4 = .ptr 4 0 ∧ st.s 13 = .p (.sl 8 (txns l)) ∧ st.s 14 = .p (I l.length) ∧ st.s 15 = .p (I k) ∧ st.b 4 = some (.box 51 [.nil 5, .nil 1, .p (I 0), .p (I 0), .p (I 0), .p (I 0), .nil 4, .p (I 0), .p (I 0)]) ∧ st.b 5 = some (.box 51 [.p (.sl 5 (zns (allS s (l.take k)).ns)), .p (.sl 1 (ints (allS s (l.take k)).ss)), .p (I (allS s (l.take k)).nx), .p (I (allS s (l.take k)).c.ep), .p (I (allS s (l.take k)).c.n), .p (I (allS s (l.take k)).c.kind), .p (.sl 4 (mbs (allS s (l.take k)).c.ms)), .p (I (allS s (l.take k)).ae), .p (I (allS s (l.take k)).an)])) l.length ⟨0, by simp [allS]; exact hs⟩ fun K N st hL ⟨k, hk, hf, g5, g4, g13, g14, g15, b4, b5⟩ => ?_
  by_cases hlt : k < l.length
  · have hw := wrapX k _ hlt (by omega)
    have he := txns_get hlt
    have hsn := allS_snoc s hlt
    have hps := psum_drop hlt
    have htk := ht l[k] (List.getElem_mem hlt)
    rw [hps] at hf
    have hf2 := doS_fits hf htk
    rw [← hsn] at hf2
    generalize allS s (l.take k) = q at hsn hf b5
    have c2 := apply08_con q l[k] (hf.le (by omega)) htk
    rw [← hsn] at c2
    unfold Sv.cells Tx.cells at c2
    generalize hr' : allS s (l.take (k + 1)) = r at c2 hf2
    repeat' first | (refine hK _ ?_; clear hK) | (refine hK _ _ ?_; clear hK) | (clear hK; refine hK _ ?_; clear hK) | (clear hK; clear hK; refine hK _ ?_; clear hK) | (clear hK; clear hK; clear hK; refine hK _ ?_; clear hK) | (clear hK; clear hK; clear hK; clear hK; refine hK _ ?_; clear hK) | (refine wSeq fun K hK => ?_) | ((first | refine wReg ?_ | refine wDrwQ rfl (by kernel_rfl) ?_ | refine wDrwI ?_ | refine wDrw (by kernel_rfl) ?_); simp only [List.map_cons, List.map_nil, strip]) | ((first | refine wIs fun K hK => ?_ | refine wOs fun K hK => ?_ | refine wQs fun K hK => ?_ | refine CallK_plain ?_ | refine CallQ_plain ?_ | refine CallR_plain ?_ | refine wCond ?_); simp [g5, g4, g13, g14, g15, b4, b5, hlt, hw, he]) | (refine wIn ?_; refine And.intro (by kernel_rfl) ?_; try simp only [thenA_n]) | (first | refine wBlock ?_ | refine wScope ?_) | ((first | refine wRet ?_ | refine wExit ?_ | refine wSkip ?_); try simp) | ((first | refine wLabel ?_ | refine wOn ?_ | refine wQn ?_); try simp only [thenA_n]) | (refine CallE.pure (c2) rfl ?_) | (refine CallE.lent (c2) rfl ?_) | (refine CallF.pure (c2) rfl ?_) | (refine CallF.lent (c2) rfl ?_) | (refine CallE.own (c2) ?_) | (refine CallH.pure (c2) rfl ?_) | (refine CallH.lent (c2) rfl ?_) | (refine CallH.own (c2) ?_)
    refine hL _ (N - 1) (by omega) ⟨k + 1, by omega, ?_⟩
    simp [g5, g4, g13, g14, g15, b4, b5, hw, hr']
    exact hf2
  · rw [List.take_of_length_le (by omega)] at b5
    generalize allS s l = q at b5 hr
    repeat' first | (refine hK _ ?_; clear hK) | (refine hK _ _ ?_; clear hK) | (clear hK; refine hK _ ?_; clear hK) | (clear hK; clear hK; refine hK _ ?_; clear hK) | (clear hK; clear hK; clear hK; refine hK _ ?_; clear hK) | (clear hK; clear hK; clear hK; clear hK; refine hK _ ?_; clear hK) | (refine wSeq fun K hK => ?_) | ((first | refine wReg ?_ | refine wDrwQ rfl (by kernel_rfl) ?_ | refine wDrwI ?_ | refine wDrw (by kernel_rfl) ?_); simp only [List.map_cons, List.map_nil, strip]) | ((first | refine wIs fun K hK => ?_ | refine wOs fun K hK => ?_ | refine wQs fun K hK => ?_ | refine CallK_plain ?_ | refine CallQ_plain ?_ | refine CallR_plain ?_ | refine wCond ?_); simp [g5, g4, g13, g14, g15, b4, b5, hlt]) | (refine wIn ?_; refine And.intro (by kernel_rfl) ?_; try simp only [thenA_n]) | (first | refine wBlock ?_ | refine wScope ?_) | ((first | refine wRet ?_ | refine wExit ?_ | refine wSkip ?_); try simp) | ((first | refine wLabel ?_ | refine wOn ?_ | refine wQn ?_); try simp only [thenA_n])
    all_goals apply hr
    all_goals simp [Try.f37, g4, g5, b4, b5]
end Go.Proofs.Ytpadfoaigbfekaa
/- States: what is done twice is as once. -/
namespace Go.Proofs.Ytpadfoaigbfekaa
set_option linter.unusedSimpArgs false
set_option linter.unusedVariables false
open Go Go.Av
/-! ### Rising lists of numbers -/
abbrev up (l : List Int) : Prop := l.Pairwise (· < ·)
theorem insI_cons (x : Int) (l : List Int) (s : Int) : insI (x :: l) s = if x < s then x :: insI l s else s :: but (x :: l) s := by
  by_cases h : x < s
  · have hb : but (x :: l) s = x :: but l s := by
      unfold but; rw [List.filter_cons_of_pos (by simp; omega)]
    rw [if_pos h]
    unfold insI
    rw [hb, show atI (x :: l) s = atI l s + 1 by rw [atI, if_pos h]]
    rfl
  · rw [if_neg h]
    unfold insI
    rw [show atI (x :: l) s = 0 by rw [atI, if_neg h]]
    rfl
theorem mem_but {l : List Int} {s x : Int} : x ∈ but l s ↔ x ∈ l ∧ ¬ x = s := by
  unfold but; simp [List.mem_filter]
theorem mem_insI {s x : Int} : ∀ {l : List Int}, x ∈ insI l s ↔ x = s ∨ x ∈ l
  | [] => by simp [insI, atI, but]
  | y :: l => by
    rw [insI_cons]
    by_cases h : y < s
    · rw [if_pos h, List.mem_cons, mem_insI, List.mem_cons]
      constructor
      · rintro (h1 | h1 | h1) <;> simp [h1]
      · rintro (h1 | h1 | h1) <;> simp [h1]
    · rw [if_neg h, List.mem_cons, mem_but]
      constructor
      · rintro (h1 | h1)
        · exact .inl h1
        · exact .inr h1.1
      · rintro (h1 | h1)
        · exact .inl h1
        · by_cases h2 : x = s
          · exact .inl h2
          · exact .inr ⟨h1, h2⟩
theorem up_but {l : List Int} (h : up l) (s : Int) : up (but l s) := h.sublist List.filter_sublist
theorem up_insI {s : Int} : ∀ {l : List Int}, up l → up (insI l s)
  | [], _ => by simp [insI, atI, but, up]
  | y :: l, h => by
    rw [insI_cons]
    have h' := List.pairwise_cons.1 h
    by_cases hy : y < s
    · rw [if_pos hy]
      refine List.pairwise_cons.2 ⟨fun x hx => ?_, up_insI h'.2⟩
      rcases mem_insI.1 hx with rfl | hx
      · exact hy
      · exact h'.1 x hx
    · rw [if_neg hy]
      refine List.pairwise_cons.2 ⟨fun x hx => ?_, up_but h s⟩
      obtain ⟨h1, h2⟩ := mem_but.1 hx
      rcases List.mem_cons.1 h1 with rfl | h1
      · omega
      · have := h'.1 x h1; omega
theorem up_ext : ∀ {a b : List Int}, up a → up b → (∀ x, x ∈ a ↔ x ∈ b) → a = b
  | [], [], _, _, _ => rfl
  | [], y :: b, _, _, h => by have := (h y).2 (by simp); simp at this
  | x :: a, [], _, _, h => by have := (h x).1 (by simp); simp at this
  | x :: a, y :: b, ha, hb, h => by
    have ha' := List.pairwise_cons.1 ha
    have hb' := List.pairwise_cons.1 hb
    have e : x = y := by
      have h1 := (h x).1 (by simp)
      have h2 := (h y).2 (by simp)
      rcases List.mem_cons.1 h1 with h1 | h1
      · exact h1
      · rcases List.mem_cons.1 h2 with h2 | h2
        · exact h2.symm
        · have := ha'.1 y h2
          have := hb'.1 x h1
          omega
    subst e
    rw [up_ext ha'.2 hb'.2 fun w => ?_]
    have hw := h w
    simp only [List.mem_cons] at hw
    constructor
    · intro h1
      rcases hw.1 (.inr h1) with rfl | h2
      · have := ha'.1 w h1; omega
      · exact h2
    · intro h1
      rcases hw.2 (.inr h1) with rfl | h2
      · have := hb'.1 w h1; omega
      · exact h2
/-! ### The parts of a state -/
inductive Nx where
  | put (z : Zn)
  | gone (p : List UInt8)
  | no
def Nx.go (l : List Zn) : Nx → List Zn
  | .put z => putZ l z
  | .gone p => Go.Proofs.Ytpadfoaigbfekaa.gone l p
  | .no => l
theorem nxRis {l : List Zn} (h : ris l) (a : Nx) : ris (Nx.go l a) := by
  cases a with
  | put z => exact ris_put h z
  | gone p => exact ris_gone h p
  | no => exact h
def Nx.fnd (r : Zn × Bool) (w : List UInt8) : Nx → Zn × Bool
  | .put z => if z.p = w then (z, true) else r
  | .gone p => if w = p then (zz, false) else r
  | .no => r
theorem Nx.fnd_go (l : List Zn) (a : Nx) (w : List UInt8) : Go.Proofs.Ytpadfoaigbfekaa.fnd (Nx.go l a) w = Nx.fnd (Go.Proofs.Ytpadfoaigbfekaa.fnd l w) w a := by
  cases a with
  | put z => exact fnd_put l z w
  | gone p => exact fnd_gone l p w
  | no => rfl
theorem Nx.abs {l : List Zn} (h : Go.Proofs.Ytpadfoaigbfekaa.ris l) (f g : Nx) : Nx.go (Nx.go (Nx.go l f) g) f = Nx.go (Nx.go l g) f := by
  refine ris_ext (nxRis (nxRis (nxRis h f) g) f) (nxRis (nxRis h g) f) fun w => ?_
  simp only [Nx.fnd_go]
  generalize Go.Proofs.Ytpadfoaigbfekaa.fnd l w = r
  cases f <;> cases g <;> simp only [Nx.fnd] <;> (repeat' split) <;> first | rfl | simp_all
inductive Sx where
  | op (n : Int)
  | cl (n : Int)
  | no
def Sx.go (l : List Int) : Sx → List Int
  | .op n => opnL l n
  | .cl n => but l n
  | .no => l
theorem sxUp {l : List Int} (h : up l) (a : Sx) : up (Sx.go l a) := by
  cases a with
  | op n =>
    show up (opnL l n)
    unfold opnL
    split
    · exact up_insI h
    · exact h
  | cl n => exact up_but h n
  | no => exact h
def Sx.has (b : Prop) (x : Int) : Sx → Prop
  | .op n => if okS n = true then x = n ∨ b else b
  | .cl n => b ∧ ¬ x = n
  | .no => b
theorem Sx.mem_go (l : List Int) (a : Sx) (x : Int) : x ∈ Sx.go l a ↔ Sx.has (x ∈ l) x a := by
  cases a with
  | op n =>
    show x ∈ opnL l n ↔ if okS n = true then x = n ∨ x ∈ l else x ∈ l
    unfold opnL
    split
    · exact mem_insI
    · exact Iff.rfl
  | cl n => exact mem_but
  | no => exact Iff.rfl
theorem Sx.abs {l : List Int} (h : up l) (f g : Sx) : Sx.go (Sx.go (Sx.go l f) g) f = Sx.go (Sx.go l g) f := by
  refine up_ext (sxUp (sxUp (sxUp h f) g) f) (sxUp (sxUp h g) f) fun x => ?_
  simp only [Sx.mem_go]
  generalize (x ∈ l) = b
  cases f <;> cases g <;> simp only [Sx.has] <;> (repeat' split) <;> (by_cases hb : b <;> simp [hb] <;> (try omega))
def Mx (a : Int) : Option Int → Int
  | some b => max a b
  | none => a
theorem Mx.abs (a : Int) (f g : Option Int) : Mx (Mx (Mx a f) g) f = Mx (Mx a g) f := by
  cases f <;> cases g <;> simp only [Mx] <;> omega
def Zj (a : Zx) : Option Zx → Zx
  | some b => lastZ [a, b]
  | none => a
theorem lastZ_two (a b : Zx) : lastZ [a, b] = if 0 < zcmp b.e b.n a.e a.n then b else a := rfl
theorem Zj.abs (a : Zx) (f g : Option Zx) : Zj (Zj (Zj a f) g) f = Zj (Zj a g) f := by
  cases f <;> cases g <;> simp only [Zj, lastZ_two, zcmp_pos]
  · split <;> simp_all
  · rename_i x y
    obtain ⟨a1, a2⟩ := a
    obtain ⟨x1, x2⟩ := x
    obtain ⟨y1, y2⟩ := y
    (repeat' split) <;> simp only [Zx.mk.injEq] at * <;> omega
def Cx (a : Cf) : Option Cf → Cf
  | some b => b
  | none => a
/-! ### What is done -/
inductive Act1 where
  | part (p : Pt)
  | late (e n : Int)
def Act1.n : Act1 → Nx
  | .part p => if p.k = 1 then .put p.z else if p.k = 2 then .gone p.z.p else .no
  | .late _ _ => .no
def Act1.s : Act1 → Sx
  | .part p => if p.k = 3 then .op p.s else if p.k = 4 then .cl p.s else .no
  | .late _ _ => .no
def Act1.m : Act1 → Option Int
  | .part p => if p.k = 3 ∧ okS p.s = true then some (p.s + 1) else none
  | .late _ _ => none
def Act1.c : Act1 → Option Cf
  | .part p => if p.k = 5 then some p.c else none
  | .late _ _ => none
def Act1.z : Act1 → Option Zx
  | .part _ => none
  | .late e n => some ⟨e, n⟩
def mkS (ns : List Zn) (ss : List Int) (nx : Int) (c : Cf) (z : Zx) : Sv := ⟨ns, ss, nx, c, z.e, z.n⟩
def act1 (s : Sv) (a : Act1) : Sv := mkS (Nx.go s.ns a.n) (Sx.go s.ss a.s) (Mx s.nx a.m) (Cx s.c a.c) (Zj ⟨s.ae, s.an⟩ a.z)
theorem act1_part (s : Sv) (p : Pt) : act1 s (.part p) = stepP s p := by
  obtain ⟨ns, ss, nx, c, ae, an⟩ := s
  unfold act1 stepP mkS Act1.n Act1.s Act1.m Act1.c Act1.z
  by_cases k1 : p.k = 1
  · simp [k1, Nx.go, Sx.go, Mx, Cx, Zj]
  by_cases k2 : p.k = 2
  · simp [k2, Nx.go, Sx.go, Mx, Cx, Zj]
  by_cases k3 : p.k = 3
  · by_cases ho : okS p.s = true
    · simp [k3, ho, Nx.go, Sx.go, Mx, Cx, Zj, opnN]
    · simp [k3, ho, Nx.go, Sx.go, Mx, Cx, Zj, opnN]
  by_cases k4 : p.k = 4
  · simp [k4, Nx.go, Sx.go, Mx, Cx, Zj]
  by_cases k5 : p.k = 5
  · simp [k5, Nx.go, Sx.go, Mx, Cx, Zj]
  simp [k1, k2, k3, k4, k5, Nx.go, Sx.go, Mx, Cx, Zj]
structure Inv (s : Sv) : Prop where
  ns : ris s.ns
  ss : up s.ss
theorem Inv.act {s : Sv} (h : Inv s) (a : Act1) : Inv (act1 s a) := ⟨nxRis h.ns a.n, sxUp h.ss a.s⟩
theorem act1_abs {s : Sv} (h : Inv s) (f g : Act1) : act1 (act1 (act1 s f) g) f = act1 (act1 s g) f := by
  have h1 := Nx.abs h.ns f.n g.n
  have h2 := Sx.abs h.ss f.s g.s
  have h3 := Mx.abs s.nx f.m g.m
  have h4 : Cx (Cx (Cx s.c f.c) g.c) f.c = Cx (Cx s.c g.c) f.c := by cases f.c <;> cases g.c <;> rfl
  have h5 := Zj.abs ⟨s.ae, s.an⟩ f.z g.z
  show mkS (Nx.go (Nx.go (Nx.go s.ns f.n) g.n) f.n) (Sx.go (Sx.go (Sx.go s.ss f.s) g.s) f.s) (Mx (Mx (Mx s.nx f.m) g.m) f.m) (Cx (Cx (Cx s.c f.c) g.c) f.c) (Zj (Zj (Zj ⟨s.ae, s.an⟩ f.z) g.z) f.z) = _
  rw [h1, h2, h3, h4, h5]; rfl
def acts (s : Sv) (l : List Act1) : Sv := l.foldl act1 s
theorem Inv.acts : ∀ (l : List Act1) {s : Sv}, Inv s → Inv (acts s l)
  | [], _, h => h
  | a :: l, _, h => Inv.acts l (h.act a)
theorem act1_no (s : Sv) : act1 s (.part ⟨0, zz, 0, ⟨0, 0, 0, []⟩⟩) = s := by rw [act1_part]; rfl
theorem acts_abs (f : Act1) : ∀ (G : List Act1) {s : Sv}, Inv s → act1 (acts (act1 s f) G) f = act1 (acts s G) f
  | [], s, h => by
    have := act1_abs h f (.part ⟨0, zz, 0, ⟨0, 0, 0, []⟩⟩)
    rw [act1_no, act1_no] at this
    exact this
  | g :: G, s, h => by
    show act1 (acts (act1 (act1 s f) g) G) f = act1 (acts (act1 s g) G) f
    rw [← acts_abs f G ((h.act f).act g), act1_abs h f g, acts_abs f G (h.act g)]
theorem acts_app (s : Sv) (a b : List Act1) : acts s (a ++ b) = acts (acts s a) b := List.foldl_append
theorem acts_idem {s : Sv} (h : Inv s) : ∀ (n : Nat) (A : List Act1), A.length = n → acts (acts s A) A = acts s A
  | 0, A, hn => by rw [List.length_eq_zero_iff.1 hn]; rfl
  | n + 1, A, hn => by
    obtain ⟨B, f, rfl⟩ : ∃ B f, A = B ++ [f] := by
      rcases List.eq_nil_or_concat A with rfl | ⟨B, f, rfl⟩
      · simp at hn
      · exact ⟨B, f, by simp⟩
    have ih := acts_idem h n B (by simpa using hn)
    simp only [acts_app]
    show act1 (acts (act1 (acts s B) f) B) f = act1 (acts s B) f
    rw [acts_abs f B (h.acts B), ih]
def tacts (t : Tx) : List Act1 := t.ps.map .part ++ [.late t.e t.n]
theorem runP_acts : ∀ (l : List Pt) (s : Sv), runP s l = acts s (l.map .part)
  | [], s => rfl
  | p :: l, s => by
    show runP (stepP s p) l = acts (act1 s (.part p)) (l.map .part)
    rw [act1_part, runP_acts l]
theorem doS_acts (s : Sv) (t : Tx) : doS s t = acts s (tacts t) := by
  unfold doS tacts
  rw [acts_app, runP_acts]; rfl
theorem allS_acts : ∀ (l : List Tx) (s : Sv), allS s l = acts s (l.flatMap tacts)
  | [], s => rfl
  | t :: l, s => by
    show allS (doS s t) l = _
    rw [allS_acts l, doS_acts, List.flatMap_cons, acts_app]
theorem allS_app (s : Sv) (a b : List Tx) : allS s (a ++ b) = allS (allS s a) b := List.foldl_append
theorem Inv.all {s : Sv} (h : Inv s) (l : List Tx) : Inv (allS s l) := by rw [allS_acts]; exact h.acts _
theorem allS_idem {s : Sv} (h : Inv s) (l : List Tx) : allS (allS s l) l = allS s l := by
  simp only [allS_acts]; exact acts_idem h _ _ rfl
theorem start_inv (c : Cf) : Inv (startS c) := ⟨by rw [ris_pw]; simp [startS], by simp [startS, up]⟩
theorem twice_do {s : Sv} (h : Inv s) (t : Tx) : doS (doS s t) t = doS s t := allS_idem h [t]
theorem fuzzy {s : Sv} (h : Inv s) (l : List Tx) {i j : Nat} (hij : i ≤ j) : allS (allS s (l.take j)) (l.drop i) = allS s l := by
  have e1 : l.take j = l.take i ++ (l.take j).drop i := by
    have := (List.take_append_drop i (l.take j)).symm
    rwa [List.take_take, Nat.min_eq_left hij] at this
  have e2 : l.drop i = (l.take j).drop i ++ l.drop j := by
    have h1 : (l.drop i).take (j - i) = (l.take j).drop i := List.drop_take.symm
    have h2 : (l.drop i).drop (j - i) = l.drop j := by rw [List.drop_drop]; congr 1; omega
    rw [← h1, ← h2, List.take_append_drop]
  generalize (l.take j).drop i = M at e1 e2
  have e3 : l = l.take i ++ l.drop i := (List.take_append_drop i l).symm
  rw [e1, e2, allS_app, allS_app, allS_idem (h.all _)]
  conv => rhs; rw [e3, e2]
  rw [allS_app, allS_app]
end Go.Proofs.Ytpadfoaigbfekaa
/- States: the laws StateApplies, StateTwice, StateFuzzy. -/
namespace Go.Proofs.Ytpadfoaigbfekaa
set_option linter.unusedSimpArgs false
set_option linter.unusedVariables false
open Go Go.Av
attribute [local simp] Try.T1 Try.T2 Try.T3 Try.T4 Try.T5 Try.T9 Try.T12 Try.T21 Try.T22 Try.T24 Try.T25 Try.T26 Try.T27 Try.T28 Try.T29 Try.T30 Try.T31 Try.T33 Try.T34 Try.T35 Try.T36 Try.T37 Try.T38 Try.T39 Try.T41 Try.T42 Try.T43 Try.T44 Try.T46 Try.T47 Try.T49 Try.T51 Try.T52 Try.T53 Try.T54 Try.T56 Try.T57 Try.T58 Try.T59 Try.T60 Try.T62 Try.T64 Try.T65 Try.T66 Try.T67 Try.T68 Try.T69 Try.T70 Try.T71 Try.T72 Try.T73 Try.T75 Try.T76 Try.T77 Try.T78 Try.T79 Try.T80 Try.T82 Try.T83 Try.T84 Try.T85 Try.T87 Try.T88 Try.T89 Try.T90 Try.T91 Try.T92 Try.T93 Try.T94 Try.T95 Try.T96 Try.T97 Try.T98 Try.T99 Try.T100 Try.T102 Try.T103 Try.T104 Try.T105 Try.T106 Try.T107 Try.T109 Try.T110 Try.T111 Try.T112 Try.T113 Try.T114 Try.T115 Try.T116 Try.T117 Try.T123 Try.T126
attribute [local irreducible] Go.Av.CallK Go.Av.CallE Go.Av.CallQ Go.Av.CallF Go.Av.CallR Go.Av.CallH Go.Av.Con
theorem txns_snoc (l : List Tx) (t : Tx) : txns l ++ [[I t.e, I t.n, I t.s, I t.x, I t.r, I t.b, SB t.m, .sl 11 (pts t.ps)]] = txns (l ++ [t]) := by simp [txns, Tx.cells]
theorem txns_take (l : List Tx) (k : Nat) : (txns l).take k = txns (l.take k) := by simp [txns, List.map_take]
theorem txns_drop (l : List Tx) (k : Nat) : (txns l).drop k = txns (l.drop k) := by simp [txns, List.map_drop]
theorem farF_eq : ∀ (l : List Tx) (n : Int), 0 ≤ n → (∀ t ∈ l, t.ps.length ≤ reachBytes) → n + l.length * 140737488351233 ≤ 4611686018427387904 → farF n l = n + psum l + l.length
  | [], n, _, _, _ => by simp [farF, psum]
  | t :: l, n, h0, hl, hn => by
    have ht := hl t (by simp)
    have hr : reachBytes = 140737488351232 := rfl
    rw [hr] at ht
    simp only [List.length_cons] at hn
    have e : farF n (t :: l) = farF (n + (1 + (t.ps.length : Int))) l := by
      show farF (IntKind.i64.wrap (n + IntKind.i64.wrap (1 + (t.ps.length : Int)))) l = _
      rw [wrap_id (k := 1 + (t.ps.length : Int)) (by omega) (by omega), wrap_id (by omega) (by omega)]
    rw [e, farF_eq l _ (by omega) (fun t' h => hl t' (by simp [h])) (by omega), psum_cons]
    simp only [List.length_cons]
    omega
theorem farB_ok {a b c : Nat} {l : List Tx} (ha : a ≤ reachBytes) (hb : b ≤ reachBytes) (hc : c ≤ reachBytes) (hl : ∀ t ∈ l, t.ps.length ≤ reachBytes) (h : farB (far0 a b c) l = false) : a + b + c + psum l ≤ 300 ∧ l.length ≤ 90 := by
  have hr : reachBytes = 140737488351232 := rfl
  unfold farB at h
  simp only [Bool.or_eq_false_iff, decide_eq_false_iff_not] at h
  obtain ⟨h1, h2, h3⟩ := h
  have e0 : far0 a b c = (b : Int) + c + a := by
    unfold far0
    rw [hr] at ha hb hc
    rw [wrap_id (k := (b : Int) + c) (by omega) (by omega), wrap_id (by omega) (by omega)]
  rw [e0, farF_eq l _ (by omega) hl (by rw [hr] at ha hb hc; omega)] at h2
  omega
structure Small (s : Sv) : Prop where
  ns : s.ns.length ≤ reachBytes
  ss : s.ss.length ≤ reachBytes
  ms : s.c.ms.length ≤ reachBytes
structure SmallT (t : Tx) : Prop where
  ps : t.ps.length ≤ reachBytes
  ok : okT t
theorem fits_of {s : Sv} {l : List Tx} (hs : Small s) (hl : ∀ t ∈ l, SmallT t) (h : farB (far0 s.ns.length s.ss.length s.c.ms.length) l = false) : Fits s (psum l) ∧ l.length ≤ 90 := by
  obtain ⟨h1, h2⟩ := farB_ok hs.ns hs.ss hs.ms (fun t ht => (hl t ht).ps) h
  exact ⟨⟨by omega, by omega, by unfold okC; omega⟩, h2⟩
theorem psum_td (l : List Tx) (k : Nat) : psum l = psum (l.take k) + psum (l.drop k) := by
  unfold psum
  conv => lhs; rw [← List.take_append_drop k l, List.map_append, List.sum_append]
theorem Fits.take {s : Sv} {l : List Tx} (h : Fits s (psum l)) (ht : ∀ t ∈ l, okT t) (k : Nat) : Fits (allS s (l.take k)) (psum (l.drop k)) := by
  refine allS_fits _ ?_ fun t h' => ht t (List.mem_of_mem_take h')
  rw [← psum_td]; exact h
set_option maxHeartbeats 8000000 in
theorem stateApplies_con (s : Sv) (l : List Tx) (hs : Small s) (hl : ∀ t ∈ l, SmallT t) : ACon Try.prog 8 [.p (.agg s.cells), .p (.sl 8 (txns l))] (.p (B true)) := by
  refine ACon.len ⟨Try.f8, Try.func8, rfl, rfl⟩ 1 _ _ rfl fun hlen => ?_
  simp only [txns_len] at hlen
  have c := farB_con (zns s.ns) (ints s.ss) (mbs s.c.ms) s.nx s.c.ep s.c.n s.c.kind s.ae s.an l
  rw [zns_len, ints_len, mbs_len] at c
  have ca := awake08
  cases hf : farB (far0 s.ns.length s.ss.length s.c.ms.length) l
  rotate_left
  · rw [hf] at c
    unfold Sv.cells
    refine wBody Try.tab Try.mixed Try.func8 rfl rfl Try.ntmps8 (by simp) (by simp) fun Q hr hn => ?_
    repeat' first | (refine hK _ ?_; clear hK) | (refine hK _ _ ?_; clear hK) | (clear hK; refine hK _ ?_; clear hK) | (clear hK; clear hK; refine hK _ ?_; clear hK) | (clear hK; clear hK; clear hK; refine hK _ ?_; clear hK) | (clear hK; clear hK; clear hK; clear hK; refine hK _ ?_; clear hK) | (refine wSeq fun K hK => ?_) | ((first | refine wReg ?_ | refine wDrwQ rfl (by kernel_rfl) ?_ | refine wDrwI ?_ | refine wDrw (by kernel_rfl) ?_); simp only [List.map_cons, List.map_nil, strip]) | ((first | refine wIs fun K hK => ?_ | refine wOs fun K hK => ?_ | refine wQs fun K hK => ?_ | refine CallK_plain ?_ | refine CallQ_plain ?_ | refine CallR_plain ?_ | refine wCond ?_); simp) | (refine wIn ?_; refine And.intro (by kernel_rfl) ?_; try simp only [thenA_n]) | (first | refine wBlock ?_ | refine wScope ?_) | ((first | refine wRet ?_ | refine wExit ?_ | refine wSkip ?_); try simp) | ((first | refine wLabel ?_ | refine wOn ?_ | refine wQn ?_); try simp only [thenA_n]) | (refine CallE.pure (c) rfl ?_) | (refine CallE.lent (c) rfl ?_) | (refine CallF.pure (c) rfl ?_) | (refine CallF.lent (c) rfl ?_) | (refine CallE.own (c) ?_) | (refine CallH.pure (c) rfl ?_) | (refine CallH.lent (c) rfl ?_) | (refine CallH.own (c) ?_) | (refine CallE.pure (ca) rfl ?_) | (refine CallE.lent (ca) rfl ?_) | (refine CallF.pure (ca) rfl ?_) | (refine CallF.lent (ca) rfl ?_) | (refine CallE.own (ca) ?_) | (refine CallH.pure (ca) rfl ?_) | (refine CallH.lent (ca) rfl ?_) | (refine CallH.own (ca) ?_)
    all_goals apply hr
    all_goals simp [Try.f8]
  obtain ⟨hfit, hl90⟩ := fits_of hs hl hf
  have hok : ∀ t ∈ l, okT t := fun t ht => (hl t ht).ok
  rw [hf] at c
  have c1 := all_con s l hfit hok
  have c2 := all08_con s l hfit hok
  have c3 := sameS08_con (allS s l) (allS s l)
  have c4 := start_con s.c hfit.c
  have c5 := start08_con s.c hfit.c
  have c6 := sameS08_con (startS s.c) (startS s.c)
  rw [decide_eq_true rfl] at c3 c6
  generalize startS s.c = S0 at c4 c5 c6
  generalize hS1 : allS s l = S1 at c1 c2 c3
  unfold Sv.cells at c1 c2 c3 c4 c5 c6 ⊢
  unfold Cf.cells at c4 c5
  refine wBody Try.tab Try.mixed Try.func8 rfl rfl Try.ntmps8 (by simp) (by simp) fun Q hr hn => ?_
  repeat' first | (refine hK _ ?_; clear hK) | (refine hK _ _ ?_; clear hK) | (clear hK; refine hK _ ?_; clear hK) | (clear hK; clear hK; refine hK _ ?_; clear hK) | (clear hK; clear hK; clear hK; refine hK _ ?_; clear hK) | (clear hK; clear hK; clear hK; clear hK; refine hK _ ?_; clear hK) | (refine wSeq fun K hK => ?_) | ((first | refine wReg ?_ | refine wDrwQ rfl (by kernel_rfl) ?_ | refine wDrwI ?_ | refine wDrw (by kernel_rfl) ?_); simp only [List.map_cons, List.map_nil, strip]) | ((first | refine wIs fun K hK => ?_ | refine wOs fun K hK => ?_ | refine wQs fun K hK => ?_ | refine CallK_plain ?_ | refine CallQ_plain ?_ | refine CallR_plain ?_ | refine wCond ?_); simp) | (refine wIn ?_; refine And.intro (by kernel_rfl) ?_; try simp only [thenA_n]) | (first | refine wBlock ?_ | refine wScope ?_) | ((first | refine wRet ?_ | refine wExit ?_ | refine wSkip ?_); try simp) | ((first | refine wLabel ?_ | refine wOn ?_ | refine wQn ?_); try simp only [thenA_n]) | (refine CallE.pure (c) rfl ?_) | (refine CallE.lent (c) rfl ?_) | (refine CallF.pure (c) rfl ?_) | (refine CallF.lent (c) rfl ?_) | (refine CallE.own (c) ?_) | (refine CallH.pure (c) rfl ?_) | (refine CallH.lent (c) rfl ?_) | (refine CallH.own (c) ?_)
  refine wLoop (fun N st => ∃ k, k + N = l.length ∧ st.s 1 = .p (.sl 8 (txns l)) ∧ st.s 2 = .ptr 2 0 ∧ st.s 5 = .ptr 5 0 ∧ st.s 6 = .ptr 6 0 ∧ st.s 15 = .p (.sl 8 (txns l)) ∧ st.s 16 = .p (I l.length) ∧ st.s 17 = .p (I k) ∧ st.b 2 = some (.box 51 [.p (.sl 5 (zns s.ns)), .p (.sl 1 (ints s.ss)), .p (I s.nx), .p (I s.c.ep), .p (I s.c.n), .p (I s.c.kind), .p (.sl 4 (mbs s.c.ms)), .p (I s.ae), .p (I s.an)]) ∧ (∃ q, q = allS s (l.take k) ∧ st.b 5 = some (.box 51 [.p (.sl 5 (zns q.ns)), .p (.sl 1 (ints q.ss)), .p (I q.nx), .p (I q.c.ep), .p (I q.c.n), .p (I q.c.kind), .p (.sl 4 (mbs q.c.ms)), .p (I q.ae), .p (I q.an)]) ∧ st.b 6 = some (.box 51 [.p (.sl 5 (zns q.ns)), .p (.sl 1 (ints q.ss)), .p (I q.nx), .p (I q.c.ep), .p (I q.c.n), .p (I q.c.kind), .p (.sl 4 (mbs q.c.ms)), .p (I q.ae), .p (I q.an)]))) l.length ⟨0, by simp [allS]⟩ fun K N st hL ⟨k, hk, g1, g2, g5, g6, g15, g16, g17, b2, q, hq, b5, b6⟩ => ?_
  by_cases hlt : k < l.length
  · have hw := wrapX k _ hlt (by omega)
    have he := txns_get hlt
    have hsn := allS_snoc s hlt
    have hft := hfit.take hok k
    rw [psum_drop hlt, ← hq] at hft
    have hmem := hok l[k] (List.getElem_mem hlt)
    rw [← hq] at hsn
    have d1 := apply_con q l[k] (hft.le (by omega)) hmem
    have d2 := apply08_con q l[k] (hft.le (by omega)) hmem
    have d3 := sameS08_con (doS q l[k]) (doS q l[k])
    rw [decide_eq_true rfl] at d3
    rw [← hsn] at d1 d2 d3
    generalize hr' : allS s (l.take (k + 1)) = r at d1 d2 d3
    unfold Sv.cells at d1 d2 d3
    unfold Tx.cells at d1 d2
    repeat' first | (refine hK _ ?_; clear hK) | (refine hK _ _ ?_; clear hK) | (clear hK; refine hK _ ?_; clear hK) | (clear hK; clear hK; refine hK _ ?_; clear hK) | (clear hK; clear hK; clear hK; refine hK _ ?_; clear hK) | (clear hK; clear hK; clear hK; clear hK; refine hK _ ?_; clear hK) | (refine wSeq fun K hK => ?_) | ((first | refine wReg ?_ | refine wDrwQ rfl (by kernel_rfl) ?_ | refine wDrwI ?_ | refine wDrw (by kernel_rfl) ?_); simp only [List.map_cons, List.map_nil, strip]) | ((first | refine wIs fun K hK => ?_ | refine wOs fun K hK => ?_ | refine wQs fun K hK => ?_ | refine CallK_plain ?_ | refine CallQ_plain ?_ | refine CallR_plain ?_ | refine wCond ?_); simp [g1, g2, g5, g6, g15, g16, g17, b2, b5, b6, hlt, hw, he]) | (refine wIn ?_; refine And.intro (by kernel_rfl) ?_; try simp only [thenA_n]) | (first | refine wBlock ?_ | refine wScope ?_) | ((first | refine wRet ?_ | refine wExit ?_ | refine wSkip ?_); try simp) | ((first | refine wLabel ?_ | refine wOn ?_ | refine wQn ?_); try simp only [thenA_n]) | (refine CallE.pure (d1) rfl ?_) | (refine CallE.lent (d1) rfl ?_) | (refine CallF.pure (d1) rfl ?_) | (refine CallF.lent (d1) rfl ?_) | (refine CallE.own (d1) ?_) | (refine CallH.pure (d1) rfl ?_) | (refine CallH.lent (d1) rfl ?_) | (refine CallH.own (d1) ?_) | (refine CallE.pure (d2) rfl ?_) | (refine CallE.lent (d2) rfl ?_) | (refine CallF.pure (d2) rfl ?_) | (refine CallF.lent (d2) rfl ?_) | (refine CallE.own (d2) ?_) | (refine CallH.pure (d2) rfl ?_) | (refine CallH.lent (d2) rfl ?_) | (refine CallH.own (d2) ?_) | (refine CallE.pure (d3) rfl ?_) | (refine CallE.lent (d3) rfl ?_) | (refine CallF.pure (d3) rfl ?_) | (refine CallF.lent (d3) rfl ?_) | (refine CallE.own (d3) ?_) | (refine CallH.pure (d3) rfl ?_) | (refine CallH.lent (d3) rfl ?_) | (refine CallH.own (d3) ?_)
    refine hL _ (N - 1) (by omega) ⟨k + 1, by omega, ?_⟩
    simp [g1, g2, g5, g6, g15, g16, g17, b2, b5, b6, hw, hr']
  · repeat' first | (refine hK _ ?_; clear hK) | (refine hK _ _ ?_; clear hK) | (clear hK; refine hK _ ?_; clear hK) | (clear hK; clear hK; refine hK _ ?_; clear hK) | (clear hK; clear hK; clear hK; refine hK _ ?_; clear hK) | (clear hK; clear hK; clear hK; clear hK; refine hK _ ?_; clear hK) | (refine wSeq fun K hK => ?_) | ((first | refine wReg ?_ | refine wDrwQ rfl (by kernel_rfl) ?_ | refine wDrwI ?_ | refine wDrw (by kernel_rfl) ?_); simp only [List.map_cons, List.map_nil, strip]) | ((first | refine wIs fun K hK => ?_ | refine wOs fun K hK => ?_ | refine wQs fun K hK => ?_ | refine CallK_plain ?_ | refine CallQ_plain ?_ | refine CallR_plain ?_ | refine wCond ?_); simp [g1, g2, g5, g6, g15, g16, g17, b2, b5, b6, hlt]) | (refine wIn ?_; refine And.intro (by kernel_rfl) ?_; try simp only [thenA_n]) | (first | refine wBlock ?_ | refine wScope ?_) | ((first | refine wRet ?_ | refine wExit ?_ | refine wSkip ?_); try simp) | ((first | refine wLabel ?_ | refine wOn ?_ | refine wQn ?_); try simp only [thenA_n]) | (refine CallE.pure (c1) rfl ?_) | (refine CallE.lent (c1) rfl ?_) | (refine CallF.pure (c1) rfl ?_) | (refine CallF.lent (c1) rfl ?_) | (refine CallE.own (c1) ?_) | (refine CallH.pure (c1) rfl ?_) | (refine CallH.lent (c1) rfl ?_) | (refine CallH.own (c1) ?_) | (refine CallE.pure (c2) rfl ?_) | (refine CallE.lent (c2) rfl ?_) | (refine CallF.pure (c2) rfl ?_) | (refine CallF.lent (c2) rfl ?_) | (refine CallE.own (c2) ?_) | (refine CallH.pure (c2) rfl ?_) | (refine CallH.lent (c2) rfl ?_) | (refine CallH.own (c2) ?_) | (refine CallE.pure (c3) rfl ?_) | (refine CallE.lent (c3) rfl ?_) | (refine CallF.pure (c3) rfl ?_) | (refine CallF.lent (c3) rfl ?_) | (refine CallE.own (c3) ?_) | (refine CallH.pure (c3) rfl ?_) | (refine CallH.lent (c3) rfl ?_) | (refine CallH.own (c3) ?_) | (refine CallE.pure (c4) rfl ?_) | (refine CallE.lent (c4) rfl ?_) | (refine CallF.pure (c4) rfl ?_) | (refine CallF.lent (c4) rfl ?_) | (refine CallE.own (c4) ?_) | (refine CallH.pure (c4) rfl ?_) | (refine CallH.lent (c4) rfl ?_) | (refine CallH.own (c4) ?_) | (refine CallE.pure (c5) rfl ?_) | (refine CallE.lent (c5) rfl ?_) | (refine CallF.pure (c5) rfl ?_) | (refine CallF.lent (c5) rfl ?_) | (refine CallE.own (c5) ?_) | (refine CallH.pure (c5) rfl ?_) | (refine CallH.lent (c5) rfl ?_) | (refine CallH.own (c5) ?_) | (refine CallE.pure (c6) rfl ?_) | (refine CallE.lent (c6) rfl ?_) | (refine CallF.pure (c6) rfl ?_) | (refine CallF.lent (c6) rfl ?_) | (refine CallE.own (c6) ?_) | (refine CallH.pure (c6) rfl ?_) | (refine CallH.lent (c6) rfl ?_) | (refine CallH.own (c6) ?_) | (refine CallE.pure (ca) rfl ?_) | (refine CallE.lent (ca) rfl ?_) | (refine CallF.pure (ca) rfl ?_) | (refine CallF.lent (ca) rfl ?_) | (refine CallE.own (ca) ?_) | (refine CallH.pure (ca) rfl ?_) | (refine CallH.lent (ca) rfl ?_) | (refine CallH.own (ca) ?_)
    all_goals apply hr
    all_goals simp [Try.f8]
end Go.Proofs.Ytpadfoaigbfekaa
/- States: what comes in, opened. -/
namespace Go.Proofs.Ytpadfoaigbfekaa
set_option linter.unusedVariables false
open Go Go.Av Go.ChangeShapes Go.WideShapes Go.ChangeAt Go.RowKit
/-- How many bytes an element of so many cells has at least. -/
def KB (c : Nat) : Nat := if c = 4 then 32 else if c = 8 then 88 else 1
theorem hpos : ∀ e y, Try.T e = some y → 0 < y.size → KB y.size ≤ y.bytes := by
  intro e y h hs
  unfold Try.T at h
  split at h
  all_goals first | (cases h; done) | (cases h; exact of_decide_eq_true (by kernel_rfl))
theorem Mb.ofL {ps : List PV} (h : ShL [.int .i64, .int .i64, .int .i64, .int .i64] ps) : ∃ a : Mb, ps = a.cells := by
  obtain ⟨_, _, rfl, h0, h⟩ := h.cons
  obtain ⟨_, _, rfl, h1, h⟩ := h.cons
  obtain ⟨_, _, rfl, h2, h⟩ := h.cons
  obtain ⟨_, _, rfl, h3, h⟩ := h.cons
  obtain rfl := h.nil
  obtain ⟨_, rfl, -⟩ := h0.intI
  obtain ⟨_, rfl, -⟩ := h1.intI
  obtain ⟨_, rfl, -⟩ := h2.intI
  obtain ⟨_, rfl, -⟩ := h3.intI
  exact ⟨⟨_, _, _, _⟩, rfl⟩
abbrev LMb : Lf := .sl [.int .i64, .int .i64, .int .i64, .int .i64]
abbrev LZn : List Lf := [.str, .str, .int .i64, .int .i64, .int .i64]
abbrev LPt : List Lf := [.int .i64, .str, .str, .int .i64, .int .i64, .int .i64, .int .i64, .int .i64, .int .i64, .int .i64, LMb]
abbrev LTx : List Lf := [.int .i64, .int .i64, .int .i64, .int .i64, .int .i64, .int .i64, .str, .sl LPt]
theorem Cf.ofL {ps : List PV} (h : ShL [.int .i64, .int .i64, .int .i64, LMb] ps) : ∃ a : Cf, ps = a.cells := by
  obtain ⟨_, _, rfl, h0, h⟩ := h.cons
  obtain ⟨_, _, rfl, h1, h⟩ := h.cons
  obtain ⟨_, _, rfl, h2, h⟩ := h.cons
  obtain ⟨_, _, rfl, h3, h⟩ := h.cons
  obtain rfl := h.nil
  obtain ⟨_, rfl, -⟩ := h0.intI
  obtain ⟨_, rfl, -⟩ := h1.intI
  obtain ⟨_, rfl, -⟩ := h2.intI
  obtain ⟨l, rfl⟩ := h3.slI (f := Mb.cells) fun ps h => Mb.ofL h
  exact ⟨⟨_, _, _, l⟩, rfl⟩
theorem Pt.ofL {ps : List PV} (h : ShL LPt ps) : ∃ a : Pt, ps = a.cells := by
  obtain ⟨_, _, rfl, h0, h⟩ := h.cons
  obtain ⟨_, _, rfl, h1, h⟩ := h.cons
  obtain ⟨_, _, rfl, h2, h⟩ := h.cons
  obtain ⟨_, _, rfl, h3, h⟩ := h.cons
  obtain ⟨_, _, rfl, h4, h⟩ := h.cons
  obtain ⟨_, _, rfl, h5, h⟩ := h.cons
  obtain ⟨_, _, rfl, h6, h⟩ := h.cons
  obtain ⟨_, _, rfl, h7, h⟩ := h.cons
  obtain ⟨_, _, rfl, h8, h⟩ := h.cons
  obtain ⟨_, _, rfl, h9, h⟩ := h.cons
  obtain ⟨_, _, rfl, h10, h⟩ := h.cons
  obtain rfl := h.nil
  obtain ⟨_, rfl, -⟩ := h0.intI
  obtain ⟨s1, rfl, -⟩ := h1.strI
  obtain ⟨s2, rfl, -⟩ := h2.strI
  obtain ⟨_, rfl, -⟩ := h3.intI
  obtain ⟨_, rfl, -⟩ := h4.intI
  obtain ⟨_, rfl, -⟩ := h5.intI
  obtain ⟨_, rfl, -⟩ := h6.intI
  obtain ⟨_, rfl, -⟩ := h7.intI
  obtain ⟨_, rfl, -⟩ := h8.intI
  obtain ⟨_, rfl, -⟩ := h9.intI
  obtain ⟨l, rfl⟩ := h10.slI (f := Mb.cells) fun ps h => Mb.ofL h
  exact ⟨⟨_, ⟨s1.data.toList, s2.data.toList, _, _, _⟩, _, ⟨_, _, _, l⟩⟩, rfl⟩
theorem Tx.ofL {ps : List PV} (h : ShL LTx ps) : ∃ a : Tx, ps = a.cells := by
  obtain ⟨_, _, rfl, h0, h⟩ := h.cons
  obtain ⟨_, _, rfl, h1, h⟩ := h.cons
  obtain ⟨_, _, rfl, h2, h⟩ := h.cons
  obtain ⟨_, _, rfl, h3, h⟩ := h.cons
  obtain ⟨_, _, rfl, h4, h⟩ := h.cons
  obtain ⟨_, _, rfl, h5, h⟩ := h.cons
  obtain ⟨_, _, rfl, h6, h⟩ := h.cons
  obtain ⟨_, _, rfl, h7, h⟩ := h.cons
  obtain rfl := h.nil
  obtain ⟨_, rfl, -⟩ := h0.intI
  obtain ⟨_, rfl, -⟩ := h1.intI
  obtain ⟨_, rfl, -⟩ := h2.intI
  obtain ⟨_, rfl, -⟩ := h3.intI
  obtain ⟨_, rfl, -⟩ := h4.intI
  obtain ⟨_, rfl, -⟩ := h5.intI
  obtain ⟨s, rfl, -⟩ := h6.strI
  obtain ⟨l, rfl⟩ := h7.slI (f := Pt.cells) fun ps h => Pt.ofL h
  exact ⟨⟨_, _, _, _, _, _, s.data.toList, l⟩, rfl⟩
theorem Zn.ofL' {ps : List PV} (h : ShL LZn ps) : ∃ a : Zn, ps = a.c := by
  obtain ⟨a, h⟩ := Zn.ofL h
  exact ⟨a.1, h⟩
theorem Sv.ofL {ps : List PV} (h : ShL [.sl LZn, .sl [.int .i64], .int .i64, .int .i64, .int .i64, .int .i64, LMb, .int .i64, .int .i64] ps) : ∃ s : Sv, ps = s.cells := by
  obtain ⟨_, _, rfl, h0, h⟩ := h.cons
  obtain ⟨_, _, rfl, h1, h⟩ := h.cons
  obtain ⟨_, _, rfl, h2, h⟩ := h.cons
  obtain ⟨_, _, rfl, h3, h⟩ := h.cons
  obtain ⟨_, _, rfl, h4, h⟩ := h.cons
  obtain ⟨_, _, rfl, h5, h⟩ := h.cons
  obtain ⟨_, _, rfl, h6, h⟩ := h.cons
  obtain ⟨_, _, rfl, h7, h⟩ := h.cons
  obtain ⟨_, _, rfl, h8, h⟩ := h.cons
  obtain rfl := h.nil
  obtain ⟨ns, rfl⟩ := h0.slI (f := Zn.c) fun ps h => Zn.ofL' h
  obtain ⟨ss, rfl⟩ := h1.slI (f := fun n : Int => [I n]) fun ps h => by
    obtain ⟨_, _, rfl, h0, h⟩ := h.cons
    obtain rfl := h.nil
    obtain ⟨n, rfl, -⟩ := h0.intI
    exact ⟨n, rfl⟩
  obtain ⟨_, rfl, -⟩ := h2.intI
  obtain ⟨_, rfl, -⟩ := h3.intI
  obtain ⟨_, rfl, -⟩ := h4.intI
  obtain ⟨_, rfl, -⟩ := h5.intI
  obtain ⟨ms, rfl⟩ := h6.slI (f := Mb.cells) fun ps h => Mb.ofL h
  obtain ⟨_, rfl, -⟩ := h7.intI
  obtain ⟨_, rfl, -⟩ := h8.intI
  exact ⟨⟨ns, ss, _, ⟨_, _, _, ms⟩, _, _⟩, rfl⟩
theorem szLe {N c : Nat} {l : List (List PV)} (h : SzI KB N (.sl c l)) : l.length ≤ N := by
  have := h.len
  have h1 : 1 ≤ KB c := by unfold KB; split <;> (try split) <;> omega
  have := Nat.le_mul_of_pos_right l.length (show 0 < KB c by omega)
  omega
theorem Small.of {s : Sv} (h : SzI KB reachBytes (.agg s.cells)) : Small s := by
  have h1 := szLe (h.part (p := .sl 5 (zns s.ns)) (by simp [Sv.cells]))
  have h2 := szLe (h.part (p := .sl 1 (ints s.ss)) (by simp [Sv.cells]))
  have h3 := szLe (h.part (p := .sl 4 (mbs s.c.ms)) (by simp [Sv.cells]))
  rw [zns_len] at h1
  rw [ints_len] at h2
  rw [mbs_len] at h3
  exact ⟨h1, h2, h3⟩
theorem SmallT.of {t : Tx} (h : SzI KB reachBytes (.sl 11 (pts t.ps))) : SmallT t := by
  have h1 := szLe h
  rw [pts_len] at h1
  refine ⟨h1, fun p hp => ?_⟩
  have h2 := (h.at (e := p.cells) (List.mem_map.2 ⟨p, hp, rfl⟩) (p := .sl 4 (mbs p.c.ms)) (by simp [Pt.cells])).len
  rw [mbs_len] at h2
  have h3 : KB 4 = 32 := rfl
  have hr : reachBytes = 140737488351232 := rfl
  rw [h3, hr] at h2
  unfold okC
  omega
theorem SmallT.ofA {t : Tx} (h : SzI KB reachBytes (.agg t.cells)) : SmallT t := .of (h.part (by simp [Tx.cells]))
theorem SmallT.ofS {l : List Tx} (h : SzI KB reachBytes (.sl 8 (txns l))) : ∀ t ∈ l, SmallT t := fun t ht =>
  .of (h.at (e := t.cells) (List.mem_map.2 ⟨t, ht, rfl⟩) (by simp [Tx.cells]))
theorem sv_open {p : PV} (hp : ShT Try.T 51 p) : ∃ s : Sv, p = .agg s.cells := by
  obtain ⟨ps, rfl, h⟩ := hp.agg (E := [.sl LZn, .sl [.int .i64], .int .i64, .int .i64, .int .i64, .int .i64, LMb, .int .i64, .int .i64]) rfl rfl rfl
  obtain ⟨s, rfl⟩ := Sv.ofL h
  exact ⟨s, rfl⟩
theorem txs_open {p : PV} (hp : ShT Try.T 52 p) : ∃ l : List Tx, p = .sl 8 (txns l) :=
  (hp.one (f := .sl LTx) rfl rfl rfl).slI (f := Tx.cells) fun ps h => Tx.ofL h
theorem tx_open {p : PV} (hp : ShT Try.T 56 p) : ∃ t : Tx, p = .agg t.cells := by
  obtain ⟨ps, rfl, h⟩ := hp.agg (E := LTx) rfl rfl rfl
  obtain ⟨s, rfl⟩ := Tx.ofL h
  exact ⟨s, rfl⟩
theorem cf_open {p : PV} (hp : ShT Try.T 49 p) : ∃ a : Cf, p = .agg a.cells := by
  obtain ⟨ps, rfl, h⟩ := hp.agg (E := [.int .i64, .int .i64, .int .i64, LMb]) rfl rfl rfl
  obtain ⟨a, rfl⟩ := Cf.ofL h
  exact ⟨a, rfl⟩
theorem two_open {p : PV} (hp : ShT Try.T 69 p) : ∃ a b : Int, p = .agg [I a, I b] := by
  obtain ⟨ps, rfl, h⟩ := hp.agg (E := [.int .i64, .int .i64]) rfl rfl rfl
  obtain ⟨_, _, rfl, h0, h⟩ := h.cons
  obtain ⟨_, _, rfl, h1, h⟩ := h.cons
  obtain rfl := h.nil
  obtain ⟨_, rfl, -⟩ := h0.intI
  obtain ⟨_, rfl, -⟩ := h1.intI
  exact ⟨_, _, rfl⟩
end Go.Proofs.Ytpadfoaigbfekaa
/- States: the law StateTwice. -/
namespace Go.Proofs.Ytpadfoaigbfekaa
set_option linter.unusedSimpArgs false
set_option linter.unusedVariables false
open Go Go.Av
attribute [local simp] Try.T1 Try.T2 Try.T3 Try.T4 Try.T5 Try.T9 Try.T12 Try.T21 Try.T22 Try.T24 Try.T25 Try.T26 Try.T27 Try.T28 Try.T29 Try.T30 Try.T31 Try.T33 Try.T34 Try.T35 Try.T36 Try.T37 Try.T38 Try.T39 Try.T41 Try.T42 Try.T43 Try.T44 Try.T46 Try.T47 Try.T49 Try.T51 Try.T52 Try.T53 Try.T54 Try.T56 Try.T57 Try.T58 Try.T59 Try.T60 Try.T62 Try.T64 Try.T65 Try.T66 Try.T67 Try.T68 Try.T69 Try.T70 Try.T71 Try.T72 Try.T73 Try.T75 Try.T76 Try.T77 Try.T78 Try.T79 Try.T80 Try.T82 Try.T83 Try.T84 Try.T85 Try.T87 Try.T88 Try.T89 Try.T90 Try.T91 Try.T92 Try.T93 Try.T94 Try.T95 Try.T96 Try.T97 Try.T98 Try.T99 Try.T100 Try.T102 Try.T103 Try.T104 Try.T105 Try.T106 Try.T107 Try.T109 Try.T110 Try.T111 Try.T112 Try.T113 Try.T114 Try.T115 Try.T116 Try.T117 Try.T123 Try.T126
attribute [local irreducible] Go.Av.CallK Go.Av.CallE Go.Av.CallQ Go.Av.CallF Go.Av.CallR Go.Av.CallH Go.Av.Con
theorem psum_snoc (l : List Tx) (t : Tx) : psum (l ++ [t]) = psum l + t.ps.length := by simp [psum]
set_option maxHeartbeats 8000000 in
theorem stateTwice_con (c : Cf) (l : List Tx) (t : Tx) (hc : c.ms.length ≤ reachBytes) (hl : ∀ t ∈ l, SmallT t) (ht : SmallT t) (hlr : l.length * 88 ≤ reachBytes) : ACon Try.prog 12 [.p (.agg c.cells), .p (.sl 8 (txns l)), .p (.agg t.cells)] (.p (B true)) := by
  have hr47 : reachBytes = 140737488351232 := rfl
  rw [hr47] at hlr
  have cf := farB_con [] [] (mbs c.ms) 0 c.ep c.n c.kind 0 0 (l ++ [t])
  rw [mbs_len, ← txns_snoc] at cf
  simp only [List.length_nil] at cf
  have ca := awake08
  have hlt : ∀ t' ∈ l ++ [t], SmallT t' := fun t' h => by
    rcases List.mem_append.1 h with h | h
    · exact hl t' h
    · rw [List.mem_singleton.1 h]; exact ht
  have htl := txns_len l
  cases hf : farB (far0 0 0 c.ms.length) (l ++ [t])
  rotate_left
  · rw [hf] at cf
    unfold Tx.cells Cf.cells
    refine wBody Try.tab Try.mixed Try.func12 rfl rfl Try.ntmps12 (by simp) (by simp) fun Q hr hn => ?_
    repeat' first | (refine And.intro (by (try simp); omega) ?_) | (refine Or.inl ?_) | (refine hK _ ?_; clear hK) | (refine hK _ _ ?_; clear hK) | (clear hK; refine hK _ ?_; clear hK) | (clear hK; clear hK; refine hK _ ?_; clear hK) | (clear hK; clear hK; clear hK; refine hK _ ?_; clear hK) | (clear hK; clear hK; clear hK; clear hK; refine hK _ ?_; clear hK) | (refine wSeq fun K hK => ?_) | ((first | refine wReg ?_ | refine wDrwQ rfl (by kernel_rfl) ?_ | refine wDrwI ?_ | refine wDrw (by kernel_rfl) ?_); simp only [List.map_cons, List.map_nil, strip]) | ((first | refine wIs fun K hK => ?_ | refine wOs fun K hK => ?_ | refine wQs fun K hK => ?_ | refine CallK_plain ?_ | refine CallQ_plain ?_ | refine CallR_plain ?_ | refine wCond ?_); simp) | (refine wIn ?_; refine And.intro (by kernel_rfl) ?_; try simp only [thenA_n]) | (first | refine wBlock ?_ | refine wScope ?_) | ((first | refine wRet ?_ | refine wExit ?_ | refine wSkip ?_); try simp) | ((first | refine wLabel ?_ | refine wOn ?_ | refine wQn ?_); try simp only [thenA_n]) | (refine CallE.pure (cf) rfl ?_) | (refine CallE.lent (cf) rfl ?_) | (refine CallF.pure (cf) rfl ?_) | (refine CallF.lent (cf) rfl ?_) | (refine CallE.own (cf) ?_) | (refine CallH.pure (cf) rfl ?_) | (refine CallH.lent (cf) rfl ?_) | (refine CallH.own (cf) ?_) | (refine CallE.pure (ca) rfl ?_) | (refine CallE.lent (ca) rfl ?_) | (refine CallF.pure (ca) rfl ?_) | (refine CallF.lent (ca) rfl ?_) | (refine CallE.own (ca) ?_) | (refine CallH.pure (ca) rfl ?_) | (refine CallH.lent (ca) rfl ?_) | (refine CallH.own (ca) ?_)
    all_goals apply hr
    all_goals simp [Try.f12]
  obtain ⟨b1, b2⟩ := farB_ok (a := 0) (b := 0) (by simp) (by simp) hc (fun t h => (hlt t h).ps) hf
  rw [psum_snoc] at b1
  rw [hf] at cf
  have hok : ∀ t ∈ l, okT t := fun t ht => (hl t ht).ok
  have f0 : Fits (startS c) (psum l + 10000) := ⟨by simp [startS]; omega, by simp [startS]; omega, by unfold okC startS; dsimp only; omega⟩
  have f1 := allS_fits l f0 hok
  have hinv := (start_inv c).all l
  have c1 := start_con c (by unfold okC; omega)
  have c2 := all_con (startS c) l (f0.le (by omega)) hok
  generalize startS c = S0 at c1 c2 f0 f1 hinv
  generalize allS S0 l = S1 at c2 f1 hinv
  have c3 := apply_con S1 t (f1.le (by omega)) ht.ok
  have c4 := apply_con S1 ⟨t.e, t.n, t.s, t.x, t.r, t.b, t.m, []⟩ (f1.le (by simp)) (fun p hp => by simp at hp)
  have f2 := doS_fits (n := 5000) (f1.le (by omega)) ht.ok
  have c5 := apply_con (doS S1 t) t (f2.le (by omega)) ht.ok
  rw [twice_do hinv] at c5
  have e4 : doS S1 ⟨t.e, t.n, t.s, t.x, t.r, t.b, t.m, []⟩ = lateS S1 t.e t.n := rfl
  rw [e4] at c4
  generalize doS S1 t = S2 at c3 c5
  have c6 := sameS08_con S2 S2
  have c7 := sameS08_con S1 S1
  rw [decide_eq_true rfl] at c6 c7
  unfold Sv.cells lateS at c4
  dsimp only at c4
  unfold Sv.cells at c1 c2 c3 c5 c6 c7
  unfold Tx.cells at c3 c4 c5
  rw [show pts [] = [] from rfl] at c4
  dsimp only at c4
  generalize (lastZ [⟨S1.ae, S1.an⟩, ⟨t.e, t.n⟩]) = z at c4
  unfold Tx.cells Cf.cells
  unfold Cf.cells at c1
  refine wBody Try.tab Try.mixed Try.func12 rfl rfl Try.ntmps12 (by simp) (by simp) fun Q hr hn => ?_
  repeat' first | (refine And.intro (by (try simp); omega) ?_) | (refine Or.inl ?_) | (refine hK _ ?_; clear hK) | (refine hK _ _ ?_; clear hK) | (clear hK; refine hK _ ?_; clear hK) | (clear hK; clear hK; refine hK _ ?_; clear hK) | (clear hK; clear hK; clear hK; refine hK _ ?_; clear hK) | (clear hK; clear hK; clear hK; clear hK; refine hK _ ?_; clear hK) | (refine wSeq fun K hK => ?_) | ((first | refine wReg ?_ | refine wDrwQ rfl (by kernel_rfl) ?_ | refine wDrwI ?_ | refine wDrw (by kernel_rfl) ?_); simp only [List.map_cons, List.map_nil, strip]) | ((first | refine wIs fun K hK => ?_ | refine wOs fun K hK => ?_ | refine wQs fun K hK => ?_ | refine CallK_plain ?_ | refine CallQ_plain ?_ | refine CallR_plain ?_ | refine wCond ?_); simp) | (refine wIn ?_; refine And.intro (by kernel_rfl) ?_; try simp only [thenA_n]) | (first | refine wBlock ?_ | refine wScope ?_) | ((first | refine wRet ?_ | refine wExit ?_ | refine wSkip ?_); try simp) | ((first | refine wLabel ?_ | refine wOn ?_ | refine wQn ?_); try simp only [thenA_n]) | (refine CallE.pure (cf) rfl ?_) | (refine CallE.lent (cf) rfl ?_) | (refine CallF.pure (cf) rfl ?_) | (refine CallF.lent (cf) rfl ?_) | (refine CallE.own (cf) ?_) | (refine CallH.pure (cf) rfl ?_) | (refine CallH.lent (cf) rfl ?_) | (refine CallH.own (cf) ?_) | (refine CallE.pure (c1) rfl ?_) | (refine CallE.lent (c1) rfl ?_) | (refine CallF.pure (c1) rfl ?_) | (refine CallF.lent (c1) rfl ?_) | (refine CallE.own (c1) ?_) | (refine CallH.pure (c1) rfl ?_) | (refine CallH.lent (c1) rfl ?_) | (refine CallH.own (c1) ?_) | (refine CallE.pure (c2) rfl ?_) | (refine CallE.lent (c2) rfl ?_) | (refine CallF.pure (c2) rfl ?_) | (refine CallF.lent (c2) rfl ?_) | (refine CallE.own (c2) ?_) | (refine CallH.pure (c2) rfl ?_) | (refine CallH.lent (c2) rfl ?_) | (refine CallH.own (c2) ?_) | (refine CallE.pure (c3) rfl ?_) | (refine CallE.lent (c3) rfl ?_) | (refine CallF.pure (c3) rfl ?_) | (refine CallF.lent (c3) rfl ?_) | (refine CallE.own (c3) ?_) | (refine CallH.pure (c3) rfl ?_) | (refine CallH.lent (c3) rfl ?_) | (refine CallH.own (c3) ?_) | (refine CallE.pure (c4) rfl ?_) | (refine CallE.lent (c4) rfl ?_) | (refine CallF.pure (c4) rfl ?_) | (refine CallF.lent (c4) rfl ?_) | (refine CallE.own (c4) ?_) | (refine CallH.pure (c4) rfl ?_) | (refine CallH.lent (c4) rfl ?_) | (refine CallH.own (c4) ?_) | (refine CallE.pure (c5) rfl ?_) | (refine CallE.lent (c5) rfl ?_) | (refine CallF.pure (c5) rfl ?_) | (refine CallF.lent (c5) rfl ?_) | (refine CallE.own (c5) ?_) | (refine CallH.pure (c5) rfl ?_) | (refine CallH.lent (c5) rfl ?_) | (refine CallH.own (c5) ?_) | (refine CallE.pure (c6) rfl ?_) | (refine CallE.lent (c6) rfl ?_) | (refine CallF.pure (c6) rfl ?_) | (refine CallF.lent (c6) rfl ?_) | (refine CallE.own (c6) ?_) | (refine CallH.pure (c6) rfl ?_) | (refine CallH.lent (c6) rfl ?_) | (refine CallH.own (c6) ?_) | (refine CallE.pure (c7) rfl ?_) | (refine CallE.lent (c7) rfl ?_) | (refine CallF.pure (c7) rfl ?_) | (refine CallF.lent (c7) rfl ?_) | (refine CallE.own (c7) ?_) | (refine CallH.pure (c7) rfl ?_) | (refine CallH.lent (c7) rfl ?_) | (refine CallH.own (c7) ?_) | (refine CallE.pure (ca) rfl ?_) | (refine CallE.lent (ca) rfl ?_) | (refine CallF.pure (ca) rfl ?_) | (refine CallF.lent (ca) rfl ?_) | (refine CallE.own (ca) ?_) | (refine CallH.pure (ca) rfl ?_) | (refine CallH.lent (ca) rfl ?_) | (refine CallH.own (ca) ?_)
  all_goals apply hr
  all_goals simp [Try.f12]
end Go.Proofs.Ytpadfoaigbfekaa
/- States: the law StateFuzzy. -/
namespace Go.Proofs.Ytpadfoaigbfekaa
set_option linter.unusedSimpArgs false
set_option linter.unusedVariables false
open Go Go.Av
attribute [local simp] Try.T1 Try.T2 Try.T3 Try.T4 Try.T5 Try.T9 Try.T12 Try.T21 Try.T22 Try.T24 Try.T25 Try.T26 Try.T27 Try.T28 Try.T29 Try.T30 Try.T31 Try.T33 Try.T34 Try.T35 Try.T36 Try.T37 Try.T38 Try.T39 Try.T41 Try.T42 Try.T43 Try.T44 Try.T46 Try.T47 Try.T49 Try.T51 Try.T52 Try.T53 Try.T54 Try.T56 Try.T57 Try.T58 Try.T59 Try.T60 Try.T62 Try.T64 Try.T65 Try.T66 Try.T67 Try.T68 Try.T69 Try.T70 Try.T71 Try.T72 Try.T73 Try.T75 Try.T76 Try.T77 Try.T78 Try.T79 Try.T80 Try.T82 Try.T83 Try.T84 Try.T85 Try.T87 Try.T88 Try.T89 Try.T90 Try.T91 Try.T92 Try.T93 Try.T94 Try.T95 Try.T96 Try.T97 Try.T98 Try.T99 Try.T100 Try.T102 Try.T103 Try.T104 Try.T105 Try.T106 Try.T107 Try.T109 Try.T110 Try.T111 Try.T112 Try.T113 Try.T114 Try.T115 Try.T116 Try.T117 Try.T123 Try.T126
attribute [local irreducible] Go.Av.CallK Go.Av.CallE Go.Av.CallQ Go.Av.CallF Go.Av.CallR Go.Av.CallH Go.Av.Con
theorem u64_modS (t : Int) (L : Nat) (h0 : 0 < L) (hL : L ≤ 1000000) : ∃ n : Nat, n < L ∧ IntKind.i64.wrap (IntKind.u64.wrap t |>.tmod (IntKind.u64.wrap (L : Int))) = (n : Int) ∧ IntKind.u64.wrap (L : Int) ≠ 0 := by
  have e1 : IntKind.u64.wrap (L : Int) = L := by simp [IntKind.wrap, IntKind.bits, IntKind.signed]; omega
  have e2 : 0 ≤ IntKind.u64.wrap t := by simp [IntKind.wrap, IntKind.bits, IntKind.signed]; omega
  rw [e1]
  refine ⟨((IntKind.u64.wrap t).tmod L).toNat, ?_, ?_, by omega⟩
  · rw [Int.tmod_eq_emod_of_nonneg e2]
    have := Int.emod_lt_of_pos (IntKind.u64.wrap t) (show (0 : Int) < L by omega)
    have := Int.emod_nonneg (IntKind.u64.wrap t) (show (L : Int) ≠ 0 by omega)
    omega
  · rw [Int.tmod_eq_emod_of_nonneg e2]
    have h1 := Int.emod_lt_of_pos (IntKind.u64.wrap t) (show (0 : Int) < L by omega)
    have h2 := Int.emod_nonneg (IntKind.u64.wrap t) (show (L : Int) ≠ 0 by omega)
    rw [wrap_id (by omega) (by omega)]; omega
theorem psum_take_le (l : List Tx) (k : Nat) : psum (l.take k) ≤ psum l := by
  have := psum_td l k
  omega
theorem psum_drop_le (l : List Tx) (k : Nat) : psum (l.drop k) ≤ psum l := by
  have := psum_td l k
  omega
set_option maxHeartbeats 8000000 in
theorem stateFuzzy_con (c : Cf) (l : List Tx) (a0 a1 : Int) (hc : c.ms.length ≤ reachBytes) (hl : ∀ t ∈ l, SmallT t) : ACon Try.prog 11 [.p (.agg c.cells), .p (.sl 8 (txns l)), .p (.agg [I a0, I a1])] (.p (B true)) := by
  have cf := farB_con [] [] (mbs c.ms) 0 c.ep c.n c.kind 0 0 l
  rw [mbs_len] at cf
  simp only [List.length_nil] at cf
  have ca := awake08
  cases hf : farB (far0 0 0 c.ms.length) l
  rotate_left
  · rw [hf] at cf
    unfold Cf.cells
    refine wBody Try.tab Try.mixed Try.func11 rfl rfl Try.ntmps11 (by simp) (by simp) fun Q hr hn => ?_
    repeat' first | (refine hK _ ?_; clear hK) | (refine hK _ _ ?_; clear hK) | (clear hK; refine hK _ ?_; clear hK) | (clear hK; clear hK; refine hK _ ?_; clear hK) | (clear hK; clear hK; clear hK; refine hK _ ?_; clear hK) | (clear hK; clear hK; clear hK; clear hK; refine hK _ ?_; clear hK) | (refine wSeq fun K hK => ?_) | ((first | refine wReg ?_ | refine wDrwQ rfl (by kernel_rfl) ?_ | refine wDrwI ?_ | refine wDrw (by kernel_rfl) ?_); simp only [List.map_cons, List.map_nil, strip]) | ((first | refine wIs fun K hK => ?_ | refine wOs fun K hK => ?_ | refine wQs fun K hK => ?_ | refine CallK_plain ?_ | refine CallQ_plain ?_ | refine CallR_plain ?_ | refine wCond ?_); simp) | (refine wIn ?_; refine And.intro (by kernel_rfl) ?_; try simp only [thenA_n]) | (first | refine wBlock ?_ | refine wScope ?_) | ((first | refine wRet ?_ | refine wExit ?_ | refine wSkip ?_); try simp) | ((first | refine wLabel ?_ | refine wOn ?_ | refine wQn ?_); try simp only [thenA_n]) | (refine CallE.pure (cf) rfl ?_) | (refine CallE.lent (cf) rfl ?_) | (refine CallF.pure (cf) rfl ?_) | (refine CallF.lent (cf) rfl ?_) | (refine CallE.own (cf) ?_) | (refine CallH.pure (cf) rfl ?_) | (refine CallH.lent (cf) rfl ?_) | (refine CallH.own (cf) ?_) | (refine CallE.pure (ca) rfl ?_) | (refine CallE.lent (ca) rfl ?_) | (refine CallF.pure (ca) rfl ?_) | (refine CallF.lent (ca) rfl ?_) | (refine CallE.own (ca) ?_) | (refine CallH.pure (ca) rfl ?_) | (refine CallH.lent (ca) rfl ?_) | (refine CallH.own (ca) ?_)
    all_goals apply hr
    all_goals simp [Try.f11]
  obtain ⟨b1, b2⟩ := farB_ok (a := 0) (b := 0) (by simp) (by simp) hc (fun t h => (hl t h).ps) hf
  rw [hf] at cf
  have hok : ∀ t ∈ l, okT t := fun t ht => (hl t ht).ok
  obtain ⟨j, hj, hj1, hj2⟩ := u64_modS a0 (l.length + 1) (by omega) (by omega)
  obtain ⟨i, hi, hi1, hi2⟩ := u64_modS a1 (j + 1) (by omega) (by omega)
  have hwl : IntKind.i64.wrap ((l.length : Int) + 1) = ((l.length + 1 : Nat) : Int) := by rw [wrap_id] <;> omega
  have hwj : IntKind.i64.wrap ((j : Int) + 1) = ((j + 1 : Nat) : Int) := by rw [wrap_id] <;> omega
  push_cast at hj1 hj2 hi1 hi2 hwl hwj
  have f0 : Fits (startS c) 100000 := ⟨by simp [startS], by simp [startS], by unfold okC startS; dsimp only; omega⟩
  have p1 := psum_take_le l j
  have p2 := psum_drop_le l i
  have f1 := allS_fits (n := 50000) (l.take j) (f0.le (by omega)) fun t ht => hok t (List.mem_of_mem_take ht)
  have hinv := start_inv c
  have hfz := fuzzy hinv l (i := i) (j := j) (by omega)
  have c1 := start_con c (by unfold okC; omega)
  have c2 := all_con (startS c) (l.take j) (f0.le (by omega)) fun t ht => hok t (List.mem_of_mem_take ht)
  have c3 := all_con (allS (startS c) (l.take j)) (l.drop i) (f1.le (by omega)) fun t ht => hok t (List.mem_of_mem_drop ht)
  have c4 := all_con (startS c) l (f0.le (by omega)) hok
  rw [hfz] at c3
  generalize startS c = S0 at c1 c2 c3 c4
  generalize allS S0 (l.take j) = S1 at c2 c3
  generalize allS S0 l = S2 at c3 c4
  have c5 := sameS08_con S2 S2
  rw [decide_eq_true rfl] at c5
  rw [← txns_take] at c2
  rw [← txns_drop] at c3
  unfold Sv.cells at c1 c2 c3 c4 c5
  unfold Cf.cells at c1
  unfold Cf.cells
  have hjl : j ≤ l.length := by omega
  have hil : i ≤ l.length := by omega
  have htl := txns_len l
  have hlt : (txns l).take l.length = txns l := by rw [List.take_of_length_le (by rw [htl]; exact Nat.le_refl _)]
  refine wBody Try.tab Try.mixed Try.func11 rfl rfl Try.ntmps11 (by simp) (by simp) fun Q hr hn => ?_
  repeat' first | (refine hK _ ?_; clear hK) | (refine hK _ _ ?_; clear hK) | (clear hK; refine hK _ ?_; clear hK) | (clear hK; clear hK; refine hK _ ?_; clear hK) | (clear hK; clear hK; clear hK; refine hK _ ?_; clear hK) | (clear hK; clear hK; clear hK; clear hK; refine hK _ ?_; clear hK) | (refine wSeq fun K hK => ?_) | ((first | refine wReg ?_ | refine wDrwQ rfl (by kernel_rfl) ?_ | refine wDrwI ?_ | refine wDrw (by kernel_rfl) ?_); simp only [List.map_cons, List.map_nil, strip]) | ((first | refine wIs fun K hK => ?_ | refine wOs fun K hK => ?_ | refine wQs fun K hK => ?_ | refine CallK_plain ?_ | refine CallQ_plain ?_ | refine CallR_plain ?_ | refine wCond ?_); simp [hj1, hj2, hi1, hi2, hwl, hwj, hjl, hil, hlt]) | (refine wIn ?_; refine And.intro (by kernel_rfl) ?_; try simp only [thenA_n]) | (first | refine wBlock ?_ | refine wScope ?_) | ((first | refine wRet ?_ | refine wExit ?_ | refine wSkip ?_); try simp) | ((first | refine wLabel ?_ | refine wOn ?_ | refine wQn ?_); try simp only [thenA_n]) | (refine CallE.pure (cf) rfl ?_) | (refine CallE.lent (cf) rfl ?_) | (refine CallF.pure (cf) rfl ?_) | (refine CallF.lent (cf) rfl ?_) | (refine CallE.own (cf) ?_) | (refine CallH.pure (cf) rfl ?_) | (refine CallH.lent (cf) rfl ?_) | (refine CallH.own (cf) ?_) | (refine CallE.pure (c1) rfl ?_) | (refine CallE.lent (c1) rfl ?_) | (refine CallF.pure (c1) rfl ?_) | (refine CallF.lent (c1) rfl ?_) | (refine CallE.own (c1) ?_) | (refine CallH.pure (c1) rfl ?_) | (refine CallH.lent (c1) rfl ?_) | (refine CallH.own (c1) ?_) | (refine CallE.pure (c2) rfl ?_) | (refine CallE.lent (c2) rfl ?_) | (refine CallF.pure (c2) rfl ?_) | (refine CallF.lent (c2) rfl ?_) | (refine CallE.own (c2) ?_) | (refine CallH.pure (c2) rfl ?_) | (refine CallH.lent (c2) rfl ?_) | (refine CallH.own (c2) ?_) | (refine CallE.pure (c3) rfl ?_) | (refine CallE.lent (c3) rfl ?_) | (refine CallF.pure (c3) rfl ?_) | (refine CallF.lent (c3) rfl ?_) | (refine CallE.own (c3) ?_) | (refine CallH.pure (c3) rfl ?_) | (refine CallH.lent (c3) rfl ?_) | (refine CallH.own (c3) ?_) | (refine CallE.pure (c4) rfl ?_) | (refine CallE.lent (c4) rfl ?_) | (refine CallF.pure (c4) rfl ?_) | (refine CallF.lent (c4) rfl ?_) | (refine CallE.own (c4) ?_) | (refine CallH.pure (c4) rfl ?_) | (refine CallH.lent (c4) rfl ?_) | (refine CallH.own (c4) ?_) | (refine CallE.pure (c5) rfl ?_) | (refine CallE.lent (c5) rfl ?_) | (refine CallF.pure (c5) rfl ?_) | (refine CallF.lent (c5) rfl ?_) | (refine CallE.own (c5) ?_) | (refine CallH.pure (c5) rfl ?_) | (refine CallH.lent (c5) rfl ?_) | (refine CallH.own (c5) ?_) | (refine CallE.pure (ca) rfl ?_) | (refine CallE.lent (ca) rfl ?_) | (refine CallF.pure (ca) rfl ?_) | (refine CallF.lent (ca) rfl ?_) | (refine CallE.own (ca) ?_) | (refine CallH.pure (ca) rfl ?_) | (refine CallH.lent (ca) rfl ?_) | (refine CallH.own (ca) ?_)
  all_goals apply hr
  all_goals simp [Try.f11]
end Go.Proofs.Ytpadfoaigbfekaa
