/- States: the one transaction that awake does. -/
import Derived.Test.YtpadfoaigbfekaaXC
import Derived.Test.YtpadfoaigbfekaaNF
import Derived.Test.YtpadfoaigbfekaaZA
namespace Go.Proofs.Ytpadfoaigbfekaa
set_option linter.unusedSimpArgs false
set_option linter.unusedVariables false
open Go Go.Av
attribute [local simp] Try.T1 Try.T2 Try.T3 Try.T4 Try.T5 Try.T9 Try.T12 Try.T21 Try.T22 Try.T24 Try.T25 Try.T26 Try.T27 Try.T28 Try.T29 Try.T30 Try.T31 Try.T33 Try.T34 Try.T35 Try.T36 Try.T37 Try.T38 Try.T39 Try.T41 Try.T42 Try.T43 Try.T44 Try.T46 Try.T47 Try.T49 Try.T51 Try.T52 Try.T53 Try.T54 Try.T56 Try.T57 Try.T58 Try.T59 Try.T60 Try.T62 Try.T64 Try.T65 Try.T66 Try.T67 Try.T68 Try.T69 Try.T70 Try.T71 Try.T72 Try.T73 Try.T75 Try.T76 Try.T77 Try.T78 Try.T79 Try.T80 Try.T82 Try.T83 Try.T84 Try.T85 Try.T87 Try.T88 Try.T89 Try.T90 Try.T91 Try.T92 Try.T93 Try.T94 Try.T95 Try.T96 Try.T97 Try.T98 Try.T99 Try.T100 Try.T102 Try.T103 Try.T104 Try.T105 Try.T106 Try.T107 Try.T109 Try.T110 Try.T111 Try.T112 Try.T113 Try.T114 Try.T115 Try.T116 Try.T117 Try.T123 Try.T126
attribute [local irreducible] Go.Av.CallK Go.Av.CallE Go.Av.CallQ Go.Av.CallF Go.Av.CallR Go.Av.CallH Go.Av.Con

theorem start1 : ACon Try.prog 38 [.p (.agg [I 0, I 0, I 1, .sl 4 []])] (.p (.agg [.sl 5 (zns [⟨[47], [], 0, 0, 0⟩]), .sl 1 [], I 1, I 0, I 0, I 1, .sl 4 [], I 0, I 0])) := by
  have c1 := root_con
  have c2 := ownConfig_con 0 0 1 [] (by simp)
  generalize zns [⟨[47], [], 0, 0, 0⟩] = r at c1 ⊢
  refine wBody Try.tab Try.mixed Try.func38 rfl rfl Try.ntmps38 (by simp) (by simp) fun Q hr hn => ?_
  repeat' first | (refine hK _ ?_; clear hK) | (refine hK _ _ ?_; clear hK) | (clear hK; refine hK _ ?_; clear hK) | (clear hK; clear hK; refine hK _ ?_; clear hK) | (clear hK; clear hK; clear hK; refine hK _ ?_; clear hK) | (clear hK; clear hK; clear hK; clear hK; refine hK _ ?_; clear hK) | (refine wSeq fun K hK => ?_) | ((first | refine wReg ?_ | refine wDrwQ rfl (by kernel_rfl) ?_ | refine wDrwI ?_ | refine wDrw (by kernel_rfl) ?_); simp only [List.map_cons, List.map_nil, strip]) | ((first | refine wIs fun K hK => ?_ | refine wOs fun K hK => ?_ | refine wQs fun K hK => ?_ | refine CallK_plain ?_ | refine CallQ_plain ?_ | refine CallR_plain ?_ | refine wCond ?_); simp) | (refine wIn ?_; refine And.intro (by kernel_rfl) ?_; try simp only [thenA_n]) | (first | refine wBlock ?_ | refine wScope ?_) | ((first | refine wRet ?_ | refine wExit ?_ | refine wSkip ?_); try simp) | ((first | refine wLabel ?_ | refine wOn ?_ | refine wQn ?_); try simp only [thenA_n]) | (refine CallE.pure (c1) rfl ?_) | (refine CallE.lent (c1) rfl ?_) | (refine CallF.pure (c1) rfl ?_) | (refine CallF.lent (c1) rfl ?_) | (refine CallE.own (c1) ?_) | (refine CallH.pure (c1) rfl ?_) | (refine CallH.lent (c1) rfl ?_) | (refine CallH.own (c1) ?_) | (refine CallE.pure (c2) rfl ?_) | (refine CallE.lent (c2) rfl ?_) | (refine CallF.pure (c2) rfl ?_) | (refine CallF.lent (c2) rfl ?_) | (refine CallE.own (c2) ?_) | (refine CallH.pure (c2) rfl ?_) | (refine CallH.lent (c2) rfl ?_) | (refine CallH.own (c2) ?_)
  all_goals apply hr
  all_goals simp [Try.f38]
def root1 : Zn := ⟨[47], [], 0, 0, 0⟩
def node1 : Zn := ⟨[47, 97], [], 0, 0, 0⟩
theorem put1 : putZ [root1] node1 = [root1, node1] := by decide
theorem last1 : lastZ [⟨0, 0⟩, ⟨1, 1⟩] = ⟨1, 1⟩ := by decide
theorem opnN1 : opnN 1 3 = 4 := by decide
theorem opnL1 : opnL [] 3 = [3] := by decide
def parts1 : List (List PV) := [[I 1, SB [47, 97], SB [], I 0, I 0, I 0, I 0, I 0, I 0, I 0, .sl 4 []], [I 3, SB [], SB [], I 0, I 0, I 0, I 3, I 0, I 0, I 0, .sl 4 []]]
theorem p10 : ∀ h, parts1[0]'h = [I 1, SB [47, 97], SB [], I 0, I 0, I 0, I 0, I 0, I 0, I 0, .sl 4 []] := fun _ => rfl
theorem p11 : ∀ h, parts1[1]'h = [I 3, SB [], SB [], I 0, I 0, I 0, I 3, I 0, I 0, I 0, .sl 4 []] := fun _ => rfl
theorem p1l : parts1.length = 2 := rfl
def st1 (ns : List Zn) (nx ae an : Int) : Blk := .box 51 [.p (.sl 5 (zns ns)), .row 1025, .p (I nx), .p (I 0), .p (I 0), .p (I 1), .p (.sl 4 []), .p (I ae), .p (I an)]
set_option maxHeartbeats 2000000 in
theorem do1 : Con Try.prog 60 [.ptr 1024 0, .p (.agg [I 1, I 1, I 0, I 0, I 0, I 0, SB [], .sl 11 parts1])] [st1 [root1] 1 0 0, .row 3 1 (zis [])] (.ret (.tup []) [] [st1 [root1, node1] 4 1 1, .row 3 1 (zis [3])]) := by
  have c1 := put_con [root1] node1 (by decide)
  rw [put1] at c1
  simp only [Zn.c, node1] at c1
  have c2 := open_con (zns [root1, node1]) [] [] 1 0 0 1 0 0 3 (by decide)
  rw [opnN1, opnL1] at c2
  have c3 := last_con [⟨0, 0⟩, ⟨1, 1⟩]
  rw [last1] at c3
  simp only [zxs, List.map_cons, List.map_nil] at c3
  simp only [st1, root1, node1] at c1 c2 ⊢
  generalize zns [⟨[47], [], 0, 0, 0⟩] = n1 at c1 ⊢
  generalize zns [⟨[47], [], 0, 0, 0⟩, ⟨[47, 97], [], 0, 0, 0⟩] = n2 at c1 c2 ⊢
  generalize zis [] = z0 at c2 ⊢
  generalize zis [3] = z3 at c2 ⊢
  have w1 : IntKind.i64.wrap 1 = 1 := by decide
  have w2 : IntKind.i64.wrap 2 = 2 := by decide
  have h0 := p10
  have h1 := p11
  have hl := p1l
  generalize parts1 = P at h0 h1 hl ⊢
  refine wBodyG Try.tab Try.mixed Try.func60 rfl rfl Try.ntmps60 (by simp) (by simp) fun Q hr hn hp => ?_
  repeat' first | (refine hK _ ?_; clear hK) | (refine hK _ _ ?_; clear hK) | (clear hK; refine hK _ ?_; clear hK) | (clear hK; clear hK; refine hK _ ?_; clear hK) | (clear hK; clear hK; clear hK; refine hK _ ?_; clear hK) | (clear hK; clear hK; clear hK; clear hK; refine hK _ ?_; clear hK) | (refine wSeq fun K hK => ?_) | ((first | refine wReg ?_ | refine wDrwQ rfl (by kernel_rfl) ?_ | refine wDrwI ?_ | refine wDrw (by kernel_rfl) ?_); simp only [List.map_cons, List.map_nil, strip]) | ((first | refine wIs fun K hK => ?_ | refine wOs fun K hK => ?_ | refine wQs fun K hK => ?_ | refine CallK_plain ?_ | refine CallQ_plain ?_ | refine CallR_plain ?_ | refine wCond ?_); simp [hl]) | (refine wIn ?_; refine And.intro (by kernel_rfl) ?_; try simp only [thenA_n]) | (first | refine wBlock ?_ | refine wScope ?_) | ((first | refine wRet ?_ | refine wExit ?_ | refine wSkip ?_); try simp) | ((first | refine wLabel ?_ | refine wOn ?_ | refine wQn ?_); try simp only [thenA_n])
  refine wLoop (fun N st => st.s 0 = .ptr 1024 0 ∧ st.s 7 = .p (.sl 11 P) ∧ st.s 8 = .p (I 2) ∧ st.s 3 = .ptr 3 0 ∧ st.b 3 = some (.box 56 [.p (I 1), .p (I 1), .p (I 0), .p (I 0), .p (I 0), .p (I 0), .p (SB []), .p (.sl 11 P)]) ∧ (
      (N = 2 ∧ st.s 9 = .p (I 0) ∧ st.b 1024 = some (.box 51 [.p (.sl 5 n1), .row 1025, .p (I 1), .p (I 0), .p (I 0), .p (I 1), .p (.sl 4 []), .p (I 0), .p (I 0)]) ∧ st.b 1025 = some (.row 3 1 z0)) ∨
      (N = 1 ∧ st.s 9 = .p (I 1) ∧ st.b 1024 = some (.box 51 [.p (.sl 5 n2), .row 1025, .p (I 1), .p (I 0), .p (I 0), .p (I 1), .p (.sl 4 []), .p (I 0), .p (I 0)]) ∧ st.b 1025 = some (.row 3 1 z0)) ∨
      (N = 0 ∧ st.s 9 = .p (I 2) ∧ st.b 1024 = some (.box 51 [.p (.sl 5 n2), .row 1025, .p (I 4), .p (I 0), .p (I 0), .p (I 1), .p (.sl 4 []), .p (I 0), .p (I 0)]) ∧ st.b 1025 = some (.row 3 1 z3)))) 2 (by simp) fun K N st hL ⟨g0, g7, g8, g3, b3, hs⟩ => ?_
  rcases hs with ⟨rfl, g9, b0, b1⟩ | ⟨rfl, g9, b0, b1⟩ | ⟨rfl, g9, b0, b1⟩
  · repeat' first | (refine hK _ ?_; clear hK) | (refine hK _ _ ?_; clear hK) | (clear hK; refine hK _ ?_; clear hK) | (clear hK; clear hK; refine hK _ ?_; clear hK) | (clear hK; clear hK; clear hK; refine hK _ ?_; clear hK) | (clear hK; clear hK; clear hK; clear hK; refine hK _ ?_; clear hK) | (refine wSeq fun K hK => ?_) | ((first | refine wReg ?_ | refine wDrwQ rfl (by kernel_rfl) ?_ | refine wDrwI ?_ | refine wDrw (by kernel_rfl) ?_); simp only [List.map_cons, List.map_nil, strip]) | ((first | refine wIs fun K hK => ?_ | refine wOs fun K hK => ?_ | refine wQs fun K hK => ?_ | refine CallK_plain ?_ | refine CallQ_plain ?_ | refine CallR_plain ?_ | refine wCond ?_); simp [g0, g7, g8, g3, b3, g9, b0, b1, h0, hl]) | (refine wIn ?_; refine And.intro (by kernel_rfl) ?_; try simp only [thenA_n]) | (first | refine wBlock ?_ | refine wScope ?_) | ((first | refine wRet ?_ | refine wExit ?_ | refine wSkip ?_); try simp) | ((first | refine wLabel ?_ | refine wOn ?_ | refine wQn ?_); try simp only [thenA_n]) | (refine CallE.pure (c1) rfl ?_) | (refine CallE.lent (c1) rfl ?_) | (refine CallF.pure (c1) rfl ?_) | (refine CallF.lent (c1) rfl ?_) | (refine CallE.own (c1) ?_) | (refine CallH.pure (c1) rfl ?_) | (refine CallH.lent (c1) rfl ?_) | (refine CallH.own (c1) ?_)
    refine hL _ 1 (by omega) ?_
    simp [w1, g0, g7, g8, g3, b3, g9, b0, b1]
  · repeat' first | (refine CallK_gen [1024, 1025] c2 (by decide) (by decide) (by simp [blksOf, inN, pos, renB, ren0, b0, b1]) (by simp [argsG, argG, ren0, inN, pos, renCs, renC]) ⟨[], by simp, by simp, ?_⟩; simp [lv, ouN, kpI, kpR, pos, ren, ren0, renB, renC, renCs, g0, g7, g8, g3, b3, g9]) | (refine hK _ ?_; clear hK) | (refine hK _ _ ?_; clear hK) | (clear hK; refine hK _ ?_; clear hK) | (clear hK; clear hK; refine hK _ ?_; clear hK) | (clear hK; clear hK; clear hK; refine hK _ ?_; clear hK) | (clear hK; clear hK; clear hK; clear hK; refine hK _ ?_; clear hK) | (refine wSeq fun K hK => ?_) | ((first | refine wReg ?_ | refine wDrwQ rfl (by kernel_rfl) ?_ | refine wDrwI ?_ | refine wDrw (by kernel_rfl) ?_); simp only [List.map_cons, List.map_nil, strip]) | ((first | refine wIs fun K hK => ?_ | refine wOs fun K hK => ?_ | refine wQs fun K hK => ?_ | refine CallK_plain ?_ | refine CallQ_plain ?_ | refine CallR_plain ?_ | refine wCond ?_); simp [g0, g7, g8, g3, b3, g9, b0, b1, h1, hl, lv, ouN, kpI, kpR, pos, ren, ren0, renB, renC, renCs]) | (refine wIn ?_; refine And.intro (by kernel_rfl) ?_; try simp only [thenA_n]) | (first | refine wBlock ?_ | refine wScope ?_) | ((first | refine wRet ?_ | refine wExit ?_ | refine wSkip ?_); try simp) | ((first | refine wLabel ?_ | refine wOn ?_ | refine wQn ?_); try simp only [thenA_n])
    refine hL _ 0 (by omega) ?_
    simp [w2, lv, ouN, kpI, kpR, pos, ren, ren0, g0, g7, g8, g3, b3, g9, b0, b1]
  · repeat' first | (refine hK _ ?_; clear hK) | (refine hK _ _ ?_; clear hK) | (clear hK; refine hK _ ?_; clear hK) | (clear hK; clear hK; refine hK _ ?_; clear hK) | (clear hK; clear hK; clear hK; refine hK _ ?_; clear hK) | (clear hK; clear hK; clear hK; clear hK; refine hK _ ?_; clear hK) | (refine wSeq fun K hK => ?_) | ((first | refine wReg ?_ | refine wDrwQ rfl (by kernel_rfl) ?_ | refine wDrwI ?_ | refine wDrw (by kernel_rfl) ?_); simp only [List.map_cons, List.map_nil, strip]) | ((first | refine wIs fun K hK => ?_ | refine wOs fun K hK => ?_ | refine wQs fun K hK => ?_ | refine CallK_plain ?_ | refine CallQ_plain ?_ | refine CallR_plain ?_ | refine wCond ?_); simp [g0, g7, g8, g3, b3, g9, b0, b1, hl]) | (refine wIn ?_; refine And.intro (by kernel_rfl) ?_; try simp only [thenA_n]) | (first | refine wBlock ?_ | refine wScope ?_) | ((first | refine wRet ?_ | refine wExit ?_ | refine wSkip ?_); try simp) | ((first | refine wLabel ?_ | refine wOn ?_ | refine wQn ?_); try simp only [thenA_n]) | (refine CallE.pure (c3) rfl ?_) | (refine CallE.lent (c3) rfl ?_) | (refine CallF.pure (c3) rfl ?_) | (refine CallF.lent (c3) rfl ?_) | (refine CallE.own (c3) ?_) | (refine CallH.pure (c3) rfl ?_) | (refine CallH.lent (c3) rfl ?_) | (refine CallH.own (c3) ?_)
    all_goals first | apply hr | apply hn
    all_goals refine ⟨[], by simp, by simp, ?_⟩
    all_goals simp [Try.f60, outR, outB, renB, gaN, b0, b1]
end Go.Proofs.Ytpadfoaigbfekaa
