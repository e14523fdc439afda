/- Texts laid, and read by the document. -/
import Derived.Test.YtfilinonmngefaaDoorCF
namespace Go.Proofs.YtfilinonmngefaaDoor
set_option linter.unusedSimpArgs false
set_option linter.unusedVariables false
open Go Go.Av
attribute [local simp] Tryd.T1 Tryd.T2 Tryd.T3 Tryd.T4 Tryd.T5 Tryd.T9 Tryd.T12 Tryd.T15 Tryd.T16 Tryd.T17 Tryd.T21 Tryd.T22 Tryd.T23 Tryd.T24 Tryd.T25 Tryd.T27 Tryd.T28 Tryd.T29 Tryd.T31 Tryd.T32 Tryd.T34 Tryd.T35 Tryd.T36 Tryd.T38 Tryd.T39 Tryd.T41 Tryd.T42 Tryd.T43 Tryd.T44 Tryd.T45 Tryd.T46 Tryd.T47 Tryd.T48 Tryd.T49 Tryd.T50 Tryd.T51 Tryd.T52 Tryd.T53 Tryd.T54 Tryd.T55 Tryd.T56 Tryd.T57 Tryd.T58 Tryd.T59 Tryd.T60 Tryd.T61 Tryd.T62 Tryd.T63 Tryd.T65 Tryd.T66 Tryd.T67 Tryd.T68 Tryd.T69 Tryd.T70 Tryd.T73 Tryd.T78 Tryd.T79
attribute [local irreducible] Go.Av.CallK Go.Av.CallE Go.Av.CallQ Go.Av.CallF Go.Av.CallR Go.Av.CallH Go.Av.Con

theorem zz_len (n : Nat) (h : n ≤ 1000000000) : okI (n : Int) := ⟨by omega, by omega⟩
theorem putText_con (b s : List UInt8) (h : b.length ≤ 100000000) (hs : s.length ≤ 100000000) : RCon 15 [.p (.sl 1 (by8 b)), .p (SB s)] (b ++ (enc (zz s.length) ++ s)) := by
  have c1 := roomy_con b (10 + s.length) (by omega)
  have c2 := layInt_con b s.length (zz_len _ (by omega)) (by omega)
  have hel := enc_len10 (zz_lt (zz_len s.length (by omega)))
  have w1 : IntKind.i64.wrap (10 + (s.length : Int)) = 10 + (s.length : Int) := wrap_id (by omega) (by omega)
  simp at c1
  have hx := by8_app (b ++ enc (zz s.length)) s
  have hbm : (s.map fun b => [PV.v (.int .u8 b.toNat)]) = by8 s := rfl
  rw [List.append_assoc] at hx
  generalize enc (zz s.length) = z at c2 hel hx ⊢
  refine wBodyR Tryd.tab Tryd.mixed Tryd.func15 rfl rfl Tryd.ntmps15 rfl (by simp) (by simp) fun Q hr hn => ?_
  repeat' first | (refine And.intro (by omega) ?_) | (refine CallK_gen [9] c2 (by decide) (by decide) (by simp [blksOf, inN, pos, renB, ren0]) (by simp [argsG, argG, ren0, inN, pos, renCs, renC]) ⟨[], by simp, by simp, ?_⟩; simp [lv, ouN, kpI, kpR, pos, ren, ren0, renB, renC, renCs]) | (refine hK _ ?_; clear hK) | (refine hK _ _ ?_; clear hK) | (clear hK; refine hK _ ?_; clear hK) | (clear hK; clear hK; refine hK _ ?_; clear hK) | (clear hK; clear hK; clear hK; refine hK _ ?_; clear hK) | (clear hK; clear hK; clear hK; clear hK; refine hK _ ?_; clear hK) | (refine wSeq fun K hK => ?_) | ((first | refine wReg ?_ | refine wDrwQ rfl (by kernel_rfl) ?_ | refine wDrwI ?_ | refine wDrw (by kernel_rfl) ?_); simp only [List.map_cons, List.map_nil, strip]) | ((first | refine wIs fun K hK => ?_ | refine wOs fun K hK => ?_ | refine wQs fun K hK => ?_ | refine CallK_plain ?_ | refine CallQ_plain ?_ | refine CallR_plain ?_ | refine wCond ?_); simp [w1]) | (refine wIn ?_; refine And.intro (by kernel_rfl) ?_; try simp only [thenA_n]) | (first | refine wBlock ?_ | refine wScope ?_) | ((first | refine wRet ?_ | refine wExit ?_ | refine wSkip ?_); try simp) | ((first | refine wLabel ?_ | refine wOn ?_ | refine wQn ?_); try simp only [thenA_n]) | (refine CallE.pure (c1) rfl ?_) | (refine CallE.lent (c1) rfl ?_) | (refine CallF.pure (c1) rfl ?_) | (refine CallF.lent (c1) rfl ?_) | (refine CallE.own (c1) ?_) | (refine CallH.pure (c1) rfl ?_) | (refine CallH.lent (c1) rfl ?_) | (refine CallH.own (c1) ?_)
  all_goals refine hr _ 9 ?_ ?_ (by omega)
  all_goals simp [Tryd.f15, hbm, hx]
theorem putText01_con (b s : List UInt8) (h : b.length ≤ 100000000) (hs : s.length ≤ 100000000) : RCon 16 [.p (.sl 1 (by8 b)), .p (SB s)] (b ++ (enc (zz s.length) ++ s)) := by
  have c1 := putInt01_con b s.length (zz_len _ (by omega)) (by omega)
  have hel := enc_len10 (zz_lt (zz_len s.length (by omega)))
  have hx := by8_app (b ++ enc (zz s.length)) s
  have hbm : (s.map fun b => [PV.v (.int .u8 b.toNat)]) = by8 s := rfl
  rw [List.append_assoc] at hx
  generalize enc (zz s.length) = z at c1 hel hx ⊢
  refine wBodyR Tryd.tab Tryd.mixed Tryd.func16 rfl rfl Tryd.ntmps16 rfl (by simp) (by simp) fun Q hr hn => ?_
  repeat' first | (refine And.intro (by omega) ?_) | (refine hK _ ?_; clear hK) | (refine hK _ _ ?_; clear hK) | (clear hK; refine hK _ ?_; clear hK) | (clear hK; clear hK; refine hK _ ?_; clear hK) | (clear hK; clear hK; clear hK; refine hK _ ?_; clear hK) | (clear hK; clear hK; clear hK; clear hK; refine hK _ ?_; clear hK) | (refine wSeq fun K hK => ?_) | ((first | refine wReg ?_ | refine wDrwQ rfl (by kernel_rfl) ?_ | refine wDrwI ?_ | refine wDrw (by kernel_rfl) ?_); simp only [List.map_cons, List.map_nil, strip]) | ((first | refine wIs fun K hK => ?_ | refine wOs fun K hK => ?_ | refine wQs fun K hK => ?_ | refine CallK_plain ?_ | refine CallQ_plain ?_ | refine CallR_plain ?_ | refine wCond ?_); simp) | (refine wIn ?_; refine And.intro (by kernel_rfl) ?_; try simp only [thenA_n]) | (first | refine wBlock ?_ | refine wScope ?_) | ((first | refine wRet ?_ | refine wExit ?_ | refine wSkip ?_); try simp) | ((first | refine wLabel ?_ | refine wOn ?_ | refine wQn ?_); try simp only [thenA_n]) | (refine CallE.pure (c1) rfl ?_) | (refine CallE.lent (c1) rfl ?_) | (refine CallF.pure (c1) rfl ?_) | (refine CallF.lent (c1) rfl ?_) | (refine CallE.own (c1) ?_) | (refine CallH.pure (c1) rfl ?_) | (refine CallH.lent (c1) rfl ?_) | (refine CallH.own (c1) ?_)
  all_goals refine hr _ 8 ?_ ?_ (by omega)
  all_goals simp [Tryd.f16, hbm, hx]
end Go.Proofs.YtfilinonmngefaaDoor
