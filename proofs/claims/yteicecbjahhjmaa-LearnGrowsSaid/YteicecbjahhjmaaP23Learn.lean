/- Texts that the proof needs: ZC ZA HF XA HM QB QC QD QE QF QG HH IB. -/
import Derived.Test.YteicecbjahhjmaaP22Learn
import Derived.Test.YteicecbjahhjmaaP14Learn
import Derived.Test.YteicecbjahhjmaaP18Learn
import Derived.Test.YteicecbjahhjmaaP16Learn
import Derived.Test.YteicecbjahhjmaaP19Learn
import Derived.WalkKit
import Derived.Test.YteicecbjahhjmaaP12Learn
import Derived.TacticsInMore
import Derived.LoopNIn
import Derived.LoopIn
import Derived.OwnWalkIn
/- zxid.Cmp, and the document's. -/
namespace Go.Proofs.Yteicecbjahhjmaa
set_option linter.unusedSimpArgs false
set_option linter.unusedVariables false
open Go Go.Av
attribute [local simp] Try.T1 Try.T2 Try.T3 Try.T4 Try.T5 Try.T9 Try.T12 Try.T15 Try.T16 Try.T17 Try.T21 Try.T22 Try.T23 Try.T25 Try.T26 Try.T28 Try.T30 Try.T31 Try.T33 Try.T35 Try.T36 Try.T37 Try.T38 Try.T39 Try.T41 Try.T42 Try.T44 Try.T45 Try.T47 Try.T48 Try.T50 Try.T51 Try.T52 Try.T54 Try.T55 Try.T56 Try.T58 Try.T59 Try.T61 Try.T63 Try.T65 Try.T67 Try.T68 Try.T69 Try.T70 Try.T72 Try.T73 Try.T74 Try.T75 Try.T76 Try.T77 Try.T78 Try.T79 Try.T80 Try.T81 Try.T83 Try.T84 Try.T85 Try.T87 Try.T88 Try.T89 Try.T90 Try.T91 Try.T92 Try.T93 Try.T94 Try.T95 Try.T96 Try.T97 Try.T98 Try.T99 Try.T101 Try.T103 Try.T104 Try.T105 Try.T106 Try.T107 Try.T108 Try.T109 Try.T110 Try.T111 Try.T113 Try.T114 Try.T115 Try.T116 Try.T117 Try.T118 Try.T119 Try.T120 Try.T121 Try.T122 Try.T123 Try.T124 Try.T125 Try.T126 Try.T127 Try.T128 Try.T129 Try.T130 Try.T131 Try.T132 Try.T133 Try.T134 Try.T135 Try.T137 Try.T138 Try.T139 Try.T140 Try.T141 Try.T142 Try.T143 Try.T144 Try.T145 Try.T146 Try.T147 Try.T148 Try.T149 Try.T150 Try.T153 Try.T156 Try.T157 Try.T160 Try.T161 Try.T167
attribute [local irreducible] Go.Av.CallK Go.Av.CallE Go.Av.CallQ Go.Av.CallF Go.Av.CallR Go.Av.CallH Go.Av.Con
theorem isNaN_con (n : Int) : ACon Try.prog 106 [.p (I n)] (.p (B false)) := by
  refine wBody Try.tab Try.mixed Try.func106 rfl rfl Try.ntmps106 (by simp) (by simp) fun Q hr hn => ?_
  repeat' first | (refine hK _ ?_; clear hK) | (refine hK _ _ ?_; clear hK) | (clear hK; refine hK _ ?_; clear hK) | (clear hK; clear hK; refine hK _ ?_; clear hK) | (clear hK; clear hK; clear hK; refine hK _ ?_; clear hK) | (clear hK; clear hK; clear hK; clear hK; refine hK _ ?_; clear hK) | (refine wSeq fun K hK => ?_) | ((first | refine wReg ?_ | refine wDrwQ rfl (by kernel_rfl) ?_ | refine wDrwI ?_ | refine wDrw (by kernel_rfl) ?_); simp only [List.map_cons, List.map_nil, strip]) | ((first | refine wIs fun K hK => ?_ | refine wOs fun K hK => ?_ | refine wQs fun K hK => ?_ | refine CallK_plain ?_ | refine CallQ_plain ?_ | refine CallR_plain ?_ | refine wCond ?_); simp) | (refine wIn ?_; refine And.intro (by kernel_rfl) ?_; try simp only [thenA_n]) | (first | refine wBlock ?_ | refine wScope ?_) | ((first | refine wRet ?_ | refine wExit ?_ | refine wSkip ?_); try simp) | ((first | refine wLabel ?_ | refine wOn ?_ | refine wQn ?_); try simp only [thenA_n])
  apply hr
  simp [Try.f106]
def cmpInt (a b : Int) : Int := if a < b then -1 else if b < a then 1 else 0
theorem compare_con (a b : Int) : ACon Try.prog 101 [.p (I a), .p (I b)] (.p (I (cmpInt a b))) := by
  refine wBody Try.tab Try.mixed Try.func101 rfl rfl Try.ntmps101 (by simp) (by simp) fun Q hr hn => ?_
  repeat' first | (refine hK _ ?_; clear hK) | (refine hK _ _ ?_; clear hK) | (clear hK; refine hK _ ?_; clear hK) | (clear hK; clear hK; refine hK _ ?_; clear hK) | (clear hK; clear hK; clear hK; refine hK _ ?_; clear hK) | (clear hK; clear hK; clear hK; clear hK; refine hK _ ?_; clear hK) | (refine wSeq fun K hK => ?_) | ((first | refine wReg ?_ | refine wDrwQ rfl (by kernel_rfl) ?_ | refine wDrwI ?_ | refine wDrw (by kernel_rfl) ?_); simp only [List.map_cons, List.map_nil, strip]) | ((first | refine wIs fun K hK => ?_ | refine wOs fun K hK => ?_ | refine wQs fun K hK => ?_ | refine CallK_plain ?_ | refine CallQ_plain ?_ | refine CallR_plain ?_ | refine wCond ?_); simp) | (refine wIn ?_; refine And.intro (by kernel_rfl) ?_; try simp only [thenA_n]) | (first | refine wBlock ?_ | refine wScope ?_) | ((first | refine wRet ?_ | refine wExit ?_ | refine wSkip ?_); try simp) | ((first | refine wLabel ?_ | refine wOn ?_ | refine wQn ?_); try simp only [thenA_n]) | (refine CallE.pure (isNaN_con _) rfl ?_) | (refine CallE.lent (isNaN_con _) rfl ?_) | (refine CallF.pure (isNaN_con _) rfl ?_) | (refine CallF.lent (isNaN_con _) rfl ?_) | (refine CallE.own (isNaN_con _) ?_) | (refine CallH.pure (isNaN_con _) rfl ?_) | (refine CallH.lent (isNaN_con _) rfl ?_) | (refine CallH.own (isNaN_con _) ?_) | (refine And.intro (fun _ => ?_) (fun _ => ?_))
  all_goals (apply hr; simp [Try.f101, cmpInt]; try omega)
def orL : List Int → Int
  | [] => 0
  | a :: l => if a = 0 then orL l else a
theorem or_con (l : List Int) : ACon Try.prog 100 [.p (.sl 1 (l.map fun n => [I n]))] (.p (I (orL l))) := by
  refine ACon.len ⟨Try.f100, Try.func100, rfl, rfl⟩ 0 _ _ rfl fun hlen => ?_
  simp only [List.length_map] at hlen
  refine wBody Try.tab Try.mixed Try.func100 rfl rfl Try.ntmps100 (by simp) (by simp) fun Q hr hn => ?_
  repeat' first | (refine hK _ ?_; clear hK) | (refine hK _ _ ?_; clear hK) | (clear hK; refine hK _ ?_; clear hK) | (clear hK; clear hK; refine hK _ ?_; clear hK) | (clear hK; clear hK; clear hK; refine hK _ ?_; clear hK) | (clear hK; clear hK; clear hK; clear hK; refine hK _ ?_; clear hK) | (refine wSeq fun K hK => ?_) | ((first | refine wReg ?_ | refine wDrwQ rfl (by kernel_rfl) ?_ | refine wDrwI ?_ | refine wDrw (by kernel_rfl) ?_); simp only [List.map_cons, List.map_nil, strip]) | ((first | refine wIs fun K hK => ?_ | refine wOs fun K hK => ?_ | refine wQs fun K hK => ?_ | refine CallK_plain ?_ | refine CallQ_plain ?_ | refine CallR_plain ?_ | refine wCond ?_); simp) | (refine wIn ?_; refine And.intro (by kernel_rfl) ?_; try simp only [thenA_n]) | (first | refine wBlock ?_ | refine wScope ?_) | ((first | refine wRet ?_ | refine wExit ?_ | refine wSkip ?_); try simp) | ((first | refine wLabel ?_ | refine wOn ?_ | refine wQn ?_); try simp only [thenA_n])
  refine wLoop (fun n st => ∃ k, k + n = l.length ∧ st.s 6 = .p (.sl 1 (l.map fun n => [I n])) ∧ st.s 7 = .p (I l.length) ∧ st.s 8 = .p (I k) ∧ st.s 3 = .p (I 0) ∧ orL (l.drop k) = orL l) l.length ⟨0, by simp⟩ fun K n st hL ⟨k, hk, h6, h7, h8, h3, hor⟩ => ?_
  by_cases hlt : k < l.length
  · have hw := wrapS k _ hlt hlen
    have hd : l.drop k = l[k] :: l.drop (k + 1) := List.drop_eq_getElem_cons hlt
    have he : l[k]? = some l[k] := List.getElem?_eq_getElem hlt
    rw [hd, orL] at hor
    repeat' first | (refine hK _ ?_; clear hK) | (refine hK _ _ ?_; clear hK) | (clear hK; refine hK _ ?_; clear hK) | (clear hK; clear hK; refine hK _ ?_; clear hK) | (clear hK; clear hK; clear hK; refine hK _ ?_; clear hK) | (clear hK; clear hK; clear hK; clear hK; refine hK _ ?_; clear hK) | (refine wSeq fun K hK => ?_) | ((first | refine wReg ?_ | refine wDrwQ rfl (by kernel_rfl) ?_ | refine wDrwI ?_ | refine wDrw (by kernel_rfl) ?_); simp only [List.map_cons, List.map_nil, strip]) | ((first | refine wIs fun K hK => ?_ | refine wOs fun K hK => ?_ | refine wQs fun K hK => ?_ | refine CallK_plain ?_ | refine CallQ_plain ?_ | refine CallR_plain ?_ | refine wCond ?_); simp [h6, h7, h8, h3, hlt, hw, he]) | (refine wIn ?_; refine And.intro (by kernel_rfl) ?_; try simp only [thenA_n]) | (first | refine wBlock ?_ | refine wScope ?_) | ((first | refine wRet ?_ | refine wExit ?_ | refine wSkip ?_); try simp) | ((first | refine wLabel ?_ | refine wOn ?_ | refine wQn ?_); try simp only [thenA_n]) | (refine And.intro (fun hc => ?_) (fun hc => ?_))
    · apply hr
      simp [Try.f100]
      rw [if_neg hc] at hor; exact hor.symm
    · refine hL _ (n - 1) (by omega) ⟨k + 1, by omega, ?_⟩
      rw [if_pos hc] at hor
      simp [h6, h7, h3, hw, hor]
  · have hd : l.drop k = [] := List.drop_of_length_le (by omega)
    rw [hd] at hor
    repeat' first | (refine hK _ ?_; clear hK) | (refine hK _ _ ?_; clear hK) | (clear hK; refine hK _ ?_; clear hK) | (clear hK; clear hK; refine hK _ ?_; clear hK) | (clear hK; clear hK; clear hK; refine hK _ ?_; clear hK) | (clear hK; clear hK; clear hK; clear hK; refine hK _ ?_; clear hK) | (refine wSeq fun K hK => ?_) | ((first | refine wReg ?_ | refine wDrwQ rfl (by kernel_rfl) ?_ | refine wDrwI ?_ | refine wDrw (by kernel_rfl) ?_); simp only [List.map_cons, List.map_nil, strip]) | ((first | refine wIs fun K hK => ?_ | refine wOs fun K hK => ?_ | refine wQs fun K hK => ?_ | refine CallK_plain ?_ | refine CallQ_plain ?_ | refine CallR_plain ?_ | refine wCond ?_); simp [h6, h7, h8, h3, hlt]) | (refine wIn ?_; refine And.intro (by kernel_rfl) ?_; try simp only [thenA_n]) | (first | refine wBlock ?_ | refine wScope ?_) | ((first | refine wRet ?_ | refine wExit ?_ | refine wSkip ?_); try simp) | ((first | refine wLabel ?_ | refine wOn ?_ | refine wQn ?_); try simp only [thenA_n])
    apply hr
    simp [Try.f100, h3, ← hor, orL]
def zcmp (a b c d : Int) : Int := if a = c ∧ b = d then 0 else orL [cmpInt a c, cmpInt b d]
theorem cmp_con (a b c d : Int) : ACon Try.prog 93 [.p (.agg [I a, I b]), .p (.agg [I c, I d])] (.p (I (zcmp a b c d))) := by
  have hor := or_con [cmpInt a c, cmpInt b d]
  simp only [List.map_cons, List.map_nil] at hor
  by_cases hab : a = c ∧ b = d
  · obtain ⟨rfl, rfl⟩ := hab
    refine wBody Try.tab Try.mixed Try.func93 rfl rfl Try.ntmps93 (by simp) (by simp) fun Q hr hn => ?_
    repeat' first | (refine hK _ ?_; clear hK) | (refine hK _ _ ?_; clear hK) | (clear hK; refine hK _ ?_; clear hK) | (clear hK; clear hK; refine hK _ ?_; clear hK) | (clear hK; clear hK; clear hK; refine hK _ ?_; clear hK) | (clear hK; clear hK; clear hK; clear hK; refine hK _ ?_; clear hK) | (refine wSeq fun K hK => ?_) | ((first | refine wReg ?_ | refine wDrwQ rfl (by kernel_rfl) ?_ | refine wDrwI ?_ | refine wDrw (by kernel_rfl) ?_); simp only [List.map_cons, List.map_nil, strip]) | ((first | refine wIs fun K hK => ?_ | refine wOs fun K hK => ?_ | refine wQs fun K hK => ?_ | refine CallK_plain ?_ | refine CallQ_plain ?_ | refine CallR_plain ?_ | refine wCond ?_); simp) | (refine wIn ?_; refine And.intro (by kernel_rfl) ?_; try simp only [thenA_n]) | (first | refine wBlock ?_ | refine wScope ?_) | ((first | refine wRet ?_ | refine wExit ?_ | refine wSkip ?_); try simp) | ((first | refine wLabel ?_ | refine wOn ?_ | refine wQn ?_); try simp only [thenA_n])
    apply hr
    simp [Try.f93, zcmp]
  · refine wBody Try.tab Try.mixed Try.func93 rfl rfl Try.ntmps93 (by simp) (by simp) fun Q hr hn => ?_
    repeat' first | (refine hK _ ?_; clear hK) | (refine hK _ _ ?_; clear hK) | (clear hK; refine hK _ ?_; clear hK) | (clear hK; clear hK; refine hK _ ?_; clear hK) | (clear hK; clear hK; clear hK; refine hK _ ?_; clear hK) | (clear hK; clear hK; clear hK; clear hK; refine hK _ ?_; clear hK) | (refine wSeq fun K hK => ?_) | ((first | refine wReg ?_ | refine wDrwQ rfl (by kernel_rfl) ?_ | refine wDrwI ?_ | refine wDrw (by kernel_rfl) ?_); simp only [List.map_cons, List.map_nil, strip]) | ((first | refine wIs fun K hK => ?_ | refine wOs fun K hK => ?_ | refine wQs fun K hK => ?_ | refine CallK_plain ?_ | refine CallQ_plain ?_ | refine CallR_plain ?_ | refine wCond ?_); simp [hab]) | (refine wIn ?_; refine And.intro (by kernel_rfl) ?_; try simp only [thenA_n]) | (first | refine wBlock ?_ | refine wScope ?_) | ((first | refine wRet ?_ | refine wExit ?_ | refine wSkip ?_); try simp) | ((first | refine wLabel ?_ | refine wOn ?_ | refine wQn ?_); try simp only [thenA_n]) | (refine CallE.pure (compare_con _ _) rfl ?_) | (refine CallE.lent (compare_con _ _) rfl ?_) | (refine CallF.pure (compare_con _ _) rfl ?_) | (refine CallF.lent (compare_con _ _) rfl ?_) | (refine CallE.own (compare_con _ _) ?_) | (refine CallH.pure (compare_con _ _) rfl ?_) | (refine CallH.lent (compare_con _ _) rfl ?_) | (refine CallH.own (compare_con _ _) ?_) | (refine CallE.pure (hor) rfl ?_) | (refine CallE.lent (hor) rfl ?_) | (refine CallF.pure (hor) rfl ?_) | (refine CallF.lent (hor) rfl ?_) | (refine CallE.own (hor) ?_) | (refine CallH.pure (hor) rfl ?_) | (refine CallH.lent (hor) rfl ?_) | (refine CallH.own (hor) ?_) | (intro _)
    all_goals first | exact hab | skip
    apply hr
    simp [Try.f93, zcmp, hab]
theorem zcmp_pos (a b c d : Int) : 0 < zcmp a b c d ↔ c < a ∨ (c = a ∧ d < b) := by
  unfold zcmp cmpInt
  simp only [orL]
  repeat' split
  all_goals omega
theorem zcmp_spec (a b c d : Int) : zcmp a b c d = if a = c ∧ b = d then 0 else if a < c ∨ (a = c ∧ b < d) then -1 else 1 := by
  unfold zcmp cmpInt
  simp only [orL]
  repeat' split
  all_goals omega
theorem cmp02_con (a b c d : Int) : ACon Try.prog 18 [.p (.agg [I a, I b]), .p (.agg [I c, I d])] (.p (I (zcmp a b c d))) := by
  rw [zcmp_spec]
  by_cases hab : a = c ∧ b = d
  · rw [if_pos hab]
    obtain ⟨rfl, rfl⟩ := hab
    refine wBody Try.tab Try.mixed Try.func18 rfl rfl Try.ntmps18 (by simp) (by simp) fun Q hr hn => ?_
    repeat' first | (refine hK _ ?_; clear hK) | (refine hK _ _ ?_; clear hK) | (clear hK; refine hK _ ?_; clear hK) | (clear hK; clear hK; refine hK _ ?_; clear hK) | (clear hK; clear hK; clear hK; refine hK _ ?_; clear hK) | (clear hK; clear hK; clear hK; clear hK; refine hK _ ?_; clear hK) | (refine wSeq fun K hK => ?_) | ((first | refine wReg ?_ | refine wDrwQ rfl (by kernel_rfl) ?_ | refine wDrwI ?_ | refine wDrw (by kernel_rfl) ?_); simp only [List.map_cons, List.map_nil, strip]) | ((first | refine wIs fun K hK => ?_ | refine wOs fun K hK => ?_ | refine wQs fun K hK => ?_ | refine CallK_plain ?_ | refine CallQ_plain ?_ | refine CallR_plain ?_ | refine wCond ?_); simp) | (refine wIn ?_; refine And.intro (by kernel_rfl) ?_; try simp only [thenA_n]) | (first | refine wBlock ?_ | refine wScope ?_) | ((first | refine wRet ?_ | refine wExit ?_ | refine wSkip ?_); try simp) | ((first | refine wLabel ?_ | refine wOn ?_ | refine wQn ?_); try simp only [thenA_n])
    all_goals apply hr
    all_goals simp [Try.f18]
  · rw [if_neg hab]
    by_cases h1 : a < c
    · have h2 : ¬ a = c := by omega
      refine wBody Try.tab Try.mixed Try.func18 rfl rfl Try.ntmps18 (by simp) (by simp) fun Q hr hn => ?_
      repeat' first | (refine hK _ ?_; clear hK) | (refine hK _ _ ?_; clear hK) | (clear hK; refine hK _ ?_; clear hK) | (clear hK; clear hK; refine hK _ ?_; clear hK) | (clear hK; clear hK; clear hK; refine hK _ ?_; clear hK) | (clear hK; clear hK; clear hK; clear hK; refine hK _ ?_; clear hK) | (refine wSeq fun K hK => ?_) | ((first | refine wReg ?_ | refine wDrwQ rfl (by kernel_rfl) ?_ | refine wDrwI ?_ | refine wDrw (by kernel_rfl) ?_); simp only [List.map_cons, List.map_nil, strip]) | ((first | refine wIs fun K hK => ?_ | refine wOs fun K hK => ?_ | refine wQs fun K hK => ?_ | refine CallK_plain ?_ | refine CallQ_plain ?_ | refine CallR_plain ?_ | refine wCond ?_); simp [hab, h1, h2]) | (refine wIn ?_; refine And.intro (by kernel_rfl) ?_; try simp only [thenA_n]) | (first | refine wBlock ?_ | refine wScope ?_) | ((first | refine wRet ?_ | refine wExit ?_ | refine wSkip ?_); try simp) | ((first | refine wLabel ?_ | refine wOn ?_ | refine wQn ?_); try simp only [thenA_n]) | (intro _)
      all_goals first | exact hab | skip
      all_goals apply hr
      all_goals simp [Try.f18, h1]
    · by_cases h2 : a = c
      · by_cases h3 : b < d
        · have h4 : ¬ b = d := by omega
          refine wBody Try.tab Try.mixed Try.func18 rfl rfl Try.ntmps18 (by simp) (by simp) fun Q hr hn => ?_
          repeat' first | (refine hK _ ?_; clear hK) | (refine hK _ _ ?_; clear hK) | (clear hK; refine hK _ ?_; clear hK) | (clear hK; clear hK; refine hK _ ?_; clear hK) | (clear hK; clear hK; clear hK; refine hK _ ?_; clear hK) | (clear hK; clear hK; clear hK; clear hK; refine hK _ ?_; clear hK) | (refine wSeq fun K hK => ?_) | ((first | refine wReg ?_ | refine wDrwQ rfl (by kernel_rfl) ?_ | refine wDrwI ?_ | refine wDrw (by kernel_rfl) ?_); simp only [List.map_cons, List.map_nil, strip]) | ((first | refine wIs fun K hK => ?_ | refine wOs fun K hK => ?_ | refine wQs fun K hK => ?_ | refine CallK_plain ?_ | refine CallQ_plain ?_ | refine CallR_plain ?_ | refine wCond ?_); simp [hab, h1, h2, h3, h4]) | (refine wIn ?_; refine And.intro (by kernel_rfl) ?_; try simp only [thenA_n]) | (first | refine wBlock ?_ | refine wScope ?_) | ((first | refine wRet ?_ | refine wExit ?_ | refine wSkip ?_); try simp) | ((first | refine wLabel ?_ | refine wOn ?_ | refine wQn ?_); try simp only [thenA_n]) | (intro _)
          all_goals first | exact hab | skip
          all_goals apply hr
          all_goals simp [Try.f18, h1, h2, h3]
        · have h4 : ¬ b = d := fun h => hab ⟨h2, h⟩
          refine wBody Try.tab Try.mixed Try.func18 rfl rfl Try.ntmps18 (by simp) (by simp) fun Q hr hn => ?_
          repeat' first | (refine hK _ ?_; clear hK) | (refine hK _ _ ?_; clear hK) | (clear hK; refine hK _ ?_; clear hK) | (clear hK; clear hK; refine hK _ ?_; clear hK) | (clear hK; clear hK; clear hK; refine hK _ ?_; clear hK) | (clear hK; clear hK; clear hK; clear hK; refine hK _ ?_; clear hK) | (refine wSeq fun K hK => ?_) | ((first | refine wReg ?_ | refine wDrwQ rfl (by kernel_rfl) ?_ | refine wDrwI ?_ | refine wDrw (by kernel_rfl) ?_); simp only [List.map_cons, List.map_nil, strip]) | ((first | refine wIs fun K hK => ?_ | refine wOs fun K hK => ?_ | refine wQs fun K hK => ?_ | refine CallK_plain ?_ | refine CallQ_plain ?_ | refine CallR_plain ?_ | refine wCond ?_); simp [hab, h1, h2, h3, h4]) | (refine wIn ?_; refine And.intro (by kernel_rfl) ?_; try simp only [thenA_n]) | (first | refine wBlock ?_ | refine wScope ?_) | ((first | refine wRet ?_ | refine wExit ?_ | refine wSkip ?_); try simp) | ((first | refine wLabel ?_ | refine wOn ?_ | refine wQn ?_); try simp only [thenA_n]) | (intro _)
          all_goals first | exact hab | skip
          all_goals apply hr
          all_goals simp [Try.f18, h1, h2, h3]
      · refine wBody Try.tab Try.mixed Try.func18 rfl rfl Try.ntmps18 (by simp) (by simp) fun Q hr hn => ?_
        repeat' first | (refine hK _ ?_; clear hK) | (refine hK _ _ ?_; clear hK) | (clear hK; refine hK _ ?_; clear hK) | (clear hK; clear hK; refine hK _ ?_; clear hK) | (clear hK; clear hK; clear hK; refine hK _ ?_; clear hK) | (clear hK; clear hK; clear hK; clear hK; refine hK _ ?_; clear hK) | (refine wSeq fun K hK => ?_) | ((first | refine wReg ?_ | refine wDrwQ rfl (by kernel_rfl) ?_ | refine wDrwI ?_ | refine wDrw (by kernel_rfl) ?_); simp only [List.map_cons, List.map_nil, strip]) | ((first | refine wIs fun K hK => ?_ | refine wOs fun K hK => ?_ | refine wQs fun K hK => ?_ | refine CallK_plain ?_ | refine CallQ_plain ?_ | refine CallR_plain ?_ | refine wCond ?_); simp [hab, h1, h2]) | (refine wIn ?_; refine And.intro (by kernel_rfl) ?_; try simp only [thenA_n]) | (first | refine wBlock ?_ | refine wScope ?_) | ((first | refine wRet ?_ | refine wExit ?_ | refine wSkip ?_); try simp) | ((first | refine wLabel ?_ | refine wOn ?_ | refine wQn ?_); try simp only [thenA_n]) | (intro _)
        all_goals first | exact hab | skip
        all_goals apply hr
        all_goals simp [Try.f18, h1, h2]
/- Layer 2: what comes next, which is last, whose an epoch is; the document's answers. -/
def owner (n : Int) : Int := if n < 1 then -1 else n.tmod 16
theorem owner_con (n : Int) : ACon Try.prog 56 [.p (I n)] (.p (I (owner n))) := by
  unfold owner
  by_cases h : n < 1
  · rw [if_pos h]
    refine wBody Try.tab Try.mixed Try.func56 rfl rfl Try.ntmps56 (by simp) (by simp) fun Q hr hn => ?_
    repeat' first | (refine hK _ ?_; clear hK) | (refine hK _ _ ?_; clear hK) | (clear hK; refine hK _ ?_; clear hK) | (clear hK; clear hK; refine hK _ ?_; clear hK) | (clear hK; clear hK; clear hK; refine hK _ ?_; clear hK) | (clear hK; clear hK; clear hK; clear hK; refine hK _ ?_; clear hK) | (refine wSeq fun K hK => ?_) | ((first | refine wReg ?_ | refine wDrwQ rfl (by kernel_rfl) ?_ | refine wDrwI ?_ | refine wDrw (by kernel_rfl) ?_); simp only [List.map_cons, List.map_nil, strip]) | ((first | refine wIs fun K hK => ?_ | refine wOs fun K hK => ?_ | refine wQs fun K hK => ?_ | refine CallK_plain ?_ | refine CallQ_plain ?_ | refine CallR_plain ?_ | refine wCond ?_); simp [h]) | (refine wIn ?_; refine And.intro (by kernel_rfl) ?_; try simp only [thenA_n]) | (first | refine wBlock ?_ | refine wScope ?_) | ((first | refine wRet ?_ | refine wExit ?_ | refine wSkip ?_); try simp) | ((first | refine wLabel ?_ | refine wOn ?_ | refine wQn ?_); try simp only [thenA_n])
    all_goals apply hr
    all_goals simp [Try.f56]
  · rw [if_neg h]
    refine wBody Try.tab Try.mixed Try.func56 rfl rfl Try.ntmps56 (by simp) (by simp) fun Q hr hn => ?_
    repeat' first | (refine hK _ ?_; clear hK) | (refine hK _ _ ?_; clear hK) | (clear hK; refine hK _ ?_; clear hK) | (clear hK; clear hK; refine hK _ ?_; clear hK) | (clear hK; clear hK; clear hK; refine hK _ ?_; clear hK) | (clear hK; clear hK; clear hK; clear hK; refine hK _ ?_; clear hK) | (refine wSeq fun K hK => ?_) | ((first | refine wReg ?_ | refine wDrwQ rfl (by kernel_rfl) ?_ | refine wDrwI ?_ | refine wDrw (by kernel_rfl) ?_); simp only [List.map_cons, List.map_nil, strip]) | ((first | refine wIs fun K hK => ?_ | refine wOs fun K hK => ?_ | refine wQs fun K hK => ?_ | refine CallK_plain ?_ | refine CallQ_plain ?_ | refine CallR_plain ?_ | refine wCond ?_); simp [h]) | (refine wIn ?_; refine And.intro (by kernel_rfl) ?_; try simp only [thenA_n]) | (first | refine wBlock ?_ | refine wScope ?_) | ((first | refine wRet ?_ | refine wExit ?_ | refine wSkip ?_); try simp) | ((first | refine wLabel ?_ | refine wOn ?_ | refine wQn ?_); try simp only [thenA_n])
    all_goals apply hr
    all_goals simp [Try.f56]
theorem owner02_con (n : Int) : ACon Try.prog 13 [.p (I n)] (.p (I (owner n))) := by
  unfold owner
  by_cases h : n < 1
  · rw [if_pos h]
    refine wBody Try.tab Try.mixed Try.func13 rfl rfl Try.ntmps13 (by simp) (by simp) fun Q hr hn => ?_
    repeat' first | (refine hK _ ?_; clear hK) | (refine hK _ _ ?_; clear hK) | (clear hK; refine hK _ ?_; clear hK) | (clear hK; clear hK; refine hK _ ?_; clear hK) | (clear hK; clear hK; clear hK; refine hK _ ?_; clear hK) | (clear hK; clear hK; clear hK; clear hK; refine hK _ ?_; clear hK) | (refine wSeq fun K hK => ?_) | ((first | refine wReg ?_ | refine wDrwQ rfl (by kernel_rfl) ?_ | refine wDrwI ?_ | refine wDrw (by kernel_rfl) ?_); simp only [List.map_cons, List.map_nil, strip]) | ((first | refine wIs fun K hK => ?_ | refine wOs fun K hK => ?_ | refine wQs fun K hK => ?_ | refine CallK_plain ?_ | refine CallQ_plain ?_ | refine CallR_plain ?_ | refine wCond ?_); simp [h]) | (refine wIn ?_; refine And.intro (by kernel_rfl) ?_; try simp only [thenA_n]) | (first | refine wBlock ?_ | refine wScope ?_) | ((first | refine wRet ?_ | refine wExit ?_ | refine wSkip ?_); try simp) | ((first | refine wLabel ?_ | refine wOn ?_ | refine wQn ?_); try simp only [thenA_n])
    all_goals apply hr
    all_goals simp [Try.f13]
  · rw [if_neg h]
    refine wBody Try.tab Try.mixed Try.func13 rfl rfl Try.ntmps13 (by simp) (by simp) fun Q hr hn => ?_
    repeat' first | (refine hK _ ?_; clear hK) | (refine hK _ _ ?_; clear hK) | (clear hK; refine hK _ ?_; clear hK) | (clear hK; clear hK; refine hK _ ?_; clear hK) | (clear hK; clear hK; clear hK; refine hK _ ?_; clear hK) | (clear hK; clear hK; clear hK; clear hK; refine hK _ ?_; clear hK) | (refine wSeq fun K hK => ?_) | ((first | refine wReg ?_ | refine wDrwQ rfl (by kernel_rfl) ?_ | refine wDrwI ?_ | refine wDrw (by kernel_rfl) ?_); simp only [List.map_cons, List.map_nil, strip]) | ((first | refine wIs fun K hK => ?_ | refine wOs fun K hK => ?_ | refine wQs fun K hK => ?_ | refine CallK_plain ?_ | refine CallQ_plain ?_ | refine CallR_plain ?_ | refine wCond ?_); simp [h]) | (refine wIn ?_; refine And.intro (by kernel_rfl) ?_; try simp only [thenA_n]) | (first | refine wBlock ?_ | refine wScope ?_) | ((first | refine wRet ?_ | refine wExit ?_ | refine wSkip ?_); try simp) | ((first | refine wLabel ?_ | refine wOn ?_ | refine wQn ?_); try simp only [thenA_n])
    all_goals apply hr
    all_goals simp [Try.f13]
/-- Places. -/
structure Zx where
  (e n : Int)
  deriving DecidableEq
def zxs (l : List Zx) : List (List PV) := l.map fun z => [I z.e, I z.n]
@[simp] theorem zxs_len (l : List Zx) : (zxs l).length = l.length := by simp [zxs]
@[simp] theorem zxs_getE {l : List Zx} {k : Nat} (h : k < (zxs l).length) : (zxs l)[k] = [I (l[k]'(by simpa using h)).e, I (l[k]'(by simpa using h)).n] := by simp [zxs]
def lastZ : List Zx → Zx
  | [] => ⟨0, 0⟩
  | a :: r => r.foldl (fun m x => if 0 < zcmp x.e x.n m.e m.n then x else m) a
/- Histories that are not too large. -/
structure Hy where
  (im : Sv)
  (lg : List Tx)
  deriving DecidableEq
def Hy.cells (h : Hy) : List PV := [.sl 5 (zns h.im.ns), .sl 1 (ints h.im.ss), I h.im.nx, I h.im.c.ep, I h.im.c.n, I h.im.c.kind, .sl 4 (mbs h.im.c.ms), I h.im.ae, I h.im.an, .sl 8 (txns h.lg)]
def wT (t : Tx) : Nat := t.ps.length + (t.ps.map fun p => p.c.ms.length).sum
def wH (h : Hy) : Nat := h.im.ns.length + h.im.c.ms.length + h.im.ss.length + (h.lg.map wT).sum
def near16 (h : Hy) : Prop := h.lg.length ≤ 90 ∧ (∀ t ∈ h.lg, t.ps.length ≤ 50) ∧ wH h + h.lg.length ≤ 300
instance (h : Hy) : Decidable (near16 h) := by unfold near16; infer_instance
structure SmallH (h : Hy) : Prop where
  ns : h.im.ns.length ≤ 140737488355328
  ss : h.im.ss.length ≤ 140737488355328
  ms : h.im.c.ms.length ≤ 140737488355328
  ps : ∀ t ∈ h.lg, t.ps.length ≤ 140737488355328 ∧ ∀ p ∈ t.ps, p.c.ms.length ≤ 140737488355328
theorem sum_snoc {α : Type} (f : α → Nat) {l : List α} {k : Nat} (h : k < l.length) : ((l.take (k + 1)).map f).sum = ((l.take k).map f).sum + f l[k] := by
  rw [List.take_succ_eq_append_getElem h, List.map_append, List.sum_append]; simp
theorem wrapN (a b : Nat) (h : a + b ≤ 9223372036854775807) : IntKind.i64.wrap ((a : Int) + (b : Int)) = (a : Int) + (b : Int) := by
  rw [wrap_id] <;> omega
/- States: copies; the numbers of a list, one taken out. -/
abbrev RConX (g : FuncId) (args : List V) (e c : Nat) (l : List (List PV)) : Prop := Con Try.prog g args [] (.ret (.row 2048) [.row e c l] [])
theorem cloneM (l : List (List PV)) (hl : l.length ≤ 4398046510976) : RConX 102 [.p (.sl 4 l)] 83 4 l := by
  refine wBodyR Try.tab Try.mixed Try.func102 rfl rfl Try.ntmps102 rfl (by simp) (by simp) fun Q hr hn => ?_
  repeat' first | (refine wRetG [.row 2 83 4] ?_) | (refine And.intro (by omega) (Or.inl ?_)) | (refine And.intro ?_ (fun hnil => ?_)) | (refine hK _ ?_; clear hK) | (refine hK _ _ ?_; clear hK) | (clear hK; refine hK _ ?_; clear hK) | (clear hK; clear hK; refine hK _ ?_; clear hK) | (clear hK; clear hK; clear hK; refine hK _ ?_; clear hK) | (clear hK; clear hK; clear hK; clear hK; refine hK _ ?_; clear hK) | (refine wSeq fun K hK => ?_) | ((first | refine wReg ?_ | refine wDrwQ rfl (by kernel_rfl) ?_ | refine wDrwI ?_ | refine wDrw (by kernel_rfl) ?_); simp only [List.map_cons, List.map_nil, strip]) | ((first | refine wIs fun K hK => ?_ | refine wOs fun K hK => ?_ | refine wQs fun K hK => ?_ | refine CallK_plain ?_ | refine CallQ_plain ?_ | refine CallR_plain ?_ | refine wCond ?_); simp) | (refine wIn ?_; refine And.intro (by kernel_rfl) ?_; try simp only [thenA_n]) | (first | refine wBlock ?_ | refine wScope ?_) | ((first | refine wRet ?_ | refine wExit ?_ | refine wSkip ?_); try simp) | ((first | refine wLabel ?_ | refine wOn ?_ | refine wQn ?_); try simp only [thenA_n])
  · refine hr _ 7 (by simp) (by simp) (by omega)
  · subst hnil
    simp only [thenA_r]
    refine hr _ 2 (by simp) (by simp) (by omega)
theorem cloneZ (l : List (List PV)) (hl : l.length ≤ 1000000) : RConX 94 [.p (.sl 5 l)] 101 5 l := by
  refine wBodyR Try.tab Try.mixed Try.func94 rfl rfl Try.ntmps94 rfl (by simp) (by simp) fun Q hr hn => ?_
  repeat' first | (refine wRetG [.row 2 101 5] ?_) | (refine And.intro (by omega) (Or.inl ?_)) | (refine And.intro ?_ (fun hnil => ?_)) | (refine hK _ ?_; clear hK) | (refine hK _ _ ?_; clear hK) | (clear hK; refine hK _ ?_; clear hK) | (clear hK; clear hK; refine hK _ ?_; clear hK) | (clear hK; clear hK; clear hK; refine hK _ ?_; clear hK) | (clear hK; clear hK; clear hK; clear hK; refine hK _ ?_; clear hK) | (refine wSeq fun K hK => ?_) | ((first | refine wReg ?_ | refine wDrwQ rfl (by kernel_rfl) ?_ | refine wDrwI ?_ | refine wDrw (by kernel_rfl) ?_); simp only [List.map_cons, List.map_nil, strip]) | ((first | refine wIs fun K hK => ?_ | refine wOs fun K hK => ?_ | refine wQs fun K hK => ?_ | refine CallK_plain ?_ | refine CallQ_plain ?_ | refine CallR_plain ?_ | refine wCond ?_); simp) | (refine wIn ?_; refine And.intro (by kernel_rfl) ?_; try simp only [thenA_n]) | (first | refine wBlock ?_ | refine wScope ?_) | ((first | refine wRet ?_ | refine wExit ?_ | refine wSkip ?_); try simp) | ((first | refine wLabel ?_ | refine wOn ?_ | refine wQn ?_); try simp only [thenA_n])
  · refine hr _ 7 (by simp) (by simp) (by omega)
  · subst hnil
    simp only [thenA_r]
    refine hr _ 2 (by simp) (by simp) (by omega)
theorem cloneI (l : List (List PV)) (hl : l.length ≤ 1000000) : RConX 95 [.p (.sl 1 l)] 3 1 l := by
  refine wBodyR Try.tab Try.mixed Try.func95 rfl rfl Try.ntmps95 rfl (by simp) (by simp) fun Q hr hn => ?_
  repeat' first | (refine wRetG [.row 2 3 1] ?_) | (refine And.intro (by omega) (Or.inl ?_)) | (refine And.intro ?_ (fun hnil => ?_)) | (refine hK _ ?_; clear hK) | (refine hK _ _ ?_; clear hK) | (clear hK; refine hK _ ?_; clear hK) | (clear hK; clear hK; refine hK _ ?_; clear hK) | (clear hK; clear hK; clear hK; refine hK _ ?_; clear hK) | (clear hK; clear hK; clear hK; clear hK; refine hK _ ?_; clear hK) | (refine wSeq fun K hK => ?_) | ((first | refine wReg ?_ | refine wDrwQ rfl (by kernel_rfl) ?_ | refine wDrwI ?_ | refine wDrw (by kernel_rfl) ?_); simp only [List.map_cons, List.map_nil, strip]) | ((first | refine wIs fun K hK => ?_ | refine wOs fun K hK => ?_ | refine wQs fun K hK => ?_ | refine CallK_plain ?_ | refine CallQ_plain ?_ | refine CallR_plain ?_ | refine wCond ?_); simp) | (refine wIn ?_; refine And.intro (by kernel_rfl) ?_; try simp only [thenA_n]) | (first | refine wBlock ?_ | refine wScope ?_) | ((first | refine wRet ?_ | refine wExit ?_ | refine wSkip ?_); try simp) | ((first | refine wLabel ?_ | refine wOn ?_ | refine wQn ?_); try simp only [thenA_n])
  · refine hr _ 7 (by simp) (by simp) (by omega)
  · subst hnil
    simp only [thenA_r]
    refine hr _ 2 (by simp) (by simp) (by omega)
theorem ownConfig_con (e n k : Int) (ms : List (List PV)) (hl : ms.length ≤ 4398046510976) : ACon Try.prog 96 [.p (.agg [I e, I n, I k, .sl 4 ms])] (.p (.agg [I e, I n, I k, .sl 4 ms])) := by
  have c := cloneM ms hl
  refine wBody Try.tab Try.mixed Try.func96 rfl rfl Try.ntmps96 (by simp) (by simp) fun Q hr hn => ?_
  repeat' first | (refine hK _ ?_; clear hK) | (refine hK _ _ ?_; clear hK) | (clear hK; refine hK _ ?_; clear hK) | (clear hK; clear hK; refine hK _ ?_; clear hK) | (clear hK; clear hK; clear hK; refine hK _ ?_; clear hK) | (clear hK; clear hK; clear hK; clear hK; refine hK _ ?_; clear hK) | (refine wSeq fun K hK => ?_) | ((first | refine wReg ?_ | refine wDrwQ rfl (by kernel_rfl) ?_ | refine wDrwI ?_ | refine wDrw (by kernel_rfl) ?_); simp only [List.map_cons, List.map_nil, strip]) | ((first | refine wIs fun K hK => ?_ | refine wOs fun K hK => ?_ | refine wQs fun K hK => ?_ | refine CallK_plain ?_ | refine CallQ_plain ?_ | refine CallR_plain ?_ | refine wCond ?_); simp) | (refine wIn ?_; refine And.intro (by kernel_rfl) ?_; try simp only [thenA_n]) | (first | refine wBlock ?_ | refine wScope ?_) | ((first | refine wRet ?_ | refine wExit ?_ | refine wSkip ?_); try simp) | ((first | refine wLabel ?_ | refine wOn ?_ | refine wQn ?_); try simp only [thenA_n]) | (refine CallE.pure (c) rfl ?_) | (refine CallE.lent (c) rfl ?_) | (refine CallF.pure (c) rfl ?_) | (refine CallF.lent (c) rfl ?_) | (refine CallE.own (c) ?_) | (refine CallH.pure (c) rfl ?_) | (refine CallH.lent (c) rfl ?_) | (refine CallH.own (c) ?_)
  all_goals apply hr
  all_goals simp [Try.f96]
/- Histories: copies, marks, the plan that makes one of another. -/
theorem set_takeK {α : Type} (l : List α) (k : Nat) (x : α) (h : k < l.length) : (l.set k x).take (k + 1) = l.take k ++ [x] := by
  rw [List.take_succ_eq_append_getElem (by simpa using h), List.getElem_set_self, List.take_set_of_le (Nat.le_refl _)]
set_option maxHeartbeats 1000000 in
theorem ownPart_con (x : Pt) (hm : x.c.ms.length ≤ 1000) : ACon Try.prog 104 [.p (.agg x.cells)] (.p (.agg x.cells)) := by
  have c := ownConfig_con x.c.ep x.c.n x.c.kind (mbs x.c.ms) (by rw [mbs_len]; omega)
  unfold Pt.cells
  refine wBody Try.tab Try.mixed Try.func104 rfl rfl Try.ntmps104 (by simp) (by simp) fun Q hr hn => ?_
  repeat' first | (refine hK _ ?_; clear hK) | (refine hK _ _ ?_; clear hK) | (clear hK; refine hK _ ?_; clear hK) | (clear hK; clear hK; refine hK _ ?_; clear hK) | (clear hK; clear hK; clear hK; refine hK _ ?_; clear hK) | (clear hK; clear hK; clear hK; clear hK; refine hK _ ?_; clear hK) | (refine wSeq fun K hK => ?_) | ((first | refine wReg ?_ | refine wDrwQ rfl (by kernel_rfl) ?_ | refine wDrwI ?_ | refine wDrw (by kernel_rfl) ?_); simp only [List.map_cons, List.map_nil, strip]) | ((first | refine wIs fun K hK => ?_ | refine wOs fun K hK => ?_ | refine wQs fun K hK => ?_ | refine CallK_plain ?_ | refine CallQ_plain ?_ | refine CallR_plain ?_ | refine wCond ?_); simp) | (refine wIn ?_; refine And.intro (by kernel_rfl) ?_; try simp only [thenA_n]) | (first | refine wBlock ?_ | refine wScope ?_) | ((first | refine wRet ?_ | refine wExit ?_ | refine wSkip ?_); try simp) | ((first | refine wLabel ?_ | refine wOn ?_ | refine wQn ?_); try simp only [thenA_n]) | (refine CallE.pure (c) rfl ?_) | (refine CallE.lent (c) rfl ?_) | (refine CallF.pure (c) rfl ?_) | (refine CallF.lent (c) rfl ?_) | (refine CallE.own (c) ?_) | (refine CallH.pure (c) rfl ?_) | (refine CallH.lent (c) rfl ?_) | (refine CallH.own (c) ?_)
  all_goals apply hr
  all_goals simp [Try.f104]
theorem pts_set (l : List Pt) (k : Nat) (x : Pt) : (pts l).set k [I x.k, SB x.z.p, SB x.z.d, I x.z.v, I x.z.k, I x.z.o, I x.s, I x.c.ep, I x.c.n, I x.c.kind, .sl 4 (mbs x.c.ms)] = pts (l.set k x) := by simp [pts, Pt.cells, List.map_set]
def pt0 : Pt := ⟨0, ⟨[], [], 0, 0, 0⟩, 0, ⟨0, 0, 0, []⟩⟩
theorem pts_rep (n : Nat) : List.replicate n [I 0, SB [], SB [], I 0, I 0, I 0, I 0, I 0, I 0, I 0, .sl 4 []] = pts (List.replicate n pt0) := by simp [pts, pt0, Pt.cells, mbs]
set_option maxHeartbeats 1000000 in
theorem listPt_con (l : List Pt) (hl : l.length ≤ 1000) (hm : ∀ x ∈ l, x.c.ms.length ≤ 1000) : RCon 103 [.p (.sl 11 (pts l)), .p (.v (.func (.func 104) #[] #[]))] 103 11 (pts l) := by
  by_cases h0 : l.length = 0
  · obtain rfl := List.length_eq_zero_iff.1 h0
    refine wBodyR Try.tab Try.mixed Try.func103 rfl rfl Try.ntmps103 rfl (by simp) (by simp) fun Q hr hn => ?_
    repeat' first | (refine wRetG [.row 4 103 11] ?_) | (refine hK _ ?_; clear hK) | (refine hK _ _ ?_; clear hK) | (clear hK; refine hK _ ?_; clear hK) | (clear hK; clear hK; refine hK _ ?_; clear hK) | (clear hK; clear hK; clear hK; refine hK _ ?_; clear hK) | (clear hK; clear hK; clear hK; clear hK; refine hK _ ?_; clear hK) | (refine wSeq fun K hK => ?_) | ((first | refine wReg ?_ | refine wDrwQ rfl (by kernel_rfl) ?_ | refine wDrwI ?_ | refine wDrw (by kernel_rfl) ?_); simp only [List.map_cons, List.map_nil, strip]) | ((first | refine wIs fun K hK => ?_ | refine wOs fun K hK => ?_ | refine wQs fun K hK => ?_ | refine CallK_plain ?_ | refine CallQ_plain ?_ | refine CallR_plain ?_ | refine wCond ?_); simp [pts]) | (refine wIn ?_; refine And.intro (by kernel_rfl) ?_; try simp only [thenA_n]) | (first | refine wBlock ?_ | refine wScope ?_) | ((first | refine wRet ?_ | refine wExit ?_ | refine wSkip ?_); try simp) | ((first | refine wLabel ?_ | refine wOn ?_ | refine wQn ?_); try simp only [thenA_n])
    all_goals refine hr _ 4 (by simp) (by simp [pts]) (by omega)
  have h0' : ¬ (l.length : Int) = 0 := by omega
  refine wBodyR Try.tab Try.mixed Try.func103 rfl rfl Try.ntmps103 rfl (by simp) (by simp) fun Q hr hn => ?_
  repeat' first | (rw [if_pos ⟨by omega, by omega⟩]) | (refine hK _ ?_; clear hK) | (refine hK _ _ ?_; clear hK) | (clear hK; refine hK _ ?_; clear hK) | (clear hK; clear hK; refine hK _ ?_; clear hK) | (clear hK; clear hK; clear hK; refine hK _ ?_; clear hK) | (clear hK; clear hK; clear hK; clear hK; refine hK _ ?_; clear hK) | (refine wSeq fun K hK => ?_) | ((first | refine wReg ?_ | refine wDrwQ rfl (by kernel_rfl) ?_ | refine wDrwI ?_ | refine wDrw (by kernel_rfl) ?_); simp only [List.map_cons, List.map_nil, strip]) | ((first | refine wIs fun K hK => ?_ | refine wOs fun K hK => ?_ | refine wQs fun K hK => ?_ | refine CallK_plain ?_ | refine CallQ_plain ?_ | refine CallR_plain ?_ | refine wCond ?_); simp [h0, h0', pts_rep]) | (refine wIn ?_; refine And.intro (by kernel_rfl) ?_; try simp only [thenA_n]) | (first | refine wBlock ?_ | refine wScope ?_) | ((first | refine wRet ?_ | refine wExit ?_ | refine wSkip ?_); try simp) | ((first | refine wLabel ?_ | refine wOn ?_ | refine wQn ?_); try simp only [thenA_n])
  refine wLoop (fun N st => ∃ k zs, k + N = l.length ∧ zs.length = l.length ∧ zs.take k = l.take k ∧ st.s 1 = .p (.v (.func (.func 104) #[] #[])) ∧ st.s 5 = .row 13 ∧ st.s 14 = .p (.sl 11 (pts l)) ∧ st.s 15 = .p (I l.length) ∧ st.s 16 = .p (I k) ∧ st.b 13 = some (.row 103 11 (pts zs))) l.length ⟨0, List.replicate l.length pt0, by simp [pts_rep]⟩ fun K N st hL ⟨k, zs, hk, hz, hi, g1, g5, g14, g15, g16, b13⟩ => ?_
  by_cases hlt : k < l.length
  · have hlt' : (k : Int) < l.length := by omega
    have hltz : k < zs.length := by omega
    have hw := wrapS k _ hlt (by omega)
    have he := pts_get hlt
    have c := ownPart_con l[k] (hm _ (List.getElem_mem hlt))
    unfold Pt.cells at c
    have hs := pts_set zs k l[k]
    have hst := set_takeK zs k l[k] hltz
    rw [hi, ← List.take_succ_eq_append_getElem hlt] at hst
    repeat' first | (refine hK _ ?_; clear hK) | (refine hK _ _ ?_; clear hK) | (clear hK; refine hK _ ?_; clear hK) | (clear hK; clear hK; refine hK _ ?_; clear hK) | (clear hK; clear hK; clear hK; refine hK _ ?_; clear hK) | (clear hK; clear hK; clear hK; clear hK; refine hK _ ?_; clear hK) | (refine wSeq fun K hK => ?_) | ((first | refine wReg ?_ | refine wDrwQ rfl (by kernel_rfl) ?_ | refine wDrwI ?_ | refine wDrw (by kernel_rfl) ?_); simp only [List.map_cons, List.map_nil, strip]) | ((first | refine wIs fun K hK => ?_ | refine wOs fun K hK => ?_ | refine wQs fun K hK => ?_ | refine CallK_plain ?_ | refine CallQ_plain ?_ | refine CallR_plain ?_ | refine wCond ?_); simp [g1, g5, g14, g15, g16, b13, hlt, hlt', hltz, hw, he, hs, Pt.cells]) | (refine wIn ?_; refine And.intro (by kernel_rfl) ?_; try simp only [thenA_n]) | (first | refine wBlock ?_ | refine wScope ?_) | ((first | refine wRet ?_ | refine wExit ?_ | refine wSkip ?_); try simp) | ((first | refine wLabel ?_ | refine wOn ?_ | refine wQn ?_); try simp only [thenA_n]) | (refine CallE.pure (c) rfl ?_) | (refine CallE.lent (c) rfl ?_) | (refine CallF.pure (c) rfl ?_) | (refine CallF.lent (c) rfl ?_) | (refine CallE.own (c) ?_) | (refine CallH.pure (c) rfl ?_) | (refine CallH.lent (c) rfl ?_) | (refine CallH.own (c) ?_)
    refine hL _ (N - 1) (by omega) ⟨k + 1, zs.set k l[k], by omega, by simpa using hz, hst, ?_⟩
    simp [g1, g5, g14, g15, g16, b13, hw, hs]
  · have hlt' : ¬ (k : Int) < l.length := by omega
    rw [List.take_of_length_le (by omega), List.take_of_length_le (by omega)] at hi
    subst hi
    repeat' first | (refine hK _ ?_; clear hK) | (refine hK _ _ ?_; clear hK) | (clear hK; refine hK _ ?_; clear hK) | (clear hK; clear hK; refine hK _ ?_; clear hK) | (clear hK; clear hK; clear hK; refine hK _ ?_; clear hK) | (clear hK; clear hK; clear hK; clear hK; refine hK _ ?_; clear hK) | (refine wSeq fun K hK => ?_) | ((first | refine wReg ?_ | refine wDrwQ rfl (by kernel_rfl) ?_ | refine wDrwI ?_ | refine wDrw (by kernel_rfl) ?_); simp only [List.map_cons, List.map_nil, strip]) | ((first | refine wIs fun K hK => ?_ | refine wOs fun K hK => ?_ | refine wQs fun K hK => ?_ | refine CallK_plain ?_ | refine CallQ_plain ?_ | refine CallR_plain ?_ | refine wCond ?_); simp [g1, g5, g14, g15, g16, b13, hlt, hlt']) | (refine wIn ?_; refine And.intro (by kernel_rfl) ?_; try simp only [thenA_n]) | (first | refine wBlock ?_ | refine wScope ?_) | ((first | refine wRet ?_ | refine wExit ?_ | refine wSkip ?_); try simp) | ((first | refine wLabel ?_ | refine wOn ?_ | refine wQn ?_); try simp only [thenA_n])
    all_goals refine hr _ 13 (by simp [g5]) (by simp [b13]) (by omega)
theorem ownTxn_con (t : Tx) (hl : t.ps.length ≤ 1000) (hm : ∀ x ∈ t.ps, x.c.ms.length ≤ 1000) : ACon Try.prog 98 [.p (.agg t.cells)] (.p (.agg t.cells)) := by
  have c := listPt_con t.ps hl hm
  unfold Tx.cells
  refine wBody Try.tab Try.mixed Try.func98 rfl rfl Try.ntmps98 (by simp) (by simp) fun Q hr hn => ?_
  repeat' first | (refine hK _ ?_; clear hK) | (refine hK _ _ ?_; clear hK) | (clear hK; refine hK _ ?_; clear hK) | (clear hK; clear hK; refine hK _ ?_; clear hK) | (clear hK; clear hK; clear hK; refine hK _ ?_; clear hK) | (clear hK; clear hK; clear hK; clear hK; refine hK _ ?_; clear hK) | (refine wSeq fun K hK => ?_) | ((first | refine wReg ?_ | refine wDrwQ rfl (by kernel_rfl) ?_ | refine wDrwI ?_ | refine wDrw (by kernel_rfl) ?_); simp only [List.map_cons, List.map_nil, strip]) | ((first | refine wIs fun K hK => ?_ | refine wOs fun K hK => ?_ | refine wQs fun K hK => ?_ | refine CallK_plain ?_ | refine CallQ_plain ?_ | refine CallR_plain ?_ | refine wCond ?_); simp) | (refine wIn ?_; refine And.intro (by kernel_rfl) ?_; try simp only [thenA_n]) | (first | refine wBlock ?_ | refine wScope ?_) | ((first | refine wRet ?_ | refine wExit ?_ | refine wSkip ?_); try simp) | ((first | refine wLabel ?_ | refine wOn ?_ | refine wQn ?_); try simp only [thenA_n]) | (refine CallE.pure (c) rfl ?_) | (refine CallE.lent (c) rfl ?_) | (refine CallF.pure (c) rfl ?_) | (refine CallF.lent (c) rfl ?_) | (refine CallE.own (c) ?_) | (refine CallH.pure (c) rfl ?_) | (refine CallH.lent (c) rfl ?_) | (refine CallH.own (c) ?_)
  all_goals apply hr
  all_goals simp [Try.f98]
theorem txns_set (l : List Tx) (k : Nat) (t : Tx) : (txns l).set k [I t.e, I t.n, I t.s, I t.x, I t.r, I t.b, SB t.m, .sl 11 (pts t.ps)] = txns (l.set k t) := by simp [txns, Tx.cells, List.map_set]
def tx0 : Tx := ⟨0, 0, 0, 0, 0, 0, [], []⟩
theorem txns_rep (n : Nat) : List.replicate n [I 0, I 0, I 0, I 0, I 0, I 0, SB [], .sl 11 []] = txns (List.replicate n tx0) := by simp [txns, tx0, Tx.cells, pts]
set_option maxHeartbeats 1000000 in
theorem listTx_con (l : List Tx) (hl : l.length ≤ 1000) (hm : ∀ x ∈ l, x.ps.length ≤ 1000 ∧ ∀ p ∈ x.ps, p.c.ms.length ≤ 1000) : RCon 97 [.p (.sl 8 (txns l)), .p (.v (.func (.func 98) #[] #[]))] 58 8 (txns l) := by
  by_cases h0 : l.length = 0
  · obtain rfl := List.length_eq_zero_iff.1 h0
    refine wBodyR Try.tab Try.mixed Try.func97 rfl rfl Try.ntmps97 rfl (by simp) (by simp) fun Q hr hn => ?_
    repeat' first | (refine wRetG [.row 4 58 8] ?_) | (refine hK _ ?_; clear hK) | (refine hK _ _ ?_; clear hK) | (clear hK; refine hK _ ?_; clear hK) | (clear hK; clear hK; refine hK _ ?_; clear hK) | (clear hK; clear hK; clear hK; refine hK _ ?_; clear hK) | (clear hK; clear hK; clear hK; clear hK; refine hK _ ?_; clear hK) | (refine wSeq fun K hK => ?_) | ((first | refine wReg ?_ | refine wDrwQ rfl (by kernel_rfl) ?_ | refine wDrwI ?_ | refine wDrw (by kernel_rfl) ?_); simp only [List.map_cons, List.map_nil, strip]) | ((first | refine wIs fun K hK => ?_ | refine wOs fun K hK => ?_ | refine wQs fun K hK => ?_ | refine CallK_plain ?_ | refine CallQ_plain ?_ | refine CallR_plain ?_ | refine wCond ?_); simp [txns]) | (refine wIn ?_; refine And.intro (by kernel_rfl) ?_; try simp only [thenA_n]) | (first | refine wBlock ?_ | refine wScope ?_) | ((first | refine wRet ?_ | refine wExit ?_ | refine wSkip ?_); try simp) | ((first | refine wLabel ?_ | refine wOn ?_ | refine wQn ?_); try simp only [thenA_n])
    all_goals refine hr _ 4 (by simp) (by simp [txns]) (by omega)
  have h0' : ¬ (l.length : Int) = 0 := by omega
  refine wBodyR Try.tab Try.mixed Try.func97 rfl rfl Try.ntmps97 rfl (by simp) (by simp) fun Q hr hn => ?_
  repeat' first | (rw [if_pos ⟨by omega, by omega⟩]) | (refine hK _ ?_; clear hK) | (refine hK _ _ ?_; clear hK) | (clear hK; refine hK _ ?_; clear hK) | (clear hK; clear hK; refine hK _ ?_; clear hK) | (clear hK; clear hK; clear hK; refine hK _ ?_; clear hK) | (clear hK; clear hK; clear hK; clear hK; refine hK _ ?_; clear hK) | (refine wSeq fun K hK => ?_) | ((first | refine wReg ?_ | refine wDrwQ rfl (by kernel_rfl) ?_ | refine wDrwI ?_ | refine wDrw (by kernel_rfl) ?_); simp only [List.map_cons, List.map_nil, strip]) | ((first | refine wIs fun K hK => ?_ | refine wOs fun K hK => ?_ | refine wQs fun K hK => ?_ | refine CallK_plain ?_ | refine CallQ_plain ?_ | refine CallR_plain ?_ | refine wCond ?_); simp [h0, h0', txns_rep]) | (refine wIn ?_; refine And.intro (by kernel_rfl) ?_; try simp only [thenA_n]) | (first | refine wBlock ?_ | refine wScope ?_) | ((first | refine wRet ?_ | refine wExit ?_ | refine wSkip ?_); try simp) | ((first | refine wLabel ?_ | refine wOn ?_ | refine wQn ?_); try simp only [thenA_n])
  refine wLoop (fun N st => ∃ k zs, k + N = l.length ∧ zs.length = l.length ∧ zs.take k = l.take k ∧ st.s 1 = .p (.v (.func (.func 98) #[] #[])) ∧ st.s 5 = .row 13 ∧ st.s 14 = .p (.sl 8 (txns l)) ∧ st.s 15 = .p (I l.length) ∧ st.s 16 = .p (I k) ∧ st.b 13 = some (.row 58 8 (txns zs))) l.length ⟨0, List.replicate l.length tx0, by simp [txns_rep]⟩ fun K N st hL ⟨k, zs, hk, hz, hi, g1, g5, g14, g15, g16, b13⟩ => ?_
  by_cases hlt : k < l.length
  · have hlt' : (k : Int) < l.length := by omega
    have hltz : k < zs.length := by omega
    have hw := wrapS k _ hlt (by omega)
    have he := txns_get hlt
    have c := ownTxn_con l[k] (hm _ (List.getElem_mem hlt)).1 (hm _ (List.getElem_mem hlt)).2
    unfold Tx.cells at c
    have hs := txns_set zs k l[k]
    have hst := set_takeK zs k l[k] hltz
    rw [hi, ← List.take_succ_eq_append_getElem hlt] at hst
    repeat' first | (refine hK _ ?_; clear hK) | (refine hK _ _ ?_; clear hK) | (clear hK; refine hK _ ?_; clear hK) | (clear hK; clear hK; refine hK _ ?_; clear hK) | (clear hK; clear hK; clear hK; refine hK _ ?_; clear hK) | (clear hK; clear hK; clear hK; clear hK; refine hK _ ?_; clear hK) | (refine wSeq fun K hK => ?_) | ((first | refine wReg ?_ | refine wDrwQ rfl (by kernel_rfl) ?_ | refine wDrwI ?_ | refine wDrw (by kernel_rfl) ?_); simp only [List.map_cons, List.map_nil, strip]) | ((first | refine wIs fun K hK => ?_ | refine wOs fun K hK => ?_ | refine wQs fun K hK => ?_ | refine CallK_plain ?_ | refine CallQ_plain ?_ | refine CallR_plain ?_ | refine wCond ?_); simp [g1, g5, g14, g15, g16, b13, hlt, hlt', hltz, hw, he, hs, Tx.cells]) | (refine wIn ?_; refine And.intro (by kernel_rfl) ?_; try simp only [thenA_n]) | (first | refine wBlock ?_ | refine wScope ?_) | ((first | refine wRet ?_ | refine wExit ?_ | refine wSkip ?_); try simp) | ((first | refine wLabel ?_ | refine wOn ?_ | refine wQn ?_); try simp only [thenA_n]) | (refine CallE.pure (c) rfl ?_) | (refine CallE.lent (c) rfl ?_) | (refine CallF.pure (c) rfl ?_) | (refine CallF.lent (c) rfl ?_) | (refine CallE.own (c) ?_) | (refine CallH.pure (c) rfl ?_) | (refine CallH.lent (c) rfl ?_) | (refine CallH.own (c) ?_)
    refine hL _ (N - 1) (by omega) ⟨k + 1, zs.set k l[k], by omega, by simpa using hz, hst, ?_⟩
    simp [g1, g5, g14, g15, g16, b13, hw, hs]
  · have hlt' : ¬ (k : Int) < l.length := by omega
    rw [List.take_of_length_le (by omega), List.take_of_length_le (by omega)] at hi
    subst hi
    repeat' first | (refine hK _ ?_; clear hK) | (refine hK _ _ ?_; clear hK) | (clear hK; refine hK _ ?_; clear hK) | (clear hK; clear hK; refine hK _ ?_; clear hK) | (clear hK; clear hK; clear hK; refine hK _ ?_; clear hK) | (clear hK; clear hK; clear hK; clear hK; refine hK _ ?_; clear hK) | (refine wSeq fun K hK => ?_) | ((first | refine wReg ?_ | refine wDrwQ rfl (by kernel_rfl) ?_ | refine wDrwI ?_ | refine wDrw (by kernel_rfl) ?_); simp only [List.map_cons, List.map_nil, strip]) | ((first | refine wIs fun K hK => ?_ | refine wOs fun K hK => ?_ | refine wQs fun K hK => ?_ | refine CallK_plain ?_ | refine CallQ_plain ?_ | refine CallR_plain ?_ | refine wCond ?_); simp [g1, g5, g14, g15, g16, b13, hlt, hlt']) | (refine wIn ?_; refine And.intro (by kernel_rfl) ?_; try simp only [thenA_n]) | (first | refine wBlock ?_ | refine wScope ?_) | ((first | refine wRet ?_ | refine wExit ?_ | refine wSkip ?_); try simp) | ((first | refine wLabel ?_ | refine wOn ?_ | refine wQn ?_); try simp only [thenA_n])
    all_goals refine hr _ 13 (by simp [g5]) (by simp [b13]) (by omega)
theorem ownTxns_con (l : List Tx) (hl : l.length ≤ 1000) (hm : ∀ x ∈ l, x.ps.length ≤ 1000 ∧ ∀ p ∈ x.ps, p.c.ms.length ≤ 1000) : RCon 85 [.p (.sl 8 (txns l))] 58 8 (txns l) := by
  have c := listTx_con l hl hm
  refine wBodyR Try.tab Try.mixed Try.func85 rfl rfl Try.ntmps85 rfl (by simp) (by simp) fun Q hr hn => ?_
  repeat' first | (refine CallE.pure (c) rfl ?_) | (refine CallE.lent (c) rfl ?_) | (refine CallF.pure (c) rfl ?_) | (refine CallF.lent (c) rfl ?_) | (refine CallE.own (c) ?_) | (refine CallH.pure (c) rfl ?_) | (refine CallH.lent (c) rfl ?_) | (refine CallH.own (c) ?_) | (refine hK _ ?_; clear hK) | (refine hK _ _ ?_; clear hK) | (clear hK; refine hK _ ?_; clear hK) | (clear hK; clear hK; refine hK _ ?_; clear hK) | (clear hK; clear hK; clear hK; refine hK _ ?_; clear hK) | (clear hK; clear hK; clear hK; clear hK; refine hK _ ?_; clear hK) | (refine wSeq fun K hK => ?_) | ((first | refine wReg ?_ | refine wDrwQ rfl (by kernel_rfl) ?_ | refine wDrwI ?_ | refine wDrw (by kernel_rfl) ?_); simp only [List.map_cons, List.map_nil, strip]) | ((first | refine wIs fun K hK => ?_ | refine wOs fun K hK => ?_ | refine wQs fun K hK => ?_ | refine CallK_plain ?_ | refine CallQ_plain ?_ | refine CallR_plain ?_ | refine wCond ?_); simp) | (refine wIn ?_; refine And.intro (by kernel_rfl) ?_; try simp only [thenA_n]) | (first | refine wBlock ?_ | refine wScope ?_) | ((first | refine wRet ?_ | refine wExit ?_ | refine wSkip ?_); try simp) | ((first | refine wLabel ?_ | refine wOn ?_ | refine wQn ?_); try simp only [thenA_n])
  all_goals refine hr _ 4 (by simp) (by simp) (by omega)
/- Which configs may be, who votes, who is found: the program's and the document's. -/
def ranged (c : Cf) : Prop := (1 ≤ c.kind ∧ c.kind ≤ 3) ∧ (0 ≤ c.ep ∧ c.ep ≤ 1099511627776) ∧ (0 ≤ c.n ∧ c.n ≤ 1099511627776)
instance (c : Cf) : Decidable (ranged c) := by unfold ranged; infer_instance
/- The document's Check, and who votes, who is found. -/
/- By heads and by weight. -/
def tot (f : Mb → Int) (p : Mb → Bool) : List Mb → Int
  | [] => 0
  | m :: l => (if m.r = 1 ∧ p m = true then f m else 0) + tot f p l
def one (_ : Mb) : Int := 1
/- By groups. -/
def bx (z : List Int) : List V := z.map fun n => .p (I n)
@[simp] theorem bx_len (z : List Int) : (bx z).length = z.length := by simp [bx]
@[simp] theorem bx_get (z : List Int) (k : Nat) (h : k < (bx z).length) : (bx z)[k] = .p (I (z[k]'(by simpa using h))) := by simp [bx]
@[simp] theorem bx_scr (z : List Int) (n : Nat) : (bx z).map (scr0 n) = bx z := by
  unfold bx; rw [List.map_map]; rfl
@[simp] theorem bx_sub (z : List Int) (n : Nat) (q : PV) : (bx z).map (sub0 n q) = bx z := by
  unfold bx; rw [List.map_map]; rfl
def ixs (z : List Int) : List PV := z.map fun n => I n
@[simp] theorem ixs_len (z : List Int) : (ixs z).length = z.length := by simp [ixs]
@[simp] theorem ixs_get (z : List Int) (k : Nat) (h : k < (ixs z).length) : (ixs z)[k] = I (z[k]'(by simpa using h)) := by simp [ixs]
@[simp] theorem toPs_bx : ∀ z : List Int, toPs (bx z) = some (ixs z)
  | [] => rfl
  | a :: z => by
    show (match toP (.p (I a)), toPs (bx z) with | some p, some r => some (p :: r) | _, _ => none) = _
    rw [toPs_bx z]; rfl
def inG (p : Mb → Bool) (g : Nat) (m : Mb) : Bool := decide (m.g = g) && p m
def gs (p : Mb → Bool) (l : List Mb) : List Int := (List.range 8).map fun g => tot Mb.w (inG p g) l
@[simp] theorem gs_len (p : Mb → Bool) (l : List Mb) : (gs p l).length = 8 := by simp [gs]
@[simp] theorem gs_get (p : Mb → Bool) (l : List Mb) (g : Nat) (h : g < (gs p l).length) : (gs p l)[g] = tot Mb.w (inG p g) l := by simp [gs]
/- Whether a set is a quorum: the program's answer and the document's. -/
/- Several configs; what is too far; any two quorums meet. -/
def mx (n : Int) : List (List Int) → Int
  | [] => n
  | s :: l => mx (if n < s.length then s.length else n) l
def lists (l : List (List Int)) : List (List PV) := l.map fun s => [.sl 1 (ints s)]
@[simp] theorem lists_len (l : List (List Int)) : (lists l).length = l.length := by simp [lists]
@[simp] theorem lists_getElem (l : List (List Int)) (k : Nat) (h : k < (lists l).length) : (lists l)[k] = [.sl 1 (ints (l[k]'(by simpa using h)))] := by simp [lists]
def cfs (l : List Cf) : List (List PV) := l.map Cf.cells
@[simp] theorem cfs_len (l : List Cf) : (cfs l).length = l.length := by simp [cfs]
@[simp] theorem cfs_getElem (l : List Cf) (k : Nat) (h : k < (cfs l).length) : (cfs l)[k] = [I (l[k]'(by simpa using h)).ep, I (l[k]'(by simpa using h)).n, I (l[k]'(by simpa using h)).kind, .sl 4 (mbs (l[k]'(by simpa using h)).ms)] := by simp [cfs, Cf.cells]
/- Histories: the configs that are needed, by the program. -/
structure NS where
  (was now : Cf)
  (fe fn : Int)
  (ch : Bool)
/-- What a history must be for the calls to do with it. -/
structure OkH (h : Hy) : Prop where
  ns : h.im.ns.length ≤ 1000
  ss : h.im.ss.length ≤ 1000
  c : h.im.c.ms.length ≤ 1000
  lg : h.lg.length ≤ 1000
  ps : ∀ t ∈ h.lg, t.ps.length ≤ 1000 ∧ ∀ p ∈ t.ps, p.c.ms.length ≤ 1000
  tot : (h.lg.map fun t => t.ps.length).sum ≤ 100000
theorem base_con (h : Hy) : ACon Try.prog 60 [.p (.agg h.cells)] (.p (.agg [I h.im.ae, I h.im.an])) := by
  unfold Hy.cells
  refine wBody Try.tab Try.mixed Try.func60 rfl rfl Try.ntmps60 (by simp) (by simp) fun Q hr hn => ?_
  repeat' first | (refine hK _ ?_; clear hK) | (refine hK _ _ ?_; clear hK) | (clear hK; refine hK _ ?_; clear hK) | (clear hK; clear hK; refine hK _ ?_; clear hK) | (clear hK; clear hK; clear hK; refine hK _ ?_; clear hK) | (clear hK; clear hK; clear hK; clear hK; refine hK _ ?_; clear hK) | (refine wSeq fun K hK => ?_) | ((first | refine wReg ?_ | refine wDrwQ rfl (by kernel_rfl) ?_ | refine wDrwI ?_ | refine wDrw (by kernel_rfl) ?_); simp only [List.map_cons, List.map_nil, strip]) | ((first | refine wIs fun K hK => ?_ | refine wOs fun K hK => ?_ | refine wQs fun K hK => ?_ | refine CallK_plain ?_ | refine CallQ_plain ?_ | refine CallR_plain ?_ | refine wCond ?_); simp) | (refine wIn ?_; refine And.intro (by kernel_rfl) ?_; try simp only [thenA_n]) | (first | refine wBlock ?_ | refine wScope ?_) | ((first | refine wRet ?_ | refine wExit ?_ | refine wSkip ?_); try simp) | ((first | refine wLabel ?_ | refine wOn ?_ | refine wQn ?_); try simp only [thenA_n])
  all_goals apply hr
  all_goals simp [Try.f60]
end Go.Proofs.Yteicecbjahhjmaa
/- slices.Backward of places: what it hands back, and what that does. -/
namespace Go.Proofs.Yteicecbjahhjmaa
set_option linter.unusedSimpArgs false
set_option linter.unusedVariables false
open Go Go.Av Go.RowKit
attribute [local go_sem] Oper.semAt_some
end Go.Proofs.Yteicecbjahhjmaa
