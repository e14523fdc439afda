/- Texts that the proof needs: ZC ZA HF QB QC QD QE QF QG XA HH XB. -/
import Derived.Test.YtegoihognjpcjaaP22HistoryOne
import Derived.Test.YtegoihognjpcjaaP14HistoryOne
import Derived.Test.YtegoihognjpcjaaP18HistoryOne
import Derived.Test.YtegoihognjpcjaaP16HistoryOne
import Derived.Test.YtegoihognjpcjaaP19HistoryOne
import Derived.WalkKit
/- zxid.Cmp, and the document's. -/
namespace Go.Proofs.Ytegoihognjpcjaa
set_option linter.unusedSimpArgs false
set_option linter.unusedVariables false
open Go Go.Av
attribute [local simp] Try.T1 Try.T2 Try.T3 Try.T4 Try.T5 Try.T9 Try.T12 Try.T15 Try.T16 Try.T17 Try.T21 Try.T22 Try.T23 Try.T25 Try.T26 Try.T28 Try.T30 Try.T31 Try.T33 Try.T34 Try.T35 Try.T36 Try.T37 Try.T38 Try.T40 Try.T42 Try.T43 Try.T44 Try.T45 Try.T46 Try.T48 Try.T49 Try.T50 Try.T51 Try.T52 Try.T53 Try.T54 Try.T55 Try.T56 Try.T57 Try.T58 Try.T59 Try.T60 Try.T61 Try.T62 Try.T64 Try.T66 Try.T67 Try.T68 Try.T69 Try.T70 Try.T71 Try.T72 Try.T73 Try.T74 Try.T75 Try.T76 Try.T77 Try.T78 Try.T80 Try.T81 Try.T82 Try.T83 Try.T84 Try.T85 Try.T86 Try.T88 Try.T89 Try.T90 Try.T91 Try.T92 Try.T93 Try.T94 Try.T95 Try.T96 Try.T97 Try.T98 Try.T99 Try.T100 Try.T101 Try.T102 Try.T103 Try.T104 Try.T105 Try.T106 Try.T107 Try.T108 Try.T109 Try.T110 Try.T111 Try.T112 Try.T113 Try.T116 Try.T119 Try.T120 Try.T123 Try.T124
attribute [local irreducible] Go.Av.CallK Go.Av.CallE Go.Av.CallQ Go.Av.CallF Go.Av.CallR Go.Av.CallH Go.Av.Con
theorem isNaN_con (n : Int) : ACon Try.prog 67 [.p (I n)] (.p (B false)) := by
  refine wBody Try.tab Try.mixed Try.func67 rfl rfl Try.ntmps67 (by simp) (by simp) fun Q hr hn => ?_
  repeat' first | (refine hK _ ?_; clear hK) | (refine hK _ _ ?_; clear hK) | (clear hK; refine hK _ ?_; clear hK) | (clear hK; clear hK; refine hK _ ?_; clear hK) | (clear hK; clear hK; clear hK; refine hK _ ?_; clear hK) | (clear hK; clear hK; clear hK; clear hK; refine hK _ ?_; clear hK) | (refine wSeq fun K hK => ?_) | ((first | refine wReg ?_ | refine wDrwQ rfl (by kernel_rfl) ?_ | refine wDrwI ?_ | refine wDrw (by kernel_rfl) ?_); simp only [List.map_cons, List.map_nil, strip]) | ((first | refine wIs fun K hK => ?_ | refine wOs fun K hK => ?_ | refine wQs fun K hK => ?_ | refine CallK_plain ?_ | refine CallQ_plain ?_ | refine CallR_plain ?_ | refine wCond ?_); simp) | (refine wIn ?_; refine And.intro (by kernel_rfl) ?_; try simp only [thenA_n]) | (first | refine wBlock ?_ | refine wScope ?_) | ((first | refine wRet ?_ | refine wExit ?_ | refine wSkip ?_); try simp) | ((first | refine wLabel ?_ | refine wOn ?_ | refine wQn ?_); try simp only [thenA_n])
  apply hr
  simp [Try.f67]
def cmpInt (a b : Int) : Int := if a < b then -1 else if b < a then 1 else 0
theorem compare_con (a b : Int) : ACon Try.prog 56 [.p (I a), .p (I b)] (.p (I (cmpInt a b))) := by
  refine wBody Try.tab Try.mixed Try.func56 rfl rfl Try.ntmps56 (by simp) (by simp) fun Q hr hn => ?_
  repeat' first | (refine hK _ ?_; clear hK) | (refine hK _ _ ?_; clear hK) | (clear hK; refine hK _ ?_; clear hK) | (clear hK; clear hK; refine hK _ ?_; clear hK) | (clear hK; clear hK; clear hK; refine hK _ ?_; clear hK) | (clear hK; clear hK; clear hK; clear hK; refine hK _ ?_; clear hK) | (refine wSeq fun K hK => ?_) | ((first | refine wReg ?_ | refine wDrwQ rfl (by kernel_rfl) ?_ | refine wDrwI ?_ | refine wDrw (by kernel_rfl) ?_); simp only [List.map_cons, List.map_nil, strip]) | ((first | refine wIs fun K hK => ?_ | refine wOs fun K hK => ?_ | refine wQs fun K hK => ?_ | refine CallK_plain ?_ | refine CallQ_plain ?_ | refine CallR_plain ?_ | refine wCond ?_); simp) | (refine wIn ?_; refine And.intro (by kernel_rfl) ?_; try simp only [thenA_n]) | (first | refine wBlock ?_ | refine wScope ?_) | ((first | refine wRet ?_ | refine wExit ?_ | refine wSkip ?_); try simp) | ((first | refine wLabel ?_ | refine wOn ?_ | refine wQn ?_); try simp only [thenA_n]) | (refine CallE.pure (isNaN_con _) rfl ?_) | (refine CallE.lent (isNaN_con _) rfl ?_) | (refine CallF.pure (isNaN_con _) rfl ?_) | (refine CallF.lent (isNaN_con _) rfl ?_) | (refine CallE.own (isNaN_con _) ?_) | (refine CallH.pure (isNaN_con _) rfl ?_) | (refine CallH.lent (isNaN_con _) rfl ?_) | (refine CallH.own (isNaN_con _) ?_) | (refine And.intro (fun _ => ?_) (fun _ => ?_))
  all_goals (apply hr; simp [Try.f56, cmpInt]; try omega)
def orL : List Int → Int
  | [] => 0
  | a :: l => if a = 0 then orL l else a
theorem or_con (l : List Int) : ACon Try.prog 55 [.p (.sl 1 (l.map fun n => [I n]))] (.p (I (orL l))) := by
  refine ACon.len ⟨Try.f55, Try.func55, rfl, rfl⟩ 0 _ _ rfl fun hlen => ?_
  simp only [List.length_map] at hlen
  refine wBody Try.tab Try.mixed Try.func55 rfl rfl Try.ntmps55 (by simp) (by simp) fun Q hr hn => ?_
  repeat' first | (refine hK _ ?_; clear hK) | (refine hK _ _ ?_; clear hK) | (clear hK; refine hK _ ?_; clear hK) | (clear hK; clear hK; refine hK _ ?_; clear hK) | (clear hK; clear hK; clear hK; refine hK _ ?_; clear hK) | (clear hK; clear hK; clear hK; clear hK; refine hK _ ?_; clear hK) | (refine wSeq fun K hK => ?_) | ((first | refine wReg ?_ | refine wDrwQ rfl (by kernel_rfl) ?_ | refine wDrwI ?_ | refine wDrw (by kernel_rfl) ?_); simp only [List.map_cons, List.map_nil, strip]) | ((first | refine wIs fun K hK => ?_ | refine wOs fun K hK => ?_ | refine wQs fun K hK => ?_ | refine CallK_plain ?_ | refine CallQ_plain ?_ | refine CallR_plain ?_ | refine wCond ?_); simp) | (refine wIn ?_; refine And.intro (by kernel_rfl) ?_; try simp only [thenA_n]) | (first | refine wBlock ?_ | refine wScope ?_) | ((first | refine wRet ?_ | refine wExit ?_ | refine wSkip ?_); try simp) | ((first | refine wLabel ?_ | refine wOn ?_ | refine wQn ?_); try simp only [thenA_n])
  refine wLoop (fun n st => ∃ k, k + n = l.length ∧ st.s 6 = .p (.sl 1 (l.map fun n => [I n])) ∧ st.s 7 = .p (I l.length) ∧ st.s 8 = .p (I k) ∧ st.s 3 = .p (I 0) ∧ orL (l.drop k) = orL l) l.length ⟨0, by simp⟩ fun K n st hL ⟨k, hk, h6, h7, h8, h3, hor⟩ => ?_
  by_cases hlt : k < l.length
  · have hw := wrapS k _ hlt hlen
    have hd : l.drop k = l[k] :: l.drop (k + 1) := List.drop_eq_getElem_cons hlt
    have he : l[k]? = some l[k] := List.getElem?_eq_getElem hlt
    rw [hd, orL] at hor
    repeat' first | (refine hK _ ?_; clear hK) | (refine hK _ _ ?_; clear hK) | (clear hK; refine hK _ ?_; clear hK) | (clear hK; clear hK; refine hK _ ?_; clear hK) | (clear hK; clear hK; clear hK; refine hK _ ?_; clear hK) | (clear hK; clear hK; clear hK; clear hK; refine hK _ ?_; clear hK) | (refine wSeq fun K hK => ?_) | ((first | refine wReg ?_ | refine wDrwQ rfl (by kernel_rfl) ?_ | refine wDrwI ?_ | refine wDrw (by kernel_rfl) ?_); simp only [List.map_cons, List.map_nil, strip]) | ((first | refine wIs fun K hK => ?_ | refine wOs fun K hK => ?_ | refine wQs fun K hK => ?_ | refine CallK_plain ?_ | refine CallQ_plain ?_ | refine CallR_plain ?_ | refine wCond ?_); simp [h6, h7, h8, h3, hlt, hw, he]) | (refine wIn ?_; refine And.intro (by kernel_rfl) ?_; try simp only [thenA_n]) | (first | refine wBlock ?_ | refine wScope ?_) | ((first | refine wRet ?_ | refine wExit ?_ | refine wSkip ?_); try simp) | ((first | refine wLabel ?_ | refine wOn ?_ | refine wQn ?_); try simp only [thenA_n]) | (refine And.intro (fun hc => ?_) (fun hc => ?_))
    · apply hr
      simp [Try.f55]
      rw [if_neg hc] at hor; exact hor.symm
    · refine hL _ (n - 1) (by omega) ⟨k + 1, by omega, ?_⟩
      rw [if_pos hc] at hor
      simp [h6, h7, h3, hw, hor]
  · have hd : l.drop k = [] := List.drop_of_length_le (by omega)
    rw [hd] at hor
    repeat' first | (refine hK _ ?_; clear hK) | (refine hK _ _ ?_; clear hK) | (clear hK; refine hK _ ?_; clear hK) | (clear hK; clear hK; refine hK _ ?_; clear hK) | (clear hK; clear hK; clear hK; refine hK _ ?_; clear hK) | (clear hK; clear hK; clear hK; clear hK; refine hK _ ?_; clear hK) | (refine wSeq fun K hK => ?_) | ((first | refine wReg ?_ | refine wDrwQ rfl (by kernel_rfl) ?_ | refine wDrwI ?_ | refine wDrw (by kernel_rfl) ?_); simp only [List.map_cons, List.map_nil, strip]) | ((first | refine wIs fun K hK => ?_ | refine wOs fun K hK => ?_ | refine wQs fun K hK => ?_ | refine CallK_plain ?_ | refine CallQ_plain ?_ | refine CallR_plain ?_ | refine wCond ?_); simp [h6, h7, h8, h3, hlt]) | (refine wIn ?_; refine And.intro (by kernel_rfl) ?_; try simp only [thenA_n]) | (first | refine wBlock ?_ | refine wScope ?_) | ((first | refine wRet ?_ | refine wExit ?_ | refine wSkip ?_); try simp) | ((first | refine wLabel ?_ | refine wOn ?_ | refine wQn ?_); try simp only [thenA_n])
    apply hr
    simp [Try.f55, h3, ← hor, orL]
def zcmp (a b c d : Int) : Int := if a = c ∧ b = d then 0 else orL [cmpInt a c, cmpInt b d]
theorem cmp_con (a b c d : Int) : ACon Try.prog 43 [.p (.agg [I a, I b]), .p (.agg [I c, I d])] (.p (I (zcmp a b c d))) := by
  have hor := or_con [cmpInt a c, cmpInt b d]
  simp only [List.map_cons, List.map_nil] at hor
  by_cases hab : a = c ∧ b = d
  · obtain ⟨rfl, rfl⟩ := hab
    refine wBody Try.tab Try.mixed Try.func43 rfl rfl Try.ntmps43 (by simp) (by simp) fun Q hr hn => ?_
    repeat' first | (refine hK _ ?_; clear hK) | (refine hK _ _ ?_; clear hK) | (clear hK; refine hK _ ?_; clear hK) | (clear hK; clear hK; refine hK _ ?_; clear hK) | (clear hK; clear hK; clear hK; refine hK _ ?_; clear hK) | (clear hK; clear hK; clear hK; clear hK; refine hK _ ?_; clear hK) | (refine wSeq fun K hK => ?_) | ((first | refine wReg ?_ | refine wDrwQ rfl (by kernel_rfl) ?_ | refine wDrwI ?_ | refine wDrw (by kernel_rfl) ?_); simp only [List.map_cons, List.map_nil, strip]) | ((first | refine wIs fun K hK => ?_ | refine wOs fun K hK => ?_ | refine wQs fun K hK => ?_ | refine CallK_plain ?_ | refine CallQ_plain ?_ | refine CallR_plain ?_ | refine wCond ?_); simp) | (refine wIn ?_; refine And.intro (by kernel_rfl) ?_; try simp only [thenA_n]) | (first | refine wBlock ?_ | refine wScope ?_) | ((first | refine wRet ?_ | refine wExit ?_ | refine wSkip ?_); try simp) | ((first | refine wLabel ?_ | refine wOn ?_ | refine wQn ?_); try simp only [thenA_n])
    apply hr
    simp [Try.f43, zcmp]
  · refine wBody Try.tab Try.mixed Try.func43 rfl rfl Try.ntmps43 (by simp) (by simp) fun Q hr hn => ?_
    repeat' first | (refine hK _ ?_; clear hK) | (refine hK _ _ ?_; clear hK) | (clear hK; refine hK _ ?_; clear hK) | (clear hK; clear hK; refine hK _ ?_; clear hK) | (clear hK; clear hK; clear hK; refine hK _ ?_; clear hK) | (clear hK; clear hK; clear hK; clear hK; refine hK _ ?_; clear hK) | (refine wSeq fun K hK => ?_) | ((first | refine wReg ?_ | refine wDrwQ rfl (by kernel_rfl) ?_ | refine wDrwI ?_ | refine wDrw (by kernel_rfl) ?_); simp only [List.map_cons, List.map_nil, strip]) | ((first | refine wIs fun K hK => ?_ | refine wOs fun K hK => ?_ | refine wQs fun K hK => ?_ | refine CallK_plain ?_ | refine CallQ_plain ?_ | refine CallR_plain ?_ | refine wCond ?_); simp [hab]) | (refine wIn ?_; refine And.intro (by kernel_rfl) ?_; try simp only [thenA_n]) | (first | refine wBlock ?_ | refine wScope ?_) | ((first | refine wRet ?_ | refine wExit ?_ | refine wSkip ?_); try simp) | ((first | refine wLabel ?_ | refine wOn ?_ | refine wQn ?_); try simp only [thenA_n]) | (refine CallE.pure (compare_con _ _) rfl ?_) | (refine CallE.lent (compare_con _ _) rfl ?_) | (refine CallF.pure (compare_con _ _) rfl ?_) | (refine CallF.lent (compare_con _ _) rfl ?_) | (refine CallE.own (compare_con _ _) ?_) | (refine CallH.pure (compare_con _ _) rfl ?_) | (refine CallH.lent (compare_con _ _) rfl ?_) | (refine CallH.own (compare_con _ _) ?_) | (refine CallE.pure (hor) rfl ?_) | (refine CallE.lent (hor) rfl ?_) | (refine CallF.pure (hor) rfl ?_) | (refine CallF.lent (hor) rfl ?_) | (refine CallE.own (hor) ?_) | (refine CallH.pure (hor) rfl ?_) | (refine CallH.lent (hor) rfl ?_) | (refine CallH.own (hor) ?_) | (intro _)
    all_goals first | exact hab | skip
    apply hr
    simp [Try.f43, zcmp, hab]
theorem zcmp_pos (a b c d : Int) : 0 < zcmp a b c d ↔ c < a ∨ (c = a ∧ d < b) := by
  unfold zcmp cmpInt
  simp only [orL]
  repeat' split
  all_goals omega
theorem zcmp_spec (a b c d : Int) : zcmp a b c d = if a = c ∧ b = d then 0 else if a < c ∨ (a = c ∧ b < d) then -1 else 1 := by
  unfold zcmp cmpInt
  simp only [orL]
  repeat' split
  all_goals omega
theorem cmp02_con (a b c d : Int) : ACon Try.prog 29 [.p (.agg [I a, I b]), .p (.agg [I c, I d])] (.p (I (zcmp a b c d))) := by
  rw [zcmp_spec]
  by_cases hab : a = c ∧ b = d
  · rw [if_pos hab]
    obtain ⟨rfl, rfl⟩ := hab
    refine wBody Try.tab Try.mixed Try.func29 rfl rfl Try.ntmps29 (by simp) (by simp) fun Q hr hn => ?_
    repeat' first | (refine hK _ ?_; clear hK) | (refine hK _ _ ?_; clear hK) | (clear hK; refine hK _ ?_; clear hK) | (clear hK; clear hK; refine hK _ ?_; clear hK) | (clear hK; clear hK; clear hK; refine hK _ ?_; clear hK) | (clear hK; clear hK; clear hK; clear hK; refine hK _ ?_; clear hK) | (refine wSeq fun K hK => ?_) | ((first | refine wReg ?_ | refine wDrwQ rfl (by kernel_rfl) ?_ | refine wDrwI ?_ | refine wDrw (by kernel_rfl) ?_); simp only [List.map_cons, List.map_nil, strip]) | ((first | refine wIs fun K hK => ?_ | refine wOs fun K hK => ?_ | refine wQs fun K hK => ?_ | refine CallK_plain ?_ | refine CallQ_plain ?_ | refine CallR_plain ?_ | refine wCond ?_); simp) | (refine wIn ?_; refine And.intro (by kernel_rfl) ?_; try simp only [thenA_n]) | (first | refine wBlock ?_ | refine wScope ?_) | ((first | refine wRet ?_ | refine wExit ?_ | refine wSkip ?_); try simp) | ((first | refine wLabel ?_ | refine wOn ?_ | refine wQn ?_); try simp only [thenA_n])
    all_goals apply hr
    all_goals simp [Try.f29]
  · rw [if_neg hab]
    by_cases h1 : a < c
    · have h2 : ¬ a = c := by omega
      refine wBody Try.tab Try.mixed Try.func29 rfl rfl Try.ntmps29 (by simp) (by simp) fun Q hr hn => ?_
      repeat' first | (refine hK _ ?_; clear hK) | (refine hK _ _ ?_; clear hK) | (clear hK; refine hK _ ?_; clear hK) | (clear hK; clear hK; refine hK _ ?_; clear hK) | (clear hK; clear hK; clear hK; refine hK _ ?_; clear hK) | (clear hK; clear hK; clear hK; clear hK; refine hK _ ?_; clear hK) | (refine wSeq fun K hK => ?_) | ((first | refine wReg ?_ | refine wDrwQ rfl (by kernel_rfl) ?_ | refine wDrwI ?_ | refine wDrw (by kernel_rfl) ?_); simp only [List.map_cons, List.map_nil, strip]) | ((first | refine wIs fun K hK => ?_ | refine wOs fun K hK => ?_ | refine wQs fun K hK => ?_ | refine CallK_plain ?_ | refine CallQ_plain ?_ | refine CallR_plain ?_ | refine wCond ?_); simp [hab, h1, h2]) | (refine wIn ?_; refine And.intro (by kernel_rfl) ?_; try simp only [thenA_n]) | (first | refine wBlock ?_ | refine wScope ?_) | ((first | refine wRet ?_ | refine wExit ?_ | refine wSkip ?_); try simp) | ((first | refine wLabel ?_ | refine wOn ?_ | refine wQn ?_); try simp only [thenA_n]) | (intro _)
      all_goals first | exact hab | skip
      all_goals apply hr
      all_goals simp [Try.f29, h1]
    · by_cases h2 : a = c
      · by_cases h3 : b < d
        · have h4 : ¬ b = d := by omega
          refine wBody Try.tab Try.mixed Try.func29 rfl rfl Try.ntmps29 (by simp) (by simp) fun Q hr hn => ?_
          repeat' first | (refine hK _ ?_; clear hK) | (refine hK _ _ ?_; clear hK) | (clear hK; refine hK _ ?_; clear hK) | (clear hK; clear hK; refine hK _ ?_; clear hK) | (clear hK; clear hK; clear hK; refine hK _ ?_; clear hK) | (clear hK; clear hK; clear hK; clear hK; refine hK _ ?_; clear hK) | (refine wSeq fun K hK => ?_) | ((first | refine wReg ?_ | refine wDrwQ rfl (by kernel_rfl) ?_ | refine wDrwI ?_ | refine wDrw (by kernel_rfl) ?_); simp only [List.map_cons, List.map_nil, strip]) | ((first | refine wIs fun K hK => ?_ | refine wOs fun K hK => ?_ | refine wQs fun K hK => ?_ | refine CallK_plain ?_ | refine CallQ_plain ?_ | refine CallR_plain ?_ | refine wCond ?_); simp [hab, h1, h2, h3, h4]) | (refine wIn ?_; refine And.intro (by kernel_rfl) ?_; try simp only [thenA_n]) | (first | refine wBlock ?_ | refine wScope ?_) | ((first | refine wRet ?_ | refine wExit ?_ | refine wSkip ?_); try simp) | ((first | refine wLabel ?_ | refine wOn ?_ | refine wQn ?_); try simp only [thenA_n]) | (intro _)
          all_goals first | exact hab | skip
          all_goals apply hr
          all_goals simp [Try.f29, h1, h2, h3]
        · have h4 : ¬ b = d := fun h => hab ⟨h2, h⟩
          refine wBody Try.tab Try.mixed Try.func29 rfl rfl Try.ntmps29 (by simp) (by simp) fun Q hr hn => ?_
          repeat' first | (refine hK _ ?_; clear hK) | (refine hK _ _ ?_; clear hK) | (clear hK; refine hK _ ?_; clear hK) | (clear hK; clear hK; refine hK _ ?_; clear hK) | (clear hK; clear hK; clear hK; refine hK _ ?_; clear hK) | (clear hK; clear hK; clear hK; clear hK; refine hK _ ?_; clear hK) | (refine wSeq fun K hK => ?_) | ((first | refine wReg ?_ | refine wDrwQ rfl (by kernel_rfl) ?_ | refine wDrwI ?_ | refine wDrw (by kernel_rfl) ?_); simp only [List.map_cons, List.map_nil, strip]) | ((first | refine wIs fun K hK => ?_ | refine wOs fun K hK => ?_ | refine wQs fun K hK => ?_ | refine CallK_plain ?_ | refine CallQ_plain ?_ | refine CallR_plain ?_ | refine wCond ?_); simp [hab, h1, h2, h3, h4]) | (refine wIn ?_; refine And.intro (by kernel_rfl) ?_; try simp only [thenA_n]) | (first | refine wBlock ?_ | refine wScope ?_) | ((first | refine wRet ?_ | refine wExit ?_ | refine wSkip ?_); try simp) | ((first | refine wLabel ?_ | refine wOn ?_ | refine wQn ?_); try simp only [thenA_n]) | (intro _)
          all_goals first | exact hab | skip
          all_goals apply hr
          all_goals simp [Try.f29, h1, h2, h3]
      · refine wBody Try.tab Try.mixed Try.func29 rfl rfl Try.ntmps29 (by simp) (by simp) fun Q hr hn => ?_
        repeat' first | (refine hK _ ?_; clear hK) | (refine hK _ _ ?_; clear hK) | (clear hK; refine hK _ ?_; clear hK) | (clear hK; clear hK; refine hK _ ?_; clear hK) | (clear hK; clear hK; clear hK; refine hK _ ?_; clear hK) | (clear hK; clear hK; clear hK; clear hK; refine hK _ ?_; clear hK) | (refine wSeq fun K hK => ?_) | ((first | refine wReg ?_ | refine wDrwQ rfl (by kernel_rfl) ?_ | refine wDrwI ?_ | refine wDrw (by kernel_rfl) ?_); simp only [List.map_cons, List.map_nil, strip]) | ((first | refine wIs fun K hK => ?_ | refine wOs fun K hK => ?_ | refine wQs fun K hK => ?_ | refine CallK_plain ?_ | refine CallQ_plain ?_ | refine CallR_plain ?_ | refine wCond ?_); simp [hab, h1, h2]) | (refine wIn ?_; refine And.intro (by kernel_rfl) ?_; try simp only [thenA_n]) | (first | refine wBlock ?_ | refine wScope ?_) | ((first | refine wRet ?_ | refine wExit ?_ | refine wSkip ?_); try simp) | ((first | refine wLabel ?_ | refine wOn ?_ | refine wQn ?_); try simp only [thenA_n]) | (intro _)
        all_goals first | exact hab | skip
        all_goals apply hr
        all_goals simp [Try.f29, h1, h2]
end Go.Proofs.Ytegoihognjpcjaa


/- Layer 2: what comes next, which is last, whose an epoch is; the document's answers. -/
namespace Go.Proofs.Ytegoihognjpcjaa
set_option linter.unusedSimpArgs false
set_option linter.unusedVariables false
open Go Go.Av
attribute [local simp] Try.T1 Try.T2 Try.T3 Try.T4 Try.T5 Try.T9 Try.T12 Try.T15 Try.T16 Try.T17 Try.T21 Try.T22 Try.T23 Try.T25 Try.T26 Try.T28 Try.T30 Try.T31 Try.T33 Try.T34 Try.T35 Try.T36 Try.T37 Try.T38 Try.T40 Try.T42 Try.T43 Try.T44 Try.T45 Try.T46 Try.T48 Try.T49 Try.T50 Try.T51 Try.T52 Try.T53 Try.T54 Try.T55 Try.T56 Try.T57 Try.T58 Try.T59 Try.T60 Try.T61 Try.T62 Try.T64 Try.T66 Try.T67 Try.T68 Try.T69 Try.T70 Try.T71 Try.T72 Try.T73 Try.T74 Try.T75 Try.T76 Try.T77 Try.T78 Try.T80 Try.T81 Try.T82 Try.T83 Try.T84 Try.T85 Try.T86 Try.T88 Try.T89 Try.T90 Try.T91 Try.T92 Try.T93 Try.T94 Try.T95 Try.T96 Try.T97 Try.T98 Try.T99 Try.T100 Try.T101 Try.T102 Try.T103 Try.T104 Try.T105 Try.T106 Try.T107 Try.T108 Try.T109 Try.T110 Try.T111 Try.T112 Try.T113 Try.T116 Try.T119 Try.T120 Try.T123 Try.T124
attribute [local irreducible] Go.Av.CallK Go.Av.CallE Go.Av.CallQ Go.Av.CallF Go.Av.CallR Go.Av.CallH Go.Av.Con
/-- Places. -/
structure Zx where
  (e n : Int)
  deriving DecidableEq
def zxs (l : List Zx) : List (List PV) := l.map fun z => [I z.e, I z.n]
@[simp] theorem zxs_len (l : List Zx) : (zxs l).length = l.length := by simp [zxs]
@[simp] theorem zxs_getE {l : List Zx} {k : Nat} (h : k < (zxs l).length) : (zxs l)[k] = [I (l[k]'(by simpa using h)).e, I (l[k]'(by simpa using h)).n] := by simp [zxs]
def lastZ : List Zx → Zx
  | [] => ⟨0, 0⟩
  | a :: r => r.foldl (fun m x => if 0 < zcmp x.e x.n m.e m.n then x else m) a
end Go.Proofs.Ytegoihognjpcjaa


/- Histories that are not too large. -/
namespace Go.Proofs.Ytegoihognjpcjaa
set_option linter.unusedSimpArgs false
set_option linter.unusedVariables false
open Go Go.Av
attribute [local simp] Try.T1 Try.T2 Try.T3 Try.T4 Try.T5 Try.T9 Try.T12 Try.T15 Try.T16 Try.T17 Try.T21 Try.T22 Try.T23 Try.T25 Try.T26 Try.T28 Try.T30 Try.T31 Try.T33 Try.T34 Try.T35 Try.T36 Try.T37 Try.T38 Try.T40 Try.T42 Try.T43 Try.T44 Try.T45 Try.T46 Try.T48 Try.T49 Try.T50 Try.T51 Try.T52 Try.T53 Try.T54 Try.T55 Try.T56 Try.T57 Try.T58 Try.T59 Try.T60 Try.T61 Try.T62 Try.T64 Try.T66 Try.T67 Try.T68 Try.T69 Try.T70 Try.T71 Try.T72 Try.T73 Try.T74 Try.T75 Try.T76 Try.T77 Try.T78 Try.T80 Try.T81 Try.T82 Try.T83 Try.T84 Try.T85 Try.T86 Try.T88 Try.T89 Try.T90 Try.T91 Try.T92 Try.T93 Try.T94 Try.T95 Try.T96 Try.T97 Try.T98 Try.T99 Try.T100 Try.T101 Try.T102 Try.T103 Try.T104 Try.T105 Try.T106 Try.T107 Try.T108 Try.T109 Try.T110 Try.T111 Try.T112 Try.T113 Try.T116 Try.T119 Try.T120 Try.T123 Try.T124
attribute [local irreducible] Go.Av.CallK Go.Av.CallE Go.Av.CallQ Go.Av.CallF Go.Av.CallR Go.Av.CallH Go.Av.Con
structure Hy where
  (im : Sv)
  (lg : List Tx)
  deriving DecidableEq
def Hy.cells (h : Hy) : List PV := [.sl 5 (zns h.im.ns), .sl 1 (ints h.im.ss), I h.im.nx, I h.im.c.ep, I h.im.c.n, I h.im.c.kind, .sl 4 (mbs h.im.c.ms), I h.im.ae, I h.im.an, .sl 8 (txns h.lg)]
def wT (t : Tx) : Nat := t.ps.length + (t.ps.map fun p => p.c.ms.length).sum
def wH (h : Hy) : Nat := h.im.ns.length + h.im.c.ms.length + h.im.ss.length + (h.lg.map wT).sum
def near16 (h : Hy) : Prop := h.lg.length ≤ 90 ∧ (∀ t ∈ h.lg, t.ps.length ≤ 50) ∧ wH h + h.lg.length ≤ 300
instance (h : Hy) : Decidable (near16 h) := by unfold near16; infer_instance
structure SmallH (h : Hy) : Prop where
  ns : h.im.ns.length ≤ 140737488355328
  ss : h.im.ss.length ≤ 140737488355328
  ms : h.im.c.ms.length ≤ 140737488355328
  ps : ∀ t ∈ h.lg, t.ps.length ≤ 140737488355328 ∧ ∀ p ∈ t.ps, p.c.ms.length ≤ 140737488355328
theorem sum_snoc {α : Type} (f : α → Nat) {l : List α} {k : Nat} (h : k < l.length) : ((l.take (k + 1)).map f).sum = ((l.take k).map f).sum + f l[k] := by
  rw [List.take_succ_eq_append_getElem h, List.map_append, List.sum_append]; simp
theorem wrapN (a b : Nat) (h : a + b ≤ 9223372036854775807) : IntKind.i64.wrap ((a : Int) + (b : Int)) = (a : Int) + (b : Int) := by
  rw [wrap_id] <;> omega
set_option maxHeartbeats 8000000 in
theorem far16_con (h : Hy) (hs : SmallH h) : ACon Try.prog 6 [.p (.agg h.cells)] (.p (B (decide (¬ near16 h)))) := by
  obtain ⟨⟨ns, ss, nx, ⟨ep, n, kind, ms⟩, ae, an⟩, lg⟩ := h
  obtain ⟨h1, h2, h3, h4⟩ := hs
  simp only at h1 h2 h3 h4
  unfold Hy.cells
  refine ACon.lenA ⟨Try.f6, Try.func6, rfl, rfl⟩ 0 9 8 (txns lg) _ rfl rfl fun hlg => ?_
  simp only [txns_len] at hlg
  dsimp only
  have w1 := wrapN ns.length ss.length (by omega)
  have w2 : IntKind.i64.wrap ((ns.length : Int) + (ss.length : Int) + (ms.length : Int)) = ((ns.length + ms.length + ss.length : Nat) : Int) := by rw [wrap_id] <;> omega
  generalize hn0 : ns.length + ms.length + ss.length = n0 at w2
  have hn0' : n0 ≤ 3 * 140737488355328 := by omega
  by_cases q1 : 100 < lg.length
  · have q1' : (100 : Int) < lg.length := by omega
    rw [show decide (¬ near16 ⟨⟨ns, ss, nx, ⟨ep, n, kind, ms⟩, ae, an⟩, lg⟩) = true from decide_eq_true fun h => by have := h.1; simp only at this; omega]
    refine wBody Try.tab Try.mixed Try.func6 rfl rfl Try.ntmps6 (by simp) (by simp) fun Q hr hn => ?_
    repeat' first | (refine hK _ ?_; clear hK) | (refine hK _ _ ?_; clear hK) | (clear hK; refine hK _ ?_; clear hK) | (clear hK; clear hK; refine hK _ ?_; clear hK) | (clear hK; clear hK; clear hK; refine hK _ ?_; clear hK) | (clear hK; clear hK; clear hK; clear hK; refine hK _ ?_; clear hK) | (refine wSeq fun K hK => ?_) | ((first | refine wReg ?_ | refine wDrwQ rfl (by kernel_rfl) ?_ | refine wDrwI ?_ | refine wDrw (by kernel_rfl) ?_); simp only [List.map_cons, List.map_nil, strip]) | ((first | refine wIs fun K hK => ?_ | refine wOs fun K hK => ?_ | refine wQs fun K hK => ?_ | refine CallK_plain ?_ | refine CallQ_plain ?_ | refine CallR_plain ?_ | refine wCond ?_); simp [q1, q1', w1, w2]) | (refine wIn ?_; refine And.intro (by kernel_rfl) ?_; try simp only [thenA_n]) | (first | refine wBlock ?_ | refine wScope ?_) | ((first | refine wRet ?_ | refine wExit ?_ | refine wSkip ?_); try simp) | ((first | refine wLabel ?_ | refine wOn ?_ | refine wQn ?_); try simp only [thenA_n])
    all_goals apply hr
    all_goals simp [Try.f6]
  have q1' : ¬ (100 : Int) < lg.length := by omega
  refine wBody Try.tab Try.mixed Try.func6 rfl rfl Try.ntmps6 (by simp) (by simp) fun Q hr hn => ?_
  repeat' first | (refine hK _ ?_; clear hK) | (refine hK _ _ ?_; clear hK) | (clear hK; refine hK _ ?_; clear hK) | (clear hK; clear hK; refine hK _ ?_; clear hK) | (clear hK; clear hK; clear hK; refine hK _ ?_; clear hK) | (clear hK; clear hK; clear hK; clear hK; refine hK _ ?_; clear hK) | (refine wSeq fun K hK => ?_) | ((first | refine wReg ?_ | refine wDrwQ rfl (by kernel_rfl) ?_ | refine wDrwI ?_ | refine wDrw (by kernel_rfl) ?_); simp only [List.map_cons, List.map_nil, strip]) | ((first | refine wIs fun K hK => ?_ | refine wOs fun K hK => ?_ | refine wQs fun K hK => ?_ | refine CallK_plain ?_ | refine CallQ_plain ?_ | refine CallR_plain ?_ | refine wCond ?_); simp [q1, q1', w1, w2]) | (refine wIn ?_; refine And.intro (by kernel_rfl) ?_; try simp only [thenA_n]) | (first | refine wBlock ?_ | refine wScope ?_) | ((first | refine wRet ?_ | refine wExit ?_ | refine wSkip ?_); try simp) | ((first | refine wLabel ?_ | refine wOn ?_ | refine wQn ?_); try simp only [thenA_n])
  refine wLoop (fun N st => ∃ (k m : Nat), k + N = lg.length ∧ m = n0 + ((lg.take k).map wT).sum + k ∧ m ≤ 3 * 140737488355328 + k * (51 * 140737488355328 + 51) ∧ (∀ t ∈ lg.take k, t.ps.length ≤ 50) ∧ st.s 1 = .ptr 1 0 ∧ st.b 1 = some (.box 33 [.p (.sl 5 (zns ns)), .p (.sl 1 (ints ss)), .p (I nx), .p (I ep), .p (I n), .p (I kind), .p (.sl 4 (mbs ms)), .p (I ae), .p (I an), .p (.sl 8 (txns lg))]) ∧ st.s 3 = .p (I m) ∧ st.s 4 = .p (I k)) lg.length ⟨0, n0, by simp; omega⟩ fun K N st hL ⟨k, m, hk, hm, hmb, hps, g1, b1, g3, g4⟩ => ?_
  by_cases hlt : k < lg.length
  · have hlt' : (k : Int) < lg.length := by omega
    have hw := wrapS k _ hlt (by omega)
    have he := txns_get hlt
    obtain ⟨hp1, hp2⟩ := h4 lg[k] (List.getElem_mem hlt)
    have wm0 : IntKind.i64.wrap ((1 : Int) + (lg[k].ps.length : Int)) = ((1 + lg[k].ps.length : Nat) : Int) := by rw [wrap_id] <;> omega
    have wm : IntKind.i64.wrap ((m : Int) + ((1 + lg[k].ps.length : Nat) : Int)) = ((m + (1 + lg[k].ps.length) : Nat) : Int) := by rw [wrap_id] <;> omega
    have wm' : IntKind.i64.wrap ((m : Int) + (1 + (lg[k].ps.length : Int))) = ((m + (1 + lg[k].ps.length) : Nat) : Int) := by rw [wrap_id] <;> omega
    by_cases q2 : 50 < lg[k].ps.length
    · have q2' : (50 : Int) < lg[k].ps.length := by omega
      rw [show decide (¬ near16 ⟨⟨ns, ss, nx, ⟨ep, n, kind, ms⟩, ae, an⟩, lg⟩) = true from decide_eq_true fun h => by have := h.2.1 lg[k] (List.getElem_mem hlt); omega] at hr
      repeat' first | (refine hK _ ?_; clear hK) | (refine hK _ _ ?_; clear hK) | (clear hK; refine hK _ ?_; clear hK) | (clear hK; clear hK; refine hK _ ?_; clear hK) | (clear hK; clear hK; clear hK; refine hK _ ?_; clear hK) | (clear hK; clear hK; clear hK; clear hK; refine hK _ ?_; clear hK) | (refine wSeq fun K hK => ?_) | ((first | refine wReg ?_ | refine wDrwQ rfl (by kernel_rfl) ?_ | refine wDrwI ?_ | refine wDrw (by kernel_rfl) ?_); simp only [List.map_cons, List.map_nil, strip]) | ((first | refine wIs fun K hK => ?_ | refine wOs fun K hK => ?_ | refine wQs fun K hK => ?_ | refine CallK_plain ?_ | refine CallQ_plain ?_ | refine CallR_plain ?_ | refine wCond ?_); simp [g1, b1, g3, g4, hlt, hlt', hw, he, wm0, wm, wm', q2, q2']) | (refine wIn ?_; refine And.intro (by kernel_rfl) ?_; try simp only [thenA_n]) | (first | refine wBlock ?_ | refine wScope ?_) | ((first | refine wRet ?_ | refine wExit ?_ | refine wSkip ?_); try simp) | ((first | refine wLabel ?_ | refine wOn ?_ | refine wQn ?_); try simp only [thenA_n])
      all_goals apply hr
      all_goals simp [Try.f6]
    · have q2' : ¬ (50 : Int) < lg[k].ps.length := by omega
      repeat' first | (refine hK _ ?_; clear hK) | (refine hK _ _ ?_; clear hK) | (clear hK; refine hK _ ?_; clear hK) | (clear hK; clear hK; refine hK _ ?_; clear hK) | (clear hK; clear hK; clear hK; refine hK _ ?_; clear hK) | (clear hK; clear hK; clear hK; clear hK; refine hK _ ?_; clear hK) | (refine wSeq fun K hK => ?_) | ((first | refine wReg ?_ | refine wDrwQ rfl (by kernel_rfl) ?_ | refine wDrwI ?_ | refine wDrw (by kernel_rfl) ?_); simp only [List.map_cons, List.map_nil, strip]) | ((first | refine wIs fun K hK => ?_ | refine wOs fun K hK => ?_ | refine wQs fun K hK => ?_ | refine CallK_plain ?_ | refine CallQ_plain ?_ | refine CallR_plain ?_ | refine wCond ?_); simp [g1, b1, g3, g4, hlt, hlt', hw, he, wm0, wm, wm', q2, q2']) | (refine wIn ?_; refine And.intro (by kernel_rfl) ?_; try simp only [thenA_n]) | (first | refine wBlock ?_ | refine wScope ?_) | ((first | refine wRet ?_ | refine wExit ?_ | refine wSkip ?_); try simp) | ((first | refine wLabel ?_ | refine wOn ?_ | refine wQn ?_); try simp only [thenA_n])
      refine wLoop (fun N' st => ∃ (q z : Nat), q + N' = lg[k].ps.length ∧ z = m + (1 + lg[k].ps.length) + ((lg[k].ps.take q).map fun p => p.c.ms.length).sum ∧ z ≤ m + (1 + lg[k].ps.length) + q * 140737488355328 ∧ st.s 1 = .ptr 1 0 ∧ st.b 1 = some (.box 33 [.p (.sl 5 (zns ns)), .p (.sl 1 (ints ss)), .p (I nx), .p (I ep), .p (I n), .p (I kind), .p (.sl 4 (mbs ms)), .p (I ae), .p (I an), .p (.sl 8 (txns lg))]) ∧ st.s 3 = .p (I z) ∧ st.s 4 = .p (I k) ∧ st.s 5 = .p (I q)) lg[k].ps.length ⟨0, m + (1 + lg[k].ps.length), by omega, by simp, by omega, ?_⟩ fun K' N' st hL' ⟨q, z, hq, hz, hzb, e1, d1, e3, e4, e5⟩ => ?_
      · simp [g1, b1, g4]
      by_cases hlq : q < lg[k].ps.length
      · have hlq' : (q : Int) < lg[k].ps.length := by omega
        have hwq := wrapS q _ hlq (by omega)
        have heq := pts_get hlq
        have hpq := hp2 lg[k].ps[q] (List.getElem_mem hlq)
        have wz := wrapN z lg[k].ps[q].c.ms.length (by omega)
        repeat' first | (refine hK _ ?_; clear hK) | (refine hK _ _ ?_; clear hK) | (clear hK; refine hK _ ?_; clear hK) | (clear hK; clear hK; refine hK _ ?_; clear hK) | (clear hK; clear hK; clear hK; refine hK _ ?_; clear hK) | (clear hK; clear hK; clear hK; clear hK; refine hK _ ?_; clear hK) | (refine wSeq fun K hK => ?_) | ((first | refine wReg ?_ | refine wDrwQ rfl (by kernel_rfl) ?_ | refine wDrwI ?_ | refine wDrw (by kernel_rfl) ?_); simp only [List.map_cons, List.map_nil, strip]) | ((first | refine wIs fun K hK => ?_ | refine wOs fun K hK => ?_ | refine wQs fun K hK => ?_ | refine CallK_plain ?_ | refine CallQ_plain ?_ | refine CallR_plain ?_ | refine wCond ?_); simp [e1, d1, e3, e4, e5, hlt, hlt', he, hlq, hlq', hwq, heq, wz]) | (refine wIn ?_; refine And.intro (by kernel_rfl) ?_; try simp only [thenA_n]) | (first | refine wBlock ?_ | refine wScope ?_) | ((first | refine wRet ?_ | refine wExit ?_ | refine wSkip ?_); try simp) | ((first | refine wLabel ?_ | refine wOn ?_ | refine wQn ?_); try simp only [thenA_n])
        refine hL' _ (N' - 1) (by omega) ⟨q + 1, z + lg[k].ps[q].c.ms.length, by omega, ?_, by omega, ?_⟩
        · rw [sum_snoc _ hlq, hz]; omega
        · simp [e1, d1, e3, e4, e5, hwq, wz]
      · have hlq' : ¬ (q : Int) < lg[k].ps.length := by omega
        rw [List.take_of_length_le (by omega)] at hz
        repeat' first | (refine hK _ ?_; clear hK) | (refine hK _ _ ?_; clear hK) | (clear hK; refine hK _ ?_; clear hK) | (clear hK; clear hK; refine hK _ ?_; clear hK) | (clear hK; clear hK; clear hK; refine hK _ ?_; clear hK) | (clear hK; clear hK; clear hK; clear hK; refine hK _ ?_; clear hK) | (refine wSeq fun K hK => ?_) | ((first | refine wReg ?_ | refine wDrwQ rfl (by kernel_rfl) ?_ | refine wDrwI ?_ | refine wDrw (by kernel_rfl) ?_); simp only [List.map_cons, List.map_nil, strip]) | ((first | refine wIs fun K hK => ?_ | refine wOs fun K hK => ?_ | refine wQs fun K hK => ?_ | refine CallK_plain ?_ | refine CallQ_plain ?_ | refine CallR_plain ?_ | refine wCond ?_); simp [e1, d1, e3, e4, e5, hlt, hlt', he, hlq, hlq', hw]) | (refine wIn ?_; refine And.intro (by kernel_rfl) ?_; try simp only [thenA_n]) | (first | refine wBlock ?_ | refine wScope ?_) | ((first | refine wRet ?_ | refine wExit ?_ | refine wSkip ?_); try simp) | ((first | refine wLabel ?_ | refine wOn ?_ | refine wQn ?_); try simp only [thenA_n])
        refine hL _ (N - 1) (by omega) ⟨k + 1, z, by omega, ?_, by omega, fun t ht => ?_, ?_⟩
        · rw [sum_snoc _ hlt, hz, hm]; unfold wT; omega
        · rw [List.take_succ_eq_append_getElem hlt] at ht
          rcases List.mem_append.1 ht with ht | ht
          · exact hps t ht
          · rw [List.mem_singleton.1 ht]; omega
        · simp [e1, d1, e3, e4, e5, hw]
  · have hlt' : ¬ (k : Int) < lg.length := by omega
    rw [List.take_of_length_le (by omega)] at hm hps
    have hmH : m = wH ⟨⟨ns, ss, nx, ⟨ep, n, kind, ms⟩, ae, an⟩, lg⟩ + lg.length := by unfold wH; simp only; omega
    by_cases q3 : 300 < m
    · have q3' : (300 : Int) < m := by omega
      rw [show decide (¬ near16 ⟨⟨ns, ss, nx, ⟨ep, n, kind, ms⟩, ae, an⟩, lg⟩) = true from decide_eq_true fun h => by have := h.2.2; simp only at this; omega] at hr
      repeat' first | (refine hK _ ?_; clear hK) | (refine hK _ _ ?_; clear hK) | (clear hK; refine hK _ ?_; clear hK) | (clear hK; clear hK; refine hK _ ?_; clear hK) | (clear hK; clear hK; clear hK; refine hK _ ?_; clear hK) | (clear hK; clear hK; clear hK; clear hK; refine hK _ ?_; clear hK) | (refine wSeq fun K hK => ?_) | ((first | refine wReg ?_ | refine wDrwQ rfl (by kernel_rfl) ?_ | refine wDrwI ?_ | refine wDrw (by kernel_rfl) ?_); simp only [List.map_cons, List.map_nil, strip]) | ((first | refine wIs fun K hK => ?_ | refine wOs fun K hK => ?_ | refine wQs fun K hK => ?_ | refine CallK_plain ?_ | refine CallQ_plain ?_ | refine CallR_plain ?_ | refine wCond ?_); simp [g1, b1, g3, g4, hlt, hlt', q3, q3']) | (refine wIn ?_; refine And.intro (by kernel_rfl) ?_; try simp only [thenA_n]) | (first | refine wBlock ?_ | refine wScope ?_) | ((first | refine wRet ?_ | refine wExit ?_ | refine wSkip ?_); try simp) | ((first | refine wLabel ?_ | refine wOn ?_ | refine wQn ?_); try simp only [thenA_n])
      all_goals apply hr
      all_goals simp [Try.f6]
    · have q3' : ¬ (300 : Int) < m := by omega
      by_cases q4 : 90 < lg.length
      · have q4' : (90 : Int) < lg.length := by omega
        rw [show decide (¬ near16 ⟨⟨ns, ss, nx, ⟨ep, n, kind, ms⟩, ae, an⟩, lg⟩) = true from decide_eq_true fun h => by have := h.1; simp only at this; omega] at hr
        repeat' first | (refine hK _ ?_; clear hK) | (refine hK _ _ ?_; clear hK) | (clear hK; refine hK _ ?_; clear hK) | (clear hK; clear hK; refine hK _ ?_; clear hK) | (clear hK; clear hK; clear hK; refine hK _ ?_; clear hK) | (clear hK; clear hK; clear hK; clear hK; refine hK _ ?_; clear hK) | (refine wSeq fun K hK => ?_) | ((first | refine wReg ?_ | refine wDrwQ rfl (by kernel_rfl) ?_ | refine wDrwI ?_ | refine wDrw (by kernel_rfl) ?_); simp only [List.map_cons, List.map_nil, strip]) | ((first | refine wIs fun K hK => ?_ | refine wOs fun K hK => ?_ | refine wQs fun K hK => ?_ | refine CallK_plain ?_ | refine CallQ_plain ?_ | refine CallR_plain ?_ | refine wCond ?_); simp [g1, b1, g3, g4, hlt, hlt', q3, q3', q4, q4']) | (refine wIn ?_; refine And.intro (by kernel_rfl) ?_; try simp only [thenA_n]) | (first | refine wBlock ?_ | refine wScope ?_) | ((first | refine wRet ?_ | refine wExit ?_ | refine wSkip ?_); try simp) | ((first | refine wLabel ?_ | refine wOn ?_ | refine wQn ?_); try simp only [thenA_n])
        all_goals apply hr
        all_goals simp [Try.f6]
      · have q4' : ¬ (90 : Int) < lg.length := by omega
        rw [show decide (¬ near16 ⟨⟨ns, ss, nx, ⟨ep, n, kind, ms⟩, ae, an⟩, lg⟩) = false from decide_eq_false fun h => h ⟨by simp only; omega, hps, by show wH _ + lg.length ≤ 300; omega⟩] at hr
        repeat' first | (refine hK _ ?_; clear hK) | (refine hK _ _ ?_; clear hK) | (clear hK; refine hK _ ?_; clear hK) | (clear hK; clear hK; refine hK _ ?_; clear hK) | (clear hK; clear hK; clear hK; refine hK _ ?_; clear hK) | (clear hK; clear hK; clear hK; clear hK; refine hK _ ?_; clear hK) | (refine wSeq fun K hK => ?_) | ((first | refine wReg ?_ | refine wDrwQ rfl (by kernel_rfl) ?_ | refine wDrwI ?_ | refine wDrw (by kernel_rfl) ?_); simp only [List.map_cons, List.map_nil, strip]) | ((first | refine wIs fun K hK => ?_ | refine wOs fun K hK => ?_ | refine wQs fun K hK => ?_ | refine CallK_plain ?_ | refine CallQ_plain ?_ | refine CallR_plain ?_ | refine wCond ?_); simp [g1, b1, g3, g4, hlt, hlt', q3, q3', q4, q4']) | (refine wIn ?_; refine And.intro (by kernel_rfl) ?_; try simp only [thenA_n]) | (first | refine wBlock ?_ | refine wScope ?_) | ((first | refine wRet ?_ | refine wExit ?_ | refine wSkip ?_); try simp) | ((first | refine wLabel ?_ | refine wOn ?_ | refine wQn ?_); try simp only [thenA_n])
        all_goals apply hr
        all_goals simp [Try.f6]
end Go.Proofs.Ytegoihognjpcjaa


/- Which configs may be, who votes, who is found: the program's and the document's. -/
namespace Go.Proofs.Ytegoihognjpcjaa
set_option linter.unusedSimpArgs false
set_option linter.unusedVariables false
open Go Go.Av
attribute [local simp] Try.T1 Try.T2 Try.T3 Try.T4 Try.T5 Try.T9 Try.T12 Try.T15 Try.T16 Try.T17 Try.T21 Try.T22 Try.T23 Try.T25 Try.T26 Try.T28 Try.T30 Try.T31 Try.T33 Try.T34 Try.T35 Try.T36 Try.T37 Try.T38 Try.T40 Try.T42 Try.T43 Try.T44 Try.T45 Try.T46 Try.T48 Try.T49 Try.T50 Try.T51 Try.T52 Try.T53 Try.T54 Try.T55 Try.T56 Try.T57 Try.T58 Try.T59 Try.T60 Try.T61 Try.T62 Try.T64 Try.T66 Try.T67 Try.T68 Try.T69 Try.T70 Try.T71 Try.T72 Try.T73 Try.T74 Try.T75 Try.T76 Try.T77 Try.T78 Try.T80 Try.T81 Try.T82 Try.T83 Try.T84 Try.T85 Try.T86 Try.T88 Try.T89 Try.T90 Try.T91 Try.T92 Try.T93 Try.T94 Try.T95 Try.T96 Try.T97 Try.T98 Try.T99 Try.T100 Try.T101 Try.T102 Try.T103 Try.T104 Try.T105 Try.T106 Try.T107 Try.T108 Try.T109 Try.T110 Try.T111 Try.T112 Try.T113 Try.T116 Try.T119 Try.T120 Try.T123 Try.T124
attribute [local irreducible] Go.Av.CallK Go.Av.CallE Go.Av.CallQ Go.Av.CallF Go.Av.CallR Go.Av.CallH Go.Av.Con
def ranged (c : Cf) : Prop := (1 ≤ c.kind ∧ c.kind ≤ 3) ∧ (0 ≤ c.ep ∧ c.ep ≤ 1099511627776) ∧ (0 ≤ c.n ∧ c.n ≤ 1099511627776)
instance (c : Cf) : Decidable (ranged c) := by unfold ranged; infer_instance
end Go.Proofs.Ytegoihognjpcjaa


/- The document's Check, and who votes, who is found. -/
namespace Go.Proofs.Ytegoihognjpcjaa
set_option linter.unusedSimpArgs false
set_option linter.unusedVariables false
open Go Go.Av
attribute [local simp] Try.T1 Try.T2 Try.T3 Try.T4 Try.T5 Try.T9 Try.T12 Try.T15 Try.T16 Try.T17 Try.T21 Try.T22 Try.T23 Try.T25 Try.T26 Try.T28 Try.T30 Try.T31 Try.T33 Try.T34 Try.T35 Try.T36 Try.T37 Try.T38 Try.T40 Try.T42 Try.T43 Try.T44 Try.T45 Try.T46 Try.T48 Try.T49 Try.T50 Try.T51 Try.T52 Try.T53 Try.T54 Try.T55 Try.T56 Try.T57 Try.T58 Try.T59 Try.T60 Try.T61 Try.T62 Try.T64 Try.T66 Try.T67 Try.T68 Try.T69 Try.T70 Try.T71 Try.T72 Try.T73 Try.T74 Try.T75 Try.T76 Try.T77 Try.T78 Try.T80 Try.T81 Try.T82 Try.T83 Try.T84 Try.T85 Try.T86 Try.T88 Try.T89 Try.T90 Try.T91 Try.T92 Try.T93 Try.T94 Try.T95 Try.T96 Try.T97 Try.T98 Try.T99 Try.T100 Try.T101 Try.T102 Try.T103 Try.T104 Try.T105 Try.T106 Try.T107 Try.T108 Try.T109 Try.T110 Try.T111 Try.T112 Try.T113 Try.T116 Try.T119 Try.T120 Try.T123 Try.T124
attribute [local irreducible] Go.Av.CallK Go.Av.CallE Go.Av.CallQ Go.Av.CallF Go.Av.CallR Go.Av.CallH Go.Av.Con
end Go.Proofs.Ytegoihognjpcjaa


/- By heads and by weight. -/
namespace Go.Proofs.Ytegoihognjpcjaa
set_option linter.unusedSimpArgs false
set_option linter.unusedVariables false
open Go Go.Av
attribute [local simp] Try.T1 Try.T2 Try.T3 Try.T4 Try.T5 Try.T9 Try.T12 Try.T15 Try.T16 Try.T17 Try.T21 Try.T22 Try.T23 Try.T25 Try.T26 Try.T28 Try.T30 Try.T31 Try.T33 Try.T34 Try.T35 Try.T36 Try.T37 Try.T38 Try.T40 Try.T42 Try.T43 Try.T44 Try.T45 Try.T46 Try.T48 Try.T49 Try.T50 Try.T51 Try.T52 Try.T53 Try.T54 Try.T55 Try.T56 Try.T57 Try.T58 Try.T59 Try.T60 Try.T61 Try.T62 Try.T64 Try.T66 Try.T67 Try.T68 Try.T69 Try.T70 Try.T71 Try.T72 Try.T73 Try.T74 Try.T75 Try.T76 Try.T77 Try.T78 Try.T80 Try.T81 Try.T82 Try.T83 Try.T84 Try.T85 Try.T86 Try.T88 Try.T89 Try.T90 Try.T91 Try.T92 Try.T93 Try.T94 Try.T95 Try.T96 Try.T97 Try.T98 Try.T99 Try.T100 Try.T101 Try.T102 Try.T103 Try.T104 Try.T105 Try.T106 Try.T107 Try.T108 Try.T109 Try.T110 Try.T111 Try.T112 Try.T113 Try.T116 Try.T119 Try.T120 Try.T123 Try.T124
attribute [local irreducible] Go.Av.CallK Go.Av.CallE Go.Av.CallQ Go.Av.CallF Go.Av.CallR Go.Av.CallH Go.Av.Con
def tot (f : Mb → Int) (p : Mb → Bool) : List Mb → Int
  | [] => 0
  | m :: l => (if m.r = 1 ∧ p m = true then f m else 0) + tot f p l
def one (_ : Mb) : Int := 1
end Go.Proofs.Ytegoihognjpcjaa


/- By groups. -/
namespace Go.Proofs.Ytegoihognjpcjaa
set_option linter.unusedSimpArgs false
set_option linter.unusedVariables false
open Go Go.Av
attribute [local simp] Try.T1 Try.T2 Try.T3 Try.T4 Try.T5 Try.T9 Try.T12 Try.T15 Try.T16 Try.T17 Try.T21 Try.T22 Try.T23 Try.T25 Try.T26 Try.T28 Try.T30 Try.T31 Try.T33 Try.T34 Try.T35 Try.T36 Try.T37 Try.T38 Try.T40 Try.T42 Try.T43 Try.T44 Try.T45 Try.T46 Try.T48 Try.T49 Try.T50 Try.T51 Try.T52 Try.T53 Try.T54 Try.T55 Try.T56 Try.T57 Try.T58 Try.T59 Try.T60 Try.T61 Try.T62 Try.T64 Try.T66 Try.T67 Try.T68 Try.T69 Try.T70 Try.T71 Try.T72 Try.T73 Try.T74 Try.T75 Try.T76 Try.T77 Try.T78 Try.T80 Try.T81 Try.T82 Try.T83 Try.T84 Try.T85 Try.T86 Try.T88 Try.T89 Try.T90 Try.T91 Try.T92 Try.T93 Try.T94 Try.T95 Try.T96 Try.T97 Try.T98 Try.T99 Try.T100 Try.T101 Try.T102 Try.T103 Try.T104 Try.T105 Try.T106 Try.T107 Try.T108 Try.T109 Try.T110 Try.T111 Try.T112 Try.T113 Try.T116 Try.T119 Try.T120 Try.T123 Try.T124
attribute [local irreducible] Go.Av.CallK Go.Av.CallE Go.Av.CallQ Go.Av.CallF Go.Av.CallR Go.Av.CallH Go.Av.Con
def bx (z : List Int) : List V := z.map fun n => .p (I n)
@[simp] theorem bx_len (z : List Int) : (bx z).length = z.length := by simp [bx]
@[simp] theorem bx_get (z : List Int) (k : Nat) (h : k < (bx z).length) : (bx z)[k] = .p (I (z[k]'(by simpa using h))) := by simp [bx]
@[simp] theorem bx_scr (z : List Int) (n : Nat) : (bx z).map (scr0 n) = bx z := by
  unfold bx; rw [List.map_map]; rfl
@[simp] theorem bx_sub (z : List Int) (n : Nat) (q : PV) : (bx z).map (sub0 n q) = bx z := by
  unfold bx; rw [List.map_map]; rfl
def ixs (z : List Int) : List PV := z.map fun n => I n
@[simp] theorem ixs_len (z : List Int) : (ixs z).length = z.length := by simp [ixs]
@[simp] theorem ixs_get (z : List Int) (k : Nat) (h : k < (ixs z).length) : (ixs z)[k] = I (z[k]'(by simpa using h)) := by simp [ixs]
@[simp] theorem toPs_bx : ∀ z : List Int, toPs (bx z) = some (ixs z)
  | [] => rfl
  | a :: z => by
    show (match toP (.p (I a)), toPs (bx z) with | some p, some r => some (p :: r) | _, _ => none) = _
    rw [toPs_bx z]; rfl
def inG (p : Mb → Bool) (g : Nat) (m : Mb) : Bool := decide (m.g = g) && p m
def gs (p : Mb → Bool) (l : List Mb) : List Int := (List.range 8).map fun g => tot Mb.w (inG p g) l
@[simp] theorem gs_len (p : Mb → Bool) (l : List Mb) : (gs p l).length = 8 := by simp [gs]
@[simp] theorem gs_get (p : Mb → Bool) (l : List Mb) (g : Nat) (h : g < (gs p l).length) : (gs p l)[g] = tot Mb.w (inG p g) l := by simp [gs]
end Go.Proofs.Ytegoihognjpcjaa


/- Whether a set is a quorum: the program's answer and the document's. -/
namespace Go.Proofs.Ytegoihognjpcjaa
set_option linter.unusedSimpArgs false
set_option linter.unusedVariables false
open Go Go.Av
attribute [local simp] Try.T1 Try.T2 Try.T3 Try.T4 Try.T5 Try.T9 Try.T12 Try.T15 Try.T16 Try.T17 Try.T21 Try.T22 Try.T23 Try.T25 Try.T26 Try.T28 Try.T30 Try.T31 Try.T33 Try.T34 Try.T35 Try.T36 Try.T37 Try.T38 Try.T40 Try.T42 Try.T43 Try.T44 Try.T45 Try.T46 Try.T48 Try.T49 Try.T50 Try.T51 Try.T52 Try.T53 Try.T54 Try.T55 Try.T56 Try.T57 Try.T58 Try.T59 Try.T60 Try.T61 Try.T62 Try.T64 Try.T66 Try.T67 Try.T68 Try.T69 Try.T70 Try.T71 Try.T72 Try.T73 Try.T74 Try.T75 Try.T76 Try.T77 Try.T78 Try.T80 Try.T81 Try.T82 Try.T83 Try.T84 Try.T85 Try.T86 Try.T88 Try.T89 Try.T90 Try.T91 Try.T92 Try.T93 Try.T94 Try.T95 Try.T96 Try.T97 Try.T98 Try.T99 Try.T100 Try.T101 Try.T102 Try.T103 Try.T104 Try.T105 Try.T106 Try.T107 Try.T108 Try.T109 Try.T110 Try.T111 Try.T112 Try.T113 Try.T116 Try.T119 Try.T120 Try.T123 Try.T124
attribute [local irreducible] Go.Av.CallK Go.Av.CallE Go.Av.CallQ Go.Av.CallF Go.Av.CallR Go.Av.CallH Go.Av.Con
end Go.Proofs.Ytegoihognjpcjaa


/- Several configs; what is too far; any two quorums meet. -/
namespace Go.Proofs.Ytegoihognjpcjaa
set_option linter.unusedSimpArgs false
set_option linter.unusedVariables false
open Go Go.Av
attribute [local simp] Try.T1 Try.T2 Try.T3 Try.T4 Try.T5 Try.T9 Try.T12 Try.T15 Try.T16 Try.T17 Try.T21 Try.T22 Try.T23 Try.T25 Try.T26 Try.T28 Try.T30 Try.T31 Try.T33 Try.T34 Try.T35 Try.T36 Try.T37 Try.T38 Try.T40 Try.T42 Try.T43 Try.T44 Try.T45 Try.T46 Try.T48 Try.T49 Try.T50 Try.T51 Try.T52 Try.T53 Try.T54 Try.T55 Try.T56 Try.T57 Try.T58 Try.T59 Try.T60 Try.T61 Try.T62 Try.T64 Try.T66 Try.T67 Try.T68 Try.T69 Try.T70 Try.T71 Try.T72 Try.T73 Try.T74 Try.T75 Try.T76 Try.T77 Try.T78 Try.T80 Try.T81 Try.T82 Try.T83 Try.T84 Try.T85 Try.T86 Try.T88 Try.T89 Try.T90 Try.T91 Try.T92 Try.T93 Try.T94 Try.T95 Try.T96 Try.T97 Try.T98 Try.T99 Try.T100 Try.T101 Try.T102 Try.T103 Try.T104 Try.T105 Try.T106 Try.T107 Try.T108 Try.T109 Try.T110 Try.T111 Try.T112 Try.T113 Try.T116 Try.T119 Try.T120 Try.T123 Try.T124
attribute [local irreducible] Go.Av.CallK Go.Av.CallE Go.Av.CallQ Go.Av.CallF Go.Av.CallR Go.Av.CallH Go.Av.Con
def mx (n : Int) : List (List Int) → Int
  | [] => n
  | s :: l => mx (if n < s.length then s.length else n) l
def lists (l : List (List Int)) : List (List PV) := l.map fun s => [.sl 1 (ints s)]
@[simp] theorem lists_len (l : List (List Int)) : (lists l).length = l.length := by simp [lists]
@[simp] theorem lists_getElem (l : List (List Int)) (k : Nat) (h : k < (lists l).length) : (lists l)[k] = [.sl 1 (ints (l[k]'(by simpa using h)))] := by simp [lists]
def cfs (l : List Cf) : List (List PV) := l.map Cf.cells
@[simp] theorem cfs_len (l : List Cf) : (cfs l).length = l.length := by simp [cfs]
@[simp] theorem cfs_getElem (l : List Cf) (k : Nat) (h : k < (cfs l).length) : (cfs l)[k] = [I (l[k]'(by simpa using h)).ep, I (l[k]'(by simpa using h)).n, I (l[k]'(by simpa using h)).kind, .sl 4 (mbs (l[k]'(by simpa using h)).ms)] := by simp [cfs, Cf.cells]
end Go.Proofs.Ytegoihognjpcjaa


/- States: copies; the numbers of a list, one taken out. -/
namespace Go.Proofs.Ytegoihognjpcjaa
set_option linter.unusedSimpArgs false
set_option linter.unusedVariables false
open Go Go.Av
attribute [local simp] Try.T1 Try.T2 Try.T3 Try.T4 Try.T5 Try.T9 Try.T12 Try.T15 Try.T16 Try.T17 Try.T21 Try.T22 Try.T23 Try.T25 Try.T26 Try.T28 Try.T30 Try.T31 Try.T33 Try.T34 Try.T35 Try.T36 Try.T37 Try.T38 Try.T40 Try.T42 Try.T43 Try.T44 Try.T45 Try.T46 Try.T48 Try.T49 Try.T50 Try.T51 Try.T52 Try.T53 Try.T54 Try.T55 Try.T56 Try.T57 Try.T58 Try.T59 Try.T60 Try.T61 Try.T62 Try.T64 Try.T66 Try.T67 Try.T68 Try.T69 Try.T70 Try.T71 Try.T72 Try.T73 Try.T74 Try.T75 Try.T76 Try.T77 Try.T78 Try.T80 Try.T81 Try.T82 Try.T83 Try.T84 Try.T85 Try.T86 Try.T88 Try.T89 Try.T90 Try.T91 Try.T92 Try.T93 Try.T94 Try.T95 Try.T96 Try.T97 Try.T98 Try.T99 Try.T100 Try.T101 Try.T102 Try.T103 Try.T104 Try.T105 Try.T106 Try.T107 Try.T108 Try.T109 Try.T110 Try.T111 Try.T112 Try.T113 Try.T116 Try.T119 Try.T120 Try.T123 Try.T124
attribute [local irreducible] Go.Av.CallK Go.Av.CallE Go.Av.CallQ Go.Av.CallF Go.Av.CallR Go.Av.CallH Go.Av.Con
abbrev RConX (g : FuncId) (args : List V) (e c : Nat) (l : List (List PV)) : Prop := Con Try.prog g args [] (.ret (.row 2048) [.row e c l] [])
theorem cloneM (l : List (List PV)) (hl : l.length ≤ 4398046510976) : RConX 59 [.p (.sl 4 l)] 88 4 l := by
  refine wBodyR Try.tab Try.mixed Try.func59 rfl rfl Try.ntmps59 rfl (by simp) (by simp) fun Q hr hn => ?_
  repeat' first | (refine wRetG [.row 2 88 4] ?_) | (refine And.intro (by omega) (Or.inl ?_)) | (refine And.intro ?_ (fun hnil => ?_)) | (refine hK _ ?_; clear hK) | (refine hK _ _ ?_; clear hK) | (clear hK; refine hK _ ?_; clear hK) | (clear hK; clear hK; refine hK _ ?_; clear hK) | (clear hK; clear hK; clear hK; refine hK _ ?_; clear hK) | (clear hK; clear hK; clear hK; clear hK; refine hK _ ?_; clear hK) | (refine wSeq fun K hK => ?_) | ((first | refine wReg ?_ | refine wDrwQ rfl (by kernel_rfl) ?_ | refine wDrwI ?_ | refine wDrw (by kernel_rfl) ?_); simp only [List.map_cons, List.map_nil, strip]) | ((first | refine wIs fun K hK => ?_ | refine wOs fun K hK => ?_ | refine wQs fun K hK => ?_ | refine CallK_plain ?_ | refine CallQ_plain ?_ | refine CallR_plain ?_ | refine wCond ?_); simp) | (refine wIn ?_; refine And.intro (by kernel_rfl) ?_; try simp only [thenA_n]) | (first | refine wBlock ?_ | refine wScope ?_) | ((first | refine wRet ?_ | refine wExit ?_ | refine wSkip ?_); try simp) | ((first | refine wLabel ?_ | refine wOn ?_ | refine wQn ?_); try simp only [thenA_n])
  · refine hr _ 7 (by simp) (by simp) (by omega)
  · subst hnil
    simp only [thenA_r]
    refine hr _ 2 (by simp) (by simp) (by omega)
theorem cloneZ (l : List (List PV)) (hl : l.length ≤ 1000000) : RConX 68 [.p (.sl 5 l)] 64 5 l := by
  refine wBodyR Try.tab Try.mixed Try.func68 rfl rfl Try.ntmps68 rfl (by simp) (by simp) fun Q hr hn => ?_
  repeat' first | (refine wRetG [.row 2 64 5] ?_) | (refine And.intro (by omega) (Or.inl ?_)) | (refine And.intro ?_ (fun hnil => ?_)) | (refine hK _ ?_; clear hK) | (refine hK _ _ ?_; clear hK) | (clear hK; refine hK _ ?_; clear hK) | (clear hK; clear hK; refine hK _ ?_; clear hK) | (clear hK; clear hK; clear hK; refine hK _ ?_; clear hK) | (clear hK; clear hK; clear hK; clear hK; refine hK _ ?_; clear hK) | (refine wSeq fun K hK => ?_) | ((first | refine wReg ?_ | refine wDrwQ rfl (by kernel_rfl) ?_ | refine wDrwI ?_ | refine wDrw (by kernel_rfl) ?_); simp only [List.map_cons, List.map_nil, strip]) | ((first | refine wIs fun K hK => ?_ | refine wOs fun K hK => ?_ | refine wQs fun K hK => ?_ | refine CallK_plain ?_ | refine CallQ_plain ?_ | refine CallR_plain ?_ | refine wCond ?_); simp) | (refine wIn ?_; refine And.intro (by kernel_rfl) ?_; try simp only [thenA_n]) | (first | refine wBlock ?_ | refine wScope ?_) | ((first | refine wRet ?_ | refine wExit ?_ | refine wSkip ?_); try simp) | ((first | refine wLabel ?_ | refine wOn ?_ | refine wQn ?_); try simp only [thenA_n])
  · refine hr _ 7 (by simp) (by simp) (by omega)
  · subst hnil
    simp only [thenA_r]
    refine hr _ 2 (by simp) (by simp) (by omega)
theorem cloneI (l : List (List PV)) (hl : l.length ≤ 1000000) : RConX 69 [.p (.sl 1 l)] 3 1 l := by
  refine wBodyR Try.tab Try.mixed Try.func69 rfl rfl Try.ntmps69 rfl (by simp) (by simp) fun Q hr hn => ?_
  repeat' first | (refine wRetG [.row 2 3 1] ?_) | (refine And.intro (by omega) (Or.inl ?_)) | (refine And.intro ?_ (fun hnil => ?_)) | (refine hK _ ?_; clear hK) | (refine hK _ _ ?_; clear hK) | (clear hK; refine hK _ ?_; clear hK) | (clear hK; clear hK; refine hK _ ?_; clear hK) | (clear hK; clear hK; clear hK; refine hK _ ?_; clear hK) | (clear hK; clear hK; clear hK; clear hK; refine hK _ ?_; clear hK) | (refine wSeq fun K hK => ?_) | ((first | refine wReg ?_ | refine wDrwQ rfl (by kernel_rfl) ?_ | refine wDrwI ?_ | refine wDrw (by kernel_rfl) ?_); simp only [List.map_cons, List.map_nil, strip]) | ((first | refine wIs fun K hK => ?_ | refine wOs fun K hK => ?_ | refine wQs fun K hK => ?_ | refine CallK_plain ?_ | refine CallQ_plain ?_ | refine CallR_plain ?_ | refine wCond ?_); simp) | (refine wIn ?_; refine And.intro (by kernel_rfl) ?_; try simp only [thenA_n]) | (first | refine wBlock ?_ | refine wScope ?_) | ((first | refine wRet ?_ | refine wExit ?_ | refine wSkip ?_); try simp) | ((first | refine wLabel ?_ | refine wOn ?_ | refine wQn ?_); try simp only [thenA_n])
  · refine hr _ 7 (by simp) (by simp) (by omega)
  · subst hnil
    simp only [thenA_r]
    refine hr _ 2 (by simp) (by simp) (by omega)
theorem ownConfig_con (e n k : Int) (ms : List (List PV)) (hl : ms.length ≤ 4398046510976) : ACon Try.prog 45 [.p (.agg [I e, I n, I k, .sl 4 ms])] (.p (.agg [I e, I n, I k, .sl 4 ms])) := by
  have c := cloneM ms hl
  refine wBody Try.tab Try.mixed Try.func45 rfl rfl Try.ntmps45 (by simp) (by simp) fun Q hr hn => ?_
  repeat' first | (refine hK _ ?_; clear hK) | (refine hK _ _ ?_; clear hK) | (clear hK; refine hK _ ?_; clear hK) | (clear hK; clear hK; refine hK _ ?_; clear hK) | (clear hK; clear hK; clear hK; refine hK _ ?_; clear hK) | (clear hK; clear hK; clear hK; clear hK; refine hK _ ?_; clear hK) | (refine wSeq fun K hK => ?_) | ((first | refine wReg ?_ | refine wDrwQ rfl (by kernel_rfl) ?_ | refine wDrwI ?_ | refine wDrw (by kernel_rfl) ?_); simp only [List.map_cons, List.map_nil, strip]) | ((first | refine wIs fun K hK => ?_ | refine wOs fun K hK => ?_ | refine wQs fun K hK => ?_ | refine CallK_plain ?_ | refine CallQ_plain ?_ | refine CallR_plain ?_ | refine wCond ?_); simp) | (refine wIn ?_; refine And.intro (by kernel_rfl) ?_; try simp only [thenA_n]) | (first | refine wBlock ?_ | refine wScope ?_) | ((first | refine wRet ?_ | refine wExit ?_ | refine wSkip ?_); try simp) | ((first | refine wLabel ?_ | refine wOn ?_ | refine wQn ?_); try simp only [thenA_n]) | (refine CallE.pure (c) rfl ?_) | (refine CallE.lent (c) rfl ?_) | (refine CallF.pure (c) rfl ?_) | (refine CallF.lent (c) rfl ?_) | (refine CallE.own (c) ?_) | (refine CallH.pure (c) rfl ?_) | (refine CallH.lent (c) rfl ?_) | (refine CallH.own (c) ?_)
  all_goals apply hr
  all_goals simp [Try.f45]
end Go.Proofs.Ytegoihognjpcjaa


/- Histories: the configs that are needed, by the program. -/
namespace Go.Proofs.Ytegoihognjpcjaa
set_option linter.unusedSimpArgs false
set_option linter.unusedVariables false
open Go Go.Av
attribute [local simp] Try.T1 Try.T2 Try.T3 Try.T4 Try.T5 Try.T9 Try.T12 Try.T15 Try.T16 Try.T17 Try.T21 Try.T22 Try.T23 Try.T25 Try.T26 Try.T28 Try.T30 Try.T31 Try.T33 Try.T34 Try.T35 Try.T36 Try.T37 Try.T38 Try.T40 Try.T42 Try.T43 Try.T44 Try.T45 Try.T46 Try.T48 Try.T49 Try.T50 Try.T51 Try.T52 Try.T53 Try.T54 Try.T55 Try.T56 Try.T57 Try.T58 Try.T59 Try.T60 Try.T61 Try.T62 Try.T64 Try.T66 Try.T67 Try.T68 Try.T69 Try.T70 Try.T71 Try.T72 Try.T73 Try.T74 Try.T75 Try.T76 Try.T77 Try.T78 Try.T80 Try.T81 Try.T82 Try.T83 Try.T84 Try.T85 Try.T86 Try.T88 Try.T89 Try.T90 Try.T91 Try.T92 Try.T93 Try.T94 Try.T95 Try.T96 Try.T97 Try.T98 Try.T99 Try.T100 Try.T101 Try.T102 Try.T103 Try.T104 Try.T105 Try.T106 Try.T107 Try.T108 Try.T109 Try.T110 Try.T111 Try.T112 Try.T113 Try.T116 Try.T119 Try.T120 Try.T123 Try.T124
attribute [local irreducible] Go.Av.CallK Go.Av.CallE Go.Av.CallQ Go.Av.CallF Go.Av.CallR Go.Av.CallH Go.Av.Con
def lastC (ps : List Pt) : Option Cf := ((ps.filter fun p => decide (p.k = 5)).getLast?).map Pt.c
structure NS where
  (was now : Cf)
  (fe fn : Int)
  (ch : Bool)
def nsStep (s : NS) (t : Tx) : NS := match lastC t.ps with
  | none => s
  | some c => ⟨s.now, c, t.e, t.n, true⟩
def ns0 (h : Hy) : NS := ⟨h.im.c, h.im.c, h.im.ae, h.im.an, false⟩
def nsOf (h : Hy) (l : List Tx) : NS := l.foldl nsStep (ns0 h)
/-- What a history must be for the calls to do with it. -/
structure OkH (h : Hy) : Prop where
  ns : h.im.ns.length ≤ 1000
  ss : h.im.ss.length ≤ 1000
  c : h.im.c.ms.length ≤ 1000
  lg : h.lg.length ≤ 1000
  ps : ∀ t ∈ h.lg, t.ps.length ≤ 1000 ∧ ∀ p ∈ t.ps, p.c.ms.length ≤ 1000
  tot : (h.lg.map fun t => t.ps.length).sum ≤ 1000
theorem nsOf_ok {h : Hy} (hk : OkH h) : ∀ {l : List Tx}, (∀ t ∈ l, t ∈ h.lg) → (nsOf h l).was.ms.length ≤ 1000 ∧ (nsOf h l).now.ms.length ≤ 1000 := by
  have key : ∀ (l : List Tx) (s : NS), (∀ t ∈ l, t ∈ h.lg) → s.was.ms.length ≤ 1000 → s.now.ms.length ≤ 1000 → (l.foldl nsStep s).was.ms.length ≤ 1000 ∧ (l.foldl nsStep s).now.ms.length ≤ 1000 := by
    intro l
    induction l with
    | nil => intro s _ h1 h2; exact ⟨h1, h2⟩
    | cons t l ih =>
      intro s hl h1 h2
      refine ih _ (fun t' h' => hl t' (by simp [h'])) ?_ ?_
      all_goals
        unfold nsStep
        split
      · exact h1
      · exact h2
      · exact h2
      · rename_i c hc
        unfold lastC at hc
        cases hg : (t.ps.filter fun p => decide (p.k = 5)).getLast? with
        | none => rw [hg] at hc; simp at hc
        | some p =>
          rw [hg] at hc
          simp only [Option.map_some, Option.some.injEq] at hc
          rw [← hc]
          exact (hk.ps t (hl t (by simp))).2 p (List.mem_filter.1 (List.mem_of_getLast? hg)).1
  intro l hl
  exact key l _ hl hk.c hk.c
theorem base_con (h : Hy) : ACon Try.prog 35 [.p (.agg h.cells)] (.p (.agg [I h.im.ae, I h.im.an])) := by
  unfold Hy.cells
  refine wBody Try.tab Try.mixed Try.func35 rfl rfl Try.ntmps35 (by simp) (by simp) fun Q hr hn => ?_
  repeat' first | (refine hK _ ?_; clear hK) | (refine hK _ _ ?_; clear hK) | (clear hK; refine hK _ ?_; clear hK) | (clear hK; clear hK; refine hK _ ?_; clear hK) | (clear hK; clear hK; clear hK; refine hK _ ?_; clear hK) | (clear hK; clear hK; clear hK; clear hK; refine hK _ ?_; clear hK) | (refine wSeq fun K hK => ?_) | ((first | refine wReg ?_ | refine wDrwQ rfl (by kernel_rfl) ?_ | refine wDrwI ?_ | refine wDrw (by kernel_rfl) ?_); simp only [List.map_cons, List.map_nil, strip]) | ((first | refine wIs fun K hK => ?_ | refine wOs fun K hK => ?_ | refine wQs fun K hK => ?_ | refine CallK_plain ?_ | refine CallQ_plain ?_ | refine CallR_plain ?_ | refine wCond ?_); simp) | (refine wIn ?_; refine And.intro (by kernel_rfl) ?_; try simp only [thenA_n]) | (first | refine wBlock ?_ | refine wScope ?_) | ((first | refine wRet ?_ | refine wExit ?_ | refine wSkip ?_); try simp) | ((first | refine wLabel ?_ | refine wOn ?_ | refine wQn ?_); try simp only [thenA_n])
  all_goals apply hr
  all_goals simp [Try.f35]
end Go.Proofs.Ytegoihognjpcjaa


/- States: a number taken out of a row of the call's own. -/
namespace Go.Proofs.Ytegoihognjpcjaa
set_option linter.unusedSimpArgs false
set_option linter.unusedVariables false
open Go Go.Av
attribute [local simp] Try.T1 Try.T2 Try.T3 Try.T4 Try.T5 Try.T9 Try.T12 Try.T15 Try.T16 Try.T17 Try.T21 Try.T22 Try.T23 Try.T25 Try.T26 Try.T28 Try.T30 Try.T31 Try.T33 Try.T34 Try.T35 Try.T36 Try.T37 Try.T38 Try.T40 Try.T42 Try.T43 Try.T44 Try.T45 Try.T46 Try.T48 Try.T49 Try.T50 Try.T51 Try.T52 Try.T53 Try.T54 Try.T55 Try.T56 Try.T57 Try.T58 Try.T59 Try.T60 Try.T61 Try.T62 Try.T64 Try.T66 Try.T67 Try.T68 Try.T69 Try.T70 Try.T71 Try.T72 Try.T73 Try.T74 Try.T75 Try.T76 Try.T77 Try.T78 Try.T80 Try.T81 Try.T82 Try.T83 Try.T84 Try.T85 Try.T86 Try.T88 Try.T89 Try.T90 Try.T91 Try.T92 Try.T93 Try.T94 Try.T95 Try.T96 Try.T97 Try.T98 Try.T99 Try.T100 Try.T101 Try.T102 Try.T103 Try.T104 Try.T105 Try.T106 Try.T107 Try.T108 Try.T109 Try.T110 Try.T111 Try.T112 Try.T113 Try.T116 Try.T119 Try.T120 Try.T123 Try.T124
attribute [local irreducible] Go.Av.CallK Go.Av.CallE Go.Av.CallQ Go.Av.CallF Go.Av.CallR Go.Av.CallH Go.Av.Con
theorem wrapX (k n : Nat) (h : k < n) (hn : n ≤ 9223372036854775807) : IntKind.i64.wrap ((k : Int) + 1) = ((k + 1 : Nat) : Int) := by
  rw [wrap_id] <;> omega
def zis (l : List Int) : List (List PV) := l.map fun x => [I x]
@[simp] theorem zis_len (l : List Int) : (zis l).length = l.length := by simp [zis]
@[simp] theorem zis_getElem (l : List Int) (k : Nat) (h : k < (zis l).length) : (zis l)[k] = [I (l[k]'(by simpa using h))] := by simp [zis]
theorem zis_get {l : List Int} {k : Nat} (h : k < l.length) : (zis l)[k]? = some [I l[k]] := by simp [zis, h]
/-- The numbers but one. -/
def but (l : List Int) (n : Int) : List Int := l.filter fun x => !decide (x = n)
theorem but_snoc {l : List Int} {k : Nat} (h : k < l.length) (n : Int) : but (l.take (k + 1)) n = if l[k] = n then but (l.take k) n else but (l.take k) n ++ [l[k]] := by
  rw [List.take_succ_eq_append_getElem h]
  unfold but
  rw [List.filter_append]
  by_cases g : l[k] = n <;> simp [g]
theorem but_len (l : List Int) (n : Int) : (but l n).length ≤ l.length := List.length_filter_le _ _
end Go.Proofs.Ytegoihognjpcjaa

