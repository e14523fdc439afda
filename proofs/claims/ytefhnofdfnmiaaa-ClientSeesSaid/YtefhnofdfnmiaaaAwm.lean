/- The closed calls (awake), run. -/
import Derived.Test.YtefhnofdfnmiaaaAvRun
import Derived.Test.YtefhnofdfnmiaaaAvMore
import Derived.Test.YtefhnofdfnmiaaaTab
import Derived.Test.YtefhnofdfnmiaaaQLib
import Derived.WalkKit
namespace Go.Proofs.Ytefhnofdfnmiaaa
set_option linter.unusedSimpArgs false
set_option linter.unusedVariables false
open Go Go.Av
attribute [local simp] Try.T1 Try.T2 Try.T3 Try.T4 Try.T5 Try.T9 Try.T12 Try.T15 Try.T16 Try.T17 Try.T21 Try.T22 Try.T23 Try.T24 Try.T26 Try.T27 Try.T29 Try.T30 Try.T32 Try.T33 Try.T34 Try.T35 Try.T36 Try.T38 Try.T40 Try.T42 Try.T43 Try.T45 Try.T47 Try.T49 Try.T50 Try.T51 Try.T53 Try.T54 Try.T55 Try.T56 Try.T57 Try.T59 Try.T61 Try.T63 Try.T65 Try.T66 Try.T67 Try.T69 Try.T70 Try.T71 Try.T72 Try.T73 Try.T74 Try.T75 Try.T76 Try.T78 Try.T79 Try.T80 Try.T81 Try.T82 Try.T83 Try.T84 Try.T85 Try.T86 Try.T87 Try.T88 Try.T89 Try.T90 Try.T91 Try.T92 Try.T93 Try.T94 Try.T95 Try.T96 Try.T97 Try.T98 Try.T99 Try.T101 Try.T102 Try.T103 Try.T104 Try.T105 Try.T106 Try.T107 Try.T108 Try.T109 Try.T112 Try.T115 Try.T116 Try.T119 Try.T120
attribute [local irreducible] Go.Av.CallK Go.Av.CallE Go.Av.CallQ Go.Av.CallF Go.Av.CallR Go.Av.CallH Go.Av.Con
theorem clone47 (l : List (List PV)) (hl : l.length ≤ 1000000) : RCon 47 [.p (.sl 6 l)] 45 6 l := by
  refine wBodyR Try.tab Try.mixed Try.func47 rfl rfl Try.ntmps47 rfl (by simp) (by simp) fun Q hr hn => ?_
  repeat' first | (refine wRetG [.row 2 45 6] ?_) | (refine And.intro (by omega) (Or.inl ?_)) | (refine And.intro ?_ (fun hnil => ?_)) | (refine hK _ ?_; clear hK) | (refine hK _ _ ?_; clear hK) | (clear hK; refine hK _ ?_; clear hK) | (clear hK; clear hK; refine hK _ ?_; clear hK) | (clear hK; clear hK; clear hK; refine hK _ ?_; clear hK) | (clear hK; clear hK; clear hK; clear hK; refine hK _ ?_; clear hK) | (refine wSeq fun K hK => ?_) | ((first | refine wReg ?_ | refine wDrwQ rfl (by kernel_rfl) ?_ | refine wDrwI ?_ | refine wDrw (by kernel_rfl) ?_); simp only [List.map_cons, List.map_nil, strip]) | ((first | refine wIs fun K hK => ?_ | refine wOs fun K hK => ?_ | refine wQs fun K hK => ?_ | refine CallK_plain ?_ | refine CallQ_plain ?_ | refine CallR_plain ?_ | refine wCond ?_); simp) | (refine wIn ?_; refine And.intro (by kernel_rfl) ?_; try simp only [thenA_n]) | (first | refine wBlock ?_ | refine wScope ?_) | ((first | refine wRet ?_ | refine wExit ?_ | refine wSkip ?_); try simp) | ((first | refine wLabel ?_ | refine wOn ?_ | refine wQn ?_); try simp only [thenA_n])
  · refine hr _ 7 (by simp) (by simp) (by omega)
  · subst hnil
    simp only [thenA_r]
    refine hr _ 2 (by simp) (by simp) (by omega)
theorem clone54 (l : List (List PV)) (hl : l.length ≤ 1000000) : RCon 54 [.p (.sl 6 l)] 61 6 l := by
  refine wBodyR Try.tab Try.mixed Try.func54 rfl rfl Try.ntmps54 rfl (by simp) (by simp) fun Q hr hn => ?_
  repeat' first | (refine wRetG [.row 2 61 6] ?_) | (refine And.intro (by omega) (Or.inl ?_)) | (refine And.intro ?_ (fun hnil => ?_)) | (refine hK _ ?_; clear hK) | (refine hK _ _ ?_; clear hK) | (clear hK; refine hK _ ?_; clear hK) | (clear hK; clear hK; refine hK _ ?_; clear hK) | (clear hK; clear hK; clear hK; refine hK _ ?_; clear hK) | (clear hK; clear hK; clear hK; clear hK; refine hK _ ?_; clear hK) | (refine wSeq fun K hK => ?_) | ((first | refine wReg ?_ | refine wDrwQ rfl (by kernel_rfl) ?_ | refine wDrwI ?_ | refine wDrw (by kernel_rfl) ?_); simp only [List.map_cons, List.map_nil, strip]) | ((first | refine wIs fun K hK => ?_ | refine wOs fun K hK => ?_ | refine wQs fun K hK => ?_ | refine CallK_plain ?_ | refine CallQ_plain ?_ | refine CallR_plain ?_ | refine wCond ?_); simp) | (refine wIn ?_; refine And.intro (by kernel_rfl) ?_; try simp only [thenA_n]) | (first | refine wBlock ?_ | refine wScope ?_) | ((first | refine wRet ?_ | refine wExit ?_ | refine wSkip ?_); try simp) | ((first | refine wLabel ?_ | refine wOn ?_ | refine wQn ?_); try simp only [thenA_n])
  · refine hr _ 7 (by simp) (by simp) (by omega)
  · subst hnil
    simp only [thenA_r]
    refine hr _ 2 (by simp) (by simp) (by omega)
theorem clone55 (l : List (List PV)) (hl : l.length ≤ 1000000) : RCon 55 [.p (.sl 4 l)] 101 4 l := by
  refine wBodyR Try.tab Try.mixed Try.func55 rfl rfl Try.ntmps55 rfl (by simp) (by simp) fun Q hr hn => ?_
  repeat' first | (refine wRetG [.row 2 101 4] ?_) | (refine And.intro (by omega) (Or.inl ?_)) | (refine And.intro ?_ (fun hnil => ?_)) | (refine hK _ ?_; clear hK) | (refine hK _ _ ?_; clear hK) | (clear hK; refine hK _ ?_; clear hK) | (clear hK; clear hK; refine hK _ ?_; clear hK) | (clear hK; clear hK; clear hK; refine hK _ ?_; clear hK) | (clear hK; clear hK; clear hK; clear hK; refine hK _ ?_; clear hK) | (refine wSeq fun K hK => ?_) | ((first | refine wReg ?_ | refine wDrwQ rfl (by kernel_rfl) ?_ | refine wDrwI ?_ | refine wDrw (by kernel_rfl) ?_); simp only [List.map_cons, List.map_nil, strip]) | ((first | refine wIs fun K hK => ?_ | refine wOs fun K hK => ?_ | refine wQs fun K hK => ?_ | refine CallK_plain ?_ | refine CallQ_plain ?_ | refine CallR_plain ?_ | refine wCond ?_); simp) | (refine wIn ?_; refine And.intro (by kernel_rfl) ?_; try simp only [thenA_n]) | (first | refine wBlock ?_ | refine wScope ?_) | ((first | refine wRet ?_ | refine wExit ?_ | refine wSkip ?_); try simp) | ((first | refine wLabel ?_ | refine wOn ?_ | refine wQn ?_); try simp only [thenA_n])
  · refine hr _ 7 (by simp) (by simp) (by omega)
  · subst hnil
    simp only [thenA_r]
    refine hr _ 2 (by simp) (by simp) (by omega)
theorem clone56 (l : List (List PV)) (hl : l.length ≤ 1000000) : RCon 56 [.p (.sl 1 l)] 3 1 l := by
  refine wBodyR Try.tab Try.mixed Try.func56 rfl rfl Try.ntmps56 rfl (by simp) (by simp) fun Q hr hn => ?_
  repeat' first | (refine wRetG [.row 2 3 1] ?_) | (refine And.intro (by omega) (Or.inl ?_)) | (refine And.intro ?_ (fun hnil => ?_)) | (refine hK _ ?_; clear hK) | (refine hK _ _ ?_; clear hK) | (clear hK; refine hK _ ?_; clear hK) | (clear hK; clear hK; refine hK _ ?_; clear hK) | (clear hK; clear hK; clear hK; refine hK _ ?_; clear hK) | (clear hK; clear hK; clear hK; clear hK; refine hK _ ?_; clear hK) | (refine wSeq fun K hK => ?_) | ((first | refine wReg ?_ | refine wDrwQ rfl (by kernel_rfl) ?_ | refine wDrwI ?_ | refine wDrw (by kernel_rfl) ?_); simp only [List.map_cons, List.map_nil, strip]) | ((first | refine wIs fun K hK => ?_ | refine wOs fun K hK => ?_ | refine wQs fun K hK => ?_ | refine CallK_plain ?_ | refine CallQ_plain ?_ | refine CallR_plain ?_ | refine wCond ?_); simp) | (refine wIn ?_; refine And.intro (by kernel_rfl) ?_; try simp only [thenA_n]) | (first | refine wBlock ?_ | refine wScope ?_) | ((first | refine wRet ?_ | refine wExit ?_ | refine wSkip ?_); try simp) | ((first | refine wLabel ?_ | refine wOn ?_ | refine wQn ?_); try simp only [thenA_n])
  · refine hr _ 7 (by simp) (by simp) (by omega)
  · subst hnil
    simp only [thenA_r]
    refine hr _ 2 (by simp) (by simp) (by omega)
theorem clone60 (l : List (List PV)) (hl : l.length ≤ 1000000) : RCon 60 [.p (.sl 1 l)] 9 1 l := by
  refine wBodyR Try.tab Try.mixed Try.func60 rfl rfl Try.ntmps60 rfl (by simp) (by simp) fun Q hr hn => ?_
  repeat' first | (refine wRetG [.row 2 9 1] ?_) | (refine And.intro (by omega) (Or.inl ?_)) | (refine And.intro ?_ (fun hnil => ?_)) | (refine hK _ ?_; clear hK) | (refine hK _ _ ?_; clear hK) | (clear hK; refine hK _ ?_; clear hK) | (clear hK; clear hK; refine hK _ ?_; clear hK) | (clear hK; clear hK; clear hK; refine hK _ ?_; clear hK) | (clear hK; clear hK; clear hK; clear hK; refine hK _ ?_; clear hK) | (refine wSeq fun K hK => ?_) | ((first | refine wReg ?_ | refine wDrwQ rfl (by kernel_rfl) ?_ | refine wDrwI ?_ | refine wDrw (by kernel_rfl) ?_); simp only [List.map_cons, List.map_nil, strip]) | ((first | refine wIs fun K hK => ?_ | refine wOs fun K hK => ?_ | refine wQs fun K hK => ?_ | refine CallK_plain ?_ | refine CallQ_plain ?_ | refine CallR_plain ?_ | refine wCond ?_); simp) | (refine wIn ?_; refine And.intro (by kernel_rfl) ?_; try simp only [thenA_n]) | (first | refine wBlock ?_ | refine wScope ?_) | ((first | refine wRet ?_ | refine wExit ?_ | refine wSkip ?_); try simp) | ((first | refine wLabel ?_ | refine wOn ?_ | refine wQn ?_); try simp only [thenA_n])
  · refine hr _ 7 (by simp) (by simp) (by omega)
  · subst hnil
    simp only [thenA_r]
    refine hr _ 2 (by simp) (by simp) (by omega)
def cloneT : Nat → Option (Nat × Nat)
  | 47 => some (45, 6)
  | 54 => some (61, 6)
  | 55 => some (101, 4)
  | 56 => some (3, 1)
  | 60 => some (9, 1)
  | _ => none
theorem clone_ok {g e c : Nat} (h : cloneT g = some (e, c)) (l : List (List PV)) (hl : l.length ≤ 1000000) : RCon g [.p (.sl c l)] e c l := by
  unfold cloneT at h
  split at h
  · simp only [Option.some.injEq, Prod.mk.injEq] at h; obtain ⟨rfl, rfl⟩ := h; exact clone47 l hl
  · simp only [Option.some.injEq, Prod.mk.injEq] at h; obtain ⟨rfl, rfl⟩ := h; exact clone54 l hl
  · simp only [Option.some.injEq, Prod.mk.injEq] at h; obtain ⟨rfl, rfl⟩ := h; exact clone55 l hl
  · simp only [Option.some.injEq, Prod.mk.injEq] at h; obtain ⟨rfl, rfl⟩ := h; exact clone56 l hl
  · simp only [Option.some.injEq, Prod.mk.injEq] at h; obtain ⟨rfl, rfl⟩ := h; exact clone60 l hl
  · simp at h
def base : CallF' := fun g args β => match args, β with
  | [.p (.sl c' l)], [] => match cloneT g with
    | some (e, c) => if c' = c ∧ l.length ≤ 1000000 then some (.ret (.row 2048) [.row e c l] []) else none
    | none => none
  | _, _ => none
theorem base_ok : ∀ g args β out, base g args β = some out → Con Try.prog g args β out := fun g args β out h => by
  unfold base at h
  split at h
  · split at h
    · rename_i hc
      split at h
      · rename_i hl
        obtain ⟨rfl, hl⟩ := hl
        simp only [Option.some.injEq] at h; subst h
        exact clone_ok hc _ hl
      · simp at h
    · simp at h
  · simp at h
end Go.Proofs.Ytefhnofdfnmiaaa
