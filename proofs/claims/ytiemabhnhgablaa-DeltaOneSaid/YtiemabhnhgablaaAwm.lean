/- The closed calls (awake), run. -/
import Derived.Test.YtiemabhnhgablaaAvRun
import Derived.Test.YtiemabhnhgablaaAvMore
import Derived.Test.YtiemabhnhgablaaTab
import Derived.Test.YtiemabhnhgablaaQLib
import Derived.WalkKit
namespace Go.Proofs.Ytiemabhnhgablaa
set_option linter.unusedSimpArgs false
set_option linter.unusedVariables false
open Go Go.Av
attribute [local simp] Try.T1 Try.T2 Try.T3 Try.T4 Try.T5 Try.T9 Try.T12 Try.T15 Try.T16 Try.T17 Try.T21 Try.T23 Try.T24 Try.T26 Try.T27 Try.T28 Try.T30 Try.T31 Try.T32 Try.T33 Try.T35 Try.T36 Try.T37 Try.T38 Try.T39 Try.T41 Try.T43 Try.T44 Try.T45 Try.T46 Try.T47 Try.T48 Try.T49 Try.T50 Try.T51 Try.T52 Try.T53 Try.T54 Try.T55 Try.T56 Try.T57 Try.T58 Try.T59 Try.T60 Try.T61 Try.T62 Try.T65 Try.T68 Try.T69 Try.T72 Try.T73
attribute [local irreducible] Go.Av.CallK Go.Av.CallE Go.Av.CallQ Go.Av.CallF Go.Av.CallR Go.Av.CallH Go.Av.Con
theorem clone23 (l : List (List PV)) (hl : l.length ≤ 1000000) : RCon 23 [.p (.sl 4 l)] 41 4 l := by
  refine wBodyR Try.tab Try.mixed Try.func23 rfl rfl Try.ntmps23 rfl (by simp) (by simp) fun Q hr hn => ?_
  repeat' first | (refine wRetG [.row 2 41 4] ?_) | (refine And.intro (by omega) (Or.inl ?_)) | (refine And.intro ?_ (fun hnil => ?_)) | (refine hK _ ?_; clear hK) | (refine hK _ _ ?_; clear hK) | (clear hK; refine hK _ ?_; clear hK) | (clear hK; clear hK; refine hK _ ?_; clear hK) | (clear hK; clear hK; clear hK; refine hK _ ?_; clear hK) | (clear hK; clear hK; clear hK; clear hK; refine hK _ ?_; clear hK) | (refine wSeq fun K hK => ?_) | ((first | refine wReg ?_ | refine wDrwQ rfl (by kernel_rfl) ?_ | refine wDrwI ?_ | refine wDrw (by kernel_rfl) ?_); simp only [List.map_cons, List.map_nil, strip]) | ((first | refine wIs fun K hK => ?_ | refine wOs fun K hK => ?_ | refine wQs fun K hK => ?_ | refine CallK_plain ?_ | refine CallQ_plain ?_ | refine CallR_plain ?_ | refine wCond ?_); simp) | (refine wIn ?_; refine And.intro (by kernel_rfl) ?_; try simp only [thenA_n]) | (first | refine wBlock ?_ | refine wScope ?_) | ((first | refine wRet ?_ | refine wExit ?_ | refine wSkip ?_); try simp) | ((first | refine wLabel ?_ | refine wOn ?_ | refine wQn ?_); try simp only [thenA_n])
  · refine hr _ 7 (by simp) (by simp) (by omega)
  · subst hnil
    simp only [thenA_r]
    refine hr _ 2 (by simp) (by simp) (by omega)
def cloneT : Nat → Option (Nat × Nat)
  | 23 => some (41, 4)
  | _ => none
theorem clone_ok {g e c : Nat} (h : cloneT g = some (e, c)) (l : List (List PV)) (hl : l.length ≤ 1000000) : RCon g [.p (.sl c l)] e c l := by
  unfold cloneT at h
  split at h
  · simp only [Option.some.injEq, Prod.mk.injEq] at h; obtain ⟨rfl, rfl⟩ := h; exact clone23 l hl
  · simp at h
def base : CallF' := fun g args β => match args, β with
  | [.p (.sl c' l)], [] => match cloneT g with
    | some (e, c) => if c' = c ∧ l.length ≤ 1000000 then some (.ret (.row 2048) [.row e c l] []) else none
    | none => none
  | _, _ => none
theorem base_ok : ∀ g args β out, base g args β = some out → Con Try.prog g args β out := fun g args β out h => by
  unfold base at h
  split at h
  · split at h
    · rename_i hc
      split at h
      · rename_i hl
        obtain ⟨rfl, hl⟩ := hl
        simp only [Option.some.injEq] at h; subst h
        exact clone_ok hc _ hl
      · simp at h
    · simp at h
  · simp at h
end Go.Proofs.Ytiemabhnhgablaa
