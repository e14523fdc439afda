/- Texts that the proof needs: Awm Aw25 LT1. -/
import Derived.Test.YtechjohebkcjiaaP18LinkTakes
import Derived.Test.YtechjohebkcjiaaP14LinkTakes
import Derived.Test.YtechjohebkcjiaaP17LinkTakes
import Derived.Test.YtechjohebkcjiaaP19LinkTakes
import Derived.WalkKit
import Derived.Test.YtechjohebkcjiaaP29LinkTakes
import Derived.Test.YtechjohebkcjiaaP30LinkTakes
import Derived.Test.YtechjohebkcjiaaP33LinkTakes
import Derived.Test.YtechjohebkcjiaaP35LinkTakes
/- The closed calls (awake), run. -/
namespace Go.Proofs.Ytechjohebkcjiaa
set_option linter.unusedSimpArgs false
set_option linter.unusedVariables false
open Go Go.Av
attribute [local simp] Try.T1 Try.T2 Try.T3 Try.T4 Try.T5 Try.T9 Try.T12 Try.T15 Try.T16 Try.T17 Try.T21 Try.T22 Try.T23 Try.T24 Try.T25 Try.T27 Try.T29 Try.T30 Try.T31 Try.T32 Try.T33 Try.T35 Try.T37 Try.T38 Try.T40 Try.T41 Try.T42 Try.T44 Try.T45 Try.T47 Try.T49 Try.T51 Try.T53 Try.T54 Try.T55 Try.T56 Try.T57 Try.T58 Try.T59 Try.T60 Try.T61 Try.T62 Try.T63 Try.T64 Try.T66 Try.T67 Try.T68 Try.T69 Try.T70 Try.T72 Try.T74 Try.T76 Try.T77 Try.T78 Try.T79 Try.T80 Try.T81 Try.T82 Try.T83 Try.T84 Try.T85 Try.T87 Try.T88 Try.T89 Try.T90 Try.T91 Try.T92 Try.T93 Try.T94 Try.T96 Try.T97 Try.T98 Try.T99 Try.T100 Try.T101 Try.T102 Try.T103 Try.T104 Try.T105 Try.T106 Try.T107 Try.T108 Try.T109 Try.T110 Try.T111 Try.T113 Try.T114 Try.T115 Try.T116 Try.T117 Try.T118 Try.T119 Try.T120 Try.T121 Try.T122 Try.T123 Try.T124 Try.T125 Try.T126 Try.T127 Try.T128 Try.T129 Try.T130 Try.T133 Try.T136 Try.T137 Try.T140 Try.T141
attribute [local irreducible] Go.Av.CallK Go.Av.CallE Go.Av.CallQ Go.Av.CallF Go.Av.CallR Go.Av.CallH Go.Av.Con
theorem clone31 (l : List (List PV)) (hl : l.length ≤ 1000000) : RCon 31 [.p (.sl 46 l)] 51 46 l := by
  refine wBodyR Try.tab Try.mixed Try.func31 rfl rfl Try.ntmps31 rfl (by simp) (by simp) fun Q hr hn => ?_
  repeat' first | (refine wRetG [.row 2 51 46] ?_) | (refine And.intro (by omega) (Or.inl ?_)) | (refine And.intro ?_ (fun hnil => ?_)) | (refine hK _ ?_; clear hK) | (refine hK _ _ ?_; clear hK) | (clear hK; refine hK _ ?_; clear hK) | (clear hK; clear hK; refine hK _ ?_; clear hK) | (clear hK; clear hK; clear hK; refine hK _ ?_; clear hK) | (clear hK; clear hK; clear hK; clear hK; refine hK _ ?_; clear hK) | (refine wSeq fun K hK => ?_) | ((first | refine wReg ?_ | refine wDrwQ rfl (by kernel_rfl) ?_ | refine wDrwI ?_ | refine wDrw (by kernel_rfl) ?_); simp only [List.map_cons, List.map_nil, strip]) | ((first | refine wIs fun K hK => ?_ | refine wOs fun K hK => ?_ | refine wQs fun K hK => ?_ | refine CallK_plain ?_ | refine CallQ_plain ?_ | refine CallR_plain ?_ | refine wCond ?_); simp) | (refine wIn ?_; refine And.intro (by kernel_rfl) ?_; try simp only [thenA_n]) | (first | refine wBlock ?_ | refine wScope ?_) | ((first | refine wRet ?_ | refine wExit ?_ | refine wSkip ?_); try simp) | ((first | refine wLabel ?_ | refine wOn ?_ | refine wQn ?_); try simp only [thenA_n])
  · refine hr _ 7 (by simp) (by simp) (by omega)
  · subst hnil
    simp only [thenA_r]
    refine hr _ 2 (by simp) (by simp) (by omega)
theorem clone34 (l : List (List PV)) (hl : l.length ≤ 1000000) : RCon 34 [.p (.sl 2 l)] 27 2 l := by
  refine wBodyR Try.tab Try.mixed Try.func34 rfl rfl Try.ntmps34 rfl (by simp) (by simp) fun Q hr hn => ?_
  repeat' first | (refine wRetG [.row 2 27 2] ?_) | (refine And.intro (by omega) (Or.inl ?_)) | (refine And.intro ?_ (fun hnil => ?_)) | (refine hK _ ?_; clear hK) | (refine hK _ _ ?_; clear hK) | (clear hK; refine hK _ ?_; clear hK) | (clear hK; clear hK; refine hK _ ?_; clear hK) | (clear hK; clear hK; clear hK; refine hK _ ?_; clear hK) | (clear hK; clear hK; clear hK; clear hK; refine hK _ ?_; clear hK) | (refine wSeq fun K hK => ?_) | ((first | refine wReg ?_ | refine wDrwQ rfl (by kernel_rfl) ?_ | refine wDrwI ?_ | refine wDrw (by kernel_rfl) ?_); simp only [List.map_cons, List.map_nil, strip]) | ((first | refine wIs fun K hK => ?_ | refine wOs fun K hK => ?_ | refine wQs fun K hK => ?_ | refine CallK_plain ?_ | refine CallQ_plain ?_ | refine CallR_plain ?_ | refine wCond ?_); simp) | (refine wIn ?_; refine And.intro (by kernel_rfl) ?_; try simp only [thenA_n]) | (first | refine wBlock ?_ | refine wScope ?_) | ((first | refine wRet ?_ | refine wExit ?_ | refine wSkip ?_); try simp) | ((first | refine wLabel ?_ | refine wOn ?_ | refine wQn ?_); try simp only [thenA_n])
  · refine hr _ 7 (by simp) (by simp) (by omega)
  · subst hnil
    simp only [thenA_r]
    refine hr _ 2 (by simp) (by simp) (by omega)
theorem clone37 (l : List (List PV)) (hl : l.length ≤ 1000000) : RCon 37 [.p (.sl 1 l)] 3 1 l := by
  refine wBodyR Try.tab Try.mixed Try.func37 rfl rfl Try.ntmps37 rfl (by simp) (by simp) fun Q hr hn => ?_
  repeat' first | (refine wRetG [.row 2 3 1] ?_) | (refine And.intro (by omega) (Or.inl ?_)) | (refine And.intro ?_ (fun hnil => ?_)) | (refine hK _ ?_; clear hK) | (refine hK _ _ ?_; clear hK) | (clear hK; refine hK _ ?_; clear hK) | (clear hK; clear hK; refine hK _ ?_; clear hK) | (clear hK; clear hK; clear hK; refine hK _ ?_; clear hK) | (clear hK; clear hK; clear hK; clear hK; refine hK _ ?_; clear hK) | (refine wSeq fun K hK => ?_) | ((first | refine wReg ?_ | refine wDrwQ rfl (by kernel_rfl) ?_ | refine wDrwI ?_ | refine wDrw (by kernel_rfl) ?_); simp only [List.map_cons, List.map_nil, strip]) | ((first | refine wIs fun K hK => ?_ | refine wOs fun K hK => ?_ | refine wQs fun K hK => ?_ | refine CallK_plain ?_ | refine CallQ_plain ?_ | refine CallR_plain ?_ | refine wCond ?_); simp) | (refine wIn ?_; refine And.intro (by kernel_rfl) ?_; try simp only [thenA_n]) | (first | refine wBlock ?_ | refine wScope ?_) | ((first | refine wRet ?_ | refine wExit ?_ | refine wSkip ?_); try simp) | ((first | refine wLabel ?_ | refine wOn ?_ | refine wQn ?_); try simp only [thenA_n])
  · refine hr _ 7 (by simp) (by simp) (by omega)
  · subst hnil
    simp only [thenA_r]
    refine hr _ 2 (by simp) (by simp) (by omega)
theorem clone53 (l : List (List PV)) (hl : l.length ≤ 1000000) : RCon 53 [.p (.sl 6 l)] 76 6 l := by
  refine wBodyR Try.tab Try.mixed Try.func53 rfl rfl Try.ntmps53 rfl (by simp) (by simp) fun Q hr hn => ?_
  repeat' first | (refine wRetG [.row 2 76 6] ?_) | (refine And.intro (by omega) (Or.inl ?_)) | (refine And.intro ?_ (fun hnil => ?_)) | (refine hK _ ?_; clear hK) | (refine hK _ _ ?_; clear hK) | (clear hK; refine hK _ ?_; clear hK) | (clear hK; clear hK; refine hK _ ?_; clear hK) | (clear hK; clear hK; clear hK; refine hK _ ?_; clear hK) | (clear hK; clear hK; clear hK; clear hK; refine hK _ ?_; clear hK) | (refine wSeq fun K hK => ?_) | ((first | refine wReg ?_ | refine wDrwQ rfl (by kernel_rfl) ?_ | refine wDrwI ?_ | refine wDrw (by kernel_rfl) ?_); simp only [List.map_cons, List.map_nil, strip]) | ((first | refine wIs fun K hK => ?_ | refine wOs fun K hK => ?_ | refine wQs fun K hK => ?_ | refine CallK_plain ?_ | refine CallQ_plain ?_ | refine CallR_plain ?_ | refine wCond ?_); simp) | (refine wIn ?_; refine And.intro (by kernel_rfl) ?_; try simp only [thenA_n]) | (first | refine wBlock ?_ | refine wScope ?_) | ((first | refine wRet ?_ | refine wExit ?_ | refine wSkip ?_); try simp) | ((first | refine wLabel ?_ | refine wOn ?_ | refine wQn ?_); try simp only [thenA_n])
  · refine hr _ 7 (by simp) (by simp) (by omega)
  · subst hnil
    simp only [thenA_r]
    refine hr _ 2 (by simp) (by simp) (by omega)
theorem clone54 (l : List (List PV)) (hl : l.length ≤ 1000000) : RCon 54 [.p (.sl 4 l)] 113 4 l := by
  refine wBodyR Try.tab Try.mixed Try.func54 rfl rfl Try.ntmps54 rfl (by simp) (by simp) fun Q hr hn => ?_
  repeat' first | (refine wRetG [.row 2 113 4] ?_) | (refine And.intro (by omega) (Or.inl ?_)) | (refine And.intro ?_ (fun hnil => ?_)) | (refine hK _ ?_; clear hK) | (refine hK _ _ ?_; clear hK) | (clear hK; refine hK _ ?_; clear hK) | (clear hK; clear hK; refine hK _ ?_; clear hK) | (clear hK; clear hK; clear hK; refine hK _ ?_; clear hK) | (clear hK; clear hK; clear hK; clear hK; refine hK _ ?_; clear hK) | (refine wSeq fun K hK => ?_) | ((first | refine wReg ?_ | refine wDrwQ rfl (by kernel_rfl) ?_ | refine wDrwI ?_ | refine wDrw (by kernel_rfl) ?_); simp only [List.map_cons, List.map_nil, strip]) | ((first | refine wIs fun K hK => ?_ | refine wOs fun K hK => ?_ | refine wQs fun K hK => ?_ | refine CallK_plain ?_ | refine CallQ_plain ?_ | refine CallR_plain ?_ | refine wCond ?_); simp) | (refine wIn ?_; refine And.intro (by kernel_rfl) ?_; try simp only [thenA_n]) | (first | refine wBlock ?_ | refine wScope ?_) | ((first | refine wRet ?_ | refine wExit ?_ | refine wSkip ?_); try simp) | ((first | refine wLabel ?_ | refine wOn ?_ | refine wQn ?_); try simp only [thenA_n])
  · refine hr _ 7 (by simp) (by simp) (by omega)
  · subst hnil
    simp only [thenA_r]
    refine hr _ 2 (by simp) (by simp) (by omega)
theorem clone62 (l : List (List PV)) (hl : l.length ≤ 1000000) : RCon 62 [.p (.sl 5 l)] 72 5 l := by
  refine wBodyR Try.tab Try.mixed Try.func62 rfl rfl Try.ntmps62 rfl (by simp) (by simp) fun Q hr hn => ?_
  repeat' first | (refine wRetG [.row 2 72 5] ?_) | (refine And.intro (by omega) (Or.inl ?_)) | (refine And.intro ?_ (fun hnil => ?_)) | (refine hK _ ?_; clear hK) | (refine hK _ _ ?_; clear hK) | (clear hK; refine hK _ ?_; clear hK) | (clear hK; clear hK; refine hK _ ?_; clear hK) | (clear hK; clear hK; clear hK; refine hK _ ?_; clear hK) | (clear hK; clear hK; clear hK; clear hK; refine hK _ ?_; clear hK) | (refine wSeq fun K hK => ?_) | ((first | refine wReg ?_ | refine wDrwQ rfl (by kernel_rfl) ?_ | refine wDrwI ?_ | refine wDrw (by kernel_rfl) ?_); simp only [List.map_cons, List.map_nil, strip]) | ((first | refine wIs fun K hK => ?_ | refine wOs fun K hK => ?_ | refine wQs fun K hK => ?_ | refine CallK_plain ?_ | refine CallQ_plain ?_ | refine CallR_plain ?_ | refine wCond ?_); simp) | (refine wIn ?_; refine And.intro (by kernel_rfl) ?_; try simp only [thenA_n]) | (first | refine wBlock ?_ | refine wScope ?_) | ((first | refine wRet ?_ | refine wExit ?_ | refine wSkip ?_); try simp) | ((first | refine wLabel ?_ | refine wOn ?_ | refine wQn ?_); try simp only [thenA_n])
  · refine hr _ 7 (by simp) (by simp) (by omega)
  · subst hnil
    simp only [thenA_r]
    refine hr _ 2 (by simp) (by simp) (by omega)
def cloneT : Nat → Option (Nat × Nat)
  | 31 => some (51, 46)
  | 34 => some (27, 2)
  | 37 => some (3, 1)
  | 53 => some (76, 6)
  | 54 => some (113, 4)
  | 62 => some (72, 5)
  | _ => none
theorem clone_ok {g e c : Nat} (h : cloneT g = some (e, c)) (l : List (List PV)) (hl : l.length ≤ 1000000) : RCon g [.p (.sl c l)] e c l := by
  unfold cloneT at h
  split at h
  · simp only [Option.some.injEq, Prod.mk.injEq] at h; obtain ⟨rfl, rfl⟩ := h; exact clone31 l hl
  · simp only [Option.some.injEq, Prod.mk.injEq] at h; obtain ⟨rfl, rfl⟩ := h; exact clone34 l hl
  · simp only [Option.some.injEq, Prod.mk.injEq] at h; obtain ⟨rfl, rfl⟩ := h; exact clone37 l hl
  · simp only [Option.some.injEq, Prod.mk.injEq] at h; obtain ⟨rfl, rfl⟩ := h; exact clone53 l hl
  · simp only [Option.some.injEq, Prod.mk.injEq] at h; obtain ⟨rfl, rfl⟩ := h; exact clone54 l hl
  · simp only [Option.some.injEq, Prod.mk.injEq] at h; obtain ⟨rfl, rfl⟩ := h; exact clone62 l hl
  · simp at h
def base : CallF' := fun g args β => match args, β with
  | [.p (.sl c' l)], [] => match cloneT g with
    | some (e, c) => if c' = c ∧ l.length ≤ 1000000 then some (.ret (.row 2048) [.row e c l] []) else none
    | none => none
  | _, _ => none
theorem base_ok : ∀ g args β out, base g args β = some out → Con Try.prog g args β out := fun g args β out h => by
  unfold base at h
  split at h
  · split at h
    · rename_i hc
      split at h
      · rename_i hl
        obtain ⟨rfl, hl⟩ := hl
        simp only [Option.some.injEq] at h; subst h
        exact clone_ok hc _ hl
      · simp at h
    · simp at h
  · simp at h
end Go.Proofs.Ytechjohebkcjiaa
/- awake of layer 25. -/
namespace Go.Proofs.Ytechjohebkcjiaa
open Go Go.Av
theorem awake25 : ACon Try.prog 7 [] (.p (B true)) := xCall_sound Try.tab Try.mixed base_ok 40 _ _ _ _ (by kernel_rfl)
end Go.Proofs.Ytechjohebkcjiaa
/- One message taken, those between two or of one lost: the law LinkTakes. -/
namespace Go.Proofs.Ytechjohebkcjiaa
set_option linter.unusedSimpArgs false
set_option linter.unusedVariables false
set_option maxRecDepth 8000
open Go Go.Av
attribute [local simp] Try.T1 Try.T2 Try.T3 Try.T4 Try.T5 Try.T9 Try.T12 Try.T15 Try.T16 Try.T17 Try.T21 Try.T22 Try.T23 Try.T24 Try.T25 Try.T27 Try.T29 Try.T30 Try.T31 Try.T32 Try.T33 Try.T35 Try.T37 Try.T38 Try.T40 Try.T41 Try.T42 Try.T44 Try.T45 Try.T47 Try.T49 Try.T51 Try.T53 Try.T54 Try.T55 Try.T56 Try.T57 Try.T58 Try.T59 Try.T60 Try.T61 Try.T62 Try.T63 Try.T64 Try.T66 Try.T67 Try.T68 Try.T69 Try.T70 Try.T72 Try.T74 Try.T76 Try.T77 Try.T78 Try.T79 Try.T80 Try.T81 Try.T82 Try.T83 Try.T84 Try.T85 Try.T87 Try.T88 Try.T89 Try.T90 Try.T91 Try.T92 Try.T93 Try.T94 Try.T96 Try.T97 Try.T98 Try.T99 Try.T100 Try.T101 Try.T102 Try.T103 Try.T104 Try.T105 Try.T106 Try.T107 Try.T108 Try.T109 Try.T110 Try.T111 Try.T113 Try.T114 Try.T115 Try.T116 Try.T117 Try.T118 Try.T119 Try.T120 Try.T121 Try.T122 Try.T123 Try.T124 Try.T125 Try.T126 Try.T127 Try.T128 Try.T129 Try.T130 Try.T133 Try.T136 Try.T137 Try.T140 Try.T141
attribute [local irreducible] Go.Av.CallK Go.Av.CallE Go.Av.CallQ Go.Av.CallF Go.Av.CallR Go.Av.CallH Go.Av.Con
theorem intsN_con (l : List Nat) (hl : l.length ≤ 2000000) : ACon Try.prog 12 [.p (.sl 1 (nis l)), .p (.sl 1 (nis l))] (.p (B true)) := by
  refine wBody Try.tab Try.mixed Try.func12 rfl rfl Try.ntmps12 (by simp) (by simp) fun Q hr hn => ?_
  repeat' first | (refine hK _ ?_; clear hK) | (refine hK _ _ ?_; clear hK) | (clear hK; refine hK _ ?_; clear hK) | (clear hK; clear hK; refine hK _ ?_; clear hK) | (clear hK; clear hK; clear hK; refine hK _ ?_; clear hK) | (clear hK; clear hK; clear hK; clear hK; refine hK _ ?_; clear hK) | (refine wSeq fun K hK => ?_) | ((first | refine wReg ?_ | refine wDrwQ rfl (by kernel_rfl) ?_ | refine wDrwI ?_ | refine wDrw (by kernel_rfl) ?_); simp only [List.map_cons, List.map_nil, strip]) | ((first | refine wIs fun K hK => ?_ | refine wOs fun K hK => ?_ | refine wQs fun K hK => ?_ | refine CallK_plain ?_ | refine CallQ_plain ?_ | refine CallR_plain ?_ | refine wCond ?_); simp) | (refine wIn ?_; refine And.intro (by kernel_rfl) ?_; try simp only [thenA_n]) | (first | refine wBlock ?_ | refine wScope ?_) | ((first | refine wRet ?_ | refine wExit ?_ | refine wSkip ?_); try simp) | ((first | refine wLabel ?_ | refine wOn ?_ | refine wQn ?_); try simp only [thenA_n])
  refine wLoop (fun N st => ∃ k, k + N = l.length ∧ st.s 0 = .p (.sl 1 (nis l)) ∧ st.s 1 = .p (.sl 1 (nis l)) ∧ st.s 12 = .p (I l.length) ∧ st.s 13 = .p (I k)) l.length ⟨0, by simp⟩ fun K N st hL ⟨k, hk, g0, g1, g12, g13⟩ => ?_
  by_cases hlt : k < l.length
  · have hlt' : (k : Int) < l.length := by omega
    have hw := wrapS k _ hlt (by omega)
    have he := nis_get hlt
    generalize hQ : l[k] = x at *
    repeat' first | (refine hK _ ?_; clear hK) | (refine hK _ _ ?_; clear hK) | (clear hK; refine hK _ ?_; clear hK) | (clear hK; clear hK; refine hK _ ?_; clear hK) | (clear hK; clear hK; clear hK; refine hK _ ?_; clear hK) | (clear hK; clear hK; clear hK; clear hK; refine hK _ ?_; clear hK) | (refine wSeq fun K hK => ?_) | ((first | refine wReg ?_ | refine wDrwQ rfl (by kernel_rfl) ?_ | refine wDrwI ?_ | refine wDrw (by kernel_rfl) ?_); simp only [List.map_cons, List.map_nil, strip]) | ((first | refine wIs fun K hK => ?_ | refine wOs fun K hK => ?_ | refine wQs fun K hK => ?_ | refine CallK_plain ?_ | refine CallQ_plain ?_ | refine CallR_plain ?_ | refine wCond ?_); simp [g0, g1, g12, g13, hlt, hlt', hw, he, hQ]) | (refine wIn ?_; refine And.intro (by kernel_rfl) ?_; try simp only [thenA_n]) | (first | refine wBlock ?_ | refine wScope ?_) | ((first | refine wRet ?_ | refine wExit ?_ | refine wSkip ?_); try simp) | ((first | refine wLabel ?_ | refine wOn ?_ | refine wQn ?_); try simp only [thenA_n])
    refine hL _ (N - 1) (by omega) ⟨k + 1, by omega, ?_⟩
    simp [g0, g1, g12, g13, hw]
  · have hlt' : ¬ (k : Int) < l.length := by omega
    repeat' first | (refine hK _ ?_; clear hK) | (refine hK _ _ ?_; clear hK) | (clear hK; refine hK _ ?_; clear hK) | (clear hK; clear hK; refine hK _ ?_; clear hK) | (clear hK; clear hK; clear hK; refine hK _ ?_; clear hK) | (clear hK; clear hK; clear hK; clear hK; refine hK _ ?_; clear hK) | (refine wSeq fun K hK => ?_) | ((first | refine wReg ?_ | refine wDrwQ rfl (by kernel_rfl) ?_ | refine wDrwI ?_ | refine wDrw (by kernel_rfl) ?_); simp only [List.map_cons, List.map_nil, strip]) | ((first | refine wIs fun K hK => ?_ | refine wOs fun K hK => ?_ | refine wQs fun K hK => ?_ | refine CallK_plain ?_ | refine CallQ_plain ?_ | refine CallR_plain ?_ | refine wCond ?_); simp [g0, g1, g12, g13, hlt, hlt']) | (refine wIn ?_; refine And.intro (by kernel_rfl) ?_; try simp only [thenA_n]) | (first | refine wBlock ?_ | refine wScope ?_) | ((first | refine wRet ?_ | refine wExit ?_ | refine wSkip ?_); try simp) | ((first | refine wLabel ?_ | refine wOn ?_ | refine wQn ?_); try simp only [thenA_n])
    all_goals apply hr
    all_goals simp [Try.f12]
set_option maxHeartbeats 16000000 in
theorem linkTakes_con (l : List Mq) (k a b : Int) (ho : ∀ m ∈ l, OkM m) (hl : l.length ≤ 1048576) : ACon Try.prog 3 [.p (.sl 46 (mqs l)), .p (I k), .p (.agg [I a, I b])] (.p (B true)) := by
  have ca := awake25
  obtain ⟨D1, c1, hD1⟩ := far25_con (mqs l) (fun r hr => by obtain ⟨m, hm, rfl⟩ := List.mem_map.1 hr; exact (ho m hm).ok) (fun r hr => by obtain ⟨m, hm, rfl⟩ := List.mem_map.1 hr; exact (ho m hm).z) (by simpa using hl)
  cases D1
  case true =>
    refine wBody Try.tab Try.mixed Try.func3 rfl rfl Try.ntmps3 (by simp) (by simp) fun Q hr hn => ?_
    repeat' first | (refine hK _ ?_; clear hK) | (refine hK _ _ ?_; clear hK) | (clear hK; refine hK _ ?_; clear hK) | (clear hK; clear hK; refine hK _ ?_; clear hK) | (clear hK; clear hK; clear hK; refine hK _ ?_; clear hK) | (clear hK; clear hK; clear hK; clear hK; refine hK _ ?_; clear hK) | (refine wSeq fun K hK => ?_) | ((first | refine wReg ?_ | refine wDrwQ rfl (by kernel_rfl) ?_ | refine wDrwI ?_ | refine wDrw (by kernel_rfl) ?_); simp only [List.map_cons, List.map_nil, strip]) | ((first | refine wIs fun K hK => ?_ | refine wOs fun K hK => ?_ | refine wQs fun K hK => ?_ | refine CallK_plain ?_ | refine CallQ_plain ?_ | refine CallR_plain ?_ | refine wCond ?_); simp) | (refine wIn ?_; refine And.intro (by kernel_rfl) ?_; try simp only [thenA_n]) | (first | refine wBlock ?_ | refine wScope ?_) | ((first | refine wRet ?_ | refine wExit ?_ | refine wSkip ?_); try simp) | ((first | refine wLabel ?_ | refine wOn ?_ | refine wQn ?_); try simp only [thenA_n]) | (refine CallE.pure (c1) rfl ?_) | (refine CallE.lent (c1) rfl ?_) | (refine CallF.pure (c1) rfl ?_) | (refine CallF.lent (c1) rfl ?_) | (refine CallE.own (c1) ?_) | (refine CallH.pure (c1) rfl ?_) | (refine CallH.lent (c1) rfl ?_) | (refine CallH.own (c1) ?_) | (refine CallE.pure (ca) rfl ?_) | (refine CallE.lent (ca) rfl ?_) | (refine CallF.pure (ca) rfl ?_) | (refine CallF.lent (ca) rfl ?_) | (refine CallE.own (ca) ?_) | (refine CallH.pure (ca) rfl ?_) | (refine CallH.lent (ca) rfl ?_) | (refine CallH.own (ca) ?_)
    all_goals apply hr
    all_goals simp [Try.f3]
  have hP := hD1 rfl
  have hl1 := hP.len
  rw [mqs_len] at hl1
  have hw1 : ∀ m ∈ l, fMs.ok m.cells ∧ w5Ms m.cells ≤ 700 := fun m h => ⟨(ho m h).ok, hP.w _ (List.mem_map.2 ⟨m, h, rfl⟩)⟩
  have cT := take_con l k ho (by omega)
  have cU := take25_con l k ho (by omega)
  have cF := firstsAll_con l hl
  have cG := firsts25_con l hl
  have cI := intsN_con (fsF l l.length) (by have := fs_len l l.length; omega)
  have cR := reset_con l a b ho hl
  have cS := reset25_con l a b ho hl
  have cA := alone_con l k ho hl
  have cB := alone25_con l k ho hl
  have sR := sameMs_con (l.filter fun m => !decide (two m.fr m.to = two a b)) (fun m h => hw1 m (List.mem_filter.1 h).1) (Nat.le_trans (List.length_filter_le _ _) hl)
  have sA := sameMs_con (l.filter fun m => decide (m.fr ≠ k ∧ m.to ≠ k)) (fun m h => hw1 m (List.mem_filter.1 h).1) (Nat.le_trans (List.length_filter_le _ _) hl)
  obtain ⟨m, X, is, hV, cM, cX⟩ : ∃ (m : Mq) (X : List Mq) (is : Bool), tkV l k = .tup [.p (.agg m.cells), .p (.sl 46 (mqs X)), .p (B is)] ∧ ACon Try.prog 10 [.p (.agg m.cells), .p (.agg m.cells)] (.p (B true)) ∧ ACon Try.prog 11 [.p (.sl 46 (mqs X)), .p (.sl 46 (mqs X))] (.p (B true)) := by
    unfold tkV
    cases hA : tkA l k with
    | none => exact ⟨mq0, l, false, rfl, sameM_con mq0 fMs_L.zok (by decide +kernel), sameMs_con l hw1 hl⟩
    | some i =>
      have hi : i < l.length := by
        unfold tkA at hA
        split at hA
        · cases hA
        · exact fs_lt l _ i (List.mem_of_getElem? hA)
      refine ⟨l[i], l.eraseIdx i, true, by simp [hi], sameM_con _ (hw1 _ (List.getElem_mem hi)).1 (hw1 _ (List.getElem_mem hi)).2, sameMs_con _ (fun m h => hw1 m (List.mem_of_mem_eraseIdx h)) (by rw [List.length_eraseIdx_of_lt hi]; omega)⟩
  rw [hV] at cT cU
  generalize l.filter (fun m => !decide (two m.fr m.to = two a b)) = L1 at *
  generalize l.filter (fun m => decide (m.fr ≠ k ∧ m.to ≠ k)) = L2 at *
  generalize fsF l l.length = F at *
  clear hV hP hD1 hw1 ho
  refine wBody Try.tab Try.mixed Try.func3 rfl rfl Try.ntmps3 (by simp) (by simp) fun Q hr hn => ?_
  repeat' first | (refine hK _ ?_; clear hK) | (refine hK _ _ ?_; clear hK) | (clear hK; refine hK _ ?_; clear hK) | (clear hK; clear hK; refine hK _ ?_; clear hK) | (clear hK; clear hK; clear hK; refine hK _ ?_; clear hK) | (clear hK; clear hK; clear hK; clear hK; refine hK _ ?_; clear hK) | (refine wSeq fun K hK => ?_) | ((first | refine wReg ?_ | refine wDrwQ rfl (by kernel_rfl) ?_ | refine wDrwI ?_ | refine wDrw (by kernel_rfl) ?_); simp only [List.map_cons, List.map_nil, strip]) | ((first | refine wIs fun K hK => ?_ | refine wOs fun K hK => ?_ | refine wQs fun K hK => ?_ | refine CallK_plain ?_ | refine CallQ_plain ?_ | refine CallR_plain ?_ | refine wCond ?_); simp) | (refine wIn ?_; refine And.intro (by kernel_rfl) ?_; try simp only [thenA_n]) | (first | refine wBlock ?_ | refine wScope ?_) | ((first | refine wRet ?_ | refine wExit ?_ | refine wSkip ?_); try simp) | ((first | refine wLabel ?_ | refine wOn ?_ | refine wQn ?_); try simp only [thenA_n]) | (refine CallE.pure (c1) rfl ?_) | (refine CallE.lent (c1) rfl ?_) | (refine CallF.pure (c1) rfl ?_) | (refine CallF.lent (c1) rfl ?_) | (refine CallE.own (c1) ?_) | (refine CallH.pure (c1) rfl ?_) | (refine CallH.lent (c1) rfl ?_) | (refine CallH.own (c1) ?_) | (refine CallE.pure (cT) rfl ?_) | (refine CallE.lent (cT) rfl ?_) | (refine CallF.pure (cT) rfl ?_) | (refine CallF.lent (cT) rfl ?_) | (refine CallE.own (cT) ?_) | (refine CallH.pure (cT) rfl ?_) | (refine CallH.lent (cT) rfl ?_) | (refine CallH.own (cT) ?_) | (refine CallE.pure (cU) rfl ?_) | (refine CallE.lent (cU) rfl ?_) | (refine CallF.pure (cU) rfl ?_) | (refine CallF.lent (cU) rfl ?_) | (refine CallE.own (cU) ?_) | (refine CallH.pure (cU) rfl ?_) | (refine CallH.lent (cU) rfl ?_) | (refine CallH.own (cU) ?_) | (refine CallE.pure (cF) rfl ?_) | (refine CallE.lent (cF) rfl ?_) | (refine CallF.pure (cF) rfl ?_) | (refine CallF.lent (cF) rfl ?_) | (refine CallE.own (cF) ?_) | (refine CallH.pure (cF) rfl ?_) | (refine CallH.lent (cF) rfl ?_) | (refine CallH.own (cF) ?_) | (refine CallE.pure (cG) rfl ?_) | (refine CallE.lent (cG) rfl ?_) | (refine CallF.pure (cG) rfl ?_) | (refine CallF.lent (cG) rfl ?_) | (refine CallE.own (cG) ?_) | (refine CallH.pure (cG) rfl ?_) | (refine CallH.lent (cG) rfl ?_) | (refine CallH.own (cG) ?_) | (refine CallE.pure (cI) rfl ?_) | (refine CallE.lent (cI) rfl ?_) | (refine CallF.pure (cI) rfl ?_) | (refine CallF.lent (cI) rfl ?_) | (refine CallE.own (cI) ?_) | (refine CallH.pure (cI) rfl ?_) | (refine CallH.lent (cI) rfl ?_) | (refine CallH.own (cI) ?_) | (refine CallE.pure (cR) rfl ?_) | (refine CallE.lent (cR) rfl ?_) | (refine CallF.pure (cR) rfl ?_) | (refine CallF.lent (cR) rfl ?_) | (refine CallE.own (cR) ?_) | (refine CallH.pure (cR) rfl ?_) | (refine CallH.lent (cR) rfl ?_) | (refine CallH.own (cR) ?_) | (refine CallE.pure (cS) rfl ?_) | (refine CallE.lent (cS) rfl ?_) | (refine CallF.pure (cS) rfl ?_) | (refine CallF.lent (cS) rfl ?_) | (refine CallE.own (cS) ?_) | (refine CallH.pure (cS) rfl ?_) | (refine CallH.lent (cS) rfl ?_) | (refine CallH.own (cS) ?_) | (refine CallE.pure (cA) rfl ?_) | (refine CallE.lent (cA) rfl ?_) | (refine CallF.pure (cA) rfl ?_) | (refine CallF.lent (cA) rfl ?_) | (refine CallE.own (cA) ?_) | (refine CallH.pure (cA) rfl ?_) | (refine CallH.lent (cA) rfl ?_) | (refine CallH.own (cA) ?_) | (refine CallE.pure (cB) rfl ?_) | (refine CallE.lent (cB) rfl ?_) | (refine CallF.pure (cB) rfl ?_) | (refine CallF.lent (cB) rfl ?_) | (refine CallE.own (cB) ?_) | (refine CallH.pure (cB) rfl ?_) | (refine CallH.lent (cB) rfl ?_) | (refine CallH.own (cB) ?_) | (refine CallE.pure (sR) rfl ?_) | (refine CallE.lent (sR) rfl ?_) | (refine CallF.pure (sR) rfl ?_) | (refine CallF.lent (sR) rfl ?_) | (refine CallE.own (sR) ?_) | (refine CallH.pure (sR) rfl ?_) | (refine CallH.lent (sR) rfl ?_) | (refine CallH.own (sR) ?_) | (refine CallE.pure (sA) rfl ?_) | (refine CallE.lent (sA) rfl ?_) | (refine CallF.pure (sA) rfl ?_) | (refine CallF.lent (sA) rfl ?_) | (refine CallE.own (sA) ?_) | (refine CallH.pure (sA) rfl ?_) | (refine CallH.lent (sA) rfl ?_) | (refine CallH.own (sA) ?_) | (refine CallE.pure (cM) rfl ?_) | (refine CallE.lent (cM) rfl ?_) | (refine CallF.pure (cM) rfl ?_) | (refine CallF.lent (cM) rfl ?_) | (refine CallE.own (cM) ?_) | (refine CallH.pure (cM) rfl ?_) | (refine CallH.lent (cM) rfl ?_) | (refine CallH.own (cM) ?_) | (refine CallE.pure (cX) rfl ?_) | (refine CallE.lent (cX) rfl ?_) | (refine CallF.pure (cX) rfl ?_) | (refine CallF.lent (cX) rfl ?_) | (refine CallE.own (cX) ?_) | (refine CallH.pure (cX) rfl ?_) | (refine CallH.lent (cX) rfl ?_) | (refine CallH.own (cX) ?_) | (refine CallE.pure (ca) rfl ?_) | (refine CallE.lent (ca) rfl ?_) | (refine CallF.pure (ca) rfl ?_) | (refine CallF.lent (ca) rfl ?_) | (refine CallE.own (ca) ?_) | (refine CallH.pure (ca) rfl ?_) | (refine CallH.lent (ca) rfl ?_) | (refine CallH.own (ca) ?_)
  all_goals apply hr
  all_goals simp [Try.f3]
end Go.Proofs.Ytechjohebkcjiaa
