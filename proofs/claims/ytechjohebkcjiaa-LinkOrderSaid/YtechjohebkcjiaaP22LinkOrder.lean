/- Texts that the proof needs: XA LK0 LK1 LPQ LK2 LK3 LK3b. -/
import Derived.Test.YtechjohebkcjiaaP17LinkOrder
import Derived.Test.YtechjohebkcjiaaP14LinkOrder
import Derived.Test.YtechjohebkcjiaaP16LinkOrder
import Derived.Test.YtechjohebkcjiaaP18LinkOrder
import Derived.WalkKit
import Derived.Test.YtechjohebkcjiaaP19LinkOrder
import Derived.Test.YtechjohebkcjiaaP21LinkOrder
/- States: copies; the numbers of a list, one taken out. -/
namespace Go.Proofs.Ytechjohebkcjiaa
set_option linter.unusedSimpArgs false
set_option linter.unusedVariables false
open Go Go.Av
attribute [local simp] Try.T1 Try.T2 Try.T3 Try.T4 Try.T5 Try.T9 Try.T12 Try.T15 Try.T16 Try.T17 Try.T21 Try.T22 Try.T23 Try.T24 Try.T25 Try.T27 Try.T29 Try.T30 Try.T31 Try.T32 Try.T33 Try.T35 Try.T37 Try.T38 Try.T40 Try.T41 Try.T42 Try.T44 Try.T45 Try.T47 Try.T49 Try.T51 Try.T53 Try.T54 Try.T55 Try.T56 Try.T57 Try.T58 Try.T59 Try.T60 Try.T61 Try.T62 Try.T63 Try.T64 Try.T66 Try.T67 Try.T68 Try.T69 Try.T70 Try.T72 Try.T74 Try.T76 Try.T77 Try.T78 Try.T79 Try.T80 Try.T81 Try.T82 Try.T83 Try.T84 Try.T85 Try.T87 Try.T88 Try.T89 Try.T90 Try.T91 Try.T92 Try.T93 Try.T94 Try.T96 Try.T97 Try.T98 Try.T99 Try.T100 Try.T101 Try.T102 Try.T103 Try.T104 Try.T105 Try.T106 Try.T107 Try.T108 Try.T109 Try.T110 Try.T111 Try.T113 Try.T114 Try.T115 Try.T116 Try.T117 Try.T118 Try.T119 Try.T120 Try.T121 Try.T122 Try.T123 Try.T124 Try.T125 Try.T126 Try.T127 Try.T128 Try.T129 Try.T130 Try.T133 Try.T136 Try.T137 Try.T140 Try.T141
attribute [local irreducible] Go.Av.CallK Go.Av.CallE Go.Av.CallQ Go.Av.CallF Go.Av.CallR Go.Av.CallH Go.Av.Con
abbrev RConX (g : FuncId) (args : List V) (e c : Nat) (l : List (List PV)) : Prop := Con Try.prog g args [] (.ret (.row 2048) [.row e c l] [])
theorem cloneM (l : List (List PV)) (hl : l.length ≤ 4398046510976) : RConX 54 [.p (.sl 4 l)] 113 4 l := by
  refine wBodyR Try.tab Try.mixed Try.func54 rfl rfl Try.ntmps54 rfl (by simp) (by simp) fun Q hr hn => ?_
  repeat' first | (refine wRetG [.row 2 113 4] ?_) | (refine And.intro (by omega) (Or.inl ?_)) | (refine And.intro ?_ (fun hnil => ?_)) | (refine hK _ ?_; clear hK) | (refine hK _ _ ?_; clear hK) | (clear hK; refine hK _ ?_; clear hK) | (clear hK; clear hK; refine hK _ ?_; clear hK) | (clear hK; clear hK; clear hK; refine hK _ ?_; clear hK) | (clear hK; clear hK; clear hK; clear hK; refine hK _ ?_; clear hK) | (refine wSeq fun K hK => ?_) | ((first | refine wReg ?_ | refine wDrwQ rfl (by kernel_rfl) ?_ | refine wDrwI ?_ | refine wDrw (by kernel_rfl) ?_); simp only [List.map_cons, List.map_nil, strip]) | ((first | refine wIs fun K hK => ?_ | refine wOs fun K hK => ?_ | refine wQs fun K hK => ?_ | refine CallK_plain ?_ | refine CallQ_plain ?_ | refine CallR_plain ?_ | refine wCond ?_); simp) | (refine wIn ?_; refine And.intro (by kernel_rfl) ?_; try simp only [thenA_n]) | (first | refine wBlock ?_ | refine wScope ?_) | ((first | refine wRet ?_ | refine wExit ?_ | refine wSkip ?_); try simp) | ((first | refine wLabel ?_ | refine wOn ?_ | refine wQn ?_); try simp only [thenA_n])
  · refine hr _ 7 (by simp) (by simp) (by omega)
  · subst hnil
    simp only [thenA_r]
    refine hr _ 2 (by simp) (by simp) (by omega)
theorem ownConfig_con (e n k : Int) (ms : List (List PV)) (hl : ms.length ≤ 4398046510976) : ACon Try.prog 63 [.p (.agg [I e, I n, I k, .sl 4 ms])] (.p (.agg [I e, I n, I k, .sl 4 ms])) := by
  have c := cloneM ms hl
  refine wBody Try.tab Try.mixed Try.func63 rfl rfl Try.ntmps63 (by simp) (by simp) fun Q hr hn => ?_
  repeat' first | (refine hK _ ?_; clear hK) | (refine hK _ _ ?_; clear hK) | (clear hK; refine hK _ ?_; clear hK) | (clear hK; clear hK; refine hK _ ?_; clear hK) | (clear hK; clear hK; clear hK; refine hK _ ?_; clear hK) | (clear hK; clear hK; clear hK; clear hK; refine hK _ ?_; clear hK) | (refine wSeq fun K hK => ?_) | ((first | refine wReg ?_ | refine wDrwQ rfl (by kernel_rfl) ?_ | refine wDrwI ?_ | refine wDrw (by kernel_rfl) ?_); simp only [List.map_cons, List.map_nil, strip]) | ((first | refine wIs fun K hK => ?_ | refine wOs fun K hK => ?_ | refine wQs fun K hK => ?_ | refine CallK_plain ?_ | refine CallQ_plain ?_ | refine CallR_plain ?_ | refine wCond ?_); simp) | (refine wIn ?_; refine And.intro (by kernel_rfl) ?_; try simp only [thenA_n]) | (first | refine wBlock ?_ | refine wScope ?_) | ((first | refine wRet ?_ | refine wExit ?_ | refine wSkip ?_); try simp) | ((first | refine wLabel ?_ | refine wOn ?_ | refine wQn ?_); try simp only [thenA_n]) | (refine CallE.pure (c) rfl ?_) | (refine CallE.lent (c) rfl ?_) | (refine CallF.pure (c) rfl ?_) | (refine CallF.lent (c) rfl ?_) | (refine CallE.own (c) ?_) | (refine CallH.pure (c) rfl ?_) | (refine CallH.lent (c) rfl ?_) | (refine CallH.own (c) ?_)
  all_goals apply hr
  all_goals simp [Try.f63]
end Go.Proofs.Ytechjohebkcjiaa
/- Messages, with what they hold in bounds; copies of parts, transactions, states. -/
namespace Go.Proofs.Ytechjohebkcjiaa
set_option linter.unusedSimpArgs false
set_option linter.unusedVariables false
set_option maxRecDepth 8000
open Go Go.Av
attribute [local simp] Try.T1 Try.T2 Try.T3 Try.T4 Try.T5 Try.T9 Try.T12 Try.T15 Try.T16 Try.T17 Try.T21 Try.T22 Try.T23 Try.T24 Try.T25 Try.T27 Try.T29 Try.T30 Try.T31 Try.T32 Try.T33 Try.T35 Try.T37 Try.T38 Try.T40 Try.T41 Try.T42 Try.T44 Try.T45 Try.T47 Try.T49 Try.T51 Try.T53 Try.T54 Try.T55 Try.T56 Try.T57 Try.T58 Try.T59 Try.T60 Try.T61 Try.T62 Try.T63 Try.T64 Try.T66 Try.T67 Try.T68 Try.T69 Try.T70 Try.T72 Try.T74 Try.T76 Try.T77 Try.T78 Try.T79 Try.T80 Try.T81 Try.T82 Try.T83 Try.T84 Try.T85 Try.T87 Try.T88 Try.T89 Try.T90 Try.T91 Try.T92 Try.T93 Try.T94 Try.T96 Try.T97 Try.T98 Try.T99 Try.T100 Try.T101 Try.T102 Try.T103 Try.T104 Try.T105 Try.T106 Try.T107 Try.T108 Try.T109 Try.T110 Try.T111 Try.T113 Try.T114 Try.T115 Try.T116 Try.T117 Try.T118 Try.T119 Try.T120 Try.T121 Try.T122 Try.T123 Try.T124 Try.T125 Try.T126 Try.T127 Try.T128 Try.T129 Try.T130 Try.T133 Try.T136 Try.T137 Try.T140 Try.T141
attribute [local irreducible] Go.Av.CallK Go.Av.CallE Go.Av.CallQ Go.Av.CallF Go.Av.CallR Go.Av.CallH Go.Av.Con
/-- Each slice and each text within has so many elements at most. -/
abbrev K1 : Nat → Nat := fun _ => 1
abbrev Z1 (p : PV) : Prop := SzI K1 1048576 p
abbrev Zs (ps : List PV) : Prop := ∀ p ∈ ps, Z1 p
theorem z1_len {c : Nat} {l : List (List PV)} (h : Z1 (.sl c l)) : l.length ≤ 1048576 := by
  have h1 : l.length * 1 ≤ 1048576 := h.len
  omega
theorem z1_row {c : Nat} {l : List (List PV)} (h : Z1 (.sl c l)) {r : List PV} (hr : r ∈ l) : Zs r := fun p hp => h.at hr hp
/-! ### Copies of slices -/
theorem clnMb (l : List (List PV)) (hl : l.length ≤ 2000000) : RConX 54 [.p (.sl 4 l)] 113 4 l := cloneM l (by omega)
theorem clnNd (l : List (List PV)) (hl : l.length ≤ 2000000) : RConX 62 [.p (.sl 5 l)] 72 5 l := by
  refine wBodyR Try.tab Try.mixed Try.func62 rfl rfl Try.ntmps62 rfl (by simp) (by simp) fun Q hr hn => ?_
  repeat' first | (refine wRetG [.row 2 72 5] ?_) | (refine And.intro (by omega) (Or.inl ?_)) | (refine And.intro ?_ (fun hnil => ?_)) | (refine hK _ ?_; clear hK) | (refine hK _ _ ?_; clear hK) | (clear hK; refine hK _ ?_; clear hK) | (clear hK; clear hK; refine hK _ ?_; clear hK) | (clear hK; clear hK; clear hK; refine hK _ ?_; clear hK) | (clear hK; clear hK; clear hK; clear hK; refine hK _ ?_; clear hK) | (refine wSeq fun K hK => ?_) | ((first | refine wReg ?_ | refine wDrwQ rfl (by kernel_rfl) ?_ | refine wDrwI ?_ | refine wDrw (by kernel_rfl) ?_); simp only [List.map_cons, List.map_nil, strip]) | ((first | refine wIs fun K hK => ?_ | refine wOs fun K hK => ?_ | refine wQs fun K hK => ?_ | refine CallK_plain ?_ | refine CallQ_plain ?_ | refine CallR_plain ?_ | refine wCond ?_); simp) | (refine wIn ?_; refine And.intro (by kernel_rfl) ?_; try simp only [thenA_n]) | (first | refine wBlock ?_ | refine wScope ?_) | ((first | refine wRet ?_ | refine wExit ?_ | refine wSkip ?_); try simp) | ((first | refine wLabel ?_ | refine wOn ?_ | refine wQn ?_); try simp only [thenA_n])
  · refine hr _ 7 (by simp) (by simp) (by omega)
  · subst hnil
    simp only [thenA_r]
    refine hr _ 2 (by simp) (by simp) (by omega)
theorem clnI (l : List (List PV)) (hl : l.length ≤ 2000000) : RConX 37 [.p (.sl 1 l)] 3 1 l := by
  refine wBodyR Try.tab Try.mixed Try.func37 rfl rfl Try.ntmps37 rfl (by simp) (by simp) fun Q hr hn => ?_
  repeat' first | (refine wRetG [.row 2 3 1] ?_) | (refine And.intro (by omega) (Or.inl ?_)) | (refine And.intro ?_ (fun hnil => ?_)) | (refine hK _ ?_; clear hK) | (refine hK _ _ ?_; clear hK) | (clear hK; refine hK _ ?_; clear hK) | (clear hK; clear hK; refine hK _ ?_; clear hK) | (clear hK; clear hK; clear hK; refine hK _ ?_; clear hK) | (clear hK; clear hK; clear hK; clear hK; refine hK _ ?_; clear hK) | (refine wSeq fun K hK => ?_) | ((first | refine wReg ?_ | refine wDrwQ rfl (by kernel_rfl) ?_ | refine wDrwI ?_ | refine wDrw (by kernel_rfl) ?_); simp only [List.map_cons, List.map_nil, strip]) | ((first | refine wIs fun K hK => ?_ | refine wOs fun K hK => ?_ | refine wQs fun K hK => ?_ | refine CallK_plain ?_ | refine CallQ_plain ?_ | refine CallR_plain ?_ | refine wCond ?_); simp) | (refine wIn ?_; refine And.intro (by kernel_rfl) ?_; try simp only [thenA_n]) | (first | refine wBlock ?_ | refine wScope ?_) | ((first | refine wRet ?_ | refine wExit ?_ | refine wSkip ?_); try simp) | ((first | refine wLabel ?_ | refine wOn ?_ | refine wQn ?_); try simp only [thenA_n])
  · refine hr _ 7 (by simp) (by simp) (by omega)
  · subst hnil
    simp only [thenA_r]
    refine hr _ 2 (by simp) (by simp) (by omega)
theorem clnOp (l : List (List PV)) (hl : l.length ≤ 2000000) : RConX 53 [.p (.sl 6 l)] 76 6 l := by
  refine wBodyR Try.tab Try.mixed Try.func53 rfl rfl Try.ntmps53 rfl (by simp) (by simp) fun Q hr hn => ?_
  repeat' first | (refine wRetG [.row 2 76 6] ?_) | (refine And.intro (by omega) (Or.inl ?_)) | (refine And.intro ?_ (fun hnil => ?_)) | (refine hK _ ?_; clear hK) | (refine hK _ _ ?_; clear hK) | (clear hK; refine hK _ ?_; clear hK) | (clear hK; clear hK; refine hK _ ?_; clear hK) | (clear hK; clear hK; clear hK; refine hK _ ?_; clear hK) | (clear hK; clear hK; clear hK; clear hK; refine hK _ ?_; clear hK) | (refine wSeq fun K hK => ?_) | ((first | refine wReg ?_ | refine wDrwQ rfl (by kernel_rfl) ?_ | refine wDrwI ?_ | refine wDrw (by kernel_rfl) ?_); simp only [List.map_cons, List.map_nil, strip]) | ((first | refine wIs fun K hK => ?_ | refine wOs fun K hK => ?_ | refine wQs fun K hK => ?_ | refine CallK_plain ?_ | refine CallQ_plain ?_ | refine CallR_plain ?_ | refine wCond ?_); simp) | (refine wIn ?_; refine And.intro (by kernel_rfl) ?_; try simp only [thenA_n]) | (first | refine wBlock ?_ | refine wScope ?_) | ((first | refine wRet ?_ | refine wExit ?_ | refine wSkip ?_); try simp) | ((first | refine wLabel ?_ | refine wOn ?_ | refine wQn ?_); try simp only [thenA_n])
  · refine hr _ 7 (by simp) (by simp) (by omega)
  · subst hnil
    simp only [thenA_r]
    refine hr _ 2 (by simp) (by simp) (by omega)
theorem clnZx (l : List (List PV)) (hl : l.length ≤ 2000000) : RConX 34 [.p (.sl 2 l)] 27 2 l := by
  refine wBodyR Try.tab Try.mixed Try.func34 rfl rfl Try.ntmps34 rfl (by simp) (by simp) fun Q hr hn => ?_
  repeat' first | (refine wRetG [.row 2 27 2] ?_) | (refine And.intro (by omega) (Or.inl ?_)) | (refine And.intro ?_ (fun hnil => ?_)) | (refine hK _ ?_; clear hK) | (refine hK _ _ ?_; clear hK) | (clear hK; refine hK _ ?_; clear hK) | (clear hK; clear hK; refine hK _ ?_; clear hK) | (clear hK; clear hK; clear hK; refine hK _ ?_; clear hK) | (clear hK; clear hK; clear hK; clear hK; refine hK _ ?_; clear hK) | (refine wSeq fun K hK => ?_) | ((first | refine wReg ?_ | refine wDrwQ rfl (by kernel_rfl) ?_ | refine wDrwI ?_ | refine wDrw (by kernel_rfl) ?_); simp only [List.map_cons, List.map_nil, strip]) | ((first | refine wIs fun K hK => ?_ | refine wOs fun K hK => ?_ | refine wQs fun K hK => ?_ | refine CallK_plain ?_ | refine CallQ_plain ?_ | refine CallR_plain ?_ | refine wCond ?_); simp) | (refine wIn ?_; refine And.intro (by kernel_rfl) ?_; try simp only [thenA_n]) | (first | refine wBlock ?_ | refine wScope ?_) | ((first | refine wRet ?_ | refine wExit ?_ | refine wSkip ?_); try simp) | ((first | refine wLabel ?_ | refine wOn ?_ | refine wQn ?_); try simp only [thenA_n])
  · refine hr _ 7 (by simp) (by simp) (by omega)
  · subst hnil
    simp only [thenA_r]
    refine hr _ 2 (by simp) (by simp) (by omega)
theorem clnMs (l : List (List PV)) (hl : l.length ≤ 2000000) : RConX 31 [.p (.sl 46 l)] 51 46 l := by
  refine wBodyR Try.tab Try.mixed Try.func31 rfl rfl Try.ntmps31 rfl (by simp) (by simp) fun Q hr hn => ?_
  repeat' first | (refine wRetG [.row 2 51 46] ?_) | (refine And.intro (by omega) (Or.inl ?_)) | (refine And.intro ?_ (fun hnil => ?_)) | (refine hK _ ?_; clear hK) | (refine hK _ _ ?_; clear hK) | (clear hK; refine hK _ ?_; clear hK) | (clear hK; clear hK; refine hK _ ?_; clear hK) | (clear hK; clear hK; clear hK; refine hK _ ?_; clear hK) | (clear hK; clear hK; clear hK; clear hK; refine hK _ ?_; clear hK) | (refine wSeq fun K hK => ?_) | ((first | refine wReg ?_ | refine wDrwQ rfl (by kernel_rfl) ?_ | refine wDrwI ?_ | refine wDrw (by kernel_rfl) ?_); simp only [List.map_cons, List.map_nil, strip]) | ((first | refine wIs fun K hK => ?_ | refine wOs fun K hK => ?_ | refine wQs fun K hK => ?_ | refine CallK_plain ?_ | refine CallQ_plain ?_ | refine CallR_plain ?_ | refine wCond ?_); simp) | (refine wIn ?_; refine And.intro (by kernel_rfl) ?_; try simp only [thenA_n]) | (first | refine wBlock ?_ | refine wScope ?_) | ((first | refine wRet ?_ | refine wExit ?_ | refine wSkip ?_); try simp) | ((first | refine wLabel ?_ | refine wOn ?_ | refine wQn ?_); try simp only [thenA_n])
  · refine hr _ 7 (by simp) (by simp) (by omega)
  · subst hnil
    simp only [thenA_r]
    refine hr _ 2 (by simp) (by simp) (by omega)
/-! ### Parts, transactions -/
theorem set_takeR {α : Type} (l : List α) (k : Nat) (x : α) (h : k < l.length) : (l.set k x).take (k + 1) = l.take k ++ [x] := by
  rw [List.take_succ_eq_append_getElem (by simpa using h), List.getElem_set_self, List.take_set_of_le (Nat.le_refl _)]
set_option maxHeartbeats 1000000 in
theorem oPt (r : List PV) (ho : fPt.ok r) (hz : Zs r) : ACon Try.prog 52 [.p (.agg r)] (.p (.agg r)) := by
  obtain ⟨x0, x1, x2, x3, x4, x5, x6, x7, x8, x9, x10, rfl, -⟩ := fPt_sh ho
  have hl := z1_len (hz (.sl 4 x10) (by simp))
  have c := ownConfig_con x7 x8 x9 x10 (by omega)
  refine wBody Try.tab Try.mixed Try.func52 rfl rfl Try.ntmps52 (by simp) (by simp) fun Q hr hn => ?_
  repeat' first | (refine hK _ ?_; clear hK) | (refine hK _ _ ?_; clear hK) | (clear hK; refine hK _ ?_; clear hK) | (clear hK; clear hK; refine hK _ ?_; clear hK) | (clear hK; clear hK; clear hK; refine hK _ ?_; clear hK) | (clear hK; clear hK; clear hK; clear hK; refine hK _ ?_; clear hK) | (refine wSeq fun K hK => ?_) | ((first | refine wReg ?_ | refine wDrwQ rfl (by kernel_rfl) ?_ | refine wDrwI ?_ | refine wDrw (by kernel_rfl) ?_); simp only [List.map_cons, List.map_nil, strip]) | ((first | refine wIs fun K hK => ?_ | refine wOs fun K hK => ?_ | refine wQs fun K hK => ?_ | refine CallK_plain ?_ | refine CallQ_plain ?_ | refine CallR_plain ?_ | refine wCond ?_); simp) | (refine wIn ?_; refine And.intro (by kernel_rfl) ?_; try simp only [thenA_n]) | (first | refine wBlock ?_ | refine wScope ?_) | ((first | refine wRet ?_ | refine wExit ?_ | refine wSkip ?_); try simp) | ((first | refine wLabel ?_ | refine wOn ?_ | refine wQn ?_); try simp only [thenA_n]) | (refine CallE.pure (c) rfl ?_) | (refine CallE.lent (c) rfl ?_) | (refine CallF.pure (c) rfl ?_) | (refine CallF.lent (c) rfl ?_) | (refine CallE.own (c) ?_) | (refine CallH.pure (c) rfl ?_) | (refine CallH.lent (c) rfl ?_) | (refine CallH.own (c) ?_)
  all_goals apply hr
  all_goals simp [Try.f52]
set_option maxHeartbeats 1000000 in
theorem olPt (l : List (List PV)) (ho : ∀ r ∈ l, fPt.ok r) (hz : Z1 (.sl 11 l)) : RConX 51 [.p (.sl 11 l), .p (.v (.func (.func 52) #[] #[]))] 74 11 l := by
  have hl := z1_len hz
  by_cases h0 : l.length = 0
  · obtain rfl := List.length_eq_zero_iff.1 h0
    refine wBodyR Try.tab Try.mixed Try.func51 rfl rfl Try.ntmps51 rfl (by simp) (by simp) fun Q hr hn => ?_
    repeat' first | (refine wRetG [.row 4 74 11] ?_) | (refine hK _ ?_; clear hK) | (refine hK _ _ ?_; clear hK) | (clear hK; refine hK _ ?_; clear hK) | (clear hK; clear hK; refine hK _ ?_; clear hK) | (clear hK; clear hK; clear hK; refine hK _ ?_; clear hK) | (clear hK; clear hK; clear hK; clear hK; refine hK _ ?_; clear hK) | (refine wSeq fun K hK => ?_) | ((first | refine wReg ?_ | refine wDrwQ rfl (by kernel_rfl) ?_ | refine wDrwI ?_ | refine wDrw (by kernel_rfl) ?_); simp only [List.map_cons, List.map_nil, strip]) | ((first | refine wIs fun K hK => ?_ | refine wOs fun K hK => ?_ | refine wQs fun K hK => ?_ | refine CallK_plain ?_ | refine CallQ_plain ?_ | refine CallR_plain ?_ | refine wCond ?_); simp) | (refine wIn ?_; refine And.intro (by kernel_rfl) ?_; try simp only [thenA_n]) | (first | refine wBlock ?_ | refine wScope ?_) | ((first | refine wRet ?_ | refine wExit ?_ | refine wSkip ?_); try simp) | ((first | refine wLabel ?_ | refine wOn ?_ | refine wQn ?_); try simp only [thenA_n])
    all_goals refine hr _ 4 (by simp) (by simp) (by omega)
  have h0' : ¬ (l.length : Int) = 0 := by omega
  refine wBodyR Try.tab Try.mixed Try.func51 rfl rfl Try.ntmps51 rfl (by simp) (by simp) fun Q hr hn => ?_
  repeat' first | (rw [if_pos ⟨by omega, by omega⟩]) | (refine hK _ ?_; clear hK) | (refine hK _ _ ?_; clear hK) | (clear hK; refine hK _ ?_; clear hK) | (clear hK; clear hK; refine hK _ ?_; clear hK) | (clear hK; clear hK; clear hK; refine hK _ ?_; clear hK) | (clear hK; clear hK; clear hK; clear hK; refine hK _ ?_; clear hK) | (refine wSeq fun K hK => ?_) | ((first | refine wReg ?_ | refine wDrwQ rfl (by kernel_rfl) ?_ | refine wDrwI ?_ | refine wDrw (by kernel_rfl) ?_); simp only [List.map_cons, List.map_nil, strip]) | ((first | refine wIs fun K hK => ?_ | refine wOs fun K hK => ?_ | refine wQs fun K hK => ?_ | refine CallK_plain ?_ | refine CallQ_plain ?_ | refine CallR_plain ?_ | refine wCond ?_); simp [h0, h0']) | (refine wIn ?_; refine And.intro (by kernel_rfl) ?_; try simp only [thenA_n]) | (first | refine wBlock ?_ | refine wScope ?_) | ((first | refine wRet ?_ | refine wExit ?_ | refine wSkip ?_); try simp) | ((first | refine wLabel ?_ | refine wOn ?_ | refine wQn ?_); try simp only [thenA_n])
  refine wLoop (fun N st => ∃ k zs, k + N = l.length ∧ zs.length = l.length ∧ (∀ r ∈ zs, r.length = 11) ∧ zs.take k = l.take k ∧ st.s 1 = .p (.v (.func (.func 52) #[] #[])) ∧ st.s 5 = .row 13 ∧ st.s 14 = .p (.sl 11 l) ∧ st.s 15 = .p (I l.length) ∧ st.s 16 = .p (I k) ∧ st.b 13 = some (.row 74 11 zs)) l.length ⟨0, List.replicate l.length [I 0, SB [], SB [], I 0, I 0, I 0, I 0, I 0, I 0, I 0, .sl 4 []], by simp [show ByteArray.empty = bs [] from rfl]⟩ fun K N st hL ⟨k, zs, hk, hz1, hzl, hi, g1, g5, g14, g15, g16, b13⟩ => ?_
  by_cases hlt : k < l.length
  · have hlt' : (k : Int) < l.length := by omega
    have hltz : k < zs.length := by omega
    have hzk := hzl _ (List.getElem_mem hltz)
    have hzd : List.drop 11 zs[k] = [] := List.drop_of_length_le (by omega)
    have hw := wrapS k _ hlt (by omega)
    have he : l[k]? = some l[k] := List.getElem?_eq_getElem hlt
    have hmem := List.getElem_mem hlt
    have c := oPt l[k] (ho _ hmem) (z1_row hz hmem)
    have hok := ho _ hmem
    have hst := set_takeR zs k l[k] hltz
    rw [hi, ← List.take_succ_eq_append_getElem hlt] at hst
    generalize hQ : l[k] = r at *
    obtain ⟨x0, x1, x2, x3, x4, x5, x6, x7, x8, x9, x10, rfl, -⟩ := fPt_sh hok
    repeat' first | (refine hK _ ?_; clear hK) | (refine hK _ _ ?_; clear hK) | (clear hK; refine hK _ ?_; clear hK) | (clear hK; clear hK; refine hK _ ?_; clear hK) | (clear hK; clear hK; clear hK; refine hK _ ?_; clear hK) | (clear hK; clear hK; clear hK; clear hK; refine hK _ ?_; clear hK) | (refine wSeq fun K hK => ?_) | ((first | refine wReg ?_ | refine wDrwQ rfl (by kernel_rfl) ?_ | refine wDrwI ?_ | refine wDrw (by kernel_rfl) ?_); simp only [List.map_cons, List.map_nil, strip]) | ((first | refine wIs fun K hK => ?_ | refine wOs fun K hK => ?_ | refine wQs fun K hK => ?_ | refine CallK_plain ?_ | refine CallQ_plain ?_ | refine CallR_plain ?_ | refine wCond ?_); simp [g1, g5, g14, g15, g16, b13, hlt, hlt', hltz, hw, he, hQ, hzk, hzd]) | (refine wIn ?_; refine And.intro (by kernel_rfl) ?_; try simp only [thenA_n]) | (first | refine wBlock ?_ | refine wScope ?_) | ((first | refine wRet ?_ | refine wExit ?_ | refine wSkip ?_); try simp) | ((first | refine wLabel ?_ | refine wOn ?_ | refine wQn ?_); try simp only [thenA_n]) | (refine CallE.pure (c) rfl ?_) | (refine CallE.lent (c) rfl ?_) | (refine CallF.pure (c) rfl ?_) | (refine CallF.lent (c) rfl ?_) | (refine CallE.own (c) ?_) | (refine CallH.pure (c) rfl ?_) | (refine CallH.lent (c) rfl ?_) | (refine CallH.own (c) ?_)
    refine hL _ (N - 1) (by omega) ⟨k + 1, zs.set k _, by omega, by simpa using hz1, fun r hr2 => ?_, hst, ?_⟩
    · rcases List.mem_or_eq_of_mem_set hr2 with h | rfl
      · exact hzl _ h
      · rfl
    simp [g1, g5, g14, g15, g16, b13, hw]
  · have hlt' : ¬ (k : Int) < l.length := by omega
    rw [List.take_of_length_le (by omega), List.take_of_length_le (by omega)] at hi
    subst hi
    repeat' first | (refine hK _ ?_; clear hK) | (refine hK _ _ ?_; clear hK) | (clear hK; refine hK _ ?_; clear hK) | (clear hK; clear hK; refine hK _ ?_; clear hK) | (clear hK; clear hK; clear hK; refine hK _ ?_; clear hK) | (clear hK; clear hK; clear hK; clear hK; refine hK _ ?_; clear hK) | (refine wSeq fun K hK => ?_) | ((first | refine wReg ?_ | refine wDrwQ rfl (by kernel_rfl) ?_ | refine wDrwI ?_ | refine wDrw (by kernel_rfl) ?_); simp only [List.map_cons, List.map_nil, strip]) | ((first | refine wIs fun K hK => ?_ | refine wOs fun K hK => ?_ | refine wQs fun K hK => ?_ | refine CallK_plain ?_ | refine CallQ_plain ?_ | refine CallR_plain ?_ | refine wCond ?_); simp [g1, g5, g14, g15, g16, b13, hlt, hlt']) | (refine wIn ?_; refine And.intro (by kernel_rfl) ?_; try simp only [thenA_n]) | (first | refine wBlock ?_ | refine wScope ?_) | ((first | refine wRet ?_ | refine wExit ?_ | refine wSkip ?_); try simp) | ((first | refine wLabel ?_ | refine wOn ?_ | refine wQn ?_); try simp only [thenA_n])
    all_goals refine hr _ 13 (by simp [g5]) (by simp [b13]) (by omega)
theorem oTx (r : List PV) (ho : fTx.ok r) (hz : Zs r) : ACon Try.prog 36 [.p (.agg r)] (.p (.agg r)) := by
  obtain ⟨x0, x1, x2, x3, x4, x5, x6, x7, rfl, -, -, -, -, -, -, hp⟩ := fTx_sh ho
  have c := olPt x7 (fl_ok hp).2 (hz (.sl 11 x7) (by simp))
  refine wBody Try.tab Try.mixed Try.func36 rfl rfl Try.ntmps36 (by simp) (by simp) fun Q hr hn => ?_
  repeat' first | (refine hK _ ?_; clear hK) | (refine hK _ _ ?_; clear hK) | (clear hK; refine hK _ ?_; clear hK) | (clear hK; clear hK; refine hK _ ?_; clear hK) | (clear hK; clear hK; clear hK; refine hK _ ?_; clear hK) | (clear hK; clear hK; clear hK; clear hK; refine hK _ ?_; clear hK) | (refine wSeq fun K hK => ?_) | ((first | refine wReg ?_ | refine wDrwQ rfl (by kernel_rfl) ?_ | refine wDrwI ?_ | refine wDrw (by kernel_rfl) ?_); simp only [List.map_cons, List.map_nil, strip]) | ((first | refine wIs fun K hK => ?_ | refine wOs fun K hK => ?_ | refine wQs fun K hK => ?_ | refine CallK_plain ?_ | refine CallQ_plain ?_ | refine CallR_plain ?_ | refine wCond ?_); simp) | (refine wIn ?_; refine And.intro (by kernel_rfl) ?_; try simp only [thenA_n]) | (first | refine wBlock ?_ | refine wScope ?_) | ((first | refine wRet ?_ | refine wExit ?_ | refine wSkip ?_); try simp) | ((first | refine wLabel ?_ | refine wOn ?_ | refine wQn ?_); try simp only [thenA_n]) | (refine CallE.pure (c) rfl ?_) | (refine CallE.lent (c) rfl ?_) | (refine CallF.pure (c) rfl ?_) | (refine CallF.lent (c) rfl ?_) | (refine CallE.own (c) ?_) | (refine CallH.pure (c) rfl ?_) | (refine CallH.lent (c) rfl ?_) | (refine CallH.own (c) ?_)
  all_goals apply hr
  all_goals simp [Try.f36]
set_option maxHeartbeats 1000000 in
theorem olTx (l : List (List PV)) (ho : ∀ r ∈ l, fTx.ok r) (hz : Z1 (.sl 8 l)) : RConX 64 [.p (.sl 8 l), .p (.v (.func (.func 36) #[] #[]))] 44 8 l := by
  have hl := z1_len hz
  by_cases h0 : l.length = 0
  · obtain rfl := List.length_eq_zero_iff.1 h0
    refine wBodyR Try.tab Try.mixed Try.func64 rfl rfl Try.ntmps64 rfl (by simp) (by simp) fun Q hr hn => ?_
    repeat' first | (refine wRetG [.row 4 44 8] ?_) | (refine hK _ ?_; clear hK) | (refine hK _ _ ?_; clear hK) | (clear hK; refine hK _ ?_; clear hK) | (clear hK; clear hK; refine hK _ ?_; clear hK) | (clear hK; clear hK; clear hK; refine hK _ ?_; clear hK) | (clear hK; clear hK; clear hK; clear hK; refine hK _ ?_; clear hK) | (refine wSeq fun K hK => ?_) | ((first | refine wReg ?_ | refine wDrwQ rfl (by kernel_rfl) ?_ | refine wDrwI ?_ | refine wDrw (by kernel_rfl) ?_); simp only [List.map_cons, List.map_nil, strip]) | ((first | refine wIs fun K hK => ?_ | refine wOs fun K hK => ?_ | refine wQs fun K hK => ?_ | refine CallK_plain ?_ | refine CallQ_plain ?_ | refine CallR_plain ?_ | refine wCond ?_); simp) | (refine wIn ?_; refine And.intro (by kernel_rfl) ?_; try simp only [thenA_n]) | (first | refine wBlock ?_ | refine wScope ?_) | ((first | refine wRet ?_ | refine wExit ?_ | refine wSkip ?_); try simp) | ((first | refine wLabel ?_ | refine wOn ?_ | refine wQn ?_); try simp only [thenA_n])
    all_goals refine hr _ 4 (by simp) (by simp) (by omega)
  have h0' : ¬ (l.length : Int) = 0 := by omega
  refine wBodyR Try.tab Try.mixed Try.func64 rfl rfl Try.ntmps64 rfl (by simp) (by simp) fun Q hr hn => ?_
  repeat' first | (rw [if_pos ⟨by omega, by omega⟩]) | (refine hK _ ?_; clear hK) | (refine hK _ _ ?_; clear hK) | (clear hK; refine hK _ ?_; clear hK) | (clear hK; clear hK; refine hK _ ?_; clear hK) | (clear hK; clear hK; clear hK; refine hK _ ?_; clear hK) | (clear hK; clear hK; clear hK; clear hK; refine hK _ ?_; clear hK) | (refine wSeq fun K hK => ?_) | ((first | refine wReg ?_ | refine wDrwQ rfl (by kernel_rfl) ?_ | refine wDrwI ?_ | refine wDrw (by kernel_rfl) ?_); simp only [List.map_cons, List.map_nil, strip]) | ((first | refine wIs fun K hK => ?_ | refine wOs fun K hK => ?_ | refine wQs fun K hK => ?_ | refine CallK_plain ?_ | refine CallQ_plain ?_ | refine CallR_plain ?_ | refine wCond ?_); simp [h0, h0']) | (refine wIn ?_; refine And.intro (by kernel_rfl) ?_; try simp only [thenA_n]) | (first | refine wBlock ?_ | refine wScope ?_) | ((first | refine wRet ?_ | refine wExit ?_ | refine wSkip ?_); try simp) | ((first | refine wLabel ?_ | refine wOn ?_ | refine wQn ?_); try simp only [thenA_n])
  refine wLoop (fun N st => ∃ k zs, k + N = l.length ∧ zs.length = l.length ∧ (∀ r ∈ zs, r.length = 8) ∧ zs.take k = l.take k ∧ st.s 1 = .p (.v (.func (.func 36) #[] #[])) ∧ st.s 5 = .row 13 ∧ st.s 14 = .p (.sl 8 l) ∧ st.s 15 = .p (I l.length) ∧ st.s 16 = .p (I k) ∧ st.b 13 = some (.row 44 8 zs)) l.length ⟨0, List.replicate l.length [I 0, I 0, I 0, I 0, I 0, I 0, SB [], .sl 11 []], by simp [show ByteArray.empty = bs [] from rfl]⟩ fun K N st hL ⟨k, zs, hk, hz1, hzl, hi, g1, g5, g14, g15, g16, b13⟩ => ?_
  by_cases hlt : k < l.length
  · have hlt' : (k : Int) < l.length := by omega
    have hltz : k < zs.length := by omega
    have hzk := hzl _ (List.getElem_mem hltz)
    have hzd : List.drop 8 zs[k] = [] := List.drop_of_length_le (by omega)
    have hw := wrapS k _ hlt (by omega)
    have he : l[k]? = some l[k] := List.getElem?_eq_getElem hlt
    have hmem := List.getElem_mem hlt
    have c := oTx l[k] (ho _ hmem) (z1_row hz hmem)
    have hok := ho _ hmem
    have hst := set_takeR zs k l[k] hltz
    rw [hi, ← List.take_succ_eq_append_getElem hlt] at hst
    generalize hQ : l[k] = r at *
    obtain ⟨x0, x1, x2, x3, x4, x5, x6, x7, rfl, -⟩ := fTx_sh hok
    repeat' first | (refine hK _ ?_; clear hK) | (refine hK _ _ ?_; clear hK) | (clear hK; refine hK _ ?_; clear hK) | (clear hK; clear hK; refine hK _ ?_; clear hK) | (clear hK; clear hK; clear hK; refine hK _ ?_; clear hK) | (clear hK; clear hK; clear hK; clear hK; refine hK _ ?_; clear hK) | (refine wSeq fun K hK => ?_) | ((first | refine wReg ?_ | refine wDrwQ rfl (by kernel_rfl) ?_ | refine wDrwI ?_ | refine wDrw (by kernel_rfl) ?_); simp only [List.map_cons, List.map_nil, strip]) | ((first | refine wIs fun K hK => ?_ | refine wOs fun K hK => ?_ | refine wQs fun K hK => ?_ | refine CallK_plain ?_ | refine CallQ_plain ?_ | refine CallR_plain ?_ | refine wCond ?_); simp [g1, g5, g14, g15, g16, b13, hlt, hlt', hltz, hw, he, hQ, hzk, hzd]) | (refine wIn ?_; refine And.intro (by kernel_rfl) ?_; try simp only [thenA_n]) | (first | refine wBlock ?_ | refine wScope ?_) | ((first | refine wRet ?_ | refine wExit ?_ | refine wSkip ?_); try simp) | ((first | refine wLabel ?_ | refine wOn ?_ | refine wQn ?_); try simp only [thenA_n]) | (refine CallE.pure (c) rfl ?_) | (refine CallE.lent (c) rfl ?_) | (refine CallF.pure (c) rfl ?_) | (refine CallF.lent (c) rfl ?_) | (refine CallE.own (c) ?_) | (refine CallH.pure (c) rfl ?_) | (refine CallH.lent (c) rfl ?_) | (refine CallH.own (c) ?_)
    refine hL _ (N - 1) (by omega) ⟨k + 1, zs.set k _, by omega, by simpa using hz1, fun r hr2 => ?_, hst, ?_⟩
    · rcases List.mem_or_eq_of_mem_set hr2 with h | rfl
      · exact hzl _ h
      · rfl
    simp [g1, g5, g14, g15, g16, b13, hw]
  · have hlt' : ¬ (k : Int) < l.length := by omega
    rw [List.take_of_length_le (by omega), List.take_of_length_le (by omega)] at hi
    subst hi
    repeat' first | (refine hK _ ?_; clear hK) | (refine hK _ _ ?_; clear hK) | (clear hK; refine hK _ ?_; clear hK) | (clear hK; clear hK; refine hK _ ?_; clear hK) | (clear hK; clear hK; clear hK; refine hK _ ?_; clear hK) | (clear hK; clear hK; clear hK; clear hK; refine hK _ ?_; clear hK) | (refine wSeq fun K hK => ?_) | ((first | refine wReg ?_ | refine wDrwQ rfl (by kernel_rfl) ?_ | refine wDrwI ?_ | refine wDrw (by kernel_rfl) ?_); simp only [List.map_cons, List.map_nil, strip]) | ((first | refine wIs fun K hK => ?_ | refine wOs fun K hK => ?_ | refine wQs fun K hK => ?_ | refine CallK_plain ?_ | refine CallQ_plain ?_ | refine CallR_plain ?_ | refine wCond ?_); simp [g1, g5, g14, g15, g16, b13, hlt, hlt']) | (refine wIn ?_; refine And.intro (by kernel_rfl) ?_; try simp only [thenA_n]) | (first | refine wBlock ?_ | refine wScope ?_) | ((first | refine wRet ?_ | refine wExit ?_ | refine wSkip ?_); try simp) | ((first | refine wLabel ?_ | refine wOn ?_ | refine wQn ?_); try simp only [thenA_n])
    all_goals refine hr _ 13 (by simp [g5]) (by simp [b13]) (by omega)
theorem oTxs (l : List (List PV)) (ho : ∀ r ∈ l, fTx.ok r) (hz : Z1 (.sl 8 l)) : RConX 50 [.p (.sl 8 l)] 44 8 l := by
  have c := olTx l ho hz
  refine wBodyR Try.tab Try.mixed Try.func50 rfl rfl Try.ntmps50 rfl (by simp) (by simp) fun Q hr hn => ?_
  repeat' first | (refine CallE.pure (c) rfl ?_) | (refine CallE.lent (c) rfl ?_) | (refine CallF.pure (c) rfl ?_) | (refine CallF.lent (c) rfl ?_) | (refine CallE.own (c) ?_) | (refine CallH.pure (c) rfl ?_) | (refine CallH.lent (c) rfl ?_) | (refine CallH.own (c) ?_) | (refine hK _ ?_; clear hK) | (refine hK _ _ ?_; clear hK) | (clear hK; refine hK _ ?_; clear hK) | (clear hK; clear hK; refine hK _ ?_; clear hK) | (clear hK; clear hK; clear hK; refine hK _ ?_; clear hK) | (clear hK; clear hK; clear hK; clear hK; refine hK _ ?_; clear hK) | (refine wSeq fun K hK => ?_) | ((first | refine wReg ?_ | refine wDrwQ rfl (by kernel_rfl) ?_ | refine wDrwI ?_ | refine wDrw (by kernel_rfl) ?_); simp only [List.map_cons, List.map_nil, strip]) | ((first | refine wIs fun K hK => ?_ | refine wOs fun K hK => ?_ | refine wQs fun K hK => ?_ | refine CallK_plain ?_ | refine CallQ_plain ?_ | refine CallR_plain ?_ | refine wCond ?_); simp) | (refine wIn ?_; refine And.intro (by kernel_rfl) ?_; try simp only [thenA_n]) | (first | refine wBlock ?_ | refine wScope ?_) | ((first | refine wRet ?_ | refine wExit ?_ | refine wSkip ?_); try simp) | ((first | refine wLabel ?_ | refine wOn ?_ | refine wQn ?_); try simp only [thenA_n])
  all_goals refine hr _ 4 (by simp) (by simp) (by omega)
/-! ### States, plans, requests -/
theorem oSt (ns ss ms : List (List PV)) (nx e n k ae an : Int) (h1 : ns.length ≤ 1048576) (h2 : ss.length ≤ 1048576) (h3 : ms.length ≤ 1048576) : ACon Try.prog 49 [.p (.agg [.sl 5 ns, .sl 1 ss, I nx, I e, I n, I k, .sl 4 ms, I ae, I an])] (.p (.agg [.sl 5 ns, .sl 1 ss, I nx, I e, I n, I k, .sl 4 ms, I ae, I an])) := by
  have c1 := clnNd ns (by omega)
  have c2 := clnI ss (by omega)
  have c3 := ownConfig_con e n k ms (by omega)
  refine wBody Try.tab Try.mixed Try.func49 rfl rfl Try.ntmps49 (by simp) (by simp) fun Q hr hn => ?_
  repeat' first | (refine hK _ ?_; clear hK) | (refine hK _ _ ?_; clear hK) | (clear hK; refine hK _ ?_; clear hK) | (clear hK; clear hK; refine hK _ ?_; clear hK) | (clear hK; clear hK; clear hK; refine hK _ ?_; clear hK) | (clear hK; clear hK; clear hK; clear hK; refine hK _ ?_; clear hK) | (refine wSeq fun K hK => ?_) | ((first | refine wReg ?_ | refine wDrwQ rfl (by kernel_rfl) ?_ | refine wDrwI ?_ | refine wDrw (by kernel_rfl) ?_); simp only [List.map_cons, List.map_nil, strip]) | ((first | refine wIs fun K hK => ?_ | refine wOs fun K hK => ?_ | refine wQs fun K hK => ?_ | refine CallK_plain ?_ | refine CallQ_plain ?_ | refine CallR_plain ?_ | refine wCond ?_); simp) | (refine wIn ?_; refine And.intro (by kernel_rfl) ?_; try simp only [thenA_n]) | (first | refine wBlock ?_ | refine wScope ?_) | ((first | refine wRet ?_ | refine wExit ?_ | refine wSkip ?_); try simp) | ((first | refine wLabel ?_ | refine wOn ?_ | refine wQn ?_); try simp only [thenA_n]) | (refine CallE.pure (c1) rfl ?_) | (refine CallE.lent (c1) rfl ?_) | (refine CallF.pure (c1) rfl ?_) | (refine CallF.lent (c1) rfl ?_) | (refine CallE.own (c1) ?_) | (refine CallH.pure (c1) rfl ?_) | (refine CallH.lent (c1) rfl ?_) | (refine CallH.own (c1) ?_) | (refine CallE.pure (c2) rfl ?_) | (refine CallE.lent (c2) rfl ?_) | (refine CallF.pure (c2) rfl ?_) | (refine CallF.lent (c2) rfl ?_) | (refine CallE.own (c2) ?_) | (refine CallH.pure (c2) rfl ?_) | (refine CallH.lent (c2) rfl ?_) | (refine CallH.own (c2) ?_) | (refine CallE.pure (c3) rfl ?_) | (refine CallE.lent (c3) rfl ?_) | (refine CallF.pure (c3) rfl ?_) | (refine CallF.lent (c3) rfl ?_) | (refine CallE.own (c3) ?_) | (refine CallH.pure (c3) rfl ?_) | (refine CallH.lent (c3) rfl ?_) | (refine CallH.own (c3) ?_)
  all_goals apply hr
  all_goals simp [Try.f49]
set_option maxHeartbeats 1000000 in
theorem oPl (r : List PV) (ho : fPl.ok r) (hz : Zs r) : ACon Try.prog 35 [.p (.agg r)] (.p (.agg r)) := by
  obtain ⟨x0, x1, x2, x3, x4, x5, x6, x7, x8, x9, x10, x11, x12, rfl, -, -, -, h3⟩ := fPl_sh ho
  have c1 := oSt x3 x4 x9 x5 x6 x7 x8 x10 x11 (z1_len (hz (.sl 5 x3) (by simp))) (z1_len (hz (.sl 1 x4) (by simp))) (z1_len (hz (.sl 4 x9) (by simp)))
  have c2 := oTxs x12 (fl_ok h3).2 (hz (.sl 8 x12) (by simp))
  refine wBody Try.tab Try.mixed Try.func35 rfl rfl Try.ntmps35 (by simp) (by simp) fun Q hr hn => ?_
  repeat' first | (refine hK _ ?_; clear hK) | (refine hK _ _ ?_; clear hK) | (clear hK; refine hK _ ?_; clear hK) | (clear hK; clear hK; refine hK _ ?_; clear hK) | (clear hK; clear hK; clear hK; refine hK _ ?_; clear hK) | (clear hK; clear hK; clear hK; clear hK; refine hK _ ?_; clear hK) | (refine wSeq fun K hK => ?_) | ((first | refine wReg ?_ | refine wDrwQ rfl (by kernel_rfl) ?_ | refine wDrwI ?_ | refine wDrw (by kernel_rfl) ?_); simp only [List.map_cons, List.map_nil, strip]) | ((first | refine wIs fun K hK => ?_ | refine wOs fun K hK => ?_ | refine wQs fun K hK => ?_ | refine CallK_plain ?_ | refine CallQ_plain ?_ | refine CallR_plain ?_ | refine wCond ?_); simp) | (refine wIn ?_; refine And.intro (by kernel_rfl) ?_; try simp only [thenA_n]) | (first | refine wBlock ?_ | refine wScope ?_) | ((first | refine wRet ?_ | refine wExit ?_ | refine wSkip ?_); try simp) | ((first | refine wLabel ?_ | refine wOn ?_ | refine wQn ?_); try simp only [thenA_n]) | (refine CallE.pure (c1) rfl ?_) | (refine CallE.lent (c1) rfl ?_) | (refine CallF.pure (c1) rfl ?_) | (refine CallF.lent (c1) rfl ?_) | (refine CallE.own (c1) ?_) | (refine CallH.pure (c1) rfl ?_) | (refine CallH.lent (c1) rfl ?_) | (refine CallH.own (c1) ?_) | (refine CallE.pure (c2) rfl ?_) | (refine CallE.lent (c2) rfl ?_) | (refine CallF.pure (c2) rfl ?_) | (refine CallF.lent (c2) rfl ?_) | (refine CallE.own (c2) ?_) | (refine CallH.pure (c2) rfl ?_) | (refine CallH.lent (c2) rfl ?_) | (refine CallH.own (c2) ?_)
  all_goals apply hr
  all_goals simp [Try.f35]
set_option maxHeartbeats 1000000 in
theorem oRq (r : List PV) (ho : fRq.ok r) (hz : Zs r) : ACon Try.prog 38 [.p (.agg r)] (.p (.agg r)) := by
  obtain ⟨x0, x1, x2, x3, x4, x5, x6, x7, x8, rfl, -⟩ := fRq_sh ho
  have h1 := z1_len (hz (.sl 6 x3) (by simp))
  have h2 := z1_len (hz (.sl 4 x5) (by simp))
  have h3 := z1_len (hz (.sl 1 x6) (by simp))
  have c1 := clnOp x3 (by omega)
  have c2 := clnMb x5 (by omega)
  have c3 := clnI x6 (by omega)
  refine wBody Try.tab Try.mixed Try.func38 rfl rfl Try.ntmps38 (by simp) (by simp) fun Q hr hn => ?_
  repeat' first | (refine hK _ ?_; clear hK) | (refine hK _ _ ?_; clear hK) | (clear hK; refine hK _ ?_; clear hK) | (clear hK; clear hK; refine hK _ ?_; clear hK) | (clear hK; clear hK; clear hK; refine hK _ ?_; clear hK) | (clear hK; clear hK; clear hK; clear hK; refine hK _ ?_; clear hK) | (refine wSeq fun K hK => ?_) | ((first | refine wReg ?_ | refine wDrwQ rfl (by kernel_rfl) ?_ | refine wDrwI ?_ | refine wDrw (by kernel_rfl) ?_); simp only [List.map_cons, List.map_nil, strip]) | ((first | refine wIs fun K hK => ?_ | refine wOs fun K hK => ?_ | refine wQs fun K hK => ?_ | refine CallK_plain ?_ | refine CallQ_plain ?_ | refine CallR_plain ?_ | refine wCond ?_); simp) | (refine wIn ?_; refine And.intro (by kernel_rfl) ?_; try simp only [thenA_n]) | (first | refine wBlock ?_ | refine wScope ?_) | ((first | refine wRet ?_ | refine wExit ?_ | refine wSkip ?_); try simp) | ((first | refine wLabel ?_ | refine wOn ?_ | refine wQn ?_); try simp only [thenA_n]) | (refine CallE.pure (c1) rfl ?_) | (refine CallE.lent (c1) rfl ?_) | (refine CallF.pure (c1) rfl ?_) | (refine CallF.lent (c1) rfl ?_) | (refine CallE.own (c1) ?_) | (refine CallH.pure (c1) rfl ?_) | (refine CallH.lent (c1) rfl ?_) | (refine CallH.own (c1) ?_) | (refine CallE.pure (c2) rfl ?_) | (refine CallE.lent (c2) rfl ?_) | (refine CallF.pure (c2) rfl ?_) | (refine CallF.lent (c2) rfl ?_) | (refine CallE.own (c2) ?_) | (refine CallH.pure (c2) rfl ?_) | (refine CallH.lent (c2) rfl ?_) | (refine CallH.own (c2) ?_) | (refine CallE.pure (c3) rfl ?_) | (refine CallE.lent (c3) rfl ?_) | (refine CallF.pure (c3) rfl ?_) | (refine CallF.lent (c3) rfl ?_) | (refine CallE.own (c3) ?_) | (refine CallH.pure (c3) rfl ?_) | (refine CallH.lent (c3) rfl ?_) | (refine CallH.own (c3) ?_)
  all_goals apply hr
  all_goals simp [Try.f38]
/- Messages copied. -/
set_option maxHeartbeats 4000000 in
theorem oMs (r : List PV) (ho : fMs.ok r) (hz : Zs r) : ACon Try.prog 23 [.p (.agg r)] (.p (.agg r)) := by
  obtain ⟨m0, m1, m2, m3, m4, m5, m6, m7, m8, m9, m10, m11, m12, m13, m14, m15, m16, m17, m18, m19, m20, m21, m22, m23, m24, m25, m26, m27, m28, m29, m30, m31, m32, m33, m34, m35, m36, m37, m38, m39, m40, m41, m42, m43, m44, m45, rfl, k0, k1, k2, k3, k4, k5, k6, k7, k8, k9, k10, k11⟩ := fMs_sh ho
  have g1 := z1_len (hz (.sl 2 m14) (by simp))
  have g2 := z1_len (hz (.sl 1 m36) (by simp))
  have c1 := clnZx m14 (by omega)
  have c2 := oPl _ k8 (fun p hp => hz p (by simp only [List.mem_cons, List.not_mem_nil, or_false] at hp; rcases hp with rfl | rfl | rfl | rfl | rfl | rfl | rfl | rfl | rfl | rfl | rfl | rfl | rfl <;> simp))
  have c3 := oTx _ k9 (fun p hp => hz p (by simp only [List.mem_cons, List.not_mem_nil, or_false] at hp; rcases hp with rfl | rfl | rfl | rfl | rfl | rfl | rfl | rfl <;> simp))
  have c4 := clnI m36 (by omega)
  have c5 := oRq _ k11 (fun p hp => hz p (by simp only [List.mem_cons, List.not_mem_nil, or_false] at hp; rcases hp with rfl | rfl | rfl | rfl | rfl | rfl | rfl | rfl | rfl <;> simp))
  clear hz g1 g2 k0 k1 k2 k3 k4 k5 k6 k7 k8 k9 k10 k11 ho
  refine wBody Try.tab Try.mixed Try.func23 rfl rfl Try.ntmps23 (by simp) (by simp) fun Q hr hn => ?_
  repeat' first | (refine hK _ ?_; clear hK) | (refine hK _ _ ?_; clear hK) | (clear hK; refine hK _ ?_; clear hK) | (clear hK; clear hK; refine hK _ ?_; clear hK) | (clear hK; clear hK; clear hK; refine hK _ ?_; clear hK) | (clear hK; clear hK; clear hK; clear hK; refine hK _ ?_; clear hK) | (refine wSeq fun K hK => ?_) | ((first | refine wReg ?_ | refine wDrwQ rfl (by kernel_rfl) ?_ | refine wDrwI ?_ | refine wDrw (by kernel_rfl) ?_); simp only [List.map_cons, List.map_nil, strip]) | ((first | refine wIs fun K hK => ?_ | refine wOs fun K hK => ?_ | refine wQs fun K hK => ?_ | refine CallK_plain ?_ | refine CallQ_plain ?_ | refine CallR_plain ?_ | refine wCond ?_); simp) | (refine wIn ?_; refine And.intro (by kernel_rfl) ?_; try simp only [thenA_n]) | (first | refine wBlock ?_ | refine wScope ?_) | ((first | refine wRet ?_ | refine wExit ?_ | refine wSkip ?_); try simp) | ((first | refine wLabel ?_ | refine wOn ?_ | refine wQn ?_); try simp only [thenA_n]) | (refine CallE.pure (c1) rfl ?_) | (refine CallE.lent (c1) rfl ?_) | (refine CallF.pure (c1) rfl ?_) | (refine CallF.lent (c1) rfl ?_) | (refine CallE.own (c1) ?_) | (refine CallH.pure (c1) rfl ?_) | (refine CallH.lent (c1) rfl ?_) | (refine CallH.own (c1) ?_) | (refine CallE.pure (c2) rfl ?_) | (refine CallE.lent (c2) rfl ?_) | (refine CallF.pure (c2) rfl ?_) | (refine CallF.lent (c2) rfl ?_) | (refine CallE.own (c2) ?_) | (refine CallH.pure (c2) rfl ?_) | (refine CallH.lent (c2) rfl ?_) | (refine CallH.own (c2) ?_) | (refine CallE.pure (c3) rfl ?_) | (refine CallE.lent (c3) rfl ?_) | (refine CallF.pure (c3) rfl ?_) | (refine CallF.lent (c3) rfl ?_) | (refine CallE.own (c3) ?_) | (refine CallH.pure (c3) rfl ?_) | (refine CallH.lent (c3) rfl ?_) | (refine CallH.own (c3) ?_) | (refine CallE.pure (c4) rfl ?_) | (refine CallE.lent (c4) rfl ?_) | (refine CallF.pure (c4) rfl ?_) | (refine CallF.lent (c4) rfl ?_) | (refine CallE.own (c4) ?_) | (refine CallH.pure (c4) rfl ?_) | (refine CallH.lent (c4) rfl ?_) | (refine CallH.own (c4) ?_) | (refine CallE.pure (c5) rfl ?_) | (refine CallE.lent (c5) rfl ?_) | (refine CallF.pure (c5) rfl ?_) | (refine CallF.lent (c5) rfl ?_) | (refine CallE.own (c5) ?_) | (refine CallH.pure (c5) rfl ?_) | (refine CallH.lent (c5) rfl ?_) | (refine CallH.own (c5) ?_)
  all_goals apply hr
  all_goals simp [Try.f23]
end Go.Proofs.Ytechjohebkcjiaa
/- Pairs of servers: the law LinkPairs. -/
namespace Go.Proofs.Ytechjohebkcjiaa
set_option linter.unusedSimpArgs false
set_option linter.unusedVariables false
open Go Go.Av
attribute [local simp] Try.T1 Try.T2 Try.T3 Try.T4 Try.T5 Try.T9 Try.T12 Try.T15 Try.T16 Try.T17 Try.T21 Try.T22 Try.T23 Try.T24 Try.T25 Try.T27 Try.T29 Try.T30 Try.T31 Try.T32 Try.T33 Try.T35 Try.T37 Try.T38 Try.T40 Try.T41 Try.T42 Try.T44 Try.T45 Try.T47 Try.T49 Try.T51 Try.T53 Try.T54 Try.T55 Try.T56 Try.T57 Try.T58 Try.T59 Try.T60 Try.T61 Try.T62 Try.T63 Try.T64 Try.T66 Try.T67 Try.T68 Try.T69 Try.T70 Try.T72 Try.T74 Try.T76 Try.T77 Try.T78 Try.T79 Try.T80 Try.T81 Try.T82 Try.T83 Try.T84 Try.T85 Try.T87 Try.T88 Try.T89 Try.T90 Try.T91 Try.T92 Try.T93 Try.T94 Try.T96 Try.T97 Try.T98 Try.T99 Try.T100 Try.T101 Try.T102 Try.T103 Try.T104 Try.T105 Try.T106 Try.T107 Try.T108 Try.T109 Try.T110 Try.T111 Try.T113 Try.T114 Try.T115 Try.T116 Try.T117 Try.T118 Try.T119 Try.T120 Try.T121 Try.T122 Try.T123 Try.T124 Try.T125 Try.T126 Try.T127 Try.T128 Try.T129 Try.T130 Try.T133 Try.T136 Try.T137 Try.T140 Try.T141
attribute [local irreducible] Go.Av.CallK Go.Av.CallE Go.Av.CallQ Go.Av.CallF Go.Av.CallR Go.Av.CallH Go.Av.Con
structure Pr where
  (a b : Int)
  deriving DecidableEq
def Pr.cells (x : Pr) : List PV := [I x.a, I x.b]
theorem Pr.ext2 {x y : Pr} : x = y ↔ x.a = y.a ∧ x.b = y.b := by cases x; cases y; simp
def prs (l : List Pr) : List (List PV) := l.map Pr.cells
@[simp] theorem prs_len (l : List Pr) : (prs l).length = l.length := by simp [prs]
@[simp] theorem prs_getElem (l : List Pr) (k : Nat) (h : k < (prs l).length) : (prs l)[k] = [I (l[k]'(by simpa using h)).a, I (l[k]'(by simpa using h)).b] := by simp [prs, Pr.cells]
theorem prs_get {l : List Pr} {k : Nat} (h : k < l.length) : (prs l)[k]? = some [I l[k].a, I l[k].b] := by simp [prs, h, Pr.cells]
theorem prs_snoc (l : List Pr) (v : Pr) : prs l ++ [[I v.a, I v.b]] = prs (l ++ [v]) := by simp [prs, Pr.cells]
def two (a b : Int) : Pr := ⟨min a b, max a b⟩
theorem two_con (a b : Int) : ACon Try.prog 33 [.p (I a), .p (I b)] (.p (.agg [I (two a b).a, I (two a b).b])) := by
  refine wBody Try.tab Try.mixed Try.func33 rfl rfl Try.ntmps33 (by simp) (by simp) fun Q hr hn => ?_
  repeat' first | (refine hK _ ?_; clear hK) | (refine hK _ _ ?_; clear hK) | (clear hK; refine hK _ ?_; clear hK) | (clear hK; clear hK; refine hK _ ?_; clear hK) | (clear hK; clear hK; clear hK; refine hK _ ?_; clear hK) | (clear hK; clear hK; clear hK; clear hK; refine hK _ ?_; clear hK) | (refine wSeq fun K hK => ?_) | ((first | refine wReg ?_ | refine wDrwQ rfl (by kernel_rfl) ?_ | refine wDrwI ?_ | refine wDrw (by kernel_rfl) ?_); simp only [List.map_cons, List.map_nil, strip]) | ((first | refine wIs fun K hK => ?_ | refine wOs fun K hK => ?_ | refine wQs fun K hK => ?_ | refine CallK_plain ?_ | refine CallQ_plain ?_ | refine CallR_plain ?_ | refine wCond ?_); simp) | (refine wIn ?_; refine And.intro (by kernel_rfl) ?_; try simp only [thenA_n]) | (first | refine wBlock ?_ | refine wScope ?_) | ((first | refine wRet ?_ | refine wExit ?_ | refine wSkip ?_); try simp) | ((first | refine wLabel ?_ | refine wOn ?_ | refine wQn ?_); try simp only [thenA_n])
  all_goals apply hr
  all_goals simp [Try.f33, two]
  all_goals (try omega)
theorem has_con (l : List Pr) (a b : Int) : ACon Try.prog 21 [.p (.sl 2 (prs l)), .p (I a), .p (I b)] (.p (B (decide (two a b ∈ l)))) := by
  refine ACon.len ⟨Try.f21, Try.func21, rfl, rfl⟩ 0 _ _ rfl fun hlen => ?_
  simp only [prs_len] at hlen
  have c := two_con a b
  generalize two a b = p at c ⊢
  obtain ⟨p0, p1⟩ := p
  refine wBody Try.tab Try.mixed Try.func21 rfl rfl Try.ntmps21 (by simp) (by simp) fun Q hr hn => ?_
  repeat' first | (refine hK _ ?_; clear hK) | (refine hK _ _ ?_; clear hK) | (clear hK; refine hK _ ?_; clear hK) | (clear hK; clear hK; refine hK _ ?_; clear hK) | (clear hK; clear hK; clear hK; refine hK _ ?_; clear hK) | (clear hK; clear hK; clear hK; clear hK; refine hK _ ?_; clear hK) | (refine wSeq fun K hK => ?_) | ((first | refine wReg ?_ | refine wDrwQ rfl (by kernel_rfl) ?_ | refine wDrwI ?_ | refine wDrw (by kernel_rfl) ?_); simp only [List.map_cons, List.map_nil, strip]) | ((first | refine wIs fun K hK => ?_ | refine wOs fun K hK => ?_ | refine wQs fun K hK => ?_ | refine CallK_plain ?_ | refine CallQ_plain ?_ | refine CallR_plain ?_ | refine wCond ?_); simp) | (refine wIn ?_; refine And.intro (by kernel_rfl) ?_; try simp only [thenA_n]) | (first | refine wBlock ?_ | refine wScope ?_) | ((first | refine wRet ?_ | refine wExit ?_ | refine wSkip ?_); try simp) | ((first | refine wLabel ?_ | refine wOn ?_ | refine wQn ?_); try simp only [thenA_n]) | (refine CallE.pure (c) rfl ?_) | (refine CallE.lent (c) rfl ?_) | (refine CallF.pure (c) rfl ?_) | (refine CallF.lent (c) rfl ?_) | (refine CallE.own (c) ?_) | (refine CallH.pure (c) rfl ?_) | (refine CallH.lent (c) rfl ?_) | (refine CallH.own (c) ?_)
  refine wLoop (fun N st => ∃ k, k + N = l.length ∧ st.s 13 = .p (.sl 2 (prs l)) ∧ st.s 14 = .p (I l.length) ∧ st.s 15 = .p (I k) ∧ st.s 7 = .ptr 7 0 ∧ st.b 7 = some (.box 87 [.p (I p0), .p (I p1)]) ∧ ((⟨p0, p1⟩ : Pr) ∈ l ↔ (⟨p0, p1⟩ : Pr) ∈ l.drop k)) l.length ⟨0, by simp⟩ fun K N st hL ⟨k, hk, g13, g14, g15, g7, b7, hi⟩ => ?_
  by_cases hlt : k < l.length
  · have hw := wrapS k _ hlt hlen
    have he := prs_get hlt
    rw [List.drop_eq_getElem_cons hlt, List.mem_cons, Pr.ext2] at hi
    by_cases o : l[k].a = p0 ∧ l[k].b = p1
    · obtain ⟨o1, o2⟩ := o
      repeat' first | (refine hK _ ?_; clear hK) | (refine hK _ _ ?_; clear hK) | (clear hK; refine hK _ ?_; clear hK) | (clear hK; clear hK; refine hK _ ?_; clear hK) | (clear hK; clear hK; clear hK; refine hK _ ?_; clear hK) | (clear hK; clear hK; clear hK; clear hK; refine hK _ ?_; clear hK) | (refine wSeq fun K hK => ?_) | ((first | refine wReg ?_ | refine wDrwQ rfl (by kernel_rfl) ?_ | refine wDrwI ?_ | refine wDrw (by kernel_rfl) ?_); simp only [List.map_cons, List.map_nil, strip]) | ((first | refine wIs fun K hK => ?_ | refine wOs fun K hK => ?_ | refine wQs fun K hK => ?_ | refine CallK_plain ?_ | refine CallQ_plain ?_ | refine CallR_plain ?_ | refine wCond ?_); simp [g13, g14, g15, g7, b7, hlt, hw, he, o1, o2]) | (refine wIn ?_; refine And.intro (by kernel_rfl) ?_; try simp only [thenA_n]) | (first | refine wBlock ?_ | refine wScope ?_) | ((first | refine wRet ?_ | refine wExit ?_ | refine wSkip ?_); try simp) | ((first | refine wLabel ?_ | refine wOn ?_ | refine wQn ?_); try simp only [thenA_n])
      all_goals apply hr
      all_goals simp [Try.f21]
      all_goals (rw [hi]; exact .inl ⟨o1.symm, o2.symm⟩)
    · have o' : ¬ (p0 = l[k].a ∧ p1 = l[k].b) := fun h => o ⟨h.1.symm, h.2.symm⟩
      repeat' first | (refine hK _ ?_; clear hK) | (refine hK _ _ ?_; clear hK) | (clear hK; refine hK _ ?_; clear hK) | (clear hK; clear hK; refine hK _ ?_; clear hK) | (clear hK; clear hK; clear hK; refine hK _ ?_; clear hK) | (clear hK; clear hK; clear hK; clear hK; refine hK _ ?_; clear hK) | (refine wSeq fun K hK => ?_) | ((first | refine wReg ?_ | refine wDrwQ rfl (by kernel_rfl) ?_ | refine wDrwI ?_ | refine wDrw (by kernel_rfl) ?_); simp only [List.map_cons, List.map_nil, strip]) | ((first | refine wIs fun K hK => ?_ | refine wOs fun K hK => ?_ | refine wQs fun K hK => ?_ | refine CallK_plain ?_ | refine CallQ_plain ?_ | refine CallR_plain ?_ | refine wCond ?_); simp [g13, g14, g15, g7, b7, hlt, hw, he, o]) | (refine wIn ?_; refine And.intro (by kernel_rfl) ?_; try simp only [thenA_n]) | (first | refine wBlock ?_ | refine wScope ?_) | ((first | refine wRet ?_ | refine wExit ?_ | refine wSkip ?_); try simp) | ((first | refine wLabel ?_ | refine wOn ?_ | refine wQn ?_); try simp only [thenA_n]) | (intro _)
      all_goals first | exact o | skip
      refine hL _ (N - 1) (by omega) ⟨k + 1, by omega, ?_⟩
      simp [g13, g14, g15, g7, b7, hw]
      rw [hi]; simp [o']
  · have hd : l.drop k = [] := List.drop_of_length_le (by omega)
    rw [hd] at hi
    repeat' first | (refine hK _ ?_; clear hK) | (refine hK _ _ ?_; clear hK) | (clear hK; refine hK _ ?_; clear hK) | (clear hK; clear hK; refine hK _ ?_; clear hK) | (clear hK; clear hK; clear hK; refine hK _ ?_; clear hK) | (clear hK; clear hK; clear hK; clear hK; refine hK _ ?_; clear hK) | (refine wSeq fun K hK => ?_) | ((first | refine wReg ?_ | refine wDrwQ rfl (by kernel_rfl) ?_ | refine wDrwI ?_ | refine wDrw (by kernel_rfl) ?_); simp only [List.map_cons, List.map_nil, strip]) | ((first | refine wIs fun K hK => ?_ | refine wOs fun K hK => ?_ | refine wQs fun K hK => ?_ | refine CallK_plain ?_ | refine CallQ_plain ?_ | refine CallR_plain ?_ | refine wCond ?_); simp [g13, g14, g15, g7, b7, hlt]) | (refine wIn ?_; refine And.intro (by kernel_rfl) ?_; try simp only [thenA_n]) | (first | refine wBlock ?_ | refine wScope ?_) | ((first | refine wRet ?_ | refine wExit ?_ | refine wSkip ?_); try simp) | ((first | refine wLabel ?_ | refine wOn ?_ | refine wQn ?_); try simp only [thenA_n])
    all_goals apply hr
    all_goals simp [Try.f21]
    all_goals simpa using hi
end Go.Proofs.Ytechjohebkcjiaa
/- Messages on their way: lists of them, copied, sifted. -/
namespace Go.Proofs.Ytechjohebkcjiaa
set_option linter.unusedSimpArgs false
set_option linter.unusedVariables false
set_option maxRecDepth 8000
open Go Go.Av
attribute [local simp] Try.T1 Try.T2 Try.T3 Try.T4 Try.T5 Try.T9 Try.T12 Try.T15 Try.T16 Try.T17 Try.T21 Try.T22 Try.T23 Try.T24 Try.T25 Try.T27 Try.T29 Try.T30 Try.T31 Try.T32 Try.T33 Try.T35 Try.T37 Try.T38 Try.T40 Try.T41 Try.T42 Try.T44 Try.T45 Try.T47 Try.T49 Try.T51 Try.T53 Try.T54 Try.T55 Try.T56 Try.T57 Try.T58 Try.T59 Try.T60 Try.T61 Try.T62 Try.T63 Try.T64 Try.T66 Try.T67 Try.T68 Try.T69 Try.T70 Try.T72 Try.T74 Try.T76 Try.T77 Try.T78 Try.T79 Try.T80 Try.T81 Try.T82 Try.T83 Try.T84 Try.T85 Try.T87 Try.T88 Try.T89 Try.T90 Try.T91 Try.T92 Try.T93 Try.T94 Try.T96 Try.T97 Try.T98 Try.T99 Try.T100 Try.T101 Try.T102 Try.T103 Try.T104 Try.T105 Try.T106 Try.T107 Try.T108 Try.T109 Try.T110 Try.T111 Try.T113 Try.T114 Try.T115 Try.T116 Try.T117 Try.T118 Try.T119 Try.T120 Try.T121 Try.T122 Try.T123 Try.T124 Try.T125 Try.T126 Try.T127 Try.T128 Try.T129 Try.T130 Try.T133 Try.T136 Try.T137 Try.T140 Try.T141
attribute [local irreducible] Go.Av.CallK Go.Av.CallE Go.Av.CallQ Go.Av.CallF Go.Av.CallR Go.Av.CallH Go.Av.Con
/-- A message: from, to, and the rest of it. -/
structure Mq where
  (fr to : Int)
  (r : List PV)
  h : r.length = 44
def Mq.cells (m : Mq) : List PV := I m.fr :: I m.to :: m.r
def mqs (l : List Mq) : List (List PV) := l.map Mq.cells
theorem Mq.of {r : List PV} (h : fMs.ok r) : ∃ m : Mq, r = m.cells := by
  obtain ⟨m0, m1, m2, m3, m4, m5, m6, m7, m8, m9, m10, m11, m12, m13, m14, m15, m16, m17, m18, m19, m20, m21, m22, m23, m24, m25, m26, m27, m28, m29, m30, m31, m32, m33, m34, m35, m36, m37, m38, m39, m40, m41, m42, m43, m44, m45, rfl, -⟩ := fMs_sh h
  exact ⟨⟨m0, m1, _, rfl⟩, rfl⟩
/-- What may be on its way. -/
structure OkM (m : Mq) : Prop where
  ok : fMs.ok m.cells
  z : Zs m.cells
@[simp] theorem mqs_len (l : List Mq) : (mqs l).length = l.length := by simp [mqs]
theorem mqs_get {l : List Mq} {k : Nat} (h : k < l.length) : (mqs l)[k]? = some l[k].cells := by simp [mqs, h]
@[simp] theorem mqs_getElem (l : List Mq) (k : Nat) (h : k < (mqs l).length) : (mqs l)[k] = (l[k]'(by simpa using h)).cells := by simp [mqs]
theorem mqs_snoc (l : List Mq) (m : Mq) : mqs l ++ [m.cells] = mqs (l ++ [m]) := by simp [mqs]
theorem mqs_app (l m : List Mq) : mqs l ++ mqs m = mqs (l ++ m) := by simp [mqs]
theorem mqs_take (l : List Mq) (k : Nat) : (mqs l).take k = mqs (l.take k) := by simp [mqs, List.map_take]
theorem mqs_drop (l : List Mq) (k : Nat) : (mqs l).drop k = mqs (l.drop k) := by simp [mqs, List.map_drop]
@[simp high] theorem mq_fr (m : Mq) : m.cells[0]? = some (I m.fr) := rfl
@[simp high] theorem mq_to (m : Mq) : m.cells[1]? = some (I m.to) := rfl
@[simp high] theorem mqg_fr (m : Mq) (h : 0 < m.cells.length) : m.cells[0]'h = I m.fr := rfl
@[simp high] theorem mqg_to (m : Mq) (h : 1 < m.cells.length) : m.cells[1]'h = I m.to := rfl
@[simp] theorem mq_len (m : Mq) : m.cells.length = 46 := by simp [Mq.cells, m.h]
@[simp high] theorem mq_take (m : Mq) : m.cells.take 46 = m.cells := List.take_of_length_le (by simp)
@[simp high] theorem mq_takeV (m : Mq) : (m.cells.map V.p).take 46 = m.cells.map V.p := List.take_of_length_le (by simp)
@[simp high] theorem mq_drop (m : Mq) : m.cells.drop 46 = [] := List.drop_of_length_le (by simp)
@[simp high] theorem mq_toPs : ∀ (l : List PV), toPs (l.map V.p) = some l
  | [] => rfl
  | x :: l => by simp only [List.map_cons, toPs, toP, mq_toPs l]
@[simp high] theorem mq_ren (l : List PV) (r s : Nat → Option Nat) : (l.map V.p).map (ren0 r s) = l.map V.p := by simp [ren0]
@[simp high] theorem mq_scr (l : List PV) (b : Nat) : (l.map V.p).map (scr0 b) = l.map V.p := by simp [scr0]
@[simp high] theorem mq_sub (l : List PV) (b : Nat) (q : PV) : (l.map V.p).map (sub0 b q) = l.map V.p := by simp [sub0]
@[simp high] theorem mq_renC (l : List PV) (r s : Nat → Option Nat) : l.map (ren0 r s ∘ V.p) = l.map V.p := rfl
@[simp high] theorem mq_scrC (l : List PV) (b : Nat) : l.map (scr0 b ∘ V.p) = l.map V.p := rfl
@[simp high] theorem mq_subC (l : List PV) (b : Nat) (q : PV) : l.map (sub0 b q ∘ V.p) = l.map V.p := rfl
set_option maxHeartbeats 2000000 in
theorem olMs (l : List Mq) (ho : ∀ m ∈ l, OkM m) (hl : l.length ≤ 1048576) : RConX 22 [.p (.sl 46 (mqs l)), .p (.v (.func (.func 23) #[] #[]))] 51 46 (mqs l) := by
  by_cases h0 : l.length = 0
  · obtain rfl := List.length_eq_zero_iff.1 h0
    refine wBodyR Try.tab Try.mixed Try.func22 rfl rfl Try.ntmps22 rfl (by simp) (by simp) fun Q hr hn => ?_
    repeat' first | (refine wRetG [.row 4 51 46] ?_) | (refine hK _ ?_; clear hK) | (refine hK _ _ ?_; clear hK) | (clear hK; refine hK _ ?_; clear hK) | (clear hK; clear hK; refine hK _ ?_; clear hK) | (clear hK; clear hK; clear hK; refine hK _ ?_; clear hK) | (clear hK; clear hK; clear hK; clear hK; refine hK _ ?_; clear hK) | (refine wSeq fun K hK => ?_) | ((first | refine wReg ?_ | refine wDrwQ rfl (by kernel_rfl) ?_ | refine wDrwI ?_ | refine wDrw (by kernel_rfl) ?_); simp only [List.map_cons, List.map_nil, strip]) | ((first | refine wIs fun K hK => ?_ | refine wOs fun K hK => ?_ | refine wQs fun K hK => ?_ | refine CallK_plain ?_ | refine CallQ_plain ?_ | refine CallR_plain ?_ | refine wCond ?_); simp [mqs]) | (refine wIn ?_; refine And.intro (by kernel_rfl) ?_; try simp only [thenA_n]) | (first | refine wBlock ?_ | refine wScope ?_) | ((first | refine wRet ?_ | refine wExit ?_ | refine wSkip ?_); try simp) | ((first | refine wLabel ?_ | refine wOn ?_ | refine wQn ?_); try simp only [thenA_n])
    all_goals refine hr _ 4 (by simp) (by simp [mqs]) (by omega)
  have h0' : ¬ (l.length : Int) = 0 := by omega
  refine wBodyR Try.tab Try.mixed Try.func22 rfl rfl Try.ntmps22 rfl (by simp) (by simp) fun Q hr hn => ?_
  repeat' first | (rw [if_pos ⟨by omega, by omega⟩]) | (refine hK _ ?_; clear hK) | (refine hK _ _ ?_; clear hK) | (clear hK; refine hK _ ?_; clear hK) | (clear hK; clear hK; refine hK _ ?_; clear hK) | (clear hK; clear hK; clear hK; refine hK _ ?_; clear hK) | (clear hK; clear hK; clear hK; clear hK; refine hK _ ?_; clear hK) | (refine wSeq fun K hK => ?_) | ((first | refine wReg ?_ | refine wDrwQ rfl (by kernel_rfl) ?_ | refine wDrwI ?_ | refine wDrw (by kernel_rfl) ?_); simp only [List.map_cons, List.map_nil, strip]) | ((first | refine wIs fun K hK => ?_ | refine wOs fun K hK => ?_ | refine wQs fun K hK => ?_ | refine CallK_plain ?_ | refine CallQ_plain ?_ | refine CallR_plain ?_ | refine wCond ?_); simp [h0, h0']) | (refine wIn ?_; refine And.intro (by kernel_rfl) ?_; try simp only [thenA_n]) | (first | refine wBlock ?_ | refine wScope ?_) | ((first | refine wRet ?_ | refine wExit ?_ | refine wSkip ?_); try simp) | ((first | refine wLabel ?_ | refine wOn ?_ | refine wQn ?_); try simp only [thenA_n])
  refine wLoop (fun N st => ∃ k zs, k + N = l.length ∧ zs.length = l.length ∧ (∀ r ∈ zs, r.length = 46) ∧ zs.take k = (mqs l).take k ∧ st.s 1 = .p (.v (.func (.func 23) #[] #[])) ∧ st.s 5 = .row 13 ∧ st.s 14 = .p (.sl 46 (mqs l)) ∧ st.s 15 = .p (I l.length) ∧ st.s 16 = .p (I k) ∧ st.b 13 = some (.row 51 46 zs)) l.length ⟨0, List.replicate l.length [I 0, I 0, I 0, I 0, I 0, I 0, I 0, I 0, I 0, I 0, I 0, I 0, I 0, I 0, .sl 2 [], I 0, I 0, I 0, .sl 5 [], .sl 1 [], I 0, I 0, I 0, I 0, .sl 4 [], I 0, I 0, .sl 8 [], I 0, I 0, I 0, I 0, I 0, I 0, SB [], .sl 11 [], .sl 1 [], I 0, I 0, I 0, .sl 6 [], I 0, .sl 4 [], .sl 1 [], I 0, I 0], by simp [show ByteArray.empty = bs [] from rfl]⟩ fun K N st hL ⟨k, zs, hk, hz1, hzl, hi, g1, g5, g14, g15, g16, b13⟩ => ?_
  by_cases hlt : k < l.length
  · have hlt' : (k : Int) < l.length := by omega
    have hltz : k < zs.length := by omega
    have hzk := hzl _ (List.getElem_mem hltz)
    have hzd : List.drop 46 zs[k] = [] := List.drop_of_length_le (by omega)
    have hltm : k < (mqs l).length := by simpa using hlt
    have hw := wrapS k _ hlt (by omega)
    have he := mqs_get hlt
    have hok := ho _ (List.getElem_mem hlt)
    have c := oMs l[k].cells hok.ok hok.z
    have hst := set_takeR zs k l[k].cells hltz
    rw [hi, show l[k].cells = (mqs l)[k] by simp, ← List.take_succ_eq_append_getElem hltm] at hst
    rw [show (mqs l)[k] = l[k].cells by simp] at hst
    generalize hQ : l[k] = r at *
    repeat' first | (refine hK _ ?_; clear hK) | (refine hK _ _ ?_; clear hK) | (clear hK; refine hK _ ?_; clear hK) | (clear hK; clear hK; refine hK _ ?_; clear hK) | (clear hK; clear hK; clear hK; refine hK _ ?_; clear hK) | (clear hK; clear hK; clear hK; clear hK; refine hK _ ?_; clear hK) | (refine wSeq fun K hK => ?_) | ((first | refine wReg ?_ | refine wDrwQ rfl (by kernel_rfl) ?_ | refine wDrwI ?_ | refine wDrw (by kernel_rfl) ?_); simp only [List.map_cons, List.map_nil, strip]) | ((first | refine wIs fun K hK => ?_ | refine wOs fun K hK => ?_ | refine wQs fun K hK => ?_ | refine CallK_plain ?_ | refine CallQ_plain ?_ | refine CallR_plain ?_ | refine wCond ?_); simp [g1, g5, g14, g15, g16, b13, hlt, hlt', hltz, hw, he, hQ, hzk, hzd]) | (refine wIn ?_; refine And.intro (by kernel_rfl) ?_; try simp only [thenA_n]) | (first | refine wBlock ?_ | refine wScope ?_) | ((first | refine wRet ?_ | refine wExit ?_ | refine wSkip ?_); try simp) | ((first | refine wLabel ?_ | refine wOn ?_ | refine wQn ?_); try simp only [thenA_n]) | (refine CallE.pure (c) rfl ?_) | (refine CallE.lent (c) rfl ?_) | (refine CallF.pure (c) rfl ?_) | (refine CallF.lent (c) rfl ?_) | (refine CallE.own (c) ?_) | (refine CallH.pure (c) rfl ?_) | (refine CallH.lent (c) rfl ?_) | (refine CallH.own (c) ?_)
    refine hL _ (N - 1) (by omega) ⟨k + 1, zs.set k r.cells, by omega, by simpa using hz1, fun r hr2 => ?_, hst, ?_⟩
    · rcases List.mem_or_eq_of_mem_set hr2 with h | rfl
      · exact hzl _ h
      · exact mq_len _
    simp [g1, g5, g14, g15, g16, b13, hw]
  · have hlt' : ¬ (k : Int) < l.length := by omega
    rw [List.take_of_length_le (by omega), List.take_of_length_le (by simp; omega)] at hi
    subst hi
    repeat' first | (refine hK _ ?_; clear hK) | (refine hK _ _ ?_; clear hK) | (clear hK; refine hK _ ?_; clear hK) | (clear hK; clear hK; refine hK _ ?_; clear hK) | (clear hK; clear hK; clear hK; refine hK _ ?_; clear hK) | (clear hK; clear hK; clear hK; clear hK; refine hK _ ?_; clear hK) | (refine wSeq fun K hK => ?_) | ((first | refine wReg ?_ | refine wDrwQ rfl (by kernel_rfl) ?_ | refine wDrwI ?_ | refine wDrw (by kernel_rfl) ?_); simp only [List.map_cons, List.map_nil, strip]) | ((first | refine wIs fun K hK => ?_ | refine wOs fun K hK => ?_ | refine wQs fun K hK => ?_ | refine CallK_plain ?_ | refine CallQ_plain ?_ | refine CallR_plain ?_ | refine wCond ?_); simp [g1, g5, g14, g15, g16, b13, hlt, hlt']) | (refine wIn ?_; refine And.intro (by kernel_rfl) ?_; try simp only [thenA_n]) | (first | refine wBlock ?_ | refine wScope ?_) | ((first | refine wRet ?_ | refine wExit ?_ | refine wSkip ?_); try simp) | ((first | refine wLabel ?_ | refine wOn ?_ | refine wQn ?_); try simp only [thenA_n])
    all_goals refine hr _ 13 (by simp [g5]) (by simp [b13]) (by omega)
/-! ### Which stay -/
theorem apart1_con (m : Mq) (p0 p1 : Int) : Con Try.prog 48 [.p (.agg m.cells), .ptr 1024 0] [.box 87 [.p (I p0), .p (I p1)]] (.ret (.p (B (!decide (two m.fr m.to = ⟨p0, p1⟩)))) [] [.box 87 [.p (I p0), .p (I p1)]]) := by
  have c := two_con m.fr m.to
  generalize two m.fr m.to = q at *
  obtain ⟨q0, q1⟩ := q
  have hx : (!decide ((⟨q0, q1⟩ : Pr) = ⟨p0, p1⟩)) = !(decide (q0 = p0) && decide (q1 = p1)) := by
    by_cases h1 : q0 = p0 <;> by_cases h2 : q1 = p1 <;> simp [h1, h2]
  rw [hx]
  by_cases h1 : q0 = p0
  all_goals by_cases h2 : q1 = p1
  all_goals refine wBodyG Try.tab Try.mixed Try.func48 rfl rfl Try.ntmps48 (by simp) (by simp) fun Q hr hn hp => ?_
  all_goals repeat' first | (refine hK _ ?_; clear hK) | (refine hK _ _ ?_; clear hK) | (clear hK; refine hK _ ?_; clear hK) | (clear hK; clear hK; refine hK _ ?_; clear hK) | (clear hK; clear hK; clear hK; refine hK _ ?_; clear hK) | (clear hK; clear hK; clear hK; clear hK; refine hK _ ?_; clear hK) | (refine wSeq fun K hK => ?_) | ((first | refine wReg ?_ | refine wDrwQ rfl (by kernel_rfl) ?_ | refine wDrwI ?_ | refine wDrw (by kernel_rfl) ?_); simp only [List.map_cons, List.map_nil, strip]) | ((first | refine wIs fun K hK => ?_ | refine wOs fun K hK => ?_ | refine wQs fun K hK => ?_ | refine CallK_plain ?_ | refine CallQ_plain ?_ | refine CallR_plain ?_ | refine wCond ?_); simp [h1, h2]) | (refine wIn ?_; refine And.intro (by kernel_rfl) ?_; try simp only [thenA_n]) | (first | refine wBlock ?_ | refine wScope ?_) | ((first | refine wRet ?_ | refine wExit ?_ | refine wSkip ?_); try simp) | ((first | refine wLabel ?_ | refine wOn ?_ | refine wQn ?_); try simp only [thenA_n]) | (refine CallE.pure (c) rfl ?_) | (refine CallE.lent (c) rfl ?_) | (refine CallF.pure (c) rfl ?_) | (refine CallF.lent (c) rfl ?_) | (refine CallE.own (c) ?_) | (refine CallH.pure (c) rfl ?_) | (refine CallH.lent (c) rfl ?_) | (refine CallH.own (c) ?_)
  all_goals first | apply hn | apply hr
  all_goals refine ⟨[], by simp, by simp, ?_⟩
  all_goals simp [Try.f48, outR, outB, renB, gaN, h1, h2]
theorem apart_con (a b : Int) : Con Try.prog 28 [.p (I a), .p (I b)] [] (.ret (.clo ⟨48, false⟩ [.box 2048]) [.box 87 [.p (I (two a b).a), .p (I (two a b).b)]] []) := by
  have c := two_con a b
  generalize two a b = q at *
  obtain ⟨q0, q1⟩ := q
  refine wBodyG Try.tab Try.mixed Try.func28 rfl rfl Try.ntmps28 (by simp) (by simp) fun Q hr hn hp => ?_
  repeat' first | (refine hK _ ?_; clear hK) | (refine hK _ _ ?_; clear hK) | (clear hK; refine hK _ ?_; clear hK) | (clear hK; clear hK; refine hK _ ?_; clear hK) | (clear hK; clear hK; clear hK; refine hK _ ?_; clear hK) | (clear hK; clear hK; clear hK; clear hK; refine hK _ ?_; clear hK) | (refine wSeq fun K hK => ?_) | ((first | refine wReg ?_ | refine wDrwQ rfl (by kernel_rfl) ?_ | refine wDrwI ?_ | refine wDrw (by kernel_rfl) ?_); simp only [List.map_cons, List.map_nil, strip]) | ((first | refine wIs fun K hK => ?_ | refine wOs fun K hK => ?_ | refine wQs fun K hK => ?_ | refine CallK_plain ?_ | refine CallQ_plain ?_ | refine CallR_plain ?_ | refine wCond ?_); simp) | (refine wIn ?_; refine And.intro (by kernel_rfl) ?_; try simp only [thenA_n]) | (first | refine wBlock ?_ | refine wScope ?_) | ((first | refine wRet ?_ | refine wExit ?_ | refine wSkip ?_); try simp) | ((first | refine wLabel ?_ | refine wOn ?_ | refine wQn ?_); try simp only [thenA_n]) | (refine CallE.pure (c) rfl ?_) | (refine CallE.lent (c) rfl ?_) | (refine CallF.pure (c) rfl ?_) | (refine CallF.lent (c) rfl ?_) | (refine CallE.own (c) ?_) | (refine CallH.pure (c) rfl ?_) | (refine CallH.lent (c) rfl ?_) | (refine CallH.own (c) ?_)
  all_goals first | apply hn | apply hr
  all_goals refine ⟨[5], by simp, by simp, ?_⟩
  all_goals simp [Try.f28, outR, outB, renB, gaN]
theorem filt_snoc {l : List Mq} {k : Nat} (f : Mq → Bool) (h : k < l.length) : (l.take (k + 1)).filter f = if f l[k] = true then (l.take k).filter f ++ [l[k]] else (l.take k).filter f := by
  rw [List.take_succ_eq_append_getElem h, List.filter_append]
  by_cases g : f l[k] = true <;> simp [g]
theorem filt_len (l : List Mq) (f : Mq → Bool) (k : Nat) : ((l.take k).filter f).length ≤ k := Nat.le_trans (List.length_filter_le _ _) (by simp; omega)
set_option maxHeartbeats 2000000 in
theorem sifted_con (g : FuncId) (B0 : Blk) (hB : ∃ (t : TypeId) (cs : List Int), B0 = .box t (cs.map fun x => V.p (I x))) (f : Mq → Bool) (hc : ∀ m, Con Try.prog g [.p (.agg m.cells), .ptr 1024 0] [B0] (.ret (.p (B (f m))) [] [B0])) (l : List Mq) (hl : l.length ≤ 2000000) : Con Try.prog 27 [.p (.sl 46 (mqs l)), .clo ⟨g, false⟩ [.box 1024]] [B0] (.ret (.row 2048) [.row 51 46 (mqs (l.filter f))] [B0]) := by
  obtain ⟨t, cs, rfl⟩ := hB
  refine wBodyG Try.tab Try.mixed Try.func27 rfl rfl Try.ntmps27 (by simp) (by simp) fun Q hr hn hp => ?_
  repeat' first | (refine hK _ ?_; clear hK) | (refine hK _ _ ?_; clear hK) | (clear hK; refine hK _ ?_; clear hK) | (clear hK; clear hK; refine hK _ ?_; clear hK) | (clear hK; clear hK; clear hK; refine hK _ ?_; clear hK) | (clear hK; clear hK; clear hK; clear hK; refine hK _ ?_; clear hK) | (refine wSeq fun K hK => ?_) | ((first | refine wReg ?_ | refine wDrwQ rfl (by kernel_rfl) ?_ | refine wDrwI ?_ | refine wDrw (by kernel_rfl) ?_); simp only [List.map_cons, List.map_nil, strip]) | ((first | refine wIs fun K hK => ?_ | refine wOs fun K hK => ?_ | refine wQs fun K hK => ?_ | refine CallK_plain ?_ | refine CallQ_plain ?_ | refine CallR_plain ?_ | refine wCond ?_); simp) | (refine wIn ?_; refine And.intro (by kernel_rfl) ?_; try simp only [thenA_n]) | (first | refine wBlock ?_ | refine wScope ?_) | ((first | refine wRet ?_ | refine wExit ?_ | refine wSkip ?_); try simp) | ((first | refine wLabel ?_ | refine wOn ?_ | refine wQn ?_); try simp only [thenA_n])
  refine wLoopG [.row 5 51 46] (fun N st => ∃ k, k + N = l.length ∧ st.s 1 = .clo ⟨g, false⟩ [.box 1024] ∧ st.s 8 = .p (.sl 46 (mqs l)) ∧ st.s 9 = .p (I l.length) ∧ st.s 10 = .p (I k) ∧ st.s 5 = .row 5 ∧ st.b 5 = some (.row 51 46 (mqs ((l.take k).filter f))) ∧ st.b 1024 = some (.box t (cs.map fun x => V.p (I x)))) l.length ⟨0, by simp [mqs]⟩ fun K N st hL ⟨k, hk, g1, g8, g9, g10, g5, b5, e0⟩ => ?_
  by_cases hlt : k < l.length
  · have hlt' : (k : Int) < l.length := by omega
    have hw := wrapS k _ hlt (by omega)
    have he := mqs_get hlt
    have hs := filt_snoc f hlt
    have hsl := filt_len l f k
    have hx := mqs_snoc ((l.take k).filter f) l[k]
    have c := hc l[k]
    generalize hQ : l[k] = m at *
    generalize (l.take k).filter f = S0 at *
    cases o : f m
    · rw [o] at hs c
      rw [if_neg (by simp)] at hs
      repeat' first | (refine CallK_read [1024] c (by decide) (by decide) (by simp [e0]) (by simp [argG, ren0, inN, pos, renCs, renC, hQ]) rfl ?_; simp [g1, g8, g9, g10, g5, b5, e0]) | (refine hK _ ?_; clear hK) | (refine hK _ _ ?_; clear hK) | (clear hK; refine hK _ ?_; clear hK) | (clear hK; clear hK; refine hK _ ?_; clear hK) | (clear hK; clear hK; clear hK; refine hK _ ?_; clear hK) | (clear hK; clear hK; clear hK; clear hK; refine hK _ ?_; clear hK) | (refine wSeq fun K hK => ?_) | ((first | refine wReg ?_ | refine wDrwQ rfl (by kernel_rfl) ?_ | refine wDrwI ?_ | refine wDrw (by kernel_rfl) ?_); simp only [List.map_cons, List.map_nil, strip]) | ((first | refine wIs fun K hK => ?_ | refine wOs fun K hK => ?_ | refine wQs fun K hK => ?_ | refine CallK_plain ?_ | refine CallQ_plain ?_ | refine CallR_plain ?_ | refine wCond ?_); simp [g1, g8, g9, g10, g5, b5, e0, hlt, hlt', hw, he, hQ]) | (refine wIn ?_; refine And.intro (by kernel_rfl) ?_; try simp only [thenA_n]) | (first | refine wBlock ?_ | refine wScope ?_) | ((first | refine wRet ?_ | refine wExit ?_ | refine wSkip ?_); try simp) | ((first | refine wLabel ?_ | refine wOn ?_ | refine wQn ?_); try simp only [thenA_n])
      refine hL _ (N - 1) (by omega) ⟨k + 1, by omega, ?_⟩
      simp [g1, g8, g9, g10, g5, b5, e0, hw, hs]
    · rw [o] at hs c
      rw [if_pos rfl] at hs
      rw [← hs] at hx
      repeat' first | (refine CallK_read [1024] c (by decide) (by decide) (by simp [e0]) (by simp [argG, ren0, inN, pos, renCs, renC, hQ]) rfl ?_; simp [g1, g8, g9, g10, g5, b5, e0]) | (refine And.intro (by (try simp at hsl ⊢); omega) ?_) | (refine hK _ ?_; clear hK) | (refine hK _ _ ?_; clear hK) | (clear hK; refine hK _ ?_; clear hK) | (clear hK; clear hK; refine hK _ ?_; clear hK) | (clear hK; clear hK; clear hK; refine hK _ ?_; clear hK) | (clear hK; clear hK; clear hK; clear hK; refine hK _ ?_; clear hK) | (refine wSeq fun K hK => ?_) | ((first | refine wReg ?_ | refine wDrwQ rfl (by kernel_rfl) ?_ | refine wDrwI ?_ | refine wDrw (by kernel_rfl) ?_); simp only [List.map_cons, List.map_nil, strip]) | ((first | refine wIs fun K hK => ?_ | refine wOs fun K hK => ?_ | refine wQs fun K hK => ?_ | refine CallK_plain ?_ | refine CallQ_plain ?_ | refine CallR_plain ?_ | refine wCond ?_); simp [g1, g8, g9, g10, g5, b5, e0, hlt, hlt', hw, he, hQ]) | (refine wIn ?_; refine And.intro (by kernel_rfl) ?_; try simp only [thenA_n]) | (first | refine wBlock ?_ | refine wScope ?_) | ((first | refine wRet ?_ | refine wExit ?_ | refine wSkip ?_); try simp) | ((first | refine wLabel ?_ | refine wOn ?_ | refine wQn ?_); try simp only [thenA_n])
      refine hL _ (N - 1) (by omega) ⟨k + 1, by omega, ?_⟩
      simp [g1, g8, g9, g10, g5, b5, e0, hw, hx, hQ]
  · have hlt' : ¬ (k : Int) < l.length := by omega
    rw [List.take_of_length_le (by omega)] at b5
    repeat' first | (refine hK _ ?_; clear hK) | (refine hK _ _ ?_; clear hK) | (clear hK; refine hK _ ?_; clear hK) | (clear hK; clear hK; refine hK _ ?_; clear hK) | (clear hK; clear hK; clear hK; refine hK _ ?_; clear hK) | (clear hK; clear hK; clear hK; clear hK; refine hK _ ?_; clear hK) | (refine wSeq fun K hK => ?_) | ((first | refine wReg ?_ | refine wDrwQ rfl (by kernel_rfl) ?_ | refine wDrwI ?_ | refine wDrw (by kernel_rfl) ?_); simp only [List.map_cons, List.map_nil, strip]) | ((first | refine wIs fun K hK => ?_ | refine wOs fun K hK => ?_ | refine wQs fun K hK => ?_ | refine CallK_plain ?_ | refine CallQ_plain ?_ | refine CallR_plain ?_ | refine wCond ?_); simp [g1, g8, g9, g10, g5, b5, e0, hlt, hlt']) | (refine wIn ?_; refine And.intro (by kernel_rfl) ?_; try simp only [thenA_n]) | (first | refine wBlock ?_ | refine wScope ?_) | ((first | refine wRet ?_ | refine wExit ?_ | refine wSkip ?_); try simp) | ((first | refine wLabel ?_ | refine wOn ?_ | refine wQn ?_); try simp only [thenA_n])
    all_goals first | apply hn | apply hr
    all_goals refine ⟨[5], by simp, by simp, ?_⟩
    all_goals simp [Try.f27, outR, outB, renB, gaN, g5, b5, e0]
/- Messages on their way: the first of each way; one taken; those between two, of one, lost. -/
def wy (m : Mq) : Pr := ⟨m.fr, m.to⟩
/-- The places, among the first k, of those ahead of which none goes the same way; their ways. -/
def fsF (l : List Mq) : Nat → List Nat
  | 0 => []
  | k + 1 => if h : k < l.length then (if wy l[k] ∈ (l.take k).map wy then fsF l k else fsF l k ++ [k]) else fsF l k
def wsF (l : List Mq) : Nat → List Pr
  | 0 => []
  | k + 1 => if h : k < l.length then (if wy l[k] ∈ (l.take k).map wy then wsF l k else wsF l k ++ [wy l[k]]) else wsF l k
def nis (l : List Nat) : List (List PV) := l.map fun n => [I (n : Nat)]
@[simp] theorem nis_len (l : List Nat) : (nis l).length = l.length := by simp [nis]
@[simp] theorem nis_getElem (l : List Nat) (k : Nat) (h : k < (nis l).length) : (nis l)[k] = [I ((l[k]'(by simpa using h) : Nat) : Int)] := by simp [nis]
theorem nis_get {l : List Nat} {k : Nat} (h : k < l.length) : (nis l)[k]? = some [I ((l[k] : Nat) : Int)] := by simp [nis, h]
theorem nis_snoc (l : List Nat) (n : Nat) : nis l ++ [[I (n : Nat)]] = nis (l ++ [n]) := by simp [nis]
theorem ws_mem (l : List Mq) (p : Pr) : ∀ k, k ≤ l.length → (p ∈ wsF l k ↔ p ∈ (l.take k).map wy)
  | 0, _ => by simp [wsF]
  | k + 1, h => by
    have ih := ws_mem l p k (by omega)
    rw [wsF, dif_pos (by omega), List.take_succ_eq_append_getElem (by omega), List.map_append, List.mem_append]
    by_cases g : wy l[k] ∈ (l.take k).map wy
    · rw [if_pos g, ih]
      constructor
      · exact .inl
      · rintro (h1 | h1)
        · exact h1
        · simp only [List.map_cons, List.map_nil, List.mem_singleton] at h1
          rw [h1]; exact g
    · rw [if_neg g, List.mem_append, ih]; simp
theorem ws_len (l : List Mq) : ∀ k, (wsF l k).length = (fsF l k).length
  | 0 => rfl
  | k + 1 => by
    have ih := ws_len l k
    rw [wsF, fsF]
    split
    · split
      · exact ih
      · simp [ih]
    · exact ih
theorem fs_len (l : List Mq) : ∀ k, (fsF l k).length ≤ k
  | 0 => by simp [fsF]
  | k + 1 => by
    have ih := fs_len l k
    rw [fsF]
    split
    · split
      · omega
      · simp only [List.length_append, List.length_cons, List.length_nil]; omega
    · omega
theorem fs_pre (l : List Mq) (k : Nat) : ∀ d, ∃ r, fsF l (k + d) = fsF l k ++ r
  | 0 => ⟨[], by simp⟩
  | d + 1 => by
    obtain ⟨r, h⟩ := fs_pre l k d
    rw [show k + (d + 1) = (k + d) + 1 by omega, fsF]
    split
    · split
      · exact ⟨r, h⟩
      · exact ⟨r ++ [k + d], by rw [h, List.append_assoc]⟩
    · exact ⟨r, h⟩
theorem fs_take {l : List Mq} {k : Nat} (h : k ≤ l.length) : (fsF l l.length).take (fsF l k).length = fsF l k := by
  obtain ⟨r, hr⟩ := fs_pre l k (l.length - k)
  rw [show k + (l.length - k) = l.length by omega] at hr
  rw [hr, List.take_left]
theorem fs_lt (l : List Mq) : ∀ k, ∀ i ∈ fsF l k, i < l.length
  | 0, i, h => by simp [fsF] at h
  | k + 1, i, h => by
    rw [fsF] at h
    split at h
    · split at h
      · exact fs_lt l k i h
      · rcases List.mem_append.1 h with h | h
        · exact fs_lt l k i h
        · rw [List.mem_singleton] at h; omega
    · exact fs_lt l k i h
theorem wy2 (m : Mq) (p : Pr) : p = wy m ↔ (p.a = m.fr ∧ p.b = m.to) := by rw [Pr.ext2]; rfl
theorem prs_snoc2 (l : List Pr) (m : Mq) : prs l ++ [[I m.fr, I m.to]] = prs (l ++ [wy m]) := by simp [prs, Pr.cells, wy]
set_option maxHeartbeats 4000000 in
theorem firsts_con (l : List Mq) (most : Nat) (hl : l.length ≤ 1048576) (hm : most ≤ 1048577) : ACon Try.prog 24 [.p (.sl 46 (mqs l)), .p (I (most : Nat))] (.p (.sl 1 (nis ((fsF l l.length).take most)))) := by
  refine wBody Try.tab Try.mixed Try.func24 rfl rfl Try.ntmps24 (by simp) (by simp) fun Q hr hn => ?_
  repeat' first | (refine hK _ ?_; clear hK) | (refine hK _ _ ?_; clear hK) | (clear hK; refine hK _ ?_; clear hK) | (clear hK; clear hK; refine hK _ ?_; clear hK) | (clear hK; clear hK; clear hK; refine hK _ ?_; clear hK) | (clear hK; clear hK; clear hK; clear hK; refine hK _ ?_; clear hK) | (refine wSeq fun K hK => ?_) | ((first | refine wReg ?_ | refine wDrwQ rfl (by kernel_rfl) ?_ | refine wDrwI ?_ | refine wDrw (by kernel_rfl) ?_); simp only [List.map_cons, List.map_nil, strip]) | ((first | refine wIs fun K hK => ?_ | refine wOs fun K hK => ?_ | refine wQs fun K hK => ?_ | refine CallK_plain ?_ | refine CallQ_plain ?_ | refine CallR_plain ?_ | refine wCond ?_); simp) | (refine wIn ?_; refine And.intro (by kernel_rfl) ?_; try simp only [thenA_n]) | (first | refine wBlock ?_ | refine wScope ?_) | ((first | refine wRet ?_ | refine wExit ?_ | refine wSkip ?_); try simp) | ((first | refine wLabel ?_ | refine wOn ?_ | refine wQn ?_); try simp only [thenA_n])
  refine wLoopG [.row 5 3 1, .row 6 87 2] (fun N st => ∃ k, k + N = l.length ∧ (fsF l k).length ≤ most ∧ st.s 0 = .p (.sl 46 (mqs l)) ∧ st.s 1 = .p (I (most : Nat)) ∧ st.s 5 = .row 5 ∧ st.s 6 = .row 6 ∧ st.b 5 = some (.row 3 1 (nis (fsF l k))) ∧ st.b 6 = some (.row 87 2 (prs (wsF l k))) ∧ st.s 11 = .p (.sl 46 (mqs l)) ∧ st.s 12 = .p (I l.length) ∧ st.s 13 = .p (I k)) l.length ⟨0, by simp [fsF, wsF, nis, prs]⟩ fun K N st hL ⟨k, hk, hle, g0, g1, g5, g6, b5, b6, g11, g12, g13⟩ => ?_
  by_cases hlt : k < l.length
  case neg =>
    have hlt' : ¬ (k : Int) < l.length := by omega
    have hkl : k = l.length := by omega
    subst hkl
    rw [List.take_of_length_le hle] at hr
    repeat' first | (refine hK _ ?_; clear hK) | (refine hK _ _ ?_; clear hK) | (clear hK; refine hK _ ?_; clear hK) | (clear hK; clear hK; refine hK _ ?_; clear hK) | (clear hK; clear hK; clear hK; refine hK _ ?_; clear hK) | (clear hK; clear hK; clear hK; clear hK; refine hK _ ?_; clear hK) | (refine wSeq fun K hK => ?_) | ((first | refine wReg ?_ | refine wDrwQ rfl (by kernel_rfl) ?_ | refine wDrwI ?_ | refine wDrw (by kernel_rfl) ?_); simp only [List.map_cons, List.map_nil, strip]) | ((first | refine wIs fun K hK => ?_ | refine wOs fun K hK => ?_ | refine wQs fun K hK => ?_ | refine CallK_plain ?_ | refine CallQ_plain ?_ | refine CallR_plain ?_ | refine wCond ?_); simp [g0, g1, g5, g6, b5, b6, g11, g12, g13, hlt, hlt']) | (refine wIn ?_; refine And.intro (by kernel_rfl) ?_; try simp only [thenA_n]) | (first | refine wBlock ?_ | refine wScope ?_) | ((first | refine wRet ?_ | refine wExit ?_ | refine wSkip ?_); try simp) | ((first | refine wLabel ?_ | refine wOn ?_ | refine wQn ?_); try simp only [thenA_n])
    all_goals apply hr
    all_goals simp [Try.f24, g5, b5]
  have hlt' : (k : Int) < l.length := by omega
  by_cases hmo : (fsF l k).length = most
  · have hmo' : ((fsF l k).length : Int) = (most : Int) := by omega
    have ht : (fsF l l.length).take most = fsF l k := by rw [← hmo]; exact fs_take (by omega)
    rw [ht] at hr
    repeat' first | (refine hK _ ?_; clear hK) | (refine hK _ _ ?_; clear hK) | (clear hK; refine hK _ ?_; clear hK) | (clear hK; clear hK; refine hK _ ?_; clear hK) | (clear hK; clear hK; clear hK; refine hK _ ?_; clear hK) | (clear hK; clear hK; clear hK; clear hK; refine hK _ ?_; clear hK) | (refine wSeq fun K hK => ?_) | ((first | refine wReg ?_ | refine wDrwQ rfl (by kernel_rfl) ?_ | refine wDrwI ?_ | refine wDrw (by kernel_rfl) ?_); simp only [List.map_cons, List.map_nil, strip]) | ((first | refine wIs fun K hK => ?_ | refine wOs fun K hK => ?_ | refine wQs fun K hK => ?_ | refine CallK_plain ?_ | refine CallQ_plain ?_ | refine CallR_plain ?_ | refine wCond ?_); simp [g0, g1, g5, g6, b5, b6, g11, g12, g13, hlt, hlt', hmo, hmo']) | (refine wIn ?_; refine And.intro (by kernel_rfl) ?_; try simp only [thenA_n]) | (first | refine wBlock ?_ | refine wScope ?_) | ((first | refine wRet ?_ | refine wExit ?_ | refine wSkip ?_); try simp) | ((first | refine wLabel ?_ | refine wOn ?_ | refine wQn ?_); try simp only [thenA_n])
    all_goals apply hr
    all_goals simp [Try.f24, g5, b5]
  have hmo' : ¬ ((fsF l k).length : Int) = (most : Int) := by omega
  have hw := wrapS k _ hlt (by omega)
  have he := mqs_get hlt
  have hF1 : wy l[k] ∈ wsF l k → fsF l (k + 1) = fsF l k := fun h => by rw [fsF, dif_pos hlt, if_pos ((ws_mem l _ k (by omega)).1 h)]
  have hF2 : wy l[k] ∉ wsF l k → fsF l (k + 1) = fsF l k ++ [k] := fun h => by rw [fsF, dif_pos hlt, if_neg fun g => h ((ws_mem l _ k (by omega)).2 g)]
  have hW1 : wy l[k] ∈ wsF l k → wsF l (k + 1) = wsF l k := fun h => by rw [wsF, dif_pos hlt, if_pos ((ws_mem l _ k (by omega)).1 h)]
  have hW2 : wy l[k] ∉ wsF l k → wsF l (k + 1) = wsF l k ++ [wy l[k]] := fun h => by rw [wsF, dif_pos hlt, if_neg fun g => h ((ws_mem l _ k (by omega)).2 g)]
  have hwl := ws_len l k
  have hfl := fs_len l k
  have hs1 := nis_snoc (fsF l k) k
  have hs2 := prs_snoc2 (wsF l k) l[k]
  have hmem := fun (x : Pr) => wy2 l[k] x
  have hP := fun (j : Nat) (h : j < (wsF l k).length) => prs_get (l := wsF l k) h
  generalize hQ : l[k] = m at *
  generalize hA : wsF l k = W at *
  generalize hB : fsF l k = F at *
  repeat' first | (refine hK _ ?_; clear hK) | (refine hK _ _ ?_; clear hK) | (clear hK; refine hK _ ?_; clear hK) | (clear hK; clear hK; refine hK _ ?_; clear hK) | (clear hK; clear hK; clear hK; refine hK _ ?_; clear hK) | (clear hK; clear hK; clear hK; clear hK; refine hK _ ?_; clear hK) | (refine wSeq fun K hK => ?_) | ((first | refine wReg ?_ | refine wDrwQ rfl (by kernel_rfl) ?_ | refine wDrwI ?_ | refine wDrw (by kernel_rfl) ?_); simp only [List.map_cons, List.map_nil, strip]) | ((first | refine wIs fun K hK => ?_ | refine wOs fun K hK => ?_ | refine wQs fun K hK => ?_ | refine CallK_plain ?_ | refine CallQ_plain ?_ | refine CallR_plain ?_ | refine wCond ?_); simp [g0, g1, g5, g6, b5, b6, g11, g12, g13, hlt, hlt', hmo, hmo', he, hQ, mq_fr, mq_to]) | (refine wIn ?_; refine And.intro (by kernel_rfl) ?_; try simp only [thenA_n]) | (first | refine wBlock ?_ | refine wScope ?_) | ((first | refine wRet ?_ | refine wExit ?_ | refine wSkip ?_); try simp) | ((first | refine wLabel ?_ | refine wOn ?_ | refine wQn ?_); try simp only [thenA_n])
  refine wLoop (fun N2 st => ∃ j, j + N2 = W.length ∧ wy m ∉ W.take j ∧ st.s 0 = .p (.sl 46 (mqs l)) ∧ st.s 1 = .p (I (most : Nat)) ∧ st.s 5 = .row 5 ∧ st.s 6 = .row 6 ∧ st.b 5 = some (.row 3 1 (nis F)) ∧ st.b 6 = some (.row 87 2 (prs W)) ∧ st.s 7 = .p (I k) ∧ st.s 8 = .ptr 8 0 ∧ st.b 8 = some (.box 87 [.p (I m.fr), .p (I m.to)]) ∧ st.s 11 = .p (.sl 46 (mqs l)) ∧ st.s 12 = .p (I l.length) ∧ st.s 13 = .p (I k) ∧ st.s 31 = .row 6 ∧ st.s 32 = .p (I W.length) ∧ st.s 33 = .p (I j)) W.length ⟨0, by simp [g0, g1, g5, g6, b5, b6, g11, g12, g13, hQ]⟩ fun K2 N2 st hL2 ⟨j, hj, hno, e0, e1, e5, e6, c5, c6, e7, e8, c8, e11, e12, e13, e31, e32, e33⟩ => ?_
  by_cases hjl : j < W.length
  · have hjl' : (j : Int) < W.length := by omega
    have hwj := wrapS j _ hjl (by omega)
    have hej := hP j hjl
    by_cases o : W[j] = wy m
    · have o12 := (hmem W[j]).1 o
      obtain ⟨o1, o2⟩ := o12
      have hin : wy m ∈ W := o ▸ List.getElem_mem hjl
      have hF := hF1 hin
      have hW := hW1 hin
      repeat' first | (refine hK _ ?_; clear hK) | (refine hK _ _ ?_; clear hK) | (clear hK; refine hK _ ?_; clear hK) | (clear hK; clear hK; refine hK _ ?_; clear hK) | (clear hK; clear hK; clear hK; refine hK _ ?_; clear hK) | (clear hK; clear hK; clear hK; clear hK; refine hK _ ?_; clear hK) | (refine wSeq fun K hK => ?_) | ((first | refine wReg ?_ | refine wDrwQ rfl (by kernel_rfl) ?_ | refine wDrwI ?_ | refine wDrw (by kernel_rfl) ?_); simp only [List.map_cons, List.map_nil, strip]) | ((first | refine wIs fun K hK => ?_ | refine wOs fun K hK => ?_ | refine wQs fun K hK => ?_ | refine CallK_plain ?_ | refine CallQ_plain ?_ | refine CallR_plain ?_ | refine wCond ?_); simp [e0, e1, e5, e6, c5, c6, e7, e8, c8, e11, e12, e13, e31, e32, e33, hjl, hjl', hwj, hej, o1, o2, hw]) | (refine wIn ?_; refine And.intro (by kernel_rfl) ?_; try simp only [thenA_n]) | (first | refine wBlock ?_ | refine wScope ?_) | ((first | refine wRet ?_ | refine wExit ?_ | refine wSkip ?_); try simp) | ((first | refine wLabel ?_ | refine wOn ?_ | refine wQn ?_); try simp only [thenA_n])
      refine hL _ (N - 1) (by omega) ⟨k + 1, by omega, by rw [hF]; omega, ?_⟩
      simp [e0, e1, e5, e6, c5, c6, e11, e12, e13, hw, hF, hW]
    · have o12 : ¬ (W[j].a = m.fr ∧ W[j].b = m.to) := fun h => o ((hmem W[j]).2 h)
      repeat' first | (refine hK _ ?_; clear hK) | (refine hK _ _ ?_; clear hK) | (clear hK; refine hK _ ?_; clear hK) | (clear hK; clear hK; refine hK _ ?_; clear hK) | (clear hK; clear hK; clear hK; refine hK _ ?_; clear hK) | (clear hK; clear hK; clear hK; clear hK; refine hK _ ?_; clear hK) | (refine wSeq fun K hK => ?_) | ((first | refine wReg ?_ | refine wDrwQ rfl (by kernel_rfl) ?_ | refine wDrwI ?_ | refine wDrw (by kernel_rfl) ?_); simp only [List.map_cons, List.map_nil, strip]) | ((first | refine wIs fun K hK => ?_ | refine wOs fun K hK => ?_ | refine wQs fun K hK => ?_ | refine CallK_plain ?_ | refine CallQ_plain ?_ | refine CallR_plain ?_ | refine wCond ?_); simp [e0, e1, e5, e6, c5, c6, e7, e8, c8, e11, e12, e13, e31, e32, e33, hjl, hjl', hwj, hej, o12, hw]) | (refine wIn ?_; refine And.intro (by kernel_rfl) ?_; try simp only [thenA_n]) | (first | refine wBlock ?_ | refine wScope ?_) | ((first | refine wRet ?_ | refine wExit ?_ | refine wSkip ?_); try simp) | ((first | refine wLabel ?_ | refine wOn ?_ | refine wQn ?_); try simp only [thenA_n]) | (intro _)
      all_goals first | exact o12 | skip
      refine hL2 _ (N2 - 1) (by omega) ⟨j + 1, by omega, ?_, ?_⟩
      · rw [List.take_succ_eq_append_getElem hjl, List.mem_append, List.mem_singleton]
        exact fun h => h.elim hno fun h => o h.symm
      · simp [e0, e1, e5, e6, c5, c6, e7, e8, c8, e11, e12, e13, e31, e32, e33, hwj]
  · have hjl' : ¬ (j : Int) < W.length := by omega
    rw [List.take_of_length_le (by omega)] at hno
    have hF := hF2 hno
    have hW := hW2 hno
    repeat' first | (refine And.intro (by (try simp only [nis_len, prs_len, List.length_cons, List.length_nil]); omega) (Or.inl ?_)) | (refine And.intro (by (try simp only [nis_len, prs_len, List.length_cons, List.length_nil]); omega) ?_) | (refine Or.inl ?_) | (refine hK _ ?_; clear hK) | (refine hK _ _ ?_; clear hK) | (clear hK; refine hK _ ?_; clear hK) | (clear hK; clear hK; refine hK _ ?_; clear hK) | (clear hK; clear hK; clear hK; refine hK _ ?_; clear hK) | (clear hK; clear hK; clear hK; clear hK; refine hK _ ?_; clear hK) | (refine wSeq fun K hK => ?_) | ((first | refine wReg ?_ | refine wDrwQ rfl (by kernel_rfl) ?_ | refine wDrwI ?_ | refine wDrw (by kernel_rfl) ?_); simp only [List.map_cons, List.map_nil, strip]) | ((first | refine wIs fun K hK => ?_ | refine wOs fun K hK => ?_ | refine wQs fun K hK => ?_ | refine CallK_plain ?_ | refine CallQ_plain ?_ | refine CallR_plain ?_ | refine wCond ?_); simp [e0, e1, e5, e6, c5, c6, e7, e8, c8, e11, e12, e13, e31, e32, e33, hjl, hjl', hw]) | (refine wIn ?_; refine And.intro (by kernel_rfl) ?_; try simp only [thenA_n]) | (first | refine wBlock ?_ | refine wScope ?_) | ((first | refine wRet ?_ | refine wExit ?_ | refine wSkip ?_); try simp) | ((first | refine wLabel ?_ | refine wOn ?_ | refine wQn ?_); try simp only [thenA_n])
    refine hL _ (N - 1) (by omega) ⟨k + 1, by omega, by rw [hF]; simp only [List.length_append, List.length_cons, List.length_nil]; omega, ?_⟩
    simp [e0, e1, e5, e6, c5, c6, e11, e12, e13, hw, hF, hW, hs1, hs2]
/- Messages on their way: one taken; those between two, or of one, lost. -/
def mq0 : Mq := ⟨0, 0, [I 0, I 0, I 0, I 0, I 0, I 0, I 0, I 0, I 0, I 0, I 0, I 0, .sl 2 [], I 0, I 0, I 0, .sl 5 [], .sl 1 [], I 0, I 0, I 0, I 0, .sl 4 [], I 0, I 0, .sl 8 [], I 0, I 0, I 0, I 0, I 0, I 0, SB [], .sl 11 [], .sl 1 [], I 0, I 0, I 0, .sl 6 [], I 0, .sl 4 [], .sl 1 [], I 0, I 0], rfl⟩
/-- The place of the k-th that may come. -/
def tkA (l : List Mq) (k : Int) : Option Nat := if k < 0 then none else (fsF l l.length)[k.toNat]?
def tkV (l : List Mq) (k : Int) : V := match tkA l k with
  | none => .tup [.p (.agg mq0.cells), .p (.sl 46 (mqs l)), .p (B false)]
  | some i => .tup [.p (.agg ((l[i]?).getD mq0).cells), .p (.sl 46 (mqs (l.eraseIdx i))), .p (B true)]
theorem mem_erase {l : List Mq} {i : Nat} {m : Mq} (h : m ∈ l.eraseIdx i) : m ∈ l := List.mem_of_mem_eraseIdx h
set_option maxHeartbeats 8000000 in
theorem take_con (l : List Mq) (k : Int) (ho : ∀ m ∈ l, OkM m) (hl : l.length ≤ 1048575) : ACon Try.prog 8 [.p (.sl 46 (mqs l)), .p (I k)] (tkV l k) := by
  have cL := olMs l ho (by omega)
  by_cases h1 : k < 0
  · rw [show tkV l k = .tup [.p (.agg mq0.cells), .p (.sl 46 (mqs l)), .p (B false)] by unfold tkV tkA; rw [if_pos h1]]
    have h1' := eq_true h1
    refine wBody Try.tab Try.mixed Try.func8 rfl rfl Try.ntmps8 (by simp) (by simp) fun Q hr hn => ?_
    repeat' first | (refine hK _ ?_; clear hK) | (refine hK _ _ ?_; clear hK) | (clear hK; refine hK _ ?_; clear hK) | (clear hK; clear hK; refine hK _ ?_; clear hK) | (clear hK; clear hK; clear hK; refine hK _ ?_; clear hK) | (clear hK; clear hK; clear hK; clear hK; refine hK _ ?_; clear hK) | (refine wSeq fun K hK => ?_) | ((first | refine wReg ?_ | refine wDrwQ rfl (by kernel_rfl) ?_ | refine wDrwI ?_ | refine wDrw (by kernel_rfl) ?_); simp only [List.map_cons, List.map_nil, strip]) | ((first | refine wIs fun K hK => ?_ | refine wOs fun K hK => ?_ | refine wQs fun K hK => ?_ | refine CallK_plain ?_ | refine CallQ_plain ?_ | refine CallR_plain ?_ | refine wCond ?_); simp [h1']) | (refine wIn ?_; refine And.intro (by kernel_rfl) ?_; try simp only [thenA_n]) | (first | refine wBlock ?_ | refine wScope ?_) | ((first | refine wRet ?_ | refine wExit ?_ | refine wSkip ?_); try simp) | ((first | refine wLabel ?_ | refine wOn ?_ | refine wQn ?_); try simp only [thenA_n]) | (refine CallE.pure (cL) rfl ?_) | (refine CallE.lent (cL) rfl ?_) | (refine CallF.pure (cL) rfl ?_) | (refine CallF.lent (cL) rfl ?_) | (refine CallE.own (cL) ?_) | (refine CallH.pure (cL) rfl ?_) | (refine CallH.lent (cL) rfl ?_) | (refine CallH.own (cL) ?_)
    all_goals apply hr
    all_goals simp [Try.f8, mq0, Mq.cells, show ByteArray.empty = bs [] from rfl]
  have h1' := eq_false h1
  by_cases h2 : (l.length : Int) ≤ k
  · have hn : (fsF l l.length)[k.toNat]? = none := by
      have := fs_len l l.length
      rw [List.getElem?_eq_none_iff]; omega
    rw [show tkV l k = .tup [.p (.agg mq0.cells), .p (.sl 46 (mqs l)), .p (B false)] by unfold tkV tkA; rw [if_neg h1, hn]]
    have h2' := eq_true h2
    refine wBody Try.tab Try.mixed Try.func8 rfl rfl Try.ntmps8 (by simp) (by simp) fun Q hr hn => ?_
    repeat' first | (refine hK _ ?_; clear hK) | (refine hK _ _ ?_; clear hK) | (clear hK; refine hK _ ?_; clear hK) | (clear hK; clear hK; refine hK _ ?_; clear hK) | (clear hK; clear hK; clear hK; refine hK _ ?_; clear hK) | (clear hK; clear hK; clear hK; clear hK; refine hK _ ?_; clear hK) | (refine wSeq fun K hK => ?_) | ((first | refine wReg ?_ | refine wDrwQ rfl (by kernel_rfl) ?_ | refine wDrwI ?_ | refine wDrw (by kernel_rfl) ?_); simp only [List.map_cons, List.map_nil, strip]) | ((first | refine wIs fun K hK => ?_ | refine wOs fun K hK => ?_ | refine wQs fun K hK => ?_ | refine CallK_plain ?_ | refine CallQ_plain ?_ | refine CallR_plain ?_ | refine wCond ?_); simp [h1', h2']) | (refine wIn ?_; refine And.intro (by kernel_rfl) ?_; try simp only [thenA_n]) | (first | refine wBlock ?_ | refine wScope ?_) | ((first | refine wRet ?_ | refine wExit ?_ | refine wSkip ?_); try simp) | ((first | refine wLabel ?_ | refine wOn ?_ | refine wQn ?_); try simp only [thenA_n]) | (refine CallE.pure (cL) rfl ?_) | (refine CallE.lent (cL) rfl ?_) | (refine CallF.pure (cL) rfl ?_) | (refine CallF.lent (cL) rfl ?_) | (refine CallE.own (cL) ?_) | (refine CallH.pure (cL) rfl ?_) | (refine CallH.lent (cL) rfl ?_) | (refine CallH.own (cL) ?_)
    all_goals apply hr
    all_goals simp [Try.f8, mq0, Mq.cells, show ByteArray.empty = bs [] from rfl]
  have h2' := eq_false h2
  obtain ⟨n, rfl⟩ : ∃ n : Nat, k = (n : Int) := ⟨k.toNat, by omega⟩
  have cF := firsts_con l (n + 1) (by omega) (by omega)
  have hw : IntKind.i64.wrap ((n : Int) + 1) = ((n + 1 : Nat) : Int) := by rw [wrap_id (by omega) (by omega)]; omega
  have hfl := fs_len l l.length
  have hlt := fs_lt l l.length
  have hgt : ∀ j (h : j < (fsF l l.length).length), j < n + 1 → ((fsF l l.length).take (n + 1))[j]? = some (fsF l l.length)[j] := fun j h hj => by rw [List.getElem?_take_of_lt hj, List.getElem?_eq_getElem h]
  have hvv : tkV l (n : Int) = match (fsF l l.length)[n]? with
    | none => .tup [.p (.agg mq0.cells), .p (.sl 46 (mqs l)), .p (B false)]
    | some i => .tup [.p (.agg ((l[i]?).getD mq0).cells), .p (.sl 46 (mqs (l.eraseIdx i))), .p (B true)] := by
    unfold tkV tkA; rw [if_neg h1]; rfl
  rw [hvv]
  clear hvv
  have hlen : ((fsF l l.length).take (n + 1)).length = min (n + 1) (fsF l l.length).length := List.length_take
  generalize hG : fsF l l.length = G at *
  by_cases h3 : n < G.length
  case neg =>
    rw [List.getElem?_eq_none_iff.2 (by omega)]
    have h3' : (((G.take (n + 1)).length : Nat) : Int) ≤ (n : Int) := by omega
    generalize G.take (n + 1) = G1 at *
    have h3' := eq_true h3'
    refine wBody Try.tab Try.mixed Try.func8 rfl rfl Try.ntmps8 (by simp) (by simp) fun Q hr hn => ?_
    repeat' first | (refine hK _ ?_; clear hK) | (refine hK _ _ ?_; clear hK) | (clear hK; refine hK _ ?_; clear hK) | (clear hK; clear hK; refine hK _ ?_; clear hK) | (clear hK; clear hK; clear hK; refine hK _ ?_; clear hK) | (clear hK; clear hK; clear hK; clear hK; refine hK _ ?_; clear hK) | (refine wSeq fun K hK => ?_) | ((first | refine wReg ?_ | refine wDrwQ rfl (by kernel_rfl) ?_ | refine wDrwI ?_ | refine wDrw (by kernel_rfl) ?_); simp only [List.map_cons, List.map_nil, strip]) | ((first | refine wIs fun K hK => ?_ | refine wOs fun K hK => ?_ | refine wQs fun K hK => ?_ | refine CallK_plain ?_ | refine CallQ_plain ?_ | refine CallR_plain ?_ | refine wCond ?_); simp [h1', h2', hw, h3']) | (refine wIn ?_; refine And.intro (by kernel_rfl) ?_; try simp only [thenA_n]) | (first | refine wBlock ?_ | refine wScope ?_) | ((first | refine wRet ?_ | refine wExit ?_ | refine wSkip ?_); try simp) | ((first | refine wLabel ?_ | refine wOn ?_ | refine wQn ?_); try simp only [thenA_n]) | (refine CallE.pure (cL) rfl ?_) | (refine CallE.lent (cL) rfl ?_) | (refine CallF.pure (cL) rfl ?_) | (refine CallF.lent (cL) rfl ?_) | (refine CallE.own (cL) ?_) | (refine CallH.pure (cL) rfl ?_) | (refine CallH.lent (cL) rfl ?_) | (refine CallH.own (cL) ?_) | (refine CallE.pure (cF) rfl ?_) | (refine CallE.lent (cF) rfl ?_) | (refine CallF.pure (cF) rfl ?_) | (refine CallF.lent (cF) rfl ?_) | (refine CallE.own (cF) ?_) | (refine CallH.pure (cF) rfl ?_) | (refine CallH.lent (cF) rfl ?_) | (refine CallH.own (cF) ?_)
    all_goals apply hr
    all_goals simp [Try.f8, mq0, Mq.cells, show ByteArray.empty = bs [] from rfl]
  rw [List.getElem?_eq_getElem h3]
  have h3' : ¬ (((G.take (n + 1)).length : Nat) : Int) ≤ (n : Int) := by omega
  have hi := hlt _ (List.getElem_mem h3)
  have hg := hgt n h3 (by omega)
  generalize G[n] = i at *
  have hn1 : n < (G.take (n + 1)).length := by omega
  have hg1 := nis_get hn1
  have hg2 : (G.take (n + 1))[n] = i := by
    rw [List.getElem?_eq_getElem hn1] at hg
    exact Option.some.inj hg
  rw [hg2] at hg1
  generalize G.take (n + 1) = G1 at *
  have h3' := eq_false h3'
  have cM := oMs l[i].cells (ho _ (List.getElem_mem hi)).ok (ho _ (List.getElem_mem hi)).z
  have cR := olMs (l.eraseIdx i) (fun m hm => ho m (mem_erase hm)) (by rw [List.length_eraseIdx_of_lt hi]; omega)
  have he := mqs_get hi
  have her : mqs (l.eraseIdx i) = (mqs l).take i ++ (mqs l).drop (i + 1) := by rw [mqs_take, mqs_drop, mqs_app, List.eraseIdx_eq_take_drop_succ]
  show ACon Try.prog 8 [.p (.sl 46 (mqs l)), .p (I (n : Nat))] (.tup [.p (.agg ((l[i]?).getD mq0).cells), .p (.sl 46 (mqs (l.eraseIdx i))), .p (B true)])
  rw [List.getElem?_eq_getElem hi, Option.getD_some]
  have hwi : IntKind.i64.wrap ((i : Int) + 1) = ((i + 1 : Nat) : Int) := by rw [wrap_id (by omega) (by omega)]; omega
  generalize hQ : l[i] = m at *
  have hil : (i : Int) ≤ (l.length : Int) := by omega
  have hil2 : (i : Int) < (l.length : Int) := by omega
  have hil3 : ((i + 1 : Nat) : Int) ≤ (l.length : Int) := by omega
  have hil4 : i ≤ l.length := by omega
  have hil5 : i + 1 ≤ l.length := by omega
  have hil6 : (0 : Int) ≤ (i : Int) + 1 := by omega
  rw [her] at cR ⊢
  clear her
  have htk : List.take l.length (mqs l) = mqs l := List.take_of_length_le (by simp)
  by_cases hla : i + 1 < l.length
  · refine wBody Try.tab Try.mixed Try.func8 rfl rfl Try.ntmps8 (by simp) (by simp) fun Q hr hn => ?_
    repeat' first | (refine wFrzR 44 ((mqs l).take i ++ (mqs l).drop (i + 1)) rfl ?_; simp [frz, sub, sub0, subB]) | (refine And.intro (Or.inl (by omega)) ?_) | (refine And.intro (by (try simp); omega) (Or.inl ?_)) | (refine And.intro (by (try simp); omega) ?_) | (refine Or.inl ?_) | (refine hK _ ?_; clear hK) | (refine hK _ _ ?_; clear hK) | (clear hK; refine hK _ ?_; clear hK) | (clear hK; clear hK; refine hK _ ?_; clear hK) | (clear hK; clear hK; clear hK; refine hK _ ?_; clear hK) | (clear hK; clear hK; clear hK; clear hK; refine hK _ ?_; clear hK) | (refine wSeq fun K hK => ?_) | ((first | refine wReg ?_ | refine wDrwQ rfl (by kernel_rfl) ?_ | refine wDrwI ?_ | refine wDrw (by kernel_rfl) ?_); simp only [List.map_cons, List.map_nil, strip]) | ((first | refine wIs fun K hK => ?_ | refine wOs fun K hK => ?_ | refine wQs fun K hK => ?_ | refine CallK_plain ?_ | refine CallQ_plain ?_ | refine CallR_plain ?_ | refine wCond ?_); simp [h1', h2', hw, h3', hn1, hg1, hg2, hi, he, hQ, hwi, hil, hil2, hil3, hil4, hil5, hil6, htk, hla]) | (refine wIn ?_; refine And.intro (by kernel_rfl) ?_; try simp only [thenA_n]) | (first | refine wBlock ?_ | refine wScope ?_) | ((first | refine wRet ?_ | refine wExit ?_ | refine wSkip ?_); try simp) | ((first | refine wLabel ?_ | refine wOn ?_ | refine wQn ?_); try simp only [thenA_n]) | (refine CallE.pure (cF) rfl ?_) | (refine CallE.lent (cF) rfl ?_) | (refine CallF.pure (cF) rfl ?_) | (refine CallF.lent (cF) rfl ?_) | (refine CallE.own (cF) ?_) | (refine CallH.pure (cF) rfl ?_) | (refine CallH.lent (cF) rfl ?_) | (refine CallH.own (cF) ?_) | (refine CallE.pure (cM) rfl ?_) | (refine CallE.lent (cM) rfl ?_) | (refine CallF.pure (cM) rfl ?_) | (refine CallF.lent (cM) rfl ?_) | (refine CallE.own (cM) ?_) | (refine CallH.pure (cM) rfl ?_) | (refine CallH.lent (cM) rfl ?_) | (refine CallH.own (cM) ?_) | (refine CallE.pure (cR) rfl ?_) | (refine CallE.lent (cR) rfl ?_) | (refine CallF.pure (cR) rfl ?_) | (refine CallF.lent (cR) rfl ?_) | (refine CallE.own (cR) ?_) | (refine CallH.pure (cR) rfl ?_) | (refine CallH.lent (cR) rfl ?_) | (refine CallH.own (cR) ?_)
    all_goals apply hr
    all_goals simp [Try.f8]
  · have hd : (mqs l).drop (i + 1) = [] := List.drop_of_length_le (by simp; omega)
    rw [hd, List.append_nil] at cR ⊢
    refine wBody Try.tab Try.mixed Try.func8 rfl rfl Try.ntmps8 (by simp) (by simp) fun Q hr hn => ?_
    repeat' first | (refine And.intro (by (try simp); omega) (Or.inr ?_)) | (refine And.intro (by (try simp); omega) ?_) | (refine Or.inr ?_) | (refine hK _ ?_; clear hK) | (refine hK _ _ ?_; clear hK) | (clear hK; refine hK _ ?_; clear hK) | (clear hK; clear hK; refine hK _ ?_; clear hK) | (clear hK; clear hK; clear hK; refine hK _ ?_; clear hK) | (clear hK; clear hK; clear hK; clear hK; refine hK _ ?_; clear hK) | (refine wSeq fun K hK => ?_) | ((first | refine wReg ?_ | refine wDrwQ rfl (by kernel_rfl) ?_ | refine wDrwI ?_ | refine wDrw (by kernel_rfl) ?_); simp only [List.map_cons, List.map_nil, strip]) | ((first | refine wIs fun K hK => ?_ | refine wOs fun K hK => ?_ | refine wQs fun K hK => ?_ | refine CallK_plain ?_ | refine CallQ_plain ?_ | refine CallR_plain ?_ | refine wCond ?_); simp [h1', h2', hw, h3', hn1, hg1, hg2, hi, he, hQ, hwi, hil, hil2, hil3, hil4, hil5, hil6, htk, hla, hd]) | (refine wIn ?_; refine And.intro (by kernel_rfl) ?_; try simp only [thenA_n]) | (first | refine wBlock ?_ | refine wScope ?_) | ((first | refine wRet ?_ | refine wExit ?_ | refine wSkip ?_); try simp) | ((first | refine wLabel ?_ | refine wOn ?_ | refine wQn ?_); try simp only [thenA_n]) | (refine CallE.pure (cF) rfl ?_) | (refine CallE.lent (cF) rfl ?_) | (refine CallF.pure (cF) rfl ?_) | (refine CallF.lent (cF) rfl ?_) | (refine CallE.own (cF) ?_) | (refine CallH.pure (cF) rfl ?_) | (refine CallH.lent (cF) rfl ?_) | (refine CallH.own (cF) ?_) | (refine CallE.pure (cM) rfl ?_) | (refine CallE.lent (cM) rfl ?_) | (refine CallF.pure (cM) rfl ?_) | (refine CallF.lent (cM) rfl ?_) | (refine CallE.own (cM) ?_) | (refine CallH.pure (cM) rfl ?_) | (refine CallH.lent (cM) rfl ?_) | (refine CallH.own (cM) ?_) | (refine CallE.pure (cR) rfl ?_) | (refine CallE.lent (cR) rfl ?_) | (refine CallF.pure (cR) rfl ?_) | (refine CallF.lent (cR) rfl ?_) | (refine CallE.own (cR) ?_) | (refine CallH.pure (cR) rfl ?_) | (refine CallH.lent (cR) rfl ?_) | (refine CallH.own (cR) ?_)
    all_goals apply hr
    all_goals simp [Try.f8]
end Go.Proofs.Ytechjohebkcjiaa
