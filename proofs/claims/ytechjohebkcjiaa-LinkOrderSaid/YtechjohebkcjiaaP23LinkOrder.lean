/- Texts that the proof needs: LK4 XB LK5 Awm Aw25 LK6 LK7. -/
import Derived.Test.YtechjohebkcjiaaP22LinkOrder
import Derived.Test.YtechjohebkcjiaaP18LinkOrder
import Derived.Test.YtechjohebkcjiaaP14LinkOrder
import Derived.Test.YtechjohebkcjiaaP17LinkOrder
import Derived.Test.YtechjohebkcjiaaP19LinkOrder
import Derived.WalkKit
/- Messages sent. -/
namespace Go.Proofs.Ytechjohebkcjiaa
set_option linter.unusedSimpArgs false
set_option linter.unusedVariables false
set_option maxRecDepth 8000
open Go Go.Av
attribute [local simp] Try.T1 Try.T2 Try.T3 Try.T4 Try.T5 Try.T9 Try.T12 Try.T15 Try.T16 Try.T17 Try.T21 Try.T22 Try.T23 Try.T24 Try.T25 Try.T27 Try.T29 Try.T30 Try.T31 Try.T32 Try.T33 Try.T35 Try.T37 Try.T38 Try.T40 Try.T41 Try.T42 Try.T44 Try.T45 Try.T47 Try.T49 Try.T51 Try.T53 Try.T54 Try.T55 Try.T56 Try.T57 Try.T58 Try.T59 Try.T60 Try.T61 Try.T62 Try.T63 Try.T64 Try.T66 Try.T67 Try.T68 Try.T69 Try.T70 Try.T72 Try.T74 Try.T76 Try.T77 Try.T78 Try.T79 Try.T80 Try.T81 Try.T82 Try.T83 Try.T84 Try.T85 Try.T87 Try.T88 Try.T89 Try.T90 Try.T91 Try.T92 Try.T93 Try.T94 Try.T96 Try.T97 Try.T98 Try.T99 Try.T100 Try.T101 Try.T102 Try.T103 Try.T104 Try.T105 Try.T106 Try.T107 Try.T108 Try.T109 Try.T110 Try.T111 Try.T113 Try.T114 Try.T115 Try.T116 Try.T117 Try.T118 Try.T119 Try.T120 Try.T121 Try.T122 Try.T123 Try.T124 Try.T125 Try.T126 Try.T127 Try.T128 Try.T129 Try.T130 Try.T133 Try.T136 Try.T137 Try.T140 Try.T141
attribute [local irreducible] Go.Av.CallK Go.Av.CallE Go.Av.CallQ Go.Av.CallF Go.Av.CallR Go.Av.CallH Go.Av.Con
/-- How many go the way of m. -/
def cnt (l : List Mq) (m : Mq) : Nat := (l.filter fun x => decide (x.fr = m.fr ∧ x.to = m.to)).length
theorem cnt_snoc {l : List Mq} {k : Nat} (m : Mq) (h : k < l.length) : cnt (l.take (k + 1)) m = cnt (l.take k) m + if l[k].fr = m.fr ∧ l[k].to = m.to then 1 else 0 := by
  unfold cnt
  rw [filt_snoc _ h]
  by_cases g : l[k].fr = m.fr ∧ l[k].to = m.to
  · rw [if_pos (decide_eq_true g), if_pos g]; simp
  · rw [if_neg (by simpa using g), if_neg g]; simp
theorem cnt_le (l : List Mq) (m : Mq) (k : Nat) : cnt (l.take k) m ≤ k := filt_len l _ k
set_option maxHeartbeats 4000000 in
theorem full_con (l : List Mq) (m : Mq) (hl : l.length ≤ 2000000) : ACon Try.prog 32 [.p (.sl 46 (mqs l)), .p (.agg m.cells)] (.p (B (decide (40 ≤ cnt l m)))) := by
  suffices hall : ∀ D : Bool, (D = true ↔ 40 ≤ cnt l m) → ACon Try.prog 32 [.p (.sl 46 (mqs l)), .p (.agg m.cells)] (.p (B D)) from hall _ decide_eq_true_iff
  intro D hD
  refine wBody Try.tab Try.mixed Try.func32 rfl rfl Try.ntmps32 (by simp) (by simp) fun Q hr hn => ?_
  repeat' first | (refine hK _ ?_; clear hK) | (refine hK _ _ ?_; clear hK) | (clear hK; refine hK _ ?_; clear hK) | (clear hK; clear hK; refine hK _ ?_; clear hK) | (clear hK; clear hK; clear hK; refine hK _ ?_; clear hK) | (clear hK; clear hK; clear hK; clear hK; refine hK _ ?_; clear hK) | (refine wSeq fun K hK => ?_) | ((first | refine wReg ?_ | refine wDrwQ rfl (by kernel_rfl) ?_ | refine wDrwI ?_ | refine wDrw (by kernel_rfl) ?_); simp only [List.map_cons, List.map_nil, strip]) | ((first | refine wIs fun K hK => ?_ | refine wOs fun K hK => ?_ | refine wQs fun K hK => ?_ | refine CallK_plain ?_ | refine CallQ_plain ?_ | refine CallR_plain ?_ | refine wCond ?_); simp) | (refine wIn ?_; refine And.intro (by kernel_rfl) ?_; try simp only [thenA_n]) | (first | refine wBlock ?_ | refine wScope ?_) | ((first | refine wRet ?_ | refine wExit ?_ | refine wSkip ?_); try simp) | ((first | refine wLabel ?_ | refine wOn ?_ | refine wQn ?_); try simp only [thenA_n])
  refine wLoop (fun N st => ∃ k, k + N = l.length ∧ st.s 0 = .p (.sl 46 (mqs l)) ∧ st.s 3 = .ptr 3 0 ∧ st.b 3 = some (.box 51 (m.cells.map V.p)) ∧ st.s 5 = .p (I (cnt (l.take k) m : Nat)) ∧ st.s 7 = .p (.sl 46 (mqs l)) ∧ st.s 8 = .p (I l.length) ∧ st.s 9 = .p (I k)) l.length ⟨0, by simp [cnt]⟩ fun K N st hL ⟨k, hk, g0, g3, b3, g5, g7, g8, g9⟩ => ?_
  have hcl := cnt_le l m k
  by_cases hlt : k < l.length
  · have hlt' : (k : Int) < l.length := by omega
    have hw := wrapS k _ hlt (by omega)
    have he := mqs_get hlt
    have hs := cnt_snoc m hlt
    generalize cnt (l.take k) m = C at *
    generalize hQ : l[k] = x at *
    by_cases h1 : x.fr = m.fr
    · by_cases h2 : x.to = m.to
      · rw [if_pos ⟨h1, h2⟩] at hs
        have hwC : IntKind.i64.wrap ((C : Int) + 1) = ((C + 1 : Nat) : Int) := by rw [wrap_id (by omega) (by omega)]; omega
        have h1' := eq_true h1
        have h2' := eq_true h2
        repeat' first | (refine hK _ ?_; clear hK) | (refine hK _ _ ?_; clear hK) | (clear hK; refine hK _ ?_; clear hK) | (clear hK; clear hK; refine hK _ ?_; clear hK) | (clear hK; clear hK; clear hK; refine hK _ ?_; clear hK) | (clear hK; clear hK; clear hK; clear hK; refine hK _ ?_; clear hK) | (refine wSeq fun K hK => ?_) | ((first | refine wReg ?_ | refine wDrwQ rfl (by kernel_rfl) ?_ | refine wDrwI ?_ | refine wDrw (by kernel_rfl) ?_); simp only [List.map_cons, List.map_nil, strip]) | ((first | refine wIs fun K hK => ?_ | refine wOs fun K hK => ?_ | refine wQs fun K hK => ?_ | refine CallK_plain ?_ | refine CallQ_plain ?_ | refine CallR_plain ?_ | refine wCond ?_); simp [g0, g3, b3, g5, g7, g8, g9, hlt, hlt', hw, he, hQ, h1', h2', hwC]) | (refine wIn ?_; refine And.intro (by kernel_rfl) ?_; try simp only [thenA_n]) | (first | refine wBlock ?_ | refine wScope ?_) | ((first | refine wRet ?_ | refine wExit ?_ | refine wSkip ?_); try simp) | ((first | refine wLabel ?_ | refine wOn ?_ | refine wQn ?_); try simp only [thenA_n])
        refine hL _ (N - 1) (by omega) ⟨k + 1, by omega, ?_⟩
        simp [g0, g3, b3, g5, g7, g8, g9, hw, hs, hwC]
      · rw [if_neg fun h => h2 h.2] at hs
        have h1' := eq_true h1
        have h2' := eq_false h2
        repeat' first | (refine hK _ ?_; clear hK) | (refine hK _ _ ?_; clear hK) | (clear hK; refine hK _ ?_; clear hK) | (clear hK; clear hK; refine hK _ ?_; clear hK) | (clear hK; clear hK; clear hK; refine hK _ ?_; clear hK) | (clear hK; clear hK; clear hK; clear hK; refine hK _ ?_; clear hK) | (refine wSeq fun K hK => ?_) | ((first | refine wReg ?_ | refine wDrwQ rfl (by kernel_rfl) ?_ | refine wDrwI ?_ | refine wDrw (by kernel_rfl) ?_); simp only [List.map_cons, List.map_nil, strip]) | ((first | refine wIs fun K hK => ?_ | refine wOs fun K hK => ?_ | refine wQs fun K hK => ?_ | refine CallK_plain ?_ | refine CallQ_plain ?_ | refine CallR_plain ?_ | refine wCond ?_); simp [g0, g3, b3, g5, g7, g8, g9, hlt, hlt', hw, he, hQ, h1', h2']) | (refine wIn ?_; refine And.intro (by kernel_rfl) ?_; try simp only [thenA_n]) | (first | refine wBlock ?_ | refine wScope ?_) | ((first | refine wRet ?_ | refine wExit ?_ | refine wSkip ?_); try simp) | ((first | refine wLabel ?_ | refine wOn ?_ | refine wQn ?_); try simp only [thenA_n])
        refine hL _ (N - 1) (by omega) ⟨k + 1, by omega, ?_⟩
        simp [g0, g3, b3, g5, g7, g8, g9, hw, hs]
    · rw [if_neg fun h => h1 h.1] at hs
      have h1' := eq_false h1
      repeat' first | (refine hK _ ?_; clear hK) | (refine hK _ _ ?_; clear hK) | (clear hK; refine hK _ ?_; clear hK) | (clear hK; clear hK; refine hK _ ?_; clear hK) | (clear hK; clear hK; clear hK; refine hK _ ?_; clear hK) | (clear hK; clear hK; clear hK; clear hK; refine hK _ ?_; clear hK) | (refine wSeq fun K hK => ?_) | ((first | refine wReg ?_ | refine wDrwQ rfl (by kernel_rfl) ?_ | refine wDrwI ?_ | refine wDrw (by kernel_rfl) ?_); simp only [List.map_cons, List.map_nil, strip]) | ((first | refine wIs fun K hK => ?_ | refine wOs fun K hK => ?_ | refine wQs fun K hK => ?_ | refine CallK_plain ?_ | refine CallQ_plain ?_ | refine CallR_plain ?_ | refine wCond ?_); simp [g0, g3, b3, g5, g7, g8, g9, hlt, hlt', hw, he, hQ, h1']) | (refine wIn ?_; refine And.intro (by kernel_rfl) ?_; try simp only [thenA_n]) | (first | refine wBlock ?_ | refine wScope ?_) | ((first | refine wRet ?_ | refine wExit ?_ | refine wSkip ?_); try simp) | ((first | refine wLabel ?_ | refine wOn ?_ | refine wQn ?_); try simp only [thenA_n])
      refine hL _ (N - 1) (by omega) ⟨k + 1, by omega, ?_⟩
      simp [g0, g3, b3, g5, g7, g8, g9, hw, hs]
  · have hlt' : ¬ (k : Int) < l.length := by omega
    rw [List.take_of_length_le (by omega)] at g5
    by_cases h40 : 40 ≤ cnt l m
    · have h40' : (40 : Int) ≤ (cnt l m : Int) := by omega
      rw [hD.2 h40] at hr
      generalize cnt l m = C at *
      repeat' first | (refine hK _ ?_; clear hK) | (refine hK _ _ ?_; clear hK) | (clear hK; refine hK _ ?_; clear hK) | (clear hK; clear hK; refine hK _ ?_; clear hK) | (clear hK; clear hK; clear hK; refine hK _ ?_; clear hK) | (clear hK; clear hK; clear hK; clear hK; refine hK _ ?_; clear hK) | (refine wSeq fun K hK => ?_) | ((first | refine wReg ?_ | refine wDrwQ rfl (by kernel_rfl) ?_ | refine wDrwI ?_ | refine wDrw (by kernel_rfl) ?_); simp only [List.map_cons, List.map_nil, strip]) | ((first | refine wIs fun K hK => ?_ | refine wOs fun K hK => ?_ | refine wQs fun K hK => ?_ | refine CallK_plain ?_ | refine CallQ_plain ?_ | refine CallR_plain ?_ | refine wCond ?_); simp [g0, g3, b3, g5, g7, g8, g9, hlt, hlt', h40, h40']) | (refine wIn ?_; refine And.intro (by kernel_rfl) ?_; try simp only [thenA_n]) | (first | refine wBlock ?_ | refine wScope ?_) | ((first | refine wRet ?_ | refine wExit ?_ | refine wSkip ?_); try simp) | ((first | refine wLabel ?_ | refine wOn ?_ | refine wQn ?_); try simp only [thenA_n])
      all_goals apply hr
      all_goals simp [Try.f32, g5, h40, h40']
    · have h40' : ¬ (40 : Int) ≤ (cnt l m : Int) := by omega
      rw [show D = false from Bool.eq_false_iff.2 fun h => h40 (hD.1 h)] at hr
      generalize cnt l m = C at *
      repeat' first | (refine hK _ ?_; clear hK) | (refine hK _ _ ?_; clear hK) | (clear hK; refine hK _ ?_; clear hK) | (clear hK; clear hK; refine hK _ ?_; clear hK) | (clear hK; clear hK; clear hK; refine hK _ ?_; clear hK) | (clear hK; clear hK; clear hK; clear hK; refine hK _ ?_; clear hK) | (refine wSeq fun K hK => ?_) | ((first | refine wReg ?_ | refine wDrwQ rfl (by kernel_rfl) ?_ | refine wDrwI ?_ | refine wDrw (by kernel_rfl) ?_); simp only [List.map_cons, List.map_nil, strip]) | ((first | refine wIs fun K hK => ?_ | refine wOs fun K hK => ?_ | refine wQs fun K hK => ?_ | refine CallK_plain ?_ | refine CallQ_plain ?_ | refine CallR_plain ?_ | refine wCond ?_); simp [g0, g3, b3, g5, g7, g8, g9, hlt, hlt', h40, h40']) | (refine wIn ?_; refine And.intro (by kernel_rfl) ?_; try simp only [thenA_n]) | (first | refine wBlock ?_ | refine wScope ?_) | ((first | refine wRet ?_ | refine wExit ?_ | refine wSkip ?_); try simp) | ((first | refine wLabel ?_ | refine wOn ?_ | refine wQn ?_); try simp only [thenA_n])
      all_goals apply hr
      all_goals simp [Try.f32, g5, h40, h40']
/-- What is on its way, and what is lost, behind each message sent. -/
def sndL (cut : List Pr) (way : List Mq) (lost : List Pr) : List Mq → List Mq × List Pr
  | [] => (way, lost)
  | m :: more =>
    if m.fr = m.to ∨ two m.fr m.to ∈ cut ∨ two m.fr m.to ∈ lost then sndL cut way lost more
    else if 40 ≤ cnt way m then sndL cut (way.filter fun x => !decide (two x.fr x.to = two m.fr m.to)) (lost ++ [two m.fr m.to]) more
    else sndL cut (way ++ [m]) lost more
set_option maxHeartbeats 16000000 in
theorem send_con (l more : List Mq) (cut : List Pr) (ho : ∀ m ∈ l, OkM m) (hm : ∀ m ∈ more, OkM m) (hl : l.length + more.length ≤ 1048576) : ACon Try.prog 19 [.p (.sl 46 (mqs l)), .p (.sl 46 (mqs more)), .p (.sl 2 (prs cut))] (.tup [.p (.sl 46 (mqs (sndL cut l [] more).1)), .p (.sl 2 (prs (sndL cut l [] more).2))]) := by
  have cC := clnMs (mqs l) (by simp; omega)
  refine wBody Try.tab Try.mixed Try.func19 rfl rfl Try.ntmps19 (by simp) (by simp) fun Q hr hn => ?_
  repeat' first | (refine hK _ ?_; clear hK) | (refine hK _ _ ?_; clear hK) | (clear hK; refine hK _ ?_; clear hK) | (clear hK; clear hK; refine hK _ ?_; clear hK) | (clear hK; clear hK; clear hK; refine hK _ ?_; clear hK) | (clear hK; clear hK; clear hK; clear hK; refine hK _ ?_; clear hK) | (refine wSeq fun K hK => ?_) | ((first | refine wReg ?_ | refine wDrwQ rfl (by kernel_rfl) ?_ | refine wDrwI ?_ | refine wDrw (by kernel_rfl) ?_); simp only [List.map_cons, List.map_nil, strip]) | ((first | refine wIs fun K hK => ?_ | refine wOs fun K hK => ?_ | refine wQs fun K hK => ?_ | refine CallK_plain ?_ | refine CallQ_plain ?_ | refine CallR_plain ?_ | refine wCond ?_); simp) | (refine wIn ?_; refine And.intro (by kernel_rfl) ?_; try simp only [thenA_n]) | (first | refine wBlock ?_ | refine wScope ?_) | ((first | refine wRet ?_ | refine wExit ?_ | refine wSkip ?_); try simp) | ((first | refine wLabel ?_ | refine wOn ?_ | refine wQn ?_); try simp only [thenA_n]) | (refine CallE.pure (cC) rfl ?_) | (refine CallE.lent (cC) rfl ?_) | (refine CallF.pure (cC) rfl ?_) | (refine CallF.lent (cC) rfl ?_) | (refine CallE.own (cC) ?_) | (refine CallH.pure (cC) rfl ?_) | (refine CallH.lent (cC) rfl ?_) | (refine CallH.own (cC) ?_)
  refine wLoopG [.row 9 87 2] (fun N st => ∃ k way lost, k + N = more.length ∧ way.length ≤ l.length + k ∧ lost.length ≤ k ∧ (∀ m ∈ way, OkM m) ∧ sndL cut way lost (more.drop k) = sndL cut l [] more ∧ st.s 2 = .p (.sl 2 (prs cut)) ∧ st.s 8 = .row 13 ∧ st.b 13 = some (.row 51 46 (mqs way)) ∧ st.s 9 = .row 9 ∧ st.b 9 = some (.row 87 2 (prs lost)) ∧ st.s 14 = .p (.sl 46 (mqs more)) ∧ st.s 15 = .p (I more.length) ∧ st.s 16 = .p (I k)) more.length ⟨0, l, [], by omega, by omega, by simp, ho, rfl, by simp [prs]⟩ fun K N st hL ⟨k, way, lost, hk, hwl, hll, hok, hrun, g2, g8, b13, g9, b9, g14, g15, g16⟩ => ?_
  by_cases hlt : k < more.length
  case neg =>
    have hlt' : ¬ (k : Int) < more.length := by omega
    rw [List.drop_of_length_le (by omega)] at hrun
    rw [← hrun] at hr
    dsimp only [sndL] at hr
    have cO := olMs way hok (by omega)
    have f2 : (Av.frz st 13 46 (mqs way)).s 2 = .p (.sl 2 (prs cut)) := by simp [Av.frz, sub, sub0, g2]
    have f8 : (Av.frz st 13 46 (mqs way)).s 8 = .p (.sl 46 (mqs way)) := by simp [Av.frz, sub, sub0, g8]
    have f9 : (Av.frz st 13 46 (mqs way)).s 9 = .row 9 := by simp [Av.frz, sub, sub0, g9]
    have fb9 : (Av.frz st 13 46 (mqs way)).b 9 = some (.row 87 2 (prs lost)) := by simp [Av.frz, sub, sub0, subB, b9]
    have f14 : (Av.frz st 13 46 (mqs way)).s 14 = .p (.sl 46 (mqs more)) := by simp [Av.frz, sub, sub0, g14]
    have f15 : (Av.frz st 13 46 (mqs way)).s 15 = .p (I more.length) := by simp [Av.frz, sub, sub0, g15]
    have f16 : (Av.frz st 13 46 (mqs way)).s 16 = .p (I k) := by simp [Av.frz, sub, sub0, g16]
    repeat' first | (refine wFrzR 13 (mqs way) b13 ?_; generalize Av.frz st 13 46 (mqs way) = st2 at f2 f8 f9 fb9 f14 f15 f16 ⊢; clear g2 g8 b13 g9 b9 g14 g15 g16) | (refine hK _ ?_; clear hK) | (refine hK _ _ ?_; clear hK) | (clear hK; refine hK _ ?_; clear hK) | (clear hK; clear hK; refine hK _ ?_; clear hK) | (clear hK; clear hK; clear hK; refine hK _ ?_; clear hK) | (clear hK; clear hK; clear hK; clear hK; refine hK _ ?_; clear hK) | (refine wSeq fun K hK => ?_) | ((first | refine wReg ?_ | refine wDrwQ rfl (by kernel_rfl) ?_ | refine wDrwI ?_ | refine wDrw (by kernel_rfl) ?_); simp only [List.map_cons, List.map_nil, strip]) | ((first | refine wIs fun K hK => ?_ | refine wOs fun K hK => ?_ | refine wQs fun K hK => ?_ | refine CallK_plain ?_ | refine CallQ_plain ?_ | refine CallR_plain ?_ | refine wCond ?_); simp [f2, f8, f9, fb9, f14, f15, f16, hlt, hlt']) | (refine wIn ?_; refine And.intro (by kernel_rfl) ?_; try simp only [thenA_n]) | (first | refine wBlock ?_ | refine wScope ?_) | ((first | refine wRet ?_ | refine wExit ?_ | refine wSkip ?_); try simp) | ((first | refine wLabel ?_ | refine wOn ?_ | refine wQn ?_); try simp only [thenA_n]) | (refine CallE.pure (cO) rfl ?_) | (refine CallE.lent (cO) rfl ?_) | (refine CallF.pure (cO) rfl ?_) | (refine CallF.lent (cO) rfl ?_) | (refine CallE.own (cO) ?_) | (refine CallH.pure (cO) rfl ?_) | (refine CallH.lent (cO) rfl ?_) | (refine CallH.own (cO) ?_)
    all_goals apply hr
    all_goals simp [Try.f19, f9, fb9]
  have hlt' : (k : Int) < more.length := by omega
  have hw := wrapS k _ hlt (by omega)
  have he := mqs_get hlt
  rw [List.drop_eq_getElem_cons hlt, sndL] at hrun
  have hmk := hm _ (List.getElem_mem hlt)
  generalize hQ : more[k] = m at *
  have cH1 := has_con cut m.fr m.to
  have cH2 := has_con lost m.fr m.to
  have cF := full_con way m (by omega)
  have cT := two_con m.fr m.to
  have cA := apart_con m.fr m.to
  have hx := prs_snoc lost (two m.fr m.to)
  have hy := mqs_snoc way m
  generalize hp : two m.fr m.to = p at *
  by_cases h1 : m.fr = m.to
  · have h1' := eq_true h1
    rw [if_pos (.inl h1)] at hrun
    clear cH1 cH2 cF cT cA
    repeat' first | (refine hK _ ?_; clear hK) | (refine hK _ _ ?_; clear hK) | (clear hK; refine hK _ ?_; clear hK) | (clear hK; clear hK; refine hK _ ?_; clear hK) | (clear hK; clear hK; clear hK; refine hK _ ?_; clear hK) | (clear hK; clear hK; clear hK; clear hK; refine hK _ ?_; clear hK) | (refine wSeq fun K hK => ?_) | ((first | refine wReg ?_ | refine wDrwQ rfl (by kernel_rfl) ?_ | refine wDrwI ?_ | refine wDrw (by kernel_rfl) ?_); simp only [List.map_cons, List.map_nil, strip]) | ((first | refine wIs fun K hK => ?_ | refine wOs fun K hK => ?_ | refine wQs fun K hK => ?_ | refine CallK_plain ?_ | refine CallQ_plain ?_ | refine CallR_plain ?_ | refine wCond ?_); simp [g2, g8, b13, g9, b9, g14, g15, g16, hlt, hlt', hw, he, hQ, h1']) | (refine wIn ?_; refine And.intro (by kernel_rfl) ?_; try simp only [thenA_n]) | (first | refine wBlock ?_ | refine wScope ?_) | ((first | refine wRet ?_ | refine wExit ?_ | refine wSkip ?_); try simp) | ((first | refine wLabel ?_ | refine wOn ?_ | refine wQn ?_); try simp only [thenA_n])
    refine hL _ (N - 1) (by omega) ⟨k + 1, way, lost, by omega, by omega, by omega, hok, hrun, ?_⟩
    simp [g2, g8, b13, g9, b9, g14, g15, g16, hw]
  have h1' := eq_false h1
  by_cases h2 : p ∈ cut
  · rw [decide_eq_true h2] at cH1
    rw [if_pos (.inr (.inl h2))] at hrun
    clear cH2 cF cT cA
    repeat' first | (refine hK _ ?_; clear hK) | (refine hK _ _ ?_; clear hK) | (clear hK; refine hK _ ?_; clear hK) | (clear hK; clear hK; refine hK _ ?_; clear hK) | (clear hK; clear hK; clear hK; refine hK _ ?_; clear hK) | (clear hK; clear hK; clear hK; clear hK; refine hK _ ?_; clear hK) | (refine wSeq fun K hK => ?_) | ((first | refine wReg ?_ | refine wDrwQ rfl (by kernel_rfl) ?_ | refine wDrwI ?_ | refine wDrw (by kernel_rfl) ?_); simp only [List.map_cons, List.map_nil, strip]) | ((first | refine wIs fun K hK => ?_ | refine wOs fun K hK => ?_ | refine wQs fun K hK => ?_ | refine CallK_plain ?_ | refine CallQ_plain ?_ | refine CallR_plain ?_ | refine wCond ?_); simp [g2, g8, b13, g9, b9, g14, g15, g16, hlt, hlt', hw, he, hQ, h1']) | (refine wIn ?_; refine And.intro (by kernel_rfl) ?_; try simp only [thenA_n]) | (first | refine wBlock ?_ | refine wScope ?_) | ((first | refine wRet ?_ | refine wExit ?_ | refine wSkip ?_); try simp) | ((first | refine wLabel ?_ | refine wOn ?_ | refine wQn ?_); try simp only [thenA_n]) | (refine CallE.pure (cH1) rfl ?_) | (refine CallE.lent (cH1) rfl ?_) | (refine CallF.pure (cH1) rfl ?_) | (refine CallF.lent (cH1) rfl ?_) | (refine CallE.own (cH1) ?_) | (refine CallH.pure (cH1) rfl ?_) | (refine CallH.lent (cH1) rfl ?_) | (refine CallH.own (cH1) ?_)
    refine hL _ (N - 1) (by omega) ⟨k + 1, way, lost, by omega, by omega, by omega, hok, hrun, ?_⟩
    simp [g2, g8, b13, g9, b9, g14, g15, g16, hw]
  rw [decide_eq_false h2] at cH1
  by_cases h3 : p ∈ lost
  · rw [decide_eq_true h3] at cH2
    rw [if_pos (.inr (.inr h3))] at hrun
    clear cF cT cA
    repeat' first | (refine hK _ ?_; clear hK) | (refine hK _ _ ?_; clear hK) | (clear hK; refine hK _ ?_; clear hK) | (clear hK; clear hK; refine hK _ ?_; clear hK) | (clear hK; clear hK; clear hK; refine hK _ ?_; clear hK) | (clear hK; clear hK; clear hK; clear hK; refine hK _ ?_; clear hK) | (refine wSeq fun K hK => ?_) | ((first | refine wReg ?_ | refine wDrwQ rfl (by kernel_rfl) ?_ | refine wDrwI ?_ | refine wDrw (by kernel_rfl) ?_); simp only [List.map_cons, List.map_nil, strip]) | ((first | refine wIs fun K hK => ?_ | refine wOs fun K hK => ?_ | refine wQs fun K hK => ?_ | refine CallK_plain ?_ | refine CallQ_plain ?_ | refine CallR_plain ?_ | refine wCond ?_); simp [g2, g8, b13, g9, b9, g14, g15, g16, hlt, hlt', hw, he, hQ, h1']) | (refine wIn ?_; refine And.intro (by kernel_rfl) ?_; try simp only [thenA_n]) | (first | refine wBlock ?_ | refine wScope ?_) | ((first | refine wRet ?_ | refine wExit ?_ | refine wSkip ?_); try simp) | ((first | refine wLabel ?_ | refine wOn ?_ | refine wQn ?_); try simp only [thenA_n]) | (refine CallE.pure (cH1) rfl ?_) | (refine CallE.lent (cH1) rfl ?_) | (refine CallF.pure (cH1) rfl ?_) | (refine CallF.lent (cH1) rfl ?_) | (refine CallE.own (cH1) ?_) | (refine CallH.pure (cH1) rfl ?_) | (refine CallH.lent (cH1) rfl ?_) | (refine CallH.own (cH1) ?_) | (refine CallE.pure (cH2) rfl ?_) | (refine CallE.lent (cH2) rfl ?_) | (refine CallF.pure (cH2) rfl ?_) | (refine CallF.lent (cH2) rfl ?_) | (refine CallE.own (cH2) ?_) | (refine CallH.pure (cH2) rfl ?_) | (refine CallH.lent (cH2) rfl ?_) | (refine CallH.own (cH2) ?_)
    refine hL _ (N - 1) (by omega) ⟨k + 1, way, lost, by omega, by omega, by omega, hok, hrun, ?_⟩
    simp [g2, g8, b13, g9, b9, g14, g15, g16, hw]
  rw [decide_eq_false h3] at cH2
  rw [if_neg (by rintro (h | h | h); exact h1 h; exact h2 h; exact h3 h)] at hrun
  by_cases h4 : 40 ≤ cnt way m
  · rw [decide_eq_true h4] at cF
    rw [if_pos h4] at hrun
    obtain ⟨p0, p1⟩ := p
    have cS := sifted_con 48 (.box 87 [.p (I p0), .p (I p1)]) ⟨_, [p0, p1], rfl⟩ (fun m => !decide (two m.fr m.to = ⟨p0, p1⟩)) (fun m => apart1_con m p0 p1) way (by omega)
    have hfl : (way.filter fun m => !decide (two m.fr m.to = ⟨p0, p1⟩)).length ≤ way.length := List.length_filter_le _ _
    have hfo : ∀ x ∈ way.filter (fun m => !decide (two m.fr m.to = ⟨p0, p1⟩)), OkM x := fun x hx => hok x (List.mem_filter.1 hx).1
    generalize way.filter (fun m => !decide (two m.fr m.to = ⟨p0, p1⟩)) = way2 at *
    simp only [] at hx cA cT
    have f2 : (Av.frz st 13 46 (mqs way)).s 2 = .p (.sl 2 (prs cut)) := by simp [Av.frz, sub, sub0, g2]
    have f8 : (Av.frz st 13 46 (mqs way)).s 8 = .p (.sl 46 (mqs way)) := by simp [Av.frz, sub, sub0, g8]
    have f9 : (Av.frz st 13 46 (mqs way)).s 9 = .row 9 := by simp [Av.frz, sub, sub0, g9]
    have fb9 : (Av.frz st 13 46 (mqs way)).b 9 = some (.row 87 2 (prs lost)) := by simp [Av.frz, sub, sub0, subB, b9]
    have f14 : (Av.frz st 13 46 (mqs way)).s 14 = .p (.sl 46 (mqs more)) := by simp [Av.frz, sub, sub0, g14]
    have f15 : (Av.frz st 13 46 (mqs way)).s 15 = .p (I more.length) := by simp [Av.frz, sub, sub0, g15]
    have f16 : (Av.frz st 13 46 (mqs way)).s 16 = .p (I k) := by simp [Av.frz, sub, sub0, g16]
    repeat' first | (refine wFrzR 13 (mqs way) b13 ?_; generalize Av.frz st 13 46 (mqs way) = st2 at f2 f8 f9 fb9 f14 f15 f16 ⊢; clear g2 g8 b13 g9 b9 g14 g15 g16) | (refine CallK_gen [] (cA) (by decide) (by decide) (by simp [blksOf]) (by simp [argsG, argG, ren0, inN, pos, renCs, renC, toP, toPF]) ⟨[500], by simp, by simp, ?_⟩; simp [lv, ouN, kpI, kpR, pos, ren, ren0, renB, renC, renCs, renF, renFs]) | (refine CallK_gen [500] (cS) (by decide) (by decide) (by simp [blksOf, inN, pos, renB, renC, renCs, ren0, lv, ouN, kpI, kpR]) (by simp [argsG, argG, ren0, inN, pos, renCs, renC]) ⟨[13], by simp, by simp, ?_⟩; simp [lv, ouN, kpI, kpR, pos, ren, ren0, renB, renC, renCs, renF, renFs]) | (refine And.intro (by (try simp only [prs_len, List.length_cons, List.length_nil]); omega) ?_) | (refine hK _ ?_; clear hK) | (refine hK _ _ ?_; clear hK) | (clear hK; refine hK _ ?_; clear hK) | (clear hK; clear hK; refine hK _ ?_; clear hK) | (clear hK; clear hK; clear hK; refine hK _ ?_; clear hK) | (clear hK; clear hK; clear hK; clear hK; refine hK _ ?_; clear hK) | (refine wSeq fun K hK => ?_) | ((first | refine wReg ?_ | refine wDrwQ rfl (by kernel_rfl) ?_ | refine wDrwI ?_ | refine wDrw (by kernel_rfl) ?_); simp only [List.map_cons, List.map_nil, strip]) | ((first | refine wIs fun K hK => ?_ | refine wOs fun K hK => ?_ | refine wQs fun K hK => ?_ | refine CallK_plain ?_ | refine CallQ_plain ?_ | refine CallR_plain ?_ | refine wCond ?_); simp [f2, f8, f9, fb9, f14, f15, f16, hlt, hlt', hw, he, hQ, h1']) | (refine wIn ?_; refine And.intro (by kernel_rfl) ?_; try simp only [thenA_n]) | (first | refine wBlock ?_ | refine wScope ?_) | ((first | refine wRet ?_ | refine wExit ?_ | refine wSkip ?_); try simp) | ((first | refine wLabel ?_ | refine wOn ?_ | refine wQn ?_); try simp only [thenA_n]) | (refine CallE.pure (cH1) rfl ?_) | (refine CallE.lent (cH1) rfl ?_) | (refine CallF.pure (cH1) rfl ?_) | (refine CallF.lent (cH1) rfl ?_) | (refine CallE.own (cH1) ?_) | (refine CallH.pure (cH1) rfl ?_) | (refine CallH.lent (cH1) rfl ?_) | (refine CallH.own (cH1) ?_) | (refine CallE.pure (cH2) rfl ?_) | (refine CallE.lent (cH2) rfl ?_) | (refine CallF.pure (cH2) rfl ?_) | (refine CallF.lent (cH2) rfl ?_) | (refine CallE.own (cH2) ?_) | (refine CallH.pure (cH2) rfl ?_) | (refine CallH.lent (cH2) rfl ?_) | (refine CallH.own (cH2) ?_) | (refine CallE.pure (cF) rfl ?_) | (refine CallE.lent (cF) rfl ?_) | (refine CallF.pure (cF) rfl ?_) | (refine CallF.lent (cF) rfl ?_) | (refine CallE.own (cF) ?_) | (refine CallH.pure (cF) rfl ?_) | (refine CallH.lent (cF) rfl ?_) | (refine CallH.own (cF) ?_) | (refine CallE.pure (cT) rfl ?_) | (refine CallE.lent (cT) rfl ?_) | (refine CallF.pure (cT) rfl ?_) | (refine CallF.lent (cT) rfl ?_) | (refine CallE.own (cT) ?_) | (refine CallH.pure (cT) rfl ?_) | (refine CallH.lent (cT) rfl ?_) | (refine CallH.own (cT) ?_)
    refine hL _ (N - 1) (by omega) ⟨k + 1, way2, lost ++ [⟨p0, p1⟩], by omega, by omega, by simp; omega, hfo, hrun, ?_⟩
    simp [f2, f8, f9, fb9, f14, f15, f16, hw, hx, lv, ouN, kpI, kpR, pos, ren, ren0, renB, renC, renCs]
  · rw [decide_eq_false h4] at cF
    rw [if_neg h4] at hrun
    clear cT cA
    repeat' first | (refine And.intro (by (try simp only [mqs_len, List.length_cons, List.length_nil]); omega) ?_) | (refine hK _ ?_; clear hK) | (refine hK _ _ ?_; clear hK) | (clear hK; refine hK _ ?_; clear hK) | (clear hK; clear hK; refine hK _ ?_; clear hK) | (clear hK; clear hK; clear hK; refine hK _ ?_; clear hK) | (clear hK; clear hK; clear hK; clear hK; refine hK _ ?_; clear hK) | (refine wSeq fun K hK => ?_) | ((first | refine wReg ?_ | refine wDrwQ rfl (by kernel_rfl) ?_ | refine wDrwI ?_ | refine wDrw (by kernel_rfl) ?_); simp only [List.map_cons, List.map_nil, strip]) | ((first | refine wIs fun K hK => ?_ | refine wOs fun K hK => ?_ | refine wQs fun K hK => ?_ | refine CallK_plain ?_ | refine CallQ_plain ?_ | refine CallR_plain ?_ | refine wCond ?_); simp [g2, g8, b13, g9, b9, g14, g15, g16, hlt, hlt', hw, he, hQ, h1']) | (refine wIn ?_; refine And.intro (by kernel_rfl) ?_; try simp only [thenA_n]) | (first | refine wBlock ?_ | refine wScope ?_) | ((first | refine wRet ?_ | refine wExit ?_ | refine wSkip ?_); try simp) | ((first | refine wLabel ?_ | refine wOn ?_ | refine wQn ?_); try simp only [thenA_n]) | (refine CallE.pure (cH1) rfl ?_) | (refine CallE.lent (cH1) rfl ?_) | (refine CallF.pure (cH1) rfl ?_) | (refine CallF.lent (cH1) rfl ?_) | (refine CallE.own (cH1) ?_) | (refine CallH.pure (cH1) rfl ?_) | (refine CallH.lent (cH1) rfl ?_) | (refine CallH.own (cH1) ?_) | (refine CallE.pure (cH2) rfl ?_) | (refine CallE.lent (cH2) rfl ?_) | (refine CallF.pure (cH2) rfl ?_) | (refine CallF.lent (cH2) rfl ?_) | (refine CallE.own (cH2) ?_) | (refine CallH.pure (cH2) rfl ?_) | (refine CallH.lent (cH2) rfl ?_) | (refine CallH.own (cH2) ?_) | (refine CallE.pure (cF) rfl ?_) | (refine CallE.lent (cF) rfl ?_) | (refine CallF.pure (cF) rfl ?_) | (refine CallF.lent (cF) rfl ?_) | (refine CallE.own (cF) ?_) | (refine CallH.pure (cF) rfl ?_) | (refine CallH.lent (cF) rfl ?_) | (refine CallH.own (cF) ?_)
    refine hL _ (N - 1) (by omega) ⟨k + 1, way ++ [m], lost, by omega, by simp; omega, by omega, fun x hx => ?_, hrun, ?_⟩
    · rcases List.mem_append.1 hx with h | h
      · exact hok x h
      · rw [List.mem_singleton] at h; subst h; exact hmk
    · simp [g2, g8, b13, g9, b9, g14, g15, g16, hw, hy]
end Go.Proofs.Ytechjohebkcjiaa
/- States: a number taken out of a row of the call's own. -/
namespace Go.Proofs.Ytechjohebkcjiaa
set_option linter.unusedSimpArgs false
set_option linter.unusedVariables false
open Go Go.Av
attribute [local simp] Try.T1 Try.T2 Try.T3 Try.T4 Try.T5 Try.T9 Try.T12 Try.T15 Try.T16 Try.T17 Try.T21 Try.T22 Try.T23 Try.T24 Try.T25 Try.T27 Try.T29 Try.T30 Try.T31 Try.T32 Try.T33 Try.T35 Try.T37 Try.T38 Try.T40 Try.T41 Try.T42 Try.T44 Try.T45 Try.T47 Try.T49 Try.T51 Try.T53 Try.T54 Try.T55 Try.T56 Try.T57 Try.T58 Try.T59 Try.T60 Try.T61 Try.T62 Try.T63 Try.T64 Try.T66 Try.T67 Try.T68 Try.T69 Try.T70 Try.T72 Try.T74 Try.T76 Try.T77 Try.T78 Try.T79 Try.T80 Try.T81 Try.T82 Try.T83 Try.T84 Try.T85 Try.T87 Try.T88 Try.T89 Try.T90 Try.T91 Try.T92 Try.T93 Try.T94 Try.T96 Try.T97 Try.T98 Try.T99 Try.T100 Try.T101 Try.T102 Try.T103 Try.T104 Try.T105 Try.T106 Try.T107 Try.T108 Try.T109 Try.T110 Try.T111 Try.T113 Try.T114 Try.T115 Try.T116 Try.T117 Try.T118 Try.T119 Try.T120 Try.T121 Try.T122 Try.T123 Try.T124 Try.T125 Try.T126 Try.T127 Try.T128 Try.T129 Try.T130 Try.T133 Try.T136 Try.T137 Try.T140 Try.T141
attribute [local irreducible] Go.Av.CallK Go.Av.CallE Go.Av.CallQ Go.Av.CallF Go.Av.CallR Go.Av.CallH Go.Av.Con
def zis (l : List Int) : List (List PV) := l.map fun x => [I x]
@[simp] theorem zis_len (l : List Int) : (zis l).length = l.length := by simp [zis]
@[simp] theorem zis_getElem (l : List Int) (k : Nat) (h : k < (zis l).length) : (zis l)[k] = [I (l[k]'(by simpa using h))] := by simp [zis]
theorem zis_get {l : List Int} {k : Nat} (h : k < l.length) : (zis l)[k]? = some [I l[k]] := by simp [zis, h]
/-- The numbers but one. -/
def but (l : List Int) (n : Int) : List Int := l.filter fun x => !decide (x = n)
end Go.Proofs.Ytechjohebkcjiaa
/- Messages in order: what stays true (LinkOrder). -/
namespace Go.Proofs.Ytechjohebkcjiaa
set_option linter.unusedSimpArgs false
set_option linter.unusedVariables false
set_option maxRecDepth 8000
open Go Go.Av
attribute [local simp] Try.T1 Try.T2 Try.T3 Try.T4 Try.T5 Try.T9 Try.T12 Try.T15 Try.T16 Try.T17 Try.T21 Try.T22 Try.T23 Try.T24 Try.T25 Try.T27 Try.T29 Try.T30 Try.T31 Try.T32 Try.T33 Try.T35 Try.T37 Try.T38 Try.T40 Try.T41 Try.T42 Try.T44 Try.T45 Try.T47 Try.T49 Try.T51 Try.T53 Try.T54 Try.T55 Try.T56 Try.T57 Try.T58 Try.T59 Try.T60 Try.T61 Try.T62 Try.T63 Try.T64 Try.T66 Try.T67 Try.T68 Try.T69 Try.T70 Try.T72 Try.T74 Try.T76 Try.T77 Try.T78 Try.T79 Try.T80 Try.T81 Try.T82 Try.T83 Try.T84 Try.T85 Try.T87 Try.T88 Try.T89 Try.T90 Try.T91 Try.T92 Try.T93 Try.T94 Try.T96 Try.T97 Try.T98 Try.T99 Try.T100 Try.T101 Try.T102 Try.T103 Try.T104 Try.T105 Try.T106 Try.T107 Try.T108 Try.T109 Try.T110 Try.T111 Try.T113 Try.T114 Try.T115 Try.T116 Try.T117 Try.T118 Try.T119 Try.T120 Try.T121 Try.T122 Try.T123 Try.T124 Try.T125 Try.T126 Try.T127 Try.T128 Try.T129 Try.T130 Try.T133 Try.T136 Try.T137 Try.T140 Try.T141
attribute [local irreducible] Go.Av.CallK Go.Av.CallE Go.Av.CallQ Go.Av.CallF Go.Av.CallR Go.Av.CallH Go.Av.Con
/-- A message of the law: from, to, its number. -/
structure Tr where
  (a b n : Nat)
def mO (a b n : Int) : Mq := ⟨a, b, [I 12, I 0, I 0, I 0, I 0, I 0, I 0, I 0, I n, I 0, I 0, I 0, .sl 2 [], I 0, I 0, I 0, .sl 5 [], .sl 1 [], I 0, I 0, I 0, I 0, .sl 4 [], I 0, I 0, .sl 8 [], I 0, I 0, I 0, I 0, I 0, I 0, SB [], .sl 11 [], .sl 1 [], I 0, I 0, I 0, .sl 6 [], I 0, .sl 4 [], .sl 1 [], I 0, I 0], rfl⟩
def mT (t : Tr) : Mq := mO t.a t.b t.n
theorem zs_nil : Zs [] := fun p h => by cases h
theorem zs_cons {p : PV} {l : List PV} (h : Z1 p) (t : Zs l) : Zs (p :: l) := fun q hq => by
  rcases List.mem_cons.1 hq with rfl | h2
  · exact h
  · exact t q h2
theorem z1_I (n : Int) : Z1 (I n) := SzI.plain _ fun s h => by cases h
theorem z1_nil (c : Nat) : Z1 (.sl c []) := .sl c [] (by simp) fun i e j p h => by simp at h
theorem z1_S : Z1 (SB []) := .v _ fun s h => by
  simp only [Value.string.injEq] at h
  subst h
  decide
theorem mO_ok (a b n : Int) (ha : okI a) (hb : okI b) (hn : okI n) : OkM (mO a b n) where
  ok := And.intro (foI_ok.2 ha) (And.intro (foI_ok.2 hb) (And.intro (foI_ok.2 ⟨by omega, by omega⟩) (And.intro fVt_L.zok (And.intro (foI_ok.2 hn) (And.intro (foI_ok.2 ⟨by omega, by omega⟩) (And.intro fZx_L.zok (And.intro (fl_L fZx_L 2).zok (And.intro fPl_L.zok (And.intro fTx_L.zok (And.intro (fl_L foI_L 1).zok fRq_L.zok))))))))))
  z := by
    unfold mO Mq.cells
    repeat' first
      | exact zs_nil
      | exact z1_I _
      | exact z1_nil _
      | exact z1_S
      | refine zs_cons ?_ ?_
def Tr.ix (t : Tr) : Nat := 4 * t.a + t.b
/-- What may be on its way; how many it is; what is left of each way. -/
structure OkT (t : Tr) : Prop where
  a : t.a < 4
  b : t.b < 4
  n : t.n ≤ 1000
  ne : ¬ t.a = t.b
def mts (L : List Tr) : List Mq := L.map mT
def way (L : List Tr) (j : Nat) : List Nat := (L.filter fun t => t.ix == j).map Tr.n
theorem okT_M {t : Tr} (h : OkT t) : OkM (mT t) := mO_ok _ _ _ ⟨by have := h.a; omega, by have := h.a; omega⟩ ⟨by have := h.b; omega, by have := h.b; omega⟩ ⟨by have := h.n; omega, by have := h.n; omega⟩
theorem mts_ok {L : List Tr} (h : ∀ t ∈ L, OkT t) : ∀ m ∈ mts L, OkM m := fun m hm => by
  obtain ⟨t, ht, rfl⟩ := List.mem_map.1 hm
  exact okT_M (h t ht)
@[simp] theorem mts_len (L : List Tr) : (mts L).length = L.length := by simp [mts]
theorem cnt_len (l : List Mq) (m : Mq) : cnt l m ≤ l.length := List.length_filter_le _ _
theorem snd1 (L : List Tr) (t : Tr) (ht : OkT t) (hl : L.length < 40) : sndL [] (mts L) [] [mT t] = (mts (L ++ [t]), []) := by
  have h1 : ¬ (mT t).fr = (mT t).to := fun h => ht.ne (by
    have h2 : (t.a : Int) = (t.b : Int) := h
    omega)
  have h2 := cnt_len (mts L) (mT t)
  rw [mts_len] at h2
  rw [sndL, if_neg (by simp [h1]), if_neg (by omega), sndL]
  simp [mts]
theorem snd0 (L : List Tr) (a b n : Int) (h : a = b) : sndL [] (mts L) [] [mO a b n] = (mts L, []) := by
  rw [sndL, if_pos (.inl h), sndL]
theorem fs_first {l : List Mq} : ∀ k, k ≤ l.length → ∀ i ∈ fsF l k, ∃ h : i < l.length, wy l[i] ∉ (l.take i).map wy
  | 0, _, i, h => by simp [fsF] at h
  | k + 1, hk, i, h => by
    rw [fsF, dif_pos (by omega)] at h
    split at h
    · exact fs_first k (by omega) i h
    · rename_i g
      rcases List.mem_append.1 h with h | h
      · exact fs_first k (by omega) i h
      · rw [List.mem_singleton] at h; subst h
        exact ⟨by omega, g⟩
theorem way_app (L M : List Tr) (j : Nat) : way (L ++ M) j = way L j ++ way M j := by simp [way]
theorem way_none {L : List Tr} {j : Nat} (h : ∀ t ∈ L, ¬ t.ix = j) : way L j = [] := by
  unfold way
  rw [List.filter_eq_nil_iff.2 fun t ht => by simpa using h t ht]; rfl
theorem ix_inj {s t : Tr} (hs : OkT s) (ht : OkT t) (h : s.ix = t.ix) : s.a = t.a ∧ s.b = t.b := by
  have := hs.b; have := ht.b
  unfold Tr.ix at h; omega
theorem wy_inj {s t : Tr} (h : s.a = t.a ∧ s.b = t.b) : wy (mT s) = wy (mT t) := by
  unfold wy mT mO; simp [h.1, h.2]
/-- One that may come is the first of its way. -/
theorem way_take {L : List Tr} (ho : ∀ t ∈ L, OkT t) {i : Nat} (hi : i ∈ fsF (mts L) (mts L).length) : ∃ h : i < L.length, way L (L[i]).ix = (L[i]).n :: way (L.eraseIdx i) (L[i]).ix ∧ ∀ j, ¬ j = (L[i]).ix → way L j = way (L.eraseIdx i) j := by
  obtain ⟨h, hw⟩ := fs_first _ (Nat.le_refl _) i hi
  have hL : i < L.length := by simpa using h
  refine ⟨hL, ?_⟩
  have hsp : L = L.take i ++ L[i] :: L.drop (i + 1) := by rw [← List.drop_eq_getElem_cons hL, List.take_append_drop]
  have her : L.eraseIdx i = L.take i ++ L.drop (i + 1) := List.eraseIdx_eq_take_drop_succ _ _
  have hno : ∀ t ∈ L.take i, ¬ t.ix = (L[i]).ix := fun t ht hx => by
    have e1 : wy (mT t) = wy (mT L[i]) := wy_inj (ix_inj (ho _ (List.mem_of_mem_take ht)) (ho _ (List.getElem_mem hL)) hx)
    refine hw ?_
    rw [show (mts L)[i] = mT L[i] by simp [mts], ← e1, show (mts L).take i = (L.take i).map mT by simp [mts, List.map_take], List.map_map]
    exact List.mem_map.2 ⟨t, ht, rfl⟩
  have hq : ∀ j, way (L.eraseIdx i) j = way (L.take i) j ++ way (L.drop (i + 1)) j := fun j => by rw [her, way_app]
  have hp : ∀ j, way L j = way (L.take i) j ++ way (L[i] :: L.drop (i + 1)) j := fun j => by rw [← way_app, ← hsp]
  refine ⟨?_, fun j hj => ?_⟩
  · rw [hp, hq, way_none hno]
    generalize L.drop (i + 1) = D
    simp [way]
  · rw [hp, hq]
    congr 1
    unfold way
    rw [List.filter_cons_of_neg (by simpa using fun h => hj h.symm)]
theorem fs_zero {l : List Mq} (h : 0 < l.length) : (fsF l l.length)[0]? = some 0 := by
  have h1 : fsF l 1 = [0] := by rw [fsF, dif_pos h]; simp [fsF]
  obtain ⟨r, hr⟩ := fs_pre l 1 (l.length - 1)
  rw [show 1 + (l.length - 1) = l.length by omega, h1] at hr
  rw [hr]; rfl
/-- What is sent, what has come, and what is on its way. -/
structure Ord (G S : Nat → List Nat) (L : List Tr) (i : Nat) : Prop where
  ok : ∀ t ∈ L, OkT t
  len : L.length ≤ i
  eq : ∀ j, j < 16 → G j ++ way L j = S j
  sl : ∀ j, j < 16 → (S j).length ≤ i
def upd (S : Nat → List Nat) (j n : Nat) : Nat → List Nat := fun k => if k = j then S k ++ [n] else S k
theorem Ord.send {G S : Nat → List Nat} {L : List Tr} {i : Nat} (h : Ord G S L i) {t : Tr} (ht : OkT t) : Ord G (upd S t.ix t.n) (L ++ [t]) (i + 1) where
  ok := fun s hs => by
    rcases List.mem_append.1 hs with h1 | h1
    · exact h.ok s h1
    · rw [List.mem_singleton] at h1; subst h1; exact ht
  len := by have := h.len; simp; omega
  eq := fun j hj => by
    rw [way_app, ← List.append_assoc, h.eq j hj]
    unfold upd
    by_cases g : j = t.ix
    · rw [if_pos g]; subst g; simp [way]
    · rw [if_neg g, way_none (by intro s hs; rw [List.mem_singleton] at hs; subst hs; exact fun e => g e.symm), List.append_nil]
  sl := fun j hj => by
    have := h.sl j hj
    unfold upd
    split
    · simp; omega
    · omega
theorem Ord.skip {G S : Nat → List Nat} {L : List Tr} {i : Nat} (h : Ord G S L i) : Ord G S L (i + 1) where
  ok := h.ok
  len := by have := h.len; omega
  eq := h.eq
  sl := fun j hj => by have := h.sl j hj; omega
theorem Ord.take {G S : Nat → List Nat} {L : List Tr} {i : Nat} (h : Ord G S L i) {k : Nat} (hk : k ∈ fsF (mts L) (mts L).length) : ∃ hL : k < L.length, OkT L[k] ∧ Ord (upd G (L[k]).ix (L[k]).n) S (L.eraseIdx k) i := by
  obtain ⟨hL, h1, h2⟩ := way_take h.ok hk
  refine ⟨hL, h.ok _ (List.getElem_mem hL), fun t ht => h.ok t (List.mem_of_mem_eraseIdx ht), ?_, fun j hj => ?_, h.sl⟩
  · have := h.len; rw [List.length_eraseIdx_of_lt hL]; omega
  · have he := h.eq j hj
    unfold upd
    by_cases g : j = (L[k]).ix
    · rw [if_pos g]; subst g
      rw [h1] at he
      rw [← he]; simp
    · rw [if_neg g, ← h2 j g, he]
theorem Ord.gl {G S : Nat → List Nat} {L : List Tr} {i : Nat} (h : Ord G S L i) (j : Nat) (hj : j < 16) : (G j).length ≤ i := by
  have h1 := h.eq j hj
  have h2 := h.sl j hj
  rw [← h1, List.length_append] at h2; omega
theorem Ord.done {G S : Nat → List Nat} {i : Nat} (h : Ord G S [] i) (j : Nat) (hj : j < 16) : G j = S j := by
  have := h.eq j hj
  simpa [way] using this
theorem Ord.zero : Ord (fun _ => []) (fun _ => []) [] 0 := ⟨fun _ h => by simp at h, Nat.le_refl _, fun _ _ => rfl, fun _ _ => Nat.le_refl _⟩
/-! ### Arrays of rows -/
/-- Sixteen rows, with names from b on. -/
def zr (b : Nat) : List V := [.row b, .row (1 + b), .row (2 + b), .row (3 + b), .row (4 + b), .row (5 + b), .row (6 + b), .row (7 + b), .row (8 + b), .row (9 + b), .row (10 + b), .row (11 + b), .row (12 + b), .row (13 + b), .row (14 + b), .row (15 + b)]
def zrN (base k : Nat) : List V := (List.range 16).map fun j => if j < k then .row (j + base) else .nil 1
theorem zrN_zr (b : Nat) : zrN b 16 = zr b := by simp [zrN, zr, List.range_succ]
theorem zr_scr (base m : Nat) (h : ¬ (base ≤ m ∧ m < base + 16)) : (zrN base 16).map (scr0 m) = zrN base 16 := by
  rw [zrN, List.map_map]
  refine List.map_congr_left fun j hj => ?_
  rw [List.mem_range] at hj
  have h1 : ¬ j + base = m := by omega
  simp [hj, scr0, h1]
def celG (b base e : Nat) : Nat → Nat → List Gh
  | _, 0 => []
  | j, n + 1 => .cel b j (j + base) e 1 :: celG b base e (j + 1) n
structure CelP (b base e e0 k : Nat) (st0 st : St) : Prop where
  box : st.b b = some (.box e0 (zrN base k))
  rows : ∀ j, j < k → st.b (j + base) = some (.row e 1 [])
  slot : ∀ t, (∀ m, base ≤ m → m < base + 16 → scr m (st0.s t) = st0.s t) → st.s t = st0.s t
  blk : ∀ b', ¬ b' = b → (∀ m, base ≤ m → m < base + 16 → ¬ b' = m ∧ (st0.b b').map (scrB m) = st0.b b') → st.b b' = st0.b b'
theorem zrN_get {base k : Nat} (h : k < 16) : (zrN base k)[k]? = some (.nil 1) := by
  simp [zrN, List.getElem?_map, h]
theorem zrN_next {base k : Nat} (h : k < 16) : ((zrN base k).map (scr0 (k + base))).set k (.row (k + base)) = zrN base (k + 1) := by
  apply List.ext_getElem?
  intro i
  rw [List.getElem?_set]
  simp only [zrN, List.length_map, List.length_range, List.map_map, List.getElem?_map, List.getElem?_range, Function.comp]
  by_cases hi : i < 16
  · by_cases hik : k = i
    · subst hik; simp [h]
    · rw [if_neg hik]
      simp only [hi, List.getElem?_range, Option.map_some]
      by_cases h1 : i < k
      · have h2 : ¬ i + base = k + base := by omega
        have h3 : ¬ i = k := by omega
        simp [h1, show i < k + 1 by omega, scr0, h2, h3]
      · simp [h1, show ¬ i < k + 1 by omega, scr0]
  · have : ¬ k = i := by omega
    rw [if_neg this]
    simp [List.getElem?_eq_none_iff.2, hi]
theorem celP_step {b base e e0 k : Nat} {st0 st : St} (hb : b < base) (h : CelP b base e e0 k st0 st) (hk : k < 16) : CelP b base e e0 (k + 1) st0 (gh1 st (.cel b k (k + base) e 1)) := by
  have e1 : gh1 st (.cel b k (k + base) e 1) = ⟨fun t => scr (k + base) (st.s t), fun b' => if b' = b then some (.box e0 (((zrN base k).map (scr0 (k + base))).set k (.row (k + base)))) else if b' = k + base then some (.row e 1 []) else (st.b b').map (scrB (k + base))⟩ := by
    rw [gh1, if_neg (by omega)]
    simp only [h.box, zrN_get hk]
  rw [e1, zrN_next hk]
  refine ⟨?_, fun j hj => ?_, fun t ht => ?_, fun b' h1 h2 => ?_⟩
  · simp
  · simp only []
    rw [if_neg (by omega)]
    by_cases g : j = k
    · subst g; rw [if_pos rfl]
    · rw [if_neg (by omega), h.rows j (by omega)]; rfl
  · simp only []
    rw [h.slot t ht]; exact ht _ (by omega) (by omega)
  · simp only []
    rw [if_neg h1, if_neg (h2 _ (by omega) (by omega)).1, h.blk b' h1 h2]; exact (h2 _ (by omega) (by omega)).2
theorem celG_run {b base e e0 : Nat} {st0 : St} (hb : b < base) : ∀ n k (st : St), CelP b base e e0 k st0 st → k + n = 16 → CelP b base e e0 16 st0 (frzL st (celG b base e k n))
  | 0, k, st, h, hn => by
    have hk : k = 16 := by omega
    subst hk
    exact h
  | n + 1, k, st, h, hn => celG_run hb n (k + 1) _ (celP_step hb h (by omega)) (by omega)
theorem cels {b base e e0 : Nat} {st : St} (hb : b < base) (h : st.b b = some (.box e0 (zrN base 0))) : CelP b base e e0 16 st (frzL st (celG b base e 0 16)) :=
  celG_run hb 16 0 st ⟨h, fun j hj => by omega, fun _ _ => rfl, fun _ _ _ => rfl⟩ rfl
end Go.Proofs.Ytechjohebkcjiaa
/- The closed calls (awake), run. -/
namespace Go.Proofs.Ytechjohebkcjiaa
set_option linter.unusedSimpArgs false
set_option linter.unusedVariables false
open Go Go.Av
attribute [local simp] Try.T1 Try.T2 Try.T3 Try.T4 Try.T5 Try.T9 Try.T12 Try.T15 Try.T16 Try.T17 Try.T21 Try.T22 Try.T23 Try.T24 Try.T25 Try.T27 Try.T29 Try.T30 Try.T31 Try.T32 Try.T33 Try.T35 Try.T37 Try.T38 Try.T40 Try.T41 Try.T42 Try.T44 Try.T45 Try.T47 Try.T49 Try.T51 Try.T53 Try.T54 Try.T55 Try.T56 Try.T57 Try.T58 Try.T59 Try.T60 Try.T61 Try.T62 Try.T63 Try.T64 Try.T66 Try.T67 Try.T68 Try.T69 Try.T70 Try.T72 Try.T74 Try.T76 Try.T77 Try.T78 Try.T79 Try.T80 Try.T81 Try.T82 Try.T83 Try.T84 Try.T85 Try.T87 Try.T88 Try.T89 Try.T90 Try.T91 Try.T92 Try.T93 Try.T94 Try.T96 Try.T97 Try.T98 Try.T99 Try.T100 Try.T101 Try.T102 Try.T103 Try.T104 Try.T105 Try.T106 Try.T107 Try.T108 Try.T109 Try.T110 Try.T111 Try.T113 Try.T114 Try.T115 Try.T116 Try.T117 Try.T118 Try.T119 Try.T120 Try.T121 Try.T122 Try.T123 Try.T124 Try.T125 Try.T126 Try.T127 Try.T128 Try.T129 Try.T130 Try.T133 Try.T136 Try.T137 Try.T140 Try.T141
attribute [local irreducible] Go.Av.CallK Go.Av.CallE Go.Av.CallQ Go.Av.CallF Go.Av.CallR Go.Av.CallH Go.Av.Con
theorem clone31 (l : List (List PV)) (hl : l.length ≤ 1000000) : RCon 31 [.p (.sl 46 l)] 51 46 l := by
  refine wBodyR Try.tab Try.mixed Try.func31 rfl rfl Try.ntmps31 rfl (by simp) (by simp) fun Q hr hn => ?_
  repeat' first | (refine wRetG [.row 2 51 46] ?_) | (refine And.intro (by omega) (Or.inl ?_)) | (refine And.intro ?_ (fun hnil => ?_)) | (refine hK _ ?_; clear hK) | (refine hK _ _ ?_; clear hK) | (clear hK; refine hK _ ?_; clear hK) | (clear hK; clear hK; refine hK _ ?_; clear hK) | (clear hK; clear hK; clear hK; refine hK _ ?_; clear hK) | (clear hK; clear hK; clear hK; clear hK; refine hK _ ?_; clear hK) | (refine wSeq fun K hK => ?_) | ((first | refine wReg ?_ | refine wDrwQ rfl (by kernel_rfl) ?_ | refine wDrwI ?_ | refine wDrw (by kernel_rfl) ?_); simp only [List.map_cons, List.map_nil, strip]) | ((first | refine wIs fun K hK => ?_ | refine wOs fun K hK => ?_ | refine wQs fun K hK => ?_ | refine CallK_plain ?_ | refine CallQ_plain ?_ | refine CallR_plain ?_ | refine wCond ?_); simp) | (refine wIn ?_; refine And.intro (by kernel_rfl) ?_; try simp only [thenA_n]) | (first | refine wBlock ?_ | refine wScope ?_) | ((first | refine wRet ?_ | refine wExit ?_ | refine wSkip ?_); try simp) | ((first | refine wLabel ?_ | refine wOn ?_ | refine wQn ?_); try simp only [thenA_n])
  · refine hr _ 7 (by simp) (by simp) (by omega)
  · subst hnil
    simp only [thenA_r]
    refine hr _ 2 (by simp) (by simp) (by omega)
theorem clone34 (l : List (List PV)) (hl : l.length ≤ 1000000) : RCon 34 [.p (.sl 2 l)] 27 2 l := by
  refine wBodyR Try.tab Try.mixed Try.func34 rfl rfl Try.ntmps34 rfl (by simp) (by simp) fun Q hr hn => ?_
  repeat' first | (refine wRetG [.row 2 27 2] ?_) | (refine And.intro (by omega) (Or.inl ?_)) | (refine And.intro ?_ (fun hnil => ?_)) | (refine hK _ ?_; clear hK) | (refine hK _ _ ?_; clear hK) | (clear hK; refine hK _ ?_; clear hK) | (clear hK; clear hK; refine hK _ ?_; clear hK) | (clear hK; clear hK; clear hK; refine hK _ ?_; clear hK) | (clear hK; clear hK; clear hK; clear hK; refine hK _ ?_; clear hK) | (refine wSeq fun K hK => ?_) | ((first | refine wReg ?_ | refine wDrwQ rfl (by kernel_rfl) ?_ | refine wDrwI ?_ | refine wDrw (by kernel_rfl) ?_); simp only [List.map_cons, List.map_nil, strip]) | ((first | refine wIs fun K hK => ?_ | refine wOs fun K hK => ?_ | refine wQs fun K hK => ?_ | refine CallK_plain ?_ | refine CallQ_plain ?_ | refine CallR_plain ?_ | refine wCond ?_); simp) | (refine wIn ?_; refine And.intro (by kernel_rfl) ?_; try simp only [thenA_n]) | (first | refine wBlock ?_ | refine wScope ?_) | ((first | refine wRet ?_ | refine wExit ?_ | refine wSkip ?_); try simp) | ((first | refine wLabel ?_ | refine wOn ?_ | refine wQn ?_); try simp only [thenA_n])
  · refine hr _ 7 (by simp) (by simp) (by omega)
  · subst hnil
    simp only [thenA_r]
    refine hr _ 2 (by simp) (by simp) (by omega)
theorem clone37 (l : List (List PV)) (hl : l.length ≤ 1000000) : RCon 37 [.p (.sl 1 l)] 3 1 l := by
  refine wBodyR Try.tab Try.mixed Try.func37 rfl rfl Try.ntmps37 rfl (by simp) (by simp) fun Q hr hn => ?_
  repeat' first | (refine wRetG [.row 2 3 1] ?_) | (refine And.intro (by omega) (Or.inl ?_)) | (refine And.intro ?_ (fun hnil => ?_)) | (refine hK _ ?_; clear hK) | (refine hK _ _ ?_; clear hK) | (clear hK; refine hK _ ?_; clear hK) | (clear hK; clear hK; refine hK _ ?_; clear hK) | (clear hK; clear hK; clear hK; refine hK _ ?_; clear hK) | (clear hK; clear hK; clear hK; clear hK; refine hK _ ?_; clear hK) | (refine wSeq fun K hK => ?_) | ((first | refine wReg ?_ | refine wDrwQ rfl (by kernel_rfl) ?_ | refine wDrwI ?_ | refine wDrw (by kernel_rfl) ?_); simp only [List.map_cons, List.map_nil, strip]) | ((first | refine wIs fun K hK => ?_ | refine wOs fun K hK => ?_ | refine wQs fun K hK => ?_ | refine CallK_plain ?_ | refine CallQ_plain ?_ | refine CallR_plain ?_ | refine wCond ?_); simp) | (refine wIn ?_; refine And.intro (by kernel_rfl) ?_; try simp only [thenA_n]) | (first | refine wBlock ?_ | refine wScope ?_) | ((first | refine wRet ?_ | refine wExit ?_ | refine wSkip ?_); try simp) | ((first | refine wLabel ?_ | refine wOn ?_ | refine wQn ?_); try simp only [thenA_n])
  · refine hr _ 7 (by simp) (by simp) (by omega)
  · subst hnil
    simp only [thenA_r]
    refine hr _ 2 (by simp) (by simp) (by omega)
theorem clone53 (l : List (List PV)) (hl : l.length ≤ 1000000) : RCon 53 [.p (.sl 6 l)] 76 6 l := by
  refine wBodyR Try.tab Try.mixed Try.func53 rfl rfl Try.ntmps53 rfl (by simp) (by simp) fun Q hr hn => ?_
  repeat' first | (refine wRetG [.row 2 76 6] ?_) | (refine And.intro (by omega) (Or.inl ?_)) | (refine And.intro ?_ (fun hnil => ?_)) | (refine hK _ ?_; clear hK) | (refine hK _ _ ?_; clear hK) | (clear hK; refine hK _ ?_; clear hK) | (clear hK; clear hK; refine hK _ ?_; clear hK) | (clear hK; clear hK; clear hK; refine hK _ ?_; clear hK) | (clear hK; clear hK; clear hK; clear hK; refine hK _ ?_; clear hK) | (refine wSeq fun K hK => ?_) | ((first | refine wReg ?_ | refine wDrwQ rfl (by kernel_rfl) ?_ | refine wDrwI ?_ | refine wDrw (by kernel_rfl) ?_); simp only [List.map_cons, List.map_nil, strip]) | ((first | refine wIs fun K hK => ?_ | refine wOs fun K hK => ?_ | refine wQs fun K hK => ?_ | refine CallK_plain ?_ | refine CallQ_plain ?_ | refine CallR_plain ?_ | refine wCond ?_); simp) | (refine wIn ?_; refine And.intro (by kernel_rfl) ?_; try simp only [thenA_n]) | (first | refine wBlock ?_ | refine wScope ?_) | ((first | refine wRet ?_ | refine wExit ?_ | refine wSkip ?_); try simp) | ((first | refine wLabel ?_ | refine wOn ?_ | refine wQn ?_); try simp only [thenA_n])
  · refine hr _ 7 (by simp) (by simp) (by omega)
  · subst hnil
    simp only [thenA_r]
    refine hr _ 2 (by simp) (by simp) (by omega)
theorem clone54 (l : List (List PV)) (hl : l.length ≤ 1000000) : RCon 54 [.p (.sl 4 l)] 113 4 l := by
  refine wBodyR Try.tab Try.mixed Try.func54 rfl rfl Try.ntmps54 rfl (by simp) (by simp) fun Q hr hn => ?_
  repeat' first | (refine wRetG [.row 2 113 4] ?_) | (refine And.intro (by omega) (Or.inl ?_)) | (refine And.intro ?_ (fun hnil => ?_)) | (refine hK _ ?_; clear hK) | (refine hK _ _ ?_; clear hK) | (clear hK; refine hK _ ?_; clear hK) | (clear hK; clear hK; refine hK _ ?_; clear hK) | (clear hK; clear hK; clear hK; refine hK _ ?_; clear hK) | (clear hK; clear hK; clear hK; clear hK; refine hK _ ?_; clear hK) | (refine wSeq fun K hK => ?_) | ((first | refine wReg ?_ | refine wDrwQ rfl (by kernel_rfl) ?_ | refine wDrwI ?_ | refine wDrw (by kernel_rfl) ?_); simp only [List.map_cons, List.map_nil, strip]) | ((first | refine wIs fun K hK => ?_ | refine wOs fun K hK => ?_ | refine wQs fun K hK => ?_ | refine CallK_plain ?_ | refine CallQ_plain ?_ | refine CallR_plain ?_ | refine wCond ?_); simp) | (refine wIn ?_; refine And.intro (by kernel_rfl) ?_; try simp only [thenA_n]) | (first | refine wBlock ?_ | refine wScope ?_) | ((first | refine wRet ?_ | refine wExit ?_ | refine wSkip ?_); try simp) | ((first | refine wLabel ?_ | refine wOn ?_ | refine wQn ?_); try simp only [thenA_n])
  · refine hr _ 7 (by simp) (by simp) (by omega)
  · subst hnil
    simp only [thenA_r]
    refine hr _ 2 (by simp) (by simp) (by omega)
theorem clone62 (l : List (List PV)) (hl : l.length ≤ 1000000) : RCon 62 [.p (.sl 5 l)] 72 5 l := by
  refine wBodyR Try.tab Try.mixed Try.func62 rfl rfl Try.ntmps62 rfl (by simp) (by simp) fun Q hr hn => ?_
  repeat' first | (refine wRetG [.row 2 72 5] ?_) | (refine And.intro (by omega) (Or.inl ?_)) | (refine And.intro ?_ (fun hnil => ?_)) | (refine hK _ ?_; clear hK) | (refine hK _ _ ?_; clear hK) | (clear hK; refine hK _ ?_; clear hK) | (clear hK; clear hK; refine hK _ ?_; clear hK) | (clear hK; clear hK; clear hK; refine hK _ ?_; clear hK) | (clear hK; clear hK; clear hK; clear hK; refine hK _ ?_; clear hK) | (refine wSeq fun K hK => ?_) | ((first | refine wReg ?_ | refine wDrwQ rfl (by kernel_rfl) ?_ | refine wDrwI ?_ | refine wDrw (by kernel_rfl) ?_); simp only [List.map_cons, List.map_nil, strip]) | ((first | refine wIs fun K hK => ?_ | refine wOs fun K hK => ?_ | refine wQs fun K hK => ?_ | refine CallK_plain ?_ | refine CallQ_plain ?_ | refine CallR_plain ?_ | refine wCond ?_); simp) | (refine wIn ?_; refine And.intro (by kernel_rfl) ?_; try simp only [thenA_n]) | (first | refine wBlock ?_ | refine wScope ?_) | ((first | refine wRet ?_ | refine wExit ?_ | refine wSkip ?_); try simp) | ((first | refine wLabel ?_ | refine wOn ?_ | refine wQn ?_); try simp only [thenA_n])
  · refine hr _ 7 (by simp) (by simp) (by omega)
  · subst hnil
    simp only [thenA_r]
    refine hr _ 2 (by simp) (by simp) (by omega)
def cloneT : Nat → Option (Nat × Nat)
  | 31 => some (51, 46)
  | 34 => some (27, 2)
  | 37 => some (3, 1)
  | 53 => some (76, 6)
  | 54 => some (113, 4)
  | 62 => some (72, 5)
  | _ => none
theorem clone_ok {g e c : Nat} (h : cloneT g = some (e, c)) (l : List (List PV)) (hl : l.length ≤ 1000000) : RCon g [.p (.sl c l)] e c l := by
  unfold cloneT at h
  split at h
  · simp only [Option.some.injEq, Prod.mk.injEq] at h; obtain ⟨rfl, rfl⟩ := h; exact clone31 l hl
  · simp only [Option.some.injEq, Prod.mk.injEq] at h; obtain ⟨rfl, rfl⟩ := h; exact clone34 l hl
  · simp only [Option.some.injEq, Prod.mk.injEq] at h; obtain ⟨rfl, rfl⟩ := h; exact clone37 l hl
  · simp only [Option.some.injEq, Prod.mk.injEq] at h; obtain ⟨rfl, rfl⟩ := h; exact clone53 l hl
  · simp only [Option.some.injEq, Prod.mk.injEq] at h; obtain ⟨rfl, rfl⟩ := h; exact clone54 l hl
  · simp only [Option.some.injEq, Prod.mk.injEq] at h; obtain ⟨rfl, rfl⟩ := h; exact clone62 l hl
  · simp at h
def base : CallF' := fun g args β => match args, β with
  | [.p (.sl c' l)], [] => match cloneT g with
    | some (e, c) => if c' = c ∧ l.length ≤ 1000000 then some (.ret (.row 2048) [.row e c l] []) else none
    | none => none
  | _, _ => none
theorem base_ok : ∀ g args β out, base g args β = some out → Con Try.prog g args β out := fun g args β out h => by
  unfold base at h
  split at h
  · split at h
    · rename_i hc
      split at h
      · rename_i hl
        obtain ⟨rfl, hl⟩ := hl
        simp only [Option.some.injEq] at h; subst h
        exact clone_ok hc _ hl
      · simp at h
    · simp at h
  · simp at h
end Go.Proofs.Ytechjohebkcjiaa
/- awake of layer 25. -/
namespace Go.Proofs.Ytechjohebkcjiaa
open Go Go.Av
theorem awake25 : ACon Try.prog 7 [] (.p (B true)) := xCall_sound Try.tab Try.mixed base_ok 40 _ _ _ _ (by kernel_rfl)
end Go.Proofs.Ytechjohebkcjiaa
/- Messages in order: the law. -/
namespace Go.Proofs.Ytechjohebkcjiaa
set_option linter.unusedSimpArgs false
set_option linter.unusedVariables false
set_option maxRecDepth 8000
open Go Go.Av
attribute [local simp] Try.T1 Try.T2 Try.T3 Try.T4 Try.T5 Try.T9 Try.T12 Try.T15 Try.T16 Try.T17 Try.T21 Try.T22 Try.T23 Try.T24 Try.T25 Try.T27 Try.T29 Try.T30 Try.T31 Try.T32 Try.T33 Try.T35 Try.T37 Try.T38 Try.T40 Try.T41 Try.T42 Try.T44 Try.T45 Try.T47 Try.T49 Try.T51 Try.T53 Try.T54 Try.T55 Try.T56 Try.T57 Try.T58 Try.T59 Try.T60 Try.T61 Try.T62 Try.T63 Try.T64 Try.T66 Try.T67 Try.T68 Try.T69 Try.T70 Try.T72 Try.T74 Try.T76 Try.T77 Try.T78 Try.T79 Try.T80 Try.T81 Try.T82 Try.T83 Try.T84 Try.T85 Try.T87 Try.T88 Try.T89 Try.T90 Try.T91 Try.T92 Try.T93 Try.T94 Try.T96 Try.T97 Try.T98 Try.T99 Try.T100 Try.T101 Try.T102 Try.T103 Try.T104 Try.T105 Try.T106 Try.T107 Try.T108 Try.T109 Try.T110 Try.T111 Try.T113 Try.T114 Try.T115 Try.T116 Try.T117 Try.T118 Try.T119 Try.T120 Try.T121 Try.T122 Try.T123 Try.T124 Try.T125 Try.T126 Try.T127 Try.T128 Try.T129 Try.T130 Try.T133 Try.T136 Try.T137 Try.T140 Try.T141
attribute [local irreducible] Go.Av.CallK Go.Av.CallE Go.Av.CallQ Go.Av.CallF Go.Av.CallR Go.Av.CallH Go.Av.Con
theorem msg_con (a b n : Int) : ACon Try.prog 20 [.p (I a), .p (I b), .p (I n)] (.p (.agg (mO a b n).cells)) := by
  unfold mO Mq.cells
  refine wBody Try.tab Try.mixed Try.func20 rfl rfl Try.ntmps20 (by simp) (by simp) fun Q hr hn => ?_
  repeat' first | (refine hK _ ?_; clear hK) | (refine hK _ _ ?_; clear hK) | (clear hK; refine hK _ ?_; clear hK) | (clear hK; clear hK; refine hK _ ?_; clear hK) | (clear hK; clear hK; clear hK; refine hK _ ?_; clear hK) | (clear hK; clear hK; clear hK; clear hK; refine hK _ ?_; clear hK) | (refine wSeq fun K hK => ?_) | ((first | refine wReg ?_ | refine wDrwQ rfl (by kernel_rfl) ?_ | refine wDrwI ?_ | refine wDrw (by kernel_rfl) ?_); simp only [List.map_cons, List.map_nil, strip]) | ((first | refine wIs fun K hK => ?_ | refine wOs fun K hK => ?_ | refine wQs fun K hK => ?_ | refine CallK_plain ?_ | refine CallQ_plain ?_ | refine CallR_plain ?_ | refine wCond ?_); simp) | (refine wIn ?_; refine And.intro (by kernel_rfl) ?_; try simp only [thenA_n]) | (first | refine wBlock ?_ | refine wScope ?_) | ((first | refine wRet ?_ | refine wExit ?_ | refine wSkip ?_); try simp) | ((first | refine wLabel ?_ | refine wOn ?_ | refine wQn ?_); try simp only [thenA_n])
  all_goals apply hr
  all_goals simp [Try.f20, show ByteArray.empty = bs [] from rfl]
def FO (G S : Nat → List Nat) (L : List Tr) (sends : List Pr) (takes : List Int) (st : St) : Prop :=
  st.s 0 = .p (.sl 2 (prs sends)) ∧ st.s 1 = .p (.sl 1 (zis takes)) ∧ st.s 5 = .p (.sl 46 (mqs (mts L))) ∧ st.s 6 = .ptr 6 0 ∧ st.s 7 = .ptr 7 0 ∧ st.b 6 = some (.box 62 (zr 200)) ∧ st.b 7 = some (.box 62 (zr 300)) ∧ (∀ j, j < 16 → st.b (j + 200) = some (.row 3 1 (nis (G j)))) ∧ (∀ j, j < 16 → st.b (j + 300) = some (.row 3 1 (nis (S j))))
@[simp high] theorem mO_fr (a b n : Int) : (mO a b n).fr = a := rfl
@[simp high] theorem mO_to (a b n : Int) : (mO a b n).to = b := rfl
@[simp high] theorem mO_ep (a b n : Int) : (mO a b n).cells[10]? = some (I n) := rfl
@[simp high] theorem mO_ep' (a b n : Int) (h : 10 < (mO a b n).cells.length) : (mO a b n).cells[10]'h = I n := rfl
theorem mod4 (x : Int) : ∃ a : Nat, a < 4 ∧ IntKind.i64.wrap ((IntKind.u64.wrap x).tmod 4) = (a : Int) := by
  have h : 0 ≤ IntKind.u64.wrap x ∧ IntKind.u64.wrap x ≤ 18446744073709551615 := by rw [IntKind.wrap_u64]; omega
  refine ⟨((IntKind.u64.wrap x).tmod 4).toNat, ?_, ?_⟩
  · rw [Int.tmod_eq_emod_of_nonneg h.1]; omega
  · rw [Int.tmod_eq_emod_of_nonneg h.1, wrap_id (by omega) (by omega)]; omega
/-- The body of the first loop, from the sending on. -/
def bodyB : Code → Code
  | .loop (.seq _ (.seq _ (.seq (.block _ x) _))) => x
  | c => c
def FI (G S : Nat → List Nat) (L : List Tr) (sends : List Pr) (takes : List Int) (k : Nat) (st : St) : Prop :=
  FO G S L sends takes st ∧ st.s 30 = .p (.sl 2 (prs sends)) ∧ st.s 31 = .p (I sends.length) ∧ st.s 32 = .p (I k)
theorem zr_get (b j : Nat) (h : j < 16) : (zr b)[j]? = some (.row (j + b)) := by
  rw [← zrN_zr]; simp [zrN, h]
@[simp] theorem zr_gE (b j : Nat) (h : j < (zr b).length) : (zr b)[j]'h = .row (j + b) := by
  have h1 : j < 16 := h
  have h2 := zr_get b j h1
  rw [List.getElem?_eq_getElem h] at h2
  exact Option.some.inj h2
@[simp high] theorem mq_nms : ∀ (l : List PV), (l.map V.p).flatMap nms0 = []
  | [] => rfl
  | x :: l => by rw [List.map_cons, List.flatMap_cons, mq_nms l]; rfl
@[simp high] theorem mq_nj (l : List PV) : l.all (nj0 ∘ V.p) = true := by rw [List.all_eq_true]; intro x _; rfl
@[simp] theorem zr_len (b : Nat) : (zr b).length = 16 := rfl
theorem zr_bad (b j : Nat) (h : j < 16) : (zr b).all (nj0 ∘ scr0 (j + b)) = false := by
  rw [List.all_eq_false]
  exact ⟨.row (j + b), List.mem_of_getElem? (zr_get b j h), by simp [scr0, nj0]⟩
theorem zr_scrO (base m : Nat) (h : ¬ (base ≤ m ∧ m < base + 16)) : (zr base).map (scr0 m) = zr base := by rw [← zrN_zr]; exact zr_scr base m h
@[simp] theorem zr_s2 (m : Nat) (h : m < 200) : (zr 200).map (scr0 m) = zr 200 := zr_scrO 200 m (by omega)
@[simp] theorem zr_s3 (m : Nat) (h : m < 200) : (zr 300).map (scr0 m) = zr 300 := zr_scrO 300 m (by omega)
theorem zr_put (base j : Nat) (h : j < 16) : List.take j ((zr base).map (scr0 (j + base))) ++ .row (j + base) :: List.drop (j + 1) ((zr base).map (scr0 (j + base))) = zr base := by
  apply List.ext_getElem?
  intro i
  have hl : j < ((zr base).map (scr0 (j + base))).length := by simpa using h
  have hset := List.set_eq_take_append_cons_drop (l := (zr base).map (scr0 (j + base))) (i := j) (a := V.row (j + base))
  rw [if_pos hl] at hset
  rw [← hset, List.getElem?_set]
  by_cases hi : i < 16
  · by_cases g : j = i
    · subst g; rw [if_pos rfl, if_pos hl, zr_get _ _ h]
    · have h3 : ¬ i + base = j + base := by omega
      have h4 : ¬ i = j := by omega
      rw [if_neg g, List.getElem?_map, zr_get _ _ hi]; simp [scr0, h3, h4]
  · have : ¬ j = i := by omega
    rw [if_neg this, List.getElem?_eq_none_iff.2 (by simp; omega), List.getElem?_eq_none_iff.2 (by simp; omega)]
set_option maxHeartbeats 16000000 in
theorem sufL {Q : AExit → St → Prop} {st : St} (sends : List Pr) (takes : List Int) (k a b : Nat) (G S S0 : Nat → List Nat) (L0 L : List Tr) (hk : k < 35) (ht : takes.length ≤ 100) (ha : a < 4) (hb : b < 4) (h0 : ∀ t ∈ L0, OkT t) (h0l : L0.length ≤ k) (hs : sndL [] (mts L0) [] [mO a b k] = (mts L, [])) (hO : Ord G S L (k + 1))
    (hX : ∀ st G L, Ord G S L (k + 1) → FI G S L sends takes k st → Q (.exit 1) st) (hN : ∀ st G L, Ord G S L (k + 1) → FI G S L sends takes k st → Q .normal st)
    (hF : FI G S L0 sends takes k st) (g8 : st.s 8 = .p (I k)) (g10 : st.s 10 = .p (I a)) (g11 : st.s 11 = .p (I b)) :
    WC Try.prog Try.T 175 (sfxC (bodyB (lp Try.f4 0)) 3) Q st := by
  obtain ⟨⟨g0, g1, g5, g6, g7, b6, b7, hG, hS⟩, g30, g31, g32⟩ := hF
  have cm := msg_con a b k
  have hm : OkM (mO a b k) := mO_ok _ _ _ ⟨by omega, by omega⟩ ⟨by omega, by omega⟩ ⟨by omega, by omega⟩
  have cs := send_con (mts L0) [mO a b k] [] (mts_ok h0) (by intro m hx; rw [List.mem_singleton] at hx; subst hx; exact hm) (by simp; omega)
  rw [hs, show mqs [mO a b k] = [(mO a b k).cells] from rfl, show prs [] = [] from rfl] at cs
  have hll := hO.len
  have cT := fun q => take_con (mts L) q (mts_ok hO.ok) (by simp; omega)
  have hmc := mq_len (mO a b k)
  generalize (mO a b k).cells = mc at *
  generalize mqs (mts L0) = X0 at *
  have hX' : ∀ (st2 : St) G L, Ord G S L (k + 1) → st2.s 0 = .p (.sl 2 (prs sends)) → st2.s 1 = .p (.sl 1 (zis takes)) → st2.s 5 = .p (.sl 46 (mqs (mts L))) → st2.s 6 = .ptr 6 0 → st2.s 7 = .ptr 7 0 → st2.b 6 = some (.box 62 (zr 200)) → st2.b 7 = some (.box 62 (zr 300)) → (∀ j, j < 16 → st2.b (j + 200) = some (.row 3 1 (nis (G j)))) → (∀ j, j < 16 → st2.b (j + 300) = some (.row 3 1 (nis (S j)))) → st2.s 30 = .p (.sl 2 (prs sends)) → st2.s 31 = .p (I sends.length) → st2.s 32 = .p (I k) → Q (.exit 1) st2 := fun st2 G L h q0 q1 q5 q6 q7 r6 r7 rG rS q30 q31 q32 => hX st2 G L h ⟨⟨q0, q1, q5, q6, q7, r6, r7, rG, rS⟩, q30, q31, q32⟩
  have hN' : ∀ (st2 : St) G L, Ord G S L (k + 1) → st2.s 0 = .p (.sl 2 (prs sends)) → st2.s 1 = .p (.sl 1 (zis takes)) → st2.s 5 = .p (.sl 46 (mqs (mts L))) → st2.s 6 = .ptr 6 0 → st2.s 7 = .ptr 7 0 → st2.b 6 = some (.box 62 (zr 200)) → st2.b 7 = some (.box 62 (zr 300)) → (∀ j, j < 16 → st2.b (j + 200) = some (.row 3 1 (nis (G j)))) → (∀ j, j < 16 → st2.b (j + 300) = some (.row 3 1 (nis (S j)))) → st2.s 30 = .p (.sl 2 (prs sends)) → st2.s 31 = .p (I sends.length) → st2.s 32 = .p (I k) → Q .normal st2 := fun st2 G L h q0 q1 q5 q6 q7 r6 r7 rG rS q30 q31 q32 => hN st2 G L h ⟨⟨q0, q1, q5, q6, q7, r6, r7, rG, rS⟩, q30, q31, q32⟩
  clear hX hN
  by_cases hlt : k < takes.length
  case neg =>
    have hlt' := eq_true (show (takes.length : Int) ≤ (k : Int) by omega)
    repeat' first | (refine hK _ ?_; clear hK) | (refine hK _ _ ?_; clear hK) | (clear hK; refine hK _ ?_; clear hK) | (clear hK; clear hK; refine hK _ ?_; clear hK) | (clear hK; clear hK; clear hK; refine hK _ ?_; clear hK) | (clear hK; clear hK; clear hK; clear hK; refine hK _ ?_; clear hK) | (refine wSeq fun K hK => ?_) | ((first | refine wReg ?_ | refine wDrwQ rfl (by kernel_rfl) ?_ | refine wDrwI ?_ | refine wDrw (by kernel_rfl) ?_); simp only [List.map_cons, List.map_nil, strip]) | ((first | refine wIs fun K hK => ?_ | refine wOs fun K hK => ?_ | refine wQs fun K hK => ?_ | refine CallK_plain ?_ | refine CallQ_plain ?_ | refine CallR_plain ?_ | refine wCond ?_); simp [g0, g1, g5, g6, g7, b6, b7, g30, g31, g32, g8, g10, g11, hmc, hlt']) | (refine wIn ?_; refine And.intro (by kernel_rfl) ?_; try simp only [thenA_n]) | (first | refine wBlock ?_ | refine wScope ?_) | ((first | refine wRet ?_ | refine wExit ?_ | refine wSkip ?_); try simp) | ((first | refine wLabel ?_ | refine wOn ?_ | refine wQn ?_); try simp only [thenA_n]) | (refine CallE.pure (cm) rfl ?_) | (refine CallE.lent (cm) rfl ?_) | (refine CallF.pure (cm) rfl ?_) | (refine CallF.lent (cm) rfl ?_) | (refine CallE.own (cm) ?_) | (refine CallH.pure (cm) rfl ?_) | (refine CallH.lent (cm) rfl ?_) | (refine CallH.own (cm) ?_) | (refine CallE.pure (cs) rfl ?_) | (refine CallE.lent (cs) rfl ?_) | (refine CallF.pure (cs) rfl ?_) | (refine CallF.lent (cs) rfl ?_) | (refine CallE.own (cs) ?_) | (refine CallH.pure (cs) rfl ?_) | (refine CallH.lent (cs) rfl ?_) | (refine CallH.own (cs) ?_)
    refine hX' _ G L hO ?_ ?_ ?_ ?_ ?_ ?_ ?_ (fun j hj => ?_) (fun j hj => ?_) ?_ ?_ ?_
    all_goals (try have hGj := hG j hj)
    all_goals (try have hSj := hS j hj)
    all_goals simp [g0, g1, g5, g6, g7, b6, b7, g30, g31, g32, g8, g10, g11, *]
  have hlt' := eq_false (show ¬ (takes.length : Int) ≤ (k : Int) by omega)
  have hlt2 : (k : Int) < (takes.length : Int) := by omega
  have he := zis_get hlt
  generalize hxk : takes[k] = x at *
  by_cases hx : x.tmod 2 = 0
  case neg =>
    have hx' := eq_false hx
    repeat' first | (refine hK _ ?_; clear hK) | (refine hK _ _ ?_; clear hK) | (clear hK; refine hK _ ?_; clear hK) | (clear hK; clear hK; refine hK _ ?_; clear hK) | (clear hK; clear hK; clear hK; refine hK _ ?_; clear hK) | (clear hK; clear hK; clear hK; clear hK; refine hK _ ?_; clear hK) | (refine wSeq fun K hK => ?_) | ((first | refine wReg ?_ | refine wDrwQ rfl (by kernel_rfl) ?_ | refine wDrwI ?_ | refine wDrw (by kernel_rfl) ?_); simp only [List.map_cons, List.map_nil, strip]) | ((first | refine wIs fun K hK => ?_ | refine wOs fun K hK => ?_ | refine wQs fun K hK => ?_ | refine CallK_plain ?_ | refine CallQ_plain ?_ | refine CallR_plain ?_ | refine wCond ?_); simp [g0, g1, g5, g6, g7, b6, b7, g30, g31, g32, g8, g10, g11, hmc, hlt', hlt2, hlt, he, hxk, hx']) | (refine wIn ?_; refine And.intro (by kernel_rfl) ?_; try simp only [thenA_n]) | (first | refine wBlock ?_ | refine wScope ?_) | ((first | refine wRet ?_ | refine wExit ?_ | refine wSkip ?_); try simp) | ((first | refine wLabel ?_ | refine wOn ?_ | refine wQn ?_); try simp only [thenA_n]) | (refine CallE.pure (cm) rfl ?_) | (refine CallE.lent (cm) rfl ?_) | (refine CallF.pure (cm) rfl ?_) | (refine CallF.lent (cm) rfl ?_) | (refine CallE.own (cm) ?_) | (refine CallH.pure (cm) rfl ?_) | (refine CallH.lent (cm) rfl ?_) | (refine CallH.own (cm) ?_) | (refine CallE.pure (cs) rfl ?_) | (refine CallE.lent (cs) rfl ?_) | (refine CallF.pure (cs) rfl ?_) | (refine CallF.lent (cs) rfl ?_) | (refine CallE.own (cs) ?_) | (refine CallH.pure (cs) rfl ?_) | (refine CallH.lent (cs) rfl ?_) | (refine CallH.own (cs) ?_)
    refine hX' _ G L hO ?_ ?_ ?_ ?_ ?_ ?_ ?_ (fun j hj => ?_) (fun j hj => ?_) ?_ ?_ ?_
    all_goals (try have hGj := hG j hj)
    all_goals (try have hSj := hS j hj)
    all_goals simp [g0, g1, g5, g6, g7, b6, b7, g30, g31, g32, g8, g10, g11, *]
  have hx' := eq_true hx
  replace cT := cT (IntKind.i64.wrap ((IntKind.u64.wrap x).tmod 5))
  have hV : tkV (mts L) (IntKind.i64.wrap ((IntKind.u64.wrap x).tmod 5)) = match tkA (mts L) (IntKind.i64.wrap ((IntKind.u64.wrap x).tmod 5)) with
    | none => .tup [.p (.agg mq0.cells), .p (.sl 46 (mqs (mts L))), .p (B false)]
    | some i => .tup [.p (.agg (((mts L)[i]?).getD mq0).cells), .p (.sl 46 (mqs ((mts L).eraseIdx i))), .p (B true)] := rfl
  have hmem : ∀ i, tkA (mts L) (IntKind.i64.wrap ((IntKind.u64.wrap x).tmod 5)) = some i → i ∈ fsF (mts L) (mts L).length := fun i hi => by
    unfold tkA at hi
    split at hi
    · cases hi
    · exact List.mem_of_getElem? hi
  rw [hV] at cT
  clear hV
  generalize tkA (mts L) (IntKind.i64.wrap ((IntKind.u64.wrap x).tmod 5)) = A at *
  cases A with
  | none =>
    simp only [] at cT
    repeat' first | (refine hK _ ?_; clear hK) | (refine hK _ _ ?_; clear hK) | (clear hK; refine hK _ ?_; clear hK) | (clear hK; clear hK; refine hK _ ?_; clear hK) | (clear hK; clear hK; clear hK; refine hK _ ?_; clear hK) | (clear hK; clear hK; clear hK; clear hK; refine hK _ ?_; clear hK) | (refine wSeq fun K hK => ?_) | ((first | refine wReg ?_ | refine wDrwQ rfl (by kernel_rfl) ?_ | refine wDrwI ?_ | refine wDrw (by kernel_rfl) ?_); simp only [List.map_cons, List.map_nil, strip]) | ((first | refine wIs fun K hK => ?_ | refine wOs fun K hK => ?_ | refine wQs fun K hK => ?_ | refine CallK_plain ?_ | refine CallQ_plain ?_ | refine CallR_plain ?_ | refine wCond ?_); simp [g0, g1, g5, g6, g7, b6, b7, g30, g31, g32, g8, g10, g11, hmc, hlt', hlt2, hlt, he, hxk, hx']) | (refine wIn ?_; refine And.intro (by kernel_rfl) ?_; try simp only [thenA_n]) | (first | refine wBlock ?_ | refine wScope ?_) | ((first | refine wRet ?_ | refine wExit ?_ | refine wSkip ?_); try simp) | ((first | refine wLabel ?_ | refine wOn ?_ | refine wQn ?_); try simp only [thenA_n]) | (refine CallE.pure (cm) rfl ?_) | (refine CallE.lent (cm) rfl ?_) | (refine CallF.pure (cm) rfl ?_) | (refine CallF.lent (cm) rfl ?_) | (refine CallE.own (cm) ?_) | (refine CallH.pure (cm) rfl ?_) | (refine CallH.lent (cm) rfl ?_) | (refine CallH.own (cm) ?_) | (refine CallE.pure (cs) rfl ?_) | (refine CallE.lent (cs) rfl ?_) | (refine CallF.pure (cs) rfl ?_) | (refine CallF.lent (cs) rfl ?_) | (refine CallE.own (cs) ?_) | (refine CallH.pure (cs) rfl ?_) | (refine CallH.lent (cs) rfl ?_) | (refine CallH.own (cs) ?_) | (refine CallE.pure (cT) rfl ?_) | (refine CallE.lent (cT) rfl ?_) | (refine CallF.pure (cT) rfl ?_) | (refine CallF.lent (cT) rfl ?_) | (refine CallE.own (cT) ?_) | (refine CallH.pure (cT) rfl ?_) | (refine CallH.lent (cT) rfl ?_) | (refine CallH.own (cT) ?_)
    refine hN' _ G L hO ?_ ?_ ?_ ?_ ?_ ?_ ?_ (fun j hj => ?_) (fun j hj => ?_) ?_ ?_ ?_
    all_goals (try have hGj := hG j hj)
    all_goals (try have hSj := hS j hj)
    all_goals simp [g0, g1, g5, g6, g7, b6, b7, g30, g31, g32, g8, g10, g11, *]
  | some i =>
    obtain ⟨hiL, hot, hO2⟩ := hO.take (hmem i rfl)
    simp only [] at cT
    rw [show (mts L)[i]? = some (mT L[i]) by simp [mts, hiL], Option.getD_some, show (mts L).eraseIdx i = mts (L.eraseIdx i) by simp [mts, List.eraseIdx_eq_take_drop_succ, List.map_take, List.map_drop]] at cT
    generalize hL3 : L.eraseIdx i = L3 at *
    have hgl := hO.gl
    generalize L[i] = t at *
    have hta := hot.a
    have htb := hot.b
    have htn := hot.ne
    have e1 : IntKind.i64.wrap (4 * (t.a : Int)) = 4 * (t.a : Int) := wrap_id (by omega) (by omega)
    have e2 : IntKind.i64.wrap (4 * (t.a : Int) + (t.b : Int)) = ((t.ix : Nat) : Int) := by rw [wrap_id (by omega) (by omega)]; unfold Tr.ix; omega
    have hJ : t.ix < 16 := by unfold Tr.ix; omega
    have hG' : ∀ j, j < 16 → (fun (_ : Unit) => st.b (j + 200) = some (.row 3 1 (nis (G j)))) () := hG
    unfold mT at cT
    obtain ⟨ta, tb, tn⟩ := t
    simp only [] at *
    generalize Tr.ix ⟨ta, tb, tn⟩ = J at *
    have hGJ := hG J hJ
    have hnl := hgl J hJ
    have hzp := nis_snoc (G J) tn
    have hJ' : (J : Int) < 16 := by omega
    have hzg := zr_get 200 J hJ
    have hzq := zr_put 200 J hJ
    have hzs := zr_scrO 300 (J + 200) (by omega)
    have hJ15 : J ≤ 15 := by omega
    have hz14 : (zr 200).map (scr0 14) = zr 200 := zr_scrO 200 14 (by omega)
    have hzc : (zr 200).map (scr0 (J + 200) ∘ scr0 14) = (zr 200).map (scr0 (J + 200)) := by rw [← List.map_map, hz14]
    have hzn : (zr 200).all (nj0 ∘ scr0 14) = true := rfl
    have hzf := zr_bad 200 J hJ
    have hzc3 : (zr 300).map (scr0 (J + 200) ∘ scr0 14) = zr 300 := by rw [← List.map_map, zr_scrO 300 14 (by omega), hzs]
    repeat' first | (refine And.intro (by (try simp only [nis_len, List.length_cons, List.length_nil]); omega) ?_) | (refine hK _ ?_; clear hK) | (refine hK _ _ ?_; clear hK) | (clear hK; refine hK _ ?_; clear hK) | (clear hK; clear hK; refine hK _ ?_; clear hK) | (clear hK; clear hK; clear hK; refine hK _ ?_; clear hK) | (clear hK; clear hK; clear hK; clear hK; refine hK _ ?_; clear hK) | (refine wSeq fun K hK => ?_) | ((first | refine wReg ?_ | refine wDrwQ rfl (by kernel_rfl) ?_ | refine wDrwI ?_ | refine wDrw (by kernel_rfl) ?_); simp only [List.map_cons, List.map_nil, strip]) | ((first | refine wIs fun K hK => ?_ | refine wOs fun K hK => ?_ | refine wQs fun K hK => ?_ | refine CallK_plain ?_ | refine CallQ_plain ?_ | refine CallR_plain ?_ | refine wCond ?_); simp [g0, g1, g5, g6, g7, b6, b7, g30, g31, g32, g8, g10, g11, hmc, hlt', hlt2, hlt, he, hxk, hx', e1, e2, hGJ, hJ, hJ', hzg, hzq, hzs, hJ15, hz14, hzc, hzn, hzf]) | (refine wIn ?_; refine And.intro (by kernel_rfl) ?_; try simp only [thenA_n]) | (first | refine wBlock ?_ | refine wScope ?_) | ((first | refine wRet ?_ | refine wExit ?_ | refine wSkip ?_); try simp) | ((first | refine wLabel ?_ | refine wOn ?_ | refine wQn ?_); try simp only [thenA_n]) | (refine CallE.pure (cm) rfl ?_) | (refine CallE.lent (cm) rfl ?_) | (refine CallF.pure (cm) rfl ?_) | (refine CallF.lent (cm) rfl ?_) | (refine CallE.own (cm) ?_) | (refine CallH.pure (cm) rfl ?_) | (refine CallH.lent (cm) rfl ?_) | (refine CallH.own (cm) ?_) | (refine CallE.pure (cs) rfl ?_) | (refine CallE.lent (cs) rfl ?_) | (refine CallF.pure (cs) rfl ?_) | (refine CallF.lent (cs) rfl ?_) | (refine CallE.own (cs) ?_) | (refine CallH.pure (cs) rfl ?_) | (refine CallH.lent (cs) rfl ?_) | (refine CallH.own (cs) ?_) | (refine CallE.pure (cT) rfl ?_) | (refine CallE.lent (cT) rfl ?_) | (refine CallF.pure (cT) rfl ?_) | (refine CallF.lent (cT) rfl ?_) | (refine CallE.own (cT) ?_) | (refine CallH.pure (cT) rfl ?_) | (refine CallH.lent (cT) rfl ?_) | (refine CallH.own (cT) ?_)
    have hS' : ∀ j, j < 16 → st.b (j + 300) = some (.row 3 1 (nis (S j))) := hS
    refine hN' _ (upd G J tn) L3 hO2 ?_ ?_ ?_ ?_ ?_ ?_ ?_ (fun j hj => ?_) (fun j hj => ?_) ?_ ?_ ?_
    rotate_left 7
    · by_cases g : j = J
      · subst g
        simp [upd, hzp]
      · have h1 : ¬ j + 200 = J + 200 := by omega
        have hGj := hG j hj
        simp [upd, g, h1, hGj]
    · have h1 : ¬ j + 300 = J + 200 := by omega
      have hSj := hS j hj
      simp [h1, hSj]
    all_goals simp [g0, g1, g5, g6, g7, b6, b7, g30, g31, g32, hzq, hzs, hz14, hzc, hzc3]
/- Messages in order: the law. -/
theorem intsS_con (l : List Nat) (hl : l.length ≤ 1000000) : ACon Try.prog 12 [.p (.sl 1 (nis l)), .p (.sl 1 (nis l))] (.p (B true)) := by
  refine wBody Try.tab Try.mixed Try.func12 rfl rfl Try.ntmps12 (by simp) (by simp) fun Q hr hn => ?_
  repeat' first | (refine hK _ ?_; clear hK) | (refine hK _ _ ?_; clear hK) | (clear hK; refine hK _ ?_; clear hK) | (clear hK; clear hK; refine hK _ ?_; clear hK) | (clear hK; clear hK; clear hK; refine hK _ ?_; clear hK) | (clear hK; clear hK; clear hK; clear hK; refine hK _ ?_; clear hK) | (refine wSeq fun K hK => ?_) | ((first | refine wReg ?_ | refine wDrwQ rfl (by kernel_rfl) ?_ | refine wDrwI ?_ | refine wDrw (by kernel_rfl) ?_); simp only [List.map_cons, List.map_nil, strip]) | ((first | refine wIs fun K hK => ?_ | refine wOs fun K hK => ?_ | refine wQs fun K hK => ?_ | refine CallK_plain ?_ | refine CallQ_plain ?_ | refine CallR_plain ?_ | refine wCond ?_); simp) | (refine wIn ?_; refine And.intro (by kernel_rfl) ?_; try simp only [thenA_n]) | (first | refine wBlock ?_ | refine wScope ?_) | ((first | refine wRet ?_ | refine wExit ?_ | refine wSkip ?_); try simp) | ((first | refine wLabel ?_ | refine wOn ?_ | refine wQn ?_); try simp only [thenA_n])
  refine wLoop (fun N st => ∃ k, k + N = l.length ∧ st.s 0 = .p (.sl 1 (nis l)) ∧ st.s 1 = .p (.sl 1 (nis l)) ∧ st.s 12 = .p (I l.length) ∧ st.s 13 = .p (I k)) l.length ⟨0, by simp⟩ fun K N st hL ⟨k, hk, g0, g1, g12, g13⟩ => ?_
  by_cases hlt : k < l.length
  · have hlt' : (k : Int) < l.length := by omega
    have hw := wrapS k _ hlt (by omega)
    have he := nis_get hlt
    generalize hQ : l[k] = x at *
    repeat' first | (refine hK _ ?_; clear hK) | (refine hK _ _ ?_; clear hK) | (clear hK; refine hK _ ?_; clear hK) | (clear hK; clear hK; refine hK _ ?_; clear hK) | (clear hK; clear hK; clear hK; refine hK _ ?_; clear hK) | (clear hK; clear hK; clear hK; clear hK; refine hK _ ?_; clear hK) | (refine wSeq fun K hK => ?_) | ((first | refine wReg ?_ | refine wDrwQ rfl (by kernel_rfl) ?_ | refine wDrwI ?_ | refine wDrw (by kernel_rfl) ?_); simp only [List.map_cons, List.map_nil, strip]) | ((first | refine wIs fun K hK => ?_ | refine wOs fun K hK => ?_ | refine wQs fun K hK => ?_ | refine CallK_plain ?_ | refine CallQ_plain ?_ | refine CallR_plain ?_ | refine wCond ?_); simp [g0, g1, g12, g13, hlt, hlt', hw, he, hQ]) | (refine wIn ?_; refine And.intro (by kernel_rfl) ?_; try simp only [thenA_n]) | (first | refine wBlock ?_ | refine wScope ?_) | ((first | refine wRet ?_ | refine wExit ?_ | refine wSkip ?_); try simp) | ((first | refine wLabel ?_ | refine wOn ?_ | refine wQn ?_); try simp only [thenA_n])
    refine hL _ (N - 1) (by omega) ⟨k + 1, by omega, ?_⟩
    simp [g0, g1, g12, g13, hw]
  · have hlt' : ¬ (k : Int) < l.length := by omega
    repeat' first | (refine hK _ ?_; clear hK) | (refine hK _ _ ?_; clear hK) | (clear hK; refine hK _ ?_; clear hK) | (clear hK; clear hK; refine hK _ ?_; clear hK) | (clear hK; clear hK; clear hK; refine hK _ ?_; clear hK) | (clear hK; clear hK; clear hK; clear hK; refine hK _ ?_; clear hK) | (refine wSeq fun K hK => ?_) | ((first | refine wReg ?_ | refine wDrwQ rfl (by kernel_rfl) ?_ | refine wDrwI ?_ | refine wDrw (by kernel_rfl) ?_); simp only [List.map_cons, List.map_nil, strip]) | ((first | refine wIs fun K hK => ?_ | refine wOs fun K hK => ?_ | refine wQs fun K hK => ?_ | refine CallK_plain ?_ | refine CallQ_plain ?_ | refine CallR_plain ?_ | refine wCond ?_); simp [g0, g1, g12, g13, hlt, hlt']) | (refine wIn ?_; refine And.intro (by kernel_rfl) ?_; try simp only [thenA_n]) | (first | refine wBlock ?_ | refine wScope ?_) | ((first | refine wRet ?_ | refine wExit ?_ | refine wSkip ?_); try simp) | ((first | refine wLabel ?_ | refine wOn ?_ | refine wQn ?_); try simp only [thenA_n])
    all_goals apply hr
    all_goals simp [Try.f12]
set_option maxHeartbeats 16000000 in
/-- What is left is taken. -/
theorem lpT {Q : AExit → St → Prop} {st : St} (sends : List Pr) (takes : List Int) (G0 S : Nat → List Nat) (L0 : List Tr) (hsl : sends.length ≤ 35) (hO0 : Ord G0 S L0 sends.length)
    (hex : ∀ st, FO S S [] sends takes st → Q (.exit 2) st)
    (hF0 : FO G0 S L0 sends takes st) (h125 : st.s 125 = .p (.sl 2 (prs sends))) (h126 : st.s 126 = .p (I sends.length)) (h127 : st.s 127 = .p (I 0)) :
    WC Try.prog Try.T 175 (lp Try.f4 1) Q st := by
  refine wLoop (fun N st => ∃ m G L, m + N = sends.length ∧ Ord G S L sends.length ∧ L.length ≤ sends.length - m ∧ FO G S L sends takes st ∧ st.s 125 = .p (.sl 2 (prs sends)) ∧ st.s 126 = .p (I sends.length) ∧ st.s 127 = .p (I m)) sends.length ⟨0, G0, L0, by omega, hO0, by have := hO0.len; omega, hF0, h125, h126, h127⟩ fun K N st hL ⟨m, G, L, hm, hO, hLl, hF, g125, g126, g127⟩ => ?_
  obtain ⟨g0, g1, g5, g6, g7, b6, b7, hG, hS⟩ := hF
  by_cases hlt : m < sends.length
  case neg =>
    have hlt' : ¬ (m : Int) < sends.length := by omega
    have hL0 : L = [] := List.length_eq_zero_iff.1 (by omega)
    subst hL0
    have hGS := hO.done
    repeat' first | (refine hK _ ?_; clear hK) | (refine hK _ _ ?_; clear hK) | (clear hK; refine hK _ ?_; clear hK) | (clear hK; clear hK; refine hK _ ?_; clear hK) | (clear hK; clear hK; clear hK; refine hK _ ?_; clear hK) | (clear hK; clear hK; clear hK; clear hK; refine hK _ ?_; clear hK) | (refine wSeq fun K hK => ?_) | ((first | refine wReg ?_ | refine wDrwQ rfl (by kernel_rfl) ?_ | refine wDrwI ?_ | refine wDrw (by kernel_rfl) ?_); simp only [List.map_cons, List.map_nil, strip]) | ((first | refine wIs fun K hK => ?_ | refine wOs fun K hK => ?_ | refine wQs fun K hK => ?_ | refine CallK_plain ?_ | refine CallQ_plain ?_ | refine CallR_plain ?_ | refine wCond ?_); simp [g0, g1, g5, g6, g7, b6, b7, g125, g126, g127, hlt, hlt']) | (refine wIn ?_; refine And.intro (by kernel_rfl) ?_; try simp only [thenA_n]) | (first | refine wBlock ?_ | refine wScope ?_) | ((first | refine wRet ?_ | refine wExit ?_ | refine wSkip ?_); try simp) | ((first | refine wLabel ?_ | refine wOn ?_ | refine wQn ?_); try simp only [thenA_n])
    refine hex _ ⟨?_, ?_, ?_, ?_, ?_, ?_, ?_, fun j hj => ?_, fun j hj => ?_⟩
    rotate_left 7
    · have hGj := hG j hj
      rw [hGS j hj] at hGj
      simp [hGj]
    · have hSj := hS j hj
      simp [hSj]
    all_goals simp [g0, g1, g5, g6, g7, b6, b7]
  have hlt' : (m : Int) < sends.length := by omega
  have hw := wrapS m _ hlt (by omega)
  have cT := take_con (mts L) 0 (mts_ok hO.ok) (by simp; omega)
  by_cases hL0 : L.length = 0
  · have hL1 : L = [] := List.length_eq_zero_iff.1 hL0
    subst hL1
    rw [show tkV (mts []) 0 = .tup [.p (.agg mq0.cells), .p (.sl 46 (mqs (mts []))), .p (B false)] from rfl] at cT
    repeat' first | (refine hK _ ?_; clear hK) | (refine hK _ _ ?_; clear hK) | (clear hK; refine hK _ ?_; clear hK) | (clear hK; clear hK; refine hK _ ?_; clear hK) | (clear hK; clear hK; clear hK; refine hK _ ?_; clear hK) | (clear hK; clear hK; clear hK; clear hK; refine hK _ ?_; clear hK) | (refine wSeq fun K hK => ?_) | ((first | refine wReg ?_ | refine wDrwQ rfl (by kernel_rfl) ?_ | refine wDrwI ?_ | refine wDrw (by kernel_rfl) ?_); simp only [List.map_cons, List.map_nil, strip]) | ((first | refine wIs fun K hK => ?_ | refine wOs fun K hK => ?_ | refine wQs fun K hK => ?_ | refine CallK_plain ?_ | refine CallQ_plain ?_ | refine CallR_plain ?_ | refine wCond ?_); simp [g0, g1, g5, g6, g7, b6, b7, g125, g126, g127, hlt, hlt', hw]) | (refine wIn ?_; refine And.intro (by kernel_rfl) ?_; try simp only [thenA_n]) | (first | refine wBlock ?_ | refine wScope ?_) | ((first | refine wRet ?_ | refine wExit ?_ | refine wSkip ?_); try simp) | ((first | refine wLabel ?_ | refine wOn ?_ | refine wQn ?_); try simp only [thenA_n]) | (refine CallE.pure (cT) rfl ?_) | (refine CallE.lent (cT) rfl ?_) | (refine CallF.pure (cT) rfl ?_) | (refine CallF.lent (cT) rfl ?_) | (refine CallE.own (cT) ?_) | (refine CallH.pure (cT) rfl ?_) | (refine CallH.lent (cT) rfl ?_) | (refine CallH.own (cT) ?_)
    refine hL _ (N - 1) (by omega) ⟨m + 1, G, [], by omega, hO, by simp, ⟨?_, ?_, ?_, ?_, ?_, ?_, ?_, fun j hj => ?_, fun j hj => ?_⟩, ?_, ?_, ?_⟩
    rotate_left 7
    · have hGj := hG j hj
      simp [hGj]
    · have hSj := hS j hj
      simp [hSj]
    all_goals simp [g0, g1, g5, g6, g7, b6, b7, g125, g126, g127, hw]
  have hz := fs_zero (l := mts L) (by simp; omega)
  have hA : tkA (mts L) 0 = some 0 := by unfold tkA; rw [if_neg (by omega)]; exact hz
  obtain ⟨hiL, hot, hO2⟩ := hO.take (List.mem_of_getElem? hz)
  have hV : tkV (mts L) 0 = .tup [.p (.agg (mT L[0]).cells), .p (.sl 46 (mqs (mts (L.eraseIdx 0)))), .p (B true)] := by
    unfold tkV
    rw [hA]
    simp only []
    rw [show (mts L)[0]? = some (mT L[0]) by simp [mts, hiL], Option.getD_some, show (mts L).eraseIdx 0 = mts (L.eraseIdx 0) by simp [mts, List.eraseIdx_eq_take_drop_succ, List.map_take, List.map_drop]]
  rw [hV] at cT
  have hl3 : (L.eraseIdx 0).length + 1 = L.length := by rw [List.length_eraseIdx_of_lt hiL]; omega
  generalize hL3 : L.eraseIdx 0 = L3 at *
  have hgl := hO.gl
  generalize L[0] = t at *
  have hta := hot.a
  have htb := hot.b
  have htn := hot.ne
  have e1 : IntKind.i64.wrap (4 * (t.a : Int)) = 4 * (t.a : Int) := wrap_id (by omega) (by omega)
  have e2 : IntKind.i64.wrap (4 * (t.a : Int) + (t.b : Int)) = ((t.ix : Nat) : Int) := by rw [wrap_id (by omega) (by omega)]; unfold Tr.ix; omega
  have hJ : t.ix < 16 := by unfold Tr.ix; omega
  unfold mT at cT
  clear hV hA hz
  obtain ⟨ta, tb, tn⟩ := t
  simp only [] at *
  generalize Tr.ix ⟨ta, tb, tn⟩ = J at *
  have hGJ := hG J hJ
  have hnl := hgl J hJ
  have hzp := nis_snoc (G J) tn
  have hJ' : (J : Int) < 16 := by omega
  have hzg := zr_get 200 J hJ
  have hzq := zr_put 200 J hJ
  have hzs := zr_scrO 300 (J + 200) (by omega)
  have hJ15 : J ≤ 15 := by omega
  have hzc : (zr 200).map (scr0 (J + 200) ∘ scr0 17) = (zr 200).map (scr0 (J + 200)) := by rw [← List.map_map, zr_s2 17 (by omega)]
  have hzn : (zr 200).all (nj0 ∘ scr0 17) = true := rfl
  have hzf := zr_bad 200 J hJ
  have hzc3 : (zr 300).map (scr0 (J + 200) ∘ scr0 17) = zr 300 := by rw [← List.map_map, zr_s3 17 (by omega), hzs]
  repeat' first | (refine And.intro (by (try simp only [nis_len, List.length_cons, List.length_nil]); omega) ?_) | (refine hK _ ?_; clear hK) | (refine hK _ _ ?_; clear hK) | (clear hK; refine hK _ ?_; clear hK) | (clear hK; clear hK; refine hK _ ?_; clear hK) | (clear hK; clear hK; clear hK; refine hK _ ?_; clear hK) | (clear hK; clear hK; clear hK; clear hK; refine hK _ ?_; clear hK) | (refine wSeq fun K hK => ?_) | ((first | refine wReg ?_ | refine wDrwQ rfl (by kernel_rfl) ?_ | refine wDrwI ?_ | refine wDrw (by kernel_rfl) ?_); simp only [List.map_cons, List.map_nil, strip]) | ((first | refine wIs fun K hK => ?_ | refine wOs fun K hK => ?_ | refine wQs fun K hK => ?_ | refine CallK_plain ?_ | refine CallQ_plain ?_ | refine CallR_plain ?_ | refine wCond ?_); simp [g0, g1, g5, g6, g7, b6, b7, g125, g126, g127, hlt, hlt', hw, e1, e2, hGJ, hJ, hJ', hzg, hzq, hzs, hJ15, hzc, hzn, hzf]) | (refine wIn ?_; refine And.intro (by kernel_rfl) ?_; try simp only [thenA_n]) | (first | refine wBlock ?_ | refine wScope ?_) | ((first | refine wRet ?_ | refine wExit ?_ | refine wSkip ?_); try simp) | ((first | refine wLabel ?_ | refine wOn ?_ | refine wQn ?_); try simp only [thenA_n]) | (refine CallE.pure (cT) rfl ?_) | (refine CallE.lent (cT) rfl ?_) | (refine CallF.pure (cT) rfl ?_) | (refine CallF.lent (cT) rfl ?_) | (refine CallE.own (cT) ?_) | (refine CallH.pure (cT) rfl ?_) | (refine CallH.lent (cT) rfl ?_) | (refine CallH.own (cT) ?_)
  refine hL _ (N - 1) (by omega) ⟨m + 1, upd G J tn, L3, by omega, hO2, by omega, ⟨?_, ?_, ?_, ?_, ?_, ?_, ?_, fun j hj => ?_, fun j hj => ?_⟩, ?_, ?_, ?_⟩
  rotate_left 7
  · by_cases g : j = J
    · subst g
      simp [upd, hzp]
    · have h1 : ¬ j + 200 = J + 200 := by omega
      have hGj := hG j hj
      simp [upd, g, h1, hGj]
  · have h1 : ¬ j + 300 = J + 200 := by omega
    have hSj := hS j hj
    simp [h1, hSj]
  all_goals simp [g0, g1, g5, g6, g7, b6, b7, g125, g126, g127, hw, hzq, hzs, hzc, hzc3]
set_option maxHeartbeats 16000000 in
theorem linkOrder_con (sends : List Pr) (takes : List Int) : ACon Try.prog 4 [.p (.sl 2 (prs sends)), .p (.sl 1 (zis takes))] (.p (B true)) := by
  have ca := awake25
  by_cases h1 : 35 < sends.length
  · have h1' := eq_true (show (35 : Int) < (sends.length : Int) by omega)
    refine wBody Try.tab Try.mixed Try.func4 rfl rfl Try.ntmps4 (by simp) (by simp) fun Q hr hn => ?_
    repeat' first | (refine hK _ ?_; clear hK) | (refine hK _ _ ?_; clear hK) | (clear hK; refine hK _ ?_; clear hK) | (clear hK; clear hK; refine hK _ ?_; clear hK) | (clear hK; clear hK; clear hK; refine hK _ ?_; clear hK) | (clear hK; clear hK; clear hK; clear hK; refine hK _ ?_; clear hK) | (refine wSeq fun K hK => ?_) | ((first | refine wReg ?_ | refine wDrwQ rfl (by kernel_rfl) ?_ | refine wDrwI ?_ | refine wDrw (by kernel_rfl) ?_); simp only [List.map_cons, List.map_nil, strip]) | ((first | refine wIs fun K hK => ?_ | refine wOs fun K hK => ?_ | refine wQs fun K hK => ?_ | refine CallK_plain ?_ | refine CallQ_plain ?_ | refine CallR_plain ?_ | refine wCond ?_); simp [h1']) | (refine wIn ?_; refine And.intro (by kernel_rfl) ?_; try simp only [thenA_n]) | (first | refine wBlock ?_ | refine wScope ?_) | ((first | refine wRet ?_ | refine wExit ?_ | refine wSkip ?_); try simp) | ((first | refine wLabel ?_ | refine wOn ?_ | refine wQn ?_); try simp only [thenA_n]) | (refine CallE.pure (ca) rfl ?_) | (refine CallE.lent (ca) rfl ?_) | (refine CallF.pure (ca) rfl ?_) | (refine CallF.lent (ca) rfl ?_) | (refine CallE.own (ca) ?_) | (refine CallH.pure (ca) rfl ?_) | (refine CallH.lent (ca) rfl ?_) | (refine CallH.own (ca) ?_)
    all_goals apply hr
    all_goals simp [Try.f4]
  have h1' := eq_false (show ¬ (35 : Int) < (sends.length : Int) by omega)
  by_cases h2 : 100 < takes.length
  · have h2' := eq_true (show (100 : Int) < (takes.length : Int) by omega)
    refine wBody Try.tab Try.mixed Try.func4 rfl rfl Try.ntmps4 (by simp) (by simp) fun Q hr hn => ?_
    repeat' first | (refine hK _ ?_; clear hK) | (refine hK _ _ ?_; clear hK) | (clear hK; refine hK _ ?_; clear hK) | (clear hK; clear hK; refine hK _ ?_; clear hK) | (clear hK; clear hK; clear hK; refine hK _ ?_; clear hK) | (clear hK; clear hK; clear hK; clear hK; refine hK _ ?_; clear hK) | (refine wSeq fun K hK => ?_) | ((first | refine wReg ?_ | refine wDrwQ rfl (by kernel_rfl) ?_ | refine wDrwI ?_ | refine wDrw (by kernel_rfl) ?_); simp only [List.map_cons, List.map_nil, strip]) | ((first | refine wIs fun K hK => ?_ | refine wOs fun K hK => ?_ | refine wQs fun K hK => ?_ | refine CallK_plain ?_ | refine CallQ_plain ?_ | refine CallR_plain ?_ | refine wCond ?_); simp [h1', h2']) | (refine wIn ?_; refine And.intro (by kernel_rfl) ?_; try simp only [thenA_n]) | (first | refine wBlock ?_ | refine wScope ?_) | ((first | refine wRet ?_ | refine wExit ?_ | refine wSkip ?_); try simp) | ((first | refine wLabel ?_ | refine wOn ?_ | refine wQn ?_); try simp only [thenA_n]) | (refine CallE.pure (ca) rfl ?_) | (refine CallE.lent (ca) rfl ?_) | (refine CallF.pure (ca) rfl ?_) | (refine CallF.lent (ca) rfl ?_) | (refine CallE.own (ca) ?_) | (refine CallH.pure (ca) rfl ?_) | (refine CallH.lent (ca) rfl ?_) | (refine CallH.own (ca) ?_)
    all_goals apply hr
    all_goals simp [Try.f4]
  have h2' := eq_false (show ¬ (100 : Int) < (takes.length : Int) by omega)
  refine wBody Try.tab Try.mixed Try.func4 rfl rfl Try.ntmps4 (by simp) (by simp) fun Q hr hn => ?_
  repeat' first | (refine hK _ ?_; clear hK) | (refine hK _ _ ?_; clear hK) | (clear hK; refine hK _ ?_; clear hK) | (clear hK; clear hK; refine hK _ ?_; clear hK) | (clear hK; clear hK; clear hK; refine hK _ ?_; clear hK) | (clear hK; clear hK; clear hK; clear hK; refine hK _ ?_; clear hK) | (refine wSeq fun K hK => ?_) | ((first | refine wReg ?_ | refine wDrwQ rfl (by kernel_rfl) ?_ | refine wDrwI ?_ | refine wDrw (by kernel_rfl) ?_); simp only [List.map_cons, List.map_nil, strip]) | ((first | refine wIs fun K hK => ?_ | refine wOs fun K hK => ?_ | refine wQs fun K hK => ?_ | refine CallK_plain ?_ | refine CallQ_plain ?_ | refine CallR_plain ?_ | refine wCond ?_); simp [h1', h2']) | (refine wIn ?_; refine And.intro (by kernel_rfl) ?_; try simp only [thenA_n]) | (first | refine wBlock ?_ | refine wScope ?_) | ((first | refine wRet ?_ | refine wExit ?_ | refine wSkip ?_); try simp) | ((first | refine wLabel ?_ | refine wOn ?_ | refine wQn ?_); try simp only [thenA_n])
  refine wLoopG ([.row 5 51 46, .frz 5] ++ (celG 6 200 3 0 16 ++ celG 7 300 3 0 16)) (fun N st => ∃ k G S L, k + N = sends.length ∧ Ord G S L k ∧ FO G S L sends takes st ∧ st.s 30 = .p (.sl 2 (prs sends)) ∧ st.s 31 = .p (I sends.length) ∧ st.s 32 = .p (I k)) sends.length ?_ fun K N st hL ⟨k, G, S, L, hk, hO, hF, g30, g31, g32⟩ => ?_
  · rw [frzL_append]
    generalize hst : frzL _ [Gh.row 5 51 46, .frz 5] = st1
    have f0 : st1.s 0 = .p (.sl 2 (prs sends)) := by rw [← hst]; simp [frzL, gh1, frz, sub, sub0, subB]
    have f1 : st1.s 1 = .p (.sl 1 (zis takes)) := by rw [← hst]; simp [frzL, gh1, frz, sub, sub0, subB]
    have f5 : st1.s 5 = .p (.sl 46 []) := by rw [← hst]; simp [frzL, gh1, frz, sub, sub0, subB]
    have f6 : st1.s 6 = .ptr 6 0 := by rw [← hst]; simp [frzL, gh1, frz, sub, sub0, subB]
    have f7 : st1.s 7 = .ptr 7 0 := by rw [← hst]; simp [frzL, gh1, frz, sub, sub0, subB]
    have f30 : st1.s 30 = .p (.sl 2 (prs sends)) := by rw [← hst]; simp [frzL, gh1, frz, sub, sub0, subB]
    have f31 : st1.s 31 = .p (I sends.length) := by rw [← hst]; simp [frzL, gh1, frz, sub, sub0, subB]
    have f32 : st1.s 32 = .p (I 0) := by rw [← hst]; simp [frzL, gh1, frz, sub, sub0, subB]
    have b6 : st1.b 6 = some (.box 62 (zrN 200 0)) := by rw [← hst]; simp [frzL, gh1, frz, sub, sub0, subB, zrN, List.range_succ]
    have b7 : st1.b 7 = some (.box 62 (zrN 300 0)) := by rw [← hst]; simp [frzL, gh1, frz, sub, sub0, subB, zrN, List.range_succ]
    clear hst
    rw [frzL_append]
    have p6 := cels (e := 3) (by decide) b6
    generalize frzL st1 (celG 6 200 3 0 16) = st2 at *
    have d7 : st2.b 7 = some (.box 62 (zrN 300 0)) := by
      rw [p6.blk 7 (by decide) (fun m h1 h2 => ⟨by omega, by rw [b7]; simp [scrB, zrN, List.range_succ, scr0]⟩)]; exact b7
    have p7 := cels (e := 3) (by decide) d7
    generalize frzL st2 (celG 7 300 3 0 16) = st3 at *
    have q : ∀ t v, st1.s t = v → (∀ m, 200 ≤ m → scr m v = v) → st3.s t = v := fun t v h1 h2 => by
      have e2 : st2.s t = v := by rw [p6.slot t (fun m hm _ => by rw [h1]; exact h2 m hm)]; exact h1
      rw [p7.slot t (fun m hm _ => by rw [e2]; exact h2 m (by omega))]; exact e2
    refine ⟨0, fun _ => [], fun _ => [], [], by omega, Ord.zero, ⟨q 0 _ f0 fun m hm => rfl, q 1 _ f1 fun m hm => rfl, q 5 _ f5 fun m hm => rfl, q 6 _ f6 fun m hm => ?_, q 7 _ f7 fun m hm => ?_, ?_, ?_, fun j hj => ?_, fun j hj => ?_⟩, q 30 _ f30 fun m hm => rfl, q 31 _ f31 fun m hm => rfl, q 32 _ f32 fun m hm => rfl⟩
    · show (if 6 = m then V.junk else .ptr 6 0) = _
      rw [if_neg (by omega)]
    · show (if 7 = m then V.junk else .ptr 7 0) = _
      rw [if_neg (by omega)]
    · rw [p7.blk 6 (by decide) (fun m h1 h2 => ⟨by omega, by rw [p6.box]; simp only [Option.map_some, scrB, Option.some.injEq, Blk.box.injEq, true_and]; exact zr_scr _ _ (by omega)⟩), p6.box, zrN_zr]
    · rw [p7.box, zrN_zr]
    · rw [p7.blk (j + 200) (by omega) (fun m h1 h2 => ⟨by omega, by rw [p6.rows j hj]; rfl⟩), p6.rows j hj]; rfl
    · rw [p7.rows j hj]; rfl
  by_cases hlt : k < sends.length
  case neg =>
    have hkl : k = sends.length := by omega
    subst hkl
    have hlt' : ¬ (sends.length : Int) < sends.length := by omega
    obtain ⟨g0, g1, g5, g6, g7, b6, b7, hG, hS⟩ := hF
    repeat' first | (refine lpT sends takes G S L (by omega) hO ?_ ⟨?_, ?_, ?_, ?_, ?_, ?_, ?_, fun j hj => ?_, fun j hj => ?_⟩ ?_ ?_ ?_) | (refine hK _ ?_; clear hK) | (refine hK _ _ ?_; clear hK) | (clear hK; refine hK _ ?_; clear hK) | (clear hK; clear hK; refine hK _ ?_; clear hK) | (clear hK; clear hK; clear hK; refine hK _ ?_; clear hK) | (clear hK; clear hK; clear hK; clear hK; refine hK _ ?_; clear hK) | (refine wSeq fun K hK => ?_) | ((first | refine wReg ?_ | refine wDrwQ rfl (by kernel_rfl) ?_ | refine wDrwI ?_ | refine wDrw (by kernel_rfl) ?_); simp only [List.map_cons, List.map_nil, strip]) | ((first | refine wIs fun K hK => ?_ | refine wOs fun K hK => ?_ | refine wQs fun K hK => ?_ | refine CallK_plain ?_ | refine CallQ_plain ?_ | refine CallR_plain ?_ | refine wCond ?_); simp [g0, g1, g5, g6, g7, b6, b7, g30, g31, g32, hlt']) | (refine wIn ?_; refine And.intro (by kernel_rfl) ?_; try simp only [thenA_n]) | (first | refine wBlock ?_ | refine wScope ?_) | ((first | refine wRet ?_ | refine wExit ?_ | refine wSkip ?_); try simp) | ((first | refine wLabel ?_ | refine wOn ?_ | refine wQn ?_); try simp only [thenA_n])
    rotate_left 8
    · have hGj := hG j hj
      simp [hGj]
    · have hSj := hS j hj
      simp [hSj]
    rotate_right 8
    · clear g0 g1 g5 g6 g7 b6 b7 hG hS
      intro st2 ⟨g0, g1, g5, g6, g7, b6, b7, hG, hS⟩
      have hsl := hO.sl
      simp only [blockA_e, if_true, thenA_n]
      repeat' first | (refine hK _ ?_; clear hK) | (refine hK _ _ ?_; clear hK) | (clear hK; refine hK _ ?_; clear hK) | (clear hK; clear hK; refine hK _ ?_; clear hK) | (clear hK; clear hK; clear hK; refine hK _ ?_; clear hK) | (clear hK; clear hK; clear hK; clear hK; refine hK _ ?_; clear hK) | (refine wSeq fun K hK => ?_) | ((first | refine wReg ?_ | refine wDrwQ rfl (by kernel_rfl) ?_ | refine wDrwI ?_ | refine wDrw (by kernel_rfl) ?_); simp only [List.map_cons, List.map_nil, strip]) | ((first | refine wIs fun K hK => ?_ | refine wOs fun K hK => ?_ | refine wQs fun K hK => ?_ | refine CallK_plain ?_ | refine CallQ_plain ?_ | refine CallR_plain ?_ | refine wCond ?_); simp [g0, g1, g5, g6, g7, b6, b7]) | (refine wIn ?_; refine And.intro (by kernel_rfl) ?_; try simp only [thenA_n]) | (first | refine wBlock ?_ | refine wScope ?_) | ((first | refine wRet ?_ | refine wExit ?_ | refine wSkip ?_); try simp) | ((first | refine wLabel ?_ | refine wOn ?_ | refine wQn ?_); try simp only [thenA_n])
      refine wLoop (fun N st => ∃ i, i + N = 16 ∧ FO S S [] sends takes st ∧ st.s 157 = .p (I i)) 16 ⟨0, by omega, ⟨?_, ?_, ?_, ?_, ?_, ?_, ?_, fun j hj => ?_, fun j hj => ?_⟩, ?_⟩ fun K2 N2 st3 hL2 ⟨i, hi, ⟨e0, e1, e5, e6, e7, c6, c7, hG2, hS2⟩, e157⟩ => ?_
      rotate_left 7
      · have hGj := hG j hj
        simp [hGj]
      · have hSj := hS j hj
        simp [hSj]
      rotate_right 7
      any_goals (simp [g0, g1, g5, g6, g7, b6, b7]; done)
      by_cases hi16 : i < 16
      · have hi' : (i : Int) < 16 := by omega
        have hw := wrapS i 16 hi16 (by omega)
        have hGi := hG2 i hi16
        have hSi := hS2 i hi16
        have cI := intsS_con (S i) (by have := hsl i hi16; omega)
        have hz2 := zr_get 200 i hi16
        have hz3 := zr_get 300 i hi16
        repeat' first | (refine hK _ ?_; clear hK) | (refine hK _ _ ?_; clear hK) | (clear hK; refine hK _ ?_; clear hK) | (clear hK; clear hK; refine hK _ ?_; clear hK) | (clear hK; clear hK; clear hK; refine hK _ ?_; clear hK) | (clear hK; clear hK; clear hK; clear hK; refine hK _ ?_; clear hK) | (refine wSeq fun K hK => ?_) | ((first | refine wReg ?_ | refine wDrwQ rfl (by kernel_rfl) ?_ | refine wDrwI ?_ | refine wDrw (by kernel_rfl) ?_); simp only [List.map_cons, List.map_nil, strip]) | ((first | refine wIs fun K hK => ?_ | refine wOs fun K hK => ?_ | refine wQs fun K hK => ?_ | refine CallK_plain ?_ | refine CallQ_plain ?_ | refine CallR_plain ?_ | refine wCond ?_); simp [e0, e1, e5, e6, e7, c6, c7, e157, hi16, hi', hw, hGi, hSi, hz2, hz3]) | (refine wIn ?_; refine And.intro (by kernel_rfl) ?_; try simp only [thenA_n]) | (first | refine wBlock ?_ | refine wScope ?_) | ((first | refine wRet ?_ | refine wExit ?_ | refine wSkip ?_); try simp) | ((first | refine wLabel ?_ | refine wOn ?_ | refine wQn ?_); try simp only [thenA_n]) | (refine CallE.pure (cI) rfl ?_) | (refine CallE.lent (cI) rfl ?_) | (refine CallF.pure (cI) rfl ?_) | (refine CallF.lent (cI) rfl ?_) | (refine CallE.own (cI) ?_) | (refine CallH.pure (cI) rfl ?_) | (refine CallH.lent (cI) rfl ?_) | (refine CallH.own (cI) ?_)
        refine hL2 _ (N2 - 1) (by omega) ⟨i + 1, by omega, ⟨?_, ?_, ?_, ?_, ?_, ?_, ?_, fun j hj => ?_, fun j hj => ?_⟩, ?_⟩
        rotate_left 7
        · have hGj := hG2 j hj
          simp [hGj]
        · have hSj := hS2 j hj
          simp [hSj]
        all_goals simp [e0, e1, e5, e6, e7, c6, c7, e157, hw]
      · have hi' : ¬ (i : Int) < 16 := by omega
        repeat' first | (refine hK _ ?_; clear hK) | (refine hK _ _ ?_; clear hK) | (clear hK; refine hK _ ?_; clear hK) | (clear hK; clear hK; refine hK _ ?_; clear hK) | (clear hK; clear hK; clear hK; refine hK _ ?_; clear hK) | (clear hK; clear hK; clear hK; clear hK; refine hK _ ?_; clear hK) | (refine wSeq fun K hK => ?_) | ((first | refine wReg ?_ | refine wDrwQ rfl (by kernel_rfl) ?_ | refine wDrwI ?_ | refine wDrw (by kernel_rfl) ?_); simp only [List.map_cons, List.map_nil, strip]) | ((first | refine wIs fun K hK => ?_ | refine wOs fun K hK => ?_ | refine wQs fun K hK => ?_ | refine CallK_plain ?_ | refine CallQ_plain ?_ | refine CallR_plain ?_ | refine wCond ?_); simp [e0, e1, e5, e6, e7, c6, c7, e157, hi16, hi', mts, mqs]) | (refine wIn ?_; refine And.intro (by kernel_rfl) ?_; try simp only [thenA_n]) | (first | refine wBlock ?_ | refine wScope ?_) | ((first | refine wRet ?_ | refine wExit ?_ | refine wSkip ?_); try simp) | ((first | refine wLabel ?_ | refine wOn ?_ | refine wQn ?_); try simp only [thenA_n]) | (refine CallE.pure (ca) rfl ?_) | (refine CallE.lent (ca) rfl ?_) | (refine CallF.pure (ca) rfl ?_) | (refine CallF.lent (ca) rfl ?_) | (refine CallE.own (ca) ?_) | (refine CallH.pure (ca) rfl ?_) | (refine CallH.lent (ca) rfl ?_) | (refine CallH.own (ca) ?_)
        all_goals apply hr
        all_goals simp [Try.f4]
    all_goals simp [g0, g1, g5, g6, g7, b6, b7]
  obtain ⟨g0, g1, g5, g6, g7, b6, b7, hG, hS⟩ := hF
  have hlt' : (k : Int) < sends.length := by omega
  have hw := wrapS k _ hlt (by omega)
  have he := prs_get hlt
  generalize hQ : sends[k] = s at *
  obtain ⟨s0, s1⟩ := s
  obtain ⟨a, ha, ha'⟩ := mod4 s0
  obtain ⟨b, hb, hb'⟩ := mod4 s1
  by_cases hab : a = b
  · have hab' := eq_true (show (a : Int) = (b : Int) by omega)
    repeat' first | (refine sufL sends takes k a b G S S L L (by omega) (by omega) ha hb hO.ok hO.len (snd0 L a b k (by omega)) hO.skip ?_ ?_ ⟨⟨?_, ?_, ?_, ?_, ?_, ?_, ?_, fun j hj => ?_, fun j hj => ?_⟩, ?_, ?_, ?_⟩ ?_ ?_ ?_) | (refine hK _ ?_; clear hK) | (refine hK _ _ ?_; clear hK) | (clear hK; refine hK _ ?_; clear hK) | (clear hK; clear hK; refine hK _ ?_; clear hK) | (clear hK; clear hK; clear hK; refine hK _ ?_; clear hK) | (clear hK; clear hK; clear hK; clear hK; refine hK _ ?_; clear hK) | (refine wSeq fun K hK => ?_) | ((first | refine wReg ?_ | refine wDrwQ rfl (by kernel_rfl) ?_ | refine wDrwI ?_ | refine wDrw (by kernel_rfl) ?_); simp only [List.map_cons, List.map_nil, strip]) | ((first | refine wIs fun K hK => ?_ | refine wOs fun K hK => ?_ | refine wQs fun K hK => ?_ | refine CallK_plain ?_ | refine CallQ_plain ?_ | refine CallR_plain ?_ | refine wCond ?_); simp [g0, g1, g5, g6, g7, b6, b7, g30, g31, g32, hlt, hlt', hw, he, hQ, ha', hb', hab']) | (refine wIn ?_; refine And.intro (by kernel_rfl) ?_; try simp only [thenA_n]) | (first | refine wBlock ?_ | refine wScope ?_) | ((first | refine wRet ?_ | refine wExit ?_ | refine wSkip ?_); try simp) | ((first | refine wLabel ?_ | refine wOn ?_ | refine wQn ?_); try simp only [thenA_n])
    rotate_left 9
    · have hGj := hG j hj
      simp [hGj]
    · have hSj := hS j hj
      simp [hSj]
    rotate_right 9
    iterate 2
      · intro st2 G2 L2 hO2 ⟨⟨q0, q1, q5, q6, q7, r6, r7, rG, rS⟩, q30, q31, q32⟩
        simp only [blockA_e, blockA_n, if_true, thenA_n]
        repeat' first | (refine hK _ ?_; clear hK) | (refine hK _ _ ?_; clear hK) | (clear hK; refine hK _ ?_; clear hK) | (clear hK; clear hK; refine hK _ ?_; clear hK) | (clear hK; clear hK; clear hK; refine hK _ ?_; clear hK) | (clear hK; clear hK; clear hK; clear hK; refine hK _ ?_; clear hK) | (refine wSeq fun K hK => ?_) | ((first | refine wReg ?_ | refine wDrwQ rfl (by kernel_rfl) ?_ | refine wDrwI ?_ | refine wDrw (by kernel_rfl) ?_); simp only [List.map_cons, List.map_nil, strip]) | ((first | refine wIs fun K hK => ?_ | refine wOs fun K hK => ?_ | refine wQs fun K hK => ?_ | refine CallK_plain ?_ | refine CallQ_plain ?_ | refine CallR_plain ?_ | refine wCond ?_); simp [q0, q1, q5, q6, q7, r6, r7, q30, q31, q32, hw]) | (refine wIn ?_; refine And.intro (by kernel_rfl) ?_; try simp only [thenA_n]) | (first | refine wBlock ?_ | refine wScope ?_) | ((first | refine wRet ?_ | refine wExit ?_ | refine wSkip ?_); try simp) | ((first | refine wLabel ?_ | refine wOn ?_ | refine wQn ?_); try simp only [thenA_n])
        refine hL _ (N - 1) (by omega) ⟨k + 1, G2, S, L2, by omega, hO2, ⟨?_, ?_, ?_, ?_, ?_, ?_, ?_, fun j hj => ?_, fun j hj => ?_⟩, ?_, ?_, ?_⟩
        rotate_left 7
        · have hGj := rG j hj
          simp [hGj]
        · have hSj := rS j hj
          simp [hSj]
        all_goals simp [q0, q1, q5, q6, q7, r6, r7, q30, q31, q32, hw]
    all_goals simp [g0, g1, g5, g6, g7, b6, b7, g30, g31, g32, ha', hb']
  have hab' := eq_false (show ¬ (a : Int) = (b : Int) by omega)
  have hot : OkT ⟨a, b, k⟩ := ⟨ha, hb, by show k ≤ 1000; omega, hab⟩
  have e1 : IntKind.i64.wrap (4 * (a : Int)) = 4 * (a : Int) := wrap_id (by omega) (by omega)
  have e2 : IntKind.i64.wrap (4 * (a : Int) + (b : Int)) = ((4 * a + b : Nat) : Int) := by rw [wrap_id (by omega) (by omega)]; omega
  have hO3 : Ord G (upd S (4 * a + b) k) (L ++ [⟨a, b, k⟩]) (k + 1) := hO.send hot
  have hs3 : sndL [] (mts L) [] [mO a b k] = (mts (L ++ [⟨a, b, k⟩]), []) := snd1 L ⟨a, b, k⟩ hot (by have := hO.len; omega)
  have hJ : 4 * a + b < 16 := by omega
  generalize 4 * a + b = J at *
  have hSJ := hS J hJ
  have hnl := hO.sl J hJ
  have hzp := nis_snoc (S J) k
  have hJ' : (J : Int) < 16 := by omega
  have hzg := zr_get 300 J hJ
  have hzq := zr_put 300 J hJ
  have hzs := zr_scrO 200 (J + 300) (by omega)
  have hJ15 : J ≤ 15 := by omega
  have hzc : (zr 300).map (scr0 (J + 300) ∘ scr0 9) = (zr 300).map (scr0 (J + 300)) := by rw [← List.map_map, zr_s3 9 (by omega)]
  have hzn : (zr 300).all (nj0 ∘ scr0 9) = true := rfl
  have hzf := zr_bad 300 J hJ
  have hzc2 : (zr 200).map (scr0 (J + 300) ∘ scr0 9) = zr 200 := by rw [← List.map_map, zr_s2 9 (by omega), hzs]
  repeat' first | (refine sufL sends takes k a b G (upd S J k) S L (L ++ [⟨a, b, k⟩]) (by omega) (by omega) ha hb hO.ok hO.len hs3 hO3 ?_ ?_ ⟨⟨?_, ?_, ?_, ?_, ?_, ?_, ?_, fun j hj => ?_, fun j hj => ?_⟩, ?_, ?_, ?_⟩ ?_ ?_ ?_) | (refine And.intro (by (try simp only [nis_len, List.length_cons, List.length_nil]); omega) ?_) | (refine hK _ ?_; clear hK) | (refine hK _ _ ?_; clear hK) | (clear hK; refine hK _ ?_; clear hK) | (clear hK; clear hK; refine hK _ ?_; clear hK) | (clear hK; clear hK; clear hK; refine hK _ ?_; clear hK) | (clear hK; clear hK; clear hK; clear hK; refine hK _ ?_; clear hK) | (refine wSeq fun K hK => ?_) | ((first | refine wReg ?_ | refine wDrwQ rfl (by kernel_rfl) ?_ | refine wDrwI ?_ | refine wDrw (by kernel_rfl) ?_); simp only [List.map_cons, List.map_nil, strip]) | ((first | refine wIs fun K hK => ?_ | refine wOs fun K hK => ?_ | refine wQs fun K hK => ?_ | refine CallK_plain ?_ | refine CallQ_plain ?_ | refine CallR_plain ?_ | refine wCond ?_); simp [g0, g1, g5, g6, g7, b6, b7, g30, g31, g32, hlt, hlt', hw, he, hQ, ha', hb', hab', e1, e2, hSJ, hJ, hJ', hzg, hzq, hzs, hJ15, hzc, hzn, hzf]) | (refine wIn ?_; refine And.intro (by kernel_rfl) ?_; try simp only [thenA_n]) | (first | refine wBlock ?_ | refine wScope ?_) | ((first | refine wRet ?_ | refine wExit ?_ | refine wSkip ?_); try simp) | ((first | refine wLabel ?_ | refine wOn ?_ | refine wQn ?_); try simp only [thenA_n])
  rotate_left 9
  · have h1 : ¬ j = J + 100 := by omega
    have hGj := hG j hj
    simp [h1, hGj]
  · by_cases g : j = J
    · subst g
      simp [upd, hzp]
    · have h1 : ¬ j + 300 = J + 300 := by omega
      have hSj := hS j hj
      simp [upd, g, h1, hSj]
  rotate_right 9
  iterate 2
    · intro st2 G2 L2 hO2 ⟨⟨q0, q1, q5, q6, q7, r6, r7, rG, rS⟩, q30, q31, q32⟩
      simp only [blockA_e, blockA_n, if_true, thenA_n]
      repeat' first | (refine hK _ ?_; clear hK) | (refine hK _ _ ?_; clear hK) | (clear hK; refine hK _ ?_; clear hK) | (clear hK; clear hK; refine hK _ ?_; clear hK) | (clear hK; clear hK; clear hK; refine hK _ ?_; clear hK) | (clear hK; clear hK; clear hK; clear hK; refine hK _ ?_; clear hK) | (refine wSeq fun K hK => ?_) | ((first | refine wReg ?_ | refine wDrwQ rfl (by kernel_rfl) ?_ | refine wDrwI ?_ | refine wDrw (by kernel_rfl) ?_); simp only [List.map_cons, List.map_nil, strip]) | ((first | refine wIs fun K hK => ?_ | refine wOs fun K hK => ?_ | refine wQs fun K hK => ?_ | refine CallK_plain ?_ | refine CallQ_plain ?_ | refine CallR_plain ?_ | refine wCond ?_); simp [q0, q1, q5, q6, q7, r6, r7, q30, q31, q32, hw]) | (refine wIn ?_; refine And.intro (by kernel_rfl) ?_; try simp only [thenA_n]) | (first | refine wBlock ?_ | refine wScope ?_) | ((first | refine wRet ?_ | refine wExit ?_ | refine wSkip ?_); try simp) | ((first | refine wLabel ?_ | refine wOn ?_ | refine wQn ?_); try simp only [thenA_n])
      refine hL _ (N - 1) (by omega) ⟨k + 1, G2, upd S J k, L2, by omega, hO2, ⟨?_, ?_, ?_, ?_, ?_, ?_, ?_, fun j hj => ?_, fun j hj => ?_⟩, ?_, ?_, ?_⟩
      rotate_left 7
      · have hGj := rG j hj
        simp [hGj]
      · have hSj := rS j hj
        simp [hSj]
      all_goals simp [q0, q1, q5, q6, q7, r6, r7, q30, q31, q32, hw]
  all_goals simp [g0, g1, g5, g6, g7, b6, b7, g30, g31, g32, ha', hb', hzq, hzs, hzc, hzc2]
end Go.Proofs.Ytechjohebkcjiaa
