/- Texts that the proof needs: LK4 LF1 LF2 LF3 RD1 RD2. -/
import Derived.Test.YtechjohebkcjiaaP22LinkApart
import Derived.Test.YtechjohebkcjiaaP19LinkApart
/- Messages sent. -/
namespace Go.Proofs.Ytechjohebkcjiaa
set_option linter.unusedSimpArgs false
set_option linter.unusedVariables false
set_option maxRecDepth 8000
open Go Go.Av
attribute [local simp] Try.T1 Try.T2 Try.T3 Try.T4 Try.T5 Try.T9 Try.T12 Try.T15 Try.T16 Try.T17 Try.T21 Try.T22 Try.T23 Try.T24 Try.T25 Try.T27 Try.T29 Try.T30 Try.T31 Try.T32 Try.T33 Try.T35 Try.T37 Try.T38 Try.T40 Try.T41 Try.T42 Try.T44 Try.T45 Try.T47 Try.T49 Try.T51 Try.T53 Try.T54 Try.T55 Try.T56 Try.T57 Try.T58 Try.T59 Try.T60 Try.T61 Try.T62 Try.T63 Try.T64 Try.T66 Try.T67 Try.T68 Try.T69 Try.T70 Try.T72 Try.T74 Try.T76 Try.T77 Try.T78 Try.T79 Try.T80 Try.T81 Try.T82 Try.T83 Try.T84 Try.T85 Try.T87 Try.T88 Try.T89 Try.T90 Try.T91 Try.T92 Try.T93 Try.T94 Try.T96 Try.T97 Try.T98 Try.T99 Try.T100 Try.T101 Try.T102 Try.T103 Try.T104 Try.T105 Try.T106 Try.T107 Try.T108 Try.T109 Try.T110 Try.T111 Try.T113 Try.T114 Try.T115 Try.T116 Try.T117 Try.T118 Try.T119 Try.T120 Try.T121 Try.T122 Try.T123 Try.T124 Try.T125 Try.T126 Try.T127 Try.T128 Try.T129 Try.T130 Try.T133 Try.T136 Try.T137 Try.T140 Try.T141
attribute [local irreducible] Go.Av.CallK Go.Av.CallE Go.Av.CallQ Go.Av.CallF Go.Av.CallR Go.Av.CallH Go.Av.Con
/-- How many go the way of m. -/
def cnt (l : List Mq) (m : Mq) : Nat := (l.filter fun x => decide (x.fr = m.fr ∧ x.to = m.to)).length
theorem cnt_snoc {l : List Mq} {k : Nat} (m : Mq) (h : k < l.length) : cnt (l.take (k + 1)) m = cnt (l.take k) m + if l[k].fr = m.fr ∧ l[k].to = m.to then 1 else 0 := by
  unfold cnt
  rw [filt_snoc _ h]
  by_cases g : l[k].fr = m.fr ∧ l[k].to = m.to
  · rw [if_pos (decide_eq_true g), if_pos g]; simp
  · rw [if_neg (by simpa using g), if_neg g]; simp
theorem cnt_le (l : List Mq) (m : Mq) (k : Nat) : cnt (l.take k) m ≤ k := filt_len l _ k
set_option maxHeartbeats 4000000 in
theorem full_con (l : List Mq) (m : Mq) (hl : l.length ≤ 2000000) : ACon Try.prog 32 [.p (.sl 46 (mqs l)), .p (.agg m.cells)] (.p (B (decide (40 ≤ cnt l m)))) := by
  suffices hall : ∀ D : Bool, (D = true ↔ 40 ≤ cnt l m) → ACon Try.prog 32 [.p (.sl 46 (mqs l)), .p (.agg m.cells)] (.p (B D)) from hall _ decide_eq_true_iff
  intro D hD
  refine wBody Try.tab Try.mixed Try.func32 rfl rfl Try.ntmps32 (by simp) (by simp) fun Q hr hn => ?_
  repeat' first | (refine hK _ ?_; clear hK) | (refine hK _ _ ?_; clear hK) | (clear hK; refine hK _ ?_; clear hK) | (clear hK; clear hK; refine hK _ ?_; clear hK) | (clear hK; clear hK; clear hK; refine hK _ ?_; clear hK) | (clear hK; clear hK; clear hK; clear hK; refine hK _ ?_; clear hK) | (refine wSeq fun K hK => ?_) | ((first | refine wReg ?_ | refine wDrwQ rfl (by kernel_rfl) ?_ | refine wDrwI ?_ | refine wDrw (by kernel_rfl) ?_); simp only [List.map_cons, List.map_nil, strip]) | ((first | refine wIs fun K hK => ?_ | refine wOs fun K hK => ?_ | refine wQs fun K hK => ?_ | refine CallK_plain ?_ | refine CallQ_plain ?_ | refine CallR_plain ?_ | refine wCond ?_); simp) | (refine wIn ?_; refine And.intro (by kernel_rfl) ?_; try simp only [thenA_n]) | (first | refine wBlock ?_ | refine wScope ?_) | ((first | refine wRet ?_ | refine wExit ?_ | refine wSkip ?_); try simp) | ((first | refine wLabel ?_ | refine wOn ?_ | refine wQn ?_); try simp only [thenA_n])
  refine wLoop (fun N st => ∃ k, k + N = l.length ∧ st.s 0 = .p (.sl 46 (mqs l)) ∧ st.s 3 = .ptr 3 0 ∧ st.b 3 = some (.box 51 (m.cells.map V.p)) ∧ st.s 5 = .p (I (cnt (l.take k) m : Nat)) ∧ st.s 7 = .p (.sl 46 (mqs l)) ∧ st.s 8 = .p (I l.length) ∧ st.s 9 = .p (I k)) l.length ⟨0, by simp [cnt]⟩ fun K N st hL ⟨k, hk, g0, g3, b3, g5, g7, g8, g9⟩ => ?_
  have hcl := cnt_le l m k
  by_cases hlt : k < l.length
  · have hlt' : (k : Int) < l.length := by omega
    have hw := wrapS k _ hlt (by omega)
    have he := mqs_get hlt
    have hs := cnt_snoc m hlt
    generalize cnt (l.take k) m = C at *
    generalize hQ : l[k] = x at *
    by_cases h1 : x.fr = m.fr
    · by_cases h2 : x.to = m.to
      · rw [if_pos ⟨h1, h2⟩] at hs
        have hwC : IntKind.i64.wrap ((C : Int) + 1) = ((C + 1 : Nat) : Int) := by rw [wrap_id (by omega) (by omega)]; omega
        have h1' := eq_true h1
        have h2' := eq_true h2
        repeat' first | (refine hK _ ?_; clear hK) | (refine hK _ _ ?_; clear hK) | (clear hK; refine hK _ ?_; clear hK) | (clear hK; clear hK; refine hK _ ?_; clear hK) | (clear hK; clear hK; clear hK; refine hK _ ?_; clear hK) | (clear hK; clear hK; clear hK; clear hK; refine hK _ ?_; clear hK) | (refine wSeq fun K hK => ?_) | ((first | refine wReg ?_ | refine wDrwQ rfl (by kernel_rfl) ?_ | refine wDrwI ?_ | refine wDrw (by kernel_rfl) ?_); simp only [List.map_cons, List.map_nil, strip]) | ((first | refine wIs fun K hK => ?_ | refine wOs fun K hK => ?_ | refine wQs fun K hK => ?_ | refine CallK_plain ?_ | refine CallQ_plain ?_ | refine CallR_plain ?_ | refine wCond ?_); simp [g0, g3, b3, g5, g7, g8, g9, hlt, hlt', hw, he, hQ, h1', h2', hwC]) | (refine wIn ?_; refine And.intro (by kernel_rfl) ?_; try simp only [thenA_n]) | (first | refine wBlock ?_ | refine wScope ?_) | ((first | refine wRet ?_ | refine wExit ?_ | refine wSkip ?_); try simp) | ((first | refine wLabel ?_ | refine wOn ?_ | refine wQn ?_); try simp only [thenA_n])
        refine hL _ (N - 1) (by omega) ⟨k + 1, by omega, ?_⟩
        simp [g0, g3, b3, g5, g7, g8, g9, hw, hs, hwC]
      · rw [if_neg fun h => h2 h.2] at hs
        have h1' := eq_true h1
        have h2' := eq_false h2
        repeat' first | (refine hK _ ?_; clear hK) | (refine hK _ _ ?_; clear hK) | (clear hK; refine hK _ ?_; clear hK) | (clear hK; clear hK; refine hK _ ?_; clear hK) | (clear hK; clear hK; clear hK; refine hK _ ?_; clear hK) | (clear hK; clear hK; clear hK; clear hK; refine hK _ ?_; clear hK) | (refine wSeq fun K hK => ?_) | ((first | refine wReg ?_ | refine wDrwQ rfl (by kernel_rfl) ?_ | refine wDrwI ?_ | refine wDrw (by kernel_rfl) ?_); simp only [List.map_cons, List.map_nil, strip]) | ((first | refine wIs fun K hK => ?_ | refine wOs fun K hK => ?_ | refine wQs fun K hK => ?_ | refine CallK_plain ?_ | refine CallQ_plain ?_ | refine CallR_plain ?_ | refine wCond ?_); simp [g0, g3, b3, g5, g7, g8, g9, hlt, hlt', hw, he, hQ, h1', h2']) | (refine wIn ?_; refine And.intro (by kernel_rfl) ?_; try simp only [thenA_n]) | (first | refine wBlock ?_ | refine wScope ?_) | ((first | refine wRet ?_ | refine wExit ?_ | refine wSkip ?_); try simp) | ((first | refine wLabel ?_ | refine wOn ?_ | refine wQn ?_); try simp only [thenA_n])
        refine hL _ (N - 1) (by omega) ⟨k + 1, by omega, ?_⟩
        simp [g0, g3, b3, g5, g7, g8, g9, hw, hs]
    · rw [if_neg fun h => h1 h.1] at hs
      have h1' := eq_false h1
      repeat' first | (refine hK _ ?_; clear hK) | (refine hK _ _ ?_; clear hK) | (clear hK; refine hK _ ?_; clear hK) | (clear hK; clear hK; refine hK _ ?_; clear hK) | (clear hK; clear hK; clear hK; refine hK _ ?_; clear hK) | (clear hK; clear hK; clear hK; clear hK; refine hK _ ?_; clear hK) | (refine wSeq fun K hK => ?_) | ((first | refine wReg ?_ | refine wDrwQ rfl (by kernel_rfl) ?_ | refine wDrwI ?_ | refine wDrw (by kernel_rfl) ?_); simp only [List.map_cons, List.map_nil, strip]) | ((first | refine wIs fun K hK => ?_ | refine wOs fun K hK => ?_ | refine wQs fun K hK => ?_ | refine CallK_plain ?_ | refine CallQ_plain ?_ | refine CallR_plain ?_ | refine wCond ?_); simp [g0, g3, b3, g5, g7, g8, g9, hlt, hlt', hw, he, hQ, h1']) | (refine wIn ?_; refine And.intro (by kernel_rfl) ?_; try simp only [thenA_n]) | (first | refine wBlock ?_ | refine wScope ?_) | ((first | refine wRet ?_ | refine wExit ?_ | refine wSkip ?_); try simp) | ((first | refine wLabel ?_ | refine wOn ?_ | refine wQn ?_); try simp only [thenA_n])
      refine hL _ (N - 1) (by omega) ⟨k + 1, by omega, ?_⟩
      simp [g0, g3, b3, g5, g7, g8, g9, hw, hs]
  · have hlt' : ¬ (k : Int) < l.length := by omega
    rw [List.take_of_length_le (by omega)] at g5
    by_cases h40 : 40 ≤ cnt l m
    · have h40' : (40 : Int) ≤ (cnt l m : Int) := by omega
      rw [hD.2 h40] at hr
      generalize cnt l m = C at *
      repeat' first | (refine hK _ ?_; clear hK) | (refine hK _ _ ?_; clear hK) | (clear hK; refine hK _ ?_; clear hK) | (clear hK; clear hK; refine hK _ ?_; clear hK) | (clear hK; clear hK; clear hK; refine hK _ ?_; clear hK) | (clear hK; clear hK; clear hK; clear hK; refine hK _ ?_; clear hK) | (refine wSeq fun K hK => ?_) | ((first | refine wReg ?_ | refine wDrwQ rfl (by kernel_rfl) ?_ | refine wDrwI ?_ | refine wDrw (by kernel_rfl) ?_); simp only [List.map_cons, List.map_nil, strip]) | ((first | refine wIs fun K hK => ?_ | refine wOs fun K hK => ?_ | refine wQs fun K hK => ?_ | refine CallK_plain ?_ | refine CallQ_plain ?_ | refine CallR_plain ?_ | refine wCond ?_); simp [g0, g3, b3, g5, g7, g8, g9, hlt, hlt', h40, h40']) | (refine wIn ?_; refine And.intro (by kernel_rfl) ?_; try simp only [thenA_n]) | (first | refine wBlock ?_ | refine wScope ?_) | ((first | refine wRet ?_ | refine wExit ?_ | refine wSkip ?_); try simp) | ((first | refine wLabel ?_ | refine wOn ?_ | refine wQn ?_); try simp only [thenA_n])
      all_goals apply hr
      all_goals simp [Try.f32, g5, h40, h40']
    · have h40' : ¬ (40 : Int) ≤ (cnt l m : Int) := by omega
      rw [show D = false from Bool.eq_false_iff.2 fun h => h40 (hD.1 h)] at hr
      generalize cnt l m = C at *
      repeat' first | (refine hK _ ?_; clear hK) | (refine hK _ _ ?_; clear hK) | (clear hK; refine hK _ ?_; clear hK) | (clear hK; clear hK; refine hK _ ?_; clear hK) | (clear hK; clear hK; clear hK; refine hK _ ?_; clear hK) | (clear hK; clear hK; clear hK; clear hK; refine hK _ ?_; clear hK) | (refine wSeq fun K hK => ?_) | ((first | refine wReg ?_ | refine wDrwQ rfl (by kernel_rfl) ?_ | refine wDrwI ?_ | refine wDrw (by kernel_rfl) ?_); simp only [List.map_cons, List.map_nil, strip]) | ((first | refine wIs fun K hK => ?_ | refine wOs fun K hK => ?_ | refine wQs fun K hK => ?_ | refine CallK_plain ?_ | refine CallQ_plain ?_ | refine CallR_plain ?_ | refine wCond ?_); simp [g0, g3, b3, g5, g7, g8, g9, hlt, hlt', h40, h40']) | (refine wIn ?_; refine And.intro (by kernel_rfl) ?_; try simp only [thenA_n]) | (first | refine wBlock ?_ | refine wScope ?_) | ((first | refine wRet ?_ | refine wExit ?_ | refine wSkip ?_); try simp) | ((first | refine wLabel ?_ | refine wOn ?_ | refine wQn ?_); try simp only [thenA_n])
      all_goals apply hr
      all_goals simp [Try.f32, g5, h40, h40']
/-- What is on its way, and what is lost, behind each message sent. -/
def sndL (cut : List Pr) (way : List Mq) (lost : List Pr) : List Mq → List Mq × List Pr
  | [] => (way, lost)
  | m :: more =>
    if m.fr = m.to ∨ two m.fr m.to ∈ cut ∨ two m.fr m.to ∈ lost then sndL cut way lost more
    else if 40 ≤ cnt way m then sndL cut (way.filter fun x => !decide (two x.fr x.to = two m.fr m.to)) (lost ++ [two m.fr m.to]) more
    else sndL cut (way ++ [m]) lost more
set_option maxHeartbeats 16000000 in
theorem send_con (l more : List Mq) (cut : List Pr) (ho : ∀ m ∈ l, OkM m) (hm : ∀ m ∈ more, OkM m) (hl : l.length + more.length ≤ 1048576) : ACon Try.prog 19 [.p (.sl 46 (mqs l)), .p (.sl 46 (mqs more)), .p (.sl 2 (prs cut))] (.tup [.p (.sl 46 (mqs (sndL cut l [] more).1)), .p (.sl 2 (prs (sndL cut l [] more).2))]) := by
  have cC := clnMs (mqs l) (by simp; omega)
  refine wBody Try.tab Try.mixed Try.func19 rfl rfl Try.ntmps19 (by simp) (by simp) fun Q hr hn => ?_
  repeat' first | (refine hK _ ?_; clear hK) | (refine hK _ _ ?_; clear hK) | (clear hK; refine hK _ ?_; clear hK) | (clear hK; clear hK; refine hK _ ?_; clear hK) | (clear hK; clear hK; clear hK; refine hK _ ?_; clear hK) | (clear hK; clear hK; clear hK; clear hK; refine hK _ ?_; clear hK) | (refine wSeq fun K hK => ?_) | ((first | refine wReg ?_ | refine wDrwQ rfl (by kernel_rfl) ?_ | refine wDrwI ?_ | refine wDrw (by kernel_rfl) ?_); simp only [List.map_cons, List.map_nil, strip]) | ((first | refine wIs fun K hK => ?_ | refine wOs fun K hK => ?_ | refine wQs fun K hK => ?_ | refine CallK_plain ?_ | refine CallQ_plain ?_ | refine CallR_plain ?_ | refine wCond ?_); simp) | (refine wIn ?_; refine And.intro (by kernel_rfl) ?_; try simp only [thenA_n]) | (first | refine wBlock ?_ | refine wScope ?_) | ((first | refine wRet ?_ | refine wExit ?_ | refine wSkip ?_); try simp) | ((first | refine wLabel ?_ | refine wOn ?_ | refine wQn ?_); try simp only [thenA_n]) | (refine CallE.pure (cC) rfl ?_) | (refine CallE.lent (cC) rfl ?_) | (refine CallF.pure (cC) rfl ?_) | (refine CallF.lent (cC) rfl ?_) | (refine CallE.own (cC) ?_) | (refine CallH.pure (cC) rfl ?_) | (refine CallH.lent (cC) rfl ?_) | (refine CallH.own (cC) ?_)
  refine wLoopG [.row 9 87 2] (fun N st => ∃ k way lost, k + N = more.length ∧ way.length ≤ l.length + k ∧ lost.length ≤ k ∧ (∀ m ∈ way, OkM m) ∧ sndL cut way lost (more.drop k) = sndL cut l [] more ∧ st.s 2 = .p (.sl 2 (prs cut)) ∧ st.s 8 = .row 13 ∧ st.b 13 = some (.row 51 46 (mqs way)) ∧ st.s 9 = .row 9 ∧ st.b 9 = some (.row 87 2 (prs lost)) ∧ st.s 14 = .p (.sl 46 (mqs more)) ∧ st.s 15 = .p (I more.length) ∧ st.s 16 = .p (I k)) more.length ⟨0, l, [], by omega, by omega, by simp, ho, rfl, by simp [prs]⟩ fun K N st hL ⟨k, way, lost, hk, hwl, hll, hok, hrun, g2, g8, b13, g9, b9, g14, g15, g16⟩ => ?_
  by_cases hlt : k < more.length
  case neg =>
    have hlt' : ¬ (k : Int) < more.length := by omega
    rw [List.drop_of_length_le (by omega)] at hrun
    rw [← hrun] at hr
    dsimp only [sndL] at hr
    have cO := olMs way hok (by omega)
    have f2 : (Av.frz st 13 46 (mqs way)).s 2 = .p (.sl 2 (prs cut)) := by simp [Av.frz, sub, sub0, g2]
    have f8 : (Av.frz st 13 46 (mqs way)).s 8 = .p (.sl 46 (mqs way)) := by simp [Av.frz, sub, sub0, g8]
    have f9 : (Av.frz st 13 46 (mqs way)).s 9 = .row 9 := by simp [Av.frz, sub, sub0, g9]
    have fb9 : (Av.frz st 13 46 (mqs way)).b 9 = some (.row 87 2 (prs lost)) := by simp [Av.frz, sub, sub0, subB, b9]
    have f14 : (Av.frz st 13 46 (mqs way)).s 14 = .p (.sl 46 (mqs more)) := by simp [Av.frz, sub, sub0, g14]
    have f15 : (Av.frz st 13 46 (mqs way)).s 15 = .p (I more.length) := by simp [Av.frz, sub, sub0, g15]
    have f16 : (Av.frz st 13 46 (mqs way)).s 16 = .p (I k) := by simp [Av.frz, sub, sub0, g16]
    repeat' first | (refine wFrzR 13 (mqs way) b13 ?_; generalize Av.frz st 13 46 (mqs way) = st2 at f2 f8 f9 fb9 f14 f15 f16 ⊢; clear g2 g8 b13 g9 b9 g14 g15 g16) | (refine hK _ ?_; clear hK) | (refine hK _ _ ?_; clear hK) | (clear hK; refine hK _ ?_; clear hK) | (clear hK; clear hK; refine hK _ ?_; clear hK) | (clear hK; clear hK; clear hK; refine hK _ ?_; clear hK) | (clear hK; clear hK; clear hK; clear hK; refine hK _ ?_; clear hK) | (refine wSeq fun K hK => ?_) | ((first | refine wReg ?_ | refine wDrwQ rfl (by kernel_rfl) ?_ | refine wDrwI ?_ | refine wDrw (by kernel_rfl) ?_); simp only [List.map_cons, List.map_nil, strip]) | ((first | refine wIs fun K hK => ?_ | refine wOs fun K hK => ?_ | refine wQs fun K hK => ?_ | refine CallK_plain ?_ | refine CallQ_plain ?_ | refine CallR_plain ?_ | refine wCond ?_); simp [f2, f8, f9, fb9, f14, f15, f16, hlt, hlt']) | (refine wIn ?_; refine And.intro (by kernel_rfl) ?_; try simp only [thenA_n]) | (first | refine wBlock ?_ | refine wScope ?_) | ((first | refine wRet ?_ | refine wExit ?_ | refine wSkip ?_); try simp) | ((first | refine wLabel ?_ | refine wOn ?_ | refine wQn ?_); try simp only [thenA_n]) | (refine CallE.pure (cO) rfl ?_) | (refine CallE.lent (cO) rfl ?_) | (refine CallF.pure (cO) rfl ?_) | (refine CallF.lent (cO) rfl ?_) | (refine CallE.own (cO) ?_) | (refine CallH.pure (cO) rfl ?_) | (refine CallH.lent (cO) rfl ?_) | (refine CallH.own (cO) ?_)
    all_goals apply hr
    all_goals simp [Try.f19, f9, fb9]
  have hlt' : (k : Int) < more.length := by omega
  have hw := wrapS k _ hlt (by omega)
  have he := mqs_get hlt
  rw [List.drop_eq_getElem_cons hlt, sndL] at hrun
  have hmk := hm _ (List.getElem_mem hlt)
  generalize hQ : more[k] = m at *
  have cH1 := has_con cut m.fr m.to
  have cH2 := has_con lost m.fr m.to
  have cF := full_con way m (by omega)
  have cT := two_con m.fr m.to
  have cA := apart_con m.fr m.to
  have hx := prs_snoc lost (two m.fr m.to)
  have hy := mqs_snoc way m
  generalize hp : two m.fr m.to = p at *
  by_cases h1 : m.fr = m.to
  · have h1' := eq_true h1
    rw [if_pos (.inl h1)] at hrun
    clear cH1 cH2 cF cT cA
    repeat' first | (refine hK _ ?_; clear hK) | (refine hK _ _ ?_; clear hK) | (clear hK; refine hK _ ?_; clear hK) | (clear hK; clear hK; refine hK _ ?_; clear hK) | (clear hK; clear hK; clear hK; refine hK _ ?_; clear hK) | (clear hK; clear hK; clear hK; clear hK; refine hK _ ?_; clear hK) | (refine wSeq fun K hK => ?_) | ((first | refine wReg ?_ | refine wDrwQ rfl (by kernel_rfl) ?_ | refine wDrwI ?_ | refine wDrw (by kernel_rfl) ?_); simp only [List.map_cons, List.map_nil, strip]) | ((first | refine wIs fun K hK => ?_ | refine wOs fun K hK => ?_ | refine wQs fun K hK => ?_ | refine CallK_plain ?_ | refine CallQ_plain ?_ | refine CallR_plain ?_ | refine wCond ?_); simp [g2, g8, b13, g9, b9, g14, g15, g16, hlt, hlt', hw, he, hQ, h1']) | (refine wIn ?_; refine And.intro (by kernel_rfl) ?_; try simp only [thenA_n]) | (first | refine wBlock ?_ | refine wScope ?_) | ((first | refine wRet ?_ | refine wExit ?_ | refine wSkip ?_); try simp) | ((first | refine wLabel ?_ | refine wOn ?_ | refine wQn ?_); try simp only [thenA_n])
    refine hL _ (N - 1) (by omega) ⟨k + 1, way, lost, by omega, by omega, by omega, hok, hrun, ?_⟩
    simp [g2, g8, b13, g9, b9, g14, g15, g16, hw]
  have h1' := eq_false h1
  by_cases h2 : p ∈ cut
  · rw [decide_eq_true h2] at cH1
    rw [if_pos (.inr (.inl h2))] at hrun
    clear cH2 cF cT cA
    repeat' first | (refine hK _ ?_; clear hK) | (refine hK _ _ ?_; clear hK) | (clear hK; refine hK _ ?_; clear hK) | (clear hK; clear hK; refine hK _ ?_; clear hK) | (clear hK; clear hK; clear hK; refine hK _ ?_; clear hK) | (clear hK; clear hK; clear hK; clear hK; refine hK _ ?_; clear hK) | (refine wSeq fun K hK => ?_) | ((first | refine wReg ?_ | refine wDrwQ rfl (by kernel_rfl) ?_ | refine wDrwI ?_ | refine wDrw (by kernel_rfl) ?_); simp only [List.map_cons, List.map_nil, strip]) | ((first | refine wIs fun K hK => ?_ | refine wOs fun K hK => ?_ | refine wQs fun K hK => ?_ | refine CallK_plain ?_ | refine CallQ_plain ?_ | refine CallR_plain ?_ | refine wCond ?_); simp [g2, g8, b13, g9, b9, g14, g15, g16, hlt, hlt', hw, he, hQ, h1']) | (refine wIn ?_; refine And.intro (by kernel_rfl) ?_; try simp only [thenA_n]) | (first | refine wBlock ?_ | refine wScope ?_) | ((first | refine wRet ?_ | refine wExit ?_ | refine wSkip ?_); try simp) | ((first | refine wLabel ?_ | refine wOn ?_ | refine wQn ?_); try simp only [thenA_n]) | (refine CallE.pure (cH1) rfl ?_) | (refine CallE.lent (cH1) rfl ?_) | (refine CallF.pure (cH1) rfl ?_) | (refine CallF.lent (cH1) rfl ?_) | (refine CallE.own (cH1) ?_) | (refine CallH.pure (cH1) rfl ?_) | (refine CallH.lent (cH1) rfl ?_) | (refine CallH.own (cH1) ?_)
    refine hL _ (N - 1) (by omega) ⟨k + 1, way, lost, by omega, by omega, by omega, hok, hrun, ?_⟩
    simp [g2, g8, b13, g9, b9, g14, g15, g16, hw]
  rw [decide_eq_false h2] at cH1
  by_cases h3 : p ∈ lost
  · rw [decide_eq_true h3] at cH2
    rw [if_pos (.inr (.inr h3))] at hrun
    clear cF cT cA
    repeat' first | (refine hK _ ?_; clear hK) | (refine hK _ _ ?_; clear hK) | (clear hK; refine hK _ ?_; clear hK) | (clear hK; clear hK; refine hK _ ?_; clear hK) | (clear hK; clear hK; clear hK; refine hK _ ?_; clear hK) | (clear hK; clear hK; clear hK; clear hK; refine hK _ ?_; clear hK) | (refine wSeq fun K hK => ?_) | ((first | refine wReg ?_ | refine wDrwQ rfl (by kernel_rfl) ?_ | refine wDrwI ?_ | refine wDrw (by kernel_rfl) ?_); simp only [List.map_cons, List.map_nil, strip]) | ((first | refine wIs fun K hK => ?_ | refine wOs fun K hK => ?_ | refine wQs fun K hK => ?_ | refine CallK_plain ?_ | refine CallQ_plain ?_ | refine CallR_plain ?_ | refine wCond ?_); simp [g2, g8, b13, g9, b9, g14, g15, g16, hlt, hlt', hw, he, hQ, h1']) | (refine wIn ?_; refine And.intro (by kernel_rfl) ?_; try simp only [thenA_n]) | (first | refine wBlock ?_ | refine wScope ?_) | ((first | refine wRet ?_ | refine wExit ?_ | refine wSkip ?_); try simp) | ((first | refine wLabel ?_ | refine wOn ?_ | refine wQn ?_); try simp only [thenA_n]) | (refine CallE.pure (cH1) rfl ?_) | (refine CallE.lent (cH1) rfl ?_) | (refine CallF.pure (cH1) rfl ?_) | (refine CallF.lent (cH1) rfl ?_) | (refine CallE.own (cH1) ?_) | (refine CallH.pure (cH1) rfl ?_) | (refine CallH.lent (cH1) rfl ?_) | (refine CallH.own (cH1) ?_) | (refine CallE.pure (cH2) rfl ?_) | (refine CallE.lent (cH2) rfl ?_) | (refine CallF.pure (cH2) rfl ?_) | (refine CallF.lent (cH2) rfl ?_) | (refine CallE.own (cH2) ?_) | (refine CallH.pure (cH2) rfl ?_) | (refine CallH.lent (cH2) rfl ?_) | (refine CallH.own (cH2) ?_)
    refine hL _ (N - 1) (by omega) ⟨k + 1, way, lost, by omega, by omega, by omega, hok, hrun, ?_⟩
    simp [g2, g8, b13, g9, b9, g14, g15, g16, hw]
  rw [decide_eq_false h3] at cH2
  rw [if_neg (by rintro (h | h | h); exact h1 h; exact h2 h; exact h3 h)] at hrun
  by_cases h4 : 40 ≤ cnt way m
  · rw [decide_eq_true h4] at cF
    rw [if_pos h4] at hrun
    obtain ⟨p0, p1⟩ := p
    have cS := sifted_con 48 (.box 87 [.p (I p0), .p (I p1)]) ⟨_, [p0, p1], rfl⟩ (fun m => !decide (two m.fr m.to = ⟨p0, p1⟩)) (fun m => apart1_con m p0 p1) way (by omega)
    have hfl : (way.filter fun m => !decide (two m.fr m.to = ⟨p0, p1⟩)).length ≤ way.length := List.length_filter_le _ _
    have hfo : ∀ x ∈ way.filter (fun m => !decide (two m.fr m.to = ⟨p0, p1⟩)), OkM x := fun x hx => hok x (List.mem_filter.1 hx).1
    generalize way.filter (fun m => !decide (two m.fr m.to = ⟨p0, p1⟩)) = way2 at *
    simp only [] at hx cA cT
    have f2 : (Av.frz st 13 46 (mqs way)).s 2 = .p (.sl 2 (prs cut)) := by simp [Av.frz, sub, sub0, g2]
    have f8 : (Av.frz st 13 46 (mqs way)).s 8 = .p (.sl 46 (mqs way)) := by simp [Av.frz, sub, sub0, g8]
    have f9 : (Av.frz st 13 46 (mqs way)).s 9 = .row 9 := by simp [Av.frz, sub, sub0, g9]
    have fb9 : (Av.frz st 13 46 (mqs way)).b 9 = some (.row 87 2 (prs lost)) := by simp [Av.frz, sub, sub0, subB, b9]
    have f14 : (Av.frz st 13 46 (mqs way)).s 14 = .p (.sl 46 (mqs more)) := by simp [Av.frz, sub, sub0, g14]
    have f15 : (Av.frz st 13 46 (mqs way)).s 15 = .p (I more.length) := by simp [Av.frz, sub, sub0, g15]
    have f16 : (Av.frz st 13 46 (mqs way)).s 16 = .p (I k) := by simp [Av.frz, sub, sub0, g16]
    repeat' first | (refine wFrzR 13 (mqs way) b13 ?_; generalize Av.frz st 13 46 (mqs way) = st2 at f2 f8 f9 fb9 f14 f15 f16 ⊢; clear g2 g8 b13 g9 b9 g14 g15 g16) | (refine CallK_gen [] (cA) (by decide) (by decide) (by simp [blksOf]) (by simp [argsG, argG, ren0, inN, pos, renCs, renC, toP, toPF]) ⟨[500], by simp, by simp, ?_⟩; simp [lv, ouN, kpI, kpR, pos, ren, ren0, renB, renC, renCs, renF, renFs]) | (refine CallK_gen [500] (cS) (by decide) (by decide) (by simp [blksOf, inN, pos, renB, renC, renCs, ren0, lv, ouN, kpI, kpR]) (by simp [argsG, argG, ren0, inN, pos, renCs, renC]) ⟨[13], by simp, by simp, ?_⟩; simp [lv, ouN, kpI, kpR, pos, ren, ren0, renB, renC, renCs, renF, renFs]) | (refine And.intro (by (try simp only [prs_len, List.length_cons, List.length_nil]); omega) ?_) | (refine hK _ ?_; clear hK) | (refine hK _ _ ?_; clear hK) | (clear hK; refine hK _ ?_; clear hK) | (clear hK; clear hK; refine hK _ ?_; clear hK) | (clear hK; clear hK; clear hK; refine hK _ ?_; clear hK) | (clear hK; clear hK; clear hK; clear hK; refine hK _ ?_; clear hK) | (refine wSeq fun K hK => ?_) | ((first | refine wReg ?_ | refine wDrwQ rfl (by kernel_rfl) ?_ | refine wDrwI ?_ | refine wDrw (by kernel_rfl) ?_); simp only [List.map_cons, List.map_nil, strip]) | ((first | refine wIs fun K hK => ?_ | refine wOs fun K hK => ?_ | refine wQs fun K hK => ?_ | refine CallK_plain ?_ | refine CallQ_plain ?_ | refine CallR_plain ?_ | refine wCond ?_); simp [f2, f8, f9, fb9, f14, f15, f16, hlt, hlt', hw, he, hQ, h1']) | (refine wIn ?_; refine And.intro (by kernel_rfl) ?_; try simp only [thenA_n]) | (first | refine wBlock ?_ | refine wScope ?_) | ((first | refine wRet ?_ | refine wExit ?_ | refine wSkip ?_); try simp) | ((first | refine wLabel ?_ | refine wOn ?_ | refine wQn ?_); try simp only [thenA_n]) | (refine CallE.pure (cH1) rfl ?_) | (refine CallE.lent (cH1) rfl ?_) | (refine CallF.pure (cH1) rfl ?_) | (refine CallF.lent (cH1) rfl ?_) | (refine CallE.own (cH1) ?_) | (refine CallH.pure (cH1) rfl ?_) | (refine CallH.lent (cH1) rfl ?_) | (refine CallH.own (cH1) ?_) | (refine CallE.pure (cH2) rfl ?_) | (refine CallE.lent (cH2) rfl ?_) | (refine CallF.pure (cH2) rfl ?_) | (refine CallF.lent (cH2) rfl ?_) | (refine CallE.own (cH2) ?_) | (refine CallH.pure (cH2) rfl ?_) | (refine CallH.lent (cH2) rfl ?_) | (refine CallH.own (cH2) ?_) | (refine CallE.pure (cF) rfl ?_) | (refine CallE.lent (cF) rfl ?_) | (refine CallF.pure (cF) rfl ?_) | (refine CallF.lent (cF) rfl ?_) | (refine CallE.own (cF) ?_) | (refine CallH.pure (cF) rfl ?_) | (refine CallH.lent (cF) rfl ?_) | (refine CallH.own (cF) ?_) | (refine CallE.pure (cT) rfl ?_) | (refine CallE.lent (cT) rfl ?_) | (refine CallF.pure (cT) rfl ?_) | (refine CallF.lent (cT) rfl ?_) | (refine CallE.own (cT) ?_) | (refine CallH.pure (cT) rfl ?_) | (refine CallH.lent (cT) rfl ?_) | (refine CallH.own (cT) ?_)
    refine hL _ (N - 1) (by omega) ⟨k + 1, way2, lost ++ [⟨p0, p1⟩], by omega, by omega, by simp; omega, hfo, hrun, ?_⟩
    simp [f2, f8, f9, fb9, f14, f15, f16, hw, hx, lv, ouN, kpI, kpR, pos, ren, ren0, renB, renC, renCs]
  · rw [decide_eq_false h4] at cF
    rw [if_neg h4] at hrun
    clear cT cA
    repeat' first | (refine And.intro (by (try simp only [mqs_len, List.length_cons, List.length_nil]); omega) ?_) | (refine hK _ ?_; clear hK) | (refine hK _ _ ?_; clear hK) | (clear hK; refine hK _ ?_; clear hK) | (clear hK; clear hK; refine hK _ ?_; clear hK) | (clear hK; clear hK; clear hK; refine hK _ ?_; clear hK) | (clear hK; clear hK; clear hK; clear hK; refine hK _ ?_; clear hK) | (refine wSeq fun K hK => ?_) | ((first | refine wReg ?_ | refine wDrwQ rfl (by kernel_rfl) ?_ | refine wDrwI ?_ | refine wDrw (by kernel_rfl) ?_); simp only [List.map_cons, List.map_nil, strip]) | ((first | refine wIs fun K hK => ?_ | refine wOs fun K hK => ?_ | refine wQs fun K hK => ?_ | refine CallK_plain ?_ | refine CallQ_plain ?_ | refine CallR_plain ?_ | refine wCond ?_); simp [g2, g8, b13, g9, b9, g14, g15, g16, hlt, hlt', hw, he, hQ, h1']) | (refine wIn ?_; refine And.intro (by kernel_rfl) ?_; try simp only [thenA_n]) | (first | refine wBlock ?_ | refine wScope ?_) | ((first | refine wRet ?_ | refine wExit ?_ | refine wSkip ?_); try simp) | ((first | refine wLabel ?_ | refine wOn ?_ | refine wQn ?_); try simp only [thenA_n]) | (refine CallE.pure (cH1) rfl ?_) | (refine CallE.lent (cH1) rfl ?_) | (refine CallF.pure (cH1) rfl ?_) | (refine CallF.lent (cH1) rfl ?_) | (refine CallE.own (cH1) ?_) | (refine CallH.pure (cH1) rfl ?_) | (refine CallH.lent (cH1) rfl ?_) | (refine CallH.own (cH1) ?_) | (refine CallE.pure (cH2) rfl ?_) | (refine CallE.lent (cH2) rfl ?_) | (refine CallF.pure (cH2) rfl ?_) | (refine CallF.lent (cH2) rfl ?_) | (refine CallE.own (cH2) ?_) | (refine CallH.pure (cH2) rfl ?_) | (refine CallH.lent (cH2) rfl ?_) | (refine CallH.own (cH2) ?_) | (refine CallE.pure (cF) rfl ?_) | (refine CallE.lent (cF) rfl ?_) | (refine CallF.pure (cF) rfl ?_) | (refine CallF.lent (cF) rfl ?_) | (refine CallE.own (cF) ?_) | (refine CallH.pure (cF) rfl ?_) | (refine CallH.lent (cF) rfl ?_) | (refine CallH.own (cF) ?_)
    refine hL _ (N - 1) (by omega) ⟨k + 1, way ++ [m], lost, by omega, by simp; omega, by omega, fun x hx => ?_, hrun, ?_⟩
    · rcases List.mem_append.1 hx with h | h
      · exact hok x h
      · rw [List.mem_singleton] at h; subst h; exact hmk
    · simp [g2, g8, b13, g9, b9, g14, g15, g16, hw, hy]
end Go.Proofs.Ytechjohebkcjiaa
/- Messages: which the laws let pass, by weight; how many bytes these are at most. -/
namespace Go.Proofs.Ytechjohebkcjiaa
set_option linter.unusedSimpArgs false
set_option linter.unusedVariables false
set_option maxRecDepth 8000
open Go Go.Av
def at' (r : List PV) (i : Nat) : PV := (r[i]?).getD (I 0)
theorem at_of {r : List PV} {i : Nat} {p : PV} (h : r[i]? = some p) : at' r i = p := by unfold at'; rw [h]; rfl
def w5Pt (q : List PV) : Nat := lenP (at' q 10) + (lenP (at' q 1) + lenP (at' q 2)) / 20
def w5Tx (t : List PV) : Nat := lenP (at' t 7) + lenP (at' t 6) / 20 + ((rowsP (at' t 7)).map w5Pt).sum
def w5Nd (z : List PV) : Nat := (lenP (at' z 0) + lenP (at' z 1)) / 20
def w5Op (o : List PV) : Nat := (lenP (at' o 1) + lenP (at' o 2)) / 20
def w5Hd (r : List PV) : Nat := 1 + lenP (at' r 14) + lenP (at' r 36) + lenP (at' r 27) + lenP (at' r 18) + lenP (at' r 19) + lenP (at' r 24) + lenP (at' r 35) + lenP (at' r 40) + lenP (at' r 42) + lenP (at' r 43) + lenP (at' r 34) / 20
def w5Ms (r : List PV) : Nat := w5Hd r + ((rowsP (at' r 35)).map w5Pt).sum + ((rowsP (at' r 27)).map w5Tx).sum + ((rowsP (at' r 18)).map w5Nd).sum + ((rowsP (at' r 40)).map w5Op).sum
structure Ok5 (r : List PV) : Prop where
  ps : lenP (at' r 35) ≤ 50
  lg : lenP (at' r 27) ≤ 50
  tx : ∀ t ∈ rowsP (at' r 27), lenP (at' t 7) ≤ 50
  ns : lenP (at' r 18) ≤ 100
  os : lenP (at' r 40) ≤ 50
def farP (rows : List (List PV)) : Prop := 300 < rows.length ∨ (∃ r ∈ rows, ¬ Ok5 r) ∨ 700 < (rows.map w5Ms).sum ∨ 200 < rows.length
/-- What far lets pass. -/
structure Pass (rows : List (List PV)) : Prop where
  len : rows.length ≤ 200
  w : ∀ r ∈ rows, w5Ms r ≤ 700
theorem pass_of {rows : List (List PV)} (h : ¬ farP rows) : Pass rows where
  len := by
    refine Decidable.byContradiction fun g => h (.inr (.inr (.inr (by omega))))
  w := fun r hr => by
    have h1 := mem_sum w5Ms hr
    refine Nat.le_trans h1 ?_
    refine Decidable.byContradiction fun g => h (.inr (.inr (.inl (by omega))))
/-! ### Bytes -/
theorem sz5Pt {r : List PV} (h : fPt.ok r) : fPt.sz r ≤ 160 + 40 * w5Pt r := by
  obtain ⟨k, p, d, v, kd, o, s, e, n, c, m, rfl, -⟩ := fPt_sh h
  show 10 + ((foS.sz [SB p] + (foS.sz [SB d] + (10 + (10 + 10)))) + (10 + ((10 + 10) + (10 + (fl 4 fMb).sz [.sl 4 m])))) ≤ 160 + 40 * (lenP (.sl 4 m) + (lenP (SB p) + lenP (SB d)) / 20)
  rw [szl_const szMb]
  simp only [foS_sz, lenP_SB, lenP_sl]; omega
theorem sz5Pts {rows : List (List PV)} (h : ∀ r ∈ rows, fPt.ok r) : (rows.map fPt.sz).sum ≤ 160 * rows.length + 40 * (rows.map w5Pt).sum := by
  have h1 : (rows.map fPt.sz).sum ≤ (rows.map fun r => 160 + 40 * w5Pt r).sum := sum_le fun r hr => sz5Pt (h r hr)
  rw [sum_add (fun _ => 160) (fun r => 40 * w5Pt r), sum_const, sum_mul] at h1
  exact h1
theorem sz5Tx {r : List PV} (h : fTx.ok r) : fTx.sz r ≤ 110 + 160 * w5Tx r := by
  obtain ⟨e, n, s, x, er, b, ma, ps, rfl, -, -, -, -, -, -, hp⟩ := fTx_sh h
  obtain ⟨hl, ho⟩ := fl_ok hp
  have h1 := sz5Pts ho
  show (10 + 10) + (10 + (10 + (10 + (10 + (foS.sz [SB ma] + (fl 11 fPt).sz [.sl 11 ps]))))) ≤ 110 + 160 * (lenP (.sl 11 ps) + lenP (SB ma) / 20 + ((rowsP (.sl 11 ps)).map w5Pt).sum)
  rw [fl_sz]
  simp only [foS_sz, lenP_SB, lenP_sl, rowsP_sl]; omega
theorem sz5Txs {rows : List (List PV)} (h : ∀ r ∈ rows, fTx.ok r) : (rows.map fTx.sz).sum ≤ 110 * rows.length + 160 * (rows.map w5Tx).sum := by
  have h1 : (rows.map fTx.sz).sum ≤ (rows.map fun r => 110 + 160 * w5Tx r).sum := sum_le fun r hr => sz5Tx (h r hr)
  rw [sum_add (fun _ => 110) (fun r => 160 * w5Tx r), sum_const, sum_mul] at h1
  exact h1
theorem sz5Nds {rows : List (List PV)} (h : ∀ r ∈ rows, fNd.ok r) : (rows.map fNd.sz).sum ≤ 80 * rows.length + 20 * (rows.map w5Nd).sum := by
  have h1 : (rows.map fNd.sz).sum ≤ (rows.map fun r => 80 + 20 * w5Nd r).sum := sum_le fun r hr => by
    obtain ⟨p, d, v, k, o, rfl, -⟩ := fNd_sh (h r hr)
    show foS.sz [SB p] + (foS.sz [SB d] + (10 + (10 + 10))) ≤ 80 + 20 * ((lenP (SB p) + lenP (SB d)) / 20)
    simp only [foS_sz, lenP_SB]; omega
  rw [sum_add (fun _ => 80) (fun r => 20 * w5Nd r), sum_const, sum_mul] at h1
  exact h1
theorem sz5Ops {rows : List (List PV)} (h : ∀ r ∈ rows, fOp.ok r) : (rows.map fOp.sz).sum ≤ 90 * rows.length + 20 * (rows.map w5Op).sum := by
  have h1 : (rows.map fOp.sz).sum ≤ (rows.map fun r => 90 + 20 * w5Op r).sum := sum_le fun r hr => by
    obtain ⟨k, p, d, v, x, y, rfl, -⟩ := fOp_sh (h r hr)
    show 10 + (foS.sz [SB p] + (foS.sz [SB d] + (10 + (10 + 10)))) ≤ 90 + 20 * ((lenP (SB p) + lenP (SB d)) / 20)
    simp only [foS_sz, lenP_SB]; omega
  rw [sum_add (fun _ => 90) (fun r => 20 * w5Op r), sum_const, sum_mul] at h1
  exact h1
set_option maxHeartbeats 4000000 in
theorem en5 {cs : List PV} (hk : fMs.ok cs) (hw : w5Ms cs ≤ 700) : (fMs.en cs).length ≤ 400000 := by
  obtain ⟨m0, m1, m2, m3, m4, m5, m6, m7, m8, m9, m10, m11, m12, m13, m14, m15, m16, m17, m18, m19, m20, m21, m22, m23, m24, m25, m26, m27, m28, m29, m30, m31, m32, m33, m34, m35, m36, m37, m38, m39, m40, m41, m42, m43, m44, m45, rfl, k0, k1, k2, k3, k4, k5, k6, k7, k8, k9, k10, k11⟩ := fMs_sh hk
  obtain ⟨p0, p1⟩ := k8
  obtain ⟨p1, p2⟩ := p1
  obtain ⟨p2, p3⟩ := p2
  change foI.ok [I m15] at p0
  change fZx.ok [I m16, I m17] at p1
  change fSt.ok [.sl 5 m18, .sl 1 m19, I m20, I m21, I m22, I m23, .sl 4 m24, I m25, I m26] at p2
  change (fl 8 fTx).ok [.sl 8 m27] at p3
  have hW : w5Ms [I m0, I m1, I m2, I m3, I m4, I m5, I m6, I m7, I m8, I m9, I m10, I m11, I m12, I m13, .sl 2 m14, I m15, I m16, I m17, .sl 5 m18, .sl 1 m19, I m20, I m21, I m22, I m23, .sl 4 m24, I m25, I m26, .sl 8 m27, I m28, I m29, I m30, I m31, I m32, I m33, SB m34, .sl 11 m35, .sl 1 m36, I m37, I m38, I m39, .sl 6 m40, I m41, .sl 4 m42, .sl 1 m43, I m44, I m45] = 1 + m14.length + m36.length + m27.length + m18.length + m19.length + m24.length + m35.length + m40.length + m42.length + m43.length + lenP (SB m34) / 20 + (m35.map w5Pt).sum + (m27.map w5Tx).sum + (m18.map w5Nd).sum + (m40.map w5Op).sum := rfl
  rw [hW, lenP_SB] at hw
  clear hW
  have e1 : (fVt.en [I m3, I m4, I m5, I m6, I m7, I m8, I m9]).length ≤ 70 := fVt_L.szl _ k3
  have e2 : (fZx.en [I m12, I m13]).length ≤ 20 := fZx_L.szl _ k6
  have e3 : ((fl 2 fZx).en [.sl 2 m14]).length ≤ 10 + 20 * m14.length := by have := (fl_L fZx_L 2).szl _ k7; rw [szl_const szZx] at this; exact this
  have e4 : (fSt.en [.sl 5 m18, .sl 1 m19, I m20, I m21, I m22, I m23, .sl 4 m24, I m25, I m26]).length ≤ 200 + 80 * m18.length + 20 * (m18.map w5Nd).sum + 10 * m19.length + 40 * m24.length := by
    refine Nat.le_trans (fSt_L.szl _ p2) ?_
    obtain ⟨ns, ss, nx, ce, cn, ck, ms, e, n, hx, hn, -⟩ := fSt_sh p2
    simp only [List.cons.injEq, PV.sl.injEq, PV.v.injEq, Value.int.injEq, true_and] at hx
    have hns : ns = m18 := hx.1.symm
    subst hns
    have h1 := sz5Nds (fl_ok hn).2
    show (fl 5 fNd).sz [.sl 5 ns] + ((fl 1 foI).sz [.sl 1 m19] + (10 + (((10 + 10) + (10 + (fl 4 fMb).sz [.sl 4 m24])) + (10 + 10)))) ≤ _
    rw [fl_sz, szl_const szI, szl_const szMb]
    omega
  have e5 : ((fl 8 fTx).en [.sl 8 m27]).length ≤ 10 + 110 * m27.length + 160 * (m27.map w5Tx).sum := by
    refine Nat.le_trans ((fl_L fTx_L 8).szl _ p3) ?_
    rw [fl_sz]
    have := sz5Txs (fl_ok p3).2; omega
  have e6 : (fTx.en [I m28, I m29, I m30, I m31, I m32, I m33, SB m34, .sl 11 m35]).length ≤ 110 + 160 * (m35.length + lenP (SB m34) / 20 + (m35.map w5Pt).sum) := Nat.le_trans (fTx_L.szl _ k9) (sz5Tx k9)
  rw [lenP_SB] at e6
  have e7 : ((fl 1 foI).en [.sl 1 m36]).length ≤ 10 + 10 * m36.length := by have := (fl_L foI_L 1).szl _ k10; rw [szl_const szI] at this; exact this
  have e8 : (fRq.en [I m37, I m38, I m39, .sl 6 m40, I m41, .sl 4 m42, .sl 1 m43, I m44, I m45]).length ≤ 200 + 90 * m40.length + 20 * (m40.map w5Op).sum + 40 * m42.length + 10 * m43.length := by
    refine Nat.le_trans (fRq_L.szl _ k11) ?_
    obtain ⟨k, s, x, os, dk, pm, dl, we, wn, hx, -, -, -, hn, -⟩ := fRq_sh k11
    simp only [List.cons.injEq, PV.sl.injEq, PV.v.injEq, Value.int.injEq, true_and] at hx
    have hos : os = m40 := hx.2.2.2.1.symm
    subst hos
    have h1 := sz5Ops (fl_ok hn).2
    show 10 + (10 + (10 + ((fl 6 fOp).sz [.sl 6 os] + (10 + ((fl 4 fMb).sz [.sl 4 m42] + ((fl 1 foI).sz [.sl 1 m43] + (10 + 10))))))) ≤ _
    rw [fl_sz, szl_const szI, szl_const szMb]
    omega
  have e9 : (fZx.en [I m16, I m17]).length ≤ 20 := fZx_L.szl _ p1
  have i0 := foI_L.szl _ k0
  have i1 := foI_L.szl _ k1
  have i2 := foI_L.szl _ k2
  have i4 := foI_L.szl _ k4
  have i5 := foI_L.szl _ k5
  have i6 := foI_L.szl _ p0
  simp only [szI] at i0 i1 i2 i4 i5 i6
  rw [fMs_en, fPl_en]
  simp only [List.length_append]
  omega
end Go.Proofs.Ytechjohebkcjiaa
/- Messages: the loops that weigh them. -/
namespace Go.Proofs.Ytechjohebkcjiaa
set_option linter.unusedSimpArgs false
set_option linter.unusedVariables false
set_option maxRecDepth 8000
open Go Go.Av
attribute [local simp] Try.T1 Try.T2 Try.T3 Try.T4 Try.T5 Try.T9 Try.T12 Try.T15 Try.T16 Try.T17 Try.T21 Try.T22 Try.T23 Try.T24 Try.T25 Try.T27 Try.T29 Try.T30 Try.T31 Try.T32 Try.T33 Try.T35 Try.T37 Try.T38 Try.T40 Try.T41 Try.T42 Try.T44 Try.T45 Try.T47 Try.T49 Try.T51 Try.T53 Try.T54 Try.T55 Try.T56 Try.T57 Try.T58 Try.T59 Try.T60 Try.T61 Try.T62 Try.T63 Try.T64 Try.T66 Try.T67 Try.T68 Try.T69 Try.T70 Try.T72 Try.T74 Try.T76 Try.T77 Try.T78 Try.T79 Try.T80 Try.T81 Try.T82 Try.T83 Try.T84 Try.T85 Try.T87 Try.T88 Try.T89 Try.T90 Try.T91 Try.T92 Try.T93 Try.T94 Try.T96 Try.T97 Try.T98 Try.T99 Try.T100 Try.T101 Try.T102 Try.T103 Try.T104 Try.T105 Try.T106 Try.T107 Try.T108 Try.T109 Try.T110 Try.T111 Try.T113 Try.T114 Try.T115 Try.T116 Try.T117 Try.T118 Try.T119 Try.T120 Try.T121 Try.T122 Try.T123 Try.T124 Try.T125 Try.T126 Try.T127 Try.T128 Try.T129 Try.T130 Try.T133 Try.T136 Try.T137 Try.T140 Try.T141
attribute [local irreducible] Go.Av.CallK Go.Av.CallE Go.Av.CallQ Go.Av.CallF Go.Av.CallR Go.Av.CallH Go.Av.Con
@[simp ↓] theorem dk306 (x : Nat) : 306 / 4096 / x = 0 := by rw [show 306 / 4096 = 0 from rfl, Nat.zero_div]
/-- What stands while a message is weighed. -/
def FB (rows : List (List PV)) (i : Nat) (r : List PV) (n : Nat) (st : St) : Prop :=
  st.s 0 = .p (.sl 46 rows) ∧ st.s 3 = .p (I (n : Nat)) ∧ st.s 4 = .p (I i) ∧ st.s 5 = .ptr 5 0 ∧ st.b 5 = some (.box 51 (r.map V.p))
theorem w5Pt_le {q : List PV} (ho : fPt.ok q) (hz : Zs q) : w5Pt q ≤ 2000000 := by
  obtain ⟨z0, z1, z2, z3, z4, z5, z6, z7, z8, z9, z10, rfl, -⟩ := fPt_sh ho
  have h1 := z1_len (hz (.sl 4 z10) (by simp))
  have h2 := z1_str (hz (SB z1) (by simp))
  have h3 := z1_str (hz (SB z2) (by simp))
  show lenP (.sl 4 z10) + (lenP (SB z1) + lenP (SB z2)) / 20 ≤ _
  simp only [lenP_SB, lenP_sl]; omega
set_option maxHeartbeats 4000000 in
theorem farPs {Q : AExit → St → Prop} {st : St} (rows : List (List PV)) (i : Nat) (r : List PV) (ps : List (List PV)) (n0 : Nat) (hn0 : n0 ≤ 1000000000000000) (hr : r[35]? = some (.sl 11 ps)) (hl : ps.length ≤ 100) (ho : ∀ q ∈ ps, fPt.ok q) (hz : Z1 (.sl 11 ps))
    (hex : ∀ st, FB rows i r (n0 + (ps.map w5Pt).sum) st → Q (.exit 2) st)
    (hF : FB rows i r n0 st) (h6 : st.s 6 = .p (I 0)) : WC Try.prog Try.T 306 (lp Try.f6 1) Q st := by
  obtain ⟨g0, g3, g4, g5, b5⟩ := hF
  have hrl : 35 < r.length := (List.getElem?_eq_some_iff.1 hr).1
  have hrg : ∀ h, r[35]'h = .sl 11 ps := fun h => by rw [List.getElem?_eq_getElem h] at hr; exact Option.some.inj hr
  refine wLoop (fun N st => ∃ j m, j + N = ps.length ∧ m = n0 + ((ps.take j).map w5Pt).sum ∧ m ≤ n0 + j * 2000000 ∧ FB rows i r m st ∧ st.s 6 = .p (I j)) ps.length ⟨0, n0, by omega, by simp, by omega, ⟨g0, g3, g4, g5, b5⟩, h6⟩ fun K N st hL ⟨j, m, hj, hm, hmb, ⟨g0, g3, g4, g5, b5⟩, g6⟩ => ?_
  by_cases hlt : j < ps.length
  case neg =>
    have hlt' : ¬ (j : Int) < ps.length := by omega
    rw [List.take_of_length_le (by omega)] at hm
    subst hm
    repeat' first | (refine hK _ ?_; clear hK) | (refine hK _ _ ?_; clear hK) | (clear hK; refine hK _ ?_; clear hK) | (clear hK; clear hK; refine hK _ ?_; clear hK) | (clear hK; clear hK; clear hK; refine hK _ ?_; clear hK) | (clear hK; clear hK; clear hK; clear hK; refine hK _ ?_; clear hK) | (refine wSeq fun K hK => ?_) | ((first | refine wReg ?_ | refine wDrwQ rfl (by kernel_rfl) ?_ | refine wDrwI ?_ | refine wDrw (by kernel_rfl) ?_); simp only [List.map_cons, List.map_nil, strip]) | ((first | refine wIs fun K hK => ?_ | refine wOs fun K hK => ?_ | refine wQs fun K hK => ?_ | refine CallK_plain ?_ | refine CallQ_plain ?_ | refine CallR_plain ?_ | refine wCond ?_); simp [g0, g3, g4, g5, b5, g6, hr, hrl, hrg, hlt, hlt']) | (refine wIn ?_; refine And.intro (by kernel_rfl) ?_; try simp only [thenA_n]) | (first | refine wBlock ?_ | refine wScope ?_) | ((first | refine wRet ?_ | refine wExit ?_ | refine wSkip ?_); try simp) | ((first | refine wLabel ?_ | refine wOn ?_ | refine wQn ?_); try simp only [thenA_n])
    refine hex _ ⟨?_, ?_, ?_, ?_, ?_⟩
    all_goals simp [g0, g3, g4, g5, b5]
  have hlt' : (j : Int) < ps.length := by omega
  have hw := wrapS j _ hlt (by omega)
  have he : ps[j]? = some ps[j] := List.getElem?_eq_getElem hlt
  have hsj := sum_snoc w5Pt hlt
  have hok := ho _ (List.getElem_mem hlt)
  have hzz := z1_row hz (List.getElem_mem hlt)
  generalize hQ : ps[j] = q at *
  obtain ⟨z0, z1, z2, z3, z4, z5, z6, z7, z8, z9, z10, rfl, -⟩ := fPt_sh hok
  have l1 := z1_len (hzz (.sl 4 z10) (by simp))
  have l2 := z1_str (hzz (SB z1) (by simp))
  have l3 := z1_str (hzz (SB z2) (by simp))
  have hwp : w5Pt [I z0, SB z1, SB z2, I z3, I z4, I z5, I z6, I z7, I z8, I z9, .sl 4 z10] = z10.length + (z1.length + z2.length) / 20 := by
    show lenP (.sl 4 z10) + (lenP (SB z1) + lenP (SB z2)) / 20 = _
    simp only [lenP_SB, lenP_sl]
  rw [hwp] at hsj
  obtain ⟨a30, ha30⟩ : ∃ a30 : Nat, a30 = (z1.length + z2.length) / 20 := ⟨_, rfl⟩
  rw [← ha30] at hsj
  obtain ⟨s12, hs12⟩ : ∃ s12 : Nat, s12 = z1.length + z2.length := ⟨_, rfl⟩
  have v0 : IntKind.i64.wrap ((z1.length : Int) + (z2.length : Int)) = (s12 : Int) := by rw [wrap_id (by omega) (by omega)]; omega
  have v1 : IntKind.i64.wrap ((s12 : Int) / 20) = (a30 : Int) := by rw [wrap_id (by omega) (by omega)]; omega
  obtain ⟨d2, hd2⟩ : ∃ d2 : Nat, d2 = z10.length + a30 := ⟨_, rfl⟩
  have v2 : IntKind.i64.wrap ((z10.length : Int) + (a30 : Int)) = (d2 : Int) := by rw [wrap_id (by omega) (by omega)]; omega
  obtain ⟨m2, hm2⟩ : ∃ m2 : Nat, m2 = m + d2 := ⟨_, rfl⟩
  have v3 : IntKind.i64.wrap ((m : Int) + (d2 : Int)) = (m2 : Int) := by rw [wrap_id (by omega) (by omega)]; omega
  repeat' first | (refine hK _ ?_; clear hK) | (refine hK _ _ ?_; clear hK) | (clear hK; refine hK _ ?_; clear hK) | (clear hK; clear hK; refine hK _ ?_; clear hK) | (clear hK; clear hK; clear hK; refine hK _ ?_; clear hK) | (clear hK; clear hK; clear hK; clear hK; refine hK _ ?_; clear hK) | (refine wSeq fun K hK => ?_) | ((first | refine wReg ?_ | refine wDrwQ rfl (by kernel_rfl) ?_ | refine wDrwI ?_ | refine wDrw (by kernel_rfl) ?_); simp only [List.map_cons, List.map_nil, strip]) | ((first | refine wIs fun K hK => ?_ | refine wOs fun K hK => ?_ | refine wQs fun K hK => ?_ | refine CallK_plain ?_ | refine CallQ_plain ?_ | refine CallR_plain ?_ | refine wCond ?_); simp [g0, g3, g4, g5, b5, g6, hr, hrl, hrg, hlt, hlt', hw, he, hQ, v0, v1, v2, v3]) | (refine wIn ?_; refine And.intro (by kernel_rfl) ?_; try simp only [thenA_n]) | (first | refine wBlock ?_ | refine wScope ?_) | ((first | refine wRet ?_ | refine wExit ?_ | refine wSkip ?_); try simp) | ((first | refine wLabel ?_ | refine wOn ?_ | refine wQn ?_); try simp only [thenA_n])
  refine hL _ (N - 1) (by omega) ⟨j + 1, m2, by omega, by rw [hsj]; omega, by omega, ⟨?_, ?_, ?_, ?_, ?_⟩, ?_⟩
  all_goals simp [g0, g3, g4, g5, b5, g6, hw]
set_option maxHeartbeats 4000000 in
theorem farNs {Q : AExit → St → Prop} {st : St} (rows : List (List PV)) (i : Nat) (r : List PV) (ps : List (List PV)) (n0 : Nat) (hn0 : n0 ≤ 1000000000000000) (hr : r[18]? = some (.sl 5 ps)) (hl : ps.length ≤ 100) (ho : ∀ q ∈ ps, fNd.ok q) (hz : Z1 (.sl 5 ps))
    (hex : ∀ st, FB rows i r (n0 + (ps.map w5Nd).sum) st → Q (.exit 8) st)
    (hF : FB rows i r n0 st) (h6 : st.s 9 = .p (I 0)) : WC Try.prog Try.T 306 (lp Try.f6 4) Q st := by
  obtain ⟨g0, g3, g4, g5, b5⟩ := hF
  have hrl : 18 < r.length := (List.getElem?_eq_some_iff.1 hr).1
  have hrg : ∀ h, r[18]'h = .sl 5 ps := fun h => by rw [List.getElem?_eq_getElem h] at hr; exact Option.some.inj hr
  refine wLoop (fun N st => ∃ j m, j + N = ps.length ∧ m = n0 + ((ps.take j).map w5Nd).sum ∧ m ≤ n0 + j * 2000000 ∧ FB rows i r m st ∧ st.s 9 = .p (I j)) ps.length ⟨0, n0, by omega, by simp, by omega, ⟨g0, g3, g4, g5, b5⟩, h6⟩ fun K N st hL ⟨j, m, hj, hm, hmb, ⟨g0, g3, g4, g5, b5⟩, g6⟩ => ?_
  by_cases hlt : j < ps.length
  case neg =>
    have hlt' : ¬ (j : Int) < ps.length := by omega
    rw [List.take_of_length_le (by omega)] at hm
    subst hm
    repeat' first | (refine hK _ ?_; clear hK) | (refine hK _ _ ?_; clear hK) | (clear hK; refine hK _ ?_; clear hK) | (clear hK; clear hK; refine hK _ ?_; clear hK) | (clear hK; clear hK; clear hK; refine hK _ ?_; clear hK) | (clear hK; clear hK; clear hK; clear hK; refine hK _ ?_; clear hK) | (refine wSeq fun K hK => ?_) | ((first | refine wReg ?_ | refine wDrwQ rfl (by kernel_rfl) ?_ | refine wDrwI ?_ | refine wDrw (by kernel_rfl) ?_); simp only [List.map_cons, List.map_nil, strip]) | ((first | refine wIs fun K hK => ?_ | refine wOs fun K hK => ?_ | refine wQs fun K hK => ?_ | refine CallK_plain ?_ | refine CallQ_plain ?_ | refine CallR_plain ?_ | refine wCond ?_); simp [g0, g3, g4, g5, b5, g6, hr, hrl, hrg, hlt, hlt']) | (refine wIn ?_; refine And.intro (by kernel_rfl) ?_; try simp only [thenA_n]) | (first | refine wBlock ?_ | refine wScope ?_) | ((first | refine wRet ?_ | refine wExit ?_ | refine wSkip ?_); try simp) | ((first | refine wLabel ?_ | refine wOn ?_ | refine wQn ?_); try simp only [thenA_n])
    refine hex _ ⟨?_, ?_, ?_, ?_, ?_⟩
    all_goals simp [g0, g3, g4, g5, b5]
  have hlt' : (j : Int) < ps.length := by omega
  have hw := wrapS j _ hlt (by omega)
  have he : ps[j]? = some ps[j] := List.getElem?_eq_getElem hlt
  have hsj := sum_snoc w5Nd hlt
  have hok := ho _ (List.getElem_mem hlt)
  have hzz := z1_row hz (List.getElem_mem hlt)
  generalize hQ : ps[j] = q at *
  obtain ⟨z0, z1, z2, z3, z4, rfl, -⟩ := fNd_sh hok
  have l2 := z1_str (hzz (SB z0) (by simp))
  have l3 := z1_str (hzz (SB z1) (by simp))
  have hwp : w5Nd [SB z0, SB z1, I z2, I z3, I z4] = (z0.length + z1.length) / 20 := by
    show (lenP (SB z0) + lenP (SB z1)) / 20 = _
    simp only [lenP_SB]
  rw [hwp] at hsj
  obtain ⟨d2, hd2⟩ : ∃ d2 : Nat, d2 = (z0.length + z1.length) / 20 := ⟨_, rfl⟩
  rw [← hd2] at hsj
  obtain ⟨s12, hs12⟩ : ∃ s12 : Nat, s12 = z0.length + z1.length := ⟨_, rfl⟩
  have v0 : IntKind.i64.wrap ((z0.length : Int) + (z1.length : Int)) = (s12 : Int) := by rw [wrap_id (by omega) (by omega)]; omega
  have v1 : IntKind.i64.wrap ((s12 : Int) / 20) = (d2 : Int) := by rw [wrap_id (by omega) (by omega)]; omega
  obtain ⟨m2, hm2⟩ : ∃ m2 : Nat, m2 = m + d2 := ⟨_, rfl⟩
  have v3 : IntKind.i64.wrap ((m : Int) + (d2 : Int)) = (m2 : Int) := by rw [wrap_id (by omega) (by omega)]; omega
  repeat' first | (refine hK _ ?_; clear hK) | (refine hK _ _ ?_; clear hK) | (clear hK; refine hK _ ?_; clear hK) | (clear hK; clear hK; refine hK _ ?_; clear hK) | (clear hK; clear hK; clear hK; refine hK _ ?_; clear hK) | (clear hK; clear hK; clear hK; clear hK; refine hK _ ?_; clear hK) | (refine wSeq fun K hK => ?_) | ((first | refine wReg ?_ | refine wDrwQ rfl (by kernel_rfl) ?_ | refine wDrwI ?_ | refine wDrw (by kernel_rfl) ?_); simp only [List.map_cons, List.map_nil, strip]) | ((first | refine wIs fun K hK => ?_ | refine wOs fun K hK => ?_ | refine wQs fun K hK => ?_ | refine CallK_plain ?_ | refine CallQ_plain ?_ | refine CallR_plain ?_ | refine wCond ?_); simp [g0, g3, g4, g5, b5, g6, hr, hrl, hrg, hlt, hlt', hw, he, hQ, v0, v1, v3]) | (refine wIn ?_; refine And.intro (by kernel_rfl) ?_; try simp only [thenA_n]) | (first | refine wBlock ?_ | refine wScope ?_) | ((first | refine wRet ?_ | refine wExit ?_ | refine wSkip ?_); try simp) | ((first | refine wLabel ?_ | refine wOn ?_ | refine wQn ?_); try simp only [thenA_n])
  refine hL _ (N - 1) (by omega) ⟨j + 1, m2, by omega, by rw [hsj]; omega, by omega, ⟨?_, ?_, ?_, ?_, ?_⟩, ?_⟩
  all_goals simp [g0, g3, g4, g5, b5, g6, hw]
set_option maxHeartbeats 4000000 in
theorem farOs {Q : AExit → St → Prop} {st : St} (rows : List (List PV)) (i : Nat) (r : List PV) (ps : List (List PV)) (n0 : Nat) (hn0 : n0 ≤ 1000000000000000) (hr : r[40]? = some (.sl 6 ps)) (hl : ps.length ≤ 100) (ho : ∀ q ∈ ps, fOp.ok q) (hz : Z1 (.sl 6 ps))
    (hex : ∀ st, FB rows i r (n0 + (ps.map w5Op).sum) st → Q (.exit 10) st)
    (hF : FB rows i r n0 st) (h6 : st.s 10 = .p (I 0)) : WC Try.prog Try.T 306 (lp Try.f6 5) Q st := by
  obtain ⟨g0, g3, g4, g5, b5⟩ := hF
  have hrl : 40 < r.length := (List.getElem?_eq_some_iff.1 hr).1
  have hrg : ∀ h, r[40]'h = .sl 6 ps := fun h => by rw [List.getElem?_eq_getElem h] at hr; exact Option.some.inj hr
  refine wLoop (fun N st => ∃ j m, j + N = ps.length ∧ m = n0 + ((ps.take j).map w5Op).sum ∧ m ≤ n0 + j * 2000000 ∧ FB rows i r m st ∧ st.s 10 = .p (I j)) ps.length ⟨0, n0, by omega, by simp, by omega, ⟨g0, g3, g4, g5, b5⟩, h6⟩ fun K N st hL ⟨j, m, hj, hm, hmb, ⟨g0, g3, g4, g5, b5⟩, g6⟩ => ?_
  by_cases hlt : j < ps.length
  case neg =>
    have hlt' : ¬ (j : Int) < ps.length := by omega
    rw [List.take_of_length_le (by omega)] at hm
    subst hm
    repeat' first | (refine hK _ ?_; clear hK) | (refine hK _ _ ?_; clear hK) | (clear hK; refine hK _ ?_; clear hK) | (clear hK; clear hK; refine hK _ ?_; clear hK) | (clear hK; clear hK; clear hK; refine hK _ ?_; clear hK) | (clear hK; clear hK; clear hK; clear hK; refine hK _ ?_; clear hK) | (refine wSeq fun K hK => ?_) | ((first | refine wReg ?_ | refine wDrwQ rfl (by kernel_rfl) ?_ | refine wDrwI ?_ | refine wDrw (by kernel_rfl) ?_); simp only [List.map_cons, List.map_nil, strip]) | ((first | refine wIs fun K hK => ?_ | refine wOs fun K hK => ?_ | refine wQs fun K hK => ?_ | refine CallK_plain ?_ | refine CallQ_plain ?_ | refine CallR_plain ?_ | refine wCond ?_); simp [g0, g3, g4, g5, b5, g6, hr, hrl, hrg, hlt, hlt']) | (refine wIn ?_; refine And.intro (by kernel_rfl) ?_; try simp only [thenA_n]) | (first | refine wBlock ?_ | refine wScope ?_) | ((first | refine wRet ?_ | refine wExit ?_ | refine wSkip ?_); try simp) | ((first | refine wLabel ?_ | refine wOn ?_ | refine wQn ?_); try simp only [thenA_n])
    refine hex _ ⟨?_, ?_, ?_, ?_, ?_⟩
    all_goals simp [g0, g3, g4, g5, b5]
  have hlt' : (j : Int) < ps.length := by omega
  have hw := wrapS j _ hlt (by omega)
  have he : ps[j]? = some ps[j] := List.getElem?_eq_getElem hlt
  have hsj := sum_snoc w5Op hlt
  have hok := ho _ (List.getElem_mem hlt)
  have hzz := z1_row hz (List.getElem_mem hlt)
  generalize hQ : ps[j] = q at *
  obtain ⟨z0, z1, z2, z3, z4, z5, rfl, -⟩ := fOp_sh hok
  have l2 := z1_str (hzz (SB z1) (by simp))
  have l3 := z1_str (hzz (SB z2) (by simp))
  have hwp : w5Op [I z0, SB z1, SB z2, I z3, B z4, B z5] = (z1.length + z2.length) / 20 := by
    show (lenP (SB z1) + lenP (SB z2)) / 20 = _
    simp only [lenP_SB]
  rw [hwp] at hsj
  obtain ⟨d2, hd2⟩ : ∃ d2 : Nat, d2 = (z1.length + z2.length) / 20 := ⟨_, rfl⟩
  rw [← hd2] at hsj
  obtain ⟨s12, hs12⟩ : ∃ s12 : Nat, s12 = z1.length + z2.length := ⟨_, rfl⟩
  have v0 : IntKind.i64.wrap ((z1.length : Int) + (z2.length : Int)) = (s12 : Int) := by rw [wrap_id (by omega) (by omega)]; omega
  have v1 : IntKind.i64.wrap ((s12 : Int) / 20) = (d2 : Int) := by rw [wrap_id (by omega) (by omega)]; omega
  obtain ⟨m2, hm2⟩ : ∃ m2 : Nat, m2 = m + d2 := ⟨_, rfl⟩
  have v3 : IntKind.i64.wrap ((m : Int) + (d2 : Int)) = (m2 : Int) := by rw [wrap_id (by omega) (by omega)]; omega
  repeat' first | (refine hK _ ?_; clear hK) | (refine hK _ _ ?_; clear hK) | (clear hK; refine hK _ ?_; clear hK) | (clear hK; clear hK; refine hK _ ?_; clear hK) | (clear hK; clear hK; clear hK; refine hK _ ?_; clear hK) | (clear hK; clear hK; clear hK; clear hK; refine hK _ ?_; clear hK) | (refine wSeq fun K hK => ?_) | ((first | refine wReg ?_ | refine wDrwQ rfl (by kernel_rfl) ?_ | refine wDrwI ?_ | refine wDrw (by kernel_rfl) ?_); simp only [List.map_cons, List.map_nil, strip]) | ((first | refine wIs fun K hK => ?_ | refine wOs fun K hK => ?_ | refine wQs fun K hK => ?_ | refine CallK_plain ?_ | refine CallQ_plain ?_ | refine CallR_plain ?_ | refine wCond ?_); simp [g0, g3, g4, g5, b5, g6, hr, hrl, hrg, hlt, hlt', hw, he, hQ, v0, v1, v3]) | (refine wIn ?_; refine And.intro (by kernel_rfl) ?_; try simp only [thenA_n]) | (first | refine wBlock ?_ | refine wScope ?_) | ((first | refine wRet ?_ | refine wExit ?_ | refine wSkip ?_); try simp) | ((first | refine wLabel ?_ | refine wOn ?_ | refine wQn ?_); try simp only [thenA_n])
  refine hL _ (N - 1) (by omega) ⟨j + 1, m2, by omega, by rw [hsj]; omega, by omega, ⟨?_, ?_, ?_, ?_, ?_⟩, ?_⟩
  all_goals simp [g0, g3, g4, g5, b5, g6, hw]
theorem w5Tx_le {q : List PV} (ho : fTx.ok q) (hz : Zs q) (h50 : lenP (at' q 7) ≤ 50) : w5Tx q ≤ 200000000 := by
  obtain ⟨z0, z1, z2, z3, z4, z5, z6, z7, rfl, -, -, -, -, -, -, hp⟩ := fTx_sh ho
  have h2 := z1_str (hz (SB z6) (by simp))
  have h3 := hz (.sl 11 z7) (by simp)
  change z7.length ≤ 50 at h50
  have h4 : (z7.map w5Pt).sum ≤ (z7.map fun _ => 2000000).sum := sum_le fun q hq => w5Pt_le ((fl_ok hp).2 q hq) (z1_row h3 hq)
  rw [sum_const] at h4
  show lenP (.sl 11 z7) + lenP (SB z6) / 20 + ((rowsP (.sl 11 z7)).map w5Pt).sum ≤ _
  simp only [lenP_SB, lenP_sl, rowsP_sl]; omega
set_option maxHeartbeats 4000000 in
theorem farIn {Q : AExit → St → Prop} {st : St} (rows : List (List PV)) (i : Nat) (r : List PV) (lg : List (List PV)) (k : Nat) (t : List PV) (ps : List (List PV)) (n0 : Nat) (hn0 : n0 ≤ 1000000000000000) (hr : r[27]? = some (.sl 8 lg)) (hlg : lg.length ≤ 100) (hk : k < lg.length) (ht : lg[k] = t) (hp : at' t 7 = .sl 11 ps) (hto : fTx.ok t) (hl : ps.length ≤ 100) (ho : ∀ q ∈ ps, fPt.ok q) (hz : Z1 (.sl 11 ps))
    (hex : ∀ st, FB rows i r (n0 + (ps.map w5Pt).sum) st → st.s 7 = .p (I k) → Q (.exit 6) st)
    (hF : FB rows i r n0 st) (h7 : st.s 7 = .p (I k)) (h8 : st.s 8 = .p (I 0)) : WC Try.prog Try.T 306 (lp Try.f6 3) Q st := by
  obtain ⟨g0, g3, g4, g5, b5⟩ := hF
  have hrl : 27 < r.length := (List.getElem?_eq_some_iff.1 hr).1
  have hrg : ∀ h, r[27]'h = .sl 8 lg := fun h => by rw [List.getElem?_eq_getElem h] at hr; exact Option.some.inj hr
  have hkl : (k : Int) < lg.length := by omega
  have hgk : lg[k]? = some lg[k] := List.getElem?_eq_getElem hk
  obtain ⟨y0, y1, y2, y3, y4, y5, y6, y7, rfl, -⟩ := fTx_sh hto
  obtain rfl : y7 = ps := by
    simp only [at', List.getElem?_cons_succ, List.getElem?_cons_zero, Option.getD_some, PV.sl.injEq, true_and] at hp
    exact hp
  rw [ht] at hgk
  refine wLoop (fun N st => ∃ j m, j + N = y7.length ∧ m = n0 + ((y7.take j).map w5Pt).sum ∧ m ≤ n0 + j * 2000000 ∧ FB rows i r m st ∧ st.s 7 = .p (I k) ∧ st.s 8 = .p (I j)) y7.length ⟨0, n0, by omega, by simp, by omega, ⟨g0, g3, g4, g5, b5⟩, h7, h8⟩ fun K N st hL ⟨j, m, hj, hm, hmb, ⟨g0, g3, g4, g5, b5⟩, g7, g8⟩ => ?_
  by_cases hlt : j < y7.length
  case neg =>
    have hlt' : ¬ (j : Int) < y7.length := by omega
    rw [List.take_of_length_le (by omega)] at hm
    subst hm
    repeat' first | (refine hK _ ?_; clear hK) | (refine hK _ _ ?_; clear hK) | (clear hK; refine hK _ ?_; clear hK) | (clear hK; clear hK; refine hK _ ?_; clear hK) | (clear hK; clear hK; clear hK; refine hK _ ?_; clear hK) | (clear hK; clear hK; clear hK; clear hK; refine hK _ ?_; clear hK) | (refine wSeq fun K hK => ?_) | ((first | refine wReg ?_ | refine wDrwQ rfl (by kernel_rfl) ?_ | refine wDrwI ?_ | refine wDrw (by kernel_rfl) ?_); simp only [List.map_cons, List.map_nil, strip]) | ((first | refine wIs fun K hK => ?_ | refine wOs fun K hK => ?_ | refine wQs fun K hK => ?_ | refine CallK_plain ?_ | refine CallQ_plain ?_ | refine CallR_plain ?_ | refine wCond ?_); simp [g0, g3, g4, g5, b5, g7, g8, hr, hrl, hrg, hk, hkl, hgk, ht, hlt, hlt']) | (refine wIn ?_; refine And.intro (by kernel_rfl) ?_; try simp only [thenA_n]) | (first | refine wBlock ?_ | refine wScope ?_) | ((first | refine wRet ?_ | refine wExit ?_ | refine wSkip ?_); try simp) | ((first | refine wLabel ?_ | refine wOn ?_ | refine wQn ?_); try simp only [thenA_n])
    refine hex _ ⟨?_, ?_, ?_, ?_, ?_⟩ ?_
    all_goals simp [g0, g3, g4, g5, b5, g7]
  have hlt' : (j : Int) < y7.length := by omega
  have hw := wrapS j _ hlt (by omega)
  have he : y7[j]? = some y7[j] := List.getElem?_eq_getElem hlt
  have hsj := sum_snoc w5Pt hlt
  have hok := ho _ (List.getElem_mem hlt)
  have hzz := z1_row hz (List.getElem_mem hlt)
  generalize hQ : y7[j] = q at *
  obtain ⟨z0, z1, z2, z3, z4, z5, z6, z7, z8, z9, z10, rfl, -⟩ := fPt_sh hok
  have l1 := z1_len (hzz (.sl 4 z10) (by simp))
  have l2 := z1_str (hzz (SB z1) (by simp))
  have l3 := z1_str (hzz (SB z2) (by simp))
  have hwp : w5Pt [I z0, SB z1, SB z2, I z3, I z4, I z5, I z6, I z7, I z8, I z9, .sl 4 z10] = z10.length + (z1.length + z2.length) / 20 := by
    show lenP (.sl 4 z10) + (lenP (SB z1) + lenP (SB z2)) / 20 = _
    simp only [lenP_SB, lenP_sl]
  rw [hwp] at hsj
  obtain ⟨a30, ha30⟩ : ∃ a30 : Nat, a30 = (z1.length + z2.length) / 20 := ⟨_, rfl⟩
  rw [← ha30] at hsj
  obtain ⟨s12, hs12⟩ : ∃ s12 : Nat, s12 = z1.length + z2.length := ⟨_, rfl⟩
  have v0 : IntKind.i64.wrap ((z1.length : Int) + (z2.length : Int)) = (s12 : Int) := by rw [wrap_id (by omega) (by omega)]; omega
  have v1 : IntKind.i64.wrap ((s12 : Int) / 20) = (a30 : Int) := by rw [wrap_id (by omega) (by omega)]; omega
  obtain ⟨d2, hd2⟩ : ∃ d2 : Nat, d2 = z10.length + a30 := ⟨_, rfl⟩
  have v2 : IntKind.i64.wrap ((z10.length : Int) + (a30 : Int)) = (d2 : Int) := by rw [wrap_id (by omega) (by omega)]; omega
  obtain ⟨m2, hm2⟩ : ∃ m2 : Nat, m2 = m + d2 := ⟨_, rfl⟩
  have v3 : IntKind.i64.wrap ((m : Int) + (d2 : Int)) = (m2 : Int) := by rw [wrap_id (by omega) (by omega)]; omega
  repeat' first | (refine hK _ ?_; clear hK) | (refine hK _ _ ?_; clear hK) | (clear hK; refine hK _ ?_; clear hK) | (clear hK; clear hK; refine hK _ ?_; clear hK) | (clear hK; clear hK; clear hK; refine hK _ ?_; clear hK) | (clear hK; clear hK; clear hK; clear hK; refine hK _ ?_; clear hK) | (refine wSeq fun K hK => ?_) | ((first | refine wReg ?_ | refine wDrwQ rfl (by kernel_rfl) ?_ | refine wDrwI ?_ | refine wDrw (by kernel_rfl) ?_); simp only [List.map_cons, List.map_nil, strip]) | ((first | refine wIs fun K hK => ?_ | refine wOs fun K hK => ?_ | refine wQs fun K hK => ?_ | refine CallK_plain ?_ | refine CallQ_plain ?_ | refine CallR_plain ?_ | refine wCond ?_); simp [g0, g3, g4, g5, b5, g7, g8, hr, hrl, hrg, hk, hkl, hgk, ht, hlt, hlt', hw, he, hQ, v0, v1, v2, v3]) | (refine wIn ?_; refine And.intro (by kernel_rfl) ?_; try simp only [thenA_n]) | (first | refine wBlock ?_ | refine wScope ?_) | ((first | refine wRet ?_ | refine wExit ?_ | refine wSkip ?_); try simp) | ((first | refine wLabel ?_ | refine wOn ?_ | refine wQn ?_); try simp only [thenA_n])
  refine hL _ (N - 1) (by omega) ⟨j + 1, m2, by omega, by rw [hsj]; omega, by omega, ⟨?_, ?_, ?_, ?_, ?_⟩, ?_, ?_⟩
  all_goals simp [g0, g3, g4, g5, b5, g7, g8, hw]
set_option maxHeartbeats 4000000 in
theorem farLg {Q : AExit → St → Prop} {st : St} (rows : List (List PV)) (i : Nat) (r : List PV) (lg : List (List PV)) (n0 : Nat) (hn0 : n0 ≤ 100000000000000) (hr : r[27]? = some (.sl 8 lg)) (hlg : lg.length ≤ 100) (ho : ∀ q ∈ lg, fTx.ok q) (hz : Z1 (.sl 8 lg)) (hmem : r ∈ rows)
    (hex : ∀ st, FB rows i r (n0 + (lg.map w5Tx).sum) st → (∀ t ∈ lg, lenP (at' t 7) ≤ 50) → Q (.exit 4) st)
    (hret : ∀ st, ¬ (∀ t ∈ lg, lenP (at' t 7) ≤ 50) → st.s 2 = .p (B true) → Q .ret st)
    (hF : FB rows i r n0 st) (h7 : st.s 7 = .p (I 0)) : WC Try.prog Try.T 306 (lp Try.f6 2) Q st := by
  obtain ⟨g0, g3, g4, g5, b5⟩ := hF
  have hrl : 27 < r.length := (List.getElem?_eq_some_iff.1 hr).1
  have hrg : ∀ h, r[27]'h = .sl 8 lg := fun h => by rw [List.getElem?_eq_getElem h] at hr; exact Option.some.inj hr
  refine wLoop (fun N st => ∃ j m, j + N = lg.length ∧ m = n0 + ((lg.take j).map w5Tx).sum ∧ m ≤ n0 + j * 200000000 ∧ (∀ t ∈ lg.take j, lenP (at' t 7) ≤ 50) ∧ FB rows i r m st ∧ st.s 7 = .p (I j)) lg.length ⟨0, n0, by omega, by simp, by omega, by simp, ⟨g0, g3, g4, g5, b5⟩, h7⟩ fun K N st hL ⟨j, m, hj, hm, hmb, hall, ⟨g0, g3, g4, g5, b5⟩, g7⟩ => ?_
  by_cases hlt : j < lg.length
  case neg =>
    have hlt' : ¬ (j : Int) < lg.length := by omega
    rw [List.take_of_length_le (by omega)] at hm hall
    subst hm
    repeat' first | (refine hK _ ?_; clear hK) | (refine hK _ _ ?_; clear hK) | (clear hK; refine hK _ ?_; clear hK) | (clear hK; clear hK; refine hK _ ?_; clear hK) | (clear hK; clear hK; clear hK; refine hK _ ?_; clear hK) | (clear hK; clear hK; clear hK; clear hK; refine hK _ ?_; clear hK) | (refine wSeq fun K hK => ?_) | ((first | refine wReg ?_ | refine wDrwQ rfl (by kernel_rfl) ?_ | refine wDrwI ?_ | refine wDrw (by kernel_rfl) ?_); simp only [List.map_cons, List.map_nil, strip]) | ((first | refine wIs fun K hK => ?_ | refine wOs fun K hK => ?_ | refine wQs fun K hK => ?_ | refine CallK_plain ?_ | refine CallQ_plain ?_ | refine CallR_plain ?_ | refine wCond ?_); simp [g0, g3, g4, g5, b5, g7, hr, hrl, hrg, hlt, hlt']) | (refine wIn ?_; refine And.intro (by kernel_rfl) ?_; try simp only [thenA_n]) | (first | refine wBlock ?_ | refine wScope ?_) | ((first | refine wRet ?_ | refine wExit ?_ | refine wSkip ?_); try simp) | ((first | refine wLabel ?_ | refine wOn ?_ | refine wQn ?_); try simp only [thenA_n])
    refine hex _ ⟨?_, ?_, ?_, ?_, ?_⟩ hall
    all_goals simp [g0, g3, g4, g5, b5]
  have hlt' : (j : Int) < lg.length := by omega
  have hw := wrapS j _ hlt (by omega)
  have he : lg[j]? = some lg[j] := List.getElem?_eq_getElem hlt
  have hsj := sum_snoc w5Tx hlt
  have hok := ho _ (List.getElem_mem hlt)
  have hzz := z1_row hz (List.getElem_mem hlt)
  have hmj := List.getElem_mem hlt
  have htk : lg.take (j + 1) = lg.take j ++ [lg[j]] := List.take_succ_eq_append_getElem hlt
  generalize hQ : lg[j] = q at *
  have hwq := fun h => w5Tx_le hok hzz h
  have hok2 := hok
  obtain ⟨z0, z1, z2, z3, z4, z5, z6, z7, rfl, -, -, -, -, -, -, hp⟩ := fTx_sh hok
  have l1 := hzz (.sl 11 z7) (by simp)
  have l1' := z1_len l1
  have l2 := z1_str (hzz (SB z6) (by simp))
  have hwp : w5Tx [I z0, I z1, I z2, I z3, I z4, I z5, SB z6, .sl 11 z7] = z7.length + z6.length / 20 + (z7.map w5Pt).sum := by
    show lenP (.sl 11 z7) + lenP (SB z6) / 20 + ((rowsP (.sl 11 z7)).map w5Pt).sum = _
    simp only [lenP_SB, lenP_sl, rowsP_sl]
  have ha7 : lenP (at' [I z0, I z1, I z2, I z3, I z4, I z5, SB z6, .sl 11 z7] 7) = z7.length := rfl
  rw [hwp] at hsj
  obtain ⟨a20, ha20⟩ : ∃ a20 : Nat, a20 = z6.length / 20 := ⟨_, rfl⟩
  have v0 : IntKind.i64.wrap ((z6.length : Int) / 20) = (a20 : Int) := by rw [wrap_id (by omega) (by omega)]; omega
  obtain ⟨d2, hd2⟩ : ∃ d2 : Nat, d2 = z7.length + a20 := ⟨_, rfl⟩
  have v1 : IntKind.i64.wrap ((z7.length : Int) + (a20 : Int)) = (d2 : Int) := by rw [wrap_id (by omega) (by omega)]; omega
  obtain ⟨m2, hm2⟩ : ∃ m2 : Nat, m2 = m + d2 := ⟨_, rfl⟩
  have v2 : IntKind.i64.wrap ((m : Int) + (d2 : Int)) = (m2 : Int) := by rw [wrap_id (by omega) (by omega)]; omega
  by_cases h50 : 50 < z7.length
  · have h50' := eq_true (show (50 : Int) < (z7.length : Int) by omega)
    have hno : ¬ (∀ t ∈ lg, lenP (at' t 7) ≤ 50) := fun h => by have := h _ hmj; rw [ha7] at this; omega
    repeat' first | (refine hK _ ?_; clear hK) | (refine hK _ _ ?_; clear hK) | (clear hK; refine hK _ ?_; clear hK) | (clear hK; clear hK; refine hK _ ?_; clear hK) | (clear hK; clear hK; clear hK; refine hK _ ?_; clear hK) | (clear hK; clear hK; clear hK; clear hK; refine hK _ ?_; clear hK) | (refine wSeq fun K hK => ?_) | ((first | refine wReg ?_ | refine wDrwQ rfl (by kernel_rfl) ?_ | refine wDrwI ?_ | refine wDrw (by kernel_rfl) ?_); simp only [List.map_cons, List.map_nil, strip]) | ((first | refine wIs fun K hK => ?_ | refine wOs fun K hK => ?_ | refine wQs fun K hK => ?_ | refine CallK_plain ?_ | refine CallQ_plain ?_ | refine CallR_plain ?_ | refine wCond ?_); simp [g0, g3, g4, g5, b5, g7, hr, hrl, hrg, hlt, hlt', hw, he, hQ, v0, v1, v2, h50']) | (refine wIn ?_; refine And.intro (by kernel_rfl) ?_; try simp only [thenA_n]) | (first | refine wBlock ?_ | refine wScope ?_) | ((first | refine wRet ?_ | refine wExit ?_ | refine wSkip ?_); try simp) | ((first | refine wLabel ?_ | refine wOn ?_ | refine wQn ?_); try simp only [thenA_n])
    all_goals refine hret _ hno ?_
    all_goals simp
  have h50' := eq_false (show ¬ (50 : Int) < (z7.length : Int) by omega)
  have hwq := hwq (by rw [ha7]; omega)
  rw [hwp] at hwq
  repeat' first | (refine farIn rows i r lg j _ z7 m2 (by omega) hr hlg hlt hQ rfl hok2 (by omega) (fl_ok hp).2 l1 ?_ ⟨?_, ?_, ?_, ?_, ?_⟩ ?_ ?_) | (refine hK _ ?_; clear hK) | (refine hK _ _ ?_; clear hK) | (clear hK; refine hK _ ?_; clear hK) | (clear hK; clear hK; refine hK _ ?_; clear hK) | (clear hK; clear hK; clear hK; refine hK _ ?_; clear hK) | (clear hK; clear hK; clear hK; clear hK; refine hK _ ?_; clear hK) | (refine wSeq fun K hK => ?_) | ((first | refine wReg ?_ | refine wDrwQ rfl (by kernel_rfl) ?_ | refine wDrwI ?_ | refine wDrw (by kernel_rfl) ?_); simp only [List.map_cons, List.map_nil, strip]) | ((first | refine wIs fun K hK => ?_ | refine wOs fun K hK => ?_ | refine wQs fun K hK => ?_ | refine CallK_plain ?_ | refine CallQ_plain ?_ | refine CallR_plain ?_ | refine wCond ?_); simp [g0, g3, g4, g5, b5, g7, hr, hrl, hrg, hlt, hlt', hw, he, hQ, v0, v1, v2, h50']) | (refine wIn ?_; refine And.intro (by kernel_rfl) ?_; try simp only [thenA_n]) | (first | refine wBlock ?_ | refine wScope ?_) | ((first | refine wRet ?_ | refine wExit ?_ | refine wSkip ?_); try simp) | ((first | refine wLabel ?_ | refine wOn ?_ | refine wQn ?_); try simp only [thenA_n])
  · intro st2 ⟨e0, e3, e4, e5, c5⟩ e7
    simp only [blockA_e, if_true, thenA_n]
    repeat' first | (refine hK _ ?_; clear hK) | (refine hK _ _ ?_; clear hK) | (clear hK; refine hK _ ?_; clear hK) | (clear hK; clear hK; refine hK _ ?_; clear hK) | (clear hK; clear hK; clear hK; refine hK _ ?_; clear hK) | (clear hK; clear hK; clear hK; clear hK; refine hK _ ?_; clear hK) | (refine wSeq fun K hK => ?_) | ((first | refine wReg ?_ | refine wDrwQ rfl (by kernel_rfl) ?_ | refine wDrwI ?_ | refine wDrw (by kernel_rfl) ?_); simp only [List.map_cons, List.map_nil, strip]) | ((first | refine wIs fun K hK => ?_ | refine wOs fun K hK => ?_ | refine wQs fun K hK => ?_ | refine CallK_plain ?_ | refine CallQ_plain ?_ | refine CallR_plain ?_ | refine wCond ?_); simp [e0, e3, e4, e5, c5, e7, hw]) | (refine wIn ?_; refine And.intro (by kernel_rfl) ?_; try simp only [thenA_n]) | (first | refine wBlock ?_ | refine wScope ?_) | ((first | refine wRet ?_ | refine wExit ?_ | refine wSkip ?_); try simp) | ((first | refine wLabel ?_ | refine wOn ?_ | refine wQn ?_); try simp only [thenA_n])
    refine hL _ (N - 1) (by omega) ⟨j + 1, m2 + (z7.map w5Pt).sum, by omega, by rw [hsj]; omega, by omega, fun t ht => ?_, ⟨?_, ?_, ?_, ?_, ?_⟩, ?_⟩
    · rw [htk] at ht
      rcases List.mem_append.1 ht with h | h
      · exact hall t h
      · rw [List.mem_singleton] at h; subst h; rw [ha7]; omega
    all_goals simp [e0, e3, e4, e5, c5, e7, hw]
  all_goals simp [g0, g3, g4, g5, b5, g7]
/- Messages: far. -/
set_option maxHeartbeats 32000000 in
theorem far25_con (rows : List (List PV)) (ho : ∀ r ∈ rows, fMs.ok r) (hz : ∀ r ∈ rows, Zs r) (hlen : rows.length ≤ 1048576) : ∃ D : Bool, ACon Try.prog 6 [.p (.sl 46 rows)] (.p (B D)) ∧ (D = false → Pass rows) := by
  suffices hall : ∀ D : Bool, (D = true ↔ farP rows) → ACon Try.prog 6 [.p (.sl 46 rows)] (.p (B D)) by
    by_cases h : farP rows
    · exact ⟨true, hall true (by simp [h]), fun h => by cases h⟩
    · exact ⟨false, hall false (by simp [h]), fun _ => pass_of h⟩
  intro D hD
  by_cases h300 : 300 < rows.length
  · have h300' := eq_true (show (300 : Int) < (rows.length : Int) by omega)
    rw [hD.2 (.inl h300)]
    refine wBody Try.tab Try.mixed Try.func6 rfl rfl Try.ntmps6 (by simp) (by simp) fun Q hr hn => ?_
    repeat' first | (refine hK _ ?_; clear hK) | (refine hK _ _ ?_; clear hK) | (clear hK; refine hK _ ?_; clear hK) | (clear hK; clear hK; refine hK _ ?_; clear hK) | (clear hK; clear hK; clear hK; refine hK _ ?_; clear hK) | (clear hK; clear hK; clear hK; clear hK; refine hK _ ?_; clear hK) | (refine wSeq fun K hK => ?_) | ((first | refine wReg ?_ | refine wDrwQ rfl (by kernel_rfl) ?_ | refine wDrwI ?_ | refine wDrw (by kernel_rfl) ?_); simp only [List.map_cons, List.map_nil, strip]) | ((first | refine wIs fun K hK => ?_ | refine wOs fun K hK => ?_ | refine wQs fun K hK => ?_ | refine CallK_plain ?_ | refine CallQ_plain ?_ | refine CallR_plain ?_ | refine wCond ?_); simp [h300']) | (refine wIn ?_; refine And.intro (by kernel_rfl) ?_; try simp only [thenA_n]) | (first | refine wBlock ?_ | refine wScope ?_) | ((first | refine wRet ?_ | refine wExit ?_ | refine wSkip ?_); try simp) | ((first | refine wLabel ?_ | refine wOn ?_ | refine wQn ?_); try simp only [thenA_n])
    all_goals apply hr
    all_goals simp [Try.f6]
  have h300' := eq_false (show ¬ (300 : Int) < (rows.length : Int) by omega)
  have hbad : (∃ r ∈ rows, ¬ Ok5 r) → D = true := fun h => hD.2 (.inr (.inl h))
  refine wBody Try.tab Try.mixed Try.func6 rfl rfl Try.ntmps6 (by simp) (by simp) fun Q hr hn => ?_
  repeat' first | (refine hK _ ?_; clear hK) | (refine hK _ _ ?_; clear hK) | (clear hK; refine hK _ ?_; clear hK) | (clear hK; clear hK; refine hK _ ?_; clear hK) | (clear hK; clear hK; clear hK; refine hK _ ?_; clear hK) | (clear hK; clear hK; clear hK; clear hK; refine hK _ ?_; clear hK) | (refine wSeq fun K hK => ?_) | ((first | refine wReg ?_ | refine wDrwQ rfl (by kernel_rfl) ?_ | refine wDrwI ?_ | refine wDrw (by kernel_rfl) ?_); simp only [List.map_cons, List.map_nil, strip]) | ((first | refine wIs fun K hK => ?_ | refine wOs fun K hK => ?_ | refine wQs fun K hK => ?_ | refine CallK_plain ?_ | refine CallQ_plain ?_ | refine CallR_plain ?_ | refine wCond ?_); simp [h300']) | (refine wIn ?_; refine And.intro (by kernel_rfl) ?_; try simp only [thenA_n]) | (first | refine wBlock ?_ | refine wScope ?_) | ((first | refine wRet ?_ | refine wExit ?_ | refine wSkip ?_); try simp) | ((first | refine wLabel ?_ | refine wOn ?_ | refine wQn ?_); try simp only [thenA_n])
  refine wLoop (fun N st => ∃ i n, i + N = rows.length ∧ n = ((rows.take i).map w5Ms).sum ∧ n ≤ i * 100000000000 ∧ (∀ r ∈ rows.take i, Ok5 r) ∧ st.s 0 = .p (.sl 46 rows) ∧ st.s 3 = .p (I (n : Nat)) ∧ st.s 4 = .p (I i)) rows.length ⟨0, 0, by simp⟩ fun K N st hL ⟨i, n, hi, hn, hnb, hall, g0, g3, g4⟩ => ?_
  by_cases hlt : i < rows.length
  case neg =>
    have hlt' : ¬ (i : Int) < rows.length := by omega
    rw [List.take_of_length_le (by omega)] at hn hall
    have hfp : farP rows ↔ (700 < n ∨ 200 < rows.length) := by
      rw [hn]
      unfold farP
      constructor
      · rintro (h | ⟨r, h1, h2⟩ | h | h)
        · exact absurd h h300
        · exact absurd (hall r h1) h2
        · exact .inl h
        · exact .inr h
      · rintro (h | h)
        · exact .inr (.inr (.inl h))
        · exact .inr (.inr (.inr h))
    rw [hfp] at hD
    clear hfp hn hall hbad
    by_cases h7 : 700 < n
    · have h7' := eq_true (show (700 : Int) < (n : Int) by omega)
      rw [hD.2 (.inl h7)] at hr
      repeat' first | (refine hK _ ?_; clear hK) | (refine hK _ _ ?_; clear hK) | (clear hK; refine hK _ ?_; clear hK) | (clear hK; clear hK; refine hK _ ?_; clear hK) | (clear hK; clear hK; clear hK; refine hK _ ?_; clear hK) | (clear hK; clear hK; clear hK; clear hK; refine hK _ ?_; clear hK) | (refine wSeq fun K hK => ?_) | ((first | refine wReg ?_ | refine wDrwQ rfl (by kernel_rfl) ?_ | refine wDrwI ?_ | refine wDrw (by kernel_rfl) ?_); simp only [List.map_cons, List.map_nil, strip]) | ((first | refine wIs fun K hK => ?_ | refine wOs fun K hK => ?_ | refine wQs fun K hK => ?_ | refine CallK_plain ?_ | refine CallQ_plain ?_ | refine CallR_plain ?_ | refine wCond ?_); simp [g0, g3, g4, hlt, hlt', h7']) | (refine wIn ?_; refine And.intro (by kernel_rfl) ?_; try simp only [thenA_n]) | (first | refine wBlock ?_ | refine wScope ?_) | ((first | refine wRet ?_ | refine wExit ?_ | refine wSkip ?_); try simp) | ((first | refine wLabel ?_ | refine wOn ?_ | refine wQn ?_); try simp only [thenA_n])
      all_goals apply hr
      all_goals simp [Try.f6]
    have h7' := eq_false (show ¬ (700 : Int) < (n : Int) by omega)
    by_cases h2 : 200 < rows.length
    · have h2' := eq_true (show (200 : Int) < (rows.length : Int) by omega)
      rw [hD.2 (.inr h2)] at hr
      repeat' first | (refine hK _ ?_; clear hK) | (refine hK _ _ ?_; clear hK) | (clear hK; refine hK _ ?_; clear hK) | (clear hK; clear hK; refine hK _ ?_; clear hK) | (clear hK; clear hK; clear hK; refine hK _ ?_; clear hK) | (clear hK; clear hK; clear hK; clear hK; refine hK _ ?_; clear hK) | (refine wSeq fun K hK => ?_) | ((first | refine wReg ?_ | refine wDrwQ rfl (by kernel_rfl) ?_ | refine wDrwI ?_ | refine wDrw (by kernel_rfl) ?_); simp only [List.map_cons, List.map_nil, strip]) | ((first | refine wIs fun K hK => ?_ | refine wOs fun K hK => ?_ | refine wQs fun K hK => ?_ | refine CallK_plain ?_ | refine CallQ_plain ?_ | refine CallR_plain ?_ | refine wCond ?_); simp [g0, g3, g4, hlt, hlt', h7', h2']) | (refine wIn ?_; refine And.intro (by kernel_rfl) ?_; try simp only [thenA_n]) | (first | refine wBlock ?_ | refine wScope ?_) | ((first | refine wRet ?_ | refine wExit ?_ | refine wSkip ?_); try simp) | ((first | refine wLabel ?_ | refine wOn ?_ | refine wQn ?_); try simp only [thenA_n])
      all_goals apply hr
      all_goals simp [Try.f6]
    · have h2' := eq_false (show ¬ (200 : Int) < (rows.length : Int) by omega)
      rw [show D = false from Bool.eq_false_iff.2 fun h => (hD.1 h).elim h7 h2] at hr
      repeat' first | (refine hK _ ?_; clear hK) | (refine hK _ _ ?_; clear hK) | (clear hK; refine hK _ ?_; clear hK) | (clear hK; clear hK; refine hK _ ?_; clear hK) | (clear hK; clear hK; clear hK; refine hK _ ?_; clear hK) | (clear hK; clear hK; clear hK; clear hK; refine hK _ ?_; clear hK) | (refine wSeq fun K hK => ?_) | ((first | refine wReg ?_ | refine wDrwQ rfl (by kernel_rfl) ?_ | refine wDrwI ?_ | refine wDrw (by kernel_rfl) ?_); simp only [List.map_cons, List.map_nil, strip]) | ((first | refine wIs fun K hK => ?_ | refine wOs fun K hK => ?_ | refine wQs fun K hK => ?_ | refine CallK_plain ?_ | refine CallQ_plain ?_ | refine CallR_plain ?_ | refine wCond ?_); simp [g0, g3, g4, hlt, hlt', h7', h2']) | (refine wIn ?_; refine And.intro (by kernel_rfl) ?_; try simp only [thenA_n]) | (first | refine wBlock ?_ | refine wScope ?_) | ((first | refine wRet ?_ | refine wExit ?_ | refine wSkip ?_); try simp) | ((first | refine wLabel ?_ | refine wOn ?_ | refine wQn ?_); try simp only [thenA_n])
      all_goals apply hr
      all_goals simp [Try.f6]
  have hlt' : (i : Int) < rows.length := by omega
  have hw := wrapS i _ hlt (by omega)
  have he : rows[i]? = some rows[i] := List.getElem?_eq_getElem hlt
  have hsn := sum_snoc w5Ms hlt
  have hmem := List.getElem_mem hlt
  have hok := ho _ hmem
  have hzz := hz _ hmem
  have htk : rows.take (i + 1) = rows.take i ++ [rows[i]] := List.take_succ_eq_append_getElem hlt
  generalize hQ : rows[i] = r at *
  have hbr : ¬ Ok5 r → D = true := fun h => hbad ⟨r, hmem, h⟩
  have h46 := fMs_L.len _ hok
  rw [fMs_n] at h46
  obtain ⟨mk, lg, ns, ss, cm, ma, ps, tc, os, pm, dl, q14, q27, q18, q19, q24, q34, q35, q36, q40, q42, q43, o35, o27, o18, o40⟩ : ∃ mk lg ns ss cm ma ps tc os pm dl, r[14]? = some (.sl 2 mk) ∧ r[27]? = some (.sl 8 lg) ∧ r[18]? = some (.sl 5 ns) ∧ r[19]? = some (.sl 1 ss) ∧ r[24]? = some (.sl 4 cm) ∧ r[34]? = some (SB ma) ∧ r[35]? = some (.sl 11 ps) ∧ r[36]? = some (.sl 1 tc) ∧ r[40]? = some (.sl 6 os) ∧ r[42]? = some (.sl 4 pm) ∧ r[43]? = some (.sl 1 dl) ∧ (∀ q ∈ ps, fPt.ok q) ∧ (∀ q ∈ lg, fTx.ok q) ∧ (∀ q ∈ ns, fNd.ok q) ∧ (∀ q ∈ os, fOp.ok q) := by
    obtain ⟨m0, m1, m2, m3, m4, m5, m6, m7, m8, m9, m10, m11, m12, m13, m14, m15, m16, m17, m18, m19, m20, m21, m22, m23, m24, m25, m26, m27, m28, m29, m30, m31, m32, m33, m34, m35, m36, m37, m38, m39, m40, m41, m42, m43, m44, m45, hx, k0, k1, k2, k3, k4, k5, k6, k7, k8, k9, k10, k11⟩ := fMs_sh hok
    obtain ⟨p0, p1⟩ := k8
    obtain ⟨p1, p2⟩ := p1
    obtain ⟨p2, p3⟩ := p2
    change (fl 8 fTx).ok [.sl 8 m27] at p3
    obtain ⟨s1, s2⟩ := p2
    change (fl 5 fNd).ok [.sl 5 m18] at s1
    obtain ⟨_, _, _, _, _, _, _, _, hy, -, -, -, -, -, -, t7⟩ := fTx_sh k9
    simp only [List.cons.injEq, PV.sl.injEq, true_and] at hy
    obtain ⟨_, _, _, _, _, _, _, _, _, hv, -, -, -, t3, -⟩ := fRq_sh k11
    simp only [List.cons.injEq, PV.sl.injEq, true_and] at hv
    refine ⟨m14, m27, m18, m19, m24, m34, m35, m36, m40, m42, m43, by rw [hx]; rfl, by rw [hx]; rfl, by rw [hx]; rfl, by rw [hx]; rfl, by rw [hx]; rfl, by rw [hx]; rfl, by rw [hx]; rfl, by rw [hx]; rfl, by rw [hx]; rfl, by rw [hx]; rfl, by rw [hx]; rfl, ?_, (fl_ok p3).2, (fl_ok s1).2, ?_⟩
    · rw [hy.2.2.2.2.2.2.2.1]; exact (fl_ok t7).2
    · rw [hv.2.2.2.1]; exact (fl_ok t3).2
  have zz : ∀ {j : Nat} {p : PV}, r[j]? = some p → Z1 p := fun {j : Nat} {p : PV} (h : r[j]? = some p) => hzz p (List.mem_of_getElem? h)
  have z14 := z1_len (zz q14)
  have z27 := z1_len (zz q27)
  have z18 := z1_len (zz q18)
  have z19 := z1_len (zz q19)
  have z24 := z1_len (zz q24)
  have z34 := z1_str (zz q34)
  have z35 := z1_len (zz q35)
  have z36 := z1_len (zz q36)
  have z40 := z1_len (zz q40)
  have z42 := z1_len (zz q42)
  have z43 := z1_len (zz q43)
  have hW : w5Ms r = (1 + mk.length + tc.length + lg.length + ns.length + ss.length + cm.length + ps.length + os.length + pm.length + dl.length + ma.length / 20) + (ps.map w5Pt).sum + (lg.map w5Tx).sum + (ns.map w5Nd).sum + (os.map w5Op).sum := by
    unfold w5Ms w5Hd
    rw [at_of q14, at_of q27, at_of q18, at_of q19, at_of q24, at_of q34, at_of q35, at_of q36, at_of q40, at_of q42, at_of q43]
    simp only [lenP_SB, lenP_sl, rowsP_sl]
  have hOk : Ok5 r ↔ (ps.length ≤ 50 ∧ lg.length ≤ 50 ∧ (∀ t ∈ lg, lenP (at' t 7) ≤ 50) ∧ ns.length ≤ 100 ∧ os.length ≤ 50) := by
    constructor
    · rintro ⟨a, b, c, d, e⟩
      rw [at_of q35] at a; rw [at_of q27] at b c; rw [at_of q18] at d; rw [at_of q40] at e
      exact ⟨a, b, c, d, e⟩
    · rintro ⟨a, b, c, d, e⟩
      exact ⟨by rw [at_of q35]; exact a, by rw [at_of q27]; exact b, by rw [at_of q27]; exact c, by rw [at_of q18]; exact d, by rw [at_of q40]; exact e⟩
  have gg := fun {j : Nat} {p : PV} (h : r[j]? = some p) => (fun hh => by rw [List.getElem?_eq_getElem hh] at h; exact Option.some.inj h : ∀ hh, r[j]'hh = p)
  have r14 := gg q14
  have r27 := gg q27
  have r18 := gg q18
  have r19 := gg q19
  have r24 := gg q24
  have r34 := gg q34
  have r35 := gg q35
  have r36 := gg q36
  have r40 := gg q40
  have r42 := gg q42
  have r43 := gg q43
  have ht46 : r.take 46 = r := List.take_of_length_le (by omega)
  have ht46v : (r.map V.p).take 46 = r.map V.p := List.take_of_length_le (by simp; omega)
  obtain ⟨a1, e1⟩ : ∃ a : Nat, a = 1 + mk.length := ⟨_, rfl⟩
  have v1 : IntKind.i64.wrap (1 + (mk.length : Int)) = (a1 : Int) := by rw [wrap_id (by omega) (by omega)]; omega
  obtain ⟨a2, e2⟩ : ∃ a : Nat, a = a1 + tc.length := ⟨_, rfl⟩
  have v2 : IntKind.i64.wrap ((a1 : Int) + (tc.length : Int)) = (a2 : Int) := by rw [wrap_id (by omega) (by omega)]; omega
  obtain ⟨a3, e3⟩ : ∃ a : Nat, a = a2 + lg.length := ⟨_, rfl⟩
  have v3 : IntKind.i64.wrap ((a2 : Int) + (lg.length : Int)) = (a3 : Int) := by rw [wrap_id (by omega) (by omega)]; omega
  obtain ⟨a4, e4⟩ : ∃ a : Nat, a = a3 + ns.length := ⟨_, rfl⟩
  have v4 : IntKind.i64.wrap ((a3 : Int) + (ns.length : Int)) = (a4 : Int) := by rw [wrap_id (by omega) (by omega)]; omega
  obtain ⟨a5, e5⟩ : ∃ a : Nat, a = a4 + ss.length := ⟨_, rfl⟩
  have v5 : IntKind.i64.wrap ((a4 : Int) + (ss.length : Int)) = (a5 : Int) := by rw [wrap_id (by omega) (by omega)]; omega
  obtain ⟨a6, e6⟩ : ∃ a : Nat, a = a5 + cm.length := ⟨_, rfl⟩
  have v6 : IntKind.i64.wrap ((a5 : Int) + (cm.length : Int)) = (a6 : Int) := by rw [wrap_id (by omega) (by omega)]; omega
  obtain ⟨a7, e7⟩ : ∃ a : Nat, a = a6 + ps.length := ⟨_, rfl⟩
  have v7 : IntKind.i64.wrap ((a6 : Int) + (ps.length : Int)) = (a7 : Int) := by rw [wrap_id (by omega) (by omega)]; omega
  obtain ⟨a8, e8⟩ : ∃ a : Nat, a = a7 + os.length := ⟨_, rfl⟩
  have v8 : IntKind.i64.wrap ((a7 : Int) + (os.length : Int)) = (a8 : Int) := by rw [wrap_id (by omega) (by omega)]; omega
  obtain ⟨a9, e9⟩ : ∃ a : Nat, a = a8 + pm.length := ⟨_, rfl⟩
  have v9 : IntKind.i64.wrap ((a8 : Int) + (pm.length : Int)) = (a9 : Int) := by rw [wrap_id (by omega) (by omega)]; omega
  obtain ⟨b1, f1⟩ : ∃ a : Nat, a = a9 + dl.length := ⟨_, rfl⟩
  have u1 : IntKind.i64.wrap ((a9 : Int) + (dl.length : Int)) = (b1 : Int) := by rw [wrap_id (by omega) (by omega)]; omega
  obtain ⟨b2, f2⟩ : ∃ a : Nat, a = ma.length / 20 := ⟨_, rfl⟩
  have u2 : IntKind.i64.wrap ((ma.length : Int) / 20) = (b2 : Int) := by rw [wrap_id (by omega) (by omega)]; omega
  obtain ⟨b3, f3⟩ : ∃ a : Nat, a = b1 + b2 := ⟨_, rfl⟩
  have u3 : IntKind.i64.wrap ((b1 : Int) + (b2 : Int)) = (b3 : Int) := by rw [wrap_id (by omega) (by omega)]; omega
  obtain ⟨n1, f4⟩ : ∃ a : Nat, a = n + b3 := ⟨_, rfl⟩
  have u4 : IntKind.i64.wrap ((n : Int) + (b3 : Int)) = (n1 : Int) := by rw [wrap_id (by omega) (by omega)]; omega
  by_cases h35 : ps.length ≤ 50
  case neg =>
    have h35' := eq_true (show (50 : Int) < (ps.length : Int) by omega)
    rw [hbr (fun h => h35 (hOk.1 h).1)] at hr
    repeat' first | (refine hK _ ?_; clear hK) | (refine hK _ _ ?_; clear hK) | (clear hK; refine hK _ ?_; clear hK) | (clear hK; clear hK; refine hK _ ?_; clear hK) | (clear hK; clear hK; clear hK; refine hK _ ?_; clear hK) | (clear hK; clear hK; clear hK; clear hK; refine hK _ ?_; clear hK) | (refine wSeq fun K hK => ?_) | ((first | refine wReg ?_ | refine wDrwQ rfl (by kernel_rfl) ?_ | refine wDrwI ?_ | refine wDrw (by kernel_rfl) ?_); simp only [List.map_cons, List.map_nil, strip]) | ((first | refine wIs fun K hK => ?_ | refine wOs fun K hK => ?_ | refine wQs fun K hK => ?_ | refine CallK_plain ?_ | refine CallQ_plain ?_ | refine CallR_plain ?_ | refine wCond ?_); simp [g0, g3, g4, hlt, hlt', he, hQ, h46, q14, q27, q18, q19, q24, q34, q35, q36, q40, q42, q43, r14, r27, r18, r19, r24, r34, r35, r36, r40, r42, r43, ht46, ht46v, v1, v2, v3, v4, v5, v6, v7, v8, v9, u1, u2, u3, u4, h35']) | (refine wIn ?_; refine And.intro (by kernel_rfl) ?_; try simp only [thenA_n]) | (first | refine wBlock ?_ | refine wScope ?_) | ((first | refine wRet ?_ | refine wExit ?_ | refine wSkip ?_); try simp) | ((first | refine wLabel ?_ | refine wOn ?_ | refine wQn ?_); try simp only [thenA_n])
    all_goals apply hr
    all_goals simp [Try.f6]
  have h35' := eq_false (show ¬ (50 : Int) < (ps.length : Int) by omega)
  repeat' first | (refine hK _ ?_; clear hK) | (refine hK _ _ ?_; clear hK) | (clear hK; refine hK _ ?_; clear hK) | (clear hK; clear hK; refine hK _ ?_; clear hK) | (clear hK; clear hK; clear hK; refine hK _ ?_; clear hK) | (clear hK; clear hK; clear hK; clear hK; refine hK _ ?_; clear hK) | (refine wSeq fun K hK => ?_) | ((first | refine wReg ?_ | refine wDrwQ rfl (by kernel_rfl) ?_ | refine wDrwI ?_ | refine wDrw (by kernel_rfl) ?_); simp only [List.map_cons, List.map_nil, strip]) | ((first | refine wIs fun K hK => ?_ | refine wOs fun K hK => ?_ | refine wQs fun K hK => ?_ | refine CallK_plain ?_ | refine CallQ_plain ?_ | refine CallR_plain ?_ | refine wCond ?_); simp [g0, g3, g4, hlt, hlt', he, hQ, h46, q14, q27, q18, q19, q24, q34, q35, q36, q40, q42, q43, r14, r27, r18, r19, r24, r34, r35, r36, r40, r42, r43, ht46, ht46v, v1, v2, v3, v4, v5, v6, v7, v8, v9, u1, u2, u3, u4, h35']) | (refine wIn ?_; refine And.intro (by kernel_rfl) ?_; try simp only [thenA_n]) | (first | refine wBlock ?_ | refine wScope ?_) | ((first | refine wRet ?_ | refine wExit ?_ | refine wSkip ?_); try simp) | ((first | refine wLabel ?_ | refine wOn ?_ | refine wQn ?_); try simp only [thenA_n])
  refine farPs rows i r ps n1 (by omega) q35 (by omega) o35 (zz q35) ?_ ⟨?_, ?_, ?_, ?_, ?_⟩ ?_
  rotate_left 1
  any_goals (simp [g0, g3, g4, he, hQ, ht46, ht46v, u4]; done)
  have zz35 := zz q35
  clear g0 g3 g4 he v1 v2 v3 v4 v5 v6 v7 v8 v9 u1 u2 u3 u4 h35' q14 q19 q24 q34 q35 q36 q42 q43 r14 r19 r24 r34 r35 r36 r42 r43 ht46 ht46v
  have s35 : (ps.map w5Pt).sum ≤ 100000000 := by
    have h4 : (ps.map w5Pt).sum ≤ (ps.map fun _ => 2000000).sum := sum_le fun q hq => w5Pt_le (o35 q hq) (z1_row (zz35) hq)
    rw [sum_const] at h4; omega
  obtain ⟨n2, f5⟩ : ∃ a : Nat, a = n1 + (ps.map w5Pt).sum := ⟨_, rfl⟩
  rw [← f5]
  rintro st2 ⟨c0, c3, c4, c5, d5⟩
  simp only [blockA_e, if_true, thenA_n]
  by_cases h27 : lg.length ≤ 50
  case neg =>
    have h27' := eq_true (show (50 : Int) < (lg.length : Int) by omega)
    rw [hbr (fun h => h27 (hOk.1 h).2.1)] at hr
    repeat' first | (refine hK _ ?_; clear hK) | (refine hK _ _ ?_; clear hK) | (clear hK; refine hK _ ?_; clear hK) | (clear hK; clear hK; refine hK _ ?_; clear hK) | (clear hK; clear hK; clear hK; refine hK _ ?_; clear hK) | (clear hK; clear hK; clear hK; clear hK; refine hK _ ?_; clear hK) | (refine wSeq fun K hK => ?_) | ((first | refine wReg ?_ | refine wDrwQ rfl (by kernel_rfl) ?_ | refine wDrwI ?_ | refine wDrw (by kernel_rfl) ?_); simp only [List.map_cons, List.map_nil, strip]) | ((first | refine wIs fun K hK => ?_ | refine wOs fun K hK => ?_ | refine wQs fun K hK => ?_ | refine CallK_plain ?_ | refine CallQ_plain ?_ | refine CallR_plain ?_ | refine wCond ?_); simp [c0, c3, c4, c5, d5, hlt, hlt', hw, q27, q18, q40, r27, r18, r40, h46, h27']) | (refine wIn ?_; refine And.intro (by kernel_rfl) ?_; try simp only [thenA_n]) | (first | refine wBlock ?_ | refine wScope ?_) | ((first | refine wRet ?_ | refine wExit ?_ | refine wSkip ?_); try simp) | ((first | refine wLabel ?_ | refine wOn ?_ | refine wQn ?_); try simp only [thenA_n])
    all_goals apply hr
    all_goals simp [Try.f6]
  have h27' := eq_false (show ¬ (50 : Int) < (lg.length : Int) by omega)
  repeat' first | (refine hK _ ?_; clear hK) | (refine hK _ _ ?_; clear hK) | (clear hK; refine hK _ ?_; clear hK) | (clear hK; clear hK; refine hK _ ?_; clear hK) | (clear hK; clear hK; clear hK; refine hK _ ?_; clear hK) | (clear hK; clear hK; clear hK; clear hK; refine hK _ ?_; clear hK) | (refine wSeq fun K hK => ?_) | ((first | refine wReg ?_ | refine wDrwQ rfl (by kernel_rfl) ?_ | refine wDrwI ?_ | refine wDrw (by kernel_rfl) ?_); simp only [List.map_cons, List.map_nil, strip]) | ((first | refine wIs fun K hK => ?_ | refine wOs fun K hK => ?_ | refine wQs fun K hK => ?_ | refine CallK_plain ?_ | refine CallQ_plain ?_ | refine CallR_plain ?_ | refine wCond ?_); simp [c0, c3, c4, c5, d5, hlt, hlt', hw, q27, q18, q40, r27, r18, r40, h46, h27']) | (refine wIn ?_; refine And.intro (by kernel_rfl) ?_; try simp only [thenA_n]) | (first | refine wBlock ?_ | refine wScope ?_) | ((first | refine wRet ?_ | refine wExit ?_ | refine wSkip ?_); try simp) | ((first | refine wLabel ?_ | refine wOn ?_ | refine wQn ?_); try simp only [thenA_n])
  refine farLg rows i r lg n2 (by omega) q27 (by omega) o27 (zz q27) hmem ?_ ?_ ⟨?_, ?_, ?_, ?_, ?_⟩ ?_
  rotate_left 2
  any_goals (simp [c0, c3, c4, c5, d5]; done)
  rotate_left 1
  · intro st3 hno h2
    rw [hbr (fun h => hno (hOk.1 h).2.2.1)] at hr
    apply hr
    simp [Try.f6, h2]
  clear c0 c3 c4 c5 d5
  rintro st3 ⟨c0, c3, c4, c5, d5⟩ hall27
  simp only [blockA_e, if_true, thenA_n]
  have s27 : (lg.map w5Tx).sum ≤ 10000000000 := by
    have h4 : (lg.map w5Tx).sum ≤ (lg.map fun _ => 200000000).sum := sum_le fun q hq => w5Tx_le (o27 q hq) (z1_row (zz q27) hq) (hall27 q hq)
    rw [sum_const] at h4; omega
  obtain ⟨n3, f6⟩ : ∃ a : Nat, a = n2 + (lg.map w5Tx).sum := ⟨_, rfl⟩
  rw [← f6] at c3
  by_cases h18 : ns.length ≤ 100
  case neg =>
    have h18' := eq_true (show (100 : Int) < (ns.length : Int) by omega)
    rw [hbr (fun h => h18 (hOk.1 h).2.2.2.1)] at hr
    repeat' first | (refine hK _ ?_; clear hK) | (refine hK _ _ ?_; clear hK) | (clear hK; refine hK _ ?_; clear hK) | (clear hK; clear hK; refine hK _ ?_; clear hK) | (clear hK; clear hK; clear hK; refine hK _ ?_; clear hK) | (clear hK; clear hK; clear hK; clear hK; refine hK _ ?_; clear hK) | (refine wSeq fun K hK => ?_) | ((first | refine wReg ?_ | refine wDrwQ rfl (by kernel_rfl) ?_ | refine wDrwI ?_ | refine wDrw (by kernel_rfl) ?_); simp only [List.map_cons, List.map_nil, strip]) | ((first | refine wIs fun K hK => ?_ | refine wOs fun K hK => ?_ | refine wQs fun K hK => ?_ | refine CallK_plain ?_ | refine CallQ_plain ?_ | refine CallR_plain ?_ | refine wCond ?_); simp [c0, c3, c4, c5, d5, hlt, hlt', hw, q27, q18, q40, r27, r18, r40, h46, h18']) | (refine wIn ?_; refine And.intro (by kernel_rfl) ?_; try simp only [thenA_n]) | (first | refine wBlock ?_ | refine wScope ?_) | ((first | refine wRet ?_ | refine wExit ?_ | refine wSkip ?_); try simp) | ((first | refine wLabel ?_ | refine wOn ?_ | refine wQn ?_); try simp only [thenA_n])
    all_goals apply hr
    all_goals simp [Try.f6]
  have h18' := eq_false (show ¬ (100 : Int) < (ns.length : Int) by omega)
  repeat' first | (refine hK _ ?_; clear hK) | (refine hK _ _ ?_; clear hK) | (clear hK; refine hK _ ?_; clear hK) | (clear hK; clear hK; refine hK _ ?_; clear hK) | (clear hK; clear hK; clear hK; refine hK _ ?_; clear hK) | (clear hK; clear hK; clear hK; clear hK; refine hK _ ?_; clear hK) | (refine wSeq fun K hK => ?_) | ((first | refine wReg ?_ | refine wDrwQ rfl (by kernel_rfl) ?_ | refine wDrwI ?_ | refine wDrw (by kernel_rfl) ?_); simp only [List.map_cons, List.map_nil, strip]) | ((first | refine wIs fun K hK => ?_ | refine wOs fun K hK => ?_ | refine wQs fun K hK => ?_ | refine CallK_plain ?_ | refine CallQ_plain ?_ | refine CallR_plain ?_ | refine wCond ?_); simp [c0, c3, c4, c5, d5, hlt, hlt', hw, q27, q18, q40, r27, r18, r40, h46, h18']) | (refine wIn ?_; refine And.intro (by kernel_rfl) ?_; try simp only [thenA_n]) | (first | refine wBlock ?_ | refine wScope ?_) | ((first | refine wRet ?_ | refine wExit ?_ | refine wSkip ?_); try simp) | ((first | refine wLabel ?_ | refine wOn ?_ | refine wQn ?_); try simp only [thenA_n])
  refine farNs rows i r ns n3 (by omega) q18 (by omega) o18 (zz q18) ?_ ⟨?_, ?_, ?_, ?_, ?_⟩ ?_
  rotate_left 1
  any_goals (simp [c0, c3, c4, c5, d5]; done)
  clear c0 c3 c4 c5 d5
  rintro st4 ⟨c0, c3, c4, c5, d5⟩
  simp only [blockA_e, if_true, thenA_n]
  have s18 : (ns.map w5Nd).sum ≤ 20000000 := by
    have h4 : (ns.map w5Nd).sum ≤ (ns.map fun _ => 200000).sum := sum_le fun q hq => by
      have hzq := z1_row (zz q18) hq
      obtain ⟨y0, y1, y2, y3, y4, rfl, -⟩ := fNd_sh (o18 q hq)
      have l2 := z1_str (hzq (SB y0) (by simp))
      have l3 := z1_str (hzq (SB y1) (by simp))
      show (lenP (SB y0) + lenP (SB y1)) / 20 ≤ _
      simp only [lenP_SB]; omega
    rw [sum_const] at h4; omega
  obtain ⟨n4, f7⟩ : ∃ a : Nat, a = n3 + (ns.map w5Nd).sum := ⟨_, rfl⟩
  rw [← f7] at c3
  by_cases h40 : os.length ≤ 50
  case neg =>
    have h40' := eq_true (show (50 : Int) < (os.length : Int) by omega)
    rw [hbr (fun h => h40 (hOk.1 h).2.2.2.2)] at hr
    repeat' first | (refine hK _ ?_; clear hK) | (refine hK _ _ ?_; clear hK) | (clear hK; refine hK _ ?_; clear hK) | (clear hK; clear hK; refine hK _ ?_; clear hK) | (clear hK; clear hK; clear hK; refine hK _ ?_; clear hK) | (clear hK; clear hK; clear hK; clear hK; refine hK _ ?_; clear hK) | (refine wSeq fun K hK => ?_) | ((first | refine wReg ?_ | refine wDrwQ rfl (by kernel_rfl) ?_ | refine wDrwI ?_ | refine wDrw (by kernel_rfl) ?_); simp only [List.map_cons, List.map_nil, strip]) | ((first | refine wIs fun K hK => ?_ | refine wOs fun K hK => ?_ | refine wQs fun K hK => ?_ | refine CallK_plain ?_ | refine CallQ_plain ?_ | refine CallR_plain ?_ | refine wCond ?_); simp [c0, c3, c4, c5, d5, hlt, hlt', hw, q27, q18, q40, r27, r18, r40, h46, h40']) | (refine wIn ?_; refine And.intro (by kernel_rfl) ?_; try simp only [thenA_n]) | (first | refine wBlock ?_ | refine wScope ?_) | ((first | refine wRet ?_ | refine wExit ?_ | refine wSkip ?_); try simp) | ((first | refine wLabel ?_ | refine wOn ?_ | refine wQn ?_); try simp only [thenA_n])
    all_goals apply hr
    all_goals simp [Try.f6]
  have h40' := eq_false (show ¬ (50 : Int) < (os.length : Int) by omega)
  repeat' first | (refine hK _ ?_; clear hK) | (refine hK _ _ ?_; clear hK) | (clear hK; refine hK _ ?_; clear hK) | (clear hK; clear hK; refine hK _ ?_; clear hK) | (clear hK; clear hK; clear hK; refine hK _ ?_; clear hK) | (clear hK; clear hK; clear hK; clear hK; refine hK _ ?_; clear hK) | (refine wSeq fun K hK => ?_) | ((first | refine wReg ?_ | refine wDrwQ rfl (by kernel_rfl) ?_ | refine wDrwI ?_ | refine wDrw (by kernel_rfl) ?_); simp only [List.map_cons, List.map_nil, strip]) | ((first | refine wIs fun K hK => ?_ | refine wOs fun K hK => ?_ | refine wQs fun K hK => ?_ | refine CallK_plain ?_ | refine CallQ_plain ?_ | refine CallR_plain ?_ | refine wCond ?_); simp [c0, c3, c4, c5, d5, hlt, hlt', hw, q27, q18, q40, r27, r18, r40, h46, h40']) | (refine wIn ?_; refine And.intro (by kernel_rfl) ?_; try simp only [thenA_n]) | (first | refine wBlock ?_ | refine wScope ?_) | ((first | refine wRet ?_ | refine wExit ?_ | refine wSkip ?_); try simp) | ((first | refine wLabel ?_ | refine wOn ?_ | refine wQn ?_); try simp only [thenA_n])
  refine farOs rows i r os n4 (by omega) q40 (by omega) o40 (zz q40) ?_ ⟨?_, ?_, ?_, ?_, ?_⟩ ?_
  rotate_left 1
  any_goals (simp [c0, c3, c4, c5, d5]; done)
  clear c0 c3 c4 c5 d5
  rintro st5 ⟨c0, c3, c4, c5, d5⟩
  simp only [blockA_e, if_true, thenA_n]
  have s40 : (os.map w5Op).sum ≤ 20000000 := by
    have h4 : (os.map w5Op).sum ≤ (os.map fun _ => 200000).sum := sum_le fun q hq => by
      have hzq := z1_row (zz q40) hq
      obtain ⟨y0, y1, y2, y3, y4, y5, rfl, -⟩ := fOp_sh (o40 q hq)
      have l2 := z1_str (hzq (SB y1) (by simp))
      have l3 := z1_str (hzq (SB y2) (by simp))
      show (lenP (SB y1) + lenP (SB y2)) / 20 ≤ _
      simp only [lenP_SB]; omega
    rw [sum_const] at h4; omega
  obtain ⟨n5, f8⟩ : ∃ a : Nat, a = n4 + (os.map w5Op).sum := ⟨_, rfl⟩
  rw [← f8] at c3
  have hO5 : Ok5 r := hOk.2 ⟨h35, h27, hall27, h18, h40⟩
  repeat' first | (refine hK _ ?_; clear hK) | (refine hK _ _ ?_; clear hK) | (clear hK; refine hK _ ?_; clear hK) | (clear hK; clear hK; refine hK _ ?_; clear hK) | (clear hK; clear hK; clear hK; refine hK _ ?_; clear hK) | (clear hK; clear hK; clear hK; clear hK; refine hK _ ?_; clear hK) | (refine wSeq fun K hK => ?_) | ((first | refine wReg ?_ | refine wDrwQ rfl (by kernel_rfl) ?_ | refine wDrwI ?_ | refine wDrw (by kernel_rfl) ?_); simp only [List.map_cons, List.map_nil, strip]) | ((first | refine wIs fun K hK => ?_ | refine wOs fun K hK => ?_ | refine wQs fun K hK => ?_ | refine CallK_plain ?_ | refine CallQ_plain ?_ | refine CallR_plain ?_ | refine wCond ?_); simp [c0, c3, c4, c5, d5, hw]) | (refine wIn ?_; refine And.intro (by kernel_rfl) ?_; try simp only [thenA_n]) | (first | refine wBlock ?_ | refine wScope ?_) | ((first | refine wRet ?_ | refine wExit ?_ | refine wSkip ?_); try simp) | ((first | refine wLabel ?_ | refine wOn ?_ | refine wQn ?_); try simp only [thenA_n])
  refine hL _ (N - 1) (by omega) ⟨i + 1, n5, by omega, by rw [hsn, hW]; omega, by omega, fun q hq => ?_, ?_⟩
  · rw [htk] at hq
    rcases List.mem_append.1 hq with h | h
    · exact hall q h
    · rw [List.mem_singleton] at h; subst h; exact hO5
  · simp [c0, c3, c4, hw]
/- Records, the document's: numbers laid one behind the other; zxids, lists of numbers, members. -/
/-- The bytes of some numbers. -/
def catZ (l : List Int) : List UInt8 := (l.map fun n => enc (zz n)).flatten
theorem catZ_take {l : List Int} {k : Nat} (h : k < l.length) : catZ (l.take (k + 1)) = catZ (l.take k) ++ enc (zz l[k]) := by
  unfold catZ; rw [List.take_succ_eq_append_getElem h, List.map_append, List.flatten_append]; simp
theorem catZ_len {l : List Int} (h : ∀ n ∈ l, okI n) : ∀ k, (catZ (l.take k)).length ≤ 10 * k := by
  intro k
  induction k with
  | zero => simp [catZ]
  | succ k ih =>
    by_cases hk : k < l.length
    · rw [catZ_take hk, List.length_append]
      have := enc_len10 (zz_lt (h _ (List.getElem_mem hk)))
      omega
    · rw [List.take_of_length_le (by omega)] at ih ⊢
      omega
set_option maxHeartbeats 1000000 in
theorem nums12_con (b : List UInt8) (l : List Int) (h : ∀ n ∈ l, okI n) (hl : l.length ≤ 1000000) (hb : b.length ≤ 50000000) : ACon Try.prog 40 [.p (.sl 1 (by8 b)), .p (.sl 1 (ints l))] (.p (.sl 1 (by8 (b ++ catZ l)))) := by
  refine wBody Try.tab Try.mixed Try.func40 rfl rfl Try.ntmps40 (by simp) (by simp) fun Q hr hn => ?_
  repeat' first | (refine hK _ ?_; clear hK) | (refine hK _ _ ?_; clear hK) | (clear hK; refine hK _ ?_; clear hK) | (clear hK; clear hK; refine hK _ ?_; clear hK) | (clear hK; clear hK; clear hK; refine hK _ ?_; clear hK) | (clear hK; clear hK; clear hK; clear hK; refine hK _ ?_; clear hK) | (refine wSeq fun K hK => ?_) | ((first | refine wReg ?_ | refine wDrwQ rfl (by kernel_rfl) ?_ | refine wDrwI ?_ | refine wDrw (by kernel_rfl) ?_); simp only [List.map_cons, List.map_nil, strip]) | ((first | refine wIs fun K hK => ?_ | refine wOs fun K hK => ?_ | refine wQs fun K hK => ?_ | refine CallK_plain ?_ | refine CallQ_plain ?_ | refine CallR_plain ?_ | refine wCond ?_); simp) | (refine wIn ?_; refine And.intro (by kernel_rfl) ?_; try simp only [thenA_n]) | (first | refine wBlock ?_ | refine wScope ?_) | ((first | refine wRet ?_ | refine wExit ?_ | refine wSkip ?_); try simp) | ((first | refine wLabel ?_ | refine wOn ?_ | refine wQn ?_); try simp only [thenA_n])
  refine wLoop (fun N st => ∃ k, k + N = l.length ∧ st.s 0 = .p (.sl 1 (by8 (b ++ catZ (l.take k)))) ∧ st.s 7 = .p (.sl 1 (ints l)) ∧ st.s 8 = .p (I l.length) ∧ st.s 9 = .p (I k)) l.length ⟨0, by simp [catZ]⟩ fun K N st hL ⟨k, hk, g0, g7, g8, g9⟩ => ?_
  by_cases hlt : k < l.length
  · have hlt' : (k : Int) < l.length := by omega
    have hw := wrapS k _ hlt (by omega)
    have he := ints_get hlt
    have hln := catZ_len h k
    have c := (putInt01_con (b ++ catZ (l.take k)) l[k] (h _ (List.getElem_mem hlt)) (by rw [List.length_append]; omega)).toPure
    rw [List.append_assoc, ← catZ_take hlt] at c
    repeat' first | (refine hK _ ?_; clear hK) | (refine hK _ _ ?_; clear hK) | (clear hK; refine hK _ ?_; clear hK) | (clear hK; clear hK; refine hK _ ?_; clear hK) | (clear hK; clear hK; clear hK; refine hK _ ?_; clear hK) | (clear hK; clear hK; clear hK; clear hK; refine hK _ ?_; clear hK) | (refine wSeq fun K hK => ?_) | ((first | refine wReg ?_ | refine wDrwQ rfl (by kernel_rfl) ?_ | refine wDrwI ?_ | refine wDrw (by kernel_rfl) ?_); simp only [List.map_cons, List.map_nil, strip]) | ((first | refine wIs fun K hK => ?_ | refine wOs fun K hK => ?_ | refine wQs fun K hK => ?_ | refine CallK_plain ?_ | refine CallQ_plain ?_ | refine CallR_plain ?_ | refine wCond ?_); simp [g0, g7, g8, g9, hlt, hlt', hw, he]) | (refine wIn ?_; refine And.intro (by kernel_rfl) ?_; try simp only [thenA_n]) | (first | refine wBlock ?_ | refine wScope ?_) | ((first | refine wRet ?_ | refine wExit ?_ | refine wSkip ?_); try simp) | ((first | refine wLabel ?_ | refine wOn ?_ | refine wQn ?_); try simp only [thenA_n]) | (refine CallE.pure (c) rfl ?_) | (refine CallE.lent (c) rfl ?_) | (refine CallF.pure (c) rfl ?_) | (refine CallF.lent (c) rfl ?_) | (refine CallE.own (c) ?_) | (refine CallH.pure (c) rfl ?_) | (refine CallH.lent (c) rfl ?_) | (refine CallH.own (c) ?_)
    refine hL _ (N - 1) (by omega) ⟨k + 1, by omega, ?_⟩
    simp [g0, g7, g8, g9, hw]
  · have hlt' : ¬ (k : Int) < l.length := by omega
    rw [List.take_of_length_le (by omega)] at g0
    repeat' first | (refine hK _ ?_; clear hK) | (refine hK _ _ ?_; clear hK) | (clear hK; refine hK _ ?_; clear hK) | (clear hK; clear hK; refine hK _ ?_; clear hK) | (clear hK; clear hK; clear hK; refine hK _ ?_; clear hK) | (clear hK; clear hK; clear hK; clear hK; refine hK _ ?_; clear hK) | (refine wSeq fun K hK => ?_) | ((first | refine wReg ?_ | refine wDrwQ rfl (by kernel_rfl) ?_ | refine wDrwI ?_ | refine wDrw (by kernel_rfl) ?_); simp only [List.map_cons, List.map_nil, strip]) | ((first | refine wIs fun K hK => ?_ | refine wOs fun K hK => ?_ | refine wQs fun K hK => ?_ | refine CallK_plain ?_ | refine CallQ_plain ?_ | refine CallR_plain ?_ | refine wCond ?_); simp [g0, g7, g8, g9, hlt, hlt']) | (refine wIn ?_; refine And.intro (by kernel_rfl) ?_; try simp only [thenA_n]) | (first | refine wBlock ?_ | refine wScope ?_) | ((first | refine wRet ?_ | refine wExit ?_ | refine wSkip ?_); try simp) | ((first | refine wLabel ?_ | refine wOn ?_ | refine wQn ?_); try simp only [thenA_n])
    all_goals apply hr
    all_goals simp [Try.f40, g0]
theorem zxid12_con (b : List UInt8) (e n : Int) (he : okI e) (hn' : okI n) (hb : b.length ≤ 50000000) : ACon Try.prog 41 [.p (.sl 1 (by8 b)), .p (.agg [I e, I n])] (.p (.sl 1 (by8 (b ++ catZ [e, n])))) := by
  have h1 := enc_len10 (zz_lt he)
  have c1 := (putInt01_con b e he (by omega)).toPure
  have c2 := (putInt01_con (b ++ enc (zz e)) n hn' (by rw [List.length_append]; omega)).toPure
  rw [List.append_assoc, show enc (zz e) ++ enc (zz n) = catZ [e, n] by simp [catZ]] at c2
  generalize b ++ catZ [e, n] = r at *
  generalize b ++ enc (zz e) = x at *
  refine wBody Try.tab Try.mixed Try.func41 rfl rfl Try.ntmps41 (by simp) (by simp) fun Q hr hn => ?_
  repeat' first | (refine hK _ ?_; clear hK) | (refine hK _ _ ?_; clear hK) | (clear hK; refine hK _ ?_; clear hK) | (clear hK; clear hK; refine hK _ ?_; clear hK) | (clear hK; clear hK; clear hK; refine hK _ ?_; clear hK) | (clear hK; clear hK; clear hK; clear hK; refine hK _ ?_; clear hK) | (refine wSeq fun K hK => ?_) | ((first | refine wReg ?_ | refine wDrwQ rfl (by kernel_rfl) ?_ | refine wDrwI ?_ | refine wDrw (by kernel_rfl) ?_); simp only [List.map_cons, List.map_nil, strip]) | ((first | refine wIs fun K hK => ?_ | refine wOs fun K hK => ?_ | refine wQs fun K hK => ?_ | refine CallK_plain ?_ | refine CallQ_plain ?_ | refine CallR_plain ?_ | refine wCond ?_); simp) | (refine wIn ?_; refine And.intro (by kernel_rfl) ?_; try simp only [thenA_n]) | (first | refine wBlock ?_ | refine wScope ?_) | ((first | refine wRet ?_ | refine wExit ?_ | refine wSkip ?_); try simp) | ((first | refine wLabel ?_ | refine wOn ?_ | refine wQn ?_); try simp only [thenA_n]) | (refine CallE.pure (c1) rfl ?_) | (refine CallE.lent (c1) rfl ?_) | (refine CallF.pure (c1) rfl ?_) | (refine CallF.lent (c1) rfl ?_) | (refine CallE.own (c1) ?_) | (refine CallH.pure (c1) rfl ?_) | (refine CallH.lent (c1) rfl ?_) | (refine CallH.own (c1) ?_) | (refine CallE.pure (c2) rfl ?_) | (refine CallE.lent (c2) rfl ?_) | (refine CallF.pure (c2) rfl ?_) | (refine CallF.lent (c2) rfl ?_) | (refine CallE.own (c2) ?_) | (refine CallH.pure (c2) rfl ?_) | (refine CallH.lent (c2) rfl ?_) | (refine CallH.own (c2) ?_)
  all_goals apply hr
  all_goals simp [Try.f41]
theorem ints12_con (b : List UInt8) (l : List Int) (h : ∀ n ∈ l, okI n) (hl : l.length ≤ 1000000) (hb : b.length ≤ 40000000) : ACon Try.prog 47 [.p (.sl 1 (by8 b)), .p (.sl 1 (ints l))] (.p (.sl 1 (by8 (b ++ catZ ((l.length : Int) :: l))))) := by
  have h0 : okI (l.length : Int) := ⟨by omega, by omega⟩
  have h1 := enc_len10 (zz_lt h0)
  have c1 := (putInt01_con b l.length h0 (by omega)).toPure
  have c2 := nums12_con (b ++ enc (zz l.length)) l h hl (by rw [List.length_append]; omega)
  rw [List.append_assoc, show enc (zz (l.length : Int)) ++ catZ l = catZ ((l.length : Int) :: l) by simp [catZ]] at c2
  generalize b ++ catZ ((l.length : Int) :: l) = r at *
  generalize b ++ enc (zz (l.length : Int)) = x at *
  have hl' : l.length < 9223372036854775808 := by omega
  refine wBody Try.tab Try.mixed Try.func47 rfl rfl Try.ntmps47 (by simp) (by simp) fun Q hr hn => ?_
  repeat' first | (refine hK _ ?_; clear hK) | (refine hK _ _ ?_; clear hK) | (clear hK; refine hK _ ?_; clear hK) | (clear hK; clear hK; refine hK _ ?_; clear hK) | (clear hK; clear hK; clear hK; refine hK _ ?_; clear hK) | (clear hK; clear hK; clear hK; clear hK; refine hK _ ?_; clear hK) | (refine wSeq fun K hK => ?_) | ((first | refine wReg ?_ | refine wDrwQ rfl (by kernel_rfl) ?_ | refine wDrwI ?_ | refine wDrw (by kernel_rfl) ?_); simp only [List.map_cons, List.map_nil, strip]) | ((first | refine wIs fun K hK => ?_ | refine wOs fun K hK => ?_ | refine wQs fun K hK => ?_ | refine CallK_plain ?_ | refine CallQ_plain ?_ | refine CallR_plain ?_ | refine wCond ?_); simp [hl']) | (refine wIn ?_; refine And.intro (by kernel_rfl) ?_; try simp only [thenA_n]) | (first | refine wBlock ?_ | refine wScope ?_) | ((first | refine wRet ?_ | refine wExit ?_ | refine wSkip ?_); try simp) | ((first | refine wLabel ?_ | refine wOn ?_ | refine wQn ?_); try simp only [thenA_n]) | (refine CallE.pure (c1) rfl ?_) | (refine CallE.lent (c1) rfl ?_) | (refine CallF.pure (c1) rfl ?_) | (refine CallF.lent (c1) rfl ?_) | (refine CallE.own (c1) ?_) | (refine CallH.pure (c1) rfl ?_) | (refine CallH.lent (c1) rfl ?_) | (refine CallH.own (c1) ?_) | (refine CallE.pure (c2) rfl ?_) | (refine CallE.lent (c2) rfl ?_) | (refine CallF.pure (c2) rfl ?_) | (refine CallF.lent (c2) rfl ?_) | (refine CallE.own (c2) ?_) | (refine CallH.pure (c2) rfl ?_) | (refine CallH.lent (c2) rfl ?_) | (refine CallH.own (c2) ?_)
  all_goals apply hr
  all_goals simp [Try.f47]
theorem flag12_con (b : Bool) : ACon Try.prog 60 [.p (B b)] (.p (I (if b = true then 1 else 0))) := by
  cases b
  all_goals
    refine wBody Try.tab Try.mixed Try.func60 rfl rfl Try.ntmps60 (by simp) (by simp) fun Q hr hn => ?_
    repeat' first | (refine hK _ ?_; clear hK) | (refine hK _ _ ?_; clear hK) | (clear hK; refine hK _ ?_; clear hK) | (clear hK; clear hK; refine hK _ ?_; clear hK) | (clear hK; clear hK; clear hK; refine hK _ ?_; clear hK) | (clear hK; clear hK; clear hK; clear hK; refine hK _ ?_; clear hK) | (refine wSeq fun K hK => ?_) | ((first | refine wReg ?_ | refine wDrwQ rfl (by kernel_rfl) ?_ | refine wDrwI ?_ | refine wDrw (by kernel_rfl) ?_); simp only [List.map_cons, List.map_nil, strip]) | ((first | refine wIs fun K hK => ?_ | refine wOs fun K hK => ?_ | refine wQs fun K hK => ?_ | refine CallK_plain ?_ | refine CallQ_plain ?_ | refine CallR_plain ?_ | refine wCond ?_); simp) | (refine wIn ?_; refine And.intro (by kernel_rfl) ?_; try simp only [thenA_n]) | (first | refine wBlock ?_ | refine wScope ?_) | ((first | refine wRet ?_ | refine wExit ?_ | refine wSkip ?_); try simp) | ((first | refine wLabel ?_ | refine wOn ?_ | refine wQn ?_); try simp only [thenA_n])
    all_goals apply hr
    all_goals simp [Try.f60]
/- Records, the document's: texts, members, nodes, configs. -/
theorem zzl (n : Nat) (h : n ≤ 1000000000) : okI (n : Int) := ⟨by omega, by omega⟩
theorem putText12_con (b s : List UInt8) (h : b.length ≤ 100000000) (hs : s.length ≤ 100000000) : BCon 59 [.p (.sl 1 (by8 b)), .p (SB s)] (b ++ (enc (zz s.length) ++ s)) := by
  have c1 := putInt01_con b s.length (zzl _ (by omega)) (by omega)
  have hel := enc_len10 (zz_lt (zzl s.length (by omega)))
  have hx := by8_app (b ++ enc (zz s.length)) s
  have hbm : (s.map fun b => [PV.v (.int .u8 b.toNat)]) = by8 s := rfl
  rw [List.append_assoc] at hx
  generalize enc (zz s.length) = z at c1 hel hx ⊢
  refine wBodyR Try.tab Try.mixed Try.func59 rfl rfl Try.ntmps59 rfl (by simp) (by simp) fun Q hr hn => ?_
  repeat' first | (refine And.intro (by omega) ?_) | (refine hK _ ?_; clear hK) | (refine hK _ _ ?_; clear hK) | (clear hK; refine hK _ ?_; clear hK) | (clear hK; clear hK; refine hK _ ?_; clear hK) | (clear hK; clear hK; clear hK; refine hK _ ?_; clear hK) | (clear hK; clear hK; clear hK; clear hK; refine hK _ ?_; clear hK) | (refine wSeq fun K hK => ?_) | ((first | refine wReg ?_ | refine wDrwQ rfl (by kernel_rfl) ?_ | refine wDrwI ?_ | refine wDrw (by kernel_rfl) ?_); simp only [List.map_cons, List.map_nil, strip]) | ((first | refine wIs fun K hK => ?_ | refine wOs fun K hK => ?_ | refine wQs fun K hK => ?_ | refine CallK_plain ?_ | refine CallQ_plain ?_ | refine CallR_plain ?_ | refine wCond ?_); simp) | (refine wIn ?_; refine And.intro (by kernel_rfl) ?_; try simp only [thenA_n]) | (first | refine wBlock ?_ | refine wScope ?_) | ((first | refine wRet ?_ | refine wExit ?_ | refine wSkip ?_); try simp) | ((first | refine wLabel ?_ | refine wOn ?_ | refine wQn ?_); try simp only [thenA_n]) | (refine CallE.pure (c1) rfl ?_) | (refine CallE.lent (c1) rfl ?_) | (refine CallF.pure (c1) rfl ?_) | (refine CallF.lent (c1) rfl ?_) | (refine CallE.own (c1) ?_) | (refine CallH.pure (c1) rfl ?_) | (refine CallH.lent (c1) rfl ?_) | (refine CallH.own (c1) ?_)
  all_goals refine hr _ 8 ?_ ?_ (by omega)
  all_goals simp [Try.f59, hbm, hx]
/-- The bytes of a text. -/
def txB (s : List UInt8) : List UInt8 := enc (zz s.length) ++ s
theorem text12_con (b s : List UInt8) (h : b.length ≤ 100000000) (hs : s.length ≤ 100000000) : ACon Try.prog 59 [.p (.sl 1 (by8 b)), .p (SB s)] (.p (.sl 1 (by8 (b ++ txB s)))) := (putText12_con b s h hs).toPure
structure OkMr (m : Mb) : Prop where
  i : okI m.i
  r : okI m.r
  w : okI m.w
  g : okI m.g
end Go.Proofs.Ytechjohebkcjiaa
