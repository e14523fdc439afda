/- Texts that the proof needs: LA2. -/
import Derived.Test.YtechjohebkcjiaaP24LinkApart
/- What is lost between two, and how many are on a way: the law LinkApart. -/
namespace Go.Proofs.Ytechjohebkcjiaa
set_option linter.unusedSimpArgs false
set_option linter.unusedVariables false
set_option maxRecDepth 8000
open Go Go.Av
attribute [local simp] Try.T1 Try.T2 Try.T3 Try.T4 Try.T5 Try.T9 Try.T12 Try.T15 Try.T16 Try.T17 Try.T21 Try.T22 Try.T23 Try.T24 Try.T25 Try.T27 Try.T29 Try.T30 Try.T31 Try.T32 Try.T33 Try.T35 Try.T37 Try.T38 Try.T40 Try.T41 Try.T42 Try.T44 Try.T45 Try.T47 Try.T49 Try.T51 Try.T53 Try.T54 Try.T55 Try.T56 Try.T57 Try.T58 Try.T59 Try.T60 Try.T61 Try.T62 Try.T63 Try.T64 Try.T66 Try.T67 Try.T68 Try.T69 Try.T70 Try.T72 Try.T74 Try.T76 Try.T77 Try.T78 Try.T79 Try.T80 Try.T81 Try.T82 Try.T83 Try.T84 Try.T85 Try.T87 Try.T88 Try.T89 Try.T90 Try.T91 Try.T92 Try.T93 Try.T94 Try.T96 Try.T97 Try.T98 Try.T99 Try.T100 Try.T101 Try.T102 Try.T103 Try.T104 Try.T105 Try.T106 Try.T107 Try.T108 Try.T109 Try.T110 Try.T111 Try.T113 Try.T114 Try.T115 Try.T116 Try.T117 Try.T118 Try.T119 Try.T120 Try.T121 Try.T122 Try.T123 Try.T124 Try.T125 Try.T126 Try.T127 Try.T128 Try.T129 Try.T130 Try.T133 Try.T136 Try.T137 Try.T140 Try.T141
attribute [local irreducible] Go.Av.CallK Go.Av.CallE Go.Av.CallQ Go.Av.CallF Go.Av.CallR Go.Av.CallH Go.Av.Con
def KeptA (l X Y : List Mq) (lost : List Pr) (st : St) : Prop :=
  st.s 7 = .p (.sl 46 (mqs X)) ∧ st.s 8 = .p (I X.length) ∧ st.s 11 = .p (.sl 46 (mqs Y)) ∧ st.s 12 = .p (.sl 2 (prs lost))
set_option maxHeartbeats 16000000 in
theorem linkApart_con (l more : List Mq) (a b : Int) (ho : ∀ m ∈ l, OkM m) (hm : ∀ m ∈ more, OkM m) (hl : l.length ≤ 1048576) (hml : more.length ≤ 1048576) : ACon Try.prog 5 [.p (.sl 46 (mqs l)), .p (.sl 46 (mqs more)), .p (.agg [I a, I b])] (.p (B true)) := by
  have ca := awake25
  have hmq : ∀ (l : List Mq), (∀ m ∈ l, OkM m) → (∀ r ∈ mqs l, fMs.ok r) ∧ (∀ r ∈ mqs l, Zs r) := fun l h => ⟨fun r hr => by obtain ⟨m, hm, rfl⟩ := List.mem_map.1 hr; exact (h m hm).ok, fun r hr => by obtain ⟨m, hm, rfl⟩ := List.mem_map.1 hr; exact (h m hm).z⟩
  obtain ⟨D1, c1, hD1⟩ := far25_con (mqs l) (hmq l ho).1 (hmq l ho).2 (by simpa using hl)
  obtain ⟨D2, c2, hD2⟩ := far25_con (mqs more) (hmq more hm).1 (hmq more hm).2 (by simpa using hml)
  cases D1
  case true =>
    refine wBody Try.tab Try.mixed Try.func5 rfl rfl Try.ntmps5 (by simp) (by simp) fun Q hr hn => ?_
    repeat' first | (refine hK _ ?_; clear hK) | (refine hK _ _ ?_; clear hK) | (clear hK; refine hK _ ?_; clear hK) | (clear hK; clear hK; refine hK _ ?_; clear hK) | (clear hK; clear hK; clear hK; refine hK _ ?_; clear hK) | (clear hK; clear hK; clear hK; clear hK; refine hK _ ?_; clear hK) | (refine wSeq fun K hK => ?_) | ((first | refine wReg ?_ | refine wDrwQ rfl (by kernel_rfl) ?_ | refine wDrwI ?_ | refine wDrw (by kernel_rfl) ?_); simp only [List.map_cons, List.map_nil, strip]) | ((first | refine wIs fun K hK => ?_ | refine wOs fun K hK => ?_ | refine wQs fun K hK => ?_ | refine CallK_plain ?_ | refine CallQ_plain ?_ | refine CallR_plain ?_ | refine wCond ?_); simp) | (refine wIn ?_; refine And.intro (by kernel_rfl) ?_; try simp only [thenA_n]) | (first | refine wBlock ?_ | refine wScope ?_) | ((first | refine wRet ?_ | refine wExit ?_ | refine wSkip ?_); try simp) | ((first | refine wLabel ?_ | refine wOn ?_ | refine wQn ?_); try simp only [thenA_n]) | (refine CallE.pure (c1) rfl ?_) | (refine CallE.lent (c1) rfl ?_) | (refine CallF.pure (c1) rfl ?_) | (refine CallF.lent (c1) rfl ?_) | (refine CallE.own (c1) ?_) | (refine CallH.pure (c1) rfl ?_) | (refine CallH.lent (c1) rfl ?_) | (refine CallH.own (c1) ?_) | (refine CallE.pure (ca) rfl ?_) | (refine CallE.lent (ca) rfl ?_) | (refine CallF.pure (ca) rfl ?_) | (refine CallF.lent (ca) rfl ?_) | (refine CallE.own (ca) ?_) | (refine CallH.pure (ca) rfl ?_) | (refine CallH.lent (ca) rfl ?_) | (refine CallH.own (ca) ?_)
    all_goals apply hr
    all_goals simp [Try.f5]
  cases D2
  case true =>
    refine wBody Try.tab Try.mixed Try.func5 rfl rfl Try.ntmps5 (by simp) (by simp) fun Q hr hn => ?_
    repeat' first | (refine hK _ ?_; clear hK) | (refine hK _ _ ?_; clear hK) | (clear hK; refine hK _ ?_; clear hK) | (clear hK; clear hK; refine hK _ ?_; clear hK) | (clear hK; clear hK; clear hK; refine hK _ ?_; clear hK) | (clear hK; clear hK; clear hK; clear hK; refine hK _ ?_; clear hK) | (refine wSeq fun K hK => ?_) | ((first | refine wReg ?_ | refine wDrwQ rfl (by kernel_rfl) ?_ | refine wDrwI ?_ | refine wDrw (by kernel_rfl) ?_); simp only [List.map_cons, List.map_nil, strip]) | ((first | refine wIs fun K hK => ?_ | refine wOs fun K hK => ?_ | refine wQs fun K hK => ?_ | refine CallK_plain ?_ | refine CallQ_plain ?_ | refine CallR_plain ?_ | refine wCond ?_); simp) | (refine wIn ?_; refine And.intro (by kernel_rfl) ?_; try simp only [thenA_n]) | (first | refine wBlock ?_ | refine wScope ?_) | ((first | refine wRet ?_ | refine wExit ?_ | refine wSkip ?_); try simp) | ((first | refine wLabel ?_ | refine wOn ?_ | refine wQn ?_); try simp only [thenA_n]) | (refine CallE.pure (c1) rfl ?_) | (refine CallE.lent (c1) rfl ?_) | (refine CallF.pure (c1) rfl ?_) | (refine CallF.lent (c1) rfl ?_) | (refine CallE.own (c1) ?_) | (refine CallH.pure (c1) rfl ?_) | (refine CallH.lent (c1) rfl ?_) | (refine CallH.own (c1) ?_) | (refine CallE.pure (c2) rfl ?_) | (refine CallE.lent (c2) rfl ?_) | (refine CallF.pure (c2) rfl ?_) | (refine CallF.lent (c2) rfl ?_) | (refine CallE.own (c2) ?_) | (refine CallH.pure (c2) rfl ?_) | (refine CallH.lent (c2) rfl ?_) | (refine CallH.own (c2) ?_) | (refine CallE.pure (ca) rfl ?_) | (refine CallE.lent (ca) rfl ?_) | (refine CallF.pure (ca) rfl ?_) | (refine CallF.lent (ca) rfl ?_) | (refine CallE.own (ca) ?_) | (refine CallH.pure (ca) rfl ?_) | (refine CallH.lent (ca) rfl ?_) | (refine CallH.own (ca) ?_)
    all_goals apply hr
    all_goals simp [Try.f5]
  have hP1 := hD1 rfl
  have hP2 := hD2 rfl
  have hl1 := hP1.len
  have hl2 := hP2.len
  rw [mqs_len] at hl1 hl2
  have hw1 : ∀ m ∈ l, w5Ms m.cells ≤ 700 := fun m h => hP1.w _ (List.mem_map.2 ⟨m, h, rfl⟩)
  have cR := reset_con l a b ho hl
  have cS := send_con [] (l ++ more) [] (by simp) (fun m h => (List.mem_append.1 h).elim (ho m) (hm m)) (by simp; omega)
  have hS := snd_inv [] (l ++ more) [] [] ⟨by simp, by simp, by simp⟩
  have hSl := snd_len [] (l ++ more) [] []
  rw [show mqs [] = [] from rfl, show prs [] = [] from rfl, ← mqs_app] at cS
  generalize hY : sndL [] [] [] (l ++ more) = YL at *
  obtain ⟨Y, lost⟩ := YL
  simp only [] at cS hS hSl
  have hYl : Y.length ≤ 400 := by have := hSl.1; simp at this; omega
  have hlo : lost.length ≤ 400 := by have := hSl.2; simp at this; omega
  have hX := fun {i : Nat} (h : i < l.length) (hf : (!decide (two l[i].fr l[i].to = two a b)) = true) => filt_at (fun m => !decide (two m.fr m.to = two a b)) h hf
  have hXs := fun {i : Nat} (h : i < l.length) => filt_snoc (fun m => !decide (two m.fr m.to = two a b)) h
  have hXl : (l.filter fun m => !decide (two m.fr m.to = two a b)).length ≤ l.length := List.length_filter_le _ _
  have hXk := fun i => filt_len l (fun m => !decide (two m.fr m.to = two a b)) i
  have hXw : ∀ i, ((l.take i).filter fun m => !decide (two m.fr m.to = two a b)).length ≤ (l.filter fun m => !decide (two m.fr m.to = two a b)).length := fun i => by
    conv => rhs; rw [← List.take_append_drop i l, List.filter_append, List.length_append]
    omega
  generalize hXd : l.filter (fun m => !decide (two m.fr m.to = two a b)) = X at *
  clear hD1 hD2 hmq hP1 hP2 hY hSl
  refine wBody Try.tab Try.mixed Try.func5 rfl rfl Try.ntmps5 (by simp) (by simp) fun Q hr hn => ?_
  repeat' first | (refine hK _ ?_; clear hK) | (refine hK _ _ ?_; clear hK) | (clear hK; refine hK _ ?_; clear hK) | (clear hK; clear hK; refine hK _ ?_; clear hK) | (clear hK; clear hK; clear hK; refine hK _ ?_; clear hK) | (clear hK; clear hK; clear hK; clear hK; refine hK _ ?_; clear hK) | (refine wSeq fun K hK => ?_) | ((first | refine wReg ?_ | refine wDrwQ rfl (by kernel_rfl) ?_ | refine wDrwI ?_ | refine wDrw (by kernel_rfl) ?_); simp only [List.map_cons, List.map_nil, strip]) | ((first | refine wIs fun K hK => ?_ | refine wOs fun K hK => ?_ | refine wQs fun K hK => ?_ | refine CallK_plain ?_ | refine CallQ_plain ?_ | refine CallR_plain ?_ | refine wCond ?_); simp) | (refine wIn ?_; refine And.intro (by kernel_rfl) ?_; try simp only [thenA_n]) | (first | refine wBlock ?_ | refine wScope ?_) | ((first | refine wRet ?_ | refine wExit ?_ | refine wSkip ?_); try simp) | ((first | refine wLabel ?_ | refine wOn ?_ | refine wQn ?_); try simp only [thenA_n]) | (refine CallE.pure (c1) rfl ?_) | (refine CallE.lent (c1) rfl ?_) | (refine CallF.pure (c1) rfl ?_) | (refine CallF.lent (c1) rfl ?_) | (refine CallE.own (c1) ?_) | (refine CallH.pure (c1) rfl ?_) | (refine CallH.lent (c1) rfl ?_) | (refine CallH.own (c1) ?_) | (refine CallE.pure (c2) rfl ?_) | (refine CallE.lent (c2) rfl ?_) | (refine CallF.pure (c2) rfl ?_) | (refine CallF.lent (c2) rfl ?_) | (refine CallE.own (c2) ?_) | (refine CallH.pure (c2) rfl ?_) | (refine CallH.lent (c2) rfl ?_) | (refine CallH.own (c2) ?_) | (refine CallE.pure (cR) rfl ?_) | (refine CallE.lent (cR) rfl ?_) | (refine CallF.pure (cR) rfl ?_) | (refine CallF.lent (cR) rfl ?_) | (refine CallE.own (cR) ?_) | (refine CallH.pure (cR) rfl ?_) | (refine CallH.lent (cR) rfl ?_) | (refine CallH.own (cR) ?_)
  refine wLoop (fun N st => ∃ i, i + N = l.length ∧ st.s 0 = .p (.sl 46 (mqs l)) ∧ st.s 1 = .p (.sl 46 (mqs more)) ∧ st.s 5 = .ptr 5 0 ∧ st.b 5 = some (.box 23 [.p (I a), .p (I b)]) ∧ st.s 7 = .p (.sl 46 (mqs X)) ∧ st.s 8 = .p (I (((l.take i).filter fun m => !decide (two m.fr m.to = two a b)).length : Nat)) ∧ st.s 29 = .p (.sl 46 (mqs l)) ∧ st.s 30 = .p (I l.length) ∧ st.s 31 = .p (I i)) l.length ⟨0, by simp⟩ fun K N st hL ⟨i, hi, g0, g1, g5, b5, g7, g8, g29, g30, g31⟩ => ?_
  by_cases hlt : i < l.length
  · have hlt' : (i : Int) < l.length := by omega
    have hw := wrapS i _ hlt (by omega)
    have he := mqs_get hlt
    have hx := hX hlt
    have hs := hXs hlt
    have hki := hXk i
    have hmi := List.getElem_mem hlt
    have cM := sameM_con l[i] (ho _ hmi).ok (hw1 _ hmi)
    generalize hk : ((l.take i).filter fun m => !decide (two m.fr m.to = two a b)) = F at *
    clear cR cS hS ca c1 hX hXs hXk hXw
    generalize hQ : l[i] = m at *
    by_cases hf : (!decide (two m.fr m.to = two a b)) = true
    · have hx := hx hf
      rw [if_pos hf] at hs
      have hFX : F.length < X.length := (List.getElem?_eq_some_iff.1 hx).1
      have hgX := mqs_get hFX
      rw [List.getElem?_eq_getElem hFX] at hx
      rw [Option.some.inj hx] at hgX
      have hXe := Option.some.inj hx
      have hFX' := eq_false (show ¬ (X.length : Int) ≤ (F.length : Int) by omega)
      have hFX2 : (F.length : Int) < (X.length : Int) := by omega
      have hwk : IntKind.i64.wrap ((F.length : Int) + 1) = ((F.length + 1 : Nat) : Int) := by rw [wrap_id (by omega) (by omega)]; omega
      have hno : ¬ ((m.fr = a ∧ m.to = b) ∨ (m.fr = b ∧ m.to = a)) := fun h => by simp [(two_iff m.fr m.to a b).2 h] at hf
      have hfin : ((l.take (i + 1)).filter fun m => !decide (two m.fr m.to = two a b)).length = F.length + 1 := by rw [hs]; simp
      clear hx hs hf
      have hcases : (¬ m.fr = a ∧ ¬ m.fr = b) ∨ (¬ m.fr = a ∧ m.fr = b ∧ ¬ m.to = a) ∨ (m.fr = a ∧ ¬ m.to = b ∧ ¬ m.fr = b) ∨ (m.fr = a ∧ ¬ m.to = b ∧ m.fr = b ∧ ¬ m.to = a) := by omega
      rcases hcases with ⟨q1, q3⟩ | ⟨q1, q3, q4⟩ | ⟨q1, q2, q3⟩ | ⟨q1, q2, q3, q4⟩
      · have e1 := eq_false q1
        have e3 := eq_false q3
        clear hno
        repeat' first | (refine hK _ ?_; clear hK) | (refine hK _ _ ?_; clear hK) | (clear hK; refine hK _ ?_; clear hK) | (clear hK; clear hK; refine hK _ ?_; clear hK) | (clear hK; clear hK; clear hK; refine hK _ ?_; clear hK) | (clear hK; clear hK; clear hK; clear hK; refine hK _ ?_; clear hK) | (refine wSeq fun K hK => ?_) | ((first | refine wReg ?_ | refine wDrwQ rfl (by kernel_rfl) ?_ | refine wDrwI ?_ | refine wDrw (by kernel_rfl) ?_); simp only [List.map_cons, List.map_nil, strip]) | ((first | refine wIs fun K hK => ?_ | refine wOs fun K hK => ?_ | refine wQs fun K hK => ?_ | refine CallK_plain ?_ | refine CallQ_plain ?_ | refine CallR_plain ?_ | refine wCond ?_); simp [g0, g1, g5, b5, g7, g8, g29, g30, g31, hlt, hlt', hw, he, hQ, hgX, hXe, hFX, hFX', hFX2, hwk, e1, e3]) | (refine wIn ?_; refine And.intro (by kernel_rfl) ?_; try simp only [thenA_n]) | (first | refine wBlock ?_ | refine wScope ?_) | ((first | refine wRet ?_ | refine wExit ?_ | refine wSkip ?_); try simp) | ((first | refine wLabel ?_ | refine wOn ?_ | refine wQn ?_); try simp only [thenA_n]) | (refine CallE.pure (cM) rfl ?_) | (refine CallE.lent (cM) rfl ?_) | (refine CallF.pure (cM) rfl ?_) | (refine CallF.lent (cM) rfl ?_) | (refine CallE.own (cM) ?_) | (refine CallH.pure (cM) rfl ?_) | (refine CallH.lent (cM) rfl ?_) | (refine CallH.own (cM) ?_)
        refine hL _ (N - 1) (by omega) ⟨i + 1, by omega, ?_⟩
        simp [g0, g1, g5, b5, g7, g8, g29, g30, g31, hw, hfin, hwk]
      · have e1 := eq_false q1
        have e3 := eq_true q3
        have e4 := eq_false q4
        clear hno
        repeat' first | (refine hK _ ?_; clear hK) | (refine hK _ _ ?_; clear hK) | (clear hK; refine hK _ ?_; clear hK) | (clear hK; clear hK; refine hK _ ?_; clear hK) | (clear hK; clear hK; clear hK; refine hK _ ?_; clear hK) | (clear hK; clear hK; clear hK; clear hK; refine hK _ ?_; clear hK) | (refine wSeq fun K hK => ?_) | ((first | refine wReg ?_ | refine wDrwQ rfl (by kernel_rfl) ?_ | refine wDrwI ?_ | refine wDrw (by kernel_rfl) ?_); simp only [List.map_cons, List.map_nil, strip]) | ((first | refine wIs fun K hK => ?_ | refine wOs fun K hK => ?_ | refine wQs fun K hK => ?_ | refine CallK_plain ?_ | refine CallQ_plain ?_ | refine CallR_plain ?_ | refine wCond ?_); simp [g0, g1, g5, b5, g7, g8, g29, g30, g31, hlt, hlt', hw, he, hQ, hgX, hXe, hFX, hFX', hFX2, hwk, e1, e3, e4]) | (refine wIn ?_; refine And.intro (by kernel_rfl) ?_; try simp only [thenA_n]) | (first | refine wBlock ?_ | refine wScope ?_) | ((first | refine wRet ?_ | refine wExit ?_ | refine wSkip ?_); try simp) | ((first | refine wLabel ?_ | refine wOn ?_ | refine wQn ?_); try simp only [thenA_n]) | (refine CallE.pure (cM) rfl ?_) | (refine CallE.lent (cM) rfl ?_) | (refine CallF.pure (cM) rfl ?_) | (refine CallF.lent (cM) rfl ?_) | (refine CallE.own (cM) ?_) | (refine CallH.pure (cM) rfl ?_) | (refine CallH.lent (cM) rfl ?_) | (refine CallH.own (cM) ?_)
        refine hL _ (N - 1) (by omega) ⟨i + 1, by omega, ?_⟩
        simp [g0, g1, g5, b5, g7, g8, g29, g30, g31, hw, hfin, hwk]
      · have e1 := eq_true q1
        have e2 := eq_false q2
        have e3 := eq_false q3
        clear hno
        repeat' first | (refine hK _ ?_; clear hK) | (refine hK _ _ ?_; clear hK) | (clear hK; refine hK _ ?_; clear hK) | (clear hK; clear hK; refine hK _ ?_; clear hK) | (clear hK; clear hK; clear hK; refine hK _ ?_; clear hK) | (clear hK; clear hK; clear hK; clear hK; refine hK _ ?_; clear hK) | (refine wSeq fun K hK => ?_) | ((first | refine wReg ?_ | refine wDrwQ rfl (by kernel_rfl) ?_ | refine wDrwI ?_ | refine wDrw (by kernel_rfl) ?_); simp only [List.map_cons, List.map_nil, strip]) | ((first | refine wIs fun K hK => ?_ | refine wOs fun K hK => ?_ | refine wQs fun K hK => ?_ | refine CallK_plain ?_ | refine CallQ_plain ?_ | refine CallR_plain ?_ | refine wCond ?_); simp [g0, g1, g5, b5, g7, g8, g29, g30, g31, hlt, hlt', hw, he, hQ, hgX, hXe, hFX, hFX', hFX2, hwk, e1, e2, e3]) | (refine wIn ?_; refine And.intro (by kernel_rfl) ?_; try simp only [thenA_n]) | (first | refine wBlock ?_ | refine wScope ?_) | ((first | refine wRet ?_ | refine wExit ?_ | refine wSkip ?_); try simp) | ((first | refine wLabel ?_ | refine wOn ?_ | refine wQn ?_); try simp only [thenA_n]) | (refine CallE.pure (cM) rfl ?_) | (refine CallE.lent (cM) rfl ?_) | (refine CallF.pure (cM) rfl ?_) | (refine CallF.lent (cM) rfl ?_) | (refine CallE.own (cM) ?_) | (refine CallH.pure (cM) rfl ?_) | (refine CallH.lent (cM) rfl ?_) | (refine CallH.own (cM) ?_)
        refine hL _ (N - 1) (by omega) ⟨i + 1, by omega, ?_⟩
        simp [g0, g1, g5, b5, g7, g8, g29, g30, g31, hw, hfin, hwk]
      · have e1 := eq_true q1
        have e2 := eq_false q2
        have e3 := eq_true q3
        have e4 := eq_false q4
        clear hno
        repeat' first | (refine hK _ ?_; clear hK) | (refine hK _ _ ?_; clear hK) | (clear hK; refine hK _ ?_; clear hK) | (clear hK; clear hK; refine hK _ ?_; clear hK) | (clear hK; clear hK; clear hK; refine hK _ ?_; clear hK) | (clear hK; clear hK; clear hK; clear hK; refine hK _ ?_; clear hK) | (refine wSeq fun K hK => ?_) | ((first | refine wReg ?_ | refine wDrwQ rfl (by kernel_rfl) ?_ | refine wDrwI ?_ | refine wDrw (by kernel_rfl) ?_); simp only [List.map_cons, List.map_nil, strip]) | ((first | refine wIs fun K hK => ?_ | refine wOs fun K hK => ?_ | refine wQs fun K hK => ?_ | refine CallK_plain ?_ | refine CallQ_plain ?_ | refine CallR_plain ?_ | refine wCond ?_); simp [g0, g1, g5, b5, g7, g8, g29, g30, g31, hlt, hlt', hw, he, hQ, hgX, hXe, hFX, hFX', hFX2, hwk, e1, e2, e3, e4]) | (refine wIn ?_; refine And.intro (by kernel_rfl) ?_; try simp only [thenA_n]) | (first | refine wBlock ?_ | refine wScope ?_) | ((first | refine wRet ?_ | refine wExit ?_ | refine wSkip ?_); try simp) | ((first | refine wLabel ?_ | refine wOn ?_ | refine wQn ?_); try simp only [thenA_n]) | (refine CallE.pure (cM) rfl ?_) | (refine CallE.lent (cM) rfl ?_) | (refine CallF.pure (cM) rfl ?_) | (refine CallF.lent (cM) rfl ?_) | (refine CallE.own (cM) ?_) | (refine CallH.pure (cM) rfl ?_) | (refine CallH.lent (cM) rfl ?_) | (refine CallH.own (cM) ?_)
        refine hL _ (N - 1) (by omega) ⟨i + 1, by omega, ?_⟩
        simp [g0, g1, g5, b5, g7, g8, g29, g30, g31, hw, hfin, hwk]
    · have hno : (m.fr = a ∧ m.to = b) ∨ (m.fr = b ∧ m.to = a) := (two_iff m.fr m.to a b).1 (by simpa using hf)
      rw [if_neg hf] at hs
      clear hx cM hf
      have hcases : (m.fr = a ∧ m.to = b) ∨ (¬ m.fr = a ∧ m.fr = b ∧ m.to = a) ∨ (m.fr = a ∧ ¬ m.to = b ∧ m.fr = b ∧ m.to = a) := by omega
      rcases hcases with ⟨q1, q2⟩ | ⟨q1, q3, q4⟩ | ⟨q1, q2, q3, q4⟩
      · have e1 := eq_true q1
        have e2 := eq_true q2
        repeat' first | (refine hK _ ?_; clear hK) | (refine hK _ _ ?_; clear hK) | (clear hK; refine hK _ ?_; clear hK) | (clear hK; clear hK; refine hK _ ?_; clear hK) | (clear hK; clear hK; clear hK; refine hK _ ?_; clear hK) | (clear hK; clear hK; clear hK; clear hK; refine hK _ ?_; clear hK) | (refine wSeq fun K hK => ?_) | ((first | refine wReg ?_ | refine wDrwQ rfl (by kernel_rfl) ?_ | refine wDrwI ?_ | refine wDrw (by kernel_rfl) ?_); simp only [List.map_cons, List.map_nil, strip]) | ((first | refine wIs fun K hK => ?_ | refine wOs fun K hK => ?_ | refine wQs fun K hK => ?_ | refine CallK_plain ?_ | refine CallQ_plain ?_ | refine CallR_plain ?_ | refine wCond ?_); simp [g0, g1, g5, b5, g7, g8, g29, g30, g31, hlt, hlt', hw, he, hQ, e1, e2]) | (refine wIn ?_; refine And.intro (by kernel_rfl) ?_; try simp only [thenA_n]) | (first | refine wBlock ?_ | refine wScope ?_) | ((first | refine wRet ?_ | refine wExit ?_ | refine wSkip ?_); try simp) | ((first | refine wLabel ?_ | refine wOn ?_ | refine wQn ?_); try simp only [thenA_n])
        refine hL _ (N - 1) (by omega) ⟨i + 1, by omega, ?_⟩
        simp [g0, g1, g5, b5, g7, g8, g29, g30, g31, hw, hs]
      · have e1 := eq_false q1
        have e3 := eq_true q3
        have e4 := eq_true q4
        repeat' first | (refine hK _ ?_; clear hK) | (refine hK _ _ ?_; clear hK) | (clear hK; refine hK _ ?_; clear hK) | (clear hK; clear hK; refine hK _ ?_; clear hK) | (clear hK; clear hK; clear hK; refine hK _ ?_; clear hK) | (clear hK; clear hK; clear hK; clear hK; refine hK _ ?_; clear hK) | (refine wSeq fun K hK => ?_) | ((first | refine wReg ?_ | refine wDrwQ rfl (by kernel_rfl) ?_ | refine wDrwI ?_ | refine wDrw (by kernel_rfl) ?_); simp only [List.map_cons, List.map_nil, strip]) | ((first | refine wIs fun K hK => ?_ | refine wOs fun K hK => ?_ | refine wQs fun K hK => ?_ | refine CallK_plain ?_ | refine CallQ_plain ?_ | refine CallR_plain ?_ | refine wCond ?_); simp [g0, g1, g5, b5, g7, g8, g29, g30, g31, hlt, hlt', hw, he, hQ, e1, e3, e4]) | (refine wIn ?_; refine And.intro (by kernel_rfl) ?_; try simp only [thenA_n]) | (first | refine wBlock ?_ | refine wScope ?_) | ((first | refine wRet ?_ | refine wExit ?_ | refine wSkip ?_); try simp) | ((first | refine wLabel ?_ | refine wOn ?_ | refine wQn ?_); try simp only [thenA_n])
        refine hL _ (N - 1) (by omega) ⟨i + 1, by omega, ?_⟩
        simp [g0, g1, g5, b5, g7, g8, g29, g30, g31, hw, hs]
      · have e1 := eq_true q1
        have e2 := eq_false q2
        have e3 := eq_true q3
        have e4 := eq_true q4
        repeat' first | (refine hK _ ?_; clear hK) | (refine hK _ _ ?_; clear hK) | (clear hK; refine hK _ ?_; clear hK) | (clear hK; clear hK; refine hK _ ?_; clear hK) | (clear hK; clear hK; clear hK; refine hK _ ?_; clear hK) | (clear hK; clear hK; clear hK; clear hK; refine hK _ ?_; clear hK) | (refine wSeq fun K hK => ?_) | ((first | refine wReg ?_ | refine wDrwQ rfl (by kernel_rfl) ?_ | refine wDrwI ?_ | refine wDrw (by kernel_rfl) ?_); simp only [List.map_cons, List.map_nil, strip]) | ((first | refine wIs fun K hK => ?_ | refine wOs fun K hK => ?_ | refine wQs fun K hK => ?_ | refine CallK_plain ?_ | refine CallQ_plain ?_ | refine CallR_plain ?_ | refine wCond ?_); simp [g0, g1, g5, b5, g7, g8, g29, g30, g31, hlt, hlt', hw, he, hQ, e1, e2, e3, e4]) | (refine wIn ?_; refine And.intro (by kernel_rfl) ?_; try simp only [thenA_n]) | (first | refine wBlock ?_ | refine wScope ?_) | ((first | refine wRet ?_ | refine wExit ?_ | refine wSkip ?_); try simp) | ((first | refine wLabel ?_ | refine wOn ?_ | refine wQn ?_); try simp only [thenA_n])
        refine hL _ (N - 1) (by omega) ⟨i + 1, by omega, ?_⟩
        simp [g0, g1, g5, b5, g7, g8, g29, g30, g31, hw, hs]
  have hlt' : ¬ (i : Int) < l.length := by omega
  rw [List.take_of_length_le (by omega), hXd] at g8
  clear hX hXs hXk hXw hXd cR c1
  have hS1 := hS.ne
  have hS2 := hS.lo
  have hS3 := hS.ct
  clear hS
  repeat' first | (refine wFrzR 80 (mqs l ++ mqs more) rfl ?_; simp [frz, sub, sub0, subB]) | (refine And.intro (by (try simp only [mqs_len, List.length_cons, List.length_nil]); omega) (Or.inl ?_)) | (refine And.intro (by (try simp only [mqs_len, List.length_append, List.length_cons, List.length_nil]); omega) ?_) | (refine Or.inl ?_) | (refine hK _ ?_; clear hK) | (refine hK _ _ ?_; clear hK) | (clear hK; refine hK _ ?_; clear hK) | (clear hK; clear hK; refine hK _ ?_; clear hK) | (clear hK; clear hK; clear hK; refine hK _ ?_; clear hK) | (clear hK; clear hK; clear hK; clear hK; refine hK _ ?_; clear hK) | (refine wSeq fun K hK => ?_) | ((first | refine wReg ?_ | refine wDrwQ rfl (by kernel_rfl) ?_ | refine wDrwI ?_ | refine wDrw (by kernel_rfl) ?_); simp only [List.map_cons, List.map_nil, strip]) | ((first | refine wIs fun K hK => ?_ | refine wOs fun K hK => ?_ | refine wQs fun K hK => ?_ | refine CallK_plain ?_ | refine CallQ_plain ?_ | refine CallR_plain ?_ | refine wCond ?_); simp [g0, g1, g5, b5, g7, g8, g29, g30, g31, hlt, hlt']) | (refine wIn ?_; refine And.intro (by kernel_rfl) ?_; try simp only [thenA_n]) | (first | refine wBlock ?_ | refine wScope ?_) | ((first | refine wRet ?_ | refine wExit ?_ | refine wSkip ?_); try simp) | ((first | refine wLabel ?_ | refine wOn ?_ | refine wQn ?_); try simp only [thenA_n]) | (refine CallE.pure (cS) rfl ?_) | (refine CallE.lent (cS) rfl ?_) | (refine CallF.pure (cS) rfl ?_) | (refine CallF.lent (cS) rfl ?_) | (refine CallE.own (cS) ?_) | (refine CallH.pure (cS) rfl ?_) | (refine CallH.lent (cS) rfl ?_) | (refine CallH.own (cS) ?_)
  refine wLoop (fun N st => ∃ i, i + N = Y.length ∧ KeptA l X Y lost st ∧ st.s 86 = .p (.sl 46 (mqs Y)) ∧ st.s 87 = .p (I Y.length) ∧ st.s 88 = .p (I i)) Y.length ⟨0, by omega, ⟨?_, ?_, ?_, ?_⟩, ?_, ?_, ?_⟩ fun K2 N2 st2 hL2 ⟨i2, hi2, ⟨e7, e8, e11, e12⟩, e86, e87, e88⟩ => ?_
  any_goals (simp [g0, g1, g5, b5, g7, g8]; done)
  by_cases hlY : i2 < Y.length
  case neg =>
    have hlY' : ¬ (i2 : Int) < Y.length := by omega
    repeat' first | (refine hK _ ?_; clear hK) | (refine hK _ _ ?_; clear hK) | (clear hK; refine hK _ ?_; clear hK) | (clear hK; clear hK; refine hK _ ?_; clear hK) | (clear hK; clear hK; clear hK; refine hK _ ?_; clear hK) | (clear hK; clear hK; clear hK; clear hK; refine hK _ ?_; clear hK) | (refine wSeq fun K hK => ?_) | ((first | refine wReg ?_ | refine wDrwQ rfl (by kernel_rfl) ?_ | refine wDrwI ?_ | refine wDrw (by kernel_rfl) ?_); simp only [List.map_cons, List.map_nil, strip]) | ((first | refine wIs fun K hK => ?_ | refine wOs fun K hK => ?_ | refine wQs fun K hK => ?_ | refine CallK_plain ?_ | refine CallQ_plain ?_ | refine CallR_plain ?_ | refine wCond ?_); simp [e7, e8, e11, e12, e86, e87, e88, hlY, hlY']) | (refine wIn ?_; refine And.intro (by kernel_rfl) ?_; try simp only [thenA_n]) | (first | refine wBlock ?_ | refine wScope ?_) | ((first | refine wRet ?_ | refine wExit ?_ | refine wSkip ?_); try simp) | ((first | refine wLabel ?_ | refine wOn ?_ | refine wQn ?_); try simp only [thenA_n]) | (refine CallE.pure (ca) rfl ?_) | (refine CallE.lent (ca) rfl ?_) | (refine CallF.pure (ca) rfl ?_) | (refine CallF.lent (ca) rfl ?_) | (refine CallE.own (ca) ?_) | (refine CallH.pure (ca) rfl ?_) | (refine CallH.lent (ca) rfl ?_) | (refine CallH.own (ca) ?_)
    all_goals apply hr
    all_goals simp [Try.f5]
  have hlY' : (i2 : Int) < Y.length := by omega
  have hw2 := wrapS i2 _ hlY (by omega)
  have hy := mqs_get hlY
  have hmY := List.getElem_mem hlY
  have r1 := hS1 _ hmY
  have r2 := hS2 _ hmY
  have r3 := hS3 _ hmY
  clear hS1 hS2 hS3 ca cS
  generalize hQ : Y[i2] = y at *
  repeat' first | (refine hK _ ?_; clear hK) | (refine hK _ _ ?_; clear hK) | (clear hK; refine hK _ ?_; clear hK) | (clear hK; clear hK; refine hK _ ?_; clear hK) | (clear hK; clear hK; clear hK; refine hK _ ?_; clear hK) | (clear hK; clear hK; clear hK; clear hK; refine hK _ ?_; clear hK) | (refine wSeq fun K hK => ?_) | ((first | refine wReg ?_ | refine wDrwQ rfl (by kernel_rfl) ?_ | refine wDrwI ?_ | refine wDrw (by kernel_rfl) ?_); simp only [List.map_cons, List.map_nil, strip]) | ((first | refine wIs fun K hK => ?_ | refine wOs fun K hK => ?_ | refine wQs fun K hK => ?_ | refine CallK_plain ?_ | refine CallQ_plain ?_ | refine CallR_plain ?_ | refine wCond ?_); simp [e7, e8, e11, e12, e86, e87, e88, hlY, hlY', hw2, hy, hQ]) | (refine wIn ?_; refine And.intro (by kernel_rfl) ?_; try simp only [thenA_n]) | (first | refine wBlock ?_ | refine wScope ?_) | ((first | refine wRet ?_ | refine wExit ?_ | refine wSkip ?_); try simp) | ((first | refine wLabel ?_ | refine wOn ?_ | refine wQn ?_); try simp only [thenA_n])
  refine wLoop (fun N st => ∃ j, j + N = Y.length ∧ KeptA l X Y lost st ∧ st.s 86 = .p (.sl 46 (mqs Y)) ∧ st.s 87 = .p (I Y.length) ∧ st.s 88 = .p (I i2) ∧ st.s 13 = .p (I i2) ∧ st.s 14 = .p (I (cnt (Y.take j) y : Nat)) ∧ st.s 91 = .p (.sl 46 (mqs Y)) ∧ st.s 92 = .p (I Y.length) ∧ st.s 93 = .p (I j)) Y.length ⟨0, by omega, ⟨?_, ?_, ?_, ?_⟩, ?_, ?_, ?_, ?_, ?_, ?_, ?_, ?_⟩ fun K3 N3 st3 hL3 ⟨j, hj, ⟨c7, c8, c11, c12⟩, c86, c87, c88, c13, c14, c91, c92, c93⟩ => ?_
  any_goals (simp [e7, e8, e11, e12, e86, e87, e88, cnt]; done)
  have hcl := cnt_le Y y j
  by_cases hlj : j < Y.length
  · have hlj' : (j : Int) < Y.length := by omega
    have hwj := wrapS j _ hlj (by omega)
    have hz := mqs_get hlj
    have hs := cnt_snoc y hlj
    generalize cnt (Y.take j) y = C at *
    generalize hQz : Y[j] = z at *
    by_cases q1 : y.fr = z.fr
    · have e1 := eq_true q1
      by_cases q2 : y.to = z.to
      · have e2 := eq_true q2
        rw [if_pos ⟨q1.symm, q2.symm⟩] at hs
        have hwC : IntKind.i64.wrap ((C : Int) + 1) = ((C + 1 : Nat) : Int) := by rw [wrap_id (by omega) (by omega)]; omega
        repeat' first | (refine hK _ ?_; clear hK) | (refine hK _ _ ?_; clear hK) | (clear hK; refine hK _ ?_; clear hK) | (clear hK; clear hK; refine hK _ ?_; clear hK) | (clear hK; clear hK; clear hK; refine hK _ ?_; clear hK) | (clear hK; clear hK; clear hK; clear hK; refine hK _ ?_; clear hK) | (refine wSeq fun K hK => ?_) | ((first | refine wReg ?_ | refine wDrwQ rfl (by kernel_rfl) ?_ | refine wDrwI ?_ | refine wDrw (by kernel_rfl) ?_); simp only [List.map_cons, List.map_nil, strip]) | ((first | refine wIs fun K hK => ?_ | refine wOs fun K hK => ?_ | refine wQs fun K hK => ?_ | refine CallK_plain ?_ | refine CallQ_plain ?_ | refine CallR_plain ?_ | refine wCond ?_); simp [c7, c8, c11, c12, c86, c87, c88, c13, c14, c91, c92, c93, hlY, hlY', hy, hQ, hlj, hlj', hwj, hz, hQz, e1, e2, hwC]) | (refine wIn ?_; refine And.intro (by kernel_rfl) ?_; try simp only [thenA_n]) | (first | refine wBlock ?_ | refine wScope ?_) | ((first | refine wRet ?_ | refine wExit ?_ | refine wSkip ?_); try simp) | ((first | refine wLabel ?_ | refine wOn ?_ | refine wQn ?_); try simp only [thenA_n])
        refine hL3 _ (N3 - 1) (by omega) ⟨j + 1, by omega, ⟨?_, ?_, ?_, ?_⟩, ?_, ?_, ?_, ?_, ?_, ?_, ?_, ?_⟩
        all_goals simp [c7, c8, c11, c12, c86, c87, c88, c13, c14, c91, c92, c93, hwj, hs, hwC]
      · have e2 := eq_false q2
        rw [if_neg fun h => q2 h.2.symm] at hs
        repeat' first | (refine hK _ ?_; clear hK) | (refine hK _ _ ?_; clear hK) | (clear hK; refine hK _ ?_; clear hK) | (clear hK; clear hK; refine hK _ ?_; clear hK) | (clear hK; clear hK; clear hK; refine hK _ ?_; clear hK) | (clear hK; clear hK; clear hK; clear hK; refine hK _ ?_; clear hK) | (refine wSeq fun K hK => ?_) | ((first | refine wReg ?_ | refine wDrwQ rfl (by kernel_rfl) ?_ | refine wDrwI ?_ | refine wDrw (by kernel_rfl) ?_); simp only [List.map_cons, List.map_nil, strip]) | ((first | refine wIs fun K hK => ?_ | refine wOs fun K hK => ?_ | refine wQs fun K hK => ?_ | refine CallK_plain ?_ | refine CallQ_plain ?_ | refine CallR_plain ?_ | refine wCond ?_); simp [c7, c8, c11, c12, c86, c87, c88, c13, c14, c91, c92, c93, hlY, hlY', hy, hQ, hlj, hlj', hwj, hz, hQz, e1, e2]) | (refine wIn ?_; refine And.intro (by kernel_rfl) ?_; try simp only [thenA_n]) | (first | refine wBlock ?_ | refine wScope ?_) | ((first | refine wRet ?_ | refine wExit ?_ | refine wSkip ?_); try simp) | ((first | refine wLabel ?_ | refine wOn ?_ | refine wQn ?_); try simp only [thenA_n])
        refine hL3 _ (N3 - 1) (by omega) ⟨j + 1, by omega, ⟨?_, ?_, ?_, ?_⟩, ?_, ?_, ?_, ?_, ?_, ?_, ?_, ?_⟩
        all_goals simp [c7, c8, c11, c12, c86, c87, c88, c13, c14, c91, c92, c93, hwj, hs]
    · have e1 := eq_false q1
      rw [if_neg fun h => q1 h.1.symm] at hs
      repeat' first | (refine hK _ ?_; clear hK) | (refine hK _ _ ?_; clear hK) | (clear hK; refine hK _ ?_; clear hK) | (clear hK; clear hK; refine hK _ ?_; clear hK) | (clear hK; clear hK; clear hK; refine hK _ ?_; clear hK) | (clear hK; clear hK; clear hK; clear hK; refine hK _ ?_; clear hK) | (refine wSeq fun K hK => ?_) | ((first | refine wReg ?_ | refine wDrwQ rfl (by kernel_rfl) ?_ | refine wDrwI ?_ | refine wDrw (by kernel_rfl) ?_); simp only [List.map_cons, List.map_nil, strip]) | ((first | refine wIs fun K hK => ?_ | refine wOs fun K hK => ?_ | refine wQs fun K hK => ?_ | refine CallK_plain ?_ | refine CallQ_plain ?_ | refine CallR_plain ?_ | refine wCond ?_); simp [c7, c8, c11, c12, c86, c87, c88, c13, c14, c91, c92, c93, hlY, hlY', hy, hQ, hlj, hlj', hwj, hz, hQz, e1]) | (refine wIn ?_; refine And.intro (by kernel_rfl) ?_; try simp only [thenA_n]) | (first | refine wBlock ?_ | refine wScope ?_) | ((first | refine wRet ?_ | refine wExit ?_ | refine wSkip ?_); try simp) | ((first | refine wLabel ?_ | refine wOn ?_ | refine wQn ?_); try simp only [thenA_n])
      refine hL3 _ (N3 - 1) (by omega) ⟨j + 1, by omega, ⟨?_, ?_, ?_, ?_⟩, ?_, ?_, ?_, ?_, ?_, ?_, ?_, ?_⟩
      all_goals simp [c7, c8, c11, c12, c86, c87, c88, c13, c14, c91, c92, c93, hwj, hs]
  have hlj' : ¬ (j : Int) < Y.length := by omega
  rw [List.take_of_length_le (by omega)] at c14
  have r3' := eq_false (show ¬ (40 : Int) < (cnt Y y : Int) by omega)
  have r1' := eq_false r1
  have cH := has_con lost y.fr y.to
  rw [decide_eq_false r2] at cH
  generalize cnt Y y = C at *
  repeat' first | (refine hK _ ?_; clear hK) | (refine hK _ _ ?_; clear hK) | (clear hK; refine hK _ ?_; clear hK) | (clear hK; clear hK; refine hK _ ?_; clear hK) | (clear hK; clear hK; clear hK; refine hK _ ?_; clear hK) | (clear hK; clear hK; clear hK; clear hK; refine hK _ ?_; clear hK) | (refine wSeq fun K hK => ?_) | ((first | refine wReg ?_ | refine wDrwQ rfl (by kernel_rfl) ?_ | refine wDrwI ?_ | refine wDrw (by kernel_rfl) ?_); simp only [List.map_cons, List.map_nil, strip]) | ((first | refine wIs fun K hK => ?_ | refine wOs fun K hK => ?_ | refine wQs fun K hK => ?_ | refine CallK_plain ?_ | refine CallQ_plain ?_ | refine CallR_plain ?_ | refine wCond ?_); simp [c7, c8, c11, c12, c86, c87, c88, c13, c14, c91, c92, c93, hlY, hlY', hy, hQ, hlj', hw2, r3', r1']) | (refine wIn ?_; refine And.intro (by kernel_rfl) ?_; try simp only [thenA_n]) | (first | refine wBlock ?_ | refine wScope ?_) | ((first | refine wRet ?_ | refine wExit ?_ | refine wSkip ?_); try simp) | ((first | refine wLabel ?_ | refine wOn ?_ | refine wQn ?_); try simp only [thenA_n]) | (refine CallE.pure (cH) rfl ?_) | (refine CallE.lent (cH) rfl ?_) | (refine CallF.pure (cH) rfl ?_) | (refine CallF.lent (cH) rfl ?_) | (refine CallE.own (cH) ?_) | (refine CallH.pure (cH) rfl ?_) | (refine CallH.lent (cH) rfl ?_) | (refine CallH.own (cH) ?_)
  refine hL2 _ (N2 - 1) (by omega) ⟨i2 + 1, by omega, ⟨?_, ?_, ?_, ?_⟩, ?_, ?_, ?_⟩
  all_goals simp [c7, c8, c11, c12, c86, c87, c88, hw2]
end Go.Proofs.Ytechjohebkcjiaa
