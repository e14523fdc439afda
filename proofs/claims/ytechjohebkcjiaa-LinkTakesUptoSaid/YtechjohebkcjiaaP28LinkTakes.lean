/- Texts that the proof needs: LK3b. -/
import Derived.Test.YtechjohebkcjiaaP27LinkTakes
/- Messages on their way: one taken; those between two, or of one, lost. -/
namespace Go.Proofs.Ytechjohebkcjiaa
set_option linter.unusedSimpArgs false
set_option linter.unusedVariables false
set_option maxRecDepth 8000
open Go Go.Av
attribute [local simp] Try.T1 Try.T2 Try.T3 Try.T4 Try.T5 Try.T9 Try.T12 Try.T15 Try.T16 Try.T17 Try.T21 Try.T22 Try.T23 Try.T24 Try.T25 Try.T27 Try.T29 Try.T30 Try.T31 Try.T32 Try.T33 Try.T35 Try.T37 Try.T38 Try.T40 Try.T41 Try.T42 Try.T44 Try.T45 Try.T47 Try.T49 Try.T51 Try.T53 Try.T54 Try.T55 Try.T56 Try.T57 Try.T58 Try.T59 Try.T60 Try.T61 Try.T62 Try.T63 Try.T64 Try.T66 Try.T67 Try.T68 Try.T69 Try.T70 Try.T72 Try.T74 Try.T76 Try.T77 Try.T78 Try.T79 Try.T80 Try.T81 Try.T82 Try.T83 Try.T84 Try.T85 Try.T87 Try.T88 Try.T89 Try.T90 Try.T91 Try.T92 Try.T93 Try.T94 Try.T96 Try.T97 Try.T98 Try.T99 Try.T100 Try.T101 Try.T102 Try.T103 Try.T104 Try.T105 Try.T106 Try.T107 Try.T108 Try.T109 Try.T110 Try.T111 Try.T113 Try.T114 Try.T115 Try.T116 Try.T117 Try.T118 Try.T119 Try.T120 Try.T121 Try.T122 Try.T123 Try.T124 Try.T125 Try.T126 Try.T127 Try.T128 Try.T129 Try.T130 Try.T133 Try.T136 Try.T137 Try.T140 Try.T141
attribute [local irreducible] Go.Av.CallK Go.Av.CallE Go.Av.CallQ Go.Av.CallF Go.Av.CallR Go.Av.CallH Go.Av.Con
def mq0 : Mq := ⟨0, 0, [I 0, I 0, I 0, I 0, I 0, I 0, I 0, I 0, I 0, I 0, I 0, I 0, .sl 2 [], I 0, I 0, I 0, .sl 5 [], .sl 1 [], I 0, I 0, I 0, I 0, .sl 4 [], I 0, I 0, .sl 8 [], I 0, I 0, I 0, I 0, I 0, I 0, SB [], .sl 11 [], .sl 1 [], I 0, I 0, I 0, .sl 6 [], I 0, .sl 4 [], .sl 1 [], I 0, I 0], rfl⟩
theorem firstsAll_con (l : List Mq) (hl : l.length ≤ 1048576) : ACon Try.prog 13 [.p (.sl 46 (mqs l))] (.p (.sl 1 (nis (fsF l l.length)))) := by
  have c := firsts_con l l.length hl (by omega)
  rw [List.take_of_length_le (fs_len l _)] at c
  refine wBody Try.tab Try.mixed Try.func13 rfl rfl Try.ntmps13 (by simp) (by simp) fun Q hr hn => ?_
  repeat' first | (refine hK _ ?_; clear hK) | (refine hK _ _ ?_; clear hK) | (clear hK; refine hK _ ?_; clear hK) | (clear hK; clear hK; refine hK _ ?_; clear hK) | (clear hK; clear hK; clear hK; refine hK _ ?_; clear hK) | (clear hK; clear hK; clear hK; clear hK; refine hK _ ?_; clear hK) | (refine wSeq fun K hK => ?_) | ((first | refine wReg ?_ | refine wDrwQ rfl (by kernel_rfl) ?_ | refine wDrwI ?_ | refine wDrw (by kernel_rfl) ?_); simp only [List.map_cons, List.map_nil, strip]) | ((first | refine wIs fun K hK => ?_ | refine wOs fun K hK => ?_ | refine wQs fun K hK => ?_ | refine CallK_plain ?_ | refine CallQ_plain ?_ | refine CallR_plain ?_ | refine wCond ?_); simp) | (refine wIn ?_; refine And.intro (by kernel_rfl) ?_; try simp only [thenA_n]) | (first | refine wBlock ?_ | refine wScope ?_) | ((first | refine wRet ?_ | refine wExit ?_ | refine wSkip ?_); try simp) | ((first | refine wLabel ?_ | refine wOn ?_ | refine wQn ?_); try simp only [thenA_n]) | (refine CallE.pure (c) rfl ?_) | (refine CallE.lent (c) rfl ?_) | (refine CallF.pure (c) rfl ?_) | (refine CallF.lent (c) rfl ?_) | (refine CallE.own (c) ?_) | (refine CallH.pure (c) rfl ?_) | (refine CallH.lent (c) rfl ?_) | (refine CallH.own (c) ?_)
  all_goals apply hr
  all_goals simp [Try.f13]
/-- The place of the k-th that may come. -/
def tkA (l : List Mq) (k : Int) : Option Nat := if k < 0 then none else (fsF l l.length)[k.toNat]?
def tkV (l : List Mq) (k : Int) : V := match tkA l k with
  | none => .tup [.p (.agg mq0.cells), .p (.sl 46 (mqs l)), .p (B false)]
  | some i => .tup [.p (.agg ((l[i]?).getD mq0).cells), .p (.sl 46 (mqs (l.eraseIdx i))), .p (B true)]
theorem mem_erase {l : List Mq} {i : Nat} {m : Mq} (h : m ∈ l.eraseIdx i) : m ∈ l := List.mem_of_mem_eraseIdx h
set_option maxHeartbeats 8000000 in
theorem take_con (l : List Mq) (k : Int) (ho : ∀ m ∈ l, OkM m) (hl : l.length ≤ 1048575) : ACon Try.prog 8 [.p (.sl 46 (mqs l)), .p (I k)] (tkV l k) := by
  have cL := olMs l ho (by omega)
  by_cases h1 : k < 0
  · rw [show tkV l k = .tup [.p (.agg mq0.cells), .p (.sl 46 (mqs l)), .p (B false)] by unfold tkV tkA; rw [if_pos h1]]
    have h1' := eq_true h1
    refine wBody Try.tab Try.mixed Try.func8 rfl rfl Try.ntmps8 (by simp) (by simp) fun Q hr hn => ?_
    repeat' first | (refine hK _ ?_; clear hK) | (refine hK _ _ ?_; clear hK) | (clear hK; refine hK _ ?_; clear hK) | (clear hK; clear hK; refine hK _ ?_; clear hK) | (clear hK; clear hK; clear hK; refine hK _ ?_; clear hK) | (clear hK; clear hK; clear hK; clear hK; refine hK _ ?_; clear hK) | (refine wSeq fun K hK => ?_) | ((first | refine wReg ?_ | refine wDrwQ rfl (by kernel_rfl) ?_ | refine wDrwI ?_ | refine wDrw (by kernel_rfl) ?_); simp only [List.map_cons, List.map_nil, strip]) | ((first | refine wIs fun K hK => ?_ | refine wOs fun K hK => ?_ | refine wQs fun K hK => ?_ | refine CallK_plain ?_ | refine CallQ_plain ?_ | refine CallR_plain ?_ | refine wCond ?_); simp [h1']) | (refine wIn ?_; refine And.intro (by kernel_rfl) ?_; try simp only [thenA_n]) | (first | refine wBlock ?_ | refine wScope ?_) | ((first | refine wRet ?_ | refine wExit ?_ | refine wSkip ?_); try simp) | ((first | refine wLabel ?_ | refine wOn ?_ | refine wQn ?_); try simp only [thenA_n]) | (refine CallE.pure (cL) rfl ?_) | (refine CallE.lent (cL) rfl ?_) | (refine CallF.pure (cL) rfl ?_) | (refine CallF.lent (cL) rfl ?_) | (refine CallE.own (cL) ?_) | (refine CallH.pure (cL) rfl ?_) | (refine CallH.lent (cL) rfl ?_) | (refine CallH.own (cL) ?_)
    all_goals apply hr
    all_goals simp [Try.f8, mq0, Mq.cells, show ByteArray.empty = bs [] from rfl]
  have h1' := eq_false h1
  by_cases h2 : (l.length : Int) ≤ k
  · have hn : (fsF l l.length)[k.toNat]? = none := by
      have := fs_len l l.length
      rw [List.getElem?_eq_none_iff]; omega
    rw [show tkV l k = .tup [.p (.agg mq0.cells), .p (.sl 46 (mqs l)), .p (B false)] by unfold tkV tkA; rw [if_neg h1, hn]]
    have h2' := eq_true h2
    refine wBody Try.tab Try.mixed Try.func8 rfl rfl Try.ntmps8 (by simp) (by simp) fun Q hr hn => ?_
    repeat' first | (refine hK _ ?_; clear hK) | (refine hK _ _ ?_; clear hK) | (clear hK; refine hK _ ?_; clear hK) | (clear hK; clear hK; refine hK _ ?_; clear hK) | (clear hK; clear hK; clear hK; refine hK _ ?_; clear hK) | (clear hK; clear hK; clear hK; clear hK; refine hK _ ?_; clear hK) | (refine wSeq fun K hK => ?_) | ((first | refine wReg ?_ | refine wDrwQ rfl (by kernel_rfl) ?_ | refine wDrwI ?_ | refine wDrw (by kernel_rfl) ?_); simp only [List.map_cons, List.map_nil, strip]) | ((first | refine wIs fun K hK => ?_ | refine wOs fun K hK => ?_ | refine wQs fun K hK => ?_ | refine CallK_plain ?_ | refine CallQ_plain ?_ | refine CallR_plain ?_ | refine wCond ?_); simp [h1', h2']) | (refine wIn ?_; refine And.intro (by kernel_rfl) ?_; try simp only [thenA_n]) | (first | refine wBlock ?_ | refine wScope ?_) | ((first | refine wRet ?_ | refine wExit ?_ | refine wSkip ?_); try simp) | ((first | refine wLabel ?_ | refine wOn ?_ | refine wQn ?_); try simp only [thenA_n]) | (refine CallE.pure (cL) rfl ?_) | (refine CallE.lent (cL) rfl ?_) | (refine CallF.pure (cL) rfl ?_) | (refine CallF.lent (cL) rfl ?_) | (refine CallE.own (cL) ?_) | (refine CallH.pure (cL) rfl ?_) | (refine CallH.lent (cL) rfl ?_) | (refine CallH.own (cL) ?_)
    all_goals apply hr
    all_goals simp [Try.f8, mq0, Mq.cells, show ByteArray.empty = bs [] from rfl]
  have h2' := eq_false h2
  obtain ⟨n, rfl⟩ : ∃ n : Nat, k = (n : Int) := ⟨k.toNat, by omega⟩
  have cF := firsts_con l (n + 1) (by omega) (by omega)
  have hw : IntKind.i64.wrap ((n : Int) + 1) = ((n + 1 : Nat) : Int) := by rw [wrap_id (by omega) (by omega)]; omega
  have hfl := fs_len l l.length
  have hlt := fs_lt l l.length
  have hgt : ∀ j (h : j < (fsF l l.length).length), j < n + 1 → ((fsF l l.length).take (n + 1))[j]? = some (fsF l l.length)[j] := fun j h hj => by rw [List.getElem?_take_of_lt hj, List.getElem?_eq_getElem h]
  have hvv : tkV l (n : Int) = match (fsF l l.length)[n]? with
    | none => .tup [.p (.agg mq0.cells), .p (.sl 46 (mqs l)), .p (B false)]
    | some i => .tup [.p (.agg ((l[i]?).getD mq0).cells), .p (.sl 46 (mqs (l.eraseIdx i))), .p (B true)] := by
    unfold tkV tkA; rw [if_neg h1]; rfl
  rw [hvv]
  clear hvv
  have hlen : ((fsF l l.length).take (n + 1)).length = min (n + 1) (fsF l l.length).length := List.length_take
  generalize hG : fsF l l.length = G at *
  by_cases h3 : n < G.length
  case neg =>
    rw [List.getElem?_eq_none_iff.2 (by omega)]
    have h3' : (((G.take (n + 1)).length : Nat) : Int) ≤ (n : Int) := by omega
    generalize G.take (n + 1) = G1 at *
    have h3' := eq_true h3'
    refine wBody Try.tab Try.mixed Try.func8 rfl rfl Try.ntmps8 (by simp) (by simp) fun Q hr hn => ?_
    repeat' first | (refine hK _ ?_; clear hK) | (refine hK _ _ ?_; clear hK) | (clear hK; refine hK _ ?_; clear hK) | (clear hK; clear hK; refine hK _ ?_; clear hK) | (clear hK; clear hK; clear hK; refine hK _ ?_; clear hK) | (clear hK; clear hK; clear hK; clear hK; refine hK _ ?_; clear hK) | (refine wSeq fun K hK => ?_) | ((first | refine wReg ?_ | refine wDrwQ rfl (by kernel_rfl) ?_ | refine wDrwI ?_ | refine wDrw (by kernel_rfl) ?_); simp only [List.map_cons, List.map_nil, strip]) | ((first | refine wIs fun K hK => ?_ | refine wOs fun K hK => ?_ | refine wQs fun K hK => ?_ | refine CallK_plain ?_ | refine CallQ_plain ?_ | refine CallR_plain ?_ | refine wCond ?_); simp [h1', h2', hw, h3']) | (refine wIn ?_; refine And.intro (by kernel_rfl) ?_; try simp only [thenA_n]) | (first | refine wBlock ?_ | refine wScope ?_) | ((first | refine wRet ?_ | refine wExit ?_ | refine wSkip ?_); try simp) | ((first | refine wLabel ?_ | refine wOn ?_ | refine wQn ?_); try simp only [thenA_n]) | (refine CallE.pure (cL) rfl ?_) | (refine CallE.lent (cL) rfl ?_) | (refine CallF.pure (cL) rfl ?_) | (refine CallF.lent (cL) rfl ?_) | (refine CallE.own (cL) ?_) | (refine CallH.pure (cL) rfl ?_) | (refine CallH.lent (cL) rfl ?_) | (refine CallH.own (cL) ?_) | (refine CallE.pure (cF) rfl ?_) | (refine CallE.lent (cF) rfl ?_) | (refine CallF.pure (cF) rfl ?_) | (refine CallF.lent (cF) rfl ?_) | (refine CallE.own (cF) ?_) | (refine CallH.pure (cF) rfl ?_) | (refine CallH.lent (cF) rfl ?_) | (refine CallH.own (cF) ?_)
    all_goals apply hr
    all_goals simp [Try.f8, mq0, Mq.cells, show ByteArray.empty = bs [] from rfl]
  rw [List.getElem?_eq_getElem h3]
  have h3' : ¬ (((G.take (n + 1)).length : Nat) : Int) ≤ (n : Int) := by omega
  have hi := hlt _ (List.getElem_mem h3)
  have hg := hgt n h3 (by omega)
  generalize G[n] = i at *
  have hn1 : n < (G.take (n + 1)).length := by omega
  have hg1 := nis_get hn1
  have hg2 : (G.take (n + 1))[n] = i := by
    rw [List.getElem?_eq_getElem hn1] at hg
    exact Option.some.inj hg
  rw [hg2] at hg1
  generalize G.take (n + 1) = G1 at *
  have h3' := eq_false h3'
  have cM := oMs l[i].cells (ho _ (List.getElem_mem hi)).ok (ho _ (List.getElem_mem hi)).z
  have cR := olMs (l.eraseIdx i) (fun m hm => ho m (mem_erase hm)) (by rw [List.length_eraseIdx_of_lt hi]; omega)
  have he := mqs_get hi
  have her : mqs (l.eraseIdx i) = (mqs l).take i ++ (mqs l).drop (i + 1) := by rw [mqs_take, mqs_drop, mqs_app, List.eraseIdx_eq_take_drop_succ]
  show ACon Try.prog 8 [.p (.sl 46 (mqs l)), .p (I (n : Nat))] (.tup [.p (.agg ((l[i]?).getD mq0).cells), .p (.sl 46 (mqs (l.eraseIdx i))), .p (B true)])
  rw [List.getElem?_eq_getElem hi, Option.getD_some]
  have hwi : IntKind.i64.wrap ((i : Int) + 1) = ((i + 1 : Nat) : Int) := by rw [wrap_id (by omega) (by omega)]; omega
  generalize hQ : l[i] = m at *
  have hil : (i : Int) ≤ (l.length : Int) := by omega
  have hil2 : (i : Int) < (l.length : Int) := by omega
  have hil3 : ((i + 1 : Nat) : Int) ≤ (l.length : Int) := by omega
  have hil4 : i ≤ l.length := by omega
  have hil5 : i + 1 ≤ l.length := by omega
  have hil6 : (0 : Int) ≤ (i : Int) + 1 := by omega
  rw [her] at cR ⊢
  clear her
  have htk : List.take l.length (mqs l) = mqs l := List.take_of_length_le (by simp)
  by_cases hla : i + 1 < l.length
  · refine wBody Try.tab Try.mixed Try.func8 rfl rfl Try.ntmps8 (by simp) (by simp) fun Q hr hn => ?_
    repeat' first | (refine wFrzR 44 ((mqs l).take i ++ (mqs l).drop (i + 1)) rfl ?_; simp [frz, sub, sub0, subB]) | (refine And.intro (Or.inl (by omega)) ?_) | (refine And.intro (by (try simp); omega) (Or.inl ?_)) | (refine And.intro (by (try simp); omega) ?_) | (refine Or.inl ?_) | (refine hK _ ?_; clear hK) | (refine hK _ _ ?_; clear hK) | (clear hK; refine hK _ ?_; clear hK) | (clear hK; clear hK; refine hK _ ?_; clear hK) | (clear hK; clear hK; clear hK; refine hK _ ?_; clear hK) | (clear hK; clear hK; clear hK; clear hK; refine hK _ ?_; clear hK) | (refine wSeq fun K hK => ?_) | ((first | refine wReg ?_ | refine wDrwQ rfl (by kernel_rfl) ?_ | refine wDrwI ?_ | refine wDrw (by kernel_rfl) ?_); simp only [List.map_cons, List.map_nil, strip]) | ((first | refine wIs fun K hK => ?_ | refine wOs fun K hK => ?_ | refine wQs fun K hK => ?_ | refine CallK_plain ?_ | refine CallQ_plain ?_ | refine CallR_plain ?_ | refine wCond ?_); simp [h1', h2', hw, h3', hn1, hg1, hg2, hi, he, hQ, hwi, hil, hil2, hil3, hil4, hil5, hil6, htk, hla]) | (refine wIn ?_; refine And.intro (by kernel_rfl) ?_; try simp only [thenA_n]) | (first | refine wBlock ?_ | refine wScope ?_) | ((first | refine wRet ?_ | refine wExit ?_ | refine wSkip ?_); try simp) | ((first | refine wLabel ?_ | refine wOn ?_ | refine wQn ?_); try simp only [thenA_n]) | (refine CallE.pure (cF) rfl ?_) | (refine CallE.lent (cF) rfl ?_) | (refine CallF.pure (cF) rfl ?_) | (refine CallF.lent (cF) rfl ?_) | (refine CallE.own (cF) ?_) | (refine CallH.pure (cF) rfl ?_) | (refine CallH.lent (cF) rfl ?_) | (refine CallH.own (cF) ?_) | (refine CallE.pure (cM) rfl ?_) | (refine CallE.lent (cM) rfl ?_) | (refine CallF.pure (cM) rfl ?_) | (refine CallF.lent (cM) rfl ?_) | (refine CallE.own (cM) ?_) | (refine CallH.pure (cM) rfl ?_) | (refine CallH.lent (cM) rfl ?_) | (refine CallH.own (cM) ?_) | (refine CallE.pure (cR) rfl ?_) | (refine CallE.lent (cR) rfl ?_) | (refine CallF.pure (cR) rfl ?_) | (refine CallF.lent (cR) rfl ?_) | (refine CallE.own (cR) ?_) | (refine CallH.pure (cR) rfl ?_) | (refine CallH.lent (cR) rfl ?_) | (refine CallH.own (cR) ?_)
    all_goals apply hr
    all_goals simp [Try.f8]
  · have hd : (mqs l).drop (i + 1) = [] := List.drop_of_length_le (by simp; omega)
    rw [hd, List.append_nil] at cR ⊢
    refine wBody Try.tab Try.mixed Try.func8 rfl rfl Try.ntmps8 (by simp) (by simp) fun Q hr hn => ?_
    repeat' first | (refine And.intro (by (try simp); omega) (Or.inr ?_)) | (refine And.intro (by (try simp); omega) ?_) | (refine Or.inr ?_) | (refine hK _ ?_; clear hK) | (refine hK _ _ ?_; clear hK) | (clear hK; refine hK _ ?_; clear hK) | (clear hK; clear hK; refine hK _ ?_; clear hK) | (clear hK; clear hK; clear hK; refine hK _ ?_; clear hK) | (clear hK; clear hK; clear hK; clear hK; refine hK _ ?_; clear hK) | (refine wSeq fun K hK => ?_) | ((first | refine wReg ?_ | refine wDrwQ rfl (by kernel_rfl) ?_ | refine wDrwI ?_ | refine wDrw (by kernel_rfl) ?_); simp only [List.map_cons, List.map_nil, strip]) | ((first | refine wIs fun K hK => ?_ | refine wOs fun K hK => ?_ | refine wQs fun K hK => ?_ | refine CallK_plain ?_ | refine CallQ_plain ?_ | refine CallR_plain ?_ | refine wCond ?_); simp [h1', h2', hw, h3', hn1, hg1, hg2, hi, he, hQ, hwi, hil, hil2, hil3, hil4, hil5, hil6, htk, hla, hd]) | (refine wIn ?_; refine And.intro (by kernel_rfl) ?_; try simp only [thenA_n]) | (first | refine wBlock ?_ | refine wScope ?_) | ((first | refine wRet ?_ | refine wExit ?_ | refine wSkip ?_); try simp) | ((first | refine wLabel ?_ | refine wOn ?_ | refine wQn ?_); try simp only [thenA_n]) | (refine CallE.pure (cF) rfl ?_) | (refine CallE.lent (cF) rfl ?_) | (refine CallF.pure (cF) rfl ?_) | (refine CallF.lent (cF) rfl ?_) | (refine CallE.own (cF) ?_) | (refine CallH.pure (cF) rfl ?_) | (refine CallH.lent (cF) rfl ?_) | (refine CallH.own (cF) ?_) | (refine CallE.pure (cM) rfl ?_) | (refine CallE.lent (cM) rfl ?_) | (refine CallF.pure (cM) rfl ?_) | (refine CallF.lent (cM) rfl ?_) | (refine CallE.own (cM) ?_) | (refine CallH.pure (cM) rfl ?_) | (refine CallH.lent (cM) rfl ?_) | (refine CallH.own (cM) ?_) | (refine CallE.pure (cR) rfl ?_) | (refine CallE.lent (cR) rfl ?_) | (refine CallF.pure (cR) rfl ?_) | (refine CallF.lent (cR) rfl ?_) | (refine CallE.own (cR) ?_) | (refine CallH.pure (cR) rfl ?_) | (refine CallH.lent (cR) rfl ?_) | (refine CallH.own (cR) ?_)
    all_goals apply hr
    all_goals simp [Try.f8]
set_option maxHeartbeats 2000000 in
theorem reset_con (l : List Mq) (a b : Int) (ho : ∀ m ∈ l, OkM m) (hl : l.length ≤ 1048576) : ACon Try.prog 15 [.p (.sl 46 (mqs l)), .p (I a), .p (I b)] (.p (.sl 46 (mqs (l.filter fun m => !decide (two m.fr m.to = two a b))))) := by
  have c1 := apart_con a b
  generalize two a b = q at *
  obtain ⟨q0, q1⟩ := q
  have c2 := sifted_con 48 (.box 87 [.p (I q0), .p (I q1)]) ⟨_, [q0, q1], rfl⟩ (fun m => !decide (two m.fr m.to = ⟨q0, q1⟩)) (fun m => apart1_con m q0 q1) l (by omega)
  have c3 := olMs (l.filter fun m => !decide (two m.fr m.to = ⟨q0, q1⟩)) (fun m hm => ho m (List.mem_filter.1 hm).1) (Nat.le_trans (List.length_filter_le _ _) hl)
  generalize l.filter (fun m => !decide (two m.fr m.to = ⟨q0, q1⟩)) = L at *
  refine wBody Try.tab Try.mixed Try.func15 rfl rfl Try.ntmps15 (by simp) (by simp) fun Q hr hn => ?_
  repeat' first | (refine CallK_gen [] (c1) (by decide) (by decide) (by simp [blksOf]) (by simp [argsG, argG, ren0, inN, pos, renCs, renC, toP, toPF]) ⟨[500], by simp, by simp, ?_⟩; simp [lv, ouN, kpI, kpR, pos, ren, ren0, renB, renC, renCs, renF, renFs]) | (refine CallK_gen [500] (c2) (by decide) (by decide) (by simp [blksOf, inN, pos, renB, renC, renCs, ren0, lv, ouN, kpI, kpR]) (by simp [argsG, argG, ren0, inN, pos, renCs, renC]) ⟨[501], by simp, by simp, ?_⟩; simp [lv, ouN, kpI, kpR, pos, ren, ren0, renB, renC, renCs, renF, renFs]) | (refine wFrzR 501 (mqs L) rfl ?_; simp [frz, sub, sub0, subB]) | (refine hK _ ?_; clear hK) | (refine hK _ _ ?_; clear hK) | (clear hK; refine hK _ ?_; clear hK) | (clear hK; clear hK; refine hK _ ?_; clear hK) | (clear hK; clear hK; clear hK; refine hK _ ?_; clear hK) | (clear hK; clear hK; clear hK; clear hK; refine hK _ ?_; clear hK) | (refine wSeq fun K hK => ?_) | ((first | refine wReg ?_ | refine wDrwQ rfl (by kernel_rfl) ?_ | refine wDrwI ?_ | refine wDrw (by kernel_rfl) ?_); simp only [List.map_cons, List.map_nil, strip]) | ((first | refine wIs fun K hK => ?_ | refine wOs fun K hK => ?_ | refine wQs fun K hK => ?_ | refine CallK_plain ?_ | refine CallQ_plain ?_ | refine CallR_plain ?_ | refine wCond ?_); simp [lv, ouN, kpI, kpR, pos, ren, ren0, renB, renC, renCs, renF, renFs]) | (refine wIn ?_; refine And.intro (by kernel_rfl) ?_; try simp only [thenA_n]) | (first | refine wBlock ?_ | refine wScope ?_) | ((first | refine wRet ?_ | refine wExit ?_ | refine wSkip ?_); try simp) | ((first | refine wLabel ?_ | refine wOn ?_ | refine wQn ?_); try simp only [thenA_n]) | (refine CallE.pure (c3) rfl ?_) | (refine CallE.lent (c3) rfl ?_) | (refine CallF.pure (c3) rfl ?_) | (refine CallF.lent (c3) rfl ?_) | (refine CallE.own (c3) ?_) | (refine CallH.pure (c3) rfl ?_) | (refine CallH.lent (c3) rfl ?_) | (refine CallH.own (c3) ?_)
  all_goals apply hr
  all_goals simp [Try.f15]
set_option maxHeartbeats 2000000 in
theorem alone_con (l : List Mq) (i : Int) (ho : ∀ m ∈ l, OkM m) (hl : l.length ≤ 1048576) : ACon Try.prog 17 [.p (.sl 46 (mqs l)), .p (I i)] (.p (.sl 46 (mqs (l.filter fun m => decide (m.fr ≠ i ∧ m.to ≠ i))))) := by
  have c2 := sifted_con 30 (.box 3 [.p (I i)]) ⟨_, [i], rfl⟩ (fun m => decide (m.fr ≠ i ∧ m.to ≠ i)) (fun m => alone1_con m i) l (by omega)
  have c3 := olMs (l.filter fun m => decide (m.fr ≠ i ∧ m.to ≠ i)) (fun m hm => ho m (List.mem_filter.1 hm).1) (Nat.le_trans (List.length_filter_le _ _) hl)
  generalize l.filter (fun m => decide (m.fr ≠ i ∧ m.to ≠ i)) = L at *
  refine wBody Try.tab Try.mixed Try.func17 rfl rfl Try.ntmps17 (by simp) (by simp) fun Q hr hn => ?_
  repeat' first | (refine CallK_gen [3] (c2) (by decide) (by decide) (by simp [blksOf, inN, pos, renB, renC, renCs, ren0, lv, ouN, kpI, kpR]) (by simp [argsG, argG, ren0, inN, pos, renCs, renC]) ⟨[501], by simp, by simp, ?_⟩; simp [lv, ouN, kpI, kpR, pos, ren, ren0, renB, renC, renCs, renF, renFs]) | (refine wFrzR 501 (mqs L) rfl ?_; simp [frz, sub, sub0, subB]) | (refine hK _ ?_; clear hK) | (refine hK _ _ ?_; clear hK) | (clear hK; refine hK _ ?_; clear hK) | (clear hK; clear hK; refine hK _ ?_; clear hK) | (clear hK; clear hK; clear hK; refine hK _ ?_; clear hK) | (clear hK; clear hK; clear hK; clear hK; refine hK _ ?_; clear hK) | (refine wSeq fun K hK => ?_) | ((first | refine wReg ?_ | refine wDrwQ rfl (by kernel_rfl) ?_ | refine wDrwI ?_ | refine wDrw (by kernel_rfl) ?_); simp only [List.map_cons, List.map_nil, strip]) | ((first | refine wIs fun K hK => ?_ | refine wOs fun K hK => ?_ | refine wQs fun K hK => ?_ | refine CallK_plain ?_ | refine CallQ_plain ?_ | refine CallR_plain ?_ | refine wCond ?_); simp [lv, ouN, kpI, kpR, pos, ren, ren0, renB, renC, renCs, renF, renFs]) | (refine wIn ?_; refine And.intro (by kernel_rfl) ?_; try simp only [thenA_n]) | (first | refine wBlock ?_ | refine wScope ?_) | ((first | refine wRet ?_ | refine wExit ?_ | refine wSkip ?_); try simp) | ((first | refine wLabel ?_ | refine wOn ?_ | refine wQn ?_); try simp only [thenA_n]) | (refine CallE.pure (c3) rfl ?_) | (refine CallE.lent (c3) rfl ?_) | (refine CallF.pure (c3) rfl ?_) | (refine CallF.lent (c3) rfl ?_) | (refine CallE.own (c3) ?_) | (refine CallH.pure (c3) rfl ?_) | (refine CallH.lent (c3) rfl ?_) | (refine CallH.own (c3) ?_)
  all_goals apply hr
  all_goals simp [Try.f17]
end Go.Proofs.Ytechjohebkcjiaa
