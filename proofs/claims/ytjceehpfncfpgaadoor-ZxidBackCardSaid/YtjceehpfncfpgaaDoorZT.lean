/- Layer 2: texts, read and written; the laws ZxidTexts, ZxidBack. -/
import Derived.Test.YtjceehpfncfpgaaDoorZS
import Derived.Test.YtjceehpfncfpgaaDoorItoa
namespace Go.Proofs.YtjceehpfncfpgaaDoor
set_option linter.unusedSimpArgs false
set_option linter.unusedVariables false
open Go Go.Av
attribute [local simp] Tryd.T1 Tryd.T2 Tryd.T3 Tryd.T4 Tryd.T5 Tryd.T9 Tryd.T12 Tryd.T21 Tryd.T23 Tryd.T24 Tryd.T25 Tryd.T27 Tryd.T28 Tryd.T29 Tryd.T30 Tryd.T31 Tryd.T33 Tryd.T34 Tryd.T35 Tryd.T36 Tryd.T37 Tryd.T38 Tryd.T39 Tryd.T40 Tryd.T41 Tryd.T42 Tryd.T44 Tryd.T45 Tryd.T47 Tryd.T49 Tryd.T50 Tryd.T51 Tryd.T52 Tryd.T53 Tryd.T54 Tryd.T55 Tryd.T56 Tryd.T57 Tryd.T59 Tryd.T60 Tryd.T61 Tryd.T62 Tryd.T63 Tryd.T64 Tryd.T66 Tryd.T68 Tryd.T69 Tryd.T70 Tryd.T71 Tryd.T72 Tryd.T73 Tryd.T75 Tryd.T76 Tryd.T77 Tryd.T78 Tryd.T79 Tryd.T80 Tryd.T81 Tryd.T83 Tryd.T84 Tryd.T85 Tryd.T86 Tryd.T87 Tryd.T88 Tryd.T89 Tryd.T90 Tryd.T91 Tryd.T92 Tryd.T93 Tryd.T94 Tryd.T95 Tryd.T96 Tryd.T98 Tryd.T99 Tryd.T101 Tryd.T102 Tryd.T104 Tryd.T105 Tryd.T106 Tryd.T108 Tryd.T109 Tryd.T112 Tryd.T113 Tryd.T114 Tryd.T115 Tryd.T116 Tryd.T122 Tryd.T125
attribute [local irreducible] Go.Av.CallK Go.Av.CallE Go.Av.CallQ Go.Av.CallF Go.Av.Con

/-! ### Where the point is -/
def ix (l : List UInt8) : Nat := l.findIdx (· == 46)
theorem ix_le (l : List UInt8) : ix l ≤ l.length := List.findIdx_le_length
theorem indexByte_ix (l : List UInt8) : Go.Lib.indexByte l 46 = if ix l = l.length then -1 else (ix l : Int) := by
  induction l with
  | nil => rfl
  | cons a r ih =>
    unfold Go.Lib.indexByte ix
    rw [List.findIdx_cons]
    cases h : a == 46 with
    | true => simp
    | false =>
      have hix : List.findIdx (· == 46) r = ix r := rfl
      simp only [Bool.false_eq_true, if_false, cond_false, hix, List.length_cons]
      rw [ih]
      by_cases g : ix r = r.length
      · rw [if_pos g, if_pos (by simp), if_pos (by omega)]
      · rw [if_neg g, if_neg (by simp), if_neg (by omega)]
        push_cast; rfl
theorem ix_at {l : List UInt8} (h : ix l < l.length) : l[ix l] = 46 := by
  have := List.findIdx_getElem (p := (· == 46)) (xs := l) (w := h)
  exact eq_of_beq this
theorem ix_below {l : List UInt8} {k : Nat} (h : k < ix l) (hk : k < l.length) : ¬ l[k] = 46 := by
  have := List.not_of_lt_findIdx (p := (· == 46)) (xs := l) h
  simpa using this
def prs (l : List UInt8) : Zx × Int :=
  if ix l = l.length then (⟨0, 0⟩, 3) else if (num (l.take (ix l))).2 = true ∧ (num (l.drop (ix l + 1))).2 = true then (⟨(num (l.take (ix l))).1, (num (l.drop (ix l + 1))).1⟩, 0) else (⟨0, 0⟩, 3)
theorem indexB_con (l : List UInt8) : ACon Tryd.prog 81 [.p (SB l), .p (.v (.int .u8 46))] (.p (I (Go.Lib.indexByte l 46))) := by
  have c := indexByteString_con (bs l) 46
  simp only [bs_list, show (46 : Int).toNat.toUInt8 = 46 from rfl] at c
  refine wBody Tryd.tab Tryd.mixed Tryd.func81 rfl rfl Tryd.ntmps81 (by simp) (by simp) fun Q hr hn => ?_
  repeat' first | (refine hK _ ?_; clear hK) | (refine hK _ _ ?_; clear hK) | (clear hK; refine hK _ ?_; clear hK) | (clear hK; clear hK; refine hK _ ?_; clear hK) | (clear hK; clear hK; clear hK; refine hK _ ?_; clear hK) | (clear hK; clear hK; clear hK; clear hK; refine hK _ ?_; clear hK) | (refine wSeq fun K hK => ?_) | (refine wReg ?_; simp only [List.map_cons, List.map_nil, strip]) | (refine wDrwQ rfl (by kernel_rfl) ?_; simp only [List.map_cons, List.map_nil, strip]) | (refine wDrwI ?_; simp only [List.map_cons, List.map_nil, strip]) | (refine wDrw (by kernel_rfl) ?_; simp only [List.map_cons, List.map_nil, strip]) | (refine wIs fun K hK => ?_; simp) | (refine wIn ?_; refine And.intro (by kernel_rfl) ?_; try simp only [thenA_n]) | (refine wOs fun K hK => ?_; simp) | (refine wQs fun K hK => ?_; simp) | (refine CallK_plain ?_; simp) | (refine CallQ_plain ?_; simp) | (refine wRet ?_; try simp) | (refine wCond ?_; simp) | (refine wBlock ?_) | (refine wScope ?_) | (refine wExit ?_; try simp) | (refine wSkip ?_; try simp) | (refine wOn ?_; try simp only [thenA_n]) | (refine wQn ?_; try simp only [thenA_n]) | (refine CallE.pure (c) rfl ?_) | (refine CallE.lent (c) rfl ?_) | (refine CallF.pure (c) rfl ?_) | (refine CallF.lent (c) rfl ?_) | (refine CallE.own (c) ?_)
  all_goals apply hr
  all_goals simp [Tryd.f81]
theorem index1_con (l : List UInt8) : ACon Tryd.prog 73 [.p (SB l), .p (SB [46])] (.p (I (Go.Lib.indexByte l 46))) := by
  have c := indexB_con l
  by_cases h : l = [46]
  · subst h
    have e : Go.Lib.indexByte [46] 46 = 0 := rfl
    rw [e] at c ⊢
    refine wBody Tryd.tab Tryd.mixed Tryd.func73 rfl rfl Tryd.ntmps73 (by simp) (by simp) fun Q hr hn => ?_
    repeat' first | (refine hK _ ?_; clear hK) | (refine hK _ _ ?_; clear hK) | (clear hK; refine hK _ ?_; clear hK) | (clear hK; clear hK; refine hK _ ?_; clear hK) | (clear hK; clear hK; clear hK; refine hK _ ?_; clear hK) | (clear hK; clear hK; clear hK; clear hK; refine hK _ ?_; clear hK) | (refine wSeq fun K hK => ?_) | (refine wReg ?_; simp only [List.map_cons, List.map_nil, strip]) | (refine wDrwQ rfl (by kernel_rfl) ?_; simp only [List.map_cons, List.map_nil, strip]) | (refine wDrwI ?_; simp only [List.map_cons, List.map_nil, strip]) | (refine wDrw (by kernel_rfl) ?_; simp only [List.map_cons, List.map_nil, strip]) | (refine wIs fun K hK => ?_; simp) | (refine wIn ?_; refine And.intro (by kernel_rfl) ?_; try simp only [thenA_n]) | (refine wOs fun K hK => ?_; simp) | (refine wQs fun K hK => ?_; simp) | (refine CallK_plain ?_; simp) | (refine CallQ_plain ?_; simp) | (refine wRet ?_; try simp) | (refine wCond ?_; simp) | (refine wBlock ?_) | (refine wScope ?_) | (refine wExit ?_; try simp) | (refine wSkip ?_; try simp) | (refine wOn ?_; try simp only [thenA_n]) | (refine wQn ?_; try simp only [thenA_n]) | (refine CallE.pure (c) rfl ?_) | (refine CallE.lent (c) rfl ?_) | (refine CallF.pure (c) rfl ?_) | (refine CallF.lent (c) rfl ?_) | (refine CallE.own (c) ?_)
    all_goals apply hr
    all_goals simp [Tryd.f73]
  · have h' : ¬ [46] = l := fun e => h e.symm
    refine wBody Tryd.tab Tryd.mixed Tryd.func73 rfl rfl Tryd.ntmps73 (by simp) (by simp) fun Q hr hn => ?_
    repeat' first | (refine hK _ ?_; clear hK) | (refine hK _ _ ?_; clear hK) | (clear hK; refine hK _ ?_; clear hK) | (clear hK; clear hK; refine hK _ ?_; clear hK) | (clear hK; clear hK; clear hK; refine hK _ ?_; clear hK) | (clear hK; clear hK; clear hK; clear hK; refine hK _ ?_; clear hK) | (refine wSeq fun K hK => ?_) | (refine wReg ?_; simp only [List.map_cons, List.map_nil, strip]) | (refine wDrwQ rfl (by kernel_rfl) ?_; simp only [List.map_cons, List.map_nil, strip]) | (refine wDrwI ?_; simp only [List.map_cons, List.map_nil, strip]) | (refine wDrw (by kernel_rfl) ?_; simp only [List.map_cons, List.map_nil, strip]) | (refine wIs fun K hK => ?_; simp [h, h']) | (refine wIn ?_; refine And.intro (by kernel_rfl) ?_; try simp only [thenA_n]) | (refine wOs fun K hK => ?_; simp [h, h']) | (refine wQs fun K hK => ?_; simp [h, h']) | (refine CallK_plain ?_; simp [h, h']) | (refine CallQ_plain ?_; simp [h, h']) | (refine wRet ?_; try simp) | (refine wCond ?_; simp [h, h']) | (refine wBlock ?_) | (refine wScope ?_) | (refine wExit ?_; try simp) | (refine wSkip ?_; try simp) | (refine wOn ?_; try simp only [thenA_n]) | (refine wQn ?_; try simp only [thenA_n]) | (refine CallE.pure (c) rfl ?_) | (refine CallE.lent (c) rfl ?_) | (refine CallF.pure (c) rfl ?_) | (refine CallF.lent (c) rfl ?_) | (refine CallE.own (c) ?_)
    all_goals apply hr
    all_goals simp [Tryd.f73]
def cutV (l : List UInt8) : V := if ix l = l.length then .tup [.p (SB l), .p (SB []), .p (B false)] else .tup [.p (SB (l.take (ix l))), .p (SB (l.drop (ix l + 1))), .p (B true)]
theorem cutL_con (l : List UInt8) (hl : l.length ≤ 9223372036854775807) : ACon Tryd.prog 66 [.p (SB l), .p (SB [46])] (cutV l) := by
  have c := index1_con l
  rw [indexByte_ix] at c
  have hle := ix_le l
  unfold cutV
  by_cases h : ix l = l.length
  · rw [if_pos h] at c ⊢
    refine wBody Tryd.tab Tryd.mixed Tryd.func66 rfl rfl Tryd.ntmps66 (by simp) (by simp) fun Q hr hn => ?_
    repeat' first | (refine hK _ ?_; clear hK) | (refine hK _ _ ?_; clear hK) | (clear hK; refine hK _ ?_; clear hK) | (clear hK; clear hK; refine hK _ ?_; clear hK) | (clear hK; clear hK; clear hK; refine hK _ ?_; clear hK) | (clear hK; clear hK; clear hK; clear hK; refine hK _ ?_; clear hK) | (refine wSeq fun K hK => ?_) | (refine wReg ?_; simp only [List.map_cons, List.map_nil, strip]) | (refine wDrwQ rfl (by kernel_rfl) ?_; simp only [List.map_cons, List.map_nil, strip]) | (refine wDrwI ?_; simp only [List.map_cons, List.map_nil, strip]) | (refine wDrw (by kernel_rfl) ?_; simp only [List.map_cons, List.map_nil, strip]) | (refine wIs fun K hK => ?_; simp) | (refine wIn ?_; refine And.intro (by kernel_rfl) ?_; try simp only [thenA_n]) | (refine wOs fun K hK => ?_; simp) | (refine wQs fun K hK => ?_; simp) | (refine CallK_plain ?_; simp) | (refine CallQ_plain ?_; simp) | (refine wRet ?_; try simp) | (refine wCond ?_; simp) | (refine wBlock ?_) | (refine wScope ?_) | (refine wExit ?_; try simp) | (refine wSkip ?_; try simp) | (refine wOn ?_; try simp only [thenA_n]) | (refine wQn ?_; try simp only [thenA_n]) | (refine CallE.pure (c) rfl ?_) | (refine CallE.lent (c) rfl ?_) | (refine CallF.pure (c) rfl ?_) | (refine CallF.lent (c) rfl ?_) | (refine CallE.own (c) ?_)
    all_goals apply hr
    all_goals simp [Tryd.f66]
  · rw [if_neg h] at c ⊢
    have hlt : ix l < l.length := by omega
    have hw : IntKind.i64.wrap ((ix l : Int) + 1) = ((ix l + 1 : Nat) : Int) := by rw [wrap_id] <;> omega
    have h1 : ix l + 1 ≤ l.length := by omega
    have h0 : (0 : Int) ≤ (ix l : Int) + 1 := by omega
    have ht : (((ix l + 1 : Nat) : Int)).toNat = ix l + 1 := by omega
    generalize ix l = x at *
    refine wBody Tryd.tab Tryd.mixed Tryd.func66 rfl rfl Tryd.ntmps66 (by simp) (by simp) fun Q hr hn => ?_
    repeat' first | (refine hK _ ?_; clear hK) | (refine hK _ _ ?_; clear hK) | (clear hK; refine hK _ ?_; clear hK) | (clear hK; clear hK; refine hK _ ?_; clear hK) | (clear hK; clear hK; clear hK; refine hK _ ?_; clear hK) | (clear hK; clear hK; clear hK; clear hK; refine hK _ ?_; clear hK) | (refine wSeq fun K hK => ?_) | (refine wReg ?_; simp only [List.map_cons, List.map_nil, strip]) | (refine wDrwQ rfl (by kernel_rfl) ?_; simp only [List.map_cons, List.map_nil, strip]) | (refine wDrwI ?_; simp only [List.map_cons, List.map_nil, strip]) | (refine wDrw (by kernel_rfl) ?_; simp only [List.map_cons, List.map_nil, strip]) | (refine wIs fun K hK => ?_; simp [hw, hle, h1, h0, ht]) | (refine wIn ?_; refine And.intro (by kernel_rfl) ?_; try simp only [thenA_n]) | (refine wOs fun K hK => ?_; simp [hw, hle, h1, h0, ht]) | (refine wQs fun K hK => ?_; simp [hw, hle, h1, h0, ht]) | (refine CallK_plain ?_; simp [hw, hle, h1, h0, ht]) | (refine CallQ_plain ?_; simp [hw, hle, h1, h0, ht]) | (refine wRet ?_; try simp) | (refine wCond ?_; simp [hw, hle, h1, h0, ht]) | (refine wBlock ?_) | (refine wScope ?_) | (refine wExit ?_; try simp) | (refine wSkip ?_; try simp) | (refine wOn ?_; try simp only [thenA_n]) | (refine wQn ?_; try simp only [thenA_n]) | (refine CallE.pure (c) rfl ?_) | (refine CallE.lent (c) rfl ?_) | (refine CallF.pure (c) rfl ?_) | (refine CallF.lent (c) rfl ?_) | (refine CallE.own (c) ?_)
    all_goals apply hr
    all_goals simp [Tryd.f66]
theorem cut_con (l : List UInt8) (hl : l.length ≤ 9223372036854775807) : ACon Tryd.prog 48 [.p (SB l), .p (SB [46])] (cutV l) := by
  have c := cutL_con l hl
  unfold cutV at c ⊢
  by_cases h : ix l = l.length
  · rw [if_pos h] at c ⊢
    refine wBody Tryd.tab Tryd.mixed Tryd.func48 rfl rfl Tryd.ntmps48 (by simp) (by simp) fun Q hr hn => ?_
    repeat' first | (refine hK _ ?_; clear hK) | (refine hK _ _ ?_; clear hK) | (clear hK; refine hK _ ?_; clear hK) | (clear hK; clear hK; refine hK _ ?_; clear hK) | (clear hK; clear hK; clear hK; refine hK _ ?_; clear hK) | (clear hK; clear hK; clear hK; clear hK; refine hK _ ?_; clear hK) | (refine wSeq fun K hK => ?_) | (refine wReg ?_; simp only [List.map_cons, List.map_nil, strip]) | (refine wDrwQ rfl (by kernel_rfl) ?_; simp only [List.map_cons, List.map_nil, strip]) | (refine wDrwI ?_; simp only [List.map_cons, List.map_nil, strip]) | (refine wDrw (by kernel_rfl) ?_; simp only [List.map_cons, List.map_nil, strip]) | (refine wIs fun K hK => ?_; simp) | (refine wIn ?_; refine And.intro (by kernel_rfl) ?_; try simp only [thenA_n]) | (refine wOs fun K hK => ?_; simp) | (refine wQs fun K hK => ?_; simp) | (refine CallK_plain ?_; simp) | (refine CallQ_plain ?_; simp) | (refine wRet ?_; try simp) | (refine wCond ?_; simp) | (refine wBlock ?_) | (refine wScope ?_) | (refine wExit ?_; try simp) | (refine wSkip ?_; try simp) | (refine wOn ?_; try simp only [thenA_n]) | (refine wQn ?_; try simp only [thenA_n]) | (refine CallE.pure (c) rfl ?_) | (refine CallE.lent (c) rfl ?_) | (refine CallF.pure (c) rfl ?_) | (refine CallF.lent (c) rfl ?_) | (refine CallE.own (c) ?_)
    all_goals apply hr
    all_goals simp [Tryd.f48]
  · rw [if_neg h] at c ⊢
    refine wBody Tryd.tab Tryd.mixed Tryd.func48 rfl rfl Tryd.ntmps48 (by simp) (by simp) fun Q hr hn => ?_
    repeat' first | (refine hK _ ?_; clear hK) | (refine hK _ _ ?_; clear hK) | (clear hK; refine hK _ ?_; clear hK) | (clear hK; clear hK; refine hK _ ?_; clear hK) | (clear hK; clear hK; clear hK; refine hK _ ?_; clear hK) | (clear hK; clear hK; clear hK; clear hK; refine hK _ ?_; clear hK) | (refine wSeq fun K hK => ?_) | (refine wReg ?_; simp only [List.map_cons, List.map_nil, strip]) | (refine wDrwQ rfl (by kernel_rfl) ?_; simp only [List.map_cons, List.map_nil, strip]) | (refine wDrwI ?_; simp only [List.map_cons, List.map_nil, strip]) | (refine wDrw (by kernel_rfl) ?_; simp only [List.map_cons, List.map_nil, strip]) | (refine wIs fun K hK => ?_; simp) | (refine wIn ?_; refine And.intro (by kernel_rfl) ?_; try simp only [thenA_n]) | (refine wOs fun K hK => ?_; simp) | (refine wQs fun K hK => ?_; simp) | (refine CallK_plain ?_; simp) | (refine CallQ_plain ?_; simp) | (refine wRet ?_; try simp) | (refine wCond ?_; simp) | (refine wBlock ?_) | (refine wScope ?_) | (refine wExit ?_; try simp) | (refine wSkip ?_; try simp) | (refine wOn ?_; try simp only [thenA_n]) | (refine wQn ?_; try simp only [thenA_n]) | (refine CallE.pure (c) rfl ?_) | (refine CallE.lent (c) rfl ?_) | (refine CallF.pure (c) rfl ?_) | (refine CallF.lent (c) rfl ?_) | (refine CallE.own (c) ?_)
    all_goals apply hr
    all_goals simp [Tryd.f48]
theorem parse_con (l : List UInt8) (hl : l.length ≤ 9223372036854775807) : ACon Tryd.prog 24 [.p (SB l)] (.tup [.p (.agg [I (prs l).1.e, I (prs l).1.n]), .p (I (prs l).2)]) := by
  have c := cut_con l hl
  unfold cutV at c
  unfold prs
  by_cases h : ix l = l.length
  · rw [if_pos h] at c ⊢
    have c1 := number_con l hl
    have c2 := number_con [] (by simp)
    rw [show num [] = (0, false) from rfl] at c2
    generalize num l = p at c1
    refine wBody Tryd.tab Tryd.mixed Tryd.func24 rfl rfl Tryd.ntmps24 (by simp) (by simp) fun Q hr hn => ?_
    repeat' first | (refine hK _ ?_; clear hK) | (refine hK _ _ ?_; clear hK) | (clear hK; refine hK _ ?_; clear hK) | (clear hK; clear hK; refine hK _ ?_; clear hK) | (clear hK; clear hK; clear hK; refine hK _ ?_; clear hK) | (clear hK; clear hK; clear hK; clear hK; refine hK _ ?_; clear hK) | (refine wSeq fun K hK => ?_) | (refine wReg ?_; simp only [List.map_cons, List.map_nil, strip]) | (refine wDrwQ rfl (by kernel_rfl) ?_; simp only [List.map_cons, List.map_nil, strip]) | (refine wDrwI ?_; simp only [List.map_cons, List.map_nil, strip]) | (refine wDrw (by kernel_rfl) ?_; simp only [List.map_cons, List.map_nil, strip]) | (refine wIs fun K hK => ?_; simp) | (refine wIn ?_; refine And.intro (by kernel_rfl) ?_; try simp only [thenA_n]) | (refine wOs fun K hK => ?_; simp) | (refine wQs fun K hK => ?_; simp) | (refine CallK_plain ?_; simp) | (refine CallQ_plain ?_; simp) | (refine wRet ?_; try simp) | (refine wCond ?_; simp) | (refine wBlock ?_) | (refine wScope ?_) | (refine wExit ?_; try simp) | (refine wSkip ?_; try simp) | (refine wOn ?_; try simp only [thenA_n]) | (refine wQn ?_; try simp only [thenA_n]) | (refine CallE.pure (c) rfl ?_) | (refine CallE.lent (c) rfl ?_) | (refine CallF.pure (c) rfl ?_) | (refine CallF.lent (c) rfl ?_) | (refine CallE.own (c) ?_) | (refine CallE.pure (c1) rfl ?_) | (refine CallE.lent (c1) rfl ?_) | (refine CallF.pure (c1) rfl ?_) | (refine CallF.lent (c1) rfl ?_) | (refine CallE.own (c1) ?_) | (refine CallE.pure (c2) rfl ?_) | (refine CallE.lent (c2) rfl ?_) | (refine CallF.pure (c2) rfl ?_) | (refine CallF.lent (c2) rfl ?_) | (refine CallE.own (c2) ?_)
    all_goals apply hr
    all_goals simp [Tryd.f24]
  · rw [if_neg h] at c ⊢
    have c1 := number_con (l.take (ix l)) (by simp; omega)
    have c2 := number_con (l.drop (ix l + 1)) (by simp; omega)
    generalize num (l.take (ix l)) = p at c1
    generalize num (l.drop (ix l + 1)) = q at c2
    obtain ⟨p1, p2⟩ := p
    obtain ⟨q1, q2⟩ := q
    cases p2 <;> cases q2
    all_goals simp only [Bool.false_eq_true, and_false, false_and, and_self, if_false, if_true] at c1 c2 ⊢
    all_goals refine wBody Tryd.tab Tryd.mixed Tryd.func24 rfl rfl Tryd.ntmps24 (by simp) (by simp) fun Q hr hn => ?_
    all_goals repeat' first | (refine hK _ ?_; clear hK) | (refine hK _ _ ?_; clear hK) | (clear hK; refine hK _ ?_; clear hK) | (clear hK; clear hK; refine hK _ ?_; clear hK) | (clear hK; clear hK; clear hK; refine hK _ ?_; clear hK) | (clear hK; clear hK; clear hK; clear hK; refine hK _ ?_; clear hK) | (refine wSeq fun K hK => ?_) | (refine wReg ?_; simp only [List.map_cons, List.map_nil, strip]) | (refine wDrwQ rfl (by kernel_rfl) ?_; simp only [List.map_cons, List.map_nil, strip]) | (refine wDrwI ?_; simp only [List.map_cons, List.map_nil, strip]) | (refine wDrw (by kernel_rfl) ?_; simp only [List.map_cons, List.map_nil, strip]) | (refine wIs fun K hK => ?_; simp) | (refine wIn ?_; refine And.intro (by kernel_rfl) ?_; try simp only [thenA_n]) | (refine wOs fun K hK => ?_; simp) | (refine wQs fun K hK => ?_; simp) | (refine CallK_plain ?_; simp) | (refine CallQ_plain ?_; simp) | (refine wRet ?_; try simp) | (refine wCond ?_; simp) | (refine wBlock ?_) | (refine wScope ?_) | (refine wExit ?_; try simp) | (refine wSkip ?_; try simp) | (refine wOn ?_; try simp only [thenA_n]) | (refine wQn ?_; try simp only [thenA_n]) | (refine CallE.pure (c) rfl ?_) | (refine CallE.lent (c) rfl ?_) | (refine CallF.pure (c) rfl ?_) | (refine CallF.lent (c) rfl ?_) | (refine CallE.own (c) ?_) | (refine CallE.pure (c1) rfl ?_) | (refine CallE.lent (c1) rfl ?_) | (refine CallF.pure (c1) rfl ?_) | (refine CallF.lent (c1) rfl ?_) | (refine CallE.own (c1) ?_) | (refine CallE.pure (c2) rfl ?_) | (refine CallE.lent (c2) rfl ?_) | (refine CallF.pure (c2) rfl ?_) | (refine CallF.lent (c2) rfl ?_) | (refine CallE.own (c2) ?_)
    all_goals apply hr
    all_goals simp [Tryd.f24]
theorem parse02_con (l : List UInt8) (hl : l.length ≤ 9223372036854775807) : ACon Tryd.prog 25 [.p (SB l)] (.tup [.p (.agg [I (prs l).1.e, I (prs l).1.n]), .p (I (prs l).2)]) := by
  have hle := ix_le l
  have hbl := fun k h h' => ix_below (l := l) (k := k) h h'
  have hat := fun h => ix_at (l := l) h
  have c1 := number02_con (l.take (ix l)) (by simp; omega)
  have c2 := number02_con (l.drop (ix l + 1)) (by simp; omega)
  unfold prs
  generalize hx : ix l = x at *
  refine wBody Tryd.tab Tryd.mixed Tryd.func25 rfl rfl Tryd.ntmps25 (by simp) (by simp) fun Q hr hn => ?_
  repeat' first | (refine hK _ ?_; clear hK) | (refine hK _ _ ?_; clear hK) | (clear hK; refine hK _ ?_; clear hK) | (clear hK; clear hK; refine hK _ ?_; clear hK) | (clear hK; clear hK; clear hK; refine hK _ ?_; clear hK) | (clear hK; clear hK; clear hK; clear hK; refine hK _ ?_; clear hK) | (refine wSeq fun K hK => ?_) | (refine wReg ?_; simp only [List.map_cons, List.map_nil, strip]) | (refine wDrwQ rfl (by kernel_rfl) ?_; simp only [List.map_cons, List.map_nil, strip]) | (refine wDrwI ?_; simp only [List.map_cons, List.map_nil, strip]) | (refine wDrw (by kernel_rfl) ?_; simp only [List.map_cons, List.map_nil, strip]) | (refine wIs fun K hK => ?_; simp) | (refine wIn ?_; refine And.intro (by kernel_rfl) ?_; try simp only [thenA_n]) | (refine wOs fun K hK => ?_; simp) | (refine wQs fun K hK => ?_; simp) | (refine CallK_plain ?_; simp) | (refine CallQ_plain ?_; simp) | (refine wRet ?_; try simp) | (refine wCond ?_; simp) | (refine wBlock ?_) | (refine wScope ?_) | (refine wExit ?_; try simp) | (refine wSkip ?_; try simp) | (refine wOn ?_; try simp only [thenA_n]) | (refine wQn ?_; try simp only [thenA_n])
  refine wLoop (fun N st => ∃ k, k + N = x ∧ st.s 0 = .p (SB l) ∧ st.s 2 = .ptr 2 0 ∧ st.b 2 = some (.box 23 [.p (I 0), .p (I 0)]) ∧ st.s 4 = .p (I k)) x ⟨0, by simp⟩ fun K N st hL ⟨k, hk, g0, g2, b2, g4⟩ => ?_
  by_cases hlt : k < x
  · have hkl : k < l.length := by omega
    have hw := wrapS k _ hkl (by omega)
    have he := List.getElem?_eq_getElem hkl
    have hne : ¬ (l[k].toNat : Int) = 46 := fun h => hbl k hlt hkl (by apply UInt8.toNat_inj.1; exact (by exact_mod_cast h : l[k].toNat = 46))
    have hne' : ¬ l[k].toNat = 46 := by omega
    repeat' first | (refine hK _ ?_; clear hK) | (refine hK _ _ ?_; clear hK) | (clear hK; refine hK _ ?_; clear hK) | (clear hK; clear hK; refine hK _ ?_; clear hK) | (clear hK; clear hK; clear hK; refine hK _ ?_; clear hK) | (clear hK; clear hK; clear hK; clear hK; refine hK _ ?_; clear hK) | (refine wSeq fun K hK => ?_) | (refine wReg ?_; simp only [List.map_cons, List.map_nil, strip]) | (refine wDrwQ rfl (by kernel_rfl) ?_; simp only [List.map_cons, List.map_nil, strip]) | (refine wDrwI ?_; simp only [List.map_cons, List.map_nil, strip]) | (refine wDrw (by kernel_rfl) ?_; simp only [List.map_cons, List.map_nil, strip]) | (refine wIs fun K hK => ?_; simp [g0, g2, b2, g4, hkl, hw, he, hne, hne']) | (refine wIn ?_; refine And.intro (by kernel_rfl) ?_; try simp only [thenA_n]) | (refine wOs fun K hK => ?_; simp [g0, g2, b2, g4, hkl, hw, he, hne, hne']) | (refine wQs fun K hK => ?_; simp [g0, g2, b2, g4, hkl, hw, he, hne, hne']) | (refine CallK_plain ?_; simp [g0, g2, b2, g4, hkl, hw, he, hne, hne']) | (refine CallQ_plain ?_; simp [g0, g2, b2, g4, hkl, hw, he, hne, hne']) | (refine wRet ?_; try simp) | (refine wCond ?_; simp [g0, g2, b2, g4, hkl, hw, he, hne, hne']) | (refine wBlock ?_) | (refine wScope ?_) | (refine wExit ?_; try simp) | (refine wSkip ?_; try simp) | (refine wOn ?_; try simp only [thenA_n]) | (refine wQn ?_; try simp only [thenA_n])
    refine hL _ (N - 1) (by omega) ⟨k + 1, by omega, ?_⟩
    simp [g0, g2, b2, g4, hw]
  · obtain rfl : k = x := by omega
    by_cases h : k = l.length
    · have hnl : ¬ k < l.length := by omega
      have hk' : ((k : Int) = (l.length : Int)) = True := eq_true (by omega)
      rw [if_pos h] at hr
      repeat' first | (refine hK _ ?_; clear hK) | (refine hK _ _ ?_; clear hK) | (clear hK; refine hK _ ?_; clear hK) | (clear hK; clear hK; refine hK _ ?_; clear hK) | (clear hK; clear hK; clear hK; refine hK _ ?_; clear hK) | (clear hK; clear hK; clear hK; clear hK; refine hK _ ?_; clear hK) | (refine wSeq fun K hK => ?_) | (refine wReg ?_; simp only [List.map_cons, List.map_nil, strip]) | (refine wDrwQ rfl (by kernel_rfl) ?_; simp only [List.map_cons, List.map_nil, strip]) | (refine wDrwI ?_; simp only [List.map_cons, List.map_nil, strip]) | (refine wDrw (by kernel_rfl) ?_; simp only [List.map_cons, List.map_nil, strip]) | (refine wIs fun K hK => ?_; simp [g0, g2, b2, g4, hnl, h]) | (refine wIn ?_; refine And.intro (by kernel_rfl) ?_; try simp only [thenA_n]) | (refine wOs fun K hK => ?_; simp [g0, g2, b2, g4, hnl, h]) | (refine wQs fun K hK => ?_; simp [g0, g2, b2, g4, hnl, h]) | (refine CallK_plain ?_; simp [g0, g2, b2, g4, hnl, h]) | (refine CallQ_plain ?_; simp [g0, g2, b2, g4, hnl, h]) | (refine wRet ?_; try simp) | (refine wCond ?_; simp [g0, g2, b2, g4, hnl, h]) | (refine wBlock ?_) | (refine wScope ?_) | (refine wExit ?_; try simp) | (refine wSkip ?_; try simp) | (refine wOn ?_; try simp only [thenA_n]) | (refine wQn ?_; try simp only [thenA_n])
      all_goals apply hr
      all_goals simp [Tryd.f25, g2, b2]
    · have hkl : k < l.length := by omega
      have he : l[k]? = some 46 := by rw [List.getElem?_eq_getElem hkl, hat hkl]
      have he2 : l[k] = 46 := hat hkl
      have hw : IntKind.i64.wrap ((k : Int) + 1) = ((k + 1 : Nat) : Int) := by rw [wrap_id] <;> omega
      have h1 : k + 1 ≤ l.length := by omega
      have h0 : (0 : Int) ≤ (k : Int) + 1 := by omega
      have ht : (((k + 1 : Nat) : Int)).toNat = k + 1 := by omega
      have hkn : ¬ (k : Int) = (l.length : Int) := by omega
      rw [if_neg h] at hr
      generalize num (l.take k) = p at c1 hr
      generalize num (l.drop (k + 1)) = q at c2 hr
      obtain ⟨p1, p2⟩ := p
      obtain ⟨q1, q2⟩ := q
      cases p2 <;> cases q2
      all_goals simp only [Bool.false_eq_true, and_false, false_and, and_self, if_false, if_true] at c1 c2 hr
      all_goals repeat' first | (refine hK _ ?_; clear hK) | (refine hK _ _ ?_; clear hK) | (clear hK; refine hK _ ?_; clear hK) | (clear hK; clear hK; refine hK _ ?_; clear hK) | (clear hK; clear hK; clear hK; refine hK _ ?_; clear hK) | (clear hK; clear hK; clear hK; clear hK; refine hK _ ?_; clear hK) | (refine wSeq fun K hK => ?_) | (refine wReg ?_; simp only [List.map_cons, List.map_nil, strip]) | (refine wDrwQ rfl (by kernel_rfl) ?_; simp only [List.map_cons, List.map_nil, strip]) | (refine wDrwI ?_; simp only [List.map_cons, List.map_nil, strip]) | (refine wDrw (by kernel_rfl) ?_; simp only [List.map_cons, List.map_nil, strip]) | (refine wIs fun K hK => ?_; simp [g0, g2, b2, g4, hkl, he, he2, hw, hle, h1, h0, ht, h, hkn]) | (refine wIn ?_; refine And.intro (by kernel_rfl) ?_; try simp only [thenA_n]) | (refine wOs fun K hK => ?_; simp [g0, g2, b2, g4, hkl, he, he2, hw, hle, h1, h0, ht, h, hkn]) | (refine wQs fun K hK => ?_; simp [g0, g2, b2, g4, hkl, he, he2, hw, hle, h1, h0, ht, h, hkn]) | (refine CallK_plain ?_; simp [g0, g2, b2, g4, hkl, he, he2, hw, hle, h1, h0, ht, h, hkn]) | (refine CallQ_plain ?_; simp [g0, g2, b2, g4, hkl, he, he2, hw, hle, h1, h0, ht, h, hkn]) | (refine wRet ?_; try simp) | (refine wCond ?_; simp [g0, g2, b2, g4, hkl, he, he2, hw, hle, h1, h0, ht, h, hkn]) | (refine wBlock ?_) | (refine wScope ?_) | (refine wExit ?_; try simp) | (refine wSkip ?_; try simp) | (refine wOn ?_; try simp only [thenA_n]) | (refine wQn ?_; try simp only [thenA_n]) | (refine CallE.pure (c1) rfl ?_) | (refine CallE.lent (c1) rfl ?_) | (refine CallF.pure (c1) rfl ?_) | (refine CallF.lent (c1) rfl ?_) | (refine CallE.own (c1) ?_) | (refine CallE.pure (c2) rfl ?_) | (refine CallE.lent (c2) rfl ?_) | (refine CallF.pure (c2) rfl ?_) | (refine CallF.lent (c2) rfl ?_) | (refine CallE.own (c2) ?_)
      all_goals apply hr
      all_goals simp [Tryd.f25, g2, b2]
/-! ### Texts -/
def txt (z : Zx) : List UInt8 := if rgt z.e = true ∧ rgt z.n = true then Go.Lib.itoa z.e ++ 46 :: Go.Lib.itoa z.n else []
theorem dv_app (m : List UInt8) (d : UInt8) : dv (m ++ [d]) = 10 * dv m + ((d.toNat : Int) - 48) := by
  simp [dv, List.foldl_append]
theorem dig_of (k : Nat) (h : k < 10) : dig (UInt8.ofNat (48 + k)) = true ∧ ((UInt8.ofNat (48 + k)).toNat : Int) - 48 = k := by
  have e : (UInt8.ofNat (48 + k)).toNat = 48 + k := by
    rw [UInt8.toNat_ofNat']; omega
  refine ⟨by simp [dig, e]; omega, by rw [e]; omega⟩
/-- What the digits of a number are. -/
theorem dec_spec : ∀ u : Nat, (Go.Lib.decDigits u).all dig = true ∧ dv (Go.Lib.decDigits u) = u ∧ Go.Lib.decDigits u ≠ [] ∧ (∀ b r, Go.Lib.decDigits u = b :: r → b = 48 → r = []) ∧ (∀ k, u < 10 ^ (k + 1) → (Go.Lib.decDigits u).length ≤ k + 1) := by
  intro u
  induction u using Nat.strongRecOn with
  | _ u ih =>
    by_cases h : u < 10
    · rw [Go.Lib.decDigits, dif_pos h]
      obtain ⟨h1, h2⟩ := dig_of u h
      have hdv : dv [UInt8.ofNat (48 + u)] = 10 * 0 + (((UInt8.ofNat (48 + u)).toNat : Int) - 48) := rfl
      refine ⟨by simp only [List.all_cons, h1, List.all_nil, Bool.and_self], by omega, by simp, fun b r e hb => by simp at e; exact e.2, fun k _ => by simp⟩
    · rw [Go.Lib.decDigits, dif_neg h]
      obtain ⟨a1, a2, a3, a4, a5⟩ := ih (u / 10) (by omega)
      obtain ⟨h1, h2⟩ := dig_of (u % 10) (by omega)
      refine ⟨by rw [List.all_append, a1, Bool.true_and]; simp only [List.all_cons, h1, List.all_nil, Bool.and_self], by rw [dv_app, a2, h2]; omega, by simp, fun b r e hb => ?_, fun k hk => ?_⟩
      · exfalso
        cases hd : Go.Lib.decDigits (u / 10) with
        | nil => exact a3 hd
        | cons c t =>
          rw [hd] at e
          simp only [List.cons_append, List.cons.injEq] at e
          have ht := a4 c t hd (by rw [e.1]; exact hb)
          subst ht
          rw [hd, e.1, hb] at a2
          simp [dv] at a2
          omega
      · cases k with
        | zero => simp at hk; omega
        | succ k =>
          have := a5 k (by rw [Nat.pow_succ] at hk; omega)
          simp; omega
theorem itoa_dec {n : Int} (h : rgt n = true) : Go.Lib.itoa n = Go.Lib.decDigits n.toNat := by
  simp only [rgt, decide_eq_true_eq] at h
  unfold Go.Lib.itoa; rw [if_neg (by omega)]
theorem itoa_len {n : Int} (h : rgt n = true) : (Go.Lib.itoa n).length ≤ 13 := by
  rw [itoa_dec h]
  simp only [rgt, decide_eq_true_eq] at h
  exact (dec_spec n.toNat).2.2.2.2 12 (by omega)
theorem right02_con (n : Int) : ACon Tryd.prog 52 [.p (I n)] (.p (B (rgt n))) := by
  unfold rgt
  by_cases h1 : 0 ≤ n <;> by_cases h2 : n ≤ 1099511627776
  all_goals refine wBody Tryd.tab Tryd.mixed Tryd.func52 rfl rfl Tryd.ntmps52 (by simp) (by simp) fun Q hr hn => ?_
  all_goals repeat' first | (refine hK _ ?_; clear hK) | (refine hK _ _ ?_; clear hK) | (clear hK; refine hK _ ?_; clear hK) | (clear hK; clear hK; refine hK _ ?_; clear hK) | (clear hK; clear hK; clear hK; refine hK _ ?_; clear hK) | (clear hK; clear hK; clear hK; clear hK; refine hK _ ?_; clear hK) | (refine wSeq fun K hK => ?_) | (refine wReg ?_; simp only [List.map_cons, List.map_nil, strip]) | (refine wDrwQ rfl (by kernel_rfl) ?_; simp only [List.map_cons, List.map_nil, strip]) | (refine wDrwI ?_; simp only [List.map_cons, List.map_nil, strip]) | (refine wDrw (by kernel_rfl) ?_; simp only [List.map_cons, List.map_nil, strip]) | (refine wIs fun K hK => ?_; simp [h1, h2]) | (refine wIn ?_; refine And.intro (by kernel_rfl) ?_; try simp only [thenA_n]) | (refine wOs fun K hK => ?_; simp [h1, h2]) | (refine wQs fun K hK => ?_; simp [h1, h2]) | (refine CallK_plain ?_; simp [h1, h2]) | (refine CallQ_plain ?_; simp [h1, h2]) | (refine wRet ?_; try simp) | (refine wCond ?_; simp [h1, h2]) | (refine wBlock ?_) | (refine wScope ?_) | (refine wExit ?_; try simp) | (refine wSkip ?_; try simp) | (refine wOn ?_; try simp only [thenA_n]) | (refine wQn ?_; try simp only [thenA_n])
  all_goals apply hr
  all_goals simp [Tryd.f52, h1, h2]
theorem text_con (z : Zx) : ACon Tryd.prog 26 [.p (.agg [I z.e, I z.n])] (.p (SB (txt z))) := by
  obtain ⟨e, n⟩ := z
  have c1 : ACon Tryd.prog 45 [.p (I e)] (.p (B (rgt e))) := counts_con e
  have c2 : ACon Tryd.prog 45 [.p (I n)] (.p (B (rgt n))) := counts_con n
  have c3 := fun h => itoa_con (n := e) h
  have c4 := fun h => itoa_con (n := n) h
  have l3 := fun h => itoa_len (n := e) h
  have l4 := fun h => itoa_len (n := n) h
  unfold txt
  dsimp only
  generalize Go.Lib.itoa e = x at *
  generalize Go.Lib.itoa n = y at *
  cases h1 : rgt e
  · rw [h1] at c1
    simp only [Bool.false_eq_true, false_and, if_false]
    refine wBody Tryd.tab Tryd.mixed Tryd.func26 rfl rfl Tryd.ntmps26 (by simp) (by simp) fun Q hr hn => ?_
    repeat' first | (refine hK _ ?_; clear hK) | (refine hK _ _ ?_; clear hK) | (clear hK; refine hK _ ?_; clear hK) | (clear hK; clear hK; refine hK _ ?_; clear hK) | (clear hK; clear hK; clear hK; refine hK _ ?_; clear hK) | (clear hK; clear hK; clear hK; clear hK; refine hK _ ?_; clear hK) | (refine wSeq fun K hK => ?_) | (refine wReg ?_; simp only [List.map_cons, List.map_nil, strip]) | (refine wDrwQ rfl (by kernel_rfl) ?_; simp only [List.map_cons, List.map_nil, strip]) | (refine wDrwI ?_; simp only [List.map_cons, List.map_nil, strip]) | (refine wDrw (by kernel_rfl) ?_; simp only [List.map_cons, List.map_nil, strip]) | (refine wIs fun K hK => ?_; simp) | (refine wIn ?_; refine And.intro (by kernel_rfl) ?_; try simp only [thenA_n]) | (refine wOs fun K hK => ?_; simp) | (refine wQs fun K hK => ?_; simp) | (refine CallK_plain ?_; simp) | (refine CallQ_plain ?_; simp) | (refine wRet ?_; try simp) | (refine wCond ?_; simp) | (refine wBlock ?_) | (refine wScope ?_) | (refine wExit ?_; try simp) | (refine wSkip ?_; try simp) | (refine wOn ?_; try simp only [thenA_n]) | (refine wQn ?_; try simp only [thenA_n]) | (refine CallE.pure (c1) rfl ?_) | (refine CallE.lent (c1) rfl ?_) | (refine CallF.pure (c1) rfl ?_) | (refine CallF.lent (c1) rfl ?_) | (refine CallE.own (c1) ?_)
    all_goals apply hr
    all_goals simp [Tryd.f26]
  cases h2 : rgt n
  · rw [h1] at c1
    rw [h2] at c2
    simp only [Bool.false_eq_true, and_false, if_false]
    refine wBody Tryd.tab Tryd.mixed Tryd.func26 rfl rfl Tryd.ntmps26 (by simp) (by simp) fun Q hr hn => ?_
    repeat' first | (refine hK _ ?_; clear hK) | (refine hK _ _ ?_; clear hK) | (clear hK; refine hK _ ?_; clear hK) | (clear hK; clear hK; refine hK _ ?_; clear hK) | (clear hK; clear hK; clear hK; refine hK _ ?_; clear hK) | (clear hK; clear hK; clear hK; clear hK; refine hK _ ?_; clear hK) | (refine wSeq fun K hK => ?_) | (refine wReg ?_; simp only [List.map_cons, List.map_nil, strip]) | (refine wDrwQ rfl (by kernel_rfl) ?_; simp only [List.map_cons, List.map_nil, strip]) | (refine wDrwI ?_; simp only [List.map_cons, List.map_nil, strip]) | (refine wDrw (by kernel_rfl) ?_; simp only [List.map_cons, List.map_nil, strip]) | (refine wIs fun K hK => ?_; simp) | (refine wIn ?_; refine And.intro (by kernel_rfl) ?_; try simp only [thenA_n]) | (refine wOs fun K hK => ?_; simp) | (refine wQs fun K hK => ?_; simp) | (refine CallK_plain ?_; simp) | (refine CallQ_plain ?_; simp) | (refine wRet ?_; try simp) | (refine wCond ?_; simp) | (refine wBlock ?_) | (refine wScope ?_) | (refine wExit ?_; try simp) | (refine wSkip ?_; try simp) | (refine wOn ?_; try simp only [thenA_n]) | (refine wQn ?_; try simp only [thenA_n]) | (refine CallE.pure (c1) rfl ?_) | (refine CallE.lent (c1) rfl ?_) | (refine CallF.pure (c1) rfl ?_) | (refine CallF.lent (c1) rfl ?_) | (refine CallE.own (c1) ?_) | (refine CallE.pure (c2) rfl ?_) | (refine CallE.lent (c2) rfl ?_) | (refine CallF.pure (c2) rfl ?_) | (refine CallF.lent (c2) rfl ?_) | (refine CallE.own (c2) ?_)
    all_goals apply hr
    all_goals simp [Tryd.f26]
  · rw [h1] at c1
    rw [h2] at c2
    replace c3 := c3 h1
    replace c4 := c4 h2
    replace l3 := l3 h1
    replace l4 := l4 h2
    have s1 : x.length + 1 ≤ 9223372036854775807 := by omega
    have s2 : x.length + 1 + y.length ≤ 9223372036854775807 := by omega
    simp only [and_self, if_true]
    refine wBody Tryd.tab Tryd.mixed Tryd.func26 rfl rfl Tryd.ntmps26 (by simp) (by simp) fun Q hr hn => ?_
    repeat' first | (refine hK _ ?_; clear hK) | (refine hK _ _ ?_; clear hK) | (clear hK; refine hK _ ?_; clear hK) | (clear hK; clear hK; refine hK _ ?_; clear hK) | (clear hK; clear hK; clear hK; refine hK _ ?_; clear hK) | (clear hK; clear hK; clear hK; clear hK; refine hK _ ?_; clear hK) | (refine wSeq fun K hK => ?_) | (refine wReg ?_; simp only [List.map_cons, List.map_nil, strip]) | (refine wDrwQ rfl (by kernel_rfl) ?_; simp only [List.map_cons, List.map_nil, strip]) | (refine wDrwI ?_; simp only [List.map_cons, List.map_nil, strip]) | (refine wDrw (by kernel_rfl) ?_; simp only [List.map_cons, List.map_nil, strip]) | (refine wIs fun K hK => ?_; simp [s1, s2]) | (refine wIn ?_; refine And.intro (by kernel_rfl) ?_; try simp only [thenA_n]) | (refine wOs fun K hK => ?_; simp [s1, s2]) | (refine wQs fun K hK => ?_; simp [s1, s2]) | (refine CallK_plain ?_; simp [s1, s2]) | (refine CallQ_plain ?_; simp [s1, s2]) | (refine wRet ?_; try simp) | (refine wCond ?_; simp [s1, s2]) | (refine wBlock ?_) | (refine wScope ?_) | (refine wExit ?_; try simp) | (refine wSkip ?_; try simp) | (refine wOn ?_; try simp only [thenA_n]) | (refine wQn ?_; try simp only [thenA_n]) | (refine CallE.pure (c1) rfl ?_) | (refine CallE.lent (c1) rfl ?_) | (refine CallF.pure (c1) rfl ?_) | (refine CallF.lent (c1) rfl ?_) | (refine CallE.own (c1) ?_) | (refine CallE.pure (c2) rfl ?_) | (refine CallE.lent (c2) rfl ?_) | (refine CallF.pure (c2) rfl ?_) | (refine CallF.lent (c2) rfl ?_) | (refine CallE.own (c2) ?_) | (refine CallE.pure (c3) rfl ?_) | (refine CallE.lent (c3) rfl ?_) | (refine CallF.pure (c3) rfl ?_) | (refine CallF.lent (c3) rfl ?_) | (refine CallE.own (c3) ?_) | (refine CallE.pure (c4) rfl ?_) | (refine CallE.lent (c4) rfl ?_) | (refine CallF.pure (c4) rfl ?_) | (refine CallF.lent (c4) rfl ?_) | (refine CallE.own (c4) ?_)
    all_goals apply hr
    all_goals simp [Tryd.f26]
theorem text02_con (z : Zx) : ACon Tryd.prog 27 [.p (.agg [I z.e, I z.n])] (.p (SB (txt z))) := by
  obtain ⟨e, n⟩ := z
  have c1 := right02_con e
  have c2 := right02_con n
  have c3 := fun h => itoa_con (n := e) h
  have c4 := fun h => itoa_con (n := n) h
  have l3 := fun h => itoa_len (n := e) h
  have l4 := fun h => itoa_len (n := n) h
  unfold txt
  dsimp only
  generalize Go.Lib.itoa e = x at *
  generalize Go.Lib.itoa n = y at *
  cases h1 : rgt e
  · rw [h1] at c1
    simp only [Bool.false_eq_true, false_and, if_false]
    refine wBody Tryd.tab Tryd.mixed Tryd.func27 rfl rfl Tryd.ntmps27 (by simp) (by simp) fun Q hr hn => ?_
    repeat' first | (refine hK _ ?_; clear hK) | (refine hK _ _ ?_; clear hK) | (clear hK; refine hK _ ?_; clear hK) | (clear hK; clear hK; refine hK _ ?_; clear hK) | (clear hK; clear hK; clear hK; refine hK _ ?_; clear hK) | (clear hK; clear hK; clear hK; clear hK; refine hK _ ?_; clear hK) | (refine wSeq fun K hK => ?_) | (refine wReg ?_; simp only [List.map_cons, List.map_nil, strip]) | (refine wDrwQ rfl (by kernel_rfl) ?_; simp only [List.map_cons, List.map_nil, strip]) | (refine wDrwI ?_; simp only [List.map_cons, List.map_nil, strip]) | (refine wDrw (by kernel_rfl) ?_; simp only [List.map_cons, List.map_nil, strip]) | (refine wIs fun K hK => ?_; simp) | (refine wIn ?_; refine And.intro (by kernel_rfl) ?_; try simp only [thenA_n]) | (refine wOs fun K hK => ?_; simp) | (refine wQs fun K hK => ?_; simp) | (refine CallK_plain ?_; simp) | (refine CallQ_plain ?_; simp) | (refine wRet ?_; try simp) | (refine wCond ?_; simp) | (refine wBlock ?_) | (refine wScope ?_) | (refine wExit ?_; try simp) | (refine wSkip ?_; try simp) | (refine wOn ?_; try simp only [thenA_n]) | (refine wQn ?_; try simp only [thenA_n]) | (refine CallE.pure (c1) rfl ?_) | (refine CallE.lent (c1) rfl ?_) | (refine CallF.pure (c1) rfl ?_) | (refine CallF.lent (c1) rfl ?_) | (refine CallE.own (c1) ?_)
    all_goals apply hr
    all_goals simp [Tryd.f27]
  cases h2 : rgt n
  · rw [h1] at c1
    rw [h2] at c2
    simp only [Bool.false_eq_true, and_false, if_false]
    refine wBody Tryd.tab Tryd.mixed Tryd.func27 rfl rfl Tryd.ntmps27 (by simp) (by simp) fun Q hr hn => ?_
    repeat' first | (refine hK _ ?_; clear hK) | (refine hK _ _ ?_; clear hK) | (clear hK; refine hK _ ?_; clear hK) | (clear hK; clear hK; refine hK _ ?_; clear hK) | (clear hK; clear hK; clear hK; refine hK _ ?_; clear hK) | (clear hK; clear hK; clear hK; clear hK; refine hK _ ?_; clear hK) | (refine wSeq fun K hK => ?_) | (refine wReg ?_; simp only [List.map_cons, List.map_nil, strip]) | (refine wDrwQ rfl (by kernel_rfl) ?_; simp only [List.map_cons, List.map_nil, strip]) | (refine wDrwI ?_; simp only [List.map_cons, List.map_nil, strip]) | (refine wDrw (by kernel_rfl) ?_; simp only [List.map_cons, List.map_nil, strip]) | (refine wIs fun K hK => ?_; simp) | (refine wIn ?_; refine And.intro (by kernel_rfl) ?_; try simp only [thenA_n]) | (refine wOs fun K hK => ?_; simp) | (refine wQs fun K hK => ?_; simp) | (refine CallK_plain ?_; simp) | (refine CallQ_plain ?_; simp) | (refine wRet ?_; try simp) | (refine wCond ?_; simp) | (refine wBlock ?_) | (refine wScope ?_) | (refine wExit ?_; try simp) | (refine wSkip ?_; try simp) | (refine wOn ?_; try simp only [thenA_n]) | (refine wQn ?_; try simp only [thenA_n]) | (refine CallE.pure (c1) rfl ?_) | (refine CallE.lent (c1) rfl ?_) | (refine CallF.pure (c1) rfl ?_) | (refine CallF.lent (c1) rfl ?_) | (refine CallE.own (c1) ?_) | (refine CallE.pure (c2) rfl ?_) | (refine CallE.lent (c2) rfl ?_) | (refine CallF.pure (c2) rfl ?_) | (refine CallF.lent (c2) rfl ?_) | (refine CallE.own (c2) ?_)
    all_goals apply hr
    all_goals simp [Tryd.f27]
  · rw [h1] at c1
    rw [h2] at c2
    replace c3 := c3 h1
    replace c4 := c4 h2
    replace l3 := l3 h1
    replace l4 := l4 h2
    have s1 : x.length + 1 ≤ 9223372036854775807 := by omega
    have s2 : x.length + 1 + y.length ≤ 9223372036854775807 := by omega
    simp only [and_self, if_true]
    refine wBody Tryd.tab Tryd.mixed Tryd.func27 rfl rfl Tryd.ntmps27 (by simp) (by simp) fun Q hr hn => ?_
    repeat' first | (refine hK _ ?_; clear hK) | (refine hK _ _ ?_; clear hK) | (clear hK; refine hK _ ?_; clear hK) | (clear hK; clear hK; refine hK _ ?_; clear hK) | (clear hK; clear hK; clear hK; refine hK _ ?_; clear hK) | (clear hK; clear hK; clear hK; clear hK; refine hK _ ?_; clear hK) | (refine wSeq fun K hK => ?_) | (refine wReg ?_; simp only [List.map_cons, List.map_nil, strip]) | (refine wDrwQ rfl (by kernel_rfl) ?_; simp only [List.map_cons, List.map_nil, strip]) | (refine wDrwI ?_; simp only [List.map_cons, List.map_nil, strip]) | (refine wDrw (by kernel_rfl) ?_; simp only [List.map_cons, List.map_nil, strip]) | (refine wIs fun K hK => ?_; simp [s1, s2]) | (refine wIn ?_; refine And.intro (by kernel_rfl) ?_; try simp only [thenA_n]) | (refine wOs fun K hK => ?_; simp [s1, s2]) | (refine wQs fun K hK => ?_; simp [s1, s2]) | (refine CallK_plain ?_; simp [s1, s2]) | (refine CallQ_plain ?_; simp [s1, s2]) | (refine wRet ?_; try simp) | (refine wCond ?_; simp [s1, s2]) | (refine wBlock ?_) | (refine wScope ?_) | (refine wExit ?_; try simp) | (refine wSkip ?_; try simp) | (refine wOn ?_; try simp only [thenA_n]) | (refine wQn ?_; try simp only [thenA_n]) | (refine CallE.pure (c1) rfl ?_) | (refine CallE.lent (c1) rfl ?_) | (refine CallF.pure (c1) rfl ?_) | (refine CallF.lent (c1) rfl ?_) | (refine CallE.own (c1) ?_) | (refine CallE.pure (c2) rfl ?_) | (refine CallE.lent (c2) rfl ?_) | (refine CallF.pure (c2) rfl ?_) | (refine CallF.lent (c2) rfl ?_) | (refine CallE.own (c2) ?_) | (refine CallE.pure (c3) rfl ?_) | (refine CallE.lent (c3) rfl ?_) | (refine CallF.pure (c3) rfl ?_) | (refine CallF.lent (c3) rfl ?_) | (refine CallE.own (c3) ?_) | (refine CallE.pure (c4) rfl ?_) | (refine CallE.lent (c4) rfl ?_) | (refine CallF.pure (c4) rfl ?_) | (refine CallF.lent (c4) rfl ?_) | (refine CallE.own (c4) ?_)
    all_goals apply hr
    all_goals simp [Tryd.f27]
theorem zxidTexts_con (z : Zx) (l : List UInt8) (hl : l.length ≤ 9223372036854775807) : ACon Tryd.prog 5 [.p (.agg [I z.e, I z.n]), .p (SB l)] (.p (B true)) := by
  have c1 := parse_con l hl
  have c2 := parse02_con l hl
  have c3 := text_con z
  have c4 := text02_con z
  generalize prs l = p at c1 c2
  generalize txt z = t at c3 c4
  refine wBody Tryd.tab Tryd.mixed Tryd.func5 rfl rfl Tryd.ntmps5 (by simp) (by simp) fun Q hr hn => ?_
  repeat' first | (refine hK _ ?_; clear hK) | (refine hK _ _ ?_; clear hK) | (clear hK; refine hK _ ?_; clear hK) | (clear hK; clear hK; refine hK _ ?_; clear hK) | (clear hK; clear hK; clear hK; refine hK _ ?_; clear hK) | (clear hK; clear hK; clear hK; clear hK; refine hK _ ?_; clear hK) | (refine wSeq fun K hK => ?_) | (refine wReg ?_; simp only [List.map_cons, List.map_nil, strip]) | (refine wDrwQ rfl (by kernel_rfl) ?_; simp only [List.map_cons, List.map_nil, strip]) | (refine wDrwI ?_; simp only [List.map_cons, List.map_nil, strip]) | (refine wDrw (by kernel_rfl) ?_; simp only [List.map_cons, List.map_nil, strip]) | (refine wIs fun K hK => ?_; simp) | (refine wIn ?_; refine And.intro (by kernel_rfl) ?_; try simp only [thenA_n]) | (refine wOs fun K hK => ?_; simp) | (refine wQs fun K hK => ?_; simp) | (refine CallK_plain ?_; simp) | (refine CallQ_plain ?_; simp) | (refine wRet ?_; try simp) | (refine wCond ?_; simp) | (refine wBlock ?_) | (refine wScope ?_) | (refine wExit ?_; try simp) | (refine wSkip ?_; try simp) | (refine wOn ?_; try simp only [thenA_n]) | (refine wQn ?_; try simp only [thenA_n]) | (refine CallE.pure (c1) rfl ?_) | (refine CallE.lent (c1) rfl ?_) | (refine CallF.pure (c1) rfl ?_) | (refine CallF.lent (c1) rfl ?_) | (refine CallE.own (c1) ?_) | (refine CallE.pure (c2) rfl ?_) | (refine CallE.lent (c2) rfl ?_) | (refine CallF.pure (c2) rfl ?_) | (refine CallF.lent (c2) rfl ?_) | (refine CallE.own (c2) ?_) | (refine CallE.pure (c3) rfl ?_) | (refine CallE.lent (c3) rfl ?_) | (refine CallF.pure (c3) rfl ?_) | (refine CallF.lent (c3) rfl ?_) | (refine CallE.own (c3) ?_) | (refine CallE.pure (c4) rfl ?_) | (refine CallE.lent (c4) rfl ?_) | (refine CallF.pure (c4) rfl ?_) | (refine CallF.lent (c4) rfl ?_) | (refine CallE.own (c4) ?_) | (refine CallE.pure (awake02) rfl ?_) | (refine CallE.lent (awake02) rfl ?_) | (refine CallF.pure (awake02) rfl ?_) | (refine CallF.lent (awake02) rfl ?_) | (refine CallE.own (awake02) ?_)
  all_goals apply hr
  all_goals simp [Tryd.f5]
end Go.Proofs.YtjceehpfncfpgaaDoor
