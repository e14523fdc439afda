/- Layer 3: joined paths: path.Join. -/
import Derived.Test.YtpbmicfbghnmeaaDoorPE
namespace Go.Proofs.YtpbmicfbghnmeaaDoor
set_option linter.unusedSimpArgs false
set_option linter.unusedVariables false
open Go Go.Av
attribute [local simp] Tryd.T1 Tryd.T2 Tryd.T3 Tryd.T4 Tryd.T5 Tryd.T9 Tryd.T12 Tryd.T21 Tryd.T22 Tryd.T23 Tryd.T25 Tryd.T26 Tryd.T27 Tryd.T28 Tryd.T29 Tryd.T30 Tryd.T32 Tryd.T33 Tryd.T34 Tryd.T35 Tryd.T36 Tryd.T37 Tryd.T38 Tryd.T39 Tryd.T40 Tryd.T41 Tryd.T42 Tryd.T43 Tryd.T44 Tryd.T45 Tryd.T47 Tryd.T51 Tryd.T55 Tryd.T56 Tryd.T57 Tryd.T58 Tryd.T60 Tryd.T61 Tryd.T62 Tryd.T63 Tryd.T65 Tryd.T67 Tryd.T68 Tryd.T69 Tryd.T70 Tryd.T72 Tryd.T74 Tryd.T75 Tryd.T76 Tryd.T77 Tryd.T79 Tryd.T80 Tryd.T81 Tryd.T82 Tryd.T83 Tryd.T91
attribute [local irreducible] Go.Av.CallK Go.Av.CallE Go.Av.CallQ Go.Av.CallF Go.Av.Con

/-! ### Where the stroke is -/
def ix (l : List UInt8) : Nat := l.findIdx (· == 47)
theorem ix_le (l : List UInt8) : ix l ≤ l.length := List.findIdx_le_length
theorem indexByte_ix (l : List UInt8) : Go.Lib.indexByte l 47 = if ix l = l.length then -1 else (ix l : Int) := by
  induction l with
  | nil => rfl
  | cons a r ih =>
    unfold Go.Lib.indexByte ix
    rw [List.findIdx_cons]
    cases h : a == 47 with
    | true => simp
    | false =>
      have hix : List.findIdx (· == 47) r = ix r := rfl
      simp only [Bool.false_eq_true, if_false, cond_false, hix, List.length_cons]
      rw [ih]
      by_cases g : ix r = r.length
      · rw [if_pos g, if_pos (by simp), if_pos (by omega)]
      · rw [if_neg g, if_neg (by simp), if_neg (by omega)]
        push_cast; rfl
theorem ix_at {l : List UInt8} (h : ix l < l.length) : l[ix l] = 47 := by
  have := List.findIdx_getElem (p := (· == 47)) (xs := l) (w := h)
  exact eq_of_beq this
theorem ix_below {l : List UInt8} {k : Nat} (h : k < ix l) (hk : k < l.length) : ¬ l[k] = 47 := by
  have := List.not_of_lt_findIdx (p := (· == 47)) (xs := l) h
  simpa using this
theorem indexB_con (l : List UInt8) : ACon Tryd.prog 57 [.p (SB l), .p (.v (.int .u8 47))] (.p (I (Go.Lib.indexByte l 47))) := by
  have c := indexByteString_con (bs l) 47
  simp only [bs_list, show (47 : Int).toNat.toUInt8 = 47 from rfl] at c
  refine wBody Tryd.tab Tryd.mixed Tryd.func57 rfl rfl Tryd.ntmps57 (by simp) (by simp) fun Q hr hn => ?_
  repeat' first | (refine hK _ ?_; clear hK) | (refine hK _ _ ?_; clear hK) | (clear hK; refine hK _ ?_; clear hK) | (clear hK; clear hK; refine hK _ ?_; clear hK) | (clear hK; clear hK; clear hK; refine hK _ ?_; clear hK) | (clear hK; clear hK; clear hK; clear hK; refine hK _ ?_; clear hK) | (refine wSeq fun K hK => ?_) | (refine wReg ?_; simp only [List.map_cons, List.map_nil, strip]) | (refine wDrwQ rfl (by kernel_rfl) ?_; simp only [List.map_cons, List.map_nil, strip]) | (refine wDrwI ?_; simp only [List.map_cons, List.map_nil, strip]) | (refine wDrw (by kernel_rfl) ?_; simp only [List.map_cons, List.map_nil, strip]) | (refine wIs fun K hK => ?_; simp) | (refine wIn ?_; refine And.intro (by kernel_rfl) ?_; try simp only [thenA_n]) | (refine wOs fun K hK => ?_; simp) | (refine wQs fun K hK => ?_; simp) | (refine CallK_plain ?_; simp) | (refine CallQ_plain ?_; simp) | (refine wRet ?_; try simp) | (refine wCond ?_; simp) | (refine wBlock ?_) | (refine wScope ?_) | (refine wLabel ?_; try simp only [thenA_n]) | (refine wExit ?_; try simp) | (refine wSkip ?_; try simp) | (refine wOn ?_; try simp only [thenA_n]) | (refine wQn ?_; try simp only [thenA_n]) | (refine CallE.pure (c) rfl ?_) | (refine CallE.lent (c) rfl ?_) | (refine CallF.pure (c) rfl ?_) | (refine CallF.lent (c) rfl ?_) | (refine CallE.own (c) ?_)
  all_goals apply hr
  all_goals simp [Tryd.f57]
theorem index1_con (l : List UInt8) : ACon Tryd.prog 50 [.p (SB l), .p (SB [47])] (.p (I (Go.Lib.indexByte l 47))) := by
  have c := indexB_con l
  by_cases h : l = [47]
  · subst h
    have e : Go.Lib.indexByte [47] 47 = 0 := rfl
    rw [e] at c ⊢
    refine wBody Tryd.tab Tryd.mixed Tryd.func50 rfl rfl Tryd.ntmps50 (by simp) (by simp) fun Q hr hn => ?_
    repeat' first | (refine hK _ ?_; clear hK) | (refine hK _ _ ?_; clear hK) | (clear hK; refine hK _ ?_; clear hK) | (clear hK; clear hK; refine hK _ ?_; clear hK) | (clear hK; clear hK; clear hK; refine hK _ ?_; clear hK) | (clear hK; clear hK; clear hK; clear hK; refine hK _ ?_; clear hK) | (refine wSeq fun K hK => ?_) | (refine wReg ?_; simp only [List.map_cons, List.map_nil, strip]) | (refine wDrwQ rfl (by kernel_rfl) ?_; simp only [List.map_cons, List.map_nil, strip]) | (refine wDrwI ?_; simp only [List.map_cons, List.map_nil, strip]) | (refine wDrw (by kernel_rfl) ?_; simp only [List.map_cons, List.map_nil, strip]) | (refine wIs fun K hK => ?_; simp) | (refine wIn ?_; refine And.intro (by kernel_rfl) ?_; try simp only [thenA_n]) | (refine wOs fun K hK => ?_; simp) | (refine wQs fun K hK => ?_; simp) | (refine CallK_plain ?_; simp) | (refine CallQ_plain ?_; simp) | (refine wRet ?_; try simp) | (refine wCond ?_; simp) | (refine wBlock ?_) | (refine wScope ?_) | (refine wLabel ?_; try simp only [thenA_n]) | (refine wExit ?_; try simp) | (refine wSkip ?_; try simp) | (refine wOn ?_; try simp only [thenA_n]) | (refine wQn ?_; try simp only [thenA_n]) | (refine CallE.pure (c) rfl ?_) | (refine CallE.lent (c) rfl ?_) | (refine CallF.pure (c) rfl ?_) | (refine CallF.lent (c) rfl ?_) | (refine CallE.own (c) ?_)
    all_goals apply hr
    all_goals simp [Tryd.f50]
  · have h' : ¬ [47] = l := fun e => h e.symm
    refine wBody Tryd.tab Tryd.mixed Tryd.func50 rfl rfl Tryd.ntmps50 (by simp) (by simp) fun Q hr hn => ?_
    repeat' first | (refine hK _ ?_; clear hK) | (refine hK _ _ ?_; clear hK) | (clear hK; refine hK _ ?_; clear hK) | (clear hK; clear hK; refine hK _ ?_; clear hK) | (clear hK; clear hK; clear hK; refine hK _ ?_; clear hK) | (clear hK; clear hK; clear hK; clear hK; refine hK _ ?_; clear hK) | (refine wSeq fun K hK => ?_) | (refine wReg ?_; simp only [List.map_cons, List.map_nil, strip]) | (refine wDrwQ rfl (by kernel_rfl) ?_; simp only [List.map_cons, List.map_nil, strip]) | (refine wDrwI ?_; simp only [List.map_cons, List.map_nil, strip]) | (refine wDrw (by kernel_rfl) ?_; simp only [List.map_cons, List.map_nil, strip]) | (refine wIs fun K hK => ?_; simp [h, h']) | (refine wIn ?_; refine And.intro (by kernel_rfl) ?_; try simp only [thenA_n]) | (refine wOs fun K hK => ?_; simp [h, h']) | (refine wQs fun K hK => ?_; simp [h, h']) | (refine CallK_plain ?_; simp [h, h']) | (refine CallQ_plain ?_; simp [h, h']) | (refine wRet ?_; try simp) | (refine wCond ?_; simp [h, h']) | (refine wBlock ?_) | (refine wScope ?_) | (refine wLabel ?_; try simp only [thenA_n]) | (refine wExit ?_; try simp) | (refine wSkip ?_; try simp) | (refine wOn ?_; try simp only [thenA_n]) | (refine wQn ?_; try simp only [thenA_n]) | (refine CallE.pure (c) rfl ?_) | (refine CallE.lent (c) rfl ?_) | (refine CallF.pure (c) rfl ?_) | (refine CallF.lent (c) rfl ?_) | (refine CallE.own (c) ?_)
    all_goals apply hr
    all_goals simp [Tryd.f50]

theorem ix_lt_iff (l : List UInt8) : (ix l = l.length) ↔ (47 : UInt8) ∉ l := by
  unfold ix
  rw [List.findIdx_eq_length]
  constructor
  · intro h hm
    have := h 47 hm
    simp at this
  · intro h x hx
    rw [beq_eq_false_iff_ne]
    intro e
    exact h (e ▸ hx)
theorem contains_con (l : List UInt8) (hl : l.length ≤ 9223372036854775807) : ACon Tryd.prog 30 [.p (SB l), .p (SB [47])] (.p (B (decide ((47 : UInt8) ∈ l)))) := by
  have c : ACon Tryd.prog 40 [.p (SB l), .p (SB [47])] (.p (I (Go.Lib.indexByte l 47))) := by
    have c := index1_con l
    refine wBody Tryd.tab Tryd.mixed Tryd.func40 rfl rfl Tryd.ntmps40 (by simp) (by simp) fun Q hr hn => ?_
    repeat' first | (refine hK _ ?_; clear hK) | (refine hK _ _ ?_; clear hK) | (clear hK; refine hK _ ?_; clear hK) | (clear hK; clear hK; refine hK _ ?_; clear hK) | (clear hK; clear hK; clear hK; refine hK _ ?_; clear hK) | (clear hK; clear hK; clear hK; clear hK; refine hK _ ?_; clear hK) | (refine wSeq fun K hK => ?_) | (refine wReg ?_; simp only [List.map_cons, List.map_nil, strip]) | (refine wDrwQ rfl (by kernel_rfl) ?_; simp only [List.map_cons, List.map_nil, strip]) | (refine wDrwI ?_; simp only [List.map_cons, List.map_nil, strip]) | (refine wDrw (by kernel_rfl) ?_; simp only [List.map_cons, List.map_nil, strip]) | (refine wIs fun K hK => ?_; simp) | (refine wIn ?_; refine And.intro (by kernel_rfl) ?_; try simp only [thenA_n]) | (refine wOs fun K hK => ?_; simp) | (refine wQs fun K hK => ?_; simp) | (refine CallK_plain ?_; simp) | (refine CallQ_plain ?_; simp) | (refine wRet ?_; try simp) | (refine wCond ?_; simp) | (refine wBlock ?_) | (refine wScope ?_) | (refine wLabel ?_; try simp only [thenA_n]) | (refine wExit ?_; try simp) | (refine wSkip ?_; try simp) | (refine wOn ?_; try simp only [thenA_n]) | (refine wQn ?_; try simp only [thenA_n]) | (refine CallE.pure (c) rfl ?_) | (refine CallE.lent (c) rfl ?_) | (refine CallF.pure (c) rfl ?_) | (refine CallF.lent (c) rfl ?_) | (refine CallE.own (c) ?_)
    all_goals apply hr
    all_goals simp [Tryd.f40]
  rw [indexByte_ix] at c
  by_cases h : ix l = l.length
  · have hm := (ix_lt_iff l).1 h
    rw [if_pos h] at c
    rw [show decide ((47 : UInt8) ∈ l) = false by simpa using hm]
    refine wBody Tryd.tab Tryd.mixed Tryd.func30 rfl rfl Tryd.ntmps30 (by simp) (by simp) fun Q hr hn => ?_
    repeat' first | (refine hK _ ?_; clear hK) | (refine hK _ _ ?_; clear hK) | (clear hK; refine hK _ ?_; clear hK) | (clear hK; clear hK; refine hK _ ?_; clear hK) | (clear hK; clear hK; clear hK; refine hK _ ?_; clear hK) | (clear hK; clear hK; clear hK; clear hK; refine hK _ ?_; clear hK) | (refine wSeq fun K hK => ?_) | (refine wReg ?_; simp only [List.map_cons, List.map_nil, strip]) | (refine wDrwQ rfl (by kernel_rfl) ?_; simp only [List.map_cons, List.map_nil, strip]) | (refine wDrwI ?_; simp only [List.map_cons, List.map_nil, strip]) | (refine wDrw (by kernel_rfl) ?_; simp only [List.map_cons, List.map_nil, strip]) | (refine wIs fun K hK => ?_; simp) | (refine wIn ?_; refine And.intro (by kernel_rfl) ?_; try simp only [thenA_n]) | (refine wOs fun K hK => ?_; simp) | (refine wQs fun K hK => ?_; simp) | (refine CallK_plain ?_; simp) | (refine CallQ_plain ?_; simp) | (refine wRet ?_; try simp) | (refine wCond ?_; simp) | (refine wBlock ?_) | (refine wScope ?_) | (refine wLabel ?_; try simp only [thenA_n]) | (refine wExit ?_; try simp) | (refine wSkip ?_; try simp) | (refine wOn ?_; try simp only [thenA_n]) | (refine wQn ?_; try simp only [thenA_n]) | (refine CallE.pure (c) rfl ?_) | (refine CallE.lent (c) rfl ?_) | (refine CallF.pure (c) rfl ?_) | (refine CallF.lent (c) rfl ?_) | (refine CallE.own (c) ?_)
    all_goals apply hr
    all_goals simp [Tryd.f30]
  · have hm : (47 : UInt8) ∈ l := Classical.not_not.1 fun g => h ((ix_lt_iff l).2 g)
    rw [if_neg h] at c
    rw [show decide ((47 : UInt8) ∈ l) = true by simpa using hm]
    generalize ix l = x at c
    refine wBody Tryd.tab Tryd.mixed Tryd.func30 rfl rfl Tryd.ntmps30 (by simp) (by simp) fun Q hr hn => ?_
    repeat' first | (refine hK _ ?_; clear hK) | (refine hK _ _ ?_; clear hK) | (clear hK; refine hK _ ?_; clear hK) | (clear hK; clear hK; refine hK _ ?_; clear hK) | (clear hK; clear hK; clear hK; refine hK _ ?_; clear hK) | (clear hK; clear hK; clear hK; clear hK; refine hK _ ?_; clear hK) | (refine wSeq fun K hK => ?_) | (refine wReg ?_; simp only [List.map_cons, List.map_nil, strip]) | (refine wDrwQ rfl (by kernel_rfl) ?_; simp only [List.map_cons, List.map_nil, strip]) | (refine wDrwI ?_; simp only [List.map_cons, List.map_nil, strip]) | (refine wDrw (by kernel_rfl) ?_; simp only [List.map_cons, List.map_nil, strip]) | (refine wIs fun K hK => ?_; simp) | (refine wIn ?_; refine And.intro (by kernel_rfl) ?_; try simp only [thenA_n]) | (refine wOs fun K hK => ?_; simp) | (refine wQs fun K hK => ?_; simp) | (refine CallK_plain ?_; simp) | (refine CallQ_plain ?_; simp) | (refine wRet ?_; try simp) | (refine wCond ?_; simp) | (refine wBlock ?_) | (refine wScope ?_) | (refine wLabel ?_; try simp only [thenA_n]) | (refine wExit ?_; try simp) | (refine wSkip ?_; try simp) | (refine wOn ?_; try simp only [thenA_n]) | (refine wQn ?_; try simp only [thenA_n]) | (refine CallE.pure (c) rfl ?_) | (refine CallE.lent (c) rfl ?_) | (refine CallF.pure (c) rfl ?_) | (refine CallF.lent (c) rfl ?_) | (refine CallE.own (c) ?_)
    all_goals apply hr
    all_goals simp [Tryd.f30]
theorem g_no47 : ∀ (r c : List UInt8), (47 : UInt8) ∉ r → g c r = nm (c ++ r)
  | [], c, _ => by rw [List.append_nil]; cases c <;> rfl
  | b :: r, c, h => by
    have hb : ¬ b = 47 := fun e => h (by rw [e]; exact List.mem_cons_self)
    have hr : (47 : UInt8) ∉ r := fun e => h (List.mem_cons_of_mem _ e)
    rw [g, if_neg hb, g_no47 r (c ++ [b]) hr, List.append_assoc]; rfl
theorem nm_47 {l : List UInt8} (h : (47 : UInt8) ∈ l) : nm l = false := by
  have : l.all chr = false := by
    cases h2 : l.all chr with
    | false => rfl
    | true =>
      rw [List.all_eq_true] at h2
      have := h2 47 h
      simp [chr] at this
  rw [nm, this, Bool.and_false]
/-- What a path with one name more is, and how the call ends. -/
def jn (p n : List UInt8) : List UInt8 × Int := if chk p = 0 then (if nm n = true then (if 64 < (bel p ++ n).length then ([], 5) else (bel p ++ n, 0)) else ([], 1)) else ([], chk p)
theorem join_con (p n : List UInt8) (hp : p.length ≤ 9223372036854775807) (hn : n.length ≤ 3000) : ACon Tryd.prog 18 [.p (SB p), .p (SB n)] (.tup [.p (SB (jn p n).1), .p (I (jn p n).2)]) := by
  have c1 := check_con p hp
  have c2 := contains_con n (by omega)
  have c3 := named_con (47 :: n) (by simp; omega)
  have hN : nmd (47 :: n) = g [] n := rfl
  rw [hN] at c3
  have hn1 : 1 + n.length ≤ 9223372036854775807 := by omega
  unfold jn
  by_cases h1 : chk p = 0
  · rw [if_pos h1]
    rw [h1] at c1
    have hpl := chk_len h1
    have c4 := below_con p (by omega)
    have htl := trm_len p
    have hbl : (bel p).length ≤ 65 := by simp [bel]; omega
    by_cases hm : (47 : UInt8) ∈ n
    · rw [show decide ((47 : UInt8) ∈ n) = true by simpa using hm] at c2
      rw [nm_47 hm]
      simp only [Bool.false_eq_true, if_false]
      refine wBody Tryd.tab Tryd.mixed Tryd.func18 rfl rfl Tryd.ntmps18 (by simp) (by simp) fun Q hr hn => ?_
      repeat' first | (refine hK _ ?_; clear hK) | (refine hK _ _ ?_; clear hK) | (clear hK; refine hK _ ?_; clear hK) | (clear hK; clear hK; refine hK _ ?_; clear hK) | (clear hK; clear hK; clear hK; refine hK _ ?_; clear hK) | (clear hK; clear hK; clear hK; clear hK; refine hK _ ?_; clear hK) | (refine wSeq fun K hK => ?_) | (refine wReg ?_; simp only [List.map_cons, List.map_nil, strip]) | (refine wDrwQ rfl (by kernel_rfl) ?_; simp only [List.map_cons, List.map_nil, strip]) | (refine wDrwI ?_; simp only [List.map_cons, List.map_nil, strip]) | (refine wDrw (by kernel_rfl) ?_; simp only [List.map_cons, List.map_nil, strip]) | (refine wIs fun K hK => ?_; simp [hn1]) | (refine wIn ?_; refine And.intro (by kernel_rfl) ?_; try simp only [thenA_n]) | (refine wOs fun K hK => ?_; simp [hn1]) | (refine wQs fun K hK => ?_; simp [hn1]) | (refine CallK_plain ?_; simp [hn1]) | (refine CallQ_plain ?_; simp [hn1]) | (refine wRet ?_; try simp) | (refine wCond ?_; simp [hn1]) | (refine wBlock ?_) | (refine wScope ?_) | (refine wLabel ?_; try simp only [thenA_n]) | (refine wExit ?_; try simp) | (refine wSkip ?_; try simp) | (refine wOn ?_; try simp only [thenA_n]) | (refine wQn ?_; try simp only [thenA_n]) | (refine CallE.pure (c1) rfl ?_) | (refine CallE.lent (c1) rfl ?_) | (refine CallF.pure (c1) rfl ?_) | (refine CallF.lent (c1) rfl ?_) | (refine CallE.own (c1) ?_) | (refine CallE.pure (c2) rfl ?_) | (refine CallE.lent (c2) rfl ?_) | (refine CallF.pure (c2) rfl ?_) | (refine CallF.lent (c2) rfl ?_) | (refine CallE.own (c2) ?_) | (refine CallE.pure (c3) rfl ?_) | (refine CallE.lent (c3) rfl ?_) | (refine CallF.pure (c3) rfl ?_) | (refine CallF.lent (c3) rfl ?_) | (refine CallE.own (c3) ?_)
      all_goals apply hr
      all_goals simp [Tryd.f18]
    · rw [show decide ((47 : UInt8) ∈ n) = false by simpa using hm] at c2
      rw [g_no47 n [] hm, List.nil_append] at c3
      cases h2 : nm n
      · rw [h2] at c3
        simp only [Bool.false_eq_true, if_false]
        refine wBody Tryd.tab Tryd.mixed Tryd.func18 rfl rfl Tryd.ntmps18 (by simp) (by simp) fun Q hr hn => ?_
        repeat' first | (refine hK _ ?_; clear hK) | (refine hK _ _ ?_; clear hK) | (clear hK; refine hK _ ?_; clear hK) | (clear hK; clear hK; refine hK _ ?_; clear hK) | (clear hK; clear hK; clear hK; refine hK _ ?_; clear hK) | (clear hK; clear hK; clear hK; clear hK; refine hK _ ?_; clear hK) | (refine wSeq fun K hK => ?_) | (refine wReg ?_; simp only [List.map_cons, List.map_nil, strip]) | (refine wDrwQ rfl (by kernel_rfl) ?_; simp only [List.map_cons, List.map_nil, strip]) | (refine wDrwI ?_; simp only [List.map_cons, List.map_nil, strip]) | (refine wDrw (by kernel_rfl) ?_; simp only [List.map_cons, List.map_nil, strip]) | (refine wIs fun K hK => ?_; simp [hn1]) | (refine wIn ?_; refine And.intro (by kernel_rfl) ?_; try simp only [thenA_n]) | (refine wOs fun K hK => ?_; simp [hn1]) | (refine wQs fun K hK => ?_; simp [hn1]) | (refine CallK_plain ?_; simp [hn1]) | (refine CallQ_plain ?_; simp [hn1]) | (refine wRet ?_; try simp) | (refine wCond ?_; simp [hn1]) | (refine wBlock ?_) | (refine wScope ?_) | (refine wLabel ?_; try simp only [thenA_n]) | (refine wExit ?_; try simp) | (refine wSkip ?_; try simp) | (refine wOn ?_; try simp only [thenA_n]) | (refine wQn ?_; try simp only [thenA_n]) | (refine CallE.pure (c1) rfl ?_) | (refine CallE.lent (c1) rfl ?_) | (refine CallF.pure (c1) rfl ?_) | (refine CallF.lent (c1) rfl ?_) | (refine CallE.own (c1) ?_) | (refine CallE.pure (c2) rfl ?_) | (refine CallE.lent (c2) rfl ?_) | (refine CallF.pure (c2) rfl ?_) | (refine CallF.lent (c2) rfl ?_) | (refine CallE.own (c2) ?_) | (refine CallE.pure (c3) rfl ?_) | (refine CallE.lent (c3) rfl ?_) | (refine CallF.pure (c3) rfl ?_) | (refine CallF.lent (c3) rfl ?_) | (refine CallE.own (c3) ?_)
        all_goals apply hr
        all_goals simp [Tryd.f18]
      · rw [h2] at c3
        simp only [if_true]
        generalize bel p = t at c4 hbl
        have hsz : t.length + n.length ≤ 9223372036854775807 := by omega
        by_cases h3 : 64 < (t ++ n).length
        · rw [if_pos h3]
          rw [List.length_append] at h3
          have h3' : (64 : Int) < (t.length : Int) + n.length := by omega
          refine wBody Tryd.tab Tryd.mixed Tryd.func18 rfl rfl Tryd.ntmps18 (by simp) (by simp) fun Q hr hn => ?_
          repeat' first | (refine hK _ ?_; clear hK) | (refine hK _ _ ?_; clear hK) | (clear hK; refine hK _ ?_; clear hK) | (clear hK; clear hK; refine hK _ ?_; clear hK) | (clear hK; clear hK; clear hK; refine hK _ ?_; clear hK) | (clear hK; clear hK; clear hK; clear hK; refine hK _ ?_; clear hK) | (refine wSeq fun K hK => ?_) | (refine wReg ?_; simp only [List.map_cons, List.map_nil, strip]) | (refine wDrwQ rfl (by kernel_rfl) ?_; simp only [List.map_cons, List.map_nil, strip]) | (refine wDrwI ?_; simp only [List.map_cons, List.map_nil, strip]) | (refine wDrw (by kernel_rfl) ?_; simp only [List.map_cons, List.map_nil, strip]) | (refine wIs fun K hK => ?_; simp [hn1, hsz, h3, h3']) | (refine wIn ?_; refine And.intro (by kernel_rfl) ?_; try simp only [thenA_n]) | (refine wOs fun K hK => ?_; simp [hn1, hsz, h3, h3']) | (refine wQs fun K hK => ?_; simp [hn1, hsz, h3, h3']) | (refine CallK_plain ?_; simp [hn1, hsz, h3, h3']) | (refine CallQ_plain ?_; simp [hn1, hsz, h3, h3']) | (refine wRet ?_; try simp) | (refine wCond ?_; simp [hn1, hsz, h3, h3']) | (refine wBlock ?_) | (refine wScope ?_) | (refine wLabel ?_; try simp only [thenA_n]) | (refine wExit ?_; try simp) | (refine wSkip ?_; try simp) | (refine wOn ?_; try simp only [thenA_n]) | (refine wQn ?_; try simp only [thenA_n]) | (refine CallE.pure (c1) rfl ?_) | (refine CallE.lent (c1) rfl ?_) | (refine CallF.pure (c1) rfl ?_) | (refine CallF.lent (c1) rfl ?_) | (refine CallE.own (c1) ?_) | (refine CallE.pure (c2) rfl ?_) | (refine CallE.lent (c2) rfl ?_) | (refine CallF.pure (c2) rfl ?_) | (refine CallF.lent (c2) rfl ?_) | (refine CallE.own (c2) ?_) | (refine CallE.pure (c3) rfl ?_) | (refine CallE.lent (c3) rfl ?_) | (refine CallF.pure (c3) rfl ?_) | (refine CallF.lent (c3) rfl ?_) | (refine CallE.own (c3) ?_) | (refine CallE.pure (c4) rfl ?_) | (refine CallE.lent (c4) rfl ?_) | (refine CallF.pure (c4) rfl ?_) | (refine CallF.lent (c4) rfl ?_) | (refine CallE.own (c4) ?_)
          all_goals apply hr
          all_goals simp [Tryd.f18]
        · rw [if_neg h3]
          rw [List.length_append] at h3
          have h3' : ¬ (64 : Int) < (t.length : Int) + n.length := by omega
          refine wBody Tryd.tab Tryd.mixed Tryd.func18 rfl rfl Tryd.ntmps18 (by simp) (by simp) fun Q hr hn => ?_
          repeat' first | (refine hK _ ?_; clear hK) | (refine hK _ _ ?_; clear hK) | (clear hK; refine hK _ ?_; clear hK) | (clear hK; clear hK; refine hK _ ?_; clear hK) | (clear hK; clear hK; clear hK; refine hK _ ?_; clear hK) | (clear hK; clear hK; clear hK; clear hK; refine hK _ ?_; clear hK) | (refine wSeq fun K hK => ?_) | (refine wReg ?_; simp only [List.map_cons, List.map_nil, strip]) | (refine wDrwQ rfl (by kernel_rfl) ?_; simp only [List.map_cons, List.map_nil, strip]) | (refine wDrwI ?_; simp only [List.map_cons, List.map_nil, strip]) | (refine wDrw (by kernel_rfl) ?_; simp only [List.map_cons, List.map_nil, strip]) | (refine wIs fun K hK => ?_; simp [hn1, hsz, h3, h3']) | (refine wIn ?_; refine And.intro (by kernel_rfl) ?_; try simp only [thenA_n]) | (refine wOs fun K hK => ?_; simp [hn1, hsz, h3, h3']) | (refine wQs fun K hK => ?_; simp [hn1, hsz, h3, h3']) | (refine CallK_plain ?_; simp [hn1, hsz, h3, h3']) | (refine CallQ_plain ?_; simp [hn1, hsz, h3, h3']) | (refine wRet ?_; try simp) | (refine wCond ?_; simp [hn1, hsz, h3, h3']) | (refine wBlock ?_) | (refine wScope ?_) | (refine wLabel ?_; try simp only [thenA_n]) | (refine wExit ?_; try simp) | (refine wSkip ?_; try simp) | (refine wOn ?_; try simp only [thenA_n]) | (refine wQn ?_; try simp only [thenA_n]) | (refine CallE.pure (c1) rfl ?_) | (refine CallE.lent (c1) rfl ?_) | (refine CallF.pure (c1) rfl ?_) | (refine CallF.lent (c1) rfl ?_) | (refine CallE.own (c1) ?_) | (refine CallE.pure (c2) rfl ?_) | (refine CallE.lent (c2) rfl ?_) | (refine CallF.pure (c2) rfl ?_) | (refine CallF.lent (c2) rfl ?_) | (refine CallE.own (c2) ?_) | (refine CallE.pure (c3) rfl ?_) | (refine CallE.lent (c3) rfl ?_) | (refine CallF.pure (c3) rfl ?_) | (refine CallF.lent (c3) rfl ?_) | (refine CallE.own (c3) ?_) | (refine CallE.pure (c4) rfl ?_) | (refine CallE.lent (c4) rfl ?_) | (refine CallF.pure (c4) rfl ?_) | (refine CallF.lent (c4) rfl ?_) | (refine CallE.own (c4) ?_)
          all_goals apply hr
          all_goals simp [Tryd.f18]
  · rw [if_neg h1]
    generalize chk p = e at c1 h1
    refine wBody Tryd.tab Tryd.mixed Tryd.func18 rfl rfl Tryd.ntmps18 (by simp) (by simp) fun Q hr hn => ?_
    repeat' first | (refine hK _ ?_; clear hK) | (refine hK _ _ ?_; clear hK) | (clear hK; refine hK _ ?_; clear hK) | (clear hK; clear hK; refine hK _ ?_; clear hK) | (clear hK; clear hK; clear hK; refine hK _ ?_; clear hK) | (clear hK; clear hK; clear hK; clear hK; refine hK _ ?_; clear hK) | (refine wSeq fun K hK => ?_) | (refine wReg ?_; simp only [List.map_cons, List.map_nil, strip]) | (refine wDrwQ rfl (by kernel_rfl) ?_; simp only [List.map_cons, List.map_nil, strip]) | (refine wDrwI ?_; simp only [List.map_cons, List.map_nil, strip]) | (refine wDrw (by kernel_rfl) ?_; simp only [List.map_cons, List.map_nil, strip]) | (refine wIs fun K hK => ?_; simp [h1]) | (refine wIn ?_; refine And.intro (by kernel_rfl) ?_; try simp only [thenA_n]) | (refine wOs fun K hK => ?_; simp [h1]) | (refine wQs fun K hK => ?_; simp [h1]) | (refine CallK_plain ?_; simp [h1]) | (refine CallQ_plain ?_; simp [h1]) | (refine wRet ?_; try simp) | (refine wCond ?_; simp [h1]) | (refine wBlock ?_) | (refine wScope ?_) | (refine wLabel ?_; try simp only [thenA_n]) | (refine wExit ?_; try simp) | (refine wSkip ?_; try simp) | (refine wOn ?_; try simp only [thenA_n]) | (refine wQn ?_; try simp only [thenA_n]) | (refine CallE.pure (c1) rfl ?_) | (refine CallE.lent (c1) rfl ?_) | (refine CallF.pure (c1) rfl ?_) | (refine CallF.lent (c1) rfl ?_) | (refine CallE.own (c1) ?_)
    all_goals apply hr
    all_goals simp [Tryd.f18]
theorem g_last : ∀ (r c : List UInt8), g c r = true → (r = [] ∨ ∃ s b, r = s ++ [b] ∧ ¬ b = 47)
  | [], _, _ => .inl rfl
  | b :: r, c, h => by
    right
    rw [g] at h
    by_cases hb : b = 47
    · rw [if_pos hb, Bool.and_eq_true] at h
      rcases g_last r [] h.2 with rfl | ⟨s, x, rfl, hx⟩
      · have := h.2
        simp [g, nm] at this
      · exact ⟨b :: s, x, rfl, hx⟩
    · rw [if_neg hb] at h
      rcases g_last r _ h with rfl | ⟨s, x, rfl, hx⟩
      · exact ⟨[], b, rfl, hb⟩
      · exact ⟨b :: s, x, rfl, hx⟩
theorem bel_eq {p : List UInt8} (h : chk p = 0) (h1 : ¬ p = [47]) : bel p = p ++ [47] := by
  have hn : nmd p = true := by
    unfold chk at h
    split at h
    · simp at h
    split at h
    · rename_i h2
      exact h2.resolve_left h1
    · simp at h
  have hs : hsx p = false := by
    rcases chk_spec h with h2 | ⟨-, R, rfl, hR⟩
    · exact absurd h2 h1
    · have hg : g [] R = true := hn
      rcases g_last R [] hg with h2 | ⟨s, b, rfl, hb⟩
      · exact absurd h2 hR
      · have e : (47 :: (s ++ [b])).drop ((47 :: (s ++ [b])).length - 1) = [b] := by
          have : (47 :: (s ++ [b])) = (47 :: s) ++ [b] := rfl
          rw [this, List.length_append]
          simp only [List.length_cons, List.length_nil, Nat.zero_add, Nat.add_sub_cancel]
          exact List.drop_left' rfl
        rw [hsx, e]
        simpa using hb
  unfold bel trm
  rw [if_neg (by rw [hs]; simp)]
theorem join03_con (p n : List UInt8) (hp : p.length ≤ 9223372036854775807) (hn : n.length ≤ 3000) : ACon Tryd.prog 19 [.p (SB p), .p (SB n)] (.tup [.p (SB (jn p n).1), .p (I (jn p n).2)]) := by
  have c1 := check03_con p hp
  have c2 := isName03_con n (by omega)
  unfold jn
  by_cases h1 : chk p = 0
  · rw [if_pos h1]
    rw [h1] at c1
    have hpl := chk_len h1
    cases h2 : nm n
    · rw [h2] at c2
      simp only [Bool.false_eq_true, if_false]
      refine wBody Tryd.tab Tryd.mixed Tryd.func19 rfl rfl Tryd.ntmps19 (by simp) (by simp) fun Q hr hn => ?_
      repeat' first | (refine hK _ ?_; clear hK) | (refine hK _ _ ?_; clear hK) | (clear hK; refine hK _ ?_; clear hK) | (clear hK; clear hK; refine hK _ ?_; clear hK) | (clear hK; clear hK; clear hK; refine hK _ ?_; clear hK) | (clear hK; clear hK; clear hK; clear hK; refine hK _ ?_; clear hK) | (refine wSeq fun K hK => ?_) | (refine wReg ?_; simp only [List.map_cons, List.map_nil, strip]) | (refine wDrwQ rfl (by kernel_rfl) ?_; simp only [List.map_cons, List.map_nil, strip]) | (refine wDrwI ?_; simp only [List.map_cons, List.map_nil, strip]) | (refine wDrw (by kernel_rfl) ?_; simp only [List.map_cons, List.map_nil, strip]) | (refine wIs fun K hK => ?_; simp) | (refine wIn ?_; refine And.intro (by kernel_rfl) ?_; try simp only [thenA_n]) | (refine wOs fun K hK => ?_; simp) | (refine wQs fun K hK => ?_; simp) | (refine CallK_plain ?_; simp) | (refine CallQ_plain ?_; simp) | (refine wRet ?_; try simp) | (refine wCond ?_; simp) | (refine wBlock ?_) | (refine wScope ?_) | (refine wLabel ?_; try simp only [thenA_n]) | (refine wExit ?_; try simp) | (refine wSkip ?_; try simp) | (refine wOn ?_; try simp only [thenA_n]) | (refine wQn ?_; try simp only [thenA_n]) | (refine CallE.pure (c1) rfl ?_) | (refine CallE.lent (c1) rfl ?_) | (refine CallF.pure (c1) rfl ?_) | (refine CallF.lent (c1) rfl ?_) | (refine CallE.own (c1) ?_) | (refine CallE.pure (c2) rfl ?_) | (refine CallE.lent (c2) rfl ?_) | (refine CallF.pure (c2) rfl ?_) | (refine CallF.lent (c2) rfl ?_) | (refine CallE.own (c2) ?_)
      all_goals apply hr
      all_goals simp [Tryd.f19]
    · rw [h2] at c2
      simp only [if_true]
      have s1 : p.length + 1 ≤ 9223372036854775807 := by omega
      have s2 : p.length + 1 + n.length ≤ 9223372036854775807 := by omega
      have s2' : p.length + (1 + n.length) ≤ 9223372036854775807 := by omega
      have s2'' : p.length + (n.length + 1) ≤ 9223372036854775807 := by omega
      by_cases h4 : p = [47]
      · subst h4
        have hb : bel [47] = [47] := rfl
        have s3 : 1 + n.length ≤ 9223372036854775807 := by omega
        have s3' : 1 + 1 + n.length ≤ 9223372036854775807 := by omega
        have s3'' : 2 + n.length ≤ 9223372036854775807 := by omega
        rw [hb]
        by_cases h3 : 64 < n.length + 1
        · have h3' : (64 : Int) < (n.length : Int) + 1 := by omega
          rw [if_pos (by simpa using h3)]
          refine wBody Tryd.tab Tryd.mixed Tryd.func19 rfl rfl Tryd.ntmps19 (by simp) (by simp) fun Q hr hn => ?_
          repeat' first | (refine hK _ ?_; clear hK) | (refine hK _ _ ?_; clear hK) | (clear hK; refine hK _ ?_; clear hK) | (clear hK; clear hK; refine hK _ ?_; clear hK) | (clear hK; clear hK; clear hK; refine hK _ ?_; clear hK) | (clear hK; clear hK; clear hK; clear hK; refine hK _ ?_; clear hK) | (refine wSeq fun K hK => ?_) | (refine wReg ?_; simp only [List.map_cons, List.map_nil, strip]) | (refine wDrwQ rfl (by kernel_rfl) ?_; simp only [List.map_cons, List.map_nil, strip]) | (refine wDrwI ?_; simp only [List.map_cons, List.map_nil, strip]) | (refine wDrw (by kernel_rfl) ?_; simp only [List.map_cons, List.map_nil, strip]) | (refine wIs fun K hK => ?_; simp [s3, s3', s3'', h3, h3']) | (refine wIn ?_; refine And.intro (by kernel_rfl) ?_; try simp only [thenA_n]) | (refine wOs fun K hK => ?_; simp [s3, s3', s3'', h3, h3']) | (refine wQs fun K hK => ?_; simp [s3, s3', s3'', h3, h3']) | (refine CallK_plain ?_; simp [s3, s3', s3'', h3, h3']) | (refine CallQ_plain ?_; simp [s3, s3', s3'', h3, h3']) | (refine wRet ?_; try simp) | (refine wCond ?_; simp [s3, s3', s3'', h3, h3']) | (refine wBlock ?_) | (refine wScope ?_) | (refine wLabel ?_; try simp only [thenA_n]) | (refine wExit ?_; try simp) | (refine wSkip ?_; try simp) | (refine wOn ?_; try simp only [thenA_n]) | (refine wQn ?_; try simp only [thenA_n]) | (refine CallE.pure (c1) rfl ?_) | (refine CallE.lent (c1) rfl ?_) | (refine CallF.pure (c1) rfl ?_) | (refine CallF.lent (c1) rfl ?_) | (refine CallE.own (c1) ?_) | (refine CallE.pure (c2) rfl ?_) | (refine CallE.lent (c2) rfl ?_) | (refine CallF.pure (c2) rfl ?_) | (refine CallF.lent (c2) rfl ?_) | (refine CallE.own (c2) ?_)
          all_goals apply hr
          all_goals simp [Tryd.f19]
        · have h3' : ¬ (64 : Int) < (n.length : Int) + 1 := by omega
          rw [if_neg (by simpa using h3)]
          refine wBody Tryd.tab Tryd.mixed Tryd.func19 rfl rfl Tryd.ntmps19 (by simp) (by simp) fun Q hr hn => ?_
          repeat' first | (refine hK _ ?_; clear hK) | (refine hK _ _ ?_; clear hK) | (clear hK; refine hK _ ?_; clear hK) | (clear hK; clear hK; refine hK _ ?_; clear hK) | (clear hK; clear hK; clear hK; refine hK _ ?_; clear hK) | (clear hK; clear hK; clear hK; clear hK; refine hK _ ?_; clear hK) | (refine wSeq fun K hK => ?_) | (refine wReg ?_; simp only [List.map_cons, List.map_nil, strip]) | (refine wDrwQ rfl (by kernel_rfl) ?_; simp only [List.map_cons, List.map_nil, strip]) | (refine wDrwI ?_; simp only [List.map_cons, List.map_nil, strip]) | (refine wDrw (by kernel_rfl) ?_; simp only [List.map_cons, List.map_nil, strip]) | (refine wIs fun K hK => ?_; simp [s3, s3', s3'', h3, h3']) | (refine wIn ?_; refine And.intro (by kernel_rfl) ?_; try simp only [thenA_n]) | (refine wOs fun K hK => ?_; simp [s3, s3', s3'', h3, h3']) | (refine wQs fun K hK => ?_; simp [s3, s3', s3'', h3, h3']) | (refine CallK_plain ?_; simp [s3, s3', s3'', h3, h3']) | (refine CallQ_plain ?_; simp [s3, s3', s3'', h3, h3']) | (refine wRet ?_; try simp) | (refine wCond ?_; simp [s3, s3', s3'', h3, h3']) | (refine wBlock ?_) | (refine wScope ?_) | (refine wLabel ?_; try simp only [thenA_n]) | (refine wExit ?_; try simp) | (refine wSkip ?_; try simp) | (refine wOn ?_; try simp only [thenA_n]) | (refine wQn ?_; try simp only [thenA_n]) | (refine CallE.pure (c1) rfl ?_) | (refine CallE.lent (c1) rfl ?_) | (refine CallF.pure (c1) rfl ?_) | (refine CallF.lent (c1) rfl ?_) | (refine CallE.own (c1) ?_) | (refine CallE.pure (c2) rfl ?_) | (refine CallE.lent (c2) rfl ?_) | (refine CallF.pure (c2) rfl ?_) | (refine CallF.lent (c2) rfl ?_) | (refine CallE.own (c2) ?_)
          all_goals apply hr
          all_goals simp [Tryd.f19]
      · rw [bel_eq h1 h4]
        by_cases h3 : 64 < p.length + (1 + n.length)
        · have h3' : (64 : Int) < (p.length : Int) + ((n.length : Int) + 1) := by omega
          have h3'' : (64 : Int) < (p.length : Int) + 1 + (n.length : Int) := by omega
          rw [if_pos (by simp; omega)]
          refine wBody Tryd.tab Tryd.mixed Tryd.func19 rfl rfl Tryd.ntmps19 (by simp) (by simp) fun Q hr hn => ?_
          repeat' first | (refine hK _ ?_; clear hK) | (refine hK _ _ ?_; clear hK) | (clear hK; refine hK _ ?_; clear hK) | (clear hK; clear hK; refine hK _ ?_; clear hK) | (clear hK; clear hK; clear hK; refine hK _ ?_; clear hK) | (clear hK; clear hK; clear hK; clear hK; refine hK _ ?_; clear hK) | (refine wSeq fun K hK => ?_) | (refine wReg ?_; simp only [List.map_cons, List.map_nil, strip]) | (refine wDrwQ rfl (by kernel_rfl) ?_; simp only [List.map_cons, List.map_nil, strip]) | (refine wDrwI ?_; simp only [List.map_cons, List.map_nil, strip]) | (refine wDrw (by kernel_rfl) ?_; simp only [List.map_cons, List.map_nil, strip]) | (refine wIs fun K hK => ?_; simp [h4, s1, s2, s2', s2'', h3, h3', h3'']) | (refine wIn ?_; refine And.intro (by kernel_rfl) ?_; try simp only [thenA_n]) | (refine wOs fun K hK => ?_; simp [h4, s1, s2, s2', s2'', h3, h3', h3'']) | (refine wQs fun K hK => ?_; simp [h4, s1, s2, s2', s2'', h3, h3', h3'']) | (refine CallK_plain ?_; simp [h4, s1, s2, s2', s2'', h3, h3', h3'']) | (refine CallQ_plain ?_; simp [h4, s1, s2, s2', s2'', h3, h3', h3'']) | (refine wRet ?_; try simp) | (refine wCond ?_; simp [h4, s1, s2, s2', s2'', h3, h3', h3'']) | (refine wBlock ?_) | (refine wScope ?_) | (refine wLabel ?_; try simp only [thenA_n]) | (refine wExit ?_; try simp) | (refine wSkip ?_; try simp) | (refine wOn ?_; try simp only [thenA_n]) | (refine wQn ?_; try simp only [thenA_n]) | (refine CallE.pure (c1) rfl ?_) | (refine CallE.lent (c1) rfl ?_) | (refine CallF.pure (c1) rfl ?_) | (refine CallF.lent (c1) rfl ?_) | (refine CallE.own (c1) ?_) | (refine CallE.pure (c2) rfl ?_) | (refine CallE.lent (c2) rfl ?_) | (refine CallF.pure (c2) rfl ?_) | (refine CallF.lent (c2) rfl ?_) | (refine CallE.own (c2) ?_)
          all_goals apply hr
          all_goals simp [Tryd.f19]
        · have h3' : ¬ (64 : Int) < (p.length : Int) + ((n.length : Int) + 1) := by omega
          have h3'' : ¬ (64 : Int) < (p.length : Int) + 1 + (n.length : Int) := by omega
          rw [if_neg (by simp; omega)]
          refine wBody Tryd.tab Tryd.mixed Tryd.func19 rfl rfl Tryd.ntmps19 (by simp) (by simp) fun Q hr hn => ?_
          repeat' first | (refine hK _ ?_; clear hK) | (refine hK _ _ ?_; clear hK) | (clear hK; refine hK _ ?_; clear hK) | (clear hK; clear hK; refine hK _ ?_; clear hK) | (clear hK; clear hK; clear hK; refine hK _ ?_; clear hK) | (clear hK; clear hK; clear hK; clear hK; refine hK _ ?_; clear hK) | (refine wSeq fun K hK => ?_) | (refine wReg ?_; simp only [List.map_cons, List.map_nil, strip]) | (refine wDrwQ rfl (by kernel_rfl) ?_; simp only [List.map_cons, List.map_nil, strip]) | (refine wDrwI ?_; simp only [List.map_cons, List.map_nil, strip]) | (refine wDrw (by kernel_rfl) ?_; simp only [List.map_cons, List.map_nil, strip]) | (refine wIs fun K hK => ?_; simp [h4, s1, s2, s2', s2'', h3, h3', h3'']) | (refine wIn ?_; refine And.intro (by kernel_rfl) ?_; try simp only [thenA_n]) | (refine wOs fun K hK => ?_; simp [h4, s1, s2, s2', s2'', h3, h3', h3'']) | (refine wQs fun K hK => ?_; simp [h4, s1, s2, s2', s2'', h3, h3', h3'']) | (refine CallK_plain ?_; simp [h4, s1, s2, s2', s2'', h3, h3', h3'']) | (refine CallQ_plain ?_; simp [h4, s1, s2, s2', s2'', h3, h3', h3'']) | (refine wRet ?_; try simp) | (refine wCond ?_; simp [h4, s1, s2, s2', s2'', h3, h3', h3'']) | (refine wBlock ?_) | (refine wScope ?_) | (refine wLabel ?_; try simp only [thenA_n]) | (refine wExit ?_; try simp) | (refine wSkip ?_; try simp) | (refine wOn ?_; try simp only [thenA_n]) | (refine wQn ?_; try simp only [thenA_n]) | (refine CallE.pure (c1) rfl ?_) | (refine CallE.lent (c1) rfl ?_) | (refine CallF.pure (c1) rfl ?_) | (refine CallF.lent (c1) rfl ?_) | (refine CallE.own (c1) ?_) | (refine CallE.pure (c2) rfl ?_) | (refine CallE.lent (c2) rfl ?_) | (refine CallF.pure (c2) rfl ?_) | (refine CallF.lent (c2) rfl ?_) | (refine CallE.own (c2) ?_)
          all_goals apply hr
          all_goals simp [Tryd.f19]
  · rw [if_neg h1]
    generalize chk p = e at c1 h1
    refine wBody Tryd.tab Tryd.mixed Tryd.func19 rfl rfl Tryd.ntmps19 (by simp) (by simp) fun Q hr hn => ?_
    repeat' first | (refine hK _ ?_; clear hK) | (refine hK _ _ ?_; clear hK) | (clear hK; refine hK _ ?_; clear hK) | (clear hK; clear hK; refine hK _ ?_; clear hK) | (clear hK; clear hK; clear hK; refine hK _ ?_; clear hK) | (clear hK; clear hK; clear hK; clear hK; refine hK _ ?_; clear hK) | (refine wSeq fun K hK => ?_) | (refine wReg ?_; simp only [List.map_cons, List.map_nil, strip]) | (refine wDrwQ rfl (by kernel_rfl) ?_; simp only [List.map_cons, List.map_nil, strip]) | (refine wDrwI ?_; simp only [List.map_cons, List.map_nil, strip]) | (refine wDrw (by kernel_rfl) ?_; simp only [List.map_cons, List.map_nil, strip]) | (refine wIs fun K hK => ?_; simp [h1]) | (refine wIn ?_; refine And.intro (by kernel_rfl) ?_; try simp only [thenA_n]) | (refine wOs fun K hK => ?_; simp [h1]) | (refine wQs fun K hK => ?_; simp [h1]) | (refine CallK_plain ?_; simp [h1]) | (refine CallQ_plain ?_; simp [h1]) | (refine wRet ?_; try simp) | (refine wCond ?_; simp [h1]) | (refine wBlock ?_) | (refine wScope ?_) | (refine wLabel ?_; try simp only [thenA_n]) | (refine wExit ?_; try simp) | (refine wSkip ?_; try simp) | (refine wOn ?_; try simp only [thenA_n]) | (refine wQn ?_; try simp only [thenA_n]) | (refine CallE.pure (c1) rfl ?_) | (refine CallE.lent (c1) rfl ?_) | (refine CallF.pure (c1) rfl ?_) | (refine CallF.lent (c1) rfl ?_) | (refine CallE.own (c1) ?_)
    all_goals apply hr
    all_goals simp [Tryd.f19]
end Go.Proofs.YtpbmicfbghnmeaaDoor
