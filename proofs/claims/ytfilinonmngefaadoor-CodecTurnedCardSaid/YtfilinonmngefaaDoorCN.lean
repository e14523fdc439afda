/- All frames of bytes: both; rows of bytes compared; the law CodecFrames. -/
import Derived.Test.YtfilinonmngefaaDoorCM
import Derived.Test.YtfilinonmngefaaDoorCK
namespace Go.Proofs.YtfilinonmngefaaDoor
set_option linter.unusedSimpArgs false
set_option linter.unusedVariables false
open Go Go.Av
attribute [local simp] Tryd.T1 Tryd.T2 Tryd.T3 Tryd.T4 Tryd.T5 Tryd.T9 Tryd.T12 Tryd.T15 Tryd.T16 Tryd.T17 Tryd.T21 Tryd.T22 Tryd.T23 Tryd.T24 Tryd.T25 Tryd.T27 Tryd.T28 Tryd.T29 Tryd.T31 Tryd.T32 Tryd.T34 Tryd.T35 Tryd.T36 Tryd.T38 Tryd.T39 Tryd.T41 Tryd.T42 Tryd.T43 Tryd.T44 Tryd.T45 Tryd.T46 Tryd.T47 Tryd.T48 Tryd.T49 Tryd.T50 Tryd.T51 Tryd.T52 Tryd.T53 Tryd.T54 Tryd.T55 Tryd.T56 Tryd.T57 Tryd.T58 Tryd.T59 Tryd.T60 Tryd.T61 Tryd.T62 Tryd.T63 Tryd.T65 Tryd.T66 Tryd.T67 Tryd.T68 Tryd.T69 Tryd.T70 Tryd.T73 Tryd.T78 Tryd.T79
attribute [local irreducible] Go.Av.CallK Go.Av.CallE Go.Av.CallQ Go.Av.CallF Go.Av.CallR Go.Av.CallH Go.Av.Con
def lds (l : List (List UInt8)) : List (List PV) := l.map fun x => [.sl 1 (by8 x)]
@[simp] theorem lds_len (l : List (List UInt8)) : (lds l).length = l.length := by simp [lds]
theorem lds_get {l : List (List UInt8)} {k : Nat} (h : k < l.length) : (lds l)[k]? = some [.sl 1 (by8 l[k])] := by simp [lds, h]
theorem lds_snoc (l : List (List UInt8)) (x : List UInt8) : lds l ++ [[.sl 1 (by8 x)]] = lds (l ++ [x]) := by simp [lds]
/-- The loads from a place on, and where they end. -/
def frs (b : List UInt8) : Nat → Nat → List (List UInt8) × Nat
  | 0, a => ([], a)
  | f + 1, a =>
    if a < b.length then
      if (opR b a).1 = 0 then ((b.drop (opR b a).2.2).take (opR b a).2.1 :: (frs b f ((opR b a).2.2 + (opR b a).2.1 + 4)).1, (frs b f ((opR b a).2.2 + (opR b a).2.1 + 4)).2)
      else ([], a)
    else ([], a)
theorem frs_end {b : List UInt8} {a : Nat} (h : b.length ≤ a) : ∀ f, frs b f a = ([], a)
  | 0 => rfl
  | f + 1 => by rw [frs, if_neg (by omega)]
theorem opR_ok {b : List UInt8} {a : Nat} (h : (opR b a).1 = 0) : a < (opR b a).2.2 ∧ (opR b a).2.2 + (opR b a).2.1 + 4 ≤ b.length ∧ (opR b a).2.1 ≤ 65536 ∧ opR b a = lnR b.length a 4 (rdU 0 0 (b.drop a)) ∧ (b.drop ((opR b a).2.2 + (opR b a).2.1)).take 4 = le4 (crc ((b.take ((opR b a).2.2 + (opR b a).2.1)).drop a)) := by
  have hok := fun n q => lnR_ok (L := b.length) (a := a) (tail := 4) (r := rdU 0 0 (b.drop a)) (n := n) (q := q)
  have hrd := (rdU_le (b.drop a) 0 0 (by decide) (by omega)).2.2.2
  unfold opR frR at h ⊢
  generalize hr : lnR b.length a 4 (rdU 0 0 (b.drop a)) = r at hok h ⊢
  obtain ⟨e, n, q⟩ := r
  by_cases h0 : e = 0
  · subst h0
    simp only [if_true] at h ⊢
    split at h
    · rename_i hs
      rw [if_pos hs]
      obtain ⟨h1, -, h2, h3, h4⟩ := hok n q rfl
      have := hrd h1
      exact ⟨by simp only; omega, by simp only; omega, h2, rfl, hs⟩
    · simp at h
  · simp only [h0, if_false] at h
def framesT (b : List UInt8) : V := .tup [.p (.sl 1 (lds (frs b b.length 0).1)), .p (I (frs b b.length 0).2)]
set_option maxHeartbeats 1000000 in
theorem frames_con (b : List UInt8) (hb : b.length ≤ 1000000000) : ACon Tryd.prog 25 [.p (.sl 1 (by8 b))] (framesT b) := by
  refine Con.toPureT (t := 22) ?_
  refine wBodyG Tryd.tab Tryd.mixed Tryd.func25 rfl rfl Tryd.ntmps25 (by simp) (by simp) fun Q hr hn hp => ?_
  repeat' first | (refine hK _ ?_; clear hK) | (refine hK _ _ ?_; clear hK) | (clear hK; refine hK _ ?_; clear hK) | (clear hK; clear hK; refine hK _ ?_; clear hK) | (clear hK; clear hK; clear hK; refine hK _ ?_; clear hK) | (clear hK; clear hK; clear hK; clear hK; refine hK _ ?_; clear hK) | (refine wSeq fun K hK => ?_) | ((first | refine wReg ?_ | refine wDrwQ rfl (by kernel_rfl) ?_ | refine wDrwI ?_ | refine wDrw (by kernel_rfl) ?_); simp only [List.map_cons, List.map_nil, strip]) | ((first | refine wIs fun K hK => ?_ | refine wOs fun K hK => ?_ | refine wQs fun K hK => ?_ | refine CallK_plain ?_ | refine CallQ_plain ?_ | refine CallR_plain ?_ | refine wCond ?_); simp) | (refine wIn ?_; refine And.intro (by kernel_rfl) ?_; try simp only [thenA_n]) | (first | refine wBlock ?_ | refine wScope ?_) | ((first | refine wRet ?_ | refine wExit ?_ | refine wSkip ?_); try simp) | ((first | refine wLabel ?_ | refine wOn ?_ | refine wQn ?_); try simp only [thenA_n])
  refine wLoopG [.row 4 22 1] (fun N st => ∃ a l, b.length ≤ a + N ∧ a ≤ b.length ∧ l.length ≤ a ∧ frs b b.length 0 = (l ++ (frs b N a).1, (frs b N a).2) ∧ st.s 0 = .p (.sl 1 (by8 b)) ∧ st.s 4 = .row 4 ∧ st.s 5 = .p (I a) ∧ st.b 4 = some (.row 22 1 (lds l))) b.length ⟨0, [], by simp [lds]⟩ fun K N st hL ⟨a, l, hN, hab, hla, he, g0, g4, g5, b4⟩ => ?_
  by_cases hlt : a < b.length
  rotate_left
  · rw [frs_end (b := b) (a := a) (by omega) N] at he
    rw [he] at hr
    have hlt' : ¬ (a : Int) < b.length := by omega
    repeat' first | (refine hK _ ?_; clear hK) | (refine hK _ _ ?_; clear hK) | (clear hK; refine hK _ ?_; clear hK) | (clear hK; clear hK; refine hK _ ?_; clear hK) | (clear hK; clear hK; clear hK; refine hK _ ?_; clear hK) | (clear hK; clear hK; clear hK; clear hK; refine hK _ ?_; clear hK) | (refine wSeq fun K hK => ?_) | ((first | refine wReg ?_ | refine wDrwQ rfl (by kernel_rfl) ?_ | refine wDrwI ?_ | refine wDrw (by kernel_rfl) ?_); simp only [List.map_cons, List.map_nil, strip]) | ((first | refine wIs fun K hK => ?_ | refine wOs fun K hK => ?_ | refine wQs fun K hK => ?_ | refine CallK_plain ?_ | refine CallQ_plain ?_ | refine CallR_plain ?_ | refine wCond ?_); simp [g0, g4, g5, b4, hlt, hlt']) | (refine wIn ?_; refine And.intro (by kernel_rfl) ?_; try simp only [thenA_n]) | (first | refine wBlock ?_ | refine wScope ?_) | ((first | refine wRet ?_ | refine wExit ?_ | refine wSkip ?_); try simp) | ((first | refine wLabel ?_ | refine wOn ?_ | refine wQn ?_); try simp only [thenA_n])
    all_goals apply hr
    all_goals refine ⟨[4], by simp, by simp, ?_⟩
    all_goals simp [Tryd.f25, outR, outB, renB, gaN, g0, g4, g5, b4]
  obtain ⟨M, rfl⟩ : ∃ M, N = M + 1 := ⟨N - 1, by omega⟩
  have hlt' : (a : Int) < b.length := by omega
  have hc := open_con b a hb
  unfold openT at hc
  rw [if_neg (by omega)] at hc
  simp only [Int.toNat_natCast] at hc
  rw [frs, if_pos hlt] at he
  have hok := fun h => opR_ok (b := b) (a := a) h
  generalize opR b a = r at hc he hok
  obtain ⟨e, n, q⟩ := r
  unfold frT at hc
  simp only at hc he hok
  by_cases h0 : e = 0
  · subst h0
    rw [if_pos rfl] at hc he
    obtain ⟨h1, h2, -⟩ := hok rfl
    obtain ⟨y, hy⟩ : ∃ y, y = q + n + 4 := ⟨_, rfl⟩
    rw [← hy] at hc he
    generalize (b.drop q).take n = x at hc he
    have hx := lds_snoc l x
    have hl1 : l.length < 1000000000 := by omega
    repeat' first | (refine And.intro (by (try simp only [lds_len]); omega) ?_) | (refine hK _ ?_; clear hK) | (refine hK _ _ ?_; clear hK) | (clear hK; refine hK _ ?_; clear hK) | (clear hK; clear hK; refine hK _ ?_; clear hK) | (clear hK; clear hK; clear hK; refine hK _ ?_; clear hK) | (clear hK; clear hK; clear hK; clear hK; refine hK _ ?_; clear hK) | (refine wSeq fun K hK => ?_) | ((first | refine wReg ?_ | refine wDrwQ rfl (by kernel_rfl) ?_ | refine wDrwI ?_ | refine wDrw (by kernel_rfl) ?_); simp only [List.map_cons, List.map_nil, strip]) | ((first | refine wIs fun K hK => ?_ | refine wOs fun K hK => ?_ | refine wQs fun K hK => ?_ | refine CallK_plain ?_ | refine CallQ_plain ?_ | refine CallR_plain ?_ | refine wCond ?_); simp [g0, g4, g5, b4, hlt, hlt']) | (refine wIn ?_; refine And.intro (by kernel_rfl) ?_; try simp only [thenA_n]) | (first | refine wBlock ?_ | refine wScope ?_) | ((first | refine wRet ?_ | refine wExit ?_ | refine wSkip ?_); try simp) | ((first | refine wLabel ?_ | refine wOn ?_ | refine wQn ?_); try simp only [thenA_n]) | (refine CallE.pure (hc) rfl ?_) | (refine CallE.lent (hc) rfl ?_) | (refine CallF.pure (hc) rfl ?_) | (refine CallF.lent (hc) rfl ?_) | (refine CallE.own (hc) ?_) | (refine CallH.pure (hc) rfl ?_) | (refine CallH.lent (hc) rfl ?_) | (refine CallH.own (hc) ?_)
    refine hL _ M (by omega) ⟨y, l ++ [x], by omega, by omega, by rw [List.length_append]; simp; omega, by rw [he]; simp, ?_⟩
    simp [g0, g4, g5, b4, hx]
  · rw [if_neg h0] at hc he
    rw [he] at hr
    repeat' first | (refine hK _ ?_; clear hK) | (refine hK _ _ ?_; clear hK) | (clear hK; refine hK _ ?_; clear hK) | (clear hK; clear hK; refine hK _ ?_; clear hK) | (clear hK; clear hK; clear hK; refine hK _ ?_; clear hK) | (clear hK; clear hK; clear hK; clear hK; refine hK _ ?_; clear hK) | (refine wSeq fun K hK => ?_) | ((first | refine wReg ?_ | refine wDrwQ rfl (by kernel_rfl) ?_ | refine wDrwI ?_ | refine wDrw (by kernel_rfl) ?_); simp only [List.map_cons, List.map_nil, strip]) | ((first | refine wIs fun K hK => ?_ | refine wOs fun K hK => ?_ | refine wQs fun K hK => ?_ | refine CallK_plain ?_ | refine CallQ_plain ?_ | refine CallR_plain ?_ | refine wCond ?_); simp [g0, g4, g5, b4, hlt, hlt', h0]) | (refine wIn ?_; refine And.intro (by kernel_rfl) ?_; try simp only [thenA_n]) | (first | refine wBlock ?_ | refine wScope ?_) | ((first | refine wRet ?_ | refine wExit ?_ | refine wSkip ?_); try simp) | ((first | refine wLabel ?_ | refine wOn ?_ | refine wQn ?_); try simp only [thenA_n]) | (refine CallE.pure (hc) rfl ?_) | (refine CallE.lent (hc) rfl ?_) | (refine CallF.pure (hc) rfl ?_) | (refine CallF.lent (hc) rfl ?_) | (refine CallE.own (hc) ?_) | (refine CallH.pure (hc) rfl ?_) | (refine CallH.lent (hc) rfl ?_) | (refine CallH.own (hc) ?_)
    all_goals apply hr
    all_goals refine ⟨[4], by simp, by simp, ?_⟩
    all_goals simp [Tryd.f25, outR, outB, renB, gaN, g0, g4, g5, b4]
set_option maxHeartbeats 1000000 in
theorem frames01_con (b : List UInt8) (hb : b.length ≤ 1000000000) : ACon Tryd.prog 26 [.p (.sl 1 (by8 b))] (framesT b) := by
  refine Con.toPureT (t := 22) ?_
  refine wBodyG Tryd.tab Tryd.mixed Tryd.func26 rfl rfl Tryd.ntmps26 (by simp) (by simp) fun Q hr hn hp => ?_
  repeat' first | (refine hK _ ?_; clear hK) | (refine hK _ _ ?_; clear hK) | (clear hK; refine hK _ ?_; clear hK) | (clear hK; clear hK; refine hK _ ?_; clear hK) | (clear hK; clear hK; clear hK; refine hK _ ?_; clear hK) | (clear hK; clear hK; clear hK; clear hK; refine hK _ ?_; clear hK) | (refine wSeq fun K hK => ?_) | ((first | refine wReg ?_ | refine wDrwQ rfl (by kernel_rfl) ?_ | refine wDrwI ?_ | refine wDrw (by kernel_rfl) ?_); simp only [List.map_cons, List.map_nil, strip]) | ((first | refine wIs fun K hK => ?_ | refine wOs fun K hK => ?_ | refine wQs fun K hK => ?_ | refine CallK_plain ?_ | refine CallQ_plain ?_ | refine CallR_plain ?_ | refine wCond ?_); simp) | (refine wIn ?_; refine And.intro (by kernel_rfl) ?_; try simp only [thenA_n]) | (first | refine wBlock ?_ | refine wScope ?_) | ((first | refine wRet ?_ | refine wExit ?_ | refine wSkip ?_); try simp) | ((first | refine wLabel ?_ | refine wOn ?_ | refine wQn ?_); try simp only [thenA_n])
  refine wLoopG [.row 4 22 1] (fun N st => ∃ a l, b.length ≤ a + N ∧ a ≤ b.length ∧ l.length ≤ a ∧ frs b b.length 0 = (l ++ (frs b N a).1, (frs b N a).2) ∧ st.s 0 = .p (.sl 1 (by8 b)) ∧ st.s 4 = .row 4 ∧ st.s 5 = .p (I a) ∧ st.b 4 = some (.row 22 1 (lds l))) b.length ⟨0, [], by simp [lds]⟩ fun K N st hL ⟨a, l, hN, hab, hla, he, g0, g4, g5, b4⟩ => ?_
  by_cases hlt : a < b.length
  rotate_left
  · rw [frs_end (b := b) (a := a) (by omega) N] at he
    rw [he] at hr
    have hlt' : ¬ (a : Int) < b.length := by omega
    repeat' first | (refine hK _ ?_; clear hK) | (refine hK _ _ ?_; clear hK) | (clear hK; refine hK _ ?_; clear hK) | (clear hK; clear hK; refine hK _ ?_; clear hK) | (clear hK; clear hK; clear hK; refine hK _ ?_; clear hK) | (clear hK; clear hK; clear hK; clear hK; refine hK _ ?_; clear hK) | (refine wSeq fun K hK => ?_) | ((first | refine wReg ?_ | refine wDrwQ rfl (by kernel_rfl) ?_ | refine wDrwI ?_ | refine wDrw (by kernel_rfl) ?_); simp only [List.map_cons, List.map_nil, strip]) | ((first | refine wIs fun K hK => ?_ | refine wOs fun K hK => ?_ | refine wQs fun K hK => ?_ | refine CallK_plain ?_ | refine CallQ_plain ?_ | refine CallR_plain ?_ | refine wCond ?_); simp [g0, g4, g5, b4, hlt, hlt']) | (refine wIn ?_; refine And.intro (by kernel_rfl) ?_; try simp only [thenA_n]) | (first | refine wBlock ?_ | refine wScope ?_) | ((first | refine wRet ?_ | refine wExit ?_ | refine wSkip ?_); try simp) | ((first | refine wLabel ?_ | refine wOn ?_ | refine wQn ?_); try simp only [thenA_n])
    all_goals apply hr
    all_goals refine ⟨[4], by simp, by simp, ?_⟩
    all_goals simp [Tryd.f26, outR, outB, renB, gaN, g0, g4, g5, b4]
  obtain ⟨M, rfl⟩ : ∃ M, N = M + 1 := ⟨N - 1, by omega⟩
  have hlt' : (a : Int) < b.length := by omega
  have hc := open01_con b a hb
  unfold openT at hc
  rw [if_neg (by omega)] at hc
  simp only [Int.toNat_natCast] at hc
  rw [frs, if_pos hlt] at he
  have hok := fun h => opR_ok (b := b) (a := a) h
  generalize opR b a = r at hc he hok
  obtain ⟨e, n, q⟩ := r
  unfold frT at hc
  simp only at hc he hok
  by_cases h0 : e = 0
  · subst h0
    rw [if_pos rfl] at hc he
    obtain ⟨h1, h2, -⟩ := hok rfl
    obtain ⟨y, hy⟩ : ∃ y, y = q + n + 4 := ⟨_, rfl⟩
    rw [← hy] at hc he
    generalize (b.drop q).take n = x at hc he
    have hx := lds_snoc l x
    have hl1 : l.length < 1000000000 := by omega
    repeat' first | (refine And.intro (by (try simp only [lds_len]); omega) ?_) | (refine hK _ ?_; clear hK) | (refine hK _ _ ?_; clear hK) | (clear hK; refine hK _ ?_; clear hK) | (clear hK; clear hK; refine hK _ ?_; clear hK) | (clear hK; clear hK; clear hK; refine hK _ ?_; clear hK) | (clear hK; clear hK; clear hK; clear hK; refine hK _ ?_; clear hK) | (refine wSeq fun K hK => ?_) | ((first | refine wReg ?_ | refine wDrwQ rfl (by kernel_rfl) ?_ | refine wDrwI ?_ | refine wDrw (by kernel_rfl) ?_); simp only [List.map_cons, List.map_nil, strip]) | ((first | refine wIs fun K hK => ?_ | refine wOs fun K hK => ?_ | refine wQs fun K hK => ?_ | refine CallK_plain ?_ | refine CallQ_plain ?_ | refine CallR_plain ?_ | refine wCond ?_); simp [g0, g4, g5, b4, hlt, hlt']) | (refine wIn ?_; refine And.intro (by kernel_rfl) ?_; try simp only [thenA_n]) | (first | refine wBlock ?_ | refine wScope ?_) | ((first | refine wRet ?_ | refine wExit ?_ | refine wSkip ?_); try simp) | ((first | refine wLabel ?_ | refine wOn ?_ | refine wQn ?_); try simp only [thenA_n]) | (refine CallE.pure (hc) rfl ?_) | (refine CallE.lent (hc) rfl ?_) | (refine CallF.pure (hc) rfl ?_) | (refine CallF.lent (hc) rfl ?_) | (refine CallE.own (hc) ?_) | (refine CallH.pure (hc) rfl ?_) | (refine CallH.lent (hc) rfl ?_) | (refine CallH.own (hc) ?_)
    refine hL _ M (by omega) ⟨y, l ++ [x], by omega, by omega, by rw [List.length_append]; simp; omega, by rw [he]; simp, ?_⟩
    simp [g0, g4, g5, b4, hx]
  · rw [if_neg h0] at hc he
    rw [he] at hr
    repeat' first | (refine hK _ ?_; clear hK) | (refine hK _ _ ?_; clear hK) | (clear hK; refine hK _ ?_; clear hK) | (clear hK; clear hK; refine hK _ ?_; clear hK) | (clear hK; clear hK; clear hK; refine hK _ ?_; clear hK) | (clear hK; clear hK; clear hK; clear hK; refine hK _ ?_; clear hK) | (refine wSeq fun K hK => ?_) | ((first | refine wReg ?_ | refine wDrwQ rfl (by kernel_rfl) ?_ | refine wDrwI ?_ | refine wDrw (by kernel_rfl) ?_); simp only [List.map_cons, List.map_nil, strip]) | ((first | refine wIs fun K hK => ?_ | refine wOs fun K hK => ?_ | refine wQs fun K hK => ?_ | refine CallK_plain ?_ | refine CallQ_plain ?_ | refine CallR_plain ?_ | refine wCond ?_); simp [g0, g4, g5, b4, hlt, hlt', h0]) | (refine wIn ?_; refine And.intro (by kernel_rfl) ?_; try simp only [thenA_n]) | (first | refine wBlock ?_ | refine wScope ?_) | ((first | refine wRet ?_ | refine wExit ?_ | refine wSkip ?_); try simp) | ((first | refine wLabel ?_ | refine wOn ?_ | refine wQn ?_); try simp only [thenA_n]) | (refine CallE.pure (hc) rfl ?_) | (refine CallE.lent (hc) rfl ?_) | (refine CallF.pure (hc) rfl ?_) | (refine CallF.lent (hc) rfl ?_) | (refine CallE.own (hc) ?_) | (refine CallH.pure (hc) rfl ?_) | (refine CallH.lent (hc) rfl ?_) | (refine CallH.own (hc) ?_)
    all_goals apply hr
    all_goals refine ⟨[4], by simp, by simp, ?_⟩
    all_goals simp [Tryd.f26, outR, outB, renB, gaN, g0, g4, g5, b4]
theorem bs_inj {a b : List UInt8} : (bs a = bs b) = (a = b) := by
  refine propext ⟨fun h => ?_, fun h => by rw [h]⟩
  have := congrArg (fun x => x.data.toList) h
  exact this
set_option maxHeartbeats 1000000 in
theorem same_con (a b : List (List UInt8)) (ha : a.length ≤ 1000000000) (hb : b.length ≤ 1000000000) : ACon Tryd.prog 27 [.p (.sl 1 (lds a)), .p (.sl 1 (lds b))] (.p (B (decide (a = b)))) := by
  by_cases h1 : a.length = b.length
  rotate_left
  · have h1' : ¬ (a.length : Int) = b.length := by omega
    have hne : decide (a = b) = false := decide_eq_false fun h => h1 (by rw [h])
    rw [hne]
    refine wBody Tryd.tab Tryd.mixed Tryd.func27 rfl rfl Tryd.ntmps27 (by simp) (by simp) fun Q hr hn => ?_
    repeat' first | (refine hK _ ?_; clear hK) | (refine hK _ _ ?_; clear hK) | (clear hK; refine hK _ ?_; clear hK) | (clear hK; clear hK; refine hK _ ?_; clear hK) | (clear hK; clear hK; clear hK; refine hK _ ?_; clear hK) | (clear hK; clear hK; clear hK; clear hK; refine hK _ ?_; clear hK) | (refine wSeq fun K hK => ?_) | ((first | refine wReg ?_ | refine wDrwQ rfl (by kernel_rfl) ?_ | refine wDrwI ?_ | refine wDrw (by kernel_rfl) ?_); simp only [List.map_cons, List.map_nil, strip]) | ((first | refine wIs fun K hK => ?_ | refine wOs fun K hK => ?_ | refine wQs fun K hK => ?_ | refine CallK_plain ?_ | refine CallQ_plain ?_ | refine CallR_plain ?_ | refine wCond ?_); simp [h1, h1']) | (refine wIn ?_; refine And.intro (by kernel_rfl) ?_; try simp only [thenA_n]) | (first | refine wBlock ?_ | refine wScope ?_) | ((first | refine wRet ?_ | refine wExit ?_ | refine wSkip ?_); try simp) | ((first | refine wLabel ?_ | refine wOn ?_ | refine wQn ?_); try simp only [thenA_n])
    all_goals apply hr
    all_goals simp [Tryd.f27]
  have h1' : ((a.length : Int) = b.length) = True := by simp [h1]
  have h1n : (a.length = b.length) = True := by simp [h1]
  refine wBody Tryd.tab Tryd.mixed Tryd.func27 rfl rfl Tryd.ntmps27 (by simp) (by simp) fun Q hr hn => ?_
  repeat' first | (refine hK _ ?_; clear hK) | (refine hK _ _ ?_; clear hK) | (clear hK; refine hK _ ?_; clear hK) | (clear hK; clear hK; refine hK _ ?_; clear hK) | (clear hK; clear hK; clear hK; refine hK _ ?_; clear hK) | (clear hK; clear hK; clear hK; clear hK; refine hK _ ?_; clear hK) | (refine wSeq fun K hK => ?_) | ((first | refine wReg ?_ | refine wDrwQ rfl (by kernel_rfl) ?_ | refine wDrwI ?_ | refine wDrw (by kernel_rfl) ?_); simp only [List.map_cons, List.map_nil, strip]) | ((first | refine wIs fun K hK => ?_ | refine wOs fun K hK => ?_ | refine wQs fun K hK => ?_ | refine CallK_plain ?_ | refine CallQ_plain ?_ | refine CallR_plain ?_ | refine wCond ?_); simp [h1n, h1']) | (refine wIn ?_; refine And.intro (by kernel_rfl) ?_; try simp only [thenA_n]) | (first | refine wBlock ?_ | refine wScope ?_) | ((first | refine wRet ?_ | refine wExit ?_ | refine wSkip ?_); try simp) | ((first | refine wLabel ?_ | refine wOn ?_ | refine wQn ?_); try simp only [thenA_n])
  refine wLoop (fun N st => ∃ k, k + N = a.length ∧ a.take k = b.take k ∧ st.s 0 = .p (.sl 1 (lds a)) ∧ st.s 1 = .p (.sl 1 (lds b)) ∧ st.s 12 = .p (I a.length) ∧ st.s 13 = .p (I k)) a.length ⟨0, by simp⟩ fun K N st hL ⟨k, hk, hpre, g0, g1, g12, g13⟩ => ?_
  by_cases hlt : k < a.length
  rotate_left
  · have hab : a = b := by
      rw [List.take_of_length_le (by omega), List.take_of_length_le (by omega)] at hpre; exact hpre
    have hlt' : ¬ (k : Int) < a.length := by omega
    rw [decide_eq_true hab] at hr
    repeat' first | (refine hK _ ?_; clear hK) | (refine hK _ _ ?_; clear hK) | (clear hK; refine hK _ ?_; clear hK) | (clear hK; clear hK; refine hK _ ?_; clear hK) | (clear hK; clear hK; clear hK; refine hK _ ?_; clear hK) | (clear hK; clear hK; clear hK; clear hK; refine hK _ ?_; clear hK) | (refine wSeq fun K hK => ?_) | ((first | refine wReg ?_ | refine wDrwQ rfl (by kernel_rfl) ?_ | refine wDrwI ?_ | refine wDrw (by kernel_rfl) ?_); simp only [List.map_cons, List.map_nil, strip]) | ((first | refine wIs fun K hK => ?_ | refine wOs fun K hK => ?_ | refine wQs fun K hK => ?_ | refine CallK_plain ?_ | refine CallQ_plain ?_ | refine CallR_plain ?_ | refine wCond ?_); simp [g0, g1, g12, g13, hlt, hlt']) | (refine wIn ?_; refine And.intro (by kernel_rfl) ?_; try simp only [thenA_n]) | (first | refine wBlock ?_ | refine wScope ?_) | ((first | refine wRet ?_ | refine wExit ?_ | refine wSkip ?_); try simp) | ((first | refine wLabel ?_ | refine wOn ?_ | refine wQn ?_); try simp only [thenA_n])
    all_goals apply hr
    all_goals simp [Tryd.f27]
  have hlt' : (k : Int) < a.length := by omega
  have hltb : k < b.length := by omega
  have hw := wrapS k _ hlt (by omega)
  have e1 := lds_get hlt
  have e2 := lds_get hltb
  have hx1 : k < (lds a).length := by simpa using hlt
  have hx2 : k < (lds b).length := by simpa using hltb
  have q1 : (lds a)[k] = [.sl 1 (by8 a[k])] := by simp [lds]
  have q2 : (lds b)[k] = [.sl 1 (by8 b[k])] := by simp [lds]
  have u1 := unL_by8 a[k]
  have u2 := unL_by8 b[k]
  have v1 := strOf_by8 a[k]
  have v2 := strOf_by8 b[k]
  by_cases hxy : a[k] = b[k]
  · have hstep : a.take (k + 1) = b.take (k + 1) := by rw [List.take_succ_eq_append_getElem hlt, List.take_succ_eq_append_getElem hltb, hpre, hxy]
    rw [← hxy] at e2 q2
    generalize a[k] = x at e1 e2 q1 q2 u1 v1
    repeat' first | (refine hK _ ?_; clear hK) | (refine hK _ _ ?_; clear hK) | (clear hK; refine hK _ ?_; clear hK) | (clear hK; clear hK; refine hK _ ?_; clear hK) | (clear hK; clear hK; clear hK; refine hK _ ?_; clear hK) | (clear hK; clear hK; clear hK; clear hK; refine hK _ ?_; clear hK) | (refine wSeq fun K hK => ?_) | ((first | refine wReg ?_ | refine wDrwQ rfl (by kernel_rfl) ?_ | refine wDrwI ?_ | refine wDrw (by kernel_rfl) ?_); simp only [List.map_cons, List.map_nil, strip]) | ((first | refine wIs fun K hK => ?_ | refine wOs fun K hK => ?_ | refine wQs fun K hK => ?_ | refine CallK_plain ?_ | refine CallQ_plain ?_ | refine CallR_plain ?_ | refine wCond ?_); simp [g0, g1, g12, g13, hlt, hlt', hltb, hw, e1, e2, q1, q2, u1, v1]) | (refine wIn ?_; refine And.intro (by kernel_rfl) ?_; try simp only [thenA_n]) | (first | refine wBlock ?_ | refine wScope ?_) | ((first | refine wRet ?_ | refine wExit ?_ | refine wSkip ?_); try simp) | ((first | refine wLabel ?_ | refine wOn ?_ | refine wQn ?_); try simp only [thenA_n])
    refine hL _ (N - 1) (by omega) ⟨k + 1, by omega, hstep, ?_⟩
    simp [g0, g1, g12, g13, hw]
  · have hne : decide (a = b) = false := decide_eq_false fun h => hxy (by simp only [h])
    rw [hne] at hr
    generalize a[k] = x at e1 q1 u1 v1 hxy
    generalize b[k] = y at e2 q2 u2 v2 hxy
    have hb1 : ¬ bs x = bs y := by rw [bs_inj]; exact hxy
    repeat' first | (refine hK _ ?_; clear hK) | (refine hK _ _ ?_; clear hK) | (clear hK; refine hK _ ?_; clear hK) | (clear hK; clear hK; refine hK _ ?_; clear hK) | (clear hK; clear hK; clear hK; refine hK _ ?_; clear hK) | (clear hK; clear hK; clear hK; clear hK; refine hK _ ?_; clear hK) | (refine wSeq fun K hK => ?_) | ((first | refine wReg ?_ | refine wDrwQ rfl (by kernel_rfl) ?_ | refine wDrwI ?_ | refine wDrw (by kernel_rfl) ?_); simp only [List.map_cons, List.map_nil, strip]) | ((first | refine wIs fun K hK => ?_ | refine wOs fun K hK => ?_ | refine wQs fun K hK => ?_ | refine CallK_plain ?_ | refine CallQ_plain ?_ | refine CallR_plain ?_ | refine wCond ?_); simp [g0, g1, g12, g13, hlt, hlt', hltb, hw, e1, e2, q1, q2, u1, v1, u2, v2, hxy, hb1]) | (refine wIn ?_; refine And.intro (by kernel_rfl) ?_; try simp only [thenA_n]) | (first | refine wBlock ?_ | refine wScope ?_) | ((first | refine wRet ?_ | refine wExit ?_ | refine wSkip ?_); try simp) | ((first | refine wLabel ?_ | refine wOn ?_ | refine wQn ?_); try simp only [thenA_n])
    all_goals apply hr
    all_goals simp [Tryd.f27]

theorem frs_len (b : List UInt8) : ∀ f a, (frs b f a).1.length ≤ f
  | 0, a => by simp [frs]
  | f + 1, a => by
    rw [frs]
    split
    · split
      · have := frs_len b f ((opR b a).2.2 + (opR b a).2.1 + 4)
        simp only [List.length_cons]; omega
      · simp
    · simp
theorem sealT_shape (l : List UInt8) : ∃ (x : List UInt8) (e : Int), sealT l = .tup [.p (.sl 1 (by8 x)), .p (I e)] := by
  unfold sealT
  split
  · exact ⟨[], _, rfl⟩
  · exact ⟨_, _, rfl⟩
set_option maxHeartbeats 4000000 in
theorem codecFrames_con (l b : List UInt8) (a : Int) : ACon Tryd.prog 5 [.p (.sl 1 (by8 l)), .p (.sl 1 (by8 b)), .p (I a)] (.p (B true)) := by
  by_cases h1 : 3000 < b.length
  · have h1' : (3000 : Int) < b.length := by omega
    refine wBody Tryd.tab Tryd.mixed Tryd.func5 rfl rfl Tryd.ntmps5 (by simp) (by simp) fun Q hr hn => ?_
    repeat' first | (refine hK _ ?_; clear hK) | (refine hK _ _ ?_; clear hK) | (clear hK; refine hK _ ?_; clear hK) | (clear hK; clear hK; refine hK _ ?_; clear hK) | (clear hK; clear hK; clear hK; refine hK _ ?_; clear hK) | (clear hK; clear hK; clear hK; clear hK; refine hK _ ?_; clear hK) | (refine wSeq fun K hK => ?_) | ((first | refine wReg ?_ | refine wDrwQ rfl (by kernel_rfl) ?_ | refine wDrwI ?_ | refine wDrw (by kernel_rfl) ?_); simp only [List.map_cons, List.map_nil, strip]) | ((first | refine wIs fun K hK => ?_ | refine wOs fun K hK => ?_ | refine wQs fun K hK => ?_ | refine CallK_plain ?_ | refine CallQ_plain ?_ | refine CallR_plain ?_ | refine wCond ?_); simp [h1, h1']) | (refine wIn ?_; refine And.intro (by kernel_rfl) ?_; try simp only [thenA_n]) | (first | refine wBlock ?_ | refine wScope ?_) | ((first | refine wRet ?_ | refine wExit ?_ | refine wSkip ?_); try simp) | ((first | refine wLabel ?_ | refine wOn ?_ | refine wQn ?_); try simp only [thenA_n]) | (refine CallE.pure (awake01) rfl ?_) | (refine CallE.lent (awake01) rfl ?_) | (refine CallF.pure (awake01) rfl ?_) | (refine CallF.lent (awake01) rfl ?_) | (refine CallE.own (awake01) ?_) | (refine CallH.pure (awake01) rfl ?_) | (refine CallH.lent (awake01) rfl ?_) | (refine CallH.own (awake01) ?_)
    all_goals apply hr
    all_goals simp [Tryd.f5]
  have h1' : ¬ (3000 : Int) < b.length := by omega
  by_cases h2 : 3000 < l.length
  · have h2' : (3000 : Int) < l.length := by omega
    refine wBody Tryd.tab Tryd.mixed Tryd.func5 rfl rfl Tryd.ntmps5 (by simp) (by simp) fun Q hr hn => ?_
    repeat' first | (refine hK _ ?_; clear hK) | (refine hK _ _ ?_; clear hK) | (clear hK; refine hK _ ?_; clear hK) | (clear hK; clear hK; refine hK _ ?_; clear hK) | (clear hK; clear hK; clear hK; refine hK _ ?_; clear hK) | (clear hK; clear hK; clear hK; clear hK; refine hK _ ?_; clear hK) | (refine wSeq fun K hK => ?_) | ((first | refine wReg ?_ | refine wDrwQ rfl (by kernel_rfl) ?_ | refine wDrwI ?_ | refine wDrw (by kernel_rfl) ?_); simp only [List.map_cons, List.map_nil, strip]) | ((first | refine wIs fun K hK => ?_ | refine wOs fun K hK => ?_ | refine wQs fun K hK => ?_ | refine CallK_plain ?_ | refine CallQ_plain ?_ | refine CallR_plain ?_ | refine wCond ?_); simp [h1, h1', h2, h2']) | (refine wIn ?_; refine And.intro (by kernel_rfl) ?_; try simp only [thenA_n]) | (first | refine wBlock ?_ | refine wScope ?_) | ((first | refine wRet ?_ | refine wExit ?_ | refine wSkip ?_); try simp) | ((first | refine wLabel ?_ | refine wOn ?_ | refine wQn ?_); try simp only [thenA_n]) | (refine CallE.pure (awake01) rfl ?_) | (refine CallE.lent (awake01) rfl ?_) | (refine CallF.pure (awake01) rfl ?_) | (refine CallF.lent (awake01) rfl ?_) | (refine CallE.own (awake01) ?_) | (refine CallH.pure (awake01) rfl ?_) | (refine CallH.lent (awake01) rfl ?_) | (refine CallH.own (awake01) ?_)
    all_goals apply hr
    all_goals simp [Tryd.f5]
  have h2' : ¬ (3000 : Int) < l.length := by omega
  have c1 := seal_con l (by omega)
  have c2 := seal01_con l (by omega)
  have c3 := crc_con b (by omega)
  have c4 := crc01_con b (by omega)
  have c5 := open_con b a (by omega)
  have c6 := open01_con b a (by omega)
  have c7 := frames_con b (by omega)
  have c8 := frames01_con b (by omega)
  obtain ⟨x, e, hk⟩ := sealT_shape l
  obtain ⟨x2, y2, e2, hk2⟩ := openT_shape b a
  rw [hk] at c1 c2
  rw [hk2] at c5 c6
  unfold framesT at c7 c8
  have hfl := frs_len b b.length 0
  have c9 := same_con (frs b b.length 0).1 (frs b b.length 0).1 (by omega) (by omega)
  rw [decide_eq_true rfl] at c9
  generalize frs b b.length 0 = fr at c7 c8 c9
  obtain ⟨m, t⟩ := fr
  simp only at c7 c8 c9
  generalize crc b = cr at c3 c4
  have u1 := unL_by8 x
  have v1 := strOf_by8 x
  have u2 := unL_by8 x2
  have v2 := strOf_by8 x2
  generalize by8 x = bx at c1 c2 u1
  generalize by8 x2 = bx2 at c5 c6 u2
  generalize lds m = lm at c7 c8 c9
  refine wBody Tryd.tab Tryd.mixed Tryd.func5 rfl rfl Tryd.ntmps5 (by simp) (by simp) fun Q hr hn => ?_
  repeat' first | (refine hK _ ?_; clear hK) | (refine hK _ _ ?_; clear hK) | (clear hK; refine hK _ ?_; clear hK) | (clear hK; clear hK; refine hK _ ?_; clear hK) | (clear hK; clear hK; clear hK; refine hK _ ?_; clear hK) | (clear hK; clear hK; clear hK; clear hK; refine hK _ ?_; clear hK) | (refine wSeq fun K hK => ?_) | ((first | refine wReg ?_ | refine wDrwQ rfl (by kernel_rfl) ?_ | refine wDrwI ?_ | refine wDrw (by kernel_rfl) ?_); simp only [List.map_cons, List.map_nil, strip]) | ((first | refine wIs fun K hK => ?_ | refine wOs fun K hK => ?_ | refine wQs fun K hK => ?_ | refine CallK_plain ?_ | refine CallQ_plain ?_ | refine CallR_plain ?_ | refine wCond ?_); simp [h1, h1', h2, h2', u1, v1, u2, v2]) | (refine wIn ?_; refine And.intro (by kernel_rfl) ?_; try simp only [thenA_n]) | (first | refine wBlock ?_ | refine wScope ?_) | ((first | refine wRet ?_ | refine wExit ?_ | refine wSkip ?_); try simp) | ((first | refine wLabel ?_ | refine wOn ?_ | refine wQn ?_); try simp only [thenA_n]) | (refine CallE.pure (c1) rfl ?_) | (refine CallE.lent (c1) rfl ?_) | (refine CallF.pure (c1) rfl ?_) | (refine CallF.lent (c1) rfl ?_) | (refine CallE.own (c1) ?_) | (refine CallH.pure (c1) rfl ?_) | (refine CallH.lent (c1) rfl ?_) | (refine CallH.own (c1) ?_) | (refine CallE.pure (c2) rfl ?_) | (refine CallE.lent (c2) rfl ?_) | (refine CallF.pure (c2) rfl ?_) | (refine CallF.lent (c2) rfl ?_) | (refine CallE.own (c2) ?_) | (refine CallH.pure (c2) rfl ?_) | (refine CallH.lent (c2) rfl ?_) | (refine CallH.own (c2) ?_) | (refine CallE.pure (c3) rfl ?_) | (refine CallE.lent (c3) rfl ?_) | (refine CallF.pure (c3) rfl ?_) | (refine CallF.lent (c3) rfl ?_) | (refine CallE.own (c3) ?_) | (refine CallH.pure (c3) rfl ?_) | (refine CallH.lent (c3) rfl ?_) | (refine CallH.own (c3) ?_) | (refine CallE.pure (c4) rfl ?_) | (refine CallE.lent (c4) rfl ?_) | (refine CallF.pure (c4) rfl ?_) | (refine CallF.lent (c4) rfl ?_) | (refine CallE.own (c4) ?_) | (refine CallH.pure (c4) rfl ?_) | (refine CallH.lent (c4) rfl ?_) | (refine CallH.own (c4) ?_) | (refine CallE.pure (c5) rfl ?_) | (refine CallE.lent (c5) rfl ?_) | (refine CallF.pure (c5) rfl ?_) | (refine CallF.lent (c5) rfl ?_) | (refine CallE.own (c5) ?_) | (refine CallH.pure (c5) rfl ?_) | (refine CallH.lent (c5) rfl ?_) | (refine CallH.own (c5) ?_) | (refine CallE.pure (c6) rfl ?_) | (refine CallE.lent (c6) rfl ?_) | (refine CallF.pure (c6) rfl ?_) | (refine CallF.lent (c6) rfl ?_) | (refine CallE.own (c6) ?_) | (refine CallH.pure (c6) rfl ?_) | (refine CallH.lent (c6) rfl ?_) | (refine CallH.own (c6) ?_) | (refine CallE.pure (c7) rfl ?_) | (refine CallE.lent (c7) rfl ?_) | (refine CallF.pure (c7) rfl ?_) | (refine CallF.lent (c7) rfl ?_) | (refine CallE.own (c7) ?_) | (refine CallH.pure (c7) rfl ?_) | (refine CallH.lent (c7) rfl ?_) | (refine CallH.own (c7) ?_) | (refine CallE.pure (c8) rfl ?_) | (refine CallE.lent (c8) rfl ?_) | (refine CallF.pure (c8) rfl ?_) | (refine CallF.lent (c8) rfl ?_) | (refine CallE.own (c8) ?_) | (refine CallH.pure (c8) rfl ?_) | (refine CallH.lent (c8) rfl ?_) | (refine CallH.own (c8) ?_) | (refine CallE.pure (c9) rfl ?_) | (refine CallE.lent (c9) rfl ?_) | (refine CallF.pure (c9) rfl ?_) | (refine CallF.lent (c9) rfl ?_) | (refine CallE.own (c9) ?_) | (refine CallH.pure (c9) rfl ?_) | (refine CallH.lent (c9) rfl ?_) | (refine CallH.own (c9) ?_) | (refine CallE.pure (awake01) rfl ?_) | (refine CallE.lent (awake01) rfl ?_) | (refine CallF.pure (awake01) rfl ?_) | (refine CallF.lent (awake01) rfl ?_) | (refine CallE.own (awake01) ?_) | (refine CallH.pure (awake01) rfl ?_) | (refine CallH.lent (awake01) rfl ?_) | (refine CallH.own (awake01) ?_)
  all_goals apply hr
  all_goals simp [Tryd.f5]
end Go.Proofs.YtfilinonmngefaaDoor
