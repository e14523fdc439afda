/- Changes done: what is wrong with one, and what it makes of a config. -/
import Derived.Test.YtiemabhnhgablaaDA
import Derived.Test.YtiemabhnhgablaaSP
namespace Go.Proofs.Ytiemabhnhgablaa
set_option linter.unusedSimpArgs false
set_option linter.unusedVariables false
open Go Go.Av
attribute [local simp] Try.T1 Try.T2 Try.T3 Try.T4 Try.T5 Try.T9 Try.T12 Try.T15 Try.T16 Try.T17 Try.T21 Try.T23 Try.T24 Try.T26 Try.T27 Try.T28 Try.T30 Try.T31 Try.T32 Try.T33 Try.T35 Try.T36 Try.T37 Try.T38 Try.T39 Try.T41 Try.T43 Try.T44 Try.T45 Try.T46 Try.T47 Try.T48 Try.T49 Try.T50 Try.T51 Try.T52 Try.T53 Try.T54 Try.T55 Try.T56 Try.T57 Try.T58 Try.T59 Try.T60 Try.T61 Try.T62 Try.T65 Try.T68 Try.T69 Try.T72 Try.T73
attribute [local irreducible] Go.Av.CallK Go.Av.CallE Go.Av.CallQ Go.Av.CallF Go.Av.CallR Go.Av.CallH Go.Av.Con

def pids (l : List Mb) : List Int := l.map Mb.i
@[simp] theorem pids_len (l : List Mb) : (pids l).length = l.length := by simp [pids]
def twL (l : List Int) : Bool := decide (¬ l.Nodup)
theorem nodup_snoc (l : List Int) (k : Nat) (h : k < l.length) : (l.take (k + 1)).Nodup ↔ (l.take k).Nodup ∧ l[k] ∉ l.take k := by
  rw [take_snoc _ k h, List.nodup_append]
  constructor
  · rintro ⟨h1, -, h3⟩
    exact ⟨h1, fun hm => h3 _ hm _ (by simp) rfl⟩
  · rintro ⟨h1, h2⟩
    exact ⟨h1, by simp, fun a ha b hb => by rw [List.mem_singleton.1 hb]; intro h4; exact h2 (h4 ▸ ha)⟩
theorem nodup_take {l : List Int} (k : Nat) (h : ¬ (l.take k).Nodup) : ¬ l.Nodup := fun hn => h (hn.sublist (List.take_sublist _ _))
theorem set_takeD {α : Type} (l : List α) (k : Nat) (x : α) (h : k < l.length) : (l.set k x).take (k + 1) = l.take k ++ [x] := by
  rw [List.take_succ_eq_append_getElem (by simpa using h), List.getElem_set_self]
  congr 1
  apply List.ext_getElem?
  intro i
  by_cases hi : i < k
  · rw [List.getElem?_take_of_lt hi, List.getElem?_take_of_lt hi, List.getElem?_set_ne (by omega)]
  · rw [List.getElem?_take_eq_none (by omega), List.getElem?_take_eq_none (by omega)]
theorem ints_take (l : List Int) (k : Nat) : (ints l).take k = ints (l.take k) := by simp [ints, List.map_take]
theorem twice_con (l : List Int) (hl : l.length ≤ 1000000) : ACon Try.prog 24 [.p (.sl 1 (ints l))] (.p (B (twL l))) := by
  refine wBody Try.tab Try.mixed Try.func24 rfl rfl Try.ntmps24 (by simp) (by simp) fun Q hr hn => ?_
  repeat' first | (refine hK _ ?_; clear hK) | (refine hK _ _ ?_; clear hK) | (clear hK; refine hK _ ?_; clear hK) | (clear hK; clear hK; refine hK _ ?_; clear hK) | (clear hK; clear hK; clear hK; refine hK _ ?_; clear hK) | (clear hK; clear hK; clear hK; clear hK; refine hK _ ?_; clear hK) | (refine wSeq fun K hK => ?_) | ((first | refine wReg ?_ | refine wDrwQ rfl (by kernel_rfl) ?_ | refine wDrwI ?_ | refine wDrw (by kernel_rfl) ?_); simp only [List.map_cons, List.map_nil, strip]) | ((first | refine wIs fun K hK => ?_ | refine wOs fun K hK => ?_ | refine wQs fun K hK => ?_ | refine CallK_plain ?_ | refine CallQ_plain ?_ | refine CallR_plain ?_ | refine wCond ?_); simp) | (refine wIn ?_; refine And.intro (by kernel_rfl) ?_; try simp only [thenA_n]) | (first | refine wBlock ?_ | refine wScope ?_) | ((first | refine wRet ?_ | refine wExit ?_ | refine wSkip ?_); try simp) | ((first | refine wLabel ?_ | refine wOn ?_ | refine wQn ?_); try simp only [thenA_n])
  refine wLoop (fun N st => ∃ k, k + N = l.length ∧ st.s 0 = .p (.sl 1 (ints l)) ∧ st.s 5 = .p (.sl 1 (ints l)) ∧ st.s 6 = .p (I l.length) ∧ st.s 7 = .p (I k) ∧ (l.take k).Nodup) l.length ⟨0, by simp⟩ fun K N st hL ⟨k, hk, h0, h5, h6, h7, hi⟩ => ?_
  by_cases hlt : k < l.length
  · have hw := wrapS k _ hlt (by omega)
    have hkl : k ≤ l.length := by omega
    have ht := ints_take l k
    have hc := contains_con (l.take k) l[k]
    have hn := nodup_snoc l k hlt
    by_cases hm : l[k] ∈ l.take k
    · rw [decide_eq_true hm] at hc
      have hf : twL l = true := decide_eq_true (nodup_take (k + 1) fun h => (hn.1 h).2 hm)
      rw [hf] at hr
      repeat' first | (refine CallE.pure (hc) rfl ?_) | (refine CallE.lent (hc) rfl ?_) | (refine CallF.pure (hc) rfl ?_) | (refine CallF.lent (hc) rfl ?_) | (refine CallE.own (hc) ?_) | (refine CallH.pure (hc) rfl ?_) | (refine CallH.lent (hc) rfl ?_) | (refine CallH.own (hc) ?_) | (refine hK _ ?_; clear hK) | (refine hK _ _ ?_; clear hK) | (clear hK; refine hK _ ?_; clear hK) | (clear hK; clear hK; refine hK _ ?_; clear hK) | (clear hK; clear hK; clear hK; refine hK _ ?_; clear hK) | (clear hK; clear hK; clear hK; clear hK; refine hK _ ?_; clear hK) | (refine wSeq fun K hK => ?_) | ((first | refine wReg ?_ | refine wDrwQ rfl (by kernel_rfl) ?_ | refine wDrwI ?_ | refine wDrw (by kernel_rfl) ?_); simp only [List.map_cons, List.map_nil, strip]) | ((first | refine wIs fun K hK => ?_ | refine wOs fun K hK => ?_ | refine wQs fun K hK => ?_ | refine CallK_plain ?_ | refine CallQ_plain ?_ | refine CallR_plain ?_ | refine wCond ?_); simp [h0, h5, h6, h7, hlt, hw, hkl, ht]) | (refine wIn ?_; refine And.intro (by kernel_rfl) ?_; try simp only [thenA_n]) | (first | refine wBlock ?_ | refine wScope ?_) | ((first | refine wRet ?_ | refine wExit ?_ | refine wSkip ?_); try simp) | ((first | refine wLabel ?_ | refine wOn ?_ | refine wQn ?_); try simp only [thenA_n])
      all_goals apply hr
      all_goals simp [Try.f24]
    · rw [decide_eq_false hm] at hc
      repeat' first | (refine CallE.pure (hc) rfl ?_) | (refine CallE.lent (hc) rfl ?_) | (refine CallF.pure (hc) rfl ?_) | (refine CallF.lent (hc) rfl ?_) | (refine CallE.own (hc) ?_) | (refine CallH.pure (hc) rfl ?_) | (refine CallH.lent (hc) rfl ?_) | (refine CallH.own (hc) ?_) | (refine hK _ ?_; clear hK) | (refine hK _ _ ?_; clear hK) | (clear hK; refine hK _ ?_; clear hK) | (clear hK; clear hK; refine hK _ ?_; clear hK) | (clear hK; clear hK; clear hK; refine hK _ ?_; clear hK) | (clear hK; clear hK; clear hK; clear hK; refine hK _ ?_; clear hK) | (refine wSeq fun K hK => ?_) | ((first | refine wReg ?_ | refine wDrwQ rfl (by kernel_rfl) ?_ | refine wDrwI ?_ | refine wDrw (by kernel_rfl) ?_); simp only [List.map_cons, List.map_nil, strip]) | ((first | refine wIs fun K hK => ?_ | refine wOs fun K hK => ?_ | refine wQs fun K hK => ?_ | refine CallK_plain ?_ | refine CallQ_plain ?_ | refine CallR_plain ?_ | refine wCond ?_); simp [h0, h5, h6, h7, hlt, hw, hkl, ht]) | (refine wIn ?_; refine And.intro (by kernel_rfl) ?_; try simp only [thenA_n]) | (first | refine wBlock ?_ | refine wScope ?_) | ((first | refine wRet ?_ | refine wExit ?_ | refine wSkip ?_); try simp) | ((first | refine wLabel ?_ | refine wOn ?_ | refine wQn ?_); try simp only [thenA_n])
      refine hL _ (N - 1) (by omega) ⟨k + 1, by omega, ?_, ?_, ?_, ?_, hn.2 ⟨hi, hm⟩⟩
      all_goals simp [h0, h5, h6, hw]
  · have hf : twL l = false := decide_eq_false (by rw [List.take_of_length_le (by omega)] at hi; simpa using hi)
    rw [hf] at hr
    repeat' first | (refine hK _ ?_; clear hK) | (refine hK _ _ ?_; clear hK) | (clear hK; refine hK _ ?_; clear hK) | (clear hK; clear hK; refine hK _ ?_; clear hK) | (clear hK; clear hK; clear hK; refine hK _ ?_; clear hK) | (clear hK; clear hK; clear hK; clear hK; refine hK _ ?_; clear hK) | (refine wSeq fun K hK => ?_) | ((first | refine wReg ?_ | refine wDrwQ rfl (by kernel_rfl) ?_ | refine wDrwI ?_ | refine wDrw (by kernel_rfl) ?_); simp only [List.map_cons, List.map_nil, strip]) | ((first | refine wIs fun K hK => ?_ | refine wOs fun K hK => ?_ | refine wQs fun K hK => ?_ | refine CallK_plain ?_ | refine CallQ_plain ?_ | refine CallR_plain ?_ | refine wCond ?_); simp [h0, h5, h6, h7, hlt]) | (refine wIn ?_; refine And.intro (by kernel_rfl) ?_; try simp only [thenA_n]) | (first | refine wBlock ?_ | refine wScope ?_) | ((first | refine wRet ?_ | refine wExit ?_ | refine wSkip ?_); try simp) | ((first | refine wLabel ?_ | refine wOn ?_ | refine wQn ?_); try simp only [thenA_n])
    apply hr
    simp [Try.f24]

def dropE (c : Cf) (put : List Int) : List Int → Int
  | [] => 0
  | id :: l => if id ∈ put then 1 else if (fm id c.ms).2 = true then dropE c put l else 6
def wrongD (d : Dl) : Bool := twL (pids d.put) || (twL d.drop || (decide (d.kind < 0) || decide (3 < d.kind)))
def fitsE (c : Cf) (d : Dl) : Int := if wrongD d = true then 1 else dropE c (pids d.put) d.drop
theorem fits_con (c : Cf) (d : Dl) (hc : c.ms.length ≤ 1000000) (hp : d.put.length ≤ 1000000) (hd : d.drop.length ≤ 1000000) : ACon Try.prog 16 [.p (.agg c.cells), .p (.agg d.cells)] (.p (I (fitsE c d))) := by
  obtain ⟨ep, n, kind, ms⟩ := c
  obtain ⟨dk, put, drop⟩ := d
  simp only [Cf.cells, Dl.cells] at *
  have t1 := twice_con (pids put) (by simpa using hp)
  have t2 := twice_con drop hd
  refine wBody Try.tab Try.mixed Try.func16 rfl rfl Try.ntmps16 (by simp) (by simp) fun Q hr hn => ?_
  repeat' first | (rw [if_pos ⟨by omega, by omega⟩]) | (refine hK _ ?_; clear hK) | (refine hK _ _ ?_; clear hK) | (clear hK; refine hK _ ?_; clear hK) | (clear hK; clear hK; refine hK _ ?_; clear hK) | (clear hK; clear hK; clear hK; refine hK _ ?_; clear hK) | (clear hK; clear hK; clear hK; clear hK; refine hK _ ?_; clear hK) | (refine wSeq fun K hK => ?_) | ((first | refine wReg ?_ | refine wDrwQ rfl (by kernel_rfl) ?_ | refine wDrwI ?_ | refine wDrw (by kernel_rfl) ?_); simp only [List.map_cons, List.map_nil, strip]) | ((first | refine wIs fun K hK => ?_ | refine wOs fun K hK => ?_ | refine wQs fun K hK => ?_ | refine CallK_plain ?_ | refine CallQ_plain ?_ | refine CallR_plain ?_ | refine wCond ?_); simp) | (refine wIn ?_; refine And.intro (by kernel_rfl) ?_; try simp only [thenA_n]) | (first | refine wBlock ?_ | refine wScope ?_) | ((first | refine wRet ?_ | refine wExit ?_ | refine wSkip ?_); try simp) | ((first | refine wLabel ?_ | refine wOn ?_ | refine wQn ?_); try simp only [thenA_n])
  refine wLoop (fun N st => ∃ k zs, k + N = put.length ∧ st.s 2 = .ptr 2 0 ∧ st.s 3 = .ptr 3 0 ∧ st.b 2 = some (.box 26 [.p (I ep), .p (I n), .p (I kind), .p (.sl 4 (mbs ms))]) ∧ st.b 3 = some (.box 30 [.p (I dk), .p (.sl 4 (mbs put)), .p (.sl 1 (ints drop))]) ∧
    st.s 5 = .row 15 ∧ st.s 17 = .p (.sl 4 (mbs put)) ∧ st.s 18 = .p (I put.length) ∧ st.s 19 = .p (I k) ∧ st.b 15 = some (.row 3 1 (ints zs)) ∧ zs.length = put.length ∧ zs.take k = (pids put).take k) put.length ⟨0, List.replicate put.length 0, by simp [ints]⟩ fun K N st hL ⟨k, zs, hk, h2, h3, b2, b3, h5, h17, h18, h19, b15, hz, hi⟩ => ?_
  by_cases hlt : k < put.length
  · have hw := wrapS k _ hlt (by omega)
    have hkz : k < zs.length := by omega
    have hset : (ints zs).set k [I put[k].i] = ints (zs.set k put[k].i) := by simp [ints, List.map_set]
    repeat' first | (refine hK _ ?_; clear hK) | (refine hK _ _ ?_; clear hK) | (clear hK; refine hK _ ?_; clear hK) | (clear hK; clear hK; refine hK _ ?_; clear hK) | (clear hK; clear hK; clear hK; refine hK _ ?_; clear hK) | (clear hK; clear hK; clear hK; clear hK; refine hK _ ?_; clear hK) | (refine wSeq fun K hK => ?_) | ((first | refine wReg ?_ | refine wDrwQ rfl (by kernel_rfl) ?_ | refine wDrwI ?_ | refine wDrw (by kernel_rfl) ?_); simp only [List.map_cons, List.map_nil, strip]) | ((first | refine wIs fun K hK => ?_ | refine wOs fun K hK => ?_ | refine wQs fun K hK => ?_ | refine CallK_plain ?_ | refine CallQ_plain ?_ | refine CallR_plain ?_ | refine wCond ?_); simp [h2, h3, b2, b3, h5, h17, h18, h19, b15, hlt, hw, hkz, hz]) | (refine wIn ?_; refine And.intro (by kernel_rfl) ?_; try simp only [thenA_n]) | (first | refine wBlock ?_ | refine wScope ?_) | ((first | refine wRet ?_ | refine wExit ?_ | refine wSkip ?_); try simp) | ((first | refine wLabel ?_ | refine wOn ?_ | refine wQn ?_); try simp only [thenA_n])
    refine hL _ (N - 1) (by omega) ⟨k + 1, zs.set k put[k].i, by omega, ?_⟩
    simp [h2, h3, b2, b3, h5, h17, h18, hw, b15, hset, hz]
    rw [set_takeD _ _ _ hkz, hi, take_snoc _ k (by simpa using hlt)]
    simp [pids]
  · have hzs : zs = pids put := by
      rw [List.take_of_length_le (by omega), List.take_of_length_le (by simp; omega)] at hi; exact hi
    subst hzs
    by_cases hwr : wrongD ⟨dk, put, drop⟩ = true
    · have hf : fitsE ⟨ep, n, kind, ms⟩ ⟨dk, put, drop⟩ = 1 := by unfold fitsE; rw [if_pos hwr]
      rw [hf] at hr
      simp only [wrongD, Bool.or_eq_true, decide_eq_true_eq] at hwr
      by_cases w1 : twL (pids put) = true
      · rw [w1] at t1
        repeat' first | (refine CallE.pure (t1) rfl ?_) | (refine CallE.lent (t1) rfl ?_) | (refine CallF.pure (t1) rfl ?_) | (refine CallF.lent (t1) rfl ?_) | (refine CallE.own (t1) ?_) | (refine CallH.pure (t1) rfl ?_) | (refine CallH.lent (t1) rfl ?_) | (refine CallH.own (t1) ?_) | (refine CallE.pure (t2) rfl ?_) | (refine CallE.lent (t2) rfl ?_) | (refine CallF.pure (t2) rfl ?_) | (refine CallF.lent (t2) rfl ?_) | (refine CallE.own (t2) ?_) | (refine CallH.pure (t2) rfl ?_) | (refine CallH.lent (t2) rfl ?_) | (refine CallH.own (t2) ?_) | (refine hK _ ?_; clear hK) | (refine hK _ _ ?_; clear hK) | (clear hK; refine hK _ ?_; clear hK) | (clear hK; clear hK; refine hK _ ?_; clear hK) | (clear hK; clear hK; clear hK; refine hK _ ?_; clear hK) | (clear hK; clear hK; clear hK; clear hK; refine hK _ ?_; clear hK) | (refine wSeq fun K hK => ?_) | ((first | refine wReg ?_ | refine wDrwQ rfl (by kernel_rfl) ?_ | refine wDrwI ?_ | refine wDrw (by kernel_rfl) ?_); simp only [List.map_cons, List.map_nil, strip]) | ((first | refine wIs fun K hK => ?_ | refine wOs fun K hK => ?_ | refine wQs fun K hK => ?_ | refine CallK_plain ?_ | refine CallQ_plain ?_ | refine CallR_plain ?_ | refine wCond ?_); simp [h2, h3, b2, b3, h5, h17, h18, h19, b15, hlt]) | (refine wIn ?_; refine And.intro (by kernel_rfl) ?_; try simp only [thenA_n]) | (first | refine wBlock ?_ | refine wScope ?_) | ((first | refine wRet ?_ | refine wExit ?_ | refine wSkip ?_); try simp) | ((first | refine wLabel ?_ | refine wOn ?_ | refine wQn ?_); try simp only [thenA_n])
        all_goals apply hr
        all_goals simp [Try.f16]
      · simp only [Bool.not_eq_true] at w1
        rw [w1] at t1
        by_cases w2 : twL drop = true
        · rw [w2] at t2
          repeat' first | (refine CallE.pure (t1) rfl ?_) | (refine CallE.lent (t1) rfl ?_) | (refine CallF.pure (t1) rfl ?_) | (refine CallF.lent (t1) rfl ?_) | (refine CallE.own (t1) ?_) | (refine CallH.pure (t1) rfl ?_) | (refine CallH.lent (t1) rfl ?_) | (refine CallH.own (t1) ?_) | (refine CallE.pure (t2) rfl ?_) | (refine CallE.lent (t2) rfl ?_) | (refine CallF.pure (t2) rfl ?_) | (refine CallF.lent (t2) rfl ?_) | (refine CallE.own (t2) ?_) | (refine CallH.pure (t2) rfl ?_) | (refine CallH.lent (t2) rfl ?_) | (refine CallH.own (t2) ?_) | (refine hK _ ?_; clear hK) | (refine hK _ _ ?_; clear hK) | (clear hK; refine hK _ ?_; clear hK) | (clear hK; clear hK; refine hK _ ?_; clear hK) | (clear hK; clear hK; clear hK; refine hK _ ?_; clear hK) | (clear hK; clear hK; clear hK; clear hK; refine hK _ ?_; clear hK) | (refine wSeq fun K hK => ?_) | ((first | refine wReg ?_ | refine wDrwQ rfl (by kernel_rfl) ?_ | refine wDrwI ?_ | refine wDrw (by kernel_rfl) ?_); simp only [List.map_cons, List.map_nil, strip]) | ((first | refine wIs fun K hK => ?_ | refine wOs fun K hK => ?_ | refine wQs fun K hK => ?_ | refine CallK_plain ?_ | refine CallQ_plain ?_ | refine CallR_plain ?_ | refine wCond ?_); simp [h2, h3, b2, b3, h5, h17, h18, h19, b15, hlt]) | (refine wIn ?_; refine And.intro (by kernel_rfl) ?_; try simp only [thenA_n]) | (first | refine wBlock ?_ | refine wScope ?_) | ((first | refine wRet ?_ | refine wExit ?_ | refine wSkip ?_); try simp) | ((first | refine wLabel ?_ | refine wOn ?_ | refine wQn ?_); try simp only [thenA_n])
          all_goals apply hr
          all_goals simp [Try.f16]
        · simp only [Bool.not_eq_true] at w2
          rw [w2] at t2
          by_cases w3 : dk < 0
          · repeat' first | (refine CallE.pure (t1) rfl ?_) | (refine CallE.lent (t1) rfl ?_) | (refine CallF.pure (t1) rfl ?_) | (refine CallF.lent (t1) rfl ?_) | (refine CallE.own (t1) ?_) | (refine CallH.pure (t1) rfl ?_) | (refine CallH.lent (t1) rfl ?_) | (refine CallH.own (t1) ?_) | (refine CallE.pure (t2) rfl ?_) | (refine CallE.lent (t2) rfl ?_) | (refine CallF.pure (t2) rfl ?_) | (refine CallF.lent (t2) rfl ?_) | (refine CallE.own (t2) ?_) | (refine CallH.pure (t2) rfl ?_) | (refine CallH.lent (t2) rfl ?_) | (refine CallH.own (t2) ?_) | (refine hK _ ?_; clear hK) | (refine hK _ _ ?_; clear hK) | (clear hK; refine hK _ ?_; clear hK) | (clear hK; clear hK; refine hK _ ?_; clear hK) | (clear hK; clear hK; clear hK; refine hK _ ?_; clear hK) | (clear hK; clear hK; clear hK; clear hK; refine hK _ ?_; clear hK) | (refine wSeq fun K hK => ?_) | ((first | refine wReg ?_ | refine wDrwQ rfl (by kernel_rfl) ?_ | refine wDrwI ?_ | refine wDrw (by kernel_rfl) ?_); simp only [List.map_cons, List.map_nil, strip]) | ((first | refine wIs fun K hK => ?_ | refine wOs fun K hK => ?_ | refine wQs fun K hK => ?_ | refine CallK_plain ?_ | refine CallQ_plain ?_ | refine CallR_plain ?_ | refine wCond ?_); simp [h2, h3, b2, b3, h5, h17, h18, h19, b15, hlt, w3]) | (refine wIn ?_; refine And.intro (by kernel_rfl) ?_; try simp only [thenA_n]) | (first | refine wBlock ?_ | refine wScope ?_) | ((first | refine wRet ?_ | refine wExit ?_ | refine wSkip ?_); try simp) | ((first | refine wLabel ?_ | refine wOn ?_ | refine wQn ?_); try simp only [thenA_n])
            all_goals apply hr
            all_goals simp [Try.f16]
          · have w4 : 3 < dk := by
              rcases hwr with h | h | h | h
              · rw [w1] at h; cases h
              · rw [w2] at h; cases h
              · exact (w3 h).elim
              · exact h
            repeat' first | (refine CallE.pure (t1) rfl ?_) | (refine CallE.lent (t1) rfl ?_) | (refine CallF.pure (t1) rfl ?_) | (refine CallF.lent (t1) rfl ?_) | (refine CallE.own (t1) ?_) | (refine CallH.pure (t1) rfl ?_) | (refine CallH.lent (t1) rfl ?_) | (refine CallH.own (t1) ?_) | (refine CallE.pure (t2) rfl ?_) | (refine CallE.lent (t2) rfl ?_) | (refine CallF.pure (t2) rfl ?_) | (refine CallF.lent (t2) rfl ?_) | (refine CallE.own (t2) ?_) | (refine CallH.pure (t2) rfl ?_) | (refine CallH.lent (t2) rfl ?_) | (refine CallH.own (t2) ?_) | (refine hK _ ?_; clear hK) | (refine hK _ _ ?_; clear hK) | (clear hK; refine hK _ ?_; clear hK) | (clear hK; clear hK; refine hK _ ?_; clear hK) | (clear hK; clear hK; clear hK; refine hK _ ?_; clear hK) | (clear hK; clear hK; clear hK; clear hK; refine hK _ ?_; clear hK) | (refine wSeq fun K hK => ?_) | ((first | refine wReg ?_ | refine wDrwQ rfl (by kernel_rfl) ?_ | refine wDrwI ?_ | refine wDrw (by kernel_rfl) ?_); simp only [List.map_cons, List.map_nil, strip]) | ((first | refine wIs fun K hK => ?_ | refine wOs fun K hK => ?_ | refine wQs fun K hK => ?_ | refine CallK_plain ?_ | refine CallQ_plain ?_ | refine CallR_plain ?_ | refine wCond ?_); simp [h2, h3, b2, b3, h5, h17, h18, h19, b15, hlt, w3, w4]) | (refine wIn ?_; refine And.intro (by kernel_rfl) ?_; try simp only [thenA_n]) | (first | refine wBlock ?_ | refine wScope ?_) | ((first | refine wRet ?_ | refine wExit ?_ | refine wSkip ?_); try simp) | ((first | refine wLabel ?_ | refine wOn ?_ | refine wQn ?_); try simp only [thenA_n])
            all_goals apply hr
            all_goals simp [Try.f16]
    · have hf : fitsE ⟨ep, n, kind, ms⟩ ⟨dk, put, drop⟩ = dropE ⟨ep, n, kind, ms⟩ (pids put) drop := by unfold fitsE; rw [if_neg hwr]
      rw [hf] at hr
      simp only [wrongD, Bool.or_eq_true, decide_eq_true_eq, not_or, Bool.not_eq_true] at hwr
      obtain ⟨w1, w2, w3, w4⟩ := hwr
      rw [w1] at t1
      rw [w2] at t2
      repeat' first | (refine CallE.pure (t1) rfl ?_) | (refine CallE.lent (t1) rfl ?_) | (refine CallF.pure (t1) rfl ?_) | (refine CallF.lent (t1) rfl ?_) | (refine CallE.own (t1) ?_) | (refine CallH.pure (t1) rfl ?_) | (refine CallH.lent (t1) rfl ?_) | (refine CallH.own (t1) ?_) | (refine CallE.pure (t2) rfl ?_) | (refine CallE.lent (t2) rfl ?_) | (refine CallF.pure (t2) rfl ?_) | (refine CallF.lent (t2) rfl ?_) | (refine CallE.own (t2) ?_) | (refine CallH.pure (t2) rfl ?_) | (refine CallH.lent (t2) rfl ?_) | (refine CallH.own (t2) ?_) | (refine hK _ ?_; clear hK) | (refine hK _ _ ?_; clear hK) | (clear hK; refine hK _ ?_; clear hK) | (clear hK; clear hK; refine hK _ ?_; clear hK) | (clear hK; clear hK; clear hK; refine hK _ ?_; clear hK) | (clear hK; clear hK; clear hK; clear hK; refine hK _ ?_; clear hK) | (refine wSeq fun K hK => ?_) | ((first | refine wReg ?_ | refine wDrwQ rfl (by kernel_rfl) ?_ | refine wDrwI ?_ | refine wDrw (by kernel_rfl) ?_); simp only [List.map_cons, List.map_nil, strip]) | ((first | refine wIs fun K hK => ?_ | refine wOs fun K hK => ?_ | refine wQs fun K hK => ?_ | refine CallK_plain ?_ | refine CallQ_plain ?_ | refine CallR_plain ?_ | refine wCond ?_); simp [h2, h3, b2, b3, h5, h17, h18, h19, b15, hlt, w3, w4]) | (refine wIn ?_; refine And.intro (by kernel_rfl) ?_; try simp only [thenA_n]) | (first | refine wBlock ?_ | refine wScope ?_) | ((first | refine wRet ?_ | refine wExit ?_ | refine wSkip ?_); try simp) | ((first | refine wLabel ?_ | refine wOn ?_ | refine wQn ?_); try simp only [thenA_n])
      refine wLoop (fun N st => ∃ k, k + N = drop.length ∧ st.s 2 = .ptr 2 0 ∧ st.s 3 = .ptr 3 0 ∧ st.b 2 = some (.box 26 [.p (I ep), .p (I n), .p (I kind), .p (.sl 4 (mbs ms))]) ∧ st.b 3 = some (.box 30 [.p (I dk), .p (.sl 4 (mbs put)), .p (.sl 1 (ints drop))]) ∧
        st.s 5 = .row 15 ∧ st.s 48 = .p (.sl 1 (ints drop)) ∧ st.s 49 = .p (I drop.length) ∧ st.s 50 = .p (I k) ∧ st.b 15 = some (.row 3 1 (ints (pids put))) ∧ dropE ⟨ep, n, kind, ms⟩ (pids put) (drop.drop k) = dropE ⟨ep, n, kind, ms⟩ (pids put) drop) drop.length ⟨0, by omega, ?_⟩ fun K N st hL ⟨k, hk, h2, h3, b2, b3, h5, h48, h49, h50, b15, hi⟩ => ?_
      · simp [h2, h3, b2, b3, h5, b15]
      by_cases hlt : k < drop.length
      · have hw := wrapS k _ hlt (by omega)
        have he := ints_get hlt
        rw [List.drop_eq_getElem_cons hlt, dropE] at hi
        have cc := contains_con (pids put) drop[k]
        have cf := find_con ⟨ep, n, kind, ms⟩ drop[k] (by simpa using hc)
        simp only [Cf.cells] at cf hi
        by_cases o1 : drop[k] ∈ pids put
        · rw [if_pos o1] at hi
          rw [decide_eq_true o1] at cc
          repeat' first | (refine CallE.pure (cc) rfl ?_) | (refine CallE.lent (cc) rfl ?_) | (refine CallF.pure (cc) rfl ?_) | (refine CallF.lent (cc) rfl ?_) | (refine CallE.own (cc) ?_) | (refine CallH.pure (cc) rfl ?_) | (refine CallH.lent (cc) rfl ?_) | (refine CallH.own (cc) ?_) | (refine CallE.pure (cf) rfl ?_) | (refine CallE.lent (cf) rfl ?_) | (refine CallF.pure (cf) rfl ?_) | (refine CallF.lent (cf) rfl ?_) | (refine CallE.own (cf) ?_) | (refine CallH.pure (cf) rfl ?_) | (refine CallH.lent (cf) rfl ?_) | (refine CallH.own (cf) ?_) | (refine hK _ ?_; clear hK) | (refine hK _ _ ?_; clear hK) | (clear hK; refine hK _ ?_; clear hK) | (clear hK; clear hK; refine hK _ ?_; clear hK) | (clear hK; clear hK; clear hK; refine hK _ ?_; clear hK) | (clear hK; clear hK; clear hK; clear hK; refine hK _ ?_; clear hK) | (refine wSeq fun K hK => ?_) | ((first | refine wReg ?_ | refine wDrwQ rfl (by kernel_rfl) ?_ | refine wDrwI ?_ | refine wDrw (by kernel_rfl) ?_); simp only [List.map_cons, List.map_nil, strip]) | ((first | refine wIs fun K hK => ?_ | refine wOs fun K hK => ?_ | refine wQs fun K hK => ?_ | refine CallK_plain ?_ | refine CallQ_plain ?_ | refine CallR_plain ?_ | refine wCond ?_); simp [h2, h3, b2, b3, h5, h48, h49, h50, b15, hlt, hw]) | (refine wIn ?_; refine And.intro (by kernel_rfl) ?_; try simp only [thenA_n]) | (first | refine wBlock ?_ | refine wScope ?_) | ((first | refine wRet ?_ | refine wExit ?_ | refine wSkip ?_); try simp) | ((first | refine wLabel ?_ | refine wOn ?_ | refine wQn ?_); try simp only [thenA_n])
          all_goals apply hr
          all_goals simp [Try.f16, ← hi]
        · rw [if_neg o1] at hi
          rw [decide_eq_false o1] at cc
          generalize fm drop[k] ms = f at cf hi
          obtain ⟨fm1, fm2⟩ := f
          cases fm2
          · rw [if_neg (by simp)] at hi
            repeat' first | (refine CallE.pure (cc) rfl ?_) | (refine CallE.lent (cc) rfl ?_) | (refine CallF.pure (cc) rfl ?_) | (refine CallF.lent (cc) rfl ?_) | (refine CallE.own (cc) ?_) | (refine CallH.pure (cc) rfl ?_) | (refine CallH.lent (cc) rfl ?_) | (refine CallH.own (cc) ?_) | (refine CallE.pure (cf) rfl ?_) | (refine CallE.lent (cf) rfl ?_) | (refine CallF.pure (cf) rfl ?_) | (refine CallF.lent (cf) rfl ?_) | (refine CallE.own (cf) ?_) | (refine CallH.pure (cf) rfl ?_) | (refine CallH.lent (cf) rfl ?_) | (refine CallH.own (cf) ?_) | (refine hK _ ?_; clear hK) | (refine hK _ _ ?_; clear hK) | (clear hK; refine hK _ ?_; clear hK) | (clear hK; clear hK; refine hK _ ?_; clear hK) | (clear hK; clear hK; clear hK; refine hK _ ?_; clear hK) | (clear hK; clear hK; clear hK; clear hK; refine hK _ ?_; clear hK) | (refine wSeq fun K hK => ?_) | ((first | refine wReg ?_ | refine wDrwQ rfl (by kernel_rfl) ?_ | refine wDrwI ?_ | refine wDrw (by kernel_rfl) ?_); simp only [List.map_cons, List.map_nil, strip]) | ((first | refine wIs fun K hK => ?_ | refine wOs fun K hK => ?_ | refine wQs fun K hK => ?_ | refine CallK_plain ?_ | refine CallQ_plain ?_ | refine CallR_plain ?_ | refine wCond ?_); simp [h2, h3, b2, b3, h5, h48, h49, h50, b15, hlt, hw]) | (refine wIn ?_; refine And.intro (by kernel_rfl) ?_; try simp only [thenA_n]) | (first | refine wBlock ?_ | refine wScope ?_) | ((first | refine wRet ?_ | refine wExit ?_ | refine wSkip ?_); try simp) | ((first | refine wLabel ?_ | refine wOn ?_ | refine wQn ?_); try simp only [thenA_n])
            all_goals apply hr
            all_goals simp [Try.f16, ← hi]
          · rw [if_pos rfl] at hi
            repeat' first | (refine CallE.pure (cc) rfl ?_) | (refine CallE.lent (cc) rfl ?_) | (refine CallF.pure (cc) rfl ?_) | (refine CallF.lent (cc) rfl ?_) | (refine CallE.own (cc) ?_) | (refine CallH.pure (cc) rfl ?_) | (refine CallH.lent (cc) rfl ?_) | (refine CallH.own (cc) ?_) | (refine CallE.pure (cf) rfl ?_) | (refine CallE.lent (cf) rfl ?_) | (refine CallF.pure (cf) rfl ?_) | (refine CallF.lent (cf) rfl ?_) | (refine CallE.own (cf) ?_) | (refine CallH.pure (cf) rfl ?_) | (refine CallH.lent (cf) rfl ?_) | (refine CallH.own (cf) ?_) | (refine hK _ ?_; clear hK) | (refine hK _ _ ?_; clear hK) | (clear hK; refine hK _ ?_; clear hK) | (clear hK; clear hK; refine hK _ ?_; clear hK) | (clear hK; clear hK; clear hK; refine hK _ ?_; clear hK) | (clear hK; clear hK; clear hK; clear hK; refine hK _ ?_; clear hK) | (refine wSeq fun K hK => ?_) | ((first | refine wReg ?_ | refine wDrwQ rfl (by kernel_rfl) ?_ | refine wDrwI ?_ | refine wDrw (by kernel_rfl) ?_); simp only [List.map_cons, List.map_nil, strip]) | ((first | refine wIs fun K hK => ?_ | refine wOs fun K hK => ?_ | refine wQs fun K hK => ?_ | refine CallK_plain ?_ | refine CallQ_plain ?_ | refine CallR_plain ?_ | refine wCond ?_); simp [h2, h3, b2, b3, h5, h48, h49, h50, b15, hlt, hw]) | (refine wIn ?_; refine And.intro (by kernel_rfl) ?_; try simp only [thenA_n]) | (first | refine wBlock ?_ | refine wScope ?_) | ((first | refine wRet ?_ | refine wExit ?_ | refine wSkip ?_); try simp) | ((first | refine wLabel ?_ | refine wOn ?_ | refine wQn ?_); try simp only [thenA_n])
            refine hL _ (N - 1) (by omega) ⟨k + 1, by omega, ?_⟩
            simp [h2, h3, b2, b3, h5, h48, h49, hw, b15, hi]
      · rw [List.drop_of_length_le (by omega), dropE] at hi
        repeat' first | (refine hK _ ?_; clear hK) | (refine hK _ _ ?_; clear hK) | (clear hK; refine hK _ ?_; clear hK) | (clear hK; clear hK; refine hK _ ?_; clear hK) | (clear hK; clear hK; clear hK; refine hK _ ?_; clear hK) | (clear hK; clear hK; clear hK; clear hK; refine hK _ ?_; clear hK) | (refine wSeq fun K hK => ?_) | ((first | refine wReg ?_ | refine wDrwQ rfl (by kernel_rfl) ?_ | refine wDrwI ?_ | refine wDrw (by kernel_rfl) ?_); simp only [List.map_cons, List.map_nil, strip]) | ((first | refine wIs fun K hK => ?_ | refine wOs fun K hK => ?_ | refine wQs fun K hK => ?_ | refine CallK_plain ?_ | refine CallQ_plain ?_ | refine CallR_plain ?_ | refine wCond ?_); simp [h2, h3, b2, b3, h5, h48, h49, h50, b15, hlt]) | (refine wIn ?_; refine And.intro (by kernel_rfl) ?_; try simp only [thenA_n]) | (first | refine wBlock ?_ | refine wScope ?_) | ((first | refine wRet ?_ | refine wExit ?_ | refine wSkip ?_); try simp) | ((first | refine wLabel ?_ | refine wOn ?_ | refine wQn ?_); try simp only [thenA_n])
        all_goals apply hr
        all_goals simp [Try.f16, ← hi]

theorem flatL_mbs (l : List Mb) : flatL (mbs l) = true := by
  unfold flatL mbs
  rw [List.all_eq_true]
  intro e he
  obtain ⟨m, -, rfl⟩ := List.mem_map.1 he
  simp [Mb.cells]
def keepM (c : Cf) (d : Dl) : List Mb := c.ms.filter fun m => !(decide (m.i ∈ d.drop)) && !(hasI d.put m.i)
def chg (c : Cf) (d : Dl) : Cf := ⟨0, 0, if d.kind = 0 then c.kind else d.kind, srtM (keepM c d ++ d.put)⟩
theorem keepM_snoc (dr : List Int) (put ms : List Mb) (ep n kind dk : Int) (k : Nat) (h : k < ms.length) : keepM ⟨ep, n, kind, ms.take (k + 1)⟩ ⟨dk, put, dr⟩ = if ms[k].i ∈ dr then keepM ⟨ep, n, kind, ms.take k⟩ ⟨dk, put, dr⟩ else if hasI put ms[k].i = true then keepM ⟨ep, n, kind, ms.take k⟩ ⟨dk, put, dr⟩ else keepM ⟨ep, n, kind, ms.take k⟩ ⟨dk, put, dr⟩ ++ [ms[k]] := by
  unfold keepM
  simp only
  rw [take_snoc _ k h, List.filter_append]
  by_cases o1 : ms[k].i ∈ dr
  · rw [if_pos o1]; simp [List.filter, o1]
  · rw [if_neg o1]
    by_cases o2 : hasI put ms[k].i = true
    · rw [if_pos o2]; simp [List.filter, o1, o2]
    · rw [if_neg o2]; simp only [Bool.not_eq_true] at o2; simp [List.filter, o1, o2]
theorem keepM_len (c : Cf) (d : Dl) : (keepM c d).length ≤ c.ms.length := by simp [keepM, List.length_filter_le]
theorem hasI_drop (put : List Mb) (id : Int) (k : Nat) (h : k < put.length) : hasI (put.drop k) id = (decide (put[k].i = id) || hasI (put.drop (k + 1)) id) := by
  rw [List.drop_eq_getElem_cons h]; rfl
set_option maxHeartbeats 1000000 in
theorem changed_con (c : Cf) (d : Dl) (hl : (keepM c d ++ d.put).length ≤ 20) (hc : c.ms.length ≤ 1000000) (hd : d.drop.length ≤ 1000000) : ACon Try.prog 17 [.p (.agg c.cells), .p (.agg d.cells)] (.p (.agg (chg c d).cells)) := by
  have hs := sort_con (keepM c d ++ d.put) hl
  obtain ⟨ep, n, kind, ms⟩ := c
  obtain ⟨dk, put, drop⟩ := d
  have hp : put.length ≤ 20 := by simp at hl; omega
  simp only [Cf.cells, Dl.cells, chg] at *
  refine wBody Try.tab Try.mixed Try.func17 rfl rfl Try.ntmps17 (by simp) (by simp) fun Q hr hn => ?_
  repeat' first | (refine hK _ ?_; clear hK) | (refine hK _ _ ?_; clear hK) | (clear hK; refine hK _ ?_; clear hK) | (clear hK; clear hK; refine hK _ ?_; clear hK) | (clear hK; clear hK; clear hK; refine hK _ ?_; clear hK) | (clear hK; clear hK; clear hK; clear hK; refine hK _ ?_; clear hK) | (refine wSeq fun K hK => ?_) | ((first | refine wReg ?_ | refine wDrwQ rfl (by kernel_rfl) ?_ | refine wDrwI ?_ | refine wDrw (by kernel_rfl) ?_); simp only [List.map_cons, List.map_nil, strip]) | ((first | refine wIs fun K hK => ?_ | refine wOs fun K hK => ?_ | refine wQs fun K hK => ?_ | refine CallK_plain ?_ | refine CallQ_plain ?_ | refine CallR_plain ?_ | refine wCond ?_); simp) | (refine wIn ?_; refine And.intro (by kernel_rfl) ?_; try simp only [thenA_n]) | (first | refine wBlock ?_ | refine wScope ?_) | ((first | refine wRet ?_ | refine wExit ?_ | refine wSkip ?_); try simp) | ((first | refine wLabel ?_ | refine wOn ?_ | refine wQn ?_); try simp only [thenA_n])
  refine wLoopG [.row 5 41 4] (fun N st => ∃ k, k + N = ms.length ∧ st.s 2 = .ptr 2 0 ∧ st.s 3 = .ptr 3 0 ∧ st.s 4 = .ptr 4 0 ∧ st.b 2 = some (.box 26 [.p (I ep), .p (I n), .p (I kind), .p (.sl 4 (mbs ms))]) ∧ st.b 3 = some (.box 30 [.p (I dk), .p (.sl 4 (mbs put)), .p (.sl 1 (ints drop))]) ∧
    st.s 5 = .row 5 ∧ st.s 12 = .p (.sl 4 (mbs ms)) ∧ st.s 13 = .p (I ms.length) ∧ st.s 14 = .p (I k) ∧ (∃ z, st.b 4 = some (.box 26 z) ∧ z.length = 4) ∧ st.b 5 = some (.row 41 4 (mbs (keepM ⟨ep, n, kind, ms.take k⟩ ⟨dk, put, drop⟩)))) ms.length ⟨0, by simp [keepM, mbs]⟩ fun K N st hL ⟨k, hk, h2, h3, h4, b2, b3, h5, h12, h13, h14, ⟨z, b4, hz⟩, b5⟩ => ?_
  by_cases hlt : k < ms.length
  · have hw := wrapS k _ hlt (by omega)
    have he := mbs_get hlt
    have hsn := keepM_snoc drop put ms ep n kind dk k hlt
    have hln : (keepM ⟨ep, n, kind, ms.take k⟩ ⟨dk, put, drop⟩).length ≤ k := Nat.le_trans (keepM_len _ _) (by simp; omega)
    have cc := contains_con drop ms[k].i
    by_cases o1 : ms[k].i ∈ drop
    · rw [if_pos o1] at hsn
      rw [decide_eq_true o1] at cc
      repeat' first | (refine CallE.pure (cc) rfl ?_) | (refine CallE.lent (cc) rfl ?_) | (refine CallF.pure (cc) rfl ?_) | (refine CallF.lent (cc) rfl ?_) | (refine CallE.own (cc) ?_) | (refine CallH.pure (cc) rfl ?_) | (refine CallH.lent (cc) rfl ?_) | (refine CallH.own (cc) ?_) | (refine hK _ ?_; clear hK) | (refine hK _ _ ?_; clear hK) | (clear hK; refine hK _ ?_; clear hK) | (clear hK; clear hK; refine hK _ ?_; clear hK) | (clear hK; clear hK; clear hK; refine hK _ ?_; clear hK) | (clear hK; clear hK; clear hK; clear hK; refine hK _ ?_; clear hK) | (refine wSeq fun K hK => ?_) | ((first | refine wReg ?_ | refine wDrwQ rfl (by kernel_rfl) ?_ | refine wDrwI ?_ | refine wDrw (by kernel_rfl) ?_); simp only [List.map_cons, List.map_nil, strip]) | ((first | refine wIs fun K hK => ?_ | refine wOs fun K hK => ?_ | refine wQs fun K hK => ?_ | refine CallK_plain ?_ | refine CallQ_plain ?_ | refine CallR_plain ?_ | refine wCond ?_); simp [h2, h3, h4, b2, b3, h5, h12, h13, h14, b4, b5, hlt, hw]) | (refine wIn ?_; refine And.intro (by kernel_rfl) ?_; try simp only [thenA_n]) | (first | refine wBlock ?_ | refine wScope ?_) | ((first | refine wRet ?_ | refine wExit ?_ | refine wSkip ?_); try simp) | ((first | refine wLabel ?_ | refine wOn ?_ | refine wQn ?_); try simp only [thenA_n])
      refine hL _ (N - 1) (by omega) ⟨k + 1, by omega, ?_⟩
      simp [h2, h3, h4, b2, b3, h5, h12, h13, hw, b4, b5, hsn, hz]
    · rw [if_neg o1] at hsn
      rw [decide_eq_false o1] at cc
      repeat' first | (refine CallE.pure (cc) rfl ?_) | (refine CallE.lent (cc) rfl ?_) | (refine CallF.pure (cc) rfl ?_) | (refine CallF.lent (cc) rfl ?_) | (refine CallE.own (cc) ?_) | (refine CallH.pure (cc) rfl ?_) | (refine CallH.lent (cc) rfl ?_) | (refine CallH.own (cc) ?_) | (refine hK _ ?_; clear hK) | (refine hK _ _ ?_; clear hK) | (clear hK; refine hK _ ?_; clear hK) | (clear hK; clear hK; refine hK _ ?_; clear hK) | (clear hK; clear hK; clear hK; refine hK _ ?_; clear hK) | (clear hK; clear hK; clear hK; clear hK; refine hK _ ?_; clear hK) | (refine wSeq fun K hK => ?_) | ((first | refine wReg ?_ | refine wDrwQ rfl (by kernel_rfl) ?_ | refine wDrwI ?_ | refine wDrw (by kernel_rfl) ?_); simp only [List.map_cons, List.map_nil, strip]) | ((first | refine wIs fun K hK => ?_ | refine wOs fun K hK => ?_ | refine wQs fun K hK => ?_ | refine CallK_plain ?_ | refine CallQ_plain ?_ | refine CallR_plain ?_ | refine wCond ?_); simp [h2, h3, h4, b2, b3, h5, h12, h13, h14, b4, b5, hlt, hw]) | (refine wIn ?_; refine And.intro (by kernel_rfl) ?_; try simp only [thenA_n]) | (first | refine wBlock ?_ | refine wScope ?_) | ((first | refine wRet ?_ | refine wExit ?_ | refine wSkip ?_); try simp) | ((first | refine wLabel ?_ | refine wOn ?_ | refine wQn ?_); try simp only [thenA_n])
      refine wLoop (fun N st => ∃ j, j + N = put.length ∧ st.s 2 = .ptr 2 0 ∧ st.s 3 = .ptr 3 0 ∧ st.s 4 = .ptr 4 0 ∧ st.s 7 = .ptr 7 0 ∧ st.b 2 = some (.box 26 [.p (I ep), .p (I n), .p (I kind), .p (.sl 4 (mbs ms))]) ∧ st.b 3 = some (.box 30 [.p (I dk), .p (.sl 4 (mbs put)), .p (.sl 1 (ints drop))]) ∧
        st.s 5 = .row 5 ∧ st.s 12 = .p (.sl 4 (mbs ms)) ∧ st.s 13 = .p (I ms.length) ∧ st.s 14 = .p (I k) ∧ (∃ z, st.b 4 = some (.box 26 z) ∧ z.length = 4) ∧ st.b 5 = some (.row 41 4 (mbs (keepM ⟨ep, n, kind, ms.take k⟩ ⟨dk, put, drop⟩))) ∧
        st.b 7 = some (.box 41 [.p (I ms[k].i), .p (I ms[k].r), .p (I ms[k].w), .p (I ms[k].g)]) ∧ st.s 24 = .p (.sl 4 (mbs put)) ∧ st.s 25 = .p (I put.length) ∧ st.s 26 = .p (I j) ∧ hasI (put.drop j) ms[k].i = hasI put ms[k].i) put.length ⟨0, by omega, ?_⟩ fun K' N' st hL2 ⟨j, hj, h2, h3, h4, h7, b2, b3, h5, h12, h13, h14, ⟨z, b4, hz⟩, b5, b7, h24, h25, h26, hi⟩ => ?_
      · simp [h2, h3, h4, b2, b3, h5, h12, h13, h14, b4, b5, hz]
      by_cases hlj : j < put.length
      · have hwj := wrapS j _ hlj (by omega)
        have hej := mbs_get hlj
        rw [hasI_drop _ _ _ hlj] at hi
        by_cases o2 : put[j].i = ms[k].i
        · rw [decide_eq_true o2, Bool.true_or] at hi
          rw [← hi, if_pos rfl] at hsn
          replace o2 : (put[j].i = ms[k].i) = True := eq_true o2
          repeat' first | (refine hK _ ?_; clear hK) | (refine hK _ _ ?_; clear hK) | (clear hK; refine hK _ ?_; clear hK) | (clear hK; clear hK; refine hK _ ?_; clear hK) | (clear hK; clear hK; clear hK; refine hK _ ?_; clear hK) | (clear hK; clear hK; clear hK; clear hK; refine hK _ ?_; clear hK) | (refine wSeq fun K hK => ?_) | ((first | refine wReg ?_ | refine wDrwQ rfl (by kernel_rfl) ?_ | refine wDrwI ?_ | refine wDrw (by kernel_rfl) ?_); simp only [List.map_cons, List.map_nil, strip]) | ((first | refine wIs fun K hK => ?_ | refine wOs fun K hK => ?_ | refine wQs fun K hK => ?_ | refine CallK_plain ?_ | refine CallQ_plain ?_ | refine CallR_plain ?_ | refine wCond ?_); simp [h2, h3, h4, h7, b2, b3, h5, h12, h13, h14, b4, b5, b7, h24, h25, h26, hlt, hw, hlj, hwj, o2]) | (refine wIn ?_; refine And.intro (by kernel_rfl) ?_; try simp only [thenA_n]) | (first | refine wBlock ?_ | refine wScope ?_) | ((first | refine wRet ?_ | refine wExit ?_ | refine wSkip ?_); try simp) | ((first | refine wLabel ?_ | refine wOn ?_ | refine wQn ?_); try simp only [thenA_n])
          refine hL _ (N - 1) (by omega) ⟨k + 1, by omega, ?_⟩
          simp [h2, h3, h4, b2, b3, h5, h12, h13, hw, b4, b5, hsn, hz]
        · rw [decide_eq_false o2, Bool.false_or] at hi
          repeat' first | (refine hK _ ?_; clear hK) | (refine hK _ _ ?_; clear hK) | (clear hK; refine hK _ ?_; clear hK) | (clear hK; clear hK; refine hK _ ?_; clear hK) | (clear hK; clear hK; clear hK; refine hK _ ?_; clear hK) | (clear hK; clear hK; clear hK; clear hK; refine hK _ ?_; clear hK) | (refine wSeq fun K hK => ?_) | ((first | refine wReg ?_ | refine wDrwQ rfl (by kernel_rfl) ?_ | refine wDrwI ?_ | refine wDrw (by kernel_rfl) ?_); simp only [List.map_cons, List.map_nil, strip]) | ((first | refine wIs fun K hK => ?_ | refine wOs fun K hK => ?_ | refine wQs fun K hK => ?_ | refine CallK_plain ?_ | refine CallQ_plain ?_ | refine CallR_plain ?_ | refine wCond ?_); simp [h2, h3, h4, h7, b2, b3, h5, h12, h13, h14, b4, b5, b7, h24, h25, h26, hlt, hlj, hwj, o2]) | (refine wIn ?_; refine And.intro (by kernel_rfl) ?_; try simp only [thenA_n]) | (first | refine wBlock ?_ | refine wScope ?_) | ((first | refine wRet ?_ | refine wExit ?_ | refine wSkip ?_); try simp) | ((first | refine wLabel ?_ | refine wOn ?_ | refine wQn ?_); try simp only [thenA_n])
          refine hL2 _ (N' - 1) (by omega) ⟨j + 1, by omega, ?_⟩
          simp [h2, h3, h4, h7, b2, b3, h5, h12, h13, h14, hwj, b4, b5, b7, h24, h25, hz, hi]
      · rw [List.drop_of_length_le (by omega)] at hi
        rw [show hasI [] ms[k].i = false from rfl] at hi
        rw [← hi, if_neg (by simp)] at hsn
        repeat' first | (refine And.intro (by omega) ?_) | (refine hK _ ?_; clear hK) | (refine hK _ _ ?_; clear hK) | (clear hK; refine hK _ ?_; clear hK) | (clear hK; clear hK; refine hK _ ?_; clear hK) | (clear hK; clear hK; clear hK; refine hK _ ?_; clear hK) | (clear hK; clear hK; clear hK; clear hK; refine hK _ ?_; clear hK) | (refine wSeq fun K hK => ?_) | ((first | refine wReg ?_ | refine wDrwQ rfl (by kernel_rfl) ?_ | refine wDrwI ?_ | refine wDrw (by kernel_rfl) ?_); simp only [List.map_cons, List.map_nil, strip]) | ((first | refine wIs fun K hK => ?_ | refine wOs fun K hK => ?_ | refine wQs fun K hK => ?_ | refine CallK_plain ?_ | refine CallQ_plain ?_ | refine CallR_plain ?_ | refine wCond ?_); simp [h2, h3, h4, h7, b2, b3, h5, h12, h13, h14, b4, b5, b7, h24, h25, h26, hlt, hw, hlj]) | (refine wIn ?_; refine And.intro (by kernel_rfl) ?_; try simp only [thenA_n]) | (first | refine wBlock ?_ | refine wScope ?_) | ((first | refine wRet ?_ | refine wExit ?_ | refine wSkip ?_); try simp) | ((first | refine wLabel ?_ | refine wOn ?_ | refine wQn ?_); try simp only [thenA_n])
        refine hL _ (N - 1) (by omega) ⟨k + 1, by omega, ?_⟩
        simp [h2, h3, h4, b2, b3, h5, h12, h13, hw, b4, b5, hsn, hz, mbs, Mb.cells]
  · rw [List.take_of_length_le (by omega)] at b5
    have ha := mbs_app (keepM ⟨ep, n, kind, ms⟩ ⟨dk, put, drop⟩) put
    have hl1 : (keepM ⟨ep, n, kind, ms⟩ ⟨dk, put, drop⟩).length ≤ 20 := by simp at hl; omega
    generalize keepM ⟨ep, n, kind, ms⟩ ⟨dk, put, drop⟩ = kp at *
    rw [List.length_append] at hl
    rw [ha] at hs
    generalize srtM (kp ++ put) = sr at *
    obtain ⟨z0, z1, z2, z3, rfl⟩ : ∃ z0 z1 z2 z3, z = [z0, z1, z2, z3] := by
      match z, hz with
      | [z0, z1, z2, z3], _ => exact ⟨z0, z1, z2, z3, rfl⟩
    by_cases hk0 : dk = 0
    · rw [if_pos hk0] at hr
      repeat' first | (refine CallH.ownL hs (flatL_mbs _) ?_) | (refine And.intro (by omega) ?_) | (refine Or.inl ?_) | (refine hK _ ?_; clear hK) | (refine hK _ _ ?_; clear hK) | (clear hK; refine hK _ ?_; clear hK) | (clear hK; clear hK; refine hK _ ?_; clear hK) | (clear hK; clear hK; clear hK; refine hK _ ?_; clear hK) | (clear hK; clear hK; clear hK; clear hK; refine hK _ ?_; clear hK) | (refine wSeq fun K hK => ?_) | ((first | refine wReg ?_ | refine wDrwQ rfl (by kernel_rfl) ?_ | refine wDrwI ?_ | refine wDrw (by kernel_rfl) ?_); simp only [List.map_cons, List.map_nil, strip]) | ((first | refine wIs fun K hK => ?_ | refine wOs fun K hK => ?_ | refine wQs fun K hK => ?_ | refine CallK_plain ?_ | refine CallQ_plain ?_ | refine CallR_plain ?_ | refine wCond ?_); simp [h2, h3, h4, b2, b3, h5, h12, h13, h14, b4, b5, hlt, hk0]) | (refine wIn ?_; refine And.intro (by kernel_rfl) ?_; try simp only [thenA_n]) | (first | refine wBlock ?_ | refine wScope ?_) | ((first | refine wRet ?_ | refine wExit ?_ | refine wSkip ?_); try simp) | ((first | refine wLabel ?_ | refine wOn ?_ | refine wQn ?_); try simp only [thenA_n])
      all_goals apply hr
      all_goals simp [Try.f17, h4, b4, Cf.cells]
    · rw [if_neg hk0] at hr
      repeat' first | (refine CallH.ownL hs (flatL_mbs _) ?_) | (refine And.intro (by omega) ?_) | (refine Or.inl ?_) | (refine hK _ ?_; clear hK) | (refine hK _ _ ?_; clear hK) | (clear hK; refine hK _ ?_; clear hK) | (clear hK; clear hK; refine hK _ ?_; clear hK) | (clear hK; clear hK; clear hK; refine hK _ ?_; clear hK) | (clear hK; clear hK; clear hK; clear hK; refine hK _ ?_; clear hK) | (refine wSeq fun K hK => ?_) | ((first | refine wReg ?_ | refine wDrwQ rfl (by kernel_rfl) ?_ | refine wDrwI ?_ | refine wDrw (by kernel_rfl) ?_); simp only [List.map_cons, List.map_nil, strip]) | ((first | refine wIs fun K hK => ?_ | refine wOs fun K hK => ?_ | refine wQs fun K hK => ?_ | refine CallK_plain ?_ | refine CallQ_plain ?_ | refine CallR_plain ?_ | refine wCond ?_); simp [h2, h3, h4, b2, b3, h5, h12, h13, h14, b4, b5, hlt, hk0]) | (refine wIn ?_; refine And.intro (by kernel_rfl) ?_; try simp only [thenA_n]) | (first | refine wBlock ?_ | refine wScope ?_) | ((first | refine wRet ?_ | refine wExit ?_ | refine wSkip ?_); try simp) | ((first | refine wLabel ?_ | refine wOn ?_ | refine wQn ?_); try simp only [thenA_n])
      all_goals apply hr
      all_goals simp [Try.f17, h4, b4, Cf.cells]
end Go.Proofs.Ytiemabhnhgablaa
