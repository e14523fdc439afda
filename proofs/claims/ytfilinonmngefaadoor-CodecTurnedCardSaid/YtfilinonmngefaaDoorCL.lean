/- Frames opened: the program's, the document's. -/
import Derived.Test.YtfilinonmngefaaDoorCEB
import Derived.Test.YtfilinonmngefaaDoorCG
import Derived.Test.YtfilinonmngefaaDoorCJ
namespace Go.Proofs.YtfilinonmngefaaDoor
set_option linter.unusedSimpArgs false
set_option linter.unusedVariables false
open Go Go.Av
attribute [local simp] Tryd.T1 Tryd.T2 Tryd.T3 Tryd.T4 Tryd.T5 Tryd.T9 Tryd.T12 Tryd.T15 Tryd.T16 Tryd.T17 Tryd.T21 Tryd.T22 Tryd.T23 Tryd.T24 Tryd.T25 Tryd.T27 Tryd.T28 Tryd.T29 Tryd.T31 Tryd.T32 Tryd.T34 Tryd.T35 Tryd.T36 Tryd.T38 Tryd.T39 Tryd.T41 Tryd.T42 Tryd.T43 Tryd.T44 Tryd.T45 Tryd.T46 Tryd.T47 Tryd.T48 Tryd.T49 Tryd.T50 Tryd.T51 Tryd.T52 Tryd.T53 Tryd.T54 Tryd.T55 Tryd.T56 Tryd.T57 Tryd.T58 Tryd.T59 Tryd.T60 Tryd.T61 Tryd.T62 Tryd.T63 Tryd.T65 Tryd.T66 Tryd.T67 Tryd.T68 Tryd.T69 Tryd.T70 Tryd.T73 Tryd.T78 Tryd.T79
attribute [local irreducible] Go.Av.CallK Go.Av.CallE Go.Av.CallQ Go.Av.CallF Go.Av.CallR Go.Av.CallH Go.Av.Con
/-- A load, and the place behind its length: or an error. -/
def frR (b : List UInt8) (a : Nat) (r : Int × Nat × Nat) : Int × Nat × Nat :=
  if r.1 = 0 then (if (b.drop (r.2.2 + r.2.1)).take 4 = le4 (crc ((b.take (r.2.2 + r.2.1)).drop a)) then r else (4, 0, r.2.2)) else r
def frO (b : List UInt8) (r : Int × Nat × Nat) : Out :=
  if r.1 = 0 then .ret (.p (.sl 1 (by8 ((b.drop r.2.2).take r.2.1)))) [] [.box 65 [.p (.sl 1 (by8 b)), .p (I ((r.2.2 + r.2.1 + 4 : Nat) : Int))]]
  else .pan (.iface 70 (.int .i64 r.1)) [.box 65 [.p (.sl 1 (by8 b)), .p (I r.2.2)]]
theorem rdU_at (b : List UInt8) (a : Nat) {r : Int × Nat × Nat} (h : r = rdU 0 0 (b.drop a)) : r.2.2 + a ≤ b.length ∨ b.length ≤ a := by
  subst h
  obtain ⟨-, h, -⟩ := rdU_le (b.drop a) 0 0 (by decide) (by omega)
  rw [List.length_drop] at h
  omega
set_option maxHeartbeats 2000000 in
theorem frame_con (b : List UInt8) (a : Nat) (ha : a ≤ b.length) (hb : b.length ≤ 1000000000) : Con Tryd.prog 36 [.ptr 1024 0] [.box 65 [.p (.sl 1 (by8 b)), .p (I a)]] (frO b (frR b a (lnR b.length a 4 (rdU 0 0 (b.drop a))))) := by
  have hc := length_con b a 4 ha hb (by omega)
  have hok := fun n q => lnR_ok (L := b.length) (a := a) (tail := 4) (r := rdU 0 0 (b.drop a)) (n := n) (q := q)
  generalize lnR b.length a 4 (rdU 0 0 (b.drop a)) = r at hc hok ⊢
  obtain ⟨e, n, q⟩ := r
  by_cases h0 : e = 0
  rotate_left
  · unfold frR frO
    simp only [h0, if_false]
    rw [lnO_err h0] at hc
    simp at hc
    refine wBodyG Tryd.tab Tryd.mixed Tryd.func36 rfl rfl Tryd.ntmps36 (by simp) (by simp) fun Q hr hn hp => ?_
    repeat' first | (refine CallK_gen [1024] hc (by decide) (by decide) (by simp [blksOf, inN, pos, renB, ren0]) (by simp [argsG, argG, ren0, inN, pos, renCs, renC]) ?_; simp [GenK, lv, ouN, kpI, kpR, pos, ren, ren0, renB, renC, renCs]) | (refine hK _ ?_; clear hK) | (refine hK _ _ ?_; clear hK) | (clear hK; refine hK _ ?_; clear hK) | (clear hK; clear hK; refine hK _ ?_; clear hK) | (clear hK; clear hK; clear hK; refine hK _ ?_; clear hK) | (clear hK; clear hK; clear hK; clear hK; refine hK _ ?_; clear hK) | (refine wSeq fun K hK => ?_) | ((first | refine wReg ?_ | refine wDrwQ rfl (by kernel_rfl) ?_ | refine wDrwI ?_ | refine wDrw (by kernel_rfl) ?_); simp only [List.map_cons, List.map_nil, strip]) | ((first | refine wIs fun K hK => ?_ | refine wOs fun K hK => ?_ | refine wQs fun K hK => ?_ | refine CallK_plain ?_ | refine CallQ_plain ?_ | refine CallR_plain ?_ | refine wCond ?_); simp [lv, ouN, kpI, kpR, pos, ren, ren0, renB, renC, renCs]) | (refine wIn ?_; refine And.intro (by kernel_rfl) ?_; try simp only [thenA_n]) | (first | refine wBlock ?_ | refine wScope ?_) | ((first | refine wRet ?_ | refine wExit ?_ | refine wSkip ?_); try simp) | ((first | refine wLabel ?_ | refine wOn ?_ | refine wQn ?_); try simp only [thenA_n])
    all_goals try simp only [thenA_p, blockA_p]
    all_goals apply hp
    all_goals simp [AResP, outB, renB, gaN, lv, ouN, kpI, kpR, pos, ren, ren0, renC, renCs]
  subst h0
  rw [lnO_ok] at hc
  simp at hc
  obtain ⟨-, -, hn, hq1, hq⟩ := hok n q rfl
  have haq : a ≤ q := by omega
  obtain ⟨z, hz⟩ : ∃ z, z = q + n := ⟨_, rfl⟩
  unfold frR
  simp only [if_true]
  rw [← hz]
  have w1 : IntKind.i64.wrap ((q : Int) + (n : Int)) = (z : Int) := by rw [wrap_id (by omega) (by omega)]; omega
  have w2 : IntKind.i64.wrap ((z : Int) + 4) = ((z + 4 : Nat) : Int) := by rw [wrap_id (by omega) (by omega)]; omega
  have hzb : z ≤ b.length := by omega
  have hqz : q ≤ z := by omega
  have haz : a ≤ z := by omega
  have ht : (b.take z).drop q = (b.drop q).take n := by rw [hz, List.drop_take]; congr 1; omega
  have d1 := by8_take b z
  have d2 := by8_drop (b.take z) q
  have d3 := by8_drop (b.take z) a
  rw [ht] at d2
  have c2 := crc_con ((b.take z).drop a) (by rw [List.length_drop, List.length_take]; omega)
  have c3 := sum_con b q z (by omega) hb
  have c4 := (roomy_con ((b.drop q).take n) 0 (by rw [List.length_take]; omega)).toPure
  have hs4 : ((b.drop z).take 4).length = 4 := by rw [List.length_take, List.length_drop]; omega
  have hcr : crc ((b.take z).drop a) < 4294967296 := BitVec.isLt _
  have heq := le_eq hs4 hcr
  generalize crc ((b.take z).drop a) = cx at c2 heq hcr ⊢
  generalize (b.drop z).take 4 = s at c3 heq ⊢
  generalize le s = sv at c3 heq
  generalize (b.take z).drop a = x1 at c2 d3
  simp at c4
  by_cases hs : s = le4 cx
  · have hs' : (cx = sv) = True := by simp [heq.2 hs]
    have hs2 : ((cx : Int) = (sv : Int)) = True := by simp [heq.2 hs]
    rw [if_pos hs]
    unfold frO
    simp only [if_true]
    rw [← hz]
    generalize (b.drop q).take n = load at c4 d2 ⊢
    refine wBodyG Tryd.tab Tryd.mixed Tryd.func36 rfl rfl Tryd.ntmps36 (by simp) (by simp) fun Q hr hn hp => ?_
    repeat' first | (refine CallK_gen [1024] hc (by decide) (by decide) (by simp [blksOf, inN, pos, renB, ren0]) (by simp [argsG, argG, ren0, inN, pos, renCs, renC]) ⟨[], by simp, by simp, ?_⟩; simp [lv, ouN, kpI, kpR, pos, ren, ren0, renB, renC, renCs]) | (refine CallK_gen [1024] c3 (by decide) (by decide) (by simp [blksOf, inN, pos, renB, ren0]) (by simp [argsG, argG, ren0, inN, pos, renCs, renC]) ⟨[], by simp, by simp, ?_⟩; simp [lv, ouN, kpI, kpR, pos, ren, ren0, renB, renC, renCs]) | (refine hK _ ?_; clear hK) | (refine hK _ _ ?_; clear hK) | (clear hK; refine hK _ ?_; clear hK) | (clear hK; clear hK; refine hK _ ?_; clear hK) | (clear hK; clear hK; clear hK; refine hK _ ?_; clear hK) | (clear hK; clear hK; clear hK; clear hK; refine hK _ ?_; clear hK) | (refine wSeq fun K hK => ?_) | ((first | refine wReg ?_ | refine wDrwQ rfl (by kernel_rfl) ?_ | refine wDrwI ?_ | refine wDrw (by kernel_rfl) ?_); simp only [List.map_cons, List.map_nil, strip]) | ((first | refine wIs fun K hK => ?_ | refine wOs fun K hK => ?_ | refine wQs fun K hK => ?_ | refine CallK_plain ?_ | refine CallQ_plain ?_ | refine CallR_plain ?_ | refine wCond ?_); simp [w1, w2, hzb, hqz, haz, d1, d2, d3, hs', hs2, lv, ouN, kpI, kpR, pos, ren, ren0, renB, renC, renCs]) | (refine wIn ?_; refine And.intro (by kernel_rfl) ?_; try simp only [thenA_n]) | (first | refine wBlock ?_ | refine wScope ?_) | ((first | refine wRet ?_ | refine wExit ?_ | refine wSkip ?_); try simp) | ((first | refine wLabel ?_ | refine wOn ?_ | refine wQn ?_); try simp only [thenA_n]) | (refine CallE.pure (c2) rfl ?_) | (refine CallE.lent (c2) rfl ?_) | (refine CallF.pure (c2) rfl ?_) | (refine CallF.lent (c2) rfl ?_) | (refine CallE.own (c2) ?_) | (refine CallH.pure (c2) rfl ?_) | (refine CallH.lent (c2) rfl ?_) | (refine CallH.own (c2) ?_) | (refine CallE.pure (c4) rfl ?_) | (refine CallE.lent (c4) rfl ?_) | (refine CallF.pure (c4) rfl ?_) | (refine CallF.lent (c4) rfl ?_) | (refine CallE.own (c4) ?_) | (refine CallH.pure (c4) rfl ?_) | (refine CallH.lent (c4) rfl ?_) | (refine CallH.own (c4) ?_)
    all_goals apply hr
    all_goals refine ⟨[], by simp, by simp, ?_⟩
    all_goals simp [Tryd.f36, outR, outB, renB, gaN, lv, ouN, kpI, kpR, pos, ren, ren0, renC, renCs, w1, w2]
  · have hs' : ¬ cx = sv := fun h => hs (heq.1 h)
    have hs2 : ¬ (cx : Int) = (sv : Int) := by omega
    rw [if_neg hs]
    unfold frO
    simp only [show ¬ (4 : Int) = 0 by decide, if_false]
    have e4 := give_con 4 (by decide)
    refine wBodyG Tryd.tab Tryd.mixed Tryd.func36 rfl rfl Tryd.ntmps36 (by simp) (by simp) fun Q hr hn hp => ?_
    repeat' first | (refine CallE.pan e4 ?_) | (refine CallK_gen [1024] hc (by decide) (by decide) (by simp [blksOf, inN, pos, renB, ren0]) (by simp [argsG, argG, ren0, inN, pos, renCs, renC]) ⟨[], by simp, by simp, ?_⟩; simp [lv, ouN, kpI, kpR, pos, ren, ren0, renB, renC, renCs]) | (refine CallK_gen [1024] c3 (by decide) (by decide) (by simp [blksOf, inN, pos, renB, ren0]) (by simp [argsG, argG, ren0, inN, pos, renCs, renC]) ⟨[], by simp, by simp, ?_⟩; simp [lv, ouN, kpI, kpR, pos, ren, ren0, renB, renC, renCs]) | (refine hK _ ?_; clear hK) | (refine hK _ _ ?_; clear hK) | (clear hK; refine hK _ ?_; clear hK) | (clear hK; clear hK; refine hK _ ?_; clear hK) | (clear hK; clear hK; clear hK; refine hK _ ?_; clear hK) | (clear hK; clear hK; clear hK; clear hK; refine hK _ ?_; clear hK) | (refine wSeq fun K hK => ?_) | ((first | refine wReg ?_ | refine wDrwQ rfl (by kernel_rfl) ?_ | refine wDrwI ?_ | refine wDrw (by kernel_rfl) ?_); simp only [List.map_cons, List.map_nil, strip]) | ((first | refine wIs fun K hK => ?_ | refine wOs fun K hK => ?_ | refine wQs fun K hK => ?_ | refine CallK_plain ?_ | refine CallQ_plain ?_ | refine CallR_plain ?_ | refine wCond ?_); simp [w1, w2, hzb, hqz, haz, d1, d2, d3, hs', hs2, lv, ouN, kpI, kpR, pos, ren, ren0, renB, renC, renCs]) | (refine wIn ?_; refine And.intro (by kernel_rfl) ?_; try simp only [thenA_n]) | (first | refine wBlock ?_ | refine wScope ?_) | ((first | refine wRet ?_ | refine wExit ?_ | refine wSkip ?_); try simp) | ((first | refine wLabel ?_ | refine wOn ?_ | refine wQn ?_); try simp only [thenA_n]) | (refine CallE.pure (c2) rfl ?_) | (refine CallE.lent (c2) rfl ?_) | (refine CallF.pure (c2) rfl ?_) | (refine CallF.lent (c2) rfl ?_) | (refine CallE.own (c2) ?_) | (refine CallH.pure (c2) rfl ?_) | (refine CallH.lent (c2) rfl ?_) | (refine CallH.own (c2) ?_) | (refine CallE.pure (c4) rfl ?_) | (refine CallE.lent (c4) rfl ?_) | (refine CallF.pure (c4) rfl ?_) | (refine CallF.lent (c4) rfl ?_) | (refine CallE.own (c4) ?_) | (refine CallH.pure (c4) rfl ?_) | (refine CallH.lent (c4) rfl ?_) | (refine CallH.own (c4) ?_)
    all_goals try simp only [thenA_p, blockA_p]
    all_goals apply hp
    all_goals simp [AResP, outB, renB, gaN, lv, ouN, kpI, kpR, pos, ren, ren0, renC, renCs]

def frT (b : List UInt8) (r : Int × Nat × Nat) : V := if r.1 = 0 then .tup [.p (.sl 1 (by8 ((b.drop r.2.2).take r.2.1))), .p (I ((r.2.2 + r.2.1 + 4 : Nat) : Int)), .p (I 0)] else .tup [.p (.sl 1 []), .p (I 0), .p (I r.1)]
def opR (b : List UInt8) (a : Nat) : Int × Nat × Nat := frR b a (lnR b.length a 4 (rdU 0 0 (b.drop a)))
def openT (b : List UInt8) (at' : Int) : V := if at' < 0 ∨ (b.length : Int) < at' then .tup [.p (.sl 1 []), .p (I 0), .p (I 1)] else frT b (opR b at'.toNat)
theorem openT_shape (b : List UInt8) (at' : Int) : ∃ (x : List UInt8) (y e : Int), openT b at' = .tup [.p (.sl 1 (by8 x)), .p (I y), .p (I e)] := by
  unfold openT frT
  split
  · exact ⟨[], _, _, rfl⟩
  · split
    · exact ⟨_, _, _, rfl⟩
    · exact ⟨[], _, _, rfl⟩
theorem open_con (b : List UInt8) (at' : Int) (hb : b.length ≤ 1000000000) : ACon Tryd.prog 23 [.p (.sl 1 (by8 b)), .p (I at')] (openT b at') := by
  have hc : ACon Tryd.prog 35 [.p (.sl 1 (by8 b)), .p (I at'), .p (.v (.func (.func 36) #[] #[]))] (openT b at') := by
    by_cases h : at' < 0 ∨ (b.length : Int) < at'
    · have := readE_B b at' 36 at' 1 _ rfl (by decide) (rcBad_B b at' _ h)
      unfold openT; rw [if_pos h]; exact this
    · obtain ⟨a, rfl⟩ : ∃ a : Nat, at' = a := ⟨at'.toNat, by omega⟩
      have hn := frame_con b a (by omega) hb
      unfold openT opR
      rw [if_neg h]
      simp only [Int.toNat_natCast]
      generalize frR b a (lnR b.length a 4 (rdU 0 0 (b.drop a))) = r at hn ⊢
      obtain ⟨e, n, q⟩ := r
      unfold frO at hn
      unfold frT
      simp only at hn ⊢
      by_cases h0 : e = 0
      · subst h0
        rw [if_pos rfl] at hn
        have := read0_B b a 36 (.sl 1 (by8 ((b.drop q).take n))) ((q + n + 4 : Nat) : Int) ⟨_, rfl⟩ _ rfl (rcOk_B b a _ (by omega) _ ⟨_, rfl⟩ hn)
        exact this
      · rw [if_neg h0] at hn
        have := readE_B b a 36 (q : Int) e _ rfl h0 (rcPan_B b a (by omega) _ _ hn)
        rw [if_neg h0]; exact this
  obtain ⟨x, y, e, hk⟩ := openT_shape b at'
  rw [hk] at hc ⊢
  refine wBody Tryd.tab Tryd.mixed Tryd.func23 rfl rfl Tryd.ntmps23 (by simp) (by simp) fun Q hr hn => ?_
  repeat' first | (refine hK _ ?_; clear hK) | (refine hK _ _ ?_; clear hK) | (clear hK; refine hK _ ?_; clear hK) | (clear hK; clear hK; refine hK _ ?_; clear hK) | (clear hK; clear hK; clear hK; refine hK _ ?_; clear hK) | (clear hK; clear hK; clear hK; clear hK; refine hK _ ?_; clear hK) | (refine wSeq fun K hK => ?_) | ((first | refine wReg ?_ | refine wDrwQ rfl (by kernel_rfl) ?_ | refine wDrwI ?_ | refine wDrw (by kernel_rfl) ?_); simp only [List.map_cons, List.map_nil, strip]) | ((first | refine wIs fun K hK => ?_ | refine wOs fun K hK => ?_ | refine wQs fun K hK => ?_ | refine CallK_plain ?_ | refine CallQ_plain ?_ | refine CallR_plain ?_ | refine wCond ?_); simp) | (refine wIn ?_; refine And.intro (by kernel_rfl) ?_; try simp only [thenA_n]) | (first | refine wBlock ?_ | refine wScope ?_) | ((first | refine wRet ?_ | refine wExit ?_ | refine wSkip ?_); try simp) | ((first | refine wLabel ?_ | refine wOn ?_ | refine wQn ?_); try simp only [thenA_n]) | (refine CallE.pure (hc) rfl ?_) | (refine CallE.lent (hc) rfl ?_) | (refine CallF.pure (hc) rfl ?_) | (refine CallF.lent (hc) rfl ?_) | (refine CallE.own (hc) ?_) | (refine CallH.pure (hc) rfl ?_) | (refine CallH.lent (hc) rfl ?_) | (refine CallH.own (hc) ?_)
  all_goals apply hr
  all_goals simp [Tryd.f23]
end Go.Proofs.YtfilinonmngefaaDoor
