/- Texts that the proof needs: CF CG CH QLib QA RG1 RG2 RWA RG3 RG3a. -/
import Derived.Test.YtbeofcbehhljdaaGreatDoorP26JournalCrash
import Derived.Test.YtbeofcbehhljdaaGreatDoorP15JournalCrash
import Derived.Test.YtbeofcbehhljdaaGreatDoorP20JournalCrash
import Derived.Test.YtbeofcbehhljdaaGreatDoorP22JournalCrash
import Derived.WalkKit
import Derived.Test.YtbeofcbehhljdaaGreatDoorP23JournalCrash
namespace Go.Proofs.YtbeofcbehhljdaaGreatDoor
set_option linter.unusedSimpArgs false
set_option linter.unusedVariables false
open Go Go.Av
attribute [local irreducible] Go.Av.CallK Go.Av.CallE Go.Av.CallQ Go.Av.CallF Go.Av.CallR Go.Av.CallH Go.Av.Con
theorem rdU_le : ∀ (l : List UInt8) (i u : Nat), u < 128 ^ i -> i <= 9 -> i <= (rdU i u l).2.2 /\ (rdU i u l).2.2 <= i + l.length /\ (rdU i u l).2.1 < 18446744073709551616 /\ ((rdU i u l).1 = 0 -> i < (rdU i u l).2.2)
 | [], i, u, hu, hi => by simp [rdU]
 | c :: r, i, u, hu, hi => by
  have hc := c.toNat_lt
  rw [rdU]
  split
  ·simp
  ·rename_i o1
   have hx9 : i = 9 -> c.toNat % 128 <= 1 := by omega
   have hst := step_lt64 (x := c.toNat % 128) hu (by omega) hi hx9
   split
   ·rename_i o2
    have := rdU_le r (i + 1) _ (step_lt (x := c.toNat % 128) hu (by omega)) (by omega)
    simp only [List.length_cons]
    refine ⟨by omega, by omega, this.2.2.1, fun h => by have := this.2.2.2 h; omega⟩
   ·split
    ·simp
    ·simp only [List.length_cons]
     exact ⟨by omega, by omega, hst.2, fun _ => by omega⟩
def lnR (L a tail : Nat) (r : Int × Nat × Nat) : Int × Nat × Nat :=
 if ¬ r.1 = 0 then (r.1, 0, a + r.2.2)
 else if unzz r.2.1 < 0 then (3, 0, a + r.2.2)
 else if 65536 < unzz r.2.1 then (5, 0, a + r.2.2)
 else if (L : Int) - ((a + r.2.2 : Nat) : Int) < unzz r.2.1 + tail then (2, 0, a + r.2.2)
 else (0, (unzz r.2.1).toNat, a + r.2.2)
def lnO (b : List UInt8) (r : Int × Nat × Nat) : Out :=
 if r.1 = 0 then .ret (.p (I r.2.1)) [] [.box 121 [.p (.sl 1 (by8 b)), .p (I r.2.2)]]
 else .pan (.iface 143 (.int .i64 r.1)) [.box 121 [.p (.sl 1 (by8 b)), .p (I r.2.2)]]
theorem lnO_err {b : List UInt8} {n q : Nat} {e : Int} (h : ¬ e = 0) : lnO b (e, n, q) = .pan (.iface 143 (.int .i64 e)) [.box 121 [.p (.sl 1 (by8 b)), .p (I q)]] := by unfold lnO; rw [if_neg h]
theorem lnO_ok {b : List UInt8} {n q : Nat} : lnO b (0, n, q) = .ret (.p (I n)) [] [.box 121 [.p (.sl 1 (by8 b)), .p (I q)]] := rfl
theorem length_con (b : List UInt8) (a tail : Nat) (ha : a <= b.length) (hb : b.length <= 1000000000) (ht : tail <= 1000) : Con Tryz.prog 65 [.ptr 1024 0, .p (I tail)] [.box 121 [.p (.sl 1 (by8 b)), .p (I a)]] (lnO b (lnR b.length a tail (rdU 0 0 (b.drop a)))) := by
 have hc := number_con b a ha hb
 obtain ⟨-, hk, hv, -⟩ := rdU_le (b.drop a) 0 0 (by decide) (by omega)
 rw [List.length_drop] at hk
 have e2 := give_con 2 (by decide)
 have e3 := give_con 3 (by decide)
 have e5 := give_con 5 (by decide)
 generalize rdU 0 0 (b.drop a) = r at hc hk hv ⊢
 obtain ⟨e, v, k⟩ := r
 have hok := unzz_ok hv
 obtain ⟨hok1, hok2⟩ := hok
 simp only at hk hv hok1 hok2
 unfold lnR
 simp only
 by_cases h0 : e = 0
 rotate_left
 ·rw [if_pos h0, lnO_err h0]
  rw [rdO_err h0] at hc
  refine wBodyG Tryz.tab Tryz.mixed Tryz.func65 rfl rfl Tryz.ntmps65 (by simp) (by simp) fun Q hr hn hp => ?_
  repeat' first | (refine CallK_gen [1024] hc (by decide) (by decide) (by simp [blksOf, inN, pos, renB, ren0]) (by simp [argsG, argG, ren0, inN, pos, renCs, renC]) ?_; simp [GenK, lv, ouN, kpI, kpR, pos, ren, ren0, renB, renC, renCs]) | (refine hK _ ?_; clear hK) | (refine hK _ _ ?_; clear hK) | (clear hK; refine hK _ ?_; clear hK) | (clear hK; clear hK; refine hK _ ?_; clear hK) | (clear hK; clear hK; clear hK; refine hK _ ?_; clear hK) | (clear hK; clear hK; clear hK; clear hK; refine hK _ ?_; clear hK) | (refine wSeq fun K hK => ?_) | ((first | refine wReg ?_ | refine wDrwQ rfl (by kernel_rfl) ?_ | refine wDrwI ?_ | refine wDrw (by kernel_rfl) ?_); simp only [List.map_cons, List.map_nil, strip]) | ((first | refine wIs fun K hK => ?_ | refine wOs fun K hK => ?_ | refine wQs fun K hK => ?_ | refine CallK_plain ?_ | refine CallQ_plain ?_ | refine CallR_plain ?_ | refine wCond ?_); simp [lv, ouN, kpI, kpR, pos, ren, ren0, renB, renC, renCs]) | (refine wIn ?_; refine And.intro (by kernel_rfl) ?_; try simp only [thenA_n]) | (first | refine wBlock ?_ | refine wScope ?_) | ((first | refine wRet ?_ | refine wExit ?_ | refine wSkip ?_); try simp) | ((first | refine wLabel ?_ | refine wOn ?_ | refine wQn ?_); try simp only [thenA_n])
  all_goals try simp only [thenA_p, blockA_p]
  all_goals apply hp
  all_goals simp [AResP, outB, renB, gaN, lv, ouN, kpI, kpR, pos, ren, ren0, renC, renCs]
 subst h0
 rw [rdO_ok] at hc
 rw [if_neg (by simp)]
 obtain ⟨q, hq⟩ : ∃ q, q = a + k := ⟨_, rfl⟩
 rw [<- hq] at hc ⊢
 generalize unzz v = n at hc hok1 hok2 ⊢
 have w1 : IntKind.i64.wrap ((b.length : Int) - (q : Int)) = (b.length : Int) - (q : Int) := wrap_id (by omega) (by omega)
 by_cases h1 : n < 0
 ·rw [if_pos h1, lnO_err (by decide)]
  refine wBodyG Tryz.tab Tryz.mixed Tryz.func65 rfl rfl Tryz.ntmps65 (by simp) (by simp) fun Q hr hn hp => ?_
  repeat' first | (refine CallE.pan e3 ?_) | (refine CallK_gen [1024] hc (by decide) (by decide) (by simp [blksOf, inN, pos, renB, ren0]) (by simp [argsG, argG, ren0, inN, pos, renCs, renC]) ⟨[], by simp, by simp, ?_⟩; simp [lv, ouN, kpI, kpR, pos, ren, ren0, renB, renC, renCs]) | (refine hK _ ?_; clear hK) | (refine hK _ _ ?_; clear hK) | (clear hK; refine hK _ ?_; clear hK) | (clear hK; clear hK; refine hK _ ?_; clear hK) | (clear hK; clear hK; clear hK; refine hK _ ?_; clear hK) | (clear hK; clear hK; clear hK; clear hK; refine hK _ ?_; clear hK) | (refine wSeq fun K hK => ?_) | ((first | refine wReg ?_ | refine wDrwQ rfl (by kernel_rfl) ?_ | refine wDrwI ?_ | refine wDrw (by kernel_rfl) ?_); simp only [List.map_cons, List.map_nil, strip]) | ((first | refine wIs fun K hK => ?_ | refine wOs fun K hK => ?_ | refine wQs fun K hK => ?_ | refine CallK_plain ?_ | refine CallQ_plain ?_ | refine CallR_plain ?_ | refine wCond ?_); simp [h1, lv, ouN, kpI, kpR, pos, ren, ren0, renB, renC, renCs]) | (refine wIn ?_; refine And.intro (by kernel_rfl) ?_; try simp only [thenA_n]) | (first | refine wBlock ?_ | refine wScope ?_) | ((first | refine wRet ?_ | refine wExit ?_ | refine wSkip ?_); try simp) | ((first | refine wLabel ?_ | refine wOn ?_ | refine wQn ?_); try simp only [thenA_n])
  all_goals try simp only [thenA_p, blockA_p]
  all_goals apply hp
  all_goals simp [AResP, outB, renB, gaN, lv, ouN, kpI, kpR, pos, ren, ren0, renC, renCs]
 rw [if_neg h1]
 by_cases h2 : 65536 < n
 ·rw [if_pos h2, lnO_err (by decide)]
  refine wBodyG Tryz.tab Tryz.mixed Tryz.func65 rfl rfl Tryz.ntmps65 (by simp) (by simp) fun Q hr hn hp => ?_
  repeat' first | (refine CallE.pan e5 ?_) | (refine CallK_gen [1024] hc (by decide) (by decide) (by simp [blksOf, inN, pos, renB, ren0]) (by simp [argsG, argG, ren0, inN, pos, renCs, renC]) ⟨[], by simp, by simp, ?_⟩; simp [lv, ouN, kpI, kpR, pos, ren, ren0, renB, renC, renCs]) | (refine hK _ ?_; clear hK) | (refine hK _ _ ?_; clear hK) | (clear hK; refine hK _ ?_; clear hK) | (clear hK; clear hK; refine hK _ ?_; clear hK) | (clear hK; clear hK; clear hK; refine hK _ ?_; clear hK) | (clear hK; clear hK; clear hK; clear hK; refine hK _ ?_; clear hK) | (refine wSeq fun K hK => ?_) | ((first | refine wReg ?_ | refine wDrwQ rfl (by kernel_rfl) ?_ | refine wDrwI ?_ | refine wDrw (by kernel_rfl) ?_); simp only [List.map_cons, List.map_nil, strip]) | ((first | refine wIs fun K hK => ?_ | refine wOs fun K hK => ?_ | refine wQs fun K hK => ?_ | refine CallK_plain ?_ | refine CallQ_plain ?_ | refine CallR_plain ?_ | refine wCond ?_); simp [h1, h2, lv, ouN, kpI, kpR, pos, ren, ren0, renB, renC, renCs]) | (refine wIn ?_; refine And.intro (by kernel_rfl) ?_; try simp only [thenA_n]) | (first | refine wBlock ?_ | refine wScope ?_) | ((first | refine wRet ?_ | refine wExit ?_ | refine wSkip ?_); try simp) | ((first | refine wLabel ?_ | refine wOn ?_ | refine wQn ?_); try simp only [thenA_n])
  all_goals try simp only [thenA_p, blockA_p]
  all_goals apply hp
  all_goals simp [AResP, outB, renB, gaN, lv, ouN, kpI, kpR, pos, ren, ren0, renC, renCs]
 rw [if_neg h2]
 have w2 : IntKind.i64.wrap (n + (tail : Int)) = n + (tail : Int) := wrap_id (by omega) (by omega)
 by_cases h3 : (b.length : Int) - (q : Int) < n + tail
 ·rw [if_pos h3, lnO_err (by decide)]
  refine wBodyG Tryz.tab Tryz.mixed Tryz.func65 rfl rfl Tryz.ntmps65 (by simp) (by simp) fun Q hr hn hp => ?_
  repeat' first | (refine CallE.pan e2 ?_) | (refine CallK_gen [1024] hc (by decide) (by decide) (by simp [blksOf, inN, pos, renB, ren0]) (by simp [argsG, argG, ren0, inN, pos, renCs, renC]) ⟨[], by simp, by simp, ?_⟩; simp [lv, ouN, kpI, kpR, pos, ren, ren0, renB, renC, renCs]) | (refine hK _ ?_; clear hK) | (refine hK _ _ ?_; clear hK) | (clear hK; refine hK _ ?_; clear hK) | (clear hK; clear hK; refine hK _ ?_; clear hK) | (clear hK; clear hK; clear hK; refine hK _ ?_; clear hK) | (clear hK; clear hK; clear hK; clear hK; refine hK _ ?_; clear hK) | (refine wSeq fun K hK => ?_) | ((first | refine wReg ?_ | refine wDrwQ rfl (by kernel_rfl) ?_ | refine wDrwI ?_ | refine wDrw (by kernel_rfl) ?_); simp only [List.map_cons, List.map_nil, strip]) | ((first | refine wIs fun K hK => ?_ | refine wOs fun K hK => ?_ | refine wQs fun K hK => ?_ | refine CallK_plain ?_ | refine CallQ_plain ?_ | refine CallR_plain ?_ | refine wCond ?_); simp [h1, h2, h3, w1, w2, lv, ouN, kpI, kpR, pos, ren, ren0, renB, renC, renCs]) | (refine wIn ?_; refine And.intro (by kernel_rfl) ?_; try simp only [thenA_n]) | (first | refine wBlock ?_ | refine wScope ?_) | ((first | refine wRet ?_ | refine wExit ?_ | refine wSkip ?_); try simp) | ((first | refine wLabel ?_ | refine wOn ?_ | refine wQn ?_); try simp only [thenA_n])
  all_goals try simp only [thenA_p, blockA_p]
  all_goals apply hp
  all_goals simp [AResP, outB, renB, gaN, lv, ouN, kpI, kpR, pos, ren, ren0, renC, renCs]
 ·rw [if_neg h3, lnO_ok]
  have hn : ((n.toNat : Nat) : Int) = n := by omega
  rw [hn]
  refine wBodyG Tryz.tab Tryz.mixed Tryz.func65 rfl rfl Tryz.ntmps65 (by simp) (by simp) fun Q hr hn hp => ?_
  repeat' first | (refine CallK_gen [1024] hc (by decide) (by decide) (by simp [blksOf, inN, pos, renB, ren0]) (by simp [argsG, argG, ren0, inN, pos, renCs, renC]) ⟨[], by simp, by simp, ?_⟩; simp [lv, ouN, kpI, kpR, pos, ren, ren0, renB, renC, renCs]) | (refine hK _ ?_; clear hK) | (refine hK _ _ ?_; clear hK) | (clear hK; refine hK _ ?_; clear hK) | (clear hK; clear hK; refine hK _ ?_; clear hK) | (clear hK; clear hK; clear hK; refine hK _ ?_; clear hK) | (clear hK; clear hK; clear hK; clear hK; refine hK _ ?_; clear hK) | (refine wSeq fun K hK => ?_) | ((first | refine wReg ?_ | refine wDrwQ rfl (by kernel_rfl) ?_ | refine wDrwI ?_ | refine wDrw (by kernel_rfl) ?_); simp only [List.map_cons, List.map_nil, strip]) | ((first | refine wIs fun K hK => ?_ | refine wOs fun K hK => ?_ | refine wQs fun K hK => ?_ | refine CallK_plain ?_ | refine CallQ_plain ?_ | refine CallR_plain ?_ | refine wCond ?_); simp [h1, h2, h3, w1, w2, lv, ouN, kpI, kpR, pos, ren, ren0, renB, renC, renCs]) | (refine wIn ?_; refine And.intro (by kernel_rfl) ?_; try simp only [thenA_n]) | (first | refine wBlock ?_ | refine wScope ?_) | ((first | refine wRet ?_ | refine wExit ?_ | refine wSkip ?_); try simp) | ((first | refine wLabel ?_ | refine wOn ?_ | refine wQn ?_); try simp only [thenA_n])
  all_goals apply hr
  all_goals refine ⟨[], by simp, by simp, ?_⟩
  all_goals simp [Tryz.f65, outR, outB, renB, gaN, lv, ouN, kpI, kpR, pos, ren, ren0, renC, renCs]
theorem lnR_ok {L a tail : Nat} {r : Int × Nat × Nat} {n q : Nat} (h : lnR L a tail r = (0, n, q)) : r.1 = 0 /\ unzz r.2.1 = n /\ n <= 65536 /\ q = a + r.2.2 /\ q + n + tail <= L := by
 unfold lnR at h
 split at h
 ·rename_i o; simp only [Prod.mk.injEq] at h; exact absurd h.1 o
 ·rename_i o
  have o : r.1 = 0 := by simpa using o
  split at h
  ·simp at h
  ·split at h
   ·simp at h
   ·split at h
    ·simp at h
    ·simp only [Prod.mk.injEq, true_and] at h
     obtain ⟨h1, h2⟩ := h
     exact ⟨o, by omega, by omega, h2.symm, by omega⟩
def txO (b : List UInt8) (r : Int × Nat × Nat) : Out :=
 if r.1 = 0 then .ret (.p (SB ((b.drop r.2.2).take r.2.1))) [] [.box 121 [.p (.sl 1 (by8 b)), .p (I ((r.2.2 + r.2.1 : Nat) : Int))]]
 else .pan (.iface 143 (.int .i64 r.1)) [.box 121 [.p (.sl 1 (by8 b)), .p (I r.2.2)]]
theorem text_con (b : List UInt8) (a : Nat) (ha : a <= b.length) (hb : b.length <= 1000000000) : Con Tryz.prog 97 [.ptr 1024 0] [.box 121 [.p (.sl 1 (by8 b)), .p (I a)]] (txO b (lnR b.length a 0 (rdU 0 0 (b.drop a)))) := by
 have hc := length_con b a 0 ha hb (by omega)
 have hok := fun n q => lnR_ok (L := b.length) (a := a) (tail := 0) (r := rdU 0 0 (b.drop a)) (n := n) (q := q)
 generalize lnR b.length a 0 (rdU 0 0 (b.drop a)) = r at hc hok ⊢
 obtain ⟨e, n, q⟩ := r
 unfold txO
 simp only
 by_cases h0 : e = 0
 rotate_left
 ·rw [if_neg h0]
  rw [lnO_err h0] at hc
  simp at hc
  refine wBodyG Tryz.tab Tryz.mixed Tryz.func97 rfl rfl Tryz.ntmps97 (by simp) (by simp) fun Q hr hn hp => ?_
  repeat' first | (refine CallK_gen [1024] hc (by decide) (by decide) (by simp [blksOf, inN, pos, renB, ren0]) (by simp [argsG, argG, ren0, inN, pos, renCs, renC]) ?_; simp [GenK, lv, ouN, kpI, kpR, pos, ren, ren0, renB, renC, renCs]) | (refine hK _ ?_; clear hK) | (refine hK _ _ ?_; clear hK) | (clear hK; refine hK _ ?_; clear hK) | (clear hK; clear hK; refine hK _ ?_; clear hK) | (clear hK; clear hK; clear hK; refine hK _ ?_; clear hK) | (clear hK; clear hK; clear hK; clear hK; refine hK _ ?_; clear hK) | (refine wSeq fun K hK => ?_) | ((first | refine wReg ?_ | refine wDrwQ rfl (by kernel_rfl) ?_ | refine wDrwI ?_ | refine wDrw (by kernel_rfl) ?_); simp only [List.map_cons, List.map_nil, strip]) | ((first | refine wIs fun K hK => ?_ | refine wOs fun K hK => ?_ | refine wQs fun K hK => ?_ | refine CallK_plain ?_ | refine CallQ_plain ?_ | refine CallR_plain ?_ | refine wCond ?_); simp [lv, ouN, kpI, kpR, pos, ren, ren0, renB, renC, renCs]) | (refine wIn ?_; refine And.intro (by kernel_rfl) ?_; try simp only [thenA_n]) | (first | refine wBlock ?_ | refine wScope ?_) | ((first | refine wRet ?_ | refine wExit ?_ | refine wSkip ?_); try simp) | ((first | refine wLabel ?_ | refine wOn ?_ | refine wQn ?_); try simp only [thenA_n])
  all_goals try simp only [thenA_p, blockA_p]
  all_goals apply hp
  all_goals simp [AResP, outB, renB, gaN, lv, ouN, kpI, kpR, pos, ren, ren0, renC, renCs]
 subst h0
 rw [if_pos rfl]
 rw [lnO_ok] at hc
 simp at hc
 obtain ⟨-, -, hn, -, hq⟩ := hok n q rfl
 obtain ⟨z, hz⟩ : ∃ z, z = q + n := ⟨_, rfl⟩
 rw [<- hz]
 have w1 : IntKind.i64.wrap ((q : Int) + (n : Int)) = (z : Int) := by rw [wrap_id (by omega) (by omega)]; omega
 have hzb : z <= b.length := by omega
 have hqz : q <= z := by omega
 have ht : (b.take z).drop q = (b.drop q).take n := by rw [hz, List.drop_take]; congr 1; omega
 have d1 := by8_take b z
 have d2 := by8_drop (b.take z) q
 rw [ht] at d2
 have u1 := unL_by8 ((b.drop q).take n)
 have u2 := strOf_by8 ((b.drop q).take n)
 generalize (b.drop q).take n = s at d2 u1 u2 ⊢
 refine wBodyG Tryz.tab Tryz.mixed Tryz.func97 rfl rfl Tryz.ntmps97 (by simp) (by simp) fun Q hr hn hp => ?_
 repeat' first | (refine CallK_gen [1024] hc (by decide) (by decide) (by simp [blksOf, inN, pos, renB, ren0]) (by simp [argsG, argG, ren0, inN, pos, renCs, renC]) ⟨[], by simp, by simp, ?_⟩; simp [lv, ouN, kpI, kpR, pos, ren, ren0, renB, renC, renCs]) | (refine hK _ ?_; clear hK) | (refine hK _ _ ?_; clear hK) | (clear hK; refine hK _ ?_; clear hK) | (clear hK; clear hK; refine hK _ ?_; clear hK) | (clear hK; clear hK; clear hK; refine hK _ ?_; clear hK) | (clear hK; clear hK; clear hK; clear hK; refine hK _ ?_; clear hK) | (refine wSeq fun K hK => ?_) | ((first | refine wReg ?_ | refine wDrwQ rfl (by kernel_rfl) ?_ | refine wDrwI ?_ | refine wDrw (by kernel_rfl) ?_); simp only [List.map_cons, List.map_nil, strip]) | ((first | refine wIs fun K hK => ?_ | refine wOs fun K hK => ?_ | refine wQs fun K hK => ?_ | refine CallK_plain ?_ | refine CallQ_plain ?_ | refine CallR_plain ?_ | refine wCond ?_); simp [w1, hzb, hqz, d1, d2, u1, u2, lv, ouN, kpI, kpR, pos, ren, ren0, renB, renC, renCs]) | (refine wIn ?_; refine And.intro (by kernel_rfl) ?_; try simp only [thenA_n]) | (first | refine wBlock ?_ | refine wScope ?_) | ((first | refine wRet ?_ | refine wExit ?_ | refine wSkip ?_); try simp) | ((first | refine wLabel ?_ | refine wOn ?_ | refine wQn ?_); try simp only [thenA_n])
 all_goals apply hr
 all_goals refine ⟨[], by simp, by simp, ?_⟩
 all_goals simp [Tryz.f97, outR, outB, renB, gaN, lv, ouN, kpI, kpR, pos, ren, ren0, renC, renCs, w1]
theorem intT_shape (b : List UInt8) (at' : Int) : ∃ x y e : Int, intT b at' = .tup [.p (I x), .p (I y), .p (I e)] := by
 unfold intT rdT
 split
 ·exact ⟨_, _, _, rfl⟩
 ·split
  ·exact ⟨_, _, _, rfl⟩
  ·exact ⟨_, _, _, rfl⟩
theorem int_con (b : List UInt8) (at' : Int) (hb : b.length <= 1000000000) : ACon Tryz.prog 83 [.p (.sl 1 (by8 b)), .p (I at')] (intT b at') := by
 have hc : ACon Tryz.prog 95 [.p (.sl 1 (by8 b)), .p (I at'), .p (.v (.func (.func 82) #[] #[]))] (intT b at') := by
  by_cases h : at' < 0 \/ (b.length : Int) < at'
  ·have := readE_I b at' 82 at' 1 _ rfl (by decide) (rcBad_I b at' _ h)
   unfold intT; rw [if_pos h]; exact this
  ·obtain ⟨a, rfl⟩ : ∃ a : Nat, at' = a := ⟨at'.toNat, by omega⟩
   have hn := number_con b a (by omega) hb
   unfold intT
   rw [if_neg h]
   simp only [Int.toNat_natCast]
   generalize rdU 0 0 (b.drop a) = r at hn ⊢
   obtain ⟨e, u, k⟩ := r
   by_cases h0 : e = 0
   ·subst h0
    rw [rdO_ok] at hn
    have := read0_I b a 82 (I (unzz u)) ((a + k : Nat) : Int) ⟨_, rfl⟩ _ rfl (rcOk_I b a _ (by omega) _ ⟨_, rfl⟩ hn)
    exact this
   ·rw [rdO_err h0] at hn
    have := readE_I b a 82 ((a + k : Nat) : Int) e _ rfl h0 (rcPan_I b a (by omega) _ _ hn)
    rw [rdT_err h0]; exact this
 obtain ⟨x, y, e, hk⟩ := intT_shape b at'
 rw [hk] at hc ⊢
 refine wBody Tryz.tab Tryz.mixed Tryz.func83 rfl rfl Tryz.ntmps83 (by simp) (by simp) fun Q hr hn => ?_
 repeat' first | (refine hK _ ?_; clear hK) | (refine hK _ _ ?_; clear hK) | (clear hK; refine hK _ ?_; clear hK) | (clear hK; clear hK; refine hK _ ?_; clear hK) | (clear hK; clear hK; clear hK; refine hK _ ?_; clear hK) | (clear hK; clear hK; clear hK; clear hK; refine hK _ ?_; clear hK) | (refine wSeq fun K hK => ?_) | ((first | refine wReg ?_ | refine wDrwQ rfl (by kernel_rfl) ?_ | refine wDrwI ?_ | refine wDrw (by kernel_rfl) ?_); simp only [List.map_cons, List.map_nil, strip]) | ((first | refine wIs fun K hK => ?_ | refine wOs fun K hK => ?_ | refine wQs fun K hK => ?_ | refine CallK_plain ?_ | refine CallQ_plain ?_ | refine CallR_plain ?_ | refine wCond ?_); simp) | (refine wIn ?_; refine And.intro (by kernel_rfl) ?_; try simp only [thenA_n]) | (first | refine wBlock ?_ | refine wScope ?_) | ((first | refine wRet ?_ | refine wExit ?_ | refine wSkip ?_); try simp) | ((first | refine wLabel ?_ | refine wOn ?_ | refine wQn ?_); try simp only [thenA_n]) | (refine CallE.pure (hc) rfl ?_) | (refine CallE.lent (hc) rfl ?_) | (refine CallF.pure (hc) rfl ?_) | (refine CallF.lent (hc) rfl ?_) | (refine CallE.own (hc) ?_) | (refine CallH.pure (hc) rfl ?_) | (refine CallH.lent (hc) rfl ?_) | (refine CallH.own (hc) ?_)
 all_goals apply hr
 all_goals simp [Tryz.f83]
def txT (b : List UInt8) (r : Int × Nat × Nat) : V := if r.1 = 0 then .tup [.p (SB ((b.drop r.2.2).take r.2.1)), .p (I ((r.2.2 + r.2.1 : Nat) : Int)), .p (I 0)] else .tup [.p (SB []), .p (I 0), .p (I r.1)]
def textT (b : List UInt8) (at' : Int) : V := if at' < 0 \/ (b.length : Int) < at' then .tup [.p (SB []), .p (I 0), .p (I 1)] else txT b (lnR b.length at'.toNat 0 (rdU 0 0 (b.drop at'.toNat)))
theorem textT_shape (b : List UInt8) (at' : Int) : ∃ (x : List UInt8) (y e : Int), textT b at' = .tup [.p (SB x), .p (I y), .p (I e)] := by
 unfold textT txT
 split
 ·exact ⟨_, _, _, rfl⟩
 ·split
  ·exact ⟨_, _, _, rfl⟩
  ·exact ⟨_, _, _, rfl⟩
theorem text_all (b : List UInt8) (at' : Int) (hb : b.length <= 1000000000) : ACon Tryz.prog 84 [.p (.sl 1 (by8 b)), .p (I at')] (textT b at') := by
 have hc : ACon Tryz.prog 96 [.p (.sl 1 (by8 b)), .p (I at'), .p (.v (.func (.func 97) #[] #[]))] (textT b at') := by
  by_cases h : at' < 0 \/ (b.length : Int) < at'
  ·have := readE_S b at' 97 at' 1 _ rfl (by decide) (rcBad_S b at' _ h)
   unfold textT; rw [if_pos h]; exact this
  ·obtain ⟨a, rfl⟩ : ∃ a : Nat, at' = a := ⟨at'.toNat, by omega⟩
   have hn := text_con b a (by omega) hb
   unfold textT
   rw [if_neg h]
   simp only [Int.toNat_natCast]
   generalize lnR b.length a 0 (rdU 0 0 (b.drop a)) = r at hn ⊢
   obtain ⟨e, n, q⟩ := r
   unfold txO at hn
   unfold txT
   simp only at hn ⊢
   by_cases h0 : e = 0
   ·subst h0
    rw [if_pos rfl] at hn
    have := read0_S b a 97 (SB ((b.drop q).take n)) ((q + n : Nat) : Int) ⟨_, rfl⟩ _ rfl (rcOk_S b a _ (by omega) _ ⟨_, rfl⟩ hn)
    exact this
   ·rw [if_neg h0] at hn
    have := readE_S b a 97 (q : Int) e _ rfl h0 (rcPan_S b a (by omega) _ _ hn)
    rw [if_neg h0]; exact this
 obtain ⟨x, y, e, hk⟩ := textT_shape b at'
 rw [hk] at hc ⊢
 refine wBody Tryz.tab Tryz.mixed Tryz.func84 rfl rfl Tryz.ntmps84 (by simp) (by simp) fun Q hr hn => ?_
 repeat' first | (refine hK _ ?_; clear hK) | (refine hK _ _ ?_; clear hK) | (clear hK; refine hK _ ?_; clear hK) | (clear hK; clear hK; refine hK _ ?_; clear hK) | (clear hK; clear hK; clear hK; refine hK _ ?_; clear hK) | (clear hK; clear hK; clear hK; clear hK; refine hK _ ?_; clear hK) | (refine wSeq fun K hK => ?_) | ((first | refine wReg ?_ | refine wDrwQ rfl (by kernel_rfl) ?_ | refine wDrwI ?_ | refine wDrw (by kernel_rfl) ?_); simp only [List.map_cons, List.map_nil, strip]) | ((first | refine wIs fun K hK => ?_ | refine wOs fun K hK => ?_ | refine wQs fun K hK => ?_ | refine CallK_plain ?_ | refine CallQ_plain ?_ | refine CallR_plain ?_ | refine wCond ?_); simp) | (refine wIn ?_; refine And.intro (by kernel_rfl) ?_; try simp only [thenA_n]) | (first | refine wBlock ?_ | refine wScope ?_) | ((first | refine wRet ?_ | refine wExit ?_ | refine wSkip ?_); try simp) | ((first | refine wLabel ?_ | refine wOn ?_ | refine wQn ?_); try simp only [thenA_n]) | (refine CallE.pure (hc) rfl ?_) | (refine CallE.lent (hc) rfl ?_) | (refine CallF.pure (hc) rfl ?_) | (refine CallF.lent (hc) rfl ?_) | (refine CallE.own (hc) ?_) | (refine CallH.pure (hc) rfl ?_) | (refine CallH.lent (hc) rfl ?_) | (refine CallH.own (hc) ?_)
 all_goals apply hr
 all_goals simp [Tryz.f84]
theorem zz_len (n : Nat) (h : n <= 1000000000000) : okI (n : Int) := ⟨by omega, by omega⟩
theorem putText_con (b s : List UInt8) (h : b.length <= 1000000000000) (hs : s.length <= 1000000000000) : BCon 78 [.p (.sl 1 (by8 b)), .p (SB s)] (b ++ (enc (zz s.length) ++ s)) := by
 have c1 := roomy_con b (10 + s.length) (by omega)
 have c2 := layInt_con b s.length (zz_len _ (by omega)) (by omega)
 have hel := enc_len10 (zz_lt (zz_len s.length (by omega)))
 have w1 : IntKind.i64.wrap (10 + (s.length : Int)) = 10 + (s.length : Int) := wrap_id (by omega) (by omega)
 simp at c1
 have hx := by8_app (b ++ enc (zz s.length)) s
 have hbm : (s.map fun b => [PV.v (.int .u8 b.toNat)]) = by8 s := rfl
 rw [List.append_assoc] at hx
 generalize enc (zz s.length) = z at c2 hel hx ⊢
 refine wBodyR Tryz.tab Tryz.mixed Tryz.func78 rfl rfl Tryz.ntmps78 rfl (by simp) (by simp) fun Q hr hn => ?_
 repeat' first | (refine And.intro (by omega) ?_) | (refine CallK_gen [9] c2 (by decide) (by decide) (by simp [blksOf, inN, pos, renB, ren0]) (by simp [argsG, argG, ren0, inN, pos, renCs, renC]) ⟨[], by simp, by simp, ?_⟩; simp [lv, ouN, kpI, kpR, pos, ren, ren0, renB, renC, renCs]) | (refine hK _ ?_; clear hK) | (refine hK _ _ ?_; clear hK) | (clear hK; refine hK _ ?_; clear hK) | (clear hK; clear hK; refine hK _ ?_; clear hK) | (clear hK; clear hK; clear hK; refine hK _ ?_; clear hK) | (clear hK; clear hK; clear hK; clear hK; refine hK _ ?_; clear hK) | (refine wSeq fun K hK => ?_) | ((first | refine wReg ?_ | refine wDrwQ rfl (by kernel_rfl) ?_ | refine wDrwI ?_ | refine wDrw (by kernel_rfl) ?_); simp only [List.map_cons, List.map_nil, strip]) | ((first | refine wIs fun K hK => ?_ | refine wOs fun K hK => ?_ | refine wQs fun K hK => ?_ | refine CallK_plain ?_ | refine CallQ_plain ?_ | refine CallR_plain ?_ | refine wCond ?_); simp [w1]) | (refine wIn ?_; refine And.intro (by kernel_rfl) ?_; try simp only [thenA_n]) | (first | refine wBlock ?_ | refine wScope ?_) | ((first | refine wRet ?_ | refine wExit ?_ | refine wSkip ?_); try simp) | ((first | refine wLabel ?_ | refine wOn ?_ | refine wQn ?_); try simp only [thenA_n]) | (refine CallE.pure (c1) rfl ?_) | (refine CallE.lent (c1) rfl ?_) | (refine CallF.pure (c1) rfl ?_) | (refine CallF.lent (c1) rfl ?_) | (refine CallE.own (c1) ?_) | (refine CallH.pure (c1) rfl ?_) | (refine CallH.lent (c1) rfl ?_) | (refine CallH.own (c1) ?_)
 all_goals refine hr _ 9 ?_ ?_ (by omega)
 all_goals simp [Tryz.f78, hbm, hx]
def ints (l : List Int) : List (List PV) := l.map fun n => [I n]
@[simp] theorem ints_len (l : List Int) : (ints l).length = l.length := by simp [ints]
@[simp] theorem ints_getElem (l : List Int) (k : Nat) (h : k < (ints l).length) : (ints l)[k] = [I (l[k]'(by simpa using h))] := by simp [ints]
theorem ints_get {l : List Int} {k : Nat} (h : k < l.length) : (ints l)[k]? = some [I l[k]] := by simp [ints, h]
structure Mb where
 (i r w g : Int)
 deriving DecidableEq
def Mb.cells (m : Mb) : List PV := [I m.i, I m.r, I m.w, I m.g]
def mbs (l : List Mb) : List (List PV) := l.map Mb.cells
@[simp] theorem mbs_len (l : List Mb) : (mbs l).length = l.length := by simp [mbs]
@[simp] theorem mbs_getElem (l : List Mb) (k : Nat) (h : k < (mbs l).length) : (mbs l)[k] = [I (l[k]'(by simpa using h)).i, I (l[k]'(by simpa using h)).r, I (l[k]'(by simpa using h)).w, I (l[k]'(by simpa using h)).g] := by simp [mbs, Mb.cells]
structure Cf where
 (ep n kind : Int)
 ms : List Mb
def Cf.cells (c : Cf) : List PV := [I c.ep, I c.n, I c.kind, .sl 4 (mbs c.ms)]
def okM (m : Mb) : Prop := (0 <= m.i /\ m.i <= 15) /\ (m.r = 1 \/ m.r = 2) /\ (0 <= m.w /\ m.w <= 100) /\ (0 <= m.g /\ m.g <= 7)
instance (m : Mb) : Decidable (okM m) := by unfold okM; infer_instance
end Go.Proofs.YtbeofcbehhljdaaGreatDoor
namespace Go.Proofs.YtbeofcbehhljdaaGreatDoor
set_option linter.unusedSimpArgs false
set_option linter.unusedVariables false
open Go Go.Av
abbrev RS := Int × Int
structure Fo where
 n : Nat
 ok : List PV -> Prop
 en : List PV -> List UInt8
 sz : List PV -> Nat
 rd : List UInt8 -> RS -> List PV × RS
 ze : List PV
structure FoL (f : Fo) : Prop where
 len : ∀ cs, f.ok cs -> cs.length = f.n
 szl : ∀ cs, f.ok cs -> (f.en cs).length <= f.sz cs
 zok : f.ok f.ze
 rok : ∀ b st, f.ok (f.rd b st).1
 stk : ∀ b e a, ¬ e = 0 -> f.rd b (e, a) = (f.ze, e, a)
 took : ∀ b a cs k, f.rd b (0, a) = (cs, 0, k) -> 0 <= a /\ a <= k /\ k <= b.length /\ b.take a.toNat ++ f.en cs = b.take k.toNat
theorem rdU_inv : ∀ (l : List UInt8) (i u w k : Nat), rdU i u l = (0, w, k) -> ∃ v, w = u + v * 128 ^ i /\ i < k /\ k <= i + l.length /\ l.take (k - i) = enc v /\ (0 < i -> 0 < v)
 | [], i, u, w, k, h => by simp [rdU] at h
 | c :: r, i, u, w, k, h => by
  have hc := c.toNat_lt
  rw [rdU] at h
  split at h
  ·simp at h
  ·split at h
   ·rename_i o
    obtain ⟨v, h1, h2, h3, h4, h5⟩ := rdU_inv r (i + 1) _ w k h
    have hv := h5 (by omega)
    refine ⟨c.toNat % 128 + 128 * v, ?_, by omega, by simp only [List.length_cons]; omega, ?_, fun _ => by omega⟩
    ·rw [h1, Nat.pow_succ, Nat.mul_comm (128 ^ i), <- Nat.mul_assoc, Nat.add_mul, Nat.mul_comm v, Nat.add_assoc]
    ·rw [show k - i = (k - (i + 1)) + 1 by omega, List.take_succ_cons, h4, enc_big (u := c.toNat % 128 + 128 * v) (by omega)]
     rw [show (c.toNat % 128 + 128 * v) % 128 = c.toNat % 128 by omega, show (c.toNat % 128 + 128 * v) / 128 = v by omega]
     congr 1
     rw [<- UInt8.toNat_inj, u8_toNat _ (by omega)]; omega
   ·split at h
    ·simp at h
    ·rename_i o1 o2 o3
     simp only [Prod.mk.injEq, true_and] at h
     obtain ⟨h1, h2⟩ := h
     refine ⟨c.toNat, by rw [<- h1, Nat.mod_eq_of_lt (by omega)], by omega, by simp only [List.length_cons]; omega, ?_, fun hi => by omega⟩
     rw [show k - i = 1 by omega, enc_small (by omega)]
     simp
theorem rdU_took {l : List UInt8} {w k : Nat} (h : rdU 0 0 l = (0, w, k)) : 0 < k /\ k <= l.length /\ l.take k = enc w := by
 obtain ⟨v, h1, h2, h3, h4, -⟩ := rdU_inv l 0 0 w k h
 simp at h1 h3 h4
 subst h1
 exact ⟨h2, h3, h4⟩
theorem drop_app (p t : List UInt8) : (p ++ t).drop p.length = t := by simp
theorem int_took {b : List UInt8} {a u k : Nat} (ha : a <= b.length) (h : rdU 0 0 (b.drop a) = (0, u, k)) : a < a + k /\ a + k <= b.length /\ b.take a ++ enc u = b.take (a + k) := by
 obtain ⟨h1, h2, h3⟩ := rdU_took h
 rw [List.length_drop] at h2
 exact ⟨by omega, by omega, by rw [List.take_add, h3]⟩
def intP (b : List UInt8) (a : Int) : Int × Int × Int :=
 if a < 0 \/ (b.length : Int) < a then (0, 0, 1)
 else if (rdU 0 0 (b.drop a.toNat)).1 = 0 then (unzz (rdU 0 0 (b.drop a.toNat)).2.1, ((a.toNat + (rdU 0 0 (b.drop a.toNat)).2.2 : Nat) : Int), 0)
 else (0, 0, (rdU 0 0 (b.drop a.toNat)).1)
theorem intT_eq (b : List UInt8) (a : Int) : intT b a = .tup [.p (I (intP b a).1), .p (I (intP b a).2.1), .p (I (intP b a).2.2)] := by
 unfold intT intP rdT
 split
 ·rfl
 ·split <;> rfl
theorem ok0 : okI 0 := ⟨by decide, by decide⟩
theorem intP_ok (b : List UInt8) (a : Int) : okI (intP b a).1 := by
 unfold intP
 split
 ·exact ok0
 ·split
  ·exact unzz_ok (rdU_le _ 0 0 (by decide) (by omega)).2.2.1
  ·exact ok0
theorem intP_took {b : List UInt8} {a : Int} (h : (intP b a).2.2 = 0) : 0 <= a /\ a <= (intP b a).2.1 /\ (intP b a).2.1 <= b.length /\ b.take a.toNat ++ enc (zz (intP b a).1) = b.take (intP b a).2.1.toNat := by
 unfold intP at h ⊢
 split at h
 ·simp at h
 ·rename_i h1
  split at h
  ·rename_i h2
   rw [if_neg h1, if_pos h2]
   have ha : a.toNat <= b.length := by omega
   have he : rdU 0 0 (b.drop a.toNat) = (0, (rdU 0 0 (b.drop a.toNat)).2.1, (rdU 0 0 (b.drop a.toNat)).2.2) := by rw [<- h2]
   obtain ⟨g1, g2, g3⟩ := int_took ha he
   refine ⟨by omega, by simp only; omega, by simp only; omega, ?_⟩
   simp only [zz_unzz, Int.toNat_natCast]
   exact g3
  ·rename_i h2
   exact absurd h h2
def rdN (b : List UInt8) (st : RS) : Int × RS :=
 if st.1 = 0 then (if (intP b st.2).2.2 = 0 then ((intP b st.2).1, 0, (intP b st.2).2.1) else (0, (intP b st.2).2.2, st.2)) else (0, st)
theorem rdN_ok (b : List UInt8) (st : RS) : okI (rdN b st).1 := by
 unfold rdN
 split
 ·split
  ·exact intP_ok _ _
  ·exact ok0
 ·exact ok0
theorem rdN_stk (b : List UInt8) {e : Int} (a : Int) (h : ¬ e = 0) : rdN b (e, a) = (0, e, a) := by unfold rdN; rw [if_neg h]
theorem rdN_took {b : List UInt8} {a n k : Int} (h : rdN b (0, a) = (n, 0, k)) : 0 <= a /\ a <= k /\ k <= b.length /\ b.take a.toNat ++ enc (zz n) = b.take k.toNat := by
 unfold rdN at h
 rw [if_pos rfl] at h
 split at h
 ·rename_i h1
  simp only [Prod.mk.injEq, true_and] at h
  obtain ⟨rfl, rfl⟩ := h
  exact intP_took h1
 ·rename_i h1
  simp only [Prod.mk.injEq] at h
  exact absurd h.2.1 h1
def enI : List PV -> List UInt8
 | [.v (.int _ n)] => enc (zz n)
 | _ => []
def foI : Fo := ⟨1, fun cs => ∃ n, cs = [I n] /\ okI n, enI, fun _ => 10, fun b st => ([I (rdN b st).1], (rdN b st).2), [I 0]⟩
@[simp] theorem foI_en (n : Int) : foI.en [I n] = enc (zz n) := rfl
@[simp] theorem foI_n : foI.n = 1 := rfl
theorem foI_L : FoL foI where
 len := fun cs ⟨n, h, _⟩ => by subst h; rfl
 szl := fun cs ⟨n, h, ho⟩ => by subst h; exact enc_len10 (zz_lt ho)
 zok := ⟨0, rfl, ok0⟩
 rok := fun b st => ⟨_, rfl, rdN_ok b st⟩
 stk := fun b e a h => by show (_, _) = _; rw [rdN_stk b a h]; rfl
 took := fun b a cs k h => by
  simp only [foI, Prod.mk.injEq] at h
  obtain ⟨rfl, h⟩ := h
  have h' : rdN b (0, a) = ((rdN b (0, a)).1, 0, k) := by rw [<- h]
  exact rdN_took h'
theorem foI_got (b : List UInt8) (st : RS) : ∃ n s, foI.rd b st = ([I n], s) := ⟨_, _, rfl⟩
def textP (b : List UInt8) (a : Int) : List UInt8 × Int × Int :=
 if a < 0 \/ (b.length : Int) < a then ([], 0, 1)
 else if (lnR b.length a.toNat 0 (rdU 0 0 (b.drop a.toNat))).1 = 0 then ((b.drop (lnR b.length a.toNat 0 (rdU 0 0 (b.drop a.toNat))).2.2).take (lnR b.length a.toNat 0 (rdU 0 0 (b.drop a.toNat))).2.1, (((lnR b.length a.toNat 0 (rdU 0 0 (b.drop a.toNat))).2.2 + (lnR b.length a.toNat 0 (rdU 0 0 (b.drop a.toNat))).2.1 : Nat) : Int), 0)
 else ([], 0, (lnR b.length a.toNat 0 (rdU 0 0 (b.drop a.toNat))).1)
theorem textT_eq (b : List UInt8) (a : Int) : textT b a = .tup [.p (SB (textP b a).1), .p (I (textP b a).2.1), .p (I (textP b a).2.2)] := by
 unfold textT textP txT
 split
 ·rfl
 ·split <;> rfl
theorem textP_took {b : List UInt8} {a : Int} (h : (textP b a).2.2 = 0) : 0 <= a /\ a <= (textP b a).2.1 /\ (textP b a).2.1 <= b.length /\ b.take a.toNat ++ (enc (zz (textP b a).1.length) ++ (textP b a).1) = b.take (textP b a).2.1.toNat := by
 unfold textP at h ⊢
 split at h
 ·simp at h
 ·rename_i h1
  split at h
  ·rename_i h2
   rw [if_neg h1, if_pos h2]
   have ha : a.toNat <= b.length := by omega
   generalize hr : lnR b.length a.toNat 0 (rdU 0 0 (b.drop a.toNat)) = r at h2 ⊢
   obtain ⟨e, n, q⟩ := r
   simp only at h2
   subst h2
   obtain ⟨g1, g2, g3, g4, g5⟩ := lnR_ok hr
   have hu : rdU 0 0 (b.drop a.toNat) = (0, (rdU 0 0 (b.drop a.toNat)).2.1, (rdU 0 0 (b.drop a.toNat)).2.2) := by rw [<- g1]
   obtain ⟨k1, k2, k3⟩ := int_took ha hu
   have hz := zz_unzz (rdU 0 0 (b.drop a.toNat)).2.1
   rw [g2] at hz
   rw [<- g4] at k1 k2 k3
   have hl : ((b.drop q).take n).length = n := by rw [List.length_take, List.length_drop]; omega
   simp only [hl]
   refine ⟨by omega, by omega, by omega, ?_⟩
   rw [Int.toNat_natCast, <- List.append_assoc, hz, k3, List.take_add]
  ·rename_i h2
   exact absurd h h2
theorem textP_len (b : List UInt8) (a : Int) : (textP b a).1.length <= 65536 := by
 unfold textP
 split
 ·simp
 ·split
  ·rename_i h2
   generalize hr : lnR b.length a.toNat 0 (rdU 0 0 (b.drop a.toNat)) = r at h2 ⊢
   obtain ⟨e, n, q⟩ := r
   simp only at h2
   subst h2
   obtain ⟨g1, g2, g3, g4, g5⟩ := lnR_ok hr
   simp only [List.length_take, List.length_drop]; omega
  ·simp
def rdS (b : List UInt8) (st : RS) : List UInt8 × RS :=
 if st.1 = 0 then (if (textP b st.2).2.2 = 0 then ((textP b st.2).1, 0, (textP b st.2).2.1) else ([], (textP b st.2).2.2, st.2)) else ([], st)
theorem rdS_stk (b : List UInt8) {e : Int} (a : Int) (h : ¬ e = 0) : rdS b (e, a) = ([], e, a) := by unfold rdS; rw [if_neg h]
theorem rdS_took {b x : List UInt8} {a k : Int} (h : rdS b (0, a) = (x, 0, k)) : 0 <= a /\ a <= k /\ k <= b.length /\ b.take a.toNat ++ (enc (zz x.length) ++ x) = b.take k.toNat := by
 unfold rdS at h
 rw [if_pos rfl] at h
 split at h
 ·rename_i h1
  simp only [Prod.mk.injEq, true_and] at h
  obtain ⟨rfl, rfl⟩ := h
  exact textP_took h1
 ·rename_i h1
  simp only [Prod.mk.injEq] at h
  exact absurd h.2.1 h1
theorem rdS_len (b : List UInt8) (st : RS) : (rdS b st).1.length <= 65536 := by
 unfold rdS
 split
 ·split
  ·exact textP_len _ _
  ·simp
 ·simp
def enS : List PV -> List UInt8
 | [.v (.string s)] => enc (zz s.data.toList.length) ++ s.data.toList
 | _ => []
def szS : List PV -> Nat
 | [.v (.string s)] => 10 + s.data.toList.length
 | _ => 10
def foS : Fo := ⟨1, fun cs => ∃ s : List UInt8, cs = [SB s] /\ s.length <= 9223372036854775807, enS, szS, fun b st => ([SB (rdS b st).1], (rdS b st).2), [SB []]⟩
@[simp] theorem foS_en (s : List UInt8) : foS.en [SB s] = enc (zz s.length) ++ s := by show enc (zz (bs s).data.toList.length) ++ (bs s).data.toList = _; rw [bs_list]
@[simp] theorem foS_sz (s : List UInt8) : foS.sz [SB s] = 10 + s.length := by show 10 + (bs s).data.toList.length = _; rw [bs_list]
@[simp] theorem foS_n : foS.n = 1 := rfl
theorem foS_L : FoL foS where
 len := fun cs ⟨s, h, _⟩ => by subst h; rfl
 szl := fun cs ⟨s, h, ho⟩ => by
  subst h
  have := enc_len10 (zz_lt (n := (s.length : Int)) ⟨by omega, by omega⟩)
  rw [foS_en, foS_sz, List.length_append]; omega
 zok := ⟨[], rfl, by simp⟩
 rok := fun b st => ⟨_, rfl, by have := rdS_len b st; omega⟩
 stk := fun b e a h => by show (_, _) = _; rw [rdS_stk b a h]; rfl
 took := fun b a cs k h => by
  simp only [foS, Prod.mk.injEq] at h
  obtain ⟨rfl, h⟩ := h
  have h' : rdS b (0, a) = ((rdS b (0, a)).1, 0, k) := by rw [<- h]
  rw [foS_en]
  exact rdS_took h'
theorem foS_got (b : List UInt8) (st : RS) : ∃ n s, foS.rd b st = ([SB n], s) := ⟨_, _, rfl⟩
def rdB (b : List UInt8) (st : RS) : Bool × RS :=
 if (rdN b st).2.1 = 0 /\ ¬ ((rdN b st).1 = 0 \/ (rdN b st).1 = 1) then (false, 3, (rdN b st).2.2) else (decide ((rdN b st).1 = 1), (rdN b st).2)
def enB : List PV -> List UInt8
 | [.v (.bool x)] => enc (zz (if x = true then 1 else 0))
 | _ => []
def foB : Fo := ⟨1, fun cs => ∃ x, cs = [B x], enB, fun _ => 10, fun b st => ([B (rdB b st).1], (rdB b st).2), [B false]⟩
@[simp] theorem foB_en (x : Bool) : foB.en [B x] = enc (zz (if x = true then 1 else 0)) := rfl
@[simp] theorem foB_n : foB.n = 1 := rfl
def sq (f g : Fo) : Fo :=
 ⟨f.n + g.n, fun cs => f.ok (cs.take f.n) /\ g.ok (cs.drop f.n), fun cs => f.en (cs.take f.n) ++ g.en (cs.drop f.n), fun cs => f.sz (cs.take f.n) + g.sz (cs.drop f.n),
  fun b st => ((f.rd b st).1 ++ (g.rd b (f.rd b st).2).1, (g.rd b (f.rd b st).2).2), f.ze ++ g.ze⟩
@[simp] theorem sq_n (f g : Fo) : (sq f g).n = f.n + g.n := rfl
theorem sq_en (f g : Fo) (cs : List PV) : (sq f g).en cs = f.en (cs.take f.n) ++ g.en (cs.drop f.n) := rfl
theorem sq_sz (f g : Fo) (cs : List PV) : (sq f g).sz cs = f.sz (cs.take f.n) + g.sz (cs.drop f.n) := rfl
theorem sq_rd (f g : Fo) (b : List UInt8) (st : RS) : (sq f g).rd b st = ((f.rd b st).1 ++ (g.rd b (f.rd b st).2).1, (g.rd b (f.rd b st).2).2) := rfl
theorem take_app {α : Type} {n : Nat} {a b : List α} (h : a.length = n) : (a ++ b).take n = a := by subst h; simp
theorem drop_appN {α : Type} {n : Nat} {a b : List α} (h : a.length = n) : (a ++ b).drop n = b := by subst h; simp
theorem sq_L {f g : Fo} (hf : FoL f) (hg : FoL g) : FoL (sq f g) where
 len := fun cs ⟨h1, h2⟩ => by
  have e1 := hf.len _ h1
  have e2 := hg.len _ h2
  rw [List.length_take] at e1
  rw [List.length_drop] at e2
  show _ = f.n + g.n
  by_cases hz : f.n <= cs.length
  ·omega
  ·have : g.n = 0 := by omega
   omega
 szl := fun cs ⟨h1, h2⟩ => by
  have := hf.szl _ h1
  have := hg.szl _ h2
  rw [sq_en, sq_sz, List.length_append]; omega
 zok := by
  have e := hf.len _ hf.zok
  refine ⟨?_, ?_⟩
  ·show f.ok ((f.ze ++ g.ze).take f.n); rw [take_app e]; exact hf.zok
  ·show g.ok ((f.ze ++ g.ze).drop f.n); rw [drop_appN e]; exact hg.zok
 rok := fun b st => by
  have e := hf.len _ (hf.rok b st)
  refine ⟨?_, ?_⟩
  ·show f.ok (((f.rd b st).1 ++ _).take f.n); rw [take_app e]; exact hf.rok b st
  ·show g.ok (((f.rd b st).1 ++ _).drop f.n); rw [drop_appN e]; exact hg.rok b _
 stk := fun b e a h => by rw [sq_rd, hf.stk b e a h]; simp only; rw [hg.stk b e a h]; rfl
 took := fun b a cs k h => by
  rw [sq_rd] at h
  simp only [Prod.mk.injEq] at h
  obtain ⟨rfl, h2⟩ := h
  have e := hf.len _ (hf.rok b (0, a))
  rw [sq_en, take_app e, drop_appN e]
  generalize hr : f.rd b (0, a) = r at h2 ⊢
  obtain ⟨c1, e1, a1⟩ := r
  simp only at h2 ⊢
  by_cases h0 : e1 = 0
  ·subst h0
   obtain ⟨p1, p2, p3, p4⟩ := hf.took b a c1 a1 hr
   have h2' : g.rd b (0, a1) = ((g.rd b (0, a1)).1, 0, k) := by rw [<- h2]
   obtain ⟨q1, q2, q3, q4⟩ := hg.took b a1 _ k h2'
   exact ⟨p1, by omega, q3, by rw [<- List.append_assoc, p4, q4]⟩
  ·rw [hg.stk b e1 a1 h0] at h2
   simp only [Prod.mk.injEq] at h2
   exact absurd h2.1 h0
def rdCf (b : List UInt8) (st : RS) : Int × RS :=
 if ¬ (rdN b st).2.1 = 0 then (0, (rdN b st).2) else if (rdN b st).1 < 0 then (0, 3, (rdN b st).2.2) else if 1000 < (rdN b st).1 then (0, 5, (rdN b st).2.2) else rdN b st
theorem rdC_stk (b : List UInt8) {e : Int} (a : Int) (h : ¬ e = 0) : rdCf b (e, a) = (0, e, a) := by unfold rdCf; rw [rdN_stk b a h]; simp [h]
theorem rdC_bd (b : List UInt8) (st : RS) : 0 <= (rdCf b st).1 /\ (rdCf b st).1 <= 1000 := by
 unfold rdCf
 split
 ·simp
 ·split
  ·simp
  ·split
   ·simp
   ·omega
theorem rdC_took {b : List UInt8} {a n k : Int} (h : rdCf b (0, a) = (n, 0, k)) : 0 <= a /\ a <= k /\ k <= b.length /\ b.take a.toNat ++ enc (zz n) = b.take k.toNat := by
 unfold rdCf at h
 split at h
 ·rename_i h1
  simp only [Prod.mk.injEq] at h
  rw [h.2] at h1
  exact absurd rfl h1
 ·split at h
  ·simp at h
  ·split at h
   ·simp at h
   ·exact rdN_took h
def rdLf (rd : List UInt8 -> RS -> List PV × RS) (b : List UInt8) : Nat -> RS -> List (List PV) × RS
 | 0, st => ([], st)
 | k + 1, st => if st.1 = 0 then ((rd b st).1 :: (rdLf rd b k (rd b st).2).1, (rdLf rd b k (rd b st).2).2) else ([], st)
theorem rdL_stk (rd : List UInt8 -> RS -> List PV × RS) (b : List UInt8) (k : Nat) {e : Int} (a : Int) (h : ¬ e = 0) : rdLf rd b k (e, a) = ([], e, a) := by
 cases k with
 | zero => rfl
 | succ k => unfold rdLf; rw [if_neg h]
theorem rdL_len (rd : List UInt8 -> RS -> List PV × RS) (b : List UInt8) : ∀ k st, (rdLf rd b k st).1.length <= k /\ ((rdLf rd b k st).2.1 = 0 -> (rdLf rd b k st).1.length = k)
 | 0, st => by simp [rdLf]
 | k + 1, st => by
  unfold rdLf
  split
  ·have := rdL_len rd b k (rd b st).2
   simp only [List.length_cons]
   exact ⟨by omega, fun h => by have := this.2 h; omega⟩
  ·rename_i h
   simp [h]
def enL (f : List PV -> List UInt8) : List PV -> List UInt8
 | [.sl _ rows] => enc (zz rows.length) ++ rows.flatMap f
 | _ => []
def szL (f : List PV -> Nat) : List PV -> Nat
 | [.sl _ rows] => 10 + (rows.map f).sum
 | _ => 10
def fl (c : Nat) (f : Fo) : Fo :=
 ⟨1, fun cs => ∃ rows, cs = [.sl c rows] /\ rows.length <= 9223372036854775807 /\ ∀ r ∈ rows, f.ok r, enL f.en, szL f.sz,
  fun b st => ([.sl c (rdLf f.rd b (rdCf b st).1.toNat (rdCf b st).2).1], (rdLf f.rd b (rdCf b st).1.toNat (rdCf b st).2).2), [.sl c []]⟩
@[simp] theorem fl_n (c : Nat) (f : Fo) : (fl c f).n = 1 := rfl
theorem fl_en (c : Nat) (f : Fo) (rows : List (List PV)) : (fl c f).en [.sl c rows] = enc (zz rows.length) ++ rows.flatMap f.en := rfl
theorem fl_sz (c : Nat) (f : Fo) (rows : List (List PV)) : (fl c f).sz [.sl c rows] = 10 + (rows.map f.sz).sum := rfl
theorem rdL_took {f : Fo} (hf : FoL f) {b : List UInt8} : ∀ (k : Nat) (a z : Int), 0 <= a -> a <= b.length -> (rdLf f.rd b k (0, a)).2 = (0, z) -> a <= z /\ z <= b.length /\ b.take a.toNat ++ (rdLf f.rd b k (0, a)).1.flatMap f.en = b.take z.toNat
 | 0, a, z, h0, h1, h => by
  simp only [rdLf, Prod.mk.injEq, true_and] at h
  subst h
  exact ⟨by omega, h1, by simp [rdLf]⟩
 | k + 1, a, z, h0, h1, h => by
  unfold rdLf at h ⊢
  simp only [if_true] at h ⊢
  generalize hr : f.rd b (0, a) = r at h ⊢
  obtain ⟨c1, e1, a1⟩ := r
  simp only at h ⊢
  by_cases hz : e1 = 0
  ·subst hz
   obtain ⟨p1, p2, p3, p4⟩ := hf.took b a c1 a1 hr
   obtain ⟨q1, q2, q3⟩ := rdL_took hf k a1 z (by omega) p3 h
   refine ⟨by omega, q2, ?_⟩
   rw [List.flatMap_cons, <- List.append_assoc, p4, q3]
  ·rw [rdL_stk _ _ _ _ hz] at h
   simp only [Prod.mk.injEq] at h
   exact absurd h.1 hz
theorem rdL_ok {f : Fo} (hf : FoL f) {b : List UInt8} : ∀ (k : Nat) (st : RS), ∀ r ∈ (rdLf f.rd b k st).1, f.ok r
 | 0, st, r, h => by simp [rdLf] at h
 | k + 1, st, r, h => by
  unfold rdLf at h
  split at h
  ·rcases List.mem_cons.1 h with rfl | h
   ·exact hf.rok b st
   ·exact rdL_ok hf k _ r h
  ·simp at h
theorem flatMap_le {α : Type} {f : α -> List UInt8} {g : α -> Nat} {l : List α} (h : ∀ x ∈ l, (f x).length <= g x) : (l.flatMap f).length <= (l.map g).sum := by
 induction l with
 | nil => simp
 | cons x l ih =>
  rw [List.flatMap_cons, List.length_append, List.map_cons, List.sum_cons]
  have := h x List.mem_cons_self
  have := ih fun y hy => h y (List.mem_cons_of_mem _ hy)
  omega
theorem fl_L {f : Fo} (hf : FoL f) (c : Nat) : FoL (fl c f) where
 len := fun cs ⟨s, h, _⟩ => by subst h; rfl
 szl := fun cs ⟨rows, h, hl, ho⟩ => by
  subst h
  have := enc_len10 (zz_lt (n := (rows.length : Int)) ⟨by omega, by omega⟩)
  have := flatMap_le fun r hr => hf.szl r (ho r hr)
  rw [fl_en, fl_sz, List.length_append]; omega
 zok := ⟨[], rfl, by simp, by simp⟩
 rok := fun b st => ⟨_, rfl, by have := (rdL_len f.rd b (rdCf b st).1.toNat (rdCf b st).2).1; have := rdC_bd b st; omega, rdL_ok hf _ _⟩
 stk := fun b e a h => by show (_, _) = _; rw [rdC_stk b a h]; simp only; rw [rdL_stk _ _ _ _ h]; rfl
 took := fun b a cs k h => by
  simp only [fl, Prod.mk.injEq] at h
  obtain ⟨rfl, h⟩ := h
  rw [fl_en]
  have hb := rdC_bd b (0, a)
  have hl := rdL_len f.rd b (rdCf b (0, a)).1.toNat (rdCf b (0, a)).2
  generalize hr : rdCf b (0, a) = r at h hb hl ⊢
  obtain ⟨n, e1, a1⟩ := r
  simp only at h hb hl ⊢
  by_cases hz : e1 = 0
  ·subst hz
   obtain ⟨p1, p2, p3, p4⟩ := rdC_took hr
   obtain ⟨q1, q2, q3⟩ := rdL_took hf n.toNat a1 k (by omega) p3 h
   have hlen := hl.2 (by rw [h])
   refine ⟨p1, by omega, q2, ?_⟩
   rw [hlen, show ((n.toNat : Nat) : Int) = n by omega, <- List.append_assoc, p4, q3]
  ·rw [rdL_stk _ _ _ _ hz] at h
   simp only [Prod.mk.injEq] at h
   exact absurd h.1 hz
theorem fl_got (c : Nat) (f : Fo) (b : List UInt8) (st : RS) : ∃ n s, (fl c f).rd b st = ([.sl c n], s) := ⟨_, _, rfl⟩
def vOf : List PV -> V
 | [p] => .p p
 | cs => .p (.agg cs)
@[simp] theorem vOf1 (p : PV) : vOf [p] = .p p := rfl
@[simp] theorem vOf2 (p q : PV) (l : List PV) : vOf (p :: q :: l) = .p (.agg (p :: q :: l)) := rfl
end Go.Proofs.YtbeofcbehhljdaaGreatDoor
namespace Go.Proofs.YtbeofcbehhljdaaGreatDoor
set_option linter.unusedSimpArgs false
set_option linter.unusedVariables false
set_option maxRecDepth 8000
open Go Go.Av
theorem foI_ok {n : Int} : foI.ok [I n] ↔ okI n := ⟨fun ⟨m, h, ho⟩ => by simp only [List.cons.injEq, and_true, PV.v.injEq, Value.int.injEq, true_and] at h; rw [h]; exact ho, fun h => ⟨n, rfl, h⟩⟩
theorem foI_sh {cs : List PV} (h : foI.ok cs) : ∃ x, cs = [I x] := by obtain ⟨n, h, -⟩ := h; exact ⟨n, h⟩
theorem foS_sh {cs : List PV} (h : foS.ok cs) : ∃ x, cs = [SB x] := by obtain ⟨n, h, -⟩ := h; exact ⟨n, h⟩
theorem fl_sh {c : Nat} {f : Fo} {cs : List PV} (h : (fl c f).ok cs) : ∃ x, cs = [.sl c x] := by obtain ⟨n, h, -⟩ := h; exact ⟨n, h⟩
theorem sq_split {f g : Fo} {cs : List PV} (h : (sq f g).ok cs) : ∃ c1 c2, cs = c1 ++ c2 /\ f.ok c1 /\ g.ok c2 := ⟨cs.take f.n, cs.drop f.n, (List.take_append_drop _ _).symm, h.1, h.2⟩
theorem fl_ok {c : Nat} {f : Fo} {rows : List (List PV)} (h : (fl c f).ok [.sl c rows]) : rows.length <= 9223372036854775807 /\ ∀ r ∈ rows, f.ok r := by
 obtain ⟨n, h, ho⟩ := h
 simp only [List.cons.injEq, and_true, PV.sl.injEq, true_and] at h
 rw [h]; exact ho
def fZx : Fo := sq foI foI
theorem fZx_L : FoL fZx := sq_L foI_L foI_L
theorem fZx_sh {cs : List PV} (h : fZx.ok cs) : ∃ x0 x1, cs = [I x0, I x1] /\ foI.ok [I x0] /\ foI.ok [I x1] := by
 obtain ⟨_, _, rfl, h0, g0⟩ := sq_split h
 obtain ⟨x0, rfl⟩ := foI_sh h0
 have h1 := g0
 obtain ⟨x1, rfl⟩ := foI_sh h1
 exact ⟨x0, x1, rfl, h0, h1⟩
theorem fZx_got (b : List UInt8) (st : RS) : ∃ x0 x1 s, fZx.rd b st = ([I x0, I x1], s) := by
 obtain ⟨x0, x1, h, -⟩ := fZx_sh (fZx_L.rok b st)
 exact ⟨x0, x1, (fZx.rd b st).2, by rw [<- h]⟩
theorem fZx_en (x0 : Int) (x1 : Int) : fZx.en [I x0, I x1] = foI.en [I x0] ++ (foI.en [I x1]) := rfl
def fMb : Fo := sq foI (sq foI (sq foI foI))
theorem fMb_L : FoL fMb := sq_L foI_L (sq_L foI_L (sq_L foI_L foI_L))
theorem fMb_sh {cs : List PV} (h : fMb.ok cs) : ∃ x0 x1 x2 x3, cs = [I x0, I x1, I x2, I x3] /\ foI.ok [I x0] /\ foI.ok [I x1] /\ foI.ok [I x2] /\ foI.ok [I x3] := by
 obtain ⟨_, _, rfl, h0, g0⟩ := sq_split h
 obtain ⟨x0, rfl⟩ := foI_sh h0
 obtain ⟨_, _, rfl, h1, g1⟩ := sq_split g0
 obtain ⟨x1, rfl⟩ := foI_sh h1
 obtain ⟨_, _, rfl, h2, g2⟩ := sq_split g1
 obtain ⟨x2, rfl⟩ := foI_sh h2
 have h3 := g2
 obtain ⟨x3, rfl⟩ := foI_sh h3
 exact ⟨x0, x1, x2, x3, rfl, h0, h1, h2, h3⟩
theorem fMb_got (b : List UInt8) (st : RS) : ∃ x0 x1 x2 x3 s, fMb.rd b st = ([I x0, I x1, I x2, I x3], s) := by
 obtain ⟨x0, x1, x2, x3, h, -⟩ := fMb_sh (fMb_L.rok b st)
 exact ⟨x0, x1, x2, x3, (fMb.rd b st).2, by rw [<- h]⟩
theorem fMb_en (x0 : Int) (x1 : Int) (x2 : Int) (x3 : Int) : fMb.en [I x0, I x1, I x2, I x3] = foI.en [I x0] ++ (foI.en [I x1] ++ (foI.en [I x2] ++ (foI.en [I x3]))) := rfl
def fCf : Fo := sq fZx (sq foI (fl 4 fMb))
theorem fCf_L : FoL fCf := sq_L fZx_L (sq_L foI_L (fl_L fMb_L 4))
theorem fCf_sh {cs : List PV} (h : fCf.ok cs) : ∃ x0 x1 x2 x3, cs = [I x0, I x1, I x2, .sl 4 x3] /\ fZx.ok [I x0, I x1] /\ foI.ok [I x2] /\ (fl 4 fMb).ok [.sl 4 x3] := by
 obtain ⟨_, _, rfl, h0, g0⟩ := sq_split h
 obtain ⟨x0, x1, rfl, -⟩ := fZx_sh h0
 obtain ⟨_, _, rfl, h1, g1⟩ := sq_split g0
 obtain ⟨x2, rfl⟩ := foI_sh h1
 have h2 := g1
 obtain ⟨x3, rfl⟩ := fl_sh h2
 exact ⟨x0, x1, x2, x3, rfl, h0, h1, h2⟩
theorem fCf_got (b : List UInt8) (st : RS) : ∃ x0 x1 x2 x3 s, fCf.rd b st = ([I x0, I x1, I x2, .sl 4 x3], s) := by
 obtain ⟨x0, x1, x2, x3, h, -⟩ := fCf_sh (fCf_L.rok b st)
 exact ⟨x0, x1, x2, x3, (fCf.rd b st).2, by rw [<- h]⟩
theorem fCf_en (x0 : Int) (x1 : Int) (x2 : Int) (x3 : List (List PV)) : fCf.en [I x0, I x1, I x2, .sl 4 x3] = fZx.en [I x0, I x1] ++ (foI.en [I x2] ++ ((fl 4 fMb).en [.sl 4 x3])) := rfl
def fNd : Fo := sq foS (sq foS (sq foI (sq foI foI)))
theorem fNd_L : FoL fNd := sq_L foS_L (sq_L foS_L (sq_L foI_L (sq_L foI_L foI_L)))
theorem fNd_sh {cs : List PV} (h : fNd.ok cs) : ∃ x0 x1 x2 x3 x4, cs = [SB x0, SB x1, I x2, I x3, I x4] /\ foS.ok [SB x0] /\ foS.ok [SB x1] /\ foI.ok [I x2] /\ foI.ok [I x3] /\ foI.ok [I x4] := by
 obtain ⟨_, _, rfl, h0, g0⟩ := sq_split h
 obtain ⟨x0, rfl⟩ := foS_sh h0
 obtain ⟨_, _, rfl, h1, g1⟩ := sq_split g0
 obtain ⟨x1, rfl⟩ := foS_sh h1
 obtain ⟨_, _, rfl, h2, g2⟩ := sq_split g1
 obtain ⟨x2, rfl⟩ := foI_sh h2
 obtain ⟨_, _, rfl, h3, g3⟩ := sq_split g2
 obtain ⟨x3, rfl⟩ := foI_sh h3
 have h4 := g3
 obtain ⟨x4, rfl⟩ := foI_sh h4
 exact ⟨x0, x1, x2, x3, x4, rfl, h0, h1, h2, h3, h4⟩
theorem fNd_got (b : List UInt8) (st : RS) : ∃ x0 x1 x2 x3 x4 s, fNd.rd b st = ([SB x0, SB x1, I x2, I x3, I x4], s) := by
 obtain ⟨x0, x1, x2, x3, x4, h, -⟩ := fNd_sh (fNd_L.rok b st)
 exact ⟨x0, x1, x2, x3, x4, (fNd.rd b st).2, by rw [<- h]⟩
theorem fNd_en (x0 : List UInt8) (x1 : List UInt8) (x2 : Int) (x3 : Int) (x4 : Int) : fNd.en [SB x0, SB x1, I x2, I x3, I x4] = foS.en [SB x0] ++ (foS.en [SB x1] ++ (foI.en [I x2] ++ (foI.en [I x3] ++ (foI.en [I x4])))) := rfl
def fPt : Fo := sq foI (sq fNd (sq foI fCf))
theorem fPt_L : FoL fPt := sq_L foI_L (sq_L fNd_L (sq_L foI_L fCf_L))
theorem fPt_sh {cs : List PV} (h : fPt.ok cs) : ∃ x0 x1 x2 x3 x4 x5 x6 x7 x8 x9 x10, cs = [I x0, SB x1, SB x2, I x3, I x4, I x5, I x6, I x7, I x8, I x9, .sl 4 x10] /\ foI.ok [I x0] /\ fNd.ok [SB x1, SB x2, I x3, I x4, I x5] /\ foI.ok [I x6] /\ fCf.ok [I x7, I x8, I x9, .sl 4 x10] := by
 obtain ⟨_, _, rfl, h0, g0⟩ := sq_split h
 obtain ⟨x0, rfl⟩ := foI_sh h0
 obtain ⟨_, _, rfl, h1, g1⟩ := sq_split g0
 obtain ⟨x1, x2, x3, x4, x5, rfl, -⟩ := fNd_sh h1
 obtain ⟨_, _, rfl, h2, g2⟩ := sq_split g1
 obtain ⟨x6, rfl⟩ := foI_sh h2
 have h3 := g2
 obtain ⟨x7, x8, x9, x10, rfl, -⟩ := fCf_sh h3
 exact ⟨x0, x1, x2, x3, x4, x5, x6, x7, x8, x9, x10, rfl, h0, h1, h2, h3⟩
theorem fPt_got (b : List UInt8) (st : RS) : ∃ x0 x1 x2 x3 x4 x5 x6 x7 x8 x9 x10 s, fPt.rd b st = ([I x0, SB x1, SB x2, I x3, I x4, I x5, I x6, I x7, I x8, I x9, .sl 4 x10], s) := by
 obtain ⟨x0, x1, x2, x3, x4, x5, x6, x7, x8, x9, x10, h, -⟩ := fPt_sh (fPt_L.rok b st)
 exact ⟨x0, x1, x2, x3, x4, x5, x6, x7, x8, x9, x10, (fPt.rd b st).2, by rw [<- h]⟩
theorem fPt_en (x0 : Int) (x1 : List UInt8) (x2 : List UInt8) (x3 : Int) (x4 : Int) (x5 : Int) (x6 : Int) (x7 : Int) (x8 : Int) (x9 : Int) (x10 : List (List PV)) : fPt.en [I x0, SB x1, SB x2, I x3, I x4, I x5, I x6, I x7, I x8, I x9, .sl 4 x10] = foI.en [I x0] ++ (fNd.en [SB x1, SB x2, I x3, I x4, I x5] ++ (foI.en [I x6] ++ (fCf.en [I x7, I x8, I x9, .sl 4 x10]))) := rfl
def fTx : Fo := sq fZx (sq foI (sq foI (sq foI (sq foI (sq foS (fl 11 fPt))))))
theorem fTx_L : FoL fTx := sq_L fZx_L (sq_L foI_L (sq_L foI_L (sq_L foI_L (sq_L foI_L (sq_L foS_L (fl_L fPt_L 11))))))
theorem fTx_sh {cs : List PV} (h : fTx.ok cs) : ∃ x0 x1 x2 x3 x4 x5 x6 x7, cs = [I x0, I x1, I x2, I x3, I x4, I x5, SB x6, .sl 11 x7] /\ fZx.ok [I x0, I x1] /\ foI.ok [I x2] /\ foI.ok [I x3] /\ foI.ok [I x4] /\ foI.ok [I x5] /\ foS.ok [SB x6] /\ (fl 11 fPt).ok [.sl 11 x7] := by
 obtain ⟨_, _, rfl, h0, g0⟩ := sq_split h
 obtain ⟨x0, x1, rfl, -⟩ := fZx_sh h0
 obtain ⟨_, _, rfl, h1, g1⟩ := sq_split g0
 obtain ⟨x2, rfl⟩ := foI_sh h1
 obtain ⟨_, _, rfl, h2, g2⟩ := sq_split g1
 obtain ⟨x3, rfl⟩ := foI_sh h2
 obtain ⟨_, _, rfl, h3, g3⟩ := sq_split g2
 obtain ⟨x4, rfl⟩ := foI_sh h3
 obtain ⟨_, _, rfl, h4, g4⟩ := sq_split g3
 obtain ⟨x5, rfl⟩ := foI_sh h4
 obtain ⟨_, _, rfl, h5, g5⟩ := sq_split g4
 obtain ⟨x6, rfl⟩ := foS_sh h5
 have h6 := g5
 obtain ⟨x7, rfl⟩ := fl_sh h6
 exact ⟨x0, x1, x2, x3, x4, x5, x6, x7, rfl, h0, h1, h2, h3, h4, h5, h6⟩
theorem fTx_got (b : List UInt8) (st : RS) : ∃ x0 x1 x2 x3 x4 x5 x6 x7 s, fTx.rd b st = ([I x0, I x1, I x2, I x3, I x4, I x5, SB x6, .sl 11 x7], s) := by
 obtain ⟨x0, x1, x2, x3, x4, x5, x6, x7, h, -⟩ := fTx_sh (fTx_L.rok b st)
 exact ⟨x0, x1, x2, x3, x4, x5, x6, x7, (fTx.rd b st).2, by rw [<- h]⟩
theorem fTx_en (x0 : Int) (x1 : Int) (x2 : Int) (x3 : Int) (x4 : Int) (x5 : Int) (x6 : List UInt8) (x7 : List (List PV)) : fTx.en [I x0, I x1, I x2, I x3, I x4, I x5, SB x6, .sl 11 x7] = fZx.en [I x0, I x1] ++ (foI.en [I x2] ++ (foI.en [I x3] ++ (foI.en [I x4] ++ (foI.en [I x5] ++ (foS.en [SB x6] ++ ((fl 11 fPt).en [.sl 11 x7])))))) := rfl
theorem flatMap_snoc {α : Type} {f : α -> List UInt8} {l : List α} {k : Nat} (h : k < l.length) : (l.take (k + 1)).flatMap f = (l.take k).flatMap f ++ f l[k] := by
 rw [List.take_succ_eq_append_getElem h]; simp only [List.flatMap_append, List.flatMap_cons, List.flatMap_nil, List.append_nil]
theorem flatMap_take_le {α : Type} (f : α -> List UInt8) (l : List α) (k : Nat) : ((l.take k).flatMap f).length <= (l.flatMap f).length := by
 have : l.flatMap f = (l.take k).flatMap f ++ (l.drop k).flatMap f := by rw [<- List.flatMap_append, List.take_append_drop]
 rw [this, List.length_append]; omega
theorem wFrzRg [Glob] {P : Program} {T : TypeId -> Option Ty} {N : Nat} {ops : Array Oper} {o : Oper} {rest : List Oper} {st : St} {K : St -> Prop} {Z : Value -> St -> Prop} (b : Nat) {e c : Nat} (X : List (List PV)) (hb : st.b b = some (.row e c X)) (h : WO P T N ops (o :: rest) (Av.frz st b c X) K Z) : WO P T N ops (o :: rest) st K Z := by
 refine wFrz [.frz b] ?_
 have e0 : frzL st [.frz b] = Av.frz st b c X := by simp only [frzL, gh1, hb]
 rw [e0]
 exact h
end Go.Proofs.YtbeofcbehhljdaaGreatDoor
namespace Go.Proofs.YtbeofcbehhljdaaGreatDoor
set_option linter.unusedSimpArgs false
set_option linter.unusedVariables false
open Go Go.Av
attribute [local irreducible] Go.Av.CallK Go.Av.CallE Go.Av.CallQ Go.Av.CallF Go.Av.CallR Go.Av.CallH Go.Av.Con
abbrev wB (l : List UInt8) : List Blk := [.box 113 [.row 1025], .row 5 1 (by8 l)]
abbrev WCon (g : FuncId) (args : List V) (l m : List UInt8) : Prop := Con Tryz.prog g (.ptr 1024 0 :: args) (wB l) (.ret (.tup []) [] (wB m))
theorem wnumber_con (l : List UInt8) (n : Int) (ho : okI n) (h : l.length <= 1000000000) : WCon 77 [.p (I n)] l (l ++ enc (zz n)) := by
 have c := (putInt_con [] n ho (by simp)).toPure
 rw [List.nil_append] at c
 have hel := enc_len10 (zz_lt ho)
 have hx := by8_app l (enc (zz n))
 generalize enc (zz n) = z at c hel hx ⊢
 simp only [show by8 [] = [] from rfl] at c
 refine wBodyG Tryz.tab Tryz.mixed Tryz.func77 rfl rfl Tryz.ntmps77 (by simp) (by simp) fun Q hr hn hp => ?_
 repeat' first | (refine And.intro (by (try simp only [by8_len]); omega) ?_) | (refine hK _ ?_; clear hK) | (refine hK _ _ ?_; clear hK) | (clear hK; refine hK _ ?_; clear hK) | (clear hK; clear hK; refine hK _ ?_; clear hK) | (clear hK; clear hK; clear hK; refine hK _ ?_; clear hK) | (clear hK; clear hK; clear hK; clear hK; refine hK _ ?_; clear hK) | (refine wSeq fun K hK => ?_) | ((first | refine wReg ?_ | refine wDrwQ rfl (by kernel_rfl) ?_ | refine wDrwI ?_ | refine wDrw (by kernel_rfl) ?_); simp only [List.map_cons, List.map_nil, strip]) | ((first | refine wIs fun K hK => ?_ | refine wOs fun K hK => ?_ | refine wQs fun K hK => ?_ | refine CallK_plain ?_ | refine CallQ_plain ?_ | refine CallR_plain ?_ | refine wCond ?_); simp [hx]) | (refine wIn ?_; refine And.intro (by kernel_rfl) ?_; try simp only [thenA_n]) | (first | refine wBlock ?_ | refine wScope ?_) | ((first | refine wRet ?_ | refine wExit ?_ | refine wSkip ?_); try simp) | ((first | refine wLabel ?_ | refine wOn ?_ | refine wQn ?_); try simp only [thenA_n]) | (refine CallE.pure (c) rfl ?_) | (refine CallE.lent (c) rfl ?_) | (refine CallF.pure (c) rfl ?_) | (refine CallF.lent (c) rfl ?_) | (refine CallE.own (c) ?_) | (refine CallH.pure (c) rfl ?_) | (refine CallH.lent (c) rfl ?_) | (refine CallH.own (c) ?_)
 all_goals first | apply hn | apply hr
 all_goals refine ⟨[], by simp, by simp, ?_⟩
 all_goals simp [Tryz.f77, outR, outB, renB, gaN, hx]
def encX (x : List UInt8) : List UInt8 := enc (zz x.length) ++ x
theorem wtext_con (l x : List UInt8) (hx : x.length <= 100000000) (h : l.length <= 1000000000) : WCon 59 [.p (SB x)] l (l ++ encX x) := by
 have c := (putText_con [] x (by simp) (by omega)).toPure
 rw [List.nil_append] at c
 have hel := enc_len10 (zz_lt (zz_len x.length (by omega)))
 have hlx : (encX x).length <= 100000010 := by unfold encX; rw [List.length_append]; omega
 change ACon _ _ [.p (.sl 1 (by8 [])), .p (SB x)] (.p (.sl 1 (by8 (encX x)))) at c
 have hx := by8_app l (encX x)
 generalize encX x = z at c hlx hx ⊢
 simp only [show by8 [] = [] from rfl] at c
 refine wBodyG Tryz.tab Tryz.mixed Tryz.func59 rfl rfl Tryz.ntmps59 (by simp) (by simp) fun Q hr hn hp => ?_
 repeat' first | (refine And.intro (by (try simp only [by8_len]); omega) ?_) | (refine hK _ ?_; clear hK) | (refine hK _ _ ?_; clear hK) | (clear hK; refine hK _ ?_; clear hK) | (clear hK; clear hK; refine hK _ ?_; clear hK) | (clear hK; clear hK; clear hK; refine hK _ ?_; clear hK) | (clear hK; clear hK; clear hK; clear hK; refine hK _ ?_; clear hK) | (refine wSeq fun K hK => ?_) | ((first | refine wReg ?_ | refine wDrwQ rfl (by kernel_rfl) ?_ | refine wDrwI ?_ | refine wDrw (by kernel_rfl) ?_); simp only [List.map_cons, List.map_nil, strip]) | ((first | refine wIs fun K hK => ?_ | refine wOs fun K hK => ?_ | refine wQs fun K hK => ?_ | refine CallK_plain ?_ | refine CallQ_plain ?_ | refine CallR_plain ?_ | refine wCond ?_); simp [hx]) | (refine wIn ?_; refine And.intro (by kernel_rfl) ?_; try simp only [thenA_n]) | (first | refine wBlock ?_ | refine wScope ?_) | ((first | refine wRet ?_ | refine wExit ?_ | refine wSkip ?_); try simp) | ((first | refine wLabel ?_ | refine wOn ?_ | refine wQn ?_); try simp only [thenA_n]) | (refine CallE.pure (c) rfl ?_) | (refine CallE.lent (c) rfl ?_) | (refine CallF.pure (c) rfl ?_) | (refine CallF.lent (c) rfl ?_) | (refine CallE.own (c) ?_) | (refine CallH.pure (c) rfl ?_) | (refine CallH.lent (c) rfl ?_) | (refine CallH.own (c) ?_)
 all_goals first | apply hn | apply hr
 all_goals refine ⟨[], by simp, by simp, ?_⟩
 all_goals simp [Tryz.f59, outR, outB, renB, gaN, hx]
def catI (l : List Int) : List UInt8 := l.flatMap fun n => enc (zz n)
theorem catI_snoc {l : List Int} {k : Nat} (h : k < l.length) : catI (l.take (k + 1)) = catI (l.take k) ++ enc (zz l[k]) := by
 rw [List.take_succ_eq_append_getElem h]; simp only [catI, List.flatMap_append, List.flatMap_cons, List.flatMap_nil, List.append_nil]
set_option maxHeartbeats 1000000 in
theorem wnumbers_con (b : List UInt8) (l : List Int) (ho : ∀ n ∈ l, okI n) (hl : l.length <= 1000000) (h : b.length <= 900000000) : WCon 58 [.p (.sl 1 (ints l))] b (b ++ catI l) := by
 refine wBodyG Tryz.tab Tryz.mixed Tryz.func58 rfl rfl Tryz.ntmps58 (by simp) (by simp) fun Q hr hn hp => ?_
 repeat' first | (refine hK _ ?_; clear hK) | (refine hK _ _ ?_; clear hK) | (clear hK; refine hK _ ?_; clear hK) | (clear hK; clear hK; refine hK _ ?_; clear hK) | (clear hK; clear hK; clear hK; refine hK _ ?_; clear hK) | (clear hK; clear hK; clear hK; clear hK; refine hK _ ?_; clear hK) | (refine wSeq fun K hK => ?_) | ((first | refine wReg ?_ | refine wDrwQ rfl (by kernel_rfl) ?_ | refine wDrwI ?_ | refine wDrw (by kernel_rfl) ?_); simp only [List.map_cons, List.map_nil, strip]) | ((first | refine wIs fun K hK => ?_ | refine wOs fun K hK => ?_ | refine wQs fun K hK => ?_ | refine CallK_plain ?_ | refine CallQ_plain ?_ | refine CallR_plain ?_ | refine wCond ?_); simp) | (refine wIn ?_; refine And.intro (by kernel_rfl) ?_; try simp only [thenA_n]) | (first | refine wBlock ?_ | refine wScope ?_) | ((first | refine wRet ?_ | refine wExit ?_ | refine wSkip ?_); try simp) | ((first | refine wLabel ?_ | refine wOn ?_ | refine wQn ?_); try simp only [thenA_n])
 refine wLoop (fun N st => ∃ k p, k + N = l.length /\ p = b ++ catI (l.take k) /\ p.length <= b.length + 10 * k /\ st.s 0 = .ptr 1024 0 /\ st.s 6 = .p (.sl 1 (ints l)) /\ st.s 7 = .p (I l.length) /\ st.s 8 = .p (I k) /\ st.b 1024 = some (.box 113 [.row 1025]) /\ st.b 1025 = some (.row 5 1 (by8 p))) l.length ⟨0, b, by simp [catI]⟩ fun K N st hL ⟨k, p, hk, hp, hpl, g0, g6, g7, g8, b0, b1⟩ => ?_
 by_cases hlt : k < l.length
 ·have hlt' : (k : Int) < l.length := by omega
  have hw := wrapS k _ hlt (by omega)
  have he := ints_get hlt
  have hq1 : (ints l)[k]'(by simpa using hlt) = [I l[k]] := by simp [ints]
  have hon := ho l[k] (List.getElem_mem hlt)
  have c := wnumber_con p l[k] hon (by omega)
  have hel := enc_len10 (zz_lt hon)
  have hsn := catI_snoc hlt
  have hpp : p ++ enc (zz l[k]) = b ++ catI (l.take (k + 1)) := by rw [hsn, hp, List.append_assoc]
  have hpl2 : (p ++ enc (zz l[k])).length <= b.length + 10 * (k + 1) := by rw [List.length_append]; omega
  generalize p ++ enc (zz l[k]) = p2 at c hpp hpl2
  generalize l[k] = n at he hq1 c
  repeat' first | (refine CallK_gen [1024, 1025] c (by decide) (by decide) (by simp [blksOf, inN, pos, renB, ren0, b0, b1]) (by simp [argsG, argG, ren0, inN, pos, renCs, renC]) ⟨[], by simp, by simp, ?_⟩; simp [lv, ouN, kpI, kpR, pos, ren, ren0, renB, renC, renCs, b0, b1]) | (refine hK _ ?_; clear hK) | (refine hK _ _ ?_; clear hK) | (clear hK; refine hK _ ?_; clear hK) | (clear hK; clear hK; refine hK _ ?_; clear hK) | (clear hK; clear hK; clear hK; refine hK _ ?_; clear hK) | (clear hK; clear hK; clear hK; clear hK; refine hK _ ?_; clear hK) | (refine wSeq fun K hK => ?_) | ((first | refine wReg ?_ | refine wDrwQ rfl (by kernel_rfl) ?_ | refine wDrwI ?_ | refine wDrw (by kernel_rfl) ?_); simp only [List.map_cons, List.map_nil, strip]) | ((first | refine wIs fun K hK => ?_ | refine wOs fun K hK => ?_ | refine wQs fun K hK => ?_ | refine CallK_plain ?_ | refine CallQ_plain ?_ | refine CallR_plain ?_ | refine wCond ?_); simp [g0, g6, g7, g8, b0, b1, hlt, hlt', hw, he, hq1]) | (refine wIn ?_; refine And.intro (by kernel_rfl) ?_; try simp only [thenA_n]) | (first | refine wBlock ?_ | refine wScope ?_) | ((first | refine wRet ?_ | refine wExit ?_ | refine wSkip ?_); try simp) | ((first | refine wLabel ?_ | refine wOn ?_ | refine wQn ?_); try simp only [thenA_n])
  refine hL _ (N - 1) (by omega) ⟨k + 1, p2, by omega, hpp, hpl2, ?_⟩
  simp [g0, g6, g7, g8, b0, b1, hw, lv, ouN, kpI, kpR, pos, ren, ren0, renB, renC, renCs]
 ·have hlt' : ¬ (k : Int) < l.length := by omega
  rw [List.take_of_length_le (by omega)] at hp
  subst hp
  repeat' first | (refine hK _ ?_; clear hK) | (refine hK _ _ ?_; clear hK) | (clear hK; refine hK _ ?_; clear hK) | (clear hK; clear hK; refine hK _ ?_; clear hK) | (clear hK; clear hK; clear hK; refine hK _ ?_; clear hK) | (clear hK; clear hK; clear hK; clear hK; refine hK _ ?_; clear hK) | (refine wSeq fun K hK => ?_) | ((first | refine wReg ?_ | refine wDrwQ rfl (by kernel_rfl) ?_ | refine wDrwI ?_ | refine wDrw (by kernel_rfl) ?_); simp only [List.map_cons, List.map_nil, strip]) | ((first | refine wIs fun K hK => ?_ | refine wOs fun K hK => ?_ | refine wQs fun K hK => ?_ | refine CallK_plain ?_ | refine CallQ_plain ?_ | refine CallR_plain ?_ | refine wCond ?_); simp [g0, g6, g7, g8, b0, b1, hlt, hlt']) | (refine wIn ?_; refine And.intro (by kernel_rfl) ?_; try simp only [thenA_n]) | (first | refine wBlock ?_ | refine wScope ?_) | ((first | refine wRet ?_ | refine wExit ?_ | refine wSkip ?_); try simp) | ((first | refine wLabel ?_ | refine wOn ?_ | refine wQn ?_); try simp only [thenA_n])
  all_goals first | apply hn | apply hr
  all_goals refine ⟨[], by simp, by simp, ?_⟩
  all_goals simp [Tryz.f58, outR, outB, renB, gaN, b0, b1]
end Go.Proofs.YtbeofcbehhljdaaGreatDoor
namespace Go.Proofs.YtbeofcbehhljdaaGreatDoor
set_option linter.unusedSimpArgs false
set_option linter.unusedVariables false
set_option maxRecDepth 8000
open Go Go.Av
attribute [local irreducible] Go.Av.CallK Go.Av.CallE Go.Av.CallQ Go.Av.CallF Go.Av.CallR Go.Av.CallH Go.Av.Con
theorem catI2 (a b : Int) : catI [a, b] = foI.en [I a] ++ foI.en [I b] := by simp [catI]
theorem catI3 (a b c : Int) : catI [a, b, c] = foI.en [I a] ++ (foI.en [I b] ++ foI.en [I c]) := by simp [catI]
theorem catI4 (a b c d : Int) : catI [a, b, c, d] = foI.en [I a] ++ (foI.en [I b] ++ (foI.en [I c] ++ foI.en [I d])) := by simp [catI]
theorem wnumF (b : List UInt8) (n : Int) (ho : foI.ok [I n]) (h : (b ++ foI.en [I n]).length <= 30000000) : WCon 77 [.p (I n)] b (b ++ foI.en [I n]) :=
 wnumber_con b n (foI_ok.1 ho) (by rw [List.length_append] at h; omega)
theorem wtextF (b s : List UInt8) (ho : foS.ok [SB s]) (h : (b ++ foS.en [SB s]).length <= 30000000) : WCon 59 [.p (SB s)] b (b ++ foS.en [SB s]) := by
 rw [foS_en] at h ⊢
 simp only [List.length_append] at h
 exact wtext_con b s (by omega) (by omega)
theorem wnumsF (b : List UInt8) (l : List Int) (ho : ∀ n ∈ l, okI n) (hl : l.length <= 1000) (h : (b ++ catI l).length <= 30000000) : WCon 58 [.p (.sl 1 (ints l))] b (b ++ catI l) :=
 wnumbers_con b l ho (by omega) (by rw [List.length_append] at h; omega)
set_option maxHeartbeats 2000000 in
theorem wZx (b : List UInt8) (cs : List PV) (hk : fZx.ok cs) (h : (b ++ fZx.en cs).length <= 30000000) : WCon 57 [vOf cs] b (b ++ fZx.en cs) := by
 obtain ⟨x0, x1, rfl, k0, k1⟩ := fZx_sh hk
 have hres : b ++ fZx.en [I x0, I x1] = b ++ catI [x0, x1] := by rw [fZx_en]; simp only [catI2, catI3, catI4, List.append_assoc]
 rw [hres] at h ⊢
 clear hres
 have c0 := wnumsF b [x0, x1] (by intro n hn; simp at hn; rcases hn with rfl | rfl <;> simp only [<- foI_ok] <;> assumption) (by simp) h
 generalize b ++ catI [x0, x1] = y1 at *
 simp only [vOf2, ints, List.map_cons, List.map_nil] at *
 refine wBodyG Tryz.tab Tryz.mixed Tryz.func57 rfl rfl Tryz.ntmps57 (by simp) (by simp) fun Q hr hn hp => ?_
 repeat' first | (refine CallK_gen [1024, 1025] c0 (by decide) (by decide) (by simp [blksOf, inN, pos, renB, ren0, ouN, lv, kpI, kpR]) (by simp [argsG, argG, ren0, inN, pos, renCs, renC]) ⟨[], by simp, by simp, ?_⟩; simp [lv, ouN, kpI, kpR, pos, ren, ren0, renB, renC, renCs]; clear c0) | (refine hK _ ?_; clear hK) | (refine hK _ _ ?_; clear hK) | (clear hK; refine hK _ ?_; clear hK) | (clear hK; clear hK; refine hK _ ?_; clear hK) | (clear hK; clear hK; clear hK; refine hK _ ?_; clear hK) | (clear hK; clear hK; clear hK; clear hK; refine hK _ ?_; clear hK) | (refine wSeq fun K hK => ?_) | ((first | refine wReg ?_ | refine wDrwQ rfl (by kernel_rfl) ?_ | refine wDrwI ?_ | refine wDrw (by kernel_rfl) ?_); simp only [List.map_cons, List.map_nil, strip]) | ((first | refine wIs fun K hK => ?_ | refine wOs fun K hK => ?_ | refine wQs fun K hK => ?_ | refine CallK_plain ?_ | refine CallQ_plain ?_ | refine CallR_plain ?_ | refine wCond ?_); simp [lv, ouN, kpI, kpR, pos, ren, ren0, renB, renC, renCs]) | (refine wIn ?_; refine And.intro (by kernel_rfl) ?_; try simp only [thenA_n]) | (first | refine wBlock ?_ | refine wScope ?_) | ((first | refine wRet ?_ | refine wExit ?_ | refine wSkip ?_); try simp) | ((first | refine wLabel ?_ | refine wOn ?_ | refine wQn ?_); try simp only [thenA_n])
 all_goals first | apply hn | apply hr
 all_goals refine ⟨[], by simp, by simp, ?_⟩
 all_goals simp [Tryz.f57, outR, outB, renB, gaN, lv, ouN, kpI, kpR, pos, ren, ren0, renC, renCs]
set_option maxHeartbeats 2000000 in
theorem wMb (b : List UInt8) (cs : List PV) (hk : fMb.ok cs) (h : (b ++ fMb.en cs).length <= 30000000) : WCon 94 [vOf cs] b (b ++ fMb.en cs) := by
 obtain ⟨x0, x1, x2, x3, rfl, k0, k1, k2, k3⟩ := fMb_sh hk
 have hres : b ++ fMb.en [I x0, I x1, I x2, I x3] = b ++ catI [x0, x1, x2, x3] := by rw [fMb_en]; simp only [catI2, catI3, catI4, List.append_assoc]
 rw [hres] at h ⊢
 clear hres
 have c0 := wnumsF b [x0, x1, x2, x3] (by intro n hn; simp at hn; rcases hn with rfl | rfl | rfl | rfl <;> simp only [<- foI_ok] <;> assumption) (by simp) h
 generalize b ++ catI [x0, x1, x2, x3] = y1 at *
 simp only [vOf2, ints, List.map_cons, List.map_nil] at *
 refine wBodyG Tryz.tab Tryz.mixed Tryz.func94 rfl rfl Tryz.ntmps94 (by simp) (by simp) fun Q hr hn hp => ?_
 repeat' first | (refine CallK_gen [1024, 1025] c0 (by decide) (by decide) (by simp [blksOf, inN, pos, renB, ren0, ouN, lv, kpI, kpR]) (by simp [argsG, argG, ren0, inN, pos, renCs, renC]) ⟨[], by simp, by simp, ?_⟩; simp [lv, ouN, kpI, kpR, pos, ren, ren0, renB, renC, renCs]; clear c0) | (refine hK _ ?_; clear hK) | (refine hK _ _ ?_; clear hK) | (clear hK; refine hK _ ?_; clear hK) | (clear hK; clear hK; refine hK _ ?_; clear hK) | (clear hK; clear hK; clear hK; refine hK _ ?_; clear hK) | (clear hK; clear hK; clear hK; clear hK; refine hK _ ?_; clear hK) | (refine wSeq fun K hK => ?_) | ((first | refine wReg ?_ | refine wDrwQ rfl (by kernel_rfl) ?_ | refine wDrwI ?_ | refine wDrw (by kernel_rfl) ?_); simp only [List.map_cons, List.map_nil, strip]) | ((first | refine wIs fun K hK => ?_ | refine wOs fun K hK => ?_ | refine wQs fun K hK => ?_ | refine CallK_plain ?_ | refine CallQ_plain ?_ | refine CallR_plain ?_ | refine wCond ?_); simp [lv, ouN, kpI, kpR, pos, ren, ren0, renB, renC, renCs]) | (refine wIn ?_; refine And.intro (by kernel_rfl) ?_; try simp only [thenA_n]) | (first | refine wBlock ?_ | refine wScope ?_) | ((first | refine wRet ?_ | refine wExit ?_ | refine wSkip ?_); try simp) | ((first | refine wLabel ?_ | refine wOn ?_ | refine wQn ?_); try simp only [thenA_n])
 all_goals first | apply hn | apply hr
 all_goals refine ⟨[], by simp, by simp, ?_⟩
 all_goals simp [Tryz.f94, outR, outB, renB, gaN, lv, ouN, kpI, kpR, pos, ren, ren0, renC, renCs]
set_option maxHeartbeats 2000000 in
theorem wlMb (b : List UInt8) (rows : List (List PV)) (hk : (fl 4 fMb).ok [.sl 4 rows]) (h : (b ++ (fl 4 fMb).en [.sl 4 rows]).length <= 30000000) : WCon 93 [.p (.sl 4 rows), .p (.v (.func (.func 94) #[] #[]))] b (b ++ (fl 4 fMb).en [.sl 4 rows]) := by
 obtain ⟨hl, ho⟩ := fl_ok hk
 rw [fl_en, <- List.append_assoc] at h ⊢
 have hL : okI (rows.length : Int) := ⟨by omega, by omega⟩
 have c0 := wnumF b rows.length (foI_ok.2 hL) (by rw [foI_en]; simp only [List.length_append] at h ⊢; omega)
 rw [foI_en] at c0
 generalize b ++ enc (zz (rows.length : Int)) = b2 at *
 refine wBodyG Tryz.tab Tryz.mixed Tryz.func93 rfl rfl Tryz.ntmps93 (by simp) (by simp) fun Q hr hn hp => ?_
 repeat' first | (refine CallK_gen [1024, 1025] c0 (by decide) (by decide) (by simp [blksOf, inN, pos, renB, ren0, ouN, lv, kpI, kpR]) (by simp [argsG, argG, ren0, inN, pos, renCs, renC]) ⟨[], by simp, by simp, ?_⟩; simp [lv, ouN, kpI, kpR, pos, ren, ren0, renB, renC, renCs]; clear c0) | (refine hK _ ?_; clear hK) | (refine hK _ _ ?_; clear hK) | (clear hK; refine hK _ ?_; clear hK) | (clear hK; clear hK; refine hK _ ?_; clear hK) | (clear hK; clear hK; clear hK; refine hK _ ?_; clear hK) | (clear hK; clear hK; clear hK; clear hK; refine hK _ ?_; clear hK) | (refine wSeq fun K hK => ?_) | ((first | refine wReg ?_ | refine wDrwQ rfl (by kernel_rfl) ?_ | refine wDrwI ?_ | refine wDrw (by kernel_rfl) ?_); simp only [List.map_cons, List.map_nil, strip]) | ((first | refine wIs fun K hK => ?_ | refine wOs fun K hK => ?_ | refine wQs fun K hK => ?_ | refine CallK_plain ?_ | refine CallQ_plain ?_ | refine CallR_plain ?_ | refine wCond ?_); simp [lv, ouN, kpI, kpR, pos, ren, ren0, renB, renC, renCs]) | (refine wIn ?_; refine And.intro (by kernel_rfl) ?_; try simp only [thenA_n]) | (first | refine wBlock ?_ | refine wScope ?_) | ((first | refine wRet ?_ | refine wExit ?_ | refine wSkip ?_); try simp) | ((first | refine wLabel ?_ | refine wOn ?_ | refine wQn ?_); try simp only [thenA_n])
 refine wLoop (fun N st => ∃ k p, k + N = rows.length /\ p = b2 ++ (rows.take k).flatMap fMb.en /\ st.s 0 = .ptr 1024 0 /\ st.s 2 = .p (.v (.func (.func 94) #[] #[])) /\ st.s 12 = .p (.sl 4 rows) /\ st.s 13 = .p (I rows.length) /\ st.s 14 = .p (I k) /\ st.b 1024 = some (.box 113 [.row 1025]) /\ st.b 1025 = some (.row 5 1 (by8 p))) rows.length ⟨0, b2, by simp [lv, ouN, kpI, kpR, pos, ren, ren0, renB, renC, renCs]⟩ fun K N st hL ⟨k, p, hk, hp, g0, g2, g12, g13, g14, b0, b1⟩ => ?_
 by_cases hlt : k < rows.length
 ·have hlt' : (k : Int) < rows.length := by omega
  have hw := wrapS k _ hlt (by omega)
  have hok := ho rows[k] (List.getElem_mem hlt)
  have hpp : p ++ fMb.en rows[k] = b2 ++ (rows.take (k + 1)).flatMap fMb.en := by rw [flatMap_snoc hlt, hp, List.append_assoc]
  have hpl2 : (p ++ fMb.en rows[k]).length <= 30000000 := by rw [hpp]; have := flatMap_take_le fMb.en rows (k + 1); simp only [List.length_append] at h ⊢; omega
  have he : rows[k]? = some rows[k] := List.getElem?_eq_getElem hlt
  generalize hQ : rows[k] = r at *
  obtain ⟨x0, x1, x2, x3, rfl, -⟩ := fMb_sh hok
  have c := wMb p _ hok hpl2
  generalize p ++ fMb.en [I x0, I x1, I x2, I x3] = p2 at c hpp hpl2
  try simp only [vOf1, vOf2] at c
  repeat' first | (refine CallK_gen [1024, 1025] c (by decide) (by decide) (by simp [blksOf, inN, pos, renB, ren0, ouN, lv, kpI, kpR, b0, b1]) (by simp [argsG, argG, ren0, inN, pos, renCs, renC]) ⟨[], by simp, by simp, ?_⟩; simp [lv, ouN, kpI, kpR, pos, ren, ren0, renB, renC, renCs, b0, b1]) | (refine hK _ ?_; clear hK) | (refine hK _ _ ?_; clear hK) | (clear hK; refine hK _ ?_; clear hK) | (clear hK; clear hK; refine hK _ ?_; clear hK) | (clear hK; clear hK; clear hK; refine hK _ ?_; clear hK) | (clear hK; clear hK; clear hK; clear hK; refine hK _ ?_; clear hK) | (refine wSeq fun K hK => ?_) | ((first | refine wReg ?_ | refine wDrwQ rfl (by kernel_rfl) ?_ | refine wDrwI ?_ | refine wDrw (by kernel_rfl) ?_); simp only [List.map_cons, List.map_nil, strip]) | ((first | refine wIs fun K hK => ?_ | refine wOs fun K hK => ?_ | refine wQs fun K hK => ?_ | refine CallK_plain ?_ | refine CallQ_plain ?_ | refine CallR_plain ?_ | refine wCond ?_); simp [g0, g2, g12, g13, g14, b0, b1, hlt, hlt', hw, he, hQ]) | (refine wIn ?_; refine And.intro (by kernel_rfl) ?_; try simp only [thenA_n]) | (first | refine wBlock ?_ | refine wScope ?_) | ((first | refine wRet ?_ | refine wExit ?_ | refine wSkip ?_); try simp) | ((first | refine wLabel ?_ | refine wOn ?_ | refine wQn ?_); try simp only [thenA_n])
  refine hL _ (N - 1) (by omega) ⟨k + 1, p2, by omega, hpp, ?_⟩
  simp [g0, g2, g12, g13, g14, b0, b1, hw, lv, ouN, kpI, kpR, pos, ren, ren0, renB, renC, renCs]
 ·have hlt' : ¬ (k : Int) < rows.length := by omega
  rw [List.take_of_length_le (by omega)] at hp
  subst hp
  repeat' first | (refine hK _ ?_; clear hK) | (refine hK _ _ ?_; clear hK) | (clear hK; refine hK _ ?_; clear hK) | (clear hK; clear hK; refine hK _ ?_; clear hK) | (clear hK; clear hK; clear hK; refine hK _ ?_; clear hK) | (clear hK; clear hK; clear hK; clear hK; refine hK _ ?_; clear hK) | (refine wSeq fun K hK => ?_) | ((first | refine wReg ?_ | refine wDrwQ rfl (by kernel_rfl) ?_ | refine wDrwI ?_ | refine wDrw (by kernel_rfl) ?_); simp only [List.map_cons, List.map_nil, strip]) | ((first | refine wIs fun K hK => ?_ | refine wOs fun K hK => ?_ | refine wQs fun K hK => ?_ | refine CallK_plain ?_ | refine CallQ_plain ?_ | refine CallR_plain ?_ | refine wCond ?_); simp [g0, g2, g12, g13, g14, b0, b1, hlt, hlt']) | (refine wIn ?_; refine And.intro (by kernel_rfl) ?_; try simp only [thenA_n]) | (first | refine wBlock ?_ | refine wScope ?_) | ((first | refine wRet ?_ | refine wExit ?_ | refine wSkip ?_); try simp) | ((first | refine wLabel ?_ | refine wOn ?_ | refine wQn ?_); try simp only [thenA_n])
  all_goals first | apply hn | apply hr
  all_goals refine ⟨[], by simp, by simp, ?_⟩
  all_goals simp [Tryz.f93, outR, outB, renB, gaN, b0, b1]
set_option maxHeartbeats 2000000 in
theorem wCf (b : List UInt8) (cs : List PV) (hk : fCf.ok cs) (h : (b ++ fCf.en cs).length <= 30000000) : WCon 80 [vOf cs] b (b ++ fCf.en cs) := by
 obtain ⟨x0, x1, x2, x3, rfl, k0, k1, k2⟩ := fCf_sh hk
 have hres : b ++ fCf.en [I x0, I x1, I x2, .sl 4 x3] = b ++ fZx.en [I x0, I x1] ++ foI.en [I x2] ++ (fl 4 fMb).en [.sl 4 x3] := by rw [fCf_en]; simp only [catI2, catI3, catI4, List.append_assoc]
 rw [hres] at h ⊢
 clear hres
 have c0 := wZx b _ k0 (by simp only [List.length_append] at h ⊢; omega)
 have c1 := wnumF (b ++ fZx.en [I x0, I x1]) x2 k1 (by simp only [List.length_append] at h ⊢; omega)
 have c2 := wlMb (b ++ fZx.en [I x0, I x1] ++ foI.en [I x2]) x3 k2 h
 generalize b ++ fZx.en [I x0, I x1] ++ foI.en [I x2] ++ (fl 4 fMb).en [.sl 4 x3] = y3 at *
 generalize b ++ fZx.en [I x0, I x1] ++ foI.en [I x2] = y2 at *
 generalize b ++ fZx.en [I x0, I x1] = y1 at *
 simp only [vOf2, ints, List.map_cons, List.map_nil] at *
 refine wBodyG Tryz.tab Tryz.mixed Tryz.func80 rfl rfl Tryz.ntmps80 (by simp) (by simp) fun Q hr hn hp => ?_
 repeat' first | (refine CallK_gen [1024, 1025] c0 (by decide) (by decide) (by simp [blksOf, inN, pos, renB, ren0, ouN, lv, kpI, kpR]) (by simp [argsG, argG, ren0, inN, pos, renCs, renC]) ⟨[], by simp, by simp, ?_⟩; simp [lv, ouN, kpI, kpR, pos, ren, ren0, renB, renC, renCs]; clear c0) | (refine CallK_gen [1024, 1025] c1 (by decide) (by decide) (by simp [blksOf, inN, pos, renB, ren0, ouN, lv, kpI, kpR]) (by simp [argsG, argG, ren0, inN, pos, renCs, renC]) ⟨[], by simp, by simp, ?_⟩; simp [lv, ouN, kpI, kpR, pos, ren, ren0, renB, renC, renCs]; clear c1) | (refine CallK_gen [1024, 1025] c2 (by decide) (by decide) (by simp [blksOf, inN, pos, renB, ren0, ouN, lv, kpI, kpR]) (by simp [argsG, argG, ren0, inN, pos, renCs, renC]) ⟨[], by simp, by simp, ?_⟩; simp [lv, ouN, kpI, kpR, pos, ren, ren0, renB, renC, renCs]; clear c2) | (refine hK _ ?_; clear hK) | (refine hK _ _ ?_; clear hK) | (clear hK; refine hK _ ?_; clear hK) | (clear hK; clear hK; refine hK _ ?_; clear hK) | (clear hK; clear hK; clear hK; refine hK _ ?_; clear hK) | (clear hK; clear hK; clear hK; clear hK; refine hK _ ?_; clear hK) | (refine wSeq fun K hK => ?_) | ((first | refine wReg ?_ | refine wDrwQ rfl (by kernel_rfl) ?_ | refine wDrwI ?_ | refine wDrw (by kernel_rfl) ?_); simp only [List.map_cons, List.map_nil, strip]) | ((first | refine wIs fun K hK => ?_ | refine wOs fun K hK => ?_ | refine wQs fun K hK => ?_ | refine CallK_plain ?_ | refine CallQ_plain ?_ | refine CallR_plain ?_ | refine wCond ?_); simp [lv, ouN, kpI, kpR, pos, ren, ren0, renB, renC, renCs]) | (refine wIn ?_; refine And.intro (by kernel_rfl) ?_; try simp only [thenA_n]) | (first | refine wBlock ?_ | refine wScope ?_) | ((first | refine wRet ?_ | refine wExit ?_ | refine wSkip ?_); try simp) | ((first | refine wLabel ?_ | refine wOn ?_ | refine wQn ?_); try simp only [thenA_n])
 all_goals first | apply hn | apply hr
 all_goals refine ⟨[], by simp, by simp, ?_⟩
 all_goals simp [Tryz.f80, outR, outB, renB, gaN, lv, ouN, kpI, kpR, pos, ren, ren0, renC, renCs]
set_option maxHeartbeats 2000000 in
theorem wNd (b : List UInt8) (cs : List PV) (hk : fNd.ok cs) (h : (b ++ fNd.en cs).length <= 30000000) : WCon 79 [vOf cs] b (b ++ fNd.en cs) := by
 obtain ⟨x0, x1, x2, x3, x4, rfl, k0, k1, k2, k3, k4⟩ := fNd_sh hk
 have hres : b ++ fNd.en [SB x0, SB x1, I x2, I x3, I x4] = b ++ foS.en [SB x0] ++ foS.en [SB x1] ++ catI [x2, x3, x4] := by rw [fNd_en]; simp only [catI2, catI3, catI4, List.append_assoc]
 rw [hres] at h ⊢
 clear hres
 have c0 := wtextF b x0 k0 (by simp only [List.length_append] at h ⊢; omega)
 have c1 := wtextF (b ++ foS.en [SB x0]) x1 k1 (by simp only [List.length_append] at h ⊢; omega)
 have c2 := wnumsF (b ++ foS.en [SB x0] ++ foS.en [SB x1]) [x2, x3, x4] (by intro n hn; simp at hn; rcases hn with rfl | rfl | rfl <;> simp only [<- foI_ok] <;> assumption) (by simp) h
 generalize b ++ foS.en [SB x0] ++ foS.en [SB x1] ++ catI [x2, x3, x4] = y3 at *
 generalize b ++ foS.en [SB x0] ++ foS.en [SB x1] = y2 at *
 generalize b ++ foS.en [SB x0] = y1 at *
 simp only [vOf2, ints, List.map_cons, List.map_nil] at *
 refine wBodyG Tryz.tab Tryz.mixed Tryz.func79 rfl rfl Tryz.ntmps79 (by simp) (by simp) fun Q hr hn hp => ?_
 repeat' first | (refine CallK_gen [1024, 1025] c0 (by decide) (by decide) (by simp [blksOf, inN, pos, renB, ren0, ouN, lv, kpI, kpR]) (by simp [argsG, argG, ren0, inN, pos, renCs, renC]) ⟨[], by simp, by simp, ?_⟩; simp [lv, ouN, kpI, kpR, pos, ren, ren0, renB, renC, renCs]; clear c0) | (refine CallK_gen [1024, 1025] c1 (by decide) (by decide) (by simp [blksOf, inN, pos, renB, ren0, ouN, lv, kpI, kpR]) (by simp [argsG, argG, ren0, inN, pos, renCs, renC]) ⟨[], by simp, by simp, ?_⟩; simp [lv, ouN, kpI, kpR, pos, ren, ren0, renB, renC, renCs]; clear c1) | (refine CallK_gen [1024, 1025] c2 (by decide) (by decide) (by simp [blksOf, inN, pos, renB, ren0, ouN, lv, kpI, kpR]) (by simp [argsG, argG, ren0, inN, pos, renCs, renC]) ⟨[], by simp, by simp, ?_⟩; simp [lv, ouN, kpI, kpR, pos, ren, ren0, renB, renC, renCs]; clear c2) | (refine hK _ ?_; clear hK) | (refine hK _ _ ?_; clear hK) | (clear hK; refine hK _ ?_; clear hK) | (clear hK; clear hK; refine hK _ ?_; clear hK) | (clear hK; clear hK; clear hK; refine hK _ ?_; clear hK) | (clear hK; clear hK; clear hK; clear hK; refine hK _ ?_; clear hK) | (refine wSeq fun K hK => ?_) | ((first | refine wReg ?_ | refine wDrwQ rfl (by kernel_rfl) ?_ | refine wDrwI ?_ | refine wDrw (by kernel_rfl) ?_); simp only [List.map_cons, List.map_nil, strip]) | ((first | refine wIs fun K hK => ?_ | refine wOs fun K hK => ?_ | refine wQs fun K hK => ?_ | refine CallK_plain ?_ | refine CallQ_plain ?_ | refine CallR_plain ?_ | refine wCond ?_); simp [lv, ouN, kpI, kpR, pos, ren, ren0, renB, renC, renCs]) | (refine wIn ?_; refine And.intro (by kernel_rfl) ?_; try simp only [thenA_n]) | (first | refine wBlock ?_ | refine wScope ?_) | ((first | refine wRet ?_ | refine wExit ?_ | refine wSkip ?_); try simp) | ((first | refine wLabel ?_ | refine wOn ?_ | refine wQn ?_); try simp only [thenA_n])
 all_goals first | apply hn | apply hr
 all_goals refine ⟨[], by simp, by simp, ?_⟩
 all_goals simp [Tryz.f79, outR, outB, renB, gaN, lv, ouN, kpI, kpR, pos, ren, ren0, renC, renCs]
end Go.Proofs.YtbeofcbehhljdaaGreatDoor
