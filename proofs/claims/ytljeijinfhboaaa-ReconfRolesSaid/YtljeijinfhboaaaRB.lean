/- Who is what: the program's closures. -/
import Derived.Test.YtljeijinfhboaaaRA
namespace Go.Proofs.Ytljeijinfhboaaa
set_option linter.unusedSimpArgs false
set_option linter.unusedVariables false
open Go Go.Av
attribute [local simp] Try.T1 Try.T2 Try.T3 Try.T4 Try.T5 Try.T9 Try.T12 Try.T21 Try.T23 Try.T24 Try.T26 Try.T27 Try.T29 Try.T30 Try.T31 Try.T32 Try.T33 Try.T34 Try.T35 Try.T36 Try.T38 Try.T39 Try.T41 Try.T43 Try.T44 Try.T45 Try.T46 Try.T47 Try.T48 Try.T49 Try.T50 Try.T51 Try.T52 Try.T53 Try.T54 Try.T55 Try.T56 Try.T57 Try.T58 Try.T59 Try.T60 Try.T61 Try.T62 Try.T63 Try.T64 Try.T66 Try.T67 Try.T68 Try.T69 Try.T70 Try.T71 Try.T72 Try.T73 Try.T75 Try.T77 Try.T78 Try.T79 Try.T81 Try.T83 Try.T84 Try.T86 Try.T88 Try.T89 Try.T91 Try.T93 Try.T94 Try.T95 Try.T96 Try.T97 Try.T98 Try.T99 Try.T100 Try.T102 Try.T104 Try.T105 Try.T106 Try.T107 Try.T108 Try.T109 Try.T110 Try.T111 Try.T112 Try.T113 Try.T115 Try.T116 Try.T117 Try.T118 Try.T119 Try.T120 Try.T121 Try.T122 Try.T123 Try.T124 Try.T126 Try.T127 Try.T128 Try.T134 Try.T135 Try.T138
attribute [local irreducible] Go.Av.CallK Go.Av.CallE Go.Av.CallQ Go.Av.CallF Go.Av.CallR Go.Av.CallH Go.Av.Con

theorem role_con (l : List Cf) (id : Int) (hlen : l.length ≤ 1000000) (hm : ∀ c ∈ l, c.ms.length ≤ 1000000) : ACon Try.prog 20 [.p (.sl 4 (cfs l)), .p (I id)] (.p (I (roleR l id))) := by
  have c1 := told_con l
  have c2 := told1_con l id hlen hm
  generalize roleR l id = R at c2 ⊢
  refine wBody Try.tab Try.mixed Try.func20 rfl rfl Try.ntmps20 (by simp) (by simp) fun Q hr hn => ?_
  repeat' first | (refine CallK_gen [] c1 (by decide) (by decide) (by simp [blksOf]) (by simp [argsG, argG, ren0, inN, pos, renCs, renC, toP, toPF]) ⟨[500], by simp, by simp, ?_⟩; simp [lv, ouN, kpI, kpR, pos, ren, ren0, renB, renC, renCs]) | (refine CallK_gen [500] c2 (by decide) (by decide) (by simp [blksOf, inN, pos, renB, renC, renCs, ren0, lv, ouN, kpI, kpR]) (by simp [argsG, argG, ren0, inN, pos, renCs, renC]) ⟨[], by simp, by simp, ?_⟩; simp [lv, ouN, kpI, kpR, pos, ren, ren0, renB, renC, renCs]) | (refine hK _ ?_; clear hK) | (refine hK _ _ ?_; clear hK) | (clear hK; refine hK _ ?_; clear hK) | (clear hK; clear hK; refine hK _ ?_; clear hK) | (clear hK; clear hK; clear hK; refine hK _ ?_; clear hK) | (clear hK; clear hK; clear hK; clear hK; refine hK _ ?_; clear hK) | (refine wSeq fun K hK => ?_) | ((first | refine wReg ?_ | refine wDrwQ rfl (by kernel_rfl) ?_ | refine wDrwI ?_ | refine wDrw (by kernel_rfl) ?_); simp only [List.map_cons, List.map_nil, strip]) | ((first | refine wIs fun K hK => ?_ | refine wOs fun K hK => ?_ | refine wQs fun K hK => ?_ | refine CallK_plain ?_ | refine CallQ_plain ?_ | refine CallR_plain ?_ | refine wCond ?_); simp [lv, ouN, kpI, kpR, pos, ren, ren0, renB, renC, renCs]) | (refine wIn ?_; refine And.intro (by kernel_rfl) ?_; try simp only [thenA_n]) | (first | refine wBlock ?_ | refine wScope ?_) | ((first | refine wRet ?_ | refine wExit ?_ | refine wSkip ?_); try simp) | ((first | refine wLabel ?_ | refine wOn ?_ | refine wQn ?_); try simp only [thenA_n])
  all_goals apply hr
  all_goals simp [Try.f20, lv, ouN, kpI, kpR, pos, ren, ren0, renB, renC, renCs]
abbrev fbox (b : Nat) : Blk := .box 69 [.clo 57 [.box b]]
theorem dec_eq (a b : Int) : (a == b) = decide (a = b) := by by_cases h : a = b <;> simp [h]
theorem voting1_con (l : List Cf) (id : Int) (hlen : l.length ≤ 1000000) (hm : ∀ c ∈ l, c.ms.length ≤ 1000000) : Con Try.prog 42 [.p (I id), .ptr 1024 0] [fbox 1025, nbox l] (.ret (.p (B (decide (roleR l id = 1)))) [] [fbox 1025, nbox l]) := by
  have c2 := told1_con l id hlen hm
  generalize roleR l id = R at c2 ⊢
  refine wBodyG Try.tab Try.mixed Try.func42 rfl rfl Try.ntmps42 (by simp) (by simp) fun Q hr hn hp => ?_
  repeat' first | (refine CallK_gen [1025] c2 (by decide) (by decide) (by simp [blksOf, inN, pos, renB, renC, renCs, ren0, lv, ouN, kpI, kpR]) (by simp [argsG, argG, ren0, inN, pos, renCs, renC]) ⟨[], by simp, by simp, ?_⟩; simp [lv, ouN, kpI, kpR, pos, ren, ren0, renB, renC, renCs]) | (refine hK _ ?_; clear hK) | (refine hK _ _ ?_; clear hK) | (clear hK; refine hK _ ?_; clear hK) | (clear hK; clear hK; refine hK _ ?_; clear hK) | (clear hK; clear hK; clear hK; refine hK _ ?_; clear hK) | (clear hK; clear hK; clear hK; clear hK; refine hK _ ?_; clear hK) | (refine wSeq fun K hK => ?_) | ((first | refine wReg ?_ | refine wDrwQ rfl (by kernel_rfl) ?_ | refine wDrwI ?_ | refine wDrw (by kernel_rfl) ?_); simp only [List.map_cons, List.map_nil, strip]) | ((first | refine wIs fun K hK => ?_ | refine wOs fun K hK => ?_ | refine wQs fun K hK => ?_ | refine CallK_plain ?_ | refine CallQ_plain ?_ | refine CallR_plain ?_ | refine wCond ?_); simp [lv, ouN, kpI, kpR, pos, ren, ren0, renB, renC, renCs]) | (refine wIn ?_; refine And.intro (by kernel_rfl) ?_; try simp only [thenA_n]) | (first | refine wBlock ?_ | refine wScope ?_) | ((first | refine wRet ?_ | refine wExit ?_ | refine wSkip ?_); try simp) | ((first | refine wLabel ?_ | refine wOn ?_ | refine wQn ?_); try simp only [thenA_n])
  all_goals apply hr
  all_goals refine ⟨[], by simp, by simp, ?_⟩
  all_goals simp [Try.f42, outR, outB, renB, gaN, lv, ouN, kpI, kpR, pos, ren, ren0, renC, renCs, dec_eq]
def isOther (l : List Cf) (self id : Int) : Bool := decide (¬ id = self ∧ ¬ roleR l id = 0)
theorem others1_con (l : List Cf) (self id : Int) (hlen : l.length ≤ 1000000) (hm : ∀ c ∈ l, c.ms.length ≤ 1000000) : Con Try.prog 43 [.p (I id), .ptr 1024 0, .ptr 1025 0] [.box 3 [.p (I self)], fbox 1026, nbox l] (.ret (.p (B (isOther l self id))) [] [.box 3 [.p (I self)], fbox 1026, nbox l]) := by
  have c2 := told1_con l id hlen hm
  unfold isOther
  generalize roleR l id = R at c2 ⊢
  by_cases o : id = self
  all_goals refine wBodyG Try.tab Try.mixed Try.func43 rfl rfl Try.ntmps43 (by simp) (by simp) fun Q hr hn hp => ?_
  all_goals repeat' first | (refine CallK_gen [1026] c2 (by decide) (by decide) (by simp [blksOf, inN, pos, renB, renC, renCs, ren0, lv, ouN, kpI, kpR]) (by simp [argsG, argG, ren0, inN, pos, renCs, renC]) ⟨[], by simp, by simp, ?_⟩; simp [lv, ouN, kpI, kpR, pos, ren, ren0, renB, renC, renCs]) | (refine hK _ ?_; clear hK) | (refine hK _ _ ?_; clear hK) | (clear hK; refine hK _ ?_; clear hK) | (clear hK; clear hK; refine hK _ ?_; clear hK) | (clear hK; clear hK; clear hK; refine hK _ ?_; clear hK) | (clear hK; clear hK; clear hK; clear hK; refine hK _ ?_; clear hK) | (refine wSeq fun K hK => ?_) | ((first | refine wReg ?_ | refine wDrwQ rfl (by kernel_rfl) ?_ | refine wDrwI ?_ | refine wDrw (by kernel_rfl) ?_); simp only [List.map_cons, List.map_nil, strip]) | ((first | refine wIs fun K hK => ?_ | refine wOs fun K hK => ?_ | refine wQs fun K hK => ?_ | refine CallK_plain ?_ | refine CallQ_plain ?_ | refine CallR_plain ?_ | refine wCond ?_); simp [o, lv, ouN, kpI, kpR, pos, ren, ren0, renB, renC, renCs]) | (refine wIn ?_; refine And.intro (by kernel_rfl) ?_; try simp only [thenA_n]) | (first | refine wBlock ?_ | refine wScope ?_) | ((first | refine wRet ?_ | refine wExit ?_ | refine wSkip ?_); try simp) | ((first | refine wLabel ?_ | refine wOn ?_ | refine wQn ?_); try simp only [thenA_n])
  all_goals apply hr
  all_goals refine ⟨[], by simp, by simp, ?_⟩
  all_goals simp [Try.f43, outR, outB, renB, gaN, lv, ouN, kpI, kpR, pos, ren, ren0, renC, renCs, o, dec_eq, bne]
  all_goals (try (by_cases hR : R = 0 <;> simp [hR]))
/-- The servers of which something holds, of the first k. -/
def whoK (p : Int → Bool) : Nat → List Int
  | 0 => []
  | k + 1 => if p k = true then whoK p k ++ [(k : Int)] else whoK p k
theorem whoK_len (p : Int → Bool) : ∀ k, (whoK p k).length ≤ k
  | 0 => by simp [whoK]
  | k + 1 => by
    have := whoK_len p k
    rw [whoK]
    split <;> simp <;> omega
theorem ints_sn (l : List Int) (a : Int) : ints l ++ [[I a]] = ints (l ++ [a]) := by simp [ints]
set_option maxHeartbeats 1000000 in
theorem thoseV_con (l : List Cf) (hlen : l.length ≤ 1000000) (hm : ∀ c ∈ l, c.ms.length ≤ 1000000) : Con Try.prog 41 [.clo 42 [.box 1024]] [fbox 1025, nbox l] (.ret (.row 2048) [.row 3 1 (ints (whoK (fun id => decide (roleR l id = 1)) 16))] [fbox 1025, nbox l]) := by
  have hq : ∀ k : Nat, k < 16 → IntKind.i64.wrap ((k : Int) + 1) = ((k + 1 : Nat) : Int) := fun k h => by rw [wrap_id] <;> omega
  refine wBodyG Try.tab Try.mixed Try.func41 rfl rfl Try.ntmps41 (by simp) (by simp) fun Q hr hn hp => ?_
  repeat' first | (refine hK _ ?_; clear hK) | (refine hK _ _ ?_; clear hK) | (clear hK; refine hK _ ?_; clear hK) | (clear hK; clear hK; refine hK _ ?_; clear hK) | (clear hK; clear hK; clear hK; refine hK _ ?_; clear hK) | (clear hK; clear hK; clear hK; clear hK; refine hK _ ?_; clear hK) | (refine wSeq fun K hK => ?_) | ((first | refine wReg ?_ | refine wDrwQ rfl (by kernel_rfl) ?_ | refine wDrwI ?_ | refine wDrw (by kernel_rfl) ?_); simp only [List.map_cons, List.map_nil, strip]) | ((first | refine wIs fun K hK => ?_ | refine wOs fun K hK => ?_ | refine wQs fun K hK => ?_ | refine CallK_plain ?_ | refine CallQ_plain ?_ | refine CallR_plain ?_ | refine wCond ?_); simp) | (refine wIn ?_; refine And.intro (by kernel_rfl) ?_; try simp only [thenA_n]) | (first | refine wBlock ?_ | refine wScope ?_) | ((first | refine wRet ?_ | refine wExit ?_ | refine wSkip ?_); try simp) | ((first | refine wLabel ?_ | refine wOn ?_ | refine wQn ?_); try simp only [thenA_n])
  refine wLoopG [.row 3 3 1] (fun N st => ∃ k, k + N = 16 ∧ st.s 0 = .clo 42 [.box 1024] ∧ st.s 5 = .p (I k) ∧ st.s 3 = .row 3 ∧ st.b 3 = some (.row 3 1 (ints (whoK (fun id => decide (roleR l id = 1)) k))) ∧ st.b 1024 = some (fbox 1025) ∧ st.b 1025 = some (nbox l)) 16 ⟨0, by simp [whoK, ints]⟩ fun K N st hL ⟨k, hk, g0, g5, g3, b3, e1024, e1025⟩ => ?_
  by_cases hlt : k < 16
  · have hw := hq k hlt
    have hlt' : (k : Int) < 16 := by omega
    have hwl := whoK_len (fun id => decide (roleR l id = 1)) k
    have hs : whoK (fun id => decide (roleR l id = 1)) (k + 1) = if (fun id => decide (roleR l id = 1)) (k : Int) = true then whoK (fun id => decide (roleR l id = 1)) k ++ [(k : Int)] else whoK (fun id => decide (roleR l id = 1)) k := rfl
    have c := voting1_con l k hlen hm
    have hx := ints_sn (whoK (fun id => decide (roleR l id = 1)) k) k
    generalize whoK (fun id => decide (roleR l id = 1)) k = q at hs b3 hwl hx
    by_cases o : (decide (roleR l (k : Int) = 1)) = true
    · rw [if_pos (by exact o)] at hs
      rw [← hs] at hx
      rw [show (decide (roleR l (k : Int) = 1)) = true from o] at c
      repeat' first | (refine And.intro (by (try simp at hwl ⊢); omega) ?_) | (refine CallK_gen [1024, 1025] c (by decide) (by decide) (by simp [blksOf, inN, pos, renB, renC, renCs, ren0, lv, ouN, kpI, kpR, e1024, e1025]) (by simp [argsG, argG, ren0, inN, pos, renCs, renC]) ⟨[], by simp, by simp, ?_⟩; simp [lv, ouN, kpI, kpR, pos, ren, ren0, renB, renC, renCs, g0, g5, g3, b3, e1024, e1025]) | (refine hK _ ?_; clear hK) | (refine hK _ _ ?_; clear hK) | (clear hK; refine hK _ ?_; clear hK) | (clear hK; clear hK; refine hK _ ?_; clear hK) | (clear hK; clear hK; clear hK; refine hK _ ?_; clear hK) | (clear hK; clear hK; clear hK; clear hK; refine hK _ ?_; clear hK) | (refine wSeq fun K hK => ?_) | ((first | refine wReg ?_ | refine wDrwQ rfl (by kernel_rfl) ?_ | refine wDrwI ?_ | refine wDrw (by kernel_rfl) ?_); simp only [List.map_cons, List.map_nil, strip]) | ((first | refine wIs fun K hK => ?_ | refine wOs fun K hK => ?_ | refine wQs fun K hK => ?_ | refine CallK_plain ?_ | refine CallQ_plain ?_ | refine CallR_plain ?_ | refine wCond ?_); simp [lv, ouN, kpI, kpR, pos, ren, ren0, renB, renC, renCs, g0, g5, g3, b3, e1024, e1025, hlt, hlt', hw]) | (refine wIn ?_; refine And.intro (by kernel_rfl) ?_; try simp only [thenA_n]) | (first | refine wBlock ?_ | refine wScope ?_) | ((first | refine wRet ?_ | refine wExit ?_ | refine wSkip ?_); try simp) | ((first | refine wLabel ?_ | refine wOn ?_ | refine wQn ?_); try simp only [thenA_n])
      refine hL _ (N - 1) (by omega) ⟨k + 1, by omega, ?_⟩
      simp [lv, ouN, kpI, kpR, pos, ren, ren0, renB, renC, renCs, g0, g5, g3, b3, e1024, e1025, hw, hx]
    · have o' : (decide (roleR l (k : Int) = 1)) = false := by simpa using o
      rw [if_neg (by exact o)] at hs
      rw [o'] at c
      repeat' first | (refine CallK_gen [1024, 1025] c (by decide) (by decide) (by simp [blksOf, inN, pos, renB, renC, renCs, ren0, lv, ouN, kpI, kpR, e1024, e1025]) (by simp [argsG, argG, ren0, inN, pos, renCs, renC]) ⟨[], by simp, by simp, ?_⟩; simp [lv, ouN, kpI, kpR, pos, ren, ren0, renB, renC, renCs, g0, g5, g3, b3, e1024, e1025]) | (refine hK _ ?_; clear hK) | (refine hK _ _ ?_; clear hK) | (clear hK; refine hK _ ?_; clear hK) | (clear hK; clear hK; refine hK _ ?_; clear hK) | (clear hK; clear hK; clear hK; refine hK _ ?_; clear hK) | (clear hK; clear hK; clear hK; clear hK; refine hK _ ?_; clear hK) | (refine wSeq fun K hK => ?_) | ((first | refine wReg ?_ | refine wDrwQ rfl (by kernel_rfl) ?_ | refine wDrwI ?_ | refine wDrw (by kernel_rfl) ?_); simp only [List.map_cons, List.map_nil, strip]) | ((first | refine wIs fun K hK => ?_ | refine wOs fun K hK => ?_ | refine wQs fun K hK => ?_ | refine CallK_plain ?_ | refine CallQ_plain ?_ | refine CallR_plain ?_ | refine wCond ?_); simp [lv, ouN, kpI, kpR, pos, ren, ren0, renB, renC, renCs, g0, g5, g3, b3, e1024, e1025, hlt, hlt', hw]) | (refine wIn ?_; refine And.intro (by kernel_rfl) ?_; try simp only [thenA_n]) | (first | refine wBlock ?_ | refine wScope ?_) | ((first | refine wRet ?_ | refine wExit ?_ | refine wSkip ?_); try simp) | ((first | refine wLabel ?_ | refine wOn ?_ | refine wQn ?_); try simp only [thenA_n])
      refine hL _ (N - 1) (by omega) ⟨k + 1, by omega, ?_⟩
      simp [lv, ouN, kpI, kpR, pos, ren, ren0, renB, renC, renCs, g0, g5, g3, b3, e1024, e1025, hw, hs]
  · obtain rfl : k = 16 := by omega
    repeat' first | (refine hK _ ?_; clear hK) | (refine hK _ _ ?_; clear hK) | (clear hK; refine hK _ ?_; clear hK) | (clear hK; clear hK; refine hK _ ?_; clear hK) | (clear hK; clear hK; clear hK; refine hK _ ?_; clear hK) | (clear hK; clear hK; clear hK; clear hK; refine hK _ ?_; clear hK) | (refine wSeq fun K hK => ?_) | ((first | refine wReg ?_ | refine wDrwQ rfl (by kernel_rfl) ?_ | refine wDrwI ?_ | refine wDrw (by kernel_rfl) ?_); simp only [List.map_cons, List.map_nil, strip]) | ((first | refine wIs fun K hK => ?_ | refine wOs fun K hK => ?_ | refine wQs fun K hK => ?_ | refine CallK_plain ?_ | refine CallQ_plain ?_ | refine CallR_plain ?_ | refine wCond ?_); simp [g0, g5, g3, b3, e1024, e1025]) | (refine wIn ?_; refine And.intro (by kernel_rfl) ?_; try simp only [thenA_n]) | (first | refine wBlock ?_ | refine wScope ?_) | ((first | refine wRet ?_ | refine wExit ?_ | refine wSkip ?_); try simp) | ((first | refine wLabel ?_ | refine wOn ?_ | refine wQn ?_); try simp only [thenA_n])
    all_goals apply hr
    all_goals refine ⟨[3], by simp, by simp, ?_⟩
    all_goals simp [Try.f41, outR, outB, renB, gaN, b3, g3, e1024, e1025]
set_option maxHeartbeats 1000000 in
theorem thoseO_con (l : List Cf) (self : Int) (hlen : l.length ≤ 1000000) (hm : ∀ c ∈ l, c.ms.length ≤ 1000000) : Con Try.prog 41 [.clo 43 [.box 1024, .box 1025]] [.box 3 [.p (I self)], fbox 1026, nbox l] (.ret (.row 2048) [.row 3 1 (ints (whoK (fun id => isOther l self id) 16))] [.box 3 [.p (I self)], fbox 1026, nbox l]) := by
  have hq : ∀ k : Nat, k < 16 → IntKind.i64.wrap ((k : Int) + 1) = ((k + 1 : Nat) : Int) := fun k h => by rw [wrap_id] <;> omega
  refine wBodyG Try.tab Try.mixed Try.func41 rfl rfl Try.ntmps41 (by simp) (by simp) fun Q hr hn hp => ?_
  repeat' first | (refine hK _ ?_; clear hK) | (refine hK _ _ ?_; clear hK) | (clear hK; refine hK _ ?_; clear hK) | (clear hK; clear hK; refine hK _ ?_; clear hK) | (clear hK; clear hK; clear hK; refine hK _ ?_; clear hK) | (clear hK; clear hK; clear hK; clear hK; refine hK _ ?_; clear hK) | (refine wSeq fun K hK => ?_) | ((first | refine wReg ?_ | refine wDrwQ rfl (by kernel_rfl) ?_ | refine wDrwI ?_ | refine wDrw (by kernel_rfl) ?_); simp only [List.map_cons, List.map_nil, strip]) | ((first | refine wIs fun K hK => ?_ | refine wOs fun K hK => ?_ | refine wQs fun K hK => ?_ | refine CallK_plain ?_ | refine CallQ_plain ?_ | refine CallR_plain ?_ | refine wCond ?_); simp) | (refine wIn ?_; refine And.intro (by kernel_rfl) ?_; try simp only [thenA_n]) | (first | refine wBlock ?_ | refine wScope ?_) | ((first | refine wRet ?_ | refine wExit ?_ | refine wSkip ?_); try simp) | ((first | refine wLabel ?_ | refine wOn ?_ | refine wQn ?_); try simp only [thenA_n])
  refine wLoopG [.row 3 3 1] (fun N st => ∃ k, k + N = 16 ∧ st.s 0 = .clo 43 [.box 1024, .box 1025] ∧ st.s 5 = .p (I k) ∧ st.s 3 = .row 3 ∧ st.b 3 = some (.row 3 1 (ints (whoK (fun id => isOther l self id) k))) ∧ st.b 1024 = some (.box 3 [.p (I self)]) ∧ st.b 1025 = some (fbox 1026) ∧ st.b 1026 = some (nbox l)) 16 ⟨0, by simp [whoK, ints]⟩ fun K N st hL ⟨k, hk, g0, g5, g3, b3, e1024, e1025, e1026⟩ => ?_
  by_cases hlt : k < 16
  · have hw := hq k hlt
    have hlt' : (k : Int) < 16 := by omega
    have hwl := whoK_len (fun id => isOther l self id) k
    have hs : whoK (fun id => isOther l self id) (k + 1) = if (fun id => isOther l self id) (k : Int) = true then whoK (fun id => isOther l self id) k ++ [(k : Int)] else whoK (fun id => isOther l self id) k := rfl
    have c := others1_con l self k hlen hm
    have hx := ints_sn (whoK (fun id => isOther l self id) k) k
    generalize whoK (fun id => isOther l self id) k = q at hs b3 hwl hx
    by_cases o : (isOther l self (k : Int)) = true
    · rw [if_pos (by exact o)] at hs
      rw [← hs] at hx
      rw [show (isOther l self (k : Int)) = true from o] at c
      repeat' first | (refine And.intro (by (try simp at hwl ⊢); omega) ?_) | (refine CallK_gen [1024, 1025, 1026] c (by decide) (by decide) (by simp [blksOf, inN, pos, renB, renC, renCs, ren0, lv, ouN, kpI, kpR, e1024, e1025, e1026]) (by simp [argsG, argG, ren0, inN, pos, renCs, renC]) ⟨[], by simp, by simp, ?_⟩; simp [lv, ouN, kpI, kpR, pos, ren, ren0, renB, renC, renCs, g0, g5, g3, b3, e1024, e1025, e1026]) | (refine hK _ ?_; clear hK) | (refine hK _ _ ?_; clear hK) | (clear hK; refine hK _ ?_; clear hK) | (clear hK; clear hK; refine hK _ ?_; clear hK) | (clear hK; clear hK; clear hK; refine hK _ ?_; clear hK) | (clear hK; clear hK; clear hK; clear hK; refine hK _ ?_; clear hK) | (refine wSeq fun K hK => ?_) | ((first | refine wReg ?_ | refine wDrwQ rfl (by kernel_rfl) ?_ | refine wDrwI ?_ | refine wDrw (by kernel_rfl) ?_); simp only [List.map_cons, List.map_nil, strip]) | ((first | refine wIs fun K hK => ?_ | refine wOs fun K hK => ?_ | refine wQs fun K hK => ?_ | refine CallK_plain ?_ | refine CallQ_plain ?_ | refine CallR_plain ?_ | refine wCond ?_); simp [lv, ouN, kpI, kpR, pos, ren, ren0, renB, renC, renCs, g0, g5, g3, b3, e1024, e1025, e1026, hlt, hlt', hw]) | (refine wIn ?_; refine And.intro (by kernel_rfl) ?_; try simp only [thenA_n]) | (first | refine wBlock ?_ | refine wScope ?_) | ((first | refine wRet ?_ | refine wExit ?_ | refine wSkip ?_); try simp) | ((first | refine wLabel ?_ | refine wOn ?_ | refine wQn ?_); try simp only [thenA_n])
      refine hL _ (N - 1) (by omega) ⟨k + 1, by omega, ?_⟩
      simp [lv, ouN, kpI, kpR, pos, ren, ren0, renB, renC, renCs, g0, g5, g3, b3, e1024, e1025, e1026, hw, hx]
    · have o' : (isOther l self (k : Int)) = false := by simpa using o
      rw [if_neg (by exact o)] at hs
      rw [o'] at c
      repeat' first | (refine CallK_gen [1024, 1025, 1026] c (by decide) (by decide) (by simp [blksOf, inN, pos, renB, renC, renCs, ren0, lv, ouN, kpI, kpR, e1024, e1025, e1026]) (by simp [argsG, argG, ren0, inN, pos, renCs, renC]) ⟨[], by simp, by simp, ?_⟩; simp [lv, ouN, kpI, kpR, pos, ren, ren0, renB, renC, renCs, g0, g5, g3, b3, e1024, e1025, e1026]) | (refine hK _ ?_; clear hK) | (refine hK _ _ ?_; clear hK) | (clear hK; refine hK _ ?_; clear hK) | (clear hK; clear hK; refine hK _ ?_; clear hK) | (clear hK; clear hK; clear hK; refine hK _ ?_; clear hK) | (clear hK; clear hK; clear hK; clear hK; refine hK _ ?_; clear hK) | (refine wSeq fun K hK => ?_) | ((first | refine wReg ?_ | refine wDrwQ rfl (by kernel_rfl) ?_ | refine wDrwI ?_ | refine wDrw (by kernel_rfl) ?_); simp only [List.map_cons, List.map_nil, strip]) | ((first | refine wIs fun K hK => ?_ | refine wOs fun K hK => ?_ | refine wQs fun K hK => ?_ | refine CallK_plain ?_ | refine CallQ_plain ?_ | refine CallR_plain ?_ | refine wCond ?_); simp [lv, ouN, kpI, kpR, pos, ren, ren0, renB, renC, renCs, g0, g5, g3, b3, e1024, e1025, e1026, hlt, hlt', hw]) | (refine wIn ?_; refine And.intro (by kernel_rfl) ?_; try simp only [thenA_n]) | (first | refine wBlock ?_ | refine wScope ?_) | ((first | refine wRet ?_ | refine wExit ?_ | refine wSkip ?_); try simp) | ((first | refine wLabel ?_ | refine wOn ?_ | refine wQn ?_); try simp only [thenA_n])
      refine hL _ (N - 1) (by omega) ⟨k + 1, by omega, ?_⟩
      simp [lv, ouN, kpI, kpR, pos, ren, ren0, renB, renC, renCs, g0, g5, g3, b3, e1024, e1025, e1026, hw, hs]
  · obtain rfl : k = 16 := by omega
    repeat' first | (refine hK _ ?_; clear hK) | (refine hK _ _ ?_; clear hK) | (clear hK; refine hK _ ?_; clear hK) | (clear hK; clear hK; refine hK _ ?_; clear hK) | (clear hK; clear hK; clear hK; refine hK _ ?_; clear hK) | (clear hK; clear hK; clear hK; clear hK; refine hK _ ?_; clear hK) | (refine wSeq fun K hK => ?_) | ((first | refine wReg ?_ | refine wDrwQ rfl (by kernel_rfl) ?_ | refine wDrwI ?_ | refine wDrw (by kernel_rfl) ?_); simp only [List.map_cons, List.map_nil, strip]) | ((first | refine wIs fun K hK => ?_ | refine wOs fun K hK => ?_ | refine wQs fun K hK => ?_ | refine CallK_plain ?_ | refine CallQ_plain ?_ | refine CallR_plain ?_ | refine wCond ?_); simp [g0, g5, g3, b3, e1024, e1025, e1026]) | (refine wIn ?_; refine And.intro (by kernel_rfl) ?_; try simp only [thenA_n]) | (first | refine wBlock ?_ | refine wScope ?_) | ((first | refine wRet ?_ | refine wExit ?_ | refine wSkip ?_); try simp) | ((first | refine wLabel ?_ | refine wOn ?_ | refine wQn ?_); try simp only [thenA_n])
    all_goals apply hr
    all_goals refine ⟨[3], by simp, by simp, ?_⟩
    all_goals simp [Try.f41, outR, outB, renB, gaN, b3, g3, e1024, e1025, e1026]
end Go.Proofs.Ytljeijinfhboaaa
