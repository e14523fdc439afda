/- The closed call of layer 1; the laws CodecInts, CodecTexts. -/
import Derived.Test.YtfilinonmngefaaDoorCG
import Derived.Test.YtfilinonmngefaaDoorCH
import Derived.Test.YtfilinonmngefaaDoorCI
namespace Go.Proofs.YtfilinonmngefaaDoor
set_option linter.unusedSimpArgs false
set_option linter.unusedVariables false
open Go Go.Av
attribute [local simp] Tryd.T1 Tryd.T2 Tryd.T3 Tryd.T4 Tryd.T5 Tryd.T9 Tryd.T12 Tryd.T15 Tryd.T16 Tryd.T17 Tryd.T21 Tryd.T22 Tryd.T23 Tryd.T24 Tryd.T25 Tryd.T27 Tryd.T28 Tryd.T29 Tryd.T31 Tryd.T32 Tryd.T34 Tryd.T35 Tryd.T36 Tryd.T38 Tryd.T39 Tryd.T41 Tryd.T42 Tryd.T43 Tryd.T44 Tryd.T45 Tryd.T46 Tryd.T47 Tryd.T48 Tryd.T49 Tryd.T50 Tryd.T51 Tryd.T52 Tryd.T53 Tryd.T54 Tryd.T55 Tryd.T56 Tryd.T57 Tryd.T58 Tryd.T59 Tryd.T60 Tryd.T61 Tryd.T62 Tryd.T63 Tryd.T65 Tryd.T66 Tryd.T67 Tryd.T68 Tryd.T69 Tryd.T70 Tryd.T73 Tryd.T78 Tryd.T79
attribute [local irreducible] Go.Av.CallK Go.Av.CallE Go.Av.CallQ Go.Av.CallF Go.Av.CallR Go.Av.CallH Go.Av.Con

/-- Is it a literal of bytes, or such a row turned to its own type? -/
def litL (o : Oper) : Bool := match o.op with
  | .buildSlice _ n parts => Nat.ble 2 n && parts.toList.all fun p => match p.2 with
    | .const _ => true
    | _ => false
  | .convert s t _ => Nat.beq s t
  | _ => false
theorem wLitL {P : Program} {T : TypeId → Option Ty} {N : Nat} {ops : Array Oper} {o : Oper} {rest : List Oper} {st : St} {K : St → Prop} {Z : Value → St → Prop} (_ho : litL o = true) (h : ∀ K' : St → Prop, (∀ st', WO P T N ops rest st' K Z → K' st') → wantedA ops st o = some true ∧ Lit1 T N st o.op o.dst K') : WO P T N ops (o :: rest) st K Z :=
  ⟨[], .inr (h (fun st' => awpOps P T N ops rest st' K Z) fun _ hw => hw.h)⟩
theorem flatL_by8 (l : List UInt8) : flatL (by8 l) = true := by
  unfold flatL by8
  rw [List.all_eq_true]
  intro x hx
  obtain ⟨b, -, rfl⟩ := List.mem_map.1 hx
  rfl
theorem crc_check : crc [49, 50, 51, 52, 53, 54, 55, 56, 57] = 3808858755 := by decide +kernel
theorem enc1 : enc (zz (-1)) = [1] := by rw [show zz (-1) = 1 by decide, enc_small (by omega)]; rfl
theorem enc2 : enc (zz 1) = [2] := by rw [show zz 1 = 2 by decide, enc_small (by omega)]; rfl
set_option maxHeartbeats 1000000 in
theorem awake01 : ACon Tryd.prog 10 [] (.p (B true)) := by
  have c1 := putInt_con [] (-1) ⟨by omega, by omega⟩ (by simp)
  rw [enc1, List.nil_append] at c1
  have c2 := putText_con [1] [97] (by simp) (by simp)
  rw [show (([97] : List UInt8).length : Int) = 1 from rfl, enc2] at c2
  simp only [List.cons_append, List.nil_append] at c2
  have c3 := int_con [1, 2, 97] 0 (by simp)
  rw [show intT [1, 2, 97] 0 = .tup [.p (I (-1)), .p (I 1), .p (I 0)] by simp [intT, rdT, rdU, unzz]] at c3
  have c4 := crc_con [49, 50, 51, 52, 53, 54, 55, 56, 57] (by simp)
  rw [crc_check] at c4
  obtain ⟨w1, hw1⟩ : ∃ w : List UInt8, w = [1] := ⟨_, rfl⟩
  obtain ⟨w2, hw2⟩ : ∃ w : List UInt8, w = [1, 2, 97] := ⟨_, rfl⟩
  rw [← hw2] at c2 c3
  rw [← hw1] at c1 c2
  have hf1 := flatL_by8 w1
  have hf2 := flatL_by8 w2
  have u1 := unL_by8 w2
  have u2 := strOf_by8 w2
  have hq : (w2 == [1, 2, 97]) = true := by rw [hw2]; rfl
  have hq' : (w2 = [1, 2, 97]) = True := by simp [hw2]
  simp [by8, dcell] at c4
  unfold RCon at c1
  simp only [show by8 [] = [] from rfl] at c1
  clear hw1 hw2
  refine wBody Tryd.tab Tryd.mixed Tryd.func10 rfl rfl Tryd.ntmps10 (by simp) (by simp) fun Q hr hn => ?_
  repeat' first | (refine wLitL rfl fun K hK => ?_; simp) | (refine CallE.own c1 ?_) | (refine CallE.ownL c2 hf2 ?_) | (refine hK _ ?_; clear hK) | (refine hK _ _ ?_; clear hK) | (clear hK; refine hK _ ?_; clear hK) | (clear hK; clear hK; refine hK _ ?_; clear hK) | (clear hK; clear hK; clear hK; refine hK _ ?_; clear hK) | (clear hK; clear hK; clear hK; clear hK; refine hK _ ?_; clear hK) | (refine wSeq fun K hK => ?_) | ((first | refine wReg ?_ | refine wDrwQ rfl (by kernel_rfl) ?_ | refine wDrwI ?_ | refine wDrw (by kernel_rfl) ?_); simp only [List.map_cons, List.map_nil, strip]) | ((first | refine wIs fun K hK => ?_ | refine wOs fun K hK => ?_ | refine wQs fun K hK => ?_ | refine CallK_plain ?_ | refine CallQ_plain ?_ | refine CallR_plain ?_ | refine wCond ?_); simp [hf1, hf2, u1, u2, hq, hq']) | (refine wIn ?_; refine And.intro (by kernel_rfl) ?_; try simp only [thenA_n]) | (first | refine wBlock ?_ | refine wScope ?_) | ((first | refine wRet ?_ | refine wExit ?_ | refine wSkip ?_); try simp) | ((first | refine wLabel ?_ | refine wOn ?_ | refine wQn ?_); try simp only [thenA_n]) | (refine CallE.pure (c3) rfl ?_) | (refine CallE.lent (c3) rfl ?_) | (refine CallF.pure (c3) rfl ?_) | (refine CallF.lent (c3) rfl ?_) | (refine CallE.own (c3) ?_) | (refine CallH.pure (c3) rfl ?_) | (refine CallH.lent (c3) rfl ?_) | (refine CallH.own (c3) ?_) | (refine CallE.pure (c4) rfl ?_) | (refine CallE.lent (c4) rfl ?_) | (refine CallF.pure (c4) rfl ?_) | (refine CallF.lent (c4) rfl ?_) | (refine CallE.own (c4) ?_) | (refine CallH.pure (c4) rfl ?_) | (refine CallH.lent (c4) rfl ?_) | (refine CallH.own (c4) ?_)
  all_goals apply hr
  all_goals simp [Tryd.f10]

set_option maxHeartbeats 1000000 in
theorem codecInts_con (b : List UInt8) (n a : Int) (hn : okI n) : ACon Tryd.prog 3 [.p (.sl 1 (by8 b)), .p (I n), .p (I a)] (.p (B true)) := by
  by_cases h1 : 3000 < b.length
  · have h1' : (3000 : Int) < b.length := by omega
    refine wBody Tryd.tab Tryd.mixed Tryd.func3 rfl rfl Tryd.ntmps3 (by simp) (by simp) fun Q hr hn => ?_
    repeat' first | (refine hK _ ?_; clear hK) | (refine hK _ _ ?_; clear hK) | (clear hK; refine hK _ ?_; clear hK) | (clear hK; clear hK; refine hK _ ?_; clear hK) | (clear hK; clear hK; clear hK; refine hK _ ?_; clear hK) | (clear hK; clear hK; clear hK; clear hK; refine hK _ ?_; clear hK) | (refine wSeq fun K hK => ?_) | ((first | refine wReg ?_ | refine wDrwQ rfl (by kernel_rfl) ?_ | refine wDrwI ?_ | refine wDrw (by kernel_rfl) ?_); simp only [List.map_cons, List.map_nil, strip]) | ((first | refine wIs fun K hK => ?_ | refine wOs fun K hK => ?_ | refine wQs fun K hK => ?_ | refine CallK_plain ?_ | refine CallQ_plain ?_ | refine CallR_plain ?_ | refine wCond ?_); simp [h1, h1']) | (refine wIn ?_; refine And.intro (by kernel_rfl) ?_; try simp only [thenA_n]) | (first | refine wBlock ?_ | refine wScope ?_) | ((first | refine wRet ?_ | refine wExit ?_ | refine wSkip ?_); try simp) | ((first | refine wLabel ?_ | refine wOn ?_ | refine wQn ?_); try simp only [thenA_n]) | (refine CallE.pure (awake01) rfl ?_) | (refine CallE.lent (awake01) rfl ?_) | (refine CallF.pure (awake01) rfl ?_) | (refine CallF.lent (awake01) rfl ?_) | (refine CallE.own (awake01) ?_) | (refine CallH.pure (awake01) rfl ?_) | (refine CallH.lent (awake01) rfl ?_) | (refine CallH.own (awake01) ?_)
    all_goals apply hr
    all_goals simp [Tryd.f3]
  have h1' : ¬ (3000 : Int) < b.length := by omega
  have c1 := (putInt_con b n hn (by omega)).toPure
  have c2 := (putInt01_con b n hn (by omega)).toPure
  have c3 := int_con b a (by omega)
  have c4 := int01_con b a (by omega)
  have u1 := unL_by8 (b ++ enc (zz n))
  have u2 := strOf_by8 (b ++ enc (zz n))
  generalize b ++ enc (zz n) = z at c1 c2 u1 u2
  obtain ⟨x, y, e, hk⟩ := intT_shape b a
  rw [hk] at c3 c4
  refine wBody Tryd.tab Tryd.mixed Tryd.func3 rfl rfl Tryd.ntmps3 (by simp) (by simp) fun Q hr hn => ?_
  repeat' first | (refine hK _ ?_; clear hK) | (refine hK _ _ ?_; clear hK) | (clear hK; refine hK _ ?_; clear hK) | (clear hK; clear hK; refine hK _ ?_; clear hK) | (clear hK; clear hK; clear hK; refine hK _ ?_; clear hK) | (clear hK; clear hK; clear hK; clear hK; refine hK _ ?_; clear hK) | (refine wSeq fun K hK => ?_) | ((first | refine wReg ?_ | refine wDrwQ rfl (by kernel_rfl) ?_ | refine wDrwI ?_ | refine wDrw (by kernel_rfl) ?_); simp only [List.map_cons, List.map_nil, strip]) | ((first | refine wIs fun K hK => ?_ | refine wOs fun K hK => ?_ | refine wQs fun K hK => ?_ | refine CallK_plain ?_ | refine CallQ_plain ?_ | refine CallR_plain ?_ | refine wCond ?_); simp [h1, h1', u1, u2]) | (refine wIn ?_; refine And.intro (by kernel_rfl) ?_; try simp only [thenA_n]) | (first | refine wBlock ?_ | refine wScope ?_) | ((first | refine wRet ?_ | refine wExit ?_ | refine wSkip ?_); try simp) | ((first | refine wLabel ?_ | refine wOn ?_ | refine wQn ?_); try simp only [thenA_n]) | (refine CallE.pure (c1) rfl ?_) | (refine CallE.lent (c1) rfl ?_) | (refine CallF.pure (c1) rfl ?_) | (refine CallF.lent (c1) rfl ?_) | (refine CallE.own (c1) ?_) | (refine CallH.pure (c1) rfl ?_) | (refine CallH.lent (c1) rfl ?_) | (refine CallH.own (c1) ?_) | (refine CallE.pure (c2) rfl ?_) | (refine CallE.lent (c2) rfl ?_) | (refine CallF.pure (c2) rfl ?_) | (refine CallF.lent (c2) rfl ?_) | (refine CallE.own (c2) ?_) | (refine CallH.pure (c2) rfl ?_) | (refine CallH.lent (c2) rfl ?_) | (refine CallH.own (c2) ?_) | (refine CallE.pure (c3) rfl ?_) | (refine CallE.lent (c3) rfl ?_) | (refine CallF.pure (c3) rfl ?_) | (refine CallF.lent (c3) rfl ?_) | (refine CallE.own (c3) ?_) | (refine CallH.pure (c3) rfl ?_) | (refine CallH.lent (c3) rfl ?_) | (refine CallH.own (c3) ?_) | (refine CallE.pure (c4) rfl ?_) | (refine CallE.lent (c4) rfl ?_) | (refine CallF.pure (c4) rfl ?_) | (refine CallF.lent (c4) rfl ?_) | (refine CallE.own (c4) ?_) | (refine CallH.pure (c4) rfl ?_) | (refine CallH.lent (c4) rfl ?_) | (refine CallH.own (c4) ?_) | (refine CallE.pure (awake01) rfl ?_) | (refine CallE.lent (awake01) rfl ?_) | (refine CallF.pure (awake01) rfl ?_) | (refine CallF.lent (awake01) rfl ?_) | (refine CallE.own (awake01) ?_) | (refine CallH.pure (awake01) rfl ?_) | (refine CallH.lent (awake01) rfl ?_) | (refine CallH.own (awake01) ?_)
  all_goals apply hr
  all_goals simp [Tryd.f3]
set_option maxHeartbeats 1000000 in
theorem codecTexts_con (b s : List UInt8) (a : Int) : ACon Tryd.prog 4 [.p (.sl 1 (by8 b)), .p (SB s), .p (I a)] (.p (B true)) := by
  by_cases h1 : 3000 < b.length
  · have h1' : (3000 : Int) < b.length := by omega
    refine wBody Tryd.tab Tryd.mixed Tryd.func4 rfl rfl Tryd.ntmps4 (by simp) (by simp) fun Q hr hn => ?_
    repeat' first | (refine hK _ ?_; clear hK) | (refine hK _ _ ?_; clear hK) | (clear hK; refine hK _ ?_; clear hK) | (clear hK; clear hK; refine hK _ ?_; clear hK) | (clear hK; clear hK; clear hK; refine hK _ ?_; clear hK) | (clear hK; clear hK; clear hK; clear hK; refine hK _ ?_; clear hK) | (refine wSeq fun K hK => ?_) | ((first | refine wReg ?_ | refine wDrwQ rfl (by kernel_rfl) ?_ | refine wDrwI ?_ | refine wDrw (by kernel_rfl) ?_); simp only [List.map_cons, List.map_nil, strip]) | ((first | refine wIs fun K hK => ?_ | refine wOs fun K hK => ?_ | refine wQs fun K hK => ?_ | refine CallK_plain ?_ | refine CallQ_plain ?_ | refine CallR_plain ?_ | refine wCond ?_); simp [h1, h1']) | (refine wIn ?_; refine And.intro (by kernel_rfl) ?_; try simp only [thenA_n]) | (first | refine wBlock ?_ | refine wScope ?_) | ((first | refine wRet ?_ | refine wExit ?_ | refine wSkip ?_); try simp) | ((first | refine wLabel ?_ | refine wOn ?_ | refine wQn ?_); try simp only [thenA_n]) | (refine CallE.pure (awake01) rfl ?_) | (refine CallE.lent (awake01) rfl ?_) | (refine CallF.pure (awake01) rfl ?_) | (refine CallF.lent (awake01) rfl ?_) | (refine CallE.own (awake01) ?_) | (refine CallH.pure (awake01) rfl ?_) | (refine CallH.lent (awake01) rfl ?_) | (refine CallH.own (awake01) ?_)
    all_goals apply hr
    all_goals simp [Tryd.f4]
  have h1' : ¬ (3000 : Int) < b.length := by omega
  by_cases h2 : 3000 < s.length
  · have h2' : (3000 : Int) < s.length := by omega
    refine wBody Tryd.tab Tryd.mixed Tryd.func4 rfl rfl Tryd.ntmps4 (by simp) (by simp) fun Q hr hn => ?_
    repeat' first | (refine hK _ ?_; clear hK) | (refine hK _ _ ?_; clear hK) | (clear hK; refine hK _ ?_; clear hK) | (clear hK; clear hK; refine hK _ ?_; clear hK) | (clear hK; clear hK; clear hK; refine hK _ ?_; clear hK) | (clear hK; clear hK; clear hK; clear hK; refine hK _ ?_; clear hK) | (refine wSeq fun K hK => ?_) | ((first | refine wReg ?_ | refine wDrwQ rfl (by kernel_rfl) ?_ | refine wDrwI ?_ | refine wDrw (by kernel_rfl) ?_); simp only [List.map_cons, List.map_nil, strip]) | ((first | refine wIs fun K hK => ?_ | refine wOs fun K hK => ?_ | refine wQs fun K hK => ?_ | refine CallK_plain ?_ | refine CallQ_plain ?_ | refine CallR_plain ?_ | refine wCond ?_); simp [h1, h1', h2, h2']) | (refine wIn ?_; refine And.intro (by kernel_rfl) ?_; try simp only [thenA_n]) | (first | refine wBlock ?_ | refine wScope ?_) | ((first | refine wRet ?_ | refine wExit ?_ | refine wSkip ?_); try simp) | ((first | refine wLabel ?_ | refine wOn ?_ | refine wQn ?_); try simp only [thenA_n]) | (refine CallE.pure (awake01) rfl ?_) | (refine CallE.lent (awake01) rfl ?_) | (refine CallF.pure (awake01) rfl ?_) | (refine CallF.lent (awake01) rfl ?_) | (refine CallE.own (awake01) ?_) | (refine CallH.pure (awake01) rfl ?_) | (refine CallH.lent (awake01) rfl ?_) | (refine CallH.own (awake01) ?_)
    all_goals apply hr
    all_goals simp [Tryd.f4]
  have h2' : ¬ (3000 : Int) < s.length := by omega
  have c1 := (putText_con b s (by omega) (by omega)).toPure
  have c2 := (putText01_con b s (by omega) (by omega)).toPure
  have c3 := text_all b a (by omega)
  have c4 := text01_con b a (by omega)
  have u1 := unL_by8 (b ++ (enc (zz s.length) ++ s))
  have u2 := strOf_by8 (b ++ (enc (zz s.length) ++ s))
  generalize b ++ (enc (zz s.length) ++ s) = z at c1 c2 u1 u2
  obtain ⟨x, y, e, hk⟩ := textT_shape b a
  rw [hk] at c3 c4
  refine wBody Tryd.tab Tryd.mixed Tryd.func4 rfl rfl Tryd.ntmps4 (by simp) (by simp) fun Q hr hn => ?_
  repeat' first | (refine hK _ ?_; clear hK) | (refine hK _ _ ?_; clear hK) | (clear hK; refine hK _ ?_; clear hK) | (clear hK; clear hK; refine hK _ ?_; clear hK) | (clear hK; clear hK; clear hK; refine hK _ ?_; clear hK) | (clear hK; clear hK; clear hK; clear hK; refine hK _ ?_; clear hK) | (refine wSeq fun K hK => ?_) | ((first | refine wReg ?_ | refine wDrwQ rfl (by kernel_rfl) ?_ | refine wDrwI ?_ | refine wDrw (by kernel_rfl) ?_); simp only [List.map_cons, List.map_nil, strip]) | ((first | refine wIs fun K hK => ?_ | refine wOs fun K hK => ?_ | refine wQs fun K hK => ?_ | refine CallK_plain ?_ | refine CallQ_plain ?_ | refine CallR_plain ?_ | refine wCond ?_); simp [h1, h1', h2, h2', u1, u2]) | (refine wIn ?_; refine And.intro (by kernel_rfl) ?_; try simp only [thenA_n]) | (first | refine wBlock ?_ | refine wScope ?_) | ((first | refine wRet ?_ | refine wExit ?_ | refine wSkip ?_); try simp) | ((first | refine wLabel ?_ | refine wOn ?_ | refine wQn ?_); try simp only [thenA_n]) | (refine CallE.pure (c1) rfl ?_) | (refine CallE.lent (c1) rfl ?_) | (refine CallF.pure (c1) rfl ?_) | (refine CallF.lent (c1) rfl ?_) | (refine CallE.own (c1) ?_) | (refine CallH.pure (c1) rfl ?_) | (refine CallH.lent (c1) rfl ?_) | (refine CallH.own (c1) ?_) | (refine CallE.pure (c2) rfl ?_) | (refine CallE.lent (c2) rfl ?_) | (refine CallF.pure (c2) rfl ?_) | (refine CallF.lent (c2) rfl ?_) | (refine CallE.own (c2) ?_) | (refine CallH.pure (c2) rfl ?_) | (refine CallH.lent (c2) rfl ?_) | (refine CallH.own (c2) ?_) | (refine CallE.pure (c3) rfl ?_) | (refine CallE.lent (c3) rfl ?_) | (refine CallF.pure (c3) rfl ?_) | (refine CallF.lent (c3) rfl ?_) | (refine CallE.own (c3) ?_) | (refine CallH.pure (c3) rfl ?_) | (refine CallH.lent (c3) rfl ?_) | (refine CallH.own (c3) ?_) | (refine CallE.pure (c4) rfl ?_) | (refine CallE.lent (c4) rfl ?_) | (refine CallF.pure (c4) rfl ?_) | (refine CallF.lent (c4) rfl ?_) | (refine CallE.own (c4) ?_) | (refine CallH.pure (c4) rfl ?_) | (refine CallH.lent (c4) rfl ?_) | (refine CallH.own (c4) ?_) | (refine CallE.pure (awake01) rfl ?_) | (refine CallE.lent (awake01) rfl ?_) | (refine CallF.pure (awake01) rfl ?_) | (refine CallF.lent (awake01) rfl ?_) | (refine CallE.own (awake01) ?_) | (refine CallH.pure (awake01) rfl ?_) | (refine CallH.lent (awake01) rfl ?_) | (refine CallH.own (awake01) ?_)
  all_goals apply hr
  all_goals simp [Tryd.f4]
end Go.Proofs.YtfilinonmngefaaDoor
