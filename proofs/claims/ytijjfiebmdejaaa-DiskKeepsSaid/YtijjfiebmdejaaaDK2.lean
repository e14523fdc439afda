/- Disks: names; where a file stands; a file taken out; the fuse. -/
import Derived.Test.YtijjfiebmdejaaaDK1
namespace Go.Proofs.Ytijjfiebmdejaaa
set_option linter.unusedSimpArgs false
set_option linter.unusedVariables false
open Go Go.Av
attribute [local simp] Try.T1 Try.T2 Try.T3 Try.T4 Try.T5 Try.T9 Try.T12 Try.T15 Try.T16 Try.T17 Try.T21 Try.T22 Try.T23 Try.T24 Try.T25 Try.T27 Try.T28 Try.T29 Try.T30 Try.T32 Try.T33 Try.T35 Try.T37 Try.T38 Try.T39 Try.T40 Try.T41 Try.T42 Try.T43 Try.T44 Try.T45 Try.T47 Try.T48 Try.T49 Try.T50 Try.T51 Try.T52 Try.T53 Try.T55 Try.T56 Try.T57 Try.T58 Try.T59 Try.T60 Try.T61 Try.T62 Try.T63 Try.T64 Try.T65 Try.T66 Try.T67 Try.T69 Try.T71 Try.T72 Try.T73 Try.T74 Try.T75 Try.T78 Try.T81 Try.T82 Try.T85 Try.T86
attribute [local irreducible] Go.Av.CallK Go.Av.CallE Go.Av.CallQ Go.Av.CallF Go.Av.CallR Go.Av.CallH Go.Av.Con
/-- A box is frozen ahead of an operation, once. -/
theorem wFrzX [Glob] {P : Program} {T : TypeId → Option Ty} {N : Nat} {ops : Array Oper} {o : Oper} {rest : List Oper} {st : St} {K : St → Prop} {Z : Value → St → Prop} (b : Nat) {e : TypeId} {cells : List V} {es : List PV} (hb : st.b b = some (.box e cells)) (hp : plC cells = some es) (h : WO P T N ops (o :: rest) (frzx st b es) K Z) : WO P T N ops (o :: rest) st K Z := by
  refine wFrz [.bx b] ?_
  have e0 : frzL st [.bx b] = frzx st b es := by simp only [frzL, gh1, hb, hp]
  rw [e0]
  exact h
theorem find1_con (f : Fl) (nm : List UInt8) : ACon Try.prog 54 [.p (.agg f.cells), .rptr [SB nm] 0] (.p (B !Op.bytesLess f.n nm)) := by
  unfold Fl.cells
  refine wBody Try.tab Try.mixed Try.func54 rfl rfl Try.ntmps54 (by simp) (by simp) fun Q hr hn => ?_
  repeat' first | (refine hK _ ?_; clear hK) | (refine hK _ _ ?_; clear hK) | (clear hK; refine hK _ ?_; clear hK) | (clear hK; clear hK; refine hK _ ?_; clear hK) | (clear hK; clear hK; clear hK; refine hK _ ?_; clear hK) | (clear hK; clear hK; clear hK; clear hK; refine hK _ ?_; clear hK) | (refine wSeq fun K hK => ?_) | ((first | refine wReg ?_ | refine wDrwQ rfl (by kernel_rfl) ?_ | refine wDrwI ?_ | refine wDrw (by kernel_rfl) ?_); simp only [List.map_cons, List.map_nil, strip]) | ((first | refine wIs fun K hK => ?_ | refine wOs fun K hK => ?_ | refine wQs fun K hK => ?_ | refine CallK_plain ?_ | refine CallQ_plain ?_ | refine CallR_plain ?_ | refine wCond ?_); simp) | (refine wIn ?_; refine And.intro (by kernel_rfl) ?_; try simp only [thenA_n]) | (first | refine wBlock ?_ | refine wScope ?_) | ((first | refine wRet ?_ | refine wExit ?_ | refine wSkip ?_); try simp) | ((first | refine wLabel ?_ | refine wOn ?_ | refine wQn ?_); try simp only [thenA_n])
  all_goals apply hr
  all_goals simp [Try.f54]
def fiF (l : List Fl) (nm : List UInt8) : Nat := l.findIdx fun f => !Op.bytesLess f.n nm
theorem fiF_le (l : List Fl) (nm : List UInt8) : fiF l nm ≤ l.length := List.findIdx_le_length
theorem fiF_of {l : List Fl} {nm : List UInt8} {k : Nat} (hk : k < l.length) (h : Op.bytesLess l[k].n nm = false) (hb : ∀ j (hj : j < k), Op.bytesLess (l[j]'(by omega)).n nm = true) : fiF l nm = k := by
  unfold fiF
  rw [List.findIdx_eq hk]
  exact ⟨by simp [h], fun j hj => by simp [hb j hj]⟩
theorem fiF_none {l : List Fl} {nm : List UInt8} (hb : ∀ j (hj : j < l.length), Op.bytesLess l[j].n nm = true) : fiF l nm = l.length := by
  unfold fiF
  rw [List.findIdx_eq_length]
  intro x hx
  obtain ⟨j, hj, rfl⟩ := List.getElem_of_mem hx
  simp [hb j hj]
def fiFV (l : List Fl) (nm : List UInt8) : Int := if fiF l nm = l.length then -1 else fiF l nm
set_option maxHeartbeats 1000000 in
theorem indexF_con (l : List Fl) (nm : List UInt8) (hl : l.length ≤ 1000000) :
    ACon Try.prog 53 [.p (.sl 3 (fls l)), .clo 54 [.rp [SB nm] 0]] (.p (I (fiFV l nm))) := by
  refine wBody Try.tab Try.mixed Try.func53 rfl rfl Try.ntmps53 (by simp) (by simp) fun Q hr hn => ?_
  repeat' first | (refine hK _ ?_; clear hK) | (refine hK _ _ ?_; clear hK) | (clear hK; refine hK _ ?_; clear hK) | (clear hK; clear hK; refine hK _ ?_; clear hK) | (clear hK; clear hK; clear hK; refine hK _ ?_; clear hK) | (clear hK; clear hK; clear hK; clear hK; refine hK _ ?_; clear hK) | (refine wSeq fun K hK => ?_) | ((first | refine wReg ?_ | refine wDrwQ rfl (by kernel_rfl) ?_ | refine wDrwI ?_ | refine wDrw (by kernel_rfl) ?_); simp only [List.map_cons, List.map_nil, strip]) | ((first | refine wIs fun K hK => ?_ | refine wOs fun K hK => ?_ | refine wQs fun K hK => ?_ | refine CallK_plain ?_ | refine CallQ_plain ?_ | refine CallR_plain ?_ | refine wCond ?_); simp) | (refine wIn ?_; refine And.intro (by kernel_rfl) ?_; try simp only [thenA_n]) | (first | refine wBlock ?_ | refine wScope ?_) | ((first | refine wRet ?_ | refine wExit ?_ | refine wSkip ?_); try simp) | ((first | refine wLabel ?_ | refine wOn ?_ | refine wQn ?_); try simp only [thenA_n])
  refine wLoop (fun N st => ∃ k, k + N = l.length ∧ st.s 0 = .p (.sl 3 (fls l)) ∧ st.s 1 = .clo 54 [.rp [SB nm] 0] ∧ st.s 7 = .p (I l.length) ∧ st.s 8 = .p (I k) ∧ ∀ j (hj : j < k) (hjl : j < l.length), Op.bytesLess l[j].n nm = true) l.length ⟨0, by simp⟩ fun K N st hL ⟨k, hk, g0, g1, g7, g8, hi⟩ => ?_
  by_cases hlt : k < l.length
  · have hlt' : (k : Int) < l.length := by omega
    have hw := wrapS k _ hlt (by omega)
    have he := fls_get hlt
    have hx := find1_con l[k] nm
    unfold Fl.cells at hx
    cases o : Op.bytesLess l[k].n nm with
    | false =>
      have hf : fiFV l nm = k := by
        have := fiF_of hlt o fun j hj => hi j hj (by omega)
        unfold fiFV; rw [this, if_neg (by omega)]
      rw [hf] at hr
      rw [o] at hx
      simp only [Bool.not_false] at hx
      repeat' first | (refine hK _ ?_; clear hK) | (refine hK _ _ ?_; clear hK) | (clear hK; refine hK _ ?_; clear hK) | (clear hK; clear hK; refine hK _ ?_; clear hK) | (clear hK; clear hK; clear hK; refine hK _ ?_; clear hK) | (clear hK; clear hK; clear hK; clear hK; refine hK _ ?_; clear hK) | (refine wSeq fun K hK => ?_) | ((first | refine wReg ?_ | refine wDrwQ rfl (by kernel_rfl) ?_ | refine wDrwI ?_ | refine wDrw (by kernel_rfl) ?_); simp only [List.map_cons, List.map_nil, strip]) | ((first | refine wIs fun K hK => ?_ | refine wOs fun K hK => ?_ | refine wQs fun K hK => ?_ | refine CallK_plain ?_ | refine CallQ_plain ?_ | refine CallR_plain ?_ | refine wCond ?_); simp [g0, g1, g7, g8, hlt, hlt', hw, he, Cap.free]) | (refine wIn ?_; refine And.intro (by kernel_rfl) ?_; try simp only [thenA_n]) | (first | refine wBlock ?_ | refine wScope ?_) | ((first | refine wRet ?_ | refine wExit ?_ | refine wSkip ?_); try simp) | ((first | refine wLabel ?_ | refine wOn ?_ | refine wQn ?_); try simp only [thenA_n]) | (refine CallE.pure (hx) rfl ?_) | (refine CallE.lent (hx) rfl ?_) | (refine CallF.pure (hx) rfl ?_) | (refine CallF.lent (hx) rfl ?_) | (refine CallE.own (hx) ?_) | (refine CallH.pure (hx) rfl ?_) | (refine CallH.lent (hx) rfl ?_) | (refine CallH.own (hx) ?_)
      all_goals apply hr
      all_goals simp [Try.f53, g0, g1, g7, g8]
    | true =>
      rw [o] at hx
      simp only [Bool.not_true] at hx
      repeat' first | (refine hK _ ?_; clear hK) | (refine hK _ _ ?_; clear hK) | (clear hK; refine hK _ ?_; clear hK) | (clear hK; clear hK; refine hK _ ?_; clear hK) | (clear hK; clear hK; clear hK; refine hK _ ?_; clear hK) | (clear hK; clear hK; clear hK; clear hK; refine hK _ ?_; clear hK) | (refine wSeq fun K hK => ?_) | ((first | refine wReg ?_ | refine wDrwQ rfl (by kernel_rfl) ?_ | refine wDrwI ?_ | refine wDrw (by kernel_rfl) ?_); simp only [List.map_cons, List.map_nil, strip]) | ((first | refine wIs fun K hK => ?_ | refine wOs fun K hK => ?_ | refine wQs fun K hK => ?_ | refine CallK_plain ?_ | refine CallQ_plain ?_ | refine CallR_plain ?_ | refine wCond ?_); simp [g0, g1, g7, g8, hlt, hlt', hw, he, Cap.free]) | (refine wIn ?_; refine And.intro (by kernel_rfl) ?_; try simp only [thenA_n]) | (first | refine wBlock ?_ | refine wScope ?_) | ((first | refine wRet ?_ | refine wExit ?_ | refine wSkip ?_); try simp) | ((first | refine wLabel ?_ | refine wOn ?_ | refine wQn ?_); try simp only [thenA_n]) | (refine CallE.pure (hx) rfl ?_) | (refine CallE.lent (hx) rfl ?_) | (refine CallF.pure (hx) rfl ?_) | (refine CallF.lent (hx) rfl ?_) | (refine CallE.own (hx) ?_) | (refine CallH.pure (hx) rfl ?_) | (refine CallH.lent (hx) rfl ?_) | (refine CallH.own (hx) ?_)
      refine hL _ (N - 1) (by omega) ⟨k + 1, by omega, ?_⟩
      simp [g0, g1, g7, g8, hw]
      intro j hj hjl
      by_cases hjk : j = k
      · subst hjk; exact o
      · exact hi j (by omega) hjl
  · have hlt' : ¬ (k : Int) < l.length := by omega
    have hf : fiFV l nm = -1 := by
      have := fiF_none (l := l) (nm := nm) fun j hj => hi j (by omega) hj
      unfold fiFV; rw [if_pos this]
    rw [hf] at hr
    repeat' first | (refine hK _ ?_; clear hK) | (refine hK _ _ ?_; clear hK) | (clear hK; refine hK _ ?_; clear hK) | (clear hK; clear hK; refine hK _ ?_; clear hK) | (clear hK; clear hK; clear hK; refine hK _ ?_; clear hK) | (clear hK; clear hK; clear hK; clear hK; refine hK _ ?_; clear hK) | (refine wSeq fun K hK => ?_) | ((first | refine wReg ?_ | refine wDrwQ rfl (by kernel_rfl) ?_ | refine wDrwI ?_ | refine wDrw (by kernel_rfl) ?_); simp only [List.map_cons, List.map_nil, strip]) | ((first | refine wIs fun K hK => ?_ | refine wOs fun K hK => ?_ | refine wQs fun K hK => ?_ | refine CallK_plain ?_ | refine CallQ_plain ?_ | refine CallR_plain ?_ | refine wCond ?_); simp [g0, g1, g7, g8, hlt, hlt']) | (refine wIn ?_; refine And.intro (by kernel_rfl) ?_; try simp only [thenA_n]) | (first | refine wBlock ?_ | refine wScope ?_) | ((first | refine wRet ?_ | refine wExit ?_ | refine wSkip ?_); try simp) | ((first | refine wLabel ?_ | refine wOn ?_ | refine wQn ?_); try simp only [thenA_n])
    all_goals apply hr
    all_goals simp [Try.f53, g0, g1, g7, g8]
/-- Whether the file is there. -/
def isF (l : List Fl) (nm : List UInt8) : Bool := match l[fiF l nm]? with
  | some f => f.n == nm
  | none => false
theorem find_con (l : List Fl) (nm : List UInt8) (hl : l.length ≤ 1000000) : ACon Try.prog 36 [.p (.sl 3 (fls l)), .p (SB nm)] (.tup [.p (I (fiF l nm)), .p (B (isF l nm))]) := by
  have c := indexF_con l nm hl
  have hle := fiF_le l nm
  by_cases h : fiF l nm = l.length
  · have e : isF l nm = false := by unfold isF; rw [List.getElem?_eq_none (by omega)]
    have e2 : fiFV l nm = -1 := by unfold fiFV; rw [if_pos h]
    rw [e2] at c
    rw [e, h]
    refine wBody Try.tab Try.mixed Try.func36 rfl rfl Try.ntmps36 (by simp) (by simp) fun Q hr hn => ?_
    repeat' first | (refine wFrzX 3 rfl rfl ?_; simp [frzx, subx, subx0, subxC, subxB]) | (refine hK _ ?_; clear hK) | (refine hK _ _ ?_; clear hK) | (clear hK; refine hK _ ?_; clear hK) | (clear hK; clear hK; refine hK _ ?_; clear hK) | (clear hK; clear hK; clear hK; refine hK _ ?_; clear hK) | (clear hK; clear hK; clear hK; clear hK; refine hK _ ?_; clear hK) | (refine wSeq fun K hK => ?_) | ((first | refine wReg ?_ | refine wDrwQ rfl (by kernel_rfl) ?_ | refine wDrwI ?_ | refine wDrw (by kernel_rfl) ?_); simp only [List.map_cons, List.map_nil, strip]) | ((first | refine wIs fun K hK => ?_ | refine wOs fun K hK => ?_ | refine wQs fun K hK => ?_ | refine CallK_plain ?_ | refine CallQ_plain ?_ | refine CallR_plain ?_ | refine wCond ?_); simp [Cap.free]) | (refine wIn ?_; refine And.intro (by kernel_rfl) ?_; try simp only [thenA_n]) | (first | refine wBlock ?_ | refine wScope ?_) | ((first | refine wRet ?_ | refine wExit ?_ | refine wSkip ?_); try simp) | ((first | refine wLabel ?_ | refine wOn ?_ | refine wQn ?_); try simp only [thenA_n]) | (refine CallE.pure (c) rfl ?_) | (refine CallE.lent (c) rfl ?_) | (refine CallF.pure (c) rfl ?_) | (refine CallF.lent (c) rfl ?_) | (refine CallE.own (c) ?_) | (refine CallH.pure (c) rfl ?_) | (refine CallH.lent (c) rfl ?_) | (refine CallH.own (c) ?_)
    all_goals apply hr
    all_goals simp [Try.f36]
  · have hlt : fiF l nm < l.length := by omega
    have e : isF l nm = (l[fiF l nm].n == nm) := by unfold isF; rw [List.getElem?_eq_getElem hlt]
    have e2 : fiFV l nm = fiF l nm := by unfold fiFV; rw [if_neg h]
    rw [e2] at c
    rw [e]
    generalize fiF l nm = i at *
    have he := fls_get hlt
    have h0n : ((i : Int) < 0) = False := eq_false (by omega)
    refine wBody Try.tab Try.mixed Try.func36 rfl rfl Try.ntmps36 (by simp) (by simp) fun Q hr hn => ?_
    repeat' first | (refine wFrzX 3 rfl rfl ?_; simp [frzx, subx, subx0, subxC, subxB]) | (refine hK _ ?_; clear hK) | (refine hK _ _ ?_; clear hK) | (clear hK; refine hK _ ?_; clear hK) | (clear hK; clear hK; refine hK _ ?_; clear hK) | (clear hK; clear hK; clear hK; refine hK _ ?_; clear hK) | (clear hK; clear hK; clear hK; clear hK; refine hK _ ?_; clear hK) | (refine wSeq fun K hK => ?_) | ((first | refine wReg ?_ | refine wDrwQ rfl (by kernel_rfl) ?_ | refine wDrwI ?_ | refine wDrw (by kernel_rfl) ?_); simp only [List.map_cons, List.map_nil, strip]) | ((first | refine wIs fun K hK => ?_ | refine wOs fun K hK => ?_ | refine wQs fun K hK => ?_ | refine CallK_plain ?_ | refine CallQ_plain ?_ | refine CallR_plain ?_ | refine wCond ?_); simp [Cap.free, he, hlt, h0n]) | (refine wIn ?_; refine And.intro (by kernel_rfl) ?_; try simp only [thenA_n]) | (first | refine wBlock ?_ | refine wScope ?_) | ((first | refine wRet ?_ | refine wExit ?_ | refine wSkip ?_); try simp) | ((first | refine wLabel ?_ | refine wOn ?_ | refine wQn ?_); try simp only [thenA_n]) | (refine CallE.pure (c) rfl ?_) | (refine CallE.lent (c) rfl ?_) | (refine CallF.pure (c) rfl ?_) | (refine CallF.lent (c) rfl ?_) | (refine CallE.own (c) ?_) | (refine CallH.pure (c) rfl ?_) | (refine CallH.lent (c) rfl ?_) | (refine CallH.own (c) ?_)
    all_goals apply hr
    all_goals simp [Try.f36]
end Go.Proofs.Ytijjfiebmdejaaa
