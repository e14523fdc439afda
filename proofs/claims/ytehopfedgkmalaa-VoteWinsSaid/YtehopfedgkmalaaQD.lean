/- By heads and by weight. -/
import Derived.Test.YtehopfedgkmalaaQC
namespace Go.Proofs.Ytehopfedgkmalaa
set_option linter.unusedSimpArgs false
set_option linter.unusedVariables false
open Go Go.Av
attribute [local simp] Try.T
attribute [local irreducible] Go.Av.CallK Go.Av.CallE Go.Av.CallQ Go.Av.CallF Go.Av.Con

def tot (f : Mb → Int) (p : Mb → Bool) : List Mb → Int
  | [] => 0
  | m :: l => (if m.r = 1 ∧ p m = true then f m else 0) + tot f p l
def inS (set : List Int) (m : Mb) : Bool := decide (m.i ∈ set)
def yes (_ : Mb) : Bool := true
def one (_ : Mb) : Int := 1
def okL (l : List Mb) : Prop := ∀ m ∈ l, okM m
theorem fine_ok : ∀ (l : List Mb) (p : Int), fine p l = true → okL l
  | [], _, _ => fun m hm => by simp at hm
  | m :: l, p, h => fun x hx => by
    simp only [fine, Bool.and_eq_true, decide_eq_true_eq] at h
    rcases List.mem_cons.1 hx with rfl | hx
    · exact h.1.1
    · exact fine_ok l _ h.2 x hx
theorem okL_get {l : List Mb} (h : okL l) (k : Nat) (hk : k < l.length) : okM l[k] := h _ (List.getElem_mem hk)

theorem is1_con (m : Mb) : ACon Try.prog 38 [.p (.agg m.cells)] (.p (I (one m))) := by
  obtain ⟨i, r, w, g⟩ := m
  simp only [Mb.cells, one]
  refine wBody Try.tab Try.mixed Try.func38 rfl rfl Try.ntmps38 (by simp) (by simp) fun Q hr hn => ?_
  repeat' first | (refine hK _ ?_; clear hK) | (clear hK; refine hK _ ?_; clear hK) | (clear hK; clear hK; refine hK _ ?_; clear hK) | (clear hK; clear hK; clear hK; refine hK _ ?_; clear hK) | (clear hK; clear hK; clear hK; clear hK; refine hK _ ?_; clear hK) | (refine wSeq fun K hK => ?_) | (refine wReg ?_; simp only [List.map_cons, List.map_nil, strip]) | (refine wDrw (by kernel_rfl) ?_; simp only [List.map_cons, List.map_nil, strip]) | (refine wOs fun K hK => ?_; simp) | (refine wQs fun K hK => ?_; simp) | (refine CallK_plain ?_; simp) | (refine CallQ_plain ?_; simp) | (refine wRet ?_; try simp) | (refine wCond ?_; simp) | (refine wBlock ?_) | (refine wExit ?_; try simp) | (refine wSkip ?_; try simp) | (refine wOn ?_; try simp only [thenA_n]) | (refine wQn ?_; try simp only [thenA_n])
  all_goals apply hr
  all_goals simp [Try.f38]
theorem is2_con (m : Mb) : ACon Try.prog 39 [.p (.agg m.cells)] (.p (I m.w)) := by
  obtain ⟨i, r, w, g⟩ := m
  simp only [Mb.cells]
  refine wBody Try.tab Try.mixed Try.func39 rfl rfl Try.ntmps39 (by simp) (by simp) fun Q hr hn => ?_
  repeat' first | (refine hK _ ?_; clear hK) | (clear hK; refine hK _ ?_; clear hK) | (clear hK; clear hK; refine hK _ ?_; clear hK) | (clear hK; clear hK; clear hK; refine hK _ ?_; clear hK) | (clear hK; clear hK; clear hK; clear hK; refine hK _ ?_; clear hK) | (refine wSeq fun K hK => ?_) | (refine wReg ?_; simp only [List.map_cons, List.map_nil, strip]) | (refine wDrw (by kernel_rfl) ?_; simp only [List.map_cons, List.map_nil, strip]) | (refine wOs fun K hK => ?_; simp) | (refine wQs fun K hK => ?_; simp) | (refine CallK_plain ?_; simp) | (refine CallQ_plain ?_; simp) | (refine wRet ?_; try simp) | (refine wCond ?_; simp) | (refine wBlock ?_) | (refine wExit ?_; try simp) | (refine wSkip ?_; try simp) | (refine wOn ?_; try simp only [thenA_n]) | (refine wQn ?_; try simp only [thenA_n])
  all_goals apply hr
  all_goals simp [Try.f39]

set_option maxHeartbeats 2000000 in
theorem most_con (c : Cf) (set : List Int) (h : Nat) (f : Mb → Int) (hl : c.ms.length ≤ 1000000) (hf : ∀ m, ACon Try.prog h [.p (.agg m.cells)] (.p (I (f m)))) (hb : ∀ m ∈ c.ms, 0 ≤ f m ∧ f m ≤ 100) :
    ACon Try.prog 37 [.p (.agg c.cells), .p (.sl 1 (ints set)), .p (.v (.func (.func h) #[] #[]))] (.p (B (decide (tot f yes c.ms < 2 * tot f (inS set) c.ms)))) := by
  obtain ⟨ep, n, kind, l⟩ := c
  simp only [Cf.cells] at hl hb ⊢
  refine wBody Try.tab Try.mixed Try.func37 rfl rfl Try.ntmps37 (by simp) (by simp) fun Q hr hn => ?_
  repeat' first | (refine hK _ ?_; clear hK) | (clear hK; refine hK _ ?_; clear hK) | (clear hK; clear hK; refine hK _ ?_; clear hK) | (clear hK; clear hK; clear hK; refine hK _ ?_; clear hK) | (clear hK; clear hK; clear hK; clear hK; refine hK _ ?_; clear hK) | (refine wSeq fun K hK => ?_) | (refine wReg ?_; simp only [List.map_cons, List.map_nil, strip]) | (refine wDrw (by kernel_rfl) ?_; simp only [List.map_cons, List.map_nil, strip]) | (refine wOs fun K hK => ?_; simp) | (refine wQs fun K hK => ?_; simp) | (refine CallK_plain ?_; simp) | (refine CallQ_plain ?_; simp) | (refine wRet ?_; try simp) | (refine wCond ?_; simp) | (refine wBlock ?_) | (refine wExit ?_; try simp) | (refine wSkip ?_; try simp) | (refine wOn ?_; try simp only [thenA_n]) | (refine wQn ?_; try simp only [thenA_n])
  refine wLoop (fun N st => ∃ (k : Nat) (a b : Int), k + N = l.length ∧ st.s 1 = .p (.sl 1 (ints set)) ∧ st.s 2 = .p (.v (.func (.func h) #[] #[])) ∧ st.s 3 = .ptr 3 0 ∧ st.b 3 = some (.box 29 [.p (I ep), .p (I n), .p (I kind), .p (.sl 4 (mbs l))]) ∧ st.s 12 = .p (.sl 4 (mbs l)) ∧ st.s 13 = .p (I l.length) ∧ st.s 14 = .p (I k) ∧ st.s 8 = .p (I a) ∧ st.s 7 = .p (I b) ∧
    (0 ≤ a ∧ a ≤ 100 * k ∧ a + tot f yes (l.drop k) = tot f yes l) ∧ (0 ≤ b ∧ b ≤ 100 * k ∧ b + tot f (inS set) (l.drop k) = tot f (inS set) l)) l.length ⟨0, 0, 0, by simp⟩ fun K N st hL ⟨k, a, b, hk, h1, h2, h3, b3, h12, h13, h14, h8, h7, ⟨ha0, ha1, ha⟩, ⟨hb0, hb1, hbb⟩⟩ => ?_
  by_cases hlt : k < l.length
  · have hw := wrapS k _ hlt (by omega)
    rw [List.drop_eq_getElem_cons hlt, tot] at ha hbb
    have hx := hf l[k]
    obtain ⟨w0, w1⟩ := hb _ (List.getElem_mem hlt)
    simp only [Mb.cells] at hx
    by_cases o4 : l[k].r = 1
    · have hwa : IntKind.i64.wrap (a + f l[k]) = a + f l[k] := by rw [wrap_id] <;> omega
      have hwb : IntKind.i64.wrap (b + f l[k]) = b + f l[k] := by rw [wrap_id] <;> omega
      have hcall := contains_con set l[k].i
      rw [o4] at hx
      simp only [o4, yes, inS, true_and, if_true] at ha hbb
      by_cases o5 : l[k].i ∈ set
      · rw [decide_eq_true o5] at hcall hbb
        repeat' first | (refine hK _ ?_; clear hK) | (clear hK; refine hK _ ?_; clear hK) | (clear hK; clear hK; refine hK _ ?_; clear hK) | (clear hK; clear hK; clear hK; refine hK _ ?_; clear hK) | (clear hK; clear hK; clear hK; clear hK; refine hK _ ?_; clear hK) | (refine wSeq fun K hK => ?_) | (refine wReg ?_; simp only [List.map_cons, List.map_nil, strip]) | (refine wDrw (by kernel_rfl) ?_; simp only [List.map_cons, List.map_nil, strip]) | (refine wOs fun K hK => ?_; simp [h1, h2, h3, b3, h12, h13, h14, h8, h7, hlt, hw, o4, hwa, hwb]) | (refine wQs fun K hK => ?_; simp [h1, h2, h3, b3, h12, h13, h14, h8, h7, hlt, hw, o4, hwa, hwb]) | (refine CallK_plain ?_; simp [h1, h2, h3, b3, h12, h13, h14, h8, h7, hlt, hw, o4, hwa, hwb]) | (refine CallQ_plain ?_; simp [h1, h2, h3, b3, h12, h13, h14, h8, h7, hlt, hw, o4, hwa, hwb]) | (refine wRet ?_; try simp) | (refine wCond ?_; simp [h1, h2, h3, b3, h12, h13, h14, h8, h7, hlt, hw, o4, hwa, hwb]) | (refine wBlock ?_) | (refine wExit ?_; try simp) | (refine wSkip ?_; try simp) | (refine wOn ?_; try simp only [thenA_n]) | (refine wQn ?_; try simp only [thenA_n]) | (refine CallE.pure (hx) rfl ?_) | (refine CallE.lent (hx) rfl ?_) | (refine CallF.pure (hx) rfl ?_) | (refine CallF.lent (hx) rfl ?_) | (refine CallE.own (hx) ?_) | (refine CallE.pure (hcall) rfl ?_) | (refine CallE.lent (hcall) rfl ?_) | (refine CallF.pure (hcall) rfl ?_) | (refine CallF.lent (hcall) rfl ?_) | (refine CallE.own (hcall) ?_)
        refine hL _ (N - 1) (by omega) ⟨k + 1, a + f l[k], b + f l[k], by omega, ?_⟩
        simp [h1, h2, h3, b3, h12, h13, hw, hwa, hwb]
        simp only [if_true] at hbb
        refine ⟨⟨by omega, by omega, ?_⟩, by omega, by omega, ?_⟩
        · rw [Int.add_assoc]; exact ha
        · rw [Int.add_assoc]; exact hbb
      · rw [decide_eq_false o5] at hcall hbb
        repeat' first | (refine hK _ ?_; clear hK) | (clear hK; refine hK _ ?_; clear hK) | (clear hK; clear hK; refine hK _ ?_; clear hK) | (clear hK; clear hK; clear hK; refine hK _ ?_; clear hK) | (clear hK; clear hK; clear hK; clear hK; refine hK _ ?_; clear hK) | (refine wSeq fun K hK => ?_) | (refine wReg ?_; simp only [List.map_cons, List.map_nil, strip]) | (refine wDrw (by kernel_rfl) ?_; simp only [List.map_cons, List.map_nil, strip]) | (refine wOs fun K hK => ?_; simp [h1, h2, h3, b3, h12, h13, h14, h8, h7, hlt, hw, o4, hwa]) | (refine wQs fun K hK => ?_; simp [h1, h2, h3, b3, h12, h13, h14, h8, h7, hlt, hw, o4, hwa]) | (refine CallK_plain ?_; simp [h1, h2, h3, b3, h12, h13, h14, h8, h7, hlt, hw, o4, hwa]) | (refine CallQ_plain ?_; simp [h1, h2, h3, b3, h12, h13, h14, h8, h7, hlt, hw, o4, hwa]) | (refine wRet ?_; try simp) | (refine wCond ?_; simp [h1, h2, h3, b3, h12, h13, h14, h8, h7, hlt, hw, o4, hwa]) | (refine wBlock ?_) | (refine wExit ?_; try simp) | (refine wSkip ?_; try simp) | (refine wOn ?_; try simp only [thenA_n]) | (refine wQn ?_; try simp only [thenA_n]) | (refine CallE.pure (hx) rfl ?_) | (refine CallE.lent (hx) rfl ?_) | (refine CallF.pure (hx) rfl ?_) | (refine CallF.lent (hx) rfl ?_) | (refine CallE.own (hx) ?_) | (refine CallE.pure (hcall) rfl ?_) | (refine CallE.lent (hcall) rfl ?_) | (refine CallF.pure (hcall) rfl ?_) | (refine CallF.lent (hcall) rfl ?_) | (refine CallE.own (hcall) ?_)
        refine hL _ (N - 1) (by omega) ⟨k + 1, a + f l[k], b, by omega, ?_⟩
        simp [h1, h2, h3, b3, h7, h12, h13, hw, hwa]
        simp at hbb
        refine ⟨⟨by omega, by omega, ?_⟩, by omega, by omega, ?_⟩
        · rw [Int.add_assoc]; exact ha
        · exact hbb
    · simp only [o4, false_and, if_false, Int.zero_add] at ha hbb
      repeat' first | (refine hK _ ?_; clear hK) | (clear hK; refine hK _ ?_; clear hK) | (clear hK; clear hK; refine hK _ ?_; clear hK) | (clear hK; clear hK; clear hK; refine hK _ ?_; clear hK) | (clear hK; clear hK; clear hK; clear hK; refine hK _ ?_; clear hK) | (refine wSeq fun K hK => ?_) | (refine wReg ?_; simp only [List.map_cons, List.map_nil, strip]) | (refine wDrw (by kernel_rfl) ?_; simp only [List.map_cons, List.map_nil, strip]) | (refine wOs fun K hK => ?_; simp [h1, h2, h3, b3, h12, h13, h14, h8, h7, hlt, hw, o4]) | (refine wQs fun K hK => ?_; simp [h1, h2, h3, b3, h12, h13, h14, h8, h7, hlt, hw, o4]) | (refine CallK_plain ?_; simp [h1, h2, h3, b3, h12, h13, h14, h8, h7, hlt, hw, o4]) | (refine CallQ_plain ?_; simp [h1, h2, h3, b3, h12, h13, h14, h8, h7, hlt, hw, o4]) | (refine wRet ?_; try simp) | (refine wCond ?_; simp [h1, h2, h3, b3, h12, h13, h14, h8, h7, hlt, hw, o4]) | (refine wBlock ?_) | (refine wExit ?_; try simp) | (refine wSkip ?_; try simp) | (refine wOn ?_; try simp only [thenA_n]) | (refine wQn ?_; try simp only [thenA_n])
      refine hL _ (N - 1) (by omega) ⟨k + 1, a, b, by omega, ?_⟩
      simp [h1, h2, h3, b3, h12, h13, h7, h8, hw]
      refine ⟨⟨by omega, by omega, ?_⟩, by omega, by omega, ?_⟩
      · exact ha
      · exact hbb
  · rw [List.drop_of_length_le (by omega)] at ha hbb
    simp only [tot, Int.add_zero] at ha hbb
    subst ha hbb
    have hw2 : IntKind.i64.wrap (2 * tot f (inS set) l) = 2 * tot f (inS set) l := by rw [wrap_id] <;> omega
    repeat' first | (refine hK _ ?_; clear hK) | (clear hK; refine hK _ ?_; clear hK) | (clear hK; clear hK; refine hK _ ?_; clear hK) | (clear hK; clear hK; clear hK; refine hK _ ?_; clear hK) | (clear hK; clear hK; clear hK; clear hK; refine hK _ ?_; clear hK) | (refine wSeq fun K hK => ?_) | (refine wReg ?_; simp only [List.map_cons, List.map_nil, strip]) | (refine wDrw (by kernel_rfl) ?_; simp only [List.map_cons, List.map_nil, strip]) | (refine wOs fun K hK => ?_; simp [h1, h2, h3, b3, h12, h13, h14, h8, h7, hlt, hw2]) | (refine wQs fun K hK => ?_; simp [h1, h2, h3, b3, h12, h13, h14, h8, h7, hlt, hw2]) | (refine CallK_plain ?_; simp [h1, h2, h3, b3, h12, h13, h14, h8, h7, hlt, hw2]) | (refine CallQ_plain ?_; simp [h1, h2, h3, b3, h12, h13, h14, h8, h7, hlt, hw2]) | (refine wRet ?_; try simp) | (refine wCond ?_; simp [h1, h2, h3, b3, h12, h13, h14, h8, h7, hlt, hw2]) | (refine wBlock ?_) | (refine wExit ?_; try simp) | (refine wSkip ?_; try simp) | (refine wOn ?_; try simp only [thenA_n]) | (refine wQn ?_; try simp only [thenA_n])
    apply hr
    simp [Try.f37]
end Go.Proofs.Ytehopfedgkmalaa
