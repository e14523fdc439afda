/- By heads and by weight. -/
import Derived.Test.YtefhcofecdecgaaQC
namespace Go.Proofs.Ytefhcofecdecgaa
set_option linter.unusedSimpArgs false
set_option linter.unusedVariables false
open Go Go.Av
attribute [local simp] Try.T1 Try.T2 Try.T3 Try.T4 Try.T5 Try.T9 Try.T12 Try.T21 Try.T23 Try.T24 Try.T26 Try.T27 Try.T29 Try.T30 Try.T31 Try.T32 Try.T33 Try.T34 Try.T35 Try.T37 Try.T38 Try.T39 Try.T40 Try.T41 Try.T42 Try.T43 Try.T44 Try.T45 Try.T46 Try.T47 Try.T48 Try.T49 Try.T51 Try.T52 Try.T53 Try.T55 Try.T57 Try.T58 Try.T59 Try.T60 Try.T61 Try.T62 Try.T63 Try.T64 Try.T65 Try.T66 Try.T67 Try.T69 Try.T71 Try.T72 Try.T73 Try.T74 Try.T75 Try.T76 Try.T77 Try.T78 Try.T79 Try.T80 Try.T82 Try.T83 Try.T84 Try.T85 Try.T86 Try.T87 Try.T88 Try.T89 Try.T91 Try.T92 Try.T94 Try.T95 Try.T96 Try.T97 Try.T98 Try.T99 Try.T100 Try.T101 Try.T102 Try.T103 Try.T104 Try.T105 Try.T106 Try.T107 Try.T109 Try.T110 Try.T111 Try.T112 Try.T113 Try.T114 Try.T115 Try.T116 Try.T118 Try.T119 Try.T121 Try.T122 Try.T124 Try.T125 Try.T127 Try.T128 Try.T130 Try.T132 Try.T133 Try.T135 Try.T136 Try.T137 Try.T139 Try.T141 Try.T142 Try.T143 Try.T145 Try.T147 Try.T149 Try.T150 Try.T152 Try.T154 Try.T155 Try.T156 Try.T157 Try.T158 Try.T159 Try.T160 Try.T161 Try.T162 Try.T163 Try.T164 Try.T165 Try.T166 Try.T167 Try.T168 Try.T170 Try.T172 Try.T173 Try.T174 Try.T175 Try.T176 Try.T177 Try.T178 Try.T179 Try.T180 Try.T181 Try.T182 Try.T183 Try.T184 Try.T185 Try.T186 Try.T187 Try.T188 Try.T190 Try.T191 Try.T192 Try.T193 Try.T194 Try.T195 Try.T196 Try.T198 Try.T199 Try.T200 Try.T202 Try.T203 Try.T204 Try.T205 Try.T206 Try.T207 Try.T208 Try.T209 Try.T210 Try.T211 Try.T212 Try.T218 Try.T219 Try.T222
attribute [local irreducible] Go.Av.CallK Go.Av.CallE Go.Av.CallQ Go.Av.CallF Go.Av.Con

def tot (f : Mb → Int) (p : Mb → Bool) : List Mb → Int
  | [] => 0
  | m :: l => (if m.r = 1 ∧ p m = true then f m else 0) + tot f p l
def inS (set : List Int) (m : Mb) : Bool := decide (m.i ∈ set)
def yes (_ : Mb) : Bool := true
def one (_ : Mb) : Int := 1
def okL (l : List Mb) : Prop := ∀ m ∈ l, okM m
theorem fine_ok : ∀ (l : List Mb) (p : Int), fine p l = true → okL l
  | [], _, _ => fun m hm => by simp at hm
  | m :: l, p, h => fun x hx => by
    simp only [fine, Bool.and_eq_true, decide_eq_true_eq] at h
    rcases List.mem_cons.1 hx with rfl | hx
    · exact h.1.1
    · exact fine_ok l _ h.2 x hx
theorem okL_get {l : List Mb} (h : okL l) (k : Nat) (hk : k < l.length) : okM l[k] := h _ (List.getElem_mem hk)

theorem is1_con (m : Mb) : ACon Try.prog 131 [.p (.agg m.cells)] (.p (I (one m))) := by
  obtain ⟨i, r, w, g⟩ := m
  simp only [Mb.cells, one]
  refine wBody Try.tab Try.mixed Try.func131 rfl rfl Try.ntmps131 (by simp) (by simp) fun Q hr hn => ?_
  repeat' first | (refine hK _ ?_; clear hK) | (refine hK _ _ ?_; clear hK) | (clear hK; refine hK _ ?_; clear hK) | (clear hK; clear hK; refine hK _ ?_; clear hK) | (clear hK; clear hK; clear hK; refine hK _ ?_; clear hK) | (clear hK; clear hK; clear hK; clear hK; refine hK _ ?_; clear hK) | (refine wSeq fun K hK => ?_) | (refine wReg ?_; simp only [List.map_cons, List.map_nil, strip]) | (refine wDrwQ rfl (by kernel_rfl) ?_; simp only [List.map_cons, List.map_nil, strip]) | (refine wDrwI ?_; simp only [List.map_cons, List.map_nil, strip]) | (refine wDrw (by kernel_rfl) ?_; simp only [List.map_cons, List.map_nil, strip]) | (refine wIs fun K hK => ?_; simp) | (refine wIn ?_; refine And.intro (by kernel_rfl) ?_; try simp only [thenA_n]) | (refine wOs fun K hK => ?_; simp) | (refine wQs fun K hK => ?_; simp) | (refine CallK_plain ?_; simp) | (refine CallQ_plain ?_; simp) | (refine wRet ?_; try simp) | (refine wCond ?_; simp) | (refine wBlock ?_) | (refine wScope ?_) | (refine wExit ?_; try simp) | (refine wSkip ?_; try simp) | (refine wOn ?_; try simp only [thenA_n]) | (refine wQn ?_; try simp only [thenA_n])
  all_goals apply hr
  all_goals simp [Try.f131]
theorem is2_con (m : Mb) : ACon Try.prog 132 [.p (.agg m.cells)] (.p (I m.w)) := by
  obtain ⟨i, r, w, g⟩ := m
  simp only [Mb.cells]
  refine wBody Try.tab Try.mixed Try.func132 rfl rfl Try.ntmps132 (by simp) (by simp) fun Q hr hn => ?_
  repeat' first | (refine hK _ ?_; clear hK) | (refine hK _ _ ?_; clear hK) | (clear hK; refine hK _ ?_; clear hK) | (clear hK; clear hK; refine hK _ ?_; clear hK) | (clear hK; clear hK; clear hK; refine hK _ ?_; clear hK) | (clear hK; clear hK; clear hK; clear hK; refine hK _ ?_; clear hK) | (refine wSeq fun K hK => ?_) | (refine wReg ?_; simp only [List.map_cons, List.map_nil, strip]) | (refine wDrwQ rfl (by kernel_rfl) ?_; simp only [List.map_cons, List.map_nil, strip]) | (refine wDrwI ?_; simp only [List.map_cons, List.map_nil, strip]) | (refine wDrw (by kernel_rfl) ?_; simp only [List.map_cons, List.map_nil, strip]) | (refine wIs fun K hK => ?_; simp) | (refine wIn ?_; refine And.intro (by kernel_rfl) ?_; try simp only [thenA_n]) | (refine wOs fun K hK => ?_; simp) | (refine wQs fun K hK => ?_; simp) | (refine CallK_plain ?_; simp) | (refine CallQ_plain ?_; simp) | (refine wRet ?_; try simp) | (refine wCond ?_; simp) | (refine wBlock ?_) | (refine wScope ?_) | (refine wExit ?_; try simp) | (refine wSkip ?_; try simp) | (refine wOn ?_; try simp only [thenA_n]) | (refine wQn ?_; try simp only [thenA_n])
  all_goals apply hr
  all_goals simp [Try.f132]

set_option maxHeartbeats 2000000 in
theorem most_con (c : Cf) (set : List Int) (h : Nat) (f : Mb → Int) (hl : c.ms.length ≤ 1000000) (hf : ∀ m, ACon Try.prog h [.p (.agg m.cells)] (.p (I (f m)))) (hb : ∀ m ∈ c.ms, 0 ≤ f m ∧ f m ≤ 100) :
    ACon Try.prog 130 [.p (.agg c.cells), .p (.sl 1 (ints set)), .p (.v (.func (.func h) #[] #[]))] (.p (B (decide (tot f yes c.ms < 2 * tot f (inS set) c.ms)))) := by
  obtain ⟨ep, n, kind, l⟩ := c
  simp only [Cf.cells] at hl hb ⊢
  refine wBody Try.tab Try.mixed Try.func130 rfl rfl Try.ntmps130 (by simp) (by simp) fun Q hr hn => ?_
  repeat' first | (refine hK _ ?_; clear hK) | (refine hK _ _ ?_; clear hK) | (clear hK; refine hK _ ?_; clear hK) | (clear hK; clear hK; refine hK _ ?_; clear hK) | (clear hK; clear hK; clear hK; refine hK _ ?_; clear hK) | (clear hK; clear hK; clear hK; clear hK; refine hK _ ?_; clear hK) | (refine wSeq fun K hK => ?_) | (refine wReg ?_; simp only [List.map_cons, List.map_nil, strip]) | (refine wDrwQ rfl (by kernel_rfl) ?_; simp only [List.map_cons, List.map_nil, strip]) | (refine wDrwI ?_; simp only [List.map_cons, List.map_nil, strip]) | (refine wDrw (by kernel_rfl) ?_; simp only [List.map_cons, List.map_nil, strip]) | (refine wIs fun K hK => ?_; simp) | (refine wIn ?_; refine And.intro (by kernel_rfl) ?_; try simp only [thenA_n]) | (refine wOs fun K hK => ?_; simp) | (refine wQs fun K hK => ?_; simp) | (refine CallK_plain ?_; simp) | (refine CallQ_plain ?_; simp) | (refine wRet ?_; try simp) | (refine wCond ?_; simp) | (refine wBlock ?_) | (refine wScope ?_) | (refine wExit ?_; try simp) | (refine wSkip ?_; try simp) | (refine wOn ?_; try simp only [thenA_n]) | (refine wQn ?_; try simp only [thenA_n])
  refine wLoop (fun N st => ∃ (k : Nat) (a b : Int), k + N = l.length ∧ st.s 1 = .p (.sl 1 (ints set)) ∧ st.s 2 = .p (.v (.func (.func h) #[] #[])) ∧ st.s 3 = .ptr 3 0 ∧ st.b 3 = some (.box 26 [.p (I ep), .p (I n), .p (I kind), .p (.sl 4 (mbs l))]) ∧ st.s 12 = .p (.sl 4 (mbs l)) ∧ st.s 13 = .p (I l.length) ∧ st.s 14 = .p (I k) ∧ st.s 8 = .p (I a) ∧ st.s 7 = .p (I b) ∧
    (0 ≤ a ∧ a ≤ 100 * k ∧ a + tot f yes (l.drop k) = tot f yes l) ∧ (0 ≤ b ∧ b ≤ 100 * k ∧ b + tot f (inS set) (l.drop k) = tot f (inS set) l)) l.length ⟨0, 0, 0, by simp⟩ fun K N st hL ⟨k, a, b, hk, h1, h2, h3, b3, h12, h13, h14, h8, h7, ⟨ha0, ha1, ha⟩, ⟨hb0, hb1, hbb⟩⟩ => ?_
  by_cases hlt : k < l.length
  · have hw := wrapS k _ hlt (by omega)
    rw [List.drop_eq_getElem_cons hlt, tot] at ha hbb
    have hx := hf l[k]
    obtain ⟨w0, w1⟩ := hb _ (List.getElem_mem hlt)
    simp only [Mb.cells] at hx
    by_cases o4 : l[k].r = 1
    · have hwa : IntKind.i64.wrap (a + f l[k]) = a + f l[k] := by rw [wrap_id] <;> omega
      have hwb : IntKind.i64.wrap (b + f l[k]) = b + f l[k] := by rw [wrap_id] <;> omega
      have hcall := contains_con set l[k].i
      rw [o4] at hx
      simp only [o4, yes, inS, true_and, if_true] at ha hbb
      by_cases o5 : l[k].i ∈ set
      · rw [decide_eq_true o5] at hcall hbb
        repeat' first | (refine hK _ ?_; clear hK) | (refine hK _ _ ?_; clear hK) | (clear hK; refine hK _ ?_; clear hK) | (clear hK; clear hK; refine hK _ ?_; clear hK) | (clear hK; clear hK; clear hK; refine hK _ ?_; clear hK) | (clear hK; clear hK; clear hK; clear hK; refine hK _ ?_; clear hK) | (refine wSeq fun K hK => ?_) | (refine wReg ?_; simp only [List.map_cons, List.map_nil, strip]) | (refine wDrwQ rfl (by kernel_rfl) ?_; simp only [List.map_cons, List.map_nil, strip]) | (refine wDrwI ?_; simp only [List.map_cons, List.map_nil, strip]) | (refine wDrw (by kernel_rfl) ?_; simp only [List.map_cons, List.map_nil, strip]) | (refine wIs fun K hK => ?_; simp [h1, h2, h3, b3, h12, h13, h14, h8, h7, hlt, hw, o4, hwa, hwb]) | (refine wIn ?_; refine And.intro (by kernel_rfl) ?_; try simp only [thenA_n]) | (refine wOs fun K hK => ?_; simp [h1, h2, h3, b3, h12, h13, h14, h8, h7, hlt, hw, o4, hwa, hwb]) | (refine wQs fun K hK => ?_; simp [h1, h2, h3, b3, h12, h13, h14, h8, h7, hlt, hw, o4, hwa, hwb]) | (refine CallK_plain ?_; simp [h1, h2, h3, b3, h12, h13, h14, h8, h7, hlt, hw, o4, hwa, hwb]) | (refine CallQ_plain ?_; simp [h1, h2, h3, b3, h12, h13, h14, h8, h7, hlt, hw, o4, hwa, hwb]) | (refine wRet ?_; try simp) | (refine wCond ?_; simp [h1, h2, h3, b3, h12, h13, h14, h8, h7, hlt, hw, o4, hwa, hwb]) | (refine wBlock ?_) | (refine wScope ?_) | (refine wExit ?_; try simp) | (refine wSkip ?_; try simp) | (refine wOn ?_; try simp only [thenA_n]) | (refine wQn ?_; try simp only [thenA_n]) | (refine CallE.pure (hx) rfl ?_) | (refine CallE.lent (hx) rfl ?_) | (refine CallF.pure (hx) rfl ?_) | (refine CallF.lent (hx) rfl ?_) | (refine CallE.own (hx) ?_) | (refine CallE.pure (hcall) rfl ?_) | (refine CallE.lent (hcall) rfl ?_) | (refine CallF.pure (hcall) rfl ?_) | (refine CallF.lent (hcall) rfl ?_) | (refine CallE.own (hcall) ?_)
        refine hL _ (N - 1) (by omega) ⟨k + 1, a + f l[k], b + f l[k], by omega, ?_⟩
        simp [h1, h2, h3, b3, h12, h13, hw, hwa, hwb]
        simp only [if_true] at hbb
        refine ⟨⟨by omega, by omega, ?_⟩, by omega, by omega, ?_⟩
        · rw [Int.add_assoc]; exact ha
        · rw [Int.add_assoc]; exact hbb
      · rw [decide_eq_false o5] at hcall hbb
        repeat' first | (refine hK _ ?_; clear hK) | (refine hK _ _ ?_; clear hK) | (clear hK; refine hK _ ?_; clear hK) | (clear hK; clear hK; refine hK _ ?_; clear hK) | (clear hK; clear hK; clear hK; refine hK _ ?_; clear hK) | (clear hK; clear hK; clear hK; clear hK; refine hK _ ?_; clear hK) | (refine wSeq fun K hK => ?_) | (refine wReg ?_; simp only [List.map_cons, List.map_nil, strip]) | (refine wDrwQ rfl (by kernel_rfl) ?_; simp only [List.map_cons, List.map_nil, strip]) | (refine wDrwI ?_; simp only [List.map_cons, List.map_nil, strip]) | (refine wDrw (by kernel_rfl) ?_; simp only [List.map_cons, List.map_nil, strip]) | (refine wIs fun K hK => ?_; simp [h1, h2, h3, b3, h12, h13, h14, h8, h7, hlt, hw, o4, hwa]) | (refine wIn ?_; refine And.intro (by kernel_rfl) ?_; try simp only [thenA_n]) | (refine wOs fun K hK => ?_; simp [h1, h2, h3, b3, h12, h13, h14, h8, h7, hlt, hw, o4, hwa]) | (refine wQs fun K hK => ?_; simp [h1, h2, h3, b3, h12, h13, h14, h8, h7, hlt, hw, o4, hwa]) | (refine CallK_plain ?_; simp [h1, h2, h3, b3, h12, h13, h14, h8, h7, hlt, hw, o4, hwa]) | (refine CallQ_plain ?_; simp [h1, h2, h3, b3, h12, h13, h14, h8, h7, hlt, hw, o4, hwa]) | (refine wRet ?_; try simp) | (refine wCond ?_; simp [h1, h2, h3, b3, h12, h13, h14, h8, h7, hlt, hw, o4, hwa]) | (refine wBlock ?_) | (refine wScope ?_) | (refine wExit ?_; try simp) | (refine wSkip ?_; try simp) | (refine wOn ?_; try simp only [thenA_n]) | (refine wQn ?_; try simp only [thenA_n]) | (refine CallE.pure (hx) rfl ?_) | (refine CallE.lent (hx) rfl ?_) | (refine CallF.pure (hx) rfl ?_) | (refine CallF.lent (hx) rfl ?_) | (refine CallE.own (hx) ?_) | (refine CallE.pure (hcall) rfl ?_) | (refine CallE.lent (hcall) rfl ?_) | (refine CallF.pure (hcall) rfl ?_) | (refine CallF.lent (hcall) rfl ?_) | (refine CallE.own (hcall) ?_)
        refine hL _ (N - 1) (by omega) ⟨k + 1, a + f l[k], b, by omega, ?_⟩
        simp [h1, h2, h3, b3, h7, h12, h13, hw, hwa]
        simp at hbb
        refine ⟨⟨by omega, by omega, ?_⟩, by omega, by omega, ?_⟩
        · rw [Int.add_assoc]; exact ha
        · exact hbb
    · simp only [o4, false_and, if_false, Int.zero_add] at ha hbb
      repeat' first | (refine hK _ ?_; clear hK) | (refine hK _ _ ?_; clear hK) | (clear hK; refine hK _ ?_; clear hK) | (clear hK; clear hK; refine hK _ ?_; clear hK) | (clear hK; clear hK; clear hK; refine hK _ ?_; clear hK) | (clear hK; clear hK; clear hK; clear hK; refine hK _ ?_; clear hK) | (refine wSeq fun K hK => ?_) | (refine wReg ?_; simp only [List.map_cons, List.map_nil, strip]) | (refine wDrwQ rfl (by kernel_rfl) ?_; simp only [List.map_cons, List.map_nil, strip]) | (refine wDrwI ?_; simp only [List.map_cons, List.map_nil, strip]) | (refine wDrw (by kernel_rfl) ?_; simp only [List.map_cons, List.map_nil, strip]) | (refine wIs fun K hK => ?_; simp [h1, h2, h3, b3, h12, h13, h14, h8, h7, hlt, hw, o4]) | (refine wIn ?_; refine And.intro (by kernel_rfl) ?_; try simp only [thenA_n]) | (refine wOs fun K hK => ?_; simp [h1, h2, h3, b3, h12, h13, h14, h8, h7, hlt, hw, o4]) | (refine wQs fun K hK => ?_; simp [h1, h2, h3, b3, h12, h13, h14, h8, h7, hlt, hw, o4]) | (refine CallK_plain ?_; simp [h1, h2, h3, b3, h12, h13, h14, h8, h7, hlt, hw, o4]) | (refine CallQ_plain ?_; simp [h1, h2, h3, b3, h12, h13, h14, h8, h7, hlt, hw, o4]) | (refine wRet ?_; try simp) | (refine wCond ?_; simp [h1, h2, h3, b3, h12, h13, h14, h8, h7, hlt, hw, o4]) | (refine wBlock ?_) | (refine wScope ?_) | (refine wExit ?_; try simp) | (refine wSkip ?_; try simp) | (refine wOn ?_; try simp only [thenA_n]) | (refine wQn ?_; try simp only [thenA_n])
      refine hL _ (N - 1) (by omega) ⟨k + 1, a, b, by omega, ?_⟩
      simp [h1, h2, h3, b3, h12, h13, h7, h8, hw]
      refine ⟨⟨by omega, by omega, ?_⟩, by omega, by omega, ?_⟩
      · exact ha
      · exact hbb
  · rw [List.drop_of_length_le (by omega)] at ha hbb
    simp only [tot, Int.add_zero] at ha hbb
    subst ha hbb
    have hw2 : IntKind.i64.wrap (2 * tot f (inS set) l) = 2 * tot f (inS set) l := by rw [wrap_id] <;> omega
    repeat' first | (refine hK _ ?_; clear hK) | (refine hK _ _ ?_; clear hK) | (clear hK; refine hK _ ?_; clear hK) | (clear hK; clear hK; refine hK _ ?_; clear hK) | (clear hK; clear hK; clear hK; refine hK _ ?_; clear hK) | (clear hK; clear hK; clear hK; clear hK; refine hK _ ?_; clear hK) | (refine wSeq fun K hK => ?_) | (refine wReg ?_; simp only [List.map_cons, List.map_nil, strip]) | (refine wDrwQ rfl (by kernel_rfl) ?_; simp only [List.map_cons, List.map_nil, strip]) | (refine wDrwI ?_; simp only [List.map_cons, List.map_nil, strip]) | (refine wDrw (by kernel_rfl) ?_; simp only [List.map_cons, List.map_nil, strip]) | (refine wIs fun K hK => ?_; simp [h1, h2, h3, b3, h12, h13, h14, h8, h7, hlt, hw2]) | (refine wIn ?_; refine And.intro (by kernel_rfl) ?_; try simp only [thenA_n]) | (refine wOs fun K hK => ?_; simp [h1, h2, h3, b3, h12, h13, h14, h8, h7, hlt, hw2]) | (refine wQs fun K hK => ?_; simp [h1, h2, h3, b3, h12, h13, h14, h8, h7, hlt, hw2]) | (refine CallK_plain ?_; simp [h1, h2, h3, b3, h12, h13, h14, h8, h7, hlt, hw2]) | (refine CallQ_plain ?_; simp [h1, h2, h3, b3, h12, h13, h14, h8, h7, hlt, hw2]) | (refine wRet ?_; try simp) | (refine wCond ?_; simp [h1, h2, h3, b3, h12, h13, h14, h8, h7, hlt, hw2]) | (refine wBlock ?_) | (refine wScope ?_) | (refine wExit ?_; try simp) | (refine wSkip ?_; try simp) | (refine wOn ?_; try simp only [thenA_n]) | (refine wQn ?_; try simp only [thenA_n])
    apply hr
    simp [Try.f130]
end Go.Proofs.Ytefhcofecdecgaa
