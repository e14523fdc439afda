/- By groups. -/
import Derived.Test.YtefhcofecdecgaaQD
namespace Go.Proofs.Ytefhcofecdecgaa
set_option linter.unusedSimpArgs false
set_option linter.unusedVariables false
open Go Go.Av
attribute [local simp] Try.T1 Try.T2 Try.T3 Try.T4 Try.T5 Try.T9 Try.T12 Try.T21 Try.T23 Try.T24 Try.T26 Try.T27 Try.T29 Try.T30 Try.T31 Try.T32 Try.T33 Try.T34 Try.T35 Try.T37 Try.T38 Try.T39 Try.T40 Try.T41 Try.T42 Try.T43 Try.T44 Try.T45 Try.T46 Try.T47 Try.T48 Try.T49 Try.T51 Try.T52 Try.T53 Try.T55 Try.T57 Try.T58 Try.T59 Try.T60 Try.T61 Try.T62 Try.T63 Try.T64 Try.T65 Try.T66 Try.T67 Try.T69 Try.T71 Try.T72 Try.T73 Try.T74 Try.T75 Try.T76 Try.T77 Try.T78 Try.T79 Try.T80 Try.T82 Try.T83 Try.T84 Try.T85 Try.T86 Try.T87 Try.T88 Try.T89 Try.T91 Try.T92 Try.T94 Try.T95 Try.T96 Try.T97 Try.T98 Try.T99 Try.T100 Try.T101 Try.T102 Try.T103 Try.T104 Try.T105 Try.T106 Try.T107 Try.T109 Try.T110 Try.T111 Try.T112 Try.T113 Try.T114 Try.T115 Try.T116 Try.T118 Try.T119 Try.T121 Try.T122 Try.T124 Try.T125 Try.T127 Try.T128 Try.T130 Try.T132 Try.T133 Try.T135 Try.T136 Try.T137 Try.T139 Try.T141 Try.T142 Try.T143 Try.T145 Try.T147 Try.T149 Try.T150 Try.T152 Try.T154 Try.T155 Try.T156 Try.T157 Try.T158 Try.T159 Try.T160 Try.T161 Try.T162 Try.T163 Try.T164 Try.T165 Try.T166 Try.T167 Try.T168 Try.T170 Try.T172 Try.T173 Try.T174 Try.T175 Try.T176 Try.T177 Try.T178 Try.T179 Try.T180 Try.T181 Try.T182 Try.T183 Try.T184 Try.T185 Try.T186 Try.T187 Try.T188 Try.T190 Try.T191 Try.T192 Try.T193 Try.T194 Try.T195 Try.T196 Try.T198 Try.T199 Try.T200 Try.T202 Try.T203 Try.T204 Try.T205 Try.T206 Try.T207 Try.T208 Try.T209 Try.T210 Try.T211 Try.T212 Try.T218 Try.T219 Try.T222
attribute [local irreducible] Go.Av.CallK Go.Av.CallE Go.Av.CallQ Go.Av.CallF Go.Av.Con

def bx (z : List Int) : List V := z.map fun n => .p (I n)
@[simp] theorem bx_len (z : List Int) : (bx z).length = z.length := by simp [bx]
@[simp] theorem bx_get (z : List Int) (k : Nat) (h : k < (bx z).length) : (bx z)[k] = .p (I (z[k]'(by simpa using h))) := by simp [bx]
@[simp] theorem bx_scr (z : List Int) (n : Nat) : (bx z).map (scr0 n) = bx z := by
  unfold bx; rw [List.map_map]; rfl
@[simp] theorem bx_sub (z : List Int) (n : Nat) (q : PV) : (bx z).map (sub0 n q) = bx z := by
  unfold bx; rw [List.map_map]; rfl
def ix (z : List Int) : List PV := z.map fun n => I n
@[simp] theorem ix_len (z : List Int) : (ix z).length = z.length := by simp [ix]
@[simp] theorem ix_get (z : List Int) (k : Nat) (h : k < (ix z).length) : (ix z)[k] = I (z[k]'(by simpa using h)) := by simp [ix]
@[simp] theorem toPs_bx : ∀ z : List Int, toPs (bx z) = some (ix z)
  | [] => rfl
  | a :: z => by
    show (match toP (.p (I a)), toPs (bx z) with | some p, some r => some (p :: r) | _, _ => none) = _
    rw [toPs_bx z]; rfl
theorem bx_take (z : List Int) (n : Nat) (h : z.length ≤ n) : (bx z).take n = bx z := List.take_of_length_le (by simpa using h)
theorem bx_put (z : List Int) (k : Nat) (x : Int) (h : k < z.length) : (bx z).take k ++ .p (I x) :: (bx z).drop (k + 1) = bx (z.set k x) := by
  unfold bx
  rw [← List.map_take, ← List.map_drop, ← List.map_cons (f := fun n => V.p (I n)), ← List.map_append, List.set_eq_take_append_cons_drop, if_pos h]
def inG (p : Mb → Bool) (g : Nat) (m : Mb) : Bool := decide (m.g = g) && p m
def gs (p : Mb → Bool) (l : List Mb) : List Int := (List.range 8).map fun g => tot Mb.w (inG p g) l
@[simp] theorem gs_len (p : Mb → Bool) (l : List Mb) : (gs p l).length = 8 := by simp [gs]
@[simp] theorem gs_get (p : Mb → Bool) (l : List Mb) (g : Nat) (h : g < (gs p l).length) : (gs p l)[g] = tot Mb.w (inG p g) l := by simp [gs]
theorem tot_append (f : Mb → Int) (p : Mb → Bool) : ∀ a b : List Mb, tot f p (a ++ b) = tot f p a + tot f p b
  | [], b => by simp [tot]
  | m :: a, b => by simp only [List.cons_append, tot, tot_append f p a b, Int.add_assoc]
theorem tot_snoc (f : Mb → Int) (p : Mb → Bool) (l : List Mb) (k : Nat) (h : k < l.length) : tot f p (l.take (k + 1)) = tot f p (l.take k) + (if l[k].r = 1 ∧ p l[k] = true then f l[k] else 0) := by
  rw [take_snoc _ k h, tot_append]; simp [tot]
theorem tot_bound (f : Mb → Int) (p : Mb → Bool) : ∀ l : List Mb, (∀ m ∈ l, 0 ≤ f m ∧ f m ≤ 100) → 0 ≤ tot f p l ∧ tot f p l ≤ 100 * l.length
  | [], _ => by simp [tot]
  | m :: l, h => by
    have h1 := tot_bound f p l fun x hx => h x (List.mem_cons_of_mem _ hx)
    have h2 := h m (by simp)
    simp only [tot, List.length_cons]
    split <;> omega
theorem okL_w {l : List Mb} (h : okL l) : ∀ m ∈ l, 0 ≤ m.w ∧ m.w ≤ 100 := fun m hm => (h m hm).2.2.1
theorem okL_take {l : List Mb} (h : okL l) (k : Nat) : okL (l.take k) := fun m hm => h m (List.mem_of_mem_take hm)
theorem gs_snoc (p : Mb → Bool) (l : List Mb) (k : Nat) (h : k < l.length) (ho : okM l[k]) (hr : l[k].r = 1) (hp : p l[k] = true) :
    (gs p (l.take k)).set l[k].g.toNat (tot Mb.w (inG p l[k].g.toNat) (l.take k) + l[k].w) = gs p (l.take (k + 1)) := by
  have hg := ho.2.2.2
  apply List.ext_getElem (by simp)
  intro g h1 h2
  rw [List.getElem_set]
  simp only [gs_get, tot_snoc _ _ l k h, hr, inG, hp, Bool.and_true, decide_eq_true_eq, true_and]
  by_cases e : l[k].g.toNat = g
  · rw [if_pos e, if_pos (by omega)]; subst e; rfl
  · rw [if_neg e, if_neg (by omega), Int.add_zero]
theorem gs_skip (p : Mb → Bool) (l : List Mb) (k : Nat) (h : k < l.length) (hp : ¬ (l[k].r = 1 ∧ p l[k] = true)) : gs p (l.take (k + 1)) = gs p (l.take k) := by
  apply List.ext_getElem (by simp)
  intro g h1 h2
  simp only [gs_get, tot_snoc _ _ l k h, inG, Bool.and_eq_true, decide_eq_true_eq]
  rw [if_neg (fun x => hp ⟨x.1, x.2.2⟩), Int.add_zero]
def num (q : Nat → Bool) : Nat → Int
  | 0 => 0
  | k + 1 => num q k + (if q k = true then 1 else 0)
theorem num_bound (q : Nat → Bool) : ∀ k, 0 ≤ num q k ∧ num q k ≤ k
  | 0 => by simp [num]
  | k + 1 => by have := num_bound q k; simp only [num]; split <;> omega
def hasG (l : List Mb) (g : Nat) : Bool := decide (0 < tot Mb.w (inG yes g) l)
def wonG (set : List Int) (l : List Mb) (g : Nat) : Bool := decide (tot Mb.w (inG yes g) l < 2 * tot Mb.w (inG (inS set) g) l)

set_option maxHeartbeats 4000000 in
theorem groups_con (c : Cf) (set : List Int) (hl : c.ms.length ≤ 1000000) (ho : okL c.ms) :
    ACon Try.prog 133 [.p (.agg c.cells), .p (.sl 1 (ints set))] (.p (B (decide (num (hasG c.ms) 8 < 2 * num (wonG set c.ms) 8)))) := by
  obtain ⟨ep, n, kind, l⟩ := c
  simp only [Cf.cells] at hl ho ⊢
  refine wBody Try.tab Try.mixed Try.func133 rfl rfl Try.ntmps133 (by simp) (by simp) fun Q hr hn => ?_
  repeat' first | (refine hK _ ?_; clear hK) | (refine hK _ _ ?_; clear hK) | (clear hK; refine hK _ ?_; clear hK) | (clear hK; clear hK; refine hK _ ?_; clear hK) | (clear hK; clear hK; clear hK; refine hK _ ?_; clear hK) | (clear hK; clear hK; clear hK; clear hK; refine hK _ ?_; clear hK) | (refine wSeq fun K hK => ?_) | (refine wReg ?_; simp only [List.map_cons, List.map_nil, strip]) | (refine wDrwQ rfl (by kernel_rfl) ?_; simp only [List.map_cons, List.map_nil, strip]) | (refine wDrwI ?_; simp only [List.map_cons, List.map_nil, strip]) | (refine wDrw (by kernel_rfl) ?_; simp only [List.map_cons, List.map_nil, strip]) | (refine wIs fun K hK => ?_; simp) | (refine wIn ?_; refine And.intro (by kernel_rfl) ?_; try simp only [thenA_n]) | (refine wOs fun K hK => ?_; simp) | (refine wQs fun K hK => ?_; simp) | (refine CallK_plain ?_; simp) | (refine CallQ_plain ?_; simp) | (refine wRet ?_; try simp) | (refine wCond ?_; simp) | (refine wBlock ?_) | (refine wScope ?_) | (refine wExit ?_; try simp) | (refine wSkip ?_; try simp) | (refine wOn ?_; try simp only [thenA_n]) | (refine wQn ?_; try simp only [thenA_n])
  refine wLoop (fun N st => ∃ (k : Nat), k + N = l.length ∧ st.s 1 = .p (.sl 1 (ints set)) ∧ st.s 2 = .ptr 2 0 ∧ st.s 5 = .ptr 5 0 ∧ st.s 6 = .ptr 6 0 ∧ st.b 2 = some (.box 26 [.p (I ep), .p (I n), .p (I kind), .p (.sl 4 (mbs l))]) ∧ st.s 14 = .p (.sl 4 (mbs l)) ∧ st.s 15 = .p (I l.length) ∧ st.s 16 = .p (I k) ∧
    st.b 5 = some (.box 160 (bx (gs (inS set) (l.take k)))) ∧ st.b 6 = some (.box 160 (bx (gs yes (l.take k))))) l.length ⟨0, by simp [bx, gs, List.range, List.range.loop, tot]⟩ fun K N st hL ⟨k, hk, h1, h2, h5, h6, b2, h14, h15, h16, b5, b6⟩ => ?_
  by_cases hlt : k < l.length
  · have hw := wrapS k _ hlt (by omega)
    have okk := okL_get ho k hlt
    obtain ⟨w0, w1⟩ := okk.2.2.1
    obtain ⟨g0, g1⟩ := okk.2.2.2
    have g2 : l[k].g.toNat < 8 := by omega
    have g1' : l[k].g < 8 := by omega
    by_cases o4 : l[k].r = 1
    · have hcall := contains_con set l[k].i
      have t1 := tot_bound Mb.w (inG yes l[k].g.toNat) (l.take k) (okL_w (okL_take ho k))
      have t2 := tot_bound Mb.w (inG (inS set) l[k].g.toNat) (l.take k) (okL_w (okL_take ho k))
      have hlk : (l.take k).length ≤ 1000000 := by simp; omega
      have hwa : IntKind.i64.wrap (tot Mb.w (inG yes l[k].g.toNat) (l.take k) + l[k].w) = tot Mb.w (inG yes l[k].g.toNat) (l.take k) + l[k].w := by rw [wrap_id] <;> omega
      have hwb : IntKind.i64.wrap (tot Mb.w (inG (inS set) l[k].g.toNat) (l.take k) + l[k].w) = tot Mb.w (inG (inS set) l[k].g.toNat) (l.take k) + l[k].w := by rw [wrap_id] <;> omega
      by_cases o5 : l[k].i ∈ set
      · rw [decide_eq_true o5] at hcall
        repeat' first | (refine wDrwT 8 (by kernel_rfl) ?_; simp only [List.map_cons, List.map_nil, strip, List.take, List.drop]) | (refine hK _ ?_; clear hK) | (refine hK _ _ ?_; clear hK) | (clear hK; refine hK _ ?_; clear hK) | (clear hK; clear hK; refine hK _ ?_; clear hK) | (clear hK; clear hK; clear hK; refine hK _ ?_; clear hK) | (clear hK; clear hK; clear hK; clear hK; refine hK _ ?_; clear hK) | (refine wSeq fun K hK => ?_) | (refine wReg ?_; simp only [List.map_cons, List.map_nil, strip]) | (refine wDrwQ rfl (by kernel_rfl) ?_; simp only [List.map_cons, List.map_nil, strip]) | (refine wDrwI ?_; simp only [List.map_cons, List.map_nil, strip]) | (refine wDrw (by kernel_rfl) ?_; simp only [List.map_cons, List.map_nil, strip]) | (refine wIs fun K hK => ?_; simp [h1, h2, h5, h6, b2, h14, h15, h16, b5, b6, hlt, hw, o4, g0, g1, g1', g2, hwa, hwb, PV.one]) | (refine wIn ?_; refine And.intro (by kernel_rfl) ?_; try simp only [thenA_n]) | (refine wOs fun K hK => ?_; simp [h1, h2, h5, h6, b2, h14, h15, h16, b5, b6, hlt, hw, o4, g0, g1, g1', g2, hwa, hwb, PV.one]) | (refine wQs fun K hK => ?_; simp [h1, h2, h5, h6, b2, h14, h15, h16, b5, b6, hlt, hw, o4, g0, g1, g1', g2, hwa, hwb, PV.one]) | (refine CallK_plain ?_; simp [h1, h2, h5, h6, b2, h14, h15, h16, b5, b6, hlt, hw, o4, g0, g1, g1', g2, hwa, hwb, PV.one]) | (refine CallQ_plain ?_; simp [h1, h2, h5, h6, b2, h14, h15, h16, b5, b6, hlt, hw, o4, g0, g1, g1', g2, hwa, hwb, PV.one]) | (refine wRet ?_; try simp) | (refine wCond ?_; simp [h1, h2, h5, h6, b2, h14, h15, h16, b5, b6, hlt, hw, o4, g0, g1, g1', g2, hwa, hwb, PV.one]) | (refine wBlock ?_) | (refine wScope ?_) | (refine wExit ?_; try simp) | (refine wSkip ?_; try simp) | (refine wOn ?_; try simp only [thenA_n]) | (refine wQn ?_; try simp only [thenA_n]) | (refine CallE.pure (hcall) rfl ?_) | (refine CallE.lent (hcall) rfl ?_) | (refine CallF.pure (hcall) rfl ?_) | (refine CallF.lent (hcall) rfl ?_) | (refine CallE.own (hcall) ?_)
        refine hL _ (N - 1) (by omega) ⟨k + 1, by omega, ?_⟩
        simp [h1, h2, h5, h6, b2, h14, h15, hw]
        rw [bx_put _ _ _ (by simpa using g2), bx_put _ _ _ (by simpa using g2), gs_snoc yes l k hlt okk o4 rfl, gs_snoc (inS set) l k hlt okk o4 (by simp [inS, o5])]
        exact ⟨rfl, rfl⟩
      · rw [decide_eq_false o5] at hcall
        repeat' first | (refine wDrwT 8 (by kernel_rfl) ?_; simp only [List.map_cons, List.map_nil, strip, List.take, List.drop]) | (refine hK _ ?_; clear hK) | (refine hK _ _ ?_; clear hK) | (clear hK; refine hK _ ?_; clear hK) | (clear hK; clear hK; refine hK _ ?_; clear hK) | (clear hK; clear hK; clear hK; refine hK _ ?_; clear hK) | (clear hK; clear hK; clear hK; clear hK; refine hK _ ?_; clear hK) | (refine wSeq fun K hK => ?_) | (refine wReg ?_; simp only [List.map_cons, List.map_nil, strip]) | (refine wDrwQ rfl (by kernel_rfl) ?_; simp only [List.map_cons, List.map_nil, strip]) | (refine wDrwI ?_; simp only [List.map_cons, List.map_nil, strip]) | (refine wDrw (by kernel_rfl) ?_; simp only [List.map_cons, List.map_nil, strip]) | (refine wIs fun K hK => ?_; simp [h1, h2, h5, h6, b2, h14, h15, h16, b5, b6, hlt, hw, o4, g0, g1, g1', g2, hwa, hwb, PV.one]) | (refine wIn ?_; refine And.intro (by kernel_rfl) ?_; try simp only [thenA_n]) | (refine wOs fun K hK => ?_; simp [h1, h2, h5, h6, b2, h14, h15, h16, b5, b6, hlt, hw, o4, g0, g1, g1', g2, hwa, hwb, PV.one]) | (refine wQs fun K hK => ?_; simp [h1, h2, h5, h6, b2, h14, h15, h16, b5, b6, hlt, hw, o4, g0, g1, g1', g2, hwa, hwb, PV.one]) | (refine CallK_plain ?_; simp [h1, h2, h5, h6, b2, h14, h15, h16, b5, b6, hlt, hw, o4, g0, g1, g1', g2, hwa, hwb, PV.one]) | (refine CallQ_plain ?_; simp [h1, h2, h5, h6, b2, h14, h15, h16, b5, b6, hlt, hw, o4, g0, g1, g1', g2, hwa, hwb, PV.one]) | (refine wRet ?_; try simp) | (refine wCond ?_; simp [h1, h2, h5, h6, b2, h14, h15, h16, b5, b6, hlt, hw, o4, g0, g1, g1', g2, hwa, hwb, PV.one]) | (refine wBlock ?_) | (refine wScope ?_) | (refine wExit ?_; try simp) | (refine wSkip ?_; try simp) | (refine wOn ?_; try simp only [thenA_n]) | (refine wQn ?_; try simp only [thenA_n]) | (refine CallE.pure (hcall) rfl ?_) | (refine CallE.lent (hcall) rfl ?_) | (refine CallF.pure (hcall) rfl ?_) | (refine CallF.lent (hcall) rfl ?_) | (refine CallE.own (hcall) ?_)
        refine hL _ (N - 1) (by omega) ⟨k + 1, by omega, ?_⟩
        simp [h1, h2, h5, h6, b2, b5, h14, h15, hw]
        rw [bx_put _ _ _ (by simpa using g2), gs_snoc yes l k hlt okk o4 rfl, gs_skip (inS set) l k hlt (by simp [inS, o5])]
        exact ⟨rfl, rfl⟩
    · repeat' first | (refine hK _ ?_; clear hK) | (refine hK _ _ ?_; clear hK) | (clear hK; refine hK _ ?_; clear hK) | (clear hK; clear hK; refine hK _ ?_; clear hK) | (clear hK; clear hK; clear hK; refine hK _ ?_; clear hK) | (clear hK; clear hK; clear hK; clear hK; refine hK _ ?_; clear hK) | (refine wSeq fun K hK => ?_) | (refine wReg ?_; simp only [List.map_cons, List.map_nil, strip]) | (refine wDrwQ rfl (by kernel_rfl) ?_; simp only [List.map_cons, List.map_nil, strip]) | (refine wDrwI ?_; simp only [List.map_cons, List.map_nil, strip]) | (refine wDrw (by kernel_rfl) ?_; simp only [List.map_cons, List.map_nil, strip]) | (refine wIs fun K hK => ?_; simp [h1, h2, h5, h6, b2, h14, h15, h16, b5, b6, hlt, hw, o4]) | (refine wIn ?_; refine And.intro (by kernel_rfl) ?_; try simp only [thenA_n]) | (refine wOs fun K hK => ?_; simp [h1, h2, h5, h6, b2, h14, h15, h16, b5, b6, hlt, hw, o4]) | (refine wQs fun K hK => ?_; simp [h1, h2, h5, h6, b2, h14, h15, h16, b5, b6, hlt, hw, o4]) | (refine CallK_plain ?_; simp [h1, h2, h5, h6, b2, h14, h15, h16, b5, b6, hlt, hw, o4]) | (refine CallQ_plain ?_; simp [h1, h2, h5, h6, b2, h14, h15, h16, b5, b6, hlt, hw, o4]) | (refine wRet ?_; try simp) | (refine wCond ?_; simp [h1, h2, h5, h6, b2, h14, h15, h16, b5, b6, hlt, hw, o4]) | (refine wBlock ?_) | (refine wScope ?_) | (refine wExit ?_; try simp) | (refine wSkip ?_; try simp) | (refine wOn ?_; try simp only [thenA_n]) | (refine wQn ?_; try simp only [thenA_n])
      refine hL _ (N - 1) (by omega) ⟨k + 1, by omega, ?_⟩
      simp [h1, h2, h5, h6, b2, b5, b6, h14, h15, hw]
      rw [gs_skip (inS set) l k hlt (fun x => o4 x.1), gs_skip yes l k hlt (fun x => o4 x.1)]
      exact ⟨rfl, rfl⟩
  · rw [List.take_of_length_le (by omega)] at b5 b6
    have hlong : 8 ≤ (bx (gs yes l)).length := by simp
    have htk : (bx (gs yes l)).take 8 = bx (gs yes l) := bx_take _ _ (by simp)
    repeat' first | (refine hK _ ?_; clear hK) | (refine hK _ _ ?_; clear hK) | (clear hK; refine hK _ ?_; clear hK) | (clear hK; clear hK; refine hK _ ?_; clear hK) | (clear hK; clear hK; clear hK; refine hK _ ?_; clear hK) | (clear hK; clear hK; clear hK; clear hK; refine hK _ ?_; clear hK) | (refine wSeq fun K hK => ?_) | (refine wReg ?_; simp only [List.map_cons, List.map_nil, strip]) | (refine wDrwQ rfl (by kernel_rfl) ?_; simp only [List.map_cons, List.map_nil, strip]) | (refine wDrwI ?_; simp only [List.map_cons, List.map_nil, strip]) | (refine wDrw (by kernel_rfl) ?_; simp only [List.map_cons, List.map_nil, strip]) | (refine wIs fun K hK => ?_; simp [h1, h2, h5, h6, b2, h14, h15, h16, b5, b6, hlt, htk]) | (refine wIn ?_; refine And.intro (by kernel_rfl) ?_; try simp only [thenA_n]) | (refine wOs fun K hK => ?_; simp [h1, h2, h5, h6, b2, h14, h15, h16, b5, b6, hlt, htk]) | (refine wQs fun K hK => ?_; simp [h1, h2, h5, h6, b2, h14, h15, h16, b5, b6, hlt, htk]) | (refine CallK_plain ?_; simp [h1, h2, h5, h6, b2, h14, h15, h16, b5, b6, hlt, htk]) | (refine CallQ_plain ?_; simp [h1, h2, h5, h6, b2, h14, h15, h16, b5, b6, hlt, htk]) | (refine wRet ?_; try simp) | (refine wCond ?_; simp [h1, h2, h5, h6, b2, h14, h15, h16, b5, b6, hlt, htk]) | (refine wBlock ?_) | (refine wScope ?_) | (refine wExit ?_; try simp) | (refine wSkip ?_; try simp) | (refine wOn ?_; try simp only [thenA_n]) | (refine wQn ?_; try simp only [thenA_n])
    refine wLoop (fun N st => ∃ (k : Nat), k + N = 8 ∧ st.s 5 = .ptr 5 0 ∧ st.b 5 = some (.box 160 (bx (gs (inS set) l))) ∧ st.s 44 = .p (.agg (ix (gs yes l))) ∧ st.s 45 = .p (I k) ∧ st.s 9 = .p (I (num (wonG set l) k)) ∧ st.s 10 = .p (I (num (hasG l) k))) 8 ⟨0, by simp [h5, b5, num]⟩ fun K' N' st' hL' ⟨j, hj, g5, c5, g44, g45, g9, g10⟩ => ?_
    have nb1 := num_bound (wonG set l) j
    have nb2 := num_bound (hasG l) j
    by_cases hjl : j < 8
    · have hw := wrapS j 8 hjl (by omega)
      have hjI : (j : Int) < 8 := by omega
      have hwa : IntKind.i64.wrap (num (wonG set l) j + 1) = num (wonG set l) j + 1 := by rw [wrap_id] <;> omega
      have hwb : IntKind.i64.wrap (num (hasG l) j + 1) = num (hasG l) j + 1 := by rw [wrap_id] <;> omega
      have t1 := tot_bound Mb.w (inG yes j) l (okL_w ho)
      have t2 := tot_bound Mb.w (inG (inS set) j) l (okL_w ho)
      have hwc : IntKind.i64.wrap (2 * tot Mb.w (inG (inS set) j) l) = 2 * tot Mb.w (inG (inS set) j) l := by rw [wrap_id] <;> omega
      by_cases q1 : 0 < tot Mb.w (inG yes j) l
      · by_cases q2 : tot Mb.w (inG yes j) l < 2 * tot Mb.w (inG (inS set) j) l
        · repeat' first | (refine hK _ ?_; clear hK) | (refine hK _ _ ?_; clear hK) | (clear hK; refine hK _ ?_; clear hK) | (clear hK; clear hK; refine hK _ ?_; clear hK) | (clear hK; clear hK; clear hK; refine hK _ ?_; clear hK) | (clear hK; clear hK; clear hK; clear hK; refine hK _ ?_; clear hK) | (refine wSeq fun K hK => ?_) | (refine wReg ?_; simp only [List.map_cons, List.map_nil, strip]) | (refine wDrwQ rfl (by kernel_rfl) ?_; simp only [List.map_cons, List.map_nil, strip]) | (refine wDrwI ?_; simp only [List.map_cons, List.map_nil, strip]) | (refine wDrw (by kernel_rfl) ?_; simp only [List.map_cons, List.map_nil, strip]) | (refine wIs fun K hK => ?_; simp [g5, c5, g44, g45, g9, g10, hjl, hjI, hw, hwa, hwb, hwc, q1, q2, PV.one]) | (refine wIn ?_; refine And.intro (by kernel_rfl) ?_; try simp only [thenA_n]) | (refine wOs fun K hK => ?_; simp [g5, c5, g44, g45, g9, g10, hjl, hjI, hw, hwa, hwb, hwc, q1, q2, PV.one]) | (refine wQs fun K hK => ?_; simp [g5, c5, g44, g45, g9, g10, hjl, hjI, hw, hwa, hwb, hwc, q1, q2, PV.one]) | (refine CallK_plain ?_; simp [g5, c5, g44, g45, g9, g10, hjl, hjI, hw, hwa, hwb, hwc, q1, q2, PV.one]) | (refine CallQ_plain ?_; simp [g5, c5, g44, g45, g9, g10, hjl, hjI, hw, hwa, hwb, hwc, q1, q2, PV.one]) | (refine wRet ?_; try simp) | (refine wCond ?_; simp [g5, c5, g44, g45, g9, g10, hjl, hjI, hw, hwa, hwb, hwc, q1, q2, PV.one]) | (refine wBlock ?_) | (refine wScope ?_) | (refine wExit ?_; try simp) | (refine wSkip ?_; try simp) | (refine wOn ?_; try simp only [thenA_n]) | (refine wQn ?_; try simp only [thenA_n])
          refine hL' _ (N' - 1) (by omega) ⟨j + 1, by omega, ?_⟩
          simp [g5, c5, g44, hw, g9, g10, hwa, hwb]
          simp [num, hasG, wonG, q1, q2]
        · repeat' first | (refine hK _ ?_; clear hK) | (refine hK _ _ ?_; clear hK) | (clear hK; refine hK _ ?_; clear hK) | (clear hK; clear hK; refine hK _ ?_; clear hK) | (clear hK; clear hK; clear hK; refine hK _ ?_; clear hK) | (clear hK; clear hK; clear hK; clear hK; refine hK _ ?_; clear hK) | (refine wSeq fun K hK => ?_) | (refine wReg ?_; simp only [List.map_cons, List.map_nil, strip]) | (refine wDrwQ rfl (by kernel_rfl) ?_; simp only [List.map_cons, List.map_nil, strip]) | (refine wDrwI ?_; simp only [List.map_cons, List.map_nil, strip]) | (refine wDrw (by kernel_rfl) ?_; simp only [List.map_cons, List.map_nil, strip]) | (refine wIs fun K hK => ?_; simp [g5, c5, g44, g45, g9, g10, hjl, hjI, hw, hwa, hwb, hwc, q1, q2, PV.one]) | (refine wIn ?_; refine And.intro (by kernel_rfl) ?_; try simp only [thenA_n]) | (refine wOs fun K hK => ?_; simp [g5, c5, g44, g45, g9, g10, hjl, hjI, hw, hwa, hwb, hwc, q1, q2, PV.one]) | (refine wQs fun K hK => ?_; simp [g5, c5, g44, g45, g9, g10, hjl, hjI, hw, hwa, hwb, hwc, q1, q2, PV.one]) | (refine CallK_plain ?_; simp [g5, c5, g44, g45, g9, g10, hjl, hjI, hw, hwa, hwb, hwc, q1, q2, PV.one]) | (refine CallQ_plain ?_; simp [g5, c5, g44, g45, g9, g10, hjl, hjI, hw, hwa, hwb, hwc, q1, q2, PV.one]) | (refine wRet ?_; try simp) | (refine wCond ?_; simp [g5, c5, g44, g45, g9, g10, hjl, hjI, hw, hwa, hwb, hwc, q1, q2, PV.one]) | (refine wBlock ?_) | (refine wScope ?_) | (refine wExit ?_; try simp) | (refine wSkip ?_; try simp) | (refine wOn ?_; try simp only [thenA_n]) | (refine wQn ?_; try simp only [thenA_n])
          refine hL' _ (N' - 1) (by omega) ⟨j + 1, by omega, ?_⟩
          simp [g5, c5, g44, hw, g9, g10, hwa, hwb]
          simp [num, hasG, wonG, q1, q2]
      · by_cases q2 : tot Mb.w (inG yes j) l < 2 * tot Mb.w (inG (inS set) j) l
        · repeat' first | (refine hK _ ?_; clear hK) | (refine hK _ _ ?_; clear hK) | (clear hK; refine hK _ ?_; clear hK) | (clear hK; clear hK; refine hK _ ?_; clear hK) | (clear hK; clear hK; clear hK; refine hK _ ?_; clear hK) | (clear hK; clear hK; clear hK; clear hK; refine hK _ ?_; clear hK) | (refine wSeq fun K hK => ?_) | (refine wReg ?_; simp only [List.map_cons, List.map_nil, strip]) | (refine wDrwQ rfl (by kernel_rfl) ?_; simp only [List.map_cons, List.map_nil, strip]) | (refine wDrwI ?_; simp only [List.map_cons, List.map_nil, strip]) | (refine wDrw (by kernel_rfl) ?_; simp only [List.map_cons, List.map_nil, strip]) | (refine wIs fun K hK => ?_; simp [g5, c5, g44, g45, g9, g10, hjl, hjI, hw, hwa, hwb, hwc, q1, q2, PV.one]) | (refine wIn ?_; refine And.intro (by kernel_rfl) ?_; try simp only [thenA_n]) | (refine wOs fun K hK => ?_; simp [g5, c5, g44, g45, g9, g10, hjl, hjI, hw, hwa, hwb, hwc, q1, q2, PV.one]) | (refine wQs fun K hK => ?_; simp [g5, c5, g44, g45, g9, g10, hjl, hjI, hw, hwa, hwb, hwc, q1, q2, PV.one]) | (refine CallK_plain ?_; simp [g5, c5, g44, g45, g9, g10, hjl, hjI, hw, hwa, hwb, hwc, q1, q2, PV.one]) | (refine CallQ_plain ?_; simp [g5, c5, g44, g45, g9, g10, hjl, hjI, hw, hwa, hwb, hwc, q1, q2, PV.one]) | (refine wRet ?_; try simp) | (refine wCond ?_; simp [g5, c5, g44, g45, g9, g10, hjl, hjI, hw, hwa, hwb, hwc, q1, q2, PV.one]) | (refine wBlock ?_) | (refine wScope ?_) | (refine wExit ?_; try simp) | (refine wSkip ?_; try simp) | (refine wOn ?_; try simp only [thenA_n]) | (refine wQn ?_; try simp only [thenA_n])
          refine hL' _ (N' - 1) (by omega) ⟨j + 1, by omega, ?_⟩
          simp [g5, c5, g44, hw, g9, g10, hwa, hwb]
          simp [num, hasG, wonG, q1, q2]
        · repeat' first | (refine hK _ ?_; clear hK) | (refine hK _ _ ?_; clear hK) | (clear hK; refine hK _ ?_; clear hK) | (clear hK; clear hK; refine hK _ ?_; clear hK) | (clear hK; clear hK; clear hK; refine hK _ ?_; clear hK) | (clear hK; clear hK; clear hK; clear hK; refine hK _ ?_; clear hK) | (refine wSeq fun K hK => ?_) | (refine wReg ?_; simp only [List.map_cons, List.map_nil, strip]) | (refine wDrwQ rfl (by kernel_rfl) ?_; simp only [List.map_cons, List.map_nil, strip]) | (refine wDrwI ?_; simp only [List.map_cons, List.map_nil, strip]) | (refine wDrw (by kernel_rfl) ?_; simp only [List.map_cons, List.map_nil, strip]) | (refine wIs fun K hK => ?_; simp [g5, c5, g44, g45, g9, g10, hjl, hjI, hw, hwa, hwb, hwc, q1, q2, PV.one]) | (refine wIn ?_; refine And.intro (by kernel_rfl) ?_; try simp only [thenA_n]) | (refine wOs fun K hK => ?_; simp [g5, c5, g44, g45, g9, g10, hjl, hjI, hw, hwa, hwb, hwc, q1, q2, PV.one]) | (refine wQs fun K hK => ?_; simp [g5, c5, g44, g45, g9, g10, hjl, hjI, hw, hwa, hwb, hwc, q1, q2, PV.one]) | (refine CallK_plain ?_; simp [g5, c5, g44, g45, g9, g10, hjl, hjI, hw, hwa, hwb, hwc, q1, q2, PV.one]) | (refine CallQ_plain ?_; simp [g5, c5, g44, g45, g9, g10, hjl, hjI, hw, hwa, hwb, hwc, q1, q2, PV.one]) | (refine wRet ?_; try simp) | (refine wCond ?_; simp [g5, c5, g44, g45, g9, g10, hjl, hjI, hw, hwa, hwb, hwc, q1, q2, PV.one]) | (refine wBlock ?_) | (refine wScope ?_) | (refine wExit ?_; try simp) | (refine wSkip ?_; try simp) | (refine wOn ?_; try simp only [thenA_n]) | (refine wQn ?_; try simp only [thenA_n])
          refine hL' _ (N' - 1) (by omega) ⟨j + 1, by omega, ?_⟩
          simp [g5, c5, g44, hw, g9, g10, hwa, hwb]
          simp [num, hasG, wonG, q1, q2]
    · obtain rfl : j = 8 := by omega
      simp at g45
      have hwc : IntKind.i64.wrap (2 * num (wonG set l) 8) = 2 * num (wonG set l) 8 := by rw [wrap_id] <;> omega
      repeat' first | (refine hK _ ?_; clear hK) | (refine hK _ _ ?_; clear hK) | (clear hK; refine hK _ ?_; clear hK) | (clear hK; clear hK; refine hK _ ?_; clear hK) | (clear hK; clear hK; clear hK; refine hK _ ?_; clear hK) | (clear hK; clear hK; clear hK; clear hK; refine hK _ ?_; clear hK) | (refine wSeq fun K hK => ?_) | (refine wReg ?_; simp only [List.map_cons, List.map_nil, strip]) | (refine wDrwQ rfl (by kernel_rfl) ?_; simp only [List.map_cons, List.map_nil, strip]) | (refine wDrwI ?_; simp only [List.map_cons, List.map_nil, strip]) | (refine wDrw (by kernel_rfl) ?_; simp only [List.map_cons, List.map_nil, strip]) | (refine wIs fun K hK => ?_; simp [g5, c5, g44, g45, g9, g10, hwc]) | (refine wIn ?_; refine And.intro (by kernel_rfl) ?_; try simp only [thenA_n]) | (refine wOs fun K hK => ?_; simp [g5, c5, g44, g45, g9, g10, hwc]) | (refine wQs fun K hK => ?_; simp [g5, c5, g44, g45, g9, g10, hwc]) | (refine CallK_plain ?_; simp [g5, c5, g44, g45, g9, g10, hwc]) | (refine CallQ_plain ?_; simp [g5, c5, g44, g45, g9, g10, hwc]) | (refine wRet ?_; try simp) | (refine wCond ?_; simp [g5, c5, g44, g45, g9, g10, hwc]) | (refine wBlock ?_) | (refine wScope ?_) | (refine wExit ?_; try simp) | (refine wSkip ?_; try simp) | (refine wOn ?_; try simp only [thenA_n]) | (refine wQn ?_; try simp only [thenA_n])
      apply hr
      simp [Try.f133]
end Go.Proofs.Ytefhcofecdecgaa
