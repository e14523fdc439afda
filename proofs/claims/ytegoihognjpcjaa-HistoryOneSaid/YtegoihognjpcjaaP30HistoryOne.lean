/- Texts that the proof needs: HO HX HY HZ HZ2 HZ3. -/
import Derived.Test.YtegoihognjpcjaaP28HistoryOne
import Derived.Test.YtegoihognjpcjaaP29HistoryOne
/- Histories: what comes in, opened. -/
namespace Go.Proofs.Ytegoihognjpcjaa
set_option linter.unusedVariables false
open Go Go.Av Go.ChangeShapes Go.WideShapes Go.ChangeAt Go.RowKit
/-- How many bytes an element of so many cells has at least. -/
def KB (c : Nat) : Nat := 1
theorem hpos : PosK Try.T KB := by
  intro t yt e y h hk hy hs
  unfold Try.T at h
  split at h
  all_goals first | (cases h; done) | (cases h; cases hk; done) | (cases h; cases hk; cases hy; done) | (cases h; cases hk; cases hy; first | exact of_decide_eq_true (by kernel_rfl) | (simp at hs; done))
theorem Mb.ofL {ps : List PV} (h : ShL [.int .i64, .int .i64, .int .i64, .int .i64] ps) : ∃ a : Mb, ps = a.cells := by
  obtain ⟨_, _, rfl, h0, h⟩ := h.cons
  obtain ⟨_, _, rfl, h1, h⟩ := h.cons
  obtain ⟨_, _, rfl, h2, h⟩ := h.cons
  obtain ⟨_, _, rfl, h3, h⟩ := h.cons
  obtain rfl := h.nil
  obtain ⟨_, rfl, -⟩ := h0.intI
  obtain ⟨_, rfl, -⟩ := h1.intI
  obtain ⟨_, rfl, -⟩ := h2.intI
  obtain ⟨_, rfl, -⟩ := h3.intI
  exact ⟨⟨_, _, _, _⟩, rfl⟩
abbrev LMb : Lf := .sl [.int .i64, .int .i64, .int .i64, .int .i64]
abbrev LZn : List Lf := [.str, .str, .int .i64, .int .i64, .int .i64]
abbrev LPt : List Lf := [.int .i64, .str, .str, .int .i64, .int .i64, .int .i64, .int .i64, .int .i64, .int .i64, .int .i64, LMb]
abbrev LTx : List Lf := [.int .i64, .int .i64, .int .i64, .int .i64, .int .i64, .int .i64, .str, .sl LPt]
theorem Cf.ofL {ps : List PV} (h : ShL [.int .i64, .int .i64, .int .i64, LMb] ps) : ∃ a : Cf, ps = a.cells := by
  obtain ⟨_, _, rfl, h0, h⟩ := h.cons
  obtain ⟨_, _, rfl, h1, h⟩ := h.cons
  obtain ⟨_, _, rfl, h2, h⟩ := h.cons
  obtain ⟨_, _, rfl, h3, h⟩ := h.cons
  obtain rfl := h.nil
  obtain ⟨_, rfl, -⟩ := h0.intI
  obtain ⟨_, rfl, -⟩ := h1.intI
  obtain ⟨_, rfl, -⟩ := h2.intI
  obtain ⟨l, rfl⟩ := h3.slI (f := Mb.cells) fun ps h => Mb.ofL h
  exact ⟨⟨_, _, _, l⟩, rfl⟩
theorem Pt.ofL {ps : List PV} (h : ShL LPt ps) : ∃ a : Pt, ps = a.cells := by
  obtain ⟨_, _, rfl, h0, h⟩ := h.cons
  obtain ⟨_, _, rfl, h1, h⟩ := h.cons
  obtain ⟨_, _, rfl, h2, h⟩ := h.cons
  obtain ⟨_, _, rfl, h3, h⟩ := h.cons
  obtain ⟨_, _, rfl, h4, h⟩ := h.cons
  obtain ⟨_, _, rfl, h5, h⟩ := h.cons
  obtain ⟨_, _, rfl, h6, h⟩ := h.cons
  obtain ⟨_, _, rfl, h7, h⟩ := h.cons
  obtain ⟨_, _, rfl, h8, h⟩ := h.cons
  obtain ⟨_, _, rfl, h9, h⟩ := h.cons
  obtain ⟨_, _, rfl, h10, h⟩ := h.cons
  obtain rfl := h.nil
  obtain ⟨_, rfl, -⟩ := h0.intI
  obtain ⟨s1, rfl, -⟩ := h1.strI
  obtain ⟨s2, rfl, -⟩ := h2.strI
  obtain ⟨_, rfl, -⟩ := h3.intI
  obtain ⟨_, rfl, -⟩ := h4.intI
  obtain ⟨_, rfl, -⟩ := h5.intI
  obtain ⟨_, rfl, -⟩ := h6.intI
  obtain ⟨_, rfl, -⟩ := h7.intI
  obtain ⟨_, rfl, -⟩ := h8.intI
  obtain ⟨_, rfl, -⟩ := h9.intI
  obtain ⟨l, rfl⟩ := h10.slI (f := Mb.cells) fun ps h => Mb.ofL h
  exact ⟨⟨_, ⟨s1.data.toList, s2.data.toList, _, _, _⟩, _, ⟨_, _, _, l⟩⟩, rfl⟩
theorem Tx.ofL {ps : List PV} (h : ShL LTx ps) : ∃ a : Tx, ps = a.cells := by
  obtain ⟨_, _, rfl, h0, h⟩ := h.cons
  obtain ⟨_, _, rfl, h1, h⟩ := h.cons
  obtain ⟨_, _, rfl, h2, h⟩ := h.cons
  obtain ⟨_, _, rfl, h3, h⟩ := h.cons
  obtain ⟨_, _, rfl, h4, h⟩ := h.cons
  obtain ⟨_, _, rfl, h5, h⟩ := h.cons
  obtain ⟨_, _, rfl, h6, h⟩ := h.cons
  obtain ⟨_, _, rfl, h7, h⟩ := h.cons
  obtain rfl := h.nil
  obtain ⟨_, rfl, -⟩ := h0.intI
  obtain ⟨_, rfl, -⟩ := h1.intI
  obtain ⟨_, rfl, -⟩ := h2.intI
  obtain ⟨_, rfl, -⟩ := h3.intI
  obtain ⟨_, rfl, -⟩ := h4.intI
  obtain ⟨_, rfl, -⟩ := h5.intI
  obtain ⟨s, rfl, -⟩ := h6.strI
  obtain ⟨l, rfl⟩ := h7.slI (f := Pt.cells) fun ps h => Pt.ofL h
  exact ⟨⟨_, _, _, _, _, _, s.data.toList, l⟩, rfl⟩
theorem Zn.ofL' {ps : List PV} (h : ShL LZn ps) : ∃ a : Zn, ps = a.c := by
  obtain ⟨a, h⟩ := Zn.ofL h
  exact ⟨a.1, h⟩
theorem Sv.ofL {ps : List PV} (h : ShL [.sl LZn, .sl [.int .i64], .int .i64, .int .i64, .int .i64, .int .i64, LMb, .int .i64, .int .i64] ps) : ∃ s : Sv, ps = s.cells := by
  obtain ⟨_, _, rfl, h0, h⟩ := h.cons
  obtain ⟨_, _, rfl, h1, h⟩ := h.cons
  obtain ⟨_, _, rfl, h2, h⟩ := h.cons
  obtain ⟨_, _, rfl, h3, h⟩ := h.cons
  obtain ⟨_, _, rfl, h4, h⟩ := h.cons
  obtain ⟨_, _, rfl, h5, h⟩ := h.cons
  obtain ⟨_, _, rfl, h6, h⟩ := h.cons
  obtain ⟨_, _, rfl, h7, h⟩ := h.cons
  obtain ⟨_, _, rfl, h8, h⟩ := h.cons
  obtain rfl := h.nil
  obtain ⟨ns, rfl⟩ := h0.slI (f := Zn.c) fun ps h => Zn.ofL' h
  obtain ⟨ss, rfl⟩ := h1.slI (f := fun n : Int => [I n]) fun ps h => by
    obtain ⟨_, _, rfl, h0, h⟩ := h.cons
    obtain rfl := h.nil
    obtain ⟨n, rfl, -⟩ := h0.intI
    exact ⟨n, rfl⟩
  obtain ⟨_, rfl, -⟩ := h2.intI
  obtain ⟨_, rfl, -⟩ := h3.intI
  obtain ⟨_, rfl, -⟩ := h4.intI
  obtain ⟨_, rfl, -⟩ := h5.intI
  obtain ⟨ms, rfl⟩ := h6.slI (f := Mb.cells) fun ps h => Mb.ofL h
  obtain ⟨_, rfl, -⟩ := h7.intI
  obtain ⟨_, rfl, -⟩ := h8.intI
  exact ⟨⟨ns, ss, _, ⟨_, _, _, ms⟩, _, _⟩, rfl⟩
theorem szLe {N c : Nat} {l : List (List PV)} (h : SzI KB N (.sl c l)) : l.length ≤ N := by
  have := h.len
  have h1 : 1 ≤ KB c := by unfold KB; omega
  have := Nat.le_mul_of_pos_right l.length (show 0 < KB c by omega)
  omega
abbrev LZx : List Lf := [.int .i64, .int .i64]
theorem Zx.ofL {ps : List PV} (h : ShL LZx ps) : ∃ a : Zx, ps = [I a.e, I a.n] := by
  obtain ⟨_, _, rfl, h0, h⟩ := h.cons
  obtain ⟨_, _, rfl, h1, h⟩ := h.cons
  obtain rfl := h.nil
  obtain ⟨_, rfl, -⟩ := h0.intI
  obtain ⟨_, rfl, -⟩ := h1.intI
  exact ⟨⟨_, _⟩, rfl⟩
theorem Hy.ofL {ps : List PV} (h : ShL [.sl LZn, .sl [.int .i64], .int .i64, .int .i64, .int .i64, .int .i64, LMb, .int .i64, .int .i64, .sl LTx] ps) : ∃ h : Hy, ps = h.cells := by
  obtain ⟨_, _, rfl, h0, h⟩ := h.cons
  obtain ⟨_, _, rfl, h1, h⟩ := h.cons
  obtain ⟨_, _, rfl, h2, h⟩ := h.cons
  obtain ⟨_, _, rfl, h3, h⟩ := h.cons
  obtain ⟨_, _, rfl, h4, h⟩ := h.cons
  obtain ⟨_, _, rfl, h5, h⟩ := h.cons
  obtain ⟨_, _, rfl, h6, h⟩ := h.cons
  obtain ⟨_, _, rfl, h7, h⟩ := h.cons
  obtain ⟨_, _, rfl, h8, h⟩ := h.cons
  obtain ⟨_, _, rfl, h9, h⟩ := h.cons
  obtain rfl := h.nil
  obtain ⟨ns, rfl⟩ := h0.slI (f := Zn.c) fun ps h => Zn.ofL' h
  obtain ⟨ss, rfl⟩ := h1.slI (f := fun n : Int => [I n]) fun ps h => by
    obtain ⟨_, _, rfl, h0, h⟩ := h.cons
    obtain rfl := h.nil
    obtain ⟨n, rfl, -⟩ := h0.intI
    exact ⟨n, rfl⟩
  obtain ⟨_, rfl, -⟩ := h2.intI
  obtain ⟨_, rfl, -⟩ := h3.intI
  obtain ⟨_, rfl, -⟩ := h4.intI
  obtain ⟨_, rfl, -⟩ := h5.intI
  obtain ⟨ms, rfl⟩ := h6.slI (f := Mb.cells) fun ps h => Mb.ofL h
  obtain ⟨_, rfl, -⟩ := h7.intI
  obtain ⟨_, rfl, -⟩ := h8.intI
  obtain ⟨lg, rfl⟩ := h9.slI (f := Tx.cells) fun ps h => Tx.ofL h
  exact ⟨⟨⟨ns, ss, _, ⟨_, _, _, ms⟩, _, _⟩, lg⟩, rfl⟩
theorem hy_open {p : PV} (hp : ShT Try.T 33 p) : ∃ h : Hy, p = .agg h.cells := by
  obtain ⟨ps, rfl, h⟩ := hp.agg (E := [.sl LZn, .sl [.int .i64], .int .i64, .int .i64, .int .i64, .int .i64, LMb, .int .i64, .int .i64, .sl LTx]) rfl rfl rfl
  obtain ⟨s, rfl⟩ := Hy.ofL h
  exact ⟨s, rfl⟩
theorem SmallH.of {h : Hy} (hz : SzI KB reachBytes (.agg h.cells)) : SmallH h := by
  have hr : reachBytes = 140737488351232 := rfl
  have h1 := szLe (hz.part (p := .sl 5 (zns h.im.ns)) (by simp [Hy.cells]))
  have h2 := szLe (hz.part (p := .sl 1 (ints h.im.ss)) (by simp [Hy.cells]))
  have h3 := szLe (hz.part (p := .sl 4 (mbs h.im.c.ms)) (by simp [Hy.cells]))
  rw [zns_len] at h1
  rw [ints_len] at h2
  rw [mbs_len] at h3
  refine ⟨by omega, by omega, by omega, fun t ht => ?_⟩
  have h4 := (hz.part (p := .sl 8 (txns h.lg)) (by simp [Hy.cells])).at (e := t.cells) (List.mem_map.2 ⟨t, ht, rfl⟩) (p := .sl 11 (pts t.ps)) (by simp [Tx.cells])
  have h5 := szLe h4
  rw [pts_len] at h5
  refine ⟨by omega, fun p hp => ?_⟩
  have h6 := szLe (h4.at (e := p.cells) (List.mem_map.2 ⟨p, hp, rfl⟩) (p := .sl 4 (mbs p.c.ms)) (by simp [Pt.cells]))
  rw [mbs_len] at h6
  omega
end Go.Proofs.Ytegoihognjpcjaa


/- Histories, the program's: the state at a place, squashed there, whether the marks rise; marks compared. -/
namespace Go.Proofs.Ytegoihognjpcjaa
set_option linter.unusedSimpArgs false
set_option linter.unusedVariables false
open Go Go.Av
attribute [local simp] Try.T1 Try.T2 Try.T3 Try.T4 Try.T5 Try.T9 Try.T12 Try.T15 Try.T16 Try.T17 Try.T21 Try.T22 Try.T23 Try.T25 Try.T26 Try.T28 Try.T30 Try.T31 Try.T33 Try.T34 Try.T35 Try.T36 Try.T37 Try.T38 Try.T40 Try.T42 Try.T43 Try.T44 Try.T45 Try.T46 Try.T48 Try.T49 Try.T50 Try.T51 Try.T52 Try.T53 Try.T54 Try.T55 Try.T56 Try.T57 Try.T58 Try.T59 Try.T60 Try.T61 Try.T62 Try.T64 Try.T66 Try.T67 Try.T68 Try.T69 Try.T70 Try.T71 Try.T72 Try.T73 Try.T74 Try.T75 Try.T76 Try.T77 Try.T78 Try.T80 Try.T81 Try.T82 Try.T83 Try.T84 Try.T85 Try.T86 Try.T88 Try.T89 Try.T90 Try.T91 Try.T92 Try.T93 Try.T94 Try.T95 Try.T96 Try.T97 Try.T98 Try.T99 Try.T100 Try.T101 Try.T102 Try.T103 Try.T104 Try.T105 Try.T106 Try.T107 Try.T108 Try.T109 Try.T110 Try.T111 Try.T112 Try.T113 Try.T116 Try.T119 Try.T120 Try.T123 Try.T124
attribute [local irreducible] Go.Av.CallK Go.Av.CallE Go.Av.CallQ Go.Av.CallF Go.Av.CallR Go.Av.CallH Go.Av.Con
theorem follows_rises : ∀ (l : List Tx) (z : Zx), follows z l = risesB (z :: l.map fun t => ⟨t.e, t.n⟩)
  | [], _ => rfl
  | t :: l, z => by
    rw [follows, follows_rises l, List.map_cons, risesB]
    have : zcmp t.e t.n z.e z.n ≤ 0 ↔ ¬ zcmp z.e z.n t.e t.n < 0 := by
      have a := zlt_iff z ⟨t.e, t.n⟩
      unfold zlt at a
      rw [a, show zcmp t.e t.n z.e z.n ≤ 0 ↔ ¬ 0 < zcmp t.e t.n z.e z.n by omega, zcmp_pos]
      first | omega | (simp only; omega) | skip
    by_cases o : zcmp t.e t.n z.e z.n ≤ 0
    · rw [if_pos o, decide_eq_false (this.1 o), Bool.false_and]
    · rw [if_neg o, decide_eq_true (by rw [this] at o; exact Decidable.not_not.1 o), Bool.true_and]
def sqH (h : Hy) (z : Zx) (n : Nat) : Hy := ⟨stAt h z, h.lg.drop n⟩
theorem zxs_get {l : List Zx} {k : Nat} (h : k < l.length) : (zxs l)[k]? = some [I l[k].e, I l[k].n] := by simp [zxs, h]
end Go.Proofs.Ytegoihognjpcjaa


/- Histories: facts of what is squashed; the law HistorySquashes. -/
namespace Go.Proofs.Ytegoihognjpcjaa
set_option linter.unusedSimpArgs false
set_option linter.unusedVariables false
open Go Go.Av
attribute [local simp] Try.T1 Try.T2 Try.T3 Try.T4 Try.T5 Try.T9 Try.T12 Try.T15 Try.T16 Try.T17 Try.T21 Try.T22 Try.T23 Try.T25 Try.T26 Try.T28 Try.T30 Try.T31 Try.T33 Try.T34 Try.T35 Try.T36 Try.T37 Try.T38 Try.T40 Try.T42 Try.T43 Try.T44 Try.T45 Try.T46 Try.T48 Try.T49 Try.T50 Try.T51 Try.T52 Try.T53 Try.T54 Try.T55 Try.T56 Try.T57 Try.T58 Try.T59 Try.T60 Try.T61 Try.T62 Try.T64 Try.T66 Try.T67 Try.T68 Try.T69 Try.T70 Try.T71 Try.T72 Try.T73 Try.T74 Try.T75 Try.T76 Try.T77 Try.T78 Try.T80 Try.T81 Try.T82 Try.T83 Try.T84 Try.T85 Try.T86 Try.T88 Try.T89 Try.T90 Try.T91 Try.T92 Try.T93 Try.T94 Try.T95 Try.T96 Try.T97 Try.T98 Try.T99 Try.T100 Try.T101 Try.T102 Try.T103 Try.T104 Try.T105 Try.T106 Try.T107 Try.T108 Try.T109 Try.T110 Try.T111 Try.T112 Try.T113 Try.T116 Try.T119 Try.T120 Try.T123 Try.T124
attribute [local irreducible] Go.Av.CallK Go.Av.CallE Go.Av.CallQ Go.Av.CallF Go.Av.CallR Go.Av.CallH Go.Av.Con
theorem stepP_at (s : Sv) (p : Pt) : (stepP s p).ae = s.ae ∧ (stepP s p).an = s.an := by
  unfold stepP
  repeat' split
  all_goals exact ⟨rfl, rfl⟩
theorem runP_at : ∀ (l : List Pt) (s : Sv), (runP s l).ae = s.ae ∧ (runP s l).an = s.an
  | [], _ => ⟨rfl, rfl⟩
  | p :: l, s => by
    obtain ⟨a, b⟩ := runP_at l (stepP s p)
    obtain ⟨c, d⟩ := stepP_at s p
    exact ⟨a.trans c, b.trans d⟩
theorem doS_late {s : Sv} {t : Tx} (h : zlt ⟨s.ae, s.an⟩ ⟨t.e, t.n⟩) : (doS s t).ae = t.e ∧ (doS s t).an = t.n := by
  obtain ⟨a, b⟩ := runP_at t.ps s
  have hz : 0 < zcmp t.e t.n s.ae s.an := by
    rw [zcmp_pos]
    have := (zlt_iff _ _).1 h
    simp only at this
    omega
  unfold doS lateS
  simp only [last2, a, b, if_pos hz]
  exact ⟨trivial, trivial⟩
theorem zlt_irr (a : Zx) : ¬ zlt a a := by rw [zlt_iff]; omega
theorem mks_at (h : Hy) (i : Nat) (hi : i < h.lg.length) (hi' : i + 1 < (mks h).length) : (mks h)[i + 1] = ⟨h.lg[i].e, h.lg[i].n⟩ := by simp [mks]
theorem at_take {h : Hy} (hr : risesB (mks h) = true) : ∀ (k : Nat) (hk : k < (mks h).length), (⟨(allS h.im (h.lg.take k)).ae, (allS h.im (h.lg.take k)).an⟩ : Zx) = (mks h)[k]
  | 0, hk => by simp [allS, mks]
  | k + 1, hk => by
    have hml := mks_len h
    have ih := at_take hr k (by omega)
    have hlt : k < h.lg.length := by omega
    have hp := List.pairwise_iff_getElem.1 (rises_pw hr) k (k + 1) (by omega) hk (by omega)
    rw [← ih, mks_at h k hlt hk] at hp
    obtain ⟨a, b⟩ := doS_late hp
    rw [allS_snoc h.im hlt, a, b, mks_at h k hlt hk]
theorem up_at {h : Hy} (hr : risesB (mks h) = true) {k : Nat} (hk : k < (mks h).length) : upL (mks h)[k] h.lg = h.lg.take k := by
  have hml := mks_len h
  have hp := List.pairwise_iff_getElem.1 (rises_pw hr)
  have e : h.lg = h.lg.take k ++ h.lg.drop k := (List.take_append_drop k h.lg).symm
  have e1 : (h.lg.take k).filter (fun t => decide (zcmp t.e t.n (mks h)[k].e (mks h)[k].n ≤ 0)) = h.lg.take k := by
    rw [List.filter_eq_self]
    intro t ht
    obtain ⟨i, hi, rfl⟩ := List.getElem_of_mem ht
    rw [List.length_take] at hi
    rw [List.getElem_take]
    have hm := mks_at h i (by omega) (by omega)
    refine decide_eq_true ?_
    by_cases o : i + 1 = k
    · have e2 : (mks h)[k] = (mks h)[i + 1] := by simp only [← o]
      rw [e2, hm, zcmp_spec, if_pos ⟨rfl, rfl⟩]; omega
    · have hz := hp (i + 1) k (by omega) hk (by omega)
      rw [hm] at hz
      unfold zlt at hz
      simp only at hz
      omega
  have e2 : (h.lg.drop k).filter (fun t => decide (zcmp t.e t.n (mks h)[k].e (mks h)[k].n ≤ 0)) = [] := by
    rw [List.filter_eq_nil_iff]
    intro t ht
    obtain ⟨i, hi, rfl⟩ := List.getElem_of_mem ht
    rw [List.length_drop] at hi
    rw [List.getElem_drop]
    have hm := mks_at h (k + i) (by omega) (by omega)
    have hz := hp k (k + i + 1) hk (by omega) (by omega)
    rw [hm, zlt_iff] at hz
    have hq := zcmp_pos h.lg[k + i].e h.lg[k + i].n (mks h)[k].e (mks h)[k].n
    simp only at hz
    have : 0 < zcmp h.lg[k + i].e h.lg[k + i].n (mks h)[k].e (mks h)[k].n := by rw [hq]; omega
    simp only [decide_eq_true_eq]
    omega
  unfold upL
  conv => lhs; rw [e]
  rw [List.filter_append, e1, e2, List.append_nil]
theorem plc_at : ∀ (l : List Zx) (j k : Nat) (hk : k < l.length), l.Pairwise zlt → plc l[k] l j = some (j + k)
  | a :: l, j, 0, _, _ => by simp [plc]
  | a :: l, j, k + 1, hk, .cons h g => by
    have hk' : k < l.length := by simpa using hk
    have hne : ¬ a = l[k] := fun he => zlt_irr a (by have := h l[k] (List.getElem_mem hk'); rwa [← he] at this)
    show (if a = l[k] then some j else plc l[k] l (j + 1)) = _
    rw [if_neg hne, plc_at l (j + 1) k hk' g]
    congr 1; omega
theorem mks_sq {h : Hy} (hr : risesB (mks h) = true) {k : Nat} (hk : k < (mks h).length) : mks (sqH h (mks h)[k] k) = (mks h).drop k := by
  rw [List.drop_eq_getElem_cons hk]
  show (⟨(stAt h (mks h)[k]).ae, (stAt h (mks h)[k]).an⟩ : Zx) :: (h.lg.drop k).map (fun t => (⟨t.e, t.n⟩ : Zx)) = _
  have e : stAt h (mks h)[k] = allS h.im (h.lg.take k) := by unfold stAt; rw [up_at hr hk]
  rw [e, at_take hr k hk]
  congr 1
  unfold mks
  simp [List.map_drop]
theorem u64_modH (t : Int) (L : Nat) (h0 : 0 < L) (hL : L ≤ 1000000) : ∃ n : Nat, n < L ∧ IntKind.i64.wrap (IntKind.u64.wrap t |>.tmod (IntKind.u64.wrap (L : Int))) = (n : Int) ∧ IntKind.u64.wrap (L : Int) ≠ 0 := by
  have e1 : IntKind.u64.wrap (L : Int) = L := by simp [IntKind.wrap, IntKind.bits, IntKind.signed]; omega
  have e2 : 0 ≤ IntKind.u64.wrap t := by simp [IntKind.wrap, IntKind.bits, IntKind.signed]; omega
  rw [e1]
  refine ⟨((IntKind.u64.wrap t).tmod L).toNat, ?_, ?_, by omega⟩
  · rw [Int.tmod_eq_emod_of_nonneg e2]
    have := Int.emod_lt_of_pos (IntKind.u64.wrap t) (show (0 : Int) < L by omega)
    have := Int.emod_nonneg (IntKind.u64.wrap t) (show (L : Int) ≠ 0 by omega)
    omega
  · rw [Int.tmod_eq_emod_of_nonneg e2]
    have h1 := Int.emod_lt_of_pos (IntKind.u64.wrap t) (show (0 : Int) < L by omega)
    have h2 := Int.emod_nonneg (IntKind.u64.wrap t) (show (L : Int) ≠ 0 by omega)
    rw [wrap_id (by omega) (by omega)]; omega
end Go.Proofs.Ytegoihognjpcjaa


/- Histories, the document's: grown, squashed, compared. -/
namespace Go.Proofs.Ytegoihognjpcjaa
set_option linter.unusedSimpArgs false
set_option linter.unusedVariables false
open Go Go.Av
attribute [local simp] Try.T1 Try.T2 Try.T3 Try.T4 Try.T5 Try.T9 Try.T12 Try.T15 Try.T16 Try.T17 Try.T21 Try.T22 Try.T23 Try.T25 Try.T26 Try.T28 Try.T30 Try.T31 Try.T33 Try.T34 Try.T35 Try.T36 Try.T37 Try.T38 Try.T40 Try.T42 Try.T43 Try.T44 Try.T45 Try.T46 Try.T48 Try.T49 Try.T50 Try.T51 Try.T52 Try.T53 Try.T54 Try.T55 Try.T56 Try.T57 Try.T58 Try.T59 Try.T60 Try.T61 Try.T62 Try.T64 Try.T66 Try.T67 Try.T68 Try.T69 Try.T70 Try.T71 Try.T72 Try.T73 Try.T74 Try.T75 Try.T76 Try.T77 Try.T78 Try.T80 Try.T81 Try.T82 Try.T83 Try.T84 Try.T85 Try.T86 Try.T88 Try.T89 Try.T90 Try.T91 Try.T92 Try.T93 Try.T94 Try.T95 Try.T96 Try.T97 Try.T98 Try.T99 Try.T100 Try.T101 Try.T102 Try.T103 Try.T104 Try.T105 Try.T106 Try.T107 Try.T108 Try.T109 Try.T110 Try.T111 Try.T112 Try.T113 Try.T116 Try.T119 Try.T120 Try.T123 Try.T124
attribute [local irreducible] Go.Av.CallK Go.Av.CallE Go.Av.CallQ Go.Av.CallF Go.Av.CallR Go.Av.CallH Go.Av.Con
set_option maxHeartbeats 4000000 in
theorem all16g_con (l m : List Tx) (hl : l.length ≤ 1000) (hm : m.length ≤ 1000) (hp : ∀ t ∈ l, t.ps.length ≤ 1000 ∧ ∀ p ∈ t.ps, p.c.ms.length ≤ 1000) (hq : ∀ t ∈ m, t.ps.length ≤ 1000 ∧ ∀ p ∈ t.ps, p.c.ms.length ≤ 1000) : ACon Try.prog 28 [.p (.sl 8 (txns l)), .p (.sl 8 (txns m))] (.p (.sl 8 (txns (l ++ m)))) := by
  refine wBody Try.tab Try.mixed Try.func28 rfl rfl Try.ntmps28 (by simp) (by simp) fun Q hr hn => ?_
  repeat' first | (refine hK _ ?_; clear hK) | (refine hK _ _ ?_; clear hK) | (clear hK; refine hK _ ?_; clear hK) | (clear hK; clear hK; refine hK _ ?_; clear hK) | (clear hK; clear hK; clear hK; refine hK _ ?_; clear hK) | (clear hK; clear hK; clear hK; clear hK; refine hK _ ?_; clear hK) | (refine wSeq fun K hK => ?_) | ((first | refine wReg ?_ | refine wDrwQ rfl (by kernel_rfl) ?_ | refine wDrwI ?_ | refine wDrw (by kernel_rfl) ?_); simp only [List.map_cons, List.map_nil, strip]) | ((first | refine wIs fun K hK => ?_ | refine wOs fun K hK => ?_ | refine wQs fun K hK => ?_ | refine CallK_plain ?_ | refine CallQ_plain ?_ | refine CallR_plain ?_ | refine wCond ?_); simp) | (refine wIn ?_; refine And.intro (by kernel_rfl) ?_; try simp only [thenA_n]) | (first | refine wBlock ?_ | refine wScope ?_) | ((first | refine wRet ?_ | refine wExit ?_ | refine wSkip ?_); try simp) | ((first | refine wLabel ?_ | refine wOn ?_ | refine wQn ?_); try simp only [thenA_n])
  refine wLoopG [.row 5 40 8] (fun N st => ∃ (k : Nat), k + N = l.length ∧ st.s 1 = .p (.sl 8 (txns m)) ∧ st.s 5 = .row 5 ∧ st.b 5 = some (.row 40 8 (txns (l.take k))) ∧ st.s 10 = .p (.sl 8 (txns l)) ∧ st.s 11 = .p (I l.length) ∧ st.s 12 = .p (I k)) l.length ⟨0, by simp [frzL, gh1, txns]⟩ fun K N st hL ⟨k, hk, g1, g5, b5, g10, g11, g12⟩ => ?_
  by_cases hlt : k < l.length
  · have hlt' : (k : Int) < l.length := by omega
    have hw := wrapS k _ hlt (by omega)
    have he := txns_get hlt
    obtain ⟨hp1, hp2⟩ := hp _ (List.getElem_mem hlt)
    have c := copied16_con l[k] hp1 hp2
    unfold Tx.cells at c
    have hs := txns_snoc (l.take k) l[k]
    rw [← List.take_succ_eq_append_getElem hlt] at hs
    have hll := txns_len (l.take k)
    rw [List.length_take] at hll
    repeat' first | (refine And.intro (by (try simp only [hll, List.length_cons, List.length_nil]); omega) ?_) | (refine hK _ ?_; clear hK) | (refine hK _ _ ?_; clear hK) | (clear hK; refine hK _ ?_; clear hK) | (clear hK; clear hK; refine hK _ ?_; clear hK) | (clear hK; clear hK; clear hK; refine hK _ ?_; clear hK) | (clear hK; clear hK; clear hK; clear hK; refine hK _ ?_; clear hK) | (refine wSeq fun K hK => ?_) | ((first | refine wReg ?_ | refine wDrwQ rfl (by kernel_rfl) ?_ | refine wDrwI ?_ | refine wDrw (by kernel_rfl) ?_); simp only [List.map_cons, List.map_nil, strip]) | ((first | refine wIs fun K hK => ?_ | refine wOs fun K hK => ?_ | refine wQs fun K hK => ?_ | refine CallK_plain ?_ | refine CallQ_plain ?_ | refine CallR_plain ?_ | refine wCond ?_); simp [g1, g5, b5, g10, g11, g12, hlt, hlt', hw, he, hs]) | (refine wIn ?_; refine And.intro (by kernel_rfl) ?_; try simp only [thenA_n]) | (first | refine wBlock ?_ | refine wScope ?_) | ((first | refine wRet ?_ | refine wExit ?_ | refine wSkip ?_); try simp) | ((first | refine wLabel ?_ | refine wOn ?_ | refine wQn ?_); try simp only [thenA_n]) | (refine CallE.pure (c) rfl ?_) | (refine CallE.lent (c) rfl ?_) | (refine CallF.pure (c) rfl ?_) | (refine CallF.lent (c) rfl ?_) | (refine CallE.own (c) ?_) | (refine CallH.pure (c) rfl ?_) | (refine CallH.lent (c) rfl ?_) | (refine CallH.own (c) ?_)
    refine hL _ (N - 1) (by omega) ⟨k + 1, by omega, ?_⟩
    simp [g1, g5, b5, g10, g11, g12, hw, hs]
  · have hlt' : ¬ (k : Int) < l.length := by omega
    rw [List.take_of_length_le (by omega)] at b5
    repeat' first | (refine hK _ ?_; clear hK) | (refine hK _ _ ?_; clear hK) | (clear hK; refine hK _ ?_; clear hK) | (clear hK; clear hK; refine hK _ ?_; clear hK) | (clear hK; clear hK; clear hK; refine hK _ ?_; clear hK) | (clear hK; clear hK; clear hK; clear hK; refine hK _ ?_; clear hK) | (refine wSeq fun K hK => ?_) | ((first | refine wReg ?_ | refine wDrwQ rfl (by kernel_rfl) ?_ | refine wDrwI ?_ | refine wDrw (by kernel_rfl) ?_); simp only [List.map_cons, List.map_nil, strip]) | ((first | refine wIs fun K hK => ?_ | refine wOs fun K hK => ?_ | refine wQs fun K hK => ?_ | refine CallK_plain ?_ | refine CallQ_plain ?_ | refine CallR_plain ?_ | refine wCond ?_); simp [g1, g5, b5, g10, g11, g12, hlt, hlt']) | (refine wIn ?_; refine And.intro (by kernel_rfl) ?_; try simp only [thenA_n]) | (first | refine wBlock ?_ | refine wScope ?_) | ((first | refine wRet ?_ | refine wExit ?_ | refine wSkip ?_); try simp) | ((first | refine wLabel ?_ | refine wOn ?_ | refine wQn ?_); try simp only [thenA_n])
    refine wLoop (fun N st => ∃ (q : Nat), q + N = m.length ∧ st.s 5 = .row 5 ∧ st.b 5 = some (.row 40 8 (txns (l ++ m.take q))) ∧ st.s 22 = .p (.sl 8 (txns m)) ∧ st.s 23 = .p (I m.length) ∧ st.s 24 = .p (I q)) m.length ⟨0, by simp [g5, b5]⟩ fun K N st hL ⟨q, hqN, g5, b5, g22, g23, g24⟩ => ?_
    by_cases hlq : q < m.length
    · have hlq' : (q : Int) < m.length := by omega
      have hw := wrapS q _ hlq (by omega)
      have he := txns_get hlq
      obtain ⟨hp1, hp2⟩ := hq _ (List.getElem_mem hlq)
      have c := copied16_con m[q] hp1 hp2
      unfold Tx.cells at c
      have hs := txns_snoc (l ++ m.take q) m[q]
      rw [List.append_assoc, ← List.take_succ_eq_append_getElem hlq] at hs
      have hll := txns_len (l ++ m.take q)
      rw [List.length_append, List.length_take] at hll
      repeat' first | (refine And.intro (by (try simp only [hll, List.length_cons, List.length_nil]); omega) ?_) | (refine hK _ ?_; clear hK) | (refine hK _ _ ?_; clear hK) | (clear hK; refine hK _ ?_; clear hK) | (clear hK; clear hK; refine hK _ ?_; clear hK) | (clear hK; clear hK; clear hK; refine hK _ ?_; clear hK) | (clear hK; clear hK; clear hK; clear hK; refine hK _ ?_; clear hK) | (refine wSeq fun K hK => ?_) | ((first | refine wReg ?_ | refine wDrwQ rfl (by kernel_rfl) ?_ | refine wDrwI ?_ | refine wDrw (by kernel_rfl) ?_); simp only [List.map_cons, List.map_nil, strip]) | ((first | refine wIs fun K hK => ?_ | refine wOs fun K hK => ?_ | refine wQs fun K hK => ?_ | refine CallK_plain ?_ | refine CallQ_plain ?_ | refine CallR_plain ?_ | refine wCond ?_); simp [g5, b5, g22, g23, g24, hlq, hlq', hw, he, hs]) | (refine wIn ?_; refine And.intro (by kernel_rfl) ?_; try simp only [thenA_n]) | (first | refine wBlock ?_ | refine wScope ?_) | ((first | refine wRet ?_ | refine wExit ?_ | refine wSkip ?_); try simp) | ((first | refine wLabel ?_ | refine wOn ?_ | refine wQn ?_); try simp only [thenA_n]) | (refine CallE.pure (c) rfl ?_) | (refine CallE.lent (c) rfl ?_) | (refine CallF.pure (c) rfl ?_) | (refine CallF.lent (c) rfl ?_) | (refine CallE.own (c) ?_) | (refine CallH.pure (c) rfl ?_) | (refine CallH.lent (c) rfl ?_) | (refine CallH.own (c) ?_)
      refine hL _ (N - 1) (by omega) ⟨q + 1, by omega, ?_⟩
      simp [g5, b5, g22, g23, g24, hw, hs]
    · have hlq' : ¬ (q : Int) < m.length := by omega
      rw [List.take_of_length_le (by omega)] at b5
      repeat' first | (refine hK _ ?_; clear hK) | (refine hK _ _ ?_; clear hK) | (clear hK; refine hK _ ?_; clear hK) | (clear hK; clear hK; refine hK _ ?_; clear hK) | (clear hK; clear hK; clear hK; refine hK _ ?_; clear hK) | (clear hK; clear hK; clear hK; clear hK; refine hK _ ?_; clear hK) | (refine wSeq fun K hK => ?_) | ((first | refine wReg ?_ | refine wDrwQ rfl (by kernel_rfl) ?_ | refine wDrwI ?_ | refine wDrw (by kernel_rfl) ?_); simp only [List.map_cons, List.map_nil, strip]) | ((first | refine wIs fun K hK => ?_ | refine wOs fun K hK => ?_ | refine wQs fun K hK => ?_ | refine CallK_plain ?_ | refine CallQ_plain ?_ | refine CallR_plain ?_ | refine wCond ?_); simp [g5, b5, g22, g23, g24, hlq, hlq']) | (refine wIn ?_; refine And.intro (by kernel_rfl) ?_; try simp only [thenA_n]) | (first | refine wBlock ?_ | refine wScope ?_) | ((first | refine wRet ?_ | refine wExit ?_ | refine wSkip ?_); try simp) | ((first | refine wLabel ?_ | refine wOn ?_ | refine wQn ?_); try simp only [thenA_n])
      all_goals apply hr
      all_goals simp [Try.f28, g5, b5]
theorem zcmp_flip (a b c d : Int) : zcmp a b c d ≥ 0 ↔ zcmp c d a b ≤ 0 := by
  have p := zcmp_pos c d a b
  have q := zlt_iff ⟨a, b⟩ ⟨c, d⟩
  unfold zlt at q
  simp only at q
  omega
def grown (h : Hy) (l : List Tx) : Hy := if growOk h l = true then { h with lg := h.lg ++ l } else hyA []
abbrev zeroB : Blk := .box 33 [.nil 5, .nil 1, .p (I 0), .p (I 0), .p (I 0), .p (I 0), .nil 4, .p (I 0), .p (I 0), .nil 8]
set_option maxHeartbeats 8000000 in
theorem grow16_con (h : Hy) (l : List Tx) (hk : OkH h) (hl : l.length ≤ 1000) (hp : ∀ x ∈ l, x.ps.length ≤ 1000 ∧ ∀ p ∈ x.ps, p.c.ms.length ≤ 1000) :
    ACon Try.prog 8 [.p (.agg h.cells), .p (.sl 8 (txns l))] (.tup [.p (.agg (grown h l).cells), .p (I (if growOk h l = true then 0 else 1))]) := by
  have c1 := own16_con h.im hk.ns hk.ss hk.c
  have c2 := all16g_con h.lg l hk.lg hl hk.ps hp
  have c3 := lastH16_con h hk.lg
  unfold grown growOk
  generalize lastH h = z at *
  unfold Hy.cells at *
  unfold Sv.cells at c1
  refine wBody Try.tab Try.mixed Try.func8 rfl rfl Try.ntmps8 (by simp) (by simp) fun Q hr hn => ?_
  repeat' first | (refine CallE.pure (c1) rfl ?_) | (refine CallE.lent (c1) rfl ?_) | (refine CallF.pure (c1) rfl ?_) | (refine CallF.lent (c1) rfl ?_) | (refine CallE.own (c1) ?_) | (refine CallH.pure (c1) rfl ?_) | (refine CallH.lent (c1) rfl ?_) | (refine CallH.own (c1) ?_) | (refine CallE.pure (c2) rfl ?_) | (refine CallE.lent (c2) rfl ?_) | (refine CallF.pure (c2) rfl ?_) | (refine CallF.lent (c2) rfl ?_) | (refine CallE.own (c2) ?_) | (refine CallH.pure (c2) rfl ?_) | (refine CallH.lent (c2) rfl ?_) | (refine CallH.own (c2) ?_) | (refine CallE.pure (c3) rfl ?_) | (refine CallE.lent (c3) rfl ?_) | (refine CallF.pure (c3) rfl ?_) | (refine CallF.lent (c3) rfl ?_) | (refine CallE.own (c3) ?_) | (refine CallH.pure (c3) rfl ?_) | (refine CallH.lent (c3) rfl ?_) | (refine CallH.own (c3) ?_) | (refine hK _ ?_; clear hK) | (refine hK _ _ ?_; clear hK) | (clear hK; refine hK _ ?_; clear hK) | (clear hK; clear hK; refine hK _ ?_; clear hK) | (clear hK; clear hK; clear hK; refine hK _ ?_; clear hK) | (clear hK; clear hK; clear hK; clear hK; refine hK _ ?_; clear hK) | (refine wSeq fun K hK => ?_) | ((first | refine wReg ?_ | refine wDrwQ rfl (by kernel_rfl) ?_ | refine wDrwI ?_ | refine wDrw (by kernel_rfl) ?_); simp only [List.map_cons, List.map_nil, strip]) | ((first | refine wIs fun K hK => ?_ | refine wOs fun K hK => ?_ | refine wQs fun K hK => ?_ | refine CallK_plain ?_ | refine CallQ_plain ?_ | refine CallR_plain ?_ | refine wCond ?_); simp) | (refine wIn ?_; refine And.intro (by kernel_rfl) ?_; try simp only [thenA_n]) | (first | refine wBlock ?_ | refine wScope ?_) | ((first | refine wRet ?_ | refine wExit ?_ | refine wSkip ?_); try simp) | ((first | refine wLabel ?_ | refine wOn ?_ | refine wQn ?_); try simp only [thenA_n])
  refine wLoop (fun N st => ∃ k y, k + N = l.length ∧ follows y (l.drop k) = follows z l ∧ st.s 4 = .ptr 4 0 ∧ st.b 4 = some zeroB ∧ st.s 6 = .ptr 6 0 ∧ st.b 6 = some (.box 33 [.p (.sl 5 (zns h.im.ns)), .p (.sl 1 (ints h.im.ss)), .p (I h.im.nx), .p (I h.im.c.ep), .p (I h.im.c.n), .p (I h.im.c.kind), .p (.sl 4 (mbs h.im.c.ms)), .p (I h.im.ae), .p (I h.im.an), .p (.sl 8 (txns (h.lg ++ l)))]) ∧ st.s 7 = .ptr 7 0 ∧ st.b 7 = some (.box 25 [.p (I y.e), .p (I y.n)]) ∧ st.s 20 = .p (.sl 8 (txns l)) ∧ st.s 21 = .p (I l.length) ∧ st.s 22 = .p (I k)) l.length ⟨0, z, by simp [zeroB]⟩ fun K N st hL ⟨k, y, hkN, hi, g4, b4, g6, b6, g7, b7, g20, g21, g22⟩ => ?_
  unfold zeroB at b4
  by_cases hlt : k < l.length
  · have hw := wrapS k _ hlt (by omega)
    have he := txns_get hlt
    rw [List.drop_eq_getElem_cons hlt, follows] at hi
    have cc := cmp02_con y.e y.n l[k].e l[k].n
    have hz := zcmp_flip y.e y.n l[k].e l[k].n
    by_cases o : zcmp l[k].e l[k].n y.e y.n ≤ 0
    · rw [if_pos o] at hi
      rw [← hi] at hr
      have o' : 0 ≤ zcmp y.e y.n l[k].e l[k].n := hz.2 o
      simp only [Bool.false_eq_true, if_false] at hr
      generalize zcmp y.e y.n l[k].e l[k].n = q at *
      repeat' first | (refine CallE.pure (cc) rfl ?_) | (refine CallE.lent (cc) rfl ?_) | (refine CallF.pure (cc) rfl ?_) | (refine CallF.lent (cc) rfl ?_) | (refine CallE.own (cc) ?_) | (refine CallH.pure (cc) rfl ?_) | (refine CallH.lent (cc) rfl ?_) | (refine CallH.own (cc) ?_) | (refine hK _ ?_; clear hK) | (refine hK _ _ ?_; clear hK) | (clear hK; refine hK _ ?_; clear hK) | (clear hK; clear hK; refine hK _ ?_; clear hK) | (clear hK; clear hK; clear hK; refine hK _ ?_; clear hK) | (clear hK; clear hK; clear hK; clear hK; refine hK _ ?_; clear hK) | (refine wSeq fun K hK => ?_) | ((first | refine wReg ?_ | refine wDrwQ rfl (by kernel_rfl) ?_ | refine wDrwI ?_ | refine wDrw (by kernel_rfl) ?_); simp only [List.map_cons, List.map_nil, strip]) | ((first | refine wIs fun K hK => ?_ | refine wOs fun K hK => ?_ | refine wQs fun K hK => ?_ | refine CallK_plain ?_ | refine CallQ_plain ?_ | refine CallR_plain ?_ | refine wCond ?_); simp [g4, b4, g6, b6, g7, b7, g20, g21, g22, hlt, hw, he, o']) | (refine wIn ?_; refine And.intro (by kernel_rfl) ?_; try simp only [thenA_n]) | (first | refine wBlock ?_ | refine wScope ?_) | ((first | refine wRet ?_ | refine wExit ?_ | refine wSkip ?_); try simp) | ((first | refine wLabel ?_ | refine wOn ?_ | refine wQn ?_); try simp only [thenA_n])
      all_goals apply hr
      all_goals simp [Try.f8, g4, b4, hyA, zns, ints, mbs, txns]
    · rw [if_neg o] at hi
      have o' : ¬ 0 ≤ zcmp y.e y.n l[k].e l[k].n := fun h => o (hz.1 h)
      have o'' : zcmp y.e y.n l[k].e l[k].n < 0 := by omega
      generalize zcmp y.e y.n l[k].e l[k].n = q at *
      repeat' first | (refine CallE.pure (cc) rfl ?_) | (refine CallE.lent (cc) rfl ?_) | (refine CallF.pure (cc) rfl ?_) | (refine CallF.lent (cc) rfl ?_) | (refine CallE.own (cc) ?_) | (refine CallH.pure (cc) rfl ?_) | (refine CallH.lent (cc) rfl ?_) | (refine CallH.own (cc) ?_) | (refine hK _ ?_; clear hK) | (refine hK _ _ ?_; clear hK) | (clear hK; refine hK _ ?_; clear hK) | (clear hK; clear hK; refine hK _ ?_; clear hK) | (clear hK; clear hK; clear hK; refine hK _ ?_; clear hK) | (clear hK; clear hK; clear hK; clear hK; refine hK _ ?_; clear hK) | (refine wSeq fun K hK => ?_) | ((first | refine wReg ?_ | refine wDrwQ rfl (by kernel_rfl) ?_ | refine wDrwI ?_ | refine wDrw (by kernel_rfl) ?_); simp only [List.map_cons, List.map_nil, strip]) | ((first | refine wIs fun K hK => ?_ | refine wOs fun K hK => ?_ | refine wQs fun K hK => ?_ | refine CallK_plain ?_ | refine CallQ_plain ?_ | refine CallR_plain ?_ | refine wCond ?_); simp [g4, b4, g6, b6, g7, b7, g20, g21, g22, hlt, hw, he, o', o'']) | (refine wIn ?_; refine And.intro (by kernel_rfl) ?_; try simp only [thenA_n]) | (first | refine wBlock ?_ | refine wScope ?_) | ((first | refine wRet ?_ | refine wExit ?_ | refine wSkip ?_); try simp) | ((first | refine wLabel ?_ | refine wOn ?_ | refine wQn ?_); try simp only [thenA_n])
      refine hL _ (N - 1) (by omega) ⟨k + 1, ⟨l[k].e, l[k].n⟩, by omega, hi, ?_⟩
      simp [g4, b4, g6, b6, g7, b7, g20, g21, g22, hw, zeroB]
  · rw [List.drop_of_length_le (by omega), follows] at hi
    rw [← hi] at hr
    simp only [if_true] at hr
    repeat' first | (refine hK _ ?_; clear hK) | (refine hK _ _ ?_; clear hK) | (clear hK; refine hK _ ?_; clear hK) | (clear hK; clear hK; refine hK _ ?_; clear hK) | (clear hK; clear hK; clear hK; refine hK _ ?_; clear hK) | (clear hK; clear hK; clear hK; clear hK; refine hK _ ?_; clear hK) | (refine wSeq fun K hK => ?_) | ((first | refine wReg ?_ | refine wDrwQ rfl (by kernel_rfl) ?_ | refine wDrwI ?_ | refine wDrw (by kernel_rfl) ?_); simp only [List.map_cons, List.map_nil, strip]) | ((first | refine wIs fun K hK => ?_ | refine wOs fun K hK => ?_ | refine wQs fun K hK => ?_ | refine CallK_plain ?_ | refine CallQ_plain ?_ | refine CallR_plain ?_ | refine wCond ?_); simp [g4, b4, g6, b6, g7, b7, g20, g21, g22, hlt]) | (refine wIn ?_; refine And.intro (by kernel_rfl) ?_; try simp only [thenA_n]) | (first | refine wBlock ?_ | refine wScope ?_) | ((first | refine wRet ?_ | refine wExit ?_ | refine wSkip ?_); try simp) | ((first | refine wLabel ?_ | refine wOn ?_ | refine wQn ?_); try simp only [thenA_n])
    all_goals apply hr
    all_goals simp [Try.f8, g4, b4, g6, b6]
theorem place16_con (h : Hy) (z : Zx) (n : Nat) (hl : h.lg.length ≤ 1000) (hpl : plc z (mks h) 0 = some n) : ACon Try.prog 30 [.p (.agg h.cells), .p (.agg [I z.e, I z.n])] (.p (I n)) := by
  have c1 := marks16_con h hl
  have hml := mks_len h
  revert hpl
  generalize mks h = M at *
  intro hpl
  unfold Hy.cells at *
  refine wBody Try.tab Try.mixed Try.func30 rfl rfl Try.ntmps30 (by simp) (by simp) fun Q hr hn => ?_
  repeat' first | (refine CallE.pure (c1) rfl ?_) | (refine CallE.lent (c1) rfl ?_) | (refine CallF.pure (c1) rfl ?_) | (refine CallF.lent (c1) rfl ?_) | (refine CallE.own (c1) ?_) | (refine CallH.pure (c1) rfl ?_) | (refine CallH.lent (c1) rfl ?_) | (refine CallH.own (c1) ?_) | (refine hK _ ?_; clear hK) | (refine hK _ _ ?_; clear hK) | (clear hK; refine hK _ ?_; clear hK) | (clear hK; clear hK; refine hK _ ?_; clear hK) | (clear hK; clear hK; clear hK; refine hK _ ?_; clear hK) | (clear hK; clear hK; clear hK; clear hK; refine hK _ ?_; clear hK) | (refine wSeq fun K hK => ?_) | ((first | refine wReg ?_ | refine wDrwQ rfl (by kernel_rfl) ?_ | refine wDrwI ?_ | refine wDrw (by kernel_rfl) ?_); simp only [List.map_cons, List.map_nil, strip]) | ((first | refine wIs fun K hK => ?_ | refine wOs fun K hK => ?_ | refine wQs fun K hK => ?_ | refine CallK_plain ?_ | refine CallQ_plain ?_ | refine CallR_plain ?_ | refine wCond ?_); simp) | (refine wIn ?_; refine And.intro (by kernel_rfl) ?_; try simp only [thenA_n]) | (first | refine wBlock ?_ | refine wScope ?_) | ((first | refine wRet ?_ | refine wExit ?_ | refine wSkip ?_); try simp) | ((first | refine wLabel ?_ | refine wOn ?_ | refine wQn ?_); try simp only [thenA_n])
  refine wLoop (fun N st => ∃ k, k + N = M.length ∧ st.s 3 = .ptr 3 0 ∧ st.b 3 = some (.box 25 [.p (I z.e), .p (I z.n)]) ∧ st.s 8 = .p (.sl 2 (zxs M)) ∧ st.s 9 = .p (I M.length) ∧ st.s 10 = .p (I k) ∧ plc z (M.drop k) k = some n) M.length ⟨0, by simp [hpl]⟩ fun K N st hL ⟨k, hk, g3, b3, g8, g9, g10, hi⟩ => ?_
  by_cases hlt : k < M.length
  · have hw := wrapS k _ hlt (by omega)
    rw [List.drop_eq_getElem_cons hlt, plc] at hi
    have hx : M[k] = z ↔ M[k].e = z.e ∧ M[k].n = z.n := by cases M[k]; cases z; simp
    by_cases o : M[k].e = z.e ∧ M[k].n = z.n
    · rw [if_pos (hx.2 o), Option.some.injEq] at hi
      subst hi
      obtain ⟨o1, o2⟩ := o
      replace o1 : (M[k].e = z.e) = True := eq_true o1
      replace o2 : (M[k].n = z.n) = True := eq_true o2
      repeat' first | (refine hK _ ?_; clear hK) | (refine hK _ _ ?_; clear hK) | (clear hK; refine hK _ ?_; clear hK) | (clear hK; clear hK; refine hK _ ?_; clear hK) | (clear hK; clear hK; clear hK; refine hK _ ?_; clear hK) | (clear hK; clear hK; clear hK; clear hK; refine hK _ ?_; clear hK) | (refine wSeq fun K hK => ?_) | ((first | refine wReg ?_ | refine wDrwQ rfl (by kernel_rfl) ?_ | refine wDrwI ?_ | refine wDrw (by kernel_rfl) ?_); simp only [List.map_cons, List.map_nil, strip]) | ((first | refine wIs fun K hK => ?_ | refine wOs fun K hK => ?_ | refine wQs fun K hK => ?_ | refine CallK_plain ?_ | refine CallQ_plain ?_ | refine CallR_plain ?_ | refine wCond ?_); simp [g3, b3, g8, g9, g10, hlt, hw, o1, o2]) | (refine wIn ?_; refine And.intro (by kernel_rfl) ?_; try simp only [thenA_n]) | (first | refine wBlock ?_ | refine wScope ?_) | ((first | refine wRet ?_ | refine wExit ?_ | refine wSkip ?_); try simp) | ((first | refine wLabel ?_ | refine wOn ?_ | refine wQn ?_); try simp only [thenA_n])
      all_goals apply hr
      all_goals simp [Try.f30]
    · rw [if_neg fun h => o (hx.1 h)] at hi
      repeat' first | (refine hK _ ?_; clear hK) | (refine hK _ _ ?_; clear hK) | (clear hK; refine hK _ ?_; clear hK) | (clear hK; clear hK; refine hK _ ?_; clear hK) | (clear hK; clear hK; clear hK; refine hK _ ?_; clear hK) | (clear hK; clear hK; clear hK; clear hK; refine hK _ ?_; clear hK) | (refine wSeq fun K hK => ?_) | ((first | refine wReg ?_ | refine wDrwQ rfl (by kernel_rfl) ?_ | refine wDrwI ?_ | refine wDrw (by kernel_rfl) ?_); simp only [List.map_cons, List.map_nil, strip]) | ((first | refine wIs fun K hK => ?_ | refine wOs fun K hK => ?_ | refine wQs fun K hK => ?_ | refine CallK_plain ?_ | refine CallQ_plain ?_ | refine CallR_plain ?_ | refine wCond ?_); simp [g3, b3, g8, g9, g10, hlt, hw, o]) | (refine wIn ?_; refine And.intro (by kernel_rfl) ?_; try simp only [thenA_n]) | (first | refine wBlock ?_ | refine wScope ?_) | ((first | refine wRet ?_ | refine wExit ?_ | refine wSkip ?_); try simp) | ((first | refine wLabel ?_ | refine wOn ?_ | refine wQn ?_); try simp only [thenA_n]) | (intro _)
      all_goals first | exact o | skip
      refine hL _ (N - 1) (by omega) ⟨k + 1, by omega, ?_⟩
      simp [g3, b3, g8, g9, hw, hi]
  · rw [List.drop_of_length_le (by omega), plc] at hi
    cases hi
set_option maxHeartbeats 1000000 in
theorem squash16_con (h : Hy) (z : Zx) (n : Nat) (hk : OkH h) (hn : plc z (mks h) 0 = some n) : ACon Try.prog 11 [.p (.agg h.cells), .p (.agg [I z.e, I z.n])] (.tup [.p (.agg (sqH h z n).cells), .p (I 0)]) := by
  have c1 := place16_con h z n hk.lg hn
  have hml := mks_len h
  have hlt := (plc_lt z (mks h) 0 n hn).2
  have c2 := stateAt16_con h z hk
  have c3 := all16_con (h.lg.drop n) (by have := hk.lg; simp; omega) fun x hx => hk.ps x (List.mem_of_mem_drop hx)
  have hnl : n ≤ h.lg.length := by omega
  have hn0 : ¬ (n : Int) < 0 := by omega
  have hd : (txns h.lg).drop n = txns (h.lg.drop n) := by simp [txns, List.map_drop]
  have htl : (txns h.lg).take h.lg.length = txns h.lg := by rw [List.take_of_length_le (by simp)]
  unfold sqH
  generalize stAt h z = S at *
  unfold Hy.cells at *
  unfold Sv.cells at c2
  refine wBody Try.tab Try.mixed Try.func11 rfl rfl Try.ntmps11 (by simp) (by simp) fun Q hr hn => ?_
  repeat' first | (refine CallE.pure (c1) rfl ?_) | (refine CallE.lent (c1) rfl ?_) | (refine CallF.pure (c1) rfl ?_) | (refine CallF.lent (c1) rfl ?_) | (refine CallE.own (c1) ?_) | (refine CallH.pure (c1) rfl ?_) | (refine CallH.lent (c1) rfl ?_) | (refine CallH.own (c1) ?_) | (refine CallE.pure (c2) rfl ?_) | (refine CallE.lent (c2) rfl ?_) | (refine CallF.pure (c2) rfl ?_) | (refine CallF.lent (c2) rfl ?_) | (refine CallE.own (c2) ?_) | (refine CallH.pure (c2) rfl ?_) | (refine CallH.lent (c2) rfl ?_) | (refine CallH.own (c2) ?_) | (refine CallE.pure (c3) rfl ?_) | (refine CallE.lent (c3) rfl ?_) | (refine CallF.pure (c3) rfl ?_) | (refine CallF.lent (c3) rfl ?_) | (refine CallE.own (c3) ?_) | (refine CallH.pure (c3) rfl ?_) | (refine CallH.lent (c3) rfl ?_) | (refine CallH.own (c3) ?_) | (refine hK _ ?_; clear hK) | (refine hK _ _ ?_; clear hK) | (clear hK; refine hK _ ?_; clear hK) | (clear hK; clear hK; refine hK _ ?_; clear hK) | (clear hK; clear hK; clear hK; refine hK _ ?_; clear hK) | (clear hK; clear hK; clear hK; clear hK; refine hK _ ?_; clear hK) | (refine wSeq fun K hK => ?_) | ((first | refine wReg ?_ | refine wDrwQ rfl (by kernel_rfl) ?_ | refine wDrwI ?_ | refine wDrw (by kernel_rfl) ?_); simp only [List.map_cons, List.map_nil, strip]) | ((first | refine wIs fun K hK => ?_ | refine wOs fun K hK => ?_ | refine wQs fun K hK => ?_ | refine CallK_plain ?_ | refine CallQ_plain ?_ | refine CallR_plain ?_ | refine wCond ?_); simp [hnl, hd, htl, hn0]) | (refine wIn ?_; refine And.intro (by kernel_rfl) ?_; try simp only [thenA_n]) | (first | refine wBlock ?_ | refine wScope ?_) | ((first | refine wRet ?_ | refine wExit ?_ | refine wSkip ?_); try simp) | ((first | refine wLabel ?_ | refine wOn ?_ | refine wQn ?_); try simp only [thenA_n])
  all_goals apply hr
  all_goals simp [Try.f11, hd]
theorem same16L_con (l : List Tx) (hl : l.length ≤ 100000) : ACon Try.prog 38 [.p (.sl 8 (txns l)), .p (.sl 8 (txns l))] (.p (B true)) := by
  refine wBody Try.tab Try.mixed Try.func38 rfl rfl Try.ntmps38 (by simp) (by simp) fun Q hr hn => ?_
  repeat' first | (refine hK _ ?_; clear hK) | (refine hK _ _ ?_; clear hK) | (clear hK; refine hK _ ?_; clear hK) | (clear hK; clear hK; refine hK _ ?_; clear hK) | (clear hK; clear hK; clear hK; refine hK _ ?_; clear hK) | (clear hK; clear hK; clear hK; clear hK; refine hK _ ?_; clear hK) | (refine wSeq fun K hK => ?_) | ((first | refine wReg ?_ | refine wDrwQ rfl (by kernel_rfl) ?_ | refine wDrwI ?_ | refine wDrw (by kernel_rfl) ?_); simp only [List.map_cons, List.map_nil, strip]) | ((first | refine wIs fun K hK => ?_ | refine wOs fun K hK => ?_ | refine wQs fun K hK => ?_ | refine CallK_plain ?_ | refine CallQ_plain ?_ | refine CallR_plain ?_ | refine wCond ?_); simp) | (refine wIn ?_; refine And.intro (by kernel_rfl) ?_; try simp only [thenA_n]) | (first | refine wBlock ?_ | refine wScope ?_) | ((first | refine wRet ?_ | refine wExit ?_ | refine wSkip ?_); try simp) | ((first | refine wLabel ?_ | refine wOn ?_ | refine wQn ?_); try simp only [thenA_n])
  refine wLoop (fun N st => ∃ k, k + N = l.length ∧ st.s 0 = .p (.sl 8 (txns l)) ∧ st.s 1 = .p (.sl 8 (txns l)) ∧ st.s 12 = .p (I l.length) ∧ st.s 13 = .p (I k)) l.length ⟨0, by simp⟩ fun K N st hL ⟨k, hk, g0, g1, g12, g13⟩ => ?_
  by_cases hlt : k < l.length
  · have hw := wrapS k _ hlt (by omega)
    have he := txns_get hlt
    have cc := sameT08_con l[k] l[k]
    rw [decide_eq_true rfl] at cc
    unfold Tx.cells at cc
    repeat' first | (refine CallE.pure (cc) rfl ?_) | (refine CallE.lent (cc) rfl ?_) | (refine CallF.pure (cc) rfl ?_) | (refine CallF.lent (cc) rfl ?_) | (refine CallE.own (cc) ?_) | (refine CallH.pure (cc) rfl ?_) | (refine CallH.lent (cc) rfl ?_) | (refine CallH.own (cc) ?_) | (refine hK _ ?_; clear hK) | (refine hK _ _ ?_; clear hK) | (clear hK; refine hK _ ?_; clear hK) | (clear hK; clear hK; refine hK _ ?_; clear hK) | (clear hK; clear hK; clear hK; refine hK _ ?_; clear hK) | (clear hK; clear hK; clear hK; clear hK; refine hK _ ?_; clear hK) | (refine wSeq fun K hK => ?_) | ((first | refine wReg ?_ | refine wDrwQ rfl (by kernel_rfl) ?_ | refine wDrwI ?_ | refine wDrw (by kernel_rfl) ?_); simp only [List.map_cons, List.map_nil, strip]) | ((first | refine wIs fun K hK => ?_ | refine wOs fun K hK => ?_ | refine wQs fun K hK => ?_ | refine CallK_plain ?_ | refine CallQ_plain ?_ | refine CallR_plain ?_ | refine wCond ?_); simp [g0, g1, g12, g13, hlt, hw, he]) | (refine wIn ?_; refine And.intro (by kernel_rfl) ?_; try simp only [thenA_n]) | (first | refine wBlock ?_ | refine wScope ?_) | ((first | refine wRet ?_ | refine wExit ?_ | refine wSkip ?_); try simp) | ((first | refine wLabel ?_ | refine wOn ?_ | refine wQn ?_); try simp only [thenA_n])
    refine hL _ (N - 1) (by omega) ⟨k + 1, by omega, ?_⟩
    simp [g0, g1, g12, g13, hw]
  · repeat' first | (refine hK _ ?_; clear hK) | (refine hK _ _ ?_; clear hK) | (clear hK; refine hK _ ?_; clear hK) | (clear hK; clear hK; refine hK _ ?_; clear hK) | (clear hK; clear hK; clear hK; refine hK _ ?_; clear hK) | (clear hK; clear hK; clear hK; clear hK; refine hK _ ?_; clear hK) | (refine wSeq fun K hK => ?_) | ((first | refine wReg ?_ | refine wDrwQ rfl (by kernel_rfl) ?_ | refine wDrwI ?_ | refine wDrw (by kernel_rfl) ?_); simp only [List.map_cons, List.map_nil, strip]) | ((first | refine wIs fun K hK => ?_ | refine wOs fun K hK => ?_ | refine wQs fun K hK => ?_ | refine CallK_plain ?_ | refine CallQ_plain ?_ | refine CallR_plain ?_ | refine wCond ?_); simp [g0, g1, g12, g13, hlt]) | (refine wIn ?_; refine And.intro (by kernel_rfl) ?_; try simp only [thenA_n]) | (first | refine wBlock ?_ | refine wScope ?_) | ((first | refine wRet ?_ | refine wExit ?_ | refine wSkip ?_); try simp) | ((first | refine wLabel ?_ | refine wOn ?_ | refine wQn ?_); try simp only [thenA_n])
    all_goals apply hr
    all_goals simp [Try.f38]
theorem same16H_con (h : Hy) (hl : h.lg.length ≤ 100000) : ACon Try.prog 15 [.p (.agg h.cells), .p (.agg h.cells)] (.p (B true)) := by
  have c1 := sameS08_con h.im h.im
  have c2 := same16L_con h.lg hl
  rw [decide_eq_true rfl] at c1
  unfold Sv.cells at c1
  unfold Hy.cells at *
  refine wBody Try.tab Try.mixed Try.func15 rfl rfl Try.ntmps15 (by simp) (by simp) fun Q hr hn => ?_
  repeat' first | (refine CallE.pure (c1) rfl ?_) | (refine CallE.lent (c1) rfl ?_) | (refine CallF.pure (c1) rfl ?_) | (refine CallF.lent (c1) rfl ?_) | (refine CallE.own (c1) ?_) | (refine CallH.pure (c1) rfl ?_) | (refine CallH.lent (c1) rfl ?_) | (refine CallH.own (c1) ?_) | (refine CallE.pure (c2) rfl ?_) | (refine CallE.lent (c2) rfl ?_) | (refine CallF.pure (c2) rfl ?_) | (refine CallF.lent (c2) rfl ?_) | (refine CallE.own (c2) ?_) | (refine CallH.pure (c2) rfl ?_) | (refine CallH.lent (c2) rfl ?_) | (refine CallH.own (c2) ?_) | (refine hK _ ?_; clear hK) | (refine hK _ _ ?_; clear hK) | (clear hK; refine hK _ ?_; clear hK) | (clear hK; clear hK; refine hK _ ?_; clear hK) | (clear hK; clear hK; clear hK; refine hK _ ?_; clear hK) | (clear hK; clear hK; clear hK; clear hK; refine hK _ ?_; clear hK) | (refine wSeq fun K hK => ?_) | ((first | refine wReg ?_ | refine wDrwQ rfl (by kernel_rfl) ?_ | refine wDrwI ?_ | refine wDrw (by kernel_rfl) ?_); simp only [List.map_cons, List.map_nil, strip]) | ((first | refine wIs fun K hK => ?_ | refine wOs fun K hK => ?_ | refine wQs fun K hK => ?_ | refine CallK_plain ?_ | refine CallQ_plain ?_ | refine CallR_plain ?_ | refine wCond ?_); simp) | (refine wIn ?_; refine And.intro (by kernel_rfl) ?_; try simp only [thenA_n]) | (first | refine wBlock ?_ | refine wScope ?_) | ((first | refine wRet ?_ | refine wExit ?_ | refine wSkip ?_); try simp) | ((first | refine wLabel ?_ | refine wOn ?_ | refine wQn ?_); try simp only [thenA_n])
  all_goals apply hr
  all_goals simp [Try.f15]
end Go.Proofs.Ytegoihognjpcjaa


/- Histories: one plan makes one history of another; the law HistoryOne. -/
namespace Go.Proofs.Ytegoihognjpcjaa
set_option linter.unusedSimpArgs false
set_option linter.unusedVariables false
open Go Go.Av
attribute [local simp] Try.T1 Try.T2 Try.T3 Try.T4 Try.T5 Try.T9 Try.T12 Try.T15 Try.T16 Try.T17 Try.T21 Try.T22 Try.T23 Try.T25 Try.T26 Try.T28 Try.T30 Try.T31 Try.T33 Try.T34 Try.T35 Try.T36 Try.T37 Try.T38 Try.T40 Try.T42 Try.T43 Try.T44 Try.T45 Try.T46 Try.T48 Try.T49 Try.T50 Try.T51 Try.T52 Try.T53 Try.T54 Try.T55 Try.T56 Try.T57 Try.T58 Try.T59 Try.T60 Try.T61 Try.T62 Try.T64 Try.T66 Try.T67 Try.T68 Try.T69 Try.T70 Try.T71 Try.T72 Try.T73 Try.T74 Try.T75 Try.T76 Try.T77 Try.T78 Try.T80 Try.T81 Try.T82 Try.T83 Try.T84 Try.T85 Try.T86 Try.T88 Try.T89 Try.T90 Try.T91 Try.T92 Try.T93 Try.T94 Try.T95 Try.T96 Try.T97 Try.T98 Try.T99 Try.T100 Try.T101 Try.T102 Try.T103 Try.T104 Try.T105 Try.T106 Try.T107 Try.T108 Try.T109 Try.T110 Try.T111 Try.T112 Try.T113 Try.T116 Try.T119 Try.T120 Try.T123 Try.T124
attribute [local irreducible] Go.Av.CallK Go.Av.CallE Go.Av.CallQ Go.Av.CallF Go.Av.CallR Go.Av.CallH Go.Av.Con
theorem lastIn_at {M ms : List Zx} {i : Nat} (hi : i < M.length) (h : M[i] ∈ ms) (hn : ∀ j (hj : j < M.length), i < j → M[j] ∉ ms) : ∀ n, i < n → n ≤ M.length → lastIn M ms n = some i
  | 0, h0, _ => by omega
  | n + 1, h0, h1 => by
    rw [lastIn_succ (show n < M.length by omega)]
    by_cases o : n = i
    · subst o; rw [if_pos h]
    · rw [if_neg (hn n (by omega) (by omega))]
      exact lastIn_at hi h hn n (by omega) (by omega)
def behH (h : Hy) (a : List Tx) : Hy := { h with lg := h.lg ++ a }
theorem mks_beh (h : Hy) (a : List Tx) : mks (behH h a) = mks h ++ a.map fun t => ⟨t.e, t.n⟩ := by simp [mks, behH]
/-- What two histories that grew out of one, and part with unlike places, are to one another. -/
structure Part (h : Hy) (a b : List Tx) : Prop where
  x : risesB (mks (behH h a)) = true
  y : risesB (mks (behH h b)) = true
  d : ∀ t ∈ a, ∀ s ∈ b, ¬ (t.e = s.e ∧ t.n = s.n)
theorem Part.at {h : Hy} {a b : List Tx} (p : Part h a b) {j : Nat} (hj : j < (mks (behH h a)).length) (hl : h.lg.length < j) : (mks (behH h a))[j] ∉ mks (behH h b) := by
  have hml := mks_len h
  have hxp := List.pairwise_iff_getElem.1 (rises_pw p.x)
  have hm : (mks (behH h a))[j] = (⟨(a[j - (mks h).length]'(by rw [mks_beh] at hj; simp at hj; omega)).e, (a[j - (mks h).length]'(by rw [mks_beh] at hj; simp at hj; omega)).n⟩ : Zx) := by
    simp only [mks_beh]
    rw [List.getElem_append_right (by omega)]
    simp
  intro hmem
  rw [mks_beh h b] at hmem
  rcases List.mem_append.1 hmem with hm1 | hm1
  · obtain ⟨i, hi, he⟩ := List.getElem_of_mem hm1
    have hix : i < (mks (behH h a)).length := by omega
    have e1 : (mks (behH h a))[i] = (mks h)[i] := by
      simp only [mks_beh]
      rw [List.getElem_append_left hi]
    have := hxp i j hix hj (by omega)
    rw [e1, he] at this
    exact zlt_irr _ this
  · obtain ⟨s, hs, he⟩ := List.mem_map.1 hm1
    rw [hm, Zx.mk.injEq] at he
    exact p.d _ (List.getElem_mem _) s hs ⟨he.1.symm, he.2.symm⟩
theorem Part.last {h : Hy} {a b : List Tx} (p : Part h a b) {k : Nat} (hk : k ≤ h.lg.length) : lastIn ((mks (behH h a)).drop k) (mks (behH h b)) ((mks (behH h a)).drop k).length = some (h.lg.length - k) := by
  have hml := mks_len h
  have hxl : (mks (behH h a)).length = (mks h).length + a.length := by rw [mks_beh]; simp
  have hd : ((mks (behH h a)).drop k).length = (mks h).length + a.length - k := by rw [List.length_drop, hxl]
  refine lastIn_at (by omega) ?_ (fun j hj hij => ?_) _ (by omega) (by omega)
  · rw [List.getElem_drop, mks_beh h b]
    refine List.mem_append_left _ ?_
    have e1 : (mks (behH h a))[k + (h.lg.length - k)]'(by omega) = (mks h)[k + (h.lg.length - k)]'(by omega) := by
      simp only [mks_beh]
      rw [List.getElem_append_left (by omega)]
    rw [e1]
    exact List.getElem_mem _
  · rw [List.getElem_drop]
    exact p.at _ (by omega)
theorem Part.atLast {h : Hy} (c : List Tx) : ∃ hj : h.lg.length < (mks (behH h c)).length, (mks (behH h c))[h.lg.length] = lastH h := by
  have hml := mks_len h
  obtain ⟨h1, h2⟩ := lastH_mks h
  have hxl : (mks (behH h c)).length = (mks h).length + c.length := by rw [mks_beh]; simp
  refine ⟨by omega, ?_⟩
  simp only [mks_beh]
  rw [List.getElem_append_left h1, h2]
def kdP (h : Hy) (b : List Tx) : Int := if (mks (behH h b)).getLast? = some (lastH h) then 1 else 2
def planC (h : Hy) (a b : List Tx) : List PV := [I (kdP h b), I (lastH h).e, I (lastH h).n, .sl 5 [], .sl 1 [], I 0, I 0, I 0, I 0, .sl 4 [], I 0, I 0, .sl 8 (txns a)]
theorem Part.make {h : Hy} {a b : List Tx} (p : Part h a b) : makeP (behH h a) (mks (behH h b)) = planC h a b := by
  have hl := p.last (k := 0) (by omega)
  simp only [List.drop_zero, Nat.sub_zero] at hl
  obtain ⟨h1, h2⟩ := Part.atLast (h := h) a
  unfold makeP
  rw [hl]
  have e1 : (mks (behH h a)).getD h.lg.length ⟨0, 0⟩ = lastH h := by rw [List.getD_eq_getElem?_getD, List.getElem?_eq_getElem h1, h2]; rfl
  have e2 : (behH h a).lg.drop h.lg.length = a := by simp [behH]
  simp only [e1, e2]
  rfl
theorem Part.makeLow {h : Hy} {a b : List Tx} (p : Part h a b) {k : Nat} (hk : k ≤ h.lg.length) (hkx : k < (mks (behH h a)).length) : makeP (sqH (behH h a) (mks (behH h a))[k] k) (mks (behH h b)) = planC h a b := by
  have hl := p.last hk
  rw [← mks_sq p.x hkx] at hl
  obtain ⟨h1, h2⟩ := Part.atLast (h := h) a
  have hm := mks_sq p.x hkx
  unfold makeP
  rw [hl]
  have e1 : (mks (sqH (behH h a) (mks (behH h a))[k] k)).getD (h.lg.length - k) ⟨0, 0⟩ = lastH h := by
    rw [hm, List.getD_eq_getElem?_getD, List.getElem?_drop, show k + (h.lg.length - k) = h.lg.length by omega, List.getElem?_eq_getElem h1, h2]; rfl
  have e2 : (sqH (behH h a) (mks (behH h a))[k] k).lg.drop (h.lg.length - k) = a := by
    show ((h.lg ++ a).drop k).drop (h.lg.length - k) = a
    rw [List.drop_drop, show k + (h.lg.length - k) = h.lg.length by omega]
    simp
  simp only [e1, e2]
  rfl
theorem Part.grow {h : Hy} {a : List Tx} (hr : risesB (mks (behH h a)) = true) : growOk h a = true := by
  unfold growOk
  rw [follows_rises]
  obtain ⟨h1, h2⟩ := Part.atLast (h := h) a
  have hml := mks_len h
  have e : lastH h :: a.map (fun t => (⟨t.e, t.n⟩ : Zx)) = (mks (behH h a)).drop h.lg.length := by
    rw [List.drop_eq_getElem_cons h1, h2]
    congr 1
    simp only [mks_beh]
    rw [show h.lg.length + 1 = (mks h).length by omega]
    simp
  rw [e]
  exact pw_rises ((rises_pw hr).sublist (List.drop_sublist _ _))
theorem Part.done {h : Hy} {a b : List Tx} (p : Part h a b) : doH (behH h b) (kdP h b) (lastH h) a = (behH h a, 0) := by
  have hg := Part.grow p.x
  obtain ⟨h1, h2⟩ := Part.atLast (h := h) b
  have hml := mks_len h
  have hyl : (mks (behH h b)).length = (mks h).length + b.length := by rw [mks_beh]; simp
  unfold kdP
  by_cases o : (mks (behH h b)).getLast? = some (lastH h)
  · rw [if_pos o]
    have hb : b.length = 0 := by
      by_cases hb0 : b.length = 0
      · exact hb0
      · exfalso
        have hz := List.pairwise_iff_getElem.1 (rises_pw p.y) h.lg.length ((mks (behH h b)).length - 1) h1 (by omega) (by omega)
        rw [List.getLast?_eq_getElem?, List.getElem?_eq_getElem (by omega), Option.some.injEq] at o
        rw [o, h2] at hz
        exact zlt_irr _ hz
    obtain rfl := List.length_eq_zero_iff.1 hb
    have e : behH h [] = h := by simp [behH]
    rw [e]
    simp only [doH, show ¬ ((1 : Int) = 2 ∧ plc (lastH h) (mks h) 0 = none) from fun h => by omega, show ¬ (1 : Int) = 2 by omega, if_false, hg, if_true]
    rfl
  · rw [if_neg o]
    have hp : plc (lastH h) (mks (behH h b)) 0 = some h.lg.length := by
      have := plc_at (mks (behH h b)) 0 h.lg.length h1 (rises_pw p.y)
      rw [h2] at this
      simpa using this
    have hu : uptoH (behH h b) (lastH h) = h := by
      unfold uptoH
      rw [hp]
      simp [behH]
    simp only [doH, hp, reduceCtorEq, and_false, if_false, if_true, hu, hg]
    rfl
theorem kdP_or (h : Hy) (b : List Tx) : kdP h b = 1 ∨ kdP h b = 2 := by unfold kdP; split <;> simp
theorem OkH.beh {h : Hy} {a : List Tx} (hn : near16 h) (ha : near16 (hyA a)) : OkH (behH h a) := by
  have k1 := OkH.of hn
  have k2 := OkH.of ha
  obtain ⟨h1, h2, h3⟩ := hn
  obtain ⟨a1, a2, a3⟩ := ha
  refine ⟨k1.ns, k1.ss, k1.c, ?_, fun t ht => ?_, ?_⟩
  · have : a.length ≤ 90 := a1
    simp [behH]; omega
  · rcases List.mem_append.1 ht with h' | h'
    · exact k1.ps t h'
    · exact k2.ps t h'
  · have key : ∀ l : List Tx, (l.map fun t => t.ps.length).sum ≤ (l.map wT).sum := by
      intro l
      induction l with
      | nil => simp
      | cons t l ih => simp only [List.map_cons, List.sum_cons]; unfold wT at *; omega
    have b1 := key h.lg
    have b2 := key a
    unfold wH at h3 a3
    have a3' : (a.map wT).sum ≤ 300 := by
      have : (hyA a).lg = a := rfl
      rw [this] at a3
      omega
    show ((h.lg ++ a).map fun t => t.ps.length).sum ≤ 1000
    rw [List.map_append, List.sum_append]
    omega
end Go.Proofs.Ytegoihognjpcjaa


/- Histories: the law HistoryOne. -/
namespace Go.Proofs.Ytegoihognjpcjaa
set_option linter.unusedSimpArgs false
set_option linter.unusedVariables false
open Go Go.Av
attribute [local simp] Try.T1 Try.T2 Try.T3 Try.T4 Try.T5 Try.T9 Try.T12 Try.T15 Try.T16 Try.T17 Try.T21 Try.T22 Try.T23 Try.T25 Try.T26 Try.T28 Try.T30 Try.T31 Try.T33 Try.T34 Try.T35 Try.T36 Try.T37 Try.T38 Try.T40 Try.T42 Try.T43 Try.T44 Try.T45 Try.T46 Try.T48 Try.T49 Try.T50 Try.T51 Try.T52 Try.T53 Try.T54 Try.T55 Try.T56 Try.T57 Try.T58 Try.T59 Try.T60 Try.T61 Try.T62 Try.T64 Try.T66 Try.T67 Try.T68 Try.T69 Try.T70 Try.T71 Try.T72 Try.T73 Try.T74 Try.T75 Try.T76 Try.T77 Try.T78 Try.T80 Try.T81 Try.T82 Try.T83 Try.T84 Try.T85 Try.T86 Try.T88 Try.T89 Try.T90 Try.T91 Try.T92 Try.T93 Try.T94 Try.T95 Try.T96 Try.T97 Try.T98 Try.T99 Try.T100 Try.T101 Try.T102 Try.T103 Try.T104 Try.T105 Try.T106 Try.T107 Try.T108 Try.T109 Try.T110 Try.T111 Try.T112 Try.T113 Try.T116 Try.T119 Try.T120 Try.T123 Try.T124
attribute [local irreducible] Go.Av.CallK Go.Av.CallE Go.Av.CallQ Go.Av.CallF Go.Av.CallR Go.Av.CallH Go.Av.Con
theorem OkH.sq {x : Hy} (hk : OkH x) (h1 : x.im.ns.length ≤ 300) (h2 : x.im.ss.length ≤ 300) (h3 : psum x.lg ≤ 600) (z : Zx) (k : Nat) : OkH (sqH x z k) := by
  have hp := psum_filter (fun t => decide (zcmp t.e t.n z.e z.n ≤ 0)) x.lg
  have hf : Fits x.im (psum (upL z x.lg) + 999000) := by
    refine ⟨?_, ?_, by have := hk.c; unfold okC; omega⟩
    · unfold upL; omega
    · unfold upL; omega
  have hg := allS_fits (n := 999000) (upL z x.lg) hf fun t ht => hk.okT t (List.mem_filter.1 ht).1
  have hc := (nsOf_ok hk (l := upL z x.lg) fun t ht => (List.mem_filter.1 ht).1).2
  unfold nsOf at hc
  rw [now_cfg (upL z x.lg) (ns0 x) x.im rfl] at hc
  refine ⟨?_, ?_, hc, ?_, fun t ht => hk.ps t (List.mem_of_mem_drop ht), ?_⟩
  · have := hg.ns; show (allS x.im (upL z x.lg)).ns.length ≤ 1000; omega
  · have := hg.ss; show (allS x.im (upL z x.lg)).ss.length ≤ 1000; omega
  · have := hk.lg; simp [sqH]; omega
  · have p2 : psum (x.lg.drop k) ≤ psum x.lg := by
      conv => rhs; rw [← List.take_append_drop k x.lg]
      unfold psum
      simp only [List.map_append, List.sum_append]; omega
    show psum (x.lg.drop k) ≤ 1000
    omega
theorem beh_psum {h : Hy} {a : List Tx} (hn : near16 h) (ha : near16 (hyA a)) : psum (behH h a).lg ≤ 600 := by
  obtain ⟨h1, h2, h3⟩ := hn
  obtain ⟨a1, a2, a3⟩ := ha
  have key : ∀ l : List Tx, (l.map fun t => t.ps.length).sum ≤ (l.map wT).sum := by
    intro l
    induction l with
    | nil => simp
    | cons t l ih => simp only [List.map_cons, List.sum_cons]; unfold wT at *; omega
  have b1 := key h.lg
  have b2 := key a
  unfold wH at h3 a3
  have : (hyA a).lg = a := rfl
  rw [this] at a3
  show ((h.lg ++ a).map fun t => t.ps.length).sum ≤ 600
  rw [List.map_append, List.sum_append]
  omega
set_option maxHeartbeats 16000000 in
set_option maxRecDepth 4000 in
theorem historyOne_con (h : Hy) (a b : List Tx) (c : Int) (hs : SmallH h) (hsa : SmallH (hyA a)) (hsb : SmallH (hyA b)) : ACon Try.prog 3 [.p (.agg h.cells), .p (.agg [.sl 8 (txns a), .sl 8 (txns b)]), .p (I c)] (.p (B true)) := by
  have cf := far16_con h hs
  have cfa := far16_con (hyA a) hsa
  have cfb := far16_con (hyA b) hsb
  have ca := awake16
  simp only [hyA, Hy.cells, zns, ints, mbs, List.map_nil] at cfa cfb
  change ACon _ _ _ (.p (B (decide (¬ near16 (hyA a))))) at cfa
  change ACon _ _ _ (.p (B (decide (¬ near16 (hyA b))))) at cfb
  by_cases hnr : near16 h
  rotate_left
  · rw [decide_eq_true hnr] at cf
    clear cfa cfb
    unfold Hy.cells at *
    refine wBody Try.tab Try.mixed Try.func3 rfl rfl Try.ntmps3 (by simp) (by simp) fun Q hr hn => ?_
    repeat' first | (refine CallE.pure (cf) rfl ?_) | (refine CallE.lent (cf) rfl ?_) | (refine CallF.pure (cf) rfl ?_) | (refine CallF.lent (cf) rfl ?_) | (refine CallE.own (cf) ?_) | (refine CallH.pure (cf) rfl ?_) | (refine CallH.lent (cf) rfl ?_) | (refine CallH.own (cf) ?_) | (refine CallE.pure (ca) rfl ?_) | (refine CallE.lent (ca) rfl ?_) | (refine CallF.pure (ca) rfl ?_) | (refine CallF.lent (ca) rfl ?_) | (refine CallE.own (ca) ?_) | (refine CallH.pure (ca) rfl ?_) | (refine CallH.lent (ca) rfl ?_) | (refine CallH.own (ca) ?_) | (refine hK _ ?_; clear hK) | (refine hK _ _ ?_; clear hK) | (clear hK; refine hK _ ?_; clear hK) | (clear hK; clear hK; refine hK _ ?_; clear hK) | (clear hK; clear hK; clear hK; refine hK _ ?_; clear hK) | (clear hK; clear hK; clear hK; clear hK; refine hK _ ?_; clear hK) | (refine wSeq fun K hK => ?_) | ((first | refine wReg ?_ | refine wDrwQ rfl (by kernel_rfl) ?_ | refine wDrwI ?_ | refine wDrw (by kernel_rfl) ?_); simp only [List.map_cons, List.map_nil, strip]) | ((first | refine wIs fun K hK => ?_ | refine wOs fun K hK => ?_ | refine wQs fun K hK => ?_ | refine CallK_plain ?_ | refine CallQ_plain ?_ | refine CallR_plain ?_ | refine wCond ?_); simp) | (refine wIn ?_; refine And.intro (by kernel_rfl) ?_; try simp only [thenA_n]) | (first | refine wBlock ?_ | refine wScope ?_) | ((first | refine wRet ?_ | refine wExit ?_ | refine wSkip ?_); try simp) | ((first | refine wLabel ?_ | refine wOn ?_ | refine wQn ?_); try simp only [thenA_n])
    all_goals apply hr
    all_goals simp [Try.f3]
  rw [decide_eq_false (not_not_intro hnr)] at cf
  by_cases hna : near16 (hyA a)
  rotate_left
  · rw [decide_eq_true hna] at cfa
    clear cfb
    unfold Hy.cells at cf ⊢
    refine wBody Try.tab Try.mixed Try.func3 rfl rfl Try.ntmps3 (by simp) (by simp) fun Q hr hn => ?_
    repeat' first | (refine CallE.pure (cf) rfl ?_) | (refine CallE.lent (cf) rfl ?_) | (refine CallF.pure (cf) rfl ?_) | (refine CallF.lent (cf) rfl ?_) | (refine CallE.own (cf) ?_) | (refine CallH.pure (cf) rfl ?_) | (refine CallH.lent (cf) rfl ?_) | (refine CallH.own (cf) ?_) | (refine CallE.pure (cfa) rfl ?_) | (refine CallE.lent (cfa) rfl ?_) | (refine CallF.pure (cfa) rfl ?_) | (refine CallF.lent (cfa) rfl ?_) | (refine CallE.own (cfa) ?_) | (refine CallH.pure (cfa) rfl ?_) | (refine CallH.lent (cfa) rfl ?_) | (refine CallH.own (cfa) ?_) | (refine CallE.pure (ca) rfl ?_) | (refine CallE.lent (ca) rfl ?_) | (refine CallF.pure (ca) rfl ?_) | (refine CallF.lent (ca) rfl ?_) | (refine CallE.own (ca) ?_) | (refine CallH.pure (ca) rfl ?_) | (refine CallH.lent (ca) rfl ?_) | (refine CallH.own (ca) ?_) | (refine hK _ ?_; clear hK) | (refine hK _ _ ?_; clear hK) | (clear hK; refine hK _ ?_; clear hK) | (clear hK; clear hK; refine hK _ ?_; clear hK) | (clear hK; clear hK; clear hK; refine hK _ ?_; clear hK) | (clear hK; clear hK; clear hK; clear hK; refine hK _ ?_; clear hK) | (refine wSeq fun K hK => ?_) | ((first | refine wReg ?_ | refine wDrwQ rfl (by kernel_rfl) ?_ | refine wDrwI ?_ | refine wDrw (by kernel_rfl) ?_); simp only [List.map_cons, List.map_nil, strip]) | ((first | refine wIs fun K hK => ?_ | refine wOs fun K hK => ?_ | refine wQs fun K hK => ?_ | refine CallK_plain ?_ | refine CallQ_plain ?_ | refine CallR_plain ?_ | refine wCond ?_); simp) | (refine wIn ?_; refine And.intro (by kernel_rfl) ?_; try simp only [thenA_n]) | (first | refine wBlock ?_ | refine wScope ?_) | ((first | refine wRet ?_ | refine wExit ?_ | refine wSkip ?_); try simp) | ((first | refine wLabel ?_ | refine wOn ?_ | refine wQn ?_); try simp only [thenA_n])
    all_goals apply hr
    all_goals simp [Try.f3]
  rw [decide_eq_false (not_not_intro hna)] at cfa
  by_cases hnb : near16 (hyA b)
  rotate_left
  · rw [decide_eq_true hnb] at cfb
    unfold Hy.cells at cf ⊢
    refine wBody Try.tab Try.mixed Try.func3 rfl rfl Try.ntmps3 (by simp) (by simp) fun Q hr hn => ?_
    repeat' first | (refine CallE.pure (cf) rfl ?_) | (refine CallE.lent (cf) rfl ?_) | (refine CallF.pure (cf) rfl ?_) | (refine CallF.lent (cf) rfl ?_) | (refine CallE.own (cf) ?_) | (refine CallH.pure (cf) rfl ?_) | (refine CallH.lent (cf) rfl ?_) | (refine CallH.own (cf) ?_) | (refine CallH.pure cfa ?_) | (refine CallE.pure (cfa) rfl ?_) | (refine CallE.lent (cfa) rfl ?_) | (refine CallF.pure (cfa) rfl ?_) | (refine CallF.lent (cfa) rfl ?_) | (refine CallE.own (cfa) ?_) | (refine CallH.pure (cfa) rfl ?_) | (refine CallH.lent (cfa) rfl ?_) | (refine CallH.own (cfa) ?_) | (refine CallE.pure (cfb) rfl ?_) | (refine CallE.lent (cfb) rfl ?_) | (refine CallF.pure (cfb) rfl ?_) | (refine CallF.lent (cfb) rfl ?_) | (refine CallE.own (cfb) ?_) | (refine CallH.pure (cfb) rfl ?_) | (refine CallH.lent (cfb) rfl ?_) | (refine CallH.own (cfb) ?_) | (refine CallE.pure (ca) rfl ?_) | (refine CallE.lent (ca) rfl ?_) | (refine CallF.pure (ca) rfl ?_) | (refine CallF.lent (ca) rfl ?_) | (refine CallE.own (ca) ?_) | (refine CallH.pure (ca) rfl ?_) | (refine CallH.lent (ca) rfl ?_) | (refine CallH.own (ca) ?_) | (refine hK _ ?_; clear hK) | (refine hK _ _ ?_; clear hK) | (clear hK; refine hK _ ?_; clear hK) | (clear hK; clear hK; refine hK _ ?_; clear hK) | (clear hK; clear hK; clear hK; refine hK _ ?_; clear hK) | (clear hK; clear hK; clear hK; clear hK; refine hK _ ?_; clear hK) | (refine wSeq fun K hK => ?_) | ((first | refine wReg ?_ | refine wDrwQ rfl (by kernel_rfl) ?_ | refine wDrwI ?_ | refine wDrw (by kernel_rfl) ?_); simp only [List.map_cons, List.map_nil, strip]) | ((first | refine wIs fun K hK => ?_ | refine wOs fun K hK => ?_ | refine wQs fun K hK => ?_ | refine CallK_plain ?_ | refine CallQ_plain ?_ | refine CallR_plain ?_ | refine wCond ?_); simp) | (refine wIn ?_; refine And.intro (by kernel_rfl) ?_; try simp only [thenA_n]) | (first | refine wBlock ?_ | refine wScope ?_) | ((first | refine wRet ?_ | refine wExit ?_ | refine wSkip ?_); try simp) | ((first | refine wLabel ?_ | refine wOn ?_ | refine wQn ?_); try simp only [thenA_n])
    all_goals apply hr
    all_goals simp [Try.f3]
  rw [decide_eq_false (not_not_intro hnb)] at cfb
  have hk := OkH.of hnr
  have oka := OkH.of hna
  have okb := OkH.of hnb
  have okx := OkH.beh hnr hna
  have oky := OkH.beh hnr hnb
  have hal : a.length ≤ 1000 := oka.lg
  have hbl : b.length ≤ 1000 := okb.lg
  have hlg := hk.lg
  have hml := mks_len h
  have hH : h.cells = [.sl 5 (zns h.im.ns), .sl 1 (ints h.im.ss), I h.im.nx, I h.im.c.ep, I h.im.c.n, I h.im.c.kind, .sl 4 (mbs h.im.c.ms), I h.im.ae, I h.im.an, .sl 8 (txns h.lg)] := rfl
  rw [hH] at cf ⊢
  refine wBody Try.tab Try.mixed Try.func3 rfl rfl Try.ntmps3 (by simp) (by simp) fun Q hr hn => ?_
  repeat' first | (refine CallE.pure (cf) rfl ?_) | (refine CallE.lent (cf) rfl ?_) | (refine CallF.pure (cf) rfl ?_) | (refine CallF.lent (cf) rfl ?_) | (refine CallE.own (cf) ?_) | (refine CallH.pure (cf) rfl ?_) | (refine CallH.lent (cf) rfl ?_) | (refine CallH.own (cf) ?_) | (refine CallE.pure (cfa) rfl ?_) | (refine CallE.lent (cfa) rfl ?_) | (refine CallF.pure (cfa) rfl ?_) | (refine CallF.lent (cfa) rfl ?_) | (refine CallE.own (cfa) ?_) | (refine CallH.pure (cfa) rfl ?_) | (refine CallH.lent (cfa) rfl ?_) | (refine CallH.own (cfa) ?_) | (refine CallE.pure (cfb) rfl ?_) | (refine CallE.lent (cfb) rfl ?_) | (refine CallF.pure (cfb) rfl ?_) | (refine CallF.lent (cfb) rfl ?_) | (refine CallE.own (cfb) ?_) | (refine CallH.pure (cfb) rfl ?_) | (refine CallH.lent (cfb) rfl ?_) | (refine CallH.own (cfb) ?_) | (refine hK _ ?_; clear hK) | (refine hK _ _ ?_; clear hK) | (clear hK; refine hK _ ?_; clear hK) | (clear hK; clear hK; refine hK _ ?_; clear hK) | (clear hK; clear hK; clear hK; refine hK _ ?_; clear hK) | (clear hK; clear hK; clear hK; clear hK; refine hK _ ?_; clear hK) | (refine wSeq fun K hK => ?_) | ((first | refine wReg ?_ | refine wDrwQ rfl (by kernel_rfl) ?_ | refine wDrwI ?_ | refine wDrw (by kernel_rfl) ?_); simp only [List.map_cons, List.map_nil, strip]) | ((first | refine wIs fun K hK => ?_ | refine wOs fun K hK => ?_ | refine wQs fun K hK => ?_ | refine CallK_plain ?_ | refine CallQ_plain ?_ | refine CallR_plain ?_ | refine wCond ?_); simp) | (refine wIn ?_; refine And.intro (by kernel_rfl) ?_; try simp only [thenA_n]) | (first | refine wBlock ?_ | refine wScope ?_) | ((first | refine wRet ?_ | refine wExit ?_ | refine wSkip ?_); try simp) | ((first | refine wLabel ?_ | refine wOn ?_ | refine wQn ?_); try simp only [thenA_n])
  refine wLoop (fun N st => ∃ k, k + N = a.length ∧ (∀ j (hj : j < a.length), j < k → ∀ s ∈ b, ¬ (a[j].e = s.e ∧ a[j].n = s.n)) ∧ st.s 2 = .p (I c) ∧ st.s 3 = .ptr 3 0 ∧ st.b 3 = some (.box 33 [.p (.sl 5 (zns h.im.ns)), .p (.sl 1 (ints h.im.ss)), .p (I h.im.nx), .p (I h.im.c.ep), .p (I h.im.c.n), .p (I h.im.c.kind), .p (.sl 4 (mbs h.im.c.ms)), .p (I h.im.ae), .p (I h.im.an), .p (.sl 8 (txns h.lg))]) ∧ st.s 4 = .ptr 4 0 ∧ st.b 4 = some (.box 34 [.p (.sl 8 (txns a)), .p (.sl 8 (txns b))]) ∧ st.s 39 = .p (.sl 8 (txns a)) ∧ st.s 40 = .p (I a.length) ∧ st.s 41 = .p (I k)) a.length ⟨0, by simp⟩ fun K N st hL ⟨k, hkN, hD, g2, g3, b3, g4, b4, g39, g40, g41⟩ => ?_
  by_cases hlt : k < a.length
  · have hw := wrapS k _ hlt (by omega)
    have he := txns_get hlt
    repeat' first | (refine hK _ ?_; clear hK) | (refine hK _ _ ?_; clear hK) | (clear hK; refine hK _ ?_; clear hK) | (clear hK; clear hK; refine hK _ ?_; clear hK) | (clear hK; clear hK; clear hK; refine hK _ ?_; clear hK) | (clear hK; clear hK; clear hK; clear hK; refine hK _ ?_; clear hK) | (refine wSeq fun K hK => ?_) | ((first | refine wReg ?_ | refine wDrwQ rfl (by kernel_rfl) ?_ | refine wDrwI ?_ | refine wDrw (by kernel_rfl) ?_); simp only [List.map_cons, List.map_nil, strip]) | ((first | refine wIs fun K hK => ?_ | refine wOs fun K hK => ?_ | refine wQs fun K hK => ?_ | refine CallK_plain ?_ | refine CallQ_plain ?_ | refine CallR_plain ?_ | refine wCond ?_); simp [g2, g3, b3, g4, b4, g39, g40, g41, hlt, he]) | (refine wIn ?_; refine And.intro (by kernel_rfl) ?_; try simp only [thenA_n]) | (first | refine wBlock ?_ | refine wScope ?_) | ((first | refine wRet ?_ | refine wExit ?_ | refine wSkip ?_); try simp) | ((first | refine wLabel ?_ | refine wOn ?_ | refine wQn ?_); try simp only [thenA_n])
    refine wLoop (fun N' st => ∃ q, q + N' = b.length ∧ (∀ i (hi : i < b.length), i < q → ¬ (a[k].e = b[i].e ∧ a[k].n = b[i].n)) ∧ st.s 2 = .p (I c) ∧ st.s 3 = .ptr 3 0 ∧ st.b 3 = some (.box 33 [.p (.sl 5 (zns h.im.ns)), .p (.sl 1 (ints h.im.ss)), .p (I h.im.nx), .p (I h.im.c.ep), .p (I h.im.c.n), .p (I h.im.c.kind), .p (.sl 4 (mbs h.im.c.ms)), .p (I h.im.ae), .p (I h.im.an), .p (.sl 8 (txns h.lg))]) ∧ st.s 4 = .ptr 4 0 ∧ st.b 4 = some (.box 34 [.p (.sl 8 (txns a)), .p (.sl 8 (txns b))]) ∧ st.s 39 = .p (.sl 8 (txns a)) ∧ st.s 40 = .p (I a.length) ∧ st.s 41 = .p (I k) ∧ st.s 8 = .ptr 8 0 ∧ st.b 8 = some (.box 40 [.p (I a[k].e), .p (I a[k].n), .p (I a[k].s), .p (I a[k].x), .p (I a[k].r), .p (I a[k].b), .p (SB a[k].m), .p (.sl 11 (pts a[k].ps))]) ∧ st.s 46 = .p (.sl 8 (txns b)) ∧ st.s 47 = .p (I b.length) ∧ st.s 48 = .p (I q)) b.length ⟨0, by simp [g2, g3, b3, g4, b4, g39, g40, g41]⟩ fun K' N' st hL' ⟨q, hqN, hE, e2, e3, d3, e4, d4, e39, e40, e41, e8, d8, e46, e47, e48⟩ => ?_
    by_cases hlq : q < b.length
    · have hwq := wrapS q _ hlq (by omega)
      have heq := txns_get hlq
      by_cases o : a[k].e = b[q].e ∧ a[k].n = b[q].n
      · obtain ⟨o1, o2⟩ := o
        replace o1 : (a[k].e = b[q].e) = True := eq_true o1
        replace o2 : (a[k].n = b[q].n) = True := eq_true o2
        repeat' first | (refine CallE.pure (ca) rfl ?_) | (refine CallE.lent (ca) rfl ?_) | (refine CallF.pure (ca) rfl ?_) | (refine CallF.lent (ca) rfl ?_) | (refine CallE.own (ca) ?_) | (refine CallH.pure (ca) rfl ?_) | (refine CallH.lent (ca) rfl ?_) | (refine CallH.own (ca) ?_) | (refine hK _ ?_; clear hK) | (refine hK _ _ ?_; clear hK) | (clear hK; refine hK _ ?_; clear hK) | (clear hK; clear hK; refine hK _ ?_; clear hK) | (clear hK; clear hK; clear hK; refine hK _ ?_; clear hK) | (clear hK; clear hK; clear hK; clear hK; refine hK _ ?_; clear hK) | (refine wSeq fun K hK => ?_) | ((first | refine wReg ?_ | refine wDrwQ rfl (by kernel_rfl) ?_ | refine wDrwI ?_ | refine wDrw (by kernel_rfl) ?_); simp only [List.map_cons, List.map_nil, strip]) | ((first | refine wIs fun K hK => ?_ | refine wOs fun K hK => ?_ | refine wQs fun K hK => ?_ | refine CallK_plain ?_ | refine CallQ_plain ?_ | refine CallR_plain ?_ | refine wCond ?_); simp [e2, e3, d3, e4, d4, e39, e40, e41, e8, d8, e46, e47, e48, hlq, heq, o1, o2]) | (refine wIn ?_; refine And.intro (by kernel_rfl) ?_; try simp only [thenA_n]) | (first | refine wBlock ?_ | refine wScope ?_) | ((first | refine wRet ?_ | refine wExit ?_ | refine wSkip ?_); try simp) | ((first | refine wLabel ?_ | refine wOn ?_ | refine wQn ?_); try simp only [thenA_n])
        all_goals apply hr
        all_goals simp [Try.f3]
      · repeat' first | (refine hK _ ?_; clear hK) | (refine hK _ _ ?_; clear hK) | (clear hK; refine hK _ ?_; clear hK) | (clear hK; clear hK; refine hK _ ?_; clear hK) | (clear hK; clear hK; clear hK; refine hK _ ?_; clear hK) | (clear hK; clear hK; clear hK; clear hK; refine hK _ ?_; clear hK) | (refine wSeq fun K hK => ?_) | ((first | refine wReg ?_ | refine wDrwQ rfl (by kernel_rfl) ?_ | refine wDrwI ?_ | refine wDrw (by kernel_rfl) ?_); simp only [List.map_cons, List.map_nil, strip]) | ((first | refine wIs fun K hK => ?_ | refine wOs fun K hK => ?_ | refine wQs fun K hK => ?_ | refine CallK_plain ?_ | refine CallQ_plain ?_ | refine CallR_plain ?_ | refine wCond ?_); simp [e2, e3, d3, e4, d4, e39, e40, e41, e8, d8, e46, e47, e48, hlq, heq, hwq, o]) | (refine wIn ?_; refine And.intro (by kernel_rfl) ?_; try simp only [thenA_n]) | (first | refine wBlock ?_ | refine wScope ?_) | ((first | refine wRet ?_ | refine wExit ?_ | refine wSkip ?_); try simp) | ((first | refine wLabel ?_ | refine wOn ?_ | refine wQn ?_); try simp only [thenA_n]) | (intro _)
        all_goals first | exact o | skip
        refine hL' _ (N' - 1) (by omega) ⟨q + 1, by omega, fun i hi hiq => ?_, ?_⟩
        · by_cases hi' : i = q
          · subst hi'; exact o
          · exact hE i hi (by omega)
        · simp [e2, e3, d3, e4, d4, e39, e40, e41, e8, d8, e46, e47, hwq]
    · repeat' first | (refine hK _ ?_; clear hK) | (refine hK _ _ ?_; clear hK) | (clear hK; refine hK _ ?_; clear hK) | (clear hK; clear hK; refine hK _ ?_; clear hK) | (clear hK; clear hK; clear hK; refine hK _ ?_; clear hK) | (clear hK; clear hK; clear hK; clear hK; refine hK _ ?_; clear hK) | (refine wSeq fun K hK => ?_) | ((first | refine wReg ?_ | refine wDrwQ rfl (by kernel_rfl) ?_ | refine wDrwI ?_ | refine wDrw (by kernel_rfl) ?_); simp only [List.map_cons, List.map_nil, strip]) | ((first | refine wIs fun K hK => ?_ | refine wOs fun K hK => ?_ | refine wQs fun K hK => ?_ | refine CallK_plain ?_ | refine CallQ_plain ?_ | refine CallR_plain ?_ | refine wCond ?_); simp [e2, e3, d3, e4, d4, e39, e40, e41, e8, d8, e46, e47, e48, hlq, hw]) | (refine wIn ?_; refine And.intro (by kernel_rfl) ?_; try simp only [thenA_n]) | (first | refine wBlock ?_ | refine wScope ?_) | ((first | refine wRet ?_ | refine wExit ?_ | refine wSkip ?_); try simp) | ((first | refine wLabel ?_ | refine wOn ?_ | refine wQn ?_); try simp only [thenA_n])
      refine hL _ (N - 1) (by omega) ⟨k + 1, by omega, fun j hj hjk s hs => ?_, ?_⟩
      · by_cases hj' : j = k
        · subst hj'
          obtain ⟨i, hi, rfl⟩ := List.getElem_of_mem hs
          exact hE i hi (by omega)
        · exact hD j hj (by omega) s hs
      · simp [e2, e3, d3, e4, d4, e39, e40, hw]
  have hDD : ∀ t ∈ a, ∀ s ∈ b, ¬ (t.e = s.e ∧ t.n = s.n) := fun t ht s hs => by
    obtain ⟨j, hj, rfl⟩ := List.getElem_of_mem ht
    exact hD j hj (by omega) s hs
  clear hD cf cfa cfb
  have c1 := grow16_con h a hk hal oka.ps
  have c2 := grow16_con h b hk hbl okb.ps
  unfold grown at c1 c2
  rw [hH] at c1 c2
  cases hga : growOk h a
  · rw [hga] at c1
    cases hgb : growOk h b
    all_goals
      rw [hgb] at c2
      simp only [Bool.false_eq_true, if_false, if_true] at c1 c2
      simp only [hyA, Hy.cells, zns, ints, mbs, txns, List.map_nil] at c1 c2
      try simp only [Hy.cells] at c2
    · generalize h.im.ns = qns at *
      repeat' first | (refine CallE.pure (c1) rfl ?_) | (refine CallE.lent (c1) rfl ?_) | (refine CallF.pure (c1) rfl ?_) | (refine CallF.lent (c1) rfl ?_) | (refine CallE.own (c1) ?_) | (refine CallH.pure (c1) rfl ?_) | (refine CallH.lent (c1) rfl ?_) | (refine CallH.own (c1) ?_) | (refine CallE.pure (c2) rfl ?_) | (refine CallE.lent (c2) rfl ?_) | (refine CallF.pure (c2) rfl ?_) | (refine CallF.lent (c2) rfl ?_) | (refine CallE.own (c2) ?_) | (refine CallH.pure (c2) rfl ?_) | (refine CallH.lent (c2) rfl ?_) | (refine CallH.own (c2) ?_) | (refine CallE.pure (ca) rfl ?_) | (refine CallE.lent (ca) rfl ?_) | (refine CallF.pure (ca) rfl ?_) | (refine CallF.lent (ca) rfl ?_) | (refine CallE.own (ca) ?_) | (refine CallH.pure (ca) rfl ?_) | (refine CallH.lent (ca) rfl ?_) | (refine CallH.own (ca) ?_) | (refine hK _ ?_; clear hK) | (refine hK _ _ ?_; clear hK) | (clear hK; refine hK _ ?_; clear hK) | (clear hK; clear hK; refine hK _ ?_; clear hK) | (clear hK; clear hK; clear hK; refine hK _ ?_; clear hK) | (clear hK; clear hK; clear hK; clear hK; refine hK _ ?_; clear hK) | (refine wSeq fun K hK => ?_) | ((first | refine wReg ?_ | refine wDrwQ rfl (by kernel_rfl) ?_ | refine wDrwI ?_ | refine wDrw (by kernel_rfl) ?_); simp only [List.map_cons, List.map_nil, strip]) | ((first | refine wIs fun K hK => ?_ | refine wOs fun K hK => ?_ | refine wQs fun K hK => ?_ | refine CallK_plain ?_ | refine CallQ_plain ?_ | refine CallR_plain ?_ | refine wCond ?_); simp [g2, g3, b3, g4, b4, g39, g40, g41, hlt, zns, ints, mbs, txns]) | (refine wIn ?_; refine And.intro (by kernel_rfl) ?_; try simp only [thenA_n]) | (first | refine wBlock ?_ | refine wScope ?_) | ((first | refine wRet ?_ | refine wExit ?_ | refine wSkip ?_); try simp) | ((first | refine wLabel ?_ | refine wOn ?_ | refine wQn ?_); try simp only [thenA_n])
      all_goals apply hr
      all_goals simp [Try.f3]
    · repeat' first | (refine CallE.pure (c1) rfl ?_) | (refine CallE.lent (c1) rfl ?_) | (refine CallF.pure (c1) rfl ?_) | (refine CallF.lent (c1) rfl ?_) | (refine CallE.own (c1) ?_) | (refine CallH.pure (c1) rfl ?_) | (refine CallH.lent (c1) rfl ?_) | (refine CallH.own (c1) ?_) | (refine CallE.pure (c2) rfl ?_) | (refine CallE.lent (c2) rfl ?_) | (refine CallF.pure (c2) rfl ?_) | (refine CallF.lent (c2) rfl ?_) | (refine CallE.own (c2) ?_) | (refine CallH.pure (c2) rfl ?_) | (refine CallH.lent (c2) rfl ?_) | (refine CallH.own (c2) ?_) | (refine CallE.pure (ca) rfl ?_) | (refine CallE.lent (ca) rfl ?_) | (refine CallF.pure (ca) rfl ?_) | (refine CallF.lent (ca) rfl ?_) | (refine CallE.own (ca) ?_) | (refine CallH.pure (ca) rfl ?_) | (refine CallH.lent (ca) rfl ?_) | (refine CallH.own (ca) ?_) | (refine hK _ ?_; clear hK) | (refine hK _ _ ?_; clear hK) | (clear hK; refine hK _ ?_; clear hK) | (clear hK; clear hK; refine hK _ ?_; clear hK) | (clear hK; clear hK; clear hK; refine hK _ ?_; clear hK) | (clear hK; clear hK; clear hK; clear hK; refine hK _ ?_; clear hK) | (refine wSeq fun K hK => ?_) | ((first | refine wReg ?_ | refine wDrwQ rfl (by kernel_rfl) ?_ | refine wDrwI ?_ | refine wDrw (by kernel_rfl) ?_); simp only [List.map_cons, List.map_nil, strip]) | ((first | refine wIs fun K hK => ?_ | refine wOs fun K hK => ?_ | refine wQs fun K hK => ?_ | refine CallK_plain ?_ | refine CallQ_plain ?_ | refine CallR_plain ?_ | refine wCond ?_); simp [g2, g3, b3, g4, b4, g39, g40, g41, hlt, zns, ints, mbs, txns]) | (refine wIn ?_; refine And.intro (by kernel_rfl) ?_; try simp only [thenA_n]) | (first | refine wBlock ?_ | refine wScope ?_) | ((first | refine wRet ?_ | refine wExit ?_ | refine wSkip ?_); try simp) | ((first | refine wLabel ?_ | refine wOn ?_ | refine wQn ?_); try simp only [thenA_n])
      all_goals apply hr
      all_goals simp [Try.f3]
  have cx : ACon Try.prog 9 [.p (.agg (behH h a).cells)] (.p (B (risesB (mks (behH h a))))) := check16_con (behH h a) okx.lg
  have cy : ACon Try.prog 9 [.p (.agg (behH h b).cells)] (.p (B (risesB (mks (behH h b))))) := check16_con (behH h b) oky.lg
  rw [hga] at c1
  cases hgb : growOk h b
  · rw [hgb] at c2
    simp only [Bool.false_eq_true, if_false, if_true] at c1 c2
    simp only [hyA, Hy.cells, zns, ints, mbs, txns, List.map_nil] at c2
    simp only [Hy.cells] at c1
    repeat' first | (refine CallE.pure (c1) rfl ?_) | (refine CallE.lent (c1) rfl ?_) | (refine CallF.pure (c1) rfl ?_) | (refine CallF.lent (c1) rfl ?_) | (refine CallE.own (c1) ?_) | (refine CallH.pure (c1) rfl ?_) | (refine CallH.lent (c1) rfl ?_) | (refine CallH.own (c1) ?_) | (refine CallE.pure (c2) rfl ?_) | (refine CallE.lent (c2) rfl ?_) | (refine CallF.pure (c2) rfl ?_) | (refine CallF.lent (c2) rfl ?_) | (refine CallE.own (c2) ?_) | (refine CallH.pure (c2) rfl ?_) | (refine CallH.lent (c2) rfl ?_) | (refine CallH.own (c2) ?_) | (refine CallE.pure (ca) rfl ?_) | (refine CallE.lent (ca) rfl ?_) | (refine CallF.pure (ca) rfl ?_) | (refine CallF.lent (ca) rfl ?_) | (refine CallE.own (ca) ?_) | (refine CallH.pure (ca) rfl ?_) | (refine CallH.lent (ca) rfl ?_) | (refine CallH.own (ca) ?_) | (refine hK _ ?_; clear hK) | (refine hK _ _ ?_; clear hK) | (clear hK; refine hK _ ?_; clear hK) | (clear hK; clear hK; refine hK _ ?_; clear hK) | (clear hK; clear hK; clear hK; refine hK _ ?_; clear hK) | (clear hK; clear hK; clear hK; clear hK; refine hK _ ?_; clear hK) | (refine wSeq fun K hK => ?_) | ((first | refine wReg ?_ | refine wDrwQ rfl (by kernel_rfl) ?_ | refine wDrwI ?_ | refine wDrw (by kernel_rfl) ?_); simp only [List.map_cons, List.map_nil, strip]) | ((first | refine wIs fun K hK => ?_ | refine wOs fun K hK => ?_ | refine wQs fun K hK => ?_ | refine CallK_plain ?_ | refine CallQ_plain ?_ | refine CallR_plain ?_ | refine wCond ?_); simp [g2, g3, b3, g4, b4, g39, g40, g41, hlt, zns, ints, mbs, txns]) | (refine wIn ?_; refine And.intro (by kernel_rfl) ?_; try simp only [thenA_n]) | (first | refine wBlock ?_ | refine wScope ?_) | ((first | refine wRet ?_ | refine wExit ?_ | refine wSkip ?_); try simp) | ((first | refine wLabel ?_ | refine wOn ?_ | refine wQn ?_); try simp only [thenA_n])
    all_goals apply hr
    all_goals simp [Try.f3]
  rw [hgb] at c2
  simp only [if_true] at c1 c2
  simp only [Hy.cells] at c1 c2
  cases hrx : risesB (mks (behH h a))
  · rw [hrx] at cx
    simp only [behH, Hy.cells] at cx
    clear cy
    repeat' first | (refine CallH.pure c1 ?_; clear c1) | (refine CallE.pure (c1) rfl ?_) | (refine CallE.lent (c1) rfl ?_) | (refine CallF.pure (c1) rfl ?_) | (refine CallF.lent (c1) rfl ?_) | (refine CallE.own (c1) ?_) | (refine CallH.pure (c1) rfl ?_) | (refine CallH.lent (c1) rfl ?_) | (refine CallH.own (c1) ?_) | (refine CallE.pure (c2) rfl ?_) | (refine CallE.lent (c2) rfl ?_) | (refine CallF.pure (c2) rfl ?_) | (refine CallF.lent (c2) rfl ?_) | (refine CallE.own (c2) ?_) | (refine CallH.pure (c2) rfl ?_) | (refine CallH.lent (c2) rfl ?_) | (refine CallH.own (c2) ?_) | (refine CallE.pure (cx) rfl ?_) | (refine CallE.lent (cx) rfl ?_) | (refine CallF.pure (cx) rfl ?_) | (refine CallF.lent (cx) rfl ?_) | (refine CallE.own (cx) ?_) | (refine CallH.pure (cx) rfl ?_) | (refine CallH.lent (cx) rfl ?_) | (refine CallH.own (cx) ?_) | (refine CallE.pure (ca) rfl ?_) | (refine CallE.lent (ca) rfl ?_) | (refine CallF.pure (ca) rfl ?_) | (refine CallF.lent (ca) rfl ?_) | (refine CallE.own (ca) ?_) | (refine CallH.pure (ca) rfl ?_) | (refine CallH.lent (ca) rfl ?_) | (refine CallH.own (ca) ?_) | (refine hK _ ?_; clear hK) | (refine hK _ _ ?_; clear hK) | (clear hK; refine hK _ ?_; clear hK) | (clear hK; clear hK; refine hK _ ?_; clear hK) | (clear hK; clear hK; clear hK; refine hK _ ?_; clear hK) | (clear hK; clear hK; clear hK; clear hK; refine hK _ ?_; clear hK) | (refine wSeq fun K hK => ?_) | ((first | refine wReg ?_ | refine wDrwQ rfl (by kernel_rfl) ?_ | refine wDrwI ?_ | refine wDrw (by kernel_rfl) ?_); simp only [List.map_cons, List.map_nil, strip]) | ((first | refine wIs fun K hK => ?_ | refine wOs fun K hK => ?_ | refine wQs fun K hK => ?_ | refine CallK_plain ?_ | refine CallQ_plain ?_ | refine CallR_plain ?_ | refine wCond ?_); simp [g2, g3, b3, g4, b4, g39, g40, g41, hlt]) | (refine wIn ?_; refine And.intro (by kernel_rfl) ?_; try simp only [thenA_n]) | (first | refine wBlock ?_ | refine wScope ?_) | ((first | refine wRet ?_ | refine wExit ?_ | refine wSkip ?_); try simp) | ((first | refine wLabel ?_ | refine wOn ?_ | refine wQn ?_); try simp only [thenA_n])
    all_goals apply hr
    all_goals simp [Try.f3]
  rw [hrx] at cx
  cases hry : risesB (mks (behH h b))
  · rw [hry] at cy
    simp only [behH, Hy.cells] at cx cy
    repeat' first | (refine CallE.pure (c1) rfl ?_) | (refine CallE.lent (c1) rfl ?_) | (refine CallF.pure (c1) rfl ?_) | (refine CallF.lent (c1) rfl ?_) | (refine CallE.own (c1) ?_) | (refine CallH.pure (c1) rfl ?_) | (refine CallH.lent (c1) rfl ?_) | (refine CallH.own (c1) ?_) | (refine CallE.pure (c2) rfl ?_) | (refine CallE.lent (c2) rfl ?_) | (refine CallF.pure (c2) rfl ?_) | (refine CallF.lent (c2) rfl ?_) | (refine CallE.own (c2) ?_) | (refine CallH.pure (c2) rfl ?_) | (refine CallH.lent (c2) rfl ?_) | (refine CallH.own (c2) ?_) | (refine CallE.pure (cx) rfl ?_) | (refine CallE.lent (cx) rfl ?_) | (refine CallF.pure (cx) rfl ?_) | (refine CallF.lent (cx) rfl ?_) | (refine CallE.own (cx) ?_) | (refine CallH.pure (cx) rfl ?_) | (refine CallH.lent (cx) rfl ?_) | (refine CallH.own (cx) ?_) | (refine CallE.pure (cy) rfl ?_) | (refine CallE.lent (cy) rfl ?_) | (refine CallF.pure (cy) rfl ?_) | (refine CallF.lent (cy) rfl ?_) | (refine CallE.own (cy) ?_) | (refine CallH.pure (cy) rfl ?_) | (refine CallH.lent (cy) rfl ?_) | (refine CallH.own (cy) ?_) | (refine CallE.pure (ca) rfl ?_) | (refine CallE.lent (ca) rfl ?_) | (refine CallF.pure (ca) rfl ?_) | (refine CallF.lent (ca) rfl ?_) | (refine CallE.own (ca) ?_) | (refine CallH.pure (ca) rfl ?_) | (refine CallH.lent (ca) rfl ?_) | (refine CallH.own (ca) ?_) | (refine hK _ ?_; clear hK) | (refine hK _ _ ?_; clear hK) | (clear hK; refine hK _ ?_; clear hK) | (clear hK; clear hK; refine hK _ ?_; clear hK) | (clear hK; clear hK; clear hK; refine hK _ ?_; clear hK) | (clear hK; clear hK; clear hK; clear hK; refine hK _ ?_; clear hK) | (refine wSeq fun K hK => ?_) | ((first | refine wReg ?_ | refine wDrwQ rfl (by kernel_rfl) ?_ | refine wDrwI ?_ | refine wDrw (by kernel_rfl) ?_); simp only [List.map_cons, List.map_nil, strip]) | ((first | refine wIs fun K hK => ?_ | refine wOs fun K hK => ?_ | refine wQs fun K hK => ?_ | refine CallK_plain ?_ | refine CallQ_plain ?_ | refine CallR_plain ?_ | refine wCond ?_); simp [g2, g3, b3, g4, b4, g39, g40, g41, hlt]) | (refine wIn ?_; refine And.intro (by kernel_rfl) ?_; try simp only [thenA_n]) | (first | refine wBlock ?_ | refine wScope ?_) | ((first | refine wRet ?_ | refine wExit ?_ | refine wSkip ?_); try simp) | ((first | refine wLabel ?_ | refine wOn ?_ | refine wQn ?_); try simp only [thenA_n])
    all_goals apply hr
    all_goals simp [Try.f3]
  rw [hry] at cy
  have P : Part h a b := ⟨hrx, hry, hDD⟩
  obtain ⟨k', hkl, hk1, hk2⟩ := u64_modH c (h.lg.length + 1) (by omega) (by omega)
  have hwl : IntKind.i64.wrap ((h.lg.length : Int) + 1) = ((h.lg.length + 1 : Nat) : Int) := by rw [wrap_id] <;> omega
  push_cast at hk1 hk2 hwl
  have hkM : k' < (mks h).length := by omega
  have hxl : (mks (behH h a)).length = (mks h).length + a.length := by rw [mks_beh]; simp
  have hyl : (mks (behH h b)).length = (mks h).length + b.length := by rw [mks_beh]; simp
  have hkX : k' < (mks (behH h a)).length := by omega
  have hzz : (mks (behH h a))[k'] = (mks h)[k'] := by
    simp only [mks_beh]
    rw [List.getElem_append_left hkM]
  have d1 := marks16_con h hk.lg
  have hna1 := hnr.1
  have hna3 := hnr.2.2
  unfold wH at hna3
  have oksq := OkH.sq okx (by simp only [behH]; omega) (by simp only [behH]; omega) (beh_psum hnr hna) (mks (behH h a))[k'] k'
  have d2 := squash16_con (behH h a) (mks (behH h a))[k'] k' okx (by rw [plc_at _ 0 k' hkX (rises_pw hrx)]; simp)
  have d3 := marks_con (behH h b) oky.lg
  have d4 := make_con (sqH (behH h a) (mks (behH h a))[k'] k') (mks (behH h b)) oksq (by omega)
  have d5 := make_con (behH h a) (mks (behH h b)) okx (by omega)
  rw [P.makeLow (by omega) hkX] at d4
  rw [P.make] at d5
  have d6 := doPlan_con (behH h b) (kdP h b) (lastH h) [.sl 5 [], .sl 1 [], I 0, I 0, I 0, I 0, .sl 4 [], I 0, I 0] a (kdP_or h b) ⟨[], [], 0, 0, 0, 0, [], 0, 0, rfl⟩ oky hal oka.ps
  rw [P.done] at d6
  have d7 := same16H_con (behH h a) (by have := okx.lg; omega)
  unfold planC at d4 d5
  simp only [List.cons_append, List.nil_append] at d6
  have hk3 : ¬ kdP h b = 3 := by have := kdP_or h b; omega
  have hg1 := zxs_get hkM
  rw [hzz] at d2 d4
  generalize hz1 : (mks h)[k'] = zk at *
  generalize sqH (behH h a) zk k' = X at *
  generalize mks (behH h b) = MY at *
  generalize mks (behH h a) = MX at *
  generalize mks h = M at *
  generalize kdP h b = kd at *
  generalize lastH h = zl at *
  simp only [behH, Hy.cells] at cx cy d1 d2 d3 d4 d5 d6 d7
  generalize h.lg ++ a = LA at *
  generalize h.lg ++ b = LB at *
  repeat' first | (refine CallE.pure (c1) rfl ?_) | (refine CallE.lent (c1) rfl ?_) | (refine CallF.pure (c1) rfl ?_) | (refine CallF.lent (c1) rfl ?_) | (refine CallE.own (c1) ?_) | (refine CallH.pure (c1) rfl ?_) | (refine CallH.lent (c1) rfl ?_) | (refine CallH.own (c1) ?_) | (refine CallE.pure (c2) rfl ?_) | (refine CallE.lent (c2) rfl ?_) | (refine CallF.pure (c2) rfl ?_) | (refine CallF.lent (c2) rfl ?_) | (refine CallE.own (c2) ?_) | (refine CallH.pure (c2) rfl ?_) | (refine CallH.lent (c2) rfl ?_) | (refine CallH.own (c2) ?_) | (refine CallE.pure (cx) rfl ?_) | (refine CallE.lent (cx) rfl ?_) | (refine CallF.pure (cx) rfl ?_) | (refine CallF.lent (cx) rfl ?_) | (refine CallE.own (cx) ?_) | (refine CallH.pure (cx) rfl ?_) | (refine CallH.lent (cx) rfl ?_) | (refine CallH.own (cx) ?_) | (refine CallE.pure (cy) rfl ?_) | (refine CallE.lent (cy) rfl ?_) | (refine CallF.pure (cy) rfl ?_) | (refine CallF.lent (cy) rfl ?_) | (refine CallE.own (cy) ?_) | (refine CallH.pure (cy) rfl ?_) | (refine CallH.lent (cy) rfl ?_) | (refine CallH.own (cy) ?_) | (refine CallE.pure (d1) rfl ?_) | (refine CallE.lent (d1) rfl ?_) | (refine CallF.pure (d1) rfl ?_) | (refine CallF.lent (d1) rfl ?_) | (refine CallE.own (d1) ?_) | (refine CallH.pure (d1) rfl ?_) | (refine CallH.lent (d1) rfl ?_) | (refine CallH.own (d1) ?_) | (refine CallE.pure (d2) rfl ?_) | (refine CallE.lent (d2) rfl ?_) | (refine CallF.pure (d2) rfl ?_) | (refine CallF.lent (d2) rfl ?_) | (refine CallE.own (d2) ?_) | (refine CallH.pure (d2) rfl ?_) | (refine CallH.lent (d2) rfl ?_) | (refine CallH.own (d2) ?_) | (refine CallE.pure (d3) rfl ?_) | (refine CallE.lent (d3) rfl ?_) | (refine CallF.pure (d3) rfl ?_) | (refine CallF.lent (d3) rfl ?_) | (refine CallE.own (d3) ?_) | (refine CallH.pure (d3) rfl ?_) | (refine CallH.lent (d3) rfl ?_) | (refine CallH.own (d3) ?_) | (refine CallE.pure (d4) rfl ?_) | (refine CallE.lent (d4) rfl ?_) | (refine CallF.pure (d4) rfl ?_) | (refine CallF.lent (d4) rfl ?_) | (refine CallE.own (d4) ?_) | (refine CallH.pure (d4) rfl ?_) | (refine CallH.lent (d4) rfl ?_) | (refine CallH.own (d4) ?_) | (refine CallE.pure (d5) rfl ?_) | (refine CallE.lent (d5) rfl ?_) | (refine CallF.pure (d5) rfl ?_) | (refine CallF.lent (d5) rfl ?_) | (refine CallE.own (d5) ?_) | (refine CallH.pure (d5) rfl ?_) | (refine CallH.lent (d5) rfl ?_) | (refine CallH.own (d5) ?_) | (refine CallE.pure (d6) rfl ?_) | (refine CallE.lent (d6) rfl ?_) | (refine CallF.pure (d6) rfl ?_) | (refine CallF.lent (d6) rfl ?_) | (refine CallE.own (d6) ?_) | (refine CallH.pure (d6) rfl ?_) | (refine CallH.lent (d6) rfl ?_) | (refine CallH.own (d6) ?_) | (refine CallE.pure (d7) rfl ?_) | (refine CallE.lent (d7) rfl ?_) | (refine CallF.pure (d7) rfl ?_) | (refine CallF.lent (d7) rfl ?_) | (refine CallE.own (d7) ?_) | (refine CallH.pure (d7) rfl ?_) | (refine CallH.lent (d7) rfl ?_) | (refine CallH.own (d7) ?_) | (refine CallE.pure (ca) rfl ?_) | (refine CallE.lent (ca) rfl ?_) | (refine CallF.pure (ca) rfl ?_) | (refine CallF.lent (ca) rfl ?_) | (refine CallE.own (ca) ?_) | (refine CallH.pure (ca) rfl ?_) | (refine CallH.lent (ca) rfl ?_) | (refine CallH.own (ca) ?_) | (refine hK _ ?_; clear hK) | (refine hK _ _ ?_; clear hK) | (clear hK; refine hK _ ?_; clear hK) | (clear hK; clear hK; refine hK _ ?_; clear hK) | (clear hK; clear hK; clear hK; refine hK _ ?_; clear hK) | (clear hK; clear hK; clear hK; clear hK; refine hK _ ?_; clear hK) | (refine wSeq fun K hK => ?_) | ((first | refine wReg ?_ | refine wDrwQ rfl (by kernel_rfl) ?_ | refine wDrwI ?_ | refine wDrw (by kernel_rfl) ?_); simp only [List.map_cons, List.map_nil, strip]) | ((first | refine wIs fun K hK => ?_ | refine wOs fun K hK => ?_ | refine wQs fun K hK => ?_ | refine CallK_plain ?_ | refine CallQ_plain ?_ | refine CallR_plain ?_ | refine wCond ?_); simp [g2, g3, b3, g4, b4, g39, g40, g41, hlt, hk1, hk2, hwl, hkM, hg1, hz1, hk3]) | (refine wIn ?_; refine And.intro (by kernel_rfl) ?_; try simp only [thenA_n]) | (first | refine wBlock ?_ | refine wScope ?_) | ((first | refine wRet ?_ | refine wExit ?_ | refine wSkip ?_); try simp) | ((first | refine wLabel ?_ | refine wOn ?_ | refine wQn ?_); try simp only [thenA_n])
  all_goals apply hr
  all_goals simp [Try.f3]
end Go.Proofs.Ytegoihognjpcjaa

