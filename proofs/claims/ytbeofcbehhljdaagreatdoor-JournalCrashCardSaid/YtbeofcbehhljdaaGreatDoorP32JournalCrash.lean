/- Texts that the proof needs: JNP JNQ JNA JNB. -/
import Derived.Test.YtbeofcbehhljdaaGreatDoorP31JournalCrash
namespace Go.Proofs.YtbeofcbehhljdaaGreatDoor
set_option linter.unusedSimpArgs false
set_option linter.unusedVariables false
set_option maxRecDepth 8000
open Go Go.Av
theorem lgA_isN (g : Int) : isN (lgA g) = true := by unfold lgA; split <;> decide
theorem lgA_ir (g : Int) : Op.bytesLess (lgA g) (lgA g) = false := by unfold lgA; split <;> decide
theorem fi1 (g : Int) (x : List UInt8) (s : Int) : fiF [⟨lgA g, x, s⟩] (lgA g) = 0 := by simp [fiF, List.findIdx_cons, lgA_ir]
theorem is1 (g : Int) (x : List UInt8) (s : Int) : isF [⟨lgA g, x, s⟩] (lgA g) = true := by unfold isF; rw [fi1]; simp
theorem g1 (g : Int) (x : List UInt8) (s : Int) : gF [⟨lgA g, x, s⟩] (lgA g) = ⟨lgA g, x, s⟩ := by unfold gF; rw [fi1]; rfl
theorem is0 (nm : List UInt8) : isF [] nm = false := rfl
theorem app0 (g cap fu : Int) (b : List UInt8) (h : (b.length : Int) <= cap) : app ⟨[], cap, fu, false⟩ (lgA g) b = (⟨[⟨lgA g, b, 0⟩], cap, burnF fu, burnN fu false⟩, burnE fu) := by
 unfold app
 rw [if_neg (by simp), if_pos (lgA_isN g), if_neg (by simp only [usedL]; simp; omega)]
 rfl
theorem app1 (g cap fu : Int) (x b : List UInt8) (s : Int) (h : (x.length : Int) + b.length <= cap) : app ⟨[⟨lgA g, x, s⟩], cap, fu, false⟩ (lgA g) b = (⟨[⟨lgA g, x ++ b, s⟩], cap, burnF fu, burnN fu false⟩, burnE fu) := by
 unfold app
 rw [if_neg (by simp), if_pos (lgA_isN g), if_neg (by simp only [usedL]; simp; omega)]
 unfold putF
 rw [if_pos (is1 g x s), fi1, g1]; rfl
theorem syn1 (g cap fu : Int) (x : List UInt8) (s : Int) : chg ⟨[⟨lgA g, x, s⟩], cap, fu, false⟩ (lgA g) synF (fun _ => 0) = if fu = 1 then (⟨[⟨lgA g, x, s⟩], cap, burnF fu, burnN fu false⟩, 9) else (⟨[⟨lgA g, x, x.length⟩], cap, burnF fu, false⟩, 0) := by
 unfold chg brn synF
 rw [if_neg (by simp), if_pos (is1 g x s), fi1, g1]; simp
theorem cut1 (g cap fu : Int) (x : List UInt8) (s : Int) (z : Nat) (hz : z <= x.length) (hf : ¬ fu = 1) : chg ⟨[⟨lgA g, x, s⟩], cap, fu, false⟩ (lgA g) (fun f => cutF f z) (fun f => cutE f z) = (⟨[⟨lgA g, x.take z, z⟩], cap, burnF fu, false⟩, 0) := by
 have h : ¬ ((z : Int) < 0 \/ (x.length : Int) < z) := by omega
 unfold chg cutF cutE
 rw [if_neg (by simp), if_pos (is1 g x s), fi1, g1]
 simp only [if_neg h, if_neg hf, if_true, List.set_cons_zero, Int.toNat_natCast]
structure Lg (g cap : Int) (d : Dk) (all : List (List PV)) (s : Nat) : Prop where
 cap : d.cap = cap
 fu : d.fuse <= 9223372036854775807
 fs : (d.fs = [] /\ all = []) \/ d.fs = [⟨lgA g, fsT all, ((fsT (all.take s)).length : Int)⟩]
 s : s <= all.length
theorem Lg.okK {g cap : Int} {d : Dk} {all : List (List PV)} {s : Nat} (h : Lg g cap d all s) (hz : (fsT all).length <= 2000000) : OkK d /\ d.fs.length <= 1000 /\ usedL d.fs <= 1000000000 := by
 rcases h.fs with ⟨h1, -⟩ | h1
 ·exact ⟨⟨⟨by rw [h1]; simp, by rw [h1]; simp⟩, h.fu⟩, by rw [h1]; simp, by rw [h1]; simp [usedL]⟩
 ·refine ⟨⟨⟨by rw [h1]; simp, by rw [h1]; simp; omega⟩, h.fu⟩, by rw [h1]; simp, by rw [h1]; simp [usedL]; omega⟩
theorem burnF_bd {f : Int} (h : f <= 9223372036854775807) : burnF f <= 9223372036854775807 := by unfold burnF; split <;> omega
theorem fsT_take_app (a b : List (List PV)) : (a ++ b).take a.length = a := by simp
theorem Lg.app {g cap : Int} {d : Dk} {all x : List (List PV)} (h : Lg g cap d all all.length) (hd : d.dn = false) (hc : ((fsT (all ++ x)).length : Int) <= cap) :
 Lg g cap (Go.Proofs.YtbeofcbehhljdaaGreatDoor.app d (lgA g) (fsT x)).1 (all ++ x) all.length /\ (Go.Proofs.YtbeofcbehhljdaaGreatDoor.app d (lgA g) (fsT x)).1.fs = [⟨lgA g, fsT (all ++ x), ((fsT all).length : Int)⟩] /\ (Go.Proofs.YtbeofcbehhljdaaGreatDoor.app d (lgA g) (fsT x)).2 = burnE d.fuse /\ (Go.Proofs.YtbeofcbehhljdaaGreatDoor.app d (lgA g) (fsT x)).1.dn = burnN d.fuse false /\ (Go.Proofs.YtbeofcbehhljdaaGreatDoor.app d (lgA g) (fsT x)).1.fuse = burnF d.fuse := by
 obtain ⟨h1, h2, h3, h4⟩ := h
 obtain ⟨fs, cp, fu, dn⟩ := d
 simp only at h1 h2 h3 hd
 subst h1 hd
 rw [fsT_app, List.length_append] at hc
 rw [List.take_length] at h3
 rcases h3 with ⟨rfl, rfl⟩ | rfl
 ·rw [app0 g _ _ _ (by simp [fsT_nil] at hc; exact hc)]
  refine ⟨⟨rfl, burnF_bd h2, .inr (by simp [fsT_nil]), by simp⟩, by simp [fsT_nil], rfl, rfl, rfl⟩
 ·rw [app1 g _ _ _ _ _ (by omega)]
  refine ⟨⟨rfl, burnF_bd h2, .inr (by rw [fsT_take_app, fsT_app]), by simp⟩, by rw [fsT_app], rfl, rfl, rfl⟩
theorem Lg.add {g cap : Int} {d : Dk} {all x : List (List PV)} (h : Lg g cap d all all.length) (hd : d.dn = false) (hc : ((fsT (all ++ x)).length : Int) <= cap) :
 ((addM d g x).2 = 0 /\ Lg g cap (addM d g x).1 (all ++ x) (all ++ x).length /\ (addM d g x).1.dn = false /\ (d.fuse = 0 -> (addM d g x).1.fuse = 0)) \/ (¬ (addM d g x).2 = 0 /\ Lg g cap (addM d g x).1 (all ++ x) all.length /\ ¬ d.fuse = 0) := by
 unfold addM
 by_cases h0 : x.length = 0
 ·rw [if_pos h0]
  obtain rfl := List.length_eq_zero_iff.1 h0
  rw [List.append_nil]
  exact .inl ⟨rfl, h, hd, fun h => h⟩
 ·rw [if_neg h0]
  obtain ⟨h1, h2, h3, h4, h5⟩ := h.app hd hc
  generalize Go.Proofs.YtbeofcbehhljdaaGreatDoor.app d (lgA g) (fsT x) = r at *
  obtain ⟨⟨fs, cp, fu, dn⟩, e⟩ := r
  simp only at *
  obtain ⟨q1, q2, q3, q4⟩ := h1
  simp only at q1 q2 q3 q4
  subst q1 h2 h3 h4 h5
  unfold burnE burnN
  by_cases f1 : d.fuse = 1
  ·rw [if_pos f1, if_neg (by decide)]
   refine .inr ⟨by simp, ⟨rfl, q2, .inr (by rw [fsT_take_app]), q4⟩, by omega⟩
  ·rw [if_neg f1, if_pos rfl, if_neg f1, syn1]
   by_cases f2 : burnF d.fuse = 1
   ·rw [if_pos f2]
    refine .inr ⟨by simp, ⟨rfl, burnF_bd q2, .inr (by rw [fsT_take_app]), q4⟩, fun h => ?_⟩
    rw [h] at f2; exact absurd f2 (by decide)
   ·rw [if_neg f2]
    refine .inl ⟨rfl, ⟨rfl, burnF_bd q2, .inr (by rw [List.take_length]), by simp⟩, rfl, fun h => ?_⟩
    rw [h]; exact (by decide : burnF (burnF 0) = 0)
theorem fs_mono (l : List (List PV)) {a b : Nat} (h : a <= b) : (fsT (l.take a)).length <= (fsT (l.take b)).length := by
 have := fsT_takeLe (l.take b) a
 rw [List.take_take, Nat.min_eq_left h] at this
 exact this
theorem Lg.crash {g cap : Int} {d : Dk} {all : List (List PV)} {s : Nat} (h : Lg g cap d all s) (ks : List Int) :
 (∀ f ∈ d.fs, 0 <= f.s /\ f.s <= f.d.length) /\ (staD (crsh d ks)).cap = cap /\ (staD (crsh d ks)).fuse = 0 /\ (staD (crsh d ks)).dn = false ∧
 (((staD (crsh d ks)).fs = [] /\ all = []) \/ ∃ c : Nat, (fsT (all.take s)).length <= c /\ c <= (fsT all).length /\ (staD (crsh d ks)).fs = [⟨lgA g, (fsT all).take c, (c : Int)⟩]) := by
 obtain ⟨h1, h2, h3, h4⟩ := h
 obtain ⟨fs, cp, fu, dn⟩ := d
 simp only at h1 h2 h3
 subst h1
 have hle := fsT_takeLe all s
 rcases h3 with ⟨rfl, rfl⟩ | rfl
 ·exact ⟨by simp, rfl, rfl, rfl, .inl ⟨rfl, rfl⟩⟩
 ·refine ⟨by simp; omega, rfl, rfl, rfl, .inr ?_⟩
  have h5 := crS_le ⟨lgA g, fsT all, ((fsT (all.take s)).length : Int)⟩ (ks.getD 0 0)
  have h6 : ((fsT (all.take s)).length : Int) <= crS ⟨lgA g, fsT all, ((fsT (all.take s)).length : Int)⟩ (ks.getD 0 0) := by unfold crS; split <;> simp only <;> omega
  obtain ⟨c, hc⟩ : ∃ c : Nat, crS ⟨lgA g, fsT all, ((fsT (all.take s)).length : Int)⟩ (ks.getD 0 0) = c := ⟨_, (Int.toNat_of_nonneg h5.1).symm⟩
  simp only at h5
  rw [hc] at h5 h6
  refine ⟨c, by omega, by omega, ?_⟩
  show crL _ ks = _
  unfold crL
  simp only [List.mapIdx_cons, List.mapIdx_nil, Nat.zero_add]
  unfold crF
  rw [hc, Int.toNat_natCast]
theorem gMb_of {r : List PV} (h : fMb.ok r) : gMb r := h
theorem gPt_of {r : List PV} (h : fPt.ok r) (hw : wgPt r <= 150) : gPt r := by
 obtain ⟨k, p, d, v, kd, o, s, e, n, c, m, rfl, a1, a2, a3, a4⟩ := fPt_sh h
 have hW : wgPt [I k, SB p, SB d, I v, I kd, I o, I s, I e, I n, I c, .sl 4 m] = m.length + (p.length + d.length) / 30 := by simp [wgPt]
 rw [hW] at hw
 obtain ⟨b1, b2, b3, b4, b5⟩ := a2
 obtain ⟨c1, c2, c3⟩ := a4
 have hm := (fl_ok c3).2
 exact ⟨a1, ⟨⟨p, rfl, by omega⟩, ⟨d, rfl, by omega⟩, b3, b4, b5⟩, a3, c1, c2, ⟨m, rfl, by omega, fun r hr => gMb_of (hm r hr)⟩⟩
theorem gTx_of {r : List PV} (h : fTx.ok r) (hw : wgTx r <= 150) : gTx r := by
 obtain ⟨x0, x1, x2, x3, x4, x5, ma, ps, rfl, a1, a2, a3, a4, a5, a6, a7⟩ := fTx_sh h
 have hW : wgTx [I x0, I x1, I x2, I x3, I x4, I x5, SB ma, .sl 11 ps] = 1 + ps.length + ma.length / 30 + (ps.map wgPt).sum := by simp [wgTx]
 rw [hW] at hw
 have hp := (fl_ok a7).2
 exact ⟨a1, a2, a3, a4, a5, ⟨ma, rfl, by omega⟩, ⟨ps, rfl, by omega, fun q hq => gPt_of (hp q hq) (by have := mem_sum wgPt hq; omega)⟩⟩
theorem wgTx_pos {r : List PV} (h : fTx.ok r) : 1 <= wgTx r := by
 obtain ⟨x0, x1, x2, x3, x4, x5, ma, ps, rfl, -⟩ := fTx_sh h
 simp only [wgTx]; omega
theorem szTx_le2 {r : List PV} (h : fTx.ok r) : fTx.sz r <= 150 * wgTx r := by
 obtain ⟨e, n, s, x, er, b, ma, ps, rfl, -, -, -, -, -, -, hp⟩ := fTx_sh h
 obtain ⟨hl, ho⟩ := fl_ok hp
 have h1 : (ps.map fPt.sz).sum <= (ps.map fun r => 150 + 40 * wgPt r).sum := sum_le fun r hr => szPt_le (ho r hr)
 rw [sum_add (fun _ => 150) (fun r => 40 * wgPt r), sum_const, sum_mul] at h1
 show (10 + 10) + (10 + (10 + (10 + (10 + (foS.sz [SB ma] + (fl 11 fPt).sz [.sl 11 ps]))))) <= 150 * (1 + lenP (.sl 11 ps) + lenP (SB ma) / 30 + ((rowsP (.sl 11 ps)).map wgPt).sum)
 rw [fl_sz]
 simp only [foS_sz, lenP_SB, lenP_sl, rowsP_sl]; omega
theorem enTx_le {r : List PV} (h : fTx.ok r) : (fTx.en r).length <= 150 * wgTx r := Nat.le_trans (fTx_L.szl r h) (szTx_le2 h)
theorem GdT_of {r : List PV} (h : fTx.ok r) (hw : wgTx r <= 150) : GdT r := ⟨gTx_of h (by omega), by have := enTx_le h; omega⟩
theorem frmTx_le {r : List PV} (h : fTx.ok r) (hw : wgTx r <= 150) : (frm (fTx.en r)).length <= 164 * wgTx r := by
 have h1 := enTx_le h
 have h2 := wgTx_pos h
 have h3 := enc_len10 (zz_lt (zz_len (fTx.en r).length (by omega)))
 rw [frm_len]; omega
theorem fsT_le : ∀ {l : List (List PV)}, (∀ r ∈ l, fTx.ok r) -> (∀ r ∈ l, wgTx r <= 150) -> (fsT l).length <= 164 * wgL l
 | [], _, _ => by simp [fsT_nil]
 | r :: l, h, hw => by
  have h1 := fsT_le (fun x hx => h x (List.mem_cons_of_mem _ hx)) (fun x hx => hw x (List.mem_cons_of_mem _ hx))
  have h2 := frmTx_le (h r List.mem_cons_self) (hw r List.mem_cons_self)
  rw [fsT_cons, List.length_append]
  unfold wgL at *
  simp only [List.map_cons, List.sum_cons]; omega
theorem jends_at : ∀ (l : List (List PV)) (a n : Nat), n <= l.length -> (a :: jends a l)[n]? = some (a + (fsT (l.take n)).length)
 | l, a, 0, _ => by simp [fsT_nil]
 | [], a, n + 1, h => by simp at h
 | r :: l, a, n + 1, h => by
  rw [List.getElem?_cons_succ, jends, jends_at l _ n (by simpa using h), List.take_succ_cons, fsT_cons, List.length_append, Nat.add_assoc]
theorem readE1 (g : Int) {d : Dk} {x : List UInt8} {s : Int} (hd : d.dn = false) (hf : d.fs = [⟨lgA g, x, s⟩]) : readE d (lgA g) = 0 /\ readB d (lgA g) = x := by
 unfold readE readB
 rw [hf, hd, g1, is1]; simp
theorem readE0 (g : Int) {d : Dk} (hd : d.dn = false) (hf : d.fs = []) : readE d (lgA g) = 6 := by
 unfold readE
 rw [hf, hd, is0]; simp
theorem Lg.read {g cap : Int} (hg : g = 3 \/ g = 1) {d : Dk} {al : List (List PV)} {s : Nat} (h : Lg g cap d al s) (hd : d.dn = false) (ho : ∀ r ∈ al, GdT r) (hz : (fsT al).length <= 2000000) :
 ACon Tryz.prog 11 [.p (.agg d.cells), .p (I g)] (.tup [.p (.sl 8 al), .p (I 0), .p (I 0)]) := by
 obtain ⟨hk, -, -⟩ := h.okK hz
 rcases h.fs with ⟨h1, rfl⟩ | h1
 ·exact read14N_con d g hg hk.toOkD (readE0 g hd h1)
 ·obtain ⟨e1, e2⟩ := readE1 g hd h1
  have := read14_con d g hg hk.toOkD (fsT al) al (jends 0 al) (fsT al).length e1 e2 (by omega) (jl_all al ho) (by have := jends_last al 0; rw [Nat.zero_add] at this; exact this) (Nat.le_refl _)
  rw [Nat.sub_self] at this
  exact this
theorem cutL {g cap : Int} (hg : g = 3 \/ g = 1) {d : Dk} {al : List (List PV)} {c n : Nat} (hcap : d.cap = cap) (hfu : d.fuse = 0) (hd : d.dn = false) (hf : d.fs = [⟨lgA g, (fsT al).take c, (c : Int)⟩]) (hc : c <= (fsT al).length) (ho : ∀ r ∈ al, GdT r) (hz : (fsT al).length <= 2000000) (hal : al.length <= 100000)
 (hn : n <= al.length) (hn1 : (fsT (al.take n)).length <= c) (hn2 : n = al.length \/ c < (fsT (al.take (n + 1))).length) :
 ∃ (d2 : Dk) (rest : Int), ACon Tryz.prog 11 [.p (.agg d.cells), .p (I g)] (.tup [.p (.sl 8 (al.take n)), .p (I rest), .p (I 0)]) ∧
  ACon Tryz.prog 13 [.p (.agg d.cells), .p (I g), .p (I n)] (.tup [.p (.agg d2.cells), .p (I 0)]) /\ Lg g cap d2 (al.take n) (al.take n).length /\ d2.dn = false /\ d2.fuse = 0 := by
 have hlen : ((fsT al).take c).length = c := by rw [List.length_take]; omega
 have hk : OkK d := ⟨⟨by rw [hf]; simp, by rw [hf]; simp; omega⟩, by omega⟩
 obtain ⟨e1, e2⟩ := readE1 g hd hf
 have hj := jl_cut al ho hn hn1 hn2
 have htn : (al.take n).length = n := by rw [List.length_take]; omega
 have hat := jends_at (al.take n) 0 n (by omega)
 rw [List.take_take, Nat.min_self, Nat.zero_add] at hat
 have r1 := read14_con d g hg hk.toOkD _ _ _ _ e1 e2 (by rw [hlen]; omega) hj (by rw [htn]; exact hat) (by rw [hlen]; exact hn1)
 have r2 := keep14_con d g hg hk (by rw [hf]; simp) _ _ _ n _ e1 e2 (by rw [hlen]; omega) hj (by omega) (by omega) hat
 have htt : ((fsT al).take c).take (fsT (al.take n)).length = fsT (al.take n) := by
  rw [List.take_take, Nat.min_eq_left hn1]
  have := fsT_app (al.take n) (al.drop n)
  rw [List.take_append_drop] at this
  rw [this, List.take_left']
  rfl
 suffices hh : ∃ d2 : Dk, ACon Tryz.prog 13 [.p (.agg d.cells), .p (I g), .p (I n)] (.tup [.p (.agg d2.cells), .p (I 0)]) /\ Lg g cap d2 (al.take n) (al.take n).length /\ d2.dn = false /\ d2.fuse = 0 by
  obtain ⟨d2, hh⟩ := hh
  exact ⟨d2, _, r1, hh⟩
 unfold keepM at r2
 rw [hlen] at r2
 by_cases hzc : (fsT (al.take n)).length = c
 ·rw [if_pos hzc] at r2
  refine ⟨d, r2, ⟨hcap, by omega, .inr ?_, Nat.le_refl _⟩, hd, hfu⟩
  rw [hf, List.take_length, hzc]
  have : (fsT al).take c = fsT (al.take n) := by rw [<- htt, hzc, List.take_take, Nat.min_self]
  rw [this]
 ·rw [if_neg hzc] at r2
  obtain ⟨fs, cp, fu, dn⟩ := d
  simp only at hcap hfu hd hf
  subst hcap hfu hd hf
  have hcut := cut1 g cp 0 ((fsT al).take c) c (fsT (al.take n)).length (by rw [hlen]; exact hn1) (by decide)
  rw [hcut, htt] at r2
  exact ⟨_, r2, ⟨rfl, by show burnF 0 <= _; decide, .inr (by rw [List.take_length]), Nat.le_refl _⟩, rfl, rfl⟩
def moreT : List PV := [I 9, I 9, I 0, I 0, I 0, I 0, SB [], .sl 11 []]
theorem ok_one (a b : Int) (ha : okI a) (hb : okI b) : fTx.ok [I a, I b, I 0, I 0, I 0, I 0, SB [], .sl 11 []] := by
 have h0 : foI.ok [I 0] := ⟨0, rfl, ok0⟩
 exact ⟨⟨⟨a, rfl, ha⟩, ⟨b, rfl, hb⟩⟩, h0, h0, h0, h0, ⟨[], rfl, by simp⟩, ⟨[], rfl, by simp, by simp⟩⟩
theorem wg_one (a b : Int) : wgTx [I a, I b, I 0, I 0, I 0, I 0, SB [], .sl 11 []] = 1 := by simp [wgTx]
theorem moreT_ok : fTx.ok moreT := ok_one 9 9 ⟨by decide, by decide⟩ ⟨by decide, by decide⟩
theorem wgL_app (a b : List (List PV)) : wgL (a ++ b) = wgL a + wgL b := by simp [wgL]
theorem wgL_take (a : List (List PV)) (n : Nat) : wgL (a.take n) <= wgL a := by
 have := wgL_app (a.take n) (a.drop n)
 rw [List.take_append_drop] at this; omega
theorem wgL_mem {a : List (List PV)} {r : List PV} (h : r ∈ a) : wgTx r <= wgL a := mem_sum wgTx h
theorem wgL_len : ∀ {a : List (List PV)}, (∀ r ∈ a, fTx.ok r) -> a.length <= wgL a
 | [], _ => by simp
 | r :: a, h => by
  have h1 := wgL_len fun x hx => h x (List.mem_cons_of_mem _ hx)
  have h2 := wgTx_pos (h r List.mem_cons_self)
  unfold wgL at *
  simp only [List.length_cons, List.map_cons, List.sum_cons]; omega
theorem fsT_bd {l : List (List PV)} (h : ∀ r ∈ l, fTx.ok r) (hw : wgL l <= 150) : (fsT l).length <= 24600 := by
 have := fsT_le h fun r hr => by have := wgL_mem hr; omega
 omega
theorem gd_all {l : List (List PV)} (h : ∀ r ∈ l, fTx.ok r) (hw : wgL l <= 150) : ∀ r ∈ l, GdT r := fun r hr => GdT_of (h r hr) (by have := wgL_mem hr; omega)
theorem Lg.addC {g cap : Int} (hg : g = 3 \/ g = 1) {d : Dk} {all x : List (List PV)} (h : Lg g cap d all all.length) (hd : d.dn = false) (ho : ∀ r ∈ x, GdT r) (hxl : x.length <= 1000000) (hz : (fsT (all ++ x)).length <= 2000000) (hc : ((fsT (all ++ x)).length : Int) <= cap) :
 ACon Tryz.prog 8 [.p (.agg d.cells), .p (I g), .p (.sl 8 x)] (.tup [.p (.agg (addM d g x).1.cells), .p (I (addM d g x).2)]) := by
 have hz2 := hz
 rw [fsT_app, List.length_append] at hz2
 obtain ⟨h1, h2, h3⟩ := h.okK (by omega)
 obtain ⟨k1, -⟩ := h.app hd hc
 exact add_con d g hg x h1 h2 h3 ho hxl (by omega) (k1.okK hz).1
theorem crash_all {d : Dk} {all : List (List PV)} {s : Nat} (h : Lg 3 1048576 d all s) (ks : List Int) (hks : ks.length <= 1000000) (ho : ∀ r ∈ all, fTx.ok r) (hw : wgL all <= 150) :
 ∃ (d0 d1 d2 d3 : Dk) (m : List (List PV)) (rest : Int), ACon Tryz.prog 10 [.p (.agg d.cells), .p (.sl 1 (ints ks))] (.p (.agg d0.cells)) /\ ACon Tryz.prog 9 [.p (.agg d0.cells)] (.p (.agg d1.cells)) ∧
  ACon Tryz.prog 11 [.p (.agg d1.cells), .p (I 3)] (.tup [.p (.sl 8 m), .p (I rest), .p (I 0)]) /\ all.take m.length = m /\ s <= m.length /\ m.length <= all.length ∧
  ACon Tryz.prog 13 [.p (.agg d1.cells), .p (I 3), .p (I m.length)] (.tup [.p (.agg d2.cells), .p (I 0)]) ∧
  ACon Tryz.prog 8 [.p (.agg d2.cells), .p (I 3), .p (.sl 8 [moreT])] (.tup [.p (.agg d3.cells), .p (I 0)]) ∧
  ACon Tryz.prog 11 [.p (.agg d3.cells), .p (I 3)] (.tup [.p (.sl 8 (m ++ [moreT])), .p (I 0), .p (I 0)]) := by
 have hg := gd_all ho hw
 have hbd := fsT_bd ho hw
 have hlen := wgL_len ho
 obtain ⟨hk, -, -⟩ := h.okK (by omega)
 obtain ⟨q1, q2, q3, q4, q5⟩ := h.crash ks
 have c1 := crash13_con d ks hk.toOkD q1 hks
 have hkc : OkD (crsh d ks) := by
  refine ⟨by show (crL d.fs ks).length <= _; rw [crL_len]; exact hk.n, fun f hf => ?_⟩
  obtain ⟨i, hi, rfl⟩ := List.getElem_of_mem (show f ∈ crL d.fs ks from hf)
  rw [crL_get (by simpa using hi)]
  have := hk.d _ (List.getElem_mem (show i < d.fs.length by simpa using hi))
  unfold crF
  simp only [List.length_take]; omega
 have c2 := start13_con (crsh d ks) hkc
 suffices hh : ∃ (d2 : Dk) (m : List (List PV)) (rest : Int), ACon Tryz.prog 11 [.p (.agg (staD (crsh d ks)).cells), .p (I 3)] (.tup [.p (.sl 8 m), .p (I rest), .p (I 0)]) /\ all.take m.length = m /\ s <= m.length /\ m.length <= all.length ∧
  ACon Tryz.prog 13 [.p (.agg (staD (crsh d ks)).cells), .p (I 3), .p (I m.length)] (.tup [.p (.agg d2.cells), .p (I 0)]) /\ Lg 3 1048576 d2 m m.length /\ d2.dn = false /\ d2.fuse = 0 by
  obtain ⟨d2, m, rest, r1, r2, r3, r4, r5, r6, r7, r8⟩ := hh
  have hmo : ∀ r ∈ m ++ [moreT], fTx.ok r := fun r hr => by
   rcases List.mem_append.1 hr with hr | hr
   ·rw [<- r2] at hr; exact ho r (List.mem_of_mem_take hr)
   ·rw [List.mem_singleton] at hr; subst hr; exact moreT_ok
  have hmw : wgL m <= 150 := by rw [<- r2]; exact Nat.le_trans (wgL_take _ _) hw
  have hmm : ∀ r ∈ m ++ [moreT], wgTx r <= 150 := fun r hr => by
   rcases List.mem_append.1 hr with hr | hr
   ·have := wgL_mem hr; omega
   ·rw [List.mem_singleton] at hr; subst hr; rw [show wgTx moreT = 1 from wg_one 9 9]; omega
  have hb2 := fsT_le hmo hmm
  rw [wgL_app, show wgL [moreT] = 1 by simp [wgL, moreT, wg_one]] at hb2
  have hgm : ∀ r ∈ m ++ [moreT], GdT r := fun r hr => GdT_of (hmo r hr) (hmm r hr)
  have a1 := r6.addC (.inl rfl) r7 (fun r hr => hgm r (List.mem_append_right _ hr)) (by simp) (by omega) (by omega) (x := [moreT])
  rcases r6.add r7 (x := [moreT]) (by omega) with ⟨e1, e2, e3, e4⟩ | ⟨-, -, e⟩
  ·rw [e1] at a1
   exact ⟨_, _, d2, _, m, rest, c1, c2, r1, r2, r3, r4, r5, a1, e2.read (.inl rfl) e3 hgm (by omega)⟩
  ·exact absurd r8 e
 rcases q5 with ⟨f1, rfl⟩ | ⟨c, f1, f2, f3⟩
 ·have hs : s = 0 := by have := h.s; simpa using this
  subst hs
  have hk1 : OkD (staD (crsh d ks)) := ⟨by rw [f1]; simp, by rw [f1]; simp⟩
  exact ⟨_, [], 0, read14N_con _ 3 (.inl rfl) hk1 (readE0 3 q4 f1), by simp, by simp, by simp, keep14N_con _ 3 (.inl rfl) hk1 (by rw [f1]; simp) (readE0 3 q4 f1), ⟨q2, by omega, .inl ⟨f1, rfl⟩, by simp⟩, q4, q3⟩
 ·obtain ⟨n, n1, n2, n3⟩ := cut_at all c f2
  obtain ⟨d2, rest, k1, k2, k3, k4, k5⟩ := cutL (.inl rfl) q2 q3 q4 f3 f2 hg (by omega) (by omega) n1 n2 n3
  have htn : (all.take n).length = n := by rw [List.length_take]; omega
  refine ⟨d2, all.take n, rest, k1, by rw [htn], ?_, by omega, by rw [htn]; exact k2, k3, k4, k5⟩
  rw [htn]
  rcases n3 with n3 | n3
  ·have := h.s; omega
  ·refine Decidable.byContradiction fun hlt => ?_
   have := fs_mono all (show n + 1 <= s by omega)
   omega
end Go.Proofs.YtbeofcbehhljdaaGreatDoor
namespace Go.Proofs.YtbeofcbehhljdaaGreatDoor
set_option linter.unusedSimpArgs false
set_option linter.unusedVariables false
set_option maxRecDepth 8000
open Go Go.Av
attribute [local irreducible] Go.Av.CallK Go.Av.CallE Go.Av.CallQ Go.Av.CallF Go.Av.CallR Go.Av.CallH Go.Av.Con
def oneT : List PV := [I 1, I 1, I 0, I 0, I 0, I 0, SB [], .sl 11 []]
theorem oneT_ok : fTx.ok oneT := ok_one 1 1 ⟨by decide, by decide⟩ ⟨by decide, by decide⟩
theorem Lg.keep {g cap : Int} (hg : g = 3 \/ g = 1) {d : Dk} {al : List (List PV)} {s : Nat} (h : Lg g cap d al s) (hd : d.dn = false) (hfu : d.fuse = 0) (ho : ∀ r ∈ al, GdT r) (hz : (fsT al).length <= 2000000) (hal : al.length <= 100000) (h0 : ¬ al = []) (hs : s = al.length) {n : Nat} (hn : n <= al.length) :
 ∃ d2 : Dk, ACon Tryz.prog 13 [.p (.agg d.cells), .p (I g), .p (I n)] (.tup [.p (.agg d2.cells), .p (I 0)]) /\ Lg g cap d2 (al.take n) (al.take n).length /\ d2.dn = false := by
 subst hs
 obtain ⟨hk, h3, -⟩ := h.okK hz
 have hf := h.fs.resolve_left fun h => h0 h.2
 have hcap := h.cap
 rw [List.take_length] at hf
 obtain ⟨e1, e2⟩ := readE1 g hd hf
 have hat := jends_at al 0 n hn
 rw [Nat.zero_add] at hat
 have r2 := keep14_con d g hg hk h3 _ _ _ n _ e1 e2 (by omega) (jl_all al ho) hn (by omega) hat
 have hle := fsT_takeLe al n
 have htt : (fsT al).take (fsT (al.take n)).length = fsT (al.take n) := by
  have := fsT_app (al.take n) (al.drop n)
  rw [List.take_append_drop] at this
  rw [this, List.take_left']
  rfl
 unfold keepM at r2
 by_cases hzc : (fsT (al.take n)).length = (fsT al).length
 ·rw [if_pos hzc] at r2
  refine ⟨d, r2, ⟨hcap, by omega, .inr ?_, Nat.le_refl _⟩, hd⟩
  rw [hf, List.take_length, hzc]
  have : fsT al = fsT (al.take n) := by rw [<- htt, hzc, List.take_length]
  rw [this]
 ·rw [if_neg hzc] at r2
  obtain ⟨fs, cp, fu, dn⟩ := d
  simp only at hcap hfu hd hf
  subst hcap hfu hd hf
  have hcut := cut1 g cp 0 (fsT al) (fsT al).length (fsT (al.take n)).length hle (by decide)
  rw [hcut, htt] at r2
  exact ⟨_, r2, ⟨rfl, by show burnF 0 <= _; decide, .inr (by rw [List.take_length]), Nat.le_refl _⟩, rfl⟩
theorem awake_all : ∃ (d1 d2 : Dk), ACon Tryz.prog 8 [.p (.agg (newD 1000).cells), .p (I 1), .p (.sl 8 [oneT, oneT])] (.tup [.p (.agg d1.cells), .p (I 0)]) ∧
 ACon Tryz.prog 13 [.p (.agg d1.cells), .p (I 1), .p (I 1)] (.tup [.p (.agg d2.cells), .p (I 0)]) ∧
 ACon Tryz.prog 11 [.p (.agg d2.cells), .p (I 1)] (.tup [.p (.sl 8 [oneT]), .p (I 0), .p (I 0)]) := by
 have ho : ∀ r ∈ [oneT, oneT], fTx.ok r := by simp [oneT_ok]
 have hwo : wgTx oneT = 1 := wg_one 1 1
 have hg : ∀ r ∈ [oneT, oneT], GdT r := fun r hr => GdT_of (ho r hr) (by simp at hr; subst hr; rw [hwo]; omega)
 have hb := fsT_le ho fun r hr => by simp at hr; subst hr; rw [hwo]; omega
 rw [show wgL [oneT, oneT] = 2 by simp [wgL, hwo]] at hb
 have h0 : Lg 1 1000 (newD 1000) [] ([] : List (List PV)).length := ⟨rfl, by show (0 : Int) <= _; omega, .inl ⟨rfl, rfl⟩, by simp⟩
 have a1 := h0.addC (.inr rfl) rfl (x := [oneT, oneT]) hg (by simp) (by rw [List.nil_append]; omega) (by rw [List.nil_append]; omega)
 rcases h0.add rfl (x := [oneT, oneT]) (by rw [List.nil_append]; omega) with ⟨e1, e2, e3, e4⟩ | ⟨-, -, e⟩
 ·rw [e1] at a1
  rw [List.nil_append] at e2
  obtain ⟨d2, k1, k2, k3⟩ := e2.keep (.inr rfl) e3 (e4 rfl) hg (by omega) (by simp) (by simp) rfl (n := 1) (by simp)
  have hle := fsT_takeLe [oneT, oneT] 1
  exact ⟨_, d2, a1, k1, k2.read (.inr rfl) k3 (fun r hr => hg r (List.mem_of_mem_take hr)) (by omega)⟩
 ·exact absurd rfl e
set_option maxHeartbeats 4000000 in
theorem awake14_con : ACon Tryz.prog 5 [] (.p (B true)) := by
 obtain ⟨d1, d2, c1, c2, c3⟩ := awake_all
 have c0 := new13_con 1000
 have c4 := name1_con
 unfold oneT Dk.cells at *
 generalize fls d1.fs = f1 at *
 generalize fls d2.fs = f2 at *
 generalize fls (newD 1000).fs = f0 at *
 refine wBody Tryz.tab Tryz.mixed Tryz.func5 rfl rfl Tryz.ntmps5 (by simp) (by simp) fun Q hr hn => ?_
 repeat' first | (refine hK _ ?_; clear hK) | (refine hK _ _ ?_; clear hK) | (clear hK; refine hK _ ?_; clear hK) | (clear hK; clear hK; refine hK _ ?_; clear hK) | (clear hK; clear hK; clear hK; refine hK _ ?_; clear hK) | (clear hK; clear hK; clear hK; clear hK; refine hK _ ?_; clear hK) | (refine wSeq fun K hK => ?_) | ((first | refine wReg ?_ | refine wDrwQ rfl (by kernel_rfl) ?_ | refine wDrwI ?_ | refine wDrw (by kernel_rfl) ?_); simp only [List.map_cons, List.map_nil, strip]) | ((first | refine wIs fun K hK => ?_ | refine wOs fun K hK => ?_ | refine wQs fun K hK => ?_ | refine CallK_plain ?_ | refine CallQ_plain ?_ | refine CallR_plain ?_ | refine wCond ?_); simp) | (refine wIn ?_; refine And.intro (by kernel_rfl) ?_; try simp only [thenA_n]) | (first | refine wBlock ?_ | refine wScope ?_) | ((first | refine wRet ?_ | refine wExit ?_ | refine wSkip ?_); try simp) | ((first | refine wLabel ?_ | refine wOn ?_ | refine wQn ?_); try simp only [thenA_n]) | (refine CallE.pure (c0) rfl ?_) | (refine CallE.lent (c0) rfl ?_) | (refine CallF.pure (c0) rfl ?_) | (refine CallF.lent (c0) rfl ?_) | (refine CallE.own (c0) ?_) | (refine CallH.pure (c0) rfl ?_) | (refine CallH.lent (c0) rfl ?_) | (refine CallH.own (c0) ?_) | (refine CallE.pure (c1) rfl ?_) | (refine CallE.lent (c1) rfl ?_) | (refine CallF.pure (c1) rfl ?_) | (refine CallF.lent (c1) rfl ?_) | (refine CallE.own (c1) ?_) | (refine CallH.pure (c1) rfl ?_) | (refine CallH.lent (c1) rfl ?_) | (refine CallH.own (c1) ?_) | (refine CallE.pure (c2) rfl ?_) | (refine CallE.lent (c2) rfl ?_) | (refine CallF.pure (c2) rfl ?_) | (refine CallF.lent (c2) rfl ?_) | (refine CallE.own (c2) ?_) | (refine CallH.pure (c2) rfl ?_) | (refine CallH.lent (c2) rfl ?_) | (refine CallH.own (c2) ?_) | (refine CallE.pure (c3) rfl ?_) | (refine CallE.lent (c3) rfl ?_) | (refine CallF.pure (c3) rfl ?_) | (refine CallF.lent (c3) rfl ?_) | (refine CallE.own (c3) ?_) | (refine CallH.pure (c3) rfl ?_) | (refine CallH.lent (c3) rfl ?_) | (refine CallH.own (c3) ?_) | (refine CallE.pure (c4) rfl ?_) | (refine CallE.lent (c4) rfl ?_) | (refine CallF.pure (c4) rfl ?_) | (refine CallF.lent (c4) rfl ?_) | (refine CallE.own (c4) ?_) | (refine CallH.pure (c4) rfl ?_) | (refine CallH.lent (c4) rfl ?_) | (refine CallH.own (c4) ?_)
 all_goals apply hr
 all_goals simp [Tryz.f5]
set_option maxHeartbeats 8000000 in
theorem crashT {Q : AExit -> St -> Prop} {st : St} {d : Dk} {all : List (List PV)} {s : Nat} (h : Lg 3 1048576 d all s) (ks : List Int) (hks : ks.length <= 20) (ho : ∀ r ∈ all, fTx.ok r) (hw : wgL all <= 150)
 (hQ : ∀ st, st.s 6 = .p (B true) -> Q .ret st) (g2 : st.s 2 = .p (.sl 1 (ints ks))) (g7 : st.s 7 = .ptr 7 0) (b7 : st.b 7 = some (.box 28 [.p (.sl 3 (fls d.fs)), .p (I d.cap), .p (I d.fuse), .p (B d.dn)])) (g8 : st.s 8 = .row 8) (b8 : st.b 8 = some (.row 45 8 all)) (g9 : st.s 9 = .p (I s)) :
 WC Tryz.prog Tryz.T 139 (sfx Tryz.f3 6) Q st := by
 obtain ⟨d0, d1, d2, d3, m, rest, c1, c2, c3, htk, hsm, hml, c4, c5, c6⟩ := crash_all h ks (by omega) ho hw
 have hmo : ∀ r ∈ m, fTx.ok r := fun r hr => by rw [<- htk] at hr; exact ho r (List.mem_of_mem_take hr)
 have hlen := wgL_len ho
 have c7 := selfTxs m hmo (by omega)
 have c8 := selfTxs (m ++ [moreT]) (fun r hr => by
  rcases List.mem_append.1 hr with hr | hr
  ·exact hmo r hr
  ·rw [List.mem_singleton] at hr; subst hr; exact moreT_ok) (by simp; omega)
 have hml' : (m.length : Int) <= all.length := by omega
 have hml2 : ¬ (all.length : Int) < m.length := by omega
 have hml3 : ¬ all.length < m.length := by omega
 have hsm' : ¬ (m.length : Int) < s := by omega
 have hsm2 : ¬ m.length < s := by omega
 have hmx : m.length <= 200 := by omega
 unfold moreT Dk.cells at *
 clear h ho hw hlen hks hmo
 unfold sfx
 simp only [Tryz.f3, sfxC]
 refine wSeq fun K hK => ?_
 (refine wReg ?_; simp only [List.map_cons, List.map_nil, strip])
 refine wFrzRg 8 all b8 ?_
 obtain ⟨st', hst⟩ : ∃ st', st' = Av.frz st 8 8 all := ⟨_, rfl⟩
 have k2 : st'.s 2 = .p (.sl 1 (ints ks)) := by rw [hst]; simp [frz, sub, sub0, subB, g2]
 have k7 : st'.s 7 = .ptr 7 0 := by rw [hst]; simp [frz, sub, sub0, subB, g7]
 have k8 : st'.s 8 = .p (.sl 8 all) := by rw [hst]; simp [frz, sub, sub0, subB, g8]
 have k9 : st'.s 9 = .p (I s) := by rw [hst]; simp [frz, sub, sub0, subB, g9]
 have e7 : st'.b 7 = some (.box 28 [.p (.sl 3 (fls d.fs)), .p (I d.cap), .p (I d.fuse), .p (B d.dn)]) := by rw [hst]; simp [frz, sub, sub0, subB, b7]
 rw [<- hst]
 clear hst g2 g7 b7 g8 b8 g9
 repeat' first | (refine And.intro (by (try simp only [List.length_append]); omega) (Or.inl ?_)) | (refine And.intro (by (try simp only [List.length_append]); omega) ?_) | (refine hK _ ?_; clear hK) | (refine hK _ _ ?_; clear hK) | (clear hK; refine hK _ ?_; clear hK) | (clear hK; clear hK; refine hK _ ?_; clear hK) | (clear hK; clear hK; clear hK; refine hK _ ?_; clear hK) | (clear hK; clear hK; clear hK; clear hK; refine hK _ ?_; clear hK) | (refine wSeq fun K hK => ?_) | ((first | refine wReg ?_ | refine wDrwQ rfl (by kernel_rfl) ?_ | refine wDrwI ?_ | refine wDrw (by kernel_rfl) ?_); simp only [List.map_cons, List.map_nil, strip]) | ((first | refine wIs fun K hK => ?_ | refine wOs fun K hK => ?_ | refine wQs fun K hK => ?_ | refine CallK_plain ?_ | refine CallQ_plain ?_ | refine CallR_plain ?_ | refine wCond ?_); simp [k2, k7, e7, k8, k9, htk, hml, hml', hml2, hml3, hsm', hsm2]) | (refine wIn ?_; refine And.intro (by kernel_rfl) ?_; try simp only [thenA_n]) | (first | refine wBlock ?_ | refine wScope ?_) | ((first | refine wRet ?_ | refine wExit ?_ | refine wSkip ?_); try simp) | ((first | refine wLabel ?_ | refine wOn ?_ | refine wQn ?_); try simp only [thenA_n]) | (refine CallE.pure (c1) rfl ?_) | (refine CallE.lent (c1) rfl ?_) | (refine CallF.pure (c1) rfl ?_) | (refine CallF.lent (c1) rfl ?_) | (refine CallE.own (c1) ?_) | (refine CallH.pure (c1) rfl ?_) | (refine CallH.lent (c1) rfl ?_) | (refine CallH.own (c1) ?_) | (refine CallE.pure (c2) rfl ?_) | (refine CallE.lent (c2) rfl ?_) | (refine CallF.pure (c2) rfl ?_) | (refine CallF.lent (c2) rfl ?_) | (refine CallE.own (c2) ?_) | (refine CallH.pure (c2) rfl ?_) | (refine CallH.lent (c2) rfl ?_) | (refine CallH.own (c2) ?_) | (refine CallE.pure (c3) rfl ?_) | (refine CallE.lent (c3) rfl ?_) | (refine CallF.pure (c3) rfl ?_) | (refine CallF.lent (c3) rfl ?_) | (refine CallE.own (c3) ?_) | (refine CallH.pure (c3) rfl ?_) | (refine CallH.lent (c3) rfl ?_) | (refine CallH.own (c3) ?_) | (refine CallE.pure (c4) rfl ?_) | (refine CallE.lent (c4) rfl ?_) | (refine CallF.pure (c4) rfl ?_) | (refine CallF.lent (c4) rfl ?_) | (refine CallE.own (c4) ?_) | (refine CallH.pure (c4) rfl ?_) | (refine CallH.lent (c4) rfl ?_) | (refine CallH.own (c4) ?_) | (refine CallE.pure (c5) rfl ?_) | (refine CallE.lent (c5) rfl ?_) | (refine CallF.pure (c5) rfl ?_) | (refine CallF.lent (c5) rfl ?_) | (refine CallE.own (c5) ?_) | (refine CallH.pure (c5) rfl ?_) | (refine CallH.lent (c5) rfl ?_) | (refine CallH.own (c5) ?_) | (refine CallE.pure (c6) rfl ?_) | (refine CallE.lent (c6) rfl ?_) | (refine CallF.pure (c6) rfl ?_) | (refine CallF.lent (c6) rfl ?_) | (refine CallE.own (c6) ?_) | (refine CallH.pure (c6) rfl ?_) | (refine CallH.lent (c6) rfl ?_) | (refine CallH.own (c6) ?_) | (refine CallE.pure (c7) rfl ?_) | (refine CallE.lent (c7) rfl ?_) | (refine CallF.pure (c7) rfl ?_) | (refine CallF.lent (c7) rfl ?_) | (refine CallE.own (c7) ?_) | (refine CallH.pure (c7) rfl ?_) | (refine CallH.lent (c7) rfl ?_) | (refine CallH.own (c7) ?_) | (refine CallE.pure (c8) rfl ?_) | (refine CallE.lent (c8) rfl ?_) | (refine CallF.pure (c8) rfl ?_) | (refine CallF.lent (c8) rfl ?_) | (refine CallE.own (c8) ?_) | (refine CallH.pure (c8) rfl ?_) | (refine CallH.lent (c8) rfl ?_) | (refine CallH.own (c8) ?_) | (refine CallE.pure (awake14_con) rfl ?_) | (refine CallE.lent (awake14_con) rfl ?_) | (refine CallF.pure (awake14_con) rfl ?_) | (refine CallF.lent (awake14_con) rfl ?_) | (refine CallE.own (awake14_con) ?_) | (refine CallH.pure (awake14_con) rfl ?_) | (refine CallH.lent (awake14_con) rfl ?_) | (refine CallH.own (awake14_con) ?_)
 all_goals refine hQ _ ?_
 all_goals simp
theorem flat_snoc {ll : List (List (List PV))} {k : Nat} (h : k < ll.length) : (ll.take (k + 1)).flatten = (ll.take k).flatten ++ ll[k] := by
 rw [List.take_succ_eq_append_getElem h, List.flatten_append]; simp
theorem wgL_flat : ∀ ll : List (List (List PV)), wgL ll.flatten = (ll.map wgL).sum
 | [] => rfl
 | x :: ll => by rw [List.flatten_cons, wgL_app, wgL_flat ll]; simp
theorem flat_ok {ll : List (List (List PV))} (ho : ∀ x ∈ ll, ∀ r ∈ x, fTx.ok r) (k : Nat) : ∀ r ∈ (ll.take k).flatten, fTx.ok r := fun r hr => by
 obtain ⟨x, hx, hr⟩ := List.mem_flatten.1 hr
 exact ho x (List.mem_of_mem_take hx) r hr
theorem flat_wg {ll : List (List (List PV))} (h : (ll.map wgL).sum <= 150) (k : Nat) : wgL (ll.take k).flatten <= 150 := by
 have := wgL_app (ll.take k).flatten (ll.drop k).flatten
 rw [<- List.flatten_append, List.take_append_drop, wgL_flat] at this
 omega
set_option maxHeartbeats 8000000 in
theorem journalCrash_con (ll : List (List (List PV))) (fuse : Int) (ks : List Int) (hf : fuse <= 9223372036854775807) (ho : ∀ x ∈ ll, ∀ r ∈ x, fTx.ok r) (hb : ∀ x ∈ ll, ∀ r ∈ x, BdTx r) :
 ACon Tryz.prog 3 [.p (.sl 1 (lls ll)), .p (I fuse), .p (.sl 1 (ints ks))] (.p (B true)) := by
 by_cases h10 : 10 < ll.length
 ·have h10' := eq_true (show (10 : Int) < (ll.length : Int) by omega)
  refine wBody Tryz.tab Tryz.mixed Tryz.func3 rfl rfl Tryz.ntmps3 (by simp) (by simp) fun Q hr hn => ?_
  repeat' first | (refine hK _ ?_; clear hK) | (refine hK _ _ ?_; clear hK) | (clear hK; refine hK _ ?_; clear hK) | (clear hK; clear hK; refine hK _ ?_; clear hK) | (clear hK; clear hK; clear hK; refine hK _ ?_; clear hK) | (clear hK; clear hK; clear hK; clear hK; refine hK _ ?_; clear hK) | (refine wSeq fun K hK => ?_) | ((first | refine wReg ?_ | refine wDrwQ rfl (by kernel_rfl) ?_ | refine wDrwI ?_ | refine wDrw (by kernel_rfl) ?_); simp only [List.map_cons, List.map_nil, strip]) | ((first | refine wIs fun K hK => ?_ | refine wOs fun K hK => ?_ | refine wQs fun K hK => ?_ | refine CallK_plain ?_ | refine CallQ_plain ?_ | refine CallR_plain ?_ | refine wCond ?_); simp [h10']) | (refine wIn ?_; refine And.intro (by kernel_rfl) ?_; try simp only [thenA_n]) | (first | refine wBlock ?_ | refine wScope ?_) | ((first | refine wRet ?_ | refine wExit ?_ | refine wSkip ?_); try simp) | ((first | refine wLabel ?_ | refine wOn ?_ | refine wQn ?_); try simp only [thenA_n]) | (refine CallE.pure (awake14_con) rfl ?_) | (refine CallE.lent (awake14_con) rfl ?_) | (refine CallF.pure (awake14_con) rfl ?_) | (refine CallF.lent (awake14_con) rfl ?_) | (refine CallE.own (awake14_con) ?_) | (refine CallH.pure (awake14_con) rfl ?_) | (refine CallH.lent (awake14_con) rfl ?_) | (refine CallH.own (awake14_con) ?_)
  all_goals apply hr
  all_goals simp [Tryz.f3]
 have h10' := eq_false (show ¬ (10 : Int) < (ll.length : Int) by omega)
 obtain ⟨D, cf, hD⟩ := far14_con ll (by omega) ho hb
 cases D with
 | true =>
  refine wBody Tryz.tab Tryz.mixed Tryz.func3 rfl rfl Tryz.ntmps3 (by simp) (by simp) fun Q hr hn => ?_
  repeat' first | (refine hK _ ?_; clear hK) | (refine hK _ _ ?_; clear hK) | (clear hK; refine hK _ ?_; clear hK) | (clear hK; clear hK; refine hK _ ?_; clear hK) | (clear hK; clear hK; clear hK; refine hK _ ?_; clear hK) | (clear hK; clear hK; clear hK; clear hK; refine hK _ ?_; clear hK) | (refine wSeq fun K hK => ?_) | ((first | refine wReg ?_ | refine wDrwQ rfl (by kernel_rfl) ?_ | refine wDrwI ?_ | refine wDrw (by kernel_rfl) ?_); simp only [List.map_cons, List.map_nil, strip]) | ((first | refine wIs fun K hK => ?_ | refine wOs fun K hK => ?_ | refine wQs fun K hK => ?_ | refine CallK_plain ?_ | refine CallQ_plain ?_ | refine CallR_plain ?_ | refine wCond ?_); simp [h10']) | (refine wIn ?_; refine And.intro (by kernel_rfl) ?_; try simp only [thenA_n]) | (first | refine wBlock ?_ | refine wScope ?_) | ((first | refine wRet ?_ | refine wExit ?_ | refine wSkip ?_); try simp) | ((first | refine wLabel ?_ | refine wOn ?_ | refine wQn ?_); try simp only [thenA_n]) | (refine CallE.pure (cf) rfl ?_) | (refine CallE.lent (cf) rfl ?_) | (refine CallF.pure (cf) rfl ?_) | (refine CallF.lent (cf) rfl ?_) | (refine CallE.own (cf) ?_) | (refine CallH.pure (cf) rfl ?_) | (refine CallH.lent (cf) rfl ?_) | (refine CallH.own (cf) ?_) | (refine CallE.pure (awake14_con) rfl ?_) | (refine CallE.lent (awake14_con) rfl ?_) | (refine CallF.pure (awake14_con) rfl ?_) | (refine CallF.lent (awake14_con) rfl ?_) | (refine CallE.own (awake14_con) ?_) | (refine CallH.pure (awake14_con) rfl ?_) | (refine CallH.lent (awake14_con) rfl ?_) | (refine CallH.own (awake14_con) ?_)
  all_goals apply hr
  all_goals simp [Tryz.f3]
 | false =>
 by_cases h20 : 20 < ks.length
 ·have h20' := eq_true (show (20 : Int) < (ks.length : Int) by omega)
  refine wBody Tryz.tab Tryz.mixed Tryz.func3 rfl rfl Tryz.ntmps3 (by simp) (by simp) fun Q hr hn => ?_
  repeat' first | (refine hK _ ?_; clear hK) | (refine hK _ _ ?_; clear hK) | (clear hK; refine hK _ ?_; clear hK) | (clear hK; clear hK; refine hK _ ?_; clear hK) | (clear hK; clear hK; clear hK; refine hK _ ?_; clear hK) | (clear hK; clear hK; clear hK; clear hK; refine hK _ ?_; clear hK) | (refine wSeq fun K hK => ?_) | ((first | refine wReg ?_ | refine wDrwQ rfl (by kernel_rfl) ?_ | refine wDrwI ?_ | refine wDrw (by kernel_rfl) ?_); simp only [List.map_cons, List.map_nil, strip]) | ((first | refine wIs fun K hK => ?_ | refine wOs fun K hK => ?_ | refine wQs fun K hK => ?_ | refine CallK_plain ?_ | refine CallQ_plain ?_ | refine CallR_plain ?_ | refine wCond ?_); simp [h10', h20']) | (refine wIn ?_; refine And.intro (by kernel_rfl) ?_; try simp only [thenA_n]) | (first | refine wBlock ?_ | refine wScope ?_) | ((first | refine wRet ?_ | refine wExit ?_ | refine wSkip ?_); try simp) | ((first | refine wLabel ?_ | refine wOn ?_ | refine wQn ?_); try simp only [thenA_n]) | (refine CallE.pure (cf) rfl ?_) | (refine CallE.lent (cf) rfl ?_) | (refine CallF.pure (cf) rfl ?_) | (refine CallF.lent (cf) rfl ?_) | (refine CallE.own (cf) ?_) | (refine CallH.pure (cf) rfl ?_) | (refine CallH.lent (cf) rfl ?_) | (refine CallH.own (cf) ?_) | (refine CallE.pure (awake14_con) rfl ?_) | (refine CallE.lent (awake14_con) rfl ?_) | (refine CallF.pure (awake14_con) rfl ?_) | (refine CallF.lent (awake14_con) rfl ?_) | (refine CallE.own (awake14_con) ?_) | (refine CallH.pure (awake14_con) rfl ?_) | (refine CallH.lent (awake14_con) rfl ?_) | (refine CallH.own (awake14_con) ?_)
  all_goals apply hr
  all_goals simp [Tryz.f3]
 have h20' := eq_false (show ¬ (20 : Int) < (ks.length : Int) by omega)
 have hw : (ll.map wgL).sum <= 150 := Decidable.byContradiction fun h => hD rfl (.inr (by omega))
 have c0 := new13_con 1048576
 have c1 := arm13_con (newD 1048576) fuse ⟨by simp [newD], by simp [newD]⟩
 have hL0 : Lg 3 1048576 (armD (newD 1048576) fuse) [] 0 := ⟨rfl, by show max fuse 0 <= _; omega, .inl ⟨rfl, rfl⟩, by simp⟩
 have hd0 : (armD (newD 1048576) fuse).dn = false := rfl
 clear hD hb hf
 generalize armD (newD 1048576) fuse = d0 at *
 generalize newD 1048576 = dz at *
 unfold Dk.cells at c0 c1
 refine wBody Tryz.tab Tryz.mixed Tryz.func3 rfl rfl Tryz.ntmps3 (by simp) (by simp) fun Q hr hn => ?_
 have hfin := fun {st : St} {d : Dk} {all : List (List PV)} {s : Nat} (h : Lg 3 1048576 d all s) (h1 : ∀ r ∈ all, fTx.ok r) (h2 : wgL all <= 150) => crashT (Q := Q) (st := st) h ks (by omega) h1 h2 (fun st h6 => by
  apply hr
  simp [Tryz.f3, h6])
 unfold sfx at hfin
 simp only [Tryz.f3, sfxC] at hfin
 repeat' first | (refine hK _ ?_; clear hK) | (refine hK _ _ ?_; clear hK) | (clear hK; refine hK _ ?_; clear hK) | (clear hK; clear hK; refine hK _ ?_; clear hK) | (clear hK; clear hK; clear hK; refine hK _ ?_; clear hK) | (clear hK; clear hK; clear hK; clear hK; refine hK _ ?_; clear hK) | (refine wSeq fun K hK => ?_) | ((first | refine wReg ?_ | refine wDrwQ rfl (by kernel_rfl) ?_ | refine wDrwI ?_ | refine wDrw (by kernel_rfl) ?_); simp only [List.map_cons, List.map_nil, strip]) | ((first | refine wIs fun K hK => ?_ | refine wOs fun K hK => ?_ | refine wQs fun K hK => ?_ | refine CallK_plain ?_ | refine CallQ_plain ?_ | refine CallR_plain ?_ | refine wCond ?_); simp [h10', h20']) | (refine wIn ?_; refine And.intro (by kernel_rfl) ?_; try simp only [thenA_n]) | (first | refine wBlock ?_ | refine wScope ?_) | ((first | refine wRet ?_ | refine wExit ?_ | refine wSkip ?_); try simp) | ((first | refine wLabel ?_ | refine wOn ?_ | refine wQn ?_); try simp only [thenA_n]) | (refine CallE.pure (cf) rfl ?_) | (refine CallE.lent (cf) rfl ?_) | (refine CallF.pure (cf) rfl ?_) | (refine CallF.lent (cf) rfl ?_) | (refine CallE.own (cf) ?_) | (refine CallH.pure (cf) rfl ?_) | (refine CallH.lent (cf) rfl ?_) | (refine CallH.own (cf) ?_) | (refine CallE.pure (c0) rfl ?_) | (refine CallE.lent (c0) rfl ?_) | (refine CallF.pure (c0) rfl ?_) | (refine CallF.lent (c0) rfl ?_) | (refine CallE.own (c0) ?_) | (refine CallH.pure (c0) rfl ?_) | (refine CallH.lent (c0) rfl ?_) | (refine CallH.own (c0) ?_) | (refine CallE.pure (c1) rfl ?_) | (refine CallE.lent (c1) rfl ?_) | (refine CallF.pure (c1) rfl ?_) | (refine CallF.lent (c1) rfl ?_) | (refine CallE.own (c1) ?_) | (refine CallH.pure (c1) rfl ?_) | (refine CallH.lent (c1) rfl ?_) | (refine CallH.own (c1) ?_)
 refine wLoopG [.row 8 45 8] (fun N st => ∃ k d, k + N = ll.length /\ Lg 3 1048576 d (ll.take k).flatten (ll.take k).flatten.length /\ d.dn = false /\ st.s 2 = .p (.sl 1 (ints ks)) /\ st.s 7 = .ptr 7 0 /\ st.b 7 = some (.box 28 [.p (.sl 3 (fls d.fs)), .p (I d.cap), .p (I d.fuse), .p (B d.dn)]) /\ st.s 8 = .row 8 /\ st.b 8 = some (.row 45 8 (ll.take k).flatten) /\ st.s 9 = .p (I (ll.take k).flatten.length) /\ st.s 37 = .p (.sl 1 (lls ll)) /\ st.s 38 = .p (I ll.length) /\ st.s 39 = .p (I k)) ll.length ⟨0, d0, by omega, by simpa using hL0, hd0, by simp⟩ fun K N st hL ⟨k, d, hk, hLg, hdn, g2, g7, b7, g8, b8, g9, g37, g38, g39⟩ => ?_
 have hok := flat_ok ho k
 have hwk := flat_wg hw k
 by_cases hlt : k < ll.length
 case neg =>
  have hlt' : ¬ (k : Int) < ll.length := by omega
  have hfin2 := fun {st : St} => hfin (st := st) hLg hok hwk
  clear hL hfin
  repeat' first | (refine hfin2 ?_ ?_ ?_ ?_ ?_ ?_) | (refine hK _ ?_; clear hK) | (refine hK _ _ ?_; clear hK) | (clear hK; refine hK _ ?_; clear hK) | (clear hK; clear hK; refine hK _ ?_; clear hK) | (clear hK; clear hK; clear hK; refine hK _ ?_; clear hK) | (clear hK; clear hK; clear hK; clear hK; refine hK _ ?_; clear hK) | (refine wSeq fun K hK => ?_) | ((first | refine wReg ?_ | refine wDrwQ rfl (by kernel_rfl) ?_ | refine wDrwI ?_ | refine wDrw (by kernel_rfl) ?_); simp only [List.map_cons, List.map_nil, strip]) | ((first | refine wIs fun K hK => ?_ | refine wOs fun K hK => ?_ | refine wQs fun K hK => ?_ | refine CallK_plain ?_ | refine CallQ_plain ?_ | refine CallR_plain ?_ | refine wCond ?_); simp [g2, g7, b7, g8, b8, g9, g37, g38, g39, hlt, hlt']) | (refine wIn ?_; refine And.intro (by kernel_rfl) ?_; try simp only [thenA_n]) | (first | refine wBlock ?_ | refine wScope ?_) | ((first | refine wRet ?_ | refine wExit ?_ | refine wSkip ?_); try simp) | ((first | refine wLabel ?_ | refine wOn ?_ | refine wQn ?_); try simp only [thenA_n])
  all_goals simp [g2, g7, b7, g8, b8, g9, g37, g38, g39]
 have hlt' : (k : Int) < ll.length := by omega
 have hwr := wrapS k _ hlt (by omega)
 have he := lls_get hlt
 have hok1 := flat_ok ho (k + 1)
 have hwk1 := flat_wg hw (k + 1)
 have hsn := flat_snoc hlt
 rw [hsn] at hok1 hwk1
 have hbd := fsT_bd hok1 hwk1
 have hlen := wgL_len hok1
 have ca := hLg.addC (.inl rfl) hdn (x := ll[k]) (fun r hr => gd_all hok1 hwk1 r (List.mem_append_right _ hr)) (by rw [List.length_append] at hlen; omega) (by omega) (by omega)
 have hA := hLg.add hdn (x := ll[k]) (by omega)
 generalize addM d 3 ll[k] = r at *
 obtain ⟨d', e⟩ := r
 simp only at ca hA
 rw [List.length_append] at hlen
 have hl2 : (ll.take k).flatten.length + ll[k].length <= 150 := by omega
 generalize hF : (ll.take k).flatten = F at *
 generalize hX : ll[k] = x at *
 unfold Dk.cells at ca
 rcases hA with ⟨rfl, h1, h2, -⟩ | ⟨hne, h1, -⟩
 ·clear hfin
  repeat' first | (refine And.intro (by omega) ?_) | (refine hK _ ?_; clear hK) | (refine hK _ _ ?_; clear hK) | (clear hK; refine hK _ ?_; clear hK) | (clear hK; clear hK; refine hK _ ?_; clear hK) | (clear hK; clear hK; clear hK; refine hK _ ?_; clear hK) | (clear hK; clear hK; clear hK; clear hK; refine hK _ ?_; clear hK) | (refine wSeq fun K hK => ?_) | ((first | refine wReg ?_ | refine wDrwQ rfl (by kernel_rfl) ?_ | refine wDrwI ?_ | refine wDrw (by kernel_rfl) ?_); simp only [List.map_cons, List.map_nil, strip]) | ((first | refine wIs fun K hK => ?_ | refine wOs fun K hK => ?_ | refine wQs fun K hK => ?_ | refine CallK_plain ?_ | refine CallQ_plain ?_ | refine CallR_plain ?_ | refine wCond ?_); simp [g2, g7, b7, g8, b8, g9, g37, g38, g39, hlt, hlt', hwr, he, hX]) | (refine wIn ?_; refine And.intro (by kernel_rfl) ?_; try simp only [thenA_n]) | (first | refine wBlock ?_ | refine wScope ?_) | ((first | refine wRet ?_ | refine wExit ?_ | refine wSkip ?_); try simp) | ((first | refine wLabel ?_ | refine wOn ?_ | refine wQn ?_); try simp only [thenA_n]) | (refine CallE.pure (ca) rfl ?_) | (refine CallE.lent (ca) rfl ?_) | (refine CallF.pure (ca) rfl ?_) | (refine CallF.lent (ca) rfl ?_) | (refine CallE.own (ca) ?_) | (refine CallH.pure (ca) rfl ?_) | (refine CallH.lent (ca) rfl ?_) | (refine CallH.own (ca) ?_)
  refine hL _ (N - 1) (by omega) ⟨k + 1, d', by omega, by rw [hsn]; exact h1, h2, ?_⟩
  simp [g2, g7, b7, g8, b8, g9, g37, g38, g39, hwr, hsn]
 ·have hfin2 := fun {st : St} => hfin (st := st) h1 hok1 hwk1
  clear hL hfin
  repeat' first | (refine hfin2 ?_ ?_ ?_ ?_ ?_ ?_) | (refine And.intro (by omega) ?_) | (refine hK _ ?_; clear hK) | (refine hK _ _ ?_; clear hK) | (clear hK; refine hK _ ?_; clear hK) | (clear hK; clear hK; refine hK _ ?_; clear hK) | (clear hK; clear hK; clear hK; refine hK _ ?_; clear hK) | (clear hK; clear hK; clear hK; clear hK; refine hK _ ?_; clear hK) | (refine wSeq fun K hK => ?_) | ((first | refine wReg ?_ | refine wDrwQ rfl (by kernel_rfl) ?_ | refine wDrwI ?_ | refine wDrw (by kernel_rfl) ?_); simp only [List.map_cons, List.map_nil, strip]) | ((first | refine wIs fun K hK => ?_ | refine wOs fun K hK => ?_ | refine wQs fun K hK => ?_ | refine CallK_plain ?_ | refine CallQ_plain ?_ | refine CallR_plain ?_ | refine wCond ?_); simp [g2, g7, b7, g8, b8, g9, g37, g38, g39, hlt, hlt', hwr, he, hX, hne]) | (refine wIn ?_; refine And.intro (by kernel_rfl) ?_; try simp only [thenA_n]) | (first | refine wBlock ?_ | refine wScope ?_) | ((first | refine wRet ?_ | refine wExit ?_ | refine wSkip ?_); try simp) | ((first | refine wLabel ?_ | refine wOn ?_ | refine wQn ?_); try simp only [thenA_n]) | (refine CallE.pure (ca) rfl ?_) | (refine CallE.lent (ca) rfl ?_) | (refine CallF.pure (ca) rfl ?_) | (refine CallF.lent (ca) rfl ?_) | (refine CallE.own (ca) ?_) | (refine CallH.pure (ca) rfl ?_) | (refine CallH.lent (ca) rfl ?_) | (refine CallH.own (ca) ?_)
  all_goals simp [g2, g7, b7, g8, b8, g9, g37, g38, g39]
end Go.Proofs.YtbeofcbehhljdaaGreatDoor
