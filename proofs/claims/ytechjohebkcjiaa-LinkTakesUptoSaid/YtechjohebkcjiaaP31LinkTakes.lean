/- Texts that the proof needs: LF1. -/
import Derived.Test.YtechjohebkcjiaaP24LinkTakes
/- Messages: which the laws let pass, by weight; how many bytes these are at most. -/
namespace Go.Proofs.Ytechjohebkcjiaa
set_option linter.unusedSimpArgs false
set_option linter.unusedVariables false
set_option maxRecDepth 8000
open Go Go.Av
def at' (r : List PV) (i : Nat) : PV := (r[i]?).getD (I 0)
theorem at_of {r : List PV} {i : Nat} {p : PV} (h : r[i]? = some p) : at' r i = p := by unfold at'; rw [h]; rfl
def w5Pt (q : List PV) : Nat := lenP (at' q 10) + (lenP (at' q 1) + lenP (at' q 2)) / 20
def w5Tx (t : List PV) : Nat := lenP (at' t 7) + lenP (at' t 6) / 20 + ((rowsP (at' t 7)).map w5Pt).sum
def w5Nd (z : List PV) : Nat := (lenP (at' z 0) + lenP (at' z 1)) / 20
def w5Op (o : List PV) : Nat := (lenP (at' o 1) + lenP (at' o 2)) / 20
def w5Hd (r : List PV) : Nat := 1 + lenP (at' r 14) + lenP (at' r 36) + lenP (at' r 27) + lenP (at' r 18) + lenP (at' r 19) + lenP (at' r 24) + lenP (at' r 35) + lenP (at' r 40) + lenP (at' r 42) + lenP (at' r 43) + lenP (at' r 34) / 20
def w5Ms (r : List PV) : Nat := w5Hd r + ((rowsP (at' r 35)).map w5Pt).sum + ((rowsP (at' r 27)).map w5Tx).sum + ((rowsP (at' r 18)).map w5Nd).sum + ((rowsP (at' r 40)).map w5Op).sum
structure Ok5 (r : List PV) : Prop where
  ps : lenP (at' r 35) ≤ 50
  lg : lenP (at' r 27) ≤ 50
  tx : ∀ t ∈ rowsP (at' r 27), lenP (at' t 7) ≤ 50
  ns : lenP (at' r 18) ≤ 100
  os : lenP (at' r 40) ≤ 50
def farP (rows : List (List PV)) : Prop := 300 < rows.length ∨ (∃ r ∈ rows, ¬ Ok5 r) ∨ 700 < (rows.map w5Ms).sum ∨ 200 < rows.length
/-- What far lets pass. -/
structure Pass (rows : List (List PV)) : Prop where
  len : rows.length ≤ 200
  w : ∀ r ∈ rows, w5Ms r ≤ 700
theorem pass_of {rows : List (List PV)} (h : ¬ farP rows) : Pass rows where
  len := by
    refine Decidable.byContradiction fun g => h (.inr (.inr (.inr (by omega))))
  w := fun r hr => by
    have h1 := mem_sum w5Ms hr
    refine Nat.le_trans h1 ?_
    refine Decidable.byContradiction fun g => h (.inr (.inr (.inl (by omega))))
/-! ### Bytes -/
theorem sz5Pt {r : List PV} (h : fPt.ok r) : fPt.sz r ≤ 160 + 40 * w5Pt r := by
  obtain ⟨k, p, d, v, kd, o, s, e, n, c, m, rfl, -⟩ := fPt_sh h
  show 10 + ((foS.sz [SB p] + (foS.sz [SB d] + (10 + (10 + 10)))) + (10 + ((10 + 10) + (10 + (fl 4 fMb).sz [.sl 4 m])))) ≤ 160 + 40 * (lenP (.sl 4 m) + (lenP (SB p) + lenP (SB d)) / 20)
  rw [szl_const szMb]
  simp only [foS_sz, lenP_SB, lenP_sl]; omega
theorem sz5Pts {rows : List (List PV)} (h : ∀ r ∈ rows, fPt.ok r) : (rows.map fPt.sz).sum ≤ 160 * rows.length + 40 * (rows.map w5Pt).sum := by
  have h1 : (rows.map fPt.sz).sum ≤ (rows.map fun r => 160 + 40 * w5Pt r).sum := sum_le fun r hr => sz5Pt (h r hr)
  rw [sum_add (fun _ => 160) (fun r => 40 * w5Pt r), sum_const, sum_mul] at h1
  exact h1
theorem sz5Tx {r : List PV} (h : fTx.ok r) : fTx.sz r ≤ 110 + 160 * w5Tx r := by
  obtain ⟨e, n, s, x, er, b, ma, ps, rfl, -, -, -, -, -, -, hp⟩ := fTx_sh h
  obtain ⟨hl, ho⟩ := fl_ok hp
  have h1 := sz5Pts ho
  show (10 + 10) + (10 + (10 + (10 + (10 + (foS.sz [SB ma] + (fl 11 fPt).sz [.sl 11 ps]))))) ≤ 110 + 160 * (lenP (.sl 11 ps) + lenP (SB ma) / 20 + ((rowsP (.sl 11 ps)).map w5Pt).sum)
  rw [fl_sz]
  simp only [foS_sz, lenP_SB, lenP_sl, rowsP_sl]; omega
theorem sz5Txs {rows : List (List PV)} (h : ∀ r ∈ rows, fTx.ok r) : (rows.map fTx.sz).sum ≤ 110 * rows.length + 160 * (rows.map w5Tx).sum := by
  have h1 : (rows.map fTx.sz).sum ≤ (rows.map fun r => 110 + 160 * w5Tx r).sum := sum_le fun r hr => sz5Tx (h r hr)
  rw [sum_add (fun _ => 110) (fun r => 160 * w5Tx r), sum_const, sum_mul] at h1
  exact h1
theorem sz5Nds {rows : List (List PV)} (h : ∀ r ∈ rows, fNd.ok r) : (rows.map fNd.sz).sum ≤ 80 * rows.length + 20 * (rows.map w5Nd).sum := by
  have h1 : (rows.map fNd.sz).sum ≤ (rows.map fun r => 80 + 20 * w5Nd r).sum := sum_le fun r hr => by
    obtain ⟨p, d, v, k, o, rfl, -⟩ := fNd_sh (h r hr)
    show foS.sz [SB p] + (foS.sz [SB d] + (10 + (10 + 10))) ≤ 80 + 20 * ((lenP (SB p) + lenP (SB d)) / 20)
    simp only [foS_sz, lenP_SB]; omega
  rw [sum_add (fun _ => 80) (fun r => 20 * w5Nd r), sum_const, sum_mul] at h1
  exact h1
theorem sz5Ops {rows : List (List PV)} (h : ∀ r ∈ rows, fOp.ok r) : (rows.map fOp.sz).sum ≤ 90 * rows.length + 20 * (rows.map w5Op).sum := by
  have h1 : (rows.map fOp.sz).sum ≤ (rows.map fun r => 90 + 20 * w5Op r).sum := sum_le fun r hr => by
    obtain ⟨k, p, d, v, x, y, rfl, -⟩ := fOp_sh (h r hr)
    show 10 + (foS.sz [SB p] + (foS.sz [SB d] + (10 + (10 + 10)))) ≤ 90 + 20 * ((lenP (SB p) + lenP (SB d)) / 20)
    simp only [foS_sz, lenP_SB]; omega
  rw [sum_add (fun _ => 90) (fun r => 20 * w5Op r), sum_const, sum_mul] at h1
  exact h1
set_option maxHeartbeats 4000000 in
theorem en5 {cs : List PV} (hk : fMs.ok cs) (hw : w5Ms cs ≤ 700) : (fMs.en cs).length ≤ 400000 := by
  obtain ⟨m0, m1, m2, m3, m4, m5, m6, m7, m8, m9, m10, m11, m12, m13, m14, m15, m16, m17, m18, m19, m20, m21, m22, m23, m24, m25, m26, m27, m28, m29, m30, m31, m32, m33, m34, m35, m36, m37, m38, m39, m40, m41, m42, m43, m44, m45, rfl, k0, k1, k2, k3, k4, k5, k6, k7, k8, k9, k10, k11⟩ := fMs_sh hk
  obtain ⟨p0, p1⟩ := k8
  obtain ⟨p1, p2⟩ := p1
  obtain ⟨p2, p3⟩ := p2
  change foI.ok [I m15] at p0
  change fZx.ok [I m16, I m17] at p1
  change fSt.ok [.sl 5 m18, .sl 1 m19, I m20, I m21, I m22, I m23, .sl 4 m24, I m25, I m26] at p2
  change (fl 8 fTx).ok [.sl 8 m27] at p3
  have hW : w5Ms [I m0, I m1, I m2, I m3, I m4, I m5, I m6, I m7, I m8, I m9, I m10, I m11, I m12, I m13, .sl 2 m14, I m15, I m16, I m17, .sl 5 m18, .sl 1 m19, I m20, I m21, I m22, I m23, .sl 4 m24, I m25, I m26, .sl 8 m27, I m28, I m29, I m30, I m31, I m32, I m33, SB m34, .sl 11 m35, .sl 1 m36, I m37, I m38, I m39, .sl 6 m40, I m41, .sl 4 m42, .sl 1 m43, I m44, I m45] = 1 + m14.length + m36.length + m27.length + m18.length + m19.length + m24.length + m35.length + m40.length + m42.length + m43.length + lenP (SB m34) / 20 + (m35.map w5Pt).sum + (m27.map w5Tx).sum + (m18.map w5Nd).sum + (m40.map w5Op).sum := rfl
  rw [hW, lenP_SB] at hw
  clear hW
  have e1 : (fVt.en [I m3, I m4, I m5, I m6, I m7, I m8, I m9]).length ≤ 70 := fVt_L.szl _ k3
  have e2 : (fZx.en [I m12, I m13]).length ≤ 20 := fZx_L.szl _ k6
  have e3 : ((fl 2 fZx).en [.sl 2 m14]).length ≤ 10 + 20 * m14.length := by have := (fl_L fZx_L 2).szl _ k7; rw [szl_const szZx] at this; exact this
  have e4 : (fSt.en [.sl 5 m18, .sl 1 m19, I m20, I m21, I m22, I m23, .sl 4 m24, I m25, I m26]).length ≤ 200 + 80 * m18.length + 20 * (m18.map w5Nd).sum + 10 * m19.length + 40 * m24.length := by
    refine Nat.le_trans (fSt_L.szl _ p2) ?_
    obtain ⟨ns, ss, nx, ce, cn, ck, ms, e, n, hx, hn, -⟩ := fSt_sh p2
    simp only [List.cons.injEq, PV.sl.injEq, PV.v.injEq, Value.int.injEq, true_and] at hx
    have hns : ns = m18 := hx.1.symm
    subst hns
    have h1 := sz5Nds (fl_ok hn).2
    show (fl 5 fNd).sz [.sl 5 ns] + ((fl 1 foI).sz [.sl 1 m19] + (10 + (((10 + 10) + (10 + (fl 4 fMb).sz [.sl 4 m24])) + (10 + 10)))) ≤ _
    rw [fl_sz, szl_const szI, szl_const szMb]
    omega
  have e5 : ((fl 8 fTx).en [.sl 8 m27]).length ≤ 10 + 110 * m27.length + 160 * (m27.map w5Tx).sum := by
    refine Nat.le_trans ((fl_L fTx_L 8).szl _ p3) ?_
    rw [fl_sz]
    have := sz5Txs (fl_ok p3).2; omega
  have e6 : (fTx.en [I m28, I m29, I m30, I m31, I m32, I m33, SB m34, .sl 11 m35]).length ≤ 110 + 160 * (m35.length + lenP (SB m34) / 20 + (m35.map w5Pt).sum) := Nat.le_trans (fTx_L.szl _ k9) (sz5Tx k9)
  rw [lenP_SB] at e6
  have e7 : ((fl 1 foI).en [.sl 1 m36]).length ≤ 10 + 10 * m36.length := by have := (fl_L foI_L 1).szl _ k10; rw [szl_const szI] at this; exact this
  have e8 : (fRq.en [I m37, I m38, I m39, .sl 6 m40, I m41, .sl 4 m42, .sl 1 m43, I m44, I m45]).length ≤ 200 + 90 * m40.length + 20 * (m40.map w5Op).sum + 40 * m42.length + 10 * m43.length := by
    refine Nat.le_trans (fRq_L.szl _ k11) ?_
    obtain ⟨k, s, x, os, dk, pm, dl, we, wn, hx, -, -, -, hn, -⟩ := fRq_sh k11
    simp only [List.cons.injEq, PV.sl.injEq, PV.v.injEq, Value.int.injEq, true_and] at hx
    have hos : os = m40 := hx.2.2.2.1.symm
    subst hos
    have h1 := sz5Ops (fl_ok hn).2
    show 10 + (10 + (10 + ((fl 6 fOp).sz [.sl 6 os] + (10 + ((fl 4 fMb).sz [.sl 4 m42] + ((fl 1 foI).sz [.sl 1 m43] + (10 + 10))))))) ≤ _
    rw [fl_sz, szl_const szI, szl_const szMb]
    omega
  have e9 : (fZx.en [I m16, I m17]).length ≤ 20 := fZx_L.szl _ p1
  have i0 := foI_L.szl _ k0
  have i1 := foI_L.szl _ k1
  have i2 := foI_L.szl _ k2
  have i4 := foI_L.szl _ k4
  have i5 := foI_L.szl _ k5
  have i6 := foI_L.szl _ p0
  simp only [szI] at i0 i1 i2 i4 i5 i6
  rw [fMs_en, fPl_en]
  simp only [List.length_append]
  omega
end Go.Proofs.Ytechjohebkcjiaa
