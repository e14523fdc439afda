/- Texts that the proof needs: RG2 RGA. -/
import Derived.Test.YtechjohebkcjiaaP19LinkTakes
/- The formats of the records. -/
namespace Go.Proofs.Ytechjohebkcjiaa
set_option linter.unusedSimpArgs false
set_option linter.unusedVariables false
set_option maxRecDepth 8000
open Go Go.Av
theorem foI_ok {n : Int} : foI.ok [I n] ↔ okI n := ⟨fun ⟨m, h, ho⟩ => by simp only [List.cons.injEq, and_true, PV.v.injEq, Value.int.injEq, true_and] at h; rw [h]; exact ho, fun h => ⟨n, rfl, h⟩⟩
theorem foI_sh {cs : List PV} (h : foI.ok cs) : ∃ x, cs = [I x] := by obtain ⟨n, h, -⟩ := h; exact ⟨n, h⟩
theorem foS_sh {cs : List PV} (h : foS.ok cs) : ∃ x, cs = [SB x] := by obtain ⟨n, h, -⟩ := h; exact ⟨n, h⟩
theorem foB_sh {cs : List PV} (h : foB.ok cs) : ∃ x, cs = [B x] := by obtain ⟨n, h⟩ := h; exact ⟨n, h⟩
theorem fl_sh {c : Nat} {f : Fo} {cs : List PV} (h : (fl c f).ok cs) : ∃ x, cs = [.sl c x] := by obtain ⟨n, h, -⟩ := h; exact ⟨n, h⟩
theorem sq_split {f g : Fo} {cs : List PV} (h : (sq f g).ok cs) : ∃ c1 c2, cs = c1 ++ c2 ∧ f.ok c1 ∧ g.ok c2 := ⟨cs.take f.n, cs.drop f.n, (List.take_append_drop _ _).symm, h.1, h.2⟩
theorem fl_ok {c : Nat} {f : Fo} {rows : List (List PV)} (h : (fl c f).ok [.sl c rows]) : rows.length ≤ 9223372036854775807 ∧ ∀ r ∈ rows, f.ok r := by
  obtain ⟨n, h, ho⟩ := h
  simp only [List.cons.injEq, and_true, PV.sl.injEq, true_and] at h
  rw [h]; exact ho
/-! ### Zxid -/
def fZx : Fo := sq foI foI
theorem fZx_L : FoL fZx := sq_L foI_L foI_L
theorem fZx_sh {cs : List PV} (h : fZx.ok cs) : ∃ x0 x1, cs = [I x0, I x1] ∧ foI.ok [I x0] ∧ foI.ok [I x1] := by
  obtain ⟨_, _, rfl, h0, g0⟩ := sq_split h
  obtain ⟨x0, rfl⟩ := foI_sh h0
  have h1 := g0
  obtain ⟨x1, rfl⟩ := foI_sh h1
  exact ⟨x0, x1, rfl, h0, h1⟩
theorem fZx_en (x0 : Int) (x1 : Int) : fZx.en [I x0, I x1] = foI.en [I x0] ++ (foI.en [I x1]) := rfl
/-! ### Member -/
def fMb : Fo := sq foI (sq foI (sq foI foI))
theorem fMb_L : FoL fMb := sq_L foI_L (sq_L foI_L (sq_L foI_L foI_L))
theorem fMb_sh {cs : List PV} (h : fMb.ok cs) : ∃ x0 x1 x2 x3, cs = [I x0, I x1, I x2, I x3] ∧ foI.ok [I x0] ∧ foI.ok [I x1] ∧ foI.ok [I x2] ∧ foI.ok [I x3] := by
  obtain ⟨_, _, rfl, h0, g0⟩ := sq_split h
  obtain ⟨x0, rfl⟩ := foI_sh h0
  obtain ⟨_, _, rfl, h1, g1⟩ := sq_split g0
  obtain ⟨x1, rfl⟩ := foI_sh h1
  obtain ⟨_, _, rfl, h2, g2⟩ := sq_split g1
  obtain ⟨x2, rfl⟩ := foI_sh h2
  have h3 := g2
  obtain ⟨x3, rfl⟩ := foI_sh h3
  exact ⟨x0, x1, x2, x3, rfl, h0, h1, h2, h3⟩
theorem fMb_en (x0 : Int) (x1 : Int) (x2 : Int) (x3 : Int) : fMb.en [I x0, I x1, I x2, I x3] = foI.en [I x0] ++ (foI.en [I x1] ++ (foI.en [I x2] ++ (foI.en [I x3]))) := rfl
/-! ### Config -/
def fCf : Fo := sq fZx (sq foI (fl 4 fMb))
theorem fCf_L : FoL fCf := sq_L fZx_L (sq_L foI_L (fl_L fMb_L 4))
theorem fCf_sh {cs : List PV} (h : fCf.ok cs) : ∃ x0 x1 x2 x3, cs = [I x0, I x1, I x2, .sl 4 x3] ∧ fZx.ok [I x0, I x1] ∧ foI.ok [I x2] ∧ (fl 4 fMb).ok [.sl 4 x3] := by
  obtain ⟨_, _, rfl, h0, g0⟩ := sq_split h
  obtain ⟨x0, x1, rfl, -⟩ := fZx_sh h0
  obtain ⟨_, _, rfl, h1, g1⟩ := sq_split g0
  obtain ⟨x2, rfl⟩ := foI_sh h1
  have h2 := g1
  obtain ⟨x3, rfl⟩ := fl_sh h2
  exact ⟨x0, x1, x2, x3, rfl, h0, h1, h2⟩
theorem fCf_en (x0 : Int) (x1 : Int) (x2 : Int) (x3 : List (List PV)) : fCf.en [I x0, I x1, I x2, .sl 4 x3] = fZx.en [I x0, I x1] ++ (foI.en [I x2] ++ ((fl 4 fMb).en [.sl 4 x3])) := rfl
/-! ### Znode -/
def fNd : Fo := sq foS (sq foS (sq foI (sq foI foI)))
theorem fNd_L : FoL fNd := sq_L foS_L (sq_L foS_L (sq_L foI_L (sq_L foI_L foI_L)))
theorem fNd_sh {cs : List PV} (h : fNd.ok cs) : ∃ x0 x1 x2 x3 x4, cs = [SB x0, SB x1, I x2, I x3, I x4] ∧ foS.ok [SB x0] ∧ foS.ok [SB x1] ∧ foI.ok [I x2] ∧ foI.ok [I x3] ∧ foI.ok [I x4] := by
  obtain ⟨_, _, rfl, h0, g0⟩ := sq_split h
  obtain ⟨x0, rfl⟩ := foS_sh h0
  obtain ⟨_, _, rfl, h1, g1⟩ := sq_split g0
  obtain ⟨x1, rfl⟩ := foS_sh h1
  obtain ⟨_, _, rfl, h2, g2⟩ := sq_split g1
  obtain ⟨x2, rfl⟩ := foI_sh h2
  obtain ⟨_, _, rfl, h3, g3⟩ := sq_split g2
  obtain ⟨x3, rfl⟩ := foI_sh h3
  have h4 := g3
  obtain ⟨x4, rfl⟩ := foI_sh h4
  exact ⟨x0, x1, x2, x3, x4, rfl, h0, h1, h2, h3, h4⟩
theorem fNd_en (x0 : List UInt8) (x1 : List UInt8) (x2 : Int) (x3 : Int) (x4 : Int) : fNd.en [SB x0, SB x1, I x2, I x3, I x4] = foS.en [SB x0] ++ (foS.en [SB x1] ++ (foI.en [I x2] ++ (foI.en [I x3] ++ (foI.en [I x4])))) := rfl
/-! ### Part -/
def fPt : Fo := sq foI (sq fNd (sq foI fCf))
theorem fPt_L : FoL fPt := sq_L foI_L (sq_L fNd_L (sq_L foI_L fCf_L))
theorem fPt_sh {cs : List PV} (h : fPt.ok cs) : ∃ x0 x1 x2 x3 x4 x5 x6 x7 x8 x9 x10, cs = [I x0, SB x1, SB x2, I x3, I x4, I x5, I x6, I x7, I x8, I x9, .sl 4 x10] ∧ foI.ok [I x0] ∧ fNd.ok [SB x1, SB x2, I x3, I x4, I x5] ∧ foI.ok [I x6] ∧ fCf.ok [I x7, I x8, I x9, .sl 4 x10] := by
  obtain ⟨_, _, rfl, h0, g0⟩ := sq_split h
  obtain ⟨x0, rfl⟩ := foI_sh h0
  obtain ⟨_, _, rfl, h1, g1⟩ := sq_split g0
  obtain ⟨x1, x2, x3, x4, x5, rfl, -⟩ := fNd_sh h1
  obtain ⟨_, _, rfl, h2, g2⟩ := sq_split g1
  obtain ⟨x6, rfl⟩ := foI_sh h2
  have h3 := g2
  obtain ⟨x7, x8, x9, x10, rfl, -⟩ := fCf_sh h3
  exact ⟨x0, x1, x2, x3, x4, x5, x6, x7, x8, x9, x10, rfl, h0, h1, h2, h3⟩
theorem fPt_en (x0 : Int) (x1 : List UInt8) (x2 : List UInt8) (x3 : Int) (x4 : Int) (x5 : Int) (x6 : Int) (x7 : Int) (x8 : Int) (x9 : Int) (x10 : List (List PV)) : fPt.en [I x0, SB x1, SB x2, I x3, I x4, I x5, I x6, I x7, I x8, I x9, .sl 4 x10] = foI.en [I x0] ++ (fNd.en [SB x1, SB x2, I x3, I x4, I x5] ++ (foI.en [I x6] ++ (fCf.en [I x7, I x8, I x9, .sl 4 x10]))) := rfl
/-! ### Txn -/
def fTx : Fo := sq fZx (sq foI (sq foI (sq foI (sq foI (sq foS (fl 11 fPt))))))
theorem fTx_L : FoL fTx := sq_L fZx_L (sq_L foI_L (sq_L foI_L (sq_L foI_L (sq_L foI_L (sq_L foS_L (fl_L fPt_L 11))))))
theorem fTx_sh {cs : List PV} (h : fTx.ok cs) : ∃ x0 x1 x2 x3 x4 x5 x6 x7, cs = [I x0, I x1, I x2, I x3, I x4, I x5, SB x6, .sl 11 x7] ∧ fZx.ok [I x0, I x1] ∧ foI.ok [I x2] ∧ foI.ok [I x3] ∧ foI.ok [I x4] ∧ foI.ok [I x5] ∧ foS.ok [SB x6] ∧ (fl 11 fPt).ok [.sl 11 x7] := by
  obtain ⟨_, _, rfl, h0, g0⟩ := sq_split h
  obtain ⟨x0, x1, rfl, -⟩ := fZx_sh h0
  obtain ⟨_, _, rfl, h1, g1⟩ := sq_split g0
  obtain ⟨x2, rfl⟩ := foI_sh h1
  obtain ⟨_, _, rfl, h2, g2⟩ := sq_split g1
  obtain ⟨x3, rfl⟩ := foI_sh h2
  obtain ⟨_, _, rfl, h3, g3⟩ := sq_split g2
  obtain ⟨x4, rfl⟩ := foI_sh h3
  obtain ⟨_, _, rfl, h4, g4⟩ := sq_split g3
  obtain ⟨x5, rfl⟩ := foI_sh h4
  obtain ⟨_, _, rfl, h5, g5⟩ := sq_split g4
  obtain ⟨x6, rfl⟩ := foS_sh h5
  have h6 := g5
  obtain ⟨x7, rfl⟩ := fl_sh h6
  exact ⟨x0, x1, x2, x3, x4, x5, x6, x7, rfl, h0, h1, h2, h3, h4, h5, h6⟩
theorem fTx_en (x0 : Int) (x1 : Int) (x2 : Int) (x3 : Int) (x4 : Int) (x5 : Int) (x6 : List UInt8) (x7 : List (List PV)) : fTx.en [I x0, I x1, I x2, I x3, I x4, I x5, SB x6, .sl 11 x7] = fZx.en [I x0, I x1] ++ (foI.en [I x2] ++ (foI.en [I x3] ++ (foI.en [I x4] ++ (foI.en [I x5] ++ (foS.en [SB x6] ++ ((fl 11 fPt).en [.sl 11 x7])))))) := rfl
/-! ### State -/
def fSt : Fo := sq (fl 5 fNd) (sq (fl 1 foI) (sq foI (sq fCf fZx)))
theorem fSt_L : FoL fSt := sq_L (fl_L fNd_L 5) (sq_L (fl_L foI_L 1) (sq_L foI_L (sq_L fCf_L fZx_L)))
theorem fSt_sh {cs : List PV} (h : fSt.ok cs) : ∃ x0 x1 x2 x3 x4 x5 x6 x7 x8, cs = [.sl 5 x0, .sl 1 x1, I x2, I x3, I x4, I x5, .sl 4 x6, I x7, I x8] ∧ (fl 5 fNd).ok [.sl 5 x0] ∧ (fl 1 foI).ok [.sl 1 x1] ∧ foI.ok [I x2] ∧ fCf.ok [I x3, I x4, I x5, .sl 4 x6] ∧ fZx.ok [I x7, I x8] := by
  obtain ⟨_, _, rfl, h0, g0⟩ := sq_split h
  obtain ⟨x0, rfl⟩ := fl_sh h0
  obtain ⟨_, _, rfl, h1, g1⟩ := sq_split g0
  obtain ⟨x1, rfl⟩ := fl_sh h1
  obtain ⟨_, _, rfl, h2, g2⟩ := sq_split g1
  obtain ⟨x2, rfl⟩ := foI_sh h2
  obtain ⟨_, _, rfl, h3, g3⟩ := sq_split g2
  obtain ⟨x3, x4, x5, x6, rfl, -⟩ := fCf_sh h3
  have h4 := g3
  obtain ⟨x7, x8, rfl, -⟩ := fZx_sh h4
  exact ⟨x0, x1, x2, x3, x4, x5, x6, x7, x8, rfl, h0, h1, h2, h3, h4⟩
theorem fSt_en (x0 : List (List PV)) (x1 : List (List PV)) (x2 : Int) (x3 : Int) (x4 : Int) (x5 : Int) (x6 : List (List PV)) (x7 : Int) (x8 : Int) : fSt.en [.sl 5 x0, .sl 1 x1, I x2, I x3, I x4, I x5, .sl 4 x6, I x7, I x8] = (fl 5 fNd).en [.sl 5 x0] ++ ((fl 1 foI).en [.sl 1 x1] ++ (foI.en [I x2] ++ (fCf.en [I x3, I x4, I x5, .sl 4 x6] ++ (fZx.en [I x7, I x8])))) := rfl
/-! ### Op -/
def fOp : Fo := sq foI (sq foS (sq foS (sq foI (sq foB foB))))
theorem fOp_L : FoL fOp := sq_L foI_L (sq_L foS_L (sq_L foS_L (sq_L foI_L (sq_L foB_L foB_L))))
theorem fOp_sh {cs : List PV} (h : fOp.ok cs) : ∃ x0 x1 x2 x3 x4 x5, cs = [I x0, SB x1, SB x2, I x3, B x4, B x5] ∧ foI.ok [I x0] ∧ foS.ok [SB x1] ∧ foS.ok [SB x2] ∧ foI.ok [I x3] ∧ foB.ok [B x4] ∧ foB.ok [B x5] := by
  obtain ⟨_, _, rfl, h0, g0⟩ := sq_split h
  obtain ⟨x0, rfl⟩ := foI_sh h0
  obtain ⟨_, _, rfl, h1, g1⟩ := sq_split g0
  obtain ⟨x1, rfl⟩ := foS_sh h1
  obtain ⟨_, _, rfl, h2, g2⟩ := sq_split g1
  obtain ⟨x2, rfl⟩ := foS_sh h2
  obtain ⟨_, _, rfl, h3, g3⟩ := sq_split g2
  obtain ⟨x3, rfl⟩ := foI_sh h3
  obtain ⟨_, _, rfl, h4, g4⟩ := sq_split g3
  obtain ⟨x4, rfl⟩ := foB_sh h4
  have h5 := g4
  obtain ⟨x5, rfl⟩ := foB_sh h5
  exact ⟨x0, x1, x2, x3, x4, x5, rfl, h0, h1, h2, h3, h4, h5⟩
theorem fOp_en (x0 : Int) (x1 : List UInt8) (x2 : List UInt8) (x3 : Int) (x4 : Bool) (x5 : Bool) : fOp.en [I x0, SB x1, SB x2, I x3, B x4, B x5] = foI.en [I x0] ++ (foS.en [SB x1] ++ (foS.en [SB x2] ++ (foI.en [I x3] ++ (foB.en [B x4] ++ (foB.en [B x5]))))) := rfl
/-! ### Request -/
def fRq : Fo := sq foI (sq foI (sq foI (sq (fl 6 fOp) (sq foI (sq (fl 4 fMb) (sq (fl 1 foI) fZx))))))
theorem fRq_L : FoL fRq := sq_L foI_L (sq_L foI_L (sq_L foI_L (sq_L (fl_L fOp_L 6) (sq_L foI_L (sq_L (fl_L fMb_L 4) (sq_L (fl_L foI_L 1) fZx_L))))))
theorem fRq_sh {cs : List PV} (h : fRq.ok cs) : ∃ x0 x1 x2 x3 x4 x5 x6 x7 x8, cs = [I x0, I x1, I x2, .sl 6 x3, I x4, .sl 4 x5, .sl 1 x6, I x7, I x8] ∧ foI.ok [I x0] ∧ foI.ok [I x1] ∧ foI.ok [I x2] ∧ (fl 6 fOp).ok [.sl 6 x3] ∧ foI.ok [I x4] ∧ (fl 4 fMb).ok [.sl 4 x5] ∧ (fl 1 foI).ok [.sl 1 x6] ∧ fZx.ok [I x7, I x8] := by
  obtain ⟨_, _, rfl, h0, g0⟩ := sq_split h
  obtain ⟨x0, rfl⟩ := foI_sh h0
  obtain ⟨_, _, rfl, h1, g1⟩ := sq_split g0
  obtain ⟨x1, rfl⟩ := foI_sh h1
  obtain ⟨_, _, rfl, h2, g2⟩ := sq_split g1
  obtain ⟨x2, rfl⟩ := foI_sh h2
  obtain ⟨_, _, rfl, h3, g3⟩ := sq_split g2
  obtain ⟨x3, rfl⟩ := fl_sh h3
  obtain ⟨_, _, rfl, h4, g4⟩ := sq_split g3
  obtain ⟨x4, rfl⟩ := foI_sh h4
  obtain ⟨_, _, rfl, h5, g5⟩ := sq_split g4
  obtain ⟨x5, rfl⟩ := fl_sh h5
  obtain ⟨_, _, rfl, h6, g6⟩ := sq_split g5
  obtain ⟨x6, rfl⟩ := fl_sh h6
  have h7 := g6
  obtain ⟨x7, x8, rfl, -⟩ := fZx_sh h7
  exact ⟨x0, x1, x2, x3, x4, x5, x6, x7, x8, rfl, h0, h1, h2, h3, h4, h5, h6, h7⟩
theorem fRq_en (x0 : Int) (x1 : Int) (x2 : Int) (x3 : List (List PV)) (x4 : Int) (x5 : List (List PV)) (x6 : List (List PV)) (x7 : Int) (x8 : Int) : fRq.en [I x0, I x1, I x2, .sl 6 x3, I x4, .sl 4 x5, .sl 1 x6, I x7, I x8] = foI.en [I x0] ++ (foI.en [I x1] ++ (foI.en [I x2] ++ ((fl 6 fOp).en [.sl 6 x3] ++ (foI.en [I x4] ++ ((fl 4 fMb).en [.sl 4 x5] ++ ((fl 1 foI).en [.sl 1 x6] ++ (fZx.en [I x7, I x8]))))))) := rfl
/-! ### Vote -/
def fVt : Fo := sq foI (sq foI (sq foI (sq fZx (sq foI foI))))
theorem fVt_L : FoL fVt := sq_L foI_L (sq_L foI_L (sq_L foI_L (sq_L fZx_L (sq_L foI_L foI_L))))
theorem fVt_sh {cs : List PV} (h : fVt.ok cs) : ∃ x0 x1 x2 x3 x4 x5 x6, cs = [I x0, I x1, I x2, I x3, I x4, I x5, I x6] ∧ foI.ok [I x0] ∧ foI.ok [I x1] ∧ foI.ok [I x2] ∧ fZx.ok [I x3, I x4] ∧ foI.ok [I x5] ∧ foI.ok [I x6] := by
  obtain ⟨_, _, rfl, h0, g0⟩ := sq_split h
  obtain ⟨x0, rfl⟩ := foI_sh h0
  obtain ⟨_, _, rfl, h1, g1⟩ := sq_split g0
  obtain ⟨x1, rfl⟩ := foI_sh h1
  obtain ⟨_, _, rfl, h2, g2⟩ := sq_split g1
  obtain ⟨x2, rfl⟩ := foI_sh h2
  obtain ⟨_, _, rfl, h3, g3⟩ := sq_split g2
  obtain ⟨x3, x4, rfl, -⟩ := fZx_sh h3
  obtain ⟨_, _, rfl, h4, g4⟩ := sq_split g3
  obtain ⟨x5, rfl⟩ := foI_sh h4
  have h5 := g4
  obtain ⟨x6, rfl⟩ := foI_sh h5
  exact ⟨x0, x1, x2, x3, x4, x5, x6, rfl, h0, h1, h2, h3, h4, h5⟩
theorem fVt_en (x0 : Int) (x1 : Int) (x2 : Int) (x3 : Int) (x4 : Int) (x5 : Int) (x6 : Int) : fVt.en [I x0, I x1, I x2, I x3, I x4, I x5, I x6] = foI.en [I x0] ++ (foI.en [I x1] ++ (foI.en [I x2] ++ (fZx.en [I x3, I x4] ++ (foI.en [I x5] ++ (foI.en [I x6]))))) := rfl
/-! ### Plan -/
def fPl : Fo := sq foI (sq fZx (sq fSt (fl 8 fTx)))
theorem fPl_L : FoL fPl := sq_L foI_L (sq_L fZx_L (sq_L fSt_L (fl_L fTx_L 8)))
set_option maxHeartbeats 2000000 in
theorem fPl_sh {cs : List PV} (h : fPl.ok cs) : ∃ x0 x1 x2 x3 x4 x5 x6 x7 x8 x9 x10 x11 x12, cs = [I x0, I x1, I x2, .sl 5 x3, .sl 1 x4, I x5, I x6, I x7, I x8, .sl 4 x9, I x10, I x11, .sl 8 x12] ∧ foI.ok [I x0] ∧ fZx.ok [I x1, I x2] ∧ fSt.ok [.sl 5 x3, .sl 1 x4, I x5, I x6, I x7, I x8, .sl 4 x9, I x10, I x11] ∧ (fl 8 fTx).ok [.sl 8 x12] := by
  obtain ⟨_, _, rfl, h0, g0⟩ := sq_split h
  obtain ⟨x0, rfl⟩ := foI_sh h0
  obtain ⟨_, _, rfl, h1, g1⟩ := sq_split g0
  obtain ⟨x1, x2, rfl, -⟩ := fZx_sh h1
  obtain ⟨_, _, rfl, h2, g2⟩ := sq_split g1
  obtain ⟨x3, x4, x5, x6, x7, x8, x9, x10, x11, rfl, -⟩ := fSt_sh h2
  have h3 := g2
  obtain ⟨x12, rfl⟩ := fl_sh h3
  exact ⟨x0, x1, x2, x3, x4, x5, x6, x7, x8, x9, x10, x11, x12, rfl, h0, h1, h2, h3⟩
theorem fPl_en (x0 : Int) (x1 : Int) (x2 : Int) (x3 : List (List PV)) (x4 : List (List PV)) (x5 : Int) (x6 : Int) (x7 : Int) (x8 : Int) (x9 : List (List PV)) (x10 : Int) (x11 : Int) (x12 : List (List PV)) : fPl.en [I x0, I x1, I x2, .sl 5 x3, .sl 1 x4, I x5, I x6, I x7, I x8, .sl 4 x9, I x10, I x11, .sl 8 x12] = foI.en [I x0] ++ (fZx.en [I x1, I x2] ++ (fSt.en [.sl 5 x3, .sl 1 x4, I x5, I x6, I x7, I x8, .sl 4 x9, I x10, I x11] ++ ((fl 8 fTx).en [.sl 8 x12]))) := rfl
/-! ### Msg -/
def fMs : Fo := sq foI (sq foI (sq foI (sq fVt (sq foI (sq foI (sq fZx (sq (fl 2 fZx) (sq fPl (sq fTx (sq (fl 1 foI) fRq))))))))))
theorem fMs_L : FoL fMs := sq_L foI_L (sq_L foI_L (sq_L foI_L (sq_L fVt_L (sq_L foI_L (sq_L foI_L (sq_L fZx_L (sq_L (fl_L fZx_L 2) (sq_L fPl_L (sq_L fTx_L (sq_L (fl_L foI_L 1) fRq_L))))))))))
theorem fMs_n : fMs.n = 46 := rfl
set_option maxHeartbeats 2000000 in
theorem fMs_sh {cs : List PV} (h : fMs.ok cs) : ∃ x0 x1 x2 x3 x4 x5 x6 x7 x8 x9 x10 x11 x12 x13 x14 x15 x16 x17 x18 x19 x20 x21 x22 x23 x24 x25 x26 x27 x28 x29 x30 x31 x32 x33 x34 x35 x36 x37 x38 x39 x40 x41 x42 x43 x44 x45, cs = [I x0, I x1, I x2, I x3, I x4, I x5, I x6, I x7, I x8, I x9, I x10, I x11, I x12, I x13, .sl 2 x14, I x15, I x16, I x17, .sl 5 x18, .sl 1 x19, I x20, I x21, I x22, I x23, .sl 4 x24, I x25, I x26, .sl 8 x27, I x28, I x29, I x30, I x31, I x32, I x33, SB x34, .sl 11 x35, .sl 1 x36, I x37, I x38, I x39, .sl 6 x40, I x41, .sl 4 x42, .sl 1 x43, I x44, I x45] ∧ foI.ok [I x0] ∧ foI.ok [I x1] ∧ foI.ok [I x2] ∧ fVt.ok [I x3, I x4, I x5, I x6, I x7, I x8, I x9] ∧ foI.ok [I x10] ∧ foI.ok [I x11] ∧ fZx.ok [I x12, I x13] ∧ (fl 2 fZx).ok [.sl 2 x14] ∧ fPl.ok [I x15, I x16, I x17, .sl 5 x18, .sl 1 x19, I x20, I x21, I x22, I x23, .sl 4 x24, I x25, I x26, .sl 8 x27] ∧ fTx.ok [I x28, I x29, I x30, I x31, I x32, I x33, SB x34, .sl 11 x35] ∧ (fl 1 foI).ok [.sl 1 x36] ∧ fRq.ok [I x37, I x38, I x39, .sl 6 x40, I x41, .sl 4 x42, .sl 1 x43, I x44, I x45] := by
  obtain ⟨_, _, rfl, h0, g0⟩ := sq_split h
  obtain ⟨x0, rfl⟩ := foI_sh h0
  obtain ⟨_, _, rfl, h1, g1⟩ := sq_split g0
  obtain ⟨x1, rfl⟩ := foI_sh h1
  obtain ⟨_, _, rfl, h2, g2⟩ := sq_split g1
  obtain ⟨x2, rfl⟩ := foI_sh h2
  obtain ⟨_, _, rfl, h3, g3⟩ := sq_split g2
  obtain ⟨x3, x4, x5, x6, x7, x8, x9, rfl, -⟩ := fVt_sh h3
  obtain ⟨_, _, rfl, h4, g4⟩ := sq_split g3
  obtain ⟨x10, rfl⟩ := foI_sh h4
  obtain ⟨_, _, rfl, h5, g5⟩ := sq_split g4
  obtain ⟨x11, rfl⟩ := foI_sh h5
  obtain ⟨_, _, rfl, h6, g6⟩ := sq_split g5
  obtain ⟨x12, x13, rfl, -⟩ := fZx_sh h6
  obtain ⟨_, _, rfl, h7, g7⟩ := sq_split g6
  obtain ⟨x14, rfl⟩ := fl_sh h7
  obtain ⟨_, _, rfl, h8, g8⟩ := sq_split g7
  obtain ⟨x15, x16, x17, x18, x19, x20, x21, x22, x23, x24, x25, x26, x27, rfl, -⟩ := fPl_sh h8
  obtain ⟨_, _, rfl, h9, g9⟩ := sq_split g8
  obtain ⟨x28, x29, x30, x31, x32, x33, x34, x35, rfl, -⟩ := fTx_sh h9
  obtain ⟨_, _, rfl, h10, g10⟩ := sq_split g9
  obtain ⟨x36, rfl⟩ := fl_sh h10
  have h11 := g10
  obtain ⟨x37, x38, x39, x40, x41, x42, x43, x44, x45, rfl, -⟩ := fRq_sh h11
  exact ⟨x0, x1, x2, x3, x4, x5, x6, x7, x8, x9, x10, x11, x12, x13, x14, x15, x16, x17, x18, x19, x20, x21, x22, x23, x24, x25, x26, x27, x28, x29, x30, x31, x32, x33, x34, x35, x36, x37, x38, x39, x40, x41, x42, x43, x44, x45, rfl, h0, h1, h2, h3, h4, h5, h6, h7, h8, h9, h10, h11⟩
theorem fMs_en (x0 : Int) (x1 : Int) (x2 : Int) (x3 : Int) (x4 : Int) (x5 : Int) (x6 : Int) (x7 : Int) (x8 : Int) (x9 : Int) (x10 : Int) (x11 : Int) (x12 : Int) (x13 : Int) (x14 : List (List PV)) (x15 : Int) (x16 : Int) (x17 : Int) (x18 : List (List PV)) (x19 : List (List PV)) (x20 : Int) (x21 : Int) (x22 : Int) (x23 : Int) (x24 : List (List PV)) (x25 : Int) (x26 : Int) (x27 : List (List PV)) (x28 : Int) (x29 : Int) (x30 : Int) (x31 : Int) (x32 : Int) (x33 : Int) (x34 : List UInt8) (x35 : List (List PV)) (x36 : List (List PV)) (x37 : Int) (x38 : Int) (x39 : Int) (x40 : List (List PV)) (x41 : Int) (x42 : List (List PV)) (x43 : List (List PV)) (x44 : Int) (x45 : Int) : fMs.en [I x0, I x1, I x2, I x3, I x4, I x5, I x6, I x7, I x8, I x9, I x10, I x11, I x12, I x13, .sl 2 x14, I x15, I x16, I x17, .sl 5 x18, .sl 1 x19, I x20, I x21, I x22, I x23, .sl 4 x24, I x25, I x26, .sl 8 x27, I x28, I x29, I x30, I x31, I x32, I x33, SB x34, .sl 11 x35, .sl 1 x36, I x37, I x38, I x39, .sl 6 x40, I x41, .sl 4 x42, .sl 1 x43, I x44, I x45] = foI.en [I x0] ++ (foI.en [I x1] ++ (foI.en [I x2] ++ (fVt.en [I x3, I x4, I x5, I x6, I x7, I x8, I x9] ++ (foI.en [I x10] ++ (foI.en [I x11] ++ (fZx.en [I x12, I x13] ++ ((fl 2 fZx).en [.sl 2 x14] ++ (fPl.en [I x15, I x16, I x17, .sl 5 x18, .sl 1 x19, I x20, I x21, I x22, I x23, .sl 4 x24, I x25, I x26, .sl 8 x27] ++ (fTx.en [I x28, I x29, I x30, I x31, I x32, I x33, SB x34, .sl 11 x35] ++ ((fl 1 foI).en [.sl 1 x36] ++ (fRq.en [I x37, I x38, I x39, .sl 6 x40, I x41, .sl 4 x42, .sl 1 x43, I x44, I x45]))))))))))) := rfl
theorem flatMap_snoc {α : Type} {f : α → List UInt8} {l : List α} {k : Nat} (h : k < l.length) : (l.take (k + 1)).flatMap f = (l.take k).flatMap f ++ f l[k] := by
  rw [List.take_succ_eq_append_getElem h]; simp only [List.flatMap_append, List.flatMap_cons, List.flatMap_nil, List.append_nil]
theorem flatMap_take_le {α : Type} (f : α → List UInt8) (l : List α) (k : Nat) : ((l.take k).flatMap f).length ≤ (l.flatMap f).length := by
  have : l.flatMap f = (l.take k).flatMap f ++ (l.drop k).flatMap f := by rw [← List.flatMap_append, List.take_append_drop]
  rw [this, List.length_append]; omega
/-- A row is frozen ahead of an operation, once. -/
theorem wFrzR [Glob] {P : Program} {T : TypeId → Option Ty} {N : Nat} {ops : Array Oper} {o : Oper} {rest : List Oper} {st : St} {K : St → Prop} {Z : Value → St → Prop} (b : Nat) {e c : Nat} (X : List (List PV)) (hb : st.b b = some (.row e c X)) (h : WO P T N ops (o :: rest) (Av.frz st b c X) K Z) : WO P T N ops (o :: rest) st K Z := by
  refine wFrz [.frz b] ?_
  have e0 : frzL st [.frz b] = Av.frz st b c X := by simp only [frzL, gh1, hb]
  rw [e0]
  exact h
end Go.Proofs.Ytechjohebkcjiaa
/- Records: what the laws let pass, and how many bytes that are at most. -/
namespace Go.Proofs.Ytechjohebkcjiaa
set_option linter.unusedSimpArgs false
set_option linter.unusedVariables false
set_option maxRecDepth 8000
open Go Go.Av
attribute [local simp] Try.T1 Try.T2 Try.T3 Try.T4 Try.T5 Try.T9 Try.T12 Try.T15 Try.T16 Try.T17 Try.T21 Try.T22 Try.T23 Try.T24 Try.T25 Try.T27 Try.T29 Try.T30 Try.T31 Try.T32 Try.T33 Try.T35 Try.T37 Try.T38 Try.T40 Try.T41 Try.T42 Try.T44 Try.T45 Try.T47 Try.T49 Try.T51 Try.T53 Try.T54 Try.T55 Try.T56 Try.T57 Try.T58 Try.T59 Try.T60 Try.T61 Try.T62 Try.T63 Try.T64 Try.T66 Try.T67 Try.T68 Try.T69 Try.T70 Try.T72 Try.T74 Try.T76 Try.T77 Try.T78 Try.T79 Try.T80 Try.T81 Try.T82 Try.T83 Try.T84 Try.T85 Try.T87 Try.T88 Try.T89 Try.T90 Try.T91 Try.T92 Try.T93 Try.T94 Try.T96 Try.T97 Try.T98 Try.T99 Try.T100 Try.T101 Try.T102 Try.T103 Try.T104 Try.T105 Try.T106 Try.T107 Try.T108 Try.T109 Try.T110 Try.T111 Try.T113 Try.T114 Try.T115 Try.T116 Try.T117 Try.T118 Try.T119 Try.T120 Try.T121 Try.T122 Try.T123 Try.T124 Try.T125 Try.T126 Try.T127 Try.T128 Try.T129 Try.T130 Try.T133 Try.T136 Try.T137 Try.T140 Try.T141
attribute [local irreducible] Go.Av.CallK Go.Av.CallE Go.Av.CallQ Go.Av.CallF Go.Av.CallR Go.Av.CallH Go.Av.Con
def lenP : PV → Nat
  | .sl _ l => l.length
  | .v (.string s) => s.data.toList.length
  | _ => 0
@[simp] theorem lenP_sl (c : Nat) (l : List (List PV)) : lenP (.sl c l) = l.length := rfl
@[simp] theorem lenP_SB (l : List UInt8) : lenP (SB l) = l.length := by show (bs l).data.toList.length = _; rw [bs_list]
def rowsP : PV → List (List PV)
  | .sl _ l => l
  | _ => []
@[simp] theorem rowsP_sl (c : Nat) (l : List (List PV)) : rowsP (.sl c l) = l := rfl
theorem sum_snoc {α : Type} (f : α → Nat) {l : List α} {k : Nat} (h : k < l.length) : ((l.take (k + 1)).map f).sum = ((l.take k).map f).sum + f l[k] := by
  rw [List.take_succ_eq_append_getElem h, List.map_append, List.sum_append]; simp
theorem sum_le {α : Type} {f g : α → Nat} {l : List α} (h : ∀ x ∈ l, f x ≤ g x) : (l.map f).sum ≤ (l.map g).sum := by
  induction l with
  | nil => simp
  | cons x l ih =>
    have := h x List.mem_cons_self
    have := ih fun y hy => h y (List.mem_cons_of_mem _ hy)
    simp only [List.map_cons, List.sum_cons]; omega
theorem sum_const {α : Type} (c : Nat) (l : List α) : (l.map fun _ => c).sum = c * l.length := by
  induction l with
  | nil => simp
  | cons x l ih => simp only [List.map_cons, List.sum_cons, ih, List.length_cons, Nat.mul_succ]; omega
theorem sum_mul {α : Type} (c : Nat) (f : α → Nat) (l : List α) : (l.map fun x => c * f x).sum = c * (l.map f).sum := by
  induction l with
  | nil => simp
  | cons x l ih => simp only [List.map_cons, List.sum_cons, ih, Nat.mul_add]
theorem sum_add {α : Type} (f g : α → Nat) (l : List α) : (l.map fun x => f x + g x).sum = (l.map f).sum + (l.map g).sum := by
  induction l with
  | nil => simp
  | cons x l ih => simp only [List.map_cons, List.sum_cons, ih]; omega
theorem mem_sum {α : Type} (f : α → Nat) {l : List α} {x : α} (h : x ∈ l) : f x ≤ (l.map f).sum := by
  induction l with
  | nil => cases h
  | cons y l ih =>
    simp only [List.map_cons, List.sum_cons]
    rcases List.mem_cons.1 h with rfl | h
    · omega
    · have := ih h; omega
/-! ### Bytes by weight -/
theorem szMb (r : List PV) : fMb.sz r = 40 := rfl
theorem szZx (r : List PV) : fZx.sz r = 20 := rfl
theorem szI (r : List PV) : foI.sz r = 10 := rfl
theorem szl_const {f : Fo} {c : Nat} (h : ∀ r, f.sz r = c) (n : Nat) (rows : List (List PV)) : (fl n f).sz [.sl n rows] = 10 + c * rows.length := by
  rw [fl_sz, show f.sz = fun _ => c from funext h, sum_const]
end Go.Proofs.Ytechjohebkcjiaa
