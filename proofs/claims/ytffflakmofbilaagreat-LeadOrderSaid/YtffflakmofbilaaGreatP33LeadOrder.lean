/- Texts that the proof needs: LEO LE1 LDB LD7 LZ. -/
import Derived.Test.YtffflakmofbilaaGreatP31LeadOrder
import Derived.Test.YtffflakmofbilaaGreatP32LeadOrder
import Derived.Test.YtffflakmofbilaaGreatP30LeadOrder
import Derived.Test.YtffflakmofbilaaGreatP27LeadOrder
namespace Go.Proofs.YtffflakmofbilaaGreat
set_option linter.unusedVariables false
open Go Go.Av Go.ChangeShapes Go.WideShapes Go.ChangeAt Go.RowKit
def KB (c : Nat) : Nat := 1
theorem hpos : PosK Tryz.T KB := by
 intro t yt e y h hk hy hs
 unfold Tryz.T at h
 split at h
 all_goals first|(cases h;done)|(cases h;cases hk;done)|(cases h;cases hk;cases hy;first | exact of_decide_eq_true (by kernel_rfl))
theorem Mb.ofL {ps : List PV} (h : ShL [.int .i64, .int .i64, .int .i64, .int .i64] ps) : ∃ a : Mb, ps = a.cells := by
 obtain ⟨_,_,rfl,h0,h⟩:=h.cons
 obtain ⟨_,_,rfl,h1,h⟩:=h.cons
 obtain ⟨_,_,rfl,h2,h⟩:=h.cons
 obtain ⟨_,_,rfl,h3,h⟩:=h.cons
 obtain rfl:=h.nil
 obtain ⟨_,rfl,-⟩:=h0.intI
 obtain ⟨_,rfl,-⟩:=h1.intI
 obtain ⟨_,rfl,-⟩:=h2.intI
 obtain ⟨_,rfl,-⟩:=h3.intI
 exact ⟨⟨_,_,_,_⟩,rfl⟩
abbrev LMb : Lf := .sl [.int .i64, .int .i64, .int .i64, .int .i64]
abbrev LZn : List Lf := [.str, .str, .int .i64, .int .i64, .int .i64]
abbrev LPt : List Lf := [.int .i64, .str, .str, .int .i64, .int .i64, .int .i64, .int .i64, .int .i64, .int .i64, .int .i64, LMb]
abbrev LTx : List Lf := [.int .i64, .int .i64, .int .i64, .int .i64, .int .i64, .int .i64, .str, .sl LPt]
theorem Pt.ofL {ps : List PV} (h : ShL LPt ps) : ∃ a : Pt, ps = a.cells := by
 obtain ⟨_,_,rfl,h0,h⟩:=h.cons
 obtain ⟨_,_,rfl,h1,h⟩:=h.cons
 obtain ⟨_,_,rfl,h2,h⟩:=h.cons
 obtain ⟨_,_,rfl,h3,h⟩:=h.cons
 obtain ⟨_,_,rfl,h4,h⟩:=h.cons
 obtain ⟨_,_,rfl,h5,h⟩:=h.cons
 obtain ⟨_,_,rfl,h6,h⟩:=h.cons
 obtain ⟨_,_,rfl,h7,h⟩:=h.cons
 obtain ⟨_,_,rfl,h8,h⟩:=h.cons
 obtain ⟨_,_,rfl,h9,h⟩:=h.cons
 obtain ⟨_,_,rfl,h10,h⟩:=h.cons
 obtain rfl:=h.nil
 obtain ⟨_,rfl,-⟩:=h0.intI
 obtain ⟨s1,rfl,-⟩:=h1.strI
 obtain ⟨s2,rfl,-⟩:=h2.strI
 obtain ⟨_,rfl,-⟩:=h3.intI
 obtain ⟨_,rfl,-⟩:=h4.intI
 obtain ⟨_,rfl,-⟩:=h5.intI
 obtain ⟨_,rfl,-⟩:=h6.intI
 obtain ⟨_,rfl,-⟩:=h7.intI
 obtain ⟨_,rfl,-⟩:=h8.intI
 obtain ⟨_,rfl,-⟩:=h9.intI
 obtain ⟨l,rfl⟩:=h10.slI (f:=Mb.cells) fun ps h=>Mb.ofL h
 exact ⟨⟨_,⟨s1.data.toList,s2.data.toList,_,_,_⟩,_,⟨_,_,_,l⟩⟩,rfl⟩
theorem Tx.ofL {ps : List PV} (h : ShL LTx ps) : ∃ a : Tx, ps = a.cells := by
 obtain ⟨_,_,rfl,h0,h⟩:=h.cons
 obtain ⟨_,_,rfl,h1,h⟩:=h.cons
 obtain ⟨_,_,rfl,h2,h⟩:=h.cons
 obtain ⟨_,_,rfl,h3,h⟩:=h.cons
 obtain ⟨_,_,rfl,h4,h⟩:=h.cons
 obtain ⟨_,_,rfl,h5,h⟩:=h.cons
 obtain ⟨_,_,rfl,h6,h⟩:=h.cons
 obtain ⟨_,_,rfl,h7,h⟩:=h.cons
 obtain rfl:=h.nil
 obtain ⟨_,rfl,-⟩:=h0.intI
 obtain ⟨_,rfl,-⟩:=h1.intI
 obtain ⟨_,rfl,-⟩:=h2.intI
 obtain ⟨_,rfl,-⟩:=h3.intI
 obtain ⟨_,rfl,-⟩:=h4.intI
 obtain ⟨_,rfl,-⟩:=h5.intI
 obtain ⟨s,rfl,-⟩:=h6.strI
 obtain ⟨l,rfl⟩:=h7.slI (f:=Pt.cells) fun ps h=>Pt.ofL h
 exact ⟨⟨_,_,_,_,_,_,s.data.toList,l⟩,rfl⟩
theorem Zn.ofL' {ps : List PV} (h : ShL LZn ps) : ∃ a : Zn, ps = a.c := by
 obtain ⟨a,h⟩:=Zn.ofL h
 exact ⟨a.1,h⟩
theorem szLe {N c : Nat} {l : List (List PV)} (h : SzI KB N (.sl c l)) : l.length <= N := by
 have:=h.len
 have h1 : 1 <= KB c:=by unfold KB;omega
 have:=Nat.le_mul_of_pos_right l.length (show 0 < KB c by omega)
 omega
abbrev LZx : List Lf := [.int .i64, .int .i64]
theorem Zx.ofL {ps : List PV} (h : ShL LZx ps) : ∃ a : Zx, ps = [I a.e, I a.n] := by
 obtain ⟨_,_,rfl,h0,h⟩:=h.cons
 obtain ⟨_,_,rfl,h1,h⟩:=h.cons
 obtain rfl:=h.nil
 obtain ⟨_,rfl,-⟩:=h0.intI
 obtain ⟨_,rfl,-⟩:=h1.intI
 exact ⟨⟨_,_⟩,rfl⟩
abbrev LOp : List Lf := [.int .i64, .str, .str, .int .i64, .bool, .bool]
abbrev LEv : List Lf := [.int .i64, .int .i64, .int .i64, .int .i64, .int .i64, .int .i64, .int .i64, .int .i64, .int .i64, .int .i64, .int .i64, .int .i64, .int .i64, .int .i64, .int .i64, .int .i64, .sl LZx, .int .i64, .int .i64, .int .i64, .sl LZn, .sl [.int .i64], .int .i64, .int .i64, .int .i64, .int .i64, LMb, .int .i64, .int .i64, .sl LTx, .int .i64, .int .i64, .int .i64, .int .i64, .int .i64, .int .i64, .str, .sl LPt, .sl [.int .i64], .int .i64, .int .i64, .int .i64, .sl LOp, .int .i64, LMb, .sl [.int .i64], .int .i64, .int .i64, .int .i64, .int .i64, .int .i64, .int .i64, .int .i64, .int .i64, .str, .sl LPt]
set_option maxHeartbeats 1000000 in
theorem Ev21.ofL {ps : List PV} (h : ShL LEv ps) : ∃ a : Ev21, ps = a.cells := by
 obtain ⟨_,_,rfl,h0,h⟩:=h.cons
 obtain ⟨_,_,rfl,h1,h⟩:=h.cons
 obtain ⟨_,_,rfl,h2,h⟩:=h.cons
 obtain ⟨_,_,rfl,h3,h⟩:=h.cons
 obtain ⟨_,_,rfl,h4,h⟩:=h.cons
 obtain ⟨_,_,rfl,h5,h⟩:=h.cons
 obtain ⟨_,_,rfl,h6,h⟩:=h.cons
 obtain ⟨_,_,rfl,h7,h⟩:=h.cons
 obtain ⟨_,_,rfl,h8,h⟩:=h.cons
 obtain ⟨_,_,rfl,h9,h⟩:=h.cons
 obtain ⟨_,_,rfl,h10,h⟩:=h.cons
 obtain ⟨_,_,rfl,h11,h⟩:=h.cons
 obtain ⟨_,_,rfl,h12,h⟩:=h.cons
 obtain ⟨_,_,rfl,h13,h⟩:=h.cons
 obtain ⟨_,_,rfl,h14,h⟩:=h.cons
 obtain ⟨_,_,rfl,h15,h⟩:=h.cons
 obtain ⟨_,_,rfl,h16,h⟩:=h.cons
 obtain ⟨_,_,rfl,h17,h⟩:=h.cons
 obtain ⟨_,_,rfl,h18,h⟩:=h.cons
 obtain ⟨_,_,rfl,h19,h⟩:=h.cons
 obtain ⟨_,_,rfl,h20,h⟩:=h.cons
 obtain ⟨_,_,rfl,h21,h⟩:=h.cons
 obtain ⟨_,_,rfl,h22,h⟩:=h.cons
 obtain ⟨_,_,rfl,h23,h⟩:=h.cons
 obtain ⟨_,_,rfl,h24,h⟩:=h.cons
 obtain ⟨_,_,rfl,h25,h⟩:=h.cons
 obtain ⟨_,_,rfl,h26,h⟩:=h.cons
 obtain ⟨_,_,rfl,h27,h⟩:=h.cons
 obtain ⟨_,_,rfl,h28,h⟩:=h.cons
 obtain ⟨_,_,rfl,h29,h⟩:=h.cons
 obtain ⟨_,_,rfl,h30,h⟩:=h.cons
 obtain ⟨_,_,rfl,h31,h⟩:=h.cons
 obtain ⟨_,_,rfl,h32,h⟩:=h.cons
 obtain ⟨_,_,rfl,h33,h⟩:=h.cons
 obtain ⟨_,_,rfl,h34,h⟩:=h.cons
 obtain ⟨_,_,rfl,h35,h⟩:=h.cons
 obtain ⟨_,_,rfl,h36,h⟩:=h.cons
 obtain ⟨_,_,rfl,h37,h⟩:=h.cons
 obtain ⟨_,_,rfl,h38,h⟩:=h.cons
 obtain ⟨_,_,rfl,h39,h⟩:=h.cons
 obtain ⟨_,_,rfl,h40,h⟩:=h.cons
 obtain ⟨_,_,rfl,h41,h⟩:=h.cons
 obtain ⟨_,_,rfl,h42,h⟩:=h.cons
 obtain ⟨_,_,rfl,h43,h⟩:=h.cons
 obtain ⟨_,_,rfl,h44,h⟩:=h.cons
 obtain ⟨_,_,rfl,h45,h⟩:=h.cons
 obtain ⟨_,_,rfl,h46,h⟩:=h.cons
 obtain ⟨_,_,rfl,h47,h⟩:=h.cons
 obtain ⟨_,_,rfl,h48,h⟩:=h.cons
 obtain ⟨_,_,rfl,h49,h⟩:=h.cons
 obtain ⟨_,_,rfl,h50,h⟩:=h.cons
 obtain ⟨_,_,rfl,h51,h⟩:=h.cons
 obtain ⟨_,_,rfl,h52,h⟩:=h.cons
 obtain ⟨_,_,rfl,h53,h⟩:=h.cons
 obtain ⟨_,_,rfl,h54,h⟩:=h.cons
 obtain ⟨_,_,rfl,h55,h⟩:=h.cons
 obtain rfl:=h.nil
 obtain ⟨x0,rfl,-⟩:=h0.intI
 obtain ⟨x1,rfl,-⟩:=h1.intI
 obtain ⟨x2,rfl,-⟩:=h2.intI
 obtain ⟨x3,rfl,-⟩:=h3.intI
 obtain ⟨x4,rfl,-⟩:=h4.intI
 obtain ⟨x5,rfl,-⟩:=h5.intI
 obtain ⟨x6,rfl,-⟩:=h6.intI
 obtain ⟨x7,rfl,-⟩:=h7.intI
 obtain ⟨x8,rfl,-⟩:=h8.intI
 obtain ⟨x9,rfl,-⟩:=h9.intI
 obtain ⟨x10,rfl,-⟩:=h10.intI
 obtain ⟨x11,rfl,-⟩:=h11.intI
 obtain ⟨x12,rfl,-⟩:=h12.intI
 obtain ⟨x13,rfl,-⟩:=h13.intI
 obtain ⟨x14,rfl,-⟩:=h14.intI
 obtain ⟨x15,rfl,-⟩:=h15.intI
 obtain ⟨x16,rfl⟩:=h16.slI (f:=fun z : Zx=>[I z.e,I z.n]) fun ps h=>Zx.ofL h
 obtain ⟨x17,rfl,-⟩:=h17.intI
 obtain ⟨x18,rfl,-⟩:=h18.intI
 obtain ⟨x19,rfl,-⟩:=h19.intI
 obtain ⟨x20,rfl⟩:=h20.slI (f:=Zn.c) fun ps h=>Zn.ofL' h
 obtain ⟨x21, rfl⟩ := h21.slI (f := fun n : Int => [I n]) fun ps h => by
  obtain ⟨_,_,rfl,h0,h⟩:=h.cons
  obtain rfl:=h.nil
  obtain ⟨n,rfl,-⟩:=h0.intI
  exact ⟨n,rfl⟩
 obtain ⟨x22,rfl,-⟩:=h22.intI
 obtain ⟨x23,rfl,-⟩:=h23.intI
 obtain ⟨x24,rfl,-⟩:=h24.intI
 obtain ⟨x25,rfl,-⟩:=h25.intI
 obtain ⟨x26,rfl⟩:=h26.slI (f:=Mb.cells) fun ps h=>Mb.ofL h
 obtain ⟨x27,rfl,-⟩:=h27.intI
 obtain ⟨x28,rfl,-⟩:=h28.intI
 obtain ⟨x29,rfl⟩:=h29.slI (f:=Tx.cells) fun ps h=>Tx.ofL h
 obtain ⟨x30,rfl,-⟩:=h30.intI
 obtain ⟨x31,rfl,-⟩:=h31.intI
 obtain ⟨x32,rfl,-⟩:=h32.intI
 obtain ⟨x33,rfl,-⟩:=h33.intI
 obtain ⟨x34,rfl,-⟩:=h34.intI
 obtain ⟨x35,rfl,-⟩:=h35.intI
 obtain ⟨x36,rfl,-⟩:=h36.strI
 obtain ⟨x37,rfl⟩:=h37.slI (f:=Pt.cells) fun ps h=>Pt.ofL h
 obtain ⟨x38,rfl⟩:=h38.slI (f:=fun r : List PV=>r) fun ps h=>⟨ps,rfl⟩
 rw [List.map_id'] at *
 obtain ⟨x39,rfl,-⟩:=h39.intI
 obtain ⟨x40,rfl,-⟩:=h40.intI
 obtain ⟨x41,rfl,-⟩:=h41.intI
 obtain ⟨x42,rfl⟩:=h42.slI (f:=fun r : List PV=>r) fun ps h=>⟨ps,rfl⟩
 rw [List.map_id'] at *
 obtain ⟨x43,rfl,-⟩:=h43.intI
 obtain ⟨x44,rfl⟩:=h44.slI (f:=fun r : List PV=>r) fun ps h=>⟨ps,rfl⟩
 rw [List.map_id'] at *
 obtain ⟨x45,rfl⟩:=h45.slI (f:=fun r : List PV=>r) fun ps h=>⟨ps,rfl⟩
 rw [List.map_id'] at *
 obtain ⟨x46,rfl,-⟩:=h46.intI
 obtain ⟨x47,rfl,-⟩:=h47.intI
 obtain ⟨x48,rfl,-⟩:=h48.intI
 obtain ⟨x49,rfl,-⟩:=h49.intI
 obtain ⟨x50,rfl,-⟩:=h50.intI
 obtain ⟨x51,rfl,-⟩:=h51.intI
 obtain ⟨x52,rfl,-⟩:=h52.intI
 obtain ⟨x53,rfl,-⟩:=h53.intI
 obtain ⟨x54,rfl,-⟩:=h54.strI
 obtain ⟨x55,rfl⟩:=h55.slI (f:=Pt.cells) fun ps h=>Pt.ofL h
 exact ⟨⟨x0,x1,⟨x2,x3,x4,x5,x6,x7,x8,x9,x10,x11,x12,x13,⟨x14,x15⟩,x16,x17,⟨x18,x19⟩,⟨x20,x21,x22,⟨x23,x24,x25,x26⟩,x27,x28⟩,x29,⟨x30,x31,x32,x33,x34,x35,x36.data.toList,x37⟩,x38,x39,x40,x41,x42,x43,x44,x45,x46,x47⟩,⟨x48,x49,x50,x51,x52,x53,x54.data.toList,x55⟩⟩,rfl⟩
abbrev LWh : List Lf := [.int .i64, .int .i64, .int .i64, .sl LZn, .sl [.int .i64], .int .i64, .int .i64, .int .i64, .int .i64, LMb, .int .i64, .int .i64, .sl LTx]
set_option maxHeartbeats 1000000 in
theorem Wh.ofL {ps : List PV} (h : ShL LWh ps) : ∃ a : Wh, ps = a.cells := by
 obtain ⟨_,_,rfl,h0,h⟩:=h.cons
 obtain ⟨_,_,rfl,h1,h⟩:=h.cons
 obtain ⟨_,_,rfl,h2,h⟩:=h.cons
 obtain ⟨_,_,rfl,h3,h⟩:=h.cons
 obtain ⟨_,_,rfl,h4,h⟩:=h.cons
 obtain ⟨_,_,rfl,h5,h⟩:=h.cons
 obtain ⟨_,_,rfl,h6,h⟩:=h.cons
 obtain ⟨_,_,rfl,h7,h⟩:=h.cons
 obtain ⟨_,_,rfl,h8,h⟩:=h.cons
 obtain ⟨_,_,rfl,h9,h⟩:=h.cons
 obtain ⟨_,_,rfl,h10,h⟩:=h.cons
 obtain ⟨_,_,rfl,h11,h⟩:=h.cons
 obtain ⟨_,_,rfl,h12,h⟩:=h.cons
 obtain rfl:=h.nil
 obtain ⟨x0,rfl,-⟩:=h0.intI
 obtain ⟨x1,rfl,-⟩:=h1.intI
 obtain ⟨x2,rfl,-⟩:=h2.intI
 obtain ⟨x3,rfl⟩:=h3.slI (f:=Zn.c) fun ps h=>Zn.ofL' h
 obtain ⟨x4, rfl⟩ := h4.slI (f := fun n : Int => [I n]) fun ps h => by
  obtain ⟨_,_,rfl,h0,h⟩:=h.cons
  obtain rfl:=h.nil
  obtain ⟨n,rfl,-⟩:=h0.intI
  exact ⟨n,rfl⟩
 obtain ⟨x5,rfl,-⟩:=h5.intI
 obtain ⟨x6,rfl,-⟩:=h6.intI
 obtain ⟨x7,rfl,-⟩:=h7.intI
 obtain ⟨x8,rfl,-⟩:=h8.intI
 obtain ⟨x9,rfl⟩:=h9.slI (f:=Mb.cells) fun ps h=>Mb.ofL h
 obtain ⟨x10,rfl,-⟩:=h10.intI
 obtain ⟨x11,rfl,-⟩:=h11.intI
 obtain ⟨x12,rfl⟩:=h12.slI (f:=Tx.cells) fun ps h=>Tx.ofL h
 exact ⟨⟨x0,x1,x2,⟨⟨x3,x4,x5,⟨x6,x7,x8,x9⟩,x10,x11⟩,x12⟩⟩,rfl⟩
theorem who_open {p : PV} (hp : ShT Tryz.T 35 p) : ∃ w : Wh, p = .agg w.cells := by
 obtain ⟨ps,rfl,h⟩:=hp.agg (E:=LWh) rfl rfl rfl
 obtain ⟨s,rfl⟩:=Wh.ofL h
 exact ⟨s,rfl⟩
theorem evs_open {p : PV} (hp : ShT Tryz.T 36 p) : ∃ l : List Ev21, p = .sl 56 (evsC l) :=
 (hp.one (f:=.sl LEv) rfl rfl rfl).slI (f:=Ev21.cells) fun ps h=>Ev21.ofL h
theorem SmallE.of {e : Ev21} (h5 : SzI KB reachBytes (.sl 5 (zns e.m.pim.ns))) (h1 : SzI KB reachBytes (.sl 1 (ints e.m.pim.ss))) (h4 : SzI KB reachBytes (.sl 4 (mbs e.m.pim.c.ms))) (h8 : SzI KB reachBytes (.sl 8 (yW e.m.pl))) (h11 : SzI KB reachBytes (.sl 11 (pts e.m.tx.ps))) (h12 : SzI KB reachBytes (.sl 11 (pts e.t.ps))) : SmallE e := by
 have hr : reachBytes = 140737488351232:=rfl
 have k5:=szLe h5
 have k1:=szLe h1
 have k4:=szLe h4
 rw [zns_len] at k5
 rw [ints_len] at k1
 rw [mbs_len] at k4
 have key : ∀ t : Tx, SzI KB reachBytes (.sl 11 (pts t.ps)) -> t.ps.length <= 140737488355328 /\ ∀ p ∈ t.ps, p.c.ms.length <= 140737488355328 := fun t h => by
  have g5:=szLe h
  rw [pts_len] at g5
  refine ⟨by omega,fun p hp=>?_⟩
  have g6:=szLe (h.at (e:=p.cells) (List.mem_map.2 ⟨p,hp,rfl⟩) (p:=.sl 4 (mbs p.c.ms)) (by simp [Pt.cells]))
  rw [mbs_len] at g6
  omega
 refine ⟨⟨by simp only;omega,by simp only;omega,by simp only;omega,fun t ht=>key t ?_⟩,⟨by simp,by simp,by simp,fun t ht=>key t ?_⟩,⟨by simp,by simp,by simp,fun t ht=>key t ?_⟩⟩
 ·exact h8.at (e:=t.cells) (List.mem_map.2 ⟨t,ht,rfl⟩) (p:=.sl 11 (pts t.ps)) (by simp [Tx.cells])
 ·rw [List.mem_singleton.1 ht];exact h11
 ·rw [List.mem_singleton.1 ht];exact h12
theorem SmallE.ofL {l : List Ev21} (hz : SzI KB reachBytes (.sl 56 (evsC l))) : ∀ e ∈ l, SmallE e := fun e he => by
 have key : ∀ q ∈ e.cells,SzI KB reachBytes q:=fun q hq=>hz.at (e:=e.cells) (List.mem_map.2 ⟨e,he,rfl⟩) hq
 exact .of (key _ (by simp [Ev21.cells])) (key _ (by simp [Ev21.cells])) (key _ (by simp [Ev21.cells])) (key _ (by simp [Ev21.cells])) (key _ (by simp [Ev21.cells])) (key _ (by simp [Ev21.cells]))
theorem SmallH.ofW {w : Wh} (hz : SzI KB reachBytes (.agg w.cells)) : SmallH w.h := by
 have hr : reachBytes = 140737488351232:=rfl
 have h1:=szLe (hz.part (p:=.sl 5 (zns w.h.im.ns)) (by simp [Wh.cells]))
 have h2:=szLe (hz.part (p:=.sl 1 (ints w.h.im.ss)) (by simp [Wh.cells]))
 have h3:=szLe (hz.part (p:=.sl 4 (mbs w.h.im.c.ms)) (by simp [Wh.cells]))
 rw [zns_len] at h1
 rw [ints_len] at h2
 rw [mbs_len] at h3
 refine ⟨by omega,by omega,by omega,fun t ht=>?_⟩
 have h4:=(hz.part (p:=.sl 8 (yW w.h.lg)) (by simp [Wh.cells])).at (e:=t.cells) (List.mem_map.2 ⟨t,ht,rfl⟩) (p:=.sl 11 (pts t.ps)) (by simp [Tx.cells])
 have h5:=szLe h4
 rw [pts_len] at h5
 refine ⟨by omega,fun p hp=>?_⟩
 have h6:=szLe (h4.at (e:=p.cells) (List.mem_map.2 ⟨p,hp,rfl⟩) (p:=.sl 4 (mbs p.c.ms)) (by simp [Pt.cells]))
 rw [mbs_len] at h6
 omega
end Go.Proofs.YtffflakmofbilaaGreat
namespace Go.Proofs.YtffflakmofbilaaGreat
set_option linter.unusedSimpArgs false
set_option linter.unusedVariables false
open Go Go.Av
def Srt (l : List Lr) : Prop := l.Pairwise fun x y => x.id < y.id
theorem layL_lt {a x : Lr} {l : List Lr} (h : a.id < x.id) : xK (a :: l) x = a :: xK l x := by
 unfold xK wQ
 rw [List.takeWhile_cons,if_pos (decide_eq_true h),List.filter_cons,if_pos (by simp;omega)]
 rfl
theorem layL_ge {a x : Lr} {l : List Lr} (h : ¬ a.id < x.id) : xK (a :: l) x = x :: wQ (a :: l) x.id := by
 unfold xK
 rw [List.takeWhile_cons,if_neg (by simpa using h)]
 rfl
theorem vJ {l : List Lr} {x y : Lr} : y ∈ xK l x ↔ y = x \/ (y ∈ l /\ ¬ y.id = x.id) := by
 unfold xK
 generalize (l.takeWhile fun y=>decide (y.id < x.id)).length = n
 have hb : y ∈ wQ l x.id ↔ y ∈ l /\ ¬ y.id = x.id:=by unfold wQ;simp
 rw [<- hb]
 conv=>rhs;rw [<- List.take_append_drop n (wQ l x.id)]
 simp only [List.mem_append,List.mem_cons]
 constructor
 ·rintro (h | h | h)
  ·exact .inr (.inl h)
  ·exact .inl h
  ·exact .inr (.inr h)
 ·rintro (h | h | h)
  ·exact .inr (.inl h)
  ·exact .inl h
  ·exact .inr (.inr h)
theorem srt_lay : ∀ {l : List Lr} {x : Lr}, Srt l -> Srt (xK l x)
 | [],x,_=>by simp [xK,wQ,Srt]
 | a :: l, x, h => by
  have h1:=List.pairwise_cons.1 h
  by_cases o : a.id < x.id
  ·rw [layL_lt o]
   refine List.pairwise_cons.2 ⟨fun y hy=>?_,srt_lay h1.2⟩
   rcases vJ.1 hy with rfl | ⟨hy,-⟩
   ·exact o
   ·exact h1.1 y hy
  ·rw [layL_ge o]
   refine List.pairwise_cons.2 ⟨fun y hy=>?_,h.sublist List.filter_sublist⟩
   have hm:=List.mem_filter.1 hy
   have hne : ¬ y.id = x.id:=by simpa using hm.2
   rcases List.mem_cons.1 hm.1 with rfl | hy'
   ·omega
   ·have:=h1.1 y hy';omega
theorem layL_end : ∀ {l : List Lr} {x : Lr}, (∀ y ∈ l, y.id < x.id) -> xK l x = l ++ [x]
 | [],x,_=>by simp [xK,wQ]
 | a :: l, x, h => by
  rw [layL_lt (h a (List.mem_cons_self ..)),layL_end fun y hy=>h y (List.mem_cons_of_mem _ hy)];rfl
theorem wP {l : List Lr} (h : Srt l) : yU l = l := by
 have key : ∀ (l a : List Lr), Srt (a ++ l) -> l.foldl xK a = a ++ l := by
  intro l
  induction l with
  | nil=>intro a _;simp
  | cons x l ih =>
   intro a h
   rw [List.foldl_cons,layL_end fun y hy=>(List.pairwise_append.1 h).2.2 y hy x (List.mem_cons_self ..),ih _ (by simpa using h)]
   simp
 exact key l [] h
theorem srt_len : ∀ {l : List Lr} {a : Int}, Srt l -> (∀ y ∈ l, a <= y.id /\ y.id < 16) -> a <= 16 -> (l.length : Int) <= 16 - a
 | [],a,_,_,ha=>by simp;omega
 | x :: l, a, h, hb, ha => by
  have h1:=List.pairwise_cons.1 h
  have hx:=hb x (List.mem_cons_self ..)
  have:=srt_len (l:=l) (a:=x.id + 1) h1.2 (fun y hy=>⟨by have:=h1.1 y hy;omega,(hb y (List.mem_cons_of_mem _ hy)).2⟩) (by omega)
  simp only [List.length_cons];omega
theorem srt_map {l : List Lr} {f : Lr -> Lr} (hf : ∀ x, (f x).id = x.id) (h : Srt l) : Srt (l.map f) := by
 unfold Srt
 rw [List.pairwise_map]
 simp only [hf]
 exact h
theorem srt_but {l : List Lr} (h : Srt l) (n : Int) : Srt (wQ l n) := h.sublist List.filter_sublist
theorem srt_uniq {l : List Lr} (h : Srt l) {x y : Lr} (hx : x ∈ l) (hy : y ∈ l) (hi : x.id = y.id) : x = y := by
 induction l with
 | nil=>cases hx
 | cons a l ih =>
  have h1:=List.pairwise_cons.1 h
  rcases List.mem_cons.1 hx with rfl | hx' <;> rcases List.mem_cons.1 hy with rfl | hy'
  ·rfl
  ·have:=h1.1 y hy';omega
  ·have:=h1.1 x hx';omega
  ·exact ih h1.2 hx' hy'
theorem filter_lay {l : List Lr} {x : Lr} (P : Lr -> Bool) (h : Srt l) (hx : P x = false) (hy : ∀ y ∈ l, y.id = x.id -> P y = false) : (xK l x).filter P = l.filter P := by
 unfold xK
 generalize (l.takeWhile fun y=>decide (y.id < x.id)).length = n
 rw [List.filter_append,List.filter_cons,if_neg (by simp [hx]),<- List.filter_append,List.take_append_drop]
 unfold wQ
 rw [List.filter_filter]
 refine List.filter_congr fun y hym=>?_
 by_cases o : y.id = x.id
 ·simp [hy y hym o]
 ·simp [o]
end Go.Proofs.YtffflakmofbilaaGreat
namespace Go.Proofs.YtffflakmofbilaaGreat
set_option linter.unusedSimpArgs false
set_option linter.unusedVariables false
set_option maxRecDepth 8000
open Go Go.Av
attribute [local irreducible] Go.Av.yA Go.Av.zR Go.Av.xZ Go.Av.zJ Go.Av.xV Go.Av.zG Go.Av.Con
@[simp] theorem lBx_len (p : Lq) (X : V) (g : Bool) : (lBx p X g).length = 40 := rfl
@[simp high] theorem lBx_id (p : Lq) (X : V) (g : Bool) : (lBx p X g)[0]? = some (.p (I p.id)) := rfl
@[simp high] theorem lBx_ac (p : Lq) (X : V) (g : Bool) : (lBx p X g)[1]? = some (.p (I p.ac)) := rfl
@[simp high] theorem lBx_cu (p : Lq) (X : V) (g : Bool) : (lBx p X g)[2]? = some (.p (I p.cu)) := rfl
@[simp high] theorem lBx_mo (p : Lq) (X : V) (g : Bool) : (lBx p X g)[15]? = some (.p (I p.mo)) := rfl
@[simp high] theorem lBx_ld (p : Lq) (X : V) (g : Bool) : (lBx p X g)[33]? = some (.p (I p.ld)) := rfl
@[simp high] theorem lBx_ph (p : Lq) (X : V) (g : Bool) : (lBx p X g)[34]? = some (.p (I p.ph)) := rfl
@[simp high] theorem lBx_wt (p : Lq) (X : V) (g : Bool) : (lBx p X g)[35]? = some (.p (I p.wt)) := rfl
@[simp high] theorem lBx_ep (p : Lq) (X : V) (g : Bool) : (lBx p X g)[36]? = some (.p (I p.ep)) := rfl
@[simp high] theorem lBx_ls (p : Lq) (X : V) (g : Bool) : (lBx p X g)[37]? = some (.p (.sl 8 (lrs p.ls))) := rfl
@[simp high] theorem lBx_X (p : Lq) (X : V) (g : Bool) : (lBx p X g)[38]? = some X := rfl
@[simp high] theorem lBx_g (p : Lq) (X : V) (g : Bool) : (lBx p X g)[39]? = some (.p (B g)) := rfl
@[simp high] theorem lBx_h (p : Lq) (X : V) (g : Bool) : uL (((lBx p X g).drop 3).take 10) = some p.h.cells := rfl
@[simp high] theorem lBx_h' (p : Lq) (X : V) (g : Bool) : uL (((lBx p X g).take 13).drop 3) = some p.h.cells := rfl
@[simp high] theorem lBx_d (p : Lq) (X : V) (g : Bool) : uL (((lBx p X g).drop 13).take 2) = some [I p.d.e, I p.d.n] := rfl
@[simp high] theorem lBx_d' (p : Lq) (X : V) (g : Bool) : uL (((lBx p X g).take 15).drop 13) = some [I p.d.e, I p.d.n] := rfl
@[simp high] theorem lBx_p (p : Lq) (X : V) (g : Bool) : uL ((lBx p X g).take 38) = some p.cells := rfl
@[simp] theorem hyC_len (h : Hy) : h.cells.length = 10 := rfl
@[simp high] theorem lBx_ren (p : Lq) (X : V) (g : Bool) (r s : Nat -> Option Nat) : (lBx p X g).map (zX r s) = lBx p (zX r s X) g := rfl
@[simp high] theorem lBx_scr (p : Lq) (X : V) (g : Bool) (b : Nat) : (lBx p X g).map (yR b) = lBx p (yR b X) g := rfl
@[simp high] theorem lBx_sub (p : Lq) (X : V) (g : Bool) (b : Nat) (q : PV) : (lBx p X g).map (xM b q) = lBx p (xM b q X) g := rfl
@[simp high] theorem lBx_subx (p : Lq) (X : V) (g : Bool) (b : Nat) (es : List PV) : (lBx p X g).map (subx0 b es) = lBx p (subx0 b es X) g := rfl
@[simp high] theorem lBx_s_id (p : Lq) (X : V) (g : Bool) (n : Int) : stB (lBx p X g) [.p (I n)] 0 = some (lBx { p with id := n } X g) := rfl
@[simp high] theorem lBx_s_ac (p : Lq) (X : V) (g : Bool) (n : Int) : stB (lBx p X g) [.p (I n)] 1 = some (lBx { p with ac := n } X g) := rfl
@[simp high] theorem lBx_s_cu (p : Lq) (X : V) (g : Bool) (n : Int) : stB (lBx p X g) [.p (I n)] 2 = some (lBx { p with cu := n } X g) := rfl
@[simp high] theorem lBx_s_mo (p : Lq) (X : V) (g : Bool) (n : Int) : stB (lBx p X g) [.p (I n)] 15 = some (lBx { p with mo := n } X g) := rfl
@[simp high] theorem lBx_s_ld (p : Lq) (X : V) (g : Bool) (n : Int) : stB (lBx p X g) [.p (I n)] 33 = some (lBx { p with ld := n } X g) := rfl
@[simp high] theorem lBx_s_ph (p : Lq) (X : V) (g : Bool) (n : Int) : stB (lBx p X g) [.p (I n)] 34 = some (lBx { p with ph := n } X g) := rfl
@[simp high] theorem lBx_s_wt (p : Lq) (X : V) (g : Bool) (n : Int) : stB (lBx p X g) [.p (I n)] 35 = some (lBx { p with wt := n } X g) := rfl
@[simp high] theorem lBx_s_ep (p : Lq) (X : V) (g : Bool) (n : Int) : stB (lBx p X g) [.p (I n)] 36 = some (lBx { p with ep := n } X g) := rfl
@[simp high] theorem lBx_s_g (p : Lq) (X : V) (g b : Bool) : stB (lBx p X g) [.p (B b)] 39 = some (lBx p X b) := rfl
@[simp high] theorem lBx_s_X (p : Lq) (X Y : V) (g : Bool) : stB (lBx p X g) [Y] 38 = some (lBx p Y g) := rfl
@[simp high] theorem lBx_s_ls (p : Lq) (X : V) (g : Bool) (l : List Lr) : stB (lBx p X g) [.p (.sl 8 (lrs l))] 37 = some (lBx { p with ls := l } X g) := rfl
@[simp high] theorem lBx_s_d (p : Lq) (X : V) (g : Bool) (a b : Int) : stB (lBx p X g) [.p (I a), .p (I b)] 13 = some (lBx { p with d := ⟨a, b⟩ } X g) := rfl
@[simp high] theorem lBx_s_h (p : Lq) (X : V) (g : Bool) (h : Hy) : stB (lBx p X g) (h.cells.map .p) 3 = some (lBx { p with h := h } X g) := rfl
@[simp] theorem zx_eta (z : Zx) : (⟨z.e, z.n⟩ : Zx) = z := rfl
@[simp high] theorem lBx_t_id (p : Lq) (X : V) (g : Bool) (n : Int) : List.take 0 (lBx p X g) ++ V.p (I n) :: List.drop 1 (lBx p X g) = lBx { p with id := n } X g := rfl
@[simp high] theorem lBx_t_ac (p : Lq) (X : V) (g : Bool) (n : Int) : List.take 1 (lBx p X g) ++ V.p (I n) :: List.drop 2 (lBx p X g) = lBx { p with ac := n } X g := rfl
@[simp high] theorem lBx_t_cu (p : Lq) (X : V) (g : Bool) (n : Int) : List.take 2 (lBx p X g) ++ V.p (I n) :: List.drop 3 (lBx p X g) = lBx { p with cu := n } X g := rfl
@[simp high] theorem lBx_t_mo (p : Lq) (X : V) (g : Bool) (n : Int) : List.take 15 (lBx p X g) ++ V.p (I n) :: List.drop 16 (lBx p X g) = lBx { p with mo := n } X g := rfl
@[simp high] theorem lBx_t_ld (p : Lq) (X : V) (g : Bool) (n : Int) : List.take 33 (lBx p X g) ++ V.p (I n) :: List.drop 34 (lBx p X g) = lBx { p with ld := n } X g := rfl
@[simp high] theorem lBx_t_ph (p : Lq) (X : V) (g : Bool) (n : Int) : List.take 34 (lBx p X g) ++ V.p (I n) :: List.drop 35 (lBx p X g) = lBx { p with ph := n } X g := rfl
@[simp high] theorem lBx_t_wt (p : Lq) (X : V) (g : Bool) (n : Int) : List.take 35 (lBx p X g) ++ V.p (I n) :: List.drop 36 (lBx p X g) = lBx { p with wt := n } X g := rfl
@[simp high] theorem lBx_t_ep (p : Lq) (X : V) (g : Bool) (n : Int) : List.take 36 (lBx p X g) ++ V.p (I n) :: List.drop 37 (lBx p X g) = lBx { p with ep := n } X g := rfl
@[simp high] theorem lBx_t_g (p : Lq) (X : V) (g b : Bool) : List.take 39 (lBx p X g) ++ V.p (B b) :: List.drop 40 (lBx p X g) = lBx p X b := rfl
@[simp high] theorem lBx_t_X (p : Lq) (X Y : V) (g : Bool) : List.take 38 (lBx p X g) ++ Y :: List.drop 39 (lBx p X g) = lBx p Y g := rfl
@[simp high] theorem lBx_t_ls (p : Lq) (X : V) (g : Bool) (l : List Lr) : List.take 37 (lBx p X g) ++ V.p (.sl 8 (lrs l)) :: List.drop 38 (lBx p X g) = lBx { p with ls := l } X g := rfl
@[simp high] theorem lBx_t_d (p : Lq) (X : V) (g : Bool) (a b : Int) : List.take 13 (lBx p X g) ++ V.p (I a) :: V.p (I b) :: List.drop 15 (lBx p X g) = lBx { p with d := ⟨a, b⟩ } X g := rfl
@[simp high] theorem lBx_t_h (p : Lq) (X : V) (g : Bool) (h : Hy) : List.take 3 (lBx p X g) ++ (h.cells.map V.p ++ List.drop 13 (lBx p X g)) = lBx { p with h := h } X g := rfl
def lqCc (p : Lq) (c : Nat) (O : List (List PV)) (g : Bool) : List PV := [I p.id, I p.ac, I p.cu, .sl 5 (zns p.h.im.ns), .sl 1 (ints p.h.im.ss), I p.h.im.nx, I p.h.im.c.ep, I p.h.im.c.n, I p.h.im.c.kind, .sl 4 (mbs p.h.im.c.ms), I p.h.im.ae, I p.h.im.an, .sl 8 (yW p.h.lg), I p.d.e, I p.d.n, I p.mo, I 0, I 0, I 0, I 0, I 0, I 0, I 0, I 0, I 0, I 0, I 0, I 0, I 0, I 0, I 0, I 0, .sl 7 [], I p.ld, I p.ph, I p.wt, I p.ep, .sl 8 (lrs p.ls), .sl c O, B g]
theorem lqCc_46 (p : Lq) (O : List (List PV)) (g : Bool) : lqCc p 46 O g = lqC p O g := rfl
@[simp high] theorem lendC_lBx' (st : St) (p : Lq) (b : Nat) (g : Bool) : vT st (lBx p (.row b) g) = match st.b b with | some (.row _ c l) => some (lqCc p c l g) | _ => none := by
 simp only [lBx,vT,lqCc]
 cases st.b b with
 | none=>rfl
 | some blk=>cases blk <;> rfl
theorem needsA_con (p : Lq) (O : List (List PV)) (g : Bool) (hk : OkH p.h) : zB Tryz.prog 81 [.rptr (lqC p O g) 0] (.p (.sl 4 (cfs (yX p.h p.d.e p.d.n)))) := by
 have c1:=needs_con p.h p.d.e p.d.n hk
 generalize cfs (yX p.h p.d.e p.d.n) = C at *
 unfold Hy.cells at c1
 unfold lqC
 refine zK Tryz.tab Tryz.mixed Tryz.func81 rfl rfl Tryz.ntmps81 (by simp) (by simp) fun Q hr hn=>?_
 repeat' first|(refine zJ.pure (c1) rfl ?_)|(refine hK _ ?_;clear hK)|(refine zT fun K hK=>?_)|((first | refine zS ?_ | refine yZ rfl (by kernel_rfl) ?_);simp only [tZ,tY,strip])|((first | refine wOs fun K hK=>?_ | refine wQs fun K hK=>?_ | refine zM ?_);simp)|(refine zL ?_;try simp)|((first | refine wOn ?_ | refine wQn ?_);try simp only [zZ])
 all_goals apply hr
 all_goals simp [Tryz.f81]
theorem enoughA_con (p : Lq) (O : List (List PV)) (g : Bool) (set : List Int) (hk : OkH p.h) (hn' : (yX p.h p.d.e p.d.n).length <= 1000) (hm : ∀ c ∈ yX p.h p.d.e p.d.n, c.ms.length <= 1000000) : zB Tryz.prog 65 [.rptr (lqC p O g) 0, .p (.sl 1 (ints set))] (.p (B (yS p set))) := by
 have c1:=needsA_con p O g hk
 have c2:=all_con (yX p.h p.d.e p.d.n) set hn' hm
 unfold yS
 generalize allQ (yX p.h p.d.e p.d.n) set = b at *
 generalize cfs (yX p.h p.d.e p.d.n) = C at *
 generalize lqC p O g = L at *
 refine zK Tryz.tab Tryz.mixed Tryz.func65 rfl rfl Tryz.ntmps65 (by simp) (by simp) fun Q hr hn=>?_
 repeat' first|(refine zR.pure (c1) rfl ?_)|(refine zR.pure (c2) rfl ?_)|(refine hK _ ?_;clear hK)|(refine zT fun K hK=>?_)|(refine zS ?_;simp only [tZ,tY,strip])|((first | refine wOs fun K hK=>?_ | refine zY ?_);simp)|(refine zL ?_;try simp)|(refine wOn ?_;try simp only [zZ])
 all_goals apply hr
 all_goals simp [Tryz.f65]
abbrev pW (p : Lq) (q : PV) (g : Bool) : List Blk := [.box 101 (lBx p (.p q) g)]
theorem needsP_con (p : Lq) (q : PV) (g : Bool) (hk : OkH p.h) : Con Tryz.prog 81 [.ptr 1024 0] (pW p q g) (.ret (.p (.sl 4 (cfs (yX p.h p.d.e p.d.n)))) [] (pW p q g)) := by
 have c1:=needs_con p.h p.d.e p.d.n hk
 generalize cfs (yX p.h p.d.e p.d.n) = C at *
 unfold pW
 refine zE Tryz.tab Tryz.mixed Tryz.func81 rfl rfl Tryz.ntmps81 (by simp) (by simp) fun Q hr hn hp=>?_
 repeat' first|(refine zJ.pure (c1) rfl ?_)|(refine hK _ ?_;clear hK)|(refine zT fun K hK=>?_)|((first | refine zS ?_ | refine yZ rfl (by kernel_rfl) ?_);simp only [tZ,tY,strip])|((first | refine wOs fun K hK=>?_ | refine wQs fun K hK=>?_ | refine zM ?_);simp)|(refine zL ?_;try simp)|((first | refine wOn ?_ | refine wQn ?_);try simp only [zZ])
 all_goals first | apply hr
 all_goals refine ⟨[],by simp,by simp,?_⟩
 all_goals simp [Tryz.f81,yL,yM,zO,zX]
theorem vX (p : Lq) (q : PV) (g : Bool) (hk : OkH p.h) : Con Tryz.prog 50 [.ptr 1024 0] (pW p q g) (.ret (.clo ⟨82, false⟩ [.rp [.sl 1 (ints (zI p))] 0]) [] (pW p q g)) := by
 have c1:=needsP_con p q g hk
 have c2:=voting_con (yX p.h p.d.e p.d.n) (by have:=endN_len (nsOf p.h p.h.lg) p.d.e p.d.n;unfold yX;omega) (fun c hc=>by have:=needs_ok hk p.d.e p.d.n c hc;omega)
 unfold zI
 generalize voteL (yX p.h p.d.e p.d.n) = V at *
 generalize cfs (yX p.h p.d.e p.d.n) = C at *
 unfold pW at *
 refine zE Tryz.tab Tryz.mixed Tryz.func50 rfl rfl Tryz.ntmps50 (by simp) (by simp) fun Q hr hn hp=>?_
 repeat' first|(refine zV [1024] (c1) (by decide) (by decide) (by simp [zQ,zO,zX]) (by simp [zN,zH,zX,inN,pos]) ⟨[],by simp,by simp,?_⟩;simp [lv,kpI,kpR,pos,ren,zX])|(refine zR.pure (c2) rfl ?_)|(refine wFrzX 3 rfl rfl ?_;simp [frzx,subx,subx0])|(refine hK _ ?_;clear hK)|(refine zT fun K hK=>?_)|(refine zS ?_;simp only [tZ,tY,strip])|((first | refine wOs fun K hK=>?_ | refine zY ?_);simp)|(refine zL ?_;try simp)|(refine wOn ?_;try simp only [zZ])
 all_goals first | apply hr
 all_goals refine ⟨[],by simp,by simp,?_⟩
 all_goals simp [Tryz.f50,yL,yM,zO,zX,wS,xY]
set_option maxHeartbeats 4000000 in
theorem stay_con {n b : Nat} {s : Sq} (h : OkS n b s) : Con Tryz.prog 88 [.ptr 1024 0] (sqW s) (.ret (.tup []) [] (sqW (vD s))) := by
 have c1:=fun x=>needsP_con s.p (.v x) s.g h.hk
 have c2:=fun x=>vX s.p (.v x) s.g h.hk
 have c3:=xD (zI s.p) s.p.id
 obtain ⟨p,g,o⟩:=s
 unfold vD
 have hq : stayQ p = decide ((yX p.h p.d.e p.d.n).length = 1 /\ ¬ p.id ∈ zI p):=rfl
 have hlen:=cfs_len (yX p.h p.d.e p.d.n)
 simp only [sqW,lW,pW] at *
 generalize zI p = V at *
 generalize cfs (yX p.h p.d.e p.d.n) = C at *
 clear h
 by_cases h1 : (yX p.h p.d.e p.d.n).length = 1
 ·have h1' : (((yX p.h p.d.e p.d.n).length : Int) = 1) = True := eq_true (by omega)
  by_cases h2 : p.id ∈ V
  ·rw [hq, decide_eq_false (fun h => h.2 h2)]
   rw [decide_eq_true h2] at c3
   simp only [Bool.false_eq_true,if_false]
   clear hq h1 h2
   refine zE Tryz.tab Tryz.mixed Tryz.func88 rfl rfl Tryz.ntmps88 (by simp) (by simp) fun Q hr hn hp=>?_
   repeat' first|(refine yY 1024 1025 (lBx p (.row 1025) g) (rfl) (rfl) rfl (by simp [zN,zH,zX,inN,pos]) (fun x _=>c1 x) rfl ?_)|(refine yY 1024 1025 (lBx p (.row 1025) g) (rfl) (rfl) rfl (by simp [zN,zH,zX,inN,pos]) (fun x _=>c2 x) rfl ?_)|(refine zJ.pure (c3) rfl ?_)|(refine hK _ ?_;clear hK)|(refine zT fun K hK=>?_)|((first | refine yZ rfl (by kernel_rfl) ?_);simp only [tZ,tY,strip])|((first | refine wQs fun K hK=>?_ | refine zM ?_ | refine zW ?_);simp [hlen,h1'])|(refine zP ?_;try simp)|(refine wQn ?_;try simp only [zZ])
   all_goals first | apply hn
   all_goals refine ⟨[],by simp,by simp,?_⟩
   all_goals simp [Tryz.f88,yL,yM,zO,gaN,zX]
  ·rw [hq, decide_eq_true ⟨h1, h2⟩]
   rw [decide_eq_false h2] at c3
   simp only [if_true]
   clear hq h1 h2
   refine zE Tryz.tab Tryz.mixed Tryz.func88 rfl rfl Tryz.ntmps88 (by simp) (by simp) fun Q hr hn hp=>?_
   repeat' first|(refine yY 1024 1025 (lBx p (.row 1025) g) (rfl) (rfl) rfl (by simp [zN,zH,zX,inN,pos]) (fun x _=>c1 x) rfl ?_)|(refine yY 1024 1025 (lBx p (.row 1025) g) (rfl) (rfl) rfl (by simp [zN,zH,zX,inN,pos]) (fun x _=>c2 x) rfl ?_)|(refine zJ.pure (c3) rfl ?_)|(refine hK _ ?_;clear hK)|(refine zT fun K hK=>?_)|((first | refine zS ?_ | refine yZ rfl (by kernel_rfl) ?_);simp only [tZ,tY,strip])|((first | refine wOs fun K hK=>?_ | refine wQs fun K hK=>?_ | refine zM ?_ | refine zW ?_);simp [hlen,h1'])|((first | refine wOn ?_ | refine wQn ?_);try simp only [zZ])
   all_goals first | apply hn
   all_goals refine ⟨[],by simp,by simp,?_⟩
   all_goals simp [Tryz.f88,yL,yM,zO,gaN,zX]
 ·have h1' : (((yX p.h p.d.e p.d.n).length : Int) = 1) = False := eq_false (by omega)
  rw [hq,decide_eq_false (fun h=>h1 h.1)]
  simp only [Bool.false_eq_true,if_false]
  clear hq h1
  refine zE Tryz.tab Tryz.mixed Tryz.func88 rfl rfl Tryz.ntmps88 (by simp) (by simp) fun Q hr hn hp=>?_
  repeat' first|(refine yY 1024 1025 (lBx p (.row 1025) g) (rfl) (rfl) rfl (by simp [zN,zH,zX,inN,pos]) (fun x _=>c1 x) rfl ?_)|(refine hK _ ?_;clear hK)|(refine zT fun K hK=>?_)|((first | refine yZ rfl (by kernel_rfl) ?_);simp only [tZ,tY,strip])|((first | refine wQs fun K hK=>?_ | refine zW ?_);simp [hlen,h1'])|(refine zP ?_;try simp)|(refine wQn ?_;try simp only [zZ])
  all_goals first | apply hn
  all_goals refine ⟨[],by simp,by simp,?_⟩
  all_goals simp [Tryz.f88,yL,yM,zO,gaN,zX]
set_option maxHeartbeats 4000000 in
theorem plan_con {n b : Nat} {s : Sq} (h : OkS n b s) (x : Lr) (hx : x.ms.length <= 1000000) (hn' : n <= 100000) (hb : b <= 100000) : Con Tryz.prog 101 [.ptr 1024 0, .p (.agg x.cells)] (sqW s) (.ret (.tup []) [] (sqW (vB s x))) := by
 have c1:=fun y=>vX s.p (.v y) s.g h.hk
 have c3:=xD (zI s.p) x.id
 have c4:=upto_con s.p.h s.p.d h.hk
 have c5:=make_con (vU s.p x.id) x.ms (planH_ok h.hk x.id) hx
 have hH : vU s.p x.id = if x.id ∈ zI s.p then s.p.h else uptoH s.p.h s.p.d:=rfl
 have c6:=send_con s.p s.g s.o x.id (planM (xE (vU s.p x.id) x.ms)) (by have:=h.lo;omega)
 have c7:=uT s.p s.g (s.o ++ [yH s.p x.id (planM (xE (vU s.p x.id) x.ms))]) { x with ph:=3 } (by have:=h.ll;omega) h.lm hx
 rw [makeP_eq] at c5
 have hplan : vB s x = ⟨{ s.p with ls:=xK s.p.ls { x with ph:=3 } },s.g,s.o ++ [yH s.p x.id (planM (xE (vU s.p x.id) x.ms))]⟩:=rfl
 rw [hplan]
 clear hplan h
 obtain ⟨p,g,o⟩:=s
 dsimp only at *
 simp only [sqW,lW,pW] at *
 generalize zI p = V at *
 generalize zD (o ++ [yH p x.id (planM (xE (vU p x.id) x.ms))]) = O2 at *
 generalize zD o = O at *
 generalize xE (vU p x.id) x.ms = M at *
 generalize xK p.ls { x with ph:=3 } = L2 at *
 unfold planM mgK mgZ Mg.cells at c6
 unfold Lr.cells at c7 ⊢
 dsimp only at c6 c7 ⊢
 simp only [show zxs [] = [] from rfl,show pts [] = [] from rfl] at c6
 by_cases h2 : x.id ∈ V
 ·rw [if_pos h2] at hH
  rw [decide_eq_true h2] at c3
  rw [hH] at c5
  clear c4 hH h2
  refine zE Tryz.tab Tryz.mixed Tryz.func101 rfl rfl Tryz.ntmps101 (by simp) (by simp) fun Q hr hn hp=>?_
  repeat' first|(refine yY 1024 1025 (lBx p (.row 1025) g) (rfl) (rfl) rfl (by simp [zN,zH,zX,inN,pos]) (fun x _=>c1 x) rfl ?_)|(refine zJ.pure (c3) rfl ?_)|(refine zJ.pure (c5) rfl ?_)|(refine wDrwT (id:=4) 8 (by kernel_rfl) ?_;simp only [tZ,tY,strip,List.take_succ_cons,List.take_zero,List.drop_succ_cons,List.drop_zero])|(refine zV [1024,1025] (c6) (by decide) (by decide) (by simp [zQ,inN,pos,zO,zX]) (by simp [zN,zH,zX,inN,pos]) ⟨[],by simp,by simp,?_⟩;simp [lv,kpI,kpR,pos,ren,zX])|(refine zV [1024,1025] (c7) (by decide) (by decide) (by simp [zQ,inN,pos,zO,zX,ouN]) (by simp [zN,zH,zX,inN,pos]) ⟨[],by simp,by simp,?_⟩;simp [lv,kpI,kpR,pos,ren,zX])|(refine hK _ ?_;clear hK)|(refine zT fun K hK=>?_)|((first | refine zS ?_ | refine yZ rfl (by kernel_rfl) ?_);simp only [tZ,tY,strip])|((first | refine wOs fun K hK=>?_ | refine wQs fun K hK=>?_ | refine zM ?_ | refine zW ?_);simp [zX,zO])|(refine zP ?_;try simp)|((first | refine wOn ?_ | refine wQn ?_);try simp only [zZ])
  all_goals first | apply hn
  all_goals refine ⟨[],by simp,by simp,?_⟩
  all_goals simp [Tryz.f101,yL,yM,zO,gaN,ouN,zX]
 ·rw [if_neg h2] at hH
  rw [decide_eq_false h2] at c3
  rw [hH] at c5
  generalize uptoH p.h p.d = UH at *
  clear hH h2
  refine zE Tryz.tab Tryz.mixed Tryz.func101 rfl rfl Tryz.ntmps101 (by simp) (by simp) fun Q hr hn hp=>?_
  repeat' first|(refine yY 1024 1025 (lBx p (.row 1025) g) (rfl) (rfl) rfl (by simp [zN,zH,zX,inN,pos]) (fun x _=>c1 x) rfl ?_)|(refine zJ.pure (c3) rfl ?_)|(refine zG.pure (c4) rfl ?_)|(refine zJ.pure (c5) rfl ?_)|(refine wDrwT (id:=4) 8 (by kernel_rfl) ?_;simp only [tZ,tY,strip,List.take_succ_cons,List.take_zero,List.drop_succ_cons,List.drop_zero])|(refine zV [1024,1025] (c6) (by decide) (by decide) (by simp [zQ,inN,pos,zO,zX]) (by simp [zN,zH,zX,inN,pos]) ⟨[],by simp,by simp,?_⟩;simp [lv,kpI,kpR,pos,ren,zX])|(refine zV [1024,1025] (c7) (by decide) (by decide) (by simp [zQ,inN,pos,zO,zX,ouN]) (by simp [zN,zH,zX,inN,pos]) ⟨[],by simp,by simp,?_⟩;simp [lv,kpI,kpR,pos,ren,zX])|(refine hK _ ?_;clear hK)|(refine hK _ _ ?_;clear hK)|(refine zT fun K hK=>?_)|((first | refine zS ?_ | refine yZ rfl (by kernel_rfl) ?_ | refine yI ?_);simp only [tZ,tY,strip])|((first | refine wIs fun K hK=>?_ | refine wOs fun K hK=>?_ | refine wQs fun K hK=>?_ | refine zM ?_ | refine zF ?_ | refine zW ?_);simp [zX,zO])|(refine wIn ?_;refine And.intro (by kernel_rfl) ?_;try simp only [zZ])|((first | refine wOn ?_ | refine wQn ?_);try simp only [zZ])
  all_goals first | apply hn
  all_goals refine ⟨[],by simp,by simp,?_⟩
  all_goals simp [Tryz.f101,yL,yM,zO,gaN,ouN,zX]
def idxZ (z : Zx) (l : List Zx) : Int := match plc z l 0 with
 | some n=>n
 | none=>-1
theorem indexZ_con (l : List Zx) (z : Zx) : zB Tryz.prog 141 [.p (.sl 2 (zxs l)), .p (.agg [I z.e, I z.n])] (.p (I (idxZ z l))) := by
 refine zB.len ⟨Tryz.f141,Tryz.func141,rfl,rfl⟩ 0 _ _ rfl fun hlen=>?_
 simp only [zxs_len] at hlen
 refine zK Tryz.tab Tryz.mixed Tryz.func141 rfl rfl Tryz.ntmps141 (by simp) (by simp) fun Q hr hn=>?_
 repeat' first|(refine hK _ ?_;clear hK)|(refine zT fun K hK=>?_)|(refine zS ?_;simp only [tZ,tY,strip])|(refine wOs fun K hK=>?_;simp)|(first | refine zU ?_)|(refine wOn ?_;try simp only [zZ])
 refine yJ (fun N st=>∃ k,k + N = l.length /\ st.s 0 = .p (.sl 2 (zxs l)) /\ st.s 3 = .ptr 3 0 /\ st.b 3 = some (.box 25 [.p (I z.e),.p (I z.n)]) /\ st.s 7 = .p (I l.length) /\ st.s 8 = .p (I k) /\ plc z (l.drop k) k = plc z l 0) l.length ⟨0,by simp⟩ fun K N st hL ⟨k,hk,g0,g3,b3,g6,g7,hi⟩=>?_
 by_cases hlt : k < l.length
 ·have hw := yF k _ hlt hlen
  rw [List.drop_eq_getElem_cons hlt,plc] at hi
  have hx : l[k] = z ↔ l[k].e = z.e /\ l[k].n = z.n:=by cases l[k];cases z;simp
  by_cases o : l[k].e = z.e /\ l[k].n = z.n
  ·rw [if_pos (hx.2 o)] at hi
   unfold idxZ at hr
   rw [<- hi] at hr
   simp only at hr
   have o1 : (z.e = l[k].e) = True:=eq_true o.1.symm
   have o2 : (z.n = l[k].n) = True:=eq_true o.2.symm
   have o3 : (l[k].e = z.e) = True:=eq_true o.1
   have o4 : (l[k].n = z.n) = True:=eq_true o.2
   repeat' first|(refine hK _ ?_;clear hK)|(refine zT fun K hK=>?_)|((first | refine zS ?_ | refine yZ rfl (by kernel_rfl) ?_);simp only [tZ,tY,strip])|((first | refine wOs fun K hK=>?_ | refine wQs fun K hK=>?_ | refine zW ?_);simp [g0,g3,b3,g6,g7,hlt,o1,o2])|(first | refine zU ?_)|((first | refine zL ?_ | refine zP ?_);try simp)|((first | refine wOn ?_ | refine wQn ?_);try simp only [zZ])
   all_goals apply hr
   all_goals simp [Tryz.f141]
  ·rw [if_neg fun h => o (hx.1 h)] at hi
   have o' : ¬ (z.e = l[k].e /\ z.n = l[k].n):=fun h=>o ⟨h.1.symm,h.2.symm⟩
   repeat' first|(refine hK _ ?_;clear hK)|(refine zT fun K hK=>?_)|((first | refine zS ?_ | refine yZ rfl (by kernel_rfl) ?_);simp only [tZ,tY,strip])|((first | refine wOs fun K hK=>?_ | refine wQs fun K hK=>?_ | refine zW ?_);simp [g0,g3,b3,g6,g7,hlt,hw,o'])|(first | refine zU ?_)|(refine zP ?_;try simp)|((first | refine wOn ?_ | refine wQn ?_);try simp only [zZ])|(intro _)
   all_goals first | skip
   refine hL _ (N - 1) (by omega) ⟨k + 1,by omega,?_⟩
   simp [g0,g3,b3,g6,hi]
 ·rw [List.drop_of_length_le (by omega), plc] at hi
  unfold idxZ at hr
  rw [<- hi] at hr
  repeat' first|(refine hK _ ?_;clear hK)|(clear hK;refine hK _ ?_;clear hK)|(refine zT fun K hK=>?_)|(refine zS ?_;simp only [tZ,tY,strip])|((first | refine wOs fun K hK=>?_ | refine zW ?_);simp [g6,g7,hlt])|((first | refine zL ?_ | refine zC ?_);try simp)|(refine wOn ?_;try simp only [zZ])
  all_goals apply hr
  all_goals simp [Tryz.f141]
theorem plc_some (z : Zx) : ∀ (l : List Zx) (k : Nat), z ∈ l ↔ ∃ n, plc z l k = some n
 | [],k=>by simp [plc]
 | m :: l, k => by
  unfold plc
  by_cases o : m = z
  ·subst o;simp
  ·rw [if_neg o, List.mem_cons, plc_some z l (k + 1)]
   constructor
   ·rintro (h | h)
    ·exact absurd h.symm o
    ·exact h
   ·exact .inr
theorem idxZ_mem (z : Zx) (l : List Zx) : 0 <= idxZ z l ↔ z ∈ l := by
 rw [plc_some z l 0]
 unfold idxZ
 cases plc z l 0 with
 | none=>simp
 | some n=>simp
theorem containsZ_con (l : List Zx) (z : Zx) : zB Tryz.prog 121 [.p (.sl 2 (zxs l)), .p (.agg [I z.e, I z.n])] (.p (B (decide (z ∈ l)))) := by
 have c1:=indexZ_con l z
 have hd : decide (z ∈ l) = decide (0 <= idxZ z l):=by simp only [idxZ_mem]
 rw [hd]
 generalize idxZ z l = i at *
 refine zK Tryz.tab Tryz.mixed Tryz.func121 rfl rfl Tryz.ntmps121 (by simp) (by simp) fun Q hr hn=>?_
 repeat' first|(refine zR.pure (c1) rfl ?_)|(refine hK _ ?_;clear hK)|(refine zT fun K hK=>?_)|(refine zS ?_;simp only [tZ,tY,strip])|((first | refine wOs fun K hK=>?_ | refine zY ?_);simp)|(refine zL ?_;try simp)|(refine wOn ?_;try simp only [zZ])
 all_goals apply hr
 all_goals simp [Tryz.f121]
end Go.Proofs.YtffflakmofbilaaGreat
