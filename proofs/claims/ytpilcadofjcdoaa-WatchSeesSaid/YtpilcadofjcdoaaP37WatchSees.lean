/- Texts that the proof needs: WMO. -/
import Derived.Test.YtpilcadofjcdoaaP35WatchSees
import Derived.Test.YtpilcadofjcdoaaP36WatchSees
import Derived.Test.YtpilcadofjcdoaaP23WatchSees
namespace Go.Proofs.Ytpilcadofjcdoaa
set_option linter.unusedSimpArgs false
set_option linter.unusedVariables false
open Go Go.Av Go.ChangeShapes Go.WideShapes Go.ChangeAt Go.RowKit
def KB (c : Nat) : Nat := if c = 4 then 32 else 1
theorem hpos : PosK Try.T KB := by
 intro t yt e y h hk hy hs
 unfold Try.T at h
 split at h
 all_goals first|(cases h;done)|(cases h;cases hk;done)|(cases h;cases hk;cases hy;done)|(cases h;cases hk;cases hy;first | exact of_decide_eq_true (by kernel_rfl)|(simp at hs;done))
theorem Mb.ofL {ps : List PV} (h : ShL [.int .i64, .int .i64, .int .i64, .int .i64] ps) : ∃ a : Mb, ps = a.cells := by
 obtain ⟨_,_,rfl,h0,h⟩:=h.cons
 obtain ⟨_,_,rfl,h1,h⟩:=h.cons
 obtain ⟨_,_,rfl,h2,h⟩:=h.cons
 obtain ⟨_,_,rfl,h3,h⟩:=h.cons
 obtain rfl:=h.nil
 obtain ⟨_,rfl,-⟩:=h0.intI
 obtain ⟨_,rfl,-⟩:=h1.intI
 obtain ⟨_,rfl,-⟩:=h2.intI
 obtain ⟨_,rfl,-⟩:=h3.intI
 exact ⟨⟨_,_,_,_⟩,rfl⟩
abbrev LMb : Lf := .sl [.int .i64, .int .i64, .int .i64, .int .i64]
abbrev LZn : List Lf := [.str, .str, .int .i64, .int .i64, .int .i64]
theorem Cf.ofL {ps : List PV} (h : ShL [.int .i64, .int .i64, .int .i64, LMb] ps) : ∃ a : Cf, ps = a.cells := by
 obtain ⟨_,_,rfl,h0,h⟩:=h.cons
 obtain ⟨_,_,rfl,h1,h⟩:=h.cons
 obtain ⟨_,_,rfl,h2,h⟩:=h.cons
 obtain ⟨_,_,rfl,h3,h⟩:=h.cons
 obtain rfl:=h.nil
 obtain ⟨_,rfl,-⟩:=h0.intI
 obtain ⟨_,rfl,-⟩:=h1.intI
 obtain ⟨_,rfl,-⟩:=h2.intI
 obtain ⟨l,rfl⟩:=h3.slI (f:=Mb.cells) fun ps h=>Mb.ofL h
 exact ⟨⟨_,_,_,l⟩,rfl⟩
theorem Zn.ofL' {ps : List PV} (h : ShL LZn ps) : ∃ a : Zn, ps = a.c := by
 obtain ⟨a,h⟩:=Zn.ofL h
 exact ⟨a.1,h⟩
theorem Sv.ofL {ps : List PV} (h : ShL [.sl LZn, .sl [.int .i64], .int .i64, .int .i64, .int .i64, .int .i64, LMb, .int .i64, .int .i64] ps) : ∃ s : Sv, ps = s.cells := by
 obtain ⟨_,_,rfl,h0,h⟩:=h.cons
 obtain ⟨_,_,rfl,h1,h⟩:=h.cons
 obtain ⟨_,_,rfl,h2,h⟩:=h.cons
 obtain ⟨_,_,rfl,h3,h⟩:=h.cons
 obtain ⟨_,_,rfl,h4,h⟩:=h.cons
 obtain ⟨_,_,rfl,h5,h⟩:=h.cons
 obtain ⟨_,_,rfl,h6,h⟩:=h.cons
 obtain ⟨_,_,rfl,h7,h⟩:=h.cons
 obtain ⟨_,_,rfl,h8,h⟩:=h.cons
 obtain rfl:=h.nil
 obtain ⟨ns,rfl⟩:=h0.slI (f:=Zn.c) fun ps h=>Zn.ofL' h
 obtain ⟨ss, rfl⟩ := h1.slI (f := fun n : Int => [I n]) fun ps h => by
  obtain ⟨_,_,rfl,h0,h⟩:=h.cons
  obtain rfl:=h.nil
  obtain ⟨n,rfl,-⟩:=h0.intI
  exact ⟨n,rfl⟩
 obtain ⟨_,rfl,-⟩:=h2.intI
 obtain ⟨_,rfl,-⟩:=h3.intI
 obtain ⟨_,rfl,-⟩:=h4.intI
 obtain ⟨_,rfl,-⟩:=h5.intI
 obtain ⟨ms,rfl⟩:=h6.slI (f:=Mb.cells) fun ps h=>Mb.ofL h
 obtain ⟨_,rfl,-⟩:=h7.intI
 obtain ⟨_,rfl,-⟩:=h8.intI
 exact ⟨⟨ns,ss,_,⟨_,_,_,ms⟩,_,_⟩,rfl⟩
theorem szLe {N c : Nat} {l : List (List PV)} (h : SzI KB N (.sl c l)) : l.length <= N := by
 have:=h.len
 have h1 : 1 <= KB c:=by unfold KB;split <;> omega
 have:=Nat.le_mul_of_pos_right l.length (show 0 < KB c by omega)
 omega
theorem sv_open {p : PV} (hp : ShT Try.T 30 p) : ∃ s : Sv, p = .agg s.cells := by
 obtain ⟨ps,rfl,h⟩:=hp.agg (E:=[.sl LZn,.sl [.int .i64],.int .i64,.int .i64,.int .i64,.int .i64,LMb,.int .i64,.int .i64]) rfl rfl rfl
 obtain ⟨s,rfl⟩:=Sv.ofL h
 exact ⟨s,rfl⟩
theorem Oq.ofL {ps : List PV} (h : ShL [.int .i64, .str, .str, .int .i64, .bool, .bool] ps) : ∃ o : Oq, ps = o.cells := by
 obtain ⟨_,_,rfl,h0,h⟩:=h.cons
 obtain ⟨_,_,rfl,h1,h⟩:=h.cons
 obtain ⟨_,_,rfl,h2,h⟩:=h.cons
 obtain ⟨_,_,rfl,h3,h⟩:=h.cons
 obtain ⟨_,_,rfl,h4,h⟩:=h.cons
 obtain ⟨_,_,rfl,h5,h⟩:=h.cons
 obtain rfl:=h.nil
 obtain ⟨_,rfl,-⟩:=h0.intI
 obtain ⟨s1,rfl,-⟩:=h1.strI
 obtain ⟨s2,rfl,-⟩:=h2.strI
 obtain ⟨_,rfl,-⟩:=h3.intI
 obtain ⟨_,rfl⟩:=h4.boolI
 obtain ⟨_,rfl⟩:=h5.boolI
 exact ⟨⟨_,s1.data.toList,s2.data.toList,_,_,_⟩,rfl⟩
abbrev LRp : List Lf := [.int .i64, .int .i64, .int .i64, .sl [.int .i64, .str, .str, .int .i64, .bool, .bool], .int .i64, LMb, .sl [.int .i64], .int .i64, .int .i64]
theorem Rp.ofL {ps : List PV} (h : ShL LRp ps) : ∃ r : Rp, ps = r.cells := by
 obtain ⟨_,_,rfl,h0,h⟩:=h.cons
 obtain ⟨_,_,rfl,h1,h⟩:=h.cons
 obtain ⟨_,_,rfl,h2,h⟩:=h.cons
 obtain ⟨_,_,rfl,h3,h⟩:=h.cons
 obtain ⟨_,_,rfl,h4,h⟩:=h.cons
 obtain ⟨_,_,rfl,h5,h⟩:=h.cons
 obtain ⟨_,_,rfl,h6,h⟩:=h.cons
 obtain ⟨_,_,rfl,h7,h⟩:=h.cons
 obtain ⟨_,_,rfl,h8,h⟩:=h.cons
 obtain rfl:=h.nil
 obtain ⟨_,rfl,-⟩:=h0.intI
 obtain ⟨_,rfl,-⟩:=h1.intI
 obtain ⟨_,rfl,-⟩:=h2.intI
 obtain ⟨os,rfl⟩:=h3.slI (f:=Oq.cells) fun ps h=>Oq.ofL h
 obtain ⟨_,rfl,-⟩:=h4.intI
 obtain ⟨put,rfl⟩:=h5.slI (f:=Mb.cells) fun ps h=>Mb.ofL h
 obtain ⟨dr, rfl⟩ := h6.slI (f := fun n : Int => [I n]) fun ps h => by
  obtain ⟨_,_,rfl,h0,h⟩:=h.cons
  obtain rfl:=h.nil
  obtain ⟨n,rfl,-⟩:=h0.intI
  exact ⟨n,rfl⟩
 obtain ⟨_,rfl,-⟩:=h7.intI
 obtain ⟨_,rfl,-⟩:=h8.intI
 exact ⟨⟨_,_,_,os,⟨_,put,dr⟩,_,_⟩,rfl⟩
theorem rp_open {p : PV} (hp : ShT Try.T 35 p) : ∃ r : Rp, p = .agg r.cells := by
 obtain ⟨ps,rfl,h⟩:=hp.agg (E:=LRp) rfl rfl rfl
 obtain ⟨s,rfl⟩:=Rp.ofL h
 exact ⟨s,rfl⟩
theorem szS {l : List UInt8} (h : SzI KB reachBytes (SB l)) : l.length <= 140737488355328 := by
 have h1:=h.str
 have hr : reachBytes <= 140737488355328:=by decide
 simp at h1;omega
theorem szL {c : Nat} {l : List (List PV)} (h : SzI KB reachBytes (.sl c l)) : l.length <= 140737488355328 := by
 have h1:=szLe h
 have hr : reachBytes <= 140737488355328:=by decide
 omega
theorem wt_open9 {p : PV} (hp : ShT Try.T 37 p) : ∃ w : Wt, p = .agg w.c := by
 obtain ⟨ps,rfl,h⟩:=hp.agg (E:=[.int .i64,.int .i64,.str]) rfl rfl rfl
 obtain ⟨_,_,rfl,h0,h⟩:=h.cons
 obtain ⟨_,_,rfl,h1,h⟩:=h.cons
 obtain ⟨_,_,rfl,h2,h⟩:=h.cons
 obtain rfl:=h.nil
 obtain ⟨_,rfl,-⟩:=h0.intI
 obtain ⟨_,rfl,-⟩:=h1.intI
 obtain ⟨s,rfl,-⟩:=h2.strI
 exact ⟨⟨_,_,s.data.toList⟩,rfl⟩
theorem longW {s : Sv} (hs : SzI KB reachBytes (.agg s.cells)) : ∀ z ∈ s.ns, long z := fun z hz => by
 have h1:=hs.part (p:=.sl 5 (zns s.ns)) (by simp [Sv.cells])
 have hin : z.c ∈ zns s.ns:=List.mem_map.2 ⟨z,hz,rfl⟩
 have a:=szS (h1.at hin (p:=SB z.p) (by simp [Zn.c]))
 have b:=szS (h1.at hin (p:=SB z.d) (by simp [Zn.c]))
 exact ⟨by omega,by omega⟩
theorem szM {l : List Mb} (h : SzI KB reachBytes (.sl 4 (mbs l))) : l.length <= 4398046510976 := by
 have h1:=h.len
 rw [mbs_len] at h1
 have hr : reachBytes = 140737488351232:=rfl
 have hk : KB 4 = 32:=rfl
 rw [hk,hr] at h1
 omega
theorem opsW {r : Rp} (hr : SzI KB reachBytes (.agg r.cells)) : ∀ o ∈ r.ops, OqOk o := fun o ho => by
 have z4:=hr.part (p:=.sl 6 (oqs r.ops)) (by simp [Rp.cells])
 have hin : o.cells ∈ oqs r.ops:=List.mem_map.2 ⟨o,ho,rfl⟩
 have a:=szS (z4.at hin (p:=SB o.pa) (by simp [Oq.cells]))
 have b:=szS (z4.at hin (p:=SB o.da) (by simp [Oq.cells]))
 exact ⟨by omega,by omega⟩
end Go.Proofs.Ytpilcadofjcdoaa
