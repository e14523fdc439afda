/- Texts that the proof needs: CFO. -/
import Derived.Test.YtjekjpgccnhobaaDoorP28ConfigBack
import Derived.Test.YtjekjpgccnhobaaDoorP30ConfigBack
import Derived.Test.YtjekjpgccnhobaaDoorP17ConfigBack
/- Configs: what comes in, opened. -/
namespace Go.Proofs.YtjekjpgccnhobaaDoor
set_option linter.unusedSimpArgs false
set_option linter.unusedVariables false
open Go Go.Av Go.ChangeShapes Go.WideShapes Go.ChangeAt Go.RowKit
def KB (c : Nat) : Nat := 1
theorem xI : PosK Tryd.T KB := by
  intro t yt e y h hk hy hs
  unfold Tryd.T at h
  split at h
  all_goals first|(cases h;done)|(cases h;cases hk;done)|(cases h;cases hk;cases hy;done)|(cases h;cases hk;cases hy;first | exact of_decide_eq_true (by kernel_rfl)|(simp at hs;done))
theorem Mb.ofL {ps : List PV} (h : ShL [.int .i64, .int .i64, .int .i64, .int .i64] ps) : ∃ a : Mb, ps = a.cells := by
  obtain ⟨_,_,rfl,h0,h⟩:=h.cons
  obtain ⟨_,_,rfl,h1,h⟩:=h.cons
  obtain ⟨_,_,rfl,h2,h⟩:=h.cons
  obtain ⟨_,_,rfl,h3,h⟩:=h.cons
  obtain rfl:=h.nil
  obtain ⟨_,rfl,-⟩:=h0.intI
  obtain ⟨_,rfl,-⟩:=h1.intI
  obtain ⟨_,rfl,-⟩:=h2.intI
  obtain ⟨_,rfl,-⟩:=h3.intI
  exact ⟨⟨_,_,_,_⟩,rfl⟩
abbrev LMb : Lf := .sl [.int .i64, .int .i64, .int .i64, .int .i64]
theorem Cf.ofL {ps : List PV} (h : ShL [.int .i64, .int .i64, .int .i64, LMb] ps) : ∃ a : Cf, ps = a.cells := by
  obtain ⟨_,_,rfl,h0,h⟩:=h.cons
  obtain ⟨_,_,rfl,h1,h⟩:=h.cons
  obtain ⟨_,_,rfl,h2,h⟩:=h.cons
  obtain ⟨_,_,rfl,h3,h⟩:=h.cons
  obtain rfl:=h.nil
  obtain ⟨_,rfl,-⟩:=h0.intI
  obtain ⟨_,rfl,-⟩:=h1.intI
  obtain ⟨_,rfl,-⟩:=h2.intI
  obtain ⟨l,rfl⟩:=h3.slI (f:=Mb.cells) fun ps h=>Mb.ofL h
  exact ⟨⟨_,_,_,l⟩,rfl⟩
theorem szLe {N c : Nat} {l : List (List PV)} (h : SzI KB N (.sl c l)) : l.length ≤ N := by
  have:=h.len
  have h1 : 1 ≤ KB c:=Nat.le_refl 1
  have:=Nat.le_mul_of_pos_right l.length (show 0 < KB c by omega)
  omega
theorem cf_open {p : PV} (hp : ShT Tryd.T 26 p) : ∃ a : Cf, p = .agg a.cells := by
  obtain ⟨ps,rfl,h⟩:=hp.agg (E:=[.int .i64,.int .i64,.int .i64,LMb]) rfl rfl rfl
  obtain ⟨a,rfl⟩:=Cf.ofL h
  exact ⟨a,rfl⟩
theorem str_openC {p : PV} (hp : ShT Tryd.T 9 p) : ∃ l : List UInt8, p = SB l := by
  obtain ⟨s,rfl,-⟩:=(hp.one (f:=.str) rfl rfl rfl).strI
  exact ⟨s.data.toList,rfl⟩
theorem szS {l : List UInt8} (h : SzI KB reachBytes (SB l)) : l.length ≤ 140737488355328 := by
  have h1:=h.str
  have hr : reachBytes ≤ 140737488355328:=by decide
  simp at h1;omega
theorem szL {c : Nat} {l : List (List PV)} (h : SzI KB reachBytes (.sl c l)) : l.length ≤ 140737488355328 := by
  have h1:=szLe h
  have hr : reachBytes ≤ 140737488355328:=by decide
  omega
theorem cf_len {c : Cf} (hz : SzI KB reachBytes (.agg c.cells)) : c.ms.length ≤ 140737488355328 := by
  have h:=szL (hz.part (p:=.sl 4 (mbs c.ms)) (by simp [Cf.cells]))
  rw [mbs_len] at h
  exact h
end Go.Proofs.YtjekjpgccnhobaaDoor
