/- What comes in, opened. -/
import Derived.Test.YtnjnloonlcknkaaSessA
import Derived.Test.YtnjnloonlcknkaaAvRow
namespace Go.Proofs.Ytnjnloonlcknkaa
open Go Go.Av
theorem int_open {p : PV} (hp : ShT Try.T 3 p) : ∃ n, p = I n := by
  obtain ⟨n, rfl, -⟩ := (hp.one (f := .int .i64) rfl rfl rfl).intI
  exact ⟨n, rfl⟩
theorem ints_open {p : PV} (hp : ShT Try.T 23 p) : ∃ l, p = .sl 1 (ints l) :=
  (hp.one (f := .sl [.int .i64]) rfl rfl rfl).slI (f := fun n => [I n]) fun ps h => by
    obtain ⟨_, _, rfl, h0, h⟩ := h.cons
    obtain rfl := h.nil
    obtain ⟨n, rfl, -⟩ := h0.intI
    exact ⟨n, rfl⟩
theorem seens_open {p : PV} (hp : ShT Try.T 22 p) : ∃ l, p = .sl 2 (seens l) :=
  (hp.one (f := .sl [.int .i64, .int .i64]) rfl rfl rfl).slI (f := Sn.cells) fun ps h => by
    obtain ⟨_, _, rfl, h0, h⟩ := h.cons
    obtain ⟨_, _, rfl, h1, h⟩ := h.cons
    obtain rfl := h.nil
    obtain ⟨a, rfl, -⟩ := h0.intI
    obtain ⟨b, rfl, -⟩ := h1.intI
    exact ⟨⟨a, b⟩, rfl⟩
end Go.Proofs.Ytnjnloonlcknkaa
