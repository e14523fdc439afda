/- awake of layer 13, run. -/
import Derived.Test.YtijjfiebmdejaaaDK1
namespace Go.Proofs.Ytijjfiebmdejaaa
open Go Go.Av
def base : CallF' := fun g args β => match args, β with
  | [.p (.sl 1 X), .p (.sl 1 Y)], [] => if g = 37 ∧ X.length + Y.length ≤ 100000000 then some (.ret (.p (.sl 1 (X ++ Y))) [] []) else none
  | _, _ => none
theorem base_ok : ∀ g args β out, base g args β = some out → Con Try.prog g args β out := fun g args β out h => by
  unfold base at h
  split at h
  · split at h
    · rename_i hc
      obtain ⟨rfl, hl⟩ := hc
      simp only [Option.some.injEq] at h; subst h
      exact (joinedG_con _ _ hl).toPure
    · simp at h
  · simp at h
end Go.Proofs.Ytijjfiebmdejaaa
