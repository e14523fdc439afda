/- The closed calls (awake), run; what they lean on. -/
import Derived.Test.YtefhcofecdecgaaAvRun
import Derived.Test.YtefhcofecdecgaaQLib
import Derived.Test.YtefhcofecdecgaaIns
import Derived.Test.YtefhcofecdecgaaWA
namespace Go.Proofs.Ytefhcofecdecgaa
set_option linter.unusedSimpArgs false
set_option linter.unusedVariables false
open Go Go.Av
def base : CallF' := fun g args β => match args, β with
  | [.p (.sl c' l)], [] => match cloneT g with
    | some (e, c) => if c' = c ∧ l.length ≤ 1000000 then some (.ret (.row 2048) [.row e c l] []) else none
    | none => none
  | [.row 1024, .p (.v (.int .i64 i)), .p (.sl 7 [el])], [.row e c l] =>
    if g = 71 ∧ e = 37 ∧ c = 7 ∧ 0 ≤ i ∧ i.toNat ≤ l.length ∧ l.length ≤ 1000000 ∧ el.length = 7 then some (.ret (.row 1024) [] [.row e c (l.take i.toNat ++ el :: l.drop i.toNat)]) else none
  | _, _ => none
theorem base_ok : ∀ g args β out, base g args β = some out → Con Try.prog g args β out := fun g args β out h => by
  unfold base at h
  split at h
  · split at h
    · rename_i hc
      split at h
      · rename_i hl
        obtain ⟨rfl, hl⟩ := hl
        simp only [Option.some.injEq] at h; subst h
        exact clone_ok hc _ hl
      · simp at h
    · simp at h
  · rename_i i el e c l
    split at h
    · rename_i hc
      obtain ⟨rfl, rfl, rfl, h0, h1, h2, h3⟩ := hc
      simp only [Option.some.injEq] at h; subst h
      have := insert_con l i.toNat el h1 h2 h3
      rw [Int.toNat_of_nonneg h0] at this
      exact this
    · simp at h
  · simp at h
theorem awake17 : ACon Try.prog 21 [] (.p (B true)) := xCall_sound Try.tab Try.mixed base_ok 40 _ _ _ _ (by kernel_rfl)
theorem awake20 : ACon Try.prog 45 [] (.p (B true)) := xCall_sound Try.tab Try.mixed base_ok 40 _ _ _ _ (by kernel_rfl)
end Go.Proofs.Ytefhcofecdecgaa
