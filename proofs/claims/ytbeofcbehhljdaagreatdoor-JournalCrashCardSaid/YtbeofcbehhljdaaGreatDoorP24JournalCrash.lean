/- Texts that the proof needs: AvTup. -/
import Derived.Test.YtbeofcbehhljdaaGreatDoorP15JournalCrash
namespace Go.Av
open Go
set_option linter.unusedVariables false
theorem Con.toPureT [Glob] {P : Program} {g : FuncId} {args : List V} {t c : Nat} {l : List (List PV)} {q : PV} (h : Con P g args [] (.ret (.tup [.row 2048, .p q]) [.row t c l] [])) : ACon P g args (.tup [.p (.sl c l), .p q]) :=
 fun F w m xs hp hl ha => (h F w m xs hp hl ha).mono fun en w' ⟨hk, ho⟩ => by
  obtain ⟨x, m', he, hp', how, hnm, xs', hx, hs, hv⟩ := ho
  refine ⟨hk, x, m', he, Hp.none hp'.fold nmF_nil fun g e he => (hp'.glob g e he).less fun k hk => .inl hk, fun n k h => by simp [owns, nmF_nil] at h, hnm, xs', hx, hs, fun i v hi => ?_⟩
  match i, hi with
  | 0, hi =>
   simp at hi
   subst hi
   obtain ⟨y, h1, h2⟩ := hv 0 _ rfl
   refine ⟨y, h1, ?_⟩
   have hy : y = m'.r 2048 := h2
   rw [hy]
   refine RP.of_row (e := t) (hp'.blks 2048 _ (by simp [nmF])) ⟨Nat.le_refl _, fun _ _ _ => rfl, fun k _ hg => .inl (Gd_nil hg)⟩ fun k hk hg => ?_
   exact (hp'.own 2048 k (by unfold owns; simp [nmF, hk])).2 (Gd_nil hg)
  | 1, hi =>
   simp at hi
   subst hi
   obtain ⟨y, h1, h2⟩ := hv 1 _ rfl
   exact ⟨y, h1, RP.mono (fun k hg => .inl (Gd_nil hg)) h2⟩
  | i + 2, hi => simp at hi
end Go.Av
