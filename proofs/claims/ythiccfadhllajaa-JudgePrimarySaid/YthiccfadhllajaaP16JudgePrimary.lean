/- Texts that the proof needs: AvExt. -/
import Derived.Test.YthiccfadhllajaaP15JudgePrimary
import Derived.Laws.Externs
import Derived.Lib.Bytealg
namespace Go.Av
set_option linter.unusedSimpArgs false
set_option linter.unusedVariables false
open Go
theorem ACon.ext [Glob] {P : Program} {g : FuncId} {fn : Func} {e : Array Value -> Sem Value} (hf : P.funcs[g]? = some fn) (hname : (fn.name == "runtime.NumGoroutine") = false)
 (hb : fn.body.isNone = true) (hn : Extern.findNext fn = none) (he : Extern.find fn = some e) (xs : List Value) {z : Value} (hz : scal z = true) (hrun : ∀ w, (e xs.toArray).run P w = .ok z w) :
 ACon P g (xs.map fun x => .p (.v x)) (.p (.v z)) := by
 intro F w m ys hp hl har
 have hl' : ys.length = xs.length := by simpa using hl
 have hys : ys = xs := by
  apply List.ext_getElem?
  intro i
  by_cases hi : i < xs.length
  ·obtain ⟨y, h1, h2⟩ := har i (.p (.v xs[i])) (by simp [hi])
   have h3 : RP w _ (.v xs[i]) y := h2
   cases h3
   rw [h1, List.getElem?_eq_getElem hi]
  ·rw [List.getElem?_eq_none (by omega), List.getElem?_eq_none (by omega)]
 subst hys
 refine .inr ⟨z, w, ?_, Keeps.refl _ _, z, m, rfl, hp, fun n k ho => by simp [owns, nmF_nil] at ho, fun _ _ _ => rfl, RV.of0 (v := .p _) (.v _ hz)⟩
 rw [run_callFunc_extern hf hname hb hn he, hrun]; rfl
end Go.Av
