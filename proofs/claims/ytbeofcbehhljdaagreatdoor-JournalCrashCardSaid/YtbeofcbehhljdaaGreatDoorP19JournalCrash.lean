/- Texts that the proof needs: AvCard. -/
import Derived.Test.YtbeofcbehhljdaaGreatDoorP18JournalCrash
import Derived.Lib.LaidTab
import Derived.LaidLaws
import Derived.Deep.DeepHandedRow
namespace Go.Av
open Go
theorem laid_mem {P : Program} {w : World} : ∀ {laid : List (String × DataW Unit)} {ps : List MemPlace}, DataW.LaidVars P w laid ps -> ∀ n d, (n, d) ∈ laid →
 ∃ g t cs fuel p, P.globalNamed n = some g /\ (P.globals[g]?).map (·.type) = some t /\ w.var? P n = some cs /\ DataW.trod (fun _ => ()) P w 0 (fun _ => true) false fuel t cs.toList = some (d, p)
 | [], _, _, n, d, hm => by simp at hm
 | (n', d') :: r, ps, ⟨g, t, cs, fuel, p, q, h1, h2, h3, h4, h5, h6⟩, n, d, hm => by
  rcases List.mem_cons.1 hm with e | hm
  ·cases e; exact ⟨g, t, cs, fuel, p, h1, h2, h3, h4⟩
  ·exact laid_mem h5 n d hm
theorem tab_mem {P : Program} {W : World} {laid : List (String × DataW Unit)} {name : String} {k : IntKind} {zs : List Int} {g : Nat} {t e : TypeId} {n : Nat}
 (hg : P.globalNamed name = some g) (hty : (P.globals[g]?).map (·.type) = some t) (ht : P.underlying t = some (.array n e)) (he : P.underlying e = some (.int k)) (hce : P.cellsOf e = 1) (hct : P.cellsOf t = n)
 (hm : (name, Go.Lib.tabData k zs) ∈ laid) (h : laidMet P laid W) (hz : zs ≠ []) : GE W (fun _ => False) (zs.map fun z => .v (.int k z)) g := by
 obtain ⟨ps, hv, -⟩ := h
 obtain ⟨g', t', cs, fuel, p, h1, h2, h3, h4⟩ := laid_mem hv name _ hm
 obtain rfl := Option.some.inj (hg.symm.trans h1)
 obtain rfl := Option.some.inj (hty.symm.trans h2)
 have hcs := Go.Lib.cells_of_tab ht he hce hct h4
 have hT : Go.Lib.TabIs P W name k zs := by unfold Go.Lib.TabIs; rw [h3, <- hcs]
 have hc : ∀ i, i < zs.length -> W.cell? ⟨g, i, none⟩ = some (.int k (zs.getD i 0)) := fun i hi => hT.cell hg i hi
 have hz0 : 0 < zs.length := List.length_pos_iff.2 hz
 have hlt : g < W.heap.size := by
  have := hc 0 hz0
  rcases Nat.lt_or_ge g W.heap.size with h0 | h0
  ·exact h0
  ·simp [World.cell?, Array.getElem?_eq_none h0] at this
 refine ⟨⟨hlt, id⟩, ?_, fun _ => ⟨hlt, id⟩, fun j p hj => ?_⟩
 ·have hv3 := h3
  unfold World.var? at hv3
  rw [hg] at hv3
  simp only [Option.bind_some] at hv3
  split at hv3
  ·rename_i cs' t' fr' hh
   simp only [Option.some.injEq] at hv3
   subst hv3
   refine ⟨_, t', fr', hh, ?_⟩
   have := congrArg List.length hcs
   simpa using this
  ·simp at hv3
 ·rw [List.getElem?_map, Option.map_eq_some_iff] at hj
  obtain ⟨z, hz, rfl⟩ := hj
  have hjl := (List.getElem?_eq_some_iff.1 hz).1
  refine ⟨rfl, .int k z, ?_, .v _ rfl⟩
  rw [Nat.zero_add, hc j hjl, List.getD_eq_getElem?_getD, hz]; rfl
theorem GE.tab {P : Program} {w : World} {G : Nat -> Prop} {name : String} {k : IntKind} {zs : List Int} {g : Nat} (hg : P.globalNamed name = some g) (h : GE w G (zs.map fun z => .v (.int k z)) g) : Go.Lib.TabIs P w name k zs := by
 obtain ⟨-, ⟨cs, t, fr, h3, h4⟩, -, h5⟩ := h
 unfold Go.Lib.TabIs World.var?
 rw [hg]
 simp only [Option.bind_some, h3]
 congr 1
 apply Array.ext_getElem?
 intro j
 have hl : cs.size = zs.length := by simpa using h4
 by_cases hj : j < zs.length
 ·obtain ⟨-, u, hu, hr⟩ := h5 j (.v (.int k zs[j])) (by simp [hj])
  cases hr
  have : cs[j]? = some (.int k zs[j]) := by simpa [World.cell?, h3] using hu
  rw [this]; simp [hj]
 ·rw [Array.getElem?_eq_none (by omega), Array.getElem?_eq_none (by simp; omega)]
def layIn (h : Array Obj) (l : List (Nat × Array Value)) : Array Obj := l.foldl (fun h x => h.modify x.1 fun
 | .cells _ t fr => .cells x.2 t fr
 | o => o) h
noncomputable def laidWorld (P : Program) (os : Os) (l : List (Nat × Array Value)) : World := { World.holding P os ⟨#[], #[], []⟩ with heap := layIn (World.holding P os ⟨#[], #[], []⟩).heap l }
section
variable {H : Type} {enc : TypeId × Value -> H} {C : Checked} {T : TypeId -> Option Ty}
theorem witnessC {os : Os} {f : FuncId} {fn : Func} {s : ChangeSpec} {conds : List PathCond} {apart : Bool} {laid : List (String × DataW Unit)} (w0 : World) (args : Array Value) (hos : w0.os = os)
 (hv : (w0.forCall (fun _ _ => 0) ⟨#[], args, []⟩).variablesB C.prog = true)
 (hr : ((w0.forCall (fun _ _ => 0) ⟨#[], args, []⟩).heap.toList.drop C.prog.globals.size).take ((begin C.prog (fun _ _ => 0) default).world.heap.size - C.prog.globals.size) =
  (begin C.prog (fun _ _ => 0) default).world.heap.toList.drop C.prog.globals.size)
 (hok : Input.okWideB C.prog (w0.forCall (fun _ _ => 0) ⟨#[], args, []⟩) f ⟨#[], args, []⟩ = true)
 (hx : (DataW.whole enc C.prog (w0.forCall (fun _ _ => 0) ⟨#[], args, []⟩).memory fn.params.toList s.vars apart args.toList 8).isSome = true) (hc : conds = [])
 (hsz : (OpenSpec.ofChange s).bare.sizedB enc C.prog fn apart (w0.forCall (fun _ _ => 0) ⟨#[], args, []⟩).memory args 8 = true)
 (hl : laidMetH C.prog laid (w0.forCall (fun _ _ => 0) ⟨#[], args, []⟩).memory) :
 ∃ (w : World) (tape : Tape) (i : Input), w.os = os /\ (w.forCall tape i).Shaped C.prog /\ i.vars = [] /\ Input.okWide C.prog (w.forCall tape i) .any w.heap.size f i ∧
  (OpenSpec.ofChange s).preRow enc C.prog fn conds apart laid (w.forCall tape i).memory i.args /\ ({ modest := false } : Assume).holds C.prog (lone (Frame.enter C.prog f i.args .normal) [] (w.forCall tape i)) := by
 obtain ⟨x, hx⟩ := Option.isSome_iff_exists.1 hx
 subst hc
 exact witness_row_at (enc := enc) (C := C) (s := OpenSpec.ofChange s) false w0 args hos hv hr hok (OpenSpec.preRow_of_cond 8 hx rfl (fun k hk => by cases hk) hsz hl)
end
end Go.Av
