/- Texts that the proof needs: LN8M XB. -/
import Derived.Test.YteicecbjahhjmaaP27Learn
import Derived.Test.YteicecbjahhjmaaP28Learn
import Derived.Test.YteicecbjahhjmaaP23Learn
/- Learners: what any message comes to: the model. -/
namespace Go.Proofs.Yteicecbjahhjmaa
set_option linter.unusedSimpArgs false
set_option linter.unusedVariables false
set_option maxRecDepth 8000
open Go Go.Av
attribute [local simp] Try.T1 Try.T2 Try.T3 Try.T4 Try.T5 Try.T9 Try.T12 Try.T15 Try.T16 Try.T17 Try.T21 Try.T22 Try.T23 Try.T25 Try.T26 Try.T28 Try.T30 Try.T31 Try.T33 Try.T35 Try.T36 Try.T37 Try.T38 Try.T39 Try.T41 Try.T42 Try.T44 Try.T45 Try.T47 Try.T48 Try.T50 Try.T51 Try.T52 Try.T54 Try.T55 Try.T56 Try.T58 Try.T59 Try.T61 Try.T63 Try.T65 Try.T67 Try.T68 Try.T69 Try.T70 Try.T72 Try.T73 Try.T74 Try.T75 Try.T76 Try.T77 Try.T78 Try.T79 Try.T80 Try.T81 Try.T83 Try.T84 Try.T85 Try.T87 Try.T88 Try.T89 Try.T90 Try.T91 Try.T92 Try.T93 Try.T94 Try.T95 Try.T96 Try.T97 Try.T98 Try.T99 Try.T101 Try.T103 Try.T104 Try.T105 Try.T106 Try.T107 Try.T108 Try.T109 Try.T110 Try.T111 Try.T113 Try.T114 Try.T115 Try.T116 Try.T117 Try.T118 Try.T119 Try.T120 Try.T121 Try.T122 Try.T123 Try.T124 Try.T125 Try.T126 Try.T127 Try.T128 Try.T129 Try.T130 Try.T131 Try.T132 Try.T133 Try.T134 Try.T135 Try.T137 Try.T138 Try.T139 Try.T140 Try.T141 Try.T142 Try.T143 Try.T144 Try.T145 Try.T146 Try.T147 Try.T148 Try.T149 Try.T150 Try.T153 Try.T156 Try.T157 Try.T160 Try.T161 Try.T167
attribute [local irreducible] Go.Av.CallK Go.Av.CallE Go.Av.CallQ Go.Av.CallF Go.Av.CallR Go.Av.CallH Go.Av.Con
structure HR where
  (p : Lp)
  (l : List Mg)
  (up : Bool)
def HR.out (r : HR) : V := .tup [.p (.agg r.p.cells), .p (.sl 46 (r.l.map Mg.cells)), .p (B r.up)]
def promR (p : Lp) (m : Mg) : HR := if owner m.ep = p.ld then (if m.ep < p.ac then ⟨p, [], false⟩ else ⟨promP p m, [promM p m], true⟩) else ⟨p, [], true⟩
def syncR (p : Lp) (m : Mg) : HR := if (planOf p.h m).2 = 0 then ⟨syncP p (planOf p.h m).1, [syncM p (planOf p.h m).1], true⟩ else ⟨p, [], false⟩
def propR (p : Lp) (m : Mg) : HR := if growOk p.h [m.tx] = true then ⟨tookP p m.tx, [ackM p m.tx], true⟩ else ⟨{ p with wt := 0 }, [], true⟩
def followR (p : Lp) (m : Mg) : HR :=
  if m.kd = 8 then propR p m else if m.kd = 11 then ⟨informP p m, [], true⟩ else if m.kd = 7 then ⟨knownP { p with wt := 0, ph := 4 } m.z, [], true⟩
  else if m.kd = 10 then ⟨commitP p m, [], true⟩ else if m.kd = 12 then ⟨{ p with wt := 0 }, [pingM p], true⟩ else ⟨p, [], true⟩
def hearR (p : Lp) (m : Mg) : HR :=
  if hearOK p m then
    (if p.ph = 1 then (if m.kd = 3 then promR p m else ⟨p, [], true⟩)
    else if p.ph = 2 then (if m.kd = 5 then syncR p m else ⟨p, [], true⟩)
    else if p.ph = 3 ∨ p.ph = 4 then followR p m else ⟨p, [], true⟩)
  else ⟨p, [], true⟩
end Go.Proofs.Yteicecbjahhjmaa
/- States: a number taken out of a row of the call's own. -/
namespace Go.Proofs.Yteicecbjahhjmaa
set_option linter.unusedSimpArgs false
set_option linter.unusedVariables false
open Go Go.Av
attribute [local simp] Try.T1 Try.T2 Try.T3 Try.T4 Try.T5 Try.T9 Try.T12 Try.T15 Try.T16 Try.T17 Try.T21 Try.T22 Try.T23 Try.T25 Try.T26 Try.T28 Try.T30 Try.T31 Try.T33 Try.T35 Try.T36 Try.T37 Try.T38 Try.T39 Try.T41 Try.T42 Try.T44 Try.T45 Try.T47 Try.T48 Try.T50 Try.T51 Try.T52 Try.T54 Try.T55 Try.T56 Try.T58 Try.T59 Try.T61 Try.T63 Try.T65 Try.T67 Try.T68 Try.T69 Try.T70 Try.T72 Try.T73 Try.T74 Try.T75 Try.T76 Try.T77 Try.T78 Try.T79 Try.T80 Try.T81 Try.T83 Try.T84 Try.T85 Try.T87 Try.T88 Try.T89 Try.T90 Try.T91 Try.T92 Try.T93 Try.T94 Try.T95 Try.T96 Try.T97 Try.T98 Try.T99 Try.T101 Try.T103 Try.T104 Try.T105 Try.T106 Try.T107 Try.T108 Try.T109 Try.T110 Try.T111 Try.T113 Try.T114 Try.T115 Try.T116 Try.T117 Try.T118 Try.T119 Try.T120 Try.T121 Try.T122 Try.T123 Try.T124 Try.T125 Try.T126 Try.T127 Try.T128 Try.T129 Try.T130 Try.T131 Try.T132 Try.T133 Try.T134 Try.T135 Try.T137 Try.T138 Try.T139 Try.T140 Try.T141 Try.T142 Try.T143 Try.T144 Try.T145 Try.T146 Try.T147 Try.T148 Try.T149 Try.T150 Try.T153 Try.T156 Try.T157 Try.T160 Try.T161 Try.T167
attribute [local irreducible] Go.Av.CallK Go.Av.CallE Go.Av.CallQ Go.Av.CallF Go.Av.CallR Go.Av.CallH Go.Av.Con
theorem wrapX (k n : Nat) (h : k < n) (hn : n ≤ 9223372036854775807) : IntKind.i64.wrap ((k : Int) + 1) = ((k + 1 : Nat) : Int) := by
  rw [wrap_id] <;> omega
def zis (l : List Int) : List (List PV) := l.map fun x => [I x]
@[simp] theorem zis_len (l : List Int) : (zis l).length = l.length := by simp [zis]
@[simp] theorem zis_getElem (l : List Int) (k : Nat) (h : k < (zis l).length) : (zis l)[k] = [I (l[k]'(by simpa using h))] := by simp [zis]
theorem zis_get {l : List Int} {k : Nat} (h : k < l.length) : (zis l)[k]? = some [I l[k]] := by simp [zis, h]
/-- The numbers but one. -/
def but (l : List Int) (n : Int) : List Int := l.filter fun x => !decide (x = n)
theorem but_snoc {l : List Int} {k : Nat} (h : k < l.length) (n : Int) : but (l.take (k + 1)) n = if l[k] = n then but (l.take k) n else but (l.take k) n ++ [l[k]] := by
  rw [List.take_succ_eq_append_getElem h]
  unfold but
  rw [List.filter_append]
  by_cases g : l[k] = n <;> simp [g]
theorem but_len (l : List Int) (n : Int) : (but l n).length ≤ l.length := List.length_filter_le _ _
end Go.Proofs.Yteicecbjahhjmaa
