/- MERGED WS QLib Ext PL PA PB PC PD PE PF PG PH NA NB NC ND NE NF NG NH IL AwA -/
import Derived.Test.YtnfcbkageifmfaaAvSimp
import Derived.Test.YtnfcbkageifmfaaAvMore
import Derived.Test.YtnfcbkageifmfaaTab
import Derived.Test.YtnfcbkageifmfaaAvRun
import Derived.WalkKit
import Derived.Test.YtnfcbkageifmfaaAvExt
import Derived.Test.YtnfcbkageifmfaaAvStr
import Derived.Test.YtnfcbkageifmfaaAvRow
import Derived.Test.YtnfcbkageifmfaaAvIns
import Derived.Deep.RegionLaw
/- A counter's next value. -/
namespace Go.Proofs.Ytnfcbkageifmfaa
open Go Go.Av
theorem wrapS (k n : Nat) (h : k < n) (hn : n ≤ 9223372036854775807) : IntKind.i64.wrap ((k : Int) + 1) = ((k + 1 : Nat) : Int) := by
  rw [wrap_id] <;> omega
end Go.Proofs.Ytnfcbkageifmfaa

/- Small functions of the library; the closed calls of layers 5 and 17. -/
namespace Go.Proofs.Ytnfcbkageifmfaa
set_option linter.unusedSimpArgs false
set_option linter.unusedVariables false
open Go Go.Av
attribute [local simp] Try.T1 Try.T2 Try.T3 Try.T4 Try.T5 Try.T9 Try.T12 Try.T15 Try.T16 Try.T17 Try.T21 Try.T22 Try.T23 Try.T25 Try.T27 Try.T29 Try.T30 Try.T31 Try.T32 Try.T33 Try.T35 Try.T37 Try.T38 Try.T40 Try.T41 Try.T42 Try.T43 Try.T44 Try.T45 Try.T46 Try.T47 Try.T48 Try.T49 Try.T50 Try.T51 Try.T52 Try.T53 Try.T54 Try.T56 Try.T57 Try.T58 Try.T59 Try.T60 Try.T61 Try.T62 Try.T64 Try.T66 Try.T67 Try.T68 Try.T69 Try.T71 Try.T72 Try.T73 Try.T74 Try.T75 Try.T76 Try.T77 Try.T78 Try.T79 Try.T80 Try.T81 Try.T82 Try.T83 Try.T84 Try.T85 Try.T86 Try.T87 Try.T88 Try.T89 Try.T90 Try.T91 Try.T92 Try.T93 Try.T94 Try.T95 Try.T97 Try.T98 Try.T99 Try.T100 Try.T101 Try.T102 Try.T103 Try.T104 Try.T105 Try.T106 Try.T107 Try.T108 Try.T109 Try.T110 Try.T111 Try.T112 Try.T113 Try.T114 Try.T115 Try.T116 Try.T117 Try.T120 Try.T123 Try.T124 Try.T127 Try.T128
attribute [local irreducible] Go.Av.CallK Go.Av.CallE Go.Av.CallQ Go.Av.CallF Go.Av.CallR Go.Av.CallH Go.Av.Con
abbrev RCon (g : FuncId) (args : List V) (e c : Nat) (l : List (List PV)) : Prop := Con Try.prog g args [] (.ret (.row 2048) [.row e c l] [])
end Go.Proofs.Ytnfcbkageifmfaa

/- The library's functions that the model itself has; what closed calls lean on. -/
namespace Go.Proofs.Ytnfcbkageifmfaa
set_option linter.unusedSimpArgs false
set_option linter.unusedVariables false
open Go Go.Av
end Go.Proofs.Ytnfcbkageifmfaa

/- The closed call of layer 3. -/
namespace Go.Proofs.Ytnfcbkageifmfaa
open Go Go.Av
end Go.Proofs.Ytnfcbkageifmfaa

/- Layer 3: names and paths. -/
namespace Go.Proofs.Ytnfcbkageifmfaa
set_option linter.unusedSimpArgs false
set_option linter.unusedVariables false
open Go Go.Av
attribute [local simp] Try.T1 Try.T2 Try.T3 Try.T4 Try.T5 Try.T9 Try.T12 Try.T15 Try.T16 Try.T17 Try.T21 Try.T22 Try.T23 Try.T25 Try.T27 Try.T29 Try.T30 Try.T31 Try.T32 Try.T33 Try.T35 Try.T37 Try.T38 Try.T40 Try.T41 Try.T42 Try.T43 Try.T44 Try.T45 Try.T46 Try.T47 Try.T48 Try.T49 Try.T50 Try.T51 Try.T52 Try.T53 Try.T54 Try.T56 Try.T57 Try.T58 Try.T59 Try.T60 Try.T61 Try.T62 Try.T64 Try.T66 Try.T67 Try.T68 Try.T69 Try.T71 Try.T72 Try.T73 Try.T74 Try.T75 Try.T76 Try.T77 Try.T78 Try.T79 Try.T80 Try.T81 Try.T82 Try.T83 Try.T84 Try.T85 Try.T86 Try.T87 Try.T88 Try.T89 Try.T90 Try.T91 Try.T92 Try.T93 Try.T94 Try.T95 Try.T97 Try.T98 Try.T99 Try.T100 Try.T101 Try.T102 Try.T103 Try.T104 Try.T105 Try.T106 Try.T107 Try.T108 Try.T109 Try.T110 Try.T111 Try.T112 Try.T113 Try.T114 Try.T115 Try.T116 Try.T117 Try.T120 Try.T123 Try.T124 Try.T127 Try.T128
attribute [local irreducible] Go.Av.CallK Go.Av.CallE Go.Av.CallQ Go.Av.CallF Go.Av.CallR Go.Av.CallH Go.Av.Con
def chr (b : UInt8) : Bool := decide (33 ≤ b.toNat ∧ b.toNat ≤ 126 ∧ b.toNat ≠ 47)
def nm (l : List UInt8) : Bool := decide (1 ≤ l.length ∧ l.length ≤ 16 ∧ l ≠ [46] ∧ l ≠ [46, 46]) && l.all chr
end Go.Proofs.Ytnfcbkageifmfaa

/- Layer 3: what a path is: path.named, path.Check and the document's Check. -/
namespace Go.Proofs.Ytnfcbkageifmfaa
set_option linter.unusedSimpArgs false
set_option linter.unusedVariables false
open Go Go.Av
attribute [local simp] Try.T1 Try.T2 Try.T3 Try.T4 Try.T5 Try.T9 Try.T12 Try.T15 Try.T16 Try.T17 Try.T21 Try.T22 Try.T23 Try.T25 Try.T27 Try.T29 Try.T30 Try.T31 Try.T32 Try.T33 Try.T35 Try.T37 Try.T38 Try.T40 Try.T41 Try.T42 Try.T43 Try.T44 Try.T45 Try.T46 Try.T47 Try.T48 Try.T49 Try.T50 Try.T51 Try.T52 Try.T53 Try.T54 Try.T56 Try.T57 Try.T58 Try.T59 Try.T60 Try.T61 Try.T62 Try.T64 Try.T66 Try.T67 Try.T68 Try.T69 Try.T71 Try.T72 Try.T73 Try.T74 Try.T75 Try.T76 Try.T77 Try.T78 Try.T79 Try.T80 Try.T81 Try.T82 Try.T83 Try.T84 Try.T85 Try.T86 Try.T87 Try.T88 Try.T89 Try.T90 Try.T91 Try.T92 Try.T93 Try.T94 Try.T95 Try.T97 Try.T98 Try.T99 Try.T100 Try.T101 Try.T102 Try.T103 Try.T104 Try.T105 Try.T106 Try.T107 Try.T108 Try.T109 Try.T110 Try.T111 Try.T112 Try.T113 Try.T114 Try.T115 Try.T116 Try.T117 Try.T120 Try.T123 Try.T124 Try.T127 Try.T128
attribute [local irreducible] Go.Av.CallK Go.Av.CallE Go.Av.CallQ Go.Av.CallF Go.Av.CallR Go.Av.CallH Go.Av.Con
/-- Names, one behind the other: what is read of the name at hand, and what is not read yet. -/
def g : List UInt8 → List UInt8 → Bool
  | c, [] => nm c
  | c, b :: r => if b = 47 then nm c && g [] r else g (c ++ [b]) r
def nmd : List UInt8 → Bool
  | [] => false
  | b :: r => if b = 47 then g [] r else false
def chk (l : List UInt8) : Int := if 64 < l.length then 5 else if l = [47] ∨ nmd l = true then 0 else 1
end Go.Proofs.Ytnfcbkageifmfaa

/- Layer 3: parents, names, depths; the law PathChecks. -/
namespace Go.Proofs.Ytnfcbkageifmfaa
set_option linter.unusedSimpArgs false
set_option linter.unusedVariables false
open Go Go.Av
attribute [local simp] Try.T1 Try.T2 Try.T3 Try.T4 Try.T5 Try.T9 Try.T12 Try.T15 Try.T16 Try.T17 Try.T21 Try.T22 Try.T23 Try.T25 Try.T27 Try.T29 Try.T30 Try.T31 Try.T32 Try.T33 Try.T35 Try.T37 Try.T38 Try.T40 Try.T41 Try.T42 Try.T43 Try.T44 Try.T45 Try.T46 Try.T47 Try.T48 Try.T49 Try.T50 Try.T51 Try.T52 Try.T53 Try.T54 Try.T56 Try.T57 Try.T58 Try.T59 Try.T60 Try.T61 Try.T62 Try.T64 Try.T66 Try.T67 Try.T68 Try.T69 Try.T71 Try.T72 Try.T73 Try.T74 Try.T75 Try.T76 Try.T77 Try.T78 Try.T79 Try.T80 Try.T81 Try.T82 Try.T83 Try.T84 Try.T85 Try.T86 Try.T87 Try.T88 Try.T89 Try.T90 Try.T91 Try.T92 Try.T93 Try.T94 Try.T95 Try.T97 Try.T98 Try.T99 Try.T100 Try.T101 Try.T102 Try.T103 Try.T104 Try.T105 Try.T106 Try.T107 Try.T108 Try.T109 Try.T110 Try.T111 Try.T112 Try.T113 Try.T114 Try.T115 Try.T116 Try.T117 Try.T120 Try.T123 Try.T124 Try.T127 Try.T128
attribute [local irreducible] Go.Av.CallK Go.Av.CallE Go.Av.CallQ Go.Av.CallF Go.Av.CallR Go.Av.CallH Go.Av.Con
/-- Where the last stroke below k is, or 0. -/
def lx (l : List UInt8) : Nat → Nat
  | 0 => 0
  | k + 1 => if l[k]? = some 47 then k else lx l k
/-- A path that is not the root. -/
def chd (l : List UInt8) : Bool := decide (l ≠ [47] ∧ chk l = 0)
def nam (l : List UInt8) : List UInt8 := if chd l = true then l.drop (lx l l.length + 1) else []
end Go.Proofs.Ytnfcbkageifmfaa

/- Layer 3: names, depths, long texts; the law PathChecks. -/
namespace Go.Proofs.Ytnfcbkageifmfaa
set_option linter.unusedSimpArgs false
set_option linter.unusedVariables false
open Go Go.Av
attribute [local simp] Try.T1 Try.T2 Try.T3 Try.T4 Try.T5 Try.T9 Try.T12 Try.T15 Try.T16 Try.T17 Try.T21 Try.T22 Try.T23 Try.T25 Try.T27 Try.T29 Try.T30 Try.T31 Try.T32 Try.T33 Try.T35 Try.T37 Try.T38 Try.T40 Try.T41 Try.T42 Try.T43 Try.T44 Try.T45 Try.T46 Try.T47 Try.T48 Try.T49 Try.T50 Try.T51 Try.T52 Try.T53 Try.T54 Try.T56 Try.T57 Try.T58 Try.T59 Try.T60 Try.T61 Try.T62 Try.T64 Try.T66 Try.T67 Try.T68 Try.T69 Try.T71 Try.T72 Try.T73 Try.T74 Try.T75 Try.T76 Try.T77 Try.T78 Try.T79 Try.T80 Try.T81 Try.T82 Try.T83 Try.T84 Try.T85 Try.T86 Try.T87 Try.T88 Try.T89 Try.T90 Try.T91 Try.T92 Try.T93 Try.T94 Try.T95 Try.T97 Try.T98 Try.T99 Try.T100 Try.T101 Try.T102 Try.T103 Try.T104 Try.T105 Try.T106 Try.T107 Try.T108 Try.T109 Try.T110 Try.T111 Try.T112 Try.T113 Try.T114 Try.T115 Try.T116 Try.T117 Try.T120 Try.T123 Try.T124 Try.T127 Try.T128
attribute [local irreducible] Go.Av.CallK Go.Av.CallE Go.Av.CallQ Go.Av.CallF Go.Av.CallR Go.Av.CallH Go.Av.Con
end Go.Proofs.Ytnfcbkageifmfaa

/- Layer 3: what lies below a path: path.below, path.Below. -/
namespace Go.Proofs.Ytnfcbkageifmfaa
set_option linter.unusedSimpArgs false
set_option linter.unusedVariables false
open Go Go.Av
attribute [local simp] Try.T1 Try.T2 Try.T3 Try.T4 Try.T5 Try.T9 Try.T12 Try.T15 Try.T16 Try.T17 Try.T21 Try.T22 Try.T23 Try.T25 Try.T27 Try.T29 Try.T30 Try.T31 Try.T32 Try.T33 Try.T35 Try.T37 Try.T38 Try.T40 Try.T41 Try.T42 Try.T43 Try.T44 Try.T45 Try.T46 Try.T47 Try.T48 Try.T49 Try.T50 Try.T51 Try.T52 Try.T53 Try.T54 Try.T56 Try.T57 Try.T58 Try.T59 Try.T60 Try.T61 Try.T62 Try.T64 Try.T66 Try.T67 Try.T68 Try.T69 Try.T71 Try.T72 Try.T73 Try.T74 Try.T75 Try.T76 Try.T77 Try.T78 Try.T79 Try.T80 Try.T81 Try.T82 Try.T83 Try.T84 Try.T85 Try.T86 Try.T87 Try.T88 Try.T89 Try.T90 Try.T91 Try.T92 Try.T93 Try.T94 Try.T95 Try.T97 Try.T98 Try.T99 Try.T100 Try.T101 Try.T102 Try.T103 Try.T104 Try.T105 Try.T106 Try.T107 Try.T108 Try.T109 Try.T110 Try.T111 Try.T112 Try.T113 Try.T114 Try.T115 Try.T116 Try.T117 Try.T120 Try.T123 Try.T124 Try.T127 Try.T128
attribute [local irreducible] Go.Av.CallK Go.Av.CallE Go.Av.CallQ Go.Av.CallF Go.Av.CallR Go.Av.CallH Go.Av.Con
end Go.Proofs.Ytnfcbkageifmfaa

/- Layer 3: joined paths: path.Join. -/
namespace Go.Proofs.Ytnfcbkageifmfaa
set_option linter.unusedSimpArgs false
set_option linter.unusedVariables false
open Go Go.Av
attribute [local simp] Try.T1 Try.T2 Try.T3 Try.T4 Try.T5 Try.T9 Try.T12 Try.T15 Try.T16 Try.T17 Try.T21 Try.T22 Try.T23 Try.T25 Try.T27 Try.T29 Try.T30 Try.T31 Try.T32 Try.T33 Try.T35 Try.T37 Try.T38 Try.T40 Try.T41 Try.T42 Try.T43 Try.T44 Try.T45 Try.T46 Try.T47 Try.T48 Try.T49 Try.T50 Try.T51 Try.T52 Try.T53 Try.T54 Try.T56 Try.T57 Try.T58 Try.T59 Try.T60 Try.T61 Try.T62 Try.T64 Try.T66 Try.T67 Try.T68 Try.T69 Try.T71 Try.T72 Try.T73 Try.T74 Try.T75 Try.T76 Try.T77 Try.T78 Try.T79 Try.T80 Try.T81 Try.T82 Try.T83 Try.T84 Try.T85 Try.T86 Try.T87 Try.T88 Try.T89 Try.T90 Try.T91 Try.T92 Try.T93 Try.T94 Try.T95 Try.T97 Try.T98 Try.T99 Try.T100 Try.T101 Try.T102 Try.T103 Try.T104 Try.T105 Try.T106 Try.T107 Try.T108 Try.T109 Try.T110 Try.T111 Try.T112 Try.T113 Try.T114 Try.T115 Try.T116 Try.T117 Try.T120 Try.T123 Try.T124 Try.T127 Try.T128
attribute [local irreducible] Go.Av.CallK Go.Av.CallE Go.Av.CallQ Go.Av.CallF Go.Av.CallR Go.Av.CallH Go.Av.Con
end Go.Proofs.Ytnfcbkageifmfaa

/- Layer 3: a path is its parent with its name; the law PathBack. -/
namespace Go.Proofs.Ytnfcbkageifmfaa
set_option linter.unusedSimpArgs false
set_option linter.unusedVariables false
open Go Go.Av
attribute [local simp] Try.T1 Try.T2 Try.T3 Try.T4 Try.T5 Try.T9 Try.T12 Try.T15 Try.T16 Try.T17 Try.T21 Try.T22 Try.T23 Try.T25 Try.T27 Try.T29 Try.T30 Try.T31 Try.T32 Try.T33 Try.T35 Try.T37 Try.T38 Try.T40 Try.T41 Try.T42 Try.T43 Try.T44 Try.T45 Try.T46 Try.T47 Try.T48 Try.T49 Try.T50 Try.T51 Try.T52 Try.T53 Try.T54 Try.T56 Try.T57 Try.T58 Try.T59 Try.T60 Try.T61 Try.T62 Try.T64 Try.T66 Try.T67 Try.T68 Try.T69 Try.T71 Try.T72 Try.T73 Try.T74 Try.T75 Try.T76 Try.T77 Try.T78 Try.T79 Try.T80 Try.T81 Try.T82 Try.T83 Try.T84 Try.T85 Try.T86 Try.T87 Try.T88 Try.T89 Try.T90 Try.T91 Try.T92 Try.T93 Try.T94 Try.T95 Try.T97 Try.T98 Try.T99 Try.T100 Try.T101 Try.T102 Try.T103 Try.T104 Try.T105 Try.T106 Try.T107 Try.T108 Try.T109 Try.T110 Try.T111 Try.T112 Try.T113 Try.T114 Try.T115 Try.T116 Try.T117 Try.T120 Try.T123 Try.T124 Try.T127 Try.T128
attribute [local irreducible] Go.Av.CallK Go.Av.CallE Go.Av.CallQ Go.Av.CallF Go.Av.CallR Go.Av.CallH Go.Av.Con
end Go.Proofs.Ytnfcbkageifmfaa

/- Layer 3: what is below what; the law PathBelow. -/
namespace Go.Proofs.Ytnfcbkageifmfaa
set_option linter.unusedSimpArgs false
set_option linter.unusedVariables false
open Go Go.Av
attribute [local simp] Try.T1 Try.T2 Try.T3 Try.T4 Try.T5 Try.T9 Try.T12 Try.T15 Try.T16 Try.T17 Try.T21 Try.T22 Try.T23 Try.T25 Try.T27 Try.T29 Try.T30 Try.T31 Try.T32 Try.T33 Try.T35 Try.T37 Try.T38 Try.T40 Try.T41 Try.T42 Try.T43 Try.T44 Try.T45 Try.T46 Try.T47 Try.T48 Try.T49 Try.T50 Try.T51 Try.T52 Try.T53 Try.T54 Try.T56 Try.T57 Try.T58 Try.T59 Try.T60 Try.T61 Try.T62 Try.T64 Try.T66 Try.T67 Try.T68 Try.T69 Try.T71 Try.T72 Try.T73 Try.T74 Try.T75 Try.T76 Try.T77 Try.T78 Try.T79 Try.T80 Try.T81 Try.T82 Try.T83 Try.T84 Try.T85 Try.T86 Try.T87 Try.T88 Try.T89 Try.T90 Try.T91 Try.T92 Try.T93 Try.T94 Try.T95 Try.T97 Try.T98 Try.T99 Try.T100 Try.T101 Try.T102 Try.T103 Try.T104 Try.T105 Try.T106 Try.T107 Try.T108 Try.T109 Try.T110 Try.T111 Try.T112 Try.T113 Try.T114 Try.T115 Try.T116 Try.T117 Try.T120 Try.T123 Try.T124 Try.T127 Try.T128
attribute [local irreducible] Go.Av.CallK Go.Av.CallE Go.Av.CallQ Go.Av.CallF Go.Av.CallR Go.Av.CallH Go.Av.Con
end Go.Proofs.Ytnfcbkageifmfaa

/- Nodes of the tree: lists of them; Find, Children, Texts, Root. -/
namespace Go.Proofs.Ytnfcbkageifmfaa
set_option linter.unusedSimpArgs false
set_option linter.unusedVariables false
open Go Go.Av
attribute [local simp] Try.T1 Try.T2 Try.T3 Try.T4 Try.T5 Try.T9 Try.T12 Try.T15 Try.T16 Try.T17 Try.T21 Try.T22 Try.T23 Try.T25 Try.T27 Try.T29 Try.T30 Try.T31 Try.T32 Try.T33 Try.T35 Try.T37 Try.T38 Try.T40 Try.T41 Try.T42 Try.T43 Try.T44 Try.T45 Try.T46 Try.T47 Try.T48 Try.T49 Try.T50 Try.T51 Try.T52 Try.T53 Try.T54 Try.T56 Try.T57 Try.T58 Try.T59 Try.T60 Try.T61 Try.T62 Try.T64 Try.T66 Try.T67 Try.T68 Try.T69 Try.T71 Try.T72 Try.T73 Try.T74 Try.T75 Try.T76 Try.T77 Try.T78 Try.T79 Try.T80 Try.T81 Try.T82 Try.T83 Try.T84 Try.T85 Try.T86 Try.T87 Try.T88 Try.T89 Try.T90 Try.T91 Try.T92 Try.T93 Try.T94 Try.T95 Try.T97 Try.T98 Try.T99 Try.T100 Try.T101 Try.T102 Try.T103 Try.T104 Try.T105 Try.T106 Try.T107 Try.T108 Try.T109 Try.T110 Try.T111 Try.T112 Try.T113 Try.T114 Try.T115 Try.T116 Try.T117 Try.T120 Try.T123 Try.T124 Try.T127 Try.T128
attribute [local irreducible] Go.Av.CallK Go.Av.CallE Go.Av.CallQ Go.Av.CallF Go.Av.CallR Go.Av.CallH Go.Av.Con
@[simp] theorem empty_bs : ByteArray.empty = bs [] := rfl
structure Zn where
  (p d : List UInt8)
  (v k o : Int)
  deriving DecidableEq
def Zn.c (z : Zn) : List PV := [SB z.p, SB z.d, I z.v, I z.k, I z.o]
theorem Zn.ext5 {x y : Zn} : x = y ↔ x.p = y.p ∧ x.d = y.d ∧ x.v = y.v ∧ x.k = y.k ∧ x.o = y.o := by cases x; cases y; simp
def zns (l : List Zn) : List (List PV) := l.map Zn.c
@[simp] theorem zns_len (l : List Zn) : (zns l).length = l.length := by simp [zns]
@[simp] theorem zns_getElem (l : List Zn) (k : Nat) (h : k < (zns l).length) : (zns l)[k] = [SB (l[k]'(by simpa using h)).p, SB (l[k]'(by simpa using h)).d, I (l[k]'(by simpa using h)).v, I (l[k]'(by simpa using h)).k, I (l[k]'(by simpa using h)).o] := by simp [zns, Zn.c]
theorem zns_get {l : List Zn} {k : Nat} (h : k < l.length) : (zns l)[k]? = some [SB l[k].p, SB l[k].d, I l[k].v, I l[k].k, I l[k].o] := by simp [zns, h, Zn.c]
theorem zns_snoc (l : List Zn) (z : Zn) : zns l ++ [[SB z.p, SB z.d, I z.v, I z.k, I z.o]] = zns (l ++ [z]) := by simp [zns, Zn.c]
theorem zns_take (l : List Zn) (k : Nat) : (zns l).take k = zns (l.take k) := by simp [zns, List.map_take]
theorem zns_drop (l : List Zn) (k : Nat) : (zns l).drop k = zns (l.drop k) := by simp [zns, List.map_drop]
def txs (l : List (List UInt8)) : List (List PV) := l.map fun x => [SB x]
@[simp] theorem txs_len (l : List (List UInt8)) : (txs l).length = l.length := by simp [txs]
@[simp] theorem txs_getElem (l : List (List UInt8)) (k : Nat) (h : k < (txs l).length) : (txs l)[k] = [SB (l[k]'(by simpa using h))] := by simp [txs]
theorem take_snocN {α : Type} (l : List α) (k : Nat) (h : k < l.length) : l.take (k + 1) = l.take k ++ [l[k]] := List.take_succ_eq_append_getElem h
/-! ### Find -/
def zz : Zn := ⟨[], [], 0, 0, 0⟩
def fnd : List Zn → List UInt8 → Zn × Bool
  | [], _ => (zz, false)
  | z :: r, p => if z.p = p then (z, true) else fnd r p
end Go.Proofs.Ytnfcbkageifmfaa

/- Nodes of the tree: lists of them: children, Put, Gone, Same, Root. -/
namespace Go.Proofs.Ytnfcbkageifmfaa
set_option linter.unusedSimpArgs false
set_option linter.unusedVariables false
open Go Go.Av
attribute [local simp] Try.T1 Try.T2 Try.T3 Try.T4 Try.T5 Try.T9 Try.T12 Try.T15 Try.T16 Try.T17 Try.T21 Try.T22 Try.T23 Try.T25 Try.T27 Try.T29 Try.T30 Try.T31 Try.T32 Try.T33 Try.T35 Try.T37 Try.T38 Try.T40 Try.T41 Try.T42 Try.T43 Try.T44 Try.T45 Try.T46 Try.T47 Try.T48 Try.T49 Try.T50 Try.T51 Try.T52 Try.T53 Try.T54 Try.T56 Try.T57 Try.T58 Try.T59 Try.T60 Try.T61 Try.T62 Try.T64 Try.T66 Try.T67 Try.T68 Try.T69 Try.T71 Try.T72 Try.T73 Try.T74 Try.T75 Try.T76 Try.T77 Try.T78 Try.T79 Try.T80 Try.T81 Try.T82 Try.T83 Try.T84 Try.T85 Try.T86 Try.T87 Try.T88 Try.T89 Try.T90 Try.T91 Try.T92 Try.T93 Try.T94 Try.T95 Try.T97 Try.T98 Try.T99 Try.T100 Try.T101 Try.T102 Try.T103 Try.T104 Try.T105 Try.T106 Try.T107 Try.T108 Try.T109 Try.T110 Try.T111 Try.T112 Try.T113 Try.T114 Try.T115 Try.T116 Try.T117 Try.T120 Try.T123 Try.T124 Try.T127 Try.T128
attribute [local irreducible] Go.Av.CallK Go.Av.CallE Go.Av.CallQ Go.Av.CallF Go.Av.CallR Go.Av.CallH Go.Av.Con
/-! ### Children -/
def par (l : List UInt8) : List UInt8 × Bool := if chd l = true then (l.take (max (lx l l.length) 1), true) else ([], false)
def long (z : Zn) : Prop := z.p.length ≤ 9223372036854775807 ∧ z.d.length ≤ 9223372036854775807
/-! ### Put, Gone, Root -/
def lss (a b : List UInt8) : Bool := Op.bytesLess a b
def att : List Zn → List UInt8 → Nat
  | [], _ => 0
  | x :: r, q => if lss x.p q = true then att r q + 1 else 0
theorem att_le : ∀ (l : List Zn) (q : List UInt8), att l q ≤ l.length
  | [], _ => Nat.le_refl 0
  | x :: r, q => by
    rw [att]; split
    · have := att_le r q; simp; omega
    · simp
theorem att_step {l : List Zn} {k : Nat} (h : k < l.length) (q : List UInt8) : att (l.drop k) q = if lss l[k].p q = true then att (l.drop (k + 1)) q + 1 else 0 := by
  rw [List.drop_eq_getElem_cons h]; rfl
def rst : List Zn → List UInt8 → List Zn
  | [], _ => []
  | x :: r, q => if x.p = q then r else x :: r
def putZ (l : List Zn) (z : Zn) : List Zn := l.take (att l z.p) ++ z :: rst (l.drop (att l z.p)) z.p
theorem put07_con (l : List Zn) (z : Zn) (hl : l.length ≤ 1000000) : ACon Try.prog 67 [.p (.sl 5 (zns l)), .p (.agg z.c)] (.p (.sl 5 (zns (putZ l z)))) := by
  refine wBody Try.tab Try.mixed Try.func67 rfl rfl Try.ntmps67 (by simp) (by simp) fun Q hr hn => ?_
  repeat' first | (refine hK _ ?_; clear hK) | (refine hK _ _ ?_; clear hK) | (clear hK; refine hK _ ?_; clear hK) | (clear hK; clear hK; refine hK _ ?_; clear hK) | (clear hK; clear hK; clear hK; refine hK _ ?_; clear hK) | (clear hK; clear hK; clear hK; clear hK; refine hK _ ?_; clear hK) | (refine wSeq fun K hK => ?_) | ((first | refine wReg ?_ | refine wDrwQ rfl (by kernel_rfl) ?_ | refine wDrwI ?_ | refine wDrw (by kernel_rfl) ?_); simp only [List.map_cons, List.map_nil, strip]) | ((first | refine wIs fun K hK => ?_ | refine wOs fun K hK => ?_ | refine wQs fun K hK => ?_ | refine CallK_plain ?_ | refine CallQ_plain ?_ | refine CallR_plain ?_ | refine wCond ?_); simp [Zn.c]) | (refine wIn ?_; refine And.intro (by kernel_rfl) ?_; try simp only [thenA_n]) | (first | refine wBlock ?_ | refine wScope ?_) | ((first | refine wRet ?_ | refine wExit ?_ | refine wSkip ?_); try simp) | ((first | refine wLabel ?_ | refine wOn ?_ | refine wQn ?_); try simp only [thenA_n])
  refine wLoop (fun N st => ∃ k, k + N = l.length ∧ att l z.p = k + att (l.drop k) z.p ∧ st.s 0 = .p (.sl 5 (zns l)) ∧ st.s 5 = .p (I k) ∧ st.s 3 = .ptr 3 0 ∧ st.b 3 = some (.box 64 [.p (SB z.p), .p (SB z.d), .p (I z.v), .p (I z.k), .p (I z.o)])) l.length ⟨0, by simp⟩ fun K N st hL ⟨k, hk, hi, g0, g5, g3, b3⟩ => ?_
  have hend : att (l.drop k) z.p = 0 → putZ l z = l.take k ++ z :: rst (l.drop k) z.p := fun h => by
    unfold putZ; rw [hi, h, Nat.add_zero]
  by_cases hlt : k < l.length
  · have hw := wrapS k _ hlt (by omega)
    have he := zns_get hlt
    have hs := att_step hlt z.p
    cases o : lss l[k].p z.p
    · rw [o, if_neg (by simp)] at hs
      rw [hend hs] at hr
      have o' : Op.bytesLess l[k].p z.p = false := o
      have hd := List.drop_eq_getElem_cons hlt
      have hle : k ≤ l.length := by omega
      have hdn : (l.drop (k + 1)).length ≤ 1000000 := by simp; omega
      rw [hd, rst] at hr
      have ht := zns_take l k
      have hdr := zns_drop l k
      have hdr2 := zns_drop l (k + 1)
      have hle1 : k + 1 ≤ l.length := by omega
      have h0k : (0 : Int) ≤ (k : Int) + 1 := by omega
      have hw2 : IntKind.i64.wrap ((k : Int) + 1) = (((k + 1 : Nat)) : Int) := hw
      have hzn := zns_snoc (l.take k) z
      have hzt := zns_len (l.take k ++ [z])
      have hztc : (l.take k).length ≤ 1000000 := by simp; omega
      have hn0 : 0 < l.length - k := by omega
      have hn1 : ¬ l.length - k = 0 := by omega
      have hn2 : 1 ≤ l.length - k := by omega
      have htb : (zns (l.drop k)).take (l.length - k) = zns (l.drop k) := List.take_of_length_le (by simp)
      have hdr3 : (zns (l.drop k)).drop 1 = zns (l.drop (k + 1)) := by rw [zns_drop, List.drop_drop]
      have hta : (zns l).take l.length = zns l := List.take_of_length_le (by simp)
      by_cases o2 : l[k].p = z.p
      · rw [if_pos o2] at hr
        rw [o2] at o'
        repeat' first | (refine And.intro (by (try simp); omega) ?_) | (refine Or.inl ?_) | (refine hK _ ?_; clear hK) | (refine hK _ _ ?_; clear hK) | (clear hK; refine hK _ ?_; clear hK) | (clear hK; clear hK; refine hK _ ?_; clear hK) | (clear hK; clear hK; clear hK; refine hK _ ?_; clear hK) | (clear hK; clear hK; clear hK; clear hK; refine hK _ ?_; clear hK) | (refine wSeq fun K hK => ?_) | ((first | refine wReg ?_ | refine wDrwQ rfl (by kernel_rfl) ?_ | refine wDrwI ?_ | refine wDrw (by kernel_rfl) ?_); simp only [List.map_cons, List.map_nil, strip]) | ((first | refine wIs fun K hK => ?_ | refine wOs fun K hK => ?_ | refine wQs fun K hK => ?_ | refine CallK_plain ?_ | refine CallQ_plain ?_ | refine CallR_plain ?_ | refine wCond ?_); simp [g0, g5, g3, b3, hlt, hw, he, o', o2, ht, hdr, hdr2, hle, hle1, h0k, hw2, hta, hzn, hzt, hztc]) | (refine wIn ?_; refine And.intro (by kernel_rfl) ?_; try simp only [thenA_n]) | (first | refine wBlock ?_ | refine wScope ?_) | ((first | refine wRet ?_ | refine wExit ?_ | refine wSkip ?_); try simp) | ((first | refine wLabel ?_ | refine wOn ?_ | refine wQn ?_); try simp only [thenA_n])
        all_goals apply hr
        all_goals simp [Try.f67, zns, Zn.c]
      · rw [if_neg o2] at hr
        repeat' first | (refine And.intro (by (try simp); omega) ?_) | (refine Or.inl ?_) | (refine hK _ ?_; clear hK) | (refine hK _ _ ?_; clear hK) | (clear hK; refine hK _ ?_; clear hK) | (clear hK; clear hK; refine hK _ ?_; clear hK) | (clear hK; clear hK; clear hK; refine hK _ ?_; clear hK) | (clear hK; clear hK; clear hK; clear hK; refine hK _ ?_; clear hK) | (refine wSeq fun K hK => ?_) | ((first | refine wReg ?_ | refine wDrwQ rfl (by kernel_rfl) ?_ | refine wDrwI ?_ | refine wDrw (by kernel_rfl) ?_); simp only [List.map_cons, List.map_nil, strip]) | ((first | refine wIs fun K hK => ?_ | refine wOs fun K hK => ?_ | refine wQs fun K hK => ?_ | refine CallK_plain ?_ | refine CallQ_plain ?_ | refine CallR_plain ?_ | refine wCond ?_); simp [g0, g5, g3, b3, hlt, hw, he, o', o2, ht, hdr, hdr2, hle, hle1, h0k, hw2, hta, hzn, hzt, hztc]) | (refine wIn ?_; refine And.intro (by kernel_rfl) ?_; try simp only [thenA_n]) | (first | refine wBlock ?_ | refine wScope ?_) | ((first | refine wRet ?_ | refine wExit ?_ | refine wSkip ?_); try simp) | ((first | refine wLabel ?_ | refine wOn ?_ | refine wQn ?_); try simp only [thenA_n])
        all_goals apply hr
        all_goals simp [Try.f67, zns, Zn.c]
    · rw [o, if_pos rfl] at hs
      have o' : Op.bytesLess l[k].p z.p = true := o
      repeat' first | (refine hK _ ?_; clear hK) | (refine hK _ _ ?_; clear hK) | (clear hK; refine hK _ ?_; clear hK) | (clear hK; clear hK; refine hK _ ?_; clear hK) | (clear hK; clear hK; clear hK; refine hK _ ?_; clear hK) | (clear hK; clear hK; clear hK; clear hK; refine hK _ ?_; clear hK) | (refine wSeq fun K hK => ?_) | ((first | refine wReg ?_ | refine wDrwQ rfl (by kernel_rfl) ?_ | refine wDrwI ?_ | refine wDrw (by kernel_rfl) ?_); simp only [List.map_cons, List.map_nil, strip]) | ((first | refine wIs fun K hK => ?_ | refine wOs fun K hK => ?_ | refine wQs fun K hK => ?_ | refine CallK_plain ?_ | refine CallQ_plain ?_ | refine CallR_plain ?_ | refine wCond ?_); simp [g0, g5, g3, b3, hlt, hw, he, o']) | (refine wIn ?_; refine And.intro (by kernel_rfl) ?_; try simp only [thenA_n]) | (first | refine wBlock ?_ | refine wScope ?_) | ((first | refine wRet ?_ | refine wExit ?_ | refine wSkip ?_); try simp) | ((first | refine wLabel ?_ | refine wOn ?_ | refine wQn ?_); try simp only [thenA_n])
      refine hL _ (N - 1) (by omega) ⟨k + 1, by omega, by omega, ?_⟩
      simp [g0, g5, g3, b3, hw]
  · obtain rfl : k = l.length := by omega
    have hd : l.drop l.length = [] := List.drop_of_length_le (by omega)
    rw [hd] at hend
    rw [hend rfl] at hr
    have hta : (zns l).take l.length = zns l := List.take_of_length_le (by simp)
    have hta2 : l.take l.length = l := List.take_of_length_le (by simp)
    have hdr : (zns l).drop l.length = [] := List.drop_of_length_le (by simp)
    have hsn := zns_snoc l z
    rw [hta2, rst, ← hsn] at hr
    repeat' first | (refine And.intro (by (try simp); omega) ?_) | (refine Or.inl ?_) | (refine hK _ ?_; clear hK) | (refine hK _ _ ?_; clear hK) | (clear hK; refine hK _ ?_; clear hK) | (clear hK; clear hK; refine hK _ ?_; clear hK) | (clear hK; clear hK; clear hK; refine hK _ ?_; clear hK) | (clear hK; clear hK; clear hK; clear hK; refine hK _ ?_; clear hK) | (refine wSeq fun K hK => ?_) | ((first | refine wReg ?_ | refine wDrwQ rfl (by kernel_rfl) ?_ | refine wDrwI ?_ | refine wDrw (by kernel_rfl) ?_); simp only [List.map_cons, List.map_nil, strip]) | ((first | refine wIs fun K hK => ?_ | refine wOs fun K hK => ?_ | refine wQs fun K hK => ?_ | refine CallK_plain ?_ | refine CallQ_plain ?_ | refine CallR_plain ?_ | refine wCond ?_); simp [g0, g5, g3, b3, hta, hdr]) | (refine wIn ?_; refine And.intro (by kernel_rfl) ?_; try simp only [thenA_n]) | (first | refine wBlock ?_ | refine wScope ?_) | ((first | refine wRet ?_ | refine wExit ?_ | refine wSkip ?_); try simp) | ((first | refine wLabel ?_ | refine wOn ?_ | refine wQn ?_); try simp only [thenA_n])
    all_goals apply hr
    all_goals simp [Try.f67]
def gone (l : List Zn) (p : List UInt8) : List Zn := l.filter fun z => !decide (z.p = p)
theorem gone_snoc {l : List Zn} {k : Nat} (h : k < l.length) (p : List UInt8) : gone (l.take (k + 1)) p = if l[k].p = p then gone (l.take k) p else gone (l.take k) p ++ [l[k]] := by
  unfold gone
  rw [take_snocN _ k h, List.filter_append]
  by_cases g : l[k].p = p <;> simp [g]
theorem gone_len (l : List Zn) (p : List UInt8) (k : Nat) : (gone (l.take k) p).length ≤ k := by
  unfold gone
  exact Nat.le_trans (List.length_filter_le _ _) (by simp; omega)
theorem gone07_con (l : List Zn) (p : List UInt8) (hl : l.length ≤ 1000000) : ACon Try.prog 68 [.p (.sl 5 (zns l)), .p (SB p)] (.p (.sl 5 (zns (gone l p)))) := by
  refine wBody Try.tab Try.mixed Try.func68 rfl rfl Try.ntmps68 (by simp) (by simp) fun Q hr hn => ?_
  repeat' first | (refine hK _ ?_; clear hK) | (refine hK _ _ ?_; clear hK) | (clear hK; refine hK _ ?_; clear hK) | (clear hK; clear hK; refine hK _ ?_; clear hK) | (clear hK; clear hK; clear hK; refine hK _ ?_; clear hK) | (clear hK; clear hK; clear hK; clear hK; refine hK _ ?_; clear hK) | (refine wSeq fun K hK => ?_) | ((first | refine wReg ?_ | refine wDrwQ rfl (by kernel_rfl) ?_ | refine wDrwI ?_ | refine wDrw (by kernel_rfl) ?_); simp only [List.map_cons, List.map_nil, strip]) | ((first | refine wIs fun K hK => ?_ | refine wOs fun K hK => ?_ | refine wQs fun K hK => ?_ | refine CallK_plain ?_ | refine CallQ_plain ?_ | refine CallR_plain ?_ | refine wCond ?_); simp) | (refine wIn ?_; refine And.intro (by kernel_rfl) ?_; try simp only [thenA_n]) | (first | refine wBlock ?_ | refine wScope ?_) | ((first | refine wRet ?_ | refine wExit ?_ | refine wSkip ?_); try simp) | ((first | refine wLabel ?_ | refine wOn ?_ | refine wQn ?_); try simp only [thenA_n])
  refine wLoopG [.row 5 64 5] (fun N st => ∃ k, k + N = l.length ∧ st.s 1 = .p (SB p) ∧ st.s 8 = .p (.sl 5 (zns l)) ∧ st.s 9 = .p (I l.length) ∧ st.s 10 = .p (I k) ∧ st.s 5 = .row 5 ∧ st.b 5 = some (.row 64 5 (zns (gone (l.take k) p)))) l.length ⟨0, by simp [gone, zns]⟩ fun K N st hL ⟨k, hk, g1, g8, g9, g10, g5, b5⟩ => ?_
  have hkl := gone_len l p k
  by_cases hlt : k < l.length
  · have hw := wrapS k _ hlt (by omega)
    have he := zns_get hlt
    have hs := gone_snoc hlt p
    have hx := zns_snoc (gone (l.take k) p) l[k]
    by_cases o : l[k].p = p
    · rw [if_pos o] at hs
      repeat' first | (refine hK _ ?_; clear hK) | (refine hK _ _ ?_; clear hK) | (clear hK; refine hK _ ?_; clear hK) | (clear hK; clear hK; refine hK _ ?_; clear hK) | (clear hK; clear hK; clear hK; refine hK _ ?_; clear hK) | (clear hK; clear hK; clear hK; clear hK; refine hK _ ?_; clear hK) | (refine wSeq fun K hK => ?_) | ((first | refine wReg ?_ | refine wDrwQ rfl (by kernel_rfl) ?_ | refine wDrwI ?_ | refine wDrw (by kernel_rfl) ?_); simp only [List.map_cons, List.map_nil, strip]) | ((first | refine wIs fun K hK => ?_ | refine wOs fun K hK => ?_ | refine wQs fun K hK => ?_ | refine CallK_plain ?_ | refine CallQ_plain ?_ | refine CallR_plain ?_ | refine wCond ?_); simp [g1, g8, g9, g10, g5, b5, hlt, hw, he, o]) | (refine wIn ?_; refine And.intro (by kernel_rfl) ?_; try simp only [thenA_n]) | (first | refine wBlock ?_ | refine wScope ?_) | ((first | refine wRet ?_ | refine wExit ?_ | refine wSkip ?_); try simp) | ((first | refine wLabel ?_ | refine wOn ?_ | refine wQn ?_); try simp only [thenA_n])
      refine hL _ (N - 1) (by omega) ⟨k + 1, by omega, ?_⟩
      simp [g1, g8, g9, g10, g5, b5, hw, hs]
    · rw [if_neg o] at hs
      rw [← hs] at hx
      repeat' first | (refine And.intro (by (try simp at hkl ⊢); omega) ?_) | (refine hK _ ?_; clear hK) | (refine hK _ _ ?_; clear hK) | (clear hK; refine hK _ ?_; clear hK) | (clear hK; clear hK; refine hK _ ?_; clear hK) | (clear hK; clear hK; clear hK; refine hK _ ?_; clear hK) | (clear hK; clear hK; clear hK; clear hK; refine hK _ ?_; clear hK) | (refine wSeq fun K hK => ?_) | ((first | refine wReg ?_ | refine wDrwQ rfl (by kernel_rfl) ?_ | refine wDrwI ?_ | refine wDrw (by kernel_rfl) ?_); simp only [List.map_cons, List.map_nil, strip]) | ((first | refine wIs fun K hK => ?_ | refine wOs fun K hK => ?_ | refine wQs fun K hK => ?_ | refine CallK_plain ?_ | refine CallQ_plain ?_ | refine CallR_plain ?_ | refine wCond ?_); simp [g1, g8, g9, g10, g5, b5, hlt, hw, he, o]) | (refine wIn ?_; refine And.intro (by kernel_rfl) ?_; try simp only [thenA_n]) | (first | refine wBlock ?_ | refine wScope ?_) | ((first | refine wRet ?_ | refine wExit ?_ | refine wSkip ?_); try simp) | ((first | refine wLabel ?_ | refine wOn ?_ | refine wQn ?_); try simp only [thenA_n])
      refine hL _ (N - 1) (by omega) ⟨k + 1, by omega, ?_⟩
      simp [g1, g8, g9, g10, g5, b5, hw, hx]
  · rw [List.take_of_length_le (by omega)] at b5
    repeat' first | (refine hK _ ?_; clear hK) | (refine hK _ _ ?_; clear hK) | (clear hK; refine hK _ ?_; clear hK) | (clear hK; clear hK; refine hK _ ?_; clear hK) | (clear hK; clear hK; clear hK; refine hK _ ?_; clear hK) | (clear hK; clear hK; clear hK; clear hK; refine hK _ ?_; clear hK) | (refine wSeq fun K hK => ?_) | ((first | refine wReg ?_ | refine wDrwQ rfl (by kernel_rfl) ?_ | refine wDrwI ?_ | refine wDrw (by kernel_rfl) ?_); simp only [List.map_cons, List.map_nil, strip]) | ((first | refine wIs fun K hK => ?_ | refine wOs fun K hK => ?_ | refine wQs fun K hK => ?_ | refine CallK_plain ?_ | refine CallQ_plain ?_ | refine CallR_plain ?_ | refine wCond ?_); simp [g1, g8, g9, g10, g5, b5, hlt]) | (refine wIn ?_; refine And.intro (by kernel_rfl) ?_; try simp only [thenA_n]) | (first | refine wBlock ?_ | refine wScope ?_) | ((first | refine wRet ?_ | refine wExit ?_ | refine wSkip ?_); try simp) | ((first | refine wLabel ?_ | refine wOn ?_ | refine wQn ?_); try simp only [thenA_n])
    all_goals apply hr
    all_goals simp [Try.f68, g5, b5]
end Go.Proofs.Ytnfcbkageifmfaa

/- Nodes of the tree: what may be a tree; Same. -/
namespace Go.Proofs.Ytnfcbkageifmfaa
set_option linter.unusedSimpArgs false
set_option linter.unusedVariables false
open Go Go.Av
attribute [local simp] Try.T1 Try.T2 Try.T3 Try.T4 Try.T5 Try.T9 Try.T12 Try.T15 Try.T16 Try.T17 Try.T21 Try.T22 Try.T23 Try.T25 Try.T27 Try.T29 Try.T30 Try.T31 Try.T32 Try.T33 Try.T35 Try.T37 Try.T38 Try.T40 Try.T41 Try.T42 Try.T43 Try.T44 Try.T45 Try.T46 Try.T47 Try.T48 Try.T49 Try.T50 Try.T51 Try.T52 Try.T53 Try.T54 Try.T56 Try.T57 Try.T58 Try.T59 Try.T60 Try.T61 Try.T62 Try.T64 Try.T66 Try.T67 Try.T68 Try.T69 Try.T71 Try.T72 Try.T73 Try.T74 Try.T75 Try.T76 Try.T77 Try.T78 Try.T79 Try.T80 Try.T81 Try.T82 Try.T83 Try.T84 Try.T85 Try.T86 Try.T87 Try.T88 Try.T89 Try.T90 Try.T91 Try.T92 Try.T93 Try.T94 Try.T95 Try.T97 Try.T98 Try.T99 Try.T100 Try.T101 Try.T102 Try.T103 Try.T104 Try.T105 Try.T106 Try.T107 Try.T108 Try.T109 Try.T110 Try.T111 Try.T112 Try.T113 Try.T114 Try.T115 Try.T116 Try.T117 Try.T120 Try.T123 Try.T124 Try.T127 Try.T128
attribute [local irreducible] Go.Av.CallK Go.Av.CallE Go.Av.CallQ Go.Av.CallF Go.Av.CallR Go.Av.CallH Go.Av.Con
/-- Whether a node may be so, by itself. -/
def rgz (z : Zn) : Bool := decide (chk z.p = 0 ∧ (z.d.length : Int) ≤ 128 ∧ 0 ≤ z.v ∧ z.v ≤ 1099511627776 ∧ 0 ≤ z.k ∧ z.k ≤ 1099511627776 ∧ 0 ≤ z.o)
/-- Whether the parent of z is there, and nobody's. -/
def hld (l : List Zn) (z : Zn) : Bool := (par z.p).2 && ((fnd l (par z.p).1).2 && decide ((fnd l (par z.p).1).1.o = 0))
end Go.Proofs.Ytnfcbkageifmfaa

/- Nodes of the tree: what is a tree. -/
namespace Go.Proofs.Ytnfcbkageifmfaa
set_option linter.unusedSimpArgs false
set_option linter.unusedVariables false
open Go Go.Av
attribute [local simp] Try.T1 Try.T2 Try.T3 Try.T4 Try.T5 Try.T9 Try.T12 Try.T15 Try.T16 Try.T17 Try.T21 Try.T22 Try.T23 Try.T25 Try.T27 Try.T29 Try.T30 Try.T31 Try.T32 Try.T33 Try.T35 Try.T37 Try.T38 Try.T40 Try.T41 Try.T42 Try.T43 Try.T44 Try.T45 Try.T46 Try.T47 Try.T48 Try.T49 Try.T50 Try.T51 Try.T52 Try.T53 Try.T54 Try.T56 Try.T57 Try.T58 Try.T59 Try.T60 Try.T61 Try.T62 Try.T64 Try.T66 Try.T67 Try.T68 Try.T69 Try.T71 Try.T72 Try.T73 Try.T74 Try.T75 Try.T76 Try.T77 Try.T78 Try.T79 Try.T80 Try.T81 Try.T82 Try.T83 Try.T84 Try.T85 Try.T86 Try.T87 Try.T88 Try.T89 Try.T90 Try.T91 Try.T92 Try.T93 Try.T94 Try.T95 Try.T97 Try.T98 Try.T99 Try.T100 Try.T101 Try.T102 Try.T103 Try.T104 Try.T105 Try.T106 Try.T107 Try.T108 Try.T109 Try.T110 Try.T111 Try.T112 Try.T113 Try.T114 Try.T115 Try.T116 Try.T117 Try.T120 Try.T123 Try.T124 Try.T127 Try.T128
attribute [local irreducible] Go.Av.CallK Go.Av.CallE Go.Av.CallQ Go.Av.CallF Go.Av.CallR Go.Av.CallH Go.Av.Con
def okA (l : List Zn) (i : Nat) : Bool := match l[i]? with
  | some z => rgz z && (match i with
    | 0 => true
    | j + 1 => match l[j]? with
      | some y => lss y.p z.p && hld (l.take (j + 1)) z
      | none => false)
  | none => false
end Go.Proofs.Ytnfcbkageifmfaa

/- Nodes of the tree: both ways to say what is a tree are one; order of paths. -/
namespace Go.Proofs.Ytnfcbkageifmfaa
set_option linter.unusedSimpArgs false
set_option linter.unusedVariables false
open Go Go.Av
end Go.Proofs.Ytnfcbkageifmfaa

/- Nodes of the tree: Same, far, what comes in; the laws ZnodePuts, ZnodeAsks. -/
namespace Go.Proofs.Ytnfcbkageifmfaa
set_option linter.unusedSimpArgs false
set_option linter.unusedVariables false
open Go Go.Av
attribute [local simp] Try.T1 Try.T2 Try.T3 Try.T4 Try.T5 Try.T9 Try.T12 Try.T15 Try.T16 Try.T17 Try.T21 Try.T22 Try.T23 Try.T25 Try.T27 Try.T29 Try.T30 Try.T31 Try.T32 Try.T33 Try.T35 Try.T37 Try.T38 Try.T40 Try.T41 Try.T42 Try.T43 Try.T44 Try.T45 Try.T46 Try.T47 Try.T48 Try.T49 Try.T50 Try.T51 Try.T52 Try.T53 Try.T54 Try.T56 Try.T57 Try.T58 Try.T59 Try.T60 Try.T61 Try.T62 Try.T64 Try.T66 Try.T67 Try.T68 Try.T69 Try.T71 Try.T72 Try.T73 Try.T74 Try.T75 Try.T76 Try.T77 Try.T78 Try.T79 Try.T80 Try.T81 Try.T82 Try.T83 Try.T84 Try.T85 Try.T86 Try.T87 Try.T88 Try.T89 Try.T90 Try.T91 Try.T92 Try.T93 Try.T94 Try.T95 Try.T97 Try.T98 Try.T99 Try.T100 Try.T101 Try.T102 Try.T103 Try.T104 Try.T105 Try.T106 Try.T107 Try.T108 Try.T109 Try.T110 Try.T111 Try.T112 Try.T113 Try.T114 Try.T115 Try.T116 Try.T117 Try.T120 Try.T123 Try.T124 Try.T127 Try.T128
attribute [local irreducible] Go.Av.CallK Go.Av.CallE Go.Av.CallQ Go.Av.CallF Go.Av.CallR Go.Av.CallH Go.Av.Con
/-! ### What comes in -/
theorem Zn.ofL {ps : List PV} (h : ShL [.str, .str, .int .i64, .int .i64, .int .i64] ps) : ∃ a : {z : Zn // long z}, ps = a.1.c := by
  obtain ⟨_, _, rfl, h0, h⟩ := h.cons
  obtain ⟨_, _, rfl, h1, h⟩ := h.cons
  obtain ⟨_, _, rfl, h2, h⟩ := h.cons
  obtain ⟨_, _, rfl, h3, h⟩ := h.cons
  obtain ⟨_, _, rfl, h4, h⟩ := h.cons
  obtain rfl := h.nil
  obtain ⟨s, rfl, hs⟩ := h0.strI
  obtain ⟨d, rfl, hd⟩ := h1.strI
  obtain ⟨v, rfl, -⟩ := h2.intI
  obtain ⟨k, rfl, -⟩ := h3.intI
  obtain ⟨o, rfl, -⟩ := h4.intI
  have hl : ∀ s : ByteArray, s.size ≤ maxLen → s.data.toList.length ≤ 9223372036854775807 := fun s hs => by
    have h1 : s.data.toList.length = s.size := Array.length_toList
    have h2 : maxLen = 9223372036854775807 := rfl
    omega
  refine ⟨⟨⟨s.data.toList, d.data.toList, v, k, o⟩, hl s hs, hl d hd⟩, ?_⟩
  obtain ⟨a, ha⟩ := bs_all s
  obtain ⟨b, hb⟩ := bs_all d
  subst ha; subst hb
  simp [Zn.c]
theorem Zn.open {p : PV} (hp : ShT Try.T 64 p) : ∃ z : Zn, long z ∧ p = .agg z.c := by
  obtain ⟨ps, rfl, h⟩ := hp.agg (E := [.str, .str, .int .i64, .int .i64, .int .i64]) rfl rfl rfl
  obtain ⟨⟨z, hz⟩, rfl⟩ := Zn.ofL h
  exact ⟨z, hz, rfl⟩
/-! ### The laws -/
end Go.Proofs.Ytnfcbkageifmfaa

/- Nodes of the tree: what Put and Gone come to. -/
namespace Go.Proofs.Ytnfcbkageifmfaa
set_option linter.unusedSimpArgs false
set_option linter.unusedVariables false
open Go Go.Av
theorem rst_sub (l : List Zn) (q : List UInt8) : (rst l q).Sublist l := by
  cases l with
  | nil => exact .slnil
  | cons x r =>
    rw [rst]; split
    · exact List.sublist_cons_self x r
    · exact List.Sublist.refl _
end Go.Proofs.Ytnfcbkageifmfaa

/- Nodes of the tree: the law ZnodeStays. -/
namespace Go.Proofs.Ytnfcbkageifmfaa
set_option linter.unusedSimpArgs false
set_option linter.unusedVariables false
open Go Go.Av
attribute [local simp] Try.T1 Try.T2 Try.T3 Try.T4 Try.T5 Try.T9 Try.T12 Try.T15 Try.T16 Try.T17 Try.T21 Try.T22 Try.T23 Try.T25 Try.T27 Try.T29 Try.T30 Try.T31 Try.T32 Try.T33 Try.T35 Try.T37 Try.T38 Try.T40 Try.T41 Try.T42 Try.T43 Try.T44 Try.T45 Try.T46 Try.T47 Try.T48 Try.T49 Try.T50 Try.T51 Try.T52 Try.T53 Try.T54 Try.T56 Try.T57 Try.T58 Try.T59 Try.T60 Try.T61 Try.T62 Try.T64 Try.T66 Try.T67 Try.T68 Try.T69 Try.T71 Try.T72 Try.T73 Try.T74 Try.T75 Try.T76 Try.T77 Try.T78 Try.T79 Try.T80 Try.T81 Try.T82 Try.T83 Try.T84 Try.T85 Try.T86 Try.T87 Try.T88 Try.T89 Try.T90 Try.T91 Try.T92 Try.T93 Try.T94 Try.T95 Try.T97 Try.T98 Try.T99 Try.T100 Try.T101 Try.T102 Try.T103 Try.T104 Try.T105 Try.T106 Try.T107 Try.T108 Try.T109 Try.T110 Try.T111 Try.T112 Try.T113 Try.T114 Try.T115 Try.T116 Try.T117 Try.T120 Try.T123 Try.T124 Try.T127 Try.T128
attribute [local irreducible] Go.Av.CallK Go.Av.CallE Go.Av.CallQ Go.Av.CallF Go.Av.CallR Go.Av.CallH Go.Av.Con
theorem rst_len (l : List Zn) (q : List UInt8) : (rst l q).length ≤ l.length := (rst_sub l q).length_le
theorem putZ_len (l : List Zn) (z : Zn) : (putZ l z).length ≤ l.length + 1 := by
  have := rst_len (l.drop (att l z.p)) z.p
  have h2 := att_le l z.p
  unfold putZ
  simp at this ⊢
  omega
theorem goneZ_len (l : List Zn) (p : List UInt8) : (gone l p).length ≤ l.length := List.length_filter_le _ _
end Go.Proofs.Ytnfcbkageifmfaa

/- slices.Insert of one api.Learner. -/
namespace Go.Proofs.Ytnfcbkageifmfaa
set_option linter.unusedSimpArgs false
set_option linter.unusedVariables false
open Go Go.Av Go.Lib Go.RowKit
theorem wp_copy_eq (w : World) {o : Oper} {a : Act} {K : Act → World → Prop} {Q : Exit → Act → World → Prop} (d s : Operand) (t t' : TypeId) {P : Program}
    (ho : o.op = .call { callee := .builtin .copy, args := #[d, s], argTypes := #[t, t'] }) {v u : Value} (hd : a.eval d = v) (hs : a.eval s = u) {v' : Value} {w' : World}
    (hr : (Builtin.copy_ #[t, t'] o.type #[v, u]).run P w = .ok v' w') (h : K (a.put o.dst v') w') : o.wp P a w K Q := by
  unfold Oper.wp execOp
  simp only [ho, resolve, invoke, builtin, Sem.run_bind, Sem.run_pure, Result.andThen_ok, List.map_toArray, List.map_cons, List.map_nil, hd, hs, hr]
  exact h
theorem wpList_copy_eq {P : Program} (w : World) {ops : Array Oper} {rest : List Oper} {o : Oper} {a : Act} {Q : Exit → Act → World → Prop} (hgd : o.guard = none) (d s : Operand) (t t' : TypeId)
    (ho : o.op = .call { callee := .builtin .copy, args := #[d, s], argTypes := #[t, t'] }) {v u : Value} (hd : a.eval d = v) (hs : a.eval s = u) {v' : Value} {w' : World}
    (hr : (Builtin.copy_ #[t, t'] o.type #[v, u]).run P w = .ok v' w') (h : wpList P ops Q rest (a.put o.dst v') w') : wpList P ops Q (o :: rest) a w :=
  wpList_plain hgd fun _ hK => wp_copy_eq w d s t t' ho hd hs hr (hK _ _ h)
theorem step_copy_eq {P : Program} {ops : Array Oper} {o : Oper} {a : Act} {w : World} {K : Act → World → Prop} {Q : Exit → Act → World → Prop} {E : Prop}
    (hg : o.guard = none) (d x : Operand) (dT sT : TypeId) (hop : o.op = Op.call { callee := Callee.builtin Builtin.copy, args := #[d, x], argTypes := #[dT, sT] })
    (v u : Value) (hd : a.eval d = v) (hx : a.eval x = u) {v' : Value} {w' : World} (hr : (Builtin.copy_ #[dT, sT] o.type #[v, u]).run P w = .ok v' w') (hK : K (a.put o.dst v') w') :
    if Region.wanted o (yielded ops a.tmps) = true then Oper.wp P o a w K Q else E := by
  have hw : Region.wanted o (yielded ops a.tmps) = true := by simp [Region.wanted, hg]
  rw [if_pos hw]
  exact wp_copy_eq w d x dT sT hop hd hx hr hK
set_option maxHeartbeats 4000000 in
set_option maxRecDepth 100000 in
theorem ins_shift (b n c i vb voff vc : Nat) (cur cA : Array Value) (vs : List Value) (w : World) (tA : TypeId) (fA : Nat × Nat) (hg : w.heap[b]? = some (.cells cur 27 (0, 0))) (hsz : cur.size = c * 8)
    (hi : i < n) (hroom : n + 1 ≤ c) (hc63 : c ≤ 9223372036854775807) (hvb : vb ≠ b) (hv : w.heap[vb]? = some (.cells cA tA fA)) (hvl : vs.length = 8) (hvs : ∀ (j : Nat) (v : Value), vs[j]? = some v → cA[voff + j]? = some v)
    (h1 : ∀ v ∈ vs, v.oneCell' = true) (h1c : ∀ (j : Nat) (v : Value), j < n * 8 → cur[j]? = some v → v.oneCell' = true) :
    Calls Try.prog 34 #[.slice (some ⟨b, 0, none⟩) n c, .int .i64 i, .slice (some ⟨vb, voff, none⟩) 1 vc] w fun e w' =>
      e = .returned (.slice (some ⟨b, 0, none⟩) (n + 1) c) ∧
      w' = (w.drew.setRow b (spl cur ((i + 1) * 8) ((cur.toList.drop (i * 8)).take ((n - i) * 8)))).setRow b (spl (spl cur ((i + 1) * 8) ((cur.toList.drop (i * 8)).take ((n - i) * 8))) (i * 8) vs) := by
  have hu : Try.prog.underlying 22 = some (.slice 27) := (Try.tab 22 _ rfl).kind
  obtain ⟨ti, tz, hti, htz0, -⟩ := (Try.tab 27 _ rfl).info
  have htz : ti.size = 8 := htz0
  have hz2 : ¬ ((i : Int) = (n : Int)) := by omega
  have hov : ∀ lb cb, (callFunc 51 #[.slice (some ⟨vb, voff, none⟩) 1 vc, .slice (some ⟨b, (i + 1) * 8, none⟩) lb cb]).run Try.prog w = .ok (.value (.bool false)) w := fun lb cb => by
    rw [run_callFunc_extern Try.func51 (by kernel_rfl) (by kernel_rfl) (by kernel_rfl) (e := Extern.SlicesOverlaps.overlaps #[22, 22] #[4]) (by kernel_rfl),
      run_overlaps 22 4 27 hu 8 ((Try.tab 27 _ rfl).run_info w) (a := ⟨vb, voff, none⟩) (b := ⟨b, (i + 1) * 8, none⟩) hvb hv hg (by omega) (fun h0 => by
        have := hvs 0 _ (List.getElem?_eq_getElem (by omega))
        rw [Array.getElem?_eq_none (by omega)] at this; simp at this)]
    rfl
  obtain ⟨c1, hc1⟩ : ∃ c1, c1 = (cur.toList.drop (i * 8)).take ((n - i) * 8) := ⟨_, rfl⟩
  have hc1l : c1.length = (n - i) * 8 := by rw [hc1]; simp; omega
  obtain ⟨X1, hX1⟩ : ∃ X1, X1 = spl cur ((i + 1) * 8) c1 := ⟨_, rfl⟩
  have hX1s : X1.size = cur.size := by rw [hX1]; exact spl_size (by omega)
  have hcp1 : ∀ ty dc sc, (Builtin.copy_ #[22, 22] ty #[.slice (some ⟨b, (i + 1) * 8, none⟩) (n - i) dc, .slice (some ⟨b, i * 8, none⟩) (n + 1 - i) sc]).run Try.prog w.drew = .ok (goInt (n - i : Nat)) (w.drew.setRow b X1) := fun ty dc sc => by
    rw [hX1]
    refine run_copyRow (w := w.drew) (n := n - i) (o := (i + 1) * 8) (dLen := n - i) (sLen := n + 1 - i) (g := b) (b := some ⟨b, i * 8, none⟩) hu hti hg (by simp only [Nat.min_def]; split <;> omega) (run_first_row (w := w.drew) (n := n - i) (size := ti.size) hg (by rw [hc1l, htz]) fun j v hj => ?_) (by omega) (fun v hv => ?_)
    · rw [hc1, List.getElem?_take] at hj
      split at hj
      · rw [List.getElem?_drop] at hj; simpa using hj
      · simp at hj
    · obtain ⟨j, hj2⟩ := List.mem_iff_getElem?.1 hv
      rw [hc1, List.getElem?_take] at hj2
      split at hj2
      · rw [List.getElem?_drop] at hj2
        exact h1c (i * 8 + j) _ (by omega) (by simpa using hj2)
      · simp at hj2
  have hcp2 : ∀ (W : World), W.heap = (w.drew.setRow b X1).heap → ∀ ty dc, (Builtin.copy_ #[22, 22] ty #[.slice (some ⟨b, i * 8, none⟩) (n + 1 - i) dc, .slice (some ⟨vb, voff, none⟩) 1 vc]).run Try.prog W = .ok (goInt (1 : Nat)) (W.setRow b (spl X1 (i * 8) vs)) := fun W hW ty dc => by
    have hgW : W.heap[b]? = some (.cells X1 27 (0, 0)) := by rw [hW]; exact setRow_heap w.drew _ _ _ _ _ hg
    have hvW : W.heap[vb]? = some (.cells cA tA fA) := by rw [hW]; exact (setRow_other w.drew b vb X1 hvb).trans hv
    refine run_copyRow (n := 1) (o := i * 8) (dLen := n + 1 - i) (sLen := 1) (g := b) (b := some ⟨vb, voff, none⟩) hu hti hgW (by simp only [Nat.min_def]; split <;> omega) (run_firstCells_some W _ 1 _ 1 vc vs (by rw [hvl, htz]) fun j v hj => ?_) (by omega) h1
    rw [addr_add]
    simpa [World.cell?, hvW] using hvs j v hj
  rw [← hc1, ← hX1]
  have hw1 : IntKind.i64.wrap ((i : Int) + 1) = (i : Int) + 1 := by rw [IntKind.wrap_i64]; omega
  have hb1 : (0 : Int) ≤ (i : Int) + 1 := by omega
  have htn : ((i : Int) + 1).toNat = i + 1 := by omega
  have hb2 : ¬ (c = i + 1) := by omega
  have hb3 : (i : Int) ≤ (n : Int) + 1 := by omega
  have hb4 : ¬ (c = i) := by omega
  have hin : i ≤ n := by omega
  have hin1 : i ≤ n + 1 := by omega
  go_enter Try.func34, Try.ntmps34
  go_wp2_with (simp only [hov])
  go_region_law (refine step_copy_eq rfl _ _ 22 22 rfl _ _ (by simp [Act.eval, Act.put]) (by simp [Act.eval, Act.put]) (hcp1 _ _ _) ?_)
  go_wp2_with (at_builtin; refine wpList_copy_eq _ rfl _ _ 22 22 rfl rfl rfl (hcp2 _ rfl _ _) ?_)
  go_ret
  exact ⟨rfl, by rw [hX1, hc1]⟩
set_option maxHeartbeats 4000000 in
set_option maxRecDepth 100000 in
theorem ins_end (sb : Option Addr) (n c : Nat) (vb voff vc : Nat) (w : World) (hnc : n ≤ c) (hc63 : c ≤ 9223372036854775807) {r : Value} {w1 : World}
    (hr : (Builtin.append_ #[22, 22] 22 #[.slice sb n c, .slice (some ⟨vb, voff, none⟩) 1 vc]).run Try.prog w = .ok r w1) :
    Calls Try.prog 34 #[.slice sb n c, .int .i64 n, .slice (some ⟨vb, voff, none⟩) 1 vc] w fun e w' => e = .returned r ∧ w' = w1 := by
  have hu : Try.prog.underlying 22 = some (.slice 27) := (Try.tab 22 _ rfl).kind
  cases sb with
  | none =>
    go_enter Try.func34, Try.ntmps34
    go_wp2_with (at_builtin; refine Lib.wpList_append_run _ rfl _ _ _ _ rfl _ _ rfl rfl _ _ hr ?_)
    go_ret
    exact ⟨rfl, rfl⟩
  | some a =>
    by_cases hcn : c = n
    · go_enter Try.func34, Try.ntmps34
      go_wp2_with (at_builtin; refine Lib.wpList_append_run _ rfl _ _ _ _ rfl _ _ rfl rfl _ _ hr ?_)
      go_ret
      exact ⟨rfl, rfl⟩
    · go_enter Try.func34, Try.ntmps34
      go_wp2_with (at_builtin; refine Lib.wpList_append_run _ rfl _ _ _ _ rfl _ _ rfl rfl _ _ hr ?_)
      go_ret
      exact ⟨rfl, rfl⟩
set_option maxHeartbeats 4000000 in
set_option maxRecDepth 100000 in
theorem ins_grow (b n c i vb voff vc : Nat) (cur cA : Array Value) (vs : List Value) (w : World) (tA : TypeId) (fA : Nat × Nat) (hg : w.heap[b]? = some (.cells cur 27 (0, 0))) (hsz : n * 8 ≤ cur.size)
    (hi : i < n) (hnc : n ≤ c) (hcn : c < n + 1) (hbig : (n + 1) * 80 ≤ 140737488355328) (hv : w.heap[vb]? = some (.cells cA tA fA)) (hvl : vs.length = 8) (hvs : ∀ (j : Nat) (v : Value), vs[j]? = some v → cA[voff + j]? = some v)
    (h1 : ∀ v ∈ vs, v.oneCell' = true) (h1c : ∀ (j : Nat) (v : Value), j < n * 8 → cur[j]? = some v → v.oneCell' = true) :
    Calls Try.prog 34 #[.slice (some ⟨b, 0, none⟩) n c, .int .i64 i, .slice (some ⟨vb, voff, none⟩) 1 vc] w fun e w' =>
      ∃ (C : Nat) (R : Array Value), e = .returned (.slice (some ⟨w.heap.size, 0, none⟩) (n + 1) C) ∧ n + 1 ≤ C ∧ C ≤ maxLen ∧ R.size = C * 8 ∧ Keeps (fun _ => False) w w' ∧ w'.heap[w.heap.size]? = some (.cells R 27 (0, 0)) ∧ w.heap.size < w'.heap.size ∧
        ∀ k, k < (n + 1) * 8 → R[k]? = (insL 8 cur i n vs)[k]? := by
  have hu : Try.prog.underlying 22 = some (.slice 27) := (Try.tab 22 _ rfl).kind
  have hu2 : Try.prog.underlying 3 = some (.int .i64) := (Try.tab 3 _ rfl).kind
  obtain ⟨ti, tz, hti, htz0, htb0, htz1, htz2, -⟩ := (Try.tab 27 _ rfl).info
  have htz : ti.size = 8 := htz0
  have htb : ti.bytes = 80 := htb0
  have htzc : tz.cells.size = 8 := by have := congrArg List.length htz2; simpa using this
  have hz2 : ¬ ((i : Int) = (n : Int)) := by omega
  have hbw : b < w.heap.size := lt_of_heap hg
  have hvw : vb < w.heap.size := lt_of_heap hv
  have hkk : (n : Int) + 1 - (i : Int) = ((n + 1 - i : Nat) : Int) := by omega
  have hold : (Builtin.firstCells ti.size i (.slice (some ⟨b, 0, none⟩) i c)).run Try.prog w.drew = .ok (cur.toList.take (i * 8)).toArray w.drew :=
    run_first_row (w := w.drew) hg (by rw [htz]; simp; omega) fun j v hj => by
      rw [List.getElem?_take] at hj
      split at hj
      · simpa using hj
      · simp at hj
  obtain ⟨C, hC⟩ : ∃ C, C = grownCap w (n + 1) c 27 := ⟨_, rfl⟩
  obtain ⟨hC1, hC2⟩ := grownCap_bounds w (n + 1) c 27 (by omega)
  rw [← hC] at hC1 hC2
  have hC3 : C ≤ 9223372036854775807 := hC2
  obtain ⟨R0, hR0⟩ : ∃ R0 : Array Value, R0 = (cur.toList.take (i * 8)).toArray ++ Builtin.zeroCells tz.cells (n + 1 - i) ++ Builtin.zeroCells tz.cells (C - (n + 1)) := ⟨_, rfl⟩
  have hR0s : R0.size = C * 8 := by rw [hR0]; simp [zeroCells_size, htzc]; omega
  have hR0c : ∀ k, k < i * 8 → R0[k]? = cur[k]? := fun k hk => by
    have h1 : k < (cur.toList.take (i * 8)).toArray.size := by simp; omega
    rw [hR0, Array.append_assoc, Array.getElem?_append_left h1]
    rw [List.getElem?_toArray, List.getElem?_take, if_pos hk]; simp
  have hrz : ∀ ty, (Builtin.append_ #[22, 3] ty #[.slice (some ⟨b, 0, none⟩) i c, .int .i64 ((n : Int) + 1 - (i : Int))]).run Try.prog w =
      .ok (.slice (some ⟨w.heap.size, 0, none⟩) (n + 1) C) (w.drew.alloc (.cells R0 27)) := fun ty => by
    have h := Lib.run_append_grow_zeros w 22 3 ty 27 ti tz .i64 .i64 hu hu2 hti htz1 (some ⟨b, 0, none⟩) i c (cur.toList.take (i * 8)) hold (n + 1 - i) (by omega) (by omega) (by omega) (by omega) (by rw [htb]; omega) (by
      rw [htb, show i + (n + 1 - i) = n + 1 by omega]
      exact growslice_fits (by omega) hbig)
    rw [show i + (n + 1 - i) = n + 1 by omega, ← hC, ← hR0] at h
    rw [hkk]
    exact h
  obtain ⟨c1, hc1⟩ : ∃ c1, c1 = (cur.toList.drop (i * 8)).take ((n - i) * 8) := ⟨_, rfl⟩
  have hc1l : c1.length = (n - i) * 8 := by rw [hc1]; exact mid_len hsz
  obtain ⟨W1, hW1⟩ : ∃ W1, W1 = w.drew.alloc (.cells R0 27) := ⟨_, rfl⟩
  have hW1h : W1.heap[w.heap.size]? = some (.cells R0 27 (0, 0)) := by rw [hW1]; exact heap_alloc_new w.drew _
  have hW1b : ∀ k, k < w.heap.size → W1.heap[k]? = w.heap[k]? := fun k hk => by rw [hW1]; exact Go.RowKit.Below.heap_alloc w.drew _ k hk
  have hW1s : W1.heap.size = w.heap.size + 1 := by rw [hW1]; show (w.heap.push _).size = _; simp
  rw [← hW1] at hrz
  have hcpA : ∀ (W : World), W.heap = W1.heap → ∀ ty dc, (Builtin.copy_ #[22, 22] ty #[.slice (some ⟨w.heap.size, i * 8, none⟩) (n + 1 - i) dc, .slice (some ⟨vb, voff, none⟩) 1 vc]).run Try.prog W = .ok (goInt (1 : Nat)) (W.setRow w.heap.size (spl R0 (i * 8) vs)) := fun W hW ty dc => by
    refine run_copyRow (w := W) (n := 1) (o := i * 8) (dLen := n + 1 - i) (sLen := 1) (g := w.heap.size) (b := some ⟨vb, voff, none⟩) hu hti (by rw [hW]; exact hW1h) (by simp only [Nat.min_def]; split <;> omega) (run_firstCells_some W _ 1 _ 1 vc vs (by rw [hvl, htz]) fun j v hj => ?_) (by omega) h1
    rw [addr_add]
    simpa [World.cell?, hW, hW1b vb hvw, hv] using hvs j v hj
  obtain ⟨R1, hR1⟩ : ∃ R1, R1 = spl R0 (i * 8) vs := ⟨_, rfl⟩
  have hR1s : R1.size = R0.size := by rw [hR1]; exact spl_size (by omega)
  obtain ⟨W2, hW2⟩ : ∃ W2, W2 = W1.setRow w.heap.size (spl R0 (i * 8) vs) := ⟨_, rfl⟩
  have hcpB : ∀ (W : World), W.heap = W2.heap → ∀ ty dc sc, (Builtin.copy_ #[22, 22] ty #[.slice (some ⟨w.heap.size, (i + 1) * 8, none⟩) (n - i) dc, .slice (some ⟨b, i * 8, none⟩) (n - i) sc]).run Try.prog W = .ok (goInt (n - i : Nat)) (W.setRow w.heap.size (spl R1 ((i + 1) * 8) c1)) := fun W hW ty dc sc => by
    have hg2 : W.heap[w.heap.size]? = some (.cells R1 27 (0, 0)) := by rw [hW, hW2, hR1]; exact setRow_heap W1 _ _ _ _ _ hW1h
    have hgb : W.heap[b]? = some (.cells cur 27 (0, 0)) := by rw [hW, hW2]; exact (setRow_other W1 _ b _ (by omega)).trans ((hW1b b hbw).trans hg)
    refine run_copyRow (w := W) (n := n - i) (o := (i + 1) * 8) (dLen := n - i) (sLen := n - i) (g := w.heap.size) (b := some ⟨b, i * 8, none⟩) hu hti hg2 (by simp only [Nat.min_def]; split <;> omega) (run_first_row (w := W) (n := n - i) (size := ti.size) hgb (by rw [hc1l, htz]) fun j v hj => ?_) (by omega) (fun v hv => ?_)
    · rw [hc1, List.getElem?_take] at hj
      split at hj
      · rw [List.getElem?_drop] at hj; simpa using hj
      · simp at hj
    · obtain ⟨j, hj2⟩ := List.mem_iff_getElem?.1 hv
      rw [hc1, List.getElem?_take] at hj2
      split at hj2
      · rw [List.getElem?_drop] at hj2
        exact h1c (i * 8 + j) _ (by omega) (by simpa using hj2)
      · simp at hj2
  clear hC hR0 hold hkk htz2
  have hw1 : IntKind.i64.wrap ((i : Int) + 1) = (i : Int) + 1 := by rw [IntKind.wrap_i64]; omega
  have hb1 : (0 : Int) ≤ (i : Int) + 1 := by omega
  have htn : ((i : Int) + 1).toNat = i + 1 := by omega
  have hb2 : ¬ (C = i + 1) := by omega
  have hb3 : (i : Int) ≤ (n : Int) + 1 := by omega
  have hb4 : ¬ (C = i) := by omega
  have hb5 : ¬ (c = i) := by omega
  have hin : i ≤ n := by omega
  have hin1 : i ≤ n + 1 := by omega
  have hz3 : (c : Int) < (n : Int) + 1 := by omega
  subst hW2 hW1
  go_enter Try.func34, Try.ntmps34
  go_wp2_with (at_builtin; refine Lib.wpList_append_run _ rfl _ _ _ _ rfl _ _ rfl rfl _ _ (hrz _) ?_)
  rw [hcpA (w.alloc (.cells R0 27)).drew rfl]
  go_wp2
  go_region_law (refine step_copy_eq rfl _ _ 22 22 rfl (.slice (some ⟨w.heap.size, (i + 1) * 8, none⟩) (n - i) (C - (i + 1))) (.slice (some ⟨b, i * 8, none⟩) (n - i) (c - i)) (by simp [Act.eval, Act.put]) (by simp [Act.eval, Act.put]) (hcpB _ (by rfl) _ _ _) ?_)
  go_wp2
  go_ret
  obtain ⟨k1, k2, k3⟩ := grow2 w R0 (spl R0 (i * 8) vs) (spl (spl R0 (i * 8) vs) ((i + 1) * 8) ((cur.toList.drop (i * 8)).take ((n - i) * 8))) 27
  exact ⟨C, _, rfl, hC1, hC2, by rw [spl_size (by rw [spl_size (by omega)]; rw [mid_len hsz]; omega), spl_size (by omega), hR0s], k1, k2, k3, fun k hk => ins_get_grow hvl hin hsz (by omega) hR0c k hk⟩
theorem insert_con (l : List (List PV)) (i : Nat) (el : List PV) (hi : i ≤ l.length) (hl : l.length ≤ 1000000) (hel : el.length = 8) :
    Con Try.prog 34 [.row 1024, .p (I i), .p (.sl 8 [el])] [.row 27 8 l] (.ret (.row 1024) [] [.row 27 8 (l.take i ++ el :: l.drop i)]) := by
  refine fun F w m xs hp hlen har => .inl ⟨⟨_, Try.func34, rfl, rfl⟩, ?_⟩
  obtain ⟨x0, hx0, hr0⟩ := har 0 _ rfl
  obtain ⟨x1, hx1, hr1⟩ := har 1 _ rfl
  obtain ⟨x2, hx2, hr2⟩ := har 2 _ rfl
  have hxs : xs.toArray = #[x0, x1, x2] := by
    match xs, hlen with
    | [y0, y1, y2], _ => simp at hx0 hx1 hx2; subst hx0 hx1 hx2; rfl
  rw [hxs]
  have h0 : x0 = m.r 1024 := hr0
  have h1 : x1 = .int .i64 i := by
    have hr1' : RP w _ (.v (.int .i64 i)) x1 := hr1
    cases hr1'; rfl
  subst h1
  have hr2' : RP w (Gd F m (nmF [.row 27 8 l] [])) (.sl 8 [el]) x2 := hr2
  obtain ⟨news, hsrc⟩ := src_RP (P := Try.prog) (by omega : 0 < 8) hr2'
  have hu : Try.prog.underlying 22 = some (.slice 27) := (Try.tab 22 _ rfl).kind
  obtain ⟨ti, tz, hti, htz0, htb0, htz1, htz2, -⟩ := (Try.tab 27 _ rfl).info
  have htz : ti.size = 8 := htz0
  have htb : ti.bytes = 80 := htb0
  have htzc : tz.cells.size = 8 := by have := congrArg List.length htz2; simpa using this
  have hrb : RBr w w (Gd F m (nmF [.row 27 8 l] [])) 27 8 l (m.r 1024) := (hp.blks 1024 _ (by rw [nmF1]; simp)).RBr
  have hY : ∀ k, ownB (m.r 1024) = some k → owns m (nmF [.row 27 8 l] []) 1024 k := fun k hk => by unfold owns; rw [nmF1]; simpa using hk
  rcases hr2'.slI with ⟨b0, -, h0⟩ | ⟨vb, voff, vc, hx2e, -, -, hvk, hve⟩
  · simp at h0
  have hx2e : x2 = .slice (some ⟨vb, voff, none⟩) 1 vc := hx2e
  subst hx2e
  obtain ⟨hvb, hvg⟩ := hvk (by simp)
  obtain ⟨-, hvc⟩ := hve 0 el rfl
  by_cases hend : i = l.length
  · subst hend
    obtain ⟨v, w', hrun, hkp, hrb', hown⟩ := app_row (F := F) (m := m) (st := ⟨fun _ => .junk, nmF [.row 27 8 l] []⟩) hu hti htz1 (by rw [htzc, htz]) (.inl ⟨_, hu⟩) #[22, 22] ⟨rfl, rfl⟩ 22 htz hsrc (by rw [htb]; simp; omega) (by simp; omega) (by omega) (by omega) (.inl ⟨hrb, hY⟩)
    have hcall : ∃ sb c, m.r 1024 = .slice sb l.length c ∧ l.length ≤ c ∧ c ≤ 9223372036854775807 := by
      rcases hrb with ⟨-, ⟨a, ha⟩, hl0⟩ | ⟨k, cap, cur, hr, -, h2, h3, -⟩
      · exact ⟨a, 0, by rw [ha, hl0]; rfl, by rw [hl0]; simp, by omega⟩
      · exact ⟨_, cap, hr, h2, h3⟩
    obtain ⟨sb, c, hs, hc1, hc2⟩ := hcall
    rw [h0, hs]
    rw [hs] at hrun
    refine (ins_end sb l.length c vb voff vc w hc1 hc2 hrun).mono ?_
    rintro e w2 ⟨rfl, rfl⟩
    have e1 : l.take l.length ++ el :: l.drop l.length = l ++ [el] := by simp
    rw [e1]
    exact row_out hp hkp hrb' hown
  · have hlt : i < l.length := by omega
    rcases hrb with ⟨-, -, hl0⟩ | ⟨k, cap, cur, hr, hc0, hlc, hcm, hh, hsz, hels⟩
    · rw [hl0] at hlt; simp at hlt
    have hk : owns m (nmF [.row 27 8 l] []) 1024 k := hY k (by simp [hr, ownB]; omega)
    have hvbk : vb ≠ k := fun h => hvg (.inr ⟨_, h ▸ hk⟩)
    have hcm' : cap ≤ 9223372036854775807 := hcm
    have hlsz : l.length * 8 ≤ cur.size := by rw [hsz]; omega
    have hcell : ∀ (j : Nat) (p : PV), el[j]? = some p → p.one = true ∧ ∃ u, w.cell? ⟨vb, voff + j, none⟩ = some u ∧ RP w (Gd F m (nmF [.row 27 8 l] [])) p u := fun j p hj => by simpa using hvc j p hj
    have hcA : ∃ cA tA fA, w.heap[vb]? = some (.cells cA tA fA) := by
      obtain ⟨-, u, hu, -⟩ := hcell 0 _ (List.getElem?_eq_getElem (by omega))
      unfold World.cell? at hu
      split at hu
      · exact ⟨_, _, _, by assumption⟩
      · simp at hu
    obtain ⟨cA, tA, fA, hcA⟩ := hcA
    obtain ⟨vs, hvl, hvs, hvr⟩ : ∃ vs : List Value, vs.length = 8 ∧ (∀ (j : Nat) (v : Value), vs[j]? = some v → cA[voff + j]? = some v) ∧ (∀ (j : Nat) (p : PV), el[j]? = some p → p.one = true ∧ ∃ u, vs[j]? = some u ∧ RP w (Gd F m (nmF [.row 27 8 l] [])) p u) := by
      have hex : ∀ j, j < 8 → ∃ u, cA[voff + j]? = some u ∧ ∃ p, el[j]? = some p ∧ p.one = true ∧ RP w (Gd F m (nmF [.row 27 8 l] [])) p u := fun j hj => by
        obtain ⟨ho, u, hu, hpr⟩ := hcell j _ (List.getElem?_eq_getElem (by omega))
        exact ⟨u, by simpa [World.cell?, hcA] using hu, _, List.getElem?_eq_getElem (by omega), ho, hpr⟩
      refine ⟨(List.range 8).map fun j => (cA[voff + j]?).getD undef, by simp, fun j v hj => ?_, fun j p hj => ?_⟩
      · rw [List.getElem?_map] at hj
        by_cases hj7 : j < 8
        · rw [List.getElem?_range hj7] at hj
          obtain ⟨u, h2, -⟩ := hex j hj7
          simp only [Option.map_some, h2, Option.getD_some, Option.some.injEq] at hj
          rw [h2, hj]
        · rw [List.getElem?_eq_none (by simp; omega)] at hj; simp at hj
      · have hj7 : j < 8 := by have := (List.getElem?_eq_some_iff.1 hj).1; omega
        obtain ⟨u, h2, p', h3, h4, h5⟩ := hex j hj7
        rw [hj] at h3
        simp only [Option.some.injEq] at h3
        subst h3
        exact ⟨h4, u, by rw [List.getElem?_map, List.getElem?_range hj7]; simp [h2], h5⟩
    have hone : ∀ v ∈ vs, v.oneCell' = true := fun v hv => by
      obtain ⟨j, hj⟩ := List.mem_iff_getElem?.1 hv
      have hjl := (List.getElem?_eq_some_iff.1 hj).1
      obtain ⟨h2, u, h3, h4⟩ := hvr j _ (List.getElem?_eq_getElem (by omega))
      rw [hj] at h3
      simp only [Option.some.injEq] at h3
      rw [h3]; exact h4.oneCell h2
    have honec : ∀ (j : Nat) (v : Value), j < l.length * 8 → cur[j]? = some v → v.oneCell' = true := fun j v hj hv => by
      have hjl : j / 8 < l.length := by omega
      obtain ⟨h2, h3⟩ := hels (j / 8) _ (List.getElem?_eq_getElem hjl)
      obtain ⟨h4, u, h5, h6⟩ := h3 (j % 8) _ (List.getElem?_eq_getElem (by rw [h2]; omega))
      have h5' : cur[j / 8 * 8 + j % 8]? = some u := h5
      rw [show j / 8 * 8 + j % 8 = j by omega, hv] at h5'
      simp only [Option.some.injEq] at h5'
      rw [h5']; exact h6.oneCell h4
    rw [h0, hr]
    by_cases hroom : l.length + 1 ≤ cap
    · refine (ins_shift k l.length cap i vb voff vc cur cA vs w tA fA hh hsz hlt hroom hcm' hvbk hcA hvl hvs hone honec).mono ?_
      rintro e w2 ⟨rfl, rfl⟩
      obtain ⟨k1, k2⟩ := shift2 w k cur (spl cur ((i + 1) * 8) ((cur.toList.drop (i * 8)).take ((l.length - i) * 8))) (spl (spl cur ((i + 1) * 8) ((cur.toList.drop (i * 8)).take ((l.length - i) * 8))) (i * 8) vs) 27 hh
      have e1 : (l.take i ++ el :: l.drop i).length = l.length + 1 := by simp; omega
      have hfit : (l.length + 1) * 8 ≤ cur.size := by rw [hsz]; omega
      refine row_out hp (k1.mono fun k' h => h ▸ hk) (.inr ⟨k, cap, _, by rw [e1], hc0, by rw [e1]; exact hroom, hcm, k2, ?_, EL.ins hels hvl hel hvr hi hlsz fun j hj => ins_get_shift hvl hi hfit j hj⟩) fun k' hk' => ?_
      · rw [spl_size (by rw [spl_size (by rw [mid_len hlsz]; omega)]; omega), spl_size (by rw [mid_len hlsz]; omega), hsz]
      · simp only [ownB, if_neg (show ¬ cap = 0 by omega), Option.some.injEq] at hk'
        subst hk'
        exact ⟨.inl hk, lt_of_heap k2⟩
    · refine (ins_grow k l.length cap i vb voff vc cur cA vs w tA fA hh hlsz hlt hlc (by omega) (by omega) hcA hvl hvs hone honec).mono ?_
      rintro e w2 ⟨C, R, rfl, hC1, hC2, hRs, hkp, hR, hsz2, hRg⟩
      have e1 : (l.take i ++ el :: l.drop i).length = l.length + 1 := by simp; omega
      refine row_out hp (hkp.mono fun _ h => h.elim) (.inr ⟨w.heap.size, C, R, by rw [e1], by omega, by rw [e1]; exact hC1, hC2, hR, hRs, EL.ins hels hvl hel hvr hi hlsz hRg⟩) fun k' hk' => ?_
      simp only [ownB, if_neg (show ¬ C = 0 by omega), Option.some.injEq] at hk'
      subst hk'
      exact ⟨.inr (Nat.le_refl _), hsz2⟩
end Go.Proofs.Ytnfcbkageifmfaa

/- awake of layer 19, run. -/
namespace Go.Proofs.Ytnfcbkageifmfaa
set_option linter.unusedSimpArgs false
set_option linter.unusedVariables false
open Go Go.Av
attribute [local simp] Try.T1 Try.T2 Try.T3 Try.T4 Try.T5 Try.T9 Try.T12 Try.T15 Try.T16 Try.T17 Try.T21 Try.T22 Try.T23 Try.T25 Try.T27 Try.T29 Try.T30 Try.T31 Try.T32 Try.T33 Try.T35 Try.T37 Try.T38 Try.T40 Try.T41 Try.T42 Try.T43 Try.T44 Try.T45 Try.T46 Try.T47 Try.T48 Try.T49 Try.T50 Try.T51 Try.T52 Try.T53 Try.T54 Try.T56 Try.T57 Try.T58 Try.T59 Try.T60 Try.T61 Try.T62 Try.T64 Try.T66 Try.T67 Try.T68 Try.T69 Try.T71 Try.T72 Try.T73 Try.T74 Try.T75 Try.T76 Try.T77 Try.T78 Try.T79 Try.T80 Try.T81 Try.T82 Try.T83 Try.T84 Try.T85 Try.T86 Try.T87 Try.T88 Try.T89 Try.T90 Try.T91 Try.T92 Try.T93 Try.T94 Try.T95 Try.T97 Try.T98 Try.T99 Try.T100 Try.T101 Try.T102 Try.T103 Try.T104 Try.T105 Try.T106 Try.T107 Try.T108 Try.T109 Try.T110 Try.T111 Try.T112 Try.T113 Try.T114 Try.T115 Try.T116 Try.T117 Try.T120 Try.T123 Try.T124 Try.T127 Try.T128
attribute [local irreducible] Go.Av.CallK Go.Av.CallE Go.Av.CallQ Go.Av.CallF Go.Av.CallR Go.Av.CallH Go.Av.Con
theorem clone50 (l : List (List PV)) (hl : l.length ≤ 1000000) : RCon 50 [.p (.sl 2 l)] 25 2 l := by
  refine wBodyR Try.tab Try.mixed Try.func50 rfl rfl Try.ntmps50 rfl (by simp) (by simp) fun Q hr hn => ?_
  repeat' first | (refine wRetG [.row 2 25 2] ?_) | (refine And.intro (by omega) (Or.inl ?_)) | (refine And.intro ?_ (fun hnil => ?_)) | (refine hK _ ?_; clear hK) | (refine hK _ _ ?_; clear hK) | (clear hK; refine hK _ ?_; clear hK) | (clear hK; clear hK; refine hK _ ?_; clear hK) | (clear hK; clear hK; clear hK; refine hK _ ?_; clear hK) | (clear hK; clear hK; clear hK; clear hK; refine hK _ ?_; clear hK) | (refine wSeq fun K hK => ?_) | ((first | refine wReg ?_ | refine wDrwQ rfl (by kernel_rfl) ?_ | refine wDrwI ?_ | refine wDrw (by kernel_rfl) ?_); simp only [List.map_cons, List.map_nil, strip]) | ((first | refine wIs fun K hK => ?_ | refine wOs fun K hK => ?_ | refine wQs fun K hK => ?_ | refine CallK_plain ?_ | refine CallQ_plain ?_ | refine CallR_plain ?_ | refine wCond ?_); simp) | (refine wIn ?_; refine And.intro (by kernel_rfl) ?_; try simp only [thenA_n]) | (first | refine wBlock ?_ | refine wScope ?_) | ((first | refine wRet ?_ | refine wExit ?_ | refine wSkip ?_); try simp) | ((first | refine wLabel ?_ | refine wOn ?_ | refine wQn ?_); try simp only [thenA_n])
  · refine hr _ 7 (by simp) (by simp) (by omega)
  · subst hnil
    simp only [thenA_r]
    refine hr _ 2 (by simp) (by simp) (by omega)
theorem clone73 (l : List (List PV)) (hl : l.length ≤ 1000000) : RCon 73 [.p (.sl 4 l)] 71 4 l := by
  refine wBodyR Try.tab Try.mixed Try.func73 rfl rfl Try.ntmps73 rfl (by simp) (by simp) fun Q hr hn => ?_
  repeat' first | (refine wRetG [.row 2 71 4] ?_) | (refine And.intro (by omega) (Or.inl ?_)) | (refine And.intro ?_ (fun hnil => ?_)) | (refine hK _ ?_; clear hK) | (refine hK _ _ ?_; clear hK) | (clear hK; refine hK _ ?_; clear hK) | (clear hK; clear hK; refine hK _ ?_; clear hK) | (clear hK; clear hK; clear hK; refine hK _ ?_; clear hK) | (clear hK; clear hK; clear hK; clear hK; refine hK _ ?_; clear hK) | (refine wSeq fun K hK => ?_) | ((first | refine wReg ?_ | refine wDrwQ rfl (by kernel_rfl) ?_ | refine wDrwI ?_ | refine wDrw (by kernel_rfl) ?_); simp only [List.map_cons, List.map_nil, strip]) | ((first | refine wIs fun K hK => ?_ | refine wOs fun K hK => ?_ | refine wQs fun K hK => ?_ | refine CallK_plain ?_ | refine CallQ_plain ?_ | refine CallR_plain ?_ | refine wCond ?_); simp) | (refine wIn ?_; refine And.intro (by kernel_rfl) ?_; try simp only [thenA_n]) | (first | refine wBlock ?_ | refine wScope ?_) | ((first | refine wRet ?_ | refine wExit ?_ | refine wSkip ?_); try simp) | ((first | refine wLabel ?_ | refine wOn ?_ | refine wQn ?_); try simp only [thenA_n])
  · refine hr _ 7 (by simp) (by simp) (by omega)
  · subst hnil
    simp only [thenA_r]
    refine hr _ 2 (by simp) (by simp) (by omega)
def cloneT : Nat → Option (Nat × Nat)
  | 50 => some (25, 2)
  | 73 => some (71, 4)
  | _ => none
theorem clone_ok {g e c : Nat} (h : cloneT g = some (e, c)) (l : List (List PV)) (hl : l.length ≤ 1000000) : RCon g [.p (.sl c l)] e c l := by
  unfold cloneT at h
  split at h
  · simp only [Option.some.injEq, Prod.mk.injEq] at h; obtain ⟨rfl, rfl⟩ := h; exact clone50 l hl
  · simp only [Option.some.injEq, Prod.mk.injEq] at h; obtain ⟨rfl, rfl⟩ := h; exact clone73 l hl
  · simp at h
def base : CallF' := fun g args β => match args, β with
  | [.p (.sl c' l)], [] => match cloneT g with
    | some (e, c) => if c' = c ∧ l.length ≤ 1000000 then some (.ret (.row 2048) [.row e c l] []) else none
    | none => none
  | [.row 1024, .p (.v (.int .i64 i)), .p (.sl 8 [el])], [.row e c l] =>
    if g = 34 ∧ e = 27 ∧ c = 8 ∧ 0 ≤ i ∧ i.toNat ≤ l.length ∧ l.length ≤ 1000000 ∧ el.length = 8 then some (.ret (.row 1024) [] [.row e c (l.take i.toNat ++ el :: l.drop i.toNat)]) else none
  | _, _ => none
theorem base_ok : ∀ g args β out, base g args β = some out → Con Try.prog g args β out := fun g args β out h => by
  unfold base at h
  split at h
  · split at h
    · rename_i hc
      split at h
      · rename_i hl
        obtain ⟨rfl, hl⟩ := hl
        simp only [Option.some.injEq] at h; subst h
        exact clone_ok hc _ hl
      · simp at h
    · simp at h
  · rename_i i el e c l
    split at h
    · rename_i hc
      obtain ⟨rfl, rfl, rfl, h0, h1, h2, h3⟩ := hc
      simp only [Option.some.injEq] at h; subst h
      have := insert_con l i.toNat el h1 h2 h3
      rw [Int.toNat_of_nonneg h0] at this
      exact this
    · simp at h
  · simp at h
theorem awake19 : ACon Try.prog 9 [] (.p (B true)) := xCall_sound Try.tab Try.mixed base_ok 40 _ _ _ _ (by kernel_rfl)
end Go.Proofs.Ytnfcbkageifmfaa
