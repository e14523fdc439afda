/- MERGED XG XH XI XJ XK -/
import Derived.Test.YtnfcbkageifmfaaMM1
import Derived.Test.YtnfcbkageifmfaaMM2
/- States: when configs, lists of numbers, parts are the same. -/
namespace Go.Proofs.Ytnfcbkageifmfaa
set_option linter.unusedSimpArgs false
set_option linter.unusedVariables false
open Go Go.Av
attribute [local simp] Try.T1 Try.T2 Try.T3 Try.T4 Try.T5 Try.T9 Try.T12 Try.T15 Try.T16 Try.T17 Try.T21 Try.T22 Try.T23 Try.T25 Try.T27 Try.T29 Try.T30 Try.T31 Try.T32 Try.T33 Try.T35 Try.T37 Try.T38 Try.T40 Try.T41 Try.T42 Try.T43 Try.T44 Try.T45 Try.T46 Try.T47 Try.T48 Try.T49 Try.T50 Try.T51 Try.T52 Try.T53 Try.T54 Try.T56 Try.T57 Try.T58 Try.T59 Try.T60 Try.T61 Try.T62 Try.T64 Try.T66 Try.T67 Try.T68 Try.T69 Try.T71 Try.T72 Try.T73 Try.T74 Try.T75 Try.T76 Try.T77 Try.T78 Try.T79 Try.T80 Try.T81 Try.T82 Try.T83 Try.T84 Try.T85 Try.T86 Try.T87 Try.T88 Try.T89 Try.T90 Try.T91 Try.T92 Try.T93 Try.T94 Try.T95 Try.T97 Try.T98 Try.T99 Try.T100 Try.T101 Try.T102 Try.T103 Try.T104 Try.T105 Try.T106 Try.T107 Try.T108 Try.T109 Try.T110 Try.T111 Try.T112 Try.T113 Try.T114 Try.T115 Try.T116 Try.T117 Try.T120 Try.T123 Try.T124 Try.T127 Try.T128
attribute [local irreducible] Go.Av.CallK Go.Av.CallE Go.Av.CallQ Go.Av.CallF Go.Av.CallR Go.Av.CallH Go.Av.Con
theorem Mb.ext4 {x y : Mb} : x = y ↔ x.i = y.i ∧ x.r = y.r ∧ x.w = y.w ∧ x.g = y.g := by cases x; cases y; simp
theorem Cf.ext4 {x y : Cf} : x = y ↔ x.ep = y.ep ∧ x.n = y.n ∧ x.kind = y.kind ∧ x.ms = y.ms := by cases x; cases y; simp
instance : DecidableEq Cf := fun x y => decidable_of_iff _ Cf.ext4.symm
end Go.Proofs.Ytnfcbkageifmfaa

/- States: when lists of numbers, parts, transactions, states are the same. -/
namespace Go.Proofs.Ytnfcbkageifmfaa
set_option linter.unusedSimpArgs false
set_option linter.unusedVariables false
open Go Go.Av
attribute [local simp] Try.T1 Try.T2 Try.T3 Try.T4 Try.T5 Try.T9 Try.T12 Try.T15 Try.T16 Try.T17 Try.T21 Try.T22 Try.T23 Try.T25 Try.T27 Try.T29 Try.T30 Try.T31 Try.T32 Try.T33 Try.T35 Try.T37 Try.T38 Try.T40 Try.T41 Try.T42 Try.T43 Try.T44 Try.T45 Try.T46 Try.T47 Try.T48 Try.T49 Try.T50 Try.T51 Try.T52 Try.T53 Try.T54 Try.T56 Try.T57 Try.T58 Try.T59 Try.T60 Try.T61 Try.T62 Try.T64 Try.T66 Try.T67 Try.T68 Try.T69 Try.T71 Try.T72 Try.T73 Try.T74 Try.T75 Try.T76 Try.T77 Try.T78 Try.T79 Try.T80 Try.T81 Try.T82 Try.T83 Try.T84 Try.T85 Try.T86 Try.T87 Try.T88 Try.T89 Try.T90 Try.T91 Try.T92 Try.T93 Try.T94 Try.T95 Try.T97 Try.T98 Try.T99 Try.T100 Try.T101 Try.T102 Try.T103 Try.T104 Try.T105 Try.T106 Try.T107 Try.T108 Try.T109 Try.T110 Try.T111 Try.T112 Try.T113 Try.T114 Try.T115 Try.T116 Try.T117 Try.T120 Try.T123 Try.T124 Try.T127 Try.T128
attribute [local irreducible] Go.Av.CallK Go.Av.CallE Go.Av.CallQ Go.Av.CallF Go.Av.CallR Go.Av.CallH Go.Av.Con
structure Pt where
  (k : Int)
  (z : Zn)
  (s : Int)
  (c : Cf)
  deriving DecidableEq
def Pt.cells (x : Pt) : List PV := [I x.k, SB x.z.p, SB x.z.d, I x.z.v, I x.z.k, I x.z.o, I x.s, I x.c.ep, I x.c.n, I x.c.kind, .sl 4 (mbs x.c.ms)]
def pts (l : List Pt) : List (List PV) := l.map Pt.cells
@[simp] theorem pts_len (l : List Pt) : (pts l).length = l.length := by simp [pts]
@[simp] theorem pts_getElem (l : List Pt) (k : Nat) (h : k < (pts l).length) : (pts l)[k] = (l[k]'(by simpa using h)).cells := by simp [pts]
end Go.Proofs.Ytnfcbkageifmfaa

/- States: when transactions, states are the same. -/
namespace Go.Proofs.Ytnfcbkageifmfaa
set_option linter.unusedSimpArgs false
set_option linter.unusedVariables false
open Go Go.Av
attribute [local simp] Try.T1 Try.T2 Try.T3 Try.T4 Try.T5 Try.T9 Try.T12 Try.T15 Try.T16 Try.T17 Try.T21 Try.T22 Try.T23 Try.T25 Try.T27 Try.T29 Try.T30 Try.T31 Try.T32 Try.T33 Try.T35 Try.T37 Try.T38 Try.T40 Try.T41 Try.T42 Try.T43 Try.T44 Try.T45 Try.T46 Try.T47 Try.T48 Try.T49 Try.T50 Try.T51 Try.T52 Try.T53 Try.T54 Try.T56 Try.T57 Try.T58 Try.T59 Try.T60 Try.T61 Try.T62 Try.T64 Try.T66 Try.T67 Try.T68 Try.T69 Try.T71 Try.T72 Try.T73 Try.T74 Try.T75 Try.T76 Try.T77 Try.T78 Try.T79 Try.T80 Try.T81 Try.T82 Try.T83 Try.T84 Try.T85 Try.T86 Try.T87 Try.T88 Try.T89 Try.T90 Try.T91 Try.T92 Try.T93 Try.T94 Try.T95 Try.T97 Try.T98 Try.T99 Try.T100 Try.T101 Try.T102 Try.T103 Try.T104 Try.T105 Try.T106 Try.T107 Try.T108 Try.T109 Try.T110 Try.T111 Try.T112 Try.T113 Try.T114 Try.T115 Try.T116 Try.T117 Try.T120 Try.T123 Try.T124 Try.T127 Try.T128
attribute [local irreducible] Go.Av.CallK Go.Av.CallE Go.Av.CallQ Go.Av.CallF Go.Av.CallR Go.Av.CallH Go.Av.Con
theorem pts_get {l : List Pt} {k : Nat} (h : k < l.length) : (pts l)[k]? = some [I l[k].k, SB l[k].z.p, SB l[k].z.d, I l[k].z.v, I l[k].z.k, I l[k].z.o, I l[k].s, I l[k].c.ep, I l[k].c.n, I l[k].c.kind, .sl 4 (mbs l[k].c.ms)] := by simp [pts, h, Pt.cells]
structure Sv where
  (ns : List Zn)
  (ss : List Int)
  (nx : Int)
  (c : Cf)
  (ae an : Int)
  deriving DecidableEq
def Sv.cells (s : Sv) : List PV := [.sl 5 (zns s.ns), .sl 1 (ints s.ss), I s.nx, I s.c.ep, I s.c.n, I s.c.kind, .sl 4 (mbs s.c.ms), I s.ae, I s.an]
end Go.Proofs.Ytnfcbkageifmfaa

/- States: when transactions are the same. -/
namespace Go.Proofs.Ytnfcbkageifmfaa
set_option linter.unusedSimpArgs false
set_option linter.unusedVariables false
open Go Go.Av
attribute [local simp] Try.T1 Try.T2 Try.T3 Try.T4 Try.T5 Try.T9 Try.T12 Try.T15 Try.T16 Try.T17 Try.T21 Try.T22 Try.T23 Try.T25 Try.T27 Try.T29 Try.T30 Try.T31 Try.T32 Try.T33 Try.T35 Try.T37 Try.T38 Try.T40 Try.T41 Try.T42 Try.T43 Try.T44 Try.T45 Try.T46 Try.T47 Try.T48 Try.T49 Try.T50 Try.T51 Try.T52 Try.T53 Try.T54 Try.T56 Try.T57 Try.T58 Try.T59 Try.T60 Try.T61 Try.T62 Try.T64 Try.T66 Try.T67 Try.T68 Try.T69 Try.T71 Try.T72 Try.T73 Try.T74 Try.T75 Try.T76 Try.T77 Try.T78 Try.T79 Try.T80 Try.T81 Try.T82 Try.T83 Try.T84 Try.T85 Try.T86 Try.T87 Try.T88 Try.T89 Try.T90 Try.T91 Try.T92 Try.T93 Try.T94 Try.T95 Try.T97 Try.T98 Try.T99 Try.T100 Try.T101 Try.T102 Try.T103 Try.T104 Try.T105 Try.T106 Try.T107 Try.T108 Try.T109 Try.T110 Try.T111 Try.T112 Try.T113 Try.T114 Try.T115 Try.T116 Try.T117 Try.T120 Try.T123 Try.T124 Try.T127 Try.T128
attribute [local irreducible] Go.Av.CallK Go.Av.CallE Go.Av.CallQ Go.Av.CallF Go.Av.CallR Go.Av.CallH Go.Av.Con
structure Tx where
  (e n s x r b : Int)
  (m : List UInt8)
  (ps : List Pt)
  deriving DecidableEq
def Tx.cells (t : Tx) : List PV := [I t.e, I t.n, I t.s, I t.x, I t.r, I t.b, SB t.m, .sl 11 (pts t.ps)]
attribute [-simp] pts_getElem
@[simp] theorem pts_getE (l : List Pt) (k : Nat) (h : k < (pts l).length) : (pts l)[k] = [I (l[k]'(by simpa using h)).k, SB (l[k]'(by simpa using h)).z.p, SB (l[k]'(by simpa using h)).z.d, I (l[k]'(by simpa using h)).z.v, I (l[k]'(by simpa using h)).z.k, I (l[k]'(by simpa using h)).z.o, I (l[k]'(by simpa using h)).s, I (l[k]'(by simpa using h)).c.ep, I (l[k]'(by simpa using h)).c.n, I (l[k]'(by simpa using h)).c.kind, .sl 4 (mbs (l[k]'(by simpa using h)).c.ms)] := by simp [pts, Pt.cells]
end Go.Proofs.Ytnfcbkageifmfaa

/- States: far, of any transactions. -/
namespace Go.Proofs.Ytnfcbkageifmfaa
set_option linter.unusedSimpArgs false
set_option linter.unusedVariables false
open Go Go.Av
attribute [local simp] Try.T1 Try.T2 Try.T3 Try.T4 Try.T5 Try.T9 Try.T12 Try.T15 Try.T16 Try.T17 Try.T21 Try.T22 Try.T23 Try.T25 Try.T27 Try.T29 Try.T30 Try.T31 Try.T32 Try.T33 Try.T35 Try.T37 Try.T38 Try.T40 Try.T41 Try.T42 Try.T43 Try.T44 Try.T45 Try.T46 Try.T47 Try.T48 Try.T49 Try.T50 Try.T51 Try.T52 Try.T53 Try.T54 Try.T56 Try.T57 Try.T58 Try.T59 Try.T60 Try.T61 Try.T62 Try.T64 Try.T66 Try.T67 Try.T68 Try.T69 Try.T71 Try.T72 Try.T73 Try.T74 Try.T75 Try.T76 Try.T77 Try.T78 Try.T79 Try.T80 Try.T81 Try.T82 Try.T83 Try.T84 Try.T85 Try.T86 Try.T87 Try.T88 Try.T89 Try.T90 Try.T91 Try.T92 Try.T93 Try.T94 Try.T95 Try.T97 Try.T98 Try.T99 Try.T100 Try.T101 Try.T102 Try.T103 Try.T104 Try.T105 Try.T106 Try.T107 Try.T108 Try.T109 Try.T110 Try.T111 Try.T112 Try.T113 Try.T114 Try.T115 Try.T116 Try.T117 Try.T120 Try.T123 Try.T124 Try.T127 Try.T128
attribute [local irreducible] Go.Av.CallK Go.Av.CallE Go.Av.CallQ Go.Av.CallF Go.Av.CallR Go.Av.CallH Go.Av.Con
def txns (l : List Tx) : List (List PV) := l.map Tx.cells
@[simp] theorem txns_len (l : List Tx) : (txns l).length = l.length := by simp [txns]
@[simp] theorem txns_getElem (l : List Tx) (k : Nat) (h : k < (txns l).length) : (txns l)[k] = [I (l[k]'(by simpa using h)).e, I (l[k]'(by simpa using h)).n, I (l[k]'(by simpa using h)).s, I (l[k]'(by simpa using h)).x, I (l[k]'(by simpa using h)).r, I (l[k]'(by simpa using h)).b, SB (l[k]'(by simpa using h)).m, .sl 11 (pts (l[k]'(by simpa using h)).ps)] := by simp [txns, Tx.cells]
theorem txns_get {l : List Tx} {k : Nat} (h : k < l.length) : (txns l)[k]? = some [I l[k].e, I l[k].n, I l[k].s, I l[k].x, I l[k].r, I l[k].b, SB l[k].m, .sl 11 (pts l[k].ps)] := by simp [txns, h, Tx.cells]
end Go.Proofs.Ytnfcbkageifmfaa
