/- The table of types of this translation, by program. -/
import Derived.Test.YtfilinonmngefaaDoorProg
import Derived.Test.YtfilinonmngefaaDoorAvCode
import Derived.WalkKit
import Derived.WalkSpells
import Derived.KernelRfl
namespace Go.Proofs.YtfilinonmngefaaDoor
open Go Go.Av

def Tryd.tabs : List (String × Nat × IntKind × List Int) := [("witan/codec.steps", 0, .u32, [0, 274646895, 549293790, 820201905, 1098587580, 1361435347, 1640403810, 1905808397, 2197175160, 2460548119, 2722870694, 2987750089, 3280807620, 3553878443, 3811616794, 4084100981])]
instance Tryd.glob : Glob where
  g
    | 0 => some [.v (.int .u32 0), .v (.int .u32 274646895), .v (.int .u32 549293790), .v (.int .u32 820201905), .v (.int .u32 1098587580), .v (.int .u32 1361435347), .v (.int .u32 1640403810), .v (.int .u32 1905808397), .v (.int .u32 2197175160), .v (.int .u32 2460548119), .v (.int .u32 2722870694), .v (.int .u32 2987750089), .v (.int .u32 3280807620), .v (.int .u32 3553878443), .v (.int .u32 3811616794), .v (.int .u32 4084100981)]
    | _ => none

theorem Tryd.ty1 : TyOK Tryd.prog 1 ⟨1, 8, [.p (.v .nilFunc)], .sc, none⟩ := by
  refine TyOK.of (z := .nilFunc) (by kernel_rfl) rfl (by first | rfl | decide | (simp [Value.cells, zval, scal])) rfl ?_ ?_ ?_
  · exact scOf_spec (by kernel_rfl)
  · intro cs h; first | rfl | (simp at h)
  · intro ks h; simp at h

theorem Tryd.ty2 : TyOK Tryd.prog 2 ⟨1, 8, [.p (.v (.int .i64 0))], .int .i64, none⟩ := by
  refine TyOK.of (z := .int .i64 0) (by kernel_rfl) rfl (by first | rfl | decide | (simp [Value.cells, zval, scal])) rfl ?_ ?_ ?_
  · show Tryd.prog.underlying 2 = _; kernel_rfl
  · intro cs h; first | rfl | (simp at h)
  · intro ks h; simp at h

theorem Tryd.ty3 : TyOK Tryd.prog 3 ⟨1, 8, [.p (.v (.int .i64 0))], .int .i64, none⟩ := by
  refine TyOK.of (z := .int .i64 0) (by kernel_rfl) rfl (by first | rfl | decide | (simp [Value.cells, zval, scal])) rfl ?_ ?_ ?_
  · show Tryd.prog.underlying 3 = _; kernel_rfl
  · intro cs h; first | rfl | (simp at h)
  · intro ks h; simp at h

theorem Tryd.ty4 : TyOK Tryd.prog 4 ⟨1, 1, [.p (.v (.bool false))], .bool, none⟩ := by
  refine TyOK.of (z := .bool false) (by kernel_rfl) rfl (by first | rfl | decide | (simp [Value.cells, zval, scal])) rfl ?_ ?_ ?_
  · show Tryd.prog.underlying 4 = _; kernel_rfl
  · intro cs h; first | rfl | (simp at h)
  · intro ks h; simp at h

theorem Tryd.ty5 : TyOK Tryd.prog 5 ⟨1, 1, [.p (.v (.int .u8 0))], .int .u8, none⟩ := by
  refine TyOK.of (z := .int .u8 0) (by kernel_rfl) rfl (by first | rfl | decide | (simp [Value.cells, zval, scal])) rfl ?_ ?_ ?_
  · show Tryd.prog.underlying 5 = _; kernel_rfl
  · intro cs h; first | rfl | (simp at h)
  · intro ks h; simp at h

theorem Tryd.ty9 : TyOK Tryd.prog 9 ⟨1, 16, [.p (.v (.string ByteArray.empty))], .str, none⟩ := by
  refine TyOK.of (z := .string ByteArray.empty) (by kernel_rfl) rfl (by first | rfl | decide | (simp [Value.cells, zval, scal])) rfl ?_ ?_ ?_
  · show Tryd.prog.underlying 9 = _; kernel_rfl
  · intro cs h; first | rfl | (simp at h)
  · intro ks h; simp at h

theorem Tryd.ty12 : TyOK Tryd.prog 12 ⟨1, 8, [.p (.v (.int .u64 0))], .int .u64, none⟩ := by
  refine TyOK.of (z := .int .u64 0) (by kernel_rfl) rfl (by first | rfl | decide | (simp [Value.cells, zval, scal])) rfl ?_ ?_ ?_
  · show Tryd.prog.underlying 12 = _; kernel_rfl
  · intro cs h; first | rfl | (simp at h)
  · intro ks h; simp at h

theorem Tryd.ty15 : TyOK Tryd.prog 15 ⟨1, 8, [.p (.v (.pointer none))], .sc, none⟩ := by
  refine TyOK.of (z := .pointer none) (by kernel_rfl) rfl (by first | rfl | decide | (simp [Value.cells, zval, scal])) rfl ?_ ?_ ?_
  · exact scOf_spec (by kernel_rfl)
  · intro cs h; first | rfl | (simp at h)
  · intro ks h; simp at h

theorem Tryd.ty16 : TyOK Tryd.prog 16 ⟨1, 8, [.p (.v (.pointer none))], .sc, none⟩ := by
  refine TyOK.of (z := .pointer none) (by kernel_rfl) rfl (by first | rfl | decide | (simp [Value.cells, zval, scal])) rfl ?_ ?_ ?_
  · exact scOf_spec (by kernel_rfl)
  · intro cs h; first | rfl | (simp at h)
  · intro ks h; simp at h

theorem Tryd.ty17 : TyOK Tryd.prog 17 ⟨1, 8, [.p (.v (.pointer none))], .sc, none⟩ := by
  refine TyOK.of (z := .pointer none) (by kernel_rfl) rfl (by first | rfl | decide | (simp [Value.cells, zval, scal])) rfl ?_ ?_ ?_
  · exact scOf_spec (by kernel_rfl)
  · intro cs h; first | rfl | (simp at h)
  · intro ks h; simp at h

theorem Tryd.ty21 : TyOK Tryd.prog 21 ⟨1, 4, [.p (.v (.int .i32 0))], .int .i32, none⟩ := by
  refine TyOK.of (z := .int .i32 0) (by kernel_rfl) rfl (by first | rfl | decide | (simp [Value.cells, zval, scal])) rfl ?_ ?_ ?_
  · show Tryd.prog.underlying 21 = _; kernel_rfl
  · intro cs h; first | rfl | (simp at h)
  · intro ks h; simp at h

theorem Tryd.ty22 : TyOK Tryd.prog 22 ⟨1, 24, [.nil 1], .slice 5, none⟩ := by
  refine TyOK.of (z := .slice none 0 0) (by kernel_rfl) rfl (by first | rfl | decide | (simp [Value.cells, zval, scal])) rfl ?_ ?_ ?_
  · show Tryd.prog.underlying 22 = _; kernel_rfl
  · intro cs h; first | rfl | (simp at h)
  · intro ks h; simp at h

theorem Tryd.ty23 : TyOK Tryd.prog 23 ⟨1, 8, [.p (.v .nilFunc)], .sc, none⟩ := by
  refine TyOK.of (z := .nilFunc) (by kernel_rfl) rfl (by first | rfl | decide | (simp [Value.cells, zval, scal])) rfl ?_ ?_ ?_
  · exact scOf_spec (by kernel_rfl)
  · intro cs h; first | rfl | (simp at h)
  · intro ks h; simp at h

theorem Tryd.ty24 : TyOK Tryd.prog 24 ⟨1, 8, [.p (.v .nilFunc)], .sc, none⟩ := by
  refine TyOK.of (z := .nilFunc) (by kernel_rfl) rfl (by first | rfl | decide | (simp [Value.cells, zval, scal])) rfl ?_ ?_ ?_
  · exact scOf_spec (by kernel_rfl)
  · intro cs h; first | rfl | (simp at h)
  · intro ks h; simp at h

theorem Tryd.ty25 : TyOK Tryd.prog 25 ⟨1, 8, [.p (.v (.int .i64 0))], .int .i64, none⟩ := by
  refine TyOK.of (z := .int .i64 0) (by kernel_rfl) rfl (by first | rfl | decide | (simp [Value.cells, zval, scal])) rfl ?_ ?_ ?_
  · show Tryd.prog.underlying 25 = _; kernel_rfl
  · intro cs h; first | rfl | (simp at h)
  · intro ks h; simp at h

theorem Tryd.ty27 : TyOK Tryd.prog 27 ⟨1, 8, [.p (.v .nilFunc)], .sc, none⟩ := by
  refine TyOK.of (z := .nilFunc) (by kernel_rfl) rfl (by first | rfl | decide | (simp [Value.cells, zval, scal])) rfl ?_ ?_ ?_
  · exact scOf_spec (by kernel_rfl)
  · intro cs h; first | rfl | (simp at h)
  · intro ks h; simp at h

theorem Tryd.ty28 : TyOK Tryd.prog 28 ⟨1, 8, [.p (.v .nilFunc)], .sc, none⟩ := by
  refine TyOK.of (z := .nilFunc) (by kernel_rfl) rfl (by first | rfl | decide | (simp [Value.cells, zval, scal])) rfl ?_ ?_ ?_
  · exact scOf_spec (by kernel_rfl)
  · intro cs h; first | rfl | (simp at h)
  · intro ks h; simp at h

theorem Tryd.ty29 : TyOK Tryd.prog 29 ⟨1, 8, [.p (.v .nilFunc)], .sc, none⟩ := by
  refine TyOK.of (z := .nilFunc) (by kernel_rfl) rfl (by first | rfl | decide | (simp [Value.cells, zval, scal])) rfl ?_ ?_ ?_
  · exact scOf_spec (by kernel_rfl)
  · intro cs h; first | rfl | (simp at h)
  · intro ks h; simp at h

theorem Tryd.ty31 : TyOK Tryd.prog 31 ⟨1, 8, [.p (.v .nilFunc)], .sc, none⟩ := by
  refine TyOK.of (z := .nilFunc) (by kernel_rfl) rfl (by first | rfl | decide | (simp [Value.cells, zval, scal])) rfl ?_ ?_ ?_
  · exact scOf_spec (by kernel_rfl)
  · intro cs h; first | rfl | (simp at h)
  · intro ks h; simp at h

theorem Tryd.ty32 : TyOK Tryd.prog 32 ⟨1, 8, [.p (.v .nilFunc)], .sc, none⟩ := by
  refine TyOK.of (z := .nilFunc) (by kernel_rfl) rfl (by first | rfl | decide | (simp [Value.cells, zval, scal])) rfl ?_ ?_ ?_
  · exact scOf_spec (by kernel_rfl)
  · intro cs h; first | rfl | (simp at h)
  · intro ks h; simp at h

theorem Tryd.ty34 : TyOK Tryd.prog 34 ⟨1, 8, [.p (.v .nilFunc)], .sc, none⟩ := by
  refine TyOK.of (z := .nilFunc) (by kernel_rfl) rfl (by first | rfl | decide | (simp [Value.cells, zval, scal])) rfl ?_ ?_ ?_
  · exact scOf_spec (by kernel_rfl)
  · intro cs h; first | rfl | (simp at h)
  · intro ks h; simp at h

theorem Tryd.ty35 : TyOK Tryd.prog 35 ⟨1, 4, [.p (.v (.int .u32 0))], .int .u32, none⟩ := by
  refine TyOK.of (z := .int .u32 0) (by kernel_rfl) rfl (by first | rfl | decide | (simp [Value.cells, zval, scal])) rfl ?_ ?_ ?_
  · show Tryd.prog.underlying 35 = _; kernel_rfl
  · intro cs h; first | rfl | (simp at h)
  · intro ks h; simp at h

theorem Tryd.ty36 : TyOK Tryd.prog 36 ⟨1, 8, [.p (.v .nilFunc)], .sc, none⟩ := by
  refine TyOK.of (z := .nilFunc) (by kernel_rfl) rfl (by first | rfl | decide | (simp [Value.cells, zval, scal])) rfl ?_ ?_ ?_
  · exact scOf_spec (by kernel_rfl)
  · intro cs h; first | rfl | (simp at h)
  · intro ks h; simp at h

theorem Tryd.ty38 : TyOK Tryd.prog 38 ⟨1, 8, [.p (.v .nilFunc)], .sc, none⟩ := by
  refine TyOK.of (z := .nilFunc) (by kernel_rfl) rfl (by first | rfl | decide | (simp [Value.cells, zval, scal])) rfl ?_ ?_ ?_
  · exact scOf_spec (by kernel_rfl)
  · intro cs h; first | rfl | (simp at h)
  · intro ks h; simp at h

theorem Tryd.ty39 : TyOK Tryd.prog 39 ⟨1, 24, [.nil 1], .slice 22, none⟩ := by
  refine TyOK.of (z := .slice none 0 0) (by kernel_rfl) rfl (by first | rfl | decide | (simp [Value.cells, zval, scal])) rfl ?_ ?_ ?_
  · show Tryd.prog.underlying 39 = _; kernel_rfl
  · intro cs h; first | rfl | (simp at h)
  · intro ks h; simp at h

theorem Tryd.ty41 : TyOK Tryd.prog 41 ⟨1, 8, [.p (.v .nilFunc)], .sc, none⟩ := by
  refine TyOK.of (z := .nilFunc) (by kernel_rfl) rfl (by first | rfl | decide | (simp [Value.cells, zval, scal])) rfl ?_ ?_ ?_
  · exact scOf_spec (by kernel_rfl)
  · intro cs h; first | rfl | (simp at h)
  · intro ks h; simp at h

theorem Tryd.ty42 : TyOK Tryd.prog 42 ⟨1, 8, [.p (.v .nilFunc)], .sc, none⟩ := by
  refine TyOK.of (z := .nilFunc) (by kernel_rfl) rfl (by first | rfl | decide | (simp [Value.cells, zval, scal])) rfl ?_ ?_ ?_
  · exact scOf_spec (by kernel_rfl)
  · intro cs h; first | rfl | (simp at h)
  · intro ks h; simp at h

theorem Tryd.ty43 : TyOK Tryd.prog 43 ⟨1, 8, [.p (.v .nilFunc)], .sc, none⟩ := by
  refine TyOK.of (z := .nilFunc) (by kernel_rfl) rfl (by first | rfl | decide | (simp [Value.cells, zval, scal])) rfl ?_ ?_ ?_
  · exact scOf_spec (by kernel_rfl)
  · intro cs h; first | rfl | (simp at h)
  · intro ks h; simp at h

theorem Tryd.ty44 : TyOK Tryd.prog 44 ⟨1, 24, [.nil 1], .slice 3, none⟩ := by
  refine TyOK.of (z := .slice none 0 0) (by kernel_rfl) rfl (by first | rfl | decide | (simp [Value.cells, zval, scal])) rfl ?_ ?_ ?_
  · show Tryd.prog.underlying 44 = _; kernel_rfl
  · intro cs h; first | rfl | (simp at h)
  · intro ks h; simp at h

theorem Tryd.ty45 : TyOK Tryd.prog 45 ⟨1, 24, [.nil 1], .slice 9, none⟩ := by
  refine TyOK.of (z := .slice none 0 0) (by kernel_rfl) rfl (by first | rfl | decide | (simp [Value.cells, zval, scal])) rfl ?_ ?_ ?_
  · show Tryd.prog.underlying 45 = _; kernel_rfl
  · intro cs h; first | rfl | (simp at h)
  · intro ks h; simp at h

theorem Tryd.ty46 : TyOK Tryd.prog 46 ⟨1, 8, [.p (.v .nilFunc)], .sc, none⟩ := by
  refine TyOK.of (z := .nilFunc) (by kernel_rfl) rfl (by first | rfl | decide | (simp [Value.cells, zval, scal])) rfl ?_ ?_ ?_
  · exact scOf_spec (by kernel_rfl)
  · intro cs h; first | rfl | (simp at h)
  · intro ks h; simp at h

theorem Tryd.ty47 : TyOK Tryd.prog 47 ⟨1, 8, [.p (.v .nilFunc)], .sc, none⟩ := by
  refine TyOK.of (z := .nilFunc) (by kernel_rfl) rfl (by first | rfl | decide | (simp [Value.cells, zval, scal])) rfl ?_ ?_ ?_
  · exact scOf_spec (by kernel_rfl)
  · intro cs h; first | rfl | (simp at h)
  · intro ks h; simp at h

theorem Tryd.ty48 : TyOK Tryd.prog 48 ⟨1, 8, [.p (.v .nilFunc)], .sc, none⟩ := by
  refine TyOK.of (z := .nilFunc) (by kernel_rfl) rfl (by first | rfl | decide | (simp [Value.cells, zval, scal])) rfl ?_ ?_ ?_
  · exact scOf_spec (by kernel_rfl)
  · intro cs h; first | rfl | (simp at h)
  · intro ks h; simp at h

theorem Tryd.ty49 : TyOK Tryd.prog 49 ⟨1, 8, [.p (.v (.int .u64 0))], .int .u64, none⟩ := by
  refine TyOK.of (z := .int .u64 0) (by kernel_rfl) rfl (by first | rfl | decide | (simp [Value.cells, zval, scal])) rfl ?_ ?_ ?_
  · show Tryd.prog.underlying 49 = _; kernel_rfl
  · intro cs h; first | rfl | (simp at h)
  · intro ks h; simp at h

theorem Tryd.ty50 : TyOK Tryd.prog 50 ⟨1, 8, [.p (.v .nilFunc)], .sc, none⟩ := by
  refine TyOK.of (z := .nilFunc) (by kernel_rfl) rfl (by first | rfl | decide | (simp [Value.cells, zval, scal])) rfl ?_ ?_ ?_
  · exact scOf_spec (by kernel_rfl)
  · intro cs h; first | rfl | (simp at h)
  · intro ks h; simp at h

theorem Tryd.ty51 : TyOK Tryd.prog 51 ⟨1, 8, [.p (.v (.int .u64 0))], .int .u64, none⟩ := by
  refine TyOK.of (z := .int .u64 0) (by kernel_rfl) rfl (by first | rfl | decide | (simp [Value.cells, zval, scal])) rfl ?_ ?_ ?_
  · show Tryd.prog.underlying 51 = _; kernel_rfl
  · intro cs h; first | rfl | (simp at h)
  · intro ks h; simp at h

theorem Tryd.ty52 : TyOK Tryd.prog 52 ⟨1, 8, [.p (.v .nilFunc)], .sc, none⟩ := by
  refine TyOK.of (z := .nilFunc) (by kernel_rfl) rfl (by first | rfl | decide | (simp [Value.cells, zval, scal])) rfl ?_ ?_ ?_
  · exact scOf_spec (by kernel_rfl)
  · intro cs h; first | rfl | (simp at h)
  · intro ks h; simp at h

theorem Tryd.ty53 : TyOK Tryd.prog 53 ⟨1, 8, [.p (.v .nilFunc)], .sc, none⟩ := by
  refine TyOK.of (z := .nilFunc) (by kernel_rfl) rfl (by first | rfl | decide | (simp [Value.cells, zval, scal])) rfl ?_ ?_ ?_
  · exact scOf_spec (by kernel_rfl)
  · intro cs h; first | rfl | (simp at h)
  · intro ks h; simp at h

theorem Tryd.ty54 : TyOK Tryd.prog 54 ⟨1, 8, [.p (.v .nilFunc)], .sc, none⟩ := by
  refine TyOK.of (z := .nilFunc) (by kernel_rfl) rfl (by first | rfl | decide | (simp [Value.cells, zval, scal])) rfl ?_ ?_ ?_
  · exact scOf_spec (by kernel_rfl)
  · intro cs h; first | rfl | (simp at h)
  · intro ks h; simp at h

theorem Tryd.ty55 : TyOK Tryd.prog 55 ⟨1, 8, [.p (.v (.pointer none))], .sc, none⟩ := by
  refine TyOK.of (z := .pointer none) (by kernel_rfl) rfl (by first | rfl | decide | (simp [Value.cells, zval, scal])) rfl ?_ ?_ ?_
  · exact scOf_spec (by kernel_rfl)
  · intro cs h; first | rfl | (simp at h)
  · intro ks h; simp at h

theorem Tryd.ty56 : TyOK Tryd.prog 56 ⟨1, 8, [.p (.v .nilFunc)], .sc, none⟩ := by
  refine TyOK.of (z := .nilFunc) (by kernel_rfl) rfl (by first | rfl | decide | (simp [Value.cells, zval, scal])) rfl ?_ ?_ ?_
  · exact scOf_spec (by kernel_rfl)
  · intro cs h; first | rfl | (simp at h)
  · intro ks h; simp at h

theorem Tryd.ty57 : TyOK Tryd.prog 57 ⟨1, 8, [.p (.v .nilFunc)], .sc, none⟩ := by
  refine TyOK.of (z := .nilFunc) (by kernel_rfl) rfl (by first | rfl | decide | (simp [Value.cells, zval, scal])) rfl ?_ ?_ ?_
  · exact scOf_spec (by kernel_rfl)
  · intro cs h; first | rfl | (simp at h)
  · intro ks h; simp at h

theorem Tryd.ty58 : TyOK Tryd.prog 58 ⟨1, 8, [.p (.v .nilFunc)], .sc, none⟩ := by
  refine TyOK.of (z := .nilFunc) (by kernel_rfl) rfl (by first | rfl | decide | (simp [Value.cells, zval, scal])) rfl ?_ ?_ ?_
  · exact scOf_spec (by kernel_rfl)
  · intro cs h; first | rfl | (simp at h)
  · intro ks h; simp at h

theorem Tryd.ty59 : TyOK Tryd.prog 59 ⟨1, 8, [.p (.v .nilFunc)], .sc, none⟩ := by
  refine TyOK.of (z := .nilFunc) (by kernel_rfl) rfl (by first | rfl | decide | (simp [Value.cells, zval, scal])) rfl ?_ ?_ ?_
  · exact scOf_spec (by kernel_rfl)
  · intro cs h; first | rfl | (simp at h)
  · intro ks h; simp at h

theorem Tryd.ty60 : TyOK Tryd.prog 60 ⟨16, 64, [.p (.v (.int .u32 0)), .p (.v (.int .u32 0)), .p (.v (.int .u32 0)), .p (.v (.int .u32 0)), .p (.v (.int .u32 0)), .p (.v (.int .u32 0)), .p (.v (.int .u32 0)), .p (.v (.int .u32 0)), .p (.v (.int .u32 0)), .p (.v (.int .u32 0)), .p (.v (.int .u32 0)), .p (.v (.int .u32 0)), .p (.v (.int .u32 0)), .p (.v (.int .u32 0)), .p (.v (.int .u32 0)), .p (.v (.int .u32 0))], .array 16 35, none⟩ := by
  refine TyOK.of (z := .agg #[.int .u32 0, .int .u32 0, .int .u32 0, .int .u32 0, .int .u32 0, .int .u32 0, .int .u32 0, .int .u32 0, .int .u32 0, .int .u32 0, .int .u32 0, .int .u32 0, .int .u32 0, .int .u32 0, .int .u32 0, .int .u32 0]) (by kernel_rfl) rfl (by first | rfl | decide | (simp [Value.cells, zval, scal])) rfl ?_ ?_ ?_
  · show Tryd.prog.underlying 60 = _; kernel_rfl
  · intro cs h; first | rfl | (simp at h)
  · intro ks h; simp at h

theorem Tryd.ty61 : TyOK Tryd.prog 61 ⟨1, 8, [.p (.v .nilFunc)], .sc, none⟩ := by
  refine TyOK.of (z := .nilFunc) (by kernel_rfl) rfl (by first | rfl | decide | (simp [Value.cells, zval, scal])) rfl ?_ ?_ ?_
  · exact scOf_spec (by kernel_rfl)
  · intro cs h; first | rfl | (simp at h)
  · intro ks h; simp at h

theorem Tryd.ty62 : TyOK Tryd.prog 62 ⟨1, 8, [.p (.v .nilFunc)], .sc, none⟩ := by
  refine TyOK.of (z := .nilFunc) (by kernel_rfl) rfl (by first | rfl | decide | (simp [Value.cells, zval, scal])) rfl ?_ ?_ ?_
  · exact scOf_spec (by kernel_rfl)
  · intro cs h; first | rfl | (simp at h)
  · intro ks h; simp at h

theorem Tryd.ty63 : TyOK Tryd.prog 63 ⟨1, 8, [.p (.v .nilFunc)], .sc, none⟩ := by
  refine TyOK.of (z := .nilFunc) (by kernel_rfl) rfl (by first | rfl | decide | (simp [Value.cells, zval, scal])) rfl ?_ ?_ ?_
  · exact scOf_spec (by kernel_rfl)
  · intro cs h; first | rfl | (simp at h)
  · intro ks h; simp at h

theorem Tryd.ty65 : TyOK Tryd.prog 65 ⟨2, 32, [.nil 1, .p (.v (.int .i64 0))], .struct [(0, 22), (1, 3)], none⟩ := by
  refine TyOK.of (z := .agg #[.slice none 0 0, .int .i64 0]) (by kernel_rfl) rfl (by first | rfl | decide | (simp [Value.cells, zval, scal])) rfl ?_ ?_ ?_
  · exact structOf_spec (by kernel_rfl)
  · intro cs h; first | rfl | (simp at h)
  · intro ks h; simp at h

theorem Tryd.ty66 : TyOK Tryd.prog 66 ⟨1, 8, [.p (.v .nilFunc)], .sc, none⟩ := by
  refine TyOK.of (z := .nilFunc) (by kernel_rfl) rfl (by first | rfl | decide | (simp [Value.cells, zval, scal])) rfl ?_ ?_ ?_
  · exact scOf_spec (by kernel_rfl)
  · intro cs h; first | rfl | (simp at h)
  · intro ks h; simp at h

theorem Tryd.ty67 : TyOK Tryd.prog 67 ⟨1, 8, [.p (.v .nilFunc)], .sc, none⟩ := by
  refine TyOK.of (z := .nilFunc) (by kernel_rfl) rfl (by first | rfl | decide | (simp [Value.cells, zval, scal])) rfl ?_ ?_ ?_
  · exact scOf_spec (by kernel_rfl)
  · intro cs h; first | rfl | (simp at h)
  · intro ks h; simp at h

theorem Tryd.ty68 : TyOK Tryd.prog 68 ⟨1, 8, [.p (.v .nilFunc)], .sc, none⟩ := by
  refine TyOK.of (z := .nilFunc) (by kernel_rfl) rfl (by first | rfl | decide | (simp [Value.cells, zval, scal])) rfl ?_ ?_ ?_
  · exact scOf_spec (by kernel_rfl)
  · intro cs h; first | rfl | (simp at h)
  · intro ks h; simp at h

theorem Tryd.ty69 : TyOK Tryd.prog 69 ⟨1, 8, [.p (.v .nilFunc)], .sc, none⟩ := by
  refine TyOK.of (z := .nilFunc) (by kernel_rfl) rfl (by first | rfl | decide | (simp [Value.cells, zval, scal])) rfl ?_ ?_ ?_
  · exact scOf_spec (by kernel_rfl)
  · intro cs h; first | rfl | (simp at h)
  · intro ks h; simp at h

theorem Tryd.ty70 : TyOK Tryd.prog 70 ⟨1, 8, [.p (.v (.int .i64 0))], .int .i64, none⟩ := by
  refine TyOK.of (z := .int .i64 0) (by kernel_rfl) rfl (by first | rfl | decide | (simp [Value.cells, zval, scal])) rfl ?_ ?_ ?_
  · show Tryd.prog.underlying 70 = _; kernel_rfl
  · intro cs h; first | rfl | (simp at h)
  · intro ks h; simp at h

theorem Tryd.ty73 : TyOK Tryd.prog 73 ⟨0, 0, [], .array 0 16, none⟩ := by
  refine TyOK.of (z := .agg #[]) (by kernel_rfl) rfl (by first | rfl | decide | (simp [Value.cells, zval, scal])) rfl ?_ ?_ ?_
  · show Tryd.prog.underlying 73 = _; kernel_rfl
  · intro cs h; first | rfl | (simp at h)
  · intro ks h; simp at h

theorem Tryd.ty78 : TyOK Tryd.prog 78 ⟨1, 8, [.p (.v .nilFunc)], .sc, none⟩ := by
  refine TyOK.of (z := .nilFunc) (by kernel_rfl) rfl (by first | rfl | decide | (simp [Value.cells, zval, scal])) rfl ?_ ?_ ?_
  · exact scOf_spec (by kernel_rfl)
  · intro cs h; first | rfl | (simp at h)
  · intro ks h; simp at h

theorem Tryd.ty79 : TyOK Tryd.prog 79 ⟨1, 8, [.p (.v (.pointer none))], .sc, none⟩ := by
  refine TyOK.of (z := .pointer none) (by kernel_rfl) rfl (by first | rfl | decide | (simp [Value.cells, zval, scal])) rfl ?_ ?_ ?_
  · exact scOf_spec (by kernel_rfl)
  · intro cs h; first | rfl | (simp at h)
  · intro ks h; simp at h

def Tryd.T : TypeId → Option Ty
  | 1 => some ⟨1, 8, [.p (.v .nilFunc)], .sc, none⟩
  | 2 => some ⟨1, 8, [.p (.v (.int .i64 0))], .int .i64, none⟩
  | 3 => some ⟨1, 8, [.p (.v (.int .i64 0))], .int .i64, none⟩
  | 4 => some ⟨1, 1, [.p (.v (.bool false))], .bool, none⟩
  | 5 => some ⟨1, 1, [.p (.v (.int .u8 0))], .int .u8, none⟩
  | 9 => some ⟨1, 16, [.p (.v (.string ByteArray.empty))], .str, none⟩
  | 12 => some ⟨1, 8, [.p (.v (.int .u64 0))], .int .u64, none⟩
  | 15 => some ⟨1, 8, [.p (.v (.pointer none))], .sc, none⟩
  | 16 => some ⟨1, 8, [.p (.v (.pointer none))], .sc, none⟩
  | 17 => some ⟨1, 8, [.p (.v (.pointer none))], .sc, none⟩
  | 21 => some ⟨1, 4, [.p (.v (.int .i32 0))], .int .i32, none⟩
  | 22 => some ⟨1, 24, [.nil 1], .slice 5, none⟩
  | 23 => some ⟨1, 8, [.p (.v .nilFunc)], .sc, none⟩
  | 24 => some ⟨1, 8, [.p (.v .nilFunc)], .sc, none⟩
  | 25 => some ⟨1, 8, [.p (.v (.int .i64 0))], .int .i64, none⟩
  | 27 => some ⟨1, 8, [.p (.v .nilFunc)], .sc, none⟩
  | 28 => some ⟨1, 8, [.p (.v .nilFunc)], .sc, none⟩
  | 29 => some ⟨1, 8, [.p (.v .nilFunc)], .sc, none⟩
  | 31 => some ⟨1, 8, [.p (.v .nilFunc)], .sc, none⟩
  | 32 => some ⟨1, 8, [.p (.v .nilFunc)], .sc, none⟩
  | 34 => some ⟨1, 8, [.p (.v .nilFunc)], .sc, none⟩
  | 35 => some ⟨1, 4, [.p (.v (.int .u32 0))], .int .u32, none⟩
  | 36 => some ⟨1, 8, [.p (.v .nilFunc)], .sc, none⟩
  | 38 => some ⟨1, 8, [.p (.v .nilFunc)], .sc, none⟩
  | 39 => some ⟨1, 24, [.nil 1], .slice 22, none⟩
  | 41 => some ⟨1, 8, [.p (.v .nilFunc)], .sc, none⟩
  | 42 => some ⟨1, 8, [.p (.v .nilFunc)], .sc, none⟩
  | 43 => some ⟨1, 8, [.p (.v .nilFunc)], .sc, none⟩
  | 44 => some ⟨1, 24, [.nil 1], .slice 3, none⟩
  | 45 => some ⟨1, 24, [.nil 1], .slice 9, none⟩
  | 46 => some ⟨1, 8, [.p (.v .nilFunc)], .sc, none⟩
  | 47 => some ⟨1, 8, [.p (.v .nilFunc)], .sc, none⟩
  | 48 => some ⟨1, 8, [.p (.v .nilFunc)], .sc, none⟩
  | 49 => some ⟨1, 8, [.p (.v (.int .u64 0))], .int .u64, none⟩
  | 50 => some ⟨1, 8, [.p (.v .nilFunc)], .sc, none⟩
  | 51 => some ⟨1, 8, [.p (.v (.int .u64 0))], .int .u64, none⟩
  | 52 => some ⟨1, 8, [.p (.v .nilFunc)], .sc, none⟩
  | 53 => some ⟨1, 8, [.p (.v .nilFunc)], .sc, none⟩
  | 54 => some ⟨1, 8, [.p (.v .nilFunc)], .sc, none⟩
  | 55 => some ⟨1, 8, [.p (.v (.pointer none))], .sc, none⟩
  | 56 => some ⟨1, 8, [.p (.v .nilFunc)], .sc, none⟩
  | 57 => some ⟨1, 8, [.p (.v .nilFunc)], .sc, none⟩
  | 58 => some ⟨1, 8, [.p (.v .nilFunc)], .sc, none⟩
  | 59 => some ⟨1, 8, [.p (.v .nilFunc)], .sc, none⟩
  | 60 => some ⟨16, 64, [.p (.v (.int .u32 0)), .p (.v (.int .u32 0)), .p (.v (.int .u32 0)), .p (.v (.int .u32 0)), .p (.v (.int .u32 0)), .p (.v (.int .u32 0)), .p (.v (.int .u32 0)), .p (.v (.int .u32 0)), .p (.v (.int .u32 0)), .p (.v (.int .u32 0)), .p (.v (.int .u32 0)), .p (.v (.int .u32 0)), .p (.v (.int .u32 0)), .p (.v (.int .u32 0)), .p (.v (.int .u32 0)), .p (.v (.int .u32 0))], .array 16 35, none⟩
  | 61 => some ⟨1, 8, [.p (.v .nilFunc)], .sc, none⟩
  | 62 => some ⟨1, 8, [.p (.v .nilFunc)], .sc, none⟩
  | 63 => some ⟨1, 8, [.p (.v .nilFunc)], .sc, none⟩
  | 65 => some ⟨2, 32, [.nil 1, .p (.v (.int .i64 0))], .struct [(0, 22), (1, 3)], none⟩
  | 66 => some ⟨1, 8, [.p (.v .nilFunc)], .sc, none⟩
  | 67 => some ⟨1, 8, [.p (.v .nilFunc)], .sc, none⟩
  | 68 => some ⟨1, 8, [.p (.v .nilFunc)], .sc, none⟩
  | 69 => some ⟨1, 8, [.p (.v .nilFunc)], .sc, none⟩
  | 70 => some ⟨1, 8, [.p (.v (.int .i64 0))], .int .i64, none⟩
  | 73 => some ⟨0, 0, [], .array 0 16, none⟩
  | 78 => some ⟨1, 8, [.p (.v .nilFunc)], .sc, none⟩
  | 79 => some ⟨1, 8, [.p (.v (.pointer none))], .sc, none⟩
  | _ => none

theorem Tryd.T1 : Tryd.T 1 = some ⟨1, 8, [.p (.v .nilFunc)], .sc, none⟩ := rfl
theorem Tryd.T2 : Tryd.T 2 = some ⟨1, 8, [.p (.v (.int .i64 0))], .int .i64, none⟩ := rfl
theorem Tryd.T3 : Tryd.T 3 = some ⟨1, 8, [.p (.v (.int .i64 0))], .int .i64, none⟩ := rfl
theorem Tryd.T4 : Tryd.T 4 = some ⟨1, 1, [.p (.v (.bool false))], .bool, none⟩ := rfl
theorem Tryd.T5 : Tryd.T 5 = some ⟨1, 1, [.p (.v (.int .u8 0))], .int .u8, none⟩ := rfl
theorem Tryd.T9 : Tryd.T 9 = some ⟨1, 16, [.p (.v (.string ByteArray.empty))], .str, none⟩ := rfl
theorem Tryd.T12 : Tryd.T 12 = some ⟨1, 8, [.p (.v (.int .u64 0))], .int .u64, none⟩ := rfl
theorem Tryd.T15 : Tryd.T 15 = some ⟨1, 8, [.p (.v (.pointer none))], .sc, none⟩ := rfl
theorem Tryd.T16 : Tryd.T 16 = some ⟨1, 8, [.p (.v (.pointer none))], .sc, none⟩ := rfl
theorem Tryd.T17 : Tryd.T 17 = some ⟨1, 8, [.p (.v (.pointer none))], .sc, none⟩ := rfl
theorem Tryd.T21 : Tryd.T 21 = some ⟨1, 4, [.p (.v (.int .i32 0))], .int .i32, none⟩ := rfl
theorem Tryd.T22 : Tryd.T 22 = some ⟨1, 24, [.nil 1], .slice 5, none⟩ := rfl
theorem Tryd.T23 : Tryd.T 23 = some ⟨1, 8, [.p (.v .nilFunc)], .sc, none⟩ := rfl
theorem Tryd.T24 : Tryd.T 24 = some ⟨1, 8, [.p (.v .nilFunc)], .sc, none⟩ := rfl
theorem Tryd.T25 : Tryd.T 25 = some ⟨1, 8, [.p (.v (.int .i64 0))], .int .i64, none⟩ := rfl
theorem Tryd.T27 : Tryd.T 27 = some ⟨1, 8, [.p (.v .nilFunc)], .sc, none⟩ := rfl
theorem Tryd.T28 : Tryd.T 28 = some ⟨1, 8, [.p (.v .nilFunc)], .sc, none⟩ := rfl
theorem Tryd.T29 : Tryd.T 29 = some ⟨1, 8, [.p (.v .nilFunc)], .sc, none⟩ := rfl
theorem Tryd.T31 : Tryd.T 31 = some ⟨1, 8, [.p (.v .nilFunc)], .sc, none⟩ := rfl
theorem Tryd.T32 : Tryd.T 32 = some ⟨1, 8, [.p (.v .nilFunc)], .sc, none⟩ := rfl
theorem Tryd.T34 : Tryd.T 34 = some ⟨1, 8, [.p (.v .nilFunc)], .sc, none⟩ := rfl
theorem Tryd.T35 : Tryd.T 35 = some ⟨1, 4, [.p (.v (.int .u32 0))], .int .u32, none⟩ := rfl
theorem Tryd.T36 : Tryd.T 36 = some ⟨1, 8, [.p (.v .nilFunc)], .sc, none⟩ := rfl
theorem Tryd.T38 : Tryd.T 38 = some ⟨1, 8, [.p (.v .nilFunc)], .sc, none⟩ := rfl
theorem Tryd.T39 : Tryd.T 39 = some ⟨1, 24, [.nil 1], .slice 22, none⟩ := rfl
theorem Tryd.T41 : Tryd.T 41 = some ⟨1, 8, [.p (.v .nilFunc)], .sc, none⟩ := rfl
theorem Tryd.T42 : Tryd.T 42 = some ⟨1, 8, [.p (.v .nilFunc)], .sc, none⟩ := rfl
theorem Tryd.T43 : Tryd.T 43 = some ⟨1, 8, [.p (.v .nilFunc)], .sc, none⟩ := rfl
theorem Tryd.T44 : Tryd.T 44 = some ⟨1, 24, [.nil 1], .slice 3, none⟩ := rfl
theorem Tryd.T45 : Tryd.T 45 = some ⟨1, 24, [.nil 1], .slice 9, none⟩ := rfl
theorem Tryd.T46 : Tryd.T 46 = some ⟨1, 8, [.p (.v .nilFunc)], .sc, none⟩ := rfl
theorem Tryd.T47 : Tryd.T 47 = some ⟨1, 8, [.p (.v .nilFunc)], .sc, none⟩ := rfl
theorem Tryd.T48 : Tryd.T 48 = some ⟨1, 8, [.p (.v .nilFunc)], .sc, none⟩ := rfl
theorem Tryd.T49 : Tryd.T 49 = some ⟨1, 8, [.p (.v (.int .u64 0))], .int .u64, none⟩ := rfl
theorem Tryd.T50 : Tryd.T 50 = some ⟨1, 8, [.p (.v .nilFunc)], .sc, none⟩ := rfl
theorem Tryd.T51 : Tryd.T 51 = some ⟨1, 8, [.p (.v (.int .u64 0))], .int .u64, none⟩ := rfl
theorem Tryd.T52 : Tryd.T 52 = some ⟨1, 8, [.p (.v .nilFunc)], .sc, none⟩ := rfl
theorem Tryd.T53 : Tryd.T 53 = some ⟨1, 8, [.p (.v .nilFunc)], .sc, none⟩ := rfl
theorem Tryd.T54 : Tryd.T 54 = some ⟨1, 8, [.p (.v .nilFunc)], .sc, none⟩ := rfl
theorem Tryd.T55 : Tryd.T 55 = some ⟨1, 8, [.p (.v (.pointer none))], .sc, none⟩ := rfl
theorem Tryd.T56 : Tryd.T 56 = some ⟨1, 8, [.p (.v .nilFunc)], .sc, none⟩ := rfl
theorem Tryd.T57 : Tryd.T 57 = some ⟨1, 8, [.p (.v .nilFunc)], .sc, none⟩ := rfl
theorem Tryd.T58 : Tryd.T 58 = some ⟨1, 8, [.p (.v .nilFunc)], .sc, none⟩ := rfl
theorem Tryd.T59 : Tryd.T 59 = some ⟨1, 8, [.p (.v .nilFunc)], .sc, none⟩ := rfl
theorem Tryd.T60 : Tryd.T 60 = some ⟨16, 64, [.p (.v (.int .u32 0)), .p (.v (.int .u32 0)), .p (.v (.int .u32 0)), .p (.v (.int .u32 0)), .p (.v (.int .u32 0)), .p (.v (.int .u32 0)), .p (.v (.int .u32 0)), .p (.v (.int .u32 0)), .p (.v (.int .u32 0)), .p (.v (.int .u32 0)), .p (.v (.int .u32 0)), .p (.v (.int .u32 0)), .p (.v (.int .u32 0)), .p (.v (.int .u32 0)), .p (.v (.int .u32 0)), .p (.v (.int .u32 0))], .array 16 35, none⟩ := rfl
theorem Tryd.T61 : Tryd.T 61 = some ⟨1, 8, [.p (.v .nilFunc)], .sc, none⟩ := rfl
theorem Tryd.T62 : Tryd.T 62 = some ⟨1, 8, [.p (.v .nilFunc)], .sc, none⟩ := rfl
theorem Tryd.T63 : Tryd.T 63 = some ⟨1, 8, [.p (.v .nilFunc)], .sc, none⟩ := rfl
theorem Tryd.T65 : Tryd.T 65 = some ⟨2, 32, [.nil 1, .p (.v (.int .i64 0))], .struct [(0, 22), (1, 3)], none⟩ := rfl
theorem Tryd.T66 : Tryd.T 66 = some ⟨1, 8, [.p (.v .nilFunc)], .sc, none⟩ := rfl
theorem Tryd.T67 : Tryd.T 67 = some ⟨1, 8, [.p (.v .nilFunc)], .sc, none⟩ := rfl
theorem Tryd.T68 : Tryd.T 68 = some ⟨1, 8, [.p (.v .nilFunc)], .sc, none⟩ := rfl
theorem Tryd.T69 : Tryd.T 69 = some ⟨1, 8, [.p (.v .nilFunc)], .sc, none⟩ := rfl
theorem Tryd.T70 : Tryd.T 70 = some ⟨1, 8, [.p (.v (.int .i64 0))], .int .i64, none⟩ := rfl
theorem Tryd.T73 : Tryd.T 73 = some ⟨0, 0, [], .array 0 16, none⟩ := rfl
theorem Tryd.T78 : Tryd.T 78 = some ⟨1, 8, [.p (.v .nilFunc)], .sc, none⟩ := rfl
theorem Tryd.T79 : Tryd.T 79 = some ⟨1, 8, [.p (.v (.pointer none))], .sc, none⟩ := rfl

set_option maxRecDepth 100000 in
set_option maxHeartbeats 4000000 in
theorem Tryd.tab : TabOK Tryd.prog Tryd.T := by
  intro t y h
  unfold Tryd.T at h
  split at h
  · simp only [Option.some.injEq] at h; subst h; exact Tryd.ty1
  · simp only [Option.some.injEq] at h; subst h; exact Tryd.ty2
  · simp only [Option.some.injEq] at h; subst h; exact Tryd.ty3
  · simp only [Option.some.injEq] at h; subst h; exact Tryd.ty4
  · simp only [Option.some.injEq] at h; subst h; exact Tryd.ty5
  · simp only [Option.some.injEq] at h; subst h; exact Tryd.ty9
  · simp only [Option.some.injEq] at h; subst h; exact Tryd.ty12
  · simp only [Option.some.injEq] at h; subst h; exact Tryd.ty15
  · simp only [Option.some.injEq] at h; subst h; exact Tryd.ty16
  · simp only [Option.some.injEq] at h; subst h; exact Tryd.ty17
  · simp only [Option.some.injEq] at h; subst h; exact Tryd.ty21
  · simp only [Option.some.injEq] at h; subst h; exact Tryd.ty22
  · simp only [Option.some.injEq] at h; subst h; exact Tryd.ty23
  · simp only [Option.some.injEq] at h; subst h; exact Tryd.ty24
  · simp only [Option.some.injEq] at h; subst h; exact Tryd.ty25
  · simp only [Option.some.injEq] at h; subst h; exact Tryd.ty27
  · simp only [Option.some.injEq] at h; subst h; exact Tryd.ty28
  · simp only [Option.some.injEq] at h; subst h; exact Tryd.ty29
  · simp only [Option.some.injEq] at h; subst h; exact Tryd.ty31
  · simp only [Option.some.injEq] at h; subst h; exact Tryd.ty32
  · simp only [Option.some.injEq] at h; subst h; exact Tryd.ty34
  · simp only [Option.some.injEq] at h; subst h; exact Tryd.ty35
  · simp only [Option.some.injEq] at h; subst h; exact Tryd.ty36
  · simp only [Option.some.injEq] at h; subst h; exact Tryd.ty38
  · simp only [Option.some.injEq] at h; subst h; exact Tryd.ty39
  · simp only [Option.some.injEq] at h; subst h; exact Tryd.ty41
  · simp only [Option.some.injEq] at h; subst h; exact Tryd.ty42
  · simp only [Option.some.injEq] at h; subst h; exact Tryd.ty43
  · simp only [Option.some.injEq] at h; subst h; exact Tryd.ty44
  · simp only [Option.some.injEq] at h; subst h; exact Tryd.ty45
  · simp only [Option.some.injEq] at h; subst h; exact Tryd.ty46
  · simp only [Option.some.injEq] at h; subst h; exact Tryd.ty47
  · simp only [Option.some.injEq] at h; subst h; exact Tryd.ty48
  · simp only [Option.some.injEq] at h; subst h; exact Tryd.ty49
  · simp only [Option.some.injEq] at h; subst h; exact Tryd.ty50
  · simp only [Option.some.injEq] at h; subst h; exact Tryd.ty51
  · simp only [Option.some.injEq] at h; subst h; exact Tryd.ty52
  · simp only [Option.some.injEq] at h; subst h; exact Tryd.ty53
  · simp only [Option.some.injEq] at h; subst h; exact Tryd.ty54
  · simp only [Option.some.injEq] at h; subst h; exact Tryd.ty55
  · simp only [Option.some.injEq] at h; subst h; exact Tryd.ty56
  · simp only [Option.some.injEq] at h; subst h; exact Tryd.ty57
  · simp only [Option.some.injEq] at h; subst h; exact Tryd.ty58
  · simp only [Option.some.injEq] at h; subst h; exact Tryd.ty59
  · simp only [Option.some.injEq] at h; subst h; exact Tryd.ty60
  · simp only [Option.some.injEq] at h; subst h; exact Tryd.ty61
  · simp only [Option.some.injEq] at h; subst h; exact Tryd.ty62
  · simp only [Option.some.injEq] at h; subst h; exact Tryd.ty63
  · simp only [Option.some.injEq] at h; subst h; exact Tryd.ty65
  · simp only [Option.some.injEq] at h; subst h; exact Tryd.ty66
  · simp only [Option.some.injEq] at h; subst h; exact Tryd.ty67
  · simp only [Option.some.injEq] at h; subst h; exact Tryd.ty68
  · simp only [Option.some.injEq] at h; subst h; exact Tryd.ty69
  · simp only [Option.some.injEq] at h; subst h; exact Tryd.ty70
  · simp only [Option.some.injEq] at h; subst h; exact Tryd.ty73
  · simp only [Option.some.injEq] at h; subst h; exact Tryd.ty78
  · simp only [Option.some.injEq] at h; subst h; exact Tryd.ty79
  · simp at h
theorem Tryd.mixed : Tryd.prog.follows .mixedOrders = true := by kernel_rfl
end Go.Proofs.YtfilinonmngefaaDoor
