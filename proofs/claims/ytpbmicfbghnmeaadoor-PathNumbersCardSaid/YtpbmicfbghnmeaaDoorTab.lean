/- The table of types of this translation, by program. -/
import Derived.Test.YtpbmicfbghnmeaaDoorProg
import Derived.Test.YtpbmicfbghnmeaaDoorAvCode
import Derived.WalkKit
import Derived.WalkSpells
import Derived.KernelRfl
namespace Go.Proofs.YtpbmicfbghnmeaaDoor
open Go Go.Av

def Tryd.tabs : List (String × Nat × IntKind × List Int) := [("math/bits.deBruijn32tab", 2, .u8, [0, 1, 28, 2, 29, 14, 24, 3, 30, 22, 20, 15, 25, 17, 4, 8, 31, 27, 13, 23, 21, 19, 16, 7, 26, 12, 18, 6, 11, 5, 10, 9]), ("math/bits.deBruijn64tab", 3, .u8, [0, 1, 56, 2, 57, 49, 28, 3, 61, 58, 42, 50, 38, 29, 17, 4, 62, 47, 59, 36, 45, 43, 51, 22, 53, 39, 33, 30, 24, 18, 12, 5, 63, 55, 48, 27, 60, 41, 37, 16, 46, 35, 44, 21, 52, 32, 23, 11, 54, 26, 40, 15, 34, 20, 31, 10, 25, 14, 19, 9, 13, 8, 7, 6]), ("internal/strconv.uint64pow10", 1, .u64, [1, 10, 100, 1000, 10000, 100000, 1000000, 10000000, 100000000, 1000000000, 10000000000, 100000000000, 1000000000000, 10000000000000, 100000000000000, 1000000000000000, 10000000000000000, 100000000000000000, 1000000000000000000, 10000000000000000000])]
instance Tryd.glob : Glob where
  g
    | 2 => some [.v (.int .u8 0), .v (.int .u8 1), .v (.int .u8 28), .v (.int .u8 2), .v (.int .u8 29), .v (.int .u8 14), .v (.int .u8 24), .v (.int .u8 3), .v (.int .u8 30), .v (.int .u8 22), .v (.int .u8 20), .v (.int .u8 15), .v (.int .u8 25), .v (.int .u8 17), .v (.int .u8 4), .v (.int .u8 8), .v (.int .u8 31), .v (.int .u8 27), .v (.int .u8 13), .v (.int .u8 23), .v (.int .u8 21), .v (.int .u8 19), .v (.int .u8 16), .v (.int .u8 7), .v (.int .u8 26), .v (.int .u8 12), .v (.int .u8 18), .v (.int .u8 6), .v (.int .u8 11), .v (.int .u8 5), .v (.int .u8 10), .v (.int .u8 9)]
    | 3 => some [.v (.int .u8 0), .v (.int .u8 1), .v (.int .u8 56), .v (.int .u8 2), .v (.int .u8 57), .v (.int .u8 49), .v (.int .u8 28), .v (.int .u8 3), .v (.int .u8 61), .v (.int .u8 58), .v (.int .u8 42), .v (.int .u8 50), .v (.int .u8 38), .v (.int .u8 29), .v (.int .u8 17), .v (.int .u8 4), .v (.int .u8 62), .v (.int .u8 47), .v (.int .u8 59), .v (.int .u8 36), .v (.int .u8 45), .v (.int .u8 43), .v (.int .u8 51), .v (.int .u8 22), .v (.int .u8 53), .v (.int .u8 39), .v (.int .u8 33), .v (.int .u8 30), .v (.int .u8 24), .v (.int .u8 18), .v (.int .u8 12), .v (.int .u8 5), .v (.int .u8 63), .v (.int .u8 55), .v (.int .u8 48), .v (.int .u8 27), .v (.int .u8 60), .v (.int .u8 41), .v (.int .u8 37), .v (.int .u8 16), .v (.int .u8 46), .v (.int .u8 35), .v (.int .u8 44), .v (.int .u8 21), .v (.int .u8 52), .v (.int .u8 32), .v (.int .u8 23), .v (.int .u8 11), .v (.int .u8 54), .v (.int .u8 26), .v (.int .u8 40), .v (.int .u8 15), .v (.int .u8 34), .v (.int .u8 20), .v (.int .u8 31), .v (.int .u8 10), .v (.int .u8 25), .v (.int .u8 14), .v (.int .u8 19), .v (.int .u8 9), .v (.int .u8 13), .v (.int .u8 8), .v (.int .u8 7), .v (.int .u8 6)]
    | 1 => some [.v (.int .u64 1), .v (.int .u64 10), .v (.int .u64 100), .v (.int .u64 1000), .v (.int .u64 10000), .v (.int .u64 100000), .v (.int .u64 1000000), .v (.int .u64 10000000), .v (.int .u64 100000000), .v (.int .u64 1000000000), .v (.int .u64 10000000000), .v (.int .u64 100000000000), .v (.int .u64 1000000000000), .v (.int .u64 10000000000000), .v (.int .u64 100000000000000), .v (.int .u64 1000000000000000), .v (.int .u64 10000000000000000), .v (.int .u64 100000000000000000), .v (.int .u64 1000000000000000000), .v (.int .u64 10000000000000000000)]
    | _ => none

theorem Tryd.ty1 : TyOK Tryd.prog 1 ⟨1, 8, [.p (.v .nilFunc)], .sc, none⟩ := by
  refine TyOK.of (z := .nilFunc) (by kernel_rfl) rfl (by first | rfl | decide | (simp [Value.cells, zval, scal])) rfl ?_ ?_ ?_
  · exact scOf_spec (by kernel_rfl)
  · intro cs h; first | rfl | (simp at h)
  · intro ks h; simp at h

theorem Tryd.ty2 : TyOK Tryd.prog 2 ⟨1, 8, [.p (.v (.int .i64 0))], .int .i64, none⟩ := by
  refine TyOK.of (z := .int .i64 0) (by kernel_rfl) rfl (by first | rfl | decide | (simp [Value.cells, zval, scal])) rfl ?_ ?_ ?_
  · show Tryd.prog.underlying 2 = _; kernel_rfl
  · intro cs h; first | rfl | (simp at h)
  · intro ks h; simp at h

theorem Tryd.ty3 : TyOK Tryd.prog 3 ⟨1, 8, [.p (.v (.int .i64 0))], .int .i64, none⟩ := by
  refine TyOK.of (z := .int .i64 0) (by kernel_rfl) rfl (by first | rfl | decide | (simp [Value.cells, zval, scal])) rfl ?_ ?_ ?_
  · show Tryd.prog.underlying 3 = _; kernel_rfl
  · intro cs h; first | rfl | (simp at h)
  · intro ks h; simp at h

theorem Tryd.ty4 : TyOK Tryd.prog 4 ⟨1, 1, [.p (.v (.bool false))], .bool, none⟩ := by
  refine TyOK.of (z := .bool false) (by kernel_rfl) rfl (by first | rfl | decide | (simp [Value.cells, zval, scal])) rfl ?_ ?_ ?_
  · show Tryd.prog.underlying 4 = _; kernel_rfl
  · intro cs h; first | rfl | (simp at h)
  · intro ks h; simp at h

theorem Tryd.ty5 : TyOK Tryd.prog 5 ⟨1, 1, [.p (.v (.int .u8 0))], .int .u8, none⟩ := by
  refine TyOK.of (z := .int .u8 0) (by kernel_rfl) rfl (by first | rfl | decide | (simp [Value.cells, zval, scal])) rfl ?_ ?_ ?_
  · show Tryd.prog.underlying 5 = _; kernel_rfl
  · intro cs h; first | rfl | (simp at h)
  · intro ks h; simp at h

theorem Tryd.ty9 : TyOK Tryd.prog 9 ⟨1, 16, [.p (.v (.string ByteArray.empty))], .str, none⟩ := by
  refine TyOK.of (z := .string ByteArray.empty) (by kernel_rfl) rfl (by first | rfl | decide | (simp [Value.cells, zval, scal])) rfl ?_ ?_ ?_
  · show Tryd.prog.underlying 9 = _; kernel_rfl
  · intro cs h; first | rfl | (simp at h)
  · intro ks h; simp at h

theorem Tryd.ty12 : TyOK Tryd.prog 12 ⟨1, 8, [.p (.v (.int .u64 0))], .int .u64, none⟩ := by
  refine TyOK.of (z := .int .u64 0) (by kernel_rfl) rfl (by first | rfl | decide | (simp [Value.cells, zval, scal])) rfl ?_ ?_ ?_
  · show Tryd.prog.underlying 12 = _; kernel_rfl
  · intro cs h; first | rfl | (simp at h)
  · intro ks h; simp at h

theorem Tryd.ty21 : TyOK Tryd.prog 21 ⟨1, 4, [.p (.v (.int .i32 0))], .int .i32, none⟩ := by
  refine TyOK.of (z := .int .i32 0) (by kernel_rfl) rfl (by first | rfl | decide | (simp [Value.cells, zval, scal])) rfl ?_ ?_ ?_
  · show Tryd.prog.underlying 21 = _; kernel_rfl
  · intro cs h; first | rfl | (simp at h)
  · intro ks h; simp at h

theorem Tryd.ty22 : TyOK Tryd.prog 22 ⟨1, 8, [.p (.v .nilFunc)], .sc, none⟩ := by
  refine TyOK.of (z := .nilFunc) (by kernel_rfl) rfl (by first | rfl | decide | (simp [Value.cells, zval, scal])) rfl ?_ ?_ ?_
  · exact scOf_spec (by kernel_rfl)
  · intro cs h; first | rfl | (simp at h)
  · intro ks h; simp at h

theorem Tryd.ty23 : TyOK Tryd.prog 23 ⟨1, 8, [.p (.v .nilFunc)], .sc, none⟩ := by
  refine TyOK.of (z := .nilFunc) (by kernel_rfl) rfl (by first | rfl | decide | (simp [Value.cells, zval, scal])) rfl ?_ ?_ ?_
  · exact scOf_spec (by kernel_rfl)
  · intro cs h; first | rfl | (simp at h)
  · intro ks h; simp at h

theorem Tryd.ty25 : TyOK Tryd.prog 25 ⟨1, 8, [.p (.v .nilFunc)], .sc, none⟩ := by
  refine TyOK.of (z := .nilFunc) (by kernel_rfl) rfl (by first | rfl | decide | (simp [Value.cells, zval, scal])) rfl ?_ ?_ ?_
  · exact scOf_spec (by kernel_rfl)
  · intro cs h; first | rfl | (simp at h)
  · intro ks h; simp at h

theorem Tryd.ty26 : TyOK Tryd.prog 26 ⟨1, 8, [.p (.v (.int .i64 0))], .int .i64, none⟩ := by
  refine TyOK.of (z := .int .i64 0) (by kernel_rfl) rfl (by first | rfl | decide | (simp [Value.cells, zval, scal])) rfl ?_ ?_ ?_
  · show Tryd.prog.underlying 26 = _; kernel_rfl
  · intro cs h; first | rfl | (simp at h)
  · intro ks h; simp at h

theorem Tryd.ty27 : TyOK Tryd.prog 27 ⟨1, 8, [.p (.v .nilFunc)], .sc, none⟩ := by
  refine TyOK.of (z := .nilFunc) (by kernel_rfl) rfl (by first | rfl | decide | (simp [Value.cells, zval, scal])) rfl ?_ ?_ ?_
  · exact scOf_spec (by kernel_rfl)
  · intro cs h; first | rfl | (simp at h)
  · intro ks h; simp at h

theorem Tryd.ty28 : TyOK Tryd.prog 28 ⟨1, 8, [.p (.v .nilFunc)], .sc, none⟩ := by
  refine TyOK.of (z := .nilFunc) (by kernel_rfl) rfl (by first | rfl | decide | (simp [Value.cells, zval, scal])) rfl ?_ ?_ ?_
  · exact scOf_spec (by kernel_rfl)
  · intro cs h; first | rfl | (simp at h)
  · intro ks h; simp at h

theorem Tryd.ty29 : TyOK Tryd.prog 29 ⟨1, 8, [.p (.v .nilFunc)], .sc, none⟩ := by
  refine TyOK.of (z := .nilFunc) (by kernel_rfl) rfl (by first | rfl | decide | (simp [Value.cells, zval, scal])) rfl ?_ ?_ ?_
  · exact scOf_spec (by kernel_rfl)
  · intro cs h; first | rfl | (simp at h)
  · intro ks h; simp at h

theorem Tryd.ty30 : TyOK Tryd.prog 30 ⟨1, 8, [.p (.v .nilFunc)], .sc, none⟩ := by
  refine TyOK.of (z := .nilFunc) (by kernel_rfl) rfl (by first | rfl | decide | (simp [Value.cells, zval, scal])) rfl ?_ ?_ ?_
  · exact scOf_spec (by kernel_rfl)
  · intro cs h; first | rfl | (simp at h)
  · intro ks h; simp at h

theorem Tryd.ty32 : TyOK Tryd.prog 32 ⟨1, 8, [.p (.v .nilFunc)], .sc, none⟩ := by
  refine TyOK.of (z := .nilFunc) (by kernel_rfl) rfl (by first | rfl | decide | (simp [Value.cells, zval, scal])) rfl ?_ ?_ ?_
  · exact scOf_spec (by kernel_rfl)
  · intro cs h; first | rfl | (simp at h)
  · intro ks h; simp at h

theorem Tryd.ty33 : TyOK Tryd.prog 33 ⟨1, 8, [.p (.v .nilFunc)], .sc, none⟩ := by
  refine TyOK.of (z := .nilFunc) (by kernel_rfl) rfl (by first | rfl | decide | (simp [Value.cells, zval, scal])) rfl ?_ ?_ ?_
  · exact scOf_spec (by kernel_rfl)
  · intro cs h; first | rfl | (simp at h)
  · intro ks h; simp at h

theorem Tryd.ty34 : TyOK Tryd.prog 34 ⟨1, 8, [.p (.v .nilFunc)], .sc, none⟩ := by
  refine TyOK.of (z := .nilFunc) (by kernel_rfl) rfl (by first | rfl | decide | (simp [Value.cells, zval, scal])) rfl ?_ ?_ ?_
  · exact scOf_spec (by kernel_rfl)
  · intro cs h; first | rfl | (simp at h)
  · intro ks h; simp at h

theorem Tryd.ty35 : TyOK Tryd.prog 35 ⟨1, 8, [.p (.v .nilFunc)], .sc, none⟩ := by
  refine TyOK.of (z := .nilFunc) (by kernel_rfl) rfl (by first | rfl | decide | (simp [Value.cells, zval, scal])) rfl ?_ ?_ ?_
  · exact scOf_spec (by kernel_rfl)
  · intro cs h; first | rfl | (simp at h)
  · intro ks h; simp at h

theorem Tryd.ty36 : TyOK Tryd.prog 36 ⟨1, 8, [.p (.v .nilFunc)], .sc, none⟩ := by
  refine TyOK.of (z := .nilFunc) (by kernel_rfl) rfl (by first | rfl | decide | (simp [Value.cells, zval, scal])) rfl ?_ ?_ ?_
  · exact scOf_spec (by kernel_rfl)
  · intro cs h; first | rfl | (simp at h)
  · intro ks h; simp at h

theorem Tryd.ty37 : TyOK Tryd.prog 37 ⟨1, 8, [.p (.v .nilFunc)], .sc, none⟩ := by
  refine TyOK.of (z := .nilFunc) (by kernel_rfl) rfl (by first | rfl | decide | (simp [Value.cells, zval, scal])) rfl ?_ ?_ ?_
  · exact scOf_spec (by kernel_rfl)
  · intro cs h; first | rfl | (simp at h)
  · intro ks h; simp at h

theorem Tryd.ty38 : TyOK Tryd.prog 38 ⟨1, 24, [.nil 1], .slice 9, none⟩ := by
  refine TyOK.of (z := .slice none 0 0) (by kernel_rfl) rfl (by first | rfl | decide | (simp [Value.cells, zval, scal])) rfl ?_ ?_ ?_
  · show Tryd.prog.underlying 38 = _; kernel_rfl
  · intro cs h; first | rfl | (simp at h)
  · intro ks h; simp at h

theorem Tryd.ty39 : TyOK Tryd.prog 39 ⟨1, 8, [.p (.v .nilFunc)], .sc, none⟩ := by
  refine TyOK.of (z := .nilFunc) (by kernel_rfl) rfl (by first | rfl | decide | (simp [Value.cells, zval, scal])) rfl ?_ ?_ ?_
  · exact scOf_spec (by kernel_rfl)
  · intro cs h; first | rfl | (simp at h)
  · intro ks h; simp at h

theorem Tryd.ty40 : TyOK Tryd.prog 40 ⟨1, 8, [.p (.v .nilFunc)], .sc, none⟩ := by
  refine TyOK.of (z := .nilFunc) (by kernel_rfl) rfl (by first | rfl | decide | (simp [Value.cells, zval, scal])) rfl ?_ ?_ ?_
  · exact scOf_spec (by kernel_rfl)
  · intro cs h; first | rfl | (simp at h)
  · intro ks h; simp at h

theorem Tryd.ty41 : TyOK Tryd.prog 41 ⟨1, 8, [.p (.v .nilFunc)], .sc, none⟩ := by
  refine TyOK.of (z := .nilFunc) (by kernel_rfl) rfl (by first | rfl | decide | (simp [Value.cells, zval, scal])) rfl ?_ ?_ ?_
  · exact scOf_spec (by kernel_rfl)
  · intro cs h; first | rfl | (simp at h)
  · intro ks h; simp at h

theorem Tryd.ty42 : TyOK Tryd.prog 42 ⟨1, 24, [.nil 1], .slice 5, none⟩ := by
  refine TyOK.of (z := .slice none 0 0) (by kernel_rfl) rfl (by first | rfl | decide | (simp [Value.cells, zval, scal])) rfl ?_ ?_ ?_
  · show Tryd.prog.underlying 42 = _; kernel_rfl
  · intro cs h; first | rfl | (simp at h)
  · intro ks h; simp at h

theorem Tryd.ty43 : TyOK Tryd.prog 43 ⟨1, 8, [.p (.v .nilFunc)], .sc, none⟩ := by
  refine TyOK.of (z := .nilFunc) (by kernel_rfl) rfl (by first | rfl | decide | (simp [Value.cells, zval, scal])) rfl ?_ ?_ ?_
  · exact scOf_spec (by kernel_rfl)
  · intro cs h; first | rfl | (simp at h)
  · intro ks h; simp at h

theorem Tryd.ty44 : TyOK Tryd.prog 44 ⟨1, 8, [.p (.v .nilFunc)], .sc, none⟩ := by
  refine TyOK.of (z := .nilFunc) (by kernel_rfl) rfl (by first | rfl | decide | (simp [Value.cells, zval, scal])) rfl ?_ ?_ ?_
  · exact scOf_spec (by kernel_rfl)
  · intro cs h; first | rfl | (simp at h)
  · intro ks h; simp at h

theorem Tryd.ty45 : TyOK Tryd.prog 45 ⟨1, 8, [.p (.v (.int .u64 0))], .int .u64, none⟩ := by
  refine TyOK.of (z := .int .u64 0) (by kernel_rfl) rfl (by first | rfl | decide | (simp [Value.cells, zval, scal])) rfl ?_ ?_ ?_
  · show Tryd.prog.underlying 45 = _; kernel_rfl
  · intro cs h; first | rfl | (simp at h)
  · intro ks h; simp at h

theorem Tryd.ty47 : TyOK Tryd.prog 47 ⟨1, 8, [.p (.v .nilFunc)], .sc, none⟩ := by
  refine TyOK.of (z := .nilFunc) (by kernel_rfl) rfl (by first | rfl | decide | (simp [Value.cells, zval, scal])) rfl ?_ ?_ ?_
  · exact scOf_spec (by kernel_rfl)
  · intro cs h; first | rfl | (simp at h)
  · intro ks h; simp at h

theorem Tryd.ty51 : TyOK Tryd.prog 51 ⟨1, 8, [.p (.v .nilFunc)], .sc, none⟩ := by
  refine TyOK.of (z := .nilFunc) (by kernel_rfl) rfl (by first | rfl | decide | (simp [Value.cells, zval, scal])) rfl ?_ ?_ ?_
  · exact scOf_spec (by kernel_rfl)
  · intro cs h; first | rfl | (simp at h)
  · intro ks h; simp at h

theorem Tryd.ty55 : TyOK Tryd.prog 55 ⟨1, 8, [.p (.v .nilFunc)], .sc, none⟩ := by
  refine TyOK.of (z := .nilFunc) (by kernel_rfl) rfl (by first | rfl | decide | (simp [Value.cells, zval, scal])) rfl ?_ ?_ ?_
  · exact scOf_spec (by kernel_rfl)
  · intro cs h; first | rfl | (simp at h)
  · intro ks h; simp at h

theorem Tryd.ty56 : TyOK Tryd.prog 56 ⟨1, 8, [.p (.v .nilFunc)], .sc, none⟩ := by
  refine TyOK.of (z := .nilFunc) (by kernel_rfl) rfl (by first | rfl | decide | (simp [Value.cells, zval, scal])) rfl ?_ ?_ ?_
  · exact scOf_spec (by kernel_rfl)
  · intro cs h; first | rfl | (simp at h)
  · intro ks h; simp at h

theorem Tryd.ty57 : TyOK Tryd.prog 57 ⟨1, 8, [.p (.v .nilFunc)], .sc, none⟩ := by
  refine TyOK.of (z := .nilFunc) (by kernel_rfl) rfl (by first | rfl | decide | (simp [Value.cells, zval, scal])) rfl ?_ ?_ ?_
  · exact scOf_spec (by kernel_rfl)
  · intro cs h; first | rfl | (simp at h)
  · intro ks h; simp at h

theorem Tryd.ty58 : TyOK Tryd.prog 58 ⟨1, 4, [.p (.v (.int .u32 0))], .int .u32, none⟩ := by
  refine TyOK.of (z := .int .u32 0) (by kernel_rfl) rfl (by first | rfl | decide | (simp [Value.cells, zval, scal])) rfl ?_ ?_ ?_
  · show Tryd.prog.underlying 58 = _; kernel_rfl
  · intro cs h; first | rfl | (simp at h)
  · intro ks h; simp at h

theorem Tryd.ty60 : TyOK Tryd.prog 60 ⟨1, 8, [.p (.v .nilFunc)], .sc, none⟩ := by
  refine TyOK.of (z := .nilFunc) (by kernel_rfl) rfl (by first | rfl | decide | (simp [Value.cells, zval, scal])) rfl ?_ ?_ ?_
  · exact scOf_spec (by kernel_rfl)
  · intro cs h; first | rfl | (simp at h)
  · intro ks h; simp at h

theorem Tryd.ty61 : TyOK Tryd.prog 61 ⟨1, 8, [.p (.v .nilFunc)], .sc, none⟩ := by
  refine TyOK.of (z := .nilFunc) (by kernel_rfl) rfl (by first | rfl | decide | (simp [Value.cells, zval, scal])) rfl ?_ ?_ ?_
  · exact scOf_spec (by kernel_rfl)
  · intro cs h; first | rfl | (simp at h)
  · intro ks h; simp at h

theorem Tryd.ty62 : TyOK Tryd.prog 62 ⟨1, 8, [.p (.v .nilFunc)], .sc, none⟩ := by
  refine TyOK.of (z := .nilFunc) (by kernel_rfl) rfl (by first | rfl | decide | (simp [Value.cells, zval, scal])) rfl ?_ ?_ ?_
  · exact scOf_spec (by kernel_rfl)
  · intro cs h; first | rfl | (simp at h)
  · intro ks h; simp at h

theorem Tryd.ty63 : TyOK Tryd.prog 63 ⟨1, 8, [.p (.v (.int .u64 0))], .int .u64, none⟩ := by
  refine TyOK.of (z := .int .u64 0) (by kernel_rfl) rfl (by first | rfl | decide | (simp [Value.cells, zval, scal])) rfl ?_ ?_ ?_
  · show Tryd.prog.underlying 63 = _; kernel_rfl
  · intro cs h; first | rfl | (simp at h)
  · intro ks h; simp at h

theorem Tryd.ty65 : TyOK Tryd.prog 65 ⟨1, 8, [.p (.v .nilFunc)], .sc, none⟩ := by
  refine TyOK.of (z := .nilFunc) (by kernel_rfl) rfl (by first | rfl | decide | (simp [Value.cells, zval, scal])) rfl ?_ ?_ ?_
  · exact scOf_spec (by kernel_rfl)
  · intro cs h; first | rfl | (simp at h)
  · intro ks h; simp at h

theorem Tryd.ty67 : TyOK Tryd.prog 67 ⟨1, 8, [.p (.v .nilFunc)], .sc, none⟩ := by
  refine TyOK.of (z := .nilFunc) (by kernel_rfl) rfl (by first | rfl | decide | (simp [Value.cells, zval, scal])) rfl ?_ ?_ ?_
  · exact scOf_spec (by kernel_rfl)
  · intro cs h; first | rfl | (simp at h)
  · intro ks h; simp at h

theorem Tryd.ty68 : TyOK Tryd.prog 68 ⟨24, 24, [.p (.v (.int .u8 0)), .p (.v (.int .u8 0)), .p (.v (.int .u8 0)), .p (.v (.int .u8 0)), .p (.v (.int .u8 0)), .p (.v (.int .u8 0)), .p (.v (.int .u8 0)), .p (.v (.int .u8 0)), .p (.v (.int .u8 0)), .p (.v (.int .u8 0)), .p (.v (.int .u8 0)), .p (.v (.int .u8 0)), .p (.v (.int .u8 0)), .p (.v (.int .u8 0)), .p (.v (.int .u8 0)), .p (.v (.int .u8 0)), .p (.v (.int .u8 0)), .p (.v (.int .u8 0)), .p (.v (.int .u8 0)), .p (.v (.int .u8 0)), .p (.v (.int .u8 0)), .p (.v (.int .u8 0)), .p (.v (.int .u8 0)), .p (.v (.int .u8 0))], .array 24 5, none⟩ := by
  refine TyOK.of (z := .agg #[.int .u8 0, .int .u8 0, .int .u8 0, .int .u8 0, .int .u8 0, .int .u8 0, .int .u8 0, .int .u8 0, .int .u8 0, .int .u8 0, .int .u8 0, .int .u8 0, .int .u8 0, .int .u8 0, .int .u8 0, .int .u8 0, .int .u8 0, .int .u8 0, .int .u8 0, .int .u8 0, .int .u8 0, .int .u8 0, .int .u8 0, .int .u8 0]) (by kernel_rfl) rfl (by first | rfl | decide | (simp [Value.cells, zval, scal])) rfl ?_ ?_ ?_
  · show Tryd.prog.underlying 68 = _; kernel_rfl
  · intro cs h; first | rfl | (simp at h)
  · intro ks h; simp at h

theorem Tryd.ty69 : TyOK Tryd.prog 69 ⟨1, 8, [.p (.v .nilFunc)], .sc, none⟩ := by
  refine TyOK.of (z := .nilFunc) (by kernel_rfl) rfl (by first | rfl | decide | (simp [Value.cells, zval, scal])) rfl ?_ ?_ ?_
  · exact scOf_spec (by kernel_rfl)
  · intro cs h; first | rfl | (simp at h)
  · intro ks h; simp at h

theorem Tryd.ty70 : TyOK Tryd.prog 70 ⟨1, 8, [.p (.v .nilFunc)], .sc, none⟩ := by
  refine TyOK.of (z := .nilFunc) (by kernel_rfl) rfl (by first | rfl | decide | (simp [Value.cells, zval, scal])) rfl ?_ ?_ ?_
  · exact scOf_spec (by kernel_rfl)
  · intro cs h; first | rfl | (simp at h)
  · intro ks h; simp at h

theorem Tryd.ty72 : TyOK Tryd.prog 72 ⟨1, 8, [.p (.v .nilFunc)], .sc, none⟩ := by
  refine TyOK.of (z := .nilFunc) (by kernel_rfl) rfl (by first | rfl | decide | (simp [Value.cells, zval, scal])) rfl ?_ ?_ ?_
  · exact scOf_spec (by kernel_rfl)
  · intro cs h; first | rfl | (simp at h)
  · intro ks h; simp at h

theorem Tryd.ty74 : TyOK Tryd.prog 74 ⟨1, 8, [.p (.v .nilFunc)], .sc, none⟩ := by
  refine TyOK.of (z := .nilFunc) (by kernel_rfl) rfl (by first | rfl | decide | (simp [Value.cells, zval, scal])) rfl ?_ ?_ ?_
  · exact scOf_spec (by kernel_rfl)
  · intro cs h; first | rfl | (simp at h)
  · intro ks h; simp at h

theorem Tryd.ty75 : TyOK Tryd.prog 75 ⟨1, 8, [.p (.v .nilFunc)], .sc, none⟩ := by
  refine TyOK.of (z := .nilFunc) (by kernel_rfl) rfl (by first | rfl | decide | (simp [Value.cells, zval, scal])) rfl ?_ ?_ ?_
  · exact scOf_spec (by kernel_rfl)
  · intro cs h; first | rfl | (simp at h)
  · intro ks h; simp at h

theorem Tryd.ty76 : TyOK Tryd.prog 76 ⟨1, 8, [.p (.v .nilFunc)], .sc, none⟩ := by
  refine TyOK.of (z := .nilFunc) (by kernel_rfl) rfl (by first | rfl | decide | (simp [Value.cells, zval, scal])) rfl ?_ ?_ ?_
  · exact scOf_spec (by kernel_rfl)
  · intro cs h; first | rfl | (simp at h)
  · intro ks h; simp at h

theorem Tryd.ty77 : TyOK Tryd.prog 77 ⟨20, 160, [.p (.v (.int .u64 0)), .p (.v (.int .u64 0)), .p (.v (.int .u64 0)), .p (.v (.int .u64 0)), .p (.v (.int .u64 0)), .p (.v (.int .u64 0)), .p (.v (.int .u64 0)), .p (.v (.int .u64 0)), .p (.v (.int .u64 0)), .p (.v (.int .u64 0)), .p (.v (.int .u64 0)), .p (.v (.int .u64 0)), .p (.v (.int .u64 0)), .p (.v (.int .u64 0)), .p (.v (.int .u64 0)), .p (.v (.int .u64 0)), .p (.v (.int .u64 0)), .p (.v (.int .u64 0)), .p (.v (.int .u64 0)), .p (.v (.int .u64 0))], .array 20 63, none⟩ := by
  refine TyOK.of (z := .agg #[.int .u64 0, .int .u64 0, .int .u64 0, .int .u64 0, .int .u64 0, .int .u64 0, .int .u64 0, .int .u64 0, .int .u64 0, .int .u64 0, .int .u64 0, .int .u64 0, .int .u64 0, .int .u64 0, .int .u64 0, .int .u64 0, .int .u64 0, .int .u64 0, .int .u64 0, .int .u64 0]) (by kernel_rfl) rfl (by first | rfl | decide | (simp [Value.cells, zval, scal])) rfl ?_ ?_ ?_
  · show Tryd.prog.underlying 77 = _; kernel_rfl
  · intro cs h; first | rfl | (simp at h)
  · intro ks h; simp at h

theorem Tryd.ty79 : TyOK Tryd.prog 79 ⟨1, 8, [.p (.v .nilFunc)], .sc, none⟩ := by
  refine TyOK.of (z := .nilFunc) (by kernel_rfl) rfl (by first | rfl | decide | (simp [Value.cells, zval, scal])) rfl ?_ ?_ ?_
  · exact scOf_spec (by kernel_rfl)
  · intro cs h; first | rfl | (simp at h)
  · intro ks h; simp at h

theorem Tryd.ty80 : TyOK Tryd.prog 80 ⟨1, 8, [.p (.v .nilFunc)], .sc, none⟩ := by
  refine TyOK.of (z := .nilFunc) (by kernel_rfl) rfl (by first | rfl | decide | (simp [Value.cells, zval, scal])) rfl ?_ ?_ ?_
  · exact scOf_spec (by kernel_rfl)
  · intro cs h; first | rfl | (simp at h)
  · intro ks h; simp at h

theorem Tryd.ty81 : TyOK Tryd.prog 81 ⟨1, 8, [.p (.v .nilFunc)], .sc, none⟩ := by
  refine TyOK.of (z := .nilFunc) (by kernel_rfl) rfl (by first | rfl | decide | (simp [Value.cells, zval, scal])) rfl ?_ ?_ ?_
  · exact scOf_spec (by kernel_rfl)
  · intro cs h; first | rfl | (simp at h)
  · intro ks h; simp at h

theorem Tryd.ty82 : TyOK Tryd.prog 82 ⟨32, 32, [.p (.v (.int .u8 0)), .p (.v (.int .u8 0)), .p (.v (.int .u8 0)), .p (.v (.int .u8 0)), .p (.v (.int .u8 0)), .p (.v (.int .u8 0)), .p (.v (.int .u8 0)), .p (.v (.int .u8 0)), .p (.v (.int .u8 0)), .p (.v (.int .u8 0)), .p (.v (.int .u8 0)), .p (.v (.int .u8 0)), .p (.v (.int .u8 0)), .p (.v (.int .u8 0)), .p (.v (.int .u8 0)), .p (.v (.int .u8 0)), .p (.v (.int .u8 0)), .p (.v (.int .u8 0)), .p (.v (.int .u8 0)), .p (.v (.int .u8 0)), .p (.v (.int .u8 0)), .p (.v (.int .u8 0)), .p (.v (.int .u8 0)), .p (.v (.int .u8 0)), .p (.v (.int .u8 0)), .p (.v (.int .u8 0)), .p (.v (.int .u8 0)), .p (.v (.int .u8 0)), .p (.v (.int .u8 0)), .p (.v (.int .u8 0)), .p (.v (.int .u8 0)), .p (.v (.int .u8 0))], .array 32 5, none⟩ := by
  refine TyOK.of (z := .agg #[.int .u8 0, .int .u8 0, .int .u8 0, .int .u8 0, .int .u8 0, .int .u8 0, .int .u8 0, .int .u8 0, .int .u8 0, .int .u8 0, .int .u8 0, .int .u8 0, .int .u8 0, .int .u8 0, .int .u8 0, .int .u8 0, .int .u8 0, .int .u8 0, .int .u8 0, .int .u8 0, .int .u8 0, .int .u8 0, .int .u8 0, .int .u8 0, .int .u8 0, .int .u8 0, .int .u8 0, .int .u8 0, .int .u8 0, .int .u8 0, .int .u8 0, .int .u8 0]) (by kernel_rfl) rfl (by first | rfl | decide | (simp [Value.cells, zval, scal])) rfl ?_ ?_ ?_
  · show Tryd.prog.underlying 82 = _; kernel_rfl
  · intro cs h; first | rfl | (simp at h)
  · intro ks h; simp at h

theorem Tryd.ty83 : TyOK Tryd.prog 83 ⟨64, 64, [.p (.v (.int .u8 0)), .p (.v (.int .u8 0)), .p (.v (.int .u8 0)), .p (.v (.int .u8 0)), .p (.v (.int .u8 0)), .p (.v (.int .u8 0)), .p (.v (.int .u8 0)), .p (.v (.int .u8 0)), .p (.v (.int .u8 0)), .p (.v (.int .u8 0)), .p (.v (.int .u8 0)), .p (.v (.int .u8 0)), .p (.v (.int .u8 0)), .p (.v (.int .u8 0)), .p (.v (.int .u8 0)), .p (.v (.int .u8 0)), .p (.v (.int .u8 0)), .p (.v (.int .u8 0)), .p (.v (.int .u8 0)), .p (.v (.int .u8 0)), .p (.v (.int .u8 0)), .p (.v (.int .u8 0)), .p (.v (.int .u8 0)), .p (.v (.int .u8 0)), .p (.v (.int .u8 0)), .p (.v (.int .u8 0)), .p (.v (.int .u8 0)), .p (.v (.int .u8 0)), .p (.v (.int .u8 0)), .p (.v (.int .u8 0)), .p (.v (.int .u8 0)), .p (.v (.int .u8 0)), .p (.v (.int .u8 0)), .p (.v (.int .u8 0)), .p (.v (.int .u8 0)), .p (.v (.int .u8 0)), .p (.v (.int .u8 0)), .p (.v (.int .u8 0)), .p (.v (.int .u8 0)), .p (.v (.int .u8 0)), .p (.v (.int .u8 0)), .p (.v (.int .u8 0)), .p (.v (.int .u8 0)), .p (.v (.int .u8 0)), .p (.v (.int .u8 0)), .p (.v (.int .u8 0)), .p (.v (.int .u8 0)), .p (.v (.int .u8 0)), .p (.v (.int .u8 0)), .p (.v (.int .u8 0)), .p (.v (.int .u8 0)), .p (.v (.int .u8 0)), .p (.v (.int .u8 0)), .p (.v (.int .u8 0)), .p (.v (.int .u8 0)), .p (.v (.int .u8 0)), .p (.v (.int .u8 0)), .p (.v (.int .u8 0)), .p (.v (.int .u8 0)), .p (.v (.int .u8 0)), .p (.v (.int .u8 0)), .p (.v (.int .u8 0)), .p (.v (.int .u8 0)), .p (.v (.int .u8 0))], .array 64 5, none⟩ := by
  refine TyOK.of (z := .agg #[.int .u8 0, .int .u8 0, .int .u8 0, .int .u8 0, .int .u8 0, .int .u8 0, .int .u8 0, .int .u8 0, .int .u8 0, .int .u8 0, .int .u8 0, .int .u8 0, .int .u8 0, .int .u8 0, .int .u8 0, .int .u8 0, .int .u8 0, .int .u8 0, .int .u8 0, .int .u8 0, .int .u8 0, .int .u8 0, .int .u8 0, .int .u8 0, .int .u8 0, .int .u8 0, .int .u8 0, .int .u8 0, .int .u8 0, .int .u8 0, .int .u8 0, .int .u8 0, .int .u8 0, .int .u8 0, .int .u8 0, .int .u8 0, .int .u8 0, .int .u8 0, .int .u8 0, .int .u8 0, .int .u8 0, .int .u8 0, .int .u8 0, .int .u8 0, .int .u8 0, .int .u8 0, .int .u8 0, .int .u8 0, .int .u8 0, .int .u8 0, .int .u8 0, .int .u8 0, .int .u8 0, .int .u8 0, .int .u8 0, .int .u8 0, .int .u8 0, .int .u8 0, .int .u8 0, .int .u8 0, .int .u8 0, .int .u8 0, .int .u8 0, .int .u8 0]) (by kernel_rfl) rfl (by first | rfl | decide | (simp [Value.cells, zval, scal])) rfl ?_ ?_ ?_
  · show Tryd.prog.underlying 83 = _; kernel_rfl
  · intro cs h; first | rfl | (simp at h)
  · intro ks h; simp at h

theorem Tryd.ty91 : TyOK Tryd.prog 91 ⟨1, 8, [.p (.v .nilFunc)], .sc, none⟩ := by
  refine TyOK.of (z := .nilFunc) (by kernel_rfl) rfl (by first | rfl | decide | (simp [Value.cells, zval, scal])) rfl ?_ ?_ ?_
  · exact scOf_spec (by kernel_rfl)
  · intro cs h; first | rfl | (simp at h)
  · intro ks h; simp at h

def Tryd.T : TypeId → Option Ty
  | 1 => some ⟨1, 8, [.p (.v .nilFunc)], .sc, none⟩
  | 2 => some ⟨1, 8, [.p (.v (.int .i64 0))], .int .i64, none⟩
  | 3 => some ⟨1, 8, [.p (.v (.int .i64 0))], .int .i64, none⟩
  | 4 => some ⟨1, 1, [.p (.v (.bool false))], .bool, none⟩
  | 5 => some ⟨1, 1, [.p (.v (.int .u8 0))], .int .u8, none⟩
  | 9 => some ⟨1, 16, [.p (.v (.string ByteArray.empty))], .str, none⟩
  | 12 => some ⟨1, 8, [.p (.v (.int .u64 0))], .int .u64, none⟩
  | 21 => some ⟨1, 4, [.p (.v (.int .i32 0))], .int .i32, none⟩
  | 22 => some ⟨1, 8, [.p (.v .nilFunc)], .sc, none⟩
  | 23 => some ⟨1, 8, [.p (.v .nilFunc)], .sc, none⟩
  | 25 => some ⟨1, 8, [.p (.v .nilFunc)], .sc, none⟩
  | 26 => some ⟨1, 8, [.p (.v (.int .i64 0))], .int .i64, none⟩
  | 27 => some ⟨1, 8, [.p (.v .nilFunc)], .sc, none⟩
  | 28 => some ⟨1, 8, [.p (.v .nilFunc)], .sc, none⟩
  | 29 => some ⟨1, 8, [.p (.v .nilFunc)], .sc, none⟩
  | 30 => some ⟨1, 8, [.p (.v .nilFunc)], .sc, none⟩
  | 32 => some ⟨1, 8, [.p (.v .nilFunc)], .sc, none⟩
  | 33 => some ⟨1, 8, [.p (.v .nilFunc)], .sc, none⟩
  | 34 => some ⟨1, 8, [.p (.v .nilFunc)], .sc, none⟩
  | 35 => some ⟨1, 8, [.p (.v .nilFunc)], .sc, none⟩
  | 36 => some ⟨1, 8, [.p (.v .nilFunc)], .sc, none⟩
  | 37 => some ⟨1, 8, [.p (.v .nilFunc)], .sc, none⟩
  | 38 => some ⟨1, 24, [.nil 1], .slice 9, none⟩
  | 39 => some ⟨1, 8, [.p (.v .nilFunc)], .sc, none⟩
  | 40 => some ⟨1, 8, [.p (.v .nilFunc)], .sc, none⟩
  | 41 => some ⟨1, 8, [.p (.v .nilFunc)], .sc, none⟩
  | 42 => some ⟨1, 24, [.nil 1], .slice 5, none⟩
  | 43 => some ⟨1, 8, [.p (.v .nilFunc)], .sc, none⟩
  | 44 => some ⟨1, 8, [.p (.v .nilFunc)], .sc, none⟩
  | 45 => some ⟨1, 8, [.p (.v (.int .u64 0))], .int .u64, none⟩
  | 47 => some ⟨1, 8, [.p (.v .nilFunc)], .sc, none⟩
  | 51 => some ⟨1, 8, [.p (.v .nilFunc)], .sc, none⟩
  | 55 => some ⟨1, 8, [.p (.v .nilFunc)], .sc, none⟩
  | 56 => some ⟨1, 8, [.p (.v .nilFunc)], .sc, none⟩
  | 57 => some ⟨1, 8, [.p (.v .nilFunc)], .sc, none⟩
  | 58 => some ⟨1, 4, [.p (.v (.int .u32 0))], .int .u32, none⟩
  | 60 => some ⟨1, 8, [.p (.v .nilFunc)], .sc, none⟩
  | 61 => some ⟨1, 8, [.p (.v .nilFunc)], .sc, none⟩
  | 62 => some ⟨1, 8, [.p (.v .nilFunc)], .sc, none⟩
  | 63 => some ⟨1, 8, [.p (.v (.int .u64 0))], .int .u64, none⟩
  | 65 => some ⟨1, 8, [.p (.v .nilFunc)], .sc, none⟩
  | 67 => some ⟨1, 8, [.p (.v .nilFunc)], .sc, none⟩
  | 68 => some ⟨24, 24, [.p (.v (.int .u8 0)), .p (.v (.int .u8 0)), .p (.v (.int .u8 0)), .p (.v (.int .u8 0)), .p (.v (.int .u8 0)), .p (.v (.int .u8 0)), .p (.v (.int .u8 0)), .p (.v (.int .u8 0)), .p (.v (.int .u8 0)), .p (.v (.int .u8 0)), .p (.v (.int .u8 0)), .p (.v (.int .u8 0)), .p (.v (.int .u8 0)), .p (.v (.int .u8 0)), .p (.v (.int .u8 0)), .p (.v (.int .u8 0)), .p (.v (.int .u8 0)), .p (.v (.int .u8 0)), .p (.v (.int .u8 0)), .p (.v (.int .u8 0)), .p (.v (.int .u8 0)), .p (.v (.int .u8 0)), .p (.v (.int .u8 0)), .p (.v (.int .u8 0))], .array 24 5, none⟩
  | 69 => some ⟨1, 8, [.p (.v .nilFunc)], .sc, none⟩
  | 70 => some ⟨1, 8, [.p (.v .nilFunc)], .sc, none⟩
  | 72 => some ⟨1, 8, [.p (.v .nilFunc)], .sc, none⟩
  | 74 => some ⟨1, 8, [.p (.v .nilFunc)], .sc, none⟩
  | 75 => some ⟨1, 8, [.p (.v .nilFunc)], .sc, none⟩
  | 76 => some ⟨1, 8, [.p (.v .nilFunc)], .sc, none⟩
  | 77 => some ⟨20, 160, [.p (.v (.int .u64 0)), .p (.v (.int .u64 0)), .p (.v (.int .u64 0)), .p (.v (.int .u64 0)), .p (.v (.int .u64 0)), .p (.v (.int .u64 0)), .p (.v (.int .u64 0)), .p (.v (.int .u64 0)), .p (.v (.int .u64 0)), .p (.v (.int .u64 0)), .p (.v (.int .u64 0)), .p (.v (.int .u64 0)), .p (.v (.int .u64 0)), .p (.v (.int .u64 0)), .p (.v (.int .u64 0)), .p (.v (.int .u64 0)), .p (.v (.int .u64 0)), .p (.v (.int .u64 0)), .p (.v (.int .u64 0)), .p (.v (.int .u64 0))], .array 20 63, none⟩
  | 79 => some ⟨1, 8, [.p (.v .nilFunc)], .sc, none⟩
  | 80 => some ⟨1, 8, [.p (.v .nilFunc)], .sc, none⟩
  | 81 => some ⟨1, 8, [.p (.v .nilFunc)], .sc, none⟩
  | 82 => some ⟨32, 32, [.p (.v (.int .u8 0)), .p (.v (.int .u8 0)), .p (.v (.int .u8 0)), .p (.v (.int .u8 0)), .p (.v (.int .u8 0)), .p (.v (.int .u8 0)), .p (.v (.int .u8 0)), .p (.v (.int .u8 0)), .p (.v (.int .u8 0)), .p (.v (.int .u8 0)), .p (.v (.int .u8 0)), .p (.v (.int .u8 0)), .p (.v (.int .u8 0)), .p (.v (.int .u8 0)), .p (.v (.int .u8 0)), .p (.v (.int .u8 0)), .p (.v (.int .u8 0)), .p (.v (.int .u8 0)), .p (.v (.int .u8 0)), .p (.v (.int .u8 0)), .p (.v (.int .u8 0)), .p (.v (.int .u8 0)), .p (.v (.int .u8 0)), .p (.v (.int .u8 0)), .p (.v (.int .u8 0)), .p (.v (.int .u8 0)), .p (.v (.int .u8 0)), .p (.v (.int .u8 0)), .p (.v (.int .u8 0)), .p (.v (.int .u8 0)), .p (.v (.int .u8 0)), .p (.v (.int .u8 0))], .array 32 5, none⟩
  | 83 => some ⟨64, 64, [.p (.v (.int .u8 0)), .p (.v (.int .u8 0)), .p (.v (.int .u8 0)), .p (.v (.int .u8 0)), .p (.v (.int .u8 0)), .p (.v (.int .u8 0)), .p (.v (.int .u8 0)), .p (.v (.int .u8 0)), .p (.v (.int .u8 0)), .p (.v (.int .u8 0)), .p (.v (.int .u8 0)), .p (.v (.int .u8 0)), .p (.v (.int .u8 0)), .p (.v (.int .u8 0)), .p (.v (.int .u8 0)), .p (.v (.int .u8 0)), .p (.v (.int .u8 0)), .p (.v (.int .u8 0)), .p (.v (.int .u8 0)), .p (.v (.int .u8 0)), .p (.v (.int .u8 0)), .p (.v (.int .u8 0)), .p (.v (.int .u8 0)), .p (.v (.int .u8 0)), .p (.v (.int .u8 0)), .p (.v (.int .u8 0)), .p (.v (.int .u8 0)), .p (.v (.int .u8 0)), .p (.v (.int .u8 0)), .p (.v (.int .u8 0)), .p (.v (.int .u8 0)), .p (.v (.int .u8 0)), .p (.v (.int .u8 0)), .p (.v (.int .u8 0)), .p (.v (.int .u8 0)), .p (.v (.int .u8 0)), .p (.v (.int .u8 0)), .p (.v (.int .u8 0)), .p (.v (.int .u8 0)), .p (.v (.int .u8 0)), .p (.v (.int .u8 0)), .p (.v (.int .u8 0)), .p (.v (.int .u8 0)), .p (.v (.int .u8 0)), .p (.v (.int .u8 0)), .p (.v (.int .u8 0)), .p (.v (.int .u8 0)), .p (.v (.int .u8 0)), .p (.v (.int .u8 0)), .p (.v (.int .u8 0)), .p (.v (.int .u8 0)), .p (.v (.int .u8 0)), .p (.v (.int .u8 0)), .p (.v (.int .u8 0)), .p (.v (.int .u8 0)), .p (.v (.int .u8 0)), .p (.v (.int .u8 0)), .p (.v (.int .u8 0)), .p (.v (.int .u8 0)), .p (.v (.int .u8 0)), .p (.v (.int .u8 0)), .p (.v (.int .u8 0)), .p (.v (.int .u8 0)), .p (.v (.int .u8 0))], .array 64 5, none⟩
  | 91 => some ⟨1, 8, [.p (.v .nilFunc)], .sc, none⟩
  | _ => none

theorem Tryd.T1 : Tryd.T 1 = some ⟨1, 8, [.p (.v .nilFunc)], .sc, none⟩ := rfl
theorem Tryd.T2 : Tryd.T 2 = some ⟨1, 8, [.p (.v (.int .i64 0))], .int .i64, none⟩ := rfl
theorem Tryd.T3 : Tryd.T 3 = some ⟨1, 8, [.p (.v (.int .i64 0))], .int .i64, none⟩ := rfl
theorem Tryd.T4 : Tryd.T 4 = some ⟨1, 1, [.p (.v (.bool false))], .bool, none⟩ := rfl
theorem Tryd.T5 : Tryd.T 5 = some ⟨1, 1, [.p (.v (.int .u8 0))], .int .u8, none⟩ := rfl
theorem Tryd.T9 : Tryd.T 9 = some ⟨1, 16, [.p (.v (.string ByteArray.empty))], .str, none⟩ := rfl
theorem Tryd.T12 : Tryd.T 12 = some ⟨1, 8, [.p (.v (.int .u64 0))], .int .u64, none⟩ := rfl
theorem Tryd.T21 : Tryd.T 21 = some ⟨1, 4, [.p (.v (.int .i32 0))], .int .i32, none⟩ := rfl
theorem Tryd.T22 : Tryd.T 22 = some ⟨1, 8, [.p (.v .nilFunc)], .sc, none⟩ := rfl
theorem Tryd.T23 : Tryd.T 23 = some ⟨1, 8, [.p (.v .nilFunc)], .sc, none⟩ := rfl
theorem Tryd.T25 : Tryd.T 25 = some ⟨1, 8, [.p (.v .nilFunc)], .sc, none⟩ := rfl
theorem Tryd.T26 : Tryd.T 26 = some ⟨1, 8, [.p (.v (.int .i64 0))], .int .i64, none⟩ := rfl
theorem Tryd.T27 : Tryd.T 27 = some ⟨1, 8, [.p (.v .nilFunc)], .sc, none⟩ := rfl
theorem Tryd.T28 : Tryd.T 28 = some ⟨1, 8, [.p (.v .nilFunc)], .sc, none⟩ := rfl
theorem Tryd.T29 : Tryd.T 29 = some ⟨1, 8, [.p (.v .nilFunc)], .sc, none⟩ := rfl
theorem Tryd.T30 : Tryd.T 30 = some ⟨1, 8, [.p (.v .nilFunc)], .sc, none⟩ := rfl
theorem Tryd.T32 : Tryd.T 32 = some ⟨1, 8, [.p (.v .nilFunc)], .sc, none⟩ := rfl
theorem Tryd.T33 : Tryd.T 33 = some ⟨1, 8, [.p (.v .nilFunc)], .sc, none⟩ := rfl
theorem Tryd.T34 : Tryd.T 34 = some ⟨1, 8, [.p (.v .nilFunc)], .sc, none⟩ := rfl
theorem Tryd.T35 : Tryd.T 35 = some ⟨1, 8, [.p (.v .nilFunc)], .sc, none⟩ := rfl
theorem Tryd.T36 : Tryd.T 36 = some ⟨1, 8, [.p (.v .nilFunc)], .sc, none⟩ := rfl
theorem Tryd.T37 : Tryd.T 37 = some ⟨1, 8, [.p (.v .nilFunc)], .sc, none⟩ := rfl
theorem Tryd.T38 : Tryd.T 38 = some ⟨1, 24, [.nil 1], .slice 9, none⟩ := rfl
theorem Tryd.T39 : Tryd.T 39 = some ⟨1, 8, [.p (.v .nilFunc)], .sc, none⟩ := rfl
theorem Tryd.T40 : Tryd.T 40 = some ⟨1, 8, [.p (.v .nilFunc)], .sc, none⟩ := rfl
theorem Tryd.T41 : Tryd.T 41 = some ⟨1, 8, [.p (.v .nilFunc)], .sc, none⟩ := rfl
theorem Tryd.T42 : Tryd.T 42 = some ⟨1, 24, [.nil 1], .slice 5, none⟩ := rfl
theorem Tryd.T43 : Tryd.T 43 = some ⟨1, 8, [.p (.v .nilFunc)], .sc, none⟩ := rfl
theorem Tryd.T44 : Tryd.T 44 = some ⟨1, 8, [.p (.v .nilFunc)], .sc, none⟩ := rfl
theorem Tryd.T45 : Tryd.T 45 = some ⟨1, 8, [.p (.v (.int .u64 0))], .int .u64, none⟩ := rfl
theorem Tryd.T47 : Tryd.T 47 = some ⟨1, 8, [.p (.v .nilFunc)], .sc, none⟩ := rfl
theorem Tryd.T51 : Tryd.T 51 = some ⟨1, 8, [.p (.v .nilFunc)], .sc, none⟩ := rfl
theorem Tryd.T55 : Tryd.T 55 = some ⟨1, 8, [.p (.v .nilFunc)], .sc, none⟩ := rfl
theorem Tryd.T56 : Tryd.T 56 = some ⟨1, 8, [.p (.v .nilFunc)], .sc, none⟩ := rfl
theorem Tryd.T57 : Tryd.T 57 = some ⟨1, 8, [.p (.v .nilFunc)], .sc, none⟩ := rfl
theorem Tryd.T58 : Tryd.T 58 = some ⟨1, 4, [.p (.v (.int .u32 0))], .int .u32, none⟩ := rfl
theorem Tryd.T60 : Tryd.T 60 = some ⟨1, 8, [.p (.v .nilFunc)], .sc, none⟩ := rfl
theorem Tryd.T61 : Tryd.T 61 = some ⟨1, 8, [.p (.v .nilFunc)], .sc, none⟩ := rfl
theorem Tryd.T62 : Tryd.T 62 = some ⟨1, 8, [.p (.v .nilFunc)], .sc, none⟩ := rfl
theorem Tryd.T63 : Tryd.T 63 = some ⟨1, 8, [.p (.v (.int .u64 0))], .int .u64, none⟩ := rfl
theorem Tryd.T65 : Tryd.T 65 = some ⟨1, 8, [.p (.v .nilFunc)], .sc, none⟩ := rfl
theorem Tryd.T67 : Tryd.T 67 = some ⟨1, 8, [.p (.v .nilFunc)], .sc, none⟩ := rfl
theorem Tryd.T68 : Tryd.T 68 = some ⟨24, 24, [.p (.v (.int .u8 0)), .p (.v (.int .u8 0)), .p (.v (.int .u8 0)), .p (.v (.int .u8 0)), .p (.v (.int .u8 0)), .p (.v (.int .u8 0)), .p (.v (.int .u8 0)), .p (.v (.int .u8 0)), .p (.v (.int .u8 0)), .p (.v (.int .u8 0)), .p (.v (.int .u8 0)), .p (.v (.int .u8 0)), .p (.v (.int .u8 0)), .p (.v (.int .u8 0)), .p (.v (.int .u8 0)), .p (.v (.int .u8 0)), .p (.v (.int .u8 0)), .p (.v (.int .u8 0)), .p (.v (.int .u8 0)), .p (.v (.int .u8 0)), .p (.v (.int .u8 0)), .p (.v (.int .u8 0)), .p (.v (.int .u8 0)), .p (.v (.int .u8 0))], .array 24 5, none⟩ := rfl
theorem Tryd.T69 : Tryd.T 69 = some ⟨1, 8, [.p (.v .nilFunc)], .sc, none⟩ := rfl
theorem Tryd.T70 : Tryd.T 70 = some ⟨1, 8, [.p (.v .nilFunc)], .sc, none⟩ := rfl
theorem Tryd.T72 : Tryd.T 72 = some ⟨1, 8, [.p (.v .nilFunc)], .sc, none⟩ := rfl
theorem Tryd.T74 : Tryd.T 74 = some ⟨1, 8, [.p (.v .nilFunc)], .sc, none⟩ := rfl
theorem Tryd.T75 : Tryd.T 75 = some ⟨1, 8, [.p (.v .nilFunc)], .sc, none⟩ := rfl
theorem Tryd.T76 : Tryd.T 76 = some ⟨1, 8, [.p (.v .nilFunc)], .sc, none⟩ := rfl
theorem Tryd.T77 : Tryd.T 77 = some ⟨20, 160, [.p (.v (.int .u64 0)), .p (.v (.int .u64 0)), .p (.v (.int .u64 0)), .p (.v (.int .u64 0)), .p (.v (.int .u64 0)), .p (.v (.int .u64 0)), .p (.v (.int .u64 0)), .p (.v (.int .u64 0)), .p (.v (.int .u64 0)), .p (.v (.int .u64 0)), .p (.v (.int .u64 0)), .p (.v (.int .u64 0)), .p (.v (.int .u64 0)), .p (.v (.int .u64 0)), .p (.v (.int .u64 0)), .p (.v (.int .u64 0)), .p (.v (.int .u64 0)), .p (.v (.int .u64 0)), .p (.v (.int .u64 0)), .p (.v (.int .u64 0))], .array 20 63, none⟩ := rfl
theorem Tryd.T79 : Tryd.T 79 = some ⟨1, 8, [.p (.v .nilFunc)], .sc, none⟩ := rfl
theorem Tryd.T80 : Tryd.T 80 = some ⟨1, 8, [.p (.v .nilFunc)], .sc, none⟩ := rfl
theorem Tryd.T81 : Tryd.T 81 = some ⟨1, 8, [.p (.v .nilFunc)], .sc, none⟩ := rfl
theorem Tryd.T82 : Tryd.T 82 = some ⟨32, 32, [.p (.v (.int .u8 0)), .p (.v (.int .u8 0)), .p (.v (.int .u8 0)), .p (.v (.int .u8 0)), .p (.v (.int .u8 0)), .p (.v (.int .u8 0)), .p (.v (.int .u8 0)), .p (.v (.int .u8 0)), .p (.v (.int .u8 0)), .p (.v (.int .u8 0)), .p (.v (.int .u8 0)), .p (.v (.int .u8 0)), .p (.v (.int .u8 0)), .p (.v (.int .u8 0)), .p (.v (.int .u8 0)), .p (.v (.int .u8 0)), .p (.v (.int .u8 0)), .p (.v (.int .u8 0)), .p (.v (.int .u8 0)), .p (.v (.int .u8 0)), .p (.v (.int .u8 0)), .p (.v (.int .u8 0)), .p (.v (.int .u8 0)), .p (.v (.int .u8 0)), .p (.v (.int .u8 0)), .p (.v (.int .u8 0)), .p (.v (.int .u8 0)), .p (.v (.int .u8 0)), .p (.v (.int .u8 0)), .p (.v (.int .u8 0)), .p (.v (.int .u8 0)), .p (.v (.int .u8 0))], .array 32 5, none⟩ := rfl
theorem Tryd.T83 : Tryd.T 83 = some ⟨64, 64, [.p (.v (.int .u8 0)), .p (.v (.int .u8 0)), .p (.v (.int .u8 0)), .p (.v (.int .u8 0)), .p (.v (.int .u8 0)), .p (.v (.int .u8 0)), .p (.v (.int .u8 0)), .p (.v (.int .u8 0)), .p (.v (.int .u8 0)), .p (.v (.int .u8 0)), .p (.v (.int .u8 0)), .p (.v (.int .u8 0)), .p (.v (.int .u8 0)), .p (.v (.int .u8 0)), .p (.v (.int .u8 0)), .p (.v (.int .u8 0)), .p (.v (.int .u8 0)), .p (.v (.int .u8 0)), .p (.v (.int .u8 0)), .p (.v (.int .u8 0)), .p (.v (.int .u8 0)), .p (.v (.int .u8 0)), .p (.v (.int .u8 0)), .p (.v (.int .u8 0)), .p (.v (.int .u8 0)), .p (.v (.int .u8 0)), .p (.v (.int .u8 0)), .p (.v (.int .u8 0)), .p (.v (.int .u8 0)), .p (.v (.int .u8 0)), .p (.v (.int .u8 0)), .p (.v (.int .u8 0)), .p (.v (.int .u8 0)), .p (.v (.int .u8 0)), .p (.v (.int .u8 0)), .p (.v (.int .u8 0)), .p (.v (.int .u8 0)), .p (.v (.int .u8 0)), .p (.v (.int .u8 0)), .p (.v (.int .u8 0)), .p (.v (.int .u8 0)), .p (.v (.int .u8 0)), .p (.v (.int .u8 0)), .p (.v (.int .u8 0)), .p (.v (.int .u8 0)), .p (.v (.int .u8 0)), .p (.v (.int .u8 0)), .p (.v (.int .u8 0)), .p (.v (.int .u8 0)), .p (.v (.int .u8 0)), .p (.v (.int .u8 0)), .p (.v (.int .u8 0)), .p (.v (.int .u8 0)), .p (.v (.int .u8 0)), .p (.v (.int .u8 0)), .p (.v (.int .u8 0)), .p (.v (.int .u8 0)), .p (.v (.int .u8 0)), .p (.v (.int .u8 0)), .p (.v (.int .u8 0)), .p (.v (.int .u8 0)), .p (.v (.int .u8 0)), .p (.v (.int .u8 0)), .p (.v (.int .u8 0))], .array 64 5, none⟩ := rfl
theorem Tryd.T91 : Tryd.T 91 = some ⟨1, 8, [.p (.v .nilFunc)], .sc, none⟩ := rfl

set_option maxRecDepth 100000 in
set_option maxHeartbeats 4000000 in
theorem Tryd.tab : TabOK Tryd.prog Tryd.T := by
  intro t y h
  unfold Tryd.T at h
  split at h
  · simp only [Option.some.injEq] at h; subst h; exact Tryd.ty1
  · simp only [Option.some.injEq] at h; subst h; exact Tryd.ty2
  · simp only [Option.some.injEq] at h; subst h; exact Tryd.ty3
  · simp only [Option.some.injEq] at h; subst h; exact Tryd.ty4
  · simp only [Option.some.injEq] at h; subst h; exact Tryd.ty5
  · simp only [Option.some.injEq] at h; subst h; exact Tryd.ty9
  · simp only [Option.some.injEq] at h; subst h; exact Tryd.ty12
  · simp only [Option.some.injEq] at h; subst h; exact Tryd.ty21
  · simp only [Option.some.injEq] at h; subst h; exact Tryd.ty22
  · simp only [Option.some.injEq] at h; subst h; exact Tryd.ty23
  · simp only [Option.some.injEq] at h; subst h; exact Tryd.ty25
  · simp only [Option.some.injEq] at h; subst h; exact Tryd.ty26
  · simp only [Option.some.injEq] at h; subst h; exact Tryd.ty27
  · simp only [Option.some.injEq] at h; subst h; exact Tryd.ty28
  · simp only [Option.some.injEq] at h; subst h; exact Tryd.ty29
  · simp only [Option.some.injEq] at h; subst h; exact Tryd.ty30
  · simp only [Option.some.injEq] at h; subst h; exact Tryd.ty32
  · simp only [Option.some.injEq] at h; subst h; exact Tryd.ty33
  · simp only [Option.some.injEq] at h; subst h; exact Tryd.ty34
  · simp only [Option.some.injEq] at h; subst h; exact Tryd.ty35
  · simp only [Option.some.injEq] at h; subst h; exact Tryd.ty36
  · simp only [Option.some.injEq] at h; subst h; exact Tryd.ty37
  · simp only [Option.some.injEq] at h; subst h; exact Tryd.ty38
  · simp only [Option.some.injEq] at h; subst h; exact Tryd.ty39
  · simp only [Option.some.injEq] at h; subst h; exact Tryd.ty40
  · simp only [Option.some.injEq] at h; subst h; exact Tryd.ty41
  · simp only [Option.some.injEq] at h; subst h; exact Tryd.ty42
  · simp only [Option.some.injEq] at h; subst h; exact Tryd.ty43
  · simp only [Option.some.injEq] at h; subst h; exact Tryd.ty44
  · simp only [Option.some.injEq] at h; subst h; exact Tryd.ty45
  · simp only [Option.some.injEq] at h; subst h; exact Tryd.ty47
  · simp only [Option.some.injEq] at h; subst h; exact Tryd.ty51
  · simp only [Option.some.injEq] at h; subst h; exact Tryd.ty55
  · simp only [Option.some.injEq] at h; subst h; exact Tryd.ty56
  · simp only [Option.some.injEq] at h; subst h; exact Tryd.ty57
  · simp only [Option.some.injEq] at h; subst h; exact Tryd.ty58
  · simp only [Option.some.injEq] at h; subst h; exact Tryd.ty60
  · simp only [Option.some.injEq] at h; subst h; exact Tryd.ty61
  · simp only [Option.some.injEq] at h; subst h; exact Tryd.ty62
  · simp only [Option.some.injEq] at h; subst h; exact Tryd.ty63
  · simp only [Option.some.injEq] at h; subst h; exact Tryd.ty65
  · simp only [Option.some.injEq] at h; subst h; exact Tryd.ty67
  · simp only [Option.some.injEq] at h; subst h; exact Tryd.ty68
  · simp only [Option.some.injEq] at h; subst h; exact Tryd.ty69
  · simp only [Option.some.injEq] at h; subst h; exact Tryd.ty70
  · simp only [Option.some.injEq] at h; subst h; exact Tryd.ty72
  · simp only [Option.some.injEq] at h; subst h; exact Tryd.ty74
  · simp only [Option.some.injEq] at h; subst h; exact Tryd.ty75
  · simp only [Option.some.injEq] at h; subst h; exact Tryd.ty76
  · simp only [Option.some.injEq] at h; subst h; exact Tryd.ty77
  · simp only [Option.some.injEq] at h; subst h; exact Tryd.ty79
  · simp only [Option.some.injEq] at h; subst h; exact Tryd.ty80
  · simp only [Option.some.injEq] at h; subst h; exact Tryd.ty81
  · simp only [Option.some.injEq] at h; subst h; exact Tryd.ty82
  · simp only [Option.some.injEq] at h; subst h; exact Tryd.ty83
  · simp only [Option.some.injEq] at h; subst h; exact Tryd.ty91
  · simp at h
theorem Tryd.mixed : Tryd.prog.follows .mixedOrders = true := by kernel_rfl
end Go.Proofs.YtpbmicfbghnmeaaDoor
