/- The table of types of this translation, by program. -/
import Derived.Test.YtjceehpfncfpgaaDoorProg
import Derived.Test.YtjceehpfncfpgaaDoorAvCode
import Derived.WalkKit
import Derived.WalkSpells
import Derived.KernelRfl
namespace Go.Proofs.YtjceehpfncfpgaaDoor
open Go Go.Av

def Tryd.tabs : List (String × Nat × IntKind × List Int) := [("math/bits.deBruijn32tab", 4, .u8, [0, 1, 28, 2, 29, 14, 24, 3, 30, 22, 20, 15, 25, 17, 4, 8, 31, 27, 13, 23, 21, 19, 16, 7, 26, 12, 18, 6, 11, 5, 10, 9]), ("math/bits.deBruijn64tab", 5, .u8, [0, 1, 56, 2, 57, 49, 28, 3, 61, 58, 42, 50, 38, 29, 17, 4, 62, 47, 59, 36, 45, 43, 51, 22, 53, 39, 33, 30, 24, 18, 12, 5, 63, 55, 48, 27, 60, 41, 37, 16, 46, 35, 44, 21, 52, 32, 23, 11, 54, 26, 40, 15, 34, 20, 31, 10, 25, 14, 19, 9, 13, 8, 7, 6]), ("internal/strconv.uint64pow10", 1, .u64, [1, 10, 100, 1000, 10000, 100000, 1000000, 10000000, 100000000, 1000000000, 10000000000, 100000000000, 1000000000000, 10000000000000, 100000000000000, 1000000000000000, 10000000000000000, 100000000000000000, 1000000000000000000, 10000000000000000000])]
instance Tryd.glob : Glob where
  g
    | 4 => some [.v (.int .u8 0), .v (.int .u8 1), .v (.int .u8 28), .v (.int .u8 2), .v (.int .u8 29), .v (.int .u8 14), .v (.int .u8 24), .v (.int .u8 3), .v (.int .u8 30), .v (.int .u8 22), .v (.int .u8 20), .v (.int .u8 15), .v (.int .u8 25), .v (.int .u8 17), .v (.int .u8 4), .v (.int .u8 8), .v (.int .u8 31), .v (.int .u8 27), .v (.int .u8 13), .v (.int .u8 23), .v (.int .u8 21), .v (.int .u8 19), .v (.int .u8 16), .v (.int .u8 7), .v (.int .u8 26), .v (.int .u8 12), .v (.int .u8 18), .v (.int .u8 6), .v (.int .u8 11), .v (.int .u8 5), .v (.int .u8 10), .v (.int .u8 9)]
    | 5 => some [.v (.int .u8 0), .v (.int .u8 1), .v (.int .u8 56), .v (.int .u8 2), .v (.int .u8 57), .v (.int .u8 49), .v (.int .u8 28), .v (.int .u8 3), .v (.int .u8 61), .v (.int .u8 58), .v (.int .u8 42), .v (.int .u8 50), .v (.int .u8 38), .v (.int .u8 29), .v (.int .u8 17), .v (.int .u8 4), .v (.int .u8 62), .v (.int .u8 47), .v (.int .u8 59), .v (.int .u8 36), .v (.int .u8 45), .v (.int .u8 43), .v (.int .u8 51), .v (.int .u8 22), .v (.int .u8 53), .v (.int .u8 39), .v (.int .u8 33), .v (.int .u8 30), .v (.int .u8 24), .v (.int .u8 18), .v (.int .u8 12), .v (.int .u8 5), .v (.int .u8 63), .v (.int .u8 55), .v (.int .u8 48), .v (.int .u8 27), .v (.int .u8 60), .v (.int .u8 41), .v (.int .u8 37), .v (.int .u8 16), .v (.int .u8 46), .v (.int .u8 35), .v (.int .u8 44), .v (.int .u8 21), .v (.int .u8 52), .v (.int .u8 32), .v (.int .u8 23), .v (.int .u8 11), .v (.int .u8 54), .v (.int .u8 26), .v (.int .u8 40), .v (.int .u8 15), .v (.int .u8 34), .v (.int .u8 20), .v (.int .u8 31), .v (.int .u8 10), .v (.int .u8 25), .v (.int .u8 14), .v (.int .u8 19), .v (.int .u8 9), .v (.int .u8 13), .v (.int .u8 8), .v (.int .u8 7), .v (.int .u8 6)]
    | 1 => some [.v (.int .u64 1), .v (.int .u64 10), .v (.int .u64 100), .v (.int .u64 1000), .v (.int .u64 10000), .v (.int .u64 100000), .v (.int .u64 1000000), .v (.int .u64 10000000), .v (.int .u64 100000000), .v (.int .u64 1000000000), .v (.int .u64 10000000000), .v (.int .u64 100000000000), .v (.int .u64 1000000000000), .v (.int .u64 10000000000000), .v (.int .u64 100000000000000), .v (.int .u64 1000000000000000), .v (.int .u64 10000000000000000), .v (.int .u64 100000000000000000), .v (.int .u64 1000000000000000000), .v (.int .u64 10000000000000000000)]
    | _ => none

theorem Tryd.ty1 : TyOK Tryd.prog 1 ⟨1, 8, [.p (.v .nilFunc)], .sc, none⟩ := by
  refine TyOK.of (z := .nilFunc) (by kernel_rfl) rfl (by first | rfl | decide | (simp [Value.cells, zval, scal])) rfl ?_ ?_ ?_
  · exact scOf_spec (by kernel_rfl)
  · intro cs h; first | rfl | (simp at h)
  · intro ks h; simp at h

theorem Tryd.ty2 : TyOK Tryd.prog 2 ⟨1, 8, [.p (.v (.int .i64 0))], .int .i64, none⟩ := by
  refine TyOK.of (z := .int .i64 0) (by kernel_rfl) rfl (by first | rfl | decide | (simp [Value.cells, zval, scal])) rfl ?_ ?_ ?_
  · show Tryd.prog.underlying 2 = _; kernel_rfl
  · intro cs h; first | rfl | (simp at h)
  · intro ks h; simp at h

theorem Tryd.ty3 : TyOK Tryd.prog 3 ⟨1, 8, [.p (.v (.int .i64 0))], .int .i64, none⟩ := by
  refine TyOK.of (z := .int .i64 0) (by kernel_rfl) rfl (by first | rfl | decide | (simp [Value.cells, zval, scal])) rfl ?_ ?_ ?_
  · show Tryd.prog.underlying 3 = _; kernel_rfl
  · intro cs h; first | rfl | (simp at h)
  · intro ks h; simp at h

theorem Tryd.ty4 : TyOK Tryd.prog 4 ⟨1, 1, [.p (.v (.bool false))], .bool, none⟩ := by
  refine TyOK.of (z := .bool false) (by kernel_rfl) rfl (by first | rfl | decide | (simp [Value.cells, zval, scal])) rfl ?_ ?_ ?_
  · show Tryd.prog.underlying 4 = _; kernel_rfl
  · intro cs h; first | rfl | (simp at h)
  · intro ks h; simp at h

theorem Tryd.ty5 : TyOK Tryd.prog 5 ⟨1, 1, [.p (.v (.int .u8 0))], .int .u8, none⟩ := by
  refine TyOK.of (z := .int .u8 0) (by kernel_rfl) rfl (by first | rfl | decide | (simp [Value.cells, zval, scal])) rfl ?_ ?_ ?_
  · show Tryd.prog.underlying 5 = _; kernel_rfl
  · intro cs h; first | rfl | (simp at h)
  · intro ks h; simp at h

theorem Tryd.ty9 : TyOK Tryd.prog 9 ⟨1, 16, [.p (.v (.string ByteArray.empty))], .str, none⟩ := by
  refine TyOK.of (z := .string ByteArray.empty) (by kernel_rfl) rfl (by first | rfl | decide | (simp [Value.cells, zval, scal])) rfl ?_ ?_ ?_
  · show Tryd.prog.underlying 9 = _; kernel_rfl
  · intro cs h; first | rfl | (simp at h)
  · intro ks h; simp at h

theorem Tryd.ty12 : TyOK Tryd.prog 12 ⟨1, 8, [.p (.v (.int .u64 0))], .int .u64, none⟩ := by
  refine TyOK.of (z := .int .u64 0) (by kernel_rfl) rfl (by first | rfl | decide | (simp [Value.cells, zval, scal])) rfl ?_ ?_ ?_
  · show Tryd.prog.underlying 12 = _; kernel_rfl
  · intro cs h; first | rfl | (simp at h)
  · intro ks h; simp at h

theorem Tryd.ty21 : TyOK Tryd.prog 21 ⟨1, 4, [.p (.v (.int .i32 0))], .int .i32, none⟩ := by
  refine TyOK.of (z := .int .i32 0) (by kernel_rfl) rfl (by first | rfl | decide | (simp [Value.cells, zval, scal])) rfl ?_ ?_ ?_
  · show Tryd.prog.underlying 21 = _; kernel_rfl
  · intro cs h; first | rfl | (simp at h)
  · intro ks h; simp at h

theorem Tryd.ty23 : TyOK Tryd.prog 23 ⟨2, 16, [.p (.v (.int .i64 0)), .p (.v (.int .i64 0))], .struct [(0, 3), (1, 3)], some [.int .i64, .int .i64]⟩ := by
  refine TyOK.of (z := .agg #[.int .i64 0, .int .i64 0]) (by kernel_rfl) rfl (by first | rfl | decide | (simp [Value.cells, zval, scal])) rfl ?_ ?_ ?_
  · exact structOf_spec (by kernel_rfl)
  · intro cs h; first | rfl | (simp at h)
  · intro ks h; simp only [Option.some.injEq] at h; subst h; refine ⟨rfl, fun xs ys hx hy w => ⟨?_, by kernel_rfl⟩⟩
    obtain ⟨_, _, rfl, ⟨x0, rfl⟩, hx⟩ := hx; obtain ⟨_, _, rfl, ⟨x1, rfl⟩, hx⟩ := hx; subst hx
    obtain ⟨_, _, rfl, ⟨y0, rfl⟩, hy⟩ := hy; obtain ⟨_, _, rfl, ⟨y1, rfl⟩, hy⟩ := hy; subst hy
    show (Op.equalIn 10000 23 (.agg #[.int .i64 x0, .int .i64 x1]) (.agg #[.int .i64 y0, .int .i64 y1])).run Tryd.prog w = _
    go_simp
    simp only [ceq, veq]
    all_goals (repeat' split)
    all_goals simp_all

theorem Tryd.ty24 : TyOK Tryd.prog 24 ⟨1, 24, [.nil 2], .slice 23, none⟩ := by
  refine TyOK.of (z := .slice none 0 0) (by kernel_rfl) rfl (by first | rfl | decide | (simp [Value.cells, zval, scal])) rfl ?_ ?_ ?_
  · show Tryd.prog.underlying 24 = _; kernel_rfl
  · intro cs h; first | rfl | (simp at h)
  · intro ks h; simp at h

theorem Tryd.ty25 : TyOK Tryd.prog 25 ⟨1, 8, [.p (.v (.int .i64 0))], .int .i64, none⟩ := by
  refine TyOK.of (z := .int .i64 0) (by kernel_rfl) rfl (by first | rfl | decide | (simp [Value.cells, zval, scal])) rfl ?_ ?_ ?_
  · show Tryd.prog.underlying 25 = _; kernel_rfl
  · intro cs h; first | rfl | (simp at h)
  · intro ks h; simp at h

theorem Tryd.ty27 : TyOK Tryd.prog 27 ⟨1, 8, [.p (.v .nilFunc)], .sc, none⟩ := by
  refine TyOK.of (z := .nilFunc) (by kernel_rfl) rfl (by first | rfl | decide | (simp [Value.cells, zval, scal])) rfl ?_ ?_ ?_
  · exact scOf_spec (by kernel_rfl)
  · intro cs h; first | rfl | (simp at h)
  · intro ks h; simp at h

theorem Tryd.ty28 : TyOK Tryd.prog 28 ⟨1, 8, [.p (.v .nilFunc)], .sc, none⟩ := by
  refine TyOK.of (z := .nilFunc) (by kernel_rfl) rfl (by first | rfl | decide | (simp [Value.cells, zval, scal])) rfl ?_ ?_ ?_
  · exact scOf_spec (by kernel_rfl)
  · intro cs h; first | rfl | (simp at h)
  · intro ks h; simp at h

theorem Tryd.ty29 : TyOK Tryd.prog 29 ⟨1, 8, [.p (.v .nilFunc)], .sc, none⟩ := by
  refine TyOK.of (z := .nilFunc) (by kernel_rfl) rfl (by first | rfl | decide | (simp [Value.cells, zval, scal])) rfl ?_ ?_ ?_
  · exact scOf_spec (by kernel_rfl)
  · intro cs h; first | rfl | (simp at h)
  · intro ks h; simp at h

theorem Tryd.ty30 : TyOK Tryd.prog 30 ⟨1, 8, [.p (.v .nilFunc)], .sc, none⟩ := by
  refine TyOK.of (z := .nilFunc) (by kernel_rfl) rfl (by first | rfl | decide | (simp [Value.cells, zval, scal])) rfl ?_ ?_ ?_
  · exact scOf_spec (by kernel_rfl)
  · intro cs h; first | rfl | (simp at h)
  · intro ks h; simp at h

theorem Tryd.ty31 : TyOK Tryd.prog 31 ⟨1, 8, [.p (.v .nilFunc)], .sc, none⟩ := by
  refine TyOK.of (z := .nilFunc) (by kernel_rfl) rfl (by first | rfl | decide | (simp [Value.cells, zval, scal])) rfl ?_ ?_ ?_
  · exact scOf_spec (by kernel_rfl)
  · intro cs h; first | rfl | (simp at h)
  · intro ks h; simp at h

theorem Tryd.ty33 : TyOK Tryd.prog 33 ⟨1, 8, [.p (.v .nilFunc)], .sc, none⟩ := by
  refine TyOK.of (z := .nilFunc) (by kernel_rfl) rfl (by first | rfl | decide | (simp [Value.cells, zval, scal])) rfl ?_ ?_ ?_
  · exact scOf_spec (by kernel_rfl)
  · intro cs h; first | rfl | (simp at h)
  · intro ks h; simp at h

theorem Tryd.ty34 : TyOK Tryd.prog 34 ⟨1, 8, [.p (.v .nilFunc)], .sc, none⟩ := by
  refine TyOK.of (z := .nilFunc) (by kernel_rfl) rfl (by first | rfl | decide | (simp [Value.cells, zval, scal])) rfl ?_ ?_ ?_
  · exact scOf_spec (by kernel_rfl)
  · intro cs h; first | rfl | (simp at h)
  · intro ks h; simp at h

theorem Tryd.ty35 : TyOK Tryd.prog 35 ⟨1, 8, [.p (.v .nilFunc)], .sc, none⟩ := by
  refine TyOK.of (z := .nilFunc) (by kernel_rfl) rfl (by first | rfl | decide | (simp [Value.cells, zval, scal])) rfl ?_ ?_ ?_
  · exact scOf_spec (by kernel_rfl)
  · intro cs h; first | rfl | (simp at h)
  · intro ks h; simp at h

theorem Tryd.ty36 : TyOK Tryd.prog 36 ⟨1, 8, [.p (.v .nilFunc)], .sc, none⟩ := by
  refine TyOK.of (z := .nilFunc) (by kernel_rfl) rfl (by first | rfl | decide | (simp [Value.cells, zval, scal])) rfl ?_ ?_ ?_
  · exact scOf_spec (by kernel_rfl)
  · intro cs h; first | rfl | (simp at h)
  · intro ks h; simp at h

theorem Tryd.ty37 : TyOK Tryd.prog 37 ⟨1, 8, [.p (.v .nilFunc)], .sc, none⟩ := by
  refine TyOK.of (z := .nilFunc) (by kernel_rfl) rfl (by first | rfl | decide | (simp [Value.cells, zval, scal])) rfl ?_ ?_ ?_
  · exact scOf_spec (by kernel_rfl)
  · intro cs h; first | rfl | (simp at h)
  · intro ks h; simp at h

theorem Tryd.ty38 : TyOK Tryd.prog 38 ⟨1, 8, [.p (.v .nilFunc)], .sc, none⟩ := by
  refine TyOK.of (z := .nilFunc) (by kernel_rfl) rfl (by first | rfl | decide | (simp [Value.cells, zval, scal])) rfl ?_ ?_ ?_
  · exact scOf_spec (by kernel_rfl)
  · intro cs h; first | rfl | (simp at h)
  · intro ks h; simp at h

theorem Tryd.ty39 : TyOK Tryd.prog 39 ⟨1, 8, [.p (.v .nilFunc)], .sc, none⟩ := by
  refine TyOK.of (z := .nilFunc) (by kernel_rfl) rfl (by first | rfl | decide | (simp [Value.cells, zval, scal])) rfl ?_ ?_ ?_
  · exact scOf_spec (by kernel_rfl)
  · intro cs h; first | rfl | (simp at h)
  · intro ks h; simp at h

theorem Tryd.ty40 : TyOK Tryd.prog 40 ⟨2, 16, [.p (.v (.int .i64 0)), .p (.v (.int .i64 0))], .array 2 3, none⟩ := by
  refine TyOK.of (z := .agg #[.int .i64 0, .int .i64 0]) (by kernel_rfl) rfl (by first | rfl | decide | (simp [Value.cells, zval, scal])) rfl ?_ ?_ ?_
  · show Tryd.prog.underlying 40 = _; kernel_rfl
  · intro cs h; first | rfl | (simp at h)
  · intro ks h; simp at h

theorem Tryd.ty41 : TyOK Tryd.prog 41 ⟨1, 8, [.p (.v .nilFunc)], .sc, none⟩ := by
  refine TyOK.of (z := .nilFunc) (by kernel_rfl) rfl (by first | rfl | decide | (simp [Value.cells, zval, scal])) rfl ?_ ?_ ?_
  · exact scOf_spec (by kernel_rfl)
  · intro cs h; first | rfl | (simp at h)
  · intro ks h; simp at h

theorem Tryd.ty42 : TyOK Tryd.prog 42 ⟨1, 24, [.nil 4], .slice 47, none⟩ := by
  refine TyOK.of (z := .slice none 0 0) (by kernel_rfl) rfl (by first | rfl | decide | (simp [Value.cells, zval, scal])) rfl ?_ ?_ ?_
  · show Tryd.prog.underlying 42 = _; kernel_rfl
  · intro cs h; first | rfl | (simp at h)
  · intro ks h; simp at h

theorem Tryd.ty44 : TyOK Tryd.prog 44 ⟨4, 48, [.p (.v (.int .i64 0)), .p (.v (.int .i64 0)), .p (.v (.int .i64 0)), .nil 4], .struct [(0, 23), (2, 3), (3, 42)], none⟩ := by
  refine TyOK.of (z := .agg #[.int .i64 0, .int .i64 0, .int .i64 0, .slice none 0 0]) (by kernel_rfl) rfl (by first | rfl | decide | (simp [Value.cells, zval, scal])) rfl ?_ ?_ ?_
  · exact structOf_spec (by kernel_rfl)
  · intro cs h; first | rfl | (simp at h)
  · intro ks h; simp at h

theorem Tryd.ty45 : TyOK Tryd.prog 45 ⟨1, 8, [.p (.v .nilFunc)], .sc, none⟩ := by
  refine TyOK.of (z := .nilFunc) (by kernel_rfl) rfl (by first | rfl | decide | (simp [Value.cells, zval, scal])) rfl ?_ ?_ ?_
  · exact scOf_spec (by kernel_rfl)
  · intro cs h; first | rfl | (simp at h)
  · intro ks h; simp at h

theorem Tryd.ty47 : TyOK Tryd.prog 47 ⟨4, 32, [.p (.v (.int .i64 0)), .p (.v (.int .i64 0)), .p (.v (.int .i64 0)), .p (.v (.int .i64 0))], .struct [(0, 3), (1, 3), (2, 3), (3, 3)], some [.int .i64, .int .i64, .int .i64, .int .i64]⟩ := by
  refine TyOK.of (z := .agg #[.int .i64 0, .int .i64 0, .int .i64 0, .int .i64 0]) (by kernel_rfl) rfl (by first | rfl | decide | (simp [Value.cells, zval, scal])) rfl ?_ ?_ ?_
  · exact structOf_spec (by kernel_rfl)
  · intro cs h; first | rfl | (simp at h)
  · intro ks h; simp only [Option.some.injEq] at h; subst h; refine ⟨rfl, fun xs ys hx hy w => ⟨?_, by kernel_rfl⟩⟩
    obtain ⟨_, _, rfl, ⟨x0, rfl⟩, hx⟩ := hx; obtain ⟨_, _, rfl, ⟨x1, rfl⟩, hx⟩ := hx; obtain ⟨_, _, rfl, ⟨x2, rfl⟩, hx⟩ := hx; obtain ⟨_, _, rfl, ⟨x3, rfl⟩, hx⟩ := hx; subst hx
    obtain ⟨_, _, rfl, ⟨y0, rfl⟩, hy⟩ := hy; obtain ⟨_, _, rfl, ⟨y1, rfl⟩, hy⟩ := hy; obtain ⟨_, _, rfl, ⟨y2, rfl⟩, hy⟩ := hy; obtain ⟨_, _, rfl, ⟨y3, rfl⟩, hy⟩ := hy; subst hy
    show (Op.equalIn 10000 47 (.agg #[.int .i64 x0, .int .i64 x1, .int .i64 x2, .int .i64 x3]) (.agg #[.int .i64 y0, .int .i64 y1, .int .i64 y2, .int .i64 y3])).run Tryd.prog w = _
    go_simp
    simp only [ceq, veq]
    all_goals (repeat' split)
    all_goals simp_all

theorem Tryd.ty49 : TyOK Tryd.prog 49 ⟨1, 8, [.p (.v .nilFunc)], .sc, none⟩ := by
  refine TyOK.of (z := .nilFunc) (by kernel_rfl) rfl (by first | rfl | decide | (simp [Value.cells, zval, scal])) rfl ?_ ?_ ?_
  · exact scOf_spec (by kernel_rfl)
  · intro cs h; first | rfl | (simp at h)
  · intro ks h; simp at h

theorem Tryd.ty50 : TyOK Tryd.prog 50 ⟨1, 8, [.p (.v .nilFunc)], .sc, none⟩ := by
  refine TyOK.of (z := .nilFunc) (by kernel_rfl) rfl (by first | rfl | decide | (simp [Value.cells, zval, scal])) rfl ?_ ?_ ?_
  · exact scOf_spec (by kernel_rfl)
  · intro cs h; first | rfl | (simp at h)
  · intro ks h; simp at h

theorem Tryd.ty51 : TyOK Tryd.prog 51 ⟨1, 8, [.p (.v .nilFunc)], .sc, none⟩ := by
  refine TyOK.of (z := .nilFunc) (by kernel_rfl) rfl (by first | rfl | decide | (simp [Value.cells, zval, scal])) rfl ?_ ?_ ?_
  · exact scOf_spec (by kernel_rfl)
  · intro cs h; first | rfl | (simp at h)
  · intro ks h; simp at h

theorem Tryd.ty52 : TyOK Tryd.prog 52 ⟨1, 24, [.nil 1], .slice 3, none⟩ := by
  refine TyOK.of (z := .slice none 0 0) (by kernel_rfl) rfl (by first | rfl | decide | (simp [Value.cells, zval, scal])) rfl ?_ ?_ ?_
  · show Tryd.prog.underlying 52 = _; kernel_rfl
  · intro cs h; first | rfl | (simp at h)
  · intro ks h; simp at h

theorem Tryd.ty53 : TyOK Tryd.prog 53 ⟨1, 8, [.p (.v .nilFunc)], .sc, none⟩ := by
  refine TyOK.of (z := .nilFunc) (by kernel_rfl) rfl (by first | rfl | decide | (simp [Value.cells, zval, scal])) rfl ?_ ?_ ?_
  · exact scOf_spec (by kernel_rfl)
  · intro cs h; first | rfl | (simp at h)
  · intro ks h; simp at h

theorem Tryd.ty54 : TyOK Tryd.prog 54 ⟨1, 8, [.p (.v .nilFunc)], .sc, none⟩ := by
  refine TyOK.of (z := .nilFunc) (by kernel_rfl) rfl (by first | rfl | decide | (simp [Value.cells, zval, scal])) rfl ?_ ?_ ?_
  · exact scOf_spec (by kernel_rfl)
  · intro cs h; first | rfl | (simp at h)
  · intro ks h; simp at h

theorem Tryd.ty55 : TyOK Tryd.prog 55 ⟨1, 8, [.p (.v .nilFunc)], .sc, none⟩ := by
  refine TyOK.of (z := .nilFunc) (by kernel_rfl) rfl (by first | rfl | decide | (simp [Value.cells, zval, scal])) rfl ?_ ?_ ?_
  · exact scOf_spec (by kernel_rfl)
  · intro cs h; first | rfl | (simp at h)
  · intro ks h; simp at h

theorem Tryd.ty56 : TyOK Tryd.prog 56 ⟨1, 8, [.p (.v .nilFunc)], .sc, none⟩ := by
  refine TyOK.of (z := .nilFunc) (by kernel_rfl) rfl (by first | rfl | decide | (simp [Value.cells, zval, scal])) rfl ?_ ?_ ?_
  · exact scOf_spec (by kernel_rfl)
  · intro cs h; first | rfl | (simp at h)
  · intro ks h; simp at h

theorem Tryd.ty57 : TyOK Tryd.prog 57 ⟨1, 8, [.p (.v .nilFunc)], .sc, none⟩ := by
  refine TyOK.of (z := .nilFunc) (by kernel_rfl) rfl (by first | rfl | decide | (simp [Value.cells, zval, scal])) rfl ?_ ?_ ?_
  · exact scOf_spec (by kernel_rfl)
  · intro cs h; first | rfl | (simp at h)
  · intro ks h; simp at h

theorem Tryd.ty59 : TyOK Tryd.prog 59 ⟨1, 8, [.p (.v .nilFunc)], .sc, none⟩ := by
  refine TyOK.of (z := .nilFunc) (by kernel_rfl) rfl (by first | rfl | decide | (simp [Value.cells, zval, scal])) rfl ?_ ?_ ?_
  · exact scOf_spec (by kernel_rfl)
  · intro cs h; first | rfl | (simp at h)
  · intro ks h; simp at h

theorem Tryd.ty60 : TyOK Tryd.prog 60 ⟨1, 8, [.p (.v .nilFunc)], .sc, none⟩ := by
  refine TyOK.of (z := .nilFunc) (by kernel_rfl) rfl (by first | rfl | decide | (simp [Value.cells, zval, scal])) rfl ?_ ?_ ?_
  · exact scOf_spec (by kernel_rfl)
  · intro cs h; first | rfl | (simp at h)
  · intro ks h; simp at h

theorem Tryd.ty61 : TyOK Tryd.prog 61 ⟨1, 8, [.p (.v (.int .u64 0))], .int .u64, none⟩ := by
  refine TyOK.of (z := .int .u64 0) (by kernel_rfl) rfl (by first | rfl | decide | (simp [Value.cells, zval, scal])) rfl ?_ ?_ ?_
  · show Tryd.prog.underlying 61 = _; kernel_rfl
  · intro cs h; first | rfl | (simp at h)
  · intro ks h; simp at h

theorem Tryd.ty62 : TyOK Tryd.prog 62 ⟨1, 8, [.p (.v .nilFunc)], .sc, none⟩ := by
  refine TyOK.of (z := .nilFunc) (by kernel_rfl) rfl (by first | rfl | decide | (simp [Value.cells, zval, scal])) rfl ?_ ?_ ?_
  · exact scOf_spec (by kernel_rfl)
  · intro cs h; first | rfl | (simp at h)
  · intro ks h; simp at h

theorem Tryd.ty63 : TyOK Tryd.prog 63 ⟨1, 8, [.p (.v .nilFunc)], .sc, none⟩ := by
  refine TyOK.of (z := .nilFunc) (by kernel_rfl) rfl (by first | rfl | decide | (simp [Value.cells, zval, scal])) rfl ?_ ?_ ?_
  · exact scOf_spec (by kernel_rfl)
  · intro cs h; first | rfl | (simp at h)
  · intro ks h; simp at h

theorem Tryd.ty64 : TyOK Tryd.prog 64 ⟨1, 8, [.p (.v .nilFunc)], .sc, none⟩ := by
  refine TyOK.of (z := .nilFunc) (by kernel_rfl) rfl (by first | rfl | decide | (simp [Value.cells, zval, scal])) rfl ?_ ?_ ?_
  · exact scOf_spec (by kernel_rfl)
  · intro cs h; first | rfl | (simp at h)
  · intro ks h; simp at h

theorem Tryd.ty66 : TyOK Tryd.prog 66 ⟨1, 8, [.p (.v .nilFunc)], .sc, none⟩ := by
  refine TyOK.of (z := .nilFunc) (by kernel_rfl) rfl (by first | rfl | decide | (simp [Value.cells, zval, scal])) rfl ?_ ?_ ?_
  · exact scOf_spec (by kernel_rfl)
  · intro cs h; first | rfl | (simp at h)
  · intro ks h; simp at h

theorem Tryd.ty68 : TyOK Tryd.prog 68 ⟨1, 8, [.p (.v .nilFunc)], .sc, none⟩ := by
  refine TyOK.of (z := .nilFunc) (by kernel_rfl) rfl (by first | rfl | decide | (simp [Value.cells, zval, scal])) rfl ?_ ?_ ?_
  · exact scOf_spec (by kernel_rfl)
  · intro cs h; first | rfl | (simp at h)
  · intro ks h; simp at h

theorem Tryd.ty69 : TyOK Tryd.prog 69 ⟨1, 8, [.p (.v .nilFunc)], .sc, none⟩ := by
  refine TyOK.of (z := .nilFunc) (by kernel_rfl) rfl (by first | rfl | decide | (simp [Value.cells, zval, scal])) rfl ?_ ?_ ?_
  · exact scOf_spec (by kernel_rfl)
  · intro cs h; first | rfl | (simp at h)
  · intro ks h; simp at h

theorem Tryd.ty70 : TyOK Tryd.prog 70 ⟨1, 8, [.p (.v .nilFunc)], .sc, none⟩ := by
  refine TyOK.of (z := .nilFunc) (by kernel_rfl) rfl (by first | rfl | decide | (simp [Value.cells, zval, scal])) rfl ?_ ?_ ?_
  · exact scOf_spec (by kernel_rfl)
  · intro cs h; first | rfl | (simp at h)
  · intro ks h; simp at h

theorem Tryd.ty71 : TyOK Tryd.prog 71 ⟨1, 8, [.p (.v .nilFunc)], .sc, none⟩ := by
  refine TyOK.of (z := .nilFunc) (by kernel_rfl) rfl (by first | rfl | decide | (simp [Value.cells, zval, scal])) rfl ?_ ?_ ?_
  · exact scOf_spec (by kernel_rfl)
  · intro cs h; first | rfl | (simp at h)
  · intro ks h; simp at h

theorem Tryd.ty72 : TyOK Tryd.prog 72 ⟨1, 8, [.p (.v .nilFunc)], .sc, none⟩ := by
  refine TyOK.of (z := .nilFunc) (by kernel_rfl) rfl (by first | rfl | decide | (simp [Value.cells, zval, scal])) rfl ?_ ?_ ?_
  · exact scOf_spec (by kernel_rfl)
  · intro cs h; first | rfl | (simp at h)
  · intro ks h; simp at h

theorem Tryd.ty73 : TyOK Tryd.prog 73 ⟨1, 8, [.p (.v .nilFunc)], .sc, none⟩ := by
  refine TyOK.of (z := .nilFunc) (by kernel_rfl) rfl (by first | rfl | decide | (simp [Value.cells, zval, scal])) rfl ?_ ?_ ?_
  · exact scOf_spec (by kernel_rfl)
  · intro cs h; first | rfl | (simp at h)
  · intro ks h; simp at h

theorem Tryd.ty75 : TyOK Tryd.prog 75 ⟨1, 8, [.p (.v .nilFunc)], .sc, none⟩ := by
  refine TyOK.of (z := .nilFunc) (by kernel_rfl) rfl (by first | rfl | decide | (simp [Value.cells, zval, scal])) rfl ?_ ?_ ?_
  · exact scOf_spec (by kernel_rfl)
  · intro cs h; first | rfl | (simp at h)
  · intro ks h; simp at h

theorem Tryd.ty76 : TyOK Tryd.prog 76 ⟨1, 24, [.nil 1], .slice 9, none⟩ := by
  refine TyOK.of (z := .slice none 0 0) (by kernel_rfl) rfl (by first | rfl | decide | (simp [Value.cells, zval, scal])) rfl ?_ ?_ ?_
  · show Tryd.prog.underlying 76 = _; kernel_rfl
  · intro cs h; first | rfl | (simp at h)
  · intro ks h; simp at h

theorem Tryd.ty77 : TyOK Tryd.prog 77 ⟨1, 8, [.p (.v .nilFunc)], .sc, none⟩ := by
  refine TyOK.of (z := .nilFunc) (by kernel_rfl) rfl (by first | rfl | decide | (simp [Value.cells, zval, scal])) rfl ?_ ?_ ?_
  · exact scOf_spec (by kernel_rfl)
  · intro cs h; first | rfl | (simp at h)
  · intro ks h; simp at h

theorem Tryd.ty78 : TyOK Tryd.prog 78 ⟨1, 24, [.nil 1], .slice 5, none⟩ := by
  refine TyOK.of (z := .slice none 0 0) (by kernel_rfl) rfl (by first | rfl | decide | (simp [Value.cells, zval, scal])) rfl ?_ ?_ ?_
  · show Tryd.prog.underlying 78 = _; kernel_rfl
  · intro cs h; first | rfl | (simp at h)
  · intro ks h; simp at h

theorem Tryd.ty79 : TyOK Tryd.prog 79 ⟨1, 8, [.p (.v .nilFunc)], .sc, none⟩ := by
  refine TyOK.of (z := .nilFunc) (by kernel_rfl) rfl (by first | rfl | decide | (simp [Value.cells, zval, scal])) rfl ?_ ?_ ?_
  · exact scOf_spec (by kernel_rfl)
  · intro cs h; first | rfl | (simp at h)
  · intro ks h; simp at h

theorem Tryd.ty80 : TyOK Tryd.prog 80 ⟨1, 8, [.p (.v .nilFunc)], .sc, none⟩ := by
  refine TyOK.of (z := .nilFunc) (by kernel_rfl) rfl (by first | rfl | decide | (simp [Value.cells, zval, scal])) rfl ?_ ?_ ?_
  · exact scOf_spec (by kernel_rfl)
  · intro cs h; first | rfl | (simp at h)
  · intro ks h; simp at h

theorem Tryd.ty81 : TyOK Tryd.prog 81 ⟨1, 24, [.nil 1], .slice 21, none⟩ := by
  refine TyOK.of (z := .slice none 0 0) (by kernel_rfl) rfl (by first | rfl | decide | (simp [Value.cells, zval, scal])) rfl ?_ ?_ ?_
  · show Tryd.prog.underlying 81 = _; kernel_rfl
  · intro cs h; first | rfl | (simp at h)
  · intro ks h; simp at h

theorem Tryd.ty83 : TyOK Tryd.prog 83 ⟨1, 8, [.p (.v .nilFunc)], .sc, none⟩ := by
  refine TyOK.of (z := .nilFunc) (by kernel_rfl) rfl (by first | rfl | decide | (simp [Value.cells, zval, scal])) rfl ?_ ?_ ?_
  · exact scOf_spec (by kernel_rfl)
  · intro cs h; first | rfl | (simp at h)
  · intro ks h; simp at h

theorem Tryd.ty84 : TyOK Tryd.prog 84 ⟨1, 8, [.p (.v .nilFunc)], .sc, none⟩ := by
  refine TyOK.of (z := .nilFunc) (by kernel_rfl) rfl (by first | rfl | decide | (simp [Value.cells, zval, scal])) rfl ?_ ?_ ?_
  · exact scOf_spec (by kernel_rfl)
  · intro cs h; first | rfl | (simp at h)
  · intro ks h; simp at h

theorem Tryd.ty85 : TyOK Tryd.prog 85 ⟨1, 8, [.p (.v .nilFunc)], .sc, none⟩ := by
  refine TyOK.of (z := .nilFunc) (by kernel_rfl) rfl (by first | rfl | decide | (simp [Value.cells, zval, scal])) rfl ?_ ?_ ?_
  · exact scOf_spec (by kernel_rfl)
  · intro cs h; first | rfl | (simp at h)
  · intro ks h; simp at h

theorem Tryd.ty86 : TyOK Tryd.prog 86 ⟨1, 8, [.p (.v .nilFunc)], .sc, none⟩ := by
  refine TyOK.of (z := .nilFunc) (by kernel_rfl) rfl (by first | rfl | decide | (simp [Value.cells, zval, scal])) rfl ?_ ?_ ?_
  · exact scOf_spec (by kernel_rfl)
  · intro cs h; first | rfl | (simp at h)
  · intro ks h; simp at h

theorem Tryd.ty87 : TyOK Tryd.prog 87 ⟨1, 8, [.p (.v .nilFunc)], .sc, none⟩ := by
  refine TyOK.of (z := .nilFunc) (by kernel_rfl) rfl (by first | rfl | decide | (simp [Value.cells, zval, scal])) rfl ?_ ?_ ?_
  · exact scOf_spec (by kernel_rfl)
  · intro cs h; first | rfl | (simp at h)
  · intro ks h; simp at h

theorem Tryd.ty88 : TyOK Tryd.prog 88 ⟨1, 8, [.p (.v .nilFunc)], .sc, none⟩ := by
  refine TyOK.of (z := .nilFunc) (by kernel_rfl) rfl (by first | rfl | decide | (simp [Value.cells, zval, scal])) rfl ?_ ?_ ?_
  · exact scOf_spec (by kernel_rfl)
  · intro cs h; first | rfl | (simp at h)
  · intro ks h; simp at h

theorem Tryd.ty89 : TyOK Tryd.prog 89 ⟨1, 8, [.p (.v .nilFunc)], .sc, none⟩ := by
  refine TyOK.of (z := .nilFunc) (by kernel_rfl) rfl (by first | rfl | decide | (simp [Value.cells, zval, scal])) rfl ?_ ?_ ?_
  · exact scOf_spec (by kernel_rfl)
  · intro cs h; first | rfl | (simp at h)
  · intro ks h; simp at h

theorem Tryd.ty90 : TyOK Tryd.prog 90 ⟨1, 8, [.p (.v .nilFunc)], .sc, none⟩ := by
  refine TyOK.of (z := .nilFunc) (by kernel_rfl) rfl (by first | rfl | decide | (simp [Value.cells, zval, scal])) rfl ?_ ?_ ?_
  · exact scOf_spec (by kernel_rfl)
  · intro cs h; first | rfl | (simp at h)
  · intro ks h; simp at h

theorem Tryd.ty91 : TyOK Tryd.prog 91 ⟨1, 8, [.p (.v .nilFunc)], .sc, none⟩ := by
  refine TyOK.of (z := .nilFunc) (by kernel_rfl) rfl (by first | rfl | decide | (simp [Value.cells, zval, scal])) rfl ?_ ?_ ?_
  · exact scOf_spec (by kernel_rfl)
  · intro cs h; first | rfl | (simp at h)
  · intro ks h; simp at h

theorem Tryd.ty92 : TyOK Tryd.prog 92 ⟨1, 8, [.p (.v .nilFunc)], .sc, none⟩ := by
  refine TyOK.of (z := .nilFunc) (by kernel_rfl) rfl (by first | rfl | decide | (simp [Value.cells, zval, scal])) rfl ?_ ?_ ?_
  · exact scOf_spec (by kernel_rfl)
  · intro cs h; first | rfl | (simp at h)
  · intro ks h; simp at h

theorem Tryd.ty93 : TyOK Tryd.prog 93 ⟨1, 8, [.p (.v (.int .u64 0))], .int .u64, none⟩ := by
  refine TyOK.of (z := .int .u64 0) (by kernel_rfl) rfl (by first | rfl | decide | (simp [Value.cells, zval, scal])) rfl ?_ ?_ ?_
  · show Tryd.prog.underlying 93 = _; kernel_rfl
  · intro cs h; first | rfl | (simp at h)
  · intro ks h; simp at h

theorem Tryd.ty94 : TyOK Tryd.prog 94 ⟨24, 24, [.p (.v (.int .u8 0)), .p (.v (.int .u8 0)), .p (.v (.int .u8 0)), .p (.v (.int .u8 0)), .p (.v (.int .u8 0)), .p (.v (.int .u8 0)), .p (.v (.int .u8 0)), .p (.v (.int .u8 0)), .p (.v (.int .u8 0)), .p (.v (.int .u8 0)), .p (.v (.int .u8 0)), .p (.v (.int .u8 0)), .p (.v (.int .u8 0)), .p (.v (.int .u8 0)), .p (.v (.int .u8 0)), .p (.v (.int .u8 0)), .p (.v (.int .u8 0)), .p (.v (.int .u8 0)), .p (.v (.int .u8 0)), .p (.v (.int .u8 0)), .p (.v (.int .u8 0)), .p (.v (.int .u8 0)), .p (.v (.int .u8 0)), .p (.v (.int .u8 0))], .array 24 5, none⟩ := by
  refine TyOK.of (z := .agg #[.int .u8 0, .int .u8 0, .int .u8 0, .int .u8 0, .int .u8 0, .int .u8 0, .int .u8 0, .int .u8 0, .int .u8 0, .int .u8 0, .int .u8 0, .int .u8 0, .int .u8 0, .int .u8 0, .int .u8 0, .int .u8 0, .int .u8 0, .int .u8 0, .int .u8 0, .int .u8 0, .int .u8 0, .int .u8 0, .int .u8 0, .int .u8 0]) (by kernel_rfl) rfl (by first | rfl | decide | (simp [Value.cells, zval, scal])) rfl ?_ ?_ ?_
  · show Tryd.prog.underlying 94 = _; kernel_rfl
  · intro cs h; first | rfl | (simp at h)
  · intro ks h; simp at h

theorem Tryd.ty95 : TyOK Tryd.prog 95 ⟨1, 8, [.p (.v .nilFunc)], .sc, none⟩ := by
  refine TyOK.of (z := .nilFunc) (by kernel_rfl) rfl (by first | rfl | decide | (simp [Value.cells, zval, scal])) rfl ?_ ?_ ?_
  · exact scOf_spec (by kernel_rfl)
  · intro cs h; first | rfl | (simp at h)
  · intro ks h; simp at h

theorem Tryd.ty96 : TyOK Tryd.prog 96 ⟨1, 8, [.p (.v .nilFunc)], .sc, none⟩ := by
  refine TyOK.of (z := .nilFunc) (by kernel_rfl) rfl (by first | rfl | decide | (simp [Value.cells, zval, scal])) rfl ?_ ?_ ?_
  · exact scOf_spec (by kernel_rfl)
  · intro cs h; first | rfl | (simp at h)
  · intro ks h; simp at h

theorem Tryd.ty98 : TyOK Tryd.prog 98 ⟨1, 8, [.p (.v .nilFunc)], .sc, none⟩ := by
  refine TyOK.of (z := .nilFunc) (by kernel_rfl) rfl (by first | rfl | decide | (simp [Value.cells, zval, scal])) rfl ?_ ?_ ?_
  · exact scOf_spec (by kernel_rfl)
  · intro cs h; first | rfl | (simp at h)
  · intro ks h; simp at h

theorem Tryd.ty99 : TyOK Tryd.prog 99 ⟨1, 8, [.p (.v .nilFunc)], .sc, none⟩ := by
  refine TyOK.of (z := .nilFunc) (by kernel_rfl) rfl (by first | rfl | decide | (simp [Value.cells, zval, scal])) rfl ?_ ?_ ?_
  · exact scOf_spec (by kernel_rfl)
  · intro cs h; first | rfl | (simp at h)
  · intro ks h; simp at h

theorem Tryd.ty101 : TyOK Tryd.prog 101 ⟨1, 8, [.p (.v .nilFunc)], .sc, none⟩ := by
  refine TyOK.of (z := .nilFunc) (by kernel_rfl) rfl (by first | rfl | decide | (simp [Value.cells, zval, scal])) rfl ?_ ?_ ?_
  · exact scOf_spec (by kernel_rfl)
  · intro cs h; first | rfl | (simp at h)
  · intro ks h; simp at h

theorem Tryd.ty102 : TyOK Tryd.prog 102 ⟨1, 4, [.p (.v (.int .u32 0))], .int .u32, none⟩ := by
  refine TyOK.of (z := .int .u32 0) (by kernel_rfl) rfl (by first | rfl | decide | (simp [Value.cells, zval, scal])) rfl ?_ ?_ ?_
  · show Tryd.prog.underlying 102 = _; kernel_rfl
  · intro cs h; first | rfl | (simp at h)
  · intro ks h; simp at h

theorem Tryd.ty104 : TyOK Tryd.prog 104 ⟨1, 8, [.p (.v .nilFunc)], .sc, none⟩ := by
  refine TyOK.of (z := .nilFunc) (by kernel_rfl) rfl (by first | rfl | decide | (simp [Value.cells, zval, scal])) rfl ?_ ?_ ?_
  · exact scOf_spec (by kernel_rfl)
  · intro cs h; first | rfl | (simp at h)
  · intro ks h; simp at h

theorem Tryd.ty105 : TyOK Tryd.prog 105 ⟨1, 8, [.p (.v .nilFunc)], .sc, none⟩ := by
  refine TyOK.of (z := .nilFunc) (by kernel_rfl) rfl (by first | rfl | decide | (simp [Value.cells, zval, scal])) rfl ?_ ?_ ?_
  · exact scOf_spec (by kernel_rfl)
  · intro cs h; first | rfl | (simp at h)
  · intro ks h; simp at h

theorem Tryd.ty106 : TyOK Tryd.prog 106 ⟨20, 160, [.p (.v (.int .u64 0)), .p (.v (.int .u64 0)), .p (.v (.int .u64 0)), .p (.v (.int .u64 0)), .p (.v (.int .u64 0)), .p (.v (.int .u64 0)), .p (.v (.int .u64 0)), .p (.v (.int .u64 0)), .p (.v (.int .u64 0)), .p (.v (.int .u64 0)), .p (.v (.int .u64 0)), .p (.v (.int .u64 0)), .p (.v (.int .u64 0)), .p (.v (.int .u64 0)), .p (.v (.int .u64 0)), .p (.v (.int .u64 0)), .p (.v (.int .u64 0)), .p (.v (.int .u64 0)), .p (.v (.int .u64 0)), .p (.v (.int .u64 0))], .array 20 61, none⟩ := by
  refine TyOK.of (z := .agg #[.int .u64 0, .int .u64 0, .int .u64 0, .int .u64 0, .int .u64 0, .int .u64 0, .int .u64 0, .int .u64 0, .int .u64 0, .int .u64 0, .int .u64 0, .int .u64 0, .int .u64 0, .int .u64 0, .int .u64 0, .int .u64 0, .int .u64 0, .int .u64 0, .int .u64 0, .int .u64 0]) (by kernel_rfl) rfl (by first | rfl | decide | (simp [Value.cells, zval, scal])) rfl ?_ ?_ ?_
  · show Tryd.prog.underlying 106 = _; kernel_rfl
  · intro cs h; first | rfl | (simp at h)
  · intro ks h; simp at h

theorem Tryd.ty108 : TyOK Tryd.prog 108 ⟨1, 8, [.p (.v .nilFunc)], .sc, none⟩ := by
  refine TyOK.of (z := .nilFunc) (by kernel_rfl) rfl (by first | rfl | decide | (simp [Value.cells, zval, scal])) rfl ?_ ?_ ?_
  · exact scOf_spec (by kernel_rfl)
  · intro cs h; first | rfl | (simp at h)
  · intro ks h; simp at h

theorem Tryd.ty109 : TyOK Tryd.prog 109 ⟨1, 8, [.p (.v .nilFunc)], .sc, none⟩ := by
  refine TyOK.of (z := .nilFunc) (by kernel_rfl) rfl (by first | rfl | decide | (simp [Value.cells, zval, scal])) rfl ?_ ?_ ?_
  · exact scOf_spec (by kernel_rfl)
  · intro cs h; first | rfl | (simp at h)
  · intro ks h; simp at h

theorem Tryd.ty112 : TyOK Tryd.prog 112 ⟨2, 2, [.p (.v (.int .u8 0)), .p (.v (.int .u8 0))], .struct [(0, 5), (1, 5)], some [.int .u8, .int .u8]⟩ := by
  refine TyOK.of (z := .agg #[.int .u8 0, .int .u8 0]) (by kernel_rfl) rfl (by first | rfl | decide | (simp [Value.cells, zval, scal])) rfl ?_ ?_ ?_
  · exact structOf_spec (by kernel_rfl)
  · intro cs h; first | rfl | (simp at h)
  · intro ks h; simp only [Option.some.injEq] at h; subst h; refine ⟨rfl, fun xs ys hx hy w => ⟨?_, by kernel_rfl⟩⟩
    obtain ⟨_, _, rfl, ⟨x0, rfl⟩, hx⟩ := hx; obtain ⟨_, _, rfl, ⟨x1, rfl⟩, hx⟩ := hx; subst hx
    obtain ⟨_, _, rfl, ⟨y0, rfl⟩, hy⟩ := hy; obtain ⟨_, _, rfl, ⟨y1, rfl⟩, hy⟩ := hy; subst hy
    show (Op.equalIn 10000 112 (.agg #[.int .u8 x0, .int .u8 x1]) (.agg #[.int .u8 y0, .int .u8 y1])).run Tryd.prog w = _
    go_simp
    simp only [ceq, veq]
    all_goals (repeat' split)
    all_goals simp_all

theorem Tryd.ty113 : TyOK Tryd.prog 113 ⟨32, 32, [.p (.v (.int .u8 0)), .p (.v (.int .u8 0)), .p (.v (.int .u8 0)), .p (.v (.int .u8 0)), .p (.v (.int .u8 0)), .p (.v (.int .u8 0)), .p (.v (.int .u8 0)), .p (.v (.int .u8 0)), .p (.v (.int .u8 0)), .p (.v (.int .u8 0)), .p (.v (.int .u8 0)), .p (.v (.int .u8 0)), .p (.v (.int .u8 0)), .p (.v (.int .u8 0)), .p (.v (.int .u8 0)), .p (.v (.int .u8 0)), .p (.v (.int .u8 0)), .p (.v (.int .u8 0)), .p (.v (.int .u8 0)), .p (.v (.int .u8 0)), .p (.v (.int .u8 0)), .p (.v (.int .u8 0)), .p (.v (.int .u8 0)), .p (.v (.int .u8 0)), .p (.v (.int .u8 0)), .p (.v (.int .u8 0)), .p (.v (.int .u8 0)), .p (.v (.int .u8 0)), .p (.v (.int .u8 0)), .p (.v (.int .u8 0)), .p (.v (.int .u8 0)), .p (.v (.int .u8 0))], .array 16 112, none⟩ := by
  refine TyOK.of (z := .agg #[.int .u8 0, .int .u8 0, .int .u8 0, .int .u8 0, .int .u8 0, .int .u8 0, .int .u8 0, .int .u8 0, .int .u8 0, .int .u8 0, .int .u8 0, .int .u8 0, .int .u8 0, .int .u8 0, .int .u8 0, .int .u8 0, .int .u8 0, .int .u8 0, .int .u8 0, .int .u8 0, .int .u8 0, .int .u8 0, .int .u8 0, .int .u8 0, .int .u8 0, .int .u8 0, .int .u8 0, .int .u8 0, .int .u8 0, .int .u8 0, .int .u8 0, .int .u8 0]) (by kernel_rfl) rfl (by first | rfl | decide | (simp [Value.cells, zval, scal])) rfl ?_ ?_ ?_
  · show Tryd.prog.underlying 113 = _; kernel_rfl
  · intro cs h; first | rfl | (simp at h)
  · intro ks h; simp at h

theorem Tryd.ty114 : TyOK Tryd.prog 114 ⟨32, 32, [.p (.v (.int .u8 0)), .p (.v (.int .u8 0)), .p (.v (.int .u8 0)), .p (.v (.int .u8 0)), .p (.v (.int .u8 0)), .p (.v (.int .u8 0)), .p (.v (.int .u8 0)), .p (.v (.int .u8 0)), .p (.v (.int .u8 0)), .p (.v (.int .u8 0)), .p (.v (.int .u8 0)), .p (.v (.int .u8 0)), .p (.v (.int .u8 0)), .p (.v (.int .u8 0)), .p (.v (.int .u8 0)), .p (.v (.int .u8 0)), .p (.v (.int .u8 0)), .p (.v (.int .u8 0)), .p (.v (.int .u8 0)), .p (.v (.int .u8 0)), .p (.v (.int .u8 0)), .p (.v (.int .u8 0)), .p (.v (.int .u8 0)), .p (.v (.int .u8 0)), .p (.v (.int .u8 0)), .p (.v (.int .u8 0)), .p (.v (.int .u8 0)), .p (.v (.int .u8 0)), .p (.v (.int .u8 0)), .p (.v (.int .u8 0)), .p (.v (.int .u8 0)), .p (.v (.int .u8 0))], .array 32 5, none⟩ := by
  refine TyOK.of (z := .agg #[.int .u8 0, .int .u8 0, .int .u8 0, .int .u8 0, .int .u8 0, .int .u8 0, .int .u8 0, .int .u8 0, .int .u8 0, .int .u8 0, .int .u8 0, .int .u8 0, .int .u8 0, .int .u8 0, .int .u8 0, .int .u8 0, .int .u8 0, .int .u8 0, .int .u8 0, .int .u8 0, .int .u8 0, .int .u8 0, .int .u8 0, .int .u8 0, .int .u8 0, .int .u8 0, .int .u8 0, .int .u8 0, .int .u8 0, .int .u8 0, .int .u8 0, .int .u8 0]) (by kernel_rfl) rfl (by first | rfl | decide | (simp [Value.cells, zval, scal])) rfl ?_ ?_ ?_
  · show Tryd.prog.underlying 114 = _; kernel_rfl
  · intro cs h; first | rfl | (simp at h)
  · intro ks h; simp at h

theorem Tryd.ty115 : TyOK Tryd.prog 115 ⟨64, 64, [.p (.v (.int .u8 0)), .p (.v (.int .u8 0)), .p (.v (.int .u8 0)), .p (.v (.int .u8 0)), .p (.v (.int .u8 0)), .p (.v (.int .u8 0)), .p (.v (.int .u8 0)), .p (.v (.int .u8 0)), .p (.v (.int .u8 0)), .p (.v (.int .u8 0)), .p (.v (.int .u8 0)), .p (.v (.int .u8 0)), .p (.v (.int .u8 0)), .p (.v (.int .u8 0)), .p (.v (.int .u8 0)), .p (.v (.int .u8 0)), .p (.v (.int .u8 0)), .p (.v (.int .u8 0)), .p (.v (.int .u8 0)), .p (.v (.int .u8 0)), .p (.v (.int .u8 0)), .p (.v (.int .u8 0)), .p (.v (.int .u8 0)), .p (.v (.int .u8 0)), .p (.v (.int .u8 0)), .p (.v (.int .u8 0)), .p (.v (.int .u8 0)), .p (.v (.int .u8 0)), .p (.v (.int .u8 0)), .p (.v (.int .u8 0)), .p (.v (.int .u8 0)), .p (.v (.int .u8 0)), .p (.v (.int .u8 0)), .p (.v (.int .u8 0)), .p (.v (.int .u8 0)), .p (.v (.int .u8 0)), .p (.v (.int .u8 0)), .p (.v (.int .u8 0)), .p (.v (.int .u8 0)), .p (.v (.int .u8 0)), .p (.v (.int .u8 0)), .p (.v (.int .u8 0)), .p (.v (.int .u8 0)), .p (.v (.int .u8 0)), .p (.v (.int .u8 0)), .p (.v (.int .u8 0)), .p (.v (.int .u8 0)), .p (.v (.int .u8 0)), .p (.v (.int .u8 0)), .p (.v (.int .u8 0)), .p (.v (.int .u8 0)), .p (.v (.int .u8 0)), .p (.v (.int .u8 0)), .p (.v (.int .u8 0)), .p (.v (.int .u8 0)), .p (.v (.int .u8 0)), .p (.v (.int .u8 0)), .p (.v (.int .u8 0)), .p (.v (.int .u8 0)), .p (.v (.int .u8 0)), .p (.v (.int .u8 0)), .p (.v (.int .u8 0)), .p (.v (.int .u8 0)), .p (.v (.int .u8 0))], .array 64 5, none⟩ := by
  refine TyOK.of (z := .agg #[.int .u8 0, .int .u8 0, .int .u8 0, .int .u8 0, .int .u8 0, .int .u8 0, .int .u8 0, .int .u8 0, .int .u8 0, .int .u8 0, .int .u8 0, .int .u8 0, .int .u8 0, .int .u8 0, .int .u8 0, .int .u8 0, .int .u8 0, .int .u8 0, .int .u8 0, .int .u8 0, .int .u8 0, .int .u8 0, .int .u8 0, .int .u8 0, .int .u8 0, .int .u8 0, .int .u8 0, .int .u8 0, .int .u8 0, .int .u8 0, .int .u8 0, .int .u8 0, .int .u8 0, .int .u8 0, .int .u8 0, .int .u8 0, .int .u8 0, .int .u8 0, .int .u8 0, .int .u8 0, .int .u8 0, .int .u8 0, .int .u8 0, .int .u8 0, .int .u8 0, .int .u8 0, .int .u8 0, .int .u8 0, .int .u8 0, .int .u8 0, .int .u8 0, .int .u8 0, .int .u8 0, .int .u8 0, .int .u8 0, .int .u8 0, .int .u8 0, .int .u8 0, .int .u8 0, .int .u8 0, .int .u8 0, .int .u8 0, .int .u8 0, .int .u8 0]) (by kernel_rfl) rfl (by first | rfl | decide | (simp [Value.cells, zval, scal])) rfl ?_ ?_ ?_
  · show Tryd.prog.underlying 115 = _; kernel_rfl
  · intro cs h; first | rfl | (simp at h)
  · intro ks h; simp at h

theorem Tryd.ty116 : TyOK Tryd.prog 116 ⟨1, 8, [.p (.v .nilFunc)], .sc, none⟩ := by
  refine TyOK.of (z := .nilFunc) (by kernel_rfl) rfl (by first | rfl | decide | (simp [Value.cells, zval, scal])) rfl ?_ ?_ ?_
  · exact scOf_spec (by kernel_rfl)
  · intro cs h; first | rfl | (simp at h)
  · intro ks h; simp at h

theorem Tryd.ty122 : TyOK Tryd.prog 122 ⟨1, 8, [.p (.v .nilFunc)], .sc, none⟩ := by
  refine TyOK.of (z := .nilFunc) (by kernel_rfl) rfl (by first | rfl | decide | (simp [Value.cells, zval, scal])) rfl ?_ ?_ ?_
  · exact scOf_spec (by kernel_rfl)
  · intro cs h; first | rfl | (simp at h)
  · intro ks h; simp at h

theorem Tryd.ty125 : TyOK Tryd.prog 125 ⟨1, 8, [.p (.v .nilFunc)], .sc, none⟩ := by
  refine TyOK.of (z := .nilFunc) (by kernel_rfl) rfl (by first | rfl | decide | (simp [Value.cells, zval, scal])) rfl ?_ ?_ ?_
  · exact scOf_spec (by kernel_rfl)
  · intro cs h; first | rfl | (simp at h)
  · intro ks h; simp at h

def Tryd.T : TypeId → Option Ty
  | 1 => some ⟨1, 8, [.p (.v .nilFunc)], .sc, none⟩
  | 2 => some ⟨1, 8, [.p (.v (.int .i64 0))], .int .i64, none⟩
  | 3 => some ⟨1, 8, [.p (.v (.int .i64 0))], .int .i64, none⟩
  | 4 => some ⟨1, 1, [.p (.v (.bool false))], .bool, none⟩
  | 5 => some ⟨1, 1, [.p (.v (.int .u8 0))], .int .u8, none⟩
  | 9 => some ⟨1, 16, [.p (.v (.string ByteArray.empty))], .str, none⟩
  | 12 => some ⟨1, 8, [.p (.v (.int .u64 0))], .int .u64, none⟩
  | 21 => some ⟨1, 4, [.p (.v (.int .i32 0))], .int .i32, none⟩
  | 23 => some ⟨2, 16, [.p (.v (.int .i64 0)), .p (.v (.int .i64 0))], .struct [(0, 3), (1, 3)], some [.int .i64, .int .i64]⟩
  | 24 => some ⟨1, 24, [.nil 2], .slice 23, none⟩
  | 25 => some ⟨1, 8, [.p (.v (.int .i64 0))], .int .i64, none⟩
  | 27 => some ⟨1, 8, [.p (.v .nilFunc)], .sc, none⟩
  | 28 => some ⟨1, 8, [.p (.v .nilFunc)], .sc, none⟩
  | 29 => some ⟨1, 8, [.p (.v .nilFunc)], .sc, none⟩
  | 30 => some ⟨1, 8, [.p (.v .nilFunc)], .sc, none⟩
  | 31 => some ⟨1, 8, [.p (.v .nilFunc)], .sc, none⟩
  | 33 => some ⟨1, 8, [.p (.v .nilFunc)], .sc, none⟩
  | 34 => some ⟨1, 8, [.p (.v .nilFunc)], .sc, none⟩
  | 35 => some ⟨1, 8, [.p (.v .nilFunc)], .sc, none⟩
  | 36 => some ⟨1, 8, [.p (.v .nilFunc)], .sc, none⟩
  | 37 => some ⟨1, 8, [.p (.v .nilFunc)], .sc, none⟩
  | 38 => some ⟨1, 8, [.p (.v .nilFunc)], .sc, none⟩
  | 39 => some ⟨1, 8, [.p (.v .nilFunc)], .sc, none⟩
  | 40 => some ⟨2, 16, [.p (.v (.int .i64 0)), .p (.v (.int .i64 0))], .array 2 3, none⟩
  | 41 => some ⟨1, 8, [.p (.v .nilFunc)], .sc, none⟩
  | 42 => some ⟨1, 24, [.nil 4], .slice 47, none⟩
  | 44 => some ⟨4, 48, [.p (.v (.int .i64 0)), .p (.v (.int .i64 0)), .p (.v (.int .i64 0)), .nil 4], .struct [(0, 23), (2, 3), (3, 42)], none⟩
  | 45 => some ⟨1, 8, [.p (.v .nilFunc)], .sc, none⟩
  | 47 => some ⟨4, 32, [.p (.v (.int .i64 0)), .p (.v (.int .i64 0)), .p (.v (.int .i64 0)), .p (.v (.int .i64 0))], .struct [(0, 3), (1, 3), (2, 3), (3, 3)], some [.int .i64, .int .i64, .int .i64, .int .i64]⟩
  | 49 => some ⟨1, 8, [.p (.v .nilFunc)], .sc, none⟩
  | 50 => some ⟨1, 8, [.p (.v .nilFunc)], .sc, none⟩
  | 51 => some ⟨1, 8, [.p (.v .nilFunc)], .sc, none⟩
  | 52 => some ⟨1, 24, [.nil 1], .slice 3, none⟩
  | 53 => some ⟨1, 8, [.p (.v .nilFunc)], .sc, none⟩
  | 54 => some ⟨1, 8, [.p (.v .nilFunc)], .sc, none⟩
  | 55 => some ⟨1, 8, [.p (.v .nilFunc)], .sc, none⟩
  | 56 => some ⟨1, 8, [.p (.v .nilFunc)], .sc, none⟩
  | 57 => some ⟨1, 8, [.p (.v .nilFunc)], .sc, none⟩
  | 59 => some ⟨1, 8, [.p (.v .nilFunc)], .sc, none⟩
  | 60 => some ⟨1, 8, [.p (.v .nilFunc)], .sc, none⟩
  | 61 => some ⟨1, 8, [.p (.v (.int .u64 0))], .int .u64, none⟩
  | 62 => some ⟨1, 8, [.p (.v .nilFunc)], .sc, none⟩
  | 63 => some ⟨1, 8, [.p (.v .nilFunc)], .sc, none⟩
  | 64 => some ⟨1, 8, [.p (.v .nilFunc)], .sc, none⟩
  | 66 => some ⟨1, 8, [.p (.v .nilFunc)], .sc, none⟩
  | 68 => some ⟨1, 8, [.p (.v .nilFunc)], .sc, none⟩
  | 69 => some ⟨1, 8, [.p (.v .nilFunc)], .sc, none⟩
  | 70 => some ⟨1, 8, [.p (.v .nilFunc)], .sc, none⟩
  | 71 => some ⟨1, 8, [.p (.v .nilFunc)], .sc, none⟩
  | 72 => some ⟨1, 8, [.p (.v .nilFunc)], .sc, none⟩
  | 73 => some ⟨1, 8, [.p (.v .nilFunc)], .sc, none⟩
  | 75 => some ⟨1, 8, [.p (.v .nilFunc)], .sc, none⟩
  | 76 => some ⟨1, 24, [.nil 1], .slice 9, none⟩
  | 77 => some ⟨1, 8, [.p (.v .nilFunc)], .sc, none⟩
  | 78 => some ⟨1, 24, [.nil 1], .slice 5, none⟩
  | 79 => some ⟨1, 8, [.p (.v .nilFunc)], .sc, none⟩
  | 80 => some ⟨1, 8, [.p (.v .nilFunc)], .sc, none⟩
  | 81 => some ⟨1, 24, [.nil 1], .slice 21, none⟩
  | 83 => some ⟨1, 8, [.p (.v .nilFunc)], .sc, none⟩
  | 84 => some ⟨1, 8, [.p (.v .nilFunc)], .sc, none⟩
  | 85 => some ⟨1, 8, [.p (.v .nilFunc)], .sc, none⟩
  | 86 => some ⟨1, 8, [.p (.v .nilFunc)], .sc, none⟩
  | 87 => some ⟨1, 8, [.p (.v .nilFunc)], .sc, none⟩
  | 88 => some ⟨1, 8, [.p (.v .nilFunc)], .sc, none⟩
  | 89 => some ⟨1, 8, [.p (.v .nilFunc)], .sc, none⟩
  | 90 => some ⟨1, 8, [.p (.v .nilFunc)], .sc, none⟩
  | 91 => some ⟨1, 8, [.p (.v .nilFunc)], .sc, none⟩
  | 92 => some ⟨1, 8, [.p (.v .nilFunc)], .sc, none⟩
  | 93 => some ⟨1, 8, [.p (.v (.int .u64 0))], .int .u64, none⟩
  | 94 => some ⟨24, 24, [.p (.v (.int .u8 0)), .p (.v (.int .u8 0)), .p (.v (.int .u8 0)), .p (.v (.int .u8 0)), .p (.v (.int .u8 0)), .p (.v (.int .u8 0)), .p (.v (.int .u8 0)), .p (.v (.int .u8 0)), .p (.v (.int .u8 0)), .p (.v (.int .u8 0)), .p (.v (.int .u8 0)), .p (.v (.int .u8 0)), .p (.v (.int .u8 0)), .p (.v (.int .u8 0)), .p (.v (.int .u8 0)), .p (.v (.int .u8 0)), .p (.v (.int .u8 0)), .p (.v (.int .u8 0)), .p (.v (.int .u8 0)), .p (.v (.int .u8 0)), .p (.v (.int .u8 0)), .p (.v (.int .u8 0)), .p (.v (.int .u8 0)), .p (.v (.int .u8 0))], .array 24 5, none⟩
  | 95 => some ⟨1, 8, [.p (.v .nilFunc)], .sc, none⟩
  | 96 => some ⟨1, 8, [.p (.v .nilFunc)], .sc, none⟩
  | 98 => some ⟨1, 8, [.p (.v .nilFunc)], .sc, none⟩
  | 99 => some ⟨1, 8, [.p (.v .nilFunc)], .sc, none⟩
  | 101 => some ⟨1, 8, [.p (.v .nilFunc)], .sc, none⟩
  | 102 => some ⟨1, 4, [.p (.v (.int .u32 0))], .int .u32, none⟩
  | 104 => some ⟨1, 8, [.p (.v .nilFunc)], .sc, none⟩
  | 105 => some ⟨1, 8, [.p (.v .nilFunc)], .sc, none⟩
  | 106 => some ⟨20, 160, [.p (.v (.int .u64 0)), .p (.v (.int .u64 0)), .p (.v (.int .u64 0)), .p (.v (.int .u64 0)), .p (.v (.int .u64 0)), .p (.v (.int .u64 0)), .p (.v (.int .u64 0)), .p (.v (.int .u64 0)), .p (.v (.int .u64 0)), .p (.v (.int .u64 0)), .p (.v (.int .u64 0)), .p (.v (.int .u64 0)), .p (.v (.int .u64 0)), .p (.v (.int .u64 0)), .p (.v (.int .u64 0)), .p (.v (.int .u64 0)), .p (.v (.int .u64 0)), .p (.v (.int .u64 0)), .p (.v (.int .u64 0)), .p (.v (.int .u64 0))], .array 20 61, none⟩
  | 108 => some ⟨1, 8, [.p (.v .nilFunc)], .sc, none⟩
  | 109 => some ⟨1, 8, [.p (.v .nilFunc)], .sc, none⟩
  | 112 => some ⟨2, 2, [.p (.v (.int .u8 0)), .p (.v (.int .u8 0))], .struct [(0, 5), (1, 5)], some [.int .u8, .int .u8]⟩
  | 113 => some ⟨32, 32, [.p (.v (.int .u8 0)), .p (.v (.int .u8 0)), .p (.v (.int .u8 0)), .p (.v (.int .u8 0)), .p (.v (.int .u8 0)), .p (.v (.int .u8 0)), .p (.v (.int .u8 0)), .p (.v (.int .u8 0)), .p (.v (.int .u8 0)), .p (.v (.int .u8 0)), .p (.v (.int .u8 0)), .p (.v (.int .u8 0)), .p (.v (.int .u8 0)), .p (.v (.int .u8 0)), .p (.v (.int .u8 0)), .p (.v (.int .u8 0)), .p (.v (.int .u8 0)), .p (.v (.int .u8 0)), .p (.v (.int .u8 0)), .p (.v (.int .u8 0)), .p (.v (.int .u8 0)), .p (.v (.int .u8 0)), .p (.v (.int .u8 0)), .p (.v (.int .u8 0)), .p (.v (.int .u8 0)), .p (.v (.int .u8 0)), .p (.v (.int .u8 0)), .p (.v (.int .u8 0)), .p (.v (.int .u8 0)), .p (.v (.int .u8 0)), .p (.v (.int .u8 0)), .p (.v (.int .u8 0))], .array 16 112, none⟩
  | 114 => some ⟨32, 32, [.p (.v (.int .u8 0)), .p (.v (.int .u8 0)), .p (.v (.int .u8 0)), .p (.v (.int .u8 0)), .p (.v (.int .u8 0)), .p (.v (.int .u8 0)), .p (.v (.int .u8 0)), .p (.v (.int .u8 0)), .p (.v (.int .u8 0)), .p (.v (.int .u8 0)), .p (.v (.int .u8 0)), .p (.v (.int .u8 0)), .p (.v (.int .u8 0)), .p (.v (.int .u8 0)), .p (.v (.int .u8 0)), .p (.v (.int .u8 0)), .p (.v (.int .u8 0)), .p (.v (.int .u8 0)), .p (.v (.int .u8 0)), .p (.v (.int .u8 0)), .p (.v (.int .u8 0)), .p (.v (.int .u8 0)), .p (.v (.int .u8 0)), .p (.v (.int .u8 0)), .p (.v (.int .u8 0)), .p (.v (.int .u8 0)), .p (.v (.int .u8 0)), .p (.v (.int .u8 0)), .p (.v (.int .u8 0)), .p (.v (.int .u8 0)), .p (.v (.int .u8 0)), .p (.v (.int .u8 0))], .array 32 5, none⟩
  | 115 => some ⟨64, 64, [.p (.v (.int .u8 0)), .p (.v (.int .u8 0)), .p (.v (.int .u8 0)), .p (.v (.int .u8 0)), .p (.v (.int .u8 0)), .p (.v (.int .u8 0)), .p (.v (.int .u8 0)), .p (.v (.int .u8 0)), .p (.v (.int .u8 0)), .p (.v (.int .u8 0)), .p (.v (.int .u8 0)), .p (.v (.int .u8 0)), .p (.v (.int .u8 0)), .p (.v (.int .u8 0)), .p (.v (.int .u8 0)), .p (.v (.int .u8 0)), .p (.v (.int .u8 0)), .p (.v (.int .u8 0)), .p (.v (.int .u8 0)), .p (.v (.int .u8 0)), .p (.v (.int .u8 0)), .p (.v (.int .u8 0)), .p (.v (.int .u8 0)), .p (.v (.int .u8 0)), .p (.v (.int .u8 0)), .p (.v (.int .u8 0)), .p (.v (.int .u8 0)), .p (.v (.int .u8 0)), .p (.v (.int .u8 0)), .p (.v (.int .u8 0)), .p (.v (.int .u8 0)), .p (.v (.int .u8 0)), .p (.v (.int .u8 0)), .p (.v (.int .u8 0)), .p (.v (.int .u8 0)), .p (.v (.int .u8 0)), .p (.v (.int .u8 0)), .p (.v (.int .u8 0)), .p (.v (.int .u8 0)), .p (.v (.int .u8 0)), .p (.v (.int .u8 0)), .p (.v (.int .u8 0)), .p (.v (.int .u8 0)), .p (.v (.int .u8 0)), .p (.v (.int .u8 0)), .p (.v (.int .u8 0)), .p (.v (.int .u8 0)), .p (.v (.int .u8 0)), .p (.v (.int .u8 0)), .p (.v (.int .u8 0)), .p (.v (.int .u8 0)), .p (.v (.int .u8 0)), .p (.v (.int .u8 0)), .p (.v (.int .u8 0)), .p (.v (.int .u8 0)), .p (.v (.int .u8 0)), .p (.v (.int .u8 0)), .p (.v (.int .u8 0)), .p (.v (.int .u8 0)), .p (.v (.int .u8 0)), .p (.v (.int .u8 0)), .p (.v (.int .u8 0)), .p (.v (.int .u8 0)), .p (.v (.int .u8 0))], .array 64 5, none⟩
  | 116 => some ⟨1, 8, [.p (.v .nilFunc)], .sc, none⟩
  | 122 => some ⟨1, 8, [.p (.v .nilFunc)], .sc, none⟩
  | 125 => some ⟨1, 8, [.p (.v .nilFunc)], .sc, none⟩
  | _ => none

theorem Tryd.T1 : Tryd.T 1 = some ⟨1, 8, [.p (.v .nilFunc)], .sc, none⟩ := rfl
theorem Tryd.T2 : Tryd.T 2 = some ⟨1, 8, [.p (.v (.int .i64 0))], .int .i64, none⟩ := rfl
theorem Tryd.T3 : Tryd.T 3 = some ⟨1, 8, [.p (.v (.int .i64 0))], .int .i64, none⟩ := rfl
theorem Tryd.T4 : Tryd.T 4 = some ⟨1, 1, [.p (.v (.bool false))], .bool, none⟩ := rfl
theorem Tryd.T5 : Tryd.T 5 = some ⟨1, 1, [.p (.v (.int .u8 0))], .int .u8, none⟩ := rfl
theorem Tryd.T9 : Tryd.T 9 = some ⟨1, 16, [.p (.v (.string ByteArray.empty))], .str, none⟩ := rfl
theorem Tryd.T12 : Tryd.T 12 = some ⟨1, 8, [.p (.v (.int .u64 0))], .int .u64, none⟩ := rfl
theorem Tryd.T21 : Tryd.T 21 = some ⟨1, 4, [.p (.v (.int .i32 0))], .int .i32, none⟩ := rfl
theorem Tryd.T23 : Tryd.T 23 = some ⟨2, 16, [.p (.v (.int .i64 0)), .p (.v (.int .i64 0))], .struct [(0, 3), (1, 3)], some [.int .i64, .int .i64]⟩ := rfl
theorem Tryd.T24 : Tryd.T 24 = some ⟨1, 24, [.nil 2], .slice 23, none⟩ := rfl
theorem Tryd.T25 : Tryd.T 25 = some ⟨1, 8, [.p (.v (.int .i64 0))], .int .i64, none⟩ := rfl
theorem Tryd.T27 : Tryd.T 27 = some ⟨1, 8, [.p (.v .nilFunc)], .sc, none⟩ := rfl
theorem Tryd.T28 : Tryd.T 28 = some ⟨1, 8, [.p (.v .nilFunc)], .sc, none⟩ := rfl
theorem Tryd.T29 : Tryd.T 29 = some ⟨1, 8, [.p (.v .nilFunc)], .sc, none⟩ := rfl
theorem Tryd.T30 : Tryd.T 30 = some ⟨1, 8, [.p (.v .nilFunc)], .sc, none⟩ := rfl
theorem Tryd.T31 : Tryd.T 31 = some ⟨1, 8, [.p (.v .nilFunc)], .sc, none⟩ := rfl
theorem Tryd.T33 : Tryd.T 33 = some ⟨1, 8, [.p (.v .nilFunc)], .sc, none⟩ := rfl
theorem Tryd.T34 : Tryd.T 34 = some ⟨1, 8, [.p (.v .nilFunc)], .sc, none⟩ := rfl
theorem Tryd.T35 : Tryd.T 35 = some ⟨1, 8, [.p (.v .nilFunc)], .sc, none⟩ := rfl
theorem Tryd.T36 : Tryd.T 36 = some ⟨1, 8, [.p (.v .nilFunc)], .sc, none⟩ := rfl
theorem Tryd.T37 : Tryd.T 37 = some ⟨1, 8, [.p (.v .nilFunc)], .sc, none⟩ := rfl
theorem Tryd.T38 : Tryd.T 38 = some ⟨1, 8, [.p (.v .nilFunc)], .sc, none⟩ := rfl
theorem Tryd.T39 : Tryd.T 39 = some ⟨1, 8, [.p (.v .nilFunc)], .sc, none⟩ := rfl
theorem Tryd.T40 : Tryd.T 40 = some ⟨2, 16, [.p (.v (.int .i64 0)), .p (.v (.int .i64 0))], .array 2 3, none⟩ := rfl
theorem Tryd.T41 : Tryd.T 41 = some ⟨1, 8, [.p (.v .nilFunc)], .sc, none⟩ := rfl
theorem Tryd.T42 : Tryd.T 42 = some ⟨1, 24, [.nil 4], .slice 47, none⟩ := rfl
theorem Tryd.T44 : Tryd.T 44 = some ⟨4, 48, [.p (.v (.int .i64 0)), .p (.v (.int .i64 0)), .p (.v (.int .i64 0)), .nil 4], .struct [(0, 23), (2, 3), (3, 42)], none⟩ := rfl
theorem Tryd.T45 : Tryd.T 45 = some ⟨1, 8, [.p (.v .nilFunc)], .sc, none⟩ := rfl
theorem Tryd.T47 : Tryd.T 47 = some ⟨4, 32, [.p (.v (.int .i64 0)), .p (.v (.int .i64 0)), .p (.v (.int .i64 0)), .p (.v (.int .i64 0))], .struct [(0, 3), (1, 3), (2, 3), (3, 3)], some [.int .i64, .int .i64, .int .i64, .int .i64]⟩ := rfl
theorem Tryd.T49 : Tryd.T 49 = some ⟨1, 8, [.p (.v .nilFunc)], .sc, none⟩ := rfl
theorem Tryd.T50 : Tryd.T 50 = some ⟨1, 8, [.p (.v .nilFunc)], .sc, none⟩ := rfl
theorem Tryd.T51 : Tryd.T 51 = some ⟨1, 8, [.p (.v .nilFunc)], .sc, none⟩ := rfl
theorem Tryd.T52 : Tryd.T 52 = some ⟨1, 24, [.nil 1], .slice 3, none⟩ := rfl
theorem Tryd.T53 : Tryd.T 53 = some ⟨1, 8, [.p (.v .nilFunc)], .sc, none⟩ := rfl
theorem Tryd.T54 : Tryd.T 54 = some ⟨1, 8, [.p (.v .nilFunc)], .sc, none⟩ := rfl
theorem Tryd.T55 : Tryd.T 55 = some ⟨1, 8, [.p (.v .nilFunc)], .sc, none⟩ := rfl
theorem Tryd.T56 : Tryd.T 56 = some ⟨1, 8, [.p (.v .nilFunc)], .sc, none⟩ := rfl
theorem Tryd.T57 : Tryd.T 57 = some ⟨1, 8, [.p (.v .nilFunc)], .sc, none⟩ := rfl
theorem Tryd.T59 : Tryd.T 59 = some ⟨1, 8, [.p (.v .nilFunc)], .sc, none⟩ := rfl
theorem Tryd.T60 : Tryd.T 60 = some ⟨1, 8, [.p (.v .nilFunc)], .sc, none⟩ := rfl
theorem Tryd.T61 : Tryd.T 61 = some ⟨1, 8, [.p (.v (.int .u64 0))], .int .u64, none⟩ := rfl
theorem Tryd.T62 : Tryd.T 62 = some ⟨1, 8, [.p (.v .nilFunc)], .sc, none⟩ := rfl
theorem Tryd.T63 : Tryd.T 63 = some ⟨1, 8, [.p (.v .nilFunc)], .sc, none⟩ := rfl
theorem Tryd.T64 : Tryd.T 64 = some ⟨1, 8, [.p (.v .nilFunc)], .sc, none⟩ := rfl
theorem Tryd.T66 : Tryd.T 66 = some ⟨1, 8, [.p (.v .nilFunc)], .sc, none⟩ := rfl
theorem Tryd.T68 : Tryd.T 68 = some ⟨1, 8, [.p (.v .nilFunc)], .sc, none⟩ := rfl
theorem Tryd.T69 : Tryd.T 69 = some ⟨1, 8, [.p (.v .nilFunc)], .sc, none⟩ := rfl
theorem Tryd.T70 : Tryd.T 70 = some ⟨1, 8, [.p (.v .nilFunc)], .sc, none⟩ := rfl
theorem Tryd.T71 : Tryd.T 71 = some ⟨1, 8, [.p (.v .nilFunc)], .sc, none⟩ := rfl
theorem Tryd.T72 : Tryd.T 72 = some ⟨1, 8, [.p (.v .nilFunc)], .sc, none⟩ := rfl
theorem Tryd.T73 : Tryd.T 73 = some ⟨1, 8, [.p (.v .nilFunc)], .sc, none⟩ := rfl
theorem Tryd.T75 : Tryd.T 75 = some ⟨1, 8, [.p (.v .nilFunc)], .sc, none⟩ := rfl
theorem Tryd.T76 : Tryd.T 76 = some ⟨1, 24, [.nil 1], .slice 9, none⟩ := rfl
theorem Tryd.T77 : Tryd.T 77 = some ⟨1, 8, [.p (.v .nilFunc)], .sc, none⟩ := rfl
theorem Tryd.T78 : Tryd.T 78 = some ⟨1, 24, [.nil 1], .slice 5, none⟩ := rfl
theorem Tryd.T79 : Tryd.T 79 = some ⟨1, 8, [.p (.v .nilFunc)], .sc, none⟩ := rfl
theorem Tryd.T80 : Tryd.T 80 = some ⟨1, 8, [.p (.v .nilFunc)], .sc, none⟩ := rfl
theorem Tryd.T81 : Tryd.T 81 = some ⟨1, 24, [.nil 1], .slice 21, none⟩ := rfl
theorem Tryd.T83 : Tryd.T 83 = some ⟨1, 8, [.p (.v .nilFunc)], .sc, none⟩ := rfl
theorem Tryd.T84 : Tryd.T 84 = some ⟨1, 8, [.p (.v .nilFunc)], .sc, none⟩ := rfl
theorem Tryd.T85 : Tryd.T 85 = some ⟨1, 8, [.p (.v .nilFunc)], .sc, none⟩ := rfl
theorem Tryd.T86 : Tryd.T 86 = some ⟨1, 8, [.p (.v .nilFunc)], .sc, none⟩ := rfl
theorem Tryd.T87 : Tryd.T 87 = some ⟨1, 8, [.p (.v .nilFunc)], .sc, none⟩ := rfl
theorem Tryd.T88 : Tryd.T 88 = some ⟨1, 8, [.p (.v .nilFunc)], .sc, none⟩ := rfl
theorem Tryd.T89 : Tryd.T 89 = some ⟨1, 8, [.p (.v .nilFunc)], .sc, none⟩ := rfl
theorem Tryd.T90 : Tryd.T 90 = some ⟨1, 8, [.p (.v .nilFunc)], .sc, none⟩ := rfl
theorem Tryd.T91 : Tryd.T 91 = some ⟨1, 8, [.p (.v .nilFunc)], .sc, none⟩ := rfl
theorem Tryd.T92 : Tryd.T 92 = some ⟨1, 8, [.p (.v .nilFunc)], .sc, none⟩ := rfl
theorem Tryd.T93 : Tryd.T 93 = some ⟨1, 8, [.p (.v (.int .u64 0))], .int .u64, none⟩ := rfl
theorem Tryd.T94 : Tryd.T 94 = some ⟨24, 24, [.p (.v (.int .u8 0)), .p (.v (.int .u8 0)), .p (.v (.int .u8 0)), .p (.v (.int .u8 0)), .p (.v (.int .u8 0)), .p (.v (.int .u8 0)), .p (.v (.int .u8 0)), .p (.v (.int .u8 0)), .p (.v (.int .u8 0)), .p (.v (.int .u8 0)), .p (.v (.int .u8 0)), .p (.v (.int .u8 0)), .p (.v (.int .u8 0)), .p (.v (.int .u8 0)), .p (.v (.int .u8 0)), .p (.v (.int .u8 0)), .p (.v (.int .u8 0)), .p (.v (.int .u8 0)), .p (.v (.int .u8 0)), .p (.v (.int .u8 0)), .p (.v (.int .u8 0)), .p (.v (.int .u8 0)), .p (.v (.int .u8 0)), .p (.v (.int .u8 0))], .array 24 5, none⟩ := rfl
theorem Tryd.T95 : Tryd.T 95 = some ⟨1, 8, [.p (.v .nilFunc)], .sc, none⟩ := rfl
theorem Tryd.T96 : Tryd.T 96 = some ⟨1, 8, [.p (.v .nilFunc)], .sc, none⟩ := rfl
theorem Tryd.T98 : Tryd.T 98 = some ⟨1, 8, [.p (.v .nilFunc)], .sc, none⟩ := rfl
theorem Tryd.T99 : Tryd.T 99 = some ⟨1, 8, [.p (.v .nilFunc)], .sc, none⟩ := rfl
theorem Tryd.T101 : Tryd.T 101 = some ⟨1, 8, [.p (.v .nilFunc)], .sc, none⟩ := rfl
theorem Tryd.T102 : Tryd.T 102 = some ⟨1, 4, [.p (.v (.int .u32 0))], .int .u32, none⟩ := rfl
theorem Tryd.T104 : Tryd.T 104 = some ⟨1, 8, [.p (.v .nilFunc)], .sc, none⟩ := rfl
theorem Tryd.T105 : Tryd.T 105 = some ⟨1, 8, [.p (.v .nilFunc)], .sc, none⟩ := rfl
theorem Tryd.T106 : Tryd.T 106 = some ⟨20, 160, [.p (.v (.int .u64 0)), .p (.v (.int .u64 0)), .p (.v (.int .u64 0)), .p (.v (.int .u64 0)), .p (.v (.int .u64 0)), .p (.v (.int .u64 0)), .p (.v (.int .u64 0)), .p (.v (.int .u64 0)), .p (.v (.int .u64 0)), .p (.v (.int .u64 0)), .p (.v (.int .u64 0)), .p (.v (.int .u64 0)), .p (.v (.int .u64 0)), .p (.v (.int .u64 0)), .p (.v (.int .u64 0)), .p (.v (.int .u64 0)), .p (.v (.int .u64 0)), .p (.v (.int .u64 0)), .p (.v (.int .u64 0)), .p (.v (.int .u64 0))], .array 20 61, none⟩ := rfl
theorem Tryd.T108 : Tryd.T 108 = some ⟨1, 8, [.p (.v .nilFunc)], .sc, none⟩ := rfl
theorem Tryd.T109 : Tryd.T 109 = some ⟨1, 8, [.p (.v .nilFunc)], .sc, none⟩ := rfl
theorem Tryd.T112 : Tryd.T 112 = some ⟨2, 2, [.p (.v (.int .u8 0)), .p (.v (.int .u8 0))], .struct [(0, 5), (1, 5)], some [.int .u8, .int .u8]⟩ := rfl
theorem Tryd.T113 : Tryd.T 113 = some ⟨32, 32, [.p (.v (.int .u8 0)), .p (.v (.int .u8 0)), .p (.v (.int .u8 0)), .p (.v (.int .u8 0)), .p (.v (.int .u8 0)), .p (.v (.int .u8 0)), .p (.v (.int .u8 0)), .p (.v (.int .u8 0)), .p (.v (.int .u8 0)), .p (.v (.int .u8 0)), .p (.v (.int .u8 0)), .p (.v (.int .u8 0)), .p (.v (.int .u8 0)), .p (.v (.int .u8 0)), .p (.v (.int .u8 0)), .p (.v (.int .u8 0)), .p (.v (.int .u8 0)), .p (.v (.int .u8 0)), .p (.v (.int .u8 0)), .p (.v (.int .u8 0)), .p (.v (.int .u8 0)), .p (.v (.int .u8 0)), .p (.v (.int .u8 0)), .p (.v (.int .u8 0)), .p (.v (.int .u8 0)), .p (.v (.int .u8 0)), .p (.v (.int .u8 0)), .p (.v (.int .u8 0)), .p (.v (.int .u8 0)), .p (.v (.int .u8 0)), .p (.v (.int .u8 0)), .p (.v (.int .u8 0))], .array 16 112, none⟩ := rfl
theorem Tryd.T114 : Tryd.T 114 = some ⟨32, 32, [.p (.v (.int .u8 0)), .p (.v (.int .u8 0)), .p (.v (.int .u8 0)), .p (.v (.int .u8 0)), .p (.v (.int .u8 0)), .p (.v (.int .u8 0)), .p (.v (.int .u8 0)), .p (.v (.int .u8 0)), .p (.v (.int .u8 0)), .p (.v (.int .u8 0)), .p (.v (.int .u8 0)), .p (.v (.int .u8 0)), .p (.v (.int .u8 0)), .p (.v (.int .u8 0)), .p (.v (.int .u8 0)), .p (.v (.int .u8 0)), .p (.v (.int .u8 0)), .p (.v (.int .u8 0)), .p (.v (.int .u8 0)), .p (.v (.int .u8 0)), .p (.v (.int .u8 0)), .p (.v (.int .u8 0)), .p (.v (.int .u8 0)), .p (.v (.int .u8 0)), .p (.v (.int .u8 0)), .p (.v (.int .u8 0)), .p (.v (.int .u8 0)), .p (.v (.int .u8 0)), .p (.v (.int .u8 0)), .p (.v (.int .u8 0)), .p (.v (.int .u8 0)), .p (.v (.int .u8 0))], .array 32 5, none⟩ := rfl
theorem Tryd.T115 : Tryd.T 115 = some ⟨64, 64, [.p (.v (.int .u8 0)), .p (.v (.int .u8 0)), .p (.v (.int .u8 0)), .p (.v (.int .u8 0)), .p (.v (.int .u8 0)), .p (.v (.int .u8 0)), .p (.v (.int .u8 0)), .p (.v (.int .u8 0)), .p (.v (.int .u8 0)), .p (.v (.int .u8 0)), .p (.v (.int .u8 0)), .p (.v (.int .u8 0)), .p (.v (.int .u8 0)), .p (.v (.int .u8 0)), .p (.v (.int .u8 0)), .p (.v (.int .u8 0)), .p (.v (.int .u8 0)), .p (.v (.int .u8 0)), .p (.v (.int .u8 0)), .p (.v (.int .u8 0)), .p (.v (.int .u8 0)), .p (.v (.int .u8 0)), .p (.v (.int .u8 0)), .p (.v (.int .u8 0)), .p (.v (.int .u8 0)), .p (.v (.int .u8 0)), .p (.v (.int .u8 0)), .p (.v (.int .u8 0)), .p (.v (.int .u8 0)), .p (.v (.int .u8 0)), .p (.v (.int .u8 0)), .p (.v (.int .u8 0)), .p (.v (.int .u8 0)), .p (.v (.int .u8 0)), .p (.v (.int .u8 0)), .p (.v (.int .u8 0)), .p (.v (.int .u8 0)), .p (.v (.int .u8 0)), .p (.v (.int .u8 0)), .p (.v (.int .u8 0)), .p (.v (.int .u8 0)), .p (.v (.int .u8 0)), .p (.v (.int .u8 0)), .p (.v (.int .u8 0)), .p (.v (.int .u8 0)), .p (.v (.int .u8 0)), .p (.v (.int .u8 0)), .p (.v (.int .u8 0)), .p (.v (.int .u8 0)), .p (.v (.int .u8 0)), .p (.v (.int .u8 0)), .p (.v (.int .u8 0)), .p (.v (.int .u8 0)), .p (.v (.int .u8 0)), .p (.v (.int .u8 0)), .p (.v (.int .u8 0)), .p (.v (.int .u8 0)), .p (.v (.int .u8 0)), .p (.v (.int .u8 0)), .p (.v (.int .u8 0)), .p (.v (.int .u8 0)), .p (.v (.int .u8 0)), .p (.v (.int .u8 0)), .p (.v (.int .u8 0))], .array 64 5, none⟩ := rfl
theorem Tryd.T116 : Tryd.T 116 = some ⟨1, 8, [.p (.v .nilFunc)], .sc, none⟩ := rfl
theorem Tryd.T122 : Tryd.T 122 = some ⟨1, 8, [.p (.v .nilFunc)], .sc, none⟩ := rfl
theorem Tryd.T125 : Tryd.T 125 = some ⟨1, 8, [.p (.v .nilFunc)], .sc, none⟩ := rfl

set_option maxRecDepth 100000 in
set_option maxHeartbeats 4000000 in
theorem Tryd.tab : TabOK Tryd.prog Tryd.T := by
  intro t y h
  unfold Tryd.T at h
  split at h
  · simp only [Option.some.injEq] at h; subst h; exact Tryd.ty1
  · simp only [Option.some.injEq] at h; subst h; exact Tryd.ty2
  · simp only [Option.some.injEq] at h; subst h; exact Tryd.ty3
  · simp only [Option.some.injEq] at h; subst h; exact Tryd.ty4
  · simp only [Option.some.injEq] at h; subst h; exact Tryd.ty5
  · simp only [Option.some.injEq] at h; subst h; exact Tryd.ty9
  · simp only [Option.some.injEq] at h; subst h; exact Tryd.ty12
  · simp only [Option.some.injEq] at h; subst h; exact Tryd.ty21
  · simp only [Option.some.injEq] at h; subst h; exact Tryd.ty23
  · simp only [Option.some.injEq] at h; subst h; exact Tryd.ty24
  · simp only [Option.some.injEq] at h; subst h; exact Tryd.ty25
  · simp only [Option.some.injEq] at h; subst h; exact Tryd.ty27
  · simp only [Option.some.injEq] at h; subst h; exact Tryd.ty28
  · simp only [Option.some.injEq] at h; subst h; exact Tryd.ty29
  · simp only [Option.some.injEq] at h; subst h; exact Tryd.ty30
  · simp only [Option.some.injEq] at h; subst h; exact Tryd.ty31
  · simp only [Option.some.injEq] at h; subst h; exact Tryd.ty33
  · simp only [Option.some.injEq] at h; subst h; exact Tryd.ty34
  · simp only [Option.some.injEq] at h; subst h; exact Tryd.ty35
  · simp only [Option.some.injEq] at h; subst h; exact Tryd.ty36
  · simp only [Option.some.injEq] at h; subst h; exact Tryd.ty37
  · simp only [Option.some.injEq] at h; subst h; exact Tryd.ty38
  · simp only [Option.some.injEq] at h; subst h; exact Tryd.ty39
  · simp only [Option.some.injEq] at h; subst h; exact Tryd.ty40
  · simp only [Option.some.injEq] at h; subst h; exact Tryd.ty41
  · simp only [Option.some.injEq] at h; subst h; exact Tryd.ty42
  · simp only [Option.some.injEq] at h; subst h; exact Tryd.ty44
  · simp only [Option.some.injEq] at h; subst h; exact Tryd.ty45
  · simp only [Option.some.injEq] at h; subst h; exact Tryd.ty47
  · simp only [Option.some.injEq] at h; subst h; exact Tryd.ty49
  · simp only [Option.some.injEq] at h; subst h; exact Tryd.ty50
  · simp only [Option.some.injEq] at h; subst h; exact Tryd.ty51
  · simp only [Option.some.injEq] at h; subst h; exact Tryd.ty52
  · simp only [Option.some.injEq] at h; subst h; exact Tryd.ty53
  · simp only [Option.some.injEq] at h; subst h; exact Tryd.ty54
  · simp only [Option.some.injEq] at h; subst h; exact Tryd.ty55
  · simp only [Option.some.injEq] at h; subst h; exact Tryd.ty56
  · simp only [Option.some.injEq] at h; subst h; exact Tryd.ty57
  · simp only [Option.some.injEq] at h; subst h; exact Tryd.ty59
  · simp only [Option.some.injEq] at h; subst h; exact Tryd.ty60
  · simp only [Option.some.injEq] at h; subst h; exact Tryd.ty61
  · simp only [Option.some.injEq] at h; subst h; exact Tryd.ty62
  · simp only [Option.some.injEq] at h; subst h; exact Tryd.ty63
  · simp only [Option.some.injEq] at h; subst h; exact Tryd.ty64
  · simp only [Option.some.injEq] at h; subst h; exact Tryd.ty66
  · simp only [Option.some.injEq] at h; subst h; exact Tryd.ty68
  · simp only [Option.some.injEq] at h; subst h; exact Tryd.ty69
  · simp only [Option.some.injEq] at h; subst h; exact Tryd.ty70
  · simp only [Option.some.injEq] at h; subst h; exact Tryd.ty71
  · simp only [Option.some.injEq] at h; subst h; exact Tryd.ty72
  · simp only [Option.some.injEq] at h; subst h; exact Tryd.ty73
  · simp only [Option.some.injEq] at h; subst h; exact Tryd.ty75
  · simp only [Option.some.injEq] at h; subst h; exact Tryd.ty76
  · simp only [Option.some.injEq] at h; subst h; exact Tryd.ty77
  · simp only [Option.some.injEq] at h; subst h; exact Tryd.ty78
  · simp only [Option.some.injEq] at h; subst h; exact Tryd.ty79
  · simp only [Option.some.injEq] at h; subst h; exact Tryd.ty80
  · simp only [Option.some.injEq] at h; subst h; exact Tryd.ty81
  · simp only [Option.some.injEq] at h; subst h; exact Tryd.ty83
  · simp only [Option.some.injEq] at h; subst h; exact Tryd.ty84
  · simp only [Option.some.injEq] at h; subst h; exact Tryd.ty85
  · simp only [Option.some.injEq] at h; subst h; exact Tryd.ty86
  · simp only [Option.some.injEq] at h; subst h; exact Tryd.ty87
  · simp only [Option.some.injEq] at h; subst h; exact Tryd.ty88
  · simp only [Option.some.injEq] at h; subst h; exact Tryd.ty89
  · simp only [Option.some.injEq] at h; subst h; exact Tryd.ty90
  · simp only [Option.some.injEq] at h; subst h; exact Tryd.ty91
  · simp only [Option.some.injEq] at h; subst h; exact Tryd.ty92
  · simp only [Option.some.injEq] at h; subst h; exact Tryd.ty93
  · simp only [Option.some.injEq] at h; subst h; exact Tryd.ty94
  · simp only [Option.some.injEq] at h; subst h; exact Tryd.ty95
  · simp only [Option.some.injEq] at h; subst h; exact Tryd.ty96
  · simp only [Option.some.injEq] at h; subst h; exact Tryd.ty98
  · simp only [Option.some.injEq] at h; subst h; exact Tryd.ty99
  · simp only [Option.some.injEq] at h; subst h; exact Tryd.ty101
  · simp only [Option.some.injEq] at h; subst h; exact Tryd.ty102
  · simp only [Option.some.injEq] at h; subst h; exact Tryd.ty104
  · simp only [Option.some.injEq] at h; subst h; exact Tryd.ty105
  · simp only [Option.some.injEq] at h; subst h; exact Tryd.ty106
  · simp only [Option.some.injEq] at h; subst h; exact Tryd.ty108
  · simp only [Option.some.injEq] at h; subst h; exact Tryd.ty109
  · simp only [Option.some.injEq] at h; subst h; exact Tryd.ty112
  · simp only [Option.some.injEq] at h; subst h; exact Tryd.ty113
  · simp only [Option.some.injEq] at h; subst h; exact Tryd.ty114
  · simp only [Option.some.injEq] at h; subst h; exact Tryd.ty115
  · simp only [Option.some.injEq] at h; subst h; exact Tryd.ty116
  · simp only [Option.some.injEq] at h; subst h; exact Tryd.ty122
  · simp only [Option.some.injEq] at h; subst h; exact Tryd.ty125
  · simp at h
theorem Tryd.mixed : Tryd.prog.follows .mixedOrders = true := by kernel_rfl
end Go.Proofs.YtjceehpfncfpgaaDoor
