/- The table of types of this translation, by program. -/
import Derived.Test.YtijjfiebmdejaaaProg
import Derived.Test.YtijjfiebmdejaaaAvCode
import Derived.WalkKit
import Derived.WalkSpells
import Derived.KernelRfl
namespace Go.Proofs.Ytijjfiebmdejaaa
open Go Go.Av

instance Try.glob : Glob := ⟨fun _ => none⟩

theorem Try.ty1 : TyOK Try.prog 1 ⟨1, 8, [.p (.v .nilFunc)], .sc, none⟩ := by
  refine TyOK.of (z := .nilFunc) (by kernel_rfl) rfl (by first | rfl | decide | (simp [Value.cells, zval, scal])) rfl ?_ ?_ ?_
  · exact scOf_spec (by kernel_rfl)
  · intro cs h; first | rfl | (simp at h)
  · intro ks h; simp at h

theorem Try.ty2 : TyOK Try.prog 2 ⟨1, 8, [.p (.v (.int .i64 0))], .int .i64, none⟩ := by
  refine TyOK.of (z := .int .i64 0) (by kernel_rfl) rfl (by first | rfl | decide | (simp [Value.cells, zval, scal])) rfl ?_ ?_ ?_
  · show Try.prog.underlying 2 = _; kernel_rfl
  · intro cs h; first | rfl | (simp at h)
  · intro ks h; simp at h

theorem Try.ty3 : TyOK Try.prog 3 ⟨1, 8, [.p (.v (.int .i64 0))], .int .i64, none⟩ := by
  refine TyOK.of (z := .int .i64 0) (by kernel_rfl) rfl (by first | rfl | decide | (simp [Value.cells, zval, scal])) rfl ?_ ?_ ?_
  · show Try.prog.underlying 3 = _; kernel_rfl
  · intro cs h; first | rfl | (simp at h)
  · intro ks h; simp at h

theorem Try.ty4 : TyOK Try.prog 4 ⟨1, 1, [.p (.v (.bool false))], .bool, none⟩ := by
  refine TyOK.of (z := .bool false) (by kernel_rfl) rfl (by first | rfl | decide | (simp [Value.cells, zval, scal])) rfl ?_ ?_ ?_
  · show Try.prog.underlying 4 = _; kernel_rfl
  · intro cs h; first | rfl | (simp at h)
  · intro ks h; simp at h

theorem Try.ty5 : TyOK Try.prog 5 ⟨1, 1, [.p (.v (.int .u8 0))], .int .u8, none⟩ := by
  refine TyOK.of (z := .int .u8 0) (by kernel_rfl) rfl (by first | rfl | decide | (simp [Value.cells, zval, scal])) rfl ?_ ?_ ?_
  · show Try.prog.underlying 5 = _; kernel_rfl
  · intro cs h; first | rfl | (simp at h)
  · intro ks h; simp at h

theorem Try.ty9 : TyOK Try.prog 9 ⟨1, 16, [.p (.v (.string ByteArray.empty))], .str, none⟩ := by
  refine TyOK.of (z := .string ByteArray.empty) (by kernel_rfl) rfl (by first | rfl | decide | (simp [Value.cells, zval, scal])) rfl ?_ ?_ ?_
  · show Try.prog.underlying 9 = _; kernel_rfl
  · intro cs h; first | rfl | (simp at h)
  · intro ks h; simp at h

theorem Try.ty12 : TyOK Try.prog 12 ⟨1, 8, [.p (.v (.int .u64 0))], .int .u64, none⟩ := by
  refine TyOK.of (z := .int .u64 0) (by kernel_rfl) rfl (by first | rfl | decide | (simp [Value.cells, zval, scal])) rfl ?_ ?_ ?_
  · show Try.prog.underlying 12 = _; kernel_rfl
  · intro cs h; first | rfl | (simp at h)
  · intro ks h; simp at h

theorem Try.ty15 : TyOK Try.prog 15 ⟨1, 8, [.p (.v (.pointer none))], .sc, none⟩ := by
  refine TyOK.of (z := .pointer none) (by kernel_rfl) rfl (by first | rfl | decide | (simp [Value.cells, zval, scal])) rfl ?_ ?_ ?_
  · exact scOf_spec (by kernel_rfl)
  · intro cs h; first | rfl | (simp at h)
  · intro ks h; simp at h

theorem Try.ty16 : TyOK Try.prog 16 ⟨1, 8, [.p (.v (.pointer none))], .sc, none⟩ := by
  refine TyOK.of (z := .pointer none) (by kernel_rfl) rfl (by first | rfl | decide | (simp [Value.cells, zval, scal])) rfl ?_ ?_ ?_
  · exact scOf_spec (by kernel_rfl)
  · intro cs h; first | rfl | (simp at h)
  · intro ks h; simp at h

theorem Try.ty17 : TyOK Try.prog 17 ⟨1, 8, [.p (.v (.pointer none))], .sc, none⟩ := by
  refine TyOK.of (z := .pointer none) (by kernel_rfl) rfl (by first | rfl | decide | (simp [Value.cells, zval, scal])) rfl ?_ ?_ ?_
  · exact scOf_spec (by kernel_rfl)
  · intro cs h; first | rfl | (simp at h)
  · intro ks h; simp at h

theorem Try.ty21 : TyOK Try.prog 21 ⟨1, 4, [.p (.v (.int .i32 0))], .int .i32, none⟩ := by
  refine TyOK.of (z := .int .i32 0) (by kernel_rfl) rfl (by first | rfl | decide | (simp [Value.cells, zval, scal])) rfl ?_ ?_ ?_
  · show Try.prog.underlying 21 = _; kernel_rfl
  · intro cs h; first | rfl | (simp at h)
  · intro ks h; simp at h

theorem Try.ty22 : TyOK Try.prog 22 ⟨1, 24, [.nil 6], .slice 32, none⟩ := by
  refine TyOK.of (z := .slice none 0 0) (by kernel_rfl) rfl (by first | rfl | decide | (simp [Value.cells, zval, scal])) rfl ?_ ?_ ?_
  · show Try.prog.underlying 22 = _; kernel_rfl
  · intro cs h; first | rfl | (simp at h)
  · intro ks h; simp at h

theorem Try.ty23 : TyOK Try.prog 23 ⟨1, 8, [.p (.v .nilFunc)], .sc, none⟩ := by
  refine TyOK.of (z := .nilFunc) (by kernel_rfl) rfl (by first | rfl | decide | (simp [Value.cells, zval, scal])) rfl ?_ ?_ ?_
  · exact scOf_spec (by kernel_rfl)
  · intro cs h; first | rfl | (simp at h)
  · intro ks h; simp at h

theorem Try.ty24 : TyOK Try.prog 24 ⟨1, 8, [.p (.v .nilFunc)], .sc, none⟩ := by
  refine TyOK.of (z := .nilFunc) (by kernel_rfl) rfl (by first | rfl | decide | (simp [Value.cells, zval, scal])) rfl ?_ ?_ ?_
  · exact scOf_spec (by kernel_rfl)
  · intro cs h; first | rfl | (simp at h)
  · intro ks h; simp at h

theorem Try.ty25 : TyOK Try.prog 25 ⟨1, 24, [.nil 3], .slice 47, none⟩ := by
  refine TyOK.of (z := .slice none 0 0) (by kernel_rfl) rfl (by first | rfl | decide | (simp [Value.cells, zval, scal])) rfl ?_ ?_ ?_
  · show Try.prog.underlying 25 = _; kernel_rfl
  · intro cs h; first | rfl | (simp at h)
  · intro ks h; simp at h

theorem Try.ty27 : TyOK Try.prog 27 ⟨4, 48, [.nil 3, .p (.v (.int .i64 0)), .p (.v (.int .i64 0)), .p (.v (.bool false))], .struct [(0, 25), (1, 3), (2, 3), (3, 4)], none⟩ := by
  refine TyOK.of (z := .agg #[.slice none 0 0, .int .i64 0, .int .i64 0, .bool false]) (by kernel_rfl) rfl (by first | rfl | decide | (simp [Value.cells, zval, scal])) rfl ?_ ?_ ?_
  · exact structOf_spec (by kernel_rfl)
  · intro cs h; first | rfl | (simp at h)
  · intro ks h; simp at h

theorem Try.ty28 : TyOK Try.prog 28 ⟨1, 8, [.p (.v .nilFunc)], .sc, none⟩ := by
  refine TyOK.of (z := .nilFunc) (by kernel_rfl) rfl (by first | rfl | decide | (simp [Value.cells, zval, scal])) rfl ?_ ?_ ?_
  · exact scOf_spec (by kernel_rfl)
  · intro cs h; first | rfl | (simp at h)
  · intro ks h; simp at h

theorem Try.ty29 : TyOK Try.prog 29 ⟨1, 24, [.nil 1], .slice 5, none⟩ := by
  refine TyOK.of (z := .slice none 0 0) (by kernel_rfl) rfl (by first | rfl | decide | (simp [Value.cells, zval, scal])) rfl ?_ ?_ ?_
  · show Try.prog.underlying 29 = _; kernel_rfl
  · intro cs h; first | rfl | (simp at h)
  · intro ks h; simp at h

theorem Try.ty30 : TyOK Try.prog 30 ⟨1, 24, [.nil 1], .slice 3, none⟩ := by
  refine TyOK.of (z := .slice none 0 0) (by kernel_rfl) rfl (by first | rfl | decide | (simp [Value.cells, zval, scal])) rfl ?_ ?_ ?_
  · show Try.prog.underlying 30 = _; kernel_rfl
  · intro cs h; first | rfl | (simp at h)
  · intro ks h; simp at h

theorem Try.ty32 : TyOK Try.prog 32 ⟨6, 96, [.p (.v (.int .i64 0)), .p (.v (.string ByteArray.empty)), .p (.v (.string ByteArray.empty)), .nil 1, .p (.v (.int .i64 0)), .nil 1], .struct [(0, 3), (1, 9), (2, 9), (3, 29), (4, 3), (5, 30)], none⟩ := by
  refine TyOK.of (z := .agg #[.int .i64 0, .string ByteArray.empty, .string ByteArray.empty, .slice none 0 0, .int .i64 0, .slice none 0 0]) (by kernel_rfl) rfl (by first | rfl | decide | (simp [Value.cells, zval, scal])) rfl ?_ ?_ ?_
  · exact structOf_spec (by kernel_rfl)
  · intro cs h; first | rfl | (simp at h)
  · intro ks h; simp at h

theorem Try.ty33 : TyOK Try.prog 33 ⟨1, 8, [.p (.v (.int .i64 0))], .int .i64, none⟩ := by
  refine TyOK.of (z := .int .i64 0) (by kernel_rfl) rfl (by first | rfl | decide | (simp [Value.cells, zval, scal])) rfl ?_ ?_ ?_
  · show Try.prog.underlying 33 = _; kernel_rfl
  · intro cs h; first | rfl | (simp at h)
  · intro ks h; simp at h

theorem Try.ty35 : TyOK Try.prog 35 ⟨1, 8, [.p (.v .nilFunc)], .sc, none⟩ := by
  refine TyOK.of (z := .nilFunc) (by kernel_rfl) rfl (by first | rfl | decide | (simp [Value.cells, zval, scal])) rfl ?_ ?_ ?_
  · exact scOf_spec (by kernel_rfl)
  · intro cs h; first | rfl | (simp at h)
  · intro ks h; simp at h

theorem Try.ty37 : TyOK Try.prog 37 ⟨1, 8, [.p (.v .nilFunc)], .sc, none⟩ := by
  refine TyOK.of (z := .nilFunc) (by kernel_rfl) rfl (by first | rfl | decide | (simp [Value.cells, zval, scal])) rfl ?_ ?_ ?_
  · exact scOf_spec (by kernel_rfl)
  · intro cs h; first | rfl | (simp at h)
  · intro ks h; simp at h

theorem Try.ty38 : TyOK Try.prog 38 ⟨1, 8, [.p (.v .nilFunc)], .sc, none⟩ := by
  refine TyOK.of (z := .nilFunc) (by kernel_rfl) rfl (by first | rfl | decide | (simp [Value.cells, zval, scal])) rfl ?_ ?_ ?_
  · exact scOf_spec (by kernel_rfl)
  · intro cs h; first | rfl | (simp at h)
  · intro ks h; simp at h

theorem Try.ty39 : TyOK Try.prog 39 ⟨1, 8, [.p (.v .nilFunc)], .sc, none⟩ := by
  refine TyOK.of (z := .nilFunc) (by kernel_rfl) rfl (by first | rfl | decide | (simp [Value.cells, zval, scal])) rfl ?_ ?_ ?_
  · exact scOf_spec (by kernel_rfl)
  · intro cs h; first | rfl | (simp at h)
  · intro ks h; simp at h

theorem Try.ty40 : TyOK Try.prog 40 ⟨1, 8, [.p (.v .nilFunc)], .sc, none⟩ := by
  refine TyOK.of (z := .nilFunc) (by kernel_rfl) rfl (by first | rfl | decide | (simp [Value.cells, zval, scal])) rfl ?_ ?_ ?_
  · exact scOf_spec (by kernel_rfl)
  · intro cs h; first | rfl | (simp at h)
  · intro ks h; simp at h

theorem Try.ty41 : TyOK Try.prog 41 ⟨1, 8, [.p (.v .nilFunc)], .sc, none⟩ := by
  refine TyOK.of (z := .nilFunc) (by kernel_rfl) rfl (by first | rfl | decide | (simp [Value.cells, zval, scal])) rfl ?_ ?_ ?_
  · exact scOf_spec (by kernel_rfl)
  · intro cs h; first | rfl | (simp at h)
  · intro ks h; simp at h

theorem Try.ty42 : TyOK Try.prog 42 ⟨1, 8, [.p (.v .nilFunc)], .sc, none⟩ := by
  refine TyOK.of (z := .nilFunc) (by kernel_rfl) rfl (by first | rfl | decide | (simp [Value.cells, zval, scal])) rfl ?_ ?_ ?_
  · exact scOf_spec (by kernel_rfl)
  · intro cs h; first | rfl | (simp at h)
  · intro ks h; simp at h

theorem Try.ty43 : TyOK Try.prog 43 ⟨1, 8, [.p (.v .nilFunc)], .sc, none⟩ := by
  refine TyOK.of (z := .nilFunc) (by kernel_rfl) rfl (by first | rfl | decide | (simp [Value.cells, zval, scal])) rfl ?_ ?_ ?_
  · exact scOf_spec (by kernel_rfl)
  · intro cs h; first | rfl | (simp at h)
  · intro ks h; simp at h

theorem Try.ty44 : TyOK Try.prog 44 ⟨2, 48, [.nil 1, .nil 1], .array 2 30, none⟩ := by
  refine TyOK.of (z := .agg #[.slice none 0 0, .slice none 0 0]) (by kernel_rfl) rfl (by first | rfl | decide | (simp [Value.cells, zval, scal])) rfl ?_ ?_ ?_
  · show Try.prog.underlying 44 = _; kernel_rfl
  · intro cs h; first | rfl | (simp at h)
  · intro ks h; simp at h

theorem Try.ty45 : TyOK Try.prog 45 ⟨1, 8, [.p (.v .nilFunc)], .sc, none⟩ := by
  refine TyOK.of (z := .nilFunc) (by kernel_rfl) rfl (by first | rfl | decide | (simp [Value.cells, zval, scal])) rfl ?_ ?_ ?_
  · exact scOf_spec (by kernel_rfl)
  · intro cs h; first | rfl | (simp at h)
  · intro ks h; simp at h

theorem Try.ty47 : TyOK Try.prog 47 ⟨3, 48, [.p (.v (.string ByteArray.empty)), .nil 1, .p (.v (.int .i64 0))], .struct [(0, 9), (1, 29), (2, 3)], none⟩ := by
  refine TyOK.of (z := .agg #[.string ByteArray.empty, .slice none 0 0, .int .i64 0]) (by kernel_rfl) rfl (by first | rfl | decide | (simp [Value.cells, zval, scal])) rfl ?_ ?_ ?_
  · exact structOf_spec (by kernel_rfl)
  · intro cs h; first | rfl | (simp at h)
  · intro ks h; simp at h

theorem Try.ty48 : TyOK Try.prog 48 ⟨1, 8, [.p (.v .nilFunc)], .sc, none⟩ := by
  refine TyOK.of (z := .nilFunc) (by kernel_rfl) rfl (by first | rfl | decide | (simp [Value.cells, zval, scal])) rfl ?_ ?_ ?_
  · exact scOf_spec (by kernel_rfl)
  · intro cs h; first | rfl | (simp at h)
  · intro ks h; simp at h

theorem Try.ty49 : TyOK Try.prog 49 ⟨1, 8, [.p (.v .nilFunc)], .sc, none⟩ := by
  refine TyOK.of (z := .nilFunc) (by kernel_rfl) rfl (by first | rfl | decide | (simp [Value.cells, zval, scal])) rfl ?_ ?_ ?_
  · exact scOf_spec (by kernel_rfl)
  · intro cs h; first | rfl | (simp at h)
  · intro ks h; simp at h

theorem Try.ty50 : TyOK Try.prog 50 ⟨1, 8, [.p (.v .nilFunc)], .sc, none⟩ := by
  refine TyOK.of (z := .nilFunc) (by kernel_rfl) rfl (by first | rfl | decide | (simp [Value.cells, zval, scal])) rfl ?_ ?_ ?_
  · exact scOf_spec (by kernel_rfl)
  · intro cs h; first | rfl | (simp at h)
  · intro ks h; simp at h

theorem Try.ty51 : TyOK Try.prog 51 ⟨1, 8, [.p (.v .nilFunc)], .sc, none⟩ := by
  refine TyOK.of (z := .nilFunc) (by kernel_rfl) rfl (by first | rfl | decide | (simp [Value.cells, zval, scal])) rfl ?_ ?_ ?_
  · exact scOf_spec (by kernel_rfl)
  · intro cs h; first | rfl | (simp at h)
  · intro ks h; simp at h

theorem Try.ty52 : TyOK Try.prog 52 ⟨1, 8, [.p (.v .nilFunc)], .sc, none⟩ := by
  refine TyOK.of (z := .nilFunc) (by kernel_rfl) rfl (by first | rfl | decide | (simp [Value.cells, zval, scal])) rfl ?_ ?_ ?_
  · exact scOf_spec (by kernel_rfl)
  · intro cs h; first | rfl | (simp at h)
  · intro ks h; simp at h

theorem Try.ty53 : TyOK Try.prog 53 ⟨1, 8, [.p (.v .nilFunc)], .sc, none⟩ := by
  refine TyOK.of (z := .nilFunc) (by kernel_rfl) rfl (by first | rfl | decide | (simp [Value.cells, zval, scal])) rfl ?_ ?_ ?_
  · exact scOf_spec (by kernel_rfl)
  · intro cs h; first | rfl | (simp at h)
  · intro ks h; simp at h

theorem Try.ty55 : TyOK Try.prog 55 ⟨1, 8, [.p (.v .nilFunc)], .sc, none⟩ := by
  refine TyOK.of (z := .nilFunc) (by kernel_rfl) rfl (by first | rfl | decide | (simp [Value.cells, zval, scal])) rfl ?_ ?_ ?_
  · exact scOf_spec (by kernel_rfl)
  · intro cs h; first | rfl | (simp at h)
  · intro ks h; simp at h

theorem Try.ty56 : TyOK Try.prog 56 ⟨1, 8, [.p (.v .nilFunc)], .sc, none⟩ := by
  refine TyOK.of (z := .nilFunc) (by kernel_rfl) rfl (by first | rfl | decide | (simp [Value.cells, zval, scal])) rfl ?_ ?_ ?_
  · exact scOf_spec (by kernel_rfl)
  · intro cs h; first | rfl | (simp at h)
  · intro ks h; simp at h

theorem Try.ty57 : TyOK Try.prog 57 ⟨1, 8, [.p (.v .nilFunc)], .sc, none⟩ := by
  refine TyOK.of (z := .nilFunc) (by kernel_rfl) rfl (by first | rfl | decide | (simp [Value.cells, zval, scal])) rfl ?_ ?_ ?_
  · exact scOf_spec (by kernel_rfl)
  · intro cs h; first | rfl | (simp at h)
  · intro ks h; simp at h

theorem Try.ty58 : TyOK Try.prog 58 ⟨1, 8, [.p (.v .nilFunc)], .sc, none⟩ := by
  refine TyOK.of (z := .nilFunc) (by kernel_rfl) rfl (by first | rfl | decide | (simp [Value.cells, zval, scal])) rfl ?_ ?_ ?_
  · exact scOf_spec (by kernel_rfl)
  · intro cs h; first | rfl | (simp at h)
  · intro ks h; simp at h

theorem Try.ty59 : TyOK Try.prog 59 ⟨1, 8, [.p (.v .nilFunc)], .sc, none⟩ := by
  refine TyOK.of (z := .nilFunc) (by kernel_rfl) rfl (by first | rfl | decide | (simp [Value.cells, zval, scal])) rfl ?_ ?_ ?_
  · exact scOf_spec (by kernel_rfl)
  · intro cs h; first | rfl | (simp at h)
  · intro ks h; simp at h

theorem Try.ty60 : TyOK Try.prog 60 ⟨1, 8, [.p (.v (.pointer none))], .sc, none⟩ := by
  refine TyOK.of (z := .pointer none) (by kernel_rfl) rfl (by first | rfl | decide | (simp [Value.cells, zval, scal])) rfl ?_ ?_ ?_
  · exact scOf_spec (by kernel_rfl)
  · intro cs h; first | rfl | (simp at h)
  · intro ks h; simp at h

theorem Try.ty61 : TyOK Try.prog 61 ⟨1, 8, [.p (.v .nilFunc)], .sc, none⟩ := by
  refine TyOK.of (z := .nilFunc) (by kernel_rfl) rfl (by first | rfl | decide | (simp [Value.cells, zval, scal])) rfl ?_ ?_ ?_
  · exact scOf_spec (by kernel_rfl)
  · intro cs h; first | rfl | (simp at h)
  · intro ks h; simp at h

theorem Try.ty62 : TyOK Try.prog 62 ⟨1, 8, [.p (.v .nilFunc)], .sc, none⟩ := by
  refine TyOK.of (z := .nilFunc) (by kernel_rfl) rfl (by first | rfl | decide | (simp [Value.cells, zval, scal])) rfl ?_ ?_ ?_
  · exact scOf_spec (by kernel_rfl)
  · intro cs h; first | rfl | (simp at h)
  · intro ks h; simp at h

theorem Try.ty63 : TyOK Try.prog 63 ⟨1, 8, [.p (.v (.pointer none))], .sc, none⟩ := by
  refine TyOK.of (z := .pointer none) (by kernel_rfl) rfl (by first | rfl | decide | (simp [Value.cells, zval, scal])) rfl ?_ ?_ ?_
  · exact scOf_spec (by kernel_rfl)
  · intro cs h; first | rfl | (simp at h)
  · intro ks h; simp at h

theorem Try.ty64 : TyOK Try.prog 64 ⟨1, 8, [.p (.v .nilFunc)], .sc, none⟩ := by
  refine TyOK.of (z := .nilFunc) (by kernel_rfl) rfl (by first | rfl | decide | (simp [Value.cells, zval, scal])) rfl ?_ ?_ ?_
  · exact scOf_spec (by kernel_rfl)
  · intro cs h; first | rfl | (simp at h)
  · intro ks h; simp at h

theorem Try.ty65 : TyOK Try.prog 65 ⟨1, 8, [.p (.v .nilFunc)], .sc, none⟩ := by
  refine TyOK.of (z := .nilFunc) (by kernel_rfl) rfl (by first | rfl | decide | (simp [Value.cells, zval, scal])) rfl ?_ ?_ ?_
  · exact scOf_spec (by kernel_rfl)
  · intro cs h; first | rfl | (simp at h)
  · intro ks h; simp at h

theorem Try.ty66 : TyOK Try.prog 66 ⟨1, 8, [.p (.v .nilFunc)], .sc, none⟩ := by
  refine TyOK.of (z := .nilFunc) (by kernel_rfl) rfl (by first | rfl | decide | (simp [Value.cells, zval, scal])) rfl ?_ ?_ ?_
  · exact scOf_spec (by kernel_rfl)
  · intro cs h; first | rfl | (simp at h)
  · intro ks h; simp at h

theorem Try.ty67 : TyOK Try.prog 67 ⟨1, 8, [.p (.v .nilFunc)], .sc, none⟩ := by
  refine TyOK.of (z := .nilFunc) (by kernel_rfl) rfl (by first | rfl | decide | (simp [Value.cells, zval, scal])) rfl ?_ ?_ ?_
  · exact scOf_spec (by kernel_rfl)
  · intro cs h; first | rfl | (simp at h)
  · intro ks h; simp at h

theorem Try.ty69 : TyOK Try.prog 69 ⟨1, 8, [.p (.v .nilFunc)], .sc, none⟩ := by
  refine TyOK.of (z := .nilFunc) (by kernel_rfl) rfl (by first | rfl | decide | (simp [Value.cells, zval, scal])) rfl ?_ ?_ ?_
  · exact scOf_spec (by kernel_rfl)
  · intro cs h; first | rfl | (simp at h)
  · intro ks h; simp at h

theorem Try.ty71 : TyOK Try.prog 71 ⟨1, 8, [.p (.v .nilFunc)], .sc, none⟩ := by
  refine TyOK.of (z := .nilFunc) (by kernel_rfl) rfl (by first | rfl | decide | (simp [Value.cells, zval, scal])) rfl ?_ ?_ ?_
  · exact scOf_spec (by kernel_rfl)
  · intro cs h; first | rfl | (simp at h)
  · intro ks h; simp at h

theorem Try.ty72 : TyOK Try.prog 72 ⟨1, 8, [.p (.v .nilFunc)], .sc, none⟩ := by
  refine TyOK.of (z := .nilFunc) (by kernel_rfl) rfl (by first | rfl | decide | (simp [Value.cells, zval, scal])) rfl ?_ ?_ ?_
  · exact scOf_spec (by kernel_rfl)
  · intro cs h; first | rfl | (simp at h)
  · intro ks h; simp at h

theorem Try.ty73 : TyOK Try.prog 73 ⟨1, 8, [.p (.v .nilFunc)], .sc, none⟩ := by
  refine TyOK.of (z := .nilFunc) (by kernel_rfl) rfl (by first | rfl | decide | (simp [Value.cells, zval, scal])) rfl ?_ ?_ ?_
  · exact scOf_spec (by kernel_rfl)
  · intro cs h; first | rfl | (simp at h)
  · intro ks h; simp at h

theorem Try.ty74 : TyOK Try.prog 74 ⟨1, 8, [.p (.v .nilFunc)], .sc, none⟩ := by
  refine TyOK.of (z := .nilFunc) (by kernel_rfl) rfl (by first | rfl | decide | (simp [Value.cells, zval, scal])) rfl ?_ ?_ ?_
  · exact scOf_spec (by kernel_rfl)
  · intro cs h; first | rfl | (simp at h)
  · intro ks h; simp at h

theorem Try.ty75 : TyOK Try.prog 75 ⟨1, 8, [.p (.v .nilFunc)], .sc, none⟩ := by
  refine TyOK.of (z := .nilFunc) (by kernel_rfl) rfl (by first | rfl | decide | (simp [Value.cells, zval, scal])) rfl ?_ ?_ ?_
  · exact scOf_spec (by kernel_rfl)
  · intro cs h; first | rfl | (simp at h)
  · intro ks h; simp at h

theorem Try.ty78 : TyOK Try.prog 78 ⟨0, 0, [], .array 0 16, none⟩ := by
  refine TyOK.of (z := .agg #[]) (by kernel_rfl) rfl (by first | rfl | decide | (simp [Value.cells, zval, scal])) rfl ?_ ?_ ?_
  · show Try.prog.underlying 78 = _; kernel_rfl
  · intro cs h; first | rfl | (simp at h)
  · intro ks h; simp at h

theorem Try.ty81 : TyOK Try.prog 81 ⟨1, 8, [.p (.v .nilFunc)], .sc, none⟩ := by
  refine TyOK.of (z := .nilFunc) (by kernel_rfl) rfl (by first | rfl | decide | (simp [Value.cells, zval, scal])) rfl ?_ ?_ ?_
  · exact scOf_spec (by kernel_rfl)
  · intro cs h; first | rfl | (simp at h)
  · intro ks h; simp at h

theorem Try.ty82 : TyOK Try.prog 82 ⟨1, 4, [.p (.v (.int .u32 0))], .int .u32, none⟩ := by
  refine TyOK.of (z := .int .u32 0) (by kernel_rfl) rfl (by first | rfl | decide | (simp [Value.cells, zval, scal])) rfl ?_ ?_ ?_
  · show Try.prog.underlying 82 = _; kernel_rfl
  · intro cs h; first | rfl | (simp at h)
  · intro ks h; simp at h

theorem Try.ty85 : TyOK Try.prog 85 ⟨1, 8, [.p (.v .nilFunc)], .sc, none⟩ := by
  refine TyOK.of (z := .nilFunc) (by kernel_rfl) rfl (by first | rfl | decide | (simp [Value.cells, zval, scal])) rfl ?_ ?_ ?_
  · exact scOf_spec (by kernel_rfl)
  · intro cs h; first | rfl | (simp at h)
  · intro ks h; simp at h

theorem Try.ty86 : TyOK Try.prog 86 ⟨1, 8, [.p (.v (.pointer none))], .sc, none⟩ := by
  refine TyOK.of (z := .pointer none) (by kernel_rfl) rfl (by first | rfl | decide | (simp [Value.cells, zval, scal])) rfl ?_ ?_ ?_
  · exact scOf_spec (by kernel_rfl)
  · intro cs h; first | rfl | (simp at h)
  · intro ks h; simp at h

def Try.T : TypeId → Option Ty
  | 1 => some ⟨1, 8, [.p (.v .nilFunc)], .sc, none⟩
  | 2 => some ⟨1, 8, [.p (.v (.int .i64 0))], .int .i64, none⟩
  | 3 => some ⟨1, 8, [.p (.v (.int .i64 0))], .int .i64, none⟩
  | 4 => some ⟨1, 1, [.p (.v (.bool false))], .bool, none⟩
  | 5 => some ⟨1, 1, [.p (.v (.int .u8 0))], .int .u8, none⟩
  | 9 => some ⟨1, 16, [.p (.v (.string ByteArray.empty))], .str, none⟩
  | 12 => some ⟨1, 8, [.p (.v (.int .u64 0))], .int .u64, none⟩
  | 15 => some ⟨1, 8, [.p (.v (.pointer none))], .sc, none⟩
  | 16 => some ⟨1, 8, [.p (.v (.pointer none))], .sc, none⟩
  | 17 => some ⟨1, 8, [.p (.v (.pointer none))], .sc, none⟩
  | 21 => some ⟨1, 4, [.p (.v (.int .i32 0))], .int .i32, none⟩
  | 22 => some ⟨1, 24, [.nil 6], .slice 32, none⟩
  | 23 => some ⟨1, 8, [.p (.v .nilFunc)], .sc, none⟩
  | 24 => some ⟨1, 8, [.p (.v .nilFunc)], .sc, none⟩
  | 25 => some ⟨1, 24, [.nil 3], .slice 47, none⟩
  | 27 => some ⟨4, 48, [.nil 3, .p (.v (.int .i64 0)), .p (.v (.int .i64 0)), .p (.v (.bool false))], .struct [(0, 25), (1, 3), (2, 3), (3, 4)], none⟩
  | 28 => some ⟨1, 8, [.p (.v .nilFunc)], .sc, none⟩
  | 29 => some ⟨1, 24, [.nil 1], .slice 5, none⟩
  | 30 => some ⟨1, 24, [.nil 1], .slice 3, none⟩
  | 32 => some ⟨6, 96, [.p (.v (.int .i64 0)), .p (.v (.string ByteArray.empty)), .p (.v (.string ByteArray.empty)), .nil 1, .p (.v (.int .i64 0)), .nil 1], .struct [(0, 3), (1, 9), (2, 9), (3, 29), (4, 3), (5, 30)], none⟩
  | 33 => some ⟨1, 8, [.p (.v (.int .i64 0))], .int .i64, none⟩
  | 35 => some ⟨1, 8, [.p (.v .nilFunc)], .sc, none⟩
  | 37 => some ⟨1, 8, [.p (.v .nilFunc)], .sc, none⟩
  | 38 => some ⟨1, 8, [.p (.v .nilFunc)], .sc, none⟩
  | 39 => some ⟨1, 8, [.p (.v .nilFunc)], .sc, none⟩
  | 40 => some ⟨1, 8, [.p (.v .nilFunc)], .sc, none⟩
  | 41 => some ⟨1, 8, [.p (.v .nilFunc)], .sc, none⟩
  | 42 => some ⟨1, 8, [.p (.v .nilFunc)], .sc, none⟩
  | 43 => some ⟨1, 8, [.p (.v .nilFunc)], .sc, none⟩
  | 44 => some ⟨2, 48, [.nil 1, .nil 1], .array 2 30, none⟩
  | 45 => some ⟨1, 8, [.p (.v .nilFunc)], .sc, none⟩
  | 47 => some ⟨3, 48, [.p (.v (.string ByteArray.empty)), .nil 1, .p (.v (.int .i64 0))], .struct [(0, 9), (1, 29), (2, 3)], none⟩
  | 48 => some ⟨1, 8, [.p (.v .nilFunc)], .sc, none⟩
  | 49 => some ⟨1, 8, [.p (.v .nilFunc)], .sc, none⟩
  | 50 => some ⟨1, 8, [.p (.v .nilFunc)], .sc, none⟩
  | 51 => some ⟨1, 8, [.p (.v .nilFunc)], .sc, none⟩
  | 52 => some ⟨1, 8, [.p (.v .nilFunc)], .sc, none⟩
  | 53 => some ⟨1, 8, [.p (.v .nilFunc)], .sc, none⟩
  | 55 => some ⟨1, 8, [.p (.v .nilFunc)], .sc, none⟩
  | 56 => some ⟨1, 8, [.p (.v .nilFunc)], .sc, none⟩
  | 57 => some ⟨1, 8, [.p (.v .nilFunc)], .sc, none⟩
  | 58 => some ⟨1, 8, [.p (.v .nilFunc)], .sc, none⟩
  | 59 => some ⟨1, 8, [.p (.v .nilFunc)], .sc, none⟩
  | 60 => some ⟨1, 8, [.p (.v (.pointer none))], .sc, none⟩
  | 61 => some ⟨1, 8, [.p (.v .nilFunc)], .sc, none⟩
  | 62 => some ⟨1, 8, [.p (.v .nilFunc)], .sc, none⟩
  | 63 => some ⟨1, 8, [.p (.v (.pointer none))], .sc, none⟩
  | 64 => some ⟨1, 8, [.p (.v .nilFunc)], .sc, none⟩
  | 65 => some ⟨1, 8, [.p (.v .nilFunc)], .sc, none⟩
  | 66 => some ⟨1, 8, [.p (.v .nilFunc)], .sc, none⟩
  | 67 => some ⟨1, 8, [.p (.v .nilFunc)], .sc, none⟩
  | 69 => some ⟨1, 8, [.p (.v .nilFunc)], .sc, none⟩
  | 71 => some ⟨1, 8, [.p (.v .nilFunc)], .sc, none⟩
  | 72 => some ⟨1, 8, [.p (.v .nilFunc)], .sc, none⟩
  | 73 => some ⟨1, 8, [.p (.v .nilFunc)], .sc, none⟩
  | 74 => some ⟨1, 8, [.p (.v .nilFunc)], .sc, none⟩
  | 75 => some ⟨1, 8, [.p (.v .nilFunc)], .sc, none⟩
  | 78 => some ⟨0, 0, [], .array 0 16, none⟩
  | 81 => some ⟨1, 8, [.p (.v .nilFunc)], .sc, none⟩
  | 82 => some ⟨1, 4, [.p (.v (.int .u32 0))], .int .u32, none⟩
  | 85 => some ⟨1, 8, [.p (.v .nilFunc)], .sc, none⟩
  | 86 => some ⟨1, 8, [.p (.v (.pointer none))], .sc, none⟩
  | _ => none

theorem Try.T1 : Try.T 1 = some ⟨1, 8, [.p (.v .nilFunc)], .sc, none⟩ := rfl
theorem Try.T2 : Try.T 2 = some ⟨1, 8, [.p (.v (.int .i64 0))], .int .i64, none⟩ := rfl
theorem Try.T3 : Try.T 3 = some ⟨1, 8, [.p (.v (.int .i64 0))], .int .i64, none⟩ := rfl
theorem Try.T4 : Try.T 4 = some ⟨1, 1, [.p (.v (.bool false))], .bool, none⟩ := rfl
theorem Try.T5 : Try.T 5 = some ⟨1, 1, [.p (.v (.int .u8 0))], .int .u8, none⟩ := rfl
theorem Try.T9 : Try.T 9 = some ⟨1, 16, [.p (.v (.string ByteArray.empty))], .str, none⟩ := rfl
theorem Try.T12 : Try.T 12 = some ⟨1, 8, [.p (.v (.int .u64 0))], .int .u64, none⟩ := rfl
theorem Try.T15 : Try.T 15 = some ⟨1, 8, [.p (.v (.pointer none))], .sc, none⟩ := rfl
theorem Try.T16 : Try.T 16 = some ⟨1, 8, [.p (.v (.pointer none))], .sc, none⟩ := rfl
theorem Try.T17 : Try.T 17 = some ⟨1, 8, [.p (.v (.pointer none))], .sc, none⟩ := rfl
theorem Try.T21 : Try.T 21 = some ⟨1, 4, [.p (.v (.int .i32 0))], .int .i32, none⟩ := rfl
theorem Try.T22 : Try.T 22 = some ⟨1, 24, [.nil 6], .slice 32, none⟩ := rfl
theorem Try.T23 : Try.T 23 = some ⟨1, 8, [.p (.v .nilFunc)], .sc, none⟩ := rfl
theorem Try.T24 : Try.T 24 = some ⟨1, 8, [.p (.v .nilFunc)], .sc, none⟩ := rfl
theorem Try.T25 : Try.T 25 = some ⟨1, 24, [.nil 3], .slice 47, none⟩ := rfl
theorem Try.T27 : Try.T 27 = some ⟨4, 48, [.nil 3, .p (.v (.int .i64 0)), .p (.v (.int .i64 0)), .p (.v (.bool false))], .struct [(0, 25), (1, 3), (2, 3), (3, 4)], none⟩ := rfl
theorem Try.T28 : Try.T 28 = some ⟨1, 8, [.p (.v .nilFunc)], .sc, none⟩ := rfl
theorem Try.T29 : Try.T 29 = some ⟨1, 24, [.nil 1], .slice 5, none⟩ := rfl
theorem Try.T30 : Try.T 30 = some ⟨1, 24, [.nil 1], .slice 3, none⟩ := rfl
theorem Try.T32 : Try.T 32 = some ⟨6, 96, [.p (.v (.int .i64 0)), .p (.v (.string ByteArray.empty)), .p (.v (.string ByteArray.empty)), .nil 1, .p (.v (.int .i64 0)), .nil 1], .struct [(0, 3), (1, 9), (2, 9), (3, 29), (4, 3), (5, 30)], none⟩ := rfl
theorem Try.T33 : Try.T 33 = some ⟨1, 8, [.p (.v (.int .i64 0))], .int .i64, none⟩ := rfl
theorem Try.T35 : Try.T 35 = some ⟨1, 8, [.p (.v .nilFunc)], .sc, none⟩ := rfl
theorem Try.T37 : Try.T 37 = some ⟨1, 8, [.p (.v .nilFunc)], .sc, none⟩ := rfl
theorem Try.T38 : Try.T 38 = some ⟨1, 8, [.p (.v .nilFunc)], .sc, none⟩ := rfl
theorem Try.T39 : Try.T 39 = some ⟨1, 8, [.p (.v .nilFunc)], .sc, none⟩ := rfl
theorem Try.T40 : Try.T 40 = some ⟨1, 8, [.p (.v .nilFunc)], .sc, none⟩ := rfl
theorem Try.T41 : Try.T 41 = some ⟨1, 8, [.p (.v .nilFunc)], .sc, none⟩ := rfl
theorem Try.T42 : Try.T 42 = some ⟨1, 8, [.p (.v .nilFunc)], .sc, none⟩ := rfl
theorem Try.T43 : Try.T 43 = some ⟨1, 8, [.p (.v .nilFunc)], .sc, none⟩ := rfl
theorem Try.T44 : Try.T 44 = some ⟨2, 48, [.nil 1, .nil 1], .array 2 30, none⟩ := rfl
theorem Try.T45 : Try.T 45 = some ⟨1, 8, [.p (.v .nilFunc)], .sc, none⟩ := rfl
theorem Try.T47 : Try.T 47 = some ⟨3, 48, [.p (.v (.string ByteArray.empty)), .nil 1, .p (.v (.int .i64 0))], .struct [(0, 9), (1, 29), (2, 3)], none⟩ := rfl
theorem Try.T48 : Try.T 48 = some ⟨1, 8, [.p (.v .nilFunc)], .sc, none⟩ := rfl
theorem Try.T49 : Try.T 49 = some ⟨1, 8, [.p (.v .nilFunc)], .sc, none⟩ := rfl
theorem Try.T50 : Try.T 50 = some ⟨1, 8, [.p (.v .nilFunc)], .sc, none⟩ := rfl
theorem Try.T51 : Try.T 51 = some ⟨1, 8, [.p (.v .nilFunc)], .sc, none⟩ := rfl
theorem Try.T52 : Try.T 52 = some ⟨1, 8, [.p (.v .nilFunc)], .sc, none⟩ := rfl
theorem Try.T53 : Try.T 53 = some ⟨1, 8, [.p (.v .nilFunc)], .sc, none⟩ := rfl
theorem Try.T55 : Try.T 55 = some ⟨1, 8, [.p (.v .nilFunc)], .sc, none⟩ := rfl
theorem Try.T56 : Try.T 56 = some ⟨1, 8, [.p (.v .nilFunc)], .sc, none⟩ := rfl
theorem Try.T57 : Try.T 57 = some ⟨1, 8, [.p (.v .nilFunc)], .sc, none⟩ := rfl
theorem Try.T58 : Try.T 58 = some ⟨1, 8, [.p (.v .nilFunc)], .sc, none⟩ := rfl
theorem Try.T59 : Try.T 59 = some ⟨1, 8, [.p (.v .nilFunc)], .sc, none⟩ := rfl
theorem Try.T60 : Try.T 60 = some ⟨1, 8, [.p (.v (.pointer none))], .sc, none⟩ := rfl
theorem Try.T61 : Try.T 61 = some ⟨1, 8, [.p (.v .nilFunc)], .sc, none⟩ := rfl
theorem Try.T62 : Try.T 62 = some ⟨1, 8, [.p (.v .nilFunc)], .sc, none⟩ := rfl
theorem Try.T63 : Try.T 63 = some ⟨1, 8, [.p (.v (.pointer none))], .sc, none⟩ := rfl
theorem Try.T64 : Try.T 64 = some ⟨1, 8, [.p (.v .nilFunc)], .sc, none⟩ := rfl
theorem Try.T65 : Try.T 65 = some ⟨1, 8, [.p (.v .nilFunc)], .sc, none⟩ := rfl
theorem Try.T66 : Try.T 66 = some ⟨1, 8, [.p (.v .nilFunc)], .sc, none⟩ := rfl
theorem Try.T67 : Try.T 67 = some ⟨1, 8, [.p (.v .nilFunc)], .sc, none⟩ := rfl
theorem Try.T69 : Try.T 69 = some ⟨1, 8, [.p (.v .nilFunc)], .sc, none⟩ := rfl
theorem Try.T71 : Try.T 71 = some ⟨1, 8, [.p (.v .nilFunc)], .sc, none⟩ := rfl
theorem Try.T72 : Try.T 72 = some ⟨1, 8, [.p (.v .nilFunc)], .sc, none⟩ := rfl
theorem Try.T73 : Try.T 73 = some ⟨1, 8, [.p (.v .nilFunc)], .sc, none⟩ := rfl
theorem Try.T74 : Try.T 74 = some ⟨1, 8, [.p (.v .nilFunc)], .sc, none⟩ := rfl
theorem Try.T75 : Try.T 75 = some ⟨1, 8, [.p (.v .nilFunc)], .sc, none⟩ := rfl
theorem Try.T78 : Try.T 78 = some ⟨0, 0, [], .array 0 16, none⟩ := rfl
theorem Try.T81 : Try.T 81 = some ⟨1, 8, [.p (.v .nilFunc)], .sc, none⟩ := rfl
theorem Try.T82 : Try.T 82 = some ⟨1, 4, [.p (.v (.int .u32 0))], .int .u32, none⟩ := rfl
theorem Try.T85 : Try.T 85 = some ⟨1, 8, [.p (.v .nilFunc)], .sc, none⟩ := rfl
theorem Try.T86 : Try.T 86 = some ⟨1, 8, [.p (.v (.pointer none))], .sc, none⟩ := rfl

set_option maxRecDepth 100000 in
set_option maxHeartbeats 4000000 in
theorem Try.tab : TabOK Try.prog Try.T := by
  intro t y h
  unfold Try.T at h
  split at h
  · simp only [Option.some.injEq] at h; subst h; exact Try.ty1
  · simp only [Option.some.injEq] at h; subst h; exact Try.ty2
  · simp only [Option.some.injEq] at h; subst h; exact Try.ty3
  · simp only [Option.some.injEq] at h; subst h; exact Try.ty4
  · simp only [Option.some.injEq] at h; subst h; exact Try.ty5
  · simp only [Option.some.injEq] at h; subst h; exact Try.ty9
  · simp only [Option.some.injEq] at h; subst h; exact Try.ty12
  · simp only [Option.some.injEq] at h; subst h; exact Try.ty15
  · simp only [Option.some.injEq] at h; subst h; exact Try.ty16
  · simp only [Option.some.injEq] at h; subst h; exact Try.ty17
  · simp only [Option.some.injEq] at h; subst h; exact Try.ty21
  · simp only [Option.some.injEq] at h; subst h; exact Try.ty22
  · simp only [Option.some.injEq] at h; subst h; exact Try.ty23
  · simp only [Option.some.injEq] at h; subst h; exact Try.ty24
  · simp only [Option.some.injEq] at h; subst h; exact Try.ty25
  · simp only [Option.some.injEq] at h; subst h; exact Try.ty27
  · simp only [Option.some.injEq] at h; subst h; exact Try.ty28
  · simp only [Option.some.injEq] at h; subst h; exact Try.ty29
  · simp only [Option.some.injEq] at h; subst h; exact Try.ty30
  · simp only [Option.some.injEq] at h; subst h; exact Try.ty32
  · simp only [Option.some.injEq] at h; subst h; exact Try.ty33
  · simp only [Option.some.injEq] at h; subst h; exact Try.ty35
  · simp only [Option.some.injEq] at h; subst h; exact Try.ty37
  · simp only [Option.some.injEq] at h; subst h; exact Try.ty38
  · simp only [Option.some.injEq] at h; subst h; exact Try.ty39
  · simp only [Option.some.injEq] at h; subst h; exact Try.ty40
  · simp only [Option.some.injEq] at h; subst h; exact Try.ty41
  · simp only [Option.some.injEq] at h; subst h; exact Try.ty42
  · simp only [Option.some.injEq] at h; subst h; exact Try.ty43
  · simp only [Option.some.injEq] at h; subst h; exact Try.ty44
  · simp only [Option.some.injEq] at h; subst h; exact Try.ty45
  · simp only [Option.some.injEq] at h; subst h; exact Try.ty47
  · simp only [Option.some.injEq] at h; subst h; exact Try.ty48
  · simp only [Option.some.injEq] at h; subst h; exact Try.ty49
  · simp only [Option.some.injEq] at h; subst h; exact Try.ty50
  · simp only [Option.some.injEq] at h; subst h; exact Try.ty51
  · simp only [Option.some.injEq] at h; subst h; exact Try.ty52
  · simp only [Option.some.injEq] at h; subst h; exact Try.ty53
  · simp only [Option.some.injEq] at h; subst h; exact Try.ty55
  · simp only [Option.some.injEq] at h; subst h; exact Try.ty56
  · simp only [Option.some.injEq] at h; subst h; exact Try.ty57
  · simp only [Option.some.injEq] at h; subst h; exact Try.ty58
  · simp only [Option.some.injEq] at h; subst h; exact Try.ty59
  · simp only [Option.some.injEq] at h; subst h; exact Try.ty60
  · simp only [Option.some.injEq] at h; subst h; exact Try.ty61
  · simp only [Option.some.injEq] at h; subst h; exact Try.ty62
  · simp only [Option.some.injEq] at h; subst h; exact Try.ty63
  · simp only [Option.some.injEq] at h; subst h; exact Try.ty64
  · simp only [Option.some.injEq] at h; subst h; exact Try.ty65
  · simp only [Option.some.injEq] at h; subst h; exact Try.ty66
  · simp only [Option.some.injEq] at h; subst h; exact Try.ty67
  · simp only [Option.some.injEq] at h; subst h; exact Try.ty69
  · simp only [Option.some.injEq] at h; subst h; exact Try.ty71
  · simp only [Option.some.injEq] at h; subst h; exact Try.ty72
  · simp only [Option.some.injEq] at h; subst h; exact Try.ty73
  · simp only [Option.some.injEq] at h; subst h; exact Try.ty74
  · simp only [Option.some.injEq] at h; subst h; exact Try.ty75
  · simp only [Option.some.injEq] at h; subst h; exact Try.ty78
  · simp only [Option.some.injEq] at h; subst h; exact Try.ty81
  · simp only [Option.some.injEq] at h; subst h; exact Try.ty82
  · simp only [Option.some.injEq] at h; subst h; exact Try.ty85
  · simp only [Option.some.injEq] at h; subst h; exact Try.ty86
  · simp at h
theorem Try.mixed : Try.prog.follows .mixedOrders = true := by kernel_rfl
end Go.Proofs.Ytijjfiebmdejaaa
