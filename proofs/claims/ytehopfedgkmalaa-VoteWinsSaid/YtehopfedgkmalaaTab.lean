/- The table of types of this translation, by program. -/
import Derived.Test.YtehopfedgkmalaaProg
import Derived.Test.YtehopfedgkmalaaAvCode
import Derived.WalkKit
import Derived.WalkSpells
import Derived.KernelRfl
namespace Go.Proofs.Ytehopfedgkmalaa
open Go Go.Av

theorem Try.ty1 : TyOK Try.prog 1 ⟨1, 8, [.p (.v .nilFunc)], .sc, none⟩ := by
  refine TyOK.of (z := .nilFunc) (by kernel_rfl) rfl (by first | rfl | decide | (simp [Value.cells, zval, scal])) rfl ?_ ?_ ?_
  · exact scOf_spec (by kernel_rfl)
  · intro cs h; first | rfl | (simp at h)
  · intro ks h; simp at h

theorem Try.ty2 : TyOK Try.prog 2 ⟨1, 8, [.p (.v (.int .i64 0))], .int .i64, none⟩ := by
  refine TyOK.of (z := .int .i64 0) (by kernel_rfl) rfl (by first | rfl | decide | (simp [Value.cells, zval, scal])) rfl ?_ ?_ ?_
  · show Try.prog.underlying 2 = _; kernel_rfl
  · intro cs h; first | rfl | (simp at h)
  · intro ks h; simp at h

theorem Try.ty3 : TyOK Try.prog 3 ⟨1, 8, [.p (.v (.int .i64 0))], .int .i64, none⟩ := by
  refine TyOK.of (z := .int .i64 0) (by kernel_rfl) rfl (by first | rfl | decide | (simp [Value.cells, zval, scal])) rfl ?_ ?_ ?_
  · show Try.prog.underlying 3 = _; kernel_rfl
  · intro cs h; first | rfl | (simp at h)
  · intro ks h; simp at h

theorem Try.ty4 : TyOK Try.prog 4 ⟨1, 1, [.p (.v (.bool false))], .bool, none⟩ := by
  refine TyOK.of (z := .bool false) (by kernel_rfl) rfl (by first | rfl | decide | (simp [Value.cells, zval, scal])) rfl ?_ ?_ ?_
  · show Try.prog.underlying 4 = _; kernel_rfl
  · intro cs h; first | rfl | (simp at h)
  · intro ks h; simp at h

theorem Try.ty5 : TyOK Try.prog 5 ⟨1, 1, [.p (.v (.int .u8 0))], .int .u8, none⟩ := by
  refine TyOK.of (z := .int .u8 0) (by kernel_rfl) rfl (by first | rfl | decide | (simp [Value.cells, zval, scal])) rfl ?_ ?_ ?_
  · show Try.prog.underlying 5 = _; kernel_rfl
  · intro cs h; first | rfl | (simp at h)
  · intro ks h; simp at h

theorem Try.ty9 : TyOK Try.prog 9 ⟨1, 16, [.p (.v (.string ByteArray.empty))], .str, none⟩ := by
  refine TyOK.of (z := .string ByteArray.empty) (by kernel_rfl) rfl (by first | rfl | decide | (simp [Value.cells, zval, scal])) rfl ?_ ?_ ?_
  · show Try.prog.underlying 9 = _; kernel_rfl
  · intro cs h; first | rfl | (simp at h)
  · intro ks h; simp at h

theorem Try.ty12 : TyOK Try.prog 12 ⟨1, 8, [.p (.v (.int .u64 0))], .int .u64, none⟩ := by
  refine TyOK.of (z := .int .u64 0) (by kernel_rfl) rfl (by first | rfl | decide | (simp [Value.cells, zval, scal])) rfl ?_ ?_ ?_
  · show Try.prog.underlying 12 = _; kernel_rfl
  · intro cs h; first | rfl | (simp at h)
  · intro ks h; simp at h

theorem Try.ty21 : TyOK Try.prog 21 ⟨1, 4, [.p (.v (.int .i32 0))], .int .i32, none⟩ := by
  refine TyOK.of (z := .int .i32 0) (by kernel_rfl) rfl (by first | rfl | decide | (simp [Value.cells, zval, scal])) rfl ?_ ?_ ?_
  · show Try.prog.underlying 21 = _; kernel_rfl
  · intro cs h; first | rfl | (simp at h)
  · intro ks h; simp at h

theorem Try.ty22 : TyOK Try.prog 22 ⟨1, 24, [.nil 4], .slice 29, none⟩ := by
  refine TyOK.of (z := .slice none 0 0) (by kernel_rfl) rfl (by first | rfl | decide | (simp [Value.cells, zval, scal])) rfl ?_ ?_ ?_
  · show Try.prog.underlying 22 = _; kernel_rfl
  · intro cs h; first | rfl | (simp at h)
  · intro ks h; simp at h

theorem Try.ty23 : TyOK Try.prog 23 ⟨1, 24, [.nil 1], .slice 3, none⟩ := by
  refine TyOK.of (z := .slice none 0 0) (by kernel_rfl) rfl (by first | rfl | decide | (simp [Value.cells, zval, scal])) rfl ?_ ?_ ?_
  · show Try.prog.underlying 23 = _; kernel_rfl
  · intro cs h; first | rfl | (simp at h)
  · intro ks h; simp at h

theorem Try.ty24 : TyOK Try.prog 24 ⟨1, 8, [.p (.v .nilFunc)], .sc, none⟩ := by
  refine TyOK.of (z := .nilFunc) (by kernel_rfl) rfl (by first | rfl | decide | (simp [Value.cells, zval, scal])) rfl ?_ ?_ ?_
  · exact scOf_spec (by kernel_rfl)
  · intro cs h; first | rfl | (simp at h)
  · intro ks h; simp at h

theorem Try.ty26 : TyOK Try.prog 26 ⟨2, 16, [.p (.v (.int .i64 0)), .p (.v (.int .i64 0))], .struct [(0, 3), (1, 3)], some [.int .i64, .int .i64]⟩ := by
  refine TyOK.of (z := .agg #[.int .i64 0, .int .i64 0]) (by kernel_rfl) rfl (by first | rfl | decide | (simp [Value.cells, zval, scal])) rfl ?_ ?_ ?_
  · exact structOf_spec (by kernel_rfl)
  · intro cs h; first | rfl | (simp at h)
  · intro ks h; simp only [Option.some.injEq] at h; subst h; refine ⟨rfl, fun xs ys hx hy w => ⟨?_, by kernel_rfl⟩⟩
    obtain ⟨_, _, rfl, ⟨x0, rfl⟩, hx⟩ := hx; obtain ⟨_, _, rfl, ⟨x1, rfl⟩, hx⟩ := hx; subst hx
    obtain ⟨_, _, rfl, ⟨y0, rfl⟩, hy⟩ := hy; obtain ⟨_, _, rfl, ⟨y1, rfl⟩, hy⟩ := hy; subst hy
    show (Op.equalIn 10000 26 (.agg #[.int .i64 x0, .int .i64 x1]) (.agg #[.int .i64 y0, .int .i64 y1])).run Try.prog w = _
    go_simp
    simp only [ceq, veq]
    all_goals (repeat' split)
    all_goals simp_all

theorem Try.ty27 : TyOK Try.prog 27 ⟨1, 24, [.nil 4], .slice 36, none⟩ := by
  refine TyOK.of (z := .slice none 0 0) (by kernel_rfl) rfl (by first | rfl | decide | (simp [Value.cells, zval, scal])) rfl ?_ ?_ ?_
  · show Try.prog.underlying 27 = _; kernel_rfl
  · intro cs h; first | rfl | (simp at h)
  · intro ks h; simp at h

theorem Try.ty29 : TyOK Try.prog 29 ⟨4, 48, [.p (.v (.int .i64 0)), .p (.v (.int .i64 0)), .p (.v (.int .i64 0)), .nil 4], .struct [(0, 26), (2, 3), (3, 27)], none⟩ := by
  refine TyOK.of (z := .agg #[.int .i64 0, .int .i64 0, .int .i64 0, .slice none 0 0]) (by kernel_rfl) rfl (by first | rfl | decide | (simp [Value.cells, zval, scal])) rfl ?_ ?_ ?_
  · exact structOf_spec (by kernel_rfl)
  · intro cs h; first | rfl | (simp at h)
  · intro ks h; simp at h

theorem Try.ty30 : TyOK Try.prog 30 ⟨1, 8, [.p (.v .nilFunc)], .sc, none⟩ := by
  refine TyOK.of (z := .nilFunc) (by kernel_rfl) rfl (by first | rfl | decide | (simp [Value.cells, zval, scal])) rfl ?_ ?_ ?_
  · exact scOf_spec (by kernel_rfl)
  · intro cs h; first | rfl | (simp at h)
  · intro ks h; simp at h

theorem Try.ty31 : TyOK Try.prog 31 ⟨1, 8, [.p (.v .nilFunc)], .sc, none⟩ := by
  refine TyOK.of (z := .nilFunc) (by kernel_rfl) rfl (by first | rfl | decide | (simp [Value.cells, zval, scal])) rfl ?_ ?_ ?_
  · exact scOf_spec (by kernel_rfl)
  · intro cs h; first | rfl | (simp at h)
  · intro ks h; simp at h

theorem Try.ty32 : TyOK Try.prog 32 ⟨1, 8, [.p (.v .nilFunc)], .sc, none⟩ := by
  refine TyOK.of (z := .nilFunc) (by kernel_rfl) rfl (by first | rfl | decide | (simp [Value.cells, zval, scal])) rfl ?_ ?_ ?_
  · exact scOf_spec (by kernel_rfl)
  · intro cs h; first | rfl | (simp at h)
  · intro ks h; simp at h

theorem Try.ty33 : TyOK Try.prog 33 ⟨1, 8, [.p (.v .nilFunc)], .sc, none⟩ := by
  refine TyOK.of (z := .nilFunc) (by kernel_rfl) rfl (by first | rfl | decide | (simp [Value.cells, zval, scal])) rfl ?_ ?_ ?_
  · exact scOf_spec (by kernel_rfl)
  · intro cs h; first | rfl | (simp at h)
  · intro ks h; simp at h

theorem Try.ty34 : TyOK Try.prog 34 ⟨1, 8, [.p (.v .nilFunc)], .sc, none⟩ := by
  refine TyOK.of (z := .nilFunc) (by kernel_rfl) rfl (by first | rfl | decide | (simp [Value.cells, zval, scal])) rfl ?_ ?_ ?_
  · exact scOf_spec (by kernel_rfl)
  · intro cs h; first | rfl | (simp at h)
  · intro ks h; simp at h

theorem Try.ty36 : TyOK Try.prog 36 ⟨4, 32, [.p (.v (.int .i64 0)), .p (.v (.int .i64 0)), .p (.v (.int .i64 0)), .p (.v (.int .i64 0))], .struct [(0, 3), (1, 3), (2, 3), (3, 3)], some [.int .i64, .int .i64, .int .i64, .int .i64]⟩ := by
  refine TyOK.of (z := .agg #[.int .i64 0, .int .i64 0, .int .i64 0, .int .i64 0]) (by kernel_rfl) rfl (by first | rfl | decide | (simp [Value.cells, zval, scal])) rfl ?_ ?_ ?_
  · exact structOf_spec (by kernel_rfl)
  · intro cs h; first | rfl | (simp at h)
  · intro ks h; simp only [Option.some.injEq] at h; subst h; refine ⟨rfl, fun xs ys hx hy w => ⟨?_, by kernel_rfl⟩⟩
    obtain ⟨_, _, rfl, ⟨x0, rfl⟩, hx⟩ := hx; obtain ⟨_, _, rfl, ⟨x1, rfl⟩, hx⟩ := hx; obtain ⟨_, _, rfl, ⟨x2, rfl⟩, hx⟩ := hx; obtain ⟨_, _, rfl, ⟨x3, rfl⟩, hx⟩ := hx; subst hx
    obtain ⟨_, _, rfl, ⟨y0, rfl⟩, hy⟩ := hy; obtain ⟨_, _, rfl, ⟨y1, rfl⟩, hy⟩ := hy; obtain ⟨_, _, rfl, ⟨y2, rfl⟩, hy⟩ := hy; obtain ⟨_, _, rfl, ⟨y3, rfl⟩, hy⟩ := hy; subst hy
    show (Op.equalIn 10000 36 (.agg #[.int .i64 x0, .int .i64 x1, .int .i64 x2, .int .i64 x3]) (.agg #[.int .i64 y0, .int .i64 y1, .int .i64 y2, .int .i64 y3])).run Try.prog w = _
    go_simp
    simp only [ceq, veq]
    all_goals (repeat' split)
    all_goals simp_all

theorem Try.ty37 : TyOK Try.prog 37 ⟨1, 8, [.p (.v .nilFunc)], .sc, none⟩ := by
  refine TyOK.of (z := .nilFunc) (by kernel_rfl) rfl (by first | rfl | decide | (simp [Value.cells, zval, scal])) rfl ?_ ?_ ?_
  · exact scOf_spec (by kernel_rfl)
  · intro cs h; first | rfl | (simp at h)
  · intro ks h; simp at h

theorem Try.ty38 : TyOK Try.prog 38 ⟨1, 8, [.p (.v .nilFunc)], .sc, none⟩ := by
  refine TyOK.of (z := .nilFunc) (by kernel_rfl) rfl (by first | rfl | decide | (simp [Value.cells, zval, scal])) rfl ?_ ?_ ?_
  · exact scOf_spec (by kernel_rfl)
  · intro cs h; first | rfl | (simp at h)
  · intro ks h; simp at h

theorem Try.ty39 : TyOK Try.prog 39 ⟨1, 8, [.p (.v (.int .i64 0))], .int .i64, none⟩ := by
  refine TyOK.of (z := .int .i64 0) (by kernel_rfl) rfl (by first | rfl | decide | (simp [Value.cells, zval, scal])) rfl ?_ ?_ ?_
  · show Try.prog.underlying 39 = _; kernel_rfl
  · intro cs h; first | rfl | (simp at h)
  · intro ks h; simp at h

theorem Try.ty40 : TyOK Try.prog 40 ⟨1, 8, [.p (.v .nilFunc)], .sc, none⟩ := by
  refine TyOK.of (z := .nilFunc) (by kernel_rfl) rfl (by first | rfl | decide | (simp [Value.cells, zval, scal])) rfl ?_ ?_ ?_
  · exact scOf_spec (by kernel_rfl)
  · intro cs h; first | rfl | (simp at h)
  · intro ks h; simp at h

theorem Try.ty42 : TyOK Try.prog 42 ⟨1, 8, [.p (.v .nilFunc)], .sc, none⟩ := by
  refine TyOK.of (z := .nilFunc) (by kernel_rfl) rfl (by first | rfl | decide | (simp [Value.cells, zval, scal])) rfl ?_ ?_ ?_
  · exact scOf_spec (by kernel_rfl)
  · intro cs h; first | rfl | (simp at h)
  · intro ks h; simp at h

theorem Try.ty43 : TyOK Try.prog 43 ⟨1, 24, [.nil 7], .slice 45, none⟩ := by
  refine TyOK.of (z := .slice none 0 0) (by kernel_rfl) rfl (by first | rfl | decide | (simp [Value.cells, zval, scal])) rfl ?_ ?_ ?_
  · show Try.prog.underlying 43 = _; kernel_rfl
  · intro cs h; first | rfl | (simp at h)
  · intro ks h; simp at h

theorem Try.ty45 : TyOK Try.prog 45 ⟨7, 56, [.p (.v (.int .i64 0)), .p (.v (.int .i64 0)), .p (.v (.int .i64 0)), .p (.v (.int .i64 0)), .p (.v (.int .i64 0)), .p (.v (.int .i64 0)), .p (.v (.int .i64 0))], .struct [(0, 3), (1, 3), (2, 3), (3, 26), (5, 3), (6, 3)], some [.int .i64, .int .i64, .int .i64, .int .i64, .int .i64, .int .i64, .int .i64]⟩ := by
  refine TyOK.of (z := .agg #[.int .i64 0, .int .i64 0, .int .i64 0, .int .i64 0, .int .i64 0, .int .i64 0, .int .i64 0]) (by kernel_rfl) rfl (by first | rfl | decide | (simp [Value.cells, zval, scal])) rfl ?_ ?_ ?_
  · exact structOf_spec (by kernel_rfl)
  · intro cs h; first | rfl | (simp at h)
  · intro ks h; simp only [Option.some.injEq] at h; subst h; refine ⟨rfl, fun xs ys hx hy w => ⟨?_, by kernel_rfl⟩⟩
    obtain ⟨_, _, rfl, ⟨x0, rfl⟩, hx⟩ := hx; obtain ⟨_, _, rfl, ⟨x1, rfl⟩, hx⟩ := hx; obtain ⟨_, _, rfl, ⟨x2, rfl⟩, hx⟩ := hx; obtain ⟨_, _, rfl, ⟨x3, rfl⟩, hx⟩ := hx; obtain ⟨_, _, rfl, ⟨x4, rfl⟩, hx⟩ := hx; obtain ⟨_, _, rfl, ⟨x5, rfl⟩, hx⟩ := hx; obtain ⟨_, _, rfl, ⟨x6, rfl⟩, hx⟩ := hx; subst hx
    obtain ⟨_, _, rfl, ⟨y0, rfl⟩, hy⟩ := hy; obtain ⟨_, _, rfl, ⟨y1, rfl⟩, hy⟩ := hy; obtain ⟨_, _, rfl, ⟨y2, rfl⟩, hy⟩ := hy; obtain ⟨_, _, rfl, ⟨y3, rfl⟩, hy⟩ := hy; obtain ⟨_, _, rfl, ⟨y4, rfl⟩, hy⟩ := hy; obtain ⟨_, _, rfl, ⟨y5, rfl⟩, hy⟩ := hy; obtain ⟨_, _, rfl, ⟨y6, rfl⟩, hy⟩ := hy; subst hy
    show (Op.equalIn 10000 45 (.agg #[.int .i64 x0, .int .i64 x1, .int .i64 x2, .int .i64 x3, .int .i64 x4, .int .i64 x5, .int .i64 x6]) (.agg #[.int .i64 y0, .int .i64 y1, .int .i64 y2, .int .i64 y3, .int .i64 y4, .int .i64 y5, .int .i64 y6])).run Try.prog w = _
    go_simp
    simp only [ceq, veq]
    all_goals (repeat' split)
    all_goals simp_all

theorem Try.ty46 : TyOK Try.prog 46 ⟨1, 8, [.p (.v .nilFunc)], .sc, none⟩ := by
  refine TyOK.of (z := .nilFunc) (by kernel_rfl) rfl (by first | rfl | decide | (simp [Value.cells, zval, scal])) rfl ?_ ?_ ?_
  · exact scOf_spec (by kernel_rfl)
  · intro cs h; first | rfl | (simp at h)
  · intro ks h; simp at h

theorem Try.ty47 : TyOK Try.prog 47 ⟨1, 8, [.p (.v .nilFunc)], .sc, none⟩ := by
  refine TyOK.of (z := .nilFunc) (by kernel_rfl) rfl (by first | rfl | decide | (simp [Value.cells, zval, scal])) rfl ?_ ?_ ?_
  · exact scOf_spec (by kernel_rfl)
  · intro cs h; first | rfl | (simp at h)
  · intro ks h; simp at h

theorem Try.ty48 : TyOK Try.prog 48 ⟨1, 8, [.p (.v .nilFunc)], .sc, none⟩ := by
  refine TyOK.of (z := .nilFunc) (by kernel_rfl) rfl (by first | rfl | decide | (simp [Value.cells, zval, scal])) rfl ?_ ?_ ?_
  · exact scOf_spec (by kernel_rfl)
  · intro cs h; first | rfl | (simp at h)
  · intro ks h; simp at h

theorem Try.ty49 : TyOK Try.prog 49 ⟨1, 8, [.p (.v .nilFunc)], .sc, none⟩ := by
  refine TyOK.of (z := .nilFunc) (by kernel_rfl) rfl (by first | rfl | decide | (simp [Value.cells, zval, scal])) rfl ?_ ?_ ?_
  · exact scOf_spec (by kernel_rfl)
  · intro cs h; first | rfl | (simp at h)
  · intro ks h; simp at h

theorem Try.ty50 : TyOK Try.prog 50 ⟨1, 8, [.p (.v .nilFunc)], .sc, none⟩ := by
  refine TyOK.of (z := .nilFunc) (by kernel_rfl) rfl (by first | rfl | decide | (simp [Value.cells, zval, scal])) rfl ?_ ?_ ?_
  · exact scOf_spec (by kernel_rfl)
  · intro cs h; first | rfl | (simp at h)
  · intro ks h; simp at h

theorem Try.ty51 : TyOK Try.prog 51 ⟨1, 8, [.p (.v .nilFunc)], .sc, none⟩ := by
  refine TyOK.of (z := .nilFunc) (by kernel_rfl) rfl (by first | rfl | decide | (simp [Value.cells, zval, scal])) rfl ?_ ?_ ?_
  · exact scOf_spec (by kernel_rfl)
  · intro cs h; first | rfl | (simp at h)
  · intro ks h; simp at h

theorem Try.ty52 : TyOK Try.prog 52 ⟨14, 112, [.p (.v (.int .i64 0)), .p (.v (.int .i64 0)), .p (.v (.int .i64 0)), .p (.v (.int .i64 0)), .p (.v (.int .i64 0)), .p (.v (.int .i64 0)), .p (.v (.int .i64 0)), .p (.v (.int .i64 0)), .p (.v (.int .i64 0)), .p (.v (.int .i64 0)), .p (.v (.int .i64 0)), .p (.v (.int .i64 0)), .p (.v (.int .i64 0)), .p (.v (.int .i64 0))], .array 2 45, none⟩ := by
  refine TyOK.of (z := .agg #[.int .i64 0, .int .i64 0, .int .i64 0, .int .i64 0, .int .i64 0, .int .i64 0, .int .i64 0, .int .i64 0, .int .i64 0, .int .i64 0, .int .i64 0, .int .i64 0, .int .i64 0, .int .i64 0]) (by kernel_rfl) rfl (by first | rfl | decide | (simp [Value.cells, zval, scal])) rfl ?_ ?_ ?_
  · show Try.prog.underlying 52 = _; kernel_rfl
  · intro cs h; first | rfl | (simp at h)
  · intro ks h; simp at h

theorem Try.ty53 : TyOK Try.prog 53 ⟨1, 8, [.p (.v .nilFunc)], .sc, none⟩ := by
  refine TyOK.of (z := .nilFunc) (by kernel_rfl) rfl (by first | rfl | decide | (simp [Value.cells, zval, scal])) rfl ?_ ?_ ?_
  · exact scOf_spec (by kernel_rfl)
  · intro cs h; first | rfl | (simp at h)
  · intro ks h; simp at h

theorem Try.ty54 : TyOK Try.prog 54 ⟨1, 8, [.p (.v (.int .u64 0))], .int .u64, none⟩ := by
  refine TyOK.of (z := .int .u64 0) (by kernel_rfl) rfl (by first | rfl | decide | (simp [Value.cells, zval, scal])) rfl ?_ ?_ ?_
  · show Try.prog.underlying 54 = _; kernel_rfl
  · intro cs h; first | rfl | (simp at h)
  · intro ks h; simp at h

theorem Try.ty55 : TyOK Try.prog 55 ⟨1, 8, [.p (.v .nilFunc)], .sc, none⟩ := by
  refine TyOK.of (z := .nilFunc) (by kernel_rfl) rfl (by first | rfl | decide | (simp [Value.cells, zval, scal])) rfl ?_ ?_ ?_
  · exact scOf_spec (by kernel_rfl)
  · intro cs h; first | rfl | (simp at h)
  · intro ks h; simp at h

theorem Try.ty56 : TyOK Try.prog 56 ⟨1, 24, [.nil 1], .slice 23, none⟩ := by
  refine TyOK.of (z := .slice none 0 0) (by kernel_rfl) rfl (by first | rfl | decide | (simp [Value.cells, zval, scal])) rfl ?_ ?_ ?_
  · show Try.prog.underlying 56 = _; kernel_rfl
  · intro cs h; first | rfl | (simp at h)
  · intro ks h; simp at h

theorem Try.ty57 : TyOK Try.prog 57 ⟨1, 8, [.p (.v .nilFunc)], .sc, none⟩ := by
  refine TyOK.of (z := .nilFunc) (by kernel_rfl) rfl (by first | rfl | decide | (simp [Value.cells, zval, scal])) rfl ?_ ?_ ?_
  · exact scOf_spec (by kernel_rfl)
  · intro cs h; first | rfl | (simp at h)
  · intro ks h; simp at h

theorem Try.ty58 : TyOK Try.prog 58 ⟨1, 8, [.p (.v .nilFunc)], .sc, none⟩ := by
  refine TyOK.of (z := .nilFunc) (by kernel_rfl) rfl (by first | rfl | decide | (simp [Value.cells, zval, scal])) rfl ?_ ?_ ?_
  · exact scOf_spec (by kernel_rfl)
  · intro cs h; first | rfl | (simp at h)
  · intro ks h; simp at h

theorem Try.ty59 : TyOK Try.prog 59 ⟨8, 64, [.p (.v (.int .i64 0)), .p (.v (.int .i64 0)), .p (.v (.int .i64 0)), .p (.v (.int .i64 0)), .p (.v (.int .i64 0)), .p (.v (.int .i64 0)), .p (.v (.int .i64 0)), .p (.v (.int .i64 0))], .array 8 3, none⟩ := by
  refine TyOK.of (z := .agg #[.int .i64 0, .int .i64 0, .int .i64 0, .int .i64 0, .int .i64 0, .int .i64 0, .int .i64 0, .int .i64 0]) (by kernel_rfl) rfl (by first | rfl | decide | (simp [Value.cells, zval, scal])) rfl ?_ ?_ ?_
  · show Try.prog.underlying 59 = _; kernel_rfl
  · intro cs h; first | rfl | (simp at h)
  · intro ks h; simp at h

theorem Try.ty60 : TyOK Try.prog 60 ⟨1, 8, [.p (.v .nilFunc)], .sc, none⟩ := by
  refine TyOK.of (z := .nilFunc) (by kernel_rfl) rfl (by first | rfl | decide | (simp [Value.cells, zval, scal])) rfl ?_ ?_ ?_
  · exact scOf_spec (by kernel_rfl)
  · intro cs h; first | rfl | (simp at h)
  · intro ks h; simp at h

theorem Try.ty61 : TyOK Try.prog 61 ⟨1, 8, [.p (.v (.int .u64 0))], .int .u64, none⟩ := by
  refine TyOK.of (z := .int .u64 0) (by kernel_rfl) rfl (by first | rfl | decide | (simp [Value.cells, zval, scal])) rfl ?_ ?_ ?_
  · show Try.prog.underlying 61 = _; kernel_rfl
  · intro cs h; first | rfl | (simp at h)
  · intro ks h; simp at h

theorem Try.ty62 : TyOK Try.prog 62 ⟨1, 8, [.p (.v .nilFunc)], .sc, none⟩ := by
  refine TyOK.of (z := .nilFunc) (by kernel_rfl) rfl (by first | rfl | decide | (simp [Value.cells, zval, scal])) rfl ?_ ?_ ?_
  · exact scOf_spec (by kernel_rfl)
  · intro cs h; first | rfl | (simp at h)
  · intro ks h; simp at h

theorem Try.ty63 : TyOK Try.prog 63 ⟨1, 8, [.p (.v .nilFunc)], .sc, none⟩ := by
  refine TyOK.of (z := .nilFunc) (by kernel_rfl) rfl (by first | rfl | decide | (simp [Value.cells, zval, scal])) rfl ?_ ?_ ?_
  · exact scOf_spec (by kernel_rfl)
  · intro cs h; first | rfl | (simp at h)
  · intro ks h; simp at h

theorem Try.ty64 : TyOK Try.prog 64 ⟨1, 8, [.p (.v .nilFunc)], .sc, none⟩ := by
  refine TyOK.of (z := .nilFunc) (by kernel_rfl) rfl (by first | rfl | decide | (simp [Value.cells, zval, scal])) rfl ?_ ?_ ?_
  · exact scOf_spec (by kernel_rfl)
  · intro cs h; first | rfl | (simp at h)
  · intro ks h; simp at h

theorem Try.ty66 : TyOK Try.prog 66 ⟨1, 8, [.p (.v .nilFunc)], .sc, none⟩ := by
  refine TyOK.of (z := .nilFunc) (by kernel_rfl) rfl (by first | rfl | decide | (simp [Value.cells, zval, scal])) rfl ?_ ?_ ?_
  · exact scOf_spec (by kernel_rfl)
  · intro cs h; first | rfl | (simp at h)
  · intro ks h; simp at h

theorem Try.ty67 : TyOK Try.prog 67 ⟨1, 8, [.p (.v .nilFunc)], .sc, none⟩ := by
  refine TyOK.of (z := .nilFunc) (by kernel_rfl) rfl (by first | rfl | decide | (simp [Value.cells, zval, scal])) rfl ?_ ?_ ?_
  · exact scOf_spec (by kernel_rfl)
  · intro cs h; first | rfl | (simp at h)
  · intro ks h; simp at h

theorem Try.ty68 : TyOK Try.prog 68 ⟨1, 8, [.p (.v .nilFunc)], .sc, none⟩ := by
  refine TyOK.of (z := .nilFunc) (by kernel_rfl) rfl (by first | rfl | decide | (simp [Value.cells, zval, scal])) rfl ?_ ?_ ?_
  · exact scOf_spec (by kernel_rfl)
  · intro cs h; first | rfl | (simp at h)
  · intro ks h; simp at h

theorem Try.ty69 : TyOK Try.prog 69 ⟨1, 8, [.p (.v .nilFunc)], .sc, none⟩ := by
  refine TyOK.of (z := .nilFunc) (by kernel_rfl) rfl (by first | rfl | decide | (simp [Value.cells, zval, scal])) rfl ?_ ?_ ?_
  · exact scOf_spec (by kernel_rfl)
  · intro cs h; first | rfl | (simp at h)
  · intro ks h; simp at h

theorem Try.ty70 : TyOK Try.prog 70 ⟨1, 8, [.p (.v .nilFunc)], .sc, none⟩ := by
  refine TyOK.of (z := .nilFunc) (by kernel_rfl) rfl (by first | rfl | decide | (simp [Value.cells, zval, scal])) rfl ?_ ?_ ?_
  · exact scOf_spec (by kernel_rfl)
  · intro cs h; first | rfl | (simp at h)
  · intro ks h; simp at h

theorem Try.ty71 : TyOK Try.prog 71 ⟨1, 8, [.p (.v .nilFunc)], .sc, none⟩ := by
  refine TyOK.of (z := .nilFunc) (by kernel_rfl) rfl (by first | rfl | decide | (simp [Value.cells, zval, scal])) rfl ?_ ?_ ?_
  · exact scOf_spec (by kernel_rfl)
  · intro cs h; first | rfl | (simp at h)
  · intro ks h; simp at h

theorem Try.ty72 : TyOK Try.prog 72 ⟨1, 8, [.p (.v .nilFunc)], .sc, none⟩ := by
  refine TyOK.of (z := .nilFunc) (by kernel_rfl) rfl (by first | rfl | decide | (simp [Value.cells, zval, scal])) rfl ?_ ?_ ?_
  · exact scOf_spec (by kernel_rfl)
  · intro cs h; first | rfl | (simp at h)
  · intro ks h; simp at h

theorem Try.ty73 : TyOK Try.prog 73 ⟨1, 8, [.p (.v .nilFunc)], .sc, none⟩ := by
  refine TyOK.of (z := .nilFunc) (by kernel_rfl) rfl (by first | rfl | decide | (simp [Value.cells, zval, scal])) rfl ?_ ?_ ?_
  · exact scOf_spec (by kernel_rfl)
  · intro cs h; first | rfl | (simp at h)
  · intro ks h; simp at h

theorem Try.ty74 : TyOK Try.prog 74 ⟨1, 4, [.p (.v (.int .u32 0))], .int .u32, none⟩ := by
  refine TyOK.of (z := .int .u32 0) (by kernel_rfl) rfl (by first | rfl | decide | (simp [Value.cells, zval, scal])) rfl ?_ ?_ ?_
  · show Try.prog.underlying 74 = _; kernel_rfl
  · intro cs h; first | rfl | (simp at h)
  · intro ks h; simp at h

theorem Try.ty75 : TyOK Try.prog 75 ⟨1, 8, [.p (.v .nilFunc)], .sc, none⟩ := by
  refine TyOK.of (z := .nilFunc) (by kernel_rfl) rfl (by first | rfl | decide | (simp [Value.cells, zval, scal])) rfl ?_ ?_ ?_
  · exact scOf_spec (by kernel_rfl)
  · intro cs h; first | rfl | (simp at h)
  · intro ks h; simp at h

theorem Try.ty76 : TyOK Try.prog 76 ⟨1, 8, [.p (.v .nilFunc)], .sc, none⟩ := by
  refine TyOK.of (z := .nilFunc) (by kernel_rfl) rfl (by first | rfl | decide | (simp [Value.cells, zval, scal])) rfl ?_ ?_ ?_
  · exact scOf_spec (by kernel_rfl)
  · intro cs h; first | rfl | (simp at h)
  · intro ks h; simp at h

theorem Try.ty77 : TyOK Try.prog 77 ⟨1, 8, [.p (.v .nilFunc)], .sc, none⟩ := by
  refine TyOK.of (z := .nilFunc) (by kernel_rfl) rfl (by first | rfl | decide | (simp [Value.cells, zval, scal])) rfl ?_ ?_ ?_
  · exact scOf_spec (by kernel_rfl)
  · intro cs h; first | rfl | (simp at h)
  · intro ks h; simp at h

theorem Try.ty78 : TyOK Try.prog 78 ⟨1, 8, [.p (.v .nilFunc)], .sc, none⟩ := by
  refine TyOK.of (z := .nilFunc) (by kernel_rfl) rfl (by first | rfl | decide | (simp [Value.cells, zval, scal])) rfl ?_ ?_ ?_
  · exact scOf_spec (by kernel_rfl)
  · intro cs h; first | rfl | (simp at h)
  · intro ks h; simp at h

theorem Try.ty79 : TyOK Try.prog 79 ⟨1, 8, [.p (.v .nilFunc)], .sc, none⟩ := by
  refine TyOK.of (z := .nilFunc) (by kernel_rfl) rfl (by first | rfl | decide | (simp [Value.cells, zval, scal])) rfl ?_ ?_ ?_
  · exact scOf_spec (by kernel_rfl)
  · intro cs h; first | rfl | (simp at h)
  · intro ks h; simp at h

theorem Try.ty80 : TyOK Try.prog 80 ⟨1, 8, [.p (.v .nilFunc)], .sc, none⟩ := by
  refine TyOK.of (z := .nilFunc) (by kernel_rfl) rfl (by first | rfl | decide | (simp [Value.cells, zval, scal])) rfl ?_ ?_ ?_
  · exact scOf_spec (by kernel_rfl)
  · intro cs h; first | rfl | (simp at h)
  · intro ks h; simp at h

theorem Try.ty81 : TyOK Try.prog 81 ⟨1, 8, [.p (.v .nilFunc)], .sc, none⟩ := by
  refine TyOK.of (z := .nilFunc) (by kernel_rfl) rfl (by first | rfl | decide | (simp [Value.cells, zval, scal])) rfl ?_ ?_ ?_
  · exact scOf_spec (by kernel_rfl)
  · intro cs h; first | rfl | (simp at h)
  · intro ks h; simp at h

theorem Try.ty82 : TyOK Try.prog 82 ⟨1, 8, [.p (.v .nilFunc)], .sc, none⟩ := by
  refine TyOK.of (z := .nilFunc) (by kernel_rfl) rfl (by first | rfl | decide | (simp [Value.cells, zval, scal])) rfl ?_ ?_ ?_
  · exact scOf_spec (by kernel_rfl)
  · intro cs h; first | rfl | (simp at h)
  · intro ks h; simp at h

theorem Try.ty83 : TyOK Try.prog 83 ⟨1, 8, [.p (.v .nilFunc)], .sc, none⟩ := by
  refine TyOK.of (z := .nilFunc) (by kernel_rfl) rfl (by first | rfl | decide | (simp [Value.cells, zval, scal])) rfl ?_ ?_ ?_
  · exact scOf_spec (by kernel_rfl)
  · intro cs h; first | rfl | (simp at h)
  · intro ks h; simp at h

theorem Try.ty89 : TyOK Try.prog 89 ⟨1, 8, [.p (.v .nilFunc)], .sc, none⟩ := by
  refine TyOK.of (z := .nilFunc) (by kernel_rfl) rfl (by first | rfl | decide | (simp [Value.cells, zval, scal])) rfl ?_ ?_ ?_
  · exact scOf_spec (by kernel_rfl)
  · intro cs h; first | rfl | (simp at h)
  · intro ks h; simp at h

theorem Try.ty92 : TyOK Try.prog 92 ⟨1, 8, [.p (.v .nilFunc)], .sc, none⟩ := by
  refine TyOK.of (z := .nilFunc) (by kernel_rfl) rfl (by first | rfl | decide | (simp [Value.cells, zval, scal])) rfl ?_ ?_ ?_
  · exact scOf_spec (by kernel_rfl)
  · intro cs h; first | rfl | (simp at h)
  · intro ks h; simp at h

def Try.T : TypeId → Option Ty
  | 1 => some ⟨1, 8, [.p (.v .nilFunc)], .sc, none⟩
  | 2 => some ⟨1, 8, [.p (.v (.int .i64 0))], .int .i64, none⟩
  | 3 => some ⟨1, 8, [.p (.v (.int .i64 0))], .int .i64, none⟩
  | 4 => some ⟨1, 1, [.p (.v (.bool false))], .bool, none⟩
  | 5 => some ⟨1, 1, [.p (.v (.int .u8 0))], .int .u8, none⟩
  | 9 => some ⟨1, 16, [.p (.v (.string ByteArray.empty))], .str, none⟩
  | 12 => some ⟨1, 8, [.p (.v (.int .u64 0))], .int .u64, none⟩
  | 21 => some ⟨1, 4, [.p (.v (.int .i32 0))], .int .i32, none⟩
  | 22 => some ⟨1, 24, [.nil 4], .slice 29, none⟩
  | 23 => some ⟨1, 24, [.nil 1], .slice 3, none⟩
  | 24 => some ⟨1, 8, [.p (.v .nilFunc)], .sc, none⟩
  | 26 => some ⟨2, 16, [.p (.v (.int .i64 0)), .p (.v (.int .i64 0))], .struct [(0, 3), (1, 3)], some [.int .i64, .int .i64]⟩
  | 27 => some ⟨1, 24, [.nil 4], .slice 36, none⟩
  | 29 => some ⟨4, 48, [.p (.v (.int .i64 0)), .p (.v (.int .i64 0)), .p (.v (.int .i64 0)), .nil 4], .struct [(0, 26), (2, 3), (3, 27)], none⟩
  | 30 => some ⟨1, 8, [.p (.v .nilFunc)], .sc, none⟩
  | 31 => some ⟨1, 8, [.p (.v .nilFunc)], .sc, none⟩
  | 32 => some ⟨1, 8, [.p (.v .nilFunc)], .sc, none⟩
  | 33 => some ⟨1, 8, [.p (.v .nilFunc)], .sc, none⟩
  | 34 => some ⟨1, 8, [.p (.v .nilFunc)], .sc, none⟩
  | 36 => some ⟨4, 32, [.p (.v (.int .i64 0)), .p (.v (.int .i64 0)), .p (.v (.int .i64 0)), .p (.v (.int .i64 0))], .struct [(0, 3), (1, 3), (2, 3), (3, 3)], some [.int .i64, .int .i64, .int .i64, .int .i64]⟩
  | 37 => some ⟨1, 8, [.p (.v .nilFunc)], .sc, none⟩
  | 38 => some ⟨1, 8, [.p (.v .nilFunc)], .sc, none⟩
  | 39 => some ⟨1, 8, [.p (.v (.int .i64 0))], .int .i64, none⟩
  | 40 => some ⟨1, 8, [.p (.v .nilFunc)], .sc, none⟩
  | 42 => some ⟨1, 8, [.p (.v .nilFunc)], .sc, none⟩
  | 43 => some ⟨1, 24, [.nil 7], .slice 45, none⟩
  | 45 => some ⟨7, 56, [.p (.v (.int .i64 0)), .p (.v (.int .i64 0)), .p (.v (.int .i64 0)), .p (.v (.int .i64 0)), .p (.v (.int .i64 0)), .p (.v (.int .i64 0)), .p (.v (.int .i64 0))], .struct [(0, 3), (1, 3), (2, 3), (3, 26), (5, 3), (6, 3)], some [.int .i64, .int .i64, .int .i64, .int .i64, .int .i64, .int .i64, .int .i64]⟩
  | 46 => some ⟨1, 8, [.p (.v .nilFunc)], .sc, none⟩
  | 47 => some ⟨1, 8, [.p (.v .nilFunc)], .sc, none⟩
  | 48 => some ⟨1, 8, [.p (.v .nilFunc)], .sc, none⟩
  | 49 => some ⟨1, 8, [.p (.v .nilFunc)], .sc, none⟩
  | 50 => some ⟨1, 8, [.p (.v .nilFunc)], .sc, none⟩
  | 51 => some ⟨1, 8, [.p (.v .nilFunc)], .sc, none⟩
  | 52 => some ⟨14, 112, [.p (.v (.int .i64 0)), .p (.v (.int .i64 0)), .p (.v (.int .i64 0)), .p (.v (.int .i64 0)), .p (.v (.int .i64 0)), .p (.v (.int .i64 0)), .p (.v (.int .i64 0)), .p (.v (.int .i64 0)), .p (.v (.int .i64 0)), .p (.v (.int .i64 0)), .p (.v (.int .i64 0)), .p (.v (.int .i64 0)), .p (.v (.int .i64 0)), .p (.v (.int .i64 0))], .array 2 45, none⟩
  | 53 => some ⟨1, 8, [.p (.v .nilFunc)], .sc, none⟩
  | 54 => some ⟨1, 8, [.p (.v (.int .u64 0))], .int .u64, none⟩
  | 55 => some ⟨1, 8, [.p (.v .nilFunc)], .sc, none⟩
  | 56 => some ⟨1, 24, [.nil 1], .slice 23, none⟩
  | 57 => some ⟨1, 8, [.p (.v .nilFunc)], .sc, none⟩
  | 58 => some ⟨1, 8, [.p (.v .nilFunc)], .sc, none⟩
  | 59 => some ⟨8, 64, [.p (.v (.int .i64 0)), .p (.v (.int .i64 0)), .p (.v (.int .i64 0)), .p (.v (.int .i64 0)), .p (.v (.int .i64 0)), .p (.v (.int .i64 0)), .p (.v (.int .i64 0)), .p (.v (.int .i64 0))], .array 8 3, none⟩
  | 60 => some ⟨1, 8, [.p (.v .nilFunc)], .sc, none⟩
  | 61 => some ⟨1, 8, [.p (.v (.int .u64 0))], .int .u64, none⟩
  | 62 => some ⟨1, 8, [.p (.v .nilFunc)], .sc, none⟩
  | 63 => some ⟨1, 8, [.p (.v .nilFunc)], .sc, none⟩
  | 64 => some ⟨1, 8, [.p (.v .nilFunc)], .sc, none⟩
  | 66 => some ⟨1, 8, [.p (.v .nilFunc)], .sc, none⟩
  | 67 => some ⟨1, 8, [.p (.v .nilFunc)], .sc, none⟩
  | 68 => some ⟨1, 8, [.p (.v .nilFunc)], .sc, none⟩
  | 69 => some ⟨1, 8, [.p (.v .nilFunc)], .sc, none⟩
  | 70 => some ⟨1, 8, [.p (.v .nilFunc)], .sc, none⟩
  | 71 => some ⟨1, 8, [.p (.v .nilFunc)], .sc, none⟩
  | 72 => some ⟨1, 8, [.p (.v .nilFunc)], .sc, none⟩
  | 73 => some ⟨1, 8, [.p (.v .nilFunc)], .sc, none⟩
  | 74 => some ⟨1, 4, [.p (.v (.int .u32 0))], .int .u32, none⟩
  | 75 => some ⟨1, 8, [.p (.v .nilFunc)], .sc, none⟩
  | 76 => some ⟨1, 8, [.p (.v .nilFunc)], .sc, none⟩
  | 77 => some ⟨1, 8, [.p (.v .nilFunc)], .sc, none⟩
  | 78 => some ⟨1, 8, [.p (.v .nilFunc)], .sc, none⟩
  | 79 => some ⟨1, 8, [.p (.v .nilFunc)], .sc, none⟩
  | 80 => some ⟨1, 8, [.p (.v .nilFunc)], .sc, none⟩
  | 81 => some ⟨1, 8, [.p (.v .nilFunc)], .sc, none⟩
  | 82 => some ⟨1, 8, [.p (.v .nilFunc)], .sc, none⟩
  | 83 => some ⟨1, 8, [.p (.v .nilFunc)], .sc, none⟩
  | 89 => some ⟨1, 8, [.p (.v .nilFunc)], .sc, none⟩
  | 92 => some ⟨1, 8, [.p (.v .nilFunc)], .sc, none⟩
  | _ => none

theorem Try.tab : TabOK Try.prog Try.T := by
  intro t y h
  unfold Try.T at h
  split at h
  · simp only [Option.some.injEq] at h; subst h; exact Try.ty1
  · simp only [Option.some.injEq] at h; subst h; exact Try.ty2
  · simp only [Option.some.injEq] at h; subst h; exact Try.ty3
  · simp only [Option.some.injEq] at h; subst h; exact Try.ty4
  · simp only [Option.some.injEq] at h; subst h; exact Try.ty5
  · simp only [Option.some.injEq] at h; subst h; exact Try.ty9
  · simp only [Option.some.injEq] at h; subst h; exact Try.ty12
  · simp only [Option.some.injEq] at h; subst h; exact Try.ty21
  · simp only [Option.some.injEq] at h; subst h; exact Try.ty22
  · simp only [Option.some.injEq] at h; subst h; exact Try.ty23
  · simp only [Option.some.injEq] at h; subst h; exact Try.ty24
  · simp only [Option.some.injEq] at h; subst h; exact Try.ty26
  · simp only [Option.some.injEq] at h; subst h; exact Try.ty27
  · simp only [Option.some.injEq] at h; subst h; exact Try.ty29
  · simp only [Option.some.injEq] at h; subst h; exact Try.ty30
  · simp only [Option.some.injEq] at h; subst h; exact Try.ty31
  · simp only [Option.some.injEq] at h; subst h; exact Try.ty32
  · simp only [Option.some.injEq] at h; subst h; exact Try.ty33
  · simp only [Option.some.injEq] at h; subst h; exact Try.ty34
  · simp only [Option.some.injEq] at h; subst h; exact Try.ty36
  · simp only [Option.some.injEq] at h; subst h; exact Try.ty37
  · simp only [Option.some.injEq] at h; subst h; exact Try.ty38
  · simp only [Option.some.injEq] at h; subst h; exact Try.ty39
  · simp only [Option.some.injEq] at h; subst h; exact Try.ty40
  · simp only [Option.some.injEq] at h; subst h; exact Try.ty42
  · simp only [Option.some.injEq] at h; subst h; exact Try.ty43
  · simp only [Option.some.injEq] at h; subst h; exact Try.ty45
  · simp only [Option.some.injEq] at h; subst h; exact Try.ty46
  · simp only [Option.some.injEq] at h; subst h; exact Try.ty47
  · simp only [Option.some.injEq] at h; subst h; exact Try.ty48
  · simp only [Option.some.injEq] at h; subst h; exact Try.ty49
  · simp only [Option.some.injEq] at h; subst h; exact Try.ty50
  · simp only [Option.some.injEq] at h; subst h; exact Try.ty51
  · simp only [Option.some.injEq] at h; subst h; exact Try.ty52
  · simp only [Option.some.injEq] at h; subst h; exact Try.ty53
  · simp only [Option.some.injEq] at h; subst h; exact Try.ty54
  · simp only [Option.some.injEq] at h; subst h; exact Try.ty55
  · simp only [Option.some.injEq] at h; subst h; exact Try.ty56
  · simp only [Option.some.injEq] at h; subst h; exact Try.ty57
  · simp only [Option.some.injEq] at h; subst h; exact Try.ty58
  · simp only [Option.some.injEq] at h; subst h; exact Try.ty59
  · simp only [Option.some.injEq] at h; subst h; exact Try.ty60
  · simp only [Option.some.injEq] at h; subst h; exact Try.ty61
  · simp only [Option.some.injEq] at h; subst h; exact Try.ty62
  · simp only [Option.some.injEq] at h; subst h; exact Try.ty63
  · simp only [Option.some.injEq] at h; subst h; exact Try.ty64
  · simp only [Option.some.injEq] at h; subst h; exact Try.ty66
  · simp only [Option.some.injEq] at h; subst h; exact Try.ty67
  · simp only [Option.some.injEq] at h; subst h; exact Try.ty68
  · simp only [Option.some.injEq] at h; subst h; exact Try.ty69
  · simp only [Option.some.injEq] at h; subst h; exact Try.ty70
  · simp only [Option.some.injEq] at h; subst h; exact Try.ty71
  · simp only [Option.some.injEq] at h; subst h; exact Try.ty72
  · simp only [Option.some.injEq] at h; subst h; exact Try.ty73
  · simp only [Option.some.injEq] at h; subst h; exact Try.ty74
  · simp only [Option.some.injEq] at h; subst h; exact Try.ty75
  · simp only [Option.some.injEq] at h; subst h; exact Try.ty76
  · simp only [Option.some.injEq] at h; subst h; exact Try.ty77
  · simp only [Option.some.injEq] at h; subst h; exact Try.ty78
  · simp only [Option.some.injEq] at h; subst h; exact Try.ty79
  · simp only [Option.some.injEq] at h; subst h; exact Try.ty80
  · simp only [Option.some.injEq] at h; subst h; exact Try.ty81
  · simp only [Option.some.injEq] at h; subst h; exact Try.ty82
  · simp only [Option.some.injEq] at h; subst h; exact Try.ty83
  · simp only [Option.some.injEq] at h; subst h; exact Try.ty89
  · simp only [Option.some.injEq] at h; subst h; exact Try.ty92
  · simp at h
theorem Try.mixed : Try.prog.follows .mixedOrders = true := by kernel_rfl
end Go.Proofs.Ytehopfedgkmalaa
