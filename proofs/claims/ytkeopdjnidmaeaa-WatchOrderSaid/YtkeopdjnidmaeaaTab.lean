/- The table of types of this translation, by program. -/
import Derived.Test.YtkeopdjnidmaeaaProg
import Derived.Test.YtkeopdjnidmaeaaAvCode
import Derived.WalkKit
import Derived.WalkSpells
import Derived.KernelRfl
namespace Go.Proofs.Ytkeopdjnidmaeaa
open Go Go.Av

instance Try.glob : Glob := ⟨fun _ => none⟩

theorem Try.ty1 : TyOK Try.prog 1 ⟨1, 8, [.p (.v .nilFunc)], .sc, none⟩ := by
  refine TyOK.of (z := .nilFunc) (by kernel_rfl) rfl (by first | rfl | decide | (simp [Value.cells, zval, scal])) rfl ?_ ?_ ?_
  · exact scOf_spec (by kernel_rfl)
  · intro cs h; first | rfl | (simp at h)
  · intro ks h; simp at h

theorem Try.ty2 : TyOK Try.prog 2 ⟨1, 8, [.p (.v (.int .i64 0))], .int .i64, none⟩ := by
  refine TyOK.of (z := .int .i64 0) (by kernel_rfl) rfl (by first | rfl | decide | (simp [Value.cells, zval, scal])) rfl ?_ ?_ ?_
  · show Try.prog.underlying 2 = _; kernel_rfl
  · intro cs h; first | rfl | (simp at h)
  · intro ks h; simp at h

theorem Try.ty3 : TyOK Try.prog 3 ⟨1, 8, [.p (.v (.int .i64 0))], .int .i64, none⟩ := by
  refine TyOK.of (z := .int .i64 0) (by kernel_rfl) rfl (by first | rfl | decide | (simp [Value.cells, zval, scal])) rfl ?_ ?_ ?_
  · show Try.prog.underlying 3 = _; kernel_rfl
  · intro cs h; first | rfl | (simp at h)
  · intro ks h; simp at h

theorem Try.ty4 : TyOK Try.prog 4 ⟨1, 1, [.p (.v (.bool false))], .bool, none⟩ := by
  refine TyOK.of (z := .bool false) (by kernel_rfl) rfl (by first | rfl | decide | (simp [Value.cells, zval, scal])) rfl ?_ ?_ ?_
  · show Try.prog.underlying 4 = _; kernel_rfl
  · intro cs h; first | rfl | (simp at h)
  · intro ks h; simp at h

theorem Try.ty5 : TyOK Try.prog 5 ⟨1, 1, [.p (.v (.int .u8 0))], .int .u8, none⟩ := by
  refine TyOK.of (z := .int .u8 0) (by kernel_rfl) rfl (by first | rfl | decide | (simp [Value.cells, zval, scal])) rfl ?_ ?_ ?_
  · show Try.prog.underlying 5 = _; kernel_rfl
  · intro cs h; first | rfl | (simp at h)
  · intro ks h; simp at h

theorem Try.ty9 : TyOK Try.prog 9 ⟨1, 16, [.p (.v (.string ByteArray.empty))], .str, none⟩ := by
  refine TyOK.of (z := .string ByteArray.empty) (by kernel_rfl) rfl (by first | rfl | decide | (simp [Value.cells, zval, scal])) rfl ?_ ?_ ?_
  · show Try.prog.underlying 9 = _; kernel_rfl
  · intro cs h; first | rfl | (simp at h)
  · intro ks h; simp at h

theorem Try.ty12 : TyOK Try.prog 12 ⟨1, 8, [.p (.v (.int .u64 0))], .int .u64, none⟩ := by
  refine TyOK.of (z := .int .u64 0) (by kernel_rfl) rfl (by first | rfl | decide | (simp [Value.cells, zval, scal])) rfl ?_ ?_ ?_
  · show Try.prog.underlying 12 = _; kernel_rfl
  · intro cs h; first | rfl | (simp at h)
  · intro ks h; simp at h

theorem Try.ty21 : TyOK Try.prog 21 ⟨1, 4, [.p (.v (.int .i32 0))], .int .i32, none⟩ := by
  refine TyOK.of (z := .int .i32 0) (by kernel_rfl) rfl (by first | rfl | decide | (simp [Value.cells, zval, scal])) rfl ?_ ?_ ?_
  · show Try.prog.underlying 21 = _; kernel_rfl
  · intro cs h; first | rfl | (simp at h)
  · intro ks h; simp at h

theorem Try.ty22 : TyOK Try.prog 22 ⟨1, 24, [.nil 3], .slice 39, none⟩ := by
  refine TyOK.of (z := .slice none 0 0) (by kernel_rfl) rfl (by first | rfl | decide | (simp [Value.cells, zval, scal])) rfl ?_ ?_ ?_
  · show Try.prog.underlying 22 = _; kernel_rfl
  · intro cs h; first | rfl | (simp at h)
  · intro ks h; simp at h

theorem Try.ty23 : TyOK Try.prog 23 ⟨1, 24, [.nil 5], .slice 50, none⟩ := by
  refine TyOK.of (z := .slice none 0 0) (by kernel_rfl) rfl (by first | rfl | decide | (simp [Value.cells, zval, scal])) rfl ?_ ?_ ?_
  · show Try.prog.underlying 23 = _; kernel_rfl
  · intro cs h; first | rfl | (simp at h)
  · intro ks h; simp at h

theorem Try.ty24 : TyOK Try.prog 24 ⟨1, 24, [.nil 1], .slice 3, none⟩ := by
  refine TyOK.of (z := .slice none 0 0) (by kernel_rfl) rfl (by first | rfl | decide | (simp [Value.cells, zval, scal])) rfl ?_ ?_ ?_
  · show Try.prog.underlying 24 = _; kernel_rfl
  · intro cs h; first | rfl | (simp at h)
  · intro ks h; simp at h

theorem Try.ty26 : TyOK Try.prog 26 ⟨2, 16, [.p (.v (.int .i64 0)), .p (.v (.int .i64 0))], .struct [(0, 3), (1, 3)], some [.int .i64, .int .i64]⟩ := by
  refine TyOK.of (z := .agg #[.int .i64 0, .int .i64 0]) (by kernel_rfl) rfl (by first | rfl | decide | (simp [Value.cells, zval, scal])) rfl ?_ ?_ ?_
  · exact structOf_spec (by kernel_rfl)
  · intro cs h; first | rfl | (simp at h)
  · intro ks h; simp only [Option.some.injEq] at h; subst h; refine ⟨rfl, fun xs ys hx hy w => ⟨?_, by kernel_rfl⟩⟩
    obtain ⟨_, _, rfl, ⟨x0, rfl⟩, hx⟩ := hx; obtain ⟨_, _, rfl, ⟨x1, rfl⟩, hx⟩ := hx; subst hx
    obtain ⟨_, _, rfl, ⟨y0, rfl⟩, hy⟩ := hy; obtain ⟨_, _, rfl, ⟨y1, rfl⟩, hy⟩ := hy; subst hy
    show (Op.equalIn 10000 26 (.agg #[.int .i64 x0, .int .i64 x1]) (.agg #[.int .i64 y0, .int .i64 y1])).run Try.prog w = _
    go_simp
    simp only [ceq, veq]
    all_goals (repeat' split)
    all_goals simp_all

theorem Try.ty27 : TyOK Try.prog 27 ⟨1, 24, [.nil 4], .slice 95, none⟩ := by
  refine TyOK.of (z := .slice none 0 0) (by kernel_rfl) rfl (by first | rfl | decide | (simp [Value.cells, zval, scal])) rfl ?_ ?_ ?_
  · show Try.prog.underlying 27 = _; kernel_rfl
  · intro cs h; first | rfl | (simp at h)
  · intro ks h; simp at h

theorem Try.ty29 : TyOK Try.prog 29 ⟨4, 48, [.p (.v (.int .i64 0)), .p (.v (.int .i64 0)), .p (.v (.int .i64 0)), .nil 4], .struct [(0, 26), (2, 3), (3, 27)], none⟩ := by
  refine TyOK.of (z := .agg #[.int .i64 0, .int .i64 0, .int .i64 0, .slice none 0 0]) (by kernel_rfl) rfl (by first | rfl | decide | (simp [Value.cells, zval, scal])) rfl ?_ ?_ ?_
  · exact structOf_spec (by kernel_rfl)
  · intro cs h; first | rfl | (simp at h)
  · intro ks h; simp at h

theorem Try.ty31 : TyOK Try.prog 31 ⟨9, 120, [.nil 5, .nil 1, .p (.v (.int .i64 0)), .p (.v (.int .i64 0)), .p (.v (.int .i64 0)), .p (.v (.int .i64 0)), .nil 4, .p (.v (.int .i64 0)), .p (.v (.int .i64 0))], .struct [(0, 23), (1, 24), (2, 3), (3, 29), (7, 26)], none⟩ := by
  refine TyOK.of (z := .agg #[.slice none 0 0, .slice none 0 0, .int .i64 0, .int .i64 0, .int .i64 0, .int .i64 0, .slice none 0 0, .int .i64 0, .int .i64 0]) (by kernel_rfl) rfl (by first | rfl | decide | (simp [Value.cells, zval, scal])) rfl ?_ ?_ ?_
  · exact structOf_spec (by kernel_rfl)
  · intro cs h; first | rfl | (simp at h)
  · intro ks h; simp at h

theorem Try.ty32 : TyOK Try.prog 32 ⟨18, 240, [.nil 5, .nil 1, .p (.v (.int .i64 0)), .p (.v (.int .i64 0)), .p (.v (.int .i64 0)), .p (.v (.int .i64 0)), .nil 4, .p (.v (.int .i64 0)), .p (.v (.int .i64 0)), .nil 5, .nil 1, .p (.v (.int .i64 0)), .p (.v (.int .i64 0)), .p (.v (.int .i64 0)), .p (.v (.int .i64 0)), .nil 4, .p (.v (.int .i64 0)), .p (.v (.int .i64 0))], .array 2 31, none⟩ := by
  refine TyOK.of (z := .agg #[.slice none 0 0, .slice none 0 0, .int .i64 0, .int .i64 0, .int .i64 0, .int .i64 0, .slice none 0 0, .int .i64 0, .int .i64 0, .slice none 0 0, .slice none 0 0, .int .i64 0, .int .i64 0, .int .i64 0, .int .i64 0, .slice none 0 0, .int .i64 0, .int .i64 0]) (by kernel_rfl) rfl (by first | rfl | decide | (simp [Value.cells, zval, scal])) rfl ?_ ?_ ?_
  · show Try.prog.underlying 32 = _; kernel_rfl
  · intro cs h; first | rfl | (simp at h)
  · intro ks h; simp at h

theorem Try.ty33 : TyOK Try.prog 33 ⟨1, 8, [.p (.v .nilFunc)], .sc, none⟩ := by
  refine TyOK.of (z := .nilFunc) (by kernel_rfl) rfl (by first | rfl | decide | (simp [Value.cells, zval, scal])) rfl ?_ ?_ ?_
  · exact scOf_spec (by kernel_rfl)
  · intro cs h; first | rfl | (simp at h)
  · intro ks h; simp at h

theorem Try.ty34 : TyOK Try.prog 34 ⟨1, 8, [.p (.v .nilFunc)], .sc, none⟩ := by
  refine TyOK.of (z := .nilFunc) (by kernel_rfl) rfl (by first | rfl | decide | (simp [Value.cells, zval, scal])) rfl ?_ ?_ ?_
  · exact scOf_spec (by kernel_rfl)
  · intro cs h; first | rfl | (simp at h)
  · intro ks h; simp at h

theorem Try.ty35 : TyOK Try.prog 35 ⟨1, 24, [.nil 6], .slice 41, none⟩ := by
  refine TyOK.of (z := .slice none 0 0) (by kernel_rfl) rfl (by first | rfl | decide | (simp [Value.cells, zval, scal])) rfl ?_ ?_ ?_
  · show Try.prog.underlying 35 = _; kernel_rfl
  · intro cs h; first | rfl | (simp at h)
  · intro ks h; simp at h

theorem Try.ty37 : TyOK Try.prog 37 ⟨1, 8, [.p (.v .nilFunc)], .sc, none⟩ := by
  refine TyOK.of (z := .nilFunc) (by kernel_rfl) rfl (by first | rfl | decide | (simp [Value.cells, zval, scal])) rfl ?_ ?_ ?_
  · exact scOf_spec (by kernel_rfl)
  · intro cs h; first | rfl | (simp at h)
  · intro ks h; simp at h

theorem Try.ty39 : TyOK Try.prog 39 ⟨3, 32, [.p (.v (.int .i64 0)), .p (.v (.int .i64 0)), .p (.v (.string ByteArray.empty))], .struct [(0, 3), (1, 3), (2, 9)], some [.int .i64, .int .i64, .str]⟩ := by
  refine TyOK.of (z := .agg #[.int .i64 0, .int .i64 0, .string ByteArray.empty]) (by kernel_rfl) rfl (by first | rfl | decide | (simp [Value.cells, zval, scal])) rfl ?_ ?_ ?_
  · exact structOf_spec (by kernel_rfl)
  · intro cs h; first | rfl | (simp at h)
  · intro ks h; simp only [Option.some.injEq] at h; subst h; refine ⟨rfl, fun xs ys hx hy w => ⟨?_, by kernel_rfl⟩⟩
    obtain ⟨_, _, rfl, ⟨x0, rfl⟩, hx⟩ := hx; obtain ⟨_, _, rfl, ⟨x1, rfl⟩, hx⟩ := hx; obtain ⟨_, _, rfl, ⟨x2, rfl⟩, hx⟩ := hx; subst hx
    obtain ⟨_, _, rfl, ⟨y0, rfl⟩, hy⟩ := hy; obtain ⟨_, _, rfl, ⟨y1, rfl⟩, hy⟩ := hy; obtain ⟨_, _, rfl, ⟨y2, rfl⟩, hy⟩ := hy; subst hy
    show (Op.equalIn 10000 39 (.agg #[.int .i64 x0, .int .i64 x1, .string x2]) (.agg #[.int .i64 y0, .int .i64 y1, .string y2])).run Try.prog w = _
    go_simp
    simp only [ceq, veq]
    all_goals (repeat' split)
    all_goals simp_all

theorem Try.ty41 : TyOK Try.prog 41 ⟨6, 56, [.p (.v (.int .i64 0)), .p (.v (.int .i64 0)), .p (.v (.string ByteArray.empty)), .p (.v (.int .i64 0)), .p (.v (.int .i64 0)), .p (.v (.int .i64 0))], .struct [(0, 3), (1, 3), (2, 9), (3, 3), (4, 26)], some [.int .i64, .int .i64, .str, .int .i64, .int .i64, .int .i64]⟩ := by
  refine TyOK.of (z := .agg #[.int .i64 0, .int .i64 0, .string ByteArray.empty, .int .i64 0, .int .i64 0, .int .i64 0]) (by kernel_rfl) rfl (by first | rfl | decide | (simp [Value.cells, zval, scal])) rfl ?_ ?_ ?_
  · exact structOf_spec (by kernel_rfl)
  · intro cs h; first | rfl | (simp at h)
  · intro ks h; simp only [Option.some.injEq] at h; subst h; refine ⟨rfl, fun xs ys hx hy w => ⟨?_, by kernel_rfl⟩⟩
    obtain ⟨_, _, rfl, ⟨x0, rfl⟩, hx⟩ := hx; obtain ⟨_, _, rfl, ⟨x1, rfl⟩, hx⟩ := hx; obtain ⟨_, _, rfl, ⟨x2, rfl⟩, hx⟩ := hx; obtain ⟨_, _, rfl, ⟨x3, rfl⟩, hx⟩ := hx; obtain ⟨_, _, rfl, ⟨x4, rfl⟩, hx⟩ := hx; obtain ⟨_, _, rfl, ⟨x5, rfl⟩, hx⟩ := hx; subst hx
    obtain ⟨_, _, rfl, ⟨y0, rfl⟩, hy⟩ := hy; obtain ⟨_, _, rfl, ⟨y1, rfl⟩, hy⟩ := hy; obtain ⟨_, _, rfl, ⟨y2, rfl⟩, hy⟩ := hy; obtain ⟨_, _, rfl, ⟨y3, rfl⟩, hy⟩ := hy; obtain ⟨_, _, rfl, ⟨y4, rfl⟩, hy⟩ := hy; obtain ⟨_, _, rfl, ⟨y5, rfl⟩, hy⟩ := hy; subst hy
    show (Op.equalIn 10000 41 (.agg #[.int .i64 x0, .int .i64 x1, .string x2, .int .i64 x3, .int .i64 x4, .int .i64 x5]) (.agg #[.int .i64 y0, .int .i64 y1, .string y2, .int .i64 y3, .int .i64 y4, .int .i64 y5])).run Try.prog w = _
    go_simp
    simp only [ceq, veq]
    all_goals (repeat' split)
    all_goals simp_all

theorem Try.ty42 : TyOK Try.prog 42 ⟨1, 8, [.p (.v .nilFunc)], .sc, none⟩ := by
  refine TyOK.of (z := .nilFunc) (by kernel_rfl) rfl (by first | rfl | decide | (simp [Value.cells, zval, scal])) rfl ?_ ?_ ?_
  · exact scOf_spec (by kernel_rfl)
  · intro cs h; first | rfl | (simp at h)
  · intro ks h; simp at h

theorem Try.ty43 : TyOK Try.prog 43 ⟨1, 8, [.p (.v (.int .u64 0))], .int .u64, none⟩ := by
  refine TyOK.of (z := .int .u64 0) (by kernel_rfl) rfl (by first | rfl | decide | (simp [Value.cells, zval, scal])) rfl ?_ ?_ ?_
  · show Try.prog.underlying 43 = _; kernel_rfl
  · intro cs h; first | rfl | (simp at h)
  · intro ks h; simp at h

theorem Try.ty44 : TyOK Try.prog 44 ⟨1, 8, [.p (.v (.int .i64 0))], .int .i64, none⟩ := by
  refine TyOK.of (z := .int .i64 0) (by kernel_rfl) rfl (by first | rfl | decide | (simp [Value.cells, zval, scal])) rfl ?_ ?_ ?_
  · show Try.prog.underlying 44 = _; kernel_rfl
  · intro cs h; first | rfl | (simp at h)
  · intro ks h; simp at h

theorem Try.ty46 : TyOK Try.prog 46 ⟨1, 8, [.p (.v .nilFunc)], .sc, none⟩ := by
  refine TyOK.of (z := .nilFunc) (by kernel_rfl) rfl (by first | rfl | decide | (simp [Value.cells, zval, scal])) rfl ?_ ?_ ?_
  · exact scOf_spec (by kernel_rfl)
  · intro cs h; first | rfl | (simp at h)
  · intro ks h; simp at h

theorem Try.ty47 : TyOK Try.prog 47 ⟨1, 8, [.p (.v .nilFunc)], .sc, none⟩ := by
  refine TyOK.of (z := .nilFunc) (by kernel_rfl) rfl (by first | rfl | decide | (simp [Value.cells, zval, scal])) rfl ?_ ?_ ?_
  · exact scOf_spec (by kernel_rfl)
  · intro cs h; first | rfl | (simp at h)
  · intro ks h; simp at h

theorem Try.ty48 : TyOK Try.prog 48 ⟨1, 8, [.p (.v .nilFunc)], .sc, none⟩ := by
  refine TyOK.of (z := .nilFunc) (by kernel_rfl) rfl (by first | rfl | decide | (simp [Value.cells, zval, scal])) rfl ?_ ?_ ?_
  · exact scOf_spec (by kernel_rfl)
  · intro cs h; first | rfl | (simp at h)
  · intro ks h; simp at h

theorem Try.ty50 : TyOK Try.prog 50 ⟨5, 56, [.p (.v (.string ByteArray.empty)), .p (.v (.string ByteArray.empty)), .p (.v (.int .i64 0)), .p (.v (.int .i64 0)), .p (.v (.int .i64 0))], .struct [(0, 9), (1, 9), (2, 3), (3, 3), (4, 3)], some [.str, .str, .int .i64, .int .i64, .int .i64]⟩ := by
  refine TyOK.of (z := .agg #[.string ByteArray.empty, .string ByteArray.empty, .int .i64 0, .int .i64 0, .int .i64 0]) (by kernel_rfl) rfl (by first | rfl | decide | (simp [Value.cells, zval, scal])) rfl ?_ ?_ ?_
  · exact structOf_spec (by kernel_rfl)
  · intro cs h; first | rfl | (simp at h)
  · intro ks h; simp only [Option.some.injEq] at h; subst h; refine ⟨rfl, fun xs ys hx hy w => ⟨?_, by kernel_rfl⟩⟩
    obtain ⟨_, _, rfl, ⟨x0, rfl⟩, hx⟩ := hx; obtain ⟨_, _, rfl, ⟨x1, rfl⟩, hx⟩ := hx; obtain ⟨_, _, rfl, ⟨x2, rfl⟩, hx⟩ := hx; obtain ⟨_, _, rfl, ⟨x3, rfl⟩, hx⟩ := hx; obtain ⟨_, _, rfl, ⟨x4, rfl⟩, hx⟩ := hx; subst hx
    obtain ⟨_, _, rfl, ⟨y0, rfl⟩, hy⟩ := hy; obtain ⟨_, _, rfl, ⟨y1, rfl⟩, hy⟩ := hy; obtain ⟨_, _, rfl, ⟨y2, rfl⟩, hy⟩ := hy; obtain ⟨_, _, rfl, ⟨y3, rfl⟩, hy⟩ := hy; obtain ⟨_, _, rfl, ⟨y4, rfl⟩, hy⟩ := hy; subst hy
    show (Op.equalIn 10000 50 (.agg #[.string x0, .string x1, .int .i64 x2, .int .i64 x3, .int .i64 x4]) (.agg #[.string y0, .string y1, .int .i64 y2, .int .i64 y3, .int .i64 y4])).run Try.prog w = _
    go_simp
    simp only [ceq, veq]
    all_goals (repeat' split)
    all_goals simp_all

theorem Try.ty51 : TyOK Try.prog 51 ⟨1, 8, [.p (.v .nilFunc)], .sc, none⟩ := by
  refine TyOK.of (z := .nilFunc) (by kernel_rfl) rfl (by first | rfl | decide | (simp [Value.cells, zval, scal])) rfl ?_ ?_ ?_
  · exact scOf_spec (by kernel_rfl)
  · intro cs h; first | rfl | (simp at h)
  · intro ks h; simp at h

theorem Try.ty52 : TyOK Try.prog 52 ⟨1, 8, [.p (.v .nilFunc)], .sc, none⟩ := by
  refine TyOK.of (z := .nilFunc) (by kernel_rfl) rfl (by first | rfl | decide | (simp [Value.cells, zval, scal])) rfl ?_ ?_ ?_
  · exact scOf_spec (by kernel_rfl)
  · intro cs h; first | rfl | (simp at h)
  · intro ks h; simp at h

theorem Try.ty53 : TyOK Try.prog 53 ⟨1, 8, [.p (.v .nilFunc)], .sc, none⟩ := by
  refine TyOK.of (z := .nilFunc) (by kernel_rfl) rfl (by first | rfl | decide | (simp [Value.cells, zval, scal])) rfl ?_ ?_ ?_
  · exact scOf_spec (by kernel_rfl)
  · intro cs h; first | rfl | (simp at h)
  · intro ks h; simp at h

theorem Try.ty54 : TyOK Try.prog 54 ⟨1, 8, [.p (.v .nilFunc)], .sc, none⟩ := by
  refine TyOK.of (z := .nilFunc) (by kernel_rfl) rfl (by first | rfl | decide | (simp [Value.cells, zval, scal])) rfl ?_ ?_ ?_
  · exact scOf_spec (by kernel_rfl)
  · intro cs h; first | rfl | (simp at h)
  · intro ks h; simp at h

theorem Try.ty55 : TyOK Try.prog 55 ⟨1, 8, [.p (.v .nilFunc)], .sc, none⟩ := by
  refine TyOK.of (z := .nilFunc) (by kernel_rfl) rfl (by first | rfl | decide | (simp [Value.cells, zval, scal])) rfl ?_ ?_ ?_
  · exact scOf_spec (by kernel_rfl)
  · intro cs h; first | rfl | (simp at h)
  · intro ks h; simp at h

theorem Try.ty56 : TyOK Try.prog 56 ⟨1, 8, [.p (.v .nilFunc)], .sc, none⟩ := by
  refine TyOK.of (z := .nilFunc) (by kernel_rfl) rfl (by first | rfl | decide | (simp [Value.cells, zval, scal])) rfl ?_ ?_ ?_
  · exact scOf_spec (by kernel_rfl)
  · intro cs h; first | rfl | (simp at h)
  · intro ks h; simp at h

theorem Try.ty57 : TyOK Try.prog 57 ⟨1, 8, [.p (.v .nilFunc)], .sc, none⟩ := by
  refine TyOK.of (z := .nilFunc) (by kernel_rfl) rfl (by first | rfl | decide | (simp [Value.cells, zval, scal])) rfl ?_ ?_ ?_
  · exact scOf_spec (by kernel_rfl)
  · intro cs h; first | rfl | (simp at h)
  · intro ks h; simp at h

theorem Try.ty59 : TyOK Try.prog 59 ⟨1, 8, [.p (.v .nilFunc)], .sc, none⟩ := by
  refine TyOK.of (z := .nilFunc) (by kernel_rfl) rfl (by first | rfl | decide | (simp [Value.cells, zval, scal])) rfl ?_ ?_ ?_
  · exact scOf_spec (by kernel_rfl)
  · intro cs h; first | rfl | (simp at h)
  · intro ks h; simp at h

theorem Try.ty60 : TyOK Try.prog 60 ⟨1, 8, [.p (.v .nilFunc)], .sc, none⟩ := by
  refine TyOK.of (z := .nilFunc) (by kernel_rfl) rfl (by first | rfl | decide | (simp [Value.cells, zval, scal])) rfl ?_ ?_ ?_
  · exact scOf_spec (by kernel_rfl)
  · intro cs h; first | rfl | (simp at h)
  · intro ks h; simp at h

theorem Try.ty61 : TyOK Try.prog 61 ⟨1, 24, [.nil 1], .slice 9, none⟩ := by
  refine TyOK.of (z := .slice none 0 0) (by kernel_rfl) rfl (by first | rfl | decide | (simp [Value.cells, zval, scal])) rfl ?_ ?_ ?_
  · show Try.prog.underlying 61 = _; kernel_rfl
  · intro cs h; first | rfl | (simp at h)
  · intro ks h; simp at h

theorem Try.ty62 : TyOK Try.prog 62 ⟨1, 8, [.p (.v .nilFunc)], .sc, none⟩ := by
  refine TyOK.of (z := .nilFunc) (by kernel_rfl) rfl (by first | rfl | decide | (simp [Value.cells, zval, scal])) rfl ?_ ?_ ?_
  · exact scOf_spec (by kernel_rfl)
  · intro cs h; first | rfl | (simp at h)
  · intro ks h; simp at h

theorem Try.ty63 : TyOK Try.prog 63 ⟨1, 8, [.p (.v .nilFunc)], .sc, none⟩ := by
  refine TyOK.of (z := .nilFunc) (by kernel_rfl) rfl (by first | rfl | decide | (simp [Value.cells, zval, scal])) rfl ?_ ?_ ?_
  · exact scOf_spec (by kernel_rfl)
  · intro cs h; first | rfl | (simp at h)
  · intro ks h; simp at h

theorem Try.ty64 : TyOK Try.prog 64 ⟨1, 8, [.p (.v .nilFunc)], .sc, none⟩ := by
  refine TyOK.of (z := .nilFunc) (by kernel_rfl) rfl (by first | rfl | decide | (simp [Value.cells, zval, scal])) rfl ?_ ?_ ?_
  · exact scOf_spec (by kernel_rfl)
  · intro cs h; first | rfl | (simp at h)
  · intro ks h; simp at h

theorem Try.ty65 : TyOK Try.prog 65 ⟨1, 8, [.p (.v .nilFunc)], .sc, none⟩ := by
  refine TyOK.of (z := .nilFunc) (by kernel_rfl) rfl (by first | rfl | decide | (simp [Value.cells, zval, scal])) rfl ?_ ?_ ?_
  · exact scOf_spec (by kernel_rfl)
  · intro cs h; first | rfl | (simp at h)
  · intro ks h; simp at h

theorem Try.ty66 : TyOK Try.prog 66 ⟨1, 8, [.p (.v .nilFunc)], .sc, none⟩ := by
  refine TyOK.of (z := .nilFunc) (by kernel_rfl) rfl (by first | rfl | decide | (simp [Value.cells, zval, scal])) rfl ?_ ?_ ?_
  · exact scOf_spec (by kernel_rfl)
  · intro cs h; first | rfl | (simp at h)
  · intro ks h; simp at h

theorem Try.ty67 : TyOK Try.prog 67 ⟨1, 8, [.p (.v .nilFunc)], .sc, none⟩ := by
  refine TyOK.of (z := .nilFunc) (by kernel_rfl) rfl (by first | rfl | decide | (simp [Value.cells, zval, scal])) rfl ?_ ?_ ?_
  · exact scOf_spec (by kernel_rfl)
  · intro cs h; first | rfl | (simp at h)
  · intro ks h; simp at h

theorem Try.ty69 : TyOK Try.prog 69 ⟨1, 8, [.p (.v .nilFunc)], .sc, none⟩ := by
  refine TyOK.of (z := .nilFunc) (by kernel_rfl) rfl (by first | rfl | decide | (simp [Value.cells, zval, scal])) rfl ?_ ?_ ?_
  · exact scOf_spec (by kernel_rfl)
  · intro cs h; first | rfl | (simp at h)
  · intro ks h; simp at h

theorem Try.ty70 : TyOK Try.prog 70 ⟨1, 8, [.p (.v .nilFunc)], .sc, none⟩ := by
  refine TyOK.of (z := .nilFunc) (by kernel_rfl) rfl (by first | rfl | decide | (simp [Value.cells, zval, scal])) rfl ?_ ?_ ?_
  · exact scOf_spec (by kernel_rfl)
  · intro cs h; first | rfl | (simp at h)
  · intro ks h; simp at h

theorem Try.ty71 : TyOK Try.prog 71 ⟨1, 8, [.p (.v .nilFunc)], .sc, none⟩ := by
  refine TyOK.of (z := .nilFunc) (by kernel_rfl) rfl (by first | rfl | decide | (simp [Value.cells, zval, scal])) rfl ?_ ?_ ?_
  · exact scOf_spec (by kernel_rfl)
  · intro cs h; first | rfl | (simp at h)
  · intro ks h; simp at h

theorem Try.ty72 : TyOK Try.prog 72 ⟨1, 24, [.nil 1], .slice 5, none⟩ := by
  refine TyOK.of (z := .slice none 0 0) (by kernel_rfl) rfl (by first | rfl | decide | (simp [Value.cells, zval, scal])) rfl ?_ ?_ ?_
  · show Try.prog.underlying 72 = _; kernel_rfl
  · intro cs h; first | rfl | (simp at h)
  · intro ks h; simp at h

theorem Try.ty73 : TyOK Try.prog 73 ⟨1, 8, [.p (.v .nilFunc)], .sc, none⟩ := by
  refine TyOK.of (z := .nilFunc) (by kernel_rfl) rfl (by first | rfl | decide | (simp [Value.cells, zval, scal])) rfl ?_ ?_ ?_
  · exact scOf_spec (by kernel_rfl)
  · intro cs h; first | rfl | (simp at h)
  · intro ks h; simp at h

theorem Try.ty74 : TyOK Try.prog 74 ⟨1, 8, [.p (.v .nilFunc)], .sc, none⟩ := by
  refine TyOK.of (z := .nilFunc) (by kernel_rfl) rfl (by first | rfl | decide | (simp [Value.cells, zval, scal])) rfl ?_ ?_ ?_
  · exact scOf_spec (by kernel_rfl)
  · intro cs h; first | rfl | (simp at h)
  · intro ks h; simp at h

theorem Try.ty75 : TyOK Try.prog 75 ⟨1, 4, [.p (.v (.int .u32 0))], .int .u32, none⟩ := by
  refine TyOK.of (z := .int .u32 0) (by kernel_rfl) rfl (by first | rfl | decide | (simp [Value.cells, zval, scal])) rfl ?_ ?_ ?_
  · show Try.prog.underlying 75 = _; kernel_rfl
  · intro cs h; first | rfl | (simp at h)
  · intro ks h; simp at h

theorem Try.ty77 : TyOK Try.prog 77 ⟨1, 8, [.p (.v .nilFunc)], .sc, none⟩ := by
  refine TyOK.of (z := .nilFunc) (by kernel_rfl) rfl (by first | rfl | decide | (simp [Value.cells, zval, scal])) rfl ?_ ?_ ?_
  · exact scOf_spec (by kernel_rfl)
  · intro cs h; first | rfl | (simp at h)
  · intro ks h; simp at h

theorem Try.ty78 : TyOK Try.prog 78 ⟨1, 8, [.p (.v (.int .u64 0))], .int .u64, none⟩ := by
  refine TyOK.of (z := .int .u64 0) (by kernel_rfl) rfl (by first | rfl | decide | (simp [Value.cells, zval, scal])) rfl ?_ ?_ ?_
  · show Try.prog.underlying 78 = _; kernel_rfl
  · intro cs h; first | rfl | (simp at h)
  · intro ks h; simp at h

theorem Try.ty79 : TyOK Try.prog 79 ⟨1, 8, [.p (.v .nilFunc)], .sc, none⟩ := by
  refine TyOK.of (z := .nilFunc) (by kernel_rfl) rfl (by first | rfl | decide | (simp [Value.cells, zval, scal])) rfl ?_ ?_ ?_
  · exact scOf_spec (by kernel_rfl)
  · intro cs h; first | rfl | (simp at h)
  · intro ks h; simp at h

theorem Try.ty85 : TyOK Try.prog 85 ⟨1, 8, [.p (.v .nilFunc)], .sc, none⟩ := by
  refine TyOK.of (z := .nilFunc) (by kernel_rfl) rfl (by first | rfl | decide | (simp [Value.cells, zval, scal])) rfl ?_ ?_ ?_
  · exact scOf_spec (by kernel_rfl)
  · intro cs h; first | rfl | (simp at h)
  · intro ks h; simp at h

theorem Try.ty88 : TyOK Try.prog 88 ⟨1, 8, [.p (.v .nilFunc)], .sc, none⟩ := by
  refine TyOK.of (z := .nilFunc) (by kernel_rfl) rfl (by first | rfl | decide | (simp [Value.cells, zval, scal])) rfl ?_ ?_ ?_
  · exact scOf_spec (by kernel_rfl)
  · intro cs h; first | rfl | (simp at h)
  · intro ks h; simp at h

theorem Try.ty95 : TyOK Try.prog 95 ⟨4, 32, [.p (.v (.int .i64 0)), .p (.v (.int .i64 0)), .p (.v (.int .i64 0)), .p (.v (.int .i64 0))], .struct [(0, 3), (1, 3), (2, 3), (3, 3)], some [.int .i64, .int .i64, .int .i64, .int .i64]⟩ := by
  refine TyOK.of (z := .agg #[.int .i64 0, .int .i64 0, .int .i64 0, .int .i64 0]) (by kernel_rfl) rfl (by first | rfl | decide | (simp [Value.cells, zval, scal])) rfl ?_ ?_ ?_
  · exact structOf_spec (by kernel_rfl)
  · intro cs h; first | rfl | (simp at h)
  · intro ks h; simp only [Option.some.injEq] at h; subst h; refine ⟨rfl, fun xs ys hx hy w => ⟨?_, by kernel_rfl⟩⟩
    obtain ⟨_, _, rfl, ⟨x0, rfl⟩, hx⟩ := hx; obtain ⟨_, _, rfl, ⟨x1, rfl⟩, hx⟩ := hx; obtain ⟨_, _, rfl, ⟨x2, rfl⟩, hx⟩ := hx; obtain ⟨_, _, rfl, ⟨x3, rfl⟩, hx⟩ := hx; subst hx
    obtain ⟨_, _, rfl, ⟨y0, rfl⟩, hy⟩ := hy; obtain ⟨_, _, rfl, ⟨y1, rfl⟩, hy⟩ := hy; obtain ⟨_, _, rfl, ⟨y2, rfl⟩, hy⟩ := hy; obtain ⟨_, _, rfl, ⟨y3, rfl⟩, hy⟩ := hy; subst hy
    show (Op.equalIn 10000 95 (.agg #[.int .i64 x0, .int .i64 x1, .int .i64 x2, .int .i64 x3]) (.agg #[.int .i64 y0, .int .i64 y1, .int .i64 y2, .int .i64 y3])).run Try.prog w = _
    go_simp
    simp only [ceq, veq]
    all_goals (repeat' split)
    all_goals simp_all

def Try.T : TypeId → Option Ty
  | 1 => some ⟨1, 8, [.p (.v .nilFunc)], .sc, none⟩
  | 2 => some ⟨1, 8, [.p (.v (.int .i64 0))], .int .i64, none⟩
  | 3 => some ⟨1, 8, [.p (.v (.int .i64 0))], .int .i64, none⟩
  | 4 => some ⟨1, 1, [.p (.v (.bool false))], .bool, none⟩
  | 5 => some ⟨1, 1, [.p (.v (.int .u8 0))], .int .u8, none⟩
  | 9 => some ⟨1, 16, [.p (.v (.string ByteArray.empty))], .str, none⟩
  | 12 => some ⟨1, 8, [.p (.v (.int .u64 0))], .int .u64, none⟩
  | 21 => some ⟨1, 4, [.p (.v (.int .i32 0))], .int .i32, none⟩
  | 22 => some ⟨1, 24, [.nil 3], .slice 39, none⟩
  | 23 => some ⟨1, 24, [.nil 5], .slice 50, none⟩
  | 24 => some ⟨1, 24, [.nil 1], .slice 3, none⟩
  | 26 => some ⟨2, 16, [.p (.v (.int .i64 0)), .p (.v (.int .i64 0))], .struct [(0, 3), (1, 3)], some [.int .i64, .int .i64]⟩
  | 27 => some ⟨1, 24, [.nil 4], .slice 95, none⟩
  | 29 => some ⟨4, 48, [.p (.v (.int .i64 0)), .p (.v (.int .i64 0)), .p (.v (.int .i64 0)), .nil 4], .struct [(0, 26), (2, 3), (3, 27)], none⟩
  | 31 => some ⟨9, 120, [.nil 5, .nil 1, .p (.v (.int .i64 0)), .p (.v (.int .i64 0)), .p (.v (.int .i64 0)), .p (.v (.int .i64 0)), .nil 4, .p (.v (.int .i64 0)), .p (.v (.int .i64 0))], .struct [(0, 23), (1, 24), (2, 3), (3, 29), (7, 26)], none⟩
  | 32 => some ⟨18, 240, [.nil 5, .nil 1, .p (.v (.int .i64 0)), .p (.v (.int .i64 0)), .p (.v (.int .i64 0)), .p (.v (.int .i64 0)), .nil 4, .p (.v (.int .i64 0)), .p (.v (.int .i64 0)), .nil 5, .nil 1, .p (.v (.int .i64 0)), .p (.v (.int .i64 0)), .p (.v (.int .i64 0)), .p (.v (.int .i64 0)), .nil 4, .p (.v (.int .i64 0)), .p (.v (.int .i64 0))], .array 2 31, none⟩
  | 33 => some ⟨1, 8, [.p (.v .nilFunc)], .sc, none⟩
  | 34 => some ⟨1, 8, [.p (.v .nilFunc)], .sc, none⟩
  | 35 => some ⟨1, 24, [.nil 6], .slice 41, none⟩
  | 37 => some ⟨1, 8, [.p (.v .nilFunc)], .sc, none⟩
  | 39 => some ⟨3, 32, [.p (.v (.int .i64 0)), .p (.v (.int .i64 0)), .p (.v (.string ByteArray.empty))], .struct [(0, 3), (1, 3), (2, 9)], some [.int .i64, .int .i64, .str]⟩
  | 41 => some ⟨6, 56, [.p (.v (.int .i64 0)), .p (.v (.int .i64 0)), .p (.v (.string ByteArray.empty)), .p (.v (.int .i64 0)), .p (.v (.int .i64 0)), .p (.v (.int .i64 0))], .struct [(0, 3), (1, 3), (2, 9), (3, 3), (4, 26)], some [.int .i64, .int .i64, .str, .int .i64, .int .i64, .int .i64]⟩
  | 42 => some ⟨1, 8, [.p (.v .nilFunc)], .sc, none⟩
  | 43 => some ⟨1, 8, [.p (.v (.int .u64 0))], .int .u64, none⟩
  | 44 => some ⟨1, 8, [.p (.v (.int .i64 0))], .int .i64, none⟩
  | 46 => some ⟨1, 8, [.p (.v .nilFunc)], .sc, none⟩
  | 47 => some ⟨1, 8, [.p (.v .nilFunc)], .sc, none⟩
  | 48 => some ⟨1, 8, [.p (.v .nilFunc)], .sc, none⟩
  | 50 => some ⟨5, 56, [.p (.v (.string ByteArray.empty)), .p (.v (.string ByteArray.empty)), .p (.v (.int .i64 0)), .p (.v (.int .i64 0)), .p (.v (.int .i64 0))], .struct [(0, 9), (1, 9), (2, 3), (3, 3), (4, 3)], some [.str, .str, .int .i64, .int .i64, .int .i64]⟩
  | 51 => some ⟨1, 8, [.p (.v .nilFunc)], .sc, none⟩
  | 52 => some ⟨1, 8, [.p (.v .nilFunc)], .sc, none⟩
  | 53 => some ⟨1, 8, [.p (.v .nilFunc)], .sc, none⟩
  | 54 => some ⟨1, 8, [.p (.v .nilFunc)], .sc, none⟩
  | 55 => some ⟨1, 8, [.p (.v .nilFunc)], .sc, none⟩
  | 56 => some ⟨1, 8, [.p (.v .nilFunc)], .sc, none⟩
  | 57 => some ⟨1, 8, [.p (.v .nilFunc)], .sc, none⟩
  | 59 => some ⟨1, 8, [.p (.v .nilFunc)], .sc, none⟩
  | 60 => some ⟨1, 8, [.p (.v .nilFunc)], .sc, none⟩
  | 61 => some ⟨1, 24, [.nil 1], .slice 9, none⟩
  | 62 => some ⟨1, 8, [.p (.v .nilFunc)], .sc, none⟩
  | 63 => some ⟨1, 8, [.p (.v .nilFunc)], .sc, none⟩
  | 64 => some ⟨1, 8, [.p (.v .nilFunc)], .sc, none⟩
  | 65 => some ⟨1, 8, [.p (.v .nilFunc)], .sc, none⟩
  | 66 => some ⟨1, 8, [.p (.v .nilFunc)], .sc, none⟩
  | 67 => some ⟨1, 8, [.p (.v .nilFunc)], .sc, none⟩
  | 69 => some ⟨1, 8, [.p (.v .nilFunc)], .sc, none⟩
  | 70 => some ⟨1, 8, [.p (.v .nilFunc)], .sc, none⟩
  | 71 => some ⟨1, 8, [.p (.v .nilFunc)], .sc, none⟩
  | 72 => some ⟨1, 24, [.nil 1], .slice 5, none⟩
  | 73 => some ⟨1, 8, [.p (.v .nilFunc)], .sc, none⟩
  | 74 => some ⟨1, 8, [.p (.v .nilFunc)], .sc, none⟩
  | 75 => some ⟨1, 4, [.p (.v (.int .u32 0))], .int .u32, none⟩
  | 77 => some ⟨1, 8, [.p (.v .nilFunc)], .sc, none⟩
  | 78 => some ⟨1, 8, [.p (.v (.int .u64 0))], .int .u64, none⟩
  | 79 => some ⟨1, 8, [.p (.v .nilFunc)], .sc, none⟩
  | 85 => some ⟨1, 8, [.p (.v .nilFunc)], .sc, none⟩
  | 88 => some ⟨1, 8, [.p (.v .nilFunc)], .sc, none⟩
  | 95 => some ⟨4, 32, [.p (.v (.int .i64 0)), .p (.v (.int .i64 0)), .p (.v (.int .i64 0)), .p (.v (.int .i64 0))], .struct [(0, 3), (1, 3), (2, 3), (3, 3)], some [.int .i64, .int .i64, .int .i64, .int .i64]⟩
  | _ => none

theorem Try.T1 : Try.T 1 = some ⟨1, 8, [.p (.v .nilFunc)], .sc, none⟩ := rfl
theorem Try.T2 : Try.T 2 = some ⟨1, 8, [.p (.v (.int .i64 0))], .int .i64, none⟩ := rfl
theorem Try.T3 : Try.T 3 = some ⟨1, 8, [.p (.v (.int .i64 0))], .int .i64, none⟩ := rfl
theorem Try.T4 : Try.T 4 = some ⟨1, 1, [.p (.v (.bool false))], .bool, none⟩ := rfl
theorem Try.T5 : Try.T 5 = some ⟨1, 1, [.p (.v (.int .u8 0))], .int .u8, none⟩ := rfl
theorem Try.T9 : Try.T 9 = some ⟨1, 16, [.p (.v (.string ByteArray.empty))], .str, none⟩ := rfl
theorem Try.T12 : Try.T 12 = some ⟨1, 8, [.p (.v (.int .u64 0))], .int .u64, none⟩ := rfl
theorem Try.T21 : Try.T 21 = some ⟨1, 4, [.p (.v (.int .i32 0))], .int .i32, none⟩ := rfl
theorem Try.T22 : Try.T 22 = some ⟨1, 24, [.nil 3], .slice 39, none⟩ := rfl
theorem Try.T23 : Try.T 23 = some ⟨1, 24, [.nil 5], .slice 50, none⟩ := rfl
theorem Try.T24 : Try.T 24 = some ⟨1, 24, [.nil 1], .slice 3, none⟩ := rfl
theorem Try.T26 : Try.T 26 = some ⟨2, 16, [.p (.v (.int .i64 0)), .p (.v (.int .i64 0))], .struct [(0, 3), (1, 3)], some [.int .i64, .int .i64]⟩ := rfl
theorem Try.T27 : Try.T 27 = some ⟨1, 24, [.nil 4], .slice 95, none⟩ := rfl
theorem Try.T29 : Try.T 29 = some ⟨4, 48, [.p (.v (.int .i64 0)), .p (.v (.int .i64 0)), .p (.v (.int .i64 0)), .nil 4], .struct [(0, 26), (2, 3), (3, 27)], none⟩ := rfl
theorem Try.T31 : Try.T 31 = some ⟨9, 120, [.nil 5, .nil 1, .p (.v (.int .i64 0)), .p (.v (.int .i64 0)), .p (.v (.int .i64 0)), .p (.v (.int .i64 0)), .nil 4, .p (.v (.int .i64 0)), .p (.v (.int .i64 0))], .struct [(0, 23), (1, 24), (2, 3), (3, 29), (7, 26)], none⟩ := rfl
theorem Try.T32 : Try.T 32 = some ⟨18, 240, [.nil 5, .nil 1, .p (.v (.int .i64 0)), .p (.v (.int .i64 0)), .p (.v (.int .i64 0)), .p (.v (.int .i64 0)), .nil 4, .p (.v (.int .i64 0)), .p (.v (.int .i64 0)), .nil 5, .nil 1, .p (.v (.int .i64 0)), .p (.v (.int .i64 0)), .p (.v (.int .i64 0)), .p (.v (.int .i64 0)), .nil 4, .p (.v (.int .i64 0)), .p (.v (.int .i64 0))], .array 2 31, none⟩ := rfl
theorem Try.T33 : Try.T 33 = some ⟨1, 8, [.p (.v .nilFunc)], .sc, none⟩ := rfl
theorem Try.T34 : Try.T 34 = some ⟨1, 8, [.p (.v .nilFunc)], .sc, none⟩ := rfl
theorem Try.T35 : Try.T 35 = some ⟨1, 24, [.nil 6], .slice 41, none⟩ := rfl
theorem Try.T37 : Try.T 37 = some ⟨1, 8, [.p (.v .nilFunc)], .sc, none⟩ := rfl
theorem Try.T39 : Try.T 39 = some ⟨3, 32, [.p (.v (.int .i64 0)), .p (.v (.int .i64 0)), .p (.v (.string ByteArray.empty))], .struct [(0, 3), (1, 3), (2, 9)], some [.int .i64, .int .i64, .str]⟩ := rfl
theorem Try.T41 : Try.T 41 = some ⟨6, 56, [.p (.v (.int .i64 0)), .p (.v (.int .i64 0)), .p (.v (.string ByteArray.empty)), .p (.v (.int .i64 0)), .p (.v (.int .i64 0)), .p (.v (.int .i64 0))], .struct [(0, 3), (1, 3), (2, 9), (3, 3), (4, 26)], some [.int .i64, .int .i64, .str, .int .i64, .int .i64, .int .i64]⟩ := rfl
theorem Try.T42 : Try.T 42 = some ⟨1, 8, [.p (.v .nilFunc)], .sc, none⟩ := rfl
theorem Try.T43 : Try.T 43 = some ⟨1, 8, [.p (.v (.int .u64 0))], .int .u64, none⟩ := rfl
theorem Try.T44 : Try.T 44 = some ⟨1, 8, [.p (.v (.int .i64 0))], .int .i64, none⟩ := rfl
theorem Try.T46 : Try.T 46 = some ⟨1, 8, [.p (.v .nilFunc)], .sc, none⟩ := rfl
theorem Try.T47 : Try.T 47 = some ⟨1, 8, [.p (.v .nilFunc)], .sc, none⟩ := rfl
theorem Try.T48 : Try.T 48 = some ⟨1, 8, [.p (.v .nilFunc)], .sc, none⟩ := rfl
theorem Try.T50 : Try.T 50 = some ⟨5, 56, [.p (.v (.string ByteArray.empty)), .p (.v (.string ByteArray.empty)), .p (.v (.int .i64 0)), .p (.v (.int .i64 0)), .p (.v (.int .i64 0))], .struct [(0, 9), (1, 9), (2, 3), (3, 3), (4, 3)], some [.str, .str, .int .i64, .int .i64, .int .i64]⟩ := rfl
theorem Try.T51 : Try.T 51 = some ⟨1, 8, [.p (.v .nilFunc)], .sc, none⟩ := rfl
theorem Try.T52 : Try.T 52 = some ⟨1, 8, [.p (.v .nilFunc)], .sc, none⟩ := rfl
theorem Try.T53 : Try.T 53 = some ⟨1, 8, [.p (.v .nilFunc)], .sc, none⟩ := rfl
theorem Try.T54 : Try.T 54 = some ⟨1, 8, [.p (.v .nilFunc)], .sc, none⟩ := rfl
theorem Try.T55 : Try.T 55 = some ⟨1, 8, [.p (.v .nilFunc)], .sc, none⟩ := rfl
theorem Try.T56 : Try.T 56 = some ⟨1, 8, [.p (.v .nilFunc)], .sc, none⟩ := rfl
theorem Try.T57 : Try.T 57 = some ⟨1, 8, [.p (.v .nilFunc)], .sc, none⟩ := rfl
theorem Try.T59 : Try.T 59 = some ⟨1, 8, [.p (.v .nilFunc)], .sc, none⟩ := rfl
theorem Try.T60 : Try.T 60 = some ⟨1, 8, [.p (.v .nilFunc)], .sc, none⟩ := rfl
theorem Try.T61 : Try.T 61 = some ⟨1, 24, [.nil 1], .slice 9, none⟩ := rfl
theorem Try.T62 : Try.T 62 = some ⟨1, 8, [.p (.v .nilFunc)], .sc, none⟩ := rfl
theorem Try.T63 : Try.T 63 = some ⟨1, 8, [.p (.v .nilFunc)], .sc, none⟩ := rfl
theorem Try.T64 : Try.T 64 = some ⟨1, 8, [.p (.v .nilFunc)], .sc, none⟩ := rfl
theorem Try.T65 : Try.T 65 = some ⟨1, 8, [.p (.v .nilFunc)], .sc, none⟩ := rfl
theorem Try.T66 : Try.T 66 = some ⟨1, 8, [.p (.v .nilFunc)], .sc, none⟩ := rfl
theorem Try.T67 : Try.T 67 = some ⟨1, 8, [.p (.v .nilFunc)], .sc, none⟩ := rfl
theorem Try.T69 : Try.T 69 = some ⟨1, 8, [.p (.v .nilFunc)], .sc, none⟩ := rfl
theorem Try.T70 : Try.T 70 = some ⟨1, 8, [.p (.v .nilFunc)], .sc, none⟩ := rfl
theorem Try.T71 : Try.T 71 = some ⟨1, 8, [.p (.v .nilFunc)], .sc, none⟩ := rfl
theorem Try.T72 : Try.T 72 = some ⟨1, 24, [.nil 1], .slice 5, none⟩ := rfl
theorem Try.T73 : Try.T 73 = some ⟨1, 8, [.p (.v .nilFunc)], .sc, none⟩ := rfl
theorem Try.T74 : Try.T 74 = some ⟨1, 8, [.p (.v .nilFunc)], .sc, none⟩ := rfl
theorem Try.T75 : Try.T 75 = some ⟨1, 4, [.p (.v (.int .u32 0))], .int .u32, none⟩ := rfl
theorem Try.T77 : Try.T 77 = some ⟨1, 8, [.p (.v .nilFunc)], .sc, none⟩ := rfl
theorem Try.T78 : Try.T 78 = some ⟨1, 8, [.p (.v (.int .u64 0))], .int .u64, none⟩ := rfl
theorem Try.T79 : Try.T 79 = some ⟨1, 8, [.p (.v .nilFunc)], .sc, none⟩ := rfl
theorem Try.T85 : Try.T 85 = some ⟨1, 8, [.p (.v .nilFunc)], .sc, none⟩ := rfl
theorem Try.T88 : Try.T 88 = some ⟨1, 8, [.p (.v .nilFunc)], .sc, none⟩ := rfl
theorem Try.T95 : Try.T 95 = some ⟨4, 32, [.p (.v (.int .i64 0)), .p (.v (.int .i64 0)), .p (.v (.int .i64 0)), .p (.v (.int .i64 0))], .struct [(0, 3), (1, 3), (2, 3), (3, 3)], some [.int .i64, .int .i64, .int .i64, .int .i64]⟩ := rfl

set_option maxRecDepth 100000 in
set_option maxHeartbeats 4000000 in
theorem Try.tab : TabOK Try.prog Try.T := by
  intro t y h
  unfold Try.T at h
  split at h
  · simp only [Option.some.injEq] at h; subst h; exact Try.ty1
  · simp only [Option.some.injEq] at h; subst h; exact Try.ty2
  · simp only [Option.some.injEq] at h; subst h; exact Try.ty3
  · simp only [Option.some.injEq] at h; subst h; exact Try.ty4
  · simp only [Option.some.injEq] at h; subst h; exact Try.ty5
  · simp only [Option.some.injEq] at h; subst h; exact Try.ty9
  · simp only [Option.some.injEq] at h; subst h; exact Try.ty12
  · simp only [Option.some.injEq] at h; subst h; exact Try.ty21
  · simp only [Option.some.injEq] at h; subst h; exact Try.ty22
  · simp only [Option.some.injEq] at h; subst h; exact Try.ty23
  · simp only [Option.some.injEq] at h; subst h; exact Try.ty24
  · simp only [Option.some.injEq] at h; subst h; exact Try.ty26
  · simp only [Option.some.injEq] at h; subst h; exact Try.ty27
  · simp only [Option.some.injEq] at h; subst h; exact Try.ty29
  · simp only [Option.some.injEq] at h; subst h; exact Try.ty31
  · simp only [Option.some.injEq] at h; subst h; exact Try.ty32
  · simp only [Option.some.injEq] at h; subst h; exact Try.ty33
  · simp only [Option.some.injEq] at h; subst h; exact Try.ty34
  · simp only [Option.some.injEq] at h; subst h; exact Try.ty35
  · simp only [Option.some.injEq] at h; subst h; exact Try.ty37
  · simp only [Option.some.injEq] at h; subst h; exact Try.ty39
  · simp only [Option.some.injEq] at h; subst h; exact Try.ty41
  · simp only [Option.some.injEq] at h; subst h; exact Try.ty42
  · simp only [Option.some.injEq] at h; subst h; exact Try.ty43
  · simp only [Option.some.injEq] at h; subst h; exact Try.ty44
  · simp only [Option.some.injEq] at h; subst h; exact Try.ty46
  · simp only [Option.some.injEq] at h; subst h; exact Try.ty47
  · simp only [Option.some.injEq] at h; subst h; exact Try.ty48
  · simp only [Option.some.injEq] at h; subst h; exact Try.ty50
  · simp only [Option.some.injEq] at h; subst h; exact Try.ty51
  · simp only [Option.some.injEq] at h; subst h; exact Try.ty52
  · simp only [Option.some.injEq] at h; subst h; exact Try.ty53
  · simp only [Option.some.injEq] at h; subst h; exact Try.ty54
  · simp only [Option.some.injEq] at h; subst h; exact Try.ty55
  · simp only [Option.some.injEq] at h; subst h; exact Try.ty56
  · simp only [Option.some.injEq] at h; subst h; exact Try.ty57
  · simp only [Option.some.injEq] at h; subst h; exact Try.ty59
  · simp only [Option.some.injEq] at h; subst h; exact Try.ty60
  · simp only [Option.some.injEq] at h; subst h; exact Try.ty61
  · simp only [Option.some.injEq] at h; subst h; exact Try.ty62
  · simp only [Option.some.injEq] at h; subst h; exact Try.ty63
  · simp only [Option.some.injEq] at h; subst h; exact Try.ty64
  · simp only [Option.some.injEq] at h; subst h; exact Try.ty65
  · simp only [Option.some.injEq] at h; subst h; exact Try.ty66
  · simp only [Option.some.injEq] at h; subst h; exact Try.ty67
  · simp only [Option.some.injEq] at h; subst h; exact Try.ty69
  · simp only [Option.some.injEq] at h; subst h; exact Try.ty70
  · simp only [Option.some.injEq] at h; subst h; exact Try.ty71
  · simp only [Option.some.injEq] at h; subst h; exact Try.ty72
  · simp only [Option.some.injEq] at h; subst h; exact Try.ty73
  · simp only [Option.some.injEq] at h; subst h; exact Try.ty74
  · simp only [Option.some.injEq] at h; subst h; exact Try.ty75
  · simp only [Option.some.injEq] at h; subst h; exact Try.ty77
  · simp only [Option.some.injEq] at h; subst h; exact Try.ty78
  · simp only [Option.some.injEq] at h; subst h; exact Try.ty79
  · simp only [Option.some.injEq] at h; subst h; exact Try.ty85
  · simp only [Option.some.injEq] at h; subst h; exact Try.ty88
  · simp only [Option.some.injEq] at h; subst h; exact Try.ty95
  · simp at h
theorem Try.mixed : Try.prog.follows .mixedOrders = true := by kernel_rfl
end Go.Proofs.Ytkeopdjnidmaeaa
