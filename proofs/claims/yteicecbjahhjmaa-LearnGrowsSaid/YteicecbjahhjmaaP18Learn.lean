/- Texts that the proof needs: Tab. -/
import Derived.Test.YteicecbjahhjmaaProg
import Derived.Test.YteicecbjahhjmaaP11Learn
import Derived.WalkKit
import Derived.WalkSpells
import Derived.KernelRfl
/- The table of types of this translation, by program. -/
namespace Go.Proofs.Yteicecbjahhjmaa
open Go Go.Av
instance Try.glob : Glob := ⟨fun _ => none⟩
theorem Try.ty1 : TyOK Try.prog 1 ⟨1, 8, [.p (.v .nilFunc)], .sc, none⟩ := by
  refine TyOK.of (z := .nilFunc) (by kernel_rfl) rfl (by first | rfl | decide | (simp [Value.cells, zval, scal])) rfl ?_ ?_ ?_
  · exact scOf_spec (by kernel_rfl)
  · intro cs h; first | rfl | (simp at h)
  · intro ks h; simp at h
theorem Try.ty2 : TyOK Try.prog 2 ⟨1, 8, [.p (.v (.int .i64 0))], .int .i64, none⟩ := by
  refine TyOK.of (z := .int .i64 0) (by kernel_rfl) rfl (by first | rfl | decide | (simp [Value.cells, zval, scal])) rfl ?_ ?_ ?_
  · show Try.prog.underlying 2 = _; kernel_rfl
  · intro cs h; first | rfl | (simp at h)
  · intro ks h; simp at h
theorem Try.ty3 : TyOK Try.prog 3 ⟨1, 8, [.p (.v (.int .i64 0))], .int .i64, none⟩ := by
  refine TyOK.of (z := .int .i64 0) (by kernel_rfl) rfl (by first | rfl | decide | (simp [Value.cells, zval, scal])) rfl ?_ ?_ ?_
  · show Try.prog.underlying 3 = _; kernel_rfl
  · intro cs h; first | rfl | (simp at h)
  · intro ks h; simp at h
theorem Try.ty4 : TyOK Try.prog 4 ⟨1, 1, [.p (.v (.bool false))], .bool, none⟩ := by
  refine TyOK.of (z := .bool false) (by kernel_rfl) rfl (by first | rfl | decide | (simp [Value.cells, zval, scal])) rfl ?_ ?_ ?_
  · show Try.prog.underlying 4 = _; kernel_rfl
  · intro cs h; first | rfl | (simp at h)
  · intro ks h; simp at h
theorem Try.ty5 : TyOK Try.prog 5 ⟨1, 1, [.p (.v (.int .u8 0))], .int .u8, none⟩ := by
  refine TyOK.of (z := .int .u8 0) (by kernel_rfl) rfl (by first | rfl | decide | (simp [Value.cells, zval, scal])) rfl ?_ ?_ ?_
  · show Try.prog.underlying 5 = _; kernel_rfl
  · intro cs h; first | rfl | (simp at h)
  · intro ks h; simp at h
theorem Try.ty9 : TyOK Try.prog 9 ⟨1, 16, [.p (.v (.string ByteArray.empty))], .str, none⟩ := by
  refine TyOK.of (z := .string ByteArray.empty) (by kernel_rfl) rfl (by first | rfl | decide | (simp [Value.cells, zval, scal])) rfl ?_ ?_ ?_
  · show Try.prog.underlying 9 = _; kernel_rfl
  · intro cs h; first | rfl | (simp at h)
  · intro ks h; simp at h
theorem Try.ty12 : TyOK Try.prog 12 ⟨1, 8, [.p (.v (.int .u64 0))], .int .u64, none⟩ := by
  refine TyOK.of (z := .int .u64 0) (by kernel_rfl) rfl (by first | rfl | decide | (simp [Value.cells, zval, scal])) rfl ?_ ?_ ?_
  · show Try.prog.underlying 12 = _; kernel_rfl
  · intro cs h; first | rfl | (simp at h)
  · intro ks h; simp at h
theorem Try.ty15 : TyOK Try.prog 15 ⟨1, 8, [.p (.v (.pointer none))], .sc, none⟩ := by
  refine TyOK.of (z := .pointer none) (by kernel_rfl) rfl (by first | rfl | decide | (simp [Value.cells, zval, scal])) rfl ?_ ?_ ?_
  · exact scOf_spec (by kernel_rfl)
  · intro cs h; first | rfl | (simp at h)
  · intro ks h; simp at h
theorem Try.ty16 : TyOK Try.prog 16 ⟨1, 8, [.p (.v (.pointer none))], .sc, none⟩ := by
  refine TyOK.of (z := .pointer none) (by kernel_rfl) rfl (by first | rfl | decide | (simp [Value.cells, zval, scal])) rfl ?_ ?_ ?_
  · exact scOf_spec (by kernel_rfl)
  · intro cs h; first | rfl | (simp at h)
  · intro ks h; simp at h
theorem Try.ty17 : TyOK Try.prog 17 ⟨1, 8, [.p (.v (.pointer none))], .sc, none⟩ := by
  refine TyOK.of (z := .pointer none) (by kernel_rfl) rfl (by first | rfl | decide | (simp [Value.cells, zval, scal])) rfl ?_ ?_ ?_
  · exact scOf_spec (by kernel_rfl)
  · intro cs h; first | rfl | (simp at h)
  · intro ks h; simp at h
theorem Try.ty21 : TyOK Try.prog 21 ⟨1, 4, [.p (.v (.int .i32 0))], .int .i32, none⟩ := by
  refine TyOK.of (z := .int .i32 0) (by kernel_rfl) rfl (by first | rfl | decide | (simp [Value.cells, zval, scal])) rfl ?_ ?_ ?_
  · show Try.prog.underlying 21 = _; kernel_rfl
  · intro cs h; first | rfl | (simp at h)
  · intro ks h; simp at h
theorem Try.ty22 : TyOK Try.prog 22 ⟨1, 24, [.nil 5], .slice 101, none⟩ := by
  refine TyOK.of (z := .slice none 0 0) (by kernel_rfl) rfl (by first | rfl | decide | (simp [Value.cells, zval, scal])) rfl ?_ ?_ ?_
  · show Try.prog.underlying 22 = _; kernel_rfl
  · intro cs h; first | rfl | (simp at h)
  · intro ks h; simp at h
theorem Try.ty23 : TyOK Try.prog 23 ⟨1, 24, [.nil 1], .slice 3, none⟩ := by
  refine TyOK.of (z := .slice none 0 0) (by kernel_rfl) rfl (by first | rfl | decide | (simp [Value.cells, zval, scal])) rfl ?_ ?_ ?_
  · show Try.prog.underlying 23 = _; kernel_rfl
  · intro cs h; first | rfl | (simp at h)
  · intro ks h; simp at h
theorem Try.ty25 : TyOK Try.prog 25 ⟨2, 16, [.p (.v (.int .i64 0)), .p (.v (.int .i64 0))], .struct [(0, 3), (1, 3)], some [.int .i64, .int .i64]⟩ := by
  refine TyOK.of (z := .agg #[.int .i64 0, .int .i64 0]) (by kernel_rfl) rfl (by first | rfl | decide | (simp [Value.cells, zval, scal])) rfl ?_ ?_ ?_
  · exact structOf_spec (by kernel_rfl)
  · intro cs h; first | rfl | (simp at h)
  · intro ks h; simp only [Option.some.injEq] at h; subst h; refine ⟨rfl, fun xs ys hx hy w => ⟨?_, by kernel_rfl⟩⟩
    obtain ⟨_, _, rfl, ⟨x0, rfl⟩, hx⟩ := hx; obtain ⟨_, _, rfl, ⟨x1, rfl⟩, hx⟩ := hx; subst hx
    obtain ⟨_, _, rfl, ⟨y0, rfl⟩, hy⟩ := hy; obtain ⟨_, _, rfl, ⟨y1, rfl⟩, hy⟩ := hy; subst hy
    show (Op.equalIn 10000 25 (.agg #[.int .i64 x0, .int .i64 x1]) (.agg #[.int .i64 y0, .int .i64 y1])).run Try.prog w = _
    go_simp
    simp only [ceq, veq]
    all_goals (repeat' split)
    all_goals simp_all
theorem Try.ty26 : TyOK Try.prog 26 ⟨1, 24, [.nil 4], .slice 83, none⟩ := by
  refine TyOK.of (z := .slice none 0 0) (by kernel_rfl) rfl (by first | rfl | decide | (simp [Value.cells, zval, scal])) rfl ?_ ?_ ?_
  · show Try.prog.underlying 26 = _; kernel_rfl
  · intro cs h; first | rfl | (simp at h)
  · intro ks h; simp at h
theorem Try.ty28 : TyOK Try.prog 28 ⟨4, 48, [.p (.v (.int .i64 0)), .p (.v (.int .i64 0)), .p (.v (.int .i64 0)), .nil 4], .struct [(0, 25), (2, 3), (3, 26)], none⟩ := by
  refine TyOK.of (z := .agg #[.int .i64 0, .int .i64 0, .int .i64 0, .slice none 0 0]) (by kernel_rfl) rfl (by first | rfl | decide | (simp [Value.cells, zval, scal])) rfl ?_ ?_ ?_
  · exact structOf_spec (by kernel_rfl)
  · intro cs h; first | rfl | (simp at h)
  · intro ks h; simp at h
theorem Try.ty30 : TyOK Try.prog 30 ⟨9, 120, [.nil 5, .nil 1, .p (.v (.int .i64 0)), .p (.v (.int .i64 0)), .p (.v (.int .i64 0)), .p (.v (.int .i64 0)), .nil 4, .p (.v (.int .i64 0)), .p (.v (.int .i64 0))], .struct [(0, 22), (1, 23), (2, 3), (3, 28), (7, 25)], none⟩ := by
  refine TyOK.of (z := .agg #[.slice none 0 0, .slice none 0 0, .int .i64 0, .int .i64 0, .int .i64 0, .int .i64 0, .slice none 0 0, .int .i64 0, .int .i64 0]) (by kernel_rfl) rfl (by first | rfl | decide | (simp [Value.cells, zval, scal])) rfl ?_ ?_ ?_
  · exact structOf_spec (by kernel_rfl)
  · intro cs h; first | rfl | (simp at h)
  · intro ks h; simp at h
theorem Try.ty31 : TyOK Try.prog 31 ⟨1, 24, [.nil 8], .slice 58, none⟩ := by
  refine TyOK.of (z := .slice none 0 0) (by kernel_rfl) rfl (by first | rfl | decide | (simp [Value.cells, zval, scal])) rfl ?_ ?_ ?_
  · show Try.prog.underlying 31 = _; kernel_rfl
  · intro cs h; first | rfl | (simp at h)
  · intro ks h; simp at h
theorem Try.ty33 : TyOK Try.prog 33 ⟨10, 144, [.nil 5, .nil 1, .p (.v (.int .i64 0)), .p (.v (.int .i64 0)), .p (.v (.int .i64 0)), .p (.v (.int .i64 0)), .nil 4, .p (.v (.int .i64 0)), .p (.v (.int .i64 0)), .nil 8], .struct [(0, 30), (9, 31)], none⟩ := by
  refine TyOK.of (z := .agg #[.slice none 0 0, .slice none 0 0, .int .i64 0, .int .i64 0, .int .i64 0, .int .i64 0, .slice none 0 0, .int .i64 0, .int .i64 0, .slice none 0 0]) (by kernel_rfl) rfl (by first | rfl | decide | (simp [Value.cells, zval, scal])) rfl ?_ ?_ ?_
  · exact structOf_spec (by kernel_rfl)
  · intro cs h; first | rfl | (simp at h)
  · intro ks h; simp at h
theorem Try.ty35 : TyOK Try.prog 35 ⟨14, 176, [.p (.v (.int .i64 0)), .p (.v (.int .i64 0)), .p (.v (.int .i64 0)), .p (.v (.int .i64 0)), .nil 5, .nil 1, .p (.v (.int .i64 0)), .p (.v (.int .i64 0)), .p (.v (.int .i64 0)), .p (.v (.int .i64 0)), .nil 4, .p (.v (.int .i64 0)), .p (.v (.int .i64 0)), .nil 8], .struct [(0, 3), (1, 3), (2, 3), (3, 3), (4, 33)], none⟩ := by
  refine TyOK.of (z := .agg #[.int .i64 0, .int .i64 0, .int .i64 0, .int .i64 0, .slice none 0 0, .slice none 0 0, .int .i64 0, .int .i64 0, .int .i64 0, .int .i64 0, .slice none 0 0, .int .i64 0, .int .i64 0, .slice none 0 0]) (by kernel_rfl) rfl (by first | rfl | decide | (simp [Value.cells, zval, scal])) rfl ?_ ?_ ?_
  · exact structOf_spec (by kernel_rfl)
  · intro cs h; first | rfl | (simp at h)
  · intro ks h; simp at h
theorem Try.ty36 : TyOK Try.prog 36 ⟨1, 24, [.nil 48], .slice 67, none⟩ := by
  refine TyOK.of (z := .slice none 0 0) (by kernel_rfl) rfl (by first | rfl | decide | (simp [Value.cells, zval, scal])) rfl ?_ ?_ ?_
  · show Try.prog.underlying 36 = _; kernel_rfl
  · intro cs h; first | rfl | (simp at h)
  · intro ks h; simp at h
theorem Try.ty37 : TyOK Try.prog 37 ⟨1, 8, [.p (.v .nilFunc)], .sc, none⟩ := by
  refine TyOK.of (z := .nilFunc) (by kernel_rfl) rfl (by first | rfl | decide | (simp [Value.cells, zval, scal])) rfl ?_ ?_ ?_
  · exact scOf_spec (by kernel_rfl)
  · intro cs h; first | rfl | (simp at h)
  · intro ks h; simp at h
theorem Try.ty38 : TyOK Try.prog 38 ⟨1, 8, [.p (.v .nilFunc)], .sc, none⟩ := by
  refine TyOK.of (z := .nilFunc) (by kernel_rfl) rfl (by first | rfl | decide | (simp [Value.cells, zval, scal])) rfl ?_ ?_ ?_
  · exact scOf_spec (by kernel_rfl)
  · intro cs h; first | rfl | (simp at h)
  · intro ks h; simp at h
theorem Try.ty39 : TyOK Try.prog 39 ⟨1, 8, [.p (.v .nilFunc)], .sc, none⟩ := by
  refine TyOK.of (z := .nilFunc) (by kernel_rfl) rfl (by first | rfl | decide | (simp [Value.cells, zval, scal])) rfl ?_ ?_ ?_
  · exact scOf_spec (by kernel_rfl)
  · intro cs h; first | rfl | (simp at h)
  · intro ks h; simp at h
theorem Try.ty41 : TyOK Try.prog 41 ⟨7, 56, [.p (.v (.int .i64 0)), .p (.v (.int .i64 0)), .p (.v (.int .i64 0)), .p (.v (.int .i64 0)), .p (.v (.int .i64 0)), .p (.v (.int .i64 0)), .p (.v (.int .i64 0))], .struct [(0, 3), (1, 3), (2, 3), (3, 25), (5, 3), (6, 3)], some [.int .i64, .int .i64, .int .i64, .int .i64, .int .i64, .int .i64, .int .i64]⟩ := by
  refine TyOK.of (z := .agg #[.int .i64 0, .int .i64 0, .int .i64 0, .int .i64 0, .int .i64 0, .int .i64 0, .int .i64 0]) (by kernel_rfl) rfl (by first | rfl | decide | (simp [Value.cells, zval, scal])) rfl ?_ ?_ ?_
  · exact structOf_spec (by kernel_rfl)
  · intro cs h; first | rfl | (simp at h)
  · intro ks h; simp only [Option.some.injEq] at h; subst h; refine ⟨rfl, fun xs ys hx hy w => ⟨?_, by kernel_rfl⟩⟩
    obtain ⟨_, _, rfl, ⟨x0, rfl⟩, hx⟩ := hx; obtain ⟨_, _, rfl, ⟨x1, rfl⟩, hx⟩ := hx; obtain ⟨_, _, rfl, ⟨x2, rfl⟩, hx⟩ := hx; obtain ⟨_, _, rfl, ⟨x3, rfl⟩, hx⟩ := hx; obtain ⟨_, _, rfl, ⟨x4, rfl⟩, hx⟩ := hx; obtain ⟨_, _, rfl, ⟨x5, rfl⟩, hx⟩ := hx; obtain ⟨_, _, rfl, ⟨x6, rfl⟩, hx⟩ := hx; subst hx
    obtain ⟨_, _, rfl, ⟨y0, rfl⟩, hy⟩ := hy; obtain ⟨_, _, rfl, ⟨y1, rfl⟩, hy⟩ := hy; obtain ⟨_, _, rfl, ⟨y2, rfl⟩, hy⟩ := hy; obtain ⟨_, _, rfl, ⟨y3, rfl⟩, hy⟩ := hy; obtain ⟨_, _, rfl, ⟨y4, rfl⟩, hy⟩ := hy; obtain ⟨_, _, rfl, ⟨y5, rfl⟩, hy⟩ := hy; obtain ⟨_, _, rfl, ⟨y6, rfl⟩, hy⟩ := hy; subst hy
    show (Op.equalIn 10000 41 (.agg #[.int .i64 x0, .int .i64 x1, .int .i64 x2, .int .i64 x3, .int .i64 x4, .int .i64 x5, .int .i64 x6]) (.agg #[.int .i64 y0, .int .i64 y1, .int .i64 y2, .int .i64 y3, .int .i64 y4, .int .i64 y5, .int .i64 y6])).run Try.prog w = _
    go_simp
    simp only [ceq, veq]
    all_goals (repeat' split)
    all_goals simp_all
theorem Try.ty42 : TyOK Try.prog 42 ⟨1, 24, [.nil 7], .slice 41, none⟩ := by
  refine TyOK.of (z := .slice none 0 0) (by kernel_rfl) rfl (by first | rfl | decide | (simp [Value.cells, zval, scal])) rfl ?_ ?_ ?_
  · show Try.prog.underlying 42 = _; kernel_rfl
  · intro cs h; first | rfl | (simp at h)
  · intro ks h; simp at h
theorem Try.ty44 : TyOK Try.prog 44 ⟨17, 152, [.p (.v (.int .i64 0)), .p (.v (.int .i64 0)), .p (.v (.int .i64 0)), .p (.v (.int .i64 0)), .p (.v (.int .i64 0)), .p (.v (.int .i64 0)), .p (.v (.int .i64 0)), .p (.v (.int .i64 0)), .p (.v (.int .i64 0)), .p (.v (.int .i64 0)), .p (.v (.int .i64 0)), .p (.v (.int .i64 0)), .p (.v (.int .i64 0)), .p (.v (.int .i64 0)), .p (.v (.int .i64 0)), .p (.v (.int .i64 0)), .nil 7], .struct [(0, 3), (1, 3), (2, 41), (9, 41), (16, 42)], none⟩ := by
  refine TyOK.of (z := .agg #[.int .i64 0, .int .i64 0, .int .i64 0, .int .i64 0, .int .i64 0, .int .i64 0, .int .i64 0, .int .i64 0, .int .i64 0, .int .i64 0, .int .i64 0, .int .i64 0, .int .i64 0, .int .i64 0, .int .i64 0, .int .i64 0, .slice none 0 0]) (by kernel_rfl) rfl (by first | rfl | decide | (simp [Value.cells, zval, scal])) rfl ?_ ?_ ?_
  · exact structOf_spec (by kernel_rfl)
  · intro cs h; first | rfl | (simp at h)
  · intro ks h; simp at h
theorem Try.ty45 : TyOK Try.prog 45 ⟨1, 24, [.nil 8], .slice 113, none⟩ := by
  refine TyOK.of (z := .slice none 0 0) (by kernel_rfl) rfl (by first | rfl | decide | (simp [Value.cells, zval, scal])) rfl ?_ ?_ ?_
  · show Try.prog.underlying 45 = _; kernel_rfl
  · intro cs h; first | rfl | (simp at h)
  · intro ks h; simp at h
theorem Try.ty47 : TyOK Try.prog 47 ⟨38, 400, [.p (.v (.int .i64 0)), .p (.v (.int .i64 0)), .p (.v (.int .i64 0)), .nil 5, .nil 1, .p (.v (.int .i64 0)), .p (.v (.int .i64 0)), .p (.v (.int .i64 0)), .p (.v (.int .i64 0)), .nil 4, .p (.v (.int .i64 0)), .p (.v (.int .i64 0)), .nil 8, .p (.v (.int .i64 0)), .p (.v (.int .i64 0)), .p (.v (.int .i64 0)), .p (.v (.int .i64 0)), .p (.v (.int .i64 0)), .p (.v (.int .i64 0)), .p (.v (.int .i64 0)), .p (.v (.int .i64 0)), .p (.v (.int .i64 0)), .p (.v (.int .i64 0)), .p (.v (.int .i64 0)), .p (.v (.int .i64 0)), .p (.v (.int .i64 0)), .p (.v (.int .i64 0)), .p (.v (.int .i64 0)), .p (.v (.int .i64 0)), .p (.v (.int .i64 0)), .p (.v (.int .i64 0)), .p (.v (.int .i64 0)), .nil 7, .p (.v (.int .i64 0)), .p (.v (.int .i64 0)), .p (.v (.int .i64 0)), .p (.v (.int .i64 0)), .nil 8], .struct [(0, 3), (1, 3), (2, 3), (3, 33), (13, 25), (15, 3), (16, 44), (33, 3), (34, 3), (35, 3), (36, 3), (37, 45)], none⟩ := by
  refine TyOK.of (z := .agg #[.int .i64 0, .int .i64 0, .int .i64 0, .slice none 0 0, .slice none 0 0, .int .i64 0, .int .i64 0, .int .i64 0, .int .i64 0, .slice none 0 0, .int .i64 0, .int .i64 0, .slice none 0 0, .int .i64 0, .int .i64 0, .int .i64 0, .int .i64 0, .int .i64 0, .int .i64 0, .int .i64 0, .int .i64 0, .int .i64 0, .int .i64 0, .int .i64 0, .int .i64 0, .int .i64 0, .int .i64 0, .int .i64 0, .int .i64 0, .int .i64 0, .int .i64 0, .int .i64 0, .slice none 0 0, .int .i64 0, .int .i64 0, .int .i64 0, .int .i64 0, .slice none 0 0]) (by kernel_rfl) rfl (by first | rfl | decide | (simp [Value.cells, zval, scal])) rfl ?_ ?_ ?_
  · exact structOf_spec (by kernel_rfl)
  · intro cs h; first | rfl | (simp at h)
  · intro ks h; simp at h
theorem Try.ty48 : TyOK Try.prog 48 ⟨1, 24, [.nil 46], .slice 65, none⟩ := by
  refine TyOK.of (z := .slice none 0 0) (by kernel_rfl) rfl (by first | rfl | decide | (simp [Value.cells, zval, scal])) rfl ?_ ?_ ?_
  · show Try.prog.underlying 48 = _; kernel_rfl
  · intro cs h; first | rfl | (simp at h)
  · intro ks h; simp at h
theorem Try.ty50 : TyOK Try.prog 50 ⟨1, 8, [.p (.v .nilFunc)], .sc, none⟩ := by
  refine TyOK.of (z := .nilFunc) (by kernel_rfl) rfl (by first | rfl | decide | (simp [Value.cells, zval, scal])) rfl ?_ ?_ ?_
  · exact scOf_spec (by kernel_rfl)
  · intro cs h; first | rfl | (simp at h)
  · intro ks h; simp at h
theorem Try.ty51 : TyOK Try.prog 51 ⟨1, 8, [.p (.v .nilFunc)], .sc, none⟩ := by
  refine TyOK.of (z := .nilFunc) (by kernel_rfl) rfl (by first | rfl | decide | (simp [Value.cells, zval, scal])) rfl ?_ ?_ ?_
  · exact scOf_spec (by kernel_rfl)
  · intro cs h; first | rfl | (simp at h)
  · intro ks h; simp at h
theorem Try.ty52 : TyOK Try.prog 52 ⟨1, 24, [.nil 2], .slice 25, none⟩ := by
  refine TyOK.of (z := .slice none 0 0) (by kernel_rfl) rfl (by first | rfl | decide | (simp [Value.cells, zval, scal])) rfl ?_ ?_ ?_
  · show Try.prog.underlying 52 = _; kernel_rfl
  · intro cs h; first | rfl | (simp at h)
  · intro ks h; simp at h
theorem Try.ty54 : TyOK Try.prog 54 ⟨13, 168, [.p (.v (.int .i64 0)), .p (.v (.int .i64 0)), .p (.v (.int .i64 0)), .nil 5, .nil 1, .p (.v (.int .i64 0)), .p (.v (.int .i64 0)), .p (.v (.int .i64 0)), .p (.v (.int .i64 0)), .nil 4, .p (.v (.int .i64 0)), .p (.v (.int .i64 0)), .nil 8], .struct [(0, 3), (1, 25), (3, 30), (12, 31)], none⟩ := by
  refine TyOK.of (z := .agg #[.int .i64 0, .int .i64 0, .int .i64 0, .slice none 0 0, .slice none 0 0, .int .i64 0, .int .i64 0, .int .i64 0, .int .i64 0, .slice none 0 0, .int .i64 0, .int .i64 0, .slice none 0 0]) (by kernel_rfl) rfl (by first | rfl | decide | (simp [Value.cells, zval, scal])) rfl ?_ ?_ ?_
  · exact structOf_spec (by kernel_rfl)
  · intro cs h; first | rfl | (simp at h)
  · intro ks h; simp at h
theorem Try.ty55 : TyOK Try.prog 55 ⟨1, 8, [.p (.v (.int .i64 0))], .int .i64, none⟩ := by
  refine TyOK.of (z := .int .i64 0) (by kernel_rfl) rfl (by first | rfl | decide | (simp [Value.cells, zval, scal])) rfl ?_ ?_ ?_
  · show Try.prog.underlying 55 = _; kernel_rfl
  · intro cs h; first | rfl | (simp at h)
  · intro ks h; simp at h
theorem Try.ty56 : TyOK Try.prog 56 ⟨1, 24, [.nil 11], .slice 103, none⟩ := by
  refine TyOK.of (z := .slice none 0 0) (by kernel_rfl) rfl (by first | rfl | decide | (simp [Value.cells, zval, scal])) rfl ?_ ?_ ?_
  · show Try.prog.underlying 56 = _; kernel_rfl
  · intro cs h; first | rfl | (simp at h)
  · intro ks h; simp at h
theorem Try.ty58 : TyOK Try.prog 58 ⟨8, 88, [.p (.v (.int .i64 0)), .p (.v (.int .i64 0)), .p (.v (.int .i64 0)), .p (.v (.int .i64 0)), .p (.v (.int .i64 0)), .p (.v (.int .i64 0)), .p (.v (.string ByteArray.empty)), .nil 11], .struct [(0, 25), (2, 3), (3, 3), (4, 55), (5, 3), (6, 9), (7, 56)], none⟩ := by
  refine TyOK.of (z := .agg #[.int .i64 0, .int .i64 0, .int .i64 0, .int .i64 0, .int .i64 0, .int .i64 0, .string ByteArray.empty, .slice none 0 0]) (by kernel_rfl) rfl (by first | rfl | decide | (simp [Value.cells, zval, scal])) rfl ?_ ?_ ?_
  · exact structOf_spec (by kernel_rfl)
  · intro cs h; first | rfl | (simp at h)
  · intro ks h; simp at h
theorem Try.ty59 : TyOK Try.prog 59 ⟨1, 24, [.nil 6], .slice 167, none⟩ := by
  refine TyOK.of (z := .slice none 0 0) (by kernel_rfl) rfl (by first | rfl | decide | (simp [Value.cells, zval, scal])) rfl ?_ ?_ ?_
  · show Try.prog.underlying 59 = _; kernel_rfl
  · intro cs h; first | rfl | (simp at h)
  · intro ks h; simp at h
theorem Try.ty61 : TyOK Try.prog 61 ⟨3, 56, [.p (.v (.int .i64 0)), .nil 4, .nil 1], .struct [(0, 3), (1, 26), (2, 23)], none⟩ := by
  refine TyOK.of (z := .agg #[.int .i64 0, .slice none 0 0, .slice none 0 0]) (by kernel_rfl) rfl (by first | rfl | decide | (simp [Value.cells, zval, scal])) rfl ?_ ?_ ?_
  · exact structOf_spec (by kernel_rfl)
  · intro cs h; first | rfl | (simp at h)
  · intro ks h; simp at h
theorem Try.ty63 : TyOK Try.prog 63 ⟨9, 120, [.p (.v (.int .i64 0)), .p (.v (.int .i64 0)), .p (.v (.int .i64 0)), .nil 6, .p (.v (.int .i64 0)), .nil 4, .nil 1, .p (.v (.int .i64 0)), .p (.v (.int .i64 0))], .struct [(0, 3), (1, 3), (2, 3), (3, 59), (4, 61), (7, 25)], none⟩ := by
  refine TyOK.of (z := .agg #[.int .i64 0, .int .i64 0, .int .i64 0, .slice none 0 0, .int .i64 0, .slice none 0 0, .slice none 0 0, .int .i64 0, .int .i64 0]) (by kernel_rfl) rfl (by first | rfl | decide | (simp [Value.cells, zval, scal])) rfl ?_ ?_ ?_
  · exact structOf_spec (by kernel_rfl)
  · intro cs h; first | rfl | (simp at h)
  · intro ks h; simp at h
theorem Try.ty65 : TyOK Try.prog 65 ⟨46, 536, [.p (.v (.int .i64 0)), .p (.v (.int .i64 0)), .p (.v (.int .i64 0)), .p (.v (.int .i64 0)), .p (.v (.int .i64 0)), .p (.v (.int .i64 0)), .p (.v (.int .i64 0)), .p (.v (.int .i64 0)), .p (.v (.int .i64 0)), .p (.v (.int .i64 0)), .p (.v (.int .i64 0)), .p (.v (.int .i64 0)), .p (.v (.int .i64 0)), .p (.v (.int .i64 0)), .nil 2, .p (.v (.int .i64 0)), .p (.v (.int .i64 0)), .p (.v (.int .i64 0)), .nil 5, .nil 1, .p (.v (.int .i64 0)), .p (.v (.int .i64 0)), .p (.v (.int .i64 0)), .p (.v (.int .i64 0)), .nil 4, .p (.v (.int .i64 0)), .p (.v (.int .i64 0)), .nil 8, .p (.v (.int .i64 0)), .p (.v (.int .i64 0)), .p (.v (.int .i64 0)), .p (.v (.int .i64 0)), .p (.v (.int .i64 0)), .p (.v (.int .i64 0)), .p (.v (.string ByteArray.empty)), .nil 11, .nil 1, .p (.v (.int .i64 0)), .p (.v (.int .i64 0)), .p (.v (.int .i64 0)), .nil 6, .p (.v (.int .i64 0)), .nil 4, .nil 1, .p (.v (.int .i64 0)), .p (.v (.int .i64 0))], .struct [(0, 3), (1, 3), (2, 3), (3, 41), (10, 3), (11, 3), (12, 25), (14, 52), (15, 54), (28, 58), (36, 23), (37, 63)], none⟩ := by
  refine TyOK.of (z := .agg #[.int .i64 0, .int .i64 0, .int .i64 0, .int .i64 0, .int .i64 0, .int .i64 0, .int .i64 0, .int .i64 0, .int .i64 0, .int .i64 0, .int .i64 0, .int .i64 0, .int .i64 0, .int .i64 0, .slice none 0 0, .int .i64 0, .int .i64 0, .int .i64 0, .slice none 0 0, .slice none 0 0, .int .i64 0, .int .i64 0, .int .i64 0, .int .i64 0, .slice none 0 0, .int .i64 0, .int .i64 0, .slice none 0 0, .int .i64 0, .int .i64 0, .int .i64 0, .int .i64 0, .int .i64 0, .int .i64 0, .string ByteArray.empty, .slice none 0 0, .slice none 0 0, .int .i64 0, .int .i64 0, .int .i64 0, .slice none 0 0, .int .i64 0, .slice none 0 0, .slice none 0 0, .int .i64 0, .int .i64 0]) (by kernel_rfl) rfl (by first | rfl | decide | (simp [Value.cells, zval, scal])) rfl ?_ ?_ ?_
  · exact structOf_spec (by kernel_rfl)
  · intro cs h; first | rfl | (simp at h)
  · intro ks h; simp at h
theorem Try.ty67 : TyOK Try.prog 67 ⟨48, 552, [.p (.v (.int .i64 0)), .p (.v (.int .i64 0)), .p (.v (.int .i64 0)), .p (.v (.int .i64 0)), .p (.v (.int .i64 0)), .p (.v (.int .i64 0)), .p (.v (.int .i64 0)), .p (.v (.int .i64 0)), .p (.v (.int .i64 0)), .p (.v (.int .i64 0)), .p (.v (.int .i64 0)), .p (.v (.int .i64 0)), .p (.v (.int .i64 0)), .p (.v (.int .i64 0)), .p (.v (.int .i64 0)), .p (.v (.int .i64 0)), .nil 2, .p (.v (.int .i64 0)), .p (.v (.int .i64 0)), .p (.v (.int .i64 0)), .nil 5, .nil 1, .p (.v (.int .i64 0)), .p (.v (.int .i64 0)), .p (.v (.int .i64 0)), .p (.v (.int .i64 0)), .nil 4, .p (.v (.int .i64 0)), .p (.v (.int .i64 0)), .nil 8, .p (.v (.int .i64 0)), .p (.v (.int .i64 0)), .p (.v (.int .i64 0)), .p (.v (.int .i64 0)), .p (.v (.int .i64 0)), .p (.v (.int .i64 0)), .p (.v (.string ByteArray.empty)), .nil 11, .nil 1, .p (.v (.int .i64 0)), .p (.v (.int .i64 0)), .p (.v (.int .i64 0)), .nil 6, .p (.v (.int .i64 0)), .nil 4, .nil 1, .p (.v (.int .i64 0)), .p (.v (.int .i64 0))], .struct [(0, 3), (1, 3), (2, 65)], none⟩ := by
  refine TyOK.of (z := .agg #[.int .i64 0, .int .i64 0, .int .i64 0, .int .i64 0, .int .i64 0, .int .i64 0, .int .i64 0, .int .i64 0, .int .i64 0, .int .i64 0, .int .i64 0, .int .i64 0, .int .i64 0, .int .i64 0, .int .i64 0, .int .i64 0, .slice none 0 0, .int .i64 0, .int .i64 0, .int .i64 0, .slice none 0 0, .slice none 0 0, .int .i64 0, .int .i64 0, .int .i64 0, .int .i64 0, .slice none 0 0, .int .i64 0, .int .i64 0, .slice none 0 0, .int .i64 0, .int .i64 0, .int .i64 0, .int .i64 0, .int .i64 0, .int .i64 0, .string ByteArray.empty, .slice none 0 0, .slice none 0 0, .int .i64 0, .int .i64 0, .int .i64 0, .slice none 0 0, .int .i64 0, .slice none 0 0, .slice none 0 0, .int .i64 0, .int .i64 0]) (by kernel_rfl) rfl (by first | rfl | decide | (simp [Value.cells, zval, scal])) rfl ?_ ?_ ?_
  · exact structOf_spec (by kernel_rfl)
  · intro cs h; first | rfl | (simp at h)
  · intro ks h; simp at h
theorem Try.ty68 : TyOK Try.prog 68 ⟨1, 8, [.p (.v .nilFunc)], .sc, none⟩ := by
  refine TyOK.of (z := .nilFunc) (by kernel_rfl) rfl (by first | rfl | decide | (simp [Value.cells, zval, scal])) rfl ?_ ?_ ?_
  · exact scOf_spec (by kernel_rfl)
  · intro cs h; first | rfl | (simp at h)
  · intro ks h; simp at h
theorem Try.ty69 : TyOK Try.prog 69 ⟨1, 8, [.p (.v .nilFunc)], .sc, none⟩ := by
  refine TyOK.of (z := .nilFunc) (by kernel_rfl) rfl (by first | rfl | decide | (simp [Value.cells, zval, scal])) rfl ?_ ?_ ?_
  · exact scOf_spec (by kernel_rfl)
  · intro cs h; first | rfl | (simp at h)
  · intro ks h; simp at h
theorem Try.ty70 : TyOK Try.prog 70 ⟨1, 8, [.p (.v .nilFunc)], .sc, none⟩ := by
  refine TyOK.of (z := .nilFunc) (by kernel_rfl) rfl (by first | rfl | decide | (simp [Value.cells, zval, scal])) rfl ?_ ?_ ?_
  · exact scOf_spec (by kernel_rfl)
  · intro cs h; first | rfl | (simp at h)
  · intro ks h; simp at h
theorem Try.ty72 : TyOK Try.prog 72 ⟨1, 8, [.p (.v .nilFunc)], .sc, none⟩ := by
  refine TyOK.of (z := .nilFunc) (by kernel_rfl) rfl (by first | rfl | decide | (simp [Value.cells, zval, scal])) rfl ?_ ?_ ?_
  · exact scOf_spec (by kernel_rfl)
  · intro cs h; first | rfl | (simp at h)
  · intro ks h; simp at h
theorem Try.ty73 : TyOK Try.prog 73 ⟨1, 8, [.p (.v .nilFunc)], .sc, none⟩ := by
  refine TyOK.of (z := .nilFunc) (by kernel_rfl) rfl (by first | rfl | decide | (simp [Value.cells, zval, scal])) rfl ?_ ?_ ?_
  · exact scOf_spec (by kernel_rfl)
  · intro cs h; first | rfl | (simp at h)
  · intro ks h; simp at h
theorem Try.ty74 : TyOK Try.prog 74 ⟨1, 8, [.p (.v .nilFunc)], .sc, none⟩ := by
  refine TyOK.of (z := .nilFunc) (by kernel_rfl) rfl (by first | rfl | decide | (simp [Value.cells, zval, scal])) rfl ?_ ?_ ?_
  · exact scOf_spec (by kernel_rfl)
  · intro cs h; first | rfl | (simp at h)
  · intro ks h; simp at h
theorem Try.ty75 : TyOK Try.prog 75 ⟨1, 8, [.p (.v .nilFunc)], .sc, none⟩ := by
  refine TyOK.of (z := .nilFunc) (by kernel_rfl) rfl (by first | rfl | decide | (simp [Value.cells, zval, scal])) rfl ?_ ?_ ?_
  · exact scOf_spec (by kernel_rfl)
  · intro cs h; first | rfl | (simp at h)
  · intro ks h; simp at h
theorem Try.ty76 : TyOK Try.prog 76 ⟨1, 8, [.p (.v .nilFunc)], .sc, none⟩ := by
  refine TyOK.of (z := .nilFunc) (by kernel_rfl) rfl (by first | rfl | decide | (simp [Value.cells, zval, scal])) rfl ?_ ?_ ?_
  · exact scOf_spec (by kernel_rfl)
  · intro cs h; first | rfl | (simp at h)
  · intro ks h; simp at h
theorem Try.ty77 : TyOK Try.prog 77 ⟨1, 8, [.p (.v .nilFunc)], .sc, none⟩ := by
  refine TyOK.of (z := .nilFunc) (by kernel_rfl) rfl (by first | rfl | decide | (simp [Value.cells, zval, scal])) rfl ?_ ?_ ?_
  · exact scOf_spec (by kernel_rfl)
  · intro cs h; first | rfl | (simp at h)
  · intro ks h; simp at h
theorem Try.ty78 : TyOK Try.prog 78 ⟨1, 8, [.p (.v .nilFunc)], .sc, none⟩ := by
  refine TyOK.of (z := .nilFunc) (by kernel_rfl) rfl (by first | rfl | decide | (simp [Value.cells, zval, scal])) rfl ?_ ?_ ?_
  · exact scOf_spec (by kernel_rfl)
  · intro cs h; first | rfl | (simp at h)
  · intro ks h; simp at h
theorem Try.ty79 : TyOK Try.prog 79 ⟨1, 8, [.p (.v .nilFunc)], .sc, none⟩ := by
  refine TyOK.of (z := .nilFunc) (by kernel_rfl) rfl (by first | rfl | decide | (simp [Value.cells, zval, scal])) rfl ?_ ?_ ?_
  · exact scOf_spec (by kernel_rfl)
  · intro cs h; first | rfl | (simp at h)
  · intro ks h; simp at h
theorem Try.ty80 : TyOK Try.prog 80 ⟨1, 8, [.p (.v .nilFunc)], .sc, none⟩ := by
  refine TyOK.of (z := .nilFunc) (by kernel_rfl) rfl (by first | rfl | decide | (simp [Value.cells, zval, scal])) rfl ?_ ?_ ?_
  · exact scOf_spec (by kernel_rfl)
  · intro cs h; first | rfl | (simp at h)
  · intro ks h; simp at h
theorem Try.ty81 : TyOK Try.prog 81 ⟨1, 8, [.p (.v .nilFunc)], .sc, none⟩ := by
  refine TyOK.of (z := .nilFunc) (by kernel_rfl) rfl (by first | rfl | decide | (simp [Value.cells, zval, scal])) rfl ?_ ?_ ?_
  · exact scOf_spec (by kernel_rfl)
  · intro cs h; first | rfl | (simp at h)
  · intro ks h; simp at h
theorem Try.ty83 : TyOK Try.prog 83 ⟨4, 32, [.p (.v (.int .i64 0)), .p (.v (.int .i64 0)), .p (.v (.int .i64 0)), .p (.v (.int .i64 0))], .struct [(0, 3), (1, 3), (2, 3), (3, 3)], some [.int .i64, .int .i64, .int .i64, .int .i64]⟩ := by
  refine TyOK.of (z := .agg #[.int .i64 0, .int .i64 0, .int .i64 0, .int .i64 0]) (by kernel_rfl) rfl (by first | rfl | decide | (simp [Value.cells, zval, scal])) rfl ?_ ?_ ?_
  · exact structOf_spec (by kernel_rfl)
  · intro cs h; first | rfl | (simp at h)
  · intro ks h; simp only [Option.some.injEq] at h; subst h; refine ⟨rfl, fun xs ys hx hy w => ⟨?_, by kernel_rfl⟩⟩
    obtain ⟨_, _, rfl, ⟨x0, rfl⟩, hx⟩ := hx; obtain ⟨_, _, rfl, ⟨x1, rfl⟩, hx⟩ := hx; obtain ⟨_, _, rfl, ⟨x2, rfl⟩, hx⟩ := hx; obtain ⟨_, _, rfl, ⟨x3, rfl⟩, hx⟩ := hx; subst hx
    obtain ⟨_, _, rfl, ⟨y0, rfl⟩, hy⟩ := hy; obtain ⟨_, _, rfl, ⟨y1, rfl⟩, hy⟩ := hy; obtain ⟨_, _, rfl, ⟨y2, rfl⟩, hy⟩ := hy; obtain ⟨_, _, rfl, ⟨y3, rfl⟩, hy⟩ := hy; subst hy
    show (Op.equalIn 10000 83 (.agg #[.int .i64 x0, .int .i64 x1, .int .i64 x2, .int .i64 x3]) (.agg #[.int .i64 y0, .int .i64 y1, .int .i64 y2, .int .i64 y3])).run Try.prog w = _
    go_simp
    simp only [ceq, veq]
    all_goals (repeat' split)
    all_goals simp_all
theorem Try.ty84 : TyOK Try.prog 84 ⟨1, 8, [.p (.v (.pointer none))], .sc, none⟩ := by
  refine TyOK.of (z := .pointer none) (by kernel_rfl) rfl (by first | rfl | decide | (simp [Value.cells, zval, scal])) rfl ?_ ?_ ?_
  · exact scOf_spec (by kernel_rfl)
  · intro cs h; first | rfl | (simp at h)
  · intro ks h; simp at h
theorem Try.ty85 : TyOK Try.prog 85 ⟨1, 8, [.p (.v .nilFunc)], .sc, none⟩ := by
  refine TyOK.of (z := .nilFunc) (by kernel_rfl) rfl (by first | rfl | decide | (simp [Value.cells, zval, scal])) rfl ?_ ?_ ?_
  · exact scOf_spec (by kernel_rfl)
  · intro cs h; first | rfl | (simp at h)
  · intro ks h; simp at h
theorem Try.ty87 : TyOK Try.prog 87 ⟨40, 432, [.p (.v (.int .i64 0)), .p (.v (.int .i64 0)), .p (.v (.int .i64 0)), .nil 5, .nil 1, .p (.v (.int .i64 0)), .p (.v (.int .i64 0)), .p (.v (.int .i64 0)), .p (.v (.int .i64 0)), .nil 4, .p (.v (.int .i64 0)), .p (.v (.int .i64 0)), .nil 8, .p (.v (.int .i64 0)), .p (.v (.int .i64 0)), .p (.v (.int .i64 0)), .p (.v (.int .i64 0)), .p (.v (.int .i64 0)), .p (.v (.int .i64 0)), .p (.v (.int .i64 0)), .p (.v (.int .i64 0)), .p (.v (.int .i64 0)), .p (.v (.int .i64 0)), .p (.v (.int .i64 0)), .p (.v (.int .i64 0)), .p (.v (.int .i64 0)), .p (.v (.int .i64 0)), .p (.v (.int .i64 0)), .p (.v (.int .i64 0)), .p (.v (.int .i64 0)), .p (.v (.int .i64 0)), .p (.v (.int .i64 0)), .nil 7, .p (.v (.int .i64 0)), .p (.v (.int .i64 0)), .p (.v (.int .i64 0)), .p (.v (.int .i64 0)), .nil 8, .nil 46, .p (.v (.bool false))], .struct [(0, 47), (38, 48), (39, 4)], none⟩ := by
  refine TyOK.of (z := .agg #[.int .i64 0, .int .i64 0, .int .i64 0, .slice none 0 0, .slice none 0 0, .int .i64 0, .int .i64 0, .int .i64 0, .int .i64 0, .slice none 0 0, .int .i64 0, .int .i64 0, .slice none 0 0, .int .i64 0, .int .i64 0, .int .i64 0, .int .i64 0, .int .i64 0, .int .i64 0, .int .i64 0, .int .i64 0, .int .i64 0, .int .i64 0, .int .i64 0, .int .i64 0, .int .i64 0, .int .i64 0, .int .i64 0, .int .i64 0, .int .i64 0, .int .i64 0, .int .i64 0, .slice none 0 0, .int .i64 0, .int .i64 0, .int .i64 0, .int .i64 0, .slice none 0 0, .slice none 0 0, .bool false]) (by kernel_rfl) rfl (by first | rfl | decide | (simp [Value.cells, zval, scal])) rfl ?_ ?_ ?_
  · exact structOf_spec (by kernel_rfl)
  · intro cs h; first | rfl | (simp at h)
  · intro ks h; simp at h
theorem Try.ty88 : TyOK Try.prog 88 ⟨1, 8, [.p (.v .nilFunc)], .sc, none⟩ := by
  refine TyOK.of (z := .nilFunc) (by kernel_rfl) rfl (by first | rfl | decide | (simp [Value.cells, zval, scal])) rfl ?_ ?_ ?_
  · exact scOf_spec (by kernel_rfl)
  · intro cs h; first | rfl | (simp at h)
  · intro ks h; simp at h
theorem Try.ty89 : TyOK Try.prog 89 ⟨1, 8, [.p (.v .nilFunc)], .sc, none⟩ := by
  refine TyOK.of (z := .nilFunc) (by kernel_rfl) rfl (by first | rfl | decide | (simp [Value.cells, zval, scal])) rfl ?_ ?_ ?_
  · exact scOf_spec (by kernel_rfl)
  · intro cs h; first | rfl | (simp at h)
  · intro ks h; simp at h
theorem Try.ty90 : TyOK Try.prog 90 ⟨1, 8, [.p (.v .nilFunc)], .sc, none⟩ := by
  refine TyOK.of (z := .nilFunc) (by kernel_rfl) rfl (by first | rfl | decide | (simp [Value.cells, zval, scal])) rfl ?_ ?_ ?_
  · exact scOf_spec (by kernel_rfl)
  · intro cs h; first | rfl | (simp at h)
  · intro ks h; simp at h
theorem Try.ty91 : TyOK Try.prog 91 ⟨1, 8, [.p (.v .nilFunc)], .sc, none⟩ := by
  refine TyOK.of (z := .nilFunc) (by kernel_rfl) rfl (by first | rfl | decide | (simp [Value.cells, zval, scal])) rfl ?_ ?_ ?_
  · exact scOf_spec (by kernel_rfl)
  · intro cs h; first | rfl | (simp at h)
  · intro ks h; simp at h
theorem Try.ty92 : TyOK Try.prog 92 ⟨1, 8, [.p (.v .nilFunc)], .sc, none⟩ := by
  refine TyOK.of (z := .nilFunc) (by kernel_rfl) rfl (by first | rfl | decide | (simp [Value.cells, zval, scal])) rfl ?_ ?_ ?_
  · exact scOf_spec (by kernel_rfl)
  · intro cs h; first | rfl | (simp at h)
  · intro ks h; simp at h
theorem Try.ty93 : TyOK Try.prog 93 ⟨1, 8, [.p (.v .nilFunc)], .sc, none⟩ := by
  refine TyOK.of (z := .nilFunc) (by kernel_rfl) rfl (by first | rfl | decide | (simp [Value.cells, zval, scal])) rfl ?_ ?_ ?_
  · exact scOf_spec (by kernel_rfl)
  · intro cs h; first | rfl | (simp at h)
  · intro ks h; simp at h
theorem Try.ty94 : TyOK Try.prog 94 ⟨1, 8, [.p (.v .nilFunc)], .sc, none⟩ := by
  refine TyOK.of (z := .nilFunc) (by kernel_rfl) rfl (by first | rfl | decide | (simp [Value.cells, zval, scal])) rfl ?_ ?_ ?_
  · exact scOf_spec (by kernel_rfl)
  · intro cs h; first | rfl | (simp at h)
  · intro ks h; simp at h
theorem Try.ty95 : TyOK Try.prog 95 ⟨1, 8, [.p (.v .nilFunc)], .sc, none⟩ := by
  refine TyOK.of (z := .nilFunc) (by kernel_rfl) rfl (by first | rfl | decide | (simp [Value.cells, zval, scal])) rfl ?_ ?_ ?_
  · exact scOf_spec (by kernel_rfl)
  · intro cs h; first | rfl | (simp at h)
  · intro ks h; simp at h
theorem Try.ty96 : TyOK Try.prog 96 ⟨1, 8, [.p (.v .nilFunc)], .sc, none⟩ := by
  refine TyOK.of (z := .nilFunc) (by kernel_rfl) rfl (by first | rfl | decide | (simp [Value.cells, zval, scal])) rfl ?_ ?_ ?_
  · exact scOf_spec (by kernel_rfl)
  · intro cs h; first | rfl | (simp at h)
  · intro ks h; simp at h
theorem Try.ty97 : TyOK Try.prog 97 ⟨1, 8, [.p (.v .nilFunc)], .sc, none⟩ := by
  refine TyOK.of (z := .nilFunc) (by kernel_rfl) rfl (by first | rfl | decide | (simp [Value.cells, zval, scal])) rfl ?_ ?_ ?_
  · exact scOf_spec (by kernel_rfl)
  · intro cs h; first | rfl | (simp at h)
  · intro ks h; simp at h
theorem Try.ty98 : TyOK Try.prog 98 ⟨1, 8, [.p (.v .nilFunc)], .sc, none⟩ := by
  refine TyOK.of (z := .nilFunc) (by kernel_rfl) rfl (by first | rfl | decide | (simp [Value.cells, zval, scal])) rfl ?_ ?_ ?_
  · exact scOf_spec (by kernel_rfl)
  · intro cs h; first | rfl | (simp at h)
  · intro ks h; simp at h
theorem Try.ty99 : TyOK Try.prog 99 ⟨1, 8, [.p (.v .nilFunc)], .sc, none⟩ := by
  refine TyOK.of (z := .nilFunc) (by kernel_rfl) rfl (by first | rfl | decide | (simp [Value.cells, zval, scal])) rfl ?_ ?_ ?_
  · exact scOf_spec (by kernel_rfl)
  · intro cs h; first | rfl | (simp at h)
  · intro ks h; simp at h
theorem Try.ty101 : TyOK Try.prog 101 ⟨5, 56, [.p (.v (.string ByteArray.empty)), .p (.v (.string ByteArray.empty)), .p (.v (.int .i64 0)), .p (.v (.int .i64 0)), .p (.v (.int .i64 0))], .struct [(0, 9), (1, 9), (2, 3), (3, 3), (4, 3)], some [.str, .str, .int .i64, .int .i64, .int .i64]⟩ := by
  refine TyOK.of (z := .agg #[.string ByteArray.empty, .string ByteArray.empty, .int .i64 0, .int .i64 0, .int .i64 0]) (by kernel_rfl) rfl (by first | rfl | decide | (simp [Value.cells, zval, scal])) rfl ?_ ?_ ?_
  · exact structOf_spec (by kernel_rfl)
  · intro cs h; first | rfl | (simp at h)
  · intro ks h; simp only [Option.some.injEq] at h; subst h; refine ⟨rfl, fun xs ys hx hy w => ⟨?_, by kernel_rfl⟩⟩
    obtain ⟨_, _, rfl, ⟨x0, rfl⟩, hx⟩ := hx; obtain ⟨_, _, rfl, ⟨x1, rfl⟩, hx⟩ := hx; obtain ⟨_, _, rfl, ⟨x2, rfl⟩, hx⟩ := hx; obtain ⟨_, _, rfl, ⟨x3, rfl⟩, hx⟩ := hx; obtain ⟨_, _, rfl, ⟨x4, rfl⟩, hx⟩ := hx; subst hx
    obtain ⟨_, _, rfl, ⟨y0, rfl⟩, hy⟩ := hy; obtain ⟨_, _, rfl, ⟨y1, rfl⟩, hy⟩ := hy; obtain ⟨_, _, rfl, ⟨y2, rfl⟩, hy⟩ := hy; obtain ⟨_, _, rfl, ⟨y3, rfl⟩, hy⟩ := hy; obtain ⟨_, _, rfl, ⟨y4, rfl⟩, hy⟩ := hy; subst hy
    show (Op.equalIn 10000 101 (.agg #[.string x0, .string x1, .int .i64 x2, .int .i64 x3, .int .i64 x4]) (.agg #[.string y0, .string y1, .int .i64 y2, .int .i64 y3, .int .i64 y4])).run Try.prog w = _
    go_simp
    simp only [ceq, veq]
    all_goals (repeat' split)
    all_goals simp_all
theorem Try.ty103 : TyOK Try.prog 103 ⟨11, 120, [.p (.v (.int .i64 0)), .p (.v (.string ByteArray.empty)), .p (.v (.string ByteArray.empty)), .p (.v (.int .i64 0)), .p (.v (.int .i64 0)), .p (.v (.int .i64 0)), .p (.v (.int .i64 0)), .p (.v (.int .i64 0)), .p (.v (.int .i64 0)), .p (.v (.int .i64 0)), .nil 4], .struct [(0, 3), (1, 101), (6, 3), (7, 28)], none⟩ := by
  refine TyOK.of (z := .agg #[.int .i64 0, .string ByteArray.empty, .string ByteArray.empty, .int .i64 0, .int .i64 0, .int .i64 0, .int .i64 0, .int .i64 0, .int .i64 0, .int .i64 0, .slice none 0 0]) (by kernel_rfl) rfl (by first | rfl | decide | (simp [Value.cells, zval, scal])) rfl ?_ ?_ ?_
  · exact structOf_spec (by kernel_rfl)
  · intro cs h; first | rfl | (simp at h)
  · intro ks h; simp at h
theorem Try.ty104 : TyOK Try.prog 104 ⟨1, 8, [.p (.v .nilFunc)], .sc, none⟩ := by
  refine TyOK.of (z := .nilFunc) (by kernel_rfl) rfl (by first | rfl | decide | (simp [Value.cells, zval, scal])) rfl ?_ ?_ ?_
  · exact scOf_spec (by kernel_rfl)
  · intro cs h; first | rfl | (simp at h)
  · intro ks h; simp at h
theorem Try.ty105 : TyOK Try.prog 105 ⟨1, 8, [.p (.v .nilFunc)], .sc, none⟩ := by
  refine TyOK.of (z := .nilFunc) (by kernel_rfl) rfl (by first | rfl | decide | (simp [Value.cells, zval, scal])) rfl ?_ ?_ ?_
  · exact scOf_spec (by kernel_rfl)
  · intro cs h; first | rfl | (simp at h)
  · intro ks h; simp at h
theorem Try.ty106 : TyOK Try.prog 106 ⟨1, 8, [.p (.v .nilFunc)], .sc, none⟩ := by
  refine TyOK.of (z := .nilFunc) (by kernel_rfl) rfl (by first | rfl | decide | (simp [Value.cells, zval, scal])) rfl ?_ ?_ ?_
  · exact scOf_spec (by kernel_rfl)
  · intro cs h; first | rfl | (simp at h)
  · intro ks h; simp at h
theorem Try.ty107 : TyOK Try.prog 107 ⟨1, 8, [.p (.v .nilFunc)], .sc, none⟩ := by
  refine TyOK.of (z := .nilFunc) (by kernel_rfl) rfl (by first | rfl | decide | (simp [Value.cells, zval, scal])) rfl ?_ ?_ ?_
  · exact scOf_spec (by kernel_rfl)
  · intro cs h; first | rfl | (simp at h)
  · intro ks h; simp at h
theorem Try.ty108 : TyOK Try.prog 108 ⟨1, 8, [.p (.v .nilFunc)], .sc, none⟩ := by
  refine TyOK.of (z := .nilFunc) (by kernel_rfl) rfl (by first | rfl | decide | (simp [Value.cells, zval, scal])) rfl ?_ ?_ ?_
  · exact scOf_spec (by kernel_rfl)
  · intro cs h; first | rfl | (simp at h)
  · intro ks h; simp at h
theorem Try.ty109 : TyOK Try.prog 109 ⟨1, 8, [.p (.v .nilFunc)], .sc, none⟩ := by
  refine TyOK.of (z := .nilFunc) (by kernel_rfl) rfl (by first | rfl | decide | (simp [Value.cells, zval, scal])) rfl ?_ ?_ ?_
  · exact scOf_spec (by kernel_rfl)
  · intro cs h; first | rfl | (simp at h)
  · intro ks h; simp at h
theorem Try.ty110 : TyOK Try.prog 110 ⟨1, 8, [.p (.v .nilFunc)], .sc, none⟩ := by
  refine TyOK.of (z := .nilFunc) (by kernel_rfl) rfl (by first | rfl | decide | (simp [Value.cells, zval, scal])) rfl ?_ ?_ ?_
  · exact scOf_spec (by kernel_rfl)
  · intro cs h; first | rfl | (simp at h)
  · intro ks h; simp at h
theorem Try.ty111 : TyOK Try.prog 111 ⟨1, 8, [.p (.v .nilFunc)], .sc, none⟩ := by
  refine TyOK.of (z := .nilFunc) (by kernel_rfl) rfl (by first | rfl | decide | (simp [Value.cells, zval, scal])) rfl ?_ ?_ ?_
  · exact scOf_spec (by kernel_rfl)
  · intro cs h; first | rfl | (simp at h)
  · intro ks h; simp at h
theorem Try.ty113 : TyOK Try.prog 113 ⟨8, 80, [.p (.v (.int .i64 0)), .p (.v (.int .i64 0)), .p (.v (.int .i64 0)), .p (.v (.int .i64 0)), .nil 2, .p (.v (.int .i64 0)), .p (.v (.int .i64 0)), .p (.v (.int .i64 0))], .struct [(0, 3), (1, 3), (2, 3), (3, 3), (4, 52), (5, 25), (7, 3)], none⟩ := by
  refine TyOK.of (z := .agg #[.int .i64 0, .int .i64 0, .int .i64 0, .int .i64 0, .slice none 0 0, .int .i64 0, .int .i64 0, .int .i64 0]) (by kernel_rfl) rfl (by first | rfl | decide | (simp [Value.cells, zval, scal])) rfl ?_ ?_ ?_
  · exact structOf_spec (by kernel_rfl)
  · intro cs h; first | rfl | (simp at h)
  · intro ks h; simp at h
theorem Try.ty114 : TyOK Try.prog 114 ⟨1, 8, [.p (.v .nilFunc)], .sc, none⟩ := by
  refine TyOK.of (z := .nilFunc) (by kernel_rfl) rfl (by first | rfl | decide | (simp [Value.cells, zval, scal])) rfl ?_ ?_ ?_
  · exact scOf_spec (by kernel_rfl)
  · intro cs h; first | rfl | (simp at h)
  · intro ks h; simp at h
theorem Try.ty115 : TyOK Try.prog 115 ⟨1, 8, [.p (.v .nilFunc)], .sc, none⟩ := by
  refine TyOK.of (z := .nilFunc) (by kernel_rfl) rfl (by first | rfl | decide | (simp [Value.cells, zval, scal])) rfl ?_ ?_ ?_
  · exact scOf_spec (by kernel_rfl)
  · intro cs h; first | rfl | (simp at h)
  · intro ks h; simp at h
theorem Try.ty116 : TyOK Try.prog 116 ⟨1, 8, [.p (.v .nilFunc)], .sc, none⟩ := by
  refine TyOK.of (z := .nilFunc) (by kernel_rfl) rfl (by first | rfl | decide | (simp [Value.cells, zval, scal])) rfl ?_ ?_ ?_
  · exact scOf_spec (by kernel_rfl)
  · intro cs h; first | rfl | (simp at h)
  · intro ks h; simp at h
theorem Try.ty117 : TyOK Try.prog 117 ⟨1, 8, [.p (.v .nilFunc)], .sc, none⟩ := by
  refine TyOK.of (z := .nilFunc) (by kernel_rfl) rfl (by first | rfl | decide | (simp [Value.cells, zval, scal])) rfl ?_ ?_ ?_
  · exact scOf_spec (by kernel_rfl)
  · intro cs h; first | rfl | (simp at h)
  · intro ks h; simp at h
theorem Try.ty118 : TyOK Try.prog 118 ⟨1, 8, [.p (.v .nilFunc)], .sc, none⟩ := by
  refine TyOK.of (z := .nilFunc) (by kernel_rfl) rfl (by first | rfl | decide | (simp [Value.cells, zval, scal])) rfl ?_ ?_ ?_
  · exact scOf_spec (by kernel_rfl)
  · intro cs h; first | rfl | (simp at h)
  · intro ks h; simp at h
theorem Try.ty119 : TyOK Try.prog 119 ⟨1, 8, [.p (.v .nilFunc)], .sc, none⟩ := by
  refine TyOK.of (z := .nilFunc) (by kernel_rfl) rfl (by first | rfl | decide | (simp [Value.cells, zval, scal])) rfl ?_ ?_ ?_
  · exact scOf_spec (by kernel_rfl)
  · intro cs h; first | rfl | (simp at h)
  · intro ks h; simp at h
theorem Try.ty120 : TyOK Try.prog 120 ⟨1, 8, [.p (.v .nilFunc)], .sc, none⟩ := by
  refine TyOK.of (z := .nilFunc) (by kernel_rfl) rfl (by first | rfl | decide | (simp [Value.cells, zval, scal])) rfl ?_ ?_ ?_
  · exact scOf_spec (by kernel_rfl)
  · intro cs h; first | rfl | (simp at h)
  · intro ks h; simp at h
theorem Try.ty121 : TyOK Try.prog 121 ⟨1, 8, [.p (.v .nilFunc)], .sc, none⟩ := by
  refine TyOK.of (z := .nilFunc) (by kernel_rfl) rfl (by first | rfl | decide | (simp [Value.cells, zval, scal])) rfl ?_ ?_ ?_
  · exact scOf_spec (by kernel_rfl)
  · intro cs h; first | rfl | (simp at h)
  · intro ks h; simp at h
theorem Try.ty122 : TyOK Try.prog 122 ⟨1, 8, [.p (.v .nilFunc)], .sc, none⟩ := by
  refine TyOK.of (z := .nilFunc) (by kernel_rfl) rfl (by first | rfl | decide | (simp [Value.cells, zval, scal])) rfl ?_ ?_ ?_
  · exact scOf_spec (by kernel_rfl)
  · intro cs h; first | rfl | (simp at h)
  · intro ks h; simp at h
theorem Try.ty123 : TyOK Try.prog 123 ⟨1, 8, [.p (.v .nilFunc)], .sc, none⟩ := by
  refine TyOK.of (z := .nilFunc) (by kernel_rfl) rfl (by first | rfl | decide | (simp [Value.cells, zval, scal])) rfl ?_ ?_ ?_
  · exact scOf_spec (by kernel_rfl)
  · intro cs h; first | rfl | (simp at h)
  · intro ks h; simp at h
theorem Try.ty124 : TyOK Try.prog 124 ⟨1, 8, [.p (.v .nilFunc)], .sc, none⟩ := by
  refine TyOK.of (z := .nilFunc) (by kernel_rfl) rfl (by first | rfl | decide | (simp [Value.cells, zval, scal])) rfl ?_ ?_ ?_
  · exact scOf_spec (by kernel_rfl)
  · intro cs h; first | rfl | (simp at h)
  · intro ks h; simp at h
theorem Try.ty125 : TyOK Try.prog 125 ⟨1, 8, [.p (.v .nilFunc)], .sc, none⟩ := by
  refine TyOK.of (z := .nilFunc) (by kernel_rfl) rfl (by first | rfl | decide | (simp [Value.cells, zval, scal])) rfl ?_ ?_ ?_
  · exact scOf_spec (by kernel_rfl)
  · intro cs h; first | rfl | (simp at h)
  · intro ks h; simp at h
theorem Try.ty126 : TyOK Try.prog 126 ⟨1, 8, [.p (.v .nilFunc)], .sc, none⟩ := by
  refine TyOK.of (z := .nilFunc) (by kernel_rfl) rfl (by first | rfl | decide | (simp [Value.cells, zval, scal])) rfl ?_ ?_ ?_
  · exact scOf_spec (by kernel_rfl)
  · intro cs h; first | rfl | (simp at h)
  · intro ks h; simp at h
theorem Try.ty127 : TyOK Try.prog 127 ⟨1, 8, [.p (.v .nilFunc)], .sc, none⟩ := by
  refine TyOK.of (z := .nilFunc) (by kernel_rfl) rfl (by first | rfl | decide | (simp [Value.cells, zval, scal])) rfl ?_ ?_ ?_
  · exact scOf_spec (by kernel_rfl)
  · intro cs h; first | rfl | (simp at h)
  · intro ks h; simp at h
theorem Try.ty128 : TyOK Try.prog 128 ⟨1, 8, [.p (.v .nilFunc)], .sc, none⟩ := by
  refine TyOK.of (z := .nilFunc) (by kernel_rfl) rfl (by first | rfl | decide | (simp [Value.cells, zval, scal])) rfl ?_ ?_ ?_
  · exact scOf_spec (by kernel_rfl)
  · intro cs h; first | rfl | (simp at h)
  · intro ks h; simp at h
theorem Try.ty129 : TyOK Try.prog 129 ⟨1, 8, [.p (.v .nilFunc)], .sc, none⟩ := by
  refine TyOK.of (z := .nilFunc) (by kernel_rfl) rfl (by first | rfl | decide | (simp [Value.cells, zval, scal])) rfl ?_ ?_ ?_
  · exact scOf_spec (by kernel_rfl)
  · intro cs h; first | rfl | (simp at h)
  · intro ks h; simp at h
theorem Try.ty130 : TyOK Try.prog 130 ⟨1, 8, [.p (.v .nilFunc)], .sc, none⟩ := by
  refine TyOK.of (z := .nilFunc) (by kernel_rfl) rfl (by first | rfl | decide | (simp [Value.cells, zval, scal])) rfl ?_ ?_ ?_
  · exact scOf_spec (by kernel_rfl)
  · intro cs h; first | rfl | (simp at h)
  · intro ks h; simp at h
theorem Try.ty131 : TyOK Try.prog 131 ⟨1, 8, [.p (.v .nilFunc)], .sc, none⟩ := by
  refine TyOK.of (z := .nilFunc) (by kernel_rfl) rfl (by first | rfl | decide | (simp [Value.cells, zval, scal])) rfl ?_ ?_ ?_
  · exact scOf_spec (by kernel_rfl)
  · intro cs h; first | rfl | (simp at h)
  · intro ks h; simp at h
theorem Try.ty132 : TyOK Try.prog 132 ⟨1, 8, [.p (.v .nilFunc)], .sc, none⟩ := by
  refine TyOK.of (z := .nilFunc) (by kernel_rfl) rfl (by first | rfl | decide | (simp [Value.cells, zval, scal])) rfl ?_ ?_ ?_
  · exact scOf_spec (by kernel_rfl)
  · intro cs h; first | rfl | (simp at h)
  · intro ks h; simp at h
theorem Try.ty133 : TyOK Try.prog 133 ⟨1, 8, [.p (.v .nilFunc)], .sc, none⟩ := by
  refine TyOK.of (z := .nilFunc) (by kernel_rfl) rfl (by first | rfl | decide | (simp [Value.cells, zval, scal])) rfl ?_ ?_ ?_
  · exact scOf_spec (by kernel_rfl)
  · intro cs h; first | rfl | (simp at h)
  · intro ks h; simp at h
theorem Try.ty134 : TyOK Try.prog 134 ⟨1, 8, [.p (.v .nilFunc)], .sc, none⟩ := by
  refine TyOK.of (z := .nilFunc) (by kernel_rfl) rfl (by first | rfl | decide | (simp [Value.cells, zval, scal])) rfl ?_ ?_ ?_
  · exact scOf_spec (by kernel_rfl)
  · intro cs h; first | rfl | (simp at h)
  · intro ks h; simp at h
theorem Try.ty135 : TyOK Try.prog 135 ⟨1, 8, [.p (.v .nilFunc)], .sc, none⟩ := by
  refine TyOK.of (z := .nilFunc) (by kernel_rfl) rfl (by first | rfl | decide | (simp [Value.cells, zval, scal])) rfl ?_ ?_ ?_
  · exact scOf_spec (by kernel_rfl)
  · intro cs h; first | rfl | (simp at h)
  · intro ks h; simp at h
theorem Try.ty137 : TyOK Try.prog 137 ⟨1, 8, [.p (.v .nilFunc)], .sc, none⟩ := by
  refine TyOK.of (z := .nilFunc) (by kernel_rfl) rfl (by first | rfl | decide | (simp [Value.cells, zval, scal])) rfl ?_ ?_ ?_
  · exact scOf_spec (by kernel_rfl)
  · intro cs h; first | rfl | (simp at h)
  · intro ks h; simp at h
theorem Try.ty138 : TyOK Try.prog 138 ⟨1, 8, [.p (.v .nilFunc)], .sc, none⟩ := by
  refine TyOK.of (z := .nilFunc) (by kernel_rfl) rfl (by first | rfl | decide | (simp [Value.cells, zval, scal])) rfl ?_ ?_ ?_
  · exact scOf_spec (by kernel_rfl)
  · intro cs h; first | rfl | (simp at h)
  · intro ks h; simp at h
theorem Try.ty139 : TyOK Try.prog 139 ⟨1, 8, [.p (.v .nilFunc)], .sc, none⟩ := by
  refine TyOK.of (z := .nilFunc) (by kernel_rfl) rfl (by first | rfl | decide | (simp [Value.cells, zval, scal])) rfl ?_ ?_ ?_
  · exact scOf_spec (by kernel_rfl)
  · intro cs h; first | rfl | (simp at h)
  · intro ks h; simp at h
theorem Try.ty140 : TyOK Try.prog 140 ⟨1, 8, [.p (.v .nilFunc)], .sc, none⟩ := by
  refine TyOK.of (z := .nilFunc) (by kernel_rfl) rfl (by first | rfl | decide | (simp [Value.cells, zval, scal])) rfl ?_ ?_ ?_
  · exact scOf_spec (by kernel_rfl)
  · intro cs h; first | rfl | (simp at h)
  · intro ks h; simp at h
theorem Try.ty141 : TyOK Try.prog 141 ⟨1, 8, [.p (.v .nilFunc)], .sc, none⟩ := by
  refine TyOK.of (z := .nilFunc) (by kernel_rfl) rfl (by first | rfl | decide | (simp [Value.cells, zval, scal])) rfl ?_ ?_ ?_
  · exact scOf_spec (by kernel_rfl)
  · intro cs h; first | rfl | (simp at h)
  · intro ks h; simp at h
theorem Try.ty142 : TyOK Try.prog 142 ⟨1, 8, [.p (.v .nilFunc)], .sc, none⟩ := by
  refine TyOK.of (z := .nilFunc) (by kernel_rfl) rfl (by first | rfl | decide | (simp [Value.cells, zval, scal])) rfl ?_ ?_ ?_
  · exact scOf_spec (by kernel_rfl)
  · intro cs h; first | rfl | (simp at h)
  · intro ks h; simp at h
theorem Try.ty143 : TyOK Try.prog 143 ⟨1, 8, [.p (.v .nilFunc)], .sc, none⟩ := by
  refine TyOK.of (z := .nilFunc) (by kernel_rfl) rfl (by first | rfl | decide | (simp [Value.cells, zval, scal])) rfl ?_ ?_ ?_
  · exact scOf_spec (by kernel_rfl)
  · intro cs h; first | rfl | (simp at h)
  · intro ks h; simp at h
theorem Try.ty144 : TyOK Try.prog 144 ⟨1, 8, [.p (.v .nilFunc)], .sc, none⟩ := by
  refine TyOK.of (z := .nilFunc) (by kernel_rfl) rfl (by first | rfl | decide | (simp [Value.cells, zval, scal])) rfl ?_ ?_ ?_
  · exact scOf_spec (by kernel_rfl)
  · intro cs h; first | rfl | (simp at h)
  · intro ks h; simp at h
theorem Try.ty145 : TyOK Try.prog 145 ⟨1, 8, [.p (.v .nilFunc)], .sc, none⟩ := by
  refine TyOK.of (z := .nilFunc) (by kernel_rfl) rfl (by first | rfl | decide | (simp [Value.cells, zval, scal])) rfl ?_ ?_ ?_
  · exact scOf_spec (by kernel_rfl)
  · intro cs h; first | rfl | (simp at h)
  · intro ks h; simp at h
theorem Try.ty146 : TyOK Try.prog 146 ⟨1, 8, [.p (.v .nilFunc)], .sc, none⟩ := by
  refine TyOK.of (z := .nilFunc) (by kernel_rfl) rfl (by first | rfl | decide | (simp [Value.cells, zval, scal])) rfl ?_ ?_ ?_
  · exact scOf_spec (by kernel_rfl)
  · intro cs h; first | rfl | (simp at h)
  · intro ks h; simp at h
theorem Try.ty147 : TyOK Try.prog 147 ⟨1, 8, [.p (.v .nilFunc)], .sc, none⟩ := by
  refine TyOK.of (z := .nilFunc) (by kernel_rfl) rfl (by first | rfl | decide | (simp [Value.cells, zval, scal])) rfl ?_ ?_ ?_
  · exact scOf_spec (by kernel_rfl)
  · intro cs h; first | rfl | (simp at h)
  · intro ks h; simp at h
theorem Try.ty148 : TyOK Try.prog 148 ⟨1, 8, [.p (.v .nilFunc)], .sc, none⟩ := by
  refine TyOK.of (z := .nilFunc) (by kernel_rfl) rfl (by first | rfl | decide | (simp [Value.cells, zval, scal])) rfl ?_ ?_ ?_
  · exact scOf_spec (by kernel_rfl)
  · intro cs h; first | rfl | (simp at h)
  · intro ks h; simp at h
theorem Try.ty149 : TyOK Try.prog 149 ⟨1, 8, [.p (.v .nilFunc)], .sc, none⟩ := by
  refine TyOK.of (z := .nilFunc) (by kernel_rfl) rfl (by first | rfl | decide | (simp [Value.cells, zval, scal])) rfl ?_ ?_ ?_
  · exact scOf_spec (by kernel_rfl)
  · intro cs h; first | rfl | (simp at h)
  · intro ks h; simp at h
theorem Try.ty150 : TyOK Try.prog 150 ⟨1, 8, [.p (.v .nilFunc)], .sc, none⟩ := by
  refine TyOK.of (z := .nilFunc) (by kernel_rfl) rfl (by first | rfl | decide | (simp [Value.cells, zval, scal])) rfl ?_ ?_ ?_
  · exact scOf_spec (by kernel_rfl)
  · intro cs h; first | rfl | (simp at h)
  · intro ks h; simp at h
theorem Try.ty153 : TyOK Try.prog 153 ⟨0, 0, [], .array 0 16, none⟩ := by
  refine TyOK.of (z := .agg #[]) (by kernel_rfl) rfl (by first | rfl | decide | (simp [Value.cells, zval, scal])) rfl ?_ ?_ ?_
  · show Try.prog.underlying 153 = _; kernel_rfl
  · intro cs h; first | rfl | (simp at h)
  · intro ks h; simp at h
theorem Try.ty156 : TyOK Try.prog 156 ⟨1, 8, [.p (.v .nilFunc)], .sc, none⟩ := by
  refine TyOK.of (z := .nilFunc) (by kernel_rfl) rfl (by first | rfl | decide | (simp [Value.cells, zval, scal])) rfl ?_ ?_ ?_
  · exact scOf_spec (by kernel_rfl)
  · intro cs h; first | rfl | (simp at h)
  · intro ks h; simp at h
theorem Try.ty157 : TyOK Try.prog 157 ⟨1, 4, [.p (.v (.int .u32 0))], .int .u32, none⟩ := by
  refine TyOK.of (z := .int .u32 0) (by kernel_rfl) rfl (by first | rfl | decide | (simp [Value.cells, zval, scal])) rfl ?_ ?_ ?_
  · show Try.prog.underlying 157 = _; kernel_rfl
  · intro cs h; first | rfl | (simp at h)
  · intro ks h; simp at h
theorem Try.ty160 : TyOK Try.prog 160 ⟨1, 8, [.p (.v .nilFunc)], .sc, none⟩ := by
  refine TyOK.of (z := .nilFunc) (by kernel_rfl) rfl (by first | rfl | decide | (simp [Value.cells, zval, scal])) rfl ?_ ?_ ?_
  · exact scOf_spec (by kernel_rfl)
  · intro cs h; first | rfl | (simp at h)
  · intro ks h; simp at h
theorem Try.ty161 : TyOK Try.prog 161 ⟨1, 8, [.p (.v (.pointer none))], .sc, none⟩ := by
  refine TyOK.of (z := .pointer none) (by kernel_rfl) rfl (by first | rfl | decide | (simp [Value.cells, zval, scal])) rfl ?_ ?_ ?_
  · exact scOf_spec (by kernel_rfl)
  · intro cs h; first | rfl | (simp at h)
  · intro ks h; simp at h
theorem Try.ty167 : TyOK Try.prog 167 ⟨6, 56, [.p (.v (.int .i64 0)), .p (.v (.string ByteArray.empty)), .p (.v (.string ByteArray.empty)), .p (.v (.int .i64 0)), .p (.v (.bool false)), .p (.v (.bool false))], .struct [(0, 3), (1, 9), (2, 9), (3, 3), (4, 4), (5, 4)], some [.int .i64, .str, .str, .int .i64, .bool, .bool]⟩ := by
  refine TyOK.of (z := .agg #[.int .i64 0, .string ByteArray.empty, .string ByteArray.empty, .int .i64 0, .bool false, .bool false]) (by kernel_rfl) rfl (by first | rfl | decide | (simp [Value.cells, zval, scal])) rfl ?_ ?_ ?_
  · exact structOf_spec (by kernel_rfl)
  · intro cs h; first | rfl | (simp at h)
  · intro ks h; simp only [Option.some.injEq] at h; subst h; refine ⟨rfl, fun xs ys hx hy w => ⟨?_, by kernel_rfl⟩⟩
    obtain ⟨_, _, rfl, ⟨x0, rfl⟩, hx⟩ := hx; obtain ⟨_, _, rfl, ⟨x1, rfl⟩, hx⟩ := hx; obtain ⟨_, _, rfl, ⟨x2, rfl⟩, hx⟩ := hx; obtain ⟨_, _, rfl, ⟨x3, rfl⟩, hx⟩ := hx; obtain ⟨_, _, rfl, ⟨x4, rfl⟩, hx⟩ := hx; obtain ⟨_, _, rfl, ⟨x5, rfl⟩, hx⟩ := hx; subst hx
    obtain ⟨_, _, rfl, ⟨y0, rfl⟩, hy⟩ := hy; obtain ⟨_, _, rfl, ⟨y1, rfl⟩, hy⟩ := hy; obtain ⟨_, _, rfl, ⟨y2, rfl⟩, hy⟩ := hy; obtain ⟨_, _, rfl, ⟨y3, rfl⟩, hy⟩ := hy; obtain ⟨_, _, rfl, ⟨y4, rfl⟩, hy⟩ := hy; obtain ⟨_, _, rfl, ⟨y5, rfl⟩, hy⟩ := hy; subst hy
    show (Op.equalIn 10000 167 (.agg #[.int .i64 x0, .string x1, .string x2, .int .i64 x3, .bool x4, .bool x5]) (.agg #[.int .i64 y0, .string y1, .string y2, .int .i64 y3, .bool y4, .bool y5])).run Try.prog w = _
    go_simp
    simp only [ceq, veq]
    all_goals (repeat' split)
    all_goals simp_all
def Try.T : TypeId → Option Ty
  | 1 => some ⟨1, 8, [.p (.v .nilFunc)], .sc, none⟩
  | 2 => some ⟨1, 8, [.p (.v (.int .i64 0))], .int .i64, none⟩
  | 3 => some ⟨1, 8, [.p (.v (.int .i64 0))], .int .i64, none⟩
  | 4 => some ⟨1, 1, [.p (.v (.bool false))], .bool, none⟩
  | 5 => some ⟨1, 1, [.p (.v (.int .u8 0))], .int .u8, none⟩
  | 9 => some ⟨1, 16, [.p (.v (.string ByteArray.empty))], .str, none⟩
  | 12 => some ⟨1, 8, [.p (.v (.int .u64 0))], .int .u64, none⟩
  | 15 => some ⟨1, 8, [.p (.v (.pointer none))], .sc, none⟩
  | 16 => some ⟨1, 8, [.p (.v (.pointer none))], .sc, none⟩
  | 17 => some ⟨1, 8, [.p (.v (.pointer none))], .sc, none⟩
  | 21 => some ⟨1, 4, [.p (.v (.int .i32 0))], .int .i32, none⟩
  | 22 => some ⟨1, 24, [.nil 5], .slice 101, none⟩
  | 23 => some ⟨1, 24, [.nil 1], .slice 3, none⟩
  | 25 => some ⟨2, 16, [.p (.v (.int .i64 0)), .p (.v (.int .i64 0))], .struct [(0, 3), (1, 3)], some [.int .i64, .int .i64]⟩
  | 26 => some ⟨1, 24, [.nil 4], .slice 83, none⟩
  | 28 => some ⟨4, 48, [.p (.v (.int .i64 0)), .p (.v (.int .i64 0)), .p (.v (.int .i64 0)), .nil 4], .struct [(0, 25), (2, 3), (3, 26)], none⟩
  | 30 => some ⟨9, 120, [.nil 5, .nil 1, .p (.v (.int .i64 0)), .p (.v (.int .i64 0)), .p (.v (.int .i64 0)), .p (.v (.int .i64 0)), .nil 4, .p (.v (.int .i64 0)), .p (.v (.int .i64 0))], .struct [(0, 22), (1, 23), (2, 3), (3, 28), (7, 25)], none⟩
  | 31 => some ⟨1, 24, [.nil 8], .slice 58, none⟩
  | 33 => some ⟨10, 144, [.nil 5, .nil 1, .p (.v (.int .i64 0)), .p (.v (.int .i64 0)), .p (.v (.int .i64 0)), .p (.v (.int .i64 0)), .nil 4, .p (.v (.int .i64 0)), .p (.v (.int .i64 0)), .nil 8], .struct [(0, 30), (9, 31)], none⟩
  | 35 => some ⟨14, 176, [.p (.v (.int .i64 0)), .p (.v (.int .i64 0)), .p (.v (.int .i64 0)), .p (.v (.int .i64 0)), .nil 5, .nil 1, .p (.v (.int .i64 0)), .p (.v (.int .i64 0)), .p (.v (.int .i64 0)), .p (.v (.int .i64 0)), .nil 4, .p (.v (.int .i64 0)), .p (.v (.int .i64 0)), .nil 8], .struct [(0, 3), (1, 3), (2, 3), (3, 3), (4, 33)], none⟩
  | 36 => some ⟨1, 24, [.nil 48], .slice 67, none⟩
  | 37 => some ⟨1, 8, [.p (.v .nilFunc)], .sc, none⟩
  | 38 => some ⟨1, 8, [.p (.v .nilFunc)], .sc, none⟩
  | 39 => some ⟨1, 8, [.p (.v .nilFunc)], .sc, none⟩
  | 41 => some ⟨7, 56, [.p (.v (.int .i64 0)), .p (.v (.int .i64 0)), .p (.v (.int .i64 0)), .p (.v (.int .i64 0)), .p (.v (.int .i64 0)), .p (.v (.int .i64 0)), .p (.v (.int .i64 0))], .struct [(0, 3), (1, 3), (2, 3), (3, 25), (5, 3), (6, 3)], some [.int .i64, .int .i64, .int .i64, .int .i64, .int .i64, .int .i64, .int .i64]⟩
  | 42 => some ⟨1, 24, [.nil 7], .slice 41, none⟩
  | 44 => some ⟨17, 152, [.p (.v (.int .i64 0)), .p (.v (.int .i64 0)), .p (.v (.int .i64 0)), .p (.v (.int .i64 0)), .p (.v (.int .i64 0)), .p (.v (.int .i64 0)), .p (.v (.int .i64 0)), .p (.v (.int .i64 0)), .p (.v (.int .i64 0)), .p (.v (.int .i64 0)), .p (.v (.int .i64 0)), .p (.v (.int .i64 0)), .p (.v (.int .i64 0)), .p (.v (.int .i64 0)), .p (.v (.int .i64 0)), .p (.v (.int .i64 0)), .nil 7], .struct [(0, 3), (1, 3), (2, 41), (9, 41), (16, 42)], none⟩
  | 45 => some ⟨1, 24, [.nil 8], .slice 113, none⟩
  | 47 => some ⟨38, 400, [.p (.v (.int .i64 0)), .p (.v (.int .i64 0)), .p (.v (.int .i64 0)), .nil 5, .nil 1, .p (.v (.int .i64 0)), .p (.v (.int .i64 0)), .p (.v (.int .i64 0)), .p (.v (.int .i64 0)), .nil 4, .p (.v (.int .i64 0)), .p (.v (.int .i64 0)), .nil 8, .p (.v (.int .i64 0)), .p (.v (.int .i64 0)), .p (.v (.int .i64 0)), .p (.v (.int .i64 0)), .p (.v (.int .i64 0)), .p (.v (.int .i64 0)), .p (.v (.int .i64 0)), .p (.v (.int .i64 0)), .p (.v (.int .i64 0)), .p (.v (.int .i64 0)), .p (.v (.int .i64 0)), .p (.v (.int .i64 0)), .p (.v (.int .i64 0)), .p (.v (.int .i64 0)), .p (.v (.int .i64 0)), .p (.v (.int .i64 0)), .p (.v (.int .i64 0)), .p (.v (.int .i64 0)), .p (.v (.int .i64 0)), .nil 7, .p (.v (.int .i64 0)), .p (.v (.int .i64 0)), .p (.v (.int .i64 0)), .p (.v (.int .i64 0)), .nil 8], .struct [(0, 3), (1, 3), (2, 3), (3, 33), (13, 25), (15, 3), (16, 44), (33, 3), (34, 3), (35, 3), (36, 3), (37, 45)], none⟩
  | 48 => some ⟨1, 24, [.nil 46], .slice 65, none⟩
  | 50 => some ⟨1, 8, [.p (.v .nilFunc)], .sc, none⟩
  | 51 => some ⟨1, 8, [.p (.v .nilFunc)], .sc, none⟩
  | 52 => some ⟨1, 24, [.nil 2], .slice 25, none⟩
  | 54 => some ⟨13, 168, [.p (.v (.int .i64 0)), .p (.v (.int .i64 0)), .p (.v (.int .i64 0)), .nil 5, .nil 1, .p (.v (.int .i64 0)), .p (.v (.int .i64 0)), .p (.v (.int .i64 0)), .p (.v (.int .i64 0)), .nil 4, .p (.v (.int .i64 0)), .p (.v (.int .i64 0)), .nil 8], .struct [(0, 3), (1, 25), (3, 30), (12, 31)], none⟩
  | 55 => some ⟨1, 8, [.p (.v (.int .i64 0))], .int .i64, none⟩
  | 56 => some ⟨1, 24, [.nil 11], .slice 103, none⟩
  | 58 => some ⟨8, 88, [.p (.v (.int .i64 0)), .p (.v (.int .i64 0)), .p (.v (.int .i64 0)), .p (.v (.int .i64 0)), .p (.v (.int .i64 0)), .p (.v (.int .i64 0)), .p (.v (.string ByteArray.empty)), .nil 11], .struct [(0, 25), (2, 3), (3, 3), (4, 55), (5, 3), (6, 9), (7, 56)], none⟩
  | 59 => some ⟨1, 24, [.nil 6], .slice 167, none⟩
  | 61 => some ⟨3, 56, [.p (.v (.int .i64 0)), .nil 4, .nil 1], .struct [(0, 3), (1, 26), (2, 23)], none⟩
  | 63 => some ⟨9, 120, [.p (.v (.int .i64 0)), .p (.v (.int .i64 0)), .p (.v (.int .i64 0)), .nil 6, .p (.v (.int .i64 0)), .nil 4, .nil 1, .p (.v (.int .i64 0)), .p (.v (.int .i64 0))], .struct [(0, 3), (1, 3), (2, 3), (3, 59), (4, 61), (7, 25)], none⟩
  | 65 => some ⟨46, 536, [.p (.v (.int .i64 0)), .p (.v (.int .i64 0)), .p (.v (.int .i64 0)), .p (.v (.int .i64 0)), .p (.v (.int .i64 0)), .p (.v (.int .i64 0)), .p (.v (.int .i64 0)), .p (.v (.int .i64 0)), .p (.v (.int .i64 0)), .p (.v (.int .i64 0)), .p (.v (.int .i64 0)), .p (.v (.int .i64 0)), .p (.v (.int .i64 0)), .p (.v (.int .i64 0)), .nil 2, .p (.v (.int .i64 0)), .p (.v (.int .i64 0)), .p (.v (.int .i64 0)), .nil 5, .nil 1, .p (.v (.int .i64 0)), .p (.v (.int .i64 0)), .p (.v (.int .i64 0)), .p (.v (.int .i64 0)), .nil 4, .p (.v (.int .i64 0)), .p (.v (.int .i64 0)), .nil 8, .p (.v (.int .i64 0)), .p (.v (.int .i64 0)), .p (.v (.int .i64 0)), .p (.v (.int .i64 0)), .p (.v (.int .i64 0)), .p (.v (.int .i64 0)), .p (.v (.string ByteArray.empty)), .nil 11, .nil 1, .p (.v (.int .i64 0)), .p (.v (.int .i64 0)), .p (.v (.int .i64 0)), .nil 6, .p (.v (.int .i64 0)), .nil 4, .nil 1, .p (.v (.int .i64 0)), .p (.v (.int .i64 0))], .struct [(0, 3), (1, 3), (2, 3), (3, 41), (10, 3), (11, 3), (12, 25), (14, 52), (15, 54), (28, 58), (36, 23), (37, 63)], none⟩
  | 67 => some ⟨48, 552, [.p (.v (.int .i64 0)), .p (.v (.int .i64 0)), .p (.v (.int .i64 0)), .p (.v (.int .i64 0)), .p (.v (.int .i64 0)), .p (.v (.int .i64 0)), .p (.v (.int .i64 0)), .p (.v (.int .i64 0)), .p (.v (.int .i64 0)), .p (.v (.int .i64 0)), .p (.v (.int .i64 0)), .p (.v (.int .i64 0)), .p (.v (.int .i64 0)), .p (.v (.int .i64 0)), .p (.v (.int .i64 0)), .p (.v (.int .i64 0)), .nil 2, .p (.v (.int .i64 0)), .p (.v (.int .i64 0)), .p (.v (.int .i64 0)), .nil 5, .nil 1, .p (.v (.int .i64 0)), .p (.v (.int .i64 0)), .p (.v (.int .i64 0)), .p (.v (.int .i64 0)), .nil 4, .p (.v (.int .i64 0)), .p (.v (.int .i64 0)), .nil 8, .p (.v (.int .i64 0)), .p (.v (.int .i64 0)), .p (.v (.int .i64 0)), .p (.v (.int .i64 0)), .p (.v (.int .i64 0)), .p (.v (.int .i64 0)), .p (.v (.string ByteArray.empty)), .nil 11, .nil 1, .p (.v (.int .i64 0)), .p (.v (.int .i64 0)), .p (.v (.int .i64 0)), .nil 6, .p (.v (.int .i64 0)), .nil 4, .nil 1, .p (.v (.int .i64 0)), .p (.v (.int .i64 0))], .struct [(0, 3), (1, 3), (2, 65)], none⟩
  | 68 => some ⟨1, 8, [.p (.v .nilFunc)], .sc, none⟩
  | 69 => some ⟨1, 8, [.p (.v .nilFunc)], .sc, none⟩
  | 70 => some ⟨1, 8, [.p (.v .nilFunc)], .sc, none⟩
  | 72 => some ⟨1, 8, [.p (.v .nilFunc)], .sc, none⟩
  | 73 => some ⟨1, 8, [.p (.v .nilFunc)], .sc, none⟩
  | 74 => some ⟨1, 8, [.p (.v .nilFunc)], .sc, none⟩
  | 75 => some ⟨1, 8, [.p (.v .nilFunc)], .sc, none⟩
  | 76 => some ⟨1, 8, [.p (.v .nilFunc)], .sc, none⟩
  | 77 => some ⟨1, 8, [.p (.v .nilFunc)], .sc, none⟩
  | 78 => some ⟨1, 8, [.p (.v .nilFunc)], .sc, none⟩
  | 79 => some ⟨1, 8, [.p (.v .nilFunc)], .sc, none⟩
  | 80 => some ⟨1, 8, [.p (.v .nilFunc)], .sc, none⟩
  | 81 => some ⟨1, 8, [.p (.v .nilFunc)], .sc, none⟩
  | 83 => some ⟨4, 32, [.p (.v (.int .i64 0)), .p (.v (.int .i64 0)), .p (.v (.int .i64 0)), .p (.v (.int .i64 0))], .struct [(0, 3), (1, 3), (2, 3), (3, 3)], some [.int .i64, .int .i64, .int .i64, .int .i64]⟩
  | 84 => some ⟨1, 8, [.p (.v (.pointer none))], .sc, none⟩
  | 85 => some ⟨1, 8, [.p (.v .nilFunc)], .sc, none⟩
  | 87 => some ⟨40, 432, [.p (.v (.int .i64 0)), .p (.v (.int .i64 0)), .p (.v (.int .i64 0)), .nil 5, .nil 1, .p (.v (.int .i64 0)), .p (.v (.int .i64 0)), .p (.v (.int .i64 0)), .p (.v (.int .i64 0)), .nil 4, .p (.v (.int .i64 0)), .p (.v (.int .i64 0)), .nil 8, .p (.v (.int .i64 0)), .p (.v (.int .i64 0)), .p (.v (.int .i64 0)), .p (.v (.int .i64 0)), .p (.v (.int .i64 0)), .p (.v (.int .i64 0)), .p (.v (.int .i64 0)), .p (.v (.int .i64 0)), .p (.v (.int .i64 0)), .p (.v (.int .i64 0)), .p (.v (.int .i64 0)), .p (.v (.int .i64 0)), .p (.v (.int .i64 0)), .p (.v (.int .i64 0)), .p (.v (.int .i64 0)), .p (.v (.int .i64 0)), .p (.v (.int .i64 0)), .p (.v (.int .i64 0)), .p (.v (.int .i64 0)), .nil 7, .p (.v (.int .i64 0)), .p (.v (.int .i64 0)), .p (.v (.int .i64 0)), .p (.v (.int .i64 0)), .nil 8, .nil 46, .p (.v (.bool false))], .struct [(0, 47), (38, 48), (39, 4)], none⟩
  | 88 => some ⟨1, 8, [.p (.v .nilFunc)], .sc, none⟩
  | 89 => some ⟨1, 8, [.p (.v .nilFunc)], .sc, none⟩
  | 90 => some ⟨1, 8, [.p (.v .nilFunc)], .sc, none⟩
  | 91 => some ⟨1, 8, [.p (.v .nilFunc)], .sc, none⟩
  | 92 => some ⟨1, 8, [.p (.v .nilFunc)], .sc, none⟩
  | 93 => some ⟨1, 8, [.p (.v .nilFunc)], .sc, none⟩
  | 94 => some ⟨1, 8, [.p (.v .nilFunc)], .sc, none⟩
  | 95 => some ⟨1, 8, [.p (.v .nilFunc)], .sc, none⟩
  | 96 => some ⟨1, 8, [.p (.v .nilFunc)], .sc, none⟩
  | 97 => some ⟨1, 8, [.p (.v .nilFunc)], .sc, none⟩
  | 98 => some ⟨1, 8, [.p (.v .nilFunc)], .sc, none⟩
  | 99 => some ⟨1, 8, [.p (.v .nilFunc)], .sc, none⟩
  | 101 => some ⟨5, 56, [.p (.v (.string ByteArray.empty)), .p (.v (.string ByteArray.empty)), .p (.v (.int .i64 0)), .p (.v (.int .i64 0)), .p (.v (.int .i64 0))], .struct [(0, 9), (1, 9), (2, 3), (3, 3), (4, 3)], some [.str, .str, .int .i64, .int .i64, .int .i64]⟩
  | 103 => some ⟨11, 120, [.p (.v (.int .i64 0)), .p (.v (.string ByteArray.empty)), .p (.v (.string ByteArray.empty)), .p (.v (.int .i64 0)), .p (.v (.int .i64 0)), .p (.v (.int .i64 0)), .p (.v (.int .i64 0)), .p (.v (.int .i64 0)), .p (.v (.int .i64 0)), .p (.v (.int .i64 0)), .nil 4], .struct [(0, 3), (1, 101), (6, 3), (7, 28)], none⟩
  | 104 => some ⟨1, 8, [.p (.v .nilFunc)], .sc, none⟩
  | 105 => some ⟨1, 8, [.p (.v .nilFunc)], .sc, none⟩
  | 106 => some ⟨1, 8, [.p (.v .nilFunc)], .sc, none⟩
  | 107 => some ⟨1, 8, [.p (.v .nilFunc)], .sc, none⟩
  | 108 => some ⟨1, 8, [.p (.v .nilFunc)], .sc, none⟩
  | 109 => some ⟨1, 8, [.p (.v .nilFunc)], .sc, none⟩
  | 110 => some ⟨1, 8, [.p (.v .nilFunc)], .sc, none⟩
  | 111 => some ⟨1, 8, [.p (.v .nilFunc)], .sc, none⟩
  | 113 => some ⟨8, 80, [.p (.v (.int .i64 0)), .p (.v (.int .i64 0)), .p (.v (.int .i64 0)), .p (.v (.int .i64 0)), .nil 2, .p (.v (.int .i64 0)), .p (.v (.int .i64 0)), .p (.v (.int .i64 0))], .struct [(0, 3), (1, 3), (2, 3), (3, 3), (4, 52), (5, 25), (7, 3)], none⟩
  | 114 => some ⟨1, 8, [.p (.v .nilFunc)], .sc, none⟩
  | 115 => some ⟨1, 8, [.p (.v .nilFunc)], .sc, none⟩
  | 116 => some ⟨1, 8, [.p (.v .nilFunc)], .sc, none⟩
  | 117 => some ⟨1, 8, [.p (.v .nilFunc)], .sc, none⟩
  | 118 => some ⟨1, 8, [.p (.v .nilFunc)], .sc, none⟩
  | 119 => some ⟨1, 8, [.p (.v .nilFunc)], .sc, none⟩
  | 120 => some ⟨1, 8, [.p (.v .nilFunc)], .sc, none⟩
  | 121 => some ⟨1, 8, [.p (.v .nilFunc)], .sc, none⟩
  | 122 => some ⟨1, 8, [.p (.v .nilFunc)], .sc, none⟩
  | 123 => some ⟨1, 8, [.p (.v .nilFunc)], .sc, none⟩
  | 124 => some ⟨1, 8, [.p (.v .nilFunc)], .sc, none⟩
  | 125 => some ⟨1, 8, [.p (.v .nilFunc)], .sc, none⟩
  | 126 => some ⟨1, 8, [.p (.v .nilFunc)], .sc, none⟩
  | 127 => some ⟨1, 8, [.p (.v .nilFunc)], .sc, none⟩
  | 128 => some ⟨1, 8, [.p (.v .nilFunc)], .sc, none⟩
  | 129 => some ⟨1, 8, [.p (.v .nilFunc)], .sc, none⟩
  | 130 => some ⟨1, 8, [.p (.v .nilFunc)], .sc, none⟩
  | 131 => some ⟨1, 8, [.p (.v .nilFunc)], .sc, none⟩
  | 132 => some ⟨1, 8, [.p (.v .nilFunc)], .sc, none⟩
  | 133 => some ⟨1, 8, [.p (.v .nilFunc)], .sc, none⟩
  | 134 => some ⟨1, 8, [.p (.v .nilFunc)], .sc, none⟩
  | 135 => some ⟨1, 8, [.p (.v .nilFunc)], .sc, none⟩
  | 137 => some ⟨1, 8, [.p (.v .nilFunc)], .sc, none⟩
  | 138 => some ⟨1, 8, [.p (.v .nilFunc)], .sc, none⟩
  | 139 => some ⟨1, 8, [.p (.v .nilFunc)], .sc, none⟩
  | 140 => some ⟨1, 8, [.p (.v .nilFunc)], .sc, none⟩
  | 141 => some ⟨1, 8, [.p (.v .nilFunc)], .sc, none⟩
  | 142 => some ⟨1, 8, [.p (.v .nilFunc)], .sc, none⟩
  | 143 => some ⟨1, 8, [.p (.v .nilFunc)], .sc, none⟩
  | 144 => some ⟨1, 8, [.p (.v .nilFunc)], .sc, none⟩
  | 145 => some ⟨1, 8, [.p (.v .nilFunc)], .sc, none⟩
  | 146 => some ⟨1, 8, [.p (.v .nilFunc)], .sc, none⟩
  | 147 => some ⟨1, 8, [.p (.v .nilFunc)], .sc, none⟩
  | 148 => some ⟨1, 8, [.p (.v .nilFunc)], .sc, none⟩
  | 149 => some ⟨1, 8, [.p (.v .nilFunc)], .sc, none⟩
  | 150 => some ⟨1, 8, [.p (.v .nilFunc)], .sc, none⟩
  | 153 => some ⟨0, 0, [], .array 0 16, none⟩
  | 156 => some ⟨1, 8, [.p (.v .nilFunc)], .sc, none⟩
  | 157 => some ⟨1, 4, [.p (.v (.int .u32 0))], .int .u32, none⟩
  | 160 => some ⟨1, 8, [.p (.v .nilFunc)], .sc, none⟩
  | 161 => some ⟨1, 8, [.p (.v (.pointer none))], .sc, none⟩
  | 167 => some ⟨6, 56, [.p (.v (.int .i64 0)), .p (.v (.string ByteArray.empty)), .p (.v (.string ByteArray.empty)), .p (.v (.int .i64 0)), .p (.v (.bool false)), .p (.v (.bool false))], .struct [(0, 3), (1, 9), (2, 9), (3, 3), (4, 4), (5, 4)], some [.int .i64, .str, .str, .int .i64, .bool, .bool]⟩
  | _ => none
theorem Try.T1 : Try.T 1 = some ⟨1, 8, [.p (.v .nilFunc)], .sc, none⟩ := rfl
theorem Try.T2 : Try.T 2 = some ⟨1, 8, [.p (.v (.int .i64 0))], .int .i64, none⟩ := rfl
theorem Try.T3 : Try.T 3 = some ⟨1, 8, [.p (.v (.int .i64 0))], .int .i64, none⟩ := rfl
theorem Try.T4 : Try.T 4 = some ⟨1, 1, [.p (.v (.bool false))], .bool, none⟩ := rfl
theorem Try.T5 : Try.T 5 = some ⟨1, 1, [.p (.v (.int .u8 0))], .int .u8, none⟩ := rfl
theorem Try.T9 : Try.T 9 = some ⟨1, 16, [.p (.v (.string ByteArray.empty))], .str, none⟩ := rfl
theorem Try.T12 : Try.T 12 = some ⟨1, 8, [.p (.v (.int .u64 0))], .int .u64, none⟩ := rfl
theorem Try.T15 : Try.T 15 = some ⟨1, 8, [.p (.v (.pointer none))], .sc, none⟩ := rfl
theorem Try.T16 : Try.T 16 = some ⟨1, 8, [.p (.v (.pointer none))], .sc, none⟩ := rfl
theorem Try.T17 : Try.T 17 = some ⟨1, 8, [.p (.v (.pointer none))], .sc, none⟩ := rfl
theorem Try.T21 : Try.T 21 = some ⟨1, 4, [.p (.v (.int .i32 0))], .int .i32, none⟩ := rfl
theorem Try.T22 : Try.T 22 = some ⟨1, 24, [.nil 5], .slice 101, none⟩ := rfl
theorem Try.T23 : Try.T 23 = some ⟨1, 24, [.nil 1], .slice 3, none⟩ := rfl
theorem Try.T25 : Try.T 25 = some ⟨2, 16, [.p (.v (.int .i64 0)), .p (.v (.int .i64 0))], .struct [(0, 3), (1, 3)], some [.int .i64, .int .i64]⟩ := rfl
theorem Try.T26 : Try.T 26 = some ⟨1, 24, [.nil 4], .slice 83, none⟩ := rfl
theorem Try.T28 : Try.T 28 = some ⟨4, 48, [.p (.v (.int .i64 0)), .p (.v (.int .i64 0)), .p (.v (.int .i64 0)), .nil 4], .struct [(0, 25), (2, 3), (3, 26)], none⟩ := rfl
theorem Try.T30 : Try.T 30 = some ⟨9, 120, [.nil 5, .nil 1, .p (.v (.int .i64 0)), .p (.v (.int .i64 0)), .p (.v (.int .i64 0)), .p (.v (.int .i64 0)), .nil 4, .p (.v (.int .i64 0)), .p (.v (.int .i64 0))], .struct [(0, 22), (1, 23), (2, 3), (3, 28), (7, 25)], none⟩ := rfl
theorem Try.T31 : Try.T 31 = some ⟨1, 24, [.nil 8], .slice 58, none⟩ := rfl
theorem Try.T33 : Try.T 33 = some ⟨10, 144, [.nil 5, .nil 1, .p (.v (.int .i64 0)), .p (.v (.int .i64 0)), .p (.v (.int .i64 0)), .p (.v (.int .i64 0)), .nil 4, .p (.v (.int .i64 0)), .p (.v (.int .i64 0)), .nil 8], .struct [(0, 30), (9, 31)], none⟩ := rfl
theorem Try.T35 : Try.T 35 = some ⟨14, 176, [.p (.v (.int .i64 0)), .p (.v (.int .i64 0)), .p (.v (.int .i64 0)), .p (.v (.int .i64 0)), .nil 5, .nil 1, .p (.v (.int .i64 0)), .p (.v (.int .i64 0)), .p (.v (.int .i64 0)), .p (.v (.int .i64 0)), .nil 4, .p (.v (.int .i64 0)), .p (.v (.int .i64 0)), .nil 8], .struct [(0, 3), (1, 3), (2, 3), (3, 3), (4, 33)], none⟩ := rfl
theorem Try.T36 : Try.T 36 = some ⟨1, 24, [.nil 48], .slice 67, none⟩ := rfl
theorem Try.T37 : Try.T 37 = some ⟨1, 8, [.p (.v .nilFunc)], .sc, none⟩ := rfl
theorem Try.T38 : Try.T 38 = some ⟨1, 8, [.p (.v .nilFunc)], .sc, none⟩ := rfl
theorem Try.T39 : Try.T 39 = some ⟨1, 8, [.p (.v .nilFunc)], .sc, none⟩ := rfl
theorem Try.T41 : Try.T 41 = some ⟨7, 56, [.p (.v (.int .i64 0)), .p (.v (.int .i64 0)), .p (.v (.int .i64 0)), .p (.v (.int .i64 0)), .p (.v (.int .i64 0)), .p (.v (.int .i64 0)), .p (.v (.int .i64 0))], .struct [(0, 3), (1, 3), (2, 3), (3, 25), (5, 3), (6, 3)], some [.int .i64, .int .i64, .int .i64, .int .i64, .int .i64, .int .i64, .int .i64]⟩ := rfl
theorem Try.T42 : Try.T 42 = some ⟨1, 24, [.nil 7], .slice 41, none⟩ := rfl
theorem Try.T44 : Try.T 44 = some ⟨17, 152, [.p (.v (.int .i64 0)), .p (.v (.int .i64 0)), .p (.v (.int .i64 0)), .p (.v (.int .i64 0)), .p (.v (.int .i64 0)), .p (.v (.int .i64 0)), .p (.v (.int .i64 0)), .p (.v (.int .i64 0)), .p (.v (.int .i64 0)), .p (.v (.int .i64 0)), .p (.v (.int .i64 0)), .p (.v (.int .i64 0)), .p (.v (.int .i64 0)), .p (.v (.int .i64 0)), .p (.v (.int .i64 0)), .p (.v (.int .i64 0)), .nil 7], .struct [(0, 3), (1, 3), (2, 41), (9, 41), (16, 42)], none⟩ := rfl
theorem Try.T45 : Try.T 45 = some ⟨1, 24, [.nil 8], .slice 113, none⟩ := rfl
theorem Try.T47 : Try.T 47 = some ⟨38, 400, [.p (.v (.int .i64 0)), .p (.v (.int .i64 0)), .p (.v (.int .i64 0)), .nil 5, .nil 1, .p (.v (.int .i64 0)), .p (.v (.int .i64 0)), .p (.v (.int .i64 0)), .p (.v (.int .i64 0)), .nil 4, .p (.v (.int .i64 0)), .p (.v (.int .i64 0)), .nil 8, .p (.v (.int .i64 0)), .p (.v (.int .i64 0)), .p (.v (.int .i64 0)), .p (.v (.int .i64 0)), .p (.v (.int .i64 0)), .p (.v (.int .i64 0)), .p (.v (.int .i64 0)), .p (.v (.int .i64 0)), .p (.v (.int .i64 0)), .p (.v (.int .i64 0)), .p (.v (.int .i64 0)), .p (.v (.int .i64 0)), .p (.v (.int .i64 0)), .p (.v (.int .i64 0)), .p (.v (.int .i64 0)), .p (.v (.int .i64 0)), .p (.v (.int .i64 0)), .p (.v (.int .i64 0)), .p (.v (.int .i64 0)), .nil 7, .p (.v (.int .i64 0)), .p (.v (.int .i64 0)), .p (.v (.int .i64 0)), .p (.v (.int .i64 0)), .nil 8], .struct [(0, 3), (1, 3), (2, 3), (3, 33), (13, 25), (15, 3), (16, 44), (33, 3), (34, 3), (35, 3), (36, 3), (37, 45)], none⟩ := rfl
theorem Try.T48 : Try.T 48 = some ⟨1, 24, [.nil 46], .slice 65, none⟩ := rfl
theorem Try.T50 : Try.T 50 = some ⟨1, 8, [.p (.v .nilFunc)], .sc, none⟩ := rfl
theorem Try.T51 : Try.T 51 = some ⟨1, 8, [.p (.v .nilFunc)], .sc, none⟩ := rfl
theorem Try.T52 : Try.T 52 = some ⟨1, 24, [.nil 2], .slice 25, none⟩ := rfl
theorem Try.T54 : Try.T 54 = some ⟨13, 168, [.p (.v (.int .i64 0)), .p (.v (.int .i64 0)), .p (.v (.int .i64 0)), .nil 5, .nil 1, .p (.v (.int .i64 0)), .p (.v (.int .i64 0)), .p (.v (.int .i64 0)), .p (.v (.int .i64 0)), .nil 4, .p (.v (.int .i64 0)), .p (.v (.int .i64 0)), .nil 8], .struct [(0, 3), (1, 25), (3, 30), (12, 31)], none⟩ := rfl
theorem Try.T55 : Try.T 55 = some ⟨1, 8, [.p (.v (.int .i64 0))], .int .i64, none⟩ := rfl
theorem Try.T56 : Try.T 56 = some ⟨1, 24, [.nil 11], .slice 103, none⟩ := rfl
theorem Try.T58 : Try.T 58 = some ⟨8, 88, [.p (.v (.int .i64 0)), .p (.v (.int .i64 0)), .p (.v (.int .i64 0)), .p (.v (.int .i64 0)), .p (.v (.int .i64 0)), .p (.v (.int .i64 0)), .p (.v (.string ByteArray.empty)), .nil 11], .struct [(0, 25), (2, 3), (3, 3), (4, 55), (5, 3), (6, 9), (7, 56)], none⟩ := rfl
theorem Try.T59 : Try.T 59 = some ⟨1, 24, [.nil 6], .slice 167, none⟩ := rfl
theorem Try.T61 : Try.T 61 = some ⟨3, 56, [.p (.v (.int .i64 0)), .nil 4, .nil 1], .struct [(0, 3), (1, 26), (2, 23)], none⟩ := rfl
theorem Try.T63 : Try.T 63 = some ⟨9, 120, [.p (.v (.int .i64 0)), .p (.v (.int .i64 0)), .p (.v (.int .i64 0)), .nil 6, .p (.v (.int .i64 0)), .nil 4, .nil 1, .p (.v (.int .i64 0)), .p (.v (.int .i64 0))], .struct [(0, 3), (1, 3), (2, 3), (3, 59), (4, 61), (7, 25)], none⟩ := rfl
theorem Try.T65 : Try.T 65 = some ⟨46, 536, [.p (.v (.int .i64 0)), .p (.v (.int .i64 0)), .p (.v (.int .i64 0)), .p (.v (.int .i64 0)), .p (.v (.int .i64 0)), .p (.v (.int .i64 0)), .p (.v (.int .i64 0)), .p (.v (.int .i64 0)), .p (.v (.int .i64 0)), .p (.v (.int .i64 0)), .p (.v (.int .i64 0)), .p (.v (.int .i64 0)), .p (.v (.int .i64 0)), .p (.v (.int .i64 0)), .nil 2, .p (.v (.int .i64 0)), .p (.v (.int .i64 0)), .p (.v (.int .i64 0)), .nil 5, .nil 1, .p (.v (.int .i64 0)), .p (.v (.int .i64 0)), .p (.v (.int .i64 0)), .p (.v (.int .i64 0)), .nil 4, .p (.v (.int .i64 0)), .p (.v (.int .i64 0)), .nil 8, .p (.v (.int .i64 0)), .p (.v (.int .i64 0)), .p (.v (.int .i64 0)), .p (.v (.int .i64 0)), .p (.v (.int .i64 0)), .p (.v (.int .i64 0)), .p (.v (.string ByteArray.empty)), .nil 11, .nil 1, .p (.v (.int .i64 0)), .p (.v (.int .i64 0)), .p (.v (.int .i64 0)), .nil 6, .p (.v (.int .i64 0)), .nil 4, .nil 1, .p (.v (.int .i64 0)), .p (.v (.int .i64 0))], .struct [(0, 3), (1, 3), (2, 3), (3, 41), (10, 3), (11, 3), (12, 25), (14, 52), (15, 54), (28, 58), (36, 23), (37, 63)], none⟩ := rfl
theorem Try.T67 : Try.T 67 = some ⟨48, 552, [.p (.v (.int .i64 0)), .p (.v (.int .i64 0)), .p (.v (.int .i64 0)), .p (.v (.int .i64 0)), .p (.v (.int .i64 0)), .p (.v (.int .i64 0)), .p (.v (.int .i64 0)), .p (.v (.int .i64 0)), .p (.v (.int .i64 0)), .p (.v (.int .i64 0)), .p (.v (.int .i64 0)), .p (.v (.int .i64 0)), .p (.v (.int .i64 0)), .p (.v (.int .i64 0)), .p (.v (.int .i64 0)), .p (.v (.int .i64 0)), .nil 2, .p (.v (.int .i64 0)), .p (.v (.int .i64 0)), .p (.v (.int .i64 0)), .nil 5, .nil 1, .p (.v (.int .i64 0)), .p (.v (.int .i64 0)), .p (.v (.int .i64 0)), .p (.v (.int .i64 0)), .nil 4, .p (.v (.int .i64 0)), .p (.v (.int .i64 0)), .nil 8, .p (.v (.int .i64 0)), .p (.v (.int .i64 0)), .p (.v (.int .i64 0)), .p (.v (.int .i64 0)), .p (.v (.int .i64 0)), .p (.v (.int .i64 0)), .p (.v (.string ByteArray.empty)), .nil 11, .nil 1, .p (.v (.int .i64 0)), .p (.v (.int .i64 0)), .p (.v (.int .i64 0)), .nil 6, .p (.v (.int .i64 0)), .nil 4, .nil 1, .p (.v (.int .i64 0)), .p (.v (.int .i64 0))], .struct [(0, 3), (1, 3), (2, 65)], none⟩ := rfl
theorem Try.T68 : Try.T 68 = some ⟨1, 8, [.p (.v .nilFunc)], .sc, none⟩ := rfl
theorem Try.T69 : Try.T 69 = some ⟨1, 8, [.p (.v .nilFunc)], .sc, none⟩ := rfl
theorem Try.T70 : Try.T 70 = some ⟨1, 8, [.p (.v .nilFunc)], .sc, none⟩ := rfl
theorem Try.T72 : Try.T 72 = some ⟨1, 8, [.p (.v .nilFunc)], .sc, none⟩ := rfl
theorem Try.T73 : Try.T 73 = some ⟨1, 8, [.p (.v .nilFunc)], .sc, none⟩ := rfl
theorem Try.T74 : Try.T 74 = some ⟨1, 8, [.p (.v .nilFunc)], .sc, none⟩ := rfl
theorem Try.T75 : Try.T 75 = some ⟨1, 8, [.p (.v .nilFunc)], .sc, none⟩ := rfl
theorem Try.T76 : Try.T 76 = some ⟨1, 8, [.p (.v .nilFunc)], .sc, none⟩ := rfl
theorem Try.T77 : Try.T 77 = some ⟨1, 8, [.p (.v .nilFunc)], .sc, none⟩ := rfl
theorem Try.T78 : Try.T 78 = some ⟨1, 8, [.p (.v .nilFunc)], .sc, none⟩ := rfl
theorem Try.T79 : Try.T 79 = some ⟨1, 8, [.p (.v .nilFunc)], .sc, none⟩ := rfl
theorem Try.T80 : Try.T 80 = some ⟨1, 8, [.p (.v .nilFunc)], .sc, none⟩ := rfl
theorem Try.T81 : Try.T 81 = some ⟨1, 8, [.p (.v .nilFunc)], .sc, none⟩ := rfl
theorem Try.T83 : Try.T 83 = some ⟨4, 32, [.p (.v (.int .i64 0)), .p (.v (.int .i64 0)), .p (.v (.int .i64 0)), .p (.v (.int .i64 0))], .struct [(0, 3), (1, 3), (2, 3), (3, 3)], some [.int .i64, .int .i64, .int .i64, .int .i64]⟩ := rfl
theorem Try.T84 : Try.T 84 = some ⟨1, 8, [.p (.v (.pointer none))], .sc, none⟩ := rfl
theorem Try.T85 : Try.T 85 = some ⟨1, 8, [.p (.v .nilFunc)], .sc, none⟩ := rfl
theorem Try.T87 : Try.T 87 = some ⟨40, 432, [.p (.v (.int .i64 0)), .p (.v (.int .i64 0)), .p (.v (.int .i64 0)), .nil 5, .nil 1, .p (.v (.int .i64 0)), .p (.v (.int .i64 0)), .p (.v (.int .i64 0)), .p (.v (.int .i64 0)), .nil 4, .p (.v (.int .i64 0)), .p (.v (.int .i64 0)), .nil 8, .p (.v (.int .i64 0)), .p (.v (.int .i64 0)), .p (.v (.int .i64 0)), .p (.v (.int .i64 0)), .p (.v (.int .i64 0)), .p (.v (.int .i64 0)), .p (.v (.int .i64 0)), .p (.v (.int .i64 0)), .p (.v (.int .i64 0)), .p (.v (.int .i64 0)), .p (.v (.int .i64 0)), .p (.v (.int .i64 0)), .p (.v (.int .i64 0)), .p (.v (.int .i64 0)), .p (.v (.int .i64 0)), .p (.v (.int .i64 0)), .p (.v (.int .i64 0)), .p (.v (.int .i64 0)), .p (.v (.int .i64 0)), .nil 7, .p (.v (.int .i64 0)), .p (.v (.int .i64 0)), .p (.v (.int .i64 0)), .p (.v (.int .i64 0)), .nil 8, .nil 46, .p (.v (.bool false))], .struct [(0, 47), (38, 48), (39, 4)], none⟩ := rfl
theorem Try.T88 : Try.T 88 = some ⟨1, 8, [.p (.v .nilFunc)], .sc, none⟩ := rfl
theorem Try.T89 : Try.T 89 = some ⟨1, 8, [.p (.v .nilFunc)], .sc, none⟩ := rfl
theorem Try.T90 : Try.T 90 = some ⟨1, 8, [.p (.v .nilFunc)], .sc, none⟩ := rfl
theorem Try.T91 : Try.T 91 = some ⟨1, 8, [.p (.v .nilFunc)], .sc, none⟩ := rfl
theorem Try.T92 : Try.T 92 = some ⟨1, 8, [.p (.v .nilFunc)], .sc, none⟩ := rfl
theorem Try.T93 : Try.T 93 = some ⟨1, 8, [.p (.v .nilFunc)], .sc, none⟩ := rfl
theorem Try.T94 : Try.T 94 = some ⟨1, 8, [.p (.v .nilFunc)], .sc, none⟩ := rfl
theorem Try.T95 : Try.T 95 = some ⟨1, 8, [.p (.v .nilFunc)], .sc, none⟩ := rfl
theorem Try.T96 : Try.T 96 = some ⟨1, 8, [.p (.v .nilFunc)], .sc, none⟩ := rfl
theorem Try.T97 : Try.T 97 = some ⟨1, 8, [.p (.v .nilFunc)], .sc, none⟩ := rfl
theorem Try.T98 : Try.T 98 = some ⟨1, 8, [.p (.v .nilFunc)], .sc, none⟩ := rfl
theorem Try.T99 : Try.T 99 = some ⟨1, 8, [.p (.v .nilFunc)], .sc, none⟩ := rfl
theorem Try.T101 : Try.T 101 = some ⟨5, 56, [.p (.v (.string ByteArray.empty)), .p (.v (.string ByteArray.empty)), .p (.v (.int .i64 0)), .p (.v (.int .i64 0)), .p (.v (.int .i64 0))], .struct [(0, 9), (1, 9), (2, 3), (3, 3), (4, 3)], some [.str, .str, .int .i64, .int .i64, .int .i64]⟩ := rfl
theorem Try.T103 : Try.T 103 = some ⟨11, 120, [.p (.v (.int .i64 0)), .p (.v (.string ByteArray.empty)), .p (.v (.string ByteArray.empty)), .p (.v (.int .i64 0)), .p (.v (.int .i64 0)), .p (.v (.int .i64 0)), .p (.v (.int .i64 0)), .p (.v (.int .i64 0)), .p (.v (.int .i64 0)), .p (.v (.int .i64 0)), .nil 4], .struct [(0, 3), (1, 101), (6, 3), (7, 28)], none⟩ := rfl
theorem Try.T104 : Try.T 104 = some ⟨1, 8, [.p (.v .nilFunc)], .sc, none⟩ := rfl
theorem Try.T105 : Try.T 105 = some ⟨1, 8, [.p (.v .nilFunc)], .sc, none⟩ := rfl
theorem Try.T106 : Try.T 106 = some ⟨1, 8, [.p (.v .nilFunc)], .sc, none⟩ := rfl
theorem Try.T107 : Try.T 107 = some ⟨1, 8, [.p (.v .nilFunc)], .sc, none⟩ := rfl
theorem Try.T108 : Try.T 108 = some ⟨1, 8, [.p (.v .nilFunc)], .sc, none⟩ := rfl
theorem Try.T109 : Try.T 109 = some ⟨1, 8, [.p (.v .nilFunc)], .sc, none⟩ := rfl
theorem Try.T110 : Try.T 110 = some ⟨1, 8, [.p (.v .nilFunc)], .sc, none⟩ := rfl
theorem Try.T111 : Try.T 111 = some ⟨1, 8, [.p (.v .nilFunc)], .sc, none⟩ := rfl
theorem Try.T113 : Try.T 113 = some ⟨8, 80, [.p (.v (.int .i64 0)), .p (.v (.int .i64 0)), .p (.v (.int .i64 0)), .p (.v (.int .i64 0)), .nil 2, .p (.v (.int .i64 0)), .p (.v (.int .i64 0)), .p (.v (.int .i64 0))], .struct [(0, 3), (1, 3), (2, 3), (3, 3), (4, 52), (5, 25), (7, 3)], none⟩ := rfl
theorem Try.T114 : Try.T 114 = some ⟨1, 8, [.p (.v .nilFunc)], .sc, none⟩ := rfl
theorem Try.T115 : Try.T 115 = some ⟨1, 8, [.p (.v .nilFunc)], .sc, none⟩ := rfl
theorem Try.T116 : Try.T 116 = some ⟨1, 8, [.p (.v .nilFunc)], .sc, none⟩ := rfl
theorem Try.T117 : Try.T 117 = some ⟨1, 8, [.p (.v .nilFunc)], .sc, none⟩ := rfl
theorem Try.T118 : Try.T 118 = some ⟨1, 8, [.p (.v .nilFunc)], .sc, none⟩ := rfl
theorem Try.T119 : Try.T 119 = some ⟨1, 8, [.p (.v .nilFunc)], .sc, none⟩ := rfl
theorem Try.T120 : Try.T 120 = some ⟨1, 8, [.p (.v .nilFunc)], .sc, none⟩ := rfl
theorem Try.T121 : Try.T 121 = some ⟨1, 8, [.p (.v .nilFunc)], .sc, none⟩ := rfl
theorem Try.T122 : Try.T 122 = some ⟨1, 8, [.p (.v .nilFunc)], .sc, none⟩ := rfl
theorem Try.T123 : Try.T 123 = some ⟨1, 8, [.p (.v .nilFunc)], .sc, none⟩ := rfl
theorem Try.T124 : Try.T 124 = some ⟨1, 8, [.p (.v .nilFunc)], .sc, none⟩ := rfl
theorem Try.T125 : Try.T 125 = some ⟨1, 8, [.p (.v .nilFunc)], .sc, none⟩ := rfl
theorem Try.T126 : Try.T 126 = some ⟨1, 8, [.p (.v .nilFunc)], .sc, none⟩ := rfl
theorem Try.T127 : Try.T 127 = some ⟨1, 8, [.p (.v .nilFunc)], .sc, none⟩ := rfl
theorem Try.T128 : Try.T 128 = some ⟨1, 8, [.p (.v .nilFunc)], .sc, none⟩ := rfl
theorem Try.T129 : Try.T 129 = some ⟨1, 8, [.p (.v .nilFunc)], .sc, none⟩ := rfl
theorem Try.T130 : Try.T 130 = some ⟨1, 8, [.p (.v .nilFunc)], .sc, none⟩ := rfl
theorem Try.T131 : Try.T 131 = some ⟨1, 8, [.p (.v .nilFunc)], .sc, none⟩ := rfl
theorem Try.T132 : Try.T 132 = some ⟨1, 8, [.p (.v .nilFunc)], .sc, none⟩ := rfl
theorem Try.T133 : Try.T 133 = some ⟨1, 8, [.p (.v .nilFunc)], .sc, none⟩ := rfl
theorem Try.T134 : Try.T 134 = some ⟨1, 8, [.p (.v .nilFunc)], .sc, none⟩ := rfl
theorem Try.T135 : Try.T 135 = some ⟨1, 8, [.p (.v .nilFunc)], .sc, none⟩ := rfl
theorem Try.T137 : Try.T 137 = some ⟨1, 8, [.p (.v .nilFunc)], .sc, none⟩ := rfl
theorem Try.T138 : Try.T 138 = some ⟨1, 8, [.p (.v .nilFunc)], .sc, none⟩ := rfl
theorem Try.T139 : Try.T 139 = some ⟨1, 8, [.p (.v .nilFunc)], .sc, none⟩ := rfl
theorem Try.T140 : Try.T 140 = some ⟨1, 8, [.p (.v .nilFunc)], .sc, none⟩ := rfl
theorem Try.T141 : Try.T 141 = some ⟨1, 8, [.p (.v .nilFunc)], .sc, none⟩ := rfl
theorem Try.T142 : Try.T 142 = some ⟨1, 8, [.p (.v .nilFunc)], .sc, none⟩ := rfl
theorem Try.T143 : Try.T 143 = some ⟨1, 8, [.p (.v .nilFunc)], .sc, none⟩ := rfl
theorem Try.T144 : Try.T 144 = some ⟨1, 8, [.p (.v .nilFunc)], .sc, none⟩ := rfl
theorem Try.T145 : Try.T 145 = some ⟨1, 8, [.p (.v .nilFunc)], .sc, none⟩ := rfl
theorem Try.T146 : Try.T 146 = some ⟨1, 8, [.p (.v .nilFunc)], .sc, none⟩ := rfl
theorem Try.T147 : Try.T 147 = some ⟨1, 8, [.p (.v .nilFunc)], .sc, none⟩ := rfl
theorem Try.T148 : Try.T 148 = some ⟨1, 8, [.p (.v .nilFunc)], .sc, none⟩ := rfl
theorem Try.T149 : Try.T 149 = some ⟨1, 8, [.p (.v .nilFunc)], .sc, none⟩ := rfl
theorem Try.T150 : Try.T 150 = some ⟨1, 8, [.p (.v .nilFunc)], .sc, none⟩ := rfl
theorem Try.T153 : Try.T 153 = some ⟨0, 0, [], .array 0 16, none⟩ := rfl
theorem Try.T156 : Try.T 156 = some ⟨1, 8, [.p (.v .nilFunc)], .sc, none⟩ := rfl
theorem Try.T157 : Try.T 157 = some ⟨1, 4, [.p (.v (.int .u32 0))], .int .u32, none⟩ := rfl
theorem Try.T160 : Try.T 160 = some ⟨1, 8, [.p (.v .nilFunc)], .sc, none⟩ := rfl
theorem Try.T161 : Try.T 161 = some ⟨1, 8, [.p (.v (.pointer none))], .sc, none⟩ := rfl
theorem Try.T167 : Try.T 167 = some ⟨6, 56, [.p (.v (.int .i64 0)), .p (.v (.string ByteArray.empty)), .p (.v (.string ByteArray.empty)), .p (.v (.int .i64 0)), .p (.v (.bool false)), .p (.v (.bool false))], .struct [(0, 3), (1, 9), (2, 9), (3, 3), (4, 4), (5, 4)], some [.int .i64, .str, .str, .int .i64, .bool, .bool]⟩ := rfl
set_option maxRecDepth 100000 in
set_option maxHeartbeats 4000000 in
theorem Try.tab : TabOK Try.prog Try.T := by
  intro t y h
  unfold Try.T at h
  split at h
  · simp only [Option.some.injEq] at h; subst h; exact Try.ty1
  · simp only [Option.some.injEq] at h; subst h; exact Try.ty2
  · simp only [Option.some.injEq] at h; subst h; exact Try.ty3
  · simp only [Option.some.injEq] at h; subst h; exact Try.ty4
  · simp only [Option.some.injEq] at h; subst h; exact Try.ty5
  · simp only [Option.some.injEq] at h; subst h; exact Try.ty9
  · simp only [Option.some.injEq] at h; subst h; exact Try.ty12
  · simp only [Option.some.injEq] at h; subst h; exact Try.ty15
  · simp only [Option.some.injEq] at h; subst h; exact Try.ty16
  · simp only [Option.some.injEq] at h; subst h; exact Try.ty17
  · simp only [Option.some.injEq] at h; subst h; exact Try.ty21
  · simp only [Option.some.injEq] at h; subst h; exact Try.ty22
  · simp only [Option.some.injEq] at h; subst h; exact Try.ty23
  · simp only [Option.some.injEq] at h; subst h; exact Try.ty25
  · simp only [Option.some.injEq] at h; subst h; exact Try.ty26
  · simp only [Option.some.injEq] at h; subst h; exact Try.ty28
  · simp only [Option.some.injEq] at h; subst h; exact Try.ty30
  · simp only [Option.some.injEq] at h; subst h; exact Try.ty31
  · simp only [Option.some.injEq] at h; subst h; exact Try.ty33
  · simp only [Option.some.injEq] at h; subst h; exact Try.ty35
  · simp only [Option.some.injEq] at h; subst h; exact Try.ty36
  · simp only [Option.some.injEq] at h; subst h; exact Try.ty37
  · simp only [Option.some.injEq] at h; subst h; exact Try.ty38
  · simp only [Option.some.injEq] at h; subst h; exact Try.ty39
  · simp only [Option.some.injEq] at h; subst h; exact Try.ty41
  · simp only [Option.some.injEq] at h; subst h; exact Try.ty42
  · simp only [Option.some.injEq] at h; subst h; exact Try.ty44
  · simp only [Option.some.injEq] at h; subst h; exact Try.ty45
  · simp only [Option.some.injEq] at h; subst h; exact Try.ty47
  · simp only [Option.some.injEq] at h; subst h; exact Try.ty48
  · simp only [Option.some.injEq] at h; subst h; exact Try.ty50
  · simp only [Option.some.injEq] at h; subst h; exact Try.ty51
  · simp only [Option.some.injEq] at h; subst h; exact Try.ty52
  · simp only [Option.some.injEq] at h; subst h; exact Try.ty54
  · simp only [Option.some.injEq] at h; subst h; exact Try.ty55
  · simp only [Option.some.injEq] at h; subst h; exact Try.ty56
  · simp only [Option.some.injEq] at h; subst h; exact Try.ty58
  · simp only [Option.some.injEq] at h; subst h; exact Try.ty59
  · simp only [Option.some.injEq] at h; subst h; exact Try.ty61
  · simp only [Option.some.injEq] at h; subst h; exact Try.ty63
  · simp only [Option.some.injEq] at h; subst h; exact Try.ty65
  · simp only [Option.some.injEq] at h; subst h; exact Try.ty67
  · simp only [Option.some.injEq] at h; subst h; exact Try.ty68
  · simp only [Option.some.injEq] at h; subst h; exact Try.ty69
  · simp only [Option.some.injEq] at h; subst h; exact Try.ty70
  · simp only [Option.some.injEq] at h; subst h; exact Try.ty72
  · simp only [Option.some.injEq] at h; subst h; exact Try.ty73
  · simp only [Option.some.injEq] at h; subst h; exact Try.ty74
  · simp only [Option.some.injEq] at h; subst h; exact Try.ty75
  · simp only [Option.some.injEq] at h; subst h; exact Try.ty76
  · simp only [Option.some.injEq] at h; subst h; exact Try.ty77
  · simp only [Option.some.injEq] at h; subst h; exact Try.ty78
  · simp only [Option.some.injEq] at h; subst h; exact Try.ty79
  · simp only [Option.some.injEq] at h; subst h; exact Try.ty80
  · simp only [Option.some.injEq] at h; subst h; exact Try.ty81
  · simp only [Option.some.injEq] at h; subst h; exact Try.ty83
  · simp only [Option.some.injEq] at h; subst h; exact Try.ty84
  · simp only [Option.some.injEq] at h; subst h; exact Try.ty85
  · simp only [Option.some.injEq] at h; subst h; exact Try.ty87
  · simp only [Option.some.injEq] at h; subst h; exact Try.ty88
  · simp only [Option.some.injEq] at h; subst h; exact Try.ty89
  · simp only [Option.some.injEq] at h; subst h; exact Try.ty90
  · simp only [Option.some.injEq] at h; subst h; exact Try.ty91
  · simp only [Option.some.injEq] at h; subst h; exact Try.ty92
  · simp only [Option.some.injEq] at h; subst h; exact Try.ty93
  · simp only [Option.some.injEq] at h; subst h; exact Try.ty94
  · simp only [Option.some.injEq] at h; subst h; exact Try.ty95
  · simp only [Option.some.injEq] at h; subst h; exact Try.ty96
  · simp only [Option.some.injEq] at h; subst h; exact Try.ty97
  · simp only [Option.some.injEq] at h; subst h; exact Try.ty98
  · simp only [Option.some.injEq] at h; subst h; exact Try.ty99
  · simp only [Option.some.injEq] at h; subst h; exact Try.ty101
  · simp only [Option.some.injEq] at h; subst h; exact Try.ty103
  · simp only [Option.some.injEq] at h; subst h; exact Try.ty104
  · simp only [Option.some.injEq] at h; subst h; exact Try.ty105
  · simp only [Option.some.injEq] at h; subst h; exact Try.ty106
  · simp only [Option.some.injEq] at h; subst h; exact Try.ty107
  · simp only [Option.some.injEq] at h; subst h; exact Try.ty108
  · simp only [Option.some.injEq] at h; subst h; exact Try.ty109
  · simp only [Option.some.injEq] at h; subst h; exact Try.ty110
  · simp only [Option.some.injEq] at h; subst h; exact Try.ty111
  · simp only [Option.some.injEq] at h; subst h; exact Try.ty113
  · simp only [Option.some.injEq] at h; subst h; exact Try.ty114
  · simp only [Option.some.injEq] at h; subst h; exact Try.ty115
  · simp only [Option.some.injEq] at h; subst h; exact Try.ty116
  · simp only [Option.some.injEq] at h; subst h; exact Try.ty117
  · simp only [Option.some.injEq] at h; subst h; exact Try.ty118
  · simp only [Option.some.injEq] at h; subst h; exact Try.ty119
  · simp only [Option.some.injEq] at h; subst h; exact Try.ty120
  · simp only [Option.some.injEq] at h; subst h; exact Try.ty121
  · simp only [Option.some.injEq] at h; subst h; exact Try.ty122
  · simp only [Option.some.injEq] at h; subst h; exact Try.ty123
  · simp only [Option.some.injEq] at h; subst h; exact Try.ty124
  · simp only [Option.some.injEq] at h; subst h; exact Try.ty125
  · simp only [Option.some.injEq] at h; subst h; exact Try.ty126
  · simp only [Option.some.injEq] at h; subst h; exact Try.ty127
  · simp only [Option.some.injEq] at h; subst h; exact Try.ty128
  · simp only [Option.some.injEq] at h; subst h; exact Try.ty129
  · simp only [Option.some.injEq] at h; subst h; exact Try.ty130
  · simp only [Option.some.injEq] at h; subst h; exact Try.ty131
  · simp only [Option.some.injEq] at h; subst h; exact Try.ty132
  · simp only [Option.some.injEq] at h; subst h; exact Try.ty133
  · simp only [Option.some.injEq] at h; subst h; exact Try.ty134
  · simp only [Option.some.injEq] at h; subst h; exact Try.ty135
  · simp only [Option.some.injEq] at h; subst h; exact Try.ty137
  · simp only [Option.some.injEq] at h; subst h; exact Try.ty138
  · simp only [Option.some.injEq] at h; subst h; exact Try.ty139
  · simp only [Option.some.injEq] at h; subst h; exact Try.ty140
  · simp only [Option.some.injEq] at h; subst h; exact Try.ty141
  · simp only [Option.some.injEq] at h; subst h; exact Try.ty142
  · simp only [Option.some.injEq] at h; subst h; exact Try.ty143
  · simp only [Option.some.injEq] at h; subst h; exact Try.ty144
  · simp only [Option.some.injEq] at h; subst h; exact Try.ty145
  · simp only [Option.some.injEq] at h; subst h; exact Try.ty146
  · simp only [Option.some.injEq] at h; subst h; exact Try.ty147
  · simp only [Option.some.injEq] at h; subst h; exact Try.ty148
  · simp only [Option.some.injEq] at h; subst h; exact Try.ty149
  · simp only [Option.some.injEq] at h; subst h; exact Try.ty150
  · simp only [Option.some.injEq] at h; subst h; exact Try.ty153
  · simp only [Option.some.injEq] at h; subst h; exact Try.ty156
  · simp only [Option.some.injEq] at h; subst h; exact Try.ty157
  · simp only [Option.some.injEq] at h; subst h; exact Try.ty160
  · simp only [Option.some.injEq] at h; subst h; exact Try.ty161
  · simp only [Option.some.injEq] at h; subst h; exact Try.ty167
  · simp at h
theorem Try.mixed : Try.prog.follows .mixedOrders = true := by kernel_rfl
end Go.Proofs.Yteicecbjahhjmaa
