/- Texts that the proof needs: Tab. -/
import Derived.Test.YtleejpddecjhcaaProg
import Derived.Test.YtleejpddecjhcaaP11RecordHears
import Derived.WalkKit
import Derived.WalkSpells
import Derived.KernelRfl
namespace Go.Proofs.Ytleejpddecjhcaa
open Go Go.Av
instance Try.glob : Glob := ⟨fun _ => none⟩
theorem Try.ty24 : TyOK Try.prog 24 ⟨2, 16, [.p (.v (.int .i64 0)), .p (.v (.int .i64 0))], .struct [(0, 3), (1, 3)], some [.int .i64, .int .i64]⟩ := by
 refine TyOK.of (z := .agg #[.int .i64 0, .int .i64 0]) (by kernel_rfl) rfl (by first | rfl | decide | (simp [Value.cells, zval, scal])) rfl ?_ ?_ ?_
 ·exact structOf_spec (by kernel_rfl)
 ·intro cs h; first | rfl | (simp at h)
 ·intro ks h; simp only [Option.some.injEq] at h; subst h; refine ⟨rfl, fun xs ys hx hy w => ⟨?_, by kernel_rfl⟩⟩
  obtain ⟨_, _, rfl, ⟨x0, rfl⟩, hx⟩ := hx; obtain ⟨_, _, rfl, ⟨x1, rfl⟩, hx⟩ := hx; subst hx
  obtain ⟨_, _, rfl, ⟨y0, rfl⟩, hy⟩ := hy; obtain ⟨_, _, rfl, ⟨y1, rfl⟩, hy⟩ := hy; subst hy
  show (Op.equalIn 10000 24 (.agg #[.int .i64 x0, .int .i64 x1]) (.agg #[.int .i64 y0, .int .i64 y1])).run Try.prog w = _
  go_simp
  simp only [ceq, veq]
  all_goals (repeat' split)
  all_goals simp_all
theorem Try.ty47 : TyOK Try.prog 47 ⟨7, 56, [.p (.v (.int .i64 0)), .p (.v (.int .i64 0)), .p (.v (.int .i64 0)), .p (.v (.int .i64 0)), .p (.v (.int .i64 0)), .p (.v (.int .i64 0)), .p (.v (.int .i64 0))], .struct [(0, 3), (1, 3), (2, 3), (3, 24), (5, 3), (6, 3)], some [.int .i64, .int .i64, .int .i64, .int .i64, .int .i64, .int .i64, .int .i64]⟩ := by
 refine TyOK.of (z := .agg #[.int .i64 0, .int .i64 0, .int .i64 0, .int .i64 0, .int .i64 0, .int .i64 0, .int .i64 0]) (by kernel_rfl) rfl (by first | rfl | decide | (simp [Value.cells, zval, scal])) rfl ?_ ?_ ?_
 ·exact structOf_spec (by kernel_rfl)
 ·intro cs h; first | rfl | (simp at h)
 ·intro ks h; simp only [Option.some.injEq] at h; subst h; refine ⟨rfl, fun xs ys hx hy w => ⟨?_, by kernel_rfl⟩⟩
  obtain ⟨_, _, rfl, ⟨x0, rfl⟩, hx⟩ := hx; obtain ⟨_, _, rfl, ⟨x1, rfl⟩, hx⟩ := hx; obtain ⟨_, _, rfl, ⟨x2, rfl⟩, hx⟩ := hx; obtain ⟨_, _, rfl, ⟨x3, rfl⟩, hx⟩ := hx; obtain ⟨_, _, rfl, ⟨x4, rfl⟩, hx⟩ := hx; obtain ⟨_, _, rfl, ⟨x5, rfl⟩, hx⟩ := hx; obtain ⟨_, _, rfl, ⟨x6, rfl⟩, hx⟩ := hx; subst hx
  obtain ⟨_, _, rfl, ⟨y0, rfl⟩, hy⟩ := hy; obtain ⟨_, _, rfl, ⟨y1, rfl⟩, hy⟩ := hy; obtain ⟨_, _, rfl, ⟨y2, rfl⟩, hy⟩ := hy; obtain ⟨_, _, rfl, ⟨y3, rfl⟩, hy⟩ := hy; obtain ⟨_, _, rfl, ⟨y4, rfl⟩, hy⟩ := hy; obtain ⟨_, _, rfl, ⟨y5, rfl⟩, hy⟩ := hy; obtain ⟨_, _, rfl, ⟨y6, rfl⟩, hy⟩ := hy; subst hy
  show (Op.equalIn 10000 47 (.agg #[.int .i64 x0, .int .i64 x1, .int .i64 x2, .int .i64 x3, .int .i64 x4, .int .i64 x5, .int .i64 x6]) (.agg #[.int .i64 y0, .int .i64 y1, .int .i64 y2, .int .i64 y3, .int .i64 y4, .int .i64 y5, .int .i64 y6])).run Try.prog w = _
  go_simp
  simp only [ceq, veq]
  all_goals (repeat' split)
  all_goals simp_all
theorem Try.ty78 : TyOK Try.prog 78 ⟨5, 56, [.p (.v (.string ByteArray.empty)), .p (.v (.string ByteArray.empty)), .p (.v (.int .i64 0)), .p (.v (.int .i64 0)), .p (.v (.int .i64 0))], .struct [(0, 9), (1, 9), (2, 3), (3, 3), (4, 3)], some [.str, .str, .int .i64, .int .i64, .int .i64]⟩ := by
 refine TyOK.of (z := .agg #[.string ByteArray.empty, .string ByteArray.empty, .int .i64 0, .int .i64 0, .int .i64 0]) (by kernel_rfl) rfl (by first | rfl | decide | (simp [Value.cells, zval, scal])) rfl ?_ ?_ ?_
 ·exact structOf_spec (by kernel_rfl)
 ·intro cs h; first | rfl | (simp at h)
 ·intro ks h; simp only [Option.some.injEq] at h; subst h; refine ⟨rfl, fun xs ys hx hy w => ⟨?_, by kernel_rfl⟩⟩
  obtain ⟨_, _, rfl, ⟨x0, rfl⟩, hx⟩ := hx; obtain ⟨_, _, rfl, ⟨x1, rfl⟩, hx⟩ := hx; obtain ⟨_, _, rfl, ⟨x2, rfl⟩, hx⟩ := hx; obtain ⟨_, _, rfl, ⟨x3, rfl⟩, hx⟩ := hx; obtain ⟨_, _, rfl, ⟨x4, rfl⟩, hx⟩ := hx; subst hx
  obtain ⟨_, _, rfl, ⟨y0, rfl⟩, hy⟩ := hy; obtain ⟨_, _, rfl, ⟨y1, rfl⟩, hy⟩ := hy; obtain ⟨_, _, rfl, ⟨y2, rfl⟩, hy⟩ := hy; obtain ⟨_, _, rfl, ⟨y3, rfl⟩, hy⟩ := hy; obtain ⟨_, _, rfl, ⟨y4, rfl⟩, hy⟩ := hy; subst hy
  show (Op.equalIn 10000 78 (.agg #[.string x0, .string x1, .int .i64 x2, .int .i64 x3, .int .i64 x4]) (.agg #[.string y0, .string y1, .int .i64 y2, .int .i64 y3, .int .i64 y4])).run Try.prog w = _
  go_simp
  simp only [ceq, veq]
  all_goals (repeat' split)
  all_goals simp_all
theorem Try.ty82 : TyOK Try.prog 82 ⟨4, 32, [.p (.v (.int .i64 0)), .p (.v (.int .i64 0)), .p (.v (.int .i64 0)), .p (.v (.int .i64 0))], .struct [(0, 3), (1, 3), (2, 3), (3, 3)], some [.int .i64, .int .i64, .int .i64, .int .i64]⟩ := by
 refine TyOK.of (z := .agg #[.int .i64 0, .int .i64 0, .int .i64 0, .int .i64 0]) (by kernel_rfl) rfl (by first | rfl | decide | (simp [Value.cells, zval, scal])) rfl ?_ ?_ ?_
 ·exact structOf_spec (by kernel_rfl)
 ·intro cs h; first | rfl | (simp at h)
 ·intro ks h; simp only [Option.some.injEq] at h; subst h; refine ⟨rfl, fun xs ys hx hy w => ⟨?_, by kernel_rfl⟩⟩
  obtain ⟨_, _, rfl, ⟨x0, rfl⟩, hx⟩ := hx; obtain ⟨_, _, rfl, ⟨x1, rfl⟩, hx⟩ := hx; obtain ⟨_, _, rfl, ⟨x2, rfl⟩, hx⟩ := hx; obtain ⟨_, _, rfl, ⟨x3, rfl⟩, hx⟩ := hx; subst hx
  obtain ⟨_, _, rfl, ⟨y0, rfl⟩, hy⟩ := hy; obtain ⟨_, _, rfl, ⟨y1, rfl⟩, hy⟩ := hy; obtain ⟨_, _, rfl, ⟨y2, rfl⟩, hy⟩ := hy; obtain ⟨_, _, rfl, ⟨y3, rfl⟩, hy⟩ := hy; subst hy
  show (Op.equalIn 10000 82 (.agg #[.int .i64 x0, .int .i64 x1, .int .i64 x2, .int .i64 x3]) (.agg #[.int .i64 y0, .int .i64 y1, .int .i64 y2, .int .i64 y3])).run Try.prog w = _
  go_simp
  simp only [ceq, veq]
  all_goals (repeat' split)
  all_goals simp_all
theorem Try.ty111 : TyOK Try.prog 111 ⟨6, 56, [.p (.v (.int .i64 0)), .p (.v (.string ByteArray.empty)), .p (.v (.string ByteArray.empty)), .p (.v (.int .i64 0)), .p (.v (.bool false)), .p (.v (.bool false))], .struct [(0, 3), (1, 9), (2, 9), (3, 3), (4, 4), (5, 4)], some [.int .i64, .str, .str, .int .i64, .bool, .bool]⟩ := by
 refine TyOK.of (z := .agg #[.int .i64 0, .string ByteArray.empty, .string ByteArray.empty, .int .i64 0, .bool false, .bool false]) (by kernel_rfl) rfl (by first | rfl | decide | (simp [Value.cells, zval, scal])) rfl ?_ ?_ ?_
 ·exact structOf_spec (by kernel_rfl)
 ·intro cs h; first | rfl | (simp at h)
 ·intro ks h; simp only [Option.some.injEq] at h; subst h; refine ⟨rfl, fun xs ys hx hy w => ⟨?_, by kernel_rfl⟩⟩
  obtain ⟨_, _, rfl, ⟨x0, rfl⟩, hx⟩ := hx; obtain ⟨_, _, rfl, ⟨x1, rfl⟩, hx⟩ := hx; obtain ⟨_, _, rfl, ⟨x2, rfl⟩, hx⟩ := hx; obtain ⟨_, _, rfl, ⟨x3, rfl⟩, hx⟩ := hx; obtain ⟨_, _, rfl, ⟨x4, rfl⟩, hx⟩ := hx; obtain ⟨_, _, rfl, ⟨x5, rfl⟩, hx⟩ := hx; subst hx
  obtain ⟨_, _, rfl, ⟨y0, rfl⟩, hy⟩ := hy; obtain ⟨_, _, rfl, ⟨y1, rfl⟩, hy⟩ := hy; obtain ⟨_, _, rfl, ⟨y2, rfl⟩, hy⟩ := hy; obtain ⟨_, _, rfl, ⟨y3, rfl⟩, hy⟩ := hy; obtain ⟨_, _, rfl, ⟨y4, rfl⟩, hy⟩ := hy; obtain ⟨_, _, rfl, ⟨y5, rfl⟩, hy⟩ := hy; subst hy
  show (Op.equalIn 10000 111 (.agg #[.int .i64 x0, .string x1, .string x2, .int .i64 x3, .bool x4, .bool x5]) (.agg #[.int .i64 y0, .string y1, .string y2, .int .i64 y3, .bool y4, .bool y5])).run Try.prog w = _
  go_simp
  simp only [ceq, veq]
  all_goals (repeat' split)
  all_goals simp_all
def Try.T : TypeId -> Option Ty
 | 1 => some ⟨1, 8, [.p (.v .nilFunc)], .sc, none⟩
 | 2 => some ⟨1, 8, [.p (.v (.int .i64 0))], .int .i64, none⟩
 | 3 => some ⟨1, 8, [.p (.v (.int .i64 0))], .int .i64, none⟩
 | 4 => some ⟨1, 1, [.p (.v (.bool false))], .bool, none⟩
 | 5 => some ⟨1, 1, [.p (.v (.int .u8 0))], .int .u8, none⟩
 | 9 => some ⟨1, 16, [.p (.v (.string ByteArray.empty))], .str, none⟩
 | 12 => some ⟨1, 8, [.p (.v (.int .u64 0))], .int .u64, none⟩
 | 15 => some ⟨1, 8, [.p (.v (.pointer none))], .sc, none⟩
 | 16 => some ⟨1, 8, [.p (.v (.pointer none))], .sc, none⟩
 | 17 => some ⟨1, 8, [.p (.v (.pointer none))], .sc, none⟩
 | 21 => some ⟨1, 4, [.p (.v (.int .i32 0))], .int .i32, none⟩
 | 22 => some ⟨1, 24, [.nil 1], .slice 5, none⟩
 | 24 => some ⟨2, 16, [.p (.v (.int .i64 0)), .p (.v (.int .i64 0))], .struct [(0, 3), (1, 3)], some [.int .i64, .int .i64]⟩
 | 25 => some ⟨1, 8, [.p (.v (.int .i64 0))], .int .i64, none⟩
 | 26 => some ⟨1, 24, [.nil 11], .slice 80, none⟩
 | 28 => some ⟨8, 88, [.p (.v (.int .i64 0)), .p (.v (.int .i64 0)), .p (.v (.int .i64 0)), .p (.v (.int .i64 0)), .p (.v (.int .i64 0)), .p (.v (.int .i64 0)), .p (.v (.string ByteArray.empty)), .nil 11], .struct [(0, 24), (2, 3), (3, 3), (4, 25), (5, 3), (6, 9), (7, 26)], none⟩
 | 29 => some ⟨1, 24, [.nil 5], .slice 78, none⟩
 | 30 => some ⟨1, 24, [.nil 1], .slice 3, none⟩
 | 31 => some ⟨1, 24, [.nil 4], .slice 82, none⟩
 | 33 => some ⟨4, 48, [.p (.v (.int .i64 0)), .p (.v (.int .i64 0)), .p (.v (.int .i64 0)), .nil 4], .struct [(0, 24), (2, 3), (3, 31)], none⟩
 | 35 => some ⟨9, 120, [.nil 5, .nil 1, .p (.v (.int .i64 0)), .p (.v (.int .i64 0)), .p (.v (.int .i64 0)), .p (.v (.int .i64 0)), .nil 4, .p (.v (.int .i64 0)), .p (.v (.int .i64 0))], .struct [(0, 29), (1, 30), (2, 3), (3, 33), (7, 24)], none⟩
 | 36 => some ⟨1, 8, [.p (.v .nilFunc)], .sc, none⟩
 | 37 => some ⟨1, 8, [.p (.v .nilFunc)], .sc, none⟩
 | 38 => some ⟨1, 24, [.nil 8], .slice 28, none⟩
 | 39 => some ⟨1, 8, [.p (.v .nilFunc)], .sc, none⟩
 | 40 => some ⟨1, 8, [.p (.v .nilFunc)], .sc, none⟩
 | 41 => some ⟨1, 8, [.p (.v .nilFunc)], .sc, none⟩
 | 42 => some ⟨1, 8, [.p (.v .nilFunc)], .sc, none⟩
 | 43 => some ⟨1, 8, [.p (.v .nilFunc)], .sc, none⟩
 | 44 => some ⟨1, 8, [.p (.v .nilFunc)], .sc, none⟩
 | 45 => some ⟨1, 8, [.p (.v .nilFunc)], .sc, none⟩
 | 47 => some ⟨7, 56, [.p (.v (.int .i64 0)), .p (.v (.int .i64 0)), .p (.v (.int .i64 0)), .p (.v (.int .i64 0)), .p (.v (.int .i64 0)), .p (.v (.int .i64 0)), .p (.v (.int .i64 0))], .struct [(0, 3), (1, 3), (2, 3), (3, 24), (5, 3), (6, 3)], some [.int .i64, .int .i64, .int .i64, .int .i64, .int .i64, .int .i64, .int .i64]⟩
 | 48 => some ⟨1, 24, [.nil 2], .slice 24, none⟩
 | 50 => some ⟨13, 168, [.p (.v (.int .i64 0)), .p (.v (.int .i64 0)), .p (.v (.int .i64 0)), .nil 5, .nil 1, .p (.v (.int .i64 0)), .p (.v (.int .i64 0)), .p (.v (.int .i64 0)), .p (.v (.int .i64 0)), .nil 4, .p (.v (.int .i64 0)), .p (.v (.int .i64 0)), .nil 8], .struct [(0, 3), (1, 24), (3, 35), (12, 38)], none⟩
 | 51 => some ⟨1, 24, [.nil 6], .slice 111, none⟩
 | 53 => some ⟨3, 56, [.p (.v (.int .i64 0)), .nil 4, .nil 1], .struct [(0, 3), (1, 31), (2, 30)], none⟩
 | 55 => some ⟨9, 120, [.p (.v (.int .i64 0)), .p (.v (.int .i64 0)), .p (.v (.int .i64 0)), .nil 6, .p (.v (.int .i64 0)), .nil 4, .nil 1, .p (.v (.int .i64 0)), .p (.v (.int .i64 0))], .struct [(0, 3), (1, 3), (2, 3), (3, 51), (4, 53), (7, 24)], none⟩
 | 57 => some ⟨46, 536, [.p (.v (.int .i64 0)), .p (.v (.int .i64 0)), .p (.v (.int .i64 0)), .p (.v (.int .i64 0)), .p (.v (.int .i64 0)), .p (.v (.int .i64 0)), .p (.v (.int .i64 0)), .p (.v (.int .i64 0)), .p (.v (.int .i64 0)), .p (.v (.int .i64 0)), .p (.v (.int .i64 0)), .p (.v (.int .i64 0)), .p (.v (.int .i64 0)), .p (.v (.int .i64 0)), .nil 2, .p (.v (.int .i64 0)), .p (.v (.int .i64 0)), .p (.v (.int .i64 0)), .nil 5, .nil 1, .p (.v (.int .i64 0)), .p (.v (.int .i64 0)), .p (.v (.int .i64 0)), .p (.v (.int .i64 0)), .nil 4, .p (.v (.int .i64 0)), .p (.v (.int .i64 0)), .nil 8, .p (.v (.int .i64 0)), .p (.v (.int .i64 0)), .p (.v (.int .i64 0)), .p (.v (.int .i64 0)), .p (.v (.int .i64 0)), .p (.v (.int .i64 0)), .p (.v (.string ByteArray.empty)), .nil 11, .nil 1, .p (.v (.int .i64 0)), .p (.v (.int .i64 0)), .p (.v (.int .i64 0)), .nil 6, .p (.v (.int .i64 0)), .nil 4, .nil 1, .p (.v (.int .i64 0)), .p (.v (.int .i64 0))], .struct [(0, 3), (1, 3), (2, 3), (3, 47), (10, 3), (11, 3), (12, 24), (14, 48), (15, 50), (28, 28), (36, 30), (37, 55)], none⟩
 | 58 => some ⟨1, 8, [.p (.v .nilFunc)], .sc, none⟩
 | 59 => some ⟨1, 8, [.p (.v .nilFunc)], .sc, none⟩
 | 60 => some ⟨1, 8, [.p (.v .nilFunc)], .sc, none⟩
 | 61 => some ⟨1, 8, [.p (.v .nilFunc)], .sc, none⟩
 | 63 => some ⟨1, 8, [.p (.v .nilFunc)], .sc, none⟩
 | 64 => some ⟨1, 8, [.p (.v .nilFunc)], .sc, none⟩
 | 66 => some ⟨1, 8, [.p (.v .nilFunc)], .sc, none⟩
 | 67 => some ⟨1, 8, [.p (.v .nilFunc)], .sc, none⟩
 | 69 => some ⟨1, 8, [.p (.v .nilFunc)], .sc, none⟩
 | 70 => some ⟨1, 8, [.p (.v .nilFunc)], .sc, none⟩
 | 71 => some ⟨1, 8, [.p (.v .nilFunc)], .sc, none⟩
 | 73 => some ⟨1, 8, [.p (.v .nilFunc)], .sc, none⟩
 | 75 => some ⟨1, 8, [.p (.v .nilFunc)], .sc, none⟩
 | 76 => some ⟨1, 8, [.p (.v .nilFunc)], .sc, none⟩
 | 78 => some ⟨5, 56, [.p (.v (.string ByteArray.empty)), .p (.v (.string ByteArray.empty)), .p (.v (.int .i64 0)), .p (.v (.int .i64 0)), .p (.v (.int .i64 0))], .struct [(0, 9), (1, 9), (2, 3), (3, 3), (4, 3)], some [.str, .str, .int .i64, .int .i64, .int .i64]⟩
 | 80 => some ⟨11, 120, [.p (.v (.int .i64 0)), .p (.v (.string ByteArray.empty)), .p (.v (.string ByteArray.empty)), .p (.v (.int .i64 0)), .p (.v (.int .i64 0)), .p (.v (.int .i64 0)), .p (.v (.int .i64 0)), .p (.v (.int .i64 0)), .p (.v (.int .i64 0)), .p (.v (.int .i64 0)), .nil 4], .struct [(0, 3), (1, 78), (6, 3), (7, 33)], none⟩
 | 82 => some ⟨4, 32, [.p (.v (.int .i64 0)), .p (.v (.int .i64 0)), .p (.v (.int .i64 0)), .p (.v (.int .i64 0))], .struct [(0, 3), (1, 3), (2, 3), (3, 3)], some [.int .i64, .int .i64, .int .i64, .int .i64]⟩
 | 83 => some ⟨1, 8, [.p (.v .nilFunc)], .sc, none⟩
 | 84 => some ⟨1, 8, [.p (.v .nilFunc)], .sc, none⟩
 | 85 => some ⟨1, 8, [.p (.v .nilFunc)], .sc, none⟩
 | 86 => some ⟨1, 8, [.p (.v (.pointer none))], .sc, none⟩
 | 87 => some ⟨1, 8, [.p (.v .nilFunc)], .sc, none⟩
 | 88 => some ⟨1, 8, [.p (.v .nilFunc)], .sc, none⟩
 | 89 => some ⟨1, 8, [.p (.v .nilFunc)], .sc, none⟩
 | 90 => some ⟨1, 8, [.p (.v .nilFunc)], .sc, none⟩
 | 91 => some ⟨1, 8, [.p (.v .nilFunc)], .sc, none⟩
 | 92 => some ⟨1, 8, [.p (.v .nilFunc)], .sc, none⟩
 | 93 => some ⟨1, 8, [.p (.v .nilFunc)], .sc, none⟩
 | 94 => some ⟨1, 8, [.p (.v .nilFunc)], .sc, none⟩
 | 95 => some ⟨1, 8, [.p (.v .nilFunc)], .sc, none⟩
 | 96 => some ⟨1, 8, [.p (.v .nilFunc)], .sc, none⟩
 | 97 => some ⟨1, 8, [.p (.v .nilFunc)], .sc, none⟩
 | 98 => some ⟨1, 8, [.p (.v .nilFunc)], .sc, none⟩
 | 99 => some ⟨1, 8, [.p (.v .nilFunc)], .sc, none⟩
 | 100 => some ⟨1, 8, [.p (.v .nilFunc)], .sc, none⟩
 | 101 => some ⟨1, 8, [.p (.v .nilFunc)], .sc, none⟩
 | 102 => some ⟨1, 8, [.p (.v .nilFunc)], .sc, none⟩
 | 103 => some ⟨1, 8, [.p (.v .nilFunc)], .sc, none⟩
 | 104 => some ⟨1, 8, [.p (.v .nilFunc)], .sc, none⟩
 | 105 => some ⟨1, 8, [.p (.v .nilFunc)], .sc, none⟩
 | 106 => some ⟨1, 8, [.p (.v .nilFunc)], .sc, none⟩
 | 107 => some ⟨1, 8, [.p (.v .nilFunc)], .sc, none⟩
 | 108 => some ⟨1, 8, [.p (.v .nilFunc)], .sc, none⟩
 | 109 => some ⟨1, 8, [.p (.v .nilFunc)], .sc, none⟩
 | 111 => some ⟨6, 56, [.p (.v (.int .i64 0)), .p (.v (.string ByteArray.empty)), .p (.v (.string ByteArray.empty)), .p (.v (.int .i64 0)), .p (.v (.bool false)), .p (.v (.bool false))], .struct [(0, 3), (1, 9), (2, 9), (3, 3), (4, 4), (5, 4)], some [.int .i64, .str, .str, .int .i64, .bool, .bool]⟩
 | 112 => some ⟨1, 8, [.p (.v .nilFunc)], .sc, none⟩
 | 113 => some ⟨1, 8, [.p (.v .nilFunc)], .sc, none⟩
 | 114 => some ⟨1, 8, [.p (.v .nilFunc)], .sc, none⟩
 | 115 => some ⟨1, 8, [.p (.v .nilFunc)], .sc, none⟩
 | 116 => some ⟨1, 8, [.p (.v (.pointer none))], .sc, none⟩
 | 117 => some ⟨1, 8, [.p (.v (.pointer none))], .sc, none⟩
 | 119 => some ⟨3, 40, [.nil 1, .p (.v (.int .i64 0)), .p (.v (.int .i64 0))], .struct [(0, 22), (1, 3), (2, 25)], none⟩
 | 120 => some ⟨1, 8, [.p (.v .nilFunc)], .sc, none⟩
 | 121 => some ⟨1, 8, [.p (.v .nilFunc)], .sc, none⟩
 | 122 => some ⟨1, 8, [.p (.v .nilFunc)], .sc, none⟩
 | 123 => some ⟨1, 8, [.p (.v .nilFunc)], .sc, none⟩
 | 124 => some ⟨1, 8, [.p (.v .nilFunc)], .sc, none⟩
 | 125 => some ⟨1, 8, [.p (.v .nilFunc)], .sc, none⟩
 | 126 => some ⟨1, 8, [.p (.v .nilFunc)], .sc, none⟩
 | 127 => some ⟨1, 8, [.p (.v .nilFunc)], .sc, none⟩
 | 128 => some ⟨1, 8, [.p (.v .nilFunc)], .sc, none⟩
 | 129 => some ⟨1, 8, [.p (.v .nilFunc)], .sc, none⟩
 | 130 => some ⟨1, 8, [.p (.v .nilFunc)], .sc, none⟩
 | 131 => some ⟨1, 8, [.p (.v .nilFunc)], .sc, none⟩
 | 132 => some ⟨1, 8, [.p (.v .nilFunc)], .sc, none⟩
 | 133 => some ⟨1, 8, [.p (.v .nilFunc)], .sc, none⟩
 | 134 => some ⟨1, 8, [.p (.v .nilFunc)], .sc, none⟩
 | 136 => some ⟨1, 24, [.nil 1], .struct [(0, 22)], none⟩
 | 137 => some ⟨1, 8, [.p (.v .nilFunc)], .sc, none⟩
 | 138 => some ⟨1, 8, [.p (.v .nilFunc)], .sc, none⟩
 | 139 => some ⟨1, 8, [.p (.v .nilFunc)], .sc, none⟩
 | 140 => some ⟨1, 8, [.p (.v .nilFunc)], .sc, none⟩
 | 141 => some ⟨1, 8, [.p (.v .nilFunc)], .sc, none⟩
 | 142 => some ⟨1, 8, [.p (.v (.int .u64 0))], .int .u64, none⟩
 | 143 => some ⟨1, 8, [.p (.v (.int .u64 0))], .int .u64, none⟩
 | 144 => some ⟨1, 8, [.p (.v .nilFunc)], .sc, none⟩
 | 145 => some ⟨1, 8, [.p (.v .nilFunc)], .sc, none⟩
 | 146 => some ⟨1, 8, [.p (.v .nilFunc)], .sc, none⟩
 | 147 => some ⟨1, 8, [.p (.v .nilFunc)], .sc, none⟩
 | 148 => some ⟨1, 8, [.p (.v .nilFunc)], .sc, none⟩
 | 149 => some ⟨1, 8, [.p (.v .nilFunc)], .sc, none⟩
 | 150 => some ⟨1, 8, [.p (.v .nilFunc)], .sc, none⟩
 | 151 => some ⟨1, 8, [.p (.v .nilFunc)], .sc, none⟩
 | 152 => some ⟨1, 8, [.p (.v .nilFunc)], .sc, none⟩
 | 153 => some ⟨1, 8, [.p (.v .nilFunc)], .sc, none⟩
 | 154 => some ⟨1, 8, [.p (.v .nilFunc)], .sc, none⟩
 | 155 => some ⟨1, 8, [.p (.v .nilFunc)], .sc, none⟩
 | 156 => some ⟨1, 8, [.p (.v .nilFunc)], .sc, none⟩
 | 157 => some ⟨1, 8, [.p (.v .nilFunc)], .sc, none⟩
 | 158 => some ⟨1, 8, [.p (.v .nilFunc)], .sc, none⟩
 | 160 => some ⟨2, 32, [.nil 1, .p (.v (.int .i64 0))], .struct [(0, 22), (1, 3)], none⟩
 | 161 => some ⟨1, 8, [.p (.v .nilFunc)], .sc, none⟩
 | 162 => some ⟨1, 8, [.p (.v .nilFunc)], .sc, none⟩
 | 163 => some ⟨1, 8, [.p (.v .nilFunc)], .sc, none⟩
 | 164 => some ⟨1, 8, [.p (.v .nilFunc)], .sc, none⟩
 | 165 => some ⟨1, 8, [.p (.v .nilFunc)], .sc, none⟩
 | 166 => some ⟨1, 8, [.p (.v .nilFunc)], .sc, none⟩
 | 167 => some ⟨1, 8, [.p (.v .nilFunc)], .sc, none⟩
 | 168 => some ⟨1, 8, [.p (.v .nilFunc)], .sc, none⟩
 | 169 => some ⟨1, 8, [.p (.v .nilFunc)], .sc, none⟩
 | 170 => some ⟨1, 8, [.p (.v .nilFunc)], .sc, none⟩
 | 171 => some ⟨1, 8, [.p (.v .nilFunc)], .sc, none⟩
 | 172 => some ⟨1, 8, [.p (.v .nilFunc)], .sc, none⟩
 | 173 => some ⟨1, 8, [.p (.v .nilFunc)], .sc, none⟩
 | 174 => some ⟨1, 8, [.p (.v .nilFunc)], .sc, none⟩
 | 175 => some ⟨1, 8, [.p (.v .nilFunc)], .sc, none⟩
 | 176 => some ⟨1, 8, [.p (.v .nilFunc)], .sc, none⟩
 | 177 => some ⟨1, 8, [.p (.v .nilFunc)], .sc, none⟩
 | 178 => some ⟨1, 8, [.p (.v .nilFunc)], .sc, none⟩
 | 179 => some ⟨1, 8, [.p (.v .nilFunc)], .sc, none⟩
 | 180 => some ⟨1, 8, [.p (.v .nilFunc)], .sc, none⟩
 | 181 => some ⟨1, 8, [.p (.v .nilFunc)], .sc, none⟩
 | 182 => some ⟨1, 8, [.p (.v .nilFunc)], .sc, none⟩
 | 183 => some ⟨1, 8, [.p (.v .nilFunc)], .sc, none⟩
 | 184 => some ⟨1, 8, [.p (.v .nilFunc)], .sc, none⟩
 | 185 => some ⟨1, 8, [.p (.v .nilFunc)], .sc, none⟩
 | 186 => some ⟨1, 8, [.p (.v .nilFunc)], .sc, none⟩
 | 187 => some ⟨1, 8, [.p (.v .nilFunc)], .sc, none⟩
 | 188 => some ⟨1, 8, [.p (.v .nilFunc)], .sc, none⟩
 | 189 => some ⟨1, 8, [.p (.v .nilFunc)], .sc, none⟩
 | 190 => some ⟨1, 8, [.p (.v .nilFunc)], .sc, none⟩
 | 191 => some ⟨1, 8, [.p (.v .nilFunc)], .sc, none⟩
 | 192 => some ⟨1, 8, [.p (.v (.int .i64 0))], .int .i64, none⟩
 | 194 => some ⟨1, 8, [.p (.v .nilFunc)], .sc, none⟩
 | 195 => some ⟨1, 8, [.p (.v .nilFunc)], .sc, none⟩
 | 197 => some ⟨1, 8, [.p (.v .nilFunc)], .sc, none⟩
 | 198 => some ⟨1, 8, [.p (.v .nilFunc)], .sc, none⟩
 | 199 => some ⟨1, 8, [.p (.v .nilFunc)], .sc, none⟩
 | 200 => some ⟨1, 8, [.p (.v .nilFunc)], .sc, none⟩
 | 201 => some ⟨1, 8, [.p (.v (.pointer none))], .sc, none⟩
 | 202 => some ⟨1, 8, [.p (.v .nilFunc)], .sc, none⟩
 | 203 => some ⟨1, 8, [.p (.v .nilFunc)], .sc, none⟩
 | 205 => some ⟨2, 32, [.nil 1, .p (.v (.int .i64 0))], .struct [(0, 22), (1, 3)], none⟩
 | 206 => some ⟨1, 8, [.p (.v .nilFunc)], .sc, none⟩
 | 209 => some ⟨0, 0, [], .array 0 16, none⟩
 | 212 => some ⟨1, 4, [.p (.v (.int .u32 0))], .int .u32, none⟩
 | 215 => some ⟨1, 8, [.p (.v .nilFunc)], .sc, none⟩
 | 216 => some ⟨1, 8, [.p (.v (.pointer none))], .sc, none⟩
 | _ => none
@[simp] theorem Try.T1 : Try.T 1 = some ⟨1, 8, [.p (.v .nilFunc)], .sc, none⟩ := rfl
@[simp] theorem Try.T2 : Try.T 2 = some ⟨1, 8, [.p (.v (.int .i64 0))], .int .i64, none⟩ := rfl
@[simp] theorem Try.T3 : Try.T 3 = some ⟨1, 8, [.p (.v (.int .i64 0))], .int .i64, none⟩ := rfl
@[simp] theorem Try.T4 : Try.T 4 = some ⟨1, 1, [.p (.v (.bool false))], .bool, none⟩ := rfl
@[simp] theorem Try.T5 : Try.T 5 = some ⟨1, 1, [.p (.v (.int .u8 0))], .int .u8, none⟩ := rfl
@[simp] theorem Try.T9 : Try.T 9 = some ⟨1, 16, [.p (.v (.string ByteArray.empty))], .str, none⟩ := rfl
@[simp] theorem Try.T12 : Try.T 12 = some ⟨1, 8, [.p (.v (.int .u64 0))], .int .u64, none⟩ := rfl
@[simp] theorem Try.T15 : Try.T 15 = some ⟨1, 8, [.p (.v (.pointer none))], .sc, none⟩ := rfl
@[simp] theorem Try.T16 : Try.T 16 = some ⟨1, 8, [.p (.v (.pointer none))], .sc, none⟩ := rfl
@[simp] theorem Try.T17 : Try.T 17 = some ⟨1, 8, [.p (.v (.pointer none))], .sc, none⟩ := rfl
@[simp] theorem Try.T21 : Try.T 21 = some ⟨1, 4, [.p (.v (.int .i32 0))], .int .i32, none⟩ := rfl
@[simp] theorem Try.T22 : Try.T 22 = some ⟨1, 24, [.nil 1], .slice 5, none⟩ := rfl
@[simp] theorem Try.T24 : Try.T 24 = some ⟨2, 16, [.p (.v (.int .i64 0)), .p (.v (.int .i64 0))], .struct [(0, 3), (1, 3)], some [.int .i64, .int .i64]⟩ := rfl
@[simp] theorem Try.T25 : Try.T 25 = some ⟨1, 8, [.p (.v (.int .i64 0))], .int .i64, none⟩ := rfl
@[simp] theorem Try.T26 : Try.T 26 = some ⟨1, 24, [.nil 11], .slice 80, none⟩ := rfl
@[simp] theorem Try.T28 : Try.T 28 = some ⟨8, 88, [.p (.v (.int .i64 0)), .p (.v (.int .i64 0)), .p (.v (.int .i64 0)), .p (.v (.int .i64 0)), .p (.v (.int .i64 0)), .p (.v (.int .i64 0)), .p (.v (.string ByteArray.empty)), .nil 11], .struct [(0, 24), (2, 3), (3, 3), (4, 25), (5, 3), (6, 9), (7, 26)], none⟩ := rfl
@[simp] theorem Try.T29 : Try.T 29 = some ⟨1, 24, [.nil 5], .slice 78, none⟩ := rfl
@[simp] theorem Try.T30 : Try.T 30 = some ⟨1, 24, [.nil 1], .slice 3, none⟩ := rfl
@[simp] theorem Try.T31 : Try.T 31 = some ⟨1, 24, [.nil 4], .slice 82, none⟩ := rfl
@[simp] theorem Try.T33 : Try.T 33 = some ⟨4, 48, [.p (.v (.int .i64 0)), .p (.v (.int .i64 0)), .p (.v (.int .i64 0)), .nil 4], .struct [(0, 24), (2, 3), (3, 31)], none⟩ := rfl
@[simp] theorem Try.T35 : Try.T 35 = some ⟨9, 120, [.nil 5, .nil 1, .p (.v (.int .i64 0)), .p (.v (.int .i64 0)), .p (.v (.int .i64 0)), .p (.v (.int .i64 0)), .nil 4, .p (.v (.int .i64 0)), .p (.v (.int .i64 0))], .struct [(0, 29), (1, 30), (2, 3), (3, 33), (7, 24)], none⟩ := rfl
@[simp] theorem Try.T36 : Try.T 36 = some ⟨1, 8, [.p (.v .nilFunc)], .sc, none⟩ := rfl
@[simp] theorem Try.T37 : Try.T 37 = some ⟨1, 8, [.p (.v .nilFunc)], .sc, none⟩ := rfl
@[simp] theorem Try.T38 : Try.T 38 = some ⟨1, 24, [.nil 8], .slice 28, none⟩ := rfl
@[simp] theorem Try.T39 : Try.T 39 = some ⟨1, 8, [.p (.v .nilFunc)], .sc, none⟩ := rfl
@[simp] theorem Try.T40 : Try.T 40 = some ⟨1, 8, [.p (.v .nilFunc)], .sc, none⟩ := rfl
@[simp] theorem Try.T41 : Try.T 41 = some ⟨1, 8, [.p (.v .nilFunc)], .sc, none⟩ := rfl
@[simp] theorem Try.T42 : Try.T 42 = some ⟨1, 8, [.p (.v .nilFunc)], .sc, none⟩ := rfl
@[simp] theorem Try.T43 : Try.T 43 = some ⟨1, 8, [.p (.v .nilFunc)], .sc, none⟩ := rfl
@[simp] theorem Try.T44 : Try.T 44 = some ⟨1, 8, [.p (.v .nilFunc)], .sc, none⟩ := rfl
@[simp] theorem Try.T45 : Try.T 45 = some ⟨1, 8, [.p (.v .nilFunc)], .sc, none⟩ := rfl
@[simp] theorem Try.T47 : Try.T 47 = some ⟨7, 56, [.p (.v (.int .i64 0)), .p (.v (.int .i64 0)), .p (.v (.int .i64 0)), .p (.v (.int .i64 0)), .p (.v (.int .i64 0)), .p (.v (.int .i64 0)), .p (.v (.int .i64 0))], .struct [(0, 3), (1, 3), (2, 3), (3, 24), (5, 3), (6, 3)], some [.int .i64, .int .i64, .int .i64, .int .i64, .int .i64, .int .i64, .int .i64]⟩ := rfl
@[simp] theorem Try.T48 : Try.T 48 = some ⟨1, 24, [.nil 2], .slice 24, none⟩ := rfl
@[simp] theorem Try.T50 : Try.T 50 = some ⟨13, 168, [.p (.v (.int .i64 0)), .p (.v (.int .i64 0)), .p (.v (.int .i64 0)), .nil 5, .nil 1, .p (.v (.int .i64 0)), .p (.v (.int .i64 0)), .p (.v (.int .i64 0)), .p (.v (.int .i64 0)), .nil 4, .p (.v (.int .i64 0)), .p (.v (.int .i64 0)), .nil 8], .struct [(0, 3), (1, 24), (3, 35), (12, 38)], none⟩ := rfl
@[simp] theorem Try.T51 : Try.T 51 = some ⟨1, 24, [.nil 6], .slice 111, none⟩ := rfl
@[simp] theorem Try.T53 : Try.T 53 = some ⟨3, 56, [.p (.v (.int .i64 0)), .nil 4, .nil 1], .struct [(0, 3), (1, 31), (2, 30)], none⟩ := rfl
@[simp] theorem Try.T55 : Try.T 55 = some ⟨9, 120, [.p (.v (.int .i64 0)), .p (.v (.int .i64 0)), .p (.v (.int .i64 0)), .nil 6, .p (.v (.int .i64 0)), .nil 4, .nil 1, .p (.v (.int .i64 0)), .p (.v (.int .i64 0))], .struct [(0, 3), (1, 3), (2, 3), (3, 51), (4, 53), (7, 24)], none⟩ := rfl
@[simp] theorem Try.T57 : Try.T 57 = some ⟨46, 536, [.p (.v (.int .i64 0)), .p (.v (.int .i64 0)), .p (.v (.int .i64 0)), .p (.v (.int .i64 0)), .p (.v (.int .i64 0)), .p (.v (.int .i64 0)), .p (.v (.int .i64 0)), .p (.v (.int .i64 0)), .p (.v (.int .i64 0)), .p (.v (.int .i64 0)), .p (.v (.int .i64 0)), .p (.v (.int .i64 0)), .p (.v (.int .i64 0)), .p (.v (.int .i64 0)), .nil 2, .p (.v (.int .i64 0)), .p (.v (.int .i64 0)), .p (.v (.int .i64 0)), .nil 5, .nil 1, .p (.v (.int .i64 0)), .p (.v (.int .i64 0)), .p (.v (.int .i64 0)), .p (.v (.int .i64 0)), .nil 4, .p (.v (.int .i64 0)), .p (.v (.int .i64 0)), .nil 8, .p (.v (.int .i64 0)), .p (.v (.int .i64 0)), .p (.v (.int .i64 0)), .p (.v (.int .i64 0)), .p (.v (.int .i64 0)), .p (.v (.int .i64 0)), .p (.v (.string ByteArray.empty)), .nil 11, .nil 1, .p (.v (.int .i64 0)), .p (.v (.int .i64 0)), .p (.v (.int .i64 0)), .nil 6, .p (.v (.int .i64 0)), .nil 4, .nil 1, .p (.v (.int .i64 0)), .p (.v (.int .i64 0))], .struct [(0, 3), (1, 3), (2, 3), (3, 47), (10, 3), (11, 3), (12, 24), (14, 48), (15, 50), (28, 28), (36, 30), (37, 55)], none⟩ := rfl
@[simp] theorem Try.T58 : Try.T 58 = some ⟨1, 8, [.p (.v .nilFunc)], .sc, none⟩ := rfl
@[simp] theorem Try.T59 : Try.T 59 = some ⟨1, 8, [.p (.v .nilFunc)], .sc, none⟩ := rfl
@[simp] theorem Try.T60 : Try.T 60 = some ⟨1, 8, [.p (.v .nilFunc)], .sc, none⟩ := rfl
@[simp] theorem Try.T61 : Try.T 61 = some ⟨1, 8, [.p (.v .nilFunc)], .sc, none⟩ := rfl
@[simp] theorem Try.T63 : Try.T 63 = some ⟨1, 8, [.p (.v .nilFunc)], .sc, none⟩ := rfl
@[simp] theorem Try.T64 : Try.T 64 = some ⟨1, 8, [.p (.v .nilFunc)], .sc, none⟩ := rfl
@[simp] theorem Try.T66 : Try.T 66 = some ⟨1, 8, [.p (.v .nilFunc)], .sc, none⟩ := rfl
@[simp] theorem Try.T67 : Try.T 67 = some ⟨1, 8, [.p (.v .nilFunc)], .sc, none⟩ := rfl
@[simp] theorem Try.T69 : Try.T 69 = some ⟨1, 8, [.p (.v .nilFunc)], .sc, none⟩ := rfl
@[simp] theorem Try.T70 : Try.T 70 = some ⟨1, 8, [.p (.v .nilFunc)], .sc, none⟩ := rfl
@[simp] theorem Try.T71 : Try.T 71 = some ⟨1, 8, [.p (.v .nilFunc)], .sc, none⟩ := rfl
@[simp] theorem Try.T73 : Try.T 73 = some ⟨1, 8, [.p (.v .nilFunc)], .sc, none⟩ := rfl
@[simp] theorem Try.T75 : Try.T 75 = some ⟨1, 8, [.p (.v .nilFunc)], .sc, none⟩ := rfl
@[simp] theorem Try.T76 : Try.T 76 = some ⟨1, 8, [.p (.v .nilFunc)], .sc, none⟩ := rfl
@[simp] theorem Try.T78 : Try.T 78 = some ⟨5, 56, [.p (.v (.string ByteArray.empty)), .p (.v (.string ByteArray.empty)), .p (.v (.int .i64 0)), .p (.v (.int .i64 0)), .p (.v (.int .i64 0))], .struct [(0, 9), (1, 9), (2, 3), (3, 3), (4, 3)], some [.str, .str, .int .i64, .int .i64, .int .i64]⟩ := rfl
@[simp] theorem Try.T80 : Try.T 80 = some ⟨11, 120, [.p (.v (.int .i64 0)), .p (.v (.string ByteArray.empty)), .p (.v (.string ByteArray.empty)), .p (.v (.int .i64 0)), .p (.v (.int .i64 0)), .p (.v (.int .i64 0)), .p (.v (.int .i64 0)), .p (.v (.int .i64 0)), .p (.v (.int .i64 0)), .p (.v (.int .i64 0)), .nil 4], .struct [(0, 3), (1, 78), (6, 3), (7, 33)], none⟩ := rfl
@[simp] theorem Try.T82 : Try.T 82 = some ⟨4, 32, [.p (.v (.int .i64 0)), .p (.v (.int .i64 0)), .p (.v (.int .i64 0)), .p (.v (.int .i64 0))], .struct [(0, 3), (1, 3), (2, 3), (3, 3)], some [.int .i64, .int .i64, .int .i64, .int .i64]⟩ := rfl
@[simp] theorem Try.T83 : Try.T 83 = some ⟨1, 8, [.p (.v .nilFunc)], .sc, none⟩ := rfl
@[simp] theorem Try.T84 : Try.T 84 = some ⟨1, 8, [.p (.v .nilFunc)], .sc, none⟩ := rfl
@[simp] theorem Try.T85 : Try.T 85 = some ⟨1, 8, [.p (.v .nilFunc)], .sc, none⟩ := rfl
@[simp] theorem Try.T86 : Try.T 86 = some ⟨1, 8, [.p (.v (.pointer none))], .sc, none⟩ := rfl
@[simp] theorem Try.T87 : Try.T 87 = some ⟨1, 8, [.p (.v .nilFunc)], .sc, none⟩ := rfl
@[simp] theorem Try.T88 : Try.T 88 = some ⟨1, 8, [.p (.v .nilFunc)], .sc, none⟩ := rfl
@[simp] theorem Try.T89 : Try.T 89 = some ⟨1, 8, [.p (.v .nilFunc)], .sc, none⟩ := rfl
@[simp] theorem Try.T90 : Try.T 90 = some ⟨1, 8, [.p (.v .nilFunc)], .sc, none⟩ := rfl
@[simp] theorem Try.T91 : Try.T 91 = some ⟨1, 8, [.p (.v .nilFunc)], .sc, none⟩ := rfl
@[simp] theorem Try.T92 : Try.T 92 = some ⟨1, 8, [.p (.v .nilFunc)], .sc, none⟩ := rfl
@[simp] theorem Try.T93 : Try.T 93 = some ⟨1, 8, [.p (.v .nilFunc)], .sc, none⟩ := rfl
@[simp] theorem Try.T94 : Try.T 94 = some ⟨1, 8, [.p (.v .nilFunc)], .sc, none⟩ := rfl
@[simp] theorem Try.T95 : Try.T 95 = some ⟨1, 8, [.p (.v .nilFunc)], .sc, none⟩ := rfl
@[simp] theorem Try.T96 : Try.T 96 = some ⟨1, 8, [.p (.v .nilFunc)], .sc, none⟩ := rfl
@[simp] theorem Try.T97 : Try.T 97 = some ⟨1, 8, [.p (.v .nilFunc)], .sc, none⟩ := rfl
@[simp] theorem Try.T98 : Try.T 98 = some ⟨1, 8, [.p (.v .nilFunc)], .sc, none⟩ := rfl
@[simp] theorem Try.T99 : Try.T 99 = some ⟨1, 8, [.p (.v .nilFunc)], .sc, none⟩ := rfl
@[simp] theorem Try.T100 : Try.T 100 = some ⟨1, 8, [.p (.v .nilFunc)], .sc, none⟩ := rfl
@[simp] theorem Try.T101 : Try.T 101 = some ⟨1, 8, [.p (.v .nilFunc)], .sc, none⟩ := rfl
@[simp] theorem Try.T102 : Try.T 102 = some ⟨1, 8, [.p (.v .nilFunc)], .sc, none⟩ := rfl
@[simp] theorem Try.T103 : Try.T 103 = some ⟨1, 8, [.p (.v .nilFunc)], .sc, none⟩ := rfl
@[simp] theorem Try.T104 : Try.T 104 = some ⟨1, 8, [.p (.v .nilFunc)], .sc, none⟩ := rfl
@[simp] theorem Try.T105 : Try.T 105 = some ⟨1, 8, [.p (.v .nilFunc)], .sc, none⟩ := rfl
@[simp] theorem Try.T106 : Try.T 106 = some ⟨1, 8, [.p (.v .nilFunc)], .sc, none⟩ := rfl
@[simp] theorem Try.T107 : Try.T 107 = some ⟨1, 8, [.p (.v .nilFunc)], .sc, none⟩ := rfl
@[simp] theorem Try.T108 : Try.T 108 = some ⟨1, 8, [.p (.v .nilFunc)], .sc, none⟩ := rfl
@[simp] theorem Try.T109 : Try.T 109 = some ⟨1, 8, [.p (.v .nilFunc)], .sc, none⟩ := rfl
@[simp] theorem Try.T111 : Try.T 111 = some ⟨6, 56, [.p (.v (.int .i64 0)), .p (.v (.string ByteArray.empty)), .p (.v (.string ByteArray.empty)), .p (.v (.int .i64 0)), .p (.v (.bool false)), .p (.v (.bool false))], .struct [(0, 3), (1, 9), (2, 9), (3, 3), (4, 4), (5, 4)], some [.int .i64, .str, .str, .int .i64, .bool, .bool]⟩ := rfl
@[simp] theorem Try.T112 : Try.T 112 = some ⟨1, 8, [.p (.v .nilFunc)], .sc, none⟩ := rfl
@[simp] theorem Try.T113 : Try.T 113 = some ⟨1, 8, [.p (.v .nilFunc)], .sc, none⟩ := rfl
@[simp] theorem Try.T114 : Try.T 114 = some ⟨1, 8, [.p (.v .nilFunc)], .sc, none⟩ := rfl
@[simp] theorem Try.T115 : Try.T 115 = some ⟨1, 8, [.p (.v .nilFunc)], .sc, none⟩ := rfl
@[simp] theorem Try.T116 : Try.T 116 = some ⟨1, 8, [.p (.v (.pointer none))], .sc, none⟩ := rfl
@[simp] theorem Try.T117 : Try.T 117 = some ⟨1, 8, [.p (.v (.pointer none))], .sc, none⟩ := rfl
@[simp] theorem Try.T119 : Try.T 119 = some ⟨3, 40, [.nil 1, .p (.v (.int .i64 0)), .p (.v (.int .i64 0))], .struct [(0, 22), (1, 3), (2, 25)], none⟩ := rfl
@[simp] theorem Try.T120 : Try.T 120 = some ⟨1, 8, [.p (.v .nilFunc)], .sc, none⟩ := rfl
@[simp] theorem Try.T121 : Try.T 121 = some ⟨1, 8, [.p (.v .nilFunc)], .sc, none⟩ := rfl
@[simp] theorem Try.T122 : Try.T 122 = some ⟨1, 8, [.p (.v .nilFunc)], .sc, none⟩ := rfl
@[simp] theorem Try.T123 : Try.T 123 = some ⟨1, 8, [.p (.v .nilFunc)], .sc, none⟩ := rfl
@[simp] theorem Try.T124 : Try.T 124 = some ⟨1, 8, [.p (.v .nilFunc)], .sc, none⟩ := rfl
@[simp] theorem Try.T125 : Try.T 125 = some ⟨1, 8, [.p (.v .nilFunc)], .sc, none⟩ := rfl
@[simp] theorem Try.T126 : Try.T 126 = some ⟨1, 8, [.p (.v .nilFunc)], .sc, none⟩ := rfl
@[simp] theorem Try.T127 : Try.T 127 = some ⟨1, 8, [.p (.v .nilFunc)], .sc, none⟩ := rfl
@[simp] theorem Try.T128 : Try.T 128 = some ⟨1, 8, [.p (.v .nilFunc)], .sc, none⟩ := rfl
@[simp] theorem Try.T129 : Try.T 129 = some ⟨1, 8, [.p (.v .nilFunc)], .sc, none⟩ := rfl
@[simp] theorem Try.T130 : Try.T 130 = some ⟨1, 8, [.p (.v .nilFunc)], .sc, none⟩ := rfl
@[simp] theorem Try.T131 : Try.T 131 = some ⟨1, 8, [.p (.v .nilFunc)], .sc, none⟩ := rfl
@[simp] theorem Try.T132 : Try.T 132 = some ⟨1, 8, [.p (.v .nilFunc)], .sc, none⟩ := rfl
@[simp] theorem Try.T133 : Try.T 133 = some ⟨1, 8, [.p (.v .nilFunc)], .sc, none⟩ := rfl
@[simp] theorem Try.T134 : Try.T 134 = some ⟨1, 8, [.p (.v .nilFunc)], .sc, none⟩ := rfl
@[simp] theorem Try.T136 : Try.T 136 = some ⟨1, 24, [.nil 1], .struct [(0, 22)], none⟩ := rfl
@[simp] theorem Try.T137 : Try.T 137 = some ⟨1, 8, [.p (.v .nilFunc)], .sc, none⟩ := rfl
@[simp] theorem Try.T138 : Try.T 138 = some ⟨1, 8, [.p (.v .nilFunc)], .sc, none⟩ := rfl
@[simp] theorem Try.T139 : Try.T 139 = some ⟨1, 8, [.p (.v .nilFunc)], .sc, none⟩ := rfl
@[simp] theorem Try.T140 : Try.T 140 = some ⟨1, 8, [.p (.v .nilFunc)], .sc, none⟩ := rfl
@[simp] theorem Try.T141 : Try.T 141 = some ⟨1, 8, [.p (.v .nilFunc)], .sc, none⟩ := rfl
@[simp] theorem Try.T142 : Try.T 142 = some ⟨1, 8, [.p (.v (.int .u64 0))], .int .u64, none⟩ := rfl
@[simp] theorem Try.T143 : Try.T 143 = some ⟨1, 8, [.p (.v (.int .u64 0))], .int .u64, none⟩ := rfl
@[simp] theorem Try.T144 : Try.T 144 = some ⟨1, 8, [.p (.v .nilFunc)], .sc, none⟩ := rfl
@[simp] theorem Try.T145 : Try.T 145 = some ⟨1, 8, [.p (.v .nilFunc)], .sc, none⟩ := rfl
@[simp] theorem Try.T146 : Try.T 146 = some ⟨1, 8, [.p (.v .nilFunc)], .sc, none⟩ := rfl
@[simp] theorem Try.T147 : Try.T 147 = some ⟨1, 8, [.p (.v .nilFunc)], .sc, none⟩ := rfl
@[simp] theorem Try.T148 : Try.T 148 = some ⟨1, 8, [.p (.v .nilFunc)], .sc, none⟩ := rfl
@[simp] theorem Try.T149 : Try.T 149 = some ⟨1, 8, [.p (.v .nilFunc)], .sc, none⟩ := rfl
@[simp] theorem Try.T150 : Try.T 150 = some ⟨1, 8, [.p (.v .nilFunc)], .sc, none⟩ := rfl
@[simp] theorem Try.T151 : Try.T 151 = some ⟨1, 8, [.p (.v .nilFunc)], .sc, none⟩ := rfl
@[simp] theorem Try.T152 : Try.T 152 = some ⟨1, 8, [.p (.v .nilFunc)], .sc, none⟩ := rfl
@[simp] theorem Try.T153 : Try.T 153 = some ⟨1, 8, [.p (.v .nilFunc)], .sc, none⟩ := rfl
@[simp] theorem Try.T154 : Try.T 154 = some ⟨1, 8, [.p (.v .nilFunc)], .sc, none⟩ := rfl
@[simp] theorem Try.T155 : Try.T 155 = some ⟨1, 8, [.p (.v .nilFunc)], .sc, none⟩ := rfl
@[simp] theorem Try.T156 : Try.T 156 = some ⟨1, 8, [.p (.v .nilFunc)], .sc, none⟩ := rfl
@[simp] theorem Try.T157 : Try.T 157 = some ⟨1, 8, [.p (.v .nilFunc)], .sc, none⟩ := rfl
@[simp] theorem Try.T158 : Try.T 158 = some ⟨1, 8, [.p (.v .nilFunc)], .sc, none⟩ := rfl
@[simp] theorem Try.T160 : Try.T 160 = some ⟨2, 32, [.nil 1, .p (.v (.int .i64 0))], .struct [(0, 22), (1, 3)], none⟩ := rfl
@[simp] theorem Try.T161 : Try.T 161 = some ⟨1, 8, [.p (.v .nilFunc)], .sc, none⟩ := rfl
@[simp] theorem Try.T162 : Try.T 162 = some ⟨1, 8, [.p (.v .nilFunc)], .sc, none⟩ := rfl
@[simp] theorem Try.T163 : Try.T 163 = some ⟨1, 8, [.p (.v .nilFunc)], .sc, none⟩ := rfl
@[simp] theorem Try.T164 : Try.T 164 = some ⟨1, 8, [.p (.v .nilFunc)], .sc, none⟩ := rfl
@[simp] theorem Try.T165 : Try.T 165 = some ⟨1, 8, [.p (.v .nilFunc)], .sc, none⟩ := rfl
@[simp] theorem Try.T166 : Try.T 166 = some ⟨1, 8, [.p (.v .nilFunc)], .sc, none⟩ := rfl
@[simp] theorem Try.T167 : Try.T 167 = some ⟨1, 8, [.p (.v .nilFunc)], .sc, none⟩ := rfl
@[simp] theorem Try.T168 : Try.T 168 = some ⟨1, 8, [.p (.v .nilFunc)], .sc, none⟩ := rfl
@[simp] theorem Try.T169 : Try.T 169 = some ⟨1, 8, [.p (.v .nilFunc)], .sc, none⟩ := rfl
@[simp] theorem Try.T170 : Try.T 170 = some ⟨1, 8, [.p (.v .nilFunc)], .sc, none⟩ := rfl
@[simp] theorem Try.T171 : Try.T 171 = some ⟨1, 8, [.p (.v .nilFunc)], .sc, none⟩ := rfl
@[simp] theorem Try.T172 : Try.T 172 = some ⟨1, 8, [.p (.v .nilFunc)], .sc, none⟩ := rfl
@[simp] theorem Try.T173 : Try.T 173 = some ⟨1, 8, [.p (.v .nilFunc)], .sc, none⟩ := rfl
@[simp] theorem Try.T174 : Try.T 174 = some ⟨1, 8, [.p (.v .nilFunc)], .sc, none⟩ := rfl
@[simp] theorem Try.T175 : Try.T 175 = some ⟨1, 8, [.p (.v .nilFunc)], .sc, none⟩ := rfl
@[simp] theorem Try.T176 : Try.T 176 = some ⟨1, 8, [.p (.v .nilFunc)], .sc, none⟩ := rfl
@[simp] theorem Try.T177 : Try.T 177 = some ⟨1, 8, [.p (.v .nilFunc)], .sc, none⟩ := rfl
@[simp] theorem Try.T178 : Try.T 178 = some ⟨1, 8, [.p (.v .nilFunc)], .sc, none⟩ := rfl
@[simp] theorem Try.T179 : Try.T 179 = some ⟨1, 8, [.p (.v .nilFunc)], .sc, none⟩ := rfl
@[simp] theorem Try.T180 : Try.T 180 = some ⟨1, 8, [.p (.v .nilFunc)], .sc, none⟩ := rfl
@[simp] theorem Try.T181 : Try.T 181 = some ⟨1, 8, [.p (.v .nilFunc)], .sc, none⟩ := rfl
@[simp] theorem Try.T182 : Try.T 182 = some ⟨1, 8, [.p (.v .nilFunc)], .sc, none⟩ := rfl
@[simp] theorem Try.T183 : Try.T 183 = some ⟨1, 8, [.p (.v .nilFunc)], .sc, none⟩ := rfl
@[simp] theorem Try.T184 : Try.T 184 = some ⟨1, 8, [.p (.v .nilFunc)], .sc, none⟩ := rfl
@[simp] theorem Try.T185 : Try.T 185 = some ⟨1, 8, [.p (.v .nilFunc)], .sc, none⟩ := rfl
@[simp] theorem Try.T186 : Try.T 186 = some ⟨1, 8, [.p (.v .nilFunc)], .sc, none⟩ := rfl
@[simp] theorem Try.T187 : Try.T 187 = some ⟨1, 8, [.p (.v .nilFunc)], .sc, none⟩ := rfl
@[simp] theorem Try.T188 : Try.T 188 = some ⟨1, 8, [.p (.v .nilFunc)], .sc, none⟩ := rfl
@[simp] theorem Try.T189 : Try.T 189 = some ⟨1, 8, [.p (.v .nilFunc)], .sc, none⟩ := rfl
@[simp] theorem Try.T190 : Try.T 190 = some ⟨1, 8, [.p (.v .nilFunc)], .sc, none⟩ := rfl
@[simp] theorem Try.T191 : Try.T 191 = some ⟨1, 8, [.p (.v .nilFunc)], .sc, none⟩ := rfl
@[simp] theorem Try.T192 : Try.T 192 = some ⟨1, 8, [.p (.v (.int .i64 0))], .int .i64, none⟩ := rfl
@[simp] theorem Try.T194 : Try.T 194 = some ⟨1, 8, [.p (.v .nilFunc)], .sc, none⟩ := rfl
@[simp] theorem Try.T195 : Try.T 195 = some ⟨1, 8, [.p (.v .nilFunc)], .sc, none⟩ := rfl
@[simp] theorem Try.T197 : Try.T 197 = some ⟨1, 8, [.p (.v .nilFunc)], .sc, none⟩ := rfl
@[simp] theorem Try.T198 : Try.T 198 = some ⟨1, 8, [.p (.v .nilFunc)], .sc, none⟩ := rfl
@[simp] theorem Try.T199 : Try.T 199 = some ⟨1, 8, [.p (.v .nilFunc)], .sc, none⟩ := rfl
@[simp] theorem Try.T200 : Try.T 200 = some ⟨1, 8, [.p (.v .nilFunc)], .sc, none⟩ := rfl
@[simp] theorem Try.T201 : Try.T 201 = some ⟨1, 8, [.p (.v (.pointer none))], .sc, none⟩ := rfl
@[simp] theorem Try.T202 : Try.T 202 = some ⟨1, 8, [.p (.v .nilFunc)], .sc, none⟩ := rfl
@[simp] theorem Try.T203 : Try.T 203 = some ⟨1, 8, [.p (.v .nilFunc)], .sc, none⟩ := rfl
@[simp] theorem Try.T205 : Try.T 205 = some ⟨2, 32, [.nil 1, .p (.v (.int .i64 0))], .struct [(0, 22), (1, 3)], none⟩ := rfl
@[simp] theorem Try.T206 : Try.T 206 = some ⟨1, 8, [.p (.v .nilFunc)], .sc, none⟩ := rfl
@[simp] theorem Try.T209 : Try.T 209 = some ⟨0, 0, [], .array 0 16, none⟩ := rfl
@[simp] theorem Try.T212 : Try.T 212 = some ⟨1, 4, [.p (.v (.int .u32 0))], .int .u32, none⟩ := rfl
@[simp] theorem Try.T215 : Try.T 215 = some ⟨1, 8, [.p (.v .nilFunc)], .sc, none⟩ := rfl
@[simp] theorem Try.T216 : Try.T 216 = some ⟨1, 8, [.p (.v (.pointer none))], .sc, none⟩ := rfl
def Try.zOf (y : Ty) : Value :=
 let vs : List Value := y.zero.map fun | .p (.v v) => v | _ => .slice none 0 0
 if y.kd.isAgg then .agg vs.toArray else vs.headD (.slice none 0 0)
abbrev Try.tyZ {t : TypeId} {y : Ty} := @TyOK.of Try.prog t y (Try.zOf y)
set_option maxRecDepth 100000 in
set_option maxHeartbeats 40000000 in
theorem Try.tab : TabOK Try.prog Try.T := by
 intro t y h
 unfold Try.T at h
 split at h
 all_goals first | (simp at h; done) | (obtain rfl := Option.some.inj h)
 all_goals first | exact Try.ty24 | exact Try.ty47 | exact Try.ty78 | exact Try.ty82 | exact Try.ty111 | (refine Try.tyZ (by kernel_rfl) rfl (by first | rfl | decide | (simp [Try.zOf, Kd.isAgg, Value.cells, zval, scal])) rfl (by first | exact rfl | kernel_rfl | exact structOf_spec (by kernel_rfl) | exact scOf_spec (by kernel_rfl)) (by intro cs h; first | rfl | (simp [Try.zOf, Kd.isAgg] at h)) (by intro ks h; simp at h))
theorem Try.mixed : Try.prog.follows .mixedOrders = true := by kernel_rfl
end Go.Proofs.Ytleejpddecjhcaa
