/- Texts that the proof needs: Tab. -/
import Derived.Test.YtefhnofdfnmiaaaProg
import Derived.Test.YtefhnofdfnmiaaaP11ClientPlays
import Derived.WalkKit
import Derived.WalkSpells
import Derived.KernelRfl
/- The table of types of this translation, by program. -/
namespace Go.Proofs.Ytefhnofdfnmiaaa
open Go Go.Av
instance Try.glob : Glob := ⟨fun _ => none⟩
theorem Try.ty26 : TyOK Try.prog 26 ⟨2, 16, [.p (.v (.int .i64 0)), .p (.v (.int .i64 0))], .struct [(0, 3), (1, 3)], some [.int .i64, .int .i64]⟩ := by
  refine TyOK.of (z := .agg #[.int .i64 0, .int .i64 0]) (by kernel_rfl) rfl (by first | rfl | decide | (simp [Value.cells, zval, scal])) rfl ?_ ?_ ?_
  · exact structOf_spec (by kernel_rfl)
  · intro cs h; first | rfl | (simp at h)
  · intro ks h; simp only [Option.some.injEq] at h; subst h; refine ⟨rfl, fun xs ys hx hy w => ⟨?_, by kernel_rfl⟩⟩
    obtain ⟨_, _, rfl, ⟨x0, rfl⟩, hx⟩ := hx; obtain ⟨_, _, rfl, ⟨x1, rfl⟩, hx⟩ := hx; subst hx
    obtain ⟨_, _, rfl, ⟨y0, rfl⟩, hy⟩ := hy; obtain ⟨_, _, rfl, ⟨y1, rfl⟩, hy⟩ := hy; subst hy
    show (Op.equalIn 10000 26 (.agg #[.int .i64 x0, .int .i64 x1]) (.agg #[.int .i64 y0, .int .i64 y1])).run Try.prog w = _
    go_simp
    simp only [ceq, veq]
    all_goals (repeat' split)
    all_goals simp_all
theorem Try.ty42 : TyOK Try.prog 42 ⟨5, 56, [.p (.v (.string ByteArray.empty)), .p (.v (.string ByteArray.empty)), .p (.v (.int .i64 0)), .p (.v (.int .i64 0)), .p (.v (.int .i64 0))], .struct [(0, 9), (1, 9), (2, 3), (3, 3), (4, 3)], some [.str, .str, .int .i64, .int .i64, .int .i64]⟩ := by
  refine TyOK.of (z := .agg #[.string ByteArray.empty, .string ByteArray.empty, .int .i64 0, .int .i64 0, .int .i64 0]) (by kernel_rfl) rfl (by first | rfl | decide | (simp [Value.cells, zval, scal])) rfl ?_ ?_ ?_
  · exact structOf_spec (by kernel_rfl)
  · intro cs h; first | rfl | (simp at h)
  · intro ks h; simp only [Option.some.injEq] at h; subst h; refine ⟨rfl, fun xs ys hx hy w => ⟨?_, by kernel_rfl⟩⟩
    obtain ⟨_, _, rfl, ⟨x0, rfl⟩, hx⟩ := hx; obtain ⟨_, _, rfl, ⟨x1, rfl⟩, hx⟩ := hx; obtain ⟨_, _, rfl, ⟨x2, rfl⟩, hx⟩ := hx; obtain ⟨_, _, rfl, ⟨x3, rfl⟩, hx⟩ := hx; obtain ⟨_, _, rfl, ⟨x4, rfl⟩, hx⟩ := hx; subst hx
    obtain ⟨_, _, rfl, ⟨y0, rfl⟩, hy⟩ := hy; obtain ⟨_, _, rfl, ⟨y1, rfl⟩, hy⟩ := hy; obtain ⟨_, _, rfl, ⟨y2, rfl⟩, hy⟩ := hy; obtain ⟨_, _, rfl, ⟨y3, rfl⟩, hy⟩ := hy; obtain ⟨_, _, rfl, ⟨y4, rfl⟩, hy⟩ := hy; subst hy
    show (Op.equalIn 10000 42 (.agg #[.string x0, .string x1, .int .i64 x2, .int .i64 x3, .int .i64 x4]) (.agg #[.string y0, .string y1, .int .i64 y2, .int .i64 y3, .int .i64 y4])).run Try.prog w = _
    go_simp
    simp only [ceq, veq]
    all_goals (repeat' split)
    all_goals simp_all
theorem Try.ty45 : TyOK Try.prog 45 ⟨6, 56, [.p (.v (.int .i64 0)), .p (.v (.int .i64 0)), .p (.v (.string ByteArray.empty)), .p (.v (.int .i64 0)), .p (.v (.int .i64 0)), .p (.v (.int .i64 0))], .struct [(0, 3), (1, 3), (2, 9), (3, 3), (4, 26)], some [.int .i64, .int .i64, .str, .int .i64, .int .i64, .int .i64]⟩ := by
  refine TyOK.of (z := .agg #[.int .i64 0, .int .i64 0, .string ByteArray.empty, .int .i64 0, .int .i64 0, .int .i64 0]) (by kernel_rfl) rfl (by first | rfl | decide | (simp [Value.cells, zval, scal])) rfl ?_ ?_ ?_
  · exact structOf_spec (by kernel_rfl)
  · intro cs h; first | rfl | (simp at h)
  · intro ks h; simp only [Option.some.injEq] at h; subst h; refine ⟨rfl, fun xs ys hx hy w => ⟨?_, by kernel_rfl⟩⟩
    obtain ⟨_, _, rfl, ⟨x0, rfl⟩, hx⟩ := hx; obtain ⟨_, _, rfl, ⟨x1, rfl⟩, hx⟩ := hx; obtain ⟨_, _, rfl, ⟨x2, rfl⟩, hx⟩ := hx; obtain ⟨_, _, rfl, ⟨x3, rfl⟩, hx⟩ := hx; obtain ⟨_, _, rfl, ⟨x4, rfl⟩, hx⟩ := hx; obtain ⟨_, _, rfl, ⟨x5, rfl⟩, hx⟩ := hx; subst hx
    obtain ⟨_, _, rfl, ⟨y0, rfl⟩, hy⟩ := hy; obtain ⟨_, _, rfl, ⟨y1, rfl⟩, hy⟩ := hy; obtain ⟨_, _, rfl, ⟨y2, rfl⟩, hy⟩ := hy; obtain ⟨_, _, rfl, ⟨y3, rfl⟩, hy⟩ := hy; obtain ⟨_, _, rfl, ⟨y4, rfl⟩, hy⟩ := hy; obtain ⟨_, _, rfl, ⟨y5, rfl⟩, hy⟩ := hy; subst hy
    show (Op.equalIn 10000 45 (.agg #[.int .i64 x0, .int .i64 x1, .string x2, .int .i64 x3, .int .i64 x4, .int .i64 x5]) (.agg #[.int .i64 y0, .int .i64 y1, .string y2, .int .i64 y3, .int .i64 y4, .int .i64 y5])).run Try.prog w = _
    go_simp
    simp only [ceq, veq]
    all_goals (repeat' split)
    all_goals simp_all
theorem Try.ty61 : TyOK Try.prog 61 ⟨6, 56, [.p (.v (.int .i64 0)), .p (.v (.string ByteArray.empty)), .p (.v (.string ByteArray.empty)), .p (.v (.int .i64 0)), .p (.v (.bool false)), .p (.v (.bool false))], .struct [(0, 3), (1, 9), (2, 9), (3, 3), (4, 4), (5, 4)], some [.int .i64, .str, .str, .int .i64, .bool, .bool]⟩ := by
  refine TyOK.of (z := .agg #[.int .i64 0, .string ByteArray.empty, .string ByteArray.empty, .int .i64 0, .bool false, .bool false]) (by kernel_rfl) rfl (by first | rfl | decide | (simp [Value.cells, zval, scal])) rfl ?_ ?_ ?_
  · exact structOf_spec (by kernel_rfl)
  · intro cs h; first | rfl | (simp at h)
  · intro ks h; simp only [Option.some.injEq] at h; subst h; refine ⟨rfl, fun xs ys hx hy w => ⟨?_, by kernel_rfl⟩⟩
    obtain ⟨_, _, rfl, ⟨x0, rfl⟩, hx⟩ := hx; obtain ⟨_, _, rfl, ⟨x1, rfl⟩, hx⟩ := hx; obtain ⟨_, _, rfl, ⟨x2, rfl⟩, hx⟩ := hx; obtain ⟨_, _, rfl, ⟨x3, rfl⟩, hx⟩ := hx; obtain ⟨_, _, rfl, ⟨x4, rfl⟩, hx⟩ := hx; obtain ⟨_, _, rfl, ⟨x5, rfl⟩, hx⟩ := hx; subst hx
    obtain ⟨_, _, rfl, ⟨y0, rfl⟩, hy⟩ := hy; obtain ⟨_, _, rfl, ⟨y1, rfl⟩, hy⟩ := hy; obtain ⟨_, _, rfl, ⟨y2, rfl⟩, hy⟩ := hy; obtain ⟨_, _, rfl, ⟨y3, rfl⟩, hy⟩ := hy; obtain ⟨_, _, rfl, ⟨y4, rfl⟩, hy⟩ := hy; obtain ⟨_, _, rfl, ⟨y5, rfl⟩, hy⟩ := hy; subst hy
    show (Op.equalIn 10000 61 (.agg #[.int .i64 x0, .string x1, .string x2, .int .i64 x3, .bool x4, .bool x5]) (.agg #[.int .i64 y0, .string y1, .string y2, .int .i64 y3, .bool y4, .bool y5])).run Try.prog w = _
    go_simp
    simp only [ceq, veq]
    all_goals (repeat' split)
    all_goals simp_all
theorem Try.ty101 : TyOK Try.prog 101 ⟨4, 32, [.p (.v (.int .i64 0)), .p (.v (.int .i64 0)), .p (.v (.int .i64 0)), .p (.v (.int .i64 0))], .struct [(0, 3), (1, 3), (2, 3), (3, 3)], some [.int .i64, .int .i64, .int .i64, .int .i64]⟩ := by
  refine TyOK.of (z := .agg #[.int .i64 0, .int .i64 0, .int .i64 0, .int .i64 0]) (by kernel_rfl) rfl (by first | rfl | decide | (simp [Value.cells, zval, scal])) rfl ?_ ?_ ?_
  · exact structOf_spec (by kernel_rfl)
  · intro cs h; first | rfl | (simp at h)
  · intro ks h; simp only [Option.some.injEq] at h; subst h; refine ⟨rfl, fun xs ys hx hy w => ⟨?_, by kernel_rfl⟩⟩
    obtain ⟨_, _, rfl, ⟨x0, rfl⟩, hx⟩ := hx; obtain ⟨_, _, rfl, ⟨x1, rfl⟩, hx⟩ := hx; obtain ⟨_, _, rfl, ⟨x2, rfl⟩, hx⟩ := hx; obtain ⟨_, _, rfl, ⟨x3, rfl⟩, hx⟩ := hx; subst hx
    obtain ⟨_, _, rfl, ⟨y0, rfl⟩, hy⟩ := hy; obtain ⟨_, _, rfl, ⟨y1, rfl⟩, hy⟩ := hy; obtain ⟨_, _, rfl, ⟨y2, rfl⟩, hy⟩ := hy; obtain ⟨_, _, rfl, ⟨y3, rfl⟩, hy⟩ := hy; subst hy
    show (Op.equalIn 10000 101 (.agg #[.int .i64 x0, .int .i64 x1, .int .i64 x2, .int .i64 x3]) (.agg #[.int .i64 y0, .int .i64 y1, .int .i64 y2, .int .i64 y3])).run Try.prog w = _
    go_simp
    simp only [ceq, veq]
    all_goals (repeat' split)
    all_goals simp_all
def Try.T : TypeId → Option Ty
  | 1 => some ⟨1, 8, [.p (.v .nilFunc)], .sc, none⟩
  | 2 => some ⟨1, 8, [.p (.v (.int .i64 0))], .int .i64, none⟩
  | 3 => some ⟨1, 8, [.p (.v (.int .i64 0))], .int .i64, none⟩
  | 4 => some ⟨1, 1, [.p (.v (.bool false))], .bool, none⟩
  | 5 => some ⟨1, 1, [.p (.v (.int .u8 0))], .int .u8, none⟩
  | 9 => some ⟨1, 16, [.p (.v (.string ByteArray.empty))], .str, none⟩
  | 12 => some ⟨1, 8, [.p (.v (.int .u64 0))], .int .u64, none⟩
  | 15 => some ⟨1, 8, [.p (.v (.pointer none))], .sc, none⟩
  | 16 => some ⟨1, 8, [.p (.v (.pointer none))], .sc, none⟩
  | 17 => some ⟨1, 8, [.p (.v (.pointer none))], .sc, none⟩
  | 21 => some ⟨1, 4, [.p (.v (.int .i32 0))], .int .i32, none⟩
  | 22 => some ⟨1, 24, [.nil 44], .slice 49, none⟩
  | 23 => some ⟨1, 8, [.p (.v .nilFunc)], .sc, none⟩
  | 24 => some ⟨1, 8, [.p (.v .nilFunc)], .sc, none⟩
  | 26 => some ⟨2, 16, [.p (.v (.int .i64 0)), .p (.v (.int .i64 0))], .struct [(0, 3), (1, 3)], some [.int .i64, .int .i64]⟩
  | 27 => some ⟨1, 24, [.nil 6], .slice 45, none⟩
  | 29 => some ⟨10, 96, [.p (.v (.int .i64 0)), .p (.v (.int .i64 0)), .p (.v (.int .i64 0)), .p (.v (.int .i64 0)), .p (.v (.int .i64 0)), .p (.v (.int .i64 0)), .p (.v (.int .i64 0)), .p (.v (.int .i64 0)), .p (.v (.int .i64 0)), .nil 6], .struct [(0, 3), (1, 3), (2, 3), (3, 3), (4, 26), (6, 3), (7, 3), (8, 3), (9, 27)], none⟩
  | 30 => some ⟨1, 8, [.p (.v (.int .i64 0))], .int .i64, none⟩
  | 32 => some ⟨1, 8, [.p (.v .nilFunc)], .sc, none⟩
  | 33 => some ⟨1, 8, [.p (.v .nilFunc)], .sc, none⟩
  | 34 => some ⟨1, 24, [.nil 6], .slice 61, none⟩
  | 35 => some ⟨1, 24, [.nil 4], .slice 101, none⟩
  | 36 => some ⟨1, 24, [.nil 1], .slice 3, none⟩
  | 38 => some ⟨3, 56, [.p (.v (.int .i64 0)), .nil 4, .nil 1], .struct [(0, 3), (1, 35), (2, 36)], none⟩
  | 40 => some ⟨9, 120, [.p (.v (.int .i64 0)), .p (.v (.int .i64 0)), .p (.v (.int .i64 0)), .nil 6, .p (.v (.int .i64 0)), .nil 4, .nil 1, .p (.v (.int .i64 0)), .p (.v (.int .i64 0))], .struct [(0, 3), (1, 3), (2, 3), (3, 34), (4, 38), (7, 26)], none⟩
  | 42 => some ⟨5, 56, [.p (.v (.string ByteArray.empty)), .p (.v (.string ByteArray.empty)), .p (.v (.int .i64 0)), .p (.v (.int .i64 0)), .p (.v (.int .i64 0))], .struct [(0, 9), (1, 9), (2, 3), (3, 3), (4, 3)], some [.str, .str, .int .i64, .int .i64, .int .i64]⟩
  | 43 => some ⟨1, 24, [.nil 1], .slice 9, none⟩
  | 45 => some ⟨6, 56, [.p (.v (.int .i64 0)), .p (.v (.int .i64 0)), .p (.v (.string ByteArray.empty)), .p (.v (.int .i64 0)), .p (.v (.int .i64 0)), .p (.v (.int .i64 0))], .struct [(0, 3), (1, 3), (2, 9), (3, 3), (4, 26)], some [.int .i64, .int .i64, .str, .int .i64, .int .i64, .int .i64]⟩
  | 47 => some ⟨33, 368, [.p (.v (.int .i64 0)), .p (.v (.int .i64 0)), .p (.v (.int .i64 0)), .p (.v (.int .i64 0)), .p (.v (.int .i64 0)), .p (.v (.int .i64 0)), .p (.v (.int .i64 0)), .p (.v (.int .i64 0)), .p (.v (.int .i64 0)), .p (.v (.int .i64 0)), .nil 6, .p (.v (.int .i64 0)), .nil 4, .nil 1, .p (.v (.int .i64 0)), .p (.v (.int .i64 0)), .p (.v (.int .i64 0)), .p (.v (.string ByteArray.empty)), .p (.v (.bool false)), .p (.v (.int .i64 0)), .p (.v (.string ByteArray.empty)), .p (.v (.string ByteArray.empty)), .p (.v (.string ByteArray.empty)), .p (.v (.int .i64 0)), .p (.v (.int .i64 0)), .p (.v (.int .i64 0)), .nil 1, .p (.v (.int .i64 0)), .p (.v (.int .i64 0)), .p (.v (.string ByteArray.empty)), .p (.v (.int .i64 0)), .p (.v (.int .i64 0)), .p (.v (.int .i64 0))], .struct [(0, 3), (1, 3), (2, 3), (3, 3), (4, 3), (5, 26), (7, 40), (16, 3), (17, 9), (18, 4), (19, 30), (20, 9), (21, 42), (26, 43), (27, 45)], none⟩
  | 49 => some ⟨44, 504, [.p (.v (.int .i64 0)), .p (.v (.int .i64 0)), .p (.v (.int .i64 0)), .p (.v (.int .i64 0)), .p (.v (.int .i64 0)), .nil 6, .p (.v (.int .i64 0)), .nil 4, .nil 1, .p (.v (.int .i64 0)), .p (.v (.int .i64 0)), .p (.v (.int .i64 0)), .p (.v (.int .i64 0)), .p (.v (.int .i64 0)), .p (.v (.int .i64 0)), .p (.v (.int .i64 0)), .p (.v (.int .i64 0)), .p (.v (.int .i64 0)), .p (.v (.int .i64 0)), .p (.v (.int .i64 0)), .p (.v (.int .i64 0)), .nil 6, .p (.v (.int .i64 0)), .nil 4, .nil 1, .p (.v (.int .i64 0)), .p (.v (.int .i64 0)), .p (.v (.int .i64 0)), .p (.v (.string ByteArray.empty)), .p (.v (.bool false)), .p (.v (.int .i64 0)), .p (.v (.string ByteArray.empty)), .p (.v (.string ByteArray.empty)), .p (.v (.string ByteArray.empty)), .p (.v (.int .i64 0)), .p (.v (.int .i64 0)), .p (.v (.int .i64 0)), .nil 1, .p (.v (.int .i64 0)), .p (.v (.int .i64 0)), .p (.v (.string ByteArray.empty)), .p (.v (.int .i64 0)), .p (.v (.int .i64 0)), .p (.v (.int .i64 0))], .struct [(0, 3), (1, 3), (2, 40), (11, 47)], none⟩
  | 50 => some ⟨1, 24, [.nil 33], .slice 47, none⟩
  | 51 => some ⟨1, 24, [.nil 36], .slice 59, none⟩
  | 53 => some ⟨1, 8, [.p (.v .nilFunc)], .sc, none⟩
  | 54 => some ⟨1, 8, [.p (.v .nilFunc)], .sc, none⟩
  | 55 => some ⟨1, 8, [.p (.v .nilFunc)], .sc, none⟩
  | 56 => some ⟨1, 8, [.p (.v .nilFunc)], .sc, none⟩
  | 57 => some ⟨1, 8, [.p (.v .nilFunc)], .sc, none⟩
  | 59 => some ⟨36, 392, [.p (.v (.int .i64 0)), .p (.v (.int .i64 0)), .p (.v (.bool false)), .p (.v (.int .i64 0)), .p (.v (.int .i64 0)), .p (.v (.int .i64 0)), .p (.v (.int .i64 0)), .p (.v (.int .i64 0)), .p (.v (.int .i64 0)), .p (.v (.int .i64 0)), .p (.v (.int .i64 0)), .p (.v (.int .i64 0)), .p (.v (.int .i64 0)), .nil 6, .p (.v (.int .i64 0)), .nil 4, .nil 1, .p (.v (.int .i64 0)), .p (.v (.int .i64 0)), .p (.v (.int .i64 0)), .p (.v (.string ByteArray.empty)), .p (.v (.bool false)), .p (.v (.int .i64 0)), .p (.v (.string ByteArray.empty)), .p (.v (.string ByteArray.empty)), .p (.v (.string ByteArray.empty)), .p (.v (.int .i64 0)), .p (.v (.int .i64 0)), .p (.v (.int .i64 0)), .nil 1, .p (.v (.int .i64 0)), .p (.v (.int .i64 0)), .p (.v (.string ByteArray.empty)), .p (.v (.int .i64 0)), .p (.v (.int .i64 0)), .p (.v (.int .i64 0))], .struct [(0, 3), (1, 3), (2, 4), (3, 47)], none⟩
  | 61 => some ⟨6, 56, [.p (.v (.int .i64 0)), .p (.v (.string ByteArray.empty)), .p (.v (.string ByteArray.empty)), .p (.v (.int .i64 0)), .p (.v (.bool false)), .p (.v (.bool false))], .struct [(0, 3), (1, 9), (2, 9), (3, 3), (4, 4), (5, 4)], some [.int .i64, .str, .str, .int .i64, .bool, .bool]⟩
  | 63 => some ⟨1, 8, [.p (.v .nilFunc)], .sc, none⟩
  | 65 => some ⟨1, 8, [.p (.v .nilFunc)], .sc, none⟩
  | 66 => some ⟨1, 8, [.p (.v .nilFunc)], .sc, none⟩
  | 67 => some ⟨1, 8, [.p (.v (.int .u64 0))], .int .u64, none⟩
  | 69 => some ⟨1, 8, [.p (.v .nilFunc)], .sc, none⟩
  | 70 => some ⟨1, 8, [.p (.v .nilFunc)], .sc, none⟩
  | 71 => some ⟨1, 8, [.p (.v .nilFunc)], .sc, none⟩
  | 72 => some ⟨1, 8, [.p (.v .nilFunc)], .sc, none⟩
  | 73 => some ⟨1, 24, [.nil 1], .slice 5, none⟩
  | 74 => some ⟨1, 8, [.p (.v .nilFunc)], .sc, none⟩
  | 75 => some ⟨1, 8, [.p (.v (.pointer none))], .sc, none⟩
  | 76 => some ⟨1, 8, [.p (.v .nilFunc)], .sc, none⟩
  | 78 => some ⟨11, 120, [.p (.v (.int .i64 0)), .p (.v (.int .i64 0)), .p (.v (.int .i64 0)), .p (.v (.int .i64 0)), .p (.v (.int .i64 0)), .p (.v (.int .i64 0)), .p (.v (.int .i64 0)), .p (.v (.int .i64 0)), .p (.v (.int .i64 0)), .nil 6, .nil 36], .struct [(0, 29), (10, 51)], none⟩
  | 79 => some ⟨1, 8, [.p (.v .nilFunc)], .sc, none⟩
  | 80 => some ⟨1, 8, [.p (.v .nilFunc)], .sc, none⟩
  | 81 => some ⟨1, 8, [.p (.v .nilFunc)], .sc, none⟩
  | 82 => some ⟨1, 8, [.p (.v (.int .u64 0))], .int .u64, none⟩
  | 83 => some ⟨1, 8, [.p (.v .nilFunc)], .sc, none⟩
  | 84 => some ⟨1, 8, [.p (.v .nilFunc)], .sc, none⟩
  | 85 => some ⟨1, 8, [.p (.v .nilFunc)], .sc, none⟩
  | 86 => some ⟨1, 8, [.p (.v .nilFunc)], .sc, none⟩
  | 87 => some ⟨1, 8, [.p (.v .nilFunc)], .sc, none⟩
  | 88 => some ⟨1, 8, [.p (.v .nilFunc)], .sc, none⟩
  | 89 => some ⟨1, 8, [.p (.v .nilFunc)], .sc, none⟩
  | 90 => some ⟨1, 8, [.p (.v .nilFunc)], .sc, none⟩
  | 91 => some ⟨1, 8, [.p (.v .nilFunc)], .sc, none⟩
  | 92 => some ⟨1, 8, [.p (.v .nilFunc)], .sc, none⟩
  | 93 => some ⟨1, 8, [.p (.v .nilFunc)], .sc, none⟩
  | 94 => some ⟨1, 8, [.p (.v .nilFunc)], .sc, none⟩
  | 95 => some ⟨1, 8, [.p (.v .nilFunc)], .sc, none⟩
  | 96 => some ⟨1, 8, [.p (.v .nilFunc)], .sc, none⟩
  | 97 => some ⟨1, 8, [.p (.v .nilFunc)], .sc, none⟩
  | 98 => some ⟨1, 8, [.p (.v .nilFunc)], .sc, none⟩
  | 99 => some ⟨1, 8, [.p (.v .nilFunc)], .sc, none⟩
  | 101 => some ⟨4, 32, [.p (.v (.int .i64 0)), .p (.v (.int .i64 0)), .p (.v (.int .i64 0)), .p (.v (.int .i64 0))], .struct [(0, 3), (1, 3), (2, 3), (3, 3)], some [.int .i64, .int .i64, .int .i64, .int .i64]⟩
  | 102 => some ⟨1, 8, [.p (.v .nilFunc)], .sc, none⟩
  | 103 => some ⟨1, 8, [.p (.v .nilFunc)], .sc, none⟩
  | 104 => some ⟨1, 8, [.p (.v .nilFunc)], .sc, none⟩
  | 105 => some ⟨1, 8, [.p (.v .nilFunc)], .sc, none⟩
  | 106 => some ⟨1, 8, [.p (.v .nilFunc)], .sc, none⟩
  | 107 => some ⟨1, 8, [.p (.v .nilFunc)], .sc, none⟩
  | 108 => some ⟨1, 8, [.p (.v .nilFunc)], .sc, none⟩
  | 109 => some ⟨1, 8, [.p (.v .nilFunc)], .sc, none⟩
  | 112 => some ⟨0, 0, [], .array 0 16, none⟩
  | 115 => some ⟨1, 8, [.p (.v .nilFunc)], .sc, none⟩
  | 116 => some ⟨1, 4, [.p (.v (.int .u32 0))], .int .u32, none⟩
  | 119 => some ⟨1, 8, [.p (.v .nilFunc)], .sc, none⟩
  | 120 => some ⟨1, 8, [.p (.v (.pointer none))], .sc, none⟩
  | _ => none
theorem Try.T1 : Try.T 1 = some ⟨1, 8, [.p (.v .nilFunc)], .sc, none⟩ := rfl
theorem Try.T2 : Try.T 2 = some ⟨1, 8, [.p (.v (.int .i64 0))], .int .i64, none⟩ := rfl
theorem Try.T3 : Try.T 3 = some ⟨1, 8, [.p (.v (.int .i64 0))], .int .i64, none⟩ := rfl
theorem Try.T4 : Try.T 4 = some ⟨1, 1, [.p (.v (.bool false))], .bool, none⟩ := rfl
theorem Try.T5 : Try.T 5 = some ⟨1, 1, [.p (.v (.int .u8 0))], .int .u8, none⟩ := rfl
theorem Try.T9 : Try.T 9 = some ⟨1, 16, [.p (.v (.string ByteArray.empty))], .str, none⟩ := rfl
theorem Try.T12 : Try.T 12 = some ⟨1, 8, [.p (.v (.int .u64 0))], .int .u64, none⟩ := rfl
theorem Try.T15 : Try.T 15 = some ⟨1, 8, [.p (.v (.pointer none))], .sc, none⟩ := rfl
theorem Try.T16 : Try.T 16 = some ⟨1, 8, [.p (.v (.pointer none))], .sc, none⟩ := rfl
theorem Try.T17 : Try.T 17 = some ⟨1, 8, [.p (.v (.pointer none))], .sc, none⟩ := rfl
theorem Try.T21 : Try.T 21 = some ⟨1, 4, [.p (.v (.int .i32 0))], .int .i32, none⟩ := rfl
theorem Try.T22 : Try.T 22 = some ⟨1, 24, [.nil 44], .slice 49, none⟩ := rfl
theorem Try.T23 : Try.T 23 = some ⟨1, 8, [.p (.v .nilFunc)], .sc, none⟩ := rfl
theorem Try.T24 : Try.T 24 = some ⟨1, 8, [.p (.v .nilFunc)], .sc, none⟩ := rfl
theorem Try.T26 : Try.T 26 = some ⟨2, 16, [.p (.v (.int .i64 0)), .p (.v (.int .i64 0))], .struct [(0, 3), (1, 3)], some [.int .i64, .int .i64]⟩ := rfl
theorem Try.T27 : Try.T 27 = some ⟨1, 24, [.nil 6], .slice 45, none⟩ := rfl
theorem Try.T29 : Try.T 29 = some ⟨10, 96, [.p (.v (.int .i64 0)), .p (.v (.int .i64 0)), .p (.v (.int .i64 0)), .p (.v (.int .i64 0)), .p (.v (.int .i64 0)), .p (.v (.int .i64 0)), .p (.v (.int .i64 0)), .p (.v (.int .i64 0)), .p (.v (.int .i64 0)), .nil 6], .struct [(0, 3), (1, 3), (2, 3), (3, 3), (4, 26), (6, 3), (7, 3), (8, 3), (9, 27)], none⟩ := rfl
theorem Try.T30 : Try.T 30 = some ⟨1, 8, [.p (.v (.int .i64 0))], .int .i64, none⟩ := rfl
theorem Try.T32 : Try.T 32 = some ⟨1, 8, [.p (.v .nilFunc)], .sc, none⟩ := rfl
theorem Try.T33 : Try.T 33 = some ⟨1, 8, [.p (.v .nilFunc)], .sc, none⟩ := rfl
theorem Try.T34 : Try.T 34 = some ⟨1, 24, [.nil 6], .slice 61, none⟩ := rfl
theorem Try.T35 : Try.T 35 = some ⟨1, 24, [.nil 4], .slice 101, none⟩ := rfl
theorem Try.T36 : Try.T 36 = some ⟨1, 24, [.nil 1], .slice 3, none⟩ := rfl
theorem Try.T38 : Try.T 38 = some ⟨3, 56, [.p (.v (.int .i64 0)), .nil 4, .nil 1], .struct [(0, 3), (1, 35), (2, 36)], none⟩ := rfl
theorem Try.T40 : Try.T 40 = some ⟨9, 120, [.p (.v (.int .i64 0)), .p (.v (.int .i64 0)), .p (.v (.int .i64 0)), .nil 6, .p (.v (.int .i64 0)), .nil 4, .nil 1, .p (.v (.int .i64 0)), .p (.v (.int .i64 0))], .struct [(0, 3), (1, 3), (2, 3), (3, 34), (4, 38), (7, 26)], none⟩ := rfl
theorem Try.T42 : Try.T 42 = some ⟨5, 56, [.p (.v (.string ByteArray.empty)), .p (.v (.string ByteArray.empty)), .p (.v (.int .i64 0)), .p (.v (.int .i64 0)), .p (.v (.int .i64 0))], .struct [(0, 9), (1, 9), (2, 3), (3, 3), (4, 3)], some [.str, .str, .int .i64, .int .i64, .int .i64]⟩ := rfl
theorem Try.T43 : Try.T 43 = some ⟨1, 24, [.nil 1], .slice 9, none⟩ := rfl
theorem Try.T45 : Try.T 45 = some ⟨6, 56, [.p (.v (.int .i64 0)), .p (.v (.int .i64 0)), .p (.v (.string ByteArray.empty)), .p (.v (.int .i64 0)), .p (.v (.int .i64 0)), .p (.v (.int .i64 0))], .struct [(0, 3), (1, 3), (2, 9), (3, 3), (4, 26)], some [.int .i64, .int .i64, .str, .int .i64, .int .i64, .int .i64]⟩ := rfl
theorem Try.T47 : Try.T 47 = some ⟨33, 368, [.p (.v (.int .i64 0)), .p (.v (.int .i64 0)), .p (.v (.int .i64 0)), .p (.v (.int .i64 0)), .p (.v (.int .i64 0)), .p (.v (.int .i64 0)), .p (.v (.int .i64 0)), .p (.v (.int .i64 0)), .p (.v (.int .i64 0)), .p (.v (.int .i64 0)), .nil 6, .p (.v (.int .i64 0)), .nil 4, .nil 1, .p (.v (.int .i64 0)), .p (.v (.int .i64 0)), .p (.v (.int .i64 0)), .p (.v (.string ByteArray.empty)), .p (.v (.bool false)), .p (.v (.int .i64 0)), .p (.v (.string ByteArray.empty)), .p (.v (.string ByteArray.empty)), .p (.v (.string ByteArray.empty)), .p (.v (.int .i64 0)), .p (.v (.int .i64 0)), .p (.v (.int .i64 0)), .nil 1, .p (.v (.int .i64 0)), .p (.v (.int .i64 0)), .p (.v (.string ByteArray.empty)), .p (.v (.int .i64 0)), .p (.v (.int .i64 0)), .p (.v (.int .i64 0))], .struct [(0, 3), (1, 3), (2, 3), (3, 3), (4, 3), (5, 26), (7, 40), (16, 3), (17, 9), (18, 4), (19, 30), (20, 9), (21, 42), (26, 43), (27, 45)], none⟩ := rfl
theorem Try.T49 : Try.T 49 = some ⟨44, 504, [.p (.v (.int .i64 0)), .p (.v (.int .i64 0)), .p (.v (.int .i64 0)), .p (.v (.int .i64 0)), .p (.v (.int .i64 0)), .nil 6, .p (.v (.int .i64 0)), .nil 4, .nil 1, .p (.v (.int .i64 0)), .p (.v (.int .i64 0)), .p (.v (.int .i64 0)), .p (.v (.int .i64 0)), .p (.v (.int .i64 0)), .p (.v (.int .i64 0)), .p (.v (.int .i64 0)), .p (.v (.int .i64 0)), .p (.v (.int .i64 0)), .p (.v (.int .i64 0)), .p (.v (.int .i64 0)), .p (.v (.int .i64 0)), .nil 6, .p (.v (.int .i64 0)), .nil 4, .nil 1, .p (.v (.int .i64 0)), .p (.v (.int .i64 0)), .p (.v (.int .i64 0)), .p (.v (.string ByteArray.empty)), .p (.v (.bool false)), .p (.v (.int .i64 0)), .p (.v (.string ByteArray.empty)), .p (.v (.string ByteArray.empty)), .p (.v (.string ByteArray.empty)), .p (.v (.int .i64 0)), .p (.v (.int .i64 0)), .p (.v (.int .i64 0)), .nil 1, .p (.v (.int .i64 0)), .p (.v (.int .i64 0)), .p (.v (.string ByteArray.empty)), .p (.v (.int .i64 0)), .p (.v (.int .i64 0)), .p (.v (.int .i64 0))], .struct [(0, 3), (1, 3), (2, 40), (11, 47)], none⟩ := rfl
theorem Try.T50 : Try.T 50 = some ⟨1, 24, [.nil 33], .slice 47, none⟩ := rfl
theorem Try.T51 : Try.T 51 = some ⟨1, 24, [.nil 36], .slice 59, none⟩ := rfl
theorem Try.T53 : Try.T 53 = some ⟨1, 8, [.p (.v .nilFunc)], .sc, none⟩ := rfl
theorem Try.T54 : Try.T 54 = some ⟨1, 8, [.p (.v .nilFunc)], .sc, none⟩ := rfl
theorem Try.T55 : Try.T 55 = some ⟨1, 8, [.p (.v .nilFunc)], .sc, none⟩ := rfl
theorem Try.T56 : Try.T 56 = some ⟨1, 8, [.p (.v .nilFunc)], .sc, none⟩ := rfl
theorem Try.T57 : Try.T 57 = some ⟨1, 8, [.p (.v .nilFunc)], .sc, none⟩ := rfl
theorem Try.T59 : Try.T 59 = some ⟨36, 392, [.p (.v (.int .i64 0)), .p (.v (.int .i64 0)), .p (.v (.bool false)), .p (.v (.int .i64 0)), .p (.v (.int .i64 0)), .p (.v (.int .i64 0)), .p (.v (.int .i64 0)), .p (.v (.int .i64 0)), .p (.v (.int .i64 0)), .p (.v (.int .i64 0)), .p (.v (.int .i64 0)), .p (.v (.int .i64 0)), .p (.v (.int .i64 0)), .nil 6, .p (.v (.int .i64 0)), .nil 4, .nil 1, .p (.v (.int .i64 0)), .p (.v (.int .i64 0)), .p (.v (.int .i64 0)), .p (.v (.string ByteArray.empty)), .p (.v (.bool false)), .p (.v (.int .i64 0)), .p (.v (.string ByteArray.empty)), .p (.v (.string ByteArray.empty)), .p (.v (.string ByteArray.empty)), .p (.v (.int .i64 0)), .p (.v (.int .i64 0)), .p (.v (.int .i64 0)), .nil 1, .p (.v (.int .i64 0)), .p (.v (.int .i64 0)), .p (.v (.string ByteArray.empty)), .p (.v (.int .i64 0)), .p (.v (.int .i64 0)), .p (.v (.int .i64 0))], .struct [(0, 3), (1, 3), (2, 4), (3, 47)], none⟩ := rfl
theorem Try.T61 : Try.T 61 = some ⟨6, 56, [.p (.v (.int .i64 0)), .p (.v (.string ByteArray.empty)), .p (.v (.string ByteArray.empty)), .p (.v (.int .i64 0)), .p (.v (.bool false)), .p (.v (.bool false))], .struct [(0, 3), (1, 9), (2, 9), (3, 3), (4, 4), (5, 4)], some [.int .i64, .str, .str, .int .i64, .bool, .bool]⟩ := rfl
theorem Try.T63 : Try.T 63 = some ⟨1, 8, [.p (.v .nilFunc)], .sc, none⟩ := rfl
theorem Try.T65 : Try.T 65 = some ⟨1, 8, [.p (.v .nilFunc)], .sc, none⟩ := rfl
theorem Try.T66 : Try.T 66 = some ⟨1, 8, [.p (.v .nilFunc)], .sc, none⟩ := rfl
theorem Try.T67 : Try.T 67 = some ⟨1, 8, [.p (.v (.int .u64 0))], .int .u64, none⟩ := rfl
theorem Try.T69 : Try.T 69 = some ⟨1, 8, [.p (.v .nilFunc)], .sc, none⟩ := rfl
theorem Try.T70 : Try.T 70 = some ⟨1, 8, [.p (.v .nilFunc)], .sc, none⟩ := rfl
theorem Try.T71 : Try.T 71 = some ⟨1, 8, [.p (.v .nilFunc)], .sc, none⟩ := rfl
theorem Try.T72 : Try.T 72 = some ⟨1, 8, [.p (.v .nilFunc)], .sc, none⟩ := rfl
theorem Try.T73 : Try.T 73 = some ⟨1, 24, [.nil 1], .slice 5, none⟩ := rfl
theorem Try.T74 : Try.T 74 = some ⟨1, 8, [.p (.v .nilFunc)], .sc, none⟩ := rfl
theorem Try.T75 : Try.T 75 = some ⟨1, 8, [.p (.v (.pointer none))], .sc, none⟩ := rfl
theorem Try.T76 : Try.T 76 = some ⟨1, 8, [.p (.v .nilFunc)], .sc, none⟩ := rfl
theorem Try.T78 : Try.T 78 = some ⟨11, 120, [.p (.v (.int .i64 0)), .p (.v (.int .i64 0)), .p (.v (.int .i64 0)), .p (.v (.int .i64 0)), .p (.v (.int .i64 0)), .p (.v (.int .i64 0)), .p (.v (.int .i64 0)), .p (.v (.int .i64 0)), .p (.v (.int .i64 0)), .nil 6, .nil 36], .struct [(0, 29), (10, 51)], none⟩ := rfl
theorem Try.T79 : Try.T 79 = some ⟨1, 8, [.p (.v .nilFunc)], .sc, none⟩ := rfl
theorem Try.T80 : Try.T 80 = some ⟨1, 8, [.p (.v .nilFunc)], .sc, none⟩ := rfl
theorem Try.T81 : Try.T 81 = some ⟨1, 8, [.p (.v .nilFunc)], .sc, none⟩ := rfl
theorem Try.T82 : Try.T 82 = some ⟨1, 8, [.p (.v (.int .u64 0))], .int .u64, none⟩ := rfl
theorem Try.T83 : Try.T 83 = some ⟨1, 8, [.p (.v .nilFunc)], .sc, none⟩ := rfl
theorem Try.T84 : Try.T 84 = some ⟨1, 8, [.p (.v .nilFunc)], .sc, none⟩ := rfl
theorem Try.T85 : Try.T 85 = some ⟨1, 8, [.p (.v .nilFunc)], .sc, none⟩ := rfl
theorem Try.T86 : Try.T 86 = some ⟨1, 8, [.p (.v .nilFunc)], .sc, none⟩ := rfl
theorem Try.T87 : Try.T 87 = some ⟨1, 8, [.p (.v .nilFunc)], .sc, none⟩ := rfl
theorem Try.T88 : Try.T 88 = some ⟨1, 8, [.p (.v .nilFunc)], .sc, none⟩ := rfl
theorem Try.T89 : Try.T 89 = some ⟨1, 8, [.p (.v .nilFunc)], .sc, none⟩ := rfl
theorem Try.T90 : Try.T 90 = some ⟨1, 8, [.p (.v .nilFunc)], .sc, none⟩ := rfl
theorem Try.T91 : Try.T 91 = some ⟨1, 8, [.p (.v .nilFunc)], .sc, none⟩ := rfl
theorem Try.T92 : Try.T 92 = some ⟨1, 8, [.p (.v .nilFunc)], .sc, none⟩ := rfl
theorem Try.T93 : Try.T 93 = some ⟨1, 8, [.p (.v .nilFunc)], .sc, none⟩ := rfl
theorem Try.T94 : Try.T 94 = some ⟨1, 8, [.p (.v .nilFunc)], .sc, none⟩ := rfl
theorem Try.T95 : Try.T 95 = some ⟨1, 8, [.p (.v .nilFunc)], .sc, none⟩ := rfl
theorem Try.T96 : Try.T 96 = some ⟨1, 8, [.p (.v .nilFunc)], .sc, none⟩ := rfl
theorem Try.T97 : Try.T 97 = some ⟨1, 8, [.p (.v .nilFunc)], .sc, none⟩ := rfl
theorem Try.T98 : Try.T 98 = some ⟨1, 8, [.p (.v .nilFunc)], .sc, none⟩ := rfl
theorem Try.T99 : Try.T 99 = some ⟨1, 8, [.p (.v .nilFunc)], .sc, none⟩ := rfl
theorem Try.T101 : Try.T 101 = some ⟨4, 32, [.p (.v (.int .i64 0)), .p (.v (.int .i64 0)), .p (.v (.int .i64 0)), .p (.v (.int .i64 0))], .struct [(0, 3), (1, 3), (2, 3), (3, 3)], some [.int .i64, .int .i64, .int .i64, .int .i64]⟩ := rfl
theorem Try.T102 : Try.T 102 = some ⟨1, 8, [.p (.v .nilFunc)], .sc, none⟩ := rfl
theorem Try.T103 : Try.T 103 = some ⟨1, 8, [.p (.v .nilFunc)], .sc, none⟩ := rfl
theorem Try.T104 : Try.T 104 = some ⟨1, 8, [.p (.v .nilFunc)], .sc, none⟩ := rfl
theorem Try.T105 : Try.T 105 = some ⟨1, 8, [.p (.v .nilFunc)], .sc, none⟩ := rfl
theorem Try.T106 : Try.T 106 = some ⟨1, 8, [.p (.v .nilFunc)], .sc, none⟩ := rfl
theorem Try.T107 : Try.T 107 = some ⟨1, 8, [.p (.v .nilFunc)], .sc, none⟩ := rfl
theorem Try.T108 : Try.T 108 = some ⟨1, 8, [.p (.v .nilFunc)], .sc, none⟩ := rfl
theorem Try.T109 : Try.T 109 = some ⟨1, 8, [.p (.v .nilFunc)], .sc, none⟩ := rfl
theorem Try.T112 : Try.T 112 = some ⟨0, 0, [], .array 0 16, none⟩ := rfl
theorem Try.T115 : Try.T 115 = some ⟨1, 8, [.p (.v .nilFunc)], .sc, none⟩ := rfl
theorem Try.T116 : Try.T 116 = some ⟨1, 4, [.p (.v (.int .u32 0))], .int .u32, none⟩ := rfl
theorem Try.T119 : Try.T 119 = some ⟨1, 8, [.p (.v .nilFunc)], .sc, none⟩ := rfl
theorem Try.T120 : Try.T 120 = some ⟨1, 8, [.p (.v (.pointer none))], .sc, none⟩ := rfl
def Try.zOf (y : Ty) : Value :=
  let vs : List Value := y.zero.map fun | .p (.v v) => v | _ => .slice none 0 0
  if y.kd.isAgg then .agg vs.toArray else vs.headD (.slice none 0 0)
abbrev Try.tyZ {t : TypeId} {y : Ty} := @TyOK.of Try.prog t y (Try.zOf y)
set_option maxRecDepth 100000 in
set_option maxHeartbeats 40000000 in
theorem Try.tab : TabOK Try.prog Try.T := by
  intro t y h
  unfold Try.T at h
  split at h
  all_goals first | (simp at h; done) | (obtain rfl := Option.some.inj h)
  all_goals first | exact Try.ty26 | exact Try.ty42 | exact Try.ty45 | exact Try.ty61 | exact Try.ty101 | (refine Try.tyZ (by kernel_rfl) rfl (by first | rfl | decide | (simp [Try.zOf, Kd.isAgg, Value.cells, zval, scal])) rfl (by first | exact rfl | kernel_rfl | exact structOf_spec (by kernel_rfl) | exact scOf_spec (by kernel_rfl)) (by intro cs h; first | rfl | (simp [Try.zOf, Kd.isAgg] at h)) (by intro ks h; simp at h))
theorem Try.mixed : Try.prog.follows .mixedOrders = true := by kernel_rfl
end Go.Proofs.Ytefhnofdfnmiaaa
