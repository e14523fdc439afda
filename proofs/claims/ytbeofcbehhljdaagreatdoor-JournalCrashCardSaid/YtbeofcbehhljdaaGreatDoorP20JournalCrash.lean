/- Texts that the proof needs: Tab. -/
import Derived.Test.YtbeofcbehhljdaaGreatDoorProg
import Derived.Test.YtbeofcbehhljdaaGreatDoorP12JournalCrash
import Derived.WalkKit
import Derived.WalkSpells
import Derived.KernelRfl
namespace Go.Proofs.YtbeofcbehhljdaaGreatDoor
open Go Go.Av
instance Tryz.glob : Glob where
 g
  | 2 => some [.v (.int .u8 0), .v (.int .u8 1), .v (.int .u8 28), .v (.int .u8 2), .v (.int .u8 29), .v (.int .u8 14), .v (.int .u8 24), .v (.int .u8 3), .v (.int .u8 30), .v (.int .u8 22), .v (.int .u8 20), .v (.int .u8 15), .v (.int .u8 25), .v (.int .u8 17), .v (.int .u8 4), .v (.int .u8 8), .v (.int .u8 31), .v (.int .u8 27), .v (.int .u8 13), .v (.int .u8 23), .v (.int .u8 21), .v (.int .u8 19), .v (.int .u8 16), .v (.int .u8 7), .v (.int .u8 26), .v (.int .u8 12), .v (.int .u8 18), .v (.int .u8 6), .v (.int .u8 11), .v (.int .u8 5), .v (.int .u8 10), .v (.int .u8 9)]
  | 3 => some [.v (.int .u8 0), .v (.int .u8 1), .v (.int .u8 56), .v (.int .u8 2), .v (.int .u8 57), .v (.int .u8 49), .v (.int .u8 28), .v (.int .u8 3), .v (.int .u8 61), .v (.int .u8 58), .v (.int .u8 42), .v (.int .u8 50), .v (.int .u8 38), .v (.int .u8 29), .v (.int .u8 17), .v (.int .u8 4), .v (.int .u8 62), .v (.int .u8 47), .v (.int .u8 59), .v (.int .u8 36), .v (.int .u8 45), .v (.int .u8 43), .v (.int .u8 51), .v (.int .u8 22), .v (.int .u8 53), .v (.int .u8 39), .v (.int .u8 33), .v (.int .u8 30), .v (.int .u8 24), .v (.int .u8 18), .v (.int .u8 12), .v (.int .u8 5), .v (.int .u8 63), .v (.int .u8 55), .v (.int .u8 48), .v (.int .u8 27), .v (.int .u8 60), .v (.int .u8 41), .v (.int .u8 37), .v (.int .u8 16), .v (.int .u8 46), .v (.int .u8 35), .v (.int .u8 44), .v (.int .u8 21), .v (.int .u8 52), .v (.int .u8 32), .v (.int .u8 23), .v (.int .u8 11), .v (.int .u8 54), .v (.int .u8 26), .v (.int .u8 40), .v (.int .u8 15), .v (.int .u8 34), .v (.int .u8 20), .v (.int .u8 31), .v (.int .u8 10), .v (.int .u8 25), .v (.int .u8 14), .v (.int .u8 19), .v (.int .u8 9), .v (.int .u8 13), .v (.int .u8 8), .v (.int .u8 7), .v (.int .u8 6)]
  | 1 => some [.v (.int .u64 1), .v (.int .u64 10), .v (.int .u64 100), .v (.int .u64 1000), .v (.int .u64 10000), .v (.int .u64 100000), .v (.int .u64 1000000), .v (.int .u64 10000000), .v (.int .u64 100000000), .v (.int .u64 1000000000), .v (.int .u64 10000000000), .v (.int .u64 100000000000), .v (.int .u64 1000000000000), .v (.int .u64 10000000000000), .v (.int .u64 100000000000000), .v (.int .u64 1000000000000000), .v (.int .u64 10000000000000000), .v (.int .u64 100000000000000000), .v (.int .u64 1000000000000000000), .v (.int .u64 10000000000000000000)]
  | 0 => some [.v (.int .u32 0), .v (.int .u32 274646895), .v (.int .u32 549293790), .v (.int .u32 820201905), .v (.int .u32 1098587580), .v (.int .u32 1361435347), .v (.int .u32 1640403810), .v (.int .u32 1905808397), .v (.int .u32 2197175160), .v (.int .u32 2460548119), .v (.int .u32 2722870694), .v (.int .u32 2987750089), .v (.int .u32 3280807620), .v (.int .u32 3553878443), .v (.int .u32 3811616794), .v (.int .u32 4084100981)]
  | _ => none
theorem Tryz.ty42 : TyOK Tryz.prog 42 ⟨2, 16, [.p (.v (.int .i64 0)), .p (.v (.int .i64 0))], .struct [(0, 3), (1, 3)], some [.int .i64, .int .i64]⟩ := by
 refine TyOK.of (z := .agg #[.int .i64 0, .int .i64 0]) (by kernel_rfl) rfl (by first | rfl | decide | (simp [Value.cells, zval, scal])) rfl ?_ ?_ ?_
 ·exact structOf_spec (by kernel_rfl)
 ·intro cs h; first | rfl | (simp at h)
 ·intro ks h; simp only [Option.some.injEq] at h; subst h; refine ⟨rfl, fun xs ys hx hy w => ⟨?_, by kernel_rfl⟩⟩
  obtain ⟨_, _, rfl, ⟨x0, rfl⟩, hx⟩ := hx; obtain ⟨_, _, rfl, ⟨x1, rfl⟩, hx⟩ := hx; subst hx
  obtain ⟨_, _, rfl, ⟨y0, rfl⟩, hy⟩ := hy; obtain ⟨_, _, rfl, ⟨y1, rfl⟩, hy⟩ := hy; subst hy
  show (Op.equalIn 10000 42 (.agg #[.int .i64 x0, .int .i64 x1]) (.agg #[.int .i64 y0, .int .i64 y1])).run Tryz.prog w = _
  go_simp
  simp only [ceq, veq]
  all_goals (repeat' split)
  all_goals simp_all
theorem Tryz.ty51 : TyOK Tryz.prog 51 ⟨5, 56, [.p (.v (.string ByteArray.empty)), .p (.v (.string ByteArray.empty)), .p (.v (.int .i64 0)), .p (.v (.int .i64 0)), .p (.v (.int .i64 0))], .struct [(0, 9), (1, 9), (2, 3), (3, 3), (4, 3)], some [.str, .str, .int .i64, .int .i64, .int .i64]⟩ := by
 refine TyOK.of (z := .agg #[.string ByteArray.empty, .string ByteArray.empty, .int .i64 0, .int .i64 0, .int .i64 0]) (by kernel_rfl) rfl (by first | rfl | decide | (simp [Value.cells, zval, scal])) rfl ?_ ?_ ?_
 ·exact structOf_spec (by kernel_rfl)
 ·intro cs h; first | rfl | (simp at h)
 ·intro ks h; simp only [Option.some.injEq] at h; subst h; refine ⟨rfl, fun xs ys hx hy w => ⟨?_, by kernel_rfl⟩⟩
  obtain ⟨_, _, rfl, ⟨x0, rfl⟩, hx⟩ := hx; obtain ⟨_, _, rfl, ⟨x1, rfl⟩, hx⟩ := hx; obtain ⟨_, _, rfl, ⟨x2, rfl⟩, hx⟩ := hx; obtain ⟨_, _, rfl, ⟨x3, rfl⟩, hx⟩ := hx; obtain ⟨_, _, rfl, ⟨x4, rfl⟩, hx⟩ := hx; subst hx
  obtain ⟨_, _, rfl, ⟨y0, rfl⟩, hy⟩ := hy; obtain ⟨_, _, rfl, ⟨y1, rfl⟩, hy⟩ := hy; obtain ⟨_, _, rfl, ⟨y2, rfl⟩, hy⟩ := hy; obtain ⟨_, _, rfl, ⟨y3, rfl⟩, hy⟩ := hy; obtain ⟨_, _, rfl, ⟨y4, rfl⟩, hy⟩ := hy; subst hy
  show (Op.equalIn 10000 51 (.agg #[.string x0, .string x1, .int .i64 x2, .int .i64 x3, .int .i64 x4]) (.agg #[.string y0, .string y1, .int .i64 y2, .int .i64 y3, .int .i64 y4])).run Tryz.prog w = _
  go_simp
  simp only [ceq, veq]
  all_goals (repeat' split)
  all_goals simp_all
theorem Tryz.ty107 : TyOK Tryz.prog 107 ⟨4, 32, [.p (.v (.int .i64 0)), .p (.v (.int .i64 0)), .p (.v (.int .i64 0)), .p (.v (.int .i64 0))], .struct [(0, 3), (1, 3), (2, 3), (3, 3)], some [.int .i64, .int .i64, .int .i64, .int .i64]⟩ := by
 refine TyOK.of (z := .agg #[.int .i64 0, .int .i64 0, .int .i64 0, .int .i64 0]) (by kernel_rfl) rfl (by first | rfl | decide | (simp [Value.cells, zval, scal])) rfl ?_ ?_ ?_
 ·exact structOf_spec (by kernel_rfl)
 ·intro cs h; first | rfl | (simp at h)
 ·intro ks h; simp only [Option.some.injEq] at h; subst h; refine ⟨rfl, fun xs ys hx hy w => ⟨?_, by kernel_rfl⟩⟩
  obtain ⟨_, _, rfl, ⟨x0, rfl⟩, hx⟩ := hx; obtain ⟨_, _, rfl, ⟨x1, rfl⟩, hx⟩ := hx; obtain ⟨_, _, rfl, ⟨x2, rfl⟩, hx⟩ := hx; obtain ⟨_, _, rfl, ⟨x3, rfl⟩, hx⟩ := hx; subst hx
  obtain ⟨_, _, rfl, ⟨y0, rfl⟩, hy⟩ := hy; obtain ⟨_, _, rfl, ⟨y1, rfl⟩, hy⟩ := hy; obtain ⟨_, _, rfl, ⟨y2, rfl⟩, hy⟩ := hy; obtain ⟨_, _, rfl, ⟨y3, rfl⟩, hy⟩ := hy; subst hy
  show (Op.equalIn 10000 107 (.agg #[.int .i64 x0, .int .i64 x1, .int .i64 x2, .int .i64 x3]) (.agg #[.int .i64 y0, .int .i64 y1, .int .i64 y2, .int .i64 y3])).run Tryz.prog w = _
  go_simp
  simp only [ceq, veq]
  all_goals (repeat' split)
  all_goals simp_all
def Tryz.T : TypeId -> Option Ty
 | 1 => some ⟨1, 8, [.p (.v .nilFunc)], .sc, none⟩
 | 2 => some ⟨1, 8, [.p (.v (.int .i64 0))], .int .i64, none⟩
 | 3 => some ⟨1, 8, [.p (.v (.int .i64 0))], .int .i64, none⟩
 | 4 => some ⟨1, 1, [.p (.v (.bool false))], .bool, none⟩
 | 5 => some ⟨1, 1, [.p (.v (.int .u8 0))], .int .u8, none⟩
 | 9 => some ⟨1, 16, [.p (.v (.string ByteArray.empty))], .str, none⟩
 | 12 => some ⟨1, 8, [.p (.v (.int .u64 0))], .int .u64, none⟩
 | 15 => some ⟨1, 8, [.p (.v (.pointer none))], .sc, none⟩
 | 16 => some ⟨1, 8, [.p (.v (.pointer none))], .sc, none⟩
 | 17 => some ⟨1, 8, [.p (.v (.pointer none))], .sc, none⟩
 | 21 => some ⟨1, 4, [.p (.v (.int .i32 0))], .int .i32, none⟩
 | 22 => some ⟨1, 24, [.nil 1], .slice 31, none⟩
 | 23 => some ⟨1, 24, [.nil 1], .slice 3, none⟩
 | 24 => some ⟨1, 8, [.p (.v .nilFunc)], .sc, none⟩
 | 25 => some ⟨1, 8, [.p (.v .nilFunc)], .sc, none⟩
 | 26 => some ⟨1, 24, [.nil 3], .slice 62, none⟩
 | 28 => some ⟨4, 48, [.nil 3, .p (.v (.int .i64 0)), .p (.v (.int .i64 0)), .p (.v (.bool false))], .struct [(0, 26), (1, 3), (2, 3), (3, 4)], none⟩
 | 29 => some ⟨1, 8, [.p (.v .nilFunc)], .sc, none⟩
 | 30 => some ⟨1, 8, [.p (.v .nilFunc)], .sc, none⟩
 | 31 => some ⟨1, 24, [.nil 8], .slice 45, none⟩
 | 32 => some ⟨1, 8, [.p (.v (.int .i64 0))], .int .i64, none⟩
 | 34 => some ⟨1, 8, [.p (.v .nilFunc)], .sc, none⟩
 | 35 => some ⟨1, 8, [.p (.v .nilFunc)], .sc, none⟩
 | 36 => some ⟨1, 8, [.p (.v .nilFunc)], .sc, none⟩
 | 38 => some ⟨1, 8, [.p (.v .nilFunc)], .sc, none⟩
 | 39 => some ⟨1, 8, [.p (.v .nilFunc)], .sc, none⟩
 | 40 => some ⟨1, 8, [.p (.v .nilFunc)], .sc, none⟩
 | 42 => some ⟨2, 16, [.p (.v (.int .i64 0)), .p (.v (.int .i64 0))], .struct [(0, 3), (1, 3)], some [.int .i64, .int .i64]⟩
 | 43 => some ⟨1, 24, [.nil 11], .slice 53, none⟩
 | 45 => some ⟨8, 88, [.p (.v (.int .i64 0)), .p (.v (.int .i64 0)), .p (.v (.int .i64 0)), .p (.v (.int .i64 0)), .p (.v (.int .i64 0)), .p (.v (.int .i64 0)), .p (.v (.string ByteArray.empty)), .nil 11], .struct [(0, 42), (2, 3), (3, 3), (4, 32), (5, 3), (6, 9), (7, 43)], none⟩
 | 46 => some ⟨1, 8, [.p (.v .nilFunc)], .sc, none⟩
 | 47 => some ⟨1, 24, [.nil 4], .slice 107, none⟩
 | 49 => some ⟨4, 48, [.p (.v (.int .i64 0)), .p (.v (.int .i64 0)), .p (.v (.int .i64 0)), .nil 4], .struct [(0, 42), (2, 3), (3, 47)], none⟩
 | 51 => some ⟨5, 56, [.p (.v (.string ByteArray.empty)), .p (.v (.string ByteArray.empty)), .p (.v (.int .i64 0)), .p (.v (.int .i64 0)), .p (.v (.int .i64 0))], .struct [(0, 9), (1, 9), (2, 3), (3, 3), (4, 3)], some [.str, .str, .int .i64, .int .i64, .int .i64]⟩
 | 53 => some ⟨11, 120, [.p (.v (.int .i64 0)), .p (.v (.string ByteArray.empty)), .p (.v (.string ByteArray.empty)), .p (.v (.int .i64 0)), .p (.v (.int .i64 0)), .p (.v (.int .i64 0)), .p (.v (.int .i64 0)), .p (.v (.int .i64 0)), .p (.v (.int .i64 0)), .p (.v (.int .i64 0)), .nil 4], .struct [(0, 3), (1, 51), (6, 3), (7, 49)], none⟩
 | 54 => some ⟨1, 8, [.p (.v .nilFunc)], .sc, none⟩
 | 55 => some ⟨1, 24, [.nil 1], .slice 5, none⟩
 | 57 => some ⟨1, 8, [.p (.v .nilFunc)], .sc, none⟩
 | 58 => some ⟨1, 8, [.p (.v .nilFunc)], .sc, none⟩
 | 59 => some ⟨1, 8, [.p (.v .nilFunc)], .sc, none⟩
 | 60 => some ⟨1, 8, [.p (.v (.pointer none))], .sc, none⟩
 | 62 => some ⟨3, 48, [.p (.v (.string ByteArray.empty)), .nil 1, .p (.v (.int .i64 0))], .struct [(0, 9), (1, 55), (2, 3)], none⟩
 | 64 => some ⟨1, 8, [.p (.v .nilFunc)], .sc, none⟩
 | 65 => some ⟨1, 8, [.p (.v .nilFunc)], .sc, none⟩
 | 66 => some ⟨1, 8, [.p (.v .nilFunc)], .sc, none⟩
 | 67 => some ⟨1, 8, [.p (.v .nilFunc)], .sc, none⟩
 | 68 => some ⟨1, 8, [.p (.v .nilFunc)], .sc, none⟩
 | 69 => some ⟨1, 8, [.p (.v .nilFunc)], .sc, none⟩
 | 70 => some ⟨1, 8, [.p (.v .nilFunc)], .sc, none⟩
 | 71 => some ⟨1, 8, [.p (.v .nilFunc)], .sc, none⟩
 | 72 => some ⟨1, 8, [.p (.v .nilFunc)], .sc, none⟩
 | 74 => some ⟨1, 8, [.p (.v .nilFunc)], .sc, none⟩
 | 75 => some ⟨1, 8, [.p (.v .nilFunc)], .sc, none⟩
 | 76 => some ⟨1, 8, [.p (.v .nilFunc)], .sc, none⟩
 | 77 => some ⟨1, 8, [.p (.v (.pointer none))], .sc, none⟩
 | 78 => some ⟨1, 8, [.p (.v .nilFunc)], .sc, none⟩
 | 79 => some ⟨1, 8, [.p (.v .nilFunc)], .sc, none⟩
 | 80 => some ⟨1, 8, [.p (.v .nilFunc)], .sc, none⟩
 | 82 => some ⟨1, 8, [.p (.v .nilFunc)], .sc, none⟩
 | 84 => some ⟨1, 8, [.p (.v .nilFunc)], .sc, none⟩
 | 85 => some ⟨1, 8, [.p (.v .nilFunc)], .sc, none⟩
 | 86 => some ⟨1, 8, [.p (.v .nilFunc)], .sc, none⟩
 | 87 => some ⟨1, 8, [.p (.v .nilFunc)], .sc, none⟩
 | 88 => some ⟨1, 8, [.p (.v .nilFunc)], .sc, none⟩
 | 89 => some ⟨1, 4, [.p (.v (.int .u32 0))], .int .u32, none⟩
 | 90 => some ⟨1, 8, [.p (.v .nilFunc)], .sc, none⟩
 | 91 => some ⟨1, 8, [.p (.v .nilFunc)], .sc, none⟩
 | 92 => some ⟨1, 8, [.p (.v .nilFunc)], .sc, none⟩
 | 93 => some ⟨1, 8, [.p (.v .nilFunc)], .sc, none⟩
 | 94 => some ⟨1, 8, [.p (.v (.pointer none))], .sc, none⟩
 | 95 => some ⟨1, 8, [.p (.v .nilFunc)], .sc, none⟩
 | 96 => some ⟨1, 8, [.p (.v .nilFunc)], .sc, none⟩
 | 97 => some ⟨1, 8, [.p (.v .nilFunc)], .sc, none⟩
 | 98 => some ⟨1, 8, [.p (.v .nilFunc)], .sc, none⟩
 | 99 => some ⟨1, 8, [.p (.v .nilFunc)], .sc, none⟩
 | 100 => some ⟨1, 8, [.p (.v .nilFunc)], .sc, none⟩
 | 101 => some ⟨1, 8, [.p (.v (.pointer none))], .sc, none⟩
 | 102 => some ⟨1, 8, [.p (.v .nilFunc)], .sc, none⟩
 | 103 => some ⟨1, 8, [.p (.v .nilFunc)], .sc, none⟩
 | 104 => some ⟨1, 8, [.p (.v .nilFunc)], .sc, none⟩
 | 105 => some ⟨1, 8, [.p (.v (.pointer none))], .sc, none⟩
 | 107 => some ⟨4, 32, [.p (.v (.int .i64 0)), .p (.v (.int .i64 0)), .p (.v (.int .i64 0)), .p (.v (.int .i64 0))], .struct [(0, 3), (1, 3), (2, 3), (3, 3)], some [.int .i64, .int .i64, .int .i64, .int .i64]⟩
 | 108 => some ⟨1, 8, [.p (.v .nilFunc)], .sc, none⟩
 | 109 => some ⟨1, 8, [.p (.v (.int .u64 0))], .int .u64, none⟩
 | 110 => some ⟨1, 8, [.p (.v (.int .u64 0))], .int .u64, none⟩
 | 111 => some ⟨16, 64, [.p (.v (.int .u32 0)), .p (.v (.int .u32 0)), .p (.v (.int .u32 0)), .p (.v (.int .u32 0)), .p (.v (.int .u32 0)), .p (.v (.int .u32 0)), .p (.v (.int .u32 0)), .p (.v (.int .u32 0)), .p (.v (.int .u32 0)), .p (.v (.int .u32 0)), .p (.v (.int .u32 0)), .p (.v (.int .u32 0)), .p (.v (.int .u32 0)), .p (.v (.int .u32 0)), .p (.v (.int .u32 0)), .p (.v (.int .u32 0))], .array 16 89, none⟩
 | 113 => some ⟨1, 24, [.nil 1], .struct [(0, 55)], none⟩
 | 114 => some ⟨1, 8, [.p (.v .nilFunc)], .sc, none⟩
 | 115 => some ⟨1, 8, [.p (.v .nilFunc)], .sc, none⟩
 | 116 => some ⟨1, 8, [.p (.v .nilFunc)], .sc, none⟩
 | 117 => some ⟨1, 8, [.p (.v .nilFunc)], .sc, none⟩
 | 118 => some ⟨1, 8, [.p (.v .nilFunc)], .sc, none⟩
 | 119 => some ⟨1, 8, [.p (.v .nilFunc)], .sc, none⟩
 | 121 => some ⟨2, 32, [.nil 1, .p (.v (.int .i64 0))], .struct [(0, 55), (1, 3)], none⟩
 | 122 => some ⟨1, 8, [.p (.v .nilFunc)], .sc, none⟩
 | 123 => some ⟨1, 8, [.p (.v .nilFunc)], .sc, none⟩
 | 124 => some ⟨1, 8, [.p (.v .nilFunc)], .sc, none⟩
 | 125 => some ⟨1, 8, [.p (.v .nilFunc)], .sc, none⟩
 | 127 => some ⟨2, 32, [.nil 1, .p (.v (.int .i64 0))], .struct [(0, 55), (1, 3)], none⟩
 | 128 => some ⟨1, 8, [.p (.v .nilFunc)], .sc, none⟩
 | 129 => some ⟨1, 8, [.p (.v .nilFunc)], .sc, none⟩
 | 130 => some ⟨1, 8, [.p (.v .nilFunc)], .sc, none⟩
 | 131 => some ⟨1, 8, [.p (.v .nilFunc)], .sc, none⟩
 | 132 => some ⟨1, 8, [.p (.v .nilFunc)], .sc, none⟩
 | 133 => some ⟨1, 8, [.p (.v .nilFunc)], .sc, none⟩
 | 134 => some ⟨24, 24, [.p (.v (.int .u8 0)), .p (.v (.int .u8 0)), .p (.v (.int .u8 0)), .p (.v (.int .u8 0)), .p (.v (.int .u8 0)), .p (.v (.int .u8 0)), .p (.v (.int .u8 0)), .p (.v (.int .u8 0)), .p (.v (.int .u8 0)), .p (.v (.int .u8 0)), .p (.v (.int .u8 0)), .p (.v (.int .u8 0)), .p (.v (.int .u8 0)), .p (.v (.int .u8 0)), .p (.v (.int .u8 0)), .p (.v (.int .u8 0)), .p (.v (.int .u8 0)), .p (.v (.int .u8 0)), .p (.v (.int .u8 0)), .p (.v (.int .u8 0)), .p (.v (.int .u8 0)), .p (.v (.int .u8 0)), .p (.v (.int .u8 0)), .p (.v (.int .u8 0))], .array 24 5, none⟩
 | 135 => some ⟨1, 8, [.p (.v .nilFunc)], .sc, none⟩
 | 136 => some ⟨1, 8, [.p (.v .nilFunc)], .sc, none⟩
 | 138 => some ⟨1, 8, [.p (.v .nilFunc)], .sc, none⟩
 | 139 => some ⟨1, 8, [.p (.v .nilFunc)], .sc, none⟩
 | 140 => some ⟨1, 8, [.p (.v .nilFunc)], .sc, none⟩
 | 141 => some ⟨1, 8, [.p (.v .nilFunc)], .sc, none⟩
 | 142 => some ⟨1, 8, [.p (.v .nilFunc)], .sc, none⟩
 | 143 => some ⟨1, 8, [.p (.v (.int .i64 0))], .int .i64, none⟩
 | 145 => some ⟨1, 8, [.p (.v .nilFunc)], .sc, none⟩
 | 147 => some ⟨1, 8, [.p (.v .nilFunc)], .sc, none⟩
 | 148 => some ⟨1, 8, [.p (.v .nilFunc)], .sc, none⟩
 | 149 => some ⟨1, 8, [.p (.v .nilFunc)], .sc, none⟩
 | 150 => some ⟨1, 8, [.p (.v .nilFunc)], .sc, none⟩
 | 151 => some ⟨20, 160, [.p (.v (.int .u64 0)), .p (.v (.int .u64 0)), .p (.v (.int .u64 0)), .p (.v (.int .u64 0)), .p (.v (.int .u64 0)), .p (.v (.int .u64 0)), .p (.v (.int .u64 0)), .p (.v (.int .u64 0)), .p (.v (.int .u64 0)), .p (.v (.int .u64 0)), .p (.v (.int .u64 0)), .p (.v (.int .u64 0)), .p (.v (.int .u64 0)), .p (.v (.int .u64 0)), .p (.v (.int .u64 0)), .p (.v (.int .u64 0)), .p (.v (.int .u64 0)), .p (.v (.int .u64 0)), .p (.v (.int .u64 0)), .p (.v (.int .u64 0))], .array 20 109, none⟩
 | 153 => some ⟨1, 8, [.p (.v .nilFunc)], .sc, none⟩
 | 154 => some ⟨1, 8, [.p (.v .nilFunc)], .sc, none⟩
 | 155 => some ⟨1, 8, [.p (.v .nilFunc)], .sc, none⟩
 | 156 => some ⟨1, 8, [.p (.v .nilFunc)], .sc, none⟩
 | 157 => some ⟨1, 8, [.p (.v .nilFunc)], .sc, none⟩
 | 158 => some ⟨1, 8, [.p (.v .nilFunc)], .sc, none⟩
 | 159 => some ⟨1, 8, [.p (.v .nilFunc)], .sc, none⟩
 | 160 => some ⟨1, 8, [.p (.v .nilFunc)], .sc, none⟩
 | 161 => some ⟨1, 8, [.p (.v .nilFunc)], .sc, none⟩
 | 162 => some ⟨1, 8, [.p (.v .nilFunc)], .sc, none⟩
 | 163 => some ⟨1, 8, [.p (.v .nilFunc)], .sc, none⟩
 | 164 => some ⟨1, 8, [.p (.v .nilFunc)], .sc, none⟩
 | 165 => some ⟨1, 8, [.p (.v .nilFunc)], .sc, none⟩
 | 166 => some ⟨32, 32, [.p (.v (.int .u8 0)), .p (.v (.int .u8 0)), .p (.v (.int .u8 0)), .p (.v (.int .u8 0)), .p (.v (.int .u8 0)), .p (.v (.int .u8 0)), .p (.v (.int .u8 0)), .p (.v (.int .u8 0)), .p (.v (.int .u8 0)), .p (.v (.int .u8 0)), .p (.v (.int .u8 0)), .p (.v (.int .u8 0)), .p (.v (.int .u8 0)), .p (.v (.int .u8 0)), .p (.v (.int .u8 0)), .p (.v (.int .u8 0)), .p (.v (.int .u8 0)), .p (.v (.int .u8 0)), .p (.v (.int .u8 0)), .p (.v (.int .u8 0)), .p (.v (.int .u8 0)), .p (.v (.int .u8 0)), .p (.v (.int .u8 0)), .p (.v (.int .u8 0)), .p (.v (.int .u8 0)), .p (.v (.int .u8 0)), .p (.v (.int .u8 0)), .p (.v (.int .u8 0)), .p (.v (.int .u8 0)), .p (.v (.int .u8 0)), .p (.v (.int .u8 0)), .p (.v (.int .u8 0))], .array 32 5, none⟩
 | 167 => some ⟨64, 64, [.p (.v (.int .u8 0)), .p (.v (.int .u8 0)), .p (.v (.int .u8 0)), .p (.v (.int .u8 0)), .p (.v (.int .u8 0)), .p (.v (.int .u8 0)), .p (.v (.int .u8 0)), .p (.v (.int .u8 0)), .p (.v (.int .u8 0)), .p (.v (.int .u8 0)), .p (.v (.int .u8 0)), .p (.v (.int .u8 0)), .p (.v (.int .u8 0)), .p (.v (.int .u8 0)), .p (.v (.int .u8 0)), .p (.v (.int .u8 0)), .p (.v (.int .u8 0)), .p (.v (.int .u8 0)), .p (.v (.int .u8 0)), .p (.v (.int .u8 0)), .p (.v (.int .u8 0)), .p (.v (.int .u8 0)), .p (.v (.int .u8 0)), .p (.v (.int .u8 0)), .p (.v (.int .u8 0)), .p (.v (.int .u8 0)), .p (.v (.int .u8 0)), .p (.v (.int .u8 0)), .p (.v (.int .u8 0)), .p (.v (.int .u8 0)), .p (.v (.int .u8 0)), .p (.v (.int .u8 0)), .p (.v (.int .u8 0)), .p (.v (.int .u8 0)), .p (.v (.int .u8 0)), .p (.v (.int .u8 0)), .p (.v (.int .u8 0)), .p (.v (.int .u8 0)), .p (.v (.int .u8 0)), .p (.v (.int .u8 0)), .p (.v (.int .u8 0)), .p (.v (.int .u8 0)), .p (.v (.int .u8 0)), .p (.v (.int .u8 0)), .p (.v (.int .u8 0)), .p (.v (.int .u8 0)), .p (.v (.int .u8 0)), .p (.v (.int .u8 0)), .p (.v (.int .u8 0)), .p (.v (.int .u8 0)), .p (.v (.int .u8 0)), .p (.v (.int .u8 0)), .p (.v (.int .u8 0)), .p (.v (.int .u8 0)), .p (.v (.int .u8 0)), .p (.v (.int .u8 0)), .p (.v (.int .u8 0)), .p (.v (.int .u8 0)), .p (.v (.int .u8 0)), .p (.v (.int .u8 0)), .p (.v (.int .u8 0)), .p (.v (.int .u8 0)), .p (.v (.int .u8 0)), .p (.v (.int .u8 0))], .array 64 5, none⟩
 | 170 => some ⟨0, 0, [], .array 0 16, none⟩
 | 175 => some ⟨1, 8, [.p (.v .nilFunc)], .sc, none⟩
 | 176 => some ⟨1, 8, [.p (.v (.pointer none))], .sc, none⟩
 | 181 => some ⟨1, 8, [.p (.v .nilFunc)], .sc, none⟩
 | _ => none
@[simp] theorem Tryz.T1 : Tryz.T 1 = some ⟨1, 8, [.p (.v .nilFunc)], .sc, none⟩ := rfl
@[simp] theorem Tryz.T2 : Tryz.T 2 = some ⟨1, 8, [.p (.v (.int .i64 0))], .int .i64, none⟩ := rfl
@[simp] theorem Tryz.T3 : Tryz.T 3 = some ⟨1, 8, [.p (.v (.int .i64 0))], .int .i64, none⟩ := rfl
@[simp] theorem Tryz.T4 : Tryz.T 4 = some ⟨1, 1, [.p (.v (.bool false))], .bool, none⟩ := rfl
@[simp] theorem Tryz.T5 : Tryz.T 5 = some ⟨1, 1, [.p (.v (.int .u8 0))], .int .u8, none⟩ := rfl
@[simp] theorem Tryz.T9 : Tryz.T 9 = some ⟨1, 16, [.p (.v (.string ByteArray.empty))], .str, none⟩ := rfl
@[simp] theorem Tryz.T12 : Tryz.T 12 = some ⟨1, 8, [.p (.v (.int .u64 0))], .int .u64, none⟩ := rfl
@[simp] theorem Tryz.T15 : Tryz.T 15 = some ⟨1, 8, [.p (.v (.pointer none))], .sc, none⟩ := rfl
@[simp] theorem Tryz.T16 : Tryz.T 16 = some ⟨1, 8, [.p (.v (.pointer none))], .sc, none⟩ := rfl
@[simp] theorem Tryz.T17 : Tryz.T 17 = some ⟨1, 8, [.p (.v (.pointer none))], .sc, none⟩ := rfl
@[simp] theorem Tryz.T21 : Tryz.T 21 = some ⟨1, 4, [.p (.v (.int .i32 0))], .int .i32, none⟩ := rfl
@[simp] theorem Tryz.T22 : Tryz.T 22 = some ⟨1, 24, [.nil 1], .slice 31, none⟩ := rfl
@[simp] theorem Tryz.T23 : Tryz.T 23 = some ⟨1, 24, [.nil 1], .slice 3, none⟩ := rfl
@[simp] theorem Tryz.T24 : Tryz.T 24 = some ⟨1, 8, [.p (.v .nilFunc)], .sc, none⟩ := rfl
@[simp] theorem Tryz.T25 : Tryz.T 25 = some ⟨1, 8, [.p (.v .nilFunc)], .sc, none⟩ := rfl
@[simp] theorem Tryz.T26 : Tryz.T 26 = some ⟨1, 24, [.nil 3], .slice 62, none⟩ := rfl
@[simp] theorem Tryz.T28 : Tryz.T 28 = some ⟨4, 48, [.nil 3, .p (.v (.int .i64 0)), .p (.v (.int .i64 0)), .p (.v (.bool false))], .struct [(0, 26), (1, 3), (2, 3), (3, 4)], none⟩ := rfl
@[simp] theorem Tryz.T29 : Tryz.T 29 = some ⟨1, 8, [.p (.v .nilFunc)], .sc, none⟩ := rfl
@[simp] theorem Tryz.T30 : Tryz.T 30 = some ⟨1, 8, [.p (.v .nilFunc)], .sc, none⟩ := rfl
@[simp] theorem Tryz.T31 : Tryz.T 31 = some ⟨1, 24, [.nil 8], .slice 45, none⟩ := rfl
@[simp] theorem Tryz.T32 : Tryz.T 32 = some ⟨1, 8, [.p (.v (.int .i64 0))], .int .i64, none⟩ := rfl
@[simp] theorem Tryz.T34 : Tryz.T 34 = some ⟨1, 8, [.p (.v .nilFunc)], .sc, none⟩ := rfl
@[simp] theorem Tryz.T35 : Tryz.T 35 = some ⟨1, 8, [.p (.v .nilFunc)], .sc, none⟩ := rfl
@[simp] theorem Tryz.T36 : Tryz.T 36 = some ⟨1, 8, [.p (.v .nilFunc)], .sc, none⟩ := rfl
@[simp] theorem Tryz.T38 : Tryz.T 38 = some ⟨1, 8, [.p (.v .nilFunc)], .sc, none⟩ := rfl
@[simp] theorem Tryz.T39 : Tryz.T 39 = some ⟨1, 8, [.p (.v .nilFunc)], .sc, none⟩ := rfl
@[simp] theorem Tryz.T40 : Tryz.T 40 = some ⟨1, 8, [.p (.v .nilFunc)], .sc, none⟩ := rfl
@[simp] theorem Tryz.T42 : Tryz.T 42 = some ⟨2, 16, [.p (.v (.int .i64 0)), .p (.v (.int .i64 0))], .struct [(0, 3), (1, 3)], some [.int .i64, .int .i64]⟩ := rfl
@[simp] theorem Tryz.T43 : Tryz.T 43 = some ⟨1, 24, [.nil 11], .slice 53, none⟩ := rfl
@[simp] theorem Tryz.T45 : Tryz.T 45 = some ⟨8, 88, [.p (.v (.int .i64 0)), .p (.v (.int .i64 0)), .p (.v (.int .i64 0)), .p (.v (.int .i64 0)), .p (.v (.int .i64 0)), .p (.v (.int .i64 0)), .p (.v (.string ByteArray.empty)), .nil 11], .struct [(0, 42), (2, 3), (3, 3), (4, 32), (5, 3), (6, 9), (7, 43)], none⟩ := rfl
@[simp] theorem Tryz.T46 : Tryz.T 46 = some ⟨1, 8, [.p (.v .nilFunc)], .sc, none⟩ := rfl
@[simp] theorem Tryz.T47 : Tryz.T 47 = some ⟨1, 24, [.nil 4], .slice 107, none⟩ := rfl
@[simp] theorem Tryz.T49 : Tryz.T 49 = some ⟨4, 48, [.p (.v (.int .i64 0)), .p (.v (.int .i64 0)), .p (.v (.int .i64 0)), .nil 4], .struct [(0, 42), (2, 3), (3, 47)], none⟩ := rfl
@[simp] theorem Tryz.T51 : Tryz.T 51 = some ⟨5, 56, [.p (.v (.string ByteArray.empty)), .p (.v (.string ByteArray.empty)), .p (.v (.int .i64 0)), .p (.v (.int .i64 0)), .p (.v (.int .i64 0))], .struct [(0, 9), (1, 9), (2, 3), (3, 3), (4, 3)], some [.str, .str, .int .i64, .int .i64, .int .i64]⟩ := rfl
@[simp] theorem Tryz.T53 : Tryz.T 53 = some ⟨11, 120, [.p (.v (.int .i64 0)), .p (.v (.string ByteArray.empty)), .p (.v (.string ByteArray.empty)), .p (.v (.int .i64 0)), .p (.v (.int .i64 0)), .p (.v (.int .i64 0)), .p (.v (.int .i64 0)), .p (.v (.int .i64 0)), .p (.v (.int .i64 0)), .p (.v (.int .i64 0)), .nil 4], .struct [(0, 3), (1, 51), (6, 3), (7, 49)], none⟩ := rfl
@[simp] theorem Tryz.T54 : Tryz.T 54 = some ⟨1, 8, [.p (.v .nilFunc)], .sc, none⟩ := rfl
@[simp] theorem Tryz.T55 : Tryz.T 55 = some ⟨1, 24, [.nil 1], .slice 5, none⟩ := rfl
@[simp] theorem Tryz.T57 : Tryz.T 57 = some ⟨1, 8, [.p (.v .nilFunc)], .sc, none⟩ := rfl
@[simp] theorem Tryz.T58 : Tryz.T 58 = some ⟨1, 8, [.p (.v .nilFunc)], .sc, none⟩ := rfl
@[simp] theorem Tryz.T59 : Tryz.T 59 = some ⟨1, 8, [.p (.v .nilFunc)], .sc, none⟩ := rfl
@[simp] theorem Tryz.T60 : Tryz.T 60 = some ⟨1, 8, [.p (.v (.pointer none))], .sc, none⟩ := rfl
@[simp] theorem Tryz.T62 : Tryz.T 62 = some ⟨3, 48, [.p (.v (.string ByteArray.empty)), .nil 1, .p (.v (.int .i64 0))], .struct [(0, 9), (1, 55), (2, 3)], none⟩ := rfl
@[simp] theorem Tryz.T64 : Tryz.T 64 = some ⟨1, 8, [.p (.v .nilFunc)], .sc, none⟩ := rfl
@[simp] theorem Tryz.T65 : Tryz.T 65 = some ⟨1, 8, [.p (.v .nilFunc)], .sc, none⟩ := rfl
@[simp] theorem Tryz.T66 : Tryz.T 66 = some ⟨1, 8, [.p (.v .nilFunc)], .sc, none⟩ := rfl
@[simp] theorem Tryz.T67 : Tryz.T 67 = some ⟨1, 8, [.p (.v .nilFunc)], .sc, none⟩ := rfl
@[simp] theorem Tryz.T68 : Tryz.T 68 = some ⟨1, 8, [.p (.v .nilFunc)], .sc, none⟩ := rfl
@[simp] theorem Tryz.T69 : Tryz.T 69 = some ⟨1, 8, [.p (.v .nilFunc)], .sc, none⟩ := rfl
@[simp] theorem Tryz.T70 : Tryz.T 70 = some ⟨1, 8, [.p (.v .nilFunc)], .sc, none⟩ := rfl
@[simp] theorem Tryz.T71 : Tryz.T 71 = some ⟨1, 8, [.p (.v .nilFunc)], .sc, none⟩ := rfl
@[simp] theorem Tryz.T72 : Tryz.T 72 = some ⟨1, 8, [.p (.v .nilFunc)], .sc, none⟩ := rfl
@[simp] theorem Tryz.T74 : Tryz.T 74 = some ⟨1, 8, [.p (.v .nilFunc)], .sc, none⟩ := rfl
@[simp] theorem Tryz.T75 : Tryz.T 75 = some ⟨1, 8, [.p (.v .nilFunc)], .sc, none⟩ := rfl
@[simp] theorem Tryz.T76 : Tryz.T 76 = some ⟨1, 8, [.p (.v .nilFunc)], .sc, none⟩ := rfl
@[simp] theorem Tryz.T77 : Tryz.T 77 = some ⟨1, 8, [.p (.v (.pointer none))], .sc, none⟩ := rfl
@[simp] theorem Tryz.T78 : Tryz.T 78 = some ⟨1, 8, [.p (.v .nilFunc)], .sc, none⟩ := rfl
@[simp] theorem Tryz.T79 : Tryz.T 79 = some ⟨1, 8, [.p (.v .nilFunc)], .sc, none⟩ := rfl
@[simp] theorem Tryz.T80 : Tryz.T 80 = some ⟨1, 8, [.p (.v .nilFunc)], .sc, none⟩ := rfl
@[simp] theorem Tryz.T82 : Tryz.T 82 = some ⟨1, 8, [.p (.v .nilFunc)], .sc, none⟩ := rfl
@[simp] theorem Tryz.T84 : Tryz.T 84 = some ⟨1, 8, [.p (.v .nilFunc)], .sc, none⟩ := rfl
@[simp] theorem Tryz.T85 : Tryz.T 85 = some ⟨1, 8, [.p (.v .nilFunc)], .sc, none⟩ := rfl
@[simp] theorem Tryz.T86 : Tryz.T 86 = some ⟨1, 8, [.p (.v .nilFunc)], .sc, none⟩ := rfl
@[simp] theorem Tryz.T87 : Tryz.T 87 = some ⟨1, 8, [.p (.v .nilFunc)], .sc, none⟩ := rfl
@[simp] theorem Tryz.T88 : Tryz.T 88 = some ⟨1, 8, [.p (.v .nilFunc)], .sc, none⟩ := rfl
@[simp] theorem Tryz.T89 : Tryz.T 89 = some ⟨1, 4, [.p (.v (.int .u32 0))], .int .u32, none⟩ := rfl
@[simp] theorem Tryz.T90 : Tryz.T 90 = some ⟨1, 8, [.p (.v .nilFunc)], .sc, none⟩ := rfl
@[simp] theorem Tryz.T91 : Tryz.T 91 = some ⟨1, 8, [.p (.v .nilFunc)], .sc, none⟩ := rfl
@[simp] theorem Tryz.T92 : Tryz.T 92 = some ⟨1, 8, [.p (.v .nilFunc)], .sc, none⟩ := rfl
@[simp] theorem Tryz.T93 : Tryz.T 93 = some ⟨1, 8, [.p (.v .nilFunc)], .sc, none⟩ := rfl
@[simp] theorem Tryz.T94 : Tryz.T 94 = some ⟨1, 8, [.p (.v (.pointer none))], .sc, none⟩ := rfl
@[simp] theorem Tryz.T95 : Tryz.T 95 = some ⟨1, 8, [.p (.v .nilFunc)], .sc, none⟩ := rfl
@[simp] theorem Tryz.T96 : Tryz.T 96 = some ⟨1, 8, [.p (.v .nilFunc)], .sc, none⟩ := rfl
@[simp] theorem Tryz.T97 : Tryz.T 97 = some ⟨1, 8, [.p (.v .nilFunc)], .sc, none⟩ := rfl
@[simp] theorem Tryz.T98 : Tryz.T 98 = some ⟨1, 8, [.p (.v .nilFunc)], .sc, none⟩ := rfl
@[simp] theorem Tryz.T99 : Tryz.T 99 = some ⟨1, 8, [.p (.v .nilFunc)], .sc, none⟩ := rfl
@[simp] theorem Tryz.T100 : Tryz.T 100 = some ⟨1, 8, [.p (.v .nilFunc)], .sc, none⟩ := rfl
@[simp] theorem Tryz.T101 : Tryz.T 101 = some ⟨1, 8, [.p (.v (.pointer none))], .sc, none⟩ := rfl
@[simp] theorem Tryz.T102 : Tryz.T 102 = some ⟨1, 8, [.p (.v .nilFunc)], .sc, none⟩ := rfl
@[simp] theorem Tryz.T103 : Tryz.T 103 = some ⟨1, 8, [.p (.v .nilFunc)], .sc, none⟩ := rfl
@[simp] theorem Tryz.T104 : Tryz.T 104 = some ⟨1, 8, [.p (.v .nilFunc)], .sc, none⟩ := rfl
@[simp] theorem Tryz.T105 : Tryz.T 105 = some ⟨1, 8, [.p (.v (.pointer none))], .sc, none⟩ := rfl
@[simp] theorem Tryz.T107 : Tryz.T 107 = some ⟨4, 32, [.p (.v (.int .i64 0)), .p (.v (.int .i64 0)), .p (.v (.int .i64 0)), .p (.v (.int .i64 0))], .struct [(0, 3), (1, 3), (2, 3), (3, 3)], some [.int .i64, .int .i64, .int .i64, .int .i64]⟩ := rfl
@[simp] theorem Tryz.T108 : Tryz.T 108 = some ⟨1, 8, [.p (.v .nilFunc)], .sc, none⟩ := rfl
@[simp] theorem Tryz.T109 : Tryz.T 109 = some ⟨1, 8, [.p (.v (.int .u64 0))], .int .u64, none⟩ := rfl
@[simp] theorem Tryz.T110 : Tryz.T 110 = some ⟨1, 8, [.p (.v (.int .u64 0))], .int .u64, none⟩ := rfl
@[simp] theorem Tryz.T111 : Tryz.T 111 = some ⟨16, 64, [.p (.v (.int .u32 0)), .p (.v (.int .u32 0)), .p (.v (.int .u32 0)), .p (.v (.int .u32 0)), .p (.v (.int .u32 0)), .p (.v (.int .u32 0)), .p (.v (.int .u32 0)), .p (.v (.int .u32 0)), .p (.v (.int .u32 0)), .p (.v (.int .u32 0)), .p (.v (.int .u32 0)), .p (.v (.int .u32 0)), .p (.v (.int .u32 0)), .p (.v (.int .u32 0)), .p (.v (.int .u32 0)), .p (.v (.int .u32 0))], .array 16 89, none⟩ := rfl
@[simp] theorem Tryz.T113 : Tryz.T 113 = some ⟨1, 24, [.nil 1], .struct [(0, 55)], none⟩ := rfl
@[simp] theorem Tryz.T114 : Tryz.T 114 = some ⟨1, 8, [.p (.v .nilFunc)], .sc, none⟩ := rfl
@[simp] theorem Tryz.T115 : Tryz.T 115 = some ⟨1, 8, [.p (.v .nilFunc)], .sc, none⟩ := rfl
@[simp] theorem Tryz.T116 : Tryz.T 116 = some ⟨1, 8, [.p (.v .nilFunc)], .sc, none⟩ := rfl
@[simp] theorem Tryz.T117 : Tryz.T 117 = some ⟨1, 8, [.p (.v .nilFunc)], .sc, none⟩ := rfl
@[simp] theorem Tryz.T118 : Tryz.T 118 = some ⟨1, 8, [.p (.v .nilFunc)], .sc, none⟩ := rfl
@[simp] theorem Tryz.T119 : Tryz.T 119 = some ⟨1, 8, [.p (.v .nilFunc)], .sc, none⟩ := rfl
@[simp] theorem Tryz.T121 : Tryz.T 121 = some ⟨2, 32, [.nil 1, .p (.v (.int .i64 0))], .struct [(0, 55), (1, 3)], none⟩ := rfl
@[simp] theorem Tryz.T122 : Tryz.T 122 = some ⟨1, 8, [.p (.v .nilFunc)], .sc, none⟩ := rfl
@[simp] theorem Tryz.T123 : Tryz.T 123 = some ⟨1, 8, [.p (.v .nilFunc)], .sc, none⟩ := rfl
@[simp] theorem Tryz.T124 : Tryz.T 124 = some ⟨1, 8, [.p (.v .nilFunc)], .sc, none⟩ := rfl
@[simp] theorem Tryz.T125 : Tryz.T 125 = some ⟨1, 8, [.p (.v .nilFunc)], .sc, none⟩ := rfl
@[simp] theorem Tryz.T127 : Tryz.T 127 = some ⟨2, 32, [.nil 1, .p (.v (.int .i64 0))], .struct [(0, 55), (1, 3)], none⟩ := rfl
@[simp] theorem Tryz.T128 : Tryz.T 128 = some ⟨1, 8, [.p (.v .nilFunc)], .sc, none⟩ := rfl
@[simp] theorem Tryz.T129 : Tryz.T 129 = some ⟨1, 8, [.p (.v .nilFunc)], .sc, none⟩ := rfl
@[simp] theorem Tryz.T130 : Tryz.T 130 = some ⟨1, 8, [.p (.v .nilFunc)], .sc, none⟩ := rfl
@[simp] theorem Tryz.T131 : Tryz.T 131 = some ⟨1, 8, [.p (.v .nilFunc)], .sc, none⟩ := rfl
@[simp] theorem Tryz.T132 : Tryz.T 132 = some ⟨1, 8, [.p (.v .nilFunc)], .sc, none⟩ := rfl
@[simp] theorem Tryz.T133 : Tryz.T 133 = some ⟨1, 8, [.p (.v .nilFunc)], .sc, none⟩ := rfl
@[simp] theorem Tryz.T134 : Tryz.T 134 = some ⟨24, 24, [.p (.v (.int .u8 0)), .p (.v (.int .u8 0)), .p (.v (.int .u8 0)), .p (.v (.int .u8 0)), .p (.v (.int .u8 0)), .p (.v (.int .u8 0)), .p (.v (.int .u8 0)), .p (.v (.int .u8 0)), .p (.v (.int .u8 0)), .p (.v (.int .u8 0)), .p (.v (.int .u8 0)), .p (.v (.int .u8 0)), .p (.v (.int .u8 0)), .p (.v (.int .u8 0)), .p (.v (.int .u8 0)), .p (.v (.int .u8 0)), .p (.v (.int .u8 0)), .p (.v (.int .u8 0)), .p (.v (.int .u8 0)), .p (.v (.int .u8 0)), .p (.v (.int .u8 0)), .p (.v (.int .u8 0)), .p (.v (.int .u8 0)), .p (.v (.int .u8 0))], .array 24 5, none⟩ := rfl
@[simp] theorem Tryz.T135 : Tryz.T 135 = some ⟨1, 8, [.p (.v .nilFunc)], .sc, none⟩ := rfl
@[simp] theorem Tryz.T136 : Tryz.T 136 = some ⟨1, 8, [.p (.v .nilFunc)], .sc, none⟩ := rfl
@[simp] theorem Tryz.T138 : Tryz.T 138 = some ⟨1, 8, [.p (.v .nilFunc)], .sc, none⟩ := rfl
@[simp] theorem Tryz.T139 : Tryz.T 139 = some ⟨1, 8, [.p (.v .nilFunc)], .sc, none⟩ := rfl
@[simp] theorem Tryz.T140 : Tryz.T 140 = some ⟨1, 8, [.p (.v .nilFunc)], .sc, none⟩ := rfl
@[simp] theorem Tryz.T141 : Tryz.T 141 = some ⟨1, 8, [.p (.v .nilFunc)], .sc, none⟩ := rfl
@[simp] theorem Tryz.T142 : Tryz.T 142 = some ⟨1, 8, [.p (.v .nilFunc)], .sc, none⟩ := rfl
@[simp] theorem Tryz.T143 : Tryz.T 143 = some ⟨1, 8, [.p (.v (.int .i64 0))], .int .i64, none⟩ := rfl
@[simp] theorem Tryz.T145 : Tryz.T 145 = some ⟨1, 8, [.p (.v .nilFunc)], .sc, none⟩ := rfl
@[simp] theorem Tryz.T147 : Tryz.T 147 = some ⟨1, 8, [.p (.v .nilFunc)], .sc, none⟩ := rfl
@[simp] theorem Tryz.T148 : Tryz.T 148 = some ⟨1, 8, [.p (.v .nilFunc)], .sc, none⟩ := rfl
@[simp] theorem Tryz.T149 : Tryz.T 149 = some ⟨1, 8, [.p (.v .nilFunc)], .sc, none⟩ := rfl
@[simp] theorem Tryz.T150 : Tryz.T 150 = some ⟨1, 8, [.p (.v .nilFunc)], .sc, none⟩ := rfl
@[simp] theorem Tryz.T151 : Tryz.T 151 = some ⟨20, 160, [.p (.v (.int .u64 0)), .p (.v (.int .u64 0)), .p (.v (.int .u64 0)), .p (.v (.int .u64 0)), .p (.v (.int .u64 0)), .p (.v (.int .u64 0)), .p (.v (.int .u64 0)), .p (.v (.int .u64 0)), .p (.v (.int .u64 0)), .p (.v (.int .u64 0)), .p (.v (.int .u64 0)), .p (.v (.int .u64 0)), .p (.v (.int .u64 0)), .p (.v (.int .u64 0)), .p (.v (.int .u64 0)), .p (.v (.int .u64 0)), .p (.v (.int .u64 0)), .p (.v (.int .u64 0)), .p (.v (.int .u64 0)), .p (.v (.int .u64 0))], .array 20 109, none⟩ := rfl
@[simp] theorem Tryz.T153 : Tryz.T 153 = some ⟨1, 8, [.p (.v .nilFunc)], .sc, none⟩ := rfl
@[simp] theorem Tryz.T154 : Tryz.T 154 = some ⟨1, 8, [.p (.v .nilFunc)], .sc, none⟩ := rfl
@[simp] theorem Tryz.T155 : Tryz.T 155 = some ⟨1, 8, [.p (.v .nilFunc)], .sc, none⟩ := rfl
@[simp] theorem Tryz.T156 : Tryz.T 156 = some ⟨1, 8, [.p (.v .nilFunc)], .sc, none⟩ := rfl
@[simp] theorem Tryz.T157 : Tryz.T 157 = some ⟨1, 8, [.p (.v .nilFunc)], .sc, none⟩ := rfl
@[simp] theorem Tryz.T158 : Tryz.T 158 = some ⟨1, 8, [.p (.v .nilFunc)], .sc, none⟩ := rfl
@[simp] theorem Tryz.T159 : Tryz.T 159 = some ⟨1, 8, [.p (.v .nilFunc)], .sc, none⟩ := rfl
@[simp] theorem Tryz.T160 : Tryz.T 160 = some ⟨1, 8, [.p (.v .nilFunc)], .sc, none⟩ := rfl
@[simp] theorem Tryz.T161 : Tryz.T 161 = some ⟨1, 8, [.p (.v .nilFunc)], .sc, none⟩ := rfl
@[simp] theorem Tryz.T162 : Tryz.T 162 = some ⟨1, 8, [.p (.v .nilFunc)], .sc, none⟩ := rfl
@[simp] theorem Tryz.T163 : Tryz.T 163 = some ⟨1, 8, [.p (.v .nilFunc)], .sc, none⟩ := rfl
@[simp] theorem Tryz.T164 : Tryz.T 164 = some ⟨1, 8, [.p (.v .nilFunc)], .sc, none⟩ := rfl
@[simp] theorem Tryz.T165 : Tryz.T 165 = some ⟨1, 8, [.p (.v .nilFunc)], .sc, none⟩ := rfl
@[simp] theorem Tryz.T166 : Tryz.T 166 = some ⟨32, 32, [.p (.v (.int .u8 0)), .p (.v (.int .u8 0)), .p (.v (.int .u8 0)), .p (.v (.int .u8 0)), .p (.v (.int .u8 0)), .p (.v (.int .u8 0)), .p (.v (.int .u8 0)), .p (.v (.int .u8 0)), .p (.v (.int .u8 0)), .p (.v (.int .u8 0)), .p (.v (.int .u8 0)), .p (.v (.int .u8 0)), .p (.v (.int .u8 0)), .p (.v (.int .u8 0)), .p (.v (.int .u8 0)), .p (.v (.int .u8 0)), .p (.v (.int .u8 0)), .p (.v (.int .u8 0)), .p (.v (.int .u8 0)), .p (.v (.int .u8 0)), .p (.v (.int .u8 0)), .p (.v (.int .u8 0)), .p (.v (.int .u8 0)), .p (.v (.int .u8 0)), .p (.v (.int .u8 0)), .p (.v (.int .u8 0)), .p (.v (.int .u8 0)), .p (.v (.int .u8 0)), .p (.v (.int .u8 0)), .p (.v (.int .u8 0)), .p (.v (.int .u8 0)), .p (.v (.int .u8 0))], .array 32 5, none⟩ := rfl
@[simp] theorem Tryz.T167 : Tryz.T 167 = some ⟨64, 64, [.p (.v (.int .u8 0)), .p (.v (.int .u8 0)), .p (.v (.int .u8 0)), .p (.v (.int .u8 0)), .p (.v (.int .u8 0)), .p (.v (.int .u8 0)), .p (.v (.int .u8 0)), .p (.v (.int .u8 0)), .p (.v (.int .u8 0)), .p (.v (.int .u8 0)), .p (.v (.int .u8 0)), .p (.v (.int .u8 0)), .p (.v (.int .u8 0)), .p (.v (.int .u8 0)), .p (.v (.int .u8 0)), .p (.v (.int .u8 0)), .p (.v (.int .u8 0)), .p (.v (.int .u8 0)), .p (.v (.int .u8 0)), .p (.v (.int .u8 0)), .p (.v (.int .u8 0)), .p (.v (.int .u8 0)), .p (.v (.int .u8 0)), .p (.v (.int .u8 0)), .p (.v (.int .u8 0)), .p (.v (.int .u8 0)), .p (.v (.int .u8 0)), .p (.v (.int .u8 0)), .p (.v (.int .u8 0)), .p (.v (.int .u8 0)), .p (.v (.int .u8 0)), .p (.v (.int .u8 0)), .p (.v (.int .u8 0)), .p (.v (.int .u8 0)), .p (.v (.int .u8 0)), .p (.v (.int .u8 0)), .p (.v (.int .u8 0)), .p (.v (.int .u8 0)), .p (.v (.int .u8 0)), .p (.v (.int .u8 0)), .p (.v (.int .u8 0)), .p (.v (.int .u8 0)), .p (.v (.int .u8 0)), .p (.v (.int .u8 0)), .p (.v (.int .u8 0)), .p (.v (.int .u8 0)), .p (.v (.int .u8 0)), .p (.v (.int .u8 0)), .p (.v (.int .u8 0)), .p (.v (.int .u8 0)), .p (.v (.int .u8 0)), .p (.v (.int .u8 0)), .p (.v (.int .u8 0)), .p (.v (.int .u8 0)), .p (.v (.int .u8 0)), .p (.v (.int .u8 0)), .p (.v (.int .u8 0)), .p (.v (.int .u8 0)), .p (.v (.int .u8 0)), .p (.v (.int .u8 0)), .p (.v (.int .u8 0)), .p (.v (.int .u8 0)), .p (.v (.int .u8 0)), .p (.v (.int .u8 0))], .array 64 5, none⟩ := rfl
@[simp] theorem Tryz.T170 : Tryz.T 170 = some ⟨0, 0, [], .array 0 16, none⟩ := rfl
@[simp] theorem Tryz.T175 : Tryz.T 175 = some ⟨1, 8, [.p (.v .nilFunc)], .sc, none⟩ := rfl
@[simp] theorem Tryz.T176 : Tryz.T 176 = some ⟨1, 8, [.p (.v (.pointer none))], .sc, none⟩ := rfl
@[simp] theorem Tryz.T181 : Tryz.T 181 = some ⟨1, 8, [.p (.v .nilFunc)], .sc, none⟩ := rfl
def Tryz.zOf (y : Ty) : Value :=
 let vs : List Value := y.zero.map fun | .p (.v v) => v | _ => .slice none 0 0
 if y.kd.isAgg then .agg vs.toArray else vs.headD (.slice none 0 0)
abbrev Tryz.tyZ {t : TypeId} {y : Ty} := @TyOK.of Tryz.prog t y (Tryz.zOf y)
set_option maxRecDepth 100000 in
set_option maxHeartbeats 40000000 in
theorem Tryz.tab : TabOK Tryz.prog Tryz.T := by
 intro t y h
 unfold Tryz.T at h
 split at h
 all_goals first | (simp at h; done) | (obtain rfl := Option.some.inj h)
 all_goals first | exact Tryz.ty42 | exact Tryz.ty51 | exact Tryz.ty107 | (refine Tryz.tyZ (by kernel_rfl) rfl (by first | rfl | decide | (simp [Tryz.zOf, Kd.isAgg, Value.cells, zval, scal])) rfl (by first | exact rfl | kernel_rfl | exact structOf_spec (by kernel_rfl) | exact scOf_spec (by kernel_rfl)) (by intro cs h; first | rfl | (simp [Tryz.zOf, Kd.isAgg] at h)) (by intro ks h; simp at h))
theorem Tryz.mixed : Tryz.prog.follows .mixedOrders = true := by kernel_rfl
end Go.Proofs.YtbeofcbehhljdaaGreatDoor
