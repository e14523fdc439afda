/- Texts that the proof needs: Tab. -/
import Derived.Test.YthiccfadhllajaaProg
import Derived.Test.YthiccfadhllajaaP12JudgePrimary
import Derived.WalkKit
import Derived.WalkSpells
import Derived.KernelRfl
namespace Go.Proofs.Ythiccfadhllajaa
set_option linter.unusedSimpArgs false
set_option linter.unusedVariables false
open Go Go.Av
instance Try.glob : Glob := ⟨fun _ => none⟩
theorem Try.ty25 : TyOK Try.prog 25 ⟨2, 16, [.p (.v (.int .i64 0)), .p (.v (.int .i64 0))], .struct [(0, 3), (1, 3)], some [.int .i64, .int .i64]⟩ := by
 refine TyOK.of (z := .agg #[.int .i64 0, .int .i64 0]) (by kernel_rfl) rfl (by first | rfl | decide | (simp [Value.cells, zval, scal])) rfl ?_ ?_ ?_
 ·exact structOf_spec (by kernel_rfl)
 ·intro cs h; first | rfl | (simp at h)
 ·intro ks h; simp only [Option.some.injEq] at h; subst h; refine ⟨rfl, fun xs ys hx hy w => ⟨?_, by kernel_rfl⟩⟩
  obtain ⟨_, _, rfl, ⟨x0, rfl⟩, hx⟩ := hx; obtain ⟨_, _, rfl, ⟨x1, rfl⟩, hx⟩ := hx; subst hx
  obtain ⟨_, _, rfl, ⟨y0, rfl⟩, hy⟩ := hy; obtain ⟨_, _, rfl, ⟨y1, rfl⟩, hy⟩ := hy; subst hy
  show (Op.equalIn 10000 25 (.agg #[.int .i64 x0, .int .i64 x1]) (.agg #[.int .i64 y0, .int .i64 y1])).run Try.prog w = _
  go_simp
  simp only [ceq, veq]
  all_goals (repeat' split)
  all_goals simp_all
theorem Try.ty47 : TyOK Try.prog 47 ⟨5, 56, [.p (.v (.string ByteArray.empty)), .p (.v (.string ByteArray.empty)), .p (.v (.int .i64 0)), .p (.v (.int .i64 0)), .p (.v (.int .i64 0))], .struct [(0, 9), (1, 9), (2, 3), (3, 3), (4, 3)], some [.str, .str, .int .i64, .int .i64, .int .i64]⟩ := by
 refine TyOK.of (z := .agg #[.string ByteArray.empty, .string ByteArray.empty, .int .i64 0, .int .i64 0, .int .i64 0]) (by kernel_rfl) rfl (by first | rfl | decide | (simp [Value.cells, zval, scal])) rfl ?_ ?_ ?_
 ·exact structOf_spec (by kernel_rfl)
 ·intro cs h; first | rfl | (simp at h)
 ·intro ks h; simp only [Option.some.injEq] at h; subst h; refine ⟨rfl, fun xs ys hx hy w => ⟨?_, by kernel_rfl⟩⟩
  obtain ⟨_, _, rfl, ⟨x0, rfl⟩, hx⟩ := hx; obtain ⟨_, _, rfl, ⟨x1, rfl⟩, hx⟩ := hx; obtain ⟨_, _, rfl, ⟨x2, rfl⟩, hx⟩ := hx; obtain ⟨_, _, rfl, ⟨x3, rfl⟩, hx⟩ := hx; obtain ⟨_, _, rfl, ⟨x4, rfl⟩, hx⟩ := hx; subst hx
  obtain ⟨_, _, rfl, ⟨y0, rfl⟩, hy⟩ := hy; obtain ⟨_, _, rfl, ⟨y1, rfl⟩, hy⟩ := hy; obtain ⟨_, _, rfl, ⟨y2, rfl⟩, hy⟩ := hy; obtain ⟨_, _, rfl, ⟨y3, rfl⟩, hy⟩ := hy; obtain ⟨_, _, rfl, ⟨y4, rfl⟩, hy⟩ := hy; subst hy
  show (Op.equalIn 10000 47 (.agg #[.string x0, .string x1, .int .i64 x2, .int .i64 x3, .int .i64 x4]) (.agg #[.string y0, .string y1, .int .i64 y2, .int .i64 y3, .int .i64 y4])).run Try.prog w = _
  go_simp
  simp only [ceq, veq]
  all_goals (repeat' split)
  all_goals simp_all
theorem Try.ty50 : TyOK Try.prog 50 ⟨6, 56, [.p (.v (.int .i64 0)), .p (.v (.int .i64 0)), .p (.v (.string ByteArray.empty)), .p (.v (.int .i64 0)), .p (.v (.int .i64 0)), .p (.v (.int .i64 0))], .struct [(0, 3), (1, 3), (2, 9), (3, 3), (4, 25)], some [.int .i64, .int .i64, .str, .int .i64, .int .i64, .int .i64]⟩ := by
 refine TyOK.of (z := .agg #[.int .i64 0, .int .i64 0, .string ByteArray.empty, .int .i64 0, .int .i64 0, .int .i64 0]) (by kernel_rfl) rfl (by first | rfl | decide | (simp [Value.cells, zval, scal])) rfl ?_ ?_ ?_
 ·exact structOf_spec (by kernel_rfl)
 ·intro cs h; first | rfl | (simp at h)
 ·intro ks h; simp only [Option.some.injEq] at h; subst h; refine ⟨rfl, fun xs ys hx hy w => ⟨?_, by kernel_rfl⟩⟩
  obtain ⟨_, _, rfl, ⟨x0, rfl⟩, hx⟩ := hx; obtain ⟨_, _, rfl, ⟨x1, rfl⟩, hx⟩ := hx; obtain ⟨_, _, rfl, ⟨x2, rfl⟩, hx⟩ := hx; obtain ⟨_, _, rfl, ⟨x3, rfl⟩, hx⟩ := hx; obtain ⟨_, _, rfl, ⟨x4, rfl⟩, hx⟩ := hx; obtain ⟨_, _, rfl, ⟨x5, rfl⟩, hx⟩ := hx; subst hx
  obtain ⟨_, _, rfl, ⟨y0, rfl⟩, hy⟩ := hy; obtain ⟨_, _, rfl, ⟨y1, rfl⟩, hy⟩ := hy; obtain ⟨_, _, rfl, ⟨y2, rfl⟩, hy⟩ := hy; obtain ⟨_, _, rfl, ⟨y3, rfl⟩, hy⟩ := hy; obtain ⟨_, _, rfl, ⟨y4, rfl⟩, hy⟩ := hy; obtain ⟨_, _, rfl, ⟨y5, rfl⟩, hy⟩ := hy; subst hy
  show (Op.equalIn 10000 50 (.agg #[.int .i64 x0, .int .i64 x1, .string x2, .int .i64 x3, .int .i64 x4, .int .i64 x5]) (.agg #[.int .i64 y0, .int .i64 y1, .string y2, .int .i64 y3, .int .i64 y4, .int .i64 y5])).run Try.prog w = _
  go_simp
  simp only [ceq, veq]
  all_goals (repeat' split)
  all_goals simp_all
theorem Try.ty86 : TyOK Try.prog 86 ⟨4, 32, [.p (.v (.int .i64 0)), .p (.v (.int .i64 0)), .p (.v (.int .i64 0)), .p (.v (.int .i64 0))], .struct [(0, 3), (1, 3), (2, 3), (3, 3)], some [.int .i64, .int .i64, .int .i64, .int .i64]⟩ := by
 refine TyOK.of (z := .agg #[.int .i64 0, .int .i64 0, .int .i64 0, .int .i64 0]) (by kernel_rfl) rfl (by first | rfl | decide | (simp [Value.cells, zval, scal])) rfl ?_ ?_ ?_
 ·exact structOf_spec (by kernel_rfl)
 ·intro cs h; first | rfl | (simp at h)
 ·intro ks h; simp only [Option.some.injEq] at h; subst h; refine ⟨rfl, fun xs ys hx hy w => ⟨?_, by kernel_rfl⟩⟩
  obtain ⟨_, _, rfl, ⟨x0, rfl⟩, hx⟩ := hx; obtain ⟨_, _, rfl, ⟨x1, rfl⟩, hx⟩ := hx; obtain ⟨_, _, rfl, ⟨x2, rfl⟩, hx⟩ := hx; obtain ⟨_, _, rfl, ⟨x3, rfl⟩, hx⟩ := hx; subst hx
  obtain ⟨_, _, rfl, ⟨y0, rfl⟩, hy⟩ := hy; obtain ⟨_, _, rfl, ⟨y1, rfl⟩, hy⟩ := hy; obtain ⟨_, _, rfl, ⟨y2, rfl⟩, hy⟩ := hy; obtain ⟨_, _, rfl, ⟨y3, rfl⟩, hy⟩ := hy; subst hy
  show (Op.equalIn 10000 86 (.agg #[.int .i64 x0, .int .i64 x1, .int .i64 x2, .int .i64 x3]) (.agg #[.int .i64 y0, .int .i64 y1, .int .i64 y2, .int .i64 y3])).run Try.prog w = _
  go_simp
  simp only [ceq, veq]
  all_goals (repeat' split)
  all_goals simp_all
theorem Try.ty118 : TyOK Try.prog 118 ⟨2, 16, [.p (.v (.int .i64 0)), .p (.v (.int .i64 0))], .struct [(0, 3), (1, 3)], some [.int .i64, .int .i64]⟩ := by
 refine TyOK.of (z := .agg #[.int .i64 0, .int .i64 0]) (by kernel_rfl) rfl (by first | rfl | decide | (simp [Value.cells, zval, scal])) rfl ?_ ?_ ?_
 ·exact structOf_spec (by kernel_rfl)
 ·intro cs h; first | rfl | (simp at h)
 ·intro ks h; simp only [Option.some.injEq] at h; subst h; refine ⟨rfl, fun xs ys hx hy w => ⟨?_, by kernel_rfl⟩⟩
  obtain ⟨_, _, rfl, ⟨x0, rfl⟩, hx⟩ := hx; obtain ⟨_, _, rfl, ⟨x1, rfl⟩, hx⟩ := hx; subst hx
  obtain ⟨_, _, rfl, ⟨y0, rfl⟩, hy⟩ := hy; obtain ⟨_, _, rfl, ⟨y1, rfl⟩, hy⟩ := hy; subst hy
  show (Op.equalIn 10000 118 (.agg #[.int .i64 x0, .int .i64 x1]) (.agg #[.int .i64 y0, .int .i64 y1])).run Try.prog w = _
  go_simp
  simp only [ceq, veq]
  all_goals (repeat' split)
  all_goals simp_all
theorem Try.ty182 : TyOK Try.prog 182 ⟨6, 56, [.p (.v (.int .i64 0)), .p (.v (.string ByteArray.empty)), .p (.v (.string ByteArray.empty)), .p (.v (.int .i64 0)), .p (.v (.bool false)), .p (.v (.bool false))], .struct [(0, 3), (1, 9), (2, 9), (3, 3), (4, 4), (5, 4)], some [.int .i64, .str, .str, .int .i64, .bool, .bool]⟩ := by
 refine TyOK.of (z := .agg #[.int .i64 0, .string ByteArray.empty, .string ByteArray.empty, .int .i64 0, .bool false, .bool false]) (by kernel_rfl) rfl (by first | rfl | decide | (simp [Value.cells, zval, scal])) rfl ?_ ?_ ?_
 ·exact structOf_spec (by kernel_rfl)
 ·intro cs h; first | rfl | (simp at h)
 ·intro ks h; simp only [Option.some.injEq] at h; subst h; refine ⟨rfl, fun xs ys hx hy w => ⟨?_, by kernel_rfl⟩⟩
  obtain ⟨_, _, rfl, ⟨x0, rfl⟩, hx⟩ := hx; obtain ⟨_, _, rfl, ⟨x1, rfl⟩, hx⟩ := hx; obtain ⟨_, _, rfl, ⟨x2, rfl⟩, hx⟩ := hx; obtain ⟨_, _, rfl, ⟨x3, rfl⟩, hx⟩ := hx; obtain ⟨_, _, rfl, ⟨x4, rfl⟩, hx⟩ := hx; obtain ⟨_, _, rfl, ⟨x5, rfl⟩, hx⟩ := hx; subst hx
  obtain ⟨_, _, rfl, ⟨y0, rfl⟩, hy⟩ := hy; obtain ⟨_, _, rfl, ⟨y1, rfl⟩, hy⟩ := hy; obtain ⟨_, _, rfl, ⟨y2, rfl⟩, hy⟩ := hy; obtain ⟨_, _, rfl, ⟨y3, rfl⟩, hy⟩ := hy; obtain ⟨_, _, rfl, ⟨y4, rfl⟩, hy⟩ := hy; obtain ⟨_, _, rfl, ⟨y5, rfl⟩, hy⟩ := hy; subst hy
  show (Op.equalIn 10000 182 (.agg #[.int .i64 x0, .string x1, .string x2, .int .i64 x3, .bool x4, .bool x5]) (.agg #[.int .i64 y0, .string y1, .string y2, .int .i64 y3, .bool y4, .bool y5])).run Try.prog w = _
  go_simp
  simp only [ceq, veq]
  all_goals (repeat' split)
  all_goals simp_all
theorem Try.ty60 : TyOK Try.prog 60 ⟨1, 8, [.p (.v (.map none))], .map 3 3 (.i .i64), none⟩ := by
 refine TyOK.of (z := .map none) (by kernel_rfl) rfl rfl rfl ⟨by show Try.prog.underlying 60 = _; kernel_rfl, ?_⟩ (by intro cs h; simp at h) (by intro ks h; simp at h)
 show Try.prog.underlying 3 = _; kernel_rfl
theorem Try.ty61 : TyOK Try.prog 61 ⟨1, 8, [.p (.v (.map none))], .map 25 3 (.s [.i64, .i64]), none⟩ := by
 refine TyOK.of (z := .map none) (by kernel_rfl) rfl rfl rfl ⟨by show Try.prog.underlying 61 = _; kernel_rfl, ?_⟩ (by intro cs h; simp at h) (by intro ks h; simp at h)
 obtain ⟨f, hf1, hf2⟩ := structOf_spec (P := Try.prog) (t := 25) (fs := [(0, 3), (1, 3)]) (by kernel_rfl)
 refine ⟨⟨f, hf1⟩, fun l hl => ?_⟩
 have hu3 : Try.prog.underlying 3 = some (.int .i64) := by kernel_rfl
 obtain ⟨x0, r0, rfl, hx0⟩ := fitK_uncons hl; obtain ⟨x1, r1, rfl, hx1⟩ := fitK_uncons hx0; obtain rfl := fitK_nil hx1
 refine ⟨fun b w => ?_, fun l' hl' w => ?_⟩
 ·show (Instr.checkKey b 10000 25 (.agg #[.int .i64 x0, .int .i64 x1])).run Try.prog w = _
  refine checkKey_ints hf1 hf2 (fun g hg => ?_) b w
  simp only [List.mem_cons, List.not_mem_nil, or_false] at hg
  rcases hg with rfl | rfl
  all_goals (dsimp only; first | exact ⟨⟨_, hu3⟩, by simp⟩)
 ·obtain ⟨y0, s0, rfl, hy0⟩ := fitK_uncons hl'; obtain ⟨y1, s1, rfl, hy1⟩ := fitK_uncons hy0; obtain rfl := fitK_nil hy1
  clear hf1 hf2 hu3
  show (Op.equalIn 10000 25 (.agg #[.int .i64 x0, .int .i64 x1]) (.agg #[.int .i64 y0, .int .i64 y1])).run Try.prog w = .ok (ceq [.int .i64 x0, .int .i64 x1] [.int .i64 y0, .int .i64 y1]) w
  go_simp
  simp only [ceq, veq]
  all_goals (repeat' split)
  all_goals simp_all
theorem Try.ty68 : TyOK Try.prog 68 ⟨1, 8, [.p (.v (.map none))], .map 3 25 (.i .i64), none⟩ := by
 refine TyOK.of (z := .map none) (by kernel_rfl) rfl rfl rfl ⟨by show Try.prog.underlying 68 = _; kernel_rfl, ?_⟩ (by intro cs h; simp at h) (by intro ks h; simp at h)
 show Try.prog.underlying 3 = _; kernel_rfl
theorem Try.ty69 : TyOK Try.prog 69 ⟨1, 8, [.p (.v (.map none))], .map 25 25 (.s [.i64, .i64]), none⟩ := by
 refine TyOK.of (z := .map none) (by kernel_rfl) rfl rfl rfl ⟨by show Try.prog.underlying 69 = _; kernel_rfl, ?_⟩ (by intro cs h; simp at h) (by intro ks h; simp at h)
 obtain ⟨f, hf1, hf2⟩ := structOf_spec (P := Try.prog) (t := 25) (fs := [(0, 3), (1, 3)]) (by kernel_rfl)
 refine ⟨⟨f, hf1⟩, fun l hl => ?_⟩
 have hu3 : Try.prog.underlying 3 = some (.int .i64) := by kernel_rfl
 obtain ⟨x0, r0, rfl, hx0⟩ := fitK_uncons hl; obtain ⟨x1, r1, rfl, hx1⟩ := fitK_uncons hx0; obtain rfl := fitK_nil hx1
 refine ⟨fun b w => ?_, fun l' hl' w => ?_⟩
 ·show (Instr.checkKey b 10000 25 (.agg #[.int .i64 x0, .int .i64 x1])).run Try.prog w = _
  refine checkKey_ints hf1 hf2 (fun g hg => ?_) b w
  simp only [List.mem_cons, List.not_mem_nil, or_false] at hg
  rcases hg with rfl | rfl
  all_goals (dsimp only; first | exact ⟨⟨_, hu3⟩, by simp⟩)
 ·obtain ⟨y0, s0, rfl, hy0⟩ := fitK_uncons hl'; obtain ⟨y1, s1, rfl, hy1⟩ := fitK_uncons hy0; obtain rfl := fitK_nil hy1
  clear hf1 hf2 hu3
  show (Op.equalIn 10000 25 (.agg #[.int .i64 x0, .int .i64 x1]) (.agg #[.int .i64 y0, .int .i64 y1])).run Try.prog w = .ok (ceq [.int .i64 x0, .int .i64 x1] [.int .i64 y0, .int .i64 y1]) w
  go_simp
  simp only [ceq, veq]
  all_goals (repeat' split)
  all_goals simp_all
theorem Try.ty109 : TyOK Try.prog 109 ⟨1, 8, [.p (.v (.map none))], .map 25 39 (.s [.i64, .i64]), none⟩ := by
 refine TyOK.of (z := .map none) (by kernel_rfl) rfl rfl rfl ⟨by show Try.prog.underlying 109 = _; kernel_rfl, ?_⟩ (by intro cs h; simp at h) (by intro ks h; simp at h)
 obtain ⟨f, hf1, hf2⟩ := structOf_spec (P := Try.prog) (t := 25) (fs := [(0, 3), (1, 3)]) (by kernel_rfl)
 refine ⟨⟨f, hf1⟩, fun l hl => ?_⟩
 have hu3 : Try.prog.underlying 3 = some (.int .i64) := by kernel_rfl
 obtain ⟨x0, r0, rfl, hx0⟩ := fitK_uncons hl; obtain ⟨x1, r1, rfl, hx1⟩ := fitK_uncons hx0; obtain rfl := fitK_nil hx1
 refine ⟨fun b w => ?_, fun l' hl' w => ?_⟩
 ·show (Instr.checkKey b 10000 25 (.agg #[.int .i64 x0, .int .i64 x1])).run Try.prog w = _
  refine checkKey_ints hf1 hf2 (fun g hg => ?_) b w
  simp only [List.mem_cons, List.not_mem_nil, or_false] at hg
  rcases hg with rfl | rfl
  all_goals (dsimp only; first | exact ⟨⟨_, hu3⟩, by simp⟩)
 ·obtain ⟨y0, s0, rfl, hy0⟩ := fitK_uncons hl'; obtain ⟨y1, s1, rfl, hy1⟩ := fitK_uncons hy0; obtain rfl := fitK_nil hy1
  clear hf1 hf2 hu3
  show (Op.equalIn 10000 25 (.agg #[.int .i64 x0, .int .i64 x1]) (.agg #[.int .i64 y0, .int .i64 y1])).run Try.prog w = .ok (ceq [.int .i64 x0, .int .i64 x1] [.int .i64 y0, .int .i64 y1]) w
  go_simp
  simp only [ceq, veq]
  all_goals (repeat' split)
  all_goals simp_all
theorem Try.ty110 : TyOK Try.prog 110 ⟨1, 8, [.p (.v (.map none))], .map 118 3 (.s [.i64, .i64]), none⟩ := by
 refine TyOK.of (z := .map none) (by kernel_rfl) rfl rfl rfl ⟨by show Try.prog.underlying 110 = _; kernel_rfl, ?_⟩ (by intro cs h; simp at h) (by intro ks h; simp at h)
 obtain ⟨f, hf1, hf2⟩ := structOf_spec (P := Try.prog) (t := 118) (fs := [(0, 3), (1, 3)]) (by kernel_rfl)
 refine ⟨⟨f, hf1⟩, fun l hl => ?_⟩
 have hu3 : Try.prog.underlying 3 = some (.int .i64) := by kernel_rfl
 obtain ⟨x0, r0, rfl, hx0⟩ := fitK_uncons hl; obtain ⟨x1, r1, rfl, hx1⟩ := fitK_uncons hx0; obtain rfl := fitK_nil hx1
 refine ⟨fun b w => ?_, fun l' hl' w => ?_⟩
 ·show (Instr.checkKey b 10000 118 (.agg #[.int .i64 x0, .int .i64 x1])).run Try.prog w = _
  refine checkKey_ints hf1 hf2 (fun g hg => ?_) b w
  simp only [List.mem_cons, List.not_mem_nil, or_false] at hg
  rcases hg with rfl | rfl
  all_goals (dsimp only; first | exact ⟨⟨_, hu3⟩, by simp⟩)
 ·obtain ⟨y0, s0, rfl, hy0⟩ := fitK_uncons hl'; obtain ⟨y1, s1, rfl, hy1⟩ := fitK_uncons hy0; obtain rfl := fitK_nil hy1
  clear hf1 hf2 hu3
  show (Op.equalIn 10000 118 (.agg #[.int .i64 x0, .int .i64 x1]) (.agg #[.int .i64 y0, .int .i64 y1])).run Try.prog w = .ok (ceq [.int .i64 x0, .int .i64 x1] [.int .i64 y0, .int .i64 y1]) w
  go_simp
  simp only [ceq, veq]
  all_goals (repeat' split)
  all_goals simp_all
def Try.T : TypeId -> Option Ty
 | 1 => some ⟨1, 8, [.p (.v .nilFunc)], .sc, none⟩
 | 2 => some ⟨1, 8, [.p (.v (.int .i64 0))], .int .i64, none⟩
 | 3 => some ⟨1, 8, [.p (.v (.int .i64 0))], .int .i64, none⟩
 | 4 => some ⟨1, 1, [.p (.v (.bool false))], .bool, none⟩
 | 5 => some ⟨1, 1, [.p (.v (.int .u8 0))], .int .u8, none⟩
 | 9 => some ⟨1, 16, [.p (.v (.string ByteArray.empty))], .str, none⟩
 | 12 => some ⟨1, 8, [.p (.v (.int .u64 0))], .int .u64, none⟩
 | 15 => some ⟨1, 8, [.p (.v (.pointer none))], .sc, none⟩
 | 16 => some ⟨1, 8, [.p (.v (.pointer none))], .sc, none⟩
 | 17 => some ⟨1, 8, [.p (.v (.pointer none))], .sc, none⟩
 | 21 => some ⟨1, 4, [.p (.v (.int .i32 0))], .int .i32, none⟩
 | 22 => some ⟨1, 24, [.nil 58], .slice 54, none⟩
 | 23 => some ⟨1, 8, [.p (.v .nilFunc)], .sc, none⟩
 | 25 => some ⟨2, 16, [.p (.v (.int .i64 0)), .p (.v (.int .i64 0))], .struct [(0, 3), (1, 3)], some [.int .i64, .int .i64]⟩
 | 26 => some ⟨1, 24, [.nil 4], .slice 86, none⟩
 | 28 => some ⟨4, 48, [.p (.v (.int .i64 0)), .p (.v (.int .i64 0)), .p (.v (.int .i64 0)), .nil 4], .struct [(0, 25), (2, 3), (3, 26)], none⟩
 | 29 => some ⟨1, 8, [.p (.v .nilFunc)], .sc, none⟩
 | 30 => some ⟨1, 8, [.p (.v .nilFunc)], .sc, none⟩
 | 31 => some ⟨1, 8, [.p (.v (.int .u64 0))], .int .u64, none⟩
 | 32 => some ⟨1, 24, [.nil 8], .slice 39, none⟩
 | 34 => some ⟨1, 8, [.p (.v .nilFunc)], .sc, none⟩
 | 35 => some ⟨1, 8, [.p (.v .nilFunc)], .sc, none⟩
 | 36 => some ⟨1, 8, [.p (.v (.int .i64 0))], .int .i64, none⟩
 | 37 => some ⟨1, 24, [.nil 11], .slice 59, none⟩
 | 39 => some ⟨8, 88, [.p (.v (.int .i64 0)), .p (.v (.int .i64 0)), .p (.v (.int .i64 0)), .p (.v (.int .i64 0)), .p (.v (.int .i64 0)), .p (.v (.int .i64 0)), .p (.v (.string ByteArray.empty)), .nil 11], .struct [(0, 25), (2, 3), (3, 3), (4, 36), (5, 3), (6, 9), (7, 37)], none⟩
 | 40 => some ⟨1, 24, [.nil 6], .slice 182, none⟩
 | 41 => some ⟨1, 24, [.nil 1], .slice 3, none⟩
 | 43 => some ⟨3, 56, [.p (.v (.int .i64 0)), .nil 4, .nil 1], .struct [(0, 3), (1, 26), (2, 41)], none⟩
 | 45 => some ⟨9, 120, [.p (.v (.int .i64 0)), .p (.v (.int .i64 0)), .p (.v (.int .i64 0)), .nil 6, .p (.v (.int .i64 0)), .nil 4, .nil 1, .p (.v (.int .i64 0)), .p (.v (.int .i64 0))], .struct [(0, 3), (1, 3), (2, 3), (3, 40), (4, 43), (7, 25)], none⟩
 | 47 => some ⟨5, 56, [.p (.v (.string ByteArray.empty)), .p (.v (.string ByteArray.empty)), .p (.v (.int .i64 0)), .p (.v (.int .i64 0)), .p (.v (.int .i64 0))], .struct [(0, 9), (1, 9), (2, 3), (3, 3), (4, 3)], some [.str, .str, .int .i64, .int .i64, .int .i64]⟩
 | 48 => some ⟨1, 24, [.nil 1], .slice 9, none⟩
 | 50 => some ⟨6, 56, [.p (.v (.int .i64 0)), .p (.v (.int .i64 0)), .p (.v (.string ByteArray.empty)), .p (.v (.int .i64 0)), .p (.v (.int .i64 0)), .p (.v (.int .i64 0))], .struct [(0, 3), (1, 3), (2, 9), (3, 3), (4, 25)], some [.int .i64, .int .i64, .str, .int .i64, .int .i64, .int .i64]⟩
 | 52 => some ⟨33, 368, [.p (.v (.int .i64 0)), .p (.v (.int .i64 0)), .p (.v (.int .i64 0)), .p (.v (.int .i64 0)), .p (.v (.int .i64 0)), .p (.v (.int .i64 0)), .p (.v (.int .i64 0)), .p (.v (.int .i64 0)), .p (.v (.int .i64 0)), .p (.v (.int .i64 0)), .nil 6, .p (.v (.int .i64 0)), .nil 4, .nil 1, .p (.v (.int .i64 0)), .p (.v (.int .i64 0)), .p (.v (.int .i64 0)), .p (.v (.string ByteArray.empty)), .p (.v (.bool false)), .p (.v (.int .i64 0)), .p (.v (.string ByteArray.empty)), .p (.v (.string ByteArray.empty)), .p (.v (.string ByteArray.empty)), .p (.v (.int .i64 0)), .p (.v (.int .i64 0)), .p (.v (.int .i64 0)), .nil 1, .p (.v (.int .i64 0)), .p (.v (.int .i64 0)), .p (.v (.string ByteArray.empty)), .p (.v (.int .i64 0)), .p (.v (.int .i64 0)), .p (.v (.int .i64 0))], .struct [(0, 3), (1, 3), (2, 3), (3, 3), (4, 3), (5, 25), (7, 45), (16, 3), (17, 9), (18, 4), (19, 36), (20, 9), (21, 47), (26, 48), (27, 50)], none⟩
 | 54 => some ⟨58, 648, [.p (.v (.int .i64 0)), .p (.v (.int .i64 0)), .p (.v (.int .i64 0)), .p (.v (.int .i64 0)), .p (.v (.int .i64 0)), .p (.v (.int .i64 0)), .p (.v (.int .i64 0)), .p (.v (.int .i64 0)), .p (.v (.int .i64 0)), .p (.v (.int .i64 0)), .p (.v (.int .i64 0)), .p (.v (.int .i64 0)), .p (.v (.string ByteArray.empty)), .nil 11, .p (.v (.int .i64 0)), .p (.v (.int .i64 0)), .p (.v (.int .i64 0)), .nil 6, .p (.v (.int .i64 0)), .nil 4, .nil 1, .p (.v (.int .i64 0)), .p (.v (.int .i64 0)), .p (.v (.int .i64 0)), .p (.v (.string ByteArray.empty)), .p (.v (.int .i64 0)), .p (.v (.int .i64 0)), .p (.v (.int .i64 0)), .p (.v (.int .i64 0)), .p (.v (.int .i64 0)), .p (.v (.int .i64 0)), .p (.v (.int .i64 0)), .p (.v (.int .i64 0)), .p (.v (.int .i64 0)), .p (.v (.int .i64 0)), .nil 6, .p (.v (.int .i64 0)), .nil 4, .nil 1, .p (.v (.int .i64 0)), .p (.v (.int .i64 0)), .p (.v (.int .i64 0)), .p (.v (.string ByteArray.empty)), .p (.v (.bool false)), .p (.v (.int .i64 0)), .p (.v (.string ByteArray.empty)), .p (.v (.string ByteArray.empty)), .p (.v (.string ByteArray.empty)), .p (.v (.int .i64 0)), .p (.v (.int .i64 0)), .p (.v (.int .i64 0)), .nil 1, .p (.v (.int .i64 0)), .p (.v (.int .i64 0)), .p (.v (.string ByteArray.empty)), .p (.v (.int .i64 0)), .p (.v (.int .i64 0)), .p (.v (.int .i64 0))], .struct [(0, 3), (1, 3), (2, 3), (3, 3), (4, 25), (6, 39), (14, 45), (23, 3), (24, 9), (25, 52)], none⟩
 | 56 => some ⟨1, 8, [.p (.v .nilFunc)], .sc, none⟩
 | 57 => some ⟨1, 8, [.p (.v .nilFunc)], .sc, none⟩
 | 59 => some ⟨11, 120, [.p (.v (.int .i64 0)), .p (.v (.string ByteArray.empty)), .p (.v (.string ByteArray.empty)), .p (.v (.int .i64 0)), .p (.v (.int .i64 0)), .p (.v (.int .i64 0)), .p (.v (.int .i64 0)), .p (.v (.int .i64 0)), .p (.v (.int .i64 0)), .p (.v (.int .i64 0)), .nil 4], .struct [(0, 3), (1, 47), (6, 3), (7, 28)], none⟩
 | 60 => some ⟨1, 8, [.p (.v (.map none))], .map 3 3 (.i .i64), none⟩
 | 61 => some ⟨1, 8, [.p (.v (.map none))], .map 25 3 (.s [.i64, .i64]), none⟩
 | 62 => some ⟨1, 8, [.p (.v .nilFunc)], .sc, none⟩
 | 65 => some ⟨1, 8, [.p (.v .nilFunc)], .sc, none⟩
 | 66 => some ⟨1, 8, [.p (.v .nilFunc)], .sc, none⟩
 | 67 => some ⟨1, 8, [.p (.v .nilFunc)], .sc, none⟩
 | 68 => some ⟨1, 8, [.p (.v (.map none))], .map 3 25 (.i .i64), none⟩
 | 69 => some ⟨1, 8, [.p (.v (.map none))], .map 25 25 (.s [.i64, .i64]), none⟩
 | 70 => some ⟨1, 8, [.p (.v .nilFunc)], .sc, none⟩
 | 71 => some ⟨1, 8, [.p (.v .nilFunc)], .sc, none⟩
 | 72 => some ⟨1, 8, [.p (.v .nilFunc)], .sc, none⟩
 | 73 => some ⟨1, 8, [.p (.v .nilFunc)], .sc, none⟩
 | 74 => some ⟨1, 8, [.p (.v .nilFunc)], .sc, none⟩
 | 75 => some ⟨1, 8, [.p (.v .nilFunc)], .sc, none⟩
 | 76 => some ⟨1, 8, [.p (.v .nilFunc)], .sc, none⟩
 | 77 => some ⟨1, 8, [.p (.v .nilFunc)], .sc, none⟩
 | 78 => some ⟨1, 8, [.p (.v .nilFunc)], .sc, none⟩
 | 79 => some ⟨1, 8, [.p (.v .nilFunc)], .sc, none⟩
 | 80 => some ⟨1, 8, [.p (.v .nilFunc)], .sc, none⟩
 | 81 => some ⟨1, 8, [.p (.v .nilFunc)], .sc, none⟩
 | 82 => some ⟨1, 8, [.p (.v (.int .u64 0))], .int .u64, none⟩
 | 83 => some ⟨1, 8, [.p (.v .nilFunc)], .sc, none⟩
 | 84 => some ⟨1, 8, [.p (.v .nilFunc)], .sc, none⟩
 | 86 => some ⟨4, 32, [.p (.v (.int .i64 0)), .p (.v (.int .i64 0)), .p (.v (.int .i64 0)), .p (.v (.int .i64 0))], .struct [(0, 3), (1, 3), (2, 3), (3, 3)], some [.int .i64, .int .i64, .int .i64, .int .i64]⟩
 | 87 => some ⟨1, 8, [.p (.v (.pointer none))], .sc, none⟩
 | 88 => some ⟨1, 8, [.p (.v .nilFunc)], .sc, none⟩
 | 89 => some ⟨1, 8, [.p (.v .nilFunc)], .sc, none⟩
 | 90 => some ⟨1, 8, [.p (.v .nilFunc)], .sc, none⟩
 | 91 => some ⟨1, 8, [.p (.v .nilFunc)], .sc, none⟩
 | 92 => some ⟨1, 8, [.p (.v .nilFunc)], .sc, none⟩
 | 93 => some ⟨1, 8, [.p (.v (.int .i64 0))], .int .i64, none⟩
 | 95 => some ⟨1, 8, [.p (.v .nilFunc)], .sc, none⟩
 | 96 => some ⟨1, 8, [.p (.v .nilFunc)], .sc, none⟩
 | 97 => some ⟨1, 8, [.p (.v .nilFunc)], .sc, none⟩
 | 98 => some ⟨1, 8, [.p (.v .nilFunc)], .sc, none⟩
 | 99 => some ⟨1, 8, [.p (.v .nilFunc)], .sc, none⟩
 | 100 => some ⟨1, 4, [.p (.v (.int .u32 0))], .int .u32, none⟩
 | 101 => some ⟨1, 8, [.p (.v .nilFunc)], .sc, none⟩
 | 102 => some ⟨1, 8, [.p (.v .nilFunc)], .sc, none⟩
 | 103 => some ⟨1, 8, [.p (.v .nilFunc)], .sc, none⟩
 | 104 => some ⟨1, 24, [.nil 5], .slice 47, none⟩
 | 106 => some ⟨9, 120, [.nil 5, .nil 1, .p (.v (.int .i64 0)), .p (.v (.int .i64 0)), .p (.v (.int .i64 0)), .p (.v (.int .i64 0)), .nil 4, .p (.v (.int .i64 0)), .p (.v (.int .i64 0))], .struct [(0, 104), (1, 41), (2, 3), (3, 28), (7, 25)], none⟩
 | 107 => some ⟨1, 8, [.p (.v .nilFunc)], .sc, none⟩
 | 108 => some ⟨1, 24, [.nil 9], .slice 106, none⟩
 | 109 => some ⟨1, 8, [.p (.v (.map none))], .map 25 39 (.s [.i64, .i64]), none⟩
 | 110 => some ⟨1, 8, [.p (.v (.map none))], .map 118 3 (.s [.i64, .i64]), none⟩
 | 111 => some ⟨1, 24, [.nil 2], .slice 25, none⟩
 | 112 => some ⟨1, 24, [.nil 1], .slice 4, none⟩
 | 113 => some ⟨8, 64, [.p (.v (.int .i64 0)), .p (.v (.int .i64 0)), .p (.v (.int .i64 0)), .p (.v (.int .i64 0)), .p (.v (.int .i64 0)), .p (.v (.int .i64 0)), .p (.v (.int .i64 0)), .p (.v (.int .i64 0))], .array 4 25, none⟩
 | 115 => some ⟨16, 208, [.nil 58, .nil 8, .nil 9, .p (.v (.map none)), .p (.v (.map none)), .p (.v (.map none)), .nil 2, .nil 1, .p (.v (.int .i64 0)), .p (.v (.int .i64 0)), .p (.v (.int .i64 0)), .p (.v (.int .i64 0)), .p (.v (.int .i64 0)), .p (.v (.int .i64 0)), .p (.v (.int .i64 0)), .p (.v (.int .i64 0))], .struct [(0, 22), (1, 32), (2, 108), (3, 61), (4, 109), (5, 110), (6, 111), (7, 112), (8, 113)], none⟩
 | 116 => some ⟨1, 8, [.p (.v .nilFunc)], .sc, none⟩
 | 118 => some ⟨2, 16, [.p (.v (.int .i64 0)), .p (.v (.int .i64 0))], .struct [(0, 3), (1, 3)], some [.int .i64, .int .i64]⟩
 | 119 => some ⟨1, 8, [.p (.v .nilFunc)], .sc, none⟩
 | 120 => some ⟨1, 8, [.p (.v (.int .u64 0))], .int .u64, none⟩
 | 121 => some ⟨1, 8, [.p (.v .nilFunc)], .sc, none⟩
 | 122 => some ⟨1, 8, [.p (.v .nilFunc)], .sc, none⟩
 | 123 => some ⟨1, 8, [.p (.v .nilFunc)], .sc, none⟩
 | 124 => some ⟨1, 8, [.p (.v (.pointer none))], .sc, none⟩
 | 125 => some ⟨1, 8, [.p (.v .nilFunc)], .sc, none⟩
 | 126 => some ⟨1, 8, [.p (.v .nilFunc)], .sc, none⟩
 | 127 => some ⟨1, 8, [.p (.v .nilFunc)], .sc, none⟩
 | 128 => some ⟨1, 8, [.p (.v .nilFunc)], .sc, none⟩
 | 129 => some ⟨1, 8, [.p (.v .nilFunc)], .sc, none⟩
 | 130 => some ⟨1, 8, [.p (.v (.pointer none))], .sc, none⟩
 | 132 => some ⟨1, 8, [.p (.v .nilFunc)], .sc, none⟩
 | 134 => some ⟨1, 8, [.p (.v .nilFunc)], .sc, none⟩
 | 135 => some ⟨1, 8, [.p (.v .nilFunc)], .sc, none⟩
 | 136 => some ⟨1, 8, [.p (.v (.pointer none))], .sc, none⟩
 | 138 => some ⟨1, 8, [.p (.v .nilFunc)], .sc, none⟩
 | 139 => some ⟨1, 8, [.p (.v .nilFunc)], .sc, none⟩
 | 140 => some ⟨1, 8, [.p (.v .nilFunc)], .sc, none⟩
 | 141 => some ⟨1, 8, [.p (.v .nilFunc)], .sc, none⟩
 | 142 => some ⟨1, 8, [.p (.v .nilFunc)], .sc, none⟩
 | 143 => some ⟨1, 8, [.p (.v .nilFunc)], .sc, none⟩
 | 144 => some ⟨1, 8, [.p (.v .nilFunc)], .sc, none⟩
 | 145 => some ⟨1, 8, [.p (.v .nilFunc)], .sc, none⟩
 | 146 => some ⟨1, 8, [.p (.v .nilFunc)], .sc, none⟩
 | 147 => some ⟨1, 8, [.p (.v .nilFunc)], .sc, none⟩
 | 149 => some ⟨1, 8, [.p (.v .nilFunc)], .sc, none⟩
 | 150 => some ⟨1, 8, [.p (.v .nilFunc)], .sc, none⟩
 | 151 => some ⟨1, 8, [.p (.v .nilFunc)], .sc, none⟩
 | 152 => some ⟨1, 8, [.p (.v .nilFunc)], .sc, none⟩
 | 153 => some ⟨1, 8, [.p (.v .nilFunc)], .sc, none⟩
 | 155 => some ⟨1, 8, [.p (.v .nilFunc)], .sc, none⟩
 | 156 => some ⟨1, 8, [.p (.v .nilFunc)], .sc, none⟩
 | 157 => some ⟨1, 8, [.p (.v .nilFunc)], .sc, none⟩
 | 158 => some ⟨1, 8, [.p (.v .nilFunc)], .sc, none⟩
 | 159 => some ⟨1, 8, [.p (.v .nilFunc)], .sc, none⟩
 | 160 => some ⟨1, 8, [.p (.v .nilFunc)], .sc, none⟩
 | 161 => some ⟨1, 24, [.nil 1], .slice 5, none⟩
 | 162 => some ⟨1, 8, [.p (.v .nilFunc)], .sc, none⟩
 | 163 => some ⟨1, 8, [.p (.v .nilFunc)], .sc, none⟩
 | 165 => some ⟨1, 8, [.p (.v .nilFunc)], .sc, none⟩
 | 166 => some ⟨1, 8, [.p (.v .nilFunc)], .sc, none⟩
 | 169 => some ⟨0, 0, [], .array 0 16, none⟩
 | 172 => some ⟨1, 8, [.p (.v .nilFunc)], .sc, none⟩
 | 175 => some ⟨1, 8, [.p (.v .nilFunc)], .sc, none⟩
 | 176 => some ⟨1, 8, [.p (.v (.pointer none))], .sc, none⟩
 | 182 => some ⟨6, 56, [.p (.v (.int .i64 0)), .p (.v (.string ByteArray.empty)), .p (.v (.string ByteArray.empty)), .p (.v (.int .i64 0)), .p (.v (.bool false)), .p (.v (.bool false))], .struct [(0, 3), (1, 9), (2, 9), (3, 3), (4, 4), (5, 4)], some [.int .i64, .str, .str, .int .i64, .bool, .bool]⟩
 | _ => none
@[simp] theorem Try.T1 : Try.T 1 = some ⟨1, 8, [.p (.v .nilFunc)], .sc, none⟩ := rfl
@[simp] theorem Try.T2 : Try.T 2 = some ⟨1, 8, [.p (.v (.int .i64 0))], .int .i64, none⟩ := rfl
@[simp] theorem Try.T3 : Try.T 3 = some ⟨1, 8, [.p (.v (.int .i64 0))], .int .i64, none⟩ := rfl
@[simp] theorem Try.T4 : Try.T 4 = some ⟨1, 1, [.p (.v (.bool false))], .bool, none⟩ := rfl
@[simp] theorem Try.T5 : Try.T 5 = some ⟨1, 1, [.p (.v (.int .u8 0))], .int .u8, none⟩ := rfl
@[simp] theorem Try.T9 : Try.T 9 = some ⟨1, 16, [.p (.v (.string ByteArray.empty))], .str, none⟩ := rfl
@[simp] theorem Try.T12 : Try.T 12 = some ⟨1, 8, [.p (.v (.int .u64 0))], .int .u64, none⟩ := rfl
@[simp] theorem Try.T15 : Try.T 15 = some ⟨1, 8, [.p (.v (.pointer none))], .sc, none⟩ := rfl
@[simp] theorem Try.T16 : Try.T 16 = some ⟨1, 8, [.p (.v (.pointer none))], .sc, none⟩ := rfl
@[simp] theorem Try.T17 : Try.T 17 = some ⟨1, 8, [.p (.v (.pointer none))], .sc, none⟩ := rfl
@[simp] theorem Try.T21 : Try.T 21 = some ⟨1, 4, [.p (.v (.int .i32 0))], .int .i32, none⟩ := rfl
@[simp] theorem Try.T22 : Try.T 22 = some ⟨1, 24, [.nil 58], .slice 54, none⟩ := rfl
@[simp] theorem Try.T23 : Try.T 23 = some ⟨1, 8, [.p (.v .nilFunc)], .sc, none⟩ := rfl
@[simp] theorem Try.T25 : Try.T 25 = some ⟨2, 16, [.p (.v (.int .i64 0)), .p (.v (.int .i64 0))], .struct [(0, 3), (1, 3)], some [.int .i64, .int .i64]⟩ := rfl
@[simp] theorem Try.T26 : Try.T 26 = some ⟨1, 24, [.nil 4], .slice 86, none⟩ := rfl
@[simp] theorem Try.T28 : Try.T 28 = some ⟨4, 48, [.p (.v (.int .i64 0)), .p (.v (.int .i64 0)), .p (.v (.int .i64 0)), .nil 4], .struct [(0, 25), (2, 3), (3, 26)], none⟩ := rfl
@[simp] theorem Try.T29 : Try.T 29 = some ⟨1, 8, [.p (.v .nilFunc)], .sc, none⟩ := rfl
@[simp] theorem Try.T30 : Try.T 30 = some ⟨1, 8, [.p (.v .nilFunc)], .sc, none⟩ := rfl
@[simp] theorem Try.T31 : Try.T 31 = some ⟨1, 8, [.p (.v (.int .u64 0))], .int .u64, none⟩ := rfl
@[simp] theorem Try.T32 : Try.T 32 = some ⟨1, 24, [.nil 8], .slice 39, none⟩ := rfl
@[simp] theorem Try.T34 : Try.T 34 = some ⟨1, 8, [.p (.v .nilFunc)], .sc, none⟩ := rfl
@[simp] theorem Try.T35 : Try.T 35 = some ⟨1, 8, [.p (.v .nilFunc)], .sc, none⟩ := rfl
@[simp] theorem Try.T36 : Try.T 36 = some ⟨1, 8, [.p (.v (.int .i64 0))], .int .i64, none⟩ := rfl
@[simp] theorem Try.T37 : Try.T 37 = some ⟨1, 24, [.nil 11], .slice 59, none⟩ := rfl
@[simp] theorem Try.T39 : Try.T 39 = some ⟨8, 88, [.p (.v (.int .i64 0)), .p (.v (.int .i64 0)), .p (.v (.int .i64 0)), .p (.v (.int .i64 0)), .p (.v (.int .i64 0)), .p (.v (.int .i64 0)), .p (.v (.string ByteArray.empty)), .nil 11], .struct [(0, 25), (2, 3), (3, 3), (4, 36), (5, 3), (6, 9), (7, 37)], none⟩ := rfl
@[simp] theorem Try.T40 : Try.T 40 = some ⟨1, 24, [.nil 6], .slice 182, none⟩ := rfl
@[simp] theorem Try.T41 : Try.T 41 = some ⟨1, 24, [.nil 1], .slice 3, none⟩ := rfl
@[simp] theorem Try.T43 : Try.T 43 = some ⟨3, 56, [.p (.v (.int .i64 0)), .nil 4, .nil 1], .struct [(0, 3), (1, 26), (2, 41)], none⟩ := rfl
@[simp] theorem Try.T45 : Try.T 45 = some ⟨9, 120, [.p (.v (.int .i64 0)), .p (.v (.int .i64 0)), .p (.v (.int .i64 0)), .nil 6, .p (.v (.int .i64 0)), .nil 4, .nil 1, .p (.v (.int .i64 0)), .p (.v (.int .i64 0))], .struct [(0, 3), (1, 3), (2, 3), (3, 40), (4, 43), (7, 25)], none⟩ := rfl
@[simp] theorem Try.T47 : Try.T 47 = some ⟨5, 56, [.p (.v (.string ByteArray.empty)), .p (.v (.string ByteArray.empty)), .p (.v (.int .i64 0)), .p (.v (.int .i64 0)), .p (.v (.int .i64 0))], .struct [(0, 9), (1, 9), (2, 3), (3, 3), (4, 3)], some [.str, .str, .int .i64, .int .i64, .int .i64]⟩ := rfl
@[simp] theorem Try.T48 : Try.T 48 = some ⟨1, 24, [.nil 1], .slice 9, none⟩ := rfl
@[simp] theorem Try.T50 : Try.T 50 = some ⟨6, 56, [.p (.v (.int .i64 0)), .p (.v (.int .i64 0)), .p (.v (.string ByteArray.empty)), .p (.v (.int .i64 0)), .p (.v (.int .i64 0)), .p (.v (.int .i64 0))], .struct [(0, 3), (1, 3), (2, 9), (3, 3), (4, 25)], some [.int .i64, .int .i64, .str, .int .i64, .int .i64, .int .i64]⟩ := rfl
@[simp] theorem Try.T52 : Try.T 52 = some ⟨33, 368, [.p (.v (.int .i64 0)), .p (.v (.int .i64 0)), .p (.v (.int .i64 0)), .p (.v (.int .i64 0)), .p (.v (.int .i64 0)), .p (.v (.int .i64 0)), .p (.v (.int .i64 0)), .p (.v (.int .i64 0)), .p (.v (.int .i64 0)), .p (.v (.int .i64 0)), .nil 6, .p (.v (.int .i64 0)), .nil 4, .nil 1, .p (.v (.int .i64 0)), .p (.v (.int .i64 0)), .p (.v (.int .i64 0)), .p (.v (.string ByteArray.empty)), .p (.v (.bool false)), .p (.v (.int .i64 0)), .p (.v (.string ByteArray.empty)), .p (.v (.string ByteArray.empty)), .p (.v (.string ByteArray.empty)), .p (.v (.int .i64 0)), .p (.v (.int .i64 0)), .p (.v (.int .i64 0)), .nil 1, .p (.v (.int .i64 0)), .p (.v (.int .i64 0)), .p (.v (.string ByteArray.empty)), .p (.v (.int .i64 0)), .p (.v (.int .i64 0)), .p (.v (.int .i64 0))], .struct [(0, 3), (1, 3), (2, 3), (3, 3), (4, 3), (5, 25), (7, 45), (16, 3), (17, 9), (18, 4), (19, 36), (20, 9), (21, 47), (26, 48), (27, 50)], none⟩ := rfl
@[simp] theorem Try.T54 : Try.T 54 = some ⟨58, 648, [.p (.v (.int .i64 0)), .p (.v (.int .i64 0)), .p (.v (.int .i64 0)), .p (.v (.int .i64 0)), .p (.v (.int .i64 0)), .p (.v (.int .i64 0)), .p (.v (.int .i64 0)), .p (.v (.int .i64 0)), .p (.v (.int .i64 0)), .p (.v (.int .i64 0)), .p (.v (.int .i64 0)), .p (.v (.int .i64 0)), .p (.v (.string ByteArray.empty)), .nil 11, .p (.v (.int .i64 0)), .p (.v (.int .i64 0)), .p (.v (.int .i64 0)), .nil 6, .p (.v (.int .i64 0)), .nil 4, .nil 1, .p (.v (.int .i64 0)), .p (.v (.int .i64 0)), .p (.v (.int .i64 0)), .p (.v (.string ByteArray.empty)), .p (.v (.int .i64 0)), .p (.v (.int .i64 0)), .p (.v (.int .i64 0)), .p (.v (.int .i64 0)), .p (.v (.int .i64 0)), .p (.v (.int .i64 0)), .p (.v (.int .i64 0)), .p (.v (.int .i64 0)), .p (.v (.int .i64 0)), .p (.v (.int .i64 0)), .nil 6, .p (.v (.int .i64 0)), .nil 4, .nil 1, .p (.v (.int .i64 0)), .p (.v (.int .i64 0)), .p (.v (.int .i64 0)), .p (.v (.string ByteArray.empty)), .p (.v (.bool false)), .p (.v (.int .i64 0)), .p (.v (.string ByteArray.empty)), .p (.v (.string ByteArray.empty)), .p (.v (.string ByteArray.empty)), .p (.v (.int .i64 0)), .p (.v (.int .i64 0)), .p (.v (.int .i64 0)), .nil 1, .p (.v (.int .i64 0)), .p (.v (.int .i64 0)), .p (.v (.string ByteArray.empty)), .p (.v (.int .i64 0)), .p (.v (.int .i64 0)), .p (.v (.int .i64 0))], .struct [(0, 3), (1, 3), (2, 3), (3, 3), (4, 25), (6, 39), (14, 45), (23, 3), (24, 9), (25, 52)], none⟩ := rfl
@[simp] theorem Try.T56 : Try.T 56 = some ⟨1, 8, [.p (.v .nilFunc)], .sc, none⟩ := rfl
@[simp] theorem Try.T57 : Try.T 57 = some ⟨1, 8, [.p (.v .nilFunc)], .sc, none⟩ := rfl
@[simp] theorem Try.T59 : Try.T 59 = some ⟨11, 120, [.p (.v (.int .i64 0)), .p (.v (.string ByteArray.empty)), .p (.v (.string ByteArray.empty)), .p (.v (.int .i64 0)), .p (.v (.int .i64 0)), .p (.v (.int .i64 0)), .p (.v (.int .i64 0)), .p (.v (.int .i64 0)), .p (.v (.int .i64 0)), .p (.v (.int .i64 0)), .nil 4], .struct [(0, 3), (1, 47), (6, 3), (7, 28)], none⟩ := rfl
@[simp] theorem Try.T60 : Try.T 60 = some ⟨1, 8, [.p (.v (.map none))], .map 3 3 (.i .i64), none⟩ := rfl
@[simp] theorem Try.T61 : Try.T 61 = some ⟨1, 8, [.p (.v (.map none))], .map 25 3 (.s [.i64, .i64]), none⟩ := rfl
@[simp] theorem Try.T62 : Try.T 62 = some ⟨1, 8, [.p (.v .nilFunc)], .sc, none⟩ := rfl
@[simp] theorem Try.T65 : Try.T 65 = some ⟨1, 8, [.p (.v .nilFunc)], .sc, none⟩ := rfl
@[simp] theorem Try.T66 : Try.T 66 = some ⟨1, 8, [.p (.v .nilFunc)], .sc, none⟩ := rfl
@[simp] theorem Try.T67 : Try.T 67 = some ⟨1, 8, [.p (.v .nilFunc)], .sc, none⟩ := rfl
@[simp] theorem Try.T68 : Try.T 68 = some ⟨1, 8, [.p (.v (.map none))], .map 3 25 (.i .i64), none⟩ := rfl
@[simp] theorem Try.T69 : Try.T 69 = some ⟨1, 8, [.p (.v (.map none))], .map 25 25 (.s [.i64, .i64]), none⟩ := rfl
@[simp] theorem Try.T70 : Try.T 70 = some ⟨1, 8, [.p (.v .nilFunc)], .sc, none⟩ := rfl
@[simp] theorem Try.T71 : Try.T 71 = some ⟨1, 8, [.p (.v .nilFunc)], .sc, none⟩ := rfl
@[simp] theorem Try.T72 : Try.T 72 = some ⟨1, 8, [.p (.v .nilFunc)], .sc, none⟩ := rfl
@[simp] theorem Try.T73 : Try.T 73 = some ⟨1, 8, [.p (.v .nilFunc)], .sc, none⟩ := rfl
@[simp] theorem Try.T74 : Try.T 74 = some ⟨1, 8, [.p (.v .nilFunc)], .sc, none⟩ := rfl
@[simp] theorem Try.T75 : Try.T 75 = some ⟨1, 8, [.p (.v .nilFunc)], .sc, none⟩ := rfl
@[simp] theorem Try.T76 : Try.T 76 = some ⟨1, 8, [.p (.v .nilFunc)], .sc, none⟩ := rfl
@[simp] theorem Try.T77 : Try.T 77 = some ⟨1, 8, [.p (.v .nilFunc)], .sc, none⟩ := rfl
@[simp] theorem Try.T78 : Try.T 78 = some ⟨1, 8, [.p (.v .nilFunc)], .sc, none⟩ := rfl
@[simp] theorem Try.T79 : Try.T 79 = some ⟨1, 8, [.p (.v .nilFunc)], .sc, none⟩ := rfl
@[simp] theorem Try.T80 : Try.T 80 = some ⟨1, 8, [.p (.v .nilFunc)], .sc, none⟩ := rfl
@[simp] theorem Try.T81 : Try.T 81 = some ⟨1, 8, [.p (.v .nilFunc)], .sc, none⟩ := rfl
@[simp] theorem Try.T82 : Try.T 82 = some ⟨1, 8, [.p (.v (.int .u64 0))], .int .u64, none⟩ := rfl
@[simp] theorem Try.T83 : Try.T 83 = some ⟨1, 8, [.p (.v .nilFunc)], .sc, none⟩ := rfl
@[simp] theorem Try.T84 : Try.T 84 = some ⟨1, 8, [.p (.v .nilFunc)], .sc, none⟩ := rfl
@[simp] theorem Try.T86 : Try.T 86 = some ⟨4, 32, [.p (.v (.int .i64 0)), .p (.v (.int .i64 0)), .p (.v (.int .i64 0)), .p (.v (.int .i64 0))], .struct [(0, 3), (1, 3), (2, 3), (3, 3)], some [.int .i64, .int .i64, .int .i64, .int .i64]⟩ := rfl
@[simp] theorem Try.T87 : Try.T 87 = some ⟨1, 8, [.p (.v (.pointer none))], .sc, none⟩ := rfl
@[simp] theorem Try.T88 : Try.T 88 = some ⟨1, 8, [.p (.v .nilFunc)], .sc, none⟩ := rfl
@[simp] theorem Try.T89 : Try.T 89 = some ⟨1, 8, [.p (.v .nilFunc)], .sc, none⟩ := rfl
@[simp] theorem Try.T90 : Try.T 90 = some ⟨1, 8, [.p (.v .nilFunc)], .sc, none⟩ := rfl
@[simp] theorem Try.T91 : Try.T 91 = some ⟨1, 8, [.p (.v .nilFunc)], .sc, none⟩ := rfl
@[simp] theorem Try.T92 : Try.T 92 = some ⟨1, 8, [.p (.v .nilFunc)], .sc, none⟩ := rfl
@[simp] theorem Try.T93 : Try.T 93 = some ⟨1, 8, [.p (.v (.int .i64 0))], .int .i64, none⟩ := rfl
@[simp] theorem Try.T95 : Try.T 95 = some ⟨1, 8, [.p (.v .nilFunc)], .sc, none⟩ := rfl
@[simp] theorem Try.T96 : Try.T 96 = some ⟨1, 8, [.p (.v .nilFunc)], .sc, none⟩ := rfl
@[simp] theorem Try.T97 : Try.T 97 = some ⟨1, 8, [.p (.v .nilFunc)], .sc, none⟩ := rfl
@[simp] theorem Try.T98 : Try.T 98 = some ⟨1, 8, [.p (.v .nilFunc)], .sc, none⟩ := rfl
@[simp] theorem Try.T99 : Try.T 99 = some ⟨1, 8, [.p (.v .nilFunc)], .sc, none⟩ := rfl
@[simp] theorem Try.T100 : Try.T 100 = some ⟨1, 4, [.p (.v (.int .u32 0))], .int .u32, none⟩ := rfl
@[simp] theorem Try.T101 : Try.T 101 = some ⟨1, 8, [.p (.v .nilFunc)], .sc, none⟩ := rfl
@[simp] theorem Try.T102 : Try.T 102 = some ⟨1, 8, [.p (.v .nilFunc)], .sc, none⟩ := rfl
@[simp] theorem Try.T103 : Try.T 103 = some ⟨1, 8, [.p (.v .nilFunc)], .sc, none⟩ := rfl
@[simp] theorem Try.T104 : Try.T 104 = some ⟨1, 24, [.nil 5], .slice 47, none⟩ := rfl
@[simp] theorem Try.T106 : Try.T 106 = some ⟨9, 120, [.nil 5, .nil 1, .p (.v (.int .i64 0)), .p (.v (.int .i64 0)), .p (.v (.int .i64 0)), .p (.v (.int .i64 0)), .nil 4, .p (.v (.int .i64 0)), .p (.v (.int .i64 0))], .struct [(0, 104), (1, 41), (2, 3), (3, 28), (7, 25)], none⟩ := rfl
@[simp] theorem Try.T107 : Try.T 107 = some ⟨1, 8, [.p (.v .nilFunc)], .sc, none⟩ := rfl
@[simp] theorem Try.T108 : Try.T 108 = some ⟨1, 24, [.nil 9], .slice 106, none⟩ := rfl
@[simp] theorem Try.T109 : Try.T 109 = some ⟨1, 8, [.p (.v (.map none))], .map 25 39 (.s [.i64, .i64]), none⟩ := rfl
@[simp] theorem Try.T110 : Try.T 110 = some ⟨1, 8, [.p (.v (.map none))], .map 118 3 (.s [.i64, .i64]), none⟩ := rfl
@[simp] theorem Try.T111 : Try.T 111 = some ⟨1, 24, [.nil 2], .slice 25, none⟩ := rfl
@[simp] theorem Try.T112 : Try.T 112 = some ⟨1, 24, [.nil 1], .slice 4, none⟩ := rfl
@[simp] theorem Try.T113 : Try.T 113 = some ⟨8, 64, [.p (.v (.int .i64 0)), .p (.v (.int .i64 0)), .p (.v (.int .i64 0)), .p (.v (.int .i64 0)), .p (.v (.int .i64 0)), .p (.v (.int .i64 0)), .p (.v (.int .i64 0)), .p (.v (.int .i64 0))], .array 4 25, none⟩ := rfl
@[simp] theorem Try.T115 : Try.T 115 = some ⟨16, 208, [.nil 58, .nil 8, .nil 9, .p (.v (.map none)), .p (.v (.map none)), .p (.v (.map none)), .nil 2, .nil 1, .p (.v (.int .i64 0)), .p (.v (.int .i64 0)), .p (.v (.int .i64 0)), .p (.v (.int .i64 0)), .p (.v (.int .i64 0)), .p (.v (.int .i64 0)), .p (.v (.int .i64 0)), .p (.v (.int .i64 0))], .struct [(0, 22), (1, 32), (2, 108), (3, 61), (4, 109), (5, 110), (6, 111), (7, 112), (8, 113)], none⟩ := rfl
@[simp] theorem Try.T116 : Try.T 116 = some ⟨1, 8, [.p (.v .nilFunc)], .sc, none⟩ := rfl
@[simp] theorem Try.T118 : Try.T 118 = some ⟨2, 16, [.p (.v (.int .i64 0)), .p (.v (.int .i64 0))], .struct [(0, 3), (1, 3)], some [.int .i64, .int .i64]⟩ := rfl
@[simp] theorem Try.T119 : Try.T 119 = some ⟨1, 8, [.p (.v .nilFunc)], .sc, none⟩ := rfl
@[simp] theorem Try.T120 : Try.T 120 = some ⟨1, 8, [.p (.v (.int .u64 0))], .int .u64, none⟩ := rfl
@[simp] theorem Try.T121 : Try.T 121 = some ⟨1, 8, [.p (.v .nilFunc)], .sc, none⟩ := rfl
@[simp] theorem Try.T122 : Try.T 122 = some ⟨1, 8, [.p (.v .nilFunc)], .sc, none⟩ := rfl
@[simp] theorem Try.T123 : Try.T 123 = some ⟨1, 8, [.p (.v .nilFunc)], .sc, none⟩ := rfl
@[simp] theorem Try.T124 : Try.T 124 = some ⟨1, 8, [.p (.v (.pointer none))], .sc, none⟩ := rfl
@[simp] theorem Try.T125 : Try.T 125 = some ⟨1, 8, [.p (.v .nilFunc)], .sc, none⟩ := rfl
@[simp] theorem Try.T126 : Try.T 126 = some ⟨1, 8, [.p (.v .nilFunc)], .sc, none⟩ := rfl
@[simp] theorem Try.T127 : Try.T 127 = some ⟨1, 8, [.p (.v .nilFunc)], .sc, none⟩ := rfl
@[simp] theorem Try.T128 : Try.T 128 = some ⟨1, 8, [.p (.v .nilFunc)], .sc, none⟩ := rfl
@[simp] theorem Try.T129 : Try.T 129 = some ⟨1, 8, [.p (.v .nilFunc)], .sc, none⟩ := rfl
@[simp] theorem Try.T130 : Try.T 130 = some ⟨1, 8, [.p (.v (.pointer none))], .sc, none⟩ := rfl
@[simp] theorem Try.T132 : Try.T 132 = some ⟨1, 8, [.p (.v .nilFunc)], .sc, none⟩ := rfl
@[simp] theorem Try.T134 : Try.T 134 = some ⟨1, 8, [.p (.v .nilFunc)], .sc, none⟩ := rfl
@[simp] theorem Try.T135 : Try.T 135 = some ⟨1, 8, [.p (.v .nilFunc)], .sc, none⟩ := rfl
@[simp] theorem Try.T136 : Try.T 136 = some ⟨1, 8, [.p (.v (.pointer none))], .sc, none⟩ := rfl
@[simp] theorem Try.T138 : Try.T 138 = some ⟨1, 8, [.p (.v .nilFunc)], .sc, none⟩ := rfl
@[simp] theorem Try.T139 : Try.T 139 = some ⟨1, 8, [.p (.v .nilFunc)], .sc, none⟩ := rfl
@[simp] theorem Try.T140 : Try.T 140 = some ⟨1, 8, [.p (.v .nilFunc)], .sc, none⟩ := rfl
@[simp] theorem Try.T141 : Try.T 141 = some ⟨1, 8, [.p (.v .nilFunc)], .sc, none⟩ := rfl
@[simp] theorem Try.T142 : Try.T 142 = some ⟨1, 8, [.p (.v .nilFunc)], .sc, none⟩ := rfl
@[simp] theorem Try.T143 : Try.T 143 = some ⟨1, 8, [.p (.v .nilFunc)], .sc, none⟩ := rfl
@[simp] theorem Try.T144 : Try.T 144 = some ⟨1, 8, [.p (.v .nilFunc)], .sc, none⟩ := rfl
@[simp] theorem Try.T145 : Try.T 145 = some ⟨1, 8, [.p (.v .nilFunc)], .sc, none⟩ := rfl
@[simp] theorem Try.T146 : Try.T 146 = some ⟨1, 8, [.p (.v .nilFunc)], .sc, none⟩ := rfl
@[simp] theorem Try.T147 : Try.T 147 = some ⟨1, 8, [.p (.v .nilFunc)], .sc, none⟩ := rfl
@[simp] theorem Try.T149 : Try.T 149 = some ⟨1, 8, [.p (.v .nilFunc)], .sc, none⟩ := rfl
@[simp] theorem Try.T150 : Try.T 150 = some ⟨1, 8, [.p (.v .nilFunc)], .sc, none⟩ := rfl
@[simp] theorem Try.T151 : Try.T 151 = some ⟨1, 8, [.p (.v .nilFunc)], .sc, none⟩ := rfl
@[simp] theorem Try.T152 : Try.T 152 = some ⟨1, 8, [.p (.v .nilFunc)], .sc, none⟩ := rfl
@[simp] theorem Try.T153 : Try.T 153 = some ⟨1, 8, [.p (.v .nilFunc)], .sc, none⟩ := rfl
@[simp] theorem Try.T155 : Try.T 155 = some ⟨1, 8, [.p (.v .nilFunc)], .sc, none⟩ := rfl
@[simp] theorem Try.T156 : Try.T 156 = some ⟨1, 8, [.p (.v .nilFunc)], .sc, none⟩ := rfl
@[simp] theorem Try.T157 : Try.T 157 = some ⟨1, 8, [.p (.v .nilFunc)], .sc, none⟩ := rfl
@[simp] theorem Try.T158 : Try.T 158 = some ⟨1, 8, [.p (.v .nilFunc)], .sc, none⟩ := rfl
@[simp] theorem Try.T159 : Try.T 159 = some ⟨1, 8, [.p (.v .nilFunc)], .sc, none⟩ := rfl
@[simp] theorem Try.T160 : Try.T 160 = some ⟨1, 8, [.p (.v .nilFunc)], .sc, none⟩ := rfl
@[simp] theorem Try.T161 : Try.T 161 = some ⟨1, 24, [.nil 1], .slice 5, none⟩ := rfl
@[simp] theorem Try.T162 : Try.T 162 = some ⟨1, 8, [.p (.v .nilFunc)], .sc, none⟩ := rfl
@[simp] theorem Try.T163 : Try.T 163 = some ⟨1, 8, [.p (.v .nilFunc)], .sc, none⟩ := rfl
@[simp] theorem Try.T165 : Try.T 165 = some ⟨1, 8, [.p (.v .nilFunc)], .sc, none⟩ := rfl
@[simp] theorem Try.T166 : Try.T 166 = some ⟨1, 8, [.p (.v .nilFunc)], .sc, none⟩ := rfl
@[simp] theorem Try.T169 : Try.T 169 = some ⟨0, 0, [], .array 0 16, none⟩ := rfl
@[simp] theorem Try.T172 : Try.T 172 = some ⟨1, 8, [.p (.v .nilFunc)], .sc, none⟩ := rfl
@[simp] theorem Try.T175 : Try.T 175 = some ⟨1, 8, [.p (.v .nilFunc)], .sc, none⟩ := rfl
@[simp] theorem Try.T176 : Try.T 176 = some ⟨1, 8, [.p (.v (.pointer none))], .sc, none⟩ := rfl
@[simp] theorem Try.T182 : Try.T 182 = some ⟨6, 56, [.p (.v (.int .i64 0)), .p (.v (.string ByteArray.empty)), .p (.v (.string ByteArray.empty)), .p (.v (.int .i64 0)), .p (.v (.bool false)), .p (.v (.bool false))], .struct [(0, 3), (1, 9), (2, 9), (3, 3), (4, 4), (5, 4)], some [.int .i64, .str, .str, .int .i64, .bool, .bool]⟩ := rfl
def Try.zOf (y : Ty) : Value :=
 let vs : List Value := y.zero.map fun | .p (.v v) => v | _ => .slice none 0 0
 if y.kd.isAgg then .agg vs.toArray else vs.headD (.slice none 0 0)
abbrev Try.tyZ {t : TypeId} {y : Ty} := @TyOK.of Try.prog t y (Try.zOf y)
set_option maxRecDepth 100000 in
set_option maxHeartbeats 40000000 in
theorem Try.tab : TabOK Try.prog Try.T := by
 intro t y h
 unfold Try.T at h
 split at h
 all_goals first | (simp at h; done) | (obtain rfl := Option.some.inj h)
 all_goals first | exact Try.ty25 | exact Try.ty47 | exact Try.ty50 | exact Try.ty60 | exact Try.ty61 | exact Try.ty68 | exact Try.ty69 | exact Try.ty86 | exact Try.ty109 | exact Try.ty110 | exact Try.ty118 | exact Try.ty182 | (refine Try.tyZ (by kernel_rfl) rfl (by first | rfl | decide | (simp [Try.zOf, Kd.isAgg, Value.cells, zval, scal])) rfl (by first | exact rfl | kernel_rfl | exact structOf_spec (by kernel_rfl) | exact scOf_spec (by kernel_rfl)) (by intro cs h; first | rfl | (simp [Try.zOf, Kd.isAgg] at h)) (by intro ks h; simp at h))
theorem Try.mixed : Try.prog.follows .mixedOrders = true := by kernel_rfl
end Go.Proofs.Ythiccfadhllajaa
