/- Texts that the proof needs: Tab. -/
import Derived.Test.YtpilcadofjcdoaaProg
import Derived.Test.YtpilcadofjcdoaaP11WatchSees
import Derived.WalkKit
import Derived.WalkSpells
import Derived.KernelRfl
namespace Go.Proofs.Ytpilcadofjcdoaa
open Go Go.Av
instance Try.glob : Glob := ⟨fun _ => none⟩
theorem Try.ty25 : TyOK Try.prog 25 ⟨2, 16, [.p (.v (.int .i64 0)), .p (.v (.int .i64 0))], .struct [(0, 3), (1, 3)], some [.int .i64, .int .i64]⟩ := by
 refine TyOK.of (z:=.agg #[.int .i64 0,.int .i64 0]) (by kernel_rfl) rfl (by first | rfl | decide|(simp [Value.cells,zval,scal])) rfl ?_ ?_ ?_
 ·exact yA (by kernel_rfl)
 ·intro cs h;first | rfl|(simp at h)
 ·intro ks h; simp only [wH] at h; subst h; refine ⟨rfl, fun xs ys hx hy w => ⟨?_, by kernel_rfl⟩⟩
  obtain ⟨_,_,rfl,⟨x0,rfl⟩,hx⟩:=hx;obtain ⟨_,_,rfl,⟨x1,rfl⟩,hx⟩:=hx;subst hx
  obtain ⟨_,_,rfl,⟨y0,rfl⟩,hy⟩:=hy;obtain ⟨_,_,rfl,⟨y1,rfl⟩,hy⟩:=hy;subst hy
  show (Op.equalIn 10000 25 (.agg #[.int .i64 x0,.int .i64 x1]) (.agg #[.int .i64 y0,.int .i64 y1])).run Try.prog w = _
  go_simp
  simp only [ceq,veq]
  all_goals (repeat' split)
  all_goals simp_all
theorem Try.ty37 : TyOK Try.prog 37 ⟨3, 32, [.p (.v (.int .i64 0)), .p (.v (.int .i64 0)), .p (.v (.string ByteArray.empty))], .struct [(0, 3), (1, 3), (2, 9)], some [.int .i64, .int .i64, .str]⟩ := by
 refine TyOK.of (z:=.agg #[.int .i64 0,.int .i64 0,.string ByteArray.empty]) (by kernel_rfl) rfl (by first | rfl | decide|(simp [Value.cells,zval,scal])) rfl ?_ ?_ ?_
 ·exact yA (by kernel_rfl)
 ·intro cs h;first | rfl|(simp at h)
 ·intro ks h; simp only [wH] at h; subst h; refine ⟨rfl, fun xs ys hx hy w => ⟨?_, by kernel_rfl⟩⟩
  obtain ⟨_,_,rfl,⟨x0,rfl⟩,hx⟩:=hx;obtain ⟨_,_,rfl,⟨x1,rfl⟩,hx⟩:=hx;obtain ⟨_,_,rfl,⟨x2,rfl⟩,hx⟩:=hx;subst hx
  obtain ⟨_,_,rfl,⟨y0,rfl⟩,hy⟩:=hy;obtain ⟨_,_,rfl,⟨y1,rfl⟩,hy⟩:=hy;obtain ⟨_,_,rfl,⟨y2,rfl⟩,hy⟩:=hy;subst hy
  show (Op.equalIn 10000 37 (.agg #[.int .i64 x0,.int .i64 x1,.string x2]) (.agg #[.int .i64 y0,.int .i64 y1,.string y2])).run Try.prog w = _
  go_simp
  simp only [ceq,veq]
  all_goals (repeat' split)
  all_goals simp_all
theorem Try.ty48 : TyOK Try.prog 48 ⟨5, 56, [.p (.v (.string ByteArray.empty)), .p (.v (.string ByteArray.empty)), .p (.v (.int .i64 0)), .p (.v (.int .i64 0)), .p (.v (.int .i64 0))], .struct [(0, 9), (1, 9), (2, 3), (3, 3), (4, 3)], some [.str, .str, .int .i64, .int .i64, .int .i64]⟩ := by
 refine TyOK.of (z:=.agg #[.string ByteArray.empty,.string ByteArray.empty,.int .i64 0,.int .i64 0,.int .i64 0]) (by kernel_rfl) rfl (by first | rfl | decide|(simp [Value.cells,zval,scal])) rfl ?_ ?_ ?_
 ·exact yA (by kernel_rfl)
 ·intro cs h;first | rfl|(simp at h)
 ·intro ks h; simp only [wH] at h; subst h; refine ⟨rfl, fun xs ys hx hy w => ⟨?_, by kernel_rfl⟩⟩
  obtain ⟨_,_,rfl,⟨x0,rfl⟩,hx⟩:=hx;obtain ⟨_,_,rfl,⟨x1,rfl⟩,hx⟩:=hx;obtain ⟨_,_,rfl,⟨x2,rfl⟩,hx⟩:=hx;obtain ⟨_,_,rfl,⟨x3,rfl⟩,hx⟩:=hx;obtain ⟨_,_,rfl,⟨x4,rfl⟩,hx⟩:=hx;subst hx
  obtain ⟨_,_,rfl,⟨y0,rfl⟩,hy⟩:=hy;obtain ⟨_,_,rfl,⟨y1,rfl⟩,hy⟩:=hy;obtain ⟨_,_,rfl,⟨y2,rfl⟩,hy⟩:=hy;obtain ⟨_,_,rfl,⟨y3,rfl⟩,hy⟩:=hy;obtain ⟨_,_,rfl,⟨y4,rfl⟩,hy⟩:=hy;subst hy
  show (Op.equalIn 10000 48 (.agg #[.string x0,.string x1,.int .i64 x2,.int .i64 x3,.int .i64 x4]) (.agg #[.string y0,.string y1,.int .i64 y2,.int .i64 y3,.int .i64 y4])).run Try.prog w = _
  go_simp
  simp only [ceq,veq]
  all_goals (repeat' split)
  all_goals simp_all
theorem Try.ty65 : TyOK Try.prog 65 ⟨6, 56, [.p (.v (.int .i64 0)), .p (.v (.int .i64 0)), .p (.v (.string ByteArray.empty)), .p (.v (.int .i64 0)), .p (.v (.int .i64 0)), .p (.v (.int .i64 0))], .struct [(0, 3), (1, 3), (2, 9), (3, 3), (4, 25)], some [.int .i64, .int .i64, .str, .int .i64, .int .i64, .int .i64]⟩ := by
 refine TyOK.of (z:=.agg #[.int .i64 0,.int .i64 0,.string ByteArray.empty,.int .i64 0,.int .i64 0,.int .i64 0]) (by kernel_rfl) rfl (by first | rfl | decide|(simp [Value.cells,zval,scal])) rfl ?_ ?_ ?_
 ·exact yA (by kernel_rfl)
 ·intro cs h;first | rfl|(simp at h)
 ·intro ks h; simp only [wH] at h; subst h; refine ⟨rfl, fun xs ys hx hy w => ⟨?_, by kernel_rfl⟩⟩
  obtain ⟨_,_,rfl,⟨x0,rfl⟩,hx⟩:=hx;obtain ⟨_,_,rfl,⟨x1,rfl⟩,hx⟩:=hx;obtain ⟨_,_,rfl,⟨x2,rfl⟩,hx⟩:=hx;obtain ⟨_,_,rfl,⟨x3,rfl⟩,hx⟩:=hx;obtain ⟨_,_,rfl,⟨x4,rfl⟩,hx⟩:=hx;obtain ⟨_,_,rfl,⟨x5,rfl⟩,hx⟩:=hx;subst hx
  obtain ⟨_,_,rfl,⟨y0,rfl⟩,hy⟩:=hy;obtain ⟨_,_,rfl,⟨y1,rfl⟩,hy⟩:=hy;obtain ⟨_,_,rfl,⟨y2,rfl⟩,hy⟩:=hy;obtain ⟨_,_,rfl,⟨y3,rfl⟩,hy⟩:=hy;obtain ⟨_,_,rfl,⟨y4,rfl⟩,hy⟩:=hy;obtain ⟨_,_,rfl,⟨y5,rfl⟩,hy⟩:=hy;subst hy
  show (Op.equalIn 10000 65 (.agg #[.int .i64 x0,.int .i64 x1,.string x2,.int .i64 x3,.int .i64 x4,.int .i64 x5]) (.agg #[.int .i64 y0,.int .i64 y1,.string y2,.int .i64 y3,.int .i64 y4,.int .i64 y5])).run Try.prog w = _
  go_simp
  simp only [ceq,veq]
  all_goals (repeat' split)
  all_goals simp_all
theorem Try.ty86 : TyOK Try.prog 86 ⟨4, 32, [.p (.v (.int .i64 0)), .p (.v (.int .i64 0)), .p (.v (.int .i64 0)), .p (.v (.int .i64 0))], .struct [(0, 3), (1, 3), (2, 3), (3, 3)], some [.int .i64, .int .i64, .int .i64, .int .i64]⟩ := by
 refine TyOK.of (z:=.agg #[.int .i64 0,.int .i64 0,.int .i64 0,.int .i64 0]) (by kernel_rfl) rfl (by first | rfl | decide|(simp [Value.cells,zval,scal])) rfl ?_ ?_ ?_
 ·exact yA (by kernel_rfl)
 ·intro cs h;first | rfl|(simp at h)
 ·intro ks h; simp only [wH] at h; subst h; refine ⟨rfl, fun xs ys hx hy w => ⟨?_, by kernel_rfl⟩⟩
  obtain ⟨_,_,rfl,⟨x0,rfl⟩,hx⟩:=hx;obtain ⟨_,_,rfl,⟨x1,rfl⟩,hx⟩:=hx;obtain ⟨_,_,rfl,⟨x2,rfl⟩,hx⟩:=hx;obtain ⟨_,_,rfl,⟨x3,rfl⟩,hx⟩:=hx;subst hx
  obtain ⟨_,_,rfl,⟨y0,rfl⟩,hy⟩:=hy;obtain ⟨_,_,rfl,⟨y1,rfl⟩,hy⟩:=hy;obtain ⟨_,_,rfl,⟨y2,rfl⟩,hy⟩:=hy;obtain ⟨_,_,rfl,⟨y3,rfl⟩,hy⟩:=hy;subst hy
  show (Op.equalIn 10000 86 (.agg #[.int .i64 x0,.int .i64 x1,.int .i64 x2,.int .i64 x3]) (.agg #[.int .i64 y0,.int .i64 y1,.int .i64 y2,.int .i64 y3])).run Try.prog w = _
  go_simp
  simp only [ceq,veq]
  all_goals (repeat' split)
  all_goals simp_all
theorem Try.ty97 : TyOK Try.prog 97 ⟨6, 56, [.p (.v (.int .i64 0)), .p (.v (.string ByteArray.empty)), .p (.v (.string ByteArray.empty)), .p (.v (.int .i64 0)), .p (.v (.bool false)), .p (.v (.bool false))], .struct [(0, 3), (1, 9), (2, 9), (3, 3), (4, 4), (5, 4)], some [.int .i64, .str, .str, .int .i64, .bool, .bool]⟩ := by
 refine TyOK.of (z:=.agg #[.int .i64 0,.string ByteArray.empty,.string ByteArray.empty,.int .i64 0,.bool false,.bool false]) (by kernel_rfl) rfl (by first | rfl | decide|(simp [Value.cells,zval,scal])) rfl ?_ ?_ ?_
 ·exact yA (by kernel_rfl)
 ·intro cs h;first | rfl|(simp at h)
 ·intro ks h; simp only [wH] at h; subst h; refine ⟨rfl, fun xs ys hx hy w => ⟨?_, by kernel_rfl⟩⟩
  obtain ⟨_,_,rfl,⟨x0,rfl⟩,hx⟩:=hx;obtain ⟨_,_,rfl,⟨x1,rfl⟩,hx⟩:=hx;obtain ⟨_,_,rfl,⟨x2,rfl⟩,hx⟩:=hx;obtain ⟨_,_,rfl,⟨x3,rfl⟩,hx⟩:=hx;obtain ⟨_,_,rfl,⟨x4,rfl⟩,hx⟩:=hx;obtain ⟨_,_,rfl,⟨x5,rfl⟩,hx⟩:=hx;subst hx
  obtain ⟨_,_,rfl,⟨y0,rfl⟩,hy⟩:=hy;obtain ⟨_,_,rfl,⟨y1,rfl⟩,hy⟩:=hy;obtain ⟨_,_,rfl,⟨y2,rfl⟩,hy⟩:=hy;obtain ⟨_,_,rfl,⟨y3,rfl⟩,hy⟩:=hy;obtain ⟨_,_,rfl,⟨y4,rfl⟩,hy⟩:=hy;obtain ⟨_,_,rfl,⟨y5,rfl⟩,hy⟩:=hy;subst hy
  show (Op.equalIn 10000 97 (.agg #[.int .i64 x0,.string x1,.string x2,.int .i64 x3,.bool x4,.bool x5]) (.agg #[.int .i64 y0,.string y1,.string y2,.int .i64 y3,.bool y4,.bool y5])).run Try.prog w = _
  go_simp
  simp only [ceq,veq]
  all_goals (repeat' split)
  all_goals simp_all
def Try.T : TypeId -> Option Ty
 | 1=>some ⟨1,8,[.p (.v .nilFunc)],.sc,none⟩
 | 2=>some ⟨1,8,[.p (.v (.int .i64 0))],.int .i64,none⟩
 | 3=>some ⟨1,8,[.p (.v (.int .i64 0))],.int .i64,none⟩
 | 4=>some ⟨1,1,[.p (.v (.bool false))],.bool,none⟩
 | 5=>some ⟨1,1,[.p (.v (.int .u8 0))],.int .u8,none⟩
 | 9=>some ⟨1,16,[.p (.v (.string ByteArray.empty))],.str,none⟩
 | 12=>some ⟨1,8,[.p (.v (.int .u64 0))],.int .u64,none⟩
 | 15=>some ⟨1,8,[.p (.v (.pointer none))],.sc,none⟩
 | 16=>some ⟨1,8,[.p (.v (.pointer none))],.sc,none⟩
 | 17=>some ⟨1,8,[.p (.v (.pointer none))],.sc,none⟩
 | 21=>some ⟨1,4,[.p (.v (.int .i32 0))],.int .i32,none⟩
 | 22=>some ⟨1,24,[.nil 5],.slice 48,none⟩
 | 23=>some ⟨1,24,[.nil 1],.slice 3,none⟩
 | 25=>some ⟨2,16,[.p (.v (.int .i64 0)),.p (.v (.int .i64 0))],.struct [(0,3),(1,3)],some [.int .i64,.int .i64]⟩
 | 26=>some ⟨1,24,[.nil 4],.slice 86,none⟩
 | 28=>some ⟨4,48,[.p (.v (.int .i64 0)),.p (.v (.int .i64 0)),.p (.v (.int .i64 0)),.nil 4],.struct [(0,25),(2,3),(3,26)],none⟩
 | 30=>some ⟨9,120,[.nil 5,.nil 1,.p (.v (.int .i64 0)),.p (.v (.int .i64 0)),.p (.v (.int .i64 0)),.p (.v (.int .i64 0)),.nil 4,.p (.v (.int .i64 0)),.p (.v (.int .i64 0))],.struct [(0,22),(1,23),(2,3),(3,28),(7,25)],none⟩
 | 31=>some ⟨1,24,[.nil 6],.slice 97,none⟩
 | 33=>some ⟨3,56,[.p (.v (.int .i64 0)),.nil 4,.nil 1],.struct [(0,3),(1,26),(2,23)],none⟩
 | 35=>some ⟨9,120,[.p (.v (.int .i64 0)),.p (.v (.int .i64 0)),.p (.v (.int .i64 0)),.nil 6,.p (.v (.int .i64 0)),.nil 4,.nil 1,.p (.v (.int .i64 0)),.p (.v (.int .i64 0))],.struct [(0,3),(1,3),(2,3),(3,31),(4,33),(7,25)],none⟩
 | 37=>some ⟨3,32,[.p (.v (.int .i64 0)),.p (.v (.int .i64 0)),.p (.v (.string ByteArray.empty))],.struct [(0,3),(1,3),(2,9)],some [.int .i64,.int .i64,.str]⟩
 | 38=>some ⟨1,8,[.p (.v .nilFunc)],.sc,none⟩
 | 39=>some ⟨1,8,[.p (.v .nilFunc)],.sc,none⟩
 | 40=>some ⟨1,8,[.p (.v .nilFunc)],.sc,none⟩
 | 41=>some ⟨1,8,[.p (.v (.int .i64 0))],.int .i64,none⟩
 | 42=>some ⟨1,24,[.nil 11],.slice 68,none⟩
 | 44=>some ⟨8,88,[.p (.v (.int .i64 0)),.p (.v (.int .i64 0)),.p (.v (.int .i64 0)),.p (.v (.int .i64 0)),.p (.v (.int .i64 0)),.p (.v (.int .i64 0)),.p (.v (.string ByteArray.empty)),.nil 11],.struct [(0,25),(2,3),(3,3),(4,41),(5,3),(6,9),(7,42)],none⟩
 | 45=>some ⟨1,8,[.p (.v .nilFunc)],.sc,none⟩
 | 46=>some ⟨1,8,[.p (.v .nilFunc)],.sc,none⟩
 | 48=>some ⟨5,56,[.p (.v (.string ByteArray.empty)),.p (.v (.string ByteArray.empty)),.p (.v (.int .i64 0)),.p (.v (.int .i64 0)),.p (.v (.int .i64 0))],.struct [(0,9),(1,9),(2,3),(3,3),(4,3)],some [.str,.str,.int .i64,.int .i64,.int .i64]⟩
 | 50=>some ⟨1,8,[.p (.v .nilFunc)],.sc,none⟩
 | 51=>some ⟨1,24,[.nil 1],.slice 9,none⟩
 | 53=>some ⟨1,8,[.p (.v .nilFunc)],.sc,none⟩
 | 54=>some ⟨1,8,[.p (.v .nilFunc)],.sc,none⟩
 | 55=>some ⟨1,8,[.p (.v .nilFunc)],.sc,none⟩
 | 56=>some ⟨1,8,[.p (.v .nilFunc)],.sc,none⟩
 | 57=>some ⟨1,8,[.p (.v .nilFunc)],.sc,none⟩
 | 58=>some ⟨1,24,[.nil 3],.slice 37,none⟩
 | 60=>some ⟨1,8,[.p (.v .nilFunc)],.sc,none⟩
 | 61=>some ⟨1,24,[.nil 6],.slice 65,none⟩
 | 63=>some ⟨1,8,[.p (.v .nilFunc)],.sc,none⟩
 | 65=>some ⟨6,56,[.p (.v (.int .i64 0)),.p (.v (.int .i64 0)),.p (.v (.string ByteArray.empty)),.p (.v (.int .i64 0)),.p (.v (.int .i64 0)),.p (.v (.int .i64 0))],.struct [(0,3),(1,3),(2,9),(3,3),(4,25)],some [.int .i64,.int .i64,.str,.int .i64,.int .i64,.int .i64]⟩
 | 66=>some ⟨1,8,[.p (.v .nilFunc)],.sc,none⟩
 | 68=>some ⟨11,120,[.p (.v (.int .i64 0)),.p (.v (.string ByteArray.empty)),.p (.v (.string ByteArray.empty)),.p (.v (.int .i64 0)),.p (.v (.int .i64 0)),.p (.v (.int .i64 0)),.p (.v (.int .i64 0)),.p (.v (.int .i64 0)),.p (.v (.int .i64 0)),.p (.v (.int .i64 0)),.nil 4],.struct [(0,3),(1,48),(6,3),(7,28)],none⟩
 | 69=>some ⟨1,8,[.p (.v .nilFunc)],.sc,none⟩
 | 70=>some ⟨1,8,[.p (.v .nilFunc)],.sc,none⟩
 | 71=>some ⟨1,8,[.p (.v .nilFunc)],.sc,none⟩
 | 72=>some ⟨1,8,[.p (.v .nilFunc)],.sc,none⟩
 | 73=>some ⟨1,8,[.p (.v .nilFunc)],.sc,none⟩
 | 74=>some ⟨1,8,[.p (.v .nilFunc)],.sc,none⟩
 | 75=>some ⟨1,8,[.p (.v .nilFunc)],.sc,none⟩
 | 77=>some ⟨1,8,[.p (.v .nilFunc)],.sc,none⟩
 | 79=>some ⟨1,8,[.p (.v .nilFunc)],.sc,none⟩
 | 80=>some ⟨1,8,[.p (.v .nilFunc)],.sc,none⟩
 | 81=>some ⟨1,8,[.p (.v .nilFunc)],.sc,none⟩
 | 82=>some ⟨1,8,[.p (.v .nilFunc)],.sc,none⟩
 | 84=>some ⟨1,8,[.p (.v .nilFunc)],.sc,none⟩
 | 86=>some ⟨4,32,[.p (.v (.int .i64 0)),.p (.v (.int .i64 0)),.p (.v (.int .i64 0)),.p (.v (.int .i64 0))],.struct [(0,3),(1,3),(2,3),(3,3)],some [.int .i64,.int .i64,.int .i64,.int .i64]⟩
 | 87=>some ⟨1,8,[.p (.v .nilFunc)],.sc,none⟩
 | 88=>some ⟨1,8,[.p (.v .nilFunc)],.sc,none⟩
 | 89=>some ⟨1,8,[.p (.v .nilFunc)],.sc,none⟩
 | 90=>some ⟨1,8,[.p (.v .nilFunc)],.sc,none⟩
 | 91=>some ⟨1,8,[.p (.v .nilFunc)],.sc,none⟩
 | 92=>some ⟨1,8,[.p (.v .nilFunc)],.sc,none⟩
 | 94=>some ⟨1,8,[.p (.v .nilFunc)],.sc,none⟩
 | 95=>some ⟨1,8,[.p (.v .nilFunc)],.sc,none⟩
 | 97=>some ⟨6,56,[.p (.v (.int .i64 0)),.p (.v (.string ByteArray.empty)),.p (.v (.string ByteArray.empty)),.p (.v (.int .i64 0)),.p (.v (.bool false)),.p (.v (.bool false))],.struct [(0,3),(1,9),(2,9),(3,3),(4,4),(5,4)],some [.int .i64,.str,.str,.int .i64,.bool,.bool]⟩
 | 99=>some ⟨1,8,[.p (.v .nilFunc)],.sc,none⟩
 | 100=>some ⟨1,8,[.p (.v .nilFunc)],.sc,none⟩
 | 101=>some ⟨1,8,[.p (.v .nilFunc)],.sc,none⟩
 | 102=>some ⟨1,8,[.p (.v .nilFunc)],.sc,none⟩
 | 104=>some ⟨1,8,[.p (.v .nilFunc)],.sc,none⟩
 | 105=>some ⟨1,8,[.p (.v .nilFunc)],.sc,none⟩
 | 106=>some ⟨1,8,[.p (.v .nilFunc)],.sc,none⟩
 | 107=>some ⟨1,8,[.p (.v .nilFunc)],.sc,none⟩
 | 108=>some ⟨1,8,[.p (.v .nilFunc)],.sc,none⟩
 | 109=>some ⟨1,8,[.p (.v .nilFunc)],.sc,none⟩
 | 110=>some ⟨1,8,[.p (.v .nilFunc)],.sc,none⟩
 | 111=>some ⟨1,8,[.p (.v .nilFunc)],.sc,none⟩
 | 112=>some ⟨1,8,[.p (.v .nilFunc)],.sc,none⟩
 | 113=>some ⟨1,8,[.p (.v .nilFunc)],.sc,none⟩
 | 114=>some ⟨1,8,[.p (.v .nilFunc)],.sc,none⟩
 | 116=>some ⟨1,8,[.p (.v .nilFunc)],.sc,none⟩
 | 117=>some ⟨1,8,[.p (.v .nilFunc)],.sc,none⟩
 | 119=>some ⟨1,8,[.p (.v .nilFunc)],.sc,none⟩
 | 120=>some ⟨1,8,[.p (.v .nilFunc)],.sc,none⟩
 | 121=>some ⟨1,24,[.nil 1],.slice 5,none⟩
 | 122=>some ⟨1,8,[.p (.v .nilFunc)],.sc,none⟩
 | 123=>some ⟨1,4,[.p (.v (.int .u32 0))],.int .u32,none⟩
 | 125=>some ⟨1,8,[.p (.v .nilFunc)],.sc,none⟩
 | 126=>some ⟨1,8,[.p (.v (.int .u64 0))],.int .u64,none⟩
 | 127=>some ⟨1,8,[.p (.v .nilFunc)],.sc,none⟩
 | 130=>some ⟨0,0,[],.array 0 16,none⟩
 | 133=>some ⟨1,8,[.p (.v .nilFunc)],.sc,none⟩
 | 136=>some ⟨1,8,[.p (.v .nilFunc)],.sc,none⟩
 | 137=>some ⟨1,8,[.p (.v (.pointer none))],.sc,none⟩
 | _=>none
@[simp] theorem Try.T1 : Try.T 1 = some ⟨1, 8, [.p (.v .nilFunc)], .sc, none⟩ := rfl
@[simp] theorem Try.T2 : Try.T 2 = some ⟨1, 8, [.p (.v (.int .i64 0))], .int .i64, none⟩ := rfl
@[simp] theorem Try.T3 : Try.T 3 = some ⟨1, 8, [.p (.v (.int .i64 0))], .int .i64, none⟩ := rfl
@[simp] theorem Try.T4 : Try.T 4 = some ⟨1, 1, [.p (.v (.bool false))], .bool, none⟩ := rfl
@[simp] theorem Try.T5 : Try.T 5 = some ⟨1, 1, [.p (.v (.int .u8 0))], .int .u8, none⟩ := rfl
@[simp] theorem Try.T9 : Try.T 9 = some ⟨1, 16, [.p (.v (.string ByteArray.empty))], .str, none⟩ := rfl
@[simp] theorem Try.T12 : Try.T 12 = some ⟨1, 8, [.p (.v (.int .u64 0))], .int .u64, none⟩ := rfl
@[simp] theorem Try.T15 : Try.T 15 = some ⟨1, 8, [.p (.v (.pointer none))], .sc, none⟩ := rfl
@[simp] theorem Try.T16 : Try.T 16 = some ⟨1, 8, [.p (.v (.pointer none))], .sc, none⟩ := rfl
@[simp] theorem Try.T17 : Try.T 17 = some ⟨1, 8, [.p (.v (.pointer none))], .sc, none⟩ := rfl
@[simp] theorem Try.T21 : Try.T 21 = some ⟨1, 4, [.p (.v (.int .i32 0))], .int .i32, none⟩ := rfl
@[simp] theorem Try.T22 : Try.T 22 = some ⟨1, 24, [.nil 5], .slice 48, none⟩ := rfl
@[simp] theorem Try.T23 : Try.T 23 = some ⟨1, 24, [.nil 1], .slice 3, none⟩ := rfl
@[simp] theorem Try.T25 : Try.T 25 = some ⟨2, 16, [.p (.v (.int .i64 0)), .p (.v (.int .i64 0))], .struct [(0, 3), (1, 3)], some [.int .i64, .int .i64]⟩ := rfl
@[simp] theorem Try.T26 : Try.T 26 = some ⟨1, 24, [.nil 4], .slice 86, none⟩ := rfl
@[simp] theorem Try.T28 : Try.T 28 = some ⟨4, 48, [.p (.v (.int .i64 0)), .p (.v (.int .i64 0)), .p (.v (.int .i64 0)), .nil 4], .struct [(0, 25), (2, 3), (3, 26)], none⟩ := rfl
@[simp] theorem Try.T30 : Try.T 30 = some ⟨9, 120, [.nil 5, .nil 1, .p (.v (.int .i64 0)), .p (.v (.int .i64 0)), .p (.v (.int .i64 0)), .p (.v (.int .i64 0)), .nil 4, .p (.v (.int .i64 0)), .p (.v (.int .i64 0))], .struct [(0, 22), (1, 23), (2, 3), (3, 28), (7, 25)], none⟩ := rfl
@[simp] theorem Try.T31 : Try.T 31 = some ⟨1, 24, [.nil 6], .slice 97, none⟩ := rfl
@[simp] theorem Try.T33 : Try.T 33 = some ⟨3, 56, [.p (.v (.int .i64 0)), .nil 4, .nil 1], .struct [(0, 3), (1, 26), (2, 23)], none⟩ := rfl
@[simp] theorem Try.T35 : Try.T 35 = some ⟨9, 120, [.p (.v (.int .i64 0)), .p (.v (.int .i64 0)), .p (.v (.int .i64 0)), .nil 6, .p (.v (.int .i64 0)), .nil 4, .nil 1, .p (.v (.int .i64 0)), .p (.v (.int .i64 0))], .struct [(0, 3), (1, 3), (2, 3), (3, 31), (4, 33), (7, 25)], none⟩ := rfl
@[simp] theorem Try.T37 : Try.T 37 = some ⟨3, 32, [.p (.v (.int .i64 0)), .p (.v (.int .i64 0)), .p (.v (.string ByteArray.empty))], .struct [(0, 3), (1, 3), (2, 9)], some [.int .i64, .int .i64, .str]⟩ := rfl
@[simp] theorem Try.T38 : Try.T 38 = some ⟨1, 8, [.p (.v .nilFunc)], .sc, none⟩ := rfl
@[simp] theorem Try.T39 : Try.T 39 = some ⟨1, 8, [.p (.v .nilFunc)], .sc, none⟩ := rfl
@[simp] theorem Try.T40 : Try.T 40 = some ⟨1, 8, [.p (.v .nilFunc)], .sc, none⟩ := rfl
@[simp] theorem Try.T41 : Try.T 41 = some ⟨1, 8, [.p (.v (.int .i64 0))], .int .i64, none⟩ := rfl
@[simp] theorem Try.T42 : Try.T 42 = some ⟨1, 24, [.nil 11], .slice 68, none⟩ := rfl
@[simp] theorem Try.T44 : Try.T 44 = some ⟨8, 88, [.p (.v (.int .i64 0)), .p (.v (.int .i64 0)), .p (.v (.int .i64 0)), .p (.v (.int .i64 0)), .p (.v (.int .i64 0)), .p (.v (.int .i64 0)), .p (.v (.string ByteArray.empty)), .nil 11], .struct [(0, 25), (2, 3), (3, 3), (4, 41), (5, 3), (6, 9), (7, 42)], none⟩ := rfl
@[simp] theorem Try.T45 : Try.T 45 = some ⟨1, 8, [.p (.v .nilFunc)], .sc, none⟩ := rfl
@[simp] theorem Try.T46 : Try.T 46 = some ⟨1, 8, [.p (.v .nilFunc)], .sc, none⟩ := rfl
@[simp] theorem Try.T48 : Try.T 48 = some ⟨5, 56, [.p (.v (.string ByteArray.empty)), .p (.v (.string ByteArray.empty)), .p (.v (.int .i64 0)), .p (.v (.int .i64 0)), .p (.v (.int .i64 0))], .struct [(0, 9), (1, 9), (2, 3), (3, 3), (4, 3)], some [.str, .str, .int .i64, .int .i64, .int .i64]⟩ := rfl
@[simp] theorem Try.T50 : Try.T 50 = some ⟨1, 8, [.p (.v .nilFunc)], .sc, none⟩ := rfl
@[simp] theorem Try.T51 : Try.T 51 = some ⟨1, 24, [.nil 1], .slice 9, none⟩ := rfl
@[simp] theorem Try.T53 : Try.T 53 = some ⟨1, 8, [.p (.v .nilFunc)], .sc, none⟩ := rfl
@[simp] theorem Try.T54 : Try.T 54 = some ⟨1, 8, [.p (.v .nilFunc)], .sc, none⟩ := rfl
@[simp] theorem Try.T55 : Try.T 55 = some ⟨1, 8, [.p (.v .nilFunc)], .sc, none⟩ := rfl
@[simp] theorem Try.T56 : Try.T 56 = some ⟨1, 8, [.p (.v .nilFunc)], .sc, none⟩ := rfl
@[simp] theorem Try.T57 : Try.T 57 = some ⟨1, 8, [.p (.v .nilFunc)], .sc, none⟩ := rfl
@[simp] theorem Try.T58 : Try.T 58 = some ⟨1, 24, [.nil 3], .slice 37, none⟩ := rfl
@[simp] theorem Try.T60 : Try.T 60 = some ⟨1, 8, [.p (.v .nilFunc)], .sc, none⟩ := rfl
@[simp] theorem Try.T61 : Try.T 61 = some ⟨1, 24, [.nil 6], .slice 65, none⟩ := rfl
@[simp] theorem Try.T63 : Try.T 63 = some ⟨1, 8, [.p (.v .nilFunc)], .sc, none⟩ := rfl
@[simp] theorem Try.T65 : Try.T 65 = some ⟨6, 56, [.p (.v (.int .i64 0)), .p (.v (.int .i64 0)), .p (.v (.string ByteArray.empty)), .p (.v (.int .i64 0)), .p (.v (.int .i64 0)), .p (.v (.int .i64 0))], .struct [(0, 3), (1, 3), (2, 9), (3, 3), (4, 25)], some [.int .i64, .int .i64, .str, .int .i64, .int .i64, .int .i64]⟩ := rfl
@[simp] theorem Try.T66 : Try.T 66 = some ⟨1, 8, [.p (.v .nilFunc)], .sc, none⟩ := rfl
@[simp] theorem Try.T68 : Try.T 68 = some ⟨11, 120, [.p (.v (.int .i64 0)), .p (.v (.string ByteArray.empty)), .p (.v (.string ByteArray.empty)), .p (.v (.int .i64 0)), .p (.v (.int .i64 0)), .p (.v (.int .i64 0)), .p (.v (.int .i64 0)), .p (.v (.int .i64 0)), .p (.v (.int .i64 0)), .p (.v (.int .i64 0)), .nil 4], .struct [(0, 3), (1, 48), (6, 3), (7, 28)], none⟩ := rfl
@[simp] theorem Try.T69 : Try.T 69 = some ⟨1, 8, [.p (.v .nilFunc)], .sc, none⟩ := rfl
@[simp] theorem Try.T70 : Try.T 70 = some ⟨1, 8, [.p (.v .nilFunc)], .sc, none⟩ := rfl
@[simp] theorem Try.T71 : Try.T 71 = some ⟨1, 8, [.p (.v .nilFunc)], .sc, none⟩ := rfl
@[simp] theorem Try.T72 : Try.T 72 = some ⟨1, 8, [.p (.v .nilFunc)], .sc, none⟩ := rfl
@[simp] theorem Try.T73 : Try.T 73 = some ⟨1, 8, [.p (.v .nilFunc)], .sc, none⟩ := rfl
@[simp] theorem Try.T74 : Try.T 74 = some ⟨1, 8, [.p (.v .nilFunc)], .sc, none⟩ := rfl
@[simp] theorem Try.T75 : Try.T 75 = some ⟨1, 8, [.p (.v .nilFunc)], .sc, none⟩ := rfl
@[simp] theorem Try.T77 : Try.T 77 = some ⟨1, 8, [.p (.v .nilFunc)], .sc, none⟩ := rfl
@[simp] theorem Try.T79 : Try.T 79 = some ⟨1, 8, [.p (.v .nilFunc)], .sc, none⟩ := rfl
@[simp] theorem Try.T80 : Try.T 80 = some ⟨1, 8, [.p (.v .nilFunc)], .sc, none⟩ := rfl
@[simp] theorem Try.T81 : Try.T 81 = some ⟨1, 8, [.p (.v .nilFunc)], .sc, none⟩ := rfl
@[simp] theorem Try.T82 : Try.T 82 = some ⟨1, 8, [.p (.v .nilFunc)], .sc, none⟩ := rfl
@[simp] theorem Try.T84 : Try.T 84 = some ⟨1, 8, [.p (.v .nilFunc)], .sc, none⟩ := rfl
@[simp] theorem Try.T86 : Try.T 86 = some ⟨4, 32, [.p (.v (.int .i64 0)), .p (.v (.int .i64 0)), .p (.v (.int .i64 0)), .p (.v (.int .i64 0))], .struct [(0, 3), (1, 3), (2, 3), (3, 3)], some [.int .i64, .int .i64, .int .i64, .int .i64]⟩ := rfl
@[simp] theorem Try.T87 : Try.T 87 = some ⟨1, 8, [.p (.v .nilFunc)], .sc, none⟩ := rfl
@[simp] theorem Try.T88 : Try.T 88 = some ⟨1, 8, [.p (.v .nilFunc)], .sc, none⟩ := rfl
@[simp] theorem Try.T89 : Try.T 89 = some ⟨1, 8, [.p (.v .nilFunc)], .sc, none⟩ := rfl
@[simp] theorem Try.T90 : Try.T 90 = some ⟨1, 8, [.p (.v .nilFunc)], .sc, none⟩ := rfl
@[simp] theorem Try.T91 : Try.T 91 = some ⟨1, 8, [.p (.v .nilFunc)], .sc, none⟩ := rfl
@[simp] theorem Try.T92 : Try.T 92 = some ⟨1, 8, [.p (.v .nilFunc)], .sc, none⟩ := rfl
@[simp] theorem Try.T94 : Try.T 94 = some ⟨1, 8, [.p (.v .nilFunc)], .sc, none⟩ := rfl
@[simp] theorem Try.T95 : Try.T 95 = some ⟨1, 8, [.p (.v .nilFunc)], .sc, none⟩ := rfl
@[simp] theorem Try.T97 : Try.T 97 = some ⟨6, 56, [.p (.v (.int .i64 0)), .p (.v (.string ByteArray.empty)), .p (.v (.string ByteArray.empty)), .p (.v (.int .i64 0)), .p (.v (.bool false)), .p (.v (.bool false))], .struct [(0, 3), (1, 9), (2, 9), (3, 3), (4, 4), (5, 4)], some [.int .i64, .str, .str, .int .i64, .bool, .bool]⟩ := rfl
@[simp] theorem Try.T99 : Try.T 99 = some ⟨1, 8, [.p (.v .nilFunc)], .sc, none⟩ := rfl
@[simp] theorem Try.T100 : Try.T 100 = some ⟨1, 8, [.p (.v .nilFunc)], .sc, none⟩ := rfl
@[simp] theorem Try.T101 : Try.T 101 = some ⟨1, 8, [.p (.v .nilFunc)], .sc, none⟩ := rfl
@[simp] theorem Try.T102 : Try.T 102 = some ⟨1, 8, [.p (.v .nilFunc)], .sc, none⟩ := rfl
@[simp] theorem Try.T104 : Try.T 104 = some ⟨1, 8, [.p (.v .nilFunc)], .sc, none⟩ := rfl
@[simp] theorem Try.T105 : Try.T 105 = some ⟨1, 8, [.p (.v .nilFunc)], .sc, none⟩ := rfl
@[simp] theorem Try.T106 : Try.T 106 = some ⟨1, 8, [.p (.v .nilFunc)], .sc, none⟩ := rfl
@[simp] theorem Try.T107 : Try.T 107 = some ⟨1, 8, [.p (.v .nilFunc)], .sc, none⟩ := rfl
@[simp] theorem Try.T108 : Try.T 108 = some ⟨1, 8, [.p (.v .nilFunc)], .sc, none⟩ := rfl
@[simp] theorem Try.T109 : Try.T 109 = some ⟨1, 8, [.p (.v .nilFunc)], .sc, none⟩ := rfl
@[simp] theorem Try.T110 : Try.T 110 = some ⟨1, 8, [.p (.v .nilFunc)], .sc, none⟩ := rfl
@[simp] theorem Try.T111 : Try.T 111 = some ⟨1, 8, [.p (.v .nilFunc)], .sc, none⟩ := rfl
@[simp] theorem Try.T112 : Try.T 112 = some ⟨1, 8, [.p (.v .nilFunc)], .sc, none⟩ := rfl
@[simp] theorem Try.T113 : Try.T 113 = some ⟨1, 8, [.p (.v .nilFunc)], .sc, none⟩ := rfl
@[simp] theorem Try.T114 : Try.T 114 = some ⟨1, 8, [.p (.v .nilFunc)], .sc, none⟩ := rfl
@[simp] theorem Try.T116 : Try.T 116 = some ⟨1, 8, [.p (.v .nilFunc)], .sc, none⟩ := rfl
@[simp] theorem Try.T117 : Try.T 117 = some ⟨1, 8, [.p (.v .nilFunc)], .sc, none⟩ := rfl
@[simp] theorem Try.T119 : Try.T 119 = some ⟨1, 8, [.p (.v .nilFunc)], .sc, none⟩ := rfl
@[simp] theorem Try.T120 : Try.T 120 = some ⟨1, 8, [.p (.v .nilFunc)], .sc, none⟩ := rfl
@[simp] theorem Try.T121 : Try.T 121 = some ⟨1, 24, [.nil 1], .slice 5, none⟩ := rfl
@[simp] theorem Try.T122 : Try.T 122 = some ⟨1, 8, [.p (.v .nilFunc)], .sc, none⟩ := rfl
@[simp] theorem Try.T123 : Try.T 123 = some ⟨1, 4, [.p (.v (.int .u32 0))], .int .u32, none⟩ := rfl
@[simp] theorem Try.T125 : Try.T 125 = some ⟨1, 8, [.p (.v .nilFunc)], .sc, none⟩ := rfl
@[simp] theorem Try.T126 : Try.T 126 = some ⟨1, 8, [.p (.v (.int .u64 0))], .int .u64, none⟩ := rfl
@[simp] theorem Try.T127 : Try.T 127 = some ⟨1, 8, [.p (.v .nilFunc)], .sc, none⟩ := rfl
@[simp] theorem Try.T130 : Try.T 130 = some ⟨0, 0, [], .array 0 16, none⟩ := rfl
@[simp] theorem Try.T133 : Try.T 133 = some ⟨1, 8, [.p (.v .nilFunc)], .sc, none⟩ := rfl
@[simp] theorem Try.T136 : Try.T 136 = some ⟨1, 8, [.p (.v .nilFunc)], .sc, none⟩ := rfl
@[simp] theorem Try.T137 : Try.T 137 = some ⟨1, 8, [.p (.v (.pointer none))], .sc, none⟩ := rfl
def Try.zOf (y : Ty) : Value :=
 let vs : List Value:=y.zero.map fun | .p (.v v)=>v | _=>.slice none 0 0
 if y.kd.isAgg then .agg vs.toArray else vs.headD (.slice none 0 0)
abbrev Try.tyZ {t : TypeId} {y : Ty} := @TyOK.of Try.prog t y (Try.zOf y)
set_option maxRecDepth 100000 in
set_option maxHeartbeats 40000000 in
theorem Try.tab : zC Try.prog Try.T := by
 intro t y h
 unfold Try.T at h
 split at h
 all_goals first|(simp at h;done)|(obtain rfl:=Option.some.inj h)
 all_goals first | exact Try.ty25 | exact Try.ty37 | exact Try.ty48 | exact Try.ty65 | exact Try.ty86 | exact Try.ty97|(refine Try.tyZ (by kernel_rfl) rfl (by first | rfl | decide|(simp [Try.zOf,Kd.isAgg,Value.cells,zval,scal])) rfl (by first | exact rfl | kernel_rfl | exact yA (by kernel_rfl) | exact scOf_spec (by kernel_rfl)) (by intro cs h;first | rfl|(simp [Try.zOf,Kd.isAgg] at h)) (by intro ks h;simp at h))
theorem Try.mixed : Try.prog.follows .mixedOrders = true := by kernel_rfl
end Go.Proofs.Ytpilcadofjcdoaa
