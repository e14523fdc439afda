/- Texts that the proof needs: Tab. -/
import Derived.Test.YtjekjpgccnhobaaDoorProg
import Derived.Test.YtjekjpgccnhobaaDoorP11ConfigBack
import Derived.WalkKit
import Derived.WalkSpells
import Derived.KernelRfl
/- The table of types of this translation, by program. -/
namespace Go.Proofs.YtjekjpgccnhobaaDoor
open Go Go.Av
instance Tryd.glob : Glob where
  g
    | 4=>some [.v (.int .u8 0),.v (.int .u8 1),.v (.int .u8 28),.v (.int .u8 2),.v (.int .u8 29),.v (.int .u8 14),.v (.int .u8 24),.v (.int .u8 3),.v (.int .u8 30),.v (.int .u8 22),.v (.int .u8 20),.v (.int .u8 15),.v (.int .u8 25),.v (.int .u8 17),.v (.int .u8 4),.v (.int .u8 8),.v (.int .u8 31),.v (.int .u8 27),.v (.int .u8 13),.v (.int .u8 23),.v (.int .u8 21),.v (.int .u8 19),.v (.int .u8 16),.v (.int .u8 7),.v (.int .u8 26),.v (.int .u8 12),.v (.int .u8 18),.v (.int .u8 6),.v (.int .u8 11),.v (.int .u8 5),.v (.int .u8 10),.v (.int .u8 9)]
    | 5=>some [.v (.int .u8 0),.v (.int .u8 1),.v (.int .u8 56),.v (.int .u8 2),.v (.int .u8 57),.v (.int .u8 49),.v (.int .u8 28),.v (.int .u8 3),.v (.int .u8 61),.v (.int .u8 58),.v (.int .u8 42),.v (.int .u8 50),.v (.int .u8 38),.v (.int .u8 29),.v (.int .u8 17),.v (.int .u8 4),.v (.int .u8 62),.v (.int .u8 47),.v (.int .u8 59),.v (.int .u8 36),.v (.int .u8 45),.v (.int .u8 43),.v (.int .u8 51),.v (.int .u8 22),.v (.int .u8 53),.v (.int .u8 39),.v (.int .u8 33),.v (.int .u8 30),.v (.int .u8 24),.v (.int .u8 18),.v (.int .u8 12),.v (.int .u8 5),.v (.int .u8 63),.v (.int .u8 55),.v (.int .u8 48),.v (.int .u8 27),.v (.int .u8 60),.v (.int .u8 41),.v (.int .u8 37),.v (.int .u8 16),.v (.int .u8 46),.v (.int .u8 35),.v (.int .u8 44),.v (.int .u8 21),.v (.int .u8 52),.v (.int .u8 32),.v (.int .u8 23),.v (.int .u8 11),.v (.int .u8 54),.v (.int .u8 26),.v (.int .u8 40),.v (.int .u8 15),.v (.int .u8 34),.v (.int .u8 20),.v (.int .u8 31),.v (.int .u8 10),.v (.int .u8 25),.v (.int .u8 14),.v (.int .u8 19),.v (.int .u8 9),.v (.int .u8 13),.v (.int .u8 8),.v (.int .u8 7),.v (.int .u8 6)]
    | 1=>some [.v (.int .u64 1),.v (.int .u64 10),.v (.int .u64 100),.v (.int .u64 1000),.v (.int .u64 10000),.v (.int .u64 100000),.v (.int .u64 1000000),.v (.int .u64 10000000),.v (.int .u64 100000000),.v (.int .u64 1000000000),.v (.int .u64 10000000000),.v (.int .u64 100000000000),.v (.int .u64 1000000000000),.v (.int .u64 10000000000000),.v (.int .u64 100000000000000),.v (.int .u64 1000000000000000),.v (.int .u64 10000000000000000),.v (.int .u64 100000000000000000),.v (.int .u64 1000000000000000000),.v (.int .u64 10000000000000000000)]
    | _=>none
theorem Tryd.ty23 : TyOK Tryd.prog 23 ⟨2, 16, [.p (.v (.int .i64 0)), .p (.v (.int .i64 0))], .struct [(0, 3), (1, 3)], some [.int .i64, .int .i64]⟩ := by
  refine TyOK.of (z:=.agg #[.int .i64 0,.int .i64 0]) (by kernel_rfl) rfl (by first | rfl | decide|(simp [Value.cells,zval,scal])) rfl ?_ ?_ ?_
  · exact structOf_spec (by kernel_rfl)
  · intro cs h;first | rfl|(simp at h)
  · intro ks h; simp only [xA] at h; subst h; refine ⟨rfl, fun xs ys hx hy w => ⟨?_, by kernel_rfl⟩⟩
    obtain ⟨_,_,rfl,⟨x0,rfl⟩,hx⟩:=hx;obtain ⟨_,_,rfl,⟨x1,rfl⟩,hx⟩:=hx;subst hx
    obtain ⟨_,_,rfl,⟨y0,rfl⟩,hy⟩:=hy;obtain ⟨_,_,rfl,⟨y1,rfl⟩,hy⟩:=hy;subst hy
    show (Op.equalIn 10000 23 (.agg #[.int .i64 x0,.int .i64 x1]) (.agg #[.int .i64 y0,.int .i64 y1])).run Tryd.prog w = _
    go_simp
    simp only [ceq,veq]
    all_goals (repeat' split)
    all_goals simp_all
theorem Tryd.ty30 : TyOK Tryd.prog 30 ⟨4, 32, [.p (.v (.int .i64 0)), .p (.v (.int .i64 0)), .p (.v (.int .i64 0)), .p (.v (.int .i64 0))], .struct [(0, 3), (1, 3), (2, 3), (3, 3)], some [.int .i64, .int .i64, .int .i64, .int .i64]⟩ := by
  refine TyOK.of (z:=.agg #[.int .i64 0,.int .i64 0,.int .i64 0,.int .i64 0]) (by kernel_rfl) rfl (by first | rfl | decide|(simp [Value.cells,zval,scal])) rfl ?_ ?_ ?_
  · exact structOf_spec (by kernel_rfl)
  · intro cs h;first | rfl|(simp at h)
  · intro ks h; simp only [xA] at h; subst h; refine ⟨rfl, fun xs ys hx hy w => ⟨?_, by kernel_rfl⟩⟩
    obtain ⟨_,_,rfl,⟨x0,rfl⟩,hx⟩:=hx;obtain ⟨_,_,rfl,⟨x1,rfl⟩,hx⟩:=hx;obtain ⟨_,_,rfl,⟨x2,rfl⟩,hx⟩:=hx;obtain ⟨_,_,rfl,⟨x3,rfl⟩,hx⟩:=hx;subst hx
    obtain ⟨_,_,rfl,⟨y0,rfl⟩,hy⟩:=hy;obtain ⟨_,_,rfl,⟨y1,rfl⟩,hy⟩:=hy;obtain ⟨_,_,rfl,⟨y2,rfl⟩,hy⟩:=hy;obtain ⟨_,_,rfl,⟨y3,rfl⟩,hy⟩:=hy;subst hy
    show (Op.equalIn 10000 30 (.agg #[.int .i64 x0,.int .i64 x1,.int .i64 x2,.int .i64 x3]) (.agg #[.int .i64 y0,.int .i64 y1,.int .i64 y2,.int .i64 y3])).run Tryd.prog w = _
    go_simp
    simp only [ceq,veq]
    all_goals (repeat' split)
    all_goals simp_all
theorem Tryd.ty96 : TyOK Tryd.prog 96 ⟨2, 2, [.p (.v (.int .u8 0)), .p (.v (.int .u8 0))], .struct [(0, 5), (1, 5)], some [.int .u8, .int .u8]⟩ := by
  refine TyOK.of (z:=.agg #[.int .u8 0,.int .u8 0]) (by kernel_rfl) rfl (by first | rfl | decide|(simp [Value.cells,zval,scal])) rfl ?_ ?_ ?_
  · exact structOf_spec (by kernel_rfl)
  · intro cs h;first | rfl|(simp at h)
  · intro ks h; simp only [xA] at h; subst h; refine ⟨rfl, fun xs ys hx hy w => ⟨?_, by kernel_rfl⟩⟩
    obtain ⟨_,_,rfl,⟨x0,rfl⟩,hx⟩:=hx;obtain ⟨_,_,rfl,⟨x1,rfl⟩,hx⟩:=hx;subst hx
    obtain ⟨_,_,rfl,⟨y0,rfl⟩,hy⟩:=hy;obtain ⟨_,_,rfl,⟨y1,rfl⟩,hy⟩:=hy;subst hy
    show (Op.equalIn 10000 96 (.agg #[.int .u8 x0,.int .u8 x1]) (.agg #[.int .u8 y0,.int .u8 y1])).run Tryd.prog w = _
    go_simp
    simp only [ceq,veq]
    all_goals (repeat' split)
    all_goals simp_all
def Tryd.T : TypeId → Option Ty
  | 1=>some ⟨1,8,[.p (.v .nilFunc)],.sc,none⟩
  | 2=>some ⟨1,8,[.p (.v (.int .i64 0))],.int .i64,none⟩
  | 3=>some ⟨1,8,[.p (.v (.int .i64 0))],.int .i64,none⟩
  | 4=>some ⟨1,1,[.p (.v (.bool false))],.bool,none⟩
  | 5=>some ⟨1,1,[.p (.v (.int .u8 0))],.int .u8,none⟩
  | 9=>some ⟨1,16,[.p (.v (.string ByteArray.empty))],.str,none⟩
  | 12=>some ⟨1,8,[.p (.v (.int .u64 0))],.int .u64,none⟩
  | 15=>some ⟨1,8,[.p (.v (.pointer none))],.sc,none⟩
  | 16=>some ⟨1,8,[.p (.v (.pointer none))],.sc,none⟩
  | 17=>some ⟨1,8,[.p (.v (.pointer none))],.sc,none⟩
  | 21=>some ⟨1,4,[.p (.v (.int .i32 0))],.int .i32,none⟩
  | 23=>some ⟨2,16,[.p (.v (.int .i64 0)),.p (.v (.int .i64 0))],.struct [(0,3),(1,3)],some [.int .i64,.int .i64]⟩
  | 24=>some ⟨1,24,[.nil 4],.slice 30,none⟩
  | 26=>some ⟨4,48,[.p (.v (.int .i64 0)),.p (.v (.int .i64 0)),.p (.v (.int .i64 0)),.p (.v (.slice none 0 0))],.struct [(0,23),(2,3),(3,24)],none⟩
  | 27=>some ⟨1,8,[.p (.v .nilFunc)],.sc,none⟩
  | 28=>some ⟨1,8,[.p (.v .nilFunc)],.sc,none⟩
  | 30=>some ⟨4,32,[.p (.v (.int .i64 0)),.p (.v (.int .i64 0)),.p (.v (.int .i64 0)),.p (.v (.int .i64 0))],.struct [(0,3),(1,3),(2,3),(3,3)],some [.int .i64,.int .i64,.int .i64,.int .i64]⟩
  | 32=>some ⟨1,8,[.p (.v .nilFunc)],.sc,none⟩
  | 33=>some ⟨1,8,[.p (.v (.int .i64 0))],.int .i64,none⟩
  | 34=>some ⟨1,8,[.p (.v .nilFunc)],.sc,none⟩
  | 35=>some ⟨1,8,[.p (.v .nilFunc)],.sc,none⟩
  | 36=>some ⟨1,24,[.nil 1],.slice 3,none⟩
  | 37=>some ⟨1,8,[.p (.v .nilFunc)],.sc,none⟩
  | 38=>some ⟨1,8,[.p (.v .nilFunc)],.sc,none⟩
  | 39=>some ⟨1,8,[.p (.v .nilFunc)],.sc,none⟩
  | 40=>some ⟨1,8,[.p (.v .nilFunc)],.sc,none⟩
  | 41=>some ⟨1,8,[.p (.v .nilFunc)],.sc,none⟩
  | 43=>some ⟨1,8,[.p (.v .nilFunc)],.sc,none⟩
  | 44=>some ⟨1,8,[.p (.v .nilFunc)],.sc,none⟩
  | 45=>some ⟨1,8,[.p (.v (.int .u64 0))],.int .u64,none⟩
  | 46=>some ⟨1,8,[.p (.v .nilFunc)],.sc,none⟩
  | 47=>some ⟨1,8,[.p (.v .nilFunc)],.sc,none⟩
  | 48=>some ⟨1,8,[.p (.v .nilFunc)],.sc,none⟩
  | 49=>some ⟨1,8,[.p (.v .nilFunc)],.sc,none⟩
  | 50=>some ⟨1,8,[.p (.v .nilFunc)],.sc,none⟩
  | 51=>some ⟨1,8,[.p (.v .nilFunc)],.sc,none⟩
  | 52=>some ⟨1,8,[.p (.v .nilFunc)],.sc,none⟩
  | 54=>some ⟨1,8,[.p (.v .nilFunc)],.sc,none⟩
  | 55=>some ⟨1,24,[.nil 1],.slice 9,none⟩
  | 56=>some ⟨1,8,[.p (.v .nilFunc)],.sc,none⟩
  | 57=>some ⟨1,8,[.p (.v .nilFunc)],.sc,none⟩
  | 58=>some ⟨1,8,[.p (.v .nilFunc)],.sc,none⟩
  | 59=>some ⟨1,8,[.p (.v .nilFunc)],.sc,none⟩
  | 60=>some ⟨1,24,[.nil 1],.slice 21,none⟩
  | 62=>some ⟨1,8,[.p (.v .nilFunc)],.sc,none⟩
  | 64=>some ⟨1,8,[.p (.v .nilFunc)],.sc,none⟩
  | 65=>some ⟨1,8,[.p (.v .nilFunc)],.sc,none⟩
  | 66=>some ⟨1,8,[.p (.v .nilFunc)],.sc,none⟩
  | 67=>some ⟨1,8,[.p (.v .nilFunc)],.sc,none⟩
  | 68=>some ⟨1,8,[.p (.v .nilFunc)],.sc,none⟩
  | 70=>some ⟨1,8,[.p (.v .nilFunc)],.sc,none⟩
  | 72=>some ⟨1,8,[.p (.v .nilFunc)],.sc,none⟩
  | 73=>some ⟨1,8,[.p (.v .nilFunc)],.sc,none⟩
  | 74=>some ⟨1,8,[.p (.v .nilFunc)],.sc,none⟩
  | 75=>some ⟨1,8,[.p (.v .nilFunc)],.sc,none⟩
  | 76=>some ⟨1,8,[.p (.v (.int .u64 0))],.int .u64,none⟩
  | 77=>some ⟨1,8,[.p (.v .nilFunc)],.sc,none⟩
  | 78=>some ⟨1,24,[.nil 1],.slice 5,none⟩
  | 79=>some ⟨1,8,[.p (.v .nilFunc)],.sc,none⟩
  | 81=>some ⟨1,8,[.p (.v .nilFunc)],.sc,none⟩
  | 82=>some ⟨1,8,[.p (.v .nilFunc)],.sc,none⟩
  | 83=>some ⟨24,24,[.p (.v (.int .u8 0)),.p (.v (.int .u8 0)),.p (.v (.int .u8 0)),.p (.v (.int .u8 0)),.p (.v (.int .u8 0)),.p (.v (.int .u8 0)),.p (.v (.int .u8 0)),.p (.v (.int .u8 0)),.p (.v (.int .u8 0)),.p (.v (.int .u8 0)),.p (.v (.int .u8 0)),.p (.v (.int .u8 0)),.p (.v (.int .u8 0)),.p (.v (.int .u8 0)),.p (.v (.int .u8 0)),.p (.v (.int .u8 0)),.p (.v (.int .u8 0)),.p (.v (.int .u8 0)),.p (.v (.int .u8 0)),.p (.v (.int .u8 0)),.p (.v (.int .u8 0)),.p (.v (.int .u8 0)),.p (.v (.int .u8 0)),.p (.v (.int .u8 0))],.array 24 5,none⟩
  | 84=>some ⟨1,8,[.p (.v .nilFunc)],.sc,none⟩
  | 85=>some ⟨1,8,[.p (.v .nilFunc)],.sc,none⟩
  | 87=>some ⟨1,8,[.p (.v .nilFunc)],.sc,none⟩
  | 88=>some ⟨1,8,[.p (.v .nilFunc)],.sc,none⟩
  | 89=>some ⟨1,8,[.p (.v .nilFunc)],.sc,none⟩
  | 90=>some ⟨20,160,[.p (.v (.int .u64 0)),.p (.v (.int .u64 0)),.p (.v (.int .u64 0)),.p (.v (.int .u64 0)),.p (.v (.int .u64 0)),.p (.v (.int .u64 0)),.p (.v (.int .u64 0)),.p (.v (.int .u64 0)),.p (.v (.int .u64 0)),.p (.v (.int .u64 0)),.p (.v (.int .u64 0)),.p (.v (.int .u64 0)),.p (.v (.int .u64 0)),.p (.v (.int .u64 0)),.p (.v (.int .u64 0)),.p (.v (.int .u64 0)),.p (.v (.int .u64 0)),.p (.v (.int .u64 0)),.p (.v (.int .u64 0)),.p (.v (.int .u64 0))],.array 20 45,none⟩
  | 91=>some ⟨1,4,[.p (.v (.int .u32 0))],.int .u32,none⟩
  | 93=>some ⟨1,8,[.p (.v .nilFunc)],.sc,none⟩
  | 96=>some ⟨2,2,[.p (.v (.int .u8 0)),.p (.v (.int .u8 0))],.struct [(0,5),(1,5)],some [.int .u8,.int .u8]⟩
  | 97=>some ⟨32,32,[.p (.v (.int .u8 0)),.p (.v (.int .u8 0)),.p (.v (.int .u8 0)),.p (.v (.int .u8 0)),.p (.v (.int .u8 0)),.p (.v (.int .u8 0)),.p (.v (.int .u8 0)),.p (.v (.int .u8 0)),.p (.v (.int .u8 0)),.p (.v (.int .u8 0)),.p (.v (.int .u8 0)),.p (.v (.int .u8 0)),.p (.v (.int .u8 0)),.p (.v (.int .u8 0)),.p (.v (.int .u8 0)),.p (.v (.int .u8 0)),.p (.v (.int .u8 0)),.p (.v (.int .u8 0)),.p (.v (.int .u8 0)),.p (.v (.int .u8 0)),.p (.v (.int .u8 0)),.p (.v (.int .u8 0)),.p (.v (.int .u8 0)),.p (.v (.int .u8 0)),.p (.v (.int .u8 0)),.p (.v (.int .u8 0)),.p (.v (.int .u8 0)),.p (.v (.int .u8 0)),.p (.v (.int .u8 0)),.p (.v (.int .u8 0)),.p (.v (.int .u8 0)),.p (.v (.int .u8 0))],.array 16 96,none⟩
  | 99=>some ⟨1,8,[.p (.v .nilFunc)],.sc,none⟩
  | 100=>some ⟨1,8,[.p (.v .nilFunc)],.sc,none⟩
  | 101=>some ⟨32,32,[.p (.v (.int .u8 0)),.p (.v (.int .u8 0)),.p (.v (.int .u8 0)),.p (.v (.int .u8 0)),.p (.v (.int .u8 0)),.p (.v (.int .u8 0)),.p (.v (.int .u8 0)),.p (.v (.int .u8 0)),.p (.v (.int .u8 0)),.p (.v (.int .u8 0)),.p (.v (.int .u8 0)),.p (.v (.int .u8 0)),.p (.v (.int .u8 0)),.p (.v (.int .u8 0)),.p (.v (.int .u8 0)),.p (.v (.int .u8 0)),.p (.v (.int .u8 0)),.p (.v (.int .u8 0)),.p (.v (.int .u8 0)),.p (.v (.int .u8 0)),.p (.v (.int .u8 0)),.p (.v (.int .u8 0)),.p (.v (.int .u8 0)),.p (.v (.int .u8 0)),.p (.v (.int .u8 0)),.p (.v (.int .u8 0)),.p (.v (.int .u8 0)),.p (.v (.int .u8 0)),.p (.v (.int .u8 0)),.p (.v (.int .u8 0)),.p (.v (.int .u8 0)),.p (.v (.int .u8 0))],.array 32 5,none⟩
  | 102=>some ⟨64,64,[.p (.v (.int .u8 0)),.p (.v (.int .u8 0)),.p (.v (.int .u8 0)),.p (.v (.int .u8 0)),.p (.v (.int .u8 0)),.p (.v (.int .u8 0)),.p (.v (.int .u8 0)),.p (.v (.int .u8 0)),.p (.v (.int .u8 0)),.p (.v (.int .u8 0)),.p (.v (.int .u8 0)),.p (.v (.int .u8 0)),.p (.v (.int .u8 0)),.p (.v (.int .u8 0)),.p (.v (.int .u8 0)),.p (.v (.int .u8 0)),.p (.v (.int .u8 0)),.p (.v (.int .u8 0)),.p (.v (.int .u8 0)),.p (.v (.int .u8 0)),.p (.v (.int .u8 0)),.p (.v (.int .u8 0)),.p (.v (.int .u8 0)),.p (.v (.int .u8 0)),.p (.v (.int .u8 0)),.p (.v (.int .u8 0)),.p (.v (.int .u8 0)),.p (.v (.int .u8 0)),.p (.v (.int .u8 0)),.p (.v (.int .u8 0)),.p (.v (.int .u8 0)),.p (.v (.int .u8 0)),.p (.v (.int .u8 0)),.p (.v (.int .u8 0)),.p (.v (.int .u8 0)),.p (.v (.int .u8 0)),.p (.v (.int .u8 0)),.p (.v (.int .u8 0)),.p (.v (.int .u8 0)),.p (.v (.int .u8 0)),.p (.v (.int .u8 0)),.p (.v (.int .u8 0)),.p (.v (.int .u8 0)),.p (.v (.int .u8 0)),.p (.v (.int .u8 0)),.p (.v (.int .u8 0)),.p (.v (.int .u8 0)),.p (.v (.int .u8 0)),.p (.v (.int .u8 0)),.p (.v (.int .u8 0)),.p (.v (.int .u8 0)),.p (.v (.int .u8 0)),.p (.v (.int .u8 0)),.p (.v (.int .u8 0)),.p (.v (.int .u8 0)),.p (.v (.int .u8 0)),.p (.v (.int .u8 0)),.p (.v (.int .u8 0)),.p (.v (.int .u8 0)),.p (.v (.int .u8 0)),.p (.v (.int .u8 0)),.p (.v (.int .u8 0)),.p (.v (.int .u8 0)),.p (.v (.int .u8 0))],.array 64 5,none⟩
  | 103=>some ⟨1,8,[.p (.v .nilFunc)],.sc,none⟩
  | 106=>some ⟨0,0,[],.array 0 16,none⟩
  | 109=>some ⟨1,8,[.p (.v .nilFunc)],.sc,none⟩
  | 112=>some ⟨1,8,[.p (.v .nilFunc)],.sc,none⟩
  | 113=>some ⟨1,8,[.p (.v (.pointer none))],.sc,none⟩
  | _=>none
@[simp] theorem Tryd.T1 : Tryd.T 1 = some ⟨1, 8, [.p (.v .nilFunc)], .sc, none⟩ := rfl
@[simp] theorem Tryd.T2 : Tryd.T 2 = some ⟨1, 8, [.p (.v (.int .i64 0))], .int .i64, none⟩ := rfl
@[simp] theorem Tryd.T3 : Tryd.T 3 = some ⟨1, 8, [.p (.v (.int .i64 0))], .int .i64, none⟩ := rfl
@[simp] theorem Tryd.T4 : Tryd.T 4 = some ⟨1, 1, [.p (.v (.bool false))], .bool, none⟩ := rfl
@[simp] theorem Tryd.T5 : Tryd.T 5 = some ⟨1, 1, [.p (.v (.int .u8 0))], .int .u8, none⟩ := rfl
@[simp] theorem Tryd.T9 : Tryd.T 9 = some ⟨1, 16, [.p (.v (.string ByteArray.empty))], .str, none⟩ := rfl
@[simp] theorem Tryd.T12 : Tryd.T 12 = some ⟨1, 8, [.p (.v (.int .u64 0))], .int .u64, none⟩ := rfl
@[simp] theorem Tryd.T15 : Tryd.T 15 = some ⟨1, 8, [.p (.v (.pointer none))], .sc, none⟩ := rfl
@[simp] theorem Tryd.T16 : Tryd.T 16 = some ⟨1, 8, [.p (.v (.pointer none))], .sc, none⟩ := rfl
@[simp] theorem Tryd.T17 : Tryd.T 17 = some ⟨1, 8, [.p (.v (.pointer none))], .sc, none⟩ := rfl
@[simp] theorem Tryd.T21 : Tryd.T 21 = some ⟨1, 4, [.p (.v (.int .i32 0))], .int .i32, none⟩ := rfl
@[simp] theorem Tryd.T23 : Tryd.T 23 = some ⟨2, 16, [.p (.v (.int .i64 0)), .p (.v (.int .i64 0))], .struct [(0, 3), (1, 3)], some [.int .i64, .int .i64]⟩ := rfl
@[simp] theorem Tryd.T24 : Tryd.T 24 = some ⟨1, 24, [.nil 4], .slice 30, none⟩ := rfl
@[simp] theorem Tryd.T26 : Tryd.T 26 = some ⟨4, 48, [.p (.v (.int .i64 0)), .p (.v (.int .i64 0)), .p (.v (.int .i64 0)), .p (.v (.slice none 0 0))], .struct [(0, 23), (2, 3), (3, 24)], none⟩ := rfl
@[simp] theorem Tryd.T27 : Tryd.T 27 = some ⟨1, 8, [.p (.v .nilFunc)], .sc, none⟩ := rfl
@[simp] theorem Tryd.T28 : Tryd.T 28 = some ⟨1, 8, [.p (.v .nilFunc)], .sc, none⟩ := rfl
@[simp] theorem Tryd.T30 : Tryd.T 30 = some ⟨4, 32, [.p (.v (.int .i64 0)), .p (.v (.int .i64 0)), .p (.v (.int .i64 0)), .p (.v (.int .i64 0))], .struct [(0, 3), (1, 3), (2, 3), (3, 3)], some [.int .i64, .int .i64, .int .i64, .int .i64]⟩ := rfl
@[simp] theorem Tryd.T32 : Tryd.T 32 = some ⟨1, 8, [.p (.v .nilFunc)], .sc, none⟩ := rfl
@[simp] theorem Tryd.T33 : Tryd.T 33 = some ⟨1, 8, [.p (.v (.int .i64 0))], .int .i64, none⟩ := rfl
@[simp] theorem Tryd.T34 : Tryd.T 34 = some ⟨1, 8, [.p (.v .nilFunc)], .sc, none⟩ := rfl
@[simp] theorem Tryd.T35 : Tryd.T 35 = some ⟨1, 8, [.p (.v .nilFunc)], .sc, none⟩ := rfl
@[simp] theorem Tryd.T36 : Tryd.T 36 = some ⟨1, 24, [.nil 1], .slice 3, none⟩ := rfl
@[simp] theorem Tryd.T37 : Tryd.T 37 = some ⟨1, 8, [.p (.v .nilFunc)], .sc, none⟩ := rfl
@[simp] theorem Tryd.T38 : Tryd.T 38 = some ⟨1, 8, [.p (.v .nilFunc)], .sc, none⟩ := rfl
@[simp] theorem Tryd.T39 : Tryd.T 39 = some ⟨1, 8, [.p (.v .nilFunc)], .sc, none⟩ := rfl
@[simp] theorem Tryd.T40 : Tryd.T 40 = some ⟨1, 8, [.p (.v .nilFunc)], .sc, none⟩ := rfl
@[simp] theorem Tryd.T41 : Tryd.T 41 = some ⟨1, 8, [.p (.v .nilFunc)], .sc, none⟩ := rfl
@[simp] theorem Tryd.T43 : Tryd.T 43 = some ⟨1, 8, [.p (.v .nilFunc)], .sc, none⟩ := rfl
@[simp] theorem Tryd.T44 : Tryd.T 44 = some ⟨1, 8, [.p (.v .nilFunc)], .sc, none⟩ := rfl
@[simp] theorem Tryd.T45 : Tryd.T 45 = some ⟨1, 8, [.p (.v (.int .u64 0))], .int .u64, none⟩ := rfl
@[simp] theorem Tryd.T46 : Tryd.T 46 = some ⟨1, 8, [.p (.v .nilFunc)], .sc, none⟩ := rfl
@[simp] theorem Tryd.T47 : Tryd.T 47 = some ⟨1, 8, [.p (.v .nilFunc)], .sc, none⟩ := rfl
@[simp] theorem Tryd.T48 : Tryd.T 48 = some ⟨1, 8, [.p (.v .nilFunc)], .sc, none⟩ := rfl
@[simp] theorem Tryd.T49 : Tryd.T 49 = some ⟨1, 8, [.p (.v .nilFunc)], .sc, none⟩ := rfl
@[simp] theorem Tryd.T50 : Tryd.T 50 = some ⟨1, 8, [.p (.v .nilFunc)], .sc, none⟩ := rfl
@[simp] theorem Tryd.T51 : Tryd.T 51 = some ⟨1, 8, [.p (.v .nilFunc)], .sc, none⟩ := rfl
@[simp] theorem Tryd.T52 : Tryd.T 52 = some ⟨1, 8, [.p (.v .nilFunc)], .sc, none⟩ := rfl
@[simp] theorem Tryd.T54 : Tryd.T 54 = some ⟨1, 8, [.p (.v .nilFunc)], .sc, none⟩ := rfl
@[simp] theorem Tryd.T55 : Tryd.T 55 = some ⟨1, 24, [.nil 1], .slice 9, none⟩ := rfl
@[simp] theorem Tryd.T56 : Tryd.T 56 = some ⟨1, 8, [.p (.v .nilFunc)], .sc, none⟩ := rfl
@[simp] theorem Tryd.T57 : Tryd.T 57 = some ⟨1, 8, [.p (.v .nilFunc)], .sc, none⟩ := rfl
@[simp] theorem Tryd.T58 : Tryd.T 58 = some ⟨1, 8, [.p (.v .nilFunc)], .sc, none⟩ := rfl
@[simp] theorem Tryd.T59 : Tryd.T 59 = some ⟨1, 8, [.p (.v .nilFunc)], .sc, none⟩ := rfl
@[simp] theorem Tryd.T60 : Tryd.T 60 = some ⟨1, 24, [.nil 1], .slice 21, none⟩ := rfl
@[simp] theorem Tryd.T62 : Tryd.T 62 = some ⟨1, 8, [.p (.v .nilFunc)], .sc, none⟩ := rfl
@[simp] theorem Tryd.T64 : Tryd.T 64 = some ⟨1, 8, [.p (.v .nilFunc)], .sc, none⟩ := rfl
@[simp] theorem Tryd.T65 : Tryd.T 65 = some ⟨1, 8, [.p (.v .nilFunc)], .sc, none⟩ := rfl
@[simp] theorem Tryd.T66 : Tryd.T 66 = some ⟨1, 8, [.p (.v .nilFunc)], .sc, none⟩ := rfl
@[simp] theorem Tryd.T67 : Tryd.T 67 = some ⟨1, 8, [.p (.v .nilFunc)], .sc, none⟩ := rfl
@[simp] theorem Tryd.T68 : Tryd.T 68 = some ⟨1, 8, [.p (.v .nilFunc)], .sc, none⟩ := rfl
@[simp] theorem Tryd.T70 : Tryd.T 70 = some ⟨1, 8, [.p (.v .nilFunc)], .sc, none⟩ := rfl
@[simp] theorem Tryd.T72 : Tryd.T 72 = some ⟨1, 8, [.p (.v .nilFunc)], .sc, none⟩ := rfl
@[simp] theorem Tryd.T73 : Tryd.T 73 = some ⟨1, 8, [.p (.v .nilFunc)], .sc, none⟩ := rfl
@[simp] theorem Tryd.T74 : Tryd.T 74 = some ⟨1, 8, [.p (.v .nilFunc)], .sc, none⟩ := rfl
@[simp] theorem Tryd.T75 : Tryd.T 75 = some ⟨1, 8, [.p (.v .nilFunc)], .sc, none⟩ := rfl
@[simp] theorem Tryd.T76 : Tryd.T 76 = some ⟨1, 8, [.p (.v (.int .u64 0))], .int .u64, none⟩ := rfl
@[simp] theorem Tryd.T77 : Tryd.T 77 = some ⟨1, 8, [.p (.v .nilFunc)], .sc, none⟩ := rfl
@[simp] theorem Tryd.T78 : Tryd.T 78 = some ⟨1, 24, [.nil 1], .slice 5, none⟩ := rfl
@[simp] theorem Tryd.T79 : Tryd.T 79 = some ⟨1, 8, [.p (.v .nilFunc)], .sc, none⟩ := rfl
@[simp] theorem Tryd.T81 : Tryd.T 81 = some ⟨1, 8, [.p (.v .nilFunc)], .sc, none⟩ := rfl
@[simp] theorem Tryd.T82 : Tryd.T 82 = some ⟨1, 8, [.p (.v .nilFunc)], .sc, none⟩ := rfl
@[simp] theorem Tryd.T83 : Tryd.T 83 = some ⟨24, 24, [.p (.v (.int .u8 0)), .p (.v (.int .u8 0)), .p (.v (.int .u8 0)), .p (.v (.int .u8 0)), .p (.v (.int .u8 0)), .p (.v (.int .u8 0)), .p (.v (.int .u8 0)), .p (.v (.int .u8 0)), .p (.v (.int .u8 0)), .p (.v (.int .u8 0)), .p (.v (.int .u8 0)), .p (.v (.int .u8 0)), .p (.v (.int .u8 0)), .p (.v (.int .u8 0)), .p (.v (.int .u8 0)), .p (.v (.int .u8 0)), .p (.v (.int .u8 0)), .p (.v (.int .u8 0)), .p (.v (.int .u8 0)), .p (.v (.int .u8 0)), .p (.v (.int .u8 0)), .p (.v (.int .u8 0)), .p (.v (.int .u8 0)), .p (.v (.int .u8 0))], .array 24 5, none⟩ := rfl
@[simp] theorem Tryd.T84 : Tryd.T 84 = some ⟨1, 8, [.p (.v .nilFunc)], .sc, none⟩ := rfl
@[simp] theorem Tryd.T85 : Tryd.T 85 = some ⟨1, 8, [.p (.v .nilFunc)], .sc, none⟩ := rfl
@[simp] theorem Tryd.T87 : Tryd.T 87 = some ⟨1, 8, [.p (.v .nilFunc)], .sc, none⟩ := rfl
@[simp] theorem Tryd.T88 : Tryd.T 88 = some ⟨1, 8, [.p (.v .nilFunc)], .sc, none⟩ := rfl
@[simp] theorem Tryd.T89 : Tryd.T 89 = some ⟨1, 8, [.p (.v .nilFunc)], .sc, none⟩ := rfl
@[simp] theorem Tryd.T90 : Tryd.T 90 = some ⟨20, 160, [.p (.v (.int .u64 0)), .p (.v (.int .u64 0)), .p (.v (.int .u64 0)), .p (.v (.int .u64 0)), .p (.v (.int .u64 0)), .p (.v (.int .u64 0)), .p (.v (.int .u64 0)), .p (.v (.int .u64 0)), .p (.v (.int .u64 0)), .p (.v (.int .u64 0)), .p (.v (.int .u64 0)), .p (.v (.int .u64 0)), .p (.v (.int .u64 0)), .p (.v (.int .u64 0)), .p (.v (.int .u64 0)), .p (.v (.int .u64 0)), .p (.v (.int .u64 0)), .p (.v (.int .u64 0)), .p (.v (.int .u64 0)), .p (.v (.int .u64 0))], .array 20 45, none⟩ := rfl
@[simp] theorem Tryd.T91 : Tryd.T 91 = some ⟨1, 4, [.p (.v (.int .u32 0))], .int .u32, none⟩ := rfl
@[simp] theorem Tryd.T93 : Tryd.T 93 = some ⟨1, 8, [.p (.v .nilFunc)], .sc, none⟩ := rfl
@[simp] theorem Tryd.T96 : Tryd.T 96 = some ⟨2, 2, [.p (.v (.int .u8 0)), .p (.v (.int .u8 0))], .struct [(0, 5), (1, 5)], some [.int .u8, .int .u8]⟩ := rfl
@[simp] theorem Tryd.T97 : Tryd.T 97 = some ⟨32, 32, [.p (.v (.int .u8 0)), .p (.v (.int .u8 0)), .p (.v (.int .u8 0)), .p (.v (.int .u8 0)), .p (.v (.int .u8 0)), .p (.v (.int .u8 0)), .p (.v (.int .u8 0)), .p (.v (.int .u8 0)), .p (.v (.int .u8 0)), .p (.v (.int .u8 0)), .p (.v (.int .u8 0)), .p (.v (.int .u8 0)), .p (.v (.int .u8 0)), .p (.v (.int .u8 0)), .p (.v (.int .u8 0)), .p (.v (.int .u8 0)), .p (.v (.int .u8 0)), .p (.v (.int .u8 0)), .p (.v (.int .u8 0)), .p (.v (.int .u8 0)), .p (.v (.int .u8 0)), .p (.v (.int .u8 0)), .p (.v (.int .u8 0)), .p (.v (.int .u8 0)), .p (.v (.int .u8 0)), .p (.v (.int .u8 0)), .p (.v (.int .u8 0)), .p (.v (.int .u8 0)), .p (.v (.int .u8 0)), .p (.v (.int .u8 0)), .p (.v (.int .u8 0)), .p (.v (.int .u8 0))], .array 16 96, none⟩ := rfl
@[simp] theorem Tryd.T99 : Tryd.T 99 = some ⟨1, 8, [.p (.v .nilFunc)], .sc, none⟩ := rfl
@[simp] theorem Tryd.T100 : Tryd.T 100 = some ⟨1, 8, [.p (.v .nilFunc)], .sc, none⟩ := rfl
@[simp] theorem Tryd.T101 : Tryd.T 101 = some ⟨32, 32, [.p (.v (.int .u8 0)), .p (.v (.int .u8 0)), .p (.v (.int .u8 0)), .p (.v (.int .u8 0)), .p (.v (.int .u8 0)), .p (.v (.int .u8 0)), .p (.v (.int .u8 0)), .p (.v (.int .u8 0)), .p (.v (.int .u8 0)), .p (.v (.int .u8 0)), .p (.v (.int .u8 0)), .p (.v (.int .u8 0)), .p (.v (.int .u8 0)), .p (.v (.int .u8 0)), .p (.v (.int .u8 0)), .p (.v (.int .u8 0)), .p (.v (.int .u8 0)), .p (.v (.int .u8 0)), .p (.v (.int .u8 0)), .p (.v (.int .u8 0)), .p (.v (.int .u8 0)), .p (.v (.int .u8 0)), .p (.v (.int .u8 0)), .p (.v (.int .u8 0)), .p (.v (.int .u8 0)), .p (.v (.int .u8 0)), .p (.v (.int .u8 0)), .p (.v (.int .u8 0)), .p (.v (.int .u8 0)), .p (.v (.int .u8 0)), .p (.v (.int .u8 0)), .p (.v (.int .u8 0))], .array 32 5, none⟩ := rfl
@[simp] theorem Tryd.T102 : Tryd.T 102 = some ⟨64, 64, [.p (.v (.int .u8 0)), .p (.v (.int .u8 0)), .p (.v (.int .u8 0)), .p (.v (.int .u8 0)), .p (.v (.int .u8 0)), .p (.v (.int .u8 0)), .p (.v (.int .u8 0)), .p (.v (.int .u8 0)), .p (.v (.int .u8 0)), .p (.v (.int .u8 0)), .p (.v (.int .u8 0)), .p (.v (.int .u8 0)), .p (.v (.int .u8 0)), .p (.v (.int .u8 0)), .p (.v (.int .u8 0)), .p (.v (.int .u8 0)), .p (.v (.int .u8 0)), .p (.v (.int .u8 0)), .p (.v (.int .u8 0)), .p (.v (.int .u8 0)), .p (.v (.int .u8 0)), .p (.v (.int .u8 0)), .p (.v (.int .u8 0)), .p (.v (.int .u8 0)), .p (.v (.int .u8 0)), .p (.v (.int .u8 0)), .p (.v (.int .u8 0)), .p (.v (.int .u8 0)), .p (.v (.int .u8 0)), .p (.v (.int .u8 0)), .p (.v (.int .u8 0)), .p (.v (.int .u8 0)), .p (.v (.int .u8 0)), .p (.v (.int .u8 0)), .p (.v (.int .u8 0)), .p (.v (.int .u8 0)), .p (.v (.int .u8 0)), .p (.v (.int .u8 0)), .p (.v (.int .u8 0)), .p (.v (.int .u8 0)), .p (.v (.int .u8 0)), .p (.v (.int .u8 0)), .p (.v (.int .u8 0)), .p (.v (.int .u8 0)), .p (.v (.int .u8 0)), .p (.v (.int .u8 0)), .p (.v (.int .u8 0)), .p (.v (.int .u8 0)), .p (.v (.int .u8 0)), .p (.v (.int .u8 0)), .p (.v (.int .u8 0)), .p (.v (.int .u8 0)), .p (.v (.int .u8 0)), .p (.v (.int .u8 0)), .p (.v (.int .u8 0)), .p (.v (.int .u8 0)), .p (.v (.int .u8 0)), .p (.v (.int .u8 0)), .p (.v (.int .u8 0)), .p (.v (.int .u8 0)), .p (.v (.int .u8 0)), .p (.v (.int .u8 0)), .p (.v (.int .u8 0)), .p (.v (.int .u8 0))], .array 64 5, none⟩ := rfl
@[simp] theorem Tryd.T103 : Tryd.T 103 = some ⟨1, 8, [.p (.v .nilFunc)], .sc, none⟩ := rfl
@[simp] theorem Tryd.T106 : Tryd.T 106 = some ⟨0, 0, [], .array 0 16, none⟩ := rfl
@[simp] theorem Tryd.T109 : Tryd.T 109 = some ⟨1, 8, [.p (.v .nilFunc)], .sc, none⟩ := rfl
@[simp] theorem Tryd.T112 : Tryd.T 112 = some ⟨1, 8, [.p (.v .nilFunc)], .sc, none⟩ := rfl
@[simp] theorem Tryd.T113 : Tryd.T 113 = some ⟨1, 8, [.p (.v (.pointer none))], .sc, none⟩ := rfl
def Tryd.zOf (y : Ty) : Value :=
  let vs : List Value:=y.zero.map fun | .p (.v v)=>v | _=>.slice none 0 0
  if y.kd.isAgg then .agg vs.toArray else vs.headD (.slice none 0 0)
abbrev Tryd.tyZ {t : TypeId} {y : Ty} := @TyOK.of Tryd.prog t y (Tryd.zOf y)
set_option maxRecDepth 100000 in
set_option maxHeartbeats 40000000 in
theorem Tryd.tab : zB Tryd.prog Tryd.T := by
  intro t y h
  unfold Tryd.T at h
  split at h
  all_goals first|(simp at h;done)|(obtain rfl:=Option.some.inj h)
  all_goals first | exact Tryd.ty23 | exact Tryd.ty30 | exact Tryd.ty96|(refine Tryd.tyZ (by kernel_rfl) rfl (by first | rfl | decide|(simp [Tryd.zOf,Kd.isAgg,Value.cells,zval,scal])) rfl (by first | exact rfl | kernel_rfl | exact structOf_spec (by kernel_rfl) | exact scOf_spec (by kernel_rfl)) (by intro cs h;first | rfl|(simp [Tryd.zOf,Kd.isAgg] at h)) (by intro ks h;simp at h))
theorem Tryd.mixed : Tryd.prog.follows .mixedOrders = true := by kernel_rfl
end Go.Proofs.YtjekjpgccnhobaaDoor
