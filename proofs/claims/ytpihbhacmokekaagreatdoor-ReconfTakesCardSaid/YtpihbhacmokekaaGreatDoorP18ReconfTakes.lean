/- Texts that the proof needs: Tab. -/
import Derived.Test.YtpihbhacmokekaaGreatDoorProg
import Derived.Test.YtpihbhacmokekaaGreatDoorP11ReconfTakes
import Derived.WalkKit
import Derived.WalkSpells
import Derived.KernelRfl
namespace Go.Proofs.YtpihbhacmokekaaGreatDoor
open Go Go.Av
instance Tryz.glob:Glob where
 g
  |2=>some [.v (.int .u8 0),.v (.int .u8 1),.v (.int .u8 28),.v (.int .u8 2),.v (.int .u8 29),.v (.int .u8 14),.v (.int .u8 24),.v (.int .u8 3),.v (.int .u8 30),.v (.int .u8 22),.v (.int .u8 20),.v (.int .u8 15),.v (.int .u8 25),.v (.int .u8 17),.v (.int .u8 4),.v (.int .u8 8),.v (.int .u8 31),.v (.int .u8 27),.v (.int .u8 13),.v (.int .u8 23),.v (.int .u8 21),.v (.int .u8 19),.v (.int .u8 16),.v (.int .u8 7),.v (.int .u8 26),.v (.int .u8 12),.v (.int .u8 18),.v (.int .u8 6),.v (.int .u8 11),.v (.int .u8 5),.v (.int .u8 10),.v (.int .u8 9)]
  |3=>some [.v (.int .u8 0),.v (.int .u8 1),.v (.int .u8 56),.v (.int .u8 2),.v (.int .u8 57),.v (.int .u8 49),.v (.int .u8 28),.v (.int .u8 3),.v (.int .u8 61),.v (.int .u8 58),.v (.int .u8 42),.v (.int .u8 50),.v (.int .u8 38),.v (.int .u8 29),.v (.int .u8 17),.v (.int .u8 4),.v (.int .u8 62),.v (.int .u8 47),.v (.int .u8 59),.v (.int .u8 36),.v (.int .u8 45),.v (.int .u8 43),.v (.int .u8 51),.v (.int .u8 22),.v (.int .u8 53),.v (.int .u8 39),.v (.int .u8 33),.v (.int .u8 30),.v (.int .u8 24),.v (.int .u8 18),.v (.int .u8 12),.v (.int .u8 5),.v (.int .u8 63),.v (.int .u8 55),.v (.int .u8 48),.v (.int .u8 27),.v (.int .u8 60),.v (.int .u8 41),.v (.int .u8 37),.v (.int .u8 16),.v (.int .u8 46),.v (.int .u8 35),.v (.int .u8 44),.v (.int .u8 21),.v (.int .u8 52),.v (.int .u8 32),.v (.int .u8 23),.v (.int .u8 11),.v (.int .u8 54),.v (.int .u8 26),.v (.int .u8 40),.v (.int .u8 15),.v (.int .u8 34),.v (.int .u8 20),.v (.int .u8 31),.v (.int .u8 10),.v (.int .u8 25),.v (.int .u8 14),.v (.int .u8 19),.v (.int .u8 9),.v (.int .u8 13),.v (.int .u8 8),.v (.int .u8 7),.v (.int .u8 6)]
  |1=>some [.v (.int .u64 1),.v (.int .u64 10),.v (.int .u64 100),.v (.int .u64 1000),.v (.int .u64 10000),.v (.int .u64 100000),.v (.int .u64 1000000),.v (.int .u64 10000000),.v (.int .u64 100000000),.v (.int .u64 1000000000),.v (.int .u64 10000000000),.v (.int .u64 100000000000),.v (.int .u64 1000000000000),.v (.int .u64 10000000000000),.v (.int .u64 100000000000000),.v (.int .u64 1000000000000000),.v (.int .u64 10000000000000000),.v (.int .u64 100000000000000000),.v (.int .u64 1000000000000000000),.v (.int .u64 10000000000000000000)]
  |_=>none
theorem Tryz.ty25:TyOK Tryz.prog 25 ⟨2,16,[.p (.v (.int .i64 0)),.p (.v (.int .i64 0))],.struct [(0,3),(1,3)],some [.int .i64,.int .i64]⟩:=by
 refine TyOK.of (z:=.agg #[.int .i64 0,.int .i64 0]) (by kernel_rfl) rfl (by first|rfl|decide|(simp[Value.cells,zval,scal])) rfl ?_ ?_ ?_
 ·exact wM (by kernel_rfl)
 ·intro cs h;first|rfl|(simp at h)
 ·intro ks h;simp only[vQ] at h;subst h;refine⟨rfl,fun xs ys hx hy w=>⟨?_,by kernel_rfl⟩⟩
  obtain⟨_,_,rfl,⟨x0,rfl⟩,hx⟩:=hx;obtain⟨_,_,rfl,⟨x1,rfl⟩,hx⟩:=hx;subst hx
  obtain⟨_,_,rfl,⟨y0,rfl⟩,hy⟩:=hy;obtain⟨_,_,rfl,⟨y1,rfl⟩,hy⟩:=hy;subst hy
  show (Op.equalIn 10000 25 (.agg #[.int .i64 x0,.int .i64 x1]) (.agg #[.int .i64 y0,.int .i64 y1])).run Tryz.prog w=_
  go_simp
  simp only[ceq,veq]
  all_goals (repeat' split)
  all_goals simp_all
theorem Tryz.ty65:TyOK Tryz.prog 65 ⟨5,56,[.p (.v (.string ByteArray.empty)),.p (.v (.string ByteArray.empty)),.p (.v (.int .i64 0)),.p (.v (.int .i64 0)),.p (.v (.int .i64 0))],.struct [(0,9),(1,9),(2,3),(3,3),(4,3)],some [.str,.str,.int .i64,.int .i64,.int .i64]⟩:=by
 refine TyOK.of (z:=.agg #[.string ByteArray.empty,.string ByteArray.empty,.int .i64 0,.int .i64 0,.int .i64 0]) (by kernel_rfl) rfl (by first|rfl|decide|(simp[Value.cells,zval,scal])) rfl ?_ ?_ ?_
 ·exact wM (by kernel_rfl)
 ·intro cs h;first|rfl|(simp at h)
 ·intro ks h;simp only[vQ] at h;subst h;refine⟨rfl,fun xs ys hx hy w=>⟨?_,by kernel_rfl⟩⟩
  obtain⟨_,_,rfl,⟨x0,rfl⟩,hx⟩:=hx;obtain⟨_,_,rfl,⟨x1,rfl⟩,hx⟩:=hx;obtain⟨_,_,rfl,⟨x2,rfl⟩,hx⟩:=hx;obtain⟨_,_,rfl,⟨x3,rfl⟩,hx⟩:=hx;obtain⟨_,_,rfl,⟨x4,rfl⟩,hx⟩:=hx;subst hx
  obtain⟨_,_,rfl,⟨y0,rfl⟩,hy⟩:=hy;obtain⟨_,_,rfl,⟨y1,rfl⟩,hy⟩:=hy;obtain⟨_,_,rfl,⟨y2,rfl⟩,hy⟩:=hy;obtain⟨_,_,rfl,⟨y3,rfl⟩,hy⟩:=hy;obtain⟨_,_,rfl,⟨y4,rfl⟩,hy⟩:=hy;subst hy
  show (Op.equalIn 10000 65 (.agg #[.string x0,.string x1,.int .i64 x2,.int .i64 x3,.int .i64 x4]) (.agg #[.string y0,.string y1,.int .i64 y2,.int .i64 y3,.int .i64 y4])).run Tryz.prog w=_
  go_simp
  simp only[ceq,veq]
  all_goals (repeat' split)
  all_goals simp_all
theorem Tryz.ty71:TyOK Tryz.prog 71 ⟨4,32,[.p (.v (.int .i64 0)),.p (.v (.int .i64 0)),.p (.v (.int .i64 0)),.p (.v (.int .i64 0))],.struct [(0,3),(1,3),(2,3),(3,3)],some [.int .i64,.int .i64,.int .i64,.int .i64]⟩:=by
 refine TyOK.of (z:=.agg #[.int .i64 0,.int .i64 0,.int .i64 0,.int .i64 0]) (by kernel_rfl) rfl (by first|rfl|decide|(simp[Value.cells,zval,scal])) rfl ?_ ?_ ?_
 ·exact wM (by kernel_rfl)
 ·intro cs h;first|rfl|(simp at h)
 ·intro ks h;simp only[vQ] at h;subst h;refine⟨rfl,fun xs ys hx hy w=>⟨?_,by kernel_rfl⟩⟩
  obtain⟨_,_,rfl,⟨x0,rfl⟩,hx⟩:=hx;obtain⟨_,_,rfl,⟨x1,rfl⟩,hx⟩:=hx;obtain⟨_,_,rfl,⟨x2,rfl⟩,hx⟩:=hx;obtain⟨_,_,rfl,⟨x3,rfl⟩,hx⟩:=hx;subst hx
  obtain⟨_,_,rfl,⟨y0,rfl⟩,hy⟩:=hy;obtain⟨_,_,rfl,⟨y1,rfl⟩,hy⟩:=hy;obtain⟨_,_,rfl,⟨y2,rfl⟩,hy⟩:=hy;obtain⟨_,_,rfl,⟨y3,rfl⟩,hy⟩:=hy;subst hy
  show (Op.equalIn 10000 71 (.agg #[.int .i64 x0,.int .i64 x1,.int .i64 x2,.int .i64 x3]) (.agg #[.int .i64 y0,.int .i64 y1,.int .i64 y2,.int .i64 y3])).run Tryz.prog w=_
  go_simp
  simp only[ceq,veq]
  all_goals (repeat' split)
  all_goals simp_all
theorem Tryz.ty121:TyOK Tryz.prog 121 ⟨6,56,[.p (.v (.int .i64 0)),.p (.v (.string ByteArray.empty)),.p (.v (.string ByteArray.empty)),.p (.v (.int .i64 0)),.p (.v (.bool false)),.p (.v (.bool false))],.struct [(0,3),(1,9),(2,9),(3,3),(4,4),(5,4)],some [.int .i64,.str,.str,.int .i64,.bool,.bool]⟩:=by
 refine TyOK.of (z:=.agg #[.int .i64 0,.string ByteArray.empty,.string ByteArray.empty,.int .i64 0,.bool false,.bool false]) (by kernel_rfl) rfl (by first|rfl|decide|(simp[Value.cells,zval,scal])) rfl ?_ ?_ ?_
 ·exact wM (by kernel_rfl)
 ·intro cs h;first|rfl|(simp at h)
 ·intro ks h;simp only[vQ] at h;subst h;refine⟨rfl,fun xs ys hx hy w=>⟨?_,by kernel_rfl⟩⟩
  obtain⟨_,_,rfl,⟨x0,rfl⟩,hx⟩:=hx;obtain⟨_,_,rfl,⟨x1,rfl⟩,hx⟩:=hx;obtain⟨_,_,rfl,⟨x2,rfl⟩,hx⟩:=hx;obtain⟨_,_,rfl,⟨x3,rfl⟩,hx⟩:=hx;obtain⟨_,_,rfl,⟨x4,rfl⟩,hx⟩:=hx;obtain⟨_,_,rfl,⟨x5,rfl⟩,hx⟩:=hx;subst hx
  obtain⟨_,_,rfl,⟨y0,rfl⟩,hy⟩:=hy;obtain⟨_,_,rfl,⟨y1,rfl⟩,hy⟩:=hy;obtain⟨_,_,rfl,⟨y2,rfl⟩,hy⟩:=hy;obtain⟨_,_,rfl,⟨y3,rfl⟩,hy⟩:=hy;obtain⟨_,_,rfl,⟨y4,rfl⟩,hy⟩:=hy;obtain⟨_,_,rfl,⟨y5,rfl⟩,hy⟩:=hy;subst hy
  show (Op.equalIn 10000 121 (.agg #[.int .i64 x0,.string x1,.string x2,.int .i64 x3,.bool x4,.bool x5]) (.agg #[.int .i64 y0,.string y1,.string y2,.int .i64 y3,.bool y4,.bool y5])).run Tryz.prog w=_
  go_simp
  simp only[ceq,veq]
  all_goals (repeat' split)
  all_goals simp_all
def Tryz.T:TypeId->Option Ty
 |1=>some ⟨1,8,[.p (.v .nilFunc)],.sc,none⟩
 |2=>some ⟨1,8,[.p (.v (.int .i64 0))],.int .i64,none⟩
 |3=>some ⟨1,8,[.p (.v (.int .i64 0))],.int .i64,none⟩
 |4=>some ⟨1,1,[.p (.v (.bool false))],.bool,none⟩
 |5=>some ⟨1,1,[.p (.v (.int .u8 0))],.int .u8,none⟩
 |9=>some ⟨1,16,[.p (.v (.string ByteArray.empty))],.str,none⟩
 |12=>some ⟨1,8,[.p (.v (.int .u64 0))],.int .u64,none⟩
 |15=>some ⟨1,8,[.p (.v (.pointer none))],.sc,none⟩
 |16=>some ⟨1,8,[.p (.v (.pointer none))],.sc,none⟩
 |17=>some ⟨1,8,[.p (.v (.pointer none))],.sc,none⟩
 |21=>some ⟨1,4,[.p (.v (.int .i32 0))],.int .i32,none⟩
 |22=>some ⟨1,24,[.nil 5],.slice 65,none⟩
 |23=>some ⟨1,24,[.nil 1],.slice 3,none⟩
 |25=>some ⟨2,16,[.p (.v (.int .i64 0)),.p (.v (.int .i64 0))],.struct [(0,3),(1,3)],some [.int .i64,.int .i64]⟩
 |26=>some ⟨1,24,[.nil 4],.slice 71,none⟩
 |28=>some ⟨4,48,[.p (.v (.int .i64 0)),.p (.v (.int .i64 0)),.p (.v (.int .i64 0)),.nil 4],.struct [(0,25),(2,3),(3,26)],none⟩
 |30=>some ⟨9,120,[.nil 5,.nil 1,.p (.v (.int .i64 0)),.p (.v (.int .i64 0)),.p (.v (.int .i64 0)),.p (.v (.int .i64 0)),.nil 4,.p (.v (.int .i64 0)),.p (.v (.int .i64 0))],.struct [(0,22),(1,23),(2,3),(3,28),(7,25)],none⟩
 |31=>some ⟨1,24,[.nil 8],.slice 63,none⟩
 |33=>some ⟨10,144,[.nil 5,.nil 1,.p (.v (.int .i64 0)),.p (.v (.int .i64 0)),.p (.v (.int .i64 0)),.p (.v (.int .i64 0)),.nil 4,.p (.v (.int .i64 0)),.p (.v (.int .i64 0)),.nil 8],.struct [(0,30),(9,31)],none⟩
 |34=>some ⟨1,24,[.nil 8],.slice 54,none⟩
 |36=>some ⟨14,192,[.nil 5,.nil 1,.p (.v (.int .i64 0)),.p (.v (.int .i64 0)),.p (.v (.int .i64 0)),.p (.v (.int .i64 0)),.nil 4,.p (.v (.int .i64 0)),.p (.v (.int .i64 0)),.nil 8,.p (.v (.int .i64 0)),.p (.v (.int .i64 0)),.p (.v (.int .i64 0)),.nil 8],.struct [(0,33),(10,25),(12,3),(13,34)],none⟩
 |37=>some ⟨1,24,[.nil 6],.slice 121,none⟩
 |39=>some ⟨3,56,[.p (.v (.int .i64 0)),.nil 4,.nil 1],.struct [(0,3),(1,26),(2,23)],none⟩
 |41=>some ⟨9,120,[.p (.v (.int .i64 0)),.p (.v (.int .i64 0)),.p (.v (.int .i64 0)),.nil 6,.p (.v (.int .i64 0)),.nil 4,.nil 1,.p (.v (.int .i64 0)),.p (.v (.int .i64 0))],.struct [(0,3),(1,3),(2,3),(3,37),(4,39),(7,25)],none⟩
 |42=>some ⟨1,8,[.p (.v .nilFunc)],.sc,none⟩
 |43=>some ⟨1,8,[.p (.v .nilFunc)],.sc,none⟩
 |44=>some ⟨1,8,[.p (.v .nilFunc)],.sc,none⟩
 |45=>some ⟨1,8,[.p (.v (.int .i64 0))],.int .i64,none⟩
 |47=>some ⟨1,8,[.p (.v .nilFunc)],.sc,none⟩
 |48=>some ⟨1,8,[.p (.v .nilFunc)],.sc,none⟩
 |49=>some ⟨1,8,[.p (.v .nilFunc)],.sc,none⟩
 |50=>some ⟨1,8,[.p (.v .nilFunc)],.sc,none⟩
 |51=>some ⟨1,8,[.p (.v .nilFunc)],.sc,none⟩
 |52=>some ⟨1,24,[.nil 2],.slice 25,none⟩
 |54=>some ⟨8,80,[.p (.v (.int .i64 0)),.p (.v (.int .i64 0)),.p (.v (.int .i64 0)),.p (.v (.int .i64 0)),.nil 2,.p (.v (.int .i64 0)),.p (.v (.int .i64 0)),.p (.v (.int .i64 0))],.struct [(0,3),(1,3),(2,3),(3,3),(4,52),(5,25),(7,3)],none⟩
 |55=>some ⟨1,8,[.p (.v .nilFunc)],.sc,none⟩
 |56=>some ⟨1,8,[.p (.v .nilFunc)],.sc,none⟩
 |57=>some ⟨1,24,[.nil 4],.slice 28,none⟩
 |58=>some ⟨1,8,[.p (.v .nilFunc)],.sc,none⟩
 |59=>some ⟨1,8,[.p (.v .nilFunc)],.sc,none⟩
 |60=>some ⟨1,8,[.p (.v .nilFunc)],.sc,none⟩
 |61=>some ⟨1,24,[.nil 11],.slice 67,none⟩
 |63=>some ⟨8,88,[.p (.v (.int .i64 0)),.p (.v (.int .i64 0)),.p (.v (.int .i64 0)),.p (.v (.int .i64 0)),.p (.v (.int .i64 0)),.p (.v (.int .i64 0)),.p (.v (.string ByteArray.empty)),.p (.v (.slice none 0 0))],.struct [(0,25),(2,3),(3,3),(4,45),(5,3),(6,9),(7,61)],none⟩
 |65=>some ⟨5,56,[.p (.v (.string ByteArray.empty)),.p (.v (.string ByteArray.empty)),.p (.v (.int .i64 0)),.p (.v (.int .i64 0)),.p (.v (.int .i64 0))],.struct [(0,9),(1,9),(2,3),(3,3),(4,3)],some [.str,.str,.int .i64,.int .i64,.int .i64]⟩
 |67=>some ⟨11,120,[.p (.v (.int .i64 0)),.p (.v (.string ByteArray.empty)),.p (.v (.string ByteArray.empty)),.p (.v (.int .i64 0)),.p (.v (.int .i64 0)),.p (.v (.int .i64 0)),.p (.v (.int .i64 0)),.p (.v (.int .i64 0)),.p (.v (.int .i64 0)),.p (.v (.int .i64 0)),.nil 4],.struct [(0,3),(1,65),(6,3),(7,28)],none⟩
 |68=>some ⟨1,8,[.p (.v .nilFunc)],.sc,none⟩
 |69=>some ⟨1,8,[.p (.v .nilFunc)],.sc,none⟩
 |71=>some ⟨4,32,[.p (.v (.int .i64 0)),.p (.v (.int .i64 0)),.p (.v (.int .i64 0)),.p (.v (.int .i64 0))],.struct [(0,3),(1,3),(2,3),(3,3)],some [.int .i64,.int .i64,.int .i64,.int .i64]⟩
 |72=>some ⟨1,8,[.p (.v .nilFunc)],.sc,none⟩
 |73=>some ⟨1,8,[.p (.v .nilFunc)],.sc,none⟩
 |74=>some ⟨1,8,[.p (.v .nilFunc)],.sc,none⟩
 |75=>some ⟨1,8,[.p (.v .nilFunc)],.sc,none⟩
 |77=>some ⟨1,8,[.p (.v .nilFunc)],.sc,none⟩
 |78=>some ⟨1,8,[.p (.v .nilFunc)],.sc,none⟩
 |79=>some ⟨1,8,[.p (.v .nilFunc)],.sc,none⟩
 |80=>some ⟨1,8,[.p (.v .nilFunc)],.sc,none⟩
 |81=>some ⟨1,8,[.p (.v .nilFunc)],.sc,none⟩
 |82=>some ⟨1,8,[.p (.v .nilFunc)],.sc,none⟩
 |83=>some ⟨1,8,[.p (.v .nilFunc)],.sc,none⟩
 |84=>some ⟨1,8,[.p (.v .nilFunc)],.sc,none⟩
 |85=>some ⟨1,8,[.p (.v .nilFunc)],.sc,none⟩
 |87=>some ⟨1,8,[.p (.v .nilFunc)],.sc,none⟩
 |88=>some ⟨1,8,[.p (.v .nilFunc)],.sc,none⟩
 |90=>some ⟨1,8,[.p (.v .nilFunc)],.sc,none⟩
 |91=>some ⟨1,8,[.p (.v .nilFunc)],.sc,none⟩
 |92=>some ⟨8,64,[.p (.v (.int .i64 0)),.p (.v (.int .i64 0)),.p (.v (.int .i64 0)),.p (.v (.int .i64 0)),.p (.v (.int .i64 0)),.p (.v (.int .i64 0)),.p (.v (.int .i64 0)),.p (.v (.int .i64 0))],.array 8 3,none⟩
 |93=>some ⟨1,8,[.p (.v .nilFunc)],.sc,none⟩
 |94=>some ⟨1,8,[.p (.v .nilFunc)],.sc,none⟩
 |95=>some ⟨1,8,[.p (.v .nilFunc)],.sc,none⟩
 |96=>some ⟨1,8,[.p (.v .nilFunc)],.sc,none⟩
 |97=>some ⟨1,8,[.p (.v .nilFunc)],.sc,none⟩
 |98=>some ⟨1,8,[.p (.v .nilFunc)],.sc,none⟩
 |99=>some ⟨1,8,[.p (.v .nilFunc)],.sc,none⟩
 |100=>some ⟨1,8,[.p (.v .nilFunc)],.sc,none⟩
 |101=>some ⟨1,8,[.p (.v .nilFunc)],.sc,none⟩
 |102=>some ⟨1,8,[.p (.v .nilFunc)],.sc,none⟩
 |103=>some ⟨1,8,[.p (.v .nilFunc)],.sc,none⟩
 |104=>some ⟨1,8,[.p (.v .nilFunc)],.sc,none⟩
 |105=>some ⟨1,8,[.p (.v .nilFunc)],.sc,none⟩
 |106=>some ⟨1,8,[.p (.v .nilFunc)],.sc,none⟩
 |107=>some ⟨1,8,[.p (.v .nilFunc)],.sc,none⟩
 |108=>some ⟨1,8,[.p (.v .nilFunc)],.sc,none⟩
 |109=>some ⟨1,8,[.p (.v .nilFunc)],.sc,none⟩
 |110=>some ⟨1,8,[.p (.v .nilFunc)],.sc,none⟩
 |111=>some ⟨1,8,[.p (.v .nilFunc)],.sc,none⟩
 |112=>some ⟨1,8,[.p (.v .nilFunc)],.sc,none⟩
 |114=>some ⟨1,8,[.p (.v .nilFunc)],.sc,none⟩
 |116=>some ⟨1,8,[.p (.v .nilFunc)],.sc,none⟩
 |117=>some ⟨1,8,[.p (.v .nilFunc)],.sc,none⟩
 |118=>some ⟨1,8,[.p (.v .nilFunc)],.sc,none⟩
 |119=>some ⟨1,8,[.p (.v .nilFunc)],.sc,none⟩
 |121=>some ⟨6,56,[.p (.v (.int .i64 0)),.p (.v (.string ByteArray.empty)),.p (.v (.string ByteArray.empty)),.p (.v (.int .i64 0)),.p (.v (.bool false)),.p (.v (.bool false))],.struct [(0,3),(1,9),(2,9),(3,3),(4,4),(5,4)],some [.int .i64,.str,.str,.int .i64,.bool,.bool]⟩
 |123=>some ⟨1,8,[.p (.v .nilFunc)],.sc,none⟩
 |125=>some ⟨1,8,[.p (.v .nilFunc)],.sc,none⟩
 |126=>some ⟨1,8,[.p (.v .nilFunc)],.sc,none⟩
 |127=>some ⟨1,8,[.p (.v (.pointer none))],.sc,none⟩
 |128=>some ⟨1,8,[.p (.v .nilFunc)],.sc,none⟩
 |129=>some ⟨1,8,[.p (.v .nilFunc)],.sc,none⟩
 |131=>some ⟨1,8,[.p (.v .nilFunc)],.sc,none⟩
 |132=>some ⟨1,8,[.p (.v .nilFunc)],.sc,none⟩
 |133=>some ⟨1,8,[.p (.v .nilFunc)],.sc,none⟩
 |134=>some ⟨1,8,[.p (.v .nilFunc)],.sc,none⟩
 |135=>some ⟨1,8,[.p (.v .nilFunc)],.sc,none⟩
 |136=>some ⟨1,8,[.p (.v .nilFunc)],.sc,none⟩
 |137=>some ⟨1,8,[.p (.v .nilFunc)],.sc,none⟩
 |138=>some ⟨1,8,[.p (.v .nilFunc)],.sc,none⟩
 |139=>some ⟨1,8,[.p (.v .nilFunc)],.sc,none⟩
 |140=>some ⟨1,8,[.p (.v .nilFunc)],.sc,none⟩
 |141=>some ⟨1,8,[.p (.v .nilFunc)],.sc,none⟩
 |142=>some ⟨1,8,[.p (.v .nilFunc)],.sc,none⟩
 |143=>some ⟨1,8,[.p (.v .nilFunc)],.sc,none⟩
 |145=>some ⟨1,8,[.p (.v .nilFunc)],.sc,none⟩
 |146=>some ⟨1,8,[.p (.v .nilFunc)],.sc,none⟩
 |147=>some ⟨1,8,[.p (.v .nilFunc)],.sc,none⟩
 |148=>some ⟨1,8,[.p (.v .nilFunc)],.sc,none⟩
 |150=>some ⟨1,8,[.p (.v .nilFunc)],.sc,none⟩
 |151=>some ⟨1,8,[.p (.v .nilFunc)],.sc,none⟩
 |152=>some ⟨1,8,[.p (.v .nilFunc)],.sc,none⟩
 |153=>some ⟨1,8,[.p (.v .nilFunc)],.sc,none⟩
 |154=>some ⟨1,8,[.p (.v .nilFunc)],.sc,none⟩
 |155=>some ⟨1,24,[.nil 1],.slice 9,none⟩
 |156=>some ⟨1,8,[.p (.v .nilFunc)],.sc,none⟩
 |157=>some ⟨1,8,[.p (.v .nilFunc)],.sc,none⟩
 |158=>some ⟨1,8,[.p (.v .nilFunc)],.sc,none⟩
 |159=>some ⟨1,8,[.p (.v .nilFunc)],.sc,none⟩
 |160=>some ⟨1,8,[.p (.v .nilFunc)],.sc,none⟩
 |161=>some ⟨1,8,[.p (.v .nilFunc)],.sc,none⟩
 |162=>some ⟨1,8,[.p (.v .nilFunc)],.sc,none⟩
 |163=>some ⟨1,8,[.p (.v .nilFunc)],.sc,none⟩
 |164=>some ⟨1,24,[.nil 1],.slice 5,none⟩
 |165=>some ⟨1,8,[.p (.v .nilFunc)],.sc,none⟩
 |166=>some ⟨1,8,[.p (.v (.int .u64 0))],.int .u64,none⟩
 |168=>some ⟨1,8,[.p (.v .nilFunc)],.sc,none⟩
 |169=>some ⟨1,8,[.p (.v .nilFunc)],.sc,none⟩
 |170=>some ⟨1,8,[.p (.v (.pointer none))],.sc,none⟩
 |172=>some ⟨2,32,[.p (.v (.pointer none)),.nil 1],.struct [(0,170),(1,164)],none⟩
 |173=>some ⟨1,8,[.p (.v .nilFunc)],.sc,none⟩
 |177=>some ⟨1,8,[.p (.v .nilFunc)],.sc,none⟩
 |178=>some ⟨1,8,[.p (.v .nilFunc)],.sc,none⟩
 |179=>some ⟨1,8,[.p (.v .nilFunc)],.sc,none⟩
 |180=>some ⟨1,4,[.p (.v (.int .u32 0))],.int .u32,none⟩
 |182=>some ⟨1,8,[.p (.v .nilFunc)],.sc,none⟩
 |183=>some ⟨1,8,[.p (.v .nilFunc)],.sc,none⟩
 |184=>some ⟨1,8,[.p (.v .nilFunc)],.sc,none⟩
 |185=>some ⟨1,8,[.p (.v .nilFunc)],.sc,none⟩
 |186=>some ⟨1,8,[.p (.v (.int .u64 0))],.int .u64,none⟩
 |188=>some ⟨1,8,[.p (.v .nilFunc)],.sc,none⟩
 |189=>some ⟨1,8,[.p (.v (.pointer none))],.sc,none⟩
 |190=>some ⟨1,8,[.p (.v .nilFunc)],.sc,none⟩
 |191=>some ⟨1,8,[.p (.v .nilFunc)],.sc,none⟩
 |192=>some ⟨1,8,[.p (.v .nilFunc)],.sc,none⟩
 |193=>some ⟨24,24,[.p (.v (.int .u8 0)),.p (.v (.int .u8 0)),.p (.v (.int .u8 0)),.p (.v (.int .u8 0)),.p (.v (.int .u8 0)),.p (.v (.int .u8 0)),.p (.v (.int .u8 0)),.p (.v (.int .u8 0)),.p (.v (.int .u8 0)),.p (.v (.int .u8 0)),.p (.v (.int .u8 0)),.p (.v (.int .u8 0)),.p (.v (.int .u8 0)),.p (.v (.int .u8 0)),.p (.v (.int .u8 0)),.p (.v (.int .u8 0)),.p (.v (.int .u8 0)),.p (.v (.int .u8 0)),.p (.v (.int .u8 0)),.p (.v (.int .u8 0)),.p (.v (.int .u8 0)),.p (.v (.int .u8 0)),.p (.v (.int .u8 0)),.p (.v (.int .u8 0))],.array 24 5,none⟩
 |194=>some ⟨1,8,[.p (.v .nilFunc)],.sc,none⟩
 |195=>some ⟨1,8,[.p (.v .nilFunc)],.sc,none⟩
 |197=>some ⟨1,8,[.p (.v .nilFunc)],.sc,none⟩
 |199=>some ⟨1,8,[.p (.v .nilFunc)],.sc,none⟩
 |200=>some ⟨1,8,[.p (.v .nilFunc)],.sc,none⟩
 |201=>some ⟨1,8,[.p (.v .nilFunc)],.sc,none⟩
 |202=>some ⟨20,160,[.p (.v (.int .u64 0)),.p (.v (.int .u64 0)),.p (.v (.int .u64 0)),.p (.v (.int .u64 0)),.p (.v (.int .u64 0)),.p (.v (.int .u64 0)),.p (.v (.int .u64 0)),.p (.v (.int .u64 0)),.p (.v (.int .u64 0)),.p (.v (.int .u64 0)),.p (.v (.int .u64 0)),.p (.v (.int .u64 0)),.p (.v (.int .u64 0)),.p (.v (.int .u64 0)),.p (.v (.int .u64 0)),.p (.v (.int .u64 0)),.p (.v (.int .u64 0)),.p (.v (.int .u64 0)),.p (.v (.int .u64 0)),.p (.v (.int .u64 0))],.array 20 186,none⟩
 |204=>some ⟨1,8,[.p (.v .nilFunc)],.sc,none⟩
 |205=>some ⟨1,8,[.p (.v .nilFunc)],.sc,none⟩
 |206=>some ⟨32,32,[.p (.v (.int .u8 0)),.p (.v (.int .u8 0)),.p (.v (.int .u8 0)),.p (.v (.int .u8 0)),.p (.v (.int .u8 0)),.p (.v (.int .u8 0)),.p (.v (.int .u8 0)),.p (.v (.int .u8 0)),.p (.v (.int .u8 0)),.p (.v (.int .u8 0)),.p (.v (.int .u8 0)),.p (.v (.int .u8 0)),.p (.v (.int .u8 0)),.p (.v (.int .u8 0)),.p (.v (.int .u8 0)),.p (.v (.int .u8 0)),.p (.v (.int .u8 0)),.p (.v (.int .u8 0)),.p (.v (.int .u8 0)),.p (.v (.int .u8 0)),.p (.v (.int .u8 0)),.p (.v (.int .u8 0)),.p (.v (.int .u8 0)),.p (.v (.int .u8 0)),.p (.v (.int .u8 0)),.p (.v (.int .u8 0)),.p (.v (.int .u8 0)),.p (.v (.int .u8 0)),.p (.v (.int .u8 0)),.p (.v (.int .u8 0)),.p (.v (.int .u8 0)),.p (.v (.int .u8 0))],.array 32 5,none⟩
 |207=>some ⟨64,64,[.p (.v (.int .u8 0)),.p (.v (.int .u8 0)),.p (.v (.int .u8 0)),.p (.v (.int .u8 0)),.p (.v (.int .u8 0)),.p (.v (.int .u8 0)),.p (.v (.int .u8 0)),.p (.v (.int .u8 0)),.p (.v (.int .u8 0)),.p (.v (.int .u8 0)),.p (.v (.int .u8 0)),.p (.v (.int .u8 0)),.p (.v (.int .u8 0)),.p (.v (.int .u8 0)),.p (.v (.int .u8 0)),.p (.v (.int .u8 0)),.p (.v (.int .u8 0)),.p (.v (.int .u8 0)),.p (.v (.int .u8 0)),.p (.v (.int .u8 0)),.p (.v (.int .u8 0)),.p (.v (.int .u8 0)),.p (.v (.int .u8 0)),.p (.v (.int .u8 0)),.p (.v (.int .u8 0)),.p (.v (.int .u8 0)),.p (.v (.int .u8 0)),.p (.v (.int .u8 0)),.p (.v (.int .u8 0)),.p (.v (.int .u8 0)),.p (.v (.int .u8 0)),.p (.v (.int .u8 0)),.p (.v (.int .u8 0)),.p (.v (.int .u8 0)),.p (.v (.int .u8 0)),.p (.v (.int .u8 0)),.p (.v (.int .u8 0)),.p (.v (.int .u8 0)),.p (.v (.int .u8 0)),.p (.v (.int .u8 0)),.p (.v (.int .u8 0)),.p (.v (.int .u8 0)),.p (.v (.int .u8 0)),.p (.v (.int .u8 0)),.p (.v (.int .u8 0)),.p (.v (.int .u8 0)),.p (.v (.int .u8 0)),.p (.v (.int .u8 0)),.p (.v (.int .u8 0)),.p (.v (.int .u8 0)),.p (.v (.int .u8 0)),.p (.v (.int .u8 0)),.p (.v (.int .u8 0)),.p (.v (.int .u8 0)),.p (.v (.int .u8 0)),.p (.v (.int .u8 0)),.p (.v (.int .u8 0)),.p (.v (.int .u8 0)),.p (.v (.int .u8 0)),.p (.v (.int .u8 0)),.p (.v (.int .u8 0)),.p (.v (.int .u8 0)),.p (.v (.int .u8 0)),.p (.v (.int .u8 0))],.array 64 5,none⟩
 |210=>some ⟨0,0,[],.array 0 16,none⟩
 |215=>some ⟨1,8,[.p (.v .nilFunc)],.sc,none⟩
 |_=>none
@[simp] theorem Tryz.T1:Tryz.T 1=some ⟨1,8,[.p (.v .nilFunc)],.sc,none⟩:=rfl
@[simp] theorem Tryz.T2:Tryz.T 2=some ⟨1,8,[.p (.v (.int .i64 0))],.int .i64,none⟩:=rfl
@[simp] theorem Tryz.T3:Tryz.T 3=some ⟨1,8,[.p (.v (.int .i64 0))],.int .i64,none⟩:=rfl
@[simp] theorem Tryz.T4:Tryz.T 4=some ⟨1,1,[.p (.v (.bool false))],.bool,none⟩:=rfl
@[simp] theorem Tryz.T5:Tryz.T 5=some ⟨1,1,[.p (.v (.int .u8 0))],.int .u8,none⟩:=rfl
@[simp] theorem Tryz.T9:Tryz.T 9=some ⟨1,16,[.p (.v (.string ByteArray.empty))],.str,none⟩:=rfl
@[simp] theorem Tryz.T12:Tryz.T 12=some ⟨1,8,[.p (.v (.int .u64 0))],.int .u64,none⟩:=rfl
@[simp] theorem Tryz.T15:Tryz.T 15=some ⟨1,8,[.p (.v (.pointer none))],.sc,none⟩:=rfl
@[simp] theorem Tryz.T16:Tryz.T 16=some ⟨1,8,[.p (.v (.pointer none))],.sc,none⟩:=rfl
@[simp] theorem Tryz.T17:Tryz.T 17=some ⟨1,8,[.p (.v (.pointer none))],.sc,none⟩:=rfl
@[simp] theorem Tryz.T21:Tryz.T 21=some ⟨1,4,[.p (.v (.int .i32 0))],.int .i32,none⟩:=rfl
@[simp] theorem Tryz.T22:Tryz.T 22=some ⟨1,24,[.nil 5],.slice 65,none⟩:=rfl
@[simp] theorem Tryz.T23:Tryz.T 23=some ⟨1,24,[.nil 1],.slice 3,none⟩:=rfl
@[simp] theorem Tryz.T25:Tryz.T 25=some ⟨2,16,[.p (.v (.int .i64 0)),.p (.v (.int .i64 0))],.struct [(0,3),(1,3)],some [.int .i64,.int .i64]⟩:=rfl
@[simp] theorem Tryz.T26:Tryz.T 26=some ⟨1,24,[.nil 4],.slice 71,none⟩:=rfl
@[simp] theorem Tryz.T28:Tryz.T 28=some ⟨4,48,[.p (.v (.int .i64 0)),.p (.v (.int .i64 0)),.p (.v (.int .i64 0)),.nil 4],.struct [(0,25),(2,3),(3,26)],none⟩:=rfl
@[simp] theorem Tryz.T30:Tryz.T 30=some ⟨9,120,[.nil 5,.nil 1,.p (.v (.int .i64 0)),.p (.v (.int .i64 0)),.p (.v (.int .i64 0)),.p (.v (.int .i64 0)),.nil 4,.p (.v (.int .i64 0)),.p (.v (.int .i64 0))],.struct [(0,22),(1,23),(2,3),(3,28),(7,25)],none⟩:=rfl
@[simp] theorem Tryz.T31:Tryz.T 31=some ⟨1,24,[.nil 8],.slice 63,none⟩:=rfl
@[simp] theorem Tryz.T33:Tryz.T 33=some ⟨10,144,[.nil 5,.nil 1,.p (.v (.int .i64 0)),.p (.v (.int .i64 0)),.p (.v (.int .i64 0)),.p (.v (.int .i64 0)),.nil 4,.p (.v (.int .i64 0)),.p (.v (.int .i64 0)),.nil 8],.struct [(0,30),(9,31)],none⟩:=rfl
@[simp] theorem Tryz.T34:Tryz.T 34=some ⟨1,24,[.nil 8],.slice 54,none⟩:=rfl
@[simp] theorem Tryz.T36:Tryz.T 36=some ⟨14,192,[.nil 5,.nil 1,.p (.v (.int .i64 0)),.p (.v (.int .i64 0)),.p (.v (.int .i64 0)),.p (.v (.int .i64 0)),.nil 4,.p (.v (.int .i64 0)),.p (.v (.int .i64 0)),.nil 8,.p (.v (.int .i64 0)),.p (.v (.int .i64 0)),.p (.v (.int .i64 0)),.nil 8],.struct [(0,33),(10,25),(12,3),(13,34)],none⟩:=rfl
@[simp] theorem Tryz.T37:Tryz.T 37=some ⟨1,24,[.nil 6],.slice 121,none⟩:=rfl
@[simp] theorem Tryz.T39:Tryz.T 39=some ⟨3,56,[.p (.v (.int .i64 0)),.nil 4,.nil 1],.struct [(0,3),(1,26),(2,23)],none⟩:=rfl
@[simp] theorem Tryz.T41:Tryz.T 41=some ⟨9,120,[.p (.v (.int .i64 0)),.p (.v (.int .i64 0)),.p (.v (.int .i64 0)),.nil 6,.p (.v (.int .i64 0)),.nil 4,.nil 1,.p (.v (.int .i64 0)),.p (.v (.int .i64 0))],.struct [(0,3),(1,3),(2,3),(3,37),(4,39),(7,25)],none⟩:=rfl
@[simp] theorem Tryz.T42:Tryz.T 42=some ⟨1,8,[.p (.v .nilFunc)],.sc,none⟩:=rfl
@[simp] theorem Tryz.T43:Tryz.T 43=some ⟨1,8,[.p (.v .nilFunc)],.sc,none⟩:=rfl
@[simp] theorem Tryz.T44:Tryz.T 44=some ⟨1,8,[.p (.v .nilFunc)],.sc,none⟩:=rfl
@[simp] theorem Tryz.T45:Tryz.T 45=some ⟨1,8,[.p (.v (.int .i64 0))],.int .i64,none⟩:=rfl
@[simp] theorem Tryz.T47:Tryz.T 47=some ⟨1,8,[.p (.v .nilFunc)],.sc,none⟩:=rfl
@[simp] theorem Tryz.T48:Tryz.T 48=some ⟨1,8,[.p (.v .nilFunc)],.sc,none⟩:=rfl
@[simp] theorem Tryz.T49:Tryz.T 49=some ⟨1,8,[.p (.v .nilFunc)],.sc,none⟩:=rfl
@[simp] theorem Tryz.T50:Tryz.T 50=some ⟨1,8,[.p (.v .nilFunc)],.sc,none⟩:=rfl
@[simp] theorem Tryz.T51:Tryz.T 51=some ⟨1,8,[.p (.v .nilFunc)],.sc,none⟩:=rfl
@[simp] theorem Tryz.T52:Tryz.T 52=some ⟨1,24,[.nil 2],.slice 25,none⟩:=rfl
@[simp] theorem Tryz.T54:Tryz.T 54=some ⟨8,80,[.p (.v (.int .i64 0)),.p (.v (.int .i64 0)),.p (.v (.int .i64 0)),.p (.v (.int .i64 0)),.nil 2,.p (.v (.int .i64 0)),.p (.v (.int .i64 0)),.p (.v (.int .i64 0))],.struct [(0,3),(1,3),(2,3),(3,3),(4,52),(5,25),(7,3)],none⟩:=rfl
@[simp] theorem Tryz.T55:Tryz.T 55=some ⟨1,8,[.p (.v .nilFunc)],.sc,none⟩:=rfl
@[simp] theorem Tryz.T56:Tryz.T 56=some ⟨1,8,[.p (.v .nilFunc)],.sc,none⟩:=rfl
@[simp] theorem Tryz.T57:Tryz.T 57=some ⟨1,24,[.nil 4],.slice 28,none⟩:=rfl
@[simp] theorem Tryz.T58:Tryz.T 58=some ⟨1,8,[.p (.v .nilFunc)],.sc,none⟩:=rfl
@[simp] theorem Tryz.T59:Tryz.T 59=some ⟨1,8,[.p (.v .nilFunc)],.sc,none⟩:=rfl
@[simp] theorem Tryz.T60:Tryz.T 60=some ⟨1,8,[.p (.v .nilFunc)],.sc,none⟩:=rfl
@[simp] theorem Tryz.T61:Tryz.T 61=some ⟨1,24,[.nil 11],.slice 67,none⟩:=rfl
@[simp] theorem Tryz.T63:Tryz.T 63=some ⟨8,88,[.p (.v (.int .i64 0)),.p (.v (.int .i64 0)),.p (.v (.int .i64 0)),.p (.v (.int .i64 0)),.p (.v (.int .i64 0)),.p (.v (.int .i64 0)),.p (.v (.string ByteArray.empty)),.p (.v (.slice none 0 0))],.struct [(0,25),(2,3),(3,3),(4,45),(5,3),(6,9),(7,61)],none⟩:=rfl
@[simp] theorem Tryz.T65:Tryz.T 65=some ⟨5,56,[.p (.v (.string ByteArray.empty)),.p (.v (.string ByteArray.empty)),.p (.v (.int .i64 0)),.p (.v (.int .i64 0)),.p (.v (.int .i64 0))],.struct [(0,9),(1,9),(2,3),(3,3),(4,3)],some [.str,.str,.int .i64,.int .i64,.int .i64]⟩:=rfl
@[simp] theorem Tryz.T67:Tryz.T 67=some ⟨11,120,[.p (.v (.int .i64 0)),.p (.v (.string ByteArray.empty)),.p (.v (.string ByteArray.empty)),.p (.v (.int .i64 0)),.p (.v (.int .i64 0)),.p (.v (.int .i64 0)),.p (.v (.int .i64 0)),.p (.v (.int .i64 0)),.p (.v (.int .i64 0)),.p (.v (.int .i64 0)),.nil 4],.struct [(0,3),(1,65),(6,3),(7,28)],none⟩:=rfl
@[simp] theorem Tryz.T68:Tryz.T 68=some ⟨1,8,[.p (.v .nilFunc)],.sc,none⟩:=rfl
@[simp] theorem Tryz.T69:Tryz.T 69=some ⟨1,8,[.p (.v .nilFunc)],.sc,none⟩:=rfl
@[simp] theorem Tryz.T71:Tryz.T 71=some ⟨4,32,[.p (.v (.int .i64 0)),.p (.v (.int .i64 0)),.p (.v (.int .i64 0)),.p (.v (.int .i64 0))],.struct [(0,3),(1,3),(2,3),(3,3)],some [.int .i64,.int .i64,.int .i64,.int .i64]⟩:=rfl
@[simp] theorem Tryz.T72:Tryz.T 72=some ⟨1,8,[.p (.v .nilFunc)],.sc,none⟩:=rfl
@[simp] theorem Tryz.T73:Tryz.T 73=some ⟨1,8,[.p (.v .nilFunc)],.sc,none⟩:=rfl
@[simp] theorem Tryz.T74:Tryz.T 74=some ⟨1,8,[.p (.v .nilFunc)],.sc,none⟩:=rfl
@[simp] theorem Tryz.T75:Tryz.T 75=some ⟨1,8,[.p (.v .nilFunc)],.sc,none⟩:=rfl
@[simp] theorem Tryz.T77:Tryz.T 77=some ⟨1,8,[.p (.v .nilFunc)],.sc,none⟩:=rfl
@[simp] theorem Tryz.T78:Tryz.T 78=some ⟨1,8,[.p (.v .nilFunc)],.sc,none⟩:=rfl
@[simp] theorem Tryz.T79:Tryz.T 79=some ⟨1,8,[.p (.v .nilFunc)],.sc,none⟩:=rfl
@[simp] theorem Tryz.T80:Tryz.T 80=some ⟨1,8,[.p (.v .nilFunc)],.sc,none⟩:=rfl
@[simp] theorem Tryz.T81:Tryz.T 81=some ⟨1,8,[.p (.v .nilFunc)],.sc,none⟩:=rfl
@[simp] theorem Tryz.T82:Tryz.T 82=some ⟨1,8,[.p (.v .nilFunc)],.sc,none⟩:=rfl
@[simp] theorem Tryz.T83:Tryz.T 83=some ⟨1,8,[.p (.v .nilFunc)],.sc,none⟩:=rfl
@[simp] theorem Tryz.T84:Tryz.T 84=some ⟨1,8,[.p (.v .nilFunc)],.sc,none⟩:=rfl
@[simp] theorem Tryz.T85:Tryz.T 85=some ⟨1,8,[.p (.v .nilFunc)],.sc,none⟩:=rfl
@[simp] theorem Tryz.T87:Tryz.T 87=some ⟨1,8,[.p (.v .nilFunc)],.sc,none⟩:=rfl
@[simp] theorem Tryz.T88:Tryz.T 88=some ⟨1,8,[.p (.v .nilFunc)],.sc,none⟩:=rfl
@[simp] theorem Tryz.T90:Tryz.T 90=some ⟨1,8,[.p (.v .nilFunc)],.sc,none⟩:=rfl
@[simp] theorem Tryz.T91:Tryz.T 91=some ⟨1,8,[.p (.v .nilFunc)],.sc,none⟩:=rfl
@[simp] theorem Tryz.T92:Tryz.T 92=some ⟨8,64,[.p (.v (.int .i64 0)),.p (.v (.int .i64 0)),.p (.v (.int .i64 0)),.p (.v (.int .i64 0)),.p (.v (.int .i64 0)),.p (.v (.int .i64 0)),.p (.v (.int .i64 0)),.p (.v (.int .i64 0))],.array 8 3,none⟩:=rfl
@[simp] theorem Tryz.T93:Tryz.T 93=some ⟨1,8,[.p (.v .nilFunc)],.sc,none⟩:=rfl
@[simp] theorem Tryz.T94:Tryz.T 94=some ⟨1,8,[.p (.v .nilFunc)],.sc,none⟩:=rfl
@[simp] theorem Tryz.T95:Tryz.T 95=some ⟨1,8,[.p (.v .nilFunc)],.sc,none⟩:=rfl
@[simp] theorem Tryz.T96:Tryz.T 96=some ⟨1,8,[.p (.v .nilFunc)],.sc,none⟩:=rfl
@[simp] theorem Tryz.T97:Tryz.T 97=some ⟨1,8,[.p (.v .nilFunc)],.sc,none⟩:=rfl
@[simp] theorem Tryz.T98:Tryz.T 98=some ⟨1,8,[.p (.v .nilFunc)],.sc,none⟩:=rfl
@[simp] theorem Tryz.T99:Tryz.T 99=some ⟨1,8,[.p (.v .nilFunc)],.sc,none⟩:=rfl
@[simp] theorem Tryz.T100:Tryz.T 100=some ⟨1,8,[.p (.v .nilFunc)],.sc,none⟩:=rfl
@[simp] theorem Tryz.T101:Tryz.T 101=some ⟨1,8,[.p (.v .nilFunc)],.sc,none⟩:=rfl
@[simp] theorem Tryz.T102:Tryz.T 102=some ⟨1,8,[.p (.v .nilFunc)],.sc,none⟩:=rfl
@[simp] theorem Tryz.T103:Tryz.T 103=some ⟨1,8,[.p (.v .nilFunc)],.sc,none⟩:=rfl
@[simp] theorem Tryz.T104:Tryz.T 104=some ⟨1,8,[.p (.v .nilFunc)],.sc,none⟩:=rfl
@[simp] theorem Tryz.T105:Tryz.T 105=some ⟨1,8,[.p (.v .nilFunc)],.sc,none⟩:=rfl
@[simp] theorem Tryz.T106:Tryz.T 106=some ⟨1,8,[.p (.v .nilFunc)],.sc,none⟩:=rfl
@[simp] theorem Tryz.T107:Tryz.T 107=some ⟨1,8,[.p (.v .nilFunc)],.sc,none⟩:=rfl
@[simp] theorem Tryz.T108:Tryz.T 108=some ⟨1,8,[.p (.v .nilFunc)],.sc,none⟩:=rfl
@[simp] theorem Tryz.T109:Tryz.T 109=some ⟨1,8,[.p (.v .nilFunc)],.sc,none⟩:=rfl
@[simp] theorem Tryz.T110:Tryz.T 110=some ⟨1,8,[.p (.v .nilFunc)],.sc,none⟩:=rfl
@[simp] theorem Tryz.T111:Tryz.T 111=some ⟨1,8,[.p (.v .nilFunc)],.sc,none⟩:=rfl
@[simp] theorem Tryz.T112:Tryz.T 112=some ⟨1,8,[.p (.v .nilFunc)],.sc,none⟩:=rfl
@[simp] theorem Tryz.T114:Tryz.T 114=some ⟨1,8,[.p (.v .nilFunc)],.sc,none⟩:=rfl
@[simp] theorem Tryz.T116:Tryz.T 116=some ⟨1,8,[.p (.v .nilFunc)],.sc,none⟩:=rfl
@[simp] theorem Tryz.T117:Tryz.T 117=some ⟨1,8,[.p (.v .nilFunc)],.sc,none⟩:=rfl
@[simp] theorem Tryz.T118:Tryz.T 118=some ⟨1,8,[.p (.v .nilFunc)],.sc,none⟩:=rfl
@[simp] theorem Tryz.T119:Tryz.T 119=some ⟨1,8,[.p (.v .nilFunc)],.sc,none⟩:=rfl
@[simp] theorem Tryz.T121:Tryz.T 121=some ⟨6,56,[.p (.v (.int .i64 0)),.p (.v (.string ByteArray.empty)),.p (.v (.string ByteArray.empty)),.p (.v (.int .i64 0)),.p (.v (.bool false)),.p (.v (.bool false))],.struct [(0,3),(1,9),(2,9),(3,3),(4,4),(5,4)],some [.int .i64,.str,.str,.int .i64,.bool,.bool]⟩:=rfl
@[simp] theorem Tryz.T123:Tryz.T 123=some ⟨1,8,[.p (.v .nilFunc)],.sc,none⟩:=rfl
@[simp] theorem Tryz.T125:Tryz.T 125=some ⟨1,8,[.p (.v .nilFunc)],.sc,none⟩:=rfl
@[simp] theorem Tryz.T126:Tryz.T 126=some ⟨1,8,[.p (.v .nilFunc)],.sc,none⟩:=rfl
@[simp] theorem Tryz.T127:Tryz.T 127=some ⟨1,8,[.p (.v (.pointer none))],.sc,none⟩:=rfl
@[simp] theorem Tryz.T128:Tryz.T 128=some ⟨1,8,[.p (.v .nilFunc)],.sc,none⟩:=rfl
@[simp] theorem Tryz.T129:Tryz.T 129=some ⟨1,8,[.p (.v .nilFunc)],.sc,none⟩:=rfl
@[simp] theorem Tryz.T131:Tryz.T 131=some ⟨1,8,[.p (.v .nilFunc)],.sc,none⟩:=rfl
@[simp] theorem Tryz.T132:Tryz.T 132=some ⟨1,8,[.p (.v .nilFunc)],.sc,none⟩:=rfl
@[simp] theorem Tryz.T133:Tryz.T 133=some ⟨1,8,[.p (.v .nilFunc)],.sc,none⟩:=rfl
@[simp] theorem Tryz.T134:Tryz.T 134=some ⟨1,8,[.p (.v .nilFunc)],.sc,none⟩:=rfl
@[simp] theorem Tryz.T135:Tryz.T 135=some ⟨1,8,[.p (.v .nilFunc)],.sc,none⟩:=rfl
@[simp] theorem Tryz.T136:Tryz.T 136=some ⟨1,8,[.p (.v .nilFunc)],.sc,none⟩:=rfl
@[simp] theorem Tryz.T137:Tryz.T 137=some ⟨1,8,[.p (.v .nilFunc)],.sc,none⟩:=rfl
@[simp] theorem Tryz.T138:Tryz.T 138=some ⟨1,8,[.p (.v .nilFunc)],.sc,none⟩:=rfl
@[simp] theorem Tryz.T139:Tryz.T 139=some ⟨1,8,[.p (.v .nilFunc)],.sc,none⟩:=rfl
@[simp] theorem Tryz.T140:Tryz.T 140=some ⟨1,8,[.p (.v .nilFunc)],.sc,none⟩:=rfl
@[simp] theorem Tryz.T141:Tryz.T 141=some ⟨1,8,[.p (.v .nilFunc)],.sc,none⟩:=rfl
@[simp] theorem Tryz.T142:Tryz.T 142=some ⟨1,8,[.p (.v .nilFunc)],.sc,none⟩:=rfl
@[simp] theorem Tryz.T143:Tryz.T 143=some ⟨1,8,[.p (.v .nilFunc)],.sc,none⟩:=rfl
@[simp] theorem Tryz.T145:Tryz.T 145=some ⟨1,8,[.p (.v .nilFunc)],.sc,none⟩:=rfl
@[simp] theorem Tryz.T146:Tryz.T 146=some ⟨1,8,[.p (.v .nilFunc)],.sc,none⟩:=rfl
@[simp] theorem Tryz.T147:Tryz.T 147=some ⟨1,8,[.p (.v .nilFunc)],.sc,none⟩:=rfl
@[simp] theorem Tryz.T148:Tryz.T 148=some ⟨1,8,[.p (.v .nilFunc)],.sc,none⟩:=rfl
@[simp] theorem Tryz.T150:Tryz.T 150=some ⟨1,8,[.p (.v .nilFunc)],.sc,none⟩:=rfl
@[simp] theorem Tryz.T151:Tryz.T 151=some ⟨1,8,[.p (.v .nilFunc)],.sc,none⟩:=rfl
@[simp] theorem Tryz.T152:Tryz.T 152=some ⟨1,8,[.p (.v .nilFunc)],.sc,none⟩:=rfl
@[simp] theorem Tryz.T153:Tryz.T 153=some ⟨1,8,[.p (.v .nilFunc)],.sc,none⟩:=rfl
@[simp] theorem Tryz.T154:Tryz.T 154=some ⟨1,8,[.p (.v .nilFunc)],.sc,none⟩:=rfl
@[simp] theorem Tryz.T155:Tryz.T 155=some ⟨1,24,[.nil 1],.slice 9,none⟩:=rfl
@[simp] theorem Tryz.T156:Tryz.T 156=some ⟨1,8,[.p (.v .nilFunc)],.sc,none⟩:=rfl
@[simp] theorem Tryz.T157:Tryz.T 157=some ⟨1,8,[.p (.v .nilFunc)],.sc,none⟩:=rfl
@[simp] theorem Tryz.T158:Tryz.T 158=some ⟨1,8,[.p (.v .nilFunc)],.sc,none⟩:=rfl
@[simp] theorem Tryz.T159:Tryz.T 159=some ⟨1,8,[.p (.v .nilFunc)],.sc,none⟩:=rfl
@[simp] theorem Tryz.T160:Tryz.T 160=some ⟨1,8,[.p (.v .nilFunc)],.sc,none⟩:=rfl
@[simp] theorem Tryz.T161:Tryz.T 161=some ⟨1,8,[.p (.v .nilFunc)],.sc,none⟩:=rfl
@[simp] theorem Tryz.T162:Tryz.T 162=some ⟨1,8,[.p (.v .nilFunc)],.sc,none⟩:=rfl
@[simp] theorem Tryz.T163:Tryz.T 163=some ⟨1,8,[.p (.v .nilFunc)],.sc,none⟩:=rfl
@[simp] theorem Tryz.T164:Tryz.T 164=some ⟨1,24,[.nil 1],.slice 5,none⟩:=rfl
@[simp] theorem Tryz.T165:Tryz.T 165=some ⟨1,8,[.p (.v .nilFunc)],.sc,none⟩:=rfl
@[simp] theorem Tryz.T166:Tryz.T 166=some ⟨1,8,[.p (.v (.int .u64 0))],.int .u64,none⟩:=rfl
@[simp] theorem Tryz.T168:Tryz.T 168=some ⟨1,8,[.p (.v .nilFunc)],.sc,none⟩:=rfl
@[simp] theorem Tryz.T169:Tryz.T 169=some ⟨1,8,[.p (.v .nilFunc)],.sc,none⟩:=rfl
@[simp] theorem Tryz.T170:Tryz.T 170=some ⟨1,8,[.p (.v (.pointer none))],.sc,none⟩:=rfl
@[simp] theorem Tryz.T172:Tryz.T 172=some ⟨2,32,[.p (.v (.pointer none)),.nil 1],.struct [(0,170),(1,164)],none⟩:=rfl
@[simp] theorem Tryz.T173:Tryz.T 173=some ⟨1,8,[.p (.v .nilFunc)],.sc,none⟩:=rfl
@[simp] theorem Tryz.T177:Tryz.T 177=some ⟨1,8,[.p (.v .nilFunc)],.sc,none⟩:=rfl
@[simp] theorem Tryz.T178:Tryz.T 178=some ⟨1,8,[.p (.v .nilFunc)],.sc,none⟩:=rfl
@[simp] theorem Tryz.T179:Tryz.T 179=some ⟨1,8,[.p (.v .nilFunc)],.sc,none⟩:=rfl
@[simp] theorem Tryz.T180:Tryz.T 180=some ⟨1,4,[.p (.v (.int .u32 0))],.int .u32,none⟩:=rfl
@[simp] theorem Tryz.T182:Tryz.T 182=some ⟨1,8,[.p (.v .nilFunc)],.sc,none⟩:=rfl
@[simp] theorem Tryz.T183:Tryz.T 183=some ⟨1,8,[.p (.v .nilFunc)],.sc,none⟩:=rfl
@[simp] theorem Tryz.T184:Tryz.T 184=some ⟨1,8,[.p (.v .nilFunc)],.sc,none⟩:=rfl
@[simp] theorem Tryz.T185:Tryz.T 185=some ⟨1,8,[.p (.v .nilFunc)],.sc,none⟩:=rfl
@[simp] theorem Tryz.T186:Tryz.T 186=some ⟨1,8,[.p (.v (.int .u64 0))],.int .u64,none⟩:=rfl
@[simp] theorem Tryz.T188:Tryz.T 188=some ⟨1,8,[.p (.v .nilFunc)],.sc,none⟩:=rfl
@[simp] theorem Tryz.T189:Tryz.T 189=some ⟨1,8,[.p (.v (.pointer none))],.sc,none⟩:=rfl
@[simp] theorem Tryz.T190:Tryz.T 190=some ⟨1,8,[.p (.v .nilFunc)],.sc,none⟩:=rfl
@[simp] theorem Tryz.T191:Tryz.T 191=some ⟨1,8,[.p (.v .nilFunc)],.sc,none⟩:=rfl
@[simp] theorem Tryz.T192:Tryz.T 192=some ⟨1,8,[.p (.v .nilFunc)],.sc,none⟩:=rfl
@[simp] theorem Tryz.T193:Tryz.T 193=some ⟨24,24,[.p (.v (.int .u8 0)),.p (.v (.int .u8 0)),.p (.v (.int .u8 0)),.p (.v (.int .u8 0)),.p (.v (.int .u8 0)),.p (.v (.int .u8 0)),.p (.v (.int .u8 0)),.p (.v (.int .u8 0)),.p (.v (.int .u8 0)),.p (.v (.int .u8 0)),.p (.v (.int .u8 0)),.p (.v (.int .u8 0)),.p (.v (.int .u8 0)),.p (.v (.int .u8 0)),.p (.v (.int .u8 0)),.p (.v (.int .u8 0)),.p (.v (.int .u8 0)),.p (.v (.int .u8 0)),.p (.v (.int .u8 0)),.p (.v (.int .u8 0)),.p (.v (.int .u8 0)),.p (.v (.int .u8 0)),.p (.v (.int .u8 0)),.p (.v (.int .u8 0))],.array 24 5,none⟩:=rfl
@[simp] theorem Tryz.T194:Tryz.T 194=some ⟨1,8,[.p (.v .nilFunc)],.sc,none⟩:=rfl
@[simp] theorem Tryz.T195:Tryz.T 195=some ⟨1,8,[.p (.v .nilFunc)],.sc,none⟩:=rfl
@[simp] theorem Tryz.T197:Tryz.T 197=some ⟨1,8,[.p (.v .nilFunc)],.sc,none⟩:=rfl
@[simp] theorem Tryz.T199:Tryz.T 199=some ⟨1,8,[.p (.v .nilFunc)],.sc,none⟩:=rfl
@[simp] theorem Tryz.T200:Tryz.T 200=some ⟨1,8,[.p (.v .nilFunc)],.sc,none⟩:=rfl
@[simp] theorem Tryz.T201:Tryz.T 201=some ⟨1,8,[.p (.v .nilFunc)],.sc,none⟩:=rfl
@[simp] theorem Tryz.T202:Tryz.T 202=some ⟨20,160,[.p (.v (.int .u64 0)),.p (.v (.int .u64 0)),.p (.v (.int .u64 0)),.p (.v (.int .u64 0)),.p (.v (.int .u64 0)),.p (.v (.int .u64 0)),.p (.v (.int .u64 0)),.p (.v (.int .u64 0)),.p (.v (.int .u64 0)),.p (.v (.int .u64 0)),.p (.v (.int .u64 0)),.p (.v (.int .u64 0)),.p (.v (.int .u64 0)),.p (.v (.int .u64 0)),.p (.v (.int .u64 0)),.p (.v (.int .u64 0)),.p (.v (.int .u64 0)),.p (.v (.int .u64 0)),.p (.v (.int .u64 0)),.p (.v (.int .u64 0))],.array 20 186,none⟩:=rfl
@[simp] theorem Tryz.T204:Tryz.T 204=some ⟨1,8,[.p (.v .nilFunc)],.sc,none⟩:=rfl
@[simp] theorem Tryz.T205:Tryz.T 205=some ⟨1,8,[.p (.v .nilFunc)],.sc,none⟩:=rfl
@[simp] theorem Tryz.T206:Tryz.T 206=some ⟨32,32,[.p (.v (.int .u8 0)),.p (.v (.int .u8 0)),.p (.v (.int .u8 0)),.p (.v (.int .u8 0)),.p (.v (.int .u8 0)),.p (.v (.int .u8 0)),.p (.v (.int .u8 0)),.p (.v (.int .u8 0)),.p (.v (.int .u8 0)),.p (.v (.int .u8 0)),.p (.v (.int .u8 0)),.p (.v (.int .u8 0)),.p (.v (.int .u8 0)),.p (.v (.int .u8 0)),.p (.v (.int .u8 0)),.p (.v (.int .u8 0)),.p (.v (.int .u8 0)),.p (.v (.int .u8 0)),.p (.v (.int .u8 0)),.p (.v (.int .u8 0)),.p (.v (.int .u8 0)),.p (.v (.int .u8 0)),.p (.v (.int .u8 0)),.p (.v (.int .u8 0)),.p (.v (.int .u8 0)),.p (.v (.int .u8 0)),.p (.v (.int .u8 0)),.p (.v (.int .u8 0)),.p (.v (.int .u8 0)),.p (.v (.int .u8 0)),.p (.v (.int .u8 0)),.p (.v (.int .u8 0))],.array 32 5,none⟩:=rfl
@[simp] theorem Tryz.T207:Tryz.T 207=some ⟨64,64,[.p (.v (.int .u8 0)),.p (.v (.int .u8 0)),.p (.v (.int .u8 0)),.p (.v (.int .u8 0)),.p (.v (.int .u8 0)),.p (.v (.int .u8 0)),.p (.v (.int .u8 0)),.p (.v (.int .u8 0)),.p (.v (.int .u8 0)),.p (.v (.int .u8 0)),.p (.v (.int .u8 0)),.p (.v (.int .u8 0)),.p (.v (.int .u8 0)),.p (.v (.int .u8 0)),.p (.v (.int .u8 0)),.p (.v (.int .u8 0)),.p (.v (.int .u8 0)),.p (.v (.int .u8 0)),.p (.v (.int .u8 0)),.p (.v (.int .u8 0)),.p (.v (.int .u8 0)),.p (.v (.int .u8 0)),.p (.v (.int .u8 0)),.p (.v (.int .u8 0)),.p (.v (.int .u8 0)),.p (.v (.int .u8 0)),.p (.v (.int .u8 0)),.p (.v (.int .u8 0)),.p (.v (.int .u8 0)),.p (.v (.int .u8 0)),.p (.v (.int .u8 0)),.p (.v (.int .u8 0)),.p (.v (.int .u8 0)),.p (.v (.int .u8 0)),.p (.v (.int .u8 0)),.p (.v (.int .u8 0)),.p (.v (.int .u8 0)),.p (.v (.int .u8 0)),.p (.v (.int .u8 0)),.p (.v (.int .u8 0)),.p (.v (.int .u8 0)),.p (.v (.int .u8 0)),.p (.v (.int .u8 0)),.p (.v (.int .u8 0)),.p (.v (.int .u8 0)),.p (.v (.int .u8 0)),.p (.v (.int .u8 0)),.p (.v (.int .u8 0)),.p (.v (.int .u8 0)),.p (.v (.int .u8 0)),.p (.v (.int .u8 0)),.p (.v (.int .u8 0)),.p (.v (.int .u8 0)),.p (.v (.int .u8 0)),.p (.v (.int .u8 0)),.p (.v (.int .u8 0)),.p (.v (.int .u8 0)),.p (.v (.int .u8 0)),.p (.v (.int .u8 0)),.p (.v (.int .u8 0)),.p (.v (.int .u8 0)),.p (.v (.int .u8 0)),.p (.v (.int .u8 0)),.p (.v (.int .u8 0))],.array 64 5,none⟩:=rfl
@[simp] theorem Tryz.T210:Tryz.T 210=some ⟨0,0,[],.array 0 16,none⟩:=rfl
@[simp] theorem Tryz.T215:Tryz.T 215=some ⟨1,8,[.p (.v .nilFunc)],.sc,none⟩:=rfl
def Tryz.zOf (y:Ty):Value :=
 let vs:List Value:=y.zero.map fun | .p (.v v)=>v|_=>.slice none 0 0
 if y.kd.isAgg then .agg vs.toArray else vs.headD (.slice none 0 0)
abbrev Tryz.tyZ {t:TypeId}{y:Ty} := @TyOK.of Tryz.prog t y (Tryz.zOf y)
set_option maxRecDepth 100000 in
set_option maxHeartbeats 40000000 in
theorem Tryz.tab:yY Tryz.prog Tryz.T:=by
 intro t y h
 unfold Tryz.T at h
 split at h
 all_goals first|(simp at h;done)|(obtain rfl:=Option.some.inj h)
 all_goals first|exact Tryz.ty25|exact Tryz.ty65|exact Tryz.ty71|exact Tryz.ty121|(refine Tryz.tyZ (by kernel_rfl) rfl (by first|rfl|decide|(simp[Tryz.zOf,Kd.isAgg,Value.cells,zval,scal])) rfl (by first|exact rfl|kernel_rfl|exact wM (by kernel_rfl)|exact scOf_spec (by kernel_rfl)) (by intro cs h;first|rfl|(simp[Tryz.zOf,Kd.isAgg] at h)) (by intro ks h;simp at h))
theorem Tryz.mixed:Tryz.prog.follows .mixedOrders=true:=by kernel_rfl
end Go.Proofs.YtpihbhacmokekaaGreatDoor
