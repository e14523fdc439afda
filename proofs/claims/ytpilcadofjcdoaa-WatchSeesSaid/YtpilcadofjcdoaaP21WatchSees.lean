/- Texts that the proof needs: IX XC QLib WS QA ZC ZA XL XM Ext PA. -/
import Derived.Test.YtpilcadofjcdoaaP12WatchSees
import Derived.Test.YtpilcadofjcdoaaP20WatchSees
import Derived.Test.YtpilcadofjcdoaaP13WatchSees
import Derived.WalkKit
import Derived.Deep.RegionLaw
import Derived.Test.YtpilcadofjcdoaaP19WatchSees
import Derived.Test.YtpilcadofjcdoaaP15WatchSees
import Derived.Test.YtpilcadofjcdoaaP18WatchSees
import Derived.Test.YtpilcadofjcdoaaP17WatchSees
import Derived.Test.YtpilcadofjcdoaaP16WatchSees
namespace Go.Proofs.Ytpilcadofjcdoaa
set_option linter.unusedSimpArgs false
set_option linter.unusedVariables false
open Go Go.Av Go.Lib Go.RowKit
theorem wp_copy_eq (w : World) {o : Oper} {a : Act} {K : Act -> World -> Prop} {Q : Exit -> Act -> World -> Prop} (d s : Operand) (t t' : TypeId) {P : Program}
 (ho : o.op = .call { callee:=.builtin .copy,args:=#[d,s],argTypes:=#[t,t'] }) {v u : Value} (hd : a.eval d = v) (hs : a.eval s = u) {v' : Value} {w' : World}
 (hr : (Builtin.copy_ #[t,t'] o.type #[v,u]).run P w = .ok v' w') (h : K (a.put o.dst v') w') : o.wp P a w K Q:=by
 unfold Oper.wp execOp
 simp only [ho,resolve,invoke,builtin,Sem.run_bind,Sem.run_pure,Result.andThen_ok,List.map_toArray,wJ,wI,hd,hs,hr]
 exact h
theorem wpList_copy_eq {P : Program} (w : World) {ops : Array Oper} {rest : List Oper} {o : Oper} {a : Act} {Q : Exit -> Act -> World -> Prop} (hgd : o.guard = none) (d s : Operand) (t t' : TypeId)
 (ho : o.op = .call { callee:=.builtin .copy,args:=#[d,s],argTypes:=#[t,t'] }) {v u : Value} (hd : a.eval d = v) (hs : a.eval s = u) {v' : Value} {w' : World}
 (hr : (Builtin.copy_ #[t,t'] o.type #[v,u]).run P w = .ok v' w') (h : wpList P ops Q rest (a.put o.dst v') w') : wpList P ops Q (o :: rest) a w :=
 wpList_plain hgd fun _ hK=>wp_copy_eq w d s t t' ho hd hs hr (hK _ _ h)
theorem step_copy_eq {P : Program} {ops : Array Oper} {o : Oper} {a : Act} {w : World} {K : Act -> World -> Prop} {Q : Exit -> Act -> World -> Prop} {E : Prop}
 (hg : o.guard = none) (d x : Operand) (dT sT : TypeId) (hop : o.op = Op.call { callee:=Callee.builtin Builtin.copy,args:=#[d,x],argTypes:=#[dT,sT] })
 (v u : Value) (hd : a.eval d = v) (hx : a.eval x = u) {v' : Value} {w' : World} (hr : (Builtin.copy_ #[dT,sT] o.type #[v,u]).run P w = .ok v' w') (hK : K (a.put o.dst v') w') :
 if Region.wanted o (yielded ops a.tmps) = true then Oper.wp P o a w K Q else E:=by
 have hw : Region.wanted o (yielded ops a.tmps) = true:=by simp [Region.wanted,hg]
 rw [if_pos hw]
 exact wp_copy_eq w d x dT sT hop hd hx hr hK
end Go.Proofs.Ytpilcadofjcdoaa
namespace Go.Proofs.Ytpilcadofjcdoaa
set_option linter.unusedSimpArgs false
set_option linter.unusedVariables false
open Go Go.Av
attribute [local irreducible] Go.Av.yQ Go.Av.zZ Go.Av.yG Go.Av.zT Go.Av.yH Go.Av.zY Go.Av.Con
def atI : List Int -> Int -> Nat
 | [],_=>0
 | x :: r,s=>if x < s then atI r s + 1 else 0
def insI (l : List Int) (s : Int) : List Int := (but l s).take (atI l s) ++ s :: (but l s).drop (atI l s)
def okS (s : Int) : Bool := decide (1 <= s /\ s <= 1099511627776)
def opnL (l : List Int) (s : Int) : List Int := if okS s = true then insI l s else l
def opnN (nx s : Int) : Int := if okS s = true then max nx (s + 1) else nx
abbrev RCon (g : FuncId) (args : List V) (e c : Nat) (l : List (List PV)) : Prop := Con Try.prog g args [] (.ret (.row 2048) [.row e c l] [])
end Go.Proofs.Ytpilcadofjcdoaa
namespace Go.Proofs.Ytpilcadofjcdoaa
open Go Go.Av
theorem xY (k n : Nat) (h : k < n) (hn : n <= 9223372036854775807) : IntKind.i64.wrap ((k : Int) + 1) = ((k + 1 : Nat) : Int) := by
 rw [yW] <;> omega
end Go.Proofs.Ytpilcadofjcdoaa
namespace Go.Proofs.Ytpilcadofjcdoaa
set_option linter.unusedSimpArgs false
set_option linter.unusedVariables false
open Go Go.Av
attribute [local irreducible] Go.Av.yQ Go.Av.zZ Go.Av.yG Go.Av.zT Go.Av.yH Go.Av.zY Go.Av.Con
theorem take_snoc {α : Type} (l : List α) (k : Nat) (h : k < l.length) : l.take (k + 1) = l.take k ++ [l[k]] := List.take_succ_eq_append_getElem h
def ints (l : List Int) : List (List PV) := l.map fun n => [I n]
@[simp] theorem ints_len (l : List Int) : (ints l).length = l.length := by simp [ints]
@[simp] theorem ints_getElem (l : List Int) (k : Nat) (h : k < (ints l).length) : (ints l)[k] = [I (l[k]'(by simpa using h))] := by simp [ints]
theorem ints_get {l : List Int} {k : Nat} (h : k < l.length) : (ints l)[k]? = some [I l[k]] := by simp [ints, h]
structure Mb where
 (i r w g : Int)
 deriving DecidableEq
def Mb.cells (m : Mb) : List PV := [I m.i, I m.r, I m.w, I m.g]
def mbs (l : List Mb) : List (List PV) := l.map Mb.cells
@[simp] theorem mbs_len (l : List Mb) : (mbs l).length = l.length := by simp [mbs]
@[simp] theorem mbs_getElem (l : List Mb) (k : Nat) (h : k < (mbs l).length) : (mbs l)[k] = [I (l[k]'(by simpa using h)).i, I (l[k]'(by simpa using h)).r, I (l[k]'(by simpa using h)).w, I (l[k]'(by simpa using h)).g] := by simp [mbs, Mb.cells]
theorem mbs_get {l : List Mb} {k : Nat} (h : k < l.length) : (mbs l)[k]? = some [I l[k].i, I l[k].r, I l[k].w, I l[k].g] := by simp [mbs, h, Mb.cells]
structure Cf where
 (ep n kind : Int)
 ms : List Mb
def Cf.cells (c : Cf) : List PV := [I c.ep, I c.n, I c.kind, .sl 4 (mbs c.ms)]
def okM (m : Mb) : Prop := (0 <= m.i /\ m.i <= 15) /\ (m.r = 1 \/ m.r = 2) /\ (0 <= m.w /\ m.w <= 100) /\ (0 <= m.g /\ m.g <= 7)
instance (m : Mb) : Decidable (okM m) := by unfold okM; infer_instance
set_option maxHeartbeats 8000000 in
theorem ok04_con (m : Mb) : zF Try.prog 34 [.p (.agg m.cells)] (.p (B (decide (okM m)))) := by
 obtain ⟨i,r,w,g⟩:=m
 simp only [Mb.cells,okM]
 by_cases h1 : 0 <= i
 ·by_cases h2 : i < 16
  ·by_cases h3 : r = 1
   ·by_cases h4 : 0 <= w
    ·by_cases h5 : w <= 100
     ·by_cases h6 : 0 <= g
      ·refine zG Try.tab Try.mixed Try.func34 rfl rfl Try.ntmps34 (by simp) (by simp) fun Q hr hn => ?_
       repeat' first|(refine hK _ ?_;clear hK)|(refine hK _ _ ?_;clear hK)|(clear hK;refine hK _ ?_;clear hK)|(clear hK;clear hK;refine hK _ ?_;clear hK)|(clear hK;clear hK;clear hK;refine hK _ ?_;clear hK)|(clear hK;clear hK;clear hK;clear hK;refine hK _ ?_;clear hK)|(refine zJ fun K hK=>?_)|((first | refine zH ?_ | refine zN rfl (by kernel_rfl) ?_ | refine zM ?_ | refine zK (by kernel_rfl) ?_);simp only [wJ,wI,strip])|((first | refine wIs fun K hK=>?_ | refine wOs fun K hK=>?_ | refine wQs fun K hK=>?_ | refine zU ?_ | refine zV ?_ | refine zW ?_ | refine zL ?_);simp [h1,h2,h3,h4,h5,h6])|(refine wIn ?_;refine And.intro (by kernel_rfl) ?_;try simp only [zX])|(first | refine zQ ?_ | refine zS ?_)|((first | refine zI ?_ | refine zO ?_ | refine zP ?_);try simp)|((first | refine zR ?_ | refine wOn ?_ | refine wQn ?_);try simp only [zX])
       all_goals apply hr
       all_goals simp [Try.f34,h1,h2,h3,h4,h5,h6]
       all_goals omega
      ·refine zG Try.tab Try.mixed Try.func34 rfl rfl Try.ntmps34 (by simp) (by simp) fun Q hr hn => ?_
       repeat' first|(refine hK _ ?_;clear hK)|(refine hK _ _ ?_;clear hK)|(clear hK;refine hK _ ?_;clear hK)|(clear hK;clear hK;refine hK _ ?_;clear hK)|(clear hK;clear hK;clear hK;refine hK _ ?_;clear hK)|(clear hK;clear hK;clear hK;clear hK;refine hK _ ?_;clear hK)|(refine zJ fun K hK=>?_)|((first | refine zH ?_ | refine zN rfl (by kernel_rfl) ?_ | refine zM ?_ | refine zK (by kernel_rfl) ?_);simp only [wJ,wI,strip])|((first | refine wIs fun K hK=>?_ | refine wOs fun K hK=>?_ | refine wQs fun K hK=>?_ | refine zU ?_ | refine zV ?_ | refine zW ?_ | refine zL ?_);simp [h1,h2,h3,h4,h5,h6])|(refine wIn ?_;refine And.intro (by kernel_rfl) ?_;try simp only [zX])|(first | refine zQ ?_ | refine zS ?_)|((first | refine zI ?_ | refine zO ?_ | refine zP ?_);try simp)|((first | refine zR ?_ | refine wOn ?_ | refine wQn ?_);try simp only [zX])
       all_goals apply hr
       all_goals simp [Try.f34,h1,h2,h3,h4,h5,h6]
     ·refine zG Try.tab Try.mixed Try.func34 rfl rfl Try.ntmps34 (by simp) (by simp) fun Q hr hn => ?_
      repeat' first|(refine hK _ ?_;clear hK)|(refine hK _ _ ?_;clear hK)|(clear hK;refine hK _ ?_;clear hK)|(clear hK;clear hK;refine hK _ ?_;clear hK)|(clear hK;clear hK;clear hK;refine hK _ ?_;clear hK)|(clear hK;clear hK;clear hK;clear hK;refine hK _ ?_;clear hK)|(refine zJ fun K hK=>?_)|((first | refine zH ?_ | refine zN rfl (by kernel_rfl) ?_ | refine zM ?_ | refine zK (by kernel_rfl) ?_);simp only [wJ,wI,strip])|((first | refine wIs fun K hK=>?_ | refine wOs fun K hK=>?_ | refine wQs fun K hK=>?_ | refine zU ?_ | refine zV ?_ | refine zW ?_ | refine zL ?_);simp [h1,h2,h3,h4,h5])|(refine wIn ?_;refine And.intro (by kernel_rfl) ?_;try simp only [zX])|(first | refine zQ ?_ | refine zS ?_)|((first | refine zI ?_ | refine zO ?_ | refine zP ?_);try simp)|((first | refine zR ?_ | refine wOn ?_ | refine wQn ?_);try simp only [zX])
      all_goals apply hr
      all_goals simp [Try.f34,h1,h2,h3,h4,h5]
    ·refine zG Try.tab Try.mixed Try.func34 rfl rfl Try.ntmps34 (by simp) (by simp) fun Q hr hn => ?_
     repeat' first|(refine hK _ ?_;clear hK)|(refine hK _ _ ?_;clear hK)|(clear hK;refine hK _ ?_;clear hK)|(clear hK;clear hK;refine hK _ ?_;clear hK)|(clear hK;clear hK;clear hK;refine hK _ ?_;clear hK)|(clear hK;clear hK;clear hK;clear hK;refine hK _ ?_;clear hK)|(refine zJ fun K hK=>?_)|((first | refine zH ?_ | refine zN rfl (by kernel_rfl) ?_ | refine zM ?_ | refine zK (by kernel_rfl) ?_);simp only [wJ,wI,strip])|((first | refine wIs fun K hK=>?_ | refine wOs fun K hK=>?_ | refine wQs fun K hK=>?_ | refine zU ?_ | refine zV ?_ | refine zW ?_ | refine zL ?_);simp [h1,h2,h3,h4])|(refine wIn ?_;refine And.intro (by kernel_rfl) ?_;try simp only [zX])|(first | refine zQ ?_ | refine zS ?_)|((first | refine zI ?_ | refine zO ?_ | refine zP ?_);try simp)|((first | refine zR ?_ | refine wOn ?_ | refine wQn ?_);try simp only [zX])
     all_goals apply hr
     all_goals simp [Try.f34,h1,h2,h3,h4]
   ·by_cases h3' : r = 2
    ·by_cases h4 : 0 <= w
     ·by_cases h5 : w <= 100
      ·by_cases h6 : 0 <= g
       ·refine zG Try.tab Try.mixed Try.func34 rfl rfl Try.ntmps34 (by simp) (by simp) fun Q hr hn => ?_
        repeat' first|(refine hK _ ?_;clear hK)|(refine hK _ _ ?_;clear hK)|(clear hK;refine hK _ ?_;clear hK)|(clear hK;clear hK;refine hK _ ?_;clear hK)|(clear hK;clear hK;clear hK;refine hK _ ?_;clear hK)|(clear hK;clear hK;clear hK;clear hK;refine hK _ ?_;clear hK)|(refine zJ fun K hK=>?_)|((first | refine zH ?_ | refine zN rfl (by kernel_rfl) ?_ | refine zM ?_ | refine zK (by kernel_rfl) ?_);simp only [wJ,wI,strip])|((first | refine wIs fun K hK=>?_ | refine wOs fun K hK=>?_ | refine wQs fun K hK=>?_ | refine zU ?_ | refine zV ?_ | refine zW ?_ | refine zL ?_);simp [h1,h2,h3,h3',h4,h5,h6])|(refine wIn ?_;refine And.intro (by kernel_rfl) ?_;try simp only [zX])|(first | refine zQ ?_ | refine zS ?_)|((first | refine zI ?_ | refine zO ?_ | refine zP ?_);try simp)|((first | refine zR ?_ | refine wOn ?_ | refine wQn ?_);try simp only [zX])
        all_goals apply hr
        all_goals simp [Try.f34,h1,h2,h3,h3',h4,h5,h6]
        all_goals omega
       ·refine zG Try.tab Try.mixed Try.func34 rfl rfl Try.ntmps34 (by simp) (by simp) fun Q hr hn => ?_
        repeat' first|(refine hK _ ?_;clear hK)|(refine hK _ _ ?_;clear hK)|(clear hK;refine hK _ ?_;clear hK)|(clear hK;clear hK;refine hK _ ?_;clear hK)|(clear hK;clear hK;clear hK;refine hK _ ?_;clear hK)|(clear hK;clear hK;clear hK;clear hK;refine hK _ ?_;clear hK)|(refine zJ fun K hK=>?_)|((first | refine zH ?_ | refine zN rfl (by kernel_rfl) ?_ | refine zM ?_ | refine zK (by kernel_rfl) ?_);simp only [wJ,wI,strip])|((first | refine wIs fun K hK=>?_ | refine wOs fun K hK=>?_ | refine wQs fun K hK=>?_ | refine zU ?_ | refine zV ?_ | refine zW ?_ | refine zL ?_);simp [h1,h2,h3,h3',h4,h5,h6])|(refine wIn ?_;refine And.intro (by kernel_rfl) ?_;try simp only [zX])|(first | refine zQ ?_ | refine zS ?_)|((first | refine zI ?_ | refine zO ?_ | refine zP ?_);try simp)|((first | refine zR ?_ | refine wOn ?_ | refine wQn ?_);try simp only [zX])
        all_goals apply hr
        all_goals simp [Try.f34,h1,h2,h3,h3',h4,h5,h6]
      ·refine zG Try.tab Try.mixed Try.func34 rfl rfl Try.ntmps34 (by simp) (by simp) fun Q hr hn => ?_
       repeat' first|(refine hK _ ?_;clear hK)|(refine hK _ _ ?_;clear hK)|(clear hK;refine hK _ ?_;clear hK)|(clear hK;clear hK;refine hK _ ?_;clear hK)|(clear hK;clear hK;clear hK;refine hK _ ?_;clear hK)|(clear hK;clear hK;clear hK;clear hK;refine hK _ ?_;clear hK)|(refine zJ fun K hK=>?_)|((first | refine zH ?_ | refine zN rfl (by kernel_rfl) ?_ | refine zM ?_ | refine zK (by kernel_rfl) ?_);simp only [wJ,wI,strip])|((first | refine wIs fun K hK=>?_ | refine wOs fun K hK=>?_ | refine wQs fun K hK=>?_ | refine zU ?_ | refine zV ?_ | refine zW ?_ | refine zL ?_);simp [h1,h2,h3,h3',h4,h5])|(refine wIn ?_;refine And.intro (by kernel_rfl) ?_;try simp only [zX])|(first | refine zQ ?_ | refine zS ?_)|((first | refine zI ?_ | refine zO ?_ | refine zP ?_);try simp)|((first | refine zR ?_ | refine wOn ?_ | refine wQn ?_);try simp only [zX])
       all_goals apply hr
       all_goals simp [Try.f34,h1,h2,h3,h3',h4,h5]
     ·refine zG Try.tab Try.mixed Try.func34 rfl rfl Try.ntmps34 (by simp) (by simp) fun Q hr hn => ?_
      repeat' first|(refine hK _ ?_;clear hK)|(refine hK _ _ ?_;clear hK)|(clear hK;refine hK _ ?_;clear hK)|(clear hK;clear hK;refine hK _ ?_;clear hK)|(clear hK;clear hK;clear hK;refine hK _ ?_;clear hK)|(clear hK;clear hK;clear hK;clear hK;refine hK _ ?_;clear hK)|(refine zJ fun K hK=>?_)|((first | refine zH ?_ | refine zN rfl (by kernel_rfl) ?_ | refine zM ?_ | refine zK (by kernel_rfl) ?_);simp only [wJ,wI,strip])|((first | refine wIs fun K hK=>?_ | refine wOs fun K hK=>?_ | refine wQs fun K hK=>?_ | refine zU ?_ | refine zV ?_ | refine zW ?_ | refine zL ?_);simp [h1,h2,h3,h3',h4])|(refine wIn ?_;refine And.intro (by kernel_rfl) ?_;try simp only [zX])|(first | refine zQ ?_ | refine zS ?_)|((first | refine zI ?_ | refine zO ?_ | refine zP ?_);try simp)|((first | refine zR ?_ | refine wOn ?_ | refine wQn ?_);try simp only [zX])
      all_goals apply hr
      all_goals simp [Try.f34,h1,h2,h3,h3',h4]
    ·refine zG Try.tab Try.mixed Try.func34 rfl rfl Try.ntmps34 (by simp) (by simp) fun Q hr hn => ?_
     repeat' first|(refine hK _ ?_;clear hK)|(refine hK _ _ ?_;clear hK)|(clear hK;refine hK _ ?_;clear hK)|(clear hK;clear hK;refine hK _ ?_;clear hK)|(clear hK;clear hK;clear hK;refine hK _ ?_;clear hK)|(clear hK;clear hK;clear hK;clear hK;refine hK _ ?_;clear hK)|(refine zJ fun K hK=>?_)|((first | refine zH ?_ | refine zN rfl (by kernel_rfl) ?_ | refine zM ?_ | refine zK (by kernel_rfl) ?_);simp only [wJ,wI,strip])|((first | refine wIs fun K hK=>?_ | refine wOs fun K hK=>?_ | refine wQs fun K hK=>?_ | refine zU ?_ | refine zV ?_ | refine zW ?_ | refine zL ?_);simp [h1,h2,h3,h3'])|(refine wIn ?_;refine And.intro (by kernel_rfl) ?_;try simp only [zX])|(first | refine zQ ?_ | refine zS ?_)|((first | refine zI ?_ | refine zO ?_ | refine zP ?_);try simp)|((first | refine zR ?_ | refine wOn ?_ | refine wQn ?_);try simp only [zX])
     all_goals apply hr
     all_goals simp [Try.f34,h1,h2,h3,h3']
  ·refine zG Try.tab Try.mixed Try.func34 rfl rfl Try.ntmps34 (by simp) (by simp) fun Q hr hn => ?_
   repeat' first|(refine hK _ ?_;clear hK)|(refine hK _ _ ?_;clear hK)|(clear hK;refine hK _ ?_;clear hK)|(clear hK;clear hK;refine hK _ ?_;clear hK)|(clear hK;clear hK;clear hK;refine hK _ ?_;clear hK)|(clear hK;clear hK;clear hK;clear hK;refine hK _ ?_;clear hK)|(refine zJ fun K hK=>?_)|((first | refine zH ?_ | refine zN rfl (by kernel_rfl) ?_ | refine zM ?_ | refine zK (by kernel_rfl) ?_);simp only [wJ,wI,strip])|((first | refine wIs fun K hK=>?_ | refine wOs fun K hK=>?_ | refine wQs fun K hK=>?_ | refine zU ?_ | refine zV ?_ | refine zW ?_ | refine zL ?_);simp [h1,h2])|(refine wIn ?_;refine And.intro (by kernel_rfl) ?_;try simp only [zX])|(first | refine zQ ?_ | refine zS ?_)|((first | refine zI ?_ | refine zO ?_ | refine zP ?_);try simp)|((first | refine zR ?_ | refine wOn ?_ | refine wQn ?_);try simp only [zX])
   all_goals apply hr
   all_goals simp [Try.f34,h1,h2]
   all_goals omega
 ·refine zG Try.tab Try.mixed Try.func34 rfl rfl Try.ntmps34 (by simp) (by simp) fun Q hr hn => ?_
  repeat' first|(refine hK _ ?_;clear hK)|(refine hK _ _ ?_;clear hK)|(clear hK;refine hK _ ?_;clear hK)|(clear hK;clear hK;refine hK _ ?_;clear hK)|(clear hK;clear hK;clear hK;refine hK _ ?_;clear hK)|(clear hK;clear hK;clear hK;clear hK;refine hK _ ?_;clear hK)|(refine zJ fun K hK=>?_)|((first | refine zH ?_ | refine zN rfl (by kernel_rfl) ?_ | refine zM ?_ | refine zK (by kernel_rfl) ?_);simp only [wJ,wI,strip])|((first | refine wIs fun K hK=>?_ | refine wOs fun K hK=>?_ | refine wQs fun K hK=>?_ | refine zU ?_ | refine zV ?_ | refine zW ?_ | refine zL ?_);simp [h1])|(refine wIn ?_;refine And.intro (by kernel_rfl) ?_;try simp only [zX])|(first | refine zQ ?_ | refine zS ?_)|((first | refine zI ?_ | refine zO ?_ | refine zP ?_);try simp)|((first | refine zR ?_ | refine wOn ?_ | refine wQn ?_);try simp only [zX])
  all_goals apply hr
  all_goals simp [Try.f34,h1]
def cmpInt (a b : Int) : Int := if a < b then -1 else if b < a then 1 else 0
def orL : List Int -> Int
 | []=>0
 | a :: l=>if a = 0 then orL l else a
def zcmp (a b c d : Int) : Int := if a = c /\ b = d then 0 else orL [cmpInt a c, cmpInt b d]
theorem zcmp_spec (a b c d : Int) : zcmp a b c d = if a = c /\ b = d then 0 else if a < c \/ (a = c /\ b < d) then -1 else 1 := by
 unfold zcmp cmpInt
 simp only [orL]
 repeat' split
 all_goals omega
theorem cmp02_con (a b c d : Int) : zF Try.prog 21 [.p (.agg [I a, I b]), .p (.agg [I c, I d])] (.p (I (zcmp a b c d))) := by
 rw [zcmp_spec]
 by_cases hab : a = c /\ b = d
 ·rw [if_pos hab]
  obtain ⟨rfl,rfl⟩:=hab
  refine zG Try.tab Try.mixed Try.func21 rfl rfl Try.ntmps21 (by simp) (by simp) fun Q hr hn=>?_
  repeat' first|(refine hK _ ?_;clear hK)|(refine hK _ _ ?_;clear hK)|(clear hK;refine hK _ ?_;clear hK)|(clear hK;clear hK;refine hK _ ?_;clear hK)|(clear hK;clear hK;clear hK;refine hK _ ?_;clear hK)|(clear hK;clear hK;clear hK;clear hK;refine hK _ ?_;clear hK)|(refine zJ fun K hK=>?_)|((first | refine zH ?_ | refine zN rfl (by kernel_rfl) ?_ | refine zM ?_ | refine zK (by kernel_rfl) ?_);simp only [wJ,wI,strip])|((first | refine wIs fun K hK=>?_ | refine wOs fun K hK=>?_ | refine wQs fun K hK=>?_ | refine zU ?_ | refine zV ?_ | refine zW ?_ | refine zL ?_);simp)|(refine wIn ?_;refine And.intro (by kernel_rfl) ?_;try simp only [zX])|(first | refine zQ ?_ | refine zS ?_)|((first | refine zI ?_ | refine zO ?_ | refine zP ?_);try simp)|((first | refine zR ?_ | refine wOn ?_ | refine wQn ?_);try simp only [zX])
  all_goals apply hr
  all_goals simp [Try.f21]
 ·rw [if_neg hab]
  by_cases h1 : a < c
  ·have h2 : ¬ a = c := by omega
   refine zG Try.tab Try.mixed Try.func21 rfl rfl Try.ntmps21 (by simp) (by simp) fun Q hr hn=>?_
   repeat' first|(refine hK _ ?_;clear hK)|(refine hK _ _ ?_;clear hK)|(clear hK;refine hK _ ?_;clear hK)|(clear hK;clear hK;refine hK _ ?_;clear hK)|(clear hK;clear hK;clear hK;refine hK _ ?_;clear hK)|(clear hK;clear hK;clear hK;clear hK;refine hK _ ?_;clear hK)|(refine zJ fun K hK=>?_)|((first | refine zH ?_ | refine zN rfl (by kernel_rfl) ?_ | refine zM ?_ | refine zK (by kernel_rfl) ?_);simp only [wJ,wI,strip])|((first | refine wIs fun K hK=>?_ | refine wOs fun K hK=>?_ | refine wQs fun K hK=>?_ | refine zU ?_ | refine zV ?_ | refine zW ?_ | refine zL ?_);simp [hab,h1,h2])|(refine wIn ?_;refine And.intro (by kernel_rfl) ?_;try simp only [zX])|(first | refine zQ ?_ | refine zS ?_)|((first | refine zI ?_ | refine zO ?_ | refine zP ?_);try simp)|((first | refine zR ?_ | refine wOn ?_ | refine wQn ?_);try simp only [zX])|(intro _)
   all_goals first | exact hab | skip
   all_goals apply hr
   all_goals simp [Try.f21,h1]
  ·by_cases h2 : a = c
   ·by_cases h3 : b < d
    ·have h4 : ¬ b = d := by omega
     refine zG Try.tab Try.mixed Try.func21 rfl rfl Try.ntmps21 (by simp) (by simp) fun Q hr hn=>?_
     repeat' first|(refine hK _ ?_;clear hK)|(refine hK _ _ ?_;clear hK)|(clear hK;refine hK _ ?_;clear hK)|(clear hK;clear hK;refine hK _ ?_;clear hK)|(clear hK;clear hK;clear hK;refine hK _ ?_;clear hK)|(clear hK;clear hK;clear hK;clear hK;refine hK _ ?_;clear hK)|(refine zJ fun K hK=>?_)|((first | refine zH ?_ | refine zN rfl (by kernel_rfl) ?_ | refine zM ?_ | refine zK (by kernel_rfl) ?_);simp only [wJ,wI,strip])|((first | refine wIs fun K hK=>?_ | refine wOs fun K hK=>?_ | refine wQs fun K hK=>?_ | refine zU ?_ | refine zV ?_ | refine zW ?_ | refine zL ?_);simp [hab,h1,h2,h3,h4])|(refine wIn ?_;refine And.intro (by kernel_rfl) ?_;try simp only [zX])|(first | refine zQ ?_ | refine zS ?_)|((first | refine zI ?_ | refine zO ?_ | refine zP ?_);try simp)|((first | refine zR ?_ | refine wOn ?_ | refine wQn ?_);try simp only [zX])|(intro _)
     all_goals first | exact hab | skip
     all_goals apply hr
     all_goals simp [Try.f21,h1,h2,h3]
    ·have h4 : ¬ b = d := fun h => hab ⟨h2, h⟩
     refine zG Try.tab Try.mixed Try.func21 rfl rfl Try.ntmps21 (by simp) (by simp) fun Q hr hn=>?_
     repeat' first|(refine hK _ ?_;clear hK)|(refine hK _ _ ?_;clear hK)|(clear hK;refine hK _ ?_;clear hK)|(clear hK;clear hK;refine hK _ ?_;clear hK)|(clear hK;clear hK;clear hK;refine hK _ ?_;clear hK)|(clear hK;clear hK;clear hK;clear hK;refine hK _ ?_;clear hK)|(refine zJ fun K hK=>?_)|((first | refine zH ?_ | refine zN rfl (by kernel_rfl) ?_ | refine zM ?_ | refine zK (by kernel_rfl) ?_);simp only [wJ,wI,strip])|((first | refine wIs fun K hK=>?_ | refine wOs fun K hK=>?_ | refine wQs fun K hK=>?_ | refine zU ?_ | refine zV ?_ | refine zW ?_ | refine zL ?_);simp [hab,h1,h2,h3,h4])|(refine wIn ?_;refine And.intro (by kernel_rfl) ?_;try simp only [zX])|(first | refine zQ ?_ | refine zS ?_)|((first | refine zI ?_ | refine zO ?_ | refine zP ?_);try simp)|((first | refine zR ?_ | refine wOn ?_ | refine wQn ?_);try simp only [zX])|(intro _)
     all_goals first | exact hab | skip
     all_goals apply hr
     all_goals simp [Try.f21,h1,h2,h3]
   ·refine zG Try.tab Try.mixed Try.func21 rfl rfl Try.ntmps21 (by simp) (by simp) fun Q hr hn => ?_
    repeat' first|(refine hK _ ?_;clear hK)|(refine hK _ _ ?_;clear hK)|(clear hK;refine hK _ ?_;clear hK)|(clear hK;clear hK;refine hK _ ?_;clear hK)|(clear hK;clear hK;clear hK;refine hK _ ?_;clear hK)|(clear hK;clear hK;clear hK;clear hK;refine hK _ ?_;clear hK)|(refine zJ fun K hK=>?_)|((first | refine zH ?_ | refine zN rfl (by kernel_rfl) ?_ | refine zM ?_ | refine zK (by kernel_rfl) ?_);simp only [wJ,wI,strip])|((first | refine wIs fun K hK=>?_ | refine wOs fun K hK=>?_ | refine wQs fun K hK=>?_ | refine zU ?_ | refine zV ?_ | refine zW ?_ | refine zL ?_);simp [hab,h1,h2])|(refine wIn ?_;refine And.intro (by kernel_rfl) ?_;try simp only [zX])|(first | refine zQ ?_ | refine zS ?_)|((first | refine zI ?_ | refine zO ?_ | refine zP ?_);try simp)|((first | refine zR ?_ | refine wOn ?_ | refine wQn ?_);try simp only [zX])|(intro _)
    all_goals first | exact hab | skip
    all_goals apply hr
    all_goals simp [Try.f21,h1,h2]
structure Zx where
 (e n : Int)
 deriving DecidableEq
def zxs (l : List Zx) : List (List PV) := l.map fun z => [I z.e, I z.n]
@[simp] theorem zxs_len (l : List Zx) : (zxs l).length = l.length := by simp [zxs]
@[simp] theorem zxs_getE {l : List Zx} {k : Nat} (h : k < (zxs l).length) : (zxs l)[k] = [I (l[k]'(by simpa using h)).e, I (l[k]'(by simpa using h)).n] := by simp [zxs]
def lastZ : List Zx -> Zx
 | []=>⟨0,0⟩
 | a :: r=>r.foldl (fun m x=>if 0 < zcmp x.e x.n m.e m.n then x else m) a
theorem xK (l : List Int) (a : Int) : zis l ++ [[I a]] = zis (l ++ [a]) := by simp [zis]
theorem but_take_len (l : List Int) (n : Int) (k : Nat) : (but (l.take k) n).length <= k := Nat.le_trans (but_len _ _) (by simp; omega)
theorem without08_con (l : List Int) (n : Int) (hl : l.length <= 1000000) : zF Try.prog 20 [.p (.sl 1 (zis l)), .p (I n)] (.p (.sl 1 (zis (but l n)))) := by
 refine zG Try.tab Try.mixed Try.func20 rfl rfl Try.ntmps20 (by simp) (by simp) fun Q hr hn=>?_
 repeat' first|(refine hK _ ?_;clear hK)|(refine hK _ _ ?_;clear hK)|(clear hK;refine hK _ ?_;clear hK)|(clear hK;clear hK;refine hK _ ?_;clear hK)|(clear hK;clear hK;clear hK;refine hK _ ?_;clear hK)|(clear hK;clear hK;clear hK;clear hK;refine hK _ ?_;clear hK)|(refine zJ fun K hK=>?_)|((first | refine zH ?_ | refine zN rfl (by kernel_rfl) ?_ | refine zM ?_ | refine zK (by kernel_rfl) ?_);simp only [wJ,wI,strip])|((first | refine wIs fun K hK=>?_ | refine wOs fun K hK=>?_ | refine wQs fun K hK=>?_ | refine zU ?_ | refine zV ?_ | refine zW ?_ | refine zL ?_);simp)|(refine wIn ?_;refine And.intro (by kernel_rfl) ?_;try simp only [zX])|(first | refine zQ ?_ | refine zS ?_)|((first | refine zI ?_ | refine zO ?_ | refine zP ?_);try simp)|((first | refine zR ?_ | refine wOn ?_ | refine wQn ?_);try simp only [zX])
 refine wLoopG [.row 5 3 1] (fun N st=>∃ k,k + N = l.length /\ st.s 1 = .p (I n) /\ st.s 8 = .p (.sl 1 (zis l)) /\ st.s 9 = .p (I l.length) /\ st.s 10 = .p (I k) /\ st.s 5 = .row 5 /\ st.b 5 = some (.row 3 1 (zis (but (l.take k) n)))) l.length ⟨0,by simp [but,zis]⟩ fun K N st hL ⟨k,hk,g1,g8,g9,g10,g5,b5⟩=>?_
 have hkl:=but_take_len l n k
 by_cases hlt : k < l.length
 ·have hw := wrapX k _ hlt (by omega)
  have he:=zis_get hlt
  have hs:=but_snoc hlt n
  have hx:=xK (but (l.take k) n) l[k]
  by_cases o : l[k] = n
  ·rw [if_pos o] at hs
   repeat' first|(refine hK _ ?_;clear hK)|(refine hK _ _ ?_;clear hK)|(clear hK;refine hK _ ?_;clear hK)|(clear hK;clear hK;refine hK _ ?_;clear hK)|(clear hK;clear hK;clear hK;refine hK _ ?_;clear hK)|(clear hK;clear hK;clear hK;clear hK;refine hK _ ?_;clear hK)|(refine zJ fun K hK=>?_)|((first | refine zH ?_ | refine zN rfl (by kernel_rfl) ?_ | refine zM ?_ | refine zK (by kernel_rfl) ?_);simp only [wJ,wI,strip])|((first | refine wIs fun K hK=>?_ | refine wOs fun K hK=>?_ | refine wQs fun K hK=>?_ | refine zU ?_ | refine zV ?_ | refine zW ?_ | refine zL ?_);simp [g1,g8,g9,g10,g5,b5,hlt,hw,he,o])|(refine wIn ?_;refine And.intro (by kernel_rfl) ?_;try simp only [zX])|(first | refine zQ ?_ | refine zS ?_)|((first | refine zI ?_ | refine zO ?_ | refine zP ?_);try simp)|((first | refine zR ?_ | refine wOn ?_ | refine wQn ?_);try simp only [zX])
   refine hL _ (N - 1) (by omega) ⟨k + 1,by omega,?_⟩
   simp [g1,g8,g9,g10,g5,b5,hw,hs]
  ·rw [if_neg o] at hs
   rw [<- hs] at hx
   repeat' first|(refine And.intro (by (try simp at hkl ⊢);omega) ?_)|(refine hK _ ?_;clear hK)|(refine hK _ _ ?_;clear hK)|(clear hK;refine hK _ ?_;clear hK)|(clear hK;clear hK;refine hK _ ?_;clear hK)|(clear hK;clear hK;clear hK;refine hK _ ?_;clear hK)|(clear hK;clear hK;clear hK;clear hK;refine hK _ ?_;clear hK)|(refine zJ fun K hK=>?_)|((first | refine zH ?_ | refine zN rfl (by kernel_rfl) ?_ | refine zM ?_ | refine zK (by kernel_rfl) ?_);simp only [wJ,wI,strip])|((first | refine wIs fun K hK=>?_ | refine wOs fun K hK=>?_ | refine wQs fun K hK=>?_ | refine zU ?_ | refine zV ?_ | refine zW ?_ | refine zL ?_);simp [g1,g8,g9,g10,g5,b5,hlt,hw,he,o])|(refine wIn ?_;refine And.intro (by kernel_rfl) ?_;try simp only [zX])|(first | refine zQ ?_ | refine zS ?_)|((first | refine zI ?_ | refine zO ?_ | refine zP ?_);try simp)|((first | refine zR ?_ | refine wOn ?_ | refine wQn ?_);try simp only [zX])
   refine hL _ (N - 1) (by omega) ⟨k + 1,by omega,?_⟩
   simp [g1,g8,g9,g10,g5,b5,hw,hx]
 ·rw [List.take_of_length_le (by omega)] at b5
  repeat' first|(refine hK _ ?_;clear hK)|(refine hK _ _ ?_;clear hK)|(clear hK;refine hK _ ?_;clear hK)|(clear hK;clear hK;refine hK _ ?_;clear hK)|(clear hK;clear hK;clear hK;refine hK _ ?_;clear hK)|(clear hK;clear hK;clear hK;clear hK;refine hK _ ?_;clear hK)|(refine zJ fun K hK=>?_)|((first | refine zH ?_ | refine zN rfl (by kernel_rfl) ?_ | refine zM ?_ | refine zK (by kernel_rfl) ?_);simp only [wJ,wI,strip])|((first | refine wIs fun K hK=>?_ | refine wOs fun K hK=>?_ | refine wQs fun K hK=>?_ | refine zU ?_ | refine zV ?_ | refine zW ?_ | refine zL ?_);simp [g1,g8,g9,g10,g5,b5,hlt])|(refine wIn ?_;refine And.intro (by kernel_rfl) ?_;try simp only [zX])|(first | refine zQ ?_ | refine zS ?_)|((first | refine zI ?_ | refine zO ?_ | refine zP ?_);try simp)|((first | refine zR ?_ | refine wOn ?_ | refine wQn ?_);try simp only [zX])
  all_goals apply hr
  all_goals simp [Try.f20,g5,b5]
theorem copied08_con (e n k : Int) (ms : List (List PV)) (hl : ms.length <= 4398046510976) : zF Try.prog 16 [.p (.agg [I e, I n, I k, .sl 4 ms])] (.p (.agg [I e, I n, I k, .sl 4 ms])) := by
 refine zG Try.tab Try.mixed Try.func16 rfl rfl Try.ntmps16 (by simp) (by simp) fun Q hr hn=>?_
 repeat' first|(refine And.intro (by (try simp);omega) ?_)|(refine Or.inl ?_)|(refine hK _ ?_;clear hK)|(refine hK _ _ ?_;clear hK)|(clear hK;refine hK _ ?_;clear hK)|(clear hK;clear hK;refine hK _ ?_;clear hK)|(clear hK;clear hK;clear hK;refine hK _ ?_;clear hK)|(clear hK;clear hK;clear hK;clear hK;refine hK _ ?_;clear hK)|(refine zJ fun K hK=>?_)|((first | refine zH ?_ | refine zN rfl (by kernel_rfl) ?_ | refine zM ?_ | refine zK (by kernel_rfl) ?_);simp only [wJ,wI,strip])|((first | refine wIs fun K hK=>?_ | refine wOs fun K hK=>?_ | refine wQs fun K hK=>?_ | refine zU ?_ | refine zV ?_ | refine zW ?_ | refine zL ?_);simp)|(refine wIn ?_;refine And.intro (by kernel_rfl) ?_;try simp only [zX])|(first | refine zQ ?_ | refine zS ?_)|((first | refine zI ?_ | refine zO ?_ | refine zP ?_);try simp)|((first | refine zR ?_ | refine wOn ?_ | refine wQn ?_);try simp only [zX])
 all_goals apply hr
 all_goals simp [Try.f16]
def wst1 (n : Int) (q : List Int × Bool) (x : Int) : List Int × Bool :=
 if n <= x /\ q.2 = false then (if x = n then q.1 ++ [n] else q.1 ++ [n] ++ [x],true) else (if x = n then q.1 else q.1 ++ [x],q.2)
def wst (l : List Int) (n : Int) : List Int × Bool := l.foldl (wst1 n) ([], false)
theorem wst_snoc {l : List Int} {k : Nat} (h : k < l.length) (n : Int) : wst (l.take (k + 1)) n = wst1 n (wst (l.take k) n) l[k] := by
 rw [List.take_succ_eq_append_getElem h,wst,List.foldl_append];rfl
theorem wst_len (n : Int) : ∀ (l : List Int) (q : List Int × Bool), (l.foldl (wst1 n) q).1.length <= q.1.length + 2 * l.length
 | [],q=>by simp
 | x :: l, q => by
  have:=wst_len n l (wst1 n q x)
  have h1 : (wst1 n q x).1.length <= q.1.length + 2:=by unfold wst1;split <;> split <;> simp
  simp only [List.foldl_cons,List.length_cons]
  omega
def wth (l : List Int) (n : Int) : List Int := if (wst l n).2 = true then (wst l n).1 else (wst l n).1 ++ [n]
theorem wst_take_len (l : List Int) (n : Int) (k : Nat) : (wst (l.take k) n).1.length <= 2 * k := by
 have:=wst_len n (l.take k) ([],false)
 have h2 : (l.take k).length <= k:=by simp;omega
 unfold wst
 simp at this ⊢;omega
theorem with08_con (l : List Int) (n : Int) (hl : l.length <= 1000000) : zF Try.prog 19 [.p (.sl 1 (zis l)), .p (I n)] (.p (.sl 1 (zis (wth l n)))) := by
 refine zG Try.tab Try.mixed Try.func19 rfl rfl Try.ntmps19 (by simp) (by simp) fun Q hr hn=>?_
 repeat' first|(refine hK _ ?_;clear hK)|(refine hK _ _ ?_;clear hK)|(clear hK;refine hK _ ?_;clear hK)|(clear hK;clear hK;refine hK _ ?_;clear hK)|(clear hK;clear hK;clear hK;refine hK _ ?_;clear hK)|(clear hK;clear hK;clear hK;clear hK;refine hK _ ?_;clear hK)|(refine zJ fun K hK=>?_)|((first | refine zH ?_ | refine zN rfl (by kernel_rfl) ?_ | refine zM ?_ | refine zK (by kernel_rfl) ?_);simp only [wJ,wI,strip])|((first | refine wIs fun K hK=>?_ | refine wOs fun K hK=>?_ | refine wQs fun K hK=>?_ | refine zU ?_ | refine zV ?_ | refine zW ?_ | refine zL ?_);simp)|(refine wIn ?_;refine And.intro (by kernel_rfl) ?_;try simp only [zX])|(first | refine zQ ?_ | refine zS ?_)|((first | refine zI ?_ | refine zO ?_ | refine zP ?_);try simp)|((first | refine zR ?_ | refine wOn ?_ | refine wQn ?_);try simp only [zX])
 refine wLoopG [.row 5 3 1] (fun N st=>∃ k,k + N = l.length /\ st.s 1 = .p (I n) /\ st.s 9 = .p (.sl 1 (zis l)) /\ st.s 10 = .p (I l.length) /\ st.s 11 = .p (I k) /\ st.s 5 = .row 5 /\ st.s 6 = .p (B (wst (l.take k) n).2) /\ st.b 5 = some (.row 3 1 (zis (wst (l.take k) n).1))) l.length ⟨0,by simp [wst,zis]⟩ fun K N st hL ⟨k,hk,g1,g9,g10,g11,g5,g6,b5⟩=>?_
 have hkl:=wst_take_len l n k
 by_cases hlt : k < l.length
 ·have hw := wrapX k _ hlt (by omega)
  have he:=zis_get hlt
  have hs:=wst_snoc hlt n
  generalize wst (l.take k) n = q at hs g6 b5 hkl
  obtain ⟨o,d⟩:=q
  dsimp only at g6 b5 hkl
  generalize hx : l[k] = x at hs he
  by_cases h1 : n <= x
  ·cases d
   ·by_cases h2 : x = n
    ·have hs' : wst (l.take (k + 1)) n = (o ++ [n], true) := by rw [hs]; simp [wst1, h1, h2]
     repeat' first|(refine And.intro (by (try simp at hkl ⊢);omega) ?_)|(refine hK _ ?_;clear hK)|(refine hK _ _ ?_;clear hK)|(clear hK;refine hK _ ?_;clear hK)|(clear hK;clear hK;refine hK _ ?_;clear hK)|(clear hK;clear hK;clear hK;refine hK _ ?_;clear hK)|(clear hK;clear hK;clear hK;clear hK;refine hK _ ?_;clear hK)|(refine zJ fun K hK=>?_)|((first | refine zH ?_ | refine zN rfl (by kernel_rfl) ?_ | refine zM ?_ | refine zK (by kernel_rfl) ?_);simp only [wJ,wI,strip])|((first | refine wIs fun K hK=>?_ | refine wOs fun K hK=>?_ | refine wQs fun K hK=>?_ | refine zU ?_ | refine zV ?_ | refine zW ?_ | refine zL ?_);simp [g1,g9,g10,g11,g5,g6,b5,hlt,hw,he,hx,h1,h2,xK])|(refine wIn ?_;refine And.intro (by kernel_rfl) ?_;try simp only [zX])|(first | refine zQ ?_ | refine zS ?_)|((first | refine zI ?_ | refine zO ?_ | refine zP ?_);try simp)|((first | refine zR ?_ | refine wOn ?_ | refine wQn ?_);try simp only [zX])
     refine hL _ (N - 1) (by omega) ⟨k + 1,by omega,?_⟩
     simp [g1,g9,g10,g11,g5,g6,b5,hw,hs',xK]
    ·have hs' : wst (l.take (k + 1)) n = (o ++ [n] ++ [x], true) := by rw [hs]; simp [wst1, h1, h2]
     repeat' first|(refine And.intro (by (try simp at hkl ⊢);omega) ?_)|(refine hK _ ?_;clear hK)|(refine hK _ _ ?_;clear hK)|(clear hK;refine hK _ ?_;clear hK)|(clear hK;clear hK;refine hK _ ?_;clear hK)|(clear hK;clear hK;clear hK;refine hK _ ?_;clear hK)|(clear hK;clear hK;clear hK;clear hK;refine hK _ ?_;clear hK)|(refine zJ fun K hK=>?_)|((first | refine zH ?_ | refine zN rfl (by kernel_rfl) ?_ | refine zM ?_ | refine zK (by kernel_rfl) ?_);simp only [wJ,wI,strip])|((first | refine wIs fun K hK=>?_ | refine wOs fun K hK=>?_ | refine wQs fun K hK=>?_ | refine zU ?_ | refine zV ?_ | refine zW ?_ | refine zL ?_);simp [g1,g9,g10,g11,g5,g6,b5,hlt,hw,he,hx,h1,h2,xK])|(refine wIn ?_;refine And.intro (by kernel_rfl) ?_;try simp only [zX])|(first | refine zQ ?_ | refine zS ?_)|((first | refine zI ?_ | refine zO ?_ | refine zP ?_);try simp)|((first | refine zR ?_ | refine wOn ?_ | refine wQn ?_);try simp only [zX])
     refine hL _ (N - 1) (by omega) ⟨k + 1,by omega,?_⟩
     simp [g1,g9,g10,g11,g5,g6,b5,hw,hs',xK]
   ·by_cases h2 : x = n
    ·have hs' : wst (l.take (k + 1)) n = (o, true) := by rw [hs]; simp [wst1, h1, h2]
     repeat' first|(refine hK _ ?_;clear hK)|(refine hK _ _ ?_;clear hK)|(clear hK;refine hK _ ?_;clear hK)|(clear hK;clear hK;refine hK _ ?_;clear hK)|(clear hK;clear hK;clear hK;refine hK _ ?_;clear hK)|(clear hK;clear hK;clear hK;clear hK;refine hK _ ?_;clear hK)|(refine zJ fun K hK=>?_)|((first | refine zH ?_ | refine zN rfl (by kernel_rfl) ?_ | refine zM ?_ | refine zK (by kernel_rfl) ?_);simp only [wJ,wI,strip])|((first | refine wIs fun K hK=>?_ | refine wOs fun K hK=>?_ | refine wQs fun K hK=>?_ | refine zU ?_ | refine zV ?_ | refine zW ?_ | refine zL ?_);simp [g1,g9,g10,g11,g5,g6,b5,hlt,hw,he,hx,h1,h2])|(refine wIn ?_;refine And.intro (by kernel_rfl) ?_;try simp only [zX])|(first | refine zQ ?_ | refine zS ?_)|((first | refine zI ?_ | refine zO ?_ | refine zP ?_);try simp)|((first | refine zR ?_ | refine wOn ?_ | refine wQn ?_);try simp only [zX])
     refine hL _ (N - 1) (by omega) ⟨k + 1,by omega,?_⟩
     simp [g1,g9,g10,g11,g5,g6,b5,hw,hs']
    ·have hs' : wst (l.take (k + 1)) n = (o ++ [x], true) := by rw [hs]; simp [wst1, h1, h2]
     repeat' first|(refine And.intro (by (try simp at hkl ⊢);omega) ?_)|(refine hK _ ?_;clear hK)|(refine hK _ _ ?_;clear hK)|(clear hK;refine hK _ ?_;clear hK)|(clear hK;clear hK;refine hK _ ?_;clear hK)|(clear hK;clear hK;clear hK;refine hK _ ?_;clear hK)|(clear hK;clear hK;clear hK;clear hK;refine hK _ ?_;clear hK)|(refine zJ fun K hK=>?_)|((first | refine zH ?_ | refine zN rfl (by kernel_rfl) ?_ | refine zM ?_ | refine zK (by kernel_rfl) ?_);simp only [wJ,wI,strip])|((first | refine wIs fun K hK=>?_ | refine wOs fun K hK=>?_ | refine wQs fun K hK=>?_ | refine zU ?_ | refine zV ?_ | refine zW ?_ | refine zL ?_);simp [g1,g9,g10,g11,g5,g6,b5,hlt,hw,he,hx,h1,h2,xK])|(refine wIn ?_;refine And.intro (by kernel_rfl) ?_;try simp only [zX])|(first | refine zQ ?_ | refine zS ?_)|((first | refine zI ?_ | refine zO ?_ | refine zP ?_);try simp)|((first | refine zR ?_ | refine wOn ?_ | refine wQn ?_);try simp only [zX])
     refine hL _ (N - 1) (by omega) ⟨k + 1,by omega,?_⟩
     simp [g1,g9,g10,g11,g5,g6,b5,hw,hs',xK]
  ·have h2 : ¬ x = n := by omega
   have hs' : wst (l.take (k + 1)) n = (o ++ [x],d):=by rw [hs];simp [wst1,h1,h2]
   repeat' first|(refine And.intro (by (try simp at hkl ⊢);omega) ?_)|(refine hK _ ?_;clear hK)|(refine hK _ _ ?_;clear hK)|(clear hK;refine hK _ ?_;clear hK)|(clear hK;clear hK;refine hK _ ?_;clear hK)|(clear hK;clear hK;clear hK;refine hK _ ?_;clear hK)|(clear hK;clear hK;clear hK;clear hK;refine hK _ ?_;clear hK)|(refine zJ fun K hK=>?_)|((first | refine zH ?_ | refine zN rfl (by kernel_rfl) ?_ | refine zM ?_ | refine zK (by kernel_rfl) ?_);simp only [wJ,wI,strip])|((first | refine wIs fun K hK=>?_ | refine wOs fun K hK=>?_ | refine wQs fun K hK=>?_ | refine zU ?_ | refine zV ?_ | refine zW ?_ | refine zL ?_);simp [g1,g9,g10,g11,g5,g6,b5,hlt,hw,he,hx,h1,h2,xK])|(refine wIn ?_;refine And.intro (by kernel_rfl) ?_;try simp only [zX])|(first | refine zQ ?_ | refine zS ?_)|((first | refine zI ?_ | refine zO ?_ | refine zP ?_);try simp)|((first | refine zR ?_ | refine wOn ?_ | refine wQn ?_);try simp only [zX])
   refine hL _ (N - 1) (by omega) ⟨k + 1,by omega,?_⟩
   simp [g1,g9,g10,g11,g5,g6,b5,hw,hs',xK]
 ·rw [List.take_of_length_le (by omega)] at b5 g6 hkl
  unfold wth at hr
  generalize wst l n = q at g6 b5 hkl hr
  obtain ⟨o,d⟩:=q
  dsimp only at g6 b5 hkl hr
  cases d
  ·simp only [Bool.false_eq_true, if_false] at hr
   repeat' first|(refine And.intro (by (try simp at hkl ⊢);omega) ?_)|(refine hK _ ?_;clear hK)|(refine hK _ _ ?_;clear hK)|(clear hK;refine hK _ ?_;clear hK)|(clear hK;clear hK;refine hK _ ?_;clear hK)|(clear hK;clear hK;clear hK;refine hK _ ?_;clear hK)|(clear hK;clear hK;clear hK;clear hK;refine hK _ ?_;clear hK)|(refine zJ fun K hK=>?_)|((first | refine zH ?_ | refine zN rfl (by kernel_rfl) ?_ | refine zM ?_ | refine zK (by kernel_rfl) ?_);simp only [wJ,wI,strip])|((first | refine wIs fun K hK=>?_ | refine wOs fun K hK=>?_ | refine wQs fun K hK=>?_ | refine zU ?_ | refine zV ?_ | refine zW ?_ | refine zL ?_);simp [g1,g9,g10,g11,g5,g6,b5,hlt,xK])|(refine wIn ?_;refine And.intro (by kernel_rfl) ?_;try simp only [zX])|(first | refine zQ ?_ | refine zS ?_)|((first | refine zI ?_ | refine zO ?_ | refine zP ?_);try simp)|((first | refine zR ?_ | refine wOn ?_ | refine wQn ?_);try simp only [zX])
   all_goals apply hr
   all_goals simp [Try.f19,g5,b5,xK]
  ·simp only [if_true] at hr
   repeat' first|(refine hK _ ?_;clear hK)|(refine hK _ _ ?_;clear hK)|(clear hK;refine hK _ ?_;clear hK)|(clear hK;clear hK;refine hK _ ?_;clear hK)|(clear hK;clear hK;clear hK;refine hK _ ?_;clear hK)|(clear hK;clear hK;clear hK;clear hK;refine hK _ ?_;clear hK)|(refine zJ fun K hK=>?_)|((first | refine zH ?_ | refine zN rfl (by kernel_rfl) ?_ | refine zM ?_ | refine zK (by kernel_rfl) ?_);simp only [wJ,wI,strip])|((first | refine wIs fun K hK=>?_ | refine wOs fun K hK=>?_ | refine wQs fun K hK=>?_ | refine zU ?_ | refine zV ?_ | refine zW ?_ | refine zL ?_);simp [g1,g9,g10,g11,g5,g6,b5,hlt])|(refine wIn ?_;refine And.intro (by kernel_rfl) ?_;try simp only [zX])|(first | refine zQ ?_ | refine zS ?_)|((first | refine zI ?_ | refine zO ?_ | refine zP ?_);try simp)|((first | refine zR ?_ | refine wOn ?_ | refine wQn ?_);try simp only [zX])
   all_goals apply hr
   all_goals simp [Try.f19,g5,b5]
theorem wst_true (n : Int) : ∀ (l o : List Int), l.foldl (wst1 n) (o, true) = (o ++ but l n, true)
 | [],o=>by simp [but]
 | x :: l, o => by
  rw [List.foldl_cons]
  by_cases h : x = n
  ·rw [show wst1 n (o, true) x = (o, true) by simp [wst1, h], wst_true n l o]
   simp [but,h]
  ·rw [show wst1 n (o, true) x = (o ++ [x], true) by simp [wst1, h], wst_true n l (o ++ [x])]
   simp [but,h]
theorem wst_ins (n : Int) : ∀ (l o : List Int), (if (l.foldl (wst1 n) (o, false)).2 = true then (l.foldl (wst1 n) (o, false)).1 else (l.foldl (wst1 n) (o, false)).1 ++ [n]) = o ++ insI l n
 | [],o=>by simp [insI,but,atI]
 | x :: l, o => by
  rw [List.foldl_cons]
  by_cases h1 : n <= x
  ·have ha : atI (x :: l) n = 0 := by rw [atI, if_neg (by omega)]
   by_cases h : x = n
   ·rw [show wst1 n (o, false) x = (o ++ [n], true) by simp [wst1, h1, h], wst_true]
    simp only [if_true,insI,ha]
    simp [but,h]
   ·rw [show wst1 n (o, false) x = (o ++ [n] ++ [x], true) by simp [wst1, h1, h], wst_true]
    simp only [if_true,insI,ha]
    simp [but,h]
  ·have h : ¬ x = n := by omega
   rw [show wst1 n (o,false) x = (o ++ [x],false) by simp [wst1,h1,h],wst_ins n l (o ++ [x])]
   have ha : atI (x :: l) n = atI l n + 1:=by rw [atI,if_pos (by omega)]
   simp only [insI,ha]
   simp [but,h]
theorem wth_ins (l : List Int) (n : Int) : wth l n = insI l n := by
 unfold wth wst
 rw [wst_ins n l []];rfl
end Go.Proofs.Ytpilcadofjcdoaa
namespace Go.Proofs.Ytpilcadofjcdoaa
set_option linter.unusedSimpArgs false
set_option linter.unusedVariables false
open Go Go.Av
end Go.Proofs.Ytpilcadofjcdoaa
namespace Go.Proofs.Ytpilcadofjcdoaa
set_option linter.unusedSimpArgs false
set_option linter.unusedVariables false
open Go Go.Av
attribute [local irreducible] Go.Av.yQ Go.Av.zZ Go.Av.yG Go.Av.zT Go.Av.yH Go.Av.zY Go.Av.Con
def chr (b : UInt8) : Bool := decide (33 <= b.toNat /\ b.toNat <= 126 /\ b.toNat ≠ 47)
def nm (l : List UInt8) : Bool := decide (1 <= l.length /\ l.length <= 16 /\ l ≠ [46] /\ l ≠ [46, 46]) && l.all chr
theorem all_snocp (p : UInt8 -> Bool) (l : List UInt8) (k : Nat) (h : k < l.length) : (l.take (k + 1)).all p = ((l.take k).all p && p l[k]) := by
 rw [List.take_succ_eq_append_getElem h,List.all_append];simp
theorem not_all {l : List UInt8} {k : Nat} (h : k < l.length) (hc : chr l[k] = false) : l.all chr = false := by
 cases h2 : l.all chr with
 | false=>rfl
 | true =>
  rw [List.all_eq_true] at h2
  have:=h2 _ (List.getElem_mem h)
  rw [hc] at this;simp at this
theorem chr_cases (b : UInt8) : ((b.toNat : Int) < 33 /\ chr b = false) \/ (¬ (b.toNat : Int) < 33 /\ (126 : Int) < b.toNat /\ chr b = false) \/ (¬ (b.toNat : Int) < 33 /\ ¬ (126 : Int) < b.toNat /\ (b.toNat : Int) = 47 /\ chr b = false) \/ (¬ (b.toNat : Int) < 33 /\ ¬ (126 : Int) < b.toNat /\ ¬ (b.toNat : Int) = 47 /\ chr b = true) := by
 simp only [chr,decide_eq_true_eq,decide_eq_false_iff_not]
 omega
theorem isNameL {Q : AExit -> St -> Prop} {st : St} (l : List UInt8) (hl : l.length <= 16) (hret : l.all chr = false -> ∀ st, st.s 2 = .p (B false) -> Q .ret st)
 (hex : l.all chr = true -> ∀ st,Q (.exit 0) st) (h0 : st.s 21 = .p (.sl 1 (l.map fun b=>[.v (.int .u8 b.toNat)])) /\ st.s 22 = .p (I l.length) /\ st.s 23 = .p (I 0)) :
 WC Try.prog Try.T 38 (lp Try.f65 0) Q st:=by
 obtain ⟨g21,g22,g23⟩:=h0
 refine xS (fun N st=>∃ k,k + N = l.length /\ (l.take k).all chr = true /\ st.s 21 = .p (.sl 1 (l.map fun b=>[.v (.int .u8 b.toNat)])) /\ st.s 22 = .p (I l.length) /\ st.s 23 = .p (I k)) l.length ⟨0,by simp,by simp,g21,g22,g23⟩ fun K N st hL ⟨k,hk,ha,g21,g22,g23⟩=>?_
 by_cases hlt : k < l.length
 ·have hw := xY k _ hlt (by omega)
  have has:=all_snocp chr l k hlt
  rw [ha,Bool.true_and] at has
  rcases chr_cases l[k] with ⟨d1,hc⟩ | ⟨d1,d2,hc⟩ | ⟨d1,d2,d3,hc⟩ | ⟨d1,d2,d3,hc⟩
  ·repeat' first | (refine hK _ ?_; clear hK) | (refine hK _ _ ?_; clear hK) | (clear hK; refine hK _ ?_; clear hK) | (clear hK; clear hK; refine hK _ ?_; clear hK) | (clear hK; clear hK; clear hK; refine hK _ ?_; clear hK) | (clear hK; clear hK; clear hK; clear hK; refine hK _ ?_; clear hK) | (refine zJ fun K hK => ?_) | ((first | refine zH ?_ | refine zN rfl (by kernel_rfl) ?_ | refine zM ?_ | refine zK (by kernel_rfl) ?_); simp only [wJ, wI, strip]) | ((first | refine wIs fun K hK => ?_ | refine wOs fun K hK => ?_ | refine wQs fun K hK => ?_ | refine zU ?_ | refine zV ?_ | refine zW ?_ | refine zL ?_); simp [g21, g22, g23, hlt, hw, d1]) | (refine wIn ?_; refine And.intro (by kernel_rfl) ?_; try simp only [zX]) | (first | refine zQ ?_ | refine zS ?_) | ((first | refine zI ?_ | refine zO ?_ | refine zP ?_); try simp) | ((first | refine zR ?_ | refine wOn ?_ | refine wQn ?_); try simp only [zX])
   exact hret (not_all hlt hc) _ (by simp)
  ·repeat' first | (refine hK _ ?_; clear hK) | (refine hK _ _ ?_; clear hK) | (clear hK; refine hK _ ?_; clear hK) | (clear hK; clear hK; refine hK _ ?_; clear hK) | (clear hK; clear hK; clear hK; refine hK _ ?_; clear hK) | (clear hK; clear hK; clear hK; clear hK; refine hK _ ?_; clear hK) | (refine zJ fun K hK => ?_) | ((first | refine zH ?_ | refine zN rfl (by kernel_rfl) ?_ | refine zM ?_ | refine zK (by kernel_rfl) ?_); simp only [wJ, wI, strip]) | ((first | refine wIs fun K hK => ?_ | refine wOs fun K hK => ?_ | refine wQs fun K hK => ?_ | refine zU ?_ | refine zV ?_ | refine zW ?_ | refine zL ?_); simp [g21, g22, g23, hlt, hw, d1, d2]) | (refine wIn ?_; refine And.intro (by kernel_rfl) ?_; try simp only [zX]) | (first | refine zQ ?_ | refine zS ?_) | ((first | refine zI ?_ | refine zO ?_ | refine zP ?_); try simp) | ((first | refine zR ?_ | refine wOn ?_ | refine wQn ?_); try simp only [zX])
   exact hret (not_all hlt hc) _ (by simp)
  ·repeat' first | (refine hK _ ?_; clear hK) | (refine hK _ _ ?_; clear hK) | (clear hK; refine hK _ ?_; clear hK) | (clear hK; clear hK; refine hK _ ?_; clear hK) | (clear hK; clear hK; clear hK; refine hK _ ?_; clear hK) | (clear hK; clear hK; clear hK; clear hK; refine hK _ ?_; clear hK) | (refine zJ fun K hK => ?_) | ((first | refine zH ?_ | refine zN rfl (by kernel_rfl) ?_ | refine zM ?_ | refine zK (by kernel_rfl) ?_); simp only [wJ, wI, strip]) | ((first | refine wIs fun K hK => ?_ | refine wOs fun K hK => ?_ | refine wQs fun K hK => ?_ | refine zU ?_ | refine zV ?_ | refine zW ?_ | refine zL ?_); simp [g21, g22, g23, hlt, hw, d1, d2, d3]) | (refine wIn ?_; refine And.intro (by kernel_rfl) ?_; try simp only [zX]) | (first | refine zQ ?_ | refine zS ?_) | ((first | refine zI ?_ | refine zO ?_ | refine zP ?_); try simp) | ((first | refine zR ?_ | refine wOn ?_ | refine wQn ?_); try simp only [zX])
   exact hret (not_all hlt hc) _ (by simp)
  ·rw [hc] at has
   repeat' first|(refine hK _ ?_;clear hK)|(refine hK _ _ ?_;clear hK)|(clear hK;refine hK _ ?_;clear hK)|(clear hK;clear hK;refine hK _ ?_;clear hK)|(clear hK;clear hK;clear hK;refine hK _ ?_;clear hK)|(clear hK;clear hK;clear hK;clear hK;refine hK _ ?_;clear hK)|(refine zJ fun K hK=>?_)|((first | refine zH ?_ | refine zN rfl (by kernel_rfl) ?_ | refine zM ?_ | refine zK (by kernel_rfl) ?_);simp only [wJ,wI,strip])|((first | refine wIs fun K hK=>?_ | refine wOs fun K hK=>?_ | refine wQs fun K hK=>?_ | refine zU ?_ | refine zV ?_ | refine zW ?_ | refine zL ?_);simp [g21,g22,g23,hlt,hw,d1,d2,d3])|(refine wIn ?_;refine And.intro (by kernel_rfl) ?_;try simp only [zX])|(first | refine zQ ?_ | refine zS ?_)|((first | refine zI ?_ | refine zO ?_ | refine zP ?_);try simp)|((first | refine zR ?_ | refine wOn ?_ | refine wQn ?_);try simp only [zX])
   refine hL _ (N - 1) (by omega) ⟨k + 1,by omega,has,?_⟩
   simp [g21,g22,g23,hw]
 ·have e : l.take k = l := List.take_of_length_le (by omega)
  rw [e] at ha
  repeat' first|(refine hK _ ?_;clear hK)|(refine hK _ _ ?_;clear hK)|(clear hK;refine hK _ ?_;clear hK)|(clear hK;clear hK;refine hK _ ?_;clear hK)|(clear hK;clear hK;clear hK;refine hK _ ?_;clear hK)|(clear hK;clear hK;clear hK;clear hK;refine hK _ ?_;clear hK)|(refine zJ fun K hK=>?_)|((first | refine zH ?_ | refine zN rfl (by kernel_rfl) ?_ | refine zM ?_ | refine zK (by kernel_rfl) ?_);simp only [wJ,wI,strip])|((first | refine wIs fun K hK=>?_ | refine wOs fun K hK=>?_ | refine wQs fun K hK=>?_ | refine zU ?_ | refine zV ?_ | refine zW ?_ | refine zL ?_);simp [g21,g22,g23,hlt])|(refine wIn ?_;refine And.intro (by kernel_rfl) ?_;try simp only [zX])|(first | refine zQ ?_ | refine zS ?_)|((first | refine zI ?_ | refine zO ?_ | refine zP ?_);try simp)|((first | refine zR ?_ | refine wOn ?_ | refine wQn ?_);try simp only [zX])
  exact hex ha _
theorem isNameL2 {Q : AExit -> St -> Prop} {st : St} (l : List UInt8) (hl : l.length <= 16) (hret : l.all chr = false -> ∀ st, st.s 2 = .p (B false) -> Q .ret st)
 (hex : l.all chr = true -> ∀ st,Q (.exit 0) st) (h0 : st.s 0 = .p (SB l) /\ st.s 21 = .p (I l.length) /\ st.s 22 = .p (I 0)) :
 WC Try.prog Try.T 42 (lp Try.f51 0) Q st:=by
 obtain ⟨g0,g21,g22⟩:=h0
 refine xS (fun N st=>∃ k,k + N = l.length /\ (l.take k).all chr = true /\ st.s 0 = .p (SB l) /\ st.s 21 = .p (I l.length) /\ st.s 22 = .p (I k)) l.length ⟨0,by simp,by simp,g0,g21,g22⟩ fun K N st hL ⟨k,hk,ha,g0,g21,g22⟩=>?_
 by_cases hlt : k < l.length
 ·have hw := xY k _ hlt (by omega)
  have has:=all_snocp chr l k hlt
  rw [ha,Bool.true_and] at has
  rcases chr_cases l[k] with ⟨d1,hc⟩ | ⟨d1,d2,hc⟩ | ⟨d1,d2,d3,hc⟩ | ⟨d1,d2,d3,hc⟩
  ·repeat' first | (refine hK _ ?_; clear hK) | (refine hK _ _ ?_; clear hK) | (clear hK; refine hK _ ?_; clear hK) | (clear hK; clear hK; refine hK _ ?_; clear hK) | (clear hK; clear hK; clear hK; refine hK _ ?_; clear hK) | (clear hK; clear hK; clear hK; clear hK; refine hK _ ?_; clear hK) | (refine zJ fun K hK => ?_) | ((first | refine zH ?_ | refine zN rfl (by kernel_rfl) ?_ | refine zM ?_ | refine zK (by kernel_rfl) ?_); simp only [wJ, wI, strip]) | ((first | refine wIs fun K hK => ?_ | refine wOs fun K hK => ?_ | refine wQs fun K hK => ?_ | refine zU ?_ | refine zV ?_ | refine zW ?_ | refine zL ?_); simp [g0, g21, g22, hlt, hw, d1]) | (refine wIn ?_; refine And.intro (by kernel_rfl) ?_; try simp only [zX]) | (first | refine zQ ?_ | refine zS ?_) | ((first | refine zI ?_ | refine zO ?_ | refine zP ?_); try simp) | ((first | refine zR ?_ | refine wOn ?_ | refine wQn ?_); try simp only [zX])
   exact hret (not_all hlt hc) _ (by simp)
  ·repeat' first | (refine hK _ ?_; clear hK) | (refine hK _ _ ?_; clear hK) | (clear hK; refine hK _ ?_; clear hK) | (clear hK; clear hK; refine hK _ ?_; clear hK) | (clear hK; clear hK; clear hK; refine hK _ ?_; clear hK) | (clear hK; clear hK; clear hK; clear hK; refine hK _ ?_; clear hK) | (refine zJ fun K hK => ?_) | ((first | refine zH ?_ | refine zN rfl (by kernel_rfl) ?_ | refine zM ?_ | refine zK (by kernel_rfl) ?_); simp only [wJ, wI, strip]) | ((first | refine wIs fun K hK => ?_ | refine wOs fun K hK => ?_ | refine wQs fun K hK => ?_ | refine zU ?_ | refine zV ?_ | refine zW ?_ | refine zL ?_); simp [g0, g21, g22, hlt, hw, d1, d2]) | (refine wIn ?_; refine And.intro (by kernel_rfl) ?_; try simp only [zX]) | (first | refine zQ ?_ | refine zS ?_) | ((first | refine zI ?_ | refine zO ?_ | refine zP ?_); try simp) | ((first | refine zR ?_ | refine wOn ?_ | refine wQn ?_); try simp only [zX])
   exact hret (not_all hlt hc) _ (by simp)
  ·repeat' first | (refine hK _ ?_; clear hK) | (refine hK _ _ ?_; clear hK) | (clear hK; refine hK _ ?_; clear hK) | (clear hK; clear hK; refine hK _ ?_; clear hK) | (clear hK; clear hK; clear hK; refine hK _ ?_; clear hK) | (clear hK; clear hK; clear hK; clear hK; refine hK _ ?_; clear hK) | (refine zJ fun K hK => ?_) | ((first | refine zH ?_ | refine zN rfl (by kernel_rfl) ?_ | refine zM ?_ | refine zK (by kernel_rfl) ?_); simp only [wJ, wI, strip]) | ((first | refine wIs fun K hK => ?_ | refine wOs fun K hK => ?_ | refine wQs fun K hK => ?_ | refine zU ?_ | refine zV ?_ | refine zW ?_ | refine zL ?_); simp [g0, g21, g22, hlt, hw, d1, d2, d3]) | (refine wIn ?_; refine And.intro (by kernel_rfl) ?_; try simp only [zX]) | (first | refine zQ ?_ | refine zS ?_) | ((first | refine zI ?_ | refine zO ?_ | refine zP ?_); try simp) | ((first | refine zR ?_ | refine wOn ?_ | refine wQn ?_); try simp only [zX])
   exact hret (not_all hlt hc) _ (by simp)
  ·rw [hc] at has
   repeat' first|(refine hK _ ?_;clear hK)|(refine hK _ _ ?_;clear hK)|(clear hK;refine hK _ ?_;clear hK)|(clear hK;clear hK;refine hK _ ?_;clear hK)|(clear hK;clear hK;clear hK;refine hK _ ?_;clear hK)|(clear hK;clear hK;clear hK;clear hK;refine hK _ ?_;clear hK)|(refine zJ fun K hK=>?_)|((first | refine zH ?_ | refine zN rfl (by kernel_rfl) ?_ | refine zM ?_ | refine zK (by kernel_rfl) ?_);simp only [wJ,wI,strip])|((first | refine wIs fun K hK=>?_ | refine wOs fun K hK=>?_ | refine wQs fun K hK=>?_ | refine zU ?_ | refine zV ?_ | refine zW ?_ | refine zL ?_);simp [g0,g21,g22,hlt,hw,d1,d2,d3])|(refine wIn ?_;refine And.intro (by kernel_rfl) ?_;try simp only [zX])|(first | refine zQ ?_ | refine zS ?_)|((first | refine zI ?_ | refine zO ?_ | refine zP ?_);try simp)|((first | refine zR ?_ | refine wOn ?_ | refine wQn ?_);try simp only [zX])
   refine hL _ (N - 1) (by omega) ⟨k + 1,by omega,has,?_⟩
   simp [g0,g21,g22,hw]
 ·have e : l.take k = l := List.take_of_length_le (by omega)
  rw [e] at ha
  repeat' first|(refine hK _ ?_;clear hK)|(refine hK _ _ ?_;clear hK)|(clear hK;refine hK _ ?_;clear hK)|(clear hK;clear hK;refine hK _ ?_;clear hK)|(clear hK;clear hK;clear hK;refine hK _ ?_;clear hK)|(clear hK;clear hK;clear hK;clear hK;refine hK _ ?_;clear hK)|(refine zJ fun K hK=>?_)|((first | refine zH ?_ | refine zN rfl (by kernel_rfl) ?_ | refine zM ?_ | refine zK (by kernel_rfl) ?_);simp only [wJ,wI,strip])|((first | refine wIs fun K hK=>?_ | refine wOs fun K hK=>?_ | refine wQs fun K hK=>?_ | refine zU ?_ | refine zV ?_ | refine zW ?_ | refine zL ?_);simp [g0,g21,g22,hlt])|(refine wIn ?_;refine And.intro (by kernel_rfl) ?_;try simp only [zX])|(first | refine zQ ?_ | refine zS ?_)|((first | refine zI ?_ | refine zO ?_ | refine zP ?_);try simp)|((first | refine zR ?_ | refine wOn ?_ | refine wQn ?_);try simp only [zX])
  exact hex ha _
theorem isName_con (l : List UInt8) (hl : l.length <= 9223372036854775807) : zF Try.prog 65 [.p (SB l)] (.p (B (nm l))) := by
 by_cases h1 : l = []
 ·subst h1
  rw [show nm [] = false from rfl]
  refine zG Try.tab Try.mixed Try.func65 rfl rfl Try.ntmps65 (by simp) (by simp) fun Q hr hn=>?_
  repeat' first|(refine hK _ ?_;clear hK)|(refine hK _ _ ?_;clear hK)|(clear hK;refine hK _ ?_;clear hK)|(clear hK;clear hK;refine hK _ ?_;clear hK)|(clear hK;clear hK;clear hK;refine hK _ ?_;clear hK)|(clear hK;clear hK;clear hK;clear hK;refine hK _ ?_;clear hK)|(refine zJ fun K hK=>?_)|((first | refine zH ?_ | refine zN rfl (by kernel_rfl) ?_ | refine zM ?_ | refine zK (by kernel_rfl) ?_);simp only [wJ,wI,strip])|((first | refine wIs fun K hK=>?_ | refine wOs fun K hK=>?_ | refine wQs fun K hK=>?_ | refine zU ?_ | refine zV ?_ | refine zW ?_ | refine zL ?_);simp)|(refine wIn ?_;refine And.intro (by kernel_rfl) ?_;try simp only [zX])|(first | refine zQ ?_ | refine zS ?_)|((first | refine zI ?_ | refine zO ?_ | refine zP ?_);try simp)|((first | refine zR ?_ | refine wOn ?_ | refine wQn ?_);try simp only [zX])
  all_goals apply hr
  all_goals simp [Try.f65]
 by_cases h2 : l = [46]
 ·subst h2
  rw [show nm [46] = false from rfl]
  refine zG Try.tab Try.mixed Try.func65 rfl rfl Try.ntmps65 (by simp) (by simp) fun Q hr hn=>?_
  repeat' first|(refine hK _ ?_;clear hK)|(refine hK _ _ ?_;clear hK)|(clear hK;refine hK _ ?_;clear hK)|(clear hK;clear hK;refine hK _ ?_;clear hK)|(clear hK;clear hK;clear hK;refine hK _ ?_;clear hK)|(clear hK;clear hK;clear hK;clear hK;refine hK _ ?_;clear hK)|(refine zJ fun K hK=>?_)|((first | refine zH ?_ | refine zN rfl (by kernel_rfl) ?_ | refine zM ?_ | refine zK (by kernel_rfl) ?_);simp only [wJ,wI,strip])|((first | refine wIs fun K hK=>?_ | refine wOs fun K hK=>?_ | refine wQs fun K hK=>?_ | refine zU ?_ | refine zV ?_ | refine zW ?_ | refine zL ?_);simp)|(refine wIn ?_;refine And.intro (by kernel_rfl) ?_;try simp only [zX])|(first | refine zQ ?_ | refine zS ?_)|((first | refine zI ?_ | refine zO ?_ | refine zP ?_);try simp)|((first | refine zR ?_ | refine wOn ?_ | refine wQn ?_);try simp only [zX])
  all_goals apply hr
  all_goals simp [Try.f65]
 by_cases h3 : l = [46,46]
 ·subst h3
  rw [show nm [46,46] = false from rfl]
  refine zG Try.tab Try.mixed Try.func65 rfl rfl Try.ntmps65 (by simp) (by simp) fun Q hr hn=>?_
  repeat' first|(refine hK _ ?_;clear hK)|(refine hK _ _ ?_;clear hK)|(clear hK;refine hK _ ?_;clear hK)|(clear hK;clear hK;refine hK _ ?_;clear hK)|(clear hK;clear hK;clear hK;refine hK _ ?_;clear hK)|(clear hK;clear hK;clear hK;clear hK;refine hK _ ?_;clear hK)|(refine zJ fun K hK=>?_)|((first | refine zH ?_ | refine zN rfl (by kernel_rfl) ?_ | refine zM ?_ | refine zK (by kernel_rfl) ?_);simp only [wJ,wI,strip])|((first | refine wIs fun K hK=>?_ | refine wOs fun K hK=>?_ | refine wQs fun K hK=>?_ | refine zU ?_ | refine zV ?_ | refine zW ?_ | refine zL ?_);simp)|(refine wIn ?_;refine And.intro (by kernel_rfl) ?_;try simp only [zX])|(first | refine zQ ?_ | refine zS ?_)|((first | refine zI ?_ | refine zO ?_ | refine zP ?_);try simp)|((first | refine zR ?_ | refine wOn ?_ | refine wQn ?_);try simp only [zX])
  all_goals apply hr
  all_goals simp [Try.f65]
 by_cases h4 : 16 < l.length
 ·have hN : nm l = false := by simp [nm]; omega
  have h4' : (16 : Int) < l.length:=by omega
  rw [hN]
  refine zG Try.tab Try.mixed Try.func65 rfl rfl Try.ntmps65 (by simp) (by simp) fun Q hr hn=>?_
  repeat' first|(refine hK _ ?_;clear hK)|(refine hK _ _ ?_;clear hK)|(clear hK;refine hK _ ?_;clear hK)|(clear hK;clear hK;refine hK _ ?_;clear hK)|(clear hK;clear hK;clear hK;refine hK _ ?_;clear hK)|(clear hK;clear hK;clear hK;clear hK;refine hK _ ?_;clear hK)|(refine zJ fun K hK=>?_)|((first | refine zH ?_ | refine zN rfl (by kernel_rfl) ?_ | refine zM ?_ | refine zK (by kernel_rfl) ?_);simp only [wJ,wI,strip])|((first | refine wIs fun K hK=>?_ | refine wOs fun K hK=>?_ | refine wQs fun K hK=>?_ | refine zU ?_ | refine zV ?_ | refine zW ?_ | refine zL ?_);simp [h1,h2,h3,h4,h4'])|(refine wIn ?_;refine And.intro (by kernel_rfl) ?_;try simp only [zX])|(first | refine zQ ?_ | refine zS ?_)|((first | refine zI ?_ | refine zO ?_ | refine zP ?_);try simp)|((first | refine zR ?_ | refine wOn ?_ | refine wQn ?_);try simp only [zX])
  all_goals apply hr
  all_goals simp [Try.f65]
 ·have hlen : 1 <= l.length := List.length_pos_iff.2 h1
  have hN : nm l = l.all chr := by
   have : decide (1 <= l.length /\ l.length <= 16 /\ l ≠ [46] /\ l ≠ [46,46]) = true:=by simp [h2,h3];omega
   rw [nm,this,Bool.true_and]
  have h4' : ¬ (16 : Int) < l.length:=by omega
  have hlp:=fun {Q} {st} h h' h''=>isNameL (Q:=Q) (st:=st) l (by omega) h h' h''
  rw [hN]
  refine zG Try.tab Try.mixed Try.func65 rfl rfl Try.ntmps65 (by simp) (by simp) fun Q hr hn=>?_
  repeat' first|(refine hlp ?_ ?_ ⟨by simp,by simp,by simp⟩)|(refine hK _ ?_;clear hK)|(refine hK _ _ ?_;clear hK)|(clear hK;refine hK _ ?_;clear hK)|(clear hK;clear hK;refine hK _ ?_;clear hK)|(clear hK;clear hK;clear hK;refine hK _ ?_;clear hK)|(clear hK;clear hK;clear hK;clear hK;refine hK _ ?_;clear hK)|(refine zJ fun K hK=>?_)|((first | refine zH ?_ | refine zN rfl (by kernel_rfl) ?_ | refine zM ?_ | refine zK (by kernel_rfl) ?_);simp only [wJ,wI,strip])|((first | refine wIs fun K hK=>?_ | refine wOs fun K hK=>?_ | refine wQs fun K hK=>?_ | refine zU ?_ | refine zV ?_ | refine zW ?_ | refine zL ?_);simp [h1,h2,h3,h4,h4',hl])|(refine wIn ?_;refine And.intro (by kernel_rfl) ?_;try simp only [zX])|(first | refine zQ ?_ | refine zS ?_)|((first | refine zI ?_ | refine zO ?_ | refine zP ?_);try simp)|((first | refine zR ?_ | refine wOn ?_ | refine wQn ?_);try simp only [zX])
  ·intro ha st g2
   simp only [blockA_r,thenA_r]
   apply hr
   simp [Try.f65,g2,ha]
  ·intro ha st
   simp only [blockA_e,if_true,zX]
   repeat' first|(refine hK _ ?_;clear hK)|(refine hK _ _ ?_;clear hK)|(clear hK;refine hK _ ?_;clear hK)|(clear hK;clear hK;refine hK _ ?_;clear hK)|(clear hK;clear hK;clear hK;refine hK _ ?_;clear hK)|(clear hK;clear hK;clear hK;clear hK;refine hK _ ?_;clear hK)|(refine zJ fun K hK=>?_)|((first | refine zH ?_ | refine zN rfl (by kernel_rfl) ?_ | refine zM ?_ | refine zK (by kernel_rfl) ?_);simp only [wJ,wI,strip])|((first | refine wIs fun K hK=>?_ | refine wOs fun K hK=>?_ | refine wQs fun K hK=>?_ | refine zU ?_ | refine zV ?_ | refine zW ?_ | refine zL ?_);simp)|(refine wIn ?_;refine And.intro (by kernel_rfl) ?_;try simp only [zX])|(first | refine zQ ?_ | refine zS ?_)|((first | refine zI ?_ | refine zO ?_ | refine zP ?_);try simp)|((first | refine zR ?_ | refine wOn ?_ | refine wQn ?_);try simp only [zX])
   all_goals apply hr
   all_goals simp [Try.f65,ha]
theorem isName03_con (l : List UInt8) (hl : l.length <= 9223372036854775807) : zF Try.prog 51 [.p (SB l)] (.p (B (nm l))) := by
 by_cases h1 : l = []
 ·subst h1
  rw [show nm [] = false from rfl]
  refine zG Try.tab Try.mixed Try.func51 rfl rfl Try.ntmps51 (by simp) (by simp) fun Q hr hn=>?_
  repeat' first|(refine hK _ ?_;clear hK)|(refine hK _ _ ?_;clear hK)|(clear hK;refine hK _ ?_;clear hK)|(clear hK;clear hK;refine hK _ ?_;clear hK)|(clear hK;clear hK;clear hK;refine hK _ ?_;clear hK)|(clear hK;clear hK;clear hK;clear hK;refine hK _ ?_;clear hK)|(refine zJ fun K hK=>?_)|((first | refine zH ?_ | refine zN rfl (by kernel_rfl) ?_ | refine zM ?_ | refine zK (by kernel_rfl) ?_);simp only [wJ,wI,strip])|((first | refine wIs fun K hK=>?_ | refine wOs fun K hK=>?_ | refine wQs fun K hK=>?_ | refine zU ?_ | refine zV ?_ | refine zW ?_ | refine zL ?_);simp)|(refine wIn ?_;refine And.intro (by kernel_rfl) ?_;try simp only [zX])|(first | refine zQ ?_ | refine zS ?_)|((first | refine zI ?_ | refine zO ?_ | refine zP ?_);try simp)|((first | refine zR ?_ | refine wOn ?_ | refine wQn ?_);try simp only [zX])
  all_goals apply hr
  all_goals simp [Try.f51]
 by_cases h2 : l = [46]
 ·subst h2
  rw [show nm [46] = false from rfl]
  refine zG Try.tab Try.mixed Try.func51 rfl rfl Try.ntmps51 (by simp) (by simp) fun Q hr hn=>?_
  repeat' first|(refine hK _ ?_;clear hK)|(refine hK _ _ ?_;clear hK)|(clear hK;refine hK _ ?_;clear hK)|(clear hK;clear hK;refine hK _ ?_;clear hK)|(clear hK;clear hK;clear hK;refine hK _ ?_;clear hK)|(clear hK;clear hK;clear hK;clear hK;refine hK _ ?_;clear hK)|(refine zJ fun K hK=>?_)|((first | refine zH ?_ | refine zN rfl (by kernel_rfl) ?_ | refine zM ?_ | refine zK (by kernel_rfl) ?_);simp only [wJ,wI,strip])|((first | refine wIs fun K hK=>?_ | refine wOs fun K hK=>?_ | refine wQs fun K hK=>?_ | refine zU ?_ | refine zV ?_ | refine zW ?_ | refine zL ?_);simp)|(refine wIn ?_;refine And.intro (by kernel_rfl) ?_;try simp only [zX])|(first | refine zQ ?_ | refine zS ?_)|((first | refine zI ?_ | refine zO ?_ | refine zP ?_);try simp)|((first | refine zR ?_ | refine wOn ?_ | refine wQn ?_);try simp only [zX])
  all_goals apply hr
  all_goals simp [Try.f51]
 by_cases h3 : l = [46,46]
 ·subst h3
  rw [show nm [46,46] = false from rfl]
  refine zG Try.tab Try.mixed Try.func51 rfl rfl Try.ntmps51 (by simp) (by simp) fun Q hr hn=>?_
  repeat' first|(refine hK _ ?_;clear hK)|(refine hK _ _ ?_;clear hK)|(clear hK;refine hK _ ?_;clear hK)|(clear hK;clear hK;refine hK _ ?_;clear hK)|(clear hK;clear hK;clear hK;refine hK _ ?_;clear hK)|(clear hK;clear hK;clear hK;clear hK;refine hK _ ?_;clear hK)|(refine zJ fun K hK=>?_)|((first | refine zH ?_ | refine zN rfl (by kernel_rfl) ?_ | refine zM ?_ | refine zK (by kernel_rfl) ?_);simp only [wJ,wI,strip])|((first | refine wIs fun K hK=>?_ | refine wOs fun K hK=>?_ | refine wQs fun K hK=>?_ | refine zU ?_ | refine zV ?_ | refine zW ?_ | refine zL ?_);simp)|(refine wIn ?_;refine And.intro (by kernel_rfl) ?_;try simp only [zX])|(first | refine zQ ?_ | refine zS ?_)|((first | refine zI ?_ | refine zO ?_ | refine zP ?_);try simp)|((first | refine zR ?_ | refine wOn ?_ | refine wQn ?_);try simp only [zX])
  all_goals apply hr
  all_goals simp [Try.f51]
 have hlen : 1 <= l.length:=List.length_pos_iff.2 h1
 have hlen' : ¬ (l.length : Int) < 1:=by omega
 by_cases h4 : 16 < l.length
 ·have hN : nm l = false := by simp [nm]; omega
  have h4' : (16 : Int) < l.length:=by omega
  rw [hN]
  refine zG Try.tab Try.mixed Try.func51 rfl rfl Try.ntmps51 (by simp) (by simp) fun Q hr hn=>?_
  repeat' first|(refine hK _ ?_;clear hK)|(refine hK _ _ ?_;clear hK)|(clear hK;refine hK _ ?_;clear hK)|(clear hK;clear hK;refine hK _ ?_;clear hK)|(clear hK;clear hK;clear hK;refine hK _ ?_;clear hK)|(clear hK;clear hK;clear hK;clear hK;refine hK _ ?_;clear hK)|(refine zJ fun K hK=>?_)|((first | refine zH ?_ | refine zN rfl (by kernel_rfl) ?_ | refine zM ?_ | refine zK (by kernel_rfl) ?_);simp only [wJ,wI,strip])|((first | refine wIs fun K hK=>?_ | refine wOs fun K hK=>?_ | refine wQs fun K hK=>?_ | refine zU ?_ | refine zV ?_ | refine zW ?_ | refine zL ?_);simp [h1,h2,h3,h4,h4',hlen'])|(refine wIn ?_;refine And.intro (by kernel_rfl) ?_;try simp only [zX])|(first | refine zQ ?_ | refine zS ?_)|((first | refine zI ?_ | refine zO ?_ | refine zP ?_);try simp)|((first | refine zR ?_ | refine wOn ?_ | refine wQn ?_);try simp only [zX])
  all_goals apply hr
  all_goals simp [Try.f51]
 ·have hN : nm l = l.all chr := by
   have : decide (1 <= l.length /\ l.length <= 16 /\ l ≠ [46] /\ l ≠ [46,46]) = true:=by simp [h2,h3];omega
   rw [nm,this,Bool.true_and]
  have h4' : ¬ (16 : Int) < l.length:=by omega
  have hlp:=fun {Q} {st} h h' h''=>isNameL2 (Q:=Q) (st:=st) l (by omega) h h' h''
  rw [hN]
  refine zG Try.tab Try.mixed Try.func51 rfl rfl Try.ntmps51 (by simp) (by simp) fun Q hr hn=>?_
  repeat' first|(refine hlp ?_ ?_ ⟨by simp,by simp,by simp⟩)|(refine hK _ ?_;clear hK)|(refine hK _ _ ?_;clear hK)|(clear hK;refine hK _ ?_;clear hK)|(clear hK;clear hK;refine hK _ ?_;clear hK)|(clear hK;clear hK;clear hK;refine hK _ ?_;clear hK)|(clear hK;clear hK;clear hK;clear hK;refine hK _ ?_;clear hK)|(refine zJ fun K hK=>?_)|((first | refine zH ?_ | refine zN rfl (by kernel_rfl) ?_ | refine zM ?_ | refine zK (by kernel_rfl) ?_);simp only [wJ,wI,strip])|((first | refine wIs fun K hK=>?_ | refine wOs fun K hK=>?_ | refine wQs fun K hK=>?_ | refine zU ?_ | refine zV ?_ | refine zW ?_ | refine zL ?_);simp [h1,h2,h3,h4,h4',hlen'])|(refine wIn ?_;refine And.intro (by kernel_rfl) ?_;try simp only [zX])|(first | refine zQ ?_ | refine zS ?_)|((first | refine zI ?_ | refine zO ?_ | refine zP ?_);try simp)|((first | refine zR ?_ | refine wOn ?_ | refine wQn ?_);try simp only [zX])
  ·intro ha st g2
   simp only [blockA_r,thenA_r]
   apply hr
   simp [Try.f51,g2,ha]
  ·intro ha st
   simp only [blockA_e,if_true,zX]
   repeat' first|(refine hK _ ?_;clear hK)|(refine hK _ _ ?_;clear hK)|(clear hK;refine hK _ ?_;clear hK)|(clear hK;clear hK;refine hK _ ?_;clear hK)|(clear hK;clear hK;clear hK;refine hK _ ?_;clear hK)|(clear hK;clear hK;clear hK;clear hK;refine hK _ ?_;clear hK)|(refine zJ fun K hK=>?_)|((first | refine zH ?_ | refine zN rfl (by kernel_rfl) ?_ | refine zM ?_ | refine zK (by kernel_rfl) ?_);simp only [wJ,wI,strip])|((first | refine wIs fun K hK=>?_ | refine wOs fun K hK=>?_ | refine wQs fun K hK=>?_ | refine zU ?_ | refine zV ?_ | refine zW ?_ | refine zL ?_);simp)|(refine wIn ?_;refine And.intro (by kernel_rfl) ?_;try simp only [zX])|(first | refine zQ ?_ | refine zS ?_)|((first | refine zI ?_ | refine zO ?_ | refine zP ?_);try simp)|((first | refine zR ?_ | refine wOn ?_ | refine wQn ?_);try simp only [zX])
   all_goals apply hr
   all_goals simp [Try.f51,ha]
end Go.Proofs.Ytpilcadofjcdoaa
