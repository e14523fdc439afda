/- Texts that the proof needs: LD6 HV LE3. -/
import Derived.Test.YtffflakmofbilaaGreatP29LeadDone
import Derived.Test.YtffflakmofbilaaGreatP26LeadDone
import Derived.Test.YtffflakmofbilaaGreatP30LeadDone
import Derived.Test.YtffflakmofbilaaGreatP28LeadDone
import Derived.Test.YtffflakmofbilaaGreatP23LeadDone
namespace Go.Proofs.YtffflakmofbilaaGreat
set_option linter.unusedSimpArgs false
set_option linter.unusedVariables false
set_option maxRecDepth 8000
open Go Go.Av
attribute [local irreducible] Go.Av.yD Go.Av.zQ Go.Av.yC Go.Av.zJ Go.Av.xZ Go.Av.yT Go.Av.Con
structure Sq where
 p : Lq
 g : Bool
 o : List Mg
abbrev sqW (s : Sq) : List Blk := lW s.p s.g s.o
def Sq.send (s : Sq) (to : Int) (m : Mg) : Sq := { s with o := s.o ++ [xP s.p to m] }
def Sq.lay (s : Sq) (x : Lr) : Sq := { s with p := { s.p with ls := xK s.p.ls x } }
abbrev mgK (kd : Int) : Mg := mgZ 0 0 kd 0 0 ⟨0, 0⟩ []
structure OkS (n b : Nat) (s : Sq) : Prop where
 hk : OkH s.p.h
 ll : s.p.ls.length <= n
 lo : s.o.length <= b
 lm : ∀ y ∈ s.p.ls,y.ms.length <= 1000000
theorem OkS.mono {n b n' b' : Nat} {s : Sq} (h : OkS n b s) (h1 : n <= n') (h2 : b <= b') : OkS n' b' s := ⟨h.hk, Nat.le_trans h.ll h1, Nat.le_trans h.lo h2, h.lm⟩
theorem OkS.send {n b : Nat} {s : Sq} (h : OkS n b s) (to : Int) (m : Mg) : OkS n (b + 1) (s.send to m) := ⟨h.hk, h.ll, by have := h.lo; simp [Sq.send]; omega, h.lm⟩
theorem OkS.lay {n b : Nat} {s : Sq} (h : OkS n b s) {x : Lr} (hx : x.ms.length <= 1000000) : OkS (n + 1) b (s.lay x) := by
 refine ⟨h.hk,?_,h.lo,fun y hy=>?_⟩
 ·have := layL_len s.p.ls x
  have:=h.ll
  simp only [Sq.lay];omega
 ·rcases layL_mem hy with rfl | hy
  ·exact hx
  ·exact h.lm y hy
theorem OkS.needs {n b : Nat} {s : Sq} (h : OkS n b s) : (yY s.p.h s.p.d.e s.p.d.n).length <= 2 /\ ∀ c ∈ yY s.p.h s.p.d.e s.p.d.n, c.ms.length <= 1000 := ⟨endN_len _ _ _, needs_ok h.hk _ _⟩
theorem voterS_con {n b : Nat} {s : Sq} (h : OkS n b s) : Con Tryz.prog 50 [.ptr 1024 0] (sqW s) (.ret (.clo ⟨82, false⟩ [.rp [.sl 1 (ints (zB s.p))] 0]) [] (sqW s)) :=
 voter_con s.p s.g s.o h.hk (by have:=h.needs.1;omega) (fun c hc=>by have:=h.needs.2 c hc;omega)
structure Pn where
 (k : Int)
 (z : Zx)
 (im : Sv)
 (l : List Tx)
def vC (h : Hy) (ms : List Zx) : Pn := match lastIn (mks h) ms (mks h).length with
 | some i=>⟨if ms.getLast? = some ((mks h).getD i ⟨0,0⟩) then 1 else 2,(mks h).getD i ⟨0,0⟩,sv0,h.lg.drop i⟩
 | none=>⟨3,⟨0,0⟩,h.im,h.lg⟩
theorem makeP_eq (h : Hy) (ms : List Zx) : makeP h ms = [I (vC h ms).k, I (vC h ms).z.e, I (vC h ms).z.n, .sl 5 (zns (vC h ms).im.ns), .sl 1 (ints (vC h ms).im.ss), I (vC h ms).im.nx, I (vC h ms).im.c.ep, I (vC h ms).im.c.n, I (vC h ms).im.c.kind, .sl 4 (mbs (vC h ms).im.c.ms), I (vC h ms).im.ae, I (vC h ms).im.an, .sl 8 (zA (vC h ms).l)] := by
 unfold makeP vC
 generalize lastIn (mks h) ms (mks h).length = q
 cases q <;> rfl
def planM (n : Pn) : Mg := { mgK 5 with pk := n.k, pz := n.z, pim := n.im, pl := n.l }
def planH (p : Lq) (id : Int) : Hy := if id ∈ zB p then p.h else uptoH p.h p.d
def vD (s : Sq) (x : Lr) : Sq := (s.send x.id (planM (vC (planH s.p x.id) x.ms))).lay { x with ph := 3 }
theorem planS_ok {n b : Nat} {s : Sq} (h : OkS n b s) {x : Lr} (hx : x.ms.length <= 1000000) : OkS (n + 1) (b + 1) (vD s x) := OkS.lay (OkS.send h _ _) hx
theorem planH_ok {p : Lq} (hk : OkH p.h) (id : Int) : OkH (planH p id) := by
 unfold planH
 split
 ·exact hk
 ·unfold uptoH
  split
  ·exact hk.take _
  ·exact hk
def stayQ (p : Lq) : Bool := decide ((yY p.h p.d.e p.d.n).length = 1 /\ ¬ p.id ∈ zB p)
def stayS (s : Sq) : Sq := if stayQ s.p = true then { s with g := true } else s
theorem fold_snoc {α : Type} (f : Sq -> α -> Sq) (s : Sq) {l : List α} {k : Nat} (h : k < l.length) : (l.take (k + 1)).foldl f s = f ((l.take k).foldl f s) l[k] := by
 rw [List.take_succ_eq_append_getElem h,List.foldl_append];rfl
theorem fold_ok {f : Sq -> Lr -> Sq} {i j : Nat} : ∀ (l : List Lr) {n b : Nat} {s : Sq}, (∀ {n b : Nat} {s : Sq} {x : Lr}, OkS n b s -> x ∈ l -> OkS (n + i) (b + j) (f s x)) -> OkS n b s -> OkS (n + i * l.length) (b + j * l.length) (l.foldl f s)
 | [],n,b,s,_,h=>by simpa using h
 | x :: l, n, b, s, hf, h => by
  have:=fold_ok l (fun h hx=>hf h (List.mem_cons_of_mem _ hx)) (hf h (List.mem_cons_self ..))
  rw [List.foldl_cons]
  refine this.mono ?_ ?_ <;> (rw [List.length_cons,Nat.mul_add,Nat.mul_one];omega)
theorem vO {f : Sq -> Lr -> Sq} {i j : Nat} {l : List Lr} {n b : Nat} {s : Sq} (hf : ∀ {n b : Nat} {s : Sq} {x : Lr}, OkS n b s -> x ∈ l -> OkS (n + i) (b + j) (f s x)) (h : OkS n b s) (k : Nat) (hk : k <= l.length) : OkS (n + i * k) (b + j * k) ((l.take k).foldl f s) := by
 have:=fold_ok (f:=f) (i:=i) (j:=j) (l.take k) (fun h hx=>hf h (List.mem_of_mem_take hx)) h
 rwa [List.length_take,Nat.min_eq_left hk] at this
def xT (z : Zx) (s : Sq) (x : Lr) : Sq := if x.ph = 4 then s.send x.id { mgK 7 with z := z } else s
def xV (s : Sq) (x : Lr) : Sq := if x.ph = 2 then vD s x else s
def yG (v : List Int) (s : Sq) (x : Lr) : Sq := if x.ph = 2 /\ x.id ∈ v then vD s x else s
def yE (s : Sq) (x : Lr) : Sq := s.send x.id (mgK 3)
theorem eachReady_ok {z : Zx} {n b : Nat} {s : Sq} {x : Lr} (h : OkS n b s) : OkS (n + 0) (b + 1) (xT z s x) := by
 unfold xT
 split
 ·exact h.send _ _
 ·exact h.mono (by omega) (by omega)
theorem eachPlan_ok {n b : Nat} {s : Sq} {x : Lr} (h : OkS n b s) (hx : x.ms.length <= 1000000) : OkS (n + 1) (b + 1) (xV s x) := by
 unfold xV
 split
 ·exact planS_ok h hx
 ·exact h.mono (by omega) (by omega)
theorem eachPlanV_ok {v : List Int} {n b : Nat} {s : Sq} {x : Lr} (h : OkS n b s) (hx : x.ms.length <= 1000000) : OkS (n + 1) (b + 1) (yG v s x) := by
 unfold yG
 split
 ·exact planS_ok h hx
 ·exact h.mono (by omega) (by omega)
theorem eachEpoch_ok {n b : Nat} {s : Sq} {x : Lr} (h : OkS n b s) : OkS (n + 0) (b + 1) (yE s x) := h.send _ _
theorem xQ {α : Type} {f : Sq -> α -> Sq} (hf : ∀ s x, (f s x).p = s.p) : ∀ (l : List α) (s : Sq), (l.foldl f s).p = s.p
 | [],_=>rfl
 | x :: l,s=>by rw [List.foldl_cons,xQ hf l,hf]
theorem wK (z : Zx) (s : Sq) (x : Lr) : (xT z s x).p = s.p := by unfold xT; split <;> rfl
theorem vB (s : Sq) (x : Lr) : (yE s x).p = s.p := rfl
def estS (s : Sq) : Sq :=
 if yQ s.p (xS s.p.id 4 (yX s.p.h).e (yX s.p.h).n s.p.ls) = true then
  (fun s1 : Sq=>stayS (s1.p.ls.foldl xV (s1.p.ls.foldl (xT (yX s.p.h)) s1))) { s with p:={ s.p with ph:=3,wt:=0,d:=yX s.p.h } }
 else s
def wX (s : Sq) : Sq :=
 if ¬ s.p.ep = 0 /\ yQ s.p (xS s.p.id 2 0 0 s.p.ls) = true then
  (fun s1 : Sq=>estS (s1.p.ls.foldl (yG (zB s1.p)) s1)) { s with p:={ s.p with ph:=2,wt:=0,cu:=s.p.ep } }
 else s
def mostQ (p : Lq) : Int := p.ls.foldl (fun a x => if a < x.ac then x.ac else a) p.ac
def uR (s : Sq) : Sq :=
 if yQ s.p (xS s.p.id 1 0 0 s.p.ls) = true then
  (if vH (mostQ s.p) s.p.id = 0 then
   (fun s1 : Sq=>wX (s1.p.ls.foldl yE s1)) { s with p:={ s.p with ep:=xB (mostQ s.p) s.p.id,ac:=xB (mostQ s.p) s.p.id } }
  else { s with g:=true })
 else s
def yH (p : Lq) (m : Mg) : Lr := { (if (xN p.ls m.fr 1).2 = true then (xN p.ls m.fr 1).1 else { lrZ with id := m.fr, ph := 1 }) with ac := m.ep, q := 0 }
def infoS (s : Sq) (m : Mg) : Sq :=
 if ¬ s.p.ep = 0 /\ s.p.ep < m.ep then { s with g:=true }
 else if ¬ s.p.ep = 0 then (s.lay (yH s.p m)).send (yH s.p m).id (mgK 3) else uR (s.lay (yH s.p m))
def aheadQ (p : Lq) (m : Mg) : Bool := if ¬ m.cu = p.cu then decide (p.cu < m.cu) else decide (0 < xM (m.ms.getD (m.ms.length - 1) ⟨0, 0⟩).e (m.ms.getD (m.ms.length - 1) ⟨0, 0⟩).n (yX p.h).e (yX p.h).n)
def ackD (s : Sq) (m : Mg) : Sq := if 0 < xM m.z.e m.z.n s.p.d.e s.p.d.n /\ m.z ∈ mks s.p.h then { s with p := { s.p with d := m.z } } else s
def ackX (p : Lq) (m : Mg) : Lr := { (xN p.ls m.fr 1).1 with ph := 2, cu := m.cu, ms := m.ms, q := 0 }
def ackEpS (s : Sq) (m : Mg) : Sq :=
 if (xN s.p.ls m.fr 1).2 = false \/ m.ms.length = 0 then s
 else if s.p.ph = 1 then
  (if (xN s.p.ls m.fr 1).1.id ∈ zB (ackD s m).p /\ aheadQ (ackD s m).p m = true then { ackD s m with g:=true }
  else wX ((ackD s m).lay (ackX s.p m)))
 else if s.p.ph = 3 \/ (s.p.ph = 2 /\ (ackX s.p m).id ∈ zB (s.lay (ackX s.p m)).p) then vD (s.lay (ackX s.p m)) (ackX s.p m)
 else s.lay (ackX s.p m)
def Sq.each (s : Sq) (to kd : Int) (l : List Tx) : Sq := { s with o := s.o ++ eachQ s.p to kd l }
def vJ (v : List Int) (z : Zx) (l : List Tx) (s : Sq) (x : Lr) : Sq :=
 if x.ph = 4 /\ x.id ∈ v then s.send x.id { mgK 10 with z:=z } else if 3 <= x.ph /\ ¬ x.id ∈ v then s.each x.id 11 l else s
theorem eachCom_ok {v : List Int} {z : Zx} {l : List Tx} (hl : l.length <= 1000) {n b : Nat} {s : Sq} {x : Lr} (h : OkS n b s) : OkS (n + 0) (b + 1000) (vJ v z l s x) := by
 unfold vJ
 split
 ·exact (h.send _ _).mono (by omega) (by omega)
 ·split
  ·exact ⟨h.hk,h.ll,by have:=h.lo;simp [Sq.each,eachQ];omega,h.lm⟩
  ·exact h.mono (by omega) (by omega)
def comZ (p : Lq) : Zx := ⟨(comF p.h p.id p.ls p.h.lg 0 p.d.e p.d.n).1, (comF p.h p.id p.ls p.h.lg 0 p.d.e p.d.n).2⟩
def comS (s : Sq) : Sq :=
 if comZ s.p = s.p.d then s
 else (fun s1 : Sq=>stayS { s1 with p:={ s1.p with d:=comZ s.p } }) (s.p.ls.foldl (vJ (zB s.p) (comZ s.p) (comd s.p.d.e s.p.d.n (comZ s.p).e (comZ s.p).n s.p.h.lg)) s)
def syncX (p : Lq) (m : Mg) : Lr := { (xN p.ls m.fr 3).1 with ph := 4, ae := m.z.e, an := m.z.n, q := 0 }
def syncS (s : Sq) (m : Mg) : Sq :=
 if (xN s.p.ls m.fr 3).2 = false then s
 else if s.p.ph = 2 then estS (s.lay (syncX s.p m))
 else if s.p.ph = 3 then comS ((s.lay (syncX s.p m)).send (syncX s.p m).id { mgK 7 with z:=s.p.d })
 else s.lay (syncX s.p m)
def ackdX (p : Lq) (m : Mg) : Lr := { (xN p.ls m.fr 4).1 with ae := m.z.e, an := m.z.n, q := 0 }
def ackdS (s : Sq) (m : Mg) : Sq :=
 if (xN s.p.ls m.fr 4).2 = false \/ xM m.z.e m.z.n (xN s.p.ls m.fr 4).1.ae (xN s.p.ls m.fr 4).1.an <= 0 then s
 else if s.p.ph = 3 then comS (s.lay (ackdX s.p m)) else s.lay (ackdX s.p m)
def vE (l : List Lr) (id : Int) : List Lr := l.map fun x => if x.id = id then { x with q := 0 } else x
def pongS (s : Sq) (m : Mg) : Sq := { s with p := { s.p with ls := vE s.p.ls m.fr } }
def doS21 (s : Sq) (m : Mg) : Sq :=
 if m.kd = 2 then infoS s m else if m.kd = 4 then ackEpS s m else if m.kd = 6 then syncS s m else if m.kd = 9 then ackdS s m else if m.kd = 13 then pongS s m else s
def hearS (p : Lq) (m : Mg) : Sq := if p.mo = 2 /\ concQ { p with ls := yU p.ls } m then doS21 ⟨{ p with ls := yU p.ls }, false, []⟩ m else ⟨{ p with ls := yU p.ls }, false, []⟩
end Go.Proofs.YtffflakmofbilaaGreat
namespace Go.Proofs.YtffflakmofbilaaGreat
set_option linter.unusedSimpArgs false
set_option linter.unusedVariables false
open Go Go.Av
attribute [local irreducible] Go.Av.yD Go.Av.zQ Go.Av.yC Go.Av.zJ Go.Av.xZ Go.Av.yT Go.Av.Con
set_option maxHeartbeats 1000000 in
theorem marks16_con (h : Hy) (hl : h.lg.length <= 1000) : zG Tryz.prog 46 [.p (.agg h.cells)] (.p (.sl 2 (zxs (mks h)))) := by
 have hz0 : (mks h).take 1 = [⟨h.im.ae,h.im.an⟩]:=rfl
 have hmt:=mks_take h
 have hml:=mks_len h
 generalize mks h = M at *
 unfold Hy.cells at *
 refine zL Tryz.tab Tryz.mixed Tryz.func46 rfl rfl Tryz.ntmps46 (by simp) (by simp) fun Q hr hn=>?_
 repeat' first|(refine hK _ ?_;clear hK)|(refine zU fun K hK=>?_)|(refine zT ?_;simp only [uP,uO,strip])|(refine wOs fun K hK=>?_;simp)|(first | refine zW ?_)|(refine wOn ?_;try simp only [zZ])
 refine yW (fun N st=>∃ k,k + N = h.lg.length /\ st.s 11 = .p (.sl 8 (zA h.lg)) /\ st.s 12 = .p (I h.lg.length) /\ st.s 13 = .p (I k) /\ (k = 0 /\ st.s 3 = .full 2 (zxs (M.take 1)) \/ 0 < k /\ st.s 3 = .row 21 /\ st.b 21 = some (.row 25 2 (zxs (M.take (k + 1)))))) h.lg.length ⟨0,by simp [hz0,zxs]⟩ fun K N st hL ⟨k,hk,g11,g12,g13,hc⟩=>?_
 by_cases hlt : k < h.lg.length
 ·have hw := yV k _ hlt (by omega)
  have he:=xI hlt
  have hs:=zxs_app (M.take (k + 1)) [⟨h.lg[k].e,h.lg[k].n⟩]
  rw [<- hmt k hlt] at hs
  have hs' : zxs (M.take (k + 1)) ++ [[I h.lg[k].e,I h.lg[k].n]] = zxs (M.take (k + 1 + 1)):=hs.symm
  have hw1 : IntKind.i64.wrap 1 = 1:=by rw [zD] <;> omega
  have hln : (zxs (M.take (k + 1))).length <= 1001:=by rw [wO,List.length_take];omega
  rcases hc with ⟨rfl,g3⟩ | ⟨hk0,g3,b21⟩
  ·repeat' first | (refine Or.inl ?_) | (refine And.intro (by (try simp); omega) ?_) | (refine hK _ ?_; clear hK) | (refine zU fun K hK => ?_) | (refine zT ?_; simp only [uP, uO, strip]) | ((first | refine wOs fun K hK => ?_ | refine zX ?_); simp [g11, g12, g13, g3, hlt]) | (first | refine zW ?_) | (refine zR ?_; try simp) | (refine wOn ?_; try simp only [zZ])
   refine hL _ (N - 1) (by omega) ⟨1,by omega,?_⟩
   simp only [Nat.zero_add] at hs'
   simp [g11,g12,hw1,hs']
  ·repeat' first | (refine And.intro (by (try simp); omega) ?_) | (refine hK _ ?_; clear hK) | (refine zU fun K hK => ?_) | (refine zT ?_; simp only [uP, uO, strip]) | ((first | refine wOs fun K hK => ?_ | refine zX ?_); simp [g11, g12, g13, g3, b21, hlt, hw]) | (first | refine zW ?_) | (refine zR ?_; try simp) | (refine wOn ?_; try simp only [zZ])
   refine hL _ (N - 1) (by omega) ⟨k + 1,by omega,?_⟩
   simp [g11,g12,hs']
 ·have hk0 : k = h.lg.length := by omega
  rcases hc with ⟨h0,g3⟩ | ⟨hk0,g3,b21⟩
  ·rw [List.take_of_length_le (by omega)] at g3
   repeat' first|(refine hK _ ?_;clear hK)|(clear hK;refine hK _ ?_;clear hK)|(refine zU fun K hK=>?_)|(refine zT ?_;simp only [uP,uO,strip])|((first | refine wOs fun K hK=>?_ | refine zX ?_);simp [g12,g13,g3,hlt])|((first | refine zN ?_ | refine zH ?_);try simp)|(refine wOn ?_;try simp only [zZ])
   all_goals apply hr
   all_goals simp [Tryz.f46]
  ·rw [List.take_of_length_le (by omega)] at b21
   repeat' first|(refine hK _ ?_;clear hK)|(clear hK;refine hK _ ?_;clear hK)|(refine zU fun K hK=>?_)|(refine zT ?_;simp only [uP,uO,strip])|((first | refine wOs fun K hK=>?_ | refine zX ?_);simp [g12,g13,g3,hlt])|((first | refine zN ?_ | refine zH ?_);try simp)|(refine wOn ?_;try simp only [zZ])
   all_goals apply hr
   all_goals simp [Tryz.f46,b21]
def zlt (a b : Zx) : Prop := xM a.e a.n b.e b.n < 0
theorem zlt_iff (a b : Zx) : zlt a b ↔ a.e < b.e \/ a.e = b.e /\ a.n < b.n := by
 unfold zlt
 rw [zcmp_spec]
 repeat' split
 all_goals omega
theorem zlt_trans {a b c : Zx} (h : zlt a b) (g : zlt b c) : zlt a c := by rw [zlt_iff] at *; omega
def xW : List Zx -> Bool
 | []=>true
 | [_]=>true
 | a :: b :: l=>decide (xM a.e a.n b.e b.n < 0) && xW (b :: l)
theorem rises_all : ∀ (l : List Zx) (a : Zx), xW (a :: l) = true -> ∀ x ∈ l, zlt a x
 | [],_,_,x,hx=>by simp at hx
 | b :: l, a, h, x, hx => by
  simp only [xW,Bool.and_eq_true,decide_eq_true_eq] at h
  rcases List.mem_cons.1 hx with rfl | hx
  ·exact h.1
  ·exact zlt_trans h.1 (rises_all l b h.2 x hx)
theorem rises_tail {a : Zx} {l : List Zx} (h : xW (a :: l) = true) : xW l = true := by
 cases l with
 | nil=>rfl
 | cons b l=>simp only [xW,Bool.and_eq_true] at h;exact h.2
theorem rises_pw : ∀ {l : List Zx}, xW l = true -> l.Pairwise zlt
 | [],_=>.nil
 | a :: l,h=>.cons (rises_all l a h) (rises_pw (rises_tail h))
theorem pw_rises : ∀ {l : List Zx}, l.Pairwise zlt -> xW l = true
 | [],_=>rfl
 | [_],_=>rfl
 | a :: b :: l, .cons h g => by
  simp only [xW,Bool.and_eq_true,decide_eq_true_eq]
  exact ⟨h b (by simp),pw_rises g⟩
set_option maxHeartbeats 1000000 in
theorem check16_con (h : Hy) (hl : h.lg.length <= 1000) : zG Tryz.prog 30 [.p (.agg h.cells)] (.p (B (xW (mks h)))) := by
 have c1:=marks16_con h hl
 have hml:=mks_len h
 generalize mks h = M at *
 unfold Hy.cells at *
 refine zL Tryz.tab Tryz.mixed Tryz.func30 rfl rfl Tryz.ntmps30 (by simp) (by simp) fun Q hr hn=>?_
 repeat' first|(refine zQ.pure (c1) rfl ?_)|(refine hK _ ?_;clear hK)|(refine zU fun K hK=>?_)|(refine zT ?_;simp only [uP,uO,strip])|((first | refine wOs fun K hK=>?_ | refine zY ?_);simp)|(first | refine zW ?_)|(refine wOn ?_;try simp only [zZ])
 refine yW (fun N st=>∃ k,k + 1 + N = M.length /\ st.s 3 = .p (.sl 2 (zxs M)) /\ st.s 4 = .p (I ((k + 1 : Nat) : Int)) /\ xW (M.drop k) = xW M) (M.length - 1) ⟨0,by omega,by simp⟩ fun K N st hL ⟨k,hk,g3,g4,hi⟩=>?_
 by_cases hlt : k + 1 < M.length
 ·have hlt' : ((k + 1 : Nat) : Int) < M.length := by omega
  have hk0 : k < M.length:=by omega
  have hw : IntKind.i64.wrap (((k + 1 : Nat) : Int) + 1) = ((k + 1 + 1 : Nat) : Int):=by rw [zD] <;> omega
  have hw2 : IntKind.i64.wrap (((k + 1 : Nat) : Int) - 1) = (k : Int):=by rw [zD] <;> omega
  rw [List.drop_eq_getElem_cons hk0,List.drop_eq_getElem_cons hlt,xW,<- List.drop_eq_getElem_cons hlt] at hi
  have cc:=cmp02_con M[k].e M[k].n M[k + 1].e M[k + 1].n
  generalize xM M[k].e M[k].n M[k + 1].e M[k + 1].n = q at *
  generalize hj : k + 1 = j at *
  by_cases o : q < 0
  ·rw [decide_eq_true o, Bool.true_and] at hi
   have o' : ¬ (0 <= q):=by omega
   repeat' first|(refine zJ.pure (cc) rfl ?_)|(refine hK _ ?_;clear hK)|(refine zU fun K hK=>?_)|((first | refine zT ?_ | refine zE rfl (by kernel_rfl) ?_);simp only [uP,uO,strip])|((first | refine wOs fun K hK=>?_ | refine wQs fun K hK=>?_ | refine zK ?_ | refine zX ?_);simp [g3,g4,hlt,hlt',hk0,hw,hw2,o'])|(first | refine zW ?_)|(refine zR ?_;try simp)|((first | refine wOn ?_ | refine wQn ?_);try simp only [zZ])
   refine hL _ (N - 1) (by omega) ⟨j,by omega,?_⟩
   simp [g3,hi]
  ·rw [decide_eq_false o, Bool.false_and] at hi
   have o' : 0 <= q:=by omega
   rw [<- hi] at hr
   repeat' first|(refine zJ.pure (cc) rfl ?_)|(refine hK _ ?_;clear hK)|(refine zU fun K hK=>?_)|((first | refine zT ?_ | refine zE rfl (by kernel_rfl) ?_);simp only [uP,uO,strip])|((first | refine wOs fun K hK=>?_ | refine wQs fun K hK=>?_ | refine zK ?_ | refine zX ?_);simp [g3,g4,hlt,hlt',hk0,hw2,o'])|(first | refine zW ?_)|((first | refine zN ?_ | refine zR ?_);try simp)|((first | refine wOn ?_ | refine wQn ?_);try simp only [zZ])
   all_goals apply hr
   all_goals simp [Tryz.f30]
 ·have hlt' : ¬ ((k + 1 : Nat) : Int) < M.length := by omega
  have hd : xW (M.drop k) = true := by
   have : (M.drop k).length = 1:=by rw [List.length_drop];omega
   match hm : M.drop k,this with
   | [x],_=>rfl
  rw [hd] at hi
  rw [<- hi] at hr
  generalize k + 1 = j at *
  repeat' first|(refine hK _ ?_;clear hK)|(clear hK;refine hK _ ?_;clear hK)|(refine zU fun K hK=>?_)|(refine zT ?_;simp only [uP,uO,strip])|((first | refine wOs fun K hK=>?_ | refine zX ?_);simp [g3,g4,hlt'])|((first | refine zN ?_ | refine zH ?_);try simp)|(refine wOn ?_;try simp only [zZ])
  all_goals apply hr
  all_goals simp [Tryz.f30]
end Go.Proofs.YtffflakmofbilaaGreat
namespace Go.Proofs.YtffflakmofbilaaGreat
set_option linter.unusedSimpArgs false
set_option linter.unusedVariables false
set_option maxRecDepth 8000
open Go Go.Av
attribute [local irreducible] Go.Av.yD Go.Av.zQ Go.Av.yC Go.Av.zJ Go.Av.xZ Go.Av.yT Go.Av.Con
structure Ev21 where
 (k n : Int)
 (m : Mg)
 (t : Tx)
def Ev21.cells (e : Ev21) : List PV := [I e.k, I e.n, I e.m.fr, I e.m.to, I e.m.kd, I e.m.v0, I e.m.v1, I e.m.v2, I e.m.v3, I e.m.v4, I e.m.v5, I e.m.v6, I e.m.ep, I e.m.cu, I e.m.z.e, I e.m.z.n, .sl 2 (zxs e.m.ms), I e.m.pk, I e.m.pz.e, I e.m.pz.n, .sl 5 (zns e.m.pim.ns), .sl 1 (ints e.m.pim.ss), I e.m.pim.nx, I e.m.pim.c.ep, I e.m.pim.c.n, I e.m.pim.c.kind, .sl 4 (mbs e.m.pim.c.ms), I e.m.pim.ae, I e.m.pim.an, .sl 8 (zA e.m.pl), I e.m.tx.e, I e.m.tx.n, I e.m.tx.s, I e.m.tx.x, I e.m.tx.r, I e.m.tx.b, SB e.m.tx.m, .sl 11 (pts e.m.tx.ps), .sl 1 e.m.tc, I e.m.aK, I e.m.aS, I e.m.aX, .sl 6 e.m.ao, I e.m.adk, .sl 4 e.m.ap, .sl 1 e.m.ad, I e.m.awe, I e.m.awn, I e.t.e, I e.t.n, I e.t.s, I e.t.x, I e.t.r, I e.t.b, SB e.t.m, .sl 11 (pts e.t.ps)]
def evsC (l : List Ev21) : List (List PV) := l.map Ev21.cells
@[simp] theorem evsC_len (l : List Ev21) : (evsC l).length = l.length := by simp [evsC]
@[simp] theorem evsC_getElem (l : List Ev21) (k : Nat) (h : k < (evsC l).length) : (evsC l)[k] = [I (l[k]'(by simpa using h)).k, I (l[k]'(by simpa using h)).n, I (l[k]'(by simpa using h)).m.fr, I (l[k]'(by simpa using h)).m.to, I (l[k]'(by simpa using h)).m.kd, I (l[k]'(by simpa using h)).m.v0, I (l[k]'(by simpa using h)).m.v1, I (l[k]'(by simpa using h)).m.v2, I (l[k]'(by simpa using h)).m.v3, I (l[k]'(by simpa using h)).m.v4, I (l[k]'(by simpa using h)).m.v5, I (l[k]'(by simpa using h)).m.v6, I (l[k]'(by simpa using h)).m.ep, I (l[k]'(by simpa using h)).m.cu, I (l[k]'(by simpa using h)).m.z.e, I (l[k]'(by simpa using h)).m.z.n, .sl 2 (zxs (l[k]'(by simpa using h)).m.ms), I (l[k]'(by simpa using h)).m.pk, I (l[k]'(by simpa using h)).m.pz.e, I (l[k]'(by simpa using h)).m.pz.n, .sl 5 (zns (l[k]'(by simpa using h)).m.pim.ns), .sl 1 (ints (l[k]'(by simpa using h)).m.pim.ss), I (l[k]'(by simpa using h)).m.pim.nx, I (l[k]'(by simpa using h)).m.pim.c.ep, I (l[k]'(by simpa using h)).m.pim.c.n, I (l[k]'(by simpa using h)).m.pim.c.kind, .sl 4 (mbs (l[k]'(by simpa using h)).m.pim.c.ms), I (l[k]'(by simpa using h)).m.pim.ae, I (l[k]'(by simpa using h)).m.pim.an, .sl 8 (zA (l[k]'(by simpa using h)).m.pl), I (l[k]'(by simpa using h)).m.tx.e, I (l[k]'(by simpa using h)).m.tx.n, I (l[k]'(by simpa using h)).m.tx.s, I (l[k]'(by simpa using h)).m.tx.x, I (l[k]'(by simpa using h)).m.tx.r, I (l[k]'(by simpa using h)).m.tx.b, SB (l[k]'(by simpa using h)).m.tx.m, .sl 11 (pts (l[k]'(by simpa using h)).m.tx.ps), .sl 1 (l[k]'(by simpa using h)).m.tc, I (l[k]'(by simpa using h)).m.aK, I (l[k]'(by simpa using h)).m.aS, I (l[k]'(by simpa using h)).m.aX, .sl 6 (l[k]'(by simpa using h)).m.ao, I (l[k]'(by simpa using h)).m.adk, .sl 4 (l[k]'(by simpa using h)).m.ap, .sl 1 (l[k]'(by simpa using h)).m.ad, I (l[k]'(by simpa using h)).m.awe, I (l[k]'(by simpa using h)).m.awn, I (l[k]'(by simpa using h)).t.e, I (l[k]'(by simpa using h)).t.n, I (l[k]'(by simpa using h)).t.s, I (l[k]'(by simpa using h)).t.x, I (l[k]'(by simpa using h)).t.r, I (l[k]'(by simpa using h)).t.b, SB (l[k]'(by simpa using h)).t.m, .sl 11 (pts (l[k]'(by simpa using h)).t.ps)] := by simp [evsC, Ev21.cells]
theorem evsC_get {l : List Ev21} {k : Nat} (h : k < l.length) : (evsC l)[k]? = some l[k].cells := by simp [evsC, h]
abbrev hyZ (l : List Tx) : Hy := ⟨sv0, l⟩
structure SmallE (e : Ev21) : Prop where
 pl : SmallH ⟨e.m.pim,e.m.pl⟩
 tx : SmallH (hyZ [e.m.tx])
 t : SmallH (hyZ [e.t])
def nearE (e : Ev21) : Prop := e.m.ms.length <= 50 /\ wC (hyZ [e.t]) /\ wC ⟨e.m.pim, e.m.pl⟩ /\ wC (hyZ [e.m.tx])
instance (e : Ev21) : Decidable (nearE e) := by unfold nearE; infer_instance
def nearL (l : List Ev21) : Prop := l.length <= 60 /\ ∀ e ∈ l, nearE e
instance (l : List Ev21) : Decidable (nearL l) := by unfold nearL; infer_instance
set_option maxHeartbeats 8000000 in
theorem evs_con (l : List Ev21) (hs : ∀ e ∈ l, SmallE e) : zG Tryz.prog 8 [.p (.sl 56 (evsC l))] (.p (B (decide (¬ nearL l)))) := by
 refine zG.len ⟨Tryz.f8,Tryz.func8,rfl,rfl⟩ 0 _ _ rfl fun hlen=>?_
 simp only [evsC_len] at hlen
 by_cases q1 : 60 < l.length
 ·have q1' : (60 : Int) < l.length := by omega
  rw [show decide (¬ nearL l) = true from decide_eq_true fun h=>by have:=h.1;omega]
  refine zL Tryz.tab Tryz.mixed Tryz.func8 rfl rfl Tryz.ntmps8 (by simp) (by simp) fun Q hr hn=>?_
  repeat' first|(refine hK _ ?_;clear hK)|(refine zU fun K hK=>?_)|(refine zT ?_;simp only [uP,uO,strip])|((first | refine wOs fun K hK=>?_ | refine zX ?_);simp [q1'])|(refine zN ?_;try simp)|(refine wOn ?_;try simp only [zZ])
  all_goals apply hr
  all_goals simp [Tryz.f8]
 have q1' : ¬ (60 : Int) < l.length:=by omega
 refine zL Tryz.tab Tryz.mixed Tryz.func8 rfl rfl Tryz.ntmps8 (by simp) (by simp) fun Q hr hn=>?_
 repeat' first|(refine hK _ ?_;clear hK)|(refine zU fun K hK=>?_)|(refine zT ?_;simp only [uP,uO,strip])|((first | refine wOs fun K hK=>?_ | refine zX ?_);simp [q1'])|(first | refine zW ?_)|(refine zR ?_;try simp)|(refine wOn ?_;try simp only [zZ])
 refine yW (fun N st=>∃ k,k + N = l.length /\ (∀ j (hj : j < l.length),j < k -> nearE l[j]) /\ st.s 8 = .p (.sl 56 (evsC l)) /\ st.s 9 = .p (I l.length) /\ st.s 10 = .p (I k)) l.length ⟨0,by simp⟩ fun K N st hL ⟨k,hk,hn,g8,g9,g10⟩=>?_
 by_cases hlt : k < l.length
 ·have hw := yV k _ hlt hlen
  have he:=evsC_get hlt
  have hsk:=hs l[k] (List.getElem_mem hlt)
  have c0:=far21_con _ hsk.t
  have c1:=far21_con _ hsk.pl
  have c2:=far21_con _ hsk.tx
  have hbad : ¬ nearE l[k] -> decide (¬ nearL l) = true:=fun h=>decide_eq_true fun h'=>h (h'.2 _ (List.getElem_mem hlt))
  by_cases o1 : 50 < l[k].m.ms.length
  ·have o1' : (50 : Int) < l[k].m.ms.length := by omega
   rw [hbad fun h=>by have:=h.1;omega] at hr
   unfold Ev21.cells at he
   clear c0 c1 c2 hbad hsk
   repeat' first|(refine hK _ ?_;clear hK)|(refine zU fun K hK=>?_)|(refine zT ?_;simp only [uP,uO,strip])|((first | refine wOs fun K hK=>?_ | refine zX ?_);simp [g8,g9,g10,hlt,o1'])|(first | refine zW ?_)|((first | refine zN ?_ | refine zR ?_);try simp)|(refine wOn ?_;try simp only [zZ])
   all_goals apply hr
   all_goals simp [Tryz.f8]
  have o1' : ¬ (50 : Int) < l[k].m.ms.length:=by omega
  by_cases o0 : wC (hyZ [l[k].t])
  case neg =>
   rw [decide_eq_true o0] at c0
   rw [hbad fun h=>o0 h.2.1] at hr
   clear c1 c2 hbad hsk o0
   generalize hx : l[k] = x at *
   simp only [Hy.cells,zns,ints,mbs,zA,uO,uP,Tx.cells] at c0
   unfold Ev21.cells at he
   repeat' first|(refine zQ.pure (c0) rfl ?_)|(refine hK _ ?_;clear hK)|(refine zU fun K hK=>?_)|(refine zT ?_;simp only [uP,uO,strip])|((first | refine wOs fun K hK=>?_ | refine zY ?_ | refine zX ?_);simp [g8,g9,g10,hlt,o1',hx])|(first | refine zW ?_)|((first | refine zN ?_ | refine zR ?_);try simp)|(refine wOn ?_;try simp only [zZ])
   all_goals apply hr
   all_goals simp [Tryz.f8]
  rw [decide_eq_false (not_not_intro o0)] at c0
  by_cases o2 : wC ⟨l[k].m.pim,l[k].m.pl⟩
  case neg =>
   rw [decide_eq_true o2] at c1
   rw [hbad fun h=>o2 h.2.2.1] at hr
   clear c2 hbad hsk o2 o0
   generalize hx : l[k] = x at *
   simp only [Hy.cells,zns,ints,mbs,zA,uO,uP,Tx.cells] at c0
   simp only [Hy.cells] at c1
   unfold Ev21.cells at he
   repeat' first|(refine zQ.pure (c0) rfl ?_)|(refine zQ.pure (c1) rfl ?_)|(refine hK _ ?_;clear hK)|(refine zU fun K hK=>?_)|(refine zT ?_;simp only [uP,uO,strip])|((first | refine wOs fun K hK=>?_ | refine zY ?_ | refine zX ?_);simp [g8,g9,g10,hlt,o1',hx])|(first | refine zW ?_)|((first | refine zN ?_ | refine zR ?_);try simp)|(refine wOn ?_;try simp only [zZ])
   all_goals apply hr
   all_goals simp [Tryz.f8]
  rw [decide_eq_false (not_not_intro o2)] at c1
  by_cases o3 : wC (hyZ [l[k].m.tx])
  ·rw [decide_eq_false (not_not_intro o3)] at c2
   have hok : nearE l[k]:=⟨by omega,o0,o2,o3⟩
   clear hbad hsk o2 o3 o0
   generalize hx : l[k] = x at *
   simp only [Hy.cells,zns,ints,mbs,zA,uO,uP,Tx.cells] at c0 c2
   simp only [Hy.cells] at c1
   unfold Ev21.cells at he
   repeat' first|(refine zQ.pure (c0) rfl ?_)|(refine zQ.pure (c1) rfl ?_)|(refine zQ.pure (c2) rfl ?_)|(refine hK _ ?_;clear hK)|(refine zU fun K hK=>?_)|(refine zT ?_;simp only [uP,uO,strip])|((first | refine wOs fun K hK=>?_ | refine zY ?_ | refine zX ?_);simp [g8,g9,g10,hlt,hw,o1',hx])|(first | refine zW ?_)|(refine zR ?_;try simp)|(refine wOn ?_;try simp only [zZ])
   refine hL _ (N - 1) (by omega) ⟨k + 1,by omega,fun j hj hjk=>?_,?_⟩
   ·by_cases hjk' : j = k
    ·subst hjk';rw [hx];exact hok
    ·exact hn j hj (by omega)
   ·simp [g8,g9]
  ·rw [decide_eq_true o3] at c2
   rw [hbad fun h=>o3 h.2.2.2] at hr
   clear hbad hsk o2 o3 o0
   generalize hx : l[k] = x at *
   simp only [Hy.cells,zns,ints,mbs,zA,uO,uP,Tx.cells] at c0 c2
   simp only [Hy.cells] at c1
   unfold Ev21.cells at he
   repeat' first|(refine zQ.pure (c0) rfl ?_)|(refine zQ.pure (c1) rfl ?_)|(refine zQ.pure (c2) rfl ?_)|(refine hK _ ?_;clear hK)|(refine zU fun K hK=>?_)|(refine zT ?_;simp only [uP,uO,strip])|((first | refine wOs fun K hK=>?_ | refine zY ?_ | refine zX ?_);simp [g8,g9,g10,hlt,o1',hx])|(first | refine zW ?_)|((first | refine zN ?_ | refine zR ?_);try simp)|(refine wOn ?_;try simp only [zZ])
   all_goals apply hr
   all_goals simp [Tryz.f8]
 ·rw [show decide (¬ nearL l) = false from decide_eq_false fun h => h ⟨by omega, fun e he => by
   obtain ⟨j,hj,rfl⟩:=List.getElem_of_mem he
   exact hn j hj (by omega)⟩] at hr
  repeat' first|(refine hK _ ?_;clear hK)|(clear hK;refine hK _ ?_;clear hK)|(refine zU fun K hK=>?_)|(refine zT ?_;simp only [uP,uO,strip])|((first | refine wOs fun K hK=>?_ | refine zX ?_);simp [g9,g10,hlt])|((first | refine zN ?_ | refine zH ?_);try simp)|(refine wOn ?_;try simp only [zZ])
  all_goals apply hr
  all_goals simp [Tryz.f8]
structure Wh where
 (id ac cu : Int)
 (h : Hy)
def Wh.cells (w : Wh) : List PV := [I w.id, I w.ac, I w.cu, .sl 5 (zns w.h.im.ns), .sl 1 (ints w.h.im.ss), I w.h.im.nx, I w.h.im.c.ep, I w.h.im.c.n, I w.h.im.c.kind, .sl 4 (mbs w.h.im.c.ms), I w.h.im.ae, I w.h.im.an, .sl 8 (zA w.h.lg)]
def mayW (w : Wh) : Prop := 0 <= w.id /\ w.id < 16 /\ 0 <= w.ac /\ wC w.h /\ xW (mks w.h) = true /\ check w.h.im.c = 0
instance (w : Wh) : Decidable (mayW w) := by unfold mayW; infer_instance
set_option maxHeartbeats 4000000 in
theorem may_con (w : Wh) (hs : SmallH w.h) : zG Tryz.prog 7 [.p (.agg w.cells)] (.p (B (decide (mayW w)))) := by
 have c1:=far21_con w.h hs
 have hm : mayW w ↔ 0 <= w.id /\ w.id < 16 /\ 0 <= w.ac /\ wC w.h /\ xW (mks w.h) = true /\ check w.h.im.c = 0:=Iff.rfl
 unfold Hy.cells at c1
 unfold Wh.cells
 by_cases h1 : 0 <= w.id
 case neg =>
  rw [decide_eq_false (fun h=>h1 (hm.1 h).1)]
  refine zL Tryz.tab Tryz.mixed Tryz.func7 rfl rfl Tryz.ntmps7 (by simp) (by simp) fun Q hr hn=>?_
  repeat' first|(refine hK _ ?_;clear hK)|(refine zU fun K hK=>?_)|(refine zT ?_;simp only [uP,uO,strip])|(refine wOs fun K hK=>?_;simp [h1])|(refine zN ?_;try simp)|(refine wOn ?_;try simp only [zZ])
  all_goals apply hr
  all_goals simp [Tryz.f7]
 by_cases h2 : w.id < 16
 case neg =>
  rw [decide_eq_false (fun h=>h2 (hm.1 h).2.1)]
  have h2' : 16 <= w.id:=by omega
  refine zL Tryz.tab Tryz.mixed Tryz.func7 rfl rfl Tryz.ntmps7 (by simp) (by simp) fun Q hr hn=>?_
  repeat' first|(refine hK _ ?_;clear hK)|(refine zU fun K hK=>?_)|(refine zT ?_;simp only [uP,uO,strip])|(refine wOs fun K hK=>?_;simp [h1,h2])|(refine zN ?_;try simp)|(refine wOn ?_;try simp only [zZ])
  all_goals apply hr
  all_goals simp [Tryz.f7]
 by_cases h3 : 0 <= w.ac
 case neg =>
  rw [decide_eq_false (fun h=>h3 (hm.1 h).2.2.1)]
  refine zL Tryz.tab Tryz.mixed Tryz.func7 rfl rfl Tryz.ntmps7 (by simp) (by simp) fun Q hr hn=>?_
  repeat' first|(refine hK _ ?_;clear hK)|(refine zU fun K hK=>?_)|(refine zT ?_;simp only [uP,uO,strip])|(refine wOs fun K hK=>?_;simp [h1,h2,h3])|(refine zN ?_;try simp)|(refine wOn ?_;try simp only [zZ])
  all_goals apply hr
  all_goals simp [Tryz.f7]
 by_cases h7 : wC w.h
 case neg =>
  rw [decide_eq_false (fun h=>h7 (hm.1 h).2.2.2.1)]
  rw [decide_eq_true h7] at c1
  clear h7
  refine zL Tryz.tab Tryz.mixed Tryz.func7 rfl rfl Tryz.ntmps7 (by simp) (by simp) fun Q hr hn=>?_
  repeat' first|(refine zQ.pure (c1) rfl ?_)|(refine hK _ ?_;clear hK)|(refine zU fun K hK=>?_)|(refine zT ?_;simp only [uP,uO,strip])|((first | refine wOs fun K hK=>?_ | refine zY ?_);simp [h1,h2,h3])|(refine zN ?_;try simp)|(refine wOn ?_;try simp only [zZ])
  all_goals apply hr
  all_goals simp [Tryz.f7]
 have c2:=check16_con w.h (by have:=h7.1;omega)
 have c3:=check04_con w.h.im.c (by have:=h7.2.2;unfold wH at this;omega)
 unfold Hy.cells at c2
 unfold Cf.cells at c3
 rw [decide_eq_false (not_not_intro h7)] at c1
 by_cases h8 : xW (mks w.h) = true
 case neg =>
  rw [decide_eq_false (fun h=>h8 (hm.1 h).2.2.2.2.1)]
  rw [Bool.not_eq_true] at h8
  rw [h8] at c2
  clear h7 hm
  refine zL Tryz.tab Tryz.mixed Tryz.func7 rfl rfl Tryz.ntmps7 (by simp) (by simp) fun Q hr hn=>?_
  repeat' first|(refine zQ.pure (c1) rfl ?_)|(refine zQ.pure (c2) rfl ?_)|(refine hK _ ?_;clear hK)|(refine zU fun K hK=>?_)|(refine zT ?_;simp only [uP,uO,strip])|((first | refine wOs fun K hK=>?_ | refine zY ?_);simp [h1,h2,h3])|(refine zN ?_;try simp)|(refine wOn ?_;try simp only [zZ])
  all_goals apply hr
  all_goals simp [Tryz.f7]
 rw [h8] at c2
 rw [show decide (mayW w) = decide (check w.h.im.c = 0) by
  rw [Bool.eq_iff_iff,decide_eq_true_iff,decide_eq_true_iff,hm]
  exact ⟨fun h=>h.2.2.2.2.2,fun h=>⟨h1,h2,h3,h7,h8,h⟩⟩]
 generalize check w.h.im.c = ce at *
 clear h7 hm h8
 by_cases h9 : ce = 0
 ·rw [decide_eq_true h9]
  replace h9 : (ce = 0) = True:=eq_true h9
  refine zL Tryz.tab Tryz.mixed Tryz.func7 rfl rfl Tryz.ntmps7 (by simp) (by simp) fun Q hr hn=>?_
  repeat' first|(refine zQ.pure (c1) rfl ?_)|(refine zQ.pure (c2) rfl ?_)|(refine zQ.pure (c3) rfl ?_)|(refine hK _ ?_;clear hK)|(refine zU fun K hK=>?_)|(refine zT ?_;simp only [uP,uO,strip])|((first | refine wOs fun K hK=>?_ | refine zY ?_);simp [h1,h2,h3])|(refine zN ?_;try simp)|(refine wOn ?_;try simp only [zZ])
  all_goals apply hr
  all_goals simp [Tryz.f7,h9]
 ·rw [decide_eq_false h9]
  replace h9 : (ce = 0) = False:=eq_false h9
  refine zL Tryz.tab Tryz.mixed Tryz.func7 rfl rfl Tryz.ntmps7 (by simp) (by simp) fun Q hr hn=>?_
  repeat' first|(refine zQ.pure (c1) rfl ?_)|(refine zQ.pure (c2) rfl ?_)|(refine zQ.pure (c3) rfl ?_)|(refine hK _ ?_;clear hK)|(refine zU fun K hK=>?_)|(refine zT ?_;simp only [uP,uO,strip])|((first | refine wOs fun K hK=>?_ | refine zY ?_);simp [h1,h2,h3])|(refine zN ?_;try simp)|(refine wOn ?_;try simp only [zZ])
  all_goals apply hr
  all_goals simp [Tryz.f7,h9]
theorem base16_con (h : Hy) : zG Tryz.prog 16 [.p (.agg h.cells)] (.p (.agg [I h.im.ae, I h.im.an])) := by
 unfold Hy.cells
 refine zL Tryz.tab Tryz.mixed Tryz.func16 rfl rfl Tryz.ntmps16 (by simp) (by simp) fun Q hr hn=>?_
 repeat' first|(refine hK _ ?_;clear hK)|(refine zU fun K hK=>?_)|(refine zT ?_;simp only [uP,uO,strip])|(refine wOs fun K hK=>?_;simp)|(refine zN ?_;try simp)|(refine wOn ?_;try simp only [zZ])
 all_goals apply hr
 all_goals simp [Tryz.f16]
def beg (w : Wh) : Lq := ⟨w.id, w.ac, w.cu, w.h, ⟨w.h.im.ae, w.h.im.an⟩, 0, 0, 0, 0, 0, []⟩
theorem begin21_con (w : Wh) : zG Tryz.prog 11 [.p (I w.id), .p (I w.ac), .p (I w.cu), .p (.agg w.h.cells)] (.p (.agg (beg w).cells)) := by
 have c1:=base16_con w.h
 unfold Hy.cells at c1
 unfold beg Lq.cells Hy.cells
 dsimp only
 refine zL Tryz.tab Tryz.mixed Tryz.func11 rfl rfl Tryz.ntmps11 (by simp) (by simp) fun Q hr hn=>?_
 repeat' first|(refine yT.pure (c1) rfl ?_)|(refine hK _ ?_;clear hK)|(refine hK _ _ ?_;clear hK)|(refine zU fun K hK=>?_)|((first | refine zT ?_ | refine yI ?_);simp only [uP,uO,strip])|((first | refine wIs fun K hK=>?_ | refine wOs fun K hK=>?_ | refine yR ?_);simp)|(refine wIn ?_;refine And.intro (by kernel_rfl) ?_;try simp only [zZ])|(refine zN ?_;try simp)|(refine wOn ?_;try simp only [zZ])
 all_goals apply hr
 all_goals simp [Tryz.f11,show lrs [] = [] from rfl]
theorem three_con : zG Tryz.prog 33 [] (.p (.agg [I 0, I 0, I 1, .sl 4 [[I 0, I 1, I 0, I 0], [I 1, I 1, I 0, I 0], [I 2, I 1, I 0, I 0]]])) :=
 by
 refine zL Tryz.tab Tryz.mixed Tryz.func33 rfl rfl Tryz.ntmps33 (by simp) (by simp) fun Q hr hn=>?_
 repeat' first|(refine hK _ ?_;clear hK)|(refine hK _ _ ?_;clear hK)|(refine zU fun K hK=>?_)|((first | refine zT ?_ | refine zE rfl (by kernel_rfl) ?_ | refine yI ?_);simp only [uP,uO,strip])|((first | refine wIs fun K hK=>?_ | refine wOs fun K hK=>?_ | refine wQs fun K hK=>?_ | refine zY ?_ | refine zK ?_ | refine yR ?_ | refine zX ?_);simp)|(refine wIn ?_;refine And.intro (by kernel_rfl) ?_;try simp only [zZ])|((first | refine zN ?_ | refine zH ?_ | refine zR ?_);try simp)|((first | refine wLabel ?_ | refine wOn ?_ | refine wQn ?_);try simp only [zZ])
 all_goals apply hr
 all_goals simp [Tryz.f33]
end Go.Proofs.YtffflakmofbilaaGreat
