/- Texts that the proof needs: XN XO XP HI KCM LD6 HV LE3. -/
import Derived.Test.YtffflakmofbilaaGreatP30LeadOrder
import Derived.Test.YtffflakmofbilaaGreatP24LeadOrder
import Derived.Test.YtffflakmofbilaaGreatP25LeadOrder
import Derived.Test.YtffflakmofbilaaGreatP27LeadOrder
import Derived.Test.YtffflakmofbilaaGreatP29LeadOrder
namespace Go.Proofs.YtffflakmofbilaaGreat
set_option linter.unusedSimpArgs false
set_option linter.unusedVariables false
open Go Go.Av
attribute [local irreducible] Go.Av.yA Go.Av.zR Go.Av.xZ Go.Av.zJ Go.Av.xV Go.Av.zG Go.Av.Con
def stepP (s : Sv) (p : Pt) : Sv :=
 if p.k = 1 then { s with ns:=putZ s.ns p.z } else if p.k = 2 then { s with ns:=gone s.ns p.z.p }
 else if p.k = 3 then { s with ss:=opnL s.ss p.s,nx:=opnN s.nx p.s } else if p.k = 4 then { s with ss:=but s.ss p.s }
 else if p.k = 5 then { s with c:=p.c } else s
def runP (s : Sv) (l : List Pt) : Sv := l.foldl stepP s
def lateS (s : Sv) (e n : Int) : Sv := { s with ae := (uO [⟨s.ae, s.an⟩, ⟨e, n⟩]).e, an := (uO [⟨s.ae, s.an⟩, ⟨e, n⟩]).n }
def doS (s : Sv) (t : Tx) : Sv := lateS (runP s t.ps) t.e t.n
def okC (c : Cf) : Prop := c.ms.length <= 4398046510976
def startS (c : Cf) : Sv := ⟨[⟨[47], [], 0, 0, 0⟩], [], 1, c, 0, 0⟩
structure Fits (s : Sv) (n : Nat) : Prop where
 ns : s.ns.length + n <= 1000000
 ss : s.ss.length + n <= 1000000
 c : okC s.c
theorem start08_con (c : Cf) (hc : okC c) : zB Tryz.prog 32 [.p (.agg c.cells)] (.p (.agg (startS c).cells)) := by
 have c1:=root07_con
 have c2:=copied08_con c.ep c.n c.kind (mbs c.ms) (by rw [mbs_len];exact hc)
 unfold startS Sv.cells Cf.cells
 dsimp only
 generalize zns [⟨[47],[],0,0,0⟩] = r at c1 ⊢
 rw [show ints [] = [] from rfl]
 refine zK Tryz.tab Tryz.mixed Tryz.func32 rfl rfl Tryz.ntmps32 (by simp) (by simp) fun Q hr hn=>?_
 repeat' first|(refine hK _ ?_;clear hK)|(refine hK _ _ ?_;clear hK)|(refine zT fun K hK=>?_)|((first | refine zS ?_ | refine yI ?_);simp only [tZ,tY,strip])|((first | refine wIs fun K hK=>?_ | refine wOs fun K hK=>?_ | refine zF ?_);simp)|(refine wIn ?_;refine And.intro (by kernel_rfl) ?_;try simp only [zZ])|(refine zL ?_;try simp)|(refine wOn ?_;try simp only [zZ])|(refine zG.pure (c1) rfl ?_)|(refine zG.pure (c2) rfl ?_)
 all_goals apply hr
 all_goals simp [Tryz.f32]
theorem txns_snoc (l : List Tx) (t : Tx) : yW l ++ [[I t.e, I t.n, I t.s, I t.x, I t.r, I t.b, SB t.m, .sl 11 (pts t.ps)]] = yW (l ++ [t]) := by simp [yW, Tx.cells]
def wR (fe fn te tn : Int) (l : List Tx) : List Tx := l.filter fun t => decide (0 < xN t.e t.n fe fn /\ xN t.e t.n te tn <= 0)
theorem comd_snoc (fe fn te tn : Int) {l : List Tx} {k : Nat} (h : k < l.length) : wR fe fn te tn (l.take (k + 1)) = if 0 < xN l[k].e l[k].n fe fn /\ xN l[k].e l[k].n te tn <= 0 then wR fe fn te tn (l.take k) ++ [l[k]] else wR fe fn te tn (l.take k) := by
 rw [List.take_succ_eq_append_getElem h]
 unfold wR
 rw [List.filter_append]
 by_cases g : 0 < xN l[k].e l[k].n fe fn /\ xN l[k].e l[k].n te tn <= 0
 ·rw [if_pos g,List.filter_cons,if_pos (decide_eq_true g)];simp
 ·rw [if_neg g,List.filter_cons,if_neg (by simpa using g)];simp
theorem comd_len (fe fn te tn : Int) (l : List Tx) : (wR fe fn te tn l).length <= l.length := List.length_filter_le _ _
set_option maxHeartbeats 4000000 in
theorem committed_con (h : Hy) (fe fn te tn : Int) (hk : OkH h) : zB Tryz.prog 51 [.p (.agg h.cells), .p (.agg [I fe, I fn]), .p (.agg [I te, I tn])] (.p (.sl 8 (yW (wR fe fn te tn h.lg)))) := by
 have hlg:=hk.lg
 unfold Hy.cells
 refine zK Tryz.tab Tryz.mixed Tryz.func51 rfl rfl Tryz.ntmps51 (by simp) (by simp) fun Q hr hn=>?_
 repeat' first|(refine hK _ ?_;clear hK)|(refine zT fun K hK=>?_)|(refine zS ?_;simp only [tZ,tY,strip])|(refine wOs fun K hK=>?_;simp)|(first | refine zU ?_)|(refine wOn ?_;try simp only [zZ])
 refine wLoopG [.row 7 58 8] (fun N st=>∃ (k : Nat),k + N = h.lg.length /\ st.s 4 = .ptr 4 0 /\ st.b 4 = some (.box 25 [.p (I fe),.p (I fn)]) /\ st.s 5 = .ptr 5 0 /\ st.b 5 = some (.box 25 [.p (I te),.p (I tn)]) /\ st.s 7 = .row 7 /\ st.b 7 = some (.row 58 8 (yW (wR fe fn te tn (h.lg.take k)))) /\ st.s 11 = .p (.sl 8 (yW h.lg)) /\ st.s 12 = .p (I h.lg.length) /\ st.s 13 = .p (I k)) h.lg.length ⟨0,by simp [uY,gh1,wR,yW]⟩ fun K N st hL ⟨k,hkN,g4,b4,g5,b5,g7,b7,gs,gl,gk⟩=>?_
 by_cases hlt : k < h.lg.length
 ·have hlt' : (k : Int) < h.lg.length := by omega
  have hw:=yF k _ hlt (by omega)
  have he:=wC hlt
  have c1:=uD h.lg[k].e h.lg[k].n fe fn
  have c2:=uD h.lg[k].e h.lg[k].n te tn
  have hsn:=comd_snoc fe fn te tn hlt
  have hcl:=comd_len fe fn te tn (h.lg.take k)
  rw [List.length_take] at hcl
  obtain ⟨hp1,hp2⟩:=hk.ps _ (List.getElem_mem hlt)
  have c3:=ownTxn_con h.lg[k] hp1 hp2
  unfold Tx.cells at c3
  have s1:=txns_snoc (wR fe fn te tn (h.lg.take k)) h.lg[k]
  by_cases o1 : 0 < xN h.lg[k].e h.lg[k].n fe fn
  ·by_cases o2 : xN h.lg[k].e h.lg[k].n te tn <= 0
   ·rw [if_pos ⟨o1, o2⟩] at hsn
    generalize wR fe fn te tn (h.lg.take k) = q at *
    have hql:=txns_len q
    repeat' first|(refine And.intro (by (try simp only [hql,List.length_cons,List.length_nil]);omega) ?_)|(refine hK _ ?_;clear hK)|(refine zT fun K hK=>?_)|(refine zS ?_;simp only [tZ,tY,strip])|((first | refine wOs fun K hK=>?_ | refine zY ?_ | refine zW ?_);simp [g4,b4,g5,b5,g7,b7,gs,gl,gk,hlt,hlt',hw,o1,o2,s1])|(first | refine zU ?_)|(refine zP ?_;try simp)|(refine wOn ?_;try simp only [zZ])|(refine zR.pure (c1) rfl ?_)|(refine zR.pure (c2) rfl ?_)|(refine zR.pure (c3) rfl ?_)
    refine hL _ (N - 1) (by omega) ⟨k + 1,by omega,?_⟩
    simp [g4,b4,g5,b5,gs,gl,hsn]
   ·rw [if_neg (fun h => o2 h.2)] at hsn
    repeat' first|(refine hK _ ?_;clear hK)|(refine zT fun K hK=>?_)|(refine zS ?_;simp only [tZ,tY,strip])|((first | refine wOs fun K hK=>?_ | refine zY ?_ | refine zW ?_);simp [g4,b4,g5,b5,gs,gl,gk,hlt,hlt',hw,o1,o2])|(first | refine zU ?_)|(refine zP ?_;try simp)|(refine wOn ?_;try simp only [zZ])|(refine zR.pure (c1) rfl ?_)|(refine zR.pure (c2) rfl ?_)
    refine hL _ (N - 1) (by omega) ⟨k + 1,by omega,?_⟩
    simp [g4,b4,g5,b5,g7,b7,gs,gl,hsn]
  ·rw [if_neg (fun h => o1 h.1)] at hsn
   repeat' first|(refine hK _ ?_;clear hK)|(refine zT fun K hK=>?_)|(refine zS ?_;simp only [tZ,tY,strip])|((first | refine wOs fun K hK=>?_ | refine zY ?_ | refine zW ?_);simp [g4,b4,g5,b5,gs,gl,gk,hlt,hlt',hw,o1])|(first | refine zU ?_)|(refine zP ?_;try simp)|(refine wOn ?_;try simp only [zZ])|(refine zR.pure (c1) rfl ?_)
   refine hL _ (N - 1) (by omega) ⟨k + 1,by omega,?_⟩
   simp [g4,b4,g5,b5,g7,b7,gs,gl,hsn]
 ·have hlt' : ¬ (k : Int) < h.lg.length := by omega
  rw [List.take_of_length_le (by omega)] at b7
  repeat' first|(refine hK _ ?_;clear hK)|(clear hK;refine hK _ ?_;clear hK)|(refine zT fun K hK=>?_)|(refine zS ?_;simp only [tZ,tY,strip])|((first | refine wOs fun K hK=>?_ | refine zW ?_);simp [g7,gl,gk,hlt'])|((first | refine zL ?_ | refine zC ?_);try simp)|(refine wOn ?_;try simp only [zZ])
  all_goals apply hr
  all_goals simp [Tryz.f51,b7]
end Go.Proofs.YtffflakmofbilaaGreat
namespace Go.Proofs.YtffflakmofbilaaGreat
set_option linter.unusedSimpArgs false
set_option linter.unusedVariables false
set_option maxRecDepth 8000
open Go Go.Av
attribute [local irreducible] Go.Av.yA Go.Av.zR Go.Av.xZ Go.Av.zJ Go.Av.xV Go.Av.zG Go.Av.Con
structure Sq where
 p : Lq
 g : Bool
 o : List Mg
abbrev sqW (s : Sq) : List Blk := lW s.p s.g s.o
def Sq.send (s : Sq) (to : Int) (m : Mg) : Sq := { s with o := s.o ++ [yH s.p to m] }
def Sq.lay (s : Sq) (x : Lr) : Sq := { s with p := { s.p with ls := xK s.p.ls x } }
abbrev mgK (kd : Int) : Mg := mgZ 0 0 kd 0 0 ⟨0, 0⟩ []
structure OkS (n b : Nat) (s : Sq) : Prop where
 hk : OkH s.p.h
 ll : s.p.ls.length <= n
 lo : s.o.length <= b
 lm : ∀ y ∈ s.p.ls,y.ms.length <= 1000000
theorem OkS.mono {n b n' b' : Nat} {s : Sq} (h : OkS n b s) (h1 : n <= n') (h2 : b <= b') : OkS n' b' s := ⟨h.hk, Nat.le_trans h.ll h1, Nat.le_trans h.lo h2, h.lm⟩
theorem OkS.send {n b : Nat} {s : Sq} (h : OkS n b s) (to : Int) (m : Mg) : OkS n (b + 1) (s.send to m) := ⟨h.hk, h.ll, by have := h.lo; simp [Sq.send]; omega, h.lm⟩
theorem OkS.lay {n b : Nat} {s : Sq} (h : OkS n b s) {x : Lr} (hx : x.ms.length <= 1000000) : OkS (n + 1) b (s.lay x) := by
 refine ⟨h.hk,?_,h.lo,fun y hy=>?_⟩
 ·have := layL_len s.p.ls x
  have:=h.ll
  simp only [Sq.lay];omega
 ·rcases layL_mem hy with rfl | hy
  ·exact hx
  ·exact h.lm y hy
theorem OkS.needs {n b : Nat} {s : Sq} (h : OkS n b s) : (yX s.p.h s.p.d.e s.p.d.n).length <= 2 /\ ∀ c ∈ yX s.p.h s.p.d.e s.p.d.n, c.ms.length <= 1000 := ⟨endN_len _ _ _, needs_ok h.hk _ _⟩
theorem voterS_con {n b : Nat} {s : Sq} (h : OkS n b s) : Con Tryz.prog 50 [.ptr 1024 0] (sqW s) (.ret (.clo ⟨82, false⟩ [.rp [.sl 1 (ints (zI s.p))] 0]) [] (sqW s)) :=
 voter_con s.p s.g s.o h.hk (by have:=h.needs.1;omega) (fun c hc=>by have:=h.needs.2 c hc;omega)
structure Pn where
 (k : Int)
 (z : Zx)
 (im : Sv)
 (l : List Tx)
def xE (h : Hy) (ms : List Zx) : Pn := match vI (mks h) ms (mks h).length with
 | some i=>⟨if ms.getLast? = some ((mks h).getD i ⟨0,0⟩) then 1 else 2,(mks h).getD i ⟨0,0⟩,sv0,h.lg.drop i⟩
 | none=>⟨3,⟨0,0⟩,h.im,h.lg⟩
theorem makeP_eq (h : Hy) (ms : List Zx) : makeP h ms = [I (xE h ms).k, I (xE h ms).z.e, I (xE h ms).z.n, .sl 5 (zns (xE h ms).im.ns), .sl 1 (ints (xE h ms).im.ss), I (xE h ms).im.nx, I (xE h ms).im.c.ep, I (xE h ms).im.c.n, I (xE h ms).im.c.kind, .sl 4 (mbs (xE h ms).im.c.ms), I (xE h ms).im.ae, I (xE h ms).im.an, .sl 8 (yW (xE h ms).l)] := by
 unfold makeP xE
 generalize vI (mks h) ms (mks h).length = q
 cases q <;> rfl
def planM (n : Pn) : Mg := { mgK 5 with pk := n.k, pz := n.z, pim := n.im, pl := n.l }
def vU (p : Lq) (id : Int) : Hy := if id ∈ zI p then p.h else uptoH p.h p.d
def vB (s : Sq) (x : Lr) : Sq := (s.send x.id (planM (xE (vU s.p x.id) x.ms))).lay { x with ph := 3 }
theorem planS_ok {n b : Nat} {s : Sq} (h : OkS n b s) {x : Lr} (hx : x.ms.length <= 1000000) : OkS (n + 1) (b + 1) (vB s x) := OkS.lay (OkS.send h _ _) hx
theorem planH_ok {p : Lq} (hk : OkH p.h) (id : Int) : OkH (vU p id) := by
 unfold vU
 split
 ·exact hk
 ·unfold uptoH
  split
  ·exact hk.take _
  ·exact hk
def stayQ (p : Lq) : Bool := decide ((yX p.h p.d.e p.d.n).length = 1 /\ ¬ p.id ∈ zI p)
def vD (s : Sq) : Sq := if stayQ s.p = true then { s with g := true } else s
theorem stayS_ok {n b : Nat} {s : Sq} (h : OkS n b s) : OkS n b (vD s) := by
 unfold vD
 split
 ·exact ⟨h.hk,h.ll,h.lo,h.lm⟩
 ·exact h
theorem fold_snoc {α : Type} (f : Sq -> α -> Sq) (s : Sq) {l : List α} {k : Nat} (h : k < l.length) : (l.take (k + 1)).foldl f s = f ((l.take k).foldl f s) l[k] := by
 rw [List.take_succ_eq_append_getElem h,List.foldl_append];rfl
theorem fold_ok {f : Sq -> Lr -> Sq} {i j : Nat} : ∀ (l : List Lr) {n b : Nat} {s : Sq}, (∀ {n b : Nat} {s : Sq} {x : Lr}, OkS n b s -> x ∈ l -> OkS (n + i) (b + j) (f s x)) -> OkS n b s -> OkS (n + i * l.length) (b + j * l.length) (l.foldl f s)
 | [],n,b,s,_,h=>by simpa using h
 | x :: l, n, b, s, hf, h => by
  have:=fold_ok l (fun h hx=>hf h (List.mem_cons_of_mem _ hx)) (hf h (List.mem_cons_self ..))
  rw [List.foldl_cons]
  refine this.mono ?_ ?_ <;> (rw [List.length_cons,Nat.mul_add,Nat.mul_one];omega)
theorem uX {f : Sq -> Lr -> Sq} {i j : Nat} {l : List Lr} {n b : Nat} {s : Sq} (hf : ∀ {n b : Nat} {s : Sq} {x : Lr}, OkS n b s -> x ∈ l -> OkS (n + i) (b + j) (f s x)) (h : OkS n b s) (k : Nat) (hk : k <= l.length) : OkS (n + i * k) (b + j * k) ((l.take k).foldl f s) := by
 have:=fold_ok (f:=f) (i:=i) (j:=j) (l.take k) (fun h hx=>hf h (List.mem_of_mem_take hx)) h
 rwa [List.length_take,Nat.min_eq_left hk] at this
def xX (z : Zx) (s : Sq) (x : Lr) : Sq := if x.ph = 4 then s.send x.id { mgK 7 with z := z } else s
def xW (s : Sq) (x : Lr) : Sq := if x.ph = 2 then vB s x else s
def yO (v : List Int) (s : Sq) (x : Lr) : Sq := if x.ph = 2 /\ x.id ∈ v then vB s x else s
def yD (s : Sq) (x : Lr) : Sq := s.send x.id (mgK 3)
theorem eachReady_ok {z : Zx} {n b : Nat} {s : Sq} {x : Lr} (h : OkS n b s) : OkS (n + 0) (b + 1) (xX z s x) := by
 unfold xX
 split
 ·exact h.send _ _
 ·exact h.mono (by omega) (by omega)
theorem eachPlan_ok {n b : Nat} {s : Sq} {x : Lr} (h : OkS n b s) (hx : x.ms.length <= 1000000) : OkS (n + 1) (b + 1) (xW s x) := by
 unfold xW
 split
 ·exact planS_ok h hx
 ·exact h.mono (by omega) (by omega)
theorem eachPlanV_ok {v : List Int} {n b : Nat} {s : Sq} {x : Lr} (h : OkS n b s) (hx : x.ms.length <= 1000000) : OkS (n + 1) (b + 1) (yO v s x) := by
 unfold yO
 split
 ·exact planS_ok h hx
 ·exact h.mono (by omega) (by omega)
theorem eachEpoch_ok {n b : Nat} {s : Sq} {x : Lr} (h : OkS n b s) : OkS (n + 0) (b + 1) (yD s x) := h.send _ _
theorem xS {α : Type} {f : Sq -> α -> Sq} (hf : ∀ s x, (f s x).p = s.p) : ∀ (l : List α) (s : Sq), (l.foldl f s).p = s.p
 | [],_=>rfl
 | x :: l,s=>by rw [List.foldl_cons,xS hf l,hf]
theorem wM (z : Zx) (s : Sq) (x : Lr) : (xX z s x).p = s.p := by unfold xX; split <;> rfl
theorem vY (s : Sq) (x : Lr) : (yD s x).p = s.p := rfl
def estS (s : Sq) : Sq :=
 if yS s.p (xC s.p.id 4 (zA s.p.h).e (zA s.p.h).n s.p.ls) = true then
  (fun s1 : Sq=>vD (s1.p.ls.foldl xW (s1.p.ls.foldl (xX (zA s.p.h)) s1))) { s with p:={ s.p with ph:=3,wt:=0,d:=zA s.p.h } }
 else s
def xJ (s : Sq) : Sq :=
 if ¬ s.p.ep = 0 /\ yS s.p (xC s.p.id 2 0 0 s.p.ls) = true then
  (fun s1 : Sq=>estS (s1.p.ls.foldl (yO (zI s1.p)) s1)) { s with p:={ s.p with ph:=2,wt:=0,cu:=s.p.ep } }
 else s
def wG (p : Lq) : Int := p.ls.foldl (fun a x => if a < x.ac then x.ac else a) p.ac
def vQ (s : Sq) : Sq :=
 if yS s.p (xC s.p.id 1 0 0 s.p.ls) = true then
  (if uR (wG s.p) s.p.id = 0 then
   (fun s1 : Sq=>xJ (s1.p.ls.foldl yD s1)) { s with p:={ s.p with ep:=xU (wG s.p) s.p.id,ac:=xU (wG s.p) s.p.id } }
  else { s with g:=true })
 else s
def yG (p : Lq) (m : Mg) : Lr := { (if (yB p.ls m.fr 1).2 = true then (yB p.ls m.fr 1).1 else { lrZ with id := m.fr, ph := 1 }) with ac := m.ep, q := 0 }
def infoS (s : Sq) (m : Mg) : Sq :=
 if ¬ s.p.ep = 0 /\ s.p.ep < m.ep then { s with g:=true }
 else if ¬ s.p.ep = 0 then (s.lay (yG s.p m)).send (yG s.p m).id (mgK 3) else vQ (s.lay (yG s.p m))
def aheadQ (p : Lq) (m : Mg) : Bool := if ¬ m.cu = p.cu then decide (p.cu < m.cu) else decide (0 < xN (m.ms.getD (m.ms.length - 1) ⟨0, 0⟩).e (m.ms.getD (m.ms.length - 1) ⟨0, 0⟩).n (zA p.h).e (zA p.h).n)
def uA (s : Sq) (m : Mg) : Sq := if 0 < xN m.z.e m.z.n s.p.d.e s.p.d.n /\ m.z ∈ mks s.p.h then { s with p := { s.p with d := m.z } } else s
def ackX (p : Lq) (m : Mg) : Lr := { (yB p.ls m.fr 1).1 with ph := 2, cu := m.cu, ms := m.ms, q := 0 }
def uB (s : Sq) (m : Mg) : Sq :=
 if (yB s.p.ls m.fr 1).2 = false \/ m.ms.length = 0 then s
 else if s.p.ph = 1 then
  (if (yB s.p.ls m.fr 1).1.id ∈ zI (uA s m).p /\ aheadQ (uA s m).p m = true then { uA s m with g:=true }
  else xJ ((uA s m).lay (ackX s.p m)))
 else if s.p.ph = 3 \/ (s.p.ph = 2 /\ (ackX s.p m).id ∈ zI (s.lay (ackX s.p m)).p) then vB (s.lay (ackX s.p m)) (ackX s.p m)
 else s.lay (ackX s.p m)
def Sq.each (s : Sq) (to kd : Int) (l : List Tx) : Sq := { s with o := s.o ++ vZ s.p to kd l }
def vV (v : List Int) (z : Zx) (l : List Tx) (s : Sq) (x : Lr) : Sq :=
 if x.ph = 4 /\ x.id ∈ v then s.send x.id { mgK 10 with z:=z } else if 3 <= x.ph /\ ¬ x.id ∈ v then s.each x.id 11 l else s
theorem eachCom_ok {v : List Int} {z : Zx} {l : List Tx} (hl : l.length <= 1000) {n b : Nat} {s : Sq} {x : Lr} (h : OkS n b s) : OkS (n + 0) (b + 1000) (vV v z l s x) := by
 unfold vV
 split
 ·exact (h.send _ _).mono (by omega) (by omega)
 ·split
  ·exact ⟨h.hk,h.ll,by have:=h.lo;simp [Sq.each,vZ];omega,h.lm⟩
  ·exact h.mono (by omega) (by omega)
def uV (p : Lq) : Zx := ⟨(comF p.h p.id p.ls p.h.lg 0 p.d.e p.d.n).1, (comF p.h p.id p.ls p.h.lg 0 p.d.e p.d.n).2⟩
def comS (s : Sq) : Sq :=
 if uV s.p = s.p.d then s
 else (fun s1 : Sq=>vD { s1 with p:={ s1.p with d:=uV s.p } }) (s.p.ls.foldl (vV (zI s.p) (uV s.p) (wR s.p.d.e s.p.d.n (uV s.p).e (uV s.p).n s.p.h.lg)) s)
def syncX (p : Lq) (m : Mg) : Lr := { (yB p.ls m.fr 3).1 with ph := 4, ae := m.z.e, an := m.z.n, q := 0 }
def syncS (s : Sq) (m : Mg) : Sq :=
 if (yB s.p.ls m.fr 3).2 = false then s
 else if s.p.ph = 2 then estS (s.lay (syncX s.p m))
 else if s.p.ph = 3 then comS ((s.lay (syncX s.p m)).send (syncX s.p m).id { mgK 7 with z:=s.p.d })
 else s.lay (syncX s.p m)
def ackdX (p : Lq) (m : Mg) : Lr := { (yB p.ls m.fr 4).1 with ae := m.z.e, an := m.z.n, q := 0 }
def ackdS (s : Sq) (m : Mg) : Sq :=
 if (yB s.p.ls m.fr 4).2 = false \/ xN m.z.e m.z.n (yB s.p.ls m.fr 4).1.ae (yB s.p.ls m.fr 4).1.an <= 0 then s
 else if s.p.ph = 3 then comS (s.lay (ackdX s.p m)) else s.lay (ackdX s.p m)
def vM (l : List Lr) (id : Int) : List Lr := l.map fun x => if x.id = id then { x with q := 0 } else x
def pongS (s : Sq) (m : Mg) : Sq := { s with p := { s.p with ls := vM s.p.ls m.fr } }
def uN (s : Sq) (m : Mg) : Sq :=
 if m.kd = 2 then infoS s m else if m.kd = 4 then uB s m else if m.kd = 6 then syncS s m else if m.kd = 9 then ackdS s m else if m.kd = 13 then pongS s m else s
def hearS (p : Lq) (m : Mg) : Sq := if p.mo = 2 /\ concQ { p with ls := yU p.ls } m then uN ⟨{ p with ls := yU p.ls }, false, []⟩ m else ⟨{ p with ls := yU p.ls }, false, []⟩
end Go.Proofs.YtffflakmofbilaaGreat
namespace Go.Proofs.YtffflakmofbilaaGreat
set_option linter.unusedSimpArgs false
set_option linter.unusedVariables false
open Go Go.Av
attribute [local irreducible] Go.Av.yA Go.Av.zR Go.Av.xZ Go.Av.zJ Go.Av.xV Go.Av.zG Go.Av.Con
set_option maxHeartbeats 1000000 in
theorem marks16_con (h : Hy) (hl : h.lg.length <= 1000) : zB Tryz.prog 46 [.p (.agg h.cells)] (.p (.sl 2 (zxs (mks h)))) := by
 have hz0 : (mks h).take 1 = [⟨h.im.ae,h.im.an⟩]:=rfl
 have hmt:=mks_take h
 have hml:=mks_len h
 generalize mks h = M at *
 unfold Hy.cells at *
 refine zK Tryz.tab Tryz.mixed Tryz.func46 rfl rfl Tryz.ntmps46 (by simp) (by simp) fun Q hr hn=>?_
 repeat' first|(refine hK _ ?_;clear hK)|(refine zT fun K hK=>?_)|(refine zS ?_;simp only [tZ,tY,strip])|(refine wOs fun K hK=>?_;simp)|(first | refine zU ?_)|(refine wOn ?_;try simp only [zZ])
 refine yJ (fun N st=>∃ k,k + N = h.lg.length /\ st.s 11 = .p (.sl 8 (yW h.lg)) /\ st.s 12 = .p (I h.lg.length) /\ st.s 13 = .p (I k) /\ (k = 0 /\ st.s 3 = .full 2 (zxs (M.take 1)) \/ 0 < k /\ st.s 3 = .row 21 /\ st.b 21 = some (.row 25 2 (zxs (M.take (k + 1)))))) h.lg.length ⟨0,by simp [hz0,zxs]⟩ fun K N st hL ⟨k,hk,g11,g12,g13,hc⟩=>?_
 by_cases hlt : k < h.lg.length
 ·have hw := yF k _ hlt (by omega)
  have he:=wC hlt
  have hs:=zxs_app (M.take (k + 1)) [⟨h.lg[k].e,h.lg[k].n⟩]
  rw [<- hmt k hlt] at hs
  have hs' : zxs (M.take (k + 1)) ++ [[I h.lg[k].e,I h.lg[k].n]] = zxs (M.take (k + 1 + 1)):=hs.symm
  have hw1 : IntKind.i64.wrap 1 = 1:=by rw [yV] <;> omega
  have hln : (zxs (M.take (k + 1))).length <= 1001:=by rw [zxs_len,List.length_take];omega
  rcases hc with ⟨rfl,g3⟩ | ⟨hk0,g3,b21⟩
  ·repeat' first | (refine Or.inl ?_) | (refine And.intro (by (try simp); omega) ?_) | (refine hK _ ?_; clear hK) | (refine zT fun K hK => ?_) | (refine zS ?_; simp only [tZ, tY, strip]) | ((first | refine wOs fun K hK => ?_ | refine zW ?_); simp [g11, g12, g13, g3, hlt]) | (first | refine zU ?_) | (refine zP ?_; try simp) | (refine wOn ?_; try simp only [zZ])
   refine hL _ (N - 1) (by omega) ⟨1,by omega,?_⟩
   simp only [Nat.zero_add] at hs'
   simp [g11,g12,hw1,hs']
  ·repeat' first | (refine And.intro (by (try simp); omega) ?_) | (refine hK _ ?_; clear hK) | (refine zT fun K hK => ?_) | (refine zS ?_; simp only [tZ, tY, strip]) | ((first | refine wOs fun K hK => ?_ | refine zW ?_); simp [g11, g12, g13, g3, b21, hlt, hw]) | (first | refine zU ?_) | (refine zP ?_; try simp) | (refine wOn ?_; try simp only [zZ])
   refine hL _ (N - 1) (by omega) ⟨k + 1,by omega,?_⟩
   simp [g11,g12,hs']
 ·have hk0 : k = h.lg.length := by omega
  rcases hc with ⟨h0,g3⟩ | ⟨hk0,g3,b21⟩
  ·rw [List.take_of_length_le (by omega)] at g3
   repeat' first|(refine hK _ ?_;clear hK)|(clear hK;refine hK _ ?_;clear hK)|(refine zT fun K hK=>?_)|(refine zS ?_;simp only [tZ,tY,strip])|((first | refine wOs fun K hK=>?_ | refine zW ?_);simp [g12,g13,g3,hlt])|((first | refine zL ?_ | refine zC ?_);try simp)|(refine wOn ?_;try simp only [zZ])
   all_goals apply hr
   all_goals simp [Tryz.f46]
  ·rw [List.take_of_length_le (by omega)] at b21
   repeat' first|(refine hK _ ?_;clear hK)|(clear hK;refine hK _ ?_;clear hK)|(refine zT fun K hK=>?_)|(refine zS ?_;simp only [tZ,tY,strip])|((first | refine wOs fun K hK=>?_ | refine zW ?_);simp [g12,g13,g3,hlt])|((first | refine zL ?_ | refine zC ?_);try simp)|(refine wOn ?_;try simp only [zZ])
   all_goals apply hr
   all_goals simp [Tryz.f46,b21]
def zlt (a b : Zx) : Prop := xN a.e a.n b.e b.n < 0
theorem zlt_iff (a b : Zx) : zlt a b ↔ a.e < b.e \/ a.e = b.e /\ a.n < b.n := by
 unfold zlt
 rw [zcmp_spec]
 repeat' split
 all_goals omega
theorem zlt_trans {a b c : Zx} (h : zlt a b) (g : zlt b c) : zlt a c := by rw [zlt_iff] at *; omega
def yK : List Zx -> Bool
 | []=>true
 | [_]=>true
 | a :: b :: l=>decide (xN a.e a.n b.e b.n < 0) && yK (b :: l)
theorem rises_all : ∀ (l : List Zx) (a : Zx), yK (a :: l) = true -> ∀ x ∈ l, zlt a x
 | [],_,_,x,hx=>by simp at hx
 | b :: l, a, h, x, hx => by
  simp only [yK,Bool.and_eq_true,decide_eq_true_eq] at h
  rcases List.mem_cons.1 hx with rfl | hx
  ·exact h.1
  ·exact zlt_trans h.1 (rises_all l b h.2 x hx)
theorem rises_tail {a : Zx} {l : List Zx} (h : yK (a :: l) = true) : yK l = true := by
 cases l with
 | nil=>rfl
 | cons b l=>simp only [yK,Bool.and_eq_true] at h;exact h.2
theorem rises_pw : ∀ {l : List Zx}, yK l = true -> l.Pairwise zlt
 | [],_=>.nil
 | a :: l,h=>.cons (rises_all l a h) (rises_pw (rises_tail h))
theorem pw_rises : ∀ {l : List Zx}, l.Pairwise zlt -> yK l = true
 | [],_=>rfl
 | [_],_=>rfl
 | a :: b :: l, .cons h g => by
  simp only [yK,Bool.and_eq_true,decide_eq_true_eq]
  exact ⟨h b (by simp),pw_rises g⟩
set_option maxHeartbeats 1000000 in
theorem check16_con (h : Hy) (hl : h.lg.length <= 1000) : zB Tryz.prog 30 [.p (.agg h.cells)] (.p (B (yK (mks h)))) := by
 have c1:=marks16_con h hl
 have hml:=mks_len h
 generalize mks h = M at *
 unfold Hy.cells at *
 refine zK Tryz.tab Tryz.mixed Tryz.func30 rfl rfl Tryz.ntmps30 (by simp) (by simp) fun Q hr hn=>?_
 repeat' first|(refine zR.pure (c1) rfl ?_)|(refine hK _ ?_;clear hK)|(refine zT fun K hK=>?_)|(refine zS ?_;simp only [tZ,tY,strip])|((first | refine wOs fun K hK=>?_ | refine zY ?_);simp)|(first | refine zU ?_)|(refine wOn ?_;try simp only [zZ])
 refine yJ (fun N st=>∃ k,k + 1 + N = M.length /\ st.s 3 = .p (.sl 2 (zxs M)) /\ st.s 4 = .p (I ((k + 1 : Nat) : Int)) /\ yK (M.drop k) = yK M) (M.length - 1) ⟨0,by omega,by simp⟩ fun K N st hL ⟨k,hk,g3,g4,hi⟩=>?_
 by_cases hlt : k + 1 < M.length
 ·have hlt' : ((k + 1 : Nat) : Int) < M.length := by omega
  have hk0 : k < M.length:=by omega
  have hw : IntKind.i64.wrap (((k + 1 : Nat) : Int) + 1) = ((k + 1 + 1 : Nat) : Int):=by rw [yV] <;> omega
  have hw2 : IntKind.i64.wrap (((k + 1 : Nat) : Int) - 1) = (k : Int):=by rw [yV] <;> omega
  rw [List.drop_eq_getElem_cons hk0,List.drop_eq_getElem_cons hlt,yK,<- List.drop_eq_getElem_cons hlt] at hi
  have cc:=cmp02_con M[k].e M[k].n M[k + 1].e M[k + 1].n
  generalize xN M[k].e M[k].n M[k + 1].e M[k + 1].n = q at *
  generalize hj : k + 1 = j at *
  by_cases o : q < 0
  ·rw [decide_eq_true o, Bool.true_and] at hi
   have o' : ¬ (0 <= q):=by omega
   repeat' first|(refine zJ.pure (cc) rfl ?_)|(refine hK _ ?_;clear hK)|(refine zT fun K hK=>?_)|((first | refine zS ?_ | refine yZ rfl (by kernel_rfl) ?_);simp only [tZ,tY,strip])|((first | refine wOs fun K hK=>?_ | refine wQs fun K hK=>?_ | refine zM ?_ | refine zW ?_);simp [g3,g4,hlt,hlt',hk0,hw,hw2,o'])|(first | refine zU ?_)|(refine zP ?_;try simp)|((first | refine wOn ?_ | refine wQn ?_);try simp only [zZ])
   refine hL _ (N - 1) (by omega) ⟨j,by omega,?_⟩
   simp [g3,hi]
  ·rw [decide_eq_false o, Bool.false_and] at hi
   have o' : 0 <= q:=by omega
   rw [<- hi] at hr
   repeat' first|(refine zJ.pure (cc) rfl ?_)|(refine hK _ ?_;clear hK)|(refine zT fun K hK=>?_)|((first | refine zS ?_ | refine yZ rfl (by kernel_rfl) ?_);simp only [tZ,tY,strip])|((first | refine wOs fun K hK=>?_ | refine wQs fun K hK=>?_ | refine zM ?_ | refine zW ?_);simp [g3,g4,hlt,hlt',hk0,hw2,o'])|(first | refine zU ?_)|((first | refine zL ?_ | refine zP ?_);try simp)|((first | refine wOn ?_ | refine wQn ?_);try simp only [zZ])
   all_goals apply hr
   all_goals simp [Tryz.f30]
 ·have hlt' : ¬ ((k + 1 : Nat) : Int) < M.length := by omega
  have hd : yK (M.drop k) = true := by
   have : (M.drop k).length = 1:=by rw [List.length_drop];omega
   match hm : M.drop k,this with
   | [x],_=>rfl
  rw [hd] at hi
  rw [<- hi] at hr
  generalize k + 1 = j at *
  repeat' first|(refine hK _ ?_;clear hK)|(clear hK;refine hK _ ?_;clear hK)|(refine zT fun K hK=>?_)|(refine zS ?_;simp only [tZ,tY,strip])|((first | refine wOs fun K hK=>?_ | refine zW ?_);simp [g3,g4,hlt'])|((first | refine zL ?_ | refine zC ?_);try simp)|(refine wOn ?_;try simp only [zZ])
  all_goals apply hr
  all_goals simp [Tryz.f30]
end Go.Proofs.YtffflakmofbilaaGreat
namespace Go.Proofs.YtffflakmofbilaaGreat
set_option linter.unusedSimpArgs false
set_option linter.unusedVariables false
set_option maxRecDepth 8000
open Go Go.Av
attribute [local irreducible] Go.Av.yA Go.Av.zR Go.Av.xZ Go.Av.zJ Go.Av.xV Go.Av.zG Go.Av.Con
structure Ev21 where
 (k n : Int)
 (m : Mg)
 (t : Tx)
def Ev21.cells (e : Ev21) : List PV := [I e.k, I e.n, I e.m.fr, I e.m.to, I e.m.kd, I e.m.v0, I e.m.v1, I e.m.v2, I e.m.v3, I e.m.v4, I e.m.v5, I e.m.v6, I e.m.ep, I e.m.cu, I e.m.z.e, I e.m.z.n, .sl 2 (zxs e.m.ms), I e.m.pk, I e.m.pz.e, I e.m.pz.n, .sl 5 (zns e.m.pim.ns), .sl 1 (ints e.m.pim.ss), I e.m.pim.nx, I e.m.pim.c.ep, I e.m.pim.c.n, I e.m.pim.c.kind, .sl 4 (mbs e.m.pim.c.ms), I e.m.pim.ae, I e.m.pim.an, .sl 8 (yW e.m.pl), I e.m.tx.e, I e.m.tx.n, I e.m.tx.s, I e.m.tx.x, I e.m.tx.r, I e.m.tx.b, SB e.m.tx.m, .sl 11 (pts e.m.tx.ps), .sl 1 e.m.tc, I e.m.aK, I e.m.aS, I e.m.aX, .sl 6 e.m.ao, I e.m.adk, .sl 4 e.m.ap, .sl 1 e.m.ad, I e.m.awe, I e.m.awn, I e.t.e, I e.t.n, I e.t.s, I e.t.x, I e.t.r, I e.t.b, SB e.t.m, .sl 11 (pts e.t.ps)]
def evsC (l : List Ev21) : List (List PV) := l.map Ev21.cells
@[simp] theorem evsC_len (l : List Ev21) : (evsC l).length = l.length := by simp [evsC]
@[simp] theorem evsC_getElem (l : List Ev21) (k : Nat) (h : k < (evsC l).length) : (evsC l)[k] = [I (l[k]'(by simpa using h)).k, I (l[k]'(by simpa using h)).n, I (l[k]'(by simpa using h)).m.fr, I (l[k]'(by simpa using h)).m.to, I (l[k]'(by simpa using h)).m.kd, I (l[k]'(by simpa using h)).m.v0, I (l[k]'(by simpa using h)).m.v1, I (l[k]'(by simpa using h)).m.v2, I (l[k]'(by simpa using h)).m.v3, I (l[k]'(by simpa using h)).m.v4, I (l[k]'(by simpa using h)).m.v5, I (l[k]'(by simpa using h)).m.v6, I (l[k]'(by simpa using h)).m.ep, I (l[k]'(by simpa using h)).m.cu, I (l[k]'(by simpa using h)).m.z.e, I (l[k]'(by simpa using h)).m.z.n, .sl 2 (zxs (l[k]'(by simpa using h)).m.ms), I (l[k]'(by simpa using h)).m.pk, I (l[k]'(by simpa using h)).m.pz.e, I (l[k]'(by simpa using h)).m.pz.n, .sl 5 (zns (l[k]'(by simpa using h)).m.pim.ns), .sl 1 (ints (l[k]'(by simpa using h)).m.pim.ss), I (l[k]'(by simpa using h)).m.pim.nx, I (l[k]'(by simpa using h)).m.pim.c.ep, I (l[k]'(by simpa using h)).m.pim.c.n, I (l[k]'(by simpa using h)).m.pim.c.kind, .sl 4 (mbs (l[k]'(by simpa using h)).m.pim.c.ms), I (l[k]'(by simpa using h)).m.pim.ae, I (l[k]'(by simpa using h)).m.pim.an, .sl 8 (yW (l[k]'(by simpa using h)).m.pl), I (l[k]'(by simpa using h)).m.tx.e, I (l[k]'(by simpa using h)).m.tx.n, I (l[k]'(by simpa using h)).m.tx.s, I (l[k]'(by simpa using h)).m.tx.x, I (l[k]'(by simpa using h)).m.tx.r, I (l[k]'(by simpa using h)).m.tx.b, SB (l[k]'(by simpa using h)).m.tx.m, .sl 11 (pts (l[k]'(by simpa using h)).m.tx.ps), .sl 1 (l[k]'(by simpa using h)).m.tc, I (l[k]'(by simpa using h)).m.aK, I (l[k]'(by simpa using h)).m.aS, I (l[k]'(by simpa using h)).m.aX, .sl 6 (l[k]'(by simpa using h)).m.ao, I (l[k]'(by simpa using h)).m.adk, .sl 4 (l[k]'(by simpa using h)).m.ap, .sl 1 (l[k]'(by simpa using h)).m.ad, I (l[k]'(by simpa using h)).m.awe, I (l[k]'(by simpa using h)).m.awn, I (l[k]'(by simpa using h)).t.e, I (l[k]'(by simpa using h)).t.n, I (l[k]'(by simpa using h)).t.s, I (l[k]'(by simpa using h)).t.x, I (l[k]'(by simpa using h)).t.r, I (l[k]'(by simpa using h)).t.b, SB (l[k]'(by simpa using h)).t.m, .sl 11 (pts (l[k]'(by simpa using h)).t.ps)] := by simp [evsC, Ev21.cells]
theorem evsC_get {l : List Ev21} {k : Nat} (h : k < l.length) : (evsC l)[k]? = some l[k].cells := by simp [evsC, h]
abbrev hyZ (l : List Tx) : Hy := ⟨sv0, l⟩
structure SmallE (e : Ev21) : Prop where
 pl : SmallH ⟨e.m.pim,e.m.pl⟩
 tx : SmallH (hyZ [e.m.tx])
 t : SmallH (hyZ [e.t])
def nearE (e : Ev21) : Prop := e.m.ms.length <= 50 /\ vO (hyZ [e.t]) /\ vO ⟨e.m.pim, e.m.pl⟩ /\ vO (hyZ [e.m.tx])
instance (e : Ev21) : Decidable (nearE e) := by unfold nearE; infer_instance
def nearL (l : List Ev21) : Prop := l.length <= 60 /\ ∀ e ∈ l, nearE e
instance (l : List Ev21) : Decidable (nearL l) := by unfold nearL; infer_instance
set_option maxHeartbeats 8000000 in
theorem evs_con (l : List Ev21) (hs : ∀ e ∈ l, SmallE e) : zB Tryz.prog 8 [.p (.sl 56 (evsC l))] (.p (B (decide (¬ nearL l)))) := by
 refine zB.len ⟨Tryz.f8,Tryz.func8,rfl,rfl⟩ 0 _ _ rfl fun hlen=>?_
 simp only [evsC_len] at hlen
 by_cases q1 : 60 < l.length
 ·have q1' : (60 : Int) < l.length := by omega
  rw [show decide (¬ nearL l) = true from decide_eq_true fun h=>by have:=h.1;omega]
  refine zK Tryz.tab Tryz.mixed Tryz.func8 rfl rfl Tryz.ntmps8 (by simp) (by simp) fun Q hr hn=>?_
  repeat' first|(refine hK _ ?_;clear hK)|(refine zT fun K hK=>?_)|(refine zS ?_;simp only [tZ,tY,strip])|((first | refine wOs fun K hK=>?_ | refine zW ?_);simp [q1'])|(refine zL ?_;try simp)|(refine wOn ?_;try simp only [zZ])
  all_goals apply hr
  all_goals simp [Tryz.f8]
 have q1' : ¬ (60 : Int) < l.length:=by omega
 refine zK Tryz.tab Tryz.mixed Tryz.func8 rfl rfl Tryz.ntmps8 (by simp) (by simp) fun Q hr hn=>?_
 repeat' first|(refine hK _ ?_;clear hK)|(refine zT fun K hK=>?_)|(refine zS ?_;simp only [tZ,tY,strip])|((first | refine wOs fun K hK=>?_ | refine zW ?_);simp [q1'])|(first | refine zU ?_)|(refine zP ?_;try simp)|(refine wOn ?_;try simp only [zZ])
 refine yJ (fun N st=>∃ k,k + N = l.length /\ (∀ j (hj : j < l.length),j < k -> nearE l[j]) /\ st.s 8 = .p (.sl 56 (evsC l)) /\ st.s 9 = .p (I l.length) /\ st.s 10 = .p (I k)) l.length ⟨0,by simp⟩ fun K N st hL ⟨k,hk,hn,g8,g9,g10⟩=>?_
 by_cases hlt : k < l.length
 ·have hw := yF k _ hlt hlen
  have he:=evsC_get hlt
  have hsk:=hs l[k] (List.getElem_mem hlt)
  have c0:=far21_con _ hsk.t
  have c1:=far21_con _ hsk.pl
  have c2:=far21_con _ hsk.tx
  have hbad : ¬ nearE l[k] -> decide (¬ nearL l) = true:=fun h=>decide_eq_true fun h'=>h (h'.2 _ (List.getElem_mem hlt))
  by_cases o1 : 50 < l[k].m.ms.length
  ·have o1' : (50 : Int) < l[k].m.ms.length := by omega
   rw [hbad fun h=>by have:=h.1;omega] at hr
   unfold Ev21.cells at he
   clear c0 c1 c2 hbad hsk
   repeat' first|(refine hK _ ?_;clear hK)|(refine zT fun K hK=>?_)|(refine zS ?_;simp only [tZ,tY,strip])|((first | refine wOs fun K hK=>?_ | refine zW ?_);simp [g8,g9,g10,hlt,o1'])|(first | refine zU ?_)|((first | refine zL ?_ | refine zP ?_);try simp)|(refine wOn ?_;try simp only [zZ])
   all_goals apply hr
   all_goals simp [Tryz.f8]
  have o1' : ¬ (50 : Int) < l[k].m.ms.length:=by omega
  by_cases o0 : vO (hyZ [l[k].t])
  case neg =>
   rw [decide_eq_true o0] at c0
   rw [hbad fun h=>o0 h.2.1] at hr
   clear c1 c2 hbad hsk o0
   generalize hx : l[k] = x at *
   simp only [Hy.cells,zns,ints,mbs,yW,tY,tZ,Tx.cells] at c0
   unfold Ev21.cells at he
   repeat' first|(refine zR.pure (c0) rfl ?_)|(refine hK _ ?_;clear hK)|(refine zT fun K hK=>?_)|(refine zS ?_;simp only [tZ,tY,strip])|((first | refine wOs fun K hK=>?_ | refine zY ?_ | refine zW ?_);simp [g8,g9,g10,hlt,o1',hx])|(first | refine zU ?_)|((first | refine zL ?_ | refine zP ?_);try simp)|(refine wOn ?_;try simp only [zZ])
   all_goals apply hr
   all_goals simp [Tryz.f8]
  rw [decide_eq_false (not_not_intro o0)] at c0
  by_cases o2 : vO ⟨l[k].m.pim,l[k].m.pl⟩
  case neg =>
   rw [decide_eq_true o2] at c1
   rw [hbad fun h=>o2 h.2.2.1] at hr
   clear c2 hbad hsk o2 o0
   generalize hx : l[k] = x at *
   simp only [Hy.cells,zns,ints,mbs,yW,tY,tZ,Tx.cells] at c0
   simp only [Hy.cells] at c1
   unfold Ev21.cells at he
   repeat' first|(refine zR.pure (c0) rfl ?_)|(refine zR.pure (c1) rfl ?_)|(refine hK _ ?_;clear hK)|(refine zT fun K hK=>?_)|(refine zS ?_;simp only [tZ,tY,strip])|((first | refine wOs fun K hK=>?_ | refine zY ?_ | refine zW ?_);simp [g8,g9,g10,hlt,o1',hx])|(first | refine zU ?_)|((first | refine zL ?_ | refine zP ?_);try simp)|(refine wOn ?_;try simp only [zZ])
   all_goals apply hr
   all_goals simp [Tryz.f8]
  rw [decide_eq_false (not_not_intro o2)] at c1
  by_cases o3 : vO (hyZ [l[k].m.tx])
  ·rw [decide_eq_false (not_not_intro o3)] at c2
   have hok : nearE l[k]:=⟨by omega,o0,o2,o3⟩
   clear hbad hsk o2 o3 o0
   generalize hx : l[k] = x at *
   simp only [Hy.cells,zns,ints,mbs,yW,tY,tZ,Tx.cells] at c0 c2
   simp only [Hy.cells] at c1
   unfold Ev21.cells at he
   repeat' first|(refine zR.pure (c0) rfl ?_)|(refine zR.pure (c1) rfl ?_)|(refine zR.pure (c2) rfl ?_)|(refine hK _ ?_;clear hK)|(refine zT fun K hK=>?_)|(refine zS ?_;simp only [tZ,tY,strip])|((first | refine wOs fun K hK=>?_ | refine zY ?_ | refine zW ?_);simp [g8,g9,g10,hlt,hw,o1',hx])|(first | refine zU ?_)|(refine zP ?_;try simp)|(refine wOn ?_;try simp only [zZ])
   refine hL _ (N - 1) (by omega) ⟨k + 1,by omega,fun j hj hjk=>?_,?_⟩
   ·by_cases hjk' : j = k
    ·subst hjk';rw [hx];exact hok
    ·exact hn j hj (by omega)
   ·simp [g8,g9]
  ·rw [decide_eq_true o3] at c2
   rw [hbad fun h=>o3 h.2.2.2] at hr
   clear hbad hsk o2 o3 o0
   generalize hx : l[k] = x at *
   simp only [Hy.cells,zns,ints,mbs,yW,tY,tZ,Tx.cells] at c0 c2
   simp only [Hy.cells] at c1
   unfold Ev21.cells at he
   repeat' first|(refine zR.pure (c0) rfl ?_)|(refine zR.pure (c1) rfl ?_)|(refine zR.pure (c2) rfl ?_)|(refine hK _ ?_;clear hK)|(refine zT fun K hK=>?_)|(refine zS ?_;simp only [tZ,tY,strip])|((first | refine wOs fun K hK=>?_ | refine zY ?_ | refine zW ?_);simp [g8,g9,g10,hlt,o1',hx])|(first | refine zU ?_)|((first | refine zL ?_ | refine zP ?_);try simp)|(refine wOn ?_;try simp only [zZ])
   all_goals apply hr
   all_goals simp [Tryz.f8]
 ·rw [show decide (¬ nearL l) = false from decide_eq_false fun h => h ⟨by omega, fun e he => by
   obtain ⟨j,hj,rfl⟩:=List.getElem_of_mem he
   exact hn j hj (by omega)⟩] at hr
  repeat' first|(refine hK _ ?_;clear hK)|(clear hK;refine hK _ ?_;clear hK)|(refine zT fun K hK=>?_)|(refine zS ?_;simp only [tZ,tY,strip])|((first | refine wOs fun K hK=>?_ | refine zW ?_);simp [g9,g10,hlt])|((first | refine zL ?_ | refine zC ?_);try simp)|(refine wOn ?_;try simp only [zZ])
  all_goals apply hr
  all_goals simp [Tryz.f8]
structure Wh where
 (id ac cu : Int)
 (h : Hy)
def Wh.cells (w : Wh) : List PV := [I w.id, I w.ac, I w.cu, .sl 5 (zns w.h.im.ns), .sl 1 (ints w.h.im.ss), I w.h.im.nx, I w.h.im.c.ep, I w.h.im.c.n, I w.h.im.c.kind, .sl 4 (mbs w.h.im.c.ms), I w.h.im.ae, I w.h.im.an, .sl 8 (yW w.h.lg)]
def mayW (w : Wh) : Prop := 0 <= w.id /\ w.id < 16 /\ 0 <= w.ac /\ vO w.h /\ yK (mks w.h) = true /\ check w.h.im.c = 0
instance (w : Wh) : Decidable (mayW w) := by unfold mayW; infer_instance
set_option maxHeartbeats 4000000 in
theorem may_con (w : Wh) (hs : SmallH w.h) : zB Tryz.prog 7 [.p (.agg w.cells)] (.p (B (decide (mayW w)))) := by
 have c1:=far21_con w.h hs
 have hm : mayW w ↔ 0 <= w.id /\ w.id < 16 /\ 0 <= w.ac /\ vO w.h /\ yK (mks w.h) = true /\ check w.h.im.c = 0:=Iff.rfl
 unfold Hy.cells at c1
 unfold Wh.cells
 by_cases h1 : 0 <= w.id
 case neg =>
  rw [decide_eq_false (fun h=>h1 (hm.1 h).1)]
  refine zK Tryz.tab Tryz.mixed Tryz.func7 rfl rfl Tryz.ntmps7 (by simp) (by simp) fun Q hr hn=>?_
  repeat' first|(refine hK _ ?_;clear hK)|(refine zT fun K hK=>?_)|(refine zS ?_;simp only [tZ,tY,strip])|(refine wOs fun K hK=>?_;simp [h1])|(refine zL ?_;try simp)|(refine wOn ?_;try simp only [zZ])
  all_goals apply hr
  all_goals simp [Tryz.f7]
 by_cases h2 : w.id < 16
 case neg =>
  rw [decide_eq_false (fun h=>h2 (hm.1 h).2.1)]
  have h2' : 16 <= w.id:=by omega
  refine zK Tryz.tab Tryz.mixed Tryz.func7 rfl rfl Tryz.ntmps7 (by simp) (by simp) fun Q hr hn=>?_
  repeat' first|(refine hK _ ?_;clear hK)|(refine zT fun K hK=>?_)|(refine zS ?_;simp only [tZ,tY,strip])|(refine wOs fun K hK=>?_;simp [h1,h2])|(refine zL ?_;try simp)|(refine wOn ?_;try simp only [zZ])
  all_goals apply hr
  all_goals simp [Tryz.f7]
 by_cases h3 : 0 <= w.ac
 case neg =>
  rw [decide_eq_false (fun h=>h3 (hm.1 h).2.2.1)]
  refine zK Tryz.tab Tryz.mixed Tryz.func7 rfl rfl Tryz.ntmps7 (by simp) (by simp) fun Q hr hn=>?_
  repeat' first|(refine hK _ ?_;clear hK)|(refine zT fun K hK=>?_)|(refine zS ?_;simp only [tZ,tY,strip])|(refine wOs fun K hK=>?_;simp [h1,h2,h3])|(refine zL ?_;try simp)|(refine wOn ?_;try simp only [zZ])
  all_goals apply hr
  all_goals simp [Tryz.f7]
 by_cases h7 : vO w.h
 case neg =>
  rw [decide_eq_false (fun h=>h7 (hm.1 h).2.2.2.1)]
  rw [decide_eq_true h7] at c1
  clear h7
  refine zK Tryz.tab Tryz.mixed Tryz.func7 rfl rfl Tryz.ntmps7 (by simp) (by simp) fun Q hr hn=>?_
  repeat' first|(refine zR.pure (c1) rfl ?_)|(refine hK _ ?_;clear hK)|(refine zT fun K hK=>?_)|(refine zS ?_;simp only [tZ,tY,strip])|((first | refine wOs fun K hK=>?_ | refine zY ?_);simp [h1,h2,h3])|(refine zL ?_;try simp)|(refine wOn ?_;try simp only [zZ])
  all_goals apply hr
  all_goals simp [Tryz.f7]
 have c2:=check16_con w.h (by have:=h7.1;omega)
 have c3:=check04_con w.h.im.c (by have:=h7.2.2;unfold wH at this;omega)
 unfold Hy.cells at c2
 unfold Cf.cells at c3
 rw [decide_eq_false (not_not_intro h7)] at c1
 by_cases h8 : yK (mks w.h) = true
 case neg =>
  rw [decide_eq_false (fun h=>h8 (hm.1 h).2.2.2.2.1)]
  rw [Bool.not_eq_true] at h8
  rw [h8] at c2
  clear h7 hm
  refine zK Tryz.tab Tryz.mixed Tryz.func7 rfl rfl Tryz.ntmps7 (by simp) (by simp) fun Q hr hn=>?_
  repeat' first|(refine zR.pure (c1) rfl ?_)|(refine zR.pure (c2) rfl ?_)|(refine hK _ ?_;clear hK)|(refine zT fun K hK=>?_)|(refine zS ?_;simp only [tZ,tY,strip])|((first | refine wOs fun K hK=>?_ | refine zY ?_);simp [h1,h2,h3])|(refine zL ?_;try simp)|(refine wOn ?_;try simp only [zZ])
  all_goals apply hr
  all_goals simp [Tryz.f7]
 rw [h8] at c2
 rw [show decide (mayW w) = decide (check w.h.im.c = 0) by
  rw [Bool.eq_iff_iff,decide_eq_true_iff,decide_eq_true_iff,hm]
  exact ⟨fun h=>h.2.2.2.2.2,fun h=>⟨h1,h2,h3,h7,h8,h⟩⟩]
 generalize check w.h.im.c = ce at *
 clear h7 hm h8
 by_cases h9 : ce = 0
 ·rw [decide_eq_true h9]
  replace h9 : (ce = 0) = True:=eq_true h9
  refine zK Tryz.tab Tryz.mixed Tryz.func7 rfl rfl Tryz.ntmps7 (by simp) (by simp) fun Q hr hn=>?_
  repeat' first|(refine zR.pure (c1) rfl ?_)|(refine zR.pure (c2) rfl ?_)|(refine zR.pure (c3) rfl ?_)|(refine hK _ ?_;clear hK)|(refine zT fun K hK=>?_)|(refine zS ?_;simp only [tZ,tY,strip])|((first | refine wOs fun K hK=>?_ | refine zY ?_);simp [h1,h2,h3])|(refine zL ?_;try simp)|(refine wOn ?_;try simp only [zZ])
  all_goals apply hr
  all_goals simp [Tryz.f7,h9]
 ·rw [decide_eq_false h9]
  replace h9 : (ce = 0) = False:=eq_false h9
  refine zK Tryz.tab Tryz.mixed Tryz.func7 rfl rfl Tryz.ntmps7 (by simp) (by simp) fun Q hr hn=>?_
  repeat' first|(refine zR.pure (c1) rfl ?_)|(refine zR.pure (c2) rfl ?_)|(refine zR.pure (c3) rfl ?_)|(refine hK _ ?_;clear hK)|(refine zT fun K hK=>?_)|(refine zS ?_;simp only [tZ,tY,strip])|((first | refine wOs fun K hK=>?_ | refine zY ?_);simp [h1,h2,h3])|(refine zL ?_;try simp)|(refine wOn ?_;try simp only [zZ])
  all_goals apply hr
  all_goals simp [Tryz.f7,h9]
theorem base16_con (h : Hy) : zB Tryz.prog 16 [.p (.agg h.cells)] (.p (.agg [I h.im.ae, I h.im.an])) := by
 unfold Hy.cells
 refine zK Tryz.tab Tryz.mixed Tryz.func16 rfl rfl Tryz.ntmps16 (by simp) (by simp) fun Q hr hn=>?_
 repeat' first|(refine hK _ ?_;clear hK)|(refine zT fun K hK=>?_)|(refine zS ?_;simp only [tZ,tY,strip])|(refine wOs fun K hK=>?_;simp)|(refine zL ?_;try simp)|(refine wOn ?_;try simp only [zZ])
 all_goals apply hr
 all_goals simp [Tryz.f16]
def beg (w : Wh) : Lq := ⟨w.id, w.ac, w.cu, w.h, ⟨w.h.im.ae, w.h.im.an⟩, 0, 0, 0, 0, 0, []⟩
theorem begin21_con (w : Wh) : zB Tryz.prog 11 [.p (I w.id), .p (I w.ac), .p (I w.cu), .p (.agg w.h.cells)] (.p (.agg (beg w).cells)) := by
 have c1:=base16_con w.h
 unfold Hy.cells at c1
 unfold beg Lq.cells Hy.cells
 dsimp only
 refine zK Tryz.tab Tryz.mixed Tryz.func11 rfl rfl Tryz.ntmps11 (by simp) (by simp) fun Q hr hn=>?_
 repeat' first|(refine zG.pure (c1) rfl ?_)|(refine hK _ ?_;clear hK)|(refine hK _ _ ?_;clear hK)|(refine zT fun K hK=>?_)|((first | refine zS ?_ | refine yI ?_);simp only [tZ,tY,strip])|((first | refine wIs fun K hK=>?_ | refine wOs fun K hK=>?_ | refine zF ?_);simp)|(refine wIn ?_;refine And.intro (by kernel_rfl) ?_;try simp only [zZ])|(refine zL ?_;try simp)|(refine wOn ?_;try simp only [zZ])
 all_goals apply hr
 all_goals simp [Tryz.f11,show lrs [] = [] from rfl]
theorem three_con : zB Tryz.prog 33 [] (.p (.agg [I 0, I 0, I 1, .sl 4 [[I 0, I 1, I 0, I 0], [I 1, I 1, I 0, I 0], [I 2, I 1, I 0, I 0]]])) :=
 by
 refine zK Tryz.tab Tryz.mixed Tryz.func33 rfl rfl Tryz.ntmps33 (by simp) (by simp) fun Q hr hn=>?_
 repeat' first|(refine hK _ ?_;clear hK)|(refine hK _ _ ?_;clear hK)|(refine zT fun K hK=>?_)|((first | refine zS ?_ | refine yZ rfl (by kernel_rfl) ?_ | refine yI ?_);simp only [tZ,tY,strip])|((first | refine wIs fun K hK=>?_ | refine wOs fun K hK=>?_ | refine wQs fun K hK=>?_ | refine zY ?_ | refine zM ?_ | refine zF ?_ | refine zW ?_);simp)|(refine wIn ?_;refine And.intro (by kernel_rfl) ?_;try simp only [zZ])|((first | refine zL ?_ | refine zC ?_ | refine zP ?_);try simp)|((first | refine wK ?_ | refine wOn ?_ | refine wQn ?_);try simp only [zZ])
 all_goals apply hr
 all_goals simp [Tryz.f33]
end Go.Proofs.YtffflakmofbilaaGreat
