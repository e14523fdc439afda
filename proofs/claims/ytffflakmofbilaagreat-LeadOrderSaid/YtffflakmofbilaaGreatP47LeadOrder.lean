/- Texts that the proof needs: LE12 LE13 LE14 LE15. -/
import Derived.Test.YtffflakmofbilaaGreatP46LeadOrder
namespace Go.Proofs.YtffflakmofbilaaGreat
set_option linter.unusedSimpArgs false
set_option linter.unusedVariables false
open Go Go.Av
theorem lastH_some (h : Hy) : (mks h).getLast? = some (zA h) := by rw [lastH_eq, List.getLast?_eq_some_getLast (mks_ne h)]
theorem plc_get {z : Zx} : ∀ (l : List Zx) (k n : Nat), plc z l k = some n -> l[n - k]? = some z
 | [],_,_,h=>by simp [plc] at h
 | m :: l, k, n, h => by
  unfold plc at h
  split at h
  ·rename_i e
   simp only [tX] at h
   subst h
   simp [e]
  ·have h1 := plc_lt z l (k + 1) n h
   have h2:=plc_get l (k + 1) n h
   obtain ⟨q,hq⟩ : ∃ q,n - k = q + 1:=⟨n - k - 1,by omega⟩
   rw [hq,List.getElem?_cons_succ,<- h2]
   congr 1;omega
theorem lastH_upto {h : Hy} {z : Zx} (hz : z ∈ mks h) : zA (uptoH h z) = z := by
 obtain ⟨n,hn⟩:=plc_of (mks h) 0 hz
 have hg:=plc_get _ _ _ hn
 unfold uptoH
 rw [hn]
 have e : mks { h with lg:=h.lg.take n } = (mks h).take (n + 1):=by unfold mks;rw [List.take_succ_cons,List.map_take]
 have:=lastH_some { h with lg:=h.lg.take n }
 rw [e,List.getLast?_take,if_neg (by omega),show n + 1 - 1 = n - 0 by omega,hg] at this
 simp only [Option.some_or,tX] at this
 exact this.symm
theorem lastIn_lt {M ms : List Zx} : ∀ (n i : Nat), vI M ms n = some i -> i < n /\ i < M.length
 | 0,i,h=>by simp [vI] at h
 | n + 1, i, h => by
  unfold vI at h
  split at h
  ·rename_i z hz
   split at h
   ·simp only [tX] at h
    subst h
    exact ⟨by omega,(List.getElem?_eq_some_iff.1 hz).1⟩
   ·have:=lastIn_lt n i h;omega
  ·have:=lastIn_lt n i h;omega
theorem lastH_log {h : Hy} : zA h = match h.lg.getLast? with
 | some t=>tAt t
 | none=>⟨h.im.ae,h.im.an⟩:=by
 have h1:=lastH_some h
 unfold mks at h1
 rw [List.getLast?_cons,List.getLast?_map] at h1
 cases hg : h.lg.getLast? with
 | none=>rw [hg] at h1;exact (Option.some.inj h1).symm
 | some t=>rw [hg] at h1;exact (Option.some.inj h1).symm
def endPn (n : Pn) : Zx := match n.l.getLast? with
 | some t=>tAt t
 | none=>if n.k = 3 then ⟨n.im.ae,n.im.an⟩ else n.z
theorem endPn_make (h : Hy) (ms : List Zx) : endPn (xE h ms) = zA h := by
 unfold xE
 cases hi : vI (mks h) ms (mks h).length with
 | none =>
  show (match h.lg.getLast? with | some t=>tAt t | none=>if (3 : Int) = 3 then (⟨h.im.ae,h.im.an⟩ : Zx) else ⟨0,0⟩) = _
  rw [lastH_log,if_pos rfl]
 | some i =>
  have hlt:=(lastIn_lt _ _ hi).2
  have hml : (mks h).length = h.lg.length + 1:=by simp [mks]
  show (match (h.lg.drop i).getLast? with | some t=>tAt t | none=>if (if ms.getLast? = some ((mks h).getD i ⟨0,0⟩) then (1 : Int) else 2) = 3 then (⟨sv0.ae,sv0.an⟩ : Zx) else (mks h).getD i ⟨0,0⟩) = _
  rw [if_neg (by split <;> decide),List.getLast?_drop]
  by_cases hd : h.lg.length <= i
  ·rw [if_pos hd]
   have h1:=lastH_some h
   rw [List.getLast?_eq_getElem?,hml,show h.lg.length + 1 - 1 = i by omega] at h1
   show (mks h).getD i ⟨0,0⟩ = _
   rw [List.getD_eq_getElem?_getD,h1];rfl
  ·rw [if_neg hd]
   have h1:=lastH_log (h:=h)
   cases hg : h.lg.getLast? with
   | none=>rw [List.getLast?_eq_none_iff] at hg;rw [hg] at hd;exact absurd (Nat.zero_le i) hd
   | some t=>rw [hg] at h1;exact h1.symm
theorem make_len (h : Hy) (ms : List Zx) : (xE h ms).l.length <= h.lg.length := by
 unfold xE
 cases vI (mks h) ms (mks h).length with
 | none=>exact Nat.le_refl _
 | some i=>show (h.lg.drop i).length <= _;rw [List.length_drop];omega
theorem planH_len (p : Lq) (id : Int) : (vU p id).lg.length <= p.h.lg.length := by
 unfold vU
 split
 ·exact Nat.le_refl _
 ·unfold uptoH
  split
  ·simp only [List.length_take];omega
  ·exact Nat.le_refl _
theorem endPl_plan (p : Lq) (to : Int) (h : Hy) (ms : List Zx) : endPl (yH p to (planM (xE h ms))) = zA h := by
 rw [<- endPn_make h ms];rfl
structure Or (id : Int) (h : Hy) (L0 : List Zx) (s : Sq) : Prop where
 sk : Sk id h s
 d : s.p.d ∈ mks h
 ok : OkMs id s.p.ep h L0 s.o
 a : ∀ x ∈ s.p.ls,3 <= x.ph -> cle s.p.d (zat (xB L0 s.o) x.id)
 b : ∀ x ∈ s.p.ls,3 <= x.ph -> x.id ∈ zI s.p -> cle (zA h) (zat (xB L0 s.o) x.id)
 c : s.p.ph = 2 -> ∀ x ∈ s.p.ls,3 <= x.ph -> x.id ∈ zI s.p
 c1 : s.p.ph = 1 -> ∀ x ∈ s.p.ls,¬ 3 <= x.ph
def Qt (id ep : Int) (m : Mg) : Prop := (m.fr = id /\ (0 <= m.to /\ m.to < 16 /\ ¬ m.to = id) /\ m.ep = ep) /\ ¬ m.kd = 5 /\ ¬ m.kd = 8 /\ ¬ m.kd = 11 /\ m.pl = []
theorem Qt.go {id ep : Int} {m : Mg} (q : Qt id ep m) (L : List Zx) : goL L m = L := by
 unfold goL
 rw [if_neg q.2.1,if_neg (by have:=q.2;omega)]
theorem qts {id ep : Int} {h : Hy} : ∀ (o : List Mg), (∀ m ∈ o, Qt id ep m) -> ∀ L : List Zx, OkMs id ep h L o /\ xB L o = L
 | [],_,L=>⟨trivial,rfl⟩
 | m :: o, hq, L => by
  have q:=hq m List.mem_cons_self
  obtain ⟨i1,i2⟩:=qts (h:=h) o (fun x hx=>hq x (List.mem_cons_of_mem _ hx)) L
  refine ⟨⟨⟨q.1.1,q.1.2.1,q.1.2.2,fun hk=>absurd hk (by have:=q.2;omega),by rw [q.2.2.2.2];exact Nat.zero_le _⟩,by rw [q.go];exact i1⟩,?_⟩
  show xB (goL L m) o = L
  rw [q.go];exact i2
theorem Or.quiet {id : Int} {h : Hy} {L0 : List Zx} {s t : Sq} (k : Or id h L0 s) (hp : t.p = s.p) {o' : List Mg} (ho : t.o = s.o ++ o') (hq : ∀ m ∈ o', Qt id s.p.ep m) : Or id h L0 t := by
 have hr : xB L0 t.o = xB L0 s.o:=by rw [ho,vK,(qts (h:=h) o' hq _).2]
 refine ⟨k.sk.of (by rw [hp]) (by rw [hp]) (by rw [hp]) (by rw [hp]),by rw [hp];exact k.d,by rw [hp,ho];exact k.ok.append (qts o' hq _).1,?_,?_,?_,?_⟩
 ·rw [hp,hr];exact k.a
 ·rw [hp,hr];exact k.b
 ·rw [hp];exact k.c
 ·rw [hp];exact k.c1
theorem Or.send {id : Int} {h : Hy} {L0 : List Zx} {s : Sq} (k : Or id h L0 s) {to : Int} (m : Mg) (ht : 0 <= to /\ to < 16 /\ ¬ to = id) (c : Int) (hc : m.kd = c) (hk : ¬ c = 5 /\ ¬ c = 8 /\ ¬ c = 11) (hpl : m.pl = []) : Or id h L0 (s.send to m) :=
 k.quiet (t := s.send to m) (o' := [yH s.p to m]) rfl rfl fun x hx => by
  rw [List.mem_singleton.1 hx]
  rw [<- hc] at hk
  exact ⟨⟨k.sk.bk.eq,ht,rfl⟩,hk.1,hk.2.1,hk.2.2,hpl⟩
theorem Or.lay {id : Int} {h : Hy} {L0 : List Zx} {s : Sq} (k : Or id h L0 s) {x : Lr} (hin : InB id x) (ha : 3 <= x.ph -> cle s.p.d (zat (xB L0 s.o) x.id) /\ (x.id ∈ zI s.p -> cle (zA h) (zat (xB L0 s.o) x.id)) /\ (s.p.ph = 2 -> x.id ∈ zI s.p) /\ ¬ s.p.ph = 1) : Or id h L0 (s.lay x) := by
 refine ⟨k.sk.lay hin.1 hin.2,k.d,k.ok,fun y hy h3=>?_,fun y hy h3 hv=>?_,fun h2 y hy h3=>?_,fun h1 y hy h3=>?_⟩
 all_goals rcases vJ.1 hy with rfl | ⟨hy,-⟩
 ·exact (ha h3).1
 ·exact k.a y hy h3
 ·exact (ha h3).2.1 hv
 ·exact k.b y hy h3 hv
 ·exact (ha h3).2.2.1 h2
 ·exact k.c h2 y hy h3
 ·exact (ha h3).2.2.2 h1
 ·exact k.c1 h1 y hy h3
theorem Or.stay {id : Int} {h : Hy} {L0 : List Zx} {s : Sq} (k : Or id h L0 s) : Or id h L0 (vD s) := by
 unfold vD
 split
 ·exact k.quiet (t:={ s with g:=true }) (o':=[]) rfl (by simp) (fun _ h=>by cases h)
 ·exact k
theorem Or.plan {id : Int} {h : Hy} {L0 : List Zx} {s : Sq} (hr : yK (mks h) = true) (hL : L0.length = 16) (k : Or id h L0 s) {x : Lr} (hin : InB id x) (hv : s.p.ph = 2 -> x.id ∈ zI s.p) (h1 : ¬ s.p.ph = 1) : Or id h L0 (vB s x) := by
 have hid:=k.sk.bk.eq
 have hh:=k.sk.h
 have hO : (vB s x).o = s.o ++ [yH s.p x.id (planM (xE (vU s.p x.id) x.ms))]:=rfl
 have mE:=endPl_plan s.p x.id (vU s.p x.id) x.ms
 have m5 : (yH s.p x.id (planM (xE (vU s.p x.id) x.ms))).kd = 5:=rfl
 have mt : (yH s.p x.id (planM (xE (vU s.p x.id) x.ms))).to = x.id:=rfl
 have mf : (yH s.p x.id (planM (xE (vU s.p x.id) x.ms))).fr = id:=hid
 have me : (yH s.p x.id (planM (xE (vU s.p x.id) x.ms))).ep = s.p.ep:=rfl
 have ml : (yH s.p x.id (planM (xE (vU s.p x.id) x.ms))).pl.length <= h.lg.length := by
  rw [<- hh];exact Nat.le_trans (make_len (vU s.p x.id) x.ms) (planH_len s.p x.id)
 generalize yH s.p x.id (planM (xE (vU s.p x.id) x.ms)) = m at *
 have run : ∀ j, 0 <= j -> zat (xB L0 (s.o ++ [m])) j = if j = x.id then zA (vU s.p x.id) else zat (xB L0 s.o) j := fun j hj => by
  rw [vK]
  show zat (goL (xB L0 s.o) m) j = _
  unfold goL
  rw [if_pos m5,zat_set _ (by rw [mt,runL_len,hL];have:=hin.1;omega) hj,mt,mE]
 have hlast : cle s.p.d (zA (vU s.p x.id)) /\ (x.id ∈ zI s.p -> cle (zA h) (zA (vU s.p x.id))) := by
  unfold vU
  split
  ·rw [hh];exact ⟨lastH_max hr k.d,fun _=>xP _⟩
  ·rename_i hn
   rw [lastH_upto (by rw [hh];exact k.d)]
   exact ⟨xP _,fun h=>absurd h hn⟩
 have nn : ∀ y ∈ s.p.ls,0 <= y.id:=fun y hy=>(k.sk.bk.ids y hy).1
 refine ⟨k.sk.plan hin,k.d,?_,fun y hy h3=>?_,fun y hy h3 hvy=>?_,fun h2 y hy h3=>?_,fun h1'=>absurd h1' h1⟩
 ·rw [hO]
  exact k.ok.append ⟨⟨mf,by rw [mt];exact hin.1,me,fun h=>by omega,ml⟩,trivial⟩
 ·rw [hO]
  rcases vJ.1 hy with rfl | ⟨hy,hne⟩
  ·rw [run _ hin.1.1,if_pos rfl];exact hlast.1
  ·rw [run _ (nn y hy),if_neg hne];exact k.a y hy h3
 ·rw [hO]
  rcases vJ.1 hy with rfl | ⟨hy,hne⟩
  ·rw [run _ hin.1.1,if_pos rfl];exact hlast.2 hvy
  ·rw [run _ (nn y hy),if_neg hne];exact k.b y hy h3 hvy
 ·rcases vJ.1 hy with rfl | ⟨hy, hne⟩
  ·exact hv h2
  ·exact k.c h2 y hy h3
theorem Or.plans {id : Int} {h : Hy} {L0 : List Zx} {s : Sq} (hr : yK (mks h) = true) (hL : L0.length = 16) (k : Or id h L0 s) (h3 : s.p.ph = 3) {l : List Lr} (hl : ∀ x ∈ l, InB id x) : Or id h L0 (l.foldl xW s) :=
 (foldB (R := fun t => Or id h L0 t /\ t.p.ph = 3) l s (fun t x hx k => by
  unfold xW
  split
  ·exact ⟨k.1.plan hr hL (hl x hx) (fun h=>by rw [k.2] at h;exact absurd h (by decide)) (by rw [k.2];decide),k.2⟩
  ·exact k) ⟨k,h3⟩).1
theorem Or.plansV {id : Int} {h : Hy} {L0 : List Zx} {s : Sq} (hr : yK (mks h) = true) (hL : L0.length = 16) (k : Or id h L0 s) (h2 : s.p.ph = 2) {l : List Lr} (hl : ∀ x ∈ l, InB id x) : Or id h L0 (l.foldl (yO (zI s.p)) s) /\ (l.foldl (yO (zI s.p)) s).p.ph = 2 := by
 have := foldB (R := fun t => Or id h L0 t /\ t.p.ph = 2 /\ zI t.p = zI s.p) (f := yO (zI s.p)) l s (fun t x hx k => by
  unfold yO
  split
  ·rename_i hc
   exact ⟨k.1.plan hr hL (hl x hx) (fun _=>by rw [k.2.2];exact hc.2) (by rw [k.2.1];decide),k.2.1,k.2.2⟩
  ·exact k) ⟨k,h2,rfl⟩
 exact ⟨this.1,this.2.1⟩
theorem Or.ready {id : Int} {h : Hy} {L0 : List Zx} {s : Sq} (k : Or id h L0 s) (z : Zx) {l : List Lr} (hl : ∀ x ∈ l, InB id x) : Or id h L0 (l.foldl (xX z) s) :=
 foldB (R := Or id h L0) l s (fun t x hx k => by
  unfold xX
  split
  ·exact k.send _ (hl x hx).1 7 rfl (by decide) rfl
  ·exact k) k
theorem Or.epochs {id : Int} {h : Hy} {L0 : List Zx} {s : Sq} (k : Or id h L0 s) {l : List Lr} (hl : ∀ x ∈ l, InB id x) : Or id h L0 (l.foldl yD s) :=
 foldB (R:=Or id h L0) l s (fun t x hx k=>k.send _ (hl x hx).1 3 rfl (by decide) rfl) k
theorem Or.est {id : Int} {h : Hy} {L0 : List Zx} {s : Sq} (hr : yK (mks h) = true) (hL : L0.length = 16) (k : Or id h L0 s) (h2 : s.p.ph = 2) : Or id h L0 (estS s) := by
 have hh:=k.sk.h
 unfold estS
 split
 ·have kT : Or id h L0 { s with p := { s.p with ph := 3, wt := 0, d := zA s.p.h } } := by
   refine ⟨k.sk.of rfl rfl rfl rfl,by show zA s.p.h ∈ mks h;rw [hh];exact lastH_mem _,k.ok,fun x hx h3=>?_,fun x hx h3 _=>k.b x hx h3 (k.c h2 x hx h3),fun h=>absurd (show (3 : Int) = 2 from h) (by decide),fun h=>absurd (show (3 : Int) = 1 from h) (by decide)⟩
   show cle (zA s.p.h) _
   rw [hh];exact k.b x hx h3 (k.c h2 x hx h3)
  have kR:=kT.ready (zA s.p.h) kT.sk.inb
  have hp:=xS (wM (zA s.p.h)) s.p.ls { s with p:={ s.p with ph:=3,wt:=0,d:=zA s.p.h } }
  exact Or.stay (Or.plans hr hL kR (by rw [hp]) kT.sk.inb)
 ·exact k
theorem Or.gath {id : Int} {h : Hy} {L0 : List Zx} {s : Sq} (hr : yK (mks h) = true) (hL : L0.length = 16) (k : Or id h L0 s) (h1 : s.p.ph = 1) : Or id h L0 (xJ s) := by
 have n3:=k.c1 h1
 unfold xJ
 split
 ·have kT : Or id h L0 { s with p := { s.p with ph := 2, wt := 0, cu := s.p.ep } } :=
   ⟨k.sk.of rfl rfl rfl rfl,k.d,k.ok,fun x hx h3=>absurd h3 (n3 x hx),fun x hx h3 _=>absurd h3 (n3 x hx),fun _ x hx h3=>absurd h3 (n3 x hx),fun h=>absurd (show (2 : Int) = 1 from h) (by decide)⟩
  obtain ⟨kV,h2⟩:=Or.plansV hr hL kT rfl kT.sk.inb
  exact Or.est hr hL kV h2
 ·exact k
theorem Or.cho {id : Int} {h : Hy} {L0 : List Zx} {s : Sq} (hr : yK (mks h) = true) (hL : L0.length = 16) (k : Or id h L0 s) (h1 : s.p.ph = 1) (h0 : s.o = []) : Or id h L0 (vQ s) := by
 unfold vQ
 split
 ·split
  ·have kT : Or id h L0 { s with p := { s.p with ep := xU (wG s.p) s.p.id, ac := xU (wG s.p) s.p.id } } :=
    ⟨k.sk.of rfl rfl rfl rfl,k.d,by show OkMs id _ h L0 s.o;rw [h0];trivial,k.a,k.b,k.c,k.c1⟩
   have kE:=kT.epochs kT.sk.inb
   have hp:=xS vY s.p.ls { s with p:={ s.p with ep:=xU (wG s.p) s.p.id,ac:=xU (wG s.p) s.p.id } }
   exact Or.gath hr hL kE (by rw [hp];exact h1)
  ·exact k.quiet (t:={ s with g:=true }) (o':=[]) rfl (by simp) (fun _ h=>by cases h)
 ·exact k
theorem Or.next {id : Int} {h : Hy} {L0 : List Zx} {s : Sq} (k : Or id h L0 s) : Or id h (xB L0 s.o) ⟨s.p, false, []⟩ :=
 ⟨k.sk.of rfl rfl rfl rfl,k.d,trivial,k.a,k.b,k.c,k.c1⟩
structure Mo (id ep : Int) (h : Hy) (L0 : List Zx) (s t : Sq) : Prop where
 p : t.p = s.p
 ok : OkMs id ep h L0 s.o -> OkMs id ep h L0 t.o
 up : ∀ j,0 <= j -> cle (zat (xB L0 s.o) j) (zat (xB L0 t.o) j)
theorem Mo.refl {id ep : Int} {h : Hy} {L0 : List Zx} {s : Sq} : Mo id ep h L0 s s := ⟨rfl, fun h => h, fun _ _ => xP _⟩
theorem Mo.trans {id ep : Int} {h : Hy} {L0 : List Zx} {s t u : Sq} (k : Mo id ep h L0 s t) (l : Mo id ep h L0 t u) : Mo id ep h L0 s u := ⟨l.p.trans k.p, fun h => l.ok (k.ok h), fun j hj => yC (k.up j hj) (l.up j hj)⟩
theorem Mo.fold {id ep : Int} {h : Hy} {L0 : List Zx} {s : Sq} {f : Sq -> Lr -> Sq} {Q : Lr -> Prop} {w : Zx} : ∀ (l : List Lr) (t : Sq), Mo id ep h L0 s t -> (∀ u x, x ∈ l -> Mo id ep h L0 s u -> Mo id ep h L0 u (f u x) /\ (Q x -> cle w (zat (xB L0 (f u x).o) x.id))) -> (∀ x ∈ l, 0 <= x.id) →
 Mo id ep h L0 t (l.foldl f t) /\ ∀ x ∈ l,Q x -> cle w (zat (xB L0 (l.foldl f t).o) x.id)
 | [],t,_,_,_=>⟨.refl,fun _ h=>by cases h⟩
 | x :: l, t, ht, hf, hn => by
  obtain ⟨m1,m2⟩:=hf t x List.mem_cons_self ht
  obtain ⟨i1,i2⟩:=Mo.fold l (f t x) (ht.trans m1) (fun u y hy=>hf u y (List.mem_cons_of_mem _ hy)) (fun y hy=>hn y (List.mem_cons_of_mem _ hy))
  refine ⟨m1.trans i1,fun y hy hq=>?_⟩
  rcases List.mem_cons.1 hy with rfl | hy
  ·exact yC (m2 hq) (i1.up _ (hn _ List.mem_cons_self))
  ·exact i2 y hy hq
theorem Mo.send {id : Int} {h : Hy} {L0 : List Zx} {s : Sq} (hid : s.p.id = id) {to : Int} (m : Mg) (ht : 0 <= to /\ to < 16 /\ ¬ to = id) (c : Int) (hc : m.kd = c) (hk : ¬ c = 5 /\ ¬ c = 8 /\ ¬ c = 11) (hpl : m.pl = []) : Mo id s.p.ep h L0 s (s.send to m) := by
 have q : ∀ x ∈ [yH s.p to m], Qt id s.p.ep x := fun x hx => by
  rw [List.mem_singleton.1 hx]
  rw [<- hc] at hk
  exact ⟨⟨hid,ht,rfl⟩,hk.1,hk.2.1,hk.2.2,hpl⟩
 have ho : (s.send to m).o = s.o ++ [yH s.p to m]:=rfl
 refine ⟨rfl,fun k=>?_,fun j hj=>?_⟩
 ·rw [ho];exact k.append (qts _ q _).1
 ·rw [ho,vK,(qts (h:=h) _ q _).2];exact xP _
theorem Mo.each {id : Int} {h : Hy} {L0 : List Zx} {s : Sq} (hid : s.p.id = id) (hr : yK (mks h) = true) (hL : L0.length = 16) {to kd : Int} (hkd : kd = 8 \/ kd = 11) (ht : 0 <= to /\ to < 16 /\ ¬ to = id) {d z : Zx} (hdm : d ∈ mks h) (hzm : z ∈ mks h) (hd : cle d (zat (xB L0 s.o) to)) :
 Mo id s.p.ep h L0 s (s.each to kd (wR d.e d.n z.e z.n h.lg)) /\ cle z (zat (xB L0 (s.each to kd (wR d.e d.n z.e z.n h.lg)).o) to):=by
 subst hid
 obtain ⟨e1,e2,e3⟩:=each_all (p:=s.p) (h:=h) (kd:=kd) (to:=to) (d:=d) (z:=z) hkd ht hr hdm hzm (L:=xB L0 s.o) (by rw [runL_len];exact hL) hd
 have ho : (s.each to kd (wR d.e d.n z.e z.n h.lg)).o = s.o ++ vZ s.p to kd (wR d.e d.n z.e z.n h.lg):=rfl
 refine ⟨⟨rfl,fun k=>?_,fun j hj=>?_⟩,?_⟩
 ·rw [ho];exact k.append e1
 ·rw [ho,vK];exact e2 j hj
 ·rw [ho,vK];exact e3
theorem voters_less {p q : Lq} (hh : q.h = p.h) (hd : cle p.d q.d) {x : Int} (hx : x ∈ zI q) : x ∈ zI p := by
 have key : ∀ (a b : Cf), wV [b] x = 1 -> wV [a, b] x = 1 := fun a b hb => by
  show rstep x (rstep x 0 a) b = 1
  have hb' : rstep x 0 b = 1:=hb
  generalize rstep x 0 a = o
  unfold rstep at *
  split at hb'
  ·rename_i hc
   rw [if_pos ⟨hc.1,.inr hb'⟩];exact hb'
  ·exact absurd hb' (by decide)
 have mem : ∀ (P : Int -> Bool) (k : Nat) (y : Int), y ∈ whoK P k ↔ (0 <= y /\ y < k /\ P y = true) := by
  intro P k
  induction k with
  | zero=>intro y;exact ⟨fun h=>(by cases h),fun h=>absurd h.2.1 (by omega)⟩
  | succ k ih =>
   intro y
   unfold whoK
   split
   ·rename_i hp
    rw [List.mem_append,ih,List.mem_singleton]
    constructor
    ·rintro (⟨h1, h2, h3⟩ | rfl)
     ·exact ⟨h1,by omega,h3⟩
     ·exact ⟨by omega,by omega,hp⟩
    ·rintro ⟨h1, h2, h3⟩
     by_cases e : y = k
     ·exact .inr e
     ·exact .inl ⟨h1,by omega,h3⟩
   ·rename_i hp
    rw [ih]
    constructor
    ·rintro ⟨h1,h2,h3⟩;exact ⟨h1,by omega,h3⟩
    ·rintro ⟨h1, h2, h3⟩
     refine ⟨h1,?_,h3⟩
     by_cases e : y = k
     ·rw [e] at h3;exact absurd h3 hp
     ·omega
 unfold zI voteL yX endN at *
 rw [mem] at *
 refine ⟨hx.1,hx.2.1,?_⟩
 have h3:=hx.2.2
 rw [decide_eq_true_iff] at h3 ⊢
 rw [hh] at h3
 generalize nsOf p.h p.h.lg = s at *
 by_cases c : s.ch = false
 ·rw [if_pos (.inl c)] at h3 ⊢;exact h3
 ·by_cases c1 : xN s.fe s.fn p.d.e p.d.n <= 0
  ·have : xN s.fe s.fn q.d.e q.d.n <= 0 := zcmp_le (a := ⟨s.fe, s.fn⟩) (b := q.d) (yC (cle_of (a := ⟨s.fe, s.fn⟩) (b := p.d) (Int.not_lt.2 c1)) hd)
   rw [if_pos (.inr this)] at h3
   rw [if_pos (.inr c1)];exact h3
  ·rw [if_neg (fun h => h.elim c c1)]
   split at h3
   ·exact key _ _ h3
   ·exact h3
theorem Or.com {id : Int} {h : Hy} {L0 : List Zx} {s : Sq} (hr : yK (mks h) = true) (hL : L0.length = 16) (k : Or id h L0 s) (h3 : s.p.ph = 3) : Or id h L0 (comS s) := by
 have hh:=k.sk.h
 have hid:=k.sk.bk.eq
 have ids:=k.sk.bk.ids
 unfold comS
 split
 ·exact k
 rename_i hne
 obtain ⟨f1,f2⟩:=comZ_facts (p:=s.p) (by rw [hh];exact k.d)
 rw [hh] at f1
 generalize uV s.p = z at *
 have F := Mo.fold (id := id) (ep := s.p.ep) (h := h) (L0 := L0) (s := s) (f := vV (zI s.p) z (wR s.p.d.e s.p.d.n z.e z.n s.p.h.lg)) (Q := fun x => 3 <= x.ph /\ ¬ x.id ∈ zI s.p) (w := z) s.p.ls s .refl (fun u x hx hm => by
  have hu : u.p = s.p:=hm.p
  unfold vV
  split
  ·rename_i hc
   refine ⟨?_,fun hq=>absurd hc.2 hq.2⟩
   have:=Mo.send (id:=id) (h:=h) (L0:=L0) (s:=u) (by rw [hu];exact hid) { mgK 10 with z:=z } (ids x hx) 10 rfl (by decide) rfl
   rw [hu] at this;exact this
  ·split
   ·rename_i hc
    have:=Mo.each (id:=id) (h:=h) (L0:=L0) (s:=u) (by rw [hu];exact hid) hr hL (to:=x.id) (kd:=11) (.inr rfl) (ids x hx) (d:=s.p.d) (z:=z) k.d f1 (yC (k.a x hx hc.1) (hm.up _ (ids x hx).1))
    rw [hu] at this
    rw [hh];exact ⟨this.1,fun _=>this.2⟩
   ·rename_i hc
    exact ⟨.refl,fun hq=>absurd hq hc⟩) (fun x hx=>(ids x hx).1)
 obtain ⟨F1,F2⟩:=F
 have hst : ∀ U : Sq, Mo id s.p.ep h L0 s U -> (∀ x ∈ s.p.ls, (3 <= x.ph /\ ¬ x.id ∈ zI s.p) -> cle z (zat (xB L0 U.o) x.id)) -> Or id h L0 (vD { U with p := { U.p with d := z } }) := fun U m1 m2 => by
  refine Or.stay ?_
  have hp:=m1.p
  refine ⟨k.sk.of (by show U.p.id = _;rw [hp]) (by show U.p.mo = _;rw [hp]) (by show U.p.ls = _;rw [hp]) (by show U.p.h = _;rw [hp]),f1,?_,?_,?_,?_,?_⟩
  ·show OkMs id U.p.ep h L0 U.o
   rw [hp];exact m1.ok k.ok
  ·show ∀ x ∈ U.p.ls, 3 <= x.ph -> cle z (zat (xB L0 U.o) x.id)
   rw [hp]
   intro x hx hx3
   by_cases hv : x.id ∈ zI s.p
   ·exact yC (lastH_max hr f1) (yC (k.b x hx hx3 hv) (m1.up _ (ids x hx).1))
   ·exact m2 x hx ⟨hx3,hv⟩
  ·show ∀ x ∈ U.p.ls, 3 <= x.ph -> x.id ∈ zI { U.p with d := z } -> cle (zA h) (zat (xB L0 U.o) x.id)
   rw [hp]
   intro x hx hx3 hv
   exact yC (k.b x hx hx3 (voters_less (p:=s.p) (q:={ s.p with d:=z }) rfl f2 hv)) (m1.up _ (ids x hx).1)
  ·intro h2
   have : U.p.ph = 2:=h2
   rw [hp,h3] at this;exact absurd this (by decide)
  ·intro h2
   have : U.p.ph = 1:=h2
   rw [hp,h3] at this;exact absurd this (by decide)
 exact hst _ F1 F2
theorem Or.doS {id : Int} {p : Lq} {m : Mg} {L : List Zx} (hr : yK (mks p.h) = true) (hL : L.length = 16) (k : Or id p.h L ⟨p, false, []⟩) (h0 : p.ep = 0 -> p.ph = 1) (hf : 0 <= m.fr /\ m.fr < 16 /\ ¬ m.fr = id) (hms : m.ms.length <= 1000000) : Or id p.h L (uN ⟨p, false, []⟩ m) := by
 have sk:=k.sk
 have key : ∀ {ph : Int}, (yB p.ls m.fr ph).2 = true -> InB id (yB p.ls m.fr ph).1 /\ (yB p.ls m.fr ph).1 ∈ p.ls /\ (yB p.ls m.fr ph).1.ph = ph := fun {ph} hq => by
  have hR : yB p.ls m.fr ph = ((yB p.ls m.fr ph).1,true):=by rw [<- hq]
  have:=lrn_ms hR
  exact ⟨sk.inb _ this.1,this.1,this.2.2⟩
 have k' : ∀ G : Bool,Or id p.h L ⟨p,G,[]⟩:=fun G=>k.quiet (t:=⟨p,G,[]⟩) (o':=[]) rfl rfl (fun _ h=>by cases h)
 have gg : ∀ s : Sq,Or id p.h L s -> Or id p.h L { s with g:=true }:=fun s k=>k.quiet (t:={ s with g:=true }) (o':=[]) rfl (by simp) (fun _ h=>by cases h)
 unfold uN
 split
 ·unfold infoS
  have hX : InB id (yG p m) /\ ¬ 3 <= (yG p m).ph := by
   unfold yG
   split
   ·rename_i hq
    obtain ⟨a1,a2,a3⟩:=key hq
    refine ⟨⟨a1.1,a1.2⟩,?_⟩
    show ¬ 3 <= (yB p.ls m.fr 1).1.ph
    rw [a3];decide
   ·exact ⟨⟨hf,by simp [lrZ]⟩,by show ¬ (3 : Int) <= 1;decide⟩
  have kL : Or id p.h L ((⟨p,false,[]⟩ : Sq).lay (yG p m)):=k.lay hX.1 (fun h=>absurd h hX.2)
  split
  ·exact k' true
  ·split
   ·exact kL.send _ hX.1.1 3 rfl (by decide) rfl
   ·rename_i he
    exact Or.cho hr hL kL (h0 (by simpa using he)) rfl
 split
 ·unfold uB
  split
  ·exact k
  ·rename_i hq
   have hq2 : (yB p.ls m.fr 1).2 = true := by
    cases hb : (yB p.ls m.fr 1).2 with
    | true=>rfl
    | false=>exact absurd (.inl hb) hq
   obtain ⟨a1,a2,a3⟩:=key hq2
   have hX : InB id (ackX p m):=⟨a1.1,hms⟩
   have hX3 : ¬ 3 <= (ackX p m).ph:=by show ¬ (3 : Int) <= 2;decide
   split
   ·rename_i h1
    have h1' : p.ph = 1:=h1
    have n3:=k.c1 h1'
    have kD : Or id p.h L (uA ⟨p, false, []⟩ m) := by
     unfold uA
     split
     ·rename_i hc
      exact ⟨k.sk.of rfl rfl rfl rfl,hc.2,k.ok,fun x hx h3=>absurd h3 (n3 x hx),fun x hx h3 _=>absurd h3 (n3 x hx),fun _ x hx h3=>absurd h3 (n3 x hx),k.c1⟩
     ·exact k
    have hDp : (uA ⟨p,false,[]⟩ m).p.ph = 1:=by unfold uA;split <;> exact h1'
    split
    ·exact gg _ kD
    ·exact Or.gath hr hL (kD.lay hX (fun h=>absurd h hX3)) hDp
   ·have kL : Or id p.h L ((⟨p, false, []⟩ : Sq).lay (ackX p m)) := k.lay hX (fun h => absurd h hX3)
    split
    ·rename_i h1 hc
     refine Or.plan hr hL kL hX (fun h2=>?_) h1
     rcases hc with h3 | h3
     ·rw [show p.ph = 2 from h2] at h3;exact absurd h3 (by decide)
     ·exact h3.2
    ·exact kL
 split
 ·unfold syncS
  split
  ·exact k
  ·rename_i hq
   have hq2 : (yB p.ls m.fr 3).2 = true := by
    cases hb : (yB p.ls m.fr 3).2 with
    | true=>rfl
    | false=>exact absurd hb hq
   obtain ⟨a1,a2,a3⟩:=key hq2
   have hX : InB id (syncX p m):=⟨a1.1,a1.2⟩
   have a4 : 3 <= (yB p.ls m.fr 3).1.ph:=by rw [a3];decide
   have kL : Or id p.h L ((⟨p,false,[]⟩ : Sq).lay (syncX p m)):=k.lay hX (fun _=>⟨k.a (yB p.ls m.fr 3).1 a2 a4,k.b (yB p.ls m.fr 3).1 a2 a4,fun h2=>k.c h2 (yB p.ls m.fr 3).1 a2 a4,fun h1=>k.c1 h1 _ a2 a4⟩)
   split
   ·rename_i h2;exact Or.est hr hL kL h2
   ·split
    ·rename_i h2 h3
     exact Or.com hr hL (kL.send _ hX.1 7 rfl (by decide) rfl) h3
    ·exact kL
 split
 ·unfold ackdS
  split
  ·exact k
  ·rename_i hq
   have hq2 : (yB p.ls m.fr 4).2 = true := by
    cases hb : (yB p.ls m.fr 4).2 with
    | true=>rfl
    | false=>exact absurd (.inl hb) hq
   obtain ⟨a1,a2,a3⟩:=key hq2
   have hX : InB id (ackdX p m):=⟨a1.1,a1.2⟩
   have a4 : 3 <= (yB p.ls m.fr 4).1.ph:=by rw [a3];decide
   have kL : Or id p.h L ((⟨p,false,[]⟩ : Sq).lay (ackdX p m)):=k.lay hX (fun _=>⟨k.a (yB p.ls m.fr 4).1 a2 a4,k.b (yB p.ls m.fr 4).1 a2 a4,fun h2=>k.c h2 (yB p.ls m.fr 4).1 a2 a4,fun h1=>k.c1 h1 _ a2 a4⟩)
   split
   ·rename_i h3;exact Or.com hr hL kL h3
   ·exact kL
 split
 ·have hk : Sk id p.h (pongS ⟨p, false, []⟩ m) := by
   have h:=Sk.doS sk (m:={ m with kd:=13 }) hf hms
   exact h
  have mm : ∀ x ∈ vM p.ls m.fr, ∃ y ∈ p.ls, x.id = y.id /\ x.ph = y.ph := fun x hx => by
   obtain ⟨y,hy,rfl⟩:=List.mem_map.1 hx
   exact ⟨y,hy,by split <;> rfl,by split <;> rfl⟩
  refine ⟨hk,k.d,trivial,fun x hx h3=>?_,fun x hx h3 hv=>?_,fun h2 x hx h3=>?_,fun h1 x hx h3=>?_⟩
  all_goals obtain ⟨y,hy,e1,e2⟩:=mm x hx
  ·rw [e1];exact k.a y hy (by rw [<- e2];exact h3)
  ·rw [e1];exact k.b y hy (by rw [<- e2];exact h3) (by rw [<- e1];exact hv)
  ·rw [e1];exact k.c h2 y hy (by rw [<- e2];exact h3)
  ·exact k.c1 h1 y hy (by rw [<- e2];exact h3)
 ·exact k
theorem Or.prop {id : Int} {p : Lq} {t : Tx} {L : List Zx} (hb : Bk id p) (hr : yK (mks p.h) = true) (hL : L.length = 16) (k : Or id p.h L ⟨p, false, []⟩) (hok : propOK p t) : Or id { p.h with lg := p.h.lg ++ [t] } L (uI p t) := by
 have h3 : p.ph = 3 := by
  have:=hok.1
  unfold plcQ at this
  split at this
  ·rename_i h;exact h.2
  ·cases this
 have hr2:=rises_snoc hr hok.2.2
 have hid:=hb.eq
 have ids:=hb.ids
 unfold uI
 rw [if_pos hok,hb.relay,wP hb.srt]
 have hP : vN p t = { p with h:={ p.h with lg:=p.h.lg ++ [t] } }:=by unfold vN;rw [hb.relay]
 have hPd : (vN p t).d = p.d:=by rw [hP]
 have hPl : (vN p t).ls = p.ls:=by rw [hP]
 have hPe : (vN p t).ep = p.ep:=by rw [hP]
 have hPi : (vN p t).id = p.id:=by rw [hP]
 have hPp : (vN p t).ph = 3:=by rw [hP];exact h3
 have hPh : (vN p t).h = { p.h with lg:=p.h.lg ++ [t] }:=by rw [hP]
 have hPb : Bk id (vN p t):=by rw [hP];exact hb.same rfl rfl rfl
 clear hP
 generalize vN p t = P at *
 have hdm : p.d ∈ mks { p.h with lg:=p.h.lg ++ [t] }:=by rw [mks_snoc];exact List.mem_append_left _ k.d
 have hlast : zA { p.h with lg:=p.h.lg ++ [t] } = tAt t:=lastH_snoc p.h p.h.lg t
 have hlm:=lastH_mem { p.h with lg:=p.h.lg ++ [t] }
 rw [hlast] at hlm
 have F := Mo.fold (id := id) (ep := P.ep) (h := { p.h with lg := p.h.lg ++ [t] }) (L0 := L) (s := ⟨P, false, []⟩) (f := wL (zI p) (zI P) (wR p.d.e p.d.n t.e t.n (p.h.lg ++ [t])) t) (Q := fun x => 3 <= x.ph /\ x.id ∈ zI P) (w := tAt t) p.ls ⟨P, false, []⟩ .refl (fun u x hx hm => by
  have hu : u.p = P:=hm.p
  have hi:=ids x hx
  unfold wL
  split
  ·rename_i hc
   exact ⟨.refl, fun hq => absurd hc (by rintro (h | h); · have := hq.1; omega
                                         ·exact h hq.2)⟩
  ·rename_i hc
   have hx3 : 3 <= x.ph := by
    have : ¬ x.ph < 3:=fun h=>hc (.inl h)
    omega
   split
   ·rename_i hv
    have hbf:=bef_at (h:={ p.h with lg:=p.h.lg ++ [t] }) hr2 (a:=p.h.lg) (r:=[]) (t:=t) rfl
    have hLx : cle (zA p.h) (zat (xB L u.o) x.id):=yC (k.b x hx hx3 hv) (hm.up _ hi.1)
    have ho : (u.send x.id { mgK 8 with tx:=t }).o = u.o ++ [yH u.p x.id { mgK 8 with tx:=t }]:=rfl
    have m8 : (yH u.p x.id { mgK 8 with tx:=t }).kd = 8:=rfl
    have mt : (yH u.p x.id { mgK 8 with tx:=t }).to = x.id:=rfl
    have mx : (yH u.p x.id { mgK 8 with tx:=t }).tx = t:=rfl
    have mf : (yH u.p x.id { mgK 8 with tx:=t }).fr = id:=by show u.p.id = id;rw [hu,hPi,hid]
    have me : (yH u.p x.id { mgK 8 with tx:=t }).ep = P.ep:=by show u.p.ep = P.ep;rw [hu]
    have mp : (u.send x.id { mgK 8 with tx:=t }).p = u.p:=rfl
    have ml : (yH u.p x.id { mgK 8 with tx:=t }).pl.length <= (p.h.lg ++ [t]).length:=Nat.zero_le _
    generalize yH u.p x.id { mgK 8 with tx:=t } = M at *
    have up:=fun {j : Int} (hj : 0 <= j)=>run_up (L:=xB L u.o) (m:=M) (.inl m8) (by rw [mt];exact ⟨hi.1,hi.2.1⟩) (by rw [runL_len];exact hL) hj
    have hto:=run_to (L:=xB L u.o) (m:=M) (.inl m8) (by rw [mt];exact ⟨hi.1,hi.2.1⟩) (by rw [runL_len];exact hL) hi.1
    rw [mt,if_pos rfl,mx] at hto
    refine ⟨⟨mp,fun ko=>?_,fun j hj=>?_⟩,fun _=>?_⟩
    ·rw [ho]
     exact ko.append ⟨⟨mf,by rw [mt];exact hi,me,fun _=>⟨_,by rw [mx];exact hbf,by rw [mt];exact hLx⟩,ml⟩,trivial⟩
    ·rw [ho,vK];exact up hj
    ·rw [ho, vK]
     show cle (tAt t) (zat (goL (xB L u.o) M) x.id)
     rw [hto];exact (lastZ_two _ _).2
   ·have := Mo.each (id := id) (h := { p.h with lg := p.h.lg ++ [t] }) (L0 := L) (s := u) (by rw [hu, hPi, hid]) hr2 hL (to := x.id) (kd := 8) (.inl rfl) hi (d := p.d) (z := tAt t) hdm hlm (yC (k.a x hx hx3) (hm.up _ hi.1))
    rw [hu] at this
    exact ⟨this.1,fun _=>this.2⟩) (fun x hx=>(ids x hx).1)
 obtain ⟨F1,F2⟩:=F
 have hst : ∀ U : Sq, Mo id P.ep { p.h with lg := p.h.lg ++ [t] } L ⟨P, false, []⟩ U -> (∀ x ∈ p.ls, (3 <= x.ph /\ x.id ∈ zI P) -> cle (tAt t) (zat (xB L U.o) x.id)) -> Or id { p.h with lg := p.h.lg ++ [t] } L (comS U) := fun U m1 m2 => by
  have hp : U.p = P:=m1.p
  refine Or.com hr2 hL ?_ (by rw [hp];exact hPp)
  refine ⟨⟨by rw [hp];exact hPb,by rw [hp];exact hPh⟩,by rw [hp,hPd];exact hdm,by rw [hp];exact m1.ok trivial,?_,?_,?_,?_⟩
  ·rw [hp, hPl, hPd]
   exact fun x hx hx3=>yC (k.a x hx hx3) (m1.up _ (ids x hx).1)
  ·rw [hp, hPl, hlast]
   exact fun x hx hx3 hv=>m2 x hx ⟨hx3,hv⟩
  ·rw [hp,hPp];exact fun h=>absurd h (by decide)
  ·rw [hp,hPp];exact fun h=>absurd h (by decide)
 exact hst _ F1 F2
theorem act_ord {id : Int} {p : Lq} {e : Ev21} {L : List Zx} (hb : Bk id p) (hr : yK (mks p.h) = true) (hL : L.length = 16) (k : Or id p.h L ⟨p, false, []⟩) (h0 : p.ep = 0 -> p.ph = 1) (hms : e.m.ms.length <= 1000000) :
 OkMs id (actS p e).p.ep (actS p e).p.h L (actS p e).o /\ Or id (actS p e).p.h (xB L (actS p e).o) ⟨(actS p e).p,false,[]⟩:=by
 have fin : ∀ {h : Hy} {S : Sq}, Or id h L S -> OkMs id S.p.ep S.p.h L S.o /\ Or id S.p.h (xB L S.o) ⟨S.p, false, []⟩ := fun {h S} kS => by
  rw [kS.sk.h];exact ⟨kS.ok,kS.next⟩
 unfold actS
 split
 ·have hE : hearS p e.m = if p.mo = 2 /\ concQ (yQ p) e.m then uN ⟨yQ p, false, []⟩ e.m else ⟨yQ p, false, []⟩ := rfl
  rw [hE,hb.relay]
  split
  ·rename_i hf
   exact fin (k.doS hr hL h0 ⟨hf.2.2.1,hf.2.2.2.1,fun h=>hf.2.1 (by rw [h];exact hb.eq.symm)⟩ hms)
  ·exact fin k
 split
 ·have hk := tick_bk hb
  have mm : ∀ x ∈ (wO p).p.ls, ∃ y ∈ p.ls, x.id = y.id /\ x.ph = y.ph := fun x hx => by
   unfold wO at hx
   rw [if_pos hb.mo,hb.relay] at hx
   obtain ⟨y,hy,rfl⟩:=List.mem_map.1 hx
   exact ⟨y,hy,rfl,rfl⟩
  have hd : (wO p).p.d = p.d:=by unfold wO;rw [if_pos hb.mo,hb.relay];rfl
  have hh : (wO p).p.h = p.h:=hk.2
  have hph : (wO p).p.ph = p.ph:=by unfold wO;rw [if_pos hb.mo,hb.relay];rfl
  have hv : zI (wO p).p = zI p:=by unfold zI;rw [hd,hh]
  have k1 : Or id p.h L ⟨(wO p).p, false, []⟩ := by
   refine ⟨⟨hk.1,hk.2⟩,by show (wO p).p.d ∈ _;rw [hd];exact k.d,trivial,fun x hx h3=>?_,fun x hx h3 hvx=>?_,fun h2 x hx h3=>?_,fun h1 x hx h3=>?_⟩
   all_goals obtain ⟨y,hy,e1,e2⟩:=mm x hx
   ·show cle (wO p).p.d _
    rw [hd,e1];exact k.a y hy (by rw [<- e2];exact h3)
   ·rw [e1];exact k.b y hy (by rw [<- e2];exact h3) (by rw [<- e1];rw [<- hv];exact hvx)
   ·show x.id ∈ zI (wO p).p
    rw [hv,e1];exact k.c (by rw [<- hph];exact h2) y hy (by rw [<- e2];exact h3)
   ·exact k.c1 (by rw [<- hph];exact h1) y hy (by rw [<- e2];exact h3)
  refine fin (k1.quiet (t:=wO p) rfl (o':=(wO p).o) (by simp) fun m hm=>?_)
  have hep : (wO p).p.ep = p.ep:=by unfold wO;rw [if_pos hb.mo,hb.relay];rfl
  show Qt id (wO p).p.ep m
  rw [hep]
  unfold wO at hm
  rw [if_pos hb.mo,hb.relay,wP hb.srt] at hm
  obtain ⟨y,hy,rfl⟩:=List.mem_map.1 hm
  exact ⟨⟨hb.eq,hb.ids y (List.mem_filter.1 hy).1,rfl⟩,show ¬ (12 : Int) = 5 by decide,show ¬ (12 : Int) = 8 by decide,show ¬ (12 : Int) = 11 by decide,rfl⟩
 split
 ·have hk := lost_bk hb e.n
  have hE : lostQ p e.n = { p with ls:=wQ p.ls e.n }:=by unfold lostQ;rw [if_pos hb.mo,wP hb.srt]
  have sub : ∀ x ∈ wQ p.ls e.n,x ∈ p.ls:=fun x hx=>(List.mem_filter.1 hx).1
  rw [hE] at hk ⊢
  exact fin (h:=p.h) (S:=⟨{ p with ls:=wQ p.ls e.n },false,[]⟩) ⟨⟨hk.1,hk.2⟩,k.d,trivial,fun x hx=>k.a x (sub x hx),fun x hx=>k.b x (sub x hx),fun h2 x hx=>k.c h2 x (sub x hx),fun h1 x hx=>k.c1 h1 x (sub x hx)⟩
 ·rcases prop_sk hb (evT p e) with ⟨-, h⟩ | ⟨hok, sk⟩
  ·rw [h];exact fin k
  ·exact fin (k.prop hb hr hL hok)
end Go.Proofs.YtffflakmofbilaaGreat
namespace Go.Proofs.YtffflakmofbilaaGreat
set_option linter.unusedSimpArgs false
set_option linter.unusedVariables false
set_option maxRecDepth 8000
open Go Go.Av
attribute [local irreducible] Go.Av.yA Go.Av.zR Go.Av.xZ Go.Av.zJ Go.Av.xV Go.Av.zG Go.Av.Con
def zb (L : List Zx) : List V := L.flatMap fun z => [.p (I z.e), .p (I z.n)]
theorem zb_cons (z : Zx) (L : List Zx) : zb (z :: L) = .p (I z.e) :: .p (I z.n) :: zb L := rfl
@[simp] theorem zb_len (L : List Zx) : (zb L).length = L.length * 2 := by
 induction L with
 | nil=>rfl
 | cons z L ih=>rw [zb_cons];simp only [List.length_cons,ih];omega
@[simp] theorem zb_scr (L : List Zx) (n : Nat) : (zb L).map (yR n) = zb L := by
 induction L with
 | nil=>rfl
 | cons z L ih=>rw [zb_cons,tZ,tZ,ih];rfl
@[simp] theorem zb_sub (L : List Zx) (n : Nat) (q : PV) : (zb L).map (xM n q) = zb L := by
 induction L with
 | nil=>rfl
 | cons z L ih=>rw [zb_cons,tZ,tZ,ih];rfl
@[simp] theorem zb_nms (L : List Zx) : (zb L).flatMap wJ = [] := by
 induction L with
 | nil=>rfl
 | cons z L ih=>rw [zb_cons,List.flatMap_cons,List.flatMap_cons,ih];rfl
@[simp] theorem zb_nj (L : List Zx) : (zb L).all nj0 = true := by
 induction L with
 | nil=>rfl
 | cons z L ih=>rw [zb_cons,List.all_cons,List.all_cons,ih];rfl
theorem zb_get : ∀ {L : List Zx} {j : Nat} (h : j < L.length), ((zb L).drop (j * 2)).take 2 = [.p (I L[j].e), .p (I L[j].n)]
 | z :: L,0,_=>rfl
 | z :: L, j + 1, h => by
  rw [zb_cons,show (j + 1) * 2 = j * 2 + 1 + 1 by omega,List.drop_succ_cons,List.drop_succ_cons,zb_get (by simpa using h)];rfl
theorem zb_put : ∀ {L : List Zx} {j : Nat} (e n : Int) (h : j < L.length), (zb L).take (j * 2) ++ .p (I e) :: .p (I n) :: (zb L).drop (j * 2 + 2) = zb (L.set j ⟨e, n⟩)
 | z :: L,0,e,n,_=>rfl
 | z :: L, j + 1, e, n, h => by
  have:=zb_put (L:=L) (j:=j) e n (by simpa using h)
  rw [zb_cons,show (j + 1) * 2 = j * 2 + 1 + 1 by omega,show j * 2 + 1 + 1 + 2 = j * 2 + 2 + 1 + 1 by omega,List.take_succ_cons,List.take_succ_cons,List.drop_succ_cons,List.drop_succ_cons,List.cons_append,List.cons_append,this,List.set_cons_succ];rfl
theorem zxs_getq {l : List Zx} {k : Nat} (h : k < l.length) : (zxs l)[k]? = some [I l[k].e, I l[k].n] := by simp [zxs, h]
set_option maxHeartbeats 4000000 in
theorem before_con (h : Hy) (z y : Zx) (hl : h.lg.length <= 1000) (hy : befH h z = some y) : zB Tryz.prog 23 [.p (.agg h.cells), .p (.agg [I z.e, I z.n])] (.tup [.p (.agg [I y.e, I y.n]), .p (B true)]) := by
 have c1:=marks16_con h hl
 have hml : (mks h).length = h.lg.length + 1:=by simp [mks]
 obtain ⟨M,hM⟩ : ∃ M,M = mks h:=⟨_,rfl⟩
 rw [<- hM] at c1 hml
 have h0 : 0 < M.length:=by omega
 have hy0 : bfL (M[0]'h0) (M.drop 1) z = some y:=by subst hM;exact hy
 clear hM hy
 unfold Hy.cells at *
 refine zK Tryz.tab Tryz.mixed Tryz.func23 rfl rfl Tryz.ntmps23 (by simp) (by simp) fun Q hr hn=>?_
 repeat' first|(refine zR.pure (c1) rfl ?_)|(refine zR.lent (c1) rfl ?_)|(refine zJ.pure (c1) rfl ?_)|(refine zJ.lent (c1) rfl ?_)|(refine zR.own (c1) ?_)|(refine zG.pure (c1) rfl ?_)|(refine zG.lent (c1) rfl ?_)|(refine zG.own (c1) ?_)|(refine hK _ ?_;clear hK)|(refine hK _ _ ?_;clear hK)|(clear hK;refine hK _ ?_;clear hK)|(clear hK;clear hK;refine hK _ ?_;clear hK)|(clear hK;clear hK;clear hK;refine hK _ ?_;clear hK)|(clear hK;clear hK;clear hK;clear hK;refine hK _ ?_;clear hK)|(refine zT fun K hK=>?_)|((first | refine zS ?_ | refine yZ rfl (by kernel_rfl) ?_ | refine yI ?_ | refine wDrw (by kernel_rfl) ?_);simp only [tZ,tY,strip])|((first | refine wIs fun K hK=>?_ | refine wOs fun K hK=>?_ | refine wQs fun K hK=>?_ | refine zY ?_ | refine zM ?_ | refine zF ?_ | refine zW ?_);simp)|(refine wIn ?_;refine And.intro (by kernel_rfl) ?_;try simp only [zZ])|(first | refine zU ?_ | refine wD ?_)|((first | refine zL ?_ | refine zC ?_ | refine zP ?_);try simp)|((first | refine wK ?_ | refine wOn ?_ | refine wQn ?_);try simp only [zZ])
 refine yJ (fun N st=>∃ k,∃ hk : k < M.length,k + 1 + N = M.length /\ bfL M[k] (M.drop (k + 1)) z = some y /\ st.s 3 = .ptr 3 0 /\ st.b 3 = some (.box 25 [.p (I z.e),.p (I z.n)]) /\ st.s 4 = .ptr 4 0 /\ st.b 4 = some (.box 25 [.p (I 0),.p (I 0)]) /\ st.s 6 = .p (.sl 2 (zxs M)) /\ st.s 7 = .p (I ((k + 1 : Nat) : Int))) (M.length - 1) ⟨0,by omega,by omega,hy0,by simp⟩ fun K N st hL ⟨k,hkM,hkN,hb,g3,b3,g4,b4,g6,g7⟩=>?_
 by_cases hlt : k + 1 < M.length
 ·rw [List.drop_eq_getElem_cons hlt] at hb
  unfold bfL at hb
  have hgz:=zxs_getq hlt
  have w1 : IntKind.i64.wrap (k : Int) = (k : Int):=by rw [yV] <;> omega
  have w2 : IntKind.i64.wrap ((k : Int) + 1 + 1) = ((k + 1 + 1 : Nat) : Int):=by rw [yV] <;> omega
  have hgk:=zxs_getq hkM
  have w3 : ((k : Int) + 1).toNat = k + 1:=by omega
  have w4 : (0 : Int) <= (k : Int) + 1:=by omega
  have w5 : (k : Int) + 1 < (M.length : Int):=by omega
  by_cases e : M[k + 1] = z
  ·rw [if_pos e] at hb
   have hb:=Option.some.inj hb
   rw [hb] at hgk
   have e1 : (M[k + 1].e = z.e) = True:=eq_true (by rw [e])
   have e2 : (M[k + 1].n = z.n) = True:=eq_true (by rw [e])
   repeat' first|(refine hK _ ?_;clear hK)|(refine hK _ _ ?_;clear hK)|(clear hK;refine hK _ ?_;clear hK)|(clear hK;clear hK;refine hK _ ?_;clear hK)|(clear hK;clear hK;clear hK;refine hK _ ?_;clear hK)|(clear hK;clear hK;clear hK;clear hK;refine hK _ ?_;clear hK)|(refine zT fun K hK=>?_)|((first | refine zS ?_ | refine yZ rfl (by kernel_rfl) ?_ | refine yI ?_ | refine wDrw (by kernel_rfl) ?_);simp only [tZ,tY,strip])|((first | refine wIs fun K hK=>?_ | refine wOs fun K hK=>?_ | refine wQs fun K hK=>?_ | refine zY ?_ | refine zM ?_ | refine zF ?_ | refine zW ?_);simp [g3,b3,g4,b4,g6,g7,hlt,hgz,hgk,w1,w2,w3,w4,w5,e1,e2,hkM])|(refine wIn ?_;refine And.intro (by kernel_rfl) ?_;try simp only [zZ])|(first | refine zU ?_ | refine wD ?_)|((first | refine zL ?_ | refine zC ?_ | refine zP ?_);try simp)|((first | refine wK ?_ | refine wOn ?_ | refine wQn ?_);try simp only [zZ])
   all_goals apply hr
   all_goals simp [Tryz.f23,g4,b4,hb]
  ·rw [if_neg e] at hb
   by_cases e1 : M[k + 1].e = z.e
   ·have e1' := eq_true e1
    have e2' : (M[k + 1].n = z.n) = False:=eq_false fun h=>e (by cases hM : M[k + 1];rw [hM] at e1 h;cases z;simp only at e1 h;rw [e1,h])
    repeat' first|(refine hK _ ?_;clear hK)|(refine hK _ _ ?_;clear hK)|(clear hK;refine hK _ ?_;clear hK)|(clear hK;clear hK;refine hK _ ?_;clear hK)|(clear hK;clear hK;clear hK;refine hK _ ?_;clear hK)|(clear hK;clear hK;clear hK;clear hK;refine hK _ ?_;clear hK)|(refine zT fun K hK=>?_)|((first | refine zS ?_ | refine yZ rfl (by kernel_rfl) ?_ | refine yI ?_ | refine wDrw (by kernel_rfl) ?_);simp only [tZ,tY,strip])|((first | refine wIs fun K hK=>?_ | refine wOs fun K hK=>?_ | refine wQs fun K hK=>?_ | refine zY ?_ | refine zM ?_ | refine zF ?_ | refine zW ?_);simp [g3,b3,g4,b4,g6,g7,hlt,hgz,hgk,w1,w2,w3,w4,w5,e1',e2',hkM])|(refine wIn ?_;refine And.intro (by kernel_rfl) ?_;try simp only [zZ])|(first | refine zU ?_ | refine wD ?_)|((first | refine zL ?_ | refine zC ?_ | refine zP ?_);try simp)|((first | refine wK ?_ | refine wOn ?_ | refine wQn ?_);try simp only [zZ])
    refine hL _ (N - 1) (by omega) ⟨k + 1,hlt,by omega,hb,?_⟩
    simp [g3,b3,g4,b4,g6,g7,w2]
   ·have e1' := eq_false e1
    repeat' first|(refine hK _ ?_;clear hK)|(refine hK _ _ ?_;clear hK)|(clear hK;refine hK _ ?_;clear hK)|(clear hK;clear hK;refine hK _ ?_;clear hK)|(clear hK;clear hK;clear hK;refine hK _ ?_;clear hK)|(clear hK;clear hK;clear hK;clear hK;refine hK _ ?_;clear hK)|(refine zT fun K hK=>?_)|((first | refine zS ?_ | refine yZ rfl (by kernel_rfl) ?_ | refine yI ?_ | refine wDrw (by kernel_rfl) ?_);simp only [tZ,tY,strip])|((first | refine wIs fun K hK=>?_ | refine wOs fun K hK=>?_ | refine wQs fun K hK=>?_ | refine zY ?_ | refine zM ?_ | refine zF ?_ | refine zW ?_);simp [g3,b3,g4,b4,g6,g7,hlt,hgz,hgk,w1,w2,w3,w4,w5,e1',hkM])|(refine wIn ?_;refine And.intro (by kernel_rfl) ?_;try simp only [zZ])|(first | refine zU ?_ | refine wD ?_)|((first | refine zL ?_ | refine zC ?_ | refine zP ?_);try simp)|((first | refine wK ?_ | refine wOn ?_ | refine wQn ?_);try simp only [zZ])
    refine hL _ (N - 1) (by omega) ⟨k + 1,hlt,by omega,hb,?_⟩
    simp [g3,b3,g4,b4,g6,g7,w2]
 ·rw [List.drop_of_length_le (by omega)] at hb
  cases hb
def FO (w : Wh) (p : Lq) (up : Bool) (l : List Ev21) (k : Nat) (L : List Zx) (st : St) : Prop :=
 st.s 2 = .ptr 2 0 /\ st.b 2 = some (.box 35 (wB w)) /\ st.s 5 = .ptr 5 0 /\ st.b 5 = some (.box 47 (pB p)) /\ st.s 7 = .p (B up) /\ st.s 8 = .ptr 8 0 /\ st.b 8 = some (.box 83 (zb L)) /\ st.s 38 = .p (.sl 56 (evsC l)) /\ st.s 39 = .p (I l.length) /\ st.s 40 = .p (I k)
set_option maxHeartbeats 64000000 in
theorem ordL {Q : AExit -> St -> Prop} {st : St} (w : Wh) (p : Lq) (up : Bool) (l : List Ev21) (i : Nat) (O : List Mg) (L0 : List Zx) (h16 : L0.length = 16) (hok : OkMs w.id p.ep p.h L0 O) (hlg : p.h.lg.length <= 1000) (hO : O.length <= 1000000000)
 (hex : ∀ st,FO w p up l i (xB L0 O) st -> Q (.exit 2) st)
 (h0 : FO w p up l i L0 st /\ st.s 54 = .p (.sl 46 (zD O)) /\ st.s 55 = .p (I O.length) /\ st.s 56 = .p (I 0)) :
 WC Tryz.prog Tryz.T 165 (lp Tryz.f5 1) Q st:=by
 obtain ⟨⟨g2,b2,g5,b5,g7,g8,b8,g38,g39,g40⟩,g54,g55,g56⟩:=h0
 have hC:=fun (k : Nat) (h : k < O.length)=>mgsC_get (l:=O) (k:=k) h
 generalize zD O = C at *
 refine yJ (fun N st=>∃ k L,k + N = O.length /\ L.length = 16 /\ OkMs w.id p.ep p.h L (O.drop k) /\ xB L (O.drop k) = xB L0 O /\ FO w p up l i L st /\ st.s 54 = .p (.sl 46 C) /\ st.s 55 = .p (I O.length) /\ st.s 56 = .p (I k)) O.length ⟨0,L0,by omega,h16,hok,rfl,⟨g2,b2,g5,b5,g7,g8,b8,g38,g39,g40⟩,g54,g55,g56⟩ fun K N st hL ⟨k,L,hkN,hL16,hoks,hrun,hF,g54,g55,g56⟩=>?_
 clear g2 b2 g5 b5 g7 g8 b8 g38 g39 g40 h16 hok
 by_cases hlt : k < O.length
 case neg =>
  rw [List.drop_of_length_le (by omega)] at hrun
  clear hC
  obtain ⟨g2,b2,g5,b5,g7,g8,b8,g38,g39,g40⟩:=hF
  repeat' first|(refine hK _ ?_;clear hK)|(refine hK _ _ ?_;clear hK)|(clear hK;refine hK _ ?_;clear hK)|(clear hK;clear hK;refine hK _ ?_;clear hK)|(clear hK;clear hK;clear hK;refine hK _ ?_;clear hK)|(clear hK;clear hK;clear hK;clear hK;refine hK _ ?_;clear hK)|(refine zT fun K hK=>?_)|((first | refine zS ?_ | refine yZ rfl (by kernel_rfl) ?_ | refine yI ?_ | refine wDrw (by kernel_rfl) ?_);simp only [tZ,tY,strip])|((first | refine wIs fun K hK=>?_ | refine wOs fun K hK=>?_ | refine wQs fun K hK=>?_ | refine zY ?_ | refine zM ?_ | refine zF ?_ | refine zW ?_);simp [g54,g55,g56,hlt])|(refine wIn ?_;refine And.intro (by kernel_rfl) ?_;try simp only [zZ])|(first | refine zU ?_ | refine wD ?_)|((first | refine zL ?_ | refine zC ?_ | refine zP ?_);try simp)|((first | refine wK ?_ | refine wOn ?_ | refine wQn ?_);try simp only [zZ])
  refine hex _ ?_
  rw [<- hrun]
  simp [FO,xB,g2,b2,g5,b5,g7,g8,b8,g38,g39,g40]
 obtain ⟨g2,b2,g5,b5,g7,g8,b8,g38,g39,g40⟩:=hF
 rw [List.drop_eq_getElem_cons hlt] at hoks hrun
 have hg:=hC k hlt
 clear hC
 have hw:=yF k _ hlt (by omega)
 obtain ⟨ho,hoks⟩:=hoks
 have hrun' : xB (goL L O[k]) (O.drop (k + 1)) = xB L0 O:=hrun
 clear hrun
 generalize O[k] = m at *
 obtain ⟨hfr,⟨ht0,ht16,htn⟩,hep,hbf,hpl⟩:=ho
 obtain ⟨j,hj⟩ : ∃ j : Nat,m.to = (j : Int):=⟨m.to.toNat,by omega⟩
 rw [hj] at ht0 ht16 htn hbf
 have hj16 : j < L.length:=by omega
 have f1 : (m.fr = w.id) = True:=eq_true hfr
 have f2 : ((j : Int) < 0) = False:=eq_false (by omega)
 have f3 : ((16 : Int) <= (j : Int)) = False:=eq_false (by omega)
 have f4 : ((j : Int) = w.id) = False:=eq_false htn
 have f5 : (m.ep = p.ep) = True:=eq_true hep
 have f6 : ((j : Int)).toNat = j:=by omega
 have f7 : j < 16:=by omega
 have f8 : j * 2 <= 30:=by omega
 have hgo : goL L m = if m.kd = 5 then L.set j (endPl m) else if m.kd = 8 \/ m.kd = 11 then L.set j (uO [zat L (j : Int),tAt m.tx]) else L:=by unfold goL;rw [hj];rfl
 have hput : ∀ (X : List Zx) (e n : Int),X.length = 16 -> (zb X).take (j * 2) ++ .p (I e) :: .p (I n) :: (zb X).drop (j * 2 + 2) = zb (X.set j ⟨e,n⟩):=fun X e n h=>zb_put e n (by omega)
 have hget:=zb_get hj16
 have hlen2 : (goL L m).length = 16:=by rw [goL_len,hL16]
 clear ht0 ht16 htn hfr hep
 unfold wB at b2
 unfold pB at b5
 unfold Mg.cells at hg
 by_cases k5 : m.kd = 5
 ·have k5' := eq_true k5
  clear hbf
  rw [if_pos k5] at hgo
  by_cases hp : m.pk = 3
  ·have hp' := eq_true hp
   by_cases hn : m.pl.length = 0
   ·have he : endPl m = ⟨m.pim.ae, m.pim.an⟩ := by unfold endPl; rw [List.length_eq_zero_iff.1 hn]; simp [hp]
    repeat' first|(refine hK _ ?_;clear hK)|(refine hK _ _ ?_;clear hK)|(clear hK;refine hK _ ?_;clear hK)|(clear hK;clear hK;refine hK _ ?_;clear hK)|(clear hK;clear hK;clear hK;refine hK _ ?_;clear hK)|(clear hK;clear hK;clear hK;clear hK;refine hK _ ?_;clear hK)|(refine zT fun K hK=>?_)|((first | refine zS ?_ | refine yZ rfl (by kernel_rfl) ?_ | refine yI ?_ | refine wDrw (by kernel_rfl) ?_);simp only [tZ,tY,strip])|((first | refine wIs fun K hK=>?_ | refine wOs fun K hK=>?_ | refine wQs fun K hK=>?_ | refine zY ?_ | refine zM ?_ | refine zF ?_ | refine zW ?_);simp [g2,b2,g5,b5,g7,g8,b8,g38,g39,g40,g54,g55,g56,hlt,hg,hw,hj,f1,f2,f3,f4,f5,f6,f7,f8,hput,hget,hL16,List.length_set,k5',hp',hn,he])|(refine wIn ?_;refine And.intro (by kernel_rfl) ?_;try simp only [zZ])|(first | refine zU ?_ | refine wD ?_)|((first | refine zL ?_ | refine zC ?_ | refine zP ?_);try simp)|((first | refine wK ?_ | refine wOn ?_ | refine wQn ?_);try simp only [zZ])
    refine hL _ (N - 1) (by omega) ⟨k + 1,goL L m,by omega,hlen2,hoks,hrun',?_⟩
    simp [FO,wB,pB,g2,b2,g5,b5,g7,g8,b8,g38,g39,g40,g54,g55,g56,hw,hgo,List.set_set,k5',hp',hn,he]
   ·obtain ⟨q, hq⟩ : ∃ q, q + 1 = m.pl.length := ⟨m.pl.length - 1, by omega⟩
    have hql : q < m.pl.length:=by omega
    have he : endPl m = ⟨m.pl[q].e,m.pl[q].n⟩:=by unfold endPl;rw [List.getLast?_eq_getElem?,show m.pl.length - 1 = q by omega,List.getElem?_eq_getElem hql]
    have hn1 : (0 : Int) < (m.pl.length : Int):=by omega
    have hn2 : 0 < m.pl.length:=by omega
    have hwq : IntKind.i64.wrap ((m.pl.length : Int) - 1) = (q : Int):=by rw [yV] <;> omega
    have htg:=wC hql
    unfold Tx.cells at htg
    repeat' first|(refine wDrwT (id:=23) 11 (by kernel_rfl) ?_;simp only [tZ,tY,strip,List.take_succ_cons,List.take_zero,List.drop_succ_cons,List.drop_zero])|(refine hK _ ?_;clear hK)|(refine hK _ _ ?_;clear hK)|(clear hK;refine hK _ ?_;clear hK)|(clear hK;clear hK;refine hK _ ?_;clear hK)|(clear hK;clear hK;clear hK;refine hK _ ?_;clear hK)|(clear hK;clear hK;clear hK;clear hK;refine hK _ ?_;clear hK)|(refine zT fun K hK=>?_)|((first | refine zS ?_ | refine yZ rfl (by kernel_rfl) ?_ | refine yI ?_ | refine wDrw (by kernel_rfl) ?_);simp only [tZ,tY,strip])|((first | refine wIs fun K hK=>?_ | refine wOs fun K hK=>?_ | refine wQs fun K hK=>?_ | refine zY ?_ | refine zM ?_ | refine zF ?_ | refine zW ?_);simp [g2,b2,g5,b5,g7,g8,b8,g38,g39,g40,g54,g55,g56,hlt,hg,hw,hj,f1,f2,f3,f4,f5,f6,f7,f8,hput,hget,hL16,List.length_set,k5',hp',hn,hn1,hn2,hwq,htg,hql,he])|(refine wIn ?_;refine And.intro (by kernel_rfl) ?_;try simp only [zZ])|(first | refine zU ?_ | refine wD ?_)|((first | refine zL ?_ | refine zC ?_ | refine zP ?_);try simp)|((first | refine wK ?_ | refine wOn ?_ | refine wQn ?_);try simp only [zZ])
    refine hL _ (N - 1) (by omega) ⟨k + 1,goL L m,by omega,hlen2,hoks,hrun',?_⟩
    simp [FO,wB,pB,g2,b2,g5,b5,g7,g8,b8,g38,g39,g40,g54,g55,g56,hw,hgo,List.set_set,k5',hp',hn,hn1,hn2,hwq,htg,hql,he]
  ·have hp' := eq_false hp
   by_cases hn : m.pl.length = 0
   ·have he : endPl m = ⟨m.pz.e, m.pz.n⟩ := by unfold endPl; rw [List.length_eq_zero_iff.1 hn]; simp [hp]
    repeat' first|(refine hK _ ?_;clear hK)|(refine hK _ _ ?_;clear hK)|(clear hK;refine hK _ ?_;clear hK)|(clear hK;clear hK;refine hK _ ?_;clear hK)|(clear hK;clear hK;clear hK;refine hK _ ?_;clear hK)|(clear hK;clear hK;clear hK;clear hK;refine hK _ ?_;clear hK)|(refine zT fun K hK=>?_)|((first | refine zS ?_ | refine yZ rfl (by kernel_rfl) ?_ | refine yI ?_ | refine wDrw (by kernel_rfl) ?_);simp only [tZ,tY,strip])|((first | refine wIs fun K hK=>?_ | refine wOs fun K hK=>?_ | refine wQs fun K hK=>?_ | refine zY ?_ | refine zM ?_ | refine zF ?_ | refine zW ?_);simp [g2,b2,g5,b5,g7,g8,b8,g38,g39,g40,g54,g55,g56,hlt,hg,hw,hj,f1,f2,f3,f4,f5,f6,f7,f8,hput,hget,hL16,List.length_set,k5',hp',hn,he])|(refine wIn ?_;refine And.intro (by kernel_rfl) ?_;try simp only [zZ])|(first | refine zU ?_ | refine wD ?_)|((first | refine zL ?_ | refine zC ?_ | refine zP ?_);try simp)|((first | refine wK ?_ | refine wOn ?_ | refine wQn ?_);try simp only [zZ])
    refine hL _ (N - 1) (by omega) ⟨k + 1,goL L m,by omega,hlen2,hoks,hrun',?_⟩
    simp [FO,wB,pB,g2,b2,g5,b5,g7,g8,b8,g38,g39,g40,g54,g55,g56,hw,hgo,List.set_set,k5',hp',hn,he]
   ·obtain ⟨q, hq⟩ : ∃ q, q + 1 = m.pl.length := ⟨m.pl.length - 1, by omega⟩
    have hql : q < m.pl.length:=by omega
    have he : endPl m = ⟨m.pl[q].e,m.pl[q].n⟩:=by unfold endPl;rw [List.getLast?_eq_getElem?,show m.pl.length - 1 = q by omega,List.getElem?_eq_getElem hql]
    have hn1 : (0 : Int) < (m.pl.length : Int):=by omega
    have hn2 : 0 < m.pl.length:=by omega
    have hwq : IntKind.i64.wrap ((m.pl.length : Int) - 1) = (q : Int):=by rw [yV] <;> omega
    have htg:=wC hql
    unfold Tx.cells at htg
    repeat' first|(refine wDrwT (id:=23) 11 (by kernel_rfl) ?_;simp only [tZ,tY,strip,List.take_succ_cons,List.take_zero,List.drop_succ_cons,List.drop_zero])|(refine hK _ ?_;clear hK)|(refine hK _ _ ?_;clear hK)|(clear hK;refine hK _ ?_;clear hK)|(clear hK;clear hK;refine hK _ ?_;clear hK)|(clear hK;clear hK;clear hK;refine hK _ ?_;clear hK)|(clear hK;clear hK;clear hK;clear hK;refine hK _ ?_;clear hK)|(refine zT fun K hK=>?_)|((first | refine zS ?_ | refine yZ rfl (by kernel_rfl) ?_ | refine yI ?_ | refine wDrw (by kernel_rfl) ?_);simp only [tZ,tY,strip])|((first | refine wIs fun K hK=>?_ | refine wOs fun K hK=>?_ | refine wQs fun K hK=>?_ | refine zY ?_ | refine zM ?_ | refine zF ?_ | refine zW ?_);simp [g2,b2,g5,b5,g7,g8,b8,g38,g39,g40,g54,g55,g56,hlt,hg,hw,hj,f1,f2,f3,f4,f5,f6,f7,f8,hput,hget,hL16,List.length_set,k5',hp',hn,hn1,hn2,hwq,htg,hql,he])|(refine wIn ?_;refine And.intro (by kernel_rfl) ?_;try simp only [zZ])|(first | refine zU ?_ | refine wD ?_)|((first | refine zL ?_ | refine zC ?_ | refine zP ?_);try simp)|((first | refine wK ?_ | refine wOn ?_ | refine wQn ?_);try simp only [zZ])
    refine hL _ (N - 1) (by omega) ⟨k + 1,goL L m,by omega,hlen2,hoks,hrun',?_⟩
    simp [FO,wB,pB,g2,b2,g5,b5,g7,g8,b8,g38,g39,g40,g54,g55,g56,hw,hgo,List.set_set,k5',hp',hn,hn1,hn2,hwq,htg,hql,he]
 have k5':=eq_false k5
 rw [if_neg k5] at hgo
 by_cases k8 : m.kd = 8 \/ m.kd = 11
 ·rw [if_pos k8] at hgo
  obtain ⟨z,hz,hcz⟩:=hbf k8
  have hzat : zat L (j : Int) = L[j]:=by unfold zat;rw [f6,List.getD_eq_getElem?_getD,List.getElem?_eq_getElem hj16];rfl
  rw [hzat] at hgo hcz
  have c1:=before_con p.h (tAt m.tx) z hlg hz
  have c2:=cmp02_con z.e z.n L[j].e L[j].n
  have c3:=last02_con [L[j],tAt m.tx]
  have hc0:=zcmp_le hcz
  generalize uO [L[j],tAt m.tx] = Z at *
  generalize xN z.e z.n L[j].e L[j].n = c at *
  generalize L[j] = y at *
  have hc : (0 < c) = False:=eq_false (by omega)
  unfold Hy.cells at c1
  simp only [zxs,tZ,tY] at c3
  rcases k8 with k8 | k11
  ·have k8' := eq_true k8
   repeat' first|(refine hK _ ?_;clear hK)|(refine hK _ _ ?_;clear hK)|(clear hK;refine hK _ ?_;clear hK)|(clear hK;clear hK;refine hK _ ?_;clear hK)|(clear hK;clear hK;clear hK;refine hK _ ?_;clear hK)|(clear hK;clear hK;clear hK;clear hK;refine hK _ ?_;clear hK)|(refine zT fun K hK=>?_)|((first | refine zS ?_ | refine yZ rfl (by kernel_rfl) ?_ | refine yI ?_ | refine wDrw (by kernel_rfl) ?_);simp only [tZ,tY,strip])|((first | refine wIs fun K hK=>?_ | refine wOs fun K hK=>?_ | refine wQs fun K hK=>?_ | refine zY ?_ | refine zM ?_ | refine zF ?_ | refine zW ?_);simp [g2,b2,g5,b5,g7,g8,b8,g38,g39,g40,g54,g55,g56,hlt,hg,hw,hj,f1,f2,f3,f4,f5,f6,f7,f8,hput,hget,hL16,List.length_set,k5',k8',hc])|(refine wIn ?_;refine And.intro (by kernel_rfl) ?_;try simp only [zZ])|(first | refine zU ?_ | refine wD ?_)|((first | refine zL ?_ | refine zC ?_ | refine zP ?_);try simp)|((first | refine wK ?_ | refine wOn ?_ | refine wQn ?_);try simp only [zZ])|(refine zR.pure (c1) rfl ?_)|(refine zR.lent (c1) rfl ?_)|(refine zJ.pure (c1) rfl ?_)|(refine zJ.lent (c1) rfl ?_)|(refine zR.own (c1) ?_)|(refine zG.pure (c1) rfl ?_)|(refine zG.lent (c1) rfl ?_)|(refine zG.own (c1) ?_)|(refine zR.pure (c2) rfl ?_)|(refine zR.lent (c2) rfl ?_)|(refine zJ.pure (c2) rfl ?_)|(refine zJ.lent (c2) rfl ?_)|(refine zR.own (c2) ?_)|(refine zG.pure (c2) rfl ?_)|(refine zG.lent (c2) rfl ?_)|(refine zG.own (c2) ?_)|(refine zR.pure (c3) rfl ?_)|(refine zR.lent (c3) rfl ?_)|(refine zJ.pure (c3) rfl ?_)|(refine zJ.lent (c3) rfl ?_)|(refine zR.own (c3) ?_)|(refine zG.pure (c3) rfl ?_)|(refine zG.lent (c3) rfl ?_)|(refine zG.own (c3) ?_)
   refine hL _ (N - 1) (by omega) ⟨k + 1,goL L m,by omega,hlen2,hoks,hrun',?_⟩
   simp [FO,wB,pB,g2,b2,g5,b5,g7,g8,b8,g38,g39,g40,g54,g55,g56,hw,hgo,k5',k8',hc]
  ·have k8' : (m.kd = 8) = False := eq_false (by omega)
   have k11':=eq_true k11
   repeat' first|(refine hK _ ?_;clear hK)|(refine hK _ _ ?_;clear hK)|(clear hK;refine hK _ ?_;clear hK)|(clear hK;clear hK;refine hK _ ?_;clear hK)|(clear hK;clear hK;clear hK;refine hK _ ?_;clear hK)|(clear hK;clear hK;clear hK;clear hK;refine hK _ ?_;clear hK)|(refine zT fun K hK=>?_)|((first | refine zS ?_ | refine yZ rfl (by kernel_rfl) ?_ | refine yI ?_ | refine wDrw (by kernel_rfl) ?_);simp only [tZ,tY,strip])|((first | refine wIs fun K hK=>?_ | refine wOs fun K hK=>?_ | refine wQs fun K hK=>?_ | refine zY ?_ | refine zM ?_ | refine zF ?_ | refine zW ?_);simp [g2,b2,g5,b5,g7,g8,b8,g38,g39,g40,g54,g55,g56,hlt,hg,hw,hj,f1,f2,f3,f4,f5,f6,f7,f8,hput,hget,hL16,List.length_set,k5',k8',k11',hc])|(refine wIn ?_;refine And.intro (by kernel_rfl) ?_;try simp only [zZ])|(first | refine zU ?_ | refine wD ?_)|((first | refine zL ?_ | refine zC ?_ | refine zP ?_);try simp)|((first | refine wK ?_ | refine wOn ?_ | refine wQn ?_);try simp only [zZ])|(refine zR.pure (c1) rfl ?_)|(refine zR.lent (c1) rfl ?_)|(refine zJ.pure (c1) rfl ?_)|(refine zJ.lent (c1) rfl ?_)|(refine zR.own (c1) ?_)|(refine zG.pure (c1) rfl ?_)|(refine zG.lent (c1) rfl ?_)|(refine zG.own (c1) ?_)|(refine zR.pure (c2) rfl ?_)|(refine zR.lent (c2) rfl ?_)|(refine zJ.pure (c2) rfl ?_)|(refine zJ.lent (c2) rfl ?_)|(refine zR.own (c2) ?_)|(refine zG.pure (c2) rfl ?_)|(refine zG.lent (c2) rfl ?_)|(refine zG.own (c2) ?_)|(refine zR.pure (c3) rfl ?_)|(refine zR.lent (c3) rfl ?_)|(refine zJ.pure (c3) rfl ?_)|(refine zJ.lent (c3) rfl ?_)|(refine zR.own (c3) ?_)|(refine zG.pure (c3) rfl ?_)|(refine zG.lent (c3) rfl ?_)|(refine zG.own (c3) ?_)
   refine hL _ (N - 1) (by omega) ⟨k + 1,goL L m,by omega,hlen2,hoks,hrun',?_⟩
   simp [FO,wB,pB,g2,b2,g5,b5,g7,g8,b8,g38,g39,g40,g54,g55,g56,hw,hgo,k5',k8',k11',hc]
 ·rw [if_neg k8] at hgo
  have k8' : (m.kd = 8) = False:=eq_false (by omega)
  have k11' : (m.kd = 11) = False:=eq_false (by omega)
  clear hbf
  repeat' first|(refine hK _ ?_;clear hK)|(refine hK _ _ ?_;clear hK)|(clear hK;refine hK _ ?_;clear hK)|(clear hK;clear hK;refine hK _ ?_;clear hK)|(clear hK;clear hK;clear hK;refine hK _ ?_;clear hK)|(clear hK;clear hK;clear hK;clear hK;refine hK _ ?_;clear hK)|(refine zT fun K hK=>?_)|((first | refine zS ?_ | refine yZ rfl (by kernel_rfl) ?_ | refine yI ?_ | refine wDrw (by kernel_rfl) ?_);simp only [tZ,tY,strip])|((first | refine wIs fun K hK=>?_ | refine wOs fun K hK=>?_ | refine wQs fun K hK=>?_ | refine zY ?_ | refine zM ?_ | refine zF ?_ | refine zW ?_);simp [g2,b2,g5,b5,g7,g8,b8,g38,g39,g40,g54,g55,g56,hlt,hg,hw,hj,f1,f2,f3,f4,f5,f6,f7,f8,hput,hget,hL16,List.length_set,k5',k8',k11'])|(refine wIn ?_;refine And.intro (by kernel_rfl) ?_;try simp only [zZ])|(first | refine zU ?_ | refine wD ?_)|((first | refine zL ?_ | refine zC ?_ | refine zP ?_);try simp)|((first | refine wK ?_ | refine wOn ?_ | refine wQn ?_);try simp only [zZ])
  refine hL _ (N - 1) (by omega) ⟨k + 1,goL L m,by omega,hlen2,hoks,hrun',?_⟩
  simp [FO,wB,pB,g2,b2,g5,b5,g7,g8,b8,g38,g39,g40,g54,g55,g56,hw,hgo,k5',k8',k11']
end Go.Proofs.YtffflakmofbilaaGreat
