/- Texts that the proof needs: LE2. -/
import Derived.Test.YtffflakmofbilaaGreatP33LeadOrder
import Derived.Test.YtffflakmofbilaaGreatP34LeadOrder
import Derived.Test.YtffflakmofbilaaGreatP36LeadOrder
import Derived.Test.YtffflakmofbilaaGreatP38LeadOrder
import Derived.Test.YtffflakmofbilaaGreatP39LeadOrder
import Derived.Test.YtffflakmofbilaaGreatP31LeadOrder
namespace Go.Proofs.YtffflakmofbilaaGreat
set_option linter.unusedSimpArgs false
set_option linter.unusedVariables false
open Go Go.Av
structure HB (k : Nat) (h : Hy) : Prop where
 ns : h.im.ns.length <= 200
 ss : h.im.ss.length <= 200
 c : h.im.c.ms.length <= 200
 lg : h.lg.length <= k
 ps : ∀ t ∈ h.lg,t.ps.length <= 200 /\ ∀ x ∈ t.ps,x.c.ms.length <= 200
theorem HB.mono {k l : Nat} {h : Hy} (b : HB k h) (hl : k <= l) : HB l h := ⟨b.ns, b.ss, b.c, Nat.le_trans b.lg hl, b.ps⟩
theorem HB.ok {k : Nat} {h : Hy} (b : HB k h) (hk : k <= 400) : OkH h := by
 have hlg:=b.lg
 refine ⟨by have:=b.ns;omega,by have:=b.ss;omega,by have:=b.c;omega,by omega,fun t ht=>⟨by have:=(b.ps t ht).1;omega,fun p hp=>by have:=(b.ps t ht).2 p hp;omega⟩,?_⟩
 have key : ∀ l : List Tx, (∀ t ∈ l, t.ps.length <= 200) -> (l.map fun t => t.ps.length).sum <= l.length * 200 := by
  intro l
  induction l with
  | nil=>intro _;simp
  | cons t l ih =>
   intro h
   have h1:=h t (by simp)
   have h2:=ih fun t' h'=>h t' (by simp [h'])
   simp only [tZ,List.sum_cons,List.length_cons];omega
 have:=key h.lg fun t ht=>(b.ps t ht).1
 omega
structure Bk (id : Int) (p : Lq) : Prop where
 eq : p.id = id
 mo : p.mo = 2
 srt : Srt p.ls
 ids : ∀ y ∈ p.ls,0 <= y.id /\ y.id < 16 /\ ¬ y.id = id
 ms : ∀ y ∈ p.ls,y.ms.length <= 1000000
theorem Bk.len {id : Int} {p : Lq} (h : Bk id p) : p.ls.length <= 16 := by
 have:=srt_len h.srt (a:=0) (fun y hy=>⟨(h.ids y hy).1,(h.ids y hy).2.1⟩) (by omega)
 omega
theorem Bk.relay {id : Int} {p : Lq} (h : Bk id p) : yQ p = p := by unfold yQ; rw [wP h.srt]
theorem Bk.same {id : Int} {p q : Lq} (h : Bk id p) (h1 : q.id = p.id) (h2 : q.mo = p.mo) (h3 : q.ls = p.ls) : Bk id q := ⟨h1.trans h.eq, h2.trans h.mo, by rw [h3]; exact h.srt, by rw [h3]; exact h.ids, by rw [h3]; exact h.ms⟩
theorem Bk.lay {id : Int} {p : Lq} (h : Bk id p) {x : Lr} (hx : 0 <= x.id /\ x.id < 16 /\ ¬ x.id = id) (hm : x.ms.length <= 1000000) : Bk id { p with ls := xK p.ls x } := by
 refine ⟨h.eq,h.mo,srt_lay h.srt,fun y hy=>?_,fun y hy=>?_⟩
 ·rcases vJ.1 hy with rfl | ⟨hy, -⟩
  ·exact hx
  ·exact h.ids y hy
 ·rcases vJ.1 hy with rfl | ⟨hy, -⟩
  ·exact hm
  ·exact h.ms y hy
theorem foldB {α : Type} {R : Sq -> Prop} {f : Sq -> α -> Sq} : ∀ (l : List α) (s : Sq), (∀ s x, x ∈ l -> R s -> R (f s x)) -> R s -> R (l.foldl f s)
 | [],_,_,h=>h
 | x :: l, s, hf, h => by
  rw [List.foldl_cons]
  exact foldB l _ (fun s y hy=>hf s y (List.mem_cons_of_mem _ hy)) (hf s x (List.mem_cons_self ..) h)
structure Sk (id : Int) (h : Hy) (s : Sq) : Prop where
 bk : Bk id s.p
 h : s.p.h = h
theorem Sk.send {id : Int} {h : Hy} {s : Sq} (k : Sk id h s) (to : Int) (m : Mg) : Sk id h (s.send to m) := ⟨k.bk, k.h⟩
theorem Sk.lay {id : Int} {h : Hy} {s : Sq} (k : Sk id h s) {x : Lr} (hx : 0 <= x.id /\ x.id < 16 /\ ¬ x.id = id) (hm : x.ms.length <= 1000000) : Sk id h (s.lay x) := ⟨k.bk.lay hx hm, k.h⟩
theorem Sk.of {id : Int} {h : Hy} {s : Sq} (k : Sk id h s) {t : Sq} (h1 : t.p.id = s.p.id) (h2 : t.p.mo = s.p.mo) (h3 : t.p.ls = s.p.ls) (h4 : t.p.h = s.p.h) : Sk id h t := ⟨k.bk.same h1 h2 h3, h4.trans k.h⟩
def InB (id : Int) (x : Lr) : Prop := (0 <= x.id /\ x.id < 16 /\ ¬ x.id = id) /\ x.ms.length <= 1000000
theorem Sk.inb {id : Int} {h : Hy} {s : Sq} (k : Sk id h s) : ∀ x ∈ s.p.ls, InB id x := fun x hx => ⟨k.bk.ids x hx, k.bk.ms x hx⟩
theorem Sk.plan {id : Int} {h : Hy} {s : Sq} (k : Sk id h s) {x : Lr} (hx : InB id x) : Sk id h (vB s x) := (k.send _ _).lay hx.1 hx.2
theorem Sk.stay {id : Int} {h : Hy} {s : Sq} (k : Sk id h s) : Sk id h (vD s) := by
 unfold vD
 split
 ·exact k.of rfl rfl rfl rfl
 ·exact k
theorem Sk.plans {id : Int} {h : Hy} {s : Sq} (k : Sk id h s) {l : List Lr} (hl : ∀ x ∈ l, InB id x) : Sk id h (l.foldl xW s) :=
 foldB (R := Sk id h) l s (fun s x hx k => by
  unfold xW
  split
  ·exact k.plan (hl x hx)
  ·exact k) k
theorem Sk.plansV {id : Int} {h : Hy} {s : Sq} (k : Sk id h s) (v : List Int) {l : List Lr} (hl : ∀ x ∈ l, InB id x) : Sk id h (l.foldl (yO v) s) :=
 foldB (R := Sk id h) l s (fun s x hx k => by
  unfold yO
  split
  ·exact k.plan (hl x hx)
  ·exact k) k
theorem Sk.est {id : Int} {h : Hy} {s : Sq} (k : Sk id h s) : Sk id h (estS s) := by
 unfold estS
 split
 ·refine Sk.stay (Sk.plans ?_ k.inb)
  exact k.of (by rw [xS (wM _)]) (by rw [xS (wM _)]) (by rw [xS (wM _)]) (by rw [xS (wM _)])
 ·exact k
theorem Sk.gath {id : Int} {h : Hy} {s : Sq} (k : Sk id h s) : Sk id h (xJ s) := by
 unfold xJ
 split
 ·refine Sk.est (Sk.plansV ?_ _ k.inb)
  exact k.of rfl rfl rfl rfl
 ·exact k
theorem Sk.cho {id : Int} {h : Hy} {s : Sq} (k : Sk id h s) : Sk id h (vQ s) := by
 unfold vQ
 split
 ·split
  ·refine Sk.gath ?_
   exact k.of (by rw [xS vY]) (by rw [xS vY]) (by rw [xS vY]) (by rw [xS vY])
  ·exact k.of rfl rfl rfl rfl
 ·exact k
theorem Sk.com {id : Int} {h : Hy} {s : Sq} (k : Sk id h s) : Sk id h (comS s) := by
 unfold comS
 split
 ·exact k
 ·refine Sk.stay ?_
  exact k.of (by simp only [xS (eachCom_p _ _ _)]) (by simp only [xS (eachCom_p _ _ _)]) (by simp only [xS (eachCom_p _ _ _)]) (by simp only [xS (eachCom_p _ _ _)])
theorem lrn_in {id : Int} {h : Hy} {s : Sq} (k : Sk id h s) {fr ph : Int} {R1 : Lr} (hR : yB s.p.ls fr ph = (R1, true)) : InB id R1 := k.inb _ (lrn_ms hR).1
theorem Sk.doS {id : Int} {h : Hy} {s : Sq} (k : Sk id h s) {m : Mg} (hf : 0 <= m.fr /\ m.fr < 16 /\ ¬ m.fr = id) (hm : m.ms.length <= 1000000) : Sk id h (uN s m) := by
 have key : ∀ {ph : Int},(yB s.p.ls m.fr ph).2 = true -> InB id (yB s.p.ls m.fr ph).1:=fun {ph} hq=>lrn_in k (fr:=m.fr) (ph:=ph) (by rw [<- hq])
 have kD : Sk id h (uA s m) := by
  unfold uA
  split
  ·exact k.of rfl rfl rfl rfl
  ·exact k
 unfold uN
 split
 ·unfold infoS
  have hX : InB id (yG s.p m) := by
   unfold yG
   split
   ·rename_i hq;exact ⟨(key hq).1,(key hq).2⟩
   ·exact ⟨hf,by simp [lrZ]⟩
  split
  ·exact k.of rfl rfl rfl rfl
  ·split
   ·exact (k.lay hX.1 hX.2).send _ _
   ·exact (k.lay hX.1 hX.2).cho
 split
 ·unfold uB
  split
  ·exact k
  ·rename_i hq
   have hq2 : (yB s.p.ls m.fr 1).2 = true := by
    cases hh : (yB s.p.ls m.fr 1).2 with
    | false=>exact absurd (.inl hh) hq
    | true=>rfl
   have hX : InB id (ackX s.p m):=⟨(key hq2).1,hm⟩
   split
   ·split
    ·exact kD.of rfl rfl rfl rfl
    ·exact (kD.lay hX.1 hX.2).gath
   ·split
    ·exact (k.lay hX.1 hX.2).plan hX
    ·exact k.lay hX.1 hX.2
 split
 ·unfold syncS
  split
  ·exact k
  ·rename_i hq
   have hq2 : (yB s.p.ls m.fr 3).2 = true:=by simpa using hq
   have hX : InB id (syncX s.p m):=⟨(key hq2).1,(key hq2).2⟩
   split
   ·exact (k.lay hX.1 hX.2).est
   ·split
    ·exact ((k.lay hX.1 hX.2).send _ _).com
    ·exact k.lay hX.1 hX.2
 split
 ·unfold ackdS
  split
  ·exact k
  ·rename_i hq
   have hq2 : (yB s.p.ls m.fr 4).2 = true := by
    cases hh : (yB s.p.ls m.fr 4).2 with
    | false=>exact absurd (.inl hh) hq
    | true=>rfl
   have hX : InB id (ackdX s.p m):=⟨(key hq2).1,(key hq2).2⟩
   split
   ·exact (k.lay hX.1 hX.2).com
   ·exact k.lay hX.1 hX.2
 split
 ·have hpid : ∀ x : Lr, (if x.id = m.fr then { x with q := 0 } else x : Lr).id = x.id := fun x => by split <;> rfl
  refine ⟨⟨k.bk.eq,k.bk.mo,srt_map hpid k.bk.srt,fun y hy=>?_,fun y hy=>?_⟩,k.h⟩
  ·obtain ⟨x, hx, rfl⟩ := List.mem_map.1 hy
   simp only [hpid];exact k.bk.ids x hx
  ·obtain ⟨x, hx, rfl⟩ := List.mem_map.1 hy
   have:=k.bk.ms x hx
   split <;> exact this
 ·exact k
end Go.Proofs.YtffflakmofbilaaGreat
