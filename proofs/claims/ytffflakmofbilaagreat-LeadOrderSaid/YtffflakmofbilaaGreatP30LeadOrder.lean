/- Texts that the proof needs: LD2 LDM LDM2 LD3 LD4 RAQ RBQ RCQ LD5 KJQ XB IX XC XL XM NG NH. -/
import Derived.Test.YtffflakmofbilaaGreatP29LeadOrder
import Derived.Test.YtffflakmofbilaaGreatP25LeadOrder
import Derived.Test.YtffflakmofbilaaGreatP14LeadOrder
import Derived.Test.YtffflakmofbilaaGreatP27LeadOrder
import Derived.Test.YtffflakmofbilaaGreatP24LeadOrder
import Derived.Test.YtffflakmofbilaaGreatP18LeadOrder
import Derived.Test.YtffflakmofbilaaGreatP28LeadOrder
import Derived.Test.YtffflakmofbilaaGreatP12LeadOrder
import Derived.WalkKit
import Derived.Deep.RegionLaw
import Derived.Test.YtffflakmofbilaaGreatP16LeadOrder
import Derived.Test.YtffflakmofbilaaGreatP22LeadOrder
namespace Go.Proofs.YtffflakmofbilaaGreat
set_option linter.unusedSimpArgs false
set_option linter.unusedVariables false
set_option maxRecDepth 8000
open Go Go.Av
attribute [local irreducible] Go.Av.yA Go.Av.zR Go.Av.xZ Go.Av.zJ Go.Av.xV Go.Av.zG Go.Av.Con
def lqC (p : Lq) (O : List (List PV)) (g : Bool) : List PV := [I p.id, I p.ac, I p.cu, .sl 5 (zns p.h.im.ns), .sl 1 (ints p.h.im.ss), I p.h.im.nx, I p.h.im.c.ep, I p.h.im.c.n, I p.h.im.c.kind, .sl 4 (mbs p.h.im.c.ms), I p.h.im.ae, I p.h.im.an, .sl 8 (yW p.h.lg), I p.d.e, I p.d.n, I p.mo, I 0, I 0, I 0, I 0, I 0, I 0, I 0, I 0, I 0, I 0, I 0, I 0, I 0, I 0, I 0, I 0, .sl 7 [], I p.ld, I p.ph, I p.wt, I p.ep, .sl 8 (lrs p.ls), .sl 46 O, B g]
theorem chosenA_con (p : Lq) (O : List (List PV)) (g : Bool) : zB Tryz.prog 91 [.rptr (lqC p O g) 0] (.p (B (decide (¬ p.ep = 0)))) := by
 unfold lqC
 by_cases h : p.ep = 0
 ·rw [decide_eq_false (not_not_intro h)]
  replace h : (p.ep = 0) = True:=eq_true h
  refine zK Tryz.tab Tryz.mixed Tryz.func91 rfl rfl Tryz.ntmps91 (by simp) (by simp) fun Q hr hn=>?_
  repeat' first|(refine hK _ ?_;clear hK)|(refine zT fun K hK=>?_)|(refine zS ?_;simp only [tZ,tY,strip])|(refine wOs fun K hK=>?_;simp)|(refine zL ?_;try simp)|(refine wOn ?_;try simp only [zZ])
  all_goals apply hr
  all_goals simp [Tryz.f91,h]
 ·rw [decide_eq_true h]
  replace h : (p.ep = 0) = False:=eq_false h
  refine zK Tryz.tab Tryz.mixed Tryz.func91 rfl rfl Tryz.ntmps91 (by simp) (by simp) fun Q hr hn=>?_
  repeat' first|(refine hK _ ?_;clear hK)|(refine zT fun K hK=>?_)|(refine zS ?_;simp only [tZ,tY,strip])|(refine wOs fun K hK=>?_;simp)|(refine zL ?_;try simp)|(refine wOn ?_;try simp only [zZ])
  all_goals apply hr
  all_goals simp [Tryz.f91,h]
def concQ (p : Lq) (m : Mg) : Prop := ¬ m.fr = p.id /\ 0 <= m.fr /\ m.fr < 16 /\ (m.kd = 2 \/ ¬ p.ep = 0 /\ m.ep = p.ep)
instance (p : Lq) (m : Mg) : Decidable (concQ p m) := by unfold concQ; infer_instance
set_option maxHeartbeats 4000000 in
theorem concernsA_con (p : Lq) (O : List (List PV)) (g : Bool) (m : Mg) : zB Tryz.prog 59 [.rptr (lqC p O g) 0, .p (.agg m.cells)] (.p (B (decide (concQ p m)))) := by
 have c1:=chosenA_con p O g
 have hq : concQ p m ↔ ¬ m.fr = p.id /\ 0 <= m.fr /\ m.fr < 16 /\ (m.kd = 2 \/ ¬ p.ep = 0 /\ m.ep = p.ep):=Iff.rfl
 unfold lqC Mg.cells at *
 by_cases h1 : m.fr = p.id
 ·rw [decide_eq_false fun h => (hq.1 h).1 h1]
  replace h1 : (m.fr = p.id) = True:=eq_true h1
  clear hq c1
  refine zK Tryz.tab Tryz.mixed Tryz.func59 rfl rfl Tryz.ntmps59 (by simp) (by simp) fun Q hr hn=>?_
  repeat' first|(refine hK _ ?_;clear hK)|(refine zT fun K hK=>?_)|((first | refine zS ?_ | refine yZ rfl (by kernel_rfl) ?_);simp only [tZ,tY,strip])|((first | refine wOs fun K hK=>?_ | refine wQs fun K hK=>?_ | refine zW ?_);simp [h1])|(refine zL ?_;try simp)|((first | refine wOn ?_ | refine wQn ?_);try simp only [zZ])
  all_goals apply hr
  all_goals simp [Tryz.f59]
 have h1' : (m.fr = p.id) = False:=eq_false h1
 by_cases h2 : m.fr < 0
 ·rw [decide_eq_false fun h => by have := (hq.1 h).2.1; omega]
  clear hq c1
  refine zK Tryz.tab Tryz.mixed Tryz.func59 rfl rfl Tryz.ntmps59 (by simp) (by simp) fun Q hr hn=>?_
  repeat' first|(refine hK _ ?_;clear hK)|(refine zT fun K hK=>?_)|((first | refine zS ?_ | refine yZ rfl (by kernel_rfl) ?_);simp only [tZ,tY,strip])|((first | refine wOs fun K hK=>?_ | refine wQs fun K hK=>?_ | refine zW ?_);simp [h1',h2])|(refine zL ?_;try simp)|((first | refine wOn ?_ | refine wQn ?_);try simp only [zZ])
  all_goals apply hr
  all_goals simp [Tryz.f59]
 by_cases h3 : 16 <= m.fr
 ·rw [decide_eq_false fun h => by have := (hq.1 h).2.2.1; omega]
  clear hq c1
  refine zK Tryz.tab Tryz.mixed Tryz.func59 rfl rfl Tryz.ntmps59 (by simp) (by simp) fun Q hr hn=>?_
  repeat' first|(refine hK _ ?_;clear hK)|(refine zT fun K hK=>?_)|((first | refine zS ?_ | refine yZ rfl (by kernel_rfl) ?_);simp only [tZ,tY,strip])|((first | refine wOs fun K hK=>?_ | refine wQs fun K hK=>?_ | refine zW ?_);simp [h1',h2,h3])|(refine zL ?_;try simp)|((first | refine wOn ?_ | refine wQn ?_);try simp only [zZ])
  all_goals apply hr
  all_goals simp [Tryz.f59]
 by_cases h4 : m.kd = 2
 ·rw [decide_eq_true (hq.2 ⟨h1, by omega, by omega, .inl h4⟩)]
  replace h4 : (m.kd = 2) = True:=eq_true h4
  clear hq c1
  refine zK Tryz.tab Tryz.mixed Tryz.func59 rfl rfl Tryz.ntmps59 (by simp) (by simp) fun Q hr hn=>?_
  repeat' first|(refine hK _ ?_;clear hK)|(refine zT fun K hK=>?_)|((first | refine zS ?_ | refine yZ rfl (by kernel_rfl) ?_);simp only [tZ,tY,strip])|((first | refine wOs fun K hK=>?_ | refine wQs fun K hK=>?_ | refine zW ?_);simp [h1',h2,h3,h4])|((first | refine zL ?_ | refine zP ?_);try simp)|((first | refine wOn ?_ | refine wQn ?_);try simp only [zZ])
  all_goals apply hr
  all_goals simp [Tryz.f59]
 have h4' : (m.kd = 2) = False:=eq_false h4
 by_cases h5 : p.ep = 0
 ·rw [decide_eq_false fun h => (hq.1 h).2.2.2.elim h4 fun h => h.1 h5]
  rw [decide_eq_false (not_not_intro h5)] at c1
  clear hq h5
  refine zK Tryz.tab Tryz.mixed Tryz.func59 rfl rfl Tryz.ntmps59 (by simp) (by simp) fun Q hr hn=>?_
  repeat' first|(refine zJ.pure (c1) rfl ?_)|(refine hK _ ?_;clear hK)|(refine zT fun K hK=>?_)|((first | refine zS ?_ | refine yZ rfl (by kernel_rfl) ?_);simp only [tZ,tY,strip])|((first | refine wOs fun K hK=>?_ | refine wQs fun K hK=>?_ | refine zM ?_ | refine zW ?_);simp [h1',h2,h3,h4'])|((first | refine zL ?_ | refine zP ?_);try simp)|((first | refine wOn ?_ | refine wQn ?_);try simp only [zZ])
  all_goals apply hr
  all_goals simp [Tryz.f59]
 rw [decide_eq_true h5] at c1
 by_cases h6 : m.ep = p.ep
 ·rw [decide_eq_true (hq.2 ⟨h1, by omega, by omega, .inr ⟨h5, h6⟩⟩)]
  replace h6 : (m.ep = p.ep) = True:=eq_true h6
  clear hq h5
  refine zK Tryz.tab Tryz.mixed Tryz.func59 rfl rfl Tryz.ntmps59 (by simp) (by simp) fun Q hr hn=>?_
  repeat' first|(refine zJ.pure (c1) rfl ?_)|(refine hK _ ?_;clear hK)|(refine zT fun K hK=>?_)|((first | refine zS ?_ | refine yZ rfl (by kernel_rfl) ?_);simp only [tZ,tY,strip])|((first | refine wOs fun K hK=>?_ | refine wQs fun K hK=>?_ | refine zM ?_ | refine zW ?_);simp [h1',h2,h3,h4'])|((first | refine zL ?_ | refine zP ?_);try simp)|((first | refine wOn ?_ | refine wQn ?_);try simp only [zZ])
  all_goals apply hr
  all_goals simp [Tryz.f59,h6]
 ·rw [decide_eq_false fun h => (hq.1 h).2.2.2.elim h4 fun h => h6 h.2]
  replace h6 : (m.ep = p.ep) = False:=eq_false h6
  clear hq h5
  refine zK Tryz.tab Tryz.mixed Tryz.func59 rfl rfl Tryz.ntmps59 (by simp) (by simp) fun Q hr hn=>?_
  repeat' first|(refine zJ.pure (c1) rfl ?_)|(refine hK _ ?_;clear hK)|(refine zT fun K hK=>?_)|((first | refine zS ?_ | refine yZ rfl (by kernel_rfl) ?_);simp only [tZ,tY,strip])|((first | refine wOs fun K hK=>?_ | refine wQs fun K hK=>?_ | refine zM ?_ | refine zW ?_);simp [h1',h2,h3,h4'])|((first | refine zL ?_ | refine zP ?_);try simp)|((first | refine wOn ?_ | refine wQn ?_);try simp only [zZ])
  all_goals apply hr
  all_goals simp [Tryz.f59,h6]
theorem cloneV_con (l : List (List PV)) (hl : l.length <= 1000000) : RCon 124 [.p (.sl 7 l)] 41 7 l := by
 refine wBodyR Tryz.tab Tryz.mixed Tryz.func124 rfl rfl Tryz.ntmps124 rfl (by simp) (by simp) fun Q hr hn=>?_
 repeat' first|(refine wRetG [.row 2 41 7] ?_)|(refine And.intro (by omega) (Or.inl ?_))|(refine And.intro ?_ (fun hnil=>?_))|(refine hK _ ?_;clear hK)|(refine zT fun K hK=>?_)|(refine zS ?_;simp only [tZ,tY,strip])|((first | refine wOs fun K hK=>?_ | refine zW ?_);simp)|(refine zP ?_;try simp)|(refine wOn ?_;try simp only [zZ])
 ·refine hr _ 7 (by simp) (by simp) (by omega)
 ·subst hnil
  simp only [thenA_r]
  refine hr _ 2 (by simp) (by simp) (by omega)
theorem listL_con : zB Tryz.prog 125 [.p (.sl 8 []), .p (.v (.func (.func 126) #[] #[]))] (.p (.sl 8 [])) := by
 refine zK Tryz.tab Tryz.mixed Tryz.func125 rfl rfl Tryz.ntmps125 (by simp) (by simp) fun Q hr hn=>?_
 repeat' first|(refine hK _ ?_;clear hK)|(refine zT fun K hK=>?_)|(refine zS ?_;simp only [tZ,tY,strip])|((first | refine wOs fun K hK=>?_ | refine zW ?_);simp)|(refine zL ?_;try simp)|(refine wOn ?_;try simp only [zZ])
 all_goals apply hr
 all_goals simp [Tryz.f125]
def lqFc (p : Lq) (l : List Lr) (X : Fc) : List Fc := [.p (I p.id), .p (I p.ac), .p (I p.cu), .p (.sl 5 (zns p.h.im.ns)), .p (.sl 1 (ints p.h.im.ss)), .p (I p.h.im.nx), .p (I p.h.im.c.ep), .p (I p.h.im.c.n), .p (I p.h.im.c.kind), .p (.sl 4 (mbs p.h.im.c.ms)), .p (I p.h.im.ae), .p (I p.h.im.an), X, .p (I p.d.e), .p (I p.d.n), .p (I p.mo), .p (I 0), .p (I 0), .p (I 0), .p (I 0), .p (I 0), .p (I 0), .p (I 0), .p (I 0), .p (I 0), .p (I 0), .p (I 0), .p (I 0), .p (I 0), .p (I 0), .p (I 0), .p (I 0), .p (.sl 7 []), .p (I p.ld), .p (I p.ph), .p (I p.wt), .p (I p.ep), .p (.sl 8 (lrs l))]
set_option maxHeartbeats 1000000 in
theorem ownPeer_con (p : Lq) (hk : OkH p.h) (h0 : p.ls = []) : Con Tryz.prog 98 [.p (.agg p.cells)] [] (.ret (.ag (lqFc p [] (.row 2048))) [.row 58 8 (yW p.h.lg)] []) := by
 have c1:=ownHistR_con p.h hk
 have c2:=(cloneV_con [] (by simp)).toPure
 have c3:=listL_con
 unfold Hy.cells hyCells at c1
 unfold Lq.cells lqFc
 rw [h0,show lrs [] = [] from rfl]
 refine zE Tryz.tab Tryz.mixed Tryz.func98 rfl rfl Tryz.ntmps98 (by simp) (by simp) fun Q hr hn hp=>?_
 repeat' first|(refine zV [] (c1) (by decide) (by decide) (by simp [zQ]) (by simp [zN,zH,toP]) ⟨[500],by simp,by simp,?_⟩;simp [lv,ouN,kpI,kpR,pos,ren,zX,uJ,xA])|(refine zR.pure (c2) rfl ?_)|(refine zR.pure (c3) rfl ?_)|(refine hK _ ?_;clear hK)|(refine zT fun K hK=>?_)|(refine zS ?_;simp only [tZ,tY,strip])|((first | refine wOs fun K hK=>?_ | refine zY ?_);simp [zX,zO])|(refine zL ?_;try simp)|(refine wOn ?_;try simp only [zZ])
 all_goals first | apply hr
 all_goals refine ⟨[500],by simp,by simp,?_⟩
 all_goals simp [Tryz.f98,yL,yM,zO]
def yU (l : List Lr) : List Lr := l.foldl xK []
theorem relay_snoc {l : List Lr} {k : Nat} (h : k < l.length) : yU (l.take (k + 1)) = xK (yU (l.take k)) l[k] := by
 rw [List.take_succ_eq_append_getElem h,yU,List.foldl_append];rfl
theorem layL_mem {l : List Lr} {x y : Lr} (h : y ∈ xK l x) : y = x \/ y ∈ l := by
 unfold xK at h
 rcases List.mem_append.1 h with h | h
 ·exact .inr (List.mem_filter.1 (List.mem_of_mem_take h)).1
 ·rcases List.mem_cons.1 h with h | h
  ·exact .inl h
  ·exact .inr (List.mem_filter.1 (List.mem_of_mem_drop h)).1
theorem layL_len (l : List Lr) (x : Lr) : (xK l x).length <= l.length + 1 := by
 have h1:=butL_len l x.id
 unfold xK
 rw [List.length_append,List.length_cons,List.length_take,List.length_drop]
 omega
theorem relay_mem : ∀ (l : List Lr) (a : List Lr) (y : Lr), y ∈ l.foldl xK a -> y ∈ l \/ y ∈ a
 | [],a,y,h=>.inr h
 | x :: l, a, y, h => by
  rcases relay_mem l _ y h with h | h
  ·exact .inl (List.mem_cons_of_mem _ h)
  ·rcases layL_mem h with rfl | h
   ·exact .inl (List.mem_cons_self ..)
   ·exact .inr h
theorem relay_len : ∀ (l : List Lr) (a : List Lr), (l.foldl xK a).length <= a.length + l.length
 | [],a=>by simp
 | x :: l, a => by
  have h1:=relay_len l (xK a x)
  have h2:=layL_len a x
  simp only [List.foldl_cons,List.length_cons];omega
set_option maxHeartbeats 2000000 in
theorem leadOwn_con (p : Lq) (hk : OkH p.h) (hl : p.ls.length <= 10000) (hm : ∀ y ∈ p.ls, y.ms.length <= 1000000) : Con Tryz.prog 64 [.p (.agg p.cells)] [] (.ret (.ag (lqFc p (yU p.ls) (.row 2048))) [.row 58 8 (yW p.h.lg)] []) := by
 have c1:=ownPeer_con { p with ls:=[] } hk rfl
 unfold Lq.cells lqFc at *
 dsimp only at c1
 rw [show lrs [] = [] from rfl] at c1
 refine zE Tryz.tab Tryz.mixed Tryz.func64 rfl rfl Tryz.ntmps64 (by simp) (by simp) fun Q hr hn hp=>?_
 repeat' first|(refine zV [] (c1) (by decide) (by decide) (by simp [zQ]) (by simp [zN,zH,toP]) ⟨[500],by simp,by simp,?_⟩;simp [lv,ouN,kpI,kpR,pos,ren,zX,uJ,xA])|(refine hK _ ?_;clear hK)|(refine zT fun K hK=>?_)|(refine zS ?_;simp only [tZ,tY,strip])|(refine wOs fun K hK=>?_;simp [zX,zO])|(first | refine zU ?_)|(refine wOn ?_;try simp only [zZ])
 refine yJ (fun N st=>∃ k,k + N = p.ls.length /\ st.s 1 = .ptr 1 0 /\ st.b 1 = some (.box 47 [.p (I p.id),.p (I p.ac),.p (I p.cu),.p (.sl 5 (zns p.h.im.ns)),.p (.sl 1 (ints p.h.im.ss)),.p (I p.h.im.nx),.p (I p.h.im.c.ep),.p (I p.h.im.c.n),.p (I p.h.im.c.kind),.p (.sl 4 (mbs p.h.im.c.ms)),.p (I p.h.im.ae),.p (I p.h.im.an),.row 500,.p (I p.d.e),.p (I p.d.n),.p (I p.mo),.p (I 0),.p (I 0),.p (I 0),.p (I 0),.p (I 0),.p (I 0),.p (I 0),.p (I 0),.p (I 0),.p (I 0),.p (I 0),.p (I 0),.p (I 0),.p (I 0),.p (I 0),.p (I 0),.p (.sl 7 []),.p (I p.ld),.p (I p.ph),.p (I p.wt),.p (I p.ep),.p (.sl 8 (lrs (yU (p.ls.take k))))]) /\ st.b 500 = some (.row 58 8 (yW p.h.lg)) /\ st.s 2 = .ptr 2 0 /\ st.b 2 = some (.box 47 [.p (I 0),.p (I 0),.p (I 0),.nil 5,.nil 1,.p (I 0),.p (I 0),.p (I 0),.p (I 0),.nil 4,.p (I 0),.p (I 0),.nil 8,.p (I 0),.p (I 0),.p (I 0),.p (I 0),.p (I 0),.p (I 0),.p (I 0),.p (I 0),.p (I 0),.p (I 0),.p (I 0),.p (I 0),.p (I 0),.p (I 0),.p (I 0),.p (I 0),.p (I 0),.p (I 0),.p (I 0),.nil 7,.p (I 0),.p (I 0),.p (I 0),.p (I 0),.nil 8]) /\ st.s 11 = .p (.sl 8 (lrs p.ls)) /\ st.s 12 = .p (I p.ls.length) /\ st.s 13 = .p (I k)) p.ls.length ⟨0,by simp [yU,lrs,zX,zO]⟩ fun K N st hL ⟨k,hkN,g1,b1,b500,g2,b2,g11,g12,g13⟩=>?_
 by_cases hlt : k < p.ls.length
 ·have hw := yF k _ hlt (by omega)
  have he:=xQ hlt
  have hsn:=relay_snoc hlt
  have hrl:=relay_len (p.ls.take k) []
  rw [List.length_take] at hrl
  simp only [List.length_nil] at hrl
  have c2 := learners_con (yU (p.ls.take k)) p.ls[k] (by unfold yU; omega) (fun y hy => by
   rcases relay_mem _ _ _ hy with h | h
   ·exact hm y (List.mem_of_mem_take h)
   ·simp at h) (hm _ (List.getElem_mem hlt))
  rw [<- hsn] at c2
  unfold Lr.cells at c2
  generalize yU (p.ls.take k) = L1 at *
  generalize hL2 : yU (p.ls.take (k + 1)) = L2 at *
  repeat' first|(refine zR.pure (c2) rfl ?_)|(refine hK _ ?_;clear hK)|(refine zT fun K hK=>?_)|(refine zS ?_;simp only [tZ,tY,strip])|((first | refine wOs fun K hK=>?_ | refine zY ?_ | refine zW ?_);simp [g1,b1,g11,g12,g13,hlt,hw])|(first | refine zU ?_)|(refine zP ?_;try simp)|(refine wOn ?_;try simp only [zZ])
  refine hL _ (N - 1) (by omega) ⟨k + 1,by omega,?_⟩
  simp [g1,b500,g2,b2,g11,g12,hL2]
 ·rw [List.take_of_length_le (by omega)] at b1
  repeat' first|(refine hK _ ?_;clear hK)|(clear hK;refine hK _ ?_;clear hK)|(refine zT fun K hK=>?_)|(refine zS ?_;simp only [tZ,tY,strip])|((first | refine wOs fun K hK=>?_ | refine zW ?_);simp [g1,b1,g2,b2,g12,g13,hlt])|((first | refine zL ?_ | refine zC ?_);try simp)|(refine wOn ?_;try simp only [zZ])
  all_goals first | apply hr
  all_goals refine ⟨[500],by simp,by simp,?_⟩
  all_goals simp [Tryz.f64,yL,yM,zO,b500,g2]
@[simp high] theorem mgc_fr (m : Mg) : m.cells[0]? = some (I m.fr) := rfl
@[simp high] theorem mgc_to (m : Mg) : m.cells[1]? = some (I m.to) := rfl
@[simp high] theorem mgc_kd (m : Mg) : m.cells[2]? = some (I m.kd) := rfl
@[simp high] theorem mgc_ep (m : Mg) : m.cells[10]? = some (I m.ep) := rfl
@[simp high] theorem mgc_cu (m : Mg) : m.cells[11]? = some (I m.cu) := rfl
@[simp high] theorem mgg_fr (m : Mg) (h : 0 < m.cells.length) : m.cells[0]'h = I m.fr := rfl
@[simp high] theorem mgg_to (m : Mg) (h : 1 < m.cells.length) : m.cells[1]'h = I m.to := rfl
@[simp high] theorem mgg_kd (m : Mg) (h : 2 < m.cells.length) : m.cells[2]'h = I m.kd := rfl
@[simp high] theorem mgg_ep (m : Mg) (h : 10 < m.cells.length) : m.cells[10]'h = I m.ep := rfl
@[simp high] theorem mgg_cu (m : Mg) (h : 11 < m.cells.length) : m.cells[11]'h = I m.cu := rfl
@[simp high] theorem mgg_ms (m : Mg) (h : 14 < m.cells.length) : m.cells[14]'h = .sl 2 (zxs m.ms) := rfl
@[simp high] theorem mgc_ms (m : Mg) : m.cells[14]? = some (.sl 2 (zxs m.ms)) := rfl
@[simp] theorem mgc_len (m : Mg) : m.cells.length = 46 := rfl
@[simp high] theorem mgc_z (m : Mg) : uL (((m.cells.map V.p).drop 12).take 2) = some [I m.z.e, I m.z.n] := rfl
@[simp high] theorem mgc_z' (m : Mg) : uL (((m.cells.map V.p).take 14).drop 12) = some [I m.z.e, I m.z.n] := rfl
@[simp high] theorem mgc_z2 (m : Mg) : uL (List.map V.p ((m.cells.drop 12).take 2)) = some [I m.z.e, I m.z.n] := rfl
@[simp high] theorem mgc_z3 (m : Mg) : uL (List.map V.p ((m.cells.take 14).drop 12)) = some [I m.z.e, I m.z.n] := rfl
@[simp high] theorem toPs_p : ∀ (l : List PV), uL (l.map V.p) = some l
 | []=>rfl
 | x :: l=>by simp only [tZ,uL,toP,toPs_p l]
@[simp high] theorem map_ren (l : List PV) (r s : Nat -> Option Nat) : (l.map V.p).map (zX r s) = l.map V.p := by simp [zX]
@[simp high] theorem map_scr (l : List PV) (b : Nat) : (l.map V.p).map (yR b) = l.map V.p := by simp [yR]
@[simp high] theorem map_renC (l : List PV) (r s : Nat -> Option Nat) : l.map (zX r s ∘ V.p) = l.map V.p := rfl
@[simp high] theorem map_scrC (l : List PV) (b : Nat) : l.map (yR b ∘ V.p) = l.map V.p := rfl
@[simp high] theorem map_subC (l : List PV) (b : Nat) (q : PV) : l.map (xM b q ∘ V.p) = l.map V.p := rfl
@[simp high] theorem mgc_take (m : Mg) : List.take 46 m.cells = m.cells := rfl
@[simp high] theorem mgc_takeV (m : Mg) : uL (List.take 46 (List.map V.p m.cells)) = some m.cells := rfl
theorem wFrzA [Glob] {P : Program} {T : TypeId -> Option Ty} {N : Nat} {ops : Array Oper} {o : Oper} {rest : List Oper} {st : St} {K : St -> Prop} {Z : Value -> St -> Prop} (b a : Nat) {e c : Nat} {X : List (List PV)} (ha : (st.b a).isSome = true) (hb : st.b b = some (.row e c X)) (h : WO P T N ops (o :: rest) (Av.frz st b c X) K Z) : WO P T N ops (o :: rest) st K Z := by
 refine wFrz [.frz b] ?_
 have e0 : uY st [.frz b] = Av.frz st b c X:=by simp only [uY,gh1,hb]
 rw [e0]
 exact h
theorem wCelA [Glob] {P : Program} {T : TypeId -> Option Ty} {N : Nat} {ops : Array Oper} {o : Oper} {rest : List Oper} {st : St} {K : St -> Prop} {Z : Value -> St -> Prop} (b j n e : Nat) {c : Nat} {e0 : TypeId} {cells : List V} (hnb : ¬ n = b) (hb : st.b b = some (.box e0 cells)) (hj : cells[j]? = some (.nil c)) (h : WO P T N ops (o :: rest) ⟨fun t => scr n (st.s t), fun b' => if b' = b then some (.box e0 ((cells.map (yR n)).set j (.row n))) else if b' = n then some (.row e c []) else (st.b b').map (wU n)⟩ K Z) : WO P T N ops (o :: rest) st K Z := by
 refine wFrz [.cel b j n e c] ?_
 have e0 : uY st [.cel b j n e c] = ⟨fun t=>scr n (st.s t),fun b'=>if b' = b then some (.box e0 ((cells.map (yR n)).set j (.row n))) else if b' = n then some (.row e c []) else (st.b b').map (wU n)⟩:=by simp only [uY,gh1,if_neg hnb,hb,hj]
 rw [e0]
 exact h
set_option maxHeartbeats 2000000 in
theorem uS (p : Lq) (hk : OkH p.h) (hl : p.ls.length <= 10000) (hm : ∀ y ∈ p.ls, y.ms.length <= 1000000) : Con Tryz.prog 34 [.p (.agg p.cells)] [] (.ret (.ptr 2048 0) [.box 101 (lBx { p with ls := yU p.ls } (.row 2049) false), .row 65 46 []] []) := by
 have c1:=leadOwn_con p hk hl hm
 generalize yU p.ls = L at *
 unfold lBx Lq.cells lqFc at *
 dsimp only
 refine zE Tryz.tab Tryz.mixed Tryz.func34 rfl rfl Tryz.ntmps34 (by simp) (by simp) fun Q hr hn hp=>?_
 repeat' first|(refine zV [] (c1) (by decide) (by decide) (by simp [zQ]) (by simp [zN,zH,toP]) ⟨[500],by simp,by simp,?_⟩;simp [lv,ouN,kpI,kpR,pos,ren,zX,zO,uJ,xA])|(refine wFrzA 500 6 rfl rfl ?_;simp [frz,sub,xM])|(refine wCelA 6 38 501 65 (by decide) rfl rfl ?_;simp [scr,yR])|(refine hK _ ?_;clear hK)|(refine zT fun K hK=>?_)|(refine zS ?_;simp only [tZ,tY,strip])|(refine wOs fun K hK=>?_;simp)|(refine zL ?_;try simp)|(refine wOn ?_;try simp only [zZ])
 all_goals first | apply hr
 all_goals refine ⟨[6,501],by simp,by simp,?_⟩
 all_goals simp [Tryz.f34,yL,yM,zO,gaN]
def vZ (p : Lq) (to kd : Int) (l : List Tx) : List Mg := l.map fun t => yH p to { mgZ 0 0 kd 0 0 ⟨0, 0⟩ [] with tx := t }
set_option maxHeartbeats 4000000 in
theorem sendEach_con (p : Lq) (g : Bool) (o : List Mg) (to kd : Int) (l : List Tx) (hl : l.length <= 1000) (ho : o.length <= 50000) (hps : ∀ t ∈ l, t.ps.length <= 1000 /\ ∀ x ∈ t.ps, x.c.ms.length <= 1000) : Con Tryz.prog 54 [.ptr 1024 0, .p (I to), .p (I kd), .p (.sl 8 (yW l))] (lW p g o) (.ret (.tup []) [] (lW p g (o ++ vZ p to kd l))) := by
 unfold lW
 unfold lBx
 refine zE Tryz.tab Tryz.mixed Tryz.func54 rfl rfl Tryz.ntmps54 (by simp) (by simp) fun Q hr hn hp=>?_
 repeat' first|(refine hK _ ?_;clear hK)|(refine zT fun K hK=>?_)|(refine zS ?_;simp only [tZ,tY,strip])|(refine wOs fun K hK=>?_;simp)|(first | refine zU ?_)|(refine wOn ?_;try simp only [zZ])
 refine yJ (fun N st=>∃ k,k + N = l.length /\ st.s 0 = .ptr 1024 0 /\ st.s 1 = .p (I to) /\ st.s 2 = .p (I kd) /\ st.s 10 = .p (.sl 8 (yW l)) /\ st.s 11 = .p (I l.length) /\ st.s 12 = .p (I k) /\ st.b 1024 = some (.box 101 (lBx p (.row 1025) g)) /\ st.b 1025 = some (.row 65 46 (zD (o ++ vZ p to kd (l.take k))))) l.length ⟨0,by simp [vZ,lBx]⟩ fun K N st hL ⟨k,hkN,g0,g1,g2,g10,g11,g12,b0,b1⟩=>?_
 by_cases hlt : k < l.length
 ·have hw := yF k _ hlt (by omega)
  have he:=wC hlt
  obtain ⟨hp1,hp2⟩:=hps _ (List.getElem_mem hlt)
  have c1:=ownTxn_con l[k] hp1 hp2
  have c2:=send_con p g (o ++ vZ p to kd (l.take k)) to { mgZ 0 0 kd 0 0 ⟨0,0⟩ [] with tx:=l[k] } (by simp [vZ];omega)
  have hs : o ++ vZ p to kd (l.take k) ++ [yH p to { mgZ 0 0 kd 0 0 ⟨0, 0⟩ [] with tx := l[k] }] = o ++ vZ p to kd (l.take (k + 1)) := by
   rw [List.take_succ_eq_append_getElem hlt,List.append_assoc]
   unfold vZ
   rw [List.map_append]
   rfl
  rw [hs] at c2
  clear hs
  unfold lW at c2
  generalize hO2 : zD (o ++ vZ p to kd (l.take (k + 1))) = O2 at *
  generalize zD (o ++ vZ p to kd (l.take k)) = O1 at *
  unfold lBx mgZ Mg.cells at c2
  unfold lBx at b0
  unfold Tx.cells at c1
  dsimp only at c2
  simp only [show zns [] = [] from rfl,show ints [] = [] from rfl,show mbs [] = [] from rfl,show yW [] = [] from rfl,show zxs [] = [] from rfl] at c2
  repeat' first|(refine zR.pure (c1) rfl ?_)|(refine zV [1024,1025] (c2) (by decide) (by decide) (by simp [zQ,inN,pos,zO,zX,b0,b1]) (by simp [zN,zH,zX,inN,pos]) ⟨[],by simp,by simp,?_⟩;simp [lv,kpI,kpR,pos,ren,zX])|(refine hK _ ?_;clear hK)|(refine zT fun K hK=>?_)|(refine zS ?_;simp only [tZ,tY,strip])|((first | refine wOs fun K hK=>?_ | refine zY ?_ | refine zW ?_);simp [g0,g1,g2,g10,g11,g12,hlt,hw])|(first | refine zU ?_)|(refine zP ?_;try simp)|(refine wOn ?_;try simp only [zZ])
  refine hL _ (N - 1) (by omega) ⟨k + 1,by omega,?_⟩
  simp [g0,g1,g2,g10,g11,hO2,lBx,ouN,zX,zO]
 ·rw [List.take_of_length_le (by omega)] at b1
  unfold lBx at b0
  repeat' first|(refine hK _ ?_;clear hK)|(refine zT fun K hK=>?_)|(refine zS ?_;simp only [tZ,tY,strip])|((first | refine wOs fun K hK=>?_ | refine zW ?_);simp [g11,g12,hlt])|(refine zC ?_;try simp)|(refine wOn ?_;try simp only [zZ])
  all_goals first | apply hn
  all_goals refine ⟨[],by simp,by simp,?_⟩
  all_goals simp [Tryz.f54,yL,yM,zO,gaN,b0,b1]
def lrZ : Lr := ⟨0, 0, 0, 0, [], 0, 0, 0⟩
def isLr (id ph : Int) (x : Lr) : Bool := decide (x.id = id /\ x.ph = ph)
def yB (l : List Lr) (id ph : Int) : Lr × Bool := match l.find? (isLr id ph) with
 | some x=>(x,true)
 | none=>(lrZ,false)
set_option maxHeartbeats 4000000 in
theorem xL (p : Lq) (g : Bool) (o : List Mg) (id ph : Int) (hl : p.ls.length <= 100000) : Con Tryz.prog 119 [.ptr 1024 0, .p (I id), .p (I ph)] (lW p g o) (.ret (.tup [.p (.agg (yB p.ls id ph).1.cells), .p (B (yB p.ls id ph).2)]) [] (lW p g o)) := by
 unfold lW yB
 generalize zD o = O at *
 unfold lBx
 generalize hls : p.ls = l at *
 refine zE Tryz.tab Tryz.mixed Tryz.func119 rfl rfl Tryz.ntmps119 (by simp) (by simp) fun Q hr hn hp=>?_
 repeat' first|(refine hK _ ?_;clear hK)|(refine zT fun K hK=>?_)|(refine zS ?_;simp only [tZ,tY,strip])|(refine wOs fun K hK=>?_;simp)|(first | refine zU ?_)|(refine wOn ?_;try simp only [zZ])
 refine yJ (fun N st=>∃ k,k + N = l.length /\ (l.drop k).find? (isLr id ph) = l.find? (isLr id ph) /\ st.s 1 = .p (I id) /\ st.s 2 = .p (I ph) /\ st.s 6 = .ptr 6 0 /\ st.b 6 = some (.box 70 [.p (I 0),.p (I 0),.p (I 0),.p (I 0),.nil 2,.p (I 0),.p (I 0),.p (I 0)]) /\ st.s 14 = .p (.sl 8 (lrs l)) /\ st.s 15 = .p (I l.length) /\ st.s 16 = .p (I k) /\ st.b 1024 = some (.box 101 [.p (I p.id),.p (I p.ac),.p (I p.cu),.p (.sl 5 (zns p.h.im.ns)),.p (.sl 1 (ints p.h.im.ss)),.p (I p.h.im.nx),.p (I p.h.im.c.ep),.p (I p.h.im.c.n),.p (I p.h.im.c.kind),.p (.sl 4 (mbs p.h.im.c.ms)),.p (I p.h.im.ae),.p (I p.h.im.an),.p (.sl 8 (yW p.h.lg)),.p (I p.d.e),.p (I p.d.n),.p (I p.mo),.p (I 0),.p (I 0),.p (I 0),.p (I 0),.p (I 0),.p (I 0),.p (I 0),.p (I 0),.p (I 0),.p (I 0),.p (I 0),.p (I 0),.p (I 0),.p (I 0),.p (I 0),.p (I 0),.p (.sl 7 []),.p (I p.ld),.p (I p.ph),.p (I p.wt),.p (I p.ep),.p (.sl 8 (lrs l)),.row 1025,.p (B g)]) /\ st.b 1025 = some (.row 65 46 O)) l.length ⟨0,by simp⟩ fun K N st hL ⟨k,hkN,hi,g1,g2,g6,b6,g14,g15,g16,b0,b1⟩=>?_
 by_cases hlt : k < l.length
 ·have hw := yF k _ hlt (by omega)
  have he:=xQ hlt
  rw [List.drop_eq_getElem_cons hlt,List.find?_cons] at hi
  have hx : isLr id ph l[k] = decide (l[k].id = id /\ l[k].ph = ph):=rfl
  by_cases o1 : l[k].id = id
  ·by_cases o2 : l[k].ph = ph
   ·rw [hx, decide_eq_true ⟨o1, o2⟩] at hi
    rw [<- hi] at hr hn hp
    simp only at hr hn hp
    replace o1 : (l[k].id = id) = True:=eq_true o1
    replace o2 : (l[k].ph = ph) = True:=eq_true o2
    unfold Lr.cells at hr hn hp
    repeat' first|(refine hK _ ?_;clear hK)|(refine zT fun K hK=>?_)|(refine zS ?_;simp only [tZ,tY,strip])|((first | refine wOs fun K hK=>?_ | refine zW ?_);simp [g1,g2,g6,b6,g14,g15,g16,hlt,o1,o2])|(first | refine zU ?_)|((first | refine zL ?_ | refine zP ?_);try simp)|(refine wOn ?_;try simp only [zZ])
    all_goals first | apply hr
    all_goals refine ⟨[],by simp,by simp,?_⟩
    all_goals simp [Tryz.f119,yL,yM,zO,gaN,g6,b0,b1]
   ·rw [hx, decide_eq_false fun h => o2 h.2] at hi
    replace o1 : (l[k].id = id) = True:=eq_true o1
    replace o2 : (l[k].ph = ph) = False:=eq_false o2
    repeat' first|(refine hK _ ?_;clear hK)|(refine zT fun K hK=>?_)|(refine zS ?_;simp only [tZ,tY,strip])|((first | refine wOs fun K hK=>?_ | refine zW ?_);simp [g1,g2,g14,g15,g16,hlt,hw,o1,o2])|(first | refine zU ?_)|(refine zP ?_;try simp)|(refine wOn ?_;try simp only [zZ])
    refine hL _ (N - 1) (by omega) ⟨k + 1,by omega,hi,?_⟩
    simp [g1,g2,g6,b6,g14,g15,b0,b1]
  ·rw [hx, decide_eq_false fun h => o1 h.1] at hi
   replace o1 : (l[k].id = id) = False:=eq_false o1
   repeat' first|(refine hK _ ?_;clear hK)|(refine zT fun K hK=>?_)|(refine zS ?_;simp only [tZ,tY,strip])|((first | refine wOs fun K hK=>?_ | refine zW ?_);simp [g1,g2,g14,g15,g16,hlt,hw,o1])|(first | refine zU ?_)|(refine zP ?_;try simp)|(refine wOn ?_;try simp only [zZ])
   refine hL _ (N - 1) (by omega) ⟨k + 1,by omega,hi,?_⟩
   simp [g1,g2,g6,b6,g14,g15,b0,b1]
 ·rw [List.drop_of_length_le (by omega), List.find?_nil] at hi
  rw [<- hi] at hr hn hp
  unfold Lr.cells lrZ at hr hn hp
  repeat' first|(refine hK _ ?_;clear hK)|(clear hK;refine hK _ ?_;clear hK)|(refine zT fun K hK=>?_)|(refine zS ?_;simp only [tZ,tY,strip])|((first | refine wOs fun K hK=>?_ | refine zW ?_);simp [g6,b6,g15,g16,hlt])|((first | refine zL ?_ | refine zC ?_);try simp)|(refine wOn ?_;try simp only [zZ])
  all_goals first | apply hr
  all_goals refine ⟨[],by simp,by simp,?_⟩
  all_goals simp [Tryz.f119,yL,yM,zO,gaN,g6,b0,b1,zxs]
end Go.Proofs.YtffflakmofbilaaGreat
namespace Go.Proofs.YtffflakmofbilaaGreat
set_option linter.unusedSimpArgs false
set_option linter.unusedVariables false
open Go Go.Av
attribute [local irreducible] Go.Av.yA Go.Av.zR Go.Av.xZ Go.Av.zJ Go.Av.xV Go.Av.zG Go.Av.Con
def fm (id : Int) : List Mb -> Mb × Bool
 | []=>(⟨0,0,0,0⟩,false)
 | m :: l=>if m.i = id then (m,true) else fm id l
theorem find_con (c : Cf) (id : Int) (hl : c.ms.length <= 1000000) : zB Tryz.prog 138 [.p (.agg c.cells), .p (I id)] (.tup [.p (.agg (fm id c.ms).1.cells), .p (B (fm id c.ms).2)]) := by
 obtain ⟨ep,n,kind,l⟩:=c
 simp only [Cf.cells] at hl ⊢
 refine zK Tryz.tab Tryz.mixed Tryz.func138 rfl rfl Tryz.ntmps138 (by simp) (by simp) fun Q hr hn=>?_
 repeat' first|(refine hK _ ?_;clear hK)|(refine zT fun K hK=>?_)|(refine zS ?_;simp only [tZ,tY,strip])|(refine wOs fun K hK=>?_;simp)|(first | refine zU ?_)|(refine wOn ?_;try simp only [zZ])
 refine yJ (fun N st=>∃ (k : Nat),k + N = l.length /\ st.s 1 = .p (I id) /\ st.s 4 = .ptr 4 0 /\ st.b 4 = some (.box 133 [.p (I 0),.p (I 0),.p (I 0),.p (I 0)]) /\ st.s 9 = .p (.sl 4 (mbs l)) /\ st.s 10 = .p (I l.length) /\ st.s 11 = .p (I k) /\ fm id (l.drop k) = fm id l) l.length ⟨0,by simp⟩ fun K N st hL ⟨k,hk,h1,h4,b4,h9,h10,h11,hi⟩=>?_
 by_cases hlt : k < l.length
 ·have hw := yF k _ hlt (by omega)
  rw [List.drop_eq_getElem_cons hlt,fm] at hi
  by_cases o : l[k].i = id
  ·rw [if_pos o] at hi
   repeat' first|(refine hK _ ?_;clear hK)|(refine zT fun K hK=>?_)|(refine zS ?_;simp only [tZ,tY,strip])|((first | refine wOs fun K hK=>?_ | refine zW ?_);simp [h1,h4,b4,h9,h10,h11,hlt,o])|(first | refine zU ?_)|((first | refine zL ?_ | refine zP ?_);try simp)|(refine wOn ?_;try simp only [zZ])
   all_goals apply hr
   all_goals rw [<- hi]
   all_goals simp [Tryz.f138,Mb.cells,o,h4]
  ·rw [if_neg o] at hi
   repeat' first|(refine hK _ ?_;clear hK)|(refine zT fun K hK=>?_)|(refine zS ?_;simp only [tZ,tY,strip])|((first | refine wOs fun K hK=>?_ | refine zW ?_);simp [h1,h9,h10,h11,hlt,hw,o])|(first | refine zU ?_)|(refine zP ?_;try simp)|(refine wOn ?_;try simp only [zZ])
   refine hL _ (N - 1) (by omega) ⟨k + 1,by omega,?_⟩
   simp [h1,h4,b4,h9,h10,hi]
 ·rw [List.drop_of_length_le (by omega), fm] at hi
  repeat' first|(refine hK _ ?_;clear hK)|(clear hK;refine hK _ ?_;clear hK)|(refine zT fun K hK=>?_)|(refine zS ?_;simp only [tZ,tY,strip])|((first | refine wOs fun K hK=>?_ | refine zW ?_);simp [h4,b4,h10,h11,hlt])|((first | refine zL ?_ | refine zC ?_);try simp)|(refine wOn ?_;try simp only [zZ])
  apply hr
  rw [<- hi]
  simp [Tryz.f138,Mb.cells,h4]
theorem cfs_get {l : List Cf} {k : Nat} (h : k < l.length) : (cfs l)[k]? = some [I l[k].ep, I l[k].n, I l[k].kind, .sl 4 (mbs l[k].ms)] := by simp [cfs, h, Cf.cells]
def rstep (id : Int) (out : Int) (c : Cf) : Int := if (fm id c.ms).2 = true /\ (out = 0 \/ (fm id c.ms).1.r = 1) then (fm id c.ms).1.r else out
def wV (l : List Cf) (id : Int) : Int := l.foldl (rstep id) 0
theorem roleR_snoc {l : List Cf} {k : Nat} (h : k < l.length) (id : Int) : wV (l.take (k + 1)) id = rstep id (wV (l.take k) id) l[k] := by
 rw [List.take_succ_eq_append_getElem h,wV,List.foldl_append];rfl
theorem rstep_one (id : Int) : ∀ (l : List Cf), l.foldl (rstep id) 1 = 1
 | []=>rfl
 | c :: l => by
  rw [List.foldl_cons]
  have : rstep id 1 c = 1 := by
   unfold rstep
   split
   ·rename_i h; rcases h.2 with h | h
    ·omega
    ·exact h
   ·rfl
  rw [this,rstep_one id l]
theorem roleR_one {l : List Cf} {k : Nat} {id : Int} (h : wV (l.take k) id = 1) : wV l id = 1 := by
 conv=>lhs;rw [<- List.take_append_drop k l]
 rw [wV,List.foldl_append]
 show (l.drop k).foldl (rstep id) (wV (l.take k) id) = 1
 rw [h,rstep_one]
theorem fm_none {id : Int} : ∀ {l : List Mb}, (fm id l).2 = false -> (fm id l).1.r = 0
 | [],_=>rfl
 | m :: l, h => by
  rw [fm] at h ⊢
  split at h
  ·simp at h
  ·rename_i hm;rw [if_neg hm];exact fm_none h
abbrev nbox (l : List Cf) : Blk := .box 73 [.p (.sl 4 (cfs l))]
set_option maxHeartbeats 1000000 in
theorem told1_con (l : List Cf) (id : Int) (hlen : l.length <= 1000000) (hm : ∀ c ∈ l, c.ms.length <= 1000000) : Con Tryz.prog 137 [.p (I id), .ptr 1024 0] [nbox l] (.ret (.p (I (wV l id))) [] [nbox l]) := by
 refine zE Tryz.tab Tryz.mixed Tryz.func137 rfl rfl Tryz.ntmps137 (by simp) (by simp) fun Q hr hn hp=>?_
 repeat' first|(refine hK _ ?_;clear hK)|(refine zT fun K hK=>?_)|(refine zS ?_;simp only [tZ,tY,strip])|(refine wOs fun K hK=>?_;simp)|(first | refine zU ?_)|(refine wOn ?_;try simp only [zZ])
 refine yJ (fun N st=>∃ k,k + N = l.length /\ st.s 0 = .p (I id) /\ st.s 9 = .p (.sl 4 (cfs l)) /\ st.s 10 = .p (I l.length) /\ st.s 11 = .p (I k) /\ st.s 4 = .p (I (wV (l.take k) id)) /\ ¬ wV (l.take k) id = 1 /\ st.b 1024 = some (nbox l)) l.length ⟨0,by simp [wV]⟩ fun K N st hL ⟨k,hk,g0,g9,g10,g11,g4,h1,b0⟩=>?_
 by_cases hlt : k < l.length
 ·have hw := yF k _ hlt (by omega)
  have he:=cfs_get hlt
  have hs:=roleR_snoc hlt id
  have hone:=fun h=>roleR_one (l:=l) (k:=k + 1) (id:=id) h
  have c:=find_con l[k] id (hm _ (List.getElem_mem hlt))
  have hz:=fm_none (id:=id) (l:=l[k].ms)
  unfold Cf.cells at c
  generalize wV (l.take k) id = q at hs g4 h1
  unfold rstep at hs
  generalize fm id l[k].ms = r at c hs hz
  obtain ⟨m,is⟩:=r
  unfold Mb.cells at c
  dsimp only at c hs hz
  cases is with
  | false =>
   rw [if_neg (by simp)] at hs
   have hz:=hz rfl
   by_cases o : q = 0
   ·repeat' first | (refine hK _ ?_; clear hK) | (refine zT fun K hK => ?_) | (refine zS ?_; simp only [tZ, tY, strip]) | ((first | refine wOs fun K hK => ?_ | refine zY ?_ | refine zW ?_); simp [g0, g9, g10, g11, g4, hlt, hw, o, hz]) | (first | refine zU ?_) | (refine zP ?_; try simp) | (refine wOn ?_; try simp only [zZ]) | (refine zR.pure (c) rfl ?_)
    all_goals refine hL _ (N - 1) (by omega) ⟨k + 1,by omega,?_⟩
    all_goals simp [g0,g9,g10,b0,hs,o]
   ·repeat' first | (refine hK _ ?_; clear hK) | (refine zT fun K hK => ?_) | (refine zS ?_; simp only [tZ, tY, strip]) | ((first | refine wOs fun K hK => ?_ | refine zY ?_ | refine zW ?_); simp [g0, g9, g10, g11, g4, hlt, hw, o]) | (first | refine zU ?_) | (refine zP ?_; try simp) | (refine wOn ?_; try simp only [zZ]) | (refine zR.pure (c) rfl ?_)
    all_goals refine hL _ (N - 1) (by omega) ⟨k + 1,by omega,?_⟩
    all_goals simp [g0,g9,g10,g4,b0,hs,h1]
  | true =>
   by_cases o2 : m.r = 1
   ·rw [if_pos ⟨rfl, .inr o2⟩, o2] at hs
    have hR:=hone hs
    repeat' first|(refine hK _ ?_;clear hK)|(refine zT fun K hK=>?_)|(refine zS ?_;simp only [tZ,tY,strip])|((first | refine wOs fun K hK=>?_ | refine zY ?_ | refine zW ?_);simp [g0,g9,g10,g11,hlt,o2])|(first | refine zU ?_)|((first | refine zL ?_ | refine zP ?_);try simp)|(refine wOn ?_;try simp only [zZ])|(refine zR.pure (c) rfl ?_)
    all_goals apply hr
    all_goals refine ⟨[],by simp,by simp,?_⟩
    all_goals simp [Tryz.f137,yL,yM,zO,b0,hR]
   ·by_cases o : q = 0
    ·rw [if_pos ⟨rfl, .inl o⟩] at hs
     repeat' first|(refine hK _ ?_;clear hK)|(refine zT fun K hK=>?_)|(refine zS ?_;simp only [tZ,tY,strip])|((first | refine wOs fun K hK=>?_ | refine zY ?_ | refine zW ?_);simp [g0,g9,g10,g11,g4,hlt,hw,o,o2])|(first | refine zU ?_)|(refine zP ?_;try simp)|(refine wOn ?_;try simp only [zZ])|(refine zR.pure (c) rfl ?_)
     all_goals refine hL _ (N - 1) (by omega) ⟨k + 1,by omega,?_⟩
     all_goals simp [g0,g9,g10,b0,hs,o2]
    ·rw [if_neg (by simp [o, o2])] at hs
     repeat' first|(refine hK _ ?_;clear hK)|(refine zT fun K hK=>?_)|(refine zS ?_;simp only [tZ,tY,strip])|((first | refine wOs fun K hK=>?_ | refine zY ?_ | refine zW ?_);simp [g0,g9,g10,g11,g4,hlt,hw,o,o2])|(first | refine zU ?_)|(refine zP ?_;try simp)|(refine wOn ?_;try simp only [zZ])|(refine zR.pure (c) rfl ?_)
     all_goals refine hL _ (N - 1) (by omega) ⟨k + 1,by omega,?_⟩
     all_goals simp [g0,g9,g10,g4,b0,hs,h1]
 ·rw [List.take_of_length_le (by omega)] at g4
  repeat' first|(refine hK _ ?_;clear hK)|(clear hK;refine hK _ ?_;clear hK)|(refine zT fun K hK=>?_)|(refine zS ?_;simp only [tZ,tY,strip])|((first | refine wOs fun K hK=>?_ | refine zW ?_);simp [g10,g11,g4,hlt])|((first | refine zL ?_ | refine zC ?_);try simp)|(refine wOn ?_;try simp only [zZ])
  all_goals apply hr
  all_goals refine ⟨[],by simp,by simp,?_⟩
  all_goals simp [Tryz.f137,yL,yM,zO,b0]
theorem told_con (l : List Cf) : Con Tryz.prog 109 [.p (.sl 4 (cfs l))] [] (.ret (.clo ⟨137, false⟩ [.box 2048]) [nbox l] []) := by
 refine zE Tryz.tab Tryz.mixed Tryz.func109 rfl rfl Tryz.ntmps109 (by simp) (by simp) fun Q hr hn hp=>?_
 repeat' first|(refine hK _ ?_;clear hK)|(refine zT fun K hK=>?_)|(refine zS ?_;simp only [tZ,tY,strip])|(refine wOs fun K hK=>?_;simp)|(refine zL ?_;try simp)|(refine wOn ?_;try simp only [zZ])
 all_goals apply hr
 all_goals refine ⟨[1],by simp,by simp,?_⟩
 all_goals simp [Tryz.f109,yL,yM,zO,gaN]
abbrev fbox (b : Nat) : Blk := .box 71 [.clo ⟨137, false⟩ [.box b]]
theorem dec_eq (a b : Int) : (a == b) = decide (a = b) := by by_cases h : a = b <;> simp [h]
theorem voting1_con (l : List Cf) (id : Int) (hlen : l.length <= 1000000) (hm : ∀ c ∈ l, c.ms.length <= 1000000) : Con Tryz.prog 111 [.p (I id), .ptr 1024 0] [fbox 1025, nbox l] (.ret (.p (B (decide (wV l id = 1)))) [] [fbox 1025, nbox l]) := by
 have c2:=told1_con l id hlen hm
 generalize wV l id = R at c2 ⊢
 refine zE Tryz.tab Tryz.mixed Tryz.func111 rfl rfl Tryz.ntmps111 (by simp) (by simp) fun Q hr hn hp=>?_
 repeat' first|(refine zV [1025] c2 (by decide) (by decide) (by simp [zQ,zO,zX]) (by simp [zN,zH,zX,inN,pos]) ⟨[],by simp,by simp,?_⟩;simp [lv,kpI,kpR,pos,ren,zX])|(refine hK _ ?_;clear hK)|(refine zT fun K hK=>?_)|(refine zS ?_;simp only [tZ,tY,strip])|(refine wOs fun K hK=>?_;simp)|(refine zL ?_;try simp)|(refine wOn ?_;try simp only [zZ])
 all_goals apply hr
 all_goals refine ⟨[],by simp,by simp,?_⟩
 all_goals simp [Tryz.f111,yL,yM,zO,gaN,kpI,pos,zX,wS,xY,dec_eq]
def whoK (p : Int -> Bool) : Nat -> List Int
 | 0=>[]
 | k + 1=>if p k = true then whoK p k ++ [(k : Int)] else whoK p k
theorem whoK_len (p : Int -> Bool) : ∀ k, (whoK p k).length <= k
 | 0=>by simp [whoK]
 | k + 1 => by
  have:=whoK_len p k
  rw [whoK]
  split <;> simp <;> omega
set_option maxHeartbeats 1000000 in
theorem thoseV_con (l : List Cf) (hlen : l.length <= 1000000) (hm : ∀ c ∈ l, c.ms.length <= 1000000) : Con Tryz.prog 110 [.clo ⟨111, false⟩ [.box 1024]] [fbox 1025, nbox l] (.ret (.row 2048) [.row 3 1 (ints (whoK (fun id => decide (wV l id = 1)) 16))] [fbox 1025, nbox l]) := by
 have hq : ∀ k : Nat,k < 16 -> IntKind.i64.wrap ((k : Int) + 1) = ((k + 1 : Nat) : Int):=fun k h=>by rw [yV] <;> omega
 refine zE Tryz.tab Tryz.mixed Tryz.func110 rfl rfl Tryz.ntmps110 (by simp) (by simp) fun Q hr hn hp=>?_
 repeat' first|(refine hK _ ?_;clear hK)|(refine zT fun K hK=>?_)|(refine zS ?_;simp only [tZ,tY,strip])|(refine wOs fun K hK=>?_;simp)|(first | refine zU ?_)|(refine wOn ?_;try simp only [zZ])
 refine wLoopG [.row 3 3 1] (fun N st=>∃ k,k + N = 16 /\ st.s 0 = .clo ⟨111,false⟩ [.box 1024] /\ st.s 5 = .p (I k) /\ st.s 3 = .row 3 /\ st.b 3 = some (.row 3 1 (ints (whoK (fun id=>decide (wV l id = 1)) k))) /\ st.b 1024 = some (fbox 1025) /\ st.b 1025 = some (nbox l)) 16 ⟨0,by simp [whoK,ints]⟩ fun K N st hL ⟨k,hk,g0,g5,g3,b3,e1024,e1025⟩=>?_
 by_cases hlt : k < 16
 ·have hw := hq k hlt
  have hlt' : (k : Int) < 16:=by omega
  have hwl:=whoK_len (fun id=>decide (wV l id = 1)) k
  have hs : whoK (fun id=>decide (wV l id = 1)) (k + 1) = if (fun id=>decide (wV l id = 1)) (k : Int) = true then whoK (fun id=>decide (wV l id = 1)) k ++ [(k : Int)] else whoK (fun id=>decide (wV l id = 1)) k:=rfl
  have c:=voting1_con l k hlen hm
  have hx:=ints_sn (whoK (fun id=>decide (wV l id = 1)) k) k
  generalize whoK (fun id=>decide (wV l id = 1)) k = q at hs b3 hwl hx
  by_cases o : (decide (wV l (k : Int) = 1)) = true
  ·rw [if_pos (by exact o)] at hs
   rw [<- hs] at hx
   rw [show (decide (wV l (k : Int) = 1)) = true from o] at c
   repeat' first|(refine And.intro (by (try simp at hwl ⊢);omega) ?_)|(refine zV [1024,1025] c (by decide) (by decide) (by simp [zQ,inN,pos,zO,wS,xY,zX,e1024,e1025]) (by simp [zN,zH,zX,inN,pos]) ⟨[],by simp,by simp,?_⟩;simp [lv,kpI,kpR,pos,ren,zX])|(refine hK _ ?_;clear hK)|(refine zT fun K hK=>?_)|(refine zS ?_;simp only [tZ,tY,strip])|((first | refine wOs fun K hK=>?_ | refine zW ?_);simp [zO,g0,g5,g3,b3,hlt',hw])|(first | refine zU ?_)|(refine zP ?_;try simp)|(refine wOn ?_;try simp only [zZ])
   refine hL _ (N - 1) (by omega) ⟨k + 1,by omega,?_⟩
   simp [ouN,kpI,pos,zX,zO,wS,xY,g0,hx]
  ·have o' : (decide (wV l (k : Int) = 1)) = false := by simpa using o
   rw [if_neg (by exact o)] at hs
   rw [o'] at c
   repeat' first|(refine zV [1024,1025] c (by decide) (by decide) (by simp [zQ,inN,pos,zO,wS,xY,zX,e1024,e1025]) (by simp [zN,zH,zX,inN,pos]) ⟨[],by simp,by simp,?_⟩;simp [lv,kpI,kpR,pos,ren,zX])|(refine hK _ ?_;clear hK)|(refine zT fun K hK=>?_)|(refine zS ?_;simp only [tZ,tY,strip])|((first | refine wOs fun K hK=>?_ | refine zW ?_);simp [g0,g5,hlt',hw])|(first | refine zU ?_)|(refine zP ?_;try simp)|(refine wOn ?_;try simp only [zZ])
   refine hL _ (N - 1) (by omega) ⟨k + 1,by omega,?_⟩
   simp [ouN,kpI,pos,zX,zO,wS,xY,g0,g3,b3,hs]
 ·obtain rfl : k = 16 := by omega
  repeat' first|(refine hK _ ?_;clear hK)|(clear hK;refine hK _ ?_;clear hK)|(refine zT fun K hK=>?_)|(refine zS ?_;simp only [tZ,tY,strip])|((first | refine wOs fun K hK=>?_ | refine zW ?_);simp [g5,g3])|((first | refine zL ?_ | refine zC ?_);try simp)|(refine wOn ?_;try simp only [zZ])
  all_goals apply hr
  all_goals refine ⟨[3],by simp,by simp,?_⟩
  all_goals simp [Tryz.f110,yL,yM,zO,gaN,b3,e1024,e1025]
def voteL (l : List Cf) : List Int := whoK (fun id => decide (wV l id = 1)) 16
theorem voting_con (l : List Cf) (hlen : l.length <= 1000000) (hm : ∀ c ∈ l, c.ms.length <= 1000000) : zB Tryz.prog 80 [.p (.sl 4 (cfs l))] (.p (.sl 1 (ints (voteL l)))) := by
 have c1:=told_con l
 have c2:=thoseV_con l hlen hm
 unfold voteL
 generalize whoK (fun id=>decide (wV l id = 1)) 16 = R at c2 ⊢
 refine zK Tryz.tab Tryz.mixed Tryz.func80 rfl rfl Tryz.ntmps80 (by simp) (by simp) fun Q hr hn=>?_
 repeat' first|(refine zV [] c1 (by decide) (by decide) (by simp [zQ]) (by simp [zN,zH,toP]) ⟨[500],by simp,by simp,?_⟩;simp [lv,ouN,kpI,kpR,pos,ren,zX,wS,xY])|(refine zV [3,500] c2 (by decide) (by decide) (by simp [zQ,inN,pos,zO,wS,xY,zX]) (by simp [zN,zH,zX,inN,pos,xY,wS]) ⟨[600],by simp,by simp,?_⟩;simp [lv,ouN,kpI,kpR,pos,ren,zX])|(refine hK _ ?_;clear hK)|(refine zT fun K hK=>?_)|(refine zS ?_;simp only [tZ,tY,strip])|(refine wOs fun K hK=>?_;simp)|(refine zL ?_;try simp)|(refine wOn ?_;try simp only [zZ])
 all_goals apply hr
 all_goals simp [Tryz.f80,pos,zO]
end Go.Proofs.YtffflakmofbilaaGreat
namespace Go.Proofs.YtffflakmofbilaaGreat
set_option linter.unusedSimpArgs false
set_option linter.unusedVariables false
set_option maxRecDepth 8000
open Go Go.Av
attribute [local irreducible] Go.Av.yA Go.Av.zR Go.Av.xZ Go.Av.zJ Go.Av.xV Go.Av.zG Go.Av.Con
theorem indexI_con (l : List Int) (n : Int) : zB Tryz.prog 113 [.p (.sl 1 (ints l)), .p (I n)] (.p (I (match l.findIdx? (fun x => decide (x = n)) with | some i => (i : Int) | none => -1))) := by
 refine zB.len ⟨Tryz.f113,Tryz.func113,rfl,rfl⟩ 0 _ _ rfl fun hlen=>?_
 simp only [ints_len] at hlen
 refine zK Tryz.tab Tryz.mixed Tryz.func113 rfl rfl Tryz.ntmps113 (by simp) (by simp) fun Q hr hn=>?_
 repeat' first|(refine hK _ ?_;clear hK)|(refine zT fun K hK=>?_)|(refine zS ?_;simp only [tZ,tY,strip])|(refine wOs fun K hK=>?_;simp)|(first | refine zU ?_)|(refine wOn ?_;try simp only [zZ])
 refine yJ (fun N st=>∃ k,k + N = l.length /\ st.s 0 = .p (.sl 1 (ints l)) /\ st.s 1 = .p (I n) /\ st.s 7 = .p (I l.length) /\ st.s 8 = .p (I k) /\ (∀ j (hj : j < l.length),j < k -> ¬ l[j] = n)) l.length ⟨0,by simp⟩ fun K N st hL ⟨k,hk,g0,g1,g6,g7,hi⟩=>?_
 by_cases hlt : k < l.length
 ·have hw := yF k _ hlt hlen
  by_cases o : l[k] = n
  ·have hf : l.findIdx? (fun x => decide (x = n)) = some k := by
    rw [List.findIdx?_eq_some_iff_getElem]
    exact ⟨hlt,decide_eq_true o,fun j hj=>by simpa using hi j (by omega) hj⟩
   rw [hf] at hr
   simp only at hr
   have o2 : (n = l[k]) = True:=eq_true o.symm
   replace o : (l[k] = n) = True:=eq_true o
   repeat' first|(refine hK _ ?_;clear hK)|(refine zT fun K hK=>?_)|(refine zS ?_;simp only [tZ,tY,strip])|((first | refine wOs fun K hK=>?_ | refine zW ?_);simp [g0,g1,g6,g7,hlt,o2])|(first | refine zU ?_)|((first | refine zL ?_ | refine zP ?_);try simp)|(refine wOn ?_;try simp only [zZ])
   all_goals apply hr
   all_goals simp [Tryz.f113]
  ·have o' : (l[k] = n) = False := eq_false o
   have o2 : (n = l[k]) = False:=eq_false fun h=>o h.symm
   repeat' first|(refine hK _ ?_;clear hK)|(refine zT fun K hK=>?_)|(refine zS ?_;simp only [tZ,tY,strip])|((first | refine wOs fun K hK=>?_ | refine zW ?_);simp [g0,g1,g6,g7,hlt,hw,o2])|(first | refine zU ?_)|(refine zP ?_;try simp)|(refine wOn ?_;try simp only [zZ])
   refine hL _ (N - 1) (by omega) ⟨k + 1,by omega,?_⟩
   refine ⟨by simp [g0],by simp [g1],by simp [g6],by simp,fun j hj hjk=>?_⟩
   by_cases hjk' : j = k
   ·subst hjk';exact o
   ·exact hi j hj (by omega)
 ·have hf : l.findIdx? (fun x => decide (x = n)) = none := by
   rw [List.findIdx?_eq_none_iff]
   intro x hx
   obtain ⟨j,hj,rfl⟩:=List.getElem_of_mem hx
   exact decide_eq_false (hi j hj (by omega))
  rw [hf] at hr
  repeat' first|(refine hK _ ?_;clear hK)|(clear hK;refine hK _ ?_;clear hK)|(refine zT fun K hK=>?_)|(refine zS ?_;simp only [tZ,tY,strip])|((first | refine wOs fun K hK=>?_ | refine zW ?_);simp [g6,g7,hlt])|((first | refine zL ?_ | refine zC ?_);try simp)|(refine wOn ?_;try simp only [zZ])
  all_goals apply hr
  all_goals simp [Tryz.f113]
theorem idxI_mem (n : Int) (l : List Int) : 0 <= (match l.findIdx? (fun x => decide (x = n)) with | some i => (i : Int) | none => -1) ↔ n ∈ l := by
 cases h : l.findIdx? (fun x=>decide (x = n)) with
 | none =>
  rw [List.findIdx?_eq_none_iff] at h
  simp only
  refine ⟨fun h'=>by omega,fun hm=>?_⟩
  have:=h n hm
  simp at this
 | some i =>
  rw [List.findIdx?_eq_some_iff_getElem] at h
  obtain ⟨hi,h1,-⟩:=h
  simp only
  refine ⟨fun _=>?_,fun _=>by omega⟩
  have : l[i] = n:=by simpa using h1
  rw [<- this];exact List.getElem_mem hi
theorem containsI_con (l : List Int) (n : Int) : zB Tryz.prog 83 [.p (.sl 1 (ints l)), .p (I n)] (.p (B (decide (n ∈ l)))) := by
 have c1:=indexI_con l n
 have hd : decide (n ∈ l) = decide (0 <= (match l.findIdx? (fun x=>decide (x = n)) with | some i=>(i : Int) | none=>-1)):=by simp only [idxI_mem]
 rw [hd]
 generalize (match l.findIdx? (fun x=>decide (x = n)) with | some i=>(i : Int) | none=>-1) = i at *
 refine zK Tryz.tab Tryz.mixed Tryz.func83 rfl rfl Tryz.ntmps83 (by simp) (by simp) fun Q hr hn=>?_
 repeat' first|(refine zR.pure (c1) rfl ?_)|(refine hK _ ?_;clear hK)|(refine zT fun K hK=>?_)|(refine zS ?_;simp only [tZ,tY,strip])|((first | refine wOs fun K hK=>?_ | refine zY ?_);simp)|(refine zL ?_;try simp)|(refine wOn ?_;try simp only [zZ])
 all_goals apply hr
 all_goals simp [Tryz.f83]
theorem xD (l : List Int) (n : Int) : zB Tryz.prog 82 [.p (I n), .rptr [.sl 1 (ints l)] 0] (.p (B (decide (n ∈ l)))) := by
 have c1:=containsI_con l n
 generalize decide (n ∈ l) = b at *
 refine zK Tryz.tab Tryz.mixed Tryz.func82 rfl rfl Tryz.ntmps82 (by simp) (by simp) fun Q hr hn=>?_
 repeat' first|(refine zR.pure (c1) rfl ?_)|(refine hK _ ?_;clear hK)|(refine zT fun K hK=>?_)|(refine zS ?_;simp only [tZ,tY,strip])|((first | refine wOs fun K hK=>?_ | refine zY ?_);simp)|(refine zL ?_;try simp)|(refine wOn ?_;try simp only [zZ])
 all_goals apply hr
 all_goals simp [Tryz.f82]
def zI (p : Lq) : List Int := voteL (yX p.h p.d.e p.d.n)
theorem voter_con (p : Lq) (g : Bool) (o : List Mg) (hk : OkH p.h) (hn' : (yX p.h p.d.e p.d.n).length <= 1000000) (hm : ∀ c ∈ yX p.h p.d.e p.d.n, c.ms.length <= 1000000) : Con Tryz.prog 50 [.ptr 1024 0] (lW p g o) (.ret (.clo ⟨82, false⟩ [.rp [.sl 1 (ints (zI p))] 0]) [] (lW p g o)) := by
 have c1:=needs_con' p g o hk
 have c2:=voting_con (yX p.h p.d.e p.d.n) hn' hm
 unfold zI
 generalize voteL (yX p.h p.d.e p.d.n) = V at *
 generalize cfs (yX p.h p.d.e p.d.n) = C at *
 unfold lW lBx at *
 generalize zD o = O at *
 refine zE Tryz.tab Tryz.mixed Tryz.func50 rfl rfl Tryz.ntmps50 (by simp) (by simp) fun Q hr hn hp=>?_
 repeat' first|(refine zV [1024,1025] (c1) (by decide) (by decide) (by simp [zQ,inN,pos,zO,zX]) (by simp [zN,zH,zX,inN,pos]) ⟨[],by simp,by simp,?_⟩;simp [lv,kpI,kpR,pos,ren,zX])|(refine zR.pure (c2) rfl ?_)|(refine wFrzX 3 rfl rfl ?_;simp [frzx,subx,subx0])|(refine hK _ ?_;clear hK)|(refine zT fun K hK=>?_)|(refine zS ?_;simp only [tZ,tY,strip])|((first | refine wOs fun K hK=>?_ | refine zY ?_);simp)|(refine zL ?_;try simp)|(refine wOn ?_;try simp only [zZ])
 all_goals first | apply hr
 all_goals refine ⟨[],by simp,by simp,?_⟩
 all_goals simp [Tryz.f50,yL,yM,zO,gaN,ouN,zX,wS,xY]
end Go.Proofs.YtffflakmofbilaaGreat
namespace Go.Proofs.YtffflakmofbilaaGreat
set_option linter.unusedSimpArgs false
set_option linter.unusedVariables false
open Go Go.Av
attribute [local irreducible] Go.Av.yA Go.Av.zR Go.Av.xZ Go.Av.zJ Go.Av.xV Go.Av.zG Go.Av.Con
theorem txns_take' (l : List Tx) (k : Nat) : (yW l).take k = yW (l.take k) := by simp [yW, List.map_take]
def comF (h : Hy) (self : Int) (l : List Lr) : List Tx -> Nat -> Int -> Int -> Int × Int
 | [],_,e,n=>(e,n)
 | t :: r,k,e,n=>if xN t.e t.n e n <= 0 then comF h self l r (k + 1) e n else if allQ (endN (nsOf h (h.lg.take (k + 1))) e n) (xC self 4 t.e t.n l) = true then comF h self l r (k + 1) t.e t.n else (e,n)
theorem sum_takeL {α : Type} (f : α -> Nat) : ∀ (l : List α) (k : Nat), ((l.take k).map f).sum <= (l.map f).sum
 | [],k=>by simp
 | x :: l,0=>by simp
 | x :: l, k + 1 => by
  have:=sum_takeL f l k
  rw [List.take_succ_cons,tZ,tZ,List.sum_cons,List.sum_cons]
  omega
theorem needs_take (h : Hy) (k : Nat) (e n : Int) : yX ⟨h.im, h.lg.take k⟩ e n = endN (nsOf h (h.lg.take k)) e n := rfl
theorem needs_ok {h : Hy} (hk : OkH h) (e n : Int) : ∀ c ∈ yX h e n, c.ms.length <= 1000 := by
 intro c hc
 obtain ⟨h1,h2⟩:=nsOf_ok hk (l:=h.lg) fun t ht=>ht
 unfold yX endN at hc
 split at hc
 ·simp only [List.mem_cons, List.not_mem_nil, or_false] at hc
  subst hc;exact h2
 ·simp only [List.mem_cons, List.not_mem_nil, or_false] at hc
  rcases hc with rfl | rfl
  ·exact h1
  ·exact h2
theorem endN_len (s : NS) (e n : Int) : (endN s e n).length <= 2 := by unfold endN; split <;> simp
set_option maxHeartbeats 8000000 in
theorem commit_con (h : Hy) (de dn self : Int) (l : List Lr) (hk : OkH h) (hl : l.length <= 100000) : zB Tryz.prog 87 [.p (.agg h.cells), .p (.agg [I de, I dn]), .p (I self), .p (.sl 8 (lrs l))] (.p (.agg [I (comF h self l h.lg 0 de dn).1, I (comF h self l h.lg 0 de dn).2])) := by
 have hlg:=hk.lg
 unfold Hy.cells
 refine zK Tryz.tab Tryz.mixed Tryz.func87 rfl rfl Tryz.ntmps87 (by simp) (by simp) fun Q hr hn=>?_
 repeat' first|(refine hK _ ?_;clear hK)|(refine zT fun K hK=>?_)|(refine zS ?_;simp only [tZ,tY,strip])|(refine wOs fun K hK=>?_;simp)|(first | refine zU ?_ | refine wD ?_)|((first | refine wK ?_ | refine wOn ?_);try simp only [zZ])
 refine yJ (fun N st=>∃ (k : Nat) (e n : Int),k + N = h.lg.length /\ comF h self l (h.lg.drop k) k e n = comF h self l h.lg 0 de dn /\ st.s 2 = .p (I self) /\ st.s 3 = .p (.sl 8 (lrs l)) /\ st.s 4 = .ptr 4 0 /\ st.b 4 = some (.box 33 [.p (.sl 5 (zns h.im.ns)),.p (.sl 1 (ints h.im.ss)),.p (I h.im.nx),.p (I h.im.c.ep),.p (I h.im.c.n),.p (I h.im.c.kind),.p (.sl 4 (mbs h.im.c.ms)),.p (I h.im.ae),.p (I h.im.an),.p (.sl 8 (yW h.lg))]) /\ st.s 5 = .ptr 5 0 /\ st.b 5 = some (.box 25 [.p (I e),.p (I n)]) /\ st.s 8 = .ptr 8 0 /\ st.b 8 = some (.box 25 [.p (I 0),.p (I 0)]) /\ st.s 14 = .p (I h.lg.length) /\ st.s 15 = .p (I k)) h.lg.length ⟨0,de,dn,by simp⟩ fun K N st hL ⟨k,e,n,hkN,hi,g2,g3,g4,b4,gc,bc,g8,b8,gl,gk⟩=>?_
 by_cases hlt : k < h.lg.length
 ·have hlt' : (k : Int) < h.lg.length := by omega
  have hlt2 : k + 1 <= h.lg.length:=by omega
  have h0k : (0 : Int) <= (k : Int) + 1:=by omega
  have hw:=yF k _ hlt (by omega)
  have he:=wC hlt
  have ht:=txns_take' h.lg (k + 1)
  have c1:=uD h.lg[k].e h.lg[k].n e n
  rw [List.drop_eq_getElem_cons hlt] at hi
  simp only [comF] at hi
  by_cases o1 : xN h.lg[k].e h.lg[k].n e n <= 0
  ·rw [if_pos o1] at hi
   repeat' first|(refine hK _ ?_;clear hK)|(clear hK;refine hK _ ?_;clear hK)|(refine zT fun K hK=>?_)|(refine zS ?_;simp only [tZ,tY,strip])|((first | refine wOs fun K hK=>?_ | refine zY ?_ | refine zW ?_);simp [g4,b4,gc,bc,gl,gk,hlt,hlt',o1,hw])|(first | refine zU ?_)|((first | refine zC ?_ | refine zP ?_);try simp)|(refine wOn ?_;try simp only [zZ])|(refine zR.pure (c1) rfl ?_)
   refine hL _ (N - 1) (by omega) ⟨k + 1,e,n,by omega,hi,?_⟩
   simp [g2,g3,g4,b4,gc,bc,g8,b8,gl]
  ·rw [if_neg o1] at hi
   have hk2 : OkH ⟨h.im,h.lg.take (k + 1)⟩:=hk.take (k + 1)
   have c2:=needs_con ⟨h.im,h.lg.take (k + 1)⟩ e n hk2
   have hcf:=needs_ok hk2 e n
   rw [needs_take] at c2 hcf
   have c3:=set_con self 4 h.lg[k].e h.lg[k].n l hl
   have c4:=all_con (endN (nsOf h (h.lg.take (k + 1))) e n) (xC self 4 h.lg[k].e h.lg[k].n l) (by have:=endN_len (nsOf h (h.lg.take (k + 1))) e n;omega) (fun c hc=>by have:=hcf c hc;omega)
   unfold Hy.cells at c2
   simp only at c2
   generalize endN (nsOf h (h.lg.take (k + 1))) e n = nd at c2 c4 hi
   generalize xC self 4 h.lg[k].e h.lg[k].n l = ss at c3 c4 hi
   by_cases o2 : allQ nd ss = true
   ·rw [if_pos o2] at hi
    rw [o2] at c4
    repeat' first|(refine hK _ ?_;clear hK)|(refine zT fun K hK=>?_)|((first | refine zS ?_ | refine yZ rfl (by kernel_rfl) ?_);simp only [tZ,tY,strip])|((first | refine wOs fun K hK=>?_ | refine wQs fun K hK=>?_ | refine zY ?_ | refine zM ?_ | refine zW ?_);simp [g2,g3,g4,b4,gc,bc,gl,gk,hlt,hlt',hlt2,h0k,o1,hw,ht])|(first | refine zU ?_)|(refine zP ?_;try simp)|((first | refine wOn ?_ | refine wQn ?_);try simp only [zZ])|(refine zR.pure (c1) rfl ?_)|(refine zJ.pure (c2) rfl ?_)|(refine zR.pure (c3) rfl ?_)|(refine zR.pure (c4) rfl ?_)
    refine hL _ (N - 1) (by omega) ⟨k + 1,_,_,by omega,hi,?_⟩
    simp [g2,g3,g4,b4,gc,g8,b8,gl]
   ·rw [if_neg o2] at hi
    rw [<- hi] at hr
    simp only [Bool.not_eq_true] at o2
    rw [o2] at c4
    repeat' first|(refine hK _ ?_;clear hK)|(clear hK;clear hK;refine hK _ ?_;clear hK)|(refine zT fun K hK=>?_)|((first | refine zS ?_ | refine yZ rfl (by kernel_rfl) ?_);simp only [tZ,tY,strip])|((first | refine wOs fun K hK=>?_ | refine wQs fun K hK=>?_ | refine zY ?_ | refine zM ?_ | refine zW ?_);simp [g2,g3,g4,b4,gc,bc,g8,b8,gl,gk,hlt,hlt',hlt2,h0k,o1,hw,ht])|(first | refine zU ?_)|((first | refine zL ?_ | refine zC ?_ | refine zP ?_);try simp)|((first | refine wOn ?_ | refine wQn ?_);try simp only [zZ])|(refine zR.pure (c1) rfl ?_)|(refine zJ.pure (c2) rfl ?_)|(refine zR.pure (c3) rfl ?_)|(refine zR.pure (c4) rfl ?_)
    all_goals apply hr
    all_goals simp [Tryz.f87,g8]
 ·have hlt' : ¬ (k : Int) < h.lg.length := by omega
  rw [List.drop_of_length_le (by omega)] at hi
  simp only [comF] at hi
  rw [<- hi] at hr
  repeat' first|(refine hK _ ?_;clear hK)|(clear hK;refine hK _ ?_;clear hK)|(refine zT fun K hK=>?_)|(refine zS ?_;simp only [tZ,tY,strip])|((first | refine wOs fun K hK=>?_ | refine zW ?_);simp [gc,bc,g8,b8,gl,gk,hlt'])|((first | refine zL ?_ | refine zC ?_);try simp)|(refine wOn ?_;try simp only [zZ])
  all_goals apply hr
  all_goals simp [Tryz.f87,g8]
def but (l : List Int) (n : Int) : List Int := l.filter fun x => !decide (x = n)
end Go.Proofs.YtffflakmofbilaaGreat
namespace Go.Proofs.YtffflakmofbilaaGreat
set_option linter.unusedSimpArgs false
set_option linter.unusedVariables false
open Go Go.Av Go.Lib Go.RowKit
end Go.Proofs.YtffflakmofbilaaGreat
namespace Go.Proofs.YtffflakmofbilaaGreat
set_option linter.unusedSimpArgs false
set_option linter.unusedVariables false
open Go Go.Av
attribute [local irreducible] Go.Av.yA Go.Av.zR Go.Av.xZ Go.Av.zJ Go.Av.xV Go.Av.zG Go.Av.Con
def atI : List Int -> Int -> Nat
 | [],_=>0
 | x :: r,s=>if x < s then atI r s + 1 else 0
def insI (l : List Int) (s : Int) : List Int := (but l s).take (atI l s) ++ s :: (but l s).drop (atI l s)
def okS (s : Int) : Bool := decide (1 <= s /\ s <= 1099511627776)
def opnL (l : List Int) (s : Int) : List Int := if okS s = true then insI l s else l
def opnN (nx s : Int) : Int := if okS s = true then max nx (s + 1) else nx
theorem copied08_con (e n k : Int) (ms : List (List PV)) (hl : ms.length <= 4398046510976) : zB Tryz.prog 63 [.p (.agg [I e, I n, I k, .sl 4 ms])] (.p (.agg [I e, I n, I k, .sl 4 ms])) := by
 refine zK Tryz.tab Tryz.mixed Tryz.func63 rfl rfl Tryz.ntmps63 (by simp) (by simp) fun Q hr hn=>?_
 repeat' first|(refine And.intro (by (try simp);omega) ?_)|(refine Or.inl ?_)|(refine hK _ ?_;clear hK)|(refine zT fun K hK=>?_)|(refine zS ?_;simp only [tZ,tY,strip])|(refine wOs fun K hK=>?_;simp)|(refine zL ?_;try simp)|(refine wOn ?_;try simp only [zZ])
 all_goals apply hr
 all_goals simp [Tryz.f63]
end Go.Proofs.YtffflakmofbilaaGreat
namespace Go.Proofs.YtffflakmofbilaaGreat
set_option linter.unusedSimpArgs false
set_option linter.unusedVariables false
open Go Go.Av
end Go.Proofs.YtffflakmofbilaaGreat
namespace Go.Proofs.YtffflakmofbilaaGreat
set_option linter.unusedSimpArgs false
set_option linter.unusedVariables false
open Go Go.Av
attribute [local irreducible] Go.Av.yA Go.Av.zR Go.Av.xZ Go.Av.zJ Go.Av.xV Go.Av.zG Go.Av.Con
end Go.Proofs.YtffflakmofbilaaGreat
