/- Texts that the proof needs: HN HP HQ HS LE3a LN0. -/
import Derived.Test.YtffflakmofbilaaGreatP24LeadOrder
import Derived.Test.YtffflakmofbilaaGreatP25LeadOrder
import Derived.Test.YtffflakmofbilaaGreatP26LeadOrder
namespace Go.Proofs.YtffflakmofbilaaGreat
set_option linter.unusedSimpArgs false
set_option linter.unusedVariables false
open Go Go.Av
attribute [local irreducible] Go.Av.yA Go.Av.zR Go.Av.xZ Go.Av.zJ Go.Av.xV Go.Av.zG Go.Av.Con
def mks (h : Hy) : List Zx := ⟨h.im.ae, h.im.an⟩ :: h.lg.map fun t => ⟨t.e, t.n⟩
theorem mks_len (h : Hy) : (mks h).length = h.lg.length + 1 := by simp [mks]
theorem mks_take (h : Hy) (k : Nat) (hk : k < h.lg.length) : (mks h).take (k + 2) = (mks h).take (k + 1) ++ [⟨h.lg[k].e, h.lg[k].n⟩] := by
 unfold mks
 simp only [List.take_succ_cons,List.cons_append]
 rw [List.take_succ_eq_append_getElem (by simpa using hk)]
 simp
theorem zxs_app (a b : List Zx) : zxs (a ++ b) = zxs a ++ zxs b := by simp [zxs]
set_option maxHeartbeats 1000000 in
theorem marks_con (h : Hy) (hl : h.lg.length <= 1000) : zB Tryz.prog 122 [.p (.agg h.cells)] (.p (.sl 2 (zxs (mks h)))) := by
 have cb:=base_con h
 have hz0 : (mks h).take 1 = [⟨h.im.ae,h.im.an⟩]:=rfl
 have hmt:=mks_take h
 have hml:=mks_len h
 generalize mks h = M at *
 unfold Hy.cells at *
 refine zK Tryz.tab Tryz.mixed Tryz.func122 rfl rfl Tryz.ntmps122 (by simp) (by simp) fun Q hr hn=>?_
 repeat' first|(refine zR.pure (cb) rfl ?_)|(refine hK _ ?_;clear hK)|(refine zT fun K hK=>?_)|(refine zS ?_;simp only [tZ,tY,strip])|((first | refine wOs fun K hK=>?_ | refine zY ?_);simp)|(first | refine zU ?_)|(refine wOn ?_;try simp only [zZ])
 refine yJ (fun N st=>∃ k,k + N = h.lg.length /\ st.s 10 = .p (.sl 8 (yW h.lg)) /\ st.s 11 = .p (I h.lg.length) /\ st.s 12 = .p (I k) /\ (k = 0 /\ st.s 3 = .full 2 (zxs (M.take 1)) \/ 0 < k /\ st.s 3 = .row 20 /\ st.b 20 = some (.row 25 2 (zxs (M.take (k + 1)))))) h.lg.length ⟨0,by simp [hz0,zxs]⟩ fun K N st hL ⟨k,hk,g10,g11,g12,hc⟩=>?_
 by_cases hlt : k < h.lg.length
 ·have hw := yF k _ hlt (by omega)
  have he:=wC hlt
  have hs:=zxs_app (M.take (k + 1)) [⟨h.lg[k].e,h.lg[k].n⟩]
  rw [<- hmt k hlt] at hs
  have hs' : zxs (M.take (k + 1)) ++ [[I h.lg[k].e,I h.lg[k].n]] = zxs (M.take (k + 1 + 1)):=hs.symm
  have hw1 : IntKind.i64.wrap 1 = 1:=by rw [yV] <;> omega
  have hln : (zxs (M.take (k + 1))).length <= 1001:=by rw [zxs_len,List.length_take];omega
  rcases hc with ⟨rfl,g3⟩ | ⟨hk0,g3,b20⟩
  ·repeat' first | (refine Or.inl ?_) | (refine And.intro (by (try simp); omega) ?_) | (refine hK _ ?_; clear hK) | (refine zT fun K hK => ?_) | (refine zS ?_; simp only [tZ, tY, strip]) | ((first | refine wOs fun K hK => ?_ | refine zW ?_); simp [g10, g11, g12, g3, hlt]) | (first | refine zU ?_) | (refine zP ?_; try simp) | (refine wOn ?_; try simp only [zZ])
   refine hL _ (N - 1) (by omega) ⟨1,by omega,?_⟩
   simp only [Nat.zero_add] at hs'
   simp [g10,g11,hw1,hs']
  ·repeat' first | (refine And.intro (by (try simp); omega) ?_) | (refine hK _ ?_; clear hK) | (refine zT fun K hK => ?_) | (refine zS ?_; simp only [tZ, tY, strip]) | ((first | refine wOs fun K hK => ?_ | refine zW ?_); simp [g10, g11, g12, g3, b20, hlt, hw]) | (first | refine zU ?_) | (refine zP ?_; try simp) | (refine wOn ?_; try simp only [zZ])
   refine hL _ (N - 1) (by omega) ⟨k + 1,by omega,?_⟩
   simp [g10,g11,hs']
 ·have hk0 : k = h.lg.length := by omega
  rcases hc with ⟨h0,g3⟩ | ⟨hk0,g3,b20⟩
  ·rw [List.take_of_length_le (by omega)] at g3
   repeat' first|(refine hK _ ?_;clear hK)|(clear hK;refine hK _ ?_;clear hK)|(refine zT fun K hK=>?_)|(refine zS ?_;simp only [tZ,tY,strip])|((first | refine wOs fun K hK=>?_ | refine zW ?_);simp [g11,g12,g3,hlt])|((first | refine zL ?_ | refine zC ?_);try simp)|(refine wOn ?_;try simp only [zZ])
   all_goals apply hr
   all_goals simp [Tryz.f122]
  ·rw [List.take_of_length_le (by omega)] at b20
   repeat' first|(refine hK _ ?_;clear hK)|(clear hK;refine hK _ ?_;clear hK)|(refine zT fun K hK=>?_)|(refine zS ?_;simp only [tZ,tY,strip])|((first | refine wOs fun K hK=>?_ | refine zW ?_);simp [g11,g12,g3,hlt])|((first | refine zL ?_ | refine zC ?_);try simp)|(refine wOn ?_;try simp only [zZ])
   all_goals apply hr
   all_goals simp [Tryz.f122,b20]
theorem among_con (l : List Zx) (e n : Int) : zB Tryz.prog 152 [.p (.sl 2 (zxs l)), .p (.agg [I e, I n])] (.p (B (decide ((⟨e, n⟩ : Zx) ∈ l)))) := by
 refine zB.len ⟨Tryz.f152,Tryz.func152,rfl,rfl⟩ 0 _ _ rfl fun hlen=>?_
 simp only [zxs_len] at hlen
 refine zK Tryz.tab Tryz.mixed Tryz.func152 rfl rfl Tryz.ntmps152 (by simp) (by simp) fun Q hr hn=>?_
 repeat' first|(refine hK _ ?_;clear hK)|(refine zT fun K hK=>?_)|(refine zS ?_;simp only [tZ,tY,strip])|(refine wOs fun K hK=>?_;simp)|(first | refine zU ?_)|(refine wOn ?_;try simp only [zZ])
 refine yJ (fun N st=>∃ k,k + N = l.length /\ st.s 3 = .ptr 3 0 /\ st.b 3 = some (.box 25 [.p (I e),.p (I n)]) /\ st.s 7 = .p (.sl 2 (zxs l)) /\ st.s 8 = .p (I l.length) /\ st.s 9 = .p (I k) /\ ((⟨e,n⟩ : Zx) ∈ l ↔ (⟨e,n⟩ : Zx) ∈ l.drop k)) l.length ⟨0,by simp⟩ fun K N st hL ⟨k,hk,g3,b3,g7,g8,g9,hi⟩=>?_
 by_cases hlt : k < l.length
 ·have hw := yF k _ hlt hlen
  rw [List.drop_eq_getElem_cons hlt,List.mem_cons] at hi
  have hx : (⟨e,n⟩ : Zx) = l[k] ↔ e = l[k].e /\ n = l[k].n:=by cases l[k];simp
  by_cases o : l[k].e = e /\ l[k].n = n
  ·obtain ⟨o1, o2⟩ := o
   have hm : (⟨e,n⟩ : Zx) ∈ l:=hi.2 (.inl (hx.2 ⟨o1.symm,o2.symm⟩))
   rw [decide_eq_true hm] at hr
   replace o1 : (l[k].e = e) = True:=eq_true o1
   replace o2 : (l[k].n = n) = True:=eq_true o2
   repeat' first|(refine hK _ ?_;clear hK)|(refine zT fun K hK=>?_)|(refine zS ?_;simp only [tZ,tY,strip])|((first | refine wOs fun K hK=>?_ | refine zW ?_);simp [g3,b3,g7,g8,g9,hlt,o1,o2])|(first | refine zU ?_)|((first | refine zL ?_ | refine zP ?_);try simp)|(refine wOn ?_;try simp only [zZ])
   all_goals apply hr
   all_goals simp [Tryz.f152]
  ·have hne : ¬ ((⟨e, n⟩ : Zx) = l[k]) := fun h => o ⟨(hx.1 h).1.symm, (hx.1 h).2.symm⟩
   rw [or_iff_right hne] at hi
   repeat' first|(refine hK _ ?_;clear hK)|(refine zT fun K hK=>?_)|(refine zS ?_;simp only [tZ,tY,strip])|((first | refine wOs fun K hK=>?_ | refine zW ?_);simp [g3,b3,g7,g8,g9,hlt,hw,o])|(first | refine zU ?_)|(refine zP ?_;try simp)|(refine wOn ?_;try simp only [zZ])|(intro _)
   all_goals first | skip
   refine hL _ (N - 1) (by omega) ⟨k + 1,by omega,?_⟩
   simp [g3,b3,g7,g8,hi]
 ·rw [List.drop_of_length_le (by omega)] at hi
  rw [decide_eq_false (fun h=>by have:=hi.1 h;simp at this)] at hr
  repeat' first|(refine hK _ ?_;clear hK)|(clear hK;refine hK _ ?_;clear hK)|(refine zT fun K hK=>?_)|(refine zS ?_;simp only [tZ,tY,strip])|((first | refine wOs fun K hK=>?_ | refine zW ?_);simp [g8,g9,hlt])|((first | refine zL ?_ | refine zC ?_);try simp)|(refine wOn ?_;try simp only [zZ])
  all_goals apply hr
  all_goals simp [Tryz.f152]
theorem wFrzX [Glob] {P : Program} {T : TypeId -> Option Ty} {N : Nat} {ops : Array Oper} {o : Oper} {rest : List Oper} {st : St} {K : St -> Prop} {Z : Value -> St -> Prop} (b : Nat) {e : TypeId} {cells : List V} {es : List PV} (hb : st.b b = some (.box e cells)) (hp : plC cells = some es) (h : WO P T N ops (o :: rest) (frzx st b es) K Z) : WO P T N ops (o :: rest) st K Z := by
 refine wFrz [.bx b] ?_
 have e0 : uY st [.bx b] = frzx st b es:=by simp only [uY,gh1,hb,hp]
 rw [e0]
 exact h
theorem backward_con (l : List (List PV)) : zB Tryz.prog 151 [.p (.sl 2 l)] (.clo ⟨159, false⟩ [.rp [.sl 2 l] 0]) := by
 refine zE Tryz.tab Tryz.mixed Tryz.func151 rfl rfl Tryz.ntmps151 (by simp) (by simp) fun Q hr hn hp=>?_
 repeat' first|(refine wFrzX 1 rfl rfl ?_;simp [frzx,subx,subx0,subxB])|(refine hK _ ?_;clear hK)|(refine zT fun K hK=>?_)|(refine zS ?_;simp only [tZ,tY,strip])|(refine wOs fun K hK=>?_;simp)|(refine zL ?_;try simp)|(refine wOn ?_;try simp only [zZ])
 all_goals apply hr
 all_goals refine ⟨[],by simp,by simp,?_⟩
 all_goals simp [Tryz.f151,yL,yM]
theorem ownStateP_con (ns ss ms : List (List PV)) (nx e n k ae an : Int) (h1 : ns.length <= 1000000) (h2 : ss.length <= 1000000) (h3 : ms.length <= 4398046510976) :
 zB Tryz.prog 136 [.p (.agg [.sl 5 ns,.sl 1 ss,I nx,I e,I n,I k,.sl 4 ms,I ae,I an])] (.p (.agg [.sl 5 ns,.sl 1 ss,I nx,I e,I n,I k,.sl 4 ms,I ae,I an])):=by
 have c1:=cloneZ ns h1
 have c2:=cloneI ss h2
 have c3:=ownConfig_con e n k ms h3
 refine zK Tryz.tab Tryz.mixed Tryz.func136 rfl rfl Tryz.ntmps136 (by simp) (by simp) fun Q hr hn=>?_
 repeat' first|(refine hK _ ?_;clear hK)|(refine zT fun K hK=>?_)|(refine zS ?_;simp only [tZ,tY,strip])|((first | refine wOs fun K hK=>?_ | refine zY ?_);simp)|(refine zL ?_;try simp)|(refine wOn ?_;try simp only [zZ])|(refine zR.own (c1) ?_)|(refine zR.own (c2) ?_)|(refine zR.pure (c3) rfl ?_)
 all_goals apply hr
 all_goals simp [Tryz.f136]
theorem ownHist_con (h : Hy) (hk : OkH h) : zB Tryz.prog 107 [.p (.agg h.cells)] (.p (.agg h.cells)) := by
 have c1:=ownStateP_con (zns h.im.ns) (ints h.im.ss) (mbs h.im.c.ms) h.im.nx h.im.c.ep h.im.c.n h.im.c.kind h.im.ae h.im.an (by have:=hk.ns;simp;omega) (by have:=hk.ss;simp;omega) (by have:=hk.c;simp;omega)
 have c2:=(ownTxns_con h.lg hk.lg hk.ps).toPure
 unfold Hy.cells
 refine zK Tryz.tab Tryz.mixed Tryz.func107 rfl rfl Tryz.ntmps107 (by simp) (by simp) fun Q hr hn=>?_
 repeat' first|(refine zG.pure (c1) rfl ?_)|(refine zG.pure (c2) rfl ?_)|(refine hK _ ?_;clear hK)|(refine hK _ _ ?_;clear hK)|(refine zT fun K hK=>?_)|((first | refine zS ?_ | refine yI ?_);simp only [tZ,tY,strip])|((first | refine wIs fun K hK=>?_ | refine wOs fun K hK=>?_ | refine zF ?_);simp)|(refine wIn ?_;refine And.intro (by kernel_rfl) ?_;try simp only [zZ])|(refine zL ?_;try simp)|(refine wOn ?_;try simp only [zZ])
 all_goals apply hr
 all_goals simp [Tryz.f107]
theorem ownH_con (h : Hy) (hk : OkH h) : zB Tryz.prog 77 [.p (.agg h.cells)] (.p (.agg h.cells)) := by
 have c1:=ownHist_con h hk
 unfold Hy.cells at *
 refine zK Tryz.tab Tryz.mixed Tryz.func77 rfl rfl Tryz.ntmps77 (by simp) (by simp) fun Q hr hn=>?_
 repeat' first|(refine zR.pure (c1) rfl ?_)|(refine hK _ ?_;clear hK)|(refine zT fun K hK=>?_)|(refine zS ?_;simp only [tZ,tY,strip])|((first | refine wOs fun K hK=>?_ | refine zY ?_);simp)|(refine zL ?_;try simp)|(refine wOn ?_;try simp only [zZ])
 all_goals apply hr
 all_goals simp [Tryz.f77]
def vI (M ms : List Zx) : Nat -> Option Nat
 | 0=>none
 | i + 1 => match M[i]? with
  | some z=>if z ∈ ms then some i else vI M ms i
  | none=>vI M ms i
theorem lastIn_succ {M ms : List Zx} {i : Nat} (h : i < M.length) : vI M ms (i + 1) = if M[i] ∈ ms then some i else vI M ms i := by
 simp only [vI,List.getElem?_eq_getElem h]
def makeP (h : Hy) (ms : List Zx) : List PV := match vI (mks h) ms (mks h).length with
 | some i=>[I (if ms.getLast? = some ((mks h).getD i ⟨0,0⟩) then 1 else 2),I ((mks h).getD i ⟨0,0⟩).e,I ((mks h).getD i ⟨0,0⟩).n,.sl 5 [],.sl 1 [],I 0,I 0,I 0,I 0,.sl 4 [],I 0,I 0,.sl 8 (yW (h.lg.drop i))]
 | none=>[I 3,I 0,I 0,.sl 5 (zns h.im.ns),.sl 1 (ints h.im.ss),I h.im.nx,I h.im.c.ep,I h.im.c.n,I h.im.c.kind,.sl 4 (mbs h.im.c.ms),I h.im.ae,I h.im.an,.sl 8 (yW h.lg)]
theorem txns_drop (l : List Tx) (k : Nat) : (yW l).drop k = yW (l.drop k) := by simp [yW, List.map_drop]
set_option maxHeartbeats 8000000 in
theorem make_con (h : Hy) (ms : List Zx) (hk : OkH h) (hms : ms.length <= 1000000) : zB Tryz.prog 131 [.p (.agg h.cells), .p (.sl 2 (zxs ms))] (.p (.agg (makeP h ms))) := by
 have c1:=marks_con h hk.lg
 have c2:=backward_con (zxs (mks h))
 have c3:=ownH_con h hk
 have hml:=mks_len h
 have hlg:=hk.lg
 have hE : Go.Av.Enters Tryz.prog 159:=⟨Tryz.f159,Tryz.func159,rfl,rfl⟩
 have hown : ∀ i,zB Tryz.prog 79 [.p (.sl 8 (yW (h.lg.drop i)))] (.p (.sl 8 (yW (h.lg.drop i)))):=fun i=>(ownTxns_con (h.lg.drop i) (by simp;omega) fun t ht=>hk.ps t (List.mem_of_mem_drop ht)).toPure
 unfold makeP
 generalize mks h = M at *
 unfold Hy.cells at *
 refine wBodyM Tryz.tab Tryz.mixed Tryz.func131 rfl rfl Tryz.ntmps131 (by simp) (by simp) fun Q hr hn=>?_
 repeat' first|(refine zR.pure (c1) rfl ?_)|(refine zV [] c2 (by decide) (by decide) (by simp [zQ]) (by simp [zN,zH,toP]) ⟨[],by simp,by simp,?_⟩;simp [lv,kpI,kpR,pos,ren,zX,wS,xY])|(refine hK _ ?_;clear hK)|(refine zT fun K hK=>?_)|(refine zS ?_;simp only [tZ,tY,strip])|((first | refine wOs fun K hK=>?_ | refine zY ?_);simp)|(first | refine zU ?_)|(refine wOn ?_;try simp only [zZ])
 refine wRng (M := 8220) (l := zxs M) [2, 3, 4, 13] (fun k β => β 2 = some (.box 33 [.p (.sl 5 (zns h.im.ns)), .p (.sl 1 (ints h.im.ss)), .p (I h.im.nx), .p (I h.im.c.ep), .p (I h.im.c.n), .p (I h.im.c.kind), .p (.sl 4 (mbs h.im.c.ms)), .p (I h.im.ae), .p (I h.im.an), .p (.sl 8 (yW h.lg))]) /\ β 3 = some (.box 52 [.p (.sl 2 (zxs ms))]) /\ (∃ z, β 4 = some (.box 54 z) /\ z.length = 13) /\ vI M ms (M.length - k) = vI M ms M.length)
  (fun β=>∃ i kd,vI M ms M.length = some i /\ kd = (if ms.getLast? = some (M.getD i ⟨0,0⟩) then (1 : Int) else 2) /\ β 4 = some (.box 54 [.p (I kd),.p (I (M.getD i ⟨0,0⟩).e),.p (I (M.getD i ⟨0,0⟩).n),.p (.sl 5 []),.p (.sl 1 []),.p (I 0),.p (I 0),.p (I 0),.p (I 0),.p (.sl 4 []),.p (I 0),.p (I 0),.p (.sl 8 (yW (h.lg.drop i)))]))
  backward_iter hE (by simp) (fun t=>by rw [show 8220 = maskOf [2,3,4,13] from rfl];exact mask_bit _ t) (by decide) (by decide) (by decide) (by decide) (by decide) (by decide) (by decide) (by decide) (by decide) ?_ ?_ ?_ ?_
 ·simp
 ·intro k β hkl ⟨b2, b3, ⟨z, b4, hz'⟩, hli⟩ K hK
  have hkl' : k < M.length:=by simpa using hkl
  obtain ⟨i,hi⟩ : ∃ i,i = M.length - 1 - k:=⟨_,rfl⟩
  have hiM : i < M.length:=by omega
  have hz : (zxs M)[(zxs M).length - 1 - k]'(by omega) = [I M[i].e,I M[i].n]:=by simp only [zxs_getE,zxs_len,hi]
  have hz2 : (zxs M).length - 1 - k = i:=by rw [zxs_len];exact hi.symm
  rw [hz,hz2]
  have hil : i <= h.lg.length:=by omega
  have hmi : M.getD i ⟨0,0⟩ = M[i]:=by rw [List.getD_eq_getElem?_getD,List.getElem?_eq_getElem hiM];rfl
  rw [show M.length - k = i + 1 by omega,lastIn_succ hiM] at hli
  have hki : M.length - (k + 1) = i:=by omega
  have ca:=among_con ms M[i].e M[i].n
  have hdr:=txns_drop h.lg i
  have htk : List.take h.lg.length (yW h.lg) = yW h.lg:=List.take_of_length_le (by simp)
  have hoi:=hown i
  clear hi hz hz2
  generalize M[i] = x at *
  have hx : (⟨x.e,x.n⟩ : Zx) = x:=by cases x;rfl
  rw [hx] at ca
  obtain ⟨z0, z1, z2, z3, z4, z5, z6, z7, z8, z9, z10, z11, z12, rfl⟩ : ∃ z0 z1 z2 z3 z4 z5 z6 z7 z8 z9 z10 z11 z12, z = [z0, z1, z2, z3, z4, z5, z6, z7, z8, z9, z10, z11, z12] := by
   match z,hz' with
   | [z0,z1,z2,z3,z4,z5,z6,z7,z8,z9,z10,z11,z12],_=>exact ⟨z0,z1,z2,z3,z4,z5,z6,z7,z8,z9,z10,z11,z12,rfl⟩
  by_cases o : x ∈ ms
  ·rw [if_pos o] at hli
   rw [decide_eq_true o] at ca
   have hm0 : 0 < ms.length:=List.length_pos_of_mem o
   have hmw : IntKind.i64.wrap ((ms.length : Int) - 1) = ((ms.length - 1 : Nat) : Int):=by rw [yV] <;> omega
   have hml1 : ms.length - 1 < ms.length:=by omega
   have hgl : ms.getLast? = some ms[ms.length - 1]:=by rw [List.getLast?_eq_getElem?,List.getElem?_eq_getElem hml1]
   obtain ⟨j,hj⟩ : ∃ j,j = ms.length - 1:=⟨_,rfl⟩
   have hjl : j < ms.length:=by omega
   rw [<- hj] at hmw
   have hgl' : ms.getLast? = some ms[j]:=by rw [hgl];simp only [hj]
   clear hgl hml1 hj
   have hyx : ms[j] = x ↔ ms[j].e = x.e /\ ms[j].n = x.n:=by cases h1 : ms[j];cases x;simp
   by_cases o2 : ms[j].e = x.e /\ ms[j].n = x.n
   ·have hkd : (if ms.getLast? = some (M.getD i ⟨0, 0⟩) then (1 : Int) else 2) = 1 := by rw [hmi, hgl', if_pos (by rw [hyx.2 o2])]
    obtain ⟨o3,o4⟩:=o2
    replace o3 : (ms[j].e = x.e) = True:=eq_true o3
    replace o4 : (ms[j].n = x.n) = True:=eq_true o4
    repeat' first|(refine zR.pure (ca) rfl ?_)|(refine zG.pure (hoi) rfl ?_)|(refine hK _ ?_;clear hK)|(refine hK _ _ ?_;clear hK)|(refine zT fun K hK=>?_)|((first | refine zS ?_ | refine yZ rfl (by kernel_rfl) ?_ | refine yI ?_);simp only [tZ,tY,strip])|((first | refine wIs fun K hK=>?_ | refine wOs fun K hK=>?_ | refine wQs fun K hK=>?_ | refine zY ?_ | refine zF ?_ | refine zW ?_);simp [b2,b3,b4,hil,htk,hdr,hmw,hjl,o3,o4])|(refine wIn ?_;refine And.intro (by kernel_rfl) ?_;try simp only [zZ])|(first | refine zU ?_)|((first | refine zL ?_ | refine zP ?_);try simp)|((first | refine wOn ?_ | refine wQn ?_);try simp only [zZ])
    simp only [rndQ]
    refine ⟨⟨i,hli.symm,?_⟩,by simp⟩
    have hmi2 : M[i]?.getD ⟨0,0⟩ = x:=by rw [<- hmi,List.getD_eq_getElem?_getD]
    rw [hmi] at hkd
    simp [hmi2,hkd]
   ·have hkd : (if ms.getLast? = some (M.getD i ⟨0, 0⟩) then (1 : Int) else 2) = 2 := by
     rw [hmi,hgl',if_neg]
     intro hh
     exact o2 (hyx.1 (Option.some.inj hh))
    repeat' first|(refine zR.pure (ca) rfl ?_)|(refine zG.pure (hoi) rfl ?_)|(refine hK _ ?_;clear hK)|(refine hK _ _ ?_;clear hK)|(refine zT fun K hK=>?_)|((first | refine zS ?_ | refine yZ rfl (by kernel_rfl) ?_ | refine yI ?_);simp only [tZ,tY,strip])|((first | refine wIs fun K hK=>?_ | refine wOs fun K hK=>?_ | refine wQs fun K hK=>?_ | refine zY ?_ | refine zF ?_ | refine zW ?_);simp [b2,b3,b4,hil,htk,hdr,hmw,hjl,o2])|(refine wIn ?_;refine And.intro (by kernel_rfl) ?_;try simp only [zZ])|(first | refine zU ?_)|((first | refine zL ?_ | refine zP ?_);try simp)|((first | refine wOn ?_ | refine wQn ?_);try simp only [zZ])|(intro _)
    all_goals first | skip
    simp only [rndQ]
    refine ⟨⟨i,hli.symm,?_⟩,by simp⟩
    have hmi2 : M[i]?.getD ⟨0,0⟩ = x:=by rw [<- hmi,List.getD_eq_getElem?_getD]
    rw [hmi] at hkd
    simp [hmi2,hkd]
  ·rw [if_neg o] at hli
   rw [decide_eq_false o] at ca
   repeat' first|(refine zR.pure (ca) rfl ?_)|(refine hK _ ?_;clear hK)|(refine zT fun K hK=>?_)|(refine zS ?_;simp only [tZ,tY,strip])|((first | refine wOs fun K hK=>?_ | refine zY ?_ | refine zW ?_);simp [b3])|(first | refine zU ?_)|(refine zC ?_;try simp)|(refine wOn ?_;try simp only [zZ])
   simp only [rndQ]
   rw [hki]
   refine ⟨⟨?_,?_,⟨[z0,z1,z2,z3,z4,z5,z6,z7,z8,z9,z10,z11,z12].map (yR 7),?_,by simp⟩,hli⟩,?_⟩
   ·simp [b2]
   ·simp [b3]
   ·simp [b4]
   ·simp
 ·rintro β ⟨b2, b3, ⟨z, b4, hz⟩, hli⟩
  rw [zxs_len,Nat.sub_self] at hli
  rw [<- hli] at hr hn
  simp only [vI] at hr hn
  obtain ⟨z0, z1, z2, z3, z4, z5, z6, z7, z8, z9, z10, z11, z12, rfl⟩ : ∃ z0 z1 z2 z3 z4 z5 z6 z7 z8 z9 z10 z11 z12, z = [z0, z1, z2, z3, z4, z5, z6, z7, z8, z9, z10, z11, z12] := by
   match z,hz with
   | [z0,z1,z2,z3,z4,z5,z6,z7,z8,z9,z10,z11,z12],_=>exact ⟨z0,z1,z2,z3,z4,z5,z6,z7,z8,z9,z10,z11,z12,rfl⟩
  first|(apply_assumption)
  repeat' first|(refine zR.pure (c3) rfl ?_)|(refine hK _ ?_;clear hK)|(refine zT fun K hK=>?_)|(refine zS ?_;simp only [tZ,tY,strip])|((first | refine wOs fun K hK=>?_ | refine zY ?_);simp [b2,b4])|(refine zL ?_;try simp)|(refine wOn ?_;try simp only [zZ])
  all_goals apply hr
  all_goals refine ⟨[],by simp,by simp,trivial,trivial,by simp,?_⟩
  all_goals simp [Tryz.f131]
 ·rintro β ⟨i, kd, hli, hkd, b4⟩
  rw [hli] at hr
  simp only at hr
  rw [<- hkd] at hr
  apply hr
  refine ⟨[],by simp,by simp,trivial,trivial,by simp,?_⟩
  simp [Tryz.f131,b4]
def hyCells (h : Hy) (X : Fc) : List Fc := [.p (.sl 5 (zns h.im.ns)), .p (.sl 1 (ints h.im.ss)), .p (I h.im.nx), .p (I h.im.c.ep), .p (I h.im.c.n), .p (I h.im.c.kind), .p (.sl 4 (mbs h.im.c.ms)), .p (I h.im.ae), .p (I h.im.an), X]
theorem ownHistR_con (h : Hy) (hk : OkH h) : Con Tryz.prog 107 [.p (.agg h.cells)] [] (.ret (.ag (hyCells h (.row 2048))) [.row 58 8 (yW h.lg)] []) := by
 have c1:=ownStateP_con (zns h.im.ns) (ints h.im.ss) (mbs h.im.c.ms) h.im.nx h.im.c.ep h.im.c.n h.im.c.kind h.im.ae h.im.an (by have:=hk.ns;simp;omega) (by have:=hk.ss;simp;omega) (by have:=hk.c;simp;omega)
 have c2:=ownTxns_con h.lg hk.lg hk.ps
 unfold Hy.cells hyCells
 refine zE Tryz.tab Tryz.mixed Tryz.func107 rfl rfl Tryz.ntmps107 (by simp) (by simp) fun Q hr hn hp=>?_
 repeat' first|(refine zG.pure (c1) rfl ?_)|(refine zG.own (c2) ?_)|(refine hK _ ?_;clear hK)|(refine hK _ _ ?_;clear hK)|(refine zT fun K hK=>?_)|((first | refine zS ?_ | refine yI ?_);simp only [tZ,tY,strip])|((first | refine wIs fun K hK=>?_ | refine wOs fun K hK=>?_ | refine zF ?_);simp)|(refine wIn ?_;refine And.intro (by kernel_rfl) ?_;try simp only [zZ])|(refine zL ?_;try simp)|(refine wOn ?_;try simp only [zZ])
 all_goals apply hr
 all_goals refine ⟨[8],by simp,by simp,?_⟩
 all_goals simp [Tryz.f107,yL,yM,zO]
theorem ownHR_con (h : Hy) (hk : OkH h) : Con Tryz.prog 77 [.p (.agg h.cells)] [] (.ret (.ag (hyCells h (.row 2048))) [.row 58 8 (yW h.lg)] []) := by
 have c1:=ownHistR_con h hk
 unfold Hy.cells hyCells at *
 refine zE Tryz.tab Tryz.mixed Tryz.func77 rfl rfl Tryz.ntmps77 (by simp) (by simp) fun Q hr hn hp=>?_
 repeat' first|(refine zV [] (c1) (by decide) (by decide) (by simp [zQ]) (by simp [zN,zH,toP]) ⟨[500],by simp,by simp,?_⟩;simp [lv,ouN,kpI,kpR,pos,ren,zX,uJ,xA])|(refine hK _ ?_;clear hK)|(refine zT fun K hK=>?_)|(refine zS ?_;simp only [tZ,tY,strip])|(refine wOs fun K hK=>?_;simp)|(refine zL ?_;try simp)|(refine wOn ?_;try simp only [zZ])
 all_goals apply hr
 all_goals refine ⟨[500],by simp,by simp,?_⟩
 all_goals simp [Tryz.f77,yL,yM,zO]
def follows (z : Zx) : List Tx -> Bool
 | []=>true
 | t :: l=>if xN t.e t.n z.e z.n <= 0 then false else follows ⟨t.e,t.n⟩ l
theorem follows_con (z : Zx) (l : List Tx) (hl : l.length <= 1000) : zB Tryz.prog 78 [.p (.agg [I z.e, I z.n]), .p (.sl 8 (yW l))] (.p (B (follows z l))) := by
 refine zK Tryz.tab Tryz.mixed Tryz.func78 rfl rfl Tryz.ntmps78 (by simp) (by simp) fun Q hr hn=>?_
 repeat' first|(refine hK _ ?_;clear hK)|(refine zT fun K hK=>?_)|(refine zS ?_;simp only [tZ,tY,strip])|(refine wOs fun K hK=>?_;simp)|(first | refine zU ?_)|(refine wOn ?_;try simp only [zZ])
 refine yJ (fun N st=>∃ (k : Nat) (y : Zx),k + N = l.length /\ st.s 2 = .ptr 2 0 /\ st.b 2 = some (.box 25 [.p (I y.e),.p (I y.n)]) /\ st.s 7 = .p (.sl 8 (yW l)) /\ st.s 8 = .p (I l.length) /\ st.s 9 = .p (I k) /\ follows y (l.drop k) = follows z l) l.length ⟨0,z,by simp⟩ fun K N st hL ⟨k,y,hk,g2,b2,g7,g8,g9,hi⟩=>?_
 by_cases hlt : k < l.length
 ·have hw := yF k _ hlt (by omega)
  have he:=wC hlt
  rw [List.drop_eq_getElem_cons hlt,follows] at hi
  have cc:=uD l[k].e l[k].n y.e y.n
  by_cases o : xN l[k].e l[k].n y.e y.n <= 0
  ·rw [if_pos o] at hi
   rw [<- hi] at hr
   generalize xN l[k].e l[k].n y.e y.n = q at *
   repeat' first|(refine zR.pure (cc) rfl ?_)|(refine hK _ ?_;clear hK)|(refine zT fun K hK=>?_)|(refine zS ?_;simp only [tZ,tY,strip])|((first | refine wOs fun K hK=>?_ | refine zY ?_ | refine zW ?_);simp [g2,b2,g7,g8,g9,hlt,o])|(first | refine zU ?_)|((first | refine zL ?_ | refine zP ?_);try simp)|(refine wOn ?_;try simp only [zZ])
   all_goals apply hr
   all_goals simp [Tryz.f78]
  ·rw [if_neg o] at hi
   generalize xN l[k].e l[k].n y.e y.n = q at *
   repeat' first|(refine zR.pure (cc) rfl ?_)|(refine hK _ ?_;clear hK)|(refine zT fun K hK=>?_)|(refine zS ?_;simp only [tZ,tY,strip])|((first | refine wOs fun K hK=>?_ | refine zY ?_ | refine zW ?_);simp [g2,b2,g7,g8,g9,hlt,hw,o])|(first | refine zU ?_)|(refine zP ?_;try simp)|(refine wOn ?_;try simp only [zZ])
   refine hL _ (N - 1) (by omega) ⟨k + 1,⟨l[k].e,l[k].n⟩,by omega,?_⟩
   simp [g2,g7,g8,hi]
 ·rw [List.drop_of_length_le (by omega), follows] at hi
  rw [<- hi] at hr
  repeat' first|(refine hK _ ?_;clear hK)|(clear hK;refine hK _ ?_;clear hK)|(refine zT fun K hK=>?_)|(refine zS ?_;simp only [tZ,tY,strip])|((first | refine wOs fun K hK=>?_ | refine zW ?_);simp [g8,g9,hlt])|((first | refine zL ?_ | refine zC ?_);try simp)|(refine wOn ?_;try simp only [zZ])
  all_goals apply hr
  all_goals simp [Tryz.f78]
def zA (h : Hy) : Zx := if h.lg.length = 0 then ⟨h.im.ae, h.im.an⟩ else ⟨(h.lg.getD (h.lg.length - 1) tx0).e, (h.lg.getD (h.lg.length - 1) tx0).n⟩
theorem lastH_con (h : Hy) (hl : h.lg.length <= 1000) : zB Tryz.prog 75 [.p (.agg h.cells)] (.p (.agg [I (zA h).e, I (zA h).n])) := by
 have cb:=base_con h
 unfold zA
 by_cases h0 : h.lg.length = 0
 ·have h0' : (h.lg.length : Int) = 0 := by omega
  rw [if_pos h0]
  unfold Hy.cells at *
  refine zK Tryz.tab Tryz.mixed Tryz.func75 rfl rfl Tryz.ntmps75 (by simp) (by simp) fun Q hr hn=>?_
  repeat' first|(refine zR.pure (cb) rfl ?_)|(refine hK _ ?_;clear hK)|(refine zT fun K hK=>?_)|(refine zS ?_;simp only [tZ,tY,strip])|((first | refine wOs fun K hK=>?_ | refine zY ?_ | refine zW ?_);simp [h0])|(refine zL ?_;try simp)|(refine wOn ?_;try simp only [zZ])
  all_goals apply hr
  all_goals simp [Tryz.f75]
 ·have h0' : ¬ (h.lg.length : Int) = 0 := by omega
  rw [if_neg h0]
  have hlt : h.lg.length - 1 < h.lg.length:=by omega
  have hg : h.lg.getD (h.lg.length - 1) tx0 = h.lg[h.lg.length - 1]:=by rw [List.getD_eq_getElem?_getD,List.getElem?_eq_getElem hlt];rfl
  rw [hg]
  have hw : IntKind.i64.wrap ((h.lg.length : Int) - 1) = ((h.lg.length - 1 : Nat) : Int):=by rw [yV] <;> omega
  have he:=wC hlt
  generalize h.lg.length - 1 = j at *
  unfold Hy.cells at *
  refine zK Tryz.tab Tryz.mixed Tryz.func75 rfl rfl Tryz.ntmps75 (by simp) (by simp) fun Q hr hn=>?_
  repeat' first|(refine hK _ ?_;clear hK)|(refine zT fun K hK=>?_)|(refine zS ?_;simp only [tZ,tY,strip])|((first | refine wOs fun K hK=>?_ | refine zW ?_);simp [h0,hw,hlt])|((first | refine zL ?_ | refine zP ?_);try simp)|(refine wOn ?_;try simp only [zZ])
  all_goals apply hr
  all_goals simp [Tryz.f75]
def growOk (h : Hy) (l : List Tx) : Bool := follows (zA h) l
set_option maxHeartbeats 1000000 in
theorem grow_con (h : Hy) (l : List Tx) (hk : OkH h) (hl : l.length <= 1000) (hp : ∀ x ∈ l, x.ps.length <= 1000 /\ ∀ p ∈ x.ps, p.c.ms.length <= 1000) :
 zB Tryz.prog 49 [.p (.agg h.cells),.p (.sl 8 (yW l))] (.tup [.p (.agg (if growOk h l = true then { h with lg:=h.lg ++ l } else h).cells),.p (I (if growOk h l = true then 0 else 1))]):=by
 have c1:=ownHR_con h hk
 have c2:=lastH_con h hk.lg
 have c3:=follows_con (zA h) l hl
 have c4:=(ownTxns_con l hl hp).toPure
 have ha : yW h.lg ++ yW l = yW (h.lg ++ l):=by simp [yW]
 have hlg:=hk.lg
 unfold growOk
 generalize follows (zA h) l = b at *
 generalize zA h = z at *
 cases b
 ·simp only [Bool.false_eq_true, if_false]
  unfold Hy.cells hyCells at *
  refine zK Tryz.tab Tryz.mixed Tryz.func49 rfl rfl Tryz.ntmps49 (by simp) (by simp) fun Q hr hn=>?_
  repeat' first|(refine zV [] (c1) (by decide) (by decide) (by simp [zQ]) (by simp [zN,zH,toP]) ⟨[500],by simp,by simp,?_⟩;simp [lv,ouN,kpI,kpR,pos,ren,zX,uJ,xA])|(refine zR.lent (c2) rfl ?_)|(refine zR.pure (c3) rfl ?_)|(refine hK _ ?_;clear hK)|(refine zT fun K hK=>?_)|(refine zS ?_;simp only [tZ,tY,strip])|((first | refine wOs fun K hK=>?_ | refine zY ?_ | refine zW ?_);simp)|(refine zL ?_;try simp)|(refine wOn ?_;try simp only [zZ])
  all_goals apply hr
  all_goals simp [Tryz.f49]
 ·simp only [if_true]
  unfold Hy.cells hyCells at *
  refine zK Tryz.tab Tryz.mixed Tryz.func49 rfl rfl Tryz.ntmps49 (by simp) (by simp) fun Q hr hn=>?_
  repeat' first|(refine zV [] (c1) (by decide) (by decide) (by simp [zQ]) (by simp [zN,zH,toP]) ⟨[500],by simp,by simp,?_⟩;simp [lv,ouN,kpI,kpR,pos,ren,zX,uJ,xA])|(refine zR.lent (c2) rfl ?_)|(refine zR.pure (c3) rfl ?_)|(refine zG.pure (c4) rfl ?_)|(refine And.intro (by (try simp);omega) ?_)|(refine hK _ ?_;clear hK)|(refine hK _ _ ?_;clear hK)|(refine zT fun K hK=>?_)|((first | refine zS ?_ | refine yI ?_);simp only [tZ,tY,strip])|((first | refine wIs fun K hK=>?_ | refine wOs fun K hK=>?_ | refine zY ?_ | refine zF ?_ | refine zW ?_);simp [ha])|(refine wIn ?_;refine And.intro (by kernel_rfl) ?_;try simp only [zZ])|((first | refine zL ?_ | refine zP ?_);try simp)|(refine wOn ?_;try simp only [zZ])
  all_goals apply hr
  all_goals simp [Tryz.f49]
def plc (z : Zx) : List Zx -> Nat -> Option Nat
 | [],_=>none
 | m :: l,k=>if m = z then some k else plc z l (k + 1)
theorem plc_lt (z : Zx) : ∀ (l : List Zx) (k n : Nat), plc z l k = some n -> k <= n /\ n < k + l.length
 | [],_,_,h=>by simp [plc] at h
 | m :: l, k, n, h => by
  simp only [plc] at h
  by_cases o : m = z
  ·rw [if_pos o] at h
   simp only [tX] at h
   simp only [List.length_cons];omega
  ·rw [if_neg o] at h
   have:=plc_lt z l (k + 1) n h
   simp only [List.length_cons];omega
def bhN (o : Option Nat) : Int := match o with
 | some n=>n
 | none=>0
def bhE (o : Option Nat) : Int := match o with
 | some _=>0
 | none=>6
theorem behind_con (h : Hy) (z : Zx) (hl : h.lg.length <= 1000) : zB Tryz.prog 150 [.p (.agg h.cells), .p (.agg [I z.e, I z.n])] (.tup [.p (I (bhN (plc z (mks h) 0))), .p (I (bhE (plc z (mks h) 0)))]) := by
 have c1:=marks_con h hl
 have hml:=mks_len h
 generalize mks h = M at *
 unfold Hy.cells at *
 refine zK Tryz.tab Tryz.mixed Tryz.func150 rfl rfl Tryz.ntmps150 (by simp) (by simp) fun Q hr hn=>?_
 repeat' first|(refine zR.pure (c1) rfl ?_)|(refine hK _ ?_;clear hK)|(refine zT fun K hK=>?_)|(refine zS ?_;simp only [tZ,tY,strip])|((first | refine wOs fun K hK=>?_ | refine zY ?_);simp)|(first | refine zU ?_)|(refine wOn ?_;try simp only [zZ])
 refine yJ (fun N st=>∃ k,k + N = M.length /\ st.s 3 = .ptr 3 0 /\ st.b 3 = some (.box 25 [.p (I z.e),.p (I z.n)]) /\ st.s 9 = .p (.sl 2 (zxs M)) /\ st.s 10 = .p (I M.length) /\ st.s 11 = .p (I k) /\ plc z (M.drop k) k = plc z M 0) M.length ⟨0,by simp⟩ fun K N st hL ⟨k,hk,g3,b3,g9,g10,g11,hi⟩=>?_
 by_cases hlt : k < M.length
 ·have hw := yF k _ hlt (by omega)
  rw [List.drop_eq_getElem_cons hlt,plc] at hi
  have hx : M[k] = z ↔ M[k].e = z.e /\ M[k].n = z.n:=by cases M[k];cases z;simp
  by_cases o : M[k].e = z.e /\ M[k].n = z.n
  ·rw [if_pos (hx.2 o)] at hi
   rw [<- hi] at hr
   simp only [bhN,bhE] at hr
   obtain ⟨o1,o2⟩:=o
   replace o1 : (M[k].e = z.e) = True:=eq_true o1
   replace o2 : (M[k].n = z.n) = True:=eq_true o2
   repeat' first|(refine hK _ ?_;clear hK)|(refine zT fun K hK=>?_)|(refine zS ?_;simp only [tZ,tY,strip])|((first | refine wOs fun K hK=>?_ | refine zW ?_);simp [g3,b3,g9,g10,g11,hlt,o1,o2])|(first | refine zU ?_)|((first | refine zL ?_ | refine zP ?_);try simp)|(refine wOn ?_;try simp only [zZ])
   all_goals apply hr
   all_goals simp [Tryz.f150]
  ·rw [if_neg fun h => o (hx.1 h)] at hi
   repeat' first|(refine hK _ ?_;clear hK)|(refine zT fun K hK=>?_)|(refine zS ?_;simp only [tZ,tY,strip])|((first | refine wOs fun K hK=>?_ | refine zW ?_);simp [g3,b3,g9,g10,g11,hlt,hw,o])|(first | refine zU ?_)|(refine zP ?_;try simp)|(refine wOn ?_;try simp only [zZ])|(intro _)
   all_goals first | skip
   refine hL _ (N - 1) (by omega) ⟨k + 1,by omega,?_⟩
   simp [g3,b3,g9,g10,hi]
 ·rw [List.drop_of_length_le (by omega), plc] at hi
  rw [<- hi] at hr
  simp only [bhN,bhE] at hr
  repeat' first|(refine hK _ ?_;clear hK)|(clear hK;refine hK _ ?_;clear hK)|(refine zT fun K hK=>?_)|(refine zS ?_;simp only [tZ,tY,strip])|((first | refine wOs fun K hK=>?_ | refine zW ?_);simp [g10,g11,hlt])|((first | refine zL ?_ | refine zC ?_);try simp)|(refine wOn ?_;try simp only [zZ])
  all_goals apply hr
  all_goals simp [Tryz.f150]
def uptoH (h : Hy) (z : Zx) : Hy := match plc z (mks h) 0 with
 | some n=>{ h with lg:=h.lg.take n }
 | none=>h
theorem OkH.take {h : Hy} (hk : OkH h) (n : Nat) : OkH { h with lg := h.lg.take n } := by
 refine ⟨hk.ns,hk.ss,hk.c,?_,fun t ht=>hk.ps t (List.mem_of_mem_take ht),?_⟩
 ·have:=hk.lg;simp;omega
 ·have := hk.tot
  refine Nat.le_trans ?_ this
  conv=>rhs;rw [<- List.take_append_drop n h.lg]
  simp only [List.map_append,List.sum_append];omega
set_option maxHeartbeats 1000000 in
theorem upto_con (h : Hy) (z : Zx) (hk : OkH h) : zB Tryz.prog 130 [.p (.agg h.cells), .p (.agg [I z.e, I z.n])] (.tup [.p (.agg (uptoH h z).cells), .p (I (bhE (plc z (mks h) 0)))]) := by
 have c1:=behind_con h z hk.lg
 have hml:=mks_len h
 have hlt:=plc_lt z (mks h) 0
 unfold uptoH
 generalize plc z (mks h) 0 = o at *
 cases o with
 | none =>
  have c2:=ownH_con h hk
  simp only [bhN,bhE] at *
  unfold Hy.cells at *
  refine zK Tryz.tab Tryz.mixed Tryz.func130 rfl rfl Tryz.ntmps130 (by simp) (by simp) fun Q hr hn=>?_
  repeat' first|(refine zR.pure (c1) rfl ?_)|(refine zR.pure (c2) rfl ?_)|(refine hK _ ?_;clear hK)|(refine zT fun K hK=>?_)|(refine zS ?_;simp only [tZ,tY,strip])|((first | refine wOs fun K hK=>?_ | refine zY ?_ | refine zW ?_);simp)|(refine zL ?_;try simp)|(refine wOn ?_;try simp only [zZ])
  all_goals apply hr
  all_goals simp [Tryz.f130]
 | some n =>
  have c2:=ownH_con { h with lg:=h.lg.take n } (hk.take n)
  have hnl : n <= h.lg.length:=by have:=(hlt n rfl).2;omega
  have htk : (yW h.lg).take n = yW (h.lg.take n):=by simp [yW,List.map_take]
  simp only [bhN,bhE] at *
  unfold Hy.cells at *
  simp only at c2
  refine zK Tryz.tab Tryz.mixed Tryz.func130 rfl rfl Tryz.ntmps130 (by simp) (by simp) fun Q hr hn=>?_
  repeat' first|(refine zR.pure (c1) rfl ?_)|(refine zR.pure (c2) rfl ?_)|(refine hK _ ?_;clear hK)|(refine zT fun K hK=>?_)|(refine zS ?_;simp only [tZ,tY,strip])|((first | refine wOs fun K hK=>?_ | refine zY ?_ | refine zW ?_);simp [hnl,htk])|((first | refine zL ?_ | refine zP ?_);try simp)|(refine wOn ?_;try simp only [zZ])
  all_goals apply hr
  all_goals simp [Tryz.f130]
def vO (h : Hy) : Prop := h.lg.length <= 30 /\ (∀ t ∈ h.lg, t.ps.length <= 50) /\ wH h <= 200
instance (h : Hy) : Decidable (vO h) := by unfold vO; infer_instance
set_option maxHeartbeats 8000000 in
theorem far21_con (h : Hy) (hs : SmallH h) : zB Tryz.prog 29 [.p (.agg h.cells)] (.p (B (decide (¬ vO h)))) := by
 obtain ⟨⟨ns,ss,nx,⟨ep,n,kind,ms⟩,ae,an⟩,lg⟩:=h
 obtain ⟨h1,h2,h3,h4⟩:=hs
 simp only at h1 h2 h3 h4
 unfold Hy.cells
 refine zB.lenA ⟨Tryz.f29,Tryz.func29,rfl,rfl⟩ 0 9 8 (yW lg) _ rfl rfl fun hlg=>?_
 simp only [txns_len] at hlg
 dsimp only
 have w1:=wrapN ns.length ms.length (by omega)
 have w2 : IntKind.i64.wrap ((ns.length : Int) + (ms.length : Int) + (ss.length : Int)) = ((ns.length + ms.length + ss.length : Nat) : Int):=by rw [yV] <;> omega
 generalize hn0 : ns.length + ms.length + ss.length = n0 at w2
 have hn0' : n0 <= 3 * 140737488355328:=by omega
 by_cases q1 : 60 < lg.length
 ·have q1' : (60 : Int) < lg.length := by omega
  rw [show decide (¬ vO ⟨⟨ns,ss,nx,⟨ep,n,kind,ms⟩,ae,an⟩,lg⟩) = true from decide_eq_true fun h=>by have:=h.1;simp only at this;omega]
  refine zK Tryz.tab Tryz.mixed Tryz.func29 rfl rfl Tryz.ntmps29 (by simp) (by simp) fun Q hr hn=>?_
  repeat' first|(refine hK _ ?_;clear hK)|(refine zT fun K hK=>?_)|(refine zS ?_;simp only [tZ,tY,strip])|((first | refine wOs fun K hK=>?_ | refine zW ?_);simp [q1',w1,w2])|(refine zL ?_;try simp)|(refine wOn ?_;try simp only [zZ])
  all_goals apply hr
  all_goals simp [Tryz.f29]
 have q1' : ¬ (60 : Int) < lg.length:=by omega
 refine zK Tryz.tab Tryz.mixed Tryz.func29 rfl rfl Tryz.ntmps29 (by simp) (by simp) fun Q hr hn=>?_
 repeat' first|(refine hK _ ?_;clear hK)|(refine zT fun K hK=>?_)|(refine zS ?_;simp only [tZ,tY,strip])|((first | refine wOs fun K hK=>?_ | refine zW ?_);simp [q1',w1,w2])|(first | refine zU ?_)|(refine zP ?_;try simp)|(refine wOn ?_;try simp only [zZ])
 refine yJ (fun N st=>∃ (k m : Nat),k + N = lg.length /\ m = n0 + ((lg.take k).map wT).sum /\ m <= 3 * 140737488355328 + k * (51 * 140737488355328 + 51) /\ (∀ t ∈ lg.take k,t.ps.length <= 50) /\ st.s 1 = .ptr 1 0 /\ st.b 1 = some (.box 33 [.p (.sl 5 (zns ns)),.p (.sl 1 (ints ss)),.p (I nx),.p (I ep),.p (I n),.p (I kind),.p (.sl 4 (mbs ms)),.p (I ae),.p (I an),.p (.sl 8 (yW lg))]) /\ st.s 3 = .p (I m) /\ st.s 4 = .p (I k)) lg.length ⟨0,n0,by simp;omega⟩ fun K N st hL ⟨k,m,hk,hm,hmb,hps,g1,b1,g3,g4⟩=>?_
 by_cases hlt : k < lg.length
 ·have hlt' : (k : Int) < lg.length := by omega
  have hw:=yF k _ hlt (by omega)
  have he:=wC hlt
  obtain ⟨hp1,hp2⟩:=h4 lg[k] (List.getElem_mem hlt)
  have wm : IntKind.i64.wrap ((m : Int) + (lg[k].ps.length : Int)) = ((m + lg[k].ps.length : Nat) : Int):=by rw [yV] <;> omega
  by_cases q2 : 50 < lg[k].ps.length
  ·have q2' : (50 : Int) < lg[k].ps.length := by omega
   rw [show decide (¬ vO ⟨⟨ns,ss,nx,⟨ep,n,kind,ms⟩,ae,an⟩,lg⟩) = true from decide_eq_true fun h=>by have:=h.2.1 lg[k] (List.getElem_mem hlt);omega] at hr
   repeat' first|(refine hK _ ?_;clear hK)|(refine zT fun K hK=>?_)|(refine zS ?_;simp only [tZ,tY,strip])|((first | refine wOs fun K hK=>?_ | refine zW ?_);simp [g1,b1,g3,g4,hlt,hlt',wm,q2'])|(first | refine zU ?_)|((first | refine zL ?_ | refine zP ?_);try simp)|(refine wOn ?_;try simp only [zZ])
   all_goals apply hr
   all_goals simp [Tryz.f29]
  ·have q2' : ¬ (50 : Int) < lg[k].ps.length := by omega
   repeat' first|(refine hK _ ?_;clear hK)|(refine zT fun K hK=>?_)|(refine zS ?_;simp only [tZ,tY,strip])|((first | refine wOs fun K hK=>?_ | refine zW ?_);simp [g1,b1,g3,g4,hlt,hlt',wm,q2'])|(first | refine zU ?_)|(refine zP ?_;try simp)|(refine wOn ?_;try simp only [zZ])
   refine yJ (fun N' st=>∃ (q z : Nat),q + N' = lg[k].ps.length /\ z = m + lg[k].ps.length + ((lg[k].ps.take q).map fun p=>p.c.ms.length).sum /\ z <= m + lg[k].ps.length + q * 140737488355328 /\ st.s 1 = .ptr 1 0 /\ st.b 1 = some (.box 33 [.p (.sl 5 (zns ns)),.p (.sl 1 (ints ss)),.p (I nx),.p (I ep),.p (I n),.p (I kind),.p (.sl 4 (mbs ms)),.p (I ae),.p (I an),.p (.sl 8 (yW lg))]) /\ st.s 3 = .p (I z) /\ st.s 4 = .p (I k) /\ st.s 5 = .p (I q)) lg[k].ps.length ⟨0,m + lg[k].ps.length,by omega,by simp,by omega,?_⟩ fun K' N' st hL' ⟨q,z,hq,hz,hzb,e1,d1,e3,e4,e5⟩=>?_
   ·simp [g1,b1,g4]
   by_cases hlq : q < lg[k].ps.length
   ·have hlq' : (q : Int) < lg[k].ps.length := by omega
    have hwq:=yF q _ hlq (by omega)
    have heq:=pts_get hlq
    have hpq:=hp2 lg[k].ps[q] (List.getElem_mem hlq)
    have wz:=wrapN z lg[k].ps[q].c.ms.length (by omega)
    repeat' first|(refine hK _ ?_;clear hK)|(refine zT fun K hK=>?_)|(refine zS ?_;simp only [tZ,tY,strip])|((first | refine wOs fun K hK=>?_ | refine zW ?_);simp [e1,d1,e3,e4,e5,hlt,hlq,hlq',hwq,wz])|(first | refine zU ?_)|(refine zP ?_;try simp)|(refine wOn ?_;try simp only [zZ])
    refine hL' _ (N' - 1) (by omega) ⟨q + 1,z + lg[k].ps[q].c.ms.length,by omega,?_,by omega,?_⟩
    ·rw [sum_snoc _ hlq,hz];omega
    ·simp [e1,d1,e4]
   ·have hlq' : ¬ (q : Int) < lg[k].ps.length := by omega
    rw [List.take_of_length_le (by omega)] at hz
    repeat' first|(refine hK _ ?_;clear hK)|(clear hK;refine hK _ ?_;clear hK)|(refine zT fun K hK=>?_)|(refine zS ?_;simp only [tZ,tY,strip])|((first | refine wOs fun K hK=>?_ | refine zW ?_);simp [e1,d1,e4,e5,hlt,hlq',hw])|(refine zC ?_;try simp)|(refine wOn ?_;try simp only [zZ])
    refine hL _ (N - 1) (by omega) ⟨k + 1,z,by omega,?_,by omega,fun t ht=>?_,?_⟩
    ·rw [sum_snoc _ hlt,hz,hm];unfold wT;omega
    ·rw [List.take_succ_eq_append_getElem hlt] at ht
     rcases List.mem_append.1 ht with ht | ht
     ·exact hps t ht
     ·rw [List.mem_singleton.1 ht];omega
    ·simp [e1,d1,e3]
 ·have hlt' : ¬ (k : Int) < lg.length := by omega
  rw [List.take_of_length_le (by omega)] at hm hps
  have hmH : m = wH ⟨⟨ns,ss,nx,⟨ep,n,kind,ms⟩,ae,an⟩,lg⟩:=by unfold wH;first|(simp only;omega)
  by_cases q3 : 200 < m
  ·have q3' : (200 : Int) < m := by omega
   rw [show decide (¬ vO ⟨⟨ns,ss,nx,⟨ep,n,kind,ms⟩,ae,an⟩,lg⟩) = true from decide_eq_true fun h=>by have:=h.2.2;first | omega] at hr
   repeat' first|(refine hK _ ?_;clear hK)|(clear hK;refine hK _ ?_;clear hK)|(refine zT fun K hK=>?_)|(refine zS ?_;simp only [tZ,tY,strip])|((first | refine wOs fun K hK=>?_ | refine zW ?_);simp [g1,b1,g3,g4,hlt',q3'])|((first | refine zL ?_ | refine zC ?_);try simp)|(refine wOn ?_;try simp only [zZ])
   all_goals apply hr
   all_goals simp [Tryz.f29]
  ·have q3' : ¬ (200 : Int) < m := by omega
   by_cases q4 : 30 < lg.length
   ·have q4' : (30 : Int) < lg.length := by omega
    rw [show decide (¬ vO ⟨⟨ns,ss,nx,⟨ep,n,kind,ms⟩,ae,an⟩,lg⟩) = true from decide_eq_true fun h=>by have:=h.1;simp only at this;omega] at hr
    repeat' first|(refine hK _ ?_;clear hK)|(clear hK;refine hK _ ?_;clear hK)|(refine zT fun K hK=>?_)|(refine zS ?_;simp only [tZ,tY,strip])|((first | refine wOs fun K hK=>?_ | refine zW ?_);simp [g1,b1,g3,g4,hlt',q3',q4'])|((first | refine zL ?_ | refine zC ?_);try simp)|(refine wOn ?_;try simp only [zZ])
    all_goals apply hr
    all_goals simp [Tryz.f29]
   ·have q4' : ¬ (30 : Int) < lg.length := by omega
    rw [show decide (¬ vO ⟨⟨ns,ss,nx,⟨ep,n,kind,ms⟩,ae,an⟩,lg⟩) = false from decide_eq_false fun h=>h ⟨by simp only;omega,hps,by show wH _ <= 200;omega⟩] at hr
    repeat' first|(refine hK _ ?_;clear hK)|(clear hK;refine hK _ ?_;clear hK)|(refine zT fun K hK=>?_)|(refine zS ?_;simp only [tZ,tY,strip])|((first | refine wOs fun K hK=>?_ | refine zW ?_);simp [g1,b1,g3,g4,hlt',q3',q4'])|((first | refine zL ?_ | refine zC ?_);try simp)|(refine wOn ?_;try simp only [zZ])
    all_goals apply hr
    all_goals simp [Tryz.f29]
end Go.Proofs.YtffflakmofbilaaGreat
