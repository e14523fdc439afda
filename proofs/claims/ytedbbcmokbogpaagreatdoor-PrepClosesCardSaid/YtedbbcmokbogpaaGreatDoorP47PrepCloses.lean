/- Texts that the proof needs: PRD. -/
import Derived.Test.YtedbbcmokbogpaaGreatDoorP46PrepCloses
namespace Go.Proofs.YtedbbcmokbogpaaGreatDoor
set_option linter.unusedSimpArgs false
set_option linter.unusedVariables false
set_option maxRecDepth 8000
open Go Go.Av
def ky (z : Zn) : List UInt8 × List UInt8 × Int × Int := (z.p, z.d, z.v, z.o)
theorem ris_uniq {l : List Zn} (h : ris l) {x y : Zn} (hx : x ∈ l) (hy : y ∈ l) (he : x.p = y.p) : x = y := by
 have h1:=ris_fnd h hx
 have h2:=ris_fnd h hy
 rw [he,h2] at h1
 exact (Prod.mk.inj h1).1.symm
theorem put_ky {ns : List Zn} (h : ris ns) {z y : Zn} (hy : y ∈ ns) (hk : ky z = ky y) : (putZ ns z).map ky = ns.map ky := by
 have hp : y.p = z.p:=by have:=congrArg (·.1) hk;exact this.symm
 obtain ⟨h1,h2⟩:=att_spec ns z.p
 have hns : ns = ns.take (att ns z.p) ++ ns.drop (att ns z.p):=(List.take_append_drop _ _).symm
 have hy2 : y ∈ ns.drop (att ns z.p) := by
  rw [hns] at hy
  rcases List.mem_append.1 hy with hy | hy
  ·exact absurd (h1 y hy) (by rw [hp];exact lt_irr _)
  ·exact hy
 cases hd : ns.drop (att ns z.p) with
 | nil=>rw [hd] at hy2;simp at hy2
 | cons x r =>
  rw [hd] at hy2
  have hx:=h2 x r hd
  have hxy : x = y := by
   rcases List.mem_cons.1 hy2 with e | hr
   ·exact e.symm
   ·rw [ris_pw, hns, hd] at h
    have h3:=(List.pairwise_append.1 h).2.1
    have h4:=(List.pairwise_cons.1 h3).1 y hr
    rw [hp] at h4
    exact absurd h4 hx
  subst hxy
  have e1 : putZ ns z = ns.take (att ns z.p) ++ z :: r := by
   unfold putZ;rw [hd,rst,if_pos hp]
  rw [e1]
  conv=>rhs;rw [hns,hd]
  rw [List.map_append,List.map_append,wK,wK,hk]
theorem gone_ky (ns : List Zn) (p : List UInt8) : (wL ns p).map ky = (ns.map ky).filter fun a => !decide (a.1 = p) := by
 unfold wL
 rw [List.filter_map]
 rfl
def ow (ses : Int) (z : Zn) : Bool := !decide (z.o = ses)
theorem mem_ky {ns l : List Zn} (h : ns.map ky = l.map ky) {z : Zn} (hz : z ∈ l) : ∃ y ∈ ns, ky y = ky z := by
 have : ky z ∈ ns.map ky:=by rw [h];exact List.mem_map.2 ⟨z,hz,rfl⟩
 exact List.mem_map.1 this
theorem ky_eq {x y : Zn} (h : ky x = ky y) : x.p = y.p /\ x.d = y.d /\ x.v = y.v /\ x.o = y.o := by
 unfold ky at h
 simp only [Prod.mk.injEq] at h
 exact h
structure Gk (s S : Sv) (ses : Int) (k : Nat) (ps : List Pt) : Prop where
 r : ris S.ns
 m : S.ns.map ky = ((s.ns.take k).filter (ow ses) ++ s.ns.drop k).map ky
 e : EqA S (xT s ps)
 ss : S.ss = s.ss
theorem filter_path {l : List Zn} (h : ris l) {k : Nat} (hk : k < l.length) (ses : Int) (ho : l[k].o = ses) :
 ((((l.take k).filter (ow ses) ++ l.drop k).map ky).filter fun a=>!decide (a.1 = l[k].p)) = ((l.take (k + 1)).filter (ow ses) ++ l.drop (k + 1)).map ky:=by
 have e1 : (l.take (k + 1)).filter (ow ses) = (l.take k).filter (ow ses) := by
  rw [List.take_succ_eq_append_getElem hk,List.filter_append]
  have : ow ses l[k] = false:=by simp [ow,ho]
  simp [List.filter,this]
 rw [e1,List.drop_eq_getElem_cons hk,List.map_append,List.map_append,List.filter_append,wK]
 rw [ris_pw] at h
 have hl : l = l.take k ++ l[k] :: l.drop (k + 1):=by rw [<- List.drop_eq_getElem_cons hk,List.take_append_drop]
 have h':=h
 rw [hl] at h'
 obtain ⟨h1,h2,h3⟩:=List.pairwise_append.1 h'
 have h4:=(List.pairwise_cons.1 h2).1
 have f1 : (((l.take k).filter (ow ses)).map ky).filter (fun a => !decide (a.1 = l[k].p)) = ((l.take k).filter (ow ses)).map ky := by
  rw [List.filter_eq_self]
  intro a ha
  obtain ⟨z,hz,rfl⟩:=List.mem_map.1 ha
  have hz2:=(List.mem_filter.1 hz).1
  have:=h3 z hz2 l[k] List.mem_cons_self
  simp only [Bool.not_eq_true',decide_eq_false_iff_not]
  intro e
  have e' : z.p = l[k].p:=e
  rw [e'] at this
  exact lt_irr _ this
 have f2 : ((l.drop (k + 1)).map ky).filter (fun a => !decide (a.1 = l[k].p)) = (l.drop (k + 1)).map ky := by
  rw [List.filter_eq_self]
  intro a ha
  obtain ⟨z,hz,rfl⟩:=List.mem_map.1 ha
  have:=h4 z hz
  simp only [Bool.not_eq_true',decide_eq_false_iff_not]
  intro e
  have e' : z.p = l[k].p:=e
  rw [e'] at this
  exact lt_irr _ this
 rw [f1]
 rw [List.filter_cons_of_neg (by simp [ky]),f2]
theorem Gk.step {s S : Sv} {ses : Int} {k : Nat} {ps : List Pt} (h : Gk s S ses k ps) (ht : tre s.ns = true) (h1 : 1 <= ses) (hk : k < s.ns.length) :
 (¬ s.ns[k].o = ses -> Gk s S ses (k + 1) ps) /\ (s.ns[k].o = ses -> (xA S.ns s.ns[k].p).2 = 0 -> Gk s (doS S (txP (xA S.ns s.ns[k].p).1)) ses (k + 1) (ps ++ (xA S.ns s.ns[k].p).1)):=by
 obtain ⟨hh,hr,hz,hp⟩:=tre_ris ht
 refine ⟨fun ho=>⟨h.r,?_,h.e,h.ss⟩,fun ho h0=>?_⟩
 ·rw [h.m]
  have e1 : (s.ns.take (k + 1)).filter (ow ses) = (s.ns.take k).filter (ow ses) ++ [s.ns[k]] := by
   rw [List.take_succ_eq_append_getElem hk,List.filter_append]
   have : ow ses s.ns[k] = true:=by simp [ow,ho]
   simp [List.filter,this]
  rw [e1,List.drop_eq_getElem_cons hk,List.append_assoc,List.singleton_append]
 ·have hmem := List.getElem_mem hk
  have hnr : ¬ s.ns[k].p = [47] := fun e => by
   obtain ⟨x,r,hl,hx1,hx2,-⟩:=tre_head ht
   have hx : x ∈ s.ns:=by rw [hl];exact List.mem_cons_self
   have:=ris_uniq hr hmem hx (by rw [e,hx1])
   rw [this,hx2] at ho
   omega
  have hpar:=hp _ hmem hnr
  have hm0:=fnd_mem hpar.1
  generalize hz0 : (fnd s.ns (par s.ns[k].p).1).1 = z0 at hpar hm0
  have hin : z0 ∈ (s.ns.take k).filter (ow ses) ++ s.ns.drop k := by
   have hz1:=hm0.1
   rw [<- List.take_append_drop k s.ns] at hz1
   rcases List.mem_append.1 hz1 with hz1 | hz1
   ·exact List.mem_append.2 (.inl (List.mem_filter.2 ⟨hz1,by simp [ow,hpar.2];omega⟩))
   ·exact List.mem_append.2 (.inr hz1)
  obtain ⟨y,hy,hky⟩:=mem_ky h.m hin
  have hyp:=ky_eq hky
  have hf : fnd S.ns (par s.ns[k].p).1 = (y,true):=by rw [<- hm0.2,<- hyp.1];exact ris_fnd h.r hy
  have hchd : chd s.ns[k].p = true := by
   unfold chd;rw [decide_eq_true ⟨hnr,(rgz_of (hz _ hmem)).1⟩]
  have hlt:=(par_lt hchd).2
  unfold xA at h0 ⊢
  rw [hf] at h0 ⊢
  dsimp only at h0 ⊢
  have ht0 : turnE y = 0 := by
   by_cases hh : turnE y = 0
   ·exact hh
   ·rw [if_neg hh] at h0;exact absurd h0 hh
  rw [if_pos ht0]
  have htp : turnP y = putPt { y with k := y.k + 1 } := by
   unfold turnP turnE at *
   split at ht0
   ·simp at ht0
   ·rename_i hn;rw [if_neg hn]
  rw [htp]
  have hns : (doS S (txP [gonPt s.ns[k].p,putPt { y with k:=y.k + 1 }])).ns = putZ (wL S.ns s.ns[k].p) { y with k:=y.k + 1 }:=rfl
  have hyg : y ∈ wL S.ns s.ns[k].p := by
   unfold wL
   refine List.mem_filter.2 ⟨hy,?_⟩
   simp only [Bool.not_eq_true',decide_eq_false_iff_not]
   intro e
   rw [hyp.1,hm0.2] at e
   rw [e] at hlt
   exact lt_irr _ hlt
  have hrg:=ris_gone h.r s.ns[k].p
  refine ⟨by rw [hns];exact ris_put hrg _,?_,?_,?_⟩
  ·rw [hns,put_ky (z:={ y with k:=y.k + 1 }) hrg hyg rfl,gone_ky,h.m,filter_path hr hk ses ho]
  ·rw [runP_app]
   exact (EqA.doS S _).trans (h.e.run _)
  ·exact h.ss
theorem Gk.run {s : Sv} {ses : Int} (ht : tre s.ns = true) (h1 : 1 <= ses) : ∀ (n k : Nat) {S : Sv} {ps : List Pt}, k + n = s.ns.length -> Gk s S ses k ps -> (xK S ses (s.ns.drop k) ps).1 = 0 -> ∃ S', Gk s S' ses s.ns.length (xK S ses (s.ns.drop k) ps).2
 | 0, k, S, ps, hk, h, _ => by
  have e : k = s.ns.length:=by omega
  subst e
  rw [List.drop_length,xK]
  exact ⟨S,h⟩
 | n + 1, k, S, ps, hk, h, h0 => by
  have hlt : k < s.ns.length:=by omega
  have hs:=h.step ht h1 hlt
  rw [clsM_step hlt] at h0 ⊢
  by_cases ho : s.ns[k].o = ses
  ·rw [if_pos ho] at h0 ⊢
   by_cases hg : (xA S.ns s.ns[k].p).2 = 0
   ·rw [if_pos hg] at h0 ⊢
    exact Gk.run ht h1 n (k + 1) (by omega) (hs.2 ho hg) h0
   ·rw [if_neg hg] at h0
    exact absurd h0 hg
  ·rw [if_neg ho] at h0 ⊢
   exact Gk.run ht h1 n (k + 1) (by omega) (hs.1 ho) h0
theorem turnE_err (z : Zn) : turnE z = 0 \/ turnE z = 5 := by
 unfold turnE;split
 ·exact .inr rfl
 ·exact .inl rfl
theorem gonL_err (ns : List Zn) (p : List UInt8) : (xA ns p).2 = 0 \/ (xA ns p).2 = 5 := by
 unfold xA
 split
 ·exact .inl rfl
 ·exact turnE_err _
theorem cls_err (ses : Int) : ∀ (l : List Zn) (S : Sv) (ps : List Pt), (xK S ses l ps).1 = 0 \/ (xK S ses l ps).1 = 5
 | [],_,_=>.inl rfl
 | z :: l, S, ps => by
  rw [xK]
  split
  ·split
   ·exact cls_err ses l _ _
   ·exact gonL_err _ _
  ·exact cls_err ses l _ _
theorem cls_ok (ses : Int) : ∀ (l : List Zn) (S : Sv) (ps : List Pt), okN S.ns -> (∀ z ∈ l, z.p.length <= 9223372036854775807) -> (∀ p ∈ ps, okP p) -> (∀ p ∈ (xK S ses l ps).2, okP p) /\ (xK S ses l ps).2.length <= ps.length + 2 * l.length
 | [],S,ps,_,_,h=>⟨h,by simp [xK]⟩
 | z :: l, S, ps, hn, hl, h => by
  obtain ⟨h1,h2⟩:=gonL_ok hn (hl z List.mem_cons_self)
  have hl' : ∀ z ∈ l,z.p.length <= 9223372036854775807:=fun y hy=>hl y (List.mem_cons_of_mem _ hy)
  rw [xK]
  split
  ·split
   ·have ih := cls_ok ses l (doS S (txP (xA S.ns z.p).1)) (ps ++ (xA S.ns z.p).1) (doS_okN hn h1) hl' (fun p hp => by
     rcases List.mem_append.1 hp with hp | hp
     ·exact h p hp
     ·exact h1 p hp)
    refine ⟨ih.1,?_⟩
    have:=ih.2
    simp only [List.length_append,List.length_cons] at this ⊢
    omega
   ·exact ⟨h,by show ps.length <= _;omega⟩
  ·have ih := cls_ok ses l S ps hn hl' h
   refine ⟨ih.1,?_⟩
   have:=ih.2
   simp only [List.length_cons];omega
structure Ended (s X : Sv) (ses : Int) : Prop where
 r : ris X.ns
 m : X.ns.map ky = (s.ns.filter (ow ses)).map ky
 ss : X.ss = but s.ss ses
theorem ended_of {s : Sv} {ses : Int} (hg : rgtS s = true) (h1 : 1 <= ses) (h0 : (xK s ses s.ns []).1 = 0) (t : Tx) (ht : t.ps = (xK s ses s.ns []).2 ++ [clPt ses]) : Ended s (doS s t) ses := by
 have hR:=rgt_of hg
 obtain ⟨hh,hr,hz,hp⟩:=tre_ris hR.1
 have hG : Gk s s ses 0 []:=⟨hr,by simp,EqA.refl _,rfl⟩
 obtain ⟨S',hS⟩:=Gk.run hR.1 h1 s.ns.length 0 (by omega) hG (by rw [List.drop_zero];exact h0)
 rw [List.drop_zero] at hS
 have e1 : EqA (doS s t) (yU S' (clPt ses)) := by
  refine (EqA.doS s t).trans ?_
  rw [ht,runP_app]
  exact hS.e.symm.step (clPt ses)
 have e2 : yU S' (clPt ses) = { S' with ss:=but S'.ss ses }:=rfl
 rw [e2] at e1
 refine ⟨by rw [e1.ns];exact hS.r,?_,by rw [e1.ss];show but S'.ss ses = _;rw [hS.ss]⟩
 rw [e1.ns]
 have:=hS.m
 rw [List.drop_length,List.append_nil,List.take_length] at this
 exact this
theorem Ended.gone {s X : Sv} {ses : Int} (h : Ended s X ses) (hr : ris s.ns) {z : Zn} (hz : z ∈ s.ns) (ho : z.o = ses) : (fnd X.ns z.p).2 = false := by
 cases hb : (fnd X.ns z.p).2 with
 | false=>rfl
 | true =>
  have h1:=fnd_mem hb
  obtain ⟨z1,hz1,hk⟩:=mem_ky h.m.symm h1.1
  have h2:=List.mem_filter.1 hz1
  have h3:=ky_eq hk
  have h4:=ris_uniq hr h2.1 hz (h3.1.trans h1.2)
  rw [h4] at h2
  have:=h2.2
  simp [ow,ho] at this
theorem Ended.stays {s X : Sv} {ses : Int} (h : Ended s X ses) {z : Zn} (hz : z ∈ s.ns) (ho : ¬ z.o = ses) : ∃ y, fnd X.ns z.p = (y, true) /\ y.d = z.d /\ y.v = z.v /\ y.o = z.o := by
 obtain ⟨y,hy,hk⟩:=mem_ky h.m (List.mem_filter.2 ⟨hz,by simp [ow,ho]⟩)
 have h3:=ky_eq hk
 exact ⟨y,by rw [<- h3.1];exact ris_fnd h.r hy,h3.2.1,h3.2.2.1,h3.2.2.2⟩
theorem Ended.len {s X : Sv} {ses : Int} (h : Ended s X ses) : X.ns.length = (s.ns.filter (ow ses)).length := by
 have:=congrArg List.length h.m
 simpa using this
theorem rsS_up : ∀ (l : List Int) (nx p : Int), rsS nx p l = true -> (∀ x ∈ l, 1 <= x /\ p < x) /\ l.Pairwise (· < ·)
 | [],_,_,_=>⟨by simp,.nil⟩
 | n :: l, nx, p, h => by
  rw [rsS] at h
  simp only [Bool.and_eq_true,decide_eq_true_eq] at h
  obtain ⟨⟨h1,h2,h3⟩,h4⟩:=h
  have ih:=rsS_up l nx n h4
  refine ⟨fun x hx=>?_,List.pairwise_cons.2 ⟨fun x hx=>(ih.1 x hx).2,ih.2⟩⟩
  rcases List.mem_cons.1 hx with rfl | hx
  ·exact ⟨h1,h3⟩
  ·have:=ih.1 x hx;omega
theorem but_len1 {n : Int} : ∀ {l : List Int}, l.Pairwise (· < ·) -> n ∈ l -> (but l n).length + 1 = l.length
 | [],_,h=>by simp at h
 | x :: l, hp, h => by
  have hp':=List.pairwise_cons.1 hp
  by_cases hx : x = n
  ·subst hx
   have : but (x :: l) x = l := by
    unfold but
    rw [List.filter_cons_of_neg (by simp),List.filter_eq_self]
    intro y hy
    have:=hp'.1 y hy
    simp;omega
   rw [this];simp
  ·have hm : n ∈ l := by
    rcases List.mem_cons.1 h with e | h
    ·exact absurd e.symm hx
    ·exact h
   have e : but (x :: l) n = x :: but l n := by
    unfold but;rw [List.filter_cons_of_pos (by simp [hx])]
   rw [e]
   have:=but_len1 hp'.2 hm
   simp only [List.length_cons];omega
theorem but_at {l : List Int} {n : Int} {i : Nat} (h : i < l.length) (hx : ¬ l[i] = n) : ∃ hk : (but (l.take i) n).length < (but l n).length, (but l n)[(but (l.take i) n).length]'hk = l[i] := by
 have e : but l n = but (l.take i) n ++ l[i] :: but (l.drop (i + 1)) n := by
  have hl : l = l.take i ++ l[i] :: l.drop (i + 1):=by rw [<- List.drop_eq_getElem_cons h,List.take_append_drop]
  conv=>lhs;rw [hl]
  unfold but
  rw [List.filter_append,List.filter_cons_of_pos (by simp [hx])]
 refine ⟨by rw [e];simp,?_⟩
 simp [e]
end Go.Proofs.YtedbbcmokbogpaaGreatDoor
