/- Texts that the proof needs: PRE. -/
import Derived.Test.YtedbbcmokbogpaaGreatDoorP47PrepCloses
namespace Go.Proofs.YtedbbcmokbogpaaGreatDoor
set_option linter.unusedSimpArgs false
set_option linter.unusedVariables false
set_option maxRecDepth 8000
open Go Go.Av
attribute [local irreducible] Go.Av.yR Go.Av.zU Go.Av.yM Go.Av.zT Go.Av.yO Go.Av.zV Go.Av.Con
theorem filter_snoc {l : List Zn} {k : Nat} (h : k < l.length) (ses : Int) : ((l.take (k + 1)).filter (ow ses)).length = ((l.take k).filter (ow ses)).length + if l[k].o = ses then 0 else 1 := by
 rw [List.take_succ_eq_append_getElem h,List.filter_append,List.length_append]
 by_cases ho : l[k].o = ses
 ·rw [if_pos ho];simp [List.filter,ow,ho]
 ·rw [if_neg ho];simp [List.filter,ow,ho]
def rpC (ses : Int) : Rp := ⟨3, ses, 0, [], ⟨0, [], []⟩, 0, 0⟩
set_option maxHeartbeats 16000000 in
theorem prepCloses_con (s : Sv) (ses : Int) (hz : ∀ z ∈ s.ns, long z) (hb : Bd9 s rp0) : zF Tryz.prog 7 [.p (.agg s.cells), .p (I ses)] (.p (B true)) := by
 have c1:=far9_con s rp0 hb
 cases hf : farP9 s rp0 with
 | true =>
  rw [hf] at c1
  simp only [rp0,Rp.cells,oqs,mbs,ints,wJ] at c1
  unfold Sv.cells at *
  refine zG Tryz.tab Tryz.mixed Tryz.func7 rfl rfl Tryz.ntmps7 (by simp) (by simp) fun Q hr hn=>?_
  repeat' first|(refine hK _ ?_;clear hK)|(refine hK _ _ ?_;clear hK)|(clear hK;refine hK _ ?_;clear hK)|(clear hK;clear hK;refine hK _ ?_;clear hK)|(clear hK;clear hK;clear hK;refine hK _ ?_;clear hK)|(clear hK;clear hK;clear hK;clear hK;refine hK _ ?_;clear hK)|(refine zJ fun K hK=>?_)|((first | refine zH ?_ | refine zN rfl (by kernel_rfl) ?_ | refine zM ?_ | refine zK (by kernel_rfl) ?_);simp only [wK,wJ,strip])|((first | refine wIs fun K hK=>?_ | refine wOs fun K hK=>?_ | refine wQs fun K hK=>?_ | refine zW ?_ | refine zX ?_ | refine zY ?_ | refine zL ?_);simp)|(refine wIn ?_;refine And.intro (by kernel_rfl) ?_;try simp only [zZ])|(first | refine zQ ?_ | refine zS ?_)|((first | refine zI ?_ | refine zO ?_ | refine zP ?_);try simp)|((first | refine zR ?_ | refine wOn ?_ | refine wQn ?_);try simp only [zZ])|(refine zU.pure (c1) rfl ?_)|(refine zU.lent (c1) rfl ?_)|(refine zT.pure (c1) rfl ?_)|(refine zT.lent (c1) rfl ?_)|(refine zU.own (c1) ?_)|(refine zV.pure (c1) rfl ?_)|(refine zV.lent (c1) rfl ?_)|(refine zV.own (c1) ?_)|(refine zU.pure (yZ) rfl ?_)|(refine zU.lent (yZ) rfl ?_)|(refine zT.pure (yZ) rfl ?_)|(refine zT.lent (yZ) rfl ?_)|(refine zU.own (yZ) ?_)|(refine zV.pure (yZ) rfl ?_)|(refine zV.lent (yZ) rfl ?_)|(refine zV.own (yZ) ?_)
  all_goals apply hr
  all_goals simp [Tryz.f7]
 | false =>
 rw [hf] at c1
 have hfar:=farP9_not hf
 have hm : s.c.ms.length <= 1000000 := by
  have:=hfar.2
  unfold nSum at this;omega
 have c2:=rightP09_con s hz hm
 cases hg : rgtS s with
 | false =>
  rw [hg] at c2
  simp only [rp0,Rp.cells,oqs,mbs,ints,wJ] at c1
  unfold Sv.cells at *
  refine zG Tryz.tab Tryz.mixed Tryz.func7 rfl rfl Tryz.ntmps7 (by simp) (by simp) fun Q hr hn=>?_
  repeat' first|(refine hK _ ?_;clear hK)|(refine hK _ _ ?_;clear hK)|(clear hK;refine hK _ ?_;clear hK)|(clear hK;clear hK;refine hK _ ?_;clear hK)|(clear hK;clear hK;clear hK;refine hK _ ?_;clear hK)|(clear hK;clear hK;clear hK;clear hK;refine hK _ ?_;clear hK)|(refine zJ fun K hK=>?_)|((first | refine zH ?_ | refine zN rfl (by kernel_rfl) ?_ | refine zM ?_ | refine zK (by kernel_rfl) ?_);simp only [wK,wJ,strip])|((first | refine wIs fun K hK=>?_ | refine wOs fun K hK=>?_ | refine wQs fun K hK=>?_ | refine zW ?_ | refine zX ?_ | refine zY ?_ | refine zL ?_);simp)|(refine wIn ?_;refine And.intro (by kernel_rfl) ?_;try simp only [zZ])|(first | refine zQ ?_ | refine zS ?_)|((first | refine zI ?_ | refine zO ?_ | refine zP ?_);try simp)|((first | refine zR ?_ | refine wOn ?_ | refine wQn ?_);try simp only [zZ])|(refine zU.pure (c1) rfl ?_)|(refine zU.lent (c1) rfl ?_)|(refine zT.pure (c1) rfl ?_)|(refine zT.lent (c1) rfl ?_)|(refine zU.own (c1) ?_)|(refine zV.pure (c1) rfl ?_)|(refine zV.lent (c1) rfl ?_)|(refine zV.own (c1) ?_)|(refine zU.pure (c2) rfl ?_)|(refine zU.lent (c2) rfl ?_)|(refine zT.pure (c2) rfl ?_)|(refine zT.lent (c2) rfl ?_)|(refine zU.own (c2) ?_)|(refine zV.pure (c2) rfl ?_)|(refine zV.lent (c2) rfl ?_)|(refine zV.own (c2) ?_)|(refine zU.pure (yZ) rfl ?_)|(refine zU.lent (yZ) rfl ?_)|(refine zT.pure (yZ) rfl ?_)|(refine zT.lent (yZ) rfl ?_)|(refine zU.own (yZ) ?_)|(refine zV.pure (yZ) rfl ?_)|(refine zV.lent (yZ) rfl ?_)|(refine zV.own (yZ) ?_)
  all_goals apply hr
  all_goals simp [Tryz.f7]
 | true =>
 rw [hg] at c2
 have hcC : okC s.c:=by unfold okC;omega
 have hS:=rgt_ok hg hcC
 have hR:=rgt_of hg
 have hT:=tre_len hR.1
 have c3:=make_con s (rpC ses) s.ae s.an hS ⟨by simp [rpC],by simp [rpC]⟩ (fun h=>by simp [rpC] at h)
 simp only [rp0,Rp.cells,oqs,mbs,ints,wJ] at c1
 obtain ⟨T, eT, hcase⟩ : ∃ T : Tx, makT s (rpC ses) s.ae s.an = T /\ ((∃ er : Int, T = ⟨s.ae, s.an, ses, 0, er, 0, [], []⟩ /\ (er = 13 \/ er = 5)) \/ (T = ⟨s.ae, s.an, ses, 0, 0, 0, [], (xK s ses s.ns []).2 ++ [clPt ses]⟩ /\ (xK s ses s.ns []).1 = 0 /\ ses ∈ s.ss)) := by
  refine ⟨_,rfl,?_⟩
  unfold makT rpC
  dsimp only
  rw [if_neg (by decide)]
  by_cases hmm : ses ∈ s.ss
  ·rw [if_neg (fun h => h.2 hmm), if_neg (by decide), if_pos rfl]
   unfold clsT
   by_cases h0 : (xK s ses s.ns []).1 = 0
   ·rw [if_pos h0];exact .inr ⟨rfl,h0,hmm⟩
   ·rw [if_neg h0];exact .inl ⟨_,rfl,.inr ((cls_err ses s.ns s []).resolve_left h0)⟩
  ·rw [if_pos ⟨.inr (.inl rfl),hmm⟩];exact .inl ⟨13,rfl,.inl rfl⟩
 rw [eT] at c3
 clear eT
 simp only [rpC,Rp.cells,oqs,mbs,ints,wJ] at c3
 rcases hcase with ⟨er,rfl,her⟩ | ⟨rfl,h0,hmm⟩
 ·have c4 := apply08_con s ⟨s.ae, s.an, ses, 0, er, 0, [], []⟩ (hS.F.le (by simp)) (by intro p hp; simp at hp)
  generalize doS s ⟨s.ae,s.an,ses,0,er,0,[],[]⟩ = X at c4
  clear hS hR hT hb
  unfold Tx.cells pts at c3 c4
  simp only [wJ] at c3 c4
  unfold Sv.cells at *
  rcases her with rfl | rfl
  all_goals
   refine zG Tryz.tab Tryz.mixed Tryz.func7 rfl rfl Tryz.ntmps7 (by simp) (by simp) fun Q hr hn=>?_
   repeat' first|(refine hK _ ?_;clear hK)|(refine hK _ _ ?_;clear hK)|(clear hK;refine hK _ ?_;clear hK)|(clear hK;clear hK;refine hK _ ?_;clear hK)|(clear hK;clear hK;clear hK;refine hK _ ?_;clear hK)|(clear hK;clear hK;clear hK;clear hK;refine hK _ ?_;clear hK)|(refine zJ fun K hK=>?_)|((first | refine zH ?_ | refine zN rfl (by kernel_rfl) ?_ | refine zM ?_ | refine zK (by kernel_rfl) ?_);simp only [wK,wJ,strip])|((first | refine wIs fun K hK=>?_ | refine wOs fun K hK=>?_ | refine wQs fun K hK=>?_ | refine zW ?_ | refine zX ?_ | refine zY ?_ | refine zL ?_);simp)|(refine wIn ?_;refine And.intro (by kernel_rfl) ?_;try simp only [zZ])|(first | refine zQ ?_ | refine zS ?_)|((first | refine zI ?_ | refine zO ?_ | refine zP ?_);try simp)|((first | refine zR ?_ | refine wOn ?_ | refine wQn ?_);try simp only [zZ])|(refine zU.pure (c1) rfl ?_)|(refine zU.lent (c1) rfl ?_)|(refine zT.pure (c1) rfl ?_)|(refine zT.lent (c1) rfl ?_)|(refine zU.own (c1) ?_)|(refine zV.pure (c1) rfl ?_)|(refine zV.lent (c1) rfl ?_)|(refine zV.own (c1) ?_)|(refine zU.pure (c2) rfl ?_)|(refine zU.lent (c2) rfl ?_)|(refine zT.pure (c2) rfl ?_)|(refine zT.lent (c2) rfl ?_)|(refine zU.own (c2) ?_)|(refine zV.pure (c2) rfl ?_)|(refine zV.lent (c2) rfl ?_)|(refine zV.own (c2) ?_)|(refine zU.pure (c3) rfl ?_)|(refine zU.lent (c3) rfl ?_)|(refine zT.pure (c3) rfl ?_)|(refine zT.lent (c3) rfl ?_)|(refine zU.own (c3) ?_)|(refine zV.pure (c3) rfl ?_)|(refine zV.lent (c3) rfl ?_)|(refine zV.own (c3) ?_)|(refine zU.pure (c4) rfl ?_)|(refine zU.lent (c4) rfl ?_)|(refine zT.pure (c4) rfl ?_)|(refine zT.lent (c4) rfl ?_)|(refine zU.own (c4) ?_)|(refine zV.pure (c4) rfl ?_)|(refine zV.lent (c4) rfl ?_)|(refine zV.own (c4) ?_)|(refine zU.pure (yZ) rfl ?_)|(refine zU.lent (yZ) rfl ?_)|(refine zT.pure (yZ) rfl ?_)|(refine zT.lent (yZ) rfl ?_)|(refine zU.own (yZ) ?_)|(refine zV.pure (yZ) rfl ?_)|(refine zV.lent (yZ) rfl ?_)|(refine zV.own (yZ) ?_)
   all_goals apply hr
   all_goals simp [Tryz.f7]
 have hcl:=cls_ok ses s.ns s [] hS.N (fun z h=>(hS.N z h).2.2.1) (by simp)
 have c4 := apply08_con s ⟨s.ae, s.an, ses, 0, 0, 0, [], (xK s ses s.ns []).2 ++ [clPt ses]⟩ (hS.F.le (by show ((xK s ses s.ns []).2 ++ [clPt ses]).length <= _; have := hcl.2; simp at this ⊢; omega)) (okP_T fun p hp => by
  rcases List.mem_append.1 hp with hp | hp
  ·exact hcl.1 p hp
  ·simp at hp;subst hp;exact ⟨zz_ok.1,zz_ok.2.1,zz_ok.2.2,rfl⟩)
 have hup:=rsS_up s.ss s.nx 0 hR.2.2.2.2.2
 have hE:=ended_of hg (hup.1 ses hmm).1 h0 ⟨s.ae,s.an,ses,0,0,0,[],(xK s ses s.ns []).2 ++ [clPt ses]⟩ rfl
 generalize doS s ⟨s.ae,s.an,ses,0,0,0,[],(xK s ses s.ns []).2 ++ [clPt ses]⟩ = X at c4 hE
 generalize (xK s ses s.ns []).2 ++ [clPt ses] = tps at c3 c4
 have hris:=(tre_ris hR.1).2.1
 have hb1:=but_len1 hup.2 hmm
 have hXl:=hE.len
 have hXs:=hE.ss
 have hss:=hR.2.2.2.2.1
 clear hS hb hcl h0 hup hR hmm
 unfold Tx.cells at c3 c4
 dsimp only at c3 c4
 unfold Sv.cells at *
 refine zG Tryz.tab Tryz.mixed Tryz.func7 rfl rfl Tryz.ntmps7 (by simp) (by simp) fun Q hr hn=>?_
 repeat' first|(refine hK _ ?_;clear hK)|(refine hK _ _ ?_;clear hK)|(clear hK;refine hK _ ?_;clear hK)|(clear hK;clear hK;refine hK _ ?_;clear hK)|(clear hK;clear hK;clear hK;refine hK _ ?_;clear hK)|(clear hK;clear hK;clear hK;clear hK;refine hK _ ?_;clear hK)|(refine zJ fun K hK=>?_)|((first | refine zH ?_ | refine zN rfl (by kernel_rfl) ?_ | refine zM ?_ | refine zK (by kernel_rfl) ?_);simp only [wK,wJ,strip])|((first | refine wIs fun K hK=>?_ | refine wOs fun K hK=>?_ | refine wQs fun K hK=>?_ | refine zW ?_ | refine zX ?_ | refine zY ?_ | refine zL ?_);simp)|(refine wIn ?_;refine And.intro (by kernel_rfl) ?_;try simp only [zZ])|(first | refine zQ ?_ | refine zS ?_)|((first | refine zI ?_ | refine zO ?_ | refine zP ?_);try simp)|((first | refine zR ?_ | refine wOn ?_ | refine wQn ?_);try simp only [zZ])|(refine zU.pure (c1) rfl ?_)|(refine zU.lent (c1) rfl ?_)|(refine zT.pure (c1) rfl ?_)|(refine zT.lent (c1) rfl ?_)|(refine zU.own (c1) ?_)|(refine zV.pure (c1) rfl ?_)|(refine zV.lent (c1) rfl ?_)|(refine zV.own (c1) ?_)|(refine zU.pure (c2) rfl ?_)|(refine zU.lent (c2) rfl ?_)|(refine zT.pure (c2) rfl ?_)|(refine zT.lent (c2) rfl ?_)|(refine zU.own (c2) ?_)|(refine zV.pure (c2) rfl ?_)|(refine zV.lent (c2) rfl ?_)|(refine zV.own (c2) ?_)|(refine zU.pure (c3) rfl ?_)|(refine zU.lent (c3) rfl ?_)|(refine zT.pure (c3) rfl ?_)|(refine zT.lent (c3) rfl ?_)|(refine zU.own (c3) ?_)|(refine zV.pure (c3) rfl ?_)|(refine zV.lent (c3) rfl ?_)|(refine zV.own (c3) ?_)|(refine zU.pure (c4) rfl ?_)|(refine zU.lent (c4) rfl ?_)|(refine zT.pure (c4) rfl ?_)|(refine zT.lent (c4) rfl ?_)|(refine zU.own (c4) ?_)|(refine zV.pure (c4) rfl ?_)|(refine zV.lent (c4) rfl ?_)|(refine zV.own (c4) ?_)
 refine yA (fun N st => ∃ (k n : Nat), k + N = s.ns.length /\ n = ((s.ns.take k).filter (ow ses)).length /\ st.s 1 = .p (I ses) ∧
  st.s 2 = .ptr 2 0 /\ st.b 2 = some (.box 30 [.p (.sl 5 (zns s.ns)),.p (.sl 1 (ints s.ss)),.p (I s.nx),.p (I s.c.ep),.p (I s.c.n),.p (I s.c.kind),.p (.sl 4 (mbs s.c.ms)),.p (I s.ae),.p (I s.an)]) ∧
  st.s 6 = .ptr 6 0 /\ st.b 6 = some (.box 30 [.p (.sl 5 (zns X.ns)),.p (.sl 1 (ints X.ss)),.p (I X.nx),.p (I X.c.ep),.p (I X.c.n),.p (I X.c.kind),.p (.sl 4 (mbs X.c.ms)),.p (I X.ae),.p (I X.an)]) ∧
  st.s 7 = .p (I n) /\ st.s 48 = .p (.sl 5 (zns s.ns)) /\ st.s 49 = .p (I s.ns.length) /\ st.s 50 = .p (I k)) s.ns.length ⟨0,0,by simp,by simp,by simp⟩ fun K N st hL ⟨k,n,hk,hn1,g1,g2,b2,g6,b6,g7,g48,g49,g50⟩=>?_
 clear c1 c2 c3 c4
 by_cases hlt : k < s.ns.length
 ·have hlt' : (k : Int) < s.ns.length := by omega
  have hw:=yB k _ hlt (by omega)
  have he:=xP hlt
  have hmem:=List.getElem_mem hlt
  have c5:=find07_con X.ns s.ns[k].p
  have hfs:=filter_snoc hlt ses
  have hcell:=Option.some.inj ((List.getElem?_eq_getElem (by simpa using hlt : k < (zns s.ns).length)).symm.trans he)
  have hnle : n <= k:=by rw [hn1];exact Nat.le_trans (List.length_filter_le _ _) (by simp;omega)
  by_cases ho : s.ns[k].o = ses
  ·have hgo := hE.gone hris hmem ho
   rw [fnd_false hgo] at c5
   rw [if_pos ho,<- hn1] at hfs
   have ho' : (s.ns[k].o = ses) = True:=eq_true ho
   generalize s.ns[k] = z at he hcell c5 ho'
   obtain ⟨zp,zd,zv,zk,zo⟩:=z
   unfold zz Zn.c at c5
   dsimp only at he hcell c5 ho'
   repeat' first|(refine hK _ ?_;clear hK)|(refine hK _ _ ?_;clear hK)|(clear hK;refine hK _ ?_;clear hK)|(clear hK;clear hK;refine hK _ ?_;clear hK)|(clear hK;clear hK;clear hK;refine hK _ ?_;clear hK)|(clear hK;clear hK;clear hK;clear hK;refine hK _ ?_;clear hK)|(refine zJ fun K hK=>?_)|((first | refine zH ?_ | refine zN rfl (by kernel_rfl) ?_ | refine zM ?_ | refine zK (by kernel_rfl) ?_);simp only [wK,wJ,strip])|((first | refine wIs fun K hK=>?_ | refine wOs fun K hK=>?_ | refine wQs fun K hK=>?_ | refine zW ?_ | refine zX ?_ | refine zY ?_ | refine zL ?_);simp [g1,g2,b2,g6,b6,g7,g48,g49,g50,hlt,hlt',hw,he,hcell,ho'])|(refine wIn ?_;refine And.intro (by kernel_rfl) ?_;try simp only [zZ])|(first | refine zQ ?_ | refine zS ?_)|((first | refine zI ?_ | refine zO ?_ | refine zP ?_);try simp)|((first | refine zR ?_ | refine wOn ?_ | refine wQn ?_);try simp only [zZ])|(refine zU.pure (c5) rfl ?_)|(refine zU.lent (c5) rfl ?_)|(refine zT.pure (c5) rfl ?_)|(refine zT.lent (c5) rfl ?_)|(refine zU.own (c5) ?_)|(refine zV.pure (c5) rfl ?_)|(refine zV.lent (c5) rfl ?_)|(refine zV.own (c5) ?_)
   all_goals refine hL _ (N - 1) (by omega) ⟨k + 1,n,by omega,by omega,?_⟩
   all_goals simp [g1,g2,b2,g6,b6,g7,g48,g49,g50,hw]
  ·obtain ⟨y, hy, y1, y2, y3⟩ := hE.stays hmem ho
   rw [hy] at c5
   rw [if_neg ho,<- hn1] at hfs
   have ho' : (s.ns[k].o = ses) = False:=eq_false ho
   have hwn:=yB n _ (show n < s.ns.length by omega) (by omega)
   generalize s.ns[k] = z at he hcell c5 ho' y1 y2 y3
   obtain ⟨zp,zd,zv,zk,zo⟩:=z
   obtain ⟨yp,yd,yv,yk,yo⟩:=y
   dsimp only at y1 y2 y3
   subst y1 y2 y3
   unfold Zn.c at c5
   dsimp only at he hcell c5 ho'
   repeat' first|(refine hK _ ?_;clear hK)|(refine hK _ _ ?_;clear hK)|(clear hK;refine hK _ ?_;clear hK)|(clear hK;clear hK;refine hK _ ?_;clear hK)|(clear hK;clear hK;clear hK;refine hK _ ?_;clear hK)|(clear hK;clear hK;clear hK;clear hK;refine hK _ ?_;clear hK)|(refine zJ fun K hK=>?_)|((first | refine zH ?_ | refine zN rfl (by kernel_rfl) ?_ | refine zM ?_ | refine zK (by kernel_rfl) ?_);simp only [wK,wJ,strip])|((first | refine wIs fun K hK=>?_ | refine wOs fun K hK=>?_ | refine wQs fun K hK=>?_ | refine zW ?_ | refine zX ?_ | refine zY ?_ | refine zL ?_);simp [g1,g2,b2,g6,b6,g7,g48,g49,g50,hlt,hlt',hw,he,hcell,ho',hwn])|(refine wIn ?_;refine And.intro (by kernel_rfl) ?_;try simp only [zZ])|(first | refine zQ ?_ | refine zS ?_)|((first | refine zI ?_ | refine zO ?_ | refine zP ?_);try simp)|((first | refine zR ?_ | refine wOn ?_ | refine wQn ?_);try simp only [zZ])|(refine zU.pure (c5) rfl ?_)|(refine zU.lent (c5) rfl ?_)|(refine zT.pure (c5) rfl ?_)|(refine zT.lent (c5) rfl ?_)|(refine zU.own (c5) ?_)|(refine zV.pure (c5) rfl ?_)|(refine zV.lent (c5) rfl ?_)|(refine zV.own (c5) ?_)
   all_goals refine hL _ (N - 1) (by omega) ⟨k + 1,n + 1,by omega,by omega,?_⟩
   all_goals simp [g1,g2,b2,g6,b6,g7,g48,g49,g50,hw,hwn]
 have hlt' : ¬ (k : Int) < s.ns.length:=by omega
 rw [List.take_of_length_le (by omega),<- hXl] at hn1
 subst hn1
 clear hL
 repeat' first|(refine hK _ ?_;clear hK)|(refine hK _ _ ?_;clear hK)|(clear hK;refine hK _ ?_;clear hK)|(clear hK;clear hK;refine hK _ ?_;clear hK)|(clear hK;clear hK;clear hK;refine hK _ ?_;clear hK)|(clear hK;clear hK;clear hK;clear hK;refine hK _ ?_;clear hK)|(refine zJ fun K hK=>?_)|((first | refine zH ?_ | refine zN rfl (by kernel_rfl) ?_ | refine zM ?_ | refine zK (by kernel_rfl) ?_);simp only [wK,wJ,strip])|((first | refine wIs fun K hK=>?_ | refine wOs fun K hK=>?_ | refine wQs fun K hK=>?_ | refine zW ?_ | refine zX ?_ | refine zY ?_ | refine zL ?_);simp [g1,g2,b2,g6,b6,g7,g48,g49,g50,hlt,hlt'])|(refine wIn ?_;refine And.intro (by kernel_rfl) ?_;try simp only [zZ])|(first | refine zQ ?_ | refine zS ?_)|((first | refine zI ?_ | refine zO ?_ | refine zP ?_);try simp)|((first | refine zR ?_ | refine wOn ?_ | refine wQn ?_);try simp only [zZ])
 refine yA (fun N st => ∃ (i m : Nat), i + N = s.ss.length /\ m = (but (s.ss.take i) ses).length /\ st.s 1 = .p (I ses) ∧
  st.s 2 = .ptr 2 0 /\ st.b 2 = some (.box 30 [.p (.sl 5 (zns s.ns)),.p (.sl 1 (ints s.ss)),.p (I s.nx),.p (I s.c.ep),.p (I s.c.n),.p (I s.c.kind),.p (.sl 4 (mbs s.c.ms)),.p (I s.ae),.p (I s.an)]) ∧
  st.s 6 = .ptr 6 0 /\ st.b 6 = some (.box 30 [.p (.sl 5 (zns X.ns)),.p (.sl 1 (ints X.ss)),.p (I X.nx),.p (I X.c.ep),.p (I X.c.n),.p (I X.c.kind),.p (.sl 4 (mbs X.c.ms)),.p (I X.ae),.p (I X.an)]) ∧
  st.s 7 = .p (I X.ns.length) /\ st.s 12 = .p (I m) /\ st.s 97 = .p (.sl 1 (ints s.ss)) /\ st.s 98 = .p (I s.ss.length) /\ st.s 99 = .p (I i)) s.ss.length ⟨0,0,by simp,by simp [but],by simp [g1,g2,b2,g6,b6,g7]⟩ fun K N st hL ⟨i,m,hi,hm1,g1,g2,b2,g6,b6,g7,g12,g97,g98,g99⟩=>?_
 by_cases hit : i < s.ss.length
 ·have hit' : (i : Int) < s.ss.length := by omega
  have hwi:=yB i _ hit (by omega)
  have hei:=ints_get hit
  have hbs:=but_snoc hit ses
  by_cases hx : s.ss[i] = ses
  ·rw [if_pos hx] at hbs
   have hx' : (s.ss[i] = ses) = True:=eq_true hx
   have hb2 : m = (but (s.ss.take (i + 1)) ses).length:=by rw [hbs];exact hm1
   generalize hQ : s.ss[i] = v at *
   repeat' first|(refine hK _ ?_;clear hK)|(refine hK _ _ ?_;clear hK)|(clear hK;refine hK _ ?_;clear hK)|(clear hK;clear hK;refine hK _ ?_;clear hK)|(clear hK;clear hK;clear hK;refine hK _ ?_;clear hK)|(clear hK;clear hK;clear hK;clear hK;refine hK _ ?_;clear hK)|(refine zJ fun K hK=>?_)|((first | refine zH ?_ | refine zN rfl (by kernel_rfl) ?_ | refine zM ?_ | refine zK (by kernel_rfl) ?_);simp only [wK,wJ,strip])|((first | refine wIs fun K hK=>?_ | refine wOs fun K hK=>?_ | refine wQs fun K hK=>?_ | refine zW ?_ | refine zX ?_ | refine zY ?_ | refine zL ?_);simp [g1,g2,b2,g6,b6,g7,g12,g97,g98,g99,hit,hit',hwi,hei,hx',hQ])|(refine wIn ?_;refine And.intro (by kernel_rfl) ?_;try simp only [zZ])|(first | refine zQ ?_ | refine zS ?_)|((first | refine zI ?_ | refine zO ?_ | refine zP ?_);try simp)|((first | refine zR ?_ | refine wOn ?_ | refine wQn ?_);try simp only [zZ])
   all_goals refine hL _ (N - 1) (by omega) ⟨i + 1,m,by omega,hb2,?_⟩
   all_goals simp [g1,g2,b2,g6,b6,g7,g12,g97,g98,g99,hwi]
  ·obtain ⟨hkl, hka⟩ := but_at hit hx
   rw [if_neg hx] at hbs
   have hx' : (s.ss[i] = ses) = False:=eq_false hx
   have hb2 : m + 1 = (but (s.ss.take (i + 1)) ses).length:=by rw [hbs,List.length_append,<- hm1];rfl
   have hea0 : (but s.ss ses)[m]? = some s.ss[i]:=by subst hm1;rw [List.getElem?_eq_getElem hkl,hka]
   clear hka
   rw [<- hXs] at hkl hea0
   have hml : m < X.ss.length:=by rw [hm1];exact hkl
   have hml' : ¬ (X.ss.length : Int) <= m:=by omega
   have hml2 : ¬ X.ss.length <= m:=by omega
   have hea:=ints_get hml
   have heq : X.ss[m] = s.ss[i]:=by rw [List.getElem?_eq_getElem hml] at hea0;exact Option.some.inj hea0
   clear hea0
   rw [heq] at hea
   have hwm:=yB m _ hml (by rw [hXs];omega)
   generalize hQ : s.ss[i] = v at *
   generalize hQ2 : X.ss[m] = v2 at *
   subst heq
   repeat' first|(refine hK _ ?_;clear hK)|(refine hK _ _ ?_;clear hK)|(clear hK;refine hK _ ?_;clear hK)|(clear hK;clear hK;refine hK _ ?_;clear hK)|(clear hK;clear hK;clear hK;refine hK _ ?_;clear hK)|(clear hK;clear hK;clear hK;clear hK;refine hK _ ?_;clear hK)|(refine zJ fun K hK=>?_)|((first | refine zH ?_ | refine zN rfl (by kernel_rfl) ?_ | refine zM ?_ | refine zK (by kernel_rfl) ?_);simp only [wK,wJ,strip])|((first | refine wIs fun K hK=>?_ | refine wOs fun K hK=>?_ | refine wQs fun K hK=>?_ | refine zW ?_ | refine zX ?_ | refine zY ?_ | refine zL ?_);simp [g1,g2,b2,g6,b6,g7,g12,g97,g98,g99,hit,hit',hwi,hei,hx',hQ,hml,hml',hml2,hea,hwm,hQ2])|(refine wIn ?_;refine And.intro (by kernel_rfl) ?_;try simp only [zZ])|(first | refine zQ ?_ | refine zS ?_)|((first | refine zI ?_ | refine zO ?_ | refine zP ?_);try simp)|((first | refine zR ?_ | refine wOn ?_ | refine wQn ?_);try simp only [zZ])
   all_goals refine hL _ (N - 1) (by omega) ⟨i + 1,m + 1,by omega,hb2,?_⟩
   all_goals simp [g1,g2,b2,g6,b6,g7,g12,g97,g98,g99,hwi,hwm]
 ·have hit' : ¬ (i : Int) < s.ss.length := by omega
  rw [List.take_of_length_le (by omega),<- hXs] at hm1
  subst hm1
  have hlen : (X.ss.length : Int) + 1 = s.ss.length:=by rw [hXs];omega
  have hwl : IntKind.i64.wrap ((X.ss.length : Int) + 1) = (s.ss.length : Int):=by rw [hlen,yY] <;> omega
  repeat' first|(refine hK _ ?_;clear hK)|(refine hK _ _ ?_;clear hK)|(clear hK;refine hK _ ?_;clear hK)|(clear hK;clear hK;refine hK _ ?_;clear hK)|(clear hK;clear hK;clear hK;refine hK _ ?_;clear hK)|(clear hK;clear hK;clear hK;clear hK;refine hK _ ?_;clear hK)|(refine zJ fun K hK=>?_)|((first | refine zH ?_ | refine zN rfl (by kernel_rfl) ?_ | refine zM ?_ | refine zK (by kernel_rfl) ?_);simp only [wK,wJ,strip])|((first | refine wIs fun K hK=>?_ | refine wOs fun K hK=>?_ | refine wQs fun K hK=>?_ | refine zW ?_ | refine zX ?_ | refine zY ?_ | refine zL ?_);simp [g1,g2,b2,g6,b6,g7,g12,g97,g98,g99,hit,hit',hwl])|(refine wIn ?_;refine And.intro (by kernel_rfl) ?_;try simp only [zZ])|(first | refine zQ ?_ | refine zS ?_)|((first | refine zI ?_ | refine zO ?_ | refine zP ?_);try simp)|((first | refine zR ?_ | refine wOn ?_ | refine wQn ?_);try simp only [zZ])|(refine zU.pure (yZ) rfl ?_)|(refine zU.lent (yZ) rfl ?_)|(refine zT.pure (yZ) rfl ?_)|(refine zT.lent (yZ) rfl ?_)|(refine zU.own (yZ) ?_)|(refine zV.pure (yZ) rfl ?_)|(refine zV.lent (yZ) rfl ?_)|(refine zV.own (yZ) ?_)
  all_goals apply hr
  all_goals simp [Tryz.f7]
end Go.Proofs.YtedbbcmokbogpaaGreatDoor
