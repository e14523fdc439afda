/- Texts that the proof needs: LD12r1. -/
import Derived.Test.YtffflakmofbilaaGreatP39LeadOrder
namespace Go.Proofs.YtffflakmofbilaaGreat
set_option linter.unusedSimpArgs false
set_option linter.unusedVariables false
set_option maxRecDepth 8000
open Go Go.Av
attribute [local irreducible] Go.Av.yA Go.Av.zR Go.Av.xZ Go.Av.zJ Go.Av.xV Go.Av.zG Go.Av.Con
def tkI (p : Lq) (W : Int) (L : List Lr) (k : Nat) (st : St) : Prop := st.s 5 = .ptr 500 0 /\ (st.s 6 = .full 1 (ints (tkN p.id (L.take k))) \/ (st.s 6 = .row 97 /\ st.b 97 = some (.row 3 1 (ints (tkN p.id (L.take k)))))) /\ st.s 42 = .p (I L.length) /\ st.s 43 = .p (I k) /\ (∃ z, st.b 2 = some (.box 47 z) /\ z.length = 38) /\ st.s 2 = .ptr 2 0 /\ st.b 500 = some (.box 101 (yE { p with wt := W } (.row 502) (.row 501) false)) /\ st.b 501 = some (.row 65 46 (zD (tkM p (L.take k)))) /\ st.b 502 = some (.row 70 8 (lrs (tkK L k)))
set_option maxHeartbeats 32000000 in
theorem tickL_con (p : Lq) (W : Int) (L : List Lr) (hl2 : L.length <= 10000) {Q : AExit -> St -> Prop} {st0 : St} (h0 : tkI p W L 0 st0) (hend : ∀ st, tkI p W L L.length st -> Q (.exit 0) st) : WC Tryz.prog Tryz.T 130 (lp Tryz.f37 0) Q st0 := by
 refine yJ (fun N st=>∃ k,k + N = L.length /\ tkI p W L k st) L.length ⟨0,by omega,h0⟩ fun K N st hL ⟨k,hkN,g5,hn6,g42,g43,hz,g2,b0,b1,b2⟩=>?_
 obtain ⟨z,bz,hzl⟩:=hz
 by_cases hlt : k < L.length
 ·have hw := yF k _ hlt (by omega)
  have hk1:=tkK_len L k
  have hlt2 : k < (tkK L k).length:=by omega
  have hg : ∀ h',(tkK L k)[k]'h' = L[k]:=fun h'=>tkK_get hlt h'
  have hlt3 : k < (tkK L (k + 1)).length:=by rw [tkK_len];exact hlt
  have hg2 : (lrs (tkK L (k + 1)))[k]? = some [I L[k].id,I L[k].ph,I L[k].ac,I L[k].cu,.sl 2 (zxs L[k].ms),I L[k].ae,I L[k].an,I (IntKind.i64.wrap (L[k].q + 1))]:=by rw [xQ hlt3,tkK_got hlt hlt3];rfl
  have he:=xQ hlt
  have hst:=tkK_eq hlt
  have hM:=tkM_snoc p hlt
  have hN:=tkN_snoc p.id hlt
  have hml:=tkM_len p (L.take k)
  have hnl:=tkN_len p.id (L.take k)
  rw [List.length_take] at hml hnl
  have cS:=fun q=>sendX_con { p with wt:=W } q false (tkM p (L.take k)) L[k].id (mgK 12) (by omega)
  simp only [show ∀ x : Lr,yH { p with wt:=W } x.id (mgK 12) = yH p x.id (mgK 12) from fun _=>rfl] at cS
  have hsn:=ints_sn (tkN p.id (L.take k)) L[k].id
  rcases hn6 with n6 | ⟨n6,n97⟩
  ·by_cases o3 : L[k].ph = 3
   ·have t1 : tkB L[k] = true := decide_eq_true (.inl o3)
    have t2 : ¬ tkA L[k] = true:=fun h=>by have:=(of_decide_eq_true h).1;omega
    rw [if_pos t1] at hM;rw [if_neg t2] at hN
    have o4 : (L[k].ph = 4) = False:=eq_false (by omega)
    replace o3 : (L[k].ph = 3) = True:=eq_true o3
    rw [<- hM] at cS
    generalize hO2 : zD (tkM p (L.take (k + 1))) = O2 at *
    unfold mgK mgZ Mg.cells at cS
    dsimp only at cS
    simp only [show zns [] = [] from rfl,show ints [] = [] from rfl,show mbs [] = [] from rfl,show yW [] = [] from rfl,show zxs [] = [] from rfl,show pts [] = [] from rfl] at cS
    repeat' first|(refine CallK_stay 502 [500,501] (β3:=[.box 101 (yE ({ p with wt:=W }) (.row 2047) (.row 1025) false),.row 65 46 O2]) (fun x _=>cS (.v x)) (by decide) (by decide) (by decide) rfl (fun x=>by simp [zQ,stX,inN,pos,zO,zX,subB,xM,b0,b1]) (by simp [zN,zH,zX,inN,pos]) rfl ?_;simp [lvX,kpI,kpR,pos,ren,zX])|(refine hK _ ?_;clear hK)|(refine zT fun K hK=>?_)|(refine zS ?_;simp only [tZ,tY,strip])|((first | refine wOs fun K hK=>?_ | refine zW ?_);simp [g5,g42,g43,b0,b2,hlt,hw,hk1,hg,hg2,hst,o3,o4])|(first | refine zU ?_)|(refine zP ?_;try simp)|(refine wOn ?_;try simp only [zZ])
    refine hL _ (N - 1) (by omega) ⟨k + 1,by omega,?_⟩
    simp [tkI,g2,g5,g42,bz,hzl,hO2,hN,n6,reXB,reX,ouN,zX,zO]
   replace o3' : (L[k].ph = 3) = False:=eq_false o3
   by_cases o4 : L[k].ph = 4
   ·have t1 : tkB L[k] = true := decide_eq_true (.inr o4)
    rw [if_pos t1] at hM
    rw [<- hM] at cS
    by_cases o5 : IntKind.i64.wrap (L[k].q + 1) <= 8
    ·have t2 : tkA L[k] = true := decide_eq_true ⟨o4, o5⟩
     rw [if_pos t2] at hN
     replace o4 : (L[k].ph = 4) = True:=eq_true o4
     generalize hO2 : zD (tkM p (L.take (k + 1))) = O2 at *
     unfold mgK mgZ Mg.cells at cS
     dsimp only at cS
     simp only [show zns [] = [] from rfl,show ints [] = [] from rfl,show mbs [] = [] from rfl,show yW [] = [] from rfl,show zxs [] = [] from rfl,show pts [] = [] from rfl] at cS
     repeat' first|(refine CallK_stay 502 [500,501] (β3:=[.box 101 (yE ({ p with wt:=W }) (.row 2047) (.row 1025) false),.row 65 46 O2]) (fun x _=>cS (.v x)) (by decide) (by decide) (by decide) rfl (fun x=>by simp [zQ,stX,inN,pos,zO,zX,subB,xM,b0,b1]) (by simp [zN,zH,zX,inN,pos]) rfl ?_;simp [lvX,kpI,kpR,pos,ren,zX])|(refine And.intro (by (try simp);omega) ?_)|(refine Or.inl ?_)|(refine hK _ ?_;clear hK)|(refine zT fun K hK=>?_)|(refine zS ?_;simp only [tZ,tY,strip])|((first | refine wOs fun K hK=>?_ | refine zW ?_);simp [g5,g42,g43,b0,b2,n6,hlt,hw,hk1,hg,hg2,hst,o3',o4,o5,hsn])|(first | refine zU ?_)|(refine zP ?_;try simp)|(refine wOn ?_;try simp only [zZ])
     refine hL _ (N - 1) (by omega) ⟨k + 1,by omega,?_⟩
     simp [tkI,g2,g5,g42,bz,hzl,hO2,hN,reXB,reX,ouN,zX,zO]
    ·have t2 : ¬ tkA L[k] = true := fun h => o5 (of_decide_eq_true h).2
     rw [if_neg t2] at hN
     replace o4 : (L[k].ph = 4) = True:=eq_true o4
     generalize hO2 : zD (tkM p (L.take (k + 1))) = O2 at *
     unfold mgK mgZ Mg.cells at cS
     dsimp only at cS
     simp only [show zns [] = [] from rfl,show ints [] = [] from rfl,show mbs [] = [] from rfl,show yW [] = [] from rfl,show zxs [] = [] from rfl,show pts [] = [] from rfl] at cS
     repeat' first|(refine CallK_stay 502 [500,501] (β3:=[.box 101 (yE ({ p with wt:=W }) (.row 2047) (.row 1025) false),.row 65 46 O2]) (fun x _=>cS (.v x)) (by decide) (by decide) (by decide) rfl (fun x=>by simp [zQ,stX,inN,pos,zO,zX,subB,xM,b0,b1]) (by simp [zN,zH,zX,inN,pos]) rfl ?_;simp [lvX,kpI,kpR,pos,ren,zX])|(refine hK _ ?_;clear hK)|(refine zT fun K hK=>?_)|(refine zS ?_;simp only [tZ,tY,strip])|((first | refine wOs fun K hK=>?_ | refine zW ?_);simp [g5,g42,g43,b0,b2,hlt,hw,hk1,hg,hg2,hst,o3',o4,o5])|(first | refine zU ?_)|(refine zP ?_;try simp)|(refine wOn ?_;try simp only [zZ])
     refine hL _ (N - 1) (by omega) ⟨k + 1,by omega,?_⟩
     simp [tkI,g2,g5,g42,bz,hzl,hO2,hN,n6,reXB,reX,ouN,zX,zO]
   ·have t1 : ¬ tkB L[k] = true := fun h => (of_decide_eq_true h).elim o3 o4
    have t2 : ¬ tkA L[k] = true:=fun h=>o4 (of_decide_eq_true h).1
    rw [if_neg t1] at hM;rw [if_neg t2] at hN
    replace o4 : (L[k].ph = 4) = False:=eq_false o4
    clear cS
    repeat' first|(refine hK _ ?_;clear hK)|(refine zT fun K hK=>?_)|(refine zS ?_;simp only [tZ,tY,strip])|((first | refine wOs fun K hK=>?_ | refine zW ?_);simp [g5,g42,g43,b0,b2,hlt,hw,hk1,hg,hg2,hst,o3',o4])|(first | refine zU ?_)|(refine zP ?_;try simp)|(refine wOn ?_;try simp only [zZ])
    refine hL _ (N - 1) (by omega) ⟨k + 1,by omega,?_⟩
    simp [tkI,g2,g5,g42,b0,b1,bz,hzl,hM,hN,n6]
  ·by_cases o3 : L[k].ph = 3
   ·have t1 : tkB L[k] = true := decide_eq_true (.inl o3)
    have t2 : ¬ tkA L[k] = true:=fun h=>by have:=(of_decide_eq_true h).1;omega
    rw [if_pos t1] at hM;rw [if_neg t2] at hN
    have o4 : (L[k].ph = 4) = False:=eq_false (by omega)
    replace o3 : (L[k].ph = 3) = True:=eq_true o3
    rw [<- hM] at cS
    generalize hO2 : zD (tkM p (L.take (k + 1))) = O2 at *
    unfold mgK mgZ Mg.cells at cS
    dsimp only at cS
    simp only [show zns [] = [] from rfl,show ints [] = [] from rfl,show mbs [] = [] from rfl,show yW [] = [] from rfl,show zxs [] = [] from rfl,show pts [] = [] from rfl] at cS
    repeat' first|(refine CallK_stay 502 [500,501] (β3:=[.box 101 (yE ({ p with wt:=W }) (.row 2047) (.row 1025) false),.row 65 46 O2]) (fun x _=>cS (.v x)) (by decide) (by decide) (by decide) rfl (fun x=>by simp [zQ,stX,inN,pos,zO,zX,subB,xM,b0,b1]) (by simp [zN,zH,zX,inN,pos]) rfl ?_;simp [lvX,kpI,kpR,pos,ren,zX])|(refine hK _ ?_;clear hK)|(refine zT fun K hK=>?_)|(refine zS ?_;simp only [tZ,tY,strip])|((first | refine wOs fun K hK=>?_ | refine zW ?_);simp [g5,g42,g43,b0,b2,hlt,hw,hk1,hg,hg2,hst,o3,o4])|(first | refine zU ?_)|(refine zP ?_;try simp)|(refine wOn ?_;try simp only [zZ])
    refine hL _ (N - 1) (by omega) ⟨k + 1,by omega,?_⟩
    simp [tkI,g2,g5,g42,bz,hzl,hO2,hN,n6,n97,reXB,reX,ouN,zX,zO]
   replace o3' : (L[k].ph = 3) = False:=eq_false o3
   by_cases o4 : L[k].ph = 4
   ·have t1 : tkB L[k] = true := decide_eq_true (.inr o4)
    rw [if_pos t1] at hM
    rw [<- hM] at cS
    by_cases o5 : IntKind.i64.wrap (L[k].q + 1) <= 8
    ·have t2 : tkA L[k] = true := decide_eq_true ⟨o4, o5⟩
     rw [if_pos t2] at hN
     replace o4 : (L[k].ph = 4) = True:=eq_true o4
     generalize hO2 : zD (tkM p (L.take (k + 1))) = O2 at *
     unfold mgK mgZ Mg.cells at cS
     dsimp only at cS
     simp only [show zns [] = [] from rfl,show ints [] = [] from rfl,show mbs [] = [] from rfl,show yW [] = [] from rfl,show zxs [] = [] from rfl,show pts [] = [] from rfl] at cS
     repeat' first|(refine CallK_stay 502 [500,501] (β3:=[.box 101 (yE ({ p with wt:=W }) (.row 2047) (.row 1025) false),.row 65 46 O2]) (fun x _=>cS (.v x)) (by decide) (by decide) (by decide) rfl (fun x=>by simp [zQ,stX,inN,pos,zO,zX,subB,xM,b0,b1]) (by simp [zN,zH,zX,inN,pos]) rfl ?_;simp [lvX,kpI,kpR,pos,ren,zX])|(refine And.intro (by (try simp);omega) ?_)|(refine hK _ ?_;clear hK)|(refine zT fun K hK=>?_)|(refine zS ?_;simp only [tZ,tY,strip])|((first | refine wOs fun K hK=>?_ | refine zW ?_);simp [g5,g42,g43,b0,b2,n6,n97,hlt,hw,hk1,hg,hg2,hst,o3',o4,o5,hsn])|(first | refine zU ?_)|(refine zP ?_;try simp)|(refine wOn ?_;try simp only [zZ])
     refine hL _ (N - 1) (by omega) ⟨k + 1,by omega,?_⟩
     simp [tkI,g2,g5,g42,bz,hzl,hO2,hN,reXB,reX,ouN,zX,zO]
    ·have t2 : ¬ tkA L[k] = true := fun h => o5 (of_decide_eq_true h).2
     rw [if_neg t2] at hN
     replace o4 : (L[k].ph = 4) = True:=eq_true o4
     generalize hO2 : zD (tkM p (L.take (k + 1))) = O2 at *
     unfold mgK mgZ Mg.cells at cS
     dsimp only at cS
     simp only [show zns [] = [] from rfl,show ints [] = [] from rfl,show mbs [] = [] from rfl,show yW [] = [] from rfl,show zxs [] = [] from rfl,show pts [] = [] from rfl] at cS
     repeat' first|(refine CallK_stay 502 [500,501] (β3:=[.box 101 (yE ({ p with wt:=W }) (.row 2047) (.row 1025) false),.row 65 46 O2]) (fun x _=>cS (.v x)) (by decide) (by decide) (by decide) rfl (fun x=>by simp [zQ,stX,inN,pos,zO,zX,subB,xM,b0,b1]) (by simp [zN,zH,zX,inN,pos]) rfl ?_;simp [lvX,kpI,kpR,pos,ren,zX])|(refine hK _ ?_;clear hK)|(refine zT fun K hK=>?_)|(refine zS ?_;simp only [tZ,tY,strip])|((first | refine wOs fun K hK=>?_ | refine zW ?_);simp [g5,g42,g43,b0,b2,hlt,hw,hk1,hg,hg2,hst,o3',o4,o5])|(first | refine zU ?_)|(refine zP ?_;try simp)|(refine wOn ?_;try simp only [zZ])
     refine hL _ (N - 1) (by omega) ⟨k + 1,by omega,?_⟩
     simp [tkI,g2,g5,g42,bz,hzl,hO2,hN,n6,n97,reXB,reX,ouN,zX,zO]
   ·have t1 : ¬ tkB L[k] = true := fun h => (of_decide_eq_true h).elim o3 o4
    have t2 : ¬ tkA L[k] = true:=fun h=>o4 (of_decide_eq_true h).1
    rw [if_neg t1] at hM;rw [if_neg t2] at hN
    replace o4 : (L[k].ph = 4) = False:=eq_false o4
    clear cS
    repeat' first|(refine hK _ ?_;clear hK)|(refine zT fun K hK=>?_)|(refine zS ?_;simp only [tZ,tY,strip])|((first | refine wOs fun K hK=>?_ | refine zW ?_);simp [g5,g42,g43,b0,b2,hlt,hw,hk1,hg,hg2,hst,o3',o4])|(first | refine zU ?_)|(refine zP ?_;try simp)|(refine wOn ?_;try simp only [zZ])
    refine hL _ (N - 1) (by omega) ⟨k + 1,by omega,?_⟩
    simp [tkI,g2,g5,g42,b0,b1,bz,hzl,hM,hN,n6,n97]
 have hkl : k = L.length:=by omega
 subst hkl
 repeat' first|(refine hK _ ?_;clear hK)|(refine zT fun K hK=>?_)|(refine zS ?_;simp only [tZ,tY,strip])|((first | refine wOs fun K hK=>?_ | refine zW ?_);simp [g42,g43])|(refine zC ?_;try simp)|(refine wOn ?_;try simp only [zZ])
 refine hend _ ⟨?_,?_,?_,?_,⟨z,?_,hzl⟩,?_,?_,?_,?_⟩
 all_goals first | exact g5 | exact hn6 | exact g42 | exact g43 | exact bz | exact g2 | exact b0 | exact b1 | exact b2
end Go.Proofs.YtffflakmofbilaaGreat
