/- Texts that the proof needs: IX XC QLib WS QA ZC. -/
import Derived.Test.YtedbbcmokbogpaaGreatDoorP12PrepNumbers
import Derived.Test.YtedbbcmokbogpaaGreatDoorP20PrepNumbers
import Derived.Test.YtedbbcmokbogpaaGreatDoorP13PrepNumbers
import Derived.WalkKit
import Derived.Deep.RegionLaw
import Derived.Test.YtedbbcmokbogpaaGreatDoorP19PrepNumbers
import Derived.Test.YtedbbcmokbogpaaGreatDoorP15PrepNumbers
import Derived.Test.YtedbbcmokbogpaaGreatDoorP18PrepNumbers
namespace Go.Proofs.YtedbbcmokbogpaaGreatDoor
set_option linter.unusedSimpArgs false
set_option linter.unusedVariables false
open Go Go.Av Go.Lib Go.RowKit
theorem wp_copy_eq (w:World){o:Oper}{a:Act}{K:Act->World->Prop}{Q:Exit->Act->World->Prop}(d s:Operand)(t t':TypeId){P:Program}
 (ho:o.op=.call { callee:=.builtin .copy,args:=#[d,s],argTypes:=#[t,t'] }){v u:Value}(hd:a.eval d=v)(hs:a.eval s=u){v':Value}{w':World}
 (hr:(Builtin.copy_ #[t,t'] o.type #[v,u]).run P w=.ok v' w')(h:K (a.put o.dst v') w'):o.wp P a w K Q:=by
 unfold Oper.wp execOp
 simp only[ho,resolve,invoke,builtin,Sem.run_bind,Sem.run_pure,Result.andThen_ok,List.map_toArray,vZ,vY,hd,hs,hr]
 exact h
theorem wpList_copy_eq {P:Program}(w:World){ops:Array Oper}{rest:List Oper}{o:Oper}{a:Act}{Q:Exit->Act->World->Prop}(hgd:o.guard=none)(d s:Operand)(t t':TypeId)
 (ho:o.op=.call { callee:=.builtin .copy,args:=#[d,s],argTypes:=#[t,t'] }){v u:Value}(hd:a.eval d=v)(hs:a.eval s=u){v':Value}{w':World}
 (hr:(Builtin.copy_ #[t,t'] o.type #[v,u]).run P w=.ok v' w')(h:wpList P ops Q rest (a.put o.dst v') w'):wpList P ops Q (o::rest) a w :=
 wpList_plain hgd fun _ O=>wp_copy_eq w d s t t' ho hd hs hr (O _ _ h)
theorem step_copy_eq {P:Program}{ops:Array Oper}{o:Oper}{a:Act}{w:World}{K:Act->World->Prop}{Q:Exit->Act->World->Prop}{E:Prop}
 (hg:o.guard=none)(d x:Operand)(dT sT:TypeId)(hop:o.op=Op.call { callee:=Callee.builtin Builtin.copy,args:=#[d,x],argTypes:=#[dT,sT] })
 (v u:Value)(hd:a.eval d=v)(hx:a.eval x=u){v':Value}{w':World}(hr:(Builtin.copy_ #[dT,sT] o.type #[v,u]).run P w=.ok v' w')(O:K (a.put o.dst v') w') :
 if Region.wanted o (yielded ops a.tmps)=true then Oper.wp P o a w K Q else E:=by
 have hw:Region.wanted o (yielded ops a.tmps)=true:=by simp[Region.wanted,hg]
 rw[if_pos hw]
 exact wp_copy_eq w d x dT sT hop hd hx hr O
set_option maxHeartbeats 4000000 in
set_option maxRecDepth 100000 in
theorem ins_shift (b n c i vb voff vc:Nat)(cur cA:Array Value)(vs:List Value)(w:World)(tA:TypeId)(fA:Nat × Nat)(hg:w.heap[b]?=some (.cells cur 3 (0,0)))(hsz:cur.size=c * 1)
 (hi:i<n)(hroom:n+1<=c)(hc63:c<=9223372036854775807)(hvb:vb ≠ b)(hv:w.heap[vb]?=some (.cells cA tA fA))(hvl:vs.length=1)(hvs:∀ (j:Nat)(v:Value),vs[j]?=some v->cA[voff+j]?=some v)
 (h1:∀v∈vs,v.oneCell'=true)(h1c:∀ (j:Nat)(v:Value),j<n * 1->cur[j]?=some v->v.oneCell'=true) :
 Calls Tryz.prog 89 #[.slice (some ⟨b,0,none⟩) n c,.int .i64 i,.slice (some ⟨vb,voff,none⟩) 1 vc] w fun e w' =>
  e=.returned (.slice (some ⟨b,0,none⟩) (n+1) c) ∧
  w'=(w.drew.setRow b (spl cur ((i+1) * 1) ((cur.toList.drop (i * 1)).take ((n-i) * 1)))).setRow b (spl (spl cur ((i+1) * 1) ((cur.toList.drop (i * 1)).take ((n-i) * 1))) (i * 1) vs):=by
 have hu:Tryz.prog.underlying 23=some (.slice 3):=(Tryz.tab 23 _ rfl).kind
 obtain⟨ti,tz,hti,htz0,-⟩:=(Tryz.tab 3 _ rfl).info
 have htz:ti.size=1:=htz0
 have hz2:¬ ((i:Int)=(n:Int)):=by omega
 have hov:∀lb cb,(callFunc 104 #[.slice (some ⟨vb,voff,none⟩) 1 vc,.slice (some ⟨b,(i+1) * 1,none⟩) lb cb]).run Tryz.prog w=.ok (.value (.bool false)) w:=fun lb cb=>by
  rw[run_callFunc_extern Tryz.func104 (by kernel_rfl) (by kernel_rfl) (by kernel_rfl) (e:=Extern.SlicesOverlaps.overlaps #[23,23] #[4]) (by kernel_rfl),
   run_overlaps 23 4 3 hu 1 ((Tryz.tab 3 _ rfl).run_info w) (a:=⟨vb,voff,none⟩) (b:=⟨b,(i+1) * 1,none⟩) hvb hv hg (by omega) (fun h0=>by
    have:=hvs 0 _ (List.getElem?_eq_getElem (by omega))
    rw[Array.getElem?_eq_none (by omega)] at this;simp at this)]
  rfl
 obtain⟨c1,hc1⟩:∃c1,c1=(cur.toList.drop (i * 1)).take ((n-i) * 1):=⟨_,rfl⟩
 have hc1l:c1.length=(n-i) * 1:=by rw[hc1];simp;omega
 obtain⟨X1,hX1⟩:∃X1,X1=spl cur ((i+1) * 1) c1:=⟨_,rfl⟩
 have hX1s:X1.size=cur.size:=by rw[hX1];exact wQ (by omega)
 have hcp1:∀ty dc sc,(Builtin.copy_ #[23,23] ty #[.slice (some ⟨b,(i+1) * 1,none⟩) (n-i) dc,.slice (some ⟨b,i * 1,none⟩) (n+1-i) sc]).run Tryz.prog w.drew=.ok (goInt (n-i:Nat)) (w.drew.setRow b X1):=fun ty dc sc=>by
  rw[hX1]
  refine run_copyRow (w:=w.drew) (n:=n-i) (o:=(i+1) * 1) (dLen:=n-i) (sLen:=n+1-i) (g:=b) (b:=some ⟨b,i * 1,none⟩) hu hti hg (by simp only[Nat.min_def];split <;> omega) (run_first_row (w:=w.drew) (n:=n-i) (size:=ti.size) hg (by rw[hc1l,htz]) fun j v hj=>?_) (by omega) (fun v hv=>?_)
  ·rw[hc1,List.getElem?_take] at hj
   split at hj
   ·rw[List.getElem?_drop] at hj;simpa using hj
   ·simp at hj
  ·obtain⟨j,hj2⟩:=List.mem_iff_getElem?.1 hv
   rw[hc1,List.getElem?_take] at hj2
   split at hj2
   ·rw[List.getElem?_drop] at hj2
    exact h1c (i * 1+j) _ (by omega) (by simpa using hj2)
   ·simp at hj2
 have hcp2:∀ (W:World),W.heap=(w.drew.setRow b X1).heap->∀ty dc,(Builtin.copy_ #[23,23] ty #[.slice (some ⟨b,i * 1,none⟩) (n+1-i) dc,.slice (some ⟨vb,voff,none⟩) 1 vc]).run Tryz.prog W=.ok (goInt (1:Nat)) (W.setRow b (spl X1 (i * 1) vs)):=fun W hW ty dc=>by
  have hgW:W.heap[b]?=some (.cells X1 3 (0,0)):=by rw[hW];exact setRow_heap w.drew _ _ _ _ _ hg
  have hvW:W.heap[vb]?=some (.cells cA tA fA):=by rw[hW];exact (setRow_other w.drew b vb X1 hvb).trans hv
  refine run_copyRow (n:=1) (o:=i * 1) (dLen:=n+1-i) (sLen:=1) (g:=b) (b:=some ⟨vb,voff,none⟩) hu hti hgW (by simp only[Nat.min_def];split <;> omega) (run_firstCells_some W _ 1 _ 1 vc vs (by rw[hvl,htz]) fun j v hj=>?_) (by omega) h1
  rw[addr_add]
  simpa [World.cell?,hvW] using hvs j v hj
 rw[<- hc1,<- hX1]
 have hw1:IntKind.i64.wrap ((i:Int)+1)=(i:Int)+1:=by rw[IntKind.wrap_i64];omega
 have hb1:(0:Int)<=(i:Int)+1:=by omega
 have htn:((i:Int)+1).toNat=i+1:=by omega
 have hb2:¬ (c=i+1):=by omega
 have hb3:(i:Int)<=(n:Int)+1:=by omega
 have hb4:¬ (c=i):=by omega
 have hin:i<=n:=by omega
 have hin1:i<=n+1:=by omega
 simp only[Nat.mul_one] at hcp1 hcp2 hX1 hc1 hov ⊢
 go_enter Tryz.func89,Tryz.ntmps89
 go_wp2_with (simp only[hov])
 go_region_law (refine step_copy_eq rfl _ _ 23 23 rfl _ _ (by simp[Act.eval,Act.put]) (by simp[Act.eval,Act.put]) (hcp1 _ _ _) ?_)
 go_wp2_with (at_builtin;refine wpList_copy_eq _ rfl _ _ 23 23 rfl rfl rfl (hcp2 _ rfl _ _) ?_)
 go_ret
 first
  |exact⟨rfl,by rw[hX1,hc1]⟩
  |exact⟨rfl,rfl⟩|(refine⟨rfl,?_⟩;simp[hX1,hc1])
set_option maxHeartbeats 4000000 in
set_option maxRecDepth 100000 in
theorem ins_end (sb:Option Addr)(n c:Nat)(vb voff vc:Nat)(w:World)(hnc:n<=c)(hc63:c<=9223372036854775807){r:Value}{w1:World}
 (hr:(Builtin.append_ #[23,23] 23 #[.slice sb n c,.slice (some ⟨vb,voff,none⟩) 1 vc]).run Tryz.prog w=.ok r w1) :
 Calls Tryz.prog 89 #[.slice sb n c,.int .i64 n,.slice (some ⟨vb,voff,none⟩) 1 vc] w fun e w'=>e=.returned r/\w'=w1:=by
 have hu:Tryz.prog.underlying 23=some (.slice 3):=(Tryz.tab 23 _ rfl).kind
 cases sb with
 |none =>
  go_enter Tryz.func89,Tryz.ntmps89
  go_wp2_with (at_builtin;refine Lib.wpList_append_run _ rfl _ _ _ _ rfl _ _ rfl rfl _ _ hr ?_)
  go_ret
  exact⟨rfl,rfl⟩
 |some a =>
  by_cases hcn:c=n
  ·go_enter Tryz.func89,Tryz.ntmps89
   go_wp2_with (at_builtin;refine Lib.wpList_append_run _ rfl _ _ _ _ rfl _ _ rfl rfl _ _ hr ?_)
   go_ret
   exact⟨rfl,rfl⟩
  ·go_enter Tryz.func89,Tryz.ntmps89
   go_wp2_with (at_builtin;refine Lib.wpList_append_run _ rfl _ _ _ _ rfl _ _ rfl rfl _ _ hr ?_)
   go_ret
   exact⟨rfl,rfl⟩
set_option maxHeartbeats 4000000 in
set_option maxRecDepth 100000 in
theorem ins_grow (b n c i vb voff vc:Nat)(cur cA:Array Value)(vs:List Value)(w:World)(tA:TypeId)(fA:Nat × Nat)(hg:w.heap[b]?=some (.cells cur 3 (0,0)))(hsz:n * 1<=cur.size)
 (hi:i<n)(hnc:n<=c)(hcn:c<n+1)(hbig:(n+1) * 8<=140737488355328)(hv:w.heap[vb]?=some (.cells cA tA fA))(hvl:vs.length=1)(hvs:∀ (j:Nat)(v:Value),vs[j]?=some v->cA[voff+j]?=some v)
 (h1:∀v∈vs,v.oneCell'=true)(h1c:∀ (j:Nat)(v:Value),j<n * 1->cur[j]?=some v->v.oneCell'=true) :
 Calls Tryz.prog 89 #[.slice (some ⟨b,0,none⟩) n c,.int .i64 i,.slice (some ⟨vb,voff,none⟩) 1 vc] w fun e w' =>
  ∃ (C:Nat)(R:Array Value),e=.returned (.slice (some ⟨w.heap.size,0,none⟩) (n+1) C)/\n+1<=C/\C<=maxLen/\R.size=C * 1/\Keeps (fun _=>False) w w'/\w'.heap[w.heap.size]?=some (.cells R 3 (0,0))/\w.heap.size<w'.heap.size ∧
   ∀k,k<(n+1) * 1->R[k]?=(insL 1 cur i n vs)[k]?:=by
 have hu:Tryz.prog.underlying 23=some (.slice 3):=(Tryz.tab 23 _ rfl).kind
 have hu2:Tryz.prog.underlying 3=some (.int .i64):=(Tryz.tab 3 _ rfl).kind
 obtain⟨ti,tz,hti,htz0,htb0,htz1,htz2,-⟩:=(Tryz.tab 3 _ rfl).info
 have htz:ti.size=1:=htz0
 have htb:ti.bytes=8:=htb0
 have htzc:tz.cells.size=1:=by have:=congrArg List.length htz2;simpa using this
 have hz2:¬ ((i:Int)=(n:Int)):=by omega
 have hbw:b<w.heap.size:=lt_of_heap hg
 have hvw:vb<w.heap.size:=lt_of_heap hv
 have hkk:(n:Int)+1-(i:Int)=((n+1-i:Nat):Int):=by omega
 have hold:(Builtin.firstCells ti.size i (.slice (some ⟨b,0,none⟩) i c)).run Tryz.prog w.drew=.ok (cur.toList.take (i * 1)).toArray w.drew :=
  run_first_row (w:=w.drew) hg (by rw[htz];simp;omega) fun j v hj=>by
   rw[List.getElem?_take] at hj
   split at hj
   ·simpa using hj
   ·simp at hj
 obtain⟨C,hC⟩:∃C,C=grownCap w (n+1) c 3:=⟨_,rfl⟩
 obtain⟨hC1,hC2⟩:=grownCap_bounds w (n+1) c 3 (by omega)
 rw[<- hC] at hC1 hC2
 have hC3:C<=9223372036854775807:=hC2
 obtain⟨R0,hR0⟩:∃R0:Array Value,R0=(cur.toList.take (i * 1)).toArray++Builtin.zeroCells tz.cells (n+1-i)++Builtin.zeroCells tz.cells (C-(n+1)):=⟨_,rfl⟩
 have hR0s:R0.size=C * 1:=by rw[hR0];simp[zeroCells_size,htzc];omega
 have hR0c:∀k,k<i * 1->R0[k]?=cur[k]?:=fun k hk=>by
  have h1:k<(cur.toList.take (i * 1)).toArray.size:=by simp;omega
  rw[hR0,Array.append_assoc,Array.getElem?_append_left h1]
  rw[List.getElem?_toArray,List.getElem?_take,if_pos hk];simp
 have hrz:∀ty,(Builtin.append_ #[23,3] ty #[.slice (some ⟨b,0,none⟩) i c,.int .i64 ((n:Int)+1-(i:Int))]).run Tryz.prog w =
  .ok (.slice (some ⟨w.heap.size,0,none⟩) (n+1) C) (w.drew.alloc (.cells R0 3)):=fun ty=>by
  have h:=Lib.run_append_grow_zeros w 23 3 ty 3 ti tz .i64 .i64 hu hu2 hti htz1 (some ⟨b,0,none⟩) i c (cur.toList.take (i * 1)) hold (n+1-i) (by omega) (by omega) (by omega) (by omega) (by rw[htb];omega) (by
   rw[htb,show i+(n+1-i)=n+1 by omega]
   exact growslice_fits (by omega) hbig)
  rw[show i+(n+1-i)=n+1 by omega,<- hC,<- hR0] at h
  rw[hkk]
  exact h
 obtain⟨c1,hc1⟩:∃c1,c1=(cur.toList.drop (i * 1)).take ((n-i) * 1):=⟨_,rfl⟩
 have hc1l:c1.length=(n-i) * 1:=by rw[hc1];exact mid_len hsz
 obtain⟨W1,hW1⟩:∃W1,W1=w.drew.alloc (.cells R0 3):=⟨_,rfl⟩
 have hW1h:W1.heap[w.heap.size]?=some (.cells R0 3 (0,0)):=by rw[hW1];exact heap_alloc_new w.drew _
 have hW1b:∀k,k<w.heap.size->W1.heap[k]?=w.heap[k]?:=fun k hk=>by rw[hW1];exact Go.RowKit.Below.heap_alloc w.drew _ k hk
 have hW1s:W1.heap.size=w.heap.size+1:=by rw[hW1];show (w.heap.push _).size=_;simp
 rw[<- hW1] at hrz
 have hcpA:∀ (W:World),W.heap=W1.heap->∀ty dc,(Builtin.copy_ #[23,23] ty #[.slice (some ⟨w.heap.size,i * 1,none⟩) (n+1-i) dc,.slice (some ⟨vb,voff,none⟩) 1 vc]).run Tryz.prog W=.ok (goInt (1:Nat)) (W.setRow w.heap.size (spl R0 (i * 1) vs)):=fun W hW ty dc=>by
  refine run_copyRow (w:=W) (n:=1) (o:=i * 1) (dLen:=n+1-i) (sLen:=1) (g:=w.heap.size) (b:=some ⟨vb,voff,none⟩) hu hti (by rw[hW];exact hW1h) (by simp only[Nat.min_def];split <;> omega) (run_firstCells_some W _ 1 _ 1 vc vs (by rw[hvl,htz]) fun j v hj=>?_) (by omega) h1
  rw[addr_add]
  simpa [World.cell?,hW,hW1b vb hvw,hv] using hvs j v hj
 obtain⟨R1,hR1⟩:∃R1,R1=spl R0 (i * 1) vs:=⟨_,rfl⟩
 have hR1s:R1.size=R0.size:=by rw[hR1];exact wQ (by omega)
 obtain⟨W2,hW2⟩:∃W2,W2=W1.setRow w.heap.size (spl R0 (i * 1) vs):=⟨_,rfl⟩
 have hcpB:∀ (W:World),W.heap=W2.heap->∀ty dc sc,(Builtin.copy_ #[23,23] ty #[.slice (some ⟨w.heap.size,(i+1) * 1,none⟩) (n-i) dc,.slice (some ⟨b,i * 1,none⟩) (n-i) sc]).run Tryz.prog W=.ok (goInt (n-i:Nat)) (W.setRow w.heap.size (spl R1 ((i+1) * 1) c1)):=fun W hW ty dc sc=>by
  have hg2:W.heap[w.heap.size]?=some (.cells R1 3 (0,0)):=by rw[hW,hW2,hR1];exact setRow_heap W1 _ _ _ _ _ hW1h
  have hgb:W.heap[b]?=some (.cells cur 3 (0,0)):=by rw[hW,hW2];exact (setRow_other W1 _ b _ (by omega)).trans ((hW1b b hbw).trans hg)
  refine run_copyRow (w:=W) (n:=n-i) (o:=(i+1) * 1) (dLen:=n-i) (sLen:=n-i) (g:=w.heap.size) (b:=some ⟨b,i * 1,none⟩) hu hti hg2 (by simp only[Nat.min_def];split <;> omega) (run_first_row (w:=W) (n:=n-i) (size:=ti.size) hgb (by rw[hc1l,htz]) fun j v hj=>?_) (by omega) (fun v hv=>?_)
  ·rw[hc1,List.getElem?_take] at hj
   split at hj
   ·rw[List.getElem?_drop] at hj;simpa using hj
   ·simp at hj
  ·obtain⟨j,hj2⟩:=List.mem_iff_getElem?.1 hv
   rw[hc1,List.getElem?_take] at hj2
   split at hj2
   ·rw[List.getElem?_drop] at hj2
    exact h1c (i * 1+j) _ (by omega) (by simpa using hj2)
   ·simp at hj2
 clear hC hR0 hold hkk htz2
 have hw1:IntKind.i64.wrap ((i:Int)+1)=(i:Int)+1:=by rw[IntKind.wrap_i64];omega
 have hb1:(0:Int)<=(i:Int)+1:=by omega
 have htn:((i:Int)+1).toNat=i+1:=by omega
 have hb2:¬ (C=i+1):=by omega
 have hb3:(i:Int)<=(n:Int)+1:=by omega
 have hb4:¬ (C=i):=by omega
 have hb5:¬ (c=i):=by omega
 have hin:i<=n:=by omega
 have hin1:i<=n+1:=by omega
 have hz3:(c:Int)<(n:Int)+1:=by omega
 subst hW2 hW1
 simp only[Nat.mul_one] at hcpA hcpB hR1 ⊢
 go_enter Tryz.func89,Tryz.ntmps89
 go_wp2_with (at_builtin;refine Lib.wpList_append_run _ rfl _ _ _ _ rfl _ _ rfl rfl _ _ (hrz _) ?_)
 rw[hcpA (w.alloc (.cells R0 3)).drew rfl]
 go_wp2
 go_region_law (refine step_copy_eq rfl _ _ 23 23 rfl (.slice (some ⟨w.heap.size,i+1,none⟩) (n-i) (C-(i+1))) (.slice (some ⟨b,i,none⟩) (n-i) (c-i)) (by simp[Act.eval,Act.put]) (by simp[Act.eval,Act.put]) (hcpB _ (by rfl) _ _ _) ?_)
 go_wp2
 go_ret
 obtain⟨k1,k2,k3⟩:=grow2 w R0 (spl R0 (i * 1) vs) (spl (spl R0 (i * 1) vs) ((i+1) * 1) ((cur.toList.drop (i * 1)).take ((n-i) * 1))) 3
 have hsz1:(spl (spl R0 (i * 1) vs) ((i+1) * 1) ((cur.toList.drop (i * 1)).take ((n-i) * 1))).size=C * 1:=by rw[wQ (by rw[wQ (by omega)];rw[mid_len hsz];omega),wQ (by omega),hR0s]
 have hget1:∀k,k<(n+1) * 1->(spl (spl R0 (i * 1) vs) ((i+1) * 1) ((cur.toList.drop (i * 1)).take ((n-i) * 1)))[k]?=(insL 1 cur i n vs)[k]?:=fun k hk=>ins_get_grow hvl hin hsz (by omega) hR0c k hk
 simp only[Nat.mul_one] at k1 k2 k3 hsz1 hget1
 exact⟨C,_,rfl,hC1,hC2,hsz1,k1,k2,k3,hget1⟩
theorem insert_con (l:List (List PV))(i:Nat)(el:List PV)(hi:i<=l.length)(hl:l.length<=1000000)(hel:el.length=1) :
 Con Tryz.prog 89 [.row 1024,.p (I i),.p (.sl 1 [el])] [.row 3 1 l] (.ret (.row 1024) [] [.row 3 1 (l.take i++el::l.drop i)]):=by
 refine fun F w m xs hp hlen har=>.inl ⟨⟨_,Tryz.func89,rfl,rfl⟩,?_⟩
 obtain⟨x0,hx0,hr0⟩:=har 0 _ rfl
 obtain⟨x1,hx1,hr1⟩:=har 1 _ rfl
 obtain⟨x2,hx2,hr2⟩:=har 2 _ rfl
 have hxs:xs.toArray = #[x0,x1,x2]:=by
  match xs,hlen with
  |[y0,y1,y2],_=>simp at hx0 hx1 hx2;subst hx0 hx1 hx2;rfl
 rw[hxs]
 have h0:x0=m.r 1024:=hr0
 have h1:x1=.int .i64 i:=by
  have hr1':RP w _ (.v (.int .i64 i)) x1:=hr1
  cases hr1';rfl
 subst h1
 have hr2':RP w (Gd F m (nmF [.row 3 1 l] [])) (.sl 1 [el]) x2:=hr2
 obtain⟨news,hsrc⟩:=src_RP (P:=Tryz.prog) (by omega:0<1) hr2'
 have hu:Tryz.prog.underlying 23=some (.slice 3):=(Tryz.tab 23 _ rfl).kind
 obtain⟨ti,tz,hti,htz0,htb0,htz1,htz2,-⟩:=(Tryz.tab 3 _ rfl).info
 have htz:ti.size=1:=htz0
 have htb:ti.bytes=8:=htb0
 have htzc:tz.cells.size=1:=by have:=congrArg List.length htz2;simpa using this
 have hrb:RBr w w (Gd F m (nmF [.row 3 1 l] [])) 3 1 l (m.r 1024):=(hp.blks 1024 _ (by rw[nmF1];simp)).RBr
 have hY:∀k,ownB (m.r 1024)=some k->owns m (nmF [.row 3 1 l] []) 1024 k:=fun k hk=>by unfold owns;rw[nmF1];simpa using hk
 rcases hr2'.slI with ⟨b0,-,h0⟩|⟨vb,voff,vc,hx2e,-,-,hvk,hve⟩
 ·simp at h0
 have hx2e:x2=.slice (some ⟨vb,voff,none⟩) 1 vc:=hx2e
 subst hx2e
 obtain⟨hvb,hvg⟩:=hvk (by simp)
 obtain⟨-,hvc⟩:=hve 0 el rfl
 by_cases hend:i=l.length
 ·subst hend
  obtain⟨v,w',hrun,hkp,hrb',hown⟩:=app_row (F:=F) (m:=m) (st:=⟨fun _=>.junk,nmF [.row 3 1 l] []⟩) hu hti htz1 (by rw[htzc,htz]) (.inl ⟨_,hu⟩) #[23,23] ⟨rfl,rfl⟩ 23 htz hsrc (by rw[htb];simp;omega) (by simp;omega) (by omega) (by omega) (.inl ⟨hrb,hY⟩)
  have hcall:∃sb c,m.r 1024=.slice sb l.length c/\l.length<=c/\c<=9223372036854775807:=by
   rcases hrb with ⟨-,⟨a,ha⟩,hl0⟩|⟨k,cap,cur,hr,-,h2,h3,-⟩
   ·exact⟨a,0,by rw[ha,hl0];rfl,by rw[hl0];simp,by omega⟩
   ·exact⟨_,cap,hr,h2,h3⟩
  obtain⟨sb,c,hs,hc1,hc2⟩:=hcall
  rw[h0,hs]
  rw[hs] at hrun
  refine (ins_end sb l.length c vb voff vc w hc1 hc2 hrun).mono ?_
  rintro e w2 ⟨rfl,rfl⟩
  have e1:l.take l.length++el::l.drop l.length=l++[el]:=by simp
  rw[e1]
  exact row_out hp hkp hrb' hown
 ·have hlt:i<l.length:=by omega
  rcases hrb with ⟨-,-,hl0⟩|⟨k,cap,cur,hr,hc0,hlc,hcm,hh,hsz,hels⟩
  ·rw[hl0] at hlt;simp at hlt
  have hk:owns m (nmF [.row 3 1 l] []) 1024 k:=hY k (by simp[hr,ownB];omega)
  have hvbk:vb ≠ k:=fun h=>hvg (.inr ⟨_,h ▸ hk⟩)
  have hcm':cap<=9223372036854775807:=hcm
  have hlsz:l.length * 1<=cur.size:=by rw[hsz];omega
  have hcell:∀ (j:Nat)(p:PV),el[j]?=some p->p.one=true/\∃u,w.cell? ⟨vb,voff+j,none⟩=some u/\RP w (Gd F m (nmF [.row 3 1 l] [])) p u:=fun j p hj=>by simpa using hvc j p hj
  have hcA:∃cA tA fA,w.heap[vb]?=some (.cells cA tA fA):=by
   obtain⟨-,u,hu,-⟩:=hcell 0 _ (List.getElem?_eq_getElem (by omega))
   unfold World.cell? at hu
   split at hu
   ·exact⟨_,_,_,by assumption⟩
   ·simp at hu
  obtain⟨cA,tA,fA,hcA⟩:=hcA
  obtain⟨vs,hvl,hvs,hvr⟩:∃vs:List Value,vs.length=1/\(∀ (j:Nat)(v:Value),vs[j]?=some v->cA[voff+j]?=some v)/\(∀ (j:Nat)(p:PV),el[j]?=some p->p.one=true/\∃u,vs[j]?=some u/\RP w (Gd F m (nmF [.row 3 1 l] [])) p u):=by
   have hex:∀j,j<1->∃u,cA[voff+j]?=some u/\∃p,el[j]?=some p/\p.one=true/\RP w (Gd F m (nmF [.row 3 1 l] [])) p u:=fun j hj=>by
    obtain⟨ho,u,hu,hpr⟩:=hcell j _ (List.getElem?_eq_getElem (by omega))
    exact⟨u,by simpa [World.cell?,hcA] using hu,_,List.getElem?_eq_getElem (by omega),ho,hpr⟩
   refine⟨(List.range 1).map fun j=>(cA[voff+j]?).getD undef,by simp,fun j v hj=>?_,fun j p hj=>?_⟩
   ·rw[List.getElem?_map] at hj
    by_cases hj7:j<1
    ·rw[List.getElem?_range hj7] at hj
     obtain⟨u,h2,-⟩:=hex j hj7
     simp only[Option.map_some,h2,Option.getD_some,vX] at hj
     rw[h2,hj]
    ·rw[List.getElem?_eq_none (by simp;omega)] at hj;simp at hj
   ·have hj7:j<1:=by have:=(List.getElem?_eq_some_iff.1 hj).1;omega
    obtain⟨u,h2,p',h3,h4,h5⟩:=hex j hj7
    rw[hj] at h3
    simp only[vX] at h3
    subst h3
    exact⟨h4,u,by rw[List.getElem?_map,List.getElem?_range hj7];simp[h2],h5⟩
  have hone:∀v∈vs,v.oneCell'=true:=fun v hv=>by
   obtain⟨j,hj⟩:=List.mem_iff_getElem?.1 hv
   have hjl:=(List.getElem?_eq_some_iff.1 hj).1
   obtain⟨h2,u,h3,h4⟩:=hvr j _ (List.getElem?_eq_getElem (by omega))
   rw[hj] at h3
   simp only[vX] at h3
   rw[h3];exact h4.oneCell h2
  have honec:∀ (j:Nat)(v:Value),j<l.length * 1->cur[j]?=some v->v.oneCell'=true:=fun j v hj hv=>by
   have hjl:j / 1<l.length:=by omega
   obtain⟨h2,h3⟩:=hels (j / 1) _ (List.getElem?_eq_getElem hjl)
   obtain⟨h4,u,h5,h6⟩:=h3 (j % 1) _ (List.getElem?_eq_getElem (by rw[h2];omega))
   have h5':cur[j / 1 * 1+j % 1]?=some u:=h5
   rw[show j / 1 * 1+j % 1=j by omega,hv] at h5'
   simp only[vX] at h5'
   rw[h5'];exact h6.oneCell h4
  rw[h0,hr]
  by_cases hroom:l.length+1<=cap
  ·refine (ins_shift k l.length cap i vb voff vc cur cA vs w tA fA hh hsz hlt hroom hcm' hvbk hcA hvl hvs hone honec).mono ?_
   rintro e w2 ⟨rfl,rfl⟩
   obtain⟨k1,k2⟩:=shift2 w k cur (spl cur ((i+1) * 1) ((cur.toList.drop (i * 1)).take ((l.length-i) * 1))) (spl (spl cur ((i+1) * 1) ((cur.toList.drop (i * 1)).take ((l.length-i) * 1))) (i * 1) vs) 3 hh
   have e1:(l.take i++el::l.drop i).length=l.length+1:=by simp;omega
   have hfit:(l.length+1) * 1<=cur.size:=by rw[hsz];omega
   refine row_out hp (k1.mono fun k' h=>h ▸ hk) (.inr ⟨k,cap,_,by rw[e1],hc0,by rw[e1];exact hroom,hcm,k2,?_,EL.ins hels hvl hel hvr hi hlsz fun j hj=>ins_get_shift hvl hi hfit j hj⟩) fun k' hk'=>?_
   ·rw[wQ (by rw[wQ (by rw[mid_len hlsz];omega)];omega),wQ (by rw[mid_len hlsz];omega),hsz]
   ·simp only[ownB,if_neg (show ¬ cap=0 by omega),vX] at hk'
    subst hk'
    exact⟨.inl hk,lt_of_heap k2⟩
  ·refine (ins_grow k l.length cap i vb voff vc cur cA vs w tA fA hh hlsz hlt hlc (by omega) (by omega) hcA hvl hvs hone honec).mono ?_
   rintro e w2 ⟨C,R,rfl,hC1,hC2,hRs,hkp,hR,hsz2,hRg⟩
   have e1:(l.take i++el::l.drop i).length=l.length+1:=by simp;omega
   refine row_out hp (hkp.mono fun _ h=>h.elim) (.inr ⟨w.heap.size,C,R,by rw[e1],by omega,by rw[e1];exact hC1,hC2,hR,hRs,EL.ins hels hvl hel hvr hi hlsz hRg⟩) fun k' hk'=>?_
   simp only[ownB,if_neg (show ¬ C=0 by omega),vX] at hk'
   subst hk'
   exact⟨.inr (Nat.le_refl _),hsz2⟩
end Go.Proofs.YtedbbcmokbogpaaGreatDoor
namespace Go.Proofs.YtedbbcmokbogpaaGreatDoor
set_option linter.unusedSimpArgs false
set_option linter.unusedVariables false
open Go Go.Av
attribute [local irreducible] Go.Av.yP Go.Av.zU Go.Av.yN Go.Av.zT Go.Av.yO Go.Av.zV Go.Av.Con
theorem without_con (l:List Int)(n:Int)(hl:l.length<=1000000):Con Tryz.prog 77 [.row 1024,.p (I n)] [.row 3 1 (zis l)] (.ret (.row 1024) [] [.row 3 1 (zis (but l n))]):=by
 have hc:=deleteF_con l n hl
 refine wBodyG Tryz.tab Tryz.mixed Tryz.func77 rfl rfl Tryz.ntmps77 (by simp) (by simp) fun Q hr hn hp=>?_
 repeat' first|(refine wF [1024,3] hc (by decide) (by decide) (by simp[yI,inN,pos,yW,zC]) (by simp[yR,xB,zC,inN,pos,yY,yJ]) ⟨[],by simp,by simp,?_⟩;simp[lv,ouN,kpI,kpR,pos,ren,zC,yW,yJ,yY])|((first|refine O _ ?_|refine O _ _ ?_|(clear O;refine O _ ?_));clear O)|(refine zJ fun K O=>?_)|((first|refine zH ?_|refine zN rfl (by kernel_rfl) ?_|refine zM ?_|refine zK (by kernel_rfl) ?_);simp only[vZ,vY,strip])|((first|refine wIs fun K O=>?_|refine wOs fun K O=>?_|refine wQs fun K O=>?_|refine zW ?_|refine zX ?_|refine zY ?_|refine zL ?_);simp)|(refine wIn ?_;refine And.intro (by kernel_rfl) ?_;try simp only[zZ])|refine zQ ?_|refine zS ?_|((first|refine zI ?_|refine zO ?_|refine zP ?_);try simp)|((first|refine zR ?_|refine wOn ?_|refine wQn ?_);try simp only[zZ])
 all_goals apply hr
 all_goals refine⟨[],by simp,by simp,?_⟩
 all_goals simp[Tryz.f77,wK,wP,yW,gaN]
def atI:List Int->Int->Nat
 |[],_=>0
 |x::r,s=>if x<s then atI r s+1 else 0
theorem atI_step {l:List Int}{k:Nat}(h:k<l.length)(s:Int):atI (l.drop k) s=if l[k]<s then atI (l.drop (k+1)) s+1 else 0:=by
 rw[List.drop_eq_getElem_cons h];rfl
theorem atI_but:∀ (l:List Int)(s:Int),atI l s<=(but l s).length
 |[],s=>by simp[atI]
 |x::r,s=>by
  have ih:=atI_but r s
  rw[atI]
  by_cases h:x<s
  ·rw[if_pos h]
   have:but (x::r) s=x::but r s:=by
    unfold but;rw[List.filter_cons_of_pos (by simp;omega)]
   rw[this];simp;exact ih
  ·rw[if_neg h];omega
def insI (l:List Int)(s:Int):List Int:=(but l s).take (atI l s)++s::(but l s).drop (atI l s)
def okS (s:Int):Bool:=decide (1<=s/\s<=1099511627776)
def opnL (l:List Int)(s:Int):List Int:=if okS s=true then insI l s else l
def opnN (nx s:Int):Int:=if okS s=true then max nx (s+1) else nx
theorem zis_ins (l:List Int)(s:Int):(zis (but l s)).take (atI l s)++[I s]::(zis (but l s)).drop (atI l s)=zis (insI l s):=by
 simp[zis,insI,List.map_take,List.map_drop]
set_option maxHeartbeats 1000000 in
theorem open_con (ns ms:List (List PV))(l:List Int)(nx e n k ae an s:Int)(hl:l.length<=1000000) :
 Con Tryz.prog 76 [.ptr 1024 0,.p (I s)] [.box 30 [.p (.sl 5 ns),.row 1025,.p (I nx),.p (I e),.p (I n),.p (I k),.p (.sl 4 ms),.p (I ae),.p (I an)],.row 3 1 (zis l)]
  (.ret (.tup []) [] [.box 30 [.p (.sl 5 ns),.row 1025,.p (I (opnN nx s)),.p (I e),.p (I n),.p (I k),.p (.sl 4 ms),.p (I ae),.p (I an)],.row 3 1 (zis (opnL l s))]):=by
 unfold opnN opnL okS
 by_cases h1:s<1
 ·rw[show decide (1<=s/\s<=1099511627776)=false from decide_eq_false (by omega)]
  simp only[Bool.false_eq_true,if_false]
  refine wBodyG Tryz.tab Tryz.mixed Tryz.func76 rfl rfl Tryz.ntmps76 (by simp) (by simp) fun Q hr hn hp=>?_
  repeat' first|((first|refine O _ ?_|refine O _ _ ?_|(clear O;refine O _ ?_));clear O)|(refine zJ fun K O=>?_)|((first|refine zH ?_|refine zN rfl (by kernel_rfl) ?_|refine zM ?_|refine zK (by kernel_rfl) ?_);simp only[vZ,vY,strip])|((first|refine wIs fun K O=>?_|refine wOs fun K O=>?_|refine wQs fun K O=>?_|refine zW ?_|refine zX ?_|refine zY ?_|refine zL ?_);simp[h1])|(refine wIn ?_;refine And.intro (by kernel_rfl) ?_;try simp only[zZ])|refine zQ ?_|refine zS ?_|((first|refine zI ?_|refine zO ?_|refine zP ?_);try simp)|((first|refine zR ?_|refine wOn ?_|refine wQn ?_);try simp only[zZ])
  all_goals apply hr
  all_goals refine⟨[],by simp,by simp,?_⟩
  all_goals simp[Tryz.f76,wK,wP,yW,gaN]
 by_cases h2:1099511627776<s
 ·rw[show decide (1<=s/\s<=1099511627776)=false from decide_eq_false (by omega)]
  simp only[Bool.false_eq_true,if_false]
  refine wBodyG Tryz.tab Tryz.mixed Tryz.func76 rfl rfl Tryz.ntmps76 (by simp) (by simp) fun Q hr hn hp=>?_
  repeat' first|((first|refine O _ ?_|refine O _ _ ?_|(clear O;refine O _ ?_));clear O)|(refine zJ fun K O=>?_)|((first|refine zH ?_|refine zN rfl (by kernel_rfl) ?_|refine zM ?_|refine zK (by kernel_rfl) ?_);simp only[vZ,vY,strip])|((first|refine wIs fun K O=>?_|refine wOs fun K O=>?_|refine wQs fun K O=>?_|refine zW ?_|refine zX ?_|refine zY ?_|refine zL ?_);simp[h1,h2])|(refine wIn ?_;refine And.intro (by kernel_rfl) ?_;try simp only[zZ])|refine zQ ?_|refine zS ?_|((first|refine zI ?_|refine zO ?_|refine zP ?_);try simp)|((first|refine zR ?_|refine wOn ?_|refine wQn ?_);try simp only[zZ])
  all_goals apply hr
  all_goals refine⟨[],by simp,by simp,?_⟩
  all_goals simp[Tryz.f76,wK,wP,yW,gaN]
 rw[show decide (1<=s/\s<=1099511627776)=true from decide_eq_true (by omega)]
 simp only[if_true]
 have hc:=without_con l s hl
 have hbl:=but_len l s
 have hi:=insert_con (zis (but l s)) (atI l s) [I s] (by rw[zis_len];exact atI_but l s) (by rw[zis_len];omega) rfl
 rw[zis_ins] at hi
 have hw1:IntKind.i64.wrap (s+1)=s+1:=by rw[zF] <;> omega
 refine wBodyG Tryz.tab Tryz.mixed Tryz.func76 rfl rfl Tryz.ntmps76 (by simp) (by simp) fun Q hr hn hp=>?_
 repeat' first|((first|refine O _ ?_|refine O _ _ ?_|(clear O;refine O _ ?_));clear O)|(refine zJ fun K O=>?_)|((first|refine zH ?_|refine zN rfl (by kernel_rfl) ?_|refine zM ?_|refine zK (by kernel_rfl) ?_);simp only[vZ,vY,strip])|((first|refine wIs fun K O=>?_|refine wOs fun K O=>?_|refine wQs fun K O=>?_|refine zW ?_|refine zX ?_|refine zY ?_|refine zL ?_);simp[h1,h2])|(refine wIn ?_;refine And.intro (by kernel_rfl) ?_;try simp only[zZ])|refine zQ ?_|refine zS ?_|((first|refine zI ?_|refine zO ?_|refine zP ?_);try simp)|((first|refine zR ?_|refine wOn ?_|refine wQn ?_);try simp only[zZ])
 refine yT (fun N st=>∃q,q+N=l.length/\atI l s=q+atI (l.drop q) s/\st.s 0=.ptr 1024 0/\st.s 1=.p (I s)/\st.s 4=.p (I q)/\st.b 1025=some (.row 3 1 (zis l))/\st.b 1024=some (.box 30 [.p (.sl 5 ns),.row 1025,.p (I nx),.p (I e),.p (I n),.p (I k),.p (.sl 4 ms),.p (I ae),.p (I an)])) l.length ⟨0,by simp⟩ fun K N st hL ⟨q,hq,hat,g0,g1,g4,b1,b0⟩=>?_
 have hend:atI (l.drop q) s=0->atI l s=q:=fun h=>by omega
 by_cases hlt:q<l.length
 ·have hw:=wrapX q _ hlt (by omega)
  have he:=zis_get hlt
  have hs:=atI_step hlt s
  by_cases o:l[q]<s
  ·rw[if_pos o] at hs
   repeat' first|((first|refine O _ ?_|refine O _ _ ?_|(clear O;refine O _ ?_));clear O)|(refine zJ fun K O=>?_)|((first|refine zH ?_|refine zN rfl (by kernel_rfl) ?_|refine zM ?_|refine zK (by kernel_rfl) ?_);simp only[vZ,vY,strip])|((first|refine wIs fun K O=>?_|refine wOs fun K O=>?_|refine wQs fun K O=>?_|refine zW ?_|refine zX ?_|refine zY ?_|refine zL ?_);simp[g0,g1,g4,b0,b1,hlt,hw,he,o])|(refine wIn ?_;refine And.intro (by kernel_rfl) ?_;try simp only[zZ])|refine zQ ?_|refine zS ?_|((first|refine zI ?_|refine zO ?_|refine zP ?_);try simp)|((first|refine zR ?_|refine wOn ?_|refine wQn ?_);try simp only[zZ])
   refine hL _ (N-1) (by omega) ⟨q+1,by omega,by omega,?_⟩
   simp[g0,g1,g4,b0,b1,hw]
  ·rw[if_neg o] at hs
   rw[hend hs] at hi
   repeat' first|(refine wF [1025] hc (by decide) (by decide) (by simp[yI,inN,pos,yW,zC,b1]) (by simp[yR,xB,zC,inN,pos,yY,yJ]) ⟨[],by simp,by simp,?_⟩;simp[lv,ouN,kpI,kpR,pos,ren,zC,yW,yJ,yY,g0,g1,g4,b0,b1])|(refine wF [1025] hi (by decide) (by decide) (by simp[yI,inN,pos,yW,zC,lv,ouN,kpI,kpR,b1]) (by simp[yR,xB,zC,inN,pos,yY,yJ]) ⟨[],by simp,by simp,?_⟩;simp[lv,ouN,kpI,kpR,pos,ren,zC,yW,yJ,yY,g0,g1,g4,b0,b1])|((first|refine O _ ?_|refine O _ _ ?_|(clear O;refine O _ ?_));clear O)|(refine zJ fun K O=>?_)|((first|refine zH ?_|refine zN rfl (by kernel_rfl) ?_|refine zM ?_|refine zK (by kernel_rfl) ?_);simp only[vZ,vY,strip])|((first|refine wIs fun K O=>?_|refine wOs fun K O=>?_|refine wQs fun K O=>?_|refine zW ?_|refine zX ?_|refine zY ?_|refine zL ?_);simp[g0,g1,g4,b0,b1,hlt,hw,he,o,hw1,lv,ouN,kpI,kpR,pos,ren,zC,yW,yJ,yY])|(refine wIn ?_;refine And.intro (by kernel_rfl) ?_;try simp only[zZ])|refine zQ ?_|refine zS ?_|((first|refine zI ?_|refine zO ?_|refine zP ?_);try simp)|((first|refine zR ?_|refine wOn ?_|refine wQn ?_);try simp only[zZ])
   all_goals first|apply hr|apply hn
   all_goals refine⟨[],by simp,by simp,?_⟩
   all_goals simp[Tryz.f76,wK,wP,yW,gaN,lv,ouN,kpI,kpR,pos,ren,zC,yJ,yY,b0,b1]
   all_goals (split <;> omega)
 ·have hql:q=l.length:=by omega
  have hs:atI (l.drop q) s=0:=by rw[List.drop_eq_nil_of_le (by omega)];rfl
  rw[hend hs] at hi
  repeat' first|(refine wF [1025] hc (by decide) (by decide) (by simp[yI,inN,pos,yW,zC,b1]) (by simp[yR,xB,zC,inN,pos,yY,yJ]) ⟨[],by simp,by simp,?_⟩;simp[lv,ouN,kpI,kpR,pos,ren,zC,yW,yJ,yY,g0,g1,g4,b0,b1])|(refine wF [1025] hi (by decide) (by decide) (by simp[yI,inN,pos,yW,zC,lv,ouN,kpI,kpR,b1]) (by simp[yR,xB,zC,inN,pos,yY,yJ]) ⟨[],by simp,by simp,?_⟩;simp[lv,ouN,kpI,kpR,pos,ren,zC,yW,yJ,yY,g0,g1,g4,b0,b1])|((first|refine O _ ?_|refine O _ _ ?_|(clear O;refine O _ ?_));clear O)|(refine zJ fun K O=>?_)|((first|refine zH ?_|refine zN rfl (by kernel_rfl) ?_|refine zM ?_|refine zK (by kernel_rfl) ?_);simp only[vZ,vY,strip])|((first|refine wIs fun K O=>?_|refine wOs fun K O=>?_|refine wQs fun K O=>?_|refine zW ?_|refine zX ?_|refine zY ?_|refine zL ?_);simp[g0,g1,g4,b0,b1,hlt,hw1,lv,ouN,kpI,kpR,pos,ren,zC,yW,yJ,yY])|(refine wIn ?_;refine And.intro (by kernel_rfl) ?_;try simp only[zZ])|refine zQ ?_|refine zS ?_|((first|refine zI ?_|refine zO ?_|refine zP ?_);try simp)|((first|refine zR ?_|refine wOn ?_|refine wQn ?_);try simp only[zZ])
  all_goals first|apply hr|apply hn
  all_goals refine⟨[],by simp,by simp,?_⟩
  all_goals simp[Tryz.f76,wK,wP,yW,gaN,lv,ouN,kpI,kpR,pos,ren,zC,yJ,yY,b0,b1]
  all_goals (split <;> omega)
abbrev RCon (g:FuncId)(args:List V)(e c:Nat)(l:List (List PV)):Prop:=Con Tryz.prog g args [] (.ret (.row 2048) [.row e c l] [])
end Go.Proofs.YtedbbcmokbogpaaGreatDoor
namespace Go.Proofs.YtedbbcmokbogpaaGreatDoor
open Go Go.Av
theorem yA (k n:Nat)(h:k<n)(hn:n<=9223372036854775807):IntKind.i64.wrap ((k:Int)+1)=((k+1:Nat):Int):=by
 rw[zF] <;> omega
end Go.Proofs.YtedbbcmokbogpaaGreatDoor
namespace Go.Proofs.YtedbbcmokbogpaaGreatDoor
set_option linter.unusedSimpArgs false
set_option linter.unusedVariables false
open Go Go.Av
attribute [local irreducible] Go.Av.yP Go.Av.zU Go.Av.yN Go.Av.zT Go.Av.yO Go.Av.zV Go.Av.Con
theorem take_snoc {α:Type}(l:List α)(k:Nat)(h:k<l.length):l.take (k+1)=l.take k++[l[k]]:=List.take_succ_eq_append_getElem h
def idx (n:Int):List Int->Nat->Int
 |[],_=>-1
 |a::l,k=>if n=a then k else idx n l (k+1)
theorem idx_mem (n:Int):∀ (l:List Int)(k:Nat),decide (0<=idx n l k)=decide (n∈l)
 |[],k=>by simp[idx]
 |a::l,k=>by
  by_cases h:n=a
  ·subst h;simp[idx]
  ·simp[idx,h,idx_mem n l (k+1)]
def ints (l:List Int):List (List PV):=l.map fun n=>[I n]
@[simp] theorem ints_len (l:List Int):(ints l).length=l.length:=by simp[ints]
@[simp] theorem ints_getElem (l:List Int)(k:Nat)(h:k<(ints l).length):(ints l)[k]=[I (l[k]'(by simpa using h))]:=by simp[ints]
theorem ints_get {l:List Int}{k:Nat}(h:k<l.length):(ints l)[k]?=some [I l[k]]:=by simp[ints,h]
theorem index_con (l:List Int)(n:Int):zD Tryz.prog 47 [.p (.sl 1 (ints l)),.p (I n)] (.p (I (idx n l 0))):=by
 refine zD.len ⟨Tryz.f47,Tryz.func47,rfl,rfl⟩ 0 _ _ rfl fun hlen=>?_
 simp only[ints_len] at hlen
 refine zG Tryz.tab Tryz.mixed Tryz.func47 rfl rfl Tryz.ntmps47 (by simp) (by simp) fun Q hr hn=>?_
 repeat' first|((first|refine O _ ?_|refine O _ _ ?_|(clear O;refine O _ ?_));clear O)|(refine zJ fun K O=>?_)|((first|refine zH ?_|refine zN rfl (by kernel_rfl) ?_|refine zM ?_|refine zK (by kernel_rfl) ?_);simp only[vZ,vY,strip])|((first|refine wIs fun K O=>?_|refine wOs fun K O=>?_|refine wQs fun K O=>?_|refine zW ?_|refine zX ?_|refine zY ?_|refine zL ?_);simp)|(refine wIn ?_;refine And.intro (by kernel_rfl) ?_;try simp only[zZ])|refine zQ ?_|refine zS ?_|((first|refine zI ?_|refine zO ?_|refine zP ?_);try simp)|((first|refine zR ?_|refine wOn ?_|refine wQn ?_);try simp only[zZ])
 refine yT (fun N st=>∃k,k+N=l.length/\st.s 0=.p (.sl 1 (ints l))/\st.s 1=.p (I n)/\st.s 7=.p (I l.length)/\st.s 8=.p (I k)/\idx n (l.drop k) k=idx n l 0) l.length ⟨0,by simp⟩ fun K N st hL ⟨k,hk,h0,h1,h7,h8,hi⟩=>?_
 by_cases hlt:k<l.length
 ·have hw:=yA k _ hlt hlen
  have he:=ints_get hlt
  rw[List.drop_eq_getElem_cons hlt,idx] at hi
  repeat' first|((first|refine O _ ?_|refine O _ _ ?_|(clear O;refine O _ ?_));clear O)|(refine zJ fun K O=>?_)|((first|refine zH ?_|refine zN rfl (by kernel_rfl) ?_|refine zM ?_|refine zK (by kernel_rfl) ?_);simp only[vZ,vY,strip])|((first|refine wIs fun K O=>?_|refine wOs fun K O=>?_|refine wQs fun K O=>?_|refine zW ?_|refine zX ?_|refine zY ?_|refine zL ?_);simp[h0,h1,h7,h8,hlt,hw,he])|(refine wIn ?_;refine And.intro (by kernel_rfl) ?_;try simp only[zZ])|refine zQ ?_|refine zS ?_|((first|refine zI ?_|refine zO ?_|refine zP ?_);try simp)|((first|refine zR ?_|refine wOn ?_|refine wQn ?_);try simp only[zZ])|(refine And.intro (fun hc=>?_) (fun hc=>?_))
  ·apply hr
   rw[if_pos hc] at hi
   simp[Tryz.f47,hi]
  ·rw[if_neg hc] at hi
   refine hL _ (N-1) (by omega) ⟨k+1,by omega,?_⟩
   simp[h0,h1,h7,hw,hi]
 ·have hd:l.drop k=[]:=List.drop_of_length_le (by omega)
  rw[hd] at hi
  repeat' first|((first|refine O _ ?_|refine O _ _ ?_|(clear O;refine O _ ?_));clear O)|(refine zJ fun K O=>?_)|((first|refine zH ?_|refine zN rfl (by kernel_rfl) ?_|refine zM ?_|refine zK (by kernel_rfl) ?_);simp only[vZ,vY,strip])|((first|refine wIs fun K O=>?_|refine wOs fun K O=>?_|refine wQs fun K O=>?_|refine zW ?_|refine zX ?_|refine zY ?_|refine zL ?_);simp[h0,h1,h7,h8,hlt])|(refine wIn ?_;refine And.intro (by kernel_rfl) ?_;try simp only[zZ])|refine zQ ?_|refine zS ?_|((first|refine zI ?_|refine zO ?_|refine zP ?_);try simp)|((first|refine zR ?_|refine wOn ?_|refine wQn ?_);try simp only[zZ])
  apply hr
  simp[Tryz.f47,<- hi,idx]
theorem wB (l:List Int)(n:Int):zD Tryz.prog 23 [.p (.sl 1 (ints l)),.p (I n)] (.p (B (decide (n∈l)))):=by
 have h:=index_con l n
 have hz:=idx_mem n l 0
 generalize idx n l 0=z at h hz
 rw[<- hz]
 refine zG Tryz.tab Tryz.mixed Tryz.func23 rfl rfl Tryz.ntmps23 (by simp) (by simp) fun Q hr hn=>?_
 repeat' first|((first|refine O _ ?_|refine O _ _ ?_|(clear O;refine O _ ?_));clear O)|(refine zJ fun K O=>?_)|((first|refine zH ?_|refine zN rfl (by kernel_rfl) ?_|refine zM ?_|refine zK (by kernel_rfl) ?_);simp only[vZ,vY,strip])|((first|refine wIs fun K O=>?_|refine wOs fun K O=>?_|refine wQs fun K O=>?_|refine zW ?_|refine zX ?_|refine zY ?_|refine zL ?_);simp)|(refine wIn ?_;refine And.intro (by kernel_rfl) ?_;try simp only[zZ])|refine zQ ?_|refine zS ?_|((first|refine zI ?_|refine zO ?_|refine zP ?_);try simp)|((first|refine zR ?_|refine wOn ?_|refine wQn ?_);try simp only[zZ])|refine zU.p h rfl ?_|refine zU.l h rfl ?_|refine zT.p h rfl ?_|refine zT.l h rfl ?_|refine zU.o h ?_|refine zV.p h rfl ?_|refine zV.l h rfl ?_|refine zV.o h ?_
 apply hr
 simp[Tryz.f23]
structure Mb where
 (i r w g:Int)
 deriving DecidableEq
def Mb.cells (m:Mb):List PV:=[I m.i,I m.r,I m.w,I m.g]
def mbs (l:List Mb):List (List PV):=l.map Mb.cells
@[simp] theorem mbs_len (l:List Mb):(mbs l).length=l.length:=by simp[mbs]
@[simp] theorem mbs_getElem (l:List Mb)(k:Nat)(h:k<(mbs l).length):(mbs l)[k]=[I (l[k]'(by simpa using h)).i,I (l[k]'(by simpa using h)).r,I (l[k]'(by simpa using h)).w,I (l[k]'(by simpa using h)).g]:=by simp[mbs,Mb.cells]
theorem mbs_get {l:List Mb}{k:Nat}(h:k<l.length):(mbs l)[k]?=some [I l[k].i,I l[k].r,I l[k].w,I l[k].g]:=by simp[mbs,h,Mb.cells]
structure Cf where
 (ep n kind:Int)
 ms:List Mb
def Cf.cells (c:Cf):List PV:=[I c.ep,I c.n,I c.kind,.sl 4 (mbs c.ms)]
def okM (m:Mb):Prop:=(0<=m.i/\m.i<=15)/\(m.r=1\/m.r=2)/\(0<=m.w/\m.w<=100)/\(0<=m.g/\m.g<=7)
instance (m:Mb):Decidable (okM m):=by unfold okM;infer_instance
theorem within_con (n l:Int):zD Tryz.prog 41 [.p (I n),.p (I l)] (.p (B (decide (0<=n/\n<=l)))):=by
 by_cases h:0<=n
 ·refine zG Tryz.tab Tryz.mixed Tryz.func41 rfl rfl Tryz.ntmps41 (by simp) (by simp) fun Q hr hn=>?_
  repeat' first|((first|refine O _ ?_|refine O _ _ ?_|(clear O;refine O _ ?_));clear O)|(refine zJ fun K O=>?_)|((first|refine zH ?_|refine zN rfl (by kernel_rfl) ?_|refine zM ?_|refine zK (by kernel_rfl) ?_);simp only[vZ,vY,strip])|((first|refine wIs fun K O=>?_|refine wOs fun K O=>?_|refine wQs fun K O=>?_|refine zW ?_|refine zX ?_|refine zY ?_|refine zL ?_);simp[h])|(refine wIn ?_;refine And.intro (by kernel_rfl) ?_;try simp only[zZ])|refine zQ ?_|refine zS ?_|((first|refine zI ?_|refine zO ?_|refine zP ?_);try simp)|((first|refine zR ?_|refine wOn ?_|refine wQn ?_);try simp only[zZ])
  all_goals apply hr
  all_goals simp[Tryz.f41,h]
 ·refine zG Tryz.tab Tryz.mixed Tryz.func41 rfl rfl Tryz.ntmps41 (by simp) (by simp) fun Q hr hn=>?_
  repeat' first|((first|refine O _ ?_|refine O _ _ ?_|(clear O;refine O _ ?_));clear O)|(refine zJ fun K O=>?_)|((first|refine zH ?_|refine zN rfl (by kernel_rfl) ?_|refine zM ?_|refine zK (by kernel_rfl) ?_);simp only[vZ,vY,strip])|((first|refine wIs fun K O=>?_|refine wOs fun K O=>?_|refine wQs fun K O=>?_|refine zW ?_|refine zX ?_|refine zY ?_|refine zL ?_);simp[h])|(refine wIn ?_;refine And.intro (by kernel_rfl) ?_;try simp only[zZ])|refine zQ ?_|refine zS ?_|((first|refine zI ?_|refine zO ?_|refine zP ?_);try simp)|((first|refine zR ?_|refine wOn ?_|refine wQn ?_);try simp only[zZ])
  all_goals apply hr
  all_goals simp[Tryz.f41,h]
theorem rightM_con (m:Mb):zD Tryz.prog 42 [.p (.agg m.cells)] (.p (B (decide (okM m)))):=by
 obtain⟨i,r,w,g⟩:=m
 simp only[Mb.cells,okM]
 have c1:=within_con i 15
 have c2:=within_con w 100
 have c3:=within_con g 7
 by_cases h1:0<=i/\i<=15
 ·rw[decide_eq_true h1] at c1
  by_cases h2:r=1
  ·by_cases h3:0<=w/\w<=100
   ·rw[decide_eq_true h3] at c2
    refine zG Tryz.tab Tryz.mixed Tryz.func42 rfl rfl Tryz.ntmps42 (by simp) (by simp) fun Q hr hn=>?_
    repeat' first|((first|refine O _ ?_|refine O _ _ ?_|(clear O;refine O _ ?_));clear O)|(refine zJ fun K O=>?_)|((first|refine zH ?_|refine zN rfl (by kernel_rfl) ?_|refine zM ?_|refine zK (by kernel_rfl) ?_);simp only[vZ,vY,strip])|((first|refine wIs fun K O=>?_|refine wOs fun K O=>?_|refine wQs fun K O=>?_|refine zW ?_|refine zX ?_|refine zY ?_|refine zL ?_);simp[h1,h2,h3])|(refine wIn ?_;refine And.intro (by kernel_rfl) ?_;try simp only[zZ])|refine zQ ?_|refine zS ?_|((first|refine zI ?_|refine zO ?_|refine zP ?_);try simp)|((first|refine zR ?_|refine wOn ?_|refine wQn ?_);try simp only[zZ])|refine zU.p c1 rfl ?_|refine zU.l c1 rfl ?_|refine zT.p c1 rfl ?_|refine zT.l c1 rfl ?_|refine zU.o c1 ?_|refine zV.p c1 rfl ?_|refine zV.l c1 rfl ?_|refine zV.o c1 ?_|refine zU.p c2 rfl ?_|refine zU.l c2 rfl ?_|refine zT.p c2 rfl ?_|refine zT.l c2 rfl ?_|refine zU.o c2 ?_|refine zV.p c2 rfl ?_|refine zV.l c2 rfl ?_|refine zV.o c2 ?_|refine zU.p c3 rfl ?_|refine zU.l c3 rfl ?_|refine zT.p c3 rfl ?_|refine zT.l c3 rfl ?_|refine zU.o c3 ?_|refine zV.p c3 rfl ?_|refine zV.l c3 rfl ?_|refine zV.o c3 ?_
    all_goals apply hr
    all_goals simp[Tryz.f42,h1,h2,h3]
   ·rw[decide_eq_false h3] at c2
    refine zG Tryz.tab Tryz.mixed Tryz.func42 rfl rfl Tryz.ntmps42 (by simp) (by simp) fun Q hr hn=>?_
    repeat' first|((first|refine O _ ?_|refine O _ _ ?_|(clear O;refine O _ ?_));clear O)|(refine zJ fun K O=>?_)|((first|refine zH ?_|refine zN rfl (by kernel_rfl) ?_|refine zM ?_|refine zK (by kernel_rfl) ?_);simp only[vZ,vY,strip])|((first|refine wIs fun K O=>?_|refine wOs fun K O=>?_|refine wQs fun K O=>?_|refine zW ?_|refine zX ?_|refine zY ?_|refine zL ?_);simp[h1,h2])|(refine wIn ?_;refine And.intro (by kernel_rfl) ?_;try simp only[zZ])|refine zQ ?_|refine zS ?_|((first|refine zI ?_|refine zO ?_|refine zP ?_);try simp)|((first|refine zR ?_|refine wOn ?_|refine wQn ?_);try simp only[zZ])|refine zU.p c1 rfl ?_|refine zU.l c1 rfl ?_|refine zT.p c1 rfl ?_|refine zT.l c1 rfl ?_|refine zU.o c1 ?_|refine zV.p c1 rfl ?_|refine zV.l c1 rfl ?_|refine zV.o c1 ?_|refine zU.p c2 rfl ?_|refine zU.l c2 rfl ?_|refine zT.p c2 rfl ?_|refine zT.l c2 rfl ?_|refine zU.o c2 ?_|refine zV.p c2 rfl ?_|refine zV.l c2 rfl ?_|refine zV.o c2 ?_
    all_goals apply hr
    all_goals simp[Tryz.f42,h1,h2,h3]
  ·by_cases h2':r=2
   ·by_cases h3:0<=w/\w<=100
    ·rw[decide_eq_true h3] at c2
     refine zG Tryz.tab Tryz.mixed Tryz.func42 rfl rfl Tryz.ntmps42 (by simp) (by simp) fun Q hr hn=>?_
     repeat' first|((first|refine O _ ?_|refine O _ _ ?_|(clear O;refine O _ ?_));clear O)|(refine zJ fun K O=>?_)|((first|refine zH ?_|refine zN rfl (by kernel_rfl) ?_|refine zM ?_|refine zK (by kernel_rfl) ?_);simp only[vZ,vY,strip])|((first|refine wIs fun K O=>?_|refine wOs fun K O=>?_|refine wQs fun K O=>?_|refine zW ?_|refine zX ?_|refine zY ?_|refine zL ?_);simp[h1,h2,h2',h3])|(refine wIn ?_;refine And.intro (by kernel_rfl) ?_;try simp only[zZ])|refine zQ ?_|refine zS ?_|((first|refine zI ?_|refine zO ?_|refine zP ?_);try simp)|((first|refine zR ?_|refine wOn ?_|refine wQn ?_);try simp only[zZ])|refine zU.p c1 rfl ?_|refine zU.l c1 rfl ?_|refine zT.p c1 rfl ?_|refine zT.l c1 rfl ?_|refine zU.o c1 ?_|refine zV.p c1 rfl ?_|refine zV.l c1 rfl ?_|refine zV.o c1 ?_|refine zU.p c2 rfl ?_|refine zU.l c2 rfl ?_|refine zT.p c2 rfl ?_|refine zT.l c2 rfl ?_|refine zU.o c2 ?_|refine zV.p c2 rfl ?_|refine zV.l c2 rfl ?_|refine zV.o c2 ?_|refine zU.p c3 rfl ?_|refine zU.l c3 rfl ?_|refine zT.p c3 rfl ?_|refine zT.l c3 rfl ?_|refine zU.o c3 ?_|refine zV.p c3 rfl ?_|refine zV.l c3 rfl ?_|refine zV.o c3 ?_
     all_goals apply hr
     all_goals simp[Tryz.f42,h1,h2,h2',h3]
    ·rw[decide_eq_false h3] at c2
     refine zG Tryz.tab Tryz.mixed Tryz.func42 rfl rfl Tryz.ntmps42 (by simp) (by simp) fun Q hr hn=>?_
     repeat' first|((first|refine O _ ?_|refine O _ _ ?_|(clear O;refine O _ ?_));clear O)|(refine zJ fun K O=>?_)|((first|refine zH ?_|refine zN rfl (by kernel_rfl) ?_|refine zM ?_|refine zK (by kernel_rfl) ?_);simp only[vZ,vY,strip])|((first|refine wIs fun K O=>?_|refine wOs fun K O=>?_|refine wQs fun K O=>?_|refine zW ?_|refine zX ?_|refine zY ?_|refine zL ?_);simp[h1,h2,h2'])|(refine wIn ?_;refine And.intro (by kernel_rfl) ?_;try simp only[zZ])|refine zQ ?_|refine zS ?_|((first|refine zI ?_|refine zO ?_|refine zP ?_);try simp)|((first|refine zR ?_|refine wOn ?_|refine wQn ?_);try simp only[zZ])|refine zU.p c1 rfl ?_|refine zU.l c1 rfl ?_|refine zT.p c1 rfl ?_|refine zT.l c1 rfl ?_|refine zU.o c1 ?_|refine zV.p c1 rfl ?_|refine zV.l c1 rfl ?_|refine zV.o c1 ?_|refine zU.p c2 rfl ?_|refine zU.l c2 rfl ?_|refine zT.p c2 rfl ?_|refine zT.l c2 rfl ?_|refine zU.o c2 ?_|refine zV.p c2 rfl ?_|refine zV.l c2 rfl ?_|refine zV.o c2 ?_
     all_goals apply hr
     all_goals simp[Tryz.f42,h1,h2,h2',h3]
   ·refine zG Tryz.tab Tryz.mixed Tryz.func42 rfl rfl Tryz.ntmps42 (by simp) (by simp) fun Q hr hn=>?_
    repeat' first|((first|refine O _ ?_|refine O _ _ ?_|(clear O;refine O _ ?_));clear O)|(refine zJ fun K O=>?_)|((first|refine zH ?_|refine zN rfl (by kernel_rfl) ?_|refine zM ?_|refine zK (by kernel_rfl) ?_);simp only[vZ,vY,strip])|((first|refine wIs fun K O=>?_|refine wOs fun K O=>?_|refine wQs fun K O=>?_|refine zW ?_|refine zX ?_|refine zY ?_|refine zL ?_);simp[h1,h2,h2'])|(refine wIn ?_;refine And.intro (by kernel_rfl) ?_;try simp only[zZ])|refine zQ ?_|refine zS ?_|((first|refine zI ?_|refine zO ?_|refine zP ?_);try simp)|((first|refine zR ?_|refine wOn ?_|refine wQn ?_);try simp only[zZ])|refine zU.p c1 rfl ?_|refine zU.l c1 rfl ?_|refine zT.p c1 rfl ?_|refine zT.l c1 rfl ?_|refine zU.o c1 ?_|refine zV.p c1 rfl ?_|refine zV.l c1 rfl ?_|refine zV.o c1 ?_
    all_goals apply hr
    all_goals simp[Tryz.f42,h1,h2,h2']
 ·rw[decide_eq_false h1] at c1
  refine zG Tryz.tab Tryz.mixed Tryz.func42 rfl rfl Tryz.ntmps42 (by simp) (by simp) fun Q hr hn=>?_
  repeat' first|((first|refine O _ ?_|refine O _ _ ?_|(clear O;refine O _ ?_));clear O)|(refine zJ fun K O=>?_)|((first|refine zH ?_|refine zN rfl (by kernel_rfl) ?_|refine zM ?_|refine zK (by kernel_rfl) ?_);simp only[vZ,vY,strip])|((first|refine wIs fun K O=>?_|refine wOs fun K O=>?_|refine wQs fun K O=>?_|refine zW ?_|refine zX ?_|refine zY ?_|refine zL ?_);simp[h1])|(refine wIn ?_;refine And.intro (by kernel_rfl) ?_;try simp only[zZ])|refine zQ ?_|refine zS ?_|((first|refine zI ?_|refine zO ?_|refine zP ?_);try simp)|((first|refine zR ?_|refine wOn ?_|refine wQn ?_);try simp only[zZ])|refine zU.p c1 rfl ?_|refine zU.l c1 rfl ?_|refine zT.p c1 rfl ?_|refine zT.l c1 rfl ?_|refine zU.o c1 ?_|refine zV.p c1 rfl ?_|refine zV.l c1 rfl ?_|refine zV.o c1 ?_
  all_goals apply hr
  all_goals simp[Tryz.f42,h1]
set_option maxHeartbeats 8000000 in
theorem ok04_con (m:Mb):zD Tryz.prog 45 [.p (.agg m.cells)] (.p (B (decide (okM m)))):=by
 obtain⟨i,r,w,g⟩:=m
 simp only[Mb.cells,okM]
 by_cases h1:0<=i
 ·by_cases h2:i<16
  ·by_cases h3:r=1
   ·by_cases h4:0<=w
    ·by_cases h5:w<=100
     ·by_cases h6:0<=g
      ·refine zG Tryz.tab Tryz.mixed Tryz.func45 rfl rfl Tryz.ntmps45 (by simp) (by simp) fun Q hr hn=>?_
       repeat' first|((first|refine O _ ?_|refine O _ _ ?_|(clear O;refine O _ ?_));clear O)|(refine zJ fun K O=>?_)|((first|refine zH ?_|refine zN rfl (by kernel_rfl) ?_|refine zM ?_|refine zK (by kernel_rfl) ?_);simp only[vZ,vY,strip])|((first|refine wIs fun K O=>?_|refine wOs fun K O=>?_|refine wQs fun K O=>?_|refine zW ?_|refine zX ?_|refine zY ?_|refine zL ?_);simp[h1,h2,h3,h4,h5,h6])|(refine wIn ?_;refine And.intro (by kernel_rfl) ?_;try simp only[zZ])|refine zQ ?_|refine zS ?_|((first|refine zI ?_|refine zO ?_|refine zP ?_);try simp)|((first|refine zR ?_|refine wOn ?_|refine wQn ?_);try simp only[zZ])
       all_goals apply hr
       all_goals simp[Tryz.f45,h1,h2,h3,h4,h5,h6]
       all_goals omega
      ·refine zG Tryz.tab Tryz.mixed Tryz.func45 rfl rfl Tryz.ntmps45 (by simp) (by simp) fun Q hr hn=>?_
       repeat' first|((first|refine O _ ?_|refine O _ _ ?_|(clear O;refine O _ ?_));clear O)|(refine zJ fun K O=>?_)|((first|refine zH ?_|refine zN rfl (by kernel_rfl) ?_|refine zM ?_|refine zK (by kernel_rfl) ?_);simp only[vZ,vY,strip])|((first|refine wIs fun K O=>?_|refine wOs fun K O=>?_|refine wQs fun K O=>?_|refine zW ?_|refine zX ?_|refine zY ?_|refine zL ?_);simp[h1,h2,h3,h4,h5,h6])|(refine wIn ?_;refine And.intro (by kernel_rfl) ?_;try simp only[zZ])|refine zQ ?_|refine zS ?_|((first|refine zI ?_|refine zO ?_|refine zP ?_);try simp)|((first|refine zR ?_|refine wOn ?_|refine wQn ?_);try simp only[zZ])
       all_goals apply hr
       all_goals simp[Tryz.f45,h1,h2,h3,h4,h5,h6]
     ·refine zG Tryz.tab Tryz.mixed Tryz.func45 rfl rfl Tryz.ntmps45 (by simp) (by simp) fun Q hr hn=>?_
      repeat' first|((first|refine O _ ?_|refine O _ _ ?_|(clear O;refine O _ ?_));clear O)|(refine zJ fun K O=>?_)|((first|refine zH ?_|refine zN rfl (by kernel_rfl) ?_|refine zM ?_|refine zK (by kernel_rfl) ?_);simp only[vZ,vY,strip])|((first|refine wIs fun K O=>?_|refine wOs fun K O=>?_|refine wQs fun K O=>?_|refine zW ?_|refine zX ?_|refine zY ?_|refine zL ?_);simp[h1,h2,h3,h4,h5])|(refine wIn ?_;refine And.intro (by kernel_rfl) ?_;try simp only[zZ])|refine zQ ?_|refine zS ?_|((first|refine zI ?_|refine zO ?_|refine zP ?_);try simp)|((first|refine zR ?_|refine wOn ?_|refine wQn ?_);try simp only[zZ])
      all_goals apply hr
      all_goals simp[Tryz.f45,h1,h2,h3,h4,h5]
    ·refine zG Tryz.tab Tryz.mixed Tryz.func45 rfl rfl Tryz.ntmps45 (by simp) (by simp) fun Q hr hn=>?_
     repeat' first|((first|refine O _ ?_|refine O _ _ ?_|(clear O;refine O _ ?_));clear O)|(refine zJ fun K O=>?_)|((first|refine zH ?_|refine zN rfl (by kernel_rfl) ?_|refine zM ?_|refine zK (by kernel_rfl) ?_);simp only[vZ,vY,strip])|((first|refine wIs fun K O=>?_|refine wOs fun K O=>?_|refine wQs fun K O=>?_|refine zW ?_|refine zX ?_|refine zY ?_|refine zL ?_);simp[h1,h2,h3,h4])|(refine wIn ?_;refine And.intro (by kernel_rfl) ?_;try simp only[zZ])|refine zQ ?_|refine zS ?_|((first|refine zI ?_|refine zO ?_|refine zP ?_);try simp)|((first|refine zR ?_|refine wOn ?_|refine wQn ?_);try simp only[zZ])
     all_goals apply hr
     all_goals simp[Tryz.f45,h1,h2,h3,h4]
   ·by_cases h3':r=2
    ·by_cases h4:0<=w
     ·by_cases h5:w<=100
      ·by_cases h6:0<=g
       ·refine zG Tryz.tab Tryz.mixed Tryz.func45 rfl rfl Tryz.ntmps45 (by simp) (by simp) fun Q hr hn=>?_
        repeat' first|((first|refine O _ ?_|refine O _ _ ?_|(clear O;refine O _ ?_));clear O)|(refine zJ fun K O=>?_)|((first|refine zH ?_|refine zN rfl (by kernel_rfl) ?_|refine zM ?_|refine zK (by kernel_rfl) ?_);simp only[vZ,vY,strip])|((first|refine wIs fun K O=>?_|refine wOs fun K O=>?_|refine wQs fun K O=>?_|refine zW ?_|refine zX ?_|refine zY ?_|refine zL ?_);simp[h1,h2,h3,h3',h4,h5,h6])|(refine wIn ?_;refine And.intro (by kernel_rfl) ?_;try simp only[zZ])|refine zQ ?_|refine zS ?_|((first|refine zI ?_|refine zO ?_|refine zP ?_);try simp)|((first|refine zR ?_|refine wOn ?_|refine wQn ?_);try simp only[zZ])
        all_goals apply hr
        all_goals simp[Tryz.f45,h1,h2,h3,h3',h4,h5,h6]
        all_goals omega
       ·refine zG Tryz.tab Tryz.mixed Tryz.func45 rfl rfl Tryz.ntmps45 (by simp) (by simp) fun Q hr hn=>?_
        repeat' first|((first|refine O _ ?_|refine O _ _ ?_|(clear O;refine O _ ?_));clear O)|(refine zJ fun K O=>?_)|((first|refine zH ?_|refine zN rfl (by kernel_rfl) ?_|refine zM ?_|refine zK (by kernel_rfl) ?_);simp only[vZ,vY,strip])|((first|refine wIs fun K O=>?_|refine wOs fun K O=>?_|refine wQs fun K O=>?_|refine zW ?_|refine zX ?_|refine zY ?_|refine zL ?_);simp[h1,h2,h3,h3',h4,h5,h6])|(refine wIn ?_;refine And.intro (by kernel_rfl) ?_;try simp only[zZ])|refine zQ ?_|refine zS ?_|((first|refine zI ?_|refine zO ?_|refine zP ?_);try simp)|((first|refine zR ?_|refine wOn ?_|refine wQn ?_);try simp only[zZ])
        all_goals apply hr
        all_goals simp[Tryz.f45,h1,h2,h3,h3',h4,h5,h6]
      ·refine zG Tryz.tab Tryz.mixed Tryz.func45 rfl rfl Tryz.ntmps45 (by simp) (by simp) fun Q hr hn=>?_
       repeat' first|((first|refine O _ ?_|refine O _ _ ?_|(clear O;refine O _ ?_));clear O)|(refine zJ fun K O=>?_)|((first|refine zH ?_|refine zN rfl (by kernel_rfl) ?_|refine zM ?_|refine zK (by kernel_rfl) ?_);simp only[vZ,vY,strip])|((first|refine wIs fun K O=>?_|refine wOs fun K O=>?_|refine wQs fun K O=>?_|refine zW ?_|refine zX ?_|refine zY ?_|refine zL ?_);simp[h1,h2,h3,h3',h4,h5])|(refine wIn ?_;refine And.intro (by kernel_rfl) ?_;try simp only[zZ])|refine zQ ?_|refine zS ?_|((first|refine zI ?_|refine zO ?_|refine zP ?_);try simp)|((first|refine zR ?_|refine wOn ?_|refine wQn ?_);try simp only[zZ])
       all_goals apply hr
       all_goals simp[Tryz.f45,h1,h2,h3,h3',h4,h5]
     ·refine zG Tryz.tab Tryz.mixed Tryz.func45 rfl rfl Tryz.ntmps45 (by simp) (by simp) fun Q hr hn=>?_
      repeat' first|((first|refine O _ ?_|refine O _ _ ?_|(clear O;refine O _ ?_));clear O)|(refine zJ fun K O=>?_)|((first|refine zH ?_|refine zN rfl (by kernel_rfl) ?_|refine zM ?_|refine zK (by kernel_rfl) ?_);simp only[vZ,vY,strip])|((first|refine wIs fun K O=>?_|refine wOs fun K O=>?_|refine wQs fun K O=>?_|refine zW ?_|refine zX ?_|refine zY ?_|refine zL ?_);simp[h1,h2,h3,h3',h4])|(refine wIn ?_;refine And.intro (by kernel_rfl) ?_;try simp only[zZ])|refine zQ ?_|refine zS ?_|((first|refine zI ?_|refine zO ?_|refine zP ?_);try simp)|((first|refine zR ?_|refine wOn ?_|refine wQn ?_);try simp only[zZ])
      all_goals apply hr
      all_goals simp[Tryz.f45,h1,h2,h3,h3',h4]
    ·refine zG Tryz.tab Tryz.mixed Tryz.func45 rfl rfl Tryz.ntmps45 (by simp) (by simp) fun Q hr hn=>?_
     repeat' first|((first|refine O _ ?_|refine O _ _ ?_|(clear O;refine O _ ?_));clear O)|(refine zJ fun K O=>?_)|((first|refine zH ?_|refine zN rfl (by kernel_rfl) ?_|refine zM ?_|refine zK (by kernel_rfl) ?_);simp only[vZ,vY,strip])|((first|refine wIs fun K O=>?_|refine wOs fun K O=>?_|refine wQs fun K O=>?_|refine zW ?_|refine zX ?_|refine zY ?_|refine zL ?_);simp[h1,h2,h3,h3'])|(refine wIn ?_;refine And.intro (by kernel_rfl) ?_;try simp only[zZ])|refine zQ ?_|refine zS ?_|((first|refine zI ?_|refine zO ?_|refine zP ?_);try simp)|((first|refine zR ?_|refine wOn ?_|refine wQn ?_);try simp only[zZ])
     all_goals apply hr
     all_goals simp[Tryz.f45,h1,h2,h3,h3']
  ·refine zG Tryz.tab Tryz.mixed Tryz.func45 rfl rfl Tryz.ntmps45 (by simp) (by simp) fun Q hr hn=>?_
   repeat' first|((first|refine O _ ?_|refine O _ _ ?_|(clear O;refine O _ ?_));clear O)|(refine zJ fun K O=>?_)|((first|refine zH ?_|refine zN rfl (by kernel_rfl) ?_|refine zM ?_|refine zK (by kernel_rfl) ?_);simp only[vZ,vY,strip])|((first|refine wIs fun K O=>?_|refine wOs fun K O=>?_|refine wQs fun K O=>?_|refine zW ?_|refine zX ?_|refine zY ?_|refine zL ?_);simp[h1,h2])|(refine wIn ?_;refine And.intro (by kernel_rfl) ?_;try simp only[zZ])|refine zQ ?_|refine zS ?_|((first|refine zI ?_|refine zO ?_|refine zP ?_);try simp)|((first|refine zR ?_|refine wOn ?_|refine wQn ?_);try simp only[zZ])
   all_goals apply hr
   all_goals simp[Tryz.f45,h1,h2]
   all_goals omega
 ·refine zG Tryz.tab Tryz.mixed Tryz.func45 rfl rfl Tryz.ntmps45 (by simp) (by simp) fun Q hr hn=>?_
  repeat' first|((first|refine O _ ?_|refine O _ _ ?_|(clear O;refine O _ ?_));clear O)|(refine zJ fun K O=>?_)|((first|refine zH ?_|refine zN rfl (by kernel_rfl) ?_|refine zM ?_|refine zK (by kernel_rfl) ?_);simp only[vZ,vY,strip])|((first|refine wIs fun K O=>?_|refine wOs fun K O=>?_|refine wQs fun K O=>?_|refine zW ?_|refine zX ?_|refine zY ?_|refine zL ?_);simp[h1])|(refine wIn ?_;refine And.intro (by kernel_rfl) ?_;try simp only[zZ])|refine zQ ?_|refine zS ?_|((first|refine zI ?_|refine zO ?_|refine zP ?_);try simp)|((first|refine zR ?_|refine wOn ?_|refine wQn ?_);try simp only[zZ])
  all_goals apply hr
  all_goals simp[Tryz.f45,h1]
theorem wG (n:Int):zD Tryz.prog 117 [.p (I n)] (.p (B false)):=by
 refine zG Tryz.tab Tryz.mixed Tryz.func117 rfl rfl Tryz.ntmps117 (by simp) (by simp) fun Q hr hn=>?_
 repeat' first|((first|refine O _ ?_|refine O _ _ ?_|(clear O;refine O _ ?_));clear O)|(refine zJ fun K O=>?_)|((first|refine zH ?_|refine zN rfl (by kernel_rfl) ?_|refine zM ?_|refine zK (by kernel_rfl) ?_);simp only[vZ,vY,strip])|((first|refine wIs fun K O=>?_|refine wOs fun K O=>?_|refine wQs fun K O=>?_|refine zW ?_|refine zX ?_|refine zY ?_|refine zL ?_);simp)|(refine wIn ?_;refine And.intro (by kernel_rfl) ?_;try simp only[zZ])|refine zQ ?_|refine zS ?_|((first|refine zI ?_|refine zO ?_|refine zP ?_);try simp)|((first|refine zR ?_|refine wOn ?_|refine wQn ?_);try simp only[zZ])
 apply hr
 simp[Tryz.f117]
def cmpInt (a b:Int):Int:=if a<b then -1 else if b<a then 1 else 0
theorem xO (a b:Int):zD Tryz.prog 108 [.p (I a),.p (I b)] (.p (I (cmpInt a b))):=by
 refine zG Tryz.tab Tryz.mixed Tryz.func108 rfl rfl Tryz.ntmps108 (by simp) (by simp) fun Q hr hn=>?_
 repeat' first|((first|refine O _ ?_|refine O _ _ ?_|(clear O;refine O _ ?_));clear O)|(refine zJ fun K O=>?_)|((first|refine zH ?_|refine zN rfl (by kernel_rfl) ?_|refine zM ?_|refine zK (by kernel_rfl) ?_);simp only[vZ,vY,strip])|((first|refine wIs fun K O=>?_|refine wOs fun K O=>?_|refine wQs fun K O=>?_|refine zW ?_|refine zX ?_|refine zY ?_|refine zL ?_);simp)|(refine wIn ?_;refine And.intro (by kernel_rfl) ?_;try simp only[zZ])|refine zQ ?_|refine zS ?_|((first|refine zI ?_|refine zO ?_|refine zP ?_);try simp)|((first|refine zR ?_|refine wOn ?_|refine wQn ?_);try simp only[zZ])|(refine zU.p (wG _) rfl ?_)|(refine zU.l (wG _) rfl ?_)|(refine zT.p (wG _) rfl ?_)|(refine zT.l (wG _) rfl ?_)|(refine zU.o (wG _) ?_)|(refine zV.p (wG _) rfl ?_)|(refine zV.l (wG _) rfl ?_)|(refine zV.o (wG _) ?_)|(refine And.intro (fun _=>?_) (fun _=>?_))
 all_goals (apply hr;simp[Tryz.f108,cmpInt];try omega)
def orL:List Int->Int
 |[]=>0
 |a::l=>if a=0 then orL l else a
theorem or_con (l:List Int):zD Tryz.prog 107 [.p (.sl 1 (l.map fun n=>[I n]))] (.p (I (orL l))):=by
 refine zD.len ⟨Tryz.f107,Tryz.func107,rfl,rfl⟩ 0 _ _ rfl fun hlen=>?_
 simp only[List.length_map] at hlen
 refine zG Tryz.tab Tryz.mixed Tryz.func107 rfl rfl Tryz.ntmps107 (by simp) (by simp) fun Q hr hn=>?_
 repeat' first|((first|refine O _ ?_|refine O _ _ ?_|(clear O;refine O _ ?_));clear O)|(refine zJ fun K O=>?_)|((first|refine zH ?_|refine zN rfl (by kernel_rfl) ?_|refine zM ?_|refine zK (by kernel_rfl) ?_);simp only[vZ,vY,strip])|((first|refine wIs fun K O=>?_|refine wOs fun K O=>?_|refine wQs fun K O=>?_|refine zW ?_|refine zX ?_|refine zY ?_|refine zL ?_);simp)|(refine wIn ?_;refine And.intro (by kernel_rfl) ?_;try simp only[zZ])|refine zQ ?_|refine zS ?_|((first|refine zI ?_|refine zO ?_|refine zP ?_);try simp)|((first|refine zR ?_|refine wOn ?_|refine wQn ?_);try simp only[zZ])
 refine yT (fun n st=>∃k,k+n=l.length/\st.s 6=.p (.sl 1 (l.map fun n=>[I n]))/\st.s 7=.p (I l.length)/\st.s 8=.p (I k)/\st.s 3=.p (I 0)/\orL (l.drop k)=orL l) l.length ⟨0,by simp⟩ fun K n st hL ⟨k,hk,h6,h7,h8,h3,hor⟩=>?_
 by_cases hlt:k<l.length
 ·have hw:=yA k _ hlt hlen
  have hd:l.drop k=l[k]::l.drop (k+1):=List.drop_eq_getElem_cons hlt
  have he:l[k]?=some l[k]:=List.getElem?_eq_getElem hlt
  rw[hd,orL] at hor
  repeat' first|((first|refine O _ ?_|refine O _ _ ?_|(clear O;refine O _ ?_));clear O)|(refine zJ fun K O=>?_)|((first|refine zH ?_|refine zN rfl (by kernel_rfl) ?_|refine zM ?_|refine zK (by kernel_rfl) ?_);simp only[vZ,vY,strip])|((first|refine wIs fun K O=>?_|refine wOs fun K O=>?_|refine wQs fun K O=>?_|refine zW ?_|refine zX ?_|refine zY ?_|refine zL ?_);simp[h6,h7,h8,h3,hlt,hw,he])|(refine wIn ?_;refine And.intro (by kernel_rfl) ?_;try simp only[zZ])|refine zQ ?_|refine zS ?_|((first|refine zI ?_|refine zO ?_|refine zP ?_);try simp)|((first|refine zR ?_|refine wOn ?_|refine wQn ?_);try simp only[zZ])|(refine And.intro (fun hc=>?_) (fun hc=>?_))
  ·apply hr
   simp[Tryz.f107]
   rw[if_neg hc] at hor;exact hor.symm
  ·refine hL _ (n-1) (by omega) ⟨k+1,by omega,?_⟩
   rw[if_pos hc] at hor
   simp[h6,h7,h3,hw,hor]
 ·have hd:l.drop k=[]:=List.drop_of_length_le (by omega)
  rw[hd] at hor
  repeat' first|((first|refine O _ ?_|refine O _ _ ?_|(clear O;refine O _ ?_));clear O)|(refine zJ fun K O=>?_)|((first|refine zH ?_|refine zN rfl (by kernel_rfl) ?_|refine zM ?_|refine zK (by kernel_rfl) ?_);simp only[vZ,vY,strip])|((first|refine wIs fun K O=>?_|refine wOs fun K O=>?_|refine wQs fun K O=>?_|refine zW ?_|refine zX ?_|refine zY ?_|refine zL ?_);simp[h6,h7,h8,h3,hlt])|(refine wIn ?_;refine And.intro (by kernel_rfl) ?_;try simp only[zZ])|refine zQ ?_|refine zS ?_|((first|refine zI ?_|refine zO ?_|refine zP ?_);try simp)|((first|refine zR ?_|refine wOn ?_|refine wQn ?_);try simp only[zZ])
  apply hr
  simp[Tryz.f107,h3,<- hor,orL]
def zcmp (a b c d:Int):Int:=if a=c/\b=d then 0 else orL [cmpInt a c,cmpInt b d]
theorem cmp_con (a b c d:Int):zD Tryz.prog 92 [.p (.agg [I a,I b]),.p (.agg [I c,I d])] (.p (I (zcmp a b c d))):=by
 have hor:=or_con [cmpInt a c,cmpInt b d]
 simp only[vZ,vY] at hor
 by_cases hab:a=c/\b=d
 ·obtain⟨rfl,rfl⟩:=hab
  refine zG Tryz.tab Tryz.mixed Tryz.func92 rfl rfl Tryz.ntmps92 (by simp) (by simp) fun Q hr hn=>?_
  repeat' first|((first|refine O _ ?_|refine O _ _ ?_|(clear O;refine O _ ?_));clear O)|(refine zJ fun K O=>?_)|((first|refine zH ?_|refine zN rfl (by kernel_rfl) ?_|refine zM ?_|refine zK (by kernel_rfl) ?_);simp only[vZ,vY,strip])|((first|refine wIs fun K O=>?_|refine wOs fun K O=>?_|refine wQs fun K O=>?_|refine zW ?_|refine zX ?_|refine zY ?_|refine zL ?_);simp)|(refine wIn ?_;refine And.intro (by kernel_rfl) ?_;try simp only[zZ])|refine zQ ?_|refine zS ?_|((first|refine zI ?_|refine zO ?_|refine zP ?_);try simp)|((first|refine zR ?_|refine wOn ?_|refine wQn ?_);try simp only[zZ])
  apply hr
  simp[Tryz.f92,zcmp]
 ·refine zG Tryz.tab Tryz.mixed Tryz.func92 rfl rfl Tryz.ntmps92 (by simp) (by simp) fun Q hr hn=>?_
  repeat' first|((first|refine O _ ?_|refine O _ _ ?_|(clear O;refine O _ ?_));clear O)|(refine zJ fun K O=>?_)|((first|refine zH ?_|refine zN rfl (by kernel_rfl) ?_|refine zM ?_|refine zK (by kernel_rfl) ?_);simp only[vZ,vY,strip])|((first|refine wIs fun K O=>?_|refine wOs fun K O=>?_|refine wQs fun K O=>?_|refine zW ?_|refine zX ?_|refine zY ?_|refine zL ?_);simp[hab])|(refine wIn ?_;refine And.intro (by kernel_rfl) ?_;try simp only[zZ])|refine zQ ?_|refine zS ?_|((first|refine zI ?_|refine zO ?_|refine zP ?_);try simp)|((first|refine zR ?_|refine wOn ?_|refine wQn ?_);try simp only[zZ])|(refine zU.p (xO _ _) rfl ?_)|(refine zU.l (xO _ _) rfl ?_)|(refine zT.p (xO _ _) rfl ?_)|(refine zT.l (xO _ _) rfl ?_)|(refine zU.o (xO _ _) ?_)|(refine zV.p (xO _ _) rfl ?_)|(refine zV.l (xO _ _) rfl ?_)|(refine zV.o (xO _ _) ?_)|refine zU.p hor rfl ?_|refine zU.l hor rfl ?_|refine zT.p hor rfl ?_|refine zT.l hor rfl ?_|refine zU.o hor ?_|refine zV.p hor rfl ?_|refine zV.l hor rfl ?_|refine zV.o hor ?_|(intro _)
  all_goals first|exact hab|skip
  apply hr
  simp[Tryz.f92,zcmp,hab]
theorem zcmp_spec (a b c d:Int):zcmp a b c d=if a=c/\b=d then 0 else if a<c\/(a=c/\b<d) then -1 else 1:=by
 unfold zcmp cmpInt
 simp only[orL]
 repeat' split
 all_goals omega
theorem cmp02_con (a b c d:Int):zD Tryz.prog 33 [.p (.agg [I a,I b]),.p (.agg [I c,I d])] (.p (I (zcmp a b c d))):=by
 rw[zcmp_spec]
 by_cases hab:a=c/\b=d
 ·rw[if_pos hab]
  obtain⟨rfl,rfl⟩:=hab
  refine zG Tryz.tab Tryz.mixed Tryz.func33 rfl rfl Tryz.ntmps33 (by simp) (by simp) fun Q hr hn=>?_
  repeat' first|((first|refine O _ ?_|refine O _ _ ?_|(clear O;refine O _ ?_));clear O)|(refine zJ fun K O=>?_)|((first|refine zH ?_|refine zN rfl (by kernel_rfl) ?_|refine zM ?_|refine zK (by kernel_rfl) ?_);simp only[vZ,vY,strip])|((first|refine wIs fun K O=>?_|refine wOs fun K O=>?_|refine wQs fun K O=>?_|refine zW ?_|refine zX ?_|refine zY ?_|refine zL ?_);simp)|(refine wIn ?_;refine And.intro (by kernel_rfl) ?_;try simp only[zZ])|refine zQ ?_|refine zS ?_|((first|refine zI ?_|refine zO ?_|refine zP ?_);try simp)|((first|refine zR ?_|refine wOn ?_|refine wQn ?_);try simp only[zZ])
  all_goals apply hr
  all_goals simp[Tryz.f33]
 ·rw[if_neg hab]
  by_cases h1:a<c
  ·have h2:¬ a=c:=by omega
   refine zG Tryz.tab Tryz.mixed Tryz.func33 rfl rfl Tryz.ntmps33 (by simp) (by simp) fun Q hr hn=>?_
   repeat' first|((first|refine O _ ?_|refine O _ _ ?_|(clear O;refine O _ ?_));clear O)|(refine zJ fun K O=>?_)|((first|refine zH ?_|refine zN rfl (by kernel_rfl) ?_|refine zM ?_|refine zK (by kernel_rfl) ?_);simp only[vZ,vY,strip])|((first|refine wIs fun K O=>?_|refine wOs fun K O=>?_|refine wQs fun K O=>?_|refine zW ?_|refine zX ?_|refine zY ?_|refine zL ?_);simp[hab,h1,h2])|(refine wIn ?_;refine And.intro (by kernel_rfl) ?_;try simp only[zZ])|refine zQ ?_|refine zS ?_|((first|refine zI ?_|refine zO ?_|refine zP ?_);try simp)|((first|refine zR ?_|refine wOn ?_|refine wQn ?_);try simp only[zZ])|(intro _)
   all_goals first|exact hab|skip
   all_goals apply hr
   all_goals simp[Tryz.f33,h1]
  ·by_cases h2:a=c
   ·by_cases h3:b<d
    ·have h4:¬ b=d:=by omega
     refine zG Tryz.tab Tryz.mixed Tryz.func33 rfl rfl Tryz.ntmps33 (by simp) (by simp) fun Q hr hn=>?_
     repeat' first|((first|refine O _ ?_|refine O _ _ ?_|(clear O;refine O _ ?_));clear O)|(refine zJ fun K O=>?_)|((first|refine zH ?_|refine zN rfl (by kernel_rfl) ?_|refine zM ?_|refine zK (by kernel_rfl) ?_);simp only[vZ,vY,strip])|((first|refine wIs fun K O=>?_|refine wOs fun K O=>?_|refine wQs fun K O=>?_|refine zW ?_|refine zX ?_|refine zY ?_|refine zL ?_);simp[hab,h1,h2,h3,h4])|(refine wIn ?_;refine And.intro (by kernel_rfl) ?_;try simp only[zZ])|refine zQ ?_|refine zS ?_|((first|refine zI ?_|refine zO ?_|refine zP ?_);try simp)|((first|refine zR ?_|refine wOn ?_|refine wQn ?_);try simp only[zZ])|(intro _)
     all_goals first|exact hab|skip
     all_goals apply hr
     all_goals simp[Tryz.f33,h1,h2,h3]
    ·have h4:¬ b=d:=fun h=>hab ⟨h2,h⟩
     refine zG Tryz.tab Tryz.mixed Tryz.func33 rfl rfl Tryz.ntmps33 (by simp) (by simp) fun Q hr hn=>?_
     repeat' first|((first|refine O _ ?_|refine O _ _ ?_|(clear O;refine O _ ?_));clear O)|(refine zJ fun K O=>?_)|((first|refine zH ?_|refine zN rfl (by kernel_rfl) ?_|refine zM ?_|refine zK (by kernel_rfl) ?_);simp only[vZ,vY,strip])|((first|refine wIs fun K O=>?_|refine wOs fun K O=>?_|refine wQs fun K O=>?_|refine zW ?_|refine zX ?_|refine zY ?_|refine zL ?_);simp[hab,h1,h2,h3,h4])|(refine wIn ?_;refine And.intro (by kernel_rfl) ?_;try simp only[zZ])|refine zQ ?_|refine zS ?_|((first|refine zI ?_|refine zO ?_|refine zP ?_);try simp)|((first|refine zR ?_|refine wOn ?_|refine wQn ?_);try simp only[zZ])|(intro _)
     all_goals first|exact hab|skip
     all_goals apply hr
     all_goals simp[Tryz.f33,h1,h2,h3]
   ·refine zG Tryz.tab Tryz.mixed Tryz.func33 rfl rfl Tryz.ntmps33 (by simp) (by simp) fun Q hr hn=>?_
    repeat' first|((first|refine O _ ?_|refine O _ _ ?_|(clear O;refine O _ ?_));clear O)|(refine zJ fun K O=>?_)|((first|refine zH ?_|refine zN rfl (by kernel_rfl) ?_|refine zM ?_|refine zK (by kernel_rfl) ?_);simp only[vZ,vY,strip])|((first|refine wIs fun K O=>?_|refine wOs fun K O=>?_|refine wQs fun K O=>?_|refine zW ?_|refine zX ?_|refine zY ?_|refine zL ?_);simp[hab,h1,h2])|(refine wIn ?_;refine And.intro (by kernel_rfl) ?_;try simp only[zZ])|refine zQ ?_|refine zS ?_|((first|refine zI ?_|refine zO ?_|refine zP ?_);try simp)|((first|refine zR ?_|refine wOn ?_|refine wQn ?_);try simp only[zZ])|(intro _)
    all_goals first|exact hab|skip
    all_goals apply hr
    all_goals simp[Tryz.f33,h1,h2]
end Go.Proofs.YtedbbcmokbogpaaGreatDoor
