/- Texts that the proof needs: IX XC XL XM NG NH XN. -/
import Derived.Test.YtpihbhacmokekaaGreatDoorP18ReconfTakes
import Derived.Test.YtpihbhacmokekaaGreatDoorP29ReconfTakes
import Derived.Test.YtpihbhacmokekaaGreatDoorP12ReconfTakes
import Derived.WalkKit
import Derived.Deep.RegionLaw
import Derived.Test.YtpihbhacmokekaaGreatDoorP28ReconfTakes
import Derived.Test.YtpihbhacmokekaaGreatDoorP16ReconfTakes
import Derived.Test.YtpihbhacmokekaaGreatDoorP26ReconfTakes
namespace Go.Proofs.YtpihbhacmokekaaGreatDoor
set_option linter.unusedSimpArgs false
set_option linter.unusedVariables false
open Go Go.Av Go.Lib Go.RowKit
theorem wp_copy_eq (w:World){o:Oper}{a:Act}{K:Act->World->Prop}{Q:Exit->Act->World->Prop}(d s:Operand)(t t':TypeId){P:Program}
 (ho:o.op=.call { callee:=.builtin .copy,args:=#[d,s],argTypes:=#[t,t'] }){v u:Value}(hd:a.eval d=v)(hs:a.eval s=u){v':Value}{w':World}
 (hr:(Builtin.copy_ #[t,t'] o.type #[v,u]).run P w=.ok v' w')(h:K (a.put o.dst v') w'):o.wp P a w K Q:=by
 unfold Oper.wp execOp
 simp only[ho,resolve,invoke,builtin,Sem.run_bind,Sem.run_pure,Result.andThen_ok,List.map_toArray,vS,vR,hd,hs,hr]
 exact h
theorem wpList_copy_eq {P:Program}(w:World){ops:Array Oper}{rest:List Oper}{o:Oper}{a:Act}{Q:Exit->Act->World->Prop}(hgd:o.guard=none)(d s:Operand)(t t':TypeId)
 (ho:o.op=.call { callee:=.builtin .copy,args:=#[d,s],argTypes:=#[t,t'] }){v u:Value}(hd:a.eval d=v)(hs:a.eval s=u){v':Value}{w':World}
 (hr:(Builtin.copy_ #[t,t'] o.type #[v,u]).run P w=.ok v' w')(h:wpList P ops Q rest (a.put o.dst v') w'):wpList P ops Q (o::rest) a w :=
 wpList_plain hgd fun _ O=>wp_copy_eq w d s t t' ho hd hs hr (O _ _ h)
theorem step_copy_eq {P:Program}{ops:Array Oper}{o:Oper}{a:Act}{w:World}{K:Act->World->Prop}{Q:Exit->Act->World->Prop}{E:Prop}
 (hg:o.guard=none)(d x:Operand)(dT sT:TypeId)(hop:o.op=Op.call { callee:=Callee.builtin Builtin.copy,args:=#[d,x],argTypes:=#[dT,sT] })
 (v u:Value)(hd:a.eval d=v)(hx:a.eval x=u){v':Value}{w':World}(hr:(Builtin.copy_ #[dT,sT] o.type #[v,u]).run P w=.ok v' w')(O:K (a.put o.dst v') w') :
 if Region.wanted o (yielded ops a.tmps)=true then Oper.wp P o a w K Q else E:=by
 have hw:Region.wanted o (yielded ops a.tmps)=true:=by simp[Region.wanted,hg]
 rw[if_pos hw]
 exact wp_copy_eq w d x dT sT hop hd hx hr O
set_option maxHeartbeats 4000000 in
set_option maxRecDepth 100000 in
theorem ins_shift (b n c i vb voff vc:Nat)(cur cA:Array Value)(vs:List Value)(w:World)(tA:TypeId)(fA:Nat × Nat)(hg:w.heap[b]?=some (.cells cur 3 (0,0)))(hsz:cur.size=c * 1)
 (hi:i<n)(hroom:n+1<=c)(hc63:c<=9223372036854775807)(hvb:vb ≠ b)(hv:w.heap[vb]?=some (.cells cA tA fA))(hvl:vs.length=1)(hvs:∀ (j:Nat)(v:Value),vs[j]?=some v->cA[voff+j]?=some v)
 (h1:∀v∈vs,v.oneCell'=true)(h1c:∀ (j:Nat)(v:Value),j<n * 1->cur[j]?=some v->v.oneCell'=true) :
 Calls Tryz.prog 126 #[.slice (some ⟨b,0,none⟩) n c,.int .i64 i,.slice (some ⟨vb,voff,none⟩) 1 vc] w fun e w' =>
  e=.returned (.slice (some ⟨b,0,none⟩) (n+1) c) ∧
  w'=(w.drew.setRow b (spl cur ((i+1) * 1) ((cur.toList.drop (i * 1)).take ((n-i) * 1)))).setRow b (spl (spl cur ((i+1) * 1) ((cur.toList.drop (i * 1)).take ((n-i) * 1))) (i * 1) vs):=by
 have hu:Tryz.prog.underlying 23=some (.slice 3):=(Tryz.tab 23 _ rfl).kind
 obtain⟨ti,tz,hti,htz0,-⟩:=(Tryz.tab 3 _ rfl).info
 have htz:ti.size=1:=htz0
 have hz2:¬ ((i:Int)=(n:Int)):=by omega
 have hov:∀lb cb,(callFunc 139 #[.slice (some ⟨vb,voff,none⟩) 1 vc,.slice (some ⟨b,(i+1) * 1,none⟩) lb cb]).run Tryz.prog w=.ok (.value (.bool false)) w:=fun lb cb=>by
  rw[run_callFunc_extern Tryz.func139 (by kernel_rfl) (by kernel_rfl) (by kernel_rfl) (e:=Extern.SlicesOverlaps.overlaps #[23,23] #[4]) (by kernel_rfl),
   run_overlaps 23 4 3 hu 1 ((Tryz.tab 3 _ rfl).run_info w) (a:=⟨vb,voff,none⟩) (b:=⟨b,(i+1) * 1,none⟩) hvb hv hg (by omega) (fun h0=>by
    have:=hvs 0 _ (List.getElem?_eq_getElem (by omega))
    rw[Array.getElem?_eq_none (by omega)] at this;simp at this)]
  rfl
 obtain⟨c1,hc1⟩:∃c1,c1=(cur.toList.drop (i * 1)).take ((n-i) * 1):=⟨_,rfl⟩
 have hc1l:c1.length=(n-i) * 1:=by rw[hc1];simp;omega
 obtain⟨X1,hX1⟩:∃X1,X1=spl cur ((i+1) * 1) c1:=⟨_,rfl⟩
 have hX1s:X1.size=cur.size:=by rw[hX1];exact wJ (by omega)
 have hcp1:∀ty dc sc,(Builtin.copy_ #[23,23] ty #[.slice (some ⟨b,(i+1) * 1,none⟩) (n-i) dc,.slice (some ⟨b,i * 1,none⟩) (n+1-i) sc]).run Tryz.prog w.drew=.ok (goInt (n-i:Nat)) (w.drew.setRow b X1):=fun ty dc sc=>by
  rw[hX1]
  refine run_copyRow (w:=w.drew) (n:=n-i) (o:=(i+1) * 1) (dLen:=n-i) (sLen:=n+1-i) (g:=b) (b:=some ⟨b,i * 1,none⟩) hu hti hg (by simp only[Nat.min_def];split <;> omega) (run_first_row (w:=w.drew) (n:=n-i) (size:=ti.size) hg (by rw[hc1l,htz]) fun j v hj=>?_) (by omega) (fun v hv=>?_)
  ·rw[hc1,List.getElem?_take] at hj
   split at hj
   ·rw[List.getElem?_drop] at hj;simpa using hj
   ·simp at hj
  ·obtain⟨j,hj2⟩:=List.mem_iff_getElem?.1 hv
   rw[hc1,List.getElem?_take] at hj2
   split at hj2
   ·rw[List.getElem?_drop] at hj2
    exact h1c (i * 1+j) _ (by omega) (by simpa using hj2)
   ·simp at hj2
 have hcp2:∀ (W:World),W.heap=(w.drew.setRow b X1).heap->∀ty dc,(Builtin.copy_ #[23,23] ty #[.slice (some ⟨b,i * 1,none⟩) (n+1-i) dc,.slice (some ⟨vb,voff,none⟩) 1 vc]).run Tryz.prog W=.ok (goInt (1:Nat)) (W.setRow b (spl X1 (i * 1) vs)):=fun W hW ty dc=>by
  have hgW:W.heap[b]?=some (.cells X1 3 (0,0)):=by rw[hW];exact setRow_heap w.drew _ _ _ _ _ hg
  have hvW:W.heap[vb]?=some (.cells cA tA fA):=by rw[hW];exact (setRow_other w.drew b vb X1 hvb).trans hv
  refine run_copyRow (n:=1) (o:=i * 1) (dLen:=n+1-i) (sLen:=1) (g:=b) (b:=some ⟨vb,voff,none⟩) hu hti hgW (by simp only[Nat.min_def];split <;> omega) (run_firstCells_some W _ 1 _ 1 vc vs (by rw[hvl,htz]) fun j v hj=>?_) (by omega) h1
  rw[addr_add]
  simpa [World.cell?,hvW] using hvs j v hj
 rw[<- hc1,<- hX1]
 have hw1:IntKind.i64.wrap ((i:Int)+1)=(i:Int)+1:=by rw[IntKind.wrap_i64];omega
 have hb1:(0:Int)<=(i:Int)+1:=by omega
 have htn:((i:Int)+1).toNat=i+1:=by omega
 have hb2:¬ (c=i+1):=by omega
 have hb3:(i:Int)<=(n:Int)+1:=by omega
 have hb4:¬ (c=i):=by omega
 have hin:i<=n:=by omega
 have hin1:i<=n+1:=by omega
 simp only[Nat.mul_one] at hcp1 hcp2 hX1 hc1 hov ⊢
 go_enter Tryz.func126,Tryz.ntmps126
 go_wp2_with (simp only[hov])
 go_region_law (refine step_copy_eq rfl _ _ 23 23 rfl _ _ (by simp[Act.eval,Act.put]) (by simp[Act.eval,Act.put]) (hcp1 _ _ _) ?_)
 go_wp2_with (at_builtin;refine wpList_copy_eq _ rfl _ _ 23 23 rfl rfl rfl (hcp2 _ rfl _ _) ?_)
 go_ret
 first
  |exact⟨rfl,by rw[hX1,hc1]⟩
  |exact⟨rfl,rfl⟩|(refine⟨rfl,?_⟩;simp[hX1,hc1])
set_option maxHeartbeats 4000000 in
set_option maxRecDepth 100000 in
theorem ins_end (sb:Option Addr)(n c:Nat)(vb voff vc:Nat)(w:World)(hnc:n<=c)(hc63:c<=9223372036854775807){r:Value}{w1:World}
 (hr:(Builtin.append_ #[23,23] 23 #[.slice sb n c,.slice (some ⟨vb,voff,none⟩) 1 vc]).run Tryz.prog w=.ok r w1) :
 Calls Tryz.prog 126 #[.slice sb n c,.int .i64 n,.slice (some ⟨vb,voff,none⟩) 1 vc] w fun e w'=>e=.returned r/\w'=w1:=by
 have hu:Tryz.prog.underlying 23=some (.slice 3):=(Tryz.tab 23 _ rfl).kind
 cases sb with
 |none =>
  go_enter Tryz.func126,Tryz.ntmps126
  go_wp2_with (at_builtin;refine Lib.wpList_append_run _ rfl _ _ _ _ rfl _ _ rfl rfl _ _ hr ?_)
  go_ret
  exact⟨rfl,rfl⟩
 |some a =>
  by_cases hcn:c=n
  ·go_enter Tryz.func126,Tryz.ntmps126
   go_wp2_with (at_builtin;refine Lib.wpList_append_run _ rfl _ _ _ _ rfl _ _ rfl rfl _ _ hr ?_)
   go_ret
   exact⟨rfl,rfl⟩
  ·go_enter Tryz.func126,Tryz.ntmps126
   go_wp2_with (at_builtin;refine Lib.wpList_append_run _ rfl _ _ _ _ rfl _ _ rfl rfl _ _ hr ?_)
   go_ret
   exact⟨rfl,rfl⟩
set_option maxHeartbeats 4000000 in
set_option maxRecDepth 100000 in
theorem ins_grow (b n c i vb voff vc:Nat)(cur cA:Array Value)(vs:List Value)(w:World)(tA:TypeId)(fA:Nat × Nat)(hg:w.heap[b]?=some (.cells cur 3 (0,0)))(hsz:n * 1<=cur.size)
 (hi:i<n)(hnc:n<=c)(hcn:c<n+1)(hbig:(n+1) * 8<=140737488355328)(hv:w.heap[vb]?=some (.cells cA tA fA))(hvl:vs.length=1)(hvs:∀ (j:Nat)(v:Value),vs[j]?=some v->cA[voff+j]?=some v)
 (h1:∀v∈vs,v.oneCell'=true)(h1c:∀ (j:Nat)(v:Value),j<n * 1->cur[j]?=some v->v.oneCell'=true) :
 Calls Tryz.prog 126 #[.slice (some ⟨b,0,none⟩) n c,.int .i64 i,.slice (some ⟨vb,voff,none⟩) 1 vc] w fun e w' =>
  ∃ (C:Nat)(R:Array Value),e=.returned (.slice (some ⟨w.heap.size,0,none⟩) (n+1) C)/\n+1<=C/\C<=maxLen/\R.size=C * 1/\Keeps (fun _=>False) w w'/\w'.heap[w.heap.size]?=some (.cells R 3 (0,0))/\w.heap.size<w'.heap.size ∧
   ∀k,k<(n+1) * 1->R[k]?=(insL 1 cur i n vs)[k]?:=by
 have hu:Tryz.prog.underlying 23=some (.slice 3):=(Tryz.tab 23 _ rfl).kind
 have hu2:Tryz.prog.underlying 3=some (.int .i64):=(Tryz.tab 3 _ rfl).kind
 obtain⟨ti,tz,hti,htz0,htb0,htz1,htz2,-⟩:=(Tryz.tab 3 _ rfl).info
 have htz:ti.size=1:=htz0
 have htb:ti.bytes=8:=htb0
 have htzc:tz.cells.size=1:=by have:=congrArg List.length htz2;simpa using this
 have hz2:¬ ((i:Int)=(n:Int)):=by omega
 have hbw:b<w.heap.size:=lt_of_heap hg
 have hvw:vb<w.heap.size:=lt_of_heap hv
 have hkk:(n:Int)+1-(i:Int)=((n+1-i:Nat):Int):=by omega
 have hold:(Builtin.firstCells ti.size i (.slice (some ⟨b,0,none⟩) i c)).run Tryz.prog w.drew=.ok (cur.toList.take (i * 1)).toArray w.drew :=
  run_first_row (w:=w.drew) hg (by rw[htz];simp;omega) fun j v hj=>by
   rw[List.getElem?_take] at hj
   split at hj
   ·simpa using hj
   ·simp at hj
 obtain⟨C,hC⟩:∃C,C=grownCap w (n+1) c 3:=⟨_,rfl⟩
 obtain⟨hC1,hC2⟩:=grownCap_bounds w (n+1) c 3 (by omega)
 rw[<- hC] at hC1 hC2
 have hC3:C<=9223372036854775807:=hC2
 obtain⟨R0,hR0⟩:∃R0:Array Value,R0=(cur.toList.take (i * 1)).toArray++Builtin.zeroCells tz.cells (n+1-i)++Builtin.zeroCells tz.cells (C-(n+1)):=⟨_,rfl⟩
 have hR0s:R0.size=C * 1:=by rw[hR0];simp[zeroCells_size,htzc];omega
 have hR0c:∀k,k<i * 1->R0[k]?=cur[k]?:=fun k hk=>by
  have h1:k<(cur.toList.take (i * 1)).toArray.size:=by simp;omega
  rw[hR0,Array.append_assoc,Array.getElem?_append_left h1]
  rw[List.getElem?_toArray,List.getElem?_take,if_pos hk];simp
 have hrz:∀ty,(Builtin.append_ #[23,3] ty #[.slice (some ⟨b,0,none⟩) i c,.int .i64 ((n:Int)+1-(i:Int))]).run Tryz.prog w =
  .ok (.slice (some ⟨w.heap.size,0,none⟩) (n+1) C) (w.drew.alloc (.cells R0 3)):=fun ty=>by
  have h:=Lib.run_append_grow_zeros w 23 3 ty 3 ti tz .i64 .i64 hu hu2 hti htz1 (some ⟨b,0,none⟩) i c (cur.toList.take (i * 1)) hold (n+1-i) (by omega) (by omega) (by omega) (by omega) (by rw[htb];omega) (by
   rw[htb,show i+(n+1-i)=n+1 by omega]
   exact growslice_fits (by omega) hbig)
  rw[show i+(n+1-i)=n+1 by omega,<- hC,<- hR0] at h
  rw[hkk]
  exact h
 obtain⟨c1,hc1⟩:∃c1,c1=(cur.toList.drop (i * 1)).take ((n-i) * 1):=⟨_,rfl⟩
 have hc1l:c1.length=(n-i) * 1:=by rw[hc1];exact mid_len hsz
 obtain⟨W1,hW1⟩:∃W1,W1=w.drew.alloc (.cells R0 3):=⟨_,rfl⟩
 have hW1h:W1.heap[w.heap.size]?=some (.cells R0 3 (0,0)):=by rw[hW1];exact heap_alloc_new w.drew _
 have hW1b:∀k,k<w.heap.size->W1.heap[k]?=w.heap[k]?:=fun k hk=>by rw[hW1];exact Go.RowKit.Below.heap_alloc w.drew _ k hk
 have hW1s:W1.heap.size=w.heap.size+1:=by rw[hW1];show (w.heap.push _).size=_;simp
 rw[<- hW1] at hrz
 have hcpA:∀ (W:World),W.heap=W1.heap->∀ty dc,(Builtin.copy_ #[23,23] ty #[.slice (some ⟨w.heap.size,i * 1,none⟩) (n+1-i) dc,.slice (some ⟨vb,voff,none⟩) 1 vc]).run Tryz.prog W=.ok (goInt (1:Nat)) (W.setRow w.heap.size (spl R0 (i * 1) vs)):=fun W hW ty dc=>by
  refine run_copyRow (w:=W) (n:=1) (o:=i * 1) (dLen:=n+1-i) (sLen:=1) (g:=w.heap.size) (b:=some ⟨vb,voff,none⟩) hu hti (by rw[hW];exact hW1h) (by simp only[Nat.min_def];split <;> omega) (run_firstCells_some W _ 1 _ 1 vc vs (by rw[hvl,htz]) fun j v hj=>?_) (by omega) h1
  rw[addr_add]
  simpa [World.cell?,hW,hW1b vb hvw,hv] using hvs j v hj
 obtain⟨R1,hR1⟩:∃R1,R1=spl R0 (i * 1) vs:=⟨_,rfl⟩
 have hR1s:R1.size=R0.size:=by rw[hR1];exact wJ (by omega)
 obtain⟨W2,hW2⟩:∃W2,W2=W1.setRow w.heap.size (spl R0 (i * 1) vs):=⟨_,rfl⟩
 have hcpB:∀ (W:World),W.heap=W2.heap->∀ty dc sc,(Builtin.copy_ #[23,23] ty #[.slice (some ⟨w.heap.size,(i+1) * 1,none⟩) (n-i) dc,.slice (some ⟨b,i * 1,none⟩) (n-i) sc]).run Tryz.prog W=.ok (goInt (n-i:Nat)) (W.setRow w.heap.size (spl R1 ((i+1) * 1) c1)):=fun W hW ty dc sc=>by
  have hg2:W.heap[w.heap.size]?=some (.cells R1 3 (0,0)):=by rw[hW,hW2,hR1];exact setRow_heap W1 _ _ _ _ _ hW1h
  have hgb:W.heap[b]?=some (.cells cur 3 (0,0)):=by rw[hW,hW2];exact (setRow_other W1 _ b _ (by omega)).trans ((hW1b b hbw).trans hg)
  refine run_copyRow (w:=W) (n:=n-i) (o:=(i+1) * 1) (dLen:=n-i) (sLen:=n-i) (g:=w.heap.size) (b:=some ⟨b,i * 1,none⟩) hu hti hg2 (by simp only[Nat.min_def];split <;> omega) (run_first_row (w:=W) (n:=n-i) (size:=ti.size) hgb (by rw[hc1l,htz]) fun j v hj=>?_) (by omega) (fun v hv=>?_)
  ·rw[hc1,List.getElem?_take] at hj
   split at hj
   ·rw[List.getElem?_drop] at hj;simpa using hj
   ·simp at hj
  ·obtain⟨j,hj2⟩:=List.mem_iff_getElem?.1 hv
   rw[hc1,List.getElem?_take] at hj2
   split at hj2
   ·rw[List.getElem?_drop] at hj2
    exact h1c (i * 1+j) _ (by omega) (by simpa using hj2)
   ·simp at hj2
 clear hC hR0 hold hkk htz2
 have hw1:IntKind.i64.wrap ((i:Int)+1)=(i:Int)+1:=by rw[IntKind.wrap_i64];omega
 have hb1:(0:Int)<=(i:Int)+1:=by omega
 have htn:((i:Int)+1).toNat=i+1:=by omega
 have hb2:¬ (C=i+1):=by omega
 have hb3:(i:Int)<=(n:Int)+1:=by omega
 have hb4:¬ (C=i):=by omega
 have hb5:¬ (c=i):=by omega
 have hin:i<=n:=by omega
 have hin1:i<=n+1:=by omega
 have hz3:(c:Int)<(n:Int)+1:=by omega
 subst hW2 hW1
 simp only[Nat.mul_one] at hcpA hcpB hR1 ⊢
 go_enter Tryz.func126,Tryz.ntmps126
 go_wp2_with (at_builtin;refine Lib.wpList_append_run _ rfl _ _ _ _ rfl _ _ rfl rfl _ _ (hrz _) ?_)
 rw[hcpA (w.alloc (.cells R0 3)).drew rfl]
 go_wp2
 go_region_law (refine step_copy_eq rfl _ _ 23 23 rfl (.slice (some ⟨w.heap.size,i+1,none⟩) (n-i) (C-(i+1))) (.slice (some ⟨b,i,none⟩) (n-i) (c-i)) (by simp[Act.eval,Act.put]) (by simp[Act.eval,Act.put]) (hcpB _ (by rfl) _ _ _) ?_)
 go_wp2
 go_ret
 obtain⟨k1,k2,k3⟩:=grow2 w R0 (spl R0 (i * 1) vs) (spl (spl R0 (i * 1) vs) ((i+1) * 1) ((cur.toList.drop (i * 1)).take ((n-i) * 1))) 3
 have hsz1:(spl (spl R0 (i * 1) vs) ((i+1) * 1) ((cur.toList.drop (i * 1)).take ((n-i) * 1))).size=C * 1:=by rw[wJ (by rw[wJ (by omega)];rw[mid_len hsz];omega),wJ (by omega),hR0s]
 have hget1:∀k,k<(n+1) * 1->(spl (spl R0 (i * 1) vs) ((i+1) * 1) ((cur.toList.drop (i * 1)).take ((n-i) * 1)))[k]?=(insL 1 cur i n vs)[k]?:=fun k hk=>ins_get_grow hvl hin hsz (by omega) hR0c k hk
 simp only[Nat.mul_one] at k1 k2 k3 hsz1 hget1
 exact⟨C,_,rfl,hC1,hC2,hsz1,k1,k2,k3,hget1⟩
theorem insert_con (l:List (List PV))(i:Nat)(el:List PV)(hi:i<=l.length)(hl:l.length<=1000000)(hel:el.length=1) :
 Con Tryz.prog 126 [.row 1024,.p (I i),.p (.sl 1 [el])] [.row 3 1 l] (.ret (.row 1024) [] [.row 3 1 (l.take i++el::l.drop i)]):=by
 refine fun F w m xs hp hlen har=>.inl ⟨⟨_,Tryz.func126,rfl,rfl⟩,?_⟩
 obtain⟨x0,hx0,hr0⟩:=har 0 _ rfl
 obtain⟨x1,hx1,hr1⟩:=har 1 _ rfl
 obtain⟨x2,hx2,hr2⟩:=har 2 _ rfl
 have hxs:xs.toArray = #[x0,x1,x2]:=by
  match xs,hlen with
  |[y0,y1,y2],_=>simp at hx0 hx1 hx2;subst hx0 hx1 hx2;rfl
 rw[hxs]
 have h0:x0=m.r 1024:=hr0
 have h1:x1=.int .i64 i:=by
  have hr1':RP w _ (.v (.int .i64 i)) x1:=hr1
  cases hr1';rfl
 subst h1
 have hr2':RP w (Gd F m (nmF [.row 3 1 l] [])) (.sl 1 [el]) x2:=hr2
 obtain⟨news,hsrc⟩:=src_RP (P:=Tryz.prog) (by omega:0<1) hr2'
 have hu:Tryz.prog.underlying 23=some (.slice 3):=(Tryz.tab 23 _ rfl).kind
 obtain⟨ti,tz,hti,htz0,htb0,htz1,htz2,-⟩:=(Tryz.tab 3 _ rfl).info
 have htz:ti.size=1:=htz0
 have htb:ti.bytes=8:=htb0
 have htzc:tz.cells.size=1:=by have:=congrArg List.length htz2;simpa using this
 have hrb:RBr w w (Gd F m (nmF [.row 3 1 l] [])) 3 1 l (m.r 1024):=(hp.blks 1024 _ (by rw[nmF1];simp)).RBr
 have hY:∀k,ownB (m.r 1024)=some k->owns m (nmF [.row 3 1 l] []) 1024 k:=fun k hk=>by unfold owns;rw[nmF1];simpa using hk
 rcases hr2'.slI with ⟨b0,-,h0⟩|⟨vb,voff,vc,hx2e,-,-,hvk,hve⟩
 ·simp at h0
 have hx2e:x2=.slice (some ⟨vb,voff,none⟩) 1 vc:=hx2e
 subst hx2e
 obtain⟨hvb,hvg⟩:=hvk (by simp)
 obtain⟨-,hvc⟩:=hve 0 el rfl
 by_cases hend:i=l.length
 ·subst hend
  obtain⟨v,w',hrun,hkp,hrb',hown⟩:=app_row (F:=F) (m:=m) (st:=⟨fun _=>.junk,nmF [.row 3 1 l] []⟩) hu hti htz1 (by rw[htzc,htz]) (.inl ⟨_,hu⟩) #[23,23] ⟨rfl,rfl⟩ 23 htz hsrc (by rw[htb];simp;omega) (by simp;omega) (by omega) (by omega) (.inl ⟨hrb,hY⟩)
  have hcall:∃sb c,m.r 1024=.slice sb l.length c/\l.length<=c/\c<=9223372036854775807:=by
   rcases hrb with ⟨-,⟨a,ha⟩,hl0⟩|⟨k,cap,cur,hr,-,h2,h3,-⟩
   ·exact⟨a,0,by rw[ha,hl0];rfl,by rw[hl0];simp,by omega⟩
   ·exact⟨_,cap,hr,h2,h3⟩
  obtain⟨sb,c,hs,hc1,hc2⟩:=hcall
  rw[h0,hs]
  rw[hs] at hrun
  refine (ins_end sb l.length c vb voff vc w hc1 hc2 hrun).mono ?_
  rintro e w2 ⟨rfl,rfl⟩
  have e1:l.take l.length++el::l.drop l.length=l++[el]:=by simp
  rw[e1]
  exact row_out hp hkp hrb' hown
 ·have hlt:i<l.length:=by omega
  rcases hrb with ⟨-,-,hl0⟩|⟨k,cap,cur,hr,hc0,hlc,hcm,hh,hsz,hels⟩
  ·rw[hl0] at hlt;simp at hlt
  have hk:owns m (nmF [.row 3 1 l] []) 1024 k:=hY k (by simp[hr,ownB];omega)
  have hvbk:vb ≠ k:=fun h=>hvg (.inr ⟨_,h ▸ hk⟩)
  have hcm':cap<=9223372036854775807:=hcm
  have hlsz:l.length * 1<=cur.size:=by rw[hsz];omega
  have hcell:∀ (j:Nat)(p:PV),el[j]?=some p->p.one=true/\∃u,w.cell? ⟨vb,voff+j,none⟩=some u/\RP w (Gd F m (nmF [.row 3 1 l] [])) p u:=fun j p hj=>by simpa using hvc j p hj
  have hcA:∃cA tA fA,w.heap[vb]?=some (.cells cA tA fA):=by
   obtain⟨-,u,hu,-⟩:=hcell 0 _ (List.getElem?_eq_getElem (by omega))
   unfold World.cell? at hu
   split at hu
   ·exact⟨_,_,_,by assumption⟩
   ·simp at hu
  obtain⟨cA,tA,fA,hcA⟩:=hcA
  obtain⟨vs,hvl,hvs,hvr⟩:∃vs:List Value,vs.length=1/\(∀ (j:Nat)(v:Value),vs[j]?=some v->cA[voff+j]?=some v)/\(∀ (j:Nat)(p:PV),el[j]?=some p->p.one=true/\∃u,vs[j]?=some u/\RP w (Gd F m (nmF [.row 3 1 l] [])) p u):=by
   have hex:∀j,j<1->∃u,cA[voff+j]?=some u/\∃p,el[j]?=some p/\p.one=true/\RP w (Gd F m (nmF [.row 3 1 l] [])) p u:=fun j hj=>by
    obtain⟨ho,u,hu,hpr⟩:=hcell j _ (List.getElem?_eq_getElem (by omega))
    exact⟨u,by simpa [World.cell?,hcA] using hu,_,List.getElem?_eq_getElem (by omega),ho,hpr⟩
   refine⟨(List.range 1).map fun j=>(cA[voff+j]?).getD undef,by simp,fun j v hj=>?_,fun j p hj=>?_⟩
   ·rw[List.getElem?_map] at hj
    by_cases hj7:j<1
    ·rw[List.getElem?_range hj7] at hj
     obtain⟨u,h2,-⟩:=hex j hj7
     simp only[Option.map_some,h2,Option.getD_some,vQ] at hj
     rw[h2,hj]
    ·rw[List.getElem?_eq_none (by simp;omega)] at hj;simp at hj
   ·have hj7:j<1:=by have:=(List.getElem?_eq_some_iff.1 hj).1;omega
    obtain⟨u,h2,p',h3,h4,h5⟩:=hex j hj7
    rw[hj] at h3
    simp only[vQ] at h3
    subst h3
    exact⟨h4,u,by rw[List.getElem?_map,List.getElem?_range hj7];simp[h2],h5⟩
  have hone:∀v∈vs,v.oneCell'=true:=fun v hv=>by
   obtain⟨j,hj⟩:=List.mem_iff_getElem?.1 hv
   have hjl:=(List.getElem?_eq_some_iff.1 hj).1
   obtain⟨h2,u,h3,h4⟩:=hvr j _ (List.getElem?_eq_getElem (by omega))
   rw[hj] at h3
   simp only[vQ] at h3
   rw[h3];exact h4.oneCell h2
  have honec:∀ (j:Nat)(v:Value),j<l.length * 1->cur[j]?=some v->v.oneCell'=true:=fun j v hj hv=>by
   have hjl:j / 1<l.length:=by omega
   obtain⟨h2,h3⟩:=hels (j / 1) _ (List.getElem?_eq_getElem hjl)
   obtain⟨h4,u,h5,h6⟩:=h3 (j % 1) _ (List.getElem?_eq_getElem (by rw[h2];omega))
   have h5':cur[j / 1 * 1+j % 1]?=some u:=h5
   rw[show j / 1 * 1+j % 1=j by omega,hv] at h5'
   simp only[vQ] at h5'
   rw[h5'];exact h6.oneCell h4
  rw[h0,hr]
  by_cases hroom:l.length+1<=cap
  ·refine (ins_shift k l.length cap i vb voff vc cur cA vs w tA fA hh hsz hlt hroom hcm' hvbk hcA hvl hvs hone honec).mono ?_
   rintro e w2 ⟨rfl,rfl⟩
   obtain⟨k1,k2⟩:=shift2 w k cur (spl cur ((i+1) * 1) ((cur.toList.drop (i * 1)).take ((l.length-i) * 1))) (spl (spl cur ((i+1) * 1) ((cur.toList.drop (i * 1)).take ((l.length-i) * 1))) (i * 1) vs) 3 hh
   have e1:(l.take i++el::l.drop i).length=l.length+1:=by simp;omega
   have hfit:(l.length+1) * 1<=cur.size:=by rw[hsz];omega
   refine row_out hp (k1.mono fun k' h=>h ▸ hk) (.inr ⟨k,cap,_,by rw[e1],hc0,by rw[e1];exact hroom,hcm,k2,?_,EL.ins hels hvl hel hvr hi hlsz fun j hj=>ins_get_shift hvl hi hfit j hj⟩) fun k' hk'=>?_
   ·rw[wJ (by rw[wJ (by rw[mid_len hlsz];omega)];omega),wJ (by rw[mid_len hlsz];omega),hsz]
   ·simp only[ownB,if_neg (show ¬ cap=0 by omega),vQ] at hk'
    subst hk'
    exact⟨.inl hk,lt_of_heap k2⟩
  ·refine (ins_grow k l.length cap i vb voff vc cur cA vs w tA fA hh hlsz hlt hlc (by omega) (by omega) hcA hvl hvs hone honec).mono ?_
   rintro e w2 ⟨C,R,rfl,hC1,hC2,hRs,hkp,hR,hsz2,hRg⟩
   have e1:(l.take i++el::l.drop i).length=l.length+1:=by simp;omega
   refine row_out hp (hkp.mono fun _ h=>h.elim) (.inr ⟨w.heap.size,C,R,by rw[e1],by omega,by rw[e1];exact hC1,hC2,hR,hRs,EL.ins hels hvl hel hvr hi hlsz hRg⟩) fun k' hk'=>?_
   simp only[ownB,if_neg (show ¬ C=0 by omega),vQ] at hk'
   subst hk'
   exact⟨.inr (Nat.le_refl _),hsz2⟩
end Go.Proofs.YtpihbhacmokekaaGreatDoor
namespace Go.Proofs.YtpihbhacmokekaaGreatDoor
set_option linter.unusedSimpArgs false
set_option linter.unusedVariables false
open Go Go.Av
attribute [local irreducible] Go.Av.yJ Go.Av.zU Go.Av.yC Go.Av.zQ Go.Av.yG Go.Av.zV Go.Av.Con
theorem without_con (l:List Int)(n:Int)(hl:l.length<=1000000):Con Tryz.prog 111 [.row 1024,.p (I n)] [.row 3 1 (zis l)] (.ret (.row 1024) [] [.row 3 1 (zis (but l n))]):=by
 have hc:=deleteF_con l n hl
 refine wBodyG Tryz.tab Tryz.mixed Tryz.func111 rfl rfl Tryz.ntmps111 (by simp) (by simp) fun Q hr hn hp=>?_
 repeat' first|(refine vY [1024,3] hc (by decide) (by decide) (by simp[yI,inN,pos,yX,zD]) (by simp[yS,xA,zD,inN,pos,yZ,yN]) ⟨[],by simp,by simp,?_⟩;simp[lv,ouN,kpI,kpR,pos,ren,zD,yX,yN,yZ])|((first|refine O _ ?_|refine O _ _ ?_|(clear O;refine O _ ?_));clear O)|(refine zJ fun K O=>?_)|((first|refine zH ?_|refine zN rfl (by kernel_rfl) ?_|refine zM ?_|refine zK (by kernel_rfl) ?_);simp only[vS,vR,strip])|((first|refine wIs fun K O=>?_|refine wOs fun K O=>?_|refine wQs fun K O=>?_|refine zW ?_|refine zX ?_|refine zY ?_|refine zL ?_);simp)|(refine wIn ?_;refine And.intro (by kernel_rfl) ?_;try simp only[zZ])|refine zR ?_|refine zT ?_|((first|refine zI ?_|refine zO ?_|refine zP ?_);try simp)|((first|refine zS ?_|refine wOn ?_|refine wQn ?_);try simp only[zZ])
 all_goals apply hr
 all_goals refine⟨[],by simp,by simp,?_⟩
 all_goals simp[Tryz.f111,wD,wI,yX,gaN]
def atI:List Int->Int->Nat
 |[],_=>0
 |x::r,s=>if x<s then atI r s+1 else 0
theorem atI_step {l:List Int}{k:Nat}(h:k<l.length)(s:Int):atI (l.drop k) s=if l[k]<s then atI (l.drop (k+1)) s+1 else 0:=by
 rw[List.drop_eq_getElem_cons h];rfl
theorem atI_but:∀ (l:List Int)(s:Int),atI l s<=(but l s).length
 |[],s=>by simp[atI]
 |x::r,s=>by
  have ih:=atI_but r s
  rw[atI]
  by_cases h:x<s
  ·rw[if_pos h]
   have:but (x::r) s=x::but r s:=by
    unfold but;rw[List.filter_cons_of_pos (by simp;omega)]
   rw[this];simp;exact ih
  ·rw[if_neg h];omega
def insI (l:List Int)(s:Int):List Int:=(but l s).take (atI l s)++s::(but l s).drop (atI l s)
def okS (s:Int):Bool:=decide (1<=s/\s<=1099511627776)
def opnL (l:List Int)(s:Int):List Int:=if okS s=true then insI l s else l
def opnN (nx s:Int):Int:=if okS s=true then max nx (s+1) else nx
theorem zis_ins (l:List Int)(s:Int):(zis (but l s)).take (atI l s)++[I s]::(zis (but l s)).drop (atI l s)=zis (insI l s):=by
 simp[zis,insI,List.map_take,List.map_drop]
set_option maxHeartbeats 1000000 in
theorem open_con (ns ms:List (List PV))(l:List Int)(nx e n k ae an s:Int)(hl:l.length<=1000000) :
 Con Tryz.prog 110 [.ptr 1024 0,.p (I s)] [.box 30 [.p (.sl 5 ns),.row 1025,.p (I nx),.p (I e),.p (I n),.p (I k),.p (.sl 4 ms),.p (I ae),.p (I an)],.row 3 1 (zis l)]
  (.ret (.tup []) [] [.box 30 [.p (.sl 5 ns),.row 1025,.p (I (opnN nx s)),.p (I e),.p (I n),.p (I k),.p (.sl 4 ms),.p (I ae),.p (I an)],.row 3 1 (zis (opnL l s))]):=by
 unfold opnN opnL okS
 by_cases h1:s<1
 ·rw[show decide (1<=s/\s<=1099511627776)=false from decide_eq_false (by omega)]
  simp only[Bool.false_eq_true,if_false]
  refine wBodyG Tryz.tab Tryz.mixed Tryz.func110 rfl rfl Tryz.ntmps110 (by simp) (by simp) fun Q hr hn hp=>?_
  repeat' first|((first|refine O _ ?_|refine O _ _ ?_|(clear O;refine O _ ?_));clear O)|(refine zJ fun K O=>?_)|((first|refine zH ?_|refine zN rfl (by kernel_rfl) ?_|refine zM ?_|refine zK (by kernel_rfl) ?_);simp only[vS,vR,strip])|((first|refine wIs fun K O=>?_|refine wOs fun K O=>?_|refine wQs fun K O=>?_|refine zW ?_|refine zX ?_|refine zY ?_|refine zL ?_);simp[h1])|(refine wIn ?_;refine And.intro (by kernel_rfl) ?_;try simp only[zZ])|refine zR ?_|refine zT ?_|((first|refine zI ?_|refine zO ?_|refine zP ?_);try simp)|((first|refine zS ?_|refine wOn ?_|refine wQn ?_);try simp only[zZ])
  all_goals apply hr
  all_goals refine⟨[],by simp,by simp,?_⟩
  all_goals simp[Tryz.f110,wD,wI,yX,gaN]
 by_cases h2:1099511627776<s
 ·rw[show decide (1<=s/\s<=1099511627776)=false from decide_eq_false (by omega)]
  simp only[Bool.false_eq_true,if_false]
  refine wBodyG Tryz.tab Tryz.mixed Tryz.func110 rfl rfl Tryz.ntmps110 (by simp) (by simp) fun Q hr hn hp=>?_
  repeat' first|((first|refine O _ ?_|refine O _ _ ?_|(clear O;refine O _ ?_));clear O)|(refine zJ fun K O=>?_)|((first|refine zH ?_|refine zN rfl (by kernel_rfl) ?_|refine zM ?_|refine zK (by kernel_rfl) ?_);simp only[vS,vR,strip])|((first|refine wIs fun K O=>?_|refine wOs fun K O=>?_|refine wQs fun K O=>?_|refine zW ?_|refine zX ?_|refine zY ?_|refine zL ?_);simp[h1,h2])|(refine wIn ?_;refine And.intro (by kernel_rfl) ?_;try simp only[zZ])|refine zR ?_|refine zT ?_|((first|refine zI ?_|refine zO ?_|refine zP ?_);try simp)|((first|refine zS ?_|refine wOn ?_|refine wQn ?_);try simp only[zZ])
  all_goals apply hr
  all_goals refine⟨[],by simp,by simp,?_⟩
  all_goals simp[Tryz.f110,wD,wI,yX,gaN]
 rw[show decide (1<=s/\s<=1099511627776)=true from decide_eq_true (by omega)]
 simp only[if_true]
 have hc:=without_con l s hl
 have hbl:=but_len l s
 have hi:=insert_con (zis (but l s)) (atI l s) [I s] (by rw[zis_len];exact atI_but l s) (by rw[zis_len];omega) rfl
 rw[zis_ins] at hi
 have hw1:IntKind.i64.wrap (s+1)=s+1:=by rw[zF] <;> omega
 refine wBodyG Tryz.tab Tryz.mixed Tryz.func110 rfl rfl Tryz.ntmps110 (by simp) (by simp) fun Q hr hn hp=>?_
 repeat' first|((first|refine O _ ?_|refine O _ _ ?_|(clear O;refine O _ ?_));clear O)|(refine zJ fun K O=>?_)|((first|refine zH ?_|refine zN rfl (by kernel_rfl) ?_|refine zM ?_|refine zK (by kernel_rfl) ?_);simp only[vS,vR,strip])|((first|refine wIs fun K O=>?_|refine wOs fun K O=>?_|refine wQs fun K O=>?_|refine zW ?_|refine zX ?_|refine zY ?_|refine zL ?_);simp[h1,h2])|(refine wIn ?_;refine And.intro (by kernel_rfl) ?_;try simp only[zZ])|refine zR ?_|refine zT ?_|((first|refine zI ?_|refine zO ?_|refine zP ?_);try simp)|((first|refine zS ?_|refine wOn ?_|refine wQn ?_);try simp only[zZ])
 refine zC (fun N st=>∃q,q+N=l.length/\atI l s=q+atI (l.drop q) s/\st.s 0=.ptr 1024 0/\st.s 1=.p (I s)/\st.s 4=.p (I q)/\st.b 1025=some (.row 3 1 (zis l))/\st.b 1024=some (.box 30 [.p (.sl 5 ns),.row 1025,.p (I nx),.p (I e),.p (I n),.p (I k),.p (.sl 4 ms),.p (I ae),.p (I an)])) l.length ⟨0,by simp⟩ fun K N st hL ⟨q,hq,hat,g0,g1,g4,b1,b0⟩=>?_
 have hend:atI (l.drop q) s=0->atI l s=q:=fun h=>by omega
 by_cases hlt:q<l.length
 ·have hw:=wrapX q _ hlt (by omega)
  have he:=zis_get hlt
  have hs:=atI_step hlt s
  by_cases o:l[q]<s
  ·rw[if_pos o] at hs
   repeat' first|((first|refine O _ ?_|refine O _ _ ?_|(clear O;refine O _ ?_));clear O)|(refine zJ fun K O=>?_)|((first|refine zH ?_|refine zN rfl (by kernel_rfl) ?_|refine zM ?_|refine zK (by kernel_rfl) ?_);simp only[vS,vR,strip])|((first|refine wIs fun K O=>?_|refine wOs fun K O=>?_|refine wQs fun K O=>?_|refine zW ?_|refine zX ?_|refine zY ?_|refine zL ?_);simp[g0,g1,g4,b0,b1,hlt,hw,he,o])|(refine wIn ?_;refine And.intro (by kernel_rfl) ?_;try simp only[zZ])|refine zR ?_|refine zT ?_|((first|refine zI ?_|refine zO ?_|refine zP ?_);try simp)|((first|refine zS ?_|refine wOn ?_|refine wQn ?_);try simp only[zZ])
   refine hL _ (N-1) (by omega) ⟨q+1,by omega,by omega,?_⟩
   simp[g0,g1,g4,b0,b1,hw]
  ·rw[if_neg o] at hs
   rw[hend hs] at hi
   repeat' first|(refine vY [1025] hc (by decide) (by decide) (by simp[yI,inN,pos,yX,zD,b1]) (by simp[yS,xA,zD,inN,pos,yZ,yN]) ⟨[],by simp,by simp,?_⟩;simp[lv,ouN,kpI,kpR,pos,ren,zD,yX,yN,yZ,g0,g1,g4,b0,b1])|(refine vY [1025] hi (by decide) (by decide) (by simp[yI,inN,pos,yX,zD,lv,ouN,kpI,kpR,b1]) (by simp[yS,xA,zD,inN,pos,yZ,yN]) ⟨[],by simp,by simp,?_⟩;simp[lv,ouN,kpI,kpR,pos,ren,zD,yX,yN,yZ,g0,g1,g4,b0,b1])|((first|refine O _ ?_|refine O _ _ ?_|(clear O;refine O _ ?_));clear O)|(refine zJ fun K O=>?_)|((first|refine zH ?_|refine zN rfl (by kernel_rfl) ?_|refine zM ?_|refine zK (by kernel_rfl) ?_);simp only[vS,vR,strip])|((first|refine wIs fun K O=>?_|refine wOs fun K O=>?_|refine wQs fun K O=>?_|refine zW ?_|refine zX ?_|refine zY ?_|refine zL ?_);simp[g0,g1,g4,b0,b1,hlt,hw,he,o,hw1,lv,ouN,kpI,kpR,pos,ren,zD,yX,yN,yZ])|(refine wIn ?_;refine And.intro (by kernel_rfl) ?_;try simp only[zZ])|refine zR ?_|refine zT ?_|((first|refine zI ?_|refine zO ?_|refine zP ?_);try simp)|((first|refine zS ?_|refine wOn ?_|refine wQn ?_);try simp only[zZ])
   all_goals first|apply hr|apply hn
   all_goals refine⟨[],by simp,by simp,?_⟩
   all_goals simp[Tryz.f110,wD,wI,yX,gaN,lv,ouN,kpI,kpR,pos,ren,zD,yN,yZ,b0,b1]
   all_goals (split <;> omega)
 ·have hql:q=l.length:=by omega
  have hs:atI (l.drop q) s=0:=by rw[List.drop_eq_nil_of_le (by omega)];rfl
  rw[hend hs] at hi
  repeat' first|(refine vY [1025] hc (by decide) (by decide) (by simp[yI,inN,pos,yX,zD,b1]) (by simp[yS,xA,zD,inN,pos,yZ,yN]) ⟨[],by simp,by simp,?_⟩;simp[lv,ouN,kpI,kpR,pos,ren,zD,yX,yN,yZ,g0,g1,g4,b0,b1])|(refine vY [1025] hi (by decide) (by decide) (by simp[yI,inN,pos,yX,zD,lv,ouN,kpI,kpR,b1]) (by simp[yS,xA,zD,inN,pos,yZ,yN]) ⟨[],by simp,by simp,?_⟩;simp[lv,ouN,kpI,kpR,pos,ren,zD,yX,yN,yZ,g0,g1,g4,b0,b1])|((first|refine O _ ?_|refine O _ _ ?_|(clear O;refine O _ ?_));clear O)|(refine zJ fun K O=>?_)|((first|refine zH ?_|refine zN rfl (by kernel_rfl) ?_|refine zM ?_|refine zK (by kernel_rfl) ?_);simp only[vS,vR,strip])|((first|refine wIs fun K O=>?_|refine wOs fun K O=>?_|refine wQs fun K O=>?_|refine zW ?_|refine zX ?_|refine zY ?_|refine zL ?_);simp[g0,g1,g4,b0,b1,hlt,hw1,lv,ouN,kpI,kpR,pos,ren,zD,yX,yN,yZ])|(refine wIn ?_;refine And.intro (by kernel_rfl) ?_;try simp only[zZ])|refine zR ?_|refine zT ?_|((first|refine zI ?_|refine zO ?_|refine zP ?_);try simp)|((first|refine zS ?_|refine wOn ?_|refine wQn ?_);try simp only[zZ])
  all_goals first|apply hr|apply hn
  all_goals refine⟨[],by simp,by simp,?_⟩
  all_goals simp[Tryz.f110,wD,wI,yX,gaN,lv,ouN,kpI,kpR,pos,ren,zD,yN,yZ,b0,b1]
  all_goals (split <;> omega)
theorem wZ (l:List Int)(a:Int):zis l++[[I a]]=zis (l++[a]):=by simp[zis]
theorem but_take_len (l:List Int)(n:Int)(k:Nat):(but (l.take k) n).length<=k:=Nat.le_trans (but_len _ _) (by simp;omega)
theorem without08_con (l:List Int)(n:Int)(hl:l.length<=1000000):zE Tryz.prog 74 [.p (.sl 1 (zis l)),.p (I n)] (.p (.sl 1 (zis (but l n)))):=by
 refine zG Tryz.tab Tryz.mixed Tryz.func74 rfl rfl Tryz.ntmps74 (by simp) (by simp) fun Q hr hn=>?_
 repeat' first|((first|refine O _ ?_|refine O _ _ ?_|(clear O;refine O _ ?_));clear O)|(refine zJ fun K O=>?_)|((first|refine zH ?_|refine zN rfl (by kernel_rfl) ?_|refine zM ?_|refine zK (by kernel_rfl) ?_);simp only[vS,vR,strip])|((first|refine wIs fun K O=>?_|refine wOs fun K O=>?_|refine wQs fun K O=>?_|refine zW ?_|refine zX ?_|refine zY ?_|refine zL ?_);simp)|(refine wIn ?_;refine And.intro (by kernel_rfl) ?_;try simp only[zZ])|refine zR ?_|refine zT ?_|((first|refine zI ?_|refine zO ?_|refine zP ?_);try simp)|((first|refine zS ?_|refine wOn ?_|refine wQn ?_);try simp only[zZ])
 refine wLoopG [.row 5 3 1] (fun N st=>∃k,k+N=l.length/\st.s 1=.p (I n)/\st.s 8=.p (.sl 1 (zis l))/\st.s 9=.p (I l.length)/\st.s 10=.p (I k)/\st.s 5=.row 5/\st.b 5=some (.row 3 1 (zis (but (l.take k) n)))) l.length ⟨0,by simp[but,zis]⟩ fun K N st hL ⟨k,hk,g1,g8,g9,g10,g5,b5⟩=>?_
 have hkl:=but_take_len l n k
 by_cases hlt:k<l.length
 ·have hw:=wrapX k _ hlt (by omega)
  have he:=zis_get hlt
  have hs:=but_snoc hlt n
  have hx:=wZ (but (l.take k) n) l[k]
  by_cases o:l[k]=n
  ·rw[if_pos o] at hs
   repeat' first|((first|refine O _ ?_|refine O _ _ ?_|(clear O;refine O _ ?_));clear O)|(refine zJ fun K O=>?_)|((first|refine zH ?_|refine zN rfl (by kernel_rfl) ?_|refine zM ?_|refine zK (by kernel_rfl) ?_);simp only[vS,vR,strip])|((first|refine wIs fun K O=>?_|refine wOs fun K O=>?_|refine wQs fun K O=>?_|refine zW ?_|refine zX ?_|refine zY ?_|refine zL ?_);simp[g1,g8,g9,g10,g5,b5,hlt,hw,he,o])|(refine wIn ?_;refine And.intro (by kernel_rfl) ?_;try simp only[zZ])|refine zR ?_|refine zT ?_|((first|refine zI ?_|refine zO ?_|refine zP ?_);try simp)|((first|refine zS ?_|refine wOn ?_|refine wQn ?_);try simp only[zZ])
   refine hL _ (N-1) (by omega) ⟨k+1,by omega,?_⟩
   simp[g1,g8,g9,g10,g5,b5,hw,hs]
  ·rw[if_neg o] at hs
   rw[<- hs] at hx
   repeat' first|(refine And.intro (by (try simp at hkl ⊢);omega) ?_)|((first|refine O _ ?_|refine O _ _ ?_|(clear O;refine O _ ?_));clear O)|(refine zJ fun K O=>?_)|((first|refine zH ?_|refine zN rfl (by kernel_rfl) ?_|refine zM ?_|refine zK (by kernel_rfl) ?_);simp only[vS,vR,strip])|((first|refine wIs fun K O=>?_|refine wOs fun K O=>?_|refine wQs fun K O=>?_|refine zW ?_|refine zX ?_|refine zY ?_|refine zL ?_);simp[g1,g8,g9,g10,g5,b5,hlt,hw,he,o])|(refine wIn ?_;refine And.intro (by kernel_rfl) ?_;try simp only[zZ])|refine zR ?_|refine zT ?_|((first|refine zI ?_|refine zO ?_|refine zP ?_);try simp)|((first|refine zS ?_|refine wOn ?_|refine wQn ?_);try simp only[zZ])
   refine hL _ (N-1) (by omega) ⟨k+1,by omega,?_⟩
   simp[g1,g8,g9,g10,g5,b5,hw,hx]
 ·rw[List.take_of_length_le (by omega)] at b5
  repeat' first|((first|refine O _ ?_|refine O _ _ ?_|(clear O;refine O _ ?_));clear O)|(refine zJ fun K O=>?_)|((first|refine zH ?_|refine zN rfl (by kernel_rfl) ?_|refine zM ?_|refine zK (by kernel_rfl) ?_);simp only[vS,vR,strip])|((first|refine wIs fun K O=>?_|refine wOs fun K O=>?_|refine wQs fun K O=>?_|refine zW ?_|refine zX ?_|refine zY ?_|refine zL ?_);simp[g1,g8,g9,g10,g5,b5,hlt])|(refine wIn ?_;refine And.intro (by kernel_rfl) ?_;try simp only[zZ])|refine zR ?_|refine zT ?_|((first|refine zI ?_|refine zO ?_|refine zP ?_);try simp)|((first|refine zS ?_|refine wOn ?_|refine wQn ?_);try simp only[zZ])
  all_goals apply hr
  all_goals simp[Tryz.f74,g5,b5]
theorem copied08_con (e n k:Int)(ms:List (List PV))(hl:ms.length<=4398046510976):zE Tryz.prog 70 [.p (.agg [I e,I n,I k,.sl 4 ms])] (.p (.agg [I e,I n,I k,.sl 4 ms])):=by
 refine zG Tryz.tab Tryz.mixed Tryz.func70 rfl rfl Tryz.ntmps70 (by simp) (by simp) fun Q hr hn=>?_
 repeat' first|(refine And.intro (by (try simp);omega) ?_)|(refine Or.inl ?_)|((first|refine O _ ?_|refine O _ _ ?_|(clear O;refine O _ ?_));clear O)|(refine zJ fun K O=>?_)|((first|refine zH ?_|refine zN rfl (by kernel_rfl) ?_|refine zM ?_|refine zK (by kernel_rfl) ?_);simp only[vS,vR,strip])|((first|refine wIs fun K O=>?_|refine wOs fun K O=>?_|refine wQs fun K O=>?_|refine zW ?_|refine zX ?_|refine zY ?_|refine zL ?_);simp)|(refine wIn ?_;refine And.intro (by kernel_rfl) ?_;try simp only[zZ])|refine zR ?_|refine zT ?_|((first|refine zI ?_|refine zO ?_|refine zP ?_);try simp)|((first|refine zS ?_|refine wOn ?_|refine wQn ?_);try simp only[zZ])
 all_goals apply hr
 all_goals simp[Tryz.f70]
def wst1 (n:Int)(q:List Int × Bool)(x:Int):List Int × Bool :=
 if n<=x/\q.2=false then (if x=n then q.1++[n] else q.1++[n]++[x],true) else (if x=n then q.1 else q.1++[x],q.2)
def wst (l:List Int)(n:Int):List Int × Bool:=l.foldl (wst1 n) ([],false)
theorem wst_snoc {l:List Int}{k:Nat}(h:k<l.length)(n:Int):wst (l.take (k+1)) n=wst1 n (wst (l.take k) n) l[k]:=by
 rw[List.take_succ_eq_append_getElem h,wst,List.foldl_append];rfl
theorem wst_len (n:Int):∀ (l:List Int)(q:List Int × Bool),(l.foldl (wst1 n) q).1.length<=q.1.length+2 * l.length
 |[],q=>by simp
 |x::l,q=>by
  have:=wst_len n l (wst1 n q x)
  have h1:(wst1 n q x).1.length<=q.1.length+2:=by unfold wst1;split <;> split <;> simp
  simp only[List.foldl_cons,List.length_cons]
  omega
def wth (l:List Int)(n:Int):List Int:=if (wst l n).2=true then (wst l n).1 else (wst l n).1++[n]
theorem wst_take_len (l:List Int)(n:Int)(k:Nat):(wst (l.take k) n).1.length<=2 * k:=by
 have:=wst_len n (l.take k) ([],false)
 have h2:(l.take k).length<=k:=by simp;omega
 unfold wst
 simp at this ⊢;omega
theorem with08_con (l:List Int)(n:Int)(hl:l.length<=1000000):zE Tryz.prog 73 [.p (.sl 1 (zis l)),.p (I n)] (.p (.sl 1 (zis (wth l n)))):=by
 refine zG Tryz.tab Tryz.mixed Tryz.func73 rfl rfl Tryz.ntmps73 (by simp) (by simp) fun Q hr hn=>?_
 repeat' first|((first|refine O _ ?_|refine O _ _ ?_|(clear O;refine O _ ?_));clear O)|(refine zJ fun K O=>?_)|((first|refine zH ?_|refine zN rfl (by kernel_rfl) ?_|refine zM ?_|refine zK (by kernel_rfl) ?_);simp only[vS,vR,strip])|((first|refine wIs fun K O=>?_|refine wOs fun K O=>?_|refine wQs fun K O=>?_|refine zW ?_|refine zX ?_|refine zY ?_|refine zL ?_);simp)|(refine wIn ?_;refine And.intro (by kernel_rfl) ?_;try simp only[zZ])|refine zR ?_|refine zT ?_|((first|refine zI ?_|refine zO ?_|refine zP ?_);try simp)|((first|refine zS ?_|refine wOn ?_|refine wQn ?_);try simp only[zZ])
 refine wLoopG [.row 5 3 1] (fun N st=>∃k,k+N=l.length/\st.s 1=.p (I n)/\st.s 9=.p (.sl 1 (zis l))/\st.s 10=.p (I l.length)/\st.s 11=.p (I k)/\st.s 5=.row 5/\st.s 6=.p (B (wst (l.take k) n).2)/\st.b 5=some (.row 3 1 (zis (wst (l.take k) n).1))) l.length ⟨0,by simp[wst,zis]⟩ fun K N st hL ⟨k,hk,g1,g9,g10,g11,g5,g6,b5⟩=>?_
 have hkl:=wst_take_len l n k
 by_cases hlt:k<l.length
 ·have hw:=wrapX k _ hlt (by omega)
  have he:=zis_get hlt
  have hs:=wst_snoc hlt n
  generalize wst (l.take k) n=q at hs g6 b5 hkl
  obtain⟨o,d⟩:=q
  dsimp only at g6 b5 hkl
  generalize hx:l[k]=x at hs he
  by_cases h1:n<=x
  ·cases d
   ·by_cases h2:x=n
    ·have hs':wst (l.take (k+1)) n=(o++[n],true):=by rw[hs];simp[wst1,h1,h2]
     repeat' first|(refine And.intro (by (try simp at hkl ⊢);omega) ?_)|((first|refine O _ ?_|refine O _ _ ?_|(clear O;refine O _ ?_));clear O)|(refine zJ fun K O=>?_)|((first|refine zH ?_|refine zN rfl (by kernel_rfl) ?_|refine zM ?_|refine zK (by kernel_rfl) ?_);simp only[vS,vR,strip])|((first|refine wIs fun K O=>?_|refine wOs fun K O=>?_|refine wQs fun K O=>?_|refine zW ?_|refine zX ?_|refine zY ?_|refine zL ?_);simp[g1,g9,g10,g11,g5,g6,b5,hlt,hw,he,hx,h1,h2,wZ])|(refine wIn ?_;refine And.intro (by kernel_rfl) ?_;try simp only[zZ])|refine zR ?_|refine zT ?_|((first|refine zI ?_|refine zO ?_|refine zP ?_);try simp)|((first|refine zS ?_|refine wOn ?_|refine wQn ?_);try simp only[zZ])
     refine hL _ (N-1) (by omega) ⟨k+1,by omega,?_⟩
     simp[g1,g9,g10,g11,g5,g6,b5,hw,hs',wZ]
    ·have hs':wst (l.take (k+1)) n=(o++[n]++[x],true):=by rw[hs];simp[wst1,h1,h2]
     repeat' first|(refine And.intro (by (try simp at hkl ⊢);omega) ?_)|((first|refine O _ ?_|refine O _ _ ?_|(clear O;refine O _ ?_));clear O)|(refine zJ fun K O=>?_)|((first|refine zH ?_|refine zN rfl (by kernel_rfl) ?_|refine zM ?_|refine zK (by kernel_rfl) ?_);simp only[vS,vR,strip])|((first|refine wIs fun K O=>?_|refine wOs fun K O=>?_|refine wQs fun K O=>?_|refine zW ?_|refine zX ?_|refine zY ?_|refine zL ?_);simp[g1,g9,g10,g11,g5,g6,b5,hlt,hw,he,hx,h1,h2,wZ])|(refine wIn ?_;refine And.intro (by kernel_rfl) ?_;try simp only[zZ])|refine zR ?_|refine zT ?_|((first|refine zI ?_|refine zO ?_|refine zP ?_);try simp)|((first|refine zS ?_|refine wOn ?_|refine wQn ?_);try simp only[zZ])
     refine hL _ (N-1) (by omega) ⟨k+1,by omega,?_⟩
     simp[g1,g9,g10,g11,g5,g6,b5,hw,hs',wZ]
   ·by_cases h2:x=n
    ·have hs':wst (l.take (k+1)) n=(o,true):=by rw[hs];simp[wst1,h1,h2]
     repeat' first|((first|refine O _ ?_|refine O _ _ ?_|(clear O;refine O _ ?_));clear O)|(refine zJ fun K O=>?_)|((first|refine zH ?_|refine zN rfl (by kernel_rfl) ?_|refine zM ?_|refine zK (by kernel_rfl) ?_);simp only[vS,vR,strip])|((first|refine wIs fun K O=>?_|refine wOs fun K O=>?_|refine wQs fun K O=>?_|refine zW ?_|refine zX ?_|refine zY ?_|refine zL ?_);simp[g1,g9,g10,g11,g5,g6,b5,hlt,hw,he,hx,h1,h2])|(refine wIn ?_;refine And.intro (by kernel_rfl) ?_;try simp only[zZ])|refine zR ?_|refine zT ?_|((first|refine zI ?_|refine zO ?_|refine zP ?_);try simp)|((first|refine zS ?_|refine wOn ?_|refine wQn ?_);try simp only[zZ])
     refine hL _ (N-1) (by omega) ⟨k+1,by omega,?_⟩
     simp[g1,g9,g10,g11,g5,g6,b5,hw,hs']
    ·have hs':wst (l.take (k+1)) n=(o++[x],true):=by rw[hs];simp[wst1,h1,h2]
     repeat' first|(refine And.intro (by (try simp at hkl ⊢);omega) ?_)|((first|refine O _ ?_|refine O _ _ ?_|(clear O;refine O _ ?_));clear O)|(refine zJ fun K O=>?_)|((first|refine zH ?_|refine zN rfl (by kernel_rfl) ?_|refine zM ?_|refine zK (by kernel_rfl) ?_);simp only[vS,vR,strip])|((first|refine wIs fun K O=>?_|refine wOs fun K O=>?_|refine wQs fun K O=>?_|refine zW ?_|refine zX ?_|refine zY ?_|refine zL ?_);simp[g1,g9,g10,g11,g5,g6,b5,hlt,hw,he,hx,h1,h2,wZ])|(refine wIn ?_;refine And.intro (by kernel_rfl) ?_;try simp only[zZ])|refine zR ?_|refine zT ?_|((first|refine zI ?_|refine zO ?_|refine zP ?_);try simp)|((first|refine zS ?_|refine wOn ?_|refine wQn ?_);try simp only[zZ])
     refine hL _ (N-1) (by omega) ⟨k+1,by omega,?_⟩
     simp[g1,g9,g10,g11,g5,g6,b5,hw,hs',wZ]
  ·have h2:¬ x=n:=by omega
   have hs':wst (l.take (k+1)) n=(o++[x],d):=by rw[hs];simp[wst1,h1,h2]
   repeat' first|(refine And.intro (by (try simp at hkl ⊢);omega) ?_)|((first|refine O _ ?_|refine O _ _ ?_|(clear O;refine O _ ?_));clear O)|(refine zJ fun K O=>?_)|((first|refine zH ?_|refine zN rfl (by kernel_rfl) ?_|refine zM ?_|refine zK (by kernel_rfl) ?_);simp only[vS,vR,strip])|((first|refine wIs fun K O=>?_|refine wOs fun K O=>?_|refine wQs fun K O=>?_|refine zW ?_|refine zX ?_|refine zY ?_|refine zL ?_);simp[g1,g9,g10,g11,g5,g6,b5,hlt,hw,he,hx,h1,h2,wZ])|(refine wIn ?_;refine And.intro (by kernel_rfl) ?_;try simp only[zZ])|refine zR ?_|refine zT ?_|((first|refine zI ?_|refine zO ?_|refine zP ?_);try simp)|((first|refine zS ?_|refine wOn ?_|refine wQn ?_);try simp only[zZ])
   refine hL _ (N-1) (by omega) ⟨k+1,by omega,?_⟩
   simp[g1,g9,g10,g11,g5,g6,b5,hw,hs',wZ]
 ·rw[List.take_of_length_le (by omega)] at b5 g6 hkl
  unfold wth at hr
  generalize wst l n=q at g6 b5 hkl hr
  obtain⟨o,d⟩:=q
  dsimp only at g6 b5 hkl hr
  cases d
  ·simp only[Bool.false_eq_true,if_false] at hr
   repeat' first|(refine And.intro (by (try simp at hkl ⊢);omega) ?_)|((first|refine O _ ?_|refine O _ _ ?_|(clear O;refine O _ ?_));clear O)|(refine zJ fun K O=>?_)|((first|refine zH ?_|refine zN rfl (by kernel_rfl) ?_|refine zM ?_|refine zK (by kernel_rfl) ?_);simp only[vS,vR,strip])|((first|refine wIs fun K O=>?_|refine wOs fun K O=>?_|refine wQs fun K O=>?_|refine zW ?_|refine zX ?_|refine zY ?_|refine zL ?_);simp[g1,g9,g10,g11,g5,g6,b5,hlt,wZ])|(refine wIn ?_;refine And.intro (by kernel_rfl) ?_;try simp only[zZ])|refine zR ?_|refine zT ?_|((first|refine zI ?_|refine zO ?_|refine zP ?_);try simp)|((first|refine zS ?_|refine wOn ?_|refine wQn ?_);try simp only[zZ])
   all_goals apply hr
   all_goals simp[Tryz.f73,g5,b5,wZ]
  ·simp only[if_true] at hr
   repeat' first|((first|refine O _ ?_|refine O _ _ ?_|(clear O;refine O _ ?_));clear O)|(refine zJ fun K O=>?_)|((first|refine zH ?_|refine zN rfl (by kernel_rfl) ?_|refine zM ?_|refine zK (by kernel_rfl) ?_);simp only[vS,vR,strip])|((first|refine wIs fun K O=>?_|refine wOs fun K O=>?_|refine wQs fun K O=>?_|refine zW ?_|refine zX ?_|refine zY ?_|refine zL ?_);simp[g1,g9,g10,g11,g5,g6,b5,hlt])|(refine wIn ?_;refine And.intro (by kernel_rfl) ?_;try simp only[zZ])|refine zR ?_|refine zT ?_|((first|refine zI ?_|refine zO ?_|refine zP ?_);try simp)|((first|refine zS ?_|refine wOn ?_|refine wQn ?_);try simp only[zZ])
   all_goals apply hr
   all_goals simp[Tryz.f73,g5,b5]
theorem wst_true (n:Int):∀ (l o:List Int),l.foldl (wst1 n) (o,true)=(o++but l n,true)
 |[],o=>by simp[but]
 |x::l,o=>by
  rw[List.foldl_cons]
  by_cases h:x=n
  ·rw[show wst1 n (o,true) x=(o,true) by simp[wst1,h],wst_true n l o]
   simp[but,h]
  ·rw[show wst1 n (o,true) x=(o++[x],true) by simp[wst1,h],wst_true n l (o++[x])]
   simp[but,h]
theorem wst_ins (n:Int):∀ (l o:List Int),(if (l.foldl (wst1 n) (o,false)).2=true then (l.foldl (wst1 n) (o,false)).1 else (l.foldl (wst1 n) (o,false)).1++[n])=o++insI l n
 |[],o=>by simp[insI,but,atI]
 |x::l,o=>by
  rw[List.foldl_cons]
  by_cases h1:n<=x
  ·have ha:atI (x::l) n=0:=by rw[atI,if_neg (by omega)]
   by_cases h:x=n
   ·rw[show wst1 n (o,false) x=(o++[n],true) by simp[wst1,h1,h],wst_true]
    simp only[if_true,insI,ha]
    simp[but,h]
   ·rw[show wst1 n (o,false) x=(o++[n]++[x],true) by simp[wst1,h1,h],wst_true]
    simp only[if_true,insI,ha]
    simp[but,h]
  ·have h:¬ x=n:=by omega
   rw[show wst1 n (o,false) x=(o++[x],false) by simp[wst1,h1,h],wst_ins n l (o++[x])]
   have ha:atI (x::l) n=atI l n+1:=by rw[atI,if_pos (by omega)]
   simp only[insI,ha]
   simp[but,h]
theorem wth_ins (l:List Int)(n:Int):wth l n=insI l n:=by
 unfold wth wst
 rw[wst_ins n l []];rfl
end Go.Proofs.YtpihbhacmokekaaGreatDoor
namespace Go.Proofs.YtpihbhacmokekaaGreatDoor
set_option linter.unusedSimpArgs false
set_option linter.unusedVariables false
open Go Go.Av
theorem rst_sub (l:List Zn)(q:List UInt8):(rst l q).Sublist l:=by
 cases l with
 |nil=>exact .slnil
 |cons x r =>
  rw[rst];split
  ·exact List.sublist_cons_self x r
  ·exact List.Sublist.refl _
end Go.Proofs.YtpihbhacmokekaaGreatDoor
namespace Go.Proofs.YtpihbhacmokekaaGreatDoor
set_option linter.unusedSimpArgs false
set_option linter.unusedVariables false
open Go Go.Av
attribute [local irreducible] Go.Av.yJ Go.Av.zU Go.Av.yC Go.Av.zQ Go.Av.yG Go.Av.zV Go.Av.Con
theorem rst_len (l:List Zn)(q:List UInt8):(rst l q).length<=l.length:=(rst_sub l q).length_le
theorem putZ_len (l:List Zn)(z:Zn):(putZ l z).length<=l.length+1:=by
 have:=rst_len (l.drop (att l z.p)) z.p
 have h2:=att_le l z.p
 unfold putZ
 simp at this ⊢
 omega
theorem goneZ_len (l:List Zn)(p:List UInt8):(gone l p).length<=l.length:=List.length_filter_le _ _
theorem ints_zis (l:List Int):ints l=zis l:=rfl
def yK (s:Sv)(p:Pt):Sv :=
 if p.k=1 then { s with ns:=putZ s.ns p.z } else if p.k=2 then { s with ns:=gone s.ns p.z.p }
 else if p.k=3 then { s with ss:=opnL s.ss p.s,nx:=opnN s.nx p.s } else if p.k=4 then { s with ss:=but s.ss p.s }
 else if p.k=5 then { s with c:=p.c } else s
def wW (s:Sv)(l:List Pt):Sv:=l.foldl yK s
theorem runP_snoc (s:Sv){l:List Pt}{k:Nat}(h:k<l.length):wW s (l.take (k+1))=yK (wW s (l.take k)) l[k]:=by
 rw[List.take_succ_eq_append_getElem h,wW,List.foldl_append];rfl
def lateS (s:Sv)(e n:Int):Sv:={ s with ae:=(lastZ [⟨s.ae,s.an⟩,⟨e,n⟩]).e,an:=(lastZ [⟨s.ae,s.an⟩,⟨e,n⟩]).n }
def doS (s:Sv)(t:Tx):Sv:=lateS (wW s t.ps) t.e t.n
theorem insI_len (l:List Int)(s:Int):(insI l s).length<=l.length+1:=by
 have h:=but_len l s
 unfold insI
 simp
 omega
theorem opnL_len (l:List Int)(s:Int):(opnL l s).length<=l.length+1:=by
 unfold opnL
 split
 ·exact insI_len l s
 ·omega
theorem stepP_len (s:Sv)(p:Pt):(yK s p).ns.length<=s.ns.length+1/\(yK s p).ss.length<=s.ss.length+1:=by
 have h1:=putZ_len s.ns p.z
 have h2:=goneZ_len s.ns p.z.p
 have h3:=opnL_len s.ss p.s
 have h4:=but_len s.ss p.s
 unfold yK
 split
 ·exact⟨h1,by simp⟩
 split
 ·exact⟨by show (gone s.ns p.z.p).length<=_;omega,by simp⟩
 split
 ·exact⟨by simp,h3⟩
 split
 ·exact⟨by simp,by show (but s.ss p.s).length<=_;omega⟩
 split <;> exact⟨by simp,by simp⟩
theorem runP_len:∀ (l:List Pt)(s:Sv),(wW s l).ns.length<=s.ns.length+l.length/\(wW s l).ss.length<=s.ss.length+l.length
 |[],s=>⟨by simp[wW],by simp[wW]⟩
 |p::l,s=>by
  have h:=stepP_len s p
  have ih:=runP_len l (yK s p)
  have e:wW s (p::l)=wW (yK s p) l:=rfl
  rw[e]
  simp only[List.length_cons]
  omega
theorem runP_take (s:Sv)(l:List Pt)(k:Nat):(wW s (l.take k)).ns.length<=s.ns.length+l.length/\(wW s (l.take k)).ss.length<=s.ss.length+l.length:=by
 have h:=runP_len (l.take k) s
 have:(l.take k).length<=l.length:=by simp;omega
 omega
def okC (c:Cf):Prop:=c.ms.length<=4398046510976
theorem stepP_c (s:Sv)(p:Pt)(hs:okC s.c)(hp:okC p.c):okC (yK s p).c:=by
 unfold yK
 split
 ·exact hs
 split
 ·exact hs
 split
 ·exact hs
 split
 ·exact hs
 split
 ·exact hp
 ·exact hs
theorem runP_c:∀ (l:List Pt)(s:Sv),okC s.c->(∀p∈l,okC p.c)->okC (wW s l).c
 |[],s,hs,_=>hs
 |p::l,s,hs,hp=>runP_c l (yK s p) (stepP_c s p hs (hp p (by simp))) fun q hq=>hp q (by simp[hq])
def sbox (s:Sv):Blk := .box 30 [.p (.sl 5 (zns s.ns)),.row 1025,.p (I s.nx),.p (I s.c.ep),.p (I s.c.n),.p (I s.c.kind),.p (.sl 4 (mbs s.c.ms)),.p (I s.ae),.p (I s.an)]
set_option maxHeartbeats 4000000 in
theorem do_con (s:Sv)(t:Tx)(h1:s.ns.length+t.ps.length<=1000000)(h2:s.ss.length+t.ps.length<=1000000)(hc:∀p∈t.ps,okC p.c) :
 Con Tryz.prog 89 [.ptr 1024 0,.p (.agg t.cells)] [sbox s,.row 3 1 (zis s.ss)] (.ret (.tup []) [] [sbox (doS s t),.row 3 1 (zis (doS s t).ss)]):=by
 unfold Tx.cells sbox
 refine wBodyG Tryz.tab Tryz.mixed Tryz.func89 rfl rfl Tryz.ntmps89 (by simp) (by simp) fun Q hr hn hp=>?_
 repeat' first|((first|refine O _ ?_|refine O _ _ ?_|(clear O;refine O _ ?_));clear O)|(refine zJ fun K O=>?_)|((first|refine zH ?_|refine zN rfl (by kernel_rfl) ?_|refine zM ?_|refine zK (by kernel_rfl) ?_);simp only[vS,vR,strip])|((first|refine wIs fun K O=>?_|refine wOs fun K O=>?_|refine wQs fun K O=>?_|refine zW ?_|refine zX ?_|refine zY ?_|refine zL ?_);simp)|(refine wIn ?_;refine And.intro (by kernel_rfl) ?_;try simp only[zZ])|refine zR ?_|refine zT ?_|((first|refine zI ?_|refine zO ?_|refine zP ?_);try simp)|((first|refine zS ?_|refine wOn ?_|refine wQn ?_);try simp only[zZ])
 refine zC (fun N st=>∃k,k+N=t.ps.length/\st.s 0=.ptr 1024 0/\st.s 7=.p (.sl 11 (pts t.ps))/\st.s 8=.p (I t.ps.length)/\st.s 9=.p (I k)/\st.s 3=.ptr 3 0/\st.b 3=some (.box 63 [.p (I t.e),.p (I t.n),.p (I t.s),.p (I t.x),.p (I t.r),.p (I t.b),.p (SB t.m),.p (.sl 11 (pts t.ps))])/\st.b 1024=some (sbox (wW s (t.ps.take k)))/\st.b 1025=some (.row 3 1 (zis (wW s (t.ps.take k)).ss))) t.ps.length ⟨0,by simp[wW,sbox]⟩ fun K N st hL ⟨k,hk,g0,g7,g8,g9,g3,b3,b0,b1⟩=>?_
 have hlen:=runP_take s t.ps k
 by_cases hlt:k<t.ps.length
 ·have hw:=wrapX k _ hlt (by omega)
  have he:=pts_get hlt
  have hs:=runP_snoc s hlt
  have hpc:=hc t.ps[k] (List.getElem_mem hlt)
  generalize wW s (t.ps.take k)=q at hs hlen b0 b1
  unfold sbox at b0
  unfold okC at hpc
  by_cases k1:t.ps[k].k=1
  ·have c:=put_con q.ns t.ps[k].z (by omega)
   unfold Zn.c at c
   have hs':yK q t.ps[k]={ q with ns:=putZ q.ns t.ps[k].z }:=by unfold yK;rw[if_pos k1]
   generalize putZ q.ns t.ps[k].z=n1 at c hs'
   repeat' first|((first|refine O _ ?_|refine O _ _ ?_|(clear O;refine O _ ?_));clear O)|(refine zJ fun K O=>?_)|((first|refine zH ?_|refine zN rfl (by kernel_rfl) ?_|refine zM ?_|refine zK (by kernel_rfl) ?_);simp only[vS,vR,strip])|((first|refine wIs fun K O=>?_|refine wOs fun K O=>?_|refine wQs fun K O=>?_|refine zW ?_|refine zX ?_|refine zY ?_|refine zL ?_);simp[g0,g7,g8,g9,g3,b3,b0,b1,hlt,hw,he,k1])|(refine wIn ?_;refine And.intro (by kernel_rfl) ?_;try simp only[zZ])|refine zR ?_|refine zT ?_|((first|refine zI ?_|refine zO ?_|refine zP ?_);try simp)|((first|refine zS ?_|refine wOn ?_|refine wQn ?_);try simp only[zZ])|refine zU.p c rfl ?_|refine zU.l c rfl ?_|refine zQ.pure c rfl ?_|refine zQ.lent c rfl ?_|refine zU.o c ?_|refine zV.p c rfl ?_|refine zV.l c rfl ?_|refine zV.o c ?_
   refine hL _ (N-1) (by omega) ⟨k+1,by omega,?_⟩
   simp[g0,g7,g8,g9,g3,b3,b0,b1,hw,hs,hs',sbox]
  by_cases k2:t.ps[k].k=2
  ·have c:=gone_con q.ns t.ps[k].z.p (by omega)
   have hs':yK q t.ps[k]={ q with ns:=gone q.ns t.ps[k].z.p }:=by unfold yK;rw[if_neg k1,if_pos k2]
   generalize gone q.ns t.ps[k].z.p=n1 at c hs'
   repeat' first|((first|refine O _ ?_|refine O _ _ ?_|(clear O;refine O _ ?_));clear O)|(refine zJ fun K O=>?_)|((first|refine zH ?_|refine zN rfl (by kernel_rfl) ?_|refine zM ?_|refine zK (by kernel_rfl) ?_);simp only[vS,vR,strip])|((first|refine wIs fun K O=>?_|refine wOs fun K O=>?_|refine wQs fun K O=>?_|refine zW ?_|refine zX ?_|refine zY ?_|refine zL ?_);simp[g0,g7,g8,g9,g3,b3,b0,b1,hlt,hw,he,k1,k2])|(refine wIn ?_;refine And.intro (by kernel_rfl) ?_;try simp only[zZ])|refine zR ?_|refine zT ?_|((first|refine zI ?_|refine zO ?_|refine zP ?_);try simp)|((first|refine zS ?_|refine wOn ?_|refine wQn ?_);try simp only[zZ])|refine zU.p c rfl ?_|refine zU.l c rfl ?_|refine zQ.pure c rfl ?_|refine zQ.lent c rfl ?_|refine zU.o c ?_|refine zV.p c rfl ?_|refine zV.l c rfl ?_|refine zV.o c ?_
   refine hL _ (N-1) (by omega) ⟨k+1,by omega,?_⟩
   simp[g0,g7,g8,g9,g3,b3,b0,b1,hw,hs,hs',sbox]
  by_cases k3:t.ps[k].k=3
  ·have c:=open_con (zns q.ns) (mbs q.c.ms) q.ss q.nx q.c.ep q.c.n q.c.kind q.ae q.an t.ps[k].s (by omega)
   have hs':yK q t.ps[k]={ q with ss:=opnL q.ss t.ps[k].s,nx:=opnN q.nx t.ps[k].s }:=by unfold yK;rw[if_neg k1,if_neg k2,if_pos k3]
   generalize opnL q.ss t.ps[k].s=n1 at c hs'
   generalize opnN q.nx t.ps[k].s=n2 at c hs'
   repeat' first|(refine vY [1024,1025] c (by decide) (by decide) (by simp[yI,inN,pos,yX,zD,b0,b1]) (by simp[yS,xA,zD,inN,pos,yZ,yN]) ⟨[],by simp,by simp,?_⟩;simp[lv,ouN,kpI,kpR,pos,ren,zD,yX,yN,yZ,g0,g7,g8,g3,b3,g9])|((first|refine O _ ?_|refine O _ _ ?_|(clear O;refine O _ ?_));clear O)|(refine zJ fun K O=>?_)|((first|refine zH ?_|refine zN rfl (by kernel_rfl) ?_|refine zM ?_|refine zK (by kernel_rfl) ?_);simp only[vS,vR,strip])|((first|refine wIs fun K O=>?_|refine wOs fun K O=>?_|refine wQs fun K O=>?_|refine zW ?_|refine zX ?_|refine zY ?_|refine zL ?_);simp[g0,g7,g8,g9,g3,b3,b0,b1,hlt,hw,he,k1,k2,k3,lv,ouN,kpI,kpR,pos,ren,zD,yX,yN,yZ])|(refine wIn ?_;refine And.intro (by kernel_rfl) ?_;try simp only[zZ])|refine zR ?_|refine zT ?_|((first|refine zI ?_|refine zO ?_|refine zP ?_);try simp)|((first|refine zS ?_|refine wOn ?_|refine wQn ?_);try simp only[zZ])
   refine hL _ (N-1) (by omega) ⟨k+1,by omega,?_⟩
   simp[g0,g7,g8,g9,g3,b3,b0,b1,hw,hs,hs',sbox,lv,ouN,kpI,kpR,pos,ren,zD]
  by_cases k4:t.ps[k].k=4
  ·have c:=without_con q.ss t.ps[k].s (by omega)
   have hs':yK q t.ps[k]={ q with ss:=but q.ss t.ps[k].s }:=by unfold yK;rw[if_neg k1,if_neg k2,if_neg k3,if_pos k4]
   generalize but q.ss t.ps[k].s=n1 at c hs'
   repeat' first|(refine CallR_row 1025 c (by simp[b1]) (by simp) (by simp[yS,xA,zD,inN,pos,yZ,yN]) ?_;simp[g0,g7,g8,g3,b3,g9,b0,b1])|((first|refine O _ ?_|refine O _ _ ?_|(clear O;refine O _ ?_));clear O)|(refine zJ fun K O=>?_)|((first|refine zH ?_|refine zN rfl (by kernel_rfl) ?_|refine zM ?_|refine zK (by kernel_rfl) ?_);simp only[vS,vR,strip])|((first|refine wIs fun K O=>?_|refine wOs fun K O=>?_|refine wQs fun K O=>?_|refine zW ?_|refine zX ?_|refine zY ?_|refine zL ?_);simp[g0,g7,g8,g9,g3,b3,b0,b1,hlt,hw,he,k1,k2,k3,k4])|(refine wIn ?_;refine And.intro (by kernel_rfl) ?_;try simp only[zZ])|refine zR ?_|refine zT ?_|((first|refine zI ?_|refine zO ?_|refine zP ?_);try simp)|((first|refine zS ?_|refine wOn ?_|refine wQn ?_);try simp only[zZ])
   refine hL _ (N-1) (by omega) ⟨k+1,by omega,?_⟩
   simp[g0,g7,g8,g9,g3,b3,b0,b1,hw,hs,hs',sbox]
  by_cases k5:t.ps[k].k=5
  ·have c:=ownConfig_con t.ps[k].c.ep t.ps[k].c.n t.ps[k].c.kind (mbs t.ps[k].c.ms) (by rw[vW];exact hpc)
   have hs':yK q t.ps[k]={ q with c:=t.ps[k].c }:=by unfold yK;rw[if_neg k1,if_neg k2,if_neg k3,if_neg k4,if_pos k5]
   repeat' first|((first|refine O _ ?_|refine O _ _ ?_|(clear O;refine O _ ?_));clear O)|(refine zJ fun K O=>?_)|((first|refine zH ?_|refine zN rfl (by kernel_rfl) ?_|refine zM ?_|refine zK (by kernel_rfl) ?_);simp only[vS,vR,strip])|((first|refine wIs fun K O=>?_|refine wOs fun K O=>?_|refine wQs fun K O=>?_|refine zW ?_|refine zX ?_|refine zY ?_|refine zL ?_);simp[g0,g7,g8,g9,g3,b3,b0,b1,hlt,hw,he,k1,k2,k3,k4,k5])|(refine wIn ?_;refine And.intro (by kernel_rfl) ?_;try simp only[zZ])|refine zR ?_|refine zT ?_|((first|refine zI ?_|refine zO ?_|refine zP ?_);try simp)|((first|refine zS ?_|refine wOn ?_|refine wQn ?_);try simp only[zZ])|refine zU.p c rfl ?_|refine zU.l c rfl ?_|refine zQ.pure c rfl ?_|refine zQ.lent c rfl ?_|refine zU.o c ?_|refine zV.p c rfl ?_|refine zV.l c rfl ?_|refine zV.o c ?_
   refine hL _ (N-1) (by omega) ⟨k+1,by omega,?_⟩
   simp[g0,g7,g8,g9,g3,b3,b0,b1,hw,hs,hs',sbox]
  ·have hs':yK q t.ps[k]=q:=by unfold yK;rw[if_neg k1,if_neg k2,if_neg k3,if_neg k4,if_neg k5]
   repeat' first|((first|refine O _ ?_|refine O _ _ ?_|(clear O;refine O _ ?_));clear O)|(refine zJ fun K O=>?_)|((first|refine zH ?_|refine zN rfl (by kernel_rfl) ?_|refine zM ?_|refine zK (by kernel_rfl) ?_);simp only[vS,vR,strip])|((first|refine wIs fun K O=>?_|refine wOs fun K O=>?_|refine wQs fun K O=>?_|refine zW ?_|refine zX ?_|refine zY ?_|refine zL ?_);simp[g0,g7,g8,g9,g3,b3,b0,b1,hlt,hw,he,k1,k2,k3,k4,k5])|(refine wIn ?_;refine And.intro (by kernel_rfl) ?_;try simp only[zZ])|refine zR ?_|refine zT ?_|((first|refine zI ?_|refine zO ?_|refine zP ?_);try simp)|((first|refine zS ?_|refine wOn ?_|refine wQn ?_);try simp only[zZ])
   refine hL _ (N-1) (by omega) ⟨k+1,by omega,?_⟩
   simp[g0,g7,g8,g9,g3,b3,b0,b1,hw,hs,hs',sbox]
 ·rw[List.take_of_length_le (by omega)] at b0 b1
  unfold sbox doS lateS at hr
  unfold sbox doS lateS at hn
  generalize wW s t.ps=q at hr hn b0 b1
  unfold sbox at b0
  have c:=last_con [⟨q.ae,q.an⟩,⟨t.e,t.n⟩]
  simp only[zxs,vS,vR] at c
  generalize lastZ [⟨q.ae,q.an⟩,⟨t.e,t.n⟩]=z at c hr hn
  repeat' first|((first|refine O _ ?_|refine O _ _ ?_|(clear O;refine O _ ?_));clear O)|(refine zJ fun K O=>?_)|((first|refine zH ?_|refine zN rfl (by kernel_rfl) ?_|refine zM ?_|refine zK (by kernel_rfl) ?_);simp only[vS,vR,strip])|((first|refine wIs fun K O=>?_|refine wOs fun K O=>?_|refine wQs fun K O=>?_|refine zW ?_|refine zX ?_|refine zY ?_|refine zL ?_);simp[g0,g7,g8,g9,g3,b3,b0,b1,hlt])|(refine wIn ?_;refine And.intro (by kernel_rfl) ?_;try simp only[zZ])|refine zR ?_|refine zT ?_|((first|refine zI ?_|refine zO ?_|refine zP ?_);try simp)|((first|refine zS ?_|refine wOn ?_|refine wQn ?_);try simp only[zZ])|refine zU.p c rfl ?_|refine zU.l c rfl ?_|refine zQ.pure c rfl ?_|refine zQ.lent c rfl ?_|refine zU.o c ?_|refine zV.p c rfl ?_|refine zV.l c rfl ?_|refine zV.o c ?_
  all_goals first|apply hr|apply hn
  all_goals refine⟨[],by simp,by simp,?_⟩
  all_goals simp[Tryz.f89,wD,wI,yX,gaN,b0,b1]
end Go.Proofs.YtpihbhacmokekaaGreatDoor
