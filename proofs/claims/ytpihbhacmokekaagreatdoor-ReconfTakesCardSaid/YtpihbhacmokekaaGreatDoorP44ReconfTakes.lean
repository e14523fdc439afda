/- Texts that the proof needs: RKO. -/
import Derived.Test.YtpihbhacmokekaaGreatDoorP41ReconfTakes
import Derived.Test.YtpihbhacmokekaaGreatDoorP21ReconfTakes
import Derived.Test.YtpihbhacmokekaaGreatDoorP43ReconfTakes
namespace Go.Proofs.YtpihbhacmokekaaGreatDoor
set_option linter.unusedVariables false
open Go Go.Av Go.ChangeShapes Go.WideShapes Go.ChangeAt Go.RowKit
def KB (c:Nat):Nat:=1
theorem hpos:PosK Tryz.T KB:=by
 intro t yt e y h hk hy hs
 unfold Tryz.T at h
 split at h
 all_goals first|(cases h;done)|(cases h;cases hk;done)|(cases h;cases hk;cases hy;done)|(cases h;cases hk;cases hy;first|exact of_decide_eq_true (by kernel_rfl)|(simp at hs;done))
theorem Mb.ofL {ps:List PV}(h:ShL [.int .i64,.int .i64,.int .i64,.int .i64] ps):∃a:Mb,ps=a.cells:=by
 obtain⟨_,_,rfl,h0,h⟩:=h.cons
 obtain⟨_,_,rfl,h1,h⟩:=h.cons
 obtain⟨_,_,rfl,h2,h⟩:=h.cons
 obtain⟨_,_,rfl,h3,h⟩:=h.cons
 obtain rfl:=h.nil
 obtain⟨_,rfl,-⟩:=h0.intI
 obtain⟨_,rfl,-⟩:=h1.intI
 obtain⟨_,rfl,-⟩:=h2.intI
 obtain⟨_,rfl,-⟩:=h3.intI
 exact⟨⟨_,_,_,_⟩,rfl⟩
abbrev LMb:Lf := .sl [.int .i64,.int .i64,.int .i64,.int .i64]
abbrev LZn:List Lf:=[.str,.str,.int .i64,.int .i64,.int .i64]
abbrev LPt:List Lf:=[.int .i64,.str,.str,.int .i64,.int .i64,.int .i64,.int .i64,.int .i64,.int .i64,.int .i64,LMb]
abbrev LTx:List Lf:=[.int .i64,.int .i64,.int .i64,.int .i64,.int .i64,.int .i64,.str,.sl LPt]
theorem Pt.ofL {ps:List PV}(h:ShL LPt ps):∃a:Pt,ps=a.cells:=by
 obtain⟨_,_,rfl,h0,h⟩:=h.cons
 obtain⟨_,_,rfl,h1,h⟩:=h.cons
 obtain⟨_,_,rfl,h2,h⟩:=h.cons
 obtain⟨_,_,rfl,h3,h⟩:=h.cons
 obtain⟨_,_,rfl,h4,h⟩:=h.cons
 obtain⟨_,_,rfl,h5,h⟩:=h.cons
 obtain⟨_,_,rfl,h6,h⟩:=h.cons
 obtain⟨_,_,rfl,h7,h⟩:=h.cons
 obtain⟨_,_,rfl,h8,h⟩:=h.cons
 obtain⟨_,_,rfl,h9,h⟩:=h.cons
 obtain⟨_,_,rfl,h10,h⟩:=h.cons
 obtain rfl:=h.nil
 obtain⟨_,rfl,-⟩:=h0.intI
 obtain⟨s1,rfl,-⟩:=h1.strI
 obtain⟨s2,rfl,-⟩:=h2.strI
 obtain⟨_,rfl,-⟩:=h3.intI
 obtain⟨_,rfl,-⟩:=h4.intI
 obtain⟨_,rfl,-⟩:=h5.intI
 obtain⟨_,rfl,-⟩:=h6.intI
 obtain⟨_,rfl,-⟩:=h7.intI
 obtain⟨_,rfl,-⟩:=h8.intI
 obtain⟨_,rfl,-⟩:=h9.intI
 obtain⟨l,rfl⟩:=h10.slI (f:=Mb.cells) fun ps h=>Mb.ofL h
 exact⟨⟨_,⟨s1.data.toList,s2.data.toList,_,_,_⟩,_,⟨_,_,_,l⟩⟩,rfl⟩
theorem Tx.ofL {ps:List PV}(h:ShL LTx ps):∃a:Tx,ps=a.cells:=by
 obtain⟨_,_,rfl,h0,h⟩:=h.cons
 obtain⟨_,_,rfl,h1,h⟩:=h.cons
 obtain⟨_,_,rfl,h2,h⟩:=h.cons
 obtain⟨_,_,rfl,h3,h⟩:=h.cons
 obtain⟨_,_,rfl,h4,h⟩:=h.cons
 obtain⟨_,_,rfl,h5,h⟩:=h.cons
 obtain⟨_,_,rfl,h6,h⟩:=h.cons
 obtain⟨_,_,rfl,h7,h⟩:=h.cons
 obtain rfl:=h.nil
 obtain⟨_,rfl,-⟩:=h0.intI
 obtain⟨_,rfl,-⟩:=h1.intI
 obtain⟨_,rfl,-⟩:=h2.intI
 obtain⟨_,rfl,-⟩:=h3.intI
 obtain⟨_,rfl,-⟩:=h4.intI
 obtain⟨_,rfl,-⟩:=h5.intI
 obtain⟨s,rfl,-⟩:=h6.strI
 obtain⟨l,rfl⟩:=h7.slI (f:=Pt.cells) fun ps h=>Pt.ofL h
 exact⟨⟨_,_,_,_,_,_,s.data.toList,l⟩,rfl⟩
theorem Zn.ofL' {ps:List PV}(h:ShL LZn ps):∃a:Zn,ps=a.c:=by
 obtain⟨a,h⟩:=Zn.ofL h
 exact⟨a.1,h⟩
theorem szLe {N c:Nat}{l:List (List PV)}(h:SzI KB N (.sl c l)):l.length<=N:=by
 have:=h.len
 have h1:1<=KB c:=Nat.le_refl 1
 have:=Nat.le_mul_of_pos_right l.length (show 0<KB c by omega)
 omega
abbrev LZx:List Lf:=[.int .i64,.int .i64]
theorem Zx.ofL {ps:List PV}(h:ShL LZx ps):∃a:Zx,ps=[I a.e,I a.n]:=by
 obtain⟨_,_,rfl,h0,h⟩:=h.cons
 obtain⟨_,_,rfl,h1,h⟩:=h.cons
 obtain rfl:=h.nil
 obtain⟨_,rfl,-⟩:=h0.intI
 obtain⟨_,rfl,-⟩:=h1.intI
 exact⟨⟨_,_⟩,rfl⟩
abbrev LLr:List Lf:=[.int .i64,.int .i64,.int .i64,.int .i64,.sl LZx,.int .i64,.int .i64,.int .i64]
theorem Lr.ofL {ps:List PV}(h:ShL LLr ps):∃a:Lr,ps=a.cells:=by
 obtain⟨_,_,rfl,h0,h⟩:=h.cons
 obtain⟨_,_,rfl,h1,h⟩:=h.cons
 obtain⟨_,_,rfl,h2,h⟩:=h.cons
 obtain⟨_,_,rfl,h3,h⟩:=h.cons
 obtain⟨_,_,rfl,h4,h⟩:=h.cons
 obtain⟨_,_,rfl,h5,h⟩:=h.cons
 obtain⟨_,_,rfl,h6,h⟩:=h.cons
 obtain⟨_,_,rfl,h7,h⟩:=h.cons
 obtain rfl:=h.nil
 obtain⟨_,rfl,-⟩:=h0.intI
 obtain⟨_,rfl,-⟩:=h1.intI
 obtain⟨_,rfl,-⟩:=h2.intI
 obtain⟨_,rfl,-⟩:=h3.intI
 obtain⟨ms,rfl⟩:=h4.slI (f:=fun z:Zx=>[I z.e,I z.n]) fun ps h=>Zx.ofL h
 obtain⟨_,rfl,-⟩:=h5.intI
 obtain⟨_,rfl,-⟩:=h6.intI
 obtain⟨_,rfl,-⟩:=h7.intI
 exact⟨⟨_,_,_,_,ms,_,_,_⟩,rfl⟩
theorem Oq.ofL {ps:List PV}(h:ShL [.int .i64,.str,.str,.int .i64,.bool,.bool] ps):∃o:Oq,ps=o.cells:=by
 obtain⟨_,_,rfl,h0,h⟩:=h.cons
 obtain⟨_,_,rfl,h1,h⟩:=h.cons
 obtain⟨_,_,rfl,h2,h⟩:=h.cons
 obtain⟨_,_,rfl,h3,h⟩:=h.cons
 obtain⟨_,_,rfl,h4,h⟩:=h.cons
 obtain⟨_,_,rfl,h5,h⟩:=h.cons
 obtain rfl:=h.nil
 obtain⟨_,rfl,-⟩:=h0.intI
 obtain⟨s1,rfl,-⟩:=h1.strI
 obtain⟨s2,rfl,-⟩:=h2.strI
 obtain⟨_,rfl,-⟩:=h3.intI
 obtain⟨_,rfl⟩:=h4.boolI
 obtain⟨_,rfl⟩:=h5.boolI
 exact⟨⟨_,s1.data.toList,s2.data.toList,_,_,_⟩,rfl⟩
abbrev LRp:List Lf:=[.int .i64,.int .i64,.int .i64,.sl [.int .i64,.str,.str,.int .i64,.bool,.bool],.int .i64,LMb,.sl [.int .i64],.int .i64,.int .i64]
theorem Rp.ofL {ps:List PV}(h:ShL LRp ps):∃r:Rp,ps=r.cells:=by
 obtain⟨_,_,rfl,h0,h⟩:=h.cons
 obtain⟨_,_,rfl,h1,h⟩:=h.cons
 obtain⟨_,_,rfl,h2,h⟩:=h.cons
 obtain⟨_,_,rfl,h3,h⟩:=h.cons
 obtain⟨_,_,rfl,h4,h⟩:=h.cons
 obtain⟨_,_,rfl,h5,h⟩:=h.cons
 obtain⟨_,_,rfl,h6,h⟩:=h.cons
 obtain⟨_,_,rfl,h7,h⟩:=h.cons
 obtain⟨_,_,rfl,h8,h⟩:=h.cons
 obtain rfl:=h.nil
 obtain⟨_,rfl,-⟩:=h0.intI
 obtain⟨_,rfl,-⟩:=h1.intI
 obtain⟨_,rfl,-⟩:=h2.intI
 obtain⟨os,rfl⟩:=h3.slI (f:=Oq.cells) fun ps h=>Oq.ofL h
 obtain⟨_,rfl,-⟩:=h4.intI
 obtain⟨put,rfl⟩:=h5.slI (f:=Mb.cells) fun ps h=>Mb.ofL h
 obtain⟨dr,rfl⟩:=h6.slI (f:=fun n:Int=>[I n]) fun ps h=>by
  obtain⟨_,_,rfl,h0,h⟩:=h.cons
  obtain rfl:=h.nil
  obtain⟨n,rfl,-⟩:=h0.intI
  exact⟨n,rfl⟩
 obtain⟨_,rfl,-⟩:=h7.intI
 obtain⟨_,rfl,-⟩:=h8.intI
 exact⟨⟨_,_,_,os,⟨_,put,dr⟩,_,_⟩,rfl⟩
theorem rp_open {p:PV}(hp:ShT Tryz.T 41 p):∃r:Rp,p=.agg r.cells:=by
 obtain⟨ps,rfl,h⟩:=hp.agg (E:=LRp) rfl rfl rfl
 obtain⟨s,rfl⟩:=Rp.ofL h
 exact⟨s,rfl⟩
theorem szS {l:List UInt8}(h:SzI KB reachBytes (SB l)):l.length<=140737488355328:=by
 have h1:=h.str
 have hr:reachBytes<=140737488355328:=by decide
 simp at h1;omega
theorem szL {c:Nat}{l:List (List PV)}(h:SzI KB reachBytes (.sl c l)):l.length<=140737488355328:=by
 have h1:=szLe h
 have hr:reachBytes<=140737488355328:=by decide
 omega
theorem SmallL.of {l:List Lr}(h:SzI KB reachBytes (.sl 8 (lrs l))):SmallL l:=fun x hx=>by
 have h1:=szLe (h.at (e:=x.cells) (List.mem_map.2 ⟨x,hx,rfl⟩) (p:=.sl 2 (zxs x.ms)) (by simp[Lr.cells]))
 rw[wS] at h1
 have hr:reachBytes=140737488351232:=rfl
 omega
theorem SmallH.of {h:Hy}(hz:SzI KB reachBytes (.agg h.cells)):SmallH h:=by
 have hr:reachBytes=140737488351232:=rfl
 have h1:=szLe (hz.part (p:=.sl 5 (zns h.im.ns)) (by simp[Hy.cells]))
 have h2:=szLe (hz.part (p:=.sl 1 (ints h.im.ss)) (by simp[Hy.cells]))
 have h3:=szLe (hz.part (p:=.sl 4 (mbs h.im.c.ms)) (by simp[Hy.cells]))
 rw[zns_len] at h1
 rw[ints_len] at h2
 rw[vW] at h3
 refine⟨by omega,by omega,by omega,fun t ht=>?_⟩
 have h4:=(hz.part (p:=.sl 8 (xH h.lg)) (by simp[Hy.cells])).at (e:=t.cells) (List.mem_map.2 ⟨t,ht,rfl⟩) (p:=.sl 11 (pts t.ps)) (by simp[Tx.cells])
 have h5:=szLe h4
 rw[pts_len] at h5
 refine⟨by omega,fun p hp=>?_⟩
 have h6:=szLe (h4.at (e:=p.cells) (List.mem_map.2 ⟨p,hp,rfl⟩) (p:=.sl 4 (mbs p.c.ms)) (by simp[Pt.cells]))
 rw[vW] at h6
 omega
abbrev LCa:List Lf:=[.sl LZn,.sl [.int .i64],.int .i64,.int .i64,.int .i64,.int .i64,LMb,.int .i64,.int .i64,.sl LTx,.int .i64,.int .i64,.int .i64,.sl LLr]
theorem Ca.ofL {ps:List PV}(h:ShL LCa ps):∃x:Ca,ps=x.cells:=by
 obtain⟨_,_,rfl,h0,h⟩:=h.cons
 obtain⟨_,_,rfl,h1,h⟩:=h.cons
 obtain⟨_,_,rfl,h2,h⟩:=h.cons
 obtain⟨_,_,rfl,h3,h⟩:=h.cons
 obtain⟨_,_,rfl,h4,h⟩:=h.cons
 obtain⟨_,_,rfl,h5,h⟩:=h.cons
 obtain⟨_,_,rfl,h6,h⟩:=h.cons
 obtain⟨_,_,rfl,h7,h⟩:=h.cons
 obtain⟨_,_,rfl,h8,h⟩:=h.cons
 obtain⟨_,_,rfl,h9,h⟩:=h.cons
 obtain⟨_,_,rfl,h10,h⟩:=h.cons
 obtain⟨_,_,rfl,h11,h⟩:=h.cons
 obtain⟨_,_,rfl,h12,h⟩:=h.cons
 obtain⟨_,_,rfl,h13,h⟩:=h.cons
 obtain rfl:=h.nil
 obtain⟨ns,rfl⟩:=h0.slI (f:=Zn.c) fun ps h=>Zn.ofL' h
 obtain⟨ss,rfl⟩:=h1.slI (f:=fun n:Int=>[I n]) fun ps h=>by
  obtain⟨_,_,rfl,h0,h⟩:=h.cons
  obtain rfl:=h.nil
  obtain⟨n,rfl,-⟩:=h0.intI
  exact⟨n,rfl⟩
 obtain⟨_,rfl,-⟩:=h2.intI
 obtain⟨_,rfl,-⟩:=h3.intI
 obtain⟨_,rfl,-⟩:=h4.intI
 obtain⟨_,rfl,-⟩:=h5.intI
 obtain⟨ms,rfl⟩:=h6.slI (f:=Mb.cells) fun ps h=>Mb.ofL h
 obtain⟨_,rfl,-⟩:=h7.intI
 obtain⟨_,rfl,-⟩:=h8.intI
 obtain⟨lg,rfl⟩:=h9.slI (f:=Tx.cells) fun ps h=>Tx.ofL h
 obtain⟨_,rfl,-⟩:=h10.intI
 obtain⟨_,rfl,-⟩:=h11.intI
 obtain⟨_,rfl,-⟩:=h12.intI
 obtain⟨l,rfl⟩:=h13.slI (f:=Lr.cells) fun ps h=>Lr.ofL h
 exact⟨⟨⟨⟨ns,ss,_,⟨_,_,_,ms⟩,_,_⟩,lg⟩,_,_,_,l⟩,rfl⟩
theorem ca_open {p:PV}(hp:ShT Tryz.T 36 p):∃x:Ca,p=.agg x.cells:=by
 obtain⟨ps,rfl,h⟩:=hp.agg (E:=LCa) rfl rfl rfl
 obtain⟨s,rfl⟩:=Ca.ofL h
 exact⟨s,rfl⟩
theorem Ca.hyz {x:Ca}(hz:SzI KB reachBytes (.agg x.cells)):SzI KB reachBytes (.agg x.h.cells):=by
 have hs:∀p∈x.h.cells,p∈x.cells:=fun p hp=>List.mem_append.2 (.inl hp)
 exact .agg _ fun j p hj=>hz.part (hs p (List.mem_of_getElem? hj))
theorem SmallR.of {r:Rp}(hr:SzI KB reachBytes (.agg r.cells)):SmallR r:=by
 have h4:=szL (hr.part (p:=.sl 6 (oqs r.ops)) (by simp[Rp.cells]))
 have h5:=szL (hr.part (p:=.sl 4 (mbs r.d.put)) (by simp[Rp.cells]))
 have h6:=szL (hr.part (p:=.sl 1 (ints r.d.drop)) (by simp[Rp.cells]))
 rw[ints_len] at h6
 rw[vW] at h5
 rw[oqs_len] at h4
 exact⟨h4,h5,h6⟩
theorem LongH.of {h:Hy}(hz:SzI KB reachBytes (.agg h.cells)):LongH h:=by
 refine⟨fun z hz'=>?_,fun t ht p hp=>?_⟩
 ·have h1:=hz.part (p := .sl 5 (zns h.im.ns)) (by simp[Hy.cells])
  have hin:z.c∈zns h.im.ns:=List.mem_map.2 ⟨z,hz',rfl⟩
  have a:=szS (h1.at hin (p:=SB z.p) (by simp[Zn.c]))
  have b:=szS (h1.at hin (p:=SB z.d) (by simp[Zn.c]))
  exact⟨by omega,by omega⟩
 ·have h4:=(hz.part (p := .sl 8 (xH h.lg)) (by simp[Hy.cells])).at (e:=t.cells) (List.mem_map.2 ⟨t,ht,rfl⟩) (p := .sl 11 (pts t.ps)) (by simp[Tx.cells])
  have a:=szS (h4.at (e:=p.cells) (List.mem_map.2 ⟨p,hp,rfl⟩) (p:=SB p.z.p) (by simp[Pt.cells]))
  have b:=szS (h4.at (e:=p.cells) (List.mem_map.2 ⟨p,hp,rfl⟩) (p:=SB p.z.d) (by simp[Pt.cells]))
  exact⟨by omega,by omega⟩
end Go.Proofs.YtpihbhacmokekaaGreatDoor
