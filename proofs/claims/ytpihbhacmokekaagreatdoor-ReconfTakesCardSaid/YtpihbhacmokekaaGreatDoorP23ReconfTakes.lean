/- Texts that the proof needs: NB. -/
import Derived.Test.YtpihbhacmokekaaGreatDoorP22ReconfTakes
import Derived.Test.YtpihbhacmokekaaGreatDoorP14ReconfTakes
namespace Go.Proofs.YtpihbhacmokekaaGreatDoor
set_option linter.unusedSimpArgs false
set_option linter.unusedVariables false
open Go Go.Av
attribute [local irreducible] Go.Av.yJ Go.Av.zU Go.Av.yC Go.Av.zQ Go.Av.yG Go.Av.zV Go.Av.Con
def par (l:List UInt8):List UInt8 × Bool:=if chd l=true then (l.take (max (lx l l.length) 1),true) else ([],false)
theorem parV_par (l:List UInt8):parV l=.tup [.p (SB (par l).1),.p (B (par l).2)]:=by
 unfold parV par;split <;> rfl
def long (z:Zn):Prop:=z.p.length<=9223372036854775807/\z.d.length<=9223372036854775807
def lss (a b:List UInt8):Bool:=Op.bytesLess a b
def att:List Zn->List UInt8->Nat
 |[],_=>0
 |x::r,q=>if lss x.p q=true then att r q+1 else 0
theorem att_le:∀ (l:List Zn)(q:List UInt8),att l q<=l.length
 |[],_=>Nat.le_refl 0
 |x::r,q=>by
  rw[att];split
  ·have:=att_le r q;simp;omega
  ·simp
theorem att_step {l:List Zn}{k:Nat}(h:k<l.length)(q:List UInt8):att (l.drop k) q=if lss l[k].p q=true then att (l.drop (k+1)) q+1 else 0:=by
 rw[List.drop_eq_getElem_cons h];rfl
def rst:List Zn->List UInt8->List Zn
 |[],_=>[]
 |x::r,q=>if x.p=q then r else x::r
def putZ (l:List Zn)(z:Zn):List Zn:=l.take (att l z.p)++z::rst (l.drop (att l z.p)) z.p
theorem put_con (l:List Zn)(z:Zn)(hl:l.length<=1000000):zE Tryz.prog 108 [.p (.sl 5 (zns l)),.p (.agg z.c)] (.p (.sl 5 (zns (putZ l z)))):=by
 refine zG Tryz.tab Tryz.mixed Tryz.func108 rfl rfl Tryz.ntmps108 (by simp) (by simp) fun Q hr hn=>?_
 repeat' first|((first|refine O _ ?_|refine O _ _ ?_|(clear O;refine O _ ?_));clear O)|(refine zJ fun K O=>?_)|((first|refine zH ?_|refine zN rfl (by kernel_rfl) ?_|refine zM ?_|refine zK (by kernel_rfl) ?_);simp only[vS,vR,strip])|((first|refine wIs fun K O=>?_|refine wOs fun K O=>?_|refine wQs fun K O=>?_|refine zW ?_|refine zX ?_|refine zY ?_|refine zL ?_);simp[Zn.c])|(refine wIn ?_;refine And.intro (by kernel_rfl) ?_;try simp only[zZ])|refine zR ?_|refine zT ?_|((first|refine zI ?_|refine zO ?_|refine zP ?_);try simp)|((first|refine zS ?_|refine wOn ?_|refine wQn ?_);try simp only[zZ])
 refine zC (fun N st=>∃k,k+N=l.length/\att l z.p=k+att (l.drop k) z.p/\st.s 0=.p (.sl 5 (zns l))/\st.s 5=.p (I k)/\st.s 3=.ptr 3 0/\st.b 3=some (.box 65 [.p (SB z.p),.p (SB z.d),.p (I z.v),.p (I z.k),.p (I z.o)])) l.length ⟨0,by simp⟩ fun K N st hL ⟨k,hk,hi,g0,g5,g3,b3⟩=>?_
 have hend:att (l.drop k) z.p=0->putZ l z=l.take k++z::rst (l.drop k) z.p:=fun h=>by
  unfold putZ;rw[hi,h,Nat.add_zero]
 by_cases hlt:k<l.length
 ·have hw:=yU k _ hlt (by omega)
  have he:=zns_get hlt
  have hs:=att_step hlt z.p
  cases o:lss l[k].p z.p
  ·rw[o,if_neg (by simp)] at hs
   rw[hend hs] at hr
   have o':Op.bytesLess l[k].p z.p=false:=o
   have hd:=List.drop_eq_getElem_cons hlt
   have hle:k<=l.length:=by omega
   have hdn:(l.drop (k+1)).length<=1000000:=by simp;omega
   rw[hd,rst] at hr
   have ht:=zns_take l k
   have hdr:=zns_drop l k
   have hdr2:=zns_drop l (k+1)
   have hn0:0<l.length-k:=by omega
   have hn1:¬ l.length-k=0:=by omega
   have hn2:1<=l.length-k:=by omega
   have htb:(zns (l.drop k)).take (l.length-k)=zns (l.drop k):=List.take_of_length_le (by simp)
   have hdr3:(zns (l.drop k)).drop 1=zns (l.drop (k+1)):=by rw[zns_drop,List.drop_drop]
   have hta:(zns l).take l.length=zns l:=List.take_of_length_le (by simp)
   by_cases o2:l[k].p=z.p
   ·rw[if_pos o2] at hr
    rw[o2] at o'
    repeat' first|(refine And.intro (by (try simp);omega) ?_)|(refine Or.inl ?_)|((first|refine O _ ?_|refine O _ _ ?_|(clear O;refine O _ ?_));clear O)|(refine zJ fun K O=>?_)|((first|refine zH ?_|refine zN rfl (by kernel_rfl) ?_|refine zM ?_|refine zK (by kernel_rfl) ?_);simp only[vS,vR,strip])|((first|refine wIs fun K O=>?_|refine wOs fun K O=>?_|refine wQs fun K O=>?_|refine zW ?_|refine zX ?_|refine zY ?_|refine zL ?_);simp[g0,g5,g3,b3,hlt,hw,he,o',o2,ht,hdr,hdr2,hle,hn0,hn1,hn2,hta,htb,hdr3])|(refine wIn ?_;refine And.intro (by kernel_rfl) ?_;try simp only[zZ])|refine zR ?_|refine zT ?_|((first|refine zI ?_|refine zO ?_|refine zP ?_);try simp)|((first|refine zS ?_|refine wOn ?_|refine wQn ?_);try simp only[zZ])
    all_goals apply hr
    all_goals simp[Tryz.f108,zns,Zn.c]
   ·rw[if_neg o2] at hr
    repeat' first|(refine And.intro (by (try simp);omega) ?_)|(refine Or.inl ?_)|((first|refine O _ ?_|refine O _ _ ?_|(clear O;refine O _ ?_));clear O)|(refine zJ fun K O=>?_)|((first|refine zH ?_|refine zN rfl (by kernel_rfl) ?_|refine zM ?_|refine zK (by kernel_rfl) ?_);simp only[vS,vR,strip])|((first|refine wIs fun K O=>?_|refine wOs fun K O=>?_|refine wQs fun K O=>?_|refine zW ?_|refine zX ?_|refine zY ?_|refine zL ?_);simp[g0,g5,g3,b3,hlt,hw,he,o',o2,ht,hdr,hdr2,hle,hn0,hn1,hn2,hta,htb,hdr3])|(refine wIn ?_;refine And.intro (by kernel_rfl) ?_;try simp only[zZ])|refine zR ?_|refine zT ?_|((first|refine zI ?_|refine zO ?_|refine zP ?_);try simp)|((first|refine zS ?_|refine wOn ?_|refine wQn ?_);try simp only[zZ])
    all_goals apply hr
    all_goals simp[Tryz.f108,zns,Zn.c]
  ·rw[o,if_pos rfl] at hs
   have o':Op.bytesLess l[k].p z.p=true:=o
   repeat' first|((first|refine O _ ?_|refine O _ _ ?_|(clear O;refine O _ ?_));clear O)|(refine zJ fun K O=>?_)|((first|refine zH ?_|refine zN rfl (by kernel_rfl) ?_|refine zM ?_|refine zK (by kernel_rfl) ?_);simp only[vS,vR,strip])|((first|refine wIs fun K O=>?_|refine wOs fun K O=>?_|refine wQs fun K O=>?_|refine zW ?_|refine zX ?_|refine zY ?_|refine zL ?_);simp[g0,g5,g3,b3,hlt,hw,he,o'])|(refine wIn ?_;refine And.intro (by kernel_rfl) ?_;try simp only[zZ])|refine zR ?_|refine zT ?_|((first|refine zI ?_|refine zO ?_|refine zP ?_);try simp)|((first|refine zS ?_|refine wOn ?_|refine wQn ?_);try simp only[zZ])
   refine hL _ (N-1) (by omega) ⟨k+1,by omega,by omega,?_⟩
   simp[g0,g5,g3,b3,hw]
 ·obtain rfl:k=l.length:=by omega
  have hd:l.drop l.length=[]:=List.drop_of_length_le (by omega)
  rw[hd] at hend
  rw[hend rfl] at hr
  have hta:(zns l).take l.length=zns l:=List.take_of_length_le (by simp)
  have hta2:l.take l.length=l:=List.take_of_length_le (by simp)
  have hdr:(zns l).drop l.length=[]:=List.drop_of_length_le (by simp)
  have hsn:=zns_snoc l z
  rw[hta2,rst,<- hsn] at hr
  repeat' first|(refine And.intro (by (try simp);omega) ?_)|(refine Or.inl ?_)|((first|refine O _ ?_|refine O _ _ ?_|(clear O;refine O _ ?_));clear O)|(refine zJ fun K O=>?_)|((first|refine zH ?_|refine zN rfl (by kernel_rfl) ?_|refine zM ?_|refine zK (by kernel_rfl) ?_);simp only[vS,vR,strip])|((first|refine wIs fun K O=>?_|refine wOs fun K O=>?_|refine wQs fun K O=>?_|refine zW ?_|refine zX ?_|refine zY ?_|refine zL ?_);simp[g0,g5,g3,b3,hta,hdr])|(refine wIn ?_;refine And.intro (by kernel_rfl) ?_;try simp only[zZ])|refine zR ?_|refine zT ?_|((first|refine zI ?_|refine zO ?_|refine zP ?_);try simp)|((first|refine zS ?_|refine wOn ?_|refine wQn ?_);try simp only[zZ])
  all_goals apply hr
  all_goals simp[Tryz.f108]
theorem put07_con (l:List Zn)(z:Zn)(hl:l.length<=1000000):zE Tryz.prog 71 [.p (.sl 5 (zns l)),.p (.agg z.c)] (.p (.sl 5 (zns (putZ l z)))):=by
 refine zG Tryz.tab Tryz.mixed Tryz.func71 rfl rfl Tryz.ntmps71 (by simp) (by simp) fun Q hr hn=>?_
 repeat' first|((first|refine O _ ?_|refine O _ _ ?_|(clear O;refine O _ ?_));clear O)|(refine zJ fun K O=>?_)|((first|refine zH ?_|refine zN rfl (by kernel_rfl) ?_|refine zM ?_|refine zK (by kernel_rfl) ?_);simp only[vS,vR,strip])|((first|refine wIs fun K O=>?_|refine wOs fun K O=>?_|refine wQs fun K O=>?_|refine zW ?_|refine zX ?_|refine zY ?_|refine zL ?_);simp[Zn.c])|(refine wIn ?_;refine And.intro (by kernel_rfl) ?_;try simp only[zZ])|refine zR ?_|refine zT ?_|((first|refine zI ?_|refine zO ?_|refine zP ?_);try simp)|((first|refine zS ?_|refine wOn ?_|refine wQn ?_);try simp only[zZ])
 refine zC (fun N st=>∃k,k+N=l.length/\att l z.p=k+att (l.drop k) z.p/\st.s 0=.p (.sl 5 (zns l))/\st.s 5=.p (I k)/\st.s 3=.ptr 3 0/\st.b 3=some (.box 65 [.p (SB z.p),.p (SB z.d),.p (I z.v),.p (I z.k),.p (I z.o)])) l.length ⟨0,by simp⟩ fun K N st hL ⟨k,hk,hi,g0,g5,g3,b3⟩=>?_
 have hend:att (l.drop k) z.p=0->putZ l z=l.take k++z::rst (l.drop k) z.p:=fun h=>by
  unfold putZ;rw[hi,h,Nat.add_zero]
 by_cases hlt:k<l.length
 ·have hw:=yU k _ hlt (by omega)
  have he:=zns_get hlt
  have hs:=att_step hlt z.p
  cases o:lss l[k].p z.p
  ·rw[o,if_neg (by simp)] at hs
   rw[hend hs] at hr
   have o':Op.bytesLess l[k].p z.p=false:=o
   have hd:=List.drop_eq_getElem_cons hlt
   have hle:k<=l.length:=by omega
   have hdn:(l.drop (k+1)).length<=1000000:=by simp;omega
   rw[hd,rst] at hr
   have ht:=zns_take l k
   have hdr:=zns_drop l k
   have hdr2:=zns_drop l (k+1)
   have hle1:k+1<=l.length:=by omega
   have h0k:(0:Int)<=(k:Int)+1:=by omega
   have hw2:IntKind.i64.wrap ((k:Int)+1)=(((k+1:Nat)):Int):=hw
   have hzn:=zns_snoc (l.take k) z
   have hzt:=zns_len (l.take k++[z])
   have hztc:(l.take k).length<=1000000:=by simp;omega
   have hn0:0<l.length-k:=by omega
   have hn1:¬ l.length-k=0:=by omega
   have hn2:1<=l.length-k:=by omega
   have htb:(zns (l.drop k)).take (l.length-k)=zns (l.drop k):=List.take_of_length_le (by simp)
   have hdr3:(zns (l.drop k)).drop 1=zns (l.drop (k+1)):=by rw[zns_drop,List.drop_drop]
   have hta:(zns l).take l.length=zns l:=List.take_of_length_le (by simp)
   by_cases o2:l[k].p=z.p
   ·rw[if_pos o2] at hr
    rw[o2] at o'
    repeat' first|(refine And.intro (by (try simp);omega) ?_)|(refine Or.inl ?_)|((first|refine O _ ?_|refine O _ _ ?_|(clear O;refine O _ ?_));clear O)|(refine zJ fun K O=>?_)|((first|refine zH ?_|refine zN rfl (by kernel_rfl) ?_|refine zM ?_|refine zK (by kernel_rfl) ?_);simp only[vS,vR,strip])|((first|refine wIs fun K O=>?_|refine wOs fun K O=>?_|refine wQs fun K O=>?_|refine zW ?_|refine zX ?_|refine zY ?_|refine zL ?_);simp[g0,g5,g3,b3,hlt,hw,he,o',o2,ht,hdr,hdr2,hle,hle1,h0k,hw2,hta,hzn,hzt,hztc])|(refine wIn ?_;refine And.intro (by kernel_rfl) ?_;try simp only[zZ])|refine zR ?_|refine zT ?_|((first|refine zI ?_|refine zO ?_|refine zP ?_);try simp)|((first|refine zS ?_|refine wOn ?_|refine wQn ?_);try simp only[zZ])
    all_goals apply hr
    all_goals simp[Tryz.f71,zns,Zn.c]
   ·rw[if_neg o2] at hr
    repeat' first|(refine And.intro (by (try simp);omega) ?_)|(refine Or.inl ?_)|((first|refine O _ ?_|refine O _ _ ?_|(clear O;refine O _ ?_));clear O)|(refine zJ fun K O=>?_)|((first|refine zH ?_|refine zN rfl (by kernel_rfl) ?_|refine zM ?_|refine zK (by kernel_rfl) ?_);simp only[vS,vR,strip])|((first|refine wIs fun K O=>?_|refine wOs fun K O=>?_|refine wQs fun K O=>?_|refine zW ?_|refine zX ?_|refine zY ?_|refine zL ?_);simp[g0,g5,g3,b3,hlt,hw,he,o',o2,ht,hdr,hdr2,hle,hle1,h0k,hw2,hta,hzn,hzt,hztc])|(refine wIn ?_;refine And.intro (by kernel_rfl) ?_;try simp only[zZ])|refine zR ?_|refine zT ?_|((first|refine zI ?_|refine zO ?_|refine zP ?_);try simp)|((first|refine zS ?_|refine wOn ?_|refine wQn ?_);try simp only[zZ])
    all_goals apply hr
    all_goals simp[Tryz.f71,zns,Zn.c]
  ·rw[o,if_pos rfl] at hs
   have o':Op.bytesLess l[k].p z.p=true:=o
   repeat' first|((first|refine O _ ?_|refine O _ _ ?_|(clear O;refine O _ ?_));clear O)|(refine zJ fun K O=>?_)|((first|refine zH ?_|refine zN rfl (by kernel_rfl) ?_|refine zM ?_|refine zK (by kernel_rfl) ?_);simp only[vS,vR,strip])|((first|refine wIs fun K O=>?_|refine wOs fun K O=>?_|refine wQs fun K O=>?_|refine zW ?_|refine zX ?_|refine zY ?_|refine zL ?_);simp[g0,g5,g3,b3,hlt,hw,he,o'])|(refine wIn ?_;refine And.intro (by kernel_rfl) ?_;try simp only[zZ])|refine zR ?_|refine zT ?_|((first|refine zI ?_|refine zO ?_|refine zP ?_);try simp)|((first|refine zS ?_|refine wOn ?_|refine wQn ?_);try simp only[zZ])
   refine hL _ (N-1) (by omega) ⟨k+1,by omega,by omega,?_⟩
   simp[g0,g5,g3,b3,hw]
 ·obtain rfl:k=l.length:=by omega
  have hd:l.drop l.length=[]:=List.drop_of_length_le (by omega)
  rw[hd] at hend
  rw[hend rfl] at hr
  have hta:(zns l).take l.length=zns l:=List.take_of_length_le (by simp)
  have hta2:l.take l.length=l:=List.take_of_length_le (by simp)
  have hdr:(zns l).drop l.length=[]:=List.drop_of_length_le (by simp)
  have hsn:=zns_snoc l z
  rw[hta2,rst,<- hsn] at hr
  repeat' first|(refine And.intro (by (try simp);omega) ?_)|(refine Or.inl ?_)|((first|refine O _ ?_|refine O _ _ ?_|(clear O;refine O _ ?_));clear O)|(refine zJ fun K O=>?_)|((first|refine zH ?_|refine zN rfl (by kernel_rfl) ?_|refine zM ?_|refine zK (by kernel_rfl) ?_);simp only[vS,vR,strip])|((first|refine wIs fun K O=>?_|refine wOs fun K O=>?_|refine wQs fun K O=>?_|refine zW ?_|refine zX ?_|refine zY ?_|refine zL ?_);simp[g0,g5,g3,b3,hta,hdr])|(refine wIn ?_;refine And.intro (by kernel_rfl) ?_;try simp only[zZ])|refine zR ?_|refine zT ?_|((first|refine zI ?_|refine zO ?_|refine zP ?_);try simp)|((first|refine zS ?_|refine wOn ?_|refine wQn ?_);try simp only[zZ])
  all_goals apply hr
  all_goals simp[Tryz.f71]
def gone (l:List Zn)(p:List UInt8):List Zn:=l.filter fun z => !decide (z.p=p)
theorem gone_snoc {l:List Zn}{k:Nat}(h:k<l.length)(p:List UInt8):gone (l.take (k+1)) p=if l[k].p=p then gone (l.take k) p else gone (l.take k) p++[l[k]]:=by
 unfold gone
 rw[take_snocN _ k h,List.filter_append]
 by_cases g:l[k].p=p <;> simp[g]
theorem gone_len (l:List Zn)(p:List UInt8)(k:Nat):(gone (l.take k) p).length<=k:=by
 unfold gone
 exact Nat.le_trans (List.length_filter_le _ _) (by simp;omega)
theorem gone_con (l:List Zn)(p:List UInt8)(hl:l.length<=1000000):zE Tryz.prog 109 [.p (.sl 5 (zns l)),.p (SB p)] (.p (.sl 5 (zns (gone l p)))):=by
 refine zG Tryz.tab Tryz.mixed Tryz.func109 rfl rfl Tryz.ntmps109 (by simp) (by simp) fun Q hr hn=>?_
 repeat' first|((first|refine O _ ?_|refine O _ _ ?_|(clear O;refine O _ ?_));clear O)|(refine zJ fun K O=>?_)|((first|refine zH ?_|refine zN rfl (by kernel_rfl) ?_|refine zM ?_|refine zK (by kernel_rfl) ?_);simp only[vS,vR,strip])|((first|refine wIs fun K O=>?_|refine wOs fun K O=>?_|refine wQs fun K O=>?_|refine zW ?_|refine zX ?_|refine zY ?_|refine zL ?_);simp)|(refine wIn ?_;refine And.intro (by kernel_rfl) ?_;try simp only[zZ])|refine zR ?_|refine zT ?_|((first|refine zI ?_|refine zO ?_|refine zP ?_);try simp)|((first|refine zS ?_|refine wOn ?_|refine wQn ?_);try simp only[zZ])
 refine wLoopG [.row 5 65 5] (fun N st=>∃k,k+N=l.length/\st.s 1=.p (SB p)/\st.s 8=.p (.sl 5 (zns l))/\st.s 9=.p (I l.length)/\st.s 10=.p (I k)/\st.s 5=.row 5/\st.b 5=some (.row 65 5 (zns (gone (l.take k) p)))) l.length ⟨0,by simp[gone,zns]⟩ fun K N st hL ⟨k,hk,g1,g8,g9,g10,g5,b5⟩=>?_
 have hkl:=gone_len l p k
 by_cases hlt:k<l.length
 ·have hw:=yU k _ hlt (by omega)
  have he:=zns_get hlt
  have hs:=gone_snoc hlt p
  have hx:=zns_snoc (gone (l.take k) p) l[k]
  by_cases o:l[k].p=p
  ·rw[if_pos o] at hs
   repeat' first|((first|refine O _ ?_|refine O _ _ ?_|(clear O;refine O _ ?_));clear O)|(refine zJ fun K O=>?_)|((first|refine zH ?_|refine zN rfl (by kernel_rfl) ?_|refine zM ?_|refine zK (by kernel_rfl) ?_);simp only[vS,vR,strip])|((first|refine wIs fun K O=>?_|refine wOs fun K O=>?_|refine wQs fun K O=>?_|refine zW ?_|refine zX ?_|refine zY ?_|refine zL ?_);simp[g1,g8,g9,g10,g5,b5,hlt,hw,he,o])|(refine wIn ?_;refine And.intro (by kernel_rfl) ?_;try simp only[zZ])|refine zR ?_|refine zT ?_|((first|refine zI ?_|refine zO ?_|refine zP ?_);try simp)|((first|refine zS ?_|refine wOn ?_|refine wQn ?_);try simp only[zZ])
   refine hL _ (N-1) (by omega) ⟨k+1,by omega,?_⟩
   simp[g1,g8,g9,g10,g5,b5,hw,hs]
  ·rw[if_neg o] at hs
   rw[<- hs] at hx
   repeat' first|(refine And.intro (by (try simp at hkl ⊢);omega) ?_)|((first|refine O _ ?_|refine O _ _ ?_|(clear O;refine O _ ?_));clear O)|(refine zJ fun K O=>?_)|((first|refine zH ?_|refine zN rfl (by kernel_rfl) ?_|refine zM ?_|refine zK (by kernel_rfl) ?_);simp only[vS,vR,strip])|((first|refine wIs fun K O=>?_|refine wOs fun K O=>?_|refine wQs fun K O=>?_|refine zW ?_|refine zX ?_|refine zY ?_|refine zL ?_);simp[g1,g8,g9,g10,g5,b5,hlt,hw,he,o])|(refine wIn ?_;refine And.intro (by kernel_rfl) ?_;try simp only[zZ])|refine zR ?_|refine zT ?_|((first|refine zI ?_|refine zO ?_|refine zP ?_);try simp)|((first|refine zS ?_|refine wOn ?_|refine wQn ?_);try simp only[zZ])
   refine hL _ (N-1) (by omega) ⟨k+1,by omega,?_⟩
   simp[g1,g8,g9,g10,g5,b5,hw,hx]
 ·rw[List.take_of_length_le (by omega)] at b5
  repeat' first|((first|refine O _ ?_|refine O _ _ ?_|(clear O;refine O _ ?_));clear O)|(refine zJ fun K O=>?_)|((first|refine zH ?_|refine zN rfl (by kernel_rfl) ?_|refine zM ?_|refine zK (by kernel_rfl) ?_);simp only[vS,vR,strip])|((first|refine wIs fun K O=>?_|refine wOs fun K O=>?_|refine wQs fun K O=>?_|refine zW ?_|refine zX ?_|refine zY ?_|refine zL ?_);simp[g1,g8,g9,g10,g5,b5,hlt])|(refine wIn ?_;refine And.intro (by kernel_rfl) ?_;try simp only[zZ])|refine zR ?_|refine zT ?_|((first|refine zI ?_|refine zO ?_|refine zP ?_);try simp)|((first|refine zS ?_|refine wOn ?_|refine wQn ?_);try simp only[zZ])
  all_goals apply hr
  all_goals simp[Tryz.f109,g5,b5]
theorem gone07_con (l:List Zn)(p:List UInt8)(hl:l.length<=1000000):zE Tryz.prog 72 [.p (.sl 5 (zns l)),.p (SB p)] (.p (.sl 5 (zns (gone l p)))):=by
 refine zG Tryz.tab Tryz.mixed Tryz.func72 rfl rfl Tryz.ntmps72 (by simp) (by simp) fun Q hr hn=>?_
 repeat' first|((first|refine O _ ?_|refine O _ _ ?_|(clear O;refine O _ ?_));clear O)|(refine zJ fun K O=>?_)|((first|refine zH ?_|refine zN rfl (by kernel_rfl) ?_|refine zM ?_|refine zK (by kernel_rfl) ?_);simp only[vS,vR,strip])|((first|refine wIs fun K O=>?_|refine wOs fun K O=>?_|refine wQs fun K O=>?_|refine zW ?_|refine zX ?_|refine zY ?_|refine zL ?_);simp)|(refine wIn ?_;refine And.intro (by kernel_rfl) ?_;try simp only[zZ])|refine zR ?_|refine zT ?_|((first|refine zI ?_|refine zO ?_|refine zP ?_);try simp)|((first|refine zS ?_|refine wOn ?_|refine wQn ?_);try simp only[zZ])
 refine wLoopG [.row 5 65 5] (fun N st=>∃k,k+N=l.length/\st.s 1=.p (SB p)/\st.s 8=.p (.sl 5 (zns l))/\st.s 9=.p (I l.length)/\st.s 10=.p (I k)/\st.s 5=.row 5/\st.b 5=some (.row 65 5 (zns (gone (l.take k) p)))) l.length ⟨0,by simp[gone,zns]⟩ fun K N st hL ⟨k,hk,g1,g8,g9,g10,g5,b5⟩=>?_
 have hkl:=gone_len l p k
 by_cases hlt:k<l.length
 ·have hw:=yU k _ hlt (by omega)
  have he:=zns_get hlt
  have hs:=gone_snoc hlt p
  have hx:=zns_snoc (gone (l.take k) p) l[k]
  by_cases o:l[k].p=p
  ·rw[if_pos o] at hs
   repeat' first|((first|refine O _ ?_|refine O _ _ ?_|(clear O;refine O _ ?_));clear O)|(refine zJ fun K O=>?_)|((first|refine zH ?_|refine zN rfl (by kernel_rfl) ?_|refine zM ?_|refine zK (by kernel_rfl) ?_);simp only[vS,vR,strip])|((first|refine wIs fun K O=>?_|refine wOs fun K O=>?_|refine wQs fun K O=>?_|refine zW ?_|refine zX ?_|refine zY ?_|refine zL ?_);simp[g1,g8,g9,g10,g5,b5,hlt,hw,he,o])|(refine wIn ?_;refine And.intro (by kernel_rfl) ?_;try simp only[zZ])|refine zR ?_|refine zT ?_|((first|refine zI ?_|refine zO ?_|refine zP ?_);try simp)|((first|refine zS ?_|refine wOn ?_|refine wQn ?_);try simp only[zZ])
   refine hL _ (N-1) (by omega) ⟨k+1,by omega,?_⟩
   simp[g1,g8,g9,g10,g5,b5,hw,hs]
  ·rw[if_neg o] at hs
   rw[<- hs] at hx
   repeat' first|(refine And.intro (by (try simp at hkl ⊢);omega) ?_)|((first|refine O _ ?_|refine O _ _ ?_|(clear O;refine O _ ?_));clear O)|(refine zJ fun K O=>?_)|((first|refine zH ?_|refine zN rfl (by kernel_rfl) ?_|refine zM ?_|refine zK (by kernel_rfl) ?_);simp only[vS,vR,strip])|((first|refine wIs fun K O=>?_|refine wOs fun K O=>?_|refine wQs fun K O=>?_|refine zW ?_|refine zX ?_|refine zY ?_|refine zL ?_);simp[g1,g8,g9,g10,g5,b5,hlt,hw,he,o])|(refine wIn ?_;refine And.intro (by kernel_rfl) ?_;try simp only[zZ])|refine zR ?_|refine zT ?_|((first|refine zI ?_|refine zO ?_|refine zP ?_);try simp)|((first|refine zS ?_|refine wOn ?_|refine wQn ?_);try simp only[zZ])
   refine hL _ (N-1) (by omega) ⟨k+1,by omega,?_⟩
   simp[g1,g8,g9,g10,g5,b5,hw,hx]
 ·rw[List.take_of_length_le (by omega)] at b5
  repeat' first|((first|refine O _ ?_|refine O _ _ ?_|(clear O;refine O _ ?_));clear O)|(refine zJ fun K O=>?_)|((first|refine zH ?_|refine zN rfl (by kernel_rfl) ?_|refine zM ?_|refine zK (by kernel_rfl) ?_);simp only[vS,vR,strip])|((first|refine wIs fun K O=>?_|refine wOs fun K O=>?_|refine wQs fun K O=>?_|refine zW ?_|refine zX ?_|refine zY ?_|refine zL ?_);simp[g1,g8,g9,g10,g5,b5,hlt])|(refine wIn ?_;refine And.intro (by kernel_rfl) ?_;try simp only[zZ])|refine zR ?_|refine zT ?_|((first|refine zI ?_|refine zO ?_|refine zP ?_);try simp)|((first|refine zS ?_|refine wOn ?_|refine wQn ?_);try simp only[zZ])
  all_goals apply hr
  all_goals simp[Tryz.f72,g5,b5]
end Go.Proofs.YtpihbhacmokekaaGreatDoor
