/- Texts that the proof needs: NC. -/
import Derived.Test.YtedbbcmokbogpaaGreatDoorP26PrepNumbers
namespace Go.Proofs.YtedbbcmokbogpaaGreatDoor
set_option linter.unusedSimpArgs false
set_option linter.unusedVariables false
open Go Go.Av
attribute [local irreducible] Go.Av.yP Go.Av.zU Go.Av.yN Go.Av.zT Go.Av.yO Go.Av.zV Go.Av.Con
theorem root07_con:zD Tryz.prog 46 [] (.p (.sl 5 (zns [⟨[47],[],0,0,0⟩]))):=by
 refine zG Tryz.tab Tryz.mixed Tryz.func46 rfl rfl Tryz.ntmps46 (by simp) (by simp) fun Q hr hn=>?_
 repeat' first|((first|refine O _ ?_|refine O _ _ ?_|(clear O;refine O _ ?_));clear O)|(refine zJ fun K O=>?_)|((first|refine zH ?_|refine zN rfl (by kernel_rfl) ?_|refine zM ?_|refine zK (by kernel_rfl) ?_);simp only[vZ,vY,strip])|((first|refine wIs fun K O=>?_|refine wOs fun K O=>?_|refine wQs fun K O=>?_|refine zW ?_|refine zX ?_|refine zY ?_|refine zL ?_);simp)|(refine wIn ?_;refine And.intro (by kernel_rfl) ?_;try simp only[zZ])|refine zQ ?_|refine zS ?_|((first|refine zI ?_|refine zO ?_|refine zP ?_);try simp)|((first|refine zR ?_|refine wOn ?_|refine wQn ?_);try simp only[zZ])
 all_goals apply hr
 all_goals simp[Tryz.f46,zns,Zn.c]
theorem counts7_con (n:Int):zD Tryz.prog 54 [.p (I n)] (.p (B (decide (0<=n/\n<=1099511627776)))):=by
 by_cases q0:0<=n
 rotate_left
 ·rw[show decide (0<=n/\n<=1099511627776)=false from decide_eq_false fun h=>q0 h.1]
  refine zG Tryz.tab Tryz.mixed Tryz.func54 rfl rfl Tryz.ntmps54 (by simp) (by simp) fun Q hr hn=>?_
  repeat' first|((first|refine O _ ?_|refine O _ _ ?_|(clear O;refine O _ ?_));clear O)|(refine zJ fun K O=>?_)|((first|refine zH ?_|refine zN rfl (by kernel_rfl) ?_|refine zM ?_|refine zK (by kernel_rfl) ?_);simp only[vZ,vY,strip])|((first|refine wIs fun K O=>?_|refine wOs fun K O=>?_|refine wQs fun K O=>?_|refine zW ?_|refine zX ?_|refine zY ?_|refine zL ?_);simp[q0])|(refine wIn ?_;refine And.intro (by kernel_rfl) ?_;try simp only[zZ])|refine zQ ?_|refine zS ?_|((first|refine zI ?_|refine zO ?_|refine zP ?_);try simp)|((first|refine zR ?_|refine wOn ?_|refine wQn ?_);try simp only[zZ])
  all_goals apply hr
  all_goals simp[Tryz.f54]
 by_cases q1:n<=1099511627776
 rotate_left
 ·rw[show decide (0<=n/\n<=1099511627776)=false from decide_eq_false fun h=>q1 h.2]
  refine zG Tryz.tab Tryz.mixed Tryz.func54 rfl rfl Tryz.ntmps54 (by simp) (by simp) fun Q hr hn=>?_
  repeat' first|((first|refine O _ ?_|refine O _ _ ?_|(clear O;refine O _ ?_));clear O)|(refine zJ fun K O=>?_)|((first|refine zH ?_|refine zN rfl (by kernel_rfl) ?_|refine zM ?_|refine zK (by kernel_rfl) ?_);simp only[vZ,vY,strip])|((first|refine wIs fun K O=>?_|refine wOs fun K O=>?_|refine wQs fun K O=>?_|refine zW ?_|refine zX ?_|refine zY ?_|refine zL ?_);simp[q0,q1])|(refine wIn ?_;refine And.intro (by kernel_rfl) ?_;try simp only[zZ])|refine zQ ?_|refine zS ?_|((first|refine zI ?_|refine zO ?_|refine zP ?_);try simp)|((first|refine zR ?_|refine wOn ?_|refine wQn ?_);try simp only[zZ])
  all_goals apply hr
  all_goals simp[Tryz.f54]
 rw[show decide (0<=n/\n<=1099511627776)=true from decide_eq_true ⟨q0,q1⟩]
 refine zG Tryz.tab Tryz.mixed Tryz.func54 rfl rfl Tryz.ntmps54 (by simp) (by simp) fun Q hr hn=>?_
 repeat' first|((first|refine O _ ?_|refine O _ _ ?_|(clear O;refine O _ ?_));clear O)|(refine zJ fun K O=>?_)|((first|refine zH ?_|refine zN rfl (by kernel_rfl) ?_|refine zM ?_|refine zK (by kernel_rfl) ?_);simp only[vZ,vY,strip])|((first|refine wIs fun K O=>?_|refine wOs fun K O=>?_|refine wQs fun K O=>?_|refine zW ?_|refine zX ?_|refine zY ?_|refine zL ?_);simp[q0,q1])|(refine wIn ?_;refine And.intro (by kernel_rfl) ?_;try simp only[zZ])|refine zQ ?_|refine zS ?_|((first|refine zI ?_|refine zO ?_|refine zP ?_);try simp)|((first|refine zR ?_|refine wOn ?_|refine wQn ?_);try simp only[zZ])
 all_goals apply hr
 all_goals simp[Tryz.f54]
def rgz (z:Zn):Bool:=decide (chk z.p=0/\(z.d.length:Int)<=128/\0<=z.v/\z.v<=1099511627776/\0<=z.k/\z.k<=1099511627776/\0<=z.o)
theorem right_con (z:Zn)(hz:long z):zD Tryz.prog 39 [.p (.agg z.c)] (.p (B (rgz z))):=by
 have c1:=check_con z.p hz.1
 have c2:=counts7_con z.v
 have c3:=counts7_con z.k
 unfold rgz Zn.c
 by_cases q0:chk z.p=0
 rotate_left
 ·rw[show decide (chk z.p=0/\(z.d.length:Int)<=128/\0<=z.v/\z.v<=1099511627776/\0<=z.k/\z.k<=1099511627776/\0<=z.o)=false from decide_eq_false fun h=>q0 h.1]
  refine zG Tryz.tab Tryz.mixed Tryz.func39 rfl rfl Tryz.ntmps39 (by simp) (by simp) fun Q hr hn=>?_
  repeat' first|((first|refine O _ ?_|refine O _ _ ?_|(clear O;refine O _ ?_));clear O)|(refine zJ fun K O=>?_)|((first|refine zH ?_|refine zN rfl (by kernel_rfl) ?_|refine zM ?_|refine zK (by kernel_rfl) ?_);simp only[vZ,vY,strip])|((first|refine wIs fun K O=>?_|refine wOs fun K O=>?_|refine wQs fun K O=>?_|refine zW ?_|refine zX ?_|refine zY ?_|refine zL ?_);simp[q0])|(refine wIn ?_;refine And.intro (by kernel_rfl) ?_;try simp only[zZ])|refine zQ ?_|refine zS ?_|((first|refine zI ?_|refine zO ?_|refine zP ?_);try simp)|((first|refine zR ?_|refine wOn ?_|refine wQn ?_);try simp only[zZ])|refine zU.p c1 rfl ?_|refine zU.l c1 rfl ?_|refine zT.p c1 rfl ?_|refine zT.l c1 rfl ?_|refine zU.o c1 ?_|refine zV.p c1 rfl ?_|refine zV.l c1 rfl ?_|refine zV.o c1 ?_|refine zU.p c2 rfl ?_|refine zU.l c2 rfl ?_|refine zT.p c2 rfl ?_|refine zT.l c2 rfl ?_|refine zU.o c2 ?_|refine zV.p c2 rfl ?_|refine zV.l c2 rfl ?_|refine zV.o c2 ?_|refine zU.p c3 rfl ?_|refine zU.l c3 rfl ?_|refine zT.p c3 rfl ?_|refine zT.l c3 rfl ?_|refine zU.o c3 ?_|refine zV.p c3 rfl ?_|refine zV.l c3 rfl ?_|refine zV.o c3 ?_
  all_goals apply hr
  all_goals simp[Tryz.f39]
 by_cases q1:(z.d.length:Int)<=128
 rotate_left
 ·rw[show decide (chk z.p=0/\(z.d.length:Int)<=128/\0<=z.v/\z.v<=1099511627776/\0<=z.k/\z.k<=1099511627776/\0<=z.o)=false from decide_eq_false fun h=>q1 h.2.1]
  refine zG Tryz.tab Tryz.mixed Tryz.func39 rfl rfl Tryz.ntmps39 (by simp) (by simp) fun Q hr hn=>?_
  repeat' first|((first|refine O _ ?_|refine O _ _ ?_|(clear O;refine O _ ?_));clear O)|(refine zJ fun K O=>?_)|((first|refine zH ?_|refine zN rfl (by kernel_rfl) ?_|refine zM ?_|refine zK (by kernel_rfl) ?_);simp only[vZ,vY,strip])|((first|refine wIs fun K O=>?_|refine wOs fun K O=>?_|refine wQs fun K O=>?_|refine zW ?_|refine zX ?_|refine zY ?_|refine zL ?_);simp[q0,q1])|(refine wIn ?_;refine And.intro (by kernel_rfl) ?_;try simp only[zZ])|refine zQ ?_|refine zS ?_|((first|refine zI ?_|refine zO ?_|refine zP ?_);try simp)|((first|refine zR ?_|refine wOn ?_|refine wQn ?_);try simp only[zZ])|refine zU.p c1 rfl ?_|refine zU.l c1 rfl ?_|refine zT.p c1 rfl ?_|refine zT.l c1 rfl ?_|refine zU.o c1 ?_|refine zV.p c1 rfl ?_|refine zV.l c1 rfl ?_|refine zV.o c1 ?_|refine zU.p c2 rfl ?_|refine zU.l c2 rfl ?_|refine zT.p c2 rfl ?_|refine zT.l c2 rfl ?_|refine zU.o c2 ?_|refine zV.p c2 rfl ?_|refine zV.l c2 rfl ?_|refine zV.o c2 ?_|refine zU.p c3 rfl ?_|refine zU.l c3 rfl ?_|refine zT.p c3 rfl ?_|refine zT.l c3 rfl ?_|refine zU.o c3 ?_|refine zV.p c3 rfl ?_|refine zV.l c3 rfl ?_|refine zV.o c3 ?_
  all_goals apply hr
  all_goals simp[Tryz.f39]
 by_cases q2:0<=z.v
 rotate_left
 ·rw[show decide (chk z.p=0/\(z.d.length:Int)<=128/\0<=z.v/\z.v<=1099511627776/\0<=z.k/\z.k<=1099511627776/\0<=z.o)=false from decide_eq_false fun h=>q2 h.2.2.1]
  refine zG Tryz.tab Tryz.mixed Tryz.func39 rfl rfl Tryz.ntmps39 (by simp) (by simp) fun Q hr hn=>?_
  repeat' first|((first|refine O _ ?_|refine O _ _ ?_|(clear O;refine O _ ?_));clear O)|(refine zJ fun K O=>?_)|((first|refine zH ?_|refine zN rfl (by kernel_rfl) ?_|refine zM ?_|refine zK (by kernel_rfl) ?_);simp only[vZ,vY,strip])|((first|refine wIs fun K O=>?_|refine wOs fun K O=>?_|refine wQs fun K O=>?_|refine zW ?_|refine zX ?_|refine zY ?_|refine zL ?_);simp[q0,q1,q2])|(refine wIn ?_;refine And.intro (by kernel_rfl) ?_;try simp only[zZ])|refine zQ ?_|refine zS ?_|((first|refine zI ?_|refine zO ?_|refine zP ?_);try simp)|((first|refine zR ?_|refine wOn ?_|refine wQn ?_);try simp only[zZ])|refine zU.p c1 rfl ?_|refine zU.l c1 rfl ?_|refine zT.p c1 rfl ?_|refine zT.l c1 rfl ?_|refine zU.o c1 ?_|refine zV.p c1 rfl ?_|refine zV.l c1 rfl ?_|refine zV.o c1 ?_|refine zU.p c2 rfl ?_|refine zU.l c2 rfl ?_|refine zT.p c2 rfl ?_|refine zT.l c2 rfl ?_|refine zU.o c2 ?_|refine zV.p c2 rfl ?_|refine zV.l c2 rfl ?_|refine zV.o c2 ?_|refine zU.p c3 rfl ?_|refine zU.l c3 rfl ?_|refine zT.p c3 rfl ?_|refine zT.l c3 rfl ?_|refine zU.o c3 ?_|refine zV.p c3 rfl ?_|refine zV.l c3 rfl ?_|refine zV.o c3 ?_
  all_goals apply hr
  all_goals simp[Tryz.f39]
 by_cases q3:z.v<=1099511627776
 rotate_left
 ·rw[show decide (chk z.p=0/\(z.d.length:Int)<=128/\0<=z.v/\z.v<=1099511627776/\0<=z.k/\z.k<=1099511627776/\0<=z.o)=false from decide_eq_false fun h=>q3 h.2.2.2.1]
  refine zG Tryz.tab Tryz.mixed Tryz.func39 rfl rfl Tryz.ntmps39 (by simp) (by simp) fun Q hr hn=>?_
  repeat' first|((first|refine O _ ?_|refine O _ _ ?_|(clear O;refine O _ ?_));clear O)|(refine zJ fun K O=>?_)|((first|refine zH ?_|refine zN rfl (by kernel_rfl) ?_|refine zM ?_|refine zK (by kernel_rfl) ?_);simp only[vZ,vY,strip])|((first|refine wIs fun K O=>?_|refine wOs fun K O=>?_|refine wQs fun K O=>?_|refine zW ?_|refine zX ?_|refine zY ?_|refine zL ?_);simp[q0,q1,q2,q3])|(refine wIn ?_;refine And.intro (by kernel_rfl) ?_;try simp only[zZ])|refine zQ ?_|refine zS ?_|((first|refine zI ?_|refine zO ?_|refine zP ?_);try simp)|((first|refine zR ?_|refine wOn ?_|refine wQn ?_);try simp only[zZ])|refine zU.p c1 rfl ?_|refine zU.l c1 rfl ?_|refine zT.p c1 rfl ?_|refine zT.l c1 rfl ?_|refine zU.o c1 ?_|refine zV.p c1 rfl ?_|refine zV.l c1 rfl ?_|refine zV.o c1 ?_|refine zU.p c2 rfl ?_|refine zU.l c2 rfl ?_|refine zT.p c2 rfl ?_|refine zT.l c2 rfl ?_|refine zU.o c2 ?_|refine zV.p c2 rfl ?_|refine zV.l c2 rfl ?_|refine zV.o c2 ?_|refine zU.p c3 rfl ?_|refine zU.l c3 rfl ?_|refine zT.p c3 rfl ?_|refine zT.l c3 rfl ?_|refine zU.o c3 ?_|refine zV.p c3 rfl ?_|refine zV.l c3 rfl ?_|refine zV.o c3 ?_
  all_goals apply hr
  all_goals simp[Tryz.f39]
 by_cases q4:0<=z.k
 rotate_left
 ·rw[show decide (chk z.p=0/\(z.d.length:Int)<=128/\0<=z.v/\z.v<=1099511627776/\0<=z.k/\z.k<=1099511627776/\0<=z.o)=false from decide_eq_false fun h=>q4 h.2.2.2.2.1]
  refine zG Tryz.tab Tryz.mixed Tryz.func39 rfl rfl Tryz.ntmps39 (by simp) (by simp) fun Q hr hn=>?_
  repeat' first|((first|refine O _ ?_|refine O _ _ ?_|(clear O;refine O _ ?_));clear O)|(refine zJ fun K O=>?_)|((first|refine zH ?_|refine zN rfl (by kernel_rfl) ?_|refine zM ?_|refine zK (by kernel_rfl) ?_);simp only[vZ,vY,strip])|((first|refine wIs fun K O=>?_|refine wOs fun K O=>?_|refine wQs fun K O=>?_|refine zW ?_|refine zX ?_|refine zY ?_|refine zL ?_);simp[q0,q1,q2,q3,q4])|(refine wIn ?_;refine And.intro (by kernel_rfl) ?_;try simp only[zZ])|refine zQ ?_|refine zS ?_|((first|refine zI ?_|refine zO ?_|refine zP ?_);try simp)|((first|refine zR ?_|refine wOn ?_|refine wQn ?_);try simp only[zZ])|refine zU.p c1 rfl ?_|refine zU.l c1 rfl ?_|refine zT.p c1 rfl ?_|refine zT.l c1 rfl ?_|refine zU.o c1 ?_|refine zV.p c1 rfl ?_|refine zV.l c1 rfl ?_|refine zV.o c1 ?_|refine zU.p c2 rfl ?_|refine zU.l c2 rfl ?_|refine zT.p c2 rfl ?_|refine zT.l c2 rfl ?_|refine zU.o c2 ?_|refine zV.p c2 rfl ?_|refine zV.l c2 rfl ?_|refine zV.o c2 ?_|refine zU.p c3 rfl ?_|refine zU.l c3 rfl ?_|refine zT.p c3 rfl ?_|refine zT.l c3 rfl ?_|refine zU.o c3 ?_|refine zV.p c3 rfl ?_|refine zV.l c3 rfl ?_|refine zV.o c3 ?_
  all_goals apply hr
  all_goals simp[Tryz.f39]
 by_cases q5:z.k<=1099511627776
 rotate_left
 ·rw[show decide (chk z.p=0/\(z.d.length:Int)<=128/\0<=z.v/\z.v<=1099511627776/\0<=z.k/\z.k<=1099511627776/\0<=z.o)=false from decide_eq_false fun h=>q5 h.2.2.2.2.2.1]
  refine zG Tryz.tab Tryz.mixed Tryz.func39 rfl rfl Tryz.ntmps39 (by simp) (by simp) fun Q hr hn=>?_
  repeat' first|((first|refine O _ ?_|refine O _ _ ?_|(clear O;refine O _ ?_));clear O)|(refine zJ fun K O=>?_)|((first|refine zH ?_|refine zN rfl (by kernel_rfl) ?_|refine zM ?_|refine zK (by kernel_rfl) ?_);simp only[vZ,vY,strip])|((first|refine wIs fun K O=>?_|refine wOs fun K O=>?_|refine wQs fun K O=>?_|refine zW ?_|refine zX ?_|refine zY ?_|refine zL ?_);simp[q0,q1,q2,q3,q4,q5])|(refine wIn ?_;refine And.intro (by kernel_rfl) ?_;try simp only[zZ])|refine zQ ?_|refine zS ?_|((first|refine zI ?_|refine zO ?_|refine zP ?_);try simp)|((first|refine zR ?_|refine wOn ?_|refine wQn ?_);try simp only[zZ])|refine zU.p c1 rfl ?_|refine zU.l c1 rfl ?_|refine zT.p c1 rfl ?_|refine zT.l c1 rfl ?_|refine zU.o c1 ?_|refine zV.p c1 rfl ?_|refine zV.l c1 rfl ?_|refine zV.o c1 ?_|refine zU.p c2 rfl ?_|refine zU.l c2 rfl ?_|refine zT.p c2 rfl ?_|refine zT.l c2 rfl ?_|refine zU.o c2 ?_|refine zV.p c2 rfl ?_|refine zV.l c2 rfl ?_|refine zV.o c2 ?_|refine zU.p c3 rfl ?_|refine zU.l c3 rfl ?_|refine zT.p c3 rfl ?_|refine zT.l c3 rfl ?_|refine zU.o c3 ?_|refine zV.p c3 rfl ?_|refine zV.l c3 rfl ?_|refine zV.o c3 ?_
  all_goals apply hr
  all_goals simp[Tryz.f39]
 by_cases q6:0<=z.o
 rotate_left
 ·rw[show decide (chk z.p=0/\(z.d.length:Int)<=128/\0<=z.v/\z.v<=1099511627776/\0<=z.k/\z.k<=1099511627776/\0<=z.o)=false from decide_eq_false fun h=>q6 h.2.2.2.2.2.2]
  refine zG Tryz.tab Tryz.mixed Tryz.func39 rfl rfl Tryz.ntmps39 (by simp) (by simp) fun Q hr hn=>?_
  repeat' first|((first|refine O _ ?_|refine O _ _ ?_|(clear O;refine O _ ?_));clear O)|(refine zJ fun K O=>?_)|((first|refine zH ?_|refine zN rfl (by kernel_rfl) ?_|refine zM ?_|refine zK (by kernel_rfl) ?_);simp only[vZ,vY,strip])|((first|refine wIs fun K O=>?_|refine wOs fun K O=>?_|refine wQs fun K O=>?_|refine zW ?_|refine zX ?_|refine zY ?_|refine zL ?_);simp[q0,q1,q2,q3,q4,q5,q6])|(refine wIn ?_;refine And.intro (by kernel_rfl) ?_;try simp only[zZ])|refine zQ ?_|refine zS ?_|((first|refine zI ?_|refine zO ?_|refine zP ?_);try simp)|((first|refine zR ?_|refine wOn ?_|refine wQn ?_);try simp only[zZ])|refine zU.p c1 rfl ?_|refine zU.l c1 rfl ?_|refine zT.p c1 rfl ?_|refine zT.l c1 rfl ?_|refine zU.o c1 ?_|refine zV.p c1 rfl ?_|refine zV.l c1 rfl ?_|refine zV.o c1 ?_|refine zU.p c2 rfl ?_|refine zU.l c2 rfl ?_|refine zT.p c2 rfl ?_|refine zT.l c2 rfl ?_|refine zU.o c2 ?_|refine zV.p c2 rfl ?_|refine zV.l c2 rfl ?_|refine zV.o c2 ?_|refine zU.p c3 rfl ?_|refine zU.l c3 rfl ?_|refine zT.p c3 rfl ?_|refine zT.l c3 rfl ?_|refine zU.o c3 ?_|refine zV.p c3 rfl ?_|refine zV.l c3 rfl ?_|refine zV.o c3 ?_
  all_goals apply hr
  all_goals simp[Tryz.f39]
 rw[show decide (chk z.p=0/\(z.d.length:Int)<=128/\0<=z.v/\z.v<=1099511627776/\0<=z.k/\z.k<=1099511627776/\0<=z.o)=true from decide_eq_true ⟨q0,q1,q2,q3,q4,q5,q6⟩]
 refine zG Tryz.tab Tryz.mixed Tryz.func39 rfl rfl Tryz.ntmps39 (by simp) (by simp) fun Q hr hn=>?_
 repeat' first|((first|refine O _ ?_|refine O _ _ ?_|(clear O;refine O _ ?_));clear O)|(refine zJ fun K O=>?_)|((first|refine zH ?_|refine zN rfl (by kernel_rfl) ?_|refine zM ?_|refine zK (by kernel_rfl) ?_);simp only[vZ,vY,strip])|((first|refine wIs fun K O=>?_|refine wOs fun K O=>?_|refine wQs fun K O=>?_|refine zW ?_|refine zX ?_|refine zY ?_|refine zL ?_);simp[q0,q1,q2,q3,q4,q5,q6])|(refine wIn ?_;refine And.intro (by kernel_rfl) ?_;try simp only[zZ])|refine zQ ?_|refine zS ?_|((first|refine zI ?_|refine zO ?_|refine zP ?_);try simp)|((first|refine zR ?_|refine wOn ?_|refine wQn ?_);try simp only[zZ])|refine zU.p c1 rfl ?_|refine zU.l c1 rfl ?_|refine zT.p c1 rfl ?_|refine zT.l c1 rfl ?_|refine zU.o c1 ?_|refine zV.p c1 rfl ?_|refine zV.l c1 rfl ?_|refine zV.o c1 ?_|refine zU.p c2 rfl ?_|refine zU.l c2 rfl ?_|refine zT.p c2 rfl ?_|refine zT.l c2 rfl ?_|refine zU.o c2 ?_|refine zV.p c2 rfl ?_|refine zV.l c2 rfl ?_|refine zV.o c2 ?_|refine zU.p c3 rfl ?_|refine zU.l c3 rfl ?_|refine zT.p c3 rfl ?_|refine zT.l c3 rfl ?_|refine zU.o c3 ?_|refine zV.p c3 rfl ?_|refine zV.l c3 rfl ?_|refine zV.o c3 ?_
 all_goals apply hr
 all_goals simp[Tryz.f39]
theorem right07_con (z:Zn)(hz:long z):zD Tryz.prog 44 [.p (.agg z.c)] (.p (B (rgz z))):=by
 have c1:=check03_con z.p hz.1
 unfold rgz Zn.c
 by_cases q0:chk z.p=0
 rotate_left
 ·rw[show decide (chk z.p=0/\(z.d.length:Int)<=128/\0<=z.v/\z.v<=1099511627776/\0<=z.k/\z.k<=1099511627776/\0<=z.o)=false from decide_eq_false fun h=>q0 h.1]
  refine zG Tryz.tab Tryz.mixed Tryz.func44 rfl rfl Tryz.ntmps44 (by simp) (by simp) fun Q hr hn=>?_
  repeat' first|((first|refine O _ ?_|refine O _ _ ?_|(clear O;refine O _ ?_));clear O)|(refine zJ fun K O=>?_)|((first|refine zH ?_|refine zN rfl (by kernel_rfl) ?_|refine zM ?_|refine zK (by kernel_rfl) ?_);simp only[vZ,vY,strip])|((first|refine wIs fun K O=>?_|refine wOs fun K O=>?_|refine wQs fun K O=>?_|refine zW ?_|refine zX ?_|refine zY ?_|refine zL ?_);simp[q0])|(refine wIn ?_;refine And.intro (by kernel_rfl) ?_;try simp only[zZ])|refine zQ ?_|refine zS ?_|((first|refine zI ?_|refine zO ?_|refine zP ?_);try simp)|((first|refine zR ?_|refine wOn ?_|refine wQn ?_);try simp only[zZ])|refine zU.p c1 rfl ?_|refine zU.l c1 rfl ?_|refine zT.p c1 rfl ?_|refine zT.l c1 rfl ?_|refine zU.o c1 ?_|refine zV.p c1 rfl ?_|refine zV.l c1 rfl ?_|refine zV.o c1 ?_
  all_goals apply hr
  all_goals simp[Tryz.f44]
 by_cases q1:(z.d.length:Int)<=128
 rotate_left
 ·rw[show decide (chk z.p=0/\(z.d.length:Int)<=128/\0<=z.v/\z.v<=1099511627776/\0<=z.k/\z.k<=1099511627776/\0<=z.o)=false from decide_eq_false fun h=>q1 h.2.1]
  refine zG Tryz.tab Tryz.mixed Tryz.func44 rfl rfl Tryz.ntmps44 (by simp) (by simp) fun Q hr hn=>?_
  repeat' first|((first|refine O _ ?_|refine O _ _ ?_|(clear O;refine O _ ?_));clear O)|(refine zJ fun K O=>?_)|((first|refine zH ?_|refine zN rfl (by kernel_rfl) ?_|refine zM ?_|refine zK (by kernel_rfl) ?_);simp only[vZ,vY,strip])|((first|refine wIs fun K O=>?_|refine wOs fun K O=>?_|refine wQs fun K O=>?_|refine zW ?_|refine zX ?_|refine zY ?_|refine zL ?_);simp[q0,q1])|(refine wIn ?_;refine And.intro (by kernel_rfl) ?_;try simp only[zZ])|refine zQ ?_|refine zS ?_|((first|refine zI ?_|refine zO ?_|refine zP ?_);try simp)|((first|refine zR ?_|refine wOn ?_|refine wQn ?_);try simp only[zZ])|refine zU.p c1 rfl ?_|refine zU.l c1 rfl ?_|refine zT.p c1 rfl ?_|refine zT.l c1 rfl ?_|refine zU.o c1 ?_|refine zV.p c1 rfl ?_|refine zV.l c1 rfl ?_|refine zV.o c1 ?_
  all_goals apply hr
  all_goals simp[Tryz.f44]
 by_cases q2:0<=z.v
 rotate_left
 ·rw[show decide (chk z.p=0/\(z.d.length:Int)<=128/\0<=z.v/\z.v<=1099511627776/\0<=z.k/\z.k<=1099511627776/\0<=z.o)=false from decide_eq_false fun h=>q2 h.2.2.1]
  refine zG Tryz.tab Tryz.mixed Tryz.func44 rfl rfl Tryz.ntmps44 (by simp) (by simp) fun Q hr hn=>?_
  repeat' first|((first|refine O _ ?_|refine O _ _ ?_|(clear O;refine O _ ?_));clear O)|(refine zJ fun K O=>?_)|((first|refine zH ?_|refine zN rfl (by kernel_rfl) ?_|refine zM ?_|refine zK (by kernel_rfl) ?_);simp only[vZ,vY,strip])|((first|refine wIs fun K O=>?_|refine wOs fun K O=>?_|refine wQs fun K O=>?_|refine zW ?_|refine zX ?_|refine zY ?_|refine zL ?_);simp[q0,q1,q2])|(refine wIn ?_;refine And.intro (by kernel_rfl) ?_;try simp only[zZ])|refine zQ ?_|refine zS ?_|((first|refine zI ?_|refine zO ?_|refine zP ?_);try simp)|((first|refine zR ?_|refine wOn ?_|refine wQn ?_);try simp only[zZ])|refine zU.p c1 rfl ?_|refine zU.l c1 rfl ?_|refine zT.p c1 rfl ?_|refine zT.l c1 rfl ?_|refine zU.o c1 ?_|refine zV.p c1 rfl ?_|refine zV.l c1 rfl ?_|refine zV.o c1 ?_
  all_goals apply hr
  all_goals simp[Tryz.f44]
 by_cases q3:z.v<=1099511627776
 rotate_left
 ·rw[show decide (chk z.p=0/\(z.d.length:Int)<=128/\0<=z.v/\z.v<=1099511627776/\0<=z.k/\z.k<=1099511627776/\0<=z.o)=false from decide_eq_false fun h=>q3 h.2.2.2.1]
  refine zG Tryz.tab Tryz.mixed Tryz.func44 rfl rfl Tryz.ntmps44 (by simp) (by simp) fun Q hr hn=>?_
  repeat' first|((first|refine O _ ?_|refine O _ _ ?_|(clear O;refine O _ ?_));clear O)|(refine zJ fun K O=>?_)|((first|refine zH ?_|refine zN rfl (by kernel_rfl) ?_|refine zM ?_|refine zK (by kernel_rfl) ?_);simp only[vZ,vY,strip])|((first|refine wIs fun K O=>?_|refine wOs fun K O=>?_|refine wQs fun K O=>?_|refine zW ?_|refine zX ?_|refine zY ?_|refine zL ?_);simp[q0,q1,q2,q3])|(refine wIn ?_;refine And.intro (by kernel_rfl) ?_;try simp only[zZ])|refine zQ ?_|refine zS ?_|((first|refine zI ?_|refine zO ?_|refine zP ?_);try simp)|((first|refine zR ?_|refine wOn ?_|refine wQn ?_);try simp only[zZ])|refine zU.p c1 rfl ?_|refine zU.l c1 rfl ?_|refine zT.p c1 rfl ?_|refine zT.l c1 rfl ?_|refine zU.o c1 ?_|refine zV.p c1 rfl ?_|refine zV.l c1 rfl ?_|refine zV.o c1 ?_
  all_goals apply hr
  all_goals simp[Tryz.f44]
 by_cases q4:0<=z.k
 rotate_left
 ·rw[show decide (chk z.p=0/\(z.d.length:Int)<=128/\0<=z.v/\z.v<=1099511627776/\0<=z.k/\z.k<=1099511627776/\0<=z.o)=false from decide_eq_false fun h=>q4 h.2.2.2.2.1]
  refine zG Tryz.tab Tryz.mixed Tryz.func44 rfl rfl Tryz.ntmps44 (by simp) (by simp) fun Q hr hn=>?_
  repeat' first|((first|refine O _ ?_|refine O _ _ ?_|(clear O;refine O _ ?_));clear O)|(refine zJ fun K O=>?_)|((first|refine zH ?_|refine zN rfl (by kernel_rfl) ?_|refine zM ?_|refine zK (by kernel_rfl) ?_);simp only[vZ,vY,strip])|((first|refine wIs fun K O=>?_|refine wOs fun K O=>?_|refine wQs fun K O=>?_|refine zW ?_|refine zX ?_|refine zY ?_|refine zL ?_);simp[q0,q1,q2,q3,q4])|(refine wIn ?_;refine And.intro (by kernel_rfl) ?_;try simp only[zZ])|refine zQ ?_|refine zS ?_|((first|refine zI ?_|refine zO ?_|refine zP ?_);try simp)|((first|refine zR ?_|refine wOn ?_|refine wQn ?_);try simp only[zZ])|refine zU.p c1 rfl ?_|refine zU.l c1 rfl ?_|refine zT.p c1 rfl ?_|refine zT.l c1 rfl ?_|refine zU.o c1 ?_|refine zV.p c1 rfl ?_|refine zV.l c1 rfl ?_|refine zV.o c1 ?_
  all_goals apply hr
  all_goals simp[Tryz.f44]
 by_cases q5:z.k<=1099511627776
 rotate_left
 ·rw[show decide (chk z.p=0/\(z.d.length:Int)<=128/\0<=z.v/\z.v<=1099511627776/\0<=z.k/\z.k<=1099511627776/\0<=z.o)=false from decide_eq_false fun h=>q5 h.2.2.2.2.2.1]
  refine zG Tryz.tab Tryz.mixed Tryz.func44 rfl rfl Tryz.ntmps44 (by simp) (by simp) fun Q hr hn=>?_
  repeat' first|((first|refine O _ ?_|refine O _ _ ?_|(clear O;refine O _ ?_));clear O)|(refine zJ fun K O=>?_)|((first|refine zH ?_|refine zN rfl (by kernel_rfl) ?_|refine zM ?_|refine zK (by kernel_rfl) ?_);simp only[vZ,vY,strip])|((first|refine wIs fun K O=>?_|refine wOs fun K O=>?_|refine wQs fun K O=>?_|refine zW ?_|refine zX ?_|refine zY ?_|refine zL ?_);simp[q0,q1,q2,q3,q4,q5])|(refine wIn ?_;refine And.intro (by kernel_rfl) ?_;try simp only[zZ])|refine zQ ?_|refine zS ?_|((first|refine zI ?_|refine zO ?_|refine zP ?_);try simp)|((first|refine zR ?_|refine wOn ?_|refine wQn ?_);try simp only[zZ])|refine zU.p c1 rfl ?_|refine zU.l c1 rfl ?_|refine zT.p c1 rfl ?_|refine zT.l c1 rfl ?_|refine zU.o c1 ?_|refine zV.p c1 rfl ?_|refine zV.l c1 rfl ?_|refine zV.o c1 ?_
  all_goals apply hr
  all_goals simp[Tryz.f44]
 by_cases q6:0<=z.o
 rotate_left
 ·rw[show decide (chk z.p=0/\(z.d.length:Int)<=128/\0<=z.v/\z.v<=1099511627776/\0<=z.k/\z.k<=1099511627776/\0<=z.o)=false from decide_eq_false fun h=>q6 h.2.2.2.2.2.2]
  refine zG Tryz.tab Tryz.mixed Tryz.func44 rfl rfl Tryz.ntmps44 (by simp) (by simp) fun Q hr hn=>?_
  repeat' first|((first|refine O _ ?_|refine O _ _ ?_|(clear O;refine O _ ?_));clear O)|(refine zJ fun K O=>?_)|((first|refine zH ?_|refine zN rfl (by kernel_rfl) ?_|refine zM ?_|refine zK (by kernel_rfl) ?_);simp only[vZ,vY,strip])|((first|refine wIs fun K O=>?_|refine wOs fun K O=>?_|refine wQs fun K O=>?_|refine zW ?_|refine zX ?_|refine zY ?_|refine zL ?_);simp[q0,q1,q2,q3,q4,q5,q6])|(refine wIn ?_;refine And.intro (by kernel_rfl) ?_;try simp only[zZ])|refine zQ ?_|refine zS ?_|((first|refine zI ?_|refine zO ?_|refine zP ?_);try simp)|((first|refine zR ?_|refine wOn ?_|refine wQn ?_);try simp only[zZ])|refine zU.p c1 rfl ?_|refine zU.l c1 rfl ?_|refine zT.p c1 rfl ?_|refine zT.l c1 rfl ?_|refine zU.o c1 ?_|refine zV.p c1 rfl ?_|refine zV.l c1 rfl ?_|refine zV.o c1 ?_
  all_goals apply hr
  all_goals simp[Tryz.f44]
 rw[show decide (chk z.p=0/\(z.d.length:Int)<=128/\0<=z.v/\z.v<=1099511627776/\0<=z.k/\z.k<=1099511627776/\0<=z.o)=true from decide_eq_true ⟨q0,q1,q2,q3,q4,q5,q6⟩]
 refine zG Tryz.tab Tryz.mixed Tryz.func44 rfl rfl Tryz.ntmps44 (by simp) (by simp) fun Q hr hn=>?_
 repeat' first|((first|refine O _ ?_|refine O _ _ ?_|(clear O;refine O _ ?_));clear O)|(refine zJ fun K O=>?_)|((first|refine zH ?_|refine zN rfl (by kernel_rfl) ?_|refine zM ?_|refine zK (by kernel_rfl) ?_);simp only[vZ,vY,strip])|((first|refine wIs fun K O=>?_|refine wOs fun K O=>?_|refine wQs fun K O=>?_|refine zW ?_|refine zX ?_|refine zY ?_|refine zL ?_);simp[q0,q1,q2,q3,q4,q5,q6])|(refine wIn ?_;refine And.intro (by kernel_rfl) ?_;try simp only[zZ])|refine zQ ?_|refine zS ?_|((first|refine zI ?_|refine zO ?_|refine zP ?_);try simp)|((first|refine zR ?_|refine wOn ?_|refine wQn ?_);try simp only[zZ])|refine zU.p c1 rfl ?_|refine zU.l c1 rfl ?_|refine zT.p c1 rfl ?_|refine zT.l c1 rfl ?_|refine zU.o c1 ?_|refine zV.p c1 rfl ?_|refine zV.l c1 rfl ?_|refine zV.o c1 ?_
 all_goals apply hr
 all_goals simp[Tryz.f44]
def hld (l:List Zn)(z:Zn):Bool:=(par z.p).2 && ((fnd l (par z.p).1).2 && decide ((fnd l (par z.p).1).1.o=0))
theorem held_con (l:List Zn)(z:Zn)(hz:long z):zD Tryz.prog 40 [.p (.sl 5 (zns l)),.p (.agg z.c)] (.p (B (hld l z))):=by
 have c1:=parent_con z.p hz.1
 rw[parV_par] at c1
 have c2:=find_con l (par z.p).1
 unfold hld
 generalize par z.p=q at c1 c2 ⊢
 obtain⟨q,b⟩:=q
 dsimp only at c1 c2 ⊢
 generalize fnd l q=r at c2 ⊢
 obtain⟨r,d⟩:=r
 dsimp only at c2 ⊢
 unfold Zn.c at c2 ⊢
 cases b
 ·refine zG Tryz.tab Tryz.mixed Tryz.func40 rfl rfl Tryz.ntmps40 (by simp) (by simp) fun Q hr hn=>?_
  repeat' first|((first|refine O _ ?_|refine O _ _ ?_|(clear O;refine O _ ?_));clear O)|(refine zJ fun K O=>?_)|((first|refine zH ?_|refine zN rfl (by kernel_rfl) ?_|refine zM ?_|refine zK (by kernel_rfl) ?_);simp only[vZ,vY,strip])|((first|refine wIs fun K O=>?_|refine wOs fun K O=>?_|refine wQs fun K O=>?_|refine zW ?_|refine zX ?_|refine zY ?_|refine zL ?_);simp)|(refine wIn ?_;refine And.intro (by kernel_rfl) ?_;try simp only[zZ])|refine zQ ?_|refine zS ?_|((first|refine zI ?_|refine zO ?_|refine zP ?_);try simp)|((first|refine zR ?_|refine wOn ?_|refine wQn ?_);try simp only[zZ])|refine zU.p c1 rfl ?_|refine zU.l c1 rfl ?_|refine zT.p c1 rfl ?_|refine zT.l c1 rfl ?_|refine zU.o c1 ?_|refine zV.p c1 rfl ?_|refine zV.l c1 rfl ?_|refine zV.o c1 ?_
  all_goals apply hr
  all_goals simp[Tryz.f40]
 cases d
 ·refine zG Tryz.tab Tryz.mixed Tryz.func40 rfl rfl Tryz.ntmps40 (by simp) (by simp) fun Q hr hn=>?_
  repeat' first|((first|refine O _ ?_|refine O _ _ ?_|(clear O;refine O _ ?_));clear O)|(refine zJ fun K O=>?_)|((first|refine zH ?_|refine zN rfl (by kernel_rfl) ?_|refine zM ?_|refine zK (by kernel_rfl) ?_);simp only[vZ,vY,strip])|((first|refine wIs fun K O=>?_|refine wOs fun K O=>?_|refine wQs fun K O=>?_|refine zW ?_|refine zX ?_|refine zY ?_|refine zL ?_);simp)|(refine wIn ?_;refine And.intro (by kernel_rfl) ?_;try simp only[zZ])|refine zQ ?_|refine zS ?_|((first|refine zI ?_|refine zO ?_|refine zP ?_);try simp)|((first|refine zR ?_|refine wOn ?_|refine wQn ?_);try simp only[zZ])|refine zU.p c1 rfl ?_|refine zU.l c1 rfl ?_|refine zT.p c1 rfl ?_|refine zT.l c1 rfl ?_|refine zU.o c1 ?_|refine zV.p c1 rfl ?_|refine zV.l c1 rfl ?_|refine zV.o c1 ?_|refine zU.p c2 rfl ?_|refine zU.l c2 rfl ?_|refine zT.p c2 rfl ?_|refine zT.l c2 rfl ?_|refine zU.o c2 ?_|refine zV.p c2 rfl ?_|refine zV.l c2 rfl ?_|refine zV.o c2 ?_
  all_goals apply hr
  all_goals simp[Tryz.f40]
 by_cases h:r.o=0
 all_goals refine zG Tryz.tab Tryz.mixed Tryz.func40 rfl rfl Tryz.ntmps40 (by simp) (by simp) fun Q hr hn=>?_
 all_goals repeat' first|((first|refine O _ ?_|refine O _ _ ?_|(clear O;refine O _ ?_));clear O)|(refine zJ fun K O=>?_)|((first|refine zH ?_|refine zN rfl (by kernel_rfl) ?_|refine zM ?_|refine zK (by kernel_rfl) ?_);simp only[vZ,vY,strip])|((first|refine wIs fun K O=>?_|refine wOs fun K O=>?_|refine wQs fun K O=>?_|refine zW ?_|refine zX ?_|refine zY ?_|refine zL ?_);simp[h])|(refine wIn ?_;refine And.intro (by kernel_rfl) ?_;try simp only[zZ])|refine zQ ?_|refine zS ?_|((first|refine zI ?_|refine zO ?_|refine zP ?_);try simp)|((first|refine zR ?_|refine wOn ?_|refine wQn ?_);try simp only[zZ])|refine zU.p c1 rfl ?_|refine zU.l c1 rfl ?_|refine zT.p c1 rfl ?_|refine zT.l c1 rfl ?_|refine zU.o c1 ?_|refine zV.p c1 rfl ?_|refine zV.l c1 rfl ?_|refine zV.o c1 ?_|refine zU.p c2 rfl ?_|refine zU.l c2 rfl ?_|refine zT.p c2 rfl ?_|refine zT.l c2 rfl ?_|refine zU.o c2 ?_|refine zV.p c2 rfl ?_|refine zV.l c2 rfl ?_|refine zV.o c2 ?_
 all_goals apply hr
 all_goals simp[Tryz.f40,h]
end Go.Proofs.YtedbbcmokbogpaaGreatDoor
