import Derived.Test.YtlbpnlngckgcbaaGreatDoorM24
import Derived.Test.YtlbpnlngckgcbaaGreatDoorM26
set_option linter.all false
set_option maxHeartbeats 4000000
set_option maxRecDepth 100000
namespace Go.Proofs.YtlbpnlngckgcbaaGreatDoor
open Go.RowKit Go.PlainAid Go.Proofs.Tryz
variable {l l2:List ae} {m i base g n c q:Nat} {w:af} {x:ae}
def oO(a:List ae)(x:ae):List ae:=if a.getLast? =some x then a else a++[x]
def iw(l:List ae):List ae:=l.foldl oO []
def Fa(l x):iw (l++[x])=oO (iw l) x:=by simp [iw]
def MW(a x):(oO a x).getLast? =some x:=by
 unfold oO
 split
 ·assumption
 simp
def SJ(l x):(iw (l++[x])).getLast? =some x:=by rw [Fa,MW]
def V2(l:List ae):∀a:List ae,(l.foldl oO a).length<=a.length+l.length:=by
 induction l with
 |nil=>intro a;simp
 |cons x l ih=>
  intro a;rw [List.foldl_cons,iK];have:=ih (oO a x);have h2:(oO a x).length<=a.length+1:=by
   unfold oO
   split<;>simp
  omega
def xc(C:m+1<l.length):iw (l.take (m+2))=if l[m]=l[m+1] then iw (l.take (m+1)) else iw (l.take (m+1))++[l[m+1]]:=by
 have e1:l.take (m+2)=l.take (m+1)++[l[m+1]]:=cD C;have A:l.take (m+1)=l.take m++[l[m]]:=cD ai;rw [e1,Fa];unfold oO;rw [show (iw (l.take (m+1))).getLast? =some l[m] from by rw [A];exact SJ _ _];simp only [aR]
structure XL(l l2:List ae)(i m:Nat):Prop where
 len:l2.length=l.length
 out:l2.take i=iw (l.take m)
 il:i=(iw (l.take m)).length
 lt:i<m
 old:∀q,m<=q+1->l2[q]? =l[q]?
def XL.keep(h:XL l l2 i (m+1))(C:m+1<l.length)(A:l[m]=l[m+1]):XL l l2 i (m+2):=by
 have e:=xc C;rw [if_pos A] at e;exact ⟨h.len,by rw [e];exact h.out,by rw [e];exact h.il,by have:=h.lt;omega,fun q D=>h.old q ai⟩
def XL.put(h:XL l l2 i (m+1))(C:m+1<l.length)(A:¬l[m]=l[m+1]):XL l (l2.set i l[m+1]) (i+1) (m+2):=by
 have e:=xc C;rw [if_neg A] at e;have hi:=h.lt;have hl:=h.len;refine ⟨by rw [fU];exact hl,?_,by rw [e,bg,<-h.il];rfl,ai,fun q D=> ?_⟩
 ·rw [e,<-h.out,cD (by rw [fU];omega),jC,List.take_set_of_le aH]
 rw [List.getElem?_set_ne ai];exact h.old q ai
def V3(l:List ae)(i:Nat)(x:ae):(dM l).set i (aj x)=dM (l.set i x):=by
 unfold dM;rw [List.map_set]
def jt(h:w.ownsRow base 9 1 (aw (some (aN g)) n c) n (dM l))(A:l[q]? =some x):w.cell? (aC g q)=some (aj x):=by
 obtain ⟨g',C,e,hc⟩:=aZ h q (aj x) (by unfold dM;rw [List.getElem?_map,A];rfl);simp only [aK,aR,cg,fY] at e;obtain ⟨rfl,_,_⟩:=e;exact hc
def MX(h:w.ownsRow base 9 1 (aw (some (aN g)) n c) n (dM l2))(hi:i<n):
  (∀ty,(Builtin.clear_ #[22] ty #[aw (some (aC g i)) (n-i) (c-i)]).run prog w=.ok (.tuple #[]) (w.setCells g i (List.replicate (n-i) (aj ⟨#[]⟩))))/\(w.setCells g i (List.replicate (n-i) (aj ⟨#[]⟩))).ownsRow base 9 1 (aw (some (aN g)) i c) i (dM (l2.take i))/\bK (fun k=>k=g) w (w.setCells g i (List.replicate (n-i) (aj ⟨#[]⟩))):=by
 obtain ⟨Z,h2⟩:=h
 rcases h2 with ⟨h,_⟩|⟨g',ad,C,e1,V,Y,h1,h2,R,U⟩
 ·cases h
 ·simp only [aK,aR,cg] at e1;obtain ⟨⟨rfl,_,_⟩,_,rfl⟩:=e1;have A:aL w g C 9:=Y;refine ⟨fun ty=>Lib.run_clear_slice w _ _ ty (aj ⟨#[]⟩) underlying22 (fun w=>aM) rfl rfl g i (n-i) (c-i) ai (fun j ae=>by rw [A.cell (o:=i+j) (AO ai)];rfl) (fun j _=>A.fz _),?_,?_⟩
  ·obtain ⟨I,D,ac,J⟩:=jT (List.replicate (n-i) (aj ⟨#[]⟩)) i w C A (by rw [vt];omega);have ab:(dM l2).length=n:=by rw [Z];omega
   have af:l2.length=n:=by rw [<-ab];simp [dM]
   refine ⟨by simp [dM];omega,.inr ⟨g,c,I,rfl,V,D,ai,h2,by rw [ac];exact R,?_⟩⟩;rw [J,ct,rP (by rw [dZ,rh];omega)];have Q:dM (l2.take i)=(dM l2).take i:=by unfold dM;rw [List.map_take]
   rw [Q,<-U,List.take_take]
   congr 1
   omega
  have:=But.setCells (List.replicate (n-i) (aj ⟨#[]⟩)) i w (But.refl g w);exact .of_but this rfl
def B9(base g n c:Nat)(l:List ae)(w:af)(e:Ending)(w':af):Prop:=e=bj (aw (some (aN g)) (iw l).length c)/\w'.ownsRow base 9 1 (aw (some (aN g)) (iw l).length c) (iw l).length (dM (iw l))/\bK (fun k=>k=g) w w'
def Fb(base g n c:Nat)(l:List ae)(w:af)(h:w.ownsRow base 9 1 (aw (some (aN g)) n c) n (dM l))(J:l.length=n)(bg:n<=100000)(a3:n<=c):
  Calls prog 67 #[aw (some (aN g)) n c] w (B9 base g n c l w):=by
 obtain ⟨aY,a1,a5⟩:=dF h
 by_cases h2:n<2
 ·have aJ:(n:Int)<2:=by omega
  have U:=(show iw l=l from by
   have:=J
   match l,this with
   | [],_=>rfl
   | [a],_=>simp [iw,oO]
   |a::b::l,h=>simp at h;omega)
  go_enter func67,ntmps67;go_wp2;go_ret;unfold B9;rw [U,J];exact ⟨rfl,h,bK.refl _ _⟩
 ·have aJ:¬((n:Int)<2):=by omega
  go_enter func67,ntmps67;go_wp2_with fail
  go_loopw [3] (fun u wr=>∃k:Nat,u=ar k/\1<=k/\k<=n/\an w wr/\(iw (l.take k)=l.take k)) (fun u _=>n-(intOf u).toNat)
  ·exact ⟨1,rfl,ai,ai,aA _ _,(by
   have:=J
   match l,this with
   | [],h=>simp at h;omega
   |a::l,_=>simp [iw,oO])⟩
  obtain ⟨k,rfl,a8,a7,Q,R⟩:=hrel
  by_cases bc:k<n
  ·have aM:(k:Int)<(n:Int):=by omega
   obtain ⟨m,rfl⟩:∃m,k=m+1:=⟨k-1,ai⟩;have A:=aB h Q;have av:=jt A (aI (show m+1<l.length by omega));have aS:=jt A (aI (show m<l.length by omega));have ak:=xc (show m+1<l.length by omega);have aG:=(cD ai:l.take (m+2)=l.take (m+1)++[l[m+1]]);generalize l[m+1]=y at*;generalize l[m]=x at*
   by_cases D:y=x
   ·go_wp2_with fail
    go_quiet (fail)
    have az:=(show XL l l (m+1) (m+1+1) from by
     have e:iw (l.take (m+2))=l.take (m+1):=by rw [ak,if_pos D.symm,R]
     exact ⟨rfl,e.symm,by rw [e,dZ];omega,ai,fun _ _=>rfl⟩)
    have ac:=cJ Q nq;have aF:=aB h ac;have e1:n-(m+1)<=n:=ai;go_wp2_with fail;generalize wr.drewN nq=aV at*;obtain ⟨bn,bh⟩:∃a,a=n-(m+1):=⟨_,rfl⟩
    go_loopw [3,5] (fun aR ab au=>∃(i I:Nat)(l2:List ae),aR=ar i/\ab=ar I/\1<=I/\m+1+I<=n/\bK (fun k=>k=g) w au/\au.ownsRow base 9 1 (aw (some (aN g)) n c) n (dM l2)/\(XL l l2 i (m+1+I))) (fun _ ab _=>n-(intOf ab).toNat)
    ·exact ⟨m+1,1,l,by go_num,rfl,ai,ai,.of_below ac,aF,az⟩
    obtain ⟨i,I,l2,rfl,rfl,a9,ba,Z,A,C⟩:=hrel;obtain ⟨p,rfl⟩:∃p,I=p+1:=⟨I-1,ai⟩;have a6:=C.lt;obtain ⟨aZ,a2,_⟩:=dF A
    by_cases be:m+1+(p+1)<n
    ·have aU:l2[m+1+(p+1)]? =some l[m+1+(p+1)]:=(C.old _ ai).trans (aI ai);have aT:l2[m+1+p]? =some l[m+1+p]:=(C.old _ ai).trans (aI ai);have av:=jt A aU;have aS:=jt A aT;have aH:((p:Int)+1)<((n-(m+1):Nat):Int):=ai;have aX:(p:Int)<((n-(m+1):Nat):Int):=ai;have ad:=fun (e:l[m+1+p]=l[m+1+(p+1)])=>C.keep (m:=m+1+p) ai e
     have ag:=fun (e:¬l[m+1+p]=l[m+1+(p+1)])=>C.put (m:=m+1+p) ai e
     have bb:=C.len;have ax:=jt A (aI (show i<l2.length by omega));generalize l2[i]'_=bo at ax;have aO:m+1+p+1=m+1+(p+1):=rfl;simp only [aO] at ad ag;generalize l[m+1+(p+1)]=y at*;generalize l[m+1+p]=x at*;have aQ:(i:Int)<(n:Int):=ai
     by_cases D:y=x
     ·go_wp2_with fail
      go_quiet (fail)
      go_wp2;go_roundw
      ·exact ⟨i,p+1+1,l2,rfl,by go_num,ai,ai,Z.drewN nq,aB A (cJ bp nq),(ad D.symm)⟩
      simp [intOf];omega
     have aP:=Kh D;go_wp2_with fail
     go_quiet (fail)
     have V:=cJ (aA wr.heap.size wr) nq;have aC:=ag (fun e=>D e.symm);have ah:=aB A V;have ay:=Z.drewN nq;have v1:=am av V;have bq:=am ax V;obtain ⟨a0,aK,_⟩:=dF ah;have bi:=aK.fz;generalize wr.drewN nq=aW at*;go_wp2;go_roundw
     ·exact ⟨i+1,p+1+1,_,by go_num,by go_num,ai,ai,ay.set rfl _,by
      have:=oj ah i (aj y);rw [V3] at this;exact this,aC⟩
     simp [intOf];omega
    obtain ⟨a4,ap,aL⟩:=MX (i:=i) A ai;have aE:=(show B9 base g n c l w (bj (aw (some (aN g)) i c)) (wr.setCells g i (List.replicate (n-i) (aj ⟨#[]⟩))) from by
     have e:iw (l.take (m+1+(p+1)))=iw l:=by rw [cY (by rw [J];omega)]
     have al:=C.out;have Y:=C.il;rw [e] at al Y;rw [al] at ap;refine ⟨by rw [<-Y],?_,Z.trans aL⟩;rw [<-Y];exact ap)
    have aH:¬(((p:Int)+1)<((n-(m+1):Nat):Int)):=ai;have aQ:(i:Int)<=(n:Int):=ai;have bk:i<=c:=ai;have bl:¬(c=i):=ai;go_wp2;go_ret;exact aE
   have aP:=Kh D;go_wp2_with fail
   go_quiet (fail)
   go_wp2;go_roundw
   ·exact ⟨m+1+1,by go_num,ai,ai,(cJ Q nq),(by rw [ak,if_neg (fun e=>D e.symm),R,aG]:iw (l.take (m+1+1))=l.take (m+1+1))⟩
   simp [intOf];omega
  have aM:¬((k:Int)<(n:Int)):=ai;have U:=(show iw l=l from by
   have:=R;rw [cY (by rw [J];omega)] at this;exact this)
  go_wp2;go_ret;unfold B9;rw [U,J];exact ⟨rfl,aB h Q,.of_below Q⟩
