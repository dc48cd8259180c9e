import Derived.Test.YtlbpnlngckgcbaaGreatDoorM24
import Derived.Test.YtlbpnlngckgcbaaGreatDoorM26
set_option linter.all false
set_option maxHeartbeats 4000000
set_option maxRecDepth 100000
namespace Go.Proofs.YtlbpnlngckgcbaaGreatDoor
open Go.RowKit Go.PlainAid Go.Proofs.Tryz
variable {l l2:List ae} {m i base g n c q:Nat} {w:af} {x:ae}
def o4(a:List ae)(x:ae):List ae:=if a.getLast? =some x then a else a++[x]
def iB(l:List ae):List ae:=l.foldl o4 []
def FH(l x):iB (l++[x])=o4 (iB l) x:=by simp [iB]
def Nv(a x):(o4 a x).getLast? =some x:=by
 unfold o4
 split
 ·assumption
 simp
def Te(l x):(iB (l++[x])).getLast? =some x:=by rw [FH,Nv]
def Wu(l:List ae):∀a:List ae,(l.foldl o4 a).length<=a.length+l.length:=by
 induction l with
 |nil=>intro a;simp
 |cons x l ih=>
  intro a;rw [List.foldl_cons,iO];have:=ih (o4 a x);have h2:(o4 a x).length<=a.length+1:=by
   unfold o4
   split<;>simp
  omega
def xK(C:m+1<l.length):iB (l.take (m+2))=if l[m]=l[m+1] then iB (l.take (m+1)) else iB (l.take (m+1))++[l[m+1]]:=by
 have e1:l.take (m+2)=l.take (m+1)++[l[m+1]]:=cD C;have A:l.take (m+1)=l.take m++[l[m]]:=cD ai;rw [e1,FH];unfold o4;rw [show (iB (l.take (m+1))).getLast? =some l[m] from by rw [A];exact Te _ _];simp only [aR]
structure Yf(l l2:List ae)(i m:Nat):Prop where
 len:l2.length=l.length
 out:l2.take i=iB (l.take m)
 il:i=(iB (l.take m)).length
 lt:i<m
 old:∀q,m<=q+1->l2[q]? =l[q]?
def Yf.keep(h:Yf l l2 i (m+1))(C:m+1<l.length)(A:l[m]=l[m+1]):Yf l l2 i (m+2):=by
 have e:=xK C;rw [if_pos A] at e;exact ⟨h.len,by rw [e];exact h.out,by rw [e];exact h.il,by have:=h.lt;omega,fun q D=>h.old q ai⟩
def Yf.put(h:Yf l l2 i (m+1))(C:m+1<l.length)(A:¬l[m]=l[m+1]):Yf l (l2.set i l[m+1]) (i+1) (m+2):=by
 have e:=xK C;rw [if_neg A] at e;have hi:=h.lt;have hl:=h.len;refine ⟨by rw [fV];exact hl,?_,by rw [e,bf,<-h.il];rfl,ai,fun q D=> ?_⟩
 ·rw [e,<-h.out,cD (by rw [fV];omega),jF,List.take_set_of_le aH]
 rw [List.getElem?_set_ne ai];exact h.old q ai
def Wv(l:List ae)(i:Nat)(x:ae):(dO l).set i (an x)=dO (l.set i x):=by
 unfold dO;rw [List.map_set]
def jw(h:w.ownsRow base 9 1 (aA (some (aP g)) n c) n (dO l))(A:l[q]? =some x):w.cell? (aC g q)=some (an x):=by
 obtain ⟨g',C,e,hc⟩:=aY h q (an x) (by unfold dO;rw [List.getElem?_map,A];rfl);simp only [aK,aR,cg,fZ] at e;obtain ⟨rfl,_,_⟩:=e;exact hc
def Nw(h:w.ownsRow base 9 1 (aA (some (aP g)) n c) n (dO l2))(hi:i<n):
  (∀ty,(Builtin.clear_ #[22] ty #[aA (some (aC g i)) (n-i) (c-i)]).run prog w=.ok (.tuple #[]) (w.setCells g i (List.replicate (n-i) (an ⟨#[]⟩))))/\(w.setCells g i (List.replicate (n-i) (an ⟨#[]⟩))).ownsRow base 9 1 (aA (some (aP g)) i c) i (dO (l2.take i))/\bK (fun k=>k=g) w (w.setCells g i (List.replicate (n-i) (an ⟨#[]⟩))):=by
 obtain ⟨Z,h2⟩:=h
 rcases h2 with ⟨h,_⟩|⟨g',ad,C,e1,V,Y,h1,h2,R,U⟩
 ·cases h
 ·simp only [aK,aR,cg] at e1;obtain ⟨⟨rfl,_,_⟩,_,rfl⟩:=e1;have A:aL w g C 9:=Y;refine ⟨fun ty=>Lib.run_clear_slice w _ _ ty (an ⟨#[]⟩) underlying22 (fun w=>aM) rfl rfl g i (n-i) (c-i) ai (fun j ae=>by rw [A.cell (o:=i+j) (Bo ai)];rfl) (fun j _=>A.fz _),?_,?_⟩
  ·obtain ⟨I,D,ac,J⟩:=jW (List.replicate (n-i) (an ⟨#[]⟩)) i w C A (by rw [vV];omega);have ab:(dO l2).length=n:=by rw [Z];omega
   have af:l2.length=n:=by rw [<-ab];simp [dO]
   refine ⟨by simp [dO];omega,.inr ⟨g,c,I,rfl,V,D,ai,h2,by rw [ac];exact R,?_⟩⟩;rw [J,ct,sq (by rw [eb,rS];omega)];have Q:dO (l2.take i)=(dO l2).take i:=by unfold dO;rw [List.map_take]
   rw [Q,<-U,List.take_take]
   congr 1
   omega
  have:=But.setCells (List.replicate (n-i) (an ⟨#[]⟩)) i w (But.refl g w);exact .of_but this rfl
def CF(base g n c:Nat)(l:List ae)(w:af)(e:Ending)(w':af):Prop:=e=bi (aA (some (aP g)) (iB l).length c)/\w'.ownsRow base 9 1 (aA (some (aP g)) (iB l).length c) (iB l).length (dO (iB l))/\bK (fun k=>k=g) w w'
def FI(base g n c:Nat)(l:List ae)(w:af)(h:w.ownsRow base 9 1 (aA (some (aP g)) n c) n (dO l))(J:l.length=n)(bg:n<=100000)(a3:n<=c):
  Calls prog 67 #[aA (some (aP g)) n c] w (CF base g n c l w):=by
 obtain ⟨aY,a1,a5⟩:=dG h
 by_cases h2:n<2
 ·have aJ:(n:Int)<2:=by omega
  have U:=(show iB l=l from by
   have:=J
   match l,this with
   | [],_=>rfl
   | [a],_=>simp [iB,o4]
   |a::b::l,h=>simp at h;omega)
  go_enter func67,ntmps67;go_wp2;go_ret;unfold CF;rw [U,J];exact ⟨rfl,h,bK.refl _ _⟩
 ·have aJ:¬((n:Int)<2):=by omega
  go_enter func67,ntmps67;go_wp2_with fail
  go_loopw [3] (fun u wr=>∃k:Nat,u=au k/\1<=k/\k<=n/\am w wr/\(iB (l.take k)=l.take k)) (fun u _=>n-(intOf u).toNat)
  ·exact ⟨1,rfl,ai,ai,az _ _,(by
   have:=J
   match l,this with
   | [],h=>simp at h;omega
   |a::l,_=>simp [iB,o4])⟩
  obtain ⟨k,rfl,a8,a7,Q,R⟩:=hrel
  by_cases bc:k<n
  ·have aM:(k:Int)<(n:Int):=by omega
   obtain ⟨m,rfl⟩:∃m,k=m+1:=⟨k-1,ai⟩;have A:=aB h Q;have av:=jw A (aI (show m+1<l.length by omega));have aS:=jw A (aI (show m<l.length by omega));have aj:=xK (show m+1<l.length by omega);have aG:=(cD ai:l.take (m+2)=l.take (m+1)++[l[m+1]]);generalize l[m+1]=y at*;generalize l[m]=x at*
   by_cases D:y=x
   ·go_wp2_with fail
    go_quiet (fail)
    have ay:=(show Yf l l (m+1) (m+1+1) from by
     have e:iB (l.take (m+2))=l.take (m+1):=by rw [aj,if_pos D.symm,R]
     exact ⟨rfl,e.symm,by rw [e,eb];omega,ai,fun _ _=>rfl⟩)
    have ac:=cJ Q nq;have aF:=aB h ac;have e1:n-(m+1)<=n:=ai;go_wp2_with fail;generalize wr.drewN nq=aV at*;obtain ⟨bn,bh⟩:∃a,a=n-(m+1):=⟨_,rfl⟩
    go_loopw [3,5] (fun aR ab ar=>∃(i I:Nat)(l2:List ae),aR=au i/\ab=au I/\1<=I/\m+1+I<=n/\bK (fun k=>k=g) w ar/\ar.ownsRow base 9 1 (aA (some (aP g)) n c) n (dO l2)/\(Yf l l2 i (m+1+I))) (fun _ ab _=>n-(intOf ab).toNat)
    ·exact ⟨m+1,1,l,by go_num,rfl,ai,ai,.of_below ac,aF,ay⟩
    obtain ⟨i,I,l2,rfl,rfl,a9,ba,Z,A,C⟩:=hrel;obtain ⟨p,rfl⟩:∃p,I=p+1:=⟨I-1,ai⟩;have a6:=C.lt;obtain ⟨aZ,a2,_⟩:=dG A
    by_cases bf:m+1+(p+1)<n
    ·have aU:l2[m+1+(p+1)]? =some l[m+1+(p+1)]:=(C.old _ ai).trans (aI ai);have aT:l2[m+1+p]? =some l[m+1+p]:=(C.old _ ai).trans (aI ai);have av:=jw A aU;have aS:=jw A aT;have aH:((p:Int)+1)<((n-(m+1):Nat):Int):=ai;have aX:(p:Int)<((n-(m+1):Nat):Int):=ai;have ad:=fun (e:l[m+1+p]=l[m+1+(p+1)])=>C.keep (m:=m+1+p) ai e
     have ag:=fun (e:¬l[m+1+p]=l[m+1+(p+1)])=>C.put (m:=m+1+p) ai e
     have bb:=C.len;have aw:=jw A (aI (show i<l2.length by omega));generalize l2[i]'_=bp at aw;have aN:m+1+p+1=m+1+(p+1):=rfl;simp only [aN] at ad ag;generalize l[m+1+(p+1)]=y at*;generalize l[m+1+p]=x at*;have aQ:(i:Int)<(n:Int):=ai
     by_cases D:y=x
     ·go_wp2_with fail
      go_quiet (fail)
      go_wp2;go_roundw
      ·exact ⟨i,p+1+1,l2,rfl,by go_num,ai,ai,Z.drewN nq,aB A (cJ bo nq),(ad D.symm)⟩
      simp [intOf];omega
     have aO:=KO D;go_wp2_with fail
     go_quiet (fail)
     have V:=cJ (az wr.heap.size wr) nq;have aC:=ag (fun e=>D e.symm);have ah:=aB A V;have ax:=Z.drewN nq;have v1:=ak av V;have br:=ak aw V;obtain ⟨a0,aK,_⟩:=dG ah;have bj:=aK.fz;generalize wr.drewN nq=aW at*;go_wp2;go_roundw
     ·exact ⟨i+1,p+1+1,_,by go_num,by go_num,ai,ai,ax.set rfl _,by
      have:=oC ah i (an y);rw [Wv] at this;exact this,aC⟩
     simp [intOf];omega
    obtain ⟨a4,ap,aL⟩:=Nw (i:=i) A ai;have aE:=(show CF base g n c l w (bi (aA (some (aP g)) i c)) (wr.setCells g i (List.replicate (n-i) (an ⟨#[]⟩))) from by
     have e:iB (l.take (m+1+(p+1)))=iB l:=by rw [cX (by rw [J];omega)]
     have al:=C.out;have Y:=C.il;rw [e] at al Y;rw [al] at ap;refine ⟨by rw [<-Y],?_,Z.trans aL⟩;rw [<-Y];exact ap)
    have aH:¬(((p:Int)+1)<((n-(m+1):Nat):Int)):=ai;have aQ:(i:Int)<=(n:Int):=ai;have bk:i<=c:=ai;have bl:¬(c=i):=ai;go_wp2;go_ret;exact aE
   have aO:=KO D;go_wp2_with fail
   go_quiet (fail)
   go_wp2;go_roundw
   ·exact ⟨m+1+1,by go_num,ai,ai,(cJ Q nq),(by rw [aj,if_neg (fun e=>D e.symm),R,aG]:iB (l.take (m+1+1))=l.take (m+1+1))⟩
   simp [intOf];omega
  have aM:¬((k:Int)<(n:Int)):=ai;have U:=(show iB l=l from by
   have:=R;rw [cX (by rw [J];omega)] at this;exact this)
  go_wp2;go_ret;unfold CF;rw [U,J];exact ⟨rfl,aB h Q,.of_below Q⟩
