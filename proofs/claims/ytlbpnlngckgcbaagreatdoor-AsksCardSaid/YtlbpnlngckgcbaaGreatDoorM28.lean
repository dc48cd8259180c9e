import Derived.Test.YtlbpnlngckgcbaaGreatDoorM19
import Derived.Test.YtlbpnlngckgcbaaGreatDoorM22
set_option linter.all false
set_option maxHeartbeats 4000000
set_option maxRecDepth 100000
namespace Go.Proofs.YtlbpnlngckgcbaaGreatDoor
open Go.RowKit Go.PlainAid Go.Proofs.Tryz
variable {l l2:List ae} {m i base g n c q:Nat} {w:af} {x:ae}
def oJ(a:List ae)(x:ae):List ae:=if a.getLast? =some x then a else a++[x]
def ik(l:List ae):List ae:=l.foldl oJ []
def En(l x):ik (l++[x])=oJ (ik l) x:=by simp [ik]
def Mq(a x):(oJ a x).getLast? =some x:=by
 unfold oJ
 split
 ·assumption
 simp
def SG(l x):(ik (l++[x])).getLast? =some x:=by rw [En,Mq]
def Wc(l:List ae):∀a:List ae,(l.foldl oJ a).length<=a.length+l.length:=by
 induction l with
 |nil=>intro a;simp
 |cons x l ih=>
  intro a;rw [List.foldl_cons,iC];have:=ih (oJ a x);have h2:(oJ a x).length<=a.length+1:=by
   unfold oJ
   split<;>simp
  omega
def wK(C:m+1<l.length):ik (l.take (m+2))=if l[m]=l[m+1] then ik (l.take (m+1)) else ik (l.take (m+1))++[l[m+1]]:=by
 have e1:l.take (m+2)=l.take (m+1)++[l[m+1]]:=cJ C;have A:l.take (m+1)=l.take m++[l[m]]:=cJ aj;rw [e1,En];unfold oJ;rw [show (ik (l.take (m+1))).getLast? =some l[m] from by rw [A];exact SG _ _];simp only [aL]
structure XZ(l l2:List ae)(i m:Nat):Prop where
 len:l2.length=l.length
 out:l2.take i=ik (l.take m)
 il:i=(ik (l.take m)).length
 lt:i<m
 old:∀q,m<=q+1->l2[q]? =l[q]?
def XZ.keep(h:XZ l l2 i (m+1))(C:m+1<l.length)(A:l[m]=l[m+1]):XZ l l2 i (m+2):=by
 have e:=wK C;rw [if_pos A] at e;exact ⟨h.len,by rw [e];exact h.out,by rw [e];exact h.il,by have:=h.lt;omega,fun q D=>h.old q aj⟩
def XZ.put(h:XZ l l2 i (m+1))(C:m+1<l.length)(A:¬l[m]=l[m+1]):XZ l (l2.set i l[m+1]) (i+1) (m+2):=by
 have e:=wK C;rw [if_neg A] at e;have hi:=h.lt;have hl:=h.len;refine ⟨by rw [fF];exact hl,?_,by rw [e,aZ,<-h.il];rfl,aj,fun q D=> ?_⟩
 ·rw [e,<-h.out,cJ (by rw [fF];omega),jq,List.take_set_of_le aD]
 rw [List.getElem?_set_ne aj];exact h.old q aj
def Wd(l:List ae)(i:Nat)(x:ae):(dF l).set i (.string x)=dF (l.set i x):=by
 unfold dF;rw [List.map_set]
def jf(h:w.ownsRow base 9 1 (.slice (some ⟨g,0,none⟩) n c) n (dF l))(A:l[q]? =some x):w.cell? ⟨g,q,none⟩=some (.string x):=by
 obtain ⟨g',C,e,hc⟩:=aS h q (.string x) (by unfold dF;rw [List.getElem?_map,A];rfl);simp only [aI,aL,ce,fI] at e;obtain ⟨rfl,_,_⟩:=e;exact hc
def Mr(h:w.ownsRow base 9 1 (.slice (some ⟨g,0,none⟩) n c) n (dF l2))(hi:i<n):
  (∀ty,(Builtin.clear_ #[22] ty #[.slice (some ⟨g,i,none⟩) (n-i) (c-i)]).run prog w=.ok (.tuple #[]) (w.setCells g i (List.replicate (n-i) (.string ⟨#[]⟩))))/\(w.setCells g i (List.replicate (n-i) (.string ⟨#[]⟩))).ownsRow base 9 1 (.slice (some ⟨g,0,none⟩) i c) i (dF (l2.take i))/\bG (fun k=>k=g) w (w.setCells g i (List.replicate (n-i) (.string ⟨#[]⟩))):=by
 obtain ⟨Z,h2⟩:=h
 rcases h2 with ⟨h,_⟩|⟨g',ad,C,e1,V,Y,h1,h2,R,U⟩
 ·cases h
 ·simp only [aI,aL,ce] at e1;obtain ⟨⟨rfl,_,_⟩,_,rfl⟩:=e1;have A:aE w g C 9:=Y;refine ⟨fun ty=>Lib.run_clear_slice w _ _ ty (.string ⟨#[]⟩) underlying22 (fun w=>aw) rfl rfl g i (n-i) (c-i) aj (fun j ae=>by rw [A.cell (o:=i+j) (Ak aj)];rfl) (fun j _=>A.fz _),?_,?_⟩
  ·obtain ⟨I,D,ac,J⟩:=jH (List.replicate (n-i) (.string ⟨#[]⟩)) i w C A (by rw [vd];omega);have ab:(dF l2).length=n:=by rw [Z];omega
   have af:l2.length=n:=by rw [<-ab];simp [dF]
   refine ⟨by simp [dF];omega,.inr ⟨g,c,I,rfl,V,D,aj,h2,by rw [ac];exact R,?_⟩⟩;rw [J,dc,rJ (by rw [dO,qZ];omega)];have Q:dF (l2.take i)=(dF l2).take i:=by unfold dF;rw [List.map_take]
   rw [Q,<-U,List.take_take]
   congr 1
   omega
  have:=But.setCells (List.replicate (n-i) (.string ⟨#[]⟩)) i w (But.refl g w);exact .of_but this rfl
def Bq(base g n c:Nat)(l:List ae)(w:af)(e:Ending)(w':af):Prop:=e=.returned (.slice (some ⟨g,0,none⟩) (ik l).length c)/\w'.ownsRow base 9 1 (.slice (some ⟨g,0,none⟩) (ik l).length c) (ik l).length (dF (ik l))/\bG (fun k=>k=g) w w'
def Eo(base g n c:Nat)(l:List ae)(w:af)(h:w.ownsRow base 9 1 (.slice (some ⟨g,0,none⟩) n c) n (dF l))(aR:l.length=n)(bn:n<=100000)(a9:n<=c):
  Calls prog 67 #[.slice (some ⟨g,0,none⟩) n c] w (Bq base g n c l w):=by
 have U:=ai h;have J:=ai aR;obtain ⟨a4,a7,bb⟩:=dx h
 by_cases h2:n<2
 ·have aN:(n:Int)<2:=by omega
  have Z:=ai (show ik l=l from by
   have:=J.u
   match l,this with
   | [],_=>rfl
   | [a],_=>simp [ik,oJ]
   |a::b::l,h=>simp at h;omega)
  go_enter func67,ntmps67;go_wp2;go_ret;unfold Bq;rw [Z.u,J.u];exact ⟨rfl,U.u,bG.refl _ _⟩
 ·have aN:¬((n:Int)<2):=by omega
  go_enter func67,ntmps67;go_wp2_with fail
  go_loopw [3] (fun u wr=>∃k:Nat,u=.int .i64 k/\1<=k/\k<=n/\an w wr/\Hid (ik (l.take k)=l.take k)) (fun u _=>n-(intOf u).toNat)
  case atStart=>exact ⟨1,rfl,aj,aj,az _ _,ai (by
   have:=J.u
   match l,this with
   | [],h=>simp at h;omega
   |a::l,_=>simp [ik,oJ])⟩
  case round=>
   obtain ⟨k,rfl,bf,be,ad,Y⟩:=hrel
   by_cases bk:k<n
   ·have aQ:(k:Int)<(n:Int):=by omega
    obtain ⟨m,rfl⟩:∃m,k=m+1:=⟨k-1,aj⟩;have A:=aB U.u ad;have aD:=jf A (aH (show m+1<l.length by omega));have aY:=jf A (aH (show m<l.length by omega));have av:=ai (wK (show m+1<l.length by omega));have aL:=ai (cJ aj:l.take (m+2)=l.take (m+1)++[l[m+1]]);generalize l[m+1]=y at*;generalize l[m]=x at*;have Q:=ai ad
    by_cases D:y=x
    ·go_wp2_with fail
     go_quiet (fail)
     have aG:=ai (show XZ l l (m+1) (m+1+1) from by
      have e:ik (l.take (m+2))=l.take (m+1):=by rw [av.u,if_pos D.symm,ak Y]
      exact ⟨rfl,e.symm,by rw [e,dO];omega,aj,fun _ _=>rfl⟩)
     have R:=ai (cF Q.u nq);have aK:=ai (aB U.u R.u);have e1:n-(m+1)<=n:=aj;go_wp2_with fail;generalize wr.drewN nq=a1 at*;obtain ⟨bs,bo⟩:∃a,a=n-(m+1):=⟨_,rfl⟩
     go_loopw [3,5] (fun aX ag aC=>∃(i I:Nat)(l2:List ae),aX=.int .i64 i/\ag=.int .i64 I/\1<=I/\m+1+I<=n/\bG (fun k=>k=g) w aC/\aC.ownsRow base 9 1 (.slice (some ⟨g,0,none⟩) n c) n (dF l2)/\Hid (XZ l l2 i (m+1+I))) (fun _ ag _=>n-(intOf ag).toNat)
     case atStart=>exact ⟨m+1,1,l,by go_num,rfl,aj,aj,.of_below R.u,aK.u,aG⟩
     case round=>
      obtain ⟨i,I,l2,rfl,rfl,bg,bh,ax,A,C⟩:=hrel;obtain ⟨p,rfl⟩:∃p,I=p+1:=⟨I-1,aj⟩;have bc:=(ak C).lt;obtain ⟨a5,a8,_⟩:=dx A
      by_cases bl:m+1+(p+1)<n
      ·have a0:l2[m+1+(p+1)]? =some l[m+1+(p+1)]:=((ak C).old _ aj).trans (aH aj);have aZ:l2[m+1+p]? =some l[m+1+p]:=((ak C).old _ aj).trans (aH aj);have aD:=jf A a0;have aY:=jf A aZ;have aM:((p:Int)+1)<((n-(m+1):Nat):Int):=aj;have a3:(p:Int)<((n-(m+1):Nat):Int):=aj;have al:=ai (fun (e:l[m+1+p]=l[m+1+(p+1)])=>(ak C).keep (m:=m+1+p) aj e);have ap:=ai (fun (e:¬l[m+1+p]=l[m+1+(p+1)])=>(ak C).put (m:=m+1+p) aj e);have bi:=(ak C).len;have aE:=jf A (aH (show i<l2.length by omega));generalize l2[i]'_=bt at aE;have aS:m+1+p+1=m+1+(p+1):=rfl;simp only [aS] at al ap;generalize l[m+1+(p+1)]=y at*;generalize l[m+1+p]=x at*;have aW:(i:Int)<(n:Int):=aj;have ah:=ai ax;have au:=ai A
       by_cases D:y=x
       ·go_wp2_with fail
        go_quiet (fail)
        have V:=ai (ak al D.symm);go_wp2;go_roundw
        case rel=>exact ⟨i,p+1+1,l2,rfl,by go_num,aj,aj,ah.u.drewN nq,aB au.u (cF bj nq),V⟩
        case measure=>simp [intOf];omega
       have aV:=JF D;go_wp2_with fail
       go_quiet (fail)
       have ab:=cF (az wr.heap.size wr) nq;have V:=ai (ak ap (fun e=>D e.symm));have ar:=ai (aB au.u ab);have aF:=ai (ah.u.drewN nq);have v1:=am aD ab;have bu:=am aE ab;obtain ⟨a6,aO,_⟩:=dx ar.u;have bp:=aO.fz;generalize wr.drewN nq=a2 at*;go_wp2;go_roundw
       case rel=>exact ⟨i+1,p+1+1,_,by go_num,by go_num,aj,aj,aF.u.set rfl _,by
        have:=oh ar.u i (.string y);rw [Wd] at this;exact this,V⟩
       case measure=>simp [intOf];omega
      obtain ⟨ba,ay,aP⟩:=Mr (i:=i) A aj;have aJ:=ai (show Bq base g n c l w (.returned (.slice (some ⟨g,0,none⟩) i c)) (wr.setCells g i (List.replicate (n-i) (.string ⟨#[]⟩))) from by
       have h:=ak C;have e:ik (l.take (m+1+(p+1)))=ik l:=by rw [dy (by rw [J.u];omega)]
       have aw:=h.out;have ac:=h.il;rw [e] at aw ac;rw [aw] at ay;refine ⟨by rw [<-ac],?_,ax.trans aP⟩;rw [<-ac];exact ay)
      have aM:¬(((p:Int)+1)<((n-(m+1):Nat):Int)):=aj;have aW:(i:Int)<=(n:Int):=aj;have bq:i<=c:=aj;have br:¬(c=i):=aj;go_wp2;go_ret;exact aJ.u
    have aV:=JF D;go_wp2_with fail
    go_quiet (fail)
    have aI:=ai (by rw [av.u,if_neg (fun e=>D e.symm),ak Y,aL.u]:ik (l.take (m+1+1))=l.take (m+1+1));have R:=ai (cF Q.u nq);go_wp2;go_roundw
    case rel=>exact ⟨m+1+1,by go_num,aj,aj,R.u,aI⟩
    case measure=>simp [intOf];omega
   have aQ:¬((k:Int)<(n:Int)):=aj;have Z:=ai (show ik l=l from by
    have:=ak Y;rw [dy (by rw [J.u];omega)] at this;exact this)
   have Q:=ai ad;go_wp2;go_ret;unfold Bq;rw [Z.u,J.u];exact ⟨rfl,aB U.u Q.u,.of_below Q.u⟩
