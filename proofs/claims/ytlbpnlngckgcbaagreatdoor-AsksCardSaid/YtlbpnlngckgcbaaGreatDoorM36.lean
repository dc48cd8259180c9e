import Derived.Test.YtlbpnlngckgcbaaGreatDoorM33
set_option linter.all false
set_option maxHeartbeats 4000000
set_option maxRecDepth 100000
namespace Go.Proofs.YtlbpnlngckgcbaaGreatDoor
open Go.RowKit Go.PlainAid Go.Proofs.Tryz
variable {l:List ae} {x:ae} {k:Nat}
def mV(l:List ae)(x:ae):List ae:=if l.any (fun y=>eqs y x) then l else l++[x]
def We(A:k<l.length)(h:eqs l[k] x=true):mV l x=l:=by
 unfold mV;rw [if_pos (cX.2 ⟨l[k],bn A,h⟩)]
def Ms(h:∀j,(C:j<l.length)->eqs l[j] x=false):mV l x=l++[x]:=by
 unfold mV;rw [if_neg];intro e;obtain ⟨y,D,A⟩:=cX.1 e;obtain ⟨j,C,rfl⟩:=dk D;rw [h j C] at A
 cases A
def Er(base:Nat)(v:ag)(l:List ae)(x:ae)(w:af)(h:w.ownsRow base 9 1 v l.length (dF l))(aV:l.length<=10000)(V:base<=w.heap.size):
  Calls prog 140 #[v,.string x] w fun e w'=>∃v',e=.returned v'/\Below base w w'/\w'.ownsRow base 9 1 v' (mV l x).length (dF (mV l x)):=by
 obtain ⟨aP,aQ,rfl⟩:=ax h;have H:=ai h;obtain ⟨i0,aD,aL,aN,aO⟩:=bK Tryz.infoStr;have ad:=ai aD;have al:=ai aL;have am:=ai aN;have ap:=ai aO;obtain ⟨R,U⟩:∃R,R=mV l x:=⟨_,rfl⟩;rw [<-U];have Q:=ai U;go_enter func140,ntmps140;go_wp2_with fail
 go_loopw [5] (fun u wr=>∃k:Nat,k<=l.length/\u=.int .i64 k/\an w wr/\Hid (∀j,(h:j<l.length)->j<k->eqs l[j] x=false)) (fun u _=>l.length-(intOf u).toNat)
 case atStart=>exact ⟨0,aj,rfl,az _ _,ai (fun j h aw=>aj)⟩
 case round=>
  obtain ⟨k,Y,rfl,I,J⟩:=hrel;have HB:=ai I;have A:=ai (aB H.u I);have aW:=I.size
  by_cases Z:k<l.length
  ·have aG:(k:Int)<(l.length:Int):=by omega
   obtain ⟨g,c,e1,_,_⟩:=qR H.u aj;simp only [aI,bU] at e1;obtain ⟨rfl,rfl⟩:=e1;have c0:=jf A.u (aH Z)
   cases C:eqs l[k] x
   ·have ay:(l[k].toList==x.toList)=false:=by rw [<-aK];exact C
    have Vq:=ai (show ∀j,(h:j<l.length)->j<k+1->eqs l[j] x=false from fun j h aw=>by
     by_cases e:j=k
     ·subst e;exact C
     exact ak J j h aj)
    generalize l[k]=y at*;exact PF
   have ay:(l[k].toList==x.toList)=true:=by rw [<-aK];exact C
   have D:=ai (We Z C);generalize l[k]=y at*;go_wp2;go_ret;exact ⟨_,rfl,HB.u.mono V,by rw [Q.u,D.u];exact A.u⟩
  have aG:¬((k:Int)<(l.length:Int)):=aj;have D:=ai (Ms (fun j aF=>ak J j aF aj));have ah:=ai (by simp [dF]:dF (l++[x])=dF l++[.string x]);go_wp2_with (at_builtin;go_must (refine bI _ rfl _ _ 22 rfl base 9 i0 _ 1 16 underlying22 ad.u al.u am.u ap.u rfl au (.slice aP l.length aQ) l.length (dF l) rfl ?hown ⟨wr.heap.size,0,none⟩ 1 1 [.string x] rfl rfl ?hnews ?hone au ?h63 ?hbytes ?hbase (wr.heap.size+1) ?hH ?hrest))
  try (case hown=>exact A.u.alloc _)
  try (case hnews=>exact bu (B:=wr.heap.size) (cs:=#[.string x]) (t:=9) (fr:=(0,0)) (aE.new _ _ _))
  try (case hone=>first|rfl|(intro u ab;simp at ab;subst ab;rfl))
  case h63=>unfold maxLen;omega
  case hbytes=>omega
  try (case hbase=>first|omega|(simp;omega))
  try (case hH=>simp)
  case hrest=>
   intro g5 aT w5 aJ aC aR aS;have ar:=A.u.alloc (dn x);have ac:=ai (ct ((HB.u.mono V).alloc aj (dn x)) aC aM (fun k Y=>(ar.lt k Y).1));have av:=ai aJ;go_wp2;go_ret;exact ⟨_,rfl,ac.u,by rw [Q.u,D.u,aZ,ah.u];exact av.u⟩
