import Derived.Test.YtlbpnlngckgcbaaGreatDoorM36
set_option linter.all false
set_option maxHeartbeats 4000000
set_option maxRecDepth 100000
namespace Go.Proofs.YtlbpnlngckgcbaaGreatDoor
open Go.RowKit Go.PlainAid Go.Proofs.Tryz
variable {l:List ae} {x:ae} {k:Nat}
def m6(l:List ae)(x:ae):List ae:=if l.any (fun y=>eqs y x) then l else l++[x]
def Ww(A:k<l.length)(h:eqs l[k] x=true):m6 l x=l:=by
 unfold m6;rw [if_pos (dg.2 ⟨l[k],br A,h⟩)]
def Nx(h:∀j,(C:j<l.length)->eqs l[j] x=false):m6 l x=l++[x]:=by
 unfold m6;rw [if_neg];intro e;obtain ⟨y,D,A⟩:=dg.1 e;obtain ⟨j,C,rfl⟩:=dB D;rw [h j C] at A
 cases A
def FK(base:Nat)(v:ag)(l:List ae)(x:ae)(w:af)(h:w.ownsRow base 9 1 v l.length (dO l))(av:l.length<=10000)(Q:base<=w.heap.size):
  Calls prog 140 #[v,an x] w fun e w'=>∃v',e=bi v'/\Below base w w'/\w'.ownsRow base 9 1 v' (m6 l x).length (dO (m6 l x)):=by
 obtain ⟨ay,aA,rfl⟩:=aw h;obtain ⟨R,I⟩:∃R,R=m6 l x:=⟨_,rfl⟩;rw [<-I];go_enter func140,ntmps140;go_wp2_with fail
 go_loopw [5] (fun u wr=>∃k:Nat,k<=l.length/\u=au k/\am w wr/\(∀j,(h:j<l.length)->j<k->eqs l[j] x=false)) (fun u _=>l.length-(intOf u).toNat)
 ·exact vo
 ·obtain ⟨k,U,rfl,hb,J⟩:=hrel;have A:=aB h hb;have ax:=hb.size
  by_cases V:k<l.length
  ·have aj:(k:Int)<(l.length:Int):=by omega
   obtain ⟨g,c,e1,_,_⟩:=rH h ai;simp only [aK,bX] at e1;obtain ⟨rfl,rfl⟩:=e1;have c0:=jw A (aI V)
   cases C:eqs l[k] x
   ·have ac:(l[k].toList==x.toList)=false:=by rw [<-aQ];exact C
    have VM:=(show ∀j,(h:j<l.length)->j<k+1->eqs l[j] x=false from fun j h al=>by
     by_cases e:j=k
     ·subst e;exact C
     exact J j h ai)
    generalize l[k]=y at*;exact Qf
   have ac:(l[k].toList==x.toList)=true:=by rw [<-aQ];exact C
   have D:=Ww V C;generalize l[k]=y at*;go_wp2;go_ret;exact ⟨_,rfl,hb.mono Q,by rw [I,D];exact A⟩
  have aj:¬((k:Int)<(l.length:Int)):=ai;have D:=Nx (fun j ah=>J j ah ai);have Z:=(by simp [dO]:dO (l++[x])=dO l++[an x]);go_wp2_with (at_builtin;go_must (refine eB rfl underlying22 Tryz.infoStr base (A.alloc _) wr.heap.size 1 [an x] (wr.heap.size+1) ?hrest))
  case hrest=>
   intro g5 be w5 ak ad ap arz;have ab:=A.alloc (dv x);have Y:=cA ((hb.mono Q).alloc ai (dv x)) ad aS (fun k U=>(ab.lt k U).1);go_wp2;go_ret;exact ⟨_,rfl,Y,by rw [I,D,bf,Z];exact ak⟩
