import Derived.Test.YtlbpnlngckgcbaaGreatDoorM36
set_option linter.all false
set_option maxHeartbeats 4000000
set_option maxRecDepth 100000
namespace Go.Proofs.YtlbpnlngckgcbaaGreatDoor
open Go.RowKit Go.PlainAid Go.Proofs.Tryz
variable {l:List ae} {x:ae} {k:Nat}
def mV(l:List ae)(x:ae):List ae:=if l.any (fun y=>eqs y x) then l else l++[x]
def V4(A:k<l.length)(h:eqs l[k] x=true):mV l x=l:=by
 unfold mV;rw [if_pos (dh.2 ⟨l[k],bu A,h⟩)]
def MY(h:∀j,(C:j<l.length)->eqs l[j] x=false):mV l x=l++[x]:=by
 unfold mV;rw [if_neg];intro e;obtain ⟨y,D,A⟩:=dh.1 e;obtain ⟨j,C,rfl⟩:=dB D;rw [h j C] at A
 cases A
def Fe(base:Nat)(v:ag)(l:List ae)(x:ae)(w:af)(h:w.ownsRow base 9 1 v l.length (dM l))(av:l.length<=10000)(Q:base<=w.heap.size):
  Calls prog 140 #[v,aj x] w fun e w'=>∃v',e=bj v'/\Below base w w'/\w'.ownsRow base 9 1 v' (mV l x).length (dM (mV l x)):=by
 obtain ⟨ay,az,rfl⟩:=ax h;obtain ⟨R,I⟩:∃R,R=mV l x:=⟨_,rfl⟩;rw [<-I];go_enter func140,ntmps140;go_wp2_with fail
 go_loopw [5] (fun u wr=>∃k:Nat,k<=l.length/\u=ar k/\an w wr/\(∀j,(h:j<l.length)->j<k->eqs l[j] x=false)) (fun u _=>l.length-(intOf u).toNat)
 ·exact uK
 ·obtain ⟨k,U,rfl,hb,J⟩:=hrel;have A:=aB h hb;have aw:=hb.size
  by_cases V:k<l.length
  ·have ak:(k:Int)<(l.length:Int):=by omega
   obtain ⟨g,c,e1,_,_⟩:=qV h ai;simp only [aK,bY] at e1;obtain ⟨rfl,rfl⟩:=e1;have c0:=jt A (aI V)
   cases C:eqs l[k] x
   ·have ac:(l[k].toList==x.toList)=false:=by rw [<-aQ];exact C
    have Vk:=(show ∀j,(h:j<l.length)->j<k+1->eqs l[j] x=false from fun j h am=>by
     by_cases e:j=k
     ·subst e;exact C
     exact J j h ai)
    generalize l[k]=y at*;exact PG
   have ac:(l[k].toList==x.toList)=true:=by rw [<-aQ];exact C
   have D:=V4 V C;generalize l[k]=y at*;go_wp2;go_ret;exact ⟨_,rfl,hb.mono Q,by rw [I,D];exact A⟩
  have ak:¬((k:Int)<(l.length:Int)):=ai;have D:=MY (fun j ah=>J j ah ai);have Z:=(by simp [dM]:dM (l++[x])=dM l++[aj x]);go_wp2_with (at_builtin;go_must (refine ez rfl underlying22 Tryz.infoStr base (A.alloc _) wr.heap.size 1 [aj x] (wr.heap.size+1) ?hrest))
  case hrest=>
   intro g5 bf w5 al ad ap au;have ab:=A.alloc (bE aj x);have Y:=cA ((hb.mono Q).alloc ai (bE aj x)) ad aS (fun k U=>(ab.lt k U).1);go_wp2;go_ret;exact ⟨_,rfl,Y,by rw [I,D,bg,Z];exact al⟩
