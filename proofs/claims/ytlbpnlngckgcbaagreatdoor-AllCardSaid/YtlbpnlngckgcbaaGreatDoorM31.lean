import Derived.Test.YtlbpnlngckgcbaaGreatDoorM24
set_option linter.all false
set_option maxHeartbeats 4000000
set_option maxRecDepth 100000
namespace Go.Proofs.YtlbpnlngckgcbaaGreatDoor
open Go.RowKit Go.PlainAid Go.Proofs.Tryz
variable {k:Nat}
def qR(h:Hd)(t:Tu):Bool:=EP ⟨h.kd,h.id⟩ ⟨t.kind,t.id⟩
def Y7(h va vn vc t q w)(C:aL w q #[aj t.kind,aj t.id,aj t.rel,aj t.sub,aj t.who,aj t.of] 123):
  Calls prog 148 #[.agg #[aj h.kd,aj h.id,aw va vn vc],bc q] w fun e w'=>e=bj (.bool (qR h t))/\an w w':=by
 have hl:=C.lt;have A:=(aA w.heap.size w).alloc aH (.cells #[aj h.kd,aj h.id,aw va vn vc] 282);have I:¬(w.heap.size=q):=ai;obtain ⟨J,Q,R,U,V,Y⟩:=(C.below A).six;have D:=fun w'=>Ki ⟨h.kd,h.id⟩ ⟨t.kind,t.id⟩ w'
 dsimp only at D;go_enter func148,ntmps148;go_wp2;go_ret;exact ⟨rfl,A⟩
def MG(l:List Hd)(t:Tu):Int:=match l.findIdx? (fun h=>qR h t) with
 |some k=>k
 |none=> -1
def VW{l t}(hk:k<l.length)(hn:∀j,(h:j<l.length)->j<k->qR l[j] t=false)(he:qR l[k] t=true):MG l t=k:=by
 unfold MG;have:l.findIdx? (fun h=>qR h t)=some k:=by
  exact Gk
 rw [this]
def MH{l t}(hn:∀j,(h:j<l.length)->qR l[j] t=false):MG l t= -1:=by
 unfold MG;have:l.findIdx? (fun h=>qR h t)=none:=by
  exact Gj
 rw [this]
def Im(base v l t q w)(ap:l.length<=1000)(h:w.ownsRow base 282 3 v l.length (l.flatMap MF))(hs:∀x∈l,∃a n c,x.tv=aw a n c)(ah:aL w q #[aj t.kind,aj t.id,aj t.rel,aj t.sub,aj t.who,aj t.of] 123):
  Calls prog 147 #[v,.func (.func 148) #[] #[bc q]] w fun e w'=>e=bj (ar (MG l t))/\an w w':=by
 obtain ⟨sa,sc,rfl⟩:=ax h;go_enter func147,ntmps147;go_wp2
 go_loopw [5,8] (fun u i wr=>∃k:Nat,k<=l.length/\i=ar k/\an w wr/\(∀j,(h:j<l.length)->j<k->qR l[j] t=false)) (fun _ i _=>l.length-(intOf i).toNat)
 ·exact uK
 ·obtain ⟨k,am,rfl,D,Q⟩:=hrel
  by_cases U:k<l.length
  ·obtain ⟨g,c,e1,hc⟩:=bo MF 3 (fun _=>rfl) (aB h D) k l[k] (aI U);simp only [aK] at e1;obtain ⟨rfl,_,rfl⟩:=e1;obtain ⟨V,Z,Y,hv⟩:=hs l[k] (bu U);have ab:=ah.below D;have ac:=fun (A:qR l[k] t=true)=>VW U Q A
   have ae:=(fun (A:qR l[k] t=false)=>(show ∀j,(h:j<l.length)->j<k+1->qR l[j] t=false from fun j h al=>by
     by_cases e:j=k
     ·subst e;exact A
     exact Q j h ai))
   have C:=Y7 l[k] V Z Y t q wr ab;generalize l[k]=y at*;have k0:wr.cell? (aC g (k*3))=some (aj y.kd):=hc 0 _ ai rfl;have k1:wr.cell? (aC g (k*3+1))=some (aj y.id):=hc 1 _ ai rfl;have au:wr.cell? (aC g (k*3+2))=some (aw V Z Y):=by rw [<-hv];exact hc 2 _ ai rfl
   have ag:(k:Int)<(l.length:Int):=ai
   cases A:qR y t
   ·rw [A] at C;have ad:=ae A;go_wp2_with fail;refine C.mono ?_;rintro e ak ⟨rfl,R⟩;have J:=D.trans (R.mono D.size);go_wp2;go_roundw
    ·exact ⟨k+1,ai,by go_num,J,ad⟩
    simp [intOf];omega
   rw [A] at C;have I:=ac A;go_wp2_with fail;refine C.mono ?_;rintro e ak ⟨rfl,R⟩;have J:=D.trans (R.mono D.size);go_wp2;go_ret;exact ⟨by first|(rw [I];done)|simp [I],J⟩
  have I:=MH (t:=t) (fun j af=>Q j af ai);have ag:¬((k:Int)<(l.length:Int)):=ai;go_wp2;go_ret;exact ⟨by first|(rw [I];done)|simp [I],D⟩
