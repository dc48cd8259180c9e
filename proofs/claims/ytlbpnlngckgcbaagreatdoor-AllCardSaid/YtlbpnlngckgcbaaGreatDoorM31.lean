import Derived.Test.YtlbpnlngckgcbaaGreatDoorM24
set_option linter.all false
set_option maxHeartbeats 4000000
set_option maxRecDepth 100000
namespace Go.Proofs.YtlbpnlngckgcbaaGreatDoor
open Go.RowKit Go.PlainAid Go.Proofs.Tryz
variable {k:Nat}
def rD(h:Hd)(t:Tu):Bool:=Fo ⟨h.kd,h.id⟩ ⟨t.kind,t.id⟩
def Zz(h va vn vc t q w)(C:aL w q (k8 t.kind t.id t.rel t.sub t.who t.of) 123):
  Calls prog 148 #[.agg #[an h.kd,an h.id,aA va vn vc],bu q] w fun e w'=>e=bi (.bool (rD h t))/\am w w':=by
 have hl:=C.lt;have A:=(az w.heap.size w).alloc aH (.cells #[an h.kd,an h.id,aA va vn vc] 282);have I:¬(w.heap.size=q):=ai;obtain ⟨J,Q,R,U,V,Y⟩:=(C.below A).six;have D:=fun w'=>KP ⟨h.kd,h.id⟩ ⟨t.kind,t.id⟩ w'
 dsimp only at D;go_enter func148,ntmps148;go_wp2;go_ret;exact ⟨rfl,A⟩
def Nf(l:List Hd)(t:Tu):Int:=match l.findIdx? (fun h=>rD h t) with
 |some k=>k
 |none=> -1
def Wo{l t}(hk:k<l.length)(hn:∀j,(h:j<l.length)->j<k->rD l[j] t=false)(he:rD l[k] t=true):Nf l t=k:=by
 unfold Nf;have:l.findIdx? (fun h=>rD h t)=some k:=by
  exact GW
 rw [this]
def Ng{l t}(hn:∀j,(h:j<l.length)->rD l[j] t=false):Nf l t= -1:=by
 unfold Nf;have:l.findIdx? (fun h=>rD h t)=none:=by
  exact GV
 rw [this]
def IW(base v l t q w)(ap:l.length<=1000)(h:w.ownsRow base 282 3 v l.length (l.flatMap Nc))(hs:∀x∈l,∃a n c,x.tv=aA a n c)(ah:aL w q (k8 t.kind t.id t.rel t.sub t.who t.of) 123):
  Calls prog 147 #[v,.func (.func 148) #[] #[bu q]] w fun e w'=>e=bi (au (Nf l t))/\am w w':=by
 obtain ⟨sa,sc,rfl⟩:=aw h;go_enter func147,ntmps147;go_wp2
 go_loopw [5,8] (fun u i wr=>∃k:Nat,k<=l.length/\i=au k/\am w wr/\(∀j,(h:j<l.length)->j<k->rD l[j] t=false)) (fun _ i _=>l.length-(intOf i).toNat)
 ·exact vo
 ·obtain ⟨k,al,rfl,D,Q⟩:=hrel
  by_cases U:k<l.length
  ·obtain ⟨g,c,e1,hc⟩:=bn Nc 3 (fun _=>rfl) (aB h D) k l[k] (aI U);simp only [aK] at e1;obtain ⟨rfl,_,rfl⟩:=e1;obtain ⟨V,Z,Y,hv⟩:=hs l[k] (br U);have ab:=ah.below D;have ac:=fun (A:rD l[k] t=true)=>Wo U Q A
   have ae:=(fun (A:rD l[k] t=false)=>(show ∀j,(h:j<l.length)->j<k+1->rD l[j] t=false from fun j h ak=>by
     by_cases e:j=k
     ·subst e;exact A
     exact Q j h ai))
   have C:=Zz l[k] V Z Y t q wr ab;generalize l[k]=y at*;have k0:wr.cell? (aC g (k*3))=some (an y.kd):=hc 0 _ ai rfl;have k1:wr.cell? (aC g (k*3+1))=some (an y.id):=hc 1 _ ai rfl;have ar:wr.cell? (aC g (k*3+2))=some (aA V Z Y):=by rw [<-hv];exact hc 2 _ ai rfl
   have ag:(k:Int)<(l.length:Int):=ai
   cases A:rD y t
   ·rw [A] at C;have ad:=ae A;go_wp2_with fail;refine C.mono ?_;rintro e aj ⟨rfl,R⟩;have J:=D.trans (R.mono D.size);go_wp2;go_roundw
    ·exact ⟨k+1,ai,by go_num,J,ad⟩
    simp [intOf];omega
   rw [A] at C;have I:=ac A;go_wp2_with fail;refine C.mono ?_;rintro e aj ⟨rfl,R⟩;have J:=D.trans (R.mono D.size);go_wp2;go_ret;exact ⟨by first|(rw [I];done)|simp [I],J⟩
  have I:=Ng (t:=t) (fun j af=>Q j af ai);have ag:¬((k:Int)<(l.length:Int)):=ai;go_wp2;go_ret;exact ⟨by first|(rw [I];done)|simp [I],D⟩
