import Derived.Test.YtlbpnlngckgcbaaGreatDoorM08
set_option linter.all false
set_option maxHeartbeats 4000000
set_option maxRecDepth 100000
namespace Go.Proofs.YtlbpnlngckgcbaaGreatDoor
open Go.RowKit Go.PlainAid Go.Proofs.Tryz
variable {aD bq:Prop} {signs:List ae} {k j m f:Nat} {pl:List PV} {ps:List Nat} {fL:List Tk}
def Pl (h:aD:=by
 rw [List.map_append];exact cu.snoc (Tr.le _ ai k) _ _ (cu.mono (fun n x A=>Tr.le _ ai (Tr.more pl t g _ _ A)) _ _ h2)):aD:=h
def Xw(h:Option (Ex×ae×Nat))(y:Ex):Ex:=match h with
 |none=>y
 |some (x,t,p)=>dF t p x y
def mW(T:Nat->ae)(P:Nat->Nat)(signs:List ae)(part:Nat->eL Ex)(k:Nat)(h:Option (Ex×ae×Nat))(j:Nat):eL Ex:=match part j with
 | .error e=> .error e
 | .ok (y,m)=>joinL T P signs part k (Xw h y) m
def vO(T P signs part i):eU T P signs part i=mW T P signs part 512 none i:=by
 unfold eU mW
 cases part i with
 |error e=>rfl
 |ok y=>rfl
def vP{T P part prev}{e:Nat×Nat}(h:part j=.error e):mW T P signs part k prev j=.error e:=by unfold mW;rw [h]
def uH{T P part prev y}(h:part j=.ok (y,m)):mW T P signs part k prev j=joinL T P signs part k (Xw prev y) m:=by unfold mW;rw [h]
def sl{T P part x}(h:gN (T j) signs=true):joinL T P signs part (k+1) x j=mW T P signs part k (some (x,T j,P j)) (j+1):=by
 simp only [joinL,h,if_true];unfold mW
 cases part (j+1) with
 |error e=>rfl
 |ok y=>rfl
def DH{T P part x}(h:gN (T j) signs=false):joinL T P signs part (k+1) x j=.ok (x,j):=by
 simp [joinL,h]
def pY:∀(rs:List (ae×Nat×Ex)) (h:Ex) (t:ae) (p:Nat) (y:Ex),cb h (rs++[(t,p,y)])=dF t p (cb h rs) y
 | [],_,_,_,_=>rfl
 |(t',p',y')::rs,h,t,p,y=>by
  simp only [List.cons_append,cb];exact pY rs _ t p y
def cu.snoc{R m y}(k:R m y):∀(ns:List Nat)(xs:List Ex),cu R ns xs->cu R (ns++[m]) (xs++[y])
 | [],[],_=>⟨k,trivial⟩
 |n::ns,x::xs,h=>⟨h.1,cu.snoc k ns xs h.2⟩
 | [],_::_,h=>h.elim
 |_::_,[],h=>h.elim
def aaO:Tk:=⟨[],0,false⟩
def sgnT(r:ae×Nat×Ex):Tk:=⟨bB r.1,r.2.1,false⟩
def lG(pl:List PV)(ps:List Nat)(fL:List Tk)(x:Ex):Prop:=
 ∃h ns A rs f,ps=h::ns/\Tr pl f h A/\cu (Tr pl f) ns (rs.map fun r=>r.2.2)/\fL=aaO::rs.map sgnT/\(∀r∈rs,r.1=sg 38\/r.1=sg 45)/\x=cb A rs
def lG.one{y}(h:Tr pl f m y):lG pl [m] [aaO] y:=⟨m,[],y,[],f,rfl,h,trivial,rfl,by simp,rfl⟩
def lG.snoc{t x}(h:lG pl ps fL x){y}(k:Tr (pl++t) f m y)(tt p)(I:tt=sg 38\/tt=sg 45):lG (pl++t) (ps++[m]) (fL++[⟨bB tt,p,false⟩]) (dF tt p x y):=by
 obtain ⟨J,ns,Q,rs,g,rfl,h1,h2,rfl,D,rfl⟩:=h;refine ⟨J,ns++[m],Q,rs++[(tt,p,y)],g+f,rfl,Tr.le _ ai (Tr.more pl t g _ _ h1),?_,?_,?_,?_⟩
 ·exact Pl
 ·rw [List.map_append];rfl
 ·intro r C
  rcases aW.1 C with C|C
  ·exact D r C
  rw [aX] at C;subst C;exact I
 rw [pY]
def lG.chain{x}(h:lG pl ps fL x)(C:ps.length≠1)(p):∃f,Tr (pl++[⟨4,[],em,em,p,0,ps,fL⟩]) f pl.length x:=by
 obtain ⟨D,ns,I,rs,g,rfl,h1,h2,rfl,A,rfl⟩:=h;refine ⟨g+1,_,vK,.inr (.inr (.inr (.inl ⟨rfl,rfl,D,ns,I,rs,rfl,Tr.more pl _ g _ _ h1,cu.mono (Tr.more pl _ g) _ _ h2,rfl,⟨A,?_⟩,rfl⟩)))⟩;rintro rfl
 cases ns with
 |nil=>exact C rfl
 |cons n ns=>exact h2.elim
def lG.alone{x:Ex}(h:lG pl [m] fL x):∃f,Tr pl f m x:=by
 obtain ⟨A,ns,C,rs,g,e,h1,h2,rfl,_,rfl⟩:=h;simp only [kX] at e;obtain ⟨rfl,rfl⟩:=e
 cases rs with
 |nil=>exact ⟨g,h1⟩
 |cons r rs=>exact h2.elim
