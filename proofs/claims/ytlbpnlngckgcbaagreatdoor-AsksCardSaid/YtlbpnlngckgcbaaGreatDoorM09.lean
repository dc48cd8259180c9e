import Derived.Test.YtlbpnlngckgcbaaGreatDoorM06
set_option linter.all false
set_option maxHeartbeats 4000000
set_option maxRecDepth 100000
namespace Go.Proofs.YtlbpnlngckgcbaaGreatDoor
open Go.RowKit Go.PlainAid Go.Proofs.Tryz
variable {aA aU:Prop} {signs:List ae} {k j m f:Nat} {pl:List PV} {ps:List Nat} {eJ:List Tk}
def Oo (h:aA:=by
 rw [List.map_append];exact cG.snoc (Tr.le _ aj k) _ _ (cG.mono (fun n x A=>Tr.le _ aj (Tr.more pl t g _ _ A)) _ _ h2)):aA:=h
def W6(h:Option (Ex×ae×Nat))(y:Ex):Ex:=match h with
 |none=>y
 |some (x,t,p)=>fU t p x y
def mO(T:Nat->ae)(P:Nat->Nat)(signs:List ae)(part:Nat->eI Ex)(k:Nat)(h:Option (Ex×ae×Nat))(j:Nat):eI Ex:=match part j with
 | .error e=> .error e
 | .ok (y,m)=>joinL T P signs part k (W6 h y) m
def u4(T P signs part i):fe T P signs part i=mO T P signs part 512 none i:=by
 unfold fe mO
 cases part i with
 |error e=>rfl
 |ok y=>rfl
def qq{T P part prev}{e:Nat×Nat}(h:part j=.error e):mO T P signs part k prev j=.error e:=by unfold mO;rw [h]
def tS{T P part prev y}(h:part j=.ok (y,m)):mO T P signs part k prev j=joinL T P signs part k (W6 prev y) m:=by unfold mO;rw [h]
def rI{T P part x}(h:gw (T j) signs=true):joinL T P signs part (k+1) x j=mO T P signs part k (some (x,T j,P j)) (j+1):=by
 simp only [joinL,h,if_true];unfold mO
 cases part (j+1) with
 |error e=>rfl
 |ok y=>rfl
def Cy{T P part x}(h:gw (T j) signs=false):joinL T P signs part (k+1) x j=.ok (x,j):=by
 simp [joinL,h]
def pC:∀(rs:List (ae×Nat×Ex)) (h:Ex) (t:ae) (p:Nat) (y:Ex),ec h (rs++[(t,p,y)])=fU t p (ec h rs) y
 | [],_,_,_,_=>rfl
 |(t',p',y')::rs,h,t,p,y=>by
  simp only [List.cons_append,ec];exact pC rs _ t p y
def cG.snoc{R m y}(k:R m y):∀(ns:List Nat)(xs:List Ex),cG R ns xs->cG R (ns++[m]) (xs++[y])
 | [],[],_=>⟨k,trivial⟩
 |n::ns,x::xs,h=>⟨h.1,cG.snoc k ns xs h.2⟩
 | [],_::_,h=>h.elim
 |_::_,[],h=>h.elim
def aaM:Tk:=⟨[],0,false⟩
def sgnT(r:ae×Nat×Ex):Tk:=⟨bJ r.1,r.2.1,false⟩
def kH(pl:List PV)(ps:List Nat)(eJ:List Tk)(x:Ex):Prop:=
 ∃h ns A rs f,ps=h::ns/\Tr pl f h A/\cG (Tr pl f) ns (rs.map fun r=>r.2.2)/\eJ=aaM::rs.map sgnT/\(∀r∈rs,r.1=sg 38\/r.1=sg 45)/\x=ec A rs
def kH.one{y}(h:Tr pl f m y):kH pl [m] [aaM] y:=⟨m,[],y,[],f,rfl,h,trivial,rfl,by simp,rfl⟩
def kH.snoc{t x}(h:kH pl ps eJ x){y}(k:Tr (pl++t) f m y)(tt p)(I:tt=sg 38\/tt=sg 45):kH (pl++t) (ps++[m]) (eJ++[⟨bJ tt,p,false⟩]) (fU tt p x y):=by
 obtain ⟨J,ns,Q,rs,g,rfl,h1,h2,rfl,D,rfl⟩:=h;refine ⟨J,ns++[m],Q,rs++[(tt,p,y)],g+f,rfl,Tr.le _ aj (Tr.more pl t g _ _ h1),?_,?_,?_,?_⟩
 ·exact Oo
 ·rw [List.map_append];rfl
 ·intro r C
  rcases aQ.1 C with C|C
  ·exact D r C
  rw [aR] at C;subst C;exact I
 rw [pC]
def kH.chain{x}(h:kH pl ps eJ x)(C:ps.length≠1)(p):∃f,Tr (pl++[⟨4,[],em,em,p,0,ps,eJ⟩]) f pl.length x:=by
 obtain ⟨D,ns,I,rs,g,rfl,h1,h2,rfl,A,rfl⟩:=h;refine ⟨g+1,_,u0,.inr (.inr (.inr (.inl ⟨rfl,rfl,D,ns,I,rs,rfl,Tr.more pl _ g _ _ h1,cG.mono (Tr.more pl _ g) _ _ h2,rfl,⟨A,?_⟩,rfl⟩)))⟩;rintro rfl
 cases ns with
 |nil=>exact C rfl
 |cons n ns=>exact h2.elim
def kH.alone{x:Ex}(h:kH pl [m] eJ x):∃f,Tr pl f m x:=by
 obtain ⟨A,ns,C,rs,g,e,h1,h2,rfl,_,rfl⟩:=h;simp only [kO] at e;obtain ⟨rfl,rfl⟩:=e
 cases rs with
 |nil=>exact ⟨g,h1⟩
 |cons r rs=>exact h2.elim
