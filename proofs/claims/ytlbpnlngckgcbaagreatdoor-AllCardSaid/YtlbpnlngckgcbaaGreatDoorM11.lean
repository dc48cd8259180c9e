import Derived.Test.YtlbpnlngckgcbaaGreatDoorM09
import Derived.Test.YtlbpnlngckgcbaaGreatDoorM10
import Derived.Laws.StructEq
import Derived.Deep.Upon
import Derived.RangeFuncNested
import Derived.RangeFuncBound
import Derived.RangeFuncCalls
import Derived.RangeFuncLeaves
import Derived.Shelf.Abstract
import Derived.Shelf.RegionOpen
import Derived.OwnWalkIn
import Derived.TacticsInMore
import Derived.LoopNIn
import Derived.LoopIn
import Derived.Test.YtlbpnlngckgcbaaGreatDoorM02
import Derived.LaidEql
import Derived.Stop.Asserts
import Derived.RowKitTokens
set_option linter.all false
set_option maxHeartbeats 4000000
set_option maxRecDepth 100000
namespace Go.Proofs.YtlbpnlngckgcbaaGreatDoor
open Go.RowKit Go.PlainAid Go.Proofs.Tryz
variable {aD br:Prop} {w w' y z W W':af} {cs:Array ag} {T e:TypeId} {sv v v' tv:ag} {rs:List Rl} {ts:List Ty} {i base off cap n size g' B b1 n1 m:Nat} {ao:Option Addr} {nl:List Sp} {P:Program} {rest:List Oper} {xs:List ag} {α β:Type} {t:Ty}
section
def OA (h:aD:=by
 rintro e w1 ⟨rfl,C⟩;have A:=W0.trans (C.mono W0.size);have sz:=A.size;unfold cm;go_wp2;go_ret;exact ⟨_,rfl,(cq A),ii.nil _ _⟩):aD:=h
def OB (h:aD:=by
 have A:¬((k:Int)<(l.length:Int)):=ai;go_wp2;go_ret;exact ⟨-1,rfl,by rw [qd];decide,HB⟩):aD:=h
def OC (h:aD:=by
 exact ⟨0,ai,rfl,bp.alloc aH _,aL.new _ _ _,ak (fun j e h=>ai)⟩):aD:=h
def bh(ts:List Ty)(s:Sp):List Sp:=match bX ts s.1 with
 |none=>[]
 |some t=>match b9 t s.2 with
  |none=>[]
  |some r=>dw ts t r r.body
def s4(b D ts tl s1 s2 w)(h:MC b w D ts tl):
  Calls prog 209 #[.agg #[D],.agg #[aj s1,aj s2]] w fun e' w'=>∃D,e'=bj D/\an w w'/\ii w.heap.size w' D (bh ts (s1,s2)):=by
 obtain ⟨Y,mn,mc,rfl⟩:=h.form;have W0:an w ((w.alloc (aY aw Y mn mc)).alloc (jB aj s1 aj s2)):=(bp.alloc aH _).alloc au _;have I:=h.below W0;have Z:=(aL.new w #[aw Y mn mc] 75).alloc (jB aj s1 aj s2);unfold bh
 cases V:bX ts s1 with
 |none=>
  have C:=pB b _ ts tl s1 s2 _ I V;simp only;go_enter func209,ntmps209;go_wp2_with fail;refine C.mono ?_;exact OA
 |some t=>
  simp only
  cases ad:b9 t s2 with
  |none=>
   obtain ⟨af,ah,ag,U⟩:=pC b _ ts tl s1 s2 _ I t V ad;simp only;go_enter func209,ntmps209;go_wp2_with fail;refine U.mono ?_;exact OA
  |some r=>
   obtain ⟨af,ah,ag,rl,ay,rv,ac,ae,av,U⟩:=rK b _ ts tl s1 s2 _ I t V r ad;have okp:=ae.okp r ac;simp only;go_enter func209,ntmps209;go_wp2_with fail;refine U.mono ?_;rintro e w1 ⟨rfl,Q⟩;have b1:=Q.alloc Q.size (ba ar t.place aj t.name aw af ah ag);have J:=b1.alloc b1.size (cC ar r.place aj r.name ay rv);have R:=W0.trans (J.mono W0.size);have al:=ae.below J;have ak:=I.below J;have ab:=av.but (But.of_below J);have aA:w1.cell? (aN w.heap.size)=some (aw Y mn mc):=(Z.below Q).cell rfl;have aB:=(Z.below Q).lt;have az:=R.size;go_wp2_with fail;refine (rJ b _ ts tl t _ rl r _ r.body _ _ ak al ab ac ab okp).mono ?_;rintro e aE ⟨aC,rfl,ap,ax⟩;have ai:=R.trans (ap.mono R.size);have am:=ax.base az;go_wp2;go_ret;exact ⟨_,rfl,ai,am⟩
def gY(a c:Sp):Bool:=eqs a.1 c.1&&eqs a.2 c.2
def Yh(a c x y w):(Op.equalIn 10000 291 (.agg #[aj a,aj c]) (.agg #[aj x,aj y])).run prog w=.ok (gY (a,c) (x,y)) w:=by
 have A:=underlying9;rw [show (10000:Nat)=9999+1 from rfl,run_equalIn_agg w 9999 291 _ _ aM aM];simp only [Program.fieldsOf,underlying291]
 go_simp
 rw [show gY (a,c) (x,y)=(decide (a.toList=x.toList)&&decide (c.toList=y.toList)) from by
  unfold gY eqs;rw [aT,aT,aT,aT];simp [Bool.beq_eq_decide_eq]]
 by_cases h1:a.toList=x.toList<;>by_cases h2:c.toList=y.toList<;>simp [h1,h2]
def Ge(w:af):∀n,(w.drewN n).heap=w.heap
 |0=>rfl
 |n+1=>rfl
variable {g:Nat}
def aL.drewN(h:aL w g cs T)(n):aL (w.drewN n) g cs T:=by unfold aL;rw [Ge];exact h
def guardSpot(x y xs ys w):(eqGuard .eql 291 x y (.agg xs) (.agg ys)).run prog w=.ok () w:=run_eqGuard_agg w .eql 291 x y xs ys aM
def UU(base v l x w)(al:l.length<=10000000000000)(h:w.ownsRow base 291 2 v l.length (bI l)):
  Calls prog 224 #[v,.agg #[aj x.1,aj x.2]] w fun e w'=>∃n:Int,e=bj (ar n)/\decide (0<=n)=l.any (fun y=>gY x y)/\an w w':=by
 obtain ⟨sa,sc,rfl⟩:=ax h;have H:=ak h;have ad:=Yh;go_enter func224,ntmps224;go_wp2
 go_loopw [5,8] (fun u i wr=>∃k:Nat,k<=l.length/\i=ar k/\an w wr/\aL wr w.heap.size #[aj x.1,aj x.2] 291/\Hid (∀j,(h:j<l.length)->j<k->gY x l[j]=false)) (fun _ i _=>l.length-(intOf i).toNat)
 ·exact OC
 ·obtain ⟨k,af,rfl,I,J,D⟩:=hrel;have HB:=ak I;have R:=ak J
  by_cases Q:k<l.length
  ·obtain ⟨g,c,e1,k0,k1⟩:=Row2.cell (az (w':=wr) H (fun g cs f _ Y=>I.block g (lt_of_some Y))) k l[k] (aI Q);simp only [aK] at e1;obtain ⟨rfl,_,rfl⟩:=e1;obtain ⟨ac,b1⟩:=J.two;have ah:(k:Int)<(l.length:Int):=ai;have ag:(0:Int)<=(k:Int):=ai
   cases C:gY x l[k]
   ·have V:gY (x.1,x.2) (l[k].1,l[k].2)=false:=C;have U:=ak (show ∀j,(h:j<l.length)->j<k+1->gY x l[j]=false from fun j h ae=>by
     by_cases e:j=k
     ·subst e;exact C
     exact D j h ai)
    go_wp2
    go_quiet (fail)
    go_wp2;go_roundw
    ·exact ⟨k+1,ai,by go_num,below_drewN HB _,R.drewN _,U⟩
    simp [intOf];omega
   have V:gY (x.1,x.2) (l[k].1,l[k].2)=true:=C;have qd:=ak (dh.2 ⟨l[k],bu Q,C⟩:l.any (fun y=>gY x y)=true);go_wp2
   go_quiet (fail)
   go_wp2;go_ret;exact ⟨k,rfl,by rw [qd];simp,below_drewN HB _⟩
  have qd:=ak (show l.any (fun y=>gY x y)=false from by
   rw [jy];intro y ab;obtain ⟨j,Z,rfl⟩:=dB ab;rw [D j Z ai];simp)
  exact OB
def pD(base v l x w)(Q:l.length<=10000000000000)(h:w.ownsRow base 291 2 v l.length (bI l)):
  Calls prog 176 #[v,.agg #[aj x.1,aj x.2]] w fun e w'=>e=bj (.bool (l.any (fun y=>gY x y)))/\an w w':=by
 have C:=fun w' (D:an w w')=>UU base v l x w' Q (az h (fun g cs f _ J=>D.block g (lt_of_some J)))
 obtain ⟨sa,sc,rfl⟩:=ax h;go_enter func176,ntmps176;go_wp2_with fail;refine (C _ (bp.alloc aH _)).mono ?_;rintro e w1 ⟨n,rfl,hn,I⟩;have A:=((aA _ w).alloc aH (jB aj x.1 aj x.2)).trans (I.mono au);go_wp2;go_ret;exact ⟨by rw [<-hn];rfl,A⟩
def bz(a c):eqs a c=true↔a=c:=by
 unfold eqs;rw [dQ]
 constructor
 ·intro h;rw [<-cX a,<-cX c,h]
 rintro rfl;rfl
def qk(a c):gY a c=true↔a=c:=by
 unfold gY;rw [Bool.and_eq_true,bz,bz];obtain ⟨h,A⟩:=a;obtain ⟨c1,c2⟩:=c;simp
end
section
abbrev mj:=@Bool.or_false
abbrev AR:=@Nat.eq_zero_or_pos
def W8 (h:aD:=by
 intro V Z ac Y ad I C J D Q R A;have U:=Yl.app hb bp I (fun h0=>by have:=C h0;first|exact this|exact .inr this) J D Q R (fun i hi ab=>by first|exact A i hi ab|exact A i hi);clear I C J D Q R A Yl ZZ;go_wp2
 go_roundg k
 case measure=>omega
 case rel=>exact ⟨q++bh ts x,f++[x],V,Z,ac,Y,some (aN g6),UZ,au,au,by simpa using U,ak ⟨aS,aS,Ua⟩⟩):aD:=h
def O2(q:br) (h:cj br->aD:=by
 intro zq;intro g6 UZ w6 W9 Gp aan hgl6;have ZX:an w5 (w5.alloc (jB aj x.1 aj x.2)):=bp.alloc aH _;have Ub:=O3.grown hb ZX Gp W9 (by simpa using aan);have XB6:aL w6 wr.heap.size #[aj x.1,aj x.2] 291:=(Gp.block wr.heap.size aS (fun e=>by have:=Ls _ e.symm;omega)).trans (Xa.alloc _);obtain ⟨z0,z1⟩:=XB6.two;have zl:=XB6.lt;have m0:w6.cell? (aN w.heap.size)=some (aw ma mn mc):=Ub.mb.cell rfl;have Ym:=H.ns Ub.ns Ub.bel.size;have s6:=Ub.sz;clear W9 Gp aan hgl6 ZX XB6
 revert g6 UZ w6 Ub z0 z1 zl m0 Ym s6
 exact zq.1):aD:=h ⟨q⟩
def O6(q:br) (h:cj br->aD:=by
 intro zq;have Z0:an wr (wr.alloc (jB aj x.1 aj x.2)):=bp.alloc aH _;have HST:=HT.below hb Z0;have XB:=aL.new wr #[aj x.1,aj x.2] 291;have Ls:∀q,(Value.slice fa f.length fc).ownBlock=some q->q<wr.heap.size:=fun q hq=>(HT.ro.lt q hq).2
 revert Z0 HST XB Ls
 exact zq.1):aD:=h ⟨q⟩
def O7(q:br) (h:cj br->aD:=by
 intro zq;have Yl:=Ub.below hb hb7;have ZZ:=show Src prog 2 288 (aw na (bh ts x).length nc) (bh ts x).length (bI (bh ts x)) w7 from QR.src hrs.1
 have O8:base<=w7.heap.size:=by have:=hb7.size;omega
 revert Yl ZZ O8
 exact zq.1):aD:=h ⟨q⟩
def O9(q:br) (h:cj br->aD:=by
 intro zq;refine (pD _ _ f x _ ai HST.ro).mono ?_;rintro e w5 ⟨rfl,oW⟩;have O3:=HST.below hb oW;have Xa:=XB.below oW;obtain ⟨y0,y1⟩:=Xa.two;have yl:=Xa.lt;have s5:=O3.sz;clear oW
 revert w5 O3 Xa y0 y1 yl s5
 exact zq.1):aD:=h ⟨q⟩
def NS(w w':af):Prop:=∀(g:Nat)(cs:Array ag)(T:TypeId)(f:Nat×Nat),w.heap[g]? =some (Obj.cells cs T f)->T≠291->w'.heap[g]? =w.heap[g]?
def NS.below(h:an w w'):NS w w':=fun g cs T f A _=>h.block g (lt_of_some A)
def NS.trans{x}(h:NS x y)(k:NS y z):NS x z:=fun g cs T f A C=>(k g cs T f ((h g cs T f A C).trans A) C).trans (h g cs T f A C)
variable {b:Nat}
def NS.g(h:NS w w'):oS b w w':=fun g cs f _ A=>h g cs _ f A ay
def RC.ns{rl}(h:RC b w sv rs rl)(k:NS w w'):RC b w' sv rs rl:=
 ⟨h.fst,az h.row (fun g cs f _ A=>k g cs _ f A ay),fun p C=>bA.frame k.g _ _ (h.ex p C),h.len,h.okp,h.okg,h.wf⟩
def MC.ns{tl}(h:MC b w sv ts tl)(k:NS w w')(hs:w.heap.size<=w'.heap.size):MC b w' sv ts tl:=
 ⟨h.fst,az h.row (fun g cs f _ A=>k g cs _ f A ay),fun p C=>by obtain ⟨rl,D⟩:=h.rels p C;exact ⟨rl,D.ns k⟩,h.len,cM h.blt hs⟩
def eR(nd:Sp->List Sp)(f:List Sp):List Sp->Nat
 | []=>0
 |k::ks=>(if f.any (fun y=>gY k y) then 0 else (nd k).length)+eR nd f ks
def pI(nd f x):∀ks,eR nd (f++[x]) ks<=eR nd f ks
 | []=>bV _
 |k::ks=>by
  have h:=pI nd f x ks;simp only [eR,List.any_append]
  cases f.any (fun y=>gY k y)<;>simp
  ·split<;>omega
  exact h
def yL(nd f x)(C:f.any (fun y=>gY x y)=false):∀ks,x∈ks->(nd x).length+eR nd (f++[x]) ks<=eR nd f ks
 | [],h=>by simp at h
 |k::ks,h=>by
  have h1:=pI nd f x ks
  by_cases A:k=x
  ·subst A;have e:gY k k=true:=(qk k k).2 rfl;simp only [eR,List.any_append,C,Bool.false_or,List.any_cons,e,List.any_nil,mj,if_true,Bool.false_eq_true,a8];omega
  have h2:=yL nd f x C ks (by
   rcases List.mem_cons.1 h with e|e
   ·exact absurd e.symm A
   exact e)
  simp only [eR,List.any_append,List.any_cons,List.any_nil,mj];have e:gY k x=false:=by
   cases e:gY k x
   ·rfl
   exact absurd ((qk k x).1 e) A
  rw [e,mj];omega
def Lt(nd f x ks)(h:nd x=[]):(nd x).length+eR nd (f++[x]) ks<=eR nd f ks:=by
 have:=pI nd f x ks;rw [h]
 simpa using this
def hN(ts:List Ty):List Sp:=ts.flatMap fun t=>t.rels.map fun r=>(t.name,r.name)
def U0(ts s)(h:bh ts s≠ []):s∈hN ts:=by
 unfold bh at h
 split at h
 ·exact absurd rfl h
 rename_i t D
 split at h
 ·exact absurd rfl h
 rename_i r C;unfold hN;rw [b6];refine ⟨t,gH D,?_⟩;rw [aU];refine ⟨r,gH C,?_⟩;have e1:=(bz _ _).1 (List.find?_some (p:=fun t:Ty=>eqs t.name s.1) D);have A:=(bz _ _).1 (List.find?_some (p:=fun r:Rl=>eqs r.name s.2) C);obtain ⟨I,J⟩:=s;simp only at e1 A;rw [e1,A]
def rQ(ts f x)(A:f.any (fun y=>gY x y)=false):(bh ts x).length+eR (bh ts) (f++[x]) (hN ts)<=eR (bh ts) f (hN ts):=by
 by_cases h:bh ts x=[]
 ·exact Lt _ _ _ _ h
 exact yL _ _ _ A _ (U0 ts x h)
def eb(nd:Sp->List Sp):Nat->List Sp->List Sp->List Sp
 |0,_,f=>f
 |_+1,[],f=>f
 |k+1,x::q,f=>if f.any (fun y=>gY x y) then eb nd k q f else eb nd k (q++nd x) (f++[x])
def eS(ts:List Ty)(h:List Sp):Nat:=h.length+eR (bh ts) [] (hN ts)
def cU(ts:List Ty)(h:List Sp):List Sp:=eb (bh ts) (eS ts h+1) h []
def ij(ts:List Ty)(h:List Sp)(x:Sp):Bool:=(cU ts h).any (fun y=>gY x y)
def Gq{may}(h:w.keptBut w' may)(hi:i<w.heap.size)(D:∀j,¬may (.cell i j))(C:¬may (.map i)):w'.heap[i]? =w.heap[i]? :=by
 have A:=h.2.2 i hi
 revert A
 cases e1:w.heap[i]? with
 |none=>cases e2:w'.heap[i]? with
  |none=>simp
  |some o'=>intro A;exact A
 |some o=>cases e2:w'.heap[i]? with
  |none=>cases o<;>(intro A;exact A)
  |some o'=>
   cases o with
   |cells c t fr=>
    cases o' with
    |cells c' t' fr'=>
     rintro ⟨rfl,rfl,hs,hc⟩;have:c'=c:=Array.ext_getElem? (fun j=>hc j (D j));rw [this]
    |_=>intro A;exact A
   |map es cl=>
    cases o' with
    |map es' cl'=>
     intro A
     rcases A with A|⟨rfl,rfl⟩
     ·exact absurd A C
     rfl
    |_=>intro A;exact A
   |_=>intro A;exact A
structure QR(base:Nat)(w:af)(ao:Option Addr)(g off cap:Nat)(l:List Sp):Prop where
 came:Came w 2 ao g off l.length cap (bI l)
 max:cap<=maxLen
 at_:0<cap->base<=g
def QR.of_own{l}(h:w.ownsRow base 291 2 v l.length (bI l)):∃ao g cap,v=aw ao l.length cap/\QR base w ao g 0 cap l/\(0<cap->v.ownBlock=some g):=by
 rcases h with ⟨h1,⟨rfl,h2⟩|⟨g,cap,D,rfl,I,C,J,Q,hs,R⟩⟩
 ·refine ⟨none,0,0,by rw [h2],⟨⟨ai,ai,ai,cE _,?_,by intro j A;omega⟩,by unfold maxLen;omega,ai⟩,ai⟩;intro j u A;have:=(List.getElem?_eq_some_iff.1 A).1;rw [cE] at this;omega
 refine ⟨_,g,cap,rfl,⟨⟨J,fun _=>rfl,fun _=>lt_of_some C,cE _,?_,?_⟩,Q,fun _=>I⟩,fun _=>rfl⟩
 ·intro j u A;have U:=(List.getElem?_eq_some_iff.1 A).1;rw [<-R,List.getElem?_take] at A
  split at A
  ·simp [World.cell?,C] at A ⊢;exact A
  simp at A
 intro j A;have:0+l.length*2+j<D.size:=by rw [hs];rw [Nat.sub_mul] at A;omega
 refine ⟨?_,?_⟩
 ·simp [World.cell?,C];omega
 simp [World.frozen?,C]
def QR.frame{g l}(h:QR base w ao g off cap l)(C:0<cap->w'.heap[g]? =w.heap[g]?)(hs:w.heap.size<=w'.heap.size):QR base w' ao g off cap l:=by
 obtain ⟨hc,J,ha⟩:=h;refine ⟨⟨hc.le,hc.addr,fun h0=>cM (hc.lt h0) hs,hc.oldsLen,?_,?_⟩,J,ha⟩
 ·intro j u A;have I:=(List.getElem?_eq_some_iff.1 A).1;have h0:0<cap:=by have:=hc.le;rw [cE] at I;omega
  exact (jw (a:=⟨g,off+j,none⟩) (C h0)).trans (hc.olds j u A)
 intro j A;have h0:0<cap:=by
  rcases AR cap with e|e
  ·subst e;simp at A
  exact e
 have e1:=jw (a:=⟨g,off+l.length*2+j,none⟩) (C h0);have D:=World.frozen?_of_block (a:=⟨g,off+l.length*2+j,none⟩) (C h0);rw [e1,D];exact hc.spare j A
def QR.head{g x l}(h:QR base w ao g off cap (x::l)):0<cap/\ao=some (aC g off)/\w.cell? (aC g off)=some (aj x.1)/\w.cell? (aC g (off+1))=some (aj x.2):=by
 have h0:0<cap:=by have:=h.came.le;simp at this;omega
 refine ⟨h0,h.came.addr h0,?_,?_⟩
 ·exact h.came.olds 0 _ (by simp [bI,FO])
 exact h.came.olds 1 _ (by simp [bI,FO])
def QR.tail{g x l}(h:QR base w ao g off cap (x::l))(U2)(ha:0<cap-1->U2=some (aC g (off+2))):QR base w U2 g (off+2) (cap-1) l:=by
 obtain ⟨hc,I,C⟩:=h;have D:=hc.le;simp only [List.length_cons] at D;refine ⟨⟨ai,ha,fun h0=>hc.lt ai,cE _,?_,?_⟩,ai,fun h0=>C ai⟩
 ·intro j u A;rw [show off+2+j=off+(j+2) by omega];exact hc.olds (j+2) u (by simpa [bI,FO] using A)
 intro j A;have:=hc.spare j (by simp only [List.length_cons];rw [show cap-(l.length+1)=cap-1-l.length by omega];exact A);simp only [List.length_cons] at this;rw [show off+2+l.length*2+j=off+(l.length+1)*2+j by omega];exact this
def QR.app{g r q}(h:QR base w ao g off cap q)(R:base<=w.heap.size)(C:Upon w 291 2 ao g off q.length cap (bI q) w' v' nl.length (bI nl) r):
  ∃J g' Z D,v'=aw J (q++nl).length D/\QR base w' J g' Z D (q++nl)/\(0<D->(0<cap/\g'=g)\/w.heap.size<=g'):=by
 have U:=C.kept.size
 rcases C.val with ⟨V,hv,Y⟩|⟨ab,Q,c2,hv,ho⟩
 ·refine ⟨ao,g,off,cap,by rw [hv,List.length_append],⟨⟨by rw [List.length_append];exact V,h.came.addr,fun h0=>cM (h.came.lt h0) U,cE _,?_,?_⟩,h.max,h.at_⟩,fun h0=> .inl ⟨h0,rfl⟩⟩
  ·intro j u A;have I:=(List.getElem?_eq_some_iff.1 A).1;rw [cE,List.length_append] at I;have h0:0<cap:=ai;rw [C.inArray h.came h0 Y j ai,<-en];exact A
  intro j A;rw [List.length_append] at A ⊢;have h0:0<cap:=by
   rcases AR cap with e|e
   ·subst e;simp at A
   exact e
  have hs:=h.came.spare (nl.length*2+j) (by rw [Nat.sub_mul] at A ⊢;omega);rw [show off+(q.length+nl.length)*2+j=off+q.length*2+(nl.length*2+j) by omega];have ad:=C.ksLen;rw [C.old (h.came.lt h0) (fun j' ac ⟨_,e⟩=>ai),C.frozen _ (h.came.lt h0)];exact hs
 ·refine ⟨_,Q,0,c2,by rw [hv,List.length_append],⟨⟨by rw [List.length_append];exact ho.le,fun _=>rfl,?_,cE _,?_,?_⟩,ho.max,fun _=>aV R ho.new⟩,fun _=> .inr ho.new⟩
  ·intro h0;have:=(ho.there 0 ai).1;exact World.block_lt_of_cell? _ _ (Option.isSome_iff_exists.1 this).choose_spec
  ·intro j u A;have I:=(List.getElem?_eq_some_iff.1 A).1;rw [cE,List.length_append] at I;rw [Nat.zero_add,ho.holds j ai,<-en];exact A
  intro j A;rw [List.length_append,Nat.sub_mul] at A;rw [List.length_append];exact ho.there _ ai
def QR.others{g len r q ks}(h:Upon w 291 2 ao g off len cap q w' v' n ks r)(hi:i<w.heap.size)(C:0<cap->i≠g):w'.heap[i]? =w.heap[i]? :=by
 refine Gq h.kept hi ?_ ?_
 ·rintro j ⟨j',A,e⟩;have h0:=h.capPos A;injection e with e1 D
  exact C h0 e1
 rintro ⟨j',A,e⟩
 cases e
def QR.src{l}(h:w.ownsRow base 291 2 sv l.length (bI l)):Src prog 2 288 sv l.length (bI l) w:=by
 rcases h with ⟨h1,⟨rfl,h2⟩|⟨g,cap,I,rfl,J,C,Q,U,hs,D⟩⟩
 ·have:l=[]:=List.eq_nil_of_length_eq_zero h2;subst this;exact Src.ofNil w underlying288 0
 refine Src.ofSlice w underlying288 _ _ _ _ (cE _) ?_ (Ou l);intro j u A;have R:=(List.getElem?_eq_some_iff.1 A).1;rw [<-D,List.getElem?_take] at A
 split at A
 ·rw [Addr.add_lit];simp [World.cell?,C] at A ⊢;exact A
 simp at A
def oY(b):∀(h:List ag)(o:Nat)(w:af),(w.setCells b o h).tape=w.tape
 | [],_,_=>rfl
 |v::r,o,w=>(oY b r (o+1) _).trans ((aA 0 w).setCell (p:=⟨b,o,none⟩) (Nat.zero_le _) v).tape
def AU(D:P.underlying 288=some (.slice 291)){g q}(h:QR base w ao g off cap q)(ty i z)(hi:P.info? 291=some i)(J:i.zero=some z)(A:i.size=2)(I:i.bytes=32)(V:z.cells.size=2)(x)(hs:Src P 2 288 x nl.length (bI nl) w)(Z:q.length+nl.length<=4000000000000):
  ∃v' w',(Builtin.append_ #[288,288] ty #[aw ao q.length cap,x]).run P w=.ok v' w'/\Upon w 291 2 ao g off q.length cap (bI q) w' v' nl.length (bI nl) (Upon.next q.length cap 2 0 0 nl.length)/\w'.tape=w.tape:=by
 obtain ⟨v',w',e,Q⟩:=run_append_upon (P:=P) h.came 288 288 ty i z 32 D hi J A I V (Upon.start h.came) x nl.length (bI nl) hs fI ai;refine ⟨v',w',e,by simpa using Q,?_⟩;have Y:=cE nl
 by_cases U:q.length+nl.length<=cap
 ·by_cases h0:0<cap
  ·have R:=h.came.addr h0;subst R;have:=run_append_room_src (P:=P) (w:=w) 288 288 ty 291 i D hi g off q.length cap x nl.length (bI nl) (by rw [A];exact hs) U
    (fun j C=>by rw [A];exact (h.came.spare j (by rw [Nat.sub_mul];omega)).1) (fun j C=>by rw [A];exact (h.came.spare j (by rw [Nat.sub_mul];omega)).2)
   rw [e] at this;injection this with h1 h2
   rw [h2];exact oY _ _ _ _
  have hn:nl=[]:=List.eq_nil_of_length_eq_zero ai;subst hn;have:=run_append_nothing (P:=P) w 288 288 ty 291 i D hi ao q.length cap h.came.le x (by rw [A];exact hs);rw [e] at this;injection this with h1 h2
  rw [h2]
 ·have hold:(Builtin.firstCells i.size q.length (aw ao q.length cap)).run P w.drew=.ok (bI q).toArray w.drew:=by
   rw [A]
   by_cases h0:0<cap
   ·rw [h.came.addr h0];exact run_firstCells_some w.drew 2 q.length _ _ _ _ (cE _) (fun j v C=>by rw [Addr.add_lit];exact h.came.olds j v C)
   have ab:=h.came.le;have hn:q=[]:=List.eq_nil_of_length_eq_zero ai;subst hn
   cases ao with
   |none=>exact run_firstCells_none _ _ _ _ _
   |some a=>exact run_firstCells_some w.drew 2 0 _ _ _ [] au (fun j v C=>by simp at C)
  have:=run_append_grow_src (P:=P) (w:=w) 288 288 ty 291 i z D hi J ao q.length cap (bI q) hold x nl.length (bI nl) (by rw [A];exact hs) ai ai (growslice_fits ai (by rw [I];omega));rw [e] at this;injection this with h1 h2
  rw [h2]
  rfl
def mO(Z:P.underlying 288=some (.slice 291)){U:Array Oper}{o:Oper}{a:Act}{Q:Exit->Act->af->Prop}(ae:o.guard=none)(s x:Operand)
  (ho:o.op=.call {callee:=.builtin .append,args:=#[s,x],argTypes:=#[288,288]}) {g:Nat} {D:List Sp} (h:QR base w ao g off cap D)
  (i:TypeInfo) (z:ag) (hi:P.info? 291=some i) (ar:i.zero=some z) (al:i.size=2) (ac:i.bytes=32) (au:z.cells.size=2) (an:a.eval s=aw ao D.length cap)
  (R:ag) (ap:a.eval x=R) (hs:Src P 2 288 R nl.length (bI nl) w) (ah:D.length+nl.length<=4000000000000) (ab:base<=w.heap.size)
  (V:∀I g' J C w',QR base w' I g' J C (D++nl)->(0<C->(0<cap/\g'=g)\/w.heap.size<=g')->w.heap.size<=w'.heap.size->w'.os=w.os->w'.tape=w.tape->w'.output=w.output->(∀i,i<w.heap.size->(0<cap->i≠g)->w'.heap[i]? =w.heap[i]?)->wpList P U Q rest (a.put o.dst (aw I (D.length+nl.length) C)) w'):wpList P U Q (o::rest) a w:=by
 refine wpList_plain ae fun K Y=> ?_
 obtain ⟨v',w',ak,A,am⟩:=AU Z h o.type i z hi ar al ac au R hs ah;unfold Oper.wp;simp [execOp,ho,resolve,invoke,builtin,an,ap,ak,Result.andThen];obtain ⟨I,g',J,C,rfl,aj,ad⟩:=h.app ab A;refine Y _ _ ?_;rw [List.length_append];exact V I g' J C w' aj ad A.kept.size A.kept.1 am A.kept.2.1 (fun i hi ai=>QR.others A hi ai)
def cH(h:w.ownsRow base e size v n xs)
  (k:∀g cs f,v.ownBlock=some g->w.heap[g]? =some (.cells cs e f)->w'.heap[g]? =w.heap[g]?):w'.ownsRow base e size v n xs:=by
 obtain ⟨h1,h2⟩:=h;refine ⟨h1,?_⟩
 rcases h2 with h2|⟨g,cap,A,hv,D,C,r⟩
 ·exact Or.inl h2
 ·exact Or.inr ⟨g,cap,A,hv,D,(k g A (0,0) (by rw [hv];rfl) C).trans C,r⟩
def pJ(nd):∀(k:Nat)(q f:List Sp),(eb nd k q f).length<=f.length+k
 |0,_,f=>by simp [eb]
 |k+1,[],f=>by simp [eb]
 |k+1,x::q,f=>by
  simp only [eb]
  split
  ·have:=pJ nd k q f;omega
  have:=pJ nd k (q++nd x) (f++[x]);simp at this;omega
def td(ts l0):(cU ts l0).length<=eS ts l0+1:=by
 have:=pJ (bh ts) (eS ts l0+1) l0 []
 simpa [cU] using this
def Dg(nd n)(h:∀k,(nd k).length<=n)(f):∀ks,eR nd f ks<=ks.length*n
 | []=>by simp [eR]
 |k::ks=>by
  have h1:=Dg nd n h f ks;have h2:=h k;simp only [eR,List.length_cons,Nat.add_mul,Nat.one_mul]
  split<;>omega
structure Gs(base:Nat)(w wr:af)(mv:ag)(ao:Option Addr)(g off cap:Nat)(q:List Sp)(fv:ag)(f:List Sp):Prop where
 bel:Below base w wr
 ns:NS w wr
 sz:w.heap.size+1<=wr.heap.size
 mb:aL wr w.heap.size #[mv] 75
 qr:QR base wr ao g off cap q
 ro:wr.ownsRow w.heap.size 291 2 fv f.length (bI f)
 far:0<cap->g≠w.heap.size
 old:0<cap->∀cs T fr,w.heap[g]? =some (.cells cs T fr)->T=291
 ne:0<cap->fv.ownBlock≠some g
section
variable {base:Nat}{w wr w':af}{mv:ag}{ao:Option Addr}{g off cap:Nat}{q:List Sp}{fv:ag}{f:List Sp}
def Gs.below(h:Gs base w wr mv ao g off cap q fv f)(C:base<=w.heap.size)(k:an wr w'):Gs base w w' mv ao g off cap q fv f:=
 have h2:=h.sz
 ⟨h.bel.trans (k.mono ai),h.ns.trans (NS.below k),aV h.sz k.size,h.mb.below k,h.qr.frame (fun h0=>k.block g (h.qr.came.lt h0)) k.size,az h.ro (fun g cs f _ A=>k.block g (lt_of_some A)),h.far,h.old,h.ne⟩
def Gs.tail{x}(h:Gs base w wr mv ao g off cap (x::q) fv f)(U2)(ha:0<cap-1->U2=some (aC g (off+2))):Gs base w wr mv U2 g (off+2) (cap-1) q fv f:=
 ⟨h.bel,h.ns,h.sz,h.mb,h.qr.tail U2 ha,h.ro,fun h0=>h.far ai,fun h0=>h.old ai,fun h0=>h.ne ai⟩
def Gs.grown{w6 cap' y}(h:Gs base w wr mv ao g off cap q fv f)(J:base<=w.heap.size)(k:an wr W)(C:W.grownBy w6 fv.ownBlock)(V:w6.ownsRow w.heap.size 291 2 (aw (some (aN g')) (f.length+1) cap') (f.length+1) (bI f++FO y))(R:fv.ownBlock=some g'\/g'=W.heap.size):Gs base w w6 mv ao g off cap q (aw (some (aN g')) (f.length+1) cap') (f++[y]):=by
 have A:=h.below J k;have Y:=A.sz;refine ⟨cA A.bel C ai (fun k U=>aV J (A.ro.lt k U).1),?_,?_,?_,?_,?_,h.far,h.old,?_⟩
 ·intro q cs T fr D Q;have e:=A.ns q cs T fr D Q;exact (C.block q (lt_of_some (e.trans D)) (dT A.ro (e.trans D) Q)).trans e
 ·have:=C.size;omega
 ·exact (C.block _ A.mb.lt (own_ne A.ro A.mb ay)).trans A.mb
 ·exact A.qr.frame (fun h0=>C.block g (A.qr.came.lt h0) (fun e=>A.ne h0 e.symm)) C.size
 ·rw [List.length_append,en,show bI [y]=FO y from by simp [bI]];exact V
 ·intro h0 e;simp only [Value.ownBlock,aR] at e
  rcases R with I|I
  ·exact h.ne h0 (by rw [I,e])
  have:=A.qr.came.lt h0;omega
def Gs.app{U2 off' cap'}(h:Gs base w wr mv ao g off cap q fv f)(V:base<=w.heap.size)(k:an wr W)(Y:QR base w' U2 g' off' cap' (q++nl))(Q:0<cap'->(0<cap/\g'=g)\/W.heap.size<=g')(hs:W.heap.size<=w'.heap.size)(ho:w'.os=W.os)(I:w'.tape=W.tape)(Z:w'.output=W.output)(D:∀i,i<W.heap.size->(0<cap->i≠g)->w'.heap[i]? =W.heap[i]?):Gs base w w' mv U2 g' off' cap' (q++nl) fv f:=by
 have C:=h.below V k;have ab:=C.sz;have U:Below base W w':=⟨ho,I,Z,hs,fun j R=>D j ai (fun h0 e=>by have:=h.qr.at_ h0;omega)⟩;refine ⟨C.bel.trans U,?_,ai,?_,Y,?_,?_,?_,?_⟩
 ·intro j cs T fr A I;have e:=C.ns j cs T fr A I;refine (D j (lt_of_some (e.trans A)) (fun h0 J=> ?_)).trans e;subst J;exact I (h.old h0 cs T fr A)
 ·exact (D _ C.mb.lt (fun h0 e=>h.far h0 e.symm)).trans C.mb
 ·refine cH C.ro (fun j cs fr R A=>D j (lt_of_some A) (fun h0 J=> ?_));subst J;exact h.ne h0 R
 ·intro h0
  rcases Q h0 with ⟨h1,rfl⟩|h1
  ·exact h.far h1
  omega
 ·intro h0 cs T fr A
  rcases Q h0 with ⟨h1,rfl⟩|h1
  ·exact h.old h1 cs T fr A
  have:=lt_of_some A;omega
 ·intro h0 e
  rcases Q h0 with ⟨h1,rfl⟩|h1
  ·exact h.ne h1 e
  have:=(C.ro.lt _ e).2;omega
end
def nw(b base sv ts tl fv l0 w)(h:MC b w sv ts tl)(ax:w.ownsRow base 291 2 fv l0.length (bI l0))(hb:base<=w.heap.size)(aZ:eS ts l0<=2000000000000):
  Calls prog 151 #[.agg #[sv],fv] w fun e' w'=>∃v',e'=bj v'/\Below base w w'/\NS w w'/\w'.ownsRow w.heap.size 291 2 v' (cU ts l0).length (bI (cU ts l0)):=by
 obtain ⟨i0,hi,aF,aG,aI⟩:=eL Tryz.info291;obtain ⟨ma,mn,mc,rfl⟩:=h.form;obtain ⟨ao,g,cap,rfl,hq,aM⟩:=QR.of_own ax;have H:=h;generalize al:cU ts l0=R;have aA:=show eb (bh ts) (eS ts l0+1) l0 []=R from al
 have ar:=show l0.length+eR (bh ts) [] (hN ts)<=eS ts l0 from bV _
 have W0:an w (w.alloc (aY aw ma mn mc)):=bp.alloc aH _;have aB:=(show Gs base w (w.alloc (aY aw ma mn mc)) (aw ma mn mc) ao g 0 cap l0 (aw none 0 0) [] from
  ⟨W0.mono hb,NS.below W0,au,aL.new w _ _,hq.frame (fun h0=>W0.block g (hq.came.lt h0)) W0.size,bQ,fun h0=>by have:=hq.came.lt h0;omega,fun h0 cs T fr az=>by
   rcases ax with ⟨_,⟨e,_⟩|⟨g',aW,aX,e,_,aP,_⟩⟩
   ·simp only [aK] at e;omega
   simp only [aK] at e;have av:=hq.came.addr h0;rw [e.1] at av;simp only [aR,cg] at av;rw [<-av.1,aP] at az;simp only [aR,Obj.cells.injEq] at az;exact az.2.1.symm,fun h0 e=>by cases e⟩)
 have aO:=hq.came.le;clear h ax al W0 hq aM;go_enter func151,ntmps151;go_wp2_with fail
 go_loopg [1,5] (eS ts l0+1) (fun k aU aV wr=>∃(q f:List Sp)(ao:Option Addr)(g off cap:Nat)(fa:Option Addr)(fc:Nat),aU=aw ao q.length cap/\aV=aw fa f.length fc/\Gs base w wr (aw ma mn mc) ao g off cap q (aw fa f.length fc) f/\(f.length+(q.length+eR (bh ts) f (hN ts))<=eS ts l0/\q.length+eR (bh ts) f (hN ts)<k/\eb (bh ts) k q f=R))
 ·exact ⟨l0,[],ao,g,0,cap,none,0,rfl,rfl,aB,ak ⟨by simpa using ar,by have:=ar;omega,aA⟩⟩
 ·clear aB ar aA aO;obtain ⟨q,f,ao,g,off,cap,fa,fc,rfl,rfl,ah,ae⟩:=hrel;have aQ:=ae.2.1;obtain ⟨k,rfl⟩:∃k,gk=k+1:=⟨gk-1,ai⟩;clear aQ;have a4:=ah.sz
  cases q with
  |nil=>
   have al:=ae.2.2;simp only [eb] at al;clear ae;go_wp2;go_ret;rw [<-al];exact ⟨_,rfl,ah.bel,ah.ns,ah.ro⟩
  |cons x q=>
   obtain ⟨a2,rfl,c0,c1⟩:=ah.qr.head;have aJ:=ah.qr.came.le;have a3:f.length+(q.length+1)<=2000000000000:=by have:=ae.1;simp at this;omega
   simp only [List.length_cons] at aJ;go_wp2_with fail
   ·subst h;have HT:=show Gs base w wr (aw ma mn mc) (some (aC g off)) g (off+2) 0 q (aw fa f.length fc) f from ah.tail (some (aC g off)) (fun h=>ai)
    clear ah;refine O6 ?_;intro Z0 HST XB Ls;have ay:0<0->g<wr.heap.size:=fun h0=>HT.qr.came.lt h0
    clear Z0 c0 c1;refine O9 ?_;intro w5 O3 Xa y0 y1 yl s5;clear XB HST HT
    cases ha:f.any (fun z=>gY x z)
    ·obtain ⟨af,ag,Ua⟩:=aE ae;simp only [eb,ha,Bool.false_eq_true,a8] at Ua;have hrs:=rQ ts f x ha;have am:f.length+1+(q.length+(bh ts x).length+eR (bh ts) (f++[x]) (hN ts))<=eS ts l0:=by simp at af;omega
     have ap:q.length+(bh ts x).length+eR (bh ts) (f++[x]) (hN ts)<k:=by simp at ag;omega
     clear af ag hrs ae ha;go_wp2_with (at_builtin;go_must (refine ez rfl underlying288 Tryz.info291 w.heap.size ((O3.ro).alloc _) w5.heap.size 1 (FO x) (w5.heap.size+1) ?uQ));refine O2 ?_;intro g6 UZ w6 Ub z0 z1 zl m0 Ym s6;clear O3 Xa y0 y1 yl s5 Ls ay;go_wp2_with fail;refine (s4 b _ ts tl x.1 x.2 _ Ym).mono ?_;rintro e w7 ⟨aT,rfl,hb7,hrs⟩;obtain ⟨na,nc,rfl⟩:=hrs.form;refine O7 ?_;intro Yl ZZ O8;clear hb7 hrs Ub Ym z0 z1 zl m0;go_wp2_with (at_builtin;go_must (refine mO underlying288 rfl _ _ rfl Yl.qr i0 _ hi aF aG aI rfl rfl (aw na (bh ts x).length nc) rfl ZZ ?hlB O8 ?hKB))
     case hlB=>omega
     exact W8
    obtain ⟨af,ag,Ua⟩:=aE ae;simp only [eb,ha,if_true] at Ua;have am:f.length+(q.length+eR (bh ts) f (hN ts))<=eS ts l0:=by simp at af;omega
    have ap:q.length+eR (bh ts) f (hN ts)<k:=by simp at ag;omega
    clear af ag ae ha;go_wp2
    go_roundg k
    case measure=>omega
    case rel=>exact ⟨q,f,_,g,off+2,0,fa,fc,rfl,rfl,O3,ak ⟨am,ap,Ua⟩⟩
   have HT:=ah.tail (some (aC g (off+2))) (fun h=>rfl);clear ah h;refine O6 ?_;intro Z0 HST XB Ls;have ay:0<cap-1->g<wr.heap.size:=fun h0=>HT.qr.came.lt h0
   clear Z0 c0 c1;refine O9 ?_;intro w5 O3 Xa y0 y1 yl s5;clear XB HST HT
   cases ha:f.any (fun z=>gY x z)
   ·obtain ⟨af,ag,Ua⟩:=aE ae;simp only [eb,ha,Bool.false_eq_true,a8] at Ua;have hrs:=rQ ts f x ha;have am:f.length+1+(q.length+(bh ts x).length+eR (bh ts) (f++[x]) (hN ts))<=eS ts l0:=by simp at af;omega
    have ap:q.length+(bh ts x).length+eR (bh ts) (f++[x]) (hN ts)<k:=by simp at ag;omega
    clear af ag hrs ae ha;go_wp2_with (at_builtin;go_must (refine ez rfl underlying288 Tryz.info291 w.heap.size ((O3.ro).alloc _) w5.heap.size 1 (FO x) (w5.heap.size+1) ?rH));refine O2 ?_;intro g6 UZ w6 Ub z0 z1 zl m0 Ym s6;clear O3 Xa y0 y1 yl s5 Ls ay;go_wp2_with fail;refine (s4 b _ ts tl x.1 x.2 _ Ym).mono ?_;rintro e w7 ⟨aT,rfl,hb7,hrs⟩;obtain ⟨na,nc,rfl⟩:=hrs.form;refine O7 ?_;intro Yl ZZ O8;clear hb7 hrs Ub Ym z0 z1 zl m0;go_wp2_with (at_builtin;go_must (refine mO underlying288 rfl _ _ rfl Yl.qr i0 _ hi aF aG aI rfl rfl (aw na (bh ts x).length nc) rfl ZZ ?hlA O8 ?hKA))
    case hlA=>omega
    exact W8
   obtain ⟨af,ag,Ua⟩:=aE ae;simp only [eb,ha,if_true] at Ua;have am:f.length+(q.length+eR (bh ts) f (hN ts))<=eS ts l0:=by simp at af;omega
   have ap:q.length+eR (bh ts) f (hN ts)<k:=by simp at ag;omega
   clear af ag ae ha;go_wp2
   go_roundg k
   case measure=>omega
   case rel=>exact ⟨q,f,_,g,off+2,cap-1,fa,fc,rfl,rfl,O3,ak ⟨am,ap,Ua⟩⟩
end
section
abbrev km:=@List.take_length
def aap (h:aD:=by
 have:=HUL _ hnl;have:=td ts (dw ts t r yq);omega):aD:=h
def Pa (h:aD:=by
 rw [U3] at kc;exact Pb):aD:=h
def Pc (h:aD:=by
 simp only [bN,List.length_append,List.length_cons,Nat.add_mul,Nat.one_mul];omega):aD:=h
def Gt (h:aD:=by
 subst hv;exact Pb):aD:=h
def Pb (h:aD:=by
 go_wp2;go_roundw
 ·exact ⟨k+1,ai,by go_num,HB,FM⟩
 simp [intOf];omega):aD:=h
def lA(ts:List Ty)(t:Ty)(r:Rl)(p:Ex):Option Nat:=match p.l,p.r with
 |some _,some y=>if fj p.nd.kind=246 then (if ij ts (dw ts t r y) (t.name,r.name) then some p.nd.place else none) else none
 |_,_=>none
def jE(ts:List Ty)(t:Ty)(r:Rl):Option Nat:=(aF r.body).findSome? (lA ts t r)
def nx(nd x y):∀(e:Ex),⟨nd,some x,some y⟩∈aF e->(aF y).length<=(aF e).length
 |⟨n,some a,some c⟩,h=>by
  simp only [aF] at h ⊢;rw [aW,aW,aX] at h;simp only [List.length_append]
  rcases h with (h|h)|h
  ·have:=nx nd x y a h;omega
  ·simp only [Ex.mk.injEq,aR] at h;rw [h.2.2];omega
  have:=nx nd x y c h;omega
 |⟨n,none,c⟩,h=>by
  unfold aF at h;simp at h
 |⟨n,some a,none⟩,h=>by
  unfold aF at h;simp at h
variable {b:Nat}
def yM{rl}(ts t)(h:RC b w tv t.rels rl)(r)(A:r∈t.rels)(e)(C:(aF e).length<=1000):(dw ts t r e).length<=1000000:=by
 have:=Oy ts t h r (h.okg r A) e (aF e).length;unfold NK at this;rw [km] at this;unfold dw;omega
def ik{α β:Type}(f:α->List β)(n):∀(l:List α),(∀a∈l,(f a).length<=n)->(l.flatMap f).length<=l.length*n
 | [],_=>au
 |a::l,h=>by
  have h1:=h a au;have h2:=ik f n l (fun a ha=>h a (by simp [ha]));exact Pc
def Gu{tl}(h:MC b w sv ts tl)(s):(bh ts s).length<=1000000:=by
 unfold bh
 split
 ·simp
 rename_i t C
 split
 ·simp
 rename_i r A;have C:=gH C;have A:=gH A;rw [<-h.fst,aU] at C;obtain ⟨p,I,rfl⟩:=C;obtain ⟨rl,D⟩:=h.rels p I;exact yM ts p.1 D r A r.body (D.okp r A)
def U4{tl}(h:MC b w sv ts tl):(hN ts).length<=1000000:=by
 have:=ik (fun t=>t.rels.map fun r=>(t.name,r.name)) 1000 ts (fun t A=>by
  rw [<-h.fst,aU] at A;obtain ⟨p,C,rfl⟩:=A;obtain ⟨rl,D⟩:=h.rels p C;have:=D.len
  simpa using this)
 have I:=h.len;unfold hN;omega
def rR{tl}(h:MC b w sv ts tl)(l0)(A:l0.length<=1000000):eS ts l0<=1000001000000:=by
 have h1:=Dg (bh ts) 1000000 (Gu h) [] (hN ts);have h2:=U4 h;unfold eS;omega
def vv(b sv ts tl t tv rl r bv w)(h:MC b w sv ts tl)(aB:RC b w tv t.rels rl)(bk:bA b w r.body bv)(aV:r∈t.rels):
  Calls prog 118 #[.agg #[sv],.agg #[ar t.place,aj t.name,tv],.agg #[ar r.place,aj r.name,bv]] w fun e' w'=>e'=bj (jf 6 (jE ts t r))/\an w w':=by
 obtain ⟨I,mn,mc,rfl⟩:=h.form;obtain ⟨ae,ag,af,rfl⟩:=aB.form;obtain ⟨ad,rv,rfl⟩:=bk.isI;have W0:an w (((w.alloc (aY aw I mn mc)).alloc (ba ar t.place aj t.name aw ae ag af)).alloc (cC ar r.place aj r.name ad rv)):=((bp.alloc aH _).alloc au _).alloc aS _;have a7:=ak (h.below W0);have bz:=ak (aB.below W0);have be:=ak (bk.but (But.of_below W0));have bE:=ak (((aL.new w #[aw I mn mc] 75).alloc (ba ar t.place aj t.name aw ae ag af)).alloc (cC ar r.place aj r.name ad rv));have bN:=ak ((aL.new' (w.alloc (aY aw I mn mc)) #[ar t.place,aj t.name,aw ae ag af] 110 (w.heap.size+1) au).alloc (cC ar r.place aj r.name ad rv));have bI:=ak (aL.new' ((w.alloc (aY aw I mn mc)).alloc (ba ar t.place aj t.name aw ae ag af)) #[ar r.place,aj r.name,.iface ad rv] 159 (w.heap.size+2) au);have okp:=aB.okp r aV;have a8:=ak aV;have bt:=ak (fun e ac=>yM ts t aB r aV e ac);have HUL:=ak (fun ce hl=>rR h ce hl);have bc:=ak W0;generalize A:jE ts t r=R;have bw:=ak A;have b6:=a7.blt;go_enter func118,ntmps118;go_wp2_with fail;refine (oh r.body b _ _ b6 be okp).mono ?_;rintro e1 cm ⟨cF,rfl,ab,l,l1,l2,bl⟩;obtain ⟨cz,oc,rfl⟩:=ax bl;have cw:l.length=(aF r.body).length:=by rw [<-l1];simp
 have aO:=ak (bc.trans (ab.mono bc.size));have L1:=ak l1;have L2:=ak l2;have L3:=ak bl;have bD:=ak (a7.below ab);have bL:=ak (bz.below ab);have bM:=ak (be.but (But.of_below ab));have bF:=ak (bE.below ab);have bO:=ak (bN.below ab);have bJ:=ak (bI.below ab);have bn:=aO.size;have f0:=lZ;have f1:=nh;have f2:=ni;have f3:=uM;have f4:=qi;have f5:=ie;go_wp2_with fail
 go_loopw [14] (fun ck wr=>∃(k:Nat),k<=(aF r.body).length/\ck=ar k/\an cm wr/\Hid (((aF r.body).drop k).findSome? (lA ts t r)=R)) (fun u _=>(aF r.body).length-(intOf u).toNat)
 ·exact ⟨0,ai,rfl,aA _ _,bw⟩
 ·obtain ⟨k,cq,rfl,hbr,a9⟩:=hrel;have HB:=ak hbr;have co:=hbr.size
  by_cases cr:k<(aF r.body).length
  ·refine F7 ?_;intro hkl a4 c1 e1 kc;simp only [aK] at e1;obtain ⟨rfl,_,rfl⟩:=e1;refine Oq ?_;intro iN hk';generalize l[k]=q at*;obtain ⟨a4,cE⟩:=q;simp only at kc iN hk';have cb:(k:Int)<((aF r.body).length:Int):=ai;have A:=aE a9;rw [oX _ _ _ _ hk'] at A;have ap:=bG hk';have bs:=ak (bD.below hbr);have bB:=ak (bL.below hbr);have bC:=ak (bM.but (But.of_below hbr));have bH:=ak (bF.below hbr);have bP:=ak (bO.below hbr);have bK:=ak (bJ.below hbr)
   match a4,iN,A,ap with
   |⟨nq,some xq,some yq⟩,⟨vx,vy,hv,rx,ry⟩,A,ap=>
    obtain ⟨aJ,aM,rfl⟩:=rx.isI;obtain ⟨ah,yv,rfl⟩:=ry.isI;have cu:=nx _ _ _ _ ap;have bx:=ak ry;subst hv
    by_cases aG:fj nq.kind=246
    ·rw [aG] at kc;have cd:lA ts t r ⟨nq,some xq,some yq⟩=if ij ts (dw ts t r yq) (t.name,r.name) then some nq.place else none:=by simp [lA,aG]
     rw [cd] at A;have hnl:=bt yq ai;have Z:an wr (wr.alloc (.cells #[ar nq.place,.iface aJ aM,.iface ah yv] 246)):=bp.alloc aH _;have aP:=ak (HB.trans (Z.mono co));have ay:=ak (bs.below Z);have bb:=ak (bB.below Z);have bg:=ak (bC.but (But.of_below Z));have bh:=ak (bx.but (But.of_below Z));have U:=ak (bH.below Z);have Y:=ak (bP.below Z);have V:=ak (bK.below Z);have Q:=ak (aL.new wr #[ar nq.place,.iface aJ aM,.iface ah yv] 246);go_wp2_with fail;have cp:wr.heap.size<(wr.alloc (.cells #[ar nq.place,.iface aJ aM,.iface ah yv] 246)).heap.size:=au;generalize (wr.alloc (.cells #[ar nq.place,.iface aJ aM,.iface ah yv] 246))=W at*;generalize wr.heap.size=bq at*;have cx:W.cell? (aN w.heap.size)=some (aw I mn mc):=U.cell rfl;have cy:=U.lt;obtain ⟨cG,cH,cI⟩:=Y.three;have cJ:=Y.lt;obtain ⟨cK,cL,cM⟩:=V.three;have cN:=V.lt;obtain ⟨cA,a4,cB⟩:=Q.three;have cD:=Q.lt;have bo:=aP.size
     cases hh:ij ts (dw ts t r yq) (t.name,r.name)
     ·rw [hh] at A;have aQ:=ak hh;have FM:=ak A
      go_region_held3 (fun w'=>w'.cell? (aN w.heap.size)=some (aw I mn mc)/\w'.cell? (aN (w.heap.size+1))=some (ar t.place)/\w'.cell? (aC (w.heap.size+1) 1)=some (aj t.name)/\w'.cell? (aC (w.heap.size+1) 2)=some (aw ae ag af)/\w'.cell? (aN (w.heap.size+2))=some (ar r.place)/\w'.cell? (aC (w.heap.size+2) 1)=some (aj r.name)/\w'.cell? (aC (w.heap.size+2) 2)=some (.iface ad rv)/\w'.cell? (aC bq 2)=some (.iface ah yv)) (go_keep)
       (first
       |(go_at_call 177;refine (rJ b _ ts tl t _ rl r _ yq _ _ (ay.below bp.drew) (bb.below bp.drew) (bg.but (But.refl _ _).drew) a8 (bh.but (But.refl _ _).drew) ai).mono ?_;rintro e av ⟨a5,rfl,aR,aX⟩;have C:=ak ((aA _ W).drew.trans aR);have al:=ak (aX:ii W.heap.size av a5 (dw ts t r yq));obtain ⟨cf,cg,rfl⟩:=al.form;have a0:av.cell? (aN w.heap.size)=some (aw I mn mc):=(U.below C).cell rfl;obtain ⟨a1,a2,a3⟩:=(Y.below C).three;obtain ⟨bQ,bR,bS⟩:=(V.below C).three;obtain ⟨bT,bU,bV⟩:=(Q.below C).three)
       |(go_at_call 151;refine (nw b W.heap.size _ ts tl _ _ _ (ay.below C) al.1 C.size (by have:=HUL _ hnl;omega)).mono ?_;rintro e a6 ⟨cl,rfl,aT,_,aW⟩;have D:=ak (C.trans aT);have am:=ak aW;obtain ⟨ch,ci,rfl⟩:=ax am;have bW:a6.cell? (aN w.heap.size)=some (aw I mn mc):=(U.below D).cell rfl;obtain ⟨b1,bX,bY⟩:=(Y.below D).three;obtain ⟨bZ,b0,b2⟩:=(V.below D).three;obtain ⟨b3,b4,b5⟩:=(Q.below D).three)
       |(go_at_call 176;refine (pD _ _ _ (t.name,r.name) _ aap am).mono ?_;rintro e w5 ⟨ac,aU⟩;rw [show ((cU ts (dw ts t r yq)).any fun y=>gY (t.name,r.name) y)=_ from aQ] at ac;subst ac;have J:=ak (D.trans (aU.mono D.size));have c0:w5.cell? (aN w.heap.size)=some (aw I mn mc):=(U.below J).cell rfl;obtain ⟨c1,c2,c3⟩:=(Y.below J).three;obtain ⟨b7,c5,c6⟩:=(V.below J).three;obtain ⟨c7,b8,b9⟩:=(Q.below J).three))
      go_wp2;go_roundw
      ·exact ⟨k+1,ai,by go_num,aP.trans (J.mono bo),by simpa using FM⟩
      simp [intOf];omega
     rw [hh] at A;have aQ:=ak hh;have FM:=ak A
     go_region_held3 (fun w'=>w'.cell? (aN w.heap.size)=some (aw I mn mc)/\w'.cell? (aN (w.heap.size+1))=some (ar t.place)/\w'.cell? (aC (w.heap.size+1) 1)=some (aj t.name)/\w'.cell? (aC (w.heap.size+1) 2)=some (aw ae ag af)/\w'.cell? (aN (w.heap.size+2))=some (ar r.place)/\w'.cell? (aC (w.heap.size+2) 1)=some (aj r.name)/\w'.cell? (aC (w.heap.size+2) 2)=some (.iface ad rv)/\w'.cell? (aC bq 2)=some (.iface ah yv)) (go_keep)
      (first
      |(go_at_call 177;refine (rJ b _ ts tl t _ rl r _ yq _ _ (ay.below bp.drew) (bb.below bp.drew) (bg.but (But.refl _ _).drew) a8 (bh.but (But.refl _ _).drew) ai).mono ?_;rintro e av ⟨a5,rfl,aR,aX⟩;have C:=ak ((aA _ W).drew.trans aR);have al:=ak (aX:ii W.heap.size av a5 (dw ts t r yq));obtain ⟨cf,cg,rfl⟩:=al.form;have a0:av.cell? (aN w.heap.size)=some (aw I mn mc):=(U.below C).cell rfl;obtain ⟨a1,a2,a3⟩:=(Y.below C).three;obtain ⟨bQ,bR,bS⟩:=(V.below C).three;obtain ⟨bT,bU,bV⟩:=(Q.below C).three)
      |(go_at_call 151;refine (nw b W.heap.size _ ts tl _ _ _ (ay.below C) al.1 C.size (by have:=HUL _ hnl;omega)).mono ?_;rintro e a6 ⟨cl,rfl,aT,_,aW⟩;have D:=ak (C.trans aT);have am:=ak aW;obtain ⟨ch,ci,rfl⟩:=ax am;have bW:a6.cell? (aN w.heap.size)=some (aw I mn mc):=(U.below D).cell rfl;obtain ⟨b1,bX,bY⟩:=(Y.below D).three;obtain ⟨bZ,b0,b2⟩:=(V.below D).three;obtain ⟨b3,b4,b5⟩:=(Q.below D).three)
      |(go_at_call 176;refine (pD _ _ _ (t.name,r.name) _ aap am).mono ?_;rintro e w5 ⟨ac,aU⟩;rw [show ((cU ts (dw ts t r yq)).any fun y=>gY (t.name,r.name) y)=_ from aQ] at ac;subst ac;have J:=ak (D.trans (aU.mono D.size));have c0:w5.cell? (aN w.heap.size)=some (aw I mn mc):=(U.below J).cell rfl;obtain ⟨c1,c2,c3⟩:=(Y.below J).three;obtain ⟨b7,c5,c6⟩:=(V.below J).three;obtain ⟨c7,b8,b9⟩:=(Q.below J).three))
     go_wp2_with (go_at_call 73;refine (j9 _ 6 _).mono ?_;rintro e w5 ⟨rfl,rfl⟩);go_ret;rw [<-FM];exact ⟨rfl,aO.trans ((aP.trans (J.mono bo)).mono bn)⟩
    have FM:=ak (by simpa [lA,aG] using A:((aF r.body).drop (k+1)).findSome? (lA ts t r)=R)
    rcases pw nq.kind with U3|U3|U3
    ·exact Pa
    ·exact Pa
    exact absurd U3 aG
   |⟨nq,none,rq⟩,iN,A,ap=>
    have FM:=ak (by simpa [lA] using A:((aF r.body).drop (k+1)).findSome? (lA ts t r)=R)
    rcases iN with ⟨bi,gv,hv,ct⟩|⟨bi,hv⟩|⟨bi,hv⟩
    ·exact Gt
    ·exact Gt
    exact Gt
   |⟨nq,some xq,none⟩,iN,A,ap=>exact iN.elim
  have A:=aE a9;rw [eA ai] at A;have cb:¬((k:Int)<((aF r.body).length:Int)):=ai;have FM:=ak A;go_wp2;go_ret;rw [<-FM];exact ⟨rfl,aO.trans (HB.mono bn)⟩
end
section
section
open Go.Shelf
abbrev vw:=@grownBy_putObj'
abbrev rS:=@List.findSome?_append
abbrev ko:=@List.findSome?_eq_none_iff
abbrev rT:=@List.size_toArray
abbrev vz:=@Array.replicate_succ
abbrev vA:=@List.push_toArray
abbrev vB:=@List.append_toArray
abbrev rU:=@List.getElem_map
abbrev jF:=@List.flatMap_nil
abbrev jG:=@callsIn_wide
abbrev AV:=@KeepsOthers.alloc
abbrev rV:=@CallsIn.inRound
abbrev rW:Obj:=.cells #[.nilIface] 77
def Yn (h:aD:=by
 obtain ⟨a',A,e⟩:=ax hrc.row;exact Gv):aD:=h
def Pd (h:aD:=by
 obtain ⟨a',A,e⟩:=ax hM.row;exact Gv):aD:=h
def Pe (h:aD:=by
 exact ⟨fun p=>Classical.choose (this p),fun p A=>Classical.choose_spec (this p) A⟩):aD:=h
def Gv (h:aD:=by
 simp only [aK,bO] at e;exact e.2.1):aD:=h
def Pf(q:br) (h:cj br->aD:=by
 intro zq;have hvn:vn=rl.length:=by
  exact Yn
 have hv1:vn<=rl.length:=ai;have hv2:rl.length<=vn:=ai;clear hvn;have hrl:rl.length<=1000:=by have:=hrc.llen;simpa using this
 revert hv1 hv2 hrl
 exact zq.1):aD:=h ⟨q⟩
attribute [local go_sem] Oper.semAt_some
def ff(N:Ty->Rl->Option Nat)(ts:List Ty):Option Nat:=ts.findSome? fun t=>t.rels.findSome? (N t)
def KT(w w':af):Prop:=∀(g:Nat)(cs:Array ag)(T:TypeId)(f:Nat×Nat),w.heap[g]? =some (Obj.cells cs T f)->(T=207\/T=159\/T=110)->w'.heap[g]? =w.heap[g]?
def KT.trans{x}(h:KT x y)(k:KT y z):KT x z:=fun g cs T f A C=>(k g cs T f ((h g cs T f A C).trans A) C).trans (h g cs T f A C)
variable {g:Nat}
def KT.set(A:aL w g cs T)(C:¬(T=207\/T=159\/T=110))(o u):KT w (w.setCell (aC g o) u):=
 fun g' I T' f h D=>dY _ _ _ _ (fun (e':g'=g)=>by
  subst e';unfold aL at A;rw [A] at h;simp only [aR,Obj.cells.injEq] at h;exact C (by rw [h.2.1];exact D))
def RC.kt{b rl}(h:RC b w sv rs rl)(k:KT w w'):RC b w' sv rs rl:=
 ⟨h.fst,az h.row (fun g cs f _ A=>k g cs _ f A (.inr (.inl rfl))),fun p C=>bA.frame (fun g cs f _ A=>k g cs _ f A (.inl rfl)) _ _ (h.ex p C),h.len,h.okp,h.okg,h.wf⟩
def MC.kt{b tl}(h:MC b w sv ts tl)(k:KT w w')(hs:w.heap.size<=w'.heap.size):MC b w' sv ts tl:=
 ⟨h.fst,az h.row (fun g cs f _ A=>k g cs _ f A (.inr (.inr rfl))),fun p C=>by obtain ⟨rl,D⟩:=h.rels p C;exact ⟨rl,D.kt k⟩,h.len,cM h.blt hs⟩
def MT(T:TypeId):Prop:=T=207\/T=159\/T=110\/T=75
def CK(W W':af):Prop:=W.heap.size<=W'.heap.size/\∀(g:Nat)(cs:Array ag)(T:TypeId)(f:Nat×Nat),W.heap[g]? =some (Obj.cells cs T f)->MT T->W'.heap[g]? =W.heap[g]?
def CK.trans{X D I:af}(h:CK X D)(k:CK D I):CK X I:=⟨aV h.1 k.1,fun g cs T f A C=>(k.2 g cs T f ((h.2 g cs T f A C).trans A) C).trans (h.2 g cs T f A C)⟩
def CK.below(h:an W W'):CK W W':=⟨h.size,fun g cs T f A _=>h.block g (lt_of_some A)⟩
def CK.kt(h:CK W W'):KT W W':=fun g cs T f A C=>h.2 g cs T f A (by rcases C with e|e|e<;>simp [MT,e])
def CK.b(W l o o')(D:w.heap.size<=l)(h:W.heap[l]? =some o)(C:o.isCells=false)(I:o.isWalk=false):CK W (W.putObj l o'):=
 ⟨(vw W l o').size,fun g cs T f A _=>World.putObj_heap_other (fun e=>by
  subst e;rw [h] at A
  cases A
  cases C)⟩
def CK.blk(h:CK W W')(k:aL W g cs T)(A:MT T):aL W' g cs T:=(h.2 g cs T (0,0) k A).trans k
def CK.mc(h:CK W W'){b tl}(k:MC b W sv ts tl):MC b W' sv ts tl:=k.kt h.kt h.1
def CK.rc(h:CK W W'){b rl}(k:RC b W sv rs rl):RC b W' sv rs rl:=k.kt h.kt
abbrev It:=(Ty×ag)×(Rl×ag)
def itE(x:It):Array ag:=#[.agg #[ar x.1.1.place,aj x.1.1.name,x.1.2],.agg #[ar x.2.1.place,aj x.2.1.name,x.2.2]]
def AW(b:Nat)(w:af)(tl:List (Ty×ag))(x:It):Prop:=x.1∈tl/\∃rl,RC b w x.1.2 x.1.1.rels rl/\x.2∈rl
def U5(b:Nat)(w:af)(tl:List (Ty×ag))(h:Ty×ag->List (Rl×ag)):Prop:=∀p∈tl,RC b w p.2 p.1.rels (h p)
def Pg{b tl}(h:MC b w sv ts tl):∃I,U5 b w tl I:=by
 have:∀p:Ty×ag,∃rl,p∈tl->RC b w p.2 p.1.rels rl:=fun p=>by
  by_cases C:p∈tl
  ·obtain ⟨rl,D⟩:=h.rels p C;exact ⟨rl,fun _=>D⟩
  exact ⟨[],fun e=>absurd e C⟩
 exact Pe
def qp(h:Ty×ag->List (Rl×ag))(tl:List (Ty×ag)):List It:=tl.flatMap fun p=>(h p).map fun q=>(p,q)
def Gw{b tl}{C:Ty×ag->List (Rl×ag)}(h:U5 b w tl C)(x)(A:x∈qp C tl):AW b w tl x:=by
 unfold qp at A;rw [b6] at A;obtain ⟨p,D,A⟩:=A;rw [aU] at A;obtain ⟨q,I,rfl⟩:=A;exact ⟨D,C p,h p D,I⟩
def yN(N b w)(A:Ty×ag->List (Rl×ag)):∀(tl:List (Ty×ag)),U5 b w tl A->ff N (tl.map Prod.fst)=(qp A tl).findSome? fun x=>N x.1.1 x.2.1
 | [],_=>rfl
 |p::tl,h=>by
  have e:(qp A (p::tl))=((A p).map fun q=>(p,q))++qp A tl:=by simp [qp]
  rw [e,rS,List.findSome?_map,<-(yN N b w A tl (fun q D=>h q (by simp [D])))];have C:p.1.rels.findSome? (N p.1)=(A p).findSome? ((fun x:It=>N x.1.1 x.2.1) ∘ fun q=>(p,q)):=by
   rw [<-(h p au).fst,List.findSome?_map]
   rfl
  rw [<-C];unfold ff;rw [bZ,gI]
  cases p.1.rels.findSome? (N p.1)<;>rfl
def vC{α:Type}(P:α->Prop):∀(l:List α),(∀x∈l,P x)->∃L:List {x // P x},L.map Subtype.val=l
 | [],_=>⟨[],rfl⟩
 |x::l,h=>by
  obtain ⟨L,A⟩:=vC P l (fun y C=>h y (by simp [C]));exact ⟨⟨x,h x au⟩::L,by simp [A]⟩
def Dh(f:α->Option β):∀(l p:List α)(x:α)(y:β),p++[x]<+:l->(∀z∈p,f z=none)->f x=some y->l.findSome? f=some y:=by
 rintro l p x y ⟨r,rfl⟩ h1 h2;rw [rS,rS];have:p.findSome? f=none:=ko.2 h1;rw [this];simp [h2]
def oZ(sv w)(hs:∃a n c,sv=aw a n c):Calls prog 150 #[.agg #[sv]] w fun e w'=>e=bj (.func (.func 208) #[] #[bc w.heap.size])/\w'=w.alloc (aY sv):=by
 obtain ⟨a,n,c,rfl⟩:=hs;go_enter func150,ntmps150;go_wp2;go_ret;exact ⟨rfl,rfl⟩
def U6(b:Nat)(w0:af)(aG:ag)(ts:List Ty)(tl:List (Ty×ag))(hM:MC b w0 aG ts tl)(R:Ty×ag->List (Rl×ag))(hF:U5 b w0 tl R)(n:Nat)(bv:1<=n)(l Bn:Nat)(V:List {x:It // AW b w0 tl x})(aZ:V.map Subtype.val=qp R tl)(U au:List {x:It // AW b w0 tl x}->af->Prop)
  (J:af) (az:an w0 J) (av:AbidesFrom J.heap.size U)
  (a5:∀pre x ad,U pre ad->pre.length<V.length->YieldAt Fence.wide (n-1) prog l (itE x.1) ad fun e W'=>(e=bj (.bool true)/\U (pre++[x]) W'/\CK ad W')\/(e=bj (.bool false)/\au (pre++[x]) W'))
  (bk:J.cell? (aN Bn)=some aG) (h0:U [] J):
  CallsIn Fence.wide n prog 208 #[.func (.yield l) #[] #[],bc Bn] J fun e W'=>(∃v,e=bj v)/\((∃aP,aP=V/\U aP W')\/(∃pre,pre<+:V/\au pre W')):=by
 obtain ⟨bz,mn,mc,rfl⟩:=hM.form;have a9:mn=tl.length:=by
  exact Pd
 have bs:mn<=tl.length:=ai;have bt:tl.length<=mn:=ai;clear a9;have bx:tl.length<=1000:=by have:=hM.llen;simpa using this
 have aU:=(CK.below az:CK w0 J);clear az;refine callsIn_of_wp func208 rfl trivial ?_ rfl;simp only [ntmps208,rT,List.length_cons,List.length_nil,Nat.reduceAdd,Nat.reduceSub,vz,Array.replicate_zero,vA,vB,List.nil_append,List.cons_append];gi_wp2
 gi_loopw [10] (fun u wr=>∃(k:Nat)(pre rest:List {x:It // AW b w0 tl x}),k<=mn/\u=ar k/\CK w0 wr/\J.heap.size<=wr.heap.size/\(V=pre++rest/\rest.map Subtype.val=qp R (tl.drop k))/\U pre wr) (fun u _=>mn-(intOf u).toNat)
 ·exact ⟨0,[],V,ai,rfl,aU,bV _,ak ⟨rfl,aZ⟩,h0⟩
 ·obtain ⟨k,pre,rest,bo,rfl,D,bw,ab,Q⟩:=hrel;obtain ⟨I,C⟩:=aE ab
  by_cases bq:k<mn
  ·have am:k<tl.length:=by omega
   obtain ⟨g,aW,e1,k0,k1,aC⟩:=(D.mc hM).row.cell k (by simpa using am);simp only [aK] at e1;obtain ⟨rfl,ap,rfl⟩:=e1;clear ap ab;simp only [rU,t3] at k0 k1 aC;have hrc:=hF tl[k] (bu am);have ay:qp R (tl.drop k)=((R tl[k]).map fun q=>(tl[k],q))++qp R (tl.drop (k+1)):=by
    rw [c9 am];simp only [qp,bN]
   rw [ay] at C;clear ay;generalize tl[k]=p at*;obtain ⟨t,tv⟩:=p;simp only at k0 k1 aC hrc;obtain ⟨Y,vn,Z,rfl⟩:=hrc.form;generalize bb:R (t,aw Y vn Z)=rl at*;clear bb;refine Pf ?_;intro hv1 hv2 hrl;have ae:an wr (wr.alloc (ba ar t.place aj t.name aw Y vn Z)):=bp.alloc aH _;have ah:=D.trans (CK.below ae);have TB:=aL.new wr #[ar t.place,aj t.name,aw Y vn Z] 110;have aR:=av pre wr (wr.alloc (ba ar t.place aj t.name aw Y vn Z)) none Q (World.grownBy_alloc wr _ none) (fun r e=>by cases e);have a8:(k:Int)<(mn:Int):=ai;have aT:=And.intro I C;have be:J.heap.size<=(wr.alloc (ba ar t.place aj t.name aw Y vn Z)).heap.size:=aS;clear ae I C D Q;gi_wp2;generalize (wr.alloc (ba ar t.place aj t.name aw Y vn Z))=ad at*;generalize wr.heap.size=bA at*
   gi_loopw [17] (fun u aI=>∃(j:Nat)(pre rest:List {x:It // AW b w0 tl x}),j<=vn/\u=ar j/\CK ad aI/\(V=pre++rest/\rest.map Subtype.val=((rl.drop j).map fun q=>((t,Value.slice Y vn Z),q))++qp R (tl.drop (k+1)))/\U pre aI) (fun u _=>vn-(intOf u).toNat)
   ·exact ⟨0,pre,rest,ai,rfl,⟨bV _,fun _ _ _ _ _ _=>rfl⟩,aT,aR⟩
   obtain ⟨j,pre,rest,bl,rfl,D,ab,Q⟩:=hrel;obtain ⟨I,C⟩:=aE ab;clear ab
   by_cases bn:j<vn
   ·have al:j<rl.length:=by omega
    obtain ⟨g,aW,e1,aJ,aM,aO⟩:=((ah.trans D).rc hrc).row.cell j (by simpa using al);simp only [aK] at e1;obtain ⟨rfl,ap,rfl⟩:=e1;clear ap;simp only [rU,r3] at aJ aM aO;have hex:=((ah.trans D).rc hrc).ex rl[j] (bu al);rw [c9 al] at C;generalize rl[j]=p at*;obtain ⟨r,bi⟩:=p;simp only at aJ aM aO hex;obtain ⟨aF,rv,rfl⟩:=hex.isI
    cases rest with
    |nil=>simp at C
    |cons x rest=>
     simp only [bZ,List.cons_append,List.cons.injEq] at C;obtain ⟨aA,C⟩:=C;obtain ⟨t0,t1,t2⟩:=(D.blk TB (.inr (.inr (.inl rfl)))).three;have bB:=(D.blk TB (.inr (.inr (.inl rfl)))).lt;have ae:an wr (wr.alloc (cC ar r.place aj r.name aF rv)):=bp.alloc aH _;obtain ⟨fn,bC,bh,body,aB,a4⟩:=a5 pre x _ (av pre wr (wr.alloc (cC ar r.place aj r.name aF rv)) none Q (World.grownBy_alloc wr _ none) (fun r e=>by cases e)) (by rw [I];simp);rw [aA] at aB;simp only [itE] at aB;have aQ:=D.trans (CK.below ae);have a6:(j:Int)<(vn:Int):=ai;have ac:=And.intro I C;clear hex ae I C D Q aA;gi_wp2;refine a4.mono ?_;rintro e bg (⟨rfl,aX,a7⟩|⟨rfl,aY⟩)
     ·gi_wp2;go_roundw
      ·exact ⟨j+1,pre++[x],rest,ai,by go_num,aQ.trans a7,ak ⟨by rw [ac.1];simp,ac.2⟩,aX⟩
      simp [intOf];omega
     gi_wp2;refine bF (results_none rfl _ _ _) rfl ?_;exact ⟨⟨_,rfl⟩,.inr ⟨pre++[x],⟨rest,by rw [ac.1];simp⟩,aY⟩⟩
   have a6:¬((j:Int)<(vn:Int)):=ai;rw [eA ai] at C;have ac:=And.intro I C;clear I C;gi_wp2;go_roundw
   ·exact ⟨k+1,pre,rest,ai,by go_num,ah.trans D,aV be D.1,ak ⟨ac.1,by simpa using ac.2⟩,Q⟩
   simp [intOf];omega
  have a8:¬((k:Int)<(mn:Int)):=ai;rw [eA ai] at C;simp only [qp,jF,List.map_eq_nil_iff] at C;subst C;clear ab D;gi_wp2;go_end0;refine ⟨⟨_,rfl⟩,.inl ?_⟩
  first|exact Q|exact ⟨pre,by rw [I];simp,Q⟩
def yO(b w0 sv ts tl)(U:MC b w0 sv ts tl)(A:Ty×ag->List (Rl×ag))(hF:U5 b w0 tl A)(n)(Y:1<=n)(Bn)(J:aL w0 Bn #[sv] 75)(h:List {x:It // AW b w0 tl x})(R:h.map Subtype.val=qp A tl):
  SeqStopsK Fence.wide n prog 208 #[bc Bn] (fun x:{x:It // AW b w0 tl x}=>itE x.1) CK (fun Z=>Z=h) (fun pre=>pre<+:h) h.length w0:=fun l D I W C Q _ V h0=>
 U6 b w0 sv ts tl U A hF n Y l Bn h R D I W C Q V ((J.below C).cell rfl) h0
def jH(h:an W W'):KeepsFrom B W W':=⟨h.size,fun k o _ A _=>(h.block k (Array.getElem?_eq_some_iff.1 A).1).trans A⟩
def fV(B g cs T):OwnFrom B (fun (_:β) W=>aL W g cs T):=fun _ X C row hs h A=>
 (h.block g (aL.lt hs) (fun e=>by
  obtain ⟨_,o,ho,hc⟩:=A g e.symm;unfold aL at hs;rw [hs] at ho
  cases ho
  cases hc)).trans hs
def JC(F b c:Nat)(be:F=117\/F=118)(ak:ag)(ts:List Ty)(tl:List (Ty×ag))(N:Ty->Rl->Option Nat)(w:af)(h:MC b w ak ts tl)
  (bk:∀w' t tv rl r am,MC b w' ak ts tl->RC b w' tv t.rels rl->bA b w' r.body am->r∈t.rels->Calls prog F #[.agg #[ak],.agg #[ar t.place,aj t.name,tv],.agg #[ar r.place,aj r.name,am]] w' fun e' w''=>e'=bj (jf c (N t r))/\an w' w''):
  Calls prog 116 #[.agg #[ak],.func (.func F) #[.agg #[ak]] #[]] w fun e' w'=>e'=bj (jf c (ff N ts))/\an w w':=by
 obtain ⟨A,mn,mc,rfl⟩:=h.form;refine (jG (n:=8)).1 ?_;refine callsIn_of_wp_marks func116 rfl trivial ?_ rfl;simp only [ntmps116,rT,List.length_cons,List.length_nil,Nat.reduceAdd,Nat.reduceSub,vz,Array.replicate_zero,vA,vB,List.nil_append,List.cons_append];gi_wp2_with fail;refine ⟨trivial,(jG.2 (oZ _ _ ⟨_,_,_,rfl⟩)).mono ?_⟩;rintro e w' ⟨rfl,rfl⟩;gi_wp2_with fail;have ap:an w ((((w.alloc (aY aw A mn mc)).alloc (.cells #[.func (.func F) #[.agg #[aw A mn mc]] #[]] 222)).alloc rW).alloc (aY aw A mn mc)):=((((aA _ w).alloc aH _).alloc au _).alloc aS _).alloc aS _;have aO:aL ((((w.alloc (aY aw A mn mc)).alloc (.cells #[.func (.func F) #[.agg #[aw A mn mc]] #[]] 222)).alloc rW).alloc (aY aw A mn mc)) (w.heap.size+1) #[.func (.func F) #[.agg #[aw A mn mc]] #[]] 222:=((aL.new' (w.alloc (aY aw A mn mc)) _ _ (w.heap.size+1) au).alloc _).alloc _;have az:aL ((((w.alloc (aY aw A mn mc)).alloc (.cells #[.func (.func F) #[.agg #[aw A mn mc]] #[]] 222)).alloc rW).alloc (aY aw A mn mc)) (w.heap.size+1+1) #[.nilIface] 77:=(aL.new' ((w.alloc (aY aw A mn mc)).alloc (.cells #[.func (.func F) #[.agg #[aw A mn mc]] #[]] 222)) _ _ (w.heap.size+1+1) au).alloc _;have aQ:aL ((((w.alloc (aY aw A mn mc)).alloc (.cells #[.func (.func F) #[.agg #[aw A mn mc]] #[]] 222)).alloc rW).alloc (aY aw A mn mc)) (w.heap.size+1+1+1) #[aw A mn mc] 75:=aL.new' _ _ _ _ au;have bn:((((w.alloc (aY aw A mn mc)).alloc (.cells #[.func (.func F) #[.agg #[aw A mn mc]] #[]] 222)).alloc rW).alloc (aY aw A mn mc)).heap.size=w.heap.size+4:=au;have ac:=h.below ap;obtain ⟨W0,bg⟩:∃W0,((((w.alloc (aY aw A mn mc)).alloc (.cells #[.func (.func F) #[.agg #[aw A mn mc]] #[]] 222)).alloc rW).alloc (aY aw A mn mc))=W0:=⟨_,rfl⟩;rw [bg] at ap aO az aQ bn ac ⊢;obtain ⟨aJ,hF⟩:=Pg ac;obtain ⟨L,aV⟩:∃L:List {x:It // AW b W0 tl x},L.map Subtype.val=qp aJ tl:=vC _ _ (Gw hF);have aT:ff N ts=L.findSome? (fun x=>N x.1.1.1 x.1.2.1):=by
  rw [<-ac.fst,yN N b W0 aJ tl hF,<-aV,List.findSome?_map]
  rfl
 refine wpIn_rangeFunc_ownH (F:=Fence.wide) rfl ay (gf:=208) (lb:=#[bc (w.heap.size+1+1+1)]) rfl trivial (enters_of func208 aM rfl)
  (yO b W0 _ ts tl ac aJ hF _ ay _ aQ L aV) (fun h k=>CK.trans h k) (CK.b (w:=W0)) bp (fun _=>rfl)
  (fun pre W=>(∀x∈pre,N x.1.1.1 x.1.2.1=none)/\an W0 W)
  (fun aB pre W=>(aB=.ret/\∃ab x q,pre=ab++[x]/\(∀y∈ab,N y.1.1.1 y.1.2.1=none)/\N x.1.1.1 x.1.2.1=some q/\aL W (w.heap.size+1+1) #[jf c (some q)] 77)/\an w W)
  (OwnFrom.and (ownFrom_pure _ _) (ownFrom_below aH aH))
  (fun aB=>OwnFrom.and (fun s X al row hs av ah=>by
   obtain ⟨h1,ab,x,q,h2,ad,aC,a9⟩:=hs;exact ⟨h1,ab,x,q,h2,ad,aC,fV (β:=Unit) W0.heap.size _ _ _ () X al row a9 av ah⟩) (ownFrom_below aH ai))
  ⟨au,aA _ _⟩
  (fun x a' W=>∃J,W0.heap.size<=J/\aL W J #[ar x.1.1.1.place,aj x.1.1.1.name,x.1.1.2] 110/\aL W (J+1) #[ar x.1.2.1.place,aj x.1.2.1.name,x.1.2.2] 159/\a'={tmps:=#[.agg #[aw A mn mc],.func (.func F) #[.agg #[aw A mn mc]] #[],bc w.heap.size,bc (w.heap.size+1),bc (w.heap.size+1+1),bc J,bc (J+1),undef,.agg #[aw A mn mc],.func (.func 208) #[] #[bc (w.heap.size+1+1+1)],.agg #[ar x.1.1.1.place,aj x.1.1.1.name,x.1.1.2],.agg #[ar x.1.2.1.place,aj x.1.2.1.name,x.1.2.2],undef,undef,undef,undef,undef,undef,undef],defers:=[]})
  (fun x a' _ X al row hs av ah=>by
   obtain ⟨J,h1,h2,ad,aC⟩:=hs;exact ⟨J,h1,fV (β:=Unit) W0.heap.size _ _ _ () X al row h2 av ah,fV (β:=Unit) W0.heap.size _ _ _ () X al row ad av ah,aC⟩)
  ?assign ?body ?done ?stop
 case assign=>
  rintro l pre x W K ⟨Z,D⟩ Q;obtain ⟨⟨⟨t,tv⟩,⟨r,am⟩⟩,aI⟩:=x;obtain ⟨rl,I,U⟩:=aI.2;simp only at I U Q;obtain ⟨a5,a7,a6,rfl⟩:=I.form;obtain ⟨a4,rv,ae⟩:=(I.ex _ U).isI;simp only at ae;subst ae;simp only [itE];have b1:=(aA _ W).alloc aH (ba ar t.place aj t.name aw a5 a7 a6);have aK:=b1.alloc b1.size (cC ar r.place aj r.name a4 rv);gi_wp2_with fail;exact Q _ _ (((AV _ _).trans (AV _ _)).from _) (CK.below aK) ⟨Z,D.trans (aK.mono D.size)⟩ ⟨W.heap.size,D.size,(aL.new W _ _).alloc _,aL.new' _ _ _ _ au,rfl⟩
 case body=>
  rintro l pre x a' W hl ⟨rr,ah⟩ ⟨Z,D⟩ ⟨J,bq,aR,aP,rfl⟩ bs;obtain ⟨⟨⟨t,tv⟩,⟨r,am⟩⟩,aI⟩:=x;obtain ⟨rl,I,U⟩:=aI.2;simp only at I U aR aP;obtain ⟨a5,a7,a6,rfl⟩:=I.form;obtain ⟨a4,rv,ae⟩:=(I.ex _ U).isI;simp only at ae;subst ae;obtain ⟨t0,t1,t2⟩:=aR.three;obtain ⟨bt,bu,bv⟩:=aP.three;have c0:W.cell? (aN (w.heap.size+1))=some (.func (.func F) #[.agg #[aw A mn mc]] #[]):=(aO.below D).cell rfl;have bi:r∈t.rels:=by rw [<-I.fst];exact aU.2 ⟨_,U,rfl⟩
  have C:=bk W t _ rl r _ (ac.below D) (I.below D) ((I.ex _ U).but (But.of_below D)) bi
  rcases be with rfl|rfl
  all_goals
   cases hn:N t r with
   |none=>
    rw [hn] at C;gi_wp2_with fail;refine ⟨trivial,(rV l (jG.2 C)).mono ?_⟩;rintro e a8 ⟨rfl,R⟩;unfold jf;gi_wp2;exact ⟨jH R,CK.below R,fun y ax=>by
     rw [aW,aX] at ax
     rcases ax with ax|rfl
     ·exact Z y ax
     exact hn,D.trans (R.mono D.size)⟩
   |some q=>
    rw [hn] at C;gi_wp2_with fail;refine ⟨trivial,(rV l (jG.2 C)).mono ?_⟩;rintro e a8 ⟨rfl,R⟩;have Y:=(az.below D).below R;have aZ:a8.cell? (aN (w.heap.size+1+1))=some .nilIface:=Y.cell rfl;have bo:=Y.fz;have bh:=(ap.trans (D.mono ai)).trans (R.mono (by have:=D.size;omega));unfold jf fO;gi_wp2;exact ⟨(jH R).trans ((KeepsOthers.setCell _ _ _).from _),⟨rfl,pre,_,q,rfl,Z,hn,Y.set 0 _⟩,bh.setCell (p:=⟨w.heap.size+1+1,0,none⟩) aS _⟩
 case done=>
  rintro V bw W bb rfl ⟨Z,D⟩ Q;have Y:=az.below D;have aZ:W.cell? (aN (w.heap.size+1+1))=some .nilIface:=Y.cell rfl;have bo:=Y.fz;have aE:ff N ts=none:=by rw [aT];exact ko.2 Z
  gi_wp2;have aF:=(KeepsOthers.setCell W ⟨w.heap.size+1+1,0,none⟩ .nilIface).same V _ Q rfl;refine ⟨au,.inl ⟨_,_,rfl,run_takeDeferred aF,?_⟩⟩;have aG:=cell_kept (World.cell?_setCell_same' W ⟨w.heap.size+1+1,0,none⟩ .nilIface (by rw [aZ];rfl)) (vw _ V (.deferred none)) (fun r e=>by cases e;exact ⟨_,aF,rfl⟩);refine ⟨.nilIface,?_,by rw [aE];rfl,((ap.trans (D.mono ai)).setCell (p:=⟨w.heap.size+1+1,0,none⟩) aS _).trans (belowK_b (w:=w) aH _ V _ _ ai aF rfl rfl)⟩;simp [results,Tryz.f116,go_sem,aG]
 case stop=>
  rintro V aB pre W bb bl ⟨⟨rfl,ab,x,q,rfl,h1,h2,ad⟩,D⟩ Q;have aE:ff N ts=some q:=by rw [aT];exact Dh _ L ab x q bl h1 h2
  gi_wp2;refine ⟨au,.inl ⟨_,_,rfl,run_takeDeferred Q,?_⟩⟩;have aG:=cell_kept (ad.cell (o:=0) rfl) (vw _ V (.deferred none)) (fun r e=>by cases e;exact ⟨_,Q,rfl⟩);refine ⟨jf c (some q),?_,by rw [aE],D.trans (belowK_b (w:=w) aH W V _ _ ai Q rfl rfl)⟩;simp [results,Tryz.f116,go_sem,aG]
end
end
abbrev pK:=@List.any_map
def Ph (h:aD:=by
 rw [pK,gU,dh,List.find?_isSome]
 rfl):aD:=h
def Gx (h:aD:=by
 simp only [aK] at e;exact e.2.1):aD:=h
def Gy(q:br) (h:cj br->aD:=by
 intro zq;refine C0.mono ?_;rintro e w2 ⟨rfl,hb2⟩;have B2:=W0.trans (hb2.mono W0.size);have m0:w2.cell? (aN w.heap.size)=some (aw ma mn mc):=(MB.below hb2).cell rfl
 revert w2 hb2 B2 m0
 exact zq.1):aD:=h ⟨q⟩
def Pi(q:br) (h:cj br->aD:=by
 intro zq;refine (C1 _ B2).mono ?_;rintro e w3 ⟨rfl,hb3⟩;have B3:=B2.trans (hb3.mono B2.size);have m1:w3.cell? (aN w.heap.size)=some (aw ma mn mc):=(MB2.below hb3).cell rfl;unfold jf
 revert w3 hb3 B3 m1
 exact zq.1):aD:=h ⟨q⟩
def U7{b2 n2 x1 x2}(h1:w.ownsRow b1 e size v n1 x1)(h2:w.ownsRow b2 e size v n2 x2):n1=n2/\x1=x2:=by
 have hn:n1=n2:=by
  obtain ⟨a,c,rfl⟩:=ax h1;obtain ⟨a',C,e⟩:=ax h2;exact Gx
 subst hn;refine ⟨rfl,List.ext_getElem? fun k=> ?_⟩;have hl:x1.length=x2.length:=h1.1.trans h2.1.symm
 rcases fE k x1.length with h|h
 ·obtain ⟨g,c,e1,c1⟩:=aZ h1 k _ (aI h);obtain ⟨g',C,A,c2⟩:=aZ h2 k _ (aI (show k<x2.length by omega));rw [e1] at A;simp only [aK,aR,cg] at A;obtain ⟨⟨rfl,_⟩,_⟩:=A;rw [c1] at c2;rw [aI h,aI (show k<x2.length by omega)];exact c2
 rw [jA h,jA ai]
def Pj:∀(a c:List E3),a.flatMap c3=c.flatMap c3->a=c
 | [],[],_=>rfl
 | [],e::c,h=>by simp [c3] at h
 |e::a,[],h=>by simp [c3] at h
 |(p,n,v)::a,(p',n',v')::c,h=>by
  simp only [bN,c3,List.cons_append,List.nil_append,List.cons.injEq,Value.int.injEq,Value.string.injEq,true_and] at h;obtain ⟨h1,h2,A,C⟩:=h;rw [Pj a c C,h2,A,show p=p' by omega]
def h6.inj{l1 l2}(h1:h6 w T v l1)(h2:h6 w T v l2):l1=l2:=Pj _ _ (U7 h1 h2).2
def Uc:List ae->List (ae×Nat)->Option Nat
 |_,[]=>none
 |ah,(n,p)::r=>if ah.any (fun m=>eqs m n) then some p else Uc (ah++[n]) r
def yP(n l):(hI n l).isSome=(l.map fun e=>e.2.1).any (fun m=>eqs m n):=by
 unfold hI;exact Ph
def yQ:∀(l ah:List E3),ka ah l=Uc (ah.map fun e=>e.2.1) (l.map fun e=>(e.2.1,e.1))
 | [],ah=>rfl
 |e::l,ah=>by
  have:=yQ l (ah++[e]);simp only [ka,bZ,Uc,yP];rw [this,cK]
  rfl
def twR(rs:List Rl):Option Nat:=Uc [] (rs.map fun r=>(r.name,r.place))
def CB:List ae->List Ty->Option Nat
 |_,[]=>none
 |ah,t::r=>if ah.any (fun m=>eqs m t.name) then some t.place else match twR t.rels with
  |some p=>some p
  |none=>CB (ah++[t.name]) r
def vD(inn):∀(l A:List (Ty×ag)),(∀p∈l,inn (t3 p)=twR p.1.rels)->i8 inn (A.map t3) (l.map t3)=CB (A.map fun p=>p.1.name) (l.map Prod.fst)
 | [],A,_=>rfl
 |p::l,A,h=>by
  have C:=vD inn l (A++[p]) (fun q I=>h q (by simp [I]));have D:=h p au;simp only [bZ,i8,CB,yP,D];rw [cK,cK] at C;simp only [bZ,pz] at C;rw [C,fT]
  rfl
def Yo(w):∃inn:E3->Option Nat,∀e l,h6 w 159 e.2.2 l->inn e=ka [] l:=by
 classical
 refine ⟨fun e=>if h:∃l:List E3,h6 w 159 e.2.2 l then ka [] h.choose else none,?_⟩;intro e l h;have A:∃l:List E3,h6 w 159 e.2.2 l:=⟨l,h⟩;simp only;rw [dif_pos A,h6.inj A.choose_spec h]
def Gz(b sv ts tl w)(h:MC b w sv ts tl):
  Calls prog 115 #[.agg #[sv]] w fun e w'=>e=bj (jf 4 (CB [] ts))/\an w w':=by
 obtain ⟨inn,I⟩:=Yo w;have key:i8 inn [] (tl.map t3)=CB [] ts:=by
  have:=vD inn tl [] (fun p D=>by
   obtain ⟨rl,A⟩:=h.rels p D;rw [I (t3 p) _ A.row,yQ,twR,<-A.fst,fT,fT]
   rfl)
  rw [h.fst] at this;exact this
 rw [<-key];refine F4 inn sv (tl.map t3) w h.llen h.row ?_ ?_
 ·intro e C;rw [aU] at C;obtain ⟨p,D,rfl⟩:=C;obtain ⟨rl,A⟩:=h.rels p D;exact A.form
 ·intro e C w' J;rw [aU] at C;obtain ⟨p,D,rfl⟩:=C;obtain ⟨rl,A⟩:=h.rels p D;rw [I (t3 p) _ A.row];refine F3 _ _ _ _ w' A.llen (A.row.below J) ?_;intro e C;rw [aU] at C;obtain ⟨q,Q,rfl⟩:=C;exact (A.ex q Q).isI
def eB(ts:List Ty):Option (Nat×Nat):=match CB [] ts with
 |some p=>some (p,4)
 |none=>match ff (gX ts) ts with
  |some p=>some (p,5)
  |none=>match ff (jE ts) ts with
   |some p=>some (p,6)
   |none=>none
def GA:Option (Nat×Nat)->ag
 |none=> .nilIface
 |some (p,c)=>fO p c
def yR(b sv ts tl w)(h:MC b w sv ts tl):
  Calls prog 74 #[.agg #[sv]] w fun e w'=>e=bj (GA (eB ts))/\an w w':=by
 obtain ⟨ma,mn,mc,rfl⟩:=h.form;have W0:an w (w.alloc (aY aw ma mn mc)):=bp.alloc aH _;have U:=h.below W0;have MB:=aL.new w #[aw ma mn mc] 75;have C0:=Gz b _ ts tl _ U;have C1:=fun w' (R:an w w')=>JC _ b 5 (.inl rfl) _ ts tl (gX ts) w' (h.below R) (fun w'' t tv rl r I h1 h2 A J=>uU b _ ts tl t tv rl r I w'' h1 h2 A J)
 have C:=fun w' (R:an w w')=>JC _ b 6 (.inr rfl) _ ts tl (jE ts) w' (h.below R) (fun w'' t tv rl r I h1 h2 A J=>vv b _ ts tl t tv rl r I w'' h1 h2 A J)
 unfold eB
 cases h1:CB [] ts with
 |some p=>
  rw [h1] at C0;simp only [GA];go_enter func74,ntmps74;go_wp2_with fail;refine C0.mono ?_;rintro e w2 ⟨rfl,hb2⟩;have B2:=W0.trans (hb2.mono W0.size);unfold jf fO;go_wp2;go_ret;exact ⟨rfl,B2⟩
 |none=>
  rw [h1] at C0;simp only
  cases h2:ff (gX ts) ts with
  |some p=>
   rw [h2] at C1;simp only [GA];go_enter func74,ntmps74;go_wp2_with fail;refine Gy ?_;intro w2 hb2 B2 m0;unfold jf;go_wp2_with fail;refine (C1 _ B2).mono ?_;rintro e w3 ⟨rfl,hb3⟩;have B3:=B2.trans (hb3.mono B2.size);unfold jf fO;go_wp2;go_ret;exact ⟨rfl,B3⟩
  |none=>
   rw [h2] at C1;simp only
   cases A:ff (jE ts) ts with
   |some p=>
    rw [A] at C;simp only [GA];go_enter func74,ntmps74;go_wp2_with fail;refine Gy ?_;intro w2 hb2 B2 m0;have MB2:=MB.below hb2;unfold jf;go_wp2_with fail;refine Pi ?_;intro w3 hb3 B3 m1;go_wp2_with fail;refine (C _ B3).mono ?_;rintro e V ⟨rfl,Q⟩;have D:=B3.trans (Q.mono B3.size);unfold jf fO;go_wp2;go_ret;exact ⟨rfl,D⟩
   |none=>
    rw [A] at C;simp only [GA];go_enter func74,ntmps74;go_wp2_with fail;refine Gy ?_;intro w2 hb2 B2 m0;have MB2:=MB.below hb2;unfold jf;go_wp2_with fail;refine Pi ?_;intro w3 hb3 B3 m1;go_wp2_with fail;refine (C _ B3).mono ?_;rintro e V ⟨rfl,Q⟩;have D:=B3.trans (Q.mono B3.size);unfold jf;go_wp2;go_ret;exact ⟨rfl,D⟩
section
def Pk (h:aD:=by
 obtain ⟨A,C,D⟩:=this;simp only [List.length_append,List.length_cons,List.length_nil] at C;exact ⟨A,ai,ai⟩):aD:=h
def Pl (h:aD:=by
 simp at h;obtain ⟨rfl,rfl⟩:=h;exact Bn.leaf _ _ _ ai (fun h=>by simp at h)):aD:=h
structure Bn(x:Ex)(n:Nat):Prop where
 p:(aF x).length<=n
 g:(bR x).length<=n
 wf:WF x
def Bn.le{x:Ex}(h:Bn x n)(A:n<=m):Bn x m:=⟨aV h.p A,aV h.g A,h.wf⟩
def Bn.leaf(nd r n)(h1:1<=n)(h2:nd.kind=0->nd.gs.length<=n/\nd.gs≠ []):Bn ⟨nd,none,r⟩ n:=by
 refine ⟨by simp [aF];omega,?_,?_⟩
 ·simp only [bR,aF,bN,jF,List.append_nil,eM]
  split
  ·rename_i h;exact (h2 h).1
  simp
 intro p A hl h;simp only [aF,aX] at A;subst A;exact (h2 h).2
def Bn.join{x y}(t p)(A:Bn x n)(C:Bn y m):Bn (dE t p x y) (n+1+m):=by
 refine ⟨?_,?_,?_⟩
 ·have h1:=A.p;have h2:=C.p;simp only [dE,aF,List.length_append,List.length_cons,List.length_nil];omega
 ·have h1:=A.g;have h2:=C.g;unfold bR at*;simp only [dE,aF,cN,bN,jF,List.append_nil,eM,List.length_append];omega
 intro q h hl D;simp only [dE,aF,aW,aX] at h
 rcases h with (h|h)|h
 ·exact A.wf q h hl D
 ·subst h;simp at hl
 exact C.wf q h hl D
def BN(r:Nat->eJ Ex):Prop:=∀i x j,r i=.ok (x,j)->i<j/\Bn x (j-i)
def Di(T P):∀f acc i gs j,dO T P f acc i=.ok (gs,j)->gs≠ []/\gs.length+i<acc.length+j
 |0,_,i,x,j,h=>by simp [dO] at h
 |f+1,acc,i,x,j,h=>by
  unfold dO at h
  split at h
  ·simp at h
  rename_i A;have:=m9 T P _ _ _ A
  split at h
  ·have:=Di T P f _ _ _ _ h;refine ⟨this.1,?_⟩;have h2:=this.2;simp only [List.length_append,List.length_cons,List.length_nil] at h2;omega
  split at h<;>simp at h
  obtain ⟨rfl,rfl⟩:=h;simp;omega
def Pm(T P):BN (j4 T P):=by
 intro i x j h;refine ⟨uF T P _ _ _ h,?_⟩;unfold j4 at h
 split at h
 ·simp at h
 rename_i A;have:=Di T P _ _ _ _ _ A;simp at h;obtain ⟨rfl,rfl⟩:=h;have h2:=this.2;simp only [List.length_nil] at h2;exact Bn.leaf _ _ _ ai (fun _=>⟨by simp only;omega,this.1⟩)
def Lu(T P):BN (hY T P):=by
 intro i x j h;have A:=sW T P _ _ _ h;refine ⟨A,?_⟩;unfold hY at h
 split at h
 ·simp at h
 split at h
 ·split at h
  ·simp at h
  exact Pl
 exact Pl
def Dj(T P room inner)(hi:BN inner):BN (eQ T P room inner):=by
 intro i x j h;unfold eQ at h
 split at h
 ·exact Pm T P _ _ _ h
 split at h
 ·split at h
  ·split at h
   ·simp at h
   rename_i A;have:=hi _ _ _ A
   split at h<;>simp at h
   obtain ⟨rfl,rfl⟩:=h;exact ⟨ai,this.2.le ai⟩
  simp at h
 exact Lu T P _ _ _ h
def Dk(T P l part)(A:BN part)(i0):∀f y i x j,i0<=i->Bn y (i-i0)->joinL T P l part f y i=.ok (x,j)->i<=j/\Bn x (j-i0)
 |0,_,i,x,j,h0,hb,h=>by simp [joinL] at h
 |f+1,y,i,x,j,h0,hb,h=>by
  unfold joinL at h
  split at h
  ·split at h
   ·simp at h
   rename_i C;obtain ⟨h1,h2⟩:=A _ _ _ C;have:=Dk T P l part A i0 f _ _ _ _ ai ((hb.join _ _ h2).le ai) h;exact ⟨ai,this.2⟩
  simp at h;obtain ⟨rfl,rfl⟩:=h;exact ⟨bV _,hb⟩
def qq(T P l part)(A:BN part):BN (eT T P l part):=by
 intro i x j h;unfold eT at h
 split at h
 ·simp at h
 rename_i C;obtain ⟨h1,h2⟩:=A _ _ _ C;have:=Dk T P l part A i _ _ _ _ _ ai h2 h;exact ⟨ai,this.2⟩
def Dl(T P):∀n,BN (fq T P n)
 |0=>qq T P _ _ (qq T P _ _ (Dj T P false _ (fun i x j h=>by simp at h)))
 |n+1=>qq T P _ _ (qq T P _ _ (Dj T P true _ (Dl T P n)))
def U8(T P i r j)(h:kS T P i=.ok (r,j)):Bn r.body j:=by
 unfold kS at h
 split at h
 ·simp at h
 split at h
 ·simp at h
 rename_i A;have:=Dl T P _ _ _ _ A
 split at h<;>simp at h
 obtain ⟨rfl,rfl⟩:=h;exact this.2.le ai
def Dm(T P):∀f acc i rs j,(∀r∈acc,Bn r.body i)->dj T P f acc i=.ok (rs,j)->(∀r∈rs,Bn r.body j)/\rs.length+i<=acc.length+j/\i<j
 |0,_,i,x,j,_,h=>by simp [dj] at h
 |f+1,acc,i,x,j,ha,h=>by
  unfold dj at h
  split at h
  ·simp at h;obtain ⟨rfl,rfl⟩:=h;exact ⟨fun r I=>(ha r I).le ai,ai,ai⟩
  split at h
  ·simp at h
  split at h
  ·simp at h
  rename_i J;have h1:=og T P _ _ _ J;have h2:=U8 T P _ _ _ J;have:=Dm T P f _ _ _ _ (by
   intro r I;rw [aW,aX] at I
   rcases I with I|rfl
   ·exact (ha r I).le ai
   exact h2) h
  exact Pk
def Pn(T P i t j)(h:j5 T P i=.ok (t,j)):(∀r∈t.rels,Bn r.body j)/\t.rels.length<=j:=by
 unfold j5 at h
 split at h
 ·split at h
  ·simp at h
  split at h
  ·simp at h
  rename_i A;have:=Dm T P _ _ _ _ _ au A;simp at h;obtain ⟨rfl,rfl⟩:=h;refine ⟨this.1,?_⟩;have h2:=this.2.1;simp only [List.length_nil] at h2;simp only;omega
 simp at h
def TB(t:Ty)(n:Nat):Prop:=(∀r∈t.rels,Bn r.body n)/\t.rels.length<=n
def TB.le(h:TB t n)(A:n<=m):TB t m:=⟨fun r C=>(h.1 r C).le A,aV h.2 A⟩
def yS(T P):∀f acc i ts j,(∀t∈acc,TB t i)->cR T P f acc i=.ok (ts,j)->(∀t∈ts,TB t j)/\ts.length+i<=acc.length+j/\i<=j
 |0,_,i,x,j,_,h=>by simp [cR] at h
 |f+1,acc,i,x,j,ha,h=>by
  unfold cR at h
  split at h
  ·simp at h;obtain ⟨rfl,rfl⟩:=h;exact ⟨ha,bV _,bV _⟩
  split at h
  ·simp at h
  split at h
  ·simp at h
  rename_i J;have h1:=uH T P _ _ _ J;have h2:=Pn T P _ _ _ J;have:=yS T P f _ _ _ _ (by
   intro t I;rw [aW,aX] at I
   rcases I with I|rfl
   ·exact (ha t I).le ai
   exact h2) h
  exact Pk
def iR(T P ts j)(h:dI T P=.ok (ts,j)):(∀t∈ts,TB t j)/\ts.length<=j:=by
 have:=yS T P _ _ _ _ _ au h;refine ⟨this.1,?_⟩;have h2:=this.2.1;simp only [List.length_nil] at h2;omega
variable {b:Nat}
def RC.of_rep(h:iH (b+1) b w sv rs)(C:∀r∈rs,Bn r.body n)(I:rs.length<=n)(J:n<=500):∃rl,RC b w sv rs rl:=by
 obtain ⟨l,h1,h2,D⟩:=h;refine ⟨l,h1,?_,h2,ai,fun r A=>aV (C r A).p ai,fun r A=>aV (C r A).g ai,fun r A=>(C r A).wf⟩;unfold h6;rw [c3_r3,bO,show l.length=rs.length by rw [<-h1,bO]];exact bn D (Nat.zero_le _)
def MC.of_rep(h:kU (b+1) b w sv ts)(A:∀t∈ts,TB t n)(R:ts.length<=n)(Q:n<=500)(J:b<w.heap.size):∃tl,MC b w sv ts tl:=by
 obtain ⟨l,h1,h2,I⟩:=h;refine ⟨l,h1,?_,?_,ai,J⟩
 ·unfold h6;rw [c3_t3,bO,show l.length=ts.length by rw [<-h1,bO]];exact bn I (Nat.zero_le _)
 intro p D;have C:p.1∈ts:=by rw [<-h1];exact List.mem_map_of_mem D
 exact RC.of_rep (h2 p D) (A p.1 C).1 (A p.1 C).2 Q
end
def Xb (h:aD:=by
 have:=B2.size;omega):aD:=h
def GB(q:br) (h:cj br->aD:=by
 intro zq;refine C0.mono ?_;rintro e w1 ⟨rfl,hb1⟩;have B1:=B0.trans (hb1.mono B0.size);have R1:=R0.below hb1;have U9:=(R0.below hb1).lt;have A1:At (w1.alloc (.cells #[aj s,ar (dH s 0),aj (cI s 0),ar 0] 140)) w1.heap.size s 0 0:=⟨⟨⟨aL.new w1 _ _⟩,Nat.zero_le _⟩,Nat.zero_le _⟩;have C1:=FZ w1.heap.size s 0 _ hs A1 rfl;have R2:=R1.alloc (.cells #[aj s,ar (dH s 0),aj (cI s 0),ar 0] 140);have B2:=B1.alloc B1.size (.cells #[aj s,ar (dH s 0),aj (cI s 0),ar 0] 140)
 revert w1 hb1 B1 R1 U9 A1 C1 R2 B2
 exact zq.1):aD:=h ⟨q⟩
def GC(q:br) (h:cj br->aD:=by
 intro zq;refine CL.mono ?_;rintro e w0 ⟨rfl,hb0⟩;have B0:=((aA _ w).alloc aH (aY aw none 0 0)).trans (hb0.mono au);have R0:=(aL.new w #[aw none 0 0] 75).below hb0;have C0:=oR s 0 0 w0 fI (Nat.zero_le _) rfl
 revert w0 hb0 B0 R0 C0
 exact zq.1):aD:=h ⟨q⟩
def Po(q:br) (h:cj br->aD:=by
 intro zq;refine C4.mono ?_;rintro e w4 ⟨rfl,hb4⟩;have B4:=B3.trans (((aA _ w3).alloc aH (aY aw ma mn mc)).trans (hb4.mono au) |>.mono B3.size);have R4:=(R3.alloc (aY aw ma mn mc)).below hb4
 revert w4 hb4 B4 R4
 exact zq.1):aD:=h ⟨q⟩
def GD(q:br) (h:cj br->aD:=by
 intro zq;have hn:¬((500:Int)<(s.size:Int)):=ai;have CL:=yT s (w.alloc (aY aw none 0 0)) hs
 revert hn CL
 exact zq.1):aD:=h ⟨q⟩
def GF(q:br) (h:cj br->aD:=by
 intro zq;have B3:=B2.trans (b3.below (by have:=B1.size;omega) Xb);have R3:=R2.but b3 ai
 revert B3 R3
 exact zq.1):aD:=h ⟨q⟩
def yT(s w)(hs:s.size<=500):Calls prog 70 #[aj s] w fun e w'=>e=bj (aj s)/\an w w':=by
 have C:=Tryz.stringslite_Clone s w ai;go_enter func70,ntmps70;go_wp2_with fail;refine C.mono ?_;rintro e w' ⟨rfl,A⟩;go_wp2;go_ret;exact ⟨rfl,A⟩
def dy(s:ae):Except (Option Nat×Nat) (List Ty):=if 500<s.size then .error (none,1) else match dI (TT s) (PP s) with
 | .error (c,j)=> .error (some (PP s j),c)
 | .ok (ts,_)=>match eB ts with
  |some (p,c)=> .error (some p,c)
  |none=> .ok ts
def Pp:Option Nat×Nat->ag
 |(none,c)=>cm c
 |(some p,c)=>fO p c
def ny(w:af)(r:Except (Option Nat×Nat) (List Ty))(e:Ending)(w':af):Prop:=an w w'/\match r with
 | .error x=>e=bj (.tuple #[.agg #[aw none 0 0],Pp x])
 | .ok ts=>∃sv tl b,e=bj (.tuple #[.agg #[sv],.nilIface])/\MC b w' sv ts tl
def yU(s w)(hs:500<s.size):Calls prog 40 #[aj s] w (ny w (.error (none,1))):=by
 have hn:(500:Int)<(s.size:Int):=ai;have C:=aL.new w #[aw none 0 0] 75;have A:=aA w.heap.size w;go_enter func40,ntmps40;go_wp2;refine bF (v:=.tuple #[.agg #[aw none 0 0],cm 1]) (cf results40 _ _ w.heap.size _ 75 _ _ rfl rfl ?hB underlying75 rfl aM) rfl ?post
 case hB=>exact ⟨_,(cZ C),bL⟩
 case post=>exact ⟨(cq A),rfl⟩
def Pq(s w)(hs:s.size<=500)(c j)(D:dI (TT s) (PP s)=.error (c,j)):Calls prog 40 #[aj s] w (ny w (.error (some (PP s j),c))):=by
 refine GD ?_;intro hn CL;go_enter func40,ntmps40;go_wp2_with fail;refine GC ?_;intro w0 hb0 B0 R0 C0;go_wp2_with fail;refine GB ?_;intro w1 hb1 B1 R1 U9 A1 C1 R2 B2;rw [D] at C1;go_wp2_with fail;refine C1.mono ?_;rintro e C ⟨b3,v,d',rfl,⟨U,Y,V,rfl⟩,A⟩;have c1:C.cell? (aC w1.heap.size 1)=some (ar (PP s j)):=A.pos.rd.c1;have R:=A.lt;refine GF ?_;intro B3 R3;have I:=R3.cell (o:=0) rfl;simp only [List.getElem_toArray,List.getElem_cons_zero] at I;have Q:=R3.fz;have rl:=R3.lt;have J:¬(w.heap.size=C.heap.size):=ai;unfold cm;go_wp2_with (go_at_call 73;refine (j9 _ c _).mono ?_;rintro e Z ⟨rfl,rfl⟩);refine bF (v:=.tuple #[.agg #[aw none 0 0],fO (PP s j) c]) (cf results40 _ _ w.heap.size _ 75 _ _ rfl rfl ?hB underlying75 rfl aM) rfl ?post
 case hB=>exact ⟨_,(cZ R3),bL⟩
 case post=>exact ⟨(cq B3),rfl⟩
def GG(s w)(hs:s.size<=500)(ts j p c)(A:dI (TT s) (PP s)=.ok (ts,j))(I:eB ts=some (p,c)):Calls prog 40 #[aj s] w (ny w (.error (some p,c))):=by
 refine GD ?_;intro hn CL;go_enter func40,ntmps40;go_wp2_with fail;refine GC ?_;intro w0 hb0 B0 R0 C0;go_wp2_with fail;refine GB ?_;intro w1 hb1 B1 R1 U9 A1 C1 R2 B2;rw [A] at C1;go_wp2_with fail;refine C1.mono ?_;rintro e w3 ⟨b3,v,rfl,⟨sv,rfl,J⟩,C⟩;obtain ⟨tl,D⟩:=MC.of_rep J (iR _ _ _ _ A).1 (iR _ _ _ _ A).2 (by have:=C.le;omega) C.lt;obtain ⟨ma,mn,mc,rfl⟩:=D.form;refine GF ?_;intro B3 R3;have C4:=yR _ _ ts tl _ (D.below (bp.alloc aH (aY aw ma mn mc)));rw [I] at C4;go_wp2_with fail;refine Po ?_;intro w4 hb4 B4 R4;have Q:=R4.cell (o:=0) rfl;simp only [List.getElem_toArray,List.getElem_cons_zero] at Q;have R:=R4.fz;unfold GA fO cm;go_wp2;refine bF (v:=.tuple #[.agg #[aw none 0 0],fO p c]) (cf results40 _ _ w.heap.size _ 75 _ _ rfl rfl ?hB underlying75 rfl aM) rfl ?post
 case hB=>exact ⟨_,(cZ R4),bL⟩
 case post=>exact ⟨(cq B4),rfl⟩
def Va(s w)(hs:s.size<=500)(ts j)(A:dI (TT s) (PP s)=.ok (ts,j))(Q:eB ts=none):Calls prog 40 #[aj s] w (ny w (.ok ts)):=by
 refine GD ?_;intro hn CL;go_enter func40,ntmps40;go_wp2_with fail;refine GC ?_;intro w0 hb0 B0 R0 C0;go_wp2_with fail;refine GB ?_;intro w1 hb1 B1 R1 U9 A1 C1 R2 B2;rw [A] at C1;go_wp2_with fail;refine C1.mono ?_;rintro e w3 ⟨b3,v,rfl,⟨sv,rfl,R⟩,D⟩;obtain ⟨tl,I⟩:=MC.of_rep R (iR _ _ _ _ A).1 (iR _ _ _ _ A).2 (by have:=D.le;omega) D.lt;obtain ⟨ma,mn,mc,rfl⟩:=I.form;refine GF ?_;intro B3 R3;have C:=I.below (bp.alloc aH (aY aw ma mn mc));have C4:=yR _ _ ts tl _ C;rw [Q] at C4;go_wp2_with fail;refine Po ?_;intro w4 hb4 B4 R4;have J:=C.below hb4;have V:w4.cell? (aN w3.heap.size)=some (aw ma mn mc):=((aL.new w3 #[aw ma mn mc] 75).below hb4).cell rfl;have U:=R4.cell (o:=0) rfl;simp only [List.getElem_toArray,List.getElem_cons_zero] at U;have Y:=R4.fz;unfold GA;go_wp2;refine bF (v:=.tuple #[.agg #[aw ma mn mc],.nilIface]) (cf results40 _ _ w.heap.size _ 75 _ _ rfl rfl ?hB underlying75 rfl aM) rfl ?post
 case hB=>exact ⟨_,(cZ R4),bL⟩
 case post=>exact ⟨(cq B4),_,tl,_,rfl,J.kt (KT.set R4 ay 0 _) NE⟩
def qt(s w):Calls prog 40 #[aj s] w (ny w (dy s)):=by
 unfold dy
 split
 ·rename_i h;exact yU s w h
 rename_i h;have hs:s.size<=500:=ai
 split
 ·rename_i c j A;exact Pq s w hs c j A
 rename_i ts j A
 split
 ·rename_i p c hc;exact GG s w hs ts j p c A hc
 rename_i hc;exact Va s w hs ts j A hc
section
open Go.Extern.Stop Go.Stop Go.Extern
def Vb(u)(h:(#[u]:Array ag).size=1)(k:0<1):Array.getLit (n:=1) #[u] 0 h k=u:=rfl
def Xd(u v)(h:(#[u,v]:Array ag).size=2)(k:0<2):Array.getLit (n:=2) #[u,v] 0 h k=u:=rfl
def Xe(u v)(h:(#[u,v]:Array ag).size=2)(k:1<2):Array.getLit (n:=2) #[u,v] 1 h k=v:=rfl
def JD(t w):(ReflectliteValue.unpack (.iface 145 (.pointer (some t)))).run prog w
  =.ok (.agg #[.pointer (some (aC 5 145)),bc w.heap.size,.int .u64 150]) (w.alloc (.cells #[.pointer (some t)] 145)):=aM
def JE(t w):(ReflectliteValue.unpack (.iface 148 (.pointer (some t)))).run prog w
  =.ok (.agg #[.pointer (some (aC 5 148)),bc w.heap.size,.int .u64 150]) (w.alloc (.cells #[.pointer (some t)] 148)):=aM
def JF(c w):(ReflectliteValue.unpack (.iface 134 (ar c))).run prog w
  =.ok (.agg #[.pointer (some (aC 5 134)),bc w.heap.size,.int .u64 130]) (w.alloc (.cells #[ar c] 134)):=aM
def Vc(p e w):(ReflectliteValue.unpack (.iface 147 (.agg #[ar p,e]))).run prog w
  =.ok (.agg #[.pointer (some (aC 5 147)),bc w.heap.size,.int .u64 153]) (w.alloc (.cells #[ar p,e] 147)):=aM
def yV(a w):(ReflectliteValue.methodAny (ReflectliteValue.valueError "reflectlite.Value.Type" 0) (fun t _ _ _=>ReflectliteType.toType t) #[.agg #[.pointer (some (aC 5 145)),.pointer (some a),.int .u64 150]]).run prog w
  =.ok (.iface 325 (.agg #[.pointer (some (aC 5 145))])) w:=aM
def yW(a w):(ReflectliteValue.methodAny (ReflectliteValue.valueError "reflectlite.Value.Type" 0) (fun t _ _ _=>ReflectliteType.toType t) #[.agg #[.pointer (some (aC 5 148)),.pointer (some a),.int .u64 150]]).run prog w
  =.ok (.iface 325 (.agg #[.pointer (some (aC 5 148))])) w:=aM
def qu(h w):(Go.method 545 325 (.agg #[h]) "Kind").run prog w=.ok (292,h) w:=by kernel_rfl
def yX(w):((ReflectliteType.abiMethod fun t=>Functor.map (fun a:Nat=>Value.int IntKind.u8 (a:Int)) (Rtype.kind t)) #[.pointer (some (aC 5 145))]).run prog w=.ok (.int .u8 22) w:=by kernel_rfl
def yY(w):((ReflectliteType.abiMethod fun t=>Functor.map (fun a:Nat=>Value.int IntKind.u8 (a:Int)) (Rtype.kind t)) #[.pointer (some (aC 5 148))]).run prog w=.ok (.int .u8 22) w:=by kernel_rfl
def yZ(w):((ReflectliteType.abiMethod fun t=>Functor.map (fun a:Nat=>Value.int IntKind.u8 (a:Int)) (Rtype.kind t)) #[.pointer (some (aC 5 134))]).run prog w=.ok (.int .u8 2) w:=by kernel_rfl
def y5(w):((ReflectliteType.abiMethod fun t=>Functor.map (fun a:Nat=>Value.int IntKind.u8 (a:Int)) (Rtype.kind t)) #[.pointer (some (aC 5 147))]).run prog w=.ok (.int .u8 25) w:=by kernel_rfl
def vE(a w):(ReflectliteValue.parts (.agg #[.pointer (some (aC 5 145)),.pointer (some a),.int .u64 150])).run prog w=.ok (some (145,a,150)) w:=by kernel_rfl
def vF(a w):(ReflectliteValue.parts (.agg #[.pointer (some (aC 5 148)),.pointer (some a),.int .u64 150])).run prog w=.ok (some (148,a,150)) w:=by kernel_rfl
def Do(a p W)(ha:W.cell? a=some (.pointer (some p))):
  (ReflectliteValue.method (ReflectliteValue.valueError "reflectlite.Value.IsNil" 0) ReflectliteValue.isNil #[.agg #[.pointer (some (aC 5 145)),.pointer (some a),.int .u64 150]]).run prog W=.ok (.bool false) W:=by
 refine Eq.trans (congrArg (fun z:Sem ag=>z.run prog W) (rfl:ReflectliteValue.method _ _ _=ReflectliteValue.parts _ >>= _)) ?_;simp only [Vb,py,vE,Result.andThen];simp [ReflectliteValue.isNil,loadVar,isAgg,underlying,underlying145,ha,Result.andThen]
def Dp(a p W)(ha:W.cell? a=some (.pointer (some p))):
  (ReflectliteValue.method (ReflectliteValue.valueError "reflectlite.Value.IsNil" 0) ReflectliteValue.isNil #[.agg #[.pointer (some (aC 5 148)),.pointer (some a),.int .u64 150]]).run prog W=.ok (.bool false) W:=by
 refine Eq.trans (congrArg (fun z:Sem ag=>z.run prog W) (rfl:ReflectliteValue.method _ _ _=ReflectliteValue.parts _ >>= _)) ?_;simp only [Vb,py,vF,Result.andThen];simp [ReflectliteValue.isNil,loadVar,isAgg,underlying,underlying148,ha,Result.andThen]
def qv(h w):(Go.method 545 325 (.agg #[h]) "Elem").run prog w=.ok (305,.agg #[h]) w:=by kernel_rfl
def qw(h w):(Go.method 545 325 (.agg #[h]) "Implements").run prog w=.ok (306,.agg #[h]) w:=by kernel_rfl
def ml(h w):(Go.method 545 325 (.agg #[h]) "AssignableTo").run prog w=.ok (303,.agg #[h]) w:=by kernel_rfl
def GJ(p h w):(Go.method 545 147 (.agg #[ar p,h]) "Unwrap").run prog w=.ok (297,.agg #[ar p,h]) w:=by kernel_rfl
def y6(w):(ReflectliteType.method ReflectliteType.elem #[.agg #[.pointer (some (aC 5 145))]]).run prog w=.ok (.iface 325 (.agg #[.pointer (some (aC 5 134))])) w:=by kernel_rfl
def y7(w):(ReflectliteType.method ReflectliteType.elem #[.agg #[.pointer (some (aC 5 148))]]).run prog w=.ok (.iface 325 (.agg #[.pointer (some (aC 5 147))])) w:=by kernel_rfl
def y8(w):(ReflectliteType.relation "Implements" ReflectliteType.implements_ #[.agg #[.pointer (some (aC 5 134))],.iface 325 (.agg #[.pointer (some (aC 5 77))])]).run prog w=.ok (.bool true) w:=by kernel_rfl
def y9(w):(ReflectliteType.relation "Implements" ReflectliteType.implements_ #[.agg #[.pointer (some (aC 5 147))],.iface 325 (.agg #[.pointer (some (aC 5 77))])]).run prog w=.ok (.bool true) w:=by kernel_rfl
def nA(v w):(ReflectliteType.typeOf #[.iface 134 v]).run prog w=.ok (.iface 325 (.agg #[.pointer (some (aC 5 134))])) w:=by kernel_rfl
def te(v w):(ReflectliteType.typeOf #[.iface 147 v]).run prog w=.ok (.iface 325 (.agg #[.pointer (some (aC 5 147))])) w:=by kernel_rfl
def vG(w):(ReflectliteType.relation "AssignableTo" ReflectliteType.assignableTo #[.agg #[.pointer (some (aC 5 134))],.iface 325 (.agg #[.pointer (some (aC 5 134))])]).run prog w=.ok (.bool true) w:=by kernel_rfl
def GL(w):(ReflectliteType.relation "AssignableTo" ReflectliteType.assignableTo #[.agg #[.pointer (some (aC 5 147))],.iface 325 (.agg #[.pointer (some (aC 5 134))])]).run prog w=.ok (.bool false) w:=by kernel_rfl
def GM(w):(ReflectliteType.relation "AssignableTo" ReflectliteType.assignableTo #[.agg #[.pointer (some (aC 5 134))],.iface 325 (.agg #[.pointer (some (aC 5 147))])]).run prog w=.ok (.bool false) w:=by kernel_rfl
def GN(w):(ReflectliteType.relation "AssignableTo" ReflectliteType.assignableTo #[.agg #[.pointer (some (aC 5 147))],.iface 325 (.agg #[.pointer (some (aC 5 147))])]).run prog w=.ok (.bool true) w:=by kernel_rfl
def Dq(w):(Rtype.elem? 145).run prog w=.ok (some 134) w:=by kernel_rfl
def Dr(w):(Rtype.elem? 148).run prog w=.ok (some 147) w:=by kernel_rfl
def Vd(p w):(ReflectliteValue.mk 134 p ReflectliteValue.flagAddr).run prog w=.ok (.agg #[.pointer (some (aC 5 134)),.pointer (some p),.int .u64 386]) w:=by kernel_rfl
def Ve(p w):(ReflectliteValue.mk 147 p ReflectliteValue.flagAddr).run prog w=.ok (.agg #[.pointer (some (aC 5 147)),.pointer (some p),.int .u64 409]) w:=by kernel_rfl
def vH(a p W)(ha:W.cell? a=some (.pointer (some p))):
  (ReflectliteValue.method (ReflectliteValue.valueError "reflectlite.Value.Elem" 0) ReflectliteValue.elem #[.agg #[.pointer (some (aC 5 145)),.pointer (some a),.int .u64 150]]).run prog W
   =.ok (.agg #[.pointer (some (aC 5 134)),.pointer (some p),.int .u64 386]) W:=by
 refine Eq.trans (congrArg (fun z:Sem ag=>z.run prog W) (rfl:ReflectliteValue.method _ _ _=ReflectliteValue.parts _ >>= _)) ?_;simp only [Vb,py,vE,Result.andThen];simp [ReflectliteValue.elem,loadVar,isAgg,underlying,underlying145,ha,Result.andThen,Dq,Vd]
def GO(a p W)(ha:W.cell? a=some (.pointer (some p))):
  (ReflectliteValue.method (ReflectliteValue.valueError "reflectlite.Value.Elem" 0) ReflectliteValue.elem #[.agg #[.pointer (some (aC 5 148)),.pointer (some a),.int .u64 150]]).run prog W
   =.ok (.agg #[.pointer (some (aC 5 147)),.pointer (some p),.int .u64 409]) W:=by
 refine Eq.trans (congrArg (fun z:Sem ag=>z.run prog W) (rfl:ReflectliteValue.method _ _ _=ReflectliteValue.parts _ >>= _)) ?_;simp only [Vb,py,vF,Result.andThen];simp [ReflectliteValue.elem,loadVar,isAgg,underlying,underlying148,ha,Result.andThen,Dr,Ve]
def Ds(a w):(ReflectliteValue.parts (.agg #[.pointer (some (aC 5 134)),.pointer (some a),.int .u64 386])).run prog w=.ok (some (134,a,386)) w:=by kernel_rfl
def GQ(a w):(ReflectliteValue.parts (.agg #[.pointer (some (aC 5 134)),.pointer (some a),.int .u64 130])).run prog w=.ok (some (134,a,130)) w:=by kernel_rfl
def Dt(a w):(ReflectliteValue.parts (.agg #[.pointer (some (aC 5 147)),.pointer (some a),.int .u64 409])).run prog w=.ok (some (147,a,409)) w:=by kernel_rfl
def GS(a w):(ReflectliteValue.parts (.agg #[.pointer (some (aC 5 147)),.pointer (some a),.int .u64 153])).run prog w=.ok (some (147,a,153)) w:=by kernel_rfl
def Du(w):(Rtype.directlyAssignable 134 134).run prog w=.ok true w:=by kernel_rfl
def Dv(w):(Rtype.directlyAssignable 147 147).run prog w=.ok true w:=by kernel_rfl
def Dw(ta b c old W)(A:W.cell? b=some (ar c))(D:W.cell? ta=some old)(C:W.frozen? ta=false):
  (ReflectliteValue.set #[.agg #[.pointer (some (aC 5 134)),.pointer (some ta),.int .u64 386],.agg #[.pointer (some (aC 5 134)),.pointer (some b),.int .u64 130]]).run prog W
   =.ok (.tuple #[]) (W.setCell ta (ar c)):=by
 refine Eq.trans (congrArg (fun z:Sem ag=>z.run prog W) (rfl:ReflectliteValue.set _=ReflectliteValue.parts _ >>= _)) ?_;simp only [Xd,Xe,py,Ds,GQ,Result.andThen];simp [ReflectliteValue.flagAddr,loadVar,isAgg,underlying,underlying134,A,Result.andThen,Du,storeVar,Value.cells,storeCells,Addr.add];rw [run_store prog W ta _ _ bL];simp [D,C]
end
section
open Go.Extern.Stop Go.Stop Go.Extern
abbrev vI:=@World.cell?_alloc_lt
abbrev eX(a0:Option Addr)(a1:ag):Obj:=.cells #[.pointer a0,a1,.int .u64 150] 226
def aas (h:aD:=by
 rw [vI _ _ ⟨w.heap.size,0,none⟩ (by simp;omega)];simp):aD:=h
def Xf (h:aD:=by
 rw [World.cell?_alloc_at _ _ _ _ (by simp)];rfl):aD:=h
def AY (h:aD:=by
 rw [vI _ _ ⟨0,0,none⟩ au,vI _ _ ⟨0,0,none⟩ hlt];exact hg):aD:=h
def AZ (h:aD:=by
 rcases AR w.heap.size with h0|h
 ·simp [World.cell?,h0] at hg
 exact h):aD:=h
def A0:=@run_callFunc_extern prog 119 _ (fun args=>ReflectliteValue.unpack (args.getD 0 (.tuple #[]))) func119 aM aM aM aM
def A2:=@run_callFunc_extern prog 120 _ (ReflectliteValue.methodAny (ReflectliteValue.valueError "reflectlite.Value.Type" 0) (fun t _ _ _=>ReflectliteType.toType t)) func120 aM aM aM aM
def A3:=@run_callFunc_extern prog 121 _ (ReflectliteValue.method (ReflectliteValue.valueError "reflectlite.Value.IsNil" 0) ReflectliteValue.isNil) func121 aM aM aM aM
def JG:=@run_callFunc_extern prog 292 _ (ReflectliteType.abiMethod fun t=>do pure (.int .u8 (<-Rtype.kind t))) func292 aM aM aM aM
def JH:=@run_callFunc_extern prog 305 _ (ReflectliteType.method ReflectliteType.elem) func305 aM aM aM aM
def JI:=@run_callFunc_extern prog 306 _ (ReflectliteType.relation "Implements" ReflectliteType.implements_) func306 aM aM aM aM
def JJ:=@run_callFunc_extern prog 178 _ ReflectliteType.typeOf func178 aM aM aM aM
def JK:=@run_callFunc_extern prog 303 _ (ReflectliteType.relation "AssignableTo" ReflectliteType.assignableTo) func303 aM aM aM aM
def Pt:=@run_callFunc_extern prog 179 _ (ReflectliteValue.method (ReflectliteValue.valueError "reflectlite.Value.Elem" 0) ReflectliteValue.elem) func179 aM aM aM aM
def Pu:=@run_callFunc_extern prog 180 _ ReflectliteValue.set func180 aM aM aM aM
def Yp(t w):Calls prog 75 #[.nilIface,t] w fun e w'=>e=bj (.bool false)/\w'=w:=by
 go_enter func75,ntmps75;go_wp2;go_ret;exact ⟨rfl,rfl⟩
def as_58(c tb old w)(hg:w.cell? (aN 0)=some (.iface 325 (.agg #[.pointer (some (aC 5 77))])))(A:aL w tb #[old] 134):
  Calls prog 75 #[.iface 134 (ar c),.iface 145 (bc tb)] w fun C w'=>C=bj (.bool true)/\But tb w w'/\aL w' tb #[ar c] 134:=by
 have ae:=A0;have af:=A2;have ag:=A3;have ak:=JG;have ai:=JH;have aj:=JI;have am:=JJ;have ah:=JK;have an:=Pt;have al:=Pu;have Z:=qu;have V:=qv;have Y:=qw;have U:=ml;have f6:=JD;have f7:=yV;have kp:=yX;have R:=yZ;have I:=y6;have Q:=y8;have ab:=Do ⟨w.heap.size,0,none⟩ ⟨tb,0,none⟩ ((w.alloc (.cells #[bc tb] 145)).alloc (eX (some (aC 5 145)) bc w.heap.size)) au;have hlt:0<w.heap.size:=by
  exact AZ
 have J:((w.alloc (.cells #[bc tb] 145)).alloc (eX (some (aC 5 145)) bc w.heap.size)).cell? (aN 0)=some (.iface 325 (.agg #[.pointer (some (aC 5 77))])):=by
  exact AY
 have ac:=nA;have D:=vG;have ad:=JF;have el:=vH ⟨w.heap.size,0,none⟩ ⟨tb,0,none⟩ (((w.alloc (.cells #[bc tb] 145)).alloc (eX (some (aC 5 145)) bc w.heap.size)).alloc (eX (some (aC 5 145)) bc w.heap.size)) aas;have st:=Dw ⟨tb,0,none⟩ ⟨w.heap.size+1+1+1,0,none⟩ c old ((((w.alloc (.cells #[bc tb] 145)).alloc (eX (some (aC 5 145)) bc w.heap.size)).alloc (eX (some (aC 5 145)) bc w.heap.size)).alloc (.cells #[ar c] 134))
  Xf
  (((((A.alloc _).alloc _).alloc _).alloc _).cell rfl)
  (((((A.alloc _).alloc _).alloc _).alloc _).fz 0)
 go_enter func75,ntmps75;go_wp2;refine uI 1 ?_;rw [rA];go_wp2;go_ret;exact ⟨rfl,((((((But.refl tb w).alloc _).alloc _).alloc _).alloc _).setCell 0 _),(((((A.alloc _).alloc _).alloc _).alloc _).set 0 _)⟩
end
