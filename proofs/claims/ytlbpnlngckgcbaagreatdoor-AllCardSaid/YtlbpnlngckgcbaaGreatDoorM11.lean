import Derived.Test.YtlbpnlngckgcbaaGreatDoorM09
import Derived.Test.YtlbpnlngckgcbaaGreatDoorM10
import Derived.Laws.StructEq
import Derived.Deep.Upon
import Derived.RangeFuncNested
import Derived.RangeFuncBound
import Derived.RangeFuncCalls
import Derived.RangeFuncLeaves
import Derived.Shelf.Abstract
import Derived.Shelf.RegionOpen
import Derived.OwnWalkIn
import Derived.TacticsInMore
import Derived.LoopNIn
import Derived.LoopIn
import Derived.Test.YtlbpnlngckgcbaaGreatDoorM02
import Derived.LaidEql
import Derived.Stop.Asserts
import Derived.RowKitTokens
set_option linter.all false
set_option maxHeartbeats 4000000
set_option maxRecDepth 100000
namespace Go.Proofs.YtlbpnlngckgcbaaGreatDoor
open Go.RowKit Go.PlainAid Go.Proofs.Tryz
variable {aD bq:Prop} {w w' y z W W':af} {cs:Array ag} {T e:TypeId} {sv v v' tv:ag} {rs:List Rl} {ts:List Ty} {i base off cap n size g' B b1 n1 m:Nat} {ao:Option Addr} {nl:List Sp} {P:Program} {rest:List Oper} {xs:List ag} {α β:Type} {t:Ty}
section
def O9 (h:aD:=by
 rintro e w1 ⟨rfl,C⟩;have A:=W0.trans (C.mono W0.size);have sz:=A.size;unfold cm;go_wp2;go_ret;exact ⟨_,rfl,(cq A),io.nil _ _⟩):aD:=h
def Pa (h:aD:=by
 have A:¬((k:Int)<(l.length:Int)):=ai;go_wp2;go_ret;exact ⟨-1,rfl,by rw [qA];decide,HB⟩):aD:=h
def Pb (h:aD:=by
 exact ⟨0,ai,rfl,bo.alloc aH _,aL.new _ _ _,aj (fun j e h=>ai)⟩):aD:=h
def bg(ts:List Ty)(s:Sp):List Sp:=match bW ts s.1 with
 |none=>[]
 |some t=>match b8 t s.2 with
  |none=>[]
  |some r=>dw ts t r r.body
def tL(b D ts tl s1 s2 w)(h:MC b w D ts tl):
  Calls prog 209 #[.agg #[D],.agg #[an s1,an s2]] w fun e' w'=>∃D,e'=bi D/\am w w'/\io w.heap.size w' D (bg ts (s1,s2)):=by
 obtain ⟨Y,mn,mc,rfl⟩:=h.form;have W0:am w ((w.alloc (ba Y mn mc)).alloc (jE s1 s2)):=(bo.alloc aH _).alloc ar _;have I:=h.below W0;have Z:=(aL.new w #[aA Y mn mc] 75).alloc (jE s1 s2);unfold bg
 cases V:bW ts s1 with
 |none=>
  have C:=pS b _ ts tl s1 s2 _ I V;simp only;go_enter func209,ntmps209;go_wp2_with fail;refine C.mono ?_;exact O9
 |some t=>
  simp only
  cases ad:b8 t s2 with
  |none=>
   obtain ⟨af,ah,ag,U⟩:=pT b _ ts tl s1 s2 _ I t V ad;simp only;go_enter func209,ntmps209;go_wp2_with fail;refine U.mono ?_;exact O9
  |some r=>
   obtain ⟨af,ah,ag,rl,ax,rv,ac,ae,av,U⟩:=si b _ ts tl s1 s2 _ I t V r ad;have okp:=ae.okp r ac;simp only;go_enter func209,ntmps209;go_wp2_with fail;refine U.mono ?_;rintro e w1 ⟨rfl,Q⟩;have b1:=Q.alloc Q.size (bG t.place t.name af ah ag);have J:=b1.alloc b1.size (cC r.place r.name ax rv);have R:=W0.trans (J.mono W0.size);have ak:=ae.below J;have aj:=I.below J;have ab:=av.but (But.of_below J);have az:w1.cell? (aP w.heap.size)=some (aA Y mn mc):=(Z.below Q).cell rfl;have aB:=(Z.below Q).lt;have ay:=R.size;go_wp2_with fail;refine (sf b _ ts tl t _ rl r _ r.body _ _ aj ak ab ac ab okp).mono ?_;rintro e aE ⟨aC,rfl,ap,aw⟩;have ai:=R.trans (ap.mono R.size);have al:=aw.base ay;go_wp2;go_ret;exact ⟨_,rfl,ai,al⟩
def g4(a c:Sp):Bool:=eqs a.1 c.1&&eqs a.2 c.2
def YJ(a c x y w):(Op.equalIn 10000 291 (.agg #[an a,an c]) (.agg #[an x,an y])).run prog w=.ok (g4 (a,c) (x,y)) w:=by
 have A:=underlying9;rw [show (10000:Nat)=9999+1 from rfl,run_equalIn_agg w 9999 291 _ _ aM aM];simp only [Program.fieldsOf,underlying291]
 go_simp
 rw [show g4 (a,c) (x,y)=(decide (a.toList=x.toList)&&decide (c.toList=y.toList)) from by
  unfold g4 eqs;rw [aT,aT,aT,aT];simp [Bool.beq_eq_decide_eq]]
 by_cases h1:a.toList=x.toList<;>by_cases h2:c.toList=y.toList<;>simp [h1,h2]
def GN(w:af):∀n,(w.drewN n).heap=w.heap
 |0=>rfl
 |n+1=>rfl
variable {g:Nat}
def aL.drewN(h:aL w g cs T)(n):aL (w.drewN n) g cs T:=by unfold aL;rw [GN];exact h
def guardSpot(x y xs ys w):(eqGuard .eql 291 x y (.agg xs) (.agg ys)).run prog w=.ok () w:=run_eqGuard_agg w .eql 291 x y xs ys aM
def Vn(base v l x w)(ak:l.length<=10000000000000)(h:w.ownsRow base 291 2 v l.length (bI l)):
  Calls prog 224 #[v,.agg #[an x.1,an x.2]] w fun e w'=>∃n:Int,e=bi (au n)/\decide (0<=n)=l.any (fun y=>g4 x y)/\am w w':=by
 obtain ⟨sa,sc,rfl⟩:=aw h;have H:=aj h;have ad:=YJ;go_enter func224,ntmps224;go_wp2
 go_loopw [5,8] (fun u i wr=>∃k:Nat,k<=l.length/\i=au k/\am w wr/\aL wr w.heap.size #[an x.1,an x.2] 291/\Hid (∀j,(h:j<l.length)->j<k->g4 x l[j]=false)) (fun _ i _=>l.length-(intOf i).toNat)
 ·exact Pb
 ·obtain ⟨k,af,rfl,I,J,D⟩:=hrel;have HB:=aj I;have R:=aj J
  by_cases Q:k<l.length
  ·obtain ⟨g,c,e1,k0,k1⟩:=Row2.cell (ay (w':=wr) H (fun g cs f _ Y=>I.block g (lt_of_some Y))) k l[k] (aI Q);simp only [aK] at e1;obtain ⟨rfl,_,rfl⟩:=e1;obtain ⟨ac,b1⟩:=J.two;have ah:(k:Int)<(l.length:Int):=ai;have ag:(0:Int)<=(k:Int):=ai
   cases C:g4 x l[k]
   ·have V:g4 (x.1,x.2) (l[k].1,l[k].2)=false:=C;have U:=aj (show ∀j,(h:j<l.length)->j<k+1->g4 x l[j]=false from fun j h ae=>by
     by_cases e:j=k
     ·subst e;exact C
     exact D j h ai)
    go_wp2
    go_quiet (fail)
    go_wp2;go_roundw
    ·exact ⟨k+1,ai,by go_num,below_drewN HB _,R.drewN _,U⟩
    simp [intOf];omega
   have V:g4 (x.1,x.2) (l[k].1,l[k].2)=true:=C;have qA:=aj (dg.2 ⟨l[k],br Q,C⟩:l.any (fun y=>g4 x y)=true);go_wp2
   go_quiet (fail)
   go_wp2;go_ret;exact ⟨k,rfl,by rw [qA];simp,below_drewN HB _⟩
  have qA:=aj (show l.any (fun y=>g4 x y)=false from by
   rw [jB];intro y ab;obtain ⟨j,Z,rfl⟩:=dB ab;rw [D j Z ai];simp)
  exact Pa
def pU(base v l x w)(Q:l.length<=10000000000000)(h:w.ownsRow base 291 2 v l.length (bI l)):
  Calls prog 176 #[v,.agg #[an x.1,an x.2]] w fun e w'=>e=bi (.bool (l.any (fun y=>g4 x y)))/\am w w':=by
 have C:=fun w' (D:am w w')=>Vn base v l x w' Q (ay h (fun g cs f _ J=>D.block g (lt_of_some J)))
 obtain ⟨sa,sc,rfl⟩:=aw h;go_enter func176,ntmps176;go_wp2_with fail;refine (C _ (bo.alloc aH _)).mono ?_;rintro e w1 ⟨n,rfl,hn,I⟩;have A:=((az _ w).alloc aH (jE x.1 x.2)).trans (I.mono ar);go_wp2;go_ret;exact ⟨by rw [<-hn];rfl,A⟩
def bz(a c):eqs a c=true↔a=c:=by
 unfold eqs;rw [dS]
 constructor
 ·intro h;rw [<-cW a,<-cW c,h]
 rintro rfl;rfl
def qH(a c):g4 a c=true↔a=c:=by
 unfold g4;rw [Bool.and_eq_true,bz,bz];obtain ⟨h,A⟩:=a;obtain ⟨c1,c2⟩:=c;simp
end
section
abbrev my:=@Bool.or_false
abbrev Br:=@Nat.eq_zero_or_pos
def XA (h:aD:=by
 intro V Z ac Y ad I C J D Q R A;have U:=YN.app hb bo I (fun h0=>by have:=C h0;first|exact this|exact .inr this) J D Q R (fun i hi ab=>by first|exact A i hi ab|exact A i hi);clear I C J D Q R A YN SRC;go_wp2
 go_roundg k
 case measure=>omega
 case rel=>exact ⟨q++bg ts x,f++[x],V,Z,ac,Y,some (aP g6),Vs,ar,ar,by simpa using U,aj ⟨aS,aS,UC⟩⟩):aD:=h
def Py(q:bq) (h:cj bq->aD:=by
 intro zq;intro g6 Vs w6 XC G0 aaP hgl6;have bx5:am w5 (w5.alloc (jE x.1 x.2)):=bo.alloc aH _;have UD:=Pz.grown hb bx5 G0 XC (by simpa using aaP);have XB6:aL w6 wr.heap.size #[an x.1,an x.2] 291:=(G0.block wr.heap.size aS (fun e=>by have:=LZ _ e.symm;omega)).trans (XD.alloc _);obtain ⟨z0,z1⟩:=XB6.two;have zl:=XB6.lt;have m0:w6.cell? (aP w.heap.size)=some (aA ma mn mc):=UD.mb.cell rfl;have YO:=H.ns UD.ns UD.bel.size;have s6:=UD.sz;clear XC G0 aaP hgl6 bx5 XB6
 revert g6 Vs w6 UD z0 z1 zl m0 YO s6
 exact zq.1):aD:=h ⟨q⟩
def PA(q:bq) (h:cj bq->aD:=by
 intro zq;have hbx:am wr (wr.alloc (jE x.1 x.2)):=bo.alloc aH _;have HST:=HT.below hb hbx;have XB:=aL.new wr #[an x.1,an x.2] 291;have LZ:∀q,(Value.slice fa f.length fc).ownBlock=some q->q<wr.heap.size:=fun q hq=>(HT.ro.lt q hq).2
 revert hbx HST XB LZ
 exact zq.1):aD:=h ⟨q⟩
def PC(q:bq) (h:cj bq->aD:=by
 intro zq;have YN:=UD.below hb hb7;have SRC:=show Src prog 2 288 (aA na (bg ts x).length nc) (bg ts x).length (bI (bg ts x)) w7 from QR.src hrs.1
 have PD:base<=w7.heap.size:=by have:=hb7.size;omega
 revert YN SRC PD
 exact zq.1):aD:=h ⟨q⟩
def PE(q:bq) (h:cj bq->aD:=by
 intro zq;refine (pU _ _ f x _ ai HST.ro).mono ?_;rintro e w5 ⟨rfl,pf⟩;have Pz:=HST.below hb pf;have XD:=XB.below pf;obtain ⟨y0,y1⟩:=XD.two;have yl:=XD.lt;have s5:=Pz.sz;clear pf
 revert w5 Pz XD y0 y1 yl s5
 exact zq.1):aD:=h ⟨q⟩
def NS(w w':af):Prop:=∀(g:Nat)(cs:Array ag)(T:TypeId)(f:Nat×Nat),w.heap[g]? =some (Obj.cells cs T f)->T≠291->w'.heap[g]? =w.heap[g]?
def NS.below(h:am w w'):NS w w':=fun g cs T f A _=>h.block g (lt_of_some A)
def NS.trans{x}(h:NS x y)(k:NS y z):NS x z:=fun g cs T f A C=>(k g cs T f ((h g cs T f A C).trans A) C).trans (h g cs T f A C)
variable {b:Nat}
def NS.g(h:NS w w'):o8 b w w':=fun g cs f _ A=>h g cs _ f A ax
def RC.ns{rl}(h:RC b w sv rs rl)(k:NS w w'):RC b w' sv rs rl:=
 ⟨h.fst,ay h.row (fun g cs f _ A=>k g cs _ f A ax),fun p C=>bA.frame k.g _ _ (h.ex p C),h.len,h.okp,h.okg,h.wf⟩
def MC.ns{tl}(h:MC b w sv ts tl)(k:NS w w')(hs:w.heap.size<=w'.heap.size):MC b w' sv ts tl:=
 ⟨h.fst,ay h.row (fun g cs f _ A=>k g cs _ f A ax),fun p C=>by obtain ⟨rl,D⟩:=h.rels p C;exact ⟨rl,D.ns k⟩,h.len,cM h.blt hs⟩
def eS(nd:Sp->List Sp)(f:List Sp):List Sp->Nat
 | []=>0
 |k::ks=>(if f.any (fun y=>g4 k y) then 0 else (nd k).length)+eS nd f ks
def p8(nd f x):∀ks,eS nd (f++[x]) ks<=eS nd f ks
 | []=>bV _
 |k::ks=>by
  have h:=p8 nd f x ks;simp only [eS,List.any_append]
  cases f.any (fun y=>g4 k y)<;>simp
  ·split<;>omega
  exact h
def zn(nd f x)(C:f.any (fun y=>g4 x y)=false):∀ks,x∈ks->(nd x).length+eS nd (f++[x]) ks<=eS nd f ks
 | [],h=>by simp at h
 |k::ks,h=>by
  have h1:=p8 nd f x ks
  by_cases A:k=x
  ·subst A;have e:g4 k k=true:=(qH k k).2 rfl;simp only [eS,List.any_append,C,Bool.false_or,List.any_cons,e,List.any_nil,my,if_true,Bool.false_eq_true,aZ];omega
  have h2:=zn nd f x C ks (by
   rcases List.mem_cons.1 h with e|e
   ·exact absurd e.symm A
   exact e)
  simp only [eS,List.any_append,List.any_cons,List.any_nil,my];have e:g4 k x=false:=by
   cases e:g4 k x
   ·rfl
   exact absurd ((qH k x).1 e) A
  rw [e,my];omega
def L0(nd f x ks)(h:nd x=[]):(nd x).length+eS nd (f++[x]) ks<=eS nd f ks:=by
 have:=p8 nd f x ks;rw [h]
 simpa using this
def hP(ts:List Ty):List Sp:=ts.flatMap fun t=>t.rels.map fun r=>(t.name,r.name)
def Vt(ts s)(h:bg ts s≠ []):s∈hP ts:=by
 unfold bg at h
 split at h
 ·exact absurd rfl h
 rename_i t D
 split at h
 ·exact absurd rfl h
 rename_i r C;unfold hP;rw [bZ];refine ⟨t,gI D,?_⟩;rw [aU];refine ⟨r,gI C,?_⟩;have e1:=(bz _ _).1 (List.find?_some (p:=fun t:Ty=>eqs t.name s.1) D);have A:=(bz _ _).1 (List.find?_some (p:=fun r:Rl=>eqs r.name s.2) C);obtain ⟨I,J⟩:=s;simp only at e1 A;rw [e1,A]
def sr(ts f x)(A:f.any (fun y=>g4 x y)=false):(bg ts x).length+eS (bg ts) (f++[x]) (hP ts)<=eS (bg ts) f (hP ts):=by
 by_cases h:bg ts x=[]
 ·exact L0 _ _ _ _ h
 exact zn _ _ _ A _ (Vt ts x h)
def ed(nd:Sp->List Sp):Nat->List Sp->List Sp->List Sp
 |0,_,f=>f
 |_+1,[],f=>f
 |k+1,x::q,f=>if f.any (fun y=>g4 x y) then ed nd k q f else ed nd k (q++nd x) (f++[x])
def eT(ts:List Ty)(h:List Sp):Nat:=h.length+eS (bg ts) [] (hP ts)
def cT(ts:List Ty)(h:List Sp):List Sp:=ed (bg ts) (eT ts h+1) h []
def ip(ts:List Ty)(h:List Sp)(x:Sp):Bool:=(cT ts h).any (fun y=>g4 x y)
def G1{may}(h:w.keptBut w' may)(hi:i<w.heap.size)(D:∀j,¬may (.cell i j))(C:¬may (.map i)):w'.heap[i]? =w.heap[i]? :=by
 have A:=h.2.2 i hi
 revert A
 cases e1:w.heap[i]? with
 |none=>cases e2:w'.heap[i]? with
  |none=>simp
  |some o'=>intro A;exact A
 |some o=>cases e2:w'.heap[i]? with
  |none=>cases o<;>(intro A;exact A)
  |some o'=>
   cases o with
   |cells c t fr=>
    cases o' with
    |cells c' t' fr'=>
     rintro ⟨rfl,rfl,hs,hc⟩;have:c'=c:=Array.ext_getElem? (fun j=>hc j (D j));rw [this]
    |_=>intro A;exact A
   |map es cl=>
    cases o' with
    |map es' cl'=>
     intro A
     rcases A with A|⟨rfl,rfl⟩
     ·exact absurd A C
     rfl
    |_=>intro A;exact A
   |_=>intro A;exact A
structure QR(base:Nat)(w:af)(ao:Option Addr)(g off cap:Nat)(l:List Sp):Prop where
 came:Came w 2 ao g off l.length cap (bI l)
 max:cap<=maxLen
 at_:0<cap->base<=g
def QR.of_own{l}(h:w.ownsRow base 291 2 v l.length (bI l)):∃ao g cap,v=aA ao l.length cap/\QR base w ao g 0 cap l/\(0<cap->v.ownBlock=some g):=by
 rcases h with ⟨h1,⟨rfl,h2⟩|⟨g,cap,D,rfl,I,C,J,Q,hs,R⟩⟩
 ·refine ⟨none,0,0,by rw [h2],⟨⟨ai,ai,ai,cE _,?_,by intro j A;omega⟩,by unfold maxLen;omega,ai⟩,ai⟩;intro j u A;have:=(List.getElem?_eq_some_iff.1 A).1;rw [cE] at this;omega
 refine ⟨_,g,cap,rfl,⟨⟨J,fun _=>rfl,fun _=>lt_of_some C,cE _,?_,?_⟩,Q,fun _=>I⟩,fun _=>rfl⟩
 ·intro j u A;have U:=(List.getElem?_eq_some_iff.1 A).1;rw [<-R,List.getElem?_take] at A
  split at A
  ·simp [World.cell?,C] at A ⊢;exact A
  simp at A
 intro j A;have:0+l.length*2+j<D.size:=by rw [hs];rw [Nat.sub_mul] at A;omega
 refine ⟨?_,?_⟩
 ·simp [World.cell?,C];omega
 simp [World.frozen?,C]
def QR.frame{g l}(h:QR base w ao g off cap l)(C:0<cap->w'.heap[g]? =w.heap[g]?)(hs:w.heap.size<=w'.heap.size):QR base w' ao g off cap l:=by
 obtain ⟨hc,J,ha⟩:=h;refine ⟨⟨hc.le,hc.addr,fun h0=>cM (hc.lt h0) hs,hc.oldsLen,?_,?_⟩,J,ha⟩
 ·intro j u A;have I:=(List.getElem?_eq_some_iff.1 A).1;have h0:0<cap:=by have:=hc.le;rw [cE] at I;omega
  exact (jA (a:=⟨g,off+j,none⟩) (C h0)).trans (hc.olds j u A)
 intro j A;have h0:0<cap:=by
  rcases Br cap with e|e
  ·subst e;simp at A
  exact e
 have e1:=jA (a:=⟨g,off+l.length*2+j,none⟩) (C h0);have D:=World.frozen?_of_block (a:=⟨g,off+l.length*2+j,none⟩) (C h0);rw [e1,D];exact hc.spare j A
def QR.head{g x l}(h:QR base w ao g off cap (x::l)):0<cap/\ao=some (aC g off)/\w.cell? (aC g off)=some (an x.1)/\w.cell? (aC g (off+1))=some (an x.2):=by
 have h0:0<cap:=by have:=h.came.le;simp at this;omega
 refine ⟨h0,h.came.addr h0,?_,?_⟩
 ·exact h.came.olds 0 _ (by simp [bI,Gk])
 exact h.came.olds 1 _ (by simp [bI,Gk])
def QR.tail{g x l}(h:QR base w ao g off cap (x::l))(Vu)(ha:0<cap-1->Vu=some (aC g (off+2))):QR base w Vu g (off+2) (cap-1) l:=by
 obtain ⟨hc,I,C⟩:=h;have D:=hc.le;simp only [List.length_cons] at D;refine ⟨⟨ai,ha,fun h0=>hc.lt ai,cE _,?_,?_⟩,ai,fun h0=>C ai⟩
 ·intro j u A;rw [show off+2+j=off+(j+2) by omega];exact hc.olds (j+2) u (by simpa [bI,Gk] using A)
 intro j A;have:=hc.spare j (by simp only [List.length_cons];rw [show cap-(l.length+1)=cap-1-l.length by omega];exact A);simp only [List.length_cons] at this;rw [show off+2+l.length*2+j=off+(l.length+1)*2+j by omega];exact this
def QR.app{g r q}(h:QR base w ao g off cap q)(R:base<=w.heap.size)(C:Upon w 291 2 ao g off q.length cap (bI q) w' v' nl.length (bI nl) r):
  ∃J g' Z D,v'=aA J (q++nl).length D/\QR base w' J g' Z D (q++nl)/\(0<D->(0<cap/\g'=g)\/w.heap.size<=g'):=by
 have U:=C.kept.size
 rcases C.val with ⟨V,hv,Y⟩|⟨ab,Q,c2,hv,ho⟩
 ·refine ⟨ao,g,off,cap,by rw [hv,List.length_append],⟨⟨by rw [List.length_append];exact V,h.came.addr,fun h0=>cM (h.came.lt h0) U,cE _,?_,?_⟩,h.max,h.at_⟩,fun h0=> .inl ⟨h0,rfl⟩⟩
  ·intro j u A;have I:=(List.getElem?_eq_some_iff.1 A).1;rw [cE,List.length_append] at I;have h0:0<cap:=ai;rw [C.inArray h.came h0 Y j ai,<-ep];exact A
  intro j A;rw [List.length_append] at A ⊢;have h0:0<cap:=by
   rcases Br cap with e|e
   ·subst e;simp at A
   exact e
  have hs:=h.came.spare (nl.length*2+j) (by rw [Nat.sub_mul] at A ⊢;omega);rw [show off+(q.length+nl.length)*2+j=off+q.length*2+(nl.length*2+j) by omega];have ad:=C.ksLen;rw [C.old (h.came.lt h0) (fun j' ac ⟨_,e⟩=>ai),C.frozen _ (h.came.lt h0)];exact hs
 ·refine ⟨_,Q,0,c2,by rw [hv,List.length_append],⟨⟨by rw [List.length_append];exact ho.le,fun _=>rfl,?_,cE _,?_,?_⟩,ho.max,fun _=>aV R ho.new⟩,fun _=> .inr ho.new⟩
  ·intro h0;have:=(ho.there 0 ai).1;exact World.block_lt_of_cell? _ _ (Option.isSome_iff_exists.1 this).choose_spec
  ·intro j u A;have I:=(List.getElem?_eq_some_iff.1 A).1;rw [cE,List.length_append] at I;rw [Nat.zero_add,ho.holds j ai,<-ep];exact A
  intro j A;rw [List.length_append,Nat.sub_mul] at A;rw [List.length_append];exact ho.there _ ai
def QR.others{g len r q ks}(h:Upon w 291 2 ao g off len cap q w' v' n ks r)(hi:i<w.heap.size)(C:0<cap->i≠g):w'.heap[i]? =w.heap[i]? :=by
 refine G1 h.kept hi ?_ ?_
 ·rintro j ⟨j',A,e⟩;have h0:=h.capPos A;injection e with e1 D
  exact C h0 e1
 rintro ⟨j',A,e⟩
 cases e
def QR.src{l}(h:w.ownsRow base 291 2 sv l.length (bI l)):Src prog 2 288 sv l.length (bI l) w:=by
 rcases h with ⟨h1,⟨rfl,h2⟩|⟨g,cap,I,rfl,J,C,Q,U,hs,D⟩⟩
 ·have:l=[]:=List.eq_nil_of_length_eq_zero h2;subst this;exact Src.ofNil w underlying288 0
 refine Src.ofSlice w underlying288 _ _ _ _ (cE _) ?_ (O1 l);intro j u A;have R:=(List.getElem?_eq_some_iff.1 A).1;rw [<-D,List.getElem?_take] at A
 split at A
 ·rw [Addr.add_lit];simp [World.cell?,C] at A ⊢;exact A
 simp at A
def pi(b):∀(h:List ag)(o:Nat)(w:af),(w.setCells b o h).tape=w.tape
 | [],_,_=>rfl
 |v::r,o,w=>(pi b r (o+1) _).trans ((az 0 w).setCell (p:=⟨b,o,none⟩) (Nat.zero_le _) v).tape
def Bs(D:P.underlying 288=some (.slice 291)){g q}(h:QR base w ao g off cap q)(ty i z)(hi:P.info? 291=some i)(J:i.zero=some z)(A:i.size=2)(I:i.bytes=32)(V:z.cells.size=2)(x)(hs:Src P 2 288 x nl.length (bI nl) w)(Z:q.length+nl.length<=4000000000000):
  ∃v' w',(Builtin.append_ #[288,288] ty #[.slice ao q.length cap,x]).run P w=.ok v' w'/\Upon w 291 2 ao g off q.length cap (bI q) w' v' nl.length (bI nl) (Upon.next q.length cap 2 0 0 nl.length)/\w'.tape=w.tape:=by
 obtain ⟨v',w',e,Q⟩:=run_append_upon (P:=P) h.came 288 288 ty i z 32 D hi J A I V (Upon.start h.came) x nl.length (bI nl) hs fK ai;refine ⟨v',w',e,by simpa using Q,?_⟩;have Y:=cE nl
 by_cases U:q.length+nl.length<=cap
 ·by_cases h0:0<cap
  ·have R:=h.came.addr h0;subst R;have:=run_append_room_src (P:=P) (w:=w) 288 288 ty 291 i D hi g off q.length cap x nl.length (bI nl) (by rw [A];exact hs) U
    (fun j C=>by rw [A];exact (h.came.spare j (by rw [Nat.sub_mul];omega)).1) (fun j C=>by rw [A];exact (h.came.spare j (by rw [Nat.sub_mul];omega)).2)
   rw [e] at this;injection this with h1 h2
   rw [h2];exact pi _ _ _ _
  have hn:nl=[]:=List.eq_nil_of_length_eq_zero ai;subst hn;have:=run_append_nothing (P:=P) w 288 288 ty 291 i D hi ao q.length cap h.came.le x (by rw [A];exact hs);rw [e] at this;injection this with h1 h2
  rw [h2]
 ·have hold:(Builtin.firstCells i.size q.length (.slice ao q.length cap)).run P w.drew=.ok (bI q).toArray w.drew:=by
   rw [A]
   by_cases h0:0<cap
   ·rw [h.came.addr h0];exact run_firstCells_some w.drew 2 q.length _ _ _ _ (cE _) (fun j v C=>by rw [Addr.add_lit];exact h.came.olds j v C)
   have ab:=h.came.le;have hn:q=[]:=List.eq_nil_of_length_eq_zero ai;subst hn
   cases ao with
   |none=>exact run_firstCells_none _ _ _ _ _
   |some a=>exact run_firstCells_some w.drew 2 0 _ _ _ [] ar (fun j v C=>by simp at C)
  have:=run_append_grow_src (P:=P) (w:=w) 288 288 ty 291 i z D hi J ao q.length cap (bI q) hold x nl.length (bI nl) (by rw [A];exact hs) ai ai (growslice_fits ai (by rw [I];omega));rw [e] at this;injection this with h1 h2
  rw [h2]
  rfl
def mX(Z:P.underlying 288=some (.slice 291)){U:Array Oper}{o:Oper}{a:Act}{Q:Exit->Act->af->Prop}(ae:o.guard=none)(s x:Operand)
  (ho:o.op=.call {callee:=.builtin .append,args:=#[s,x],argTypes:=#[288,288]}) {g:Nat} {D:List Sp} (h:QR base w ao g off cap D)
  (i:TypeInfo) (z:ag) (hi:P.info? 291=some i) (ar:i.zero=some z) (al:i.size=2) (ac:i.bytes=32) (au:z.cells.size=2) (an:a.eval s=.slice ao D.length cap)
  (R:ag) (ap:a.eval x=R) (hs:Src P 2 288 R nl.length (bI nl) w) (ah:D.length+nl.length<=4000000000000) (ab:base<=w.heap.size)
  (V:∀I g' J C w',QR base w' I g' J C (D++nl)->(0<C->(0<cap/\g'=g)\/w.heap.size<=g')->w.heap.size<=w'.heap.size->w'.os=w.os->w'.tape=w.tape->w'.output=w.output->(∀i,i<w.heap.size->(0<cap->i≠g)->w'.heap[i]? =w.heap[i]?)->wpList P U Q rest (a.put o.dst (.slice I (D.length+nl.length) C)) w'):wpList P U Q (o::rest) a w:=by
 refine wpList_plain ae fun K Y=> ?_
 obtain ⟨v',w',ak,A,am⟩:=Bs Z h o.type i z hi ar al ac au R hs ah;unfold Oper.wp;simp [execOp,ho,resolve,invoke,builtin,an,ap,ak,Result.andThen];obtain ⟨I,g',J,C,rfl,aj,ad⟩:=h.app ab A;refine Y _ _ ?_;rw [List.length_append];exact V I g' J C w' aj ad A.kept.size A.kept.1 am A.kept.2.1 (fun i hi ai=>QR.others A hi ai)
def cH(h:w.ownsRow base e size v n xs)
  (k:∀g cs f,v.ownBlock=some g->w.heap[g]? =some (.cells cs e f)->w'.heap[g]? =w.heap[g]?):w'.ownsRow base e size v n xs:=by
 obtain ⟨h1,h2⟩:=h;refine ⟨h1,?_⟩
 rcases h2 with h2|⟨g,cap,A,hv,D,C,r⟩
 ·exact Or.inl h2
 ·exact Or.inr ⟨g,cap,A,hv,D,(k g A (0,0) (by rw [hv];rfl) C).trans C,r⟩
def p9(nd):∀(k:Nat)(q f:List Sp),(ed nd k q f).length<=f.length+k
 |0,_,f=>by simp [ed]
 |k+1,[],f=>by simp [ed]
 |k+1,x::q,f=>by
  simp only [ed]
  split
  ·have:=p9 nd k q f;omega
  have:=p9 nd k (q++nd x) (f++[x]);simp at this;omega
def tP(ts l0):(cT ts l0).length<=eT ts l0+1:=by
 have:=p9 (bg ts) (eT ts l0+1) l0 []
 simpa [cT] using this
def DK(nd n)(h:∀k,(nd k).length<=n)(f):∀ks,eS nd f ks<=ks.length*n
 | []=>by simp [eS]
 |k::ks=>by
  have h1:=DK nd n h f ks;have h2:=h k;simp only [eS,List.length_cons,Nat.add_mul,Nat.one_mul]
  split<;>omega
structure G5(base:Nat)(w wr:af)(mv:ag)(ao:Option Addr)(g off cap:Nat)(q:List Sp)(fv:ag)(f:List Sp):Prop where
 bel:Below base w wr
 ns:NS w wr
 sz:w.heap.size+1<=wr.heap.size
 mb:aL wr w.heap.size #[mv] 75
 qr:QR base wr ao g off cap q
 ro:wr.ownsRow w.heap.size 291 2 fv f.length (bI f)
 far:0<cap->g≠w.heap.size
 old:0<cap->∀cs T fr,w.heap[g]? =some (.cells cs T fr)->T=291
 ne:0<cap->fv.ownBlock≠some g
section
variable {base:Nat}{w wr w':af}{mv:ag}{ao:Option Addr}{g off cap:Nat}{q:List Sp}{fv:ag}{f:List Sp}
def G5.below(h:G5 base w wr mv ao g off cap q fv f)(C:base<=w.heap.size)(k:am wr w'):G5 base w w' mv ao g off cap q fv f:=
 have h2:=h.sz
 ⟨h.bel.trans (k.mono ai),h.ns.trans (NS.below k),aV h.sz k.size,h.mb.below k,h.qr.frame (fun h0=>k.block g (h.qr.came.lt h0)) k.size,ay h.ro (fun g cs f _ A=>k.block g (lt_of_some A)),h.far,h.old,h.ne⟩
def G5.tail{x}(h:G5 base w wr mv ao g off cap (x::q) fv f)(Vu)(ha:0<cap-1->Vu=some (aC g (off+2))):G5 base w wr mv Vu g (off+2) (cap-1) q fv f:=
 ⟨h.bel,h.ns,h.sz,h.mb,h.qr.tail Vu ha,h.ro,fun h0=>h.far ai,fun h0=>h.old ai,fun h0=>h.ne ai⟩
def G5.grown{w6 cap' y}(h:G5 base w wr mv ao g off cap q fv f)(J:base<=w.heap.size)(k:am wr W)(C:W.grownBy w6 fv.ownBlock)(V:w6.ownsRow w.heap.size 291 2 (aA (some (aP g')) (f.length+1) cap') (f.length+1) (bI f++Gk y))(R:fv.ownBlock=some g'\/g'=W.heap.size):G5 base w w6 mv ao g off cap q (aA (some (aP g')) (f.length+1) cap') (f++[y]):=by
 have A:=h.below J k;have Y:=A.sz;refine ⟨cA A.bel C ai (fun k U=>aV J (A.ro.lt k U).1),?_,?_,?_,?_,?_,h.far,h.old,?_⟩
 ·intro q cs T fr D Q;have e:=A.ns q cs T fr D Q;exact (C.block q (lt_of_some (e.trans D)) (dV A.ro (e.trans D) Q)).trans e
 ·have:=C.size;omega
 ·exact (C.block _ A.mb.lt (own_ne A.ro A.mb ax)).trans A.mb
 ·exact A.qr.frame (fun h0=>C.block g (A.qr.came.lt h0) (fun e=>A.ne h0 e.symm)) C.size
 ·rw [List.length_append,ep,show bI [y]=Gk y from by simp [bI]];exact V
 ·intro h0 e;simp only [Value.ownBlock,aR] at e
  rcases R with I|I
  ·exact h.ne h0 (by rw [I,e])
  have:=A.qr.came.lt h0;omega
def G5.app{Vu off' cap'}(h:G5 base w wr mv ao g off cap q fv f)(V:base<=w.heap.size)(k:am wr W)(Y:QR base w' Vu g' off' cap' (q++nl))(Q:0<cap'->(0<cap/\g'=g)\/W.heap.size<=g')(hs:W.heap.size<=w'.heap.size)(ho:w'.os=W.os)(I:w'.tape=W.tape)(Z:w'.output=W.output)(D:∀i,i<W.heap.size->(0<cap->i≠g)->w'.heap[i]? =W.heap[i]?):G5 base w w' mv Vu g' off' cap' (q++nl) fv f:=by
 have C:=h.below V k;have ab:=C.sz;have U:Below base W w':=⟨ho,I,Z,hs,fun j R=>D j ai (fun h0 e=>by have:=h.qr.at_ h0;omega)⟩;refine ⟨C.bel.trans U,?_,ai,?_,Y,?_,?_,?_,?_⟩
 ·intro j cs T fr A I;have e:=C.ns j cs T fr A I;refine (D j (lt_of_some (e.trans A)) (fun h0 J=> ?_)).trans e;subst J;exact I (h.old h0 cs T fr A)
 ·exact (D _ C.mb.lt (fun h0 e=>h.far h0 e.symm)).trans C.mb
 ·refine cH C.ro (fun j cs fr R A=>D j (lt_of_some A) (fun h0 J=> ?_));subst J;exact h.ne h0 R
 ·intro h0
  rcases Q h0 with ⟨h1,rfl⟩|h1
  ·exact h.far h1
  omega
 ·intro h0 cs T fr A
  rcases Q h0 with ⟨h1,rfl⟩|h1
  ·exact h.old h1 cs T fr A
  have:=lt_of_some A;omega
 ·intro h0 e
  rcases Q h0 with ⟨h1,rfl⟩|h1
  ·exact h.ne h1 e
  have:=(C.ro.lt _ e).2;omega
end
def nI(b base sv ts tl fv l0 w)(h:MC b w sv ts tl)(aw:w.ownsRow base 291 2 fv l0.length (bI l0))(hb:base<=w.heap.size)(aY:eT ts l0<=2000000000000):
  Calls prog 151 #[.agg #[sv],fv] w fun e' w'=>∃v',e'=bi v'/\Below base w w'/\NS w w'/\w'.ownsRow w.heap.size 291 2 v' (cT ts l0).length (bI (cT ts l0)):=by
 obtain ⟨i0,hi,aF,aG,aI⟩:=eN Tryz.info291;obtain ⟨ma,mn,mc,rfl⟩:=h.form;obtain ⟨ao,g,cap,rfl,hq,aM⟩:=QR.of_own aw;have H:=h;generalize ak:cT ts l0=R;have az:=show ed (bg ts) (eT ts l0+1) l0 []=R from ak
 have au:=show l0.length+eS (bg ts) [] (hP ts)<=eT ts l0 from bV _
 have W0:am w (w.alloc (ba ma mn mc)):=bo.alloc aH _;have aB:=(show G5 base w (w.alloc (ba ma mn mc)) (aA ma mn mc) ao g 0 cap l0 (aA none 0 0) [] from
  ⟨W0.mono hb,NS.below W0,ar,aL.new w _ _,hq.frame (fun h0=>W0.block g (hq.came.lt h0)) W0.size,bP,fun h0=>by have:=hq.came.lt h0;omega,fun h0 cs T fr ay=>by
   rcases aw with ⟨_,⟨e,_⟩|⟨g',aW,aX,e,_,aO,_⟩⟩
   ·simp only [aK] at e;omega
   simp only [aK] at e;have av:=hq.came.addr h0;rw [e.1] at av;simp only [aR,cg] at av;rw [<-av.1,aO] at ay;simp only [aR,Obj.cells.injEq] at ay;exact ay.2.1.symm,fun h0 e=>by cases e⟩)
 have aN:=hq.came.le;clear h aw ak W0 hq aM;go_enter func151,ntmps151;go_wp2_with fail
 go_loopg [1,5] (eT ts l0+1) (fun k aU aV wr=>∃(q f:List Sp)(ao:Option Addr)(g off cap:Nat)(fa:Option Addr)(fc:Nat),aU=aA ao q.length cap/\aV=aA fa f.length fc/\G5 base w wr (aA ma mn mc) ao g off cap q (aA fa f.length fc) f/\(f.length+(q.length+eS (bg ts) f (hP ts))<=eT ts l0/\q.length+eS (bg ts) f (hP ts)<k/\ed (bg ts) k q f=R))
 ·exact ⟨l0,[],ao,g,0,cap,none,0,rfl,rfl,aB,aj ⟨by simpa using au,by have:=au;omega,az⟩⟩
 ·clear aB au az aN;obtain ⟨q,f,ao,g,off,cap,fa,fc,rfl,rfl,ah,ae⟩:=hrel;have aQ:=ae.2.1;obtain ⟨k,rfl⟩:∃k,gk=k+1:=⟨gk-1,ai⟩;clear aQ;have a5:=ah.sz
  cases q with
  |nil=>
   have ak:=ae.2.2;simp only [ed] at ak;clear ae;go_wp2;go_ret;rw [<-ak];exact ⟨_,rfl,ah.bel,ah.ns,ah.ro⟩
  |cons x q=>
   obtain ⟨a3,rfl,c0,c1⟩:=ah.qr.head;have aJ:=ah.qr.came.le;have a4:f.length+(q.length+1)<=2000000000000:=by have:=ae.1;simp at this;omega
   simp only [List.length_cons] at aJ;go_wp2_with fail
   ·subst h;have HT:=show G5 base w wr (aA ma mn mc) (some (aC g off)) g (off+2) 0 q (aA fa f.length fc) f from ah.tail (some (aC g off)) (fun h=>ai)
    clear ah;refine PA ?_;intro hbx HST XB LZ;have ax:0<0->g<wr.heap.size:=fun h0=>HT.qr.came.lt h0
    clear hbx c0 c1;refine PE ?_;intro w5 Pz XD y0 y1 yl s5;clear XB HST HT
    cases ha:f.any (fun z=>g4 x z)
    ·obtain ⟨af,ag,UC⟩:=aE ae;simp only [ed,ha,Bool.false_eq_true,aZ] at UC;have hrs:=sr ts f x ha;have al:f.length+1+(q.length+(bg ts x).length+eS (bg ts) (f++[x]) (hP ts))<=eT ts l0:=by simp at af;omega
     have ap:q.length+(bg ts x).length+eS (bg ts) (f++[x]) (hP ts)<k:=by simp at ag;omega
     clear af ag hrs ae ha;go_wp2_with (at_builtin;go_must (refine eB rfl underlying288 Tryz.info291 w.heap.size ((Pz.ro).alloc _) w5.heap.size 1 (Gk x) (w5.heap.size+1) ?vu));refine Py ?_;intro g6 Vs w6 UD z0 z1 zl m0 YO s6;clear Pz XD y0 y1 yl s5 LZ ax;go_wp2_with fail;refine (tL b _ ts tl x.1 x.2 _ YO).mono ?_;rintro e w7 ⟨aT,rfl,hb7,hrs⟩;obtain ⟨na,nc,rfl⟩:=hrs.form;refine PC ?_;intro YN SRC PD;clear hb7 hrs UD YO z0 z1 zl m0;go_wp2_with (at_builtin;go_must (refine mX underlying288 rfl _ _ rfl YN.qr i0 _ hi aF aG aI rfl rfl (aA na (bg ts x).length nc) rfl SRC ?hlB PD ?hKB))
     case hlB=>omega
     exact XA
    obtain ⟨af,ag,UC⟩:=aE ae;simp only [ed,ha,if_true] at UC;have al:f.length+(q.length+eS (bg ts) f (hP ts))<=eT ts l0:=by simp at af;omega
    have ap:q.length+eS (bg ts) f (hP ts)<k:=by simp at ag;omega
    clear af ag ae ha;go_wp2
    go_roundg k
    case measure=>omega
    case rel=>exact ⟨q,f,_,g,off+2,0,fa,fc,rfl,rfl,Pz,aj ⟨al,ap,UC⟩⟩
   have HT:=ah.tail (some (aC g (off+2))) (fun h=>rfl);clear ah h;refine PA ?_;intro hbx HST XB LZ;have ax:0<cap-1->g<wr.heap.size:=fun h0=>HT.qr.came.lt h0
   clear hbx c0 c1;refine PE ?_;intro w5 Pz XD y0 y1 yl s5;clear XB HST HT
   cases ha:f.any (fun z=>g4 x z)
   ·obtain ⟨af,ag,UC⟩:=aE ae;simp only [ed,ha,Bool.false_eq_true,aZ] at UC;have hrs:=sr ts f x ha;have al:f.length+1+(q.length+(bg ts x).length+eS (bg ts) (f++[x]) (hP ts))<=eT ts l0:=by simp at af;omega
    have ap:q.length+(bg ts x).length+eS (bg ts) (f++[x]) (hP ts)<k:=by simp at ag;omega
    clear af ag hrs ae ha;go_wp2_with (at_builtin;go_must (refine eB rfl underlying288 Tryz.info291 w.heap.size ((Pz.ro).alloc _) w5.heap.size 1 (Gk x) (w5.heap.size+1) ?sd));refine Py ?_;intro g6 Vs w6 UD z0 z1 zl m0 YO s6;clear Pz XD y0 y1 yl s5 LZ ax;go_wp2_with fail;refine (tL b _ ts tl x.1 x.2 _ YO).mono ?_;rintro e w7 ⟨aT,rfl,hb7,hrs⟩;obtain ⟨na,nc,rfl⟩:=hrs.form;refine PC ?_;intro YN SRC PD;clear hb7 hrs UD YO z0 z1 zl m0;go_wp2_with (at_builtin;go_must (refine mX underlying288 rfl _ _ rfl YN.qr i0 _ hi aF aG aI rfl rfl (aA na (bg ts x).length nc) rfl SRC ?hlA PD ?hKA))
    case hlA=>omega
    exact XA
   obtain ⟨af,ag,UC⟩:=aE ae;simp only [ed,ha,if_true] at UC;have al:f.length+(q.length+eS (bg ts) f (hP ts))<=eT ts l0:=by simp at af;omega
   have ap:q.length+eS (bg ts) f (hP ts)<k:=by simp at ag;omega
   clear af ag ae ha;go_wp2
   go_roundg k
   case measure=>omega
   case rel=>exact ⟨q,f,_,g,off+2,cap-1,fa,fc,rfl,rfl,Pz,aj ⟨al,ap,UC⟩⟩
end
section
abbrev kr:=@List.take_length
def aaR (h:aD:=by
 have:=HUL _ hnl;have:=tP ts (dw ts t r yq);omega):aD:=h
def PF (h:aD:=by
 rw [Vv] at kc;exact PG):aD:=h
def PH (h:aD:=by
 simp only [bM,List.length_append,List.length_cons,Nat.add_mul,Nat.one_mul];omega):aD:=h
def G7 (h:aD:=by
 subst hv;exact PG):aD:=h
def PG (h:aD:=by
 go_wp2;go_roundw
 ·exact ⟨k+1,ai,by go_num,HB,Gi⟩
 simp [intOf];omega):aD:=h
def lI(ts:List Ty)(t:Ty)(r:Rl)(p:Ex):Option Nat:=match p.l,p.r with
 |some _,some y=>if fi p.nd.kind=246 then (if ip ts (dw ts t r y) (t.name,r.name) then some p.nd.place else none) else none
 |_,_=>none
def jH(ts:List Ty)(t:Ty)(r:Rl):Option Nat:=(aF r.body).findSome? (lI ts t r)
def nJ(nd x y):∀(e:Ex),⟨nd,some x,some y⟩∈aF e->(aF y).length<=(aF e).length
 |⟨n,some a,some c⟩,h=>by
  simp only [aF] at h ⊢;rw [aW,aW,aX] at h;simp only [List.length_append]
  rcases h with (h|h)|h
  ·have:=nJ nd x y a h;omega
  ·simp only [Ex.mk.injEq,aR] at h;rw [h.2.2];omega
  have:=nJ nd x y c h;omega
 |⟨n,none,c⟩,h=>by
  unfold aF at h;simp at h
 |⟨n,some a,none⟩,h=>by
  unfold aF at h;simp at h
variable {b:Nat}
def zo{rl}(ts t)(h:RC b w tv t.rels rl)(r)(A:r∈t.rels)(e)(C:(aF e).length<=1000):(dw ts t r e).length<=1000000:=by
 have:=O7 ts t h r (h.okg r A) e (aF e).length;unfold NK at this;rw [kr] at this;unfold dw;omega
def iq{α β:Type}(f:α->List β)(n):∀(l:List α),(∀a∈l,(f a).length<=n)->(l.flatMap f).length<=l.length*n
 | [],_=>ar
 |a::l,h=>by
  have h1:=h a ar;have h2:=iq f n l (fun a ha=>h a (by simp [ha]));exact PH
def G8{tl}(h:MC b w sv ts tl)(s):(bg ts s).length<=1000000:=by
 unfold bg
 split
 ·simp
 rename_i t C
 split
 ·simp
 rename_i r A;have C:=gI C;have A:=gI A;rw [<-h.fst,aU] at C;obtain ⟨p,I,rfl⟩:=C;obtain ⟨rl,D⟩:=h.rels p I;exact zo ts p.1 D r A r.body (D.okp r A)
def Vw{tl}(h:MC b w sv ts tl):(hP ts).length<=1000000:=by
 have:=iq (fun t=>t.rels.map fun r=>(t.name,r.name)) 1000 ts (fun t A=>by
  rw [<-h.fst,aU] at A;obtain ⟨p,C,rfl⟩:=A;obtain ⟨rl,D⟩:=h.rels p C;have:=D.len
  simpa using this)
 have I:=h.len;unfold hP;omega
def sx{tl}(h:MC b w sv ts tl)(l0)(A:l0.length<=1000000):eT ts l0<=1000001000000:=by
 have h1:=DK (bg ts) 1000000 (G8 h) [] (hP ts);have h2:=Vw h;unfold eT;omega
def vX(b sv ts tl t tv rl r bv w)(h:MC b w sv ts tl)(aB:RC b w tv t.rels rl)(bk:bA b w r.body bv)(aV:r∈t.rels):
  Calls prog 118 #[.agg #[sv],.agg #[au t.place,an t.name,tv],.agg #[au r.place,an r.name,bv]] w fun e' w'=>e'=bi (ji 6 (jH ts t r))/\am w w':=by
 obtain ⟨I,mn,mc,rfl⟩:=h.form;obtain ⟨ae,ag,af,rfl⟩:=aB.form;obtain ⟨ad,rv,rfl⟩:=bk.isI;have W0:am w (((w.alloc (ba I mn mc)).alloc (bG t.place t.name ae ag af)).alloc (cC r.place r.name ad rv)):=((bo.alloc aH _).alloc ar _).alloc aS _;have a7:=aj (h.below W0);have bz:=aj (aB.below W0);have bf:=aj (bk.but (But.of_below W0));have bE:=aj (((aL.new w #[aA I mn mc] 75).alloc (bG t.place t.name ae ag af)).alloc (cC r.place r.name ad rv));have bO:=aj ((aL.new' (w.alloc (ba I mn mc)) (h8 t.place t.name ae ag af) 110 (w.heap.size+1) ar).alloc (cC r.place r.name ad rv));have bJ:=aj (aL.new' ((w.alloc (ba I mn mc)).alloc (bG t.place t.name ae ag af)) #[au r.place,an r.name,.iface ad rv] 159 (w.heap.size+2) ar);have okp:=aB.okp r aV;have a8:=aj aV;have bu:=aj (fun e ac=>zo ts t aB r aV e ac);have HUL:=aj (fun ce hl=>sx h ce hl);have bc:=aj W0;generalize A:jH ts t r=R;have bw:=aj A;have b6:=a7.blt;go_enter func118,ntmps118;go_wp2_with fail;refine (oA r.body b _ _ b6 bf okp).mono ?_;rintro e1 cm ⟨cF,rfl,ab,l,l1,l2,bl⟩;obtain ⟨cz,oc,rfl⟩:=aw bl;have cw:l.length=(aF r.body).length:=by rw [<-l1];simp
 have aN:=aj (bc.trans (ab.mono bc.size));have L1:=aj l1;have L2:=aj l2;have L3:=aj bl;have bD:=aj (a7.below ab);have bM:=aj (bz.below ab);have bN:=aj (bf.but (But.of_below ab));have bH:=aj (bE.below ab);have bP:=aj (bO.below ab);have bK:=aj (bJ.below ab);have bn:=aN.size;have f0:=mg;have f1:=nx;have f2:=ny;have f3:=vq;have f4:=qF;have f5:=ik;go_wp2_with fail
 go_loopw [14] (fun ck wr=>∃(k:Nat),k<=(aF r.body).length/\ck=au k/\am cm wr/\Hid (((aF r.body).drop k).findSome? (lI ts t r)=R)) (fun u _=>(aF r.body).length-(intOf u).toNat)
 ·exact ⟨0,ai,rfl,az _ _,bw⟩
 ·obtain ⟨k,cq,rfl,hbr,a9⟩:=hrel;have HB:=aj hbr;have co:=hbr.size
  by_cases cr:k<(aF r.body).length
  ·refine GF ?_;intro hkl aZ c1 e1 kc;simp only [aK] at e1;obtain ⟨rfl,_,rfl⟩:=e1;refine OZ ?_;intro iR hk';generalize l[k]=q at*;obtain ⟨aZ,cE⟩:=q;simp only at kc iR hk';have cb:(k:Int)<((aF r.body).length:Int):=ai;have A:=aE a9;rw [ph _ _ _ _ hk'] at A;have ap:=bF hk';have bt:=aj (bD.below hbr);have bB:=aj (bM.below hbr);have bC:=aj (bN.but (But.of_below hbr));have bI:=aj (bH.below hbr);have bQ:=aj (bP.below hbr);have bL:=aj (bK.below hbr)
   match aZ,iR,A,ap with
   |⟨nq,some xq,some yq⟩,⟨vx,vy,hv,rx,ry⟩,A,ap=>
    obtain ⟨aJ,aM,rfl⟩:=rx.isI;obtain ⟨ah,yv,rfl⟩:=ry.isI;have cu:=nJ _ _ _ _ ap;have bx:=aj ry;subst hv
    by_cases aG:fi nq.kind=246
    ·rw [aG] at kc;have cd:lI ts t r ⟨nq,some xq,some yq⟩=if ip ts (dw ts t r yq) (t.name,r.name) then some nq.place else none:=by simp [lI,aG]
     rw [cd] at A;have hnl:=bu yq ai;have Z:am wr (wr.alloc (.cells #[au nq.place,.iface aJ aM,.iface ah yv] 246)):=bo.alloc aH _;have aO:=aj (HB.trans (Z.mono co));have ax:=aj (bt.below Z);have bb:=aj (bB.below Z);have bg:=aj (bC.but (But.of_below Z));have bh:=aj (bx.but (But.of_below Z));have U:=aj (bI.below Z);have Y:=aj (bQ.below Z);have V:=aj (bL.below Z);have Q:=aj (aL.new wr #[au nq.place,.iface aJ aM,.iface ah yv] 246);go_wp2_with fail;have cp:wr.heap.size<(wr.alloc (.cells #[au nq.place,.iface aJ aM,.iface ah yv] 246)).heap.size:=ar;generalize (wr.alloc (.cells #[au nq.place,.iface aJ aM,.iface ah yv] 246))=W at*;generalize wr.heap.size=bs at*;have cx:W.cell? (aP w.heap.size)=some (aA I mn mc):=U.cell rfl;have cy:=U.lt;obtain ⟨cG,cH,cI⟩:=Y.three;have cJ:=Y.lt;obtain ⟨cK,cL,cM⟩:=V.three;have cN:=V.lt;obtain ⟨cA,aZ,cB⟩:=Q.three;have cD:=Q.lt;have bp:=aO.size
     cases hh:ip ts (dw ts t r yq) (t.name,r.name)
     ·rw [hh] at A;have aQ:=aj hh;have Gi:=aj A
      go_region_held3 (fun w'=>w'.cell? (aP w.heap.size)=some (aA I mn mc)/\w'.cell? (aP (w.heap.size+1))=some (au t.place)/\w'.cell? (aC (w.heap.size+1) 1)=some (an t.name)/\w'.cell? (aC (w.heap.size+1) 2)=some (aA ae ag af)/\w'.cell? (aP (w.heap.size+2))=some (au r.place)/\w'.cell? (aC (w.heap.size+2) 1)=some (an r.name)/\w'.cell? (aC (w.heap.size+2) 2)=some (.iface ad rv)/\w'.cell? (aC bs 2)=some (.iface ah yv)) (go_keep)
       (first
       |(go_at_call 177;refine (sf b _ ts tl t _ rl r _ yq _ _ (ax.below bo.drew) (bb.below bo.drew) (bg.but (But.refl _ _).drew) a8 (bh.but (But.refl _ _).drew) ai).mono ?_;rintro e av ⟨a5,rfl,aR,aX⟩;have C:=aj ((az _ W).drew.trans aR);have ak:=aj (aX:io W.heap.size av a5 (dw ts t r yq));obtain ⟨cf,cg,rfl⟩:=ak.form;have a0:av.cell? (aP w.heap.size)=some (aA I mn mc):=(U.below C).cell rfl;obtain ⟨a1,a2,a3⟩:=(Y.below C).three;obtain ⟨a4,bR,bS⟩:=(V.below C).three;obtain ⟨bT,bU,bV⟩:=(Q.below C).three)
       |(go_at_call 151;refine (nI b W.heap.size _ ts tl _ _ _ (ax.below C) ak.1 C.size (by have:=HUL _ hnl;omega)).mono ?_;rintro e a6 ⟨cl,rfl,aT,_,aW⟩;have D:=aj (C.trans aT);have al:=aj aW;obtain ⟨ch,ci,rfl⟩:=aw al;have bW:a6.cell? (aP w.heap.size)=some (aA I mn mc):=(U.below D).cell rfl;obtain ⟨b1,bX,bY⟩:=(Y.below D).three;obtain ⟨bZ,b0,b2⟩:=(V.below D).three;obtain ⟨b3,b4,b5⟩:=(Q.below D).three)
       |(go_at_call 176;refine (pU _ _ _ (t.name,r.name) _ aaR al).mono ?_;rintro e w5 ⟨ac,aU⟩;rw [show ((cT ts (dw ts t r yq)).any fun y=>g4 (t.name,r.name) y)=_ from aQ] at ac;subst ac;have J:=aj (D.trans (aU.mono D.size));have c0:w5.cell? (aP w.heap.size)=some (aA I mn mc):=(U.below J).cell rfl;obtain ⟨c1,c2,c3⟩:=(Y.below J).three;obtain ⟨b7,c5,c6⟩:=(V.below J).three;obtain ⟨c7,b8,b9⟩:=(Q.below J).three))
      go_wp2;go_roundw
      ·exact ⟨k+1,ai,by go_num,aO.trans (J.mono bp),by simpa using Gi⟩
      simp [intOf];omega
     rw [hh] at A;have aQ:=aj hh;have Gi:=aj A
     go_region_held3 (fun w'=>w'.cell? (aP w.heap.size)=some (aA I mn mc)/\w'.cell? (aP (w.heap.size+1))=some (au t.place)/\w'.cell? (aC (w.heap.size+1) 1)=some (an t.name)/\w'.cell? (aC (w.heap.size+1) 2)=some (aA ae ag af)/\w'.cell? (aP (w.heap.size+2))=some (au r.place)/\w'.cell? (aC (w.heap.size+2) 1)=some (an r.name)/\w'.cell? (aC (w.heap.size+2) 2)=some (.iface ad rv)/\w'.cell? (aC bs 2)=some (.iface ah yv)) (go_keep)
      (first
      |(go_at_call 177;refine (sf b _ ts tl t _ rl r _ yq _ _ (ax.below bo.drew) (bb.below bo.drew) (bg.but (But.refl _ _).drew) a8 (bh.but (But.refl _ _).drew) ai).mono ?_;rintro e av ⟨a5,rfl,aR,aX⟩;have C:=aj ((az _ W).drew.trans aR);have ak:=aj (aX:io W.heap.size av a5 (dw ts t r yq));obtain ⟨cf,cg,rfl⟩:=ak.form;have a0:av.cell? (aP w.heap.size)=some (aA I mn mc):=(U.below C).cell rfl;obtain ⟨a1,a2,a3⟩:=(Y.below C).three;obtain ⟨a4,bR,bS⟩:=(V.below C).three;obtain ⟨bT,bU,bV⟩:=(Q.below C).three)
      |(go_at_call 151;refine (nI b W.heap.size _ ts tl _ _ _ (ax.below C) ak.1 C.size (by have:=HUL _ hnl;omega)).mono ?_;rintro e a6 ⟨cl,rfl,aT,_,aW⟩;have D:=aj (C.trans aT);have al:=aj aW;obtain ⟨ch,ci,rfl⟩:=aw al;have bW:a6.cell? (aP w.heap.size)=some (aA I mn mc):=(U.below D).cell rfl;obtain ⟨b1,bX,bY⟩:=(Y.below D).three;obtain ⟨bZ,b0,b2⟩:=(V.below D).three;obtain ⟨b3,b4,b5⟩:=(Q.below D).three)
      |(go_at_call 176;refine (pU _ _ _ (t.name,r.name) _ aaR al).mono ?_;rintro e w5 ⟨ac,aU⟩;rw [show ((cT ts (dw ts t r yq)).any fun y=>g4 (t.name,r.name) y)=_ from aQ] at ac;subst ac;have J:=aj (D.trans (aU.mono D.size));have c0:w5.cell? (aP w.heap.size)=some (aA I mn mc):=(U.below J).cell rfl;obtain ⟨c1,c2,c3⟩:=(Y.below J).three;obtain ⟨b7,c5,c6⟩:=(V.below J).three;obtain ⟨c7,b8,b9⟩:=(Q.below J).three))
     go_wp2_with (go_at_call 73;refine (kf _ 6 _).mono ?_;rintro e w5 ⟨rfl,rfl⟩);go_ret;rw [<-Gi];exact ⟨rfl,aN.trans ((aO.trans (J.mono bp)).mono bn)⟩
    have Gi:=aj (by simpa [lI,aG] using A:((aF r.body).drop (k+1)).findSome? (lI ts t r)=R)
    rcases pO nq.kind with Vv|Vv|Vv
    ·exact PF
    ·exact PF
    exact absurd Vv aG
   |⟨nq,none,rq⟩,iR,A,ap=>
    have Gi:=aj (by simpa [lI] using A:((aF r.body).drop (k+1)).findSome? (lI ts t r)=R)
    rcases iR with ⟨bj,gv,hv,ct⟩|⟨bj,hv⟩|⟨bj,hv⟩
    ·exact G7
    ·exact G7
    exact G7
   |⟨nq,some xq,none⟩,iR,A,ap=>exact iR.elim
  have A:=aE a9;rw [eC ai] at A;have cb:¬((k:Int)<((aF r.body).length:Int)):=ai;have Gi:=aj A;go_wp2;go_ret;rw [<-Gi];exact ⟨rfl,aN.trans (HB.mono bn)⟩
end
section
section
open Go.Shelf
abbrev vY:=@grownBy_putObj'
abbrev sy:=@List.findSome?_append
abbrev ku:=@List.findSome?_eq_none_iff
abbrev sA:=@List.size_toArray
abbrev vZ:=@Array.replicate_succ
abbrev v6:=@List.push_toArray
abbrev v7:=@List.append_toArray
abbrev sB:=@List.getElem_map
abbrev jI:=@List.flatMap_nil
abbrev jJ:=@callsIn_wide
abbrev Bt:=@KeepsOthers.alloc
abbrev sC:=@CallsIn.inRound
abbrev sD:Obj:=.cells #[.nilIface] 77
def YP (h:aD:=by
 obtain ⟨a',A,e⟩:=aw hrc.row;exact G9):aD:=h
def PI (h:aD:=by
 obtain ⟨a',A,e⟩:=aw hM.row;exact G9):aD:=h
def PJ (h:aD:=by
 exact ⟨fun p=>Classical.choose (this p),fun p A=>Classical.choose_spec (this p) A⟩):aD:=h
def G9 (h:aD:=by
 simp only [aK,bN] at e;exact e.2.1):aD:=h
def PK(q:bq) (h:cj bq->aD:=by
 intro zq;have hvn:vn=rl.length:=by
  exact YP
 have hv1:vn<=rl.length:=ai;have hv2:rl.length<=vn:=ai;clear hvn;have hrl:rl.length<=1000:=by have:=hrc.llen;simpa using this
 revert hv1 hv2 hrl
 exact zq.1):aD:=h ⟨q⟩
attribute [local go_sem] Oper.semAt_some
def fe(N:Ty->Rl->Option Nat)(ts:List Ty):Option Nat:=ts.findSome? fun t=>t.rels.findSome? (N t)
def KT(w w':af):Prop:=∀(g:Nat)(cs:Array ag)(T:TypeId)(f:Nat×Nat),w.heap[g]? =some (Obj.cells cs T f)->(T=207\/T=159\/T=110)->w'.heap[g]? =w.heap[g]?
def KT.trans{x}(h:KT x y)(k:KT y z):KT x z:=fun g cs T f A C=>(k g cs T f ((h g cs T f A C).trans A) C).trans (h g cs T f A C)
variable {g:Nat}
def KT.set(A:aL w g cs T)(C:¬(T=207\/T=159\/T=110))(o u):KT w (w.setCell (aC g o) u):=
 fun g' I T' f h D=>ea _ _ _ _ (fun (e':g'=g)=>by
  subst e';unfold aL at A;rw [A] at h;simp only [aR,Obj.cells.injEq] at h;exact C (by rw [h.2.1];exact D))
def RC.kt{b rl}(h:RC b w sv rs rl)(k:KT w w'):RC b w' sv rs rl:=
 ⟨h.fst,ay h.row (fun g cs f _ A=>k g cs _ f A (.inr (.inl rfl))),fun p C=>bA.frame (fun g cs f _ A=>k g cs _ f A (.inl rfl)) _ _ (h.ex p C),h.len,h.okp,h.okg,h.wf⟩
def MC.kt{b tl}(h:MC b w sv ts tl)(k:KT w w')(hs:w.heap.size<=w'.heap.size):MC b w' sv ts tl:=
 ⟨h.fst,ay h.row (fun g cs f _ A=>k g cs _ f A (.inr (.inr rfl))),fun p C=>by obtain ⟨rl,D⟩:=h.rels p C;exact ⟨rl,D.kt k⟩,h.len,cM h.blt hs⟩
def MT(T:TypeId):Prop:=T=207\/T=159\/T=110\/T=75
def CK(W W':af):Prop:=W.heap.size<=W'.heap.size/\∀(g:Nat)(cs:Array ag)(T:TypeId)(f:Nat×Nat),W.heap[g]? =some (Obj.cells cs T f)->MT T->W'.heap[g]? =W.heap[g]?
def CK.trans{X D I:af}(h:CK X D)(k:CK D I):CK X I:=⟨aV h.1 k.1,fun g cs T f A C=>(k.2 g cs T f ((h.2 g cs T f A C).trans A) C).trans (h.2 g cs T f A C)⟩
def CK.below(h:am W W'):CK W W':=⟨h.size,fun g cs T f A _=>h.block g (lt_of_some A)⟩
def CK.kt(h:CK W W'):KT W W':=fun g cs T f A C=>h.2 g cs T f A (by rcases C with e|e|e<;>simp [MT,e])
def CK.b(W l o o')(D:w.heap.size<=l)(h:W.heap[l]? =some o)(C:o.isCells=false)(I:o.isWalk=false):CK W (W.putObj l o'):=
 ⟨(vY W l o').size,fun g cs T f A _=>World.putObj_heap_other (fun e=>by
  subst e;rw [h] at A
  cases A
  cases C)⟩
def CK.blk(h:CK W W')(k:aL W g cs T)(A:MT T):aL W' g cs T:=(h.2 g cs T (0,0) k A).trans k
def CK.mc(h:CK W W'){b tl}(k:MC b W sv ts tl):MC b W' sv ts tl:=k.kt h.kt h.1
def CK.rc(h:CK W W'){b rl}(k:RC b W sv rs rl):RC b W' sv rs rl:=k.kt h.kt
abbrev It:=(Ty×ag)×(Rl×ag)
def itE(x:It):Array ag:=#[.agg #[au x.1.1.place,an x.1.1.name,x.1.2],.agg #[au x.2.1.place,an x.2.1.name,x.2.2]]
def Bu(b:Nat)(w:af)(tl:List (Ty×ag))(x:It):Prop:=x.1∈tl/\∃rl,RC b w x.1.2 x.1.1.rels rl/\x.2∈rl
def Vx(b:Nat)(w:af)(tl:List (Ty×ag))(h:Ty×ag->List (Rl×ag)):Prop:=∀p∈tl,RC b w p.2 p.1.rels (h p)
def PL{b tl}(h:MC b w sv ts tl):∃I,Vx b w tl I:=by
 have:∀p:Ty×ag,∃rl,p∈tl->RC b w p.2 p.1.rels rl:=fun p=>by
  by_cases C:p∈tl
  ·obtain ⟨rl,D⟩:=h.rels p C;exact ⟨rl,fun _=>D⟩
  exact ⟨[],fun e=>absurd e C⟩
 exact PJ
def qM(h:Ty×ag->List (Rl×ag))(tl:List (Ty×ag)):List It:=tl.flatMap fun p=>(h p).map fun q=>(p,q)
def Ha{b tl}{C:Ty×ag->List (Rl×ag)}(h:Vx b w tl C)(x)(A:x∈qM C tl):Bu b w tl x:=by
 unfold qM at A;rw [bZ] at A;obtain ⟨p,D,A⟩:=A;rw [aU] at A;obtain ⟨q,I,rfl⟩:=A;exact ⟨D,C p,h p D,I⟩
def zt(N b w)(A:Ty×ag->List (Rl×ag)):∀(tl:List (Ty×ag)),Vx b w tl A->fe N (tl.map Prod.fst)=(qM A tl).findSome? fun x=>N x.1.1 x.2.1
 | [],_=>rfl
 |p::tl,h=>by
  have e:(qM A (p::tl))=((A p).map fun q=>(p,q))++qM A tl:=by simp [qM]
  rw [e,sy,List.findSome?_map,<-(zt N b w A tl (fun q D=>h q (by simp [D])))];have C:p.1.rels.findSome? (N p.1)=(A p).findSome? ((fun x:It=>N x.1.1 x.2.1) ∘ fun q=>(p,q)):=by
   rw [<-(h p ar).fst,List.findSome?_map]
   rfl
  rw [<-C];unfold fe;rw [bY,gJ]
  cases p.1.rels.findSome? (N p.1)<;>rfl
def v8{α:Type}(P:α->Prop):∀(l:List α),(∀x∈l,P x)->∃L:List {x // P x},L.map Subtype.val=l
 | [],_=>⟨[],rfl⟩
 |x::l,h=>by
  obtain ⟨L,A⟩:=v8 P l (fun y C=>h y (by simp [C]));exact ⟨⟨x,h x ar⟩::L,by simp [A]⟩
def DL(f:α->Option β):∀(l p:List α)(x:α)(y:β),p++[x]<+:l->(∀z∈p,f z=none)->f x=some y->l.findSome? f=some y:=by
 rintro l p x y ⟨r,rfl⟩ h1 h2;rw [sy,sy];have:p.findSome? f=none:=ku.2 h1;rw [this];simp [h2]
def pj(sv w)(hs:∃a n c,sv=aA a n c):Calls prog 150 #[.agg #[sv]] w fun e w'=>e=bi (.func (.func 208) #[] #[bu w.heap.size])/\w'=w.alloc (.cells #[sv] 75):=by
 obtain ⟨a,n,c,rfl⟩:=hs;go_enter func150,ntmps150;go_wp2;go_ret;exact ⟨rfl,rfl⟩
def Vy(b:Nat)(w0:af)(aG:ag)(ts:List Ty)(tl:List (Ty×ag))(hM:MC b w0 aG ts tl)(R:Ty×ag->List (Rl×ag))(hF:Vx b w0 tl R)(n:Nat)(bv:1<=n)(l Bn:Nat)(V:List {x:It // Bu b w0 tl x})(aZ:V.map Subtype.val=qM R tl)(U ar:List {x:It // Bu b w0 tl x}->af->Prop)
  (J:af) (ay:am w0 J) (av:AbidesFrom J.heap.size U)
  (a6:∀pre x ad,U pre ad->pre.length<V.length->YieldAt Fence.wide (n-1) prog l (itE x.1) ad fun e W'=>(e=bi (.bool true)/\U (pre++[x]) W'/\CK ad W')\/(e=bi (.bool false)/\ar (pre++[x]) W'))
  (bj:J.cell? (aP Bn)=some aG) (h0:U [] J):
  CallsIn Fence.wide n prog 208 #[.func (.yield l) #[] #[],bu Bn] J fun e W'=>(∃v,e=bi v)/\((∃aO,aO=V/\U aO W')\/(∃pre,pre<+:V/\ar pre W')):=by
 obtain ⟨bz,mn,mc,rfl⟩:=hM.form;have ba:mn=tl.length:=by
  exact PI
 have bs:mn<=tl.length:=ai;have bt:tl.length<=mn:=ai;clear ba;have bx:tl.length<=1000:=by have:=hM.llen;simpa using this
 have aU:=(CK.below ay:CK w0 J);clear ay;refine callsIn_of_wp func208 rfl trivial ?_ rfl;simp only [ntmps208,sA,List.length_cons,List.length_nil,Nat.reduceAdd,Nat.reduceSub,vZ,Array.replicate_zero,v6,v7,List.nil_append,List.cons_append];gi_wp2
 gi_loopw [10] (fun u wr=>∃(k:Nat)(pre rest:List {x:It // Bu b w0 tl x}),k<=mn/\u=au k/\CK w0 wr/\J.heap.size<=wr.heap.size/\(V=pre++rest/\rest.map Subtype.val=qM R (tl.drop k))/\U pre wr) (fun u _=>mn-(intOf u).toNat)
 ·exact ⟨0,[],V,ai,rfl,aU,bV _,aj ⟨rfl,aZ⟩,h0⟩
 ·obtain ⟨k,pre,rest,bn,rfl,D,bw,ab,Q⟩:=hrel;obtain ⟨I,C⟩:=aE ab
  by_cases bp:k<mn
  ·have al:k<tl.length:=by omega
   obtain ⟨g,aW,e1,k0,k1,aC⟩:=(D.mc hM).row.cell k (by simpa using al);simp only [aK] at e1;obtain ⟨rfl,ap,rfl⟩:=e1;clear ap ab;simp only [sB,t3] at k0 k1 aC;have hrc:=hF tl[k] (br al);have ax:qM R (tl.drop k)=((R tl[k]).map fun q=>(tl[k],q))++qM R (tl.drop (k+1)):=by
    rw [c8 al];simp only [qM,bM]
   rw [ax] at C;clear ax;generalize tl[k]=p at*;obtain ⟨t,tv⟩:=p;simp only at k0 k1 aC hrc;obtain ⟨Y,vn,Z,rfl⟩:=hrc.form;generalize bb:R (t,aA Y vn Z)=rl at*;clear bb;refine PK ?_;intro hv1 hv2 hrl;have ae:am wr (wr.alloc (bG t.place t.name Y vn Z)):=bo.alloc aH _;have ah:=D.trans (CK.below ae);have TB:=aL.new wr (h8 t.place t.name Y vn Z) 110;have aR:=av pre wr (wr.alloc (bG t.place t.name Y vn Z)) none Q (World.grownBy_alloc wr _ none) (fun r e=>by cases e);have a9:(k:Int)<(mn:Int):=ai;have aT:=And.intro I C;have bc:J.heap.size<=(wr.alloc (bG t.place t.name Y vn Z)).heap.size:=aS;clear ae I C D Q;gi_wp2;generalize (wr.alloc (bG t.place t.name Y vn Z))=ad at*;generalize wr.heap.size=bA at*
   gi_loopw [17] (fun u aI=>∃(j:Nat)(pre rest:List {x:It // Bu b w0 tl x}),j<=vn/\u=au j/\CK ad aI/\(V=pre++rest/\rest.map Subtype.val=((rl.drop j).map fun q=>((t,Value.slice Y vn Z),q))++qM R (tl.drop (k+1)))/\U pre aI) (fun u _=>vn-(intOf u).toNat)
   ·exact ⟨0,pre,rest,ai,rfl,⟨bV _,fun _ _ _ _ _ _=>rfl⟩,aT,aR⟩
   obtain ⟨j,pre,rest,bk,rfl,D,ab,Q⟩:=hrel;obtain ⟨I,C⟩:=aE ab;clear ab
   by_cases bl:j<vn
   ·have ak:j<rl.length:=by omega
    obtain ⟨g,aW,e1,aJ,aM,aN⟩:=((ah.trans D).rc hrc).row.cell j (by simpa using ak);simp only [aK] at e1;obtain ⟨rfl,ap,rfl⟩:=e1;clear ap;simp only [sB,r3] at aJ aM aN;have hex:=((ah.trans D).rc hrc).ex rl[j] (br ak);rw [c8 ak] at C;generalize rl[j]=p at*;obtain ⟨r,bh⟩:=p;simp only at aJ aM aN hex;obtain ⟨aF,rv,rfl⟩:=hex.isI
    cases rest with
    |nil=>simp at C
    |cons x rest=>
     simp only [bY,List.cons_append,List.cons.injEq] at C;obtain ⟨az,C⟩:=C;obtain ⟨t0,t1,t2⟩:=(D.blk TB (.inr (.inr (.inl rfl)))).three;have bB:=(D.blk TB (.inr (.inr (.inl rfl)))).lt;have ae:am wr (wr.alloc (cC r.place r.name aF rv)):=bo.alloc aH _;obtain ⟨fn,bC,bg,body,aB,a5⟩:=a6 pre x _ (av pre wr (wr.alloc (cC r.place r.name aF rv)) none Q (World.grownBy_alloc wr _ none) (fun r e=>by cases e)) (by rw [I];simp);rw [az] at aB;simp only [itE] at aB;have aQ:=D.trans (CK.below ae);have a7:(j:Int)<(vn:Int):=ai;have ac:=And.intro I C;clear hex ae I C D Q az;gi_wp2;refine a5.mono ?_;rintro e bf (⟨rfl,aX,a8⟩|⟨rfl,aY⟩)
     ·gi_wp2;go_roundw
      ·exact ⟨j+1,pre++[x],rest,ai,by go_num,aQ.trans a8,aj ⟨by rw [ac.1];simp,ac.2⟩,aX⟩
      simp [intOf];omega
     gi_wp2;refine bE (results_none rfl _ _ _) rfl ?_;exact ⟨⟨_,rfl⟩,.inr ⟨pre++[x],⟨rest,by rw [ac.1];simp⟩,aY⟩⟩
   have a7:¬((j:Int)<(vn:Int)):=ai;rw [eC ai] at C;have ac:=And.intro I C;clear I C;gi_wp2;go_roundw
   ·exact ⟨k+1,pre,rest,ai,by go_num,ah.trans D,aV bc D.1,aj ⟨ac.1,by simpa using ac.2⟩,Q⟩
   simp [intOf];omega
  have a9:¬((k:Int)<(mn:Int)):=ai;rw [eC ai] at C;simp only [qM,jI,List.map_eq_nil_iff] at C;subst C;clear ab D;gi_wp2;go_end0;refine ⟨⟨_,rfl⟩,.inl ?_⟩
  first|exact Q|exact ⟨pre,by rw [I];simp,Q⟩
def zu(b w0 sv ts tl)(U:MC b w0 sv ts tl)(A:Ty×ag->List (Rl×ag))(hF:Vx b w0 tl A)(n)(Y:1<=n)(Bn)(J:aL w0 Bn #[sv] 75)(h:List {x:It // Bu b w0 tl x})(R:h.map Subtype.val=qM A tl):
  SeqStopsK Fence.wide n prog 208 #[bu Bn] (fun x:{x:It // Bu b w0 tl x}=>itE x.1) CK (fun Z=>Z=h) (fun pre=>pre<+:h) h.length w0:=fun l D I W C Q _ V h0=>
 Vy b w0 sv ts tl U A hF n Y l Bn h R D I W C Q V ((J.below C).cell rfl) h0
def jK(h:am W W'):KeepsFrom B W W':=⟨h.size,fun k o _ A _=>(h.block k (Array.getElem?_eq_some_iff.1 A).1).trans A⟩
def fW(B g cs T):OwnFrom B (fun (_:β) W=>aL W g cs T):=fun _ X C row hs h A=>
 (h.block g (aL.lt hs) (fun e=>by
  obtain ⟨_,o,ho,hc⟩:=A g e.symm;unfold aL at hs;rw [hs] at ho
  cases ho
  cases hc)).trans hs
def J7(F b c:Nat)(bc:F=117\/F=118)(aj:ag)(ts:List Ty)(tl:List (Ty×ag))(N:Ty->Rl->Option Nat)(w:af)(h:MC b w aj ts tl)
  (bj:∀w' t tv rl r al,MC b w' aj ts tl->RC b w' tv t.rels rl->bA b w' r.body al->r∈t.rels->Calls prog F #[.agg #[aj],.agg #[au t.place,an t.name,tv],.agg #[au r.place,an r.name,al]] w' fun e' w''=>e'=bi (ji c (N t r))/\am w' w''):
  Calls prog 116 #[.agg #[aj],.func (.func F) #[.agg #[aj]] #[]] w fun e' w'=>e'=bi (ji c (fe N ts))/\am w w':=by
 obtain ⟨A,mn,mc,rfl⟩:=h.form;refine (jJ (n:=8)).1 ?_;refine callsIn_of_wp_marks func116 rfl trivial ?_ rfl;simp only [ntmps116,sA,List.length_cons,List.length_nil,Nat.reduceAdd,Nat.reduceSub,vZ,Array.replicate_zero,v6,v7,List.nil_append,List.cons_append];gi_wp2_with fail;refine ⟨trivial,(jJ.2 (pj _ _ ⟨_,_,_,rfl⟩)).mono ?_⟩;rintro e w' ⟨rfl,rfl⟩;gi_wp2_with fail;have ap:am w ((((w.alloc (ba A mn mc)).alloc (.cells #[.func (.func F) #[.agg #[aA A mn mc]] #[]] 222)).alloc sD).alloc (ba A mn mc)):=((((az _ w).alloc aH _).alloc ar _).alloc aS _).alloc aS _;have aN:aL ((((w.alloc (ba A mn mc)).alloc (.cells #[.func (.func F) #[.agg #[aA A mn mc]] #[]] 222)).alloc sD).alloc (ba A mn mc)) (w.heap.size+1) #[.func (.func F) #[.agg #[aA A mn mc]] #[]] 222:=((aL.new' (w.alloc (ba A mn mc)) _ _ (w.heap.size+1) ar).alloc _).alloc _;have ay:aL ((((w.alloc (ba A mn mc)).alloc (.cells #[.func (.func F) #[.agg #[aA A mn mc]] #[]] 222)).alloc sD).alloc (ba A mn mc)) (w.heap.size+1+1) #[.nilIface] 77:=(aL.new' ((w.alloc (ba A mn mc)).alloc (.cells #[.func (.func F) #[.agg #[aA A mn mc]] #[]] 222)) _ _ (w.heap.size+1+1) ar).alloc _;have aQ:aL ((((w.alloc (ba A mn mc)).alloc (.cells #[.func (.func F) #[.agg #[aA A mn mc]] #[]] 222)).alloc sD).alloc (ba A mn mc)) (w.heap.size+1+1+1) #[aA A mn mc] 75:=aL.new' _ _ _ _ ar;have bl:((((w.alloc (ba A mn mc)).alloc (.cells #[.func (.func F) #[.agg #[aA A mn mc]] #[]] 222)).alloc sD).alloc (ba A mn mc)).heap.size=w.heap.size+4:=ar;have ac:=h.below ap;obtain ⟨W0,bf⟩:∃W0,((((w.alloc (ba A mn mc)).alloc (.cells #[.func (.func F) #[.agg #[aA A mn mc]] #[]] 222)).alloc sD).alloc (ba A mn mc))=W0:=⟨_,rfl⟩;rw [bf] at ap aN ay aQ bl ac ⊢;obtain ⟨aJ,hF⟩:=PL ac;obtain ⟨L,aV⟩:∃L:List {x:It // Bu b W0 tl x},L.map Subtype.val=qM aJ tl:=v8 _ _ (Ha hF);have aT:fe N ts=L.findSome? (fun x=>N x.1.1.1 x.1.2.1):=by
  rw [<-ac.fst,zt N b W0 aJ tl hF,<-aV,List.findSome?_map]
  rfl
 refine wpIn_rangeFunc_ownH (F:=Fence.wide) rfl ax (gf:=208) (lb:=#[bu (w.heap.size+1+1+1)]) rfl trivial (enters_of func208 aM rfl)
  (zu b W0 _ ts tl ac aJ hF _ ax _ aQ L aV) (fun h k=>CK.trans h k) (CK.b (w:=W0)) bo (fun _=>rfl)
  (fun pre W=>(∀x∈pre,N x.1.1.1 x.1.2.1=none)/\am W0 W)
  (fun aB pre W=>(aB=.ret/\∃ab x q,pre=ab++[x]/\(∀y∈ab,N y.1.1.1 y.1.2.1=none)/\N x.1.1.1 x.1.2.1=some q/\aL W (w.heap.size+1+1) #[ji c (some q)] 77)/\am w W)
  (OwnFrom.and (ownFrom_pure _ _) (ownFrom_below aH aH))
  (fun aB=>OwnFrom.and (fun s X ak row hs av ah=>by
   obtain ⟨h1,ab,x,q,h2,ad,aC,a9⟩:=hs;exact ⟨h1,ab,x,q,h2,ad,aC,fW (β:=Unit) W0.heap.size _ _ _ () X ak row a9 av ah⟩) (ownFrom_below aH ai))
  ⟨ar,az _ _⟩
  (fun x a' W=>∃J,W0.heap.size<=J/\aL W J #[au x.1.1.1.place,an x.1.1.1.name,x.1.1.2] 110/\aL W (J+1) #[au x.1.2.1.place,an x.1.2.1.name,x.1.2.2] 159/\a'={tmps:=#[.agg #[aA A mn mc],.func (.func F) #[.agg #[aA A mn mc]] #[],bu w.heap.size,bu (w.heap.size+1),bu (w.heap.size+1+1),bu J,bu (J+1),undef,.agg #[aA A mn mc],.func (.func 208) #[] #[bu (w.heap.size+1+1+1)],.agg #[au x.1.1.1.place,an x.1.1.1.name,x.1.1.2],.agg #[au x.1.2.1.place,an x.1.2.1.name,x.1.2.2],undef,undef,undef,undef,undef,undef,undef],defers:=[]})
  (fun x a' _ X ak row hs av ah=>by
   obtain ⟨J,h1,h2,ad,aC⟩:=hs;exact ⟨J,h1,fW (β:=Unit) W0.heap.size _ _ _ () X ak row h2 av ah,fW (β:=Unit) W0.heap.size _ _ _ () X ak row ad av ah,aC⟩)
  ?assign ?body ?done ?stop
 case assign=>
  rintro l pre x W K ⟨Z,D⟩ Q;obtain ⟨⟨⟨t,tv⟩,⟨r,al⟩⟩,aI⟩:=x;obtain ⟨rl,I,U⟩:=aI.2;simp only at I U Q;obtain ⟨a5,a7,a6,rfl⟩:=I.form;obtain ⟨aZ,rv,ae⟩:=(I.ex _ U).isI;simp only at ae;subst ae;simp only [itE];have b1:=(az _ W).alloc aH (bG t.place t.name a5 a7 a6);have aK:=b1.alloc b1.size (cC r.place r.name aZ rv);gi_wp2_with fail;exact Q _ _ (((Bt _ _).trans (Bt _ _)).from _) (CK.below aK) ⟨Z,D.trans (aK.mono D.size)⟩ ⟨W.heap.size,D.size,(aL.new W _ _).alloc _,aL.new' _ _ _ _ ar,rfl⟩
 case body=>
  rintro l pre x a' W hl ⟨rr,ah⟩ ⟨Z,D⟩ ⟨J,bp,aR,aO,rfl⟩ br;obtain ⟨⟨⟨t,tv⟩,⟨r,al⟩⟩,aI⟩:=x;obtain ⟨rl,I,U⟩:=aI.2;simp only at I U aR aO;obtain ⟨a5,a7,a6,rfl⟩:=I.form;obtain ⟨aZ,rv,ae⟩:=(I.ex _ U).isI;simp only at ae;subst ae;obtain ⟨t0,t1,t2⟩:=aR.three;obtain ⟨bs,bt,bv⟩:=aO.three;have c0:W.cell? (aP (w.heap.size+1))=some (.func (.func F) #[.agg #[aA A mn mc]] #[]):=(aN.below D).cell rfl;have bh:r∈t.rels:=by rw [<-I.fst];exact aU.2 ⟨_,U,rfl⟩
  have C:=bj W t _ rl r _ (ac.below D) (I.below D) ((I.ex _ U).but (But.of_below D)) bh
  rcases bc with rfl|rfl
  all_goals
   cases hn:N t r with
   |none=>
    rw [hn] at C;gi_wp2_with fail;refine ⟨trivial,(sC l (jJ.2 C)).mono ?_⟩;rintro e a8 ⟨rfl,R⟩;unfold ji;gi_wp2;exact ⟨jK R,CK.below R,fun y aw=>by
     rw [aW,aX] at aw
     rcases aw with aw|rfl
     ·exact Z y aw
     exact hn,D.trans (R.mono D.size)⟩
   |some q=>
    rw [hn] at C;gi_wp2_with fail;refine ⟨trivial,(sC l (jJ.2 C)).mono ?_⟩;rintro e a8 ⟨rfl,R⟩;have Y:=(ay.below D).below R;have aY:a8.cell? (aP (w.heap.size+1+1))=some .nilIface:=Y.cell rfl;have bn:=Y.fz;have bg:=(ap.trans (D.mono ai)).trans (R.mono (by have:=D.size;omega));unfold ji fP;gi_wp2;exact ⟨(jK R).trans ((KeepsOthers.setCell _ _ _).from _),⟨rfl,pre,_,q,rfl,Z,hn,Y.set 0 _⟩,bg.setCell (p:=⟨w.heap.size+1+1,0,none⟩) aS _⟩
 case done=>
  rintro V bw W bb rfl ⟨Z,D⟩ Q;have Y:=ay.below D;have aY:W.cell? (aP (w.heap.size+1+1))=some .nilIface:=Y.cell rfl;have bn:=Y.fz;have aE:fe N ts=none:=by rw [aT];exact ku.2 Z
  gi_wp2;have aF:=(KeepsOthers.setCell W ⟨w.heap.size+1+1,0,none⟩ .nilIface).same V _ Q rfl;refine ⟨ar,.inl ⟨_,_,rfl,run_takeDeferred aF,?_⟩⟩;have aG:=cell_kept (World.cell?_setCell_same' W ⟨w.heap.size+1+1,0,none⟩ .nilIface (by rw [aY];rfl)) (vY _ V (.deferred none)) (fun r e=>by cases e;exact ⟨_,aF,rfl⟩);refine ⟨.nilIface,?_,by rw [aE];rfl,((ap.trans (D.mono ai)).setCell (p:=⟨w.heap.size+1+1,0,none⟩) aS _).trans (belowK_b (w:=w) aH _ V _ _ ai aF rfl rfl)⟩;simp [results,Tryz.f116,go_sem,aG]
 case stop=>
  rintro V aB pre W bb bk ⟨⟨rfl,ab,x,q,rfl,h1,h2,ad⟩,D⟩ Q;have aE:fe N ts=some q:=by rw [aT];exact DL _ L ab x q bk h1 h2
  gi_wp2;refine ⟨ar,.inl ⟨_,_,rfl,run_takeDeferred Q,?_⟩⟩;have aG:=cell_kept (ad.cell (o:=0) rfl) (vY _ V (.deferred none)) (fun r e=>by cases e;exact ⟨_,Q,rfl⟩);refine ⟨ji c (some q),?_,by rw [aE],D.trans (belowK_b (w:=w) aH W V _ _ ai Q rfl rfl)⟩;simp [results,Tryz.f116,go_sem,aG]
end
end
abbrev qa:=@List.any_map
def PM (h:aD:=by
 rw [qa,gW,dg,List.find?_isSome]
 rfl):aD:=h
def Hb (h:aD:=by
 simp only [aK] at e;exact e.2.1):aD:=h
def Hc(q:bq) (h:cj bq->aD:=by
 intro zq;refine C0.mono ?_;rintro e w2 ⟨rfl,hb2⟩;have B2:=W0.trans (hb2.mono W0.size);have m0:w2.cell? (aP w.heap.size)=some (aA ma mn mc):=(MB.below hb2).cell rfl
 revert w2 hb2 B2 m0
 exact zq.1):aD:=h ⟨q⟩
def PN(q:bq) (h:cj bq->aD:=by
 intro zq;refine (C1 _ B2).mono ?_;rintro e w3 ⟨rfl,hb3⟩;have B3:=B2.trans (hb3.mono B2.size);have m1:w3.cell? (aP w.heap.size)=some (aA ma mn mc):=(MB2.below hb3).cell rfl;unfold ji
 revert w3 hb3 B3 m1
 exact zq.1):aD:=h ⟨q⟩
def Vz{b2 n2 x1 x2}(h1:w.ownsRow b1 e size v n1 x1)(h2:w.ownsRow b2 e size v n2 x2):n1=n2/\x1=x2:=by
 have hn:n1=n2:=by
  obtain ⟨a,c,rfl⟩:=aw h1;obtain ⟨a',C,e⟩:=aw h2;exact Hb
 subst hn;refine ⟨rfl,List.ext_getElem? fun k=> ?_⟩;have hl:x1.length=x2.length:=h1.1.trans h2.1.symm
 rcases fD k x1.length with h|h
 ·obtain ⟨g,c,e1,c1⟩:=aY h1 k _ (aI h);obtain ⟨g',C,A,c2⟩:=aY h2 k _ (aI (show k<x2.length by omega));rw [e1] at A;simp only [aK,aR,cg] at A;obtain ⟨⟨rfl,_⟩,_⟩:=A;rw [c1] at c2;rw [aI h,aI (show k<x2.length by omega)];exact c2
 rw [jD h,jD ai]
def PO:∀(a c:List E3),a.flatMap c3=c.flatMap c3->a=c
 | [],[],_=>rfl
 | [],e::c,h=>by simp [c3] at h
 |e::a,[],h=>by simp [c3] at h
 |(p,n,v)::a,(p',n',v')::c,h=>by
  simp only [bM,c3,List.cons_append,List.nil_append,List.cons.injEq,Value.int.injEq,Value.string.injEq,true_and] at h;obtain ⟨h1,h2,A,C⟩:=h;rw [PO a c C,h2,A,show p=p' by omega]
def ib.inj{l1 l2}(h1:ib w T v l1)(h2:ib w T v l2):l1=l2:=PO _ _ (Vz h1 h2).2
def UE:List ae->List (ae×Nat)->Option Nat
 |_,[]=>none
 |ah,(n,p)::r=>if ah.any (fun m=>eqs m n) then some p else UE (ah++[n]) r
def zv(n l):(hK n l).isSome=(l.map fun e=>e.2.1).any (fun m=>eqs m n):=by
 unfold hK;exact PM
def zw:∀(l ah:List E3),kg ah l=UE (ah.map fun e=>e.2.1) (l.map fun e=>(e.2.1,e.1))
 | [],ah=>rfl
 |e::l,ah=>by
  have:=zw l (ah++[e]);simp only [kg,bY,UE,zv];rw [this,cK]
  rfl
def twR(rs:List Rl):Option Nat:=UE [] (rs.map fun r=>(r.name,r.place))
def Df:List ae->List Ty->Option Nat
 |_,[]=>none
 |ah,t::r=>if ah.any (fun m=>eqs m t.name) then some t.place else match twR t.rels with
  |some p=>some p
  |none=>Df (ah++[t.name]) r
def wb(inn):∀(l A:List (Ty×ag)),(∀p∈l,inn (t3 p)=twR p.1.rels)->jc inn (A.map t3) (l.map t3)=Df (A.map fun p=>p.1.name) (l.map Prod.fst)
 | [],A,_=>rfl
 |p::l,A,h=>by
  have C:=wb inn l (A++[p]) (fun q I=>h q (by simp [I]));have D:=h p ar;simp only [bY,jc,Df,zv,D];rw [cK,cK] at C;simp only [bY,pQ] at C;rw [C,fU]
  rfl
def YQ(w):∃inn:E3->Option Nat,∀e l,ib w 159 e.2.2 l->inn e=kg [] l:=by
 classical
 refine ⟨fun e=>if h:∃l:List E3,ib w 159 e.2.2 l then kg [] h.choose else none,?_⟩;intro e l h;have A:∃l:List E3,ib w 159 e.2.2 l:=⟨l,h⟩;simp only;rw [dif_pos A,ib.inj A.choose_spec h]
def He(b sv ts tl w)(h:MC b w sv ts tl):
  Calls prog 115 #[.agg #[sv]] w fun e w'=>e=bi (ji 4 (Df [] ts))/\am w w':=by
 obtain ⟨inn,I⟩:=YQ w;have key:jc inn [] (tl.map t3)=Df [] ts:=by
  have:=wb inn tl [] (fun p D=>by
   obtain ⟨rl,A⟩:=h.rels p D;rw [I (t3 p) _ A.row,zw,twR,<-A.fst,fU,fU]
   rfl)
  rw [h.fst] at this;exact this
 rw [<-key];refine GB inn sv (tl.map t3) w h.llen h.row ?_ ?_
 ·intro e C;rw [aU] at C;obtain ⟨p,D,rfl⟩:=C;obtain ⟨rl,A⟩:=h.rels p D;exact A.form
 ·intro e C w' J;rw [aU] at C;obtain ⟨p,D,rfl⟩:=C;obtain ⟨rl,A⟩:=h.rels p D;rw [I (t3 p) _ A.row];refine GA _ _ _ _ w' A.llen (A.row.below J) ?_;intro e C;rw [aU] at C;obtain ⟨q,Q,rfl⟩:=C;exact (A.ex q Q).isI
def eD(ts:List Ty):Option (Nat×Nat):=match Df [] ts with
 |some p=>some (p,4)
 |none=>match fe (gZ ts) ts with
  |some p=>some (p,5)
  |none=>match fe (jH ts) ts with
   |some p=>some (p,6)
   |none=>none
def Hf:Option (Nat×Nat)->ag
 |none=> .nilIface
 |some (p,c)=>fP p c
def zx(b sv ts tl w)(h:MC b w sv ts tl):
  Calls prog 74 #[.agg #[sv]] w fun e w'=>e=bi (Hf (eD ts))/\am w w':=by
 obtain ⟨ma,mn,mc,rfl⟩:=h.form;have W0:am w (w.alloc (ba ma mn mc)):=bo.alloc aH _;have U:=h.below W0;have MB:=aL.new w #[aA ma mn mc] 75;have C0:=He b _ ts tl _ U;have C1:=fun w' (R:am w w')=>J7 _ b 5 (.inl rfl) _ ts tl (gZ ts) w' (h.below R) (fun w'' t tv rl r I h1 h2 A J=>vA b _ ts tl t tv rl r I w'' h1 h2 A J)
 have C:=fun w' (R:am w w')=>J7 _ b 6 (.inr rfl) _ ts tl (jH ts) w' (h.below R) (fun w'' t tv rl r I h1 h2 A J=>vX b _ ts tl t tv rl r I w'' h1 h2 A J)
 unfold eD
 cases h1:Df [] ts with
 |some p=>
  rw [h1] at C0;simp only [Hf];go_enter func74,ntmps74;go_wp2_with fail;refine C0.mono ?_;rintro e w2 ⟨rfl,hb2⟩;have B2:=W0.trans (hb2.mono W0.size);unfold ji fP;go_wp2;go_ret;exact ⟨rfl,B2⟩
 |none=>
  rw [h1] at C0;simp only
  cases h2:fe (gZ ts) ts with
  |some p=>
   rw [h2] at C1;simp only [Hf];go_enter func74,ntmps74;go_wp2_with fail;refine Hc ?_;intro w2 hb2 B2 m0;unfold ji;go_wp2_with fail;refine (C1 _ B2).mono ?_;rintro e w3 ⟨rfl,hb3⟩;have B3:=B2.trans (hb3.mono B2.size);unfold ji fP;go_wp2;go_ret;exact ⟨rfl,B3⟩
  |none=>
   rw [h2] at C1;simp only
   cases A:fe (jH ts) ts with
   |some p=>
    rw [A] at C;simp only [Hf];go_enter func74,ntmps74;go_wp2_with fail;refine Hc ?_;intro w2 hb2 B2 m0;have MB2:=MB.below hb2;unfold ji;go_wp2_with fail;refine PN ?_;intro w3 hb3 B3 m1;go_wp2_with fail;refine (C _ B3).mono ?_;rintro e V ⟨rfl,Q⟩;have D:=B3.trans (Q.mono B3.size);unfold ji fP;go_wp2;go_ret;exact ⟨rfl,D⟩
   |none=>
    rw [A] at C;simp only [Hf];go_enter func74,ntmps74;go_wp2_with fail;refine Hc ?_;intro w2 hb2 B2 m0;have MB2:=MB.below hb2;unfold ji;go_wp2_with fail;refine PN ?_;intro w3 hb3 B3 m1;go_wp2_with fail;refine (C _ B3).mono ?_;rintro e V ⟨rfl,Q⟩;have D:=B3.trans (Q.mono B3.size);unfold ji;go_wp2;go_ret;exact ⟨rfl,D⟩
section
def PQ (h:aD:=by
 obtain ⟨A,C,D⟩:=this;simp only [List.length_append,List.length_cons,List.length_nil] at C;exact ⟨A,ai,ai⟩):aD:=h
def PR (h:aD:=by
 simp at h;obtain ⟨rfl,rfl⟩:=h;exact Bn.leaf _ _ _ ai (fun h=>by simp at h)):aD:=h
structure Bn(x:Ex)(n:Nat):Prop where
 p:(aF x).length<=n
 g:(bS x).length<=n
 wf:WF x
def Bn.le{x:Ex}(h:Bn x n)(A:n<=m):Bn x m:=⟨aV h.p A,aV h.g A,h.wf⟩
def Bn.leaf(nd r n)(h1:1<=n)(h2:nd.kind=0->nd.gs.length<=n/\nd.gs≠ []):Bn ⟨nd,none,r⟩ n:=by
 refine ⟨by simp [aF];omega,?_,?_⟩
 ·simp only [bS,aF,bM,jI,List.append_nil,eO]
  split
  ·rename_i h;exact (h2 h).1
  simp
 intro p A hl h;simp only [aF,aX] at A;subst A;exact (h2 h).2
def Bn.join{x y}(t p)(A:Bn x n)(C:Bn y m):Bn (dF t p x y) (n+1+m):=by
 refine ⟨?_,?_,?_⟩
 ·have h1:=A.p;have h2:=C.p;simp only [dF,aF,List.length_append,List.length_cons,List.length_nil];omega
 ·have h1:=A.g;have h2:=C.g;unfold bS at*;simp only [dF,aF,cN,bM,jI,List.append_nil,eO,List.length_append];omega
 intro q h hl D;simp only [dF,aF,aW,aX] at h
 rcases h with (h|h)|h
 ·exact A.wf q h hl D
 ·subst h;simp at hl
 exact C.wf q h hl D
def BN(r:Nat->eL Ex):Prop:=∀i x j,r i=.ok (x,j)->i<j/\Bn x (j-i)
def DN(T P):∀f acc i gs j,dQ T P f acc i=.ok (gs,j)->gs≠ []/\gs.length+i<acc.length+j
 |0,_,i,x,j,h=>by simp [dQ] at h
 |f+1,acc,i,x,j,h=>by
  unfold dQ at h
  split at h
  ·simp at h
  rename_i A;have:=nu T P _ _ _ A
  split at h
  ·have:=DN T P f _ _ _ _ h;refine ⟨this.1,?_⟩;have h2:=this.2;simp only [List.length_append,List.length_cons,List.length_nil] at h2;omega
  split at h<;>simp at h
  obtain ⟨rfl,rfl⟩:=h;simp;omega
def PS(T P):BN (j7 T P):=by
 intro i x j h;refine ⟨vh T P _ _ _ h,?_⟩;unfold j7 at h
 split at h
 ·simp at h
 rename_i A;have:=DN T P _ _ _ _ _ A;simp at h;obtain ⟨rfl,rfl⟩:=h;have h2:=this.2;simp only [List.length_nil] at h2;exact Bn.leaf _ _ _ ai (fun _=>⟨by simp only;omega,this.1⟩)
def L6(T P):BN (h6 T P):=by
 intro i x j h;have A:=tG T P _ _ _ h;refine ⟨A,?_⟩;unfold h6 at h
 split at h
 ·simp at h
 split at h
 ·split at h
  ·simp at h
  exact PR
 exact PR
def DO(T P room inner)(hi:BN inner):BN (eR T P room inner):=by
 intro i x j h;unfold eR at h
 split at h
 ·exact PS T P _ _ _ h
 split at h
 ·split at h
  ·split at h
   ·simp at h
   rename_i A;have:=hi _ _ _ A
   split at h<;>simp at h
   obtain ⟨rfl,rfl⟩:=h;exact ⟨ai,this.2.le ai⟩
  simp at h
 exact L6 T P _ _ _ h
def DP(T P l part)(A:BN part)(i0):∀f y i x j,i0<=i->Bn y (i-i0)->joinL T P l part f y i=.ok (x,j)->i<=j/\Bn x (j-i0)
 |0,_,i,x,j,h0,hb,h=>by simp [joinL] at h
 |f+1,y,i,x,j,h0,hb,h=>by
  unfold joinL at h
  split at h
  ·split at h
   ·simp at h
   rename_i C;obtain ⟨h1,h2⟩:=A _ _ _ C;have:=DP T P l part A i0 f _ _ _ _ ai ((hb.join _ _ h2).le ai) h;exact ⟨ai,this.2⟩
  simp at h;obtain ⟨rfl,rfl⟩:=h;exact ⟨bV _,hb⟩
def qN(T P l part)(A:BN part):BN (eU T P l part):=by
 intro i x j h;unfold eU at h
 split at h
 ·simp at h
 rename_i C;obtain ⟨h1,h2⟩:=A _ _ _ C;have:=DP T P l part A i _ _ _ _ _ ai h2 h;exact ⟨ai,this.2⟩
def DQ(T P):∀n,BN (fp T P n)
 |0=>qN T P _ _ (qN T P _ _ (DO T P false _ (fun i x j h=>by simp at h)))
 |n+1=>qN T P _ _ (qN T P _ _ (DO T P true _ (DQ T P n)))
def VA(T P i r j)(h:kW T P i=.ok (r,j)):Bn r.body j:=by
 unfold kW at h
 split at h
 ·simp at h
 split at h
 ·simp at h
 rename_i A;have:=DQ T P _ _ _ _ A
 split at h<;>simp at h
 obtain ⟨rfl,rfl⟩:=h;exact this.2.le ai
def DR(T P):∀f acc i rs j,(∀r∈acc,Bn r.body i)->di T P f acc i=.ok (rs,j)->(∀r∈rs,Bn r.body j)/\rs.length+i<=acc.length+j/\i<j
 |0,_,i,x,j,_,h=>by simp [di] at h
 |f+1,acc,i,x,j,ha,h=>by
  unfold di at h
  split at h
  ·simp at h;obtain ⟨rfl,rfl⟩:=h;exact ⟨fun r I=>(ha r I).le ai,ai,ai⟩
  split at h
  ·simp at h
  split at h
  ·simp at h
  rename_i J;have h1:=oz T P _ _ _ J;have h2:=VA T P _ _ _ J;have:=DR T P f _ _ _ _ (by
   intro r I;rw [aW,aX] at I
   rcases I with I|rfl
   ·exact (ha r I).le ai
   exact h2) h
  exact PQ
def PW(T P i t j)(h:j8 T P i=.ok (t,j)):(∀r∈t.rels,Bn r.body j)/\t.rels.length<=j:=by
 unfold j8 at h
 split at h
 ·split at h
  ·simp at h
  split at h
  ·simp at h
  rename_i A;have:=DR T P _ _ _ _ _ ar A;simp at h;obtain ⟨rfl,rfl⟩:=h;refine ⟨this.1,?_⟩;have h2:=this.2.1;simp only [List.length_nil] at h2;simp only;omega
 simp at h
def TB(t:Ty)(n:Nat):Prop:=(∀r∈t.rels,Bn r.body n)/\t.rels.length<=n
def TB.le(h:TB t n)(A:n<=m):TB t m:=⟨fun r C=>(h.1 r C).le A,aV h.2 A⟩
def zz(T P):∀f acc i ts j,(∀t∈acc,TB t i)->cQ T P f acc i=.ok (ts,j)->(∀t∈ts,TB t j)/\ts.length+i<=acc.length+j/\i<=j
 |0,_,i,x,j,_,h=>by simp [cQ] at h
 |f+1,acc,i,x,j,ha,h=>by
  unfold cQ at h
  split at h
  ·simp at h;obtain ⟨rfl,rfl⟩:=h;exact ⟨ha,bV _,bV _⟩
  split at h
  ·simp at h
  split at h
  ·simp at h
  rename_i J;have h1:=vj T P _ _ _ J;have h2:=PW T P _ _ _ J;have:=zz T P f _ _ _ _ (by
   intro t I;rw [aW,aX] at I
   rcases I with I|rfl
   ·exact (ha t I).le ai
   exact h2) h
  exact PQ
def iU(T P ts j)(h:dJ T P=.ok (ts,j)):(∀t∈ts,TB t j)/\ts.length<=j:=by
 have:=zz T P _ _ _ _ _ ar h;refine ⟨this.1,?_⟩;have h2:=this.2.1;simp only [List.length_nil] at h2;omega
variable {b:Nat}
def RC.of_rep(h:iN (b+1) b w sv rs)(C:∀r∈rs,Bn r.body n)(I:rs.length<=n)(J:n<=500):∃rl,RC b w sv rs rl:=by
 obtain ⟨l,h1,h2,D⟩:=h;refine ⟨l,h1,?_,h2,ai,fun r A=>aV (C r A).p ai,fun r A=>aV (C r A).g ai,fun r A=>(C r A).wf⟩;unfold ib;rw [c3_r3,bN,show l.length=rs.length by rw [<-h1,bN]];exact bk D (Nat.zero_le _)
def MC.of_rep(h:kY (b+1) b w sv ts)(A:∀t∈ts,TB t n)(R:ts.length<=n)(Q:n<=500)(J:b<w.heap.size):∃tl,MC b w sv ts tl:=by
 obtain ⟨l,h1,h2,I⟩:=h;refine ⟨l,h1,?_,?_,ai,J⟩
 ·unfold ib;rw [c3_t3,bN,show l.length=ts.length by rw [<-h1,bN]];exact bk I (Nat.zero_le _)
 intro p D;have C:p.1∈ts:=by rw [<-h1];exact List.mem_map_of_mem D
 exact RC.of_rep (h2 p D) (A p.1 C).1 (A p.1 C).2 Q
end
abbrev wd:Obj:=.cells #[aA none 0 0] 75
def XE (h:aD:=by
 have:=B2.size;omega):aD:=h
def Hg(q:bq) (h:cj bq->aD:=by
 intro zq;refine C0.mono ?_;rintro e w1 ⟨rfl,hb1⟩;have B1:=B0.trans (hb1.mono B0.size);have R1:=R0.below hb1;have VB:=(R0.below hb1).lt;have A1:At (w1.alloc (.cells #[an s,au (dI s 0),an (cI s 0),au 0] 140)) w1.heap.size s 0 0:=⟨⟨⟨aL.new w1 _ _⟩,Nat.zero_le _⟩,Nat.zero_le _⟩;have C1:=Gw w1.heap.size s 0 _ hs A1 rfl;have R2:=R1.alloc (.cells #[an s,au (dI s 0),an (cI s 0),au 0] 140);have B2:=B1.alloc B1.size (.cells #[an s,au (dI s 0),an (cI s 0),au 0] 140)
 revert w1 hb1 B1 R1 VB A1 C1 R2 B2
 exact zq.1):aD:=h ⟨q⟩
def Hh(q:bq) (h:cj bq->aD:=by
 intro zq;refine CL.mono ?_;rintro e w0 ⟨rfl,hb0⟩;have B0:=((az _ w).alloc aH wd).trans (hb0.mono ar);have R0:=(aL.new w pF 75).below hb0;have C0:=o7 s 0 0 w0 fK (Nat.zero_le _) rfl
 revert w0 hb0 B0 R0 C0
 exact zq.1):aD:=h ⟨q⟩
def PY(q:bq) (h:cj bq->aD:=by
 intro zq;refine C4.mono ?_;rintro e w4 ⟨rfl,hb4⟩;have B4:=B3.trans (((az _ w3).alloc aH (ba ma mn mc)).trans (hb4.mono ar) |>.mono B3.size);have R4:=(R3.alloc (ba ma mn mc)).below hb4
 revert w4 hb4 B4 R4
 exact zq.1):aD:=h ⟨q⟩
def Hi(q:bq) (h:cj bq->aD:=by
 intro zq;have hn:¬((500:Int)<(s.size:Int)):=ai;have CL:=zA s (w.alloc wd) hs
 revert hn CL
 exact zq.1):aD:=h ⟨q⟩
def Hj(q:bq) (h:cj bq->aD:=by
 intro zq;have B3:=B2.trans (b3.below (by have:=B1.size;omega) XE);have R3:=R2.but b3 ai
 revert B3 R3
 exact zq.1):aD:=h ⟨q⟩
def zA(s w)(hs:s.size<=500):Calls prog 70 #[an s] w fun e w'=>e=bi (an s)/\am w w':=by
 have C:=Tryz.stringslite_Clone s w ai;go_enter func70,ntmps70;go_wp2_with fail;refine C.mono ?_;rintro e w' ⟨rfl,A⟩;go_wp2;go_ret;exact ⟨rfl,A⟩
def dy(s:ae):Except (Option Nat×Nat) (List Ty):=if 500<s.size then .error (none,1) else match dJ (TT s) (PP s) with
 | .error (c,j)=> .error (some (PP s j),c)
 | .ok (ts,_)=>match eD ts with
  |some (p,c)=> .error (some p,c)
  |none=> .ok ts
def PZ:Option Nat×Nat->ag
 |(none,c)=>cm c
 |(some p,c)=>fP p c
def nK(w:af)(r:Except (Option Nat×Nat) (List Ty))(e:Ending)(w':af):Prop:=am w w'/\match r with
 | .error x=>e=bi (.tuple #[.agg #[aA none 0 0],PZ x])
 | .ok ts=>∃sv tl b,e=bi (.tuple #[.agg #[sv],.nilIface])/\MC b w' sv ts tl
def zB(s w)(hs:500<s.size):Calls prog 40 #[an s] w (nK w (.error (none,1))):=by
 have hn:(500:Int)<(s.size:Int):=ai;have C:=aL.new w pF 75;have A:=az w.heap.size w;go_enter func40,ntmps40;go_wp2;refine bE (v:=.tuple #[.agg #[aA none 0 0],cm 1]) (ce results40 _ _ w.heap.size _ 75 _ _ rfl rfl ?hB underlying75 rfl aM) rfl ?post
 case hB=>exact ⟨_,(cY C),bQ⟩
 case post=>exact ⟨(cq A),rfl⟩
def P0(s w)(hs:s.size<=500)(c j)(D:dJ (TT s) (PP s)=.error (c,j)):Calls prog 40 #[an s] w (nK w (.error (some (PP s j),c))):=by
 refine Hi ?_;intro hn CL;go_enter func40,ntmps40;go_wp2_with fail;refine Hh ?_;intro w0 hb0 B0 R0 C0;go_wp2_with fail;refine Hg ?_;intro w1 hb1 B1 R1 VB A1 C1 R2 B2;rw [D] at C1;go_wp2_with fail;refine C1.mono ?_;rintro e C ⟨b3,v,d',rfl,⟨U,Y,V,rfl⟩,A⟩;have c1:C.cell? (aC w1.heap.size 1)=some (au (PP s j)):=A.pos.rd.c1;have R:=A.lt;refine Hj ?_;intro B3 R3;have I:=R3.cell (o:=0) rfl;simp only [List.getElem_toArray,List.getElem_cons_zero] at I;have Q:=R3.fz;have rl:=R3.lt;have J:¬(w.heap.size=C.heap.size):=ai;unfold cm;go_wp2_with (go_at_call 73;refine (kf _ c _).mono ?_;rintro e Z ⟨rfl,rfl⟩);refine bE (v:=.tuple #[.agg #[aA none 0 0],fP (PP s j) c]) (ce results40 _ _ w.heap.size _ 75 _ _ rfl rfl ?hB underlying75 rfl aM) rfl ?post
 case hB=>exact ⟨_,(cY R3),bQ⟩
 case post=>exact ⟨(cq B3),rfl⟩
def Hk(s w)(hs:s.size<=500)(ts j p c)(A:dJ (TT s) (PP s)=.ok (ts,j))(I:eD ts=some (p,c)):Calls prog 40 #[an s] w (nK w (.error (some p,c))):=by
 refine Hi ?_;intro hn CL;go_enter func40,ntmps40;go_wp2_with fail;refine Hh ?_;intro w0 hb0 B0 R0 C0;go_wp2_with fail;refine Hg ?_;intro w1 hb1 B1 R1 VB A1 C1 R2 B2;rw [A] at C1;go_wp2_with fail;refine C1.mono ?_;rintro e w3 ⟨b3,v,rfl,⟨sv,rfl,J⟩,C⟩;obtain ⟨tl,D⟩:=MC.of_rep J (iU _ _ _ _ A).1 (iU _ _ _ _ A).2 (by have:=C.le;omega) C.lt;obtain ⟨ma,mn,mc,rfl⟩:=D.form;refine Hj ?_;intro B3 R3;have C4:=zx _ _ ts tl _ (D.below (bo.alloc aH (ba ma mn mc)));rw [I] at C4;go_wp2_with fail;refine PY ?_;intro w4 hb4 B4 R4;have Q:=R4.cell (o:=0) rfl;simp only [List.getElem_toArray,List.getElem_cons_zero] at Q;have R:=R4.fz;unfold Hf fP cm;go_wp2;refine bE (v:=.tuple #[.agg #[aA none 0 0],fP p c]) (ce results40 _ _ w.heap.size _ 75 _ _ rfl rfl ?hB underlying75 rfl aM) rfl ?post
 case hB=>exact ⟨_,(cY R4),bQ⟩
 case post=>exact ⟨(cq B4),rfl⟩
def VC(s w)(hs:s.size<=500)(ts j)(A:dJ (TT s) (PP s)=.ok (ts,j))(Q:eD ts=none):Calls prog 40 #[an s] w (nK w (.ok ts)):=by
 refine Hi ?_;intro hn CL;go_enter func40,ntmps40;go_wp2_with fail;refine Hh ?_;intro w0 hb0 B0 R0 C0;go_wp2_with fail;refine Hg ?_;intro w1 hb1 B1 R1 VB A1 C1 R2 B2;rw [A] at C1;go_wp2_with fail;refine C1.mono ?_;rintro e w3 ⟨b3,v,rfl,⟨sv,rfl,R⟩,D⟩;obtain ⟨tl,I⟩:=MC.of_rep R (iU _ _ _ _ A).1 (iU _ _ _ _ A).2 (by have:=D.le;omega) D.lt;obtain ⟨ma,mn,mc,rfl⟩:=I.form;refine Hj ?_;intro B3 R3;have C:=I.below (bo.alloc aH (ba ma mn mc));have C4:=zx _ _ ts tl _ C;rw [Q] at C4;go_wp2_with fail;refine PY ?_;intro w4 hb4 B4 R4;have J:=C.below hb4;have V:w4.cell? (aP w3.heap.size)=some (aA ma mn mc):=((aL.new w3 #[aA ma mn mc] 75).below hb4).cell rfl;have U:=R4.cell (o:=0) rfl;simp only [List.getElem_toArray,List.getElem_cons_zero] at U;have Y:=R4.fz;unfold Hf;go_wp2;refine bE (v:=.tuple #[.agg #[aA ma mn mc],.nilIface]) (ce results40 _ _ w.heap.size _ 75 _ _ rfl rfl ?hB underlying75 rfl aM) rfl ?post
 case hB=>exact ⟨_,(cY R4),bQ⟩
 case post=>exact ⟨(cq B4),_,tl,_,rfl,J.kt (KT.set R4 ax 0 _) Ob⟩
def qO(s w):Calls prog 40 #[an s] w (nK w (dy s)):=by
 unfold dy
 split
 ·rename_i h;exact zB s w h
 rename_i h;have hs:s.size<=500:=ai
 split
 ·rename_i c j A;exact P0 s w hs c j A
 rename_i ts j A
 split
 ·rename_i p c hc;exact Hk s w hs ts j p c A hc
 rename_i hc;exact VC s w hs ts j A hc
section
open Go.Extern.Stop Go.Stop Go.Extern
def VD(u)(h:(#[u]:Array ag).size=1)(k:0<1):Array.getLit (n:=1) #[u] 0 h k=u:=rfl
def XG(u v)(h:(#[u,v]:Array ag).size=2)(k:0<2):Array.getLit (n:=2) #[u,v] 0 h k=u:=rfl
def XH(u v)(h:(#[u,v]:Array ag).size=2)(k:1<2):Array.getLit (n:=2) #[u,v] 1 h k=v:=rfl
def J8(t w):(ReflectliteValue.unpack (.iface 145 (.pointer (some t)))).run prog w
  =.ok (.agg #[.pointer (some (aC 5 145)),bu w.heap.size,.int .u64 150]) (w.alloc (.cells #[.pointer (some t)] 145)):=aM
def J9(t w):(ReflectliteValue.unpack (.iface 148 (.pointer (some t)))).run prog w
  =.ok (.agg #[.pointer (some (aC 5 148)),bu w.heap.size,.int .u64 150]) (w.alloc (.cells #[.pointer (some t)] 148)):=aM
def Ka(c w):(ReflectliteValue.unpack (.iface 134 (au c))).run prog w
  =.ok (.agg #[.pointer (some (aC 5 134)),bu w.heap.size,.int .u64 130]) (w.alloc (.cells #[au c] 134)):=aM
def VE(p e w):(ReflectliteValue.unpack (.iface 147 (.agg #[au p,e]))).run prog w
  =.ok (.agg #[.pointer (some (aC 5 147)),bu w.heap.size,.int .u64 153]) (w.alloc (.cells #[au p,e] 147)):=aM
def zC(a w):(ReflectliteValue.methodAny (ReflectliteValue.valueError "reflectlite.Value.Type" 0) (fun t _ _ _=>ReflectliteType.toType t) #[.agg #[.pointer (some (aC 5 145)),.pointer (some a),.int .u64 150]]).run prog w
  =.ok (.iface 325 (.agg #[.pointer (some (aC 5 145))])) w:=aM
def zD(a w):(ReflectliteValue.methodAny (ReflectliteValue.valueError "reflectlite.Value.Type" 0) (fun t _ _ _=>ReflectliteType.toType t) #[.agg #[.pointer (some (aC 5 148)),.pointer (some a),.int .u64 150]]).run prog w
  =.ok (.iface 325 (.agg #[.pointer (some (aC 5 148))])) w:=aM
def qP(h w):(Go.method 545 325 (.agg #[h]) "Kind").run prog w=.ok (292,h) w:=by kernel_rfl
def zE(w):((ReflectliteType.abiMethod fun t=>Functor.map (fun a:Nat=>Value.int IntKind.u8 (a:Int)) (Rtype.kind t)) #[.pointer (some (aC 5 145))]).run prog w=.ok (.int .u8 22) w:=by kernel_rfl
def zF(w):((ReflectliteType.abiMethod fun t=>Functor.map (fun a:Nat=>Value.int IntKind.u8 (a:Int)) (Rtype.kind t)) #[.pointer (some (aC 5 148))]).run prog w=.ok (.int .u8 22) w:=by kernel_rfl
def zG(w):((ReflectliteType.abiMethod fun t=>Functor.map (fun a:Nat=>Value.int IntKind.u8 (a:Int)) (Rtype.kind t)) #[.pointer (some (aC 5 134))]).run prog w=.ok (.int .u8 2) w:=by kernel_rfl
def zH(w):((ReflectliteType.abiMethod fun t=>Functor.map (fun a:Nat=>Value.int IntKind.u8 (a:Int)) (Rtype.kind t)) #[.pointer (some (aC 5 147))]).run prog w=.ok (.int .u8 25) w:=by kernel_rfl
def we(a w):(ReflectliteValue.parts (.agg #[.pointer (some (aC 5 145)),.pointer (some a),.int .u64 150])).run prog w=.ok (some (145,a,150)) w:=by kernel_rfl
def wg(a w):(ReflectliteValue.parts (.agg #[.pointer (some (aC 5 148)),.pointer (some a),.int .u64 150])).run prog w=.ok (some (148,a,150)) w:=by kernel_rfl
def DT(a p W)(ha:W.cell? a=some (.pointer (some p))):
  (ReflectliteValue.method (ReflectliteValue.valueError "reflectlite.Value.IsNil" 0) ReflectliteValue.isNil #[.agg #[.pointer (some (aC 5 145)),.pointer (some a),.int .u64 150]]).run prog W=.ok (.bool false) W:=by
 refine Eq.trans (congrArg (fun z:Sem ag=>z.run prog W) (rfl:ReflectliteValue.method _ _ _=ReflectliteValue.parts _ >>= _)) ?_;simp only [VD,pP,we,Result.andThen];simp [ReflectliteValue.isNil,loadVar,isAgg,underlying,underlying145,ha,Result.andThen]
def DV(a p W)(ha:W.cell? a=some (.pointer (some p))):
  (ReflectliteValue.method (ReflectliteValue.valueError "reflectlite.Value.IsNil" 0) ReflectliteValue.isNil #[.agg #[.pointer (some (aC 5 148)),.pointer (some a),.int .u64 150]]).run prog W=.ok (.bool false) W:=by
 refine Eq.trans (congrArg (fun z:Sem ag=>z.run prog W) (rfl:ReflectliteValue.method _ _ _=ReflectliteValue.parts _ >>= _)) ?_;simp only [VD,pP,wg,Result.andThen];simp [ReflectliteValue.isNil,loadVar,isAgg,underlying,underlying148,ha,Result.andThen]
def qQ(h w):(Go.method 545 325 (.agg #[h]) "Elem").run prog w=.ok (305,.agg #[h]) w:=by kernel_rfl
def qR(h w):(Go.method 545 325 (.agg #[h]) "Implements").run prog w=.ok (306,.agg #[h]) w:=by kernel_rfl
def mz(h w):(Go.method 545 325 (.agg #[h]) "AssignableTo").run prog w=.ok (303,.agg #[h]) w:=by kernel_rfl
def Hm(p h w):(Go.method 545 147 (.agg #[au p,h]) "Unwrap").run prog w=.ok (297,.agg #[au p,h]) w:=by kernel_rfl
def zI(w):(ReflectliteType.method ReflectliteType.elem #[.agg #[.pointer (some (aC 5 145))]]).run prog w=.ok (.iface 325 (.agg #[.pointer (some (aC 5 134))])) w:=by kernel_rfl
def zJ(w):(ReflectliteType.method ReflectliteType.elem #[.agg #[.pointer (some (aC 5 148))]]).run prog w=.ok (.iface 325 (.agg #[.pointer (some (aC 5 147))])) w:=by kernel_rfl
def zK(w):(ReflectliteType.relation "Implements" ReflectliteType.implements_ #[.agg #[.pointer (some (aC 5 134))],.iface 325 (.agg #[.pointer (some (aC 5 77))])]).run prog w=.ok (.bool true) w:=by kernel_rfl
def zL(w):(ReflectliteType.relation "Implements" ReflectliteType.implements_ #[.agg #[.pointer (some (aC 5 147))],.iface 325 (.agg #[.pointer (some (aC 5 77))])]).run prog w=.ok (.bool true) w:=by kernel_rfl
def nM(v w):(ReflectliteType.typeOf #[.iface 134 v]).run prog w=.ok (.iface 325 (.agg #[.pointer (some (aC 5 134))])) w:=by kernel_rfl
def tQ(v w):(ReflectliteType.typeOf #[.iface 147 v]).run prog w=.ok (.iface 325 (.agg #[.pointer (some (aC 5 147))])) w:=by kernel_rfl
def wh(w):(ReflectliteType.relation "AssignableTo" ReflectliteType.assignableTo #[.agg #[.pointer (some (aC 5 134))],.iface 325 (.agg #[.pointer (some (aC 5 134))])]).run prog w=.ok (.bool true) w:=by kernel_rfl
def Ho(w):(ReflectliteType.relation "AssignableTo" ReflectliteType.assignableTo #[.agg #[.pointer (some (aC 5 147))],.iface 325 (.agg #[.pointer (some (aC 5 134))])]).run prog w=.ok (.bool false) w:=by kernel_rfl
def Hq(w):(ReflectliteType.relation "AssignableTo" ReflectliteType.assignableTo #[.agg #[.pointer (some (aC 5 134))],.iface 325 (.agg #[.pointer (some (aC 5 147))])]).run prog w=.ok (.bool false) w:=by kernel_rfl
def Hr(w):(ReflectliteType.relation "AssignableTo" ReflectliteType.assignableTo #[.agg #[.pointer (some (aC 5 147))],.iface 325 (.agg #[.pointer (some (aC 5 147))])]).run prog w=.ok (.bool true) w:=by kernel_rfl
def DW(w):(Rtype.elem? 145).run prog w=.ok (some 134) w:=by kernel_rfl
def DX(w):(Rtype.elem? 148).run prog w=.ok (some 147) w:=by kernel_rfl
def VF(p w):(ReflectliteValue.mk 134 p ReflectliteValue.flagAddr).run prog w=.ok (.agg #[.pointer (some (aC 5 134)),.pointer (some p),.int .u64 386]) w:=by kernel_rfl
def VG(p w):(ReflectliteValue.mk 147 p ReflectliteValue.flagAddr).run prog w=.ok (.agg #[.pointer (some (aC 5 147)),.pointer (some p),.int .u64 409]) w:=by kernel_rfl
def wi(a p W)(ha:W.cell? a=some (.pointer (some p))):
  (ReflectliteValue.method (ReflectliteValue.valueError "reflectlite.Value.Elem" 0) ReflectliteValue.elem #[.agg #[.pointer (some (aC 5 145)),.pointer (some a),.int .u64 150]]).run prog W
   =.ok (.agg #[.pointer (some (aC 5 134)),.pointer (some p),.int .u64 386]) W:=by
 refine Eq.trans (congrArg (fun z:Sem ag=>z.run prog W) (rfl:ReflectliteValue.method _ _ _=ReflectliteValue.parts _ >>= _)) ?_;simp only [VD,pP,we,Result.andThen];simp [ReflectliteValue.elem,loadVar,isAgg,underlying,underlying145,ha,Result.andThen,DW,VF]
def Hs(a p W)(ha:W.cell? a=some (.pointer (some p))):
  (ReflectliteValue.method (ReflectliteValue.valueError "reflectlite.Value.Elem" 0) ReflectliteValue.elem #[.agg #[.pointer (some (aC 5 148)),.pointer (some a),.int .u64 150]]).run prog W
   =.ok (.agg #[.pointer (some (aC 5 147)),.pointer (some p),.int .u64 409]) W:=by
 refine Eq.trans (congrArg (fun z:Sem ag=>z.run prog W) (rfl:ReflectliteValue.method _ _ _=ReflectliteValue.parts _ >>= _)) ?_;simp only [VD,pP,wg,Result.andThen];simp [ReflectliteValue.elem,loadVar,isAgg,underlying,underlying148,ha,Result.andThen,DX,VG]
def DY(a w):(ReflectliteValue.parts (.agg #[.pointer (some (aC 5 134)),.pointer (some a),.int .u64 386])).run prog w=.ok (some (134,a,386)) w:=by kernel_rfl
def Ht(a w):(ReflectliteValue.parts (.agg #[.pointer (some (aC 5 134)),.pointer (some a),.int .u64 130])).run prog w=.ok (some (134,a,130)) w:=by kernel_rfl
def DZ(a w):(ReflectliteValue.parts (.agg #[.pointer (some (aC 5 147)),.pointer (some a),.int .u64 409])).run prog w=.ok (some (147,a,409)) w:=by kernel_rfl
def Hu(a w):(ReflectliteValue.parts (.agg #[.pointer (some (aC 5 147)),.pointer (some a),.int .u64 153])).run prog w=.ok (some (147,a,153)) w:=by kernel_rfl
def D0(w):(Rtype.directlyAssignable 134 134).run prog w=.ok true w:=by kernel_rfl
def D1(w):(Rtype.directlyAssignable 147 147).run prog w=.ok true w:=by kernel_rfl
def D2(ta b c old W)(A:W.cell? b=some (au c))(D:W.cell? ta=some old)(C:W.frozen? ta=false):
  (ReflectliteValue.set #[.agg #[.pointer (some (aC 5 134)),.pointer (some ta),.int .u64 386],.agg #[.pointer (some (aC 5 134)),.pointer (some b),.int .u64 130]]).run prog W
   =.ok (.tuple #[]) (W.setCell ta (au c)):=by
 refine Eq.trans (congrArg (fun z:Sem ag=>z.run prog W) (rfl:ReflectliteValue.set _=ReflectliteValue.parts _ >>= _)) ?_;simp only [XG,XH,pP,DY,Ht,Result.andThen];simp [ReflectliteValue.flagAddr,loadVar,isAgg,underlying,underlying134,A,Result.andThen,D0,storeVar,Value.cells,storeCells,Addr.add];rw [run_store prog W ta _ _ bQ];simp [D,C]
end
section
open Go.Extern.Stop Go.Stop Go.Extern
abbrev wj:=@World.cell?_alloc_lt
abbrev nN(a0:Nat):Obj:=.cells #[bu a0] 145
abbrev eX(a0:Option Addr)(a1:Nat):Obj:=.cells #[.pointer a0,bu a1,.int .u64 150] 226
def aaU (h:aD:=by
 rw [wj _ _ ⟨w.heap.size,0,none⟩ (by simp;omega)];simp):aD:=h
def XI (h:aD:=by
 rw [World.cell?_alloc_at _ _ _ _ (by simp)];rfl):aD:=h
def Bw (h:aD:=by
 rw [wj _ _ ⟨0,0,none⟩ ar,wj _ _ ⟨0,0,none⟩ hlt];exact hg):aD:=h
def Bx (h:aD:=by
 rcases Br w.heap.size with h0|h
 ·simp [World.cell?,h0] at hg
 exact h):aD:=h
def Bz:=@run_callFunc_extern prog 119 _ (fun args=>ReflectliteValue.unpack (args.getD 0 (.tuple #[]))) func119 aM aM aM aM
def BA:=@run_callFunc_extern prog 120 _ (ReflectliteValue.methodAny (ReflectliteValue.valueError "reflectlite.Value.Type" 0) (fun t _ _ _=>ReflectliteType.toType t)) func120 aM aM aM aM
def BC:=@run_callFunc_extern prog 121 _ (ReflectliteValue.method (ReflectliteValue.valueError "reflectlite.Value.IsNil" 0) ReflectliteValue.isNil) func121 aM aM aM aM
def Kb:=@run_callFunc_extern prog 292 _ (ReflectliteType.abiMethod fun t=>do pure (.int .u8 (<-Rtype.kind t))) func292 aM aM aM aM
def Kd:=@run_callFunc_extern prog 305 _ (ReflectliteType.method ReflectliteType.elem) func305 aM aM aM aM
def Ke:=@run_callFunc_extern prog 306 _ (ReflectliteType.relation "Implements" ReflectliteType.implements_) func306 aM aM aM aM
def Kf:=@run_callFunc_extern prog 178 _ ReflectliteType.typeOf func178 aM aM aM aM
def Kg:=@run_callFunc_extern prog 303 _ (ReflectliteType.relation "AssignableTo" ReflectliteType.assignableTo) func303 aM aM aM aM
def P1:=@run_callFunc_extern prog 179 _ (ReflectliteValue.method (ReflectliteValue.valueError "reflectlite.Value.Elem" 0) ReflectliteValue.elem) func179 aM aM aM aM
def P2:=@run_callFunc_extern prog 180 _ ReflectliteValue.set func180 aM aM aM aM
def YR(t w):Calls prog 75 #[.nilIface,t] w fun e w'=>e=bi (.bool false)/\w'=w:=by
 go_enter func75,ntmps75;go_wp2;go_ret;exact ⟨rfl,rfl⟩
def as_58(c tb old w)(hg:w.cell? (aP 0)=some (.iface 325 (.agg #[.pointer (some (aC 5 77))])))(A:aL w tb #[old] 134):
  Calls prog 75 #[.iface 134 (au c),.iface 145 (bu tb)] w fun C w'=>C=bi (.bool true)/\But tb w w'/\aL w' tb #[au c] 134:=by
 have ae:=Bz;have af:=BA;have ag:=BC;have ak:=Kb;have ai:=Kd;have aj:=Ke;have am:=Kf;have ah:=Kg;have an:=P1;have al:=P2;have Z:=qP;have V:=qQ;have Y:=qR;have U:=mz;have f6:=J8;have f7:=zC;have kp:=zE;have R:=zG;have I:=zI;have Q:=zK;have ab:=DT ⟨w.heap.size,0,none⟩ ⟨tb,0,none⟩ ((w.alloc (nN tb)).alloc (eX (some (aC 5 145)) w.heap.size)) ar;have hlt:0<w.heap.size:=by
  exact Bx
 have J:((w.alloc (nN tb)).alloc (eX (some (aC 5 145)) w.heap.size)).cell? (aP 0)=some (.iface 325 (.agg #[.pointer (some (aC 5 77))])):=by
  exact Bw
 have ac:=nM;have D:=wh;have ad:=Ka;have el:=wi ⟨w.heap.size,0,none⟩ ⟨tb,0,none⟩ (((w.alloc (nN tb)).alloc (eX (some (aC 5 145)) w.heap.size)).alloc (eX (some (aC 5 145)) w.heap.size)) aaU;have st:=D2 ⟨tb,0,none⟩ ⟨w.heap.size+1+1+1,0,none⟩ c old ((((w.alloc (nN tb)).alloc (eX (some (aC 5 145)) w.heap.size)).alloc (eX (some (aC 5 145)) w.heap.size)).alloc (.cells #[au c] 134))
  XI
  (((((A.alloc _).alloc _).alloc _).alloc _).cell rfl)
  (((((A.alloc _).alloc _).alloc _).alloc _).fz 0)
 go_enter func75,ntmps75;go_wp2;refine vk 1 ?_;rw [rW];go_wp2;go_ret;exact ⟨rfl,((((((But.refl tb w).alloc _).alloc _).alloc _).alloc _).setCell 0 _),(((((A.alloc _).alloc _).alloc _).alloc _).set 0 _)⟩
end
