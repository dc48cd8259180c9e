import Derived.Test.YtlbpnlngckgcbaaGreatDoorM07
import Derived.Test.YtlbpnlngckgcbaaGreatDoorM08
import Derived.Laws.StructEq
import Derived.Deep.Upon
import Derived.RangeFuncNested
import Derived.RangeFuncBound
import Derived.RangeFuncCalls
import Derived.RangeFuncLeaves
import Derived.Shelf.Abstract
import Derived.Shelf.RegionOpen
import Derived.OwnWalkIn
import Derived.TacticsInMore
import Derived.LoopNIn
import Derived.LoopIn
import Derived.Test.YtlbpnlngckgcbaaGreatDoorM02
import Derived.LaidEql
import Derived.Stop.Asserts
import Derived.RowKitTokens
set_option linter.all false
set_option maxHeartbeats 4000000
set_option maxRecDepth 100000
namespace Go.Proofs.YtlbpnlngckgcbaaGreatDoor
open Go.RowKit Go.PlainAid Go.Proofs.Tryz
variable {aF cD:Prop} {w w' x y z W W':af} {cs:Array ag} {T e:TypeId} {sv v v' tv:ag} {rs:List Rl} {ts:List Ty} {i base off cap n size g' B b1 n1 m:Nat} {ao:Option Addr} {nl:List Sp} {P:Program} {rest:List Oper} {xs:List ag} {α β:Type} {t:Ty}
section
def Jz (I:aF:=by
 simp only;go_enter func209,ntmps209;go_wp2_with fail;refine C.u.mono ?_;rintro e w1 ⟨rfl,D⟩;have A:=ai (TZ.u.trans (D.mono TZ.u.size));have sz:=A.u.size;clear D;unfold bY;go_wp2;go_ret;exact ⟨_,rfl,(bB A),hM.nil _ _⟩):aF:=I
def JA (C:aF:=by
 go_wp2;go_roundw
 case rel=>exact ⟨k+1,aj,by go_num,below_drewN HB.u _,Gk.u.drewN _,Hn⟩
 case measure=>simp [intOf];omega):aF:=C
def aQ(ts:List Ty)(s:Sp):List Sp:=match bL ts s.1 with
 |none=>[]
 |some t=>match bP t s.2 with
  |none=>[]
  |some r=>cY ts t r r.body
theorem q2(b U ts tl s1 s2 w)(ac:MC b w U ts tl):
  Calls prog 209 #[.agg #[U],.agg #[.string s1,.string s2]] w fun e' w'=>∃U,e'=.returned U/\Below w.heap.size w w'/\hM w.heap.size w' U (aQ ts (s1,s2)):=by
 obtain ⟨Z,mn,mc,rfl⟩:=ac.form;have W0:Below w.heap.size w ((w.alloc (aN Z mn mc)).alloc (hJ s1 s2)):=(ba.alloc az _).alloc an _;have V:=ai (ac.below W0);have af:=ai ((aB.new w #[.slice Z mn mc] 75).alloc (hJ s1 s2));have aE:=ai (aB.new' (w.alloc (aN Z mn mc)) #[.string s1,.string s2] 291 (w.heap.size+1) an);have TZ:=ai W0;clear W0 ac;unfold aQ
 cases J:bL ts s1 with
 |none=>
  have C:=ai (oq b _ ts tl s1 s2 _ V.u J);clear J;exact Jz
 |some t=>
  simp only
  cases Y:bP t s2 with
  |none=>
   obtain ⟨al,ap,am,R⟩:=ot b _ ts tl s1 s2 _ V.u t J Y;have C:=ai R;clear J Y R;exact Jz
  |some r=>
   obtain ⟨al,ap,am,rl,aC,rv,ad,ae,aj,R⟩:=qa b _ ts tl s1 s2 _ V.u t J r Y;have C:=ai R;have okp:=ae.okp r ad;have aw:=ai ae;have ax:=ai aj;have av:=ai ad;clear J Y R ae aj ad;simp only;go_enter func209,ntmps209;go_wp2_with fail;refine C.u.mono ?_;rintro e w1 ⟨rfl,Q⟩;have b1:=Q.alloc Q.size (bq t.place t.name al ap am);have O:=b1.alloc b1.size (cp r.place r.name aC rv);have ab:=ai (TZ.u.trans (O.mono TZ.u.size));have ay:=ai (aw.u.below O);have au:=ai (V.u.below O);have ag:=ai (ax.u.but (But.of_below O));have aG:w1.cell? ⟨w.heap.size,0,none⟩=some (.slice Z mn mc):=(af.u.below Q).cell rfl;have aH:=(af.u.below Q).lt;have aD:=ab.u.size;clear Q b1 O C;go_wp2_with fail;refine (p9 b _ ts tl t _ rl r _ r.body _ _ au.u ay.u ag.u av.u ag.u okp).mono ?_;rintro e aJ ⟨aI,rfl,ah,ak⟩;have ar:=ai (ab.u.trans (ah.mono ab.u.size));have aA:=ai (ak.base aD);clear ah ak;go_wp2;go_ret;exact ⟨_,rfl,ar.u,aA.u⟩
def gJ(a c:Sp):Bool:=eqs a.1 c.1&&eqs a.2 c.2
theorem Q8(a c x y w):(Op.equalIn 10000 291 (.agg #[.string a,.string c]) (.agg #[.string x,.string y])).run prog w=.ok (gJ (a,c) (x,y)) w:=by
 have C:=underlying9;rw [show (10000:Nat)=9999+1 from rfl,run_equalIn_agg w 9999 291 _ _ au au];simp only [Program.fieldsOf,underlying291]
 go_simp
 rw [show gJ (a,c) (x,y)=(decide (a.toList=x.toList)&&decide (c.toList=y.toList)) from by
  unfold gJ eqs;rw [aO,aO,aO,aO];simp [Bool.beq_eq_decide_eq]]
 by_cases h1:a.toList=x.toList<;>by_cases h2:c.toList=y.toList<;>simp [h1,h2]
theorem Ch(w:af):∀n,(w.drewN n).heap=w.heap
 |0=>rfl
 |n+1=>rfl
variable {g:Nat}
theorem aB.drewN(h:aB w g cs T)(n):aB (w.drewN n) g cs T:=by unfold aB;rw [Ch];exact h
theorem Gn(x y xs ys w):(eqGuard .eql 291 x y (.agg xs) (.agg ys)).run prog w=.ok () w:=run_eqGuard_agg w .eql 291 x y xs ys au
theorem N8(base v l x w)(am:l.length<=10000000000000)(D:w.ownsRow base 291 2 v l.length (bk l)):
  Calls prog 224 #[v,.agg #[.string x.1,.string x.2]] w fun e w'=>∃n:Int,e=.returned (.int .i64 n)/\decide (0<=n)=l.any (fun y=>gJ x y)/\Below w.heap.size w w':=by
 obtain ⟨sa,sc,rfl⟩:=ay D;have H:=ai D;have ae:=Q8;have af:=Gn;clear D;go_enter func224,ntmps224;go_wp2
 go_loopw [5,8] (fun u i wr=>∃k:Nat,k<=l.length/\i=.int .i64 k/\Below w.heap.size w wr/\aB wr w.heap.size #[.string x.1,.string x.2] 291/\Hid (∀j,(D:j<l.length)->j<k->gJ x l[j]=false)) (fun _ i _=>l.length-(intOf i).toNat)
 case atStart=>exact ⟨0,aj,rfl,ba.alloc az _,aB.new _ _ _,ai (fun j e D=>aj)⟩
 case round=>
  obtain ⟨k,ah,rfl,J,O,R⟩:=hrel;have HB:=ai J;have Gk:=ai O
  by_cases U:k<l.length
  ·obtain ⟨g,c,e1,k0,k1⟩:=Row2.cell (ax (w':=wr) H.u (fun g cs f _ Y=>J.block g (lt_of_some Y))) k l[k] (aG U);simp only [aI] at e1;obtain ⟨rfl,_,rfl⟩:=e1;obtain ⟨ad,b1⟩:=O.two;have ab:(k:Int)<(l.length:Int):=aj;have al:(0:Int)<=(k:Int):=aj;clear J O
   cases I:gJ x l[k]
   ·have V:gJ (x.1,x.2) (l[k].1,l[k].2)=false:=I;have Hn:=ai (show ∀j,(D:j<l.length)->j<k+1->gJ x l[j]=false from fun j D ag=>by
     by_cases e:j=k
     ·subst e;exact I
     exact ak R j D aj)
    clear I;go_wp2
    go_quiet (fail)
    exact JA
   have V:gJ (x.1,x.2) (l[k].1,l[k].2)=true:=I;have Q:=ai (show l.any (fun y=>gJ x y)=true from ei.2 ⟨l[k],bu U,I⟩);clear I;go_wp2
   go_quiet (fail)
   go_wp2;go_ret;exact ⟨k,rfl,by rw [Q.u];simp,below_drewN HB.u _⟩
  have Q:=ai (show l.any (fun y=>gJ x y)=false from by
   rw [iW];intro y ac;obtain ⟨j,Z,rfl⟩:=dn ac;rw [ak R j Z aj];simp)
  have ab:¬((k:Int)<(l.length:Int)):=aj;clear J O;go_wp2;go_ret;exact ⟨-1,rfl,by rw [Q.u];decide,HB.u⟩
theorem lq(base v l x w)(U:l.length<=10000000000000)(D:w.ownsRow base 291 2 v l.length (bk l)):
  Calls prog 176 #[v,.agg #[.string x.1,.string x.2]] w fun e w'=>e=.returned (.bool (l.any (fun y=>gJ x y)))/\Below w.heap.size w w':=by
 have C:=ai (fun w' (Q:Below w.heap.size w w')=>N8 base v l x w' U (ax D (fun g cs f _ R=>Q.block g (lt_of_some R))));obtain ⟨sa,sc,rfl⟩:=ay D;clear D;go_enter func176,ntmps176;go_wp2_with fail;refine (C.u _ (ba.alloc az _)).mono ?_;rintro e w1 ⟨n,rfl,hn,I⟩;have J:=ai (((aw _ w).alloc az (hJ x.1 x.2)).trans (I.mono an));have O:=ai hn;clear hn I;go_wp2;go_ret;exact ⟨by rw [<-O.u];rfl,J.u⟩
theorem bn(a c):eqs a c=true↔a=c:=by
 unfold eqs;rw [dL]
 constructor
 ·intro h;rw [<-gh a,<-gh c,h]
 rintro rfl;rfl
theorem o6(a c):gJ a c=true↔a=c:=by
 unfold gJ;rw [Bool.and_eq_true,bn,bn];obtain ⟨h,A⟩:=a;obtain ⟨c1,c2⟩:=c;simp
end
section
abbrev lz:=@Bool.or_false
abbrev xy:=@Nat.eq_zero_or_pos
def P8 (ab:aF:=by
 intro V Z ad Y ae J D O I Q R C;have U:=ai (Tm.u.app hb ba J (fun h0=>by have:=D h0;first|exact this|exact .inr this) O I Q R (fun i hi ac=>by first|exact C i hi ac|exact C i hi));clear J D O I Q R C Tm T1;go_wp2
 go_roundg k
 case measure=>omega
 case rel=>exact ⟨q++aQ ts x,f++[x],V,Z,ad,Y,some ⟨g6,0,none⟩,Tn,an,an,by simpa using U.u,ai ⟨aM,aM,q5.u⟩⟩):aF:=ab
def NS(w w':af):Prop:=∀(g:Nat)(cs:Array ag)(T:TypeId)(f:Nat×Nat),w.heap[g]? =some (Obj.cells cs T f)->T≠291->w'.heap[g]? =w.heap[g]?
theorem NS.below(h:Below w.heap.size w w'):NS w w':=fun g cs T f A _=>h.block g (lt_of_some A)
theorem NS.trans(C:NS x y)(k:NS y z):NS x z:=fun g cs T f h A=>(k g cs T f ((C g cs T f h A).trans h) A).trans (C g cs T f h A)
variable {b:Nat}
theorem NS.g(C:NS w w'):nN b w w':=fun g cs f _ D=>C g cs _ f D ar
theorem RC.ns{rl}(C:RC b w sv rs rl)(k:NS w w'):RC b w' sv rs rl:=
 ⟨C.fst,ax C.row (fun g cs f _ D=>k g cs _ f D ar),fun p I=>bg.frame k.g _ _ (C.ex p I),C.len,C.okp,C.okg,C.wf⟩
theorem MC.ns{tl}(C:MC b w sv ts tl)(k:NS w w')(hs:w.heap.size<=w'.heap.size):MC b w' sv ts tl:=
 ⟨C.fst,ax C.row (fun g cs f _ D=>k g cs _ f D ar),fun p I=>by obtain ⟨rl,J⟩:=C.rels p I;exact ⟨rl,J.ns k⟩,C.len,cg C.blt hs⟩
def ez(nd:Sp->List Sp)(f:List Sp):List Sp->Nat
 | []=>0
 |k::ks=>(if f.any (fun y=>gJ k y) then 0 else (nd k).length)+ez nd f ks
theorem oy(nd f x):∀ks,ez nd (f++[x]) ks<=ez nd f ks
 | []=>cm _
 |k::ks=>by
  have h:=oy nd f x ks;simp only [ez,List.any_append]
  cases f.any (fun y=>gJ k y)<;>simp
  ·split<;>omega
  exact h
theorem vF(nd f x)(C:f.any (fun y=>gJ x y)=false):∀ks,x∈ks->(nd x).length+ez nd (f++[x]) ks<=ez nd f ks
 | [],h=>by simp at h
 |k::ks,h=>by
  have h1:=oy nd f x ks
  by_cases A:k=x
  ·subst A;have e:gJ k k=true:=(o6 k k).2 rfl;simp only [ez,List.any_append,C,Bool.false_or,List.any_cons,e,List.any_nil,lz,if_true,Bool.false_eq_true,aP];omega
  have h2:=vF nd f x C ks (by
   rcases List.mem_cons.1 h with e|e
   ·exact absurd e.symm A
   exact e)
  simp only [ez,List.any_append,List.any_cons,List.any_nil,lz];have e:gJ k x=false:=by
   cases e:gJ k x
   ·rfl
   exact absurd ((o6 k x).1 e) A
  rw [e,lz];omega
theorem Gz(nd f x ks)(h:nd x=[]):(nd x).length+ez nd (f++[x]) ks<=ez nd f ks:=by
 have:=oy nd f x ks;rw [h]
 simpa using this
def gD(ts:List Ty):List Sp:=ts.flatMap fun t=>t.rels.map fun r=>(t.name,r.name)
theorem Of(ts s)(h:aQ ts s≠ []):s∈gD ts:=by
 unfold aQ at h
 split at h
 ·exact absurd rfl h
 rename_i t D
 split at h
 ·exact absurd rfl h
 rename_i r C;unfold gD;rw [cb];refine ⟨t,gm D,?_⟩;rw [aY];refine ⟨r,gm C,?_⟩;have e1:=(bn _ _).1 (List.find?_some (p:=fun t:Ty=>eqs t.name s.1) D);have A:=(bn _ _).1 (List.find?_some (p:=fun r:Rl=>eqs r.name s.2) C);obtain ⟨I,J⟩:=s;simp only at e1 A;rw [e1,A]
theorem qf(ts f x)(A:f.any (fun y=>gJ x y)=false):(aQ ts x).length+ez (aQ ts) (f++[x]) (gD ts)<=ez (aQ ts) f (gD ts):=by
 by_cases h:aQ ts x=[]
 ·exact Gz _ _ _ _ h
 exact vF _ _ _ A _ (Of ts x h)
def dA(nd:Sp->List Sp):Nat->List Sp->List Sp->List Sp
 |0,_,f=>f
 |_+1,[],f=>f
 |k+1,x::q,f=>if f.any (fun y=>gJ x y) then dA nd k q f else dA nd k (q++nd x) (f++[x])
def eE(ts:List Ty)(h:List Sp):Nat:=h.length+ez (aQ ts) [] (gD ts)
def cF(ts:List Ty)(h:List Sp):List Sp:=dA (aQ ts) (eE ts h+1) h []
def hN(ts:List Ty)(h:List Sp)(x:Sp):Bool:=(cF ts h).any (fun y=>gJ x y)
theorem Cx{may}(A:w.keptBut w' may)(hi:i<w.heap.size)(D:∀j,¬may (.cell i j))(C:¬may (.map i)):w'.heap[i]? =w.heap[i]? :=by
 have h:=A.2.2 i hi
 revert h
 cases e1:w.heap[i]? with
 |none=>cases e2:w'.heap[i]? with
  |none=>simp
  |some o'=>intro h;exact h
 |some o=>cases e2:w'.heap[i]? with
  |none=>cases o<;>(intro h;exact h)
  |some o'=>
   cases o with
   |cells c t fr=>
    cases o' with
    |cells c' t' fr'=>
     rintro ⟨rfl,rfl,hs,hc⟩;have:c'=c:=Array.ext_getElem? (fun j=>hc j (D j));rw [this]
    |_=>intro h;exact h
   |map es cl=>
    cases o' with
    |map es' cl'=>
     intro h
     rcases h with h|⟨rfl,rfl⟩
     ·exact absurd h C
     rfl
    |_=>intro h;exact h
   |_=>intro h;exact h
structure QR(base:Nat)(w:af)(ao:Option Addr)(g off cap:Nat)(l:List Sp):Prop where
 came:Came w 2 ao g off l.length cap (bk l)
 max:cap<=maxLen
 at_:0<cap->base<=g
theorem QR.of_own{l}(J:w.ownsRow base 291 2 v l.length (bk l)):∃ao g cap,v=.slice ao l.length cap/\QR base w ao g 0 cap l/\(0<cap->v.ownBlock=some g):=by
 rcases J with ⟨h1,⟨rfl,h2⟩|⟨g,cap,I,rfl,O,D,Q,R,hs,U⟩⟩
 ·refine ⟨none,0,0,by rw [h2],⟨⟨aj,aj,aj,cd _,?_,by intro j C;omega⟩,by unfold maxLen;omega,aj⟩,aj⟩;intro j u C;have:=(List.getElem?_eq_some_iff.1 C).1;rw [cd] at this;omega
 refine ⟨_,g,cap,rfl,⟨⟨Q,fun _=>rfl,fun _=>lt_of_some D,cd _,?_,?_⟩,R,fun _=>O⟩,fun _=>rfl⟩
 ·intro j u C;have V:=(List.getElem?_eq_some_iff.1 C).1;rw [<-U,List.getElem?_take] at C
  split at C
  ·simp [World.cell?,D] at C ⊢;exact C
  simp at C
 intro j C;have:0+l.length*2+j<I.size:=by rw [hs];rw [Nat.sub_mul] at C;omega
 refine ⟨?_,?_⟩
 ·simp [World.cell?,D];omega
 simp [World.frozen?,D]
theorem QR.frame{g l}(D:QR base w ao g off cap l)(A:0<cap->w'.heap[g]? =w.heap[g]?)(hs:w.heap.size<=w'.heap.size):QR base w' ao g off cap l:=by
 obtain ⟨hc,J,ha⟩:=D;refine ⟨⟨hc.le,hc.addr,fun h0=>cg (hc.lt h0) hs,hc.oldsLen,?_,?_⟩,J,ha⟩
 ·intro j u h;have I:=(List.getElem?_eq_some_iff.1 h).1;have h0:0<cap:=by have:=hc.le;rw [cd] at I;omega
  exact (iV (a:=⟨g,off+j,none⟩) (A h0)).trans (hc.olds j u h)
 intro j h;have h0:0<cap:=by
  rcases xy cap with e|e
  ·subst e;simp at h
  exact e
 have e1:=iV (a:=⟨g,off+l.length*2+j,none⟩) (A h0);have C:=World.frozen?_of_block (a:=⟨g,off+l.length*2+j,none⟩) (A h0);rw [e1,C];exact hc.spare j h
theorem QR.head{g x l}(h:QR base w ao g off cap (x::l)):0<cap/\ao=some ⟨g,off,none⟩/\w.cell? ⟨g,off,none⟩=some (.string x.1)/\w.cell? ⟨g,off+1,none⟩=some (.string x.2):=by
 have h0:0<cap:=by have:=h.came.le;simp at this;omega
 refine ⟨h0,h.came.addr h0,?_,?_⟩
 ·exact h.came.olds 0 _ (by simp [bk,zh])
 exact h.came.olds 1 _ (by simp [bk,zh])
theorem QR.tail{g x l}(D:QR base w ao g off cap (x::l))(Og)(ha:0<cap-1->Og=some ⟨g,off+2,none⟩):QR base w Og g (off+2) (cap-1) l:=by
 obtain ⟨hc,O,I⟩:=D;have J:=hc.le;simp only [List.length_cons] at J;refine ⟨⟨aj,ha,fun h0=>hc.lt aj,cd _,?_,?_⟩,aj,fun h0=>I aj⟩
 ·intro j u C;rw [show off+2+j=off+(j+2) by omega];exact hc.olds (j+2) u (by simpa [bk,zh] using C)
 intro j C;have:=hc.spare j (by simp only [List.length_cons];rw [show cap-(l.length+1)=cap-1-l.length by omega];exact C);simp only [List.length_cons] at this;rw [show off+2+l.length*2+j=off+(l.length+1)*2+j by omega];exact this
theorem QR.app{g r q}(D:QR base w ao g off cap q)(U:base<=w.heap.size)(I:Upon w 291 2 ao g off q.length cap (bk q) w' v' nl.length (bk nl) r):
  ∃Q g' ab J,v'=.slice Q (q++nl).length J/\QR base w' Q g' ab J (q++nl)/\(0<J->(0<cap/\g'=g)\/w.heap.size<=g'):=by
 have V:=I.kept.size
 rcases I.val with ⟨Y,hv,Z⟩|⟨ac,R,c2,hv,ho⟩
 ·refine ⟨ao,g,off,cap,by rw [hv,List.length_append],⟨⟨by rw [List.length_append];exact Y,D.came.addr,fun h0=>cg (D.came.lt h0) V,cd _,?_,?_⟩,D.max,D.at_⟩,fun h0=> .inl ⟨h0,rfl⟩⟩
  ·intro j u C;have O:=(List.getElem?_eq_some_iff.1 C).1;rw [cd,List.length_append] at O;have h0:0<cap:=aj;rw [I.inArray D.came h0 Z j aj,<-dO];exact C
  intro j C;rw [List.length_append] at C ⊢;have h0:0<cap:=by
   rcases xy cap with e|e
   ·subst e;simp at C
   exact e
  have hs:=D.came.spare (nl.length*2+j) (by rw [Nat.sub_mul] at C ⊢;omega);rw [show off+(q.length+nl.length)*2+j=off+q.length*2+(nl.length*2+j) by omega];have ae:=I.ksLen;rw [I.old (D.came.lt h0) (fun j' ad ⟨_,e⟩=>aj),I.frozen _ (D.came.lt h0)];exact hs
 ·refine ⟨_,R,0,c2,by rw [hv,List.length_append],⟨⟨by rw [List.length_append];exact ho.le,fun _=>rfl,?_,cd _,?_,?_⟩,ho.max,fun _=>aL U ho.new⟩,fun _=> .inr ho.new⟩
  ·intro h0;have:=(ho.there 0 aj).1;exact World.block_lt_of_cell? _ _ (Option.isSome_iff_exists.1 this).choose_spec
  ·intro j u C;have O:=(List.getElem?_eq_some_iff.1 C).1;rw [cd,List.length_append] at O;rw [Nat.zero_add,ho.holds j aj,<-dO];exact C
  intro j C;rw [List.length_append,Nat.sub_mul] at C;rw [List.length_append];exact ho.there _ aj
theorem QR.others{g len r q ks}(h:Upon w 291 2 ao g off len cap q w' v' n ks r)(hi:i<w.heap.size)(C:0<cap->i≠g):w'.heap[i]? =w.heap[i]? :=by
 refine Cx h.kept hi ?_ ?_
 ·rintro j ⟨j',A,e⟩;have h0:=h.capPos A;injection e with e1 D
  exact C h0 e1
 rintro ⟨j',A,e⟩
 cases e
theorem QR.src{l}(A:w.ownsRow base 291 2 sv l.length (bk l)):Src prog 2 288 sv l.length (bk l) w:=by
 rcases A with ⟨h1,⟨rfl,h2⟩|⟨g,cap,I,rfl,J,C,O,R,hs,D⟩⟩
 ·have:l=[]:=List.eq_nil_of_length_eq_zero h2;subst this;exact Src.ofNil w underlying288 0
 refine Src.ofSlice w underlying288 _ _ _ _ (cd _) ?_ (Ju l);intro j u h;have Q:=(List.getElem?_eq_some_iff.1 h).1;rw [<-D,List.getElem?_take] at h
 split at h
 ·rw [Addr.add_lit];simp [World.cell?,C] at h ⊢;exact h
 simp at h
theorem nQ(b):∀(h:List ag)(o:Nat)(w:af),(w.setCells b o h).tape=w.tape
 | [],_,_=>rfl
 |v::r,o,w=>(nQ b r (o+1) _).trans ((aw 0 w).setCell (p:=⟨b,o,none⟩) (Nat.zero_le _) v).tape
theorem xz(J:P.underlying 288=some (.slice 291)){g q}(C:QR base w ao g off cap q)(ty i z)(hi:P.info? 291=some i)(Q:i.zero=some z)(D:i.size=2)(O:i.bytes=32)(Y:z.cells.size=2)(x)(hs:Src P 2 288 x nl.length (bk nl) w)(ab:q.length+nl.length<=4000000000000):
  ∃v' w',(Builtin.append_ #[288,288] ty #[.slice ao q.length cap,x]).run P w=.ok v' w'/\Upon w 291 2 ao g off q.length cap (bk q) w' v' nl.length (bk nl) (Upon.next q.length cap 2 0 0 nl.length)/\w'.tape=w.tape:=by
 obtain ⟨v',w',e,R⟩:=run_append_upon (P:=P) C.came 288 288 ty i z 32 J hi Q D O Y (Upon.start C.came) x nl.length (bk nl) hs ey aj;refine ⟨v',w',e,by simpa using R,?_⟩;have Z:=cd nl
 by_cases V:q.length+nl.length<=cap
 ·by_cases h0:0<cap
  ·have U:=C.came.addr h0;subst U;have:=run_append_room_src (P:=P) (w:=w) 288 288 ty 291 i J hi g off q.length cap x nl.length (bk nl) (by rw [D];exact hs) V
    (fun j I=>by rw [D];exact (C.came.spare j (by rw [Nat.sub_mul];omega)).1) (fun j I=>by rw [D];exact (C.came.spare j (by rw [Nat.sub_mul];omega)).2)
   rw [e] at this;injection this with h1 h2
   rw [h2];exact nQ _ _ _ _
  have hn:nl=[]:=List.eq_nil_of_length_eq_zero aj;subst hn;have:=run_append_nothing (P:=P) w 288 288 ty 291 i J hi ao q.length cap C.came.le x (by rw [D];exact hs);rw [e] at this;injection this with h1 h2
  rw [h2]
 ·have hold:(Builtin.firstCells i.size q.length (.slice ao q.length cap)).run P w.drew=.ok (bk q).toArray w.drew:=by
   rw [D]
   by_cases h0:0<cap
   ·rw [C.came.addr h0];exact run_firstCells_some w.drew 2 q.length _ _ _ _ (cd _) (fun j v I=>by rw [Addr.add_lit];exact C.came.olds j v I)
   have ac:=C.came.le;have hn:q=[]:=List.eq_nil_of_length_eq_zero aj;subst hn
   cases ao with
   |none=>exact run_firstCells_none _ _ _ _ _
   |some a=>exact run_firstCells_some w.drew 2 0 _ _ _ [] an (fun j v I=>by simp at I)
  have:=run_append_grow_src (P:=P) (w:=w) 288 288 ty 291 i z J hi Q ao q.length cap (bk q) hold x nl.length (bk nl) (by rw [D];exact hs) aj aj (growslice_fits aj (by rw [O];omega));rw [e] at this;injection this with h1 h2
  rw [h2]
  rfl
theorem l5(Y:P.underlying 288=some (.slice 291)){R:Array Oper}{o:Oper}{a:Act}{Q:Exit->Act->af->Prop}(ad:o.guard=none)(s x:Operand)
  (ho:o.op=.call {callee:=.builtin .append,args:=#[s,x],argTypes:=#[288,288]}) {g:Nat} {C:List Sp} (O:QR base w ao g off cap C)
  (i:TypeInfo) (z:ag) (hi:P.info? 291=some i) (ap:i.zero=some z) (ak:i.size=2) (ab:i.bytes=32) (ar:z.cells.size=2) (am:a.eval s=.slice ao C.length cap)
  (J:ag) (an:a.eval x=J) (hs:Src P 2 288 J nl.length (bk nl) w) (ae:C.length+nl.length<=4000000000000) (Z:base<=w.heap.size)
  (U:∀D g' I A w',QR base w' D g' I A (C++nl)->(0<A->(0<cap/\g'=g)\/w.heap.size<=g')->w.heap.size<=w'.heap.size->w'.os=w.os->w'.tape=w.tape->w'.output=w.output->(∀i,i<w.heap.size->(0<cap->i≠g)->w'.heap[i]? =w.heap[i]?)->wpList P R Q rest (a.put o.dst (.slice D (C.length+nl.length) A)) w'):wpList P R Q (o::rest) a w:=by
 refine wpList_plain ad fun K V=> ?_
 obtain ⟨v',w',aj,h,al⟩:=xz Y O o.type i z hi ap ak ab ar J hs ae;unfold Oper.wp;simp [execOp,ho,resolve,invoke,builtin,am,an,aj,Result.andThen];obtain ⟨D,g',I,A,rfl,ai,ac⟩:=O.app Z h;refine V _ _ ?_;rw [List.length_append];exact U D g' I A w' ai ac h.kept.size h.kept.1 al h.kept.2.1 (fun i hi ah=>QR.others h hi ah)
theorem cA(C:w.ownsRow base e size v n xs)
  (k:∀g cs f,v.ownBlock=some g->w.heap[g]? =some (.cells cs e f)->w'.heap[g]? =w.heap[g]?):w'.ownsRow base e size v n xs:=by
 obtain ⟨h1,h2⟩:=C;refine ⟨h1,?_⟩
 rcases h2 with h2|⟨g,cap,h,hv,D,A,r⟩
 ·exact Or.inl h2
 ·exact Or.inr ⟨g,cap,h,hv,D,(k g h (0,0) (by rw [hv];rfl) A).trans A,r⟩
theorem oz(nd):∀(k:Nat)(q f:List Sp),(dA nd k q f).length<=f.length+k
 |0,_,f=>by simp [dA]
 |k+1,[],f=>by simp [dA]
 |k+1,x::q,f=>by
  simp only [dA]
  split
  ·have:=oz nd k q f;omega
  have:=oz nd k (q++nd x) (f++[x]);simp at this;omega
theorem q6(ts l0):(cF ts l0).length<=eE ts l0+1:=by
 have:=oz (aQ ts) (eE ts l0+1) l0 []
 simpa [cF] using this
theorem zv(nd n)(h:∀k,(nd k).length<=n)(f):∀ks,ez nd f ks<=ks.length*n
 | []=>by simp [ez]
 |k::ks=>by
  have h1:=zv nd n h f ks;have h2:=h k;simp only [ez,List.length_cons,Nat.add_mul,Nat.one_mul]
  split<;>omega
structure Cy(base:Nat)(w wr:af)(mv:ag)(ao:Option Addr)(g off cap:Nat)(q:List Sp)(fv:ag)(f:List Sp):Prop where
 bel:Below base w wr
 ns:NS w wr
 sz:w.heap.size+1<=wr.heap.size
 mb:aB wr w.heap.size #[mv] 75
 qr:QR base wr ao g off cap q
 ro:wr.ownsRow w.heap.size 291 2 fv f.length (bk f)
 far:0<cap->g≠w.heap.size
 old:0<cap->∀cs T fr,w.heap[g]? =some (.cells cs T fr)->T=291
 ne:0<cap->fv.ownBlock≠some g
section
variable {base:Nat}{w wr w':af}{mv:ag}{ao:Option Addr}{g off cap:Nat}{q:List Sp}{fv:ag}{f:List Sp}
theorem Cy.below(C:Cy base w wr mv ao g off cap q fv f)(I:base<=w.heap.size)(k:Below wr.heap.size wr w'):Cy base w w' mv ao g off cap q fv f:=
 have h2:=C.sz
 ⟨C.bel.trans (k.mono aj),C.ns.trans (NS.below k),aL C.sz k.size,C.mb.below k,C.qr.frame (fun h0=>k.block g (C.qr.came.lt h0)) k.size,ax C.ro (fun g cs f _ D=>k.block g (lt_of_some D)),C.far,C.old,C.ne⟩
theorem Cy.tail{x}(C:Cy base w wr mv ao g off cap (x::q) fv f)(Og)(ha:0<cap-1->Og=some ⟨g,off+2,none⟩):Cy base w wr mv Og g (off+2) (cap-1) q fv f:=
 ⟨C.bel,C.ns,C.sz,C.mb,C.qr.tail Og ha,C.ro,fun h0=>C.far aj,fun h0=>C.old aj,fun h0=>C.ne aj⟩
theorem Cy.grown{w6 cap' y}(I:Cy base w wr mv ao g off cap q fv f)(Q:base<=w.heap.size)(k:Below wr.heap.size wr W)(D:W.grownBy w6 fv.ownBlock)(Y:w6.ownsRow w.heap.size 291 2 (.slice (some ⟨g',0,none⟩) (f.length+1) cap') (f.length+1) (bk f++zh y))(U:fv.ownBlock=some g'\/g'=W.heap.size):Cy base w w6 mv ao g off cap q (.slice (some ⟨g',0,none⟩) (f.length+1) cap') (f++[y]):=by
 have C:=I.below Q k;have Z:=C.sz;refine ⟨dc C.bel D aj (fun k V=>aL Q (C.ro.lt k V).1),?_,?_,?_,?_,?_,I.far,I.old,?_⟩
 ·intro q cs T fr J R;have e:=C.ns q cs T fr J R;exact (D.block q (lt_of_some (e.trans J)) (eo C.ro (e.trans J) R)).trans e
 ·have:=D.size;omega
 ·exact (D.block _ C.mb.lt (own_ne C.ro C.mb ar)).trans C.mb
 ·exact C.qr.frame (fun h0=>D.block g (C.qr.came.lt h0) (fun e=>C.ne h0 e.symm)) D.size
 ·rw [List.length_append,dO,show bk [y]=zh y from by simp [bk]];exact Y
 ·intro h0 e;simp only [Value.ownBlock,aK] at e
  rcases U with O|O
  ·exact I.ne h0 (by rw [O,e])
  have:=C.qr.came.lt h0;omega
theorem Cy.app{Og off' cap'}(C:Cy base w wr mv ao g off cap q fv f)(Y:base<=w.heap.size)(k:Below wr.heap.size wr W)(Z:QR base w' Og g' off' cap' (q++nl))(R:0<cap'->(0<cap/\g'=g)\/W.heap.size<=g')(hs:W.heap.size<=w'.heap.size)(ho:w'.os=W.os)(O:w'.tape=W.tape)(ab:w'.output=W.output)(J:∀i,i<W.heap.size->(0<cap->i≠g)->w'.heap[i]? =W.heap[i]?):Cy base w w' mv Og g' off' cap' (q++nl) fv f:=by
 have I:=C.below Y k;have ac:=I.sz;have V:Below base W w':=⟨ho,O,ab,hs,fun j U=>J j aj (fun h0 e=>by have:=C.qr.at_ h0;omega)⟩;refine ⟨I.bel.trans V,?_,aj,?_,Z,?_,?_,?_,?_⟩
 ·intro j cs T fr D O;have e:=I.ns j cs T fr D O;refine (J j (lt_of_some (e.trans D)) (fun h0 Q=> ?_)).trans e;subst Q;exact O (C.old h0 cs T fr D)
 ·exact (J _ I.mb.lt (fun h0 e=>C.far h0 e.symm)).trans I.mb
 ·refine cA I.ro (fun j cs fr U D=>J j (lt_of_some D) (fun h0 Q=> ?_));subst Q;exact C.ne h0 U
 ·intro h0
  rcases R h0 with ⟨h1,rfl⟩|h1
  ·exact C.far h1
  omega
 ·intro h0 cs T fr D
  rcases R h0 with ⟨h1,rfl⟩|h1
  ·exact C.old h1 cs T fr D
  have:=lt_of_some D;omega
 ·intro h0 e
  rcases R h0 with ⟨h1,rfl⟩|h1
  ·exact C.ne h1 e
  have:=(I.ro.lt _ e).2;omega
end
theorem mF(b base sv ts tl fv l0 w)(aG:MC b w sv ts tl)(bj:w.ownsRow base 291 2 fv l0.length (bk l0))(hb:base<=w.heap.size)(bU:eE ts l0<=2000000000000):
  Calls prog 151 #[.agg #[sv],fv] w fun e' w'=>∃v',e'=.returned v'/\Below base w w'/\NS w w'/\w'.ownsRow w.heap.size 291 2 v' (cF ts l0).length (bk (cF ts l0)):=by
 obtain ⟨i0,hi,bB,bC,bF⟩:=bH Tryz.info291;have bb:=ai hi;have bc:=ai bB;have be:=ai bC;have bf:=ai bF;clear hi bB bC bF;obtain ⟨aO,mn,mc,rfl⟩:=aG.form;obtain ⟨ao,g,cap,rfl,ax,bJ⟩:=QR.of_own bj;have H:=ai aG;generalize aR:cF ts l0=bA;have bx:=ai (show dA (aQ ts) (eE ts l0+1) l0 []=bA from aR);have bg:=ai (show l0.length+ez (aQ ts) [] (gD ts)<=eE ts l0 from cm _);have W0:Below w.heap.size w (w.alloc (aN aO mn mc)):=ba.alloc az _;have bz:=ai (show Cy base w (w.alloc (aN aO mn mc)) (.slice aO mn mc) ao g 0 cap l0 (.slice none 0 0) [] from
  ⟨W0.mono hb,NS.below W0,an,aB.new w _ _,ax.frame (fun h0=>W0.block g (ax.came.lt h0)) W0.size,bN,fun h0=>by have:=ax.came.lt h0;omega,fun h0 cs T fr bo=>by
   rcases bj with ⟨_,⟨e,_⟩|⟨g',bS,bT,e,_,bL,_⟩⟩
   ·simp only [aI] at e;omega
   simp only [aI] at e;have bh:=ax.came.addr h0;rw [e.1] at bh;simp only [aK,cw] at bh;rw [<-bh.1,bL] at bo;simp only [aK,Obj.cells.injEq] at bo;exact bo.2.1.symm,fun h0 e=>by cases e⟩)
 have bK:=ax.came.le;clear aG bj aR W0 ax bJ;go_enter func151,ntmps151;go_wp2_with fail
 go_loopg [1,5] (eE ts l0+1) (fun k bQ bR wr=>∃(q f:List Sp)(ao:Option Addr)(g off cap:Nat)(av:Option Addr)(aw:Nat),bQ=.slice ao q.length cap/\bR=.slice av f.length aw/\Cy base w wr (.slice aO mn mc) ao g off cap q (.slice av f.length aw) f/\Hid (f.length+(q.length+ez (aQ ts) f (gD ts))<=eE ts l0/\q.length+ez (aQ ts) f (gD ts)<k/\dA (aQ ts) k q f=bA))
 case atStart=>exact ⟨l0,[],ao,g,0,cap,none,0,rfl,rfl,bz.u,ai ⟨by simpa using bg.u,by have:=bg.u;omega,bx.u⟩⟩
 case round=>
  clear bz bg bx bK;obtain ⟨q,f,ao,g,off,cap,av,aw,rfl,rfl,aS,ah⟩:=hrel;have bM:=(ak ah).2.1;obtain ⟨k,rfl⟩:∃k,gk=k+1:=⟨gk-1,aj⟩;clear bM;have aC:=ai aS;have bX:=aS.sz
  cases q with
  |nil=>
   have aR:=(ak ah).2.2;simp only [dA] at aR;have bG:=ai aR;clear aS aR ah;go_wp2;go_ret;rw [<-bG.u];exact ⟨_,rfl,aC.u.bel,aC.u.ns,aC.u.ro⟩
  |cons x q=>
   obtain ⟨bV,rfl,c0,c1⟩:=aS.qr.head;have bI:=aS.qr.came.le;have bW:f.length+(q.length+1)<=2000000000000:=by have:=(ak ah).1;simp at this;omega
   simp only [List.length_cons] at bI;clear aS;go_wp2_with fail
   ·subst h;have ay:=ai (show Cy base w wr (.slice aO mn mc) (some ⟨g,off,none⟩) g (off+2) 0 q (.slice av f.length aw) f from aC.u.tail (some ⟨g,off,none⟩) (fun aG=>aj));clear aC;have aY:Below wr.heap.size wr (wr.alloc (hJ x.1 x.2)):=ba.alloc az _;have aD:=ai (ay.u.below hb aY);have aU:=ai (aB.new wr #[.string x.1,.string x.2] 291);have aZ:∀q,(Value.slice av f.length aw).ownBlock=some q->q<wr.heap.size:=fun q ax=>(ay.u.ro.lt q ax).2
    have bl:0<0->g<wr.heap.size:=fun h0=>ay.u.qr.came.lt h0
    clear aY c0 c1;refine (lq _ _ f x _ aj aD.u.ro).mono ?_;rintro e w5 ⟨rfl,aH⟩;have al:=ai (aD.u.below hb aH);have aA:=ai (aU.u.below aH);obtain ⟨br,bs⟩:=aA.u.two;have bt:=aA.u.lt;have bq:=al.u.sz;clear aH aU aD ay
    cases ha:f.any (fun z=>gJ x z)
    ·obtain ⟨am,ap,af⟩:=ak ah;simp only [dA,ha,Bool.false_eq_true,aP] at af;have au:=qf ts f x ha;have q5:=ai af;have a4:f.length+1+(q.length+(aQ ts x).length+ez (aQ ts) (f++[x]) (gD ts))<=eE ts l0:=by simp at am;omega
     have a5:q.length+(aQ ts x).length+ez (aQ ts) (f++[x]) (gD ts)<k:=by simp at ap;omega
     clear am ap af au ah ha;go_wp2_with (at_builtin;go_must (refine bD _ rfl _ _ 288 rfl w.heap.size 291 i0 _ 2 32 underlying288 bb.u bc.u be.u bf.u rfl ar (.slice av f.length aw) f.length (bk f) rfl ?sP ⟨w5.heap.size,0,none⟩ 1 1 (zh x) rfl rfl ?lg ?o5 ar ?xk ?jo ?lh (w5.heap.size+1) ?N3 ?pZ))
     case sP=>exact (al.u.ro).alloc _
     case lg=>exact bE (B:=w5.heap.size) (cs:=#[.string x.1,.string x.2]) (t:=291) (fr:=(0,0)) (aB.new w5 _ _)
     case o5=>
      exact sX
     case xk=>unfold maxLen;omega
     case jo=>omega
     case lh=>simp;omega
     case N3=>simp
     intro g6 Tn a8 a3 aL aX bn;have aW:Below w5.heap.size w5 (w5.alloc (hJ x.1 x.2)):=ba.alloc az _;have ag:=ai (al.u.grown hb aW aL a3 (by simpa using aX));have aE:aB a8 wr.heap.size #[.string x.1,.string x.2] 291:=(aL.block wr.heap.size aM (fun e=>by have:=aZ _ e.symm;omega)).trans (aA.u.alloc _);obtain ⟨bu,bv⟩:=aE.two;have bw:=aE.lt;have bp:a8.cell? ⟨w.heap.size,0,none⟩=some (.slice aO mn mc):=ag.u.mb.cell rfl;have aT:=ai (H.u.ns ag.u.ns ag.u.bel.size);have bO:=ag.u.sz;clear a3 aL aX bn aW al aA br bs bt bq aE aZ bl;go_wp2_with fail;refine (q2 b _ ts tl x.1 x.2 _ aT.u).mono ?_;rintro e a9 ⟨bP,rfl,aJ,au⟩;obtain ⟨a6,a7,rfl⟩:=au.form;have Tm:=ai (ag.u.below hb aJ);have T1:=ai (show Src prog 2 288 (.slice a6 (aQ ts x).length a7) (aQ ts x).length (bk (aQ ts x)) a9 from QR.src au.1);have bi:base<=a9.heap.size:=by have:=aJ.size;omega
     clear aJ au ag aT bu bv bw bp;go_wp2_with (at_builtin;go_must (refine l5 underlying288 rfl _ _ rfl Tm.u.qr i0 _ bb.u bc.u be.u bf.u rfl rfl (.slice a6 (aQ ts x).length a7) rfl T1.u ?hlB bi ?hKB))
     case hlB=>omega
     exact P8
    obtain ⟨am,ap,af⟩:=ak ah;simp only [dA,ha,if_true] at af;have q5:=ai af;have a4:f.length+(q.length+ez (aQ ts) f (gD ts))<=eE ts l0:=by simp at am;omega
    have a5:q.length+ez (aQ ts) f (gD ts)<k:=by simp at ap;omega
    clear am ap af ah ha;go_wp2
    go_roundg k
    case measure=>omega
    case rel=>exact ⟨q,f,_,g,off+2,0,av,aw,rfl,rfl,al.u,ai ⟨a4,a5,q5.u⟩⟩
   have ay:=ai (aC.u.tail (some ⟨g,off+2,none⟩) (fun aG=>rfl));clear aC h;have aY:Below wr.heap.size wr (wr.alloc (hJ x.1 x.2)):=ba.alloc az _;have aD:=ai (ay.u.below hb aY);have aU:=ai (aB.new wr #[.string x.1,.string x.2] 291);have aZ:∀q,(Value.slice av f.length aw).ownBlock=some q->q<wr.heap.size:=fun q ax=>(ay.u.ro.lt q ax).2
   have bl:0<cap-1->g<wr.heap.size:=fun h0=>ay.u.qr.came.lt h0
   clear aY c0 c1;refine (lq _ _ f x _ aj aD.u.ro).mono ?_;rintro e w5 ⟨rfl,aH⟩;have al:=ai (aD.u.below hb aH);have aA:=ai (aU.u.below aH);obtain ⟨br,bs⟩:=aA.u.two;have bt:=aA.u.lt;have bq:=al.u.sz;clear aH aU aD ay
   cases ha:f.any (fun z=>gJ x z)
   ·obtain ⟨am,ap,af⟩:=ak ah;simp only [dA,ha,Bool.false_eq_true,aP] at af;have au:=qf ts f x ha;have q5:=ai af;have a4:f.length+1+(q.length+(aQ ts x).length+ez (aQ ts) (f++[x]) (gD ts))<=eE ts l0:=by simp at am;omega
    have a5:q.length+(aQ ts x).length+ez (aQ ts) (f++[x]) (gD ts)<k:=by simp at ap;omega
    clear am ap af au ah ha;go_wp2_with (at_builtin;go_must (refine bD _ rfl _ _ 288 rfl w.heap.size 291 i0 _ 2 32 underlying288 bb.u bc.u be.u bf.u rfl ar (.slice av f.length aw) f.length (bk f) rfl ?sN ⟨w5.heap.size,0,none⟩ 1 1 (zh x) rfl rfl ?k9 ?mx ar ?sO ?hu ?ld (w5.heap.size+1) ?N2 ?pY))
    case sN=>exact (al.u.ro).alloc _
    case k9=>exact bE (B:=w5.heap.size) (cs:=#[.string x.1,.string x.2]) (t:=291) (fr:=(0,0)) (aB.new w5 _ _)
    case mx=>
     exact sX
    case sO=>unfold maxLen;omega
    case hu=>omega
    case ld=>simp;omega
    case N2=>simp
    intro g6 Tn a8 a3 aL aX bn;have aW:Below w5.heap.size w5 (w5.alloc (hJ x.1 x.2)):=ba.alloc az _;have ag:=ai (al.u.grown hb aW aL a3 (by simpa using aX));have aE:aB a8 wr.heap.size #[.string x.1,.string x.2] 291:=(aL.block wr.heap.size aM (fun e=>by have:=aZ _ e.symm;omega)).trans (aA.u.alloc _);obtain ⟨bu,bv⟩:=aE.two;have bw:=aE.lt;have bp:a8.cell? ⟨w.heap.size,0,none⟩=some (.slice aO mn mc):=ag.u.mb.cell rfl;have aT:=ai (H.u.ns ag.u.ns ag.u.bel.size);have bO:=ag.u.sz;clear a3 aL aX bn aW al aA br bs bt bq aE aZ bl;go_wp2_with fail;refine (q2 b _ ts tl x.1 x.2 _ aT.u).mono ?_;rintro e a9 ⟨bP,rfl,aJ,au⟩;obtain ⟨a6,a7,rfl⟩:=au.form;have Tm:=ai (ag.u.below hb aJ);have T1:=ai (show Src prog 2 288 (.slice a6 (aQ ts x).length a7) (aQ ts x).length (bk (aQ ts x)) a9 from QR.src au.1);have bi:base<=a9.heap.size:=by have:=aJ.size;omega
    clear aJ au ag aT bu bv bw bp;go_wp2_with (at_builtin;go_must (refine l5 underlying288 rfl _ _ rfl Tm.u.qr i0 _ bb.u bc.u be.u bf.u rfl rfl (.slice a6 (aQ ts x).length a7) rfl T1.u ?hlA bi ?hKA))
    case hlA=>omega
    exact P8
   obtain ⟨am,ap,af⟩:=ak ah;simp only [dA,ha,if_true] at af;have q5:=ai af;have a4:f.length+(q.length+ez (aQ ts) f (gD ts))<=eE ts l0:=by simp at am;omega
   have a5:q.length+ez (aQ ts) f (gD ts)<k:=by simp at ap;omega
   clear am ap af ah ha;go_wp2
   go_roundg k
   case measure=>omega
   case rel=>exact ⟨q,f,_,g,off+2,cap-1,av,aw,rfl,rfl,al.u,ai ⟨a4,a5,q5.u⟩⟩
end
section
abbrev ti:=@List.take_length
def To (A:aF:=by
 have:=Uo.u _ hnl;have:=q6 ts (cY ts t r yq);omega):aF:=A
def J2 (D:aF:=by
 rw [J3] at kc;clear SW J3;go_wp2;exact Cz):aF:=D
def J4 (D:aF:=by
 subst hv;go_wp2;exact Cz):aF:=D
def J5 (A:aF:=by
 simp only [cq,List.length_append,List.length_cons,Nat.add_mul,Nat.one_mul];omega):aF:=A
def Cz (C:aF:=by
 go_roundw
 case rel=>exact ⟨k+1,aj,by go_num,HB.u,mf⟩
 case measure=>simp [intOf];omega):aF:=C
def kP(ts:List Ty)(t:Ty)(r:Rl)(p:Ex):Option Nat:=match p.l,p.r with
 |some _,some y=>if gA p.nd.kind=246 then (if hN ts (cY ts t r y) (t.name,r.name) then some p.nd.place else none) else none
 |_,_=>none
def i6(ts:List Ty)(t:Ty)(r:Rl):Option Nat:=(aA r.body).findSome? (kP ts t r)
theorem mG(nd x y):∀(e:Ex),⟨nd,some x,some y⟩∈aA e->(aA y).length<=(aA e).length
 |⟨n,some a,some c⟩,h=>by
  simp only [aA] at h ⊢;rw [aT,aT,aR] at h;simp only [List.length_append]
  rcases h with (h|h)|h
  ·have:=mG nd x y a h;omega
  ·simp only [Ex.mk.injEq,aK] at h;rw [h.2.2];omega
  have:=mG nd x y c h;omega
 |⟨n,none,c⟩,h=>by
  unfold aA at h;simp at h
 |⟨n,some a,none⟩,h=>by
  unfold aA at h;simp at h
variable {b:Nat}
theorem vG{rl}(ts t)(h:RC b w tv t.rels rl)(r)(A:r∈t.rels)(e)(C:(aA e).length<=1000):(cY ts t r e).length<=1000000:=by
 have:=Jx ts t h r (h.okg r A) e (aA e).length;unfold NK at this;rw [ti] at this;unfold cY;omega
theorem hO{α β:Type}(f:α->List β)(n):∀(l:List α),(∀a∈l,(f a).length<=n)->(l.flatMap f).length<=l.length*n
 | [],_=>an
 |a::l,h=>by
  have h1:=h a an;have h2:=hO f n l (fun a ha=>h a (by simp [ha]));exact J5
theorem CA{tl}(C:MC b w sv ts tl)(s):(aQ ts s).length<=1000000:=by
 unfold aQ
 split
 ·simp
 rename_i t A
 split
 ·simp
 rename_i r h;have A:=gm A;have h:=gm h;rw [<-C.fst,aY] at A;obtain ⟨p,I,rfl⟩:=A;obtain ⟨rl,D⟩:=C.rels p I;exact vG ts p.1 D r h r.body (D.okp r h)
theorem Oh{tl}(h:MC b w sv ts tl):(gD ts).length<=1000000:=by
 have:=hO (fun t=>t.rels.map fun r=>(t.name,r.name)) 1000 ts (fun t A=>by
  rw [<-h.fst,aY] at A;obtain ⟨p,D,rfl⟩:=A;obtain ⟨rl,I⟩:=h.rels p D;have:=I.len
  simpa using this)
 have C:=h.len;have J:ts.length*1000<=1000*1000:=Nat.mul_le_mul_right _ C;unfold gD;omega
theorem qg{tl}(h:MC b w sv ts tl)(l0)(C:l0.length<=1000000):eE ts l0<=1000001000000:=by
 have h1:=zv (aQ ts) 1000000 (CA h) [] (gD ts);have h2:=Oh h;have A:(gD ts).length*1000000<=1000000*1000000:=Nat.mul_le_mul_right _ h2;unfold eE;omega
theorem tj(b sv ts tl t tv rl r bv w)(aR:MC b w sv ts tl)(aO:RC b w tv t.rels rl)(a6:bg b w r.body bv)(aT:r∈t.rels):
  Calls prog 118 #[.agg #[sv],.agg #[.int .i64 t.place,.string t.name,tv],.agg #[.int .i64 r.place,.string r.name,bv]] w fun e' w'=>e'=.returned (gW 6 (i6 ts t r))/\Below w.heap.size w w':=by
 obtain ⟨U,mn,mc,rfl⟩:=aR.form;obtain ⟨ap,au,ar,rfl⟩:=aO.form;obtain ⟨am,rv,rfl⟩:=a6.isI;have W0:Below w.heap.size w (((w.alloc (aN U mn mc)).alloc (bq t.place t.name ap au ar)).alloc (cp r.place r.name am rv)):=((ba.alloc az _).alloc an _).alloc aM _;have bc:=ai (aR.below W0);have bB:=ai (aO.below W0);have bi:=ai (a6.but (But.of_below W0));have bI:=ai (((aB.new w #[.slice U mn mc] 75).alloc (bq t.place t.name ap au ar)).alloc (cp r.place r.name am rv));have bQ:=ai ((aB.new' (w.alloc (aN U mn mc)) #[.int .i64 t.place,.string t.name,.slice ap au ar] 110 (w.heap.size+1) an).alloc (cp r.place r.name am rv));have bL:=ai (aB.new' ((w.alloc (aN U mn mc)).alloc (bq t.place t.name ap au ar)) #[.int .i64 r.place,.string r.name,.iface am rv] 159 (w.heap.size+2) an);have okp:=aO.okp r aT;have be:=ai aT;have bw:=ai (fun e ag=>vG ts t aO r aT e ag);have Uo:=ai (fun cf hl=>qg aR cf hl);have bh:=ai W0;generalize O:i6 ts t r=a5;have bz:=ai O;have b8:=bc.u.blt;clear W0 aR aO a6 O aT;go_enter func118,ntmps118;go_wp2_with fail;refine (ng r.body b _ _ b8 bi.u okp).mono ?_;rintro e1 br ⟨cH,rfl,ae,l,l1,bo,a7⟩;obtain ⟨cz,cA,rfl⟩:=ay a7;have cw:l.length=(aA r.body).length:=by rw [<-l1];simp
 have B2:=ai (bh.u.trans (ae.mono bh.u.size));have bE:=ai l1;have bF:=ai bo;have bG:=ai a7;have bH:=ai (bc.u.below ae);have bO:=ai (bB.u.below ae);have bP:=ai (bi.u.but (But.of_below ae));have bJ:=ai (bI.u.below ae);have bR:=ai (bQ.u.below ae);have bM:=ai (bL.u.below ae);have NY:=B2.u.size;clear ae l1 bo a7;have f0:=o3;have f1:=q0;have f2:=q1;have f3:=sH;have f4:=xf;have f5:=ea;go_wp2_with fail
 go_loopw [14] (fun ck wr=>∃(k:Nat),k<=(aA r.body).length/\ck=.int .i64 k/\Below br.heap.size br wr/\Hid (((aA r.body).drop k).findSome? (kP ts t r)=a5)) (fun u _=>(aA r.body).length-(intOf u).toNat)
 case atStart=>exact ⟨0,aj,rfl,aw _ _,bz⟩
 case round=>
  obtain ⟨k,cq,rfl,hbr,HQ⟩:=hrel;have HB:=ai hbr;have cm:=hbr.size
  by_cases ct:k<(aA r.body).length
  ·have hkl:k<l.length:=by omega
   obtain ⟨a8,c1,e1,kc⟩:=aZ (ax (w':=wr) bG.u (fun g cs f _ af=>hbr.block g (lt_of_some af))) k l[k].2 Jb;simp only [aI] at e1;obtain ⟨rfl,_,rfl⟩:=e1;have al:=(bF.u l[k] (bu hkl)).but (b:=b) (But.of_below hbr);have aS:(aA r.body)[k]? =some l[k].1:=by rw [<-bE.u];simp [aG hkl]
   generalize l[k]=q at*;obtain ⟨a8,cG⟩:=q;simp only at kc al aS;have cr:(k:Int)<((aA r.body).length:Int):=aj;have O:=ak HQ;rw [nP _ _ _ _ aS] at O;have ah:=bx aS;have bt:=ai (bH.u.below hbr);have bC:=ai (bO.u.below hbr);have bD:=ai (bP.u.but (But.of_below hbr));have bK:=ai (bJ.u.below hbr);have bS:=ai (bR.u.below hbr);have bN:=ai (bM.u.below hbr);clear hbr aS HQ
   match a8,al,O,ah with
   |⟨nq,some xq,some yq⟩,⟨vx,vy,hv,rx,ry⟩,O,ah=>
    obtain ⟨aU,aW,rfl⟩:=rx.isI;obtain ⟨av,yv,rfl⟩:=ry.isI;have cu:=mG _ _ _ _ ah;have bA:=ai ry;subst hv;clear rx ry ah
    by_cases SW:gA nq.kind=246
    ·rw [SW] at kc;have bn:kP ts t r ⟨nq,some xq,some yq⟩=if hN ts (cY ts t r yq) (t.name,r.name) then some nq.place else none:=by simp [kP,SW]
     rw [bn] at O;have hnl:=bw.u yq aj;have Y:Below wr.heap.size wr (wr.alloc (.cells #[.int .i64 nq.place,.iface aU aW,.iface av yv] 246)):=ba.alloc az _;have aX:=ai (HB.u.trans (Y.mono cm));have aQ:=ai (bt.u.below Y);have bf:=ai (bC.u.below Y);have bj:=ai (bD.u.but (But.of_below Y));have bk:=ai (bA.u.but (But.of_below Y));have ab:=ai (bK.u.below Y);have ad:=ai (bS.u.below Y);have ac:=ai (bN.u.below Y);have Z:=ai (aB.new wr #[.int .i64 nq.place,.iface aU aW,.iface av yv] 246);clear Y SW bn;go_wp2_with fail;have co:wr.heap.size<(wr.alloc (.cells #[.int .i64 nq.place,.iface aU aW,.iface av yv] 246)).heap.size:=an;generalize (wr.alloc (.cells #[.int .i64 nq.place,.iface aU aW,.iface av yv] 246))=W at*;generalize wr.heap.size=bs at*;have cx:W.cell? ⟨w.heap.size,0,none⟩=some (.slice U mn mc):=ab.u.cell rfl;have cy:=ab.u.lt;obtain ⟨cI,cJ,cK⟩:=ad.u.three;have cL:=ad.u.lt;obtain ⟨cM,cN,cO⟩:=ac.u.three;have cP:=ac.u.lt;obtain ⟨cB,a8,cC⟩:=Z.u.three;have cE:=Z.u.lt;have bp:=aX.u.size
     cases af:hN ts (cY ts t r yq) (t.name,r.name)
     ·rw [af] at O;have aY:=ai af;have mf:=ai O;clear af O
      go_region_held3 (fun w'=>w'.cell? ⟨w.heap.size,0,none⟩=some (.slice U mn mc)/\w'.cell? ⟨w.heap.size+1,0,none⟩=some (.int .i64 t.place)/\w'.cell? ⟨w.heap.size+1,1,none⟩=some (.string t.name)/\w'.cell? ⟨w.heap.size+1,2,none⟩=some (.slice ap au ar)/\w'.cell? ⟨w.heap.size+2,0,none⟩=some (.int .i64 r.place)/\w'.cell? ⟨w.heap.size+2,1,none⟩=some (.string r.name)/\w'.cell? ⟨w.heap.size+2,2,none⟩=some (.iface am rv)/\w'.cell? ⟨bs,2,none⟩=some (.iface av yv)) (go_keep)
       (first
       |(go_at_call 177;refine (p9 b _ ts tl t _ rl r _ yq _ _ (aQ.u.below ba.drew) (bf.u.below ba.drew) (bj.u.but (But.refl _ _).drew) be.u (bk.u.but (But.refl _ _).drew) aj).mono ?_;rintro e aP ⟨a9,rfl,aE,aL⟩;have Q:=ai ((aw _ W).drew.trans aE);have aC:=ai (show hM W.heap.size aP a9 (cY ts t r yq) from aL);clear aE aL;obtain ⟨cg,ch,rfl⟩:=aC.u.form;have a0:aP.cell? ⟨w.heap.size,0,none⟩=some (.slice U mn mc):=(ab.u.below Q.u).cell rfl;obtain ⟨a1,a2,a3⟩:=(ad.u.below Q.u).three;obtain ⟨a4,bT,bU⟩:=(ac.u.below Q.u).three;obtain ⟨bV,bW,bX⟩:=(Z.u.below Q.u).three)
       |(go_at_call 151;refine (mF b W.heap.size _ ts tl _ _ _ (aQ.u.below Q.u) aC.u.1 Q.u.size (by have:=Uo.u _ hnl;omega)).mono ?_;rintro e bb ⟨cl,rfl,aH,_,aK⟩;have R:=ai (Q.u.trans aH);have aD:=ai aK;clear aH aK;obtain ⟨ci,cj,rfl⟩:=ay aD.u;have bY:bb.cell? ⟨w.heap.size,0,none⟩=some (.slice U mn mc):=(ab.u.below R.u).cell rfl;obtain ⟨b1,bZ,b0⟩:=(ad.u.below R.u).three;obtain ⟨b2,b3,b4⟩:=(ac.u.below R.u).three;obtain ⟨b5,b6,b7⟩:=(Z.u.below R.u).three)
       |(go_at_call 176;refine (lq _ _ _ (t.name,r.name) _ To aD.u).mono ?_;rintro e w5 ⟨ag,aJ⟩;rw [show ((cF ts (cY ts t r yq)).any fun y=>gJ (t.name,r.name) y)=_ from aY.u] at ag;subst ag;have V:=ai (R.u.trans (aJ.mono R.u.size));clear aJ;have c0:w5.cell? ⟨w.heap.size,0,none⟩=some (.slice U mn mc):=(ab.u.below V.u).cell rfl;obtain ⟨c1,c2,c3⟩:=(ad.u.below V.u).three;obtain ⟨b9,c5,c6⟩:=(ac.u.below V.u).three;obtain ⟨c7,cb,cd⟩:=(Z.u.below V.u).three))
      go_wp2;go_roundw
      case rel=>exact ⟨k+1,aj,by go_num,aX.u.trans (V.u.mono bp),by simpa using mf⟩
      case measure=>simp [intOf];omega
     rw [af] at O;have aY:=ai af;have mf:=ai O;clear af O
     go_region_held3 (fun w'=>w'.cell? ⟨w.heap.size,0,none⟩=some (.slice U mn mc)/\w'.cell? ⟨w.heap.size+1,0,none⟩=some (.int .i64 t.place)/\w'.cell? ⟨w.heap.size+1,1,none⟩=some (.string t.name)/\w'.cell? ⟨w.heap.size+1,2,none⟩=some (.slice ap au ar)/\w'.cell? ⟨w.heap.size+2,0,none⟩=some (.int .i64 r.place)/\w'.cell? ⟨w.heap.size+2,1,none⟩=some (.string r.name)/\w'.cell? ⟨w.heap.size+2,2,none⟩=some (.iface am rv)/\w'.cell? ⟨bs,2,none⟩=some (.iface av yv)) (go_keep)
      (first
      |(go_at_call 177;refine (p9 b _ ts tl t _ rl r _ yq _ _ (aQ.u.below ba.drew) (bf.u.below ba.drew) (bj.u.but (But.refl _ _).drew) be.u (bk.u.but (But.refl _ _).drew) aj).mono ?_;rintro e aP ⟨a9,rfl,aE,aL⟩;have Q:=ai ((aw _ W).drew.trans aE);have aC:=ai (show hM W.heap.size aP a9 (cY ts t r yq) from aL);clear aE aL;obtain ⟨cg,ch,rfl⟩:=aC.u.form;have a0:aP.cell? ⟨w.heap.size,0,none⟩=some (.slice U mn mc):=(ab.u.below Q.u).cell rfl;obtain ⟨a1,a2,a3⟩:=(ad.u.below Q.u).three;obtain ⟨a4,bT,bU⟩:=(ac.u.below Q.u).three;obtain ⟨bV,bW,bX⟩:=(Z.u.below Q.u).three)
      |(go_at_call 151;refine (mF b W.heap.size _ ts tl _ _ _ (aQ.u.below Q.u) aC.u.1 Q.u.size (by have:=Uo.u _ hnl;omega)).mono ?_;rintro e bb ⟨cl,rfl,aH,_,aK⟩;have R:=ai (Q.u.trans aH);have aD:=ai aK;clear aH aK;obtain ⟨ci,cj,rfl⟩:=ay aD.u;have bY:bb.cell? ⟨w.heap.size,0,none⟩=some (.slice U mn mc):=(ab.u.below R.u).cell rfl;obtain ⟨b1,bZ,b0⟩:=(ad.u.below R.u).three;obtain ⟨b2,b3,b4⟩:=(ac.u.below R.u).three;obtain ⟨b5,b6,b7⟩:=(Z.u.below R.u).three)
      |(go_at_call 176;refine (lq _ _ _ (t.name,r.name) _ To aD.u).mono ?_;rintro e w5 ⟨ag,aJ⟩;rw [show ((cF ts (cY ts t r yq)).any fun y=>gJ (t.name,r.name) y)=_ from aY.u] at ag;subst ag;have V:=ai (R.u.trans (aJ.mono R.u.size));clear aJ;have c0:w5.cell? ⟨w.heap.size,0,none⟩=some (.slice U mn mc):=(ab.u.below V.u).cell rfl;obtain ⟨c1,c2,c3⟩:=(ad.u.below V.u).three;obtain ⟨b9,c5,c6⟩:=(ac.u.below V.u).three;obtain ⟨c7,cb,cd⟩:=(Z.u.below V.u).three))
     go_wp2_with (go_at_call 73;refine (jy _ 6 _).mono ?_;rintro e w5 ⟨rfl,rfl⟩);go_ret;rw [<-mf.u];exact ⟨rfl,B2.u.trans ((aX.u.trans (V.u.mono bp)).mono NY)⟩
    have mf:=ai (show ((aA r.body).drop (k+1)).findSome? (kP ts t r)=a5 from by simpa [kP,SW] using O);clear O
    rcases ol nq.kind with J3|J3|J3
    ·exact J2
    ·exact J2
    exact absurd J3 SW
   |⟨nq,none,rq⟩,al,O,ah=>
    have mf:=ai (show ((aA r.body).drop (k+1)).findSome? (kP ts t r)=a5 from by simpa [kP] using O);clear O ah
    rcases al with ⟨bl,gv,hv,ce⟩|⟨bl,hv⟩|⟨bl,hv⟩
    ·subst hv;clear ce;go_wp2;exact Cz
    ·exact J4
    exact J4
   |⟨nq,some xq,none⟩,al,O,ah=>exact al.elim
  exact Js
end
section
section
open Go.Shelf
abbrev tm:=@grownBy_putObj'
abbrev qh:=@List.findSome?_append
abbrev jI:=@List.findSome?_eq_none_iff
abbrev qi:=@List.size_toArray
abbrev qj:=@Array.replicate_succ
abbrev qk:=@List.push_toArray
abbrev ql:=@List.append_toArray
abbrev oA:=@List.flatMap_nil
abbrev hP:=@callsIn_wide
abbrev xA:=@callsIn_of_wp_marks
abbrev qm:=@CallsIn.inRound
abbrev xB:=@KeepsOthers.alloc
abbrev i7:Obj:=.cells #[.nilIface] 77
def P9 (Q:aF:=by
 rintro C ad W ab rfl ⟨Y,J⟩ U;have O:=bR.below J;have Z:W.cell? ⟨w.heap.size+1+1,0,none⟩=some .nilIface:=O.cell rfl;have ac:=O.fz;have R:eA N ts=none:=by rw [hE];exact jI.2 Y
 gi_wp2;have I:=(KeepsOthers.setCell W ⟨w.heap.size+1+1,0,none⟩ .nilIface).same C _ U rfl;refine ⟨an,.inl ⟨_,_,rfl,run_takeDeferred I,?_⟩⟩;have V:=cell_kept (World.cell?_setCell_same' W ⟨w.heap.size+1+1,0,none⟩ .nilIface (by rw [Z];rfl)) (tm _ C (.deferred none)) (fun r e=>by cases e;exact ⟨_,I,rfl⟩);refine ⟨.nilIface,?_,by rw [R];rfl,((Rc.trans (J.mono aj)).setCell (p:=⟨w.heap.size+1+1,0,none⟩) aM _).trans (belowK_b (w:=w) az _ C _ _ aj I rfl rfl)⟩;simp [results,Tryz.f116,go_sem,V]):aF:=Q
def Qa (R:aF:=by
 rintro l pre x W K ⟨U,C⟩ J;obtain ⟨⟨⟨t,tv⟩,⟨r,ad⟩⟩,V⟩:=x;obtain ⟨rl,D,Q⟩:=V.2;simp only at D Q J;obtain ⟨Z,ac,ab,rfl⟩:=D.form;obtain ⟨Y,rv,O⟩:=(D.ex _ Q).isI;simp only at O;subst O;simp only [Tp];have b1:=(aw _ W).alloc az (bq t.place t.name Z ac ab);have I:=b1.alloc b1.size (cp r.place r.name Y rv);gi_wp2_with fail;exact J _ _ (((xB _ _).trans (xB _ _)).from _) (CK.below I) ⟨U,C.trans (I.mono C.size)⟩ ⟨W.heap.size,C.size,(aB.new W _ _).alloc _,aB.new' _ _ _ _ an,rfl⟩):aF:=R
def Qb (J:aF:=by
 rw [hn] at C;clear hp;gi_wp2_with fail;refine ⟨trivial,(qm l (hP.2 C)).mono ?_⟩;rintro e Q ⟨rfl,D⟩;have I:=(bR.below EQ).below D;have R:Q.cell? ⟨w.heap.size+1+1,0,none⟩=some .nilIface:=I.cell rfl;have U:=I.fz;have O:=(Rc.trans (EQ.mono aj)).trans (D.mono (by have:=EQ.size;omega));unfold gW gp;gi_wp2;exact ⟨(i8 D).trans ((KeepsOthers.setCell _ _ _).from _),⟨rfl,pre,_,q,rfl,hpre,hn,I.set 0 _⟩,O.setCell (p:=⟨w.heap.size+1+1,0,none⟩) aM _⟩):aF:=J
def Qc (J:aF:=by
 rintro I Z pre W ab V ⟨⟨rfl,Y,x,q,rfl,h1,h2,O⟩,Q⟩ C;have R:eA N ts=some q:=by rw [hE];exact zw _ L Y x q V h1 h2
 gi_wp2;refine ⟨an,.inl ⟨_,_,rfl,run_takeDeferred C,?_⟩⟩;have U:=cell_kept (O.cell (o:=0) rfl) (tm _ I (.deferred none)) (fun r e=>by cases e;exact ⟨_,C,rfl⟩);refine ⟨gW c (some q),?_,by rw [R],Q.trans (belowK_b (w:=w) az W I _ _ aj C rfl rfl)⟩;simp [results,Tryz.f116,go_sem,U]):aF:=J
def Qd (I:aF:=by
 rw [hn] at C;clear hp;gi_wp2_with fail;refine ⟨trivial,(qm l (hP.2 C)).mono ?_⟩;rintro e J ⟨rfl,D⟩;unfold gW;gi_wp2;exact ⟨i8 D,CK.below D,fun y A=>by
  rw [aT,aR] at A
  rcases A with A|rfl
  ·exact hpre y A
  exact hn,EQ.trans (D.mono EQ.size)⟩):aF:=I
def J6 (A:aF:=by
 exact ⟨fun p=>Classical.choose (this p),fun p C=>Classical.choose_spec (this p) C⟩):aF:=A
def J7 (A:aF:=by
 rw [<-HM.fst,vH N b W0 SX tl hF,<-hL,List.findSome?_map]
 rfl):aF:=A
attribute [local go_sem] Oper.semAt_some
def eA(N:Ty->Rl->Option Nat)(ts:List Ty):Option Nat:=ts.findSome? fun t=>t.rels.findSome? (N t)
def KT(w w':af):Prop:=∀(g:Nat)(cs:Array ag)(T:TypeId)(f:Nat×Nat),w.heap[g]? =some (Obj.cells cs T f)->(T=207\/T=159\/T=110)->w'.heap[g]? =w.heap[g]?
theorem KT.trans(C:KT x y)(k:KT y z):KT x z:=fun g cs T f h A=>(k g cs T f ((C g cs T f h A).trans h) A).trans (C g cs T f h A)
variable {g:Nat}
theorem KT.set(A:aB w g cs T)(C:¬(T=207\/T=159\/T=110))(o u):KT w (w.setCell ⟨g,o,none⟩ u):=
 fun g' I T' f h D=>dP _ _ _ _ (fun (e':g'=g)=>by
  subst e';unfold aB at A;rw [A] at h;simp only [aK,Obj.cells.injEq] at h;exact C (by rw [h.2.1];exact D))
theorem RC.kt{b rl}(h:RC b w sv rs rl)(k:KT w w'):RC b w' sv rs rl:=
 ⟨h.fst,ax h.row (fun g cs f _ A=>k g cs _ f A (.inr (.inl rfl))),fun p C=>bg.frame (fun g cs f _ A=>k g cs _ f A (.inl rfl)) _ _ (h.ex p C),h.len,h.okp,h.okg,h.wf⟩
theorem MC.kt{b tl}(h:MC b w sv ts tl)(k:KT w w')(hs:w.heap.size<=w'.heap.size):MC b w' sv ts tl:=
 ⟨h.fst,ax h.row (fun g cs f _ A=>k g cs _ f A (.inr (.inr rfl))),fun p C=>by obtain ⟨rl,D⟩:=h.rels p C;exact ⟨rl,D.kt k⟩,h.len,cg h.blt hs⟩
def MT(T:TypeId):Prop:=T=207\/T=159\/T=110\/T=75
def CK(W W':af):Prop:=W.heap.size<=W'.heap.size/\∀(g:Nat)(cs:Array ag)(T:TypeId)(f:Nat×Nat),W.heap[g]? =some (Obj.cells cs T f)->MT T->W'.heap[g]? =W.heap[g]?
theorem CK.trans{X D I:af}(h:CK X D)(k:CK D I):CK X I:=⟨aL h.1 k.1,fun g cs T f A C=>(k.2 g cs T f ((h.2 g cs T f A C).trans A) C).trans (h.2 g cs T f A C)⟩
theorem CK.below(h:Below W.heap.size W W'):CK W W':=⟨h.size,fun g cs T f A _=>h.block g (lt_of_some A)⟩
theorem CK.kt(h:CK W W'):KT W W':=fun g cs T f A C=>h.2 g cs T f A (by rcases C with e|e|e<;>simp [MT,e])
theorem CK.b(W l o o')(D:w.heap.size<=l)(A:W.heap[l]? =some o)(C:o.isCells=false)(I:o.isWalk=false):CK W (W.putObj l o'):=
 ⟨(tm W l o').size,fun g cs T f h _=>World.putObj_heap_other (fun e=>by
  subst e;rw [A] at h
  cases h
  cases C)⟩
theorem CK.blk(h:CK W W')(k:aB W g cs T)(A:MT T):aB W' g cs T:=(h.2 g cs T (0,0) k A).trans k
theorem CK.mc(h:CK W W'){b tl}(k:MC b W sv ts tl):MC b W' sv ts tl:=k.kt h.kt h.1
theorem CK.rc(h:CK W W'){b rl}(k:RC b W sv rs rl):RC b W' sv rs rl:=k.kt h.kt
abbrev It:=(Ty×ag)×(Rl×ag)
def Tp(x:It):Array ag:=#[.agg #[.int .i64 x.1.1.place,.string x.1.1.name,x.1.2],.agg #[.int .i64 x.2.1.place,.string x.2.1.name,x.2.2]]
def u7(b:Nat)(w:af)(tl:List (Ty×ag))(x:It):Prop:=x.1∈tl/\∃rl,RC b w x.1.2 x.1.1.rels rl/\x.2∈rl
def Oi(b:Nat)(w:af)(tl:List (Ty×ag))(h:Ty×ag->List (Rl×ag)):Prop:=∀p∈tl,RC b w p.2 p.1.rels (h p)
theorem CB{b tl}(I:MC b w sv ts tl):∃O,Oi b w tl O:=by
 have:∀p:Ty×ag,∃rl,p∈tl->RC b w p.2 p.1.rels rl:=fun p=>by
  by_cases D:p∈tl
  ·obtain ⟨rl,J⟩:=I.rels p D;exact ⟨rl,fun _=>J⟩
  exact ⟨[],fun e=>absurd e D⟩
 exact J6
def oW(h:Ty×ag->List (Rl×ag))(tl:List (Ty×ag)):List It:=tl.flatMap fun p=>(h p).map fun q=>(p,q)
theorem xC{b tl}{A:Ty×ag->List (Rl×ag)}(D:Oi b w tl A)(x)(h:x∈oW A tl):u7 b w tl x:=by
 unfold oW at h;rw [cb] at h;obtain ⟨p,C,h⟩:=h;rw [aY] at h;obtain ⟨q,I,rfl⟩:=h;exact ⟨C,A p,D p C,I⟩
theorem vH(N b w)(C:Ty×ag->List (Rl×ag)):∀(tl:List (Ty×ag)),Oi b w tl C->eA N (tl.map Prod.fst)=(oW C tl).findSome? fun x=>N x.1.1 x.2.1
 | [],_=>rfl
 |p::tl,h=>by
  have O:=vH N b w C tl (fun q I=>h q (by simp [I]));have e:(oW C (p::tl))=((C p).map fun q=>(p,q))++oW C tl:=by simp [oW]
  rw [e,qh,List.findSome?_map,<-O];have J:=h p an;have D:p.1.rels.findSome? (N p.1)=(C p).findSome? ((fun x:It=>N x.1.1 x.2.1) ∘ fun q=>(p,q)):=by
   rw [<-J.fst,List.findSome?_map]
   rfl
  rw [<-D];unfold eA;rw [cj,gq]
  cases p.1.rels.findSome? (N p.1)<;>rfl
theorem pe{α:Type}(P:α->Prop):∀(l:List α),(∀x∈l,P x)->∃L:List {x // P x},L.map Subtype.val=l
 | [],_=>⟨[],rfl⟩
 |x::l,h=>by
  obtain ⟨L,C⟩:=pe P l (fun y D=>h y (by simp [D]));exact ⟨⟨x,h x an⟩::L,by simp [C]⟩
theorem zw(f:α->Option β):∀(l p:List α)(x:α)(y:β),p++[x]<+:l->(∀z∈p,f z=none)->f x=some y->l.findSome? f=some y:=by
 rintro l p x y ⟨r,rfl⟩ h1 h2;rw [qh,qh];have:p.findSome? f=none:=jI.2 h1;rw [this];simp [h2]
theorem km(sv w)(hs:∃a n c,sv=.slice a n c):Calls prog 150 #[.agg #[sv]] w fun e w'=>e=.returned (.func (.func 208) #[] #[.pointer (some ⟨w.heap.size,0,none⟩)])/\w'=w.alloc (.cells #[sv] 75):=by
 obtain ⟨a,n,c,rfl⟩:=hs;go_enter func150,ntmps150;go_wp2;go_ret;exact ⟨rfl,rfl⟩
theorem Oj(b:Nat)(w0:af)(aQ:ag)(ts:List Ty)(tl:List (Ty×ag))(al:MC b w0 aQ ts tl)(R:Ty×ag->List (Rl×ag))(hF:Oi b w0 tl R)(n:Nat)(bA:1<=n)(l Bn:Nat)(V:List {x:It // u7 b w0 tl x})(aE:V.map Subtype.val=oW R tl)(U aC:List {x:It // u7 b w0 tl x}->af->Prop)
  (O:af) (aH:Below w0.heap.size w0 O) (aD:AbidesFrom O.heap.size U)
  (aJ:∀pre x ae,U pre ae->pre.length<V.length->YieldAt Fence.wide (n-1) prog l (Tp x.1) ae fun e W'=>(e=.returned (.bool true)/\U (pre++[x]) W'/\CK ae W')\/(e=.returned (.bool false)/\aC (pre++[x]) W'))
  (br:O.cell? ⟨Bn,0,none⟩=some aQ) (h0:U [] O):
  CallsIn Fence.wide n prog 208 #[.func (.yield l) #[] #[],.pointer (some ⟨Bn,0,none⟩)] O fun e W'=>(∃v,e=.returned v)/\((∃aW,aW=V/\U aW W')\/(∃pre,pre<+:V/\aC pre W')):=by
 obtain ⟨bG,mn,mc,rfl⟩:=al.form;have bi:mn=tl.length:=by
  obtain ⟨a',ap,e⟩:=ay al.row;simp only [aI,cK] at e;exact e.2.1
 have bx:mn<=tl.length:=aj;have bz:tl.length<=mn:=aj;clear bi;have bD:tl.length<=1000:=by have:=al.llen;simpa using this
 have a5:=ai al;have aX:=ai hF;have aZ:=ai aE;have a8:=ai aJ;have aw:=ai aD;have a7:=ai (show CK w0 O from CK.below aH);clear al hF aJ aD aH aE;refine callsIn_of_wp func208 rfl trivial ?_ rfl;simp only [ntmps208,qi,List.length_cons,List.length_nil,Nat.reduceAdd,Nat.reduceSub,qj,Array.replicate_zero,qk,ql,List.nil_append,List.cons_append];gi_wp2
 gi_loopw [10] (fun u wr=>∃(k:Nat)(pre rest:List {x:It // u7 b w0 tl x}),k<=mn/\u=.int .i64 k/\CK w0 wr/\O.heap.size<=wr.heap.size/\Hid (V=pre++rest/\rest.map Subtype.val=oW R (tl.drop k))/\U pre wr) (fun u _=>mn-(intOf u).toNat)
 case atStart=>exact ⟨0,[],V,aj,rfl,a7.u,cm _,ai ⟨rfl,aZ.u⟩,h0⟩
 case round=>
  obtain ⟨k,pre,rest,bv,rfl,I,bC,ab,Q⟩:=hrel;obtain ⟨J,C⟩:=ak ab
  by_cases bw:k<mn
  ·have au:k<tl.length:=by omega
   obtain ⟨g,ap,e1,k0,k1,aO⟩:=(I.mc a5.u).row.cell k (by simpa using au);simp only [aI] at e1;obtain ⟨rfl,av,rfl⟩:=e1;clear av ab;simp only [List.getElem_map,t3] at k0 k1 aO;have ad:=aX.u tl[k] (bu au);have aG:oW R (tl.drop k)=((R tl[k]).map fun q=>(tl[k],q))++oW R (tl.drop (k+1)):=by
    rw [dw au];simp only [oW,cq]
   rw [aG] at C;clear aG;generalize tl[k]=p at*;obtain ⟨t,tv⟩:=p;simp only at k0 k1 aO ad;obtain ⟨Y,D,Z,rfl⟩:=ad.form;generalize bj:R (t,.slice Y D Z)=rl at*;clear bj;have bl:D=rl.length:=by
    obtain ⟨a',ap,e⟩:=ay ad.row;simp only [aI,cK] at e;exact e.2.1
   have bE:D<=rl.length:=aj;have bF:rl.length<=D:=aj;clear bl;have bB:rl.length<=1000:=by have:=ad.llen;simpa using this
   have ah:Below wr.heap.size wr (wr.alloc (bq t.place t.name Y D Z)):=ba.alloc az _;have an:=ai (I.trans (CK.below ah));have aA:=ai ad;have TB:=ai (aB.new wr #[.int .i64 t.place,.string t.name,.slice Y D Z] 110);have aY:=ai (aw.u pre wr (wr.alloc (bq t.place t.name Y D Z)) none Q (World.grownBy_alloc wr _ none) (fun r e=>by cases e));have bh:(k:Int)<(mn:Int):=aj;have a6:=ai (And.intro J C);have bk:O.heap.size<=(wr.alloc (bq t.place t.name Y D Z)).heap.size:=aM;clear ad ah J C I Q;gi_wp2;generalize (wr.alloc (bq t.place t.name Y D Z))=ae at*;generalize wr.heap.size=bH at*
   gi_loopw [17] (fun u aR=>∃(j:Nat)(pre rest:List {x:It // u7 b w0 tl x}),j<=D/\u=.int .i64 j/\CK ae aR/\Hid (V=pre++rest/\rest.map Subtype.val=((rl.drop j).map fun q=>((t,Value.slice Y D Z),q))++oW R (tl.drop (k+1)))/\U pre aR) (fun u _=>D-(intOf u).toNat)
   case atStart=>exact ⟨0,pre,rest,aj,rfl,⟨cm _,fun _ _ _ _ _ _=>rfl⟩,ai a6.u,aY.u⟩
   case round=>
    obtain ⟨j,pre,rest,bs,rfl,I,ab,Q⟩:=hrel;obtain ⟨J,C⟩:=ak ab;clear ab
    by_cases bt:j<D
    ·have ar:j<rl.length:=by omega
     obtain ⟨g,ap,e1,aS,aT,aU⟩:=((an.u.trans I).rc aA.u).row.cell j (by simpa using ar);simp only [aI] at e1;obtain ⟨rfl,av,rfl⟩:=e1;clear av;simp only [List.getElem_map,r3] at aS aT aU;have hex:=((an.u.trans I).rc aA.u).ex rl[j] (bu ar);rw [dw ar] at C;generalize rl[j]=p at*;obtain ⟨r,bp⟩:=p;simp only at aS aT aU hex;obtain ⟨aP,rv,rfl⟩:=hex.isI
     cases rest with
     |nil=>simp at C
     |cons x rest=>
      simp only [cj,List.cons_append,List.cons.injEq] at C;obtain ⟨aK,C⟩:=C;obtain ⟨t0,t1,t2⟩:=(I.blk TB.u (.inr (.inr (.inl rfl)))).three;have bI:=(I.blk TB.u (.inr (.inr (.inl rfl)))).lt;have ah:Below wr.heap.size wr (wr.alloc (cp r.place r.name aP rv)):=ba.alloc az _;have ax:=aw.u pre wr (wr.alloc (cp r.place r.name aP rv)) none Q (World.grownBy_alloc wr _ none) (fun r e=>by cases e);obtain ⟨fn,bJ,bo,body,aN,be⟩:=a8.u pre x _ ax (by rw [J];simp);rw [aK] at aN;simp only [Tp] at aN;have am:=ai (I.trans (CK.below ah));have bf:(j:Int)<(D:Int):=aj;have ac:=ai (And.intro J C);clear hex ah J C I Q aK ax;gi_wp2;refine be.mono ?_;rintro e bn (⟨rfl,a9,bg⟩|⟨rfl,bb⟩)
      ·gi_wp2;go_roundw
       case rel=>exact ⟨j+1,pre++[x],rest,aj,by go_num,am.u.trans bg,ai ⟨by rw [ac.u.1];simp,ac.u.2⟩,a9⟩
       case measure=>simp [intOf];omega
      gi_wp2;refine bc (results_none rfl _ _ _) rfl ?_;exact ⟨⟨_,rfl⟩,.inr ⟨pre++[x],⟨rest,by rw [ac.u.1];simp⟩,bb⟩⟩
    have bf:¬((j:Int)<(D:Int)):=aj;rw [eK aj] at C;have ac:=ai (And.intro J C);have am:=ai I;clear J C I;gi_wp2;go_roundw
    case rel=>exact ⟨k+1,pre,rest,aj,by go_num,an.u.trans am.u,aL bk am.u.1,ai ⟨ac.u.1,by simpa using ac.u.2⟩,Q⟩
    case measure=>simp [intOf];omega
  have bh:¬((k:Int)<(mn:Int)):=aj;rw [eK aj] at C;simp only [oW,oA,List.map_eq_nil_iff] at C;subst C;clear ab I;gi_wp2;go_end0;refine ⟨⟨_,rfl⟩,.inl ?_⟩
  first|exact Q|exact ⟨pre,by rw [J];simp,Q⟩
theorem qn(b w0 sv ts tl)(R:MC b w0 sv ts tl)(A:Ty×ag->List (Rl×ag))(hF:Oi b w0 tl A)(n)(V:1<=n)(Bn)(J:aB w0 Bn #[sv] 75)(h:List {x:It // u7 b w0 tl x})(Q:h.map Subtype.val=oW A tl):
  SeqStopsK Fence.wide n prog 208 #[.pointer (some ⟨Bn,0,none⟩)] (fun x:{x:It // u7 b w0 tl x}=>Tp x.1) CK (fun Y=>Y=h) (fun pre=>pre<+:h) h.length w0:=fun l D I W C O _ U h0=>
 Oj b w0 sv ts tl R A hF n V l Bn h Q D I W C O U ((J.below C).cell rfl) h0
theorem i8(h:Below W.heap.size W W'):KeepsFrom B W W':=⟨h.size,fun k o _ A _=>(h.block k (Array.getElem?_eq_some_iff.1 A).1).trans A⟩
theorem dF(B g cs T):OwnFrom B (fun (_:β) W=>aB W g cs T):=fun _ X C row hs h A=>
 (h.block g (aB.lt hs) (fun e=>by
  obtain ⟨_,o,ho,hc⟩:=A g e.symm;unfold aB at hs;rw [hs] at ho
  cases ho
  cases hc)).trans hs
theorem CC(b c sv ts tl N w)(ak:MC b w sv ts tl)(hp:∀w' t tv rl r av,MC b w' sv ts tl->RC b w' tv t.rels rl->bg b w' r.body av->r∈t.rels->Calls prog 117 #[.agg #[sv],.agg #[.int .i64 t.place,.string t.name,tv],.agg #[.int .i64 r.place,.string r.name,av]] w' fun e' w''=>e'=.returned (gW c (N t r))/\Below w'.heap.size w' w''):
  Calls prog 116 #[.agg #[sv],.func (.func 117) #[.agg #[sv]] #[]] w fun e' w'=>e'=.returned (gW c (eA N ts))/\Below w.heap.size w w':=by
 obtain ⟨ae,mn,mc,rfl⟩:=ak.form;refine (hP (n:=8)).1 ?_;refine xA func116 rfl trivial ?_ rfl;simp only [ntmps116,qi,List.length_cons,List.length_nil,Nat.reduceAdd,Nat.reduceSub,qj,Array.replicate_zero,qk,ql,List.nil_append,List.cons_append];gi_wp2_with fail;refine ⟨trivial,(hP.2 (km _ _ ⟨_,_,_,rfl⟩)).mono ?_⟩;rintro e w' ⟨rfl,rfl⟩;gi_wp2_with fail;have Rc:Below w.heap.size w ((((w.alloc (aN ae mn mc)).alloc (.cells #[.func (.func 117) #[.agg #[.slice ae mn mc]] #[]] 222)).alloc i7).alloc (aN ae mn mc)):=((((aw _ w).alloc az _).alloc an _).alloc aM _).alloc aM _;have aA:aB ((((w.alloc (aN ae mn mc)).alloc (.cells #[.func (.func 117) #[.agg #[.slice ae mn mc]] #[]] 222)).alloc i7).alloc (aN ae mn mc)) (w.heap.size+1) #[.func (.func 117) #[.agg #[.slice ae mn mc]] #[]] 222:=((aB.new' (w.alloc (aN ae mn mc)) _ _ (w.heap.size+1) an).alloc _).alloc _;have bR:aB ((((w.alloc (aN ae mn mc)).alloc (.cells #[.func (.func 117) #[.agg #[.slice ae mn mc]] #[]] 222)).alloc i7).alloc (aN ae mn mc)) (w.heap.size+1+1) #[.nilIface] 77:=(aB.new' ((w.alloc (aN ae mn mc)).alloc (.cells #[.func (.func 117) #[.agg #[.slice ae mn mc]] #[]] 222)) _ _ (w.heap.size+1+1) an).alloc _;have aD:aB ((((w.alloc (aN ae mn mc)).alloc (.cells #[.func (.func 117) #[.agg #[.slice ae mn mc]] #[]] 222)).alloc i7).alloc (aN ae mn mc)) (w.heap.size+1+1+1) #[.slice ae mn mc] 75:=aB.new' _ _ _ _ an;have aL:((((w.alloc (aN ae mn mc)).alloc (.cells #[.func (.func 117) #[.agg #[.slice ae mn mc]] #[]] 222)).alloc i7).alloc (aN ae mn mc)).heap.size=w.heap.size+4:=an;have HM:=ak.below Rc;obtain ⟨W0,aH⟩:∃W0,((((w.alloc (aN ae mn mc)).alloc (.cells #[.func (.func 117) #[.agg #[.slice ae mn mc]] #[]] 222)).alloc i7).alloc (aN ae mn mc))=W0:=⟨_,rfl⟩;rw [aH] at Rc aA bR aD aL HM ⊢;clear aH;obtain ⟨SX,hF⟩:=CB HM;obtain ⟨L,hL⟩:∃L:List {x:It // u7 b W0 tl x},L.map Subtype.val=oW SX tl:=pe _ _ (xC hF);have hE:eA N ts=L.findSome? (fun x=>N x.1.1.1 x.1.2.1):=by
  exact J7
 refine wpIn_rangeFunc_ownH (F:=Fence.wide) rfl ar (gf:=208) (lb:=#[.pointer (some ⟨w.heap.size+1+1+1,0,none⟩)]) rfl trivial (enters_of func208 au rfl)
  (qn b W0 _ ts tl HM SX hF _ ar _ aD L hL) (fun ak k=>CK.trans ak k) (CK.b (w:=W0)) ba (fun _=>rfl)
  (fun pre W=>(∀x∈pre,N x.1.1.1 x.1.2.1=none)/\Below W0.heap.size W0 W)
  (fun aG pre W=>(aG=.ret/\∃ap x q,pre=ap++[x]/\(∀y∈ap,N y.1.1.1 y.1.2.1=none)/\N x.1.1.1 x.1.2.1=some q/\aB W (w.heap.size+1+1) #[gW c (some q)] 77)/\Below w.heap.size w W)
  (OwnFrom.and (ownFrom_pure _ _) (ownFrom_below az az))
  (fun aG=>OwnFrom.and (fun s X ai row hs al ah=>by
   obtain ⟨h1,ap,x,q,h2,ax,ay,aJ⟩:=hs;exact ⟨h1,ap,x,q,h2,ax,ay,dF (β:=Unit) W0.heap.size _ _ _ () X ai row aJ al ah⟩) (ownFrom_below az aj))
  ⟨an,aw _ _⟩
  (fun x a' W=>∃af,W0.heap.size<=af/\aB W af #[.int .i64 x.1.1.1.place,.string x.1.1.1.name,x.1.1.2] 110/\aB W (af+1) #[.int .i64 x.1.2.1.place,.string x.1.2.1.name,x.1.2.2] 159/\a'={tmps:=#[.agg #[.slice ae mn mc],.func (.func 117) #[.agg #[.slice ae mn mc]] #[],.pointer (some ⟨w.heap.size,0,none⟩),.pointer (some ⟨w.heap.size+1,0,none⟩),.pointer (some ⟨w.heap.size+1+1,0,none⟩),.pointer (some ⟨af,0,none⟩),.pointer (some ⟨af+1,0,none⟩),undef,.agg #[.slice ae mn mc],.func (.func 208) #[] #[.pointer (some ⟨w.heap.size+1+1+1,0,none⟩)],.agg #[.int .i64 x.1.1.1.place,.string x.1.1.1.name,x.1.1.2],.agg #[.int .i64 x.1.2.1.place,.string x.1.2.1.name,x.1.2.2],undef,undef,undef,undef,undef,undef,undef],defers:=[]})
  (fun x a' _ X ai row hs al ah=>by
   obtain ⟨af,h1,h2,ax,ay⟩:=hs;exact ⟨af,h1,dF (β:=Unit) W0.heap.size _ _ _ () X ai row h2 al ah,dF (β:=Unit) W0.heap.size _ _ _ () X ai row ax al ah,ay⟩)
  ?assign ?body ?done ?stop
 case assign=>
  exact Qa
 case body=>
  rintro l pre x a' W hl ⟨rr,ah⟩ ⟨hpre,EQ⟩ ⟨af,aP,aE,aC,rfl⟩ aQ;obtain ⟨⟨⟨t,tv⟩,⟨r,av⟩⟩,aO⟩:=x;obtain ⟨rl,ag,am⟩:=aO.2;simp only at ag am aE aC;obtain ⟨aZ,a6,a5,rfl⟩:=ag.form;obtain ⟨aX,rv,aI⟩:=(ag.ex _ am).isI;simp only at aI;subst aI;obtain ⟨t0,t1,t2⟩:=aE.three;obtain ⟨aS,aU,aW⟩:=aC.three;have c0:W.cell? ⟨w.heap.size+1,0,none⟩=some (.func (.func 117) #[.agg #[.slice ae mn mc]] #[]):=(aA.below EQ).cell rfl;have aK:r∈t.rels:=by rw [<-ag.fst];exact aY.2 ⟨_,am,rfl⟩
  have C:=hp W t _ rl r _ (HM.below EQ) (ag.below EQ) ((ag.ex _ am).but (But.of_below EQ)) aK
  cases hn:N t r with
  |none=>
   exact Qd
  |some q=>
   exact Qb
 case done=>
  exact P9
 case stop=>
  exact Qc
theorem CE(b c sv ts tl N w)(ak:MC b w sv ts tl)(hp:∀w' t tv rl r av,MC b w' sv ts tl->RC b w' tv t.rels rl->bg b w' r.body av->r∈t.rels->Calls prog 118 #[.agg #[sv],.agg #[.int .i64 t.place,.string t.name,tv],.agg #[.int .i64 r.place,.string r.name,av]] w' fun e' w''=>e'=.returned (gW c (N t r))/\Below w'.heap.size w' w''):
  Calls prog 116 #[.agg #[sv],.func (.func 118) #[.agg #[sv]] #[]] w fun e' w'=>e'=.returned (gW c (eA N ts))/\Below w.heap.size w w':=by
 obtain ⟨ae,mn,mc,rfl⟩:=ak.form;refine (hP (n:=8)).1 ?_;refine xA func116 rfl trivial ?_ rfl;simp only [ntmps116,qi,List.length_cons,List.length_nil,Nat.reduceAdd,Nat.reduceSub,qj,Array.replicate_zero,qk,ql,List.nil_append,List.cons_append];gi_wp2_with fail;refine ⟨trivial,(hP.2 (km _ _ ⟨_,_,_,rfl⟩)).mono ?_⟩;rintro e w' ⟨rfl,rfl⟩;gi_wp2_with fail;have Rc:Below w.heap.size w ((((w.alloc (aN ae mn mc)).alloc (.cells #[.func (.func 118) #[.agg #[.slice ae mn mc]] #[]] 222)).alloc i7).alloc (aN ae mn mc)):=((((aw _ w).alloc az _).alloc an _).alloc aM _).alloc aM _;have aA:aB ((((w.alloc (aN ae mn mc)).alloc (.cells #[.func (.func 118) #[.agg #[.slice ae mn mc]] #[]] 222)).alloc i7).alloc (aN ae mn mc)) (w.heap.size+1) #[.func (.func 118) #[.agg #[.slice ae mn mc]] #[]] 222:=((aB.new' (w.alloc (aN ae mn mc)) _ _ (w.heap.size+1) an).alloc _).alloc _;have bR:aB ((((w.alloc (aN ae mn mc)).alloc (.cells #[.func (.func 118) #[.agg #[.slice ae mn mc]] #[]] 222)).alloc i7).alloc (aN ae mn mc)) (w.heap.size+1+1) #[.nilIface] 77:=(aB.new' ((w.alloc (aN ae mn mc)).alloc (.cells #[.func (.func 118) #[.agg #[.slice ae mn mc]] #[]] 222)) _ _ (w.heap.size+1+1) an).alloc _;have aD:aB ((((w.alloc (aN ae mn mc)).alloc (.cells #[.func (.func 118) #[.agg #[.slice ae mn mc]] #[]] 222)).alloc i7).alloc (aN ae mn mc)) (w.heap.size+1+1+1) #[.slice ae mn mc] 75:=aB.new' _ _ _ _ an;have aL:((((w.alloc (aN ae mn mc)).alloc (.cells #[.func (.func 118) #[.agg #[.slice ae mn mc]] #[]] 222)).alloc i7).alloc (aN ae mn mc)).heap.size=w.heap.size+4:=an;have HM:=ak.below Rc;obtain ⟨W0,aH⟩:∃W0,((((w.alloc (aN ae mn mc)).alloc (.cells #[.func (.func 118) #[.agg #[.slice ae mn mc]] #[]] 222)).alloc i7).alloc (aN ae mn mc))=W0:=⟨_,rfl⟩;rw [aH] at Rc aA bR aD aL HM ⊢;clear aH;obtain ⟨SX,hF⟩:=CB HM;obtain ⟨L,hL⟩:∃L:List {x:It // u7 b W0 tl x},L.map Subtype.val=oW SX tl:=pe _ _ (xC hF);have hE:eA N ts=L.findSome? (fun x=>N x.1.1.1 x.1.2.1):=by
  exact J7
 refine wpIn_rangeFunc_ownH (F:=Fence.wide) rfl ar (gf:=208) (lb:=#[.pointer (some ⟨w.heap.size+1+1+1,0,none⟩)]) rfl trivial (enters_of func208 au rfl)
  (qn b W0 _ ts tl HM SX hF _ ar _ aD L hL) (fun ak k=>CK.trans ak k) (CK.b (w:=W0)) ba (fun _=>rfl)
  (fun pre W=>(∀x∈pre,N x.1.1.1 x.1.2.1=none)/\Below W0.heap.size W0 W)
  (fun aG pre W=>(aG=.ret/\∃ap x q,pre=ap++[x]/\(∀y∈ap,N y.1.1.1 y.1.2.1=none)/\N x.1.1.1 x.1.2.1=some q/\aB W (w.heap.size+1+1) #[gW c (some q)] 77)/\Below w.heap.size w W)
  (OwnFrom.and (ownFrom_pure _ _) (ownFrom_below az az))
  (fun aG=>OwnFrom.and (fun s X ai row hs al ah=>by
   obtain ⟨h1,ap,x,q,h2,ax,ay,aJ⟩:=hs;exact ⟨h1,ap,x,q,h2,ax,ay,dF (β:=Unit) W0.heap.size _ _ _ () X ai row aJ al ah⟩) (ownFrom_below az aj))
  ⟨an,aw _ _⟩
  (fun x a' W=>∃af,W0.heap.size<=af/\aB W af #[.int .i64 x.1.1.1.place,.string x.1.1.1.name,x.1.1.2] 110/\aB W (af+1) #[.int .i64 x.1.2.1.place,.string x.1.2.1.name,x.1.2.2] 159/\a'={tmps:=#[.agg #[.slice ae mn mc],.func (.func 118) #[.agg #[.slice ae mn mc]] #[],.pointer (some ⟨w.heap.size,0,none⟩),.pointer (some ⟨w.heap.size+1,0,none⟩),.pointer (some ⟨w.heap.size+1+1,0,none⟩),.pointer (some ⟨af,0,none⟩),.pointer (some ⟨af+1,0,none⟩),undef,.agg #[.slice ae mn mc],.func (.func 208) #[] #[.pointer (some ⟨w.heap.size+1+1+1,0,none⟩)],.agg #[.int .i64 x.1.1.1.place,.string x.1.1.1.name,x.1.1.2],.agg #[.int .i64 x.1.2.1.place,.string x.1.2.1.name,x.1.2.2],undef,undef,undef,undef,undef,undef,undef],defers:=[]})
  (fun x a' _ X ai row hs al ah=>by
   obtain ⟨af,h1,h2,ax,ay⟩:=hs;exact ⟨af,h1,dF (β:=Unit) W0.heap.size _ _ _ () X ai row h2 al ah,dF (β:=Unit) W0.heap.size _ _ _ () X ai row ax al ah,ay⟩)
  ?assign ?body ?done ?stop
 case assign=>
  exact Qa
 case body=>
  rintro l pre x a' W hl ⟨rr,ah⟩ ⟨hpre,EQ⟩ ⟨af,aP,aE,aC,rfl⟩ aQ;obtain ⟨⟨⟨t,tv⟩,⟨r,av⟩⟩,aO⟩:=x;obtain ⟨rl,ag,am⟩:=aO.2;simp only at ag am aE aC;obtain ⟨aZ,a6,a5,rfl⟩:=ag.form;obtain ⟨aX,rv,aI⟩:=(ag.ex _ am).isI;simp only at aI;subst aI;obtain ⟨t0,t1,t2⟩:=aE.three;obtain ⟨aS,aU,aW⟩:=aC.three;have c0:W.cell? ⟨w.heap.size+1,0,none⟩=some (.func (.func 118) #[.agg #[.slice ae mn mc]] #[]):=(aA.below EQ).cell rfl;have aK:r∈t.rels:=by rw [<-ag.fst];exact aY.2 ⟨_,am,rfl⟩
  have C:=hp W t _ rl r _ (HM.below EQ) (ag.below EQ) ((ag.ex _ am).but (But.of_below EQ)) aK
  cases hn:N t r with
  |none=>
   exact Qd
  |some q=>
   exact Qb
 case done=>
  exact P9
 case stop=>
  exact Qc
end
end
abbrev oB:=@List.any_map
def J8 (A:aF:=by
 rw [oB,Bool.eq_iff_iff,ei,List.find?_isSome]
 rfl):aF:=A
def CF (A:aF:=by
 simp only [aI] at e;exact e.2.1):aF:=A
theorem Ok{b2 n2 x1 x2}(h1:w.ownsRow b1 e size v n1 x1)(h2:w.ownsRow b2 e size v n2 x2):n1=n2/\x1=x2:=by
 have hn:n1=n2:=by
  obtain ⟨a,c,rfl⟩:=ay h1;obtain ⟨a',I,e⟩:=ay h2;exact CF
 subst hn;refine ⟨rfl,List.ext_getElem? fun k=> ?_⟩;have hl:x1.length=x2.length:=h1.1.trans h2.1.symm
 rcases ii k x1.length with C|C
 ·obtain ⟨g,c,e1,c1⟩:=aZ h1 k _ (aG C);obtain ⟨g',I,D,c2⟩:=aZ h2 k _ (aG (show k<x2.length by omega));rw [e1] at D;simp only [aI,aK,cw] at D;obtain ⟨⟨rfl,_⟩,_⟩:=D;rw [c1] at c2;rw [aG C,aG (show k<x2.length by omega)];exact c2
 rw [k7 C,k7 aj]
theorem Ka:∀(a c:List E3),a.flatMap c3=c.flatMap c3->a=c
 | [],[],_=>rfl
 | [],e::c,h=>by simp [c3] at h
 |e::a,[],h=>by simp [c3] at h
 |(p,n,v)::a,(p',n',v')::c,h=>by
  simp only [cq,c3,List.cons_append,List.nil_append,List.cons.injEq,Value.int.injEq,Value.string.injEq,true_and] at h;obtain ⟨h1,h2,A,C⟩:=h;rw [Ka a c C,h2,A,show p=p' by omega]
theorem g4.inj{l1 l2}(h1:g4 w T v l1)(h2:g4 w T v l2):l1=l2:=Ka _ _ (Ok h1 h2).2
def Nq:List ae->List (ae×Nat)->Option Nat
 |_,[]=>none
 |ah,(n,p)::r=>if ah.any (fun m=>eqs m n) then some p else Nq (ah++[n]) r
theorem vI(n l):(gS n l).isSome=(l.map fun e=>e.2.1).any (fun m=>eqs m n):=by
 unfold gS;exact J8
theorem vJ:∀(l ah:List E3),jz ah l=Nq (ah.map fun e=>e.2.1) (l.map fun e=>(e.2.1,e.1))
 | [],ah=>rfl
 |e::l,ah=>by
  have:=vJ l (ah++[e]);simp only [jz,cj,Nq,vI];rw [this,de]
  rfl
def Tq(rs:List Rl):Option Nat:=Nq [] (rs.map fun r=>(r.name,r.place))
def zx:List ae->List Ty->Option Nat
 |_,[]=>none
 |ah,t::r=>if ah.any (fun m=>eqs m t.name) then some t.place else match Tq t.rels with
  |some p=>some p
  |none=>zx (ah++[t.name]) r
theorem tq(inn):∀(l C:List (Ty×ag)),(∀p∈l,inn (t3 p)=Tq p.1.rels)->iB inn (C.map t3) (l.map t3)=zx (C.map fun p=>p.1.name) (l.map Prod.fst)
 | [],C,_=>rfl
 |p::l,C,h=>by
  have D:=tq inn l (C++[p]) (fun q J=>h q (by simp [J]));have I:=h p an;simp only [cj,iB,zx,vI,I];rw [de,de] at D;simp only [cj,p8] at D;rw [D,mD]
  rfl
theorem Re(w):∃inn:E3->Option Nat,∀e l,g4 w 159 e.2.2 l->inn e=jz [] l:=by
 classical
 refine ⟨fun e=>if h:∃l:List E3,g4 w 159 e.2.2 l then jz [] h.choose else none,?_⟩;intro e l h;have A:∃l:List E3,g4 w 159 e.2.2 l:=⟨l,h⟩;simp only;rw [dif_pos A,g4.inj A.choose_spec h]
theorem CG(b sv ts tl w)(C:MC b w sv ts tl):
  Calls prog 115 #[.agg #[sv]] w fun e w'=>e=.returned (gW 4 (zx [] ts))/\Below w.heap.size w w':=by
 obtain ⟨inn,I⟩:=Re w;have key:iB inn [] (tl.map t3)=zx [] ts:=by
  have:=tq inn tl [] (fun p D=>by
   obtain ⟨rl,h⟩:=C.rels p D;rw [I (t3 p) _ h.row,vJ,Tq,<-h.fst,mD,mD]
   rfl)
  rw [C.fst] at this;exact this
 rw [<-key];refine BX inn sv (tl.map t3) w C.llen C.row ?_ ?_
 ·intro e A;rw [aY] at A;obtain ⟨p,D,rfl⟩:=A;obtain ⟨rl,h⟩:=C.rels p D;exact h.form
 ·intro e A w' J;rw [aY] at A;obtain ⟨p,D,rfl⟩:=A;obtain ⟨rl,h⟩:=C.rels p D;rw [I (t3 p) _ h.row];refine BV _ _ _ _ w' h.llen (h.row.below J) ?_;intro e A;rw [aY] at A;obtain ⟨q,O,rfl⟩:=A;exact (h.ex q O).isI
def gt(ts:List Ty):Option (Nat×Nat):=match zx [] ts with
 |some p=>some (p,4)
 |none=>match eA (gI ts) ts with
  |some p=>some (p,5)
  |none=>match eA (i6 ts) ts with
   |some p=>some (p,6)
   |none=>none
def CH:Option (Nat×Nat)->ag
 |none=> .nilIface
 |some (p,c)=>gp p c
theorem vK(b sv ts tl w)(Z:MC b w sv ts tl):
  Calls prog 74 #[.agg #[sv]] w fun e w'=>e=.returned (CH (gt ts))/\Below w.heap.size w w':=by
 obtain ⟨Q,mn,mc,rfl⟩:=Z.form;have W0:Below w.heap.size w (w.alloc (aN Q mn mc)):=ba.alloc az _;have I:=ai W0;have am:=ai (Z.below W0);have J:=ai (aB.new w #[.slice Q mn mc] 75);have R:=ai (CG b _ ts tl _ am.u);have V:=ai (fun w' (ah:Below w.heap.size w w')=>CC b 5 _ ts tl (gI ts) w' (Z.below ah) (fun w'' t tv rl r af h1 h2 O ag=>sW b _ ts tl t tv rl r af w'' h1 h2 O ag));have ac:=ai (fun w' (ah:Below w.heap.size w w')=>CE b 6 _ ts tl (i6 ts) w' (Z.below ah) (fun w'' t tv rl r af h1 h2 O ag=>tj b _ ts tl t tv rl r af w'' h1 h2 O ag));unfold gt;clear W0 Z
 cases h1:zx [] ts with
 |some p=>
  rw [h1] at R;clear h1;simp only [CH];go_enter func74,ntmps74;go_wp2_with fail;refine (ak R).mono ?_;rintro e U ⟨rfl,h⟩;have A:=ai (I.u.trans (h.mono I.u.size));clear h;unfold gW gp;go_wp2;go_ret;exact ⟨rfl,A.u⟩
 |none=>
  rw [h1] at R;clear h1;simp only
  cases h2:eA (gI ts) ts with
  |some p=>
   rw [h2] at V;clear h2;simp only [CH];go_enter func74,ntmps74;go_wp2_with fail;refine (ak R).mono ?_;rintro e U ⟨rfl,h⟩;have A:=ai (I.u.trans (h.mono I.u.size));have aj:U.cell? ⟨w.heap.size,0,none⟩=some (.slice Q mn mc):=(J.u.below h).cell rfl;have al:=(J.u.below h).lt;clear h;unfold gW;go_wp2_with fail;refine (ak V _ A.u).mono ?_;rintro e ad ⟨rfl,C⟩;have D:=ai (A.u.trans (C.mono A.u.size));clear C;unfold gW gp;go_wp2;go_ret;exact ⟨rfl,D.u⟩
  |none=>
   rw [h2] at V;clear h2;simp only
   cases O:eA (i6 ts) ts with
   |some p=>
    rw [O] at ac;clear O;simp only [CH];go_enter func74,ntmps74;go_wp2_with fail;refine (ak R).mono ?_;rintro e U ⟨rfl,h⟩;have A:=ai (I.u.trans (h.mono I.u.size));have aj:U.cell? ⟨w.heap.size,0,none⟩=some (.slice Q mn mc):=(J.u.below h).cell rfl;have al:=(J.u.below h).lt;have Y:=ai (J.u.below h);clear h;unfold gW;go_wp2_with fail;refine (ak V _ A.u).mono ?_;rintro e ad ⟨rfl,C⟩;have D:=ai (A.u.trans (C.mono A.u.size));have an:ad.cell? ⟨w.heap.size,0,none⟩=some (.slice Q mn mc):=(Y.u.below C).cell rfl;have ap:=(Y.u.below C).lt;clear C;unfold gW;go_wp2_with fail;refine (ak ac _ D.u).mono ?_;rintro e ar ⟨rfl,ab⟩;have ae:=ai (D.u.trans (ab.mono D.u.size));clear ab;unfold gW gp;go_wp2;go_ret;exact ⟨rfl,ae.u⟩
   |none=>
    rw [O] at ac;clear O;simp only [CH];go_enter func74,ntmps74;go_wp2_with fail;refine (ak R).mono ?_;rintro e U ⟨rfl,h⟩;have A:=ai (I.u.trans (h.mono I.u.size));have aj:U.cell? ⟨w.heap.size,0,none⟩=some (.slice Q mn mc):=(J.u.below h).cell rfl;have al:=(J.u.below h).lt;have Y:=ai (J.u.below h);clear h;unfold gW;go_wp2_with fail;refine (ak V _ A.u).mono ?_;rintro e ad ⟨rfl,C⟩;have D:=ai (A.u.trans (C.mono A.u.size));have an:ad.cell? ⟨w.heap.size,0,none⟩=some (.slice Q mn mc):=(Y.u.below C).cell rfl;have ap:=(Y.u.below C).lt;clear C;unfold gW;go_wp2_with fail;refine (ak ac _ D.u).mono ?_;rintro e ar ⟨rfl,ab⟩;have ae:=ai (D.u.trans (ab.mono D.u.size));clear ab;unfold gW;go_wp2;go_ret;exact ⟨rfl,ae.u⟩
section
def Kb (I:aF:=by
 obtain ⟨C,D,J⟩:=this;simp only [List.length_append,List.length_cons,List.length_nil] at D;exact ⟨C,aj,aj⟩):aF:=I
def Kd (h:aF:=by
 simp at h;obtain ⟨rfl,rfl⟩:=h;exact Bn.leaf _ _ _ aj (fun h=>by simp at h)):aF:=h
structure Bn(x:Ex)(n:Nat):Prop where
 p:(aA x).length<=n
 g:(bZ x).length<=n
 wf:WF x
theorem Bn.le{x:Ex}(h:Bn x n)(A:n<=m):Bn x m:=⟨aL h.p A,aL h.g A,h.wf⟩
theorem Bn.leaf(nd r n)(h1:1<=n)(h2:nd.kind=0->nd.gs.length<=n/\nd.gs≠ []):Bn ⟨nd,none,r⟩ n:=by
 refine ⟨by simp [aA];omega,?_,?_⟩
 ·simp only [bZ,aA,cq,oA,List.append_nil,e7]
  split
  ·rename_i h;exact (h2 h).1
  simp
 intro p A hl h;simp only [aA,aR] at A;subst A;exact (h2 h).2
theorem Bn.join{x y}(t p)(A:Bn x n)(C:Bn y m):Bn (fV t p x y) (n+1+m):=by
 refine ⟨?_,?_,?_⟩
 ·have h1:=A.p;have h2:=C.p;simp only [fV,aA,List.length_append,List.length_cons,List.length_nil];omega
 ·have h1:=A.g;have h2:=C.g;unfold bZ at*;simp only [fV,aA,cX,cq,oA,List.append_nil,e7,List.length_append,List.length_nil,Nat.add_zero];omega
 intro q h hl D;simp only [fV,aA,aT,aR] at h
 rcases h with (h|h)|h
 ·exact A.wf q h hl D
 ·subst h;simp at hl
 exact C.wf q h hl D
def BN(r:Nat->eC Ex):Prop:=∀i x j,r i=.ok (x,j)->i<j/\Bn x (j-i)
theorem zz(T P):∀f acc i gs j,dW T P f acc i=.ok (gs,j)->gs≠ []/\gs.length+i<acc.length+j
 |0,_,i,x,j,h=>by simp [dW] at h
 |f+1,acc,i,x,j,h=>by
  unfold dW at h
  split at h
  ·simp at h
  rename_i A;have:=j0 T P _ _ _ A
  split at h
  ·have:=zz T P f _ _ _ _ h;refine ⟨this.1,?_⟩;have h2:=this.2;simp only [List.length_append,List.length_cons,List.length_nil] at h2;omega
  split at h<;>simp at h
  obtain ⟨rfl,rfl⟩:=h;simp;omega
theorem Ke(T P):BN (kG T P):=by
 intro i x j C;refine ⟨sB T P _ _ _ C,?_⟩;unfold kG at C
 split at C
 ·simp at C
 rename_i D;have:=zz T P _ _ _ _ _ D;simp at C;obtain ⟨rfl,rfl⟩:=C;have h2:=this.2;simp only [List.length_nil] at h2;exact Bn.leaf _ _ _ aj (fun _=>⟨by simp only;omega,this.1⟩)
theorem GA(T P):BN (iX T P):=by
 intro i x j h;have C:=qX T P _ _ _ h;refine ⟨C,?_⟩;unfold iX at h
 split at h
 ·simp at h
 split at h
 ·split at h
  ·simp at h
  exact Kd
 exact Kd
theorem zA(T P room inner)(hi:BN inner):BN (eQ T P room inner):=by
 intro i x j C;unfold eQ at C
 split at C
 ·exact Ke T P _ _ _ C
 split at C
 ·split at C
  ·split at C
   ·simp at C
   rename_i D;have:=hi _ _ _ D
   split at C<;>simp at C
   obtain ⟨rfl,rfl⟩:=C;exact ⟨aj,this.2.le aj⟩
  simp at C
 exact GA T P _ _ _ C
theorem zB(T P l part)(C:BN part)(i0):∀f y i x j,i0<=i->Bn y (i-i0)->joinL T P l part f y i=.ok (x,j)->i<=j/\Bn x (j-i0)
 |0,_,i,x,j,h0,hb,h=>by simp [joinL] at h
 |f+1,y,i,x,j,h0,hb,h=>by
  unfold joinL at h
  split at h
  ·split at h
   ·simp at h
   rename_i D;obtain ⟨h1,h2⟩:=C _ _ _ D;have:=zB T P l part C i0 f _ _ _ _ aj ((hb.join _ _ h2).le aj) h;exact ⟨aj,this.2⟩
  simp at h;obtain ⟨rfl,rfl⟩:=h;exact ⟨cm _,hb⟩
theorem pf(T P l part)(D:BN part):BN (eG T P l part):=by
 intro i x j C;unfold eG at C
 split at C
 ·simp at C
 rename_i I;obtain ⟨h1,h2⟩:=D _ _ _ I;have:=zB T P l part D i _ _ _ _ _ aj h2 C;exact ⟨aj,this.2⟩
theorem zC(T P):∀n,BN (fb T P n)
 |0=>pf T P _ _ (pf T P _ _ (zA T P false _ (fun i x j h=>by simp at h)))
 |n+1=>pf T P _ _ (pf T P _ _ (zA T P true _ (zC T P n)))
theorem Ol(T P i r j)(C:kH T P i=.ok (r,j)):Bn r.body j:=by
 unfold kH at C
 split at C
 ·simp at C
 split at C
 ·simp at C
 rename_i D;have:=zC T P _ _ _ _ D
 split at C<;>simp at C
 obtain ⟨rfl,rfl⟩:=C;exact this.2.le aj
theorem zD(T P):∀f acc i rs j,(∀r∈acc,Bn r.body i)->dg T P f acc i=.ok (rs,j)->(∀r∈rs,Bn r.body j)/\rs.length+i<=acc.length+j/\i<j
 |0,_,i,x,j,_,h=>by simp [dg] at h
 |f+1,acc,i,x,j,ha,h=>by
  unfold dg at h
  split at h
  ·simp at h;obtain ⟨rfl,rfl⟩:=h;exact ⟨fun r O=>(ha r O).le aj,aj,aj⟩
  split at h
  ·simp at h
  split at h
  ·simp at h
  rename_i Q;have h1:=kI T P _ _ _ Q;have h2:=Ol T P _ _ _ Q;have:=zD T P f _ _ _ _ (by
   intro r O;rw [aT,aR] at O
   rcases O with O|rfl
   ·exact (ha r O).le aj
   exact h2) h
  exact Kb
theorem Kf(T P i t j)(C:lX T P i=.ok (t,j)):(∀r∈t.rels,Bn r.body j)/\t.rels.length<=j:=by
 unfold lX at C
 split at C
 ·split at C
  ·simp at C
  split at C
  ·simp at C
  rename_i D;have:=zD T P _ _ _ _ _ an D;simp at C;obtain ⟨rfl,rfl⟩:=C;refine ⟨this.1,?_⟩;have h2:=this.2.1;simp only [List.length_nil] at h2;simp only;omega
 simp at C
def TB(t:Ty)(n:Nat):Prop:=(∀r∈t.rels,Bn r.body n)/\t.rels.length<=n
theorem TB.le(h:TB t n)(A:n<=m):TB t m:=⟨fun r C=>(h.1 r C).le A,aL h.2 A⟩
theorem vL(T P):∀f acc i ts j,(∀t∈acc,TB t i)->db T P f acc i=.ok (ts,j)->(∀t∈ts,TB t j)/\ts.length+i<=acc.length+j/\i<=j
 |0,_,i,x,j,_,h=>by simp [db] at h
 |f+1,acc,i,x,j,ha,h=>by
  unfold db at h
  split at h
  ·simp at h;obtain ⟨rfl,rfl⟩:=h;exact ⟨ha,cm _,cm _⟩
  split at h
  ·simp at h
  split at h
  ·simp at h
  rename_i Q;have h1:=n7 T P _ _ _ Q;have h2:=Kf T P _ _ _ Q;have:=vL T P f _ _ _ _ (by
   intro t O;rw [aT,aR] at O
   rcases O with O|rfl
   ·exact (ha t O).le aj
   exact h2) h
  exact Kb
theorem ir(T P ts j)(C:ej T P=.ok (ts,j)):(∀t∈ts,TB t j)/\ts.length<=j:=by
 have:=vL T P _ _ _ _ _ an C;refine ⟨this.1,?_⟩;have h2:=this.2.1;simp only [List.length_nil] at h2;omega
variable {b:Nat}
theorem RC.of_rep(I:im (b+1) b w sv rs)(D:∀r∈rs,Bn r.body n)(O:rs.length<=n)(Q:n<=500):∃rl,RC b w sv rs rl:=by
 obtain ⟨l,h1,h2,J⟩:=I;refine ⟨l,h1,?_,h2,aj,fun r C=>aL (D r C).p aj,fun r C=>aL (D r C).g aj,fun r C=>(D r C).wf⟩;unfold g4;rw [c3_r3,cK,show l.length=rs.length by rw [<-h1,cK]];exact aX J (Nat.zero_le _)
theorem MC.of_rep(J:kf (b+1) b w sv ts)(C:∀t∈ts,TB t n)(U:ts.length<=n)(R:n<=500)(Q:b<w.heap.size):∃tl,MC b w sv ts tl:=by
 obtain ⟨l,h1,h2,O⟩:=J;refine ⟨l,h1,?_,?_,aj,Q⟩
 ·unfold g4;rw [c3_t3,cK,show l.length=ts.length by rw [<-h1,cK]];exact aX O (Nat.zero_le _)
 intro p I;have D:p.1∈ts:=by rw [<-h1];exact List.mem_map_of_mem I
 exact RC.of_rep (h2 p I) (C p.1 D).1 (C p.1 D).2 R
end
abbrev oC:Obj:=.cells #[.slice none 0 0] 75
abbrev lA(a0:ae)(a1:Int)(a2:ae):Obj:=.cells #[.string a0,.int .i64 a1,.string a2,.int .i64 0] 140
def ER (A:aF:=by
 have:=B2.u.size;omega):aF:=A
theorem np(s w)(hs:s.size<=500):Calls prog 70 #[.string s] w fun e w'=>e=.returned (.string s)/\Below w.heap.size w w':=by
 have C:=ai (Tryz.stringslite_Clone s w aj);go_enter func70,ntmps70;go_wp2_with fail;refine C.u.mono ?_;rintro e w' ⟨rfl,D⟩;have I:=ai D;clear D C;go_wp2;go_ret;exact ⟨rfl,I.u⟩
def fo(s:ae):Except (Option Nat×Nat) (List Ty):=if 500<s.size then .error (none,1) else match ej (TT s) (PP s) with
 | .error (c,j)=> .error (some (PP s j),c)
 | .ok (ts,_)=>match gt ts with
  |some (p,c)=> .error (some p,c)
  |none=> .ok ts
def Rf:Option Nat×Nat->ag
 |(none,c)=>bY c
 |(some p,c)=>gp p c
def mH(w:af)(r:Except (Option Nat×Nat) (List Ty))(e:Ending)(w':af):Prop:=Below w.heap.size w w'/\match r with
 | .error x=>e=.returned (.tuple #[.agg #[.slice none 0 0],Rf x])
 | .ok ts=>∃sv tl b,e=.returned (.tuple #[.agg #[sv],.nilIface])/\MC b w' sv ts tl
theorem GB(s w)(hs:500<s.size):Calls prog 40 #[.string s] w (mH w (.error (none,1))):=by
 have hn:(500:Int)<(s.size:Int):=aj;have D:=ai (aB.new w #[.slice none 0 0] 75);have C:=ai (aw w.heap.size w);go_enter func40,ntmps40;go_wp2;refine bc (v:=.tuple #[.agg #[.slice none 0 0],bY 1]) (bC results40 _ _ w.heap.size _ 75 _ _ rfl rfl ?hB underlying75 rfl au) rfl ?post
 case hB=>exact ⟨_,(b4 D),aS⟩
 case post=>exact ⟨(bB C),rfl⟩
theorem Kg(s w)(hs:s.size<=500)(c j)(ac:ej (TT s) (PP s)=.error (c,j)):Calls prog 40 #[.string s] w (mH w (.error (some (PP s j),c))):=by
 have ae:=ai ac;clear ac;have hn:¬((500:Int)<(s.size:Int)):=aj;have ab:=ai (np s (w.alloc oC) hs);go_enter func40,ntmps40;go_wp2_with fail;refine ab.u.mono ?_;rintro e w0 ⟨rfl,U⟩;have D:=ai (((aw _ w).alloc az oC).trans (U.mono an));have O:=ai ((aB.new w #[.slice none 0 0] 75).below U);have Z:=ai (iA s 0 0 w0 ey (Nat.zero_le _) rfl);clear U ab;go_wp2_with fail;refine Z.u.mono ?_;rintro e w1 ⟨rfl,C⟩;have I:=ai (D.u.trans (C.mono D.u.size));have af:=ai (O.u.below C);have ar:=(O.u.below C).lt;clear C Z O D;have Y:At (w1.alloc (lA s (cC s 0) (bT s 0))) w1.heap.size s 0 0:=⟨⟨⟨aB.new w1 _ _⟩,Nat.zero_le _⟩,Nat.zero_le _⟩;have J:=ai (n8 w1.heap.size s 0 _ hs Y rfl);have ag:=ai (af.u.alloc (lA s (cC s 0) (bT s 0)));have B2:=ai (I.u.alloc I.u.size (lA s (cC s 0) (bT s 0)));clear Y;rw [ae.u] at J;go_wp2_with fail;refine (ak J).mono ?_;rintro e V ⟨R,v,d',rfl,⟨ax,aA,ay,rfl⟩,Q⟩;have c1:V.cell? ⟨w1.heap.size,1,none⟩=some (.int .i64 (PP s j)):=Q.pos.rd.c1;have av:=Q.lt;have ad:=ai (B2.u.trans (R.below (by have:=I.u.size;omega) ER));have R3:=ai (ag.u.but R aj);have ah:=R3.u.cell (o:=0) rfl;simp only [List.getElem_toArray,List.getElem_cons_zero] at ah;have ap:=R3.u.fz;have rl:=R3.u.lt;have al:¬(V.heap.size=w.heap.size):=aj;have am:¬(w.heap.size=V.heap.size):=aj;clear Q R J;unfold bY;go_wp2_with (go_at_call 73;refine (jy _ c _).mono ?_;rintro e aC ⟨rfl,rfl⟩);refine bc (v:=.tuple #[.agg #[.slice none 0 0],gp (PP s j) c]) (bC results40 _ _ w.heap.size _ 75 _ _ rfl rfl ?hB underlying75 rfl au) rfl ?post
 case hB=>exact ⟨_,(b4 R3),aS⟩
 case post=>exact ⟨(bB ad),rfl⟩
theorem CI(s w)(hs:s.size<=500)(ts j p c)(am:ej (TT s) (PP s)=.ok (ts,j))(al:gt ts=some (p,c)):Calls prog 40 #[.string s] w (mH w (.error (some p,c))):=by
 have U:=ai am;have av:=ai al;clear am al;have hn:¬((500:Int)<(s.size:Int)):=aj;have ah:=ai (np s (w.alloc oC) hs);go_enter func40,ntmps40;go_wp2_with fail;refine ah.u.mono ?_;rintro e w0 ⟨rfl,Z⟩;have J:=ai (((aw _ w).alloc az oC).trans (Z.mono an));have V:=ai ((aB.new w #[.slice none 0 0] 75).below Z);have ag:=ai (iA s 0 0 w0 ey (Nat.zero_le _) rfl);clear Z ah;go_wp2_with fail;refine ag.u.mono ?_;rintro e w1 ⟨rfl,I⟩;have O:=ai (J.u.trans (I.mono J.u.size));have ax:=ai (V.u.below I);have aE:=(V.u.below I).lt;clear I ag V J;have ae:At (w1.alloc (lA s (cC s 0) (bT s 0))) w1.heap.size s 0 0:=⟨⟨⟨aB.new w1 _ _⟩,Nat.zero_le _⟩,Nat.zero_le _⟩;have Q:=ai (n8 w1.heap.size s 0 _ hs ae rfl);have ay:=ai (ax.u.alloc (lA s (cC s 0) (bT s 0)));have B2:=ai (O.u.alloc O.u.size (lA s (cC s 0) (bT s 0)));clear ae;rw [U.u] at Q;go_wp2_with fail;refine (ak Q).mono ?_;rintro e aC ⟨Y,v,rfl,⟨sv,rfl,ap⟩,D⟩;obtain ⟨tl,ac⟩:=MC.of_rep ap (ir _ _ _ _ U.u).1 (ir _ _ _ _ U.u).2 (by have:=D.le;omega) D.lt;obtain ⟨ad,mn,mc,rfl⟩:=ac.form;have aG:=D.lt;have af:=ai (B2.u.trans (Y.below (by have:=O.u.size;omega) ER));have R3:=ai (ay.u.but Y aj);have R:=ai (vK _ _ ts tl _ (ac.below (ba.alloc az (aN ad mn mc))));rw [av.u] at R;clear D Y Q ap ac;go_wp2_with fail;refine (ak R).mono ?_;rintro e aH ⟨rfl,ab⟩;have ar:=ai (af.u.trans (((aw _ aC).alloc az (aN ad mn mc)).trans (ab.mono an) |>.mono af.u.size));have C:=ai ((R3.u.alloc (aN ad mn mc)).below ab);have aA:=C.u.cell (o:=0) rfl;simp only [List.getElem_toArray,List.getElem_cons_zero] at aA;have aD:=C.u.fz;have rl:=C.u.lt;clear ab R;unfold CH gp bY;go_wp2;refine bc (v:=.tuple #[.agg #[.slice none 0 0],gp p c]) (bC results40 _ _ w.heap.size _ 75 _ _ rfl rfl ?hB underlying75 rfl au) rfl ?post
 case hB=>exact ⟨_,(b4 C),aS⟩
 case post=>exact ⟨(bB ar),rfl⟩
theorem Om(s w)(hs:s.size<=500)(ts j)(av:ej (TT s) (PP s)=.ok (ts,j))(ap:gt ts=none):Calls prog 40 #[.string s] w (mH w (.ok ts)):=by
 have Y:=ai av;have aA:=ai ap;clear av ap;have hn:¬((500:Int)<(s.size:Int)):=aj;have al:=ai (np s (w.alloc oC) hs);go_enter func40,ntmps40;go_wp2_with fail;refine al.u.mono ?_;rintro e w0 ⟨rfl,ac⟩;have Q:=ai (((aw _ w).alloc az oC).trans (ac.mono an));have Z:=ai ((aB.new w #[.slice none 0 0] 75).below ac);have ah:=ai (iA s 0 0 w0 ey (Nat.zero_le _) rfl);clear ac al;go_wp2_with fail;refine ah.u.mono ?_;rintro e w1 ⟨rfl,O⟩;have R:=ai (Q.u.trans (O.mono Q.u.size));have aD:=ai (Z.u.below O);have aK:=(Z.u.below O).lt;clear O ah Z Q;have af:At (w1.alloc (lA s (cC s 0) (bT s 0))) w1.heap.size s 0 0:=⟨⟨⟨aB.new w1 _ _⟩,Nat.zero_le _⟩,Nat.zero_le _⟩;have U:=ai (n8 w1.heap.size s 0 _ hs af rfl);have aE:=ai (aD.u.alloc (lA s (cC s 0) (bT s 0)));have B2:=ai (R.u.alloc R.u.size (lA s (cC s 0) (bT s 0)));clear af;rw [Y.u] at U;go_wp2_with fail;refine (ak U).mono ?_;rintro e ae ⟨ab,v,rfl,⟨sv,rfl,ax⟩,J⟩;obtain ⟨tl,ad⟩:=MC.of_rep ax (ir _ _ _ _ Y.u).1 (ir _ _ _ _ Y.u).2 (by have:=J.le;omega) J.lt;obtain ⟨C,mn,mc,rfl⟩:=ad.form;have aL:=J.lt;have ag:=ai (B2.u.trans (ab.below (by have:=R.u.size;omega) ER));have R3:=ai (aE.u.but ab aj);have am:=ai (ad.below (ba.alloc az (aN C mn mc)));have V:=ai (vK _ _ ts tl _ am.u);rw [aA.u] at V;clear J ab U ax ad;go_wp2_with fail;refine (ak V).mono ?_;rintro e aH ⟨rfl,I⟩;have ay:=ai (ag.u.trans (((aw _ ae).alloc az (aN C mn mc)).trans (I.mono an) |>.mono ag.u.size));have D:=ai ((R3.u.alloc (aN C mn mc)).below I);have aC:=ai (am.u.below I);have aI:aH.cell? ⟨ae.heap.size,0,none⟩=some (.slice C mn mc):=((aB.new ae #[.slice C mn mc] 75).below I).cell rfl;have aG:=D.u.cell (o:=0) rfl;simp only [List.getElem_toArray,List.getElem_cons_zero] at aG;have aJ:=D.u.fz;have rl:=D.u.lt;clear I V;unfold CH;go_wp2;refine bc (v:=.tuple #[.agg #[.slice C mn mc],.nilIface]) (bC results40 _ _ w.heap.size _ 75 _ _ rfl rfl ?hB underlying75 rfl au) rfl ?post
 case hB=>exact ⟨_,(b4 D),aS⟩
 case post=>exact ⟨(bB ay),_,tl,_,rfl,aC.u.kt (KT.set D.u ar 0 _) (by simp [World.setCell])⟩
theorem zE(s w):Calls prog 40 #[.string s] w (mH w (fo s)):=by
 unfold fo
 split
 ·rename_i D;exact GB s w D
 rename_i D;have hs:s.size<=500:=aj
 split
 ·rename_i c j C;exact Kg s w hs c j C
 rename_i ts j C
 split
 ·rename_i p c hc;exact CI s w hs ts j p c C hc
 rename_i hc;exact Om s w hs ts j C hc
section
open Go.Extern.Stop Go.Stop Go.Extern
abbrev lB(a0:Option Addr):Obj:=.cells #[.pointer a0] 145
abbrev oD(a0:Option Addr):Obj:=.cells #[.pointer a0] 148
theorem On(u)(h:(#[u]:Array ag).size=1)(k:0<1):Array.getLit (n:=1) #[u] 0 h k=u:=rfl
theorem Qf(u v)(h:(#[u,v]:Array ag).size=2)(k:0<2):Array.getLit (n:=2) #[u,v] 0 h k=u:=rfl
theorem Qg(u v)(h:(#[u,v]:Array ag).size=2)(k:1<2):Array.getLit (n:=2) #[u,v] 1 h k=v:=rfl
theorem ES(t w):(ReflectliteValue.unpack (.iface 145 (.pointer (some t)))).run prog w
  =.ok (.agg #[.pointer (some ⟨5,145,none⟩),.pointer (some ⟨w.heap.size,0,none⟩),.int .u64 150]) (w.alloc (lB (some t))):=au
theorem ET(t w):(ReflectliteValue.unpack (.iface 148 (.pointer (some t)))).run prog w
  =.ok (.agg #[.pointer (some ⟨5,148,none⟩),.pointer (some ⟨w.heap.size,0,none⟩),.int .u64 150]) (w.alloc (oD (some t))):=au
theorem EU(c w):(ReflectliteValue.unpack (.iface 134 (.int .i64 c))).run prog w
  =.ok (.agg #[.pointer (some ⟨5,134,none⟩),.pointer (some ⟨w.heap.size,0,none⟩),.int .u64 130]) (w.alloc (.cells #[.int .i64 c] 134)):=au
theorem Oo(p e w):(ReflectliteValue.unpack (.iface 147 (.agg #[.int .i64 p,e]))).run prog w
  =.ok (.agg #[.pointer (some ⟨5,147,none⟩),.pointer (some ⟨w.heap.size,0,none⟩),.int .u64 153]) (w.alloc (.cells #[.int .i64 p,e] 147)):=au
theorem vM(a w):(ReflectliteValue.methodAny (ReflectliteValue.valueError "reflectlite.Value.Type" 0) (fun t _ _ _=>ReflectliteType.toType t) #[.agg #[.pointer (some ⟨5,145,none⟩),.pointer (some a),.int .u64 150]]).run prog w
  =.ok (.iface 325 (.agg #[.pointer (some ⟨5,145,none⟩)])) w:=au
theorem vN(a w):(ReflectliteValue.methodAny (ReflectliteValue.valueError "reflectlite.Value.Type" 0) (fun t _ _ _=>ReflectliteType.toType t) #[.agg #[.pointer (some ⟨5,148,none⟩),.pointer (some a),.int .u64 150]]).run prog w
  =.ok (.iface 325 (.agg #[.pointer (some ⟨5,148,none⟩)])) w:=au
theorem pg(h w):(Go.method 545 325 (.agg #[h]) "Kind").run prog w=.ok (292,h) w:=by kernel_rfl
theorem vO(w):((ReflectliteType.abiMethod fun t=>Functor.map (fun a:Nat=>Value.int IntKind.u8 (a:Int)) (Rtype.kind t)) #[.pointer (some ⟨5,145,none⟩)]).run prog w=.ok (.int .u8 22) w:=by kernel_rfl
theorem vP(w):((ReflectliteType.abiMethod fun t=>Functor.map (fun a:Nat=>Value.int IntKind.u8 (a:Int)) (Rtype.kind t)) #[.pointer (some ⟨5,148,none⟩)]).run prog w=.ok (.int .u8 22) w:=by kernel_rfl
theorem vQ(w):((ReflectliteType.abiMethod fun t=>Functor.map (fun a:Nat=>Value.int IntKind.u8 (a:Int)) (Rtype.kind t)) #[.pointer (some ⟨5,134,none⟩)]).run prog w=.ok (.int .u8 2) w:=by kernel_rfl
theorem vR(w):((ReflectliteType.abiMethod fun t=>Functor.map (fun a:Nat=>Value.int IntKind.u8 (a:Int)) (Rtype.kind t)) #[.pointer (some ⟨5,147,none⟩)]).run prog w=.ok (.int .u8 25) w:=by kernel_rfl
theorem tw(a w):(ReflectliteValue.parts (.agg #[.pointer (some ⟨5,145,none⟩),.pointer (some a),.int .u64 150])).run prog w=.ok (some (145,a,150)) w:=by kernel_rfl
theorem tz(a w):(ReflectliteValue.parts (.agg #[.pointer (some ⟨5,148,none⟩),.pointer (some a),.int .u64 150])).run prog w=.ok (some (148,a,150)) w:=by kernel_rfl
theorem zG(a p W)(ha:W.cell? a=some (.pointer (some p))):
  (ReflectliteValue.method (ReflectliteValue.valueError "reflectlite.Value.IsNil" 0) ReflectliteValue.isNil #[.agg #[.pointer (some ⟨5,145,none⟩),.pointer (some a),.int .u64 150]]).run prog W=.ok (.bool false) W:=by
 refine Eq.trans (congrArg (fun z:Sem ag=>z.run prog W) (show ReflectliteValue.method _ _ _=ReflectliteValue.parts _ >>= _ from rfl)) ?_;simp only [On,om,tw,Result.andThen];simp [ReflectliteValue.isNil,loadVar,isAgg,underlying,underlying145,ha,Result.andThen]
theorem zH(a p W)(ha:W.cell? a=some (.pointer (some p))):
  (ReflectliteValue.method (ReflectliteValue.valueError "reflectlite.Value.IsNil" 0) ReflectliteValue.isNil #[.agg #[.pointer (some ⟨5,148,none⟩),.pointer (some a),.int .u64 150]]).run prog W=.ok (.bool false) W:=by
 refine Eq.trans (congrArg (fun z:Sem ag=>z.run prog W) (show ReflectliteValue.method _ _ _=ReflectliteValue.parts _ >>= _ from rfl)) ?_;simp only [On,om,tz,Result.andThen];simp [ReflectliteValue.isNil,loadVar,isAgg,underlying,underlying148,ha,Result.andThen]
theorem ph(h w):(Go.method 545 325 (.agg #[h]) "Elem").run prog w=.ok (305,.agg #[h]) w:=by kernel_rfl
theorem pi(h w):(Go.method 545 325 (.agg #[h]) "Implements").run prog w=.ok (306,.agg #[h]) w:=by kernel_rfl
theorem lC(h w):(Go.method 545 325 (.agg #[h]) "AssignableTo").run prog w=.ok (303,.agg #[h]) w:=by kernel_rfl
theorem CL(p h w):(Go.method 545 147 (.agg #[.int .i64 p,h]) "Unwrap").run prog w=.ok (297,.agg #[.int .i64 p,h]) w:=by kernel_rfl
theorem vS(w):(ReflectliteType.method ReflectliteType.elem #[.agg #[.pointer (some ⟨5,145,none⟩)]]).run prog w=.ok (.iface 325 (.agg #[.pointer (some ⟨5,134,none⟩)])) w:=by kernel_rfl
theorem vT(w):(ReflectliteType.method ReflectliteType.elem #[.agg #[.pointer (some ⟨5,148,none⟩)]]).run prog w=.ok (.iface 325 (.agg #[.pointer (some ⟨5,147,none⟩)])) w:=by kernel_rfl
theorem vU(w):(ReflectliteType.relation "Implements" ReflectliteType.implements_ #[.agg #[.pointer (some ⟨5,134,none⟩)],.iface 325 (.agg #[.pointer (some ⟨5,77,none⟩)])]).run prog w=.ok (.bool true) w:=by kernel_rfl
theorem vV(w):(ReflectliteType.relation "Implements" ReflectliteType.implements_ #[.agg #[.pointer (some ⟨5,147,none⟩)],.iface 325 (.agg #[.pointer (some ⟨5,77,none⟩)])]).run prog w=.ok (.bool true) w:=by kernel_rfl
theorem mJ(v w):(ReflectliteType.typeOf #[.iface 134 v]).run prog w=.ok (.iface 325 (.agg #[.pointer (some ⟨5,134,none⟩)])) w:=by kernel_rfl
theorem q7(v w):(ReflectliteType.typeOf #[.iface 147 v]).run prog w=.ok (.iface 325 (.agg #[.pointer (some ⟨5,147,none⟩)])) w:=by kernel_rfl
theorem tA(w):(ReflectliteType.relation "AssignableTo" ReflectliteType.assignableTo #[.agg #[.pointer (some ⟨5,134,none⟩)],.iface 325 (.agg #[.pointer (some ⟨5,134,none⟩)])]).run prog w=.ok (.bool true) w:=by kernel_rfl
theorem CM(w):(ReflectliteType.relation "AssignableTo" ReflectliteType.assignableTo #[.agg #[.pointer (some ⟨5,147,none⟩)],.iface 325 (.agg #[.pointer (some ⟨5,134,none⟩)])]).run prog w=.ok (.bool false) w:=by kernel_rfl
theorem CN(w):(ReflectliteType.relation "AssignableTo" ReflectliteType.assignableTo #[.agg #[.pointer (some ⟨5,134,none⟩)],.iface 325 (.agg #[.pointer (some ⟨5,147,none⟩)])]).run prog w=.ok (.bool false) w:=by kernel_rfl
theorem CO(w):(ReflectliteType.relation "AssignableTo" ReflectliteType.assignableTo #[.agg #[.pointer (some ⟨5,147,none⟩)],.iface 325 (.agg #[.pointer (some ⟨5,147,none⟩)])]).run prog w=.ok (.bool true) w:=by kernel_rfl
theorem zI(w):(Rtype.elem? 145).run prog w=.ok (some 134) w:=by kernel_rfl
theorem zJ(w):(Rtype.elem? 148).run prog w=.ok (some 147) w:=by kernel_rfl
theorem Oq(p w):(ReflectliteValue.mk 134 p ReflectliteValue.flagAddr).run prog w=.ok (.agg #[.pointer (some ⟨5,134,none⟩),.pointer (some p),.int .u64 386]) w:=by kernel_rfl
theorem Ot(p w):(ReflectliteValue.mk 147 p ReflectliteValue.flagAddr).run prog w=.ok (.agg #[.pointer (some ⟨5,147,none⟩),.pointer (some p),.int .u64 409]) w:=by kernel_rfl
theorem tB(a p W)(ha:W.cell? a=some (.pointer (some p))):
  (ReflectliteValue.method (ReflectliteValue.valueError "reflectlite.Value.Elem" 0) ReflectliteValue.elem #[.agg #[.pointer (some ⟨5,145,none⟩),.pointer (some a),.int .u64 150]]).run prog W
   =.ok (.agg #[.pointer (some ⟨5,134,none⟩),.pointer (some p),.int .u64 386]) W:=by
 refine Eq.trans (congrArg (fun z:Sem ag=>z.run prog W) (show ReflectliteValue.method _ _ _=ReflectliteValue.parts _ >>= _ from rfl)) ?_;simp only [On,om,tw,Result.andThen];simp [ReflectliteValue.elem,loadVar,isAgg,underlying,underlying145,ha,Result.andThen,zI,Oq]
theorem CP(a p W)(ha:W.cell? a=some (.pointer (some p))):
  (ReflectliteValue.method (ReflectliteValue.valueError "reflectlite.Value.Elem" 0) ReflectliteValue.elem #[.agg #[.pointer (some ⟨5,148,none⟩),.pointer (some a),.int .u64 150]]).run prog W
   =.ok (.agg #[.pointer (some ⟨5,147,none⟩),.pointer (some p),.int .u64 409]) W:=by
 refine Eq.trans (congrArg (fun z:Sem ag=>z.run prog W) (show ReflectliteValue.method _ _ _=ReflectliteValue.parts _ >>= _ from rfl)) ?_;simp only [On,om,tz,Result.andThen];simp [ReflectliteValue.elem,loadVar,isAgg,underlying,underlying148,ha,Result.andThen,zJ,Ot]
theorem zK(a w):(ReflectliteValue.parts (.agg #[.pointer (some ⟨5,134,none⟩),.pointer (some a),.int .u64 386])).run prog w=.ok (some (134,a,386)) w:=by kernel_rfl
theorem CQ(a w):(ReflectliteValue.parts (.agg #[.pointer (some ⟨5,134,none⟩),.pointer (some a),.int .u64 130])).run prog w=.ok (some (134,a,130)) w:=by kernel_rfl
theorem zL(a w):(ReflectliteValue.parts (.agg #[.pointer (some ⟨5,147,none⟩),.pointer (some a),.int .u64 409])).run prog w=.ok (some (147,a,409)) w:=by kernel_rfl
theorem CR(a w):(ReflectliteValue.parts (.agg #[.pointer (some ⟨5,147,none⟩),.pointer (some a),.int .u64 153])).run prog w=.ok (some (147,a,153)) w:=by kernel_rfl
theorem zM(w):(Rtype.directlyAssignable 134 134).run prog w=.ok true w:=by kernel_rfl
theorem zN(w):(Rtype.directlyAssignable 147 147).run prog w=.ok true w:=by kernel_rfl
theorem zO(ta b c old W)(C:W.cell? b=some (.int .i64 c))(I:W.cell? ta=some old)(D:W.frozen? ta=false):
  (ReflectliteValue.set #[.agg #[.pointer (some ⟨5,134,none⟩),.pointer (some ta),.int .u64 386],.agg #[.pointer (some ⟨5,134,none⟩),.pointer (some b),.int .u64 130]]).run prog W
   =.ok (.tuple #[]) (W.setCell ta (.int .i64 c)):=by
 refine Eq.trans (congrArg (fun z:Sem ag=>z.run prog W) (show ReflectliteValue.set _=ReflectliteValue.parts _ >>= _ from rfl)) ?_;simp only [Qf,Qg,om,zK,CQ,Result.andThen];simp [ReflectliteValue.flagAddr,loadVar,isAgg,underlying,underlying134,C,Result.andThen,zM,storeVar,Value.cells,storeCells,Addr.add];rw [run_store prog W ta _ _ aS];simp [I,D]
end
section
open Go.Extern.Stop Go.Stop Go.Extern
abbrev tC:=@World.cell?_alloc_lt
abbrev eM(a0:Option Addr)(a1:Option Addr):Obj:=.cells #[.pointer a0,.pointer a1,.int .u64 150] 226
def Ts (A:aF:=by
 rw [tC _ _ ⟨w.heap.size,0,none⟩ (by simp;omega)];simp):aF:=A
def Qh (A:aF:=by
 rw [World.cell?_alloc_at _ _ _ _ (by simp)];rfl):aF:=A
def xE (C:aF:=by
 rw [tC _ _ ⟨0,0,none⟩ an,tC _ _ ⟨0,0,none⟩ hlt];exact hg):aF:=C
def xF (A:aF:=by
 rcases xy w.heap.size with h0|A
 ·simp [World.cell?,h0] at hg
 exact A):aF:=A
theorem Rg(t w):Calls prog 75 #[.nilIface,t] w fun e w'=>e=.returned (.bool false)/\w'=w:=by
 go_enter func75,ntmps75;go_wp2;go_ret;exact ⟨rfl,rfl⟩
theorem as_58(c tb old w)(hg:w.cell? ⟨0,0,none⟩=some (.iface 325 (.agg #[.pointer (some ⟨5,77,none⟩)])))(D:aB w tb #[old] 134):
  Calls prog 75 #[.iface 134 (.int .i64 c),.iface 145 (.pointer (some ⟨tb,0,none⟩))] w fun J w'=>J=.returned (.bool true)/\But tb w w'/\aB w' tb #[.int .i64 c] 134:=by
 have ah:=@run_callFunc_extern prog 119 _ (fun args=>ReflectliteValue.unpack (args.getD 0 (.tuple #[]))) func119 au au au au;have aj:=@run_callFunc_extern prog 120 _ (ReflectliteValue.methodAny (ReflectliteValue.valueError "reflectlite.Value.Type" 0) (fun t _ _ _=>ReflectliteType.toType t)) func120 au au au au;have ak:=@run_callFunc_extern prog 121 _ (ReflectliteValue.method (ReflectliteValue.valueError "reflectlite.Value.IsNil" 0) ReflectliteValue.isNil) func121 au au au au;have ar:=@run_callFunc_extern prog 292 _ (ReflectliteType.abiMethod fun t=>do pure (.int .u8 (<-Rtype.kind t))) func292 au au au au;have am:=@run_callFunc_extern prog 305 _ (ReflectliteType.method ReflectliteType.elem) func305 au au au au;have ap:=@run_callFunc_extern prog 306 _ (ReflectliteType.relation "Implements" ReflectliteType.implements_) func306 au au au au;have aw:=@run_callFunc_extern prog 178 _ ReflectliteType.typeOf func178 au au au au;have al:=@run_callFunc_extern prog 303 _ (ReflectliteType.relation "AssignableTo" ReflectliteType.assignableTo) func303 au au au au;have ax:=@run_callFunc_extern prog 179 _ (ReflectliteValue.method (ReflectliteValue.valueError "reflectlite.Value.Elem" 0) ReflectliteValue.elem) func179 au au au au;have av:=@run_callFunc_extern prog 180 _ ReflectliteValue.set func180 au au au au;have ad:=pg;have ab:=ph;have ac:=pi;have Z:=lC;have f6:=ES;have f7:=vM;have kp:=vO;have Y:=vQ;have Q:=vS;have V:=vU;have ae:=zG ⟨w.heap.size,0,none⟩ ⟨tb,0,none⟩ ((w.alloc (lB (some ⟨tb,0,none⟩))).alloc (eM (some ⟨5,145,none⟩) (some ⟨w.heap.size,0,none⟩))) an;have hlt:0<w.heap.size:=by
  exact xF
 have R:((w.alloc (lB (some ⟨tb,0,none⟩))).alloc (eM (some ⟨5,145,none⟩) (some ⟨w.heap.size,0,none⟩))).cell? ⟨0,0,none⟩=some (.iface 325 (.agg #[.pointer (some ⟨5,77,none⟩)])):=by
  exact xE
 have U:=D.lt;have af:=mJ;have O:=tA;have ag:=EU;have el:=tB ⟨w.heap.size,0,none⟩ ⟨tb,0,none⟩ (((w.alloc (lB (some ⟨tb,0,none⟩))).alloc (eM (some ⟨5,145,none⟩) (some ⟨w.heap.size,0,none⟩))).alloc (eM (some ⟨5,145,none⟩) (some ⟨w.heap.size,0,none⟩))) Ts;have st:=zO ⟨tb,0,none⟩ ⟨w.heap.size+1+1+1,0,none⟩ c old ((((w.alloc (lB (some ⟨tb,0,none⟩))).alloc (eM (some ⟨5,145,none⟩) (some ⟨w.heap.size,0,none⟩))).alloc (eM (some ⟨5,145,none⟩) (some ⟨w.heap.size,0,none⟩))).alloc (.cells #[.int .i64 c] 134))
  Qh
  (((((D.alloc _).alloc _).alloc _).alloc _).cell rfl)
  (((((D.alloc _).alloc _).alloc _).alloc _).fz 0)
 have I:=ai D;clear D;go_enter func75,ntmps75;go_wp2;refine sD 1 ?_;rw [pT];go_wp2;go_ret;exact ⟨rfl,((((((But.refl tb w).alloc _).alloc _).alloc _).alloc _).setCell 0 _),(((((I.u.alloc _).alloc _).alloc _).alloc _).set 0 _)⟩
end
