import Derived.Test.YtlbpnlngckgcbaaGreatDoorM23
import Derived.Test.YtlbpnlngckgcbaaGreatDoorM15
import Derived.Test.YtlbpnlngckgcbaaGreatDoorM22
import Derived.Test.YtlbpnlngckgcbaaGreatDoorM20
set_option linter.all false
set_option maxHeartbeats 4000000
set_option maxRecDepth 100000
namespace Go.Proofs.YtlbpnlngckgcbaaGreatDoor
open Go.RowKit Go.PlainAid Go.Proofs.Tryz
variable {aD bq:Prop} {b k a base g oc n m c B size:Nat} {mp tv v:ag} {w w':af} {ss l O:List ae} {x s:ae} {gs:List Tu} {P:Program} {rest:List Oper} {e:TypeId} {xs:List ag}
abbrev Iw:=@List.eraseIdx_of_length_le
def xe(q:bq) (h:cj bq->aD:=by
 intro zq;refine C1.mono ?_;rintro e w1 ⟨rfl,hb1⟩;have B1:=hb1.alloc hb1.size (.cells #[an T.kind,an T.id,an T.rel,an T.sub,an T.who,an T.of,an s] 264)
 revert w1 hb1 B1
 exact zq.1):aD:=h ⟨q⟩
def Ix(q:bq) (h:cj bq->aD:=by
 intro zq;refine (CP _ B1).mono ?_;rintro e w2 ⟨rfl,hb2⟩;have B2:=B1.trans (hb2.mono B1.size);clear hb2
 revert w2 B2
 exact zq.1):aD:=h ⟨q⟩
def RL(q:bq) (h:cj bq->aD:=by
 intro zq;have hkn:(k:Int)<(ss.length:Int):=by omega
 obtain ⟨g,c,e1,hc⟩:=bn Kj 7 (fun _=>rfl) hd.row k ss[k] (aI hlt)
 revert hkn g c e1 hc
 exact zq.1):aD:=h ⟨q⟩
def EW(ss:List ae)(s:ae):Nat×List ae:=if dM s=false then (2,ss) else if kz ss s<0 then (9,ss) else (0,ss.eraseIdx (kz ss s).toNat)
def Iy(b:Nat)(tv:ag)(k:Nat):Prop:=k=b\/∃n c,tv=aA (some (aP k)) n c
def i6(b:Nat)(mp tv:ag)(w:af)(r:Nat×List ae)(e:Ending)(w':af):Prop:=∃h,e=bi (au r.1)/\DU w' b mp h r.2/\bK (Iy b tv) w w'/\(∀k,Iy b h k->Iy b tv k\/w.heap.size<=k)
def i6.same(h:DU w b mp tv ss)(k:am w w')(c):i6 b mp tv w (c,ss) (bi (au c)) w':=⟨tv,rfl,h.below k,.of_below k,fun _ h=> .inl h⟩
def Tryz.infoDT:(Tryz.prog.info? 264).map (fun i=>(i.zero,i.size,i.bytes))=some (some (.agg #[an ⟨#[]⟩,an ⟨#[]⟩,an ⟨#[]⟩,an ⟨#[]⟩,an ⟨#[]⟩,an ⟨#[]⟩,an ⟨#[]⟩]),7,112):=by kernel_rfl
def V6(h:kz l x=k):k<l.length:=by
 unfold kz at h
 split at h
 ·rename_i i hi;rw [kZ] at hi;obtain ⟨hl,_⟩:=hi;omega
 omega
def Iz(A:k<ss.length)(C:k≠a):(ss.take (k+1)).eraseIdx a=(ss.take k).eraseIdx a++[ss[k]]:=by
 rw [cD A]
 by_cases h:a<k
 ·rw [List.eraseIdx_append_of_lt_length mV]
 rw [Iw aS,Iw mV]
def RN(A:a<ss.length):(ss.take (a+1)).eraseIdx a=(ss.take a).eraseIdx a:=by
 rw [cD A,List.eraseIdx_append_of_length_le mV,Iw (l:=ss.take a) mV];have:a-(ss.take a).length=0:=by rw [eb];omega
 rw [this];simp
def EX(b s w mp tv ss)(h:DU w b mp tv ss)(hs:s.size<=maxLen):
  Calls prog 85 #[bu b,an s] w (i6 b mp tv w (EW ss s)):=by
 have C1:=xd s w hs;rw [P9] at C1;unfold Tu.cells at C1;have CP:=fun w' (k:am w w')=>zO b s w' mp tv ss (h.below k)
 have aX:=h.blk.lt;unfold EW;generalize az:(b7 s).1=T at C1;clear az
 cases ho:dM s
 ·rw [ho] at C1;rw [if_pos rfl];generalize kz ss s=n at*;clear hs ho;go_enter func85,ntmps85;go_wp2_with fail;refine xe ?_;intro w1 hb1 B1;clear hb1 C1;go_wp2_with fail;refine Ix ?_;intro w2 B2;clear CP B1;go_wp2;go_ret;exact i6.same h B2 2
 ·rw [ho] at C1;rw [if_neg ar];clear ho hs
  by_cases hi:kz ss s<0
  ·rw [if_pos hi];generalize kz ss s=n at*;go_enter func85,ntmps85;go_wp2_with fail;refine xe ?_;intro w1 hb1 B1;clear hb1 C1;go_wp2_with fail;refine Ix ?_;intro w2 B2;clear CP B1;go_wp2;go_ret;exact i6.same h B2 9
  rw [if_neg hi];obtain ⟨a,ha⟩:∃a:Nat,kz ss s=a:=⟨(kz ss s).toNat,ai⟩;have aW:=V6 ha;rw [ha,kk];rw [ha] at CP;obtain ⟨ta,tc,rfl⟩:=aw h.row;have a0:=h.most;have aV:¬((a:Int)<0):=ai;clear hi ha;go_enter func85,ntmps85;go_wp2_with fail;refine xe ?_;intro w1 hb1 B1;clear hb1 C1;go_wp2_with fail;refine Ix ?_;intro w2 B2;clear CP B1;go_wp2_with fail
  go_loopw [8,9] (fun aQ Y wr=>∃(k:Nat)(L:List ae),k<=ss.length/\Y=au k/\am w wr/\wr.ownsRow w.heap.size 264 7 aQ L.length (L.flatMap Kj)/\L.length<=k/\Hid (L=(ss.take k).eraseIdx a)) (fun _ Y _=>ss.length-(intOf Y).toNat)
  ·exact ⟨0,[],ai,rfl,B2,bP,ar,aj ar⟩
  obtain ⟨k,L,ad,rfl,D,R,aU,U⟩:=hrel;obtain ⟨ah,ak,rfl⟩:=aw R;have I:=D;have Q:=aj R;have a1:=D.size;have hd:=h.below D;obtain ⟨c0,c1⟩:=gh hd.blk
  by_cases hlt:k<ss.length
  ·refine RL ?_;intro hkn g c e1 hc;simp only [aK,bX] at e1;obtain ⟨rfl,rfl⟩:=e1;have C:=aE U
   by_cases J:k=a
   ·have aJ:((k:Int) != (a:Int))=false:=by rw [J];simp
    have aM:((k:Int)==(a:Int))=true:=by rw [J];simp
    have V:=(by rw [C,J];exact (RN ai).symm:L=(ss.take (k+1)).eraseIdx a);clear D R hd hc C J;go_wp2;go_roundw
    ·exact ⟨k+1,L,ai,by go_num,I,Q.u,ai,V⟩
    simp [intOf];omega
   have aJ:((k:Int) != (a:Int))=true:=by rw [gX];omega
   have aM:((k:Int)==(a:Int))=false:=by rw [bR];omega
   have V:=(by rw [C,Iz hlt J]:L++[ss[k]]=(ss.take (k+1)).eraseIdx a);generalize ss[k]=y at*;have k0:wr.cell? (aC g (k*7))=some (an (b7 y).1.kind):=hc 0 _ ai rfl;refine vS ?_;intro k1 k2 k3 k4 k5;have a2:=hc 6 _ ai rfl;have aB:Kj y=[an (b7 y).1.kind,an (b7 y).1.id,an (b7 y).1.rel,an (b7 y).1.sub,an (b7 y).1.who,an (b7 y).1.of,an y]:=rfl;generalize (b7 y).1=A at*;clear D R hd hc C J;have aY:=I.size;go_wp2_with (at_builtin;go_must (refine eB rfl underlying260 Tryz.infoDT w.heap.size (Q.u.alloc _) wr.heap.size 1 [an A.kind,an A.id,an A.rel,an A.sub,an A.who,an A.of,an y] (wr.heap.size+1) ?hrest))
   case hrest=>
    intro g5 be w5 ag ac aF aZ;have Z:=Q.u.alloc (.cells #[an A.kind,an A.id,an A.rel,an A.sub,an A.who,an A.of,an y] 264);have al:=cA (I.alloc I.size (.cells #[an A.kind,an A.id,an A.rel,an A.sub,an A.who,an A.of,an y] 264)) ac (by have:=I.size;simp;omega) (fun k ad=>(Z.lt k ad).1);have av:=(show w5.ownsRow w.heap.size 264 7 (aA (some (aP g5)) (L.length+1) be) (L++[y]).length ((L++[y]).flatMap Kj) from by
     rw [show (L++[y]).length=L.length+1 by simp,cN,List.flatMap_singleton,aB];exact ag)
    clear Z ag ac aF;go_wp2;go_roundw
    ·exact ⟨k+1,L++[y],ai,by go_num,al,(by have:=av;rw [show (L++[y]).length=L.length+1 by simp] at this ⊢;exact this),aS,V⟩
    simp [intOf];omega
  have hkn:¬((k:Int)<(ss.length:Int)):=ai;have C:L=ss.eraseIdx a:=by
   have:=aE U;rw [cX ai] at this;exact this
  have ab:=hd.blk;have aT:=hd.blk.fz;have ap:=aj C;clear D R hd U C;go_wp2;go_ret;have C:=ap.u;have ax:Iy b (aA ta ss.length tc) b:=.inl rfl;have af:∀g n c,Value.slice ah L.length ak=aA (some (aP g)) n c->w.heap.size<=g:=fun g n c e=>by
   have aN:=Q.u;simp only [aK] at e;obtain ⟨rfl,_,_⟩:=e;obtain ⟨aR,D,aG⟩:=dG aN;exact aG
  refine ⟨aA ah L.length ak,rfl,⟨ab.set 1 _,?_,?_,by show (ss.eraseIdx a).length<=1000;rw [<-C];omega⟩,(bK.of_below I).set ax _,?_⟩
  ·show World.ownsRow _ 0 264 7 _ (ss.eraseIdx a).length ((ss.eraseIdx a).flatMap Kj)
   rw [<-C];refine ay (fx Q.u) (fun g' cs f _ aH=>ea _ _ _ _ (fun (e':g'=b)=> ?_));subst e';have:=ab;unfold aL at this;rw [aH] at this;simp at this
  ·intro g n c e e';have:=af g n c e;omega
  rintro aO (rfl|⟨n,c,e⟩)
  ·exact .inl (.inl rfl)
  exact .inr (af aO n c e)
def uy(s:ae):Tu:=(b7 s).1
structure sW(gs:List Tu)(ss:List ae):Prop where
 eq:gs=ss.map uy
 ok:∀y∈ss,dM y=true
def KA{y}(h:dM s=true)(k:dM y=true)(e:uy s=uy y):s=y:=by
 rw [<-xh h,<-xh k];have e':(b7 s).1=(b7 y).1:=e;rw [e']
def Ad{s:ae}(hs:dM s=true):∀ss:List ae,(∀y∈ss,dM y=true)->(ss.map uy).findIdx? (oZ (uy s))=ss.findIdx? (fun y=>eqs y s)
 | [],_=>rfl
 |y::ss,h=>by
  rw [bY,List.findIdx?_cons,List.findIdx?_cons,Ad hs ss (fun y A=>h y (by simp [A]))];have e:oZ (uy s) (uy y)=eqs y s:=by
   rw [gW,DJ,bz];exact ⟨fun e=>(KA hs (h y ar) e).symm,fun e=>by rw [e]⟩
  rw [e]
def EY(h:sW gs ss)(hs:dM s=true):ld gs (b7 s).1=kz ss s:=by
 rw [h.eq];unfold ld kz;rw [show (b7 s).1=uy s from rfl,Ad hs ss h.ok]
 cases ss.findIdx? (fun y=>eqs y s)<;>rfl
def RY(h:sW gs ss)(s):(BH gs s).1=(EW ss s).1/\sW (BH gs s).2 (EW ss s).2:=by
 unfold BH EW
 by_cases h1:dM s=false
 ·rw [if_pos h1,if_pos h1];exact ⟨rfl,h⟩
 rw [if_neg h1,if_neg h1,EY h (by simpa using h1)]
 by_cases h2:kz ss s<0
 ·rw [if_pos h2,if_pos h2];exact ⟨rfl,h⟩
 rw [if_neg h2,if_neg h2];refine ⟨rfl,?_,fun y A=>h.ok y (List.mem_of_mem_eraseIdx A)⟩;rw [h.eq,Bp,Bp,cK,List.map_take,List.map_drop]
abbrev IG:=@List.takeWhile_append_dropWhile
abbrev ll:=@Below.trans
def Sf (h:aD:=by
 exact Src.ofSlice w underlying22 _ _ _ _ ar (fun j u A=>by simp at A) (fun u C=>by simp at C)):aD:=h
def Sg (h:aD:=by
 simp only [aK,aR,cg] at e1;obtain ⟨⟨rfl,_⟩,_⟩:=e1;exact h'):aD:=h
def Si (h:aD:=by
 rcases h.2 with ⟨_,h⟩|⟨g,cap,A,e1,_⟩
 ·exact h
 simp at e1):aD:=h
def Sk (h:aD:=by
 exact ⟨fun h=>ai,fun _=>⟨rfl,Src.ofNil w underlying22 _⟩⟩):aD:=h
def IH (h:aD:=by
 exact ⟨0,ai,rfl,az _ _,bP⟩):aD:=h
def E6(a b:ae):Bool:=Op.bytesLess a.toList b.toList
def lm(l:List ae)(x:ae):List ae:=l.takeWhile (E6 · x)++x::l.dropWhile (E6 · x)
def jq(l:List ae):List ae:=l.foldl lm []
def dO(l:List ae):List ag:=l.map .string
def Sl(l:List ae)(x:ae):(lm l x).length=l.length+1:=by
 have:=congrArg List.length (IG (p:=(E6 · x)) (l:=l));rw [bf] at this;unfold lm;rw [bf,iO];omega
def yO(l:List ae):∀a,(l.foldl lm a).length=a.length+l.length:=by
 induction l with
 |nil=>intro a;rfl
 |cons x l ih=>intro a;rw [List.foldl_cons,ih,Sl,iO];omega
def oO(l:List ae):(jq l).length=l.length:=by rw [jq,yO];simp
def II(h:k<l.length):jq (l.take (k+1))=lm (jq (l.take k)) l[k]:=by
 rw [cD h,jq,List.foldl_append];rfl
def KF(ha:a<=O.length)(h1:∀j,(h:j<a)->(A:j<O.length)->E6 O[j] x=true)(h2:(h:a<O.length)->E6 O[a] x=false):lm O x=O.take a++x::O.drop a:=by
 unfold lm;rw [fR,fS,(fB (E6 · x) O a h1 ha h2)]
def qp(P:Program)(size:Nat)(t:TypeId)(C:ag)(m:Nat)(h:List ag)(w:af):Prop:=(0<m->∃A c,C=aA (some A) m c/\h.length=m*size/\∀j u,h[j]? =some u->w.cell? (A.add j)=some u)/\(m=0->h=[]/\Src P size t C 0 [] w)
def kH{ab:Array Oper}{o:Oper}{a:Act}{Q:Exit->Act->af->Prop}(R:o.guard=none)(s x:Operand)(t:TypeId)
  (ho:o.op=.call {callee:=.builtin .append,args:=#[s,x],argTypes:=#[t,t]})
  (base:Nat) (e:TypeId) (i:TypeInfo) (z:ag) (size bytes:Nat) (Z:P.underlying t=some (.slice e)) (hi:P.info? e=some i) (am:i.zero=some z)
  (Y:i.size=size) (ai:i.bytes=bytes) (an:z.cells.size=size) (al:0<size)
  (v:ag) (n:Nat) (I:List ag) (hs:a.eval s=v) (C:w.ownsRow base e size v n I)
  (J:ag) (m:Nat) (D:List ag) (hx:a.eval x=J) (V:qp P size t J m D w) (h1:∀u∈D,u.oneCell'=true)
  (ae:n+m<=maxLen) (aj:(n+m)*bytes<=140737488355328) (hbase:base<=w.heap.size)
  (h:∀A cv w',w'.ownsRow base e size (.slice A (n+m) cv) (n+m) (I++D)->w.grownBy w' v.ownBlock->wpList P ab Q rest (a.put o.dst (.slice A (n+m) cv)) w'):wpList P ab Q (o::rest) a w:=by
 by_cases U:0<m
 ·obtain ⟨ac,c,rfl,hl,hn⟩:=V.1 U;exact l9 w R s x t ho base e i z size bytes Z hi am Y ai an al v n I hs C ac m c D hx hl hn h1 U ae aj hbase _ rfl (fun g5 cap w' h2 ad ap ar=>h _ cap w' h2 ad)
 ·obtain rfl:m=0:=by omega
  obtain ⟨rfl,ak⟩:=V.2 rfl;obtain ⟨A,cv,rfl⟩:=aw C;refine wpList_plain R fun K ah=> ?_
  have hrun:=run_append_nothing (P:=P) w t t o.type e i Z hi A n cv (uK C) J (by rw [Y];exact ak);refine QM ?_;exact ah _ _ (h A cv w (by simpa using C) ⟨rfl,rfl,rfl,bV _,fun _ _ _=>rfl⟩)
def MR(h:w.ownsRow base 9 1 (aA (some (aP g)) k oc) k (dO O))(ha:a<=k):qp prog 1 22 (aA (some (aP g)) a oc) a (dO (O.take a)) w:=by
 have U:O.length=k:=by have:=h.1;simpa [dO] using this
 refine ⟨fun I=>⟨⟨g,0,none⟩,oc,rfl,by simp [dO];omega,fun j u D=> ?_⟩,fun I=>⟨by subst I;rfl,?_⟩⟩
 ·have Q:(dO O)[j]? =some u:=by
   simp only [dO,List.map_take,vU] at D
   split at D
   ·exact D
   simp at D
  obtain ⟨g',R,e1,J⟩:=aY h j u Q;simp only [aK,aR,cg] at e1;obtain ⟨⟨rfl,_⟩,_⟩:=e1;rw [Addr.add_lit,pZ];exact J
 subst I;exact Sf
def MS{D:Option Addr}(h:w.ownsRow base 9 1 (aA (some (aP g)) k oc) k (dO O))(ha:a<=k)(Q:D=if oc=a then some (aP g) else some (aC g a)):qp prog 1 22 (aA D (k-a) (oc-a)) (k-a) (dO (O.drop a)) w:=by
 have ab:O.length=k:=by have:=h.1;simpa [dO] using this
 have Z:=uK h;refine ⟨fun J=>⟨⟨g,a,none⟩,oc-a,?_,by simp [dO];omega,fun j u U=> ?_⟩,fun J=>⟨?_,?_⟩⟩
 ·rw [Q,if_neg ai]
 ·have V:(dO O)[a+j]? =some u:=by
   simpa only [dO,List.map_drop,rV] using U
  obtain ⟨g',Y,e1,R⟩:=aY h (a+j) u V;simp only [aK,aR,cg] at e1;obtain ⟨⟨rfl,_⟩,_⟩:=e1;rw [Addr.add_lit];exact R
 ·rw [eC ai];rfl
 rw [J];obtain ⟨I,rfl⟩:∃I,D=some I:=by
  rw [Q]
  split
  ·exact ⟨_,rfl⟩
  exact ⟨_,rfl⟩
 exact Sf
def cellAt(h:w.ownsRow base 9 1 (aA (some (aP g)) n c) m (dO l))(A:(dO l)[k]? =some (an x)):w.cell? (aC g k)=some (an x):=by
 obtain ⟨g',C,e1,h'⟩:=aY h k (an x) A;exact Sg
def Cu{A:Nat}(h:w.ownsRow A e size v n xs)(D:B<=A):w.ownsRow B e size v n xs:=by
 rcases h with ⟨h0,h|⟨g,cap,C,e1,I,h⟩⟩
 ·exact ⟨h0,.inl h⟩
 exact ⟨h0,.inr ⟨g,cap,C,e1,aV D I,h⟩⟩
def IJ(h:w.ownsRow base 9 1 (aA none k oc) k (dO O))(ha:a<=k):qp prog 1 22 (aA none a oc) a (dO (O.take a)) w:=by
 obtain rfl:k=0:=by
  exact Si
 obtain rfl:a=0:=ai;exact Sk
def IK(h:w.ownsRow base 9 1 (aA none k oc) k (dO O))(ha:a<=k):qp prog 1 22 (aA none (k-a) (oc-a)) (k-a) (dO (O.drop a)) w:=by
 obtain rfl:k=0:=by
  exact Si
 obtain rfl:a=0:=ai;have C:O=[]:=by have:=h.1;simpa [dO] using this
 subst C;exact Sk
def Ze{A:Addr}(h:w.ownsRow base 9 1 (aA (some A) k oc) n xs):∃g,A=⟨g,0,none⟩:=by
 rcases h.2 with ⟨e,h⟩|⟨g,cap,C,e1,_⟩
 ·simp at e
 simp only [aK,aR] at e1;exact ⟨g,e1.1⟩
def Ends(k oc a:Nat)(O:List ae)(x y:Option Addr):Prop:=∀(W:af)(base:Nat),W.ownsRow base 9 1 (aA x k oc) k (dO O)->qp prog 1 22 (aA x a oc) a (dO (O.take a)) W/\qp prog 1 22 (aA y (k-a) (oc-a)) (k-a) (dO (O.drop a)) W
def MU{x:Option Addr}(h:w.ownsRow base 9 1 (aA x k oc) k (dO O))(ha:a<=k):(x=none/\Ends k oc a O none none)\/∃g A,x=some (aP g)/\(if oc=a then some (⟨g,0,none⟩:Addr) else some (aC g a))=some A/\Ends k oc a O (some (aP g)) (some A):=by
 cases x with
 |none=>exact .inl ⟨rfl,fun W B k=>⟨IJ k ha,IK k ha⟩⟩
 |some ad=>
  obtain ⟨g,rfl⟩:=Ze h;obtain ⟨A,C⟩:∃A:Addr,(if oc=a then some (⟨g,0,none⟩:Addr) else some (aC g a))=some A:=by split<;>exact ⟨_,rfl⟩
  exact .inr ⟨g,A,rfl,C,fun W B k=>⟨MR k ha,MS k ha C.symm⟩⟩
def KG(l:List ae):∀u∈dO l,u.oneCell'=true:=by
 intro u h;simp only [dO,aU] at h;obtain ⟨x,_,rfl⟩:=h
 rfl
def Tryz.infoStr:(Tryz.prog.info? 9).map (fun i=>(i.zero,i.size,i.bytes))=some (some (an ⟨#[]⟩),1,16):=by kernel_rfl
def xn(base:Nat)(v:ag)(l:List ae)(w:af)(h:w.ownsRow base 9 1 v l.length (dO l))(bt:l.length<=100000):
  Calls prog 139 #[v] w fun e w'=>∃v',e=bi v'/\am w w'/\w'.ownsRow w.heap.size 9 1 v' l.length (dO (jq l)):=by
 obtain ⟨bx,bz,rfl⟩:=aw h;obtain ⟨i0,aE,aO,aQ,aT⟩:=eN Tryz.infoStr;go_enter func139,ntmps139;go_wp2_with fail
 go_loopw [3,4] (fun bg ak wr=>∃k:Nat,k<=l.length/\ak=au k/\am w wr/\wr.ownsRow w.heap.size 9 1 bg k (dO (jq (l.take k)))) (fun _ ak _=>l.length-(intOf ak).toNat)
 ·exact IH
 ·obtain ⟨k,Q,rfl,D,aj⟩:=hrel;obtain ⟨bc,oc,rfl⟩:=aw aj;obtain ⟨W0,rfl⟩:∃W0,W0=wr:=⟨_,rfl⟩;have bv:=D.size
  by_cases aG:k<l.length
  ·have a8:(k:Int)<(l.length:Int):=by omega
   have bb:=II aG;have a5:(jq (l.take k)).length=k:=by rw [oO,eb];omega
   have ad:(dO l)[k]? =some (an l[k]):=by simp [dO,aG]
   obtain ⟨g,c,e1,hc⟩:=aY (aB h D) k (an l[k]) ad;simp only [aK,bX] at e1;obtain ⟨rfl,rfl⟩:=e1;generalize l[k]=x at*;generalize jq (l.take k)=O at*;clear hc;go_wp2_with fail
   go_loopw [5] (fun al wt=>∃a:Nat,a<=k/\al=au a/\am W0 wt/\(∀j,(h:j<a)->(h':j<O.length)->E6 O[j] x=true)) (fun al _=>k-(intOf al).toNat)
   ·exact ⟨0,ai,rfl,az _ _,(fun j h=>ai)⟩
   obtain ⟨a,ha,rfl,Y,J⟩:=hrel;have I:=aB aj Y;have a6:wr.cell? (aC g k)=some (an x):=by
    obtain ⟨g',bl,e1,h'⟩:=aY (aB (aB h D) Y) k (an x) ad;exact Sg
   have bs:k<=100000:=ai
   go_upto_region 6 with fail
   go_cut [27] (fun s' bj=>∃c:Bool,s'=.bool c/\bj=wr.drew/\(cond c (a<k/\∀j,(h:j<a+1)->(h':j<O.length)->E6 O[j] x=true) (lm O x=O.take a++x::O.drop a)))
   ·by_cases ah:a<k
    ·have a9:(a:Int)<(k:Int):=by omega
     obtain ⟨a3,c2,e1,bp⟩:=aY I a (an (O[a]'ai)) (by simp [dO,a5,ah]);simp only [aK,bX] at e1;obtain ⟨rfl,rfl⟩:=e1;have C:=(show cond (E6 (O[a]'ai) x) (a<k/\∀j,(h:j<a+1)->(h':j<O.length)->E6 O[j] x=true) (lm O x=O.take a++x::O.drop a) from by
      cases aM:E6 (O[a]'ai) x
      ·exact KF ai J (fun h=>aM)
      refine ⟨ah,fun j h h'=> ?_⟩
      by_cases e:j=a
      ·subst e;exact aM
      exact J j ai h')
     generalize (O[a]'ai)=y at*;unfold E6 at C;clear I J
     go_region
     go_wp2
     go_meet
     exact ⟨_,rfl,rfl,C⟩
    have a9:¬((a:Int)<(k:Int)):=ai;have C:=KF (x:=x) (show a<=O.length by omega) J (fun h=>absurd h ai);clear I J
    go_region
    go_wp2
    go_meet
    exact ⟨false,rfl,rfl,C⟩
   obtain ⟨c,rfl,rfl,C⟩:=hcut;clear J
   cases c with
   |true=>
    have ah:=C.1;clear I;go_wp2_with fail;exact ⟨⟨a+1,ai,by go_num,Y.drew,C.2⟩,by simp [intOf];omega⟩
   |false=>
    have aV:=(show lm O x=O.take a++x::O.drop a from C);have bf:a<=k:=ha;clear C
    rcases MU I bf with ⟨rfl,ab⟩|⟨a3,A,rfl,bo,ab⟩
    all_goals
     have br:k<=oc:=uK I;have bw:a<=oc:=ai;have V:=Y.drew;have ac:=cP I;have ap:=(ab _ _ ac).1;clear I;generalize wr.drew=U at*;go_wp2_with (at_builtin;go_must (refine kH rfl _ _ 22 rfl U.heap.size 9 i0 _ 1 16 underlying22 aE aO aQ aT rfl ax (aA none 0 0) 0 [] rfl (bP) _ a (dO (O.take a)) rfl ap (KG _) ?_ ?_ aH ?_))
     ·unfold maxLen;omega
     ·omega
     ·intro bk bn w1 aI ar;have R:=cA (az U.heap.size U) ar aH (fun k Q=>by simp [Value.ownBlock] at Q);have ba:=aB ac R;have a7:=cellAt (aB (aB (aB h D) V) R) ad;have bu:=R.size;clear ba ar a6 ap;go_wp2_with (at_builtin;go_must (refine eB rfl underlying22 Tryz.infoStr U.heap.size (aI.alloc _) w1.heap.size 1 [an x] (w1.heap.size+1) ?_))
      ·intro a4 a1 bA aJ av _ _;have Z:=cA (R.alloc R.size (dv x)) av aS (fun k Q=>((aI.alloc (dv x)).lt k Q).1);have aW:=(ab _ _ (aB ac Z)).2;have aN:=Z.size;clear av a7;go_wp2_with (at_builtin;go_must (refine kH rfl _ _ 22 rfl U.heap.size 9 i0 _ 1 16 underlying22 aE aO aQ aT rfl ax (aA (some (aP a4)) (a+1) a1) (a+1) (dO (O.take a)++[an x]) rfl aJ _ (k-a) (dO (O.drop a)) rfl aW (KG _) ?_ ?_ aN ?_))
       ·unfold maxLen;omega
       ·omega
       intro aZ a2 bh aL ay;have aX:=(show bh.ownsRow w.heap.size 9 1 (aA aZ (a+1+(k-a)) a2) (k+1) (dO (lm O x)) from by
        have e:dO (lm O x)=dO (O.take a)++an x::dO (O.drop a):=by rw [aV];simp [dO]
        rw [e,show k+1=a+1+(k-a) by omega];exact Cu aL (by have:=D.size;have:=V.size;omega))
       have aU:=D.trans ((ll V ((cA Z ay aN (fun k Q=>(aJ.lt k Q).1)).mono V.size)).mono D.size);clear aL ay;go_wp2;go_roundw
       ·exact ⟨k+1,ai,by go_num,aU,by rw [bb];exact aX⟩
       simp [intOf];omega
  have a8:¬((k:Int)<(l.length:Int)):=ai;have aF:k=l.length:=ai;have C:=(show W0.ownsRow w.heap.size 9 1 (aA bc k oc) l.length (dO (jq l)) from by
   have:=aj;rw [cX ai] at this;rw [<-aF];exact this)
  clear aF;go_wp2;go_ret;exact ⟨_,rfl,D,C⟩
def Sm(l:List ae)(w:af)(e:Ending)(w':af):Prop:=∃v,e=bi v/\am w w'/\w'.ownsRow w.heap.size 9 1 v l.length (dO l)
def E7(b:Nat)(w:af)(av tv:ag)(ss:List ae)(h:DU w b av tv ss):
  Calls prog 87 #[bu b] w (Sm (jq ss) w):=by
 obtain ⟨ta,tc,rfl⟩:=aw h.row;have aB:=h.most;go_enter func87,ntmps87;go_wp2_with fail
 go_loopw [3,4] (fun ax I wr=>∃k:Nat,k<=ss.length/\I=au k/\am w wr/\wr.ownsRow w.heap.size 9 1 ax k (dO (ss.take k))) (fun _ I _=>ss.length-(intOf I).toNat)
 ·exact IH
 ·obtain ⟨k,V,rfl,A,D⟩:=hrel;obtain ⟨ap,ar,rfl⟩:=aw D;have ab:=A.size;have hd:=h.below A;obtain ⟨c0,c1⟩:=gh hd.blk
  by_cases hlt:k<ss.length
  ·refine RL ?_;intro hkn g c e1 hc;simp only [aK,bX] at e1;obtain ⟨rfl,rfl⟩:=e1;have ah:=(by rw [cD hlt,dO,cK];rfl:dO (ss.take (k+1))=dO (ss.take k)++[an ss[k]]);generalize ss[k]=y at*;have aC:=hc 6 _ ai rfl;clear hd hc;go_wp2_with (at_builtin;go_must (refine eB rfl underlying22 Tryz.infoStr w.heap.size (D.alloc _) wr.heap.size 1 [an y] (wr.heap.size+1) ?hrest))
   case hrest=>
    intro g5 be w5 al U ak ay;have J:=D.alloc (dv y);have ac:=cA (A.alloc A.size (dv y)) U aS (fun k V=>(J.lt k V).1);clear J U ak;go_wp2;go_roundw
    ·exact ⟨k+1,ai,by go_num,ac,by rw [ah];exact al⟩
    simp [intOf];omega
  have hkn:¬((k:Int)<(ss.length:Int)):=ai;have Q:(ss.take k)=ss:=cX ai;rw [Q] at D;have Y:k=ss.length:=ai;have C:=xn w.heap.size (aA ap k ar) ss wr (by rw [<-Y];exact D) ai;clear hd Q Y;go_wp2_with fail;refine C.mono ?_;rintro e aF ⟨aE,rfl,R,Z⟩;have ad:=A.trans (R.mono ab);have aj:=Cu Z ab;clear R Z C;go_wp2;go_ret;exact ⟨_,rfl,ad,by rw [oO];exact aj⟩
