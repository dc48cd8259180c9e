import Derived.Test.YtlbpnlngckgcbaaGreatDoorM23
import Derived.Test.YtlbpnlngckgcbaaGreatDoorM15
import Derived.Test.YtlbpnlngckgcbaaGreatDoorM22
import Derived.Test.YtlbpnlngckgcbaaGreatDoorM20
set_option linter.all false
set_option maxHeartbeats 4000000
set_option maxRecDepth 100000
namespace Go.Proofs.YtlbpnlngckgcbaaGreatDoor
open Go.RowKit Go.PlainAid Go.Proofs.Tryz
variable {aD br:Prop} {b k a base g oc n m c B size:Nat} {mp tv v:ag} {w w':af} {ss l O:List ae} {x s:ae} {gs:List Tu} {P:Program} {rest:List Oper} {e:TypeId} {xs:List ag}
abbrev HV:=@List.eraseIdx_of_length_le
def wC(q:br) (h:cj br->aD:=by
 intro zq;refine C1.mono ?_;rintro e w1 ⟨rfl,hb1⟩;have B1:=hb1.alloc hb1.size (.cells #[aj T.kind,aj T.id,aj T.rel,aj T.sub,aj T.who,aj T.of,aj s] 264)
 revert w1 hb1 B1
 exact zq.1):aD:=h ⟨q⟩
def HW(q:br) (h:cj br->aD:=by
 intro zq;refine (CP _ B1).mono ?_;rintro e w2 ⟨rfl,hb2⟩;have B2:=B1.trans (hb2.mono B1.size);clear hb2
 revert w2 B2
 exact zq.1):aD:=h ⟨q⟩
def Rh(q:br) (h:cj br->aD:=by
 intro zq;have hkn:(k:Int)<(ss.length:Int):=by omega
 obtain ⟨g,c,e1,hc⟩:=bo JN 7 (fun _=>rfl) hd.row k ss[k] (aI hlt)
 revert hkn g c e1 hc
 exact zq.1):aD:=h ⟨q⟩
def Er(ss:List ae)(s:ae):Nat×List ae:=if dK s=false then (2,ss) else if ku ss s<0 then (9,ss) else (0,ss.eraseIdx (ku ss s).toNat)
def HY(b:Nat)(tv:ag)(k:Nat):Prop:=k=b\/∃n c,tv=aw (some (aN k)) n c
def iX(b:Nat)(mp tv:ag)(w:af)(r:Nat×List ae)(e:Ending)(w':af):Prop:=∃h,e=bj (ar r.1)/\DU w' b mp h r.2/\bK (HY b tv) w w'/\(∀k,HY b h k->HY b tv k\/w.heap.size<=k)
def iX.same(h:DU w b mp tv ss)(k:an w w')(c):iX b mp tv w (c,ss) (bj (ar c)) w':=⟨tv,rfl,h.below k,.of_below k,fun _ h=> .inl h⟩
def Tryz.infoDT:(Tryz.prog.info? 264).map (fun i=>(i.zero,i.size,i.bytes))=some (some (.agg #[aj ⟨#[]⟩,aj ⟨#[]⟩,aj ⟨#[]⟩,aj ⟨#[]⟩,aj ⟨#[]⟩,aj ⟨#[]⟩,aj ⟨#[]⟩]),7,112):=by kernel_rfl
def VE(h:ku l x=k):k<l.length:=by
 unfold ku at h
 split at h
 ·rename_i i hi;rw [kV] at hi;obtain ⟨hl,_⟩:=hi;omega
 omega
def HZ(A:k<ss.length)(C:k≠a):(ss.take (k+1)).eraseIdx a=(ss.take k).eraseIdx a++[ss[k]]:=by
 rw [cD A]
 by_cases h:a<k
 ·rw [List.eraseIdx_append_of_lt_length mM]
 rw [HV aS,HV mM]
def Ri(A:a<ss.length):(ss.take (a+1)).eraseIdx a=(ss.take a).eraseIdx a:=by
 rw [cD A,List.eraseIdx_append_of_length_le mM,HV (l:=ss.take a) mM];have:a-(ss.take a).length=0:=by rw [dZ];omega
 rw [this];simp
def Es(b s w mp tv ss)(h:DU w b mp tv ss)(hs:s.size<=maxLen):
  Calls prog 85 #[bc b,aj s] w (iX b mp tv w (Er ss s)):=by
 have C1:=wB s w hs;rw [Pz] at C1;unfold Tu.cells at C1;have CP:=fun w' (k:an w w')=>zc b s w' mp tv ss (h.below k)
 have aX:=h.blk.lt;unfold Er;generalize aA:(b8 s).1=T at C1;clear aA
 cases ho:dK s
 ·rw [ho] at C1;rw [if_pos rfl];generalize ku ss s=n at*;clear hs ho;go_enter func85,ntmps85;go_wp2_with fail;refine wC ?_;intro w1 hb1 B1;clear hb1 C1;go_wp2_with fail;refine HW ?_;intro w2 B2;clear CP B1;go_wp2;go_ret;exact iX.same h B2 2
 ·rw [ho] at C1;rw [if_neg au];clear ho hs
  by_cases hi:ku ss s<0
  ·rw [if_pos hi];generalize ku ss s=n at*;go_enter func85,ntmps85;go_wp2_with fail;refine wC ?_;intro w1 hb1 B1;clear hb1 C1;go_wp2_with fail;refine HW ?_;intro w2 B2;clear CP B1;go_wp2;go_ret;exact iX.same h B2 9
  rw [if_neg hi];obtain ⟨a,ha⟩:∃a:Nat,ku ss s=a:=⟨(ku ss s).toNat,ai⟩;have aW:=VE ha;rw [ha,kh];rw [ha] at CP;obtain ⟨ta,tc,rfl⟩:=ax h.row;have a0:=h.most;have aV:¬((a:Int)<0):=ai;clear hi ha;go_enter func85,ntmps85;go_wp2_with fail;refine wC ?_;intro w1 hb1 B1;clear hb1 C1;go_wp2_with fail;refine HW ?_;intro w2 B2;clear CP B1;go_wp2_with fail
  go_loopw [8,9] (fun aQ Y wr=>∃(k:Nat)(L:List ae),k<=ss.length/\Y=ar k/\an w wr/\wr.ownsRow w.heap.size 264 7 aQ L.length (L.flatMap JN)/\L.length<=k/\Hid (L=(ss.take k).eraseIdx a)) (fun _ Y _=>ss.length-(intOf Y).toNat)
  ·exact ⟨0,[],ai,rfl,B2,bQ,au,ak au⟩
  obtain ⟨k,L,ad,rfl,D,R,aU,U⟩:=hrel;obtain ⟨ah,al,rfl⟩:=ax R;have I:=D;have Q:=ak R;have a1:=D.size;have hd:=h.below D;obtain ⟨c0,c1⟩:=fZ hd.blk
  by_cases hlt:k<ss.length
  ·refine Rh ?_;intro hkn g c e1 hc;simp only [aK,bY] at e1;obtain ⟨rfl,rfl⟩:=e1;have C:=aE U
   by_cases J:k=a
   ·have aJ:((k:Int) != (a:Int))=false:=by rw [J];simp
    have aM:((k:Int)==(a:Int))=true:=by rw [J];simp
    have V:=(by rw [C,J];exact (Ri ai).symm:L=(ss.take (k+1)).eraseIdx a);clear D R hd hc C J;go_wp2;go_roundw
    ·exact ⟨k+1,L,ai,by go_num,I,Q.u,ai,V⟩
    simp [intOf];omega
   have aJ:((k:Int) != (a:Int))=true:=by rw [gV];omega
   have aM:((k:Int)==(a:Int))=false:=by rw [bW];omega
   have V:=(by rw [C,HZ hlt J]:L++[ss[k]]=(ss.take (k+1)).eraseIdx a);generalize ss[k]=y at*;have k0:wr.cell? (aC g (k*7))=some (aj (b8 y).1.kind):=hc 0 _ ai rfl;refine vq ?_;intro k1 k2 k3 k4 k5;have a2:=hc 6 _ ai rfl;have aB:JN y=[aj (b8 y).1.kind,aj (b8 y).1.id,aj (b8 y).1.rel,aj (b8 y).1.sub,aj (b8 y).1.who,aj (b8 y).1.of,aj y]:=rfl;generalize (b8 y).1=A at*;clear D R hd hc C J;have aY:=I.size;go_wp2_with (at_builtin;go_must (refine ez rfl underlying260 Tryz.infoDT w.heap.size (Q.u.alloc _) wr.heap.size 1 [aj A.kind,aj A.id,aj A.rel,aj A.sub,aj A.who,aj A.of,aj y] (wr.heap.size+1) ?hrest))
   case hrest=>
    intro g5 bf w5 ag ac aF aZ;have Z:=Q.u.alloc (.cells #[aj A.kind,aj A.id,aj A.rel,aj A.sub,aj A.who,aj A.of,aj y] 264);have am:=cA (I.alloc I.size (.cells #[aj A.kind,aj A.id,aj A.rel,aj A.sub,aj A.who,aj A.of,aj y] 264)) ac (by have:=I.size;simp;omega) (fun k ad=>(Z.lt k ad).1);have av:=(show w5.ownsRow w.heap.size 264 7 (aw (some (aN g5)) (L.length+1) bf) (L++[y]).length ((L++[y]).flatMap JN) from by
     rw [show (L++[y]).length=L.length+1 by simp,cN,List.flatMap_singleton,aB];exact ag)
    clear Z ag ac aF;go_wp2;go_roundw
    ·exact ⟨k+1,L++[y],ai,by go_num,am,(by have:=av;rw [show (L++[y]).length=L.length+1 by simp] at this ⊢;exact this),aS,V⟩
    simp [intOf];omega
  have hkn:¬((k:Int)<(ss.length:Int)):=ai;have C:L=ss.eraseIdx a:=by
   have:=aE U;rw [cY ai] at this;exact this
  have ab:=hd.blk;have aT:=hd.blk.fz;have ap:=ak C;clear D R hd U C;go_wp2;go_ret;have C:=ap.u;have ay:HY b (aw ta ss.length tc) b:=.inl rfl;have af:∀g n c,Value.slice ah L.length al=aw (some (aN g)) n c->w.heap.size<=g:=fun g n c e=>by
   have aO:=Q.u;simp only [aK] at e;obtain ⟨rfl,_,_⟩:=e;obtain ⟨aR,D,aG⟩:=dF aO;exact aG
  refine ⟨aw ah L.length al,rfl,⟨ab.set 1 _,?_,?_,by show (ss.eraseIdx a).length<=1000;rw [<-C];omega⟩,(bK.of_below I).set ay _,?_⟩
  ·show World.ownsRow _ 0 264 7 _ (ss.eraseIdx a).length ((ss.eraseIdx a).flatMap JN)
   rw [<-C];refine az (fy Q.u) (fun g' cs f _ aH=>dY _ _ _ _ (fun (e':g'=b)=> ?_));subst e';have:=ab;unfold aL at this;rw [aH] at this;simp at this
  ·intro g n c e e';have:=af g n c e;omega
  rintro aP (rfl|⟨n,c,e⟩)
  ·exact .inl (.inl rfl)
  exact .inr (af aP n c e)
def tR(s:ae):Tu:=(b8 s).1
structure sy(gs:List Tu)(ss:List ae):Prop where
 eq:gs=ss.map tR
 ok:∀y∈ss,dK y=true
def J3{y}(h:dK s=true)(k:dK y=true)(e:tR s=tR y):s=y:=by
 rw [<-wF h,<-wF k];have e':(b8 s).1=(b8 y).1:=e;rw [e']
def zC{s:ae}(hs:dK s=true):∀ss:List ae,(∀y∈ss,dK y=true)->(ss.map tR).findIdx? (oL (tR s))=ss.findIdx? (fun y=>eqs y s)
 | [],_=>rfl
 |y::ss,h=>by
  rw [bZ,List.findIdx?_cons,List.findIdx?_cons,zC hs ss (fun y A=>h y (by simp [A]))];have e:oL (tR s) (tR y)=eqs y s:=by
   rw [gU,Df,bz];exact ⟨fun e=>(J3 hs (h y au) e).symm,fun e=>by rw [e]⟩
  rw [e]
def Et(h:sy gs ss)(hs:dK s=true):kY gs (b8 s).1=ku ss s:=by
 rw [h.eq];unfold kY ku;rw [show (b8 s).1=tR s from rfl,zC hs ss h.ok]
 cases ss.findIdx? (fun y=>eqs y s)<;>rfl
def Rq(h:sy gs ss)(s):(Ba gs s).1=(Er ss s).1/\sy (Ba gs s).2 (Er ss s).2:=by
 unfold Ba Er
 by_cases h1:dK s=false
 ·rw [if_pos h1,if_pos h1];exact ⟨rfl,h⟩
 rw [if_neg h1,if_neg h1,Et h (by simpa using h1)]
 by_cases h2:ku ss s<0
 ·rw [if_pos h2,if_pos h2];exact ⟨rfl,h⟩
 rw [if_neg h2,if_neg h2];refine ⟨rfl,?_,fun y A=>h.ok y (List.mem_of_mem_eraseIdx A)⟩;rw [h.eq,AP,AP,cK,List.map_take,List.map_drop]
abbrev H8:=@List.takeWhile_append_dropWhile
abbrev ld:=@Below.trans
def RA (h:aD:=by
 exact Src.ofSlice w underlying22 _ _ _ _ au (fun j u A=>by simp at A) (fun u C=>by simp at C)):aD:=h
def RB (h:aD:=by
 simp only [aK,aR,cg] at e1;obtain ⟨⟨rfl,_⟩,_⟩:=e1;exact h'):aD:=h
def RD (h:aD:=by
 rcases h.2 with ⟨_,h⟩|⟨g,cap,A,e1,_⟩
 ·exact h
 simp at e1):aD:=h
def RE (h:aD:=by
 exact ⟨fun h=>ai,fun _=>⟨rfl,Src.ofNil w underlying22 _⟩⟩):aD:=h
def H9 (h:aD:=by
 exact ⟨0,ai,rfl,aA _ _,bQ⟩):aD:=h
def Ez(a b:ae):Bool:=Op.bytesLess a.toList b.toList
def lg(l:List ae)(x:ae):List ae:=l.takeWhile (Ez · x)++x::l.dropWhile (Ez · x)
def jn(l:List ae):List ae:=l.foldl lg []
def dM(l:List ae):List ag:=l.map .string
def RF(l:List ae)(x:ae):(lg l x).length=l.length+1:=by
 have:=congrArg List.length (H8 (p:=(Ez · x)) (l:=l));rw [bg] at this;unfold lg;rw [bg,iK];omega
def x9(l:List ae):∀a,(l.foldl lg a).length=a.length+l.length:=by
 induction l with
 |nil=>intro a;rfl
 |cons x l ih=>intro a;rw [List.foldl_cons,ih,RF,iK];omega
def oA(l:List ae):(jn l).length=l.length:=by rw [jn,x9];simp
def Ia(h:k<l.length):jn (l.take (k+1))=lg (jn (l.take k)) l[k]:=by
 rw [cD h,jn,List.foldl_append];rfl
def J7(ha:a<=O.length)(h1:∀j,(h:j<a)->(A:j<O.length)->Ez O[j] x=true)(h2:(h:a<O.length)->Ez O[a] x=false):lg O x=O.take a++x::O.drop a:=by
 unfold lg;rw [fQ,fR,(fC (Ez · x) O a h1 ha h2)]
def pX(P:Program)(size:Nat)(t:TypeId)(C:ag)(m:Nat)(h:List ag)(w:af):Prop:=(0<m->∃A c,C=aw (some A) m c/\h.length=m*size/\∀j u,h[j]? =some u->w.cell? (A.add j)=some u)/\(m=0->h=[]/\Src P size t C 0 [] w)
def kE{ab:Array Oper}{o:Oper}{a:Act}{Q:Exit->Act->af->Prop}(R:o.guard=none)(s x:Operand)(t:TypeId)
  (ho:o.op=.call {callee:=.builtin .append,args:=#[s,x],argTypes:=#[t,t]})
  (base:Nat) (e:TypeId) (i:TypeInfo) (z:ag) (size bytes:Nat) (Z:P.underlying t=some (.slice e)) (hi:P.info? e=some i) (am:i.zero=some z)
  (Y:i.size=size) (ai:i.bytes=bytes) (an:z.cells.size=size) (al:0<size)
  (v:ag) (n:Nat) (I:List ag) (hs:a.eval s=v) (C:w.ownsRow base e size v n I)
  (J:ag) (m:Nat) (D:List ag) (hx:a.eval x=J) (V:pX P size t J m D w) (h1:∀u∈D,u.oneCell'=true)
  (ae:n+m<=maxLen) (aj:(n+m)*bytes<=140737488355328) (hbase:base<=w.heap.size)
  (h:∀A cv w',w'.ownsRow base e size (aw A (n+m) cv) (n+m) (I++D)->w.grownBy w' v.ownBlock->wpList P ab Q rest (a.put o.dst (aw A (n+m) cv)) w'):wpList P ab Q (o::rest) a w:=by
 by_cases U:0<m
 ·obtain ⟨ac,c,rfl,hl,hn⟩:=V.1 U;exact lX w R s x t ho base e i z size bytes Z hi am Y ai an al v n I hs C ac m c D hx hl hn h1 U ae aj hbase _ rfl (fun g5 cap w' h2 ad ap ar=>h _ cap w' h2 ad)
 ·obtain rfl:m=0:=by omega
  obtain ⟨rfl,ak⟩:=V.2 rfl;obtain ⟨A,cv,rfl⟩:=ax C;refine wpList_plain R fun K ah=> ?_
  have hrun:=run_append_nothing (P:=P) w t t o.type e i Z hi A n cv (ug C) J (by rw [Y];exact ak);refine Qj ?_;exact ah _ _ (h A cv w (by simpa using C) ⟨rfl,rfl,rfl,bV _,fun _ _ _=>rfl⟩)
def Mj(h:w.ownsRow base 9 1 (aw (some (aN g)) k oc) k (dM O))(ha:a<=k):pX prog 1 22 (aw (some (aN g)) a oc) a (dM (O.take a)) w:=by
 have U:O.length=k:=by have:=h.1;simpa [dM] using this
 refine ⟨fun I=>⟨⟨g,0,none⟩,oc,rfl,by simp [dM];omega,fun j u D=> ?_⟩,fun I=>⟨by subst I;rfl,?_⟩⟩
 ·have Q:(dM O)[j]? =some u:=by
   simp only [dM,List.map_take,vs] at D
   split at D
   ·exact D
   simp at D
  obtain ⟨g',R,e1,J⟩:=aZ h j u Q;simp only [aK,aR,cg] at e1;obtain ⟨⟨rfl,_⟩,_⟩:=e1;rw [Addr.add_lit,pH];exact J
 subst I;exact RA
def Mk{D:Option Addr}(h:w.ownsRow base 9 1 (aw (some (aN g)) k oc) k (dM O))(ha:a<=k)(Q:D=if oc=a then some (aN g) else some (aC g a)):pX prog 1 22 (aw D (k-a) (oc-a)) (k-a) (dM (O.drop a)) w:=by
 have ab:O.length=k:=by have:=h.1;simpa [dM] using this
 have Z:=ug h;refine ⟨fun J=>⟨⟨g,a,none⟩,oc-a,?_,by simp [dM];omega,fun j u U=> ?_⟩,fun J=>⟨?_,?_⟩⟩
 ·rw [Q,if_neg ai]
 ·have V:(dM O)[a+j]? =some u:=by
   simpa only [dM,List.map_drop,ru] using U
  obtain ⟨g',Y,e1,R⟩:=aZ h (a+j) u V;simp only [aK,aR,cg] at e1;obtain ⟨⟨rfl,_⟩,_⟩:=e1;rw [Addr.add_lit];exact R
 ·rw [eA ai];rfl
 rw [J];obtain ⟨I,rfl⟩:∃I,D=some I:=by
  rw [Q]
  split
  ·exact ⟨_,rfl⟩
  exact ⟨_,rfl⟩
 exact RA
def cellAt(h:w.ownsRow base 9 1 (aw (some (aN g)) n c) m (dM l))(A:(dM l)[k]? =some (aj x)):w.cell? (aC g k)=some (aj x):=by
 obtain ⟨g',C,e1,h'⟩:=aZ h k (aj x) A;exact RB
def BP{A:Nat}(h:w.ownsRow A e size v n xs)(D:B<=A):w.ownsRow B e size v n xs:=by
 rcases h with ⟨h0,h|⟨g,cap,C,e1,I,h⟩⟩
 ·exact ⟨h0,.inl h⟩
 exact ⟨h0,.inr ⟨g,cap,C,e1,aV D I,h⟩⟩
def Ib(h:w.ownsRow base 9 1 (aw none k oc) k (dM O))(ha:a<=k):pX prog 1 22 (aw none a oc) a (dM (O.take a)) w:=by
 obtain rfl:k=0:=by
  exact RD
 obtain rfl:a=0:=ai;exact RE
def Ic(h:w.ownsRow base 9 1 (aw none k oc) k (dM O))(ha:a<=k):pX prog 1 22 (aw none (k-a) (oc-a)) (k-a) (dM (O.drop a)) w:=by
 obtain rfl:k=0:=by
  exact RD
 obtain rfl:a=0:=ai;have C:O=[]:=by have:=h.1;simpa [dM] using this
 subst C;exact RE
def YM{A:Addr}(h:w.ownsRow base 9 1 (aw (some A) k oc) n xs):∃g,A=⟨g,0,none⟩:=by
 rcases h.2 with ⟨e,h⟩|⟨g,cap,C,e1,_⟩
 ·simp at e
 simp only [aK,aR] at e1;exact ⟨g,e1.1⟩
def Ends(k oc a:Nat)(O:List ae)(x y:Option Addr):Prop:=∀(W:af)(base:Nat),W.ownsRow base 9 1 (aw x k oc) k (dM O)->pX prog 1 22 (aw x a oc) a (dM (O.take a)) W/\pX prog 1 22 (aw y (k-a) (oc-a)) (k-a) (dM (O.drop a)) W
def Ml{x:Option Addr}(h:w.ownsRow base 9 1 (aw x k oc) k (dM O))(ha:a<=k):(x=none/\Ends k oc a O none none)\/∃g A,x=some (aN g)/\(if oc=a then some (⟨g,0,none⟩:Addr) else some (aC g a))=some A/\Ends k oc a O (some (aN g)) (some A):=by
 cases x with
 |none=>exact .inl ⟨rfl,fun W B k=>⟨Ib k ha,Ic k ha⟩⟩
 |some ad=>
  obtain ⟨g,rfl⟩:=YM h;obtain ⟨A,C⟩:∃A:Addr,(if oc=a then some (⟨g,0,none⟩:Addr) else some (aC g a))=some A:=by split<;>exact ⟨_,rfl⟩
  exact .inr ⟨g,A,rfl,C,fun W B k=>⟨Mj k ha,Mk k ha C.symm⟩⟩
def J8(l:List ae):∀u∈dM l,u.oneCell'=true:=by
 intro u h;simp only [dM,aU] at h;obtain ⟨x,_,rfl⟩:=h
 rfl
def Tryz.infoStr:(Tryz.prog.info? 9).map (fun i=>(i.zero,i.size,i.bytes))=some (some (aj ⟨#[]⟩),1,16):=by kernel_rfl
def wL(base:Nat)(v:ag)(l:List ae)(w:af)(h:w.ownsRow base 9 1 v l.length (dM l))(bt:l.length<=100000):
  Calls prog 139 #[v] w fun e w'=>∃v',e=bj v'/\an w w'/\w'.ownsRow w.heap.size 9 1 v' l.length (dM (jn l)):=by
 obtain ⟨bx,bz,rfl⟩:=ax h;obtain ⟨i0,aE,aP,aQ,aT⟩:=eL Tryz.infoStr;go_enter func139,ntmps139;go_wp2_with fail
 go_loopw [3,4] (fun bg al wr=>∃k:Nat,k<=l.length/\al=ar k/\an w wr/\wr.ownsRow w.heap.size 9 1 bg k (dM (jn (l.take k)))) (fun _ al _=>l.length-(intOf al).toNat)
 ·exact H9
 ·obtain ⟨k,Q,rfl,D,ak⟩:=hrel;obtain ⟨bc,oc,rfl⟩:=ax ak;obtain ⟨W0,rfl⟩:∃W0,W0=wr:=⟨_,rfl⟩;have bv:=D.size
  by_cases aG:k<l.length
  ·have a8:(k:Int)<(l.length:Int):=by omega
   have bb:=Ia aG;have a5:(jn (l.take k)).length=k:=by rw [oA,dZ];omega
   have ad:(dM l)[k]? =some (aj l[k]):=by simp [dM,aG]
   obtain ⟨g,c,e1,hc⟩:=aZ (aB h D) k (aj l[k]) ad;simp only [aK,bY] at e1;obtain ⟨rfl,rfl⟩:=e1;generalize l[k]=x at*;generalize jn (l.take k)=O at*;clear hc;go_wp2_with fail
   go_loopw [5] (fun am wt=>∃a:Nat,a<=k/\am=ar a/\an W0 wt/\(∀j,(h:j<a)->(h':j<O.length)->Ez O[j] x=true)) (fun am _=>k-(intOf am).toNat)
   ·exact ⟨0,ai,rfl,aA _ _,(fun j h=>ai)⟩
   obtain ⟨a,ha,rfl,Y,J⟩:=hrel;have I:=aB ak Y;have a6:wr.cell? (aC g k)=some (aj x):=by
    obtain ⟨g',bl,e1,h'⟩:=aZ (aB (aB h D) Y) k (aj x) ad;exact RB
   have bs:k<=100000:=ai
   go_upto_region 6 with fail
   go_cut [27] (fun s' bi=>∃c:Bool,s'=.bool c/\bi=wr.drew/\(cond c (a<k/\∀j,(h:j<a+1)->(h':j<O.length)->Ez O[j] x=true) (lg O x=O.take a++x::O.drop a)))
   ·by_cases ah:a<k
    ·have a9:(a:Int)<(k:Int):=by omega
     obtain ⟨a3,c2,e1,bp⟩:=aZ I a (aj (O[a]'ai)) (by simp [dM,a5,ah]);simp only [aK,bY] at e1;obtain ⟨rfl,rfl⟩:=e1;have C:=(show cond (Ez (O[a]'ai) x) (a<k/\∀j,(h:j<a+1)->(h':j<O.length)->Ez O[j] x=true) (lg O x=O.take a++x::O.drop a) from by
      cases aM:Ez (O[a]'ai) x
      ·exact J7 ai J (fun h=>aM)
      refine ⟨ah,fun j h h'=> ?_⟩
      by_cases e:j=a
      ·subst e;exact aM
      exact J j ai h')
     generalize (O[a]'ai)=y at*;unfold Ez at C;clear I J
     go_region
     go_wp2
     go_meet
     exact ⟨_,rfl,rfl,C⟩
    have a9:¬((a:Int)<(k:Int)):=ai;have C:=J7 (x:=x) (show a<=O.length by omega) J (fun h=>absurd h ai);clear I J
    go_region
    go_wp2
    go_meet
    exact ⟨false,rfl,rfl,C⟩
   obtain ⟨c,rfl,rfl,C⟩:=hcut;clear J
   cases c with
   |true=>
    have ah:=C.1;clear I;go_wp2_with fail;exact ⟨⟨a+1,ai,by go_num,Y.drew,C.2⟩,by simp [intOf];omega⟩
   |false=>
    have aV:=(show lg O x=O.take a++x::O.drop a from C);have be:a<=k:=ha;clear C
    rcases Ml I be with ⟨rfl,ab⟩|⟨a3,A,rfl,bo,ab⟩
    all_goals
     have bq:k<=oc:=ug I;have bw:a<=oc:=ai;have V:=Y.drew;have ac:=cQ I;have ap:=(ab _ _ ac).1;clear I;generalize wr.drew=U at*;go_wp2_with (at_builtin;go_must (refine kE rfl _ _ 22 rfl U.heap.size 9 i0 _ 1 16 underlying22 aE aP aQ aT rfl ay (aw none 0 0) 0 [] rfl (bQ) _ a (dM (O.take a)) rfl ap (J8 _) ?_ ?_ aH ?_))
     ·unfold maxLen;omega
     ·omega
     ·intro bk bn w1 aI au;have R:=cA (aA U.heap.size U) au aH (fun k Q=>by simp [Value.ownBlock] at Q);have ba:=aB ac R;have a7:=cellAt (aB (aB (aB h D) V) R) ad;have bu:=R.size;clear ba au a6 ap;go_wp2_with (at_builtin;go_must (refine ez rfl underlying22 Tryz.infoStr U.heap.size (aI.alloc _) w1.heap.size 1 [aj x] (w1.heap.size+1) ?_))
      ·intro a4 a1 bA aJ av _ _;have Z:=cA (R.alloc R.size (bE aj x)) av aS (fun k Q=>((aI.alloc (bE aj x)).lt k Q).1);have aW:=(ab _ _ (aB ac Z)).2;have aO:=Z.size;clear av a7;go_wp2_with (at_builtin;go_must (refine kE rfl _ _ 22 rfl U.heap.size 9 i0 _ 1 16 underlying22 aE aP aQ aT rfl ay (aw (some (aN a4)) (a+1) a1) (a+1) (dM (O.take a)++[aj x]) rfl aJ _ (k-a) (dM (O.drop a)) rfl aW (J8 _) ?_ ?_ aO ?_))
       ·unfold maxLen;omega
       ·omega
       intro aY a2 bh aL az;have aX:=(show bh.ownsRow w.heap.size 9 1 (aw aY (a+1+(k-a)) a2) (k+1) (dM (lg O x)) from by
        have e:dM (lg O x)=dM (O.take a)++aj x::dM (O.drop a):=by rw [aV];simp [dM]
        rw [e,show k+1=a+1+(k-a) by omega];exact BP aL (by have:=D.size;have:=V.size;omega))
       have aU:=D.trans ((ld V ((cA Z az aO (fun k Q=>(aJ.lt k Q).1)).mono V.size)).mono D.size);clear aL az;go_wp2;go_roundw
       ·exact ⟨k+1,ai,by go_num,aU,by rw [bb];exact aX⟩
       simp [intOf];omega
  have a8:¬((k:Int)<(l.length:Int)):=ai;have aF:k=l.length:=ai;have C:=(show W0.ownsRow w.heap.size 9 1 (aw bc k oc) l.length (dM (jn l)) from by
   have:=ak;rw [cY ai] at this;rw [<-aF];exact this)
  clear aF;go_wp2;go_ret;exact ⟨_,rfl,D,C⟩
def RG(l:List ae)(w:af)(e:Ending)(w':af):Prop:=∃v,e=bj v/\an w w'/\w'.ownsRow w.heap.size 9 1 v l.length (dM l)
def EA(b:Nat)(w:af)(av tv:ag)(ss:List ae)(h:DU w b av tv ss):
  Calls prog 87 #[bc b] w (RG (jn ss) w):=by
 obtain ⟨ta,tc,rfl⟩:=ax h.row;have aB:=h.most;go_enter func87,ntmps87;go_wp2_with fail
 go_loopw [3,4] (fun ay I wr=>∃k:Nat,k<=ss.length/\I=ar k/\an w wr/\wr.ownsRow w.heap.size 9 1 ay k (dM (ss.take k))) (fun _ I _=>ss.length-(intOf I).toNat)
 ·exact H9
 ·obtain ⟨k,V,rfl,A,D⟩:=hrel;obtain ⟨ap,au,rfl⟩:=ax D;have ab:=A.size;have hd:=h.below A;obtain ⟨c0,c1⟩:=fZ hd.blk
  by_cases hlt:k<ss.length
  ·refine Rh ?_;intro hkn g c e1 hc;simp only [aK,bY] at e1;obtain ⟨rfl,rfl⟩:=e1;have ah:=(by rw [cD hlt,dM,cK];rfl:dM (ss.take (k+1))=dM (ss.take k)++[aj ss[k]]);generalize ss[k]=y at*;have aC:=hc 6 _ ai rfl;clear hd hc;go_wp2_with (at_builtin;go_must (refine ez rfl underlying22 Tryz.infoStr w.heap.size (D.alloc _) wr.heap.size 1 [aj y] (wr.heap.size+1) ?hrest))
   case hrest=>
    intro g5 bf w5 am U al az;have J:=D.alloc (bE aj y);have ac:=cA (A.alloc A.size (bE aj y)) U aS (fun k V=>(J.lt k V).1);clear J U al;go_wp2;go_roundw
    ·exact ⟨k+1,ai,by go_num,ac,by rw [ah];exact am⟩
    simp [intOf];omega
  have hkn:¬((k:Int)<(ss.length:Int)):=ai;have Q:(ss.take k)=ss:=cY ai;rw [Q] at D;have Y:k=ss.length:=ai;have C:=wL w.heap.size (aw ap k au) ss wr (by rw [<-Y];exact D) ai;clear hd Q Y;go_wp2_with fail;refine C.mono ?_;rintro e aF ⟨aE,rfl,R,Z⟩;have ad:=A.trans (R.mono ab);have ak:=BP Z ab;clear R Z C;go_wp2;go_ret;exact ⟨_,rfl,ad,by rw [oA];exact ak⟩
