import Derived.Test.YtlbpnlngckgcbaaGreatDoorM16
import Derived.Test.YtlbpnlngckgcbaaGreatDoorM17
import Derived.DeepKeys4
set_option linter.all false
set_option maxHeartbeats 4000000
set_option maxRecDepth 100000
namespace Go.Proofs.YtlbpnlngckgcbaaGreatDoor
open Go.RowKit Go.PlainAid Go.Proofs.Tryz
variable {aA aU:Prop} {b g g5 aT k size n cap g0 c0 i B base' j c sb N sc g' m a cn cc:Nat} {w w' y z W w5 W0 W' wr:af} {rel s:ae} {v v' sv pv gv tv:ag} {cs:Array ag} {T e T':TypeId} {o:Obj} {α β:Type} {xs:List ag} {row:Option Nat} {P:Program} {rest:List Oper} {ts:List Ty} {pre:List It}
section
abbrev ka(a0:Int)(a1:ae)(a2:Int):Obj:=.cells #[.int .i64 a0,.string a1,.int .i64 a2] 298
def PG (h:aA:=by
 have A:=h.blk.lt;have hl:=h.low;exact k.but.below aj (fun g e=>by
  rcases e with e|e
  ·omega
  exact (h.row.lt g e).1)):aA:=h
def PH (h:aA:=by
 rcases k.own i hi with e|e
 ·exact h.own i e
 exact .inr (aP h.but.size e)):aA:=h
structure Ins where
 does:Nat
 rel:ae
 tzo:Nat
def Dc(i:Ins):List ag:=[.int .i64 i.does,.string i.rel,.int .i64 i.tzo]
structure WI(base:Nat)(w:af)(b:Nat)(rel:ae)(v:ag)(l:List Ins):Prop where
 blk:aE w b #[.string rel,v] 293
 row:w.ownsRow base 298 3 v l.length (l.flatMap Dc)
 low:base<=b
variable {base:Nat}
def WI.below{l}(h:WI base w b rel v l)(k:an w w'):WI base w' b rel v l:=⟨h.blk.below k,aB h.row k,h.low⟩
def Tryz.infoIns:(Tryz.prog.info? 298).map (fun i=>(i.zero,i.size,i.bytes))=some (some (.agg #[.int .i64 0,.string ⟨#[]⟩,.int .i64 0]),3,32):=by kernel_rfl
structure oi(b:Nat)(v:ag)(w w':af)(v':ag):Prop where
 but:bG (fun k=>k=b\/v.ownBlock=some k) w w'
 own:∀k,v'.ownBlock=some k->v.ownBlock=some k\/w.heap.size<=k
def oi.trans{x:af}{A:ag}(h:oi b v x y v')(k:oi b v' y z A):oi b v x z A where
 but:=⟨k.but.os.trans h.but.os,k.but.tape.trans h.but.tape,k.but.output.trans h.but.output,aP h.but.size k.but.size,fun i hi hs=>(k.but.block i (cK hi h.but.size) (fun e=>by
  rcases e with e|e
  ·exact hs (.inl e)
  rcases h.own i e with e|e
  ·exact hs (.inr e)
  omega)).trans (h.but.block i hi hs)⟩
 own:=fun i hi=>by
  exact PH
def oi.of_below{x}(h:an x y):oi b v x y v:=⟨.of_below h,fun _ e=> .inl e⟩
def oi.below{l}(h:WI base w b rel v l)(k:oi b v w w' v'):Below base w w':=by
 exact PG
def oi.blk(k:oi b v w w' v')(h:aE w g cs T)(A:g≠b)(C:v.ownBlock≠some g):aE w' g cs T:=k.but.blk h (fun e=>by
 rcases e with e|e
 ·exact A e
 exact C e)
def Jg(base b:Nat)(rel:ae)(v:ag)(l:List Ins)(i:Ins)(w:af)(e:Ending)(w':af):Prop:=∃v',e=.returned (.int .i64 l.length)/\oi b v w w' v'/\WI base w' b rel v' (l++[i])
def La{va vc l i}(H:WI base w b rel (.slice va l.length vc) l)(hB:an w W)(I:(W.alloc o).drew.grownBy w5 (Value.slice va l.length vc).ownBlock)(J:w5.ownsRow base 298 3 (.slice (some ⟨g5,0,none⟩) (l.length+1) aT) (l.length+1) (l.flatMap Dc++Dc i))(D:(Value.slice va l.length vc).ownBlock=some g5\/g5=W.heap.size+1)(C:aE w5 b #[.string rel,.slice va l.length vc] 293):
  Jg base b rel (.slice va l.length vc) l i w (.returned (.int .i64 l.length)) (w5.setCell ⟨b,1,none⟩ (.slice (some ⟨g5,0,none⟩) (l.length+1) aT)):=by
 have R:=H.low;have Q:=(hB.alloc hB.size o).drew;refine ⟨_,rfl,⟨((bG.of_below Q).trans (dr I (fun k A=> .inr A))).set (.inl rfl) _,fun k A=> ?_⟩,⟨C.set 1 _,?_,R⟩⟩
 ·simp only [Value.ownBlock,aL] at A
  rcases D with e|e
  ·exact .inl (by rw [e,A])
  exact .inr Oh
 have:=bN J C au 1 (.slice (some ⟨g5,0,none⟩) (l.length+1) aT);rw [cT,List.flatMap_singleton,aZ];exact this
def iS(base b rel v l i w)(h:WI base w b rel v l)(aL:l.length<=100000):
  Calls prog 153 #[.pointer (some ⟨b,0,none⟩),.agg #[.int .i64 i.does,.string i.rel,.int .i64 i.tzo]] w (Jg base b rel v l i w):=by
 obtain ⟨R,U,rfl⟩:=ax h.row;have H:=ai h;have b1:=(az w.heap.size w).alloc aD (ka i.does i.rel i.tzo);have aj:=ai b1;have C:=ai (h.below b1);have J:=ai (aE.new w #[.int .i64 i.does,.string i.rel,.int .i64 i.tzo] 298);have aJ:=h.blk.lt;clear h b1;go_enter func153,ntmps153;go_wp2_with fail;generalize (w.alloc (ka i.does i.rel i.tzo))=W at*;obtain ⟨c0,c1⟩:W.cell? ⟨b,0,none⟩=some (.string rel)/\W.cell? ⟨b,1,none⟩=some (.slice R l.length U):=⟨C.u.blk.cell rfl,C.u.blk.cell rfl⟩;obtain ⟨aH,aW,aX⟩:W.cell? ⟨w.heap.size,0,none⟩=some (.int .i64 i.does)/\W.cell? ⟨w.heap.size,1,none⟩=some (.string i.rel)/\W.cell? ⟨w.heap.size,2,none⟩=some (.int .i64 i.tzo):=⟨J.u.cell rfl,J.u.cell rfl,J.u.cell rfl⟩;obtain ⟨i0,ab,ae,af,ag⟩:=bK Tryz.infoIns;have ar:=ai ab;have aB:=ai ae;have aC:=ai af;have aF:=ai ag;clear ab ae af ag;have A:=C.u.blk;have aO:=A.fz;have V:=ai C.u.row;have aM:=C.u.low;have aQ:=cm W _ c1;have aR:=cm W _ aH;have c7:(W.alloc (ka i.does i.rel i.tzo)).cell? ⟨b,1,none⟩=some (.slice R l.length U):=(A.alloc _).cell rfl;have aN:¬(b=W.heap.size):=by have:=A.lt;omega
 have aI:=A.lt;have am:=ai A;clear A;have aw:=ai (show ∀u∈Dc i,u.oneCell'=true from by
  intro u ad;simp only [Dc,bi,dK,dP] at ad
  rcases ad with rfl|rfl|rfl<;>rfl)
 have al:=ai (by unfold maxLen;omega:l.length+1<=maxLen);have an:=ai (by omega:(l.length+1)*32<=140737488355328);have ay:=ai (show base<=(W.alloc (ka i.does i.rel i.tzo)).drew.heap.size from by
  have:=((az _ W).alloc aD (ka i.does i.rel i.tzo)).drew.size;omega)
 have ap:=ai (by simp:(W.alloc (ka i.does i.rel i.tzo)).drew.heap.size=W.heap.size+1)
 go_region_law (refine jY _ rfl (.tmp 9) (.tmp 11) 199 rfl base 298 i0 _ 3 32 underlying199 ar.u aB.u aC.u aF.u rfl au (.slice R l.length U) l.length (l.flatMap Dc) gW (bO (V.u.alloc _)) ⟨W.heap.size,0,none⟩ 1 1 (Dc i) gW rfl (bu (B:=W.heap.size) (cs:=#[.int .i64 i.does,.string i.rel,.int .i64 i.tzo]) (t:=298) (fr:=(0,0)) (aE.new W _ _).drew) aw.u au al.u an.u ay.u (W.heap.size+1) ap.u ?_;intro g5 aT w5 ac Q Z aK;have Y:=bO (V.u.alloc (ka i.does i.rel i.tzo));have I:=(am.u.alloc (ka i.does i.rel i.tzo)).drew;have D:aE w5 b _ 293:=(Q.block b I.lt (own_ne Y I au)).trans I;obtain ⟨aS,aV⟩:=hY D;have zq:=D.fz;have av:=ai D;have ak:=ai Q;have aG:=ai ac;have ah:=ai Z;have aP:=D.lt;clear Y I D Q ac Z)
 all_goals
  go_wp2;go_ret;exact La H.u aj.u ak.u aG.u ah.u av.u
end
def oT(l:List Ins)(k:Nat):List Ins:=match l[k]? with
 |some i=>l.set k ⟨i.does,i.rel,l.length⟩
 |none=>l
def Dd{l}(h:k<l.length):oT l k=l.set k ⟨l[k].does,l[k].rel,l.length⟩:=by
 unfold oT;rw [aH h]
def Lb(l k):(oT l k).length=l.length:=by
 unfold oT
 split
 ·simp
 rfl
def PI(u:Nat):∀(l:List Ins)(k:Nat)(h:k<l.length),(l.flatMap Dc).set (k*3+2) (.int .i64 u)=(l.set k ⟨l[k].does,l[k].rel,u⟩).flatMap Dc
 | [],k,h=>by simp at h
 |i::l,0,_=>rfl
 |i::l,k+1,h=>by
  have A:=PI u l k ni;rw [cq,rA _ _ (by show 3<=_;omega),show (k+1)*3+2-(Dc i).length=k*3+2 by show (k+1)*3+2-3=_;omega,A,List.set_cons_succ,cq]
  rfl
def De(base b rel v l k w)(h:WI base w b rel v l)(ac:l.length<=100000)(D:k<l.length):
  Calls prog 246 #[.pointer (some ⟨b,0,none⟩),.int .i64 k] w fun e w'=>e=.returned (.tuple #[])/\oi b v w w' v/\WI base w' b rel v (oT l k):=by
 obtain ⟨g,c,e1,hc⟩:=bf Dc 3 (fun _=>rfl) h.row k l[k] (aH D);subst e1;have ae:w.cell? ⟨g,k*3+2,none⟩=some (.int .i64 l[k].tzo):=hc 2 _ aj rfl;obtain ⟨c0,c1⟩:=hY h.blk;obtain ⟨Y,A,Z⟩:=dx h.row;have ad:=A.fz;have ab:(k:Int)<(l.length:Int):=aj;have R:¬(g=b):=fun e=>by
  have C:=h.blk;subst e;unfold aE at A C;rw [C] at A;simp at A
 have U:¬(b=g):=fun e=>R e.symm
 have Q:=ai (show (w.setCell ⟨g,k*3+2,none⟩ (.int .i64 l.length)).ownsRow base 298 3 (.slice (some ⟨g,0,none⟩) l.length c) (oT l k).length ((oT l k).flatMap Dc) from by
  have:=oh h.row (k*3+2) (.int .i64 l.length);rw [Lb,Dd D,<-PI];exact this)
 have J:=ai (h.blk.other (a:=⟨g,k*3+2,none⟩) U (.int .i64 l.length));have V:=h.low;generalize l[k].tzo=t0 at*;go_enter func246,ntmps246;go_wp2_with fail;have bl:bG (fun k=>k=b\/(Value.slice (some ⟨g,0,none⟩) l.length c).ownBlock=some k) w (w.setCell ⟨g,k*3+2,none⟩ (.int .i64 l.length)):=(bG.refl _ w).set (.inr rfl) _;have I:=ai bl
 go_region
 all_goals (
  go_end0;exact ⟨rfl,⟨I.u.drew,fun _ e=> .inl e⟩,⟨J.u.drew,bO Q.u,V⟩⟩)
def yM (h:aA:=by
 first|omega|(simp;omega)):aA:=h
def gC(n:Nat)(r:ae)(each:Ins):List Ins:=[⟨1,⟨#[]⟩,0⟩,⟨3,r,n+5⟩,each,⟨6,⟨#[]⟩,0⟩,⟨10,⟨#[]⟩,n+1⟩]
def Lc(l r each):oT (((((l++[⟨1,⟨#[]⟩,0⟩])++[⟨3,r,0⟩])++[each])++[⟨6,⟨#[]⟩,0⟩])++[⟨10,⟨#[]⟩,l.length+1⟩]) (l.length+1)=l++gC l.length r each:=by
 have e:((((l++[⟨1,⟨#[]⟩,0⟩])++[⟨3,r,0⟩])++[each])++[⟨6,⟨#[]⟩,0⟩])++[⟨10,⟨#[]⟩,l.length+1⟩]=l++[⟨1,⟨#[]⟩,0⟩,⟨3,r,0⟩,each,⟨6,⟨#[]⟩,0⟩,(⟨10,⟨#[]⟩,l.length+1⟩:Ins)]:=ar;rw [e,Dd ar];unfold gC;rw [rA _ _ aj,show l.length+1-l.length=1 by omega];simp
def PJ(base b:Nat)(rel:ae)(v:ag)(l:List Ins)(r:ae)(each:Ins)(w:af)(e:Ending)(w':af):Prop:=∃v',e=.returned (.tuple #[])/\oi b v w w' v'/\WI base w' b rel v' (l++gC l.length r each)
def Df(base b rel v l r each w)(h:WI base w b rel v l)(aY:l.length<=90000):
  Calls prog 210 #[.pointer (some ⟨b,0,none⟩),.string r,.agg #[.int .i64 each.does,.string each.rel,.int .i64 each.tzo]] w fun e w'=>PJ base b rel v l r each w e w':=by
 have J:=(az w.heap.size w).alloc aD (ka each.does each.rel each.tzo);have an:=ai (h.below J);have ab:=ai (oi.of_below (b:=b) (v:=v) J);have Y:=ai (aE.new w #[.int .i64 each.does,.string each.rel,.int .i64 each.tzo] 298);have aK:w.heap.size≠b:=by have:=h.blk.lt;omega
 have am:=ai (fun e=>by have:=(h.row.lt _ e).2;omega:v.ownBlock≠some w.heap.size);have al:=ai (Lc l r each);have aB:((l.length+1:Nat):Int)=(l.length:Int)+1:=aj;have I:=ai aB;go_enter func210,ntmps210;go_wp2_with fail;generalize w.alloc (ka each.does each.rel each.tzo)=W at*;have ah:=ai (oi.of_below (b:=b) (v:=v) (az W.heap.size W));have Q:=ai (iS base b rel _ l ⟨1,⟨#[]⟩,0⟩ W an.u aj);refine Q.u.mono ?_;rintro e w1 ⟨v1,rfl,aC,aL⟩;have ap:=ai aL;have ac:=ai (oi.trans ah.u aC);have R:=ai (iS base b rel _ (l++[⟨1,⟨#[]⟩,0⟩]) ⟨3,r,0⟩ w1 ap.u yM)
 skip
 go_wp2_with fail;refine R.u.mono ?_;rintro e aS ⟨aZ,rfl,aF,aN⟩;have au:=ai aN;have D:=ai (oi.trans ac.u aF);have Z:=D.u.blk Y.u aK am.u;obtain ⟨e0,e1,aX⟩:=three Z;have U:=ai (iS base b rel _ ((l++[⟨1,⟨#[]⟩,0⟩])++[⟨3,r,0⟩]) each aS au.u yM)
 skip
 go_wp2_with fail;refine U.u.mono ?_;rintro e aV ⟨a3,rfl,aG,aO⟩;have av:=ai aO;have ad:=ai (oi.trans D.u aG);have V:=ai (iS base b rel _ (((l++[⟨1,⟨#[]⟩,0⟩])++[⟨3,r,0⟩])++[each]) ⟨6,⟨#[]⟩,0⟩ aV av.u yM)
 skip
 go_wp2_with fail;refine V.u.mono ?_;rintro e aW ⟨a4,rfl,aH,aP⟩;have aw:=ai aP;have ae:=ai (oi.trans ad.u aH);have A:=ai (iS base b rel _ ((((l++[⟨1,⟨#[]⟩,0⟩])++[⟨3,r,0⟩])++[each])++[⟨6,⟨#[]⟩,0⟩]) ⟨10,⟨#[]⟩,l.length+1⟩ aW aw.u yM)
 (dsimp only at A;rw [I.u] at A)
 go_wp2_with fail;refine (ak A).mono ?_;rintro e w5 ⟨a5,rfl,aI,aQ⟩;have ax:=ai aQ;have af:=ai (oi.trans ae.u aI);have C:=ai (De base b rel _ _ (l.length+1) w5 ax.u aM ar);rw [al.u,I.u] at C;go_wp2_with fail;refine (ak C).mono ?_;rintro e a6 ⟨rfl,aJ,aR⟩;have ay:=ai aR;have ag:=ai (ab.u.trans (oi.trans af.u aJ));go_wp2;go_end0;exact ⟨_,rfl,ag.u,ay.u⟩
section
def be(rel:ae):Nat->Ex->List Ins
 |m,⟨n,some x,some y⟩=>if n.kind=3 then be rel m x++be rel (m+(be rel m x).length) y++[⟨6,⟨#[]⟩,0⟩]
  else be rel m x++[⟨9,⟨#[]⟩,m+(be rel m x).length+(be rel (m+(be rel m x).length+1) y).length+2⟩]++be rel (m+(be rel m x).length+1) y++[⟨if n.kind=4 then 7 else 8,⟨#[]⟩,0⟩]
 |m,⟨n,none,_⟩=>if n.kind=0 then gC m rel ⟨4,⟨#[]⟩,0⟩ else if n.kind=1 then [⟨2,n.n1,0⟩] else gC m n.n1 ⟨5,n.n2,0⟩
 |_,⟨_,some _,none⟩=>[]
def nH(base b:Nat)(rel:ae)(v:ag)(l c:List Ins)(w:af)(e:Ending)(w':af):Prop:=∃v',e=.returned (.tuple #[])/\oi b v w w' v'/\WI base w' b rel v' (l++c)
variable {base:Nat}
def WI.gkept{l}(h:WI base w b rel v l)(k:oi b v w w' v')(bb):oN bb w w':=fun g cs f _ A=>k.but.block g (lt_of_some A) (fun e=>by
 rcases e with rfl|e
 ·have:=h.blk;unfold aE at this;rw [this] at A;simp at A
 rcases h.row.2 with ⟨C,_⟩|⟨g',cap,D,C,_,hc,_⟩
 ·rw [C] at e;simp [Value.ownBlock] at e
 rw [C] at e;simp only [Value.ownBlock,aL] at e;rw [e] at hc;rw [hc] at A;simp at A)
def Ld(base b:Nat)(rel v l)(p:Nat)(sa)(I D:Nat)(w)(h:WI base w b rel v l)(Y:l.length<=90000):
  Calls prog 152 #[.pointer (some ⟨b,0,none⟩),.iface 236 (.agg #[.int .i64 p,.slice sa I D])] w (nH base b rel v l (gC l.length rel ⟨4,⟨#[]⟩,0⟩) w):=by
 have f0:=jF;have f1:=iX;have f2:=iY;have f3:=fA;have f4:=hN;have f5:=hO;have ab:=lY;have ac:=lZ;have ad:=iP;have ae:=kA;have g5:=kD;have h2:=l4;have af:=iQ;have ag:=kB;have ah:=kE;have al:=iB;have am:=jU;have an:=jV;have ap:=l5;have ar:=l6;have au:=jG;have A:=(az w.heap.size w).alloc aD (pd p sa I D);have R:=ai (oi.of_below (b:=b) (v:=v) A);have C:=ai (Df base b rel v l rel ⟨4,⟨#[]⟩,0⟩ _ (h.below A) Y);have c0:w.cell? ⟨b,0,none⟩=some (.string rel):=h.blk.cell rfl;have Z:(w.alloc (pd p sa I D)).cell? ⟨b,0,none⟩=some (.string rel):=(h.below A).blk.cell rfl;have av:=cm w _ c0;have aj:¬(w.heap.size=b):=by have:=h.blk.lt;omega
 have ak:¬(b=w.heap.size):=by have:=h.blk.lt;omega
 clear h A;go_enter func152,ntmps152;go_wp2_with fail;refine C.u.mono ?_;rintro e w1 ⟨v1,rfl,J,Q⟩;have U:=ai (R.u.trans J);have V:=ai Q;clear J Q C;go_wp2;go_end0;exact ⟨_,rfl,U.u,V.u⟩
def PK(base b:Nat)(rel v l)(p:Nat)(s w)(h:WI base w b rel v l)(V:l.length<=90000):
  Calls prog 152 #[.pointer (some ⟨b,0,none⟩),.iface 238 (.agg #[.int .i64 p,.string s])] w (nH base b rel v l [⟨2,s,0⟩] w):=by
 have f1:=iX;have U:=lY;have A:=(az w.heap.size w).alloc aD (.cells #[.int .i64 p,.string s] 238);have D:=ai (oi.of_below (b:=b) (v:=v) A);have C:=ai (iS base b rel v l ⟨2,s,0⟩ _ (h.below A) aj);go_enter func152,ntmps152;go_wp2_with fail;refine C.u.mono ?_;rintro e w1 ⟨v1,rfl,Q,R⟩;have I:=ai (D.u.trans Q);have J:=ai R;go_wp2;go_end0;exact ⟨_,rfl,I.u,J.u⟩
def PL(base b:Nat)(rel v l)(p p1 p2:Nat)(s t w)(h:WI base w b rel v l)(R:l.length<=90000):
  Calls prog 152 #[.pointer (some ⟨b,0,none⟩),.iface 240 (.agg #[.int .i64 p,.int .i64 p1,.string s,.int .i64 p2,.string t])] w (nH base b rel v l (gC l.length s ⟨5,t,0⟩) w):=by
 have f2:=iY;have V:=lZ;have h2:=l4;have A:=(az w.heap.size w).alloc aD (mf p p1 s p2 t);have D:=ai (oi.of_below (b:=b) (v:=v) A);have C:=ai (Df base b rel v l s ⟨5,t,0⟩ _ (h.below A) R);go_enter func152,ntmps152;go_wp2_with fail;refine C.u.mono ?_;rintro e w1 ⟨v1,rfl,Q,U⟩;have I:=ai (D.u.trans Q);have J:=ai U;go_wp2;go_end0;exact ⟨_,rfl,I.u,J.u⟩
end
def Jh (h:aA:=by
 rw [aZ];omega):aA:=h
def lH(rel e):∀n,(be rel n e).length<=8*(aC e).length:=by
 induction e using Ex.ind with
 |h0 n r=>
  intro m;have:(aC ⟨n,none,r⟩).length=1:=by simp [aC]
  rw [this];unfold be
  split
  ·simp [gC]
  split
  ·simp
  simp [gC]
 |h1 n a=>intro m;simp [be]
 |h2 n a c iha WR=>
  intro m;have h:(aC ⟨n,some a,some c⟩).length=(aC a).length+1+(aC c).length:=by simp [aC];omega
  rw [h];have h1:=iha m;have h2:=WR (m+(be rel m a).length);have A:=WR (m+(be rel m a).length+1);unfold be
  split
  ·simp only [aZ,List.length_cons,List.length_nil];omega
  simp only [aZ,List.length_cons,List.length_nil];omega
def Vs(base b:Nat)(rel:ae)(h:Nat)(e:Ex):Prop:=∀(v:ag)(l:List Ins)(w:af)(val:ag),bB h w e val->WI base w b rel v l->l.length+8*(aC e).length<=80000->Calls prog 152 #[.pointer (some ⟨b,0,none⟩),val] w (nH base b rel v l (be rel l.length e) w)
def Dg(base b:Nat)(rel)(C:Nat)(x y)(au:Vs base b rel C x)(av:Vs base b rel C y)(v l)(p:Nat)(vx vy w)(U:bB C w x vx)(V:bB C w y vy)(h:WI base w b rel v l)(aL:l.length+8*((aC x).length+(aC y).length)+8<=80000):
  Calls prog 152 #[.pointer (some ⟨b,0,none⟩),.iface 244 (.agg #[.int .i64 p,vx,vy])] w (nH base b rel v l (be rel l.length x++be rel (l.length+(be rel l.length x).length) y++[⟨6,⟨#[]⟩,0⟩]) w):=by
 have f3:=fA;have aH:=iP;have aI:=iQ;have aM:=iB;obtain ⟨I,J,rfl⟩:=U.isI;obtain ⟨Q,yv,rfl⟩:=V.isI;have A:=(az w.heap.size w).alloc aD (.cells #[.int .i64 p,.iface I J,.iface Q yv] 244);have an:=ai (h.below A);have ac:=ai (oi.of_below (b:=b) (v:=v) A);have ab:=ai (aE.new w #[.int .i64 p,.iface I J,.iface Q yv] 244);have ar:w.heap.size≠b:=by have:=h.blk.lt;omega
 have ah:=ai (fun e=>by have:=(h.row.lt _ e).2;omega:v.ownBlock≠some w.heap.size);have lx:=lH rel x l.length;have aN:=lH rel y (l.length+(be rel l.length x).length);have Y:=ai (au v l _ _ (U.but (But.of_below A)) (h.below A) aj);have am:=ai (V.but (But.of_below A));have al:=ai av;generalize aJ:be rel l.length x=D at*;have ag:=ai (by rw [aZ]:be rel (l++D).length y=be rel (l.length+D.length) y);generalize aK:be rel (l.length+D.length) y=aG at*;go_enter func152,ntmps152;go_wp2_with fail;generalize (w.alloc (.cells #[.int .i64 p,.iface I J,.iface Q yv] 244))=W at*;refine Y.u.mono ?_;rintro e w1 ⟨v1,rfl,f1,ay⟩;have R:=ai (al.u v1 (l++D) w1 _ (bB.frame (an.u.gkept f1 C) _ _ am.u) ay Jh);rw [ag.u] at R;have e1:=(f1.blk ab.u ar ah.u);obtain ⟨aQ,aR,aS⟩:=three e1;have ad:=ai (ac.u.trans f1);go_wp2_with fail;refine (ak R).mono ?_;rintro e ax ⟨aw,rfl,f2,aB⟩;have Z:=ai (iS base b rel aw _ ⟨6,⟨#[]⟩,0⟩ ax aB (by rw [aZ,aZ];omega));have ae:=ai (ad.u.trans f2);go_wp2_with fail;refine Z.u.mono ?_;rintro e aP ⟨aO,rfl,f3,aF⟩;have af:=ai (ae.u.trans f3);have ap:=ai aF;go_wp2;go_end0;exact ⟨_,rfl,af.u,by simpa [dc] using ap.u⟩
def Dh(l cx cy d):oT ((((l++cx)++[⟨9,⟨#[]⟩,0⟩])++cy)++[⟨d,⟨#[]⟩,0⟩]) (l.length+cx.length)=l++(cx++[⟨9,⟨#[]⟩,l.length+cx.length+cy.length+2⟩]++cy++[⟨d,⟨#[]⟩,0⟩]):=by
 have e:(((l++cx)++[⟨9,⟨#[]⟩,0⟩])++cy)++[(⟨d,⟨#[]⟩,0⟩:Ins)]=(l++cx)++(⟨9,⟨#[]⟩,0⟩::(cy++[⟨d,⟨#[]⟩,0⟩])):=ar;have A:((l++cx)++((⟨9,⟨#[]⟩,0⟩:Ins)::(cy++[⟨d,⟨#[]⟩,0⟩])))[l.length+cx.length]? =some ⟨9,⟨#[]⟩,0⟩:=by
  rw [nz ar];simp
 rw [e];unfold oT;rw [A];simp only;rw [rA _ _ ar,show l.length+cx.length-(l++cx).length=0 by simp,List.set_cons_zero];simp;omega
def vz(base b:Nat)(rel)(C:Nat)(x y)(aK:Vs base b rel C x)(aL:Vs base b rel C y)(v l)(p d:Nat)(vx vy w)(Y:bB C w x vx)(Z:bB C w y vy)(h:WI base w b rel v l)(a2:l.length+8*((aC x).length+(aC y).length)+8<=80000):
  Calls prog 211 #[.pointer (some ⟨b,0,none⟩),.agg #[.int .i64 p,vx,vy],.int .i64 d] w (nH base b rel v l (be rel l.length x++[⟨9,⟨#[]⟩,l.length+(be rel l.length x).length+(be rel (l.length+(be rel l.length x).length+1) y).length+2⟩]++be rel (l.length+(be rel l.length x).length+1) y++[⟨d,⟨#[]⟩,0⟩]) w):=by
 obtain ⟨I,J,rfl⟩:=Y.isI;obtain ⟨Q,yv,rfl⟩:=Z.isI;have D:=(az w.heap.size w).alloc aD (.cells #[.int .i64 p,.iface I J,.iface Q yv] 242);have aF:=ai (h.below D);have ag:=ai (oi.of_below (b:=b) (v:=v) D);have af:=ai (aE.new w #[.int .i64 p,.iface I J,.iface Q yv] 242);have aJ:w.heap.size≠b:=by have:=h.blk.lt;omega
 have aw:=ai (fun e=>by have:=(h.row.lt _ e).2;omega:v.ownBlock≠some w.heap.size);have lx:=lH rel x l.length;have a3:=lH rel y (l.length+(be rel l.length x).length+1);have ac:=ai (aK v l _ _ (Y.but (But.of_below D)) (h.below D) aj);have ay:=ai (Z.but (But.of_below D));have ax:=ai aL;generalize a0:be rel l.length x=A at*;have ap:=ai (by rw [aZ,aZ];rfl:be rel ((l++A)++[(⟨9,⟨#[]⟩,0⟩:Ins)]).length y=be rel (l.length+A.length+1) y);generalize a1:be rel (l.length+A.length+1) y=aI at*;have au:=ai (Dh l A aI d);have av:=ai (by omega:((l.length+A.length:Nat):Int)=(l.length:Int)+(A.length:Int));go_enter func211,ntmps211;go_wp2_with fail;generalize (w.alloc (.cells #[.int .i64 p,.iface I J,.iface Q yv] 242))=W at*;refine ac.u.mono ?_;rintro e w1 ⟨v1,rfl,f1,ab⟩;have ad:=ai (iS base b rel v1 _ ⟨9,⟨#[]⟩,0⟩ w1 ab Jh);have aB:=ai (bB.frame (aF.u.gkept f1 C) _ _ ay.u);have aG:=ai ab;have ah:=ai f1;go_wp2_with fail;refine ad.u.mono ?_;rintro e aQ ⟨aN,rfl,f2,aV⟩;have R:=ai (ax.u aN _ aQ _ (bB.frame (aG.u.gkept f2 C) _ _ aB.u) aV (by rw [aZ,aZ];simp;omega));rw [ap.u] at R;have V:=ai (ah.u.trans f2);obtain ⟨a4,a5,a6⟩:=three (V.u.blk af.u aJ aw.u);go_wp2_with fail;refine (ak R).mono ?_;rintro e aR ⟨aO,rfl,f3,aW⟩;have ae:=ai (iS base b rel aO _ ⟨d,⟨#[]⟩,0⟩ aR aW (by rw [aZ,aZ,aZ];simp;omega));have al:=ai (V.u.trans f3);go_wp2_with fail;refine ae.u.mono ?_;rintro e aS ⟨aP,rfl,f4,aX⟩;have U:=ai (De base b rel aP _ (l.length+A.length) aS aX aM ar);rw [au.u,av.u] at U;have am:=ai (al.u.trans f4);go_wp2_with fail;refine (ak U).mono ?_;rintro e w5 ⟨rfl,f5,aY⟩;have an:=ai (ag.u.trans (am.u.trans f5));have aH:=ai aY;go_wp2;go_end0;exact ⟨_,rfl,an.u,aH.u⟩
def Le(base b:Nat)(rel)(A:Nat)(x y)(Z:Vs base b rel A x)(ab:Vs base b rel A y)(v l)(p:Nat)(vx vy w)(I:bB A w x vx)(J:bB A w y vy)(h:WI base w b rel v l)(Y:l.length+8*((aC x).length+(aC y).length)+8<=80000):
  Calls prog 152 #[.pointer (some ⟨b,0,none⟩),.iface 245 (.agg #[.int .i64 p,vx,vy])] w (nH base b rel v l (be rel l.length x++[⟨9,⟨#[]⟩,l.length+(be rel l.length x).length+(be rel (l.length+(be rel l.length x).length+1) y).length+2⟩]++be rel (l.length+(be rel l.length x).length+1) y++[⟨7,⟨#[]⟩,0⟩]) w):=by
 have f4:=hN;have ag:=kA;have ah:=kB;have aj:=jU;have ak:=l5;obtain ⟨ad,ae,rfl⟩:=I.isI;obtain ⟨af,yv,rfl⟩:=J.isI;have D:=(az w.heap.size w).alloc aD (.cells #[.int .i64 p,.iface ad ae,.iface af yv] 245);have Q:=ai (oi.of_below (b:=b) (v:=v) D);have C:=ai (vz base b rel A x y Z ab v l p 7 _ _ _ (I.but (But.of_below D)) (J.but (But.of_below D)) (h.below D) Y);go_enter func152,ntmps152;go_wp2_with fail;refine C.u.mono ?_;rintro e w1 ⟨v1,rfl,V,ac⟩;have R:=ai (Q.u.trans V);have U:=ai ac;go_wp2;go_end0;exact ⟨_,rfl,R.u,U.u⟩
def Lf(base b:Nat)(rel)(A:Nat)(x y)(Z:Vs base b rel A x)(ab:Vs base b rel A y)(v l)(p:Nat)(vx vy w)(I:bB A w x vx)(J:bB A w y vy)(h:WI base w b rel v l)(Y:l.length+8*((aC x).length+(aC y).length)+8<=80000):
  Calls prog 152 #[.pointer (some ⟨b,0,none⟩),.iface 246 (.agg #[.int .i64 p,vx,vy])] w (nH base b rel v l (be rel l.length x++[⟨9,⟨#[]⟩,l.length+(be rel l.length x).length+(be rel (l.length+(be rel l.length x).length+1) y).length+2⟩]++be rel (l.length+(be rel l.length x).length+1) y++[⟨8,⟨#[]⟩,0⟩]) w):=by
 have f5:=hO;have g5:=kD;have ag:=kE;have ah:=jV;have aj:=l6;have ak:=jG;obtain ⟨ad,ae,rfl⟩:=I.isI;obtain ⟨af,yv,rfl⟩:=J.isI;have D:=(az w.heap.size w).alloc aD (.cells #[.int .i64 p,.iface ad ae,.iface af yv] 246);have Q:=ai (oi.of_below (b:=b) (v:=v) D);have C:=ai (vz base b rel A x y Z ab v l p 8 _ _ _ (I.but (But.of_below D)) (J.but (But.of_below D)) (h.below D) Y);go_enter func152,ntmps152;go_wp2_with fail;refine C.u.mono ?_;rintro e w1 ⟨v1,rfl,V,ac⟩;have R:=ai (Q.u.trans V);have U:=ai ac;go_wp2;go_end0;exact ⟨_,rfl,R.u,U.u⟩
def Lg(base b rel bb e):Vs base b rel bb e:=by
 induction e using Ex.ind with
 |h0 n r=>
  intro v l w val h A hl;have U:(aC ⟨n,none,r⟩).length=1:=by simp [aC]
  rw [U] at hl
  rcases h with ⟨D,sv,rfl,Y⟩|⟨D,rfl⟩|⟨D,rfl⟩
  ·have C:be rel l.length ⟨n,none,r⟩=gC l.length rel ⟨4,⟨#[]⟩,0⟩:=by simp [be,D]
   obtain ⟨sa,sc,rfl⟩:=ax Y;rw [C];exact Ld base b rel v l _ _ _ _ w A aj
  ·have C:be rel l.length ⟨n,none,r⟩=[⟨2,n.n1,0⟩]:=by simp [be,D]
   rw [C];exact PK base b rel v l _ _ w A aj
  have C:be rel l.length ⟨n,none,r⟩=gC l.length n.n1 ⟨5,n.n2,0⟩:=by simp [be,D]
  rw [C];exact PL base b rel v l _ _ _ _ _ w A aj
 |h1 n a=>intro v l w val h;exact h.elim
 |h2 n a c iha WR=>
  intro v l w val h A hl;have V:(aC ⟨n,some a,some c⟩).length=(aC a).length+1+(aC c).length:=by simp [aC];omega
  rw [V] at hl;obtain ⟨Z,ab,rfl,Q,R⟩:=h
  by_cases k3:n.kind=3
  ·have I:gy n.kind=244:=by simp [gy,k3]
   rw [be,if_pos k3,I];exact Dg base b rel bb a c iha WR v l _ _ _ w Q R A aj
  by_cases J:n.kind=4
  ·have I:gy n.kind=245:=by simp [gy,J]
   rw [be,if_neg k3,if_pos J,I];exact Le base b rel bb a c iha WR v l _ _ _ w Q R A aj
  have I:gy n.kind=246:=by simp [gy,k3,J]
  rw [be,if_neg k3,if_neg J,I];exact Lf base b rel bb a c iha WR v l _ _ _ w Q R A aj
abbrev k6(a0:ae)(a1:Int)(a2:ae)(a3:TypeId)(a4:ag):Obj:=.cells #[.string a0,.int .i64 a1,.string a2,.iface a3 a4] 198
abbrev AF:Obj:=.cells #[.string ⟨#[]⟩,.string ⟨#[]⟩,.slice none 0 0] 201
abbrev vA(a0:ae):Obj:=.cells #[.string a0,.slice none 0 0] 293
def fY(t:ae)(e:Ex):List Ins:=be t 0 e++[⟨0,⟨#[]⟩,0⟩]
def YE(k t:ae)(e:Ex)(w:af)(e':Ending)(w':af):Prop:=∃v',e'=.returned (.agg #[.string k,.string t,v'])/\an w w'/\w'.ownsRow w.heap.size 298 3 v' (fY t e).length ((fY t e).flatMap Dc)
def Xt{P fn p ty}(h:fn.results=#[.cell p ty])(tmps w g cs' t d)(D:tmps.getD p undef=.pointer (some ⟨g,0,none⟩))(A:∃cs,aE w g cs t/\cs=cs')(I:P.underlying ty=some d)(C:(match d with| .struct _| .array _ _=>true|_=>false)=true)(hi:(P.info? ty).map (·.size)=some cs'.size):
  (results fn tmps).run P w=.ok (.agg cs') w:=by
 obtain ⟨cs,A,rfl⟩:=A;exact results_cell_row h tmps w g t cs (0,0) d D A I C hi
def Ga(ac:Nat)(k t)(pl:Nat)(e val w)(h:bB ac w e val)(aJ:(aC e).length<=1000):
  Calls prog 101 #[.agg #[.string k,.int .i64 pl,.string t,val]] w (YE k t e w):=by
 obtain ⟨A,C,rfl⟩:=h.isI;have ab:an w (((w.alloc (k6 k pl t A C)).alloc AF).alloc (vA t)):=(((az w.heap.size w).alloc aD _).alloc ar _).alloc aM _;have Z:WI w.heap.size (((w.alloc (k6 k pl t A C)).alloc AF).alloc (vA t)) (w.heap.size+1+1) t (.slice none 0 0) []:=⟨aE.new' _ _ _ _ ar,bL,aj⟩;have aI:=ai (((aE.new w #[.string k,.int .i64 pl,.string t,.iface A C] 198).alloc AF).alloc (vA t));have aB:=ai ((aE.new' (w.alloc (k6 k pl t A C)) #[.string ⟨#[]⟩,.string ⟨#[]⟩,.slice none 0 0] 201 (w.heap.size+1) ar).alloc (vA t));have aK:=lH t e 0;have U:=ai (Lg w.heap.size (w.heap.size+1+1) t ac e (.slice none 0 0) [] _ _ (h.but (But.of_below ab)) Z aM);have av:=ai Z;have ag:=ai ab;rw [List.length_nil] at U;go_enter func101,ntmps101;go_wp2_with fail;generalize (((w.alloc (k6 k pl t A C)).alloc AF).alloc (vA t))=W at*;refine (ak U).mono ?_;rintro e' w1 ⟨v1,rfl,f1,af⟩;rw [List.nil_append] at af;have ah:=ai (iS w.heap.size (w.heap.size+1+1) t v1 _ ⟨0,⟨#[]⟩,0⟩ w1 af aj);have al:=ai f1;go_wp2_with fail;refine ah.u.mono ?_;rintro e' I ⟨aS,rfl,f2,R⟩;have J:=al.u.trans f2;have D:=J.blk aI.u aj (by simp [Value.ownBlock]);have Q:=J.blk aB.u aj (by simp [Value.ownBlock]);obtain ⟨aL,aN,aO,aP⟩:I.cell? ⟨w.heap.size,0,none⟩=some (.string k)/\I.cell? ⟨w.heap.size,1,none⟩=some (.int .i64 pl)/\I.cell? ⟨w.heap.size,2,none⟩=some (.string t)/\I.cell? ⟨w.heap.size,3,none⟩=some (.iface A C):=⟨D.cell rfl,D.cell rfl,D.cell rfl,D.cell rfl⟩;obtain ⟨aV,aW,aX⟩:=three Q;have aY:=Q.fz;obtain ⟨ad,ae,rfl⟩:=ax R.row;obtain ⟨aQ,aR⟩:=hY R.blk;have am:=ai (ag.u.trans (J.below av.u));have V:=ai Q;have ap:=ai R;go_wp2_with fail;have hn:(fY t e).length=(be t 0 e).length+1:=by simp [fY]
 refine bq (v:=.agg #[.string k,.string t,.slice ad ((be t 0 e).length+1) ae]) (Xt results101 _ _ (w.heap.size+1) _ 201 _ rfl ?hB underlying201 rfl aw) rfl ?post
 case hB=>exact ⟨_,(cM V),bc⟩
 case post=>
  have K0:=V.u;have aF:=ap.u.row;have aG:=bN aF K0 au 0 (.string k);have K1:=K0.set 0 (.string k);have aH:=bN aG K1 au 1 (.string t);have ay:=K1.set 1 (.string t);have Y:=bN aH ay au 2 (.slice ad ((be t 0 e).length+1) ae);refine ⟨_,rfl,(cd am),?_⟩;rw [hn];rw [show (be t 0 e++[(⟨0,⟨#[]⟩,0⟩:Ins)]).length=(be t 0 e).length+1 from by simp] at Y;exact Y
abbrev gu:=@Option.some.inj
abbrev iK:=@List.pairwise_iff_getElem
abbrev pO:=@List.map_set
abbrev ju:=@List.getElem_set_ne
abbrev rS:=@List.mem_or_eq_of_mem_set
abbrev AG:=@List.pairwise_append
abbrev vB:=@Nat.lt_or_gt_of_ne
def Xu (h:aA:=by
 rw [hpe];exact ek.symm):aA:=h
def Xv (h:aA:=by
 rw [hpe];exact e):aA:=h
def Xw (h:aA:=by
 by_cases A:i=a
 ·subst A;rw [jq] at hk;rw [ju aj] at e;exact old b hb' aj e (by simpa [Value.ownBlock] using hk)
 rw [ju A] at hk
 by_cases C:i=b
 ·subst C;rw [jq] at e;exact old a ha aj hk (by simpa [Value.ownBlock] using e)
 rw [ju C] at e;exact hap a b ha hb' hab k hk e):aA:=h
def PM (h:aA:=by
 subst e;rw [jq];simp only [aZ,List.length_cons,List.length_nil,cT,cq,mq,eh];exact hown):aA:=h
def PN (h:aA:=by
 refine AG.2 ⟨h.ap,ar,fun p _ q A k C e=> ?_⟩;rw [aR] at A;subst A;simp [Value.ownBlock] at e):aA:=h
def PO (h:aA:=by
 rcases vB hji with A|A
 ·exact hap j i hj hil A g hk Xv
 exact hap i j hil hj A g Xv hk):aA:=h
def PQ (h:aA:=by
 rcases vB e with A|A
 ·exact hap i j hil hj A k Xu hk
 exact hap j i hj hil A k hk Xu):aA:=h
def fK{α:Type}(n:Nat)(g:List (List α)):List (List α):=g++List.replicate (n-g.length) []
def fL{α:Type}(n:Nat)(x:α)(g:List (List α)):List (List α):=(fK n g).set (n-1) ((fK n g).getD (n-1) []++[x])
def iT{α:Type}(rk:α->Nat)(l:List α):List (List α):=l.foldl (fun g x=>fL (rk x) x g) []
def AH(rk:α->Nat)(l:List α)(x:α):iT rk (l++[x])=fL (rk x) x (iT rk l):=by simp [iT]
def Ue(x:It):List ag:=[.string x.1.1.name,.int .i64 x.2.1.place,.string x.2.1.name,x.2.2]
structure oj(base:Nat)(w:af)(sv:ag)(ps:List (ag×List It)):Prop where
 row:w.ownsRow base 196 1 sv ps.length (ps.map Prod.fst)
 inn:∀p∈ps,w.ownsRow base 198 4 p.1 p.2.length (p.2.flatMap Ue)
 ap:ps.Pairwise (fun p q=>∀k,p.1.ownBlock=some k->q.1.ownBlock≠some k)
def oj.frame{base ps}(h:oj base w sv ps)(k:∀(g:Nat)(cs:Array ag)(T:TypeId)(f:Nat×Nat),w.heap[g]? =some (Obj.cells cs T f)->(T=196\/T=198)->w'.heap[g]? =w.heap[g]?):oj base w' sv ps:=
 ⟨ay h.row (fun g cs f _ A=>k g cs _ f A (.inl rfl)),fun p C=>ay (h.inn p C) (fun g cs f _ A=>k g cs _ f A (.inr rfl)),h.ap⟩
def oj.below{base ps}(h:oj base w sv ps)(k:an w w'):oj base w' sv ps:=h.frame (fun g cs T f A _=>k.block g (lt_of_some A))
def Lh(sv:ag)(ps:List (ag×List It))(k:Nat):Prop:=sv.ownBlock=some k\/∃p∈ps,p.1.ownBlock=some k
def oj.lt{base ps}(h:oj base w sv ps)(A:Lh sv ps k):base<=k/\k<w.heap.size:=by
 rcases A with e|⟨p,C,e⟩
 ·exact h.row.lt k e
 exact (h.inn p C).lt k e
def nI{base:Nat}(h:w.ownsRow base e size v n xs)(A:v.ownBlock=some k):∃cs,aE w k cs e:=by
 rcases h.2 with ⟨rfl,_⟩|⟨g,cap,C,rfl,_,D,_⟩
 ·cases A
 simp only [Value.ownBlock,aL] at A;subst A;exact ⟨C,D⟩
def oj.ty{base ps}(h:oj base w sv ps)(C:Lh sv ps k):∃cs T,aE w k cs T/\(T=196\/T=198):=by
 rcases C with e|⟨p,D,e⟩
 ·obtain ⟨cs,A⟩:=nI h.row e;exact ⟨cs,_,A,.inl rfl⟩
 obtain ⟨cs,A⟩:=nI (h.inn p D) e;exact ⟨cs,_,A,.inr rfl⟩
def oj.off{base ps}(h:oj base w sv ps)(C:aE w g cs T)(h1:T≠196)(h2:T≠198):¬Lh sv ps g:=fun e=>by
 obtain ⟨I,T',A,D⟩:=h.ty e;unfold aE at C A;rw [C] at A
 cases A
 rcases D with e|e
 ·exact h1 e
 exact h2 e
structure xA(sb:Nat)(sv:ag)(ps:List (ag×List It))(w w':af)(xi:ag)(ps':List (ag×List It)):Prop where
 but:bG (fun k=>k=sb\/Lh sv ps k) w w'
 own:∀k,Lh xi ps' k->Lh sv ps k\/w.heap.size<=k
section
variable {sb:Nat}{sv xi aaZ:ag}{ps ps' aa0:List (ag×List It)}{w w' w'':af}
def xA.below(h:an w w'):xA sb sv ps w w' sv ps:=⟨.of_below h,fun _ e=> .inl e⟩
def xA.trans(h:xA sb sv ps w w' xi ps')(k:xA sb xi ps' w' w'' aaZ aa0):xA sb sv ps w w'' aaZ aa0 where
 but:=⟨k.but.os.trans h.but.os,k.but.tape.trans h.but.tape,k.but.output.trans h.but.output,aP h.but.size k.but.size,fun i hi hs=>(k.but.block i (cK hi h.but.size) (fun e=>by
  rcases e with e|e
  ·exact hs (.inl e)
  rcases h.own i e with e|e
  ·exact hs (.inr e)
  omega)).trans (h.but.block i hi hs)⟩
 own:=fun i hi=>by
  exact PH
def oj.push{base:Nat}(h:oj base w sv ps)(J:w.grownBy w' sv.ownBlock)(Q:w'.ownsRow base 196 1 (.slice (some ⟨g,0,none⟩) (ps.length+1) cap) (ps.length+1) (ps.map Prod.fst++[.slice none 0 0])):oj base w' (.slice (some ⟨g,0,none⟩) (ps.length+1) cap) (ps++[(.slice none 0 0,[])]):=by
 refine ⟨by simpa using Q,fun p D=> ?_,?_⟩
 ·rcases aQ.1 D with D|D
  ·exact ay (h.inn p D) (fun g cs f _ I=>J.block g (lt_of_some I) (dH h.row I au))
  rw [aR] at D;subst D;exact bL
 exact PN
def xA.push{base}(h:oj base w sv ps)(I:w.grownBy w' sv.ownBlock)(D:sv.ownBlock=some g\/w.heap.size<=g)(u):xA sb sv ps w (w'.setCell ⟨sb,0,none⟩ u) (.slice (some ⟨g,0,none⟩) (ps.length+1) cap) (ps++[(.slice none 0 0,[])]):=by
 refine ⟨(dr I (fun k C=> .inr (.inl C))).set (.inl rfl) _,fun k C=> ?_⟩
 rcases C with e|⟨p,A,e⟩
 ·simp only [Value.ownBlock,aL] at e;subst e
  rcases D with e|e
  ·exact .inl (.inl e)
  exact .inr e
 rcases aQ.1 A with A|A
 ·exact .inl (.inr ⟨p,A,e⟩)
 rw [aR] at A;subst A;simp [Value.ownBlock] at e
def oj.put{base}{p:ag×List It}{x}(h:oj base w (.slice (some ⟨g0,0,none⟩) ps.length c0) ps)(hi:ps[i]? =some p)(I:w.grownBy w' p.1.ownBlock)(hown:w'.ownsRow base 198 4 (.slice (some ⟨g,0,none⟩) (p.2.length+1) cap) (p.2.length+1) (p.2.flatMap Ue++Ue x))(Q:p.1.ownBlock=some g\/w.heap.size<=g):
  oj base (w'.setCell ⟨g0,i,none⟩ (.slice (some ⟨g,0,none⟩) (p.2.length+1) cap)) (.slice (some ⟨g0,0,none⟩) ps.length c0) (ps.set i (.slice (some ⟨g,0,none⟩) (p.2.length+1) cap,p.2++[x])):=by
 have hil:i<ps.length:=by
  rcases gh i ps.length with h|h
  ·exact h
  rw [kR h] at hi;cases hi
 have U:p∈ps:=bA hi;have hpe:ps[i]=p:=by rw [aH hil] at hi;exact gu hi
 have J:w'.ownsRow base 196 1 (.slice (some ⟨g0,0,none⟩) ps.length c0) ps.length (ps.map Prod.fst):=ay h.row (fun g cs f _ D=>I.block g (lt_of_some D) (dH (h.inn p U) D au));obtain ⟨Y,R,_⟩:=dx J;have hap:=iK.1 h.ap;refine ⟨?_,fun q V=> ?_,?_⟩
 ·have:=oh J i (.slice (some ⟨g,0,none⟩) (p.2.length+1) cap);rw [fF,pO];exact this
 ·obtain ⟨j,hj,rfl⟩:=dk V;rw [fF] at hj;refine bN ?_ R au _ _
  by_cases e:i=j
  ·exact PM
  rw [ju e];refine cC (h.inn _ (bn hj)) (fun k cs f hk D=>I.block k (lt_of_some D) (fun ek=> ?_));exact PQ
 ·refine iK.2 (fun a b ha hb' hab k hk e=> ?_);rw [fF] at ha hb';have old:∀j (hj:j<ps.length),j≠i->ps[j].1.ownBlock=some k->g=k->False:=fun j hj hji hk e=>by
   subst e
   rcases Q with e|e
   ·exact PO
   have:=((h.inn _ (bn hj)).lt g hk).2;omega
  exact Xw
def xA.put{p:ag×List It}{l}(hi:ps[i]? =some p)(I:w.grownBy w' p.1.ownBlock)(D:p.1.ownBlock=some g\/w.heap.size<=g)(u):
  xA sb (.slice (some ⟨g0,0,none⟩) n c0) ps w (w'.setCell ⟨g0,i,none⟩ u) (.slice (some ⟨g0,0,none⟩) n c0) (ps.set i (.slice (some ⟨g,0,none⟩) (l.length) cap,l)):=by
 have C:p∈ps:=bA hi;refine ⟨(dr I (fun k h=> .inr (.inr ⟨p,C,h⟩))).set (.inr (.inl rfl)) _,fun k h=> ?_⟩
 rcases h with e|⟨q,A,e⟩
 ·exact .inl (.inl e)
 ·rcases rS A with A|rfl
  ·exact .inl (.inr ⟨q,A,e⟩)
  simp only [Value.ownBlock,aL] at e;subst e
  rcases D with e|e
  ·exact .inl (.inr ⟨p,C,e⟩)
  exact .inr e
def xA.ck{base:Nat}(h:oj base w sv ps)(k:xA sb sv ps w w' xi ps')(C:aE w sb #[sv] 194):KeepsFrom B w w'/\CK w w':=by
 have key:∀(i:Nat)(o:Obj),w.heap[i]? =some o->(o.isCells=false\/∃cs T f,o=.cells cs T f/\MT T)->w'.heap[i]? =w.heap[i]? :=fun i o hi ho=>k.but.block i (lt_of_some hi) (fun e=>by
  rcases e with e|e
  ·subst e;unfold aE at C;rw [C] at hi
   cases hi
   rcases ho with ho|⟨cs,T,f,ho,A⟩
   ·cases ho
   cases ho
   exact absurd A (by unfold MT;decide)
  obtain ⟨cs,T,D,I⟩:=h.ty e;unfold aE at D;rw [D] at hi
  cases hi
  rcases ho with ho|⟨Q,T',f',ho,A⟩
  ·cases ho
  cases ho
  rcases I with rfl|rfl<;>exact absurd A (by unfold MT;decide))
 exact ⟨⟨k.but.size,fun i o _ hi ho=>(key i o hi (.inl ho)).trans hi⟩,k.but.size,fun g cs T f J A=>key g _ J (.inr ⟨cs,T,f,rfl,A⟩)⟩
def xA.outer{base:Nat}(h:oj base w sv ps)(k:xA sb sv ps w w' xi ps')(h0:bG (fun k=>k=sb) W0 w)(A:W0.heap.size<=base):bG (fun k=>k=sb) W0 w':=
 ⟨k.but.os.trans h0.os,k.but.tape.trans h0.tape,k.but.output.trans h0.output,aP h0.size k.but.size,fun i hi hs=>(k.but.block i (cK hi h0.size) (fun e=>by
  rcases e with e|e
  ·exact hs e
  have:=(h.lt e).1;omega)).trans (h0.block i hi hs)⟩
def oj.set{base}(h:oj base w sv ps)(A:aE w g cs T)(h1:T≠196)(h2:T≠198)(o u):oj base (w.setCell ⟨g,o,none⟩ u) sv ps:=⟨bN h.row A h1 o u,fun p C=>bN (h.inn p C) A h2 o u,h.ap⟩
def oj.base{base:Nat}(h:oj base w sv ps)(A:base'<=base):oj base' w sv ps:=⟨bg h.row A,fun p C=>bg (h.inn p C) A,h.ap⟩
def oj.oth{base:Nat}(h:oj base w sv ps)(C:w.grownBy w' row)(D:∀r,row=some r->∃o:Obj,w.heap[r]? =some o/\o.isCells=false):oj base w' sv ps:=h.frame (fun g cs T f A _=>C.block g (lt_of_some A) (fun e=>by
 obtain ⟨o,ho,hc⟩:=D g e.symm;rw [A] at ho
 cases ho
 cases hc))
end
def tV:Op->Bool
 | .defer _=>true
 |_=>false
def vC{l:Nat}{o:Oper}{a:Act}{K:Act->af->Prop}{Q:Exit->Act->af->Prop}(A:tV o.op=false)(h:o.wp P a w K Q):o.wpIn (Fence.wide.inRound l) n P a w K Q:=by
 refine ⟨fun _ _=>trivial,?_⟩;rw [show (Fence.wide.inRound l).round=some l from rfl,Oper.semAt_some l _ _ (fun c e=>by rw [e] at A;cases A)];unfold Oper.wp at h;generalize (execOp a.eval o).run P w=r at*
 cases r with
 |ok x w'=>
  cases x<;>simp only [Oper.upon,Oper.uponIn] at h ⊢<;>first|exact h|exact ⟨(fun e=>by cases e),rP l (js.2 h)⟩|exact ⟨(fun e=>by cases e),fun c cs _=>let ⟨v,w',r,s⟩:=h c cs;⟨v,w',r,stepsIn_wide.2 s⟩⟩
 |halt x w'=>cases x<;>simp only [Oper.upon,Oper.uponIn] at h ⊢<;>exact h
def ol{l n P md ops Q}(D:∀(i:Nat)(o:Oper),ops[i]? =some o->tV o.op=false)(C:¬LetsOut Q):∀(fuel:Nat)(I:Array Bool)(a:Act)(w:af),wpAny P md ops Q fuel I a w->wpAnyIn (Fence.wide.inRound l) n P md ops Q fuel I a w
 |0,_,_,_,h=>h
 |fuel+1,I,a,w,h=>⟨h.1,fun i hi=>by
  have A:=h.2 i hi;unfold wpOp at A;unfold wpOpIn
  cases ho:ops[i]? with
  |none=>
   simp only [ho] at A ⊢;exact ol D C fuel _ _ _ A
  |some o=>
   simp only [ho] at A ⊢
   by_cases J:Region.wanted o (yielded ops a.tmps)=true
   ·rw [if_pos J] at A ⊢
    rcases A with A|⟨_,A⟩
    ·exact Oper.wpIn_mono (fun a w=>ol D C fuel _ a w) (vC (D i o ho) A)
    exact absurd A C
   rw [if_neg J] at A ⊢;exact ⟨fun _ _=>trivial,ol D C fuel _ _ _ A⟩⟩
def QN(Q:Exit->Act->af->Prop):Exit->Act->af->Prop:=fun e a w=>e=.normal/\Q .normal a w
def qy{S l id ops Q a}(J:P.follows .mixedOrders=true)(D:(ops.all fun o=> !(tV o.op))=true)(C:S w.drew)(h:S w.drew->wpAnyH P .any ops (QN Q) S ops.size (Array.replicate ops.size false) a w.drew):(Code.region id ops true).wpIn (Fence.wide.inRound l) n P Q a w:=by
 have A:¬LetsOut (QN Q):=by
  rintro ⟨_,_,e,_⟩
  cases e
 have I:∀(i:Nat)(o:Oper),ops[i]? =some o->tV o.op=false:=fun i o ho=>by
  obtain ⟨hi,rfl⟩:=Array.getElem?_eq_some_iff.1 ho
  simpa using Array.all_eq_true.1 D i hi
 exact wpIn_mono (Q:=QN Q) (wpIn_region_any J (ol I A _ _ _ _ (wpAny_of_held _ _ _ _ (h C)))) (fun e a w h=>by rw [h.1];exact h.2)
section
open Go.Shelf
abbrev eo:=@List.getElem?_map
abbrev rT:Obj:=.cells #[.slice none 0 0] 194
def aa1 (h:aA:=by
 obtain ⟨k0,k1,k2,k3,k4⟩:=hH;exact ⟨am k0 HBD,am k1 HBD,am k2 HBD,am k3 HBD,am k4 HBD⟩):aA:=h
def Xx (h:aA:=by
 obtain ⟨k0,k1,D,k3,I⟩:=EU;have A:∀(g o:Nat)(v u:ag),g≠g0->w5.cell? ⟨g,o,none⟩=some v->(w5.setCell ⟨g0,N-1,none⟩ u).cell? ⟨g,o,none⟩=some v:=fun g o v u C hv=>(ji (w:=w5) (dN _ _ _ _ C)).trans hv
 exact ⟨A _ _ _ _ E0 k0,A _ _ _ _ E1 k1,A _ _ _ _ E2 D,A _ _ _ _ E2 k3,A _ _ _ _ E2 I⟩):aA:=h
def Xy (h:aA:=by
 clear hK K;refine wpAnyH_done aw ?_ _;refine ⟨rfl,?_⟩;have A:=Di B3.u Xz.u HFR.u HBK.u HSI.u hil hlt2 HP.u (ak HJ) hmx hN2 HNN.u bE fg nx;rw [show List.map Subtype.val pre++[((t,Value.slice va vn vc),(r,Value.iface ra rv))]=List.map Subtype.val (pre++[⟨((t,Value.slice va vn vc),(r,Value.iface ra rv)),hx⟩]) by simp] at A;exact A):aA:=h
def PR (h:aA:=by
 obtain ⟨k0,k1,A,k3,C⟩:=hH;exact ⟨bE.cell k0 HN0,bE.cell k1 PS,bE.cell A YF,bE.cell k3 YF,bE.cell C YF⟩):aA:=h
def hZ (h:aA:=by
 intro w' A;obtain ⟨k0,k1,C,k3,D⟩:=A
 go_simp
 all_goals with_reducible rfl):aA:=h
def h6(q:aU) (h:bF aU->aA:=by
 intro zq;simp only [Act.put,List.getElem_toArray,List.getElem_cons_zero,List.getElem_cons_succ,fo,List.set_cons_zero,List.set_cons_succ];exact zq.1):aA:=h ⟨q⟩
attribute [local go_sem] Oper.semAt_some
def kI{l:Nat}{I:Array Oper}{o:Oper}{a:Act}{Q:Exit->Act->af->Prop}(ae:o.guard=none)(s x:Operand)(t:TypeId)
  (ho:o.op=.call {callee:=.builtin .append,args:=#[s,x],argTypes:=#[t,t]})
  (base:Nat) (e:TypeId) (i:TypeInfo) (z:ag) (size bytes:Nat) (an:P.underlying t=some (.slice e)) (hi:P.info? e=some i) (ar:i.zero=some z)
  (al:i.size=size) (ac:i.bytes=bytes) (au:z.cells.size=size) (am:0<size)
  (v:ag) (k:Nat) (D:List ag) (hs:a.eval s=v) (ak:w.ownsRow base e size v k D)
  (C:Addr) (m c:Nat) (A:List ag) (ap:a.eval x=.slice (some C) m c) (ah:A.length=m*size) (aj:∀j u,A[j]? =some u->w.cell? (C.add j)=some u) (h1:∀u∈A,u.oneCell'=true)
  (ai:0<m) (V:k+m<=maxLen) (ad:(k+m)*bytes<=140737488355328) (ab:base<=w.heap.size) (H:Nat) (Y:w.heap.size=H)
  (h:∀g cap w',w'.ownsRow base e size (.slice (some ⟨g,0,none⟩) (k+m) cap) (k+m) (D++A)->w.grownBy w' v.ownBlock->(v.ownBlock=some g\/g=H)->g<w'.heap.size->wpListIn (Fence.wide.inRound l) n P I Q rest (a.put o.dst (.slice (some ⟨g,0,none⟩) (k+m) cap)) w'):wpListIn (Fence.wide.inRound l) n P I Q (o::rest) a w:=
 wpListIn_plain ae fun _ Z=>vC (by rw [ho];rfl) (wp_append_lies w s x t ho base e i z size bytes an hi ar al ac au am v k D hs ak C m c A ap ah aj h1 ai V ad ab H Y fun g cap w' h2 J R U=>Z _ _ (h g cap w' h2 J R U))
def Tryz.infoRu:(Tryz.prog.info? 198).map (fun i=>(i.zero,i.size,i.bytes))=some (some (.agg #[.string ⟨#[]⟩,.int .i64 0,.string ⟨#[]⟩,.nilIface]),4,56):=by kernel_rfl
def Tryz.infoRus:(Tryz.prog.info? 196).map (fun i=>(i.zero,i.size,i.bytes))=some (some (.slice none 0 0),1,24):=by kernel_rfl
def XA(ts:List Ty)(x:It):Nat:=(cL ts [(x.1.1.name,x.2.1.name)]).length
def rU(nd):∀(k:Nat)(q f:List Sp),f.length<=(dQ nd k q f).length
 |0,_,f=>by simp [dQ]
 |k+1,[],f=>by simp [dQ]
 |k+1,x::q,f=>by
  unfold dQ
  split
  ·exact rU nd k _ f
  exact aP ar (rU nd k _ (f++[x]))
def YI(ts x):1<=XA ts x:=by
 unfold XA cL;generalize (x.1.1.name,x.2.1.name)=s;obtain ⟨k,A⟩:∃k,eK ts [s]+1=k+1:=⟨_,rfl⟩;rw [A];unfold dQ;rw [if_neg ar];exact aP ar (rU _ _ _ _)
def rk_le{tl}(h:MC b w sv ts tl)(x):XA ts x<=1000001000001:=by
 have h1:=s6 ts [(x.1.1.name,x.2.1.name)];have h2:=rM h [(x.1.1.name,x.2.1.name)] ar;unfold XA;omega
def PY{g A:List (List α)}(h:g=A++List.replicate j [])(D:n<=g.length)(C:g.length<=max A.length n):g=fK n A:=by
 subst h;unfold fK;rw [aZ,vd] at D C;rw [show n-A.length=j by omega]
def PZ(w:af)(g:Nat):Nat:=match w.cell? ⟨g,0,none⟩ with
 |some (.slice _ n _)=>n
 |_=>0
def Dk{a}(h:w.cell? ⟨g,0,none⟩=some (.slice a n c)):PZ w g=n:=by unfold PZ;rw [h]
structure Vt(sb:Nat)(rk:It->Nat)(W0:af)(pre:List It)(W:af)(sv:ag)(ps:List (ag×List It)):Prop where
 but:bG (fun k=>k=sb) W0 W
 blk:aE W sb #[sv] 194
 st:oj W0.heap.size W sv ps
 snd:ps.map Prod.snd=iT rk pre
 len:ps.length<=1000001000001
 inn:∀p∈ps,p.2.length<=pre.length
def Vt.oth{rk ps}(h:Vt sb rk W0 pre W sv ps)(A:W.grownBy W' row)(C:∀r,row=some r->W0.heap.size<=r/\∃o:Obj,W.heap[r]? =some o/\o.isCells=false):Vt sb rk W0 pre W' sv ps:=
 ⟨⟨A.os.trans h.but.os,A.tape.trans h.but.tape,A.output.trans h.but.output,aP h.but.size A.size,fun k D hs=>(A.block k (cK D h.but.size) (fun e=>by have:=(C k e.symm).1;omega)).trans (h.but.block k D hs)⟩,
  fG (β:=Unit) W0.heap.size _ _ _ () W W' row h.blk A C,h.st.oth A (fun r e=>(C r e).2),h.snd,h.len,h.inn⟩
def Vt.below{rk ps}(h:Vt sb rk W0 pre W sv ps)(k:an W W'):Vt sb rk W0 pre W' sv ps:=
 ⟨h.but.trans (.of_below k),h.blk.below k,h.st.below k,h.snd,h.len,h.inn⟩
def vD{A ps:List (ag×List It)}(h:A.map Prod.snd=ps.map Prod.snd++List.replicate j [])(C:∀p∈ps,p.2.length<=n):∀p∈A,p.2.length<=n:=fun p D=>by
 have h1:p.2∈A.map Prod.snd:=aN.2 ⟨p,D,rfl⟩;rw [h] at h1
 rcases aQ.1 h1 with h1|h1
 ·obtain ⟨q,I,e⟩:=aN.1 h1;rw [<-e];exact C q I
 rw [FD h1];exact gH _
def Li{A ps:List (ag×List It)}{pl:List It}{x:It}(D:N-1<A.length)(C:A[N-1]? =some (pv,pl))(h:A.map Prod.snd=fK N (ps.map Prod.snd)):(A.set (N-1) (v',pl++[x])).map Prod.snd=fL N x (ps.map Prod.snd):=by
 unfold fL;rw [pO,<-h]
 congr 2
 rw [ef,eo,C]
 rfl
def Di{rk w3 sv1 ps P0 pl x}(V:an W w3)(A:Vt sb rk W0 pre w3 sv1 ps)(ac:xA sb sv1 ps w3 wr (.slice (some ⟨g0,0,none⟩) P0.length sc) P0)(ab:aE wr sb #[.slice (some ⟨g0,0,none⟩) P0.length sc] 194)(ae:oj W0.heap.size wr (.slice (some ⟨g0,0,none⟩) P0.length sc) P0)(ag:N-1<P0.length)(av:¬P0.length<N)(C:P0[N-1]? =some (pv,pl))(ad:∃j,P0.map Prod.snd=ps.map Prod.snd++List.replicate j [])(ai:P0.length<=max ps.length N)(ar:N<=1000001000001)(am:rk x=N)(R:(wr.alloc o).drew.grownBy w5 pv.ownBlock)(ak:w5.ownsRow W0.heap.size 198 4 (.slice (some ⟨g5,0,none⟩) (pl.length+1) aT) (pl.length+1) (pl.flatMap Ue++Ue x))(ah:pv.ownBlock=some g5\/g5=wr.heap.size+1):
  KeepsFrom W0.heap.size W (w5.setCell ⟨g0,N-1,none⟩ (.slice (some ⟨g5,0,none⟩) (pl.length+1) aT))/\CK W (w5.setCell ⟨g0,N-1,none⟩ (.slice (some ⟨g5,0,none⟩) (pl.length+1) aT))/\∃sv ps,Vt sb rk W0 (pre++[x]) (w5.setCell ⟨g0,N-1,none⟩ (.slice (some ⟨g5,0,none⟩) (pl.length+1) aT)) sv ps:=by
 have J:an wr ((wr.alloc o).drew):=((az _ wr).alloc aD o).drew;have I:=ae.below J;have Y:(pv,pl).1.ownBlock=some g5\/(wr.alloc o).drew.heap.size<=g5:=by
  rcases ah with e|e
  ·exact .inl e
  exact .inr aM
 have F:=(ac.trans (xA.below J)).trans (xA.put (sb:=sb) (l:=pl++[x]) (cap:=aT) C R Y (.slice (some ⟨g5,0,none⟩) (pl.length+1) aT));have D:=ab.below J;have af:aE w5 sb _ 194:=(R.block _ D.lt (own_ne (I.inn _ (bA C)) D au)).trans D;obtain ⟨c1,c2⟩:=F.ck (B:=W0.heap.size) A.st A.blk;obtain ⟨j,Z⟩:=ad;have al:=PY (n:=N) Z (by rw [bX];omega) (by rw [bX,bX];exact ai);have aw:=A.len;obtain ⟨ap,Q,_⟩:=dx I.row;have aj:sb≠g0:=fun e=>by
  subst e;unfold aE at Q D;rw [D] at Q;simp at Q
 refine ⟨(jt V).trans c1,(CK.below V).trans c2,_,P0.set (N-1) (.slice (some ⟨g5,0,none⟩) (pl.length+1) aT,pl++[x]),⟨F.outer A.st A.but aD,af.other aj _,?_,?_,?_,?_⟩⟩
 ·exact I.put C R ak Y
 ·rw [AH,am,<-A.snd];exact Li ag C al
 ·rw [fF];omega
 ·intro q U;rw [aZ];have h2:=vD Z A.inn
  rcases rS U with U|rfl
  ·have:=h2 q U;simp;omega
  have:=h2 _ (bA C);simp at this ⊢;omega
def Gb{cs'}(h:aE w g cs T)(A:aE w g' cs' T')(C:T≠T'):g≠g':=fun e=>by
 subst e;unfold aE at h A;rw [h] at A
 cases A
 exact C rfl
def YJ(ts:List Ty)(b:Nat)(L:List It)(w:af)(e:Ending)(w':af):Prop:=∃v ps,e=.returned v/\an w w'/\oj w.heap.size w' v ps/\ps.map Prod.snd=iT (XA ts) L/\ps.length<=1000001000001/\∀p∈ps,p.2.length<=L.length
def Lj(b aJ ts tl w)(h:MC b w aJ ts tl)(ah:Ty×ag->List (Rl×ag))(bC:U9 b w tl ah):
  Calls prog 100 #[.agg #[aJ]] w (YJ ts b (qt ah tl) w):=by
 obtain ⟨i0,cd,cj,ck,cl⟩:=bK Tryz.infoRus;obtain ⟨i1,hi1,hy0,hy1,hy2⟩:=bK Tryz.infoRu;obtain ⟨R,mn,mc,rfl⟩:=h.form;refine (js (n:=8)).1 ?_;refine callsIn_of_wp_marks func100 rfl trivial ?_ rfl;simp only [ntmps100,rO,List.length_cons,List.length_nil,Nat.reduceAdd,Nat.reduceSub,vj,Array.replicate_zero,vk,vm,List.nil_append,List.cons_append];gi_wp2_with fail;refine ⟨trivial,(js.2 (oS _ _ ⟨_,_,_,rfl⟩)).mono ?_⟩;rintro e w' ⟨rfl,rfl⟩;gi_wp2_with fail;have ae:an w (((w.alloc (aW R mn mc)).alloc rT).alloc (aW R mn mc)):=(((az _ w).alloc aD _).alloc ar _).alloc aM _;have bw:aE (((w.alloc (aW R mn mc)).alloc rT).alloc (aW R mn mc)) w.heap.size #[.slice R mn mc] 75:=((aE.new w _ _).alloc _).alloc _;have aK:aE (((w.alloc (aW R mn mc)).alloc rT).alloc (aW R mn mc)) (w.heap.size+1) o3 194:=(aE.new' (w.alloc (aW R mn mc)) _ _ (w.heap.size+1) ar).alloc _;have bt:aE (((w.alloc (aW R mn mc)).alloc rT).alloc (aW R mn mc)) (w.heap.size+1+1) #[.slice R mn mc] 75:=aE.new' _ _ _ _ ar;have al:=h.below ae;have hF:U9 b (((w.alloc (aW R mn mc)).alloc rT).alloc (aW R mn mc)) tl ah:=fun p aO=>(bC p aO).below ae
 obtain ⟨W0,bI⟩:∃W0,(((w.alloc (aW R mn mc)).alloc rT).alloc (aW R mn mc))=W0:=⟨_,rfl⟩;rw [bI] at ae bw aK bt al hF ⊢;clear bI bC;obtain ⟨L,a5⟩:∃L:List {x:It // Aq b W0 tl x},L.map Subtype.val=qt ah tl:=vo _ _ (FL hF);have cx:L.length<=1000000:=by
  have h1:L.length=(qt ah tl).length:=by rw [<-a5,bX]
  have h2:(qt ah tl).length<=tl.length*1000:=hV _ 1000 tl (fun p aO=>by have:=(hF p aO).llen;simpa using this);have bz:tl.length<=1000:=by have:=al.llen;simpa using this
  omega
 refine wpIn_rangeFunc_ownH (F:=Fence.wide) rfl au (gf:=208) (lb:=#[.pointer (some ⟨w.heap.size+1+1,0,none⟩)]) rfl trivial (enters_of func208 aw rfl)
  (yo b W0 _ ts tl al ah hF _ au _ bt L a5) (fun h k=>CK.trans h k) (CK.b (w:=W0)) bj (fun _=>rfl)
  (fun pre W=>∃aJ ps,Vt (w.heap.size+1) (XA ts) W0 (pre.map Subtype.val) W aJ ps)
  (fun bx pre W=>False)
  (fun pre X aY row hs aN aF=>by obtain ⟨aJ,ps,h⟩:=hs;exact ⟨aJ,ps,h.oth aN aF⟩)
  (fun bx s X aY row hs aN aF=>hs)
  ⟨.slice none 0 0,[],⟨bG.refl _ _,aK,⟨bL,(fun _ h=>by cases h),List.Pairwise.nil⟩,rfl,ar,(fun _ h=>by cases h)⟩⟩
  (fun x a' W=>∃Q,W0.heap.size<=Q/\aE W Q #[.int .i64 x.1.1.1.place,.string x.1.1.1.name,x.1.1.2] 110/\aE W (Q+1) #[.int .i64 x.1.2.1.place,.string x.1.2.1.name,x.1.2.2] 159/\a'={tmps:=#[.agg #[.slice R mn mc],.pointer (some ⟨w.heap.size,0,none⟩),.slice none 0 0,.pointer (some ⟨w.heap.size+1,0,none⟩),.pointer (some ⟨Q,0,none⟩),.pointer (some ⟨Q+1,0,none⟩),undef,.agg #[.slice R mn mc],.func (.func 208) #[] #[.pointer (some ⟨w.heap.size+1+1,0,none⟩)],.agg #[.int .i64 x.1.1.1.place,.string x.1.1.1.name,x.1.1.2],.agg #[.int .i64 x.1.2.1.place,.string x.1.2.1.name,x.1.2.2],undef,undef,undef,undef,undef,undef,undef,undef,undef,undef,undef,undef,undef,undef,undef,undef,undef,undef,undef,undef,undef,undef,undef,undef,undef,undef,undef,undef,undef,undef,undef,undef,undef,undef,undef],defers:=[]})
  (fun x a' _ X aY row hs aN aF=>by
   obtain ⟨Q,h1,h2,bz,b6⟩:=hs;exact ⟨Q,h1,fG (β:=Unit) W0.heap.size _ _ _ () X aY row h2 aN aF,fG (β:=Unit) W0.heap.size _ _ _ () X aY row bz aN aF,b6⟩)
  ?assign ?body ?done ?stop
 case assign=>
  rintro l pre x W K ⟨a9,ps,V⟩ hK;obtain ⟨⟨⟨t,tv⟩,⟨r,b4⟩⟩,hx⟩:=x;obtain ⟨rl,ac,aC⟩:=hx.2;simp only at ac aC hK;obtain ⟨va,vn,vc,rfl⟩:=ac.form;obtain ⟨ra,rv,aL⟩:=(ac.ex _ aC).isI;simp only at aL;subst aL;simp only [itE];have b1:=(az _ W).alloc aD (bD t.place t.name va vn vc);have br:=b1.alloc b1.size (cE r.place r.name ra rv);have cg:=V.but.size;gi_wp2_with fail;exact hK _ _ (((Ap _ _).trans (Ap _ _)).from _) (CK.below br) ⟨a9,ps,V.below br⟩ ⟨W.heap.size,cg,(aE.new W _ _).alloc _,aE.new' _ _ _ _ ar,rfl⟩
 case body=>
  rintro l pre x a' W hl ⟨rr,aF⟩ ⟨a9,ps,V⟩ ⟨Q,cw,ab,Z,rfl⟩ cC;obtain ⟨⟨⟨t,tv⟩,⟨r,b4⟩⟩,hx⟩:=x;obtain ⟨rl,ac,aC⟩:=hx.2;simp only at ac aC ab Z;obtain ⟨va,vn,vc,rfl⟩:=ac.form;obtain ⟨ra,rv,aL⟩:=(ac.ex _ aC).isI;simp only at aL;subst aL;obtain ⟨t0,t1,t2⟩:=ab.three;obtain ⟨r0,r1,r2⟩:=Z.three;have cr:W.cell? ⟨w.heap.size,0,none⟩=some (.slice R mn mc):=(V.but.blk bw aj).cell rfl;have bO:KT W0 W:=fun g cs T f bf ch=>V.but.block g (lt_of_some bf) (fun e=>by
   subst e;unfold aE at aK;rw [aK] at bf
   cases bf
   exact absurd ch au)
  have bq:=al.kt bO V.but.size;have a6:an W (W.alloc (jp t.name r.name)):=bj.alloc aD _;have cf:=rM al [(t.name,r.name)] ar;have C:=ai (nB b W.heap.size _ ts tl (.slice (some ⟨W.heap.size,0,none⟩) 1 1) [(t.name,r.name)] _ (bq.below a6) ⟨rfl,.inr ⟨W.heap.size,1,#[.string t.name,.string r.name],rfl,bY _,aE.new W _ _,ar,au,rfl,rfl⟩⟩ a6.size aj);have PS:=ai (YI ts ((t,.slice va vn vc),(r,.iface ra rv)));have bb:=ai (rk_le al ((t,.slice va vn vc),(r,.iface ra rv)));change Hid (1<=(cL ts [(t.name,r.name)]).length) at PS;change Hid ((cL ts [(t.name,r.name)]).length<=1000001000001) at bb;generalize bH:(cL ts [(t.name,r.name)]).length=N at*;have HNN:=ai (show XA ts ((t,.slice va vn vc),(r,.iface ra rv))=N from bH);have cy:=ak PS;have hN2:=ak bb;have ad:=ai V;have bp:=ai ab;have bo:=ai Z;have bR:=ai a6;have cu:=Z.lt;have b0:=ai (show pre.length<=1000000 by omega);clear V ac aC bH cf bq bO a6 ab Z PS bb;gi_wp2_with fail;refine ⟨trivial,(rP l (js.2 C.u)).mono ?_⟩;rintro e cq ⟨v3,rfl,bM,ce,bP⟩;obtain ⟨cP,cQ,rfl⟩:=ax bP;have B3:=ai (bR.u.trans bM);have Xz:=ai (ad.u.below B3.u);have bl:=ai (bp.u.below B3.u);have bk:=ai (bo.u.below B3.u);clear bM ce bP C ad bp bo t0 t1 t2 r0 r1 r2 cr;gi_wp2_with fail
  gi_loopw [22] (fun u wr=>∃aR J,xA (w.heap.size+1) a9 ps cq wr aR J/\aE wr (w.heap.size+1) #[aR] 194/\oj W0.heap.size wr aR J/\Hid (∃j,J.map Prod.snd=ps.map Prod.snd++List.replicate j [])/\J.length<=max ps.length N) (fun u wr=>N-PZ wr (w.heap.size+1))
  case atStart=>exact ⟨a9,ps,xA.below bj,Xz.u.blk,Xz.u.st,ai ⟨0,ar⟩,aj⟩
  case round=>
   obtain ⟨aR,J,ay,av,aG,HJ,hmx⟩:=hrel;obtain ⟨sa,sc,rfl⟩:=ax aG.row;have bh:wr.cell? ⟨w.heap.size+1,0,none⟩=some (.slice sa J.length sc):=av.cell rfl;have sz:=av.fz;have cF:=Xz.u.len;have ci:W0.heap.size<=wr.heap.size:=by have:=Xz.u.but.size;have:=ay.but.size;omega
   have HFR:=ai ay;have HBK:=ai av;have HSI:=ai aG;have cI:=av.lt
   by_cases hlt2:J.length<N
   ·have b9:(J.length:Int)<(N:Int):=by omega
    have cB:J.length<=1000001000001:=aj;have bW:=ai (Dk bh);clear ay av aG;gi_wp2_with (gi_at_builtin;go_must (refine kI rfl _ _ 194 rfl W0.heap.size 196 i0 _ 1 24 underlying194 cd cj ck cl rfl au (.slice sa J.length sc) J.length (J.map Prod.fst) rfl ?hown ⟨wr.heap.size,0,none⟩ 1 1 [.slice none 0 0] rfl rfl ?hnews ?hone au ?h63 ?hbytes ?hbase (wr.heap.size+1) ?hH ?hrest))
    case hown=>exact HSI.u.row.alloc _
    case hnews=>exact bu (B:=wr.heap.size) (cs:=#[.slice none 0 0]) (t:=196) (fr:=(0,0)) (aE.new _ _ _)
    case hone=>
     intro u aQ;simp at aQ;subst aQ
     rfl
    case h63=>unfold maxLen;omega
    case hbytes=>omega
    case hbase=>simp;omega
    case hH=>simp
    case hrest=>
     intro g5 aT w5 fg bE nx bN;have aZ:=(az wr.heap.size wr).alloc aD (.cells #[.slice none 0 0] 196);have aX:=HSI.u.below aZ;have aV:=HBK.u.below aZ;have ap:aE w5 (w.heap.size+1) _ 194:=(bE.block _ aV.lt (own_ne aX.row aV au)).trans aV;have co:=ap.cell (o:=0) rfl;have cN:=ap.fz;have bJ:(Value.slice sa J.length sc).ownBlock=some g5\/(wr.alloc (.cells #[.slice none 0 0] 196)).heap.size<=g5:=by
      rcases nx with e|e
      ·exact .inl e
      exact .inr aM
     have bT:=ai ((HFR.u.trans (xA.below aZ)).trans (xA.push (sb:=w.heap.size+1) (cap:=aT) aX bE bJ (.slice (some ⟨g5,0,none⟩) (J.length+1) aT)));have b3:=ai ((aX.push bE fg).set ap au au 0 (.slice (some ⟨g5,0,none⟩) (J.length+1) aT));have bS:=ai (ap.set 0 (.slice (some ⟨g5,0,none⟩) (J.length+1) aT));have bZ:=ai (Dk ((ap.set 0 (.slice (some ⟨g5,0,none⟩) (J.length+1) aT)).cell (o:=0) rfl));clear aZ aX aV ap bJ nx fg bE bh sz;gi_wp2;go_roundw
     case rel=>exact ⟨_,_,bT.u,bS.u,b3.u,by
      obtain ⟨j,bg⟩:=ak HJ;exact ai ⟨j+1,by rw [cO,bg,List.replicate_succ'];simp⟩,aM⟩
     case measure=>
      rw [bZ.u,bW.u];omega
   have b9:¬((J.length:Int)<(N:Int)):=aj;have hil:N-1<J.length:=aj;obtain ⟨g0,c0,e0,a8⟩:=aS aG.row (N-1) _ (by rw [eo,aH hil];rfl);simp only [aI,bU] at e0;obtain ⟨rfl,rfl⟩:=e0;have HP:=ai (aH hil);have a7:=aG.inn _ (bn hil);generalize J[N-1]=p at*;obtain ⟨pv,pl⟩:=p;simp only at a8 a7;obtain ⟨pa,pc,rfl⟩:=ax a7;have b2:=ai a7;have cH:=aK.lt;have ab:=ay.but.blk bl.u (fun e=>e.elim (fun e=>aj) (Xz.u.st.off bl.u au au));have Z:=ay.but.blk bk.u (fun e=>e.elim (fun e=>aj) (Xz.u.st.off bk.u au au));obtain ⟨t0,t1,t2⟩:=ab.three;obtain ⟨r0,r1,r2⟩:=Z.three;have cJ:(N:Int)-1=((N-1:Nat):Int):=aj;have cK:IntKind.i64.wrap ((N-1:Nat):Int)=((N-1:Nat):Int):=IntWalk.i64_in _ ⟨aj,aj⟩;have cz:(0:Int)<=((N-1:Nat):Int):=aj;have cA:((N-1:Nat):Int)<(J.length:Int):=aj;have bv:=ab;have bs:=Z;clear ay av aG a7 ab Z;gi_wp2_with fail;refine qy (S:=fun w'=>w'.cell? ⟨w.heap.size+1,0,none⟩=some (.slice (some ⟨g0,0,none⟩) J.length sc)/\w'.cell? ⟨Q,1,none⟩=some (.string t.name)/\w'.cell? ⟨Q+1,0,none⟩=some (.int .i64 r.place)/\w'.cell? ⟨Q+1,1,none⟩=some (.string r.name)/\w'.cell? ⟨Q+1,2,none⟩=some (.iface ra rv)) aw aw ⟨bh,t1,r0,r1,r2⟩ (fun hH=> ?_);refine bV (i:=0) (v:= ?v0) rfl aw aw aw (fun _ _ _ h=>by cases h.1) (Or.inl ⟨bc,?y0⟩) hH ?r0
   case y0=>
    exact hZ
   refine h6 ?_;refine bV (i:=1) (v:= ?v1) rfl aw aw aw (fun _ _ _ h=>by cases h.1) (Or.inl ⟨bc,?y1⟩) hH ?r1
   case y1=>
    exact hZ
   refine h6 ?_;refine bV (i:=2) (v:= ?v2) rfl aw aw aw (fun _ _ _ h=>by cases h.1) (Or.inl ⟨bc,?y2⟩) hH ?r2
   case y2=>
    exact hZ
   refine h6 ?_;refine bV (i:=3) (v:= ?v3) rfl aw aw aw (fun _ _ _ h=>by cases h.1) (Or.inl ⟨bc,?y3⟩) hH ?r3
   case y3=>
    exact hZ
   refine h6 ?_;refine bV (i:=4) (v:= ?v4) rfl aw aw aw (fun _ _ _ h=>by cases h.1) (Or.inl ⟨bc,?y4⟩) hH ?r4
   case y4=>
    exact hZ
   refine h6 ?_;refine bV (i:=5) (v:= ?v5) rfl aw aw aw (fun _ _ _ h=>by cases h.1) (Or.inl ⟨bc,?y5⟩) hH ?r5
   case y5=>
    exact hZ
   refine h6 ?_;refine bV (i:=6) (v:= ?v6) rfl aw aw aw (fun _ _ _ h=>by cases h.1) (Or.inl ⟨bc,?y6⟩) hH ?r6
   case y6=>
    exact hZ
   refine h6 ?_;refine bV (i:=8) (v:= ?v8) rfl aw aw aw (fun _ _ _ h=>by cases h.1) (Or.inl ⟨bc,?y8⟩) hH ?r8
   case y8=>
    exact hZ
   refine h6 ?_;refine bV (i:=9) (v:= ?v9) rfl aw aw aw (fun _ _ _ h=>by cases h.1) (Or.inl ⟨bc,?y9⟩) hH ?r9
   case y9=>
    exact hZ
   refine h6 ?_;refine bV (i:=10) (v:= ?v10) rfl aw aw aw (fun _ _ _ h=>by cases h.1) (Or.inl ⟨bc,?y10⟩) hH ?r10
   case y10=>
    exact hZ
   refine h6 ?_;refine bV (i:=11) (v:= ?v11) rfl aw aw aw (fun _ _ _ h=>by cases h.1) (Or.inl ⟨bc,?y11⟩) hH ?r11
   case y11=>
    exact hZ
   refine h6 ?_;refine bV (i:=12) (v:= ?v12) rfl aw aw aw (fun _ _ _ h=>by cases h.1) (Or.inl ⟨bc,?y12⟩) hH ?r12
   case y12=>
    exact hZ
   refine h6 ?_;have U:an wr (wr.alloc (k6 t.name r.place r.name ra rv)).drew:=((az _ wr).alloc aD _).drew;have HBD:Below wr.drew.heap.size wr.drew (wr.alloc (k6 t.name r.place r.name ra rv)).drew:=⟨U.os,U.tape,U.output,U.size,U.block⟩;have Dj:=aB b2.u U;have HNW:=bu (B:=wr.heap.size) (cs:=#[.string t.name,.int .i64 r.place,.string r.name,.iface ra rv]) (t:=198) (fr:=(0,0)) (aE.new wr _ _).drew;have HONE:∀u∈Ue ((t,.slice va vn vc),(r,.iface ra rv)),u.oneCell'=true:=by
    intro u aQ;simp only [Ue,bi,dK,dP] at aQ
    rcases aQ with rfl|rfl|rfl|rfl<;>rfl
   have cD:pl.length<=1000000:=by
    obtain ⟨j,bg⟩:=ak HJ;have:=vD bg Xz.u.inn _ (bA HP.u);have:=b0.u;simp at*;omega
   have YG:pl.length+1<=maxLen:=by unfold maxLen;omega
   have YH:(pl.length+1)*56<=140737488355328:=aj;have HBS:W0.heap.size<=(wr.alloc (k6 t.name r.place r.name ra rv)).drew.heap.size:=aP ci U.size;have HHS:(wr.alloc (k6 t.name r.place r.name ra rv)).drew.heap.size=wr.heap.size+1:=ar;obtain ⟨ct,b8,_⟩:=dx (aB HSI.u.row U);have Y:=b8;have E0:=Gb (HBK.u.below U) Y au;have E1:=Gb (bv.below U) Y au;have E2:=Gb (bs.below U) Y au;have HN0:=own_ne Dj (HBK.u.below U) au;have PS:=own_ne Dj (bv.below U) au;have YF:=own_ne Dj (bs.below U) au;refine pM (rs:=[7,13]) aw ar (nG rfl (fun K hK=> ?b7) (nG rfl (fun K hK=> ?b13) pN))
   case b7=>
    try simp only [List.getElem_toArray,List.getElem_cons_zero,List.getElem_cons_succ]
    go_simp
    refine hK.out _ _ hH (fun hH=> ?_);clear hK K
    try simp only [Act.put,List.getElem_toArray,List.getElem_cons_zero,List.getElem_cons_succ,fo,List.set_cons_zero,List.set_cons_succ]
    refine pM (rs:=[13]) aw ar (nG rfl (fun K hK=> ?_) pN)
    try simp only [List.getElem_toArray,List.getElem_cons_zero,List.getElem_cons_succ]
    go_simp
    refine hK.out _ _ aa1 (fun hH=> ?_);clear hK K
    try simp only [Act.put,List.getElem_toArray,List.getElem_cons_zero,List.getElem_cons_succ,fo,List.set_cons_zero,List.set_cons_succ]
    refine pM (rs:=[14]) aw ar (nG rfl (fun K hK=> ?_) pN);refine jY _ rfl (.tmp 36) (.tmp 42) 196 rfl W0.heap.size 198 i1 _ 4 56 underlying196 hi1 hy0 hy1 hy2 rfl au (.slice pa pl.length pc) pl.length (pl.flatMap Ue) I3 Dj ⟨wr.heap.size,0,none⟩ 1 1 (Ue ((t,.slice va vn vc),(r,.iface ra rv))) I3 rfl HNW HONE au YG YH HBS (wr.heap.size+1) HHS ?_;intro g5 aT w5 fg bE nx bN;have EU:w5.cell? ⟨w.heap.size+1,0,none⟩=some (.slice (some ⟨g0,0,none⟩) J.length sc)/\w5.cell? ⟨Q,1,none⟩=some (.string t.name)/\w5.cell? ⟨Q+1,0,none⟩=some (.int .i64 r.place)/\w5.cell? ⟨Q+1,1,none⟩=some (.string r.name)/\w5.cell? ⟨Q+1,2,none⟩=some (.iface ra rv):=by
     exact PR
    refine hK.out _ _ EU (fun hH=> ?_);clear hK K
    try simp only [Act.put,List.getElem_toArray,List.getElem_cons_zero,List.getElem_cons_succ,fo,List.set_cons_zero,List.set_cons_succ]
    refine bV (i:=15) (v:= ?v15a) rfl aw aw aw (fun _ _ _ h=>by cases h.1) (Or.inl ⟨bc,?y15a⟩) hH ?r15a
    case y15a=>
     exact hZ
    refine h6 ?_;have af:∃be,aE w5 g0 be 196:=⟨_,(bE.block g0 Y.lt (own_ne Dj Y au)).trans Y⟩;obtain ⟨b5,af⟩:=af;have cm:=af.fz;have cp:w5.cell? ⟨g0,N-1,none⟩=some (.slice pa pl.length pc):=bE.cell (am a8 U) (own_ne Dj Y au);refine pM (rs:=[16]) aw ar (nG rfl (fun K hK=> ?_) pN)
    try simp only [List.getElem_toArray,List.getElem_cons_zero,List.getElem_cons_succ]
    go_simp
    refine hK.out _ _ ?hS6a (fun _=> ?_)
    case hS6a=>
     exact Xx
    exact Xy
   case b13=>
    try simp only [List.getElem_toArray,List.getElem_cons_zero,List.getElem_cons_succ]
    go_simp
    refine hK.out _ _ aa1 (fun hH=> ?_);clear hK K
    try simp only [Act.put,List.getElem_toArray,List.getElem_cons_zero,List.getElem_cons_succ,fo,List.set_cons_zero,List.set_cons_succ]
    refine pM (rs:=[7]) aw ar (nG rfl (fun K hK=> ?_) pN);have cM:=am a8 U
    try simp only [List.getElem_toArray,List.getElem_cons_zero,List.getElem_cons_succ]
    go_simp
    refine hK.out _ _ hH (fun hH=> ?_);clear hK K
    try simp only [Act.put,List.getElem_toArray,List.getElem_cons_zero,List.getElem_cons_succ,fo,List.set_cons_zero,List.set_cons_succ]
    refine pM (rs:=[14]) aw ar (nG rfl (fun K hK=> ?_) pN);refine jY _ rfl (.tmp 36) (.tmp 42) 196 rfl W0.heap.size 198 i1 _ 4 56 underlying196 hi1 hy0 hy1 hy2 rfl au (.slice pa pl.length pc) pl.length (pl.flatMap Ue) I3 Dj ⟨wr.heap.size,0,none⟩ 1 1 (Ue ((t,.slice va vn vc),(r,.iface ra rv))) I3 rfl HNW HONE au YG YH HBS (wr.heap.size+1) HHS ?_;intro g5 aT w5 fg bE nx bN;have EU:w5.cell? ⟨w.heap.size+1,0,none⟩=some (.slice (some ⟨g0,0,none⟩) J.length sc)/\w5.cell? ⟨Q,1,none⟩=some (.string t.name)/\w5.cell? ⟨Q+1,0,none⟩=some (.int .i64 r.place)/\w5.cell? ⟨Q+1,1,none⟩=some (.string r.name)/\w5.cell? ⟨Q+1,2,none⟩=some (.iface ra rv):=by
     exact PR
    refine hK.out _ _ EU (fun hH=> ?_);clear hK K
    try simp only [Act.put,List.getElem_toArray,List.getElem_cons_zero,List.getElem_cons_succ,fo,List.set_cons_zero,List.set_cons_succ]
    refine bV (i:=15) (v:= ?v15b) rfl aw aw aw (fun _ _ _ h=>by cases h.1) (Or.inl ⟨bc,?y15b⟩) hH ?r15b
    case y15b=>
     exact hZ
    refine h6 ?_;have af:∃be,aE w5 g0 be 196:=⟨_,(bE.block g0 Y.lt (own_ne Dj Y au)).trans Y⟩;obtain ⟨b5,af⟩:=af;have cm:=af.fz;have cp:w5.cell? ⟨g0,N-1,none⟩=some (.slice pa pl.length pc):=bE.cell (am a8 U) (own_ne Dj Y au);refine pM (rs:=[16]) aw ar (nG rfl (fun K hK=> ?_) pN)
    try simp only [List.getElem_toArray,List.getElem_cons_zero,List.getElem_cons_succ]
    go_simp
    refine hK.out _ _ ?hS6b (fun _=> ?_)
    case hS6b=>
     exact Xx
    exact Xy
 case done=>
  rintro ba cR W bB rfl ⟨aR,ps,V⟩ hK;obtain ⟨sa,sc,rfl⟩:=ax V.st.row;have co:W.cell? ⟨w.heap.size+1,0,none⟩=some (.slice sa ps.length sc):=V.blk.cell rfl;have ad:=ai V;have bQ:=ai (ae.trans (V.but.below (B:=w.heap.size) ae.size (fun g e=>aj)));clear V;gi_wp2;refine ⟨ar,.inl ⟨_,_,rfl,run_takeDeferred hK,?_⟩⟩;refine ⟨.slice sa ps.length sc,?_,_,ps,rfl,bQ.u.trans (belowK_b (w:=w) aD W ba _ _ (aP ae.size bB) hK rfl rfl),((ad.u.st.oth (vi _ ba (.deferred none)) (fun r e=>by cases e;exact ⟨_,hK,rfl⟩)).base ae.size),by rw [<-a5];exact ad.u.snd,ad.u.len,fun p aO=>by have:=ad.u.inn p aO;rw [<-a5];exact this⟩;simp [results,Tryz.f100,go_sem]
 case stop=>
  rintro ba bx pre W bB cG cb hK;exact cb.elim
end
abbrev eO:=@List.mem_cons_of_mem
abbrev eb:=@List.mem_cons_self
abbrev nJ:=@List.foldl_cons
def yO (h:aA:=by
 unfold LT;decide):aA:=h
def Ji{g:List (List α)}{l:List α}(h:l∈fK n g):l∈g\/l=[]:=by
 unfold fK at h
 rcases aQ.1 h with h|h
 ·exact .inl h
 exact .inr (FD h)
def Ll{x:α}{g:List (List α)}{l:List α}(h:l∈fL n x g)(y:α)(A:y∈l):y=x\/∃D∈g,y∈D:=by
 unfold fL at h
 rcases rS h with h|rfl
 ·rcases Ji h with h|rfl
  ·exact .inr ⟨l,h,A⟩
  simp at A
 rcases aQ.1 A with A|A
 ·rw [ef] at A
  cases C:(fK n g)[n-1]? with
  |none=>rw [C] at A;simp at A
  |some D=>
   rw [C] at A
   rcases Ji (bA C) with h|rfl
   ·exact .inr ⟨D,h,A⟩
   simp at A
 exact .inl (by simpa using A)
def Lm(rk:α->Nat)(A:List α):∀g0:List (List α),∀l∈A.foldl (fun g x=>fL (rk x) x g) g0,∀y∈l,y∈A\/∃D∈g0,y∈D:=by
 induction A with
 |nil=>intro g0 l hl y C;exact .inr ⟨l,hl,C⟩
 |cons x A ih=>
  intro g0 l hl y C
  rcases ih _ l hl y C with h|⟨D,h1,h2⟩
  ·exact .inl (eO _ h)
  rcases Ll h1 y h2 with h|h
  ·exact .inl (by rw [h];exact eb)
  exact .inr h
def Dm{rk:α->Nat}{A:List α}{l:List α}(h:l∈iT rk A){y:α}(C:y∈l):y∈A:=by
 rcases Lm rk A [] l h y C with h|⟨D,h,_⟩
 ·exact h
 simp at h
def Ln(f:α->β)(n)(x:α)(g:List (List α)):(fL n x g).map (List.map f)=fL n (f x) (g.map (List.map f)):=by
 have e:(fK n g).map (List.map f)=fK n (g.map (List.map f)):=by unfold fK;simp
 unfold fL;rw [pO,e,cO,<-e]
 congr 2
 rw [ef,ef,eo]
 cases (fK n g)[n-1]? <;>simp
def Lo(f:α->β)(rk:β->Nat)(l:List α):(iT (fun x=>rk (f x)) l).map (List.map f)=iT rk (l.map f):=by
 have key:∀(l:List α) (g:List (List α)),(l.foldl (fun g x=>fL (rk (f x)) x g) g).map (List.map f)=(l.map f).foldl (fun g x=>fL (rk x) x g) (g.map (List.map f)):=by
  intro l
  induction l with
  |nil=>intro g;rfl
  |cons x l ih=>intro g;rw [nJ,ih,Ln,cA,nJ]
 exact key l []
abbrev TR:=Ty×Rl
def nK(ts:List Ty):List TR:=ts.flatMap fun t=>t.rels.map fun r=>(t,r)
def rkR(ts:List Ty)(x:TR):Nat:=(cL ts [(x.1.name,x.2.name)]).length
def P1(x:It):TR:=(x.1.1,x.2.1)
def cZ(ts:List Ty):List (List TR):=iT (rkR ts) (nK ts)
def yP{b:Nat}{w:af}{A:Ty×ag->List (Rl×ag)}:∀{tl:List (Ty×ag)},U9 b w tl A->(qt A tl).map P1=nK (tl.map Prod.fst)
 | [],_=>rfl
 |p::tl,h=>by
  have I:=yP (tl:=tl) (fun q C=>h q (by simp [C]));have e:(qt A (p::tl))=((A p).map fun q=>(p,q))++qt A tl:=by simp [qt]
  rw [e,cO,I,cA];have D:=(h p ar).fst;unfold nK;rw [cq,<-D];simp [P1]
def Lp{A:Ty×ag->List (Rl×ag)}{tl}(h:U9 b w tl A)(C:tl.map Prod.fst=ts):(iT (XA ts) (qt A tl)).map (List.map P1)=cZ ts:=by
 have:=Lo P1 (rkR ts) (qt A tl);rw [yP h,C] at this;exact this
def lnC(p:It×ag):List ag:=[.string p.1.1.1.name,.string p.1.2.1.name,p.2]
structure BS(base:Nat)(w:af)(v:ag)(ls:List (It×ag)):Prop where
 row:w.ownsRow base 201 3 v ls.length (ls.flatMap lnC)
 ins:∀p∈ls,w.ownsRow base 298 3 p.2 (fY p.1.2.1.name p.1.2.1.body).length ((fY p.1.2.1.name p.1.2.1.body).flatMap Dc)
structure Gc(base:Nat)(w:af)(v:ag)(qs:List (ag×List (It×ag))):Prop where
 row:w.ownsRow base 190 1 v qs.length (qs.map Prod.fst)
 grp:∀q∈qs,BS base w q.1 q.2
def LT(T:TypeId):Prop:=T=190\/T=201\/T=298
section
variable {base base':Nat}{w w':af}{v:ag}
def BS.frame{ls}(h:BS base w v ls)(k:∀(g:Nat)(cs:Array ag)(T:TypeId)(f:Nat×Nat),w.heap[g]? =some (Obj.cells cs T f)->LT T->w'.heap[g]? =w.heap[g]?):BS base w' v ls:=
 ⟨ay h.row (fun g cs f _ A=>k g cs _ f A (.inr (.inl rfl))),fun p C=>ay (h.ins p C) (fun g cs f _ A=>k g cs _ f A (.inr (.inr rfl)))⟩
def Gc.frame{qs:List (ag×List (It×ag))}(h:Gc base w v qs)(k:∀(g:Nat)(cs:Array ag)(T:TypeId)(f:Nat×Nat),w.heap[g]? =some (Obj.cells cs T f)->LT T->w'.heap[g]? =w.heap[g]?):Gc base w' v qs:=
 ⟨ay h.row (fun g cs f _ A=>k g cs _ f A (.inl rfl)),fun q C=>(h.grp q C).frame k⟩
def BS.below{ls}(h:BS base w v ls)(k:an w w'):BS base w' v ls:=h.frame (fun g cs T f A _=>k.block g (lt_of_some A))
def Gc.below{qs:List (ag×List (It×ag))}(h:Gc base w v qs)(k:an w w'):Gc base w' v qs:=h.frame (fun g cs T f A _=>k.block g (lt_of_some A))
def BS.lower{ls}(h:BS base w v ls)(A:base'<=base):BS base' w v ls:=⟨bg h.row A,fun p C=>bg (h.ins p C) A⟩
def Gc.lower{qs:List (ag×List (It×ag))}(h:Gc base w v qs)(A:base'<=base):Gc base' w v qs:=⟨bg h.row A,fun q C=>(h.grp q C).lower A⟩
def YM(A:aE w g cs T)(D:¬LT T)(o u):∀(g':Nat)(h:Array ag)(T':TypeId)(f:Nat×Nat),w.heap[g']? =some (Obj.cells h T' f)->LT T'->(w.setCell ⟨g,o,none⟩ u).heap[g']? =w.heap[g']? :=fun g' h T' f C I=>dN _ _ _ _ (fun (e:g'=g)=>by
 subst e;unfold aE at A;rw [A] at C
 cases C
 exact D I)
def BS.push{ls x iv}(h:BS base w v ls)(D:w.grownBy w' v.ownBlock)(I:w'.ownsRow base 201 3 v' (ls.length+1) (ls.flatMap lnC++lnC (x,iv)))(hi:w.ownsRow base 298 3 iv (fY x.2.1.name x.2.1.body).length ((fY x.2.1.name x.2.1.body).flatMap Dc)):BS base w' v' (ls++[(x,iv)]):=by
 refine ⟨by simpa using I,fun p A=> ?_⟩;have k:∀(g:Nat)(cs:Array ag)(f:Nat×Nat),base<=g->w.heap[g]? =some (.cells cs 298 f)->w'.heap[g]? =w.heap[g]? :=fun g cs f _ C=>D.block g (lt_of_some C) (dH h.row C au)
 rcases aQ.1 A with A|A
 ·exact ay (h.ins p A) k
 rw [aR] at A;subst A;exact ay hi k
def Gc.push{qs:List (ag×List (It×ag))}{ls}(h:Gc base w v qs)(D:w.grownBy w' v.ownBlock)(I:w'.ownsRow base 190 1 v' (qs.length+1) (qs.map Prod.fst++[gv]))(hi:BS base w gv ls):Gc base w' v' (qs++[(gv,ls)]):=by
 have k:∀q:ag×List (It×ag),BS base w q.1 q.2->BS base w' q.1 q.2:=fun q A=>
  ⟨ay A.row (fun g cs f _ C=>D.block g (lt_of_some C) (dH h.row C au)),fun p J=>ay (A.ins p J) (fun g cs f _ C=>D.block g (lt_of_some C) (dH h.row C au))⟩
 refine ⟨by simpa using I,fun q A=> ?_⟩
 rcases aQ.1 A with A|A
 ·exact k q (h.grp q A)
 rw [aR] at A;subst A;exact k _ hi
end
def YN(ts:List Ty)(lv:ag)(w:af):Prop:=∃qs,Gc 0 w lv qs/\qs.map (fun q=>q.2.map fun p=>P1 p.1)=cZ ts/\qs.length<=1000001000001/\∀q∈qs,q.2.length<=1000000
def AJ:YK YN where
 below:=fun ts lv w w' ⟨qs,h1,h2⟩ k=>⟨qs,h1.below k,h2⟩
 set:=fun ts lv w g cs o u ⟨qs,h1,h2⟩ A=>⟨qs,h1.frame (YM A yO o u),h2⟩
def Tryz.infoLn:(Tryz.prog.info? 201).map (fun i=>(i.zero,i.size,i.bytes))=some (some (.agg #[.string ⟨#[]⟩,.string ⟨#[]⟩,.slice none 0 0]),3,56):=by kernel_rfl
def Tryz.infoLns:(Tryz.prog.info? 190).map (fun i=>(i.zero,i.size,i.bytes))=some (some (.slice none 0 0),1,24):=by kernel_rfl
section
def seV(n:Nat):ag:=.int .u64 n
structure LY(base:Nat)(w:af)(b:Nat)(v:ag)(l:List Nat):Prop where
 blk:aE w b #[v] 389
 row:w.ownsRow base 193 1 v l.length (l.map seV)
 low:base<=b
variable {base:Nat}
def LY.below{l}(h:LY base w b v l)(k:an w w'):LY base w' b v l:=⟨h.blk.below k,aB h.row k,h.low⟩
def Tryz.infoSet:(Tryz.prog.info? 193).map (fun i=>(i.zero,i.size,i.bytes))=some (some (.int .u64 0),1,8):=by kernel_rfl
def RH(h:w.ownsRow base e 1 (.slice (some ⟨g,0,none⟩) n cap) n xs)(V:m<=n):w.ownsRow base e 1 (.slice (some ⟨g,0,none⟩) m cap) m (xs.take m):=by
 obtain ⟨hl,h2⟩:=h
 rcases h2 with ⟨A,_⟩|⟨g',U,C,A,D,Q,Y,I,J,R⟩
 ·simp at A
 simp only [aI,aL,ce,fI,bU] at A;obtain ⟨rfl,rfl⟩:=A;refine ⟨aM,.inr ⟨g,cap,C,rfl,D,Q,aj,I,J,?_⟩⟩;rw [<-R,List.take_take]
 congr 1
 omega
def JE{f:α->ag}{l:List α}(h:w.ownsRow base e 1 v l.length (l.map f))(V:0<l.length):∃g c,v=.slice (some ⟨g,0,none⟩) l.length c/\l.length<=c/\∀i x,l[i]? =some x->w.cell? ⟨g,i,none⟩=some (f x):=by
 obtain ⟨_,h2⟩:=id h
 rcases h2 with ⟨_,D⟩|⟨g,cap,C,rfl,I,R,A,J,Q,Y⟩
 ·omega
 refine ⟨g,cap,rfl,A,fun i x hi=> ?_⟩;obtain ⟨U,_⟩:=br.1 hi;rw [World.ownsRow.cellAt h i aj,List.getElem?_map,hi]
 rfl
def SkPut(base b:Nat)(v:ag)(l:List Nat)(w:af)(e:Ending)(w':af):Prop:=∃v',e=.returned (.tuple #[])/\oi b v w w' v'/\LY base w' b v' l
def Zh(base b:Nat)(v:ag)(l:List Nat)(n:Nat)(w:af)(e:Ending)(w':af):Prop:=∃v',e=.returned (.int .u64 n)/\oi b v w w' v'/\LY base w' b v' l
def kq(base b:Nat)(v l)(n:Nat)(w)(h:LY base w b v l)(ap:l.length<=100000):
  Calls prog 241 #[.pointer (some ⟨b,0,none⟩),.int .u64 n] w (SkPut base b v (l++[n]) w):=by
 obtain ⟨I,J,rfl⟩:=ax h.row;have H:=ai h;have c0:w.cell? ⟨b,0,none⟩=some (.slice I l.length J):=h.blk.cell rfl;have am:=h.blk.lt;have af:=h.low;obtain ⟨i0,ae,ah,ak,al⟩:=bK Tryz.infoSet;go_enter func241,ntmps241;go_wp2_with (at_builtin;go_must (refine bI _ rfl _ _ 389 rfl base 193 i0 _ 1 8 underlying389 ae ah ak al rfl au (.slice I l.length J) l.length (l.map seV) rfl ?hown ⟨w.heap.size,0,none⟩ 1 1 [.int .u64 n] rfl rfl ?hnews ?hone au ?h63 ?hbytes ?hbase (w.heap.size+1) ?hH ?hrest))
 case hown=>exact H.u.row.alloc _
 case hnews=>exact bu (B:=w.heap.size) (cs:=#[.int .u64 n]) (t:=193) (fr:=(0,0)) (aE.new _ _ _)
 case hone=>
  intro u U;simp at U;subst U
  rfl
 case h63=>unfold maxLen;omega
 case hbytes=>omega
 case hbase=>simp;omega
 case hH=>simp
 case hrest=>
  intro g5 aT w5 ag R ad an;have Z:=H.u.row.alloc (.cells #[.int .u64 n] 193);have C:=H.u.blk.alloc (.cells #[.int .u64 n] 193);have D:aE w5 b _ 389:=(R.block b C.lt (own_ne Z C au)).trans C;have zq:=D.fz;have ar:w5.cell? ⟨b,0,none⟩=some (.slice I l.length J):=D.cell rfl;have Q:=ai D;have Y:=ai R;have ab:=ai ag;have V:=ai ad;go_wp2;go_end0;have ac:=(az w.heap.size w).alloc aD (.cells #[.int .u64 n] 193);refine ⟨_,rfl,⟨((bG.of_below ac).trans (dr Y.u (fun k A=> .inr A))).set (.inl rfl) _,fun k A=> ?_⟩,⟨Q.u.set 0 _,?_,af⟩⟩
  ·simp only [Value.ownBlock,aL] at A
   rcases V.u with e|e
   ·exact .inl (by rw [e,A])
   exact .inr aj
  have:=bN ab.u Q.u au 0 (.slice (some ⟨g5,0,none⟩) (l.length+1) aT);rw [cO,aZ];exact this
def sy(base b v l n w)(h:LY base w b v (l++[n]))(Q:l.length<=100000):
  Calls prog 240 #[.pointer (some ⟨b,0,none⟩)] w (Zh base b v l n w):=by
 obtain ⟨g,c,e1,I,hc⟩:=JE h.row ar;have A:(l++[n]).length=l.length+1:=ar;rw [A] at e1;subst e1;have J:l.length<=c:=aj;have c0:w.cell? ⟨b,0,none⟩=some (.slice (some ⟨g,0,none⟩) (l.length+1) c):=h.blk.cell rfl;have R:=h.blk.fz;have D:=h.low;have H:=ai h;go_enter func240,ntmps240;go_wp2;go_ret;refine ⟨_,rfl,⟨(bG.refl _ w).set (.inl rfl) _,fun k C=> .inl (by simpa [Value.ownBlock] using C)⟩,⟨H.u.blk.set 0 _,?_,D⟩⟩;have h1:=RH (m:=l.length) (by have:=H.u.row;rw [A] at this;exact this:w.ownsRow base 193 1 (.slice (some ⟨g,0,none⟩) (l.length+1) c) (l.length+1) ((l++[n]).map seV)) aj;have h2:=bN h1 H.u.blk au 0 (.slice (some ⟨g,0,none⟩) l.length c);rw [cO,rJ ar] at h2;exact h2
def RI(base b:Nat)(v l)(n:Nat)(w)(h:LY base w b v (l++[n]))(D:l.length<=100000):
  Calls prog 245 #[v] w fun e w'=>e=.returned (.int .u64 n)/\w'=w:=by
 obtain ⟨g,c,e1,C,hc⟩:=JE h.row ar;have A:(l++[n]).length=l.length+1:=ar;rw [A] at e1;subst e1;go_enter func245,ntmps245;go_wp2;go_ret;exact ⟨rfl,rfl⟩
end
structure Sj where
 kind:ae
 id:ae
 rel:ae
def Sj.dec(a b:Sj):Decidable (a=b):=decidable_of_iff (a.kind=b.kind/\a.id=b.id/\a.rel=b.rel) ⟨fun h=>by cases a;cases b;simp_all,fun h=>by simp [h]⟩
def xk(s:Sj):ag:=.agg #[.string s.kind,.string s.id,.string s.rel]
def nX(s:Sj):Prop:=s.kind.size<=maxLen/\s.id.size<=maxLen/\s.rel.size<=maxLen
def Tryz.laidB:laidOutB prog=true:=by kernel_rfl
def Tryz.keyWide:(match Tryz.prog.underlying 102 with|some (.array _ _)|some (.struct _)=>true|_=>false)=true:=by rw [underlying102]
def Tryz.keyRow:(102:TypeId)<Tryz.prog.types.size:=of_decide_eq_true aw
def Tryz.keyAt:Tryz.prog.keyTypeAt 3 102=true:=by kernel_rfl
def Tryz.keyLaw:WideMaps.KeyLaw prog 102:=deep_law_laid Tryz.laidB (m:=3) aj Tryz.keyRow Tryz.keyAt Tryz.keyWide
def Tryz.keyed:Maps.Keyed prog 102:=Maps.Keyed.of_law Tryz.keyLaw
def Tryz.keyType:Tryz.prog.keyType 102=true:=by kernel_rfl
def Tryz.cellsSj:Tryz.prog.cellsOf 102=3:=by kernel_rfl
def Tryz.cellsTh:Tryz.prog.cellsOf 98=2:=by kernel_rfl
def Tryz.cellsStr:Tryz.prog.cellsOf 9=1:=by kernel_rfl
def wz(n)(hs:s.size<=maxLen):Tryz.prog.keyLits (n+1) 9 [.string s]=some [.string s.data.toList]:=by
 unfold Program.keyLits;rw [underlying9];simp [hs]
def V0(n){a b}(ha:a.size<=maxLen)(h:b.size<=maxLen):Tryz.prog.keyLits (n+2) 98 [.string a,.string b]=some [.string a.data.toList,.string b.data.toList]:=by
 unfold Program.keyLits;rw [underlying98];simp [Tryz.cellsTh,Tryz.cellsStr,wz n ha,wz n h]
def V1(n){s}(h:nX s):Tryz.prog.keyLits (n+3) 102 [.string s.kind,.string s.id,.string s.rel]=some [.string s.kind.data.toList,.string s.id.data.toList,.string s.rel.data.toList]:=by
 unfold Program.keyLits;rw [underlying102];simp [Tryz.cellsSj,Tryz.cellsTh,Tryz.cellsStr,V0 n h.1 h.2.1,wz (n+1) h.2.2]
def sjK(s:Sj):Lit:=.string (keyBytes [.string s.kind.data.toList,.string s.id.data.toList,.string s.rel.data.toList])
def wA{s}(h:nX s):keyOf prog 102 (xk s)=some (sjK s):=by
 have hn:Tryz.prog.types.size+1=(445-2)+3:=by
  have:Tryz.prog.types.size=445:=aw;omega
 have A:(xk s).formed prog 102=true:=by simp [xk,Value.formed,underlying102,Tryz.cellsSj]
 unfold keyOf;rw [underlying102];simp only [Tryz.keyType,A,Bool.and_self,if_true,hn];rw [show (xk s).cells.toList=[.string s.kind,.string s.id,.string s.rel] from rfl,V1 _ h]
 rfl
def V2{s s'}(h:nX s)(A:nX s')(e:sjK s=sjK s'):s=s':=by
 have:=Tryz.keyed.inj (wA h) (by rw [e];exact wA A);simp [xk] at this
 cases s;cases s';simp_all
def qY(w:af)(b n:Nat)(K:Sj->Nat):Prop:=∃h:DataW Unit,w.ownsMap prog 102 (plainElem prog 193) b n h/\Maps.IsMap h/\∀s,nX s->h.atKey (sjK s) (.lit (.int .u64 0))=.lit (.int .u64 (K s))
def mU(K:Sj->Nat)(s:Sj)(v:Nat):Sj->Nat:=fun x=>@ite _ (x=s) (x.dec s) v (K x)
def RJ(w:af):qY (w.alloc (.map #[] 0)) w.heap.size 0 (fun _=>0):=⟨.map [],World.ownsMap_made _ _ _ _,Maps.isMap_empty,fun s _=>rfl⟩
def qY.lt{K}(h:qY w b n K):b<w.heap.size:=by
 obtain ⟨A,h1,_⟩:=h;exact h1.lt
def qY.block{K}(h:qY w b n K)(I:w'.heap[b]? =w.heap[b]?):qY w' b n K:=by
 obtain ⟨A,⟨C,c,h1,D⟩,h2⟩:=h;exact ⟨A,⟨C,c,I.trans h1,D⟩,h2⟩
def qY.isMap{K}(h:qY w b n K):∃A c,w.heap[b]? =some (.map A c):=by
 obtain ⟨C,⟨A,c,h1,D⟩,h2⟩:=h;exact ⟨A,c,h1⟩
def RK(w):(zeroValue 193).run prog w=.ok (.int .u64 0) w:=by kernel_rfl
def qY.look{K}(h:qY w b n K){s}(hs:nX s):(Instr.lookup 187 (.map (some b)) (xk s) false).run prog w=.ok (.int .u64 (K s)) w:=by
 obtain ⟨I,h1,h2,C⟩:=h;obtain ⟨c,D,A,_⟩:=h1.lookup_int Tryz.keyed underlying187 underlying193 (RK w) (wA hs);rw [C s hs] at A;simp only [DataW.lit.injEq,Lit.int.injEq,bU] at A;rw [D,<-A]
def Zi{v:Nat}(h:v<18446744073709551616):(Lit.int .u64 (v:Int)).wf=true:=WalkArith.wf_u64 ⟨by omega,by omega⟩
def qY.upd{K}(h:qY w b n K)(I:n<maxLen){s}(hs:nX s){v:Nat}(Q:v<18446744073709551616):
  ∃w',(Instr.mapUpdate 187 (.map (some b)) (xk s) (.int .u64 v)).run prog w=.ok () w'/\qY w' b (n+1) (mU K s v)/\w.grownBy w' (some b):=by
 obtain ⟨R,h1,h2,C⟩:=h;obtain ⟨w',J,ho,D⟩:=h1.update Tryz.keyed underlying187 I (wA hs) (plainElem_int underlying193 (Zi Q));refine ⟨w',J,⟨_,ho,h2.put _ _,fun s' A=> ?_⟩,D⟩;unfold mU
 by_cases e:s'=s
 ·subst e;rw [if_pos rfl,Maps.atKey_put_same h2 (Tryz.keyed.key (wA hs))]
 ·rw [if_neg e,Maps.atKey_put_other (fun e'=>e (V2 A hs e')),C s' A]
def kL(ts:List Tu)(k:Nat)(rel:ae):Nat:=match (ts.drop k).findIdx? (fun t=>decide (t.rel=rel)) with
 |some i=>k+i+1
 |none=>0
structure V3(w:af)(tv:ag)(ts:List Tu):Prop where
 row:w.ownsRow 0 123 6 tv ts.length (ts.flatMap jD)
 most:ts.length<=1000
def V3.below{ts}(h:V3 w tv ts)(k:an w w'):V3 w' tv ts:=⟨aB h.row k,h.most⟩
def JF{a c:ae}(h:a≠c):(a.toList==c.toList)=false:=by
 rw [<-aK]
 cases e:eqs a c
 ·rfl
 exact absurd ((bo _ _).1 e) h
def XR{a c:ae}(h:a=c):(a.toList==c.toList)=true:=by subst h;simp
def Hq{ts t}(C:ts[k+j]? =some t)(I:t.rel=rel)(D:∀i,i<j->∀u,ts[k+i]? =some u->u.rel≠rel):kL ts k rel=k+j+1:=by
 have:(ts.drop k).findIdx? (fun t=>decide (t.rel=rel))=some j:=by
  rw [kS];obtain ⟨h1,h2⟩:=br.1 C;refine ⟨aM,by simp [h2,I],fun i hi=> ?_⟩;have A:k+i<ts.length:=aj;have:=D i hi _ (aH A)
  simpa using this
 unfold kL;rw [this]
def wB{ts}(A:∀i u,ts[k+i]? =some u->u.rel≠rel):kL ts k rel=0:=by
 have:(ts.drop k).findIdx? (fun t=>decide (t.rel=rel))=none:=by
  rw [o6];intro x C;obtain ⟨i,hi,rfl⟩:=dk C;have h:k+i<ts.length:=by simp at hi;omega
  have:=A i _ (aH h)
  simpa using this
 unfold kL;rw [this]
def RL(kd id rel tv ts k w)(h:V3 w tv ts)(h0:0<ts.length)(aC:k<=ts.length):
  Calls prog 242 #[.agg #[.string kd,.string id,tv],.int .i64 k,.string rel] w fun e w'=>e=.returned (.int .i64 (kL ts k rel))/\an w w':=by
 obtain ⟨g,c,e1,hc⟩:=bf jD 6 (fun _=>rfl) h.row 0 ts[0] (aH h0);subst e1;have al:ts.length<=c:=by
  rcases h.row.2 with ⟨V,_⟩|⟨_,_,_,V,_,_,aK,_⟩
  ·simp at V
  simp only [aI] at V;omega
 have aJ:=h.most;have af:=ai (show ∀j t,ts[k+j]? =some t->w.cell? ⟨g,k*6+j*6,none⟩=some (.string t.kind)/\w.cell? ⟨g,k*6+j*6+1,none⟩=some (.string t.id)/\w.cell? ⟨g,k*6+j*6+2,none⟩=some (.string t.rel)/\w.cell? ⟨g,k*6+j*6+3,none⟩=some (.string t.sub)/\w.cell? ⟨g,k*6+j*6+4,none⟩=some (.string t.who)/\w.cell? ⟨g,k*6+j*6+5,none⟩=some (.string t.of) from fun j t ab=>by
  obtain ⟨g',aB,e',D⟩:=bf jD 6 (fun _=>rfl) h.row (k+j) t ab;rw [Nat.add_mul] at D;simp only [aI,aL,ce,fI,bU] at e';obtain ⟨rfl,rfl⟩:=e';exact ⟨D 0 _ aj rfl,D 1 _ aj rfl,D 2 _ aj rfl,D 3 _ aj rfl,D 4 _ aj rfl,D 5 _ aj rfl⟩)
 have I:g<w.heap.size:=(h.row.lt g rfl).2;obtain ⟨m,Y⟩:∃m,ts.length=k+m:=⟨ts.length-k,aj⟩;rw [Y] at al;have R:=ai Y;have aE:(k:Int)<=(c:Int):=aj;have aG:k+m<=1000:=aj;rw [Y]
 by_cases am:c=k
 ·have ar:m=0:=by omega
  subst ar;have ag:=ai (wB (ts:=ts) (k:=k) (rel:=rel) (fun i u C=>by have:=(br.1 C).1;have:=R.u;omega));subst am;go_enter func242,ntmps242;go_wp2_with fail
  go_loopw [14] (fun J wr=>J=.int .i64 0/\an w wr) (fun _ _=>0)
  case atStart=>exact ⟨rfl,(az _ w).alloc aD _⟩
  case round=>
   obtain ⟨rfl,A⟩:=hrel;go_wp2;go_ret;rw [ag.u];exact ⟨rfl,A⟩
 ·go_enter func242,ntmps242;go_wp2_with fail
  go_loopw [14] (fun J wr=>∃j:Nat,j<=m/\J=.int .i64 j/\an w wr/\Hid (∀i,i<j->∀u,ts[k+i]? =some u->u.rel≠rel)) (fun J _=>m-(intOf J).toNat)
  case atStart=>exact ⟨0,aj,rfl,(az _ w).alloc aD _,ai (fun i hi=>aj)⟩
  case round=>
   obtain ⟨j,ab,rfl,A,U⟩:=hrel;have ad:=A.size
   by_cases aF:j<m
   ·have ap:(j:Int)<(m:Int):=by omega
    obtain ⟨t,ac⟩:∃t,ts[k+j]? =some t:=⟨_,aH (by have:=R.u;omega)⟩;obtain ⟨k0,k1,aw,k3,ax,ay⟩:=af.u j t ac;have aM:=(A.cell (p:=⟨g,_,none⟩) I).trans k0;have aN:=(A.cell (p:=⟨g,_,none⟩) I).trans k1;have aO:=(A.cell (p:=⟨g,_,none⟩) I).trans aw;have aP:=(A.cell (p:=⟨g,_,none⟩) I).trans k3;have aQ:=(A.cell (p:=⟨g,_,none⟩) I).trans ax;have aR:=(A.cell (p:=⟨g,_,none⟩) I).trans ay;have Z:=ai ac
    by_cases Q:t.rel=rel
    ·have av:=ai Q;have ah:=XR Q;go_wp2;go_ret;rw [Hq Z.u av.u (ak U)];exact ⟨by go_num,A.alloc ad _⟩
    have ae:=ai (A.alloc ad (cw t.kind t.id t.rel t.sub t.who t.of));have au:=ai Q;have ah:=JF Q;go_wp2;go_roundw
    case rel=>exact ⟨j+1,aj,by go_num,ae.u,ai (fun i hi u C=>by
     by_cases e:i=j
     ·subst e;rw [Z.u] at C
      cases C
      exact au.u
     exact ak U i aj u C)⟩
    case measure=>simp [intOf];omega
   have ap:¬((j:Int)<(m:Int)):=aj;go_wp2;go_ret;rw [wB (fun i u C=>ak U i (by have:=(br.1 C).1;have:=R.u;omega) u C)];exact ⟨rfl,A⟩
abbrev Bi:=@Nat.or_lt_two_pow
def RN (h:aA:=by
 clear HU;go_wp2;go_roundw
 case rel=>exact ⟨j+1,aj,by go_num,by rw [HU2.u];exact Zj HL.u aj,XJ.u⟩
 case measure=>simp [intOf];omega):aA:=h
def Zk (h:aA:=by
 rw [show ((2:Int) ^ j)=((2 ^ j:Nat):Int) from by simp];generalize 2 ^ j=x at*;simp [IntKind.wrap,IntKind.bits,IntKind.signed];omega):aA:=h
def RO (h:aA:=by
 clear HU;go_wp2;go_roundw
 case rel=>exact ⟨j+1,aj,by go_num,by rw [HU2.u],XJ.u⟩
 case measure=>simp [intOf];omega):aA:=h
def RQ (h:aA:=by
 clear h0;go_enter func244,ntmps244;go_wp2;go_ret;rw [HE.u];exact ⟨rfl,HB.u⟩):aA:=h
def RR(q:aU) (h:bF aU->aA:=by
 intro zq;have h2:2 ^ j<18446744073709551616:=Nat.pow_lt_pow_right aj (show j<64 by omega);have e:IntKind.u64.wrap ((2:Int) ^ j)=((2 ^ j:Nat):Int):=by
  exact Zk
 revert h2 e
 exact zq.1):aA:=h ⟨q⟩
def tK(K:Sj->Nat)(s:Sj)(rel:ae):Nat:=if s.rel.size=0 then K ⟨s.kind,s.id,rel⟩ else 0
def XT{c:ae}(h:c.size=0):(c.toList== [])=true:=by rw [aO,dA];exact jP Cb
def XU{c:ae}(h:¬c.size=0):(c.toList== [])=false:=by
 rw [aO];have:(bJ c).length≠0:=by rw [bh];exact h
 revert this
 cases bJ c<;>simp
def Hr(ca ha cn cc hn hc mb n K s rel w)(C:qY w mb n K)(hs:nX s)(J:rel.size<=maxLen):
  Calls prog 244 #[.agg #[.slice ca cn cc,.slice ha hn hc,.map (some mb)],xk s,.string rel] w fun e w'=>e=.returned (.int .u64 (tK K s rel))/\an w w':=by
 have A:=((az w.heap.size w).alloc aD (.cells #[.slice ca cn cc,.slice ha hn hc,.map (some mb)] 189)).alloc ar (cB s.kind s.id s.rel);have HB:=ai A;have D:=(C.block (A.block mb C.lt)).look (s:=⟨s.kind,s.id,rel⟩) ⟨hs.1,hs.2.1,J⟩;unfold xk at D ⊢;clear A
 by_cases h0:s.rel.size=0
 ·have I:=XT h0;have HE:=ai (show tK K s rel=K ⟨s.kind,s.id,rel⟩ from if_pos h0);exact RQ
 ·have I:=XU h0;have HE:=ai (show tK K s rel=0 from if_neg h0);exact RQ
structure Tg where
 kind:ae
 id:ae
def BU(w:af)(v:ag)(cs:List Tg):Prop:=∃g o c,v=.slice (some ⟨g,o,none⟩) cs.length c/\g<w.heap.size/\cs.length<=64/\∀i x,cs[i]? =some x->w.cell? ⟨g,o+i*2,none⟩=some (.string x.kind)/\w.cell? ⟨g,o+i*2+1,none⟩=some (.string x.id)
def BU.below{cs}(h:BU w v cs)(k:an w w'):BU w' v cs:=by
 obtain ⟨g,o,c,h1,h2,C,A⟩:=h;exact ⟨g,o,c,h1,cK h2 k.size,C,fun i x hi=>⟨(k.cell (p:=⟨g,_,none⟩) h2).trans (A i x hi).1,(k.cell (p:=⟨g,_,none⟩) h2).trans (A i x hi).2⟩⟩
def D8(a c:Tg):Bool:=eqs a.kind c.kind&&eqs a.id c.id
def li(s:Sj)(t:Tg):Bool:=D8 t ⟨s.kind,s.id⟩||((s.id.toList== [42])&&(t.kind.toList==s.kind.toList))
def eQ(p:Tg->Bool)(cs:List Tg):Nat->Nat
 |0=>0
 |j+1=>match cs[j]? with
  |some t=>if p t then eQ p cs j|||2 ^ j else eQ p cs j
  |none=>eQ p cs j
def sA(p cs):∀j,j<=64->eQ p cs j<18446744073709551616
 |0,_=>by show 0<18446744073709551616;decide
 |j+1,h=>by
  have A:=sA p cs j aj;have h2:2 ^ j<18446744073709551616:=Nat.pow_lt_pow_right aj (show j<64 by omega);unfold eQ
  split
  ·split
   ·exact Bi (n:=64) A h2
   exact A
  exact A
def Zj(A:B<18446744073709551616)(C:j<64):Value.int .u64 (bits .or .u64 (B:Int) (IntKind.u64.wrap (2 ^ j)))=.int .u64 ((B|||2 ^ j:Nat):Int):=by
 refine RR ?_;intro h2 e;rw [e,u64_or_nat _ _ A h2]
def jw(K:Sj->Nat)(cs:List Tg)(s:Sj):Nat:=if s.rel.size=0 then eQ (li s) cs cs.length else K s
def JG(a c w):(Op.equalIn 10000 98 (.agg #[.string a.kind,.string a.id]) (.agg #[.string c.kind,.string c.id])).run prog w=.ok (D8 a c) w:=by
 have A:=underlying9;rw [show (10000:Nat)=9999+1 from rfl,run_equalIn_agg w 9999 98 _ _ aw aw];simp only [Program.fieldsOf,underlying98]
 go_simp
 refine OQ ?_;intro e;simp only [D8,e]
 (repeat' split)<;>simp_all
def JH(x y xs ys w):(eqGuard .eql 98 x y (.agg xs) (.agg ys)).run prog w=.ok () w:=run_eqGuard_agg w .eql 98 x y xs ys aw
def LZ(cv cs ha hn hc mb n K s w)(U:qY w mb n K)(al:BU w cv cs)(hs:nX s):
  Calls prog 243 #[.agg #[cv,.slice ha hn hc,.map (some mb)],xk s] w fun e w'=>e=.returned (.int .u64 (jw K cs s))/\an w w':=by
 obtain ⟨g,o,c,rfl,ae,hl,ad⟩:=al;have J:=((az w.heap.size w).alloc aD (.cells #[.slice (some ⟨g,o,none⟩) cs.length c,.slice ha hn hc,.map (some mb)] 189)).alloc ar (cB s.kind s.id s.rel);have C:=ai J;have ac:=(U.block (J.block mb U.lt)).look hs;unfold xk at ac ⊢
 by_cases h0:s.rel.size=0
 ·have au:=XT h0;have I:=ai (show jw K cs s=eQ (li s) cs cs.length from if_pos h0);have Z:=ai (aE.new' (w.alloc (.cells #[.slice (some ⟨g,o,none⟩) cs.length c,.slice ha hn hc,.map (some mb)] 189)) (rK s.kind s.id s.rel) 102 (w.heap.size+1) ar);have ah:=ai ad;have ax:=JH;clear h0 ac J ad U;go_enter func243,ntmps243;go_wp2_with fail;generalize ((w.alloc (.cells #[.slice (some ⟨g,o,none⟩) cs.length c,.slice ha hn hc,.map (some mb)] 189)).alloc (cB s.kind s.id s.rel))=W at*
  go_loopw [5,18] (fun aw Y wr=>∃j:Nat,j<=cs.length/\Y=.int .i64 j/\aw=.int .u64 (eQ (li s) cs j)/\an W wr) (fun _ Y _=>cs.length-(intOf Y).toNat)
  case atStart=>exact ⟨0,aj,rfl,rfl,az _ _⟩
  case round=>
   obtain ⟨j,aB,rfl,rfl,A⟩:=hrel;have av:=A.size;obtain ⟨aC,aF,aG⟩:=three (Z.u.below A);have ay:=(Z.u.below A).lt
   by_cases ap:j<cs.length
   ·have am:(j:Int)<(cs.length:Int):=by omega
    obtain ⟨x,V⟩:∃x,cs[j]? =some x:=⟨_,aH ap⟩;obtain ⟨af,ag⟩:=ah.u j x V;have R:=C.u.trans (A.mono C.u.size);have aI:=(R.cell (p:=⟨g,_,none⟩) ae).trans af;have aJ:=(R.cell (p:=⟨g,_,none⟩) ae).trans ag;have ak:=fun w'=>JG x ⟨s.kind,s.id⟩ w'
    have HU:=ai (show eQ (li s) cs (j+1)=if li s x then eQ (li s) cs j|||2 ^ j else eQ (li s) cs j from by rw [eQ];simp only [V]);have HL:=ai (sA (li s) cs j aj);have XJ:=ai (A.alloc av (en x.kind x.id));clear af ag R A V;dsimp only at ak;generalize eQ (li s) cs j=B at*
    cases D:D8 x ⟨s.kind,s.id⟩
    ·cases Q:(s.id.toList== [42])
     ·have HU2:=ai (show eQ (li s) cs (j+1)=B from by rw [HU.u];simp [li,D,Q]);exact RO
     cases ab:(x.kind.toList==s.kind.toList)
     ·have HU2:=ai (show eQ (li s) cs (j+1)=B from by rw [HU.u];simp [li,D,Q,ab]);exact RO
     have HU2:=ai (show eQ (li s) cs (j+1)=B|||2 ^ j from by rw [HU.u];simp [li,D,Q,ab]);exact RN
    have HU2:=ai (show eQ (li s) cs (j+1)=B|||2 ^ j from by rw [HU.u];simp [li,D]);exact RN
   have am:¬((j:Int)<(cs.length:Int)):=aj;have e:j=cs.length:=aj;subst e;go_wp2;go_ret;rw [I.u];exact ⟨rfl,C.u.trans (A.mono C.u.size)⟩
 ·have au:=XU h0;have I:=ai (show jw K cs s=K s from if_neg h0);clear h0;go_enter func243,ntmps243;go_wp2;go_ret;rw [I.u];exact ⟨rfl,C.u⟩
def JI (h:aA:=by
 simp [jb];omega):aA:=h
def D9 (h:aA:=by
 simp [gC]):aA:=h
def fb(t:Tu):Sj:=⟨t.sub,t.who,t.of⟩
def qL(a b:Nat):Nat:=a&&& (18446744073709551615-b)
structure RU where
 at_:Nat
 tup:Nat
 st:List Nat
structure RW where
 K:Sj->Nat
 cs:List Tg
 kd:ae
 id:ae
 ts:List Tu
def jb(v:RW)(i:Ins)(s:RU):Option RU:=
 if 50000<s.st.length then none else
 match i.does,s.st with
 |1,st=>some ⟨s.at_+1,s.tup,0::st⟩
 |2,st=>some ⟨s.at_+1,s.tup,v.K ⟨v.kd,v.id,i.rel⟩::st⟩
 |3,st=>some ⟨if kL v.ts s.tup i.rel=0 then i.tzo else s.at_+1,kL v.ts s.tup i.rel,st⟩
 |4,st=>if 0<s.tup then (v.ts[s.tup-1]?).map fun t=>⟨s.at_+1,s.tup,jw v.K v.cs (fb t)::st⟩ else none
 |5,st=>if 0<s.tup then (v.ts[s.tup-1]?).map fun t=>⟨s.at_+1,s.tup,tK v.K (fb t) i.rel::st⟩ else none
 |6,b::a::st=>some ⟨s.at_+1,s.tup,(b|||a)::st⟩
 |7,b::a::st=>some ⟨s.at_+1,s.tup,(b&&& a)::st⟩
 |8,b::a::st=>some ⟨s.at_+1,s.tup,qL a b::st⟩
 |9,b::st=>some ⟨if b=0 then i.tzo else s.at_+1,s.tup,b::st⟩
 |10,st=>some ⟨i.tzo,s.tup,st⟩
 |_,_=>none
def Ea(v:RW)(code:List Ins)(s:RU):Option RU:=(code[s.at_]?).bind fun i=>jb v i s
def kr(v:RW)(code:List Ins):Nat->RU->Option RU
 |0,s=>some s
 |n+1,s=>(Ea v code s).bind (kr v code n)
def Eb(v code):∀n m s,kr v code (n+m) s=(kr v code n s).bind (kr v code m)
 |0,m,s=>by simp [kr]
 |n+1,m,s=>by
  rw [show n+1+m=(n+m)+1 by omega,kr,kr]
  cases h:Ea v code s with
  |none=>rfl
  |some s'=>simp only [Option.bind_some];exact Eb v code n m s'
def Goes(v:RW)(code:List Ins)(s s':RU):Prop:=∃n,kr v code n s=some s'
variable {code:List Ins}
def Goes.trans{v a b c}(h:Goes v code a b)(k:Goes v code b c):Goes v code a c:=by
 obtain ⟨n,hn⟩:=h;obtain ⟨m,A⟩:=k;exact ⟨n+m,by rw [Eb,hn];exact A⟩
def Goes.one{v s s' i}(hi:code[s.at_]? =some i)(h:jb v i s=some s'):Goes v code s s':=⟨1,by
 rw [kr,Ea,hi,Option.bind_some,h]
 rfl⟩
def Bj:Ex->Prop
 |⟨_,some x,some y⟩=>Bj x/\Bj y
 |⟨_,none,_⟩=>True
 |⟨_,some _,none⟩=>False
def jc(ts:List Tu)(r:ae)(f:Tu->Nat)(a:Nat):Nat:=(ts.filter fun t=>decide (t.rel=r)).foldl (fun a t=>f t|||a) a
def dT(v:RW)(rel:ae):Ex->Nat
 |⟨n,some x,some y⟩=>if n.kind=3 then dT v rel y|||dT v rel x else if dT v rel x=0 then 0 else if n.kind=4 then dT v rel y&&& dT v rel x else qL (dT v rel x) (dT v rel y)
 |⟨n,none,_⟩=>if n.kind=0 then jc v.ts rel (fun t=>jw v.K v.cs (fb t)) 0 else if n.kind=1 then v.K ⟨v.kd,v.id,n.n1⟩ else jc v.ts n.n1 (fun t=>tK v.K (fb t) n.n2) 0
 |⟨_,some _,none⟩=>0
def zm{α:Type}{p:α->Bool}:∀{l:List α} {i:Nat},l.findIdx? p=some i->∃x,l[i]? =some x/\l.filter p=x::(l.drop (i+1)).filter p
 | [],i,h=>by simp at h
 |y::l,i,h=>by
  rw [List.findIdx?_cons] at h
  by_cases A:p y=true
  ·rw [if_pos A] at h
   cases h
   exact ⟨y,rfl,by rw [List.filter_cons_of_pos A];rfl⟩
  rw [if_neg A] at h
  cases hl:l.findIdx? p with
  |none=>rw [hl] at h;simp at h
  |some j=>
   rw [hl] at h;simp only [Option.map_some,aL] at h;subst h;obtain ⟨x,h1,h2⟩:=zm hl;exact ⟨x,h1,by rw [List.filter_cons_of_neg A,h2];rfl⟩
def L0{ts r f}:(kL ts k r=0->jc (ts.drop k) r f a=a)/\(∀m,kL ts k r=m+1->k<=m/\∃t,ts[m]? =some t/\jc (ts.drop k) r f a=jc (ts.drop (m+1)) r f (f t|||a)):=by
 unfold kL
 cases h:(ts.drop k).findIdx? (fun t=>decide (t.rel=r)) with
 |none=>
  refine ⟨fun _=> ?_,fun m A=>by simp at A⟩;rw [o6] at h;unfold jc;rw [List.filter_eq_nil_iff.2 (fun x D=>by simpa using h x D)]
  rfl
 |some i=>
  refine ⟨fun h0=>by simp at h0,fun m A=> ?_⟩;have C:m=k+i:=by simp at A;omega
  subst C;obtain ⟨x,h1,h2⟩:=zm h;rw [rb] at h1;refine ⟨aj,x,h1,?_⟩;unfold jc;rw [h2,m9,List.foldl_cons,Uzc]
def RX(ts k r):kL ts k r<=ts.length:=by
 unfold kL
 split
 ·rename_i i h;have:=(kS.1 h).1;simp at this;omega
 omega
section
variable {v:RW}{code:List Ins}
def L6(m r each f st)(Y:st.length<40000)(h1:code[m+1]? =some ⟨3,r,m+5⟩)(h2:code[m+2]? =some each)(C:code[m+3]? =some ⟨6,⟨#[]⟩,0⟩)(D:code[m+4]? =some ⟨10,⟨#[]⟩,m+1⟩)(J:∀k t a,0<k->v.ts[k-1]? =some t->jb v each ⟨m+2,k,a::st⟩=some ⟨m+3,k,f t::a::st⟩):
  ∀d k a,v.ts.length-k=d->k<=v.ts.length->Goes v code ⟨m+1,k,a::st⟩ ⟨m+5,0,jc (v.ts.drop k) r f a::st⟩:=by
 intro d
 induction d using Nat.strongRecOn with
 |_ d ih=>
  intro k a Q R;have G:=L0 (ts:=v.ts) (r:=r) (f:=f) (k:=k) (a:=a)
  cases hn:kL v.ts k r with
  |zero=>
   rw [G.1 hn];exact Goes.one h1 (by simp [jb,hn];omega)
  |succ q=>
   obtain ⟨U,t,A,I⟩:=G.2 q hn;have V:=(br.1 A).1;rw [I];refine (Goes.one (s':=⟨m+2,q+1,a::st⟩) h1 (by simp [jb,hn];omega)).trans ?_;refine (Goes.one h2 (J (q+1) t a aj (by simpa using A))).trans ?_;refine (Goes.one (s':=⟨m+4,q+1,(f t|||a)::st⟩) C JI).trans ?_;refine (Goes.one (s':=⟨m+1,q+1,(f t|||a)::st⟩) D JI).trans ?_;exact ih (v.ts.length-(q+1)) aj (q+1) _ rfl aj
def Seg(code:List Ins)(m:Nat)(l:List Ins):Prop:=∀i,i<l.length->code[m+i]? =l[i]?
def Seg.left{l1 l2}(h:Seg code m (l1++l2)):Seg code m l1:=fun i hi=>by
 rw [h i Jh,ny hi]
def Seg.right{l1 l2}(h:Seg code m (l1++l2)):Seg code (m+l1.length) l2:=fun i hi=>by
 rw [Uzc,h (l1.length+i) Jh,nz aj]
 congr 1
 omega
def Seg.head{x l}(h:Seg code m (x::l)):code[m]? =some x:=by simpa using h 0 ar
def lM(rel):∀(e:Ex),Bj e->∀(m:Nat)(st:List Nat),Seg code m (be rel m e)->st.length+(be rel m e).length<40000->Goes v code ⟨m,0,st⟩ ⟨m+(be rel m e).length,0,dT v rel e::st⟩
 |⟨n,some x,some y⟩,hw,m,st,hc,hl=>by
  unfold Bj at hw;obtain ⟨U,V⟩:=hw;unfold be at hc hl ⊢;unfold dT
  by_cases A:n.kind=3
  ·rw [if_pos A] at hc hl;rw [if_pos A,if_pos A];simp only [aZ,List.length_singleton] at hl ⊢;have X:=lM rel x U m st hc.left.left aj;have I:=lM rel y V (m+(be rel m x).length) (dT v rel x::st) hc.left.right aM;have C:=hc.right.head;rw [aZ] at C;refine X.trans (I.trans ?_);rw [show m+((be rel m x).length+(be rel (m+(be rel m x).length) y).length+1)=m+(be rel m x).length+(be rel (m+(be rel m x).length) y).length+1 by omega];exact Goes.one (by rw [Uzc];exact C) JI
  rw [if_neg A] at hc hl;rw [if_neg A,if_neg A];simp only [aZ,List.length_singleton] at hl ⊢;have X:=lM rel x U m st hc.left.left.left aj;have S:=hc.left.left.right.head;have R:=hc.left.right;rw [aZ,List.length_singleton,<-Uzc] at R;have I:=lM rel y V (m+(be rel m x).length+1) (dT v rel x::st) R aM;have C:=hc.right.head;simp only [aZ,List.length_singleton] at C;refine X.trans ?_
  by_cases h0:dT v rel x=0
  ·rw [if_pos h0];refine Goes.one S ?_;simp [jb,h0];omega
  rw [if_neg h0];refine (Goes.one (s':=⟨m+(be rel m x).length+1,0,dT v rel x::st⟩) S (by simp [jb,h0];omega)).trans (I.trans ?_);rw [show m+((be rel m x).length+1+(be rel (m+(be rel m x).length+1) y).length+1)=m+(be rel m x).length+1+(be rel (m+(be rel m x).length+1) y).length+1 by omega];refine Goes.one (by rw [show m+(be rel m x).length+1+(be rel (m+(be rel m x).length+1) y).length=m+((be rel m x).length+1+(be rel (m+(be rel m x).length+1) y).length) by omega];exact C) ?_
  by_cases D:n.kind=4
  ·simp [jb,D];omega
  simp [jb,D];omega
 |⟨n,none,r⟩,hw,m,st,hc,hl=>by
  unfold be at hc hl ⊢;unfold dT;have Y:∀(r:ae)(each:Ins)(f:Tu->Nat),Seg code m (gC m r each)->st.length+5<40000->(∀k t a,0<k->v.ts[k-1]? =some t->jb v each ⟨m+2,k,a::st⟩=some ⟨m+3,k,f t::a::st⟩)->Goes v code ⟨m,0,st⟩ ⟨m+5,0,jc v.ts r f 0::st⟩:=by
   intro r each f hs hl Z;have h0:=hs 0 D9;have h1:=hs 1 D9;have h2:=hs 2 D9;have A:=hs 3 D9;have D:=hs 4 D9;refine (Goes.one (s':=⟨m+1,0,0::st⟩) h0 JI).trans ?_;exact L6 m r each f st aj h1 h2 A D Z _ 0 0 rfl aj
  by_cases h0:n.kind=0
  ·rw [if_pos h0] at hc hl;rw [if_pos h0,if_pos h0];exact Y rel ⟨4,⟨#[]⟩,0⟩ _ hc (by simpa [gC] using hl) (fun k t a J Q=>by simp [jb,J,Q];simp [gC] at hl;omega)
  rw [if_neg h0] at hc hl;rw [if_neg h0,if_neg h0]
  by_cases h1:n.kind=1
  ·rw [if_pos h1] at hc hl;rw [if_pos h1,if_pos h1];exact Goes.one hc.head (by simp at hl;simp [jb];omega)
  rw [if_neg h1] at hc hl;rw [if_neg h1,if_neg h1];exact Y n.n1 ⟨5,n.n2,0⟩ _ hc (by simpa [gC] using hl) (fun k t a J Q=>by simp [jb,J,Q];simp [gC] at hl;omega)
 |⟨n,some x,none⟩,hw,m,st,hc,hl=>by
  unfold Bj at hw;exact hw.elim
def L7(rel e)(A:Bj e)(h:(be rel 0 e).length<40000):Goes v (fY rel e) ⟨0,0,[]⟩ ⟨(be rel 0 e).length,0,[dT v rel e]⟩:=by
 have:=lM (v:=v) (code:=fY rel e) rel e A 0 [] (fun i hi=>by unfold fY;rw [pE,ny hi]) (by simpa using h)
 simpa using this
def RY(rel e):(fY rel e)[(be rel 0 e).length]? =some ⟨0,⟨#[]⟩,0⟩:=by
 unfold fY;rw [nz aj];simp
end
section
abbrev nY(a0:ae)(a1:ae)(a2:Option Addr)(a3:Nat)(a4:Nat):Obj:=.cells #[.string a0,.string a1,.slice a2 a3 a4] 282
def XV (h:aA:=by
 simpa using HJ.u.sk.below BA.u):aA:=h
def zn (h:aA:=by
 simp at hsl ⊢;omega):aA:=h
def tw (h:aA:=by
 simpa using hs):aA:=h
def lj (h:aA:=by
 exact ⟨rfl,r,aj,_,_,_,_,ak HIT,rfl,rfl,ak J1⟩):aA:=h
def Hs(q:aU) (h:bF aU->aA:=by
 intro zq;refine C.u.mono ?_;rintro e w1 ⟨v1,rfl,hf,hs⟩;have J1:=ai (tW.push (s':=⟨at_+1,tup,a::st⟩) (HJ.u.below BA.u) hf tw HJ.u.tup (fun x hx=>HB.u x (List.mem_cons_of_mem _ hx)));have C2:=ai (sy w.heap.size (w.heap.size+2) v1 st.reverse a _ hs zn);clear hf hs
 revert w1 v1 J1 C2
 exact zq.1):aA:=h ⟨q⟩
def RZ(q:aU) (h:bF aU->aA:=by
 intro zq;have t3:=hct 3 _ aj rfl;have t4:=hct 4 _ aj rfl;have t5:=hct 5 _ aj rfl;have hml:=(br.1 ht).1;have hmn:(m:Int)<(v.ts.length:Int):=aj;have hm0:(0:Int)<=(m:Int):=aj;have R5:=H.u.ho.most;have hw2:IntKind.i64.wrap (m:Int)=(m:Int):=by rw [zo];omega
 have hw1:IntKind.i64.wrap ((m:Int)+1-1)=(m:Int):=by rw [zo];omega
 revert t3 t4 t5 hml hmn hm0 R5 hw2 hw1
 exact zq.1):aA:=h ⟨q⟩
def Ht(q:aU) (h:bF aU->aA:=by
 intro zq;refine C2.u.mono ?_;rintro e w2 ⟨v2,rfl,hf,hs⟩;have J2:=ai (tW.push (s':=⟨at_+1,tup,st⟩) (ak J1) hf hs HJ.u.tup (fun x hx=>HB.u x (List.mem_cons_of_mem _ (List.mem_cons_of_mem _ hx))))
 revert w2 v2 hf hs J2
 exact zq.1):aA:=h ⟨q⟩
def Hu(q:aU) (h:bF aU->aA:=by
 intro zq;have hb:=HB.u b ar;have ha:=HB.u a ar;have C:=ai (sy w.heap.size (w.heap.size+2) sv (st.reverse++[a]) b _ XV zn);unfold Uj
 revert hb ha C
 exact zq.1):aA:=h ⟨q⟩
def R8(q:aU) (h:bF aU->aA:=by
 intro zq;obtain ⟨f0,f1,f2⟩:=three JA.u.kn;obtain ⟨g0,g1,g2⟩:=three JA.u.ho;obtain ⟨i0,i1,i2⟩:=three NB.u;have z3:=am T3.u JA.u.bel;have z4:=am T4.u JA.u.bel;have z5:=am T5.u JA.u.bel;have hlw:=JA.u.bel.size;have D:=ai (HM.u WA.drew JA.u.bel.drew)
 revert f0 f1 f2 g0 g1 g2 i0 i1 i2 z3 z4 z5 hlw D
 exact zq.1):aA:=h ⟨q⟩
def R9(q:aU) (h:bF aU->aA:=by
 intro zq;have k1:wr.cell? ⟨ig,at_*3+1,none⟩=some (.string rl):=K1.u;have k2:wr.cell? ⟨ig,at_*3+2,none⟩=some (.int .i64 tzo):=K2.u;unfold Uj
 revert k1 k2
 exact zq.1):aA:=h ⟨q⟩
def qM{P:Nat->Prop}(h:∃r,P r):∃r,P r/\∀A,A<r->¬P A:=by
 obtain ⟨r,C⟩:=h
 induction r using Nat.strongRecOn with
 |_ r ih=>
  by_cases h:∃A,A<r/\P A
  ·obtain ⟨A,h1,h2⟩:=h;exact ih A h1 h2
  exact ⟨r,C,fun A h1 h2=>h ⟨A,h1,h2⟩⟩
open Classical in
def Ec{a:Act}{Q:Exit->Act->af->Prop}{c rest:Code}(l:Nat)(C:Nat->Act->af->Prop)(R:findLabel c l=some (.seq .skip rest))
  (J:∀r a w,C r a w->rest.wp P (Exit.jump l (fun a' w'=>∃A,A<r/\C A a' w') Q) a w)
  (first:(∀r a w,C r a w->rest.wp P (Exit.jump l (fun a w=>∃r,C r a w) Q) a w)->c.wp P (Exit.jump l (fun a w=>∃r,C r a w) Q) a w):(Code.scope c).wp P Q a w:=by
 refine wp_scope_jumps l (fun a w=>∃r,C r a w) (fun a w=>if h:∃r,C r a w then Classical.choose (qM h) else 0) R (first fun r a w h=>wp_mono (J r a w h) (fun e a' w' q=>by
  cases e<;>try exact q
  obtain ⟨h1,A,_,D⟩:=q;exact ⟨h1,A,D⟩)) ?_
 intro a w h;have hs:=Classical.choose_spec (qM h);refine wp_seq (wp_skip ?_);refine wp_mono (J _ a w hs.1) (fun e a' w' q=> ?_)
 cases e<;>try exact q
 obtain ⟨h1,A,h2,D⟩:=q;refine ⟨h1,⟨A,D⟩,?_⟩;have I:∃r,C r a' w':=⟨A,D⟩;rw [dif_pos I,dif_pos h];have U:=Classical.choose_spec (qM I);have:¬A<Classical.choose (qM I):=fun e=>U.2 A e D
 omega
structure tW(w:af)(ca ha ta:Option Addr)(cn cc hn hc tn tc mb:Nat)(v:RW)(s:RU)(sv:ag)(wr:af):Prop where
 bel:an w wr
 kn:aE wr w.heap.size #[.slice ca cn cc,.slice ha hn hc,.map (some mb)] 189
 ho:aE wr (w.heap.size+1) #[.string v.kd,.string v.id,.slice ta tn tc] 282
 sk:LY w.heap.size wr (w.heap.size+2) sv s.st.reverse
 tup:s.tup<=v.ts.length
 bits:∀x∈s.st,x<18446744073709551616
def us94(us)(h:us.length=94):∃u:Nat->ag,us=[u 0,u 1,u 2,u 3,u 4,u 5,u 6,u 7,u 8,u 9,u 10,u 11,u 12,u 13,u 14,u 15,u 16,u 17,u 18,u 19,u 20,u 21,u 22,u 23,u 24,u 25,u 26,u 27,u 28,u 29,u 30,u 31,u 32,u 33,u 34,u 35,u 36,u 37,u 38,u 39,u 40,u 41,u 42,u 43,u 44,u 45,u 46,u 47,u 48,u 49,u 50,u 51,u 52,u 53,u 54,u 55,u 56,u 57,u 58,u 59,u 60,u 61,u 62,u 63,u 64,u 65,u 66,u 67,u 68,u 69,u 70,u 71,u 72,u 73,u 74,u 75,u 76,u 77,u 78,u 79,u 80,u 81,u 82,u 83,u 84,u 85,u 86,u 87,u 88,u 89,u 90,u 91,u 92,u 93]:=by
 refine ⟨fun k=>us.getD k undef,?_⟩;have e:us=(List.range 94).map (fun k=>us.getD k undef):=by
  refine List.ext_getElem (by simp [h]) fun i h1 h2=> ?_
  simp [ef,aH h1]
 generalize (fun k=>us.getD k undef)=u at*;rw [e]
 rfl
def Uj(w:af)(ca h ha ta:Option Addr)(cn cc il A hn hc tn tc mb:Nat)(v:RW)(s:RU)(C:ag)(us:List ag):Act:={tmps:=(.agg #[.slice ca cn cc,.slice ha hn hc,.map (some mb)]:: .slice h il A:: .agg #[.string v.kd,.string v.id,.slice ta tn tc]:: .pointer (some ⟨w.heap.size,0,none⟩)::C:: .pointer (some ⟨w.heap.size+1,0,none⟩):: .int .u64 0:: .pointer (some ⟨w.heap.size+2,0,none⟩):: .int .i64 s.at_:: .int .i64 s.tup::us).toArray,defers:=[]}
variable {base:Nat}
def LY.bel{C:ag}{l:List Nat}(h:LY base w b sv l)(k:oi b sv w w' C):Below base w w':=by
 exact PG
section
variable {w wr wa w1:af}{ca ha ta:Option Addr}{cn cc hn hc tn tc mb:Nat}{v:RW}{s s':RU}{sv xi:ag}
def tW.below(h:tW w ca ha ta cn cc hn hc tn tc mb v s sv wr)(k:an wr wa):tW w ca ha ta cn cc hn hc tn tc mb v s sv wa:=
 ⟨h.bel.trans (k.mono h.bel.size),h.kn.below k,h.ho.below k,h.sk.below k,h.tup,h.bits⟩
def tW.push(A:tW w ca ha ta cn cc hn hc tn tc mb v s sv wa)(f:oi (w.heap.size+2) sv wa w1 xi)(hs:LY w.heap.size w1 (w.heap.size+2) xi s'.st.reverse)(D:s'.tup<=v.ts.length)(C:∀x∈s'.st,x<18446744073709551616):tW w ca ha ta cn cc hn hc tn tc mb v s' xi w1:=
 ⟨A.bel.trans (A.sk.bel f),f.blk A.kn aj (fun e=>own_ne A.sk.row A.kn au e.symm),f.blk A.ho aj (fun e=>own_ne A.sk.row A.ho au e.symm),hs,D,C⟩
def tW.same(h:tW w ca ha ta cn cc hn hc tn tc mb v s sv wa)(hs:s'.st=s.st)(A:s'.tup<=v.ts.length):tW w ca ha ta cn cc hn hc tn tc mb v s' sv wa:=
 ⟨h.bel,h.kn,h.ho,by rw [hs];exact h.sk,A,by rw [hs];exact h.bits⟩
end
def BU.most{x cs}(h:BU w x cs):cs.length<=64:=by
 obtain ⟨_,_,_,_,_,h,_⟩:=h;exact h
def Ed{K cs}(h:∀s,K s<18446744073709551616)(A:cs.length<=64)(s):jw K cs s<18446744073709551616:=by
 unfold jw
 split
 ·exact sA _ _ _ A
 exact h s
def Sa{K}(h:∀s,K s<18446744073709551616)(s rel):tK K s rel<18446744073709551616:=by
 unfold tK
 split
 ·exact h _
 decide
def zo(n):IntKind.i64.wrap n=(n+9223372036854775808) % 18446744073709551616-9223372036854775808:=by
 simp [IntKind.wrap,IntKind.bits,IntKind.signed]
 split<;>omega
def Sb(ha:a<18446744073709551616)(h:b<18446744073709551616):bits .andNot .u64 (a:Int) (b:Int)=((qL a b:Nat):Int):=u64_andNot_nat a b ha h
def JJ(ha:a<18446744073709551616):qL a b<18446744073709551616:=Nat.lt_of_le_of_lt Nat.and_le_left ha
structure CoI(w:af)(ca ia ha ta:Option Addr)(cn cc il ic hn hc tn tc mb n:Nat)(v:RW)(code:List Ins):Prop where
 kn:qY w mb n v.K
 cr:BU w (.slice ca cn cc) v.cs
 ln:w.ownsRow 0 298 3 (.slice ia il ic) code.length (code.flatMap Dc)
 ho:V3 w (.slice ta tn tc) v.ts
 pos:0<v.ts.length
 bits:∀s,v.K s<18446744073709551616
 kd:v.kd.size<=maxLen
 id:v.id.size<=maxLen
 rel:∀i∈code,i.rel.size<=maxLen
 sub:∀t∈v.ts,nX (fb t)
 len:code.length<=100000
def L8(w ca ia ha ta cn cc il ic hn R tn tc mb n v code)(h:CoI w ca ia ha ta cn cc il ic hn R tn tc mb n v code)(p res)(a9:Goes v code ⟨0,0,[]⟩ ⟨p,0,[res]⟩)(aH:code[p]? =some ⟨0,⟨#[]⟩,0⟩):
  Calls prog 207 #[.agg #[.slice ca cn cc,.slice ha hn R,.map (some mb)],.slice ia il ic,.agg #[.string v.kd,.string v.id,.slice ta tn tc]] w fun e w'=>e=.returned (.int .u64 res)/\an w w':=by
 go_enter func207,ntmps207;go_wp2;refine Ec 0 (fun r a wr=>∃(s:RU)(sv aV:ag)(us:List ag),kr v code r s=some ⟨p,0,[res]⟩/\us.length=94/\a=Uj w ca ia ha ta cn cc il ic hn R tn tc mb v s aV us/\tW w ca ha ta cn cc hn R tn tc mb v s sv wr) rfl ?pass ?first
 case pass=>
  rintro r a wr ⟨s,sv,aV,us,Q,bb,rfl,av⟩;obtain ⟨u,rfl⟩:=us94 us bb;obtain ⟨i,hi⟩:∃i,code[s.at_]? =some i:=by
   cases r with
   |zero=>simp only [kr,aL] at Q;subst Q;exact ⟨_,aH⟩
   |succ r=>
    rw [kr,Ea] at Q
    cases R:code[s.at_]? with
    |none=>rw [R] at Q;simp at Q
    |some i=>exact ⟨i,rfl⟩
  obtain ⟨ig,bz,e1,R⟩:=bf Dc 3 (fun _=>rfl) (aB h.ln av.bel) s.at_ i hi;simp only [aI] at e1;obtain ⟨rfl,rfl,rfl⟩:=e1;have bt:=(br.1 hi).1;have k0:wr.cell? ⟨ig,s.at_*3,none⟩=some (.int .i64 i.does):=R 0 _ aj rfl;have k1:=R 1 _ aj rfl;have k2:=R 2 _ aj rfl;have bw:=h.len;have bv:(s.at_:Int)<(code.length:Int):=aj;have bu:s.at_<100000:=aj;have bx:=av.bel.size;have HJ:=ai av;have H:=ai h;have ae:=ai hi;have aY:=ai aH;have HIT:=ai Q;have aN:=(az wr.heap.size wr).alloc aD (ka i.does i.rel i.tzo);have BA:=ai aN;clear R av h hi aH Q aN
  cases r with
  |zero=>
   have Q:=ak HIT;simp only [kr,aL] at Q;subst Q;have aG:=ae.u;rw [aY.u] at aG;simp only [aL] at aG;subst aG;dsimp only at*;have C:=ai (sy w.heap.size (w.heap.size+2) sv [] res _ (show LY w.heap.size _ _ sv ([]++[res]) from HJ.u.sk.below BA.u) ar);unfold Uj;go_wp2_with fail;refine C.u.mono ?_;rintro e w1 ⟨v',rfl,hf,hs⟩;have aX:=ai hf;clear hf hs;go_wp2;simp only [Exit.jump];go_ret;refine ⟨rfl,?_⟩;exact ((HJ.u.below BA.u).bel.trans ((HJ.u.below BA.u).sk.bel aX.u))
  |succ r=>
   obtain ⟨s',A,Q⟩:∃s',jb v i s=some s'/\kr v code r s'=some ⟨p,0,[res]⟩:=by
    have Q:=ak HIT;rw [kr,Ea,ae.u,Option.bind_some] at Q
    cases hs:jb v i s with
    |none=>rw [hs] at Q;simp at Q
    |some s'=>rw [hs] at Q;exact ⟨s',rfl,Q⟩
   clear HIT;have HIT:=ai Q;clear Q;unfold jb at A
   split at A
   ·cases A
   rename_i hsl;obtain ⟨d,rl,tzo⟩:=i;obtain ⟨at_,tup,st⟩:=s;dsimp only at*;obtain ⟨c0,c1,c2⟩:=three HJ.u.kn;obtain ⟨d0,d1,d2⟩:=three HJ.u.ho;have e0:wr.cell? ⟨w.heap.size+2,0,none⟩=some sv:=HJ.u.sk.blk.cell rfl;have bC:=HJ.u.sk.blk.lt;have bB:¬(w.heap.size=wr.heap.size):=aj;have n1:¬(w.heap.size+1=wr.heap.size):=aj;have n2:¬(w.heap.size+2=wr.heap.size):=aj;have HB:=ai HJ.u.bits;have K0:=ai k0;have K1:=ai k1;have K2:=ai k2
   split at A
   ·simp only [aL] at A;subst A;have C:=ai (kq w.heap.size (w.heap.size+2) sv st.reverse 0 _ (HJ.u.sk.below BA.u) aM);unfold Uj;go_wp2_with fail;refine C.u.mono ?_;rintro e w1 ⟨v',rfl,hf,hs⟩;have J1:=ai (tW.push (s':=⟨at_+1,tup,0::st⟩) (HJ.u.below BA.u) hf tw HJ.u.tup (fun x hx=>by rcases bi.1 hx with rfl|hx;(· decide);exact HB.u x hx));clear hf hs;go_wp2
    go_step3
    exact lj
   ·simp only [aL] at A;subst A;have V:an wr (wr.alloc (.cells #[.int .i64 2,.string rl,.int .i64 tzo] 298)):=BA.u;have J:=HJ.u.below V;have aO:=(H.u.kn.block (J.bel.block mb H.u.kn.lt)).look (s:=⟨v.kd,v.id,rl⟩) ⟨H.u.kd,H.u.id,H.u.rel _ (bA ae.u)⟩;have a7:=H.u.bits ⟨v.kd,v.id,rl⟩;unfold xk at aO;dsimp only at aO;obtain ⟨f0,f1,f2⟩:=three J.kn;obtain ⟨g0,g1,g2⟩:=three J.ho;have C:=ai (kq w.heap.size (w.heap.size+2) sv st.reverse (v.K ⟨v.kd,v.id,rl⟩) _ J.sk aM);clear V J;unfold Uj;go_wp2_with fail;refine C.u.mono ?_;rintro e w1 ⟨v',rfl,hf,hs⟩;have J1:=ai (tW.push (s':=⟨at_+1,tup,v.K ⟨v.kd,v.id,rl⟩::st⟩) (HJ.u.below BA.u) hf tw HJ.u.tup (fun x hx=>by rcases bi.1 hx with rfl|hx;(· exact a7);exact HB.u x hx));clear hf hs;go_wp2
    go_step3
    exact lj
   ·simp only [aL] at A;subst A;have V:an wr (wr.alloc (.cells #[.int .i64 3,.string rl,.int .i64 tzo] 298)):=BA.u;have J:=HJ.u.below V;obtain ⟨g0,g1,g2⟩:=three J.ho;have nb:=aE.new wr #[.int .i64 3,.string rl,.int .i64 tzo] 298;have C:=ai (RL v.kd v.id rl (.slice ta tn tc) v.ts tup _ (H.u.ho.below J.bel) H.u.pos HJ.u.tup);have aw:=RX v.ts tup rl;generalize kL v.ts tup rl=m at*;have JA:=ai J;have NB:=ai nb;clear J nb V;unfold Uj;go_wp2_with fail;refine C.u.mono ?_;rintro e w1 ⟨rfl,ah⟩;have J:=JA.u;obtain ⟨aQ,aR,aS⟩:=three (NB.u.below ah);clear NB JA C
    by_cases hm0:m=0
    ·have aJ:((m:Int)==0)=true:=by rw [hm0];rfl
     have J1:=ai (tW.same (s':=⟨tzo,m,st⟩) (J.below ah) rfl aw);rw [if_pos hm0] at HIT;clear hm0 ah J aw;go_wp2
     go_step3
     exact lj
    have aJ:((m:Int)==0)=false:=by simpa using hm0
    have J1:=ai (tW.same (s':=⟨at_+1,m,st⟩) (J.below ah) rfl aw);rw [if_neg hm0] at HIT;clear hm0 ah J aw;go_wp2
    go_step3
    exact lj
   ·split at A
    ·rename_i ba;obtain ⟨m,rfl⟩:∃m,tup=m+1:=⟨tup-1,aj⟩;rw [show m+1-1=m by omega] at A
     cases ht:v.ts[m]? with
     |none=>rw [ht] at A;cases A
     |some t=>
      rw [ht] at A;simp only [Option.map_some,aL] at A;subst A;have Z:=H.u.sub t (bA ht);obtain ⟨Y,bs,af,hct⟩:=bf jD 6 (fun _=>rfl) H.u.ho.row m t ht;simp only [aI] at af;obtain ⟨rfl,rfl,rfl⟩:=af;refine RZ ?_;intro t3 t4 t5 hml hmn hm0 R5 hw2 hw1;have V:an wr (wr.alloc (.cells #[.int .i64 4,.string rl,.int .i64 tzo] 298)):=BA.u;have J:=HJ.u.below V;have NB:=ai (aE.new wr #[.int .i64 4,.string rl,.int .i64 tzo] 298);have aC:=Ed H.u.bits H.u.cr.most (fb t);have aP:=H.u.rel _ (bA ae.u);have HM:=ai (fun w' (k:an w w')=>LZ _ v.cs ha hn R mb n v.K (fb t) w' (H.u.kn.block (k.block mb H.u.kn.lt)) (H.u.cr.below k) Z);generalize aF:jw v.K v.cs (fb t)=X at*;have JA:=ai J;have T3:=ai t3;have T4:=ai t4;have T5:=ai t5;have aZ:=ai Z;have aK:=HJ.u.tup;clear J V hct ht Z aF k0 k1 k2 c0 c1 c2 d0 d1 d2 e0;have k0:wr.cell? ⟨ig,at_*3,none⟩=some (.int .i64 4):=K0.u;refine R9 ?_;intro k1 k2;go_wp2_with fail;generalize (wr.alloc (.cells #[.int .i64 4,.string rl,.int .i64 tzo] 298))=WA at*;clear k0 k1 k2;refine R8 ?_;intro f0 f1 f2 g0 g1 g2 i0 i1 i2 z3 z4 z5 hlw D
      go_region_held3 (fun w'=>w'.cell? ⟨w.heap.size,0,none⟩=some (.slice ca cn cc)/\w'.cell? ⟨w.heap.size,1,none⟩=some (.slice ha hn R)/\w'.cell? ⟨w.heap.size,2,none⟩=some (.map (some mb))/\w'.cell? ⟨w.heap.size+1,2,none⟩=some (.slice (some ⟨Y,0,none⟩) v.ts.length tc)/\w'.cell? ⟨Y,m*6+3,none⟩=some (.string t.sub)/\w'.cell? ⟨Y,m*6+4,none⟩=some (.string t.who)/\w'.cell? ⟨Y,m*6+5,none⟩=some (.string t.of)/\w'.cell? ⟨wr.heap.size,1,none⟩=some (.string rl)) (go_keep)
       (first
       |(go_at_call 243;refine D.u.mono ?_;rintro e w2 ⟨rfl,al⟩;have I:=ai (show an WA w2 from (az _ WA).drew.trans al);have aQ:=am f0 I.u;have aR:=am f1 I.u;have aS:=am f2 I.u;have bl:=am g2 I.u;have bn:=am z3 I.u;have bo:=am z4 I.u;have bp:=am z5 I.u;have bq:=am i1 I.u;clear al)
       |(go_at_call 241;refine (kq w.heap.size (w.heap.size+2) sv st.reverse X _ (JA.u.below I.u).sk aM).mono ?_;rintro e ay ⟨v',rfl,hf,hs⟩;have ab:=JA.u.below I.u;have U:=tW.push (s':=⟨at_+1,m+1,X::st⟩) ab hf tw aK (fun x hx=>by rcases bi.1 hx with rfl|hx;(· exact aC);exact HB.u x hx);have nb:=NB.u.below I.u;have ap:=hf.blk nb aj (fun e=>own_ne ab.sk.row nb au e.symm);obtain ⟨bc,p1,p2⟩:=three U.kn;have be:=(three U.ho).2.2;have bg:=am T3.u U.bel;have bh:=am T4.u U.bel;have bj:=am T5.u U.bel;have bk:=(three ap).2.1;have J1:=ai U;clear hf hs ab U nb ap))
      all_goals (
       go_wp2
       go_step3
       exact ⟨rfl,r,aj,_,_,_,_,ak HIT,rfl,rfl,ak J1⟩)
    cases A
   ·split at A
    ·rename_i ba;obtain ⟨m,rfl⟩:∃m,tup=m+1:=⟨tup-1,aj⟩;rw [show m+1-1=m by omega] at A
     cases ht:v.ts[m]? with
     |none=>rw [ht] at A;cases A
     |some t=>
      rw [ht] at A;simp only [Option.map_some,aL] at A;subst A;have Z:=H.u.sub t (bA ht);obtain ⟨Y,bs,af,hct⟩:=bf jD 6 (fun _=>rfl) H.u.ho.row m t ht;simp only [aI] at af;obtain ⟨rfl,rfl,rfl⟩:=af;refine RZ ?_;intro t3 t4 t5 hml hmn hm0 R5 hw2 hw1;have V:an wr (wr.alloc (.cells #[.int .i64 5,.string rl,.int .i64 tzo] 298)):=BA.u;have J:=HJ.u.below V;have NB:=ai (aE.new wr #[.int .i64 5,.string rl,.int .i64 tzo] 298);have aC:=Sa H.u.bits (fb t) rl;have aP:=H.u.rel _ (bA ae.u);have HM:=ai (fun w' (k:an w w')=>Hr ca ha cn cc hn R mb n v.K (fb t) rl w' (H.u.kn.block (k.block mb H.u.kn.lt)) Z aP);generalize aF:tK v.K (fb t) rl=X at*;have JA:=ai J;have T3:=ai t3;have T4:=ai t4;have T5:=ai t5;have aZ:=ai Z;have aK:=HJ.u.tup;clear J V hct ht Z aF k0 k1 k2 c0 c1 c2 d0 d1 d2 e0;have k0:wr.cell? ⟨ig,at_*3,none⟩=some (.int .i64 5):=K0.u;refine R9 ?_;intro k1 k2;go_wp2_with fail;generalize (wr.alloc (.cells #[.int .i64 5,.string rl,.int .i64 tzo] 298))=WA at*;clear k0 k1 k2;refine R8 ?_;intro f0 f1 f2 g0 g1 g2 i0 i1 i2 z3 z4 z5 hlw D
      go_region_held3 (fun w'=>w'.cell? ⟨w.heap.size,0,none⟩=some (.slice ca cn cc)/\w'.cell? ⟨w.heap.size,1,none⟩=some (.slice ha hn R)/\w'.cell? ⟨w.heap.size,2,none⟩=some (.map (some mb))/\w'.cell? ⟨w.heap.size+1,2,none⟩=some (.slice (some ⟨Y,0,none⟩) v.ts.length tc)/\w'.cell? ⟨Y,m*6+3,none⟩=some (.string t.sub)/\w'.cell? ⟨Y,m*6+4,none⟩=some (.string t.who)/\w'.cell? ⟨Y,m*6+5,none⟩=some (.string t.of)/\w'.cell? ⟨wr.heap.size,1,none⟩=some (.string rl)) (go_keep)
       (first
       |(go_at_call 244;refine D.u.mono ?_;rintro e w2 ⟨rfl,al⟩;have I:=ai (show an WA w2 from (az _ WA).drew.trans al);have aQ:=am f0 I.u;have aR:=am f1 I.u;have aS:=am f2 I.u;have bl:=am g2 I.u;have bn:=am z3 I.u;have bo:=am z4 I.u;have bp:=am z5 I.u;have bq:=am i1 I.u;clear al)
       |(go_at_call 241;refine (kq w.heap.size (w.heap.size+2) sv st.reverse X _ (JA.u.below I.u).sk aM).mono ?_;rintro e ay ⟨v',rfl,hf,hs⟩;have ab:=JA.u.below I.u;have U:=tW.push (s':=⟨at_+1,m+1,X::st⟩) ab hf tw aK (fun x hx=>by rcases bi.1 hx with rfl|hx;(· exact aC);exact HB.u x hx);have nb:=NB.u.below I.u;have ap:=hf.blk nb aj (fun e=>own_ne ab.sk.row nb au e.symm);obtain ⟨bc,p1,p2⟩:=three U.kn;have be:=(three U.ho).2.2;have bg:=am T3.u U.bel;have bh:=am T4.u U.bel;have bj:=am T5.u U.bel;have bk:=(three ap).2.1;have J1:=ai U;clear hf hs ab U nb ap))
      all_goals (
       go_wp2
       go_step3
       exact ⟨rfl,r,aj,_,_,_,_,ak HIT,rfl,rfl,ak J1⟩)
    cases A
   ·rename_i b a st;simp only [aL] at A;subst A;refine Hu ?_;intro hb ha C;go_wp2_with fail;refine Hs ?_;intro w1 v1 J1 C2;clear C;go_wp2_with fail;refine Ht ?_;intro w2 v2 hf hs J2;have c3:=kq w.heap.size (w.heap.size+2) v2 st.reverse (b|||a) w2 hs zn;rw [<-u64_or_nat b a hb ha] at c3;have ad:=ai c3;clear hf hs C2 c3 J1;go_wp2_with fail;refine ad.u.mono ?_;rintro e ay ⟨aW,rfl,hf,hs⟩;have J1:=ai (tW.push (s':=⟨at_+1,tup,(b|||a)::st⟩) J2.u hf tw HJ.u.tup (fun x hx=>by rcases bi.1 hx with rfl|hx;(· exact Bi (n:=64) hb ha);exact HB.u x (List.mem_cons_of_mem _ (List.mem_cons_of_mem _ hx))));clear hf hs;go_wp2
    go_step3
    exact lj
   ·rename_i b a st;simp only [aL] at A;subst A;refine Hu ?_;intro hb ha C;go_wp2_with fail;refine Hs ?_;intro w1 v1 J1 C2;clear C;go_wp2_with fail;refine Ht ?_;intro w2 v2 hf hs J2;have c3:=kq w.heap.size (w.heap.size+2) v2 st.reverse (b&&& a) w2 hs zn;rw [<-u64_and_nat b a hb ha] at c3;have ad:=ai c3;clear hf hs C2 c3 J1;go_wp2_with fail;refine ad.u.mono ?_;rintro e ay ⟨aW,rfl,hf,hs⟩;have J1:=ai (tW.push (s':=⟨at_+1,tup,(b&&& a)::st⟩) J2.u hf tw HJ.u.tup (fun x hx=>by rcases bi.1 hx with rfl|hx;(· exact Nat.and_lt_two_pow (n:=64) b ha);exact HB.u x (List.mem_cons_of_mem _ (List.mem_cons_of_mem _ hx))));clear hf hs;go_wp2
    go_step3
    exact lj
   ·rename_i b a st;simp only [aL] at A;subst A;refine Hu ?_;intro hb ha C;go_wp2_with fail;refine Hs ?_;intro w1 v1 J1 C2;clear C;go_wp2_with fail;refine Ht ?_;intro w2 v2 hf hs J2;have c3:=kq w.heap.size (w.heap.size+2) v2 st.reverse (qL a b) w2 hs zn;rw [<-Sb ha hb] at c3;have ad:=ai c3;clear hf hs C2 c3 J1;go_wp2_with fail;refine ad.u.mono ?_;rintro e ay ⟨aW,rfl,hf,hs⟩;have J1:=ai (tW.push (s':=⟨at_+1,tup,(qL a b)::st⟩) J2.u hf tw HJ.u.tup (fun x hx=>by rcases bi.1 hx with rfl|hx;(· exact JJ ha);exact HB.u x (List.mem_cons_of_mem _ (List.mem_cons_of_mem _ hx))));clear hf hs;go_wp2
    go_step3
    exact lj
   ·rename_i b st;simp only [aL] at A;subst A;obtain ⟨sa,sc,rfl⟩:=ax HJ.u.sk.row;have C:=ai (RI w.heap.size (w.heap.size+2) _ st.reverse b _ XV zn)
    by_cases ac:b=0
    ·have aJ:((b:Int)==0)=true:=by rw [ac];rfl
     have J1:=ai (tW.same (s':=⟨if b=0 then tzo else at_+1,tup,b::st⟩) (HJ.u.below BA.u) rfl HJ.u.tup);rw [if_pos ac] at HIT J1;clear ac;unfold Uj;go_wp2_with fail;refine C.u.mono ?_;rintro e w1 ⟨rfl,rfl⟩;go_wp2
     go_step3
     exact lj
    have aJ:((b:Int)==0)=false:=by simpa using ac
    have J1:=ai (tW.same (s':=⟨if b=0 then tzo else at_+1,tup,b::st⟩) (HJ.u.below BA.u) rfl HJ.u.tup);rw [if_neg ac] at HIT J1;clear ac;unfold Uj;go_wp2_with fail;refine C.u.mono ?_;rintro e w1 ⟨rfl,rfl⟩;go_wp2
    go_step3
    exact lj
   ·simp only [aL] at A;subst A;have J1:=ai (tW.same (s':=⟨tzo,tup,st⟩) (HJ.u.below BA.u) rfl HJ.u.tup);unfold Uj;go_wp2
    go_step3
    exact lj
   cases A
 case first=>
  intro pass;go_wp2
  go_step3
  obtain ⟨N,a8⟩:=a9;rename_i K a6;refine a6 _ _ (pass N _ _ ⟨⟨0,0,[]⟩,.slice none 0 0,_,_,a8,?_,rfl,?_⟩)
  ·rfl
  have b1:=(az w.heap.size w).alloc aD (.cells #[.slice ca cn cc,.slice ha hn R,.map (some mb)] 189);have a5:=b1.alloc ar (nY v.kd v.id ta tn tc);refine ⟨a5.alloc aM _,((aE.new w _ _).alloc _).alloc _,(aE.new' _ _ _ _ ar).alloc _,⟨aE.new' _ _ _ _ ar,bL,aj⟩,gH _,fun x hx=>by cases hx⟩
end
variable {code:List Ins}
def CoI.below{ca ia ha ta il ic hn hc tn tc mb v}(h:CoI w ca ia ha ta cn cc il ic hn hc tn tc mb n v code)(k:an w w'):CoI w' ca ia ha ta cn cc il ic hn hc tn tc mb n v code:=
 ⟨h.kn.block (k.block mb h.kn.lt),h.cr.below k,aB h.ln k,h.ho.below k,h.pos,h.bits,h.kd,h.id,h.rel,h.sub,h.len⟩
def Zl(mb n:Nat)(K:Sj->Nat)(s:Sj)(X:Nat)(w:af)(e:Ending)(w':af):Prop:=
 bG (fun k=>k=mb) w w'/\((X=K s/\e=.returned (.bool false)/\qY w' mb n K)\/(X≠K s/\e=.returned (.bool true)/\qY w' mb (n+1) (mU K s X)))
def L9(w ca ia ha ta cn cc il ic hn hc tn tc mb n v knd rel ex)(h:CoI w ca ia ha ta cn cc il ic hn hc tn tc mb n v (fY rel ex))(au:Bj ex)(am:(be rel 0 ex).length<40000)(hrel:rel.size<=maxLen)(ah:dT v rel ex<18446744073709551616)(ap:n<maxLen):
  Calls prog 149 #[.agg #[.slice ca cn cc,.slice ha hn hc,.map (some mb)],.agg #[.string knd,.string rel,.slice ia il ic],.agg #[.string v.kd,.string v.id,.slice ta tn tc]] w (Zl mb n v.K ⟨v.kd,v.id,rel⟩ (dT v rel ex) w):=by
 have Z:nX ⟨v.kd,v.id,rel⟩:=⟨h.kd,h.id,hrel⟩;have ag:=L7 (v:=v) rel ex au am;generalize dT v rel ex=X at*;have U:an w ((((w.alloc (.cells #[.slice ca cn cc,.slice ha hn hc,.map (some mb)] 189)).alloc (.cells #[.string knd,.string rel,.slice ia il ic] 201)).alloc (nY v.kd v.id ta tn tc)).alloc (cB v.kd v.id rel)):=((((az w.heap.size w).alloc aD (.cells #[.slice ca cn cc,.slice ha hn hc,.map (some mb)] 189)).alloc ar (.cells #[.string knd,.string rel,.slice ia il ic] 201)).alloc aM (nY v.kd v.id ta tn tc)).alloc aM (cB v.kd v.id rel);have C:=ai (L8 _ ca ia ha ta cn cc il ic hn hc tn tc mb n v (fY rel ex) (h.below U) (be rel 0 ex).length X ag (RY rel ex));have ae:=ai ((((aE.new w #[.slice ca cn cc,.slice ha hn hc,.map (some mb)] 189).alloc (.cells #[.string knd,.string rel,.slice ia il ic] 201)).alloc (nY v.kd v.id ta tn tc)).alloc (cB v.kd v.id rel));have af:=ai (aE.new' (((w.alloc (.cells #[.slice ca cn cc,.slice ha hn hc,.map (some mb)] 189)).alloc (.cells #[.string knd,.string rel,.slice ia il ic] 201)).alloc (nY v.kd v.id ta tn tc)) #[.string v.kd,.string v.id,.string rel] 102 (w.heap.size+3) ar);have Q:=ai U;have R:=ai h.kn;go_enter func149,ntmps149;go_wp2_with fail;refine C.u.mono ?_;rintro e w1 ⟨rfl,A⟩;have b1:=Q.u.trans (A.mono Q.u.size);obtain ⟨c0,c1,c2⟩:=three (ae.u.below A);obtain ⟨d0,d1,d2⟩:=three (af.u.below A);have I:=R.u.block (b1.block mb R.u.lt);have V:=I.look Z;unfold xk at V;dsimp only at V;have J:=ai b1
 by_cases D:X=v.K ⟨v.kd,v.id,rel⟩
 ·simp;have ac:=ai I;go_wp2;go_ret;exact ⟨.of_below J.u,.inl ⟨D,rfl,ac.u⟩⟩
 ·have aw:((X:Int)==((v.K ⟨v.kd,v.id,rel⟩:Nat):Int))=false:=by
   rw [b6];intro e;exact D aj
  obtain ⟨ax,Y,av,ak⟩:=I.upd ap Z ah;unfold xk at Y;dsimp only at Y;have ad:=ai av;have ab:=ai ak;go_wp2;go_ret;refine ⟨?_,.inr ⟨D,rfl,ad.u⟩⟩;exact (bG.of_below J.u).trans (dr ab.u (fun k al=>by simpa using al.symm))
structure Hd where
 kd:ae
 id:ae
 ts:List Tu
 tv:ag
def JK(h:Hd):List ag:=[.string h.kd,.string h.id,h.tv]
structure HdOK(h:Hd):Prop where
 pos:0<h.ts.length
 kd:h.kd.size<=maxLen
 id:h.id.size<=maxLen
 sub:∀t∈h.ts,nX (fb t)
structure HsI(w:af)(hv:ag)(hl:List Hd):Prop where
 row:w.ownsRow 0 282 3 hv hl.length (hl.flatMap JK)
 tups:∀h∈hl,V3 w h.tv h.ts/\HdOK h
 most:hl.length<=1000
def Uk(K:Sj->Nat)(cs:List Tg)(h:Hd):RW:=⟨K,cs,h.kd,h.id,h.ts⟩
def jL(p:It×ag)(h:Hd):Sj:=⟨h.kd,h.id,p.1.2.1.name⟩
def tx(K:Sj->Nat)(cs:List Tg)(p:It×ag)(h:Hd):Nat:=dT (Uk K cs h) p.1.2.1.name p.1.2.1.body
structure Zm(p:It×ag):Prop where
 wf:Bj p.1.2.1.body
 len:(be p.1.2.1.name 0 p.1.2.1.body).length<40000
 name:p.1.2.1.name.size<=maxLen
 rel:∀i∈fY p.1.2.1.name p.1.2.1.body,i.rel.size<=maxLen
structure SeG(w:af)(cv hv sv:ag)(cs:List Tg)(hl:List Hd)(ls:List (It×ag)):Prop where
 cr:BU w cv cs
 hs:HsI w hv hl
 ln:BS 0 w sv ls
 ok:∀p∈ls,Zm p
 few:ls.length<=1000000
section
variable {w w':af}{cv hv sv tv:ag}{cs:List Tg}{hl:List Hd}{ls:List (It×ag)}{mb n:Nat}{K:Sj->Nat}{ts:List Tu}
def nZ(w w':af):Prop:=w.heap.size<=w'.heap.size/\∀(g:Nat)(cs:Array ag)(T:TypeId)(f:Nat×Nat),w.heap[g]? =some (.cells cs T f)->w'.heap[g]? =w.heap[g]?
def mF(C:qY w mb n K)(A:bG (fun k=>k=mb) w w'):nZ w w':=⟨A.size,fun g cs T f h=>A.block g (lt_of_some h) (fun e=>by
 subst e;obtain ⟨I,c,D⟩:=C.isMap;rw [D] at h
 cases h)⟩
def V3.cellsK(h:V3 w tv ts)(k:nZ w w'):V3 w' tv ts:=⟨ay h.row (fun g cs f _ A=>k.2 g cs _ f A),h.most⟩
def HsI.cellsK(h:HsI w hv hl)(k:nZ w w'):HsI w' hv hl:=⟨ay h.row (fun g cs f _ C=>k.2 g cs _ f C),fun x A=>⟨(h.tups x A).1.cellsK k,(h.tups x A).2⟩,h.most⟩
def tA{a x}(h:w.cell? a=some x)(k:nZ w w'):w'.cell? a=some x:=by
 rw [<-h];apply ji;unfold World.cell? at h
 cases A:w.heap[a.block]? with
 |none=>rw [A] at h;cases h
 |some o=>
  cases o with
  |cells cs T f=>exact (k.2 _ cs T f A).trans A
  |_=>rw [A] at h;cases h
def BU.cellsK(h:BU w cv cs)(k:nZ w w'):BU w' cv cs:=by
 obtain ⟨g,o,c,h1,h2,C,A⟩:=h;exact ⟨g,o,c,h1,cK h2 k.1,C,fun i x hi=>⟨tA (A i x hi).1 k,tA (A i x hi).2 k⟩⟩
def SeG.cellsK(h:SeG w cv hv sv cs hl ls)(k:nZ w w'):SeG w' cv hv sv cs hl ls:=⟨h.cr.cellsK k,h.hs.cellsK k,h.ln.frame (fun g cs T f A _=>k.2 g cs T f A),h.ok,h.few⟩
def Bk(k:an w w'):nZ w w':=⟨k.size,fun g cs T f h=>k.block g (lt_of_some h)⟩
end
structure SeC(cs:List Tg)(hl:List Hd)(ls:List (It×ag))(Inv:(Sj->Nat)->Prop)(mu:(Sj->Nat)->Nat):Prop where
 bits:∀K,Inv K->∀s,K s<18446744073709551616
 val:∀K,Inv K->∀p∈ls,∀h∈hl,h.kd=p.1.1.1.name->tx K cs p h<18446744073709551616
 step:∀K,Inv K->∀p∈ls,∀h∈hl,h.kd=p.1.1.1.name->tx K cs p h≠K (jL p h)->Inv (mU K (jL p h) (tx K cs p h))/\mu (mU K (jL p h) (tx K cs p h))<mu K
def qN(h:Hd)(t:Tu):Bool:=D8 ⟨h.kd,h.id⟩ ⟨t.kind,t.id⟩
def Zn(h va vn vc t q w)(C:aE w q (kW t.kind t.id t.rel t.sub t.who t.of) 123):
  Calls prog 148 #[.agg #[.string h.kd,.string h.id,.slice va vn vc],.pointer (some ⟨q,0,none⟩)] w fun e w'=>e=.returned (.bool (qN h t))/\an w w':=by
 have hl:=C.lt;have A:=(az w.heap.size w).alloc aD (nY h.kd h.id va vn vc);have D:=ai A;have Q:¬(w.heap.size=q):=aj;obtain ⟨R,U,V,Y,Z,ab⟩:=(C.below A).six;have J:=JH;have I:=fun w'=>JG ⟨h.kd,h.id⟩ ⟨t.kind,t.id⟩ w'
 dsimp only at I;go_enter func148,ntmps148;go_wp2;go_ret;exact ⟨rfl,D.u⟩
def Ma(l:List Hd)(t:Tu):Int:=match l.findIdx? (fun h=>qN h t) with
 |some k=>k
 |none=> -1
def V5{l t}(hk:k<l.length)(hn:∀j,(h:j<l.length)->j<k->qN l[j] t=false)(he:qN l[k] t=true):Ma l t=k:=by
 unfold Ma;have:l.findIdx? (fun h=>qN h t)=some k:=by
  exact FB
 rw [this]
def Mb{l t}(hn:∀j,(h:j<l.length)->qN l[j] t=false):Ma l t= -1:=by
 unfold Ma;have:l.findIdx? (fun h=>qN h t)=none:=by
  exact FA
 rw [this]
def Hv(base v l t q w)(ap:l.length<=1000)(h:w.ownsRow base 282 3 v l.length (l.flatMap JK))(hs:∀x∈l,∃a n c,x.tv=.slice a n c)(ah:aE w q (kW t.kind t.id t.rel t.sub t.who t.of) 123):
  Calls prog 147 #[v,.func (.func 148) #[] #[.pointer (some ⟨q,0,none⟩)]] w fun e w'=>e=.returned (.int .i64 (Ma l t))/\an w w':=by
 obtain ⟨sa,sc,rfl⟩:=ax h;have H:=ai h;have ac:=ai ah;have ab:=ai hs;go_enter func147,ntmps147;go_wp2
 go_loopw [5,8] (fun u i wr=>∃k:Nat,k<=l.length/\i=.int .i64 k/\an w wr/\Hid (∀j,(h:j<l.length)->j<k->qN l[j] t=false)) (fun _ i _=>l.length-(intOf i).toNat)
 case atStart=>exact ⟨0,aj,rfl,az _ _,ai (fun j e h=>aj)⟩
 case round=>
  obtain ⟨k,am,rfl,Q,J⟩:=hrel;have HB:=ai Q
  by_cases R:k<l.length
  ·obtain ⟨g,c,e1,hc⟩:=bf JK 3 (fun _=>rfl) (aB H.u Q) k l[k] (aH R);simp only [aI] at e1;obtain ⟨rfl,_,rfl⟩:=e1;obtain ⟨U,Y,V,hv⟩:=ab.u l[k] (bn R);have ad:=ai (ac.u.below Q);have ae:=ai (fun (he:qN l[k] t=true)=>V5 R (ak J) he);have MR:=ai (fun (he:qN l[k] t=false)=>(show ∀j,(h:j<l.length)->j<k+1->qN l[j] t=false from fun j h al=>by
     by_cases e:j=k
     ·subst e;exact he
     exact ak J j h aj))
   have C:=ai (Zn l[k] U Y V t q wr ad.u);generalize l[k]=y at*;have k0:wr.cell? ⟨g,k*3,none⟩=some (.string y.kd):=hc 0 _ aj rfl;have k1:wr.cell? ⟨g,k*3+1,none⟩=some (.string y.id):=hc 1 _ aj rfl;have ar:wr.cell? ⟨g,k*3+2,none⟩=some (.slice U Y V):=by rw [<-hv];exact hc 2 _ aj rfl
   have ag:(k:Int)<(l.length:Int):=aj
   cases he:qN y t
   ·exact Xq
   rw [he] at C;have I:=ai (ae.u he);go_wp2_with fail;refine (ak C).mono ?_;rintro e au ⟨rfl,hb2⟩;have Z:=ai (HB.u.trans (hb2.mono HB.u.size));go_wp2;go_ret;exact ⟨by first|(rw [I.u];done)|simp [I.u],Z.u⟩
  have I:=ai (Mb (t:=t) (fun j af=>ak J j af aj));have ag:¬((k:Int)<(l.length:Int)):=aj;go_wp2;go_ret;exact ⟨by first|(rw [I.u];done)|simp [I.u],HB.u⟩
abbrev wC:=@Nat.testBit_or
abbrev Hw:=@Nat.testBit_two_pow_self
abbrev Hz:=@Nat.testBit_two_pow_of_ne
abbrev wD:=@Nat.testBit_and
def gR(kb:Sj->Bool)(who:Tg)(s:Sj):Bool:=if s.rel.size=0 then li s who else kb s
def HK(kb:Sj->Bool)(s:Sj)(rel:ae):Bool:=if s.rel.size=0 then kb ⟨s.kind,s.id,rel⟩ else false
def cN(kb:Sj->Bool)(who:Tg)(kd id:ae)(ts:List Tu)(rel:ae):Ex->Bool
 |⟨n,some x,some y⟩=>if n.kind=3 then cN kb who kd id ts rel x||cN kb who kd id ts rel y else if n.kind=4 then cN kb who kd id ts rel x&&cN kb who kd id ts rel y else cN kb who kd id ts rel x&& !cN kb who kd id ts rel y
 |⟨n,none,_⟩=>if n.kind=0 then ts.any (fun t=>decide (t.rel=rel)&&gR kb who (fb t)) else if n.kind=1 then kb ⟨kd,id,n.n1⟩ else ts.any (fun t=>decide (t.rel=n.n1)&&HK kb (fb t) n.n2)
 |⟨_,some _,none⟩=>false
def wE(p:Tg->Bool)(cs:List Tg)(i:Nat):∀j,(eQ p cs j).testBit i=(decide (i<j)&&match cs[i]? with|some t=>p t|none=>false)
 |0=>by simp [eQ]
 |j+1=>by
  have A:=wE p cs i j;rw [eQ]
  by_cases e:i=j
  ·subst e
   cases hc:cs[i]? with
   |none=>rw [hc] at A;simpa using A
   |some t=>
    rw [hc] at A;simp only
    by_cases C:p t=true
    ·rw [if_pos C,wC,Hw];simp [C]
    rw [if_neg C,A];simp [C]
  have h1:decide (i<j+1)=decide (i<j):=by rw [decide_eq_decide];omega
  rw [h1,<-A]
  split
  ·split
   ·rw [wC,Hz aj,mo]
   rfl
  rfl
def Sc(h:b<18446744073709551616)(hi:i<64):(qL a b).testBit i=(a.testBit i&& !b.testBit i):=by
 unfold qL;rw [wD,show 18446744073709551615-b=2 ^ 64-(b+1) by omega,Nat.testBit_two_pow_sub_succ h];simp [hi]
def lN(r f i):∀(ts:List Tu)(a:Nat),(jc ts r f a).testBit i=(a.testBit i||ts.any fun t=>decide (t.rel=r)&&(f t).testBit i)
 | [],a=>by simp [jc]
 |t::ts,a=>by
  unfold jc
  by_cases h:t.rel=r
  ·rw [List.filter_cons_of_pos ni,List.foldl_cons];have:=lN r f i ts (f t|||a);unfold jc at this;rw [this,wC,j2]
   cases a.testBit i<;>cases (f t).testBit i<;>simp [h]
  rw [List.filter_cons_of_neg ni];have:=lN r f i ts a;unfold jc at this;rw [this,j2];simp [h]
def tX(r f)(A:∀t,f t<18446744073709551616):∀(ts:List Tu)(a:Nat),a<18446744073709551616->jc ts r f a<18446744073709551616
 | [],a,ha=>by simpa [jc] using ha
 |t::ts,a,ha=>by
  unfold jc
  by_cases h:t.rel=r
  ·rw [List.filter_cons_of_pos ni,List.foldl_cons];exact tX r f A ts (f t|||a) (Bi (n:=64) (A t) ha)
  rw [List.filter_cons_of_neg ni];exact tX r f A ts a ha
def Bl(v)(A:∀s,v.K s<18446744073709551616)(C:v.cs.length<=64)(rel):∀e,dT v rel e<18446744073709551616
 |⟨n,some x,some y⟩=>by
  have D:=Bl v A C rel x;have I:=Bl v A C rel y;unfold dT
  split
  ·exact Bi (n:=64) I D
  split
  ·decide
  split
  ·exact Nat.and_lt_two_pow (n:=64) _ D
  exact JJ D
 |⟨n,none,r⟩=>by
  unfold dT
  split
  ·exact tX _ _ (fun t=>Ed A C _) _ _ au
  split
  ·exact A _
  exact tX _ _ (fun t=>Sa A _ _) _ _ au
 |⟨_,some _,none⟩=>by
  unfold dT
  decide
def n4(v)(I:∀s,v.K s<18446744073709551616)(J:v.cs.length<=64){i who}(A:v.cs[i]? =some who)(rel):∀e,(dT v rel e).testBit i=cN (fun s=>(v.K s).testBit i) who v.kd v.id v.ts rel e
 |⟨n,some x,some y⟩=>by
  have C:=n4 v I J A rel x;have D:=n4 v I J A rel y;have hi:=(br.1 A).1;unfold dT cN
  split
  ·rw [wC,C,D,Bool.or_comm]
  split
  ·rename_i h0;rw [<-C,<-D,h0];simp
  split
  ·rw [wD,C,D,Bool.and_comm]
  rw [Sc (Bl v I J rel y) aj,C,D]
 |⟨n,none,r⟩=>by
  have hi:=(br.1 A).1;unfold dT cN;have R:∀t,(jw v.K v.cs (fb t)).testBit i=gR (fun s=>(v.K s).testBit i) who (fb t):=fun t=>by
   unfold jw gR
   split
   ·rw [wE,A];simp [hi]
   rfl
  have Q:∀t,(tK v.K (fb t) n.n2).testBit i=HK (fun s=>(v.K s).testBit i) (fb t) n.n2:=fun t=>by
   unfold tK HK
   split
   ·rfl
   simp
  split
  ·rw [lN];simp [R]
  split
  ·rfl
  rw [lN];simp [Q]
 |⟨_,some _,none⟩=>by
  unfold dT cN;simp
structure Sys(F:(Sj->Bool)->(Sj->Bool)->Sj->Bool)(rk:Sj->Nat):Prop where
 mono:∀kp EX kn s,(∀x,kp x=true->EX x=true)->F kp kn s=true->F EX kn s=true
 dep:∀kp EX kn kn' s,(∀x,rk x<=rk s->kp x=EX x)->(∀x,rk x<rk s->kn x=kn' x)->F kp kn s=F EX kn' s
structure sB(F:(Sj->Bool)->(Sj->Bool)->Sj->Bool)(K:Sj->Bool):Prop where
 fix:∀s,K s=F K K s
 least:∀K',(∀s,F K' K s=true->K' s=true)->∀s,K s=true->K' s=true
def zr{F:(Sj->Bool)->(Sj->Bool)->Sj->Bool}{rk:Sj->Nat}(S:Sys F rk){C A:Sj->Bool}(h1:sB F C)(h2:sB F A)(n:Nat)(J:∀s,rk s<n->C s=A s)(s:Sj)(hs:rk s<=n)(h:C s=true):A s=true:=by
 have:=h1.least (fun x=>decide (n<rk x)||A x) (fun x D=>by
  by_cases hn:n<rk x
  ·simp [hn]
  rw [S.dep _ A C A x (fun y I=>aM) (fun y I=>J y aj),<-h2.fix] at D;simp [D]) s h
 have hn:¬n<rk s:=aj
 simpa [hn] using this
def HV{F:(Sj->Bool)->(Sj->Bool)->Sj->Bool}{rk:Sj->Nat}(S:Sys F rk){A C:Sj->Bool}(h1:sB F A)(h2:sB F C)(s:Sj):A s=C s:=by
 have key:∀n s,rk s<n->A s=C s:=by
  intro n
  induction n with
  |zero=>intro s hs;omega
  |succ n ih=>
   intro s hs;rw [gJ];exact ⟨zr S h1 h2 n ih s aj,zr S h2 h1 n (fun x D=>(ih x D).symm) s aj⟩
 exact key (rk s+1) s aj
def ii(kp kn:Sj->Bool)(who:Tg)(kd id:ae)(ts:List Tu)(rel:ae):Ex->Bool
 |⟨n,some x,some y⟩=>if n.kind=3 then ii kp kn who kd id ts rel x||ii kp kn who kd id ts rel y else if n.kind=4 then ii kp kn who kd id ts rel x&&ii kp kn who kd id ts rel y else ii kp kn who kd id ts rel x&& !cN kn who kd id ts rel y
 |e=>cN kp who kd id ts rel e
def fO(k who kd id ts rel):∀e,ii k k who kd id ts rel e=cN k who kd id ts rel e
 |⟨n,some x,some y⟩=>by
  rw [ii,cN,fO k who kd id ts rel x,fO k who kd id ts rel y]
 |⟨n,none,r⟩=>by rw [ii];intro a b c h;cases h
 |⟨n,some x,none⟩=>by rw [ii];intro a b c h;cases h
def Sd (h:aA:=by
 rw [EY];exact .inr hs):aA:=h
def EY(kd id:ae)(ts:List Tu)(rel:ae):Ex->Sj->Prop
 |⟨_,some x,some y⟩,s=>EY kd id ts rel x s\/EY kd id ts rel y s
 |⟨n,none,_⟩,s=>(n.kind=0/\∃t∈ts,t.rel=rel/\¬t.of.size=0/\s=fb t)\/(n.kind=1/\s=⟨kd,id,n.n1⟩)\/(¬n.kind=0/\¬n.kind=1/\∃t∈ts,t.rel=n.n1/\t.of.size=0/\s=⟨t.sub,t.who,n.n2⟩)
 |⟨_,some _,none⟩,_=>False
def Mc(kd id:ae)(ts:List Tu)(rel:ae):Ex->Sj->Prop
 |⟨n,some x,some y⟩,s=>Mc kd id ts rel x s\/(if n.kind=3\/n.kind=4 then Mc kd id ts rel y s else EY kd id ts rel y s)
 |_,_=>False
section
variable {kp EX kn kn':Sj->Bool}{who:Tg}{kd id:ae}{ts:List Tu}{rel:ae}
def jO{α:Type}{f g:α->Bool}:∀{l:List α},(∀x∈l,f x=g x)->l.any f=l.any g
 | [],_=>rfl
 |x::l,h=>by rw [j2,j2,h x ar,jO (fun y A=>h y (by simp [A]))]
def fP:∀e,(∀s,EY kd id ts rel e s->kp s=EX s)->cN kp who kd id ts rel e=cN EX who kd id ts rel e
 |⟨n,some x,some y⟩,h=>by
  rw [cN,cN,fP x (fun s hs=>h s (by rw [EY];exact .inl hs)),fP y (fun s hs=>h s Sd)]
 |⟨n,none,r⟩,h=>by
  rw [cN,cN]
  split
  ·rename_i h0;refine jO (fun t C=> ?_)
   by_cases A:t.rel=rel
   ·unfold gR
    split
    ·rfl
    rename_i h2;rw [h (fb t) (by rw [EY];exact .inl ⟨h0,t,C,A,h2,rfl⟩)]
   simp [A]
  rename_i h0
  split
  ·rename_i h1;exact h _ (by rw [EY];exact .inr (.inl ⟨h1,rfl⟩))
  rename_i h1;refine jO (fun t C=> ?_)
  by_cases A:t.rel=n.n1
  ·unfold HK
   split
   ·rename_i h2;rw [h ⟨(fb t).kind,(fb t).id,n.n2⟩ (by rw [EY];exact .inr (.inr ⟨h0,h1,t,C,A,h2,rfl⟩))]
   rfl
  simp [A]
 |⟨n,some x,none⟩,h=>by rw [cN,cN]
def fQ:∀e,(∀s,EY kd id ts rel e s->kp s=EX s)->(∀s,Mc kd id ts rel e s->kn s=kn' s)->ii kp kn who kd id ts rel e=ii EX kn' who kd id ts rel e
 |⟨n,some x,some y⟩,h,g=>by
  have D:=fQ x (fun s hs=>h s (by rw [EY];exact .inl hs)) (fun s hs=>g s (by rw [Mc];exact .inl hs));rw [ii,ii,D]
  by_cases A:n.kind=3
  ·rw [if_pos A,if_pos A,fQ y (fun s hs=>h s Sd) (fun s hs=>g s (by rw [Mc,if_pos (.inl A)];exact .inr hs))]
  rw [if_neg A,if_neg A]
  by_cases C:n.kind=4
  ·rw [if_pos C,if_pos C,fQ y (fun s hs=>h s Sd) (fun s hs=>g s (by rw [Mc,if_pos (.inr C)];exact .inr hs))]
  rw [if_neg C,if_neg C,fP y (fun s hs=>g s (by rw [Mc,if_neg (by omega)];exact .inr hs))]
 |⟨n,none,r⟩,h,g=>fP _ h
 |⟨n,some x,none⟩,h,g=>fP _ h
def Ee{f g:α->Bool}{l:List α}(h:∀x,f x=true->g x=true)(A:l.any f=true):l.any g=true:=by
 rw [cX] at A ⊢;obtain ⟨x,C,D⟩:=A;exact ⟨x,C,h x D⟩
def gS(C:∀s,kp s=true->EX s=true):∀e,ii kp kn who kd id ts rel e=true->ii EX kn who kd id ts rel e=true
 |⟨n,some x,some y⟩,h=>by
  have D:=gS C x;have Q:=gS C y;rw [ii] at h ⊢
  by_cases I:n.kind=3
  ·rw [if_pos I] at h ⊢;rw [kZ] at h ⊢;exact h.imp D Q
  rw [if_neg I] at h ⊢
  by_cases J:n.kind=4
  ·rw [if_pos J] at h ⊢;rw [bM] at h ⊢;exact ⟨D h.1,Q h.2⟩
  rw [if_neg J] at h ⊢;rw [bM] at h ⊢;exact ⟨D h.1,h.2⟩
 |⟨n,none,r⟩,h=>by
  change cN kp who kd id ts rel _=true at h;change cN EX who kd id ts rel _=true;rw [cN] at h ⊢
  split
  ·rename_i h0;rw [if_pos h0] at h;refine Ee (fun t A=> ?_) h;rw [bM] at A ⊢;refine ⟨A.1,?_⟩;have:=A.2;unfold gR at this ⊢
   split
   ·rename_i h2;rw [if_pos h2] at this;exact this
   rename_i h2;rw [if_neg h2] at this;exact C _ this
  rename_i h0;rw [if_neg h0] at h
  split
  ·rename_i h1;rw [if_pos h1] at h;exact C _ h
  rename_i h1;rw [if_neg h1] at h;refine Ee (fun t A=> ?_) h;rw [bM] at A ⊢;refine ⟨A.1,?_⟩;have:=A.2;unfold HK at this ⊢
  split
  ·rename_i h2;rw [if_pos h2] at this;exact C _ this
  rename_i h2;rw [if_neg h2] at this;exact this
 |⟨n,some x,none⟩,h=>by
  change cN kp who kd id ts rel _=true at h;rw [cN] at h
  cases h
end
abbrev wF:=@List.sum_cons
def sC(a b:Nat):Prop:=∀i,a.testBit i=true->b.testBit i=true
def pop(a:Nat):Nat:=(List.range 64).countP fun i=>a.testBit i
def sD{α:Type}{p C:α->Bool}(h:∀x,p x=true->C x=true):∀l:List α,l.countP p<=l.countP C
 | []=>ar
 |x::l=>by
  have D:=sD h l;rw [List.countP_cons,List.countP_cons]
  by_cases A:p x=true
  ·simp [A,h x A,D]
  simp only [Bool.not_eq_true] at A;rw [A];simp;omega
def sE{α:Type}{p D:α->Bool}(h:∀x,p x=true->D x=true):∀(l:List α)(x:α),x∈l->D x=true->p x=false->l.countP p<l.countP D
 | [],x,A,_,_=>by cases A
 |y::l,x,A,hq,hp=>by
  rw [List.countP_cons,List.countP_cons]
  rcases bi.1 A with rfl|A
  ·have:=sD h l;rw [hp,hq];simp;omega
  have:=sE h l x A hq hp
  by_cases C:p y=true
  ·simp [C,h y C,this]
  simp only [Bool.not_eq_true] at C;rw [C];simp;omega
def Zo(a):pop a<=64:=by
 have:=List.countP_le_length (p:=fun i=>a.testBit i) (l:=List.range 64)
 simpa [pop] using this
def Zp(A:b<18446744073709551616)(h:sC a b)(C:a≠b):pop a<pop b:=by
 have:∃i,b.testBit i=true/\a.testBit i=false:=by
  apply Classical.byContradiction;intro hn;apply C;apply Nat.eq_of_testBit_eq;intro i
  cases ha:a.testBit i with
  |true=>rw [h i ha]
  |false=>
   cases A:b.testBit i with
   |false=>rfl
   |true=>exact absurd ⟨i,A,ha⟩ hn
 obtain ⟨i,h1,h2⟩:=this;have hi:i<64:=by
  apply Classical.byContradiction;intro hn;rw [Nat.testBit_lt_two_pow (cK A (Nat.pow_le_pow_right (n:=2) aj (show 64<=i by omega)))] at h1
  cases h1
 exact sE (fun x D=>h x D) _ i (List.mem_range.2 hi) h1 h2
def Ef(h:sC a b):pop a<=pop b:=sD (fun x A=>h x A) _
def jd(l:List Sj)(K:Sj->Nat):Nat:=(l.map fun s=>64-pop (K s)).sum
def JL{K K'}(h:∀s,sC (K s) (K' s)):∀l,jd l K'<=jd l K
 | []=>by simp [jd]
 |s::l=>by
  have A:=JL h l;have:=Ef (h s);unfold jd at A ⊢;rw [cA,cA,wF,wF];omega
def JM{K K'}(h:∀s,sC (K s) (K' s)){s}(A:K' s<18446744073709551616)(C:K s≠K' s):∀l,s∈l->jd l K'<jd l K
 | [],hs=>by cases hs
 |t::l,hs=>by
  unfold jd;rw [cA,cA,wF,wF]
  rcases bi.1 hs with rfl|hs
  ·have h1:=JL h l;have h2:=Zp A (h s) C;have D:=Zo (K' s);unfold jd at h1;omega
  have h1:=JM h A C l hs;have h2:=Ef (h t);unfold jd at h1;omega
def zt(K):∀l,jd l K<=64*l.length
 | []=>by simp [jd]
 |s::l=>by
  have:=zt K l;unfold jd at this ⊢;rw [cA,wF,iC];omega
def oH(n a:Nat):Prop:=∀i,n<=i->a.testBit i=false
def pY(A:n<=64)(h:oH n a):a<18446744073709551616:=by
 apply Nat.lt_pow_two_of_testBit (n:=64);intro i hi;exact h i aj
def lO(v)(A:∀s,oH v.cs.length (v.K s))(rel):∀e,oH v.cs.length (dT v rel e)
 |⟨n,some x,some y⟩=>fun i hi=>by
  have C:=lO v A rel x i hi;have J:=lO v A rel y i hi;unfold dT
  split
  ·rw [wC,C,J];rfl
  split
  ·simp
  split
  ·rw [wD,C];simp
  unfold qL;rw [Nat.testBit_and,C];simp
 |⟨n,none,r⟩=>fun i hi=>by
  have I:∀t,(jw v.K v.cs (fb t)).testBit i=false:=fun t=>by
   unfold jw
   split
   ·rw [wE];have:¬i<v.cs.length:=aj;simp [this]
   exact A _ i hi
  have D:∀t,(tK v.K (fb t) n.n2).testBit i=false:=fun t=>by
   unfold tK
   split
   ·exact A _ i hi
   simp
  unfold dT
  split
  ·rw [lN];simp [I]
  split
  ·exact A _ i hi
  rw [lN];simp [D]
 |⟨_,some _,none⟩=>fun i hi=>by
  unfold dT;simp
def Zq(ls:List (It×ag))(hl:List Hd)(s:Sj):Prop:=∃p∈ls,∃h∈hl,h.kd=p.1.1.1.name/\s=jL p h
def Eg(ls:List (It×ag))(hl:List Hd):List Sj:=ls.flatMap fun p=>hl.map fun h=>jL p h
structure Se(ls:List (It×ag))(hl:List Hd):Prop where
 hds:∀h∈hl,∀h'∈hl,h.kd=h'.kd->h.id=h'.id->h=h'
 lns:∀p∈ls,∀q∈ls,p.1.1.1.name=q.1.1.1.name->p.1.2.1.name=q.1.2.1.name->p.1.2.1.body=q.1.2.1.body
 str:∀p∈ls,∀h∈hl,h.kd=p.1.1.1.name->∀s,Mc h.kd h.id h.ts p.1.2.1.name p.1.2.1.body s->¬Zq ls hl s
structure abf(cs:List Tg)(ls:List (It×ag))(hl:List Hd)(K0 K:Sj->Nat):Prop where
 out:∀s,oH cs.length (K s)
 old:∀s,¬Zq ls hl s->K s=K0 s
 sub:∀p∈ls,∀h∈hl,h.kd=p.1.1.1.name->sC (K (jL p h)) (tx K cs p h)
def Eh{cs}(A:cs.length<=64){K K'}(h1:∀s,oH cs.length (K s))(h2:∀s,oH cs.length (K' s))(I:∀s,sC (K s) (K' s)){p:It×ag}{h}(J:∀s,Mc h.kd h.id h.ts p.1.2.1.name p.1.2.1.body s->K s=K' s):sC (tx K cs p h) (tx K' cs p h):=by
 intro i hi;unfold tx at hi ⊢
 by_cases C:i<cs.length
 ·have D:cs[i]? =some cs[i]:=aH C;rw [n4 (Uk K cs h) (fun s=>pY A (h1 s)) A D] at hi;rw [n4 (Uk K' cs h) (fun s=>pY A (h2 s)) A D];rw [<-fO] at hi ⊢;dsimp only [Uk] at hi ⊢;rw [<-fQ (kp:=fun s=>(K' s).testBit i) (kn:=fun s=>(K s).testBit i) p.1.2.1.body (fun s _=>rfl) (fun s hs=>by show (K s).testBit i=(K' s).testBit i;rw [J s hs])];exact gS (fun s hs=>I s i hs) _ hi
 rw [lO (Uk K cs h) h1 _ _ i (by simpa [Uk] using C)] at hi
 cases hi
variable {hl:List Hd}
def sF{cs:List Tg}{ls:List (It×ag)}(R:cs.length<=64)(Y:Se ls hl)(ad:Sj->Nat):SeC cs hl ls (abf cs ls hl ad) (jd (Eg ls hl)) where
 bits:=fun K I s=>pY R (I.out s)
 val:=fun K I p Q h J _=>pY R (lO (Uk K cs h) I.out _ _)
 step:=fun K I p Q h J Z aj=>by
  have ah:oH cs.length (tx K cs p h):=lO (Uk K cs h) I.out _ _;have ac:Zq ls hl (jL p h):=⟨p,Q,h,J,Z,rfl⟩;have hs:∀s,sC (K s) (mU K (jL p h) (tx K cs p h) s):=fun s=>by
   unfold mU
   split
   ·rename_i e;rw [e];exact I.sub p Q h J Z
   exact fun i hi=>hi
  have ho:∀s,oH cs.length (mU K (jL p h) (tx K cs p h) s):=fun s=>by
   unfold mU
   split
   ·exact ah
   exact I.out s
  have U:∀q∈ls,∀A∈hl,A.kd=q.1.1.1.name->sC (tx K cs q A) (tx (mU K (jL p h) (tx K cs p h)) cs q A):=fun q U A C D=>
   Eh R I.out ho hs (fun s ai=>by
    unfold mU;rw [if_neg (fun e=>Y.str q U A C D s ai (by rw [e];exact ac))])
  refine ⟨⟨ho,fun s hn=> ?_,fun q V A C D=> ?_⟩,?_⟩
  ·unfold mU;rw [if_neg (fun e=>hn (by rw [e];exact ac))];exact I.old s hn
  ·by_cases e:jL q A=jL p h
   ·have e1:A=h:=Y.hds A C h J (congrArg Sj.kind e) (congrArg Sj.id e);subst e1;have ab:q.1.2.1.name=p.1.2.1.name:=congrArg Sj.rel e;have ae:=Y.lns q V p Q (by rw [<-D,<-Z]) ab;have af:tx K cs p A=tx K cs q A:=by unfold tx;rw [ab,ae]
    rw [e,show mU K (jL p A) (tx K cs p A) (jL p A)=tx K cs p A from if_pos rfl];exact fun i hi=>U q V A C D i (by rw [<-af];exact hi)
   rw [show mU K (jL p h) (tx K cs p h) (jL q A)=K (jL q A) from if_neg e];exact fun i hi=>U q V A C D i (I.sub q V A C D i hi)
  exact JM hs (s:=jL p h) (pY R (ho _)) (by rw [show mU K (jL p h) (tx K cs p h) (jL p h)=tx K cs p h from if_pos rfl];exact fun e=>aj e.symm) _ (bS.2 ⟨p,Q,aN.2 ⟨h,J,rfl⟩⟩)
def Sf (h:aA:=by
 go_wp2;go_roundw
 case rel=>exact ⟨b,i+1,n3,_,rfl,by go_num,aj,M2.u,L2.u,R2.u⟩
 case measure=>simp [intOf];omega):aA:=h
structure V6(w wr:af)(ca ha:Option Addr)(cn cc hn hc mb n:Nat)(K:Sj->Nat):Prop where
 but:bG (fun k=>k=mb) w wr
 box:aE wr w.heap.size #[.slice ca cn cc,.slice ha hn hc,.map (some mb)] 189
 kn:qY wr mb n K
def Zr(K:Sj->Nat)(cs:List Tg)(p:It×ag)(h:Hd):Prop:=h.kd=p.1.1.1.name->tx K cs p h=K (jL p h)
def Sg(cs:List Tg)(C:It×ag->Hd->Prop)(Inv:(Sj->Nat)->Prop)(A:(Sj->Nat)->Nat)(N n:Nat)(K1 K:Sj->Nat)(b:Bool):Prop:=
 Inv K/\n+A K<=N/\(b=false->K=K1/\∀p h,C p h->Zr K1 cs p h)/\(b=true->A K<A K1)
def abg(ls:List (It×ag))(hl:List Hd)(j:Nat)(p:It×ag)(h:Hd):Prop:=∃i,i<j/\ls[i]? =some p/\h∈hl
def V7(ls:List (It×ag))(hl:List Hd)(j i:Nat)(p:It×ag)(h:Hd):Prop:=abg ls hl j p h\/(ls[j]? =some p/\∃k,k<i/\hl[k]? =some h)
def HW(cs:List Tg)(ls:List (It×ag))(hl:List Hd)(K:Sj->Nat):Prop:=∀p∈ls,∀h∈hl,Zr K cs p h
def V6.below{wx ca ha hn hc mb K}(h:V6 w wr ca ha cn cc hn hc mb n K)(k:an wr wx):V6 w wx ca ha cn cc hn hc mb n K:=
 ⟨h.but.trans (.of_below k),h.box.below k,h.kn.block (k.block mb h.kn.lt)⟩
def Sg.same{cs}{C D:It×ag->Hd->Prop}{Inv:(Sj->Nat)->Prop}{I:(Sj->Nat)->Nat}{K1 K b}(h:Sg cs C Inv I N n K1 K b)(J:∀p x,D p x->C p x\/Zr K cs p x):Sg cs D Inv I N n K1 K b:=
 ⟨h.1,h.2.1,fun e=>⟨(h.2.2.1 e).1,fun p x A=>by
  rcases J p x A with A|A
  ·exact (h.2.2.1 e).2 p x A
  rw [<-(h.2.2.1 e).1];exact A⟩,h.2.2.2⟩
def Sg.grow{cs}{D I:It×ag->Hd->Prop}{Inv:(Sj->Nat)->Prop}{A:(Sj->Nat)->Nat}{K1 K K' b}(h:Sg cs D Inv A N n K1 K b)(J:Inv K')(C:A K'<A K):Sg cs I Inv A N (n+1) K1 K' true:=
 ⟨J,by have:=h.2.1;omega,(fun e=>by cases e),fun _=>by
  cases b with
  |false=>rw [<-(h.2.2.1 rfl).1];exact C
  |true=>exact Nat.lt_trans C (h.2.2.2 rfl)⟩
def HY(w:af)(U ha bC:Option Addr)(Y V aK R bi bD mb n N:Nat)(K:Sj->Nat)(cs:List Tg)(A:List Hd)(ls:List (It×ag))(Inv:(Sj->Nat)->Prop)(Z:(Sj->Nat)->Nat)
  (aB:SeG w (.slice U Y V) (.slice ha aK R) (.slice bC bi bD) cs A ls) (C:SeC cs A ls Inv Z) (am:qY w mb n K) (hi:Inv K) (bw:n+Z K<=N) (b8:N<maxLen):
  Calls prog 99 #[.agg #[.slice U Y V,.slice ha aK R,.map (some mb)],.slice bC bi bD] w fun e w'=>e=.returned (.tuple #[])/\bG (fun k=>k=mb) w w'/\∃aV ac,qY w' mb aV ac/\Inv ac/\aV+Z ac<=N/\HW cs ls A ac:=by
 have bV:=am.lt;have b1:=(az w.heap.size w).alloc aD (.cells #[.slice U Y V,.slice ha aK R,.map (some mb)] 189);have bs:=ai (⟨.of_below b1,aE.new w #[.slice U Y V,.slice ha aK R,.map (some mb)] 189,am.block (b1.block mb bV)⟩:V6 w _ U ha Y V aK R mb n K);have bX:bi=ls.length:=by obtain ⟨a,c,e⟩:=ax aB.ln.row;simp only [aI] at e;exact e.2.1
 have bQ:aK=A.length:=by obtain ⟨a,c,e⟩:=ax aB.hs.row;simp only [aI] at e;exact e.2.1
 subst bX;subst bQ;have a8:=ai aB;have a7:=ai C;have bq:=ai am;have a9:=ai (And.intro hi bw);have b5:=aB.few;have b6:=aB.hs.most;clear b1 aB C am hi bw;go_enter func99,ntmps99;go_wp2_with fail
 go_loopg [4] (2*Z K+2) (fun k aW wr=>∃(b:Bool)(aV:Nat)(ac:Sj->Nat),aW=.bool b/\V6 w wr U ha Y V A.length R mb aV ac/\Hid (Inv ac/\aV+Z ac<=N/\(b=false->HW cs ls A ac)/\2*Z ac+(if b then 1 else 0)<k))
 case atStart=>exact ⟨true,n,K,rfl,bs.u,ai ⟨a9.u.1,a9.u.2,(fun e=>by cases e),ar⟩⟩
 case round=>
  clear bs a9;obtain ⟨b,n1,K1,rfl,D,aF⟩:=hrel
  cases b with
  |false=>
   have aO:=ai D;clear D;go_wp2;go_end0;exact ⟨rfl,aO.u.but,n1,K1,aO.u.kn,(ak aF).1,(ak aF).2.1,(ak aF).2.2.1 (by first|rfl|trivial)⟩
  |true=>
   have aO:=ai D;clear D;go_wp2_with fail
   go_loopw [4,12] (fun aW bj bY=>∃(b:Bool)(j n2:Nat)(aG:Sj->Nat),aW=.bool b/\bj=.int .i64 j/\j<=ls.length/\V6 w bY U ha Y V A.length R mb n2 aG/\Hid (Sg cs (abg ls A j) Inv Z N n2 K1 aG b)) (fun _ bj _=>ls.length-(intOf bj).toNat)
   case atStart=>exact ⟨false,0,n1,K1,rfl,rfl,aj,aO.u,ai ⟨(ak aF).1,(ak aF).2.1,(fun _=>⟨rfl,fun p h hv=>by obtain ⟨i,hi,_⟩:=hv;omega⟩),(fun e=>by cases e)⟩⟩
   case round=>
    obtain ⟨b,j,n2,aG,rfl,rfl,b7,D,aP⟩:=hrel
    by_cases bU:j<ls.length
    ·have bT:(j:Int)<(ls.length:Int):=by omega
     obtain ⟨ab,bN⟩:∃x,x=wr:=⟨_,rfl⟩;subst bN;obtain ⟨p,aL⟩:∃p,ls[j]? =some p:=⟨_,aH bU⟩;have be:=bA aL;have ae:=a8.u.cellsK (mF bq.u D.but);obtain ⟨g,c,e1,ad⟩:=bf lnC 3 (fun _=>rfl) ae.ln.row j p aL;simp only [aI] at e1;obtain ⟨rfl,_,rfl⟩:=e1;obtain ⟨il,bc⟩:∃il,il=(fY p.1.2.1.name p.1.2.1.body).length:=⟨_,rfl⟩;have bx:=ae.ln.ins p be;obtain ⟨aw,ay,a6⟩:=ax bx;rw [<-bc] at a6;have k0:ab.cell? ⟨g,j*3,none⟩=some (.string p.1.1.1.name):=ad 0 _ aj rfl;have k1:ab.cell? ⟨g,j*3+1,none⟩=some (.string p.1.2.1.name):=ad 1 _ aj rfl;have bz:ab.cell? ⟨g,j*3+2,none⟩=some (.slice aw il ay):=by rw [<-a6];exact ad 2 _ aj rfl
     obtain ⟨c0,c1,c2⟩:=three D.box;have b3:=D.box.lt;have b9:¬(w.heap.size=ab.heap.size):=aj;have bl:=(az ab.heap.size ab).alloc aD (.cells #[.string p.1.1.1.name,.string p.1.2.1.name,.slice aw il ay] 201);have ba:=ai (D.below bl);have br:=ai (aE.new ab #[.string p.1.1.1.name,.string p.1.2.1.name,.slice aw il ay] 201);have aC:=ai (And.intro aL be);have bL:=ai (And.intro a6 bc);have d0:(ab.alloc (.cells #[.string p.1.1.1.name,.string p.1.2.1.name,.slice aw il ay] 201)).cell? ⟨w.heap.size,1,none⟩=some (.slice ha A.length R):=ba.u.box.cell rfl;clear ad bx a6 bc ae D bl aL be;go_wp2_with fail
     go_loopw [4,19] (fun aW bk bF=>∃(b:Bool)(i n3:Nat)(Q:Sj->Nat),aW=.bool b/\bk=.int .i64 i/\i<=A.length/\V6 w bF U ha Y V A.length R mb n3 Q/\aE bF ab.heap.size #[.string p.1.1.1.name,.string p.1.2.1.name,.slice aw il ay] 201/\Hid (Sg cs (V7 ls A j i) Inv Z N n3 K1 Q b)) (fun _ bk _=>A.length-(intOf bk).toNat)
     case atStart=>exact ⟨b,0,n2,aG,rfl,rfl,aj,ba.u,br.u,ai ((ak aP).same (fun p x J=>by
      rcases J with J|⟨_,k,am,_⟩
      ·exact .inl J
      omega))⟩
     case round=>
      clear k0 k1 bz c0 c1 c2 d0 ba br aO;obtain ⟨b,i,n3,Q,rfl,rfl,hi,D,al,an⟩:=hrel
      by_cases bS:i<A.length
      ·have bR:(i:Int)<(A.length:Int):=by omega
       obtain ⟨I,au⟩:∃I,A[i]? =some I:=⟨_,aH bS⟩;have aQ:=bA au;have ae:=a8.u.cellsK (mF bq.u D.but);obtain ⟨ap,bZ,bu,ad⟩:=bf JK 3 (fun _=>rfl) ae.hs.row i I au;simp only [aI] at bu;obtain ⟨rfl,_,rfl⟩:=bu;obtain ⟨aZ,aJ⟩:=ae.hs.tups I aQ;obtain ⟨ta,tc,aS⟩:=ax aZ.row;obtain ⟨tn,bg⟩:∃tn,tn=I.ts.length:=⟨_,rfl⟩;rw [<-bg] at aS;have k0:wr.cell? ⟨ap,i*3,none⟩=some (.string I.kd):=ad 0 _ aj rfl;have k1:wr.cell? ⟨ap,i*3+1,none⟩=some (.string I.id):=ad 1 _ aj rfl;have bz:wr.cell? ⟨ap,i*3+2,none⟩=some (.slice ta tn tc):=by rw [<-aS];exact ad 2 _ aj rfl
       have ah:=(az wr.heap.size wr).alloc aD (nY I.kd I.id ta tn tc);have aN:=D.below ah;obtain ⟨c0,c1,c2⟩:=three aN.box;obtain ⟨ce,l1,l2⟩:=three (al.below ah);have cb:¬(ab.heap.size=wr.heap.size):=by have:=al.lt;omega
       have cd:¬(w.heap.size=wr.heap.size):=by have:=D.box.lt;omega
       have b2:=D.but.size;have b0:=al.lt;have b4:=D.box.lt;have bp:=ai au
       by_cases av:I.kd=p.1.1.1.name
       ·have bO:=XR av;have bI:=ai av;have bb:=ae.cellsK (Bk ah);have bh:=(ak an).1;have aM:=a8.u.ok p aC.u.2;have bo:CoI (wr.alloc (nY I.kd I.id ta tn tc)) U aw (some ⟨ap,0,none⟩) ta Y V il ay A.length R tn tc mb n3 (Uk Q cs I) (fY p.1.2.1.name p.1.2.1.body):=⟨aN.kn,bb.cr,by have:=bb.ln.ins p aC.u.2;rw [bL.u.1] at this;exact this,by have:=(aZ.below ah);rw [aS] at this;exact this,aJ.pos,a7.u.bits Q bh,aJ.kd,aJ.id,aM.rel,aJ.sub,by have:=aM.len;simp [fY];omega⟩;have bn:=ai (L9 _ U aw (some ⟨ap,0,none⟩) ta Y V il ay A.length R tn tc mb n3 (Uk Q cs I) p.1.1.1.name p.1.2.1.name p.1.2.1.body bo aM.wf aM.len aM.name (a7.u.val Q bh p aC.u.2 I aQ av) (by have:=(ak an).2.1;omega));have bt:=ai aN;have bM:=ai (al.below ah);have bH:=ai aQ;clear bb bh aM bo aN ae aZ aJ aS bg ad ah D al av au aQ;go_wp2_with fail;refine bn.u.mono ?_;rintro e bE ⟨a5,bP⟩;have L2:=ai (a5.blk bM.u (by omega:¬(ab.heap.size=mb)));have aY:=a5.blk bt.u.box (by omega:¬(w.heap.size=mb));have aX:=bt.u.but.trans a5;clear bn a5
        rcases bP with ⟨J,rfl,aR⟩|⟨J,rfl,aR⟩
        ·have M2:=ai (⟨aX,aY,aR⟩:V6 w bE U (some ⟨ap,0,none⟩) Y V A.length R mb n3 Q);have R2:=ai (show Hid (Sg cs (V7 ls A j (i+1)) Inv Z N n3 K1 Q b) from ai ((ak an).same (fun bB x J=>by
          rcases J with J|⟨h1,k,am,h2⟩
          ·exact .inl (.inl J)
          by_cases e:k=i
          ·subst e;rw [aC.u.1] at h1;rw [bp.u] at h2
           cases h1
           cases h2
           exact .inr (fun _=>J)
          exact .inl (.inr ⟨h1,k,aj,h2⟩))))
         clear aX aY aR J;exact Sf
        have M2:=ai (⟨aX,aY,aR⟩:V6 w bE U (some ⟨ap,0,none⟩) Y V A.length R mb (n3+1) (mU Q (jL p I) (tx Q cs p I)));have st:=a7.u.step Q (ak an).1 p aC.u.2 I bH.u bI.u J;have R2:=ai (ai ((ak an).grow st.1 st.2):Hid (Sg cs (V7 ls A j (i+1)) Inv Z N (n3+1) K1 (mU Q (jL p I) (tx Q cs p I)) true));clear aX aY aR J st;go_wp2;go_roundw
        case rel=>exact ⟨true,i+1,n3+1,_,rfl,by go_num,aj,M2.u,L2.u,R2.u⟩
        case measure=>simp [intOf];omega
       have bO:=JF av;have M2:=ai aN;have L2:=ai (al.below ah);have R2:=ai (show Hid (Sg cs (V7 ls A j (i+1)) Inv Z N n3 K1 Q b) from ai ((ak an).same (fun bB x J=>by
        rcases J with J|⟨h1,k,am,h2⟩
        ·exact .inl (.inl J)
        by_cases e:k=i
        ·subst e;rw [aC.u.1] at h1;rw [bp.u] at h2
         cases h1
         cases h2
         exact .inr (fun e=>absurd e av)
        exact .inl (.inr ⟨h1,k,aj,h2⟩))))
       clear ae aZ aJ aS bg ad ah D al aN av au aQ;exact Sf
      have bR:¬((i:Int)<(A.length:Int)):=aj;have bK:=ai D;clear D al;go_wp2;go_roundw
      case rel=>exact ⟨b,j+1,n3,Q,rfl,by go_num,aj,bK.u,ai ((ak an).same (fun bB x J=>by
       obtain ⟨k,am,h1,h2⟩:=J;left
       by_cases e:k=j
       ·subst e;obtain ⟨q,bW,rfl⟩:=dk h2;exact .inr ⟨h1,q,aj,aH bW⟩
       exact .inl ⟨k,aj,h1,h2⟩))⟩
      case measure=>simp [intOf];omega
    have bT:¬((j:Int)<(ls.length:Int)):=aj;have bJ:=ai D;clear D;go_wp2
    go_roundg (2*Z aG+(if b then 1 else 0)+1)
    case measure=>
     have h1:=(ak aF).2.2.2;have h2:=ak aP
     cases b with
     |false=>simp at h1 ⊢;rw [(h2.2.2.1 rfl).1];omega
     |true=>have:=h2.2.2.2 rfl;simp at h1 ⊢;omega
    case rel=>exact ⟨b,n2,aG,rfl,bJ.u,ai ⟨(ak aP).1,(ak aP).2.1,(fun e p aL h au=>by
     obtain ⟨i,hi,rfl⟩:=dk aL;have bv:=(ak aP).2.2.1 e;rw [bv.1];exact bv.2 _ h ⟨i,aj,aH hi,au⟩),aj⟩⟩
