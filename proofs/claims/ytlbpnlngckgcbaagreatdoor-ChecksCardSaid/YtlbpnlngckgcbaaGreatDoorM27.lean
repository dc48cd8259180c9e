import Derived.Test.YtlbpnlngckgcbaaGreatDoorM24
import Derived.Test.YtlbpnlngckgcbaaGreatDoorM25
import Derived.OrdersHeld
import Derived.OrdersIn
import Derived.Maps.OwnOps
import Derived.Maps.Views
import Derived.DeepKeys4
import Derived.Laws.BitsAllLaws
import Derived.ScopeJumps
import Derived.WalkMore
set_option linter.all false
set_option maxHeartbeats 4000000
set_option maxRecDepth 100000
namespace Go.Proofs.YtlbpnlngckgcbaaGreatDoor
open Go.RowKit Go.PlainAid Go.Proofs.Tryz
variable {aF cD:Prop} {x y w W w5 w' z W0 W' wr:af} {row:Option Nat} {b gc g5 aV g k size n cap g0 c0 i B base' j c sb N sc g' m a:Nat} {mv lv v v' sv pv tv:ag} {ga:Option Addr} {gs:List Tu} {o:Obj} {rel s:ae} {cs:Array ag} {T e T':TypeId} {α:Type} {xs:List ag} {P:Program} {rest:List Oper} {ts:List Ty} {pre:List It}
def Ku (C:aF:=by
 rintro k (rfl|⟨n,c,e⟩)
 ·exact .inl (.inl rfl)
 simp only [aI,aK,cw,gL] at e;obtain ⟨rfl,_,_⟩:=e
 rcases A5 with C|C
 ·exact .inl (Ox _ C)
 exact .inr JE):aF:=C
def Kv (A:aF:=by
 intro g n c e e';simp only [aI,aK,cw,gL] at e;obtain ⟨rfl,_,_⟩:=e;obtain ⟨C,hc,_⟩:=eD O5;subst e';unfold aB at hc K5;rw [K5] at hc;simp at hc):aF:=A
def Kw (A:aF:=by
 rcases H.row.2 with ⟨e,_⟩|⟨g',cap,C,e,_,_,_⟩
 ·rw [e] at hk;simp [Value.ownBlock] at hk
 rw [e] at hk ⊢;simp only [Value.ownBlock,aK] at hk;exact .inr ⟨_,_,by rw [hk]⟩):aF:=A
def Kx (A:aF:=by
 rw [cX,List.flatMap_singleton,bo];exact this):aF:=A
def Oy(ts:List Ty)(gs:List Tu)(s:ae):Nat×List Tu:=if di s=false then (2,gs) else if l6 ts (bU s).1≠0 then (l6 ts (bU s).1,gs) else if 0<=kk gs (bU s).1 then (4,gs) else if gs.length=24 then (8,gs) else (0,gs++[(bU s).1])
theorem GG(n w)(A:Laid w):Calls prog 41 #[Ow n] w fun e w'=>e=.returned (.tuple #[.int .i64 n,.int .i64 0])/\Below w.heap.size w w':=by
 unfold Ow
 by_cases h:n=0
 ·subst h;rw [if_pos rfl];exact pj w
 rw [if_neg h];exact lD n w A
theorem Tryz.infoTu:(Tryz.prog.info? 123).map (fun i=>(i.zero,i.size,i.bytes))=some (some (.agg #[.string ⟨#[]⟩,.string ⟨#[]⟩,.string ⟨#[]⟩,.string ⟨#[]⟩,.string ⟨#[]⟩,.string ⟨#[]⟩]),6,96):=by kernel_rfl
theorem fM{S}(h:x.grownBy y row)(A:∀k,row=some k->S k):bI S x y:=⟨h.os,h.tape,h.output,h.size,fun k C hs=>h.block k C (fun e=>hs (A k e.symm))⟩
theorem Ky{t}(H:PU w b mv lv (.slice ga gs.length gc) gs)(hB:Below w.heap.size w W)(J:gs.length<1000)(D:(W.alloc o).drew.grownBy w5 (Value.slice ga gs.length gc).ownBlock)(O5:w5.ownsRow 0 123 6 (.slice (some ⟨g5,0,none⟩) (gs.length+1) aV) (gs.length+1) (gs.flatMap jp++jp t))(A5:(Value.slice ga gs.length gc).ownBlock=some g5\/g5=W.heap.size+1)(K5:aB w5 b #[mv,lv,.slice ga gs.length gc] 117):
  jJ b mv lv (.slice ga gs.length gc) w (0,gs++[t]) (.returned (.int .i64 0)) (w5.setCell ⟨b,2,none⟩ (.slice (some ⟨g5,0,none⟩) (gs.length+1) aV)):=by
 have Ox:∀k,(Value.slice ga gs.length gc).ownBlock=some k->yJ b (.slice ga gs.length gc) k:=fun k hk=>by
  exact Kw
 have I:=(hB.alloc hB.size o).drew;have O:=H.blk.lt;refine ⟨_,rfl,⟨K5.set 2 _,?_,?_,by show (gs++[t]).length<=1000;simp;omega⟩,((bI.of_below I).trans (fM D Ox)).set (.inl rfl) _,?_⟩
 ·show World.ownsRow _ 0 123 6 _ (gs++[t]).length ((gs++[t]).flatMap jp)
  have:=bJ O5 K5 ar 2 (.slice (some ⟨g5,0,none⟩) (gs.length+1) aV);exact Kx
 ·exact Kv
 ·exact Ku
theorem CV(aA:Cw)(b bm:Nat)(s:ae)(w:af)(mv lv gv:ag)(gs:List Tu)(ts:List Ty)(tl:List (Ty×ag))(U:PU w b mv lv gv gs)(ax:MC bm w mv ts tl)(R:kO w)(aK:1<w.heap.size)(aH:Laid w)(bF:gs.length<1000):
  Calls prog 28 #[.pointer (some ⟨b,0,none⟩),.string s] w (jJ b mv lv gv w (Oy ts gs s)):=by
 have C1:=ai (vW aA s w R aK);have H:=ai U;rw [EW s] at C1;obtain ⟨t,a7,aJ⟩:=vX s;rw [a7] at C1;unfold Oy;clear a7
 cases ho:di s
 ·rw [ho] at C1;rw [if_pos rfl];clear U R aK aA ho aJ ax aH;go_enter func28,ntmps28;exact Ko
 ·rw [if_neg an,<-aJ ho];rw [ho] at C1;clear ho aJ;obtain ⟨ga,gc,rfl⟩:=ay U.row;obtain ⟨sa,bB,sc,rfl⟩:=ax.form;have bK:=U.most;have aM:=ai (fun w' (k:Below w.heap.size w w')=>Kt bm _ ts tl t w' (ax.below k));have bI:=U.blk.lt;have aO:=ai aH;have aL:=ai (fun w' (k:Below w.heap.size w w')=>Ct 0 _ gs t w' aj (aE U.row k));clear U R aK aA ax aH;generalize l6 ts t=n at*;obtain ⟨r,J⟩:∃r,r=(if n≠0 then (n,gs) else if 0<=kk gs t then (4,gs) else if gs.length=24 then (8,gs) else (0,gs++[t])):=⟨_,rfl⟩;rw [<-J];have au:=ai J;clear J;generalize kk gs t=m at*;go_enter func28,ntmps28;go_wp2_with fail;refine (ak C1).mono ?_;rintro e w1 ⟨rfl,ad⟩;have V:=ai (ad.alloc ad.size (bV t.kind t.id t.rel t.sub t.who t.of));have aS:=ai (H.u.below V.u);have aC:=ai (aB.new w1 #[.string t.kind,.string t.id,.string t.rel,.string t.sub,.string t.who,.string t.of] 123);have bL:¬(w1.heap.size=b):=by have:=ad.size;omega
  have bM:¬(b=w1.heap.size):=by have:=ad.size;omega
  clear ad C1;go_wp2_with fail;have l1:=V.u.size;generalize (w1.alloc (bV t.kind t.id t.rel t.sub t.who t.of))=W at*;obtain ⟨c0,c1,c2⟩:=three aS.u.blk;obtain ⟨t0,t1,t2,t3,t4,t5⟩:=aC.u.six;have aN:=ai (aM.u W.drew V.u.drew);have bv:=aO.u.lt;have aQ:=ai (fun w' (k:Below w.heap.size w w')=>GG n w' (aO.u.below k bv));clear aM
  go_region_held3 (fun w'=>w'.cell? ⟨b,0,none⟩=some (.slice sa bB sc)/\w'.cell? ⟨w1.heap.size,0,none⟩=some (.string t.kind)/\w'.cell? ⟨w1.heap.size,1,none⟩=some (.string t.id)/\w'.cell? ⟨w1.heap.size,2,none⟩=some (.string t.rel)/\w'.cell? ⟨w1.heap.size,3,none⟩=some (.string t.sub)/\w'.cell? ⟨w1.heap.size,4,none⟩=some (.string t.who)/\w'.cell? ⟨w1.heap.size,5,none⟩=some (.string t.of)) (go_keep)
   (first
   |(have bD:=I;go_at_call 41;refine (aQ.u _ (V.u.trans (I.u.mono l1))).mono ?_;rintro e az ⟨rfl,aX⟩;have Q:=ai (I.u.trans (aX.mono I.u.size));have f0:=am c0 Q.u;have f1:=am t0 Q.u;have f2:=am t1 Q.u;have f3:=am t2 Q.u;have f4:=am t3 Q.u;have f5:=am t4 Q.u;have f6:=am t5 Q.u;clear aX bD)
   |(go_at_call 61;refine aN.u.mono ?_;rintro e bC ⟨rfl,aW⟩;have I:=ai (show Below W.heap.size W bC from (aw _ W).drew.trans aW);have d0:=am c0 I.u;have d1:=am t0 I.u;have d2:=am t1 I.u;have d3:=am t2 I.u;have d4:=am t3 I.u;have d5:=am t4 I.u;have d6:=am t5 I.u;clear aW))
  have Y:=ai (V.u.trans (Q.u.mono l1));have aT:=ai (H.u.below Y.u);have aD:=ai (aC.u.below Q.u);have bz:=Y.u.size;clear d0 d1 d2 d3 d4 d5 d6 f0 f1 f2 f3 f4 f5 f6 c0 c1 c2 t0 t1 t2 t3 t4 t5 I Q aN aQ aS aC V
  by_cases hn:n=0
  ·have bw:((n:Int) != 0)=false:=by rw [hn];rfl
   have bx:((n:Int)==0)=true:=by rw [hn];rfl
   have J:=au.u;rw [if_neg (by simpa using hn)] at J;have al:=ai J;obtain ⟨c0,c1,c2⟩:=three aT.u.blk;obtain ⟨t0,t1,t2,t3,t4,t5⟩:=aD.u.six;have E:=ai (aL.u az.drew Y.u.drew);clear J au hn aL;go_wp2_with fail
   go_region_held3 (fun w'=>w'.cell? ⟨b,2,none⟩=some (.slice ga gs.length gc)/\w'.cell? ⟨w1.heap.size,0,none⟩=some (.string t.kind)/\w'.cell? ⟨w1.heap.size,1,none⟩=some (.string t.id)/\w'.cell? ⟨w1.heap.size,2,none⟩=some (.string t.rel)/\w'.cell? ⟨w1.heap.size,3,none⟩=some (.string t.sub)/\w'.cell? ⟨w1.heap.size,4,none⟩=some (.string t.who)/\w'.cell? ⟨w1.heap.size,5,none⟩=some (.string t.of)) (go_keep)
    ((go_at_call 62;refine E.u.mono ?_;rintro e O ⟨rfl,aY⟩;have I:=ai (show Below az.heap.size az O from (aw _ az).drew.trans aY);have d0:=am c2 I.u;have d1:=am t0 I.u;have d2:=am t1 I.u;have d3:=am t2 I.u;have d4:=am t3 I.u;have d5:=am t4 I.u;have d6:=am t5 I.u;clear aY))
   have Z:=ai (Y.u.trans (I.u.mono bz));have aG:=ai (H.u.below Z.u);have bt:=ai (aD.u.below I.u);have bP:=Z.u.size;clear d0 d1 d2 d3 d4 d5 d6 c0 c1 c2 t0 t1 t2 t3 t4 t5 I E aT aD Y
   by_cases R:0<=m
   ·have J:=al.u;rw [if_pos R] at J;subst J;rw [ml R];clear al;go_wp2;go_ret;exact jJ.same H.u Z.u 4
   have J:=al.u;rw [if_neg R] at J;rw [k5 R];have ap:=ai J;obtain ⟨c0,c1,c2⟩:=three aG.u.blk;obtain ⟨t0,t1,t2,t3,t4,t5⟩:=bt.u.six;clear J al R
   by_cases ac:gs.length=24
   ·have J:=ap.u;rw [if_pos ac] at J;subst J;have bu:((gs.length:Int)==24)=true:=by rw [ac];rfl
    clear ap ac;go_wp2;go_ret;exact jJ.same H.u Z.u 8
   have J:=ap.u;rw [if_neg ac] at J;subst J;have bu:((gs.length:Int)==24)=false:=by rw [bG];omega
   clear ap ac;go_wp2_with fail;obtain ⟨i0,aZ,a9,ba,bb⟩:=bH Tryz.infoTu;have bk:=ai aZ;have bp:=ai a9;have bq:=ai ba;have br:=ai bb;clear aZ a9 ba bb;have ah:=aG.u.blk;have bO:=ah.fz;have aP:=ai aG.u.row;have bR:=bj O _ c2;have bS:=bj O _ t0;have c7:(O.alloc (bV t.kind t.id t.rel t.sub t.who t.of)).cell? ⟨b,2,none⟩=some (.slice ga gs.length gc):=(ah.alloc _).cell rfl;have bN:¬(b=O.heap.size):=by have:=ah.lt;omega
   have bg:=ai ah;clear ah;have bn:=ai (show ∀u∈jp t,u.oneCell'=true from by
    intro u a8;simp only [jp,bA,fG,fH] at a8
    rcases a8 with rfl|rfl|rfl|rfl|rfl|rfl<;>rfl)
   have bf:=ai (show gs.length+1<=maxLen from by unfold maxLen;omega);have bh:=ai (show (gs.length+1)*96<=140737488355328 from aj);have bo:=ai (show 0<=(O.alloc (bV t.kind t.id t.rel t.sub t.who t.of)).drew.heap.size from gZ _);have bi:=ai (show (O.alloc (bV t.kind t.id t.rel t.sub t.who t.of)).drew.heap.size=O.heap.size+1 from an)
   go_region_law (refine iZ _ rfl (.tmp 45) (.tmp 47) 115 rfl 0 123 i0 _ 6 96 underlying115 bk.u bp.u bq.u br.u rfl ar (.slice ga gs.length gc) gs.length (gs.flatMap jp) eW (bX (aP.u.alloc _)) ⟨O.heap.size,0,none⟩ 1 1 (jp t) eW rfl (bE (B:=O.heap.size) (cs:=#[.string t.kind,.string t.id,.string t.rel,.string t.sub,.string t.who,.string t.of]) (t:=123) (fr:=(0,0)) (aB.new O _ _).drew) bn.u ar bf.u bh.u bo.u (O.heap.size+1) bi.u ?_;intro g5 aV w5 a6 aI aU bJ;have aR:=bX (aP.u.alloc (bV t.kind t.id t.rel t.sub t.who t.of));have av:=(bg.u.alloc (bV t.kind t.id t.rel t.sub t.who t.of)).drew;have ab:aB w5 b _ 117:=(aI.block b av.lt (own_ne aR av ar)).trans av;obtain ⟨bT,bU,bW⟩:=three ab;have zq:=ab.fz;have bl:=ai ab;have be:=ai aI;have bs:=ai a6;have bc:=ai aU;have bQ:=ab.lt;clear aR av ab aI a6 aU)
   all_goals
    go_wp2;go_ret;exact Ky H.u Z.u aj be.u bs.u bc.u bl.u
  have bw:((n:Int) != 0)=true:=by rw [g8];omega
  have bx:((n:Int)==0)=false:=by rw [bG];omega
  have J:=au.u;rw [if_pos hn] at J;subst J;clear hn au;go_wp2;go_ret;exact jJ.same H.u Y.u n
section
abbrev jL(a0:Int)(a1:ae)(a2:Int):Obj:=.cells #[.int .i64 a0,.string a1,.int .i64 a2] 298
def Kz (h:aF:=by
 have C:=h.blk.lt;have hl:=h.low;exact k.but.below aj (fun g e=>by
  rcases e with e|e
  ·omega
  exact (h.row.lt g e).1)):aF:=h
def KA (h:aF:=by
 rcases k.own i hi with e|e
 ·exact h.own i e
 exact .inr (aL h.but.size e)):aF:=h
structure Ins where
 does:Nat
 rel:ae
 to:Nat
def zU(i:Ins):List ag:=[.int .i64 i.does,.string i.rel,.int .i64 i.to]
structure WI(base:Nat)(w:af)(b:Nat)(rel:ae)(v:ag)(l:List Ins):Prop where
 blk:aB w b #[.string rel,v] 293
 row:w.ownsRow base 298 3 v l.length (l.flatMap zU)
 low:base<=b
variable {base:Nat}
theorem WI.below{l}(h:WI base w b rel v l)(k:Below w.heap.size w w'):WI base w' b rel v l:=⟨h.blk.below k,aE h.row k,h.low⟩
theorem Tryz.infoIns:(Tryz.prog.info? 298).map (fun i=>(i.zero,i.size,i.bytes))=some (some (.agg #[.int .i64 0,.string ⟨#[]⟩,.int .i64 0]),3,32):=by kernel_rfl
structure nu(b:Nat)(v:ag)(w w':af)(v':ag):Prop where
 but:bI (fun k=>k=b\/v.ownBlock=some k) w w'
 own:∀k,v'.ownBlock=some k->v.ownBlock=some k\/w.heap.size<=k
theorem nu.trans{A:ag}(h:nu b v x y v')(k:nu b v' y z A):nu b v x z A where
 but:=⟨k.but.os.trans h.but.os,k.but.tape.trans h.but.tape,k.but.output.trans h.but.output,aL h.but.size k.but.size,fun i hi hs=>(k.but.block i (cg hi h.but.size) (fun e=>by
  rcases e with e|e
  ·exact hs (.inl e)
  rcases h.own i e with e|e
  ·exact hs (.inr e)
  omega)).trans (h.but.block i hi hs)⟩
 own:=fun i hi=>by
  exact KA
theorem nu.of_below(h:Below x.heap.size x y):nu b v x y v:=⟨.of_below h,fun _ e=> .inl e⟩
theorem nu.below{l}(h:WI base w b rel v l)(k:nu b v w w' v'):Below base w w':=by
 exact Kz
theorem nu.blk(k:nu b v w w' v')(h:aB w g cs T)(A:g≠b)(C:v.ownBlock≠some g):aB w' g cs T:=k.but.blk h (fun e=>by
 rcases e with e|e
 ·exact A e
 exact C e)
def EX(base b:Nat)(rel:ae)(v:ag)(l:List Ins)(i:Ins)(w:af)(e:Ending)(w':af):Prop:=∃v',e=.returned (.int .i64 l.length)/\nu b v w w' v'/\WI base w' b rel v' (l++[i])
theorem GJ{va vc l i}(H:WI base w b rel (.slice va l.length vc) l)(hB:Below w.heap.size w W)(J:(W.alloc o).drew.grownBy w5 (Value.slice va l.length vc).ownBlock)(O:w5.ownsRow base 298 3 (.slice (some ⟨g5,0,none⟩) (l.length+1) aV) (l.length+1) (l.flatMap zU++zU i))(I:(Value.slice va l.length vc).ownBlock=some g5\/g5=W.heap.size+1)(D:aB w5 b #[.string rel,.slice va l.length vc] 293):
  EX base b rel (.slice va l.length vc) l i w (.returned (.int .i64 l.length)) (w5.setCell ⟨b,1,none⟩ (.slice (some ⟨g5,0,none⟩) (l.length+1) aV)):=by
 have R:=H.low;have Q:=(hB.alloc hB.size o).drew;refine ⟨_,rfl,⟨((bI.of_below Q).trans (fM J (fun k C=> .inr C))).set (.inl rfl) _,fun k C=> ?_⟩,⟨D.set 1 _,?_,R⟩⟩
 ·simp only [Value.ownBlock,aK] at C
  rcases I with e|e
  ·exact .inl (by rw [e,C])
  exact .inr JE
 have:=bJ O D ar 1 (.slice (some ⟨g5,0,none⟩) (l.length+1) aV);rw [cX,List.flatMap_singleton,bo];exact this
theorem iE(base b rel v l i w)(J:WI base w b rel v l)(aO:l.length<=100000):
  Calls prog 153 #[.pointer (some ⟨b,0,none⟩),.agg #[.int .i64 i.does,.string i.rel,.int .i64 i.to]] w (EX base b rel v l i w):=by
 obtain ⟨U,V,rfl⟩:=ay J.row;have H:=ai J;have b1:=(aw w.heap.size w).alloc az (jL i.does i.rel i.to);have al:=ai b1;have D:=ai (J.below b1);have Q:=ai (aB.new w #[.int .i64 i.does,.string i.rel,.int .i64 i.to] 298);have aM:=J.blk.lt;clear J b1;go_enter func153,ntmps153;go_wp2_with fail;generalize (w.alloc (jL i.does i.rel i.to))=W at*;obtain ⟨c0,c1⟩:W.cell? ⟨b,0,none⟩=some (.string rel)/\W.cell? ⟨b,1,none⟩=some (.slice U l.length V):=⟨D.u.blk.cell rfl,D.u.blk.cell rfl⟩;obtain ⟨aK,aY,aZ⟩:W.cell? ⟨w.heap.size,0,none⟩=some (.int .i64 i.does)/\W.cell? ⟨w.heap.size,1,none⟩=some (.string i.rel)/\W.cell? ⟨w.heap.size,2,none⟩=some (.int .i64 i.to):=⟨Q.u.cell rfl,Q.u.cell rfl,Q.u.cell rfl⟩;obtain ⟨i0,ac,af,ag,ah⟩:=bH Tryz.infoIns;have aA:=ai ac;have aG:=ai af;have aH:=ai ag;have aI:=ai ah;clear ac af ag ah;have C:=D.u.blk;have aR:=C.fz;have Y:=ai D.u.row;have aP:=D.u.low;have aT:=bj W _ c1;have aU:=bj W _ aK;have c7:(W.alloc (jL i.does i.rel i.to)).cell? ⟨b,1,none⟩=some (.slice U l.length V):=(C.alloc _).cell rfl;have aQ:¬(b=W.heap.size):=by have:=C.lt;omega
 have aL:=C.lt;have au:=ai C;clear C;have aD:=ai (show ∀u∈zU i,u.oneCell'=true from by
  intro u ae;simp only [zU,bA,fG,fH] at ae
  rcases ae with rfl|rfl|rfl<;>rfl)
 have ap:=ai (show l.length+1<=maxLen from by unfold maxLen;omega);have av:=ai (show (l.length+1)*32<=140737488355328 from aj);have aE:=ai (show base<=(W.alloc (jL i.does i.rel i.to)).drew.heap.size from by
  have:=((aw _ W).alloc az (jL i.does i.rel i.to)).drew.size;omega)
 have ax:=ai (show (W.alloc (jL i.does i.rel i.to)).drew.heap.size=W.heap.size+1 from an)
 go_region_law (refine iZ _ rfl (.tmp 9) (.tmp 11) 199 rfl base 298 i0 _ 3 32 underlying199 aA.u aG.u aH.u aI.u rfl ar (.slice U l.length V) l.length (l.flatMap zU) eW (bX (Y.u.alloc _)) ⟨W.heap.size,0,none⟩ 1 1 (zU i) eW rfl (bE (B:=W.heap.size) (cs:=#[.int .i64 i.does,.string i.rel,.int .i64 i.to]) (t:=298) (fr:=(0,0)) (aB.new W _ _).drew) aD.u ar ap.u av.u aE.u (W.heap.size+1) ax.u ?_;intro g5 aV w5 ad R ab aN;have Z:=bX (Y.u.alloc (jL i.does i.rel i.to));have O:=(au.u.alloc (jL i.does i.rel i.to)).drew;have I:aB w5 b _ 293:=(R.block b O.lt (own_ne Z O ar)).trans O;obtain ⟨aW,aX⟩:=hS I;have zq:=I.fz;have aC:=ai I;have am:=ai R;have aJ:=ai ad;have ak:=ai ab;have aS:=I.lt;clear Z O I R ad ab)
 all_goals
  go_wp2;go_ret;exact GJ H.u al.u am.u aJ.u ak.u aC.u
end
def nR(l:List Ins)(k:Nat):List Ins:=match l[k]? with
 |some i=>l.set k ⟨i.does,i.rel,l.length⟩
 |none=>l
theorem zV{l}(h:k<l.length):nR l k=l.set k ⟨l[k].does,l[k].rel,l.length⟩:=by
 unfold nR;rw [aG h]
theorem GL(l k):(nR l k).length=l.length:=by
 unfold nR
 split
 ·simp
 rfl
theorem KB(u:Nat):∀(l:List Ins)(k:Nat)(h:k<l.length),(l.flatMap zU).set (k*3+2) (.int .i64 u)=(l.set k ⟨l[k].does,l[k].rel,u⟩).flatMap zU
 | [],k,h=>by simp at h
 |i::l,0,_=>rfl
 |i::l,k+1,h=>by
  have A:=KB u l k mw;rw [cq,sM _ _ (by show 3<=_;omega),show (k+1)*3+2-(zU i).length=k*3+2 by show (k+1)*3+2-3=_;omega,A,List.set_cons_succ,cq]
  rfl
theorem zW(base b rel v l k w)(C:WI base w b rel v l)(ae:l.length<=100000)(O:k<l.length):
  Calls prog 246 #[.pointer (some ⟨b,0,none⟩),.int .i64 k] w fun e w'=>e=.returned (.tuple #[])/\nu b v w w' v/\WI base w' b rel v (nR l k):=by
 obtain ⟨g,c,e1,hc⟩:=bi zU 3 (fun _=>rfl) C.row k l[k] (aG O);subst e1;have ag:w.cell? ⟨g,k*3+2,none⟩=some (.int .i64 l[k].to):=hc 2 _ aj rfl;obtain ⟨c0,c1⟩:=hS C.blk;obtain ⟨ac,D,J⟩:=eD C.row;have af:=D.fz;have ad:(k:Int)<(l.length:Int):=aj;have V:¬(g=b):=fun e=>by
  have I:=C.blk;subst e;unfold aB at D I;rw [I] at D;simp at D
 have Y:¬(b=g):=fun e=>V e.symm
 have U:=ai (show (w.setCell ⟨g,k*3+2,none⟩ (.int .i64 l.length)).ownsRow base 298 3 (.slice (some ⟨g,0,none⟩) l.length c) (nR l k).length ((nR l k).flatMap zU) from by
  have:=rP C.row (k*3+2) (.int .i64 l.length);rw [GL,zV O,<-KB];exact this)
 have R:=ai (C.blk.other (a:=⟨g,k*3+2,none⟩) Y (.int .i64 l.length));have Z:=C.low;have ab:=ai J;generalize l[k].to=t0 at*;clear C hc D J;go_enter func246,ntmps246;go_wp2_with fail;have bl:bI (fun k=>k=b\/(Value.slice (some ⟨g,0,none⟩) l.length c).ownBlock=some k) w (w.setCell ⟨g,k*3+2,none⟩ (.int .i64 l.length)):=(bI.refl _ w).set (.inr rfl) _;have Q:=ai bl;clear bl
 go_region
 all_goals (
  go_end0;exact ⟨rfl,⟨Q.u.drew,fun _ e=> .inl e⟩,⟨R.u.drew,bX U.u,Z⟩⟩)
def q8 (A:aF:=by
 first|omega|(simp;omega)):aF:=A
def gE(n:Nat)(r:ae)(each:Ins):List Ins:=[⟨1,⟨#[]⟩,0⟩,⟨3,r,n+5⟩,each,⟨6,⟨#[]⟩,0⟩,⟨10,⟨#[]⟩,n+1⟩]
theorem GM(l r each):nR (((((l++[⟨1,⟨#[]⟩,0⟩])++[⟨3,r,0⟩])++[each])++[⟨6,⟨#[]⟩,0⟩])++[⟨10,⟨#[]⟩,l.length+1⟩]) (l.length+1)=l++gE l.length r each:=by
 have e:((((l++[⟨1,⟨#[]⟩,0⟩])++[⟨3,r,0⟩])++[each])++[⟨6,⟨#[]⟩,0⟩])++[⟨10,⟨#[]⟩,l.length+1⟩]=l++[⟨1,⟨#[]⟩,0⟩,⟨3,r,0⟩,each,⟨6,⟨#[]⟩,0⟩,(⟨10,⟨#[]⟩,l.length+1⟩:Ins)]:=an;rw [e,zV an];unfold gE;rw [sM _ _ aj,show l.length+1-l.length=1 by omega];simp
def KC(base b:Nat)(rel:ae)(v:ag)(l:List Ins)(r:ae)(each:Ins)(w:af)(e:Ending)(w':af):Prop:=∃v',e=.returned (.tuple #[])/\nu b v w w' v'/\WI base w' b rel v' (l++gE l.length r each)
theorem zX(base b rel v l r each w)(D:WI base w b rel v l)(aY:l.length<=90000):
  Calls prog 210 #[.pointer (some ⟨b,0,none⟩),.string r,.agg #[.int .i64 each.does,.string each.rel,.int .i64 each.to]] w fun e w'=>KC base b rel v l r each w e w':=by
 have J:=(aw w.heap.size w).alloc az (jL each.does each.rel each.to);have aK:=ai (D.below J);have ay:=ai (nu.of_below (b:=b) (v:=v) J);have ax:=ai (aB.new w #[.int .i64 each.does,.string each.rel,.int .i64 each.to] 298);have aT:w.heap.size≠b:=by have:=D.blk.lt;omega
 have aJ:=ai (show v.ownBlock≠some w.heap.size from fun e=>by have:=(D.row.lt _ e).2;omega);have aI:=ai (GM l r each);clear D J;have ab:((l.length+1:Nat):Int)=(l.length:Int)+1:=aj;have Z:=ai ab;clear ab;go_enter func210,ntmps210;go_wp2_with fail;generalize w.alloc (jL each.does each.rel each.to)=W at*;have aH:=ai (nu.of_below (b:=b) (v:=v) (aw W.heap.size W));have O:=ai (iE base b rel _ l ⟨1,⟨#[]⟩,0⟩ W aK.u aj);refine O.u.mono ?_;rintro e w1 ⟨aZ,rfl,ac,al⟩;have aL:=ai al;have aA:=ai (nu.trans aH.u ac);clear ac al O;have Q:=ai (iE base b rel _ (l++[⟨1,⟨#[]⟩,0⟩]) ⟨3,r,0⟩ w1 aL.u q8)
 skip
 go_wp2_with fail;refine Q.u.mono ?_;rintro e aU ⟨a3,rfl,ad,am⟩;have aN:=ai am;have Y:=ai (nu.trans aA.u ad);clear ad am Q;have V:=Y.u.blk ax.u aT aJ.u;obtain ⟨e0,e1,aS⟩:=three V;clear V;have R:=ai (iE base b rel _ ((l++[⟨1,⟨#[]⟩,0⟩])++[⟨3,r,0⟩]) each aU aN.u q8)
 skip
 go_wp2_with fail;refine R.u.mono ?_;rintro e aW ⟨a4,rfl,ae,ap⟩;have aO:=ai ap;have aC:=ai (nu.trans Y.u ae);clear ae ap R;clear e0 e1 aS;have U:=ai (iE base b rel _ (((l++[⟨1,⟨#[]⟩,0⟩])++[⟨3,r,0⟩])++[each]) ⟨6,⟨#[]⟩,0⟩ aW aO.u q8)
 skip
 go_wp2_with fail;refine U.u.mono ?_;rintro e aX ⟨a5,rfl,af,ar⟩;have aP:=ai ar;have aD:=ai (nu.trans aC.u af);clear af ar U;have C:=ai (iE base b rel _ ((((l++[⟨1,⟨#[]⟩,0⟩])++[⟨3,r,0⟩])++[each])++[⟨6,⟨#[]⟩,0⟩]) ⟨10,⟨#[]⟩,l.length+1⟩ aX aP.u q8)
 (dsimp only at C;rw [Z.u] at C)
 go_wp2_with fail;refine (ak C).mono ?_;rintro e w5 ⟨a6,rfl,ag,au⟩;have aQ:=ai au;have aE:=ai (nu.trans aD.u ag);clear ag au C;have I:=ai (zW base b rel _ _ (l.length+1) w5 aQ.u aM an);rw [aI.u,Z.u] at I;go_wp2_with fail;refine (ak I).mono ?_;rintro e a7 ⟨rfl,ah,av⟩;have aR:=ai av;have aG:=ai (ay.u.trans (nu.trans aE.u ah));clear ah av I;go_wp2;go_end0;exact ⟨_,rfl,aG.u,aR.u⟩
section
def aW(rel:ae):Nat->Ex->List Ins
 |m,⟨n,some x,some y⟩=>if n.kind=3 then aW rel m x++aW rel (m+(aW rel m x).length) y++[⟨6,⟨#[]⟩,0⟩]
  else aW rel m x++[⟨9,⟨#[]⟩,m+(aW rel m x).length+(aW rel (m+(aW rel m x).length+1) y).length+2⟩]++aW rel (m+(aW rel m x).length+1) y++[⟨if n.kind=4 then 7 else 8,⟨#[]⟩,0⟩]
 |m,⟨n,none,_⟩=>if n.kind=0 then gE m rel ⟨4,⟨#[]⟩,0⟩ else if n.kind=1 then [⟨2,n.n1,0⟩] else gE m n.n1 ⟨5,n.n2,0⟩
 |_,⟨_,some _,none⟩=>[]
def mN(base b:Nat)(rel:ae)(v:ag)(l c:List Ins)(w:af)(e:Ending)(w':af):Prop:=∃v',e=.returned (.tuple #[])/\nu b v w w' v'/\WI base w' b rel v' (l++c)
variable {base:Nat}
theorem WI.gkept{l}(C:WI base w b rel v l)(k:nu b v w w' v')(bb):nN bb w w':=fun g cs f _ h=>k.but.block g (lt_of_some h) (fun e=>by
 rcases e with rfl|e
 ·have:=C.blk;unfold aB at this;rw [this] at h;simp at h
 rcases C.row.2 with ⟨A,_⟩|⟨g',cap,D,A,_,hc,_⟩
 ·rw [A] at e;simp [Value.ownBlock] at e
 rw [A] at e;simp only [Value.ownBlock,aK] at e;rw [e] at hc;rw [hc] at h;simp at h)
theorem GN(base b:Nat)(rel v l)(p:Nat)(sa)(I D:Nat)(w)(h:WI base w b rel v l)(V:l.length<=90000):
  Calls prog 152 #[.pointer (some ⟨b,0,none⟩),.iface 236 (.agg #[.int .i64 p,.slice sa I D])] w (mN base b rel v l (gE l.length rel ⟨4,⟨#[]⟩,0⟩) w):=by
 have f0:=dx;have f1:=dY;have f2:=dZ;have f3:=cQ;have f4:=dy;have f5:=dz;have Z:=fA;have ab:=fB;have ac:=dD;have ad:=eR;have g5:=eT;have h2:=fC;have ae:=dE;have af:=eS;have ag:=eU;have ak:=dd;have al:=dM;have am:=dN;have an:=e5;have ap:=e6;have ar:=ea;have A:=(aw w.heap.size w).alloc az (oh p sa I D);have Q:=ai (nu.of_below (b:=b) (v:=v) A);have C:=ai (zX base b rel v l rel ⟨4,⟨#[]⟩,0⟩ _ (h.below A) V);have c0:w.cell? ⟨b,0,none⟩=some (.string rel):=h.blk.cell rfl;have Y:(w.alloc (oh p sa I D)).cell? ⟨b,0,none⟩=some (.string rel):=(h.below A).blk.cell rfl;have au:=bj w _ c0;have ah:¬(w.heap.size=b):=by have:=h.blk.lt;omega
 have aj:¬(b=w.heap.size):=by have:=h.blk.lt;omega
 clear h A;go_enter func152,ntmps152;go_wp2_with fail;refine C.u.mono ?_;rintro e w1 ⟨av,rfl,J,O⟩;have R:=ai (Q.u.trans J);have U:=ai O;clear J O C;go_wp2;go_end0;exact ⟨_,rfl,R.u,U.u⟩
theorem KE(base b:Nat)(rel v l)(p:Nat)(s w)(I:WI base w b rel v l)(af:l.length<=90000):
  Calls prog 152 #[.pointer (some ⟨b,0,none⟩),.iface 238 (.agg #[.int .i64 p,.string s])] w (mN base b rel v l [⟨2,s,0⟩] w):=by
 have f0:=dx;have f1:=dY;have f2:=dZ;have f3:=cQ;have f4:=dy;have f5:=dz;have V:=fA;have Y:=fB;have Z:=dD;have ab:=eR;have g5:=eT;have h2:=fC;have ac:=dE;have ad:=eS;have ae:=eU;have ag:=dd;have ah:=dM;have ak:=dN;have al:=e5;have am:=e6;have an:=ea;have D:=(aw w.heap.size w).alloc az (.cells #[.int .i64 p,.string s] 238);have Q:=ai (nu.of_below (b:=b) (v:=v) D);have C:=ai (iE base b rel v l ⟨2,s,0⟩ _ (I.below D) aj);clear I D;go_enter func152,ntmps152;go_wp2_with fail;refine C.u.mono ?_;rintro e w1 ⟨ap,rfl,J,O⟩;have R:=ai (Q.u.trans J);have U:=ai O;clear J O C;go_wp2;go_end0;exact ⟨_,rfl,R.u,U.u⟩
theorem KF(base b:Nat)(rel v l)(p p1 p2:Nat)(s t w)(A:WI base w b rel v l)(R:l.length<=90000):
  Calls prog 152 #[.pointer (some ⟨b,0,none⟩),.iface 240 (.agg #[.int .i64 p,.int .i64 p1,.string s,.int .i64 p2,.string t])] w (mN base b rel v l (gE l.length s ⟨5,t,0⟩) w):=by
 have f0:=dx;have f1:=dY;have f2:=dZ;have f3:=cQ;have f4:=dy;have f5:=dz;have U:=fA;have V:=fB;have Y:=dD;have Z:=eR;have g5:=eT;have h2:=fC;have ab:=dE;have ac:=eS;have ad:=eU;have ae:=dd;have af:=dM;have ag:=dN;have ah:=e5;have aj:=e6;have ak:=ea;have h:=(aw w.heap.size w).alloc az (kh p p1 s p2 t);have J:=ai (nu.of_below (b:=b) (v:=v) h);have C:=ai (zX base b rel v l s ⟨5,t,0⟩ _ (A.below h) R);clear A h;go_enter func152,ntmps152;go_wp2_with fail;refine C.u.mono ?_;rintro e w1 ⟨al,rfl,D,I⟩;have O:=ai (J.u.trans D);have Q:=ai I;clear D I C;go_wp2;go_end0;exact ⟨_,rfl,O.u,Q.u⟩
end
def EY (A:aF:=by
 rw [bo];omega):aF:=A
theorem kQ(rel e):∀n,(aW rel n e).length<=8*(aA e).length:=by
 induction e using Ex.ind with
 |h0 n r=>
  intro m;have:(aA ⟨n,none,r⟩).length=1:=by simp [aA]
  rw [this];unfold aW
  split
  ·simp [gE]
  split
  ·simp
  simp [gE]
 |h1 n a=>intro m;simp [aW]
 |h2 n a c iha Py=>
  intro m;have h:(aA ⟨n,some a,some c⟩).length=(aA a).length+1+(aA c).length:=by simp [aA];omega
  rw [h];have h1:=iha m;have h2:=Py (m+(aW rel m a).length);have A:=Py (m+(aW rel m a).length+1);unfold aW
  split
  ·simp only [bo,List.length_cons,List.length_nil];omega
  simp only [bo,List.length_cons,List.length_nil];omega
def OA(base b:Nat)(rel:ae)(h:Nat)(e:Ex):Prop:=∀(v:ag)(l:List Ins)(w:af)(val:ag),bg h w e val->WI base w b rel v l->l.length+8*(aA e).length<=80000->Calls prog 152 #[.pointer (some ⟨b,0,none⟩),val] w (mN base b rel v l (aW rel l.length e) w)
theorem zY(base b:Nat)(rel)(D:Nat)(x y)(ae:OA base b rel D x)(af:OA base b rel D y)(v l)(p:Nat)(vx vy w)(Q:bg D w x vx)(R:bg D w y vy)(I:WI base w b rel v l)(aX:l.length+8*((aA x).length+(aA y).length)+8<=80000):
  Calls prog 152 #[.pointer (some ⟨b,0,none⟩),.iface 244 (.agg #[.int .i64 p,vx,vy])] w (mN base b rel v l (aW rel l.length x++aW rel (l.length+(aW rel l.length x).length) y++[⟨6,⟨#[]⟩,0⟩]) w):=by
 have f0:=dx;have f1:=dY;have f2:=dZ;have f3:=cQ;have f4:=dy;have f5:=dz;have aO:=fA;have aP:=fB;have aQ:=dD;have aR:=eR;have g5:=eT;have h2:=fC;have aS:=dE;have aT:=eS;have aU:=eU;have aY:=dd;have aZ:=dM;have a0:=dN;have a1:=e5;have a2:=e6;have a3:=ea;obtain ⟨U,V,rfl⟩:=Q.isI;obtain ⟨Y,yv,rfl⟩:=R.isI;have C:=(aw w.heap.size w).alloc az (.cells #[.int .i64 p,.iface U V,.iface Y yv] 244);have ay:=ai (I.below C);have an:=ai (nu.of_below (b:=b) (v:=v) C);have am:=ai (aB.new w #[.int .i64 p,.iface U V,.iface Y yv] 244);have aG:w.heap.size≠b:=by have:=I.blk.lt;omega
 have ax:=ai (show v.ownBlock≠some w.heap.size from fun e=>by have:=(I.row.lt _ e).2;omega);have lx:=kQ rel x l.length;have a4:=kQ rel y (l.length+(aW rel l.length x).length);have Z:=ai (ae v l _ _ (Q.but (But.of_below C)) (I.below C) aj);have ad:=ai (R.but (But.of_below C));have ac:=ai af;generalize aD:aW rel l.length x=J at*;have av:=ai (show aW rel (l++J).length y=aW rel (l.length+J.length) y from by rw [bo]);generalize aE:aW rel (l.length+J.length) y=aN at*;clear I C Q R ae af aD aE;go_enter func152,ntmps152;go_wp2_with fail;generalize (w.alloc (.cells #[.int .i64 p,.iface U V,.iface Y yv] 244))=W at*;refine Z.u.mono ?_;rintro e w1 ⟨aH,rfl,f1,ag⟩;have O:=ai (ac.u aH (l++J) w1 _ (bg.frame (ay.u.gkept f1 D) _ _ ad.u) ag EY);rw [av.u] at O;have e1:=(f1.blk am.u aG ax.u);obtain ⟨aK,aL,aM⟩:=three e1;have ap:=ai (an.u.trans f1);clear f1 ag Z ac ad e1;go_wp2_with fail;refine (ak O).mono ?_;rintro e aJ ⟨aI,rfl,f2,ah⟩;have ab:=ai (iE base b rel aI _ ⟨6,⟨#[]⟩,0⟩ aJ ah (by rw [bo,bo];omega));have ar:=ai (ap.u.trans f2);clear f2 ah O aK aL aM;go_wp2_with fail;refine ab.u.mono ?_;rintro e a6 ⟨a5,rfl,f3,al⟩;have au:=ai (ar.u.trans f3);have aC:=ai al;clear f3 al ab;go_wp2;go_end0;exact ⟨_,rfl,au.u,by simpa [eI] using aC.u⟩
theorem zZ(l cx cy d):nR ((((l++cx)++[⟨9,⟨#[]⟩,0⟩])++cy)++[⟨d,⟨#[]⟩,0⟩]) (l.length+cx.length)=l++(cx++[⟨9,⟨#[]⟩,l.length+cx.length+cy.length+2⟩]++cy++[⟨d,⟨#[]⟩,0⟩]):=by
 have e:(((l++cx)++[⟨9,⟨#[]⟩,0⟩])++cy)++[(⟨d,⟨#[]⟩,0⟩:Ins)]=(l++cx)++(⟨9,⟨#[]⟩,0⟩::(cy++[⟨d,⟨#[]⟩,0⟩])):=an;have D:l.length+cx.length<((l++cx)++((⟨9,⟨#[]⟩,0⟩:Ins)::(cy++[⟨d,⟨#[]⟩,0⟩]))).length:=an;have C:((l++cx)++((⟨9,⟨#[]⟩,0⟩:Ins)::(cy++[⟨d,⟨#[]⟩,0⟩])))[l.length+cx.length]? =some ⟨9,⟨#[]⟩,0⟩:=by
  rw [s9 an];simp
 rw [e];unfold nR;rw [C];simp only;rw [sM _ _ an,show l.length+cx.length-(l++cx).length=0 by simp,List.set_cons_zero];simp;omega
theorem tD(base b:Nat)(rel)(I:Nat)(x y)(ap:OA base b rel I x)(ar:OA base b rel I y)(v l)(p d:Nat)(vx vy w)(R:bg I w x vx)(U:bg I w y vy)(J:WI base w b rel v l)(bb:l.length+8*((aA x).length+(aA y).length)+8<=80000):
  Calls prog 211 #[.pointer (some ⟨b,0,none⟩),.agg #[.int .i64 p,vx,vy],.int .i64 d] w (mN base b rel v l (aW rel l.length x++[⟨9,⟨#[]⟩,l.length+(aW rel l.length x).length+(aW rel (l.length+(aW rel l.length x).length+1) y).length+2⟩]++aW rel (l.length+(aW rel l.length x).length+1) y++[⟨d,⟨#[]⟩,0⟩]) w):=by
 obtain ⟨V,Y,rfl⟩:=R.isI;obtain ⟨Z,yv,rfl⟩:=U.isI;have D:=(aw w.heap.size w).alloc az (sI p V Y Z yv);have aO:=ai (J.below D);have aD:=ai (nu.of_below (b:=b) (v:=v) D);have aC:=ai (aB.new w #[.int .i64 p,.iface V Y,.iface Z yv] 242);have aT:w.heap.size≠b:=by have:=J.blk.lt;omega
 have aN:=ai (show v.ownBlock≠some w.heap.size from fun e=>by have:=(J.row.lt _ e).2;omega);have lx:=kQ rel x l.length;have bc:=kQ rel y (l.length+(aW rel l.length x).length+1);have ac:=ai (ap v l _ _ (R.but (But.of_below D)) (J.below D) aj);have ah:=ai (U.but (But.of_below D));have ag:=ai ar;generalize aR:aW rel l.length x=C at*;have aJ:=ai (show aW rel ((l++C)++[(⟨9,⟨#[]⟩,0⟩:Ins)]).length y=aW rel (l.length+C.length+1) y from by rw [bo,bo];rfl);generalize aS:aW rel (l.length+C.length+1) y=aQ at*;have aK:=ai (zZ l C aQ d);have aL:=ai (show ((l.length+C.length:Nat):Int)=(l.length:Int)+(C.length:Int) from aj);clear J D R U ap ar aR aS;go_enter func211,ntmps211;go_wp2_with fail;generalize (w.alloc (sI p V Y Z yv))=W at*;refine ac.u.mono ?_;rintro e w1 ⟨aU,rfl,f1,ab⟩;have ad:=ai (iE base b rel aU _ ⟨9,⟨#[]⟩,0⟩ w1 ab EY);have al:=ai (bg.frame (aO.u.gkept f1 I) _ _ ah.u);have am:=ai ab;have aE:=ai f1;clear f1 ab ac ah;go_wp2_with fail;refine ad.u.mono ?_;rintro e a5 ⟨aX,rfl,f2,au⟩;have O:=ai (ag.u aX _ a5 _ (bg.frame (am.u.gkept f2 I) _ _ al.u) au (by rw [bo,bo];simp;omega));rw [aJ.u] at O;have af:=ai (aE.u.trans f2);obtain ⟨a8,a9,ba⟩:=three (af.u.blk aC.u aT aN.u);clear f2 au ad al am ag;go_wp2_with fail;refine (ak O).mono ?_;rintro e a6 ⟨aY,rfl,f3,av⟩;have ae:=ai (iE base b rel aY _ ⟨d,⟨#[]⟩,0⟩ a6 av (by rw [bo,bo,bo];simp;omega));have aG:=ai (af.u.trans f3);clear f3 av O a8 a9 ba;go_wp2_with fail;refine ae.u.mono ?_;rintro e a7 ⟨aZ,rfl,f4,ax⟩;have Q:=ai (zW base b rel aZ _ (l.length+C.length) a7 ax aM an);rw [aK.u,aL.u] at Q;have aH:=ai (aG.u.trans f4);clear f4 ax ae;go_wp2_with fail;refine (ak Q).mono ?_;rintro e w5 ⟨rfl,f5,ay⟩;have aI:=ai (aD.u.trans (aH.u.trans f5));have aP:=ai ay;clear f5 ay Q;go_wp2;go_end0;exact ⟨_,rfl,aI.u,aP.u⟩
theorem GO(base b:Nat)(rel)(A:Nat)(x y)(Q:OA base b rel A x)(R:OA base b rel A y)(v l)(p:Nat)(vx vy w)(D:bg A w x vx)(I:bg A w y vy)(J:WI base w b rel v l)(ab:l.length+8*((aA x).length+(aA y).length)+8<=80000):
  Calls prog 152 #[.pointer (some ⟨b,0,none⟩),.iface 245 (.agg #[.int .i64 p,vx,vy])] w (mN base b rel v l (aW rel l.length x++[⟨9,⟨#[]⟩,l.length+(aW rel l.length x).length+(aW rel (l.length+(aW rel l.length x).length+1) y).length+2⟩]++aW rel (l.length+(aW rel l.length x).length+1) y++[⟨7,⟨#[]⟩,0⟩]) w):=by
 have f0:=dx;have f1:=dY;have f2:=dZ;have f3:=cQ;have f4:=dy;have f5:=dz;have af:=fA;have ag:=fB;have ah:=dD;have aj:=eR;have g5:=eT;have h2:=fC;have ak:=dE;have al:=eS;have am:=eU;have an:=dd;have ap:=dM;have ar:=dN;have au:=e5;have av:=e6;have ax:=ea;obtain ⟨ac,ad,rfl⟩:=D.isI;obtain ⟨ae,yv,rfl⟩:=I.isI;have h:=(aw w.heap.size w).alloc az (.cells #[.int .i64 p,.iface ac ad,.iface ae yv] 245);have V:=ai (nu.of_below (b:=b) (v:=v) h);have C:=ai (tD base b rel A x y Q R v l p 7 _ _ _ (D.but (But.of_below h)) (I.but (But.of_below h)) (J.below h) ab);clear J h D I Q R;go_enter func152,ntmps152;go_wp2_with fail;refine C.u.mono ?_;rintro e w1 ⟨ay,rfl,O,U⟩;have Y:=ai (V.u.trans O);have Z:=ai U;clear O U C;go_wp2;go_end0;exact ⟨_,rfl,Y.u,Z.u⟩
theorem GQ(base b:Nat)(rel)(A:Nat)(x y)(Q:OA base b rel A x)(R:OA base b rel A y)(v l)(p:Nat)(vx vy w)(D:bg A w x vx)(I:bg A w y vy)(J:WI base w b rel v l)(ab:l.length+8*((aA x).length+(aA y).length)+8<=80000):
  Calls prog 152 #[.pointer (some ⟨b,0,none⟩),.iface 246 (.agg #[.int .i64 p,vx,vy])] w (mN base b rel v l (aW rel l.length x++[⟨9,⟨#[]⟩,l.length+(aW rel l.length x).length+(aW rel (l.length+(aW rel l.length x).length+1) y).length+2⟩]++aW rel (l.length+(aW rel l.length x).length+1) y++[⟨8,⟨#[]⟩,0⟩]) w):=by
 have f0:=dx;have f1:=dY;have f2:=dZ;have f3:=cQ;have f4:=dy;have f5:=dz;have af:=fA;have ag:=fB;have ah:=dD;have aj:=eR;have g5:=eT;have h2:=fC;have ak:=dE;have al:=eS;have am:=eU;have an:=dd;have ap:=dM;have ar:=dN;have au:=e5;have av:=e6;have ax:=ea;obtain ⟨ac,ad,rfl⟩:=D.isI;obtain ⟨ae,yv,rfl⟩:=I.isI;have h:=(aw w.heap.size w).alloc az (.cells #[.int .i64 p,.iface ac ad,.iface ae yv] 246);have V:=ai (nu.of_below (b:=b) (v:=v) h);have C:=ai (tD base b rel A x y Q R v l p 8 _ _ _ (D.but (But.of_below h)) (I.but (But.of_below h)) (J.below h) ab);clear J h D I Q R;go_enter func152,ntmps152;go_wp2_with fail;refine C.u.mono ?_;rintro e w1 ⟨ay,rfl,O,U⟩;have Y:=ai (V.u.trans O);have Z:=ai U;clear O U C;go_wp2;go_end0;exact ⟨_,rfl,Y.u,Z.u⟩
theorem GS(base b rel bb e):OA base b rel bb e:=by
 induction e using Ex.ind with
 |h0 n r=>
  intro v l w val D C hl;have V:(aA ⟨n,none,r⟩).length=1:=by simp [aA]
  rw [V] at hl
  rcases D with ⟨J,sv,rfl,Z⟩|⟨J,rfl⟩|⟨J,rfl⟩
  ·have I:aW rel l.length ⟨n,none,r⟩=gE l.length rel ⟨4,⟨#[]⟩,0⟩:=by simp [aW,J]
   obtain ⟨sa,sc,rfl⟩:=ay Z;rw [I];exact GN base b rel v l _ _ _ _ w C aj
  ·have I:aW rel l.length ⟨n,none,r⟩=[⟨2,n.n1,0⟩]:=by simp [aW,J]
   rw [I];exact KE base b rel v l _ _ w C aj
  have I:aW rel l.length ⟨n,none,r⟩=gE l.length n.n1 ⟨5,n.n2,0⟩:=by simp [aW,J]
  rw [I];exact KF base b rel v l _ _ _ _ _ w C aj
 |h1 n a=>intro v l w val D;exact D.elim
 |h2 n a c iha Py=>
  intro v l w val D C hl;have Y:(aA ⟨n,some a,some c⟩).length=(aA a).length+1+(aA c).length:=by simp [aA];omega
  rw [Y] at hl;obtain ⟨ab,ac,rfl,R,U⟩:=D
  by_cases k3:n.kind=3
  ·have O:gA n.kind=244:=by simp [gA,k3]
   rw [aW,if_pos k3,O];exact zY base b rel bb a c iha Py v l _ _ _ w R U C aj
  by_cases Q:n.kind=4
  ·have O:gA n.kind=245:=by simp [gA,Q]
   rw [aW,if_neg k3,if_pos Q,O];exact GO base b rel bb a c iha Py v l _ _ _ w R U C aj
  have O:gA n.kind=246:=by simp [gA,k3,Q]
  rw [aW,if_neg k3,if_neg Q,O];exact GQ base b rel bb a c iha Py v l _ _ _ w R U C aj
abbrev ko(a0:ae)(a1:Int)(a2:ae)(a3:TypeId)(a4:ag):Obj:=.cells #[.string a0,.int .i64 a1,.string a2,.iface a3 a4] 198
abbrev xL:Obj:=.cells #[.string ⟨#[]⟩,.string ⟨#[]⟩,.slice none 0 0] 201
abbrev tE(a0:ae):Obj:=.cells #[.string a0,.slice none 0 0] 293
def fZ(t:ae)(e:Ex):List Ins:=aW t 0 e++[⟨0,⟨#[]⟩,0⟩]
def Rm(k t:ae)(e:Ex)(w:af)(e':Ending)(w':af):Prop:=∃v',e'=.returned (.agg #[.string k,.string t,v'])/\Below w.heap.size w w'/\w'.ownsRow w.heap.size 298 3 v' (fZ t e).length ((fZ t e).flatMap zU)
theorem Qi{P fn p ty}(A:fn.results=#[.cell p ty])(tmps w g cs' t d)(D:tmps.getD p undef=.pointer (some ⟨g,0,none⟩))(h:∃cs,aB w g cs t/\cs=cs')(I:P.underlying ty=some d)(C:(match d with| .struct _| .array _ _=>true|_=>false)=true)(hi:(P.info? ty).map (·.size)=some cs'.size):
  (results fn tmps).run P w=.ok (.agg cs') w:=by
 obtain ⟨cs,h,rfl⟩:=h;exact results_cell_row A tmps w g t cs (0,0) d D h I C hi
theorem CW(af:Nat)(k t)(pl:Nat)(e val w)(Z:bg af w e val)(aK:(aA e).length<=1000):
  Calls prog 101 #[.agg #[.string k,.int .i64 pl,.string t,val]] w (Rm k t e w):=by
 obtain ⟨C,D,rfl⟩:=Z.isI;have Y:Below w.heap.size w (((w.alloc (ko k pl t C D)).alloc xL).alloc (tE t)):=(((aw w.heap.size w).alloc az _).alloc an _).alloc aM _;have V:WI w.heap.size (((w.alloc (ko k pl t C D)).alloc xL).alloc (tE t)) (w.heap.size+1+1) t (.slice none 0 0) []:=⟨aB.new' _ _ _ _ an,bN,aj⟩;have aI:=ai (((aB.new w #[.string k,.int .i64 pl,.string t,.iface C D] 198).alloc xL).alloc (tE t));have aD:=ai ((aB.new' (w.alloc (ko k pl t C D)) #[.string ⟨#[]⟩,.string ⟨#[]⟩,.slice none 0 0] 201 (w.heap.size+1) an).alloc (tE t));have aL:=kQ t e 0;have U:=ai (GS w.heap.size (w.heap.size+1+1) t af e (.slice none 0 0) [] _ _ (Z.but (But.of_below Y)) V aM);have ax:=ai V;have al:=ai Y;rw [List.length_nil] at U;clear Z Y V;go_enter func101,ntmps101;go_wp2_with fail;generalize (((w.alloc (ko k pl t C D)).alloc xL).alloc (tE t))=W at*;refine (ak U).mono ?_;rintro e' w1 ⟨aJ,rfl,f1,ab⟩;rw [List.nil_append] at ab;have ac:=ai (iE w.heap.size (w.heap.size+1+1) t aJ _ ⟨0,⟨#[]⟩,0⟩ w1 ab aj);have am:=ai f1;clear f1 ab U;go_wp2_with fail;refine ac.u.mono ?_;rintro e' Q ⟨aU,rfl,f2,R⟩;have J:=am.u.trans f2;have I:=J.blk aI.u aj (by simp [Value.ownBlock]);have O:=J.blk aD.u aj (by simp [Value.ownBlock]);obtain ⟨aN,aO,aP,aQ⟩:Q.cell? ⟨w.heap.size,0,none⟩=some (.string k)/\Q.cell? ⟨w.heap.size,1,none⟩=some (.int .i64 pl)/\Q.cell? ⟨w.heap.size,2,none⟩=some (.string t)/\Q.cell? ⟨w.heap.size,3,none⟩=some (.iface C D):=⟨I.cell rfl,I.cell rfl,I.cell rfl,I.cell rfl⟩;obtain ⟨aX,aY,aZ⟩:=three O;have a5:=O.fz;obtain ⟨ag,ah,rfl⟩:=ay R.row;obtain ⟨aR,aT⟩:=hS R.blk;have ap:=ai (al.u.trans (J.below ax.u));have ad:=ai O;have av:=ai R;clear f2 R ac J I O;go_wp2_with fail;have hn:(fZ t e).length=(aW t 0 e).length+1:=by simp [fZ]
 refine bc (v:=.agg #[.string k,.string t,.slice ag ((aW t 0 e).length+1) ah]) (Qi results101 _ _ (w.heap.size+1) _ 201 _ rfl ?hB underlying201 rfl au) rfl ?post
 case hB=>exact ⟨_,(b4 ad),aS⟩
 case post=>
  have K0:=ad.u;have aE:=av.u.row;have aG:=bJ aE K0 ar 0 (.string k);have K1:=K0.set 0 (.string k);have aH:=bJ aG K1 ar 1 (.string t);have aC:=K1.set 1 (.string t);have ae:=bJ aH aC ar 2 (.slice ag ((aW t 0 e).length+1) ah);refine ⟨_,rfl,(bB ap),?_⟩;rw [hn];rw [show (aW t 0 e++[(⟨0,⟨#[]⟩,0⟩:Ins)]).length=(aW t 0 e).length+1 from by simp] at ae;exact ae
abbrev gu:=@Option.some.inj
abbrev ja:=@List.pairwise_iff_getElem
abbrev oF:=@List.map_set
abbrev jb:=@List.getElem_set_ne
abbrev qq:=@List.mem_or_eq_of_mem_set
abbrev tF:=@Nat.lt_or_gt_of_ne
def Qj (A:aF:=by
 rw [hpe];exact ek.symm):aF:=A
def Qk (A:aF:=by
 rw [hpe];exact e):aF:=A
def Ql (I:aF:=by
 by_cases C:i=a
 ·subst C;rw [jE] at hk;rw [jb aj] at e;exact old b hb' aj e (by simpa [Value.ownBlock] using hk)
 rw [jb C] at hk
 by_cases D:i=b
 ·subst D;rw [jE] at e;exact old a ha aj hk (by simpa [Value.ownBlock] using e)
 rw [jb D] at e;exact hap a b ha hb' hab k hk e):aF:=I
def KG (A:aF:=by
 subst e;rw [jE];simp only [bo,List.length_cons,List.length_nil,cX,cq,oA,gl];exact hown):aF:=A
def KH (h:aF:=by
 refine List.pairwise_append.2 ⟨h.ap,an,fun p _ q C k D e=> ?_⟩;rw [aR] at C;subst C;simp [Value.ownBlock] at e):aF:=h
def KI (D:aF:=by
 rcases tF hji with C|C
 ·exact hap j i hj hil C g hk Qk
 exact hap i j hil hj C g Qk hk):aF:=D
def KJ (D:aF:=by
 rcases tF e with C|C
 ·exact hap i j hil hj C k Qj hk
 exact hap j i hj hil C k hk Qj):aF:=D
def fN{α:Type}(n:Nat)(g:List (List α)):List (List α):=g++List.replicate (n-g.length) []
def fO{α:Type}(n:Nat)(x:α)(g:List (List α)):List (List α):=(fN n g).set (n-1) ((fN n g).getD (n-1) []++[x])
def iF{α:Type}(rk:α->Nat)(l:List α):List (List α):=l.foldl (fun g x=>fO (rk x) x g) []
theorem xM(rk:α->Nat)(l:List α)(x:α):iF rk (l++[x])=fO (rk x) x (iF rk l):=by simp [iF]
def IC(x:It):List ag:=[.string x.1.1.name,.int .i64 x.2.1.place,.string x.2.1.name,x.2.2]
structure nv(base:Nat)(w:af)(sv:ag)(ps:List (ag×List It)):Prop where
 row:w.ownsRow base 196 1 sv ps.length (ps.map Prod.fst)
 inn:∀p∈ps,w.ownsRow base 198 4 p.1 p.2.length (p.2.flatMap IC)
 ap:ps.Pairwise (fun p q=>∀k,p.1.ownBlock=some k->q.1.ownBlock≠some k)
theorem nv.frame{base ps}(h:nv base w sv ps)(k:∀(g:Nat)(cs:Array ag)(T:TypeId)(f:Nat×Nat),w.heap[g]? =some (Obj.cells cs T f)->(T=196\/T=198)->w'.heap[g]? =w.heap[g]?):nv base w' sv ps:=
 ⟨ax h.row (fun g cs f _ A=>k g cs _ f A (.inl rfl)),fun p C=>ax (h.inn p C) (fun g cs f _ A=>k g cs _ f A (.inr rfl)),h.ap⟩
theorem nv.below{base ps}(h:nv base w sv ps)(k:Below w.heap.size w w'):nv base w' sv ps:=h.frame (fun g cs T f A _=>k.block g (lt_of_some A))
def GU(sv:ag)(ps:List (ag×List It))(k:Nat):Prop:=sv.ownBlock=some k\/∃p∈ps,p.1.ownBlock=some k
theorem nv.lt{base ps}(h:nv base w sv ps)(A:GU sv ps k):base<=k/\k<w.heap.size:=by
 rcases A with e|⟨p,C,e⟩
 ·exact h.row.lt k e
 exact (h.inn p C).lt k e
theorem CX{base:Nat}(C:w.ownsRow base e size v n xs)(h:v.ownBlock=some k):∃cs,aB w k cs e:=by
 rcases C.2 with ⟨rfl,_⟩|⟨g,cap,A,rfl,_,D,_⟩
 ·cases h
 simp only [Value.ownBlock,aK] at h;subst h;exact ⟨A,D⟩
theorem nv.ty{base ps}(A:nv base w sv ps)(C:GU sv ps k):∃cs T,aB w k cs T/\(T=196\/T=198):=by
 rcases C with e|⟨p,D,e⟩
 ·obtain ⟨cs,h⟩:=CX A.row e;exact ⟨cs,_,h,.inl rfl⟩
 obtain ⟨cs,h⟩:=CX (A.inn p D) e;exact ⟨cs,_,h,.inr rfl⟩
theorem nv.off{base ps}(C:nv base w sv ps)(A:aB w g cs T)(h1:T≠196)(h2:T≠198):¬GU sv ps g:=fun e=>by
 obtain ⟨I,T',h,D⟩:=C.ty e;unfold aB at A h;rw [A] at h
 cases h
 rcases D with e|e
 ·exact h1 e
 exact h2 e
structure vd(sb:Nat)(sv:ag)(ps:List (ag×List It))(w w':af)(uU:ag)(ps':List (ag×List It)):Prop where
 but:bI (fun k=>k=sb\/GU sv ps k) w w'
 own:∀k,GU uU ps' k->GU sv ps k\/w.heap.size<=k
section
variable {sb:Nat}{sv uU Tv:ag}{ps ps' Tw:List (ag×List It)}{w w' w'':af}
theorem vd.below(h:Below w.heap.size w w'):vd sb sv ps w w' sv ps:=⟨.of_below h,fun _ e=> .inl e⟩
theorem vd.trans(h:vd sb sv ps w w' uU ps')(k:vd sb uU ps' w' w'' Tv Tw):vd sb sv ps w w'' Tv Tw where
 but:=⟨k.but.os.trans h.but.os,k.but.tape.trans h.but.tape,k.but.output.trans h.but.output,aL h.but.size k.but.size,fun i hi hs=>(k.but.block i (cg hi h.but.size) (fun e=>by
  rcases e with e|e
  ·exact hs (.inl e)
  rcases h.own i e with e|e
  ·exact hs (.inr e)
  omega)).trans (h.but.block i hi hs)⟩
 own:=fun i hi=>by
  exact KA
theorem nv.push{base:Nat}(h:nv base w sv ps)(O:w.grownBy w' sv.ownBlock)(Q:w'.ownsRow base 196 1 (.slice (some ⟨g,0,none⟩) (ps.length+1) cap) (ps.length+1) (ps.map Prod.fst++[.slice none 0 0])):nv base w' (.slice (some ⟨g,0,none⟩) (ps.length+1) cap) (ps++[(.slice none 0 0,[])]):=by
 refine ⟨by simpa using Q,fun p I=> ?_,?_⟩
 ·rcases aT.1 I with I|I
  ·exact ax (h.inn p I) (fun g cs f _ J=>O.block g (lt_of_some J) (eo h.row J ar))
  rw [aR] at I;subst I;exact bN
 exact KH
theorem vd.push{base}(I:nv base w sv ps)(D:w.grownBy w' sv.ownBlock)(C:sv.ownBlock=some g\/w.heap.size<=g)(u):vd sb sv ps w (w'.setCell ⟨sb,0,none⟩ u) (.slice (some ⟨g,0,none⟩) (ps.length+1) cap) (ps++[(.slice none 0 0,[])]):=by
 refine ⟨(fM D (fun k A=> .inr (.inl A))).set (.inl rfl) _,fun k A=> ?_⟩
 rcases A with e|⟨p,h,e⟩
 ·simp only [Value.ownBlock,aK] at e;subst e
  rcases C with e|e
  ·exact .inl (.inl e)
  exact .inr e
 rcases aT.1 h with h|h
 ·exact .inl (.inr ⟨p,h,e⟩)
 rw [aR] at h;subst h;simp [Value.ownBlock] at e
theorem nv.put{base}{p:ag×List It}{x}(J:nv base w (.slice (some ⟨g0,0,none⟩) ps.length c0) ps)(hi:ps[i]? =some p)(Q:w.grownBy w' p.1.ownBlock)(hown:w'.ownsRow base 198 4 (.slice (some ⟨g,0,none⟩) (p.2.length+1) cap) (p.2.length+1) (p.2.flatMap IC++IC x))(U:p.1.ownBlock=some g\/w.heap.size<=g):
  nv base (w'.setCell ⟨g0,i,none⟩ (.slice (some ⟨g,0,none⟩) (p.2.length+1) cap)) (.slice (some ⟨g0,0,none⟩) ps.length c0) (ps.set i (.slice (some ⟨g,0,none⟩) (p.2.length+1) cap,p.2++[x])):=by
 have hil:i<ps.length:=by
  rcases ii i ps.length with J|J
  ·exact J
  rw [k7 J] at hi;cases hi
 have Y:p∈ps:=bx hi;have hpe:ps[i]=p:=by rw [aG hil] at hi;exact gu hi
 have R:w'.ownsRow base 196 1 (.slice (some ⟨g0,0,none⟩) ps.length c0) ps.length (ps.map Prod.fst):=ax J.row (fun g cs f _ O=>Q.block g (lt_of_some O) (eo (J.inn p Y) O ar));obtain ⟨ab,V,_⟩:=eD R;have hap:=ja.1 J.ap;refine ⟨?_,fun q Z=> ?_,?_⟩
 ·have:=rP R i (.slice (some ⟨g,0,none⟩) (p.2.length+1) cap);rw [gK,oF];exact this
 ·obtain ⟨j,hj,rfl⟩:=dn Z;rw [gK] at hj;refine bJ ?_ V ar _ _
  by_cases e:i=j
  ·exact KG
  rw [jb e];refine cA (J.inn _ (bu hj)) (fun k cs f hk O=>Q.block k (lt_of_some O) (fun ek=> ?_));exact KJ
 ·refine ja.2 (fun a b ha hb' hab k hk e=> ?_);rw [gK] at ha hb';have old:∀j (hj:j<ps.length),j≠i->ps[j].1.ownBlock=some k->g=k->False:=fun j hj hji hk e=>by
   subst e
   rcases U with e|e
   ·exact KI
   have:=((J.inn _ (bu hj)).lt g hk).2;omega
  exact Ql
theorem vd.put{p:ag×List It}{l}(hi:ps[i]? =some p)(I:w.grownBy w' p.1.ownBlock)(D:p.1.ownBlock=some g\/w.heap.size<=g)(u):
  vd sb (.slice (some ⟨g0,0,none⟩) n c0) ps w (w'.setCell ⟨g0,i,none⟩ u) (.slice (some ⟨g0,0,none⟩) n c0) (ps.set i (.slice (some ⟨g,0,none⟩) (l.length) cap,l)):=by
 have C:p∈ps:=bx hi;refine ⟨(fM I (fun k h=> .inr (.inr ⟨p,C,h⟩))).set (.inr (.inl rfl)) _,fun k h=> ?_⟩
 rcases h with e|⟨q,A,e⟩
 ·exact .inl (.inl e)
 ·rcases qq A with A|rfl
  ·exact .inl (.inr ⟨q,A,e⟩)
  simp only [Value.ownBlock,aK] at e;subst e
  rcases D with e|e
  ·exact .inl (.inr ⟨p,C,e⟩)
  exact .inr e
theorem vd.ck{base:Nat}(D:nv base w sv ps)(k:vd sb sv ps w w' uU ps')(A:aB w sb #[sv] 194):KeepsFrom B w w'/\CK w w':=by
 have key:∀(i:Nat)(o:Obj),w.heap[i]? =some o->(o.isCells=false\/∃cs T f,o=.cells cs T f/\MT T)->w'.heap[i]? =w.heap[i]? :=fun i o hi ho=>k.but.block i (lt_of_some hi) (fun e=>by
  rcases e with e|e
  ·subst e;unfold aB at A;rw [A] at hi
   cases hi
   rcases ho with ho|⟨cs,T,f,ho,h⟩
   ·cases ho
   cases ho
   exact absurd h (by unfold MT;decide)
  obtain ⟨cs,T,C,I⟩:=D.ty e;unfold aB at C;rw [C] at hi
  cases hi
  rcases ho with ho|⟨O,T',f',ho,h⟩
  ·cases ho
  cases ho
  rcases I with rfl|rfl<;>exact absurd h (by unfold MT;decide))
 exact ⟨⟨k.but.size,fun i o _ hi ho=>(key i o hi (.inl ho)).trans hi⟩,k.but.size,fun g cs T f J h=>key g _ J (.inr ⟨cs,T,f,rfl,h⟩)⟩
theorem vd.outer{base:Nat}(h:nv base w sv ps)(k:vd sb sv ps w w' uU ps')(h0:bI (fun k=>k=sb) W0 w)(A:W0.heap.size<=base):bI (fun k=>k=sb) W0 w':=
 ⟨k.but.os.trans h0.os,k.but.tape.trans h0.tape,k.but.output.trans h0.output,aL h0.size k.but.size,fun i hi hs=>(k.but.block i (cg hi h0.size) (fun e=>by
  rcases e with e|e
  ·exact hs e
  have:=(h.lt e).1;omega)).trans (h0.block i hi hs)⟩
theorem nv.set{base}(h:nv base w sv ps)(A:aB w g cs T)(h1:T≠196)(h2:T≠198)(o u):nv base (w.setCell ⟨g,o,none⟩ u) sv ps:=⟨bJ h.row A h1 o u,fun p C=>bJ (h.inn p C) A h2 o u,h.ap⟩
theorem nv.base{base:Nat}(h:nv base w sv ps)(A:base'<=base):nv base' w sv ps:=⟨aX h.row A,fun p C=>aX (h.inn p C) A,h.ap⟩
theorem nv.oth{base:Nat}(A:nv base w sv ps)(C:w.grownBy w' row)(D:∀r,row=some r->∃o:Obj,w.heap[r]? =some o/\o.isCells=false):nv base w' sv ps:=A.frame (fun g cs T f h _=>C.block g (lt_of_some h) (fun e=>by
 obtain ⟨o,ho,hc⟩:=D g e.symm;rw [h] at ho
 cases ho
 cases hc))
end
def rU:Op->Bool
 | .defer _=>true
 |_=>false
theorem tG{l:Nat}{o:Oper}{a:Act}{K:Act->af->Prop}{Q:Exit->Act->af->Prop}(A:rU o.op=false)(h:o.wp P a w K Q):o.wpIn (Fence.wide.inRound l) n P a w K Q:=by
 refine ⟨fun _ _=>trivial,?_⟩;rw [show (Fence.wide.inRound l).round=some l from rfl,Oper.semAt_some l _ _ (fun c e=>by rw [e] at A;cases A)];unfold Oper.wp at h;generalize (execOp a.eval o).run P w=r at*
 cases r with
 |ok x w'=>
  cases x<;>simp only [Oper.upon,Oper.uponIn] at h ⊢<;>first|exact h|exact ⟨(fun e=>by cases e),qm l (hP.2 h)⟩|exact ⟨(fun e=>by cases e),fun c cs _=>let ⟨v,w',r,s⟩:=h c cs;⟨v,w',r,stepsIn_wide.2 s⟩⟩
 |halt x w'=>cases x<;>simp only [Oper.upon,Oper.uponIn] at h ⊢<;>exact h
theorem nw{l n P md ops Q}(D:∀(i:Nat)(o:Oper),ops[i]? =some o->rU o.op=false)(C:¬LetsOut Q):∀(fuel:Nat)(I:Array Bool)(a:Act)(w:af),wpAny P md ops Q fuel I a w->wpAnyIn (Fence.wide.inRound l) n P md ops Q fuel I a w
 |0,_,_,_,h=>h
 |fuel+1,I,a,w,h=>⟨h.1,fun i hi=>by
  have A:=h.2 i hi;unfold wpOp at A;unfold wpOpIn
  cases ho:ops[i]? with
  |none=>
   simp only [ho] at A ⊢;exact nw D C fuel _ _ _ A
  |some o=>
   simp only [ho] at A ⊢
   by_cases J:Region.wanted o (yielded ops a.tmps)=true
   ·rw [if_pos J] at A ⊢
    rcases A with A|⟨_,A⟩
    ·exact Oper.wpIn_mono (fun a w=>nw D C fuel _ a w) (tG (D i o ho) A)
    exact absurd A C
   rw [if_neg J] at A ⊢;exact ⟨fun _ _=>trivial,nw D C fuel _ _ _ A⟩⟩
def QN(Q:Exit->Act->af->Prop):Exit->Act->af->Prop:=fun e a w=>e=.normal/\Q .normal a w
theorem pk{S l id ops Q a}(J:P.follows .mixedOrders=true)(D:(ops.all fun o=> !(rU o.op))=true)(C:S w.drew)(h:S w.drew->wpAnyH P .any ops (QN Q) S ops.size (Array.replicate ops.size false) a w.drew):(Code.region id ops true).wpIn (Fence.wide.inRound l) n P Q a w:=by
 have A:¬LetsOut (QN Q):=by
  rintro ⟨_,_,e,_⟩
  cases e
 have I:∀(i:Nat)(o:Oper),ops[i]? =some o->rU o.op=false:=fun i o ho=>by
  obtain ⟨hi,rfl⟩:=Array.getElem?_eq_some_iff.1 ho
  simpa using Array.all_eq_true.1 D i hi
 exact wpIn_mono (Q:=QN Q) (wpIn_region_any J (nw I A _ _ _ _ (wpAny_of_held _ _ _ _ (h C)))) (fun e a w h=>by rw [h.1];exact h.2)
section
open Go.Shelf
abbrev dU:=@List.getElem?_map
abbrev qt:Obj:=.cells #[.slice none 0 0] 194
def Tx (A:aF:=by
 obtain ⟨k0,k1,k2,k3,k4⟩:=hH;exact ⟨am k0 Tz,am k1 Tz,am k2 Tz,am k3 Tz,am k4 Tz⟩):aF:=A
def Qm (C:aF:=by
 obtain ⟨k0,k1,I,k3,J⟩:=T2;have A:∀(g o:Nat)(v u:ag),g≠g0->w5.cell? ⟨g,o,none⟩=some v->(w5.setCell ⟨g0,N-1,none⟩ u).cell? ⟨g,o,none⟩=some v:=fun g o v u D hv=>(iV (w:=w5) (dP _ _ _ _ D)).trans hv
 exact ⟨A _ _ _ _ E0 k0,A _ _ _ _ E1 k1,A _ _ _ _ E2 I,A _ _ _ _ E2 k3,A _ _ _ _ E2 J⟩):aF:=C
def Qn (D:aF:=by
 clear hK K;refine wpAnyH_done au ?_ _;refine ⟨rfl,?_⟩;have C:=z1 B3.u Qo.u HFR.u T3.u T4.u hil hlt2 HP.u (ak HJ) hmx hN2 HNN.u gw z6 KK;rw [show List.map Subtype.val pre++[((t,Value.slice va vn vc),(r,Value.iface ra rv))]=List.map Subtype.val (pre++[⟨((t,Value.slice va vn vc),(r,Value.iface ra rv)),hx⟩]) by simp] at C;exact C):aF:=D
def KL (A:aF:=by
 obtain ⟨k0,k1,C,k3,D⟩:=hH;exact ⟨gw.cell k0 HN0,gw.cell k1 OB,gw.cell C Rn,gw.cell k3 Rn,gw.cell D Rn⟩):aF:=A
def hT (A:aF:=by
 intro w' C;obtain ⟨k0,k1,D,k3,I⟩:=C
 go_simp
 all_goals with_reducible rfl):aF:=A
def hU(q:cD) (h:QW cD->aF:=by
 intro zq;simp only [Act.put,List.getElem_toArray,List.getElem_cons_zero,List.getElem_cons_succ,fL,List.set_cons_zero,List.set_cons_succ];exact zq.1):aF:=h ⟨q⟩
attribute [local go_sem] Oper.semAt_some
theorem j8{l:Nat}{D:Array Oper}{o:Oper}{a:Act}{Q:Exit->Act->af->Prop}(ad:o.guard=none)(s x:Operand)(t:TypeId)
  (ho:o.op=.call {callee:=.builtin .append,args:=#[s,x],argTypes:=#[t,t]})
  (base:Nat) (e:TypeId) (i:TypeInfo) (z:ag) (size bytes:Nat) (am:P.underlying t=some (.slice e)) (hi:P.info? e=some i) (ap:i.zero=some z)
  (ak:i.size=size) (ab:i.bytes=bytes) (ar:z.cells.size=size) (al:0<size)
  (v:ag) (k:Nat) (C:List ag) (hs:a.eval s=v) (aj:w.ownsRow base e size v k C)
  (A:Addr) (m c:Nat) (h:List ag) (an:a.eval x=.slice (some A) m c) (ae:h.length=m*size) (ai:∀j u,h[j]? =some u->w.cell? (A.add j)=some u) (h1:∀u∈h,u.oneCell'=true)
  (ah:0<m) (U:k+m<=maxLen) (ac:(k+m)*bytes<=140737488355328) (Z:base<=w.heap.size) (H:Nat) (V:w.heap.size=H)
  (I:∀g cap w',w'.ownsRow base e size (.slice (some ⟨g,0,none⟩) (k+m) cap) (k+m) (C++h)->w.grownBy w' v.ownBlock->(v.ownBlock=some g\/g=H)->g<w'.heap.size->wpListIn (Fence.wide.inRound l) n P D Q rest (a.put o.dst (.slice (some ⟨g,0,none⟩) (k+m) cap)) w'):wpListIn (Fence.wide.inRound l) n P D Q (o::rest) a w:=
 wpListIn_plain ad fun _ Y=>tG (by rw [ho];rfl) (wp_append_lies w s x t ho base e i z size bytes am hi ap ak ab ar al v k C hs aj A m c h an ae ai h1 ah U ac Z H V fun g cap w' h2 J O R=>Y _ _ (I g cap w' h2 J O R))
theorem Tryz.infoRu:(Tryz.prog.info? 198).map (fun i=>(i.zero,i.size,i.bytes))=some (some (.agg #[.string ⟨#[]⟩,.int .i64 0,.string ⟨#[]⟩,.nilIface]),4,56):=by kernel_rfl
theorem Tryz.infoRus:(Tryz.prog.info? 196).map (fun i=>(i.zero,i.size,i.bytes))=some (some (.slice none 0 0),1,24):=by kernel_rfl
def Qp(ts:List Ty)(x:It):Nat:=(cF ts [(x.1.1.name,x.2.1.name)]).length
theorem qu(nd):∀(k:Nat)(q f:List Sp),f.length<=(dA nd k q f).length
 |0,_,f=>by simp [dA]
 |k+1,[],f=>by simp [dA]
 |k+1,x::q,f=>by
  unfold dA
  split
  ·exact qu nd k _ f
  exact aL an (qu nd k _ (f++[x]))
theorem Ro(ts x):1<=Qp ts x:=by
 unfold Qp cF;generalize (x.1.1.name,x.2.1.name)=s;obtain ⟨k,C⟩:∃k,eE ts [s]+1=k+1:=⟨_,rfl⟩;rw [C];unfold dA;rw [if_neg an];exact aL an (qu _ _ _ _)
theorem rk_le{tl}(C:MC b w sv ts tl)(x):Qp ts x<=1000001000001:=by
 have h1:=q6 ts [(x.1.1.name,x.2.1.name)];have h2:=qg C [(x.1.1.name,x.2.1.name)] an;unfold Qp;omega
theorem KM{g h:List (List α)}(A:g=h++List.replicate j [])(D:n<=g.length)(C:g.length<=max h.length n):g=fN n h:=by
 subst A;unfold fN;rw [bo,List.length_replicate] at D C;rw [show n-h.length=j by omega]
def KN(w:af)(g:Nat):Nat:=match w.cell? ⟨g,0,none⟩ with
 |some (.slice _ n _)=>n
 |_=>0
theorem z7{a}(h:w.cell? ⟨g,0,none⟩=some (.slice a n c)):KN w g=n:=by unfold KN;rw [h]
structure OC(sb:Nat)(rk:It->Nat)(W0:af)(pre:List It)(W:af)(sv:ag)(ps:List (ag×List It)):Prop where
 but:bI (fun k=>k=sb) W0 W
 blk:aB W sb #[sv] 194
 st:nv W0.heap.size W sv ps
 snd:ps.map Prod.snd=iF rk pre
 len:ps.length<=1000001000001
 inn:∀p∈ps,p.2.length<=pre.length
theorem OC.oth{rk ps}(h:OC sb rk W0 pre W sv ps)(A:W.grownBy W' row)(C:∀r,row=some r->W0.heap.size<=r/\∃o:Obj,W.heap[r]? =some o/\o.isCells=false):OC sb rk W0 pre W' sv ps:=
 ⟨⟨A.os.trans h.but.os,A.tape.trans h.but.tape,A.output.trans h.but.output,aL h.but.size A.size,fun k D hs=>(A.block k (cg D h.but.size) (fun e=>by have:=(C k e.symm).1;omega)).trans (h.but.block k D hs)⟩,
  dF (β:=Unit) W0.heap.size _ _ _ () W W' row h.blk A C,h.st.oth A (fun r e=>(C r e).2),h.snd,h.len,h.inn⟩
theorem OC.below{rk ps}(h:OC sb rk W0 pre W sv ps)(k:Below W.heap.size W W'):OC sb rk W0 pre W' sv ps:=
 ⟨h.but.trans (.of_below k),h.blk.below k,h.st.below k,h.snd,h.len,h.inn⟩
theorem tH{h ps:List (ag×List It)}(A:h.map Prod.snd=ps.map Prod.snd++List.replicate j [])(C:∀p∈ps,p.2.length<=n):∀p∈h,p.2.length<=n:=fun p D=>by
 have h1:p.2∈h.map Prod.snd:=aY.2 ⟨p,D,rfl⟩;rw [A] at h1
 rcases aT.1 h1 with h1|h1
 ·obtain ⟨q,I,e⟩:=aY.1 h1;rw [<-e];exact C q I
 rw [Cu h1];exact gZ _
theorem GV{h ps:List (ag×List It)}{pl:List It}{x:It}(D:N-1<h.length)(C:h[N-1]? =some (pv,pl))(A:h.map Prod.snd=fN N (ps.map Prod.snd)):(h.set (N-1) (v',pl++[x])).map Prod.snd=fO N x (ps.map Prod.snd):=by
 unfold fO;rw [oF,<-A]
 congr 2
 rw [dQ,dU,C]
 rfl
theorem z1{rk w3 sv1 ps KO pl x}(V:Below W.heap.size W w3)(C:OC sb rk W0 pre w3 sv1 ps)(ac:vd sb sv1 ps w3 wr (.slice (some ⟨g0,0,none⟩) KO.length sc) KO)(ab:aB wr sb #[.slice (some ⟨g0,0,none⟩) KO.length sc] 194)(ae:nv W0.heap.size wr (.slice (some ⟨g0,0,none⟩) KO.length sc) KO)(ag:N-1<KO.length)(au:¬KO.length<N)(D:KO[N-1]? =some (pv,pl))(ad:∃j,KO.map Prod.snd=ps.map Prod.snd++List.replicate j [])(ai:KO.length<=max ps.length N)(ap:N<=1000001000001)(am:rk x=N)(R:(wr.alloc o).drew.grownBy w5 pv.ownBlock)(ak:w5.ownsRow W0.heap.size 198 4 (.slice (some ⟨g5,0,none⟩) (pl.length+1) aV) (pl.length+1) (pl.flatMap IC++IC x))(ah:pv.ownBlock=some g5\/g5=wr.heap.size+1):
  KeepsFrom W0.heap.size W (w5.setCell ⟨g0,N-1,none⟩ (.slice (some ⟨g5,0,none⟩) (pl.length+1) aV))/\CK W (w5.setCell ⟨g0,N-1,none⟩ (.slice (some ⟨g5,0,none⟩) (pl.length+1) aV))/\∃sv ps,OC sb rk W0 (pre++[x]) (w5.setCell ⟨g0,N-1,none⟩ (.slice (some ⟨g5,0,none⟩) (pl.length+1) aV)) sv ps:=by
 have O:Below wr.heap.size wr ((wr.alloc o).drew):=((aw _ wr).alloc az o).drew;have J:=ae.below O;have Y:(pv,pl).1.ownBlock=some g5\/(wr.alloc o).drew.heap.size<=g5:=by
  rcases ah with e|e
  ·exact .inl e
  exact .inr aM
 have F:=(ac.trans (vd.below O)).trans (vd.put (sb:=sb) (l:=pl++[x]) (cap:=aV) D R Y (.slice (some ⟨g5,0,none⟩) (pl.length+1) aV));have I:=ab.below O;have af:aB w5 sb _ 194:=(R.block _ I.lt (own_ne (J.inn _ (bx D)) I ar)).trans I;obtain ⟨c1,c2⟩:=F.ck (B:=W0.heap.size) C.st C.blk;obtain ⟨j,Z⟩:=ad;have al:=KM (n:=N) Z (by rw [cK];omega) (by rw [cK,cK];exact ai);have av:=C.len;obtain ⟨an,Q,_⟩:=eD J.row;have aj:sb≠g0:=fun e=>by
  subst e;unfold aB at Q I;rw [I] at Q;simp at Q
 refine ⟨(i8 V).trans c1,(CK.below V).trans c2,_,KO.set (N-1) (.slice (some ⟨g5,0,none⟩) (pl.length+1) aV,pl++[x]),⟨F.outer C.st C.but az,af.other aj _,?_,?_,?_,?_⟩⟩
 ·exact J.put D R ak Y
 ·rw [xM,am,<-C.snd];exact GV ag D al
 ·rw [gK];omega
 ·intro q U;rw [bo];have h2:=tH Z C.inn
  rcases qq U with U|rfl
  ·have:=h2 q U;simp;omega
  have:=h2 _ (bx D);simp at this ⊢;omega
theorem CY{cs'}(A:aB w g cs T)(h:aB w g' cs' T')(C:T≠T'):g≠g':=fun e=>by
 subst e;unfold aB at A h;rw [A] at h
 cases h
 exact C rfl
def Rp(ts:List Ty)(b:Nat)(L:List It)(w:af)(e:Ending)(w':af):Prop:=∃v ps,e=.returned v/\Below w.heap.size w w'/\nv w.heap.size w' v ps/\ps.map Prod.snd=iF (Qp ts) L/\ps.length<=1000001000001/\∀p∈ps,p.2.length<=L.length
theorem GW(b aJ ts tl w)(h:MC b w aJ ts tl)(al:Ty×ag->List (Rl×ag))(bK:Oi b w tl al):
  Calls prog 100 #[.agg #[aJ]] w (Rp ts b (oW al tl) w):=by
 obtain ⟨i0,ci,cr,ct,cu⟩:=bH Tryz.infoRus;obtain ⟨bY,bR,bV,bW,bX⟩:=bH Tryz.infoRu;obtain ⟨R,mn,mc,rfl⟩:=h.form;refine (hP (n:=8)).1 ?_;refine xA func100 rfl trivial ?_ rfl;simp only [ntmps100,qi,List.length_cons,List.length_nil,Nat.reduceAdd,Nat.reduceSub,qj,Array.replicate_zero,qk,ql,List.nil_append,List.cons_append];gi_wp2_with fail;refine ⟨trivial,(hP.2 (km _ _ ⟨_,_,_,rfl⟩)).mono ?_⟩;rintro e w' ⟨rfl,rfl⟩;gi_wp2_with fail;have af:Below w.heap.size w (((w.alloc (aN R mn mc)).alloc qt).alloc (aN R mn mc)):=(((aw _ w).alloc az _).alloc an _).alloc aM _;have bD:aB (((w.alloc (aN R mn mc)).alloc qt).alloc (aN R mn mc)) w.heap.size #[.slice R mn mc] 75:=((aB.new w _ _).alloc _).alloc _;have aK:aB (((w.alloc (aN R mn mc)).alloc qt).alloc (aN R mn mc)) (w.heap.size+1) #[.slice none 0 0] 194:=(aB.new' (w.alloc (aN R mn mc)) _ _ (w.heap.size+1) an).alloc _;have bB:aB (((w.alloc (aN R mn mc)).alloc qt).alloc (aN R mn mc)) (w.heap.size+1+1) #[.slice R mn mc] 75:=aB.new' _ _ _ _ an;have ap:=h.below af;have hF:Oi b (((w.alloc (aN R mn mc)).alloc qt).alloc (aN R mn mc)) tl al:=fun p aQ=>(bK p aQ).below af
 obtain ⟨W0,bM⟩:∃W0,(((w.alloc (aN R mn mc)).alloc qt).alloc (aN R mn mc))=W0:=⟨_,rfl⟩;rw [bM] at af bD aK bB ap hF ⊢;clear bM bK;obtain ⟨L,a5⟩:∃L:List {x:It // u7 b W0 tl x},L.map Subtype.val=oW al tl:=pe _ _ (xC hF);have cH:L.length<=1000000:=by
  have h1:L.length=(oW al tl).length:=by rw [<-a5,cK]
  have h2:(oW al tl).length<=tl.length*1000:=hO _ 1000 tl (fun p aQ=>by have:=(hF p aQ).llen;simpa using this);have bG:tl.length<=1000:=by have:=ap.llen;simpa using this
  omega
 refine wpIn_rangeFunc_ownH (F:=Fence.wide) rfl ar (gf:=208) (lb:=#[.pointer (some ⟨w.heap.size+1+1,0,none⟩)]) rfl trivial (enters_of func208 au rfl)
  (qn b W0 _ ts tl ap al hF _ ar _ bB L a5) (fun h k=>CK.trans h k) (CK.b (w:=W0)) ba (fun _=>rfl)
  (fun pre W=>∃aJ ps,OC (w.heap.size+1) (Qp ts) W0 (pre.map Subtype.val) W aJ ps)
  (fun bF pre W=>False)
  (fun pre X aX row hs aP aD=>by obtain ⟨aJ,ps,h⟩:=hs;exact ⟨aJ,ps,h.oth aP aD⟩)
  (fun bF s X aX row hs aP aD=>hs)
  ⟨.slice none 0 0,[],⟨bI.refl _ _,aK,⟨bN,(fun _ h=>by cases h),List.Pairwise.nil⟩,rfl,an,(fun _ h=>by cases h)⟩⟩
  (fun x a' W=>∃Q,W0.heap.size<=Q/\aB W Q #[.int .i64 x.1.1.1.place,.string x.1.1.1.name,x.1.1.2] 110/\aB W (Q+1) #[.int .i64 x.1.2.1.place,.string x.1.2.1.name,x.1.2.2] 159/\a'={tmps:=#[.agg #[.slice R mn mc],.pointer (some ⟨w.heap.size,0,none⟩),.slice none 0 0,.pointer (some ⟨w.heap.size+1,0,none⟩),.pointer (some ⟨Q,0,none⟩),.pointer (some ⟨Q+1,0,none⟩),undef,.agg #[.slice R mn mc],.func (.func 208) #[] #[.pointer (some ⟨w.heap.size+1+1,0,none⟩)],.agg #[.int .i64 x.1.1.1.place,.string x.1.1.1.name,x.1.1.2],.agg #[.int .i64 x.1.2.1.place,.string x.1.2.1.name,x.1.2.2],undef,undef,undef,undef,undef,undef,undef,undef,undef,undef,undef,undef,undef,undef,undef,undef,undef,undef,undef,undef,undef,undef,undef,undef,undef,undef,undef,undef,undef,undef,undef,undef,undef,undef,undef],defers:=[]})
  (fun x a' _ X aX row hs aP aD=>by
   obtain ⟨Q,h1,h2,bG,ce⟩:=hs;exact ⟨Q,h1,dF (β:=Unit) W0.heap.size _ _ _ () X aX row h2 aP aD,dF (β:=Unit) W0.heap.size _ _ _ () X aX row bG aP aD,ce⟩)
  ?assign ?body ?done ?stop
 case assign=>
  rintro l pre x W K ⟨a9,ps,V⟩ hK;obtain ⟨⟨⟨t,tv⟩,⟨r,cb⟩⟩,hx⟩:=x;obtain ⟨rl,ad,aC⟩:=hx.2;simp only at ad aC hK;obtain ⟨va,vn,vc,rfl⟩:=ad.form;obtain ⟨ra,rv,aO⟩:=(ad.ex _ aC).isI;simp only at aO;subst aO;simp only [Tp];have b1:=(aw _ W).alloc az (bq t.place t.name va vn vc);have bw:=b1.alloc b1.size (cp r.place r.name ra rv);have cl:=V.but.size;gi_wp2_with fail;exact hK _ _ (((xB _ _).trans (xB _ _)).from _) (CK.below bw) ⟨a9,ps,V.below bw⟩ ⟨W.heap.size,cl,(aB.new W _ _).alloc _,aB.new' _ _ _ _ an,rfl⟩
 case body=>
  rintro l pre x a' W hl ⟨rr,aD⟩ ⟨a9,ps,V⟩ ⟨Q,cG,ac,ab,rfl⟩ cN;obtain ⟨⟨⟨t,tv⟩,⟨r,cb⟩⟩,hx⟩:=x;obtain ⟨rl,ad,aC⟩:=hx.2;simp only at ad aC ac ab;obtain ⟨va,vn,vc,rfl⟩:=ad.form;obtain ⟨ra,rv,aO⟩:=(ad.ex _ aC).isI;simp only at aO;subst aO;obtain ⟨t0,t1,t2⟩:=ac.three;obtain ⟨r0,r1,r2⟩:=ab.three;have cB:W.cell? ⟨w.heap.size,0,none⟩=some (.slice R mn mc):=(V.but.blk bD aj).cell rfl;have bT:KT W0 W:=fun g cs T f bf co=>V.but.block g (lt_of_some bf) (fun e=>by
   subst e;unfold aB at aK;rw [aK] at bf
   cases bf
   exact absurd co ar)
  have bs:=ap.kt bT V.but.size;have a6:Below W.heap.size W (W.alloc (hJ t.name r.name)):=ba.alloc az _;have ck:=qg ap [(t.name,r.name)] an;have C:=ai (mF b W.heap.size _ ts tl (.slice (some ⟨W.heap.size,0,none⟩) 1 1) [(t.name,r.name)] _ (bs.below a6) ⟨rfl,.inr ⟨W.heap.size,1,#[.string t.name,.string r.name],rfl,cm _,aB.new W _ _,an,ar,rfl,rfl⟩⟩ a6.size aj);have OB:=ai (Ro ts ((t,.slice va vn vc),(r,.iface ra rv)));have bc:=ai (rk_le ap ((t,.slice va vn vc),(r,.iface ra rv)));change Hid (1<=(cF ts [(t.name,r.name)]).length) at OB;change Hid ((cF ts [(t.name,r.name)]).length<=1000001000001) at bc;generalize bL:(cF ts [(t.name,r.name)]).length=N at*;have HNN:=ai (show Qp ts ((t,.slice va vn vc),(r,.iface ra rv))=N from bL);have cI:=ak OB;have hN2:=ak bc;have ae:=ai V;have bo:=ai ac;have bl:=ai ab;have b0:=ai a6;have cE:=ab.lt;have b6:=ai (show pre.length<=1000000 by omega);clear V ad aC bL ck bs bT a6 ac ab OB bc;gi_wp2_with fail;refine ⟨trivial,(qm l (hP.2 C.u)).mono ?_⟩;rintro e cA ⟨v3,rfl,bP,cj,bU⟩;obtain ⟨cX,cY,rfl⟩:=ay bU;have B3:=ai (b0.u.trans bP);have Qo:=ai (ae.u.below B3.u);have bj:=ai (bo.u.below B3.u);have bi:=ai (bl.u.below B3.u);clear bP cj bU C ae bo bl t0 t1 t2 r0 r1 r2 cB;gi_wp2_with fail
  gi_loopw [22] (fun u wr=>∃aT O,vd (w.heap.size+1) a9 ps cA wr aT O/\aB wr (w.heap.size+1) #[aT] 194/\nv W0.heap.size wr aT O/\Hid (∃j,O.map Prod.snd=ps.map Prod.snd++List.replicate j [])/\O.length<=max ps.length N) (fun u wr=>N-KN wr (w.heap.size+1))
  case atStart=>exact ⟨a9,ps,vd.below ba,Qo.u.blk,Qo.u.st,ai ⟨0,an⟩,aj⟩
  case round=>
   obtain ⟨aT,O,aA,ax,aH,HJ,hmx⟩:=hrel;obtain ⟨sa,sc,rfl⟩:=ay aH.row;have bh:wr.cell? ⟨w.heap.size+1,0,none⟩=some (.slice sa O.length sc):=ax.cell rfl;have sz:=ax.fz;have cP:=Qo.u.len;have cq:W0.heap.size<=wr.heap.size:=by have:=Qo.u.but.size;have:=aA.but.size;omega
   have HFR:=ai aA;have T3:=ai ax;have T4:=ai aH;have cS:=ax.lt
   by_cases hlt2:O.length<N
   ·have cg:(O.length:Int)<(N:Int):=by omega
    have cM:O.length<=1000001000001:=aj;have b4:=ai (z7 bh);clear aA ax aH;gi_wp2_with (gi_at_builtin;go_must (refine j8 rfl _ _ 194 rfl W0.heap.size 196 i0 _ 1 24 underlying194 ci cr ct cu rfl ar (.slice sa O.length sc) O.length (O.map Prod.fst) rfl ?hown ⟨wr.heap.size,0,none⟩ 1 1 [.slice none 0 0] rfl rfl ?hnews ?hone ar ?h63 ?hbytes ?hbase (wr.heap.size+1) ?hH ?hrest))
    case hown=>exact T4.u.row.alloc _
    case hnews=>exact bE (B:=wr.heap.size) (cs:=#[.slice none 0 0]) (t:=196) (fr:=(0,0)) (aB.new _ _ _)
    case hone=>
     intro u aR;simp at aR;subst aR
     rfl
    case h63=>unfold maxLen;omega
    case hbytes=>omega
    case hbase=>simp;omega
    case hH=>simp
    case hrest=>
     intro g5 aV w5 z6 gw KK bQ;have aY:=(aw wr.heap.size wr).alloc az (.cells #[.slice none 0 0] 196);have aW:=T4.u.below aY;have aU:=T3.u.below aY;have av:aB w5 (w.heap.size+1) _ 194:=(gw.block _ aU.lt (own_ne aW.row aU ar)).trans aU;have cx:=av.cell (o:=0) rfl;have cW:=av.fz;have bO:(Value.slice sa O.length sc).ownBlock=some g5\/(wr.alloc (.cells #[.slice none 0 0] 196)).heap.size<=g5:=by
      rcases KK with e|e
      ·exact .inl e
      exact .inr aM
     have b3:=ai ((HFR.u.trans (vd.below aY)).trans (vd.push (sb:=w.heap.size+1) (cap:=aV) aW gw bO (.slice (some ⟨g5,0,none⟩) (O.length+1) aV)));have b9:=ai ((aW.push gw z6).set av ar ar 0 (.slice (some ⟨g5,0,none⟩) (O.length+1) aV));have b2:=ai (av.set 0 (.slice (some ⟨g5,0,none⟩) (O.length+1) aV));have b5:=ai (z7 ((av.set 0 (.slice (some ⟨g5,0,none⟩) (O.length+1) aV)).cell (o:=0) rfl));clear aY aW aU av bO KK z6 gw bh sz;gi_wp2;go_roundw
     case rel=>exact ⟨_,_,b3.u,b2.u,b9.u,by
      obtain ⟨j,bg⟩:=ak HJ;exact ai ⟨j+1,by rw [de,bg,List.replicate_succ'];simp⟩,aM⟩
     case measure=>
      rw [b5.u,b4.u];omega
   have cg:¬((O.length:Int)<(N:Int)):=aj;have hil:N-1<O.length:=aj;obtain ⟨g0,c0,e0,a8⟩:=aZ aH.row (N-1) _ (by rw [dU,aG hil];rfl);simp only [aI,cz] at e0;obtain ⟨rfl,rfl⟩:=e0;have HP:=ai (aG hil);have a7:=aH.inn _ (bu hil);generalize O[N-1]=p at*;obtain ⟨pv,pl⟩:=p;simp only at a8 a7;obtain ⟨pa,pc,rfl⟩:=ay a7;have b8:=ai a7;have cR:=aK.lt;have ac:=aA.but.blk bj.u (fun e=>e.elim (fun e=>aj) (Qo.u.st.off bj.u ar ar));have ab:=aA.but.blk bi.u (fun e=>e.elim (fun e=>aj) (Qo.u.st.off bi.u ar ar));obtain ⟨t0,t1,t2⟩:=ac.three;obtain ⟨r0,r1,r2⟩:=ab.three;have cT:(N:Int)-1=((N-1:Nat):Int):=aj;have cU:IntKind.i64.wrap ((N-1:Nat):Int)=((N-1:Nat):Int):=pR _ ⟨aj,aj⟩;have cJ:(0:Int)<=((N-1:Nat):Int):=aj;have cL:((N-1:Nat):Int)<(O.length:Int):=aj;have bC:=ac;have bz:=ab;clear aA ax aH a7 ac ab;gi_wp2_with fail;refine pk (S:=fun w'=>w'.cell? ⟨w.heap.size+1,0,none⟩=some (.slice (some ⟨g0,0,none⟩) O.length sc)/\w'.cell? ⟨Q,1,none⟩=some (.string t.name)/\w'.cell? ⟨Q+1,0,none⟩=some (.int .i64 r.place)/\w'.cell? ⟨Q+1,1,none⟩=some (.string r.name)/\w'.cell? ⟨Q+1,2,none⟩=some (.iface ra rv)) au au ⟨bh,t1,r0,r1,r2⟩ (fun hH=> ?_);refine bS (i:=0) (v:= ?v0) rfl au au au (fun _ _ _ h=>by cases h.1) (Or.inl ⟨aS,?y0⟩) hH ?r0
   case y0=>
    exact hT
   refine hU ?_;refine bS (i:=1) (v:= ?v1) rfl au au au (fun _ _ _ h=>by cases h.1) (Or.inl ⟨aS,?y1⟩) hH ?r1
   case y1=>
    exact hT
   refine hU ?_;refine bS (i:=2) (v:= ?v2) rfl au au au (fun _ _ _ h=>by cases h.1) (Or.inl ⟨aS,?y2⟩) hH ?r2
   case y2=>
    exact hT
   refine hU ?_;refine bS (i:=3) (v:= ?v3) rfl au au au (fun _ _ _ h=>by cases h.1) (Or.inl ⟨aS,?y3⟩) hH ?r3
   case y3=>
    exact hT
   refine hU ?_;refine bS (i:=4) (v:= ?v4) rfl au au au (fun _ _ _ h=>by cases h.1) (Or.inl ⟨aS,?y4⟩) hH ?r4
   case y4=>
    exact hT
   refine hU ?_;refine bS (i:=5) (v:= ?v5) rfl au au au (fun _ _ _ h=>by cases h.1) (Or.inl ⟨aS,?y5⟩) hH ?r5
   case y5=>
    exact hT
   refine hU ?_;refine bS (i:=6) (v:= ?v6) rfl au au au (fun _ _ _ h=>by cases h.1) (Or.inl ⟨aS,?y6⟩) hH ?r6
   case y6=>
    exact hT
   refine hU ?_;refine bS (i:=8) (v:= ?v8) rfl au au au (fun _ _ _ h=>by cases h.1) (Or.inl ⟨aS,?y8⟩) hH ?r8
   case y8=>
    exact hT
   refine hU ?_;refine bS (i:=9) (v:= ?v9) rfl au au au (fun _ _ _ h=>by cases h.1) (Or.inl ⟨aS,?y9⟩) hH ?r9
   case y9=>
    exact hT
   refine hU ?_;refine bS (i:=10) (v:= ?v10) rfl au au au (fun _ _ _ h=>by cases h.1) (Or.inl ⟨aS,?y10⟩) hH ?r10
   case y10=>
    exact hT
   refine hU ?_;refine bS (i:=11) (v:= ?v11) rfl au au au (fun _ _ _ h=>by cases h.1) (Or.inl ⟨aS,?y11⟩) hH ?r11
   case y11=>
    exact hT
   refine hU ?_;refine bS (i:=12) (v:= ?v12) rfl au au au (fun _ _ _ h=>by cases h.1) (Or.inl ⟨aS,?y12⟩) hH ?r12
   case y12=>
    exact hT
   refine hU ?_;have U:Below wr.heap.size wr (wr.alloc (ko t.name r.place r.name ra rv)).drew:=((aw _ wr).alloc az _).drew;have Tz:Below wr.drew.heap.size wr.drew (wr.alloc (ko t.name r.place r.name ra rv)).drew:=⟨U.os,U.tape,U.output,U.size,U.block⟩;have Z:=aE b8.u U;have bt:=bE (B:=wr.heap.size) (cs:=#[.string t.name,.int .i64 r.place,.string r.name,.iface ra rv]) (t:=198) (fr:=(0,0)) (aB.new wr _ _).drew;have bv:∀u∈IC ((t,.slice va vn vc),(r,.iface ra rv)),u.oneCell'=true:=by
    intro u aR;simp only [IC,bA,fG,fH] at aR
    rcases aR with rfl|rfl|rfl|rfl<;>rfl
   have cO:pl.length<=1000000:=by
    obtain ⟨j,bg⟩:=ak HJ;have:=tH bg Qo.u.inn _ (bx HP.u);have:=b6.u;simp at*;omega
   have bk:pl.length+1<=maxLen:=by unfold maxLen;omega
   have bp:(pl.length+1)*56<=140737488355328:=aj;have bn:W0.heap.size<=(wr.alloc (ko t.name r.place r.name ra rv)).drew.heap.size:=aL cq U.size;have br:(wr.alloc (ko t.name r.place r.name ra rv)).drew.heap.size=wr.heap.size+1:=an;obtain ⟨cC,cf,_⟩:=eD (aE T4.u.row U);have Y:=cf;have E0:=CY (T3.u.below U) Y ar;have E1:=CY (bC.below U) Y ar;have E2:=CY (bz.below U) Y ar;have HN0:=own_ne Z (T3.u.below U) ar;have OB:=own_ne Z (bC.below U) ar;have Rn:=own_ne Z (bz.below U) ar;refine mL (rs:=[7,13]) au an (lF rfl (fun K hK=> ?b7) (lF rfl (fun K hK=> ?b13) mM))
   case b7=>
    try simp only [List.getElem_toArray,List.getElem_cons_zero,List.getElem_cons_succ]
    go_simp
    refine hK.out _ _ hH (fun hH=> ?_);clear hK K
    try simp only [Act.put,List.getElem_toArray,List.getElem_cons_zero,List.getElem_cons_succ,fL,List.set_cons_zero,List.set_cons_succ]
    refine mL (rs:=[13]) au an (lF rfl (fun K hK=> ?_) mM)
    try simp only [List.getElem_toArray,List.getElem_cons_zero,List.getElem_cons_succ]
    go_simp
    refine hK.out _ _ Tx (fun hH=> ?_);clear hK K
    try simp only [Act.put,List.getElem_toArray,List.getElem_cons_zero,List.getElem_cons_succ,fL,List.set_cons_zero,List.set_cons_succ]
    refine mL (rs:=[14]) au an (lF rfl (fun K hK=> ?_) mM);refine iZ _ rfl (.tmp 36) (.tmp 42) 196 rfl W0.heap.size 198 bY _ 4 56 underlying196 bR bV bW bX rfl ar (.slice pa pl.length pc) pl.length (pl.flatMap IC) eW Z ⟨wr.heap.size,0,none⟩ 1 1 (IC ((t,.slice va vn vc),(r,.iface ra rv))) eW rfl bt bv ar bk bp bn (wr.heap.size+1) br ?_;intro g5 aV w5 z6 gw KK bQ;have T2:w5.cell? ⟨w.heap.size+1,0,none⟩=some (.slice (some ⟨g0,0,none⟩) O.length sc)/\w5.cell? ⟨Q,1,none⟩=some (.string t.name)/\w5.cell? ⟨Q+1,0,none⟩=some (.int .i64 r.place)/\w5.cell? ⟨Q+1,1,none⟩=some (.string r.name)/\w5.cell? ⟨Q+1,2,none⟩=some (.iface ra rv):=by
     exact KL
    refine hK.out _ _ T2 (fun hH=> ?_);clear hK K
    try simp only [Act.put,List.getElem_toArray,List.getElem_cons_zero,List.getElem_cons_succ,fL,List.set_cons_zero,List.set_cons_succ]
    refine bS (i:=15) (v:= ?v15a) rfl au au au (fun _ _ _ h=>by cases h.1) (Or.inl ⟨aS,?y15a⟩) hH ?r15a
    case y15a=>
     exact hT
    refine hU ?_;have ah:∃be,aB w5 g0 be 196:=⟨_,(gw.block g0 Y.lt (own_ne Z Y ar)).trans Y⟩;obtain ⟨cd,ah⟩:=ah;have cw:=ah.fz;have cy:w5.cell? ⟨g0,N-1,none⟩=some (.slice pa pl.length pc):=gw.cell (am a8 U) (own_ne Z Y ar);refine mL (rs:=[16]) au an (lF rfl (fun K hK=> ?_) mM)
    try simp only [List.getElem_toArray,List.getElem_cons_zero,List.getElem_cons_succ]
    go_simp
    refine hK.out _ _ ?hS6a (fun _=> ?_)
    case hS6a=>
     exact Qm
    exact Qn
   case b13=>
    try simp only [List.getElem_toArray,List.getElem_cons_zero,List.getElem_cons_succ]
    go_simp
    refine hK.out _ _ Tx (fun hH=> ?_);clear hK K
    try simp only [Act.put,List.getElem_toArray,List.getElem_cons_zero,List.getElem_cons_succ,fL,List.set_cons_zero,List.set_cons_succ]
    refine mL (rs:=[7]) au an (lF rfl (fun K hK=> ?_) mM);have cV:=am a8 U
    try simp only [List.getElem_toArray,List.getElem_cons_zero,List.getElem_cons_succ]
    go_simp
    refine hK.out _ _ hH (fun hH=> ?_);clear hK K
    try simp only [Act.put,List.getElem_toArray,List.getElem_cons_zero,List.getElem_cons_succ,fL,List.set_cons_zero,List.set_cons_succ]
    refine mL (rs:=[14]) au an (lF rfl (fun K hK=> ?_) mM);refine iZ _ rfl (.tmp 36) (.tmp 42) 196 rfl W0.heap.size 198 bY _ 4 56 underlying196 bR bV bW bX rfl ar (.slice pa pl.length pc) pl.length (pl.flatMap IC) eW Z ⟨wr.heap.size,0,none⟩ 1 1 (IC ((t,.slice va vn vc),(r,.iface ra rv))) eW rfl bt bv ar bk bp bn (wr.heap.size+1) br ?_;intro g5 aV w5 z6 gw KK bQ;have T2:w5.cell? ⟨w.heap.size+1,0,none⟩=some (.slice (some ⟨g0,0,none⟩) O.length sc)/\w5.cell? ⟨Q,1,none⟩=some (.string t.name)/\w5.cell? ⟨Q+1,0,none⟩=some (.int .i64 r.place)/\w5.cell? ⟨Q+1,1,none⟩=some (.string r.name)/\w5.cell? ⟨Q+1,2,none⟩=some (.iface ra rv):=by
     exact KL
    refine hK.out _ _ T2 (fun hH=> ?_);clear hK K
    try simp only [Act.put,List.getElem_toArray,List.getElem_cons_zero,List.getElem_cons_succ,fL,List.set_cons_zero,List.set_cons_succ]
    refine bS (i:=15) (v:= ?v15b) rfl au au au (fun _ _ _ h=>by cases h.1) (Or.inl ⟨aS,?y15b⟩) hH ?r15b
    case y15b=>
     exact hT
    refine hU ?_;have ah:∃be,aB w5 g0 be 196:=⟨_,(gw.block g0 Y.lt (own_ne Z Y ar)).trans Y⟩;obtain ⟨cd,ah⟩:=ah;have cw:=ah.fz;have cy:w5.cell? ⟨g0,N-1,none⟩=some (.slice pa pl.length pc):=gw.cell (am a8 U) (own_ne Z Y ar);refine mL (rs:=[16]) au an (lF rfl (fun K hK=> ?_) mM)
    try simp only [List.getElem_toArray,List.getElem_cons_zero,List.getElem_cons_succ]
    go_simp
    refine hK.out _ _ ?hS6b (fun _=> ?_)
    case hS6b=>
     exact Qm
    exact Qn
 case done=>
  rintro bb cZ W bJ rfl ⟨aT,ps,V⟩ hK;obtain ⟨sa,sc,rfl⟩:=ay V.st.row;have cx:W.cell? ⟨w.heap.size+1,0,none⟩=some (.slice sa ps.length sc):=V.blk.cell rfl;have ae:=ai V;have bZ:=ai (af.trans (V.but.below (B:=w.heap.size) af.size (fun g e=>aj)));clear V;gi_wp2;refine ⟨an,.inl ⟨_,_,rfl,run_takeDeferred hK,?_⟩⟩;refine ⟨.slice sa ps.length sc,?_,_,ps,rfl,bZ.u.trans (belowK_b (w:=w) az W bb _ _ (aL af.size bJ) hK rfl rfl),((ae.u.st.oth (tm _ bb (.deferred none)) (fun r e=>by cases e;exact ⟨_,hK,rfl⟩)).base af.size),by rw [<-a5];exact ae.u.snd,ae.u.len,fun p aQ=>by have:=ae.u.inn p aQ;rw [<-a5];exact this⟩;simp [results,Tryz.f100,go_sem]
 case stop=>
  rintro bb bF pre W bJ cQ ch hK;exact ch.elim
end
section
def UB(n:Nat):ag:=.int .u64 n
structure HW(base:Nat)(w:af)(b:Nat)(v:ag)(l:List Nat):Prop where
 blk:aB w b #[v] 389
 row:w.ownsRow base 193 1 v l.length (l.map UB)
 low:base<=b
variable {base:Nat}
theorem HW.below{l}(h:HW base w b v l)(k:Below w.heap.size w w'):HW base w' b v l:=⟨h.blk.below k,aE h.row k,h.low⟩
theorem Tryz.infoSet:(Tryz.prog.info? 193).map (fun i=>(i.zero,i.size,i.bytes))=some (some (.int .u64 0),1,8):=by kernel_rfl
theorem Mb(I:w.ownsRow base e 1 (.slice (some ⟨g,0,none⟩) n cap) n xs)(Y:m<=n):w.ownsRow base e 1 (.slice (some ⟨g,0,none⟩) m cap) m (xs.take m):=by
 obtain ⟨hl,h2⟩:=I
 rcases h2 with ⟨C,_⟩|⟨g',V,D,C,J,R,Z,O,Q,U⟩
 ·simp at C
 simp only [aI,aK,cw,gL,cz] at C;obtain ⟨rfl,rfl⟩:=C;refine ⟨aM,.inr ⟨g,cap,D,rfl,J,R,aj,O,Q,?_⟩⟩;rw [<-U,List.take_take]
 congr 1
 omega
theorem Fo{f:α->ag}{l:List α}(C:w.ownsRow base e 1 v l.length (l.map f))(Y:0<l.length):∃g c,v=.slice (some ⟨g,0,none⟩) l.length c/\l.length<=c/\∀i x,l[i]? =some x->w.cell? ⟨g,i,none⟩=some (f x):=by
 obtain ⟨_,h2⟩:=id C
 rcases h2 with ⟨_,J⟩|⟨g,cap,I,rfl,O,U,D,Q,R,Z⟩
 ·omega
 refine ⟨g,cap,rfl,D,fun i x hi=> ?_⟩;obtain ⟨V,_⟩:=be.1 hi;rw [World.ownsRow.cellAt C i aj,List.getElem?_map,hi]
 rfl
def SkPut(base b:Nat)(v:ag)(l:List Nat)(w:af)(e:Ending)(w':af):Prop:=∃v',e=.returned (.tuple #[])/\nu b v w w' v'/\HW base w' b v' l
def R0(base b:Nat)(v:ag)(l:List Nat)(n:Nat)(w:af)(e:Ending)(w':af):Prop:=∃v',e=.returned (.int .u64 n)/\nu b v w w' v'/\HW base w' b v' l
theorem jU(base b:Nat)(v l)(n:Nat)(w)(C:HW base w b v l)(au:l.length<=100000):
  Calls prog 241 #[.pointer (some ⟨b,0,none⟩),.int .u64 n] w (SkPut base b v (l++[n]) w):=by
 obtain ⟨Q,R,rfl⟩:=ay C.row;have H:=ai C;have c0:w.cell? ⟨b,0,none⟩=some (.slice Q l.length R):=C.blk.cell rfl;have an:=C.blk.lt;have ah:=C.low;have av:¬(b=w.heap.size):=aj;obtain ⟨i0,ag,ak,al,am⟩:=bH Tryz.infoSet;clear C;go_enter func241,ntmps241;go_wp2_with (at_builtin;go_must (refine bD _ rfl _ _ 389 rfl base 193 i0 _ 1 8 underlying389 ag ak al am rfl ar (.slice Q l.length R) l.length (l.map UB) rfl ?hown ⟨w.heap.size,0,none⟩ 1 1 [.int .u64 n] rfl rfl ?hnews ?hone ar ?h63 ?hbytes ?hbase (w.heap.size+1) ?hH ?hrest))
 case hown=>exact H.u.row.alloc _
 case hnews=>exact bE (B:=w.heap.size) (cs:=#[.int .u64 n]) (t:=193) (fr:=(0,0)) (aB.new _ _ _)
 case hone=>
  intro u ab;simp at ab;subst ab
  rfl
 case h63=>unfold maxLen;omega
 case hbytes=>omega
 case hbase=>simp;omega
 case hH=>simp
 case hrest=>
  intro g5 aV w5 Z O Y ap;have V:=H.u.row.alloc (.cells #[.int .u64 n] 193);have D:=H.u.blk.alloc (.cells #[.int .u64 n] 193);have I:aB w5 b _ 389:=(O.block b D.lt (own_ne V D ar)).trans D;have zq:=I.fz;have ax:w5.cell? ⟨b,0,none⟩=some (.slice Q l.length R):=I.cell rfl;have U:=ai I;have ad:=ai O;have ae:=ai Z;have ac:=ai Y;clear V D I Z O Y;go_wp2;go_end0;have af:=(aw w.heap.size w).alloc az (.cells #[.int .u64 n] 193);refine ⟨_,rfl,⟨((bI.of_below af).trans (fM ad.u (fun k J=> .inr J))).set (.inl rfl) _,fun k J=> ?_⟩,⟨U.u.set 0 _,?_,ah⟩⟩
  ·simp only [Value.ownBlock,aK] at J
   rcases ac.u with e|e
   ·exact .inl (by rw [e,J])
   exact .inr aj
  have:=bJ ae.u U.u ar 0 (.slice (some ⟨g5,0,none⟩) (l.length+1) aV);rw [de,bo];exact this
theorem iz(base b v l n w)(C:HW base w b v (l++[n]))(R:l.length<=100000):
  Calls prog 240 #[.pointer (some ⟨b,0,none⟩)] w (R0 base b v l n w):=by
 obtain ⟨g,c,e1,O,hc⟩:=Fo C.row an;have D:(l++[n]).length=l.length+1:=an;rw [D] at e1;subst e1;have k0:w.cell? ⟨g,l.length,none⟩=some (.int .u64 n):=hc l.length n an;have Q:l.length<=c:=aj;have c0:w.cell? ⟨b,0,none⟩=some (.slice (some ⟨g,0,none⟩) (l.length+1) c):=C.blk.cell rfl;have U:=C.blk.fz;have J:=C.low;have H:=ai C;clear C hc;go_enter func240,ntmps240;go_wp2;go_ret;refine ⟨_,rfl,⟨(bI.refl _ w).set (.inl rfl) _,fun k I=> .inl (by simpa [Value.ownBlock] using I)⟩,⟨H.u.blk.set 0 _,?_,J⟩⟩;have h1:=Mb (m:=l.length) (show w.ownsRow base 193 1 (.slice (some ⟨g,0,none⟩) (l.length+1) c) (l.length+1) ((l++[n]).map UB) from by have:=H.u.row;rw [D] at this;exact this) aj;have h2:=bJ h1 H.u.blk ar 0 (.slice (some ⟨g,0,none⟩) l.length c);rw [de,List.take_left' an] at h2;exact h2
theorem Mc(base b:Nat)(v l)(n:Nat)(w)(C:HW base w b v (l++[n]))(J:l.length<=100000):
  Calls prog 245 #[v] w fun e w'=>e=.returned (.int .u64 n)/\w'=w:=by
 obtain ⟨g,c,e1,I,hc⟩:=Fo C.row an;have D:(l++[n]).length=l.length+1:=an;rw [D] at e1;subst e1;have k0:w.cell? ⟨g,l.length,none⟩=some (.int .u64 n):=hc l.length n an;clear C hc;go_enter func245,ntmps245;go_wp2;go_ret;exact ⟨rfl,rfl⟩
end
structure Sj where
 kind:ae
 id:ae
 rel:ae
def Sj.dec(a b:Sj):Decidable (a=b):=decidable_of_iff (a.kind=b.kind/\a.id=b.id/\a.rel=b.rel) ⟨fun h=>by cases a;cases b;simp_all,fun h=>by simp [h]⟩
def uW(s:Sj):ag:=.agg #[.string s.kind,.string s.id,.string s.rel]
def m0(s:Sj):Prop:=s.kind.size<=maxLen/\s.id.size<=maxLen/\s.rel.size<=maxLen
theorem Tryz.laidB:laidOutB prog=true:=by kernel_rfl
theorem Tryz.keyWide:(match Tryz.prog.underlying 102 with|some (.array _ _)|some (.struct _)=>true|_=>false)=true:=by rw [underlying102]
theorem Tryz.keyRow:(102:TypeId)<Tryz.prog.types.size:=of_decide_eq_true au
theorem Tryz.keyAt:Tryz.prog.keyTypeAt 3 102=true:=by kernel_rfl
theorem Tryz.keyLaw:WideMaps.KeyLaw prog 102:=deep_law_laid Tryz.laidB (m:=3) aj Tryz.keyRow Tryz.keyAt Tryz.keyWide
theorem Tryz.keyed:Maps.Keyed prog 102:=Maps.Keyed.of_law Tryz.keyLaw
theorem Tryz.keyType:Tryz.prog.keyType 102=true:=by kernel_rfl
theorem Tryz.cellsSj:Tryz.prog.cellsOf 102=3:=by kernel_rfl
theorem Tryz.cellsTh:Tryz.prog.cellsOf 98=2:=by kernel_rfl
theorem Tryz.cellsStr:Tryz.prog.cellsOf 9=1:=by kernel_rfl
theorem uu(n)(hs:s.size<=maxLen):Tryz.prog.keyLits (n+1) 9 [.string s]=some [.string s.data.toList]:=by
 unfold Program.keyLits;rw [underlying9];simp [hs]
theorem O1(n){a b}(ha:a.size<=maxLen)(h:b.size<=maxLen):Tryz.prog.keyLits (n+2) 98 [.string a,.string b]=some [.string a.data.toList,.string b.data.toList]:=by
 unfold Program.keyLits;rw [underlying98];simp [Tryz.cellsTh,Tryz.cellsStr,uu n ha,uu n h]
theorem O2(n){s}(h:m0 s):Tryz.prog.keyLits (n+3) 102 [.string s.kind,.string s.id,.string s.rel]=some [.string s.kind.data.toList,.string s.id.data.toList,.string s.rel.data.toList]:=by
 unfold Program.keyLits;rw [underlying102];simp [Tryz.cellsSj,Tryz.cellsTh,Tryz.cellsStr,O1 n h.1 h.2.1,uu (n+1) h.2.2]
def Uf(s:Sj):Lit:=.string (keyBytes [.string s.kind.data.toList,.string s.id.data.toList,.string s.rel.data.toList])
theorem uv{s}(C:m0 s):keyOf prog 102 (uW s)=some (Uf s):=by
 have hn:Tryz.prog.types.size+1=(445-2)+3:=by
  have:Tryz.prog.types.size=445:=au;omega
 have D:(uW s).formed prog 102=true:=by simp [uW,Value.formed,underlying102,Tryz.cellsSj]
 unfold keyOf;rw [underlying102];simp only [Tryz.keyType,D,Bool.and_self,if_true,hn];rw [show (uW s).cells.toList=[.string s.kind,.string s.id,.string s.rel] from rfl,O2 _ C]
 rfl
theorem O6{s s'}(h:m0 s)(A:m0 s')(e:Uf s=Uf s'):s=s':=by
 have:=Tryz.keyed.inj (uv h) (by rw [e];exact uv A);simp [uW] at this
 cases s;cases s';simp_all
def pP(w:af)(b n:Nat)(K:Sj->Nat):Prop:=∃h:DataW Unit,w.ownsMap prog 102 (plainElem prog 193) b n h/\Maps.IsMap h/\∀s,m0 s->h.atKey (Uf s) (.lit (.int .u64 0))=.lit (.int .u64 (K s))
def ma(K:Sj->Nat)(s:Sj)(v:Nat):Sj->Nat:=fun x=>@ite _ (x=s) (x.dec s) v (K x)
theorem Md(w:af):pP (w.alloc (.map #[] 0)) w.heap.size 0 (fun _=>0):=⟨.map [],World.ownsMap_made _ _ _ _,Maps.isMap_empty,fun s _=>rfl⟩
theorem pP.lt{K}(h:pP w b n K):b<w.heap.size:=by
 obtain ⟨A,h1,_⟩:=h;exact h1.lt
theorem pP.block{K}(C:pP w b n K)(I:w'.heap[b]? =w.heap[b]?):pP w' b n K:=by
 obtain ⟨h,⟨A,c,h1,D⟩,h2⟩:=C;exact ⟨h,⟨A,c,I.trans h1,D⟩,h2⟩
theorem pP.isMap{K}(A:pP w b n K):∃h c,w.heap[b]? =some (.map h c):=by
 obtain ⟨C,⟨h,c,h1,D⟩,h2⟩:=A;exact ⟨h,c,h1⟩
theorem Me(w):(zeroValue 193).run prog w=.ok (.int .u64 0) w:=by kernel_rfl
theorem pP.look{K}(A:pP w b n K){s}(hs:m0 s):(Instr.lookup 187 (.map (some b)) (uW s) false).run prog w=.ok (.int .u64 (K s)) w:=by
 obtain ⟨I,h1,h2,C⟩:=A;obtain ⟨c,D,h,_⟩:=h1.lookup_int Tryz.keyed underlying187 underlying193 (Me w) (uv hs);rw [C s hs] at h;simp only [DataW.lit.injEq,Lit.int.injEq,cz] at h;rw [D,<-h]
theorem R4{v:Nat}(h:v<18446744073709551616):(Lit.int .u64 (v:Int)).wf=true:=WalkArith.wf_u64 ⟨by omega,by omega⟩
theorem pP.upd{K}(A:pP w b n K)(I:n<maxLen){s}(hs:m0 s){v:Nat}(O:v<18446744073709551616):
  ∃w',(Instr.mapUpdate 187 (.map (some b)) (uW s) (.int .u64 v)).run prog w=.ok () w'/\pP w' b (n+1) (ma K s v)/\w.grownBy w' (some b):=by
 obtain ⟨Q,h1,h2,C⟩:=A;obtain ⟨w',J,ho,D⟩:=h1.update Tryz.keyed underlying187 I (uv hs) (plainElem_int underlying193 (R4 O));refine ⟨w',J,⟨_,ho,h2.put _ _,fun s' h=> ?_⟩,D⟩;unfold ma
 by_cases e:s'=s
 ·subst e;rw [if_pos rfl,Maps.atKey_put_same h2 (Tryz.keyed.key (uv hs))]
 ·rw [if_neg e,Maps.atKey_put_other (fun e'=>e (O6 h hs e')),C s' h]
def ka(ts:List Tu)(k:Nat)(rel:ae):Nat:=match (ts.drop k).findIdx? (fun t=>decide (t.rel=rel)) with
 |some i=>k+i+1
 |none=>0
structure O7(w:af)(tv:ag)(ts:List Tu):Prop where
 row:w.ownsRow 0 123 6 tv ts.length (ts.flatMap jp)
 most:ts.length<=1000
theorem O7.below{ts}(h:O7 w tv ts)(k:Below w.heap.size w w'):O7 w' tv ts:=⟨aE h.row k,h.most⟩
theorem QC{a c:ae}(h:a≠c):(a.toList==c.toList)=false:=by
 rw [<-aJ]
 cases e:eqs a c
 ·rfl
 exact absurd ((bn _ _).1 e) h
theorem QD{a c:ae}(h:a=c):(a.toList==c.toList)=true:=by subst h;simp
theorem DB{ts t}(D:ts[k+j]? =some t)(J:t.rel=rel)(I:∀i,i<j->∀u,ts[k+i]? =some u->u.rel≠rel):ka ts k rel=k+j+1:=by
 have:(ts.drop k).findIdx? (fun t=>decide (t.rel=rel))=some j:=by
  rw [kg];obtain ⟨h1,h2⟩:=be.1 D;refine ⟨aM,by simp [h2,J],fun i hi=> ?_⟩;have C:k+i<ts.length:=aj;have:=I i hi _ (aG C)
  simpa using this
 unfold ka;rw [this]
theorem uw{ts}(A:∀i u,ts[k+i]? =some u->u.rel≠rel):ka ts k rel=0:=by
 have:(ts.drop k).findIdx? (fun t=>decide (t.rel=rel))=none:=by
  rw [n9];intro x C;obtain ⟨i,hi,rfl⟩:=dn C;have h:k+i<ts.length:=by simp at hi;omega
  have:=A i _ (aG h)
  simpa using this
 unfold ka;rw [this]
theorem Mf(kd id rel tv ts k w)(I:O7 w tv ts)(h0:0<ts.length)(av:k<=ts.length):
  Calls prog 242 #[.agg #[.string kd,.string id,tv],.int .i64 k,.string rel] w fun e w'=>e=.returned (.int .i64 (ka ts k rel))/\Below w.heap.size w w':=by
 obtain ⟨g,c,e1,hc⟩:=bi jp 6 (fun _=>rfl) I.row 0 ts[0] (aG h0);subst e1;have ar:ts.length<=c:=by
  rcases I.row.2 with ⟨Z,_⟩|⟨_,_,_,Z,_,_,aL,_⟩
  ·simp at Z
  simp only [aI] at Z;omega
 have aA:=I.most;have H:=ai I;have am:=ai (show ∀j t,ts[k+j]? =some t->w.cell? ⟨g,k*6+j*6,none⟩=some (.string t.kind)/\w.cell? ⟨g,k*6+j*6+1,none⟩=some (.string t.id)/\w.cell? ⟨g,k*6+j*6+2,none⟩=some (.string t.rel)/\w.cell? ⟨g,k*6+j*6+3,none⟩=some (.string t.sub)/\w.cell? ⟨g,k*6+j*6+4,none⟩=some (.string t.who)/\w.cell? ⟨g,k*6+j*6+5,none⟩=some (.string t.of) from fun j t ad=>by
  obtain ⟨g',aD,e',J⟩:=bi jp 6 (fun _=>rfl) I.row (k+j) t ad;rw [Nat.add_mul] at J;simp only [aI,aK,cw,gL,cz] at e';obtain ⟨rfl,rfl⟩:=e';exact ⟨J 0 _ aj rfl,J 1 _ aj rfl,J 2 _ aj rfl,J 3 _ aj rfl,J 4 _ aj rfl,J 5 _ aj rfl⟩)
 have O:g<w.heap.size:=(I.row.lt g rfl).2;obtain ⟨m,U⟩:∃m,ts.length=k+m:=⟨ts.length-k,aj⟩;rw [U] at ar;have V:=ai U;have aE:(k:Int)<=(c:Int):=aj;have aJ:k+m<=1000:=aj;rw [U];clear I hc U aA av h0
 by_cases au:c=k
 ·have ay:m=0:=by omega
  subst ay;have an:=ai (uw (ts:=ts) (k:=k) (rel:=rel) (fun i u D=>by have:=(be.1 D).1;have:=V.u;omega));subst au;go_enter func242,ntmps242;go_wp2_with fail
  go_loopw [14] (fun R wr=>R=.int .i64 0/\Below w.heap.size w wr) (fun _ _=>0)
  case atStart=>exact ⟨rfl,(aw _ w).alloc az _⟩
  case round=>
   obtain ⟨rfl,C⟩:=hrel;go_wp2;go_ret;rw [an.u];exact ⟨rfl,C⟩
 ·go_enter func242,ntmps242;go_wp2_with fail
  go_loopw [14] (fun R wr=>∃j:Nat,j<=m/\R=.int .i64 j/\Below w.heap.size w wr/\Hid (∀i,i<j->∀u,ts[k+i]? =some u->u.rel≠rel)) (fun R _=>m-(intOf R).toNat)
  case atStart=>exact ⟨0,aj,rfl,(aw _ w).alloc az _,ai (fun i hi=>aj)⟩
  case round=>
   obtain ⟨j,ad,rfl,C,Y⟩:=hrel;have ae:=C.size
   by_cases aH:j<m
   ·have ax:(j:Int)<(m:Int):=by omega
    obtain ⟨t,ab⟩:∃t,ts[k+j]? =some t:=⟨_,aG (by have:=V.u;omega)⟩;obtain ⟨k0,k1,af,k3,ag,ah⟩:=am.u j t ab;have aM:=(C.cell (p:=⟨g,_,none⟩) O).trans k0;have aN:=(C.cell (p:=⟨g,_,none⟩) O).trans k1;have aO:=(C.cell (p:=⟨g,_,none⟩) O).trans af;have aP:=(C.cell (p:=⟨g,_,none⟩) O).trans k3;have aQ:=(C.cell (p:=⟨g,_,none⟩) O).trans ag;have aR:=(C.cell (p:=⟨g,_,none⟩) O).trans ah;have ac:=ai ab;clear k0 k1 af k3 ag ah ab
    by_cases Q:t.rel=rel
    ·have aC:=ai Q;have ap:=QD Q;clear Q;go_wp2;go_ret;rw [DB ac.u aC.u (ak Y)];exact ⟨by go_num,C.alloc ae _⟩
    have al:=ai (C.alloc ae (bV t.kind t.id t.rel t.sub t.who t.of));have aB:=ai Q;have ap:=QC Q;clear Q;go_wp2;go_roundw
    case rel=>exact ⟨j+1,aj,by go_num,al.u,ai (fun i hi u D=>by
     by_cases e:i=j
     ·subst e;rw [ac.u] at D
      cases D
      exact aB.u
     exact ak Y i aj u D)⟩
    case measure=>simp [intOf];omega
   have ax:¬((j:Int)<(m:Int)):=aj;go_wp2;go_ret;rw [uw (fun i u D=>ak Y i (by have:=(be.1 D).1;have:=V.u;omega) u D)];exact ⟨rfl,C⟩
abbrev yh:=@Nat.or_lt_two_pow
def Mg (C:aF:=by
 clear HU;go_wp2;go_roundw
 case rel=>exact ⟨j+1,aj,by go_num,by rw [TH.u];exact R5 HL.u aj,Qv.u⟩
 case measure=>simp [intOf];omega):aF:=C
def Mh (A:aF:=by
 rw [show ((2:Int) ^ j)=((2 ^ j:Nat):Int) from by simp];generalize 2 ^ j=x at*;simp [IntKind.wrap,IntKind.bits,IntKind.signed];omega):aF:=A
def Mi (C:aF:=by
 clear HU;go_wp2;go_roundw
 case rel=>exact ⟨j+1,aj,by go_num,by rw [TH.u],Qv.u⟩
 case measure=>simp [intOf];omega):aF:=C
def Mj (A:aF:=by
 clear h0;go_enter func244,ntmps244;go_wp2;go_ret;rw [HE.u];exact ⟨rfl,HB.u⟩):aF:=A
def rM(K:Sj->Nat)(s:Sj)(rel:ae):Nat:=if s.rel.size=0 then K ⟨s.kind,s.id,rel⟩ else 0
theorem QE{c:ae}(h:c.size=0):(c.toList== [])=true:=by rw [aO,dL];exact mq yS
theorem QG{c:ae}(h:¬c.size=0):(c.toList== [])=false:=by
 rw [aO];have:(bW c).length≠0:=by rw [bf];exact h
 revert this
 cases bW c<;>simp
theorem DC(ca ha cn cc hn hc mb n K s rel w)(D:pP w mb n K)(hs:m0 s)(O:rel.size<=maxLen):
  Calls prog 244 #[.agg #[.slice ca cn cc,.slice ha hn hc,.map (some mb)],uW s,.string rel] w fun e w'=>e=.returned (.int .u64 (rM K s rel))/\Below w.heap.size w w':=by
 have C:=((aw w.heap.size w).alloc az (.cells #[.slice ca cn cc,.slice ha hn hc,.map (some mb)] 189)).alloc an (b8 s.kind s.id s.rel);have HB:=ai C;have I:=(D.block (C.block mb D.lt)).look (s:=⟨s.kind,s.id,rel⟩) ⟨hs.1,hs.2.1,O⟩;unfold uW at I ⊢;clear C
 by_cases h0:s.rel.size=0
 ·have J:=QE h0;have HE:=ai (show rM K s rel=K ⟨s.kind,s.id,rel⟩ from if_pos h0);exact Mj
 ·have J:=QG h0;have HE:=ai (show rM K s rel=0 from if_neg h0);exact Mj
structure Tg where
 kind:ae
 id:ae
def yM(w:af)(v:ag)(cs:List Tg):Prop:=∃g o c,v=.slice (some ⟨g,o,none⟩) cs.length c/\g<w.heap.size/\cs.length<=64/\∀i x,cs[i]? =some x->w.cell? ⟨g,o+i*2,none⟩=some (.string x.kind)/\w.cell? ⟨g,o+i*2+1,none⟩=some (.string x.id)
theorem yM.below{cs}(A:yM w v cs)(k:Below w.heap.size w w'):yM w' v cs:=by
 obtain ⟨g,o,c,h1,h2,C,h⟩:=A;exact ⟨g,o,c,h1,cg h2 k.size,C,fun i x hi=>⟨(k.cell (p:=⟨g,_,none⟩) h2).trans (h i x hi).1,(k.cell (p:=⟨g,_,none⟩) h2).trans (h i x hi).2⟩⟩
def AW(a c:Tg):Bool:=eqs a.kind c.kind&&eqs a.id c.id
def lQ(s:Sj)(t:Tg):Bool:=AW t ⟨s.kind,s.id⟩||((s.id.toList== [42])&&(t.kind.toList==s.kind.toList))
def eO(p:Tg->Bool)(cs:List Tg):Nat->Nat
 |0=>0
 |j+1=>match cs[j]? with
  |some t=>if p t then eO p cs j|||2 ^ j else eO p cs j
  |none=>eO p cs j
theorem qI(p cs):∀j,j<=64->eO p cs j<18446744073709551616
 |0,_=>by show 0<18446744073709551616;decide
 |j+1,h=>by
  have C:=qI p cs j aj;have h2:2 ^ j<18446744073709551616:=Nat.pow_lt_pow_right aj (show j<64 by omega);unfold eO
  split
  ·split
   ·exact yh (n:=64) C h2
   exact C
  exact C
theorem R5(C:B<18446744073709551616)(D:j<64):Value.int .u64 (bits .or .u64 (B:Int) (IntKind.u64.wrap (2 ^ j)))=.int .u64 ((B|||2 ^ j:Nat):Int):=by
 have h2:2 ^ j<18446744073709551616:=Nat.pow_lt_pow_right aj (show j<64 by omega);have e:IntKind.u64.wrap ((2:Int) ^ j)=((2 ^ j:Nat):Int):=by
  exact Mh
 rw [e,u64_or_nat _ _ C h2]
def jd(K:Sj->Nat)(cs:List Tg)(s:Sj):Nat:=if s.rel.size=0 then eO (lQ s) cs cs.length else K s
theorem Fp(a c w):(Op.equalIn 10000 98 (.agg #[.string a.kind,.string a.id]) (.agg #[.string c.kind,.string c.id])).run prog w=.ok (AW a c) w:=by
 have C:=underlying9;rw [show (10000:Nat)=9999+1 from rfl,run_equalIn_agg w 9999 98 _ _ au au];simp only [Program.fieldsOf,underlying98]
 go_simp
 have e:∀p q:ae,eqs p q=decide (p.toList=q.toList):=fun p q=>by
  unfold eqs;rw [aO,aO,Bool.beq_eq_decide_eq]
 simp only [AW,e]
 (repeat' split)<;>simp_all
theorem Fq(x y xs ys w):(eqGuard .eql 98 x y (.agg xs) (.agg ys)).run prog w=.ok () w:=run_eqGuard_agg w .eql 98 x y xs ys au
theorem HY(cv cs ha hn hc mb n K s w)(V:pP w mb n K)(am:yM w cv cs)(hs:m0 s):
  Calls prog 243 #[.agg #[cv,.slice ha hn hc,.map (some mb)],uW s] w fun e w'=>e=.returned (.int .u64 (jd K cs s))/\Below w.heap.size w w':=by
 obtain ⟨g,o,c,rfl,af,hl,ae⟩:=am;have Q:=((aw w.heap.size w).alloc az (.cells #[.slice (some ⟨g,o,none⟩) cs.length c,.slice ha hn hc,.map (some mb)] 189)).alloc an (b8 s.kind s.id s.rel);have I:=ai Q;have ad:=(V.block (Q.block mb V.lt)).look hs;unfold uW at ad ⊢
 by_cases h0:s.rel.size=0
 ·have au:=QE h0;have O:=ai (show jd K cs s=eO (lQ s) cs cs.length from if_pos h0);have ab:=ai (aB.new' (w.alloc (.cells #[.slice (some ⟨g,o,none⟩) cs.length c,.slice ha hn hc,.map (some mb)] 189)) #[.string s.kind,.string s.id,.string s.rel] 102 (w.heap.size+1) an);have ak:=ai ae;have ay:=Fq;clear h0 ad Q ae V;go_enter func243,ntmps243;go_wp2_with fail;generalize ((w.alloc (.cells #[.slice (some ⟨g,o,none⟩) cs.length c,.slice ha hn hc,.map (some mb)] 189)).alloc (b8 s.kind s.id s.rel))=W at*
  go_loopw [5,18] (fun ax Z wr=>∃j:Nat,j<=cs.length/\Z=.int .i64 j/\ax=.int .u64 (eO (lQ s) cs j)/\Below W.heap.size W wr) (fun _ Z _=>cs.length-(intOf Z).toNat)
  case atStart=>exact ⟨0,aj,rfl,rfl,aw _ _⟩
  case round=>
   obtain ⟨j,aC,rfl,rfl,D⟩:=hrel;have av:=D.size;obtain ⟨aE,aH,aI⟩:=three (ab.u.below D);have aA:=(ab.u.below D).lt;have aD:¬(w.heap.size+1=wr.heap.size):=aj
   by_cases ar:j<cs.length
   ·have ap:(j:Int)<(cs.length:Int):=by omega
    obtain ⟨x,Y⟩:∃x,cs[j]? =some x:=⟨_,aG ar⟩;obtain ⟨ag,ah⟩:=ak.u j x Y;have U:=I.u.trans (D.mono I.u.size);have aJ:=(U.cell (p:=⟨g,_,none⟩) af).trans ag;have aK:=(U.cell (p:=⟨g,_,none⟩) af).trans ah;have al:=fun w'=>Fp x ⟨s.kind,s.id⟩ w'
    have HU:=ai (show eO (lQ s) cs (j+1)=if lQ s x then eO (lQ s) cs j|||2 ^ j else eO (lQ s) cs j from by rw [eO];simp only [Y]);have HL:=ai (qI (lQ s) cs j aj);have Qv:=ai (D.alloc av (df x.kind x.id));clear ag ah U D Y;dsimp only at al;generalize eO (lQ s) cs j=B at*
    cases J:AW x ⟨s.kind,s.id⟩
    ·cases R:(s.id.toList== [42])
     ·have TH:=ai (show eO (lQ s) cs (j+1)=B from by rw [HU.u];simp [lQ,J,R]);exact Mi
     cases ac:(x.kind.toList==s.kind.toList)
     ·have TH:=ai (show eO (lQ s) cs (j+1)=B from by rw [HU.u];simp [lQ,J,R,ac]);exact Mi
     have TH:=ai (show eO (lQ s) cs (j+1)=B|||2 ^ j from by rw [HU.u];simp [lQ,J,R,ac]);exact Mg
    have TH:=ai (show eO (lQ s) cs (j+1)=B|||2 ^ j from by rw [HU.u];simp [lQ,J]);exact Mg
   have ap:¬((j:Int)<(cs.length:Int)):=aj;have e:j=cs.length:=aj;subst e;go_wp2;go_ret;rw [O.u];exact ⟨rfl,I.u.trans (D.mono I.u.size)⟩
 ·have au:=QG h0;have O:=ai (show jd K cs s=K s from if_neg h0);clear h0;go_enter func243,ntmps243;go_wp2;go_ret;rw [O.u];exact ⟨rfl,I.u⟩
def Fs (A:aF:=by
 simp [iP];omega):aF:=A
def AX (A:aF:=by
 simp [gE]):aF:=A
def gx(t:Tu):Sj:=⟨t.sub,t.who,t.of⟩
def pE(a b:Nat):Nat:=a&&& (18446744073709551615-b)
structure Mk where
 at_:Nat
 tup:Nat
 st:List Nat
structure Ml where
 K:Sj->Nat
 cs:List Tg
 kd:ae
 id:ae
 ts:List Tu
def iP(v:Ml)(i:Ins)(s:Mk):Option Mk:=
 if 50000<s.st.length then none else
 match i.does,s.st with
 |1,st=>some ⟨s.at_+1,s.tup,0::st⟩
 |2,st=>some ⟨s.at_+1,s.tup,v.K ⟨v.kd,v.id,i.rel⟩::st⟩
 |3,st=>some ⟨if ka v.ts s.tup i.rel=0 then i.to else s.at_+1,ka v.ts s.tup i.rel,st⟩
 |4,st=>if 0<s.tup then (v.ts[s.tup-1]?).map fun t=>⟨s.at_+1,s.tup,jd v.K v.cs (gx t)::st⟩ else none
 |5,st=>if 0<s.tup then (v.ts[s.tup-1]?).map fun t=>⟨s.at_+1,s.tup,rM v.K (gx t) i.rel::st⟩ else none
 |6,b::a::st=>some ⟨s.at_+1,s.tup,(b|||a)::st⟩
 |7,b::a::st=>some ⟨s.at_+1,s.tup,(b&&& a)::st⟩
 |8,b::a::st=>some ⟨s.at_+1,s.tup,pE a b::st⟩
 |9,b::st=>some ⟨if b=0 then i.to else s.at_+1,s.tup,b::st⟩
 |10,st=>some ⟨i.to,s.tup,st⟩
 |_,_=>none
def AY(v:Ml)(code:List Ins)(s:Mk):Option Mk:=(code[s.at_]?).bind fun i=>iP v i s
def jV(v:Ml)(code:List Ins):Nat->Mk->Option Mk
 |0,s=>some s
 |n+1,s=>(AY v code s).bind (jV v code n)
theorem AZ(v code):∀n m s,jV v code (n+m) s=(jV v code n s).bind (jV v code m)
 |0,m,s=>by simp [jV]
 |n+1,m,s=>by
  rw [show n+1+m=(n+m)+1 by omega,jV,jV]
  cases h:AY v code s with
  |none=>rfl
  |some s'=>simp only [Option.bind_some];exact AZ v code n m s'
def Goes(v:Ml)(code:List Ins)(s s':Mk):Prop:=∃n,jV v code n s=some s'
variable {code:List Ins}
theorem Goes.trans{v a b c}(h:Goes v code a b)(k:Goes v code b c):Goes v code a c:=by
 obtain ⟨n,hn⟩:=h;obtain ⟨m,A⟩:=k;exact ⟨n+m,by rw [AZ,hn];exact A⟩
theorem Goes.one{v s s' i}(hi:code[s.at_]? =some i)(h:iP v i s=some s'):Goes v code s s':=⟨1,by
 rw [jV,AY,hi,Option.bind_some,h]
 rfl⟩
def A1:Ex->Prop
 |⟨_,some x,some y⟩=>A1 x/\A1 y
 |⟨_,none,_⟩=>True
 |⟨_,some _,none⟩=>False
def iQ(ts:List Tu)(r:ae)(f:Tu->Nat)(a:Nat):Nat:=(ts.filter fun t=>decide (t.rel=r)).foldl (fun a t=>f t|||a) a
def dH(v:Ml)(rel:ae):Ex->Nat
 |⟨n,some x,some y⟩=>if n.kind=3 then dH v rel y|||dH v rel x else if dH v rel x=0 then 0 else if n.kind=4 then dH v rel y&&& dH v rel x else pE (dH v rel x) (dH v rel y)
 |⟨n,none,_⟩=>if n.kind=0 then iQ v.ts rel (fun t=>jd v.K v.cs (gx t)) 0 else if n.kind=1 then v.K ⟨v.kd,v.id,n.n1⟩ else iQ v.ts n.n1 (fun t=>rM v.K (gx t) n.n2) 0
 |⟨_,some _,none⟩=>0
theorem wA{α:Type}{p:α->Bool}:∀{l:List α} {i:Nat},l.findIdx? p=some i->∃x,l[i]? =some x/\l.filter p=x::(l.drop (i+1)).filter p
 | [],i,h=>by simp at h
 |y::l,i,h=>by
  rw [List.findIdx?_cons] at h
  by_cases A:p y=true
  ·rw [if_pos A] at h
   cases h
   exact ⟨y,rfl,by rw [List.filter_cons_of_pos A];rfl⟩
  rw [if_neg A] at h
  cases hl:l.findIdx? p with
  |none=>rw [hl] at h;simp at h
  |some j=>
   rw [hl] at h;simp only [Option.map_some,aK] at h;subst h;obtain ⟨x,h1,h2⟩:=wA hl;exact ⟨x,h1,by rw [List.filter_cons_of_neg A,h2];rfl⟩
theorem HZ{ts r f}:(ka ts k r=0->iQ (ts.drop k) r f a=a)/\(∀m,ka ts k r=m+1->k<=m/\∃t,ts[m]? =some t/\iQ (ts.drop k) r f a=iQ (ts.drop (m+1)) r f (f t|||a)):=by
 unfold ka
 cases C:(ts.drop k).findIdx? (fun t=>decide (t.rel=r)) with
 |none=>
  refine ⟨fun _=> ?_,fun m D=>by simp at D⟩;rw [n9] at C;unfold iQ;rw [List.filter_eq_nil_iff.2 (fun x J=>by simpa using C x J)]
  rfl
 |some i=>
  refine ⟨fun h0=>by simp at h0,fun m D=> ?_⟩;have I:m=k+i:=by simp at D;omega
  subst I;obtain ⟨x,h1,h2⟩:=wA C;rw [wV] at h1;refine ⟨aj,x,h1,?_⟩;unfold iQ;rw [h2,mo,List.foldl_cons,te]
theorem Mm(ts k r):ka ts k r<=ts.length:=by
 unfold ka
 split
 ·rename_i i h;have:=(kg.1 h).1;simp at this;omega
 omega
section
variable {v:Ml}{code:List Ins}
theorem H0(m r each f st)(Y:st.length<40000)(h1:code[m+1]? =some ⟨3,r,m+5⟩)(h2:code[m+2]? =some each)(D:code[m+3]? =some ⟨6,⟨#[]⟩,0⟩)(I:code[m+4]? =some ⟨10,⟨#[]⟩,m+1⟩)(O:∀k t a,0<k->v.ts[k-1]? =some t->iP v each ⟨m+2,k,a::st⟩=some ⟨m+3,k,f t::a::st⟩):
  ∀d k a,v.ts.length-k=d->k<=v.ts.length->Goes v code ⟨m+1,k,a::st⟩ ⟨m+5,0,iQ (v.ts.drop k) r f a::st⟩:=by
 intro d
 induction d using Nat.strongRecOn with
 |_ d ih=>
  intro k a Q R;have G:=HZ (ts:=v.ts) (r:=r) (f:=f) (k:=k) (a:=a)
  cases hn:ka v.ts k r with
  |zero=>
   rw [G.1 hn];exact Goes.one h1 (by simp [iP,hn];omega)
  |succ q=>
   obtain ⟨U,t,C,J⟩:=G.2 q hn;have V:=(be.1 C).1;rw [J];refine (Goes.one (s':=⟨m+2,q+1,a::st⟩) h1 (by simp [iP,hn];omega)).trans ?_;refine (Goes.one h2 (O (q+1) t a aj (by simpa using C))).trans ?_;refine (Goes.one (s':=⟨m+4,q+1,(f t|||a)::st⟩) D Fs).trans ?_;refine (Goes.one (s':=⟨m+1,q+1,(f t|||a)::st⟩) I Fs).trans ?_;exact ih (v.ts.length-(q+1)) aj (q+1) _ rfl aj
def Seg(code:List Ins)(m:Nat)(l:List Ins):Prop:=∀i,i<l.length->code[m+i]? =l[i]?
theorem Seg.left{l1 l2}(C:Seg code m (l1++l2)):Seg code m l1:=fun i hi=>by
 rw [C i EY,qc hi]
theorem Seg.right{l1 l2}(C:Seg code m (l1++l2)):Seg code (m+l1.length) l2:=fun i hi=>by
 rw [te,C (l1.length+i) EY,s9 aj]
 congr 1
 omega
theorem Seg.head{x l}(C:Seg code m (x::l)):code[m]? =some x:=by simpa using C 0 an
theorem kU(rel):∀(e:Ex),A1 e->∀(m:Nat)(st:List Nat),Seg code m (aW rel m e)->st.length+(aW rel m e).length<40000->Goes v code ⟨m,0,st⟩ ⟨m+(aW rel m e).length,0,dH v rel e::st⟩
 |⟨n,some x,some y⟩,hw,m,st,hc,hl=>by
  unfold A1 at hw;obtain ⟨U,V⟩:=hw;unfold aW at hc hl ⊢;unfold dH
  by_cases C:n.kind=3
  ·rw [if_pos C] at hc hl;rw [if_pos C,if_pos C];simp only [bo,List.length_singleton] at hl ⊢;have X:=kU rel x U m st hc.left.left aj;have J:=kU rel y V (m+(aW rel m x).length) (dH v rel x::st) hc.left.right aM;have D:=hc.right.head;rw [bo] at D;refine X.trans (J.trans ?_);rw [show m+((aW rel m x).length+(aW rel (m+(aW rel m x).length) y).length+1)=m+(aW rel m x).length+(aW rel (m+(aW rel m x).length) y).length+1 by omega];exact Goes.one (by rw [te];exact D) Fs
  rw [if_neg C] at hc hl;rw [if_neg C,if_neg C];simp only [bo,List.length_singleton] at hl ⊢;have X:=kU rel x U m st hc.left.left.left aj;have S:=hc.left.left.right.head;have R:=hc.left.right;rw [bo,List.length_singleton,<-te] at R;have J:=kU rel y V (m+(aW rel m x).length+1) (dH v rel x::st) R aM;have D:=hc.right.head;simp only [bo,List.length_singleton] at D;refine X.trans ?_
  by_cases h0:dH v rel x=0
  ·rw [if_pos h0];refine Goes.one S ?_;simp [iP,h0];omega
  rw [if_neg h0];refine (Goes.one (s':=⟨m+(aW rel m x).length+1,0,dH v rel x::st⟩) S (by simp [iP,h0];omega)).trans (J.trans ?_);rw [show m+((aW rel m x).length+1+(aW rel (m+(aW rel m x).length+1) y).length+1)=m+(aW rel m x).length+1+(aW rel (m+(aW rel m x).length+1) y).length+1 by omega];refine Goes.one (by rw [show m+(aW rel m x).length+1+(aW rel (m+(aW rel m x).length+1) y).length=m+((aW rel m x).length+1+(aW rel (m+(aW rel m x).length+1) y).length) by omega];exact D) ?_
  by_cases I:n.kind=4
  ·simp [iP,I];omega
  simp [iP,I];omega
 |⟨n,none,r⟩,hw,m,st,hc,hl=>by
  unfold aW at hc hl ⊢;unfold dH;have Y:∀(r:ae)(each:Ins)(f:Tu->Nat),Seg code m (gE m r each)->st.length+5<40000->(∀k t a,0<k->v.ts[k-1]? =some t->iP v each ⟨m+2,k,a::st⟩=some ⟨m+3,k,f t::a::st⟩)->Goes v code ⟨m,0,st⟩ ⟨m+5,0,iQ v.ts r f 0::st⟩:=by
   intro r each f hs hl Z;have h0:=hs 0 AX;have h1:=hs 1 AX;have h2:=hs 2 AX;have C:=hs 3 AX;have I:=hs 4 AX;refine (Goes.one (s':=⟨m+1,0,0::st⟩) h0 Fs).trans ?_;exact H0 m r each f st aj h1 h2 C I Z _ 0 0 rfl aj
  by_cases h0:n.kind=0
  ·rw [if_pos h0] at hc hl;rw [if_pos h0,if_pos h0];exact Y rel ⟨4,⟨#[]⟩,0⟩ _ hc (by simpa [gE] using hl) (fun k t a O Q=>by simp [iP,O,Q];simp [gE] at hl;omega)
  rw [if_neg h0] at hc hl;rw [if_neg h0,if_neg h0]
  by_cases h1:n.kind=1
  ·rw [if_pos h1] at hc hl;rw [if_pos h1,if_pos h1];exact Goes.one hc.head (by simp at hl;simp [iP];omega)
  rw [if_neg h1] at hc hl;rw [if_neg h1,if_neg h1];exact Y n.n1 ⟨5,n.n2,0⟩ _ hc (by simpa [gE] using hl) (fun k t a O Q=>by simp [iP,O,Q];simp [gE] at hl;omega)
 |⟨n,some x,none⟩,hw,m,st,hc,hl=>by
  unfold A1 at hw;exact hw.elim
theorem H1(rel e)(A:A1 e)(h:(aW rel 0 e).length<40000):Goes v (fZ rel e) ⟨0,0,[]⟩ ⟨(aW rel 0 e).length,0,[dH v rel e]⟩:=by
 have:=kU (v:=v) (code:=fZ rel e) rel e A 0 [] (fun i hi=>by unfold fZ;rw [Nat.zero_add,qc hi]) (by simpa using h)
 simpa using this
theorem Mn(rel e):(fZ rel e)[(aW rel 0 e).length]? =some ⟨0,⟨#[]⟩,0⟩:=by
 unfold fZ;rw [s9 aj];simp
end
section
abbrev m1(a0:ae)(a1:ae)(a2:Option Addr)(a3:Nat)(a4:Nat):Obj:=.cells #[.string a0,.string a1,.slice a2 a3 a4] 282
def Ft (A:aF:=by
 simpa using HJ.u.sk.below BA.u):aF:=A
def nU (A:aF:=by
 simp at hsl ⊢;omega):aF:=A
def nV (A:aF:=by
 simpa using hs):aF:=A
def kw (C:aF:=by
 exact ⟨rfl,r,aj,_,_,_,_,ak HIT,rfl,rfl,ak J1⟩):aF:=C
theorem pF{P:Nat->Prop}(A:∃r,P r):∃r,P r/\∀h,h<r->¬P h:=by
 obtain ⟨r,C⟩:=A
 induction r using Nat.strongRecOn with
 |_ r ih=>
  by_cases A:∃h,h<r/\P h
  ·obtain ⟨h,h1,h2⟩:=A;exact ih h h1 h2
  exact ⟨r,C,fun h h1 h2=>A ⟨h,h1,h2⟩⟩
open Classical in
theorem A6{a:Act}{Q:Exit->Act->af->Prop}{c rest:Code}(l:Nat)(A:Nat->Act->af->Prop)(O:findLabel c l=some (.seq .skip rest))
  (J:∀r a w,A r a w->rest.wp P (Exit.jump l (fun a' w'=>∃h,h<r/\A h a' w') Q) a w)
  (first:(∀r a w,A r a w->rest.wp P (Exit.jump l (fun a w=>∃r,A r a w) Q) a w)->c.wp P (Exit.jump l (fun a w=>∃r,A r a w) Q) a w):(Code.scope c).wp P Q a w:=by
 refine wp_scope_jumps l (fun a w=>∃r,A r a w) (fun a w=>if C:∃r,A r a w then Classical.choose (pF C) else 0) O (first fun r a w C=>wp_mono (J r a w C) (fun e a' w' q=>by
  cases e<;>try exact q
  obtain ⟨h1,h,_,D⟩:=q;exact ⟨h1,h,D⟩)) ?_
 intro a w C;have hs:=Classical.choose_spec (pF C);refine wp_seq (wp_skip ?_);refine wp_mono (J _ a w hs.1) (fun e a' w' q=> ?_)
 cases e<;>try exact q
 obtain ⟨h1,h,h2,D⟩:=q;refine ⟨h1,⟨h,D⟩,?_⟩;have I:∃r,A r a' w':=⟨h,D⟩;rw [dif_pos I,dif_pos C];have R:=Classical.choose_spec (pF I);have:¬h<Classical.choose (pF I):=fun e=>R.2 h e D
 omega
structure pQ(w:af)(ca ha ta:Option Addr)(cn cc hn hc tn tc mb:Nat)(v:Ml)(s:Mk)(sv:ag)(wr:af):Prop where
 bel:Below w.heap.size w wr
 kn:aB wr w.heap.size #[.slice ca cn cc,.slice ha hn hc,.map (some mb)] 189
 ho:aB wr (w.heap.size+1) #[.string v.kd,.string v.id,.slice ta tn tc] 282
 sk:HW w.heap.size wr (w.heap.size+2) sv s.st.reverse
 tup:s.tup<=v.ts.length
 bits:∀x∈s.st,x<18446744073709551616
theorem us94(us)(h:us.length=94):∃u:Nat->ag,us=[u 0,u 1,u 2,u 3,u 4,u 5,u 6,u 7,u 8,u 9,u 10,u 11,u 12,u 13,u 14,u 15,u 16,u 17,u 18,u 19,u 20,u 21,u 22,u 23,u 24,u 25,u 26,u 27,u 28,u 29,u 30,u 31,u 32,u 33,u 34,u 35,u 36,u 37,u 38,u 39,u 40,u 41,u 42,u 43,u 44,u 45,u 46,u 47,u 48,u 49,u 50,u 51,u 52,u 53,u 54,u 55,u 56,u 57,u 58,u 59,u 60,u 61,u 62,u 63,u 64,u 65,u 66,u 67,u 68,u 69,u 70,u 71,u 72,u 73,u 74,u 75,u 76,u 77,u 78,u 79,u 80,u 81,u 82,u 83,u 84,u 85,u 86,u 87,u 88,u 89,u 90,u 91,u 92,u 93]:=by
 refine ⟨fun k=>us.getD k undef,?_⟩;have e:us=(List.range 94).map (fun k=>us.getD k undef):=by
  refine List.ext_getElem (by simp [h]) fun i h1 h2=> ?_
  simp [dQ,aG h1]
 generalize (fun k=>us.getD k undef)=u at*;rw [e]
 rfl
def H2(w:af)(ca h ha ta:Option Addr)(cn cc il A hn hc tn tc mb:Nat)(v:Ml)(s:Mk)(C:ag)(us:List ag):Act:={tmps:=(.agg #[.slice ca cn cc,.slice ha hn hc,.map (some mb)]:: .slice h il A:: .agg #[.string v.kd,.string v.id,.slice ta tn tc]:: .pointer (some ⟨w.heap.size,0,none⟩)::C:: .pointer (some ⟨w.heap.size+1,0,none⟩):: .int .u64 0:: .pointer (some ⟨w.heap.size+2,0,none⟩):: .int .i64 s.at_:: .int .i64 s.tup::us).toArray,defers:=[]}
variable {base:Nat}
theorem HW.bel{D:ag}{l:List Nat}(h:HW base w b sv l)(k:nu b sv w w' D):Below base w w':=by
 exact Kz
section
variable {w wr wa w1:af}{ca ha ta:Option Addr}{cn cc hn hc tn tc mb:Nat}{v:Ml}{s s':Mk}{sv uU:ag}
theorem pQ.below(h:pQ w ca ha ta cn cc hn hc tn tc mb v s sv wr)(k:Below wr.heap.size wr wa):pQ w ca ha ta cn cc hn hc tn tc mb v s sv wa:=
 ⟨h.bel.trans (k.mono h.bel.size),h.kn.below k,h.ho.below k,h.sk.below k,h.tup,h.bits⟩
theorem pQ.push(C:pQ w ca ha ta cn cc hn hc tn tc mb v s sv wa)(f:nu (w.heap.size+2) sv wa w1 uU)(hs:HW w.heap.size w1 (w.heap.size+2) uU s'.st.reverse)(I:s'.tup<=v.ts.length)(D:∀x∈s'.st,x<18446744073709551616):pQ w ca ha ta cn cc hn hc tn tc mb v s' uU w1:=
 ⟨C.bel.trans (C.sk.bel f),f.blk C.kn aj (fun e=>own_ne C.sk.row C.kn ar e.symm),f.blk C.ho aj (fun e=>own_ne C.sk.row C.ho ar e.symm),hs,I,D⟩
theorem pQ.same(h:pQ w ca ha ta cn cc hn hc tn tc mb v s sv wa)(hs:s'.st=s.st)(A:s'.tup<=v.ts.length):pQ w ca ha ta cn cc hn hc tn tc mb v s' sv wa:=
 ⟨h.bel,h.kn,h.ho,by rw [hs];exact h.sk,A,by rw [hs];exact h.bits⟩
end
theorem yM.most{x cs}(h:yM w x cs):cs.length<=64:=by
 obtain ⟨_,_,_,_,_,h,_⟩:=h;exact h
theorem A7{K cs}(h:∀s,K s<18446744073709551616)(A:cs.length<=64)(s):jd K cs s<18446744073709551616:=by
 unfold jd
 split
 ·exact qI _ _ _ A
 exact h s
theorem Mo{K}(h:∀s,K s<18446744073709551616)(s rel):rM K s rel<18446744073709551616:=by
 unfold rM
 split
 ·exact h _
 decide
theorem nC(n):IntKind.i64.wrap n=(n+9223372036854775808) % 18446744073709551616-9223372036854775808:=by
 simp [IntKind.wrap,IntKind.bits,IntKind.signed]
 split<;>omega
theorem Mp(ha:a<18446744073709551616)(h:b<18446744073709551616):bits .andNot .u64 (a:Int) (b:Int)=((pE a b:Nat):Int):=u64_andNot_nat a b ha h
theorem Fu(ha:a<18446744073709551616):pE a b<18446744073709551616:=Nat.lt_of_le_of_lt Nat.and_le_left ha
structure S0(w:af)(ca ia ha ta:Option Addr)(cn cc il ic hn hc tn tc mb n:Nat)(v:Ml)(code:List Ins):Prop where
 kn:pP w mb n v.K
 cr:yM w (.slice ca cn cc) v.cs
 ln:w.ownsRow 0 298 3 (.slice ia il ic) code.length (code.flatMap zU)
 ho:O7 w (.slice ta tn tc) v.ts
 pos:0<v.ts.length
 bits:∀s,v.K s<18446744073709551616
 kd:v.kd.size<=maxLen
 id:v.id.size<=maxLen
 rel:∀i∈code,i.rel.size<=maxLen
 sub:∀t∈v.ts,m0 (gx t)
 len:code.length<=100000
theorem H3(w ca ia ha ta cn cc il ic hn Y tn tc mb n v code)(aZ:S0 w ca ia ha ta cn cc il ic hn Y tn tc mb n v code)(p res)(bH:Goes v code ⟨0,0,[]⟩ ⟨p,0,[res]⟩)(bf:code[p]? =some ⟨0,⟨#[]⟩,0⟩):
  Calls prog 207 #[.agg #[.slice ca cn cc,.slice ha hn Y,.map (some mb)],.slice ia il ic,.agg #[.string v.kd,.string v.id,.slice ta tn tc]] w fun e w'=>e=.returned (.int .u64 res)/\Below w.heap.size w w':=by
 go_enter func207,ntmps207;go_wp2;refine A6 0 (fun r a wr=>∃(s:Mk)(sv bv:ag)(us:List ag),jV v code r s=some ⟨p,0,[res]⟩/\us.length=94/\a=H2 w ca ia ha ta cn cc il ic hn Y tn tc mb v s bv us/\pQ w ca ha ta cn cc hn Y tn tc mb v s sv wr) rfl ?pass ?first
 case pass=>
  rintro r a wr ⟨s,sv,bv,us,V,bO,rfl,aY⟩;obtain ⟨u,rfl⟩:=us94 us bO;obtain ⟨i,hi⟩:∃i,code[s.at_]? =some i:=by
   cases r with
   |zero=>simp only [jV,aK] at V;subst V;exact ⟨_,bf⟩
   |succ r=>
    rw [jV,AY] at V
    cases Y:code[s.at_]? with
    |none=>rw [Y] at V;simp at V
    |some i=>exact ⟨i,rfl⟩
  obtain ⟨ax,cb,e1,Y⟩:=bi zU 3 (fun _=>rfl) (aE aZ.ln aY.bel) s.at_ i hi;simp only [aI] at e1;obtain ⟨rfl,rfl,rfl⟩:=e1;have b5:=(be.1 hi).1;have k0:wr.cell? ⟨ax,s.at_*3,none⟩=some (.int .i64 i.does):=Y 0 _ aj rfl;have k1:=Y 1 _ aj rfl;have aC:=Y 2 _ aj rfl;have b8:=aZ.len;have b7:(s.at_:Int)<(code.length:Int):=aj;have b6:s.at_<100000:=aj;have b9:=aY.bel.size;have HJ:=ai aY;have H:=ai aZ;have aJ:=ai hi;have bB:=ai bf;have HIT:=ai V;have bp:=(aw wr.heap.size wr).alloc az (jL i.does i.rel i.to);have BA:=ai bp;clear Y aY aZ hi bf V bp
  cases r with
  |zero=>
   have V:=ak HIT;simp only [jV,aK] at V;subst V;have bc:=aJ.u;rw [bB.u] at bc;simp only [aK] at bc;subst bc;dsimp only at*;have C:=ai (iz w.heap.size (w.heap.size+2) sv [] res _ (show HW w.heap.size _ _ sv ([]++[res]) from HJ.u.sk.below BA.u) an);unfold H2;go_wp2_with fail;refine C.u.mono ?_;rintro e w1 ⟨v',rfl,D,hs⟩;have bz:=ai D;clear D hs;go_wp2;simp only [Exit.jump];go_ret;refine ⟨rfl,?_⟩;exact ((HJ.u.below BA.u).bel.trans ((HJ.u.below BA.u).sk.bel bz.u))
  |succ r=>
   obtain ⟨s',J,V⟩:∃s',iP v i s=some s'/\jV v code r s'=some ⟨p,0,[res]⟩:=by
    have V:=ak HIT;rw [jV,AY,aJ.u,Option.bind_some] at V
    cases hs:iP v i s with
    |none=>rw [hs] at V;simp at V
    |some s'=>rw [hs] at V;exact ⟨s',rfl,V⟩
   clear HIT;have HIT:=ai V;clear V;unfold iP at J
   split at J
   ·cases J
   rename_i hsl;obtain ⟨d,rl,to⟩:=i;obtain ⟨at_,tup,st⟩:=s;dsimp only at*;obtain ⟨c0,c1,c2⟩:=three HJ.u.kn;obtain ⟨d0,d1,d2⟩:=three HJ.u.ho;have e0:wr.cell? ⟨w.heap.size+2,0,none⟩=some sv:=HJ.u.sk.blk.cell rfl;have ce:=HJ.u.sk.blk.lt;have cd:¬(w.heap.size=wr.heap.size):=aj;have n1:¬(w.heap.size+1=wr.heap.size):=aj;have n2:¬(w.heap.size+2=wr.heap.size):=aj;have U:=ai HJ.u.bits;have K0:=ai k0;have K1:=ai k1;have bo:=ai aC
   split at J
   ·simp only [aK] at J;subst J;have C:=ai (jU w.heap.size (w.heap.size+2) sv st.reverse 0 _ (HJ.u.sk.below BA.u) aM);unfold H2;go_wp2_with fail;refine C.u.mono ?_;rintro e w1 ⟨v',rfl,D,hs⟩;have J1:=ai (pQ.push (s':=⟨at_+1,tup,0::st⟩) (HJ.u.below BA.u) D nV HJ.u.tup (fun x I=>by rcases bA.1 I with rfl|I;(· decide);exact U.u x I));clear D hs;go_wp2
    go_step3
    exact kw
   ·simp only [aK] at J;subst J;have ac:Below wr.heap.size wr (wr.alloc (.cells #[.int .i64 2,.string rl,.int .i64 to] 298)):=BA.u;have R:=HJ.u.below ac;have bq:=(H.u.kn.block (R.bel.block mb H.u.kn.lt)).look (s:=⟨v.kd,v.id,rl⟩) ⟨H.u.kd,H.u.id,H.u.rel _ (bx aJ.u)⟩;have bF:=H.u.bits ⟨v.kd,v.id,rl⟩;unfold uW at bq;dsimp only at bq;obtain ⟨f0,f1,f2⟩:=three R.kn;obtain ⟨g0,a9,aR⟩:=three R.ho;have C:=ai (jU w.heap.size (w.heap.size+2) sv st.reverse (v.K ⟨v.kd,v.id,rl⟩) _ R.sk aM);clear ac R;unfold H2;go_wp2_with fail;refine C.u.mono ?_;rintro e w1 ⟨v',rfl,D,hs⟩;have J1:=ai (pQ.push (s':=⟨at_+1,tup,v.K ⟨v.kd,v.id,rl⟩::st⟩) (HJ.u.below BA.u) D nV HJ.u.tup (fun x I=>by rcases bA.1 I with rfl|I;(· exact bF);exact U.u x I));clear D hs;go_wp2
    go_step3
    exact kw
   ·simp only [aK] at J;subst J;have ac:Below wr.heap.size wr (wr.alloc (.cells #[.int .i64 3,.string rl,.int .i64 to] 298)):=BA.u;have R:=HJ.u.below ac;obtain ⟨g0,a9,aR⟩:=three R.ho;have nb:=aB.new wr #[.int .i64 3,.string rl,.int .i64 to] 298;have C:=ai (Mf v.kd v.id rl (.slice ta tn tc) v.ts tup _ (H.u.ho.below R.bel) H.u.pos HJ.u.tup);have a5:=Mm v.ts tup rl;generalize ka v.ts tup rl=m at*;have Q:=ai R;have ap:=ai nb;clear R nb ac;unfold H2;go_wp2_with fail;refine C.u.mono ?_;rintro e w1 ⟨rfl,aS⟩;have R:=Q.u;obtain ⟨bs,bt,bu⟩:=three (ap.u.below aS);clear ap Q C
    by_cases au:m=0
    ·have bg:((m:Int)==0)=true:=by rw [au];rfl
     have J1:=ai (pQ.same (s':=⟨to,m,st⟩) (R.below aS) rfl a5);rw [if_pos au] at HIT;clear au aS R a5;go_wp2
     go_step3
     exact kw
    have bg:((m:Int)==0)=false:=by simpa using au
    have J1:=ai (pQ.same (s':=⟨at_+1,m,st⟩) (R.below aS) rfl a5);rw [if_neg au] at HIT;clear au aS R a5;go_wp2
    go_step3
    exact kw
   ·split at J
    ·rename_i bM;obtain ⟨m,rfl⟩:∃m,tup=m+1:=⟨tup-1,aj⟩;rw [show m+1-1=m by omega] at J
     cases ab:v.ts[m]? with
     |none=>rw [ab] at J;cases J
     |some t=>
      rw [ab] at J;simp only [Option.map_some,aK] at J;subst J;have av:=H.u.sub t (bx ab);obtain ⟨af,b4,aQ,ae⟩:=bi jp 6 (fun _=>rfl) H.u.ho.row m t ab;simp only [aI] at aQ;obtain ⟨rfl,rfl,rfl⟩:=aQ;have t3:=ae 3 _ aj rfl;have t4:=ae 4 _ aj rfl;have t5:=ae 5 _ aj rfl;have bJ:=(be.1 ab).1;have bK:(m:Int)<(v.ts.length:Int):=aj;have au:(0:Int)<=(m:Int):=aj;have bL:=H.u.ho.most;have bQ:IntKind.i64.wrap (m:Int)=(m:Int):=by rw [nC];omega
      have bP:IntKind.i64.wrap ((m:Int)+1-1)=(m:Int):=by rw [nC];omega
      have ac:Below wr.heap.size wr (wr.alloc (.cells #[.int .i64 4,.string rl,.int .i64 to] 298)):=BA.u;have R:=HJ.u.below ac;have ap:=ai (aB.new wr #[.int .i64 4,.string rl,.int .i64 to] 298);have ba:=A7 H.u.bits H.u.cr.most (gx t);have br:=H.u.rel _ (bx aJ.u);have a8:=ai (fun w' (k:Below w.heap.size w w')=>HY _ v.cs ha hn Y mb n v.K (gx t) w' (H.u.kn.block (k.block mb H.u.kn.lt)) (H.u.cr.below k) av);generalize bb:jd v.K v.cs (gx t)=X at*;have Q:=ai R;have aN:=ai t3;have aO:=ai t4;have aP:=ai t5;have bC:=ai av;have bh:=HJ.u.tup;clear R ac ae ab av bb k0 k1 aC c0 c1 c2 d0 d1 d2 e0;have k0:wr.cell? ⟨ax,at_*3,none⟩=some (.int .i64 4):=K0.u;have k1:wr.cell? ⟨ax,at_*3+1,none⟩=some (.string rl):=K1.u;have aC:wr.cell? ⟨ax,at_*3+2,none⟩=some (.int .i64 to):=bo.u;unfold H2;go_wp2_with fail;generalize (wr.alloc (.cells #[.int .i64 4,.string rl,.int .i64 to] 298))=ad at*;clear k0 k1 aC;obtain ⟨f0,f1,f2⟩:=three Q.u.kn;obtain ⟨g0,a9,aR⟩:=three Q.u.ho;obtain ⟨i0,bj,bR⟩:=three ap.u;have bk:=am aN.u Q.u.bel;have bl:=am aO.u Q.u.bel;have bn:=am aP.u Q.u.bel;have bI:=Q.u.bel.size;have a7:=ai (a8.u ad.drew Q.u.bel.drew)
      go_region_held3 (fun w'=>w'.cell? ⟨w.heap.size,0,none⟩=some (.slice ca cn cc)/\w'.cell? ⟨w.heap.size,1,none⟩=some (.slice ha hn Y)/\w'.cell? ⟨w.heap.size,2,none⟩=some (.map (some mb))/\w'.cell? ⟨w.heap.size+1,2,none⟩=some (.slice (some ⟨af,0,none⟩) v.ts.length tc)/\w'.cell? ⟨af,m*6+3,none⟩=some (.string t.sub)/\w'.cell? ⟨af,m*6+4,none⟩=some (.string t.who)/\w'.cell? ⟨af,m*6+5,none⟩=some (.string t.of)/\w'.cell? ⟨wr.heap.size,1,none⟩=some (.string rl)) (go_keep)
       (first
       |(go_at_call 243;refine a7.u.mono ?_;rintro e ah ⟨rfl,aT⟩;have O:=ai (show Below ad.heap.size ad ah from (aw _ ad).drew.trans aT);have bs:=am f0 O.u;have bt:=am f1 O.u;have bu:=am f2 O.u;have bY:=am aR O.u;have bZ:=am bk O.u;have b0:=am bl O.u;have b2:=am bn O.u;have b3:=am bj O.u;clear aT)
       |(go_at_call 241;refine (jU w.heap.size (w.heap.size+2) sv st.reverse X _ (Q.u.below O.u).sk aM).mono ?_;rintro e a6 ⟨v',rfl,D,hs⟩;have aA:=Q.u.below O.u;have Z:=pQ.push (s':=⟨at_+1,m+1,X::st⟩) aA D nV bh (fun x I=>by rcases bA.1 I with rfl|I;(· exact ba);exact U.u x I);have nb:=ap.u.below O.u;have aU:=D.blk nb aj (fun e=>own_ne aA.sk.row nb ar e.symm);obtain ⟨bS,p1,p2⟩:=three Z.kn;have bT:=(three Z.ho).2.2;have bU:=am aN.u Z.bel;have bV:=am aO.u Z.bel;have bW:=am aP.u Z.bel;have bX:=(three aU).2.1;have J1:=ai Z;clear D hs aA Z nb aU))
      all_goals (
       go_wp2
       go_step3
       exact ⟨rfl,r,aj,_,_,_,_,ak HIT,rfl,rfl,ak J1⟩)
    cases J
   ·split at J
    ·rename_i bM;obtain ⟨m,rfl⟩:∃m,tup=m+1:=⟨tup-1,aj⟩;rw [show m+1-1=m by omega] at J
     cases ab:v.ts[m]? with
     |none=>rw [ab] at J;cases J
     |some t=>
      rw [ab] at J;simp only [Option.map_some,aK] at J;subst J;have av:=H.u.sub t (bx ab);obtain ⟨af,b4,aQ,ae⟩:=bi jp 6 (fun _=>rfl) H.u.ho.row m t ab;simp only [aI] at aQ;obtain ⟨rfl,rfl,rfl⟩:=aQ;have t3:=ae 3 _ aj rfl;have t4:=ae 4 _ aj rfl;have t5:=ae 5 _ aj rfl;have bJ:=(be.1 ab).1;have bK:(m:Int)<(v.ts.length:Int):=aj;have au:(0:Int)<=(m:Int):=aj;have bL:=H.u.ho.most;have bQ:IntKind.i64.wrap (m:Int)=(m:Int):=by rw [nC];omega
      have bP:IntKind.i64.wrap ((m:Int)+1-1)=(m:Int):=by rw [nC];omega
      have ac:Below wr.heap.size wr (wr.alloc (.cells #[.int .i64 5,.string rl,.int .i64 to] 298)):=BA.u;have R:=HJ.u.below ac;have ap:=ai (aB.new wr #[.int .i64 5,.string rl,.int .i64 to] 298);have ba:=Mo H.u.bits (gx t) rl;have br:=H.u.rel _ (bx aJ.u);have a8:=ai (fun w' (k:Below w.heap.size w w')=>DC ca ha cn cc hn Y mb n v.K (gx t) rl w' (H.u.kn.block (k.block mb H.u.kn.lt)) av br);generalize bb:rM v.K (gx t) rl=X at*;have Q:=ai R;have aN:=ai t3;have aO:=ai t4;have aP:=ai t5;have bC:=ai av;have bh:=HJ.u.tup;clear R ac ae ab av bb k0 k1 aC c0 c1 c2 d0 d1 d2 e0;have k0:wr.cell? ⟨ax,at_*3,none⟩=some (.int .i64 5):=K0.u;have k1:wr.cell? ⟨ax,at_*3+1,none⟩=some (.string rl):=K1.u;have aC:wr.cell? ⟨ax,at_*3+2,none⟩=some (.int .i64 to):=bo.u;unfold H2;go_wp2_with fail;generalize (wr.alloc (.cells #[.int .i64 5,.string rl,.int .i64 to] 298))=ad at*;clear k0 k1 aC;obtain ⟨f0,f1,f2⟩:=three Q.u.kn;obtain ⟨g0,a9,aR⟩:=three Q.u.ho;obtain ⟨i0,bj,bR⟩:=three ap.u;have bk:=am aN.u Q.u.bel;have bl:=am aO.u Q.u.bel;have bn:=am aP.u Q.u.bel;have bI:=Q.u.bel.size;have a7:=ai (a8.u ad.drew Q.u.bel.drew)
      go_region_held3 (fun w'=>w'.cell? ⟨w.heap.size,0,none⟩=some (.slice ca cn cc)/\w'.cell? ⟨w.heap.size,1,none⟩=some (.slice ha hn Y)/\w'.cell? ⟨w.heap.size,2,none⟩=some (.map (some mb))/\w'.cell? ⟨w.heap.size+1,2,none⟩=some (.slice (some ⟨af,0,none⟩) v.ts.length tc)/\w'.cell? ⟨af,m*6+3,none⟩=some (.string t.sub)/\w'.cell? ⟨af,m*6+4,none⟩=some (.string t.who)/\w'.cell? ⟨af,m*6+5,none⟩=some (.string t.of)/\w'.cell? ⟨wr.heap.size,1,none⟩=some (.string rl)) (go_keep)
       (first
       |(go_at_call 244;refine a7.u.mono ?_;rintro e ah ⟨rfl,aT⟩;have O:=ai (show Below ad.heap.size ad ah from (aw _ ad).drew.trans aT);have bs:=am f0 O.u;have bt:=am f1 O.u;have bu:=am f2 O.u;have bY:=am aR O.u;have bZ:=am bk O.u;have b0:=am bl O.u;have b2:=am bn O.u;have b3:=am bj O.u;clear aT)
       |(go_at_call 241;refine (jU w.heap.size (w.heap.size+2) sv st.reverse X _ (Q.u.below O.u).sk aM).mono ?_;rintro e a6 ⟨v',rfl,D,hs⟩;have aA:=Q.u.below O.u;have Z:=pQ.push (s':=⟨at_+1,m+1,X::st⟩) aA D nV bh (fun x I=>by rcases bA.1 I with rfl|I;(· exact ba);exact U.u x I);have nb:=ap.u.below O.u;have aU:=D.blk nb aj (fun e=>own_ne aA.sk.row nb ar e.symm);obtain ⟨bS,p1,p2⟩:=three Z.kn;have bT:=(three Z.ho).2.2;have bU:=am aN.u Z.bel;have bV:=am aO.u Z.bel;have bW:=am aP.u Z.bel;have bX:=(three aU).2.1;have J1:=ai Z;clear D hs aA Z nb aU))
      all_goals (
       go_wp2
       go_step3
       exact ⟨rfl,r,aj,_,_,_,_,ak HIT,rfl,rfl,ak J1⟩)
    cases J
   ·rename_i b a st;simp only [aK] at J;subst J;have aD:=U.u b an;have ha:=U.u a an;have C:=ai (iz w.heap.size (w.heap.size+2) sv (st.reverse++[a]) b _ Ft nU);unfold H2;go_wp2_with fail;refine C.u.mono ?_;rintro e w1 ⟨aW,rfl,D,hs⟩;have J1:=ai (pQ.push (s':=⟨at_+1,tup,a::st⟩) (HJ.u.below BA.u) D nV HJ.u.tup (fun x I=>U.u x (List.mem_cons_of_mem _ I)));have al:=ai (iz w.heap.size (w.heap.size+2) aW st.reverse a _ hs nU);clear D hs C;go_wp2_with fail;refine al.u.mono ?_;rintro e ah ⟨aX,rfl,D,hs⟩;have aL:=ai (pQ.push (s':=⟨at_+1,tup,st⟩) (ak J1) D hs HJ.u.tup (fun x I=>U.u x (List.mem_cons_of_mem _ (List.mem_cons_of_mem _ I))));have c3:=jU w.heap.size (w.heap.size+2) aX st.reverse (b|||a) ah hs nU;rw [<-u64_or_nat b a aD ha] at c3;have aH:=ai c3;clear D hs al c3 J1;go_wp2_with fail;refine aH.u.mono ?_;rintro e a6 ⟨bw,rfl,D,hs⟩;have J1:=ai (pQ.push (s':=⟨at_+1,tup,(b|||a)::st⟩) aL.u D nV HJ.u.tup (fun x I=>by rcases bA.1 I with rfl|I;(· exact yh (n:=64) aD ha);exact U.u x (List.mem_cons_of_mem _ (List.mem_cons_of_mem _ I))));clear D hs;go_wp2
    go_step3
    exact kw
   ·rename_i b a st;simp only [aK] at J;subst J;have aD:=U.u b an;have ha:=U.u a an;have C:=ai (iz w.heap.size (w.heap.size+2) sv (st.reverse++[a]) b _ Ft nU);unfold H2;go_wp2_with fail;refine C.u.mono ?_;rintro e w1 ⟨aW,rfl,D,hs⟩;have J1:=ai (pQ.push (s':=⟨at_+1,tup,a::st⟩) (HJ.u.below BA.u) D nV HJ.u.tup (fun x I=>U.u x (List.mem_cons_of_mem _ I)));have al:=ai (iz w.heap.size (w.heap.size+2) aW st.reverse a _ hs nU);clear D hs C;go_wp2_with fail;refine al.u.mono ?_;rintro e ah ⟨aX,rfl,D,hs⟩;have aL:=ai (pQ.push (s':=⟨at_+1,tup,st⟩) (ak J1) D hs HJ.u.tup (fun x I=>U.u x (List.mem_cons_of_mem _ (List.mem_cons_of_mem _ I))));have c3:=jU w.heap.size (w.heap.size+2) aX st.reverse (b&&& a) ah hs nU;rw [<-u64_and_nat b a aD ha] at c3;have aH:=ai c3;clear D hs al c3 J1;go_wp2_with fail;refine aH.u.mono ?_;rintro e a6 ⟨bw,rfl,D,hs⟩;have J1:=ai (pQ.push (s':=⟨at_+1,tup,(b&&& a)::st⟩) aL.u D nV HJ.u.tup (fun x I=>by rcases bA.1 I with rfl|I;(· exact Nat.and_lt_two_pow (n:=64) b ha);exact U.u x (List.mem_cons_of_mem _ (List.mem_cons_of_mem _ I))));clear D hs;go_wp2
    go_step3
    exact kw
   ·rename_i b a st;simp only [aK] at J;subst J;have aD:=U.u b an;have ha:=U.u a an;have C:=ai (iz w.heap.size (w.heap.size+2) sv (st.reverse++[a]) b _ Ft nU);unfold H2;go_wp2_with fail;refine C.u.mono ?_;rintro e w1 ⟨aW,rfl,D,hs⟩;have J1:=ai (pQ.push (s':=⟨at_+1,tup,a::st⟩) (HJ.u.below BA.u) D nV HJ.u.tup (fun x I=>U.u x (List.mem_cons_of_mem _ I)));have al:=ai (iz w.heap.size (w.heap.size+2) aW st.reverse a _ hs nU);clear D hs C;go_wp2_with fail;refine al.u.mono ?_;rintro e ah ⟨aX,rfl,D,hs⟩;have aL:=ai (pQ.push (s':=⟨at_+1,tup,st⟩) (ak J1) D hs HJ.u.tup (fun x I=>U.u x (List.mem_cons_of_mem _ (List.mem_cons_of_mem _ I))));have c3:=jU w.heap.size (w.heap.size+2) aX st.reverse (pE a b) ah hs nU;rw [<-Mp ha aD] at c3;have aH:=ai c3;clear D hs al c3 J1;go_wp2_with fail;refine aH.u.mono ?_;rintro e a6 ⟨bw,rfl,D,hs⟩;have J1:=ai (pQ.push (s':=⟨at_+1,tup,(pE a b)::st⟩) aL.u D nV HJ.u.tup (fun x I=>by rcases bA.1 I with rfl|I;(· exact Fu ha);exact U.u x (List.mem_cons_of_mem _ (List.mem_cons_of_mem _ I))));clear D hs;go_wp2
    go_step3
    exact kw
   ·rename_i b st;simp only [aK] at J;subst J;obtain ⟨sa,sc,rfl⟩:=ay HJ.u.sk.row;have C:=ai (Mc w.heap.size (w.heap.size+2) _ st.reverse b _ Ft nU)
    by_cases aG:b=0
    ·have bg:((b:Int)==0)=true:=by rw [aG];rfl
     have J1:=ai (pQ.same (s':=⟨if b=0 then to else at_+1,tup,b::st⟩) (HJ.u.below BA.u) rfl HJ.u.tup);rw [if_pos aG] at HIT J1;clear aG;unfold H2;go_wp2_with fail;refine C.u.mono ?_;rintro e w1 ⟨rfl,rfl⟩;go_wp2
     go_step3
     exact kw
    have bg:((b:Int)==0)=false:=by simpa using aG
    have J1:=ai (pQ.same (s':=⟨if b=0 then to else at_+1,tup,b::st⟩) (HJ.u.below BA.u) rfl HJ.u.tup);rw [if_neg aG] at HIT J1;clear aG;unfold H2;go_wp2_with fail;refine C.u.mono ?_;rintro e w1 ⟨rfl,rfl⟩;go_wp2
    go_step3
    exact kw
   ·simp only [aK] at J;subst J;have J1:=ai (pQ.same (s':=⟨to,tup,st⟩) (HJ.u.below BA.u) rfl HJ.u.tup);unfold H2;go_wp2
    go_step3
    exact kw
   cases J
 case first=>
  intro pass;go_wp2
  go_step3
  obtain ⟨N,bG⟩:=bH;rename_i K bE;refine bE _ _ (pass N _ _ ⟨⟨0,0,[]⟩,.slice none 0 0,_,_,bG,?_,rfl,?_⟩)
  ·rfl
  have b1:=(aw w.heap.size w).alloc az (.cells #[.slice ca cn cc,.slice ha hn Y,.map (some mb)] 189);have bD:=b1.alloc an (m1 v.kd v.id ta tn tc);refine ⟨bD.alloc aM _,((aB.new w _ _).alloc _).alloc _,(aB.new' _ _ _ _ an).alloc _,⟨aB.new' _ _ _ _ an,bN,aj⟩,gZ _,fun x I=>by cases I⟩
end
