import Derived.Test.YtlbpnlngckgcbaaGreatDoorM06
set_option linter.all false
set_option maxHeartbeats 4000000
set_option maxRecDepth 100000
namespace Go.Proofs.YtlbpnlngckgcbaaGreatDoor
open Go.RowKit Go.PlainAid Go.Proofs.Tryz
section
variable {aA aU:Prop} {w w' wr w1 w5:af} {base size n g b d i j aa pc sc e' c g5 aT m:Nat} {T:TypeId} {v tv kv rv pv lD:ag} {xs:List ag} {s:ae} {pl fx:List PV} {lr:List PX} {ps:List Nat} {pa sa:Option Addr} {eJ:List Tk} {o:Obj} {row:Option Nat} {cs:Array ag}
def IX(w k x y p q):nw w (⟨k,[],x,y,p,q,[],[]⟩,.slice none 0 0,.slice none 0 0,.slice none 0 0):=⟨bL,bL,bL⟩
def u1(base b:Nat)(s:ae)(tv:ag)(i d a:Nat)(kv rv pv:ag)(pl:List PV)(l:List PX)(w:af)(h:RS w b s tv i d 0 a kv rv pv)(aN:PT base w pv pl l)(R:base<=b)(U:base<=w.heap.size)(aV:pl.length<=i)(ex:Nat)(h1:eqs (TT s i) (sg 91)=false)(h2:eqs (TT s i) (sg 40)=false)(j A Q:Nat)(aK:∀W,RS W b s tv (i) d 0 a kv rv pv->Calls prog 228 #[.pointer (some ⟨b,0,none⟩),.bool true] W fun e w'=>e=.returned (BO s (i))/\But b W w'/\RS w' b s tv j d A Q kv rv pv)(aL:∀W,RS W b s tv j d A Q kv rv pv->Calls prog 187 #[.pointer (some ⟨b,0,none⟩),.string (sg 46)] W fun e w'=>e=.returned (.bool false)/\an W w')(J:eI Ex)
  (aJ:(J=.ok (⟨⟨1,PP s i,TT s i,PP s i,em,0,[]⟩,none,none⟩,i+1)/\j=i+1/\A=0/\Q=a)\/(J=.error (A,i)/\A≠0/\j=i/\Q=PP s i)):Calls prog 266 #[.pointer (some ⟨b,0,none⟩)] w (qn base b s tv i d a kv rv pv pl l w (ex+1) J):=by
 have aw:=ai aK;have ax:=ai aL;have ay:=ai aJ;have H:=ai h;have aB:=ai aN;have C:=ai (de b s tv i d a kv rv pv (sg 91) w h false h1);have aW:=h.gd.le;have aX:=h.sz;go_enter func266,ntmps266;go_wp2_with fail;refine C.u.mono ?_;rintro e w1 ⟨rfl,ad⟩;have Z:=ai (H.u.below ad);have am:=ai (But.of_below (b:=b) ad);go_wp2_with fail;refine (de b s tv i d a kv rv pv (sg 40) w1 Z.u false h2).mono ?_;rintro e aS ⟨rfl,ah⟩;have av:=ai (Z.u.below ah);have ap:=ai (am.u.trans (But.of_below (b:=b) ah));go_wp2_with fail;refine (aw.u aS av.u).mono ?_;rintro e V ⟨rfl,aH,k3⟩;have ab:=ai k3;have ar:=ai (ap.u.trans aH);have Y:=ai (az V.heap.size V);unfold BO;go_wp2_with fail;refine (ax.u _ ?r).mono ?_
 case r=>exact ab.u.below (cd Y)
 rintro e al ⟨rfl,D⟩;have aC:=ai ((ab.u.below (cd Y)).below D);have aG:=ai ((aE.new V (pA (TT s i) (PP s i) (dw (TT s i))) 259).below D);have I:=ai (((eu ar):But b w _).trans (But.of_below D));obtain ⟨t0,t1,t2⟩:=aG.u.three;go_wp2_with fail;have aF:=ai (aB.u.but I.u H.u.blk R U);have D:base<=(al).heap.size:=aP U I.u.size;refine (j0 base b s tv (j) d A (Q) kv rv pv pl l ⟨2,[],em,TT s i,PP s i,0,[],[]⟩ none 0 none 0 none 0 (al) aC.u aF.u (IX _ _ _ _ _ _) aj D R).mono ?_;rintro e' wf ⟨pv',rfl,fr,aQ,aO⟩;have au:=ai ((Fr.of_but I.u R U).trans fr);have ac:=ai aQ;have aD:=ai aO;go_wp2;go_ret;refine ⟨pl.length,rfl,pv',_,_,[_],[_],au.u,aD.u,rfl,rfl,fun y ak=>by rw [aR] at ak;subst ak;exact ya _ _,?_⟩
 rcases ay.u with ⟨rfl,rfl,rfl,rfl⟩|⟨rfl,aI,rfl,rfl⟩
 ·exact ⟨ac.u,aj,aM,1,_,u0,.inr (.inl ⟨rfl,rfl,⟨rfl,rfl⟩,rfl⟩)⟩
 ·exact ⟨aI,_,bY _,ac.u,aM⟩
def u2(base b s tv i d a kv rv pv pl l w)(h:RS w b s tv i d 0 a kv rv pv)(aL:PT base w pv pl l)(ak:base<=b)(al:base<=w.heap.size)(bj:pl.length<=i)(ex)(h1:eqs (TT s i) (sg 91)=false)(h2:eqs (TT s i) (sg 40)=false)(ba:dl (TT s i)=true)(a8:(TT s i).size<=8)(aJ:eqs (TT s (i+1)) (sg 46)=true)(j E Q)(aI:∀W,RS W b s tv (i+2) d 0 a kv rv pv->Calls prog 228 #[.pointer (some ⟨b,0,none⟩),.bool true] W fun e w'=>e=.returned (BO s (i+2))/\But b W w'/\RS w' b s tv j d E Q kv rv pv)(R)(aH:(R=.ok (⟨⟨2,PP s i,TT s i,PP s i,TT s (i+2),PP s (i+2),[]⟩,none,none⟩,i+3)/\j=i+3/\E=0/\Q=a)\/(R=.error (E,i+2)/\E≠0/\j=i+2/\Q=PP s (i+2))):Calls prog 266 #[.pointer (some ⟨b,0,none⟩)] w (qn base b s tv i d a kv rv pv pl l w (ex+1) R):=by
 have aX:=ai aI;have aZ:=ai aH;clear aI aH;have H:=ai h;have a3:=ai aL;have C:=ai (de b s tv i d a kv rv pv (sg 91) w h false h1);have bl:=h.lt;have bk:=h.gd.le;have bn:=h.sz;clear h aL;go_enter func266,ntmps266;go_wp2_with fail;refine C.u.mono ?_;rintro e w1 ⟨rfl,ag⟩;have ac:=ai (H.u.below ag);have am:=ai (But.of_below (b:=b) ag);clear ag C;go_wp2_with fail;refine (de b s tv i d a kv rv pv (sg 40) w1 ac.u false h2).mono ?_;rintro e bh ⟨rfl,ah⟩;have aw:=ai (ac.u.below ah);have an:=ai (am.u.trans (But.of_below (b:=b) ah));clear ah ac am;go_wp2_with fail;refine (nv b s tv i d a kv rv pv bh aw.u ba a8).mono ?_;rintro e I ⟨rfl,aG,k3⟩;have ad:=ai k3;have Y:=ai (an.u.trans aG);have ab:=ai (az I.heap.size I);clear aG k3 aw an;unfold BO;go_wp2_with fail;refine (de b s tv (i+1) d a kv rv pv (sg 46) _ ?r true aJ).mono ?_
 case r=>exact ad.u.below (cd ab)
 rintro e V ⟨rfl,A⟩;have D:=ai ((ad.u.below (cd ab)).below A);have U:=ai ((aE.new I (pA (TT s i) (PP s i) (dw (TT s i))) 259).below A);have ap:=ai ((show But b w _ from (eu Y)).trans (But.of_below A));obtain ⟨t0,t1,t2⟩:=U.u.three;have bb:=U.u.lt;have bp:=Y.u.size;clear A ad Y ab;have aY:=ai (D.u.gd.succ (df aJ au));obtain ⟨bc,be,bf,r3,bg,_⟩:=D.u.blk.eight;have bi:=D.u.blk.fz;go_wp2_with fail;have ax:=ai (show RS (V.setCell ⟨b,1,none⟩ (.int .i64 ((i:Int)+1+1))) b s tv (i+2) d 0 a kv rv pv from D.u.setI (i+2) aY.u);have ar:=ai (show But b w (V.setCell ⟨b,1,none⟩ (.int .i64 ((i:Int)+1+1))) from ap.u.setCell 1 _);have aK:¬(I.heap.size=b):=aj;have aC:=ai (show aE (V.setCell ⟨b,1,none⟩ (.int .i64 ((i:Int)+1+1))) I.heap.size (pA (TT s i) (PP s i) (dw (TT s i))) 259 from U.u.other aK _);clear bc be bf r3 bg bi t0 t1 t2 bb D ap U;generalize V.setCell ⟨b,1,none⟩ (.int .i64 ((i:Int)+1+1))=a7 at*;refine (aX.u a7 ax.u).mono ?_;rintro e J ⟨rfl,af,aO⟩;have ay:=ai aO;have av:=ai (ar.u.trans af);have ae:=ai (aC.u.but af aK);have bo:=ae.u.lt;obtain ⟨t0,t1,t2⟩:=ae.u.three;have aV:=ai (az J.heap.size J);clear af aO ax ar aC;unfold BO;go_wp2_with fail;have a4:=ai (ay.u.below ((az _ J).alloc aD (mj (TT s (i+2)) (PP s (i+2)) (dw (TT s (i+2))))));have Z:=ai (av.u.trans (But.of_below (b:=b) ((az _ J).alloc aD (mj (TT s (i+2)) (PP s (i+2)) (dw (TT s (i+2)))))));clear ay av ae aV;generalize J.alloc (mj (TT s (i+2)) (PP s (i+2)) (dw (TT s (i+2))))=aF at*;have a6:=ai (a3.u.but Z.u H.u.blk ak al);have A:base<=(aF).heap.size:=aP al Z.u.size;refine (j0 base b s tv (j) d E (Q) kv rv pv pl l ⟨3,[],TT s i,TT s (i+2),PP s i,PP s (i+2),[],[]⟩ none 0 none 0 none 0 (aF) a4.u a6.u (IX _ _ _ _ _ _) aj A ak).mono ?_;rintro e' wf ⟨pv',rfl,fr,aS,aQ⟩;have aW:=ai ((Fr.of_but Z.u ak al).trans fr);have aB:=ai aS;have a5:=ai aQ;clear fr aS aQ;go_wp2;go_ret;refine ⟨pl.length,rfl,pv',_,_,[_],[_],aW.u,a5.u,rfl,rfl,fun y aN=>by rw [aR] at aN;subst aN;exact ya _ _,?_⟩
 rcases aZ.u with ⟨rfl,rfl,rfl,rfl⟩|⟨rfl,a9,rfl,rfl⟩
 ·exact ⟨aB.u,aj,aM,1,_,u0,.inr (.inr (.inl ⟨rfl,rfl,⟨rfl,rfl⟩,rfl⟩))⟩
 ·exact ⟨a9,_,aj,aB.u,aM⟩
def KP(base b s tv i d a kv rv pv pl l w)(h:RS w b s tv i d 0 a kv rv pv)(J:PT base w pv pl l)(C:base<=b)(D:base<=w.heap.size)(I:pl.length<=i)(room inner ex)(Y:room=true->d<4/\qo s inner (d+1) ex)(Z:room=false->d=4):Calls prog 266 #[.pointer (some ⟨b,0,none⟩)] w (qn base b s tv i d a kv rv pv pl l w (ex+1) (eR (TT s) (PP s) room inner i)):=by
 unfold eR
 cases h1:eqs (TT s i) (sg 91)
 ·simp only [bH,aV]
  cases h2:eqs (TT s i) (sg 40)
  ·simp only [bH,aV];unfold jl dh
   cases hn:dl (TT s i)
   ·exact u1 base b s tv i d a kv rv pv pl l w h J C D I ex h1 h2 i 2 (PP s i) (fun W A=>mi b s tv i d a kv rv pv true W A hn) (fun W A=>kF b s tv i d 2 _ kv rv pv _ W A au) _ (.inr ⟨rfl,au,rfl,rfl⟩)
   by_cases U:8<(TT s i).size
   ·simp only [if_true,U];exact u1 base b s tv i d a kv rv pv pl l w h J C D I ex h1 h2 i 3 (PP s i) (fun W A=>lC b s tv i d a kv rv pv true W A hn (.inl U)) (fun W A=>kF b s tv i d 3 _ kv rv pv _ W A au) _ (.inr ⟨rfl,au,rfl,rfl⟩)
   simp only [if_true,U,aV]
   cases Q:eqs (TT s (i+1)) (sg 46)
   ·simp only [bH,aV];exact u1 base b s tv i d a kv rv pv pl l w h J C D I ex h1 h2 (i+1) 0 a (fun W A=>nv b s tv i d a kv rv pv W A hn aj) (fun W A=>de b s tv (i+1) d a kv rv pv _ W A _ Q) _ (.inl ⟨rfl,rfl,rfl,rfl⟩)
   simp only [if_true]
   cases V:dl (TT s (i+1+1))
   ·exact u2 base b s tv i d a kv rv pv pl l w h J C D I ex h1 h2 hn aj Q (i+2) 2 _ (fun W A=>mi b s tv (i+2) d a kv rv pv true W A V) _ (.inr ⟨rfl,au,rfl,rfl⟩)
   by_cases R:8<(TT s (i+1+1)).size
   ·simp only [if_true,R];exact u2 base b s tv i d a kv rv pv pl l w h J C D I ex h1 h2 hn aj Q (i+2) 3 _ (fun W A=>lC b s tv (i+2) d a kv rv pv true W A V (.inl R)) _ (.inr ⟨rfl,au,rfl,rfl⟩)
   simp only [if_true,R,aV];exact u2 base b s tv i d a kv rv pv pl l w h J C D I ex h1 h2 hn aj Q (i+3) 0 a (fun W A=>nv b s tv (i+2) d a kv rv pv W A V (Nat.le_of_not_lt R)) _ (.inl ⟨rfl,rfl,rfl,rfl⟩)
  simp only [if_true]
  cases room with
  |false=>
   simp only [bH,aV];exact KN base b s tv i d a kv rv pv pl l w h J C D I ex h1 h2 (Z rfl)
  |true=>
   simp only [if_true];exact UV base b s tv i d a kv rv pv pl l w h J C D I inner ex (Y rfl).2 h1 h2 (Y rfl).1
 simp only [if_true];exact KM base b s tv i d a kv rv pv pl l w h J C D I ex h1
abbrev u3(a0:Int)(a1:Int)(a2:Option Addr)(a3:Nat)(a4:Nat)(a5:Option Addr)(a6:Nat)(a7:Nat):Array ag:=#[.int .i64 a0,.slice none 0 0,.string ⟨#[]⟩,.string ⟨#[]⟩,.int .i64 a1,.int .i64 0,.slice a2 a3 a4,.slice a5 a6 a7]
def On (h:aA:=by
 refine ⟨h.1,?_⟩
 rcases h.2 with h|⟨g,cap,A,h1,h2,C,D⟩
 ·exact .inl h
 exact .inr ⟨g,cap,A,h1,h2,(k g A (0,0) C (by rw [h1];rfl)).trans C,D⟩):aA:=h
def xw(o:Option Nat)(x:PX):Prop:=∀g,(x.2.1.ownBlock=some g\/x.2.2.1.ownBlock=some g\/x.2.2.2.ownBlock=some g)->o≠some g
def nw.lt{x}(h:nw w x):∀g,(x.2.1.ownBlock=some g\/x.2.2.1.ownBlock=some g\/x.2.2.2.ownBlock=some g)->g<w.heap.size:=fun g A=>by
 rcases A with A|A|A
 ·exact (h.g.lt g A).2
 ·exact (h.p.lt g A).2
 exact (h.s.lt g A).2
def nw.keep{x}(h:nw w x)(k:∀g cs T f,w.heap[g]? =some (.cells cs T f)->(T=257\/T=3\/T=259)->(x.2.1.ownBlock=some g\/x.2.2.1.ownBlock=some g\/x.2.2.2.ownBlock=some g)->w'.heap[g]? =w.heap[g]?):nw w' x:=by
 have f:∀{T:TypeId} {size:Nat} {v:ag} {n:Nat} {xs:List ag},w.ownsRow 0 T size v n xs->(∀g cs f,w.heap[g]? =some (.cells cs T f)->v.ownBlock=some g->w'.heap[g]? =w.heap[g]?)->w'.ownsRow 0 T size v n xs:=by
  intro T size v n xs h k;exact On
 exact ⟨f h.g (fun g cs f I ho=>k g cs _ f I (.inl rfl) (.inl ho)),f h.p (fun g cs f I ho=>k g cs _ f I (.inr (.inl rfl)) (.inr (.inl ho))),f h.s (fun g cs f I ho=>k g cs _ f I (.inr (.inr rfl)) (.inr (.inr ho)))⟩
def qp(h:w.ownsRow base T size v n xs)(k:∀g cs f,w.heap[g]? =some (.cells cs T f)->v.ownBlock=some g->w'.heap[g]? =w.heap[g]?):w'.ownsRow base T size v n xs:=by
 exact On
def Cw(h:w.ownsRow base T size v n xs)(k:v.ownBlock=some g):∃A,aE w g A T:=by
 rcases h.2 with ⟨e,_⟩|⟨g',cap,A,h1,h2,C,D⟩
 ·rw [e] at k;cases k
 rw [h1] at k;simp only [Value.ownBlock,aL] at k;subst k;exact ⟨A,C⟩
structure tR(base b:Nat)(s:ae)(tv:ag)(d:Nat)(kv rv pv:ag)(i:Nat)(pl:List PV)(l:List PX)(w:af)(kd:Nat)(wr:af)(lD:ag)(j e aa:Nat)(fx:List PV)(lr:List PX)(ps:List Nat)(pa:Option Addr)(pc:Nat)(eJ:List Tk)(sa:Option Addr)(sc:Nat):Prop where
 fr:Fr base b w wr pv lD
 rs:RS wr b s tv j d e aa kv rv lD
 pt:PT base wr lD fx lr
 box:aE wr w.heap.size (u3 kd (PP s i) pa ps.length pc sa eJ.length sc) 255
 nb:lD.ownBlock≠some w.heap.size
 prow:wr.ownsRow w.heap.size 3 1 (.slice pa ps.length pc) ps.length (ps.map fun n:Nat=> .int .i64 n)
 srow:wr.ownsRow w.heap.size 259 3 (.slice sa eJ.length sc) eJ.length (bC eJ)
 dp:∀x∈lr,xw (Value.slice pa ps.length pc).ownBlock x
 ds:∀x∈lr,xw (Value.slice sa eJ.length sc).ownBlock x
 sfx:∃t,fx=pl++t
 new:∃tl,lr=l++tl/\∀x∈tl,jC w.heap.size x
 blt:b<w.heap.size
 tvl:∀g,tv.ownBlock=some g->g<w.heap.size
def tR.below{l kd e}(h:tR base b s tv d kv rv pv i pl l w kd wr lD j e aa fx lr ps pa pc eJ sa sc)(k:an wr w')(C:base<=wr.heap.size)(D:base<=b):tR base b s tv d kv rv pv i pl l w kd w' lD j e aa fx lr ps pa pc eJ sa sc:=
 ⟨h.fr.trans (Fr.of_below k C),h.rs.below k,h.pt.but (But.of_below k) h.rs.blk D C,h.box.below k,h.nb,ay h.prow (fun g cs f _ A=>k.block g (lt_of_some A)),ay h.srow (fun g cs f _ A=>k.block g (lt_of_some A)),h.dp,h.ds,h.sfx,h.new,h.blt,h.tvl⟩
def tR.but{l kd e}(h:tR base b s tv d kv rv pv i pl l w kd wr lD j e aa fx lr ps pa pc eJ sa sc)(k:But b wr w')(A:base<=wr.heap.size)(C:base<=b){j' aa'}(r:RS w' b s tv j' d e' aa' kv rv lD):tR base b s tv d kv rv pv i pl l w kd w' lD j' e' aa' fx lr ps pa pc eJ sa sc:=
 have f:=Fr.of_but (pv:=lD) k C A
 ⟨h.fr.trans f,r,h.pt.but k h.rs.blk C A,h.box.but k (by have:=h.blt;omega),h.nb,f.row h.prow h.rs.blk h.pt.row au au,f.row h.srow h.rs.blk h.pt.row au au,h.dp,h.ds,h.sfx,h.new,h.blt,h.tvl⟩
def tR.call{l:List PX}{kd:Nat}{e:Nat}{C:ag}{Q e1 D:Nat}{Yo t:List PV}{l1 tl:List PX}(h:tR base b s tv d kv rv pv i pl l w kd wr lD j e aa fx lr ps pa pc eJ sa sc)(f:Fr base b wr w1 lD C)(p:PT base w1 C (fx++t) (lr++tl))(r:RS w1 b s tv Q d e1 D kv rv C)(J:∀x∈tl,jC wr.heap.size x):tR base b s tv d kv rv pv i pl l w kd w1 C Q e1 D (fx++t) (lr++tl) ps pa pc eJ sa sc:=by
 have U:=h.box.lt;have I:∀{T:TypeId} {size:Nat} {v:ag} {n:Nat} {xs:List ag},wr.ownsRow w.heap.size T size v n xs->(∀x∈lr,xw v.ownBlock x)->∀x∈lr++tl,xw v.ownBlock x:=by
  intro T size v n xs ho ha x A;rw [aQ] at A
  rcases A with A|A
  ·exact ha x A
  intro g R e;have:=(ho.lt g e).2;have:=J x A g R;omega
 refine ⟨h.fr.trans f,r,p,f.blk h.box (by have:=h.blt;omega) h.nb,fun e=> ?_,f.row h.prow h.rs.blk h.pt.row au au,f.row h.srow h.rs.blk h.pt.row au au,I h.prow h.dp,I h.srow h.ds,?_,?_,h.blt,h.tvl⟩
 ·rcases f.own _ e with e|e
  ·exact h.nb e
  omega
 ·obtain ⟨t0,e⟩:=h.sfx;exact ⟨t0++t,by rw [e,dc]⟩
 obtain ⟨t0,e,k⟩:=h.new;refine ⟨t0++tl,by rw [e,dc],fun x A=> ?_⟩;rw [aQ] at A
 rcases A with A|A
 ·exact k x A
 exact (J x A).mono aj
def tR.grow{l kd e u}(h:tR base b s tv d kv rv pv i pl l w kd wr lD j e aa fx lr ps pa pc eJ sa sc)(Z:base<=wr.heap.size)(ab:base<=b)(J:base<=w.heap.size)(Q:(wr.alloc o).grownBy w5 row)(I:∀k,row=some k->w.heap.size<=k)(n1:row≠some b)(n2:row≠some w.heap.size)(ah:∀k,lD.ownBlock=some k->row≠some k)(ai:∀x∈lr,xw row x):
  Fr base b w (w5.setCell ⟨w.heap.size,c,none⟩ u) pv lD/\RS (w5.setCell ⟨w.heap.size,c,none⟩ u) b s tv j d e aa kv rv lD/\PT base (w5.setCell ⟨w.heap.size,c,none⟩ u) lD fx lr/\aE w5 w.heap.size (u3 kd (PP s i) pa ps.length pc sa eJ.length sc) 255:=by
 have V:an wr (wr.alloc o):=bj.alloc aD _;have H:=h.below V Z ab;have keep:∀g,g<(wr.alloc o).heap.size->row≠some g->w5.heap[g]? =(wr.alloc o).heap[g]? :=fun g D ag=>Q.block g D (fun e=>ag e.symm)
 have R:aE w5 w.heap.size (u3 kd (PP s i) pa ps.length pc sa eJ.length sc) 255:=(keep _ H.box.lt n2).trans H.box;have Y:=(keep _ H.rs.blk.lt n1).trans H.rs.blk;have ae:b≠w.heap.size:=by have:=h.blt;omega
 refine ⟨⟨(ct H.fr.below Q (aP J H.fr.below.size) (fun k ad=>aP J (I k ad))).setCell J _,fun g D ac af=> ?_,h.fr.own⟩,⟨aE.other Y ae _,?_,h.rs.gd,h.rs.fm,h.rs.sz⟩,⟨h.pt.fst,?_,fun x U=> ?_⟩,R⟩
 ·have e1:g≠w.heap.size:=by omega
  exact (dN _ _ _ _ e1).trans ((keep g (cK D H.fr.below.size) (fun e=>by have:=I g e;omega)).trans (H.fr.keep g D ac af))
 ·refine bN (T:=255) ?_ R au _ _;refine qp H.rs.tok (fun g cs f A ho=>keep g (lt_of_some A) (fun e=> ?_));have:=h.tvl g ho;have:=I g e;omega
 ·refine Ad ?_ h.nb _;exact qp H.pt.row (fun g cs f A ho=>keep g (lt_of_some A) (ah g ho))
 ·refine (H.pt.rep x U).keep (fun g cs T f A C ho=> ?_);have e1:g≠w.heap.size:=fun e=>by
   subst e;have:=H.box;unfold aE at this;rw [this] at A;simp only [aL,uU] at A
   rcases C with C|C|C<;>rw [C] at A<;>exact absurd A.2.1 au
  exact (dN _ _ _ _ e1).trans (keep g (lt_of_some A) (ai x U g ho))
def tR.sign{l kd e}(h:tR base b s tv d kv rv pv i pl l w kd wr lD j e aa fx lr ps pa pc eJ sa sc)(U:base<=w.heap.size)(S:aE wr (w.heap.size+1) cs 259)(ns:(Value.slice sa eJ.length sc).ownBlock≠some (w.heap.size+1))(da:∀x∈lr,xw (some (w.heap.size+1)) x)(c u):tR base b s tv d kv rv pv i pl l w kd (wr.setCell ⟨w.heap.size+1,c,none⟩ u) lD j e aa fx lr ps pa pc eJ sa sc:=by
 have J:=h.blt;refine ⟨⟨h.fr.below.setCell (show base<=w.heap.size+1 by omega) _,fun g C D I=> ?_,h.fr.own⟩,⟨h.rs.blk.other (show b≠w.heap.size+1 by omega) _,?_,h.rs.gd,h.rs.fm,h.rs.sz⟩,⟨h.pt.fst,bN h.pt.row S au _ _,fun x A=> ?_⟩,h.box.other (show w.heap.size≠w.heap.size+1 by omega) _,h.nb,bN h.prow S au _ _,Ad h.srow ns _,h.dp,h.ds,h.sfx,h.new,h.blt,h.tvl⟩
 ·exact (dN _ _ _ _ (show g≠w.heap.size+1 by omega)).trans (h.fr.keep g C D I)
 ·refine Ad h.rs.tok (fun e=> ?_) _;have:=h.tvl (w.heap.size+1) e;omega
 exact (h.pt.rep x A).keep (fun g cs T f Q R ho=>dN _ _ _ _ (fun e=>da x A g ho (by rw [e])))
def Cx{l kd e}(h:tR base b s tv d kv rv pv i pl l w kd wr lD j e aa fx lr ps pa pc eJ sa sc)(D:v.ownBlock=some g5\/g5=wr.heap.size+1)(k:∀x∈lr,xw v.ownBlock x):∀x∈lr,xw (Value.slice (some ⟨g5,0,none⟩) m aT).ownBlock x:=fun x C g A e=>by
 simp only [Value.ownBlock,aL] at e;subst e
 rcases D with e|e
 ·exact k x C g5 A e
 have:=(h.pt.rep x C).lt g5 A;omega
def tR.grownP{l kd e}(h:tR base b s tv d kv rv pv i pl l w kd wr lD j e aa fx lr ps pa pc eJ sa sc)(D:base<=wr.heap.size)(I:base<=b)(V:base<=w.heap.size)(C:(wr.alloc o).grownBy w5 (Value.slice pa ps.length pc).ownBlock)(R:w5.ownsRow w.heap.size 3 1 (.slice (some ⟨g5,0,none⟩) (ps.length+1) aT) (ps.length+1) ((ps.map fun n:Nat=>Value.int .i64 n)++[.int .i64 m]))(Q:(Value.slice pa ps.length pc).ownBlock=some g5\/g5=wr.heap.size+1):
  aE w5 w.heap.size (u3 kd (PP s i) pa ps.length pc sa eJ.length sc) 255/\tR base b s tv d kv rv pv i pl l w kd (w5.setCell ⟨w.heap.size,6,none⟩ (.slice (some ⟨g5,0,none⟩) (ps.length+1) aT)) lD j e aa fx lr (ps++[m]) (some ⟨g5,0,none⟩) aT eJ sa sc:=by
 have el:(ps++[m]).length=ps.length+1:=ar;have U:an wr (wr.alloc o):=bj.alloc aD _;have H:=h.below U D I;obtain ⟨f1,f2,f3,f4⟩:=h.grow (u:=.slice (some ⟨g5,0,none⟩) (ps.length+1) aT) (c:=6) D I V C (fun k A=>(h.prow.lt k A).1) (gB h.prow h.rs.blk au) (gB h.prow h.box au) (fun k A=>by
  obtain ⟨Y,hc⟩:=Cw h.pt.row A;exact gB h.prow hc au) h.dp
 refine ⟨f4,f1,f2,f3,?_,h.nb,?_,?_,?_,h.ds,h.sfx,h.new,h.blt,h.tvl⟩
 ·rw [el];exact f4.set 6 _
 ·rw [el,List.map_append];exact bN R f4 au _ _
 ·refine bN ?_ f4 au _ _;exact qp H.srow (fun g cs f J ho=>C.block g (lt_of_some J) (dH H.prow J au))
 ·rw [el];exact Cx h Q h.dp
def tR.grownS{l kd e}(h:tR base b s tv d kv rv pv i pl l w kd wr lD j e aa fx lr ps pa pc eJ sa sc)(D:base<=wr.heap.size)(I:base<=b)(V:base<=w.heap.size)(C:(wr.alloc o).grownBy w5 (Value.slice sa eJ.length sc).ownBlock){t}(R:w5.ownsRow w.heap.size 259 3 (.slice (some ⟨g5,0,none⟩) (eJ.length+1) aT) (eJ.length+1) (bC eJ++eW t))(Q:(Value.slice sa eJ.length sc).ownBlock=some g5\/g5=wr.heap.size+1):
  aE w5 w.heap.size (u3 kd (PP s i) pa ps.length pc sa eJ.length sc) 255/\tR base b s tv d kv rv pv i pl l w kd (w5.setCell ⟨w.heap.size,7,none⟩ (.slice (some ⟨g5,0,none⟩) (eJ.length+1) aT)) lD j e aa fx lr ps pa pc (eJ++[t]) (some ⟨g5,0,none⟩) aT:=by
 have el:(eJ++[t]).length=eJ.length+1:=ar;have U:an wr (wr.alloc o):=bj.alloc aD _;have H:=h.below U D I;obtain ⟨f1,f2,f3,f4⟩:=h.grow (u:=.slice (some ⟨g5,0,none⟩) (eJ.length+1) aT) (c:=7) D I V C (fun k A=>(h.srow.lt k A).1) (gB h.srow h.rs.blk au) (gB h.srow h.box au) (fun k A=>by
  obtain ⟨Y,hc⟩:=Cw h.pt.row A;exact gB h.srow hc au) h.ds
 refine ⟨f4,f1,f2,f3,?_,h.nb,?_,?_,h.dp,?_,h.sfx,h.new,h.blt,h.tvl⟩
 ·rw [el];exact f4.set 7 _
 ·refine bN ?_ f4 au _ _;exact qp H.prow (fun g cs f J ho=>C.block g (lt_of_some J) (dH H.srow J au))
 ·rw [el];unfold bC;rw [cT];have:=bN R f4 au 7 (.slice (some ⟨g5,0,none⟩) (eJ.length+1) aT)
  simpa [bC] using this
 ·rw [el];exact Cx h Q h.ds
end
variable {aA aU:Prop} {signs:List ae} {k j m f:Nat} {pl:List PV} {ps:List Nat} {eJ:List Tk}
def Oo (h:aA:=by
 rw [List.map_append];exact cG.snoc (Tr.le _ aj k) _ _ (cG.mono (fun n x A=>Tr.le _ aj (Tr.more pl t g _ _ A)) _ _ h2)):aA:=h
def W6(h:Option (Ex×ae×Nat))(y:Ex):Ex:=match h with
 |none=>y
 |some (x,t,p)=>fU t p x y
def mO(T:Nat->ae)(P:Nat->Nat)(signs:List ae)(part:Nat->eI Ex)(k:Nat)(h:Option (Ex×ae×Nat))(j:Nat):eI Ex:=match part j with
 | .error e=> .error e
 | .ok (y,m)=>joinL T P signs part k (W6 h y) m
def u4(T P signs part i):fe T P signs part i=mO T P signs part 512 none i:=by
 unfold fe mO
 cases part i with
 |error e=>rfl
 |ok y=>rfl
def qq{T P part prev}{e:Nat×Nat}(h:part j=.error e):mO T P signs part k prev j=.error e:=by unfold mO;rw [h]
def tS{T P part prev y}(h:part j=.ok (y,m)):mO T P signs part k prev j=joinL T P signs part k (W6 prev y) m:=by unfold mO;rw [h]
def rI{T P part x}(h:gw (T j) signs=true):joinL T P signs part (k+1) x j=mO T P signs part k (some (x,T j,P j)) (j+1):=by
 simp only [joinL,h,if_true];unfold mO
 cases part (j+1) with
 |error e=>rfl
 |ok y=>rfl
def Cy{T P part x}(h:gw (T j) signs=false):joinL T P signs part (k+1) x j=.ok (x,j):=by
 simp [joinL,h]
def pC:∀(rs:List (ae×Nat×Ex)) (h:Ex) (t:ae) (p:Nat) (y:Ex),ec h (rs++[(t,p,y)])=fU t p (ec h rs) y
 | [],_,_,_,_=>rfl
 |(t',p',y')::rs,h,t,p,y=>by
  simp only [List.cons_append,ec];exact pC rs _ t p y
def cG.snoc{R m y}(k:R m y):∀(ns:List Nat)(xs:List Ex),cG R ns xs->cG R (ns++[m]) (xs++[y])
 | [],[],_=>⟨k,trivial⟩
 |n::ns,x::xs,h=>⟨h.1,cG.snoc k ns xs h.2⟩
 | [],_::_,h=>h.elim
 |_::_,[],h=>h.elim
def aaM:Tk:=⟨[],0,false⟩
def sgnT(r:ae×Nat×Ex):Tk:=⟨bJ r.1,r.2.1,false⟩
def kH(pl:List PV)(ps:List Nat)(eJ:List Tk)(x:Ex):Prop:=
 ∃h ns A rs f,ps=h::ns/\Tr pl f h A/\cG (Tr pl f) ns (rs.map fun r=>r.2.2)/\eJ=aaM::rs.map sgnT/\(∀r∈rs,r.1=sg 38\/r.1=sg 45)/\x=ec A rs
def kH.one{y}(h:Tr pl f m y):kH pl [m] [aaM] y:=⟨m,[],y,[],f,rfl,h,trivial,rfl,by simp,rfl⟩
def kH.snoc{t x}(h:kH pl ps eJ x){y}(k:Tr (pl++t) f m y)(tt p)(I:tt=sg 38\/tt=sg 45):kH (pl++t) (ps++[m]) (eJ++[⟨bJ tt,p,false⟩]) (fU tt p x y):=by
 obtain ⟨J,ns,Q,rs,g,rfl,h1,h2,rfl,D,rfl⟩:=h;refine ⟨J,ns++[m],Q,rs++[(tt,p,y)],g+f,rfl,Tr.le _ aj (Tr.more pl t g _ _ h1),?_,?_,?_,?_⟩
 ·exact Oo
 ·rw [List.map_append];rfl
 ·intro r C
  rcases aQ.1 C with C|C
  ·exact D r C
  rw [aR] at C;subst C;exact I
 rw [pC]
def kH.chain{x}(h:kH pl ps eJ x)(C:ps.length≠1)(p):∃f,Tr (pl++[⟨4,[],em,em,p,0,ps,eJ⟩]) f pl.length x:=by
 obtain ⟨D,ns,I,rs,g,rfl,h1,h2,rfl,A,rfl⟩:=h;refine ⟨g+1,_,u0,.inr (.inr (.inr (.inl ⟨rfl,rfl,D,ns,I,rs,rfl,Tr.more pl _ g _ _ h1,cG.mono (Tr.more pl _ g) _ _ h2,rfl,⟨A,?_⟩,rfl⟩)))⟩;rintro rfl
 cases ns with
 |nil=>exact C rfl
 |cons n ns=>exact h2.elim
def kH.alone{x:Ex}(h:kH pl [m] eJ x):∃f,Tr pl f m x:=by
 obtain ⟨A,ns,C,rs,g,e,h1,h2,rfl,_,rfl⟩:=h;simp only [kO] at e;obtain ⟨rfl,rfl⟩:=e
 cases rs with
 |nil=>exact ⟨g,h1⟩
 |cons r rs=>exact h2.elim
