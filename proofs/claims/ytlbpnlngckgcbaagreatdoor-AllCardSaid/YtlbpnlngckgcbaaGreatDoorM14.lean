import Derived.Test.YtlbpnlngckgcbaaGreatDoorM08
set_option linter.all false
set_option maxHeartbeats 4000000
set_option maxRecDepth 100000
namespace Go.Proofs.YtlbpnlngckgcbaaGreatDoor
open Go.RowKit Go.PlainAid Go.Proofs.Tryz
variable {aD bq:Prop} {w w' wr w1 w5:af} {base size n g b d i j aa pc sc e' c g5 be m:Nat} {T:TypeId} {v tv kv rv pv k7:ag} {xs:List ag} {s:ae} {pl fN:List PV} {lr:List PX} {ps:List Nat} {pa sa:Option Addr} {fL:List Tk} {o:Obj} {row:Option Nat} {cs:Array ag}
abbrev vN(a0:Int)(a1:Int)(a2:Option Addr)(a3:Nat)(a4:Nat)(a5:Option Addr)(a6:Nat)(a7:Nat):Array ag:=#[au a0,aA none 0 0,an ⟨#[]⟩,an ⟨#[]⟩,au a1,au 0,aA a2 a3 a4,aA a5 a6 a7]
def Pk (h:aD:=by
 refine ⟨h.1,?_⟩
 rcases h.2 with h|⟨g,cap,A,h1,h2,C,D⟩
 ·exact .inl h
 exact .inr ⟨g,cap,A,h1,h2,(k g A (0,0) C (by rw [h1];rfl)).trans C,D⟩):aD:=h
def yF(o:Option Nat)(x:PX):Prop:=∀g,(x.2.1.ownBlock=some g\/x.2.2.1.ownBlock=some g\/x.2.2.2.ownBlock=some g)->o≠some g
def mw.lt{x}(h:mw w x):∀g,(x.2.1.ownBlock=some g\/x.2.2.1.ownBlock=some g\/x.2.2.2.ownBlock=some g)->g<w.heap.size:=fun g A=>by
 rcases A with A|A|A
 ·exact (h.g.lt g A).2
 ·exact (h.p.lt g A).2
 exact (h.s.lt g A).2
def mw.keep{x}(h:mw w x)(k:∀g cs T f,w.heap[g]? =some (.cells cs T f)->(T=257\/T=3\/T=259)->(x.2.1.ownBlock=some g\/x.2.2.1.ownBlock=some g\/x.2.2.2.ownBlock=some g)->w'.heap[g]? =w.heap[g]?):mw w' x:=by
 have f:∀{T:TypeId} {size:Nat} {v:ag} {n:Nat} {xs:List ag},w.ownsRow 0 T size v n xs->(∀g cs f,w.heap[g]? =some (.cells cs T f)->v.ownBlock=some g->w'.heap[g]? =w.heap[g]?)->w'.ownsRow 0 T size v n xs:=by
  intro T size v n xs h k;exact Pk
 exact ⟨f h.g (fun g cs f I ho=>k g cs _ f I (.inl rfl) (.inl ho)),f h.p (fun g cs f I ho=>k g cs _ f I (.inr (.inl rfl)) (.inr (.inl ho))),f h.s (fun g cs f I ho=>k g cs _ f I (.inr (.inr rfl)) (.inr (.inr ho)))⟩
def qL(h:w.ownsRow base T size v n xs)(k:∀g cs f,w.heap[g]? =some (.cells cs T f)->v.ownBlock=some g->w'.heap[g]? =w.heap[g]?):w'.ownsRow base T size v n xs:=by
 exact Pk
def DF(h:w.ownsRow base T size v n xs)(k:v.ownBlock=some g):∃A,aL w g A T:=by
 rcases h.2 with ⟨e,_⟩|⟨g',cap,A,h1,h2,C,D⟩
 ·rw [e] at k;cases k
 rw [h1] at k;simp only [Value.ownBlock,aR] at k;subst k;exact ⟨A,C⟩
structure uG(base b:Nat)(s:ae)(tv:ag)(d:Nat)(kv rv pv:ag)(i:Nat)(pl:List PV)(l:List PX)(w:af)(kd:Nat)(wr:af)(k7:ag)(j e aa:Nat)(fN:List PV)(lr:List PX)(ps:List Nat)(pa:Option Addr)(pc:Nat)(fL:List Tk)(sa:Option Addr)(sc:Nat):Prop where
 fr:Fr base b w wr pv k7
 rs:RS wr b s tv j d e aa kv rv k7
 pt:PT base wr k7 fN lr
 box:aL wr w.heap.size (vN kd (PP s i) pa ps.length pc sa fL.length sc) 255
 nb:k7.ownBlock≠some w.heap.size
 prow:wr.ownsRow w.heap.size 3 1 (aA pa ps.length pc) ps.length (ps.map fun n:Nat=>au n)
 srow:wr.ownsRow w.heap.size 259 3 (aA sa fL.length sc) fL.length (bL fL)
 dp:∀x∈lr,yF (Value.slice pa ps.length pc).ownBlock x
 ds:∀x∈lr,yF (Value.slice sa fL.length sc).ownBlock x
 sfx:∃t,fN=pl++t
 new:∃tl,lr=l++tl/\∀x∈tl,jS w.heap.size x
 blt:b<w.heap.size
 tvl:∀g,tv.ownBlock=some g->g<w.heap.size
def uG.below{l kd e}(h:uG base b s tv d kv rv pv i pl l w kd wr k7 j e aa fN lr ps pa pc fL sa sc)(k:am wr w')(C:base<=wr.heap.size)(D:base<=b):uG base b s tv d kv rv pv i pl l w kd w' k7 j e aa fN lr ps pa pc fL sa sc:=
 ⟨h.fr.trans (Fr.of_below k C),h.rs.below k,h.pt.but (But.of_below k) h.rs.blk D C,h.box.below k,h.nb,ay h.prow (fun g cs f _ A=>k.block g (lt_of_some A)),ay h.srow (fun g cs f _ A=>k.block g (lt_of_some A)),h.dp,h.ds,h.sfx,h.new,h.blt,h.tvl⟩
def uG.but{l kd e}(h:uG base b s tv d kv rv pv i pl l w kd wr k7 j e aa fN lr ps pa pc fL sa sc)(k:But b wr w')(A:base<=wr.heap.size)(C:base<=b){j' aa'}(r:RS w' b s tv j' d e' aa' kv rv k7):uG base b s tv d kv rv pv i pl l w kd w' k7 j' e' aa' fN lr ps pa pc fL sa sc:=
 have f:=Fr.of_but (pv:=k7) k C A
 ⟨h.fr.trans f,r,h.pt.but k h.rs.blk C A,h.box.but k (by have:=h.blt;omega),h.nb,f.row h.prow h.rs.blk h.pt.row ax ax,f.row h.srow h.rs.blk h.pt.row ax ax,h.dp,h.ds,h.sfx,h.new,h.blt,h.tvl⟩
def uG.call{l:List PX}{kd:Nat}{e:Nat}{C:ag}{Q e1 D:Nat}{pl1 t:List PV}{l1 tl:List PX}(h:uG base b s tv d kv rv pv i pl l w kd wr k7 j e aa fN lr ps pa pc fL sa sc)(f:Fr base b wr w1 k7 C)(p:PT base w1 C (fN++t) (lr++tl))(r:RS w1 b s tv Q d e1 D kv rv C)(J:∀x∈tl,jS wr.heap.size x):uG base b s tv d kv rv pv i pl l w kd w1 C Q e1 D (fN++t) (lr++tl) ps pa pc fL sa sc:=by
 have U:=h.box.lt;have I:∀{T:TypeId} {size:Nat} {v:ag} {n:Nat} {xs:List ag},wr.ownsRow w.heap.size T size v n xs->(∀x∈lr,yF v.ownBlock x)->∀x∈lr++tl,yF v.ownBlock x:=by
  intro T size v n xs ho ha x A;rw [aW] at A
  rcases A with A|A
  ·exact ha x A
  intro g R e;have:=(ho.lt g e).2;have:=J x A g R;omega
 refine ⟨h.fr.trans f,r,p,f.blk h.box (by have:=h.blt;omega) h.nb,fun e=> ?_,f.row h.prow h.rs.blk h.pt.row ax ax,f.row h.srow h.rs.blk h.pt.row ax ax,I h.prow h.dp,I h.srow h.ds,?_,?_,h.blt,h.tvl⟩
 ·rcases f.own _ e with e|e
  ·exact h.nb e
  omega
 ·obtain ⟨t0,e⟩:=h.sfx;exact ⟨t0++t,by rw [e,ct]⟩
 obtain ⟨t0,e,k⟩:=h.new;refine ⟨t0++tl,by rw [e,ct],fun x A=> ?_⟩;rw [aW] at A
 rcases A with A|A
 ·exact k x A
 exact (J x A).mono ai
def uG.grow{l kd e u}(h:uG base b s tv d kv rv pv i pl l w kd wr k7 j e aa fN lr ps pa pc fL sa sc)(Z:base<=wr.heap.size)(ab:base<=b)(J:base<=w.heap.size)(Q:(wr.alloc o).grownBy w5 row)(I:∀k,row=some k->w.heap.size<=k)(n1:row≠some b)(n2:row≠some w.heap.size)(ah:∀k,k7.ownBlock=some k->row≠some k)(ai:∀x∈lr,yF row x):
  Fr base b w (w5.setCell (aC w.heap.size c) u) pv k7/\RS (w5.setCell (aC w.heap.size c) u) b s tv j d e aa kv rv k7/\PT base (w5.setCell (aC w.heap.size c) u) k7 fN lr/\aL w5 w.heap.size (vN kd (PP s i) pa ps.length pc sa fL.length sc) 255:=by
 have V:am wr (wr.alloc o):=bo.alloc aH _;have H:=h.below V Z ab;have keep:∀g,g<(wr.alloc o).heap.size->row≠some g->w5.heap[g]? =(wr.alloc o).heap[g]? :=fun g D ag=>Q.block g D (fun e=>ag e.symm)
 have R:aL w5 w.heap.size (vN kd (PP s i) pa ps.length pc sa fL.length sc) 255:=(keep _ H.box.lt n2).trans H.box;have Y:=(keep _ H.rs.blk.lt n1).trans H.rs.blk;have ae:b≠w.heap.size:=by have:=h.blt;omega
 refine ⟨⟨(cA H.fr.below Q (aV J H.fr.below.size) (fun k ad=>aV J (I k ad))).setCell J _,fun g D ac af=> ?_,h.fr.own⟩,⟨aL.other Y ae _,?_,h.rs.gd,h.rs.fm,h.rs.sz⟩,⟨h.pt.fst,?_,fun x U=> ?_⟩,R⟩
 ·have e1:g≠w.heap.size:=by omega
  exact (ea _ _ _ _ e1).trans ((keep g (cM D H.fr.below.size) (fun e=>by have:=I g e;omega)).trans (H.fr.keep g D ac af))
 ·refine bU (T:=255) ?_ R ax _ _;refine qL H.rs.tok (fun g cs f A ho=>keep g (lt_of_some A) (fun e=> ?_));have:=h.tvl g ho;have:=I g e;omega
 ·refine Be ?_ h.nb _;exact qL H.pt.row (fun g cs f A ho=>keep g (lt_of_some A) (ah g ho))
 ·refine (H.pt.rep x U).keep (fun g cs T f A C ho=> ?_);have e1:g≠w.heap.size:=fun e=>by
   subst e;have:=H.box;unfold aL at this;rw [this] at A;simp only [aR,vD] at A
   rcases C with C|C|C<;>rw [C] at A<;>exact absurd A.2.1 ax
  exact (ea _ _ _ _ e1).trans (keep g (lt_of_some A) (ai x U g ho))
def uG.sign{l kd e}(h:uG base b s tv d kv rv pv i pl l w kd wr k7 j e aa fN lr ps pa pc fL sa sc)(U:base<=w.heap.size)(S:aL wr (w.heap.size+1) cs 259)(ns:(Value.slice sa fL.length sc).ownBlock≠some (w.heap.size+1))(da:∀x∈lr,yF (some (w.heap.size+1)) x)(c u):uG base b s tv d kv rv pv i pl l w kd (wr.setCell (aC (w.heap.size+1) c) u) k7 j e aa fN lr ps pa pc fL sa sc:=by
 have J:=h.blt;refine ⟨⟨h.fr.below.setCell (show base<=w.heap.size+1 by omega) _,fun g C D I=> ?_,h.fr.own⟩,⟨h.rs.blk.other (show b≠w.heap.size+1 by omega) _,?_,h.rs.gd,h.rs.fm,h.rs.sz⟩,⟨h.pt.fst,bU h.pt.row S ax _ _,fun x A=> ?_⟩,h.box.other (show w.heap.size≠w.heap.size+1 by omega) _,h.nb,bU h.prow S ax _ _,Be h.srow ns _,h.dp,h.ds,h.sfx,h.new,h.blt,h.tvl⟩
 ·exact (ea _ _ _ _ (show g≠w.heap.size+1 by omega)).trans (h.fr.keep g C D I)
 ·refine Be h.rs.tok (fun e=> ?_) _;have:=h.tvl (w.heap.size+1) e;omega
 exact (h.pt.rep x A).keep (fun g cs T f Q R ho=>ea _ _ _ _ (fun e=>da x A g ho (by rw [e])))
def DG{l kd e}(h:uG base b s tv d kv rv pv i pl l w kd wr k7 j e aa fN lr ps pa pc fL sa sc)(D:v.ownBlock=some g5\/g5=wr.heap.size+1)(k:∀x∈lr,yF v.ownBlock x):∀x∈lr,yF (Value.slice (some (aP g5)) m be).ownBlock x:=fun x C g A e=>by
 simp only [Value.ownBlock,aR] at e;subst e
 rcases D with e|e
 ·exact k x C g5 A e
 have:=(h.pt.rep x C).lt g5 A;omega
def uG.grownP{l kd e}(h:uG base b s tv d kv rv pv i pl l w kd wr k7 j e aa fN lr ps pa pc fL sa sc)(D:base<=wr.heap.size)(I:base<=b)(V:base<=w.heap.size)(C:(wr.alloc o).grownBy w5 (Value.slice pa ps.length pc).ownBlock)(R:w5.ownsRow w.heap.size 3 1 (aA (some (aP g5)) (ps.length+1) be) (ps.length+1) ((ps.map fun n:Nat=>Value.int .i64 n)++[au m]))(Q:(Value.slice pa ps.length pc).ownBlock=some g5\/g5=wr.heap.size+1):
  aL w5 w.heap.size (vN kd (PP s i) pa ps.length pc sa fL.length sc) 255/\uG base b s tv d kv rv pv i pl l w kd (w5.setCell (aC w.heap.size 6) (aA (some (aP g5)) (ps.length+1) be)) k7 j e aa fN lr (ps++[m]) (some (aP g5)) be fL sa sc:=by
 have el:(ps++[m]).length=ps.length+1:=ar;have U:am wr (wr.alloc o):=bo.alloc aH _;have H:=h.below U D I;obtain ⟨f1,f2,f3,f4⟩:=h.grow (u:=aA (some (aP g5)) (ps.length+1) be) (c:=6) D I V C (fun k A=>(h.prow.lt k A).1) (gP h.prow h.rs.blk ax) (gP h.prow h.box ax) (fun k A=>by
  obtain ⟨Y,hc⟩:=DF h.pt.row A;exact gP h.prow hc ax) h.dp
 refine ⟨f4,f1,f2,f3,?_,h.nb,?_,?_,?_,h.ds,h.sfx,h.new,h.blt,h.tvl⟩
 ·rw [el];exact f4.set 6 _
 ·rw [el,List.map_append];exact bU R f4 ax _ _
 ·refine bU ?_ f4 ax _ _;exact qL H.srow (fun g cs f J ho=>C.block g (lt_of_some J) (dV H.prow J ax))
 ·rw [el];exact DG h Q h.dp
def uG.grownS{l kd e}(h:uG base b s tv d kv rv pv i pl l w kd wr k7 j e aa fN lr ps pa pc fL sa sc)(D:base<=wr.heap.size)(I:base<=b)(V:base<=w.heap.size)(C:(wr.alloc o).grownBy w5 (Value.slice sa fL.length sc).ownBlock){t}(R:w5.ownsRow w.heap.size 259 3 (aA (some (aP g5)) (fL.length+1) be) (fL.length+1) (bL fL++fI t))(Q:(Value.slice sa fL.length sc).ownBlock=some g5\/g5=wr.heap.size+1):
  aL w5 w.heap.size (vN kd (PP s i) pa ps.length pc sa fL.length sc) 255/\uG base b s tv d kv rv pv i pl l w kd (w5.setCell (aC w.heap.size 7) (aA (some (aP g5)) (fL.length+1) be)) k7 j e aa fN lr ps pa pc (fL++[t]) (some (aP g5)) be:=by
 have el:(fL++[t]).length=fL.length+1:=ar;have U:am wr (wr.alloc o):=bo.alloc aH _;have H:=h.below U D I;obtain ⟨f1,f2,f3,f4⟩:=h.grow (u:=aA (some (aP g5)) (fL.length+1) be) (c:=7) D I V C (fun k A=>(h.srow.lt k A).1) (gP h.srow h.rs.blk ax) (gP h.srow h.box ax) (fun k A=>by
  obtain ⟨Y,hc⟩:=DF h.pt.row A;exact gP h.srow hc ax) h.ds
 refine ⟨f4,f1,f2,f3,?_,h.nb,?_,?_,h.dp,?_,h.sfx,h.new,h.blt,h.tvl⟩
 ·rw [el];exact f4.set 7 _
 ·refine bU ?_ f4 ax _ _;exact qL H.prow (fun g cs f J ho=>C.block g (lt_of_some J) (dV H.srow J ax))
 ·rw [el];unfold bL;rw [cN];have:=bU R f4 ax 7 (aA (some (aP g5)) (fL.length+1) be)
  simpa [bL] using this
 ·rw [el];exact DG h Q h.ds
