import Derived.Test.YtlbpnlngckgcbaaGreatDoorM26
import Derived.Test.YtlbpnlngckgcbaaGreatDoorM24
import Derived.Shelf.Sort.Plain
import Derived.Shelf.Slices.In.SortNone
set_option linter.all false
set_option maxHeartbeats 4000000
set_option maxRecDepth 100000
namespace Go.Proofs
open Go.Shelf
def Tryz.lays190_ren:Go.Shelf.Ren:=⟨fun|190=>64|125=>109|258=>108|128=>166|129=>167|302=>157|303=>158|304=>159|305=>160|306=>161|307=>162|308=>163|309=>164|310=>165|333=>213|329=>214|330=>215|334=>216|335=>217|336=>218|344=>247|n=>n,fun|31=>22|9=>9|3=>3|46=>215|0=>0|51=>313|53=>192|4=>4|183=>305|182=>304|131=>310|5=>5|218=>365|222=>369|228=>395|229=>396|n=>n,fun|n=>n⟩
def Tryz.lays190:Go.Proofs.Lays.n190 Tryz.prog Tryz.lays190_ren:={
 mixed:=aM
 f125:=Tryz.func109.trans (congrArg some aM)
 f128:=Tryz.func166.trans (congrArg some aM)
 f129:=Tryz.func167.trans (congrArg some aM)
 f190:=Tryz.func64.trans (congrArg some aM)
 f258:=Tryz.func108.trans (congrArg some aM)
 f302:=Tryz.func157.trans (congrArg some aM)
 f303:=Tryz.func158.trans (congrArg some aM)
 f304:=Tryz.func159.trans (congrArg some aM)
 f305:=Tryz.func160.trans (congrArg some aM)
 f306:=Tryz.func161.trans (congrArg some aM)
 f307:=Tryz.func162.trans (congrArg some aM)
 f308:=Tryz.func163.trans (congrArg some aM)
 f309:=Tryz.func164.trans (congrArg some aM)
 f310:=Tryz.func165.trans (congrArg some aM)
 f329:=Tryz.func214.trans (congrArg some aM)
 f330:=Tryz.func215.trans (congrArg some aM)
 f333:=Tryz.func213.trans (congrArg some aM)
 f334:=Tryz.func216.trans (congrArg some aM)
 f335:=Tryz.func217.trans (congrArg some aM)
 f336:=Tryz.func218.trans (congrArg some aM)
 f344:=Tryz.func247.trans (congrArg some aM)
 t0:=Tryz.underlying0
 a0:=Tryz.isAgg0
 z0:=Tryz.sizeOf0
 v0:=Tryz.zeroValue0
 t3:=Tryz.underlying3
 a3:=Tryz.isAgg3
 z3:=Tryz.sizeOf3
 v3:=Tryz.zeroValue3
 t4:=Tryz.underlying4
 a4:=Tryz.isAgg4
 z4:=Tryz.sizeOf4
 v4:=Tryz.zeroValue4
 t5:=Tryz.underlying5
 a5:=Tryz.isAgg5
 z5:=Tryz.sizeOf5
 v5:=Tryz.zeroValue5
 t9:=Tryz.underlying9
 a9:=Tryz.isAgg9
 z9:=Tryz.sizeOf9
 v9:=Tryz.zeroValue9
 t31:=Tryz.underlying22
 a31:=Tryz.isAgg22
 z31:=Tryz.sizeOf22
 v31:=Tryz.zeroValue22
 t46:=Tryz.underlying215
 a46:=Tryz.isAgg215
 z46:=Tryz.sizeOf215
 v46:=Tryz.zeroValue215
 t51:=Tryz.underlying313
 a51:=Tryz.isAgg313
 z51:=Tryz.sizeOf313
 v51:=Tryz.zeroValue313
 t53:=Tryz.underlying192
 a53:=Tryz.isAgg192
 z53:=Tryz.sizeOf192
 v53:=Tryz.zeroValue192
 t131:=Tryz.underlying310
 a131:=Tryz.isAgg310
 z131:=Tryz.sizeOf310
 v131:=Tryz.zeroValue310
 t182:=Tryz.underlying304
 a182:=Tryz.isAgg304
 z182:=Tryz.sizeOf304
 v182:=Tryz.zeroValue304
 t183:=Tryz.underlying305
 a183:=Tryz.isAgg305
 z183:=Tryz.sizeOf305
 v183:=Tryz.zeroValue305
 t218:=Tryz.underlying365
 a218:=Tryz.isAgg365
 z218:=Tryz.sizeOf365
 v218:=Tryz.zeroValue365
 t222:=Tryz.underlying369
 a222:=Tryz.isAgg369
 z222:=Tryz.sizeOf369
 v222:=Tryz.zeroValue369
 t228:=Tryz.underlying395
 a228:=Tryz.isAgg395
 z228:=Tryz.sizeOf395
 v228:=Tryz.zeroValue395
 t229:=Tryz.underlying396
 a229:=Tryz.isAgg396
 z229:=Tryz.sizeOf396
 v229:=Tryz.zeroValue396}
end Go.Proofs
namespace Go.Proofs.YtlbpnlngckgcbaaGreatDoor
open Go.RowKit Go.PlainAid Go.Proofs.Tryz
def gG(l:List ByteArray):List ByteArray:=((l.map bB).mergeSort fun x y=>decide (x<=y)).map mk
def oB(l:List ByteArray):(gG l).length=l.length:=by simp [gG]
def Mm(l:List ByteArray):dM (gG l)=((l.map bB).mergeSort fun x y=>decide (x<=y)).map encStr:=by
 simp only [dM,gG,fT]
 rfl
def EB(base:Nat)(v:Value)(l:List ByteArray)(w:World)(h:w.ownsRow base 9 1 v l.length (dM l))(ab:l.length<=100000):
  Calls Tryz.prog 64 #[v] w fun e w'=>e=bj (.tuple #[])/\w'.ownsRow base 9 1 v l.length (dM (gG l))/\bK (fun k=>v.ownBlock=some k) w w':=by
 obtain ⟨h0,⟨rfl,h2⟩|⟨g,cap,D,rfl,R,A,U,V,hs,Q⟩⟩:=h
 ·have e:=iF h2;subst e;refine (Any.slices_Sort_string_none Tryz.lays190 none 0 w).mono ?_;rintro e w' ⟨rfl,rfl⟩;exact ⟨rfl,by rw [show gG []=[] from by simp [gG]];exact bQ,⟨rfl,rfl,rfl,bV _,fun _ _ _=>rfl⟩⟩
 ·have J:g<w.heap.size:=lt_of_some A;rw [Nat.mul_one] at hs Q;have key:=Any.slices_Sort_string Tryz.lays190 g 0 cap (l.map bB) w (fun j I=>by
   have C:j<l.length:=by simpa using I
   have hc:D[j]? =some (aj l[j]):=by
    have:(dM l)[j]? =some (aj l[j]):=by simp [dM,C]
    rw [<-Q,vs,if_pos C] at this;rw [<-Array.getElem?_toList];exact this
   refine ⟨?_,?_⟩
   ·rw [pH];simp only [World.cell?,A,hc];rw [getElem!_pos _ j (by simpa using C)];simp [bB]
   exact aL.fz A _) J aS
  rw [bO] at key;refine key.mono ?_;rintro e w' ⟨rfl,n,os,rfl⟩;have Z:(Sort.grow (Sort.putRow encStr (Sort.ahead w n) g 0 ((l.map bB).mergeSort fun x y=>decide (x<=y)).toArray) os).heap[g]? =some (.cells (Sort.putCells encStr 0 ((l.map bB).mergeSort fun x y=>decide (x<=y)).toArray D) 9 (0,0)):=by
   rw [Sort.heap_grow_old _ _ (by simp [Sort.putRow,Sort.mapBlock,Sort.ahead];exact J)];simp [Sort.putRow,Sort.mapBlock,Sort.ahead,Array.getElem?_modify,A,Sort.onCells]
  refine ⟨rfl,⟨by simp [dM,oB],.inr ⟨g,cap,_,rfl,R,Z,U,V,by simp [Sort.putCells,hs],?_⟩⟩,⟨rfl,rfl,rfl,by simp [Sort.putRow,Sort.mapBlock,Sort.ahead],fun i hi hn=> ?_⟩⟩
  ·rw [Mm];have ac:((l.map bB).mergeSort fun x y=>decide (x<=y)).length=l.length:=au;generalize ((l.map bB).mergeSort fun x y=>decide (x<=y))=ad at*;apply List.ext_getElem?;intro j;rw [vs]
   by_cases I:j<l.length
   ·rw [if_pos ai,Array.getElem?_toList,Sort.putCells,Array.getElem?_mapIdx,AO ai,Option.map_some,if_pos aS,List.getElem?_map,aI ai,Option.map_some,Nat.sub_zero,getElem!_pos _ j aS];simp
   rw [if_neg ai,jA aS]
  rw [Sort.heap_grow_old _ _ (by simp [Sort.putRow,Sort.mapBlock,Sort.ahead];exact hi)];have Y:¬g=i:=fun e=>hn (by simp [Value.ownBlock,e])
  simp [Sort.putRow,Sort.mapBlock,Sort.ahead,Array.getElem?_modify,Y]
end Go.Proofs.YtlbpnlngckgcbaaGreatDoor
namespace Go.Proofs.YtlbpnlngckgcbaaGreatDoor
open Go.RowKit Go.PlainAid Go.Proofs.Tryz
def Nw(t:Tu):ae:=((((t.kind++sg 58)++t.id)++sg 35)++t.rel)++sg 64++wE t.sub t.who t.of
def mD(t:Tu):Prop:=t.kind.size+t.id.size+t.rel.size+t.sub.size+t.who.size+t.of.size<=500
def EC(b:Nat)(w:af)(mv lv gv:ag)(gs:List Tu)(h:PU w b mv lv gv gs)(aJ:∀t∈gs,mD t):
  Calls prog 29 #[bc b] w (RG (gG (gs.map Nw)) w):=by
 obtain ⟨ta,tc,rfl⟩:=ax h.row;have aP:=h.most;obtain ⟨c0,c1,c2⟩:=three h.blk;go_enter func29,ntmps29;go_wp2_with fail
 go_loopw [3,11] (fun aN V wr=>∃k:Nat,k<=gs.length/\V=ar k/\an w wr/\wr.ownsRow w.heap.size 9 1 aN k (dM ((gs.take k).map Nw))) (fun _ V _=>gs.length-(intOf V).toNat)
 ·exact H9
 ·obtain ⟨k,ae,rfl,D,A⟩:=hrel;obtain ⟨aL,aM,rfl⟩:=ax A;have al:=D.size;have Q:=h.below D;clear c0 c1 c2
  by_cases U:k<gs.length
  ·have az:(k:Int)<(gs.length:Int):=by omega
   obtain ⟨g,c,e1,hc⟩:=bo kX 6 (fun _=>rfl) Q.row k gs[k] (aI U);simp only [aK,bY] at e1;obtain ⟨rfl,rfl⟩:=e1;have au:=(by rw [cD U,dM,cK,cK];rfl:dM ((gs.take (k+1)).map Nw)=dM ((gs.take k).map Nw)++[aj (Nw gs[k])]);have ak:=aJ gs[k] (bu U);generalize gs[k]=y at*;have k0:wr.cell? (aC g (k*6))=some (aj y.kind):=hc 0 _ ai rfl;refine vq ?_;intro k1 k2 k3 k4 k5;have C:=fun w'=>H3 y.kind y.id y.rel y.sub y.who y.of w' ak
   change (∀w',Calls _ _ _ w' fun e w''=>e=bj (aj (Nw y))/\_) at C;generalize Nw y=I at*;clear Q hc ak;go_wp2_with fail;refine (C _).mono ?_;rintro e w1 ⟨rfl,J⟩;have Y:=(D.alloc al (cB aj y.kind aj y.id aj y.rel aj y.sub aj y.who aj y.of)).trans (J.mono aS);have ab:=aB (A.alloc (cB aj y.kind aj y.id aj y.rel aj y.sub aj y.who aj y.of)) J;have aH:=Y.size;clear J C k0 k1 k2 k3 k4 k5;go_wp2_with (at_builtin;go_must (refine ez rfl underlying22 Tryz.infoStr w.heap.size (ab.alloc _) w1.heap.size 1 [aj I] (w1.heap.size+1) ?hrest))
   case hrest=>
    intro g5 bf w5 aE ad ay aO;have Z:=ab.alloc (bE aj I);have am:=cA (Y.alloc aH (bE aj I)) ad aS (fun k ae=>(Z.lt k ae).1);clear Z ad ay;go_wp2;go_roundw
    ·exact ⟨k+1,ai,by go_num,am,by rw [au,List.map_take];exact aE⟩
    simp [intOf];omega
  have az:¬((k:Int)<(gs.length:Int)):=ai;rw [cY ai] at A;have ah:k=(gs.map Nw).length:=by rw [bO];omega
  have C:=EB w.heap.size (aw aL k aM) (gs.map Nw) wr (by rw [<-ah];exact A) (by rw [bO];omega);clear Q ah;have av:=oB (gs.map Nw);generalize gG (gs.map Nw)=R at*;go_wp2_with fail;refine C.mono ?_;rintro e aQ ⟨rfl,aG,ac⟩;have ap:=D.trans (ac.below al (fun q aF=>(A.lt q aF).1));clear ac C;go_wp2;go_ret;exact ⟨_,rfl,ap,by rw [av];exact aG⟩
def leB(a b:ae):Prop:=bB a<=bB b
def J9(a b:ae):Ez a b=true↔bB a<bB b:=by
 unfold Ez;rw [bytesLess_eq,aT,aT];simp
def Ie{a b:ae}(h:Ez a b=false):leB b a:=by
 have:¬bB a<bB b:=fun k=>by rw [(J9 a b).2 k] at h;simp at h
 exact List.not_lt.1 this
def YN{a b:ae}(h:Ez a b=true):leB a b:=List.le_of_lt ((J9 a b).1 h)
def zF(l:List ae)(x:ae):(lg l x).Perm (x::l):=by
 unfold lg;refine List.perm_middle.trans (List.Perm.cons x ?_);rw [H8]
def tC(x:ae):∀(l:List ae),l.Pairwise leB->(lg l x).Pairwise leB
 | [],_=>by simp [lg]
 |y::l,h=>by
  have J:=tC x l (List.pairwise_cons.1 h).2;unfold lg at J ⊢
  cases C:Ez y x
  ·simp only [iE,uR,C,bJ,a8,List.nil_append];refine List.pairwise_cons.2 ⟨fun z A=> ?_,h⟩;have I:=Ie C
   rcases cG.1 A with rfl|A
   ·exact I
   exact List.le_trans I ((List.pairwise_cons.1 h).1 z A)
  simp only [iE,uR,C,if_true,List.cons_append];refine List.pairwise_cons.2 ⟨fun z A=> ?_,J⟩;have D:=(zF l x).mem_iff.1 (A:z∈lg l x)
  rcases cG.1 D with rfl|D
  ·exact YN C
  exact (List.pairwise_cons.1 h).1 z D
def sC(l:List ae):∀a,a.Pairwise leB->(l.foldl lg a).Pairwise leB/\(l.foldl lg a).Perm (a++l):=by
 induction l with
 |nil=>intro a h;exact ⟨h,au⟩
 |cons x l ih=>
  intro a h;obtain ⟨h1,h2⟩:=ih (lg a x) (tC x a h);refine ⟨h1,h2.trans ?_⟩;exact ((zF a x).append_right l).trans (List.perm_middle (l₁:=a) (a:=x) (l₂:=l)).symm
def wM:∀(l m:List ae),l.Pairwise leB->m.Pairwise leB->l.Perm m->l=m
 | [],m,_,_,h=>(List.nil_perm.1 h).symm
 |x::l,[],_,_,h=>absurd h au
 |x::l,y::m,h1,h2,h=>by
  have D:x=y:=by
   have A:x∈y::m:=h.mem_iff.1 au;have C:y∈x::l:=h.mem_iff.2 au
   rcases cG.1 A with e|A
   ·exact e
   rcases cG.1 C with e|C
   ·exact e.symm
   have e:=List.le_antisymm ((List.pairwise_cons.1 h1).1 y C) ((List.pairwise_cons.1 h2).1 x A);rw [<-cX x,<-cX y,e]
  subst D;rw [wM l m (List.pairwise_cons.1 h1).2 (List.pairwise_cons.1 h2).2 ((List.perm_cons x).1 h)]
def oC(l:List ae):gG l=jn l:=by
 obtain ⟨h1,h2⟩:=sC l [] List.Pairwise.nil;refine wM _ _ ?_ h1 ?_
 ·have:=List.pairwise_mergeSort (le:=fun x y:List UInt8=>decide (x<=y)) (fun a b c h k=>by simp only [fF] at*;exact List.le_trans h k) (fun a b=>by have:=List.le_total a b;simpa using this) (l.map bB);unfold gG;rw [List.pairwise_map];refine this.imp (fun {a b} h=> ?_);unfold leB;rw [j2,j2]
  simpa using h
 have:=(List.mergeSort_perm (l.map bB) (fun x y=>decide (x<=y))).map mk;refine List.Perm.trans this ?_;rw [fT,show (mk ∘ bB)=id from rfl,List.map_id];exact h2.symm
variable {gs:List Tu} {ss:List ae}
def tD(h:sy gs ss):gG (gs.map Nw)=jn ss/\∀t∈gs,mD t:=by
 refine ⟨?_,fun t A=> ?_⟩
 ·rw [oC,h.eq,fT]
  congr 1
  conv=>rhs;rw [<-List.map_id ss]
  exact List.map_congr_left (fun s hs=>wF (h.ok s hs))
 rw [h.eq] at A;obtain ⟨s,hs,rfl⟩:=aU.1 A;obtain ⟨C,_,hl⟩:=lB (h.ok s hs);have hl:=congrArg List.length hl;have D:(if (b8 s).1.of.size=0 then [] else (35:UInt8)::bB (b8 s).1.of).length≥(b8 s).1.of.size:=by
  by_cases h0:(b8 s).1.of.size=0
  ·rw [h0];exact gS _
  rw [if_neg h0,iK,bk];omega
 simp only [bg,List.length_cons,bk] at hl;unfold mD tR;omega
def ED(R U:Nat)(J Q:ag)(l:List ae)(w:af)(h1:w.ownsRow R 9 1 J l.length (dM l))(h2:w.ownsRow U 9 1 Q l.length (dM l))(am:l.length<=100000):
  Calls prog 88 #[J,Q] w fun e w'=>e=bj (.bool true)/\an w w':=by
 obtain ⟨ac,c1,rfl⟩:=ax h1;obtain ⟨ad,c2,rfl⟩:=ax h2;go_enter func88,ntmps88;go_wp2_with fail
 go_loopw [5] (fun C wr=>∃k:Nat,k<=l.length/\C=ar k/\an w wr) (fun C _=>l.length-(intOf C).toNat)
 ·exact ⟨0,ai,rfl,aA _ _⟩
 ·obtain ⟨k,al,rfl,A⟩:=hrel
  by_cases Y:k<l.length
  ·have V:(k:Int)<(l.length:Int):=by omega
   have I:(dM l)[k]? =some (aj l[k]):=by simp [dM,Y]
   have Z:=aB h1 A;have ab:=aB h2 A;obtain ⟨ah,d1,e1,k1⟩:=aZ Z k _ I;obtain ⟨ak,d2,D,ap⟩:=aZ ab k _ I;simp only [aK,bY] at e1 D;obtain ⟨rfl,rfl⟩:=e1;obtain ⟨rfl,rfl⟩:=D;generalize l[k]=x at*;go_wp2_with fail
   go_region
   go_wp2_with fail;exact ⟨⟨k+1,ai,by go_num,A.drew⟩,by simp [intOf];omega⟩
  have V:¬((k:Int)<(l.length:Int)):=ai;go_wp2;go_ret;exact ⟨rfl,A⟩
