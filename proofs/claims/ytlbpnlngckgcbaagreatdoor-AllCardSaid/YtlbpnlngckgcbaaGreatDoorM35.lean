import Derived.Test.YtlbpnlngckgcbaaGreatDoorM26
import Derived.Test.YtlbpnlngckgcbaaGreatDoorM24
import Derived.Shelf.Sort.Plain
import Derived.Shelf.Slices.In.SortNone
set_option linter.all false
set_option maxHeartbeats 4000000
set_option maxRecDepth 100000
namespace Go.Proofs
open Go.Shelf YtlbpnlngckgcbaaGreatDoor
def Tryz.lays190_ren:Go.Shelf.Ren:=⟨fun|190=>64|125=>109|258=>108|128=>166|129=>167|302=>157|303=>158|304=>159|305=>160|306=>161|307=>162|308=>163|309=>164|310=>165|333=>213|329=>214|330=>215|334=>216|335=>217|336=>218|344=>247|n=>n,fun|31=>22|9=>9|3=>3|46=>215|0=>0|51=>313|53=>192|4=>4|183=>305|182=>304|131=>310|5=>5|218=>365|222=>369|228=>395|229=>396|n=>n,fun|n=>n⟩
def Tryz.lays190:Go.Proofs.Lays.n190 Tryz.prog Tryz.lays190_ren:={
 mixed:=aM
 f125:=Tryz.func109.trans (congrArg some aM)
 f128:=Tryz.func166.trans (congrArg some aM)
 f129:=Tryz.func167.trans (congrArg some aM)
 f190:=Tryz.func64.trans (congrArg some aM)
 f258:=Tryz.func108.trans (congrArg some aM)
 f302:=Tryz.func157.trans (congrArg some aM)
 f303:=Tryz.func158.trans (congrArg some aM)
 f304:=Tryz.func159.trans (congrArg some aM)
 f305:=Tryz.func160.trans (congrArg some aM)
 f306:=Tryz.func161.trans (congrArg some aM)
 f307:=Tryz.func162.trans (congrArg some aM)
 f308:=Tryz.func163.trans (congrArg some aM)
 f309:=Tryz.func164.trans (congrArg some aM)
 f310:=Tryz.func165.trans (congrArg some aM)
 f329:=Tryz.func214.trans (congrArg some aM)
 f330:=Tryz.func215.trans (congrArg some aM)
 f333:=Tryz.func213.trans (congrArg some aM)
 f334:=Tryz.func216.trans (congrArg some aM)
 f335:=Tryz.func217.trans (congrArg some aM)
 f336:=Tryz.func218.trans (congrArg some aM)
 f344:=Tryz.func247.trans (congrArg some aM)
 t0:=Tryz.underlying0
 a0:=Tryz.isAgg0
 z0:=Tryz.sizeOf0
 v0:=Tryz.zeroValue0
 t3:=Tryz.underlying3
 a3:=Tryz.isAgg3
 z3:=Tryz.sizeOf3
 v3:=Tryz.zeroValue3
 t4:=Tryz.underlying4
 a4:=Tryz.isAgg4
 z4:=Tryz.sizeOf4
 v4:=Tryz.zeroValue4
 t5:=Tryz.underlying5
 a5:=Tryz.isAgg5
 z5:=Tryz.sizeOf5
 v5:=Tryz.zeroValue5
 t9:=Tryz.underlying9
 a9:=Tryz.isAgg9
 z9:=Tryz.sizeOf9
 v9:=Tryz.zeroValue9
 t31:=Tryz.underlying22
 a31:=Tryz.isAgg22
 z31:=Tryz.sizeOf22
 v31:=Tryz.zeroValue22
 t46:=Tryz.underlying215
 a46:=Tryz.isAgg215
 z46:=Tryz.sizeOf215
 v46:=Tryz.zeroValue215
 t51:=Tryz.underlying313
 a51:=Tryz.isAgg313
 z51:=Tryz.sizeOf313
 v51:=Tryz.zeroValue313
 t53:=Tryz.underlying192
 a53:=Tryz.isAgg192
 z53:=Tryz.sizeOf192
 v53:=Tryz.zeroValue192
 t131:=Tryz.underlying310
 a131:=Tryz.isAgg310
 z131:=Tryz.sizeOf310
 v131:=Tryz.zeroValue310
 t182:=Tryz.underlying304
 a182:=Tryz.isAgg304
 z182:=Tryz.sizeOf304
 v182:=Tryz.zeroValue304
 t183:=Tryz.underlying305
 a183:=Tryz.isAgg305
 z183:=Tryz.sizeOf305
 v183:=Tryz.zeroValue305
 t218:=Tryz.underlying365
 a218:=Tryz.isAgg365
 z218:=Tryz.sizeOf365
 v218:=Tryz.zeroValue365
 t222:=Tryz.underlying369
 a222:=Tryz.isAgg369
 z222:=Tryz.sizeOf369
 v222:=Tryz.zeroValue369
 t228:=Tryz.underlying395
 a228:=Tryz.isAgg395
 z228:=Tryz.sizeOf395
 v228:=Tryz.zeroValue395
 t229:=Tryz.underlying396
 a229:=Tryz.isAgg396
 z229:=Tryz.sizeOf396
 v229:=Tryz.zeroValue396}
end Go.Proofs
namespace Go.Proofs.YtlbpnlngckgcbaaGreatDoor
open Go.RowKit Go.PlainAid Go.Proofs.Tryz
def gH(l:List ByteArray):List ByteArray:=((l.map bB).mergeSort fun x y=>decide (x<=y)).map mk
def oP(l:List ByteArray):(gH l).length=l.length:=by simp [gH]
def MV(l:List ByteArray):dO (gH l)=((l.map bB).mergeSort fun x y=>decide (x<=y)).map encStr:=by
 simp only [dO,gH,fU]
 rfl
def E8(base:Nat)(v:Value)(l:List ByteArray)(w:World)(h:w.ownsRow base 9 1 v l.length (dO l))(ab:l.length<=100000):
  Calls Tryz.prog 64 #[v] w fun e w'=>e=bi (.tuple #[])/\w'.ownsRow base 9 1 v l.length (dO (gH l))/\bK (fun k=>v.ownBlock=some k) w w':=by
 obtain ⟨h0,⟨rfl,h2⟩|⟨g,cap,D,rfl,R,A,U,V,hs,Q⟩⟩:=h
 ·have e:=iL h2;subst e;refine (Any.slices_Sort_string_none Tryz.lays190 none 0 w).mono ?_;rintro e w' ⟨rfl,rfl⟩;exact ⟨rfl,by rw [show gH []=[] from by simp [gH]];exact bP,⟨rfl,rfl,rfl,bV _,fun _ _ _=>rfl⟩⟩
 ·have J:g<w.heap.size:=lt_of_some A;rw [Nat.mul_one] at hs Q;have key:=Any.slices_Sort_string Tryz.lays190 g 0 cap (l.map bB) w (fun j I=>by
   have C:j<l.length:=by simpa using I
   have hc:D[j]? =some (an l[j]):=by
    have:(dO l)[j]? =some (an l[j]):=by simp [dO,C]
    rw [<-Q,vU,if_pos C] at this;rw [<-Array.getElem?_toList];exact this
   refine ⟨?_,?_⟩
   ·rw [pZ];simp only [World.cell?,A,hc];rw [getElem!_pos _ j (by simpa using C)];simp [bB]
   exact aL.fz A _) J aS
  rw [bN] at key;refine key.mono ?_;rintro e w' ⟨rfl,n,os,rfl⟩;have Z:(Sort.grow (Sort.putRow encStr (Sort.ahead w n) g 0 ((l.map bB).mergeSort fun x y=>decide (x<=y)).toArray) os).heap[g]? =some (.cells (Sort.putCells encStr 0 ((l.map bB).mergeSort fun x y=>decide (x<=y)).toArray D) 9 (0,0)):=by
   rw [Sort.heap_grow_old _ _ (by simp [Sort.putRow,Sort.mapBlock,Sort.ahead];exact J)];simp [Sort.putRow,Sort.mapBlock,Sort.ahead,Array.getElem?_modify,A,Sort.onCells]
  refine ⟨rfl,⟨by simp [dO,oP],.inr ⟨g,cap,_,rfl,R,Z,U,V,by simp [Sort.putCells,hs],?_⟩⟩,⟨rfl,rfl,rfl,by simp [Sort.putRow,Sort.mapBlock,Sort.ahead],fun i hi hn=> ?_⟩⟩
  ·rw [MV];have ac:((l.map bB).mergeSort fun x y=>decide (x<=y)).length=l.length:=ar;generalize ((l.map bB).mergeSort fun x y=>decide (x<=y))=ad at*;apply List.ext_getElem?;intro j;rw [vU]
   by_cases I:j<l.length
   ·rw [if_pos ai,Array.getElem?_toList,Sort.putCells,Array.getElem?_mapIdx,Bo ai,Option.map_some,if_pos aS,List.getElem?_map,aI ai,Option.map_some,Nat.sub_zero,getElem!_pos _ j aS];simp
   rw [if_neg ai,jD aS]
  rw [Sort.heap_grow_old _ _ (by simp [Sort.putRow,Sort.mapBlock,Sort.ahead];exact hi)];have Y:¬g=i:=fun e=>hn (by simp [Value.ownBlock,e])
  simp [Sort.putRow,Sort.mapBlock,Sort.ahead,Array.getElem?_modify,Y]
end Go.Proofs.YtlbpnlngckgcbaaGreatDoor
namespace Go.Proofs.YtlbpnlngckgcbaaGreatDoor
open Go.RowKit Go.PlainAid Go.Proofs.Tryz
def N3(t:Tu):ae:=((((t.kind++sg 58)++t.id)++sg 35)++t.rel)++sg 64++xg t.sub t.who t.of
def mL(t:Tu):Prop:=t.kind.size+t.id.size+t.rel.size+t.sub.size+t.who.size+t.of.size<=500
def E9(b:Nat)(w:af)(mv lv gv:ag)(gs:List Tu)(h:PU w b mv lv gv gs)(aJ:∀t∈gs,mL t):
  Calls prog 29 #[bu b] w (Sm (gH (gs.map N3)) w):=by
 obtain ⟨ta,tc,rfl⟩:=aw h.row;have aP:=h.most;obtain ⟨c0,c1,c2⟩:=three h.blk;go_enter func29,ntmps29;go_wp2_with fail
 go_loopw [3,11] (fun aN V wr=>∃k:Nat,k<=gs.length/\V=au k/\am w wr/\wr.ownsRow w.heap.size 9 1 aN k (dO ((gs.take k).map N3))) (fun _ V _=>gs.length-(intOf V).toNat)
 ·exact IH
 ·obtain ⟨k,ae,rfl,D,A⟩:=hrel;obtain ⟨aL,aM,rfl⟩:=aw A;have ak:=D.size;have Q:=h.below D;clear c0 c1 c2
  by_cases U:k<gs.length
  ·have ay:(k:Int)<(gs.length:Int):=by omega
   obtain ⟨g,c,e1,hc⟩:=bn k9 6 (fun _=>rfl) Q.row k gs[k] (aI U);simp only [aK,bX] at e1;obtain ⟨rfl,rfl⟩:=e1;have arz:=(by rw [cD U,dO,cK,cK];rfl:dO ((gs.take (k+1)).map N3)=dO ((gs.take k).map N3)++[an (N3 gs[k])]);have aj:=aJ gs[k] (br U);generalize gs[k]=y at*;have k0:wr.cell? (aC g (k*6))=some (an y.kind):=hc 0 _ ai rfl;refine vS ?_;intro k1 k2 k3 k4 k5;have C:=fun w'=>IB y.kind y.id y.rel y.sub y.who y.of w' aj
   change (∀w',Calls _ _ _ w' fun e w''=>e=bi (an (N3 y))/\_) at C;generalize N3 y=I at*;clear Q hc aj;go_wp2_with fail;refine (C _).mono ?_;rintro e w1 ⟨rfl,J⟩;have Y:=(D.alloc ak (cB y.kind y.id y.rel y.sub y.who y.of)).trans (J.mono aS);have ab:=aB (A.alloc (cB y.kind y.id y.rel y.sub y.who y.of)) J;have aH:=Y.size;clear J C k0 k1 k2 k3 k4 k5;go_wp2_with (at_builtin;go_must (refine eB rfl underlying22 Tryz.infoStr w.heap.size (ab.alloc _) w1.heap.size 1 [an I] (w1.heap.size+1) ?hrest))
   case hrest=>
    intro g5 be w5 aE ad ax aO;have Z:=ab.alloc (dv I);have al:=cA (Y.alloc aH (dv I)) ad aS (fun k ae=>(Z.lt k ae).1);clear Z ad ax;go_wp2;go_roundw
    ·exact ⟨k+1,ai,by go_num,al,by rw [arz,List.map_take];exact aE⟩
    simp [intOf];omega
  have ay:¬((k:Int)<(gs.length:Int)):=ai;rw [cX ai] at A;have ah:k=(gs.map N3).length:=by rw [bN];omega
  have C:=E8 w.heap.size (aA aL k aM) (gs.map N3) wr (by rw [<-ah];exact A) (by rw [bN];omega);clear Q ah;have av:=oP (gs.map N3);generalize gH (gs.map N3)=R at*;go_wp2_with fail;refine C.mono ?_;rintro e aQ ⟨rfl,aG,ac⟩;have ap:=D.trans (ac.below ak (fun q aF=>(A.lt q aF).1));clear ac C;go_wp2;go_ret;exact ⟨_,rfl,ap,by rw [av];exact aG⟩
def leB(a b:ae):Prop:=bB a<=bB b
def KH(a b:ae):E6 a b=true↔bB a<bB b:=by
 unfold E6;rw [bytesLess_eq,aT,aT];simp
def IL{a b:ae}(h:E6 a b=false):leB b a:=by
 have:¬bB a<bB b:=fun k=>by rw [(KH a b).2 k] at h;simp at h
 exact List.not_lt.1 this
def Zf{a b:ae}(h:E6 a b=true):leB a b:=List.le_of_lt ((KH a b).1 h)
def Ag(l:List ae)(x:ae):(lm l x).Perm (x::l):=by
 unfold lm;refine List.perm_middle.trans (List.Perm.cons x ?_);rw [IG]
def ub(x:ae):∀(l:List ae),l.Pairwise leB->(lm l x).Pairwise leB
 | [],_=>by simp [lm]
 |y::l,h=>by
  have J:=ub x l (List.pairwise_cons.1 h).2;unfold lm at J ⊢
  cases C:E6 y x
  ·simp only [iK,vv,C,bJ,aZ,List.nil_append];refine List.pairwise_cons.2 ⟨fun z A=> ?_,h⟩;have I:=IL C
   rcases cG.1 A with rfl|A
   ·exact I
   exact List.le_trans I ((List.pairwise_cons.1 h).1 z A)
  simp only [iK,vv,C,if_true,List.cons_append];refine List.pairwise_cons.2 ⟨fun z A=> ?_,J⟩;have D:=(Ag l x).mem_iff.1 (A:z∈lm l x)
  rcases cG.1 D with rfl|D
  ·exact Zf C
  exact (List.pairwise_cons.1 h).1 z D
def sZ(l:List ae):∀a,a.Pairwise leB->(l.foldl lm a).Pairwise leB/\(l.foldl lm a).Perm (a++l):=by
 induction l with
 |nil=>intro a h;exact ⟨h,ar⟩
 |cons x l ih=>
  intro a h;obtain ⟨h1,h2⟩:=ih (lm a x) (ub x a h);refine ⟨h1,h2.trans ?_⟩;exact ((Ag a x).append_right l).trans (List.perm_middle (l₁:=a) (a:=x) (l₂:=l)).symm
def xo:∀(l m:List ae),l.Pairwise leB->m.Pairwise leB->l.Perm m->l=m
 | [],m,_,_,h=>(List.nil_perm.1 h).symm
 |x::l,[],_,_,h=>absurd h ar
 |x::l,y::m,h1,h2,h=>by
  have D:x=y:=by
   have A:x∈y::m:=h.mem_iff.1 ar;have C:y∈x::l:=h.mem_iff.2 ar
   rcases cG.1 A with e|A
   ·exact e
   rcases cG.1 C with e|C
   ·exact e.symm
   have e:=List.le_antisymm ((List.pairwise_cons.1 h1).1 y C) ((List.pairwise_cons.1 h2).1 x A);rw [<-cW x,<-cW y,e]
  subst D;rw [xo l m (List.pairwise_cons.1 h1).2 (List.pairwise_cons.1 h2).2 ((List.perm_cons x).1 h)]
def oQ(l:List ae):gH l=jq l:=by
 obtain ⟨h1,h2⟩:=sZ l [] List.Pairwise.nil;refine xo _ _ ?_ h1 ?_
 ·have:=List.pairwise_mergeSort (le:=fun x y:List UInt8=>decide (x<=y)) (fun a b c h k=>by simp only [fE] at*;exact List.le_trans h k) (fun a b=>by have:=List.le_total a b;simpa using this) (l.map bB);unfold gH;rw [List.pairwise_map];refine this.imp (fun {a b} h=> ?_);unfold leB;rw [j6,j6]
  simpa using h
 have:=(List.mergeSort_perm (l.map bB) (fun x y=>decide (x<=y))).map mk;refine List.Perm.trans this ?_;rw [fU,show (mk ∘ bB)=id from rfl,List.map_id];exact h2.symm
variable {gs:List Tu} {ss:List ae}
def ue(h:sW gs ss):gH (gs.map N3)=jq ss/\∀t∈gs,mL t:=by
 refine ⟨?_,fun t A=> ?_⟩
 ·rw [oQ,h.eq,fU]
  congr 1
  conv=>rhs;rw [<-List.map_id ss]
  exact List.map_congr_left (fun s hs=>xh (h.ok s hs))
 rw [h.eq] at A;obtain ⟨s,hs,rfl⟩:=aU.1 A;obtain ⟨C,_,hl⟩:=lJ (h.ok s hs);have hl:=congrArg List.length hl;have D:(if (b7 s).1.of.size=0 then [] else (35:UInt8)::bB (b7 s).1.of).length≥(b7 s).1.of.size:=by
  by_cases h0:(b7 s).1.of.size=0
  ·rw [h0];exact gU _
  rw [if_neg h0,iO,bj];omega
 simp only [bf,List.length_cons,bj] at hl;unfold mL uy;omega
def Fa(R U:Nat)(J Q:ag)(l:List ae)(w:af)(h1:w.ownsRow R 9 1 J l.length (dO l))(h2:w.ownsRow U 9 1 Q l.length (dO l))(al:l.length<=100000):
  Calls prog 88 #[J,Q] w fun e w'=>e=bi (.bool true)/\am w w':=by
 obtain ⟨ac,c1,rfl⟩:=aw h1;obtain ⟨ad,c2,rfl⟩:=aw h2;go_enter func88,ntmps88;go_wp2_with fail
 go_loopw [5] (fun C wr=>∃k:Nat,k<=l.length/\C=au k/\am w wr) (fun C _=>l.length-(intOf C).toNat)
 ·exact ⟨0,ai,rfl,az _ _⟩
 ·obtain ⟨k,ak,rfl,A⟩:=hrel
  by_cases Y:k<l.length
  ·have V:(k:Int)<(l.length:Int):=by omega
   have I:(dO l)[k]? =some (an l[k]):=by simp [dO,Y]
   have Z:=aB h1 A;have ab:=aB h2 A;obtain ⟨ah,d1,e1,k1⟩:=aY Z k _ I;obtain ⟨aj,d2,D,ap⟩:=aY ab k _ I;simp only [aK,bX] at e1 D;obtain ⟨rfl,rfl⟩:=e1;obtain ⟨rfl,rfl⟩:=D;generalize l[k]=x at*;go_wp2_with fail
   go_region
   go_wp2_with fail;exact ⟨⟨k+1,ai,by go_num,A.drew⟩,by simp [intOf];omega⟩
  have V:¬((k:Int)<(l.length:Int)):=ai;go_wp2;go_ret;exact ⟨rfl,A⟩
