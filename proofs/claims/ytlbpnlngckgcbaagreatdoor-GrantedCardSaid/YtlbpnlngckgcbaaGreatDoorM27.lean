import Derived.Test.YtlbpnlngckgcbaaGreatDoorM26
import Derived.Shelf.Sort.Plain
import Derived.Shelf.Slices.In.SortNone
import Derived.Deep.DeepAppendWide
set_option linter.all false
set_option maxHeartbeats 4000000
set_option maxRecDepth 100000
namespace Go.Proofs
open Go.Shelf
def Tryz.lays190_ren:Go.Shelf.Ren:=⟨fun|190=>64|125=>109|258=>108|128=>166|129=>167|302=>157|303=>158|304=>159|305=>160|306=>161|307=>162|308=>163|309=>164|310=>165|333=>213|329=>214|330=>215|334=>216|335=>217|336=>218|344=>247|n=>n,fun|31=>22|9=>9|3=>3|46=>215|0=>0|51=>313|53=>192|4=>4|183=>305|182=>304|131=>310|5=>5|218=>365|222=>369|228=>395|229=>396|n=>n,fun|n=>n⟩
theorem Tryz.lays190:Go.Proofs.Lays.n190 Tryz.prog Tryz.lays190_ren:={
 mixed:=by kernel_rfl
 f125:=Tryz.func109.trans (congrArg some (by kernel_rfl))
 f128:=Tryz.func166.trans (congrArg some (by kernel_rfl))
 f129:=Tryz.func167.trans (congrArg some (by kernel_rfl))
 f190:=Tryz.func64.trans (congrArg some (by kernel_rfl))
 f258:=Tryz.func108.trans (congrArg some (by kernel_rfl))
 f302:=Tryz.func157.trans (congrArg some (by kernel_rfl))
 f303:=Tryz.func158.trans (congrArg some (by kernel_rfl))
 f304:=Tryz.func159.trans (congrArg some (by kernel_rfl))
 f305:=Tryz.func160.trans (congrArg some (by kernel_rfl))
 f306:=Tryz.func161.trans (congrArg some (by kernel_rfl))
 f307:=Tryz.func162.trans (congrArg some (by kernel_rfl))
 f308:=Tryz.func163.trans (congrArg some (by kernel_rfl))
 f309:=Tryz.func164.trans (congrArg some (by kernel_rfl))
 f310:=Tryz.func165.trans (congrArg some (by kernel_rfl))
 f329:=Tryz.func214.trans (congrArg some (by kernel_rfl))
 f330:=Tryz.func215.trans (congrArg some (by kernel_rfl))
 f333:=Tryz.func213.trans (congrArg some (by kernel_rfl))
 f334:=Tryz.func216.trans (congrArg some (by kernel_rfl))
 f335:=Tryz.func217.trans (congrArg some (by kernel_rfl))
 f336:=Tryz.func218.trans (congrArg some (by kernel_rfl))
 f344:=Tryz.func247.trans (congrArg some (by kernel_rfl))
 t0:=Tryz.underlying0
 a0:=Tryz.isAgg0
 z0:=Tryz.sizeOf0
 v0:=Tryz.zeroValue0
 t3:=Tryz.underlying3
 a3:=Tryz.isAgg3
 z3:=Tryz.sizeOf3
 v3:=Tryz.zeroValue3
 t4:=Tryz.underlying4
 a4:=Tryz.isAgg4
 z4:=Tryz.sizeOf4
 v4:=Tryz.zeroValue4
 t5:=Tryz.underlying5
 a5:=Tryz.isAgg5
 z5:=Tryz.sizeOf5
 v5:=Tryz.zeroValue5
 t9:=Tryz.underlying9
 a9:=Tryz.isAgg9
 z9:=Tryz.sizeOf9
 v9:=Tryz.zeroValue9
 t31:=Tryz.underlying22
 a31:=Tryz.isAgg22
 z31:=Tryz.sizeOf22
 v31:=Tryz.zeroValue22
 t46:=Tryz.underlying215
 a46:=Tryz.isAgg215
 z46:=Tryz.sizeOf215
 v46:=Tryz.zeroValue215
 t51:=Tryz.underlying313
 a51:=Tryz.isAgg313
 z51:=Tryz.sizeOf313
 v51:=Tryz.zeroValue313
 t53:=Tryz.underlying192
 a53:=Tryz.isAgg192
 z53:=Tryz.sizeOf192
 v53:=Tryz.zeroValue192
 t131:=Tryz.underlying310
 a131:=Tryz.isAgg310
 z131:=Tryz.sizeOf310
 v131:=Tryz.zeroValue310
 t182:=Tryz.underlying304
 a182:=Tryz.isAgg304
 z182:=Tryz.sizeOf304
 v182:=Tryz.zeroValue304
 t183:=Tryz.underlying305
 a183:=Tryz.isAgg305
 z183:=Tryz.sizeOf305
 v183:=Tryz.zeroValue305
 t218:=Tryz.underlying365
 a218:=Tryz.isAgg365
 z218:=Tryz.sizeOf365
 v218:=Tryz.zeroValue365
 t222:=Tryz.underlying369
 a222:=Tryz.isAgg369
 z222:=Tryz.sizeOf369
 v222:=Tryz.zeroValue369
 t228:=Tryz.underlying395
 a228:=Tryz.isAgg395
 z228:=Tryz.sizeOf395
 v228:=Tryz.zeroValue395
 t229:=Tryz.underlying396
 a229:=Tryz.isAgg396
 z229:=Tryz.sizeOf396
 v229:=Tryz.zeroValue396}
end Go.Proofs
namespace Go.Proofs.YtlbpnlngckgcbaaGreatDoor
open Go.RowKit Go.PlainAid
def pI (l:List ByteArray):List ByteArray:=((l.map bi).mergeSort fun x y=>decide (x≤y)).map mk
theorem CQ (l:List ByteArray):(pI l).length=l.length:=by simp [pI]
theorem Og (l:List ByteArray):fP (pI l)=((l.map bi).mergeSort fun x y=>decide (x≤y)).map encStr:=by
 simp only [fP,pI,List.map_map]
 rfl
theorem Rx (base:Nat) (v:Value) (l:List ByteArray) (w:World) (h:w.ownsRow base 9 1 v l.length (fP l)) (hl:l.length≤100000):
  Calls Tryz.prog 64 #[v] w fun e w'=>e=.returned (.tuple #[])∧w'.ownsRow base 9 1 v l.length (fP (pI l))∧bW (fun k=>v.ownBlock=some k) w w':=by
 obtain ⟨h0,⟨rfl,h2⟩|⟨g,cap,cur,rfl,hg,hh,hle,hm,hs,ht⟩⟩:=h
 ·have e:=List.eq_nil_of_length_eq_zero h2;subst e;refine (Any.slices_Sort_string_none Tryz.lays190 none 0 w).mono ?_;rintro e w' ⟨rfl,rfl⟩;exact ⟨rfl,by rw [show pI []=[] from by simp [pI]];exact World.ownsRow_nil _ _ _ _,⟨rfl,rfl,rfl,Nat.le_refl _,fun _ _ _=>rfl⟩⟩
 ·have hlt:g<w.heap.size:=lt_of_some hh;rw [Nat.mul_one] at hs ht;have key:=Any.slices_Sort_string Tryz.lays190 g 0 cap (l.map bi) w (fun j hj=>by
   have hj':j<l.length:=by simpa using hj
   have hc:cur[j]? =some (.string l[j]):=by
    have:(fP l)[j]? =some (.string l[j]):=by simp [fP,hj']
    rw [←ht,List.getElem?_take,if_pos hj'] at this;rw [←Array.getElem?_toList];exact this
   refine ⟨?_,?_⟩
   ·rw [Nat.zero_add];simp only [World.cell?,hh,hc];rw [getElem!_pos _ j (by simpa using hj')];simp [bi]
   ·exact ai.fz hh _) hlt (by simp;omega)
  rw [List.length_map] at key;refine key.mono ?_;rintro e w' ⟨rfl,n,os,rfl⟩;have hnew:(Sort.grow (Sort.putRow encStr (Sort.ahead w n) g 0 ((l.map bi).mergeSort fun x y=>decide (x≤y)).toArray) os).heap[g]? =some (.cells (Sort.putCells encStr 0 ((l.map bi).mergeSort fun x y=>decide (x≤y)).toArray cur) 9 (0,0)):=by
   rw [Sort.heap_grow_old _ _ (by simp [Sort.putRow,Sort.mapBlock,Sort.ahead];exact hlt)];simp [Sort.putRow,Sort.mapBlock,Sort.ahead,Array.getElem?_modify,hh,Sort.onCells]
  refine ⟨rfl,⟨by simp [fP,CQ],.inr ⟨g,cap,_,rfl,hg,hnew,hle,hm,by simp [Sort.putCells,hs],?_⟩⟩,⟨rfl,rfl,rfl,by simp [Sort.putRow,Sort.mapBlock,Sort.ahead],fun i hi hn=> ?_⟩⟩
  ·rw [Og];have hml:((l.map bi).mergeSort fun x y=>decide (x≤y)).length=l.length:=by simp
   generalize ((l.map bi).mergeSort fun x y=>decide (x≤y))=ms at*;apply List.ext_getElem?;intro j;rw [List.getElem?_take]
   by_cases hj:j<l.length
   ·rw [if_pos (by omega),Array.getElem?_toList,Sort.putCells,Array.getElem?_mapIdx,Array.getElem?_eq_getElem (by omega),Option.map_some,if_pos (by simp;omega),List.getElem?_map,List.getElem?_eq_getElem (by omega),Option.map_some,Nat.sub_zero,getElem!_pos _ j (by simp;omega)];simp
   ·rw [if_neg (by omega),List.getElem?_eq_none (by simp;omega)]
  ·rw [Sort.heap_grow_old _ _ (by simp [Sort.putRow,Sort.mapBlock,Sort.ahead];exact hi)];have hne:¬g=i:=fun e=>hn (by simp [Value.ownBlock,e])
   simp [Sort.putRow,Sort.mapBlock,Sort.ahead,Array.getElem?_modify,hne]
end Go.Proofs.YtlbpnlngckgcbaaGreatDoor
namespace Go.Proofs.YtlbpnlngckgcbaaGreatDoor
open Go.RowKit Go.PlainAid
def Oh (t:Tu):aei:=((((t.kind++sg 58)++t.id)++sg 35)++t.rel)++sg 64++z8 t.sub t.who t.of
def Er (t:Tu):Prop:=t.kind.size+t.id.size+t.rel.size+t.sub.size+t.who.size+t.of.size≤500
theorem Ic (b:Nat) (w:World) (mv lv gv:Value) (gs:List Tu) (h:PU w b mv lv gv gs) (hsm:∀t∈gs,Er t):
  Calls Tryz.prog 29 #[.pointer (some ⟨b,0,none⟩)] w (Rw (pI (gs.map Oh)) w):=by
 have H:=af h;obtain ⟨ta,tc,rfl⟩:=au h.row;have zf:=h.most;have hbl:=h.blk.lt;obtain ⟨c0,c1,c2⟩:=three h.blk;obtain ⟨i0,hi0,hz0,hz1,hz2⟩:=info_parts Tryz.infoStr;have HI:=af hi0;have fG:=af hz0;have fH:=af hz1;have fI:=af hz2;have HSM:=af hsm;clear h hi0 hz0 hz1 hz2 hsm;go_enter Tryz.func29,Tryz.ntmps29;go_wp2_with fail
 go_loopw [3,11] (fun vl vi wr=>∃k:Nat,k≤gs.length∧vi=.int .i64 k∧Below w.heap.size w wr∧wr.ownsRow w.heap.size 9 1 vl k (fP ((gs.take k).map Oh))) (fun _ vi _=>gs.length-(intOf vi).toNat)
 case atStart=>exact ⟨0,by omega,rfl,Below.refl _ _,World.ownsRow_nil _ _ _ _⟩
 case round=>
  obtain ⟨k,hk,rfl,hb,hrow⟩:=hrel;obtain ⟨la,lc,rfl⟩:=au hrow;have HB:=af hb;have HR:=af hrow;have hwr:=hb.size;have hd:=(ae H).below hb;clear c0 c1 c2
  by_cases hlt:k<gs.length
  ·have hkn:(k:Int)<(gs.length:Int):=by omega
   obtain ⟨g,c,e1,hc⟩:=bP tF 6 (fun _=>rfl) hd.row k gs[k] (aeh hlt);simp only [Value.slice.injEq,true_and] at e1;obtain ⟨rfl,rfl⟩:=e1;have xG:=af (show fP ((gs.take (k+1)).map Oh)=fP ((gs.take k).map Oh)++[.string (Oh gs[k])] from by rw [List.take_succ_eq_append_getElem hlt,fP,List.map_append,List.map_append];rfl);have hsy:=ae HSM gs[k] (List.getElem_mem hlt);generalize gs[k]=y at*;have k0:wr.cell? ⟨g,k*6,none⟩=some (.string y.kind):=hc 0 _ (by omega) rfl;have k1:=hc 1 _ (by omega) rfl;have k2:=hc 2 _ (by omega) rfl;have k3:=hc 3 _ (by omega) rfl;have k4:=hc 4 _ (by omega) rfl;have k5:=hc 5 _ (by omega) rfl;have C:=af (fun w'=>Ku y.kind y.id y.rel y.sub y.who y.of w' hsy);change Hid (∀w',Calls _ _ _ w' fun e w''=>e=.returned (.string (Oh y))∧_) at C;generalize Oh y=Y at*;clear hb hrow hd hc hsy;go_wp2_with fail;refine (ae C _).mono ?_;rintro e w1 ⟨rfl,hb1⟩;have B1:=af (((ae HB).alloc hwr (.cells #[.string y.kind,.string y.id,.string y.rel,.string y.sub,.string y.who,.string y.of] 123)).trans (hb1.mono (by simp;omega)));have R1:=af (ay ((ae HR).alloc (.cells #[.string y.kind,.string y.id,.string y.rel,.string y.sub,.string y.who,.string y.of] 123)) hb1);have hs1:=(ae B1).size;clear hb1 C k0 k1 k2 k3 k4 k5;go_wp2_with (at_builtin;go_must (refine wpList_append_lies _ rfl _ _ 22 rfl w.heap.size 9 i0 _ 1 16 Tryz.underlying22 (ae HI) (ae fG) (ae fH) (ae fI) rfl (by decide) (.slice la k lc) k (fP ((gs.take k).map Oh)) rfl ?hown ⟨w1.heap.size,0,none⟩ 1 1 [.string Y] rfl rfl ?hnews ?hone (by decide) ?h63 ?hbytes ?hbase (w1.heap.size+1) ?hH ?hrest))
   case hown=>exact (ae R1).alloc _
   case hnews=>exact World.news_of_block (B:=w1.heap.size) (cs:=#[.string Y]) (t:=9) (fr:=(0,0)) (ai.new _ _ _)
   case hone=>
    intro u hu;simp at hu;subst hu
    rfl
   case h63=>unfold maxLen;omega
   case hbytes=>omega
   case hbase=>simp;omega
   case hH=>simp
   case hrest=>
    intro g5 aD w5 aC aj aP di;have fU:=(ae R1).alloc (.cells #[.string Y] 9);have B5:=af (Below.grown ((ae B1).alloc hs1 (.cells #[.string Y] 9)) aj (by simp;omega) (fun k hk=>(fU.lt k hk).1));have O5:=af aC;clear fU aC aj aP;go_wp2;go_roundw
    case rel=>exact ⟨k+1,by omega,by go_num,ae B5,by rw [ae xG,List.map_take];exact ae O5⟩
    case measure=>simp [intOf];omega
  ·have hkn:¬((k:Int)<(gs.length:Int)):=by omega
   rw [List.take_of_length_le (by omega)] at hrow;have hkl:k=(gs.map Oh).length:=by rw [List.length_map];omega
   have C:=af (Rx w.heap.size (.slice la k lc) (gs.map Oh) wr (by rw [←hkl];exact hrow) (by rw [List.length_map];omega));have HKL:=af hkl;have HW:=af hrow;clear hb hrow hd hkl;have HRL:=af (CQ (gs.map Oh));generalize pI (gs.map Oh)=R at*;go_wp2_with fail;refine (ae C).mono ?_;rintro e w9 ⟨rfl,hr9,qX⟩;have B9:=af ((ae HB).trans (qX.below hwr (fun q hq=>((ae HW).lt q hq).1)));have R9:=af hr9;clear qX hr9 C;go_wp2;go_ret;exact ⟨_,rfl,ae B9,by rw [ae HRL];exact ae R9⟩
def leB (a b:aei):Prop:=bi a≤bi b
theorem LQ (a b:aei):Hu a b=true↔bi a<bi b:=by
 unfold Hu;rw [bytesLess_eq,aF,aF];simp
theorem KH {a b:aei} (h:Hu a b=false):leB b a:=by
 have:¬bi a<bi b:=fun k=>by rw [(LQ a b).2 k] at h;simp at h
 exact List.not_lt.1 this
theorem YR {a b:aei} (h:Hu a b=true):leB a b:=List.le_of_lt ((LQ a b).1 h)
theorem CR (l:List aei) (x:aei):(lQ l x).Perm (x::l):=by
 unfold lQ;refine List.perm_middle.trans (List.Perm.cons x ?_);rw [List.takeWhile_append_dropWhile]
theorem wW (x:aei):∀(l:List aei),l.Pairwise leB→(lQ l x).Pairwise leB
 | [],_=>by simp [lQ]
 |y::l,h=>by
  have ih:=wW x l (List.pairwise_cons.1 h).2;unfold lQ at ih ⊢
  cases hq:Hu y x
  ·simp only [List.takeWhile_cons,List.dropWhile_cons,hq,Bool.false_eq_true,if_false,List.nil_append];refine List.pairwise_cons.2 ⟨fun z hz=> ?_,h⟩;have hy:=KH hq
   rcases List.mem_cons.1 hz with rfl|hz
   ·exact hy
   ·exact List.le_trans hy ((List.pairwise_cons.1 h).1 z hz)
  ·simp only [List.takeWhile_cons,List.dropWhile_cons,hq,if_true,List.cons_append];refine List.pairwise_cons.2 ⟨fun z hz=> ?_,ih⟩;have hz2:=(CR l x).mem_iff.1 (show z∈lQ l x from hz)
   rcases List.mem_cons.1 hz2 with rfl|hz2
   ·exact YR hq
   ·exact (List.pairwise_cons.1 h).1 z hz2
theorem Oi (l:List aei):∀a,a.Pairwise leB→(l.foldl lQ a).Pairwise leB∧(l.foldl lQ a).Perm (a++l):=by
 induction l with
 |nil=>intro a h;exact ⟨h,by simp⟩
 |cons x l ih=>
  intro a h;obtain ⟨h1,h2⟩:=ih (lQ a x) (wW x a h);refine ⟨h1,h2.trans ?_⟩;exact ((CR a x).append_right l).trans (List.perm_middle (l₁:=a) (a:=x) (l₂:=l)).symm
theorem Aj:∀(l m:List aei),l.Pairwise leB→m.Pairwise leB→l.Perm m→l=m
 | [],m,_,_,h=>(List.nil_perm.1 h).symm
 |x::l,[],_,_,h=>absurd h (by simp)
 |x::l,y::m,h1,h2,h=>by
  have hxy:x=y:=by
   have hx:x∈y::m:=h.mem_iff.1 (by simp);have hy:y∈x::l:=h.mem_iff.2 (by simp)
   rcases List.mem_cons.1 hx with e|hx
   ·exact e
   rcases List.mem_cons.1 hy with e|hy
   ·exact e.symm
   have e:=List.le_antisymm ((List.pairwise_cons.1 h1).1 y hy) ((List.pairwise_cons.1 h2).1 x hx);rw [←gV x,←gV y,e]
  subst hxy;rw [Aj l m (List.pairwise_cons.1 h1).2 (List.pairwise_cons.1 h2).2 ((List.perm_cons x).1 h)]
theorem Oj (l:List aei):pI l=mM l:=by
 obtain ⟨h1,h2⟩:=Oi l [] List.Pairwise.nil;refine Aj _ _ ?_ h1 ?_
 ·have:=List.pairwise_mergeSort (le:=fun x y:List UInt8=>decide (x≤y)) (fun a b c h k=>by simp only [decide_eq_true_eq] at*;exact List.le_trans h k) (fun a b=>by have:=List.le_total a b;simpa using this) (l.map bi);unfold pI;rw [List.pairwise_map];refine this.imp (fun {a b} h=> ?_);unfold leB;rw [sD,sD]
  simpa using h
 ·have:=(List.mergeSort_perm (l.map bi) (fun x y=>decide (x≤y))).map mk;refine List.Perm.trans this ?_;rw [List.map_map,show (mk ∘ bi)=id from rfl,List.map_id];exact h2.symm
theorem Ie {gs:List Tu} {ss:List aei} (h:xC gs ss):pI (gs.map Oh)=mM ss∧∀t∈gs,Er t:=by
 refine ⟨?_,fun t ht=> ?_⟩
 ·rw [Oj,h.eq,List.map_map]
  congr 1
  conv=>rhs;rw [←List.map_id ss]
  exact List.map_congr_left (fun s hs=>Aa (h.ok s hs))
 ·rw [h.eq] at ht;obtain ⟨s,hs,rfl⟩:=List.mem_map.1 ht;obtain ⟨h53,_,hl⟩:=qZ (h.ok s hs);have hl:=congrArg List.length hl;have hof:(if (bE s).1.of.size=0 then [] else (35:UInt8)::bi (bE s).1.of).length≥(bE s).1.of.size:=by
   by_cases h0:(bE s).1.of.size=0
   ·rw [h0];exact Nat.zero_le _
   ·rw [if_neg h0,List.length_cons,aG];omega
  simp only [List.length_append,List.length_cons,aG] at hl;unfold Er Ab;omega
theorem Ry (b1 b2:Nat) (v1 v2:Value) (l:List aei) (w:World) (h1:w.ownsRow b1 9 1 v1 l.length (fP l)) (h2:w.ownsRow b2 9 1 v2 l.length (fP l)) (hl:l.length≤100000):
  Calls Tryz.prog 88 #[v1,v2] w fun e w'=>e=.returned (.bool true)∧Below w.heap.size w w':=by
 obtain ⟨a1,c1,rfl⟩:=au h1;obtain ⟨a2,c2,rfl⟩:=au h2;have H1:=af h1;have H2:=af h2;clear h1 h2;go_enter Tryz.func88,Tryz.ntmps88;go_wp2_with fail
 go_loopw [5] (fun vi wr=>∃k:Nat,k≤l.length∧vi=.int .i64 k∧Below w.heap.size w wr) (fun vi _=>l.length-(intOf vi).toNat)
 case atStart=>exact ⟨0,by omega,rfl,Below.refl _ _⟩
 case round=>
  obtain ⟨k,hk,rfl,hb⟩:=hrel;have HB:=af hb
  by_cases hlt:k<l.length
  ·have hkn:(k:Int)<(l.length:Int):=by omega
   have hX:(fP l)[k]? =some (.string l[k]):=by simp [fP,hlt]
   have r1:=ay (ae H1) hb;have r2:=ay (ae H2) hb;obtain ⟨g1,d1,e1,k1⟩:=aK r1 k _ hX;obtain ⟨g2,d2,e2,k2⟩:=aK r2 k _ hX;simp only [Value.slice.injEq,true_and] at e1 e2;obtain ⟨rfl,rfl⟩:=e1;obtain ⟨rfl,rfl⟩:=e2;generalize l[k]=x at*;clear hb r1 r2 hX;go_wp2_with fail
   go_region
   go_wp2_with fail;exact ⟨⟨k+1,by omega,by go_num,(ae HB).drew⟩,by simp [intOf];omega⟩
  ·have hkn:¬((k:Int)<(l.length:Int)):=by omega
   clear hb;go_wp2;go_ret;exact ⟨rfl,ae HB⟩
theorem abw:Ju:=by
 intro s c w hs ⟨m,hm⟩;refine (Any.strings_Cut Tryz.lays145 s (mk [c]) m w (by omega) hm).mono ?_;rintro e w' ⟨rfl,n,rfl⟩;refine ⟨?_,⟨rfl,rfl,rfl,Nat.le_refl _,fun _ _=>rfl⟩⟩;have e:=Ux s.data.toList c;rw [show (mk [c]).data.toList=[c] from by simp [mk],e]
 rfl
structure cB where
 x:Nat
 y:Nat
 bm:Nat
 mv:Value
 lv:Value
 gv:Value
 tv:Value
 ts:List Ty
 gs:List Tu
 ss:List aei
 I:Nat→Prop
structure Rz (w:World) (x:Nat) (mv lv gv:Value) (ts:List Ty) (gs:List Tu):Prop where
 p:PU w x mv lv gv gs
 m:∃bm tl,MC bm w mv ts tl
 l:LXp ts lv w
structure Ol (w:World) (y bm:Nat) (tv:Value) (ts:List Ty) (ss:List aei) (I:Nat→Prop):Prop where
 d:DU w y (.pointer (some ⟨bm,5,none⟩)) tv ss
 r:XM ts I bm w
 il:∀k,I k→k<w.heap.size
 most:ss.length≤24
structure UR (w:World) (u:cB):Prop where
 up:Rz w u.x u.mv u.lv u.gv u.ts u.gs
 ud:Ol w u.y u.bm u.tv u.ts u.ss u.I
 both:xC u.gs u.ss
def US (u:cB) (k:Nat):Prop:=EF u.x u.gv k∨Kq u.y u.tv k
def Wn (T:TypeId):Prop:=T=117∨T=123∨T=262∨T=264
def MD (T:TypeId):Prop:=(T=207∨T=159∨T=110)∨LT T∨RT T
theorem Ig {w:World} {base:Nat} {e:TypeId} {size:Nat} {v:Value} {n:Nat} {xs:List Value} (h:w.ownsRow base e size v n xs) {k:Nat} (hk:v.ownBlock=some k):∃m c,v=.slice (some ⟨k,0,none⟩) m c:=by
 rcases h.2 with ⟨rfl,_⟩|⟨g,cap,cur,rfl,_⟩
 ·cases hk
 ·simp only [Value.ownBlock,Option.some.injEq] at hk;subst hk;exact ⟨_,_,rfl⟩
theorem Rz.ty {w:World} {x:Nat} {mv lv gv:Value} {ts:List Ty} {gs:List Tu} (h:Rz w x mv lv gv ts gs) {k:Nat} (hk:EF x gv k):∃cs T,ai w k cs T∧(T=117∨T=123):=by
 rcases hk with rfl|⟨n,c,e⟩
 ·exact ⟨_,_,h.p.blk,.inl rfl⟩
 ·have hr:=h.p.row;rw [e] at hr;obtain ⟨cur,hb,_⟩:=jQ hr;exact ⟨_,_,hb,.inr rfl⟩
theorem Ol.ty {w:World} {y bm:Nat} {tv:Value} {ts:List Ty} {ss:List aei} {I:Nat→Prop} (h:Ol w y bm tv ts ss I) {k:Nat} (hk:Kq y tv k):∃cs T,ai w k cs T∧(T=262∨T=264):=by
 rcases hk with rfl|⟨n,c,e⟩
 ·exact ⟨_,_,h.d.blk,.inl rfl⟩
 ·have hr:=h.d.row;rw [e] at hr;obtain ⟨cur,hb,_⟩:=jQ hr;exact ⟨_,_,hb,.inr rfl⟩
theorem UR.ty {w:World} {u:cB} (h:UR w u) {k:Nat} (hk:US u k):∃cs T,ai w k cs T∧Wn T:=by
 rcases hk with hk|hk
 ·obtain ⟨cs,T,hb,ht⟩:=h.up.ty hk;exact ⟨cs,T,hb,ht.elim .inl (fun e=> .inr (.inl e))⟩
 ·obtain ⟨cs,T,hb,ht⟩:=h.ud.ty hk;exact ⟨cs,T,hb,ht.elim (fun e=> .inr (.inr (.inl e))) (fun e=> .inr (.inr (.inr e)))⟩
theorem UR.lt {w:World} {u:cB} (h:UR w u) {k:Nat} (hk:US u k):k<w.heap.size:=by
 obtain ⟨cs,T,hb,_⟩:=h.ty hk;exact hb.lt
theorem UR.nty {w:World} {u:cB} (h:UR w u) {k:Nat} {cs:Array Value} {T:TypeId} {f:Nat×Nat} (hk:US u k) (hh:w.heap[k]? =some (.cells cs T f)):Wn T:=by
 obtain ⟨cs',T',hb,ht⟩:=h.ty hk;unfold ai at hb;rw [hb] at hh
 cases hh
 exact ht
theorem Rz.keep {S:Nat→Prop} {w w':World} {x:Nat} {mv lv gv:Value} {ts:List Ty} {gs:List Tu} (h:Rz w x mv lv gv ts gs) (k:bW S w w') (hS:∀k,EF x gv k→¬S k) (hT:∀(k:Nat) (cs:Array Value) (T:TypeId) (f:Nat×Nat),S k→w.heap[k]? =some (Obj.cells cs T f)→¬((T=207∨T=159∨T=110)∨LT T)):Rz w' x mv lv gv ts gs where
 p:=⟨k.blk h.p.blk (hS _ (.inl rfl)),fC h.p.row (fun g cs f hg hh=>k.block g (lt_of_some hh) (hS g (.inr (Ig h.p.row hg)))),h.p.apart,h.p.most⟩
 m:=by
  obtain ⟨bm,tl,hm⟩:=h.m;exact ⟨bm,tl,hm.kt (fun g cs T f hh ht=>k.block g (lt_of_some hh) (fun hs=>hT g cs T f hs hh (.inl ht))) k.size⟩
 l:=by
  obtain ⟨qs,h1,h2⟩:=h.l;exact ⟨qs,h1.frame (fun g cs T f hh ht=>k.block g (lt_of_some hh) (fun hs=>hT g cs T f hs hh (.inr ht))),h2⟩
theorem Ol.keep {S:Nat→Prop} {w w':World} {y bm:Nat} {tv:Value} {ts:List Ty} {ss:List aei} {I:Nat→Prop} (h:Ol w y bm tv ts ss I) (k:bW S w w') (hS:∀k,Kq y tv k→¬S k) (hT:∀(k:Nat) (cs:Array Value) (T:TypeId) (f:Nat×Nat),S k→w.heap[k]? =some (Obj.cells cs T f)→RT T→T=3∧¬I k):Ol w' y bm tv ts ss I where
 d:=⟨k.blk h.d.blk (hS _ (.inl rfl)),fC h.d.row (fun g cs f hg hh=>k.block g (lt_of_some hh) (hS g (.inr (Ig h.d.row hg)))),h.d.apart,h.d.most⟩
 r:=h.r.kx (fun g cs T f hh ht hi=>k.block g (lt_of_some hh) (fun hs=>by
  obtain ⟨e,hn⟩:=hT g cs T f hs hh ht;exact hn (hi e)))
 il:=fun i hi=>Nat.lt_of_lt_of_le (h.il i hi) k.size
 most:=h.most
theorem UR.keep {S:Nat→Prop} {w w':World} {u:cB} (h:UR w u) (k:bW S w w') (hS:∀k,US u k→¬S k) (hT:∀(k:Nat) (cs:Array Value) (T:TypeId) (f:Nat×Nat),S k→w.heap[k]? =some (Obj.cells cs T f)→MD T→T=3∧¬u.I k):UR w' u where
 up:=h.up.keep k (fun i hi=>hS i (.inl hi)) (fun i cs T f hs hh ht=>by
  have e:=(hT i cs T f hs hh (ht.elim .inl (fun h=> .inr (.inl h)))).1;subst e;exact absurd ht (by unfold LT;decide))
 ud:=h.ud.keep k (fun i hi=>hS i (.inr hi)) (fun i cs T f hs hh ht=>hT i cs T f hs hh (.inr (.inr ht)))
 both:=h.both
theorem UR.below {w w':World} {u:cB} (h:UR w u) (k:Below w.heap.size w w'):UR w' u:=h.keep (S:=fun _=>False) (.of_below k) (fun _ _ e=>e) (fun _ _ _ _ e=>e.elim)
def eX (w:World) (v:Value) (t:aei):Prop:=v=.slice none 0 0∨∃g n c cs f,v=.slice (some ⟨g,0,none⟩) n c∧w.heap[g]? =some (Obj.cells cs 9 f)∧n≤1000∧∀i,i<n→cs[i]? =some (.string t)
theorem eX.frame {w w':World} {v:Value} {t:aei} (h:eX w v t) (k:∀(g:Nat) (cs:Array Value) (f:Nat×Nat),w.heap[g]? =some (Obj.cells cs 9 f)→w'.heap[g]? =w.heap[g]?):eX w' v t:=by
 rcases h with h|⟨g,n,c,cs,f,h1,h2,h3⟩
 ·exact .inl h
 ·exact .inr ⟨g,n,c,cs,f,h1,(k g cs f h2).trans h2,h3⟩
def Vl (u:cB):List Value:=[.pointer (some ⟨u.x,0,none⟩),.pointer (some ⟨u.y,0,none⟩)]
structure WS (base:Nat) (w:World) (b:Nat) (lv jK jy:Value) (us:List cB) (ms:List (Value×Nat)):Prop where
 blk:ai w b #[lv,jK,jy] 31
 low:base≤b
 l:w.ownsRow base 86 2 lv us.length (us.flatMap Vl)
 ls:w.ownsRow base 22 1 jK ms.length (ms.map Prod.fst)
 ks:w.ownsRow base 3 1 jy ms.length (ms.map fun m=> .int .i64 m.2)
 ur:∀u∈us,UR w u
 lowu:∀u∈us,∀k,US u k→base≤k
 ap:us.Pairwise (fun u v=>∀k,US u k→¬US v k)
 apk:∀u∈us,∀k,jy.ownBlock=some k→¬u.I k
 mrk:∀m∈ms,eX w m.1 (qB m.2)
 mks:∀m∈ms,m.2≤ms.length
theorem WS.below {base:Nat} {w w':World} {b:Nat} {lv jK jy:Value} {us:List cB} {ms:List (Value×Nat)} (h:WS base w b lv jK jy us ms) (k:Below w.heap.size w w'):WS base w' b lv jK jy us ms:=
 ⟨h.blk.below k,h.low,ay h.l k,ay h.ls k,ay h.ks k,fun u hu=>(h.ur u hu).below k,h.lowu,h.ap,h.apk,fun m hm=>(h.mrk m hm).frame (fun g cs f hh=>k.block g (lt_of_some hh)),h.mks⟩
theorem WS.upd {base:Nat} {w w':World} {b i:Nat} {lv jK jy:Value} {us:List cB} {ms:List (Value×Nat)} (h:WS base w b lv jK jy us ms) {u u':cB} (hi:us[i]? =some u) (k:bW (US u) w w') (hu:UR w' u') (hx:u'.x=u.x) (hy:u'.y=u.y) (hf:∀k,US u' k→US u k∨w.heap.size≤k) (hI:∀k,jy.ownBlock=some k→¬u'.I k):
  WS base w' b lv jK jy (us.set i u') ms∧Below base w w':=by
 have hil:i<us.length:=by
  rcases Nat.lt_or_ge i us.length with h|h
  ·exact h
  ·rw [List.getElem?_eq_none h] at hi;cases hi
 have hue:us[i]=u:=by rw [aeh hil] at hi;exact Option.some.inj hi
 have hum:u∈us:=List.mem_of_getElem? hi;have hub:=h.ur u hum;have bF:base≤w.heap.size:=by have:=h.low;have:=h.blk.lt;omega
 have key:∀(g:Nat) (cs:Array Value) (T:TypeId) (f:Nat×Nat),w.heap[g]? =some (Obj.cells cs T f)→¬Wn T→w'.heap[g]? =w.heap[g]? :=fun g cs T f hh ht=>k.block g (lt_of_some hh) (fun hs=>ht (hub.nty hs hh))
 have hap:=List.pairwise_iff_getElem.1 h.ap;have hcl:(us.set i u').flatMap Vl=us.flatMap Vl:=by
  have e:us.set i u'=us.take i++u'::us.drop (i+1):=by rw [List.set_eq_take_append_cons_drop,if_pos hil]
  have e2:us=us.take i++u::us.drop (i+1):=by rw [←hue,List.getElem_cons_drop,List.take_append_drop]
  rw [e]
  conv=>rhs;rw [e2]
  simp [Vl,hx,hy]
 have hoth:∀j (hj:j<us.length),i≠j→UR w' us[j]:=fun j hj hij=>(h.ur _ (List.getElem_mem hj)).keep k (fun q hq hs=>by
   rcases Nat.lt_or_gt_of_ne hij with hlt|hlt
   ·exact hap i j hil hj hlt q (by rw [hue];exact hs) hq
   ·exact hap j i hj hil hlt q hq (by rw [hue];exact hs))
  (fun q cs T f hs hh ht=>absurd ht (by
   have:=hub.nty hs hh
   rcases this with rfl|rfl|rfl|rfl<;>(unfold MD LT RT;decide)))
 refine ⟨⟨(key b _ _ _ h.blk (by unfold Wn;decide)).trans h.blk,h.low,?_,ak h.ls (fun g cs f _ hh=>key g cs _ f hh (by unfold Wn;decide)),ak h.ks (fun g cs f _ hh=>key g cs _ f hh (by unfold Wn;decide)),fun v hv=> ?_,fun v hv=> ?_,?_,fun v hv=> ?_,fun m hm=>(h.mrk m hm).frame (fun g cs f hh=>key g cs _ f hh (by unfold Wn;decide)),h.mks⟩,k.below bF (fun g hg=>h.lowu u hum g hg)⟩
 ·rw [hcl,List.length_set];exact ak h.l (fun g cs f _ hh=>key g cs _ f hh (by unfold Wn;decide))
 ·obtain ⟨j,hj,rfl⟩:=List.getElem_of_mem hv;rw [List.length_set] at hj
  by_cases e:i=j
  ·subst e;rw [List.getElem_set_self];exact hu
  ·rw [List.getElem_set_ne e];exact hoth j hj e
 ·rcases List.mem_or_eq_of_mem_set hv with hv|rfl
  ·exact h.lowu v hv
  ·intro q hq
   rcases hf q hq with e|e
   ·exact h.lowu u hum q e
   ·omega
 ·refine List.pairwise_iff_getElem.2 (fun a c ha hc hac q hq e=> ?_);rw [List.length_set] at ha hc;have old:∀j (hj:j<us.length),i≠j→US us[j] q→US u' q→False:=fun j hj hij h1 h2=>by
   rcases hf q h2 with e|e
   ·rcases Nat.lt_or_gt_of_ne hij with hlt|hlt
    ·exact hap i j hil hj hlt q (by rw [hue];exact e) h1
    ·exact hap j i hj hil hlt q h1 (by rw [hue];exact e)
   ·have:=(h.ur _ (List.getElem_mem hj)).lt h1;omega
  by_cases ea:i=a
  ·subst ea;rw [List.getElem_set_self] at hq;rw [List.getElem_set_ne (by omega)] at e;exact old c hc (by omega) e hq
  ·rw [List.getElem_set_ne ea] at hq
   by_cases ec:i=c
   ·subst ec;rw [List.getElem_set_self] at e;exact old a ha (by omega) hq e
   ·rw [List.getElem_set_ne ec] at e;exact hap a c ha hc hac q hq e
 ·rcases List.mem_or_eq_of_mem_set hv with hv|rfl
  ·exact h.apk v hv
  ·exact hI
def YS (u:cB) (w:World) (c:Nat) (ts:List Ty) (gs:List Tu) (e:Ending) (w':World):Prop:=∃mv lv gv,e=.returned (.int .i64 c)∧Rz w' u.x mv lv gv ts gs∧bW (EF u.x u.gv) w w'∧∀k,EF u.x gv k→EF u.x u.gv k∨w.heap.size≤k
def YT (u:cB) (w:World) (c:Nat) (ts:List Ty) (ss:List aei) (e:Ending) (w':World):Prop:=∃bm tv I,e=.returned (.int .i64 c)∧Ol w' u.y bm tv ts ss I∧bW (Kq u.y u.tv) w w'∧(∀k,Kq u.y tv k→Kq u.y u.tv k∨w.heap.size≤k)∧∀k,I k→u.I k∨w.heap.size≤k
def Op2 (f1 f2:Nat) (u:cB) (s:aei):Prop:=∀w,UR w u→Laid w→uW w→1<w.heap.size→∃c ts gs ss,xC gs ss∧Calls Tryz.prog f1 #[.pointer (some ⟨u.x,0,none⟩),.string s] w (YS u w c ts gs)∧∀w',Ol w' u.y u.bm u.tv u.ts u.ss u.I→Calls Tryz.prog f2 #[.pointer (some ⟨u.y,0,none⟩),.string s] w' (YT u w' c ts ss)
theorem Om {u:cB} {w w':World} {c:Nat} (h:Rz w u.x u.mv u.lv u.gv u.ts u.gs) (k:Below w.heap.size w w'):YS u w c u.ts u.gs (.returned (.int .i64 c)) w':=⟨_,_,_,rfl,h.keep (S:=fun _=>False) (.of_below k) (fun _ _ e=>e) (fun _ _ _ _ e=>e.elim),.of_below k,fun _ h=> .inl h⟩
theorem Oo {u:cB} {w w':World} {c:Nat} (h:Ol w u.y u.bm u.tv u.ts u.ss u.I) (k:Below w.heap.size w w'):YT u w c u.ts u.ss (.returned (.int .i64 c)) w':=⟨_,_,_,rfl,h.keep (S:=fun _=>False) (.of_below k) (fun _ _ e=>e) (fun _ _ _ _ e=>e.elim),.of_below k,fun _ h=> .inl h,fun _ h=> .inl h⟩
theorem XM.fin {ts:List Ty} {I:Nat→Prop} {bm:Nat} {w:World} (h:XM ts I bm w):XM ts (fun k=>I k∧k<w.heap.size) bm w:=by
 obtain ⟨kv,rv,pv,kl,rl,pl,l,bz,h1,h2,h3,h4⟩:=h;exact ⟨kv,rv,pv,kl,rl,pl,l,bz,h1,h2,h3,fun x hx i hi=>⟨h4 x hx i hi,((h1.dm.pt.rep x hx).p.lt i hi).2⟩⟩
theorem Ih:xC [] []:=⟨rfl,fun _ h=>by cases h⟩
theorem load2 (u:cB) (s:aei):Op2 27 83 u s:=by
 intro w hu hg hm h1
 cases hr:kW s with
 |error er=>
  obtain ⟨o,c⟩:=er;have hc:=(rH hr w).1;refine ⟨c,u.ts,u.gs,u.ss,hu.both,(Cg u.x s w o c hr hc hg).mono fun e w' ⟨he,hb⟩=> ?_,fun w' hd=> ?_⟩
  ·rw [he];exact Om hu.up hb
  ·obtain ⟨_,p,C⟩:=rH hr w';refine (Nz u.y s w' _ _ _ hd.d c p hc C).mono fun e w'' ⟨he,hb⟩=> ?_
   rw [he];exact Oo hd hb
 |ok ts=>
  refine ⟨0,ts,[],[],Ih,(Gg LXp QE QD u.x s w _ _ _ hu.up.p.blk ts hr hg).mono fun e w' ⟨mv,lv,bm,tl,he,hp,JI,hlx,hb⟩=> ?_,fun w' hd=> ?_⟩
  ·exact ⟨mv,lv,_,he,⟨hp,⟨bm,tl,JI⟩,hlx⟩,hb.mono (fun k e=> .inl e),fun k hk=>by
    rcases hk with e|⟨n,c,e⟩
    ·exact .inl (.inl e)
    ·cases e⟩
  ·refine (QG u.y s w' _ _ _ hd.d (XM ts (fun k=>w'.heap.size≤k)) (fun bm w w' h k=>h.kd k) (Hq hr w')).mono fun e w'' ⟨bm,he,hdu,hx,hb⟩=> ?_
   exact ⟨bm,_,_,he,⟨hdu,hx.fin,fun k hk=>hk.2,by simp⟩,hb.mono (fun k e=> .inl e),(fun k hk=>by
    rcases hk with e|⟨n,c,e⟩
    ·exact .inl (.inl e)
    ·cases e),fun k hk=> .inr hk.1⟩
theorem KD.of_dus {w w':World} {y bm:Nat} {tv:Value} {ts:List Ty} {ss:List aei} {I:Nat→Prop} (h:Ol w y bm tv ts ss I) (k:bW (Kq y tv) w w'):KD w w':=KD.of_butS k (fun g cs T f hs hh ht=>by
 obtain ⟨cs',T',hb,hT⟩:=h.ty hs;unfold ai at hb;rw [hb] at hh
 cases hh
 rcases hT with rfl|rfl<;>exact absurd ht (by unfold RT;decide))
theorem LU {u:cB} {w w':World} {r:Nat×List Tu} {e:Ending} (hu:UR w u) (h:lC u.x u.mv u.lv u.gv w r e w'):YS u w r.1 u.ts r.2 e w':=by
 obtain ⟨gv',he,hp,hb,hf⟩:=h;have key:∀(k:Nat) (cs:Array Value) (T:TypeId) (f:Nat×Nat),EF u.x u.gv k→w.heap[k]? =some (Obj.cells cs T f)→¬((T=207∨T=159∨T=110)∨LT T):=fun k cs T f hs hh ht=>by
  obtain ⟨cs',T',hbk,hT⟩:=hu.up.ty hs;unfold ai at hbk;rw [hbk] at hh
  cases hh
  rcases hT with rfl|rfl<;>exact absurd ht (by unfold LT;decide)
 refine ⟨_,_,gv',he,⟨hp,?_,?_⟩,hb,hf⟩
 ·obtain ⟨bm,tl,hm⟩:=hu.up.m;exact ⟨bm,tl,hm.kt (fun g cs T f hh ht=>hb.block g (lt_of_some hh) (fun hs=>key g cs T f hs hh (.inl ht))) hb.size⟩
 ·obtain ⟨qs,h1,h2⟩:=hu.up.l;exact ⟨qs,h1.frame (fun g cs T f hh ht=>hb.block g (lt_of_some hh) (fun hs=>key g cs T f hs hh (.inr ht))),h2⟩
theorem LV {u:cB} {w w':World} {r:Nat×List aei} {e:Ending} (hd:Ol w u.y u.bm u.tv u.ts u.ss u.I) (h:kN u.y (.pointer (some ⟨u.bm,5,none⟩)) u.tv w r e w') (hl:r.2.length≤24):YT u w r.1 u.ts r.2 e w':=by
 obtain ⟨tv',he,hp,hb,hf⟩:=h;exact ⟨_,tv',u.I,he,⟨hp,hd.r.kd (KD.of_dus hd hb),fun k hk=>Nat.lt_of_lt_of_le (hd.il k hk) hb.size,hl⟩,hb,hf,fun k hk=> .inl hk⟩
theorem Vm {rl:List RV} {bz:Nat→List Gr} {ss:List aei} {s:aei} (h:ss.length≤24):(Sk rl bz ss s).2.length≤24:=by
 unfold Sk
 split
 ·exact h
 ·split
  ·exact h
  ·split
   ·exact h
   ·split
    ·exact h
    ·split
     ·exact h
     ·simp;omega
theorem RA {ss:List aei} {s:aei} (h:ss.length≤24):(Ha ss s).2.length≤24:=by
 unfold Ha
 split
 ·exact h
 ·split
  ·exact h
  ·have:=List.length_eraseIdx_le ss (mD ss s).toNat;simp only
   first|omega|(rw [List.eraseIdx_eq_take_drop_succ] at this;simp at*;omega)
theorem RD {gs:List Tu} {ss:List aei} (h:xC gs ss):gs.length=ss.length:=by rw [h.eq,List.length_map]
theorem YU (u:cB) (s:aei) (hs:s.size≤maxLen):Op2 28 84 u s:=by
 intro w hu hg hm h1;obtain ⟨bm,tl,JI⟩:=hu.up.m;obtain ⟨kv,rv,pv,kl,rl,pl,l,bz,hd,hmod,hG,_⟩:=hu.ud.r;have hl:=RD hu.both;have zf:=hu.ud.most;obtain ⟨e1,e2⟩:=Ac hmod hu.both s;refine ⟨(Yj u.ts u.gs s).1,u.ts,(Yj u.ts u.gs s).2,(Sk rl bz u.ss s).2,e2,(JU abw u.x bm s w _ _ _ _ u.ts tl hu.up.p JI hm h1 hg (by omega)).mono fun e w' h=>LU hu h,fun w' ZG=> ?_⟩;obtain ⟨kv',We,pv',kl',rl',mX,l',aby,hd',hmod',hG',_⟩:=ZG.r;obtain ⟨e1',e2'⟩:=Ac hmod' hu.both s;have hss:(Sk rl bz u.ss s).2=(Sk rl' aby u.ss s).2:=by
  have a1:=e2.eq;have a2:=e2'.eq;have inj:∀(l m:List aei),(∀y∈l,dK y=true)→(∀y∈m,dK y=true)→l.map Ab=m.map Ab→l=m:=by
   intro l
   induction l with
   |nil=>intro m _ _ h;cases m with
    |nil=>rfl
    |cons _ _=>simp at h
   |cons x l ih=>intro m h1 h2 h;cases m with
    |nil=>simp at h
    |cons y m=>
     simp only [List.map_cons,List.cons.injEq] at h;rw [LG (h1 x (by simp)) (h2 y (by simp)) h.1,ih m (fun z hz=>h1 z (by simp [hz])) (fun z hz=>h2 z (by simp [hz])) h.2]
  exact inj _ _ e2.ok e2'.ok (a1.symm.trans a2)
 rw [hss,e1'];exact (Kt u.y u.bm s w' kv' We pv' _ kl' rl' mX l' u.ss aby ZG.d hd'.dm hG' hs (by omega)).mono fun e w'' h=>LV ZG h (Vm zf)
theorem Vn (u:cB) (s:aei) (hs:s.size≤maxLen):Op2 35 85 u s:=by
 intro w hu hg hm h1;obtain ⟨e1,e2⟩:=Ri hu.both s;refine ⟨(JR u.gs s).1,u.ts,(JR u.gs s).2,(Ha u.ss s).2,e2,(FY abw u.x s w _ _ _ _ hu.up.p hm h1).mono fun e w' h=>LU hu h,fun w' ZG=> ?_⟩;rw [e1];exact (Hd u.y s w' _ _ _ ZG.d hs).mono fun e w'' h=>LV ZG h (RA hu.ud.most)
theorem vL {u:cB} {w w1:World} (hu:UR w u) (hb:bW (EF u.x u.gv) w w1):Ol w1 u.y u.bm u.tv u.ts u.ss u.I:=hu.ud.keep hb (fun k hk hs=>by
  obtain ⟨cs,T,h1,h2⟩:=hu.ud.ty hk;obtain ⟨cs',T',h3,h4⟩:=hu.up.ty hs;unfold ai at h1 h3;rw [h1] at h3
  cases h3
  rcases h2 with rfl|rfl<;>exact absurd h4 (by decide))
 (fun k cs T f hs hh ht=>by
  obtain ⟨cs',T',h3,h4⟩:=hu.up.ty hs;unfold ai at h3;rw [h3] at hh
  cases hh
  rcases h4 with rfl|rfl<;>exact absurd ht (by unfold RT;decide))
theorem ai.butS {u:cB} {w w1:World} {g:Nat} {cs:Array Value} {T:TypeId} (h:ai w g cs T) (hb:bW (EF u.x u.gv) w w1) (hu:UR w u) (ht:¬(T=117∨T=123)):ai w1 g cs T:=hb.blk h (fun hs=>by
 obtain ⟨cs',T',h3,h4⟩:=hu.up.ty hs;unfold ai at h h3;rw [h] at h3
 cases h3
 exact ht h4)
def RF (base b:Nat) (lv jK jy:Value) (us:List cB) (ms:List (Value×Nat)) (i:Nat) (w w':World):Prop:=(∃u',WS base w' b lv jK jy (us.set i u') ms)∧Below base w w'
theorem Ak {base b:Nat} {lv jK jy:Value} {us:List cB} {ms:List (Value×Nat)} {i:Nat} {u:cB} {w W w1 w2:World} (h:WS base w b lv jK jy us ms) (hi:us[i]? =some u) (hu:UR W u) (bw:Below w.heap.size w W) {ts:List Ty} {gs:List Tu} {ss:List aei} (Sl:xC gs ss) {ZH ZI YV:Value} (hp1:Rz w1 u.x ZH ZI YV ts gs) (hb1:bW (EF u.x u.gv) W w1) (Sm:∀k,EF u.x YV k→EF u.x u.gv k∨W.heap.size≤k)
  {Wo:Nat} {ZJ:Value} {I2:Nat→Prop} (hd2:Ol w2 u.y Wo ZJ ts ss I2) (hb2:bW (Kq u.y u.tv) w1 w2) (hf2:∀k,Kq u.y ZJ k→Kq u.y u.tv k∨w1.heap.size≤k) (hi2:∀k,I2 k→u.I k∨w1.heap.size≤k):RF base b lv jK jy us ms i w w2:=by
 have hd1:=vL hu hb1;have hs1:=hb1.size;have hp2:Rz w2 u.x ZH ZI YV ts gs:=hp1.keep hb2 (fun k hk hs=>by
   obtain ⟨cs,T,h1,h2⟩:=hp1.ty hk;obtain ⟨cs',T',h3,h4⟩:=hd1.ty hs;unfold ai at h1 h3;rw [h1] at h3
   cases h3
   rcases h2 with rfl|rfl<;>exact absurd h4 (by decide))
  (fun k cs T f hs hh ht=>by
   obtain ⟨cs',T',h3,h4⟩:=hd1.ty hs;unfold ai at h3;rw [h3] at hh
   cases hh
   rcases h4 with rfl|rfl<;>exact absurd ht (by unfold LT;decide))
 have hW:=h.below bw;have hbS:bW (US u) W w2:=(hb1.mono (fun k e=> .inl e)).trans (hb2.mono (fun k e=> .inr e));obtain ⟨r1,r2⟩:=hW.upd (u':=⟨u.x,u.y,Wo,ZH,ZI,YV,ZJ,ts,gs,ss,I2⟩) hi hbS ⟨hp2,hd2,Sl⟩ rfl rfl (fun k hk=>by
  rcases hk with hk|hk
  ·rcases Sm k hk with e|e
   ·exact .inl (.inl e)
   ·exact .inr e
  ·rcases hf2 k hk with e|e
   ·exact .inl (.inr e)
   ·exact .inr (by omega)) (fun k hk hI=>by
  rcases hi2 k hI with e|e
  ·exact hW.apk u (List.mem_of_getElem? hi) k hk e
  ·have:=(hW.ks.lt k hk).2;omega)
 have bF:base≤w.heap.size:=by have:=h.low;have:=h.blk.lt;omega
 exact ⟨⟨_,r1⟩,(bw.mono bF).trans r2⟩
theorem Ii {base b:Nat} {lv jK jy:Value} {us:List cB} {ms:List (Value×Nat)} {i:Nat} {u:cB} {w:World} (h:WS base w b lv jK jy us ms) (hi:us[i]? =some u) (kd ee:Int) (s rr ww:aei) (hs:s.size≤maxLen) (hg:Laid w) (hm:uW w) (h1:1<w.heap.size):
  Calls Tryz.prog 46 #[.agg #[.pointer (some ⟨u.x,0,none⟩),.pointer (some ⟨u.y,0,none⟩)],.agg #[.int .i64 kd,.int .i64 ee,.string s,.string rr,.string ww]] w fun e w'=>e=.returned (.bool true)∧RF base b lv jK jy us ms i w w':=by
 have bw:Below w.heap.size w ((w.alloc (.cells #[.pointer (some ⟨u.x,0,none⟩),.pointer (some ⟨u.y,0,none⟩)] 86)).alloc (.cells #[.int .i64 kd,.int .i64 ee,.string s,.string rr,.string ww] 34)):=((Below.refl _ w).alloc aeg _).alloc (by simp) _;have hu:=(h.ur u (List.mem_of_getElem? hi)).below bw;have hL:=load2 u s ((w.alloc (.cells #[.pointer (some ⟨u.x,0,none⟩),.pointer (some ⟨u.y,0,none⟩)] 86)).alloc (.cells #[.int .i64 kd,.int .i64 ee,.string s,.string rr,.string ww] 34)) hu (hg.below bw (by omega)) (hm.below bw (by omega)) (by have:=bw.size;omega);have hWr:=YU u s hs ((w.alloc (.cells #[.pointer (some ⟨u.x,0,none⟩),.pointer (some ⟨u.y,0,none⟩)] 86)).alloc (.cells #[.int .i64 kd,.int .i64 ee,.string s,.string rr,.string ww] 34)) hu (hg.below bw (by omega)) (hm.below bw (by omega)) (by have:=bw.size;omega);have hDl:=Vn u s hs ((w.alloc (.cells #[.pointer (some ⟨u.x,0,none⟩),.pointer (some ⟨u.y,0,none⟩)] 86)).alloc (.cells #[.int .i64 kd,.int .i64 ee,.string s,.string rr,.string ww] 34)) hu (hg.below bw (by omega)) (hm.below bw (by omega)) (by have:=bw.size;omega);have PB:=af ((ai.new w #[.pointer (some ⟨u.x,0,none⟩),.pointer (some ⟨u.y,0,none⟩)] 86).alloc (.cells #[.int .i64 kd,.int .i64 ee,.string s,.string rr,.string ww] 34));have SB:=af (ai.new' (w.alloc (.cells #[.pointer (some ⟨u.x,0,none⟩),.pointer (some ⟨u.y,0,none⟩)] 86)) #[.int .i64 kd,.int .i64 ee,.string s,.string rr,.string ww] 34 (w.heap.size+1) (by simp));have HU:=af hu;have BW:=af bw;have HWS:=af h;have HL:=af hL;have HWR:=af hWr;have HDL:=af hDl;clear hL hWr hDl hu bw h hg hm h1 hs
 by_cases k3:kd=3
 ·obtain ⟨c,ts,gs,ss,Sl,Wp,Wq⟩:=ae HL;have C1:=af Wp;have CD:=af Wq;have HBO:=af Sl;subst k3;clear HL HWR HDL Wp Wq Sl;go_enter Tryz.func46,Tryz.ntmps46;go_wp2_with fail;refine (ae C1).mono ?_;rintro e w1 ⟨ZH,ZI,YV,rfl,hp1,hb1,Sm⟩;have C2:=af (ae CD w1 (vL (ae HU) hb1));have P1:=af ((ae PB).butS hb1 (ae HU) (by decide));have S1:=af ((ae SB).butS hb1 (ae HU) (by decide));obtain ⟨p0,p1⟩:=iH (ae P1);have s2:w1.cell? ⟨w.heap.size+1,2,none⟩=some (.string s):=(ae S1).cell rfl;have HP1:=af hp1;have HB1:=af hb1;have HF1:=af Sm;clear hp1 hb1 Sm C1;go_wp2_with fail;refine (ae C2).mono ?_;rintro e w2 ⟨Wo,ZJ,I2,rfl,hd2,hb2,hf2,hi2⟩;have RH:=af (Ak (ae HWS) hi (ae HU) (ae BW) (ae HBO) (ae HP1) (ae HB1) (ae HF1) hd2 hb2 hf2 hi2);clear hd2 hb2 hf2 hi2 C2 p0 p1 s2;go_wp2;go_ret;exact ⟨rfl,ae RH⟩
 ·have n3:(kd==3)=false:=by simpa using k3
  by_cases k4:kd=4
  ·obtain ⟨c,ts,gs,ss,Sl,Wp,Wq⟩:=ae HWR;have C1:=af Wp;have CD:=af Wq;have HBO:=af Sl;subst k4;clear HL HWR HDL Wp Wq Sl n3 k3;go_enter Tryz.func46,Tryz.ntmps46;go_wp2_with fail;refine (ae C1).mono ?_;rintro e w1 ⟨ZH,ZI,YV,rfl,hp1,hb1,Sm⟩;have C2:=af (ae CD w1 (vL (ae HU) hb1));have P1:=af ((ae PB).butS hb1 (ae HU) (by decide));have S1:=af ((ae SB).butS hb1 (ae HU) (by decide));obtain ⟨p0,p1⟩:=iH (ae P1);have s2:w1.cell? ⟨w.heap.size+1,2,none⟩=some (.string s):=(ae S1).cell rfl;have HP1:=af hp1;have HB1:=af hb1;have HF1:=af Sm;clear hp1 hb1 Sm C1;go_wp2_with fail;refine (ae C2).mono ?_;rintro e w2 ⟨Wo,ZJ,I2,rfl,hd2,hb2,hf2,hi2⟩;have RH:=af (Ak (ae HWS) hi (ae HU) (ae BW) (ae HBO) (ae HP1) (ae HB1) (ae HF1) hd2 hb2 hf2 hi2);clear hd2 hb2 hf2 hi2 C2 p0 p1 s2;go_wp2;go_ret;exact ⟨rfl,ae RH⟩
  ·have n4:(kd==4)=false:=by simpa using k4
   obtain ⟨c,ts,gs,ss,Sl,Wp,Wq⟩:=ae HDL;have C1:=af Wp;have CD:=af Wq;have HBO:=af Sl;clear HL HWR HDL Wp Wq Sl;go_enter Tryz.func46,Tryz.ntmps46;go_wp2_with fail;refine (ae C1).mono ?_;rintro e w1 ⟨ZH,ZI,YV,rfl,hp1,hb1,Sm⟩;have C2:=af (ae CD w1 (vL (ae HU) hb1));have P1:=af ((ae PB).butS hb1 (ae HU) (by decide));have S1:=af ((ae SB).butS hb1 (ae HU) (by decide));obtain ⟨p0,p1⟩:=iH (ae P1);have s2:w1.cell? ⟨w.heap.size+1,2,none⟩=some (.string s):=(ae S1).cell rfl;have HP1:=af hp1;have HB1:=af hb1;have HF1:=af Sm;clear hp1 hb1 Sm C1;go_wp2_with fail;refine (ae C2).mono ?_;rintro e w2 ⟨Wo,ZJ,I2,rfl,hd2,hb2,hf2,hi2⟩;have RH:=af (Ak (ae HWS) hi (ae HU) (ae BW) (ae HBO) (ae HP1) (ae HB1) (ae HF1) hd2 hb2 hf2 hi2);clear hd2 hb2 hf2 hi2 C2 p0 p1 s2;go_wp2;go_ret;exact ⟨rfl,ae RH⟩
def Es (w w':World) (v:Value) (e:TypeId) (news:List Value):Prop:=∀(k:Nat) (cs:Array Value) (f:Nat×Nat),v.ownBlock=some k→w.heap[k]? =some (Obj.cells cs e f)→∃cs',w'.heap[k]? =some (Obj.cells cs' e f)∧∀j:Nat,cs'[j]? =cs[j]? ∨∃u∈news,cs'[j]? =some u
theorem Al {P:Program} (w:World) (t ty:TypeId) (base:Nat) (e:TypeId) (i:TypeInfo) (z:Value) (bytes:Nat) (ht:P.underlying t=some (.slice e)) (hi:P.info? e=some i) (hz:i.zero=some z)
  (hsize:i.size=1) (hby:i.bytes=bytes) (hzs:z.cells.size=1)
  (v:Value) (n:Nat) (xs:List Value) (hown:w.ownsRow base e 1 v n xs)
  (ad:Addr) (m c:Nat) (news:List Value) (hl:news.length=m*1) (hnews:∀j u,news[j]? =some u→w.cell? (ad.add j)=some u) (h1:∀u∈news,u.oneCell'=true)
  (hm:0<m) (h63:n+m≤maxLen) (hbytes:(n+m)*bytes≤140737488355328) (hbase:base≤w.heap.size) (H:Nat) (hH:w.heap.size=H):
  ∃g cap w',(Builtin.append_ #[t,t] ty #[v,.slice (some ad) m c]).run P w=.ok (.slice (some ⟨g,0,none⟩) (n+m) cap) w'∧
   w'.ownsRow base e 1 (.slice (some ⟨g,0,none⟩) (n+m) cap) (n+m) (xs++news)∧w.grownBy w' v.ownBlock∧(v.ownBlock=some g∨g=H)∧g<w'.heap.size∧w'.ownsRow base e 1 v n xs∧
   Es w w' v e news:=by
 obtain ⟨g5,aD,w5,sW,o5,ZK,at5,lt5⟩:=run_append_lies (P:=P) w t ty base e i z 1 bytes ht hi hz hsize hby hzs (by decide) v n xs hown ad m c news hl hnews h1 hm h63 hbytes hbase H hH;refine ⟨g5,aD,w5,sW,o5,ZK,at5,lt5,?_⟩
 rcases hown.2 with ⟨rfl,rfl⟩|⟨g,cap,cur,rfl,hbg,hg,hnc,hcm,hcs,htake⟩
 ·have hx:xs=[]:=List.eq_nil_of_length_eq_zero (by simpa using hown.1);subst hx;exact ⟨World.ownsRow_nil _ _ _ _,fun k cs f hk=>by cases hk⟩
 ·by_cases hroom:n+m≤cap
  ·have hfit:n*i.size+news.length≤cur.size:=by rw [hl,hcs,hsize];omega
   have hr:=run_append_room (P:=P) w t ty e i ht hi g n cap cur hg ad m c news (by rw [hsize];exact hl) hnews h1 hroom hfit;have e5:=hr.symm.trans sW;simp only [Result.ok.injEq,Value.slice.injEq] at e5;obtain ⟨_,rfl⟩:=e5;rw [hsize] at hr ⊢;have hh:(w.setRow g (cur.toList.take (n*1)++news++cur.toList.drop (n*1+news.length)).toArray).heap[g]? =some (.cells (cur.toList.take (n*1)++news++cur.toList.drop (n*1+news.length)).toArray e (0,0)):=setRow_heap w g cur _ e _ hg;have hlt:(cur.toList.take (n*1)).length=n:=by rw [List.length_take,Array.length_toList,hcs];omega
   refine ⟨⟨hown.1,.inr ⟨g,cap,_,rfl,hbg,hh,hnc,hcm,?_,?_⟩⟩,fun k cs f hk hkk=> ?_⟩
   ·simp only [List.size_toArray,List.length_append,List.length_take,List.length_drop,Array.length_toList];omega
   ·rw [←htake,List.append_assoc];exact List.take_left' (by rw [hlt];omega)
   ·simp only [Value.ownBlock,Option.some.injEq] at hk;subst hk;rw [hg] at hkk
    cases hkk
    refine ⟨_,hh,fun j=> ?_⟩
    rcases Nat.lt_or_ge j n with h|h
    ·left;rw [List.getElem?_toArray,List.append_assoc,List.getElem?_append_left (by omega),List.getElem?_take_of_lt (by omega)];simp
    ·rcases Nat.lt_or_ge j (n+news.length) with h'|h'
     ·right;rw [List.getElem?_toArray,List.append_assoc,List.getElem?_append_right (by omega),hlt,List.getElem?_append_left (by omega),aeh (by omega)];exact ⟨_,List.getElem_mem _,rfl⟩
     ·left;rw [List.getElem?_toArray,List.getElem?_append_right (by rw [List.length_append,hlt];omega),List.getElem?_drop];rw [List.length_append,hlt];rw [show n*1+news.length+(j-(n+news.length))=j by omega];simp
  ·have holds:∀j u,xs[j]? =some u→w.cell? ((⟨g,0,none⟩:Addr).add j)=some u:=hown.cells (g:=g) rfl;have hr:=run_append_grow (P:=P) w t ty e i z ht hi hz ⟨g,0,none⟩ n cap xs (by rw [hsize];exact hown.1) holds ad m c news (by rw [hsize];exact hl) hnews (by omega) (by simp only [maxLen] at h63;omega) (growslice_fits (by omega) (by rw [hby];exact hbytes));have e5:=hr.symm.trans sW;simp only [Result.ok.injEq,Value.slice.injEq] at e5;obtain ⟨_,rfl⟩:=e5;have bb:∀k,k<w.heap.size→(w.drew.alloc (.cells (xs.toArray++news.toArray++Builtin.zeroCells z.cells (grownCap w (n+m) cap e-(n+m))) e)).heap[k]? =w.heap[k]? :=fun k hk=>heap_alloc_old w.drew _ hk
   refine ⟨ak hown (fun k cs f _ hh=>bb k (lt_of_some hh)),fun k cs f _ hh=>⟨cs,(bb k (lt_of_some hh)).trans hh,fun j=> .inl rfl⟩⟩
theorem jW {P:Program} (w:World) {ops:Array Oper} {rest:List Oper} {o:Oper} {a:Act} {Q:Exit→Act→World→Prop} (hgd:o.guard=none) (s x:Operand) (t:TypeId)
  (ho:o.op=.call {callee:=.builtin .append,args:=#[s,x],argTypes:=#[t,t]})
  (base:Nat) (e:TypeId) (i:TypeInfo) (z:Value) (bytes:Nat) (ht:P.underlying t=some (.slice e)) (hi:P.info? e=some i) (hz:i.zero=some z)
  (hsize:i.size=1) (hby:i.bytes=bytes) (hzs:z.cells.size=1)
  (v:Value) (n:Nat) (xs:List Value) (hs:a.eval s=v) (hown:w.ownsRow base e 1 v n xs)
  (ad:Addr) (m c:Nat) (news:List Value) (hx:a.eval x=.slice (some ad) m c) (hl:news.length=m*1) (hnews:∀j u,news[j]? =some u→w.cell? (ad.add j)=some u) (h1:∀u∈news,u.oneCell'=true)
  (hm:0<m) (h63:n+m≤maxLen) (hbytes:(n+m)*bytes≤140737488355328) (hbase:base≤w.heap.size) (H:Nat) (hH:w.heap.size=H)
  (h:∀g cap w',w'.ownsRow base e 1 (.slice (some ⟨g,0,none⟩) (n+m) cap) (n+m) (xs++news)→w.grownBy w' v.ownBlock→(v.ownBlock=some g∨g=H)→g<w'.heap.size→w'.ownsRow base e 1 v n xs→
   Es w w' v e news→wpList P ops Q rest (a.put o.dst (.slice (some ⟨g,0,none⟩) (n+m) cap)) w'):wpList P ops Q (o::rest) a w:=
 wpList_plain hgd fun _ hK=>by
  obtain ⟨g,cap,w',hr,h2,h3,h4,h5,h6,h7⟩:=Al (P:=P) w t o.type base e i z bytes ht hi hz hsize hby hzs v n xs hown ad m c news hl hnews h1 hm h63 hbytes hbase H hH;unfold Oper.wp execOp;simp only [ho,resolve,invoke,builtin,Sem.run_bind,Sem.run_pure,Result.andThen_ok,List.map_toArray,List.map_cons,List.map_nil,hs,hx,hr];exact hK _ _ (h g cap w' h2 h3 h4 h5 h6 h7)
theorem eX.app {w w':World} {v v1:Value} {t:aei} {news:List Value} (h:eX w v1 t) (hg:w.grownBy w' v.ownBlock) (hn:∀u∈news,u=.string t) (hk:Es w w' v 9 news):eX w' v1 t:=by
 rcases h with h|⟨g,n,c,cs,f,h1,h2,h3,h4⟩
 ·exact .inl h
 ·by_cases e:v.ownBlock=some g
  ·obtain ⟨cs',h5,h6⟩:=hk g cs f e h2;refine .inr ⟨g,n,c,cs',f,h1,h5,h3,fun i hi=> ?_⟩
   rcases h6 i with h|⟨u,hu,h⟩
   ·rw [h];exact h4 i hi
   ·rw [h,hn u hu]
  ·exact .inr ⟨g,n,c,cs,f,h1,(hg.block g (lt_of_some h2) (fun e'=>e e'.symm)).trans h2,h3,h4⟩
theorem eX.of_own {w:World} {base:Nat} {v:Value} {n:Nat} {t:aei} (h:w.ownsRow base 9 1 v n (List.replicate n (.string t))) (hn:n≤1000):eX w v t:=by
 rcases h.2 with ⟨rfl,rfl⟩|⟨g,cap,cur,rfl,_,hg,hc,_,hcs,htake⟩
 ·exact .inl rfl
 ·refine .inr ⟨g,n,cap,cur,(0,0),rfl,hg,hn,fun i hi=> ?_⟩;have h1:(cur.toList.take (n*1))[i]? =some (.string t):=by rw [htake];simp [hi]
  rw [List.getElem?_take_of_lt (by omega)] at h1
  simpa using h1
def lS (lim:Nat) (w:World) (v:Value) (t:aei):Prop:=v=.slice none 0 0∨∃g n c cs f,v=.slice (some ⟨g,0,none⟩) n c∧g<lim∧w.heap[g]? =some (Obj.cells cs 9 f)∧n≤1000∧∀i,i<n→cs[i]? =some (.string t)
theorem eX.lim {w:World} {v:Value} {t:aei} (h:eX w v t):lS w.heap.size w v t:=by
 rcases h with h|⟨g,n,c,cs,f,h1,h2,h3⟩
 ·exact .inl h
 ·exact .inr ⟨g,n,c,cs,f,h1,lt_of_some h2,h2,h3⟩
theorem lS.below {lim:Nat} {w w':World} {v:Value} {t:aei} (h:lS lim w v t) (k:Below lim w w'):lS lim w' v t:=by
 rcases h with h|⟨g,n,c,cs,f,h1,h2,h3,h4⟩
 ·exact .inl h
 ·exact .inr ⟨g,n,c,cs,f,h1,h2,(k.block g h2).trans h3,h4⟩
theorem lS.out {lim:Nat} {w:World} {v:Value} {t:aei} (h:lS lim w v t):eX w v t:=by
 rcases h with h|⟨g,n,c,cs,f,h1,h2,h3⟩
 ·exact .inl h
 ·exact .inr ⟨g,n,c,cs,f,h1,h3⟩
def OS (b:Nat) (jK jy v:Value) (k:Nat):Prop:=k=b∨jK.ownBlock=some k∨jy.ownBlock=some k∨v.ownBlock=some k
theorem Oq {base lim b:Nat} {lv jK jy v:Value} {us:List cB} {ms:List (Value×Nat)} {w w':World} (h:WS base w b lv jK jy us ms) (MZ:base≤lim) (hlw:lim≤w.heap.size) {n:Nat} {xs:List Value} (hv:w.ownsRow lim 9 1 v n xs) (hmk:∀m∈ms,lS lim w m.1 (qB m.2)) (hll:∀k,jK.ownBlock=some k→k<lim) (k:bW (OS b jK jy v) w w')
  {Ot KJ:Value} {v1 v2 v3:Value} (hb:ai w' b #[lv,Ot,KJ] 31) (hls:w'.ownsRow base 22 1 Ot (ms.length+4) (ms.map Prod.fst++[v,v1,v2,v3])) (hks:w'.ownsRow base 3 1 KJ (ms.length+4) (ms.map (fun m=> .int .i64 m.2)++[.int .i64 ms.length,.int .i64 ms.length,.int .i64 ms.length,.int .i64 ms.length])) (hkb:∀k,KJ.ownBlock=some k→jy.ownBlock=some k∨w.heap.size≤k)
  (h0:eX w' v (qB ms.length)) (h1:eX w' v1 (qB ms.length)) (h2:eX w' v2 (qB ms.length)) (h3:eX w' v3 (qB ms.length)):
  ∃OI,WS base w' b lv Ot KJ us OI∧Below base w w'∧OI.length=ms.length+4:=by
 have ty:∀(g:Nat) (cs:Array Value) (T:TypeId) (f:Nat×Nat),OS b jK jy v g→w.heap[g]? =some (Obj.cells cs T f)→T=31∨T=22∨(T=3∧jy.ownBlock=some g)∨T=9:=fun g cs T f hs hh=>by
  have hB:=h.blk
  rcases hs with rfl|e|e|e
  ·unfold ai at hB;rw [hB] at hh
   cases hh
   exact .inl rfl
  ·obtain ⟨cs',hb'⟩:=qy h.ls e;unfold ai at hb';rw [hb'] at hh
   cases hh
   exact .inr (.inl rfl)
  ·obtain ⟨cs',hb'⟩:=qy h.ks e;unfold ai at hb';rw [hb'] at hh
   cases hh
   exact .inr (.inr (.inl ⟨rfl,e⟩))
  ·obtain ⟨cs',hb'⟩:=qy hv e;unfold ai at hb';rw [hb'] at hh
   cases hh
   exact .inr (.inr (.inr rfl))
 have bF:base≤w.heap.size:=Nat.le_trans MZ hlw;have bel:Below base w w':=k.below bF (fun g hg=>by
  rcases hg with rfl|e|e|e
  ·exact h.low
  ·exact (h.ls.lt g e).1
  ·exact (h.ks.lt g e).1
  ·exact Nat.le_trans MZ (hv.lt g e).1)
 refine ⟨ms++[(v,ms.length),(v1,ms.length),(v2,ms.length),(v3,ms.length)],⟨hb,h.low,ak h.l (fun g cs f _ hh=>k.block g (lt_of_some hh) (fun hs=>by
   have:=ty g cs _ f hs hh;simp at this)),by simpa using hls,by simpa using hks,fun u hu=>(h.ur u hu).keep k (fun g hg hs=> ?_) (fun g cs T f hs hh ht=> ?_),h.lowu,h.ap,fun u hu g hg=> ?_,fun m hm=> ?_,fun m hm=> ?_⟩,bel,by simp⟩
 ·obtain ⟨cs,T,hb',hT⟩:=(h.ur u hu).ty hg;have:=ty g cs T _ hs hb'
  rcases hT with rfl|rfl|rfl|rfl<;>(simp at this)
 ·rcases ty g cs T f hs hh with rfl|rfl|⟨rfl,e⟩|rfl
  ·exact absurd ht (by unfold MD LT RT;decide)
  ·exact absurd ht (by unfold MD LT RT;decide)
  ·exact ⟨rfl,h.apk u hu g e⟩
  ·exact absurd ht (by unfold MD LT RT;decide)
 ·rcases hkb g hg with e|e
  ·exact h.apk u hu g e
  ·intro hI;have:=(h.ur u hu).ud.il g hI;omega
 ·rcases List.mem_append.1 hm with hm|hm
  ·refine lS.out (lim:=lim) ?_
   rcases hmk m hm with hm'|⟨g,n',c,cs,f,e1,e2,e3,e4⟩
   ·exact .inl hm'
   ·refine .inr ⟨g,n',c,cs,f,e1,e2,(k.block g (lt_of_some e3) (fun hs=> ?_)).trans e3,e4⟩
    rcases hs with e|e|e|e
    ·subst e;have hB:=h.blk;unfold ai at hB;rw [hB] at e3;simp at e3
    ·obtain ⟨cs',hb'⟩:=qy h.ls e;unfold ai at hb';rw [hb'] at e3;simp at e3
    ·obtain ⟨cs',hb'⟩:=qy h.ks e;unfold ai at hb';rw [hb'] at e3;simp at e3
    ·have:=(hv.lt g e).1;omega
  ·simp only [List.mem_cons,List.not_mem_nil,or_false] at hm
   rcases hm with rfl|rfl|rfl|rfl
   ·exact h0
   ·exact h1
   ·exact h2
   ·exact h3
 ·rw [List.length_append]
  rcases List.mem_append.1 hm with hm|hm
  ·have:=h.mks m hm;omega
  ·simp only [List.mem_cons,List.not_mem_nil,or_false] at hm
   rcases hm with rfl|rfl|rfl|rfl<;>simp
