import Derived.Test.YtlbpnlngckgcbaaGreatDoorM29
import Derived.Shelf.Sort.Plain
import Derived.Shelf.Slices.In.SortNone
set_option linter.all false
set_option maxHeartbeats 4000000
set_option maxRecDepth 100000
namespace Go.Proofs.YtlbpnlngckgcbaaGreatDoor
open Go.RowKit Go.PlainAid
def mV (a:List RJ) (x:RJ):List RJ:=if a.getLast? =some x then a else a++[x]
def fB (l:List RJ):List RJ:=l.foldl mV []
theorem yH (l:List RJ) (x:RJ):fB (l++[x])=mV (fB l) x:=by simp [fB]
theorem Ev (a:List RJ) (x:RJ):(mV a x).getLast? =some x:=by
 unfold mV
 split
 ·assumption
 ·simp
theorem GU (l:List RJ) (x:RJ):(fB (l++[x])).getLast? =some x:=by rw [yH,Ev]
theorem JU (l:List RJ):∀a:List RJ,(l.foldl mV a).length≤a.length+l.length:=by
 induction l with
 |nil=>intro a;simp
 |cons x l ih=>
  intro a;rw [List.foldl_cons,List.length_cons];have:=ih (mV a x);have h2:(mV a x).length≤a.length+1:=by
   unfold mV
   split<;>simp
  omega
theorem rT {l:List RJ} {m:Nat} (hm:m+1<l.length):fB (l.take (m+2))=if l[m]=l[m+1] then fB (l.take (m+1)) else fB (l.take (m+1))++[l[m+1]]:=by
 have e1:l.take (m+2)=l.take (m+1)++[l[m+1]]:=List.take_succ_eq_append_getElem hm;have e2:l.take (m+1)=l.take m++[l[m]]:=List.take_succ_eq_append_getElem (by omega);rw [e1,yH];unfold mV;rw [show (fB (l.take (m+1))).getLast? =some l[m] from by rw [e2];exact GU _ _];simp only [Option.some.injEq]
structure KN (l l2:List RJ) (i m:Nat):Prop where
 len:l2.length=l.length
 out:l2.take i=fB (l.take m)
 il:i=(fB (l.take m)).length
 lt:i<m
 old:∀q,m≤q+1→l2[q]? =l[q]?
theorem KN.keep {l l2:List RJ} {i m:Nat} (h:KN l l2 i (m+1)) (hm:m+1<l.length) (he:l[m]=l[m+1]):KN l l2 i (m+2):=by
 have e:=rT hm;rw [if_pos he] at e;exact ⟨h.len,by rw [e];exact h.out,by rw [e];exact h.il,by have:=h.lt;omega,fun q hq=>h.old q (by omega)⟩
theorem KN.put {l l2:List RJ} {i m:Nat} (h:KN l l2 i (m+1)) (hm:m+1<l.length) (he:¬l[m]=l[m+1]):KN l (l2.set i l[m+1]) (i+1) (m+2):=by
 have e:=rT hm;rw [if_neg he] at e;have hi:=h.lt;have hl:=h.len;refine ⟨by rw [List.length_set];exact hl,?_,by rw [e,List.length_append,←h.il];rfl,by omega,fun q hq=> ?_⟩
 ·rw [e,←h.out,List.take_succ_eq_append_getElem (by rw [List.length_set];omega),List.getElem_set_self,List.take_set_of_le RH]
 ·rw [List.getElem?_set_ne (by omega)];exact h.old q (by omega)
theorem JV (l:List RJ) (i:Nat) (x:RJ):(jZ l).set i (.string x)=jZ (l.set i x):=by
 unfold jZ;rw [List.map_set]
theorem kL {base:Nat} {w:World} {g n c:Nat} {l:List RJ} (h:w.ownsRow base 9 1 (.slice (some ⟨g,0,none⟩) n c) n (jZ l)) {q:Nat} {x:RJ} (hq:l[q]? =some x):w.cell? ⟨g,q,none⟩=some (.string x):=by
 obtain ⟨g',c',e,hc⟩:=aQ h q (.string x) (by unfold jZ;rw [List.getElem?_map,hq];rfl);simp only [Value.slice.injEq,Option.some.injEq,Addr.mk.injEq,and_true] at e;obtain ⟨rfl,_,_⟩:=e;exact hc
theorem Ew {base g n c i:Nat} {w:World} {l2:List RJ} (h:w.ownsRow base 9 1 (.slice (some ⟨g,0,none⟩) n c) n (jZ l2)) (hi:i<n):
  (∀ty,(Builtin.clear_ #[22] ty #[.slice (some ⟨g,i,none⟩) (n-i) (c-i)]).run Tryz.prog w=.ok (.tuple #[]) (w.setCells g i (List.replicate (n-i) (.string ⟨#[]⟩))))∧(w.setCells g i (List.replicate (n-i) (.string ⟨#[]⟩))).ownsRow base 9 1 (.slice (some ⟨g,0,none⟩) i c) i (jZ (l2.take i))∧aS (fun k=>k=g) w (w.setCells g i (List.replicate (n-i) (.string ⟨#[]⟩))):=by
 obtain ⟨hlen,h2⟩:=h
 rcases h2 with ⟨h,_⟩|⟨g',cap',cur,e1,hb,hh,h1,h2,h3,h4⟩
 ·cases h
 ·simp only [Value.slice.injEq,Option.some.injEq,Addr.mk.injEq] at e1;obtain ⟨⟨rfl,_,_⟩,_,rfl⟩:=e1;have hbk:ag w g cur 9:=hh;refine ⟨fun ty=>Lib.run_clear_slice w _ _ ty (.string ⟨#[]⟩) Tryz.underlying22 (fun w=>by kernel_rfl) rfl rfl g i (n-i) (c-i) (by omega) (fun j hj=>by rw [hbk.cell (o:=i+j) (Array.getElem?_eq_getElem (by omega))];rfl) (fun j _=>hbk.fz _),?_,?_⟩
  ·obtain ⟨PG,b2,z2,e2⟩:=nL (List.replicate (n-i) (.string ⟨#[]⟩)) i w cur hbk (by rw [List.length_replicate];omega);have hls:(jZ l2).length=n:=by rw [hlen];omega
   have hl2:l2.length=n:=by rw [←hls];simp [jZ]
   refine ⟨by simp [jZ];omega,.inr ⟨g,c,PG,rfl,hb,b2,by omega,h2,by rw [z2];exact h3,?_⟩⟩;rw [e2,List.append_assoc,List.take_left' (by rw [List.length_take,Array.length_toList];omega)];have e5:jZ (l2.take i)=(jZ l2).take i:=by unfold jZ;rw [List.map_take]
   rw [e5,←h4,List.take_take]
   congr 1
   omega
  ·have:=But.setCells (List.replicate (n-i) (.string ⟨#[]⟩)) i w (But.refl g w);exact .of_but this rfl
def vR (base g n c:Nat) (l:List RJ) (w:World) (e:Ending) (w':World):Prop:=e=.returned (.slice (some ⟨g,0,none⟩) (fB l).length c)∧w'.ownsRow base 9 1 (.slice (some ⟨g,0,none⟩) (fB l).length c) (fB l).length (jZ (fB l))∧aS (fun k=>k=g) w w'
theorem yI (base g n c:Nat) (l:List RJ) (w:World) (h:w.ownsRow base 9 1 (.slice (some ⟨g,0,none⟩) n c) n (jZ l)) (hl:l.length=n) (hn:n≤100000) (hc:n≤c):
  Calls Tryz.prog 67 #[.slice (some ⟨g,0,none⟩) n c] w (vR base g n c l w):=by
 have HR:=ae h;have HL:=ae hl;obtain ⟨cur,hbk,hge⟩:=dS h;have hz:=hbk.fz;clear h hl
 by_cases h2:n<2
 ·have h2':(n:Int)<2:=by omega
  have HF:=ae (show fB l=l from by
   have:=aa HL
   match l,this with
   | [],_=>rfl
   | [a],_=>simp [fB,mV]
   |a::b::l,h=>simp at h;omega)
  go_enter Tryz.func67,Tryz.ntmps67;go_wp2;go_ret;unfold vR;rw [aa HF,aa HL];exact ⟨rfl,aa HR,aS.refl _ _⟩
 ·have h2':¬((n:Int)<2):=by omega
  go_enter Tryz.func67,Tryz.ntmps67;go_wp2_with fail
  go_loopw [3] (fun u wr=>∃k:Nat,u=.int .i64 k∧1≤k∧k≤n∧Below w.heap.size w wr∧Hid (fB (l.take k)=l.take k)) (fun u _=>n-(intOf u).toNat)
  case atStart=>exact ⟨1,rfl,by omega,by omega,Below.refl _ _,ae (by
   have:=aa HL
   match l,this with
   | [],h=>simp at h;omega
   |a::l,_=>simp [fB,mV])⟩
  case round=>
   obtain ⟨k,rfl,hk1,hk,hb,HD⟩:=hrel
   by_cases hlt:k<n
   ·have hkn:(k:Int)<(n:Int):=by omega
    obtain ⟨m,rfl⟩:∃m,k=m+1:=⟨k-1,by omega⟩;have hll:=aa HL;have hrow:=aF (aa HR) hb;have y1:=kL hrow (RI (show m+1<l.length by omega));have y0:=kL hrow (RI (show m<l.length by omega));have AL:=ae (rT (show m+1<l.length by omega));have Nt:=ae (show l.take (m+2)=l.take (m+1)++[l[m+1]] from List.take_succ_eq_append_getElem (by omega));generalize l[m+1]=y at*;generalize l[m]=x at*;have HB:=ae hb;clear hb hrow hll
    by_cases hxy:y=x
    ·have hq:=ug hxy;go_wp2_with fail
     go_quiet (fail)
     have HC0:=ae (show KN l l (m+1) (m+1+1) from by
      have e:fB (l.take (m+2))=l.take (m+1):=by rw [aa AL,if_pos hxy.symm,aa HD]
      have hll:=aa HL;exact ⟨rfl,e.symm,by rw [e,List.length_take];omega,by omega,fun _ _=>rfl⟩)
     have iK:=ae (below_drewN (aa HB) nq);have bP:=ae (aF (aa HR) (aa iK));have e1:n-(m+1)≤n:=by omega
     clear HB HD AL Nt y0 y1 hq;go_wp2_with fail;generalize wr.drewN nq=W1 at*;obtain ⟨nk,hnk⟩:∃a,a=n-(m+1):=⟨_,rfl⟩;have HNK:=ae hnk
     go_loopw [3,5] (fun u3 u5 wi=>∃(i k2:Nat) (l2:List RJ),u3=.int .i64 i∧u5=.int .i64 k2∧1≤k2∧m+1+k2≤n∧aS (fun k=>k=g) w wi∧wi.ownsRow base 9 1 (.slice (some ⟨g,0,none⟩) n c) n (jZ l2)∧Hid (KN l l2 i (m+1+k2))) (fun _ u5 _=>n-(intOf u5).toNat)
     case atStart=>exact ⟨m+1,1,l,by go_num,rfl,by omega,by omega,.of_below (aa iK),aa bP,HC0⟩
     case round=>
      obtain ⟨i,k2,l2,rfl,rfl,hk2,Ed,nZ,hrow,HC⟩:=hrel;obtain ⟨p,rfl⟩:∃p,k2=p+1:=⟨k2-1,by omega⟩;have hilt:=(aa HC).lt;obtain ⟨PG,hbk2,_⟩:=dS hrow;have hz2:=hbk2.fz
      by_cases hmt:m+1+(p+1)<n
      ·have hll:=aa HL;have z1:l2[m+1+(p+1)]? =some l[m+1+(p+1)]:=((aa HC).old _ (by omega)).trans (RI (by omega));have z0:l2[m+1+p]? =some l[m+1+p]:=((aa HC).old _ (by omega)).trans (RI (by omega));have y1:=kL hrow z1;have y0:=kL hrow z0;have a1:((p:Int)+1)<((n-(m+1):Nat):Int):=by omega
       have a2:(p:Int)<((n-(m+1):Nat):Int):=by omega
       have Ru:=ae (fun (e:l[m+1+p]=l[m+1+(p+1)])=>(aa HC).keep (m:=m+1+p) (by omega) e);have Rv:=ae (fun (e:¬l[m+1+p]=l[m+1+(p+1)])=>(aa HC).put (m:=m+1+p) (by omega) e);have hl2:=(aa HC).len;have yi:=kL hrow (RI (show i<l2.length by omega));generalize l2[i]'_=oi at yi;have hpe:m+1+p+1=m+1+(p+1):=rfl;simp only [hpe] at Ru Rv;generalize l[m+1+(p+1)]=y at*;generalize l[m+1+p]=x at*;have i1:(i:Int)<(n:Int):=by omega
       have JF:=ae nZ;have M8:=ae hrow;clear z0 z1 nZ hrow hll hl2 hbk2 hpe
       by_cases hxy:y=x
       ·have hq:=ug hxy;go_wp2_with fail
        go_quiet (fail)
        have Rw:=ae (aa Ru hxy.symm);go_wp2;go_roundw
        case rel=>exact ⟨i,p+1+1,l2,rfl,by go_num,by omega,by omega,(aa JF).drewN nq,aF (aa M8) (below_drewN (Below.refl _ _) nq),Rw⟩
        case measure=>simp [intOf];omega
       ·have hq:=uf hxy;go_wp2_with fail
        go_quiet (fail)
        have bq:=below_drewN (Below.refl wr.heap.size wr) nq;have Rw:=ae (aa Rv (fun e=>hxy e.symm));have gD:=ae (aF (aa M8) bq);have ww:=ae ((aa JF).drewN nq);have v1:=af y1 bq;have vi:=af yi bq;obtain ⟨cur3,PH,_⟩:=dS (aa gD);have hz3:=PH.fz;clear y0 y1 yi hz2 PH Ru Rv JF M8 HC bq;generalize wr.drewN nq=W2 at*;go_wp2;go_roundw
        case rel=>exact ⟨i+1,p+1+1,_,by go_num,by go_num,by omega,by omega,(aa ww).set rfl _,by
         have:=qb (aa gD) i (.string y);rw [JV] at this;exact this,Rw⟩
        case measure=>simp [intOf];omega
      ·have hme:m+1+(p+1)=n:=by omega
       obtain ⟨hcl,Rx,oO⟩:=Ew (i:=i) hrow (by omega);have Pv:=ae (show vR base g n c l w (.returned (.slice (some ⟨g,0,none⟩) i c)) (wr.setCells g i (List.replicate (n-i) (.string ⟨#[]⟩))) from by
        have h:=aa HC;have e:fB (l.take (m+1+(p+1)))=fB l:=by rw [List.take_of_length_le (by rw [aa HL];omega)]
        have e2:=h.out;have e3:=h.il;rw [e] at e2 e3;rw [e2] at Rx;refine ⟨by rw [←e3],?_,nZ.trans oO⟩;rw [←e3];exact Rx)
       have a1:¬(((p:Int)+1)<((n-(m+1):Nat):Int)):=by omega
       have i1:(i:Int)≤(n:Int):=by omega
       have i2:i≤n:=by omega
       have i3:i≤c:=by omega
       have i4:¬(c=i):=by omega
       have i5:¬(c-i=0):=by omega
       clear hrow Rx nZ oO hbk2 HC;go_wp2;go_ret;exact aa Pv
    ·have hq:=uf hxy;go_wp2_with fail
     go_quiet (fail)
     have HD2:=ae (show fB (l.take (m+1+1))=l.take (m+1+1) from by rw [aa AL,if_neg (fun e=>hxy e.symm),aa HD,aa Nt]);have iK:=ae (below_drewN (aa HB) nq);go_wp2;go_roundw
     case rel=>exact ⟨m+1+1,by go_num,by omega,by omega,aa iK,HD2⟩
     case measure=>simp [intOf];omega
   ·have hkn:¬((k:Int)<(n:Int)):=by omega
    have HF:=ae (show fB l=l from by
     have:=aa HD;rw [List.take_of_length_le (by rw [aa HL];omega)] at this;exact this)
    have HB:=ae hb;clear hb;go_wp2;go_ret;unfold vR;rw [aa HF,aa HL];exact ⟨rfl,aF (aa HR) (aa HB),.of_below (aa HB)⟩
end Go.Proofs.YtlbpnlngckgcbaaGreatDoor
namespace Go.Proofs
open Go.Shelf
def Tryz.lays190_ren:Go.Shelf.Ren:=⟨fun|190=>64|125=>109|258=>108|128=>166|129=>167|302=>157|303=>158|304=>159|305=>160|306=>161|307=>162|308=>163|309=>164|310=>165|333=>213|329=>214|330=>215|334=>216|335=>217|336=>218|344=>247|n=>n,fun|31=>22|9=>9|3=>3|46=>215|0=>0|51=>313|53=>192|4=>4|183=>305|182=>304|131=>310|5=>5|218=>365|222=>369|228=>395|229=>396|n=>n,fun|n=>n⟩
theorem Tryz.lays190:Go.Proofs.Lays.n190 Tryz.prog Tryz.lays190_ren:={
 mixed:=by kernel_rfl
 f125:=Tryz.func109.trans (congrArg some (by kernel_rfl))
 f128:=Tryz.func166.trans (congrArg some (by kernel_rfl))
 f129:=Tryz.func167.trans (congrArg some (by kernel_rfl))
 f190:=Tryz.func64.trans (congrArg some (by kernel_rfl))
 f258:=Tryz.func108.trans (congrArg some (by kernel_rfl))
 f302:=Tryz.func157.trans (congrArg some (by kernel_rfl))
 f303:=Tryz.func158.trans (congrArg some (by kernel_rfl))
 f304:=Tryz.func159.trans (congrArg some (by kernel_rfl))
 f305:=Tryz.func160.trans (congrArg some (by kernel_rfl))
 f306:=Tryz.func161.trans (congrArg some (by kernel_rfl))
 f307:=Tryz.func162.trans (congrArg some (by kernel_rfl))
 f308:=Tryz.func163.trans (congrArg some (by kernel_rfl))
 f309:=Tryz.func164.trans (congrArg some (by kernel_rfl))
 f310:=Tryz.func165.trans (congrArg some (by kernel_rfl))
 f329:=Tryz.func214.trans (congrArg some (by kernel_rfl))
 f330:=Tryz.func215.trans (congrArg some (by kernel_rfl))
 f333:=Tryz.func213.trans (congrArg some (by kernel_rfl))
 f334:=Tryz.func216.trans (congrArg some (by kernel_rfl))
 f335:=Tryz.func217.trans (congrArg some (by kernel_rfl))
 f336:=Tryz.func218.trans (congrArg some (by kernel_rfl))
 f344:=Tryz.func247.trans (congrArg some (by kernel_rfl))
 t0:=Tryz.underlying0
 a0:=Tryz.isAgg0
 z0:=Tryz.sizeOf0
 v0:=Tryz.zeroValue0
 t3:=Tryz.underlying3
 a3:=Tryz.isAgg3
 z3:=Tryz.sizeOf3
 v3:=Tryz.zeroValue3
 t4:=Tryz.underlying4
 a4:=Tryz.isAgg4
 z4:=Tryz.sizeOf4
 v4:=Tryz.zeroValue4
 t5:=Tryz.underlying5
 a5:=Tryz.isAgg5
 z5:=Tryz.sizeOf5
 v5:=Tryz.zeroValue5
 t9:=Tryz.underlying9
 a9:=Tryz.isAgg9
 z9:=Tryz.sizeOf9
 v9:=Tryz.zeroValue9
 t31:=Tryz.underlying22
 a31:=Tryz.isAgg22
 z31:=Tryz.sizeOf22
 v31:=Tryz.zeroValue22
 t46:=Tryz.underlying215
 a46:=Tryz.isAgg215
 z46:=Tryz.sizeOf215
 v46:=Tryz.zeroValue215
 t51:=Tryz.underlying313
 a51:=Tryz.isAgg313
 z51:=Tryz.sizeOf313
 v51:=Tryz.zeroValue313
 t53:=Tryz.underlying192
 a53:=Tryz.isAgg192
 z53:=Tryz.sizeOf192
 v53:=Tryz.zeroValue192
 t131:=Tryz.underlying310
 a131:=Tryz.isAgg310
 z131:=Tryz.sizeOf310
 v131:=Tryz.zeroValue310
 t182:=Tryz.underlying304
 a182:=Tryz.isAgg304
 z182:=Tryz.sizeOf304
 v182:=Tryz.zeroValue304
 t183:=Tryz.underlying305
 a183:=Tryz.isAgg305
 z183:=Tryz.sizeOf305
 v183:=Tryz.zeroValue305
 t218:=Tryz.underlying365
 a218:=Tryz.isAgg365
 z218:=Tryz.sizeOf365
 v218:=Tryz.zeroValue365
 t222:=Tryz.underlying369
 a222:=Tryz.isAgg369
 z222:=Tryz.sizeOf369
 v222:=Tryz.zeroValue369
 t228:=Tryz.underlying395
 a228:=Tryz.isAgg395
 z228:=Tryz.sizeOf395
 v228:=Tryz.zeroValue395
 t229:=Tryz.underlying396
 a229:=Tryz.isAgg396
 z229:=Tryz.sizeOf396
 v229:=Tryz.zeroValue396}
end Go.Proofs
namespace Go.Proofs.YtlbpnlngckgcbaaGreatDoor
open Go.RowKit Go.PlainAid
def iG (l:List ByteArray):List ByteArray:=((l.map cO).mergeSort fun x y=>decide (x≤y)).map mk
theorem oQ (l:List ByteArray):(iG l).length=l.length:=by simp [iG]
theorem Ey (l:List ByteArray):jZ (iG l)=((l.map cO).mergeSort fun x y=>decide (x≤y)).map encStr:=by
 simp only [jZ,iG,List.map_map]
 rfl
theorem GV (base:Nat) (v:Value) (l:List ByteArray) (w:World) (h:w.ownsRow base 9 1 v l.length (jZ l)) (hl:l.length≤100000):
  Calls Tryz.prog 64 #[v] w fun e w'=>e=.returned (.tuple #[])∧w'.ownsRow base 9 1 v l.length (jZ (iG l))∧aS (fun k=>v.ownBlock=some k) w w':=by
 obtain ⟨h0,⟨rfl,h2⟩|⟨g,cap,cur,rfl,hg,hh,hle,hm,hs,ht⟩⟩:=h
 ·have e:=List.eq_nil_of_length_eq_zero h2;subst e;refine (Any.slices_Sort_string_none Tryz.lays190 none 0 w).mono ?_;rintro e w' ⟨rfl,rfl⟩;exact ⟨rfl,by rw [show iG []=[] from by simp [iG]];exact World.ownsRow_nil _ _ _ _,⟨rfl,rfl,rfl,Nat.le_refl _,fun _ _ _=>rfl⟩⟩
 ·have hlt:g<w.heap.size:=lt_of_some hh;rw [Nat.mul_one] at hs ht;have key:=Any.slices_Sort_string Tryz.lays190 g 0 cap (l.map cO) w (fun j hj=>by
   have hj':j<l.length:=by simpa using hj
   have hc:cur[j]? =some (.string l[j]):=by
    have:(jZ l)[j]? =some (.string l[j]):=by simp [jZ,hj']
    rw [←ht,List.getElem?_take,if_pos hj'] at this;rw [←Array.getElem?_toList];exact this
   refine ⟨?_,?_⟩
   ·rw [Nat.zero_add];simp only [World.cell?,hh,hc];rw [getElem!_pos _ j (by simpa using hj')];simp [cO]
   ·exact ag.fz hh _) hlt (by simp;omega)
  rw [List.length_map] at key;refine key.mono ?_;rintro e w' ⟨rfl,n,os,rfl⟩;have hnew:(Sort.grow (Sort.putRow encStr (Sort.ahead w n) g 0 ((l.map cO).mergeSort fun x y=>decide (x≤y)).toArray) os).heap[g]? =some (.cells (Sort.putCells encStr 0 ((l.map cO).mergeSort fun x y=>decide (x≤y)).toArray cur) 9 (0,0)):=by
   rw [Sort.heap_grow_old _ _ (by simp [Sort.putRow,Sort.mapBlock,Sort.ahead];exact hlt)];simp [Sort.putRow,Sort.mapBlock,Sort.ahead,Array.getElem?_modify,hh,Sort.onCells]
  refine ⟨rfl,⟨by simp [jZ,oQ],.inr ⟨g,cap,_,rfl,hg,hnew,hle,hm,by simp [Sort.putCells,hs],?_⟩⟩,⟨rfl,rfl,rfl,by simp [Sort.putRow,Sort.mapBlock,Sort.ahead],fun i hi hn=> ?_⟩⟩
  ·rw [Ey];have hml:((l.map cO).mergeSort fun x y=>decide (x≤y)).length=l.length:=by simp
   generalize ((l.map cO).mergeSort fun x y=>decide (x≤y))=ms at*;apply List.ext_getElem?;intro j;rw [List.getElem?_take]
   by_cases hj:j<l.length
   ·rw [if_pos (by omega),Array.getElem?_toList,Sort.putCells,Array.getElem?_mapIdx,Array.getElem?_eq_getElem (by omega),Option.map_some,if_pos (by simp;omega),List.getElem?_map,List.getElem?_eq_getElem (by omega),Option.map_some,Nat.sub_zero,getElem!_pos _ j (by simp;omega)];simp
   ·rw [if_neg (by omega),List.getElem?_eq_none (by simp;omega)]
  ·rw [Sort.heap_grow_old _ _ (by simp [Sort.putRow,Sort.mapBlock,Sort.ahead];exact hi)];have hne:¬g=i:=fun e=>hn (by simp [Value.ownBlock,e])
   simp [Sort.putRow,Sort.mapBlock,Sort.ahead,Array.getElem?_modify,hne]
end Go.Proofs.YtlbpnlngckgcbaaGreatDoor
namespace Go.Proofs.YtlbpnlngckgcbaaGreatDoor
open Go.RowKit Go.PlainAid
def uy (t:Tg):RJ:=(t.kind++sg 58)++t.id
def iH (X:Nat) (cs:List Tg):List RJ:=fB (iG ((bn X cs cs.length).map uy))
def AU (ts:List Ty) (gs:List Tu) (aq:Sj) (w:World) (e:Ending) (w':World):Prop:=∃v K,e=.returned (.tuple #[v,.int .i64 0])∧Below w.heap.size w w'∧Run (aH ts gs) (bF gs) (aT ts) (fun _=>0) K∧w'.ownsRow w.heap.size 9 1 v (iH (K aq) (aH ts gs)).length (jZ (iH (K aq) (aH ts gs)))
theorem yJ {base:Nat} {w:World} {T:TypeId} {size n:Nat} {v:Value} {xs:List Value} (h:w.ownsRow base T size v n xs) (hn:0<n):∃g c,v=.slice (some ⟨g,0,none⟩) n c∧n≤c∧c≤maxLen:=by
 rcases h.2 with ⟨_,h0⟩|⟨g',cap',cur,e1,hb,hh,h1,h2,h3,h4⟩
 ·omega
 ·exact ⟨g',cap',e1,h1,h2⟩
theorem cr_of {base:Nat} {w:World} {g c:Nat} {cs:List Tg} (h:w.ownsRow base 98 2 (.slice (some ⟨g,0,none⟩) cs.length c) cs.length (cs.flatMap sO)) (hl:cs.length≤64):wo w (.slice (some ⟨g,0,none⟩) cs.length c) cs:=by
 obtain ⟨cur,hb,_⟩:=dS h;refine ⟨g,0,c,rfl,hb.lt,hl,fun i x hx=> ?_⟩;obtain ⟨g',c',e,hc⟩:=aU sO 2 (fun _=>rfl) h i x hx;simp only [Value.slice.injEq,Option.some.injEq,Addr.mk.injEq,and_true,true_and] at e;obtain ⟨rfl,rfl⟩:=e;simp only [Nat.zero_add];exact ⟨hc 0 _ (by omega) rfl,hc 1 _ (by omega) rfl⟩
theorem uz (X:Nat) (cs:List Tg):∀j,∀t∈bn X cs j,t∈cs
 |0,t,h=>by simp [bn] at h
 |j+1,t,h=>by
  rw [bn] at h
  rcases List.mem_append.1 h with h|h
  ·exact uz X cs j t h
  ·cases hc:cs[j]? with
   |none=>rw [hc] at h;cases h
   |some u=>
    rw [hc] at h;dsimp only at h
    split at h
    ·rw [List.mem_singleton] at h;subst h;exact List.mem_of_getElem? hc
    ·cases h
theorem yK (w:World):Calls Tryz.prog 67 #[.slice none 0 0] w fun e w'=>e=.returned (.slice none 0 0)∧w'=w:=by
 go_enter Tryz.func67,Tryz.ntmps67;go_wp2;go_ret;exact ⟨rfl,rfl⟩
def WhF (W w:World) (l:List RJ) (v:Value):Prop:=Below W.heap.size W w∧w.ownsRow W.heap.size 9 1 v l.length (jZ l)
theorem M9 (x:Nat) (mv lv gv:Value) (ts:List Ty) (gs:List Tu) (w:World) (h:UQ w x mv lv gv ts gs) (hp:PuR ts gs) (th rel:RJ) (hs:th.size≤1000) (PD:dR th=true) (hrs:rel.size≤1000) (hrf:dG rel=true) (t:Ty) (hf:cu ts (ax th 58).1=some t) (r:Rl) (hq:aW t rel=some r)
  (hc0:0<(aH ts gs).length) (hc1:(aH ts gs).length≤64) (hcz:∀t∈aH ts gs,t.kind.size+t.id.size≤1000) (hm:ow w) (hw:1<w.heap.size):
  Calls Tryz.prog 31 #[.pointer (some ⟨x,0,none⟩),.string th,.string rel] w (AU ts gs ⟨(ax th 58).1,(ax th 58).2.1,rel⟩ w):=by
 obtain ⟨bm,tl,hM⟩:=h.m;have z1:=jB th 58;have CA:=ae (GQ x bm mv lv gv ts gs tl w h.p hM th rel hs PD (by unfold maxLen;omega) hrf t hf r hq hm hw);have CC:=ae (fun w' (k:Below w.heap.size w w')=>Eu x mv lv gv ts gs w' (h.below k));obtain ⟨ga,gc,rfl⟩:=ak h.p.row;obtain ⟨qs,AO,_⟩:=h.l;obtain ⟨la,lc,rfl⟩:=ak AO.row;obtain ⟨ln,sG⟩:∃n,n=qs.length:=⟨_,rfl⟩;rw [←sG] at h;obtain ⟨gn,Np⟩:∃n,n=gs.length:=⟨_,rfl⟩;rw [←Np] at h;have CT:=ae (fun w' g c (k:Below w.heap.size w w') (cr:wo w' (.slice (some ⟨g,0,none⟩) (aH ts gs).length c) (aH ts gs)) (hcc:(aH ts gs).length≤c) (hcm:c≤maxLen)=>Es la ga ln lc g (aH ts gs).length c gn gc w' ts gs (aH ts gs) ⟨(ax th 58).1,(ax th 58).2.1,rel⟩ ⟨vI.below _ _ _ _ h.l k,cr,aF h.p.row k,hp.few,hp.low,⟨by unfold maxLen;show (ax th 58).1.size≤_;omega,by unfold maxLen;show (ax th 58).2.1.size≤_;omega,by unfold maxLen;show rel.size≤_;omega⟩,hp.ln,hp.ok,hp.sum⟩ hc0 hcc hcm);have H:=ae h.p;have hxl:=h.p.blk.lt;obtain ⟨i0,hi0,hz0,hz1,hz2⟩:=info_parts Tryz.infoStr;unfold AU;unfold GR at CC;unfold GH at CT;generalize aH ts gs=cs at*;generalize ax th 58=X at*;obtain ⟨k,i,ok⟩:=X;simp only at CA CT ⊢;have HCZ:=ae hcz;clear hm hw hs PD hrs hrf hf hq hM h hp z1 sG Np AO hcz;go_enter Tryz.func31,Tryz.ntmps31;go_wp2_with fail;refine (aa CA).mono ?_;rintro e w1 ⟨rfl,hb1⟩;have B1:=ae (hb1.alloc hb1.size (.cells #[.string k,.string i,.string rel] 102));have S1:=ae (ag.new w1 #[.string k,.string i,.string rel] 102);have l1:=hb1.size;clear hb1 CA;go_wp2_with fail;generalize (w1.alloc (.cells #[.string k,.string i,.string rel] 102))=W at*;have U:=((aa H).below (aa B1)).blk;obtain ⟨u0,u1,u2⟩:=three U;obtain ⟨s0,s1,s2⟩:=three (aa S1);have lW:=(aa B1).size;have D:=ae (aa CC W.drew (aa B1).drew);clear U CC
 go_region_held3 (fun w'=>w'.cell? ⟨x,1,none⟩=some (.slice la ln lc)∧w'.cell? ⟨x,2,none⟩=some (.slice ga gn gc)∧w'.cell? ⟨w1.heap.size,0,none⟩=some (.string k)∧w'.cell? ⟨w1.heap.size,1,none⟩=some (.string i)∧w'.cell? ⟨w1.heap.size,2,none⟩=some (.string rel)) (go_keep)
  (first
   |(have xx:=BB;go_at_call 58;refine (aa DT).mono ?_;rintro e w4 ⟨v4,K,rfl,hb4,hrun,hown⟩;obtain ⟨pa,pc,rfl⟩:=ak hown;have BC:=ae ((aa BB).trans (hb4.mono (aa BB).size));have HRN:=ae hrun;have HOW:=ae hown;have f0:=af u1 (aa BC);have f1:=af u2 (aa BC);have f2:=af s0 (aa BC);have f3:=af s1 (aa BC);have f4:=af s2 (aa BC);clear hb4 hown hrun xx)
   |(go_at_call 65;refine (aa D).mono ?_;rintro e w3 ⟨cv,rfl,hb3,hrow3⟩;obtain ⟨g,c,rfl,hgc,hcm⟩:=yJ hrow3 hc0;have BB:=ae (show Below W.heap.size W w3 from (Below.refl _ W).drew.trans hb3);have DT:=ae (aa CT w3 g c ((aa B1).trans ((aa BB).mono lW)) (cr_of hrow3 hc1) hgc hcm);have d0:=af u1 (aa BB);have d1:=af u2 (aa BB);have d2:=af s0 (aa BB);have d3:=af s1 (aa BB);have d4:=af s2 (aa BB);clear hb3 hrow3))
 have HLZ:=ae (fun t ht=>aa HCZ t (uz (K ⟨k,i,rel⟩) cs cs.length t ht));have hLl:=lu (K ⟨k,i,rel⟩) cs cs.length;have PI:=ae ((aa B1).trans ((aa BC).mono lW));have PL:=ae (show iH (K ⟨k,i,rel⟩) cs=fB (iG ((bn (K ⟨k,i,rel⟩) cs cs.length).map uy)) from rfl);generalize bn (K ⟨k,i,rel⟩) cs cs.length=L at*;clear d0 d1 d2 d3 d4 f0 f1 f2 f3 f4 s0 s1 s2 u0 u1 u2 D DT CT BB BC S1;go_wp2_with fail;obtain ⟨W5,hW5⟩:∃x,x=w4:=⟨_,rfl⟩;subst hW5
 go_loopw [10,36] (fun u10 u36 wr=>∃j:Nat,u36=.int .i64 j∧j≤L.length∧Below W5.heap.size W5 wr∧wr.ownsRow W5.heap.size 9 1 u10 j (jZ ((L.take j).map uy))∧Hid (j=0→u10=.slice none 0 0)) (fun _ u36 _=>L.length-(intOf u36).toNat)
 case atStart=>exact ⟨0,rfl,by omega,Below.refl _ _,World.ownsRow_nil _ _ _ _,ae (fun _=>rfl)⟩
 case round=>
  obtain ⟨j,rfl,hj,hb,hrow,HZ⟩:=hrel;obtain ⟨va,vc,rfl⟩:=ak hrow;have hwr:=hb.size
  by_cases vg:j<L.length
  ·have hjn:(j:Int)<(L.length:Int):=by omega
   obtain ⟨g2,c2,e2,hcl⟩:=aU sO 2 (fun _=>rfl) (aF (aa HOW) hb) j L[j] (RI vg);simp only [Value.slice.injEq,true_and] at e2;obtain ⟨rfl,rfl⟩:=e2;have hsy:=aa HLZ L[j] (List.getElem_mem vg);have wM:=ae (show jZ ((L.take (j+1)).map uy)=jZ ((L.take j).map uy)++[.string (uy L[j])] from by rw [List.take_succ_eq_append_getElem vg,jZ,List.map_append,List.map_append];rfl);generalize L[j]=y at*;have y0:wr.cell? ⟨g2,j*2,none⟩=some (.string y.kind):=hcl 0 _ (by omega) rfl;have y1:wr.cell? ⟨g2,j*2+1,none⟩=some (.string y.id):=hcl 1 _ (by omega) rfl;have ba:=(Below.refl wr.heap.size wr).alloc RH (.cells #[.string y.kind,.string y.id] 98);have C:=ae (fun w'=>AR y.kind y.id w' hsy);change Hid (∀w',Calls _ _ _ w' fun e w''=>e=.returned (.string (uy y))∧_) at C;generalize uy y=Y at*;have B2:=ae (hb.trans (ba.mono hwr));have R2:=ae (aF hrow ba);obtain ⟨LL,Ql⟩:∃LL,LL=jZ ((L.take j).map uy):=⟨_,rfl⟩;rw [←Ql] at R2 wM;clear hb hrow hcl hsy ba Ql HZ;go_wp2_with fail;refine (aa C _).mono ?_;rintro e w6 ⟨rfl,Nz⟩;have B6:=ae ((aa B2).trans (Nz.mono (aa B2).size));have R6:=ae (aF (aa R2) Nz);have hs6:=(aa B6).size;clear Nz C y0 y1 B2 R2;go_wp2_with (at_builtin;go_must (refine wpList_append_lies _ rfl _ _ 22 rfl W5.heap.size 9 i0 _ 1 16 Tryz.underlying22 hi0 hz0 hz1 hz2 rfl (by decide) (.slice va j vc) j LL rfl ?hown ⟨w6.heap.size,0,none⟩ 1 1 [.string Y] rfl rfl ?hnews ?hone (by decide) ?h63 ?hbytes ?hbase (w6.heap.size+1) ?hH ?hrest))
   try (case hown=>exact (aa R6).alloc _)
   try (case hnews=>exact World.news_of_block (B:=w6.heap.size) (cs:=#[.string Y]) (t:=9) (fr:=(0,0)) (ag.new _ _ _))
   try (case hone=>first|rfl|(intro u hu;simp at hu;subst hu;rfl))
   try (case h63=>first|omega|(unfold maxLen;omega))
   try (case hbytes=>omega)
   try (case hbase=>first|omega|(simp;omega))
   try (case hH=>simp)
   case hrest=>
    intro g5 bu w7 yG oP MZ hgl7;have fA:=(aa R6).alloc (.cells #[.string Y] 9);have B7:=ae (Below.grown ((aa B6).alloc hs6 (.cells #[.string Y] 9)) oP (by simp;omega) (fun k hk=>(fA.lt k hk).1));have O7:=ae yG;clear fA yG oP MZ;go_wp2;go_roundw
    case rel=>exact ⟨j+1,by go_num,by omega,aa B7,by rw [aa wM];exact aa O7,ae (fun e=>by omega)⟩
    case measure=>simp [intOf];omega
  ·have hjn:¬((j:Int)<(L.length:Int)):=by omega
   have Ry:j=(L.map uy).length:=by rw [List.length_map];omega
   have hrow':wr.ownsRow W5.heap.size 9 1 (.slice va j vc) (L.map uy).length (jZ (L.map uy)):=by
    rw [List.take_of_length_le (by omega)] at hrow;rw [←Ry];exact hrow
   have CS:=ae (GV W5.heap.size (.slice va j vc) (L.map uy) wr hrow' (by rw [List.length_map];omega));have HSL:=ae (oQ (L.map uy));have M8:=ae hrow';have iK:=ae hb;have PM:=ae Ry;clear hrow hrow' Ry hb;generalize L.map uy=M at*;generalize iG M=R at*
   by_cases h0:j=0
   ·have hz:=aa HZ h0;simp only [Value.slice.injEq] at hz;obtain ⟨rfl,_,rfl⟩:=hz;subst h0;have HR0:=ae (show R=[] from List.eq_nil_of_length_eq_zero (by rw [aa HSL,←aa PM]));go_wp2_with fail;refine (aa CS).mono ?_;rintro e w8 ⟨rfl,PN,PO⟩;have B8:=ae ((aa iK).trans (PO.below hwr (fun q hq=>by cases hq)));clear PN PO CS;go_wp2_with fail;refine (yK w8).mono ?_;rintro e w9 ⟨rfl,hw9⟩;rw [hw9];clear hw9 w9;go_wp2;go_ret2;exact ⟨_,K,rfl,(aa PI).trans ((aa B8).mono (aa PI).size),aa HRN,by rw [aa PL,aa HR0];exact World.ownsRow_nil _ _ _ _⟩
   ·obtain ⟨g3,c3,e3,hgc3,hcm3⟩:=yJ (aa M8) (by have:=aa PM;omega);simp only [Value.slice.injEq] at e3;obtain ⟨rfl,vw,rfl⟩:=e3;clear vw;go_wp2_with fail;refine (aa CS).mono ?_;rintro e w8 ⟨rfl,PN,PO⟩;have CP:=ae (yI W5.heap.size g3 j vc R w8 (by rw [←aa PM] at PN;exact PN) (by rw [aa HSL,aa PM]) (by omega) (by have:=aa PM;omega));have B8:=ae ((aa iK).trans (PO.below hwr (fun q hq=>((aa M8).lt q hq).1)));clear PN PO CS;go_wp2_with fail;refine (aa CP).mono ?_;rintro e w9 ⟨rfl,hr9,hb9⟩;have HF:=ae (show WhF W5 w9 (fB R) (.slice (some ⟨g3,0,none⟩) (fB R).length vc) from ⟨(aa B8).trans (hb9.below (by have:=(aa B8).size;omega) (fun q e=>by subst e;exact ((aa M8).lt _ rfl).1)),hr9⟩);clear hr9 hb9 CP;go_wp2;go_ret2;exact ⟨_,K,rfl,(aa PI).trans ((aa HF).1.mono (aa PI).size),aa HRN,by rw [aa PL];exact aA (aa HF).2 (aa PI).size⟩
def kM:Sh→Bool
 |⟨k,_,_,some x,some y⟩=>(decide (k=3)||decide (k=4))&&kM x&&kM y
 |⟨_,_,_,none,_⟩=>true
 |⟨_,_,_,some _,none⟩=>true
theorem BO {α:Type} {f g:α→Bool} {l m:List α} (hl:∀x∈l,x∈m) (h:∀x,f x=true→g x=true) (hf:l.any f=true):m.any g=true:=by
 obtain ⟨x,hx,h1⟩:=List.any_eq_true.1 hf;exact List.any_eq_true.2 ⟨x,hl x hx,h x h1⟩
theorem mW {ka kb:Sj→Bool} {who:Tg} {kd id:RJ} {ts ts':List Tu} {rel:RJ} (hk:∀s,ka s=true→kb s=true) (ht:∀t∈ts,t∈ts'):∀sh,kM sh=true→eu ka who kd id ts rel sh=true→eu kb who kd id ts' rel sh=true
 |⟨k,n,m,some x,some y⟩,hn,h=>by
  rw [kM,Bool.and_eq_true,Bool.and_eq_true] at hn;obtain ⟨⟨h5,hx⟩,hy⟩:=hn;have ix:=mW (who:=who) (kd:=kd) (id:=id) (rel:=rel) hk ht x hx;have iy:=mW (who:=who) (kd:=kd) (id:=id) (rel:=rel) hk ht y hy;rw [eu] at h ⊢
  by_cases h3:k=3
  ·rw [if_pos h3] at h ⊢;rw [Bool.or_eq_true] at h ⊢;exact h.elim (fun e=> .inl (ix e)) (fun e=> .inr (iy e))
  ·rw [if_neg h3] at h ⊢
   by_cases h4:k=4
   ·rw [if_pos h4] at h ⊢;rw [Bool.and_eq_true] at h ⊢;exact ⟨ix h.1,iy h.2⟩
   ·rw [if_neg h4] at h ⊢;rw [Bool.or_eq_true,decide_eq_true_eq,decide_eq_true_eq] at h5;exact (h5.elim h3 h4).elim
 |⟨k,n,m,none,r⟩,_,h=>by
  rw [eu] at h ⊢
  split at h
  ·rename_i h0;rw [if_pos h0];refine BO ht (fun t h1=> ?_) h;rw [Bool.and_eq_true] at h1 ⊢;refine ⟨h1.1,?_⟩;have h2:=h1.2;unfold gV at h2 ⊢
   split
   ·rename_i e;rw [if_pos e] at h2;exact h2
   ·rename_i e;rw [if_neg e] at h2;exact hk _ h2
  ·rename_i h0;rw [if_neg h0]
   split at h
   ·rename_i h1;rw [if_pos h1];exact hk _ h
   ·rename_i h1;rw [if_neg h1];refine BO ht (fun t h2=> ?_) h;rw [Bool.and_eq_true] at h2 ⊢;refine ⟨h2.1,?_⟩;have h3:=h2.2;unfold x9 at h3 ⊢
    split
    ·rename_i e;rw [if_pos e] at h3;exact hk _ h3
    ·rename_i e;rw [if_neg e] at h3;cases h3
 |⟨_,_,_,some _,none⟩,_,h=>by
  rw [eu] at h
  cases h
def GY (gs:List (List R3)) (s:Sj):Prop:=∃g∈gs,∃x∈g,s.kind=x.kd∧s.rel=x.nm
theorem BP {g:List R3} {hs:List Hp} {s:Sj} (h:sM g hs s):GY [g] s:=by
 obtain ⟨x,hx,y,_,e,rfl⟩:=h;exact ⟨g,List.mem_singleton.2 rfl,x,hx,e,rfl⟩
def GZ (hs hs':List Hp):Prop:=∀h∈hs,∃h'∈hs',h'.kd=h.kd∧h'.id=h.id∧∀t∈h.ts,t∈h'.ts
theorem G6 {who:Tg} {hs hs':List Hp} {g:List R3} {k0 wO k1 Na:Sj→Bool} (hh:GZ hs hs') (hn:∀x∈g,kM x.sh=true) (hz:∀s,GY [g] s→k0 s=false) (h0:∀s,k0 s=true→wO s=true) (h:Gu who hs g k0 k1) (h':Gu who hs' g wO Na):∀s,k1 s=true→Na s=true:=by
 have hk:∀s,¬GY [g] s→Na s=wO s:=fun s hs=>h'.old s (fun e=>hs (BP e))
 have hle:∀s,k0 s=true→Na s=true:=fun s hs=>by
  by_cases hm:GY [g] s
  ·rw [hz s hm] at hs;cases hs
  ·rw [hk s hm];exact h0 s hs
 classical
 have key:=h.least (fun s=>if sM g hs s then Na s else k0 s) (fun s hs=>by simp [hs]) (fun x hx y hy e he=>by
  have ht:sM g hs ⟨y.kd,y.id,x.nm⟩:=⟨x,hx,y,hy,e,rfl⟩;simp only [ht,if_true];obtain ⟨y',hy',e1,e2,hts⟩:=hh y hy;have:=mW (kb:=Na) (ts':=y'.ts) (fun s hq=>by
   by_cases hb:sM g hs s
   ·simpa [hb] using hq
   ·exact hle s (by simpa [hb] using hq)) hts x.sh (hn x hx) he
  rw [←e1,←e2] at this ⊢;rw [←h'.fix x hx y' hy' (e1.trans e)];exact this)
 intro s hq;have:=key s hq
 by_cases hb:sM g hs s
 ·simpa [hb] using this
 ·exact hle s (by simpa [hb] using this)
theorem yL {who:Tg} {hs hs':List Hp} (hh:GZ hs hs'):∀{gs:List (List R3)} {k0 wO k k':Sj→Bool},(∀g∈gs,∀x∈g,kM x.sh=true)→gs.Pairwise (fun g g'=>∀x∈g,∀y∈g',¬(x.kd=y.kd∧x.nm=y.nm))→(∀g∈gs,∀s,GY [g] s→k0 s=false)→(∀s,k0 s=true→wO s=true)→oM who hs gs k0 k→oM who hs' gs wO k'→∀s,k s=true→k' s=true
 | [],k0,wO,k,k',_,_,_,h0,h,h'=>by rw [show k=k0 from h,show k'=wO from h'];exact h0
 |g::gs,k0,wO,k,k',hn,hp,hz,h0,⟨k1,h1,h2⟩,⟨Na,h1',h2'⟩=>by
  have hp':=List.pairwise_cons.1 hp;refine yL hh (fun g' hg=>hn g' (List.mem_cons_of_mem _ hg)) hp'.2 (fun g' hg s hm=> ?_) (G6 hh (hn g List.mem_cons_self) (hz g List.mem_cons_self) h0 h1 h1') h2 h2';have:¬sM g hs s:=fun e=>by
   obtain ⟨_,lL,y,hy,e1,e2⟩:=BP e;obtain ⟨_,kU,z,hz',e3,e4⟩:=hm;rw [List.mem_singleton] at lL kU;subst lL kU;exact hp'.1 _ hg y hy z hz' ⟨by rw [←e1,←e3],by rw [←e2,←e4]⟩
  rw [h1.old s this];exact hz g' (List.mem_cons_of_mem _ hg) s hm
theorem G7 {gs gs':List Tu} (h:∀t∈gs,t∈gs'):GZ (bF gs) (bF gs'):=fun y hy=>by
 obtain ⟨e,hne⟩:=(jd gs).ts y hy;obtain ⟨t,ht⟩:=List.exists_mem_of_ne_nil _ hne;rw [e,List.mem_filter] at ht;obtain ⟨y',hy',e'⟩:=(jd gs').all t (h t ht.1);have h1:=dn.1 ht.2;have h2:=dn.1 e';have ek:y'.kd=y.kd:=h2.1.trans h1.1.symm;have ei:y'.id=y.id:=h2.2.trans h1.2.symm;refine ⟨y',hy',ek,ei,fun u hu=> ?_⟩;rw [e,List.mem_filter] at hu;rw [((jd gs').ts y' hy').1,List.mem_filter];refine ⟨h u hu.1,dn.2 ?_⟩;have:=dn.1 hu.2;exact ⟨ek.trans this.1,ei.trans this.2⟩
theorem G8 (a:List RJ) (x s:RJ):s∈mV a x↔s∈a∨s=x:=by
 unfold mV
 split
 ·rename_i h
  constructor
  ·exact .inl
  ·rintro (h1|rfl)
   ·exact h1
   ·exact List.mem_of_getLast? h
 ·simp
theorem JW (l:List RJ) (s:RJ):∀a:List RJ,s∈l.foldl mV a↔s∈a∨s∈l:=by
 induction l with
 |nil=>intro a;simp
 |cons x l ih=>
  intro a;rw [List.foldl_cons,ih,G8,List.mem_cons,or_assoc]
theorem Ez (l:List RJ) (s:RJ):s∈iG l↔s∈l:=by
 unfold iG
 constructor
 ·intro h;obtain ⟨x,hx,rfl⟩:=List.mem_map.1 h;rw [List.mem_mergeSort] at hx;obtain ⟨y,hy,rfl⟩:=List.mem_map.1 hx;rw [show mk (cO y)=y from by cases y;simp [cO,mk]];exact hy
 ·intro h;refine List.mem_map.2 ⟨cO s,?_,by cases s;simp [cO,mk]⟩;rw [List.mem_mergeSort];exact List.mem_map.2 ⟨s,h,rfl⟩
theorem oU (X:Nat) (cs:List Tg) (t:Tg):∀j,t∈bn X cs j↔∃i,i<j∧cs[i]? =some t∧X.testBit i=true
 |0=>by simp [bn]
 |j+1=>by
  rw [bn,List.mem_append,oU X cs t j]
  constructor
  ·rintro (⟨i,hi,h⟩|h)
   ·exact ⟨i,by omega,h⟩
   ·cases hc:cs[j]? with
    |none=>rw [hc] at h;cases h
    |some u=>
     rw [hc] at h;dsimp only at h
     split at h
     ·rename_i hb;rw [List.mem_singleton] at h;subst h;exact ⟨j,by omega,hc,hb⟩
     ·cases h
  ·rintro ⟨i,hi,h1,h2⟩
   by_cases e:i=j
   ·subst e;right;rw [h1];simp [h2]
   ·exact .inl ⟨i,by omega,h1,h2⟩
theorem yM (X:Nat) (cs:List Tg) (s:RJ):s∈iH X cs↔∃i t,cs[i]? =some t∧X.testBit i=true∧uy t=s:=by
 unfold iH fB;rw [JW];simp only [List.not_mem_nil,false_or];rw [Ez,List.mem_map]
 constructor
 ·rintro ⟨t,ht,rfl⟩;obtain ⟨i,_,h1,h2⟩:=(oU X cs t _).1 ht;exact ⟨i,t,h1,h2,rfl⟩
 ·rintro ⟨i,t,h1,h2,rfl⟩;exact ⟨t,(oU X cs t _).2 ⟨i,(List.getElem?_eq_some_iff.1 h1).1,h1,h2⟩,rfl⟩
def pM:RJ:=⟨#[116,121,112,101,32,117,115,101,114,32,123,32,125,32,116,121,112,101,32,103,114,111,117,112,32,123,32,109,101,109,98,101,114,58,32,91,117,115,101,114,44,32,103,114,111,117,112,35,109,101,109,98,101,114,93,59,32,125,32,116,121,112,101,32,100,111,99,32,123,32,112,97,114,101,110,116,58,32,91,100,111,99,93,59,32,111,119,110,101,114,58,32,91,117,115,101,114,93,59,32,98,97,110,110,101,100,58,32,91,117,115,101,114,44,32,117,115,101,114,42,93,59,32,101,100,105,116,111,114,58,32,91,117,115,101,114,44,32,103,114,111,117,112,35,109,101,109,98,101,114,93,32,124,32,111,119,110,101,114,32,124,32,112,97,114,101,110,116,46,101,100,105,116,111,114,59,32,118,105,101,119,101,114,58,32,40,91,117,115,101,114,42,93,32,124,32,101,100,105,116,111,114,41,32,45,32,98,97,110,110,101,100,59,32,125]⟩
def dP:RJ:=⟨#[117,115,101,114]⟩
def G9:RJ:=⟨#[103,114,111,117,112]⟩
def eP:RJ:=⟨#[100,111,99]⟩
def BQ:RJ:=⟨#[109,101,109,98,101,114]⟩
def lw:RJ:=⟨#[112,97,114,101,110,116]⟩
def bH:RJ:=⟨#[111,119,110,101,114]⟩
def qj:RJ:=⟨#[98,97,110,110,101,100]⟩
def dM:RJ:=⟨#[101,100,105,116,111,114]⟩
def vS:RJ:=⟨#[118,105,101,119,101,114]⟩
def Nb:Sh:=gP (gP gp (rO bH)) (yA lw dM)
def p9:List (List R3):=[[⟨G9,BQ,gp⟩,⟨eP,lw,gp⟩,⟨eP,bH,gp⟩,⟨eP,qj,gp⟩],[],[⟨eP,dM,Nb⟩],[]]
def vT:List R3:=[⟨eP,vS,rP (gP gp (rO dM)) (rO qj)⟩]
def vU (n:Nat):RJ:=(⟨#[48,49,50,51,52,53,54,55,56,57]⟩:RJ).extract n (n+1)
def gQ (n:Nat):RJ:=(⟨#[117,115,101,114,58,117]⟩:RJ)++vU n
def jr (n:Nat):RJ:=(⟨#[103,114,111,117,112,58,103]⟩:RJ)++vU n
def ib (n:Nat):RJ:=(⟨#[100,111,99,58,100]⟩:RJ)++vU n
def Io (k a b:Nat):RJ:=match k with
 |0=>(jr a++⟨#[35,109,101,109,98,101,114,64]⟩)++gQ b
 |1=>((jr a++⟨#[35,109,101,109,98,101,114,64]⟩)++jr b)++⟨#[35,109,101,109,98,101,114]⟩
 |2=>(ib a++⟨#[35,112,97,114,101,110,116,64]⟩)++ib b
 |3=>(ib a++⟨#[35,111,119,110,101,114,64]⟩)++gQ b
 |4=>(ib a++⟨#[35,101,100,105,116,111,114,64]⟩)++gQ b
 |5=>((ib a++⟨#[35,101,100,105,116,111,114,64]⟩)++jr b)++⟨#[35,109,101,109,98,101,114]⟩
 |6=>ib a++⟨#[35,118,105,101,119,101,114,64,117,115,101,114,58,42]⟩
 |7=>ib a++⟨#[35,98,97,110,110,101,100,64,117,115,101,114,58,42]⟩
 |_=>(ib a++⟨#[35,98,97,110,110,101,100,64]⟩)++gQ b
def pO:List RJ:=(List.range 9).flatMap fun k=>(List.range 4).flatMap fun a=>(List.range 4).map fun b=>Io k a b
theorem Ha {k a b:Nat} (hk:k<9) (ha:a<4) (hb:b<4):Io k a b∈pO:=List.mem_flatMap.2 ⟨k,List.mem_range.2 hk,List.mem_flatMap.2 ⟨a,List.mem_range.2 ha,List.mem_map.2 ⟨b,List.mem_range.2 hb,rfl⟩⟩⟩
def Nc (ts:List Ty):Bool:=yB (yB Rb) ((aT ts).map (List.map NG)) (p9++[vT])&&JK ts
 && [lw,bH,qj,dM,vS].all (fun c=>((cu ts eP).bind fun t=>aW t c).isSome)&&((cu ts G9).bind fun t=>aW t BQ).isSome&&(cu ts dP).isSome
 &&decide (ts.length=3)&&ts.all (fun t=>decide (t.name.size≤10))
 &&pO.all fun s=>jE s&&decide (rA ts (dw s).1=0)
theorem Nf:(match lM pM with| .ok ts=>Nc ts| .error _=>false)=true:=by kernel_rfl
theorem EA:(pO.all fun s=>KM (dw s).1)=true:=by kernel_rfl
structure EC (ts:List Ty):Prop where
 read:lM pM=.ok ts
 grp:(aT ts).map (List.map NG)=p9++[vT]
 mod:JK ts=true
 rel:∀c∈ [lw,bH,qj,dM,vS],∃t r,cu ts eP=some t∧aW t c=some r
 len:ts.length=3
 low:∀t∈ts,t.name.size≤10
 lets:∀s∈pO,jE s=true∧rA ts (dw s).1=0
theorem Ng:∃ts,EC ts:=by
 have h:=Nf
 cases hr:lM pM with
 |error e=>rw [hr] at h;cases h
 |ok ts=>
  rw [hr] at h;change Nc ts=true at h;unfold Nc at h;simp only [Bool.and_eq_true,decide_eq_true_eq] at h;obtain ⟨⟨⟨⟨⟨⟨⟨h1,h2⟩,h3⟩,h4⟩,h5⟩,h6⟩,h7⟩,h8⟩:=h;refine ⟨ts,hr,rQ (fun _ _=>rQ (fun _ _=>MK)) h1,h2,fun c hc=> ?_,h6,fun t ht=>by simpa using List.all_eq_true.1 h7 t ht,fun s hs=>by simpa using List.all_eq_true.1 h8 s hs⟩;have:=List.all_eq_true.1 h3 c hc
  cases hf:cu ts eP with
  |none=>rw [hf] at this;cases this
  |some t=>
   rw [hf] at this;obtain ⟨r,hr⟩:=Option.isSome_iff_exists.1 this;exact ⟨t,r,rfl,hr⟩
