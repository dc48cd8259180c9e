import Derived.Test.YtlbpnlngckgcbaaGreatDoorM12
import Derived.Lib.SliceRun
import Derived.Lib.IndexMore
import Derived.BigRegion
set_option linter.all false
set_option maxHeartbeats 4000000
set_option maxRecDepth 100000
namespace Go.Proofs.YtlbpnlngckgcbaaGreatDoor
open Go.RowKit Go.PlainAid
theorem jG {g:Nat} {T:TypeId}:∀(vs:List Value) (o:Nat) (w:World) (cur:Array Value),ag w g cur T→o+vs.length≤cur.size→∃cur',ag (w.setCells g o vs) g cur' T∧cur'.size=cur.size∧cur'.toList=cur.toList.take o++vs++cur.toList.drop (o+vs.length)
 | [],o,w,cur,h,_=>⟨cur,h,rfl,by simp⟩
 |v::vs,o,w,cur,h,hz=>by
  rw [List.length_cons] at hz;obtain ⟨cur',h1,h2,h3⟩:=jG vs (o+1) _ _ (h.set o v) (by rw [Array.size_setIfInBounds];omega);refine ⟨cur',h1,by rw [h2,Array.size_setIfInBounds],?_⟩;rw [h3,Array.toList_setIfInBounds];have hl:o<cur.toList.length:=by rw [Array.length_toList];omega
  rw [List.take_succ_eq_append_getElem (by rw [List.length_set];exact hl),List.take_set_of_le (Nat.le_refl o),List.getElem_set_self,List.drop_set_of_lt (by omega),List.length_cons];simp [Nat.add_assoc,Nat.add_comm 1]
theorem But.setCells {b:Nat} {x:World}:∀(vs:List Value) (o:Nat) (y:World),But b x y→But b x (y.setCells b o vs)
 | [],_,_,h=>h
 |v::vs,o,y,h=>But.setCells vs (o+1) _ (h.setCell o v)
theorem rH {P:Program} (w:World) (t e ty:TypeId) (z:Value) (ht:P.underlying t=some (.slice e)) (hv:∀w,(zeroValue e).run P w=.ok z w) (zs:List Value) (hz:(Builtin.zeroCells z.cells 1).toList=zs) (h1:∀u∈zs,u.oneCell'=true) (b o c:Nat)
  (hc:∀j,j<zs.length→(w.cell? ⟨b,o+j,none⟩).isSome=true) (hf:∀j,j<zs.length→w.frozen? ⟨b,o+j,none⟩=false):
  (Builtin.clear_ #[t] ty #[.slice (some ⟨b,o,none⟩) 1 c]).run P w=.ok (.tuple #[]) (w.setCells b o zs):=by
 have hst:=run_storeCells_cells (P:=P) b o zs 0 w (by simpa using hc) (by simpa using hf) h1;simp only [Nat.add_zero] at hst;simp [Builtin.clear_,run_underlying ht,hv,hz,hst]
theorem pF (l:List Tu):(l.flatMap gL).length=l.length*6:=by
 induction l with
 |nil=>rfl
 |cons x l ih=>rw [List.flatMap_cons,List.length_append,ih,List.length_cons,show (gL x).length=6 from rfl];omega
theorem G7 (l:List Tu):∀u∈l.flatMap gL,u.oneCell'=true:=by
 intro u hu;obtain ⟨x,_,hx⟩:=List.mem_flatMap.1 hu;simp only [gL,List.mem_cons,List.not_mem_nil,or_false] at hx
 rcases hx with rfl|rfl|rfl|rfl|rfl|rfl<;>rfl
theorem Ev (base g c:Nat) (l:List Tu) (i:Nat) (w:World) (hi:i<l.length) (hl:l.length≤100000) (h:w.ownsRow base 123 6 (.slice (some ⟨g,0,none⟩) l.length c) l.length (l.flatMap gL)):
  Calls Tryz.prog 69 #[.slice (some ⟨g,0,none⟩) l.length c,.int .i64 i,.int .i64 (i+1:Nat)] w fun e w'=>e=.returned (.slice (some ⟨g,0,none⟩) (l.length-1) c)∧w'.ownsRow base 123 6 (.slice (some ⟨g,0,none⟩) (l.length-1) c) (l.length-1) ((l.eraseIdx i).flatMap gL)∧But g w w':=by
 obtain ⟨cur,hbk,hbase,hnc,hcm,hcs,htk⟩:∃cur,ag w g cur 123∧base≤g∧l.length≤c∧c≤maxLen∧cur.size=c*6∧cur.toList.take (l.length*6)=l.flatMap gL:=by
  rcases h.2 with ⟨h,_⟩|⟨g',cap',cur,e1,hb,hh,h1,h2,h3,h4⟩
  ·cases h
  ·simp only [Value.slice.injEq,Option.some.injEq,Addr.mk.injEq] at e1;obtain ⟨⟨rfl,_,_⟩,_,rfl⟩:=e1;exact ⟨cur,hh,hb,h1,h2,h3,h4⟩
 unfold maxLen at hcm;obtain ⟨news,hnews⟩:∃news,news=(l.drop (i+1)).flatMap gL:=⟨_,rfl⟩;have hlen:news.length=(l.length-(i+1))*6:=by rw [hnews,pF,List.length_drop]
 have hcell:∀k u,(l.flatMap gL)[k]? =some u→w.cell? ⟨g,k,none⟩=some u:=fun k u hu=>by
  rw [←htk] at hu;refine hbk.cell ?_;rw [List.getElem?_take] at hu
  split at hu
  ·simpa using hu
  ·cases hu
 have hsome:∀k,k<c*6→(w.cell? ⟨g,k,none⟩).isSome=true∧w.frozen? ⟨g,k,none⟩=false:=fun k hk=>⟨by rw [hbk.cell (o:=k) (Array.getElem?_eq_getElem (by omega))];rfl,hbk.fz k⟩
 have Ew:(l.flatMap gL).drop ((i+1)*6)=news:=by
  have e:l.flatMap gL=(l.take (i+1)).flatMap gL++(l.drop (i+1)).flatMap gL:=by rw [←List.flatMap_append,List.take_append_drop]
  rw [e,List.drop_left' (by rw [pF,List.length_take];omega),hnews]
 obtain ⟨A,hA,hsrc⟩:∃A:Addr,(if c=i+1 then some (⟨g,0,none⟩:Addr) else some ⟨g,(i+1)*6,none⟩)=some A∧Hid (∀t u,news[t]? =some u→w.drew.cell? (A.add t)=some u):=by
  by_cases hh:c=i+1
  ·refine ⟨⟨g,0,none⟩,by simp [hh],fun t u hu=> ?_⟩;have h0:news.length=0:=by rw [hlen];omega
   rw [List.length_eq_zero_iff.1 h0] at hu;simp at hu
  ·refine ⟨⟨g,(i+1)*6,none⟩,by simp [hh],fun t u hu=> ?_⟩;rw [Addr.add_lit];refine hcell _ _ ?_;rw [←Ew,List.getElem?_drop] at hu;exact hu
 have s2:Hid (∀u∈news,u.oneCell'=true):=by rw [hnews];exact G7 _
 have s3:Hid (∀t,t<news.length→(w.drew.cell? ⟨g,0+i*6+t,none⟩).isSome=true∧w.drew.frozen? ⟨g,0+i*6+t,none⟩=false):=by
  intro t ht;rw [hlen] at ht;exact hsome _ (by omega)
 obtain ⟨i0,hi0,hz0,hz1,hz2⟩:=info_parts (show (Tryz.prog.info? 123).map (fun i=>(i.zero,i.size,i.bytes))=some (some (.agg #[.string ⟨#[]⟩,.string ⟨#[]⟩,.string ⟨#[]⟩,.string ⟨#[]⟩,.string ⟨#[]⟩,.string ⟨#[]⟩]),6,96) by kernel_rfl);have s1:Hid (news.length=(l.length-(i+1))*6):=hlen;obtain ⟨W1,hW1⟩:∃W1,W1=w.drew.setCells g (0+i*6) news:=⟨_,rfl⟩;have hW:Hid (W1=w.drew.setCells g (0+i*6) news):=hW1;have j1:i+1≤l.length:=hi;have j2:i+1≤c:=by omega
 have j3:i≤c:=by omega
 have j4:¬((i:Int)=((i+1:Nat):Int)):=by omega
 have j5:((i:Int)==((i+1:Nat):Int))=false:=by rw [beq_eq_false_iff_ne];exact j4
 generalize hn:l.length=n at*;have j6:(0:Int)≤(i:Int)+1:=by omega
 have j7:(i:Int)+1≤(n:Int):=by omega
 have j8:(0:Int)≤(i:Int)+1∧(i:Int)+1≤(n:Int):=⟨j6,j7⟩;have HN:=ae hn;have hzv:∀w,(zeroValue 123).run Tryz.prog w=.ok (.agg #[.string ⟨#[]⟩,.string ⟨#[]⟩,.string ⟨#[]⟩,.string ⟨#[]⟩,.string ⟨#[]⟩,.string ⟨#[]⟩]) w:=fun w=>by first|rfl|kernel_rfl|simp [zeroValue,hi0,hz0]
 obtain ⟨cur1,b1,z1,e1⟩:=jG news (0+i*6) w.drew cur hbk (by rw [s1,hcs];omega);rw [←hW1] at b1;have Pt:n-(i+(n-(i+1)))=1:=by omega
 have hcl:∀ty,(Builtin.clear_ #[115] ty #[.slice (some ⟨g,(i+(n-(i+1)))*6,none⟩) (n-(i+(n-(i+1)))) (c-(i+(n-(i+1))))]).run Tryz.prog W1=.ok (.tuple #[]) (W1.setCells g ((i+(n-(i+1)))*6) (List.replicate 6 (.string ⟨#[]⟩))):=fun ty=>by
  rw [Pt];exact rH W1 _ _ ty _ Tryz.underlying115 hzv _ (by kernel_rfl) (fun u hu=>by rw [List.eq_of_mem_replicate hu];rfl) g _ _ (fun j hj=>by rw [List.length_replicate] at hj;rw [b1.cell (o:=(i+(n-(i+1)))*6+j) (Array.getElem?_eq_getElem (by rw [z1,hcs];omega))];rfl) (fun j _=>b1.fz _)
 obtain ⟨cur2,b2,z2,e2⟩:=jG (List.replicate 6 (.string ⟨#[]⟩)) ((i+(n-(i+1)))*6) W1 cur1 b1 (by rw [List.length_replicate,z1,hcs];omega);have bt:But g w (W1.setCells g ((i+(n-(i+1)))*6) (List.replicate 6 (.string ⟨#[]⟩))):=by
  refine But.setCells _ _ _ ?_;rw [hW1];exact But.setCells _ _ _ (But.refl g w).drew
 have he:i+(n-(i+1))=n-1:=by omega
 have hrow:(W1.setCells g ((i+(n-(i+1)))*6) (List.replicate 6 (.string ⟨#[]⟩))).ownsRow base 123 6 (.slice (some ⟨g,0,none⟩) (n-1) c) (n-1) ((l.eraseIdx i).flatMap gL):=by
  have el:(l.eraseIdx i).length=n-1:=by rw [List.length_eraseIdx_of_lt (by omega),hn]
  refine ⟨by rw [pF,el],.inr ⟨g,c,cur2,rfl,hbase,b2,by omega,by unfold maxLen;omega,by rw [z2,z1,hcs],?_⟩⟩;rw [e2,he,List.append_assoc,List.take_left' (by rw [List.length_take,Array.length_toList,z1,hcs];omega),e1];have k1:(List.take (0+i*6) cur.toList).length=i*6:=by rw [List.length_take,Array.length_toList,hcs];omega
  rw [List.take_left' (by rw [List.length_append,k1,s1];omega)];have k2:List.take (0+i*6) cur.toList=(l.take i).flatMap gL:=by
   have:List.take (0+i*6) cur.toList=List.take (i*6) (l.flatMap gL):=by rw [←htk,List.take_take,Nat.zero_add,Nat.min_eq_left (by omega)]
   rw [this];have e:l.flatMap gL=(l.take i).flatMap gL++(l.drop i).flatMap gL:=by rw [←List.flatMap_append,List.take_append_drop]
   rw [e,List.take_left' (by rw [pF,List.length_take];omega)]
  rw [k2,hnews,←List.flatMap_append,List.eraseIdx_eq_take_drop_succ]
 have o7:=ae hrow;have Kl:=ae bt;have HE:=ae he;clear hW1 hn hcell hsome Ew hlen htk h hi b1 z1 e1 b2 z2 e2 bt hrow he hzv Pt;go_enter Tryz.func69,Tryz.ntmps69;go_wp2_with fail
 go_region_law (refine step_append_room rfl (.tmp 22) (.tmp 25) 115 rfl 123 i0 6 Tryz.underlying115 hi0 hz1 g 0 i c (by simp [Act.eval,Act.put]) A (n-(i+1)) (c-(i+1)) news (by simp [Act.eval,Act.put]) s1 hsrc s2 (by omega) s3 ?_;rw [←hW])
 go_wp2;go_ret;exact ⟨by rw [←aa HE];rfl,aa o7,aa Kl⟩
theorem index_one (c:UInt8):∀l:List UInt8,Lib.index l [c]=if l.contains c then ((l.takeWhile (· != c)).length:Int) else-1
 | []=>rfl
 |b::l=>by
  have ih:=index_one c l;rw [Lib.index]
  by_cases h:b=c
  ·subst h;simp
  ·have h1:(c==b)=false:=by rw [beq_eq_false_iff_ne];exact fun e=>h e.symm
   have h2:(b != c)=true:=by simpa using h
   have e:((b::l).contains c)=l.contains c:=by rw [List.contains_cons,h1,Bool.false_or]
   rw [e,List.takeWhile_cons,if_pos h2,List.length_cons,ih];have h3:([c].isPrefixOf (b::l))=false:=by rw [List.isPrefixOf,h1,Bool.false_and]
   rw [h3]
   cases l.contains c
   ·simp
   ·simp only [if_true,Bool.false_eq_true,if_false];rw [if_neg (by simp)];omega
theorem gX (c:UInt8):∀l:List UInt8,l.contains c=false→l.takeWhile (· != c)=l∧l.dropWhile (· != c)=[]
 | [],_=>⟨rfl,rfl⟩
 |b::l,h=>by
  rw [List.contains_cons,Bool.or_eq_false_iff] at h;have ih:=gX c l h.2;have h2:(b != c)=true:=by
   have:=h.1;rw [beq_eq_false_iff_ne] at this
   simpa using fun e=>this e.symm
  rw [List.takeWhile_cons,List.dropWhile_cons,if_pos h2,if_pos h2,ih.1];exact ⟨rfl,ih.2⟩
theorem G8 (l:List UInt8) (c:UInt8):Lib.cut l [c]=(l.takeWhile (· != c),(l.dropWhile (· != c)).drop 1,l.contains c):=by
 unfold Lib.cut;rw [index_one]
 cases h:l.contains c
 ·obtain ⟨h1,h2⟩:=gX c l h;simp [h1,h2]
 ·simp only [if_true];rw [if_pos (by omega),Int.toNat_natCast,←jX,dropWhile_drop,List.drop_drop]
  rfl
def jZ (w:World):Prop:=∃m,w.cell? ⟨1,0,none⟩=some (.int .i64 m)
theorem jZ.below {w w':World} {B:Nat} (h:jZ w) (k:Below B w w') (hB:1<B):jZ w':=by
 obtain ⟨m,hm⟩:=h;exact ⟨m,(World.cell?_of_block (w:=w) (k.block 1 hB)).trans hm⟩
def yZ:Prop:=∀(s:Qx) (c:UInt8) (w:World),s.size≤1000→jZ w→Calls Tryz.prog 92 #[.string s,.string (mk [c])] w fun e w'=>e=.returned (.tuple #[.string (au s c).1,.string (au s c).2.1,.bool (au s c).2.2])∧Below w.heap.size w w'
def dh (s:Qx):Bool:=bg (au s 58).1&&bg (au s 58).2.1
theorem fU (PC:yZ) (s:Qx) (w:World) (hs:s.size≤1000) (hm:jZ w) (hw:1<w.heap.size):
  Calls Tryz.prog 55 #[.string s] w fun e w'=>e=.returned (.tuple #[.agg #[.string (au s 58).1,.string (au s 58).2.1],.bool (dh s)])∧Below w.heap.size w w':=by
 unfold dh;have z:=gW s 58;have b0:Below w.heap.size w (w.alloc (.cells #[.string ⟨#[]⟩,.string ⟨#[]⟩] 98)):=(Below.refl _ w).alloc Qv _;have C1:=ae (PC s 58 _ hs (hm.below b0 hw));have B0:=ae b0;have R0:=ae (ag.new w #[.string ⟨#[]⟩,.string ⟨#[]⟩] 98);generalize au s 58=X at*;obtain ⟨a,b,ok⟩:=X;simp only at z C1 ⊢;have Cp:=ae (fun w=>ji a w (by unfold maxLen;omega));have Cq:=ae (fun w=>ji b w (by unfold maxLen;omega));generalize bg a=p at*;generalize bg b=q at*;clear z b0 hm hw hs;go_enter Tryz.func55,Tryz.ntmps55;go_wp2_with fail;refine (aa C1).mono ?_;rintro e w1 ⟨rfl,hb1⟩;have B1:=ae ((aa B0).trans (hb1.mono (aa B0).size));have R1:=ae ((aa R0).below hb1);clear hb1 C1 B0 R0;have rz:=(aa R1).fz;have r0:w1.cell? ⟨w.heap.size,0,none⟩=some (.string ⟨#[]⟩):=(aa R1).cell rfl;have r1:w1.cell? ⟨w.heap.size,1,none⟩=some (.string ⟨#[]⟩):=(aa R1).cell rfl;go_wp2_with fail;refine (aa Cp _).mono ?_;rintro e w2 ⟨rfl,rfl⟩
 cases p
 ·skip
  go_wp2;refine bodyPost_ret (v:=.tuple #[.agg #[.string a,.string b],.bool _]) (aH Tryz.results55 _ _ w.heap.size _ 98 _ _ rfl rfl ?jH Tryz.underlying98 rfl (by kernel_rfl)) rfl ?post1
  case jH=>exact ⟨_,(by with_reducible repeat (first|exact aa R1|apply ag.alloc|apply ag.drew|apply ag.set|(apply ag.other;case ha=>exact (by first|omega|(simp;omega)|simp)))),by rfl⟩
  case post1=>exact ⟨rfl,(by with_reducible repeat (first|exact aa B1|refine Below.drew ?_|(refine Below.setCell ?_ ?_ _;rotate_left;exact (by first|omega|(simp;omega)|simp))|(refine Below.alloc ?_ ?_ _;rotate_left;exact (by first|omega|(simp;omega)|simp))))⟩
 ·go_wp2_with fail;refine (aa Cq _).mono ?_;rintro e w3 ⟨rfl,rfl⟩;go_wp2;refine bodyPost_ret (v:=.tuple #[.agg #[.string a,.string b],.bool _]) (aH Tryz.results55 _ _ w.heap.size _ 98 _ _ rfl rfl ?hB2 Tryz.underlying98 rfl (by kernel_rfl)) rfl ?post2
  case hB2=>exact ⟨_,(by with_reducible repeat (first|exact aa R1|apply ag.alloc|apply ag.drew|apply ag.set|(apply ag.other;case ha=>exact (by first|omega|(simp;omega)|simp)))),by rfl⟩
  case post2=>exact ⟨rfl,(by with_reducible repeat (first|exact aa B1|refine Below.drew ?_|(refine Below.setCell ?_ ?_ _;rotate_left;exact (by first|omega|(simp;omega)|simp))|(refine Below.alloc ?_ ?_ _;rotate_left;exact (by first|omega|(simp;omega)|simp))))⟩
def jI:Qx:=⟨#[42]⟩
def kg (txt rel:Qx) (pG:Bool):Bool:=if pG then dh txt&&bg rel else dh txt||(eqs (au txt 58).2.1 jI&&bg (au txt 58).1)
theorem o9 (PC:yZ) (s:Qx) (w:World) (hs:s.size≤1000) (hm:jZ w) (hw:1<w.heap.size):
  Calls Tryz.prog 102 #[.string s] w fun e w'=>e=.returned (.tuple #[.agg #[.string (au (au s 35).1 58).1,.string (au (au s 35).1 58).2.1,.string (au s 35).2.1],.bool (kg (au s 35).1 (au s 35).2.1 (au s 35).2.2)])∧Below w.heap.size w w':=by
 have z:=gW s 35;have b0:Below w.heap.size w (w.alloc (.cells #[.string ⟨#[]⟩,.string ⟨#[]⟩,.string ⟨#[]⟩] 102)):=(Below.refl _ w).alloc Qv _;have C1:=ae (PC s 35 _ hs (hm.below b0 hw));have B0:=ae b0;have R0:=ae (ag.new w #[.string ⟨#[]⟩,.string ⟨#[]⟩,.string ⟨#[]⟩] 102);have HM:=ae hm;have sz0:=b0.size;generalize au s 35=X at*;obtain ⟨txt,rel,pG⟩:=X;simp only at z C1 ⊢;have z2:=gW txt 58;have Cr:=ae (fun w=>ji rel w (by unfold maxLen;omega));have CT:=ae (fun w hm hw=>fU PC txt w (by omega) hm hw);obtain ⟨R,hR⟩:∃R,R=kg txt rel pG:=⟨_,rfl⟩;rw [←hR];unfold kg at hR;generalize dh txt=ok at*;generalize au txt 58=Y at*;obtain ⟨a,b,two⟩:=Y;simp only at z2 CT hR ⊢;have Ca:=ae (fun w=>ji a w (by unfold maxLen;omega));generalize bg a=fa at*;generalize bg rel=fr at*;have hbs:eqs b jI=(b.toList== [42]):=by unfold eqs jI;rw [aB];rfl
 rw [hbs] at hR;have HR:=ae hR;clear z z2 b0 hm hs hbs hR PC;go_enter Tryz.func102,Tryz.ntmps102;go_wp2_with fail;refine (aa C1).mono ?_;rintro e w1 ⟨rfl,hb1⟩;have B1:=ae ((aa B0).trans (hb1.mono (aa B0).size));have R1:=ae ((aa R0).below hb1);have C2:=ae (aa CT w1 ((aa HM).below (aa B1) hw) (by have:=(aa B1).size;omega));clear hb1 C1 B0 R0 CT;go_wp2_with fail;refine (aa C2).mono ?_;rintro e w2 ⟨rfl,hb2⟩;have B2:=ae ((aa B1).trans (hb2.mono (aa B1).size));have R2:=ae ((aa R1).below hb2);clear hb2 C2 B1 R1;have rz:=(aa R2).fz;have r0:w2.cell? ⟨w.heap.size,0,none⟩=some (.string ⟨#[]⟩):=(aa R2).cell rfl;have r1:w2.cell? ⟨w.heap.size,1,none⟩=some (.string ⟨#[]⟩):=(aa R2).cell rfl;have r2:w2.cell? ⟨w.heap.size,2,none⟩=some (.string ⟨#[]⟩):=(aa R2).cell rfl;have rl:=(aa R2).lt;have hne:¬(w2.heap.size=w.heap.size):=by omega
 have jV:¬(w.heap.size=w2.heap.size):=by omega
 have hnf:¬(w2.heap.size+1=w.heap.size):=by omega
 have hnf':¬(w.heap.size=w2.heap.size+1):=by omega
 cases pG
 ·have hR:=aa HR;simp only [Bool.false_eq_true,if_false] at hR
  cases ok
  ·rw [Bool.false_or] at hR
   cases hst:(b.toList== [42])
   ·rw [hst,Bool.false_and] at hR;subst hR;clear HR;go_wp2_with fail
    go_region
    all_goals (
     go_wp2;refine bodyPost_ret (v:=.tuple #[.agg #[.string a,.string b,.string rel],.bool _]) (aH Tryz.results102 _ _ w.heap.size _ 102 _ _ rfl rfl ?_ Tryz.underlying102 rfl (by kernel_rfl)) rfl ?_
     ·exact ⟨_,(by with_reducible repeat (first|exact aa R2|apply ag.alloc|apply ag.drew|apply ag.set|(apply ag.other;case ha=>exact (by first|omega|(simp;omega)|simp)))),by rfl⟩
     ·exact ⟨rfl,(by with_reducible repeat (first|exact aa B2|refine Below.drew ?_|(refine Below.setCell ?_ ?_ _;rotate_left;exact (by first|omega|(simp;omega)|simp))|(refine Below.alloc ?_ ?_ _;rotate_left;exact (by first|omega|(simp;omega)|simp))))⟩)
   ·rw [hst,Bool.true_and] at hR;subst hR;clear HR;obtain rfl:b=⟨#[42]⟩:=by
     rw [aB,beq_iff_eq] at hst;rw [←pQ b,hst]
     rfl
    clear hst;go_wp2_with fail;have S3:=ae (show ag ((w2.alloc (.cells #[.string a,.string ⟨#[42]⟩] 98)).alloc (.cells #[.string a,.string ⟨#[42]⟩,.string rel] 102)) (w2.heap.size+1) #[.string a,.string ⟨#[42]⟩,.string rel] 102 from by
     have:=ag.new (w2.alloc (.cells #[.string a,.string ⟨#[42]⟩] 98)) #[.string a,.string ⟨#[42]⟩,.string rel] 102;rw [show (w2.alloc (.cells #[.string a,.string ⟨#[42]⟩] 98)).heap.size=w2.heap.size+1 by simp] at this;exact this)
    have T3:=ae ((ag.new w2 #[.string a,.string ⟨#[42]⟩] 98).alloc (.cells #[.string a,.string ⟨#[42]⟩,.string rel] 102));have R3:=ae (((aa R2).alloc (.cells #[.string a,.string ⟨#[42]⟩] 98)).alloc (.cells #[.string a,.string ⟨#[42]⟩,.string rel] 102));have B3:=ae (((aa B2).alloc (aa B2).size (.cells #[.string a,.string ⟨#[42]⟩] 98)).alloc (by have:=(aa B2).size;simp;omega) (.cells #[.string a,.string ⟨#[42]⟩,.string rel] 102));generalize ((w2.alloc (.cells #[.string a,.string ⟨#[42]⟩] 98)).alloc (.cells #[.string a,.string ⟨#[42]⟩,.string rel] 102))=W at*;clear rz r0 r1 r2;have rz:=(aa R3).fz;have r0:W.cell? ⟨w.heap.size,0,none⟩=some (.string ⟨#[]⟩):=(aa R3).cell rfl;have r1:W.cell? ⟨w.heap.size,1,none⟩=some (.string ⟨#[]⟩):=(aa R3).cell rfl;have r2:W.cell? ⟨w.heap.size,2,none⟩=some (.string ⟨#[]⟩):=(aa R3).cell rfl;have s0:W.cell? ⟨w2.heap.size+1,0,none⟩=some (.string a):=(aa S3).cell rfl;have s1:W.cell? ⟨w2.heap.size+1,1,none⟩=some (.string ⟨#[42]⟩):=(aa S3).cell rfl;have s2:W.cell? ⟨w2.heap.size+1,2,none⟩=some (.string rel):=(aa S3).cell rfl;have t0:W.cell? ⟨w2.heap.size,0,none⟩=some (.string a):=(aa T3).cell rfl;have t1:W.cell? ⟨w2.heap.size,1,none⟩=some (.string ⟨#[42]⟩):=(aa T3).cell rfl
    go_region_held3 (fun w'=>w'.cell? ⟨w2.heap.size+1,0,none⟩=some (.string a)∧w'.cell? ⟨w2.heap.size+1,1,none⟩=some (.string ⟨#[42]⟩)∧w'.cell? ⟨w2.heap.size+1,2,none⟩=some (.string rel)∧w'.cell? ⟨w2.heap.size,0,none⟩=some (.string a)∧w'.cell? ⟨w2.heap.size,1,none⟩=some (.string ⟨#[42]⟩)) (go_keep)
     ((go_at_call 93;refine (aa Ca _).mono ?_;rintro e w3 ⟨rfl,rfl⟩))
    go_wp2;refine bodyPost_ret (v:=.tuple #[.agg #[.string a,.string ⟨#[42]⟩,.string rel],.bool _]) (aH Tryz.results102 _ _ w.heap.size _ 102 _ _ rfl rfl ?_ Tryz.underlying102 rfl (by kernel_rfl)) rfl ?_
    ·exact ⟨_,(by with_reducible repeat (first|exact aa R3|apply ag.alloc|apply ag.drew|apply ag.set|(apply ag.other;case ha=>exact (by first|omega|(simp;omega)|simp)))),by rfl⟩
    ·exact ⟨rfl,(by with_reducible repeat (first|exact aa B3|refine Below.drew ?_|(refine Below.setCell ?_ ?_ _;rotate_left;exact (by first|omega|(simp;omega)|simp))|(refine Below.alloc ?_ ?_ _;rotate_left;exact (by first|omega|(simp;omega)|simp))))⟩
  ·rw [Bool.true_or] at hR;subst hR;clear HR;go_wp2_with fail
   go_region
   all_goals (
    go_wp2;refine bodyPost_ret (v:=.tuple #[.agg #[.string a,.string b,.string rel],.bool _]) (aH Tryz.results102 _ _ w.heap.size _ 102 _ _ rfl rfl ?_ Tryz.underlying102 rfl (by kernel_rfl)) rfl ?_
    ·exact ⟨_,(by with_reducible repeat (first|exact aa R2|apply ag.alloc|apply ag.drew|apply ag.set|(apply ag.other;case ha=>exact (by first|omega|(simp;omega)|simp)))),by rfl⟩
    ·exact ⟨rfl,(by with_reducible repeat (first|exact aa B2|refine Below.drew ?_|(refine Below.setCell ?_ ?_ _;rotate_left;exact (by first|omega|(simp;omega)|simp))|(refine Below.alloc ?_ ?_ _;rotate_left;exact (by first|omega|(simp;omega)|simp))))⟩)
 ·have hR:=aa HR;simp only [if_true] at hR
  cases ok
  ·rw [Bool.false_and] at hR;subst hR;clear HR;go_wp2_with fail
   go_region
   all_goals (
    go_wp2;refine bodyPost_ret (v:=.tuple #[.agg #[.string a,.string b,.string rel],.bool _]) (aH Tryz.results102 _ _ w.heap.size _ 102 _ _ rfl rfl ?_ Tryz.underlying102 rfl (by kernel_rfl)) rfl ?_
    ·exact ⟨_,(by with_reducible repeat (first|exact aa R2|apply ag.alloc|apply ag.drew|apply ag.set|(apply ag.other;case ha=>exact (by first|omega|(simp;omega)|simp)))),by rfl⟩
    ·exact ⟨rfl,(by with_reducible repeat (first|exact aa B2|refine Below.drew ?_|(refine Below.setCell ?_ ?_ _;rotate_left;exact (by first|omega|(simp;omega)|simp))|(refine Below.alloc ?_ ?_ _;rotate_left;exact (by first|omega|(simp;omega)|simp))))⟩)
  ·rw [Bool.true_and] at hR;subst hR;clear HR;go_wp2_with fail;have S3:=ae (show ag ((w2.alloc (.cells #[.string a,.string b] 98)).alloc (.cells #[.string a,.string b,.string rel] 102)) (w2.heap.size+1) #[.string a,.string b,.string rel] 102 from by
    have:=ag.new (w2.alloc (.cells #[.string a,.string b] 98)) #[.string a,.string b,.string rel] 102;rw [show (w2.alloc (.cells #[.string a,.string b] 98)).heap.size=w2.heap.size+1 by simp] at this;exact this)
   have T3:=ae ((ag.new w2 #[.string a,.string b] 98).alloc (.cells #[.string a,.string b,.string rel] 102));have R3:=ae (((aa R2).alloc (.cells #[.string a,.string b] 98)).alloc (.cells #[.string a,.string b,.string rel] 102));have B3:=ae (((aa B2).alloc (aa B2).size (.cells #[.string a,.string b] 98)).alloc (by have:=(aa B2).size;simp;omega) (.cells #[.string a,.string b,.string rel] 102));generalize ((w2.alloc (.cells #[.string a,.string b] 98)).alloc (.cells #[.string a,.string b,.string rel] 102))=W at*;clear rz r0 r1 r2;have rz:=(aa R3).fz;have r0:W.cell? ⟨w.heap.size,0,none⟩=some (.string ⟨#[]⟩):=(aa R3).cell rfl;have r1:W.cell? ⟨w.heap.size,1,none⟩=some (.string ⟨#[]⟩):=(aa R3).cell rfl;have r2:W.cell? ⟨w.heap.size,2,none⟩=some (.string ⟨#[]⟩):=(aa R3).cell rfl;have s0:W.cell? ⟨w2.heap.size+1,0,none⟩=some (.string a):=(aa S3).cell rfl;have s1:W.cell? ⟨w2.heap.size+1,1,none⟩=some (.string b):=(aa S3).cell rfl;have s2:W.cell? ⟨w2.heap.size+1,2,none⟩=some (.string rel):=(aa S3).cell rfl;have t0:W.cell? ⟨w2.heap.size,0,none⟩=some (.string a):=(aa T3).cell rfl;have t1:W.cell? ⟨w2.heap.size,1,none⟩=some (.string b):=(aa T3).cell rfl
   go_region_held3 (fun w'=>w'.cell? ⟨w2.heap.size+1,0,none⟩=some (.string a)∧w'.cell? ⟨w2.heap.size+1,1,none⟩=some (.string b)∧w'.cell? ⟨w2.heap.size+1,2,none⟩=some (.string rel)∧w'.cell? ⟨w2.heap.size,0,none⟩=some (.string a)∧w'.cell? ⟨w2.heap.size,1,none⟩=some (.string b)) (go_keep)
    ((go_at_call 93;refine (aa Cr _).mono ?_;rintro e w3 ⟨rfl,rfl⟩))
   go_wp2;refine bodyPost_ret (v:=.tuple #[.agg #[.string a,.string b,.string rel],.bool _]) (aH Tryz.results102 _ _ w.heap.size _ 102 _ _ rfl rfl ?_ Tryz.underlying102 rfl (by kernel_rfl)) rfl ?_
   ·exact ⟨_,(by with_reducible repeat (first|exact aa R3|apply ag.alloc|apply ag.drew|apply ag.set|(apply ag.other;case ha=>exact (by first|omega|(simp;omega)|simp)))),by rfl⟩
   ·exact ⟨rfl,(by with_reducible repeat (first|exact aa B3|refine Below.drew ?_|(refine Below.setCell ?_ ?_ _;rotate_left;exact (by first|omega|(simp;omega)|simp))|(refine Below.alloc ?_ ?_ _;rotate_left;exact (by first|omega|(simp;omega)|simp))))⟩
