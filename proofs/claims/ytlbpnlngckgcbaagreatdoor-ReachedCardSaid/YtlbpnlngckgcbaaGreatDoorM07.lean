import Derived.Test.YtlbpnlngckgcbaaGreatDoorM06
set_option linter.all false
set_option maxHeartbeats 4000000
set_option maxRecDepth 100000
namespace Go.Proofs.YtlbpnlngckgcbaaGreatDoor
open Go.RowKit Go.PlainAid
theorem kS (b:Nat) (s:RJ) (i d:Nat) (w:World) (hs:s.size≤500) (h:At w b s i d) (hd:d+4=4):
  Calls Tryz.prog 114 #[.pointer (some ⟨b,0,none⟩)] w (Post b s d w (nz (TT s) (PP s) i) (A9 b) IL):=by
 unfold nz
 cases he:eqs (TT s i) jw
 ·simp only [he,Bool.false_eq_true,if_false];exact IM b s i d w hs h he
 ·simp only [he,if_true]
  cases hn:bB (TT s) (sg 123) (i+1) with
  |error e=>exact Co b s i d w hs h he e.1 e.2 (ae hn)
  |ok y=>
   obtain ⟨⟨⟩,j⟩:=y;exact IP b s i d w hs h hd he j (ae hn)
theorem Tryz.info110:(Tryz.prog.info? 110).map (fun i=>(i.zero,i.size,i.bytes))=some (some (.agg #[.int .i64 0,.string ⟨#[]⟩,.slice none 0 0]),3,48):=by kernel_rfl
def iU (p:Ty×Value):List Value:=[.int .i64 p.1.place,.string p.1.name,p.2]
def jl (base b:Nat) (w:World) (sv:Value) (ts:List Ty):Prop:=
 ∃l:List (Ty×Value),l.map Prod.fst=ts∧(∀p∈l,fC (b+1) b w p.2 p.1.rels)∧w.ownsRow base 110 3 sv ts.length (l.flatMap iU)
def dV (b:Nat) (w w':World):Prop:=∀g cs T f,b+1≤g→w.heap[g]? =some (.cells cs T f)→(T=207∨T=159∨T=110)→w'.heap[g]? =w.heap[g]?
theorem dV.of_but {b:Nat} {w w':World} (h:But b w w'):dV b w w':=fun g cs T f hg hh _=>h.block g (lt_of_some hh) (by omega)
theorem dV.below {b:Nat} {w w':World} (h:Below w.heap.size w w'):dV b w w':=dV.of_but (But.of_below h)
theorem dV.r {b:Nat} {w w':World} (h:dV b w w'):bE b w w':=fun g cs T f hg hh ht=>h g cs T f hg hh (by rcases ht with h|h;exact .inl h;exact .inr (.inl h))
theorem dV.trans {b:Nat} {x y z:World} (h:dV b x y) (k:dV b y z):dV b x z:=fun g cs T f hg hh ht=>(k g cs T f hg ((h g cs T f hg hh ht).trans hh) ht).trans (h g cs T f hg hh ht)
theorem dV.set {b:Nat} {w:World} {g:Nat} {cs:Array Value} {T:TypeId} (hb:ag w g cs T) (h1:T≠207) (h2:T≠159) (h3:T≠110) (o:Nat) (u:Value):dV b w (w.setCell ⟨g,o,none⟩ u):=
 fun g' cs' T' f hg hh ht=>Below.heap_setCell _ _ _ _ (fun (e':g'=g)=>by
  subst e';unfold ag at hb;rw [hb] at hh;simp at hh;obtain ⟨_,rfl,_⟩:=hh
  rcases ht with ht|ht|ht
  ·exact h1 ht
  ·exact h2 ht
  ·exact h3 ht)
theorem jl.frame {base b:Nat} {w w':World} {sv:Value} {ts:List Ty} (h:jl base b w sv ts) (k:dV b w w') (hb:b+1≤base):jl base b w' sv ts:=by
 obtain ⟨l,h1,h2,h3⟩:=h;exact ⟨l,h1,fun p hp=>(h2 p hp).frame k.r RH,ai h3 fun g cs f hg hh=>k g cs _ f (by omega) hh (.inr (.inr rfl))⟩
theorem jl.base {base base' b:Nat} {w:World} {sv:Value} {ts:List Ty} (h:jl base b w sv ts) (hb:base'≤base):jl base' b w sv ts:=by
 obtain ⟨l,h1,h2,h3⟩:=h;exact ⟨l,h1,h2,aA h3 hb⟩
def RepM (b:Nat) (w:World) (ts:List Ty) (v:Value):Prop:=∃sv,v=.agg #[sv]∧jl (b+1) b w sv ts
def IsM (v:Value):Prop:=∃(a:Option Addr) (n c:Nat),v=.agg #[.slice a n c]
theorem l7 (b:Nat) (s:RJ) (d:Nat) (w:World) (hs:s.size≤500) (h:At w b s 0 d) (hd:d+4=4):
  Calls Tryz.prog 72 #[.pointer (some ⟨b,0,none⟩)] w (Post b s d w (lV (TT s) (PP s)) (RepM b) IsM):=by
 obtain ⟨i0,hi,hz0,hz1,hz2⟩:=info_parts Tryz.info110;have HI:=ae hi;have jg:=ae hz0;have jh:=ae hz1;have ji:=ae hz2;clear hi hz0 hz1 hz2;unfold lV;generalize hR:ko (TT s) (PP s) 512 [] 0=R;have yV:=ae hR;clear hR;have hlt:=h.lt;have Hs:Hid (s.size≤maxLen):=ae (by unfold maxLen;omega);have A0:=ae h;clear h;go_enter Tryz.func72,Tryz.ntmps72;go_wp2_with fail
 go_loopg [6] 512 (fun k u6 wr=>∃(ts:List Ty) (j:Nat) (sv:Value),But b w wr∧At wr b s j d∧512≤k+j∧ts.length≤j∧ag wr w.heap.size #[.slice none 0 0] 75∧
  ag wr (w.heap.size+1) #[sv] 75∧jl w.heap.size b wr sv ts∧Hid (ko (TT s) (PP s) k ts j=R))
 case atStart=>exact ⟨[],0,_,((But.refl b w).alloc _).alloc _,(by with_reducible repeat (first|exact aa A0|refine At.alloc ?_ _|refine At.drew ?_|(refine At.setNew ?_ ?_ _;rotate_left;exact (by first|omega|(simp;omega)|simp)))),by omega,by simp,(ag.new w _ _).alloc _,ag.new' (w.alloc _) _ _ _ (by simp),⟨[],rfl,by simp,World.ownsRow_nil _ _ _ _⟩,yV⟩
 case round=>
  obtain ⟨ts,j,sv,hb,ha,hk,hrl,hbr,nZ,bi,HQ⟩:=hrel;have hf:12≤gk:=by have:=ha.le;omega
  obtain ⟨fu,rfl⟩:∃f,gk=f+1:=⟨gk-1,by omega⟩;obtain ⟨l,zz,hl2,EK⟩:=bi;obtain ⟨sa,sc,rfl⟩:=ak EK;have P0:Hid (jl w.heap.size b wr (.slice sa ts.length sc) ts):=ae ⟨l,zz,hl2,EK⟩;have HA:=ae ha;have HB:=ae hb;have HR:=ae hbr;have HT:=ae nZ;have Cs:=ae zz;have wM:=ae hl2;have yT:=ae EK;have nE:=aa HQ;have t0:=nZ.cell (o:=0) rfl;have x0:=hbr.cell (o:=0) rfl;simp only [List.getElem_toArray,List.getElem_cons_zero] at t0 x0;have zx:=hbr.fz;have zt:=nZ.fz;have hlt':=nZ.lt;have qG:w.heap.size<wr.heap.size:=by omega
  have hlr:=ha.lt;unfold ko at nE;clear ha hb hbr nZ zz hl2 EK HQ
  cases h1:eqs (TT s j) em
  ·simp only [h1,Bool.false_eq_true,if_false] at nE
   cases h2:eqs (TT s j) jw
   ·simp only [h2,Bool.false_and,Bool.false_eq_true,if_false] at nE;have HK:=ae nE;clear nE;go_wp2_with fail;refine (ats b s j d _ _ em _ ?_ ?_).mono ?_
    ·exact (by with_reducible repeat (first|exact aa HA|refine At.alloc ?_ _|refine At.drew ?_|(refine At.setNew ?_ ?_ _;rotate_left;exact (by first|omega|(simp;omega)|simp))))
    ·exact aI _ _ _ _ (by simp)
    rintro e w1 ⟨rfl,rfl⟩;rw [h1];go_wp2_with fail;refine (ats b s j d _ _ jw _ ?_ ?_).mono ?_
    ·exact (by with_reducible repeat (first|exact aa HA|refine At.alloc ?_ _|refine At.drew ?_|(refine At.setNew ?_ ?_ _;rotate_left;exact (by first|omega|(simp;omega)|simp))))
    ·exact aI _ _ _ _ (by simp)
    rintro e w1 ⟨rfl,rfl⟩;rw [h2];have A3:=ae (show At ((wr.alloc (.cells #[.string ⟨#[]⟩] 9)).alloc (.cells #[.string ⟨#[116,121,112,101]⟩] 9)) b s j d from (by with_reducible repeat (first|exact aa HA|refine At.alloc ?_ _|refine At.drew ?_|(refine At.setNew ?_ ?_ _;rotate_left;exact (by first|omega|(simp;omega)|simp)))));have B3:=ae (show But b w ((wr.alloc (.cells #[.string ⟨#[]⟩] 9)).alloc (.cells #[.string ⟨#[116,121,112,101]⟩] 9)) from (by with_reducible repeat (first|exact aa HB|refine But.alloc ?_ _|refine But.drew ?_|(refine But.setNew ?_ ?_ _;rotate_left;exact (by first|omega|(simp;omega)|simp)))));have G3:=((aa HT).alloc (.cells #[.string ⟨#[]⟩] 9)).alloc (.cells #[.string ⟨#[116,121,112,101]⟩] 9);have R3:=((aa HR).alloc (.cells #[.string ⟨#[]⟩] 9)).alloc (.cells #[.string ⟨#[116,121,112,101]⟩] 9);have P3:=ae ((aa P0).frame (dV.below (b:=b) (((Below.refl _ wr).alloc RH (.cells #[.string ⟨#[]⟩] 9)).alloc (by simp) (.cells #[.string ⟨#[116,121,112,101]⟩] 9))) (by omega));generalize (wr.alloc (.cells #[.string ⟨#[]⟩] 9)).alloc (.cells #[.string ⟨#[116,121,112,101]⟩] 9)=w3 at*;clear t0 x0 zx zt HA HB HR HT Cs wM yT hlt' qG P0 hlr;have uK:=ae G3;have gD:=ae R3;have q0:=G3.cell (o:=0) rfl;have x0:=R3.cell (o:=0) rfl;simp only [List.getElem_toArray,List.getElem_cons_zero] at q0 x0;have zx:=R3.fz;have zq:=G3.fz;have hW:=G3.lt;have hW':=R3.lt;have hlr:=(aa A3).lt;clear G3 R3
    cases hq:nz (TT s) (PP s) j with
    |error e=>
     obtain ⟨c4,j4⟩:=e;have C:=ae (kS b s j d w3 hs (aa A3) hd);rw [hq] at C HK;clear hq;go_wp2_with fail;refine (aa C).mono ?_;rintro e w4 ⟨b4,v4,d4,rfl,⟨p4,s4,va,vn,vc,rfl⟩,a4⟩;have R4:=(aa gD).but b4 (by omega);have G4:=(aa uK).but b4 (by omega);have B4:=ae (But.trans (aa B3) b4);have P4:=ae ((aa P3).frame (dV.of_but b4) (by omega));have A4:=ae a4;have lD:=ae R4;have E5:=ae G4;have y0:=R4.cell (o:=0) rfl;have k0:=G4.cell (o:=0) rfl;simp only [List.getElem_toArray,List.getElem_cons_zero] at y0 k0;have zy:=R4.fz;have zk:=G4.fz;have yl:=G4.lt;have K8:w.heap.size<w4.heap.size:=by omega
     clear a4 b4 R4 G4 q0 x0 zx zq C;unfold aM;go_wp2;rw [←aa HK];refine bodyPost_ret (v:=.tuple #[.agg #[.slice sa ts.length sc],aM c4]) (aK Tryz.results72 _ _ w.heap.size _ 75 _ _ rfl rfl ?hB Tryz.underlying75 rfl (by kernel_rfl)) rfl ?post
     case hB=>exact ⟨_,(by with_reducible repeat (first|exact aa lD|apply ag.alloc|apply ag.drew|apply ag.set|(apply ag.other;case ha=>exact (by first|omega|(simp;omega)|simp)))),by rfl⟩
     case post=>exact ⟨(by with_reducible repeat (first|exact aa B4|refine But.alloc ?_ _|refine But.drew ?_|(refine But.setNew ?_ ?_ _;rotate_left;exact (by first|omega|(simp;omega)|simp)))),_,d4,rfl,⟨_,_,_,rfl⟩,(by with_reducible repeat (first|exact aa A4|refine At.alloc ?_ _|refine At.drew ?_|(refine At.setNew ?_ ?_ _;rotate_left;exact (by first|omega|(simp;omega)|simp))))⟩
    |ok y=>
     obtain ⟨t4,j4⟩:=y;have C:=ae (kS b s j d w3 hs (aa A3) hd);have NM:=l6 _ _ _ _ _ hq;rw [hq] at C HK;clear hq;go_wp2_with fail;refine (aa C).mono ?_;rintro e w4 ⟨b4,v4,rfl,⟨Qx,rfl,vZ⟩,a4⟩;have R4:=(aa gD).but b4 (by omega);have G4:=(aa uK).but b4 (by omega);have B4:=ae (But.trans (aa B3) b4);have P4:=ae ((aa P3).frame (dV.of_but b4) (by omega));have A4:=ae a4;have lD:=ae R4;have E5:=ae G4;have y0:=R4.cell (o:=0) rfl;have k0:=G4.cell (o:=0) rfl;simp only [List.getElem_toArray,List.getElem_cons_zero] at y0 k0;have zy:=R4.fz;have zk:=G4.fz;have yl:=G4.lt;have K8:w.heap.size<w4.heap.size:=by omega
     clear a4 b4 R4 G4 q0 x0 zx zq C;have Qy:∃a n c,Qx=.slice a n c:=by
      obtain ⟨_,_,_,h3⟩:=vZ;obtain ⟨a,c,h⟩:=ak h3;exact ⟨a,_,c,h⟩
     obtain ⟨va,vn,vc,rfl⟩:=Qy;have V4:=ae vZ;have Qw:=(aa A4).le;clear vZ;obtain ⟨l4,e1,e2,e3⟩:=aa P4;have E1:=ae e1;have E2:=ae e2;have E3:=ae e3;clear e1 e2 e3;go_wp2_with (at_builtin;go_must (refine wpList_append_lies _ rfl _ _ 73 rfl w.heap.size 110 i0 _ 3 48 Tryz.underlying73 (aa HI) (aa jg) (aa jh) (aa ji) rfl (by decide) (.slice sa ts.length sc) ts.length (l4.flatMap iU) rfl ?hown ⟨w4.heap.size+1,0,none⟩ 1 1 (iU (t4,.slice va vn vc)) rfl rfl ?hnews ?hone (by decide) ?h63 ?hbytes ?hbase (w4.heap.size+2) ?hH ?hrest))
     case hown=>exact ((aa E3).alloc _).alloc _
     case hnews=>exact World.news_of_block (B:=w4.heap.size+1) (cs:=#[.int .i64 t4.place,.string t4.name,.slice va vn vc]) (t:=110) (fr:=(0,0)) (ag.new' (w4.alloc _) _ _ _ (by simp))
     case hone=>
      intro u hu;simp [iU] at hu
      rcases hu with rfl|rfl|rfl<;>rfl
     case h63=>unfold maxLen;omega
     case hbytes=>omega
     case hbase=>simp;omega
     case hH=>simp
     case hrest=>
      intro g5 bu w5 aJ au bI jk;have b0:Below w4.heap.size w4 ((w4.alloc (.cells #[.int .i64 t4.place,.string t4.name,.slice va vn vc] 110)).alloc (.cells #[.int .i64 t4.place,.string t4.name,.slice va vn vc] 110)):=((Below.refl _ _).alloc RH _).alloc (by simp) _;have uL:=(aa E5).below b0;have uM:=(aa lD).below b0;have zA:=(aa A4).below b0;have fA:=((aa E3).alloc (.cells #[.int .i64 t4.place,.string t4.name,.slice va vn vc] 110)).alloc (.cells #[.int .i64 t4.place,.string t4.name,.slice va vn vc] 110);have og:bE b w4 w5:=fun g cs T f hg hh ht=>(au.block g (Nat.lt_of_lt_of_le (lt_of_some hh) b0.size) (dH fA ((b0.block g (lt_of_some hh)).trans hh) (by rcases ht with rfl|rfl<;>decide))).trans (b0.block g (lt_of_some hh))
      have X5:=ae (show ∀p∈l4++[(t4,Value.slice va vn vc)],fC (b+1) b w5 p.2 p.1.rels from fun p hp=>by
       rw [List.mem_append] at hp
       rcases hp with hp|hp
       ·exact (aa E2 p hp).frame og RH
       ·simp at hp;subst hp;exact (aa V4).frame og RH)
      have nG:=ae (show ag w5 (w.heap.size+1) #[.slice sa ts.length sc] 75 from (au.block _ uL.lt (own_ne fA uL (by decide))).trans uL);have K9:=ae (show ag w5 w.heap.size #[.slice none 0 0] 75 from (au.block _ uM.lt (own_ne fA uM (by decide))).trans uM);have A5:=ae (zA.grown au (own_ne fA zA.pos.rd.blk (by decide)));have B5:=ae (But.grown ((aa B4).trans (But.of_below b0)) au (fun k hk=>(fA.lt k hk).1));have O5:=ae aJ;have m0:=(aa nG).cell (o:=0) rfl;simp only [List.getElem_toArray,List.getElem_cons_zero] at m0;have zm:=(aa nG).fz;have ml:=(aa nG).lt;clear b0 uL uM zA fA og aJ au bI y0 k0 zy zk;go_wp2
      go_roundg fu
      case measure=>omega
      case rel=>exact ⟨ts++[t4],j4,_,(by with_reducible repeat (first|exact aa B5|refine But.alloc ?_ _|refine But.drew ?_|(refine But.setNew ?_ ?_ _;rotate_left;exact (by first|omega|(simp;omega)|simp)))),(by with_reducible repeat (first|exact aa A5|refine At.alloc ?_ _|refine At.drew ?_|(refine At.setNew ?_ ?_ _;rotate_left;exact (by first|omega|(simp;omega)|simp)))),by omega,by simp;omega,(by with_reducible repeat (first|exact aa K9|apply ag.alloc|apply ag.drew|apply ag.set|(apply ag.other;case ha=>exact (by first|omega|(simp;omega)|simp)))),(aa nG).set 0 _,⟨l4++[(t4,.slice va vn vc)],by simp [aa E1],fun p hp=>(aa X5 p hp).frame (bE.set (aa nG) (by decide) (by decide) 0 _) RH,by rw [List.length_append,List.flatMap_append];exact bD (aa O5) (aa nG) (by decide) 0 _⟩,HK⟩
   ·cases h5:((ts.length:Int)==5)
    ·have NQ:(ts.length==5)=false:=by
      rw [beq_eq_false_iff_ne] at*;omega
     simp only [h2,NQ,Bool.and_false,Bool.false_eq_true,if_false] at nE;have HK:=ae nE;clear nE NQ;go_wp2_with fail;refine (ats b s j d _ _ em _ ?_ ?_).mono ?_
     ·exact (by with_reducible repeat (first|exact aa HA|refine At.alloc ?_ _|refine At.drew ?_|(refine At.setNew ?_ ?_ _;rotate_left;exact (by first|omega|(simp;omega)|simp))))
     ·exact aI _ _ _ _ (by simp)
     rintro e w1 ⟨rfl,rfl⟩;rw [h1];go_wp2_with fail;refine (ats b s j d _ _ jw _ ?_ ?_).mono ?_
     ·exact (by with_reducible repeat (first|exact aa HA|refine At.alloc ?_ _|refine At.drew ?_|(refine At.setNew ?_ ?_ _;rotate_left;exact (by first|omega|(simp;omega)|simp))))
     ·exact aI _ _ _ _ (by simp)
     rintro e w1 ⟨rfl,rfl⟩;rw [h2];have A3:=ae (show At ((wr.alloc (.cells #[.string ⟨#[]⟩] 9)).alloc (.cells #[.string ⟨#[116,121,112,101]⟩] 9)) b s j d from (by with_reducible repeat (first|exact aa HA|refine At.alloc ?_ _|refine At.drew ?_|(refine At.setNew ?_ ?_ _;rotate_left;exact (by first|omega|(simp;omega)|simp)))));have B3:=ae (show But b w ((wr.alloc (.cells #[.string ⟨#[]⟩] 9)).alloc (.cells #[.string ⟨#[116,121,112,101]⟩] 9)) from (by with_reducible repeat (first|exact aa HB|refine But.alloc ?_ _|refine But.drew ?_|(refine But.setNew ?_ ?_ _;rotate_left;exact (by first|omega|(simp;omega)|simp)))));have G3:=((aa HT).alloc (.cells #[.string ⟨#[]⟩] 9)).alloc (.cells #[.string ⟨#[116,121,112,101]⟩] 9);have R3:=((aa HR).alloc (.cells #[.string ⟨#[]⟩] 9)).alloc (.cells #[.string ⟨#[116,121,112,101]⟩] 9);have P3:=ae ((aa P0).frame (dV.below (b:=b) (((Below.refl _ wr).alloc RH (.cells #[.string ⟨#[]⟩] 9)).alloc (by simp) (.cells #[.string ⟨#[116,121,112,101]⟩] 9))) (by omega));generalize (wr.alloc (.cells #[.string ⟨#[]⟩] 9)).alloc (.cells #[.string ⟨#[116,121,112,101]⟩] 9)=w3 at*;clear t0 x0 zx zt HA HB HR HT Cs wM yT hlt' qG P0 hlr;have uK:=ae G3;have gD:=ae R3;have q0:=G3.cell (o:=0) rfl;have x0:=R3.cell (o:=0) rfl;simp only [List.getElem_toArray,List.getElem_cons_zero] at q0 x0;have zx:=R3.fz;have zq:=G3.fz;have hW:=G3.lt;have hW':=R3.lt;have hlr:=(aa A3).lt;clear G3 R3
     cases hq:nz (TT s) (PP s) j with
     |error e=>
      obtain ⟨c4,j4⟩:=e;have C:=ae (kS b s j d w3 hs (aa A3) hd);rw [hq] at C HK;clear hq;go_wp2_with fail;refine (aa C).mono ?_;rintro e w4 ⟨b4,v4,d4,rfl,⟨p4,s4,va,vn,vc,rfl⟩,a4⟩;have R4:=(aa gD).but b4 (by omega);have G4:=(aa uK).but b4 (by omega);have B4:=ae (But.trans (aa B3) b4);have P4:=ae ((aa P3).frame (dV.of_but b4) (by omega));have A4:=ae a4;have lD:=ae R4;have E5:=ae G4;have y0:=R4.cell (o:=0) rfl;have k0:=G4.cell (o:=0) rfl;simp only [List.getElem_toArray,List.getElem_cons_zero] at y0 k0;have zy:=R4.fz;have zk:=G4.fz;have yl:=G4.lt;have K8:w.heap.size<w4.heap.size:=by omega
      clear a4 b4 R4 G4 q0 x0 zx zq C;unfold aM;go_wp2;rw [←aa HK];refine bodyPost_ret (v:=.tuple #[.agg #[.slice sa ts.length sc],aM c4]) (aK Tryz.results72 _ _ w.heap.size _ 75 _ _ rfl rfl ?hB Tryz.underlying75 rfl (by kernel_rfl)) rfl ?post
      case hB=>exact ⟨_,(by with_reducible repeat (first|exact aa lD|apply ag.alloc|apply ag.drew|apply ag.set|(apply ag.other;case ha=>exact (by first|omega|(simp;omega)|simp)))),by rfl⟩
      case post=>exact ⟨(by with_reducible repeat (first|exact aa B4|refine But.alloc ?_ _|refine But.drew ?_|(refine But.setNew ?_ ?_ _;rotate_left;exact (by first|omega|(simp;omega)|simp)))),_,d4,rfl,⟨_,_,_,rfl⟩,(by with_reducible repeat (first|exact aa A4|refine At.alloc ?_ _|refine At.drew ?_|(refine At.setNew ?_ ?_ _;rotate_left;exact (by first|omega|(simp;omega)|simp))))⟩
     |ok y=>
      obtain ⟨t4,j4⟩:=y;have C:=ae (kS b s j d w3 hs (aa A3) hd);have NM:=l6 _ _ _ _ _ hq;rw [hq] at C HK;clear hq;go_wp2_with fail;refine (aa C).mono ?_;rintro e w4 ⟨b4,v4,rfl,⟨Qx,rfl,vZ⟩,a4⟩;have R4:=(aa gD).but b4 (by omega);have G4:=(aa uK).but b4 (by omega);have B4:=ae (But.trans (aa B3) b4);have P4:=ae ((aa P3).frame (dV.of_but b4) (by omega));have A4:=ae a4;have lD:=ae R4;have E5:=ae G4;have y0:=R4.cell (o:=0) rfl;have k0:=G4.cell (o:=0) rfl;simp only [List.getElem_toArray,List.getElem_cons_zero] at y0 k0;have zy:=R4.fz;have zk:=G4.fz;have yl:=G4.lt;have K8:w.heap.size<w4.heap.size:=by omega
      clear a4 b4 R4 G4 q0 x0 zx zq C;have Qy:∃a n c,Qx=.slice a n c:=by
       obtain ⟨_,_,_,h3⟩:=vZ;obtain ⟨a,c,h⟩:=ak h3;exact ⟨a,_,c,h⟩
      obtain ⟨va,vn,vc,rfl⟩:=Qy;have V4:=ae vZ;have Qw:=(aa A4).le;clear vZ;obtain ⟨l4,e1,e2,e3⟩:=aa P4;have E1:=ae e1;have E2:=ae e2;have E3:=ae e3;clear e1 e2 e3;go_wp2_with (at_builtin;go_must (refine wpList_append_lies _ rfl _ _ 73 rfl w.heap.size 110 i0 _ 3 48 Tryz.underlying73 (aa HI) (aa jg) (aa jh) (aa ji) rfl (by decide) (.slice sa ts.length sc) ts.length (l4.flatMap iU) rfl ?hown ⟨w4.heap.size+1,0,none⟩ 1 1 (iU (t4,.slice va vn vc)) rfl rfl ?hnews ?hone (by decide) ?h63 ?hbytes ?hbase (w4.heap.size+2) ?hH ?hrest))
      case hown=>exact ((aa E3).alloc _).alloc _
      case hnews=>exact World.news_of_block (B:=w4.heap.size+1) (cs:=#[.int .i64 t4.place,.string t4.name,.slice va vn vc]) (t:=110) (fr:=(0,0)) (ag.new' (w4.alloc _) _ _ _ (by simp))
      case hone=>
       intro u hu;simp [iU] at hu
       rcases hu with rfl|rfl|rfl<;>rfl
      case h63=>unfold maxLen;omega
      case hbytes=>omega
      case hbase=>simp;omega
      case hH=>simp
      case hrest=>
       intro g5 bu w5 aJ au bI jk;have b0:Below w4.heap.size w4 ((w4.alloc (.cells #[.int .i64 t4.place,.string t4.name,.slice va vn vc] 110)).alloc (.cells #[.int .i64 t4.place,.string t4.name,.slice va vn vc] 110)):=((Below.refl _ _).alloc RH _).alloc (by simp) _;have uL:=(aa E5).below b0;have uM:=(aa lD).below b0;have zA:=(aa A4).below b0;have fA:=((aa E3).alloc (.cells #[.int .i64 t4.place,.string t4.name,.slice va vn vc] 110)).alloc (.cells #[.int .i64 t4.place,.string t4.name,.slice va vn vc] 110);have og:bE b w4 w5:=fun g cs T f hg hh ht=>(au.block g (Nat.lt_of_lt_of_le (lt_of_some hh) b0.size) (dH fA ((b0.block g (lt_of_some hh)).trans hh) (by rcases ht with rfl|rfl<;>decide))).trans (b0.block g (lt_of_some hh))
       have X5:=ae (show ∀p∈l4++[(t4,Value.slice va vn vc)],fC (b+1) b w5 p.2 p.1.rels from fun p hp=>by
        rw [List.mem_append] at hp
        rcases hp with hp|hp
        ·exact (aa E2 p hp).frame og RH
        ·simp at hp;subst hp;exact (aa V4).frame og RH)
       have nG:=ae (show ag w5 (w.heap.size+1) #[.slice sa ts.length sc] 75 from (au.block _ uL.lt (own_ne fA uL (by decide))).trans uL);have K9:=ae (show ag w5 w.heap.size #[.slice none 0 0] 75 from (au.block _ uM.lt (own_ne fA uM (by decide))).trans uM);have A5:=ae (zA.grown au (own_ne fA zA.pos.rd.blk (by decide)));have B5:=ae (But.grown ((aa B4).trans (But.of_below b0)) au (fun k hk=>(fA.lt k hk).1));have O5:=ae aJ;have m0:=(aa nG).cell (o:=0) rfl;simp only [List.getElem_toArray,List.getElem_cons_zero] at m0;have zm:=(aa nG).fz;have ml:=(aa nG).lt;clear b0 uL uM zA fA og aJ au bI y0 k0 zy zk;go_wp2
       go_roundg fu
       case measure=>omega
       case rel=>exact ⟨ts++[t4],j4,_,(by with_reducible repeat (first|exact aa B5|refine But.alloc ?_ _|refine But.drew ?_|(refine But.setNew ?_ ?_ _;rotate_left;exact (by first|omega|(simp;omega)|simp)))),(by with_reducible repeat (first|exact aa A5|refine At.alloc ?_ _|refine At.drew ?_|(refine At.setNew ?_ ?_ _;rotate_left;exact (by first|omega|(simp;omega)|simp)))),by omega,by simp;omega,(by with_reducible repeat (first|exact aa K9|apply ag.alloc|apply ag.drew|apply ag.set|(apply ag.other;case ha=>exact (by first|omega|(simp;omega)|simp)))),(aa nG).set 0 _,⟨l4++[(t4,.slice va vn vc)],by simp [aa E1],fun p hp=>(aa X5 p hp).frame (bE.set (aa nG) (by decide) (by decide) 0 _) RH,by rw [List.length_append,List.flatMap_append];exact bD (aa O5) (aa nG) (by decide) 0 _⟩,HK⟩
    ·have NQ:(ts.length==5)=true:=by
      rw [beq_iff_eq] at*;omega
     simp only [h2,NQ,Bool.and_true,if_true] at nE;have HK:=ae nE;clear nE NQ;go_wp2_with fail;refine (ats b s j d _ _ em _ ?_ ?_).mono ?_
     ·exact (by with_reducible repeat (first|exact aa HA|refine At.alloc ?_ _|refine At.drew ?_|(refine At.setNew ?_ ?_ _;rotate_left;exact (by first|omega|(simp;omega)|simp))))
     ·exact aI _ _ _ _ (by simp)
     rintro e w1 ⟨rfl,rfl⟩;rw [h1];go_wp2_with fail;refine (ats b s j d _ _ jw _ ?_ ?_).mono ?_
     ·exact (by with_reducible repeat (first|exact aa HA|refine At.alloc ?_ _|refine At.drew ?_|(refine At.setNew ?_ ?_ _;rotate_left;exact (by first|omega|(simp;omega)|simp))))
     ·exact aI _ _ _ _ (by simp)
     rintro e w1 ⟨rfl,rfl⟩;rw [h2];have A3:=ae (show At ((wr.alloc (.cells #[.string ⟨#[]⟩] 9)).alloc (.cells #[.string ⟨#[116,121,112,101]⟩] 9)) b s j d from (by with_reducible repeat (first|exact aa HA|refine At.alloc ?_ _|refine At.drew ?_|(refine At.setNew ?_ ?_ _;rotate_left;exact (by first|omega|(simp;omega)|simp)))));have B3:=ae (show But b w ((wr.alloc (.cells #[.string ⟨#[]⟩] 9)).alloc (.cells #[.string ⟨#[116,121,112,101]⟩] 9)) from (by with_reducible repeat (first|exact aa HB|refine But.alloc ?_ _|refine But.drew ?_|(refine But.setNew ?_ ?_ _;rotate_left;exact (by first|omega|(simp;omega)|simp)))));have G3:=((aa HT).alloc (.cells #[.string ⟨#[]⟩] 9)).alloc (.cells #[.string ⟨#[116,121,112,101]⟩] 9);have R3:=((aa HR).alloc (.cells #[.string ⟨#[]⟩] 9)).alloc (.cells #[.string ⟨#[116,121,112,101]⟩] 9);have P3:=ae ((aa P0).frame (dV.below (b:=b) (((Below.refl _ wr).alloc RH (.cells #[.string ⟨#[]⟩] 9)).alloc (by simp) (.cells #[.string ⟨#[116,121,112,101]⟩] 9))) (by omega));generalize (wr.alloc (.cells #[.string ⟨#[]⟩] 9)).alloc (.cells #[.string ⟨#[116,121,112,101]⟩] 9)=w3 at*;clear t0 x0 zx zt HA HB HR HT Cs wM yT hlt' qG P0 hlr;have uK:=ae G3;have gD:=ae R3;have q0:=G3.cell (o:=0) rfl;have x0:=R3.cell (o:=0) rfl;simp only [List.getElem_toArray,List.getElem_cons_zero] at q0 x0;have zx:=R3.fz;have zq:=G3.fz;have hW:=G3.lt;have hW':=R3.lt;have hlr:=(aa A3).lt;clear G3 R3;go_wp2;rw [←aa HK];refine bodyPost_ret (v:=.tuple #[.agg #[.slice sa ts.length sc],aM 3]) (aK Tryz.results72 _ _ w.heap.size _ 75 _ _ rfl rfl ?hB Tryz.underlying75 rfl (by kernel_rfl)) rfl ?post
     case hB=>exact ⟨_,(by with_reducible repeat (first|exact aa gD|apply ag.alloc|apply ag.drew|apply ag.set|(apply ag.other;case ha=>exact (by first|omega|(simp;omega)|simp)))),by rfl⟩
     case post=>exact ⟨(by with_reducible repeat (first|exact aa B3|refine But.alloc ?_ _|refine But.drew ?_|(refine But.setNew ?_ ?_ _;rotate_left;exact (by first|omega|(simp;omega)|simp)))),_,d,rfl,⟨_,_,_,rfl⟩,(by with_reducible repeat (first|exact aa A3|refine At.alloc ?_ _|refine At.drew ?_|(refine At.setNew ?_ ?_ _;rotate_left;exact (by first|omega|(simp;omega)|simp))))⟩
  ·simp only [h1,if_true] at nE;have HK:=ae nE;clear nE;go_wp2_with fail;refine (ats b s j d _ _ em _ ?_ ?_).mono ?_
   ·exact (by with_reducible repeat (first|exact aa HA|refine At.alloc ?_ _|refine At.drew ?_|(refine At.setNew ?_ ?_ _;rotate_left;exact (by first|omega|(simp;omega)|simp))))
   ·exact aI _ _ _ _ (by simp)
   rintro e w1 ⟨rfl,rfl⟩;rw [h1];go_wp2;rw [←aa HK];refine bodyPost_ret (v:=.tuple #[.agg #[.slice sa ts.length sc],.nilIface]) (aK Tryz.results72 _ _ w.heap.size _ 75 _ _ rfl rfl ?hB Tryz.underlying75 rfl (by kernel_rfl)) rfl ?post
   case hB=>exact ⟨_,(by with_reducible repeat (first|exact aa HR|apply ag.alloc|apply ag.drew|apply ag.set|(apply ag.other;case ha=>exact (by first|omega|(simp;omega)|simp)))),by rfl⟩
   case post=>exact ⟨(by with_reducible repeat (first|exact aa HB|refine But.alloc ?_ _|refine But.drew ?_|(refine But.setNew ?_ ?_ _;rotate_left;exact (by first|omega|(simp;omega)|simp)))),_,rfl,⟨_,rfl,((aa P0).frame ((dV.set (aa HR) (by decide) (by decide) (by decide) 0 _).trans (dV.below ((Below.refl _ _).alloc RH _))) (by omega)).base (by omega)⟩,(by with_reducible repeat (first|exact aa HA|refine At.alloc ?_ _|refine At.drew ?_|(refine At.setNew ?_ ?_ _;rotate_left;exact (by first|omega|(simp;omega)|simp))))⟩
abbrev E3:=Nat×RJ×Value
def c3 (e:E3):List Value:=[.int .i64 e.1,.string e.2.1,e.2.2]
def fD (w:World) (T:TypeId) (v:Value) (l:List E3):Prop:=w.ownsRow 0 T 3 v l.length (l.flatMap c3)
theorem sV (e:E3):∀(l:List E3) (i:Nat),l[i]? =some e→(l.flatMap c3)[i*3]? =some (.int .i64 e.1)∧(l.flatMap c3)[i*3+1]? =some (.string e.2.1)∧(l.flatMap c3)[i*3+2]? =some e.2.2
 | [],i,h=>by simp at h
 |e'::l,0,h=>by simp at h;subst h;simp [List.flatMap_cons,c3]
 |e'::l,i+1,h=>by
  have:=sV e l i (by simpa using h);rw [List.flatMap_cons,show (i+1)*3=i*3+3 by omega]
  simpa [c3] using this
theorem aQ {w:World} {base:Nat} {e:TypeId} {size:Nat} {v:Value} {n:Nat} {xs:List Value} (h:w.ownsRow base e size v n xs) (k:Nat) (u:Value) (hu:xs[k]? =some u):∃g c,v=.slice (some ⟨g,0,none⟩) n c∧w.cell? ⟨g,k,none⟩=some u:=by
 have hk:k<xs.length:=by
  rcases Nat.lt_or_ge k xs.length with h|h
  ·exact h
  ·rw [List.getElem?_eq_none h] at hu;cases hu
 rcases h with ⟨h1,⟨rfl,rfl⟩|⟨g,cap,cur,rfl,hg,hh,h3,h4,h5,h6⟩⟩
 ·simp at h1;rw [h1] at hk;simp at hk
 ·refine ⟨g,cap,rfl,?_⟩;rw [←h6] at hu;have hk2:k<n*size:=by omega
  rw [List.getElem?_take_of_lt hk2] at hu
  simpa [World.cell?,hh] using hu
theorem fD.cell {w:World} {T:TypeId} {v:Value} {l:List E3} (h:fD w T v l) (i:Nat) (hi:i<l.length):
  ∃g c,v=.slice (some ⟨g,0,none⟩) l.length c∧w.cell? ⟨g,i*3,none⟩=some (.int .i64 l[i].1)∧w.cell? ⟨g,i*3+1,none⟩=some (.string l[i].2.1)∧w.cell? ⟨g,i*3+2,none⟩=some l[i].2.2:=by
 obtain ⟨h0,h1,h2⟩:=sV l[i] l i (RI hi);obtain ⟨g,c,rfl,e0⟩:=aQ h _ _ h0;obtain ⟨g',c',e',e1⟩:=aQ h _ _ h1;obtain ⟨g'',c'',e'',e2⟩:=aQ h _ _ h2;simp only [Value.slice.injEq,Option.some.injEq,Addr.mk.injEq] at e' e'';obtain ⟨⟨rfl,_⟩,_⟩:=e';obtain ⟨⟨rfl,_⟩,_⟩:=e'';exact ⟨g,c,rfl,e0,e1,e2⟩
theorem fD.below {w w':World} {T:TypeId} {v:Value} {l:List E3} (h:fD w T v l) (k:Below w.heap.size w w'):fD w' T v l:=
 ai h fun g cs f _ hh=>k.block g (lt_of_some hh)
def wN (x:RJ) (l:List E3):Int:=match l.findIdx? (fun e=>eqs e.2.1 x) with
 |some k=>k
 |none=> -1
theorem qH (x:RJ) (l:List E3) (k:Nat) (hk:k<l.length) (he:eqs l[k].2.1 x=true) (hall:∀j,(h:j<l.length)→j<k→eqs l[j].2.1 x=false):wN x l=k:=by
 have:l.findIdx? (fun e=>eqs e.2.1 x)=some k:=by
  rw [List.findIdx?_eq_some_iff_getElem];exact ⟨hk,he,fun j hj=>by rw [hall j (by omega) hj];decide⟩
 simp [wN,this]
theorem uN (x:RJ) (l:List E3) (hall:∀j,(h:j<l.length)→eqs l[j].2.1 x=false):wN x l= -1:=by
 have:l.findIdx? (fun e=>eqs e.2.1 x)=none:=by
  rw [List.findIdx?_eq_none_iff];intro e he;obtain ⟨j,hj,rfl⟩:=List.getElem_of_mem he;exact hall j hj
 simp [wN,this]
theorem Ba (p:Nat) (n x:RJ) (v:Value) (q:Nat) (w:World) (hx:ag w q #[.string x] 9):
  Calls Tryz.prog 96 #[.agg #[.int .i64 p,.string n,v],.pointer (some ⟨q,0,none⟩)] w fun e w'=>e=.returned (.bool (eqs n x))∧Below w.heap.size w w':=by
 have c0:w.cell? ⟨q,0,none⟩=some (.string x):=hx.cell rfl;have hl:=hx.lt;have he:(n.toList==x.toList)=eqs n x:=by rw [aC,aC];rfl
 clear hx;go_enter Tryz.func96,Tryz.ntmps96;go_wp2;go_ret;exact ⟨rfl,(Below.refl _ _).alloc RH _⟩
theorem o5 (v:Value) (l:List E3) (x:RJ) (q:Nat) (w:World) (hn:l.length≤1000) (h:fD w 110 v l) (hx:ag w q #[.string x] 9):
  Calls Tryz.prog 95 #[v,.func (.func 96) #[] #[.pointer (some ⟨q,0,none⟩)]] w fun e w'=>e=.returned (.int .i64 (wN x l))∧Below w.heap.size w w':=by
 obtain ⟨sa,sc,rfl⟩:=ak h;have H:=ae h;have HX:=ae hx;clear h hx;go_enter Tryz.func95,Tryz.ntmps95;go_wp2
 go_loopw [5,8] (fun u i wr=>∃k:Nat,k≤l.length∧i=.int .i64 k∧Below w.heap.size w wr∧Hid (∀j,(h:j<l.length)→j<k→eqs l[j].2.1 x=false)) (fun _ i _=>l.length-(intOf i).toNat)
 case atStart=>exact ⟨0,by omega,rfl,Below.refl _ _,ae (fun j e h=>by omega)⟩
 case round=>
  obtain ⟨k,hk,rfl,hb,eH⟩:=hrel;have HB:=ae hb
  by_cases hlt:k<l.length
  ·obtain ⟨g,c,e1,k0,k1,k2⟩:=((aa H).below hb).cell k hlt;simp only [Value.slice.injEq] at e1;obtain ⟨rfl,_,rfl⟩:=e1;have IQ:=ae ((aa HX).below hb);clear hb
   cases he:eqs l[k].2.1 x
   ·have Hn:=ae (show ∀j,(h:j<l.length)→j<k+1→eqs l[j].2.1 x=false from fun j h h'=>by
     by_cases e:j=k
     ·subst e;exact he
     ·exact aa eH j h (by omega))
    have He:=ae he;clear he;go_wp2_with fail;refine (Ba _ _ _ _ _ _ (aa IQ)).mono ?_;rintro e w2 ⟨rfl,hb2⟩;rw [aa He];have iK:=ae ((aa HB).trans (hb2.mono (aa HB).size));clear hb2;go_wp2;go_roundw
    case rel=>exact ⟨k+1,by omega,by go_num,aa iK,Hn⟩
    case measure=>simp [intOf];omega
   ·have dN:=ae (qH x l k hlt he (aa eH));have He:=ae he;clear he;go_wp2_with fail;refine (Ba _ _ _ _ _ _ (aa IQ)).mono ?_;rintro e w2 ⟨rfl,hb2⟩;rw [aa He];have iK:=ae ((aa HB).trans (hb2.mono (aa HB).size));clear hb2;go_wp2;go_ret;exact ⟨by rw [aa dN];rfl,aa iK⟩
  ·have dN:=ae (uN x l (fun j h=>aa eH j h (by omega)));clear hb;go_wp2;go_ret;exact ⟨by rw [aa dN];rfl,aa HB⟩
theorem Bb (p:Nat) (n x:RJ) (v:Value) (q:Nat) (w:World) (hx:ag w q #[.string x] 9):
  Calls Tryz.prog 206 #[.agg #[.int .i64 p,.string n,v],.pointer (some ⟨q,0,none⟩)] w fun e w'=>e=.returned (.bool (eqs n x))∧Below w.heap.size w w':=by
 have c0:w.cell? ⟨q,0,none⟩=some (.string x):=hx.cell rfl;have hl:=hx.lt;have he:(n.toList==x.toList)=eqs n x:=by rw [aC,aC];rfl
 clear hx;go_enter Tryz.func206,Tryz.ntmps206;go_wp2;go_ret;exact ⟨rfl,(Below.refl _ _).alloc RH _⟩
theorem o6 (v:Value) (l:List E3) (x:RJ) (q:Nat) (w:World) (hn:l.length≤1000) (h:fD w 159 v l) (hx:ag w q #[.string x] 9):
  Calls Tryz.prog 205 #[v,.func (.func 206) #[] #[.pointer (some ⟨q,0,none⟩)]] w fun e w'=>e=.returned (.int .i64 (wN x l))∧Below w.heap.size w w':=by
 obtain ⟨sa,sc,rfl⟩:=ak h;have H:=ae h;have HX:=ae hx;clear h hx;go_enter Tryz.func205,Tryz.ntmps205;go_wp2
 go_loopw [5,8] (fun u i wr=>∃k:Nat,k≤l.length∧i=.int .i64 k∧Below w.heap.size w wr∧Hid (∀j,(h:j<l.length)→j<k→eqs l[j].2.1 x=false)) (fun _ i _=>l.length-(intOf i).toNat)
 case atStart=>exact ⟨0,by omega,rfl,Below.refl _ _,ae (fun j e h=>by omega)⟩
 case round=>
  obtain ⟨k,hk,rfl,hb,eH⟩:=hrel;have HB:=ae hb
  by_cases hlt:k<l.length
  ·obtain ⟨g,c,e1,k0,k1,k2⟩:=((aa H).below hb).cell k hlt;simp only [Value.slice.injEq] at e1;obtain ⟨rfl,_,rfl⟩:=e1;have IQ:=ae ((aa HX).below hb);clear hb
   cases he:eqs l[k].2.1 x
   ·have Hn:=ae (show ∀j,(h:j<l.length)→j<k+1→eqs l[j].2.1 x=false from fun j h h'=>by
     by_cases e:j=k
     ·subst e;exact he
     ·exact aa eH j h (by omega))
    have He:=ae he;clear he;go_wp2_with fail;refine (Bb _ _ _ _ _ _ (aa IQ)).mono ?_;rintro e w2 ⟨rfl,hb2⟩;rw [aa He];have iK:=ae ((aa HB).trans (hb2.mono (aa HB).size));clear hb2;go_wp2;go_roundw
    case rel=>exact ⟨k+1,by omega,by go_num,aa iK,Hn⟩
    case measure=>simp [intOf];omega
   ·have dN:=ae (qH x l k hlt he (aa eH));have He:=ae he;clear he;go_wp2_with fail;refine (Bb _ _ _ _ _ _ (aa IQ)).mono ?_;rintro e w2 ⟨rfl,hb2⟩;rw [aa He];have iK:=ae ((aa HB).trans (hb2.mono (aa HB).size));clear hb2;go_wp2;go_ret;exact ⟨by rw [aa dN];rfl,aa iK⟩
  ·have dN:=ae (uN x l (fun j h=>aa eH j h (by omega)));clear hb;go_wp2;go_ret;exact ⟨by rw [aa dN];rfl,aa HB⟩
