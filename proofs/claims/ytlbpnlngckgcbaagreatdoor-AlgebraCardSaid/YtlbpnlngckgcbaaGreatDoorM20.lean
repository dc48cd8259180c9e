import Derived.Test.YtlbpnlngckgcbaaGreatDoorM19
import Derived.Maps.OwnOps
import Derived.Maps.Views
import Derived.DeepKeys4
import Derived.Laws.BitsAllLaws
set_option linter.all false
set_option maxHeartbeats 4000000
set_option maxRecDepth 100000
namespace Go.Proofs.YtlbpnlngckgcbaaGreatDoor
open Go.RowKit Go.PlainAid
structure eH where
 does:Nat
 rel:Qx
 to:Nat
def wT (i:eH):List Value:=[.int .i64 i.does,.string i.rel,.int .i64 i.to]
structure WI (base:Nat) (w:World) (b:Nat) (rel:Qx) (v:Value) (l:List eH):Prop where
 blk:ag w b #[.string rel,v] 293
 row:w.ownsRow base 298 3 v l.length (l.flatMap wT)
 low:base≤b
theorem WI.below {base:Nat} {w w':World} {b:Nat} {rel:Qx} {v:Value} {l:List eH} (h:WI base w b rel v l) (k:Below w.heap.size w w'):WI base w' b rel v l:=⟨h.blk.below k,aM h.row k,h.low⟩
theorem Tryz.infoIns:(Tryz.prog.info? 298).map (fun i=>(i.zero,i.size,i.bytes))=some (some (.agg #[.int .i64 0,.string ⟨#[]⟩,.int .i64 0]),3,32):=by kernel_rfl
structure kS (b:Nat) (v:Value) (w w':World) (v':Value):Prop where
 but:aQ (fun k=>k=b∨v.ownBlock=some k) w w'
 own:∀k,v'.ownBlock=some k→v.ownBlock=some k∨w.heap.size≤k
theorem kS.trans {b:Nat} {x y z:World} {v v' v'':Value} (h:kS b v x y v') (k:kS b v' y z v''):kS b v x z v'' where
 but:=⟨k.but.os.trans h.but.os,k.but.tape.trans h.but.tape,k.but.output.trans h.but.output,Nat.le_trans h.but.size k.but.size,fun i hi hs=>(k.but.block i (Nat.lt_of_lt_of_le hi h.but.size) (fun e=>by
  rcases e with e|e
  ·exact hs (.inl e)
  ·rcases h.own i e with e|e
   ·exact hs (.inr e)
   ·omega)).trans (h.but.block i hi hs)⟩
 own:=fun i hi=>by
  rcases k.own i hi with e|e
  ·exact h.own i e
  ·exact .inr (Nat.le_trans h.but.size e)
theorem kS.of_below {b:Nat} {v:Value} {x y:World} (h:Below x.heap.size x y):kS b v x y v:=⟨.of_below h,fun _ e=> .inl e⟩
theorem kS.below {base b:Nat} {rel:Qx} {v v':Value} {l:List eH} {w w':World} (h:WI base w b rel v l) (k:kS b v w w' v'):Below base w w':=by
 have hb:=h.blk.lt;have hl:=h.low;exact k.but.below (by omega) (fun g e=>by
  rcases e with e|e
  ·omega
  ·exact (h.row.lt g e).1)
theorem kS.blk {b:Nat} {v v':Value} {w w':World} (k:kS b v w w' v') {g:Nat} {cs:Array Value} {T:TypeId} (h:ag w g cs T) (hb:g≠b) (hv:v.ownBlock≠some g):ag w' g cs T:=k.but.blk h (fun e=>by
 rcases e with e|e
 ·exact hb e
 ·exact hv e)
def AL (base b:Nat) (rel:Qx) (v:Value) (l:List eH) (i:eH) (w:World) (e:Ending) (w':World):Prop:=∃v',e=.returned (.int .i64 l.length)∧kS b v w w' v'∧WI base w' b rel v' (l++[i])
theorem Cz {base b:Nat} {rel:Qx} {va:Option Addr} {vc:Nat} {l:List eH} {i:eH} {w W w5:World} {o:Obj} {g5 bP:Nat} (H:WI base w b rel (.slice va l.length vc) l) (hB:Below w.heap.size w W)
  (G5:(W.alloc o).drew.grownBy w5 (Value.slice va l.length vc).ownBlock) (O5:w5.ownsRow base 298 3 (.slice (some ⟨g5,0,none⟩) (l.length+1) bP) (l.length+1) (l.flatMap wT++wT i))
  (A5:(Value.slice va l.length vc).ownBlock=some g5∨g5=W.heap.size+1) (K5:ag w5 b #[.string rel,.slice va l.length vc] 293):
  AL base b rel (.slice va l.length vc) l i w (.returned (.int .i64 l.length)) (w5.setCell ⟨b,1,none⟩ (.slice (some ⟨g5,0,none⟩) (l.length+1) bP)):=by
 have mr:=H.low;have b2:=(hB.alloc hB.size o).drew;refine ⟨_,rfl,⟨((aQ.of_below b2).trans (fK G5 (fun k hk=> .inr hk))).set (.inl rfl) _,fun k hk=> ?_⟩,⟨K5.set 1 _,?_,mr⟩⟩
 ·simp only [Value.ownBlock,Option.some.injEq] at hk
  rcases A5 with e|e
  ·exact .inl (by rw [e,hk])
  ·exact .inr (by have:=hB.size;omega)
 have:=bn O5 K5 (by decide) 1 (.slice (some ⟨g5,0,none⟩) (l.length+1) bP);rw [List.flatMap_append,List.flatMap_singleton,List.length_append];exact this
theorem fV (base b:Nat) (rel:Qx) (v:Value) (l:List eH) (i:eH) (w:World) (h:WI base w b rel v l) (hl:l.length≤100000):
  Calls Tryz.prog 153 #[.pointer (some ⟨b,0,none⟩),.agg #[.int .i64 i.does,.string i.rel,.int .i64 i.to]] w (AL base b rel v l i w):=by
 obtain ⟨va,vc,rfl⟩:=ak h.row;have H:=ae h;have b1:=(Below.refl w.heap.size w).alloc Qv (.cells #[.int .i64 i.does,.string i.rel,.int .i64 i.to] 298);have B1:=ae b1;have H1:=ae (h.below b1);have PB:=ae (ag.new w #[.int .i64 i.does,.string i.rel,.int .i64 i.to] 298);have hbl:=h.blk.lt;clear h b1;go_enter Tryz.func153,Tryz.ntmps153;go_wp2_with fail;generalize (w.alloc (.cells #[.int .i64 i.does,.string i.rel,.int .i64 i.to] 298))=W at*;obtain ⟨c0,c1⟩:W.cell? ⟨b,0,none⟩=some (.string rel)∧W.cell? ⟨b,1,none⟩=some (.slice va l.length vc):=⟨(aa H1).blk.cell rfl,(aa H1).blk.cell rfl⟩;obtain ⟨x0,x1,x2⟩:W.cell? ⟨w.heap.size,0,none⟩=some (.int .i64 i.does)∧W.cell? ⟨w.heap.size,1,none⟩=some (.string i.rel)∧W.cell? ⟨w.heap.size,2,none⟩=some (.int .i64 i.to):=⟨(aa PB).cell rfl,(aa PB).cell rfl,(aa PB).cell rfl⟩;obtain ⟨i0,hi0,hz0,hz1,hz2⟩:=info_parts Tryz.infoIns;have HI:=ae hi0;have iU:=ae hz0;have iV:=ae hz1;have iW:=ae hz2;clear hi0 hz0 hz1 hz2;have hbk:=(aa H1).blk;have hz:=hbk.fz;have HO:=ae (aa H1).row;have mr:=(aa H1).low;have m7:=World.new_ne W _ c1;have m8:=World.new_ne W _ x0;have c7:(W.alloc (.cells #[.int .i64 i.does,.string i.rel,.int .i64 i.to] 298)).cell? ⟨b,1,none⟩=some (.slice va l.length vc):=(hbk.alloc _).cell rfl;have Ij:¬(b=W.heap.size):=by have:=hbk.lt;omega
 have hWl:=hbk.lt;have Cy:=ae hbk;clear hbk;have uQ:=ae (show ∀u∈wT i,u.oneCell'=true from by
  intro u hu;simp only [wT,List.mem_cons,List.not_mem_nil,or_false] at hu
  rcases hu with rfl|rfl|rfl<;>rfl)
 have Ga:=ae (show l.length+1≤maxLen from by unfold maxLen;omega);have Gb:=ae (show (l.length+1)*32≤140737488355328 from by omega);have HS:=ae (show base≤(W.alloc (.cells #[.int .i64 i.does,.string i.rel,.int .i64 i.to] 298)).drew.heap.size from by
  have:=((Below.refl _ W).alloc Qv (.cells #[.int .i64 i.does,.string i.rel,.int .i64 i.to] 298)).drew.size;omega)
 have HH:=ae (show (W.alloc (.cells #[.int .i64 i.does,.string i.rel,.int .i64 i.to] 298)).drew.heap.size=W.heap.size+1 from by simp)
 go_region_law (refine step_append_lies _ rfl (.tmp 9) (.tmp 11) 199 rfl base 298 i0 _ 3 32 Tryz.underlying199 (aa HI) (aa iU) (aa iV) (aa iW) rfl (by decide) (.slice va l.length vc) l.length (l.flatMap wT) (by simp [Act.eval,Act.put]) (fq ((aa HO).alloc _)) ⟨W.heap.size,0,none⟩ 1 1 (wT i) (by simp [Act.eval,Act.put]) rfl (World.news_of_block (B:=W.heap.size) (cs:=#[.int .i64 i.does,.string i.rel,.int .i64 i.to]) (t:=298) (fr:=(0,0)) (ag.new W _ _).drew) (aa uQ) (by decide) (aa Ga) (aa Gb) (aa HS) (W.heap.size+1) (aa HH) ?_;intro g5 bP w5 aK ax bZ jD;have gF:=fq ((aa HO).alloc (.cells #[.int .i64 i.does,.string i.rel,.int .i64 i.to] 298));have oV:=((aa Cy).alloc (.cells #[.int .i64 i.does,.string i.rel,.int .i64 i.to] 298)).drew;have K5:ag w5 b _ 293:=(ax.block b oV.lt (own_ne gF oV (by decide))).trans oV;obtain ⟨q0,q1⟩:=zS K5;have zq:=K5.fz;have Mk:=ae K5;have G5:=ae ax;have O5:=ae aK;have A5:=ae bZ;have lq:=K5.lt;clear gF oV K5 ax aK bZ)
 all_goals
  go_wp2;go_ret;exact Cz (aa H) (aa B1) (aa G5) (aa O5) (aa A5) (aa Mk)
def PE (n:Nat):Value:=.int .u64 n
structure CB (base:Nat) (w:World) (b:Nat) (v:Value) (l:List Nat):Prop where
 blk:ag w b #[v] 389
 row:w.ownsRow base 193 1 v l.length (l.map PE)
 low:base≤b
theorem CB.below {base:Nat} {w w':World} {b:Nat} {v:Value} {l:List Nat} (h:CB base w b v l) (k:Below w.heap.size w w'):CB base w' b v l:=⟨h.blk.below k,aM h.row k,h.low⟩
theorem Tryz.infoSet:(Tryz.prog.info? 193).map (fun i=>(i.zero,i.size,i.bytes))=some (some (.int .u64 0),1,8):=by kernel_rfl
theorem EQ {base:Nat} {w:World} {e:TypeId} {g n m cap:Nat} {xs:List Value} (h:w.ownsRow base e 1 (.slice (some ⟨g,0,none⟩) n cap) n xs) (hm:m≤n):w.ownsRow base e 1 (.slice (some ⟨g,0,none⟩) m cap) m (xs.take m):=by
 obtain ⟨hl,h2⟩:=h
 rcases h2 with ⟨h',_⟩|⟨g',cap',cur,h',hb,hg,hnc,hcm,hcs,ht⟩
 ·simp at h'
 ·simp only [Value.slice.injEq,Option.some.injEq,Addr.mk.injEq,and_true,true_and] at h';obtain ⟨rfl,rfl⟩:=h';refine ⟨by simp;omega,.inr ⟨g,cap,cur,rfl,hb,hg,by omega,hcm,hcs,?_⟩⟩;rw [←ht,List.take_take]
  congr 1
  omega
theorem AO {α:Type} {f:α→Value} {base:Nat} {w:World} {e:TypeId} {v:Value} {l:List α} (h:w.ownsRow base e 1 v l.length (l.map f)) (hl:0<l.length):∃g c,v=.slice (some ⟨g,0,none⟩) l.length c∧l.length≤c∧∀i x,l[i]? =some x→w.cell? ⟨g,i,none⟩=some (f x):=by
 obtain ⟨_,h2⟩:=id h
 rcases h2 with ⟨_,h'⟩|⟨g,cap,cur,rfl,hb,hg,hnc,hcm,hcs,ht⟩
 ·omega
 ·refine ⟨g,cap,rfl,hnc,fun i x hi=> ?_⟩;obtain ⟨hi1,_⟩:=List.getElem?_eq_some_iff.1 hi;rw [World.ownsRow.cellAt h i (by omega),List.getElem?_map,hi]
  rfl
def SkPut (base b:Nat) (v:Value) (l:List Nat) (w:World) (e:Ending) (w':World):Prop:=∃v',e=.returned (.tuple #[])∧kS b v w w' v'∧CB base w' b v' l
def KR (base b:Nat) (v:Value) (l:List Nat) (n:Nat) (w:World) (e:Ending) (w':World):Prop:=∃v',e=.returned (.int .u64 n)∧kS b v w w' v'∧CB base w' b v' l
theorem gZ (base b:Nat) (v:Value) (l:List Nat) (n:Nat) (w:World) (h:CB base w b v l) (hl:l.length≤100000):
  Calls Tryz.prog 241 #[.pointer (some ⟨b,0,none⟩),.int .u64 n] w (SkPut base b v (l++[n]) w):=by
 obtain ⟨va,vc,rfl⟩:=ak h.row;have H:=ae h;have c0:w.cell? ⟨b,0,none⟩=some (.slice va l.length vc):=h.blk.cell rfl;have hbl:=h.blk.lt;have mr:=h.low;have Ij:¬(b=w.heap.size):=by omega
 obtain ⟨i0,hi0,hz0,hz1,hz2⟩:=info_parts Tryz.infoSet;clear h;go_enter Tryz.func241,Tryz.ntmps241;go_wp2_with (at_builtin;go_must (refine wpList_append_lies _ rfl _ _ 389 rfl base 193 i0 _ 1 8 Tryz.underlying389 hi0 hz0 hz1 hz2 rfl (by decide) (.slice va l.length vc) l.length (l.map PE) rfl ?hown ⟨w.heap.size,0,none⟩ 1 1 [.int .u64 n] rfl rfl ?hnews ?hone (by decide) ?h63 ?hbytes ?hbase (w.heap.size+1) ?hH ?hrest))
 case hown=>exact (aa H).row.alloc _
 case hnews=>exact World.news_of_block (B:=w.heap.size) (cs:=#[.int .u64 n]) (t:=193) (fr:=(0,0)) (ag.new _ _ _)
 case hone=>
  intro u hu;simp at hu;subst hu
  rfl
 case h63=>unfold maxLen;omega
 case hbytes=>omega
 case hbase=>simp;omega
 case hH=>simp
 case hrest=>
  intro g5 bP w5 aK ax bZ jD;have gF:=(aa H).row.alloc (.cells #[.int .u64 n] 193);have oV:=(aa H).blk.alloc (.cells #[.int .u64 n] 193);have K5:ag w5 b _ 389:=(ax.block b oV.lt (own_ne gF oV (by decide))).trans oV;have zq:=K5.fz;have q0:w5.cell? ⟨b,0,none⟩=some (.slice va l.length vc):=K5.cell rfl;have Mk:=ae K5;have G5:=ae ax;have O5:=ae aK;have A5:=ae bZ;clear gF oV K5 aK ax bZ;go_wp2;go_end0;have b2:=(Below.refl w.heap.size w).alloc Qv (.cells #[.int .u64 n] 193);refine ⟨_,rfl,⟨((aQ.of_below b2).trans (fK (aa G5) (fun k hk=> .inr hk))).set (.inl rfl) _,fun k hk=> ?_⟩,⟨(aa Mk).set 0 _,?_,mr⟩⟩
  ·simp only [Value.ownBlock,Option.some.injEq] at hk
   rcases aa A5 with e|e
   ·exact .inl (by rw [e,hk])
   ·exact .inr (by omega)
  have:=bn (aa O5) (aa Mk) (by decide) 0 (.slice (some ⟨g5,0,none⟩) (l.length+1) bP);rw [List.map_append,List.length_append];exact this
theorem fM (base b:Nat) (v:Value) (l:List Nat) (n:Nat) (w:World) (h:CB base w b v (l++[n])) (hl:l.length≤100000):
  Calls Tryz.prog 240 #[.pointer (some ⟨b,0,none⟩)] w (KR base b v l n w):=by
 obtain ⟨g,c,e1,hcap,hc⟩:=AO h.row (by simp);have rM:(l++[n]).length=l.length+1:=by simp
 rw [rM] at e1;subst e1;have k0:w.cell? ⟨g,l.length,none⟩=some (.int .u64 n):=hc l.length n (by simp);have hcc:l.length≤c:=by omega
 have c0:w.cell? ⟨b,0,none⟩=some (.slice (some ⟨g,0,none⟩) (l.length+1) c):=h.blk.cell rfl;have hz:=h.blk.fz;have mr:=h.low;have H:=ae h;clear h hc;go_enter Tryz.func240,Tryz.ntmps240;go_wp2;go_ret;refine ⟨_,rfl,⟨(aQ.refl _ w).set (.inl rfl) _,fun k hk=> .inl (by simpa [Value.ownBlock] using hk)⟩,⟨(aa H).blk.set 0 _,?_,mr⟩⟩;have h1:=EQ (m:=l.length) (show w.ownsRow base 193 1 (.slice (some ⟨g,0,none⟩) (l.length+1) c) (l.length+1) ((l++[n]).map PE) from by have:=(aa H).row;rw [rM] at this;exact this) (by omega);have h2:=bn h1 (aa H).blk (by decide) 0 (.slice (some ⟨g,0,none⟩) l.length c);rw [List.map_append,List.take_left' (by simp)] at h2;exact h2
theorem ER (base b:Nat) (v:Value) (l:List Nat) (n:Nat) (w:World) (h:CB base w b v (l++[n])) (hl:l.length≤100000):
  Calls Tryz.prog 245 #[v] w fun e w'=>e=.returned (.int .u64 n)∧w'=w:=by
 obtain ⟨g,c,e1,hcap,hc⟩:=AO h.row (by simp);have rM:(l++[n]).length=l.length+1:=by simp
 rw [rM] at e1;subst e1;have k0:w.cell? ⟨g,l.length,none⟩=some (.int .u64 n):=hc l.length n (by simp);clear h hc;go_enter Tryz.func245,Tryz.ntmps245;go_wp2;go_ret;exact ⟨rfl,rfl⟩
structure Sj where
 kind:Qx
 id:Qx
 rel:Qx
def Sj.dec(a b:Sj):Decidable (a=b):=decidable_of_iff (a.kind=b.kind/\a.id=b.id/\a.rel=b.rel) ⟨fun h=>by cases a;cases b;simp_all,fun h=>by simp [h]⟩
def q8 (s:Sj):Value:=.agg #[.string s.kind,.string s.id,.string s.rel]
def lg (s:Sj):Prop:=s.kind.size≤maxLen∧s.id.size≤maxLen∧s.rel.size≤maxLen
theorem Tryz.laidB:laidOutB Tryz.prog=true:=by kernel_rfl
theorem Tryz.keyWide:(match Tryz.prog.underlying 102 with|some (.array _ _)|some (.struct _)=>true|_=>false)=true:=by rw [Tryz.underlying102]
theorem Tryz.keyRow:(102:TypeId)<Tryz.prog.types.size:=of_decide_eq_true (by kernel_rfl)
theorem Tryz.keyAt:Tryz.prog.keyTypeAt 3 102=true:=by kernel_rfl
theorem Tryz.keyLaw:WideMaps.KeyLaw Tryz.prog 102:=deep_law_laid Tryz.laidB (m:=3) (by omega) Tryz.keyRow Tryz.keyAt Tryz.keyWide
theorem Tryz.keyed:Maps.Keyed Tryz.prog 102:=Maps.Keyed.of_law Tryz.keyLaw
theorem Tryz.keyType:Tryz.prog.keyType 102=true:=by kernel_rfl
theorem Tryz.cellsSj:Tryz.prog.cellsOf 102=3:=by kernel_rfl
theorem Tryz.cellsTh:Tryz.prog.cellsOf 98=2:=by kernel_rfl
theorem Tryz.cellsStr:Tryz.prog.cellsOf 9=1:=by kernel_rfl
theorem qJ (n:Nat) {s:Qx} (hs:s.size≤maxLen):Tryz.prog.keyLits (n+1) 9 [.string s]=some [.string s.data.toList]:=by
 unfold Program.keyLits;rw [Tryz.underlying9];simp [hs]
theorem Ik (n:Nat) {a b:Qx} (ha:a.size≤maxLen) (hb:b.size≤maxLen):Tryz.prog.keyLits (n+2) 98 [.string a,.string b]=some [.string a.data.toList,.string b.data.toList]:=by
 unfold Program.keyLits;rw [Tryz.underlying98];simp [Tryz.cellsTh,Tryz.cellsStr,qJ n ha,qJ n hb]
theorem Il (n:Nat) {s:Sj} (h:lg s):Tryz.prog.keyLits (n+3) 102 [.string s.kind,.string s.id,.string s.rel]=some [.string s.kind.data.toList,.string s.id.data.toList,.string s.rel.data.toList]:=by
 unfold Program.keyLits;rw [Tryz.underlying102];simp [Tryz.cellsSj,Tryz.cellsTh,Tryz.cellsStr,Ik n h.1 h.2.1,qJ (n+1) h.2.2]
def OA (s:Sj):Lit:=.string (keyBytes [.string s.kind.data.toList,.string s.id.data.toList,.string s.rel.data.toList])
theorem qK {s:Sj} (h:lg s):keyOf Tryz.prog 102 (q8 s)=some (OA s):=by
 have hn:Tryz.prog.types.size+1=(445-2)+3:=by
  have:Tryz.prog.types.size=445:=by kernel_rfl
  omega
 have hf:(q8 s).formed Tryz.prog 102=true:=by simp [q8,Value.formed,Tryz.underlying102,Tryz.cellsSj]
 unfold keyOf;rw [Tryz.underlying102];simp only [Tryz.keyType,hf,Bool.and_self,if_true,hn];rw [show (q8 s).cells.toList=[.string s.kind,.string s.id,.string s.rel] from rfl,Il _ h]
 rfl
theorem Im {s s':Sj} (h:lg s) (h':lg s') (e:OA s=OA s'):s=s':=by
 have:=Tryz.keyed.inj (qK h) (by rw [e];exact qK h');simp [q8] at this
 cases s;cases s';simp_all
def nQ (w:World) (b n:Nat) (K:Sj→Nat):Prop:=∃D:DataW Unit,w.ownsMap Tryz.prog 102 (plainElem Tryz.prog 193) b n D∧Maps.IsMap D∧∀s,lg s→D.atKey (OA s) (.lit (.int .u64 0))=.lit (.int .u64 (K s))
def jP (K:Sj→Nat) (s:Sj) (v:Nat):Sj→Nat:=fun x=>@ite _ (x=s) (x.dec s) v (K x)
theorem ES (w:World):nQ (w.alloc (.map #[] 0)) w.heap.size 0 (fun _=>0):=⟨.map [],World.ownsMap_made _ _ _ _,Maps.isMap_empty,fun s _=>rfl⟩
theorem nQ.lt {w:World} {b n:Nat} {K:Sj→Nat} (h:nQ w b n K):b<w.heap.size:=by
 obtain ⟨D,h1,_⟩:=h;exact h1.lt
theorem nQ.block {w w':World} {b n:Nat} {K:Sj→Nat} (h:nQ w b n K) (hb:w'.heap[b]? =w.heap[b]?):nQ w' b n K:=by
 obtain ⟨D,⟨es,c,h1,h3⟩,h2⟩:=h;exact ⟨D,⟨es,c,hb.trans h1,h3⟩,h2⟩
theorem nQ.isMap {w:World} {b n:Nat} {K:Sj→Nat} (h:nQ w b n K):∃es c,w.heap[b]? =some (.map es c):=by
 obtain ⟨D,⟨es,c,h1,h3⟩,h2⟩:=h;exact ⟨es,c,h1⟩
theorem ET (w:World):(zeroValue 193).run Tryz.prog w=.ok (.int .u64 0) w:=by kernel_rfl
theorem nQ.look {w:World} {b n:Nat} {K:Sj→Nat} (h:nQ w b n K) {s:Sj} (hs:lg s):(Instr.lookup 187 (.map (some b)) (q8 s) false).run Tryz.prog w=.ok (.int .u64 (K s)) w:=by
 obtain ⟨D,h1,h2,h3⟩:=h;obtain ⟨c,hr,hat,_⟩:=h1.lookup_int Tryz.keyed Tryz.underlying187 Tryz.underlying193 (ET w) (qK hs);rw [h3 s hs] at hat;simp only [DataW.lit.injEq,Lit.int.injEq,true_and] at hat;rw [hr,←hat]
theorem KS {v:Nat} (hv:v<18446744073709551616):(Lit.int .u64 (v:Int)).wf=true:=WalkArith.wf_u64 ⟨by omega,by omega⟩
theorem nQ.upd {w:World} {b n:Nat} {K:Sj→Nat} (h:nQ w b n K) (hn:n<maxLen) {s:Sj} (hs:lg s) {v:Nat} (hv:v<18446744073709551616):
  ∃w',(Instr.mapUpdate 187 (.map (some b)) (q8 s) (.int .u64 v)).run Tryz.prog w=.ok () w'∧nQ w' b (n+1) (jP K s v)∧w.grownBy w' (some b):=by
 obtain ⟨D,h1,h2,h3⟩:=h;obtain ⟨w',hr,ho,hg⟩:=h1.update Tryz.keyed Tryz.underlying187 hn (qK hs) (plainElem_int Tryz.underlying193 (KS hv));refine ⟨w',hr,⟨_,ho,h2.put _ _,fun s' hs'=> ?_⟩,hg⟩;unfold jP
 by_cases e:s'=s
 ·subst e;rw [if_pos rfl,Maps.atKey_put_same h2 (Tryz.keyed.key (qK hs))]
 ·rw [if_neg e,Maps.atKey_put_other (fun e'=>e (Im hs' hs e')),h3 s' hs']
def iN (ts:List Tu) (k:Nat) (rel:Qx):Nat:=match (ts.drop k).findIdx? (fun t=>decide (t.rel=rel)) with
 |some i=>k+i+1
 |none=>0
structure Io (w:World) (tv:Value) (ts:List Tu):Prop where
 row:w.ownsRow 0 123 6 tv ts.length (ts.flatMap gL)
 most:ts.length≤1000
theorem Io.below {w w':World} {tv:Value} {ts:List Tu} (h:Io w tv ts) (k:Below w.heap.size w w'):Io w' tv ts:=⟨aM h.row k,h.most⟩
theorem Jv {a c:Qx} (h:a≠c):(a.toList==c.toList)=false:=by
 rw [←mg]
 cases e:eqs a c
 ·rfl
 ·exact absurd ((iJ _ _).1 e) h
theorem Jw {a c:Qx} (h:a=c):(a.toList==c.toList)=true:=by subst h;simp
theorem zU {ts:List Tu} {k j:Nat} {rel:Qx} {t:Tu} (hj:ts[k+j]? =some t) (ht:t.rel=rel) (hn:∀i,i<j→∀u,ts[k+i]? =some u→u.rel≠rel):iN ts k rel=k+j+1:=by
 have:(ts.drop k).findIdx? (fun t=>decide (t.rel=rel))=some j:=by
  rw [List.findIdx?_eq_some_iff_getElem];obtain ⟨h1,h2⟩:=List.getElem?_eq_some_iff.1 hj;refine ⟨by simp;omega,by simp [h2,ht],fun i hi=> ?_⟩;have h3:k+i<ts.length:=by omega
  have:=hn i hi _ (Qw h3)
  simpa using this
 unfold iN;rw [this]
theorem qL {ts:List Tu} {k:Nat} {rel:Qx} (hn:∀i u,ts[k+i]? =some u→u.rel≠rel):iN ts k rel=0:=by
 have:(ts.drop k).findIdx? (fun t=>decide (t.rel=rel))=none:=by
  rw [List.findIdx?_eq_none_iff];intro x hx;obtain ⟨i,hi,rfl⟩:=List.getElem_of_mem hx;have h3:k+i<ts.length:=by simp at hi;omega
  have:=hn i _ (Qw h3)
  simpa using this
 unfold iN;rw [this]
theorem EU (kd id rel:Qx) (tv:Value) (ts:List Tu) (k:Nat) (w:World) (h:Io w tv ts) (h0:0<ts.length) (hk:k≤ts.length):
  Calls Tryz.prog 242 #[.agg #[.string kd,.string id,tv],.int .i64 k,.string rel] w fun e w'=>e=.returned (.int .i64 (iN ts k rel))∧Below w.heap.size w w':=by
 obtain ⟨g,c,e1,hc⟩:=aZ gL 6 (fun _=>rfl) h.row 0 ts[0] (Qw h0);subst e1;have hcap:ts.length≤c:=by
  rcases h.row.2 with ⟨h',_⟩|⟨_,_,_,h',_,_,hnc,_⟩
  ·simp at h'
  ·simp only [Value.slice.injEq] at h';omega
 have wR:=h.most;have H:=ae h;have HN:=ae (show ∀j t,ts[k+j]? =some t→w.cell? ⟨g,k*6+j*6,none⟩=some (.string t.kind)∧w.cell? ⟨g,k*6+j*6+1,none⟩=some (.string t.id)∧w.cell? ⟨g,k*6+j*6+2,none⟩=some (.string t.rel)∧w.cell? ⟨g,k*6+j*6+3,none⟩=some (.string t.sub)∧w.cell? ⟨g,k*6+j*6+4,none⟩=some (.string t.who)∧w.cell? ⟨g,k*6+j*6+5,none⟩=some (.string t.of) from fun j t hj=>by
  obtain ⟨g',c',e',hc'⟩:=aZ gL 6 (fun _=>rfl) h.row (k+j) t hj;rw [Nat.add_mul] at hc';simp only [Value.slice.injEq,Option.some.injEq,Addr.mk.injEq,and_true,true_and] at e';obtain ⟨rfl,rfl⟩:=e';exact ⟨hc' 0 _ (by omega) rfl,hc' 1 _ (by omega) rfl,hc' 2 _ (by omega) rfl,hc' 3 _ (by omega) rfl,hc' 4 _ (by omega) rfl,hc' 5 _ (by omega) rfl⟩)
 have hbl:g<w.heap.size:=(h.row.lt g rfl).2;obtain ⟨m,hm⟩:∃m,ts.length=k+m:=⟨ts.length-k,by omega⟩;rw [hm] at hcap;have HM:=ae hm;have hkc:(k:Int)≤(c:Int):=by omega
 have hm6:k+m≤1000:=by omega
 rw [hm];clear h hc hm wR hk h0
 by_cases yg:c=k
 ·have hm0:m=0:=by omega
  subst hm0;have HZ:=ae (qL (ts:=ts) (k:=k) (rel:=rel) (fun i u hu=>by have:=(List.getElem?_eq_some_iff.1 hu).1;have:=aa HM;omega));subst yg;go_enter Tryz.func242,Tryz.ntmps242;go_wp2_with fail
  go_loopw [14] (fun vi wr=>vi=.int .i64 0∧Below w.heap.size w wr) (fun _ _=>0)
  case atStart=>exact ⟨rfl,(Below.refl _ w).alloc Qv _⟩
  case round=>
   obtain ⟨rfl,hb⟩:=hrel;go_wp2;go_ret;rw [aa HZ];exact ⟨rfl,hb⟩
 ·go_enter Tryz.func242,Tryz.ntmps242;go_wp2_with fail
  go_loopw [14] (fun vi wr=>∃j:Nat,j≤m∧vi=.int .i64 j∧Below w.heap.size w wr∧Hid (∀i,i<j→∀u,ts[k+i]? =some u→u.rel≠rel)) (fun vi _=>m-(intOf vi).toNat)
  case atStart=>exact ⟨0,by omega,rfl,(Below.refl _ w).alloc Qv _,ae (fun i hi=>by omega)⟩
  case round=>
   obtain ⟨j,hj,rfl,hb,HR⟩:=hrel;have hwr:=hb.size
   by_cases hlt:j<m
   ·have hkn:(j:Int)<(m:Int):=by omega
    obtain ⟨t,ht⟩:∃t,ts[k+j]? =some t:=⟨_,Qw (by have:=aa HM;omega)⟩;obtain ⟨k0,k1,k2,k3,k4,k5⟩:=aa HN j t ht;have x0:=(hb.cell (p:=⟨g,_,none⟩) hbl).trans k0;have x1:=(hb.cell (p:=⟨g,_,none⟩) hbl).trans k1;have x2:=(hb.cell (p:=⟨g,_,none⟩) hbl).trans k2;have x3:=(hb.cell (p:=⟨g,_,none⟩) hbl).trans k3;have x4:=(hb.cell (p:=⟨g,_,none⟩) hbl).trans k4;have x5:=(hb.cell (p:=⟨g,_,none⟩) hbl).trans k5;have HT:=ae ht;clear k0 k1 k2 k3 k4 k5 ht
    by_cases hr:t.rel=rel
    ·have hrt:=ae hr;have PG:=Jw hr;clear hr;go_wp2;go_ret;rw [zU (aa HT) (aa hrt) (aa HR)];exact ⟨by go_num,hb.alloc hwr _⟩
    ·have HB:=ae (hb.alloc hwr (.cells #[.string t.kind,.string t.id,.string t.rel,.string t.sub,.string t.who,.string t.of] 123));have PH:=ae hr;have PG:=Jv hr;clear hr;go_wp2;go_roundw
     case rel=>exact ⟨j+1,by omega,by go_num,aa HB,ae (fun i hi u hu=>by
      by_cases e:i=j
      ·subst e;rw [aa HT] at hu
       cases hu
       exact aa PH
      ·exact aa HR i (by omega) u hu)⟩
     case measure=>simp [intOf];omega
   ·have hkn:¬((j:Int)<(m:Int)):=by omega
    go_wp2;go_ret;rw [qL (fun i u hu=>aa HR i (by have:=(List.getElem?_eq_some_iff.1 hu).1;have:=aa HM;omega) u hu)];exact ⟨rfl,hb⟩
def pg (K:Sj→Nat) (s:Sj) (rel:Qx):Nat:=if s.rel.size=0 then K ⟨s.kind,s.id,rel⟩ else 0
theorem Jy {c:Qx} (h:c.size=0):(c.toList== [])=true:=by rw [aB,beq_iff_eq];exact List.eq_nil_of_length_eq_zero (by rw [aL];exact h)
theorem Jz {c:Qx} (h:¬c.size=0):(c.toList== [])=false:=by
 rw [aB];have:(dx c).length≠0:=by rw [aL];exact h
 revert this
 cases dx c<;>simp
theorem zV (ca ha:Option Addr) (cn cc hn hc mb n:Nat) (K:Sj→Nat) (s:Sj) (rel:Qx) (w:World) (hk:nQ w mb n K) (hs:lg s) (hr:rel.size≤maxLen):
  Calls Tryz.prog 244 #[.agg #[.slice ca cn cc,.slice ha hn hc,.map (some mb)],q8 s,.string rel] w fun e w'=>e=.returned (.int .u64 (pg K s rel))∧Below w.heap.size w w':=by
 have b0:=((Below.refl w.heap.size w).alloc Qv (.cells #[.slice ca cn cc,.slice ha hn hc,.map (some mb)] 189)).alloc (by simp) (.cells #[.string s.kind,.string s.id,.string s.rel] 102);have HB:=ae b0;have hL:=(hk.block (b0.block mb hk.lt)).look (s:=⟨s.kind,s.id,rel⟩) ⟨hs.1,hs.2.1,hr⟩;unfold q8 at hL ⊢;clear b0
 by_cases h0:s.rel.size=0
 ·have hq:=Jy h0;have HE:=ae (show pg K s rel=K ⟨s.kind,s.id,rel⟩ from if_pos h0);clear h0;go_enter Tryz.func244,Tryz.ntmps244;go_wp2;go_ret;rw [aa HE];exact ⟨rfl,aa HB⟩
 ·have hq:=Jz h0;have HE:=ae (show pg K s rel=0 from if_neg h0);clear h0;go_enter Tryz.func244,Tryz.ntmps244;go_wp2;go_ret;rw [aa HE];exact ⟨rfl,aa HB⟩
structure Tg where
 kind:Qx
 id:Qx
def vF (w:World) (v:Value) (cs:List Tg):Prop:=∃g o c,v=.slice (some ⟨g,o,none⟩) cs.length c∧g<w.heap.size∧cs.length≤64∧∀i x,cs[i]? =some x→w.cell? ⟨g,o+i*2,none⟩=some (.string x.kind)∧w.cell? ⟨g,o+i*2+1,none⟩=some (.string x.id)
theorem vF.below {w w':World} {v:Value} {cs:List Tg} (h:vF w v cs) (k:Below w.heap.size w w'):vF w' v cs:=by
 obtain ⟨g,o,c,h1,h2,h3,h4⟩:=h;exact ⟨g,o,c,h1,Nat.lt_of_lt_of_le h2 k.size,h3,fun i x hi=>⟨(k.cell (p:=⟨g,_,none⟩) h2).trans (h4 i x hi).1,(k.cell (p:=⟨g,_,none⟩) h2).trans (h4 i x hi).2⟩⟩
def zW (a c:Tg):Bool:=eqs a.kind c.kind&&eqs a.id c.id
def jQ (s:Sj) (t:Tg):Bool:=zW t ⟨s.kind,s.id⟩||((s.id.toList== [42])&&(t.kind.toList==s.kind.toList))
def dm (p:Tg→Bool) (cs:List Tg):Nat→Nat
 |0=>0
 |j+1=>match cs[j]? with
  |some t=>if p t then dm p cs j|||2 ^ j else dm p cs j
  |none=>dm p cs j
theorem om (p:Tg→Bool) (cs:List Tg):∀j,j≤64→dm p cs j<18446744073709551616
 |0,_=>by show 0<18446744073709551616;decide
 |j+1,h=>by
  have ih:=om p cs j (by omega);have h2:2 ^ j<18446744073709551616:=Nat.pow_lt_pow_right (by omega) (show j<64 by omega);unfold dm
  split
  ·split
   ·exact Nat.or_lt_two_pow (n:=64) ih h2
   ·exact ih
  ·exact ih
theorem EW {B j:Nat} (hB:B<18446744073709551616) (hj:j<64):Value.int .u64 (bits .or .u64 (B:Int) (IntKind.u64.wrap (2 ^ j)))=.int .u64 ((B|||2 ^ j:Nat):Int):=by
 have h2:2 ^ j<18446744073709551616:=Nat.pow_lt_pow_right (by omega) (show j<64 by omega);have e:IntKind.u64.wrap ((2:Int) ^ j)=((2 ^ j:Nat):Int):=by
  rw [show ((2:Int) ^ j)=((2 ^ j:Nat):Int) from by simp];generalize 2 ^ j=x at*;simp [IntKind.wrap,IntKind.bits,IntKind.signed];omega
 rw [e,u64_or_nat _ _ hB h2]
def gI (K:Sj→Nat) (cs:List Tg) (s:Sj):Nat:=if s.rel.size=0 then dm (jQ s) cs cs.length else K s
theorem AP (a c:Tg) (w:World):(Op.equalIn 10000 98 (.agg #[.string a.kind,.string a.id]) (.agg #[.string c.kind,.string c.id])).run Tryz.prog w=.ok (zW a c) w:=by
 have u9:=Tryz.underlying9;rw [show (10000:Nat)=9999+1 from rfl,run_equalIn_agg w 9999 98 _ _ (by kernel_rfl) (by kernel_rfl)];simp only [Program.fieldsOf,Tryz.underlying98]
 go_simp
 have e:∀p q:Qx,eqs p q=decide (p.toList=q.toList):=fun p q=>by
  unfold eqs;rw [aB,aB,Bool.beq_eq_decide_eq]
 simp only [zW,e]
 (repeat' split)<;>simp_all
theorem AQ (x y:Operand) (xs ys:Array Value) (w:World):(eqGuard .eql 98 x y (.agg xs) (.agg ys)).run Tryz.prog w=.ok () w:=run_eqGuard_agg w .eql 98 x y xs ys (by kernel_rfl)
theorem CE (cv:Value) (cs:List Tg) (ha:Option Addr) (hn hc mb n:Nat) (K:Sj→Nat) (s:Sj) (w:World) (hk:nQ w mb n K) (hcr:vF w cv cs) (hs:lg s):
  Calls Tryz.prog 243 #[.agg #[cv,.slice ha hn hc,.map (some mb)],q8 s] w fun e w'=>e=.returned (.int .u64 (gI K cs s))∧Below w.heap.size w w':=by
 obtain ⟨g,o,c,rfl,hg,hl,hcell⟩:=hcr;have b0:=((Below.refl w.heap.size w).alloc Qv (.cells #[.slice (some ⟨g,o,none⟩) cs.length c,.slice ha hn hc,.map (some mb)] 189)).alloc (by simp) (.cells #[.string s.kind,.string s.id,.string s.rel] 102);have HB:=ae b0;have hL:=(hk.block (b0.block mb hk.lt)).look hs;unfold q8 at hL ⊢
 by_cases h0:s.rel.size=0
 ·have hq:=Jy h0;have HE:=ae (show gI K cs s=dm (jQ s) cs cs.length from if_pos h0);have PB:=ae (ag.new' (w.alloc (.cells #[.slice (some ⟨g,o,none⟩) cs.length c,.slice ha hn hc,.map (some mb)] 189)) #[.string s.kind,.string s.id,.string s.rel] 102 (w.heap.size+1) (by simp));have HC:=ae hcell;have GV:=AQ;clear h0 hL b0 hcell hk;go_enter Tryz.func243,Tryz.ntmps243;go_wp2_with fail;generalize ((w.alloc (.cells #[.slice (some ⟨g,o,none⟩) cs.length c,.slice ha hn hc,.map (some mb)] 189)).alloc (.cells #[.string s.kind,.string s.id,.string s.rel] 102))=W at*
  go_loopw [5,18] (fun vt vi wr=>∃j:Nat,j≤cs.length∧vi=.int .i64 j∧vt=.int .u64 (dm (jQ s) cs j)∧Below W.heap.size W wr) (fun _ vi _=>cs.length-(intOf vi).toNat)
  case atStart=>exact ⟨0,by omega,rfl,rfl,Below.refl _ _⟩
  case round=>
   obtain ⟨j,hj,rfl,rfl,hb⟩:=hrel;have hwr:=hb.size;obtain ⟨s0,s1,s2⟩:=three ((aa PB).below hb);have hbl:=((aa PB).below hb).lt;have hne:¬(w.heap.size+1=wr.heap.size):=by omega
   by_cases hlt:j<cs.length
   ·have hkn:(j:Int)<(cs.length:Int):=by omega
    obtain ⟨x,hx⟩:∃x,cs[j]? =some x:=⟨_,Qw hlt⟩;obtain ⟨y0,y1⟩:=aa HC j x hx;have PI:=(aa HB).trans (hb.mono (aa HB).size);have z0:=(PI.cell (p:=⟨g,_,none⟩) hg).trans y0;have z1:=(PI.cell (p:=⟨g,_,none⟩) hg).trans y1;have yX:=fun w'=>AP x ⟨s.kind,s.id⟩ w'
    have HU:=ae (show dm (jQ s) cs (j+1)=if jQ s x then dm (jQ s) cs j|||2 ^ j else dm (jQ s) cs j from by rw [dm];simp only [hx]);have HL:=ae (om (jQ s) cs j (by omega));have mO:=ae (hb.alloc hwr (.cells #[.string x.kind,.string x.id] 98));clear y0 y1 PI hb hx;dsimp only at yX;generalize dm (jQ s) cs j=B at*
    cases hA:zW x ⟨s.kind,s.id⟩
    ·cases hS:(s.id.toList== [42])
     ·have KU:=ae (show dm (jQ s) cs (j+1)=B from by rw [aa HU];simp [jQ,hA,hS]);clear HU;go_wp2;go_roundw
      case rel=>exact ⟨j+1,by omega,by go_num,by rw [aa KU],aa mO⟩
      case measure=>simp [intOf];omega
     ·cases hK:(x.kind.toList==s.kind.toList)
      ·have KU:=ae (show dm (jQ s) cs (j+1)=B from by rw [aa HU];simp [jQ,hA,hS,hK]);clear HU;go_wp2;go_roundw
       case rel=>exact ⟨j+1,by omega,by go_num,by rw [aa KU],aa mO⟩
       case measure=>simp [intOf];omega
      ·have KU:=ae (show dm (jQ s) cs (j+1)=B|||2 ^ j from by rw [aa HU];simp [jQ,hA,hS,hK]);clear HU;go_wp2;go_roundw
       case rel=>exact ⟨j+1,by omega,by go_num,by rw [aa KU];exact EW (aa HL) (by omega),aa mO⟩
       case measure=>simp [intOf];omega
    ·have KU:=ae (show dm (jQ s) cs (j+1)=B|||2 ^ j from by rw [aa HU];simp [jQ,hA]);clear HU;go_wp2;go_roundw
     case rel=>exact ⟨j+1,by omega,by go_num,by rw [aa KU];exact EW (aa HL) (by omega),aa mO⟩
     case measure=>simp [intOf];omega
   ·have hkn:¬((j:Int)<(cs.length:Int)):=by omega
    have e:j=cs.length:=by omega
    subst e;go_wp2;go_ret;rw [aa HE];exact ⟨rfl,(aa HB).trans (hb.mono (aa HB).size)⟩
 ·have hq:=Jz h0;have HE:=ae (show gI K cs s=K s from if_neg h0);clear h0;go_enter Tryz.func243,Tryz.ntmps243;go_wp2;go_ret;rw [aa HE];exact ⟨rfl,aa HB⟩
def lD (l:List eH) (k:Nat):List eH:=match l[k]? with
 |some i=>l.set k ⟨i.does,i.rel,l.length⟩
 |none=>l
theorem wU {l:List eH} {k:Nat} (hk:k<l.length):lD l k=l.set k ⟨l[k].does,l[k].rel,l.length⟩:=by
 unfold lD;rw [Qw hk]
theorem CJ (l:List eH) (k:Nat):(lD l k).length=l.length:=by
 unfold lD
 split
 ·simp
 ·rfl
theorem EX (u:Nat):∀(l:List eH) (k:Nat) (h:k<l.length),(l.flatMap wT).set (k*3+2) (.int .i64 u)=(l.set k ⟨l[k].does,l[k].rel,u⟩).flatMap wT
 | [],k,h=>by simp at h
 |i::l,0,_=>rfl
 |i::l,k+1,h=>by
  have ih:=EX u l k (by simpa using h);rw [List.flatMap_cons,List.set_append_right _ _ (by show 3≤_;omega),show (k+1)*3+2-(wT i).length=k*3+2 by show (k+1)*3+2-3=_;omega,ih,List.set_cons_succ,List.flatMap_cons]
  rfl
theorem wV (base b:Nat) (rel:Qx) (v:Value) (l:List eH) (k:Nat) (w:World) (h:WI base w b rel v l) (hl:l.length≤100000) (hk:k<l.length):
  Calls Tryz.prog 246 #[.pointer (some ⟨b,0,none⟩),.int .i64 k] w fun e w'=>e=.returned (.tuple #[])∧kS b v w w' v∧WI base w' b rel v (lD l k):=by
 obtain ⟨g,c,e1,hc⟩:=aZ wT 3 (fun _=>rfl) h.row k l[k] (Qw hk);subst e1;have k2:w.cell? ⟨g,k*3+2,none⟩=some (.int .i64 l[k].to):=hc 2 _ (by omega) rfl;obtain ⟨c0,c1⟩:=zS h.blk;obtain ⟨cur,hblk,hge⟩:=fT h.row;have hz:=hblk.fz;have hkn:(k:Int)<(l.length:Int):=by omega
 have hgb:¬(g=b):=fun e=>by
  have hb:=h.blk;subst e;unfold ag at hblk hb;rw [hb] at hblk;simp at hblk
 have hgb':¬(b=g):=fun e=>hgb e.symm
 have HW:=ae (show (w.setCell ⟨g,k*3+2,none⟩ (.int .i64 l.length)).ownsRow base 298 3 (.slice (some ⟨g,0,none⟩) l.length c) (lD l k).length ((lD l k).flatMap wT) from by
  have:=uE h.row (k*3+2) (.int .i64 l.length);rw [CJ,wU hk,←EX];exact this)
 have HB:=ae (h.blk.other (a:=⟨g,k*3+2,none⟩) hgb' (.int .i64 l.length));have mr:=h.low;have HG:=ae hge;generalize l[k].to=t0 at*;clear h hc hblk hge;go_enter Tryz.func246,Tryz.ntmps246;go_wp2_with fail;have bl:aQ (fun k=>k=b∨(Value.slice (some ⟨g,0,none⟩) l.length c).ownBlock=some k) w (w.setCell ⟨g,k*3+2,none⟩ (.int .i64 l.length)):=(aQ.refl _ w).set (.inr rfl) _;have BL:=ae bl;clear bl
 go_region
 all_goals (
  go_end0;exact ⟨rfl,⟨(aa BL).drew,fun _ e=> .inl e⟩,⟨(aa HB).drew,fq (aa HW),mr⟩⟩)
def eu (n:Nat) (r:Qx) (each:eH):List eH:=[⟨1,⟨#[]⟩,0⟩,⟨3,r,n+5⟩,each,⟨6,⟨#[]⟩,0⟩,⟨10,⟨#[]⟩,n+1⟩]
theorem CO (l:List eH) (r:Qx) (each:eH):lD (((((l++[⟨1,⟨#[]⟩,0⟩])++[⟨3,r,0⟩])++[each])++[⟨6,⟨#[]⟩,0⟩])++[⟨10,⟨#[]⟩,l.length+1⟩]) (l.length+1)=l++eu l.length r each:=by
 have e:((((l++[⟨1,⟨#[]⟩,0⟩])++[⟨3,r,0⟩])++[each])++[⟨6,⟨#[]⟩,0⟩])++[⟨10,⟨#[]⟩,l.length+1⟩]=l++[⟨1,⟨#[]⟩,0⟩,⟨3,r,0⟩,each,⟨6,⟨#[]⟩,0⟩,(⟨10,⟨#[]⟩,l.length+1⟩:eH)]:=by simp
 rw [e,wU (by simp)];unfold eu;rw [List.set_append_right _ _ (by omega),show l.length+1-l.length=1 by omega];simp
def EY (base b:Nat) (rel:Qx) (v:Value) (l:List eH) (r:Qx) (each:eH) (w:World) (e:Ending) (w':World):Prop:=∃v',e=.returned (.tuple #[])∧kS b v w w' v'∧WI base w' b rel v' (l++eu l.length r each)
theorem wW (base b:Nat) (rel:Qx) (v:Value) (l:List eH) (r:Qx) (each:eH) (w:World) (h:WI base w b rel v l) (hl:l.length≤90000):
  Calls Tryz.prog 210 #[.pointer (some ⟨b,0,none⟩),.string r,.agg #[.int .i64 each.does,.string each.rel,.int .i64 each.to]] w fun e w'=>EY base b rel v l r each w e w':=by
 have b0:=(Below.refl w.heap.size w).alloc Qv (.cells #[.int .i64 each.does,.string each.rel,.int .i64 each.to] 298);have Z0:=ae (h.below b0);have F0:=ae (kS.of_below (b:=b) (v:=v) b0);have E0:=ae (ag.new w #[.int .i64 each.does,.string each.rel,.int .i64 each.to] 298);have nz:w.heap.size≠b:=by have:=h.blk.lt;omega
 have HQ:=ae (show v.ownBlock≠some w.heap.size from fun e=>by have:=(h.row.lt _ e).2;omega);have HE:=ae (CO l r each);clear h b0;have JB:((l.length+1:Nat):Int)=(l.length:Int)+1:=by omega
 have OC:=ae JB;clear JB;go_enter Tryz.func210,Tryz.ntmps210;go_wp2_with fail;generalize w.alloc (.cells #[.int .i64 each.does,.string each.rel,.int .i64 each.to] 298)=W at*;have G0:=ae (kS.of_below (b:=b) (v:=v) (Below.refl W.heap.size W));have C1:=ae (fV base b rel _ l ⟨1,⟨#[]⟩,0⟩ W (aa Z0) (by omega));refine (aa C1).mono ?_;rintro e w1 ⟨v1,rfl,hb1,hz1⟩;have Z1:=ae hz1;have F1:=ae (kS.trans (aa G0) hb1);clear hb1 hz1 C1;have C2:=ae (fV base b rel _ (l++[⟨1,⟨#[]⟩,0⟩]) ⟨3,r,0⟩ w1 (aa Z1) (by first|omega|(simp;omega)))
 skip
 go_wp2_with fail;refine (aa C2).mono ?_;rintro e w2 ⟨v2,rfl,hb2,hz2⟩;have Z2:=ae hz2;have F2:=ae (kS.trans (aa F1) hb2);clear hb2 hz2 C2;have EB:=(aa F2).blk (aa E0) nz (aa HQ);obtain ⟨e0,e1,e2⟩:=three EB;clear EB;have C3:=ae (fV base b rel _ ((l++[⟨1,⟨#[]⟩,0⟩])++[⟨3,r,0⟩]) each w2 (aa Z2) (by first|omega|(simp;omega)))
 skip
 go_wp2_with fail;refine (aa C3).mono ?_;rintro e w3 ⟨v3,rfl,hb3,hz3⟩;have Z3:=ae hz3;have F3:=ae (kS.trans (aa F2) hb3);clear hb3 hz3 C3;clear e0 e1 e2;have C4:=ae (fV base b rel _ (((l++[⟨1,⟨#[]⟩,0⟩])++[⟨3,r,0⟩])++[each]) ⟨6,⟨#[]⟩,0⟩ w3 (aa Z3) (by first|omega|(simp;omega)))
 skip
 go_wp2_with fail;refine (aa C4).mono ?_;rintro e w4 ⟨v4,rfl,hb4,hz4⟩;have Z4:=ae hz4;have F4:=ae (kS.trans (aa F3) hb4);clear hb4 hz4 C4;have C5:=ae (fV base b rel _ ((((l++[⟨1,⟨#[]⟩,0⟩])++[⟨3,r,0⟩])++[each])++[⟨6,⟨#[]⟩,0⟩]) ⟨10,⟨#[]⟩,l.length+1⟩ w4 (aa Z4) (by first|omega|(simp;omega)))
 (dsimp only at C5;rw [aa OC] at C5)
 go_wp2_with fail;refine (aa C5).mono ?_;rintro e w5 ⟨v5,rfl,eD,OD⟩;have Z5:=ae OD;have F5:=ae (kS.trans (aa F4) eD);clear eD OD C5;have CL:=ae (wV base b rel _ _ (l.length+1) w5 (aa Z5) (by simp;omega) (by simp));rw [aa HE,aa OC] at CL;go_wp2_with fail;refine (aa CL).mono ?_;rintro e w6 ⟨rfl,kC,hz6⟩;have Z6:=ae hz6;have F6:=ae ((aa F0).trans (kS.trans (aa F5) kC));clear kC hz6 CL;go_wp2;go_end0;exact ⟨_,rfl,aa F6,aa Z6⟩
end Go.Proofs.YtlbpnlngckgcbaaGreatDoor
namespace Go.Proofs.YtlbpnlngckgcbaaGreatDoor
open Go.RowKit Go.PlainAid
end Go.Proofs.YtlbpnlngckgcbaaGreatDoor
namespace Go.Proofs.YtlbpnlngckgcbaaGreatDoor
open Go.RowKit Go.PlainAid
end Go.Proofs.YtlbpnlngckgcbaaGreatDoor
namespace Go.Proofs.YtlbpnlngckgcbaaGreatDoor
open Go.RowKit Go.PlainAid
end Go.Proofs.YtlbpnlngckgcbaaGreatDoor
