import Derived.Test.YtlbpnlngckgcbaaGreatDoorM09
set_option linter.all false
set_option maxHeartbeats 4000000
set_option maxRecDepth 100000
namespace Go.Proofs.YtlbpnlngckgcbaaGreatDoor
open Go.RowKit Go.PlainAid
def Br (T:Nat→aei) (P:Nat→Nat) (k:Nat) (gs:List Gr) (j:Nat):dM (List Gr):=if eqs (T j) (sg 44) then eY T P k gs j else if eqs (T j) (sg 93) then .ok (gs,j+1) else .error (2,j)
theorem yR (T:Nat→aei) (P:Nat→Nat) (k:Nat) (gs:List Gr) (j:Nat):eY T P (k+1) gs j=match bD T P (j+1) with
  | .error e=> .error e
  | .ok (g,m)=>Br T P k (gs++[g]) m:=by
 simp only [eY,Br]
 rfl
theorem nW (T:Nat→aei) (P:Nat→Nat) (k:Nat) (gs:List Gr) (j:Nat) (g:Gr) (m:Nat) (h:bD T P (j+1)=.ok (g,m)):eY T P (k+1) gs j=Br T P k (gs++[g]) m:=by rw [yR,h]
theorem jE (T:Nat→aei) (P:Nat→Nat) (k:Nat) (gs:List Gr) (j:Nat) (e:Nat×Nat) (h:bD T P (j+1)=.error e):eY T P (k+1) gs j=.error e:=by rw [yR,h]
structure xM (b:Nat) (s:aei) (tv:Value) (d:Nat) (kv rv pv:Value) (i:Nat) (w wr:World) (f:Bool) (j e aa:Nat) (gs:List Gr) (ga:Option Addr) (gc:Nat):Prop where
 but:But b w wr
 rs:RS wr b s tv j d e aa kv rv pv
 box:ai wr w.heap.size #[.int .i64 1,.slice ga gs.length gc,.string ⟨#[]⟩,.string ⟨#[]⟩,.int .i64 (PP s i),.int .i64 0,.slice none 0 0,.slice none 0 0] 255
 row:wr.ownsRow w.heap.size 257 4 (.slice ga gs.length gc) gs.length (gs.flatMap aJ)
 len:gs.length≤j
theorem xM.below {b:Nat} {s:aei} {tv:Value} {d:Nat} {kv rv pv:Value} {i:Nat} {w wr wr':World} {f:Bool} {j e aa:Nat} {gs:List Gr} {ga:Option Addr} {gc:Nat} (h:xM b s tv d kv rv pv i w wr f j e aa gs ga gc) (k:Below wr.heap.size wr wr'):xM b s tv d kv rv pv i w wr' f j e aa gs ga gc:=
 ⟨h.but.trans (But.of_below k),h.rs.below k,h.box.below k,ak h.row (fun g cs f _ hh=>k.block g (lt_of_some hh)),h.len⟩
theorem xM.step {b:Nat} {s:aei} {tv:Value} {d:Nat} {kv rv pv:Value} {i:Nat} {w wr wr':World} {f:Bool} {j e aa:Nat} {gs:List Gr} {ga:Option Addr} {gc:Nat} (h:xM b s tv d kv rv pv i w wr f j e aa gs ga gc) (hb:b<w.heap.size) (k:But b wr wr') {j' e' aa':Nat} (r:RS wr' b s tv j' d e' aa' kv rv pv) (hj:j≤j'):xM b s tv d kv rv pv i w wr' f j' e' aa' gs ga gc:=
 ⟨h.but.trans k,r,h.box.but k (by omega),ak h.row (fun g cs f _ hh=>k.block g (lt_of_some hh) (fun e=>by
  subst e;have:=h.rs.blk;unfold ai at this;rw [this] at hh;simp at hh)),Nat.le_trans h.len hj⟩
theorem xM.inc {b:Nat} {s:aei} {tv:Value} {d:Nat} {kv rv pv:Value} {i:Nat} {w wr:World} {f:Bool} {j e aa:Nat} {gs:List Gr} {ga:Option Addr} {gc:Nat} (h:xM b s tv d kv rv pv i w wr f j e aa gs ga gc) (hb:b<w.heap.size) (hj:Gd s (j+1)):xM b s tv d kv rv pv i w (wr.setCell ⟨b,1,none⟩ (.int .i64 ((j:Int)+1))) f (j+1) e aa gs ga gc:=
 h.step hb ((But.refl b wr).setCell 1 _) (h.rs.setI (j+1) hj) (by omega)
theorem aZ (b:Nat) (s:aei) (tv:Value) (i d a:Nat) (kv rv pv:Value) (x:aei) (w:World) (h:RS w b s tv i d 0 a kv rv pv) (y:Bool) (hy:eqs (TT s i) x=y):
  Calls Tryz.prog 187 #[.pointer (some ⟨b,0,none⟩),.string x] w fun e w'=>e=.returned (.bool y)∧Below w.heap.size w w':=
 (Px b s tv i d a kv rv pv x w h).mono fun e w' ⟨he,m,hm⟩=>⟨by rw [he,hy],by rw [hm];exact Below.drewN' m⟩
theorem ib (b:Nat) (s:aei) (tv:Value) (i d e0 a:Nat) (kv rv pv:Value) (x:aei) (w:World) (h:RS w b s tv i d e0 a kv rv pv) (he:e0≠0):
  Calls Tryz.prog 187 #[.pointer (some ⟨b,0,none⟩),.string x] w fun e w'=>e=.returned (.bool false)∧Below w.heap.size w w':=
 (Py b s tv i d e0 a kv rv pv x w h he).mono fun e w' ⟨he,m,hm⟩=>⟨he,by rw [hm];exact Below.drewN' m⟩
theorem ai.four {w:World} {g:Nat} {x y z u:Value} {T:TypeId} (h:ai w g #[x,y,z,u] T):w.cell? ⟨g,0,none⟩=some x∧w.cell? ⟨g,1,none⟩=some y∧w.cell? ⟨g,2,none⟩=some z∧w.cell? ⟨g,3,none⟩=some u:=⟨h.cell rfl,h.cell rfl,h.cell rfl,h.cell rfl⟩
theorem eO {b:Nat} {s:aei} {tv:Value} {d:Nat} {kv rv pv:Value} {i:Nat} {w w4 w5:World} {f:Bool} {j e aa:Nat} {gs:List Gr} {ga:Option Addr} {gc:Nat} {o:Obj} (L4:xM b s tv d kv rv pv i w w4 f j e aa gs ga gc) (G5:(w4.alloc o).grownBy w5 (Value.slice ga gs.length gc).ownBlock):
  But b w w5∧RS w5 b s tv j d e aa kv rv pv∧ai w5 w.heap.size #[.int .i64 1,.slice ga gs.length gc,.string ⟨#[]⟩,.string ⟨#[]⟩,.int .i64 (PP s i),.int .i64 0,.slice none 0 0,.slice none 0 0] 255:=by
 have b0:Below w4.heap.size w4 (w4.alloc o):=(Below.refl _ _).alloc aeg _;have L:=L4.below b0;refine ⟨But.grown L.but G5 (fun k hk=>(L.row.lt k hk).1),⟨(G5.block _ L.rs.blk.lt (own_ne L.row L.rs.blk (by decide))).trans L.rs.blk,ak L.rs.tok (fun g cs f _ hh=>G5.block g (lt_of_some hh) (cO L.row hh (by decide))),L.rs.gd,L.rs.fm,L.rs.sz⟩,(G5.block _ L.box.lt (own_ne L.row L.box (by decide))).trans L.box⟩
theorem fA {b:Nat} {s:aei} {tv:Value} {d:Nat} {kv rv pv:Value} {i:Nat} {w w4 w5:World} {f:Bool} {j e aa:Nat} {gs:List Gr} {ga:Option Addr} {gc:Nat} {o:Obj} (L4:xM b s tv d kv rv pv i w w4 f j e aa gs ga gc) (hlt:b<w.heap.size) (G5:(w4.alloc o).grownBy w5 (Value.slice ga gs.length gc).ownBlock) {gr:Gr} {g5 aD:Nat} (O5:w5.ownsRow w.heap.size 257 4 (.slice (some ⟨g5,0,none⟩) (gs.length+1) aD) (gs.length+1) (gs.flatMap aJ++aJ gr)) (hj:gs.length+1≤j) (f':Bool):
  xM b s tv d kv rv pv i w (w5.setCell ⟨w.heap.size,1,none⟩ (.slice (some ⟨g5,0,none⟩) (gs.length+1) aD)) f' j e aa (gs++[gr]) (some ⟨g5,0,none⟩) aD:=by
 obtain ⟨h1,h2,h3⟩:=eO L4 G5;have el:(gs++[gr]).length=gs.length+1:=by simp
 refine ⟨h1.setNew aeg _,⟨h2.blk.other (by simp;omega) _,aX h2.tok h3 (by decide) _ _,h2.gd,h2.fm,h2.sz⟩,?_,?_,by rw [el];exact hj⟩
 ·rw [el];exact h3.set 1 _
 ·rw [el,List.flatMap_append]
  simpa using aX O5 h3 (by decide) 1 (.slice (some ⟨g5,0,none⟩) (gs.length+1) aD)
theorem Tryz.infoGr:(Tryz.prog.info? 257).map (fun i=>(i.zero,i.size,i.bytes))=some (some (.agg #[.string ⟨#[]⟩,.string ⟨#[]⟩,.int .i64 0,.int .i64 0]),4,48):=by kernel_rfl
theorem xM.inc' {b:Nat} {s:aei} {tv:Value} {d:Nat} {kv rv pv:Value} {i:Nat} {w wr:World} {f:Bool} {j e aa:Nat} {gs:List Gr} {ga:Option Addr} {gc:Nat} (h:xM b s tv d kv rv pv i w wr f j e aa gs ga gc) (hb:b<w.heap.size) (hj:Gd s (j+1)) (v:Int) (hv:v=(j:Int)+1):xM b s tv d kv rv pv i w (wr.setCell ⟨b,1,none⟩ (.int .i64 v)) f (j+1) e aa gs ga gc:=by
 subst hv;exact h.inc hb hj
theorem xM.far {b:Nat} {s:aei} {tv:Value} {d:Nat} {kv rv pv:Value} {i:Nat} {w wr:World} {f:Bool} {j e aa:Nat} {gs:List Gr} {ga:Option Addr} {gc:Nat} (h:xM b s tv d kv rv pv i w wr f j e aa gs ga gc) {gb:Nat} {cs:Array Value} (G:ai wr gb cs 257) (n1:¬(b=gb)) (n2:w.heap.size<gb) (hr:(Value.slice ga gs.length gc).ownBlock≠some gb) (o:Nat) (u:Value):xM b s tv d kv rv pv i w (wr.setCell ⟨gb,o,none⟩ u) f j e aa gs ga gc:=
 ⟨h.but.setNew (by simp;omega) _,⟨h.rs.blk.other n1 _,aX h.rs.tok G (by decide) _ _,h.rs.gd,h.rs.fm,h.rs.sz⟩,h.box.other (by simp;omega) _,ownsRow_setCell_other h.row hr _,h.len⟩
theorem vS {w:World} {B:Nat} {T:TypeId} {size:Nat} {v:Value} {n:Nat} {xs:List Value} (h:w.ownsRow B T size v n xs) {p:PV}:lH B (p,v,.slice none 0 0,.slice none 0 0):=fun g hg=>by
 rcases hg with hg|hg|hg
 ·exact (h.lt g hg).1
 ·cases hg
 ·cases hg
theorem fB {w:World} {base:Nat} {e:TypeId} {size:Nat} {v:Value} {n:Nat} {xs:List Value} (h:w.ownsRow base e size v n xs):w.ownsRow 0 e size v n xs:=by
 refine ⟨h.1,?_⟩
 rcases h.2 with h|⟨g,cap,cur,h1,_,h3⟩
 ·exact .inl h
 ·exact .inr ⟨g,cap,cur,h1,Nat.zero_le _,h3⟩
theorem PT.but {base b:Nat} {w w':World} {pv:Value} {pl:List PV} {l:List PX} (h:PT base w pv pl l) (k:But b w w') {cs:Array Value} (hb:ai w b cs 252) (h1:base≤b) (h2:base≤w.heap.size):PT base w' pv pl l:=
 ⟨h.fst,ak h.row (fun g cs' f _ hh=>k.block g (lt_of_some hh) (fun e=>by
  subst e;unfold ai at hb;rw [hb] at hh;simp at hh)),fun x hx=>(h.rep x hx).frame (Fr.of_but k h1 h2) hb h.row⟩
def PE (base b:Nat) (s:aei) (tv:Value) (i d a:Nat) (kv rv pv:Value) (pl:List PV) (l:List PX) (w:World) (R:dM (List Gr)) (e:Ending) (w':World):Prop:=
 e=.returned (.int .i64 pl.length)∧∃pv' p x,Fr base b w w' pv pv'∧PT base w' pv' (pl++[p]) (l++[x])∧lH w.heap.size x∧match R with
  | .ok (gs,j)=>RS w' b s tv j d 0 a kv rv pv'∧p=⟨1,gs,em,em,PP s i,0,[],[]⟩∧i<j
  | .error (c,jj)=>c≠0∧∃j',i≤j'∧RS w' b s tv j' d c (PP s jj) kv rv pv'
def Jo (T:Nat→aei) (P:Nat→Nat) (i a:Nat) (R:dM (List Gr)) (k:Nat) (f:Bool) (j e aa:Nat) (gs:List Gr):Prop:=
 (f=true∧e=0∧a=aa∧i=j∧gs=[]∧eY T P k gs j=R)∨(f=false∧e=0∧a=aa∧i<j∧Br T P k gs j=R)∨(f=false∧e≠0∧i≤j∧∃jj,P jj=aa∧R=.error (e,jj))
theorem MJ (base b:Nat) (s:aei) (tv:Value) (i d a:Nat) (kv rv pv:Value) (pl:List PV) (l:List PX) (w:World) (h:RS w b s tv i d 0 a kv rv pv) (ht:PT base w pv pl l) (hbb:base≤b) (bF:base≤w.heap.size) (hl:pl.length≤1900) (he:eqs (TT s i) (sg 91)=true):
  Calls Tryz.prog 274 #[.pointer (some ⟨b,0,none⟩)] w (PE base b s tv i d a kv rv pv pl l w (eY (TT s) (PP s) 512 [] i)):=by
 obtain ⟨i0,hi0,hz0,hz1,hz2⟩:=info_parts Tryz.infoGr;have HI:=af hi0;have fG:=af hz0;have fH:=af hz1;have fI:=af hz2;clear hi0 hz0 hz1 hz2;generalize hR:eY (TT s) (PP s) 512 [] i=R;have HR:=af hR;have HE:=af he;have H0:=af h;have uL:=af ht;obtain ⟨g,c,e0,hi,t0,t1,t2⟩:=h.at;obtain ⟨r0,r1,r2,r3,r4,r5,r6,r7⟩:=h.blk.eight;have hz:=h.blk.fz;have hlt:=h.lt;have E0:=af e0;rw [e0] at r0;have gl:=bU t0;have m0:=World.new_ne w _ r0;have m1:=World.new_ne w _ r1;have m2:=World.new_ne w _ t1;clear h ht e0 hR he;go_enter Tryz.func274,Tryz.ntmps274;go_wp2_with fail
 go_region_held3 (fun w'=>w'.cell? ⟨b,0,none⟩=some (.slice (some ⟨g,0,none⟩) (jM s).length c)∧w'.cell? ⟨b,1,none⟩=some (.int .i64 i)∧w'.cell? ⟨g,i*3+1,none⟩=some (.int .i64 (PP s i))) (go_keep) (fail)
 rename_i hh;clear hh r0 r1 r2 r3 r4 r5 r6 r7 t0 t1 t2 m0 m1 m2 hz;have I0:=af (show xM b s tv d kv rv pv i w ((w.alloc (.cells #[.int .i64 1,.slice none 0 0,.string ⟨#[]⟩,.string ⟨#[]⟩,.int .i64 (PP s i),.int .i64 0,.slice none 0 0,.slice none 0 0] 255)).drew) true i 0 a [] none 0 from
  ⟨((But.refl b w).alloc _).drew,(ae H0).below ((Below.refl _ w).alloc aeg _).drew,(ai.new w _ _).drew,World.ownsRow_nil _ _ _ _,by simp⟩)
 go_wp2_with fail
 go_loopg [4] 512 (fun k vf wr=>∃(f:Bool) (j e aa:Nat) (gs:List Gr) (ga:Option Addr) (gc:Nat),vf=.bool f∧xM b s tv d kv rv pv i w wr f j e aa gs ga gc∧512≤k+j∧Hid (Jo (TT s) (PP s) i a R k f j e aa gs))
 case atStart=>exact ⟨true,i,0,a,[],none,0,rfl,ae I0,by omega,af (.inl ⟨rfl,rfl,rfl,rfl,rfl,ae HR⟩)⟩
 case round=>
  obtain ⟨f,j,e,aa,gs,ga,gc,rfl,hI,hk,HC⟩:=hrel;have hle:=hI.rs.gd.le;have hsz:=hI.rs.sz;have hgl:=hI.len
  rcases ae HC with ⟨rfl,rfl,rfl,hij,hgs,hc⟩|⟨rfl,rfl,rfl,hij,hc⟩|⟨rfl,he,hij3,jj,rfl,hc⟩
  ·obtain ⟨fu,rfl⟩:∃f,gk=f+1:=⟨gk-1,by omega⟩;have HJ:=af (hI.rs.gd.succ (bZ (show eqs (TT s j) (sg 91)=true from hij▸ae HE) (by decide)));have Jp:=af (show i≤j by omega);obtain ⟨r0,r1,r2,r3,r4,_⟩:=hI.rs.blk.eight;have hz:=hI.rs.blk.fz;have L1:=af (hI.inc hlt (ae HJ));clear hI HC hij hgs HR;have qc:=af hc;clear hc;go_wp2_with fail;clear r0 r1 r2 r3 r4 hz;generalize wr.setCell ⟨b,1,none⟩ (.int .i64 ((j:Int)+1))=W1 at*
   cases hn:dh (TT s (j+1))
   ·have hg0:bD (TT s) (PP s) (j+1)=.error (2,j+1):=by unfold bD bN;rw [hn];rfl
    rw [jE _ _ _ _ _ _ hg0] at qc;clear hg0;refine (jq b s tv (j+1) d a kv rv pv true _ (ae L1).rs hn).mono ?_;rintro e w2 ⟨rfl,b2,k2⟩;have L2:=af ((ae L1).step hlt b2 k2 aeg);have nX:=af (Below.refl w2.heap.size w2);have nQ:=(ae L2).box.lt;have iL:=af (show (Value.slice ga gs.length gc).ownBlock≠some (w2.heap.size+1) from fun e=>by have:=((ae L2).row.lt _ e).2;omega);clear b2 k2 L1;unfold qb;go_wp2_with fail;refine (ib b s tv (j+1) d 2 (PP s (j+1)) kv rv pv (sg 42) _ ?r1Aa (by decide)).mono ?_
    case r1Aa=>exact ((ae L2).below (by with_reducible repeat (first|exact ae nX|refine Below.drew ?_|(refine Below.setCell ?_ ?_ _;rotate_left;exact (by first|omega|(simp;omega)|simp))|(refine Below.alloc ?_ ?_ _;rotate_left;exact (by first|omega|(simp;omega)|simp))))).rs
    rintro e w3 ⟨rfl,hb3⟩;have qV:=af ((ai.new' (w2.alloc (.cells #[.string (TT s (j+1)),.int .i64 (PP s (j+1)),.bool (aT (TT s (j+1)))] 259)) #[.string (TT s (j+1)),.string ⟨#[]⟩,.int .i64 (PP s (j+1)),.int .i64 0] 257 (w2.heap.size+1) (by simp)).below hb3);have L3:=af (((ae L2).below (by with_reducible repeat (first|exact ae nX|refine Below.drew ?_|(refine Below.setCell ?_ ?_ _;rotate_left;exact (by first|omega|(simp;omega)|simp))|(refine Below.alloc ?_ ?_ _;rotate_left;exact (by first|omega|(simp;omega)|simp))))).below hb3);clear hb3 L2 nX;go_wp2_with fail;refine (ib b s tv (j+1) d 2 (PP s (j+1)) kv rv pv (sg 35) _ (ae L3).rs (by decide)).mono ?_;rintro e w4 ⟨rfl,hb4⟩;have L4:=af ((ae L3).below hb4);have ig:=af ((ae qV).below hb4);clear hb4 qV L3;obtain ⟨p0,p1,p2,p3,p4,p5,p6,p7⟩:=(ae L4).box.eight;have zp:=(ae L4).box.fz;obtain ⟨g0,g1,g2,g3⟩:=(ae ig).four;have zg:=(ae ig).fz;obtain ⟨r0,r1,r2,r3,r4,_⟩:=(ae L4).rs.blk.eight;have zr:=(ae L4).rs.blk.fz;have n1:¬(w2.heap.size+1=b):=by omega
    have n2:¬(b=w2.heap.size+1):=by omega
    have n3:¬(w.heap.size=b):=by omega
    have n4:¬(b=w.heap.size):=by omega
    have n5:¬(w.heap.size=w2.heap.size+1):=by omega
    have n6:¬(w2.heap.size+1=w.heap.size):=by omega
    have LX:=L4;clear hn;have MK:=(ae LX).len;have O4:=af (ae LX).row;have nN:=(ae LX).but.size;go_wp2_with (at_builtin;go_must (refine wpList_append_lies _ rfl _ _ 253 rfl w.heap.size 257 i0 _ 4 48 Tryz.underlying253 (ae HI) (ae fG) (ae fH) (ae fI) rfl (by decide) (.slice ga gs.length gc) gs.length (gs.flatMap aJ) rfl ?Xh ⟨w4.heap.size,0,none⟩ 1 1 (aJ ⟨TT s (j+1),PP s (j+1),0,em,0⟩) rfl rfl ?Tj ?Xi (by decide) ?h63Aa ?PG ?Tm (w4.heap.size+1) ?hHAa ?Tn))
    case Xh=>exact (ae O4).alloc _
    case Tj=>exact World.news_of_block (B:=w4.heap.size) (cs:=#[.string (TT s (j+1)),.string ⟨#[]⟩,.int .i64 (PP s (j+1)),.int .i64 0]) (t:=257) (fr:=(0,0)) (ai.new' _ _ _ _ (by simp))
    case Xi=>
     intro u hu;simp only [aJ,List.mem_cons,List.not_mem_nil,or_false] at hu
     rcases hu with rfl|rfl|rfl|rfl<;>rfl
    case h63Aa=>unfold maxLen;omega
    case PG=>omega
    case Tm=>simp at nN ⊢;omega
    case hHAa=>simp
    case Tn=>
     intro g5 aD w5 aC aj aP di;obtain ⟨bV,sW,iQ⟩:=eO (ae LX) aj;have L5:=af (fA (gr:=⟨TT s (j+1),PP s (j+1),0,em,0⟩) (ae LX) hlt aj aC (by omega) false);obtain ⟨q0,q1,q2,q3,q4,q5,q6,q7⟩:=iQ.eight;have zq:=iQ.fz;have lq:=iQ.lt;clear bV sW iQ aC aj aP p0 p1 p2 p3 p4 p5 p6 p7 zp g0 g1 g2 g3 zg r0 r1 r2 r3 r4 zr;go_wp2
     go_roundg fu
     case measure=>omega
     case rel=>
      have PC:=af (show Jo (TT s) (PP s) i a R fu false (j+1) 2 (PP s (j+1)) (gs++[⟨TT s (j+1),PP s (j+1),0,em,0⟩]) from .inr (.inr ⟨rfl,by decide,by have:=ae Jp;omega,j+1,rfl,(ae qc).symm⟩));refine ⟨false,j+1,2,PP s (j+1),gs++[⟨TT s (j+1),PP s (j+1),0,em,0⟩],some ⟨g5,0,none⟩,aD,rfl,?_,by omega,PC⟩
      with_reducible exact ae L5
   ·by_cases hl:8<(TT s (j+1)).size
    ·have hg0:bD (TT s) (PP s) (j+1)=.error (3,j+1):=by unfold bD bN;rw [hn,if_pos rfl,if_pos hl]
     rw [jE _ _ _ _ _ _ hg0] at qc;clear hg0;refine (kG b s tv (j+1) d a kv rv pv true _ (ae L1).rs hn hl).mono ?_;rintro e w2 ⟨rfl,b2,k2⟩;have L2:=af ((ae L1).step hlt b2 k2 aeg);have nX:=af (Below.refl w2.heap.size w2);have nQ:=(ae L2).box.lt;have iL:=af (show (Value.slice ga gs.length gc).ownBlock≠some (w2.heap.size+1) from fun e=>by have:=((ae L2).row.lt _ e).2;omega);clear b2 k2 L1;unfold qb;go_wp2_with fail;refine (ib b s tv (j+1) d 3 (PP s (j+1)) kv rv pv (sg 42) _ ?r1Ab (by decide)).mono ?_
     case r1Ab=>exact ((ae L2).below (by with_reducible repeat (first|exact ae nX|refine Below.drew ?_|(refine Below.setCell ?_ ?_ _;rotate_left;exact (by first|omega|(simp;omega)|simp))|(refine Below.alloc ?_ ?_ _;rotate_left;exact (by first|omega|(simp;omega)|simp))))).rs
     rintro e w3 ⟨rfl,hb3⟩;have qV:=af ((ai.new' (w2.alloc (.cells #[.string (TT s (j+1)),.int .i64 (PP s (j+1)),.bool (aT (TT s (j+1)))] 259)) #[.string (TT s (j+1)),.string ⟨#[]⟩,.int .i64 (PP s (j+1)),.int .i64 0] 257 (w2.heap.size+1) (by simp)).below hb3);have L3:=af (((ae L2).below (by with_reducible repeat (first|exact ae nX|refine Below.drew ?_|(refine Below.setCell ?_ ?_ _;rotate_left;exact (by first|omega|(simp;omega)|simp))|(refine Below.alloc ?_ ?_ _;rotate_left;exact (by first|omega|(simp;omega)|simp))))).below hb3);clear hb3 L2 nX;go_wp2_with fail;refine (ib b s tv (j+1) d 3 (PP s (j+1)) kv rv pv (sg 35) _ (ae L3).rs (by decide)).mono ?_;rintro e w4 ⟨rfl,hb4⟩;have L4:=af ((ae L3).below hb4);have ig:=af ((ae qV).below hb4);clear hb4 qV L3;obtain ⟨p0,p1,p2,p3,p4,p5,p6,p7⟩:=(ae L4).box.eight;have zp:=(ae L4).box.fz;obtain ⟨g0,g1,g2,g3⟩:=(ae ig).four;have zg:=(ae ig).fz;obtain ⟨r0,r1,r2,r3,r4,_⟩:=(ae L4).rs.blk.eight;have zr:=(ae L4).rs.blk.fz;have n1:¬(w2.heap.size+1=b):=by omega
     have n2:¬(b=w2.heap.size+1):=by omega
     have n3:¬(w.heap.size=b):=by omega
     have n4:¬(b=w.heap.size):=by omega
     have n5:¬(w.heap.size=w2.heap.size+1):=by omega
     have n6:¬(w2.heap.size+1=w.heap.size):=by omega
     have LX:=L4;clear hn;have MK:=(ae LX).len;have O4:=af (ae LX).row;have nN:=(ae LX).but.size;go_wp2_with (at_builtin;go_must (refine wpList_append_lies _ rfl _ _ 253 rfl w.heap.size 257 i0 _ 4 48 Tryz.underlying253 (ae HI) (ae fG) (ae fH) (ae fI) rfl (by decide) (.slice ga gs.length gc) gs.length (gs.flatMap aJ) rfl ?Xj ⟨w4.heap.size,0,none⟩ 1 1 (aJ ⟨TT s (j+1),PP s (j+1),0,em,0⟩) rfl rfl ?Tp ?Xk (by decide) ?h63Ab ?PH ?Tq (w4.heap.size+1) ?hHAb ?Tt))
     case Xj=>exact (ae O4).alloc _
     case Tp=>exact World.news_of_block (B:=w4.heap.size) (cs:=#[.string (TT s (j+1)),.string ⟨#[]⟩,.int .i64 (PP s (j+1)),.int .i64 0]) (t:=257) (fr:=(0,0)) (ai.new' _ _ _ _ (by simp))
     case Xk=>
      intro u hu;simp only [aJ,List.mem_cons,List.not_mem_nil,or_false] at hu
      rcases hu with rfl|rfl|rfl|rfl<;>rfl
     case h63Ab=>unfold maxLen;omega
     case PH=>omega
     case Tq=>simp at nN ⊢;omega
     case hHAb=>simp
     case Tt=>
      intro g5 aD w5 aC aj aP di;obtain ⟨bV,sW,iQ⟩:=eO (ae LX) aj;have L5:=af (fA (gr:=⟨TT s (j+1),PP s (j+1),0,em,0⟩) (ae LX) hlt aj aC (by omega) false);obtain ⟨q0,q1,q2,q3,q4,q5,q6,q7⟩:=iQ.eight;have zq:=iQ.fz;have lq:=iQ.lt;clear bV sW iQ aC aj aP p0 p1 p2 p3 p4 p5 p6 p7 zp g0 g1 g2 g3 zg r0 r1 r2 r3 r4 zr;go_wp2
      go_roundg fu
      case measure=>omega
      case rel=>
       have PC:=af (show Jo (TT s) (PP s) i a R fu false (j+1) 3 (PP s (j+1)) (gs++[⟨TT s (j+1),PP s (j+1),0,em,0⟩]) from .inr (.inr ⟨rfl,by decide,by have:=ae Jp;omega,j+1,rfl,(ae qc).symm⟩));refine ⟨false,j+1,3,PP s (j+1),gs++[⟨TT s (j+1),PP s (j+1),0,em,0⟩],some ⟨g5,0,none⟩,aD,rfl,?_,by omega,PC⟩
       with_reducible exact ae L5
    ·have hg0:bN (TT s) (j+1)=.ok ((),j+2):=by unfold bN;rw [hn,if_pos rfl,if_neg hl]
     refine (iX b s tv (j+1) d a kv rv pv _ (ae L1).rs hn (by omega)).mono ?_;rintro e w2 ⟨rfl,b2,k2⟩;have L2:=af ((ae L1).step (j':=j+2) hlt b2 k2 (by omega));have nX:=af (Below.refl w2.heap.size w2);have nQ:=(ae L2).box.lt;have iL:=af (show (Value.slice ga gs.length gc).ownBlock≠some (w2.heap.size+1) from fun e=>by have:=((ae L2).row.lt _ e).2;omega);clear b2 k2 L1 hn hl;unfold qb
     cases hst:eqs (TT s (j+2)) (sg 42)
     ·cases uQ:eqs (TT s (j+2)) (sg 35)
      ·have hg1:bD (TT s) (PP s) (j+1)=.ok (⟨TT s (j+1),PP s (j+1),0,em,0⟩,j+2):=by unfold bD;rw [hg0];simp only [hst,uQ];rfl
       rw [nW _ _ _ _ _ _ _ hg1] at qc;clear hg0 hg1;go_wp2_with fail;refine (aZ b s tv (j+2) d a kv rv pv (sg 42) _ ?r1Ac false hst).mono ?_
       case r1Ac=>exact ((ae L2).below (by with_reducible repeat (first|exact ae nX|refine Below.drew ?_|(refine Below.setCell ?_ ?_ _;rotate_left;exact (by first|omega|(simp;omega)|simp))|(refine Below.alloc ?_ ?_ _;rotate_left;exact (by first|omega|(simp;omega)|simp))))).rs
       rintro e w3 ⟨rfl,hb3⟩;have qV:=af ((ai.new' (w2.alloc (.cells #[.string (TT s (j+1)),.int .i64 (PP s (j+1)),.bool (aT (TT s (j+1)))] 259)) #[.string (TT s (j+1)),.string ⟨#[]⟩,.int .i64 (PP s (j+1)),.int .i64 0] 257 (w2.heap.size+1) (by simp)).below hb3);have L3:=af (((ae L2).below (by with_reducible repeat (first|exact ae nX|refine Below.drew ?_|(refine Below.setCell ?_ ?_ _;rotate_left;exact (by first|omega|(simp;omega)|simp))|(refine Below.alloc ?_ ?_ _;rotate_left;exact (by first|omega|(simp;omega)|simp))))).below hb3);clear hb3 L2 nX;go_wp2_with fail;refine (aZ b s tv (j+2) d a kv rv pv (sg 35) _ (ae L3).rs false uQ).mono ?_;rintro e w4 ⟨rfl,hb4⟩;have L4:=af ((ae L3).below hb4);have ig:=af ((ae qV).below hb4);clear hb4 qV L3;clear hst uQ;obtain ⟨p0,p1,p2,p3,p4,p5,p6,p7⟩:=(ae L4).box.eight;have zp:=(ae L4).box.fz;obtain ⟨g0,g1,g2,g3⟩:=(ae ig).four;have zg:=(ae ig).fz;obtain ⟨r0,r1,r2,r3,r4,_⟩:=(ae L4).rs.blk.eight;have zr:=(ae L4).rs.blk.fz;have n1:¬(w2.heap.size+1=b):=by omega
       have n2:¬(b=w2.heap.size+1):=by omega
       have n3:¬(w.heap.size=b):=by omega
       have n4:¬(b=w.heap.size):=by omega
       have n5:¬(w.heap.size=w2.heap.size+1):=by omega
       have n6:¬(w2.heap.size+1=w.heap.size):=by omega
       have LX:=L4;have MK:=(ae LX).len;have O4:=af (ae LX).row;have nN:=(ae LX).but.size;go_wp2_with (at_builtin;go_must (refine wpList_append_lies _ rfl _ _ 253 rfl w.heap.size 257 i0 _ 4 48 Tryz.underlying253 (ae HI) (ae fG) (ae fH) (ae fI) rfl (by decide) (.slice ga gs.length gc) gs.length (gs.flatMap aJ) rfl ?Xl ⟨w4.heap.size,0,none⟩ 1 1 (aJ ⟨TT s (j+1),PP s (j+1),0,em,0⟩) rfl rfl ?Tv ?Xm (by decide) ?h63Ac ?PI ?Tw (w4.heap.size+1) ?hHAc ?Tx))
       case Xl=>exact (ae O4).alloc _
       case Tv=>exact World.news_of_block (B:=w4.heap.size) (cs:=#[.string (TT s (j+1)),.string ⟨#[]⟩,.int .i64 (PP s (j+1)),.int .i64 0]) (t:=257) (fr:=(0,0)) (ai.new' _ _ _ _ (by simp))
       case Xm=>
        intro u hu;simp only [aJ,List.mem_cons,List.not_mem_nil,or_false] at hu
        rcases hu with rfl|rfl|rfl|rfl<;>rfl
       case h63Ac=>unfold maxLen;omega
       case PI=>omega
       case Tw=>simp at nN ⊢;omega
       case hHAc=>simp
       case Tx=>
        intro g5 aD w5 aC aj aP di;obtain ⟨bV,sW,iQ⟩:=eO (ae LX) aj;have L5:=af (fA (gr:=⟨TT s (j+1),PP s (j+1),0,em,0⟩) (ae LX) hlt aj aC (by omega) false);obtain ⟨q0,q1,q2,q3,q4,q5,q6,q7⟩:=iQ.eight;have zq:=iQ.fz;have lq:=iQ.lt;clear bV sW iQ aC aj aP p0 p1 p2 p3 p4 p5 p6 p7 zp g0 g1 g2 g3 zg r0 r1 r2 r3 r4 zr;go_wp2
        go_roundg fu
        case measure=>omega
        case rel=>
         have PC:=af (show Jo (TT s) (PP s) i a R fu false (j+2) 0 (a) (gs++[⟨TT s (j+1),PP s (j+1),0,em,0⟩]) from .inr (.inl ⟨rfl,rfl,rfl,by have:=ae Jp;omega,ae qc⟩));refine ⟨false,j+2,0,a,gs++[⟨TT s (j+1),PP s (j+1),0,em,0⟩],some ⟨g5,0,none⟩,aD,rfl,?_,by omega,PC⟩
         with_reducible exact ae L5
      ·have uC:=af (show Gd s (j+2+1) from (ae L2).rs.gd.succ (bZ uQ (by decide)));go_wp2_with fail;refine (aZ b s tv (j+2) d a kv rv pv (sg 42) _ ?r1Ad false hst).mono ?_
       case r1Ad=>exact ((ae L2).below (by with_reducible repeat (first|exact ae nX|refine Below.drew ?_|(refine Below.setCell ?_ ?_ _;rotate_left;exact (by first|omega|(simp;omega)|simp))|(refine Below.alloc ?_ ?_ _;rotate_left;exact (by first|omega|(simp;omega)|simp))))).rs
       rintro e w3 ⟨rfl,hb3⟩;have qV:=af ((ai.new' (w2.alloc (.cells #[.string (TT s (j+1)),.int .i64 (PP s (j+1)),.bool (aT (TT s (j+1)))] 259)) #[.string (TT s (j+1)),.string ⟨#[]⟩,.int .i64 (PP s (j+1)),.int .i64 0] 257 (w2.heap.size+1) (by simp)).below hb3);have L3:=af (((ae L2).below (by with_reducible repeat (first|exact ae nX|refine Below.drew ?_|(refine Below.setCell ?_ ?_ _;rotate_left;exact (by first|omega|(simp;omega)|simp))|(refine Below.alloc ?_ ?_ _;rotate_left;exact (by first|omega|(simp;omega)|simp))))).below hb3);clear hb3 L2 nX;go_wp2_with fail;refine (aZ b s tv (j+2) d a kv rv pv (sg 35) _ (ae L3).rs true uQ).mono ?_;rintro e w4 ⟨rfl,hb4⟩;have L4:=af ((ae L3).below hb4);have ig:=af ((ae qV).below hb4);clear hb4 qV L3;obtain ⟨p0,p1,p2,p3,p4,p5,p6,p7⟩:=(ae L4).box.eight;have zp:=(ae L4).box.fz;obtain ⟨g0,g1,g2,g3⟩:=(ae ig).four;have zg:=(ae ig).fz;obtain ⟨r0,r1,r2,r3,r4,_⟩:=(ae L4).rs.blk.eight;have zr:=(ae L4).rs.blk.fz;have n1:¬(w2.heap.size+1=b):=by omega
       have n2:¬(b=w2.heap.size+1):=by omega
       have n3:¬(w.heap.size=b):=by omega
       have n4:¬(b=w.heap.size):=by omega
       have n5:¬(w.heap.size=w2.heap.size+1):=by omega
       have n6:¬(w2.heap.size+1=w.heap.size):=by omega
       go_wp2_with fail;have M4:=af (show xM b s tv d kv rv pv i w (w4.setCell ⟨b,1,none⟩ (.int .i64 ((j:Int)+2+1))) _ (j+3) 0 a gs ga gc from (ae L4).inc' hlt (ae uC) ((j:Int)+2+1) (by omega));have N4:=af (show ai (w4.setCell ⟨b,1,none⟩ (.int .i64 ((j:Int)+2+1))) (w2.heap.size+1) #[.string (TT s (j+1)),.string ⟨#[]⟩,.int .i64 (PP s (j+1)),.int .i64 0] 257 from (ae ig).other n1 _);generalize w4.setCell ⟨b,1,none⟩ (.int .i64 ((j:Int)+2+1))=W4 at*;clear p0 p1 p2 p3 p4 p5 p6 p7 zp g0 g1 g2 g3 zg r0 r1 r2 r3 r4 zr L4 ig
       cases Dz:dh (TT s (j+3))
       ·have hg1:bD (TT s) (PP s) (j+1)=.error (2,j+3):=by unfold bD;rw [hg0];simp only [hst,uQ,bN,Dz];rfl
        rw [jE _ _ _ _ _ _ hg1] at qc;clear hg0 hg1 hst uQ;refine (jq b s tv (j+3) d a kv rv pv true _ (ae M4).rs Dz).mono ?_;rintro e w4 ⟨rfl,b4,k4⟩;have L4:=af ((ae M4).step (j':=j+3) hlt b4 k4 (by omega));have ig:=af ((ae N4).but b4 n1);have Ld:=b4.size;have ML:=(ae N4).lt;have DC:=af (Below.refl w4.heap.size w4);clear b4 k4 M4 N4;unfold qb;obtain ⟨p0,p1,p2,p3,p4,p5,p6,p7⟩:=(ae L4).box.eight;have zp:=(ae L4).box.fz;obtain ⟨g0,g1,g2,g3⟩:=(ae ig).four;have zg:=(ae ig).fz;obtain ⟨r0,r1,r2,r3,r4,_⟩:=(ae L4).rs.blk.eight;have zr:=(ae L4).rs.blk.fz;have n1:¬(w2.heap.size+1=b):=by omega
        have n2:¬(b=w2.heap.size+1):=by omega
        have n3:¬(w.heap.size=b):=by omega
        have n4:¬(b=w.heap.size):=by omega
        have n5:¬(w.heap.size=w2.heap.size+1):=by omega
        have n6:¬(w2.heap.size+1=w.heap.size):=by omega
        have lgb:=(ae ig).lt;have lpb:=(ae L4).box.lt;have lrb:=(ae L4).rs.lt;have n7:¬(w4.heap.size=w2.heap.size+1):=by omega
        have n8:¬(w2.heap.size+1=w4.heap.size):=by omega
        have n9:¬(w4.heap.size=w.heap.size):=by omega
        have n10:¬(w.heap.size=w4.heap.size):=by omega
        have n11:¬(w4.heap.size=b):=by omega
        have n12:¬(b=w4.heap.size):=by omega
        clear Dz;have LX:=af ((((ae L4).far (ae ig) n2 (by omega) (ae iL) 1 (.string (TT s (j+3)))).far ((ae ig).set 1 _) n2 (by omega) (ae iL) 3 (.int .i64 (PP s (j+3)))).below ((Below.refl _ _).alloc aeg (.cells #[.string (TT s (j+3)),.int .i64 (PP s (j+3)),.bool (aT (TT s (j+3)))] 259)));have MK:=(ae LX).len;have O4:=af (ae LX).row;have nN:=(ae LX).but.size;go_wp2_with (at_builtin;go_must (refine wpList_append_lies _ rfl _ _ 253 rfl w.heap.size 257 i0 _ 4 48 Tryz.underlying253 (ae HI) (ae fG) (ae fH) (ae fI) rfl (by decide) (.slice ga gs.length gc) gs.length (gs.flatMap aJ) rfl ?Xn ⟨w4.heap.size+1,0,none⟩ 1 1 (aJ ⟨TT s (j+1),PP s (j+1),2,TT s (j+3),PP s (j+3)⟩) rfl rfl ?Tz ?Xo (by decide) ?h63Ae ?PK ?TA (w4.heap.size+1+1) ?hHAe ?TC))
        case Xn=>exact (ae O4).alloc _
        case Tz=>exact World.news_of_block (B:=w4.heap.size+1) (cs:=#[.string (TT s (j+1)),.string (TT s (j+3)),.int .i64 (PP s (j+1)),.int .i64 (PP s (j+3))]) (t:=257) (fr:=(0,0)) (ai.new' _ _ _ _ (by simp))
        case Xo=>
         intro u hu;simp only [aJ,List.mem_cons,List.not_mem_nil,or_false] at hu
         rcases hu with rfl|rfl|rfl|rfl<;>rfl
        case h63Ae=>unfold maxLen;omega
        case PK=>omega
        case TA=>simp at nN ⊢;omega
        case hHAe=>simp
        case TC=>
         intro g5 aD w5 aC aj aP di;obtain ⟨bV,sW,iQ⟩:=eO (ae LX) aj;have L5:=af (fA (gr:=⟨TT s (j+1),PP s (j+1),2,TT s (j+3),PP s (j+3)⟩) (ae LX) hlt aj aC (by omega) false);obtain ⟨q0,q1,q2,q3,q4,q5,q6,q7⟩:=iQ.eight;have zq:=iQ.fz;have lq:=iQ.lt;clear bV sW iQ aC aj aP p0 p1 p2 p3 p4 p5 p6 p7 zp g0 g1 g2 g3 zg r0 r1 r2 r3 r4 zr;go_wp2
         go_roundg fu
         case measure=>omega
         case rel=>
          have PC:=af (show Jo (TT s) (PP s) i a R fu false (j+3) 2 (PP s (j+3)) (gs++[⟨TT s (j+1),PP s (j+1),2,TT s (j+3),PP s (j+3)⟩]) from .inr (.inr ⟨rfl,by decide,by have:=ae Jp;omega,j+3,rfl,(ae qc).symm⟩));refine ⟨false,j+3,2,PP s (j+3),gs++[⟨TT s (j+1),PP s (j+1),2,TT s (j+3),PP s (j+3)⟩],some ⟨g5,0,none⟩,aD,rfl,?_,by omega,PC⟩
          with_reducible exact ae L5
       ·by_cases Bf:8<(TT s (j+3)).size
        ·have hg1:bD (TT s) (PP s) (j+1)=.error (3,j+3):=by unfold bD;rw [hg0];simp only [hst,uQ,bN,Dz,Bf];rfl
         rw [jE _ _ _ _ _ _ hg1] at qc;clear hg0 hg1 hst uQ;refine (kG b s tv (j+3) d a kv rv pv true _ (ae M4).rs Dz Bf).mono ?_;rintro e w4 ⟨rfl,b4,k4⟩;have L4:=af ((ae M4).step (j':=j+3) hlt b4 k4 (by omega));have ig:=af ((ae N4).but b4 n1);have Ld:=b4.size;have ML:=(ae N4).lt;have DC:=af (Below.refl w4.heap.size w4);clear b4 k4 M4 N4;unfold qb;obtain ⟨p0,p1,p2,p3,p4,p5,p6,p7⟩:=(ae L4).box.eight;have zp:=(ae L4).box.fz;obtain ⟨g0,g1,g2,g3⟩:=(ae ig).four;have zg:=(ae ig).fz;obtain ⟨r0,r1,r2,r3,r4,_⟩:=(ae L4).rs.blk.eight;have zr:=(ae L4).rs.blk.fz;have n1:¬(w2.heap.size+1=b):=by omega
         have n2:¬(b=w2.heap.size+1):=by omega
         have n3:¬(w.heap.size=b):=by omega
         have n4:¬(b=w.heap.size):=by omega
         have n5:¬(w.heap.size=w2.heap.size+1):=by omega
         have n6:¬(w2.heap.size+1=w.heap.size):=by omega
         have lgb:=(ae ig).lt;have lpb:=(ae L4).box.lt;have lrb:=(ae L4).rs.lt;have n7:¬(w4.heap.size=w2.heap.size+1):=by omega
         have n8:¬(w2.heap.size+1=w4.heap.size):=by omega
         have n9:¬(w4.heap.size=w.heap.size):=by omega
         have n10:¬(w.heap.size=w4.heap.size):=by omega
         have n11:¬(w4.heap.size=b):=by omega
         have n12:¬(b=w4.heap.size):=by omega
         clear Dz;have LX:=af ((((ae L4).far (ae ig) n2 (by omega) (ae iL) 1 (.string (TT s (j+3)))).far ((ae ig).set 1 _) n2 (by omega) (ae iL) 3 (.int .i64 (PP s (j+3)))).below ((Below.refl _ _).alloc aeg (.cells #[.string (TT s (j+3)),.int .i64 (PP s (j+3)),.bool (aT (TT s (j+3)))] 259)));have MK:=(ae LX).len;have O4:=af (ae LX).row;have nN:=(ae LX).but.size;go_wp2_with (at_builtin;go_must (refine wpList_append_lies _ rfl _ _ 253 rfl w.heap.size 257 i0 _ 4 48 Tryz.underlying253 (ae HI) (ae fG) (ae fH) (ae fI) rfl (by decide) (.slice ga gs.length gc) gs.length (gs.flatMap aJ) rfl ?Xp ⟨w4.heap.size+1,0,none⟩ 1 1 (aJ ⟨TT s (j+1),PP s (j+1),2,TT s (j+3),PP s (j+3)⟩) rfl rfl ?TD ?Xq (by decide) ?h63Af ?PL ?TE (w4.heap.size+1+1) ?hHAf ?TF))
         case Xp=>exact (ae O4).alloc _
         case TD=>exact World.news_of_block (B:=w4.heap.size+1) (cs:=#[.string (TT s (j+1)),.string (TT s (j+3)),.int .i64 (PP s (j+1)),.int .i64 (PP s (j+3))]) (t:=257) (fr:=(0,0)) (ai.new' _ _ _ _ (by simp))
         case Xq=>
          intro u hu;simp only [aJ,List.mem_cons,List.not_mem_nil,or_false] at hu
          rcases hu with rfl|rfl|rfl|rfl<;>rfl
         case h63Af=>unfold maxLen;omega
         case PL=>omega
         case TE=>simp at nN ⊢;omega
         case hHAf=>simp
         case TF=>
          intro g5 aD w5 aC aj aP di;obtain ⟨bV,sW,iQ⟩:=eO (ae LX) aj;have L5:=af (fA (gr:=⟨TT s (j+1),PP s (j+1),2,TT s (j+3),PP s (j+3)⟩) (ae LX) hlt aj aC (by omega) false);obtain ⟨q0,q1,q2,q3,q4,q5,q6,q7⟩:=iQ.eight;have zq:=iQ.fz;have lq:=iQ.lt;clear bV sW iQ aC aj aP p0 p1 p2 p3 p4 p5 p6 p7 zp g0 g1 g2 g3 zg r0 r1 r2 r3 r4 zr;go_wp2
          go_roundg fu
          case measure=>omega
          case rel=>
           have PC:=af (show Jo (TT s) (PP s) i a R fu false (j+3) 3 (PP s (j+3)) (gs++[⟨TT s (j+1),PP s (j+1),2,TT s (j+3),PP s (j+3)⟩]) from .inr (.inr ⟨rfl,by decide,by have:=ae Jp;omega,j+3,rfl,(ae qc).symm⟩));refine ⟨false,j+3,3,PP s (j+3),gs++[⟨TT s (j+1),PP s (j+1),2,TT s (j+3),PP s (j+3)⟩],some ⟨g5,0,none⟩,aD,rfl,?_,by omega,PC⟩
           with_reducible exact ae L5
        ·have hg1:bD (TT s) (PP s) (j+1)=.ok (⟨TT s (j+1),PP s (j+1),2,TT s (j+3),PP s (j+3)⟩,j+4):=by unfold bD;rw [hg0];simp only [hst,uQ,bN,Dz,Bf];rfl
         rw [nW _ _ _ _ _ _ _ hg1] at qc;clear hg0 hg1 hst uQ;refine (iX b s tv (j+3) d a kv rv pv _ (ae M4).rs Dz (by omega)).mono ?_;rintro e w4 ⟨rfl,b4,k4⟩;have L4:=af ((ae M4).step (j':=j+4) hlt b4 k4 (by omega));have ig:=af ((ae N4).but b4 n1);have Ld:=b4.size;have ML:=(ae N4).lt;have DC:=af (Below.refl w4.heap.size w4);clear b4 k4 M4 N4;unfold qb;obtain ⟨p0,p1,p2,p3,p4,p5,p6,p7⟩:=(ae L4).box.eight;have zp:=(ae L4).box.fz;obtain ⟨g0,g1,g2,g3⟩:=(ae ig).four;have zg:=(ae ig).fz;obtain ⟨r0,r1,r2,r3,r4,_⟩:=(ae L4).rs.blk.eight;have zr:=(ae L4).rs.blk.fz;have n1:¬(w2.heap.size+1=b):=by omega
         have n2:¬(b=w2.heap.size+1):=by omega
         have n3:¬(w.heap.size=b):=by omega
         have n4:¬(b=w.heap.size):=by omega
         have n5:¬(w.heap.size=w2.heap.size+1):=by omega
         have n6:¬(w2.heap.size+1=w.heap.size):=by omega
         have lgb:=(ae ig).lt;have lpb:=(ae L4).box.lt;have lrb:=(ae L4).rs.lt;have n7:¬(w4.heap.size=w2.heap.size+1):=by omega
         have n8:¬(w2.heap.size+1=w4.heap.size):=by omega
         have n9:¬(w4.heap.size=w.heap.size):=by omega
         have n10:¬(w.heap.size=w4.heap.size):=by omega
         have n11:¬(w4.heap.size=b):=by omega
         have n12:¬(b=w4.heap.size):=by omega
         clear Dz;have LX:=af ((((ae L4).far (ae ig) n2 (by omega) (ae iL) 1 (.string (TT s (j+3)))).far ((ae ig).set 1 _) n2 (by omega) (ae iL) 3 (.int .i64 (PP s (j+3)))).below ((Below.refl _ _).alloc aeg (.cells #[.string (TT s (j+3)),.int .i64 (PP s (j+3)),.bool (aT (TT s (j+3)))] 259)));have MK:=(ae LX).len;have O4:=af (ae LX).row;have nN:=(ae LX).but.size;go_wp2_with (at_builtin;go_must (refine wpList_append_lies _ rfl _ _ 253 rfl w.heap.size 257 i0 _ 4 48 Tryz.underlying253 (ae HI) (ae fG) (ae fH) (ae fI) rfl (by decide) (.slice ga gs.length gc) gs.length (gs.flatMap aJ) rfl ?Xr ⟨w4.heap.size+1,0,none⟩ 1 1 (aJ ⟨TT s (j+1),PP s (j+1),2,TT s (j+3),PP s (j+3)⟩) rfl rfl ?TG ?Xt (by decide) ?h63Ag ?PM ?TH (w4.heap.size+1+1) ?hHAg ?TI))
         case Xr=>exact (ae O4).alloc _
         case TG=>exact World.news_of_block (B:=w4.heap.size+1) (cs:=#[.string (TT s (j+1)),.string (TT s (j+3)),.int .i64 (PP s (j+1)),.int .i64 (PP s (j+3))]) (t:=257) (fr:=(0,0)) (ai.new' _ _ _ _ (by simp))
         case Xt=>
          intro u hu;simp only [aJ,List.mem_cons,List.not_mem_nil,or_false] at hu
          rcases hu with rfl|rfl|rfl|rfl<;>rfl
         case h63Ag=>unfold maxLen;omega
         case PM=>omega
         case TH=>simp at nN ⊢;omega
         case hHAg=>simp
         case TI=>
          intro g5 aD w5 aC aj aP di;obtain ⟨bV,sW,iQ⟩:=eO (ae LX) aj;have L5:=af (fA (gr:=⟨TT s (j+1),PP s (j+1),2,TT s (j+3),PP s (j+3)⟩) (ae LX) hlt aj aC (by omega) false);obtain ⟨q0,q1,q2,q3,q4,q5,q6,q7⟩:=iQ.eight;have zq:=iQ.fz;have lq:=iQ.lt;clear bV sW iQ aC aj aP p0 p1 p2 p3 p4 p5 p6 p7 zp g0 g1 g2 g3 zg r0 r1 r2 r3 r4 zr;go_wp2
          go_roundg fu
          case measure=>omega
          case rel=>
           have PC:=af (show Jo (TT s) (PP s) i a R fu false (j+4) 0 (a) (gs++[⟨TT s (j+1),PP s (j+1),2,TT s (j+3),PP s (j+3)⟩]) from .inr (.inl ⟨rfl,rfl,rfl,by have:=ae Jp;omega,ae qc⟩));refine ⟨false,j+4,0,a,gs++[⟨TT s (j+1),PP s (j+1),2,TT s (j+3),PP s (j+3)⟩],some ⟨g5,0,none⟩,aD,rfl,?_,by omega,PC⟩
           with_reducible exact ae L5
     ·have uQ:eqs (TT s (j+2)) (sg 35)=false:=by
       unfold eqs at hst ⊢;rw [beq_iff_eq] at hst;rw [hst];decide
      have hg1:bD (TT s) (PP s) (j+1)=.ok (⟨TT s (j+1),PP s (j+1),1,em,0⟩,j+3):=by unfold bD;rw [hg0];simp only [hst,if_true]
      rw [nW _ _ _ _ _ _ _ hg1] at qc;have uC:=af (show Gd s (j+2+1) from (ae L2).rs.gd.succ (bZ hst (by decide)));clear hg0 hg1;go_wp2_with fail;refine (aZ b s tv (j+2) d a kv rv pv (sg 42) _ ?r1Ah true hst).mono ?_
      case r1Ah=>exact ((ae L2).below (by with_reducible repeat (first|exact ae nX|refine Below.drew ?_|(refine Below.setCell ?_ ?_ _;rotate_left;exact (by first|omega|(simp;omega)|simp))|(refine Below.alloc ?_ ?_ _;rotate_left;exact (by first|omega|(simp;omega)|simp))))).rs
      rintro e w3 ⟨rfl,hb3⟩;have qV:=af ((ai.new' (w2.alloc (.cells #[.string (TT s (j+1)),.int .i64 (PP s (j+1)),.bool (aT (TT s (j+1)))] 259)) #[.string (TT s (j+1)),.string ⟨#[]⟩,.int .i64 (PP s (j+1)),.int .i64 0] 257 (w2.heap.size+1) (by simp)).below hb3);have L3:=af (((ae L2).below (by with_reducible repeat (first|exact ae nX|refine Below.drew ?_|(refine Below.setCell ?_ ?_ _;rotate_left;exact (by first|omega|(simp;omega)|simp))|(refine Below.alloc ?_ ?_ _;rotate_left;exact (by first|omega|(simp;omega)|simp))))).below hb3);clear hb3 L2 nX;go_wp2_with fail;refine (aZ b s tv (j+2) d a kv rv pv (sg 35) _ (ae L3).rs false uQ).mono ?_;rintro e w4 ⟨rfl,hb4⟩;have L4:=af ((ae L3).below hb4);have ig:=af ((ae qV).below hb4);clear hb4 qV L3;clear hst uQ;obtain ⟨p0,p1,p2,p3,p4,p5,p6,p7⟩:=(ae L4).box.eight;have zp:=(ae L4).box.fz;obtain ⟨g0,g1,g2,g3⟩:=(ae ig).four;have zg:=(ae ig).fz;obtain ⟨r0,r1,r2,r3,r4,_⟩:=(ae L4).rs.blk.eight;have zr:=(ae L4).rs.blk.fz;have n1:¬(w2.heap.size+1=b):=by omega
      have n2:¬(b=w2.heap.size+1):=by omega
      have n3:¬(w.heap.size=b):=by omega
      have n4:¬(b=w.heap.size):=by omega
      have n5:¬(w.heap.size=w2.heap.size+1):=by omega
      have n6:¬(w2.heap.size+1=w.heap.size):=by omega
      have LX:=af ((xM.inc' (ae L4) hlt (ae uC) ((j:Int)+2+1) (by omega)).far ((ae ig).other n1 _) n2 (by omega) (ae iL) 1 (.string ⟨#[42]⟩));have MK:=(ae LX).len;have O4:=af (ae LX).row;have nN:=(ae LX).but.size;go_wp2_with (at_builtin;go_must (refine wpList_append_lies _ rfl _ _ 253 rfl w.heap.size 257 i0 _ 4 48 Tryz.underlying253 (ae HI) (ae fG) (ae fH) (ae fI) rfl (by decide) (.slice ga gs.length gc) gs.length (gs.flatMap aJ) rfl ?Xu ⟨w4.heap.size,0,none⟩ 1 1 (aJ ⟨TT s (j+1),PP s (j+1),1,em,0⟩) rfl rfl ?TK ?Xv (by decide) ?h63Ah ?PN ?TL (w4.heap.size+1) ?hHAh ?TM))
      case Xu=>exact (ae O4).alloc _
      case TK=>exact World.news_of_block (B:=w4.heap.size) (cs:=#[.string (TT s (j+1)),.string ⟨#[42]⟩,.int .i64 (PP s (j+1)),.int .i64 0]) (t:=257) (fr:=(0,0)) (ai.new' _ _ _ _ (by simp))
      case Xv=>
       intro u hu;simp only [aJ,List.mem_cons,List.not_mem_nil,or_false] at hu
       rcases hu with rfl|rfl|rfl|rfl<;>rfl
      case h63Ah=>unfold maxLen;omega
      case PN=>omega
      case TL=>simp at nN ⊢;omega
      case hHAh=>simp
      case TM=>
       intro g5 aD w5 aC aj aP di;obtain ⟨bV,sW,iQ⟩:=eO (ae LX) aj;have L5:=af (fA (gr:=⟨TT s (j+1),PP s (j+1),1,em,0⟩) (ae LX) hlt aj aC (by omega) false);obtain ⟨q0,q1,q2,q3,q4,q5,q6,q7⟩:=iQ.eight;have zq:=iQ.fz;have lq:=iQ.lt;clear bV sW iQ aC aj aP p0 p1 p2 p3 p4 p5 p6 p7 zp g0 g1 g2 g3 zg r0 r1 r2 r3 r4 zr;go_wp2
       go_roundg fu
       case measure=>omega
       case rel=>
        have PC:=af (show Jo (TT s) (PP s) i a R fu false (j+3) 0 (a) (gs++[⟨TT s (j+1),PP s (j+1),1,em,0⟩]) from .inr (.inl ⟨rfl,rfl,rfl,by have:=ae Jp;omega,ae qc⟩));refine ⟨false,j+3,0,a,gs++[⟨TT s (j+1),PP s (j+1),1,em,0⟩],some ⟨g5,0,none⟩,aD,rfl,?_,by omega,PC⟩
        with_reducible exact ae L5
  ·cases Xw:eqs (TT s j) (sg 44)
   ·have ED:=af hI;clear hI HC HR;unfold Br at hc;rw [Xw] at hc;simp only [Bool.false_eq_true,if_false] at hc;go_wp2_with fail;refine (aZ b s tv j d a kv rv pv (sg 44) _ (ae ED).rs false Xw).mono ?_;rintro e w3 ⟨rfl,hb3⟩;have L3:=af ((ae ED).below hb3);clear hb3 ED Xw
    cases Zh:eqs (TT s j) (sg 93)
    ·rw [Zh] at hc;have qc:=af (show R=.error (2,j) from hc.symm);clear hc;go_wp2_with fail;refine (Dw b s tv j d a kv rv pv (sg 93) _ (ae L3).rs Zh).mono ?_;rintro e w4 ⟨rfl,b4,k4⟩;have L4:=af ((ae L3).step hlt b4 k4 aeg);clear b4 k4 L3 Zh;have T4:=af ((ae uL).but (ae L4).but (ae H0).blk hbb bF);have X4:=af (show nD w4 (⟨1,gs,em,em,PP s i,0,[],[]⟩,.slice ga gs.length gc,.slice none 0 0,.slice none 0 0) from ⟨fB (ae L4).row,World.ownsRow_nil _ _ _ _,World.ownsRow_nil _ _ _ _⟩);obtain ⟨p0,p1,p2,p3,p4,p5,p6,p7⟩:=(ae L4).box.eight;have hb4:base≤w4.heap.size:=Nat.le_trans bF (ae L4).but.size;go_wp2_with fail;refine (fV base b s tv (j) d 2 (PP s j) kv rv pv pl l ⟨1,gs,em,em,PP s i,0,[],[]⟩ ga gc none 0 none 0 w4 (ae L4).rs (ae T4) (ae X4) (by omega) hb4 hbb).mono ?_;rintro e' w6 ⟨pv',rfl,fr,pg,pu⟩;have F6:=af fr;have R6:=af pg;have P6:=af pu;clear fr pg pu p0 p1 p2 p3 p4 p5 p6 p7;go_wp2;go_ret;rw [ae qc];exact ⟨rfl,pv',_,_,(Fr.of_but (ae L4).but hbb bF).trans (ae F6),ae P6,vS (ae L4).row,by decide,j,by omega,ae R6⟩
    ·rw [Zh] at hc;have qc:=af (show R=.ok (gs,j+1) from hc.symm);clear hc;go_wp2_with fail;refine (yP b s tv j d a kv rv pv (sg 93) _ (ae L3).rs Zh (by decide)).mono ?_;rintro e w4 ⟨rfl,b4,k4⟩;have L4:=af ((ae L3).step hlt b4 k4 (by omega));clear b4 k4 L3 Zh;have T4:=af ((ae uL).but (ae L4).but (ae H0).blk hbb bF);have X4:=af (show nD w4 (⟨1,gs,em,em,PP s i,0,[],[]⟩,.slice ga gs.length gc,.slice none 0 0,.slice none 0 0) from ⟨fB (ae L4).row,World.ownsRow_nil _ _ _ _,World.ownsRow_nil _ _ _ _⟩);obtain ⟨p0,p1,p2,p3,p4,p5,p6,p7⟩:=(ae L4).box.eight;have hb4:base≤w4.heap.size:=Nat.le_trans bF (ae L4).but.size;go_wp2_with fail;refine (fV base b s tv (j+1) d 0 (a) kv rv pv pl l ⟨1,gs,em,em,PP s i,0,[],[]⟩ ga gc none 0 none 0 w4 (ae L4).rs (ae T4) (ae X4) (by omega) hb4 hbb).mono ?_;rintro e' w6 ⟨pv',rfl,fr,pg,pu⟩;have F6:=af fr;have R6:=af pg;have P6:=af pu;clear fr pg pu p0 p1 p2 p3 p4 p5 p6 p7;go_wp2;go_ret;rw [ae qc];exact ⟨rfl,pv',_,_,(Fr.of_but (ae L4).but hbb bF).trans (ae F6),ae P6,vS (ae L4).row,ae R6,rfl,by omega⟩
   ·obtain ⟨fu,rfl⟩:∃f,gk=f+1:=⟨gk-1,by omega⟩;have HJ:=af (hI.rs.gd.succ (bZ Xw (by decide)));have Jp:=af (show i≤j by omega);unfold Br at hc;rw [Xw] at hc;simp only [if_true] at hc;have qc:=af hc;have ED:=af hI;clear hI HC HR hc;go_wp2_with fail;refine (aZ b s tv j d a kv rv pv (sg 44) _ (ae ED).rs true Xw).mono ?_;rintro e wx ⟨rfl,EC⟩;have LZ:=af ((ae ED).below EC);clear EC ED Xw;obtain ⟨r0,r1,r2,r3,r4,_⟩:=(ae LZ).rs.blk.eight;have hz:=(ae LZ).rs.blk.fz;have L1:=af ((ae LZ).inc hlt (ae HJ));go_wp2_with fail;clear r0 r1 r2 r3 r4 hz LZ;generalize wx.setCell ⟨b,1,none⟩ (.int .i64 ((j:Int)+1))=W1 at*
    cases hn:dh (TT s (j+1))
    ·have hg0:bD (TT s) (PP s) (j+1)=.error (2,j+1):=by unfold bD bN;rw [hn];rfl
     rw [jE _ _ _ _ _ _ hg0] at qc;clear hg0;refine (jq b s tv (j+1) d a kv rv pv true _ (ae L1).rs hn).mono ?_;rintro e w2 ⟨rfl,b2,k2⟩;have L2:=af ((ae L1).step hlt b2 k2 aeg);have nX:=af (Below.refl w2.heap.size w2);have nQ:=(ae L2).box.lt;have iL:=af (show (Value.slice ga gs.length gc).ownBlock≠some (w2.heap.size+1) from fun e=>by have:=((ae L2).row.lt _ e).2;omega);clear b2 k2 L1;unfold qb;go_wp2_with fail;refine (ib b s tv (j+1) d 2 (PP s (j+1)) kv rv pv (sg 42) _ ?r1Ba (by decide)).mono ?_
     case r1Ba=>exact ((ae L2).below (by with_reducible repeat (first|exact ae nX|refine Below.drew ?_|(refine Below.setCell ?_ ?_ _;rotate_left;exact (by first|omega|(simp;omega)|simp))|(refine Below.alloc ?_ ?_ _;rotate_left;exact (by first|omega|(simp;omega)|simp))))).rs
     rintro e w3 ⟨rfl,hb3⟩;have qV:=af ((ai.new' (w2.alloc (.cells #[.string (TT s (j+1)),.int .i64 (PP s (j+1)),.bool (aT (TT s (j+1)))] 259)) #[.string (TT s (j+1)),.string ⟨#[]⟩,.int .i64 (PP s (j+1)),.int .i64 0] 257 (w2.heap.size+1) (by simp)).below hb3);have L3:=af (((ae L2).below (by with_reducible repeat (first|exact ae nX|refine Below.drew ?_|(refine Below.setCell ?_ ?_ _;rotate_left;exact (by first|omega|(simp;omega)|simp))|(refine Below.alloc ?_ ?_ _;rotate_left;exact (by first|omega|(simp;omega)|simp))))).below hb3);clear hb3 L2 nX;go_wp2_with fail;refine (ib b s tv (j+1) d 2 (PP s (j+1)) kv rv pv (sg 35) _ (ae L3).rs (by decide)).mono ?_;rintro e w4 ⟨rfl,hb4⟩;have L4:=af ((ae L3).below hb4);have ig:=af ((ae qV).below hb4);clear hb4 qV L3;obtain ⟨p0,p1,p2,p3,p4,p5,p6,p7⟩:=(ae L4).box.eight;have zp:=(ae L4).box.fz;obtain ⟨g0,g1,g2,g3⟩:=(ae ig).four;have zg:=(ae ig).fz;obtain ⟨r0,r1,r2,r3,r4,_⟩:=(ae L4).rs.blk.eight;have zr:=(ae L4).rs.blk.fz;have n1:¬(w2.heap.size+1=b):=by omega
     have n2:¬(b=w2.heap.size+1):=by omega
     have n3:¬(w.heap.size=b):=by omega
     have n4:¬(b=w.heap.size):=by omega
     have n5:¬(w.heap.size=w2.heap.size+1):=by omega
     have n6:¬(w2.heap.size+1=w.heap.size):=by omega
     have LX:=L4;clear hn;have MK:=(ae LX).len;have O4:=af (ae LX).row;have nN:=(ae LX).but.size;go_wp2_with (at_builtin;go_must (refine wpList_append_lies _ rfl _ _ 253 rfl w.heap.size 257 i0 _ 4 48 Tryz.underlying253 (ae HI) (ae fG) (ae fH) (ae fI) rfl (by decide) (.slice ga gs.length gc) gs.length (gs.flatMap aJ) rfl ?Xx ⟨w4.heap.size,0,none⟩ 1 1 (aJ ⟨TT s (j+1),PP s (j+1),0,em,0⟩) rfl rfl ?TN ?Xy (by decide) ?h63Ba ?PO ?TP (w4.heap.size+1) ?hHBa ?TS))
     case Xx=>exact (ae O4).alloc _
     case TN=>exact World.news_of_block (B:=w4.heap.size) (cs:=#[.string (TT s (j+1)),.string ⟨#[]⟩,.int .i64 (PP s (j+1)),.int .i64 0]) (t:=257) (fr:=(0,0)) (ai.new' _ _ _ _ (by simp))
     case Xy=>
      intro u hu;simp only [aJ,List.mem_cons,List.not_mem_nil,or_false] at hu
      rcases hu with rfl|rfl|rfl|rfl<;>rfl
     case h63Ba=>unfold maxLen;omega
     case PO=>omega
     case TP=>simp at nN ⊢;omega
     case hHBa=>simp
     case TS=>
      intro g5 aD w5 aC aj aP di;obtain ⟨bV,sW,iQ⟩:=eO (ae LX) aj;have L5:=af (fA (gr:=⟨TT s (j+1),PP s (j+1),0,em,0⟩) (ae LX) hlt aj aC (by omega) false);obtain ⟨q0,q1,q2,q3,q4,q5,q6,q7⟩:=iQ.eight;have zq:=iQ.fz;have lq:=iQ.lt;clear bV sW iQ aC aj aP p0 p1 p2 p3 p4 p5 p6 p7 zp g0 g1 g2 g3 zg r0 r1 r2 r3 r4 zr;go_wp2
      go_roundg fu
      case measure=>omega
      case rel=>
       have PC:=af (show Jo (TT s) (PP s) i a R fu false (j+1) 2 (PP s (j+1)) (gs++[⟨TT s (j+1),PP s (j+1),0,em,0⟩]) from .inr (.inr ⟨rfl,by decide,by have:=ae Jp;omega,j+1,rfl,(ae qc).symm⟩));refine ⟨false,j+1,2,PP s (j+1),gs++[⟨TT s (j+1),PP s (j+1),0,em,0⟩],some ⟨g5,0,none⟩,aD,rfl,?_,by omega,PC⟩
       with_reducible exact ae L5
    ·by_cases hl:8<(TT s (j+1)).size
     ·have hg0:bD (TT s) (PP s) (j+1)=.error (3,j+1):=by unfold bD bN;rw [hn,if_pos rfl,if_pos hl]
      rw [jE _ _ _ _ _ _ hg0] at qc;clear hg0;refine (kG b s tv (j+1) d a kv rv pv true _ (ae L1).rs hn hl).mono ?_;rintro e w2 ⟨rfl,b2,k2⟩;have L2:=af ((ae L1).step hlt b2 k2 aeg);have nX:=af (Below.refl w2.heap.size w2);have nQ:=(ae L2).box.lt;have iL:=af (show (Value.slice ga gs.length gc).ownBlock≠some (w2.heap.size+1) from fun e=>by have:=((ae L2).row.lt _ e).2;omega);clear b2 k2 L1;unfold qb;go_wp2_with fail;refine (ib b s tv (j+1) d 3 (PP s (j+1)) kv rv pv (sg 42) _ ?r1Bb (by decide)).mono ?_
      case r1Bb=>exact ((ae L2).below (by with_reducible repeat (first|exact ae nX|refine Below.drew ?_|(refine Below.setCell ?_ ?_ _;rotate_left;exact (by first|omega|(simp;omega)|simp))|(refine Below.alloc ?_ ?_ _;rotate_left;exact (by first|omega|(simp;omega)|simp))))).rs
      rintro e w3 ⟨rfl,hb3⟩;have qV:=af ((ai.new' (w2.alloc (.cells #[.string (TT s (j+1)),.int .i64 (PP s (j+1)),.bool (aT (TT s (j+1)))] 259)) #[.string (TT s (j+1)),.string ⟨#[]⟩,.int .i64 (PP s (j+1)),.int .i64 0] 257 (w2.heap.size+1) (by simp)).below hb3);have L3:=af (((ae L2).below (by with_reducible repeat (first|exact ae nX|refine Below.drew ?_|(refine Below.setCell ?_ ?_ _;rotate_left;exact (by first|omega|(simp;omega)|simp))|(refine Below.alloc ?_ ?_ _;rotate_left;exact (by first|omega|(simp;omega)|simp))))).below hb3);clear hb3 L2 nX;go_wp2_with fail;refine (ib b s tv (j+1) d 3 (PP s (j+1)) kv rv pv (sg 35) _ (ae L3).rs (by decide)).mono ?_;rintro e w4 ⟨rfl,hb4⟩;have L4:=af ((ae L3).below hb4);have ig:=af ((ae qV).below hb4);clear hb4 qV L3;obtain ⟨p0,p1,p2,p3,p4,p5,p6,p7⟩:=(ae L4).box.eight;have zp:=(ae L4).box.fz;obtain ⟨g0,g1,g2,g3⟩:=(ae ig).four;have zg:=(ae ig).fz;obtain ⟨r0,r1,r2,r3,r4,_⟩:=(ae L4).rs.blk.eight;have zr:=(ae L4).rs.blk.fz;have n1:¬(w2.heap.size+1=b):=by omega
      have n2:¬(b=w2.heap.size+1):=by omega
      have n3:¬(w.heap.size=b):=by omega
      have n4:¬(b=w.heap.size):=by omega
      have n5:¬(w.heap.size=w2.heap.size+1):=by omega
      have n6:¬(w2.heap.size+1=w.heap.size):=by omega
      have LX:=L4;clear hn;have MK:=(ae LX).len;have O4:=af (ae LX).row;have nN:=(ae LX).but.size;go_wp2_with (at_builtin;go_must (refine wpList_append_lies _ rfl _ _ 253 rfl w.heap.size 257 i0 _ 4 48 Tryz.underlying253 (ae HI) (ae fG) (ae fH) (ae fI) rfl (by decide) (.slice ga gs.length gc) gs.length (gs.flatMap aJ) rfl ?Xz ⟨w4.heap.size,0,none⟩ 1 1 (aJ ⟨TT s (j+1),PP s (j+1),0,em,0⟩) rfl rfl ?TU ?XA (by decide) ?h63Bb ?PQ ?TV (w4.heap.size+1) ?hHBb ?TW))
      case Xz=>exact (ae O4).alloc _
      case TU=>exact World.news_of_block (B:=w4.heap.size) (cs:=#[.string (TT s (j+1)),.string ⟨#[]⟩,.int .i64 (PP s (j+1)),.int .i64 0]) (t:=257) (fr:=(0,0)) (ai.new' _ _ _ _ (by simp))
      case XA=>
       intro u hu;simp only [aJ,List.mem_cons,List.not_mem_nil,or_false] at hu
       rcases hu with rfl|rfl|rfl|rfl<;>rfl
      case h63Bb=>unfold maxLen;omega
      case PQ=>omega
      case TV=>simp at nN ⊢;omega
      case hHBb=>simp
      case TW=>
       intro g5 aD w5 aC aj aP di;obtain ⟨bV,sW,iQ⟩:=eO (ae LX) aj;have L5:=af (fA (gr:=⟨TT s (j+1),PP s (j+1),0,em,0⟩) (ae LX) hlt aj aC (by omega) false);obtain ⟨q0,q1,q2,q3,q4,q5,q6,q7⟩:=iQ.eight;have zq:=iQ.fz;have lq:=iQ.lt;clear bV sW iQ aC aj aP p0 p1 p2 p3 p4 p5 p6 p7 zp g0 g1 g2 g3 zg r0 r1 r2 r3 r4 zr;go_wp2
       go_roundg fu
       case measure=>omega
       case rel=>
        have PC:=af (show Jo (TT s) (PP s) i a R fu false (j+1) 3 (PP s (j+1)) (gs++[⟨TT s (j+1),PP s (j+1),0,em,0⟩]) from .inr (.inr ⟨rfl,by decide,by have:=ae Jp;omega,j+1,rfl,(ae qc).symm⟩));refine ⟨false,j+1,3,PP s (j+1),gs++[⟨TT s (j+1),PP s (j+1),0,em,0⟩],some ⟨g5,0,none⟩,aD,rfl,?_,by omega,PC⟩
        with_reducible exact ae L5
     ·have hg0:bN (TT s) (j+1)=.ok ((),j+2):=by unfold bN;rw [hn,if_pos rfl,if_neg hl]
      refine (iX b s tv (j+1) d a kv rv pv _ (ae L1).rs hn (by omega)).mono ?_;rintro e w2 ⟨rfl,b2,k2⟩;have L2:=af ((ae L1).step (j':=j+2) hlt b2 k2 (by omega));have nX:=af (Below.refl w2.heap.size w2);have nQ:=(ae L2).box.lt;have iL:=af (show (Value.slice ga gs.length gc).ownBlock≠some (w2.heap.size+1) from fun e=>by have:=((ae L2).row.lt _ e).2;omega);clear b2 k2 L1 hn hl;unfold qb
      cases hst:eqs (TT s (j+2)) (sg 42)
      ·cases uQ:eqs (TT s (j+2)) (sg 35)
       ·have hg1:bD (TT s) (PP s) (j+1)=.ok (⟨TT s (j+1),PP s (j+1),0,em,0⟩,j+2):=by unfold bD;rw [hg0];simp only [hst,uQ];rfl
        rw [nW _ _ _ _ _ _ _ hg1] at qc;clear hg0 hg1;go_wp2_with fail;refine (aZ b s tv (j+2) d a kv rv pv (sg 42) _ ?r1Bc false hst).mono ?_
        case r1Bc=>exact ((ae L2).below (by with_reducible repeat (first|exact ae nX|refine Below.drew ?_|(refine Below.setCell ?_ ?_ _;rotate_left;exact (by first|omega|(simp;omega)|simp))|(refine Below.alloc ?_ ?_ _;rotate_left;exact (by first|omega|(simp;omega)|simp))))).rs
        rintro e w3 ⟨rfl,hb3⟩;have qV:=af ((ai.new' (w2.alloc (.cells #[.string (TT s (j+1)),.int .i64 (PP s (j+1)),.bool (aT (TT s (j+1)))] 259)) #[.string (TT s (j+1)),.string ⟨#[]⟩,.int .i64 (PP s (j+1)),.int .i64 0] 257 (w2.heap.size+1) (by simp)).below hb3);have L3:=af (((ae L2).below (by with_reducible repeat (first|exact ae nX|refine Below.drew ?_|(refine Below.setCell ?_ ?_ _;rotate_left;exact (by first|omega|(simp;omega)|simp))|(refine Below.alloc ?_ ?_ _;rotate_left;exact (by first|omega|(simp;omega)|simp))))).below hb3);clear hb3 L2 nX;go_wp2_with fail;refine (aZ b s tv (j+2) d a kv rv pv (sg 35) _ (ae L3).rs false uQ).mono ?_;rintro e w4 ⟨rfl,hb4⟩;have L4:=af ((ae L3).below hb4);have ig:=af ((ae qV).below hb4);clear hb4 qV L3;clear hst uQ;obtain ⟨p0,p1,p2,p3,p4,p5,p6,p7⟩:=(ae L4).box.eight;have zp:=(ae L4).box.fz;obtain ⟨g0,g1,g2,g3⟩:=(ae ig).four;have zg:=(ae ig).fz;obtain ⟨r0,r1,r2,r3,r4,_⟩:=(ae L4).rs.blk.eight;have zr:=(ae L4).rs.blk.fz;have n1:¬(w2.heap.size+1=b):=by omega
        have n2:¬(b=w2.heap.size+1):=by omega
        have n3:¬(w.heap.size=b):=by omega
        have n4:¬(b=w.heap.size):=by omega
        have n5:¬(w.heap.size=w2.heap.size+1):=by omega
        have n6:¬(w2.heap.size+1=w.heap.size):=by omega
        have LX:=L4;have MK:=(ae LX).len;have O4:=af (ae LX).row;have nN:=(ae LX).but.size;go_wp2_with (at_builtin;go_must (refine wpList_append_lies _ rfl _ _ 253 rfl w.heap.size 257 i0 _ 4 48 Tryz.underlying253 (ae HI) (ae fG) (ae fH) (ae fI) rfl (by decide) (.slice ga gs.length gc) gs.length (gs.flatMap aJ) rfl ?XC ⟨w4.heap.size,0,none⟩ 1 1 (aJ ⟨TT s (j+1),PP s (j+1),0,em,0⟩) rfl rfl ?TY ?XD (by decide) ?h63Bc ?PS ?TZ (w4.heap.size+1) ?hHBc ?Ua))
        case XC=>exact (ae O4).alloc _
        case TY=>exact World.news_of_block (B:=w4.heap.size) (cs:=#[.string (TT s (j+1)),.string ⟨#[]⟩,.int .i64 (PP s (j+1)),.int .i64 0]) (t:=257) (fr:=(0,0)) (ai.new' _ _ _ _ (by simp))
        case XD=>
         intro u hu;simp only [aJ,List.mem_cons,List.not_mem_nil,or_false] at hu
         rcases hu with rfl|rfl|rfl|rfl<;>rfl
        case h63Bc=>unfold maxLen;omega
        case PS=>omega
        case TZ=>simp at nN ⊢;omega
        case hHBc=>simp
        case Ua=>
         intro g5 aD w5 aC aj aP di;obtain ⟨bV,sW,iQ⟩:=eO (ae LX) aj;have L5:=af (fA (gr:=⟨TT s (j+1),PP s (j+1),0,em,0⟩) (ae LX) hlt aj aC (by omega) false);obtain ⟨q0,q1,q2,q3,q4,q5,q6,q7⟩:=iQ.eight;have zq:=iQ.fz;have lq:=iQ.lt;clear bV sW iQ aC aj aP p0 p1 p2 p3 p4 p5 p6 p7 zp g0 g1 g2 g3 zg r0 r1 r2 r3 r4 zr;go_wp2
         go_roundg fu
         case measure=>omega
         case rel=>
          have PC:=af (show Jo (TT s) (PP s) i a R fu false (j+2) 0 (a) (gs++[⟨TT s (j+1),PP s (j+1),0,em,0⟩]) from .inr (.inl ⟨rfl,rfl,rfl,by have:=ae Jp;omega,ae qc⟩));refine ⟨false,j+2,0,a,gs++[⟨TT s (j+1),PP s (j+1),0,em,0⟩],some ⟨g5,0,none⟩,aD,rfl,?_,by omega,PC⟩
          with_reducible exact ae L5
       ·have uC:=af (show Gd s (j+2+1) from (ae L2).rs.gd.succ (bZ uQ (by decide)));go_wp2_with fail;refine (aZ b s tv (j+2) d a kv rv pv (sg 42) _ ?r1Bd false hst).mono ?_
        case r1Bd=>exact ((ae L2).below (by with_reducible repeat (first|exact ae nX|refine Below.drew ?_|(refine Below.setCell ?_ ?_ _;rotate_left;exact (by first|omega|(simp;omega)|simp))|(refine Below.alloc ?_ ?_ _;rotate_left;exact (by first|omega|(simp;omega)|simp))))).rs
        rintro e w3 ⟨rfl,hb3⟩;have qV:=af ((ai.new' (w2.alloc (.cells #[.string (TT s (j+1)),.int .i64 (PP s (j+1)),.bool (aT (TT s (j+1)))] 259)) #[.string (TT s (j+1)),.string ⟨#[]⟩,.int .i64 (PP s (j+1)),.int .i64 0] 257 (w2.heap.size+1) (by simp)).below hb3);have L3:=af (((ae L2).below (by with_reducible repeat (first|exact ae nX|refine Below.drew ?_|(refine Below.setCell ?_ ?_ _;rotate_left;exact (by first|omega|(simp;omega)|simp))|(refine Below.alloc ?_ ?_ _;rotate_left;exact (by first|omega|(simp;omega)|simp))))).below hb3);clear hb3 L2 nX;go_wp2_with fail;refine (aZ b s tv (j+2) d a kv rv pv (sg 35) _ (ae L3).rs true uQ).mono ?_;rintro e w4 ⟨rfl,hb4⟩;have L4:=af ((ae L3).below hb4);have ig:=af ((ae qV).below hb4);clear hb4 qV L3;obtain ⟨p0,p1,p2,p3,p4,p5,p6,p7⟩:=(ae L4).box.eight;have zp:=(ae L4).box.fz;obtain ⟨g0,g1,g2,g3⟩:=(ae ig).four;have zg:=(ae ig).fz;obtain ⟨r0,r1,r2,r3,r4,_⟩:=(ae L4).rs.blk.eight;have zr:=(ae L4).rs.blk.fz;have n1:¬(w2.heap.size+1=b):=by omega
        have n2:¬(b=w2.heap.size+1):=by omega
        have n3:¬(w.heap.size=b):=by omega
        have n4:¬(b=w.heap.size):=by omega
        have n5:¬(w.heap.size=w2.heap.size+1):=by omega
        have n6:¬(w2.heap.size+1=w.heap.size):=by omega
        go_wp2_with fail;have M4:=af (show xM b s tv d kv rv pv i w (w4.setCell ⟨b,1,none⟩ (.int .i64 ((j:Int)+2+1))) _ (j+3) 0 a gs ga gc from (ae L4).inc' hlt (ae uC) ((j:Int)+2+1) (by omega));have N4:=af (show ai (w4.setCell ⟨b,1,none⟩ (.int .i64 ((j:Int)+2+1))) (w2.heap.size+1) #[.string (TT s (j+1)),.string ⟨#[]⟩,.int .i64 (PP s (j+1)),.int .i64 0] 257 from (ae ig).other n1 _);generalize w4.setCell ⟨b,1,none⟩ (.int .i64 ((j:Int)+2+1))=W4 at*;clear p0 p1 p2 p3 p4 p5 p6 p7 zp g0 g1 g2 g3 zg r0 r1 r2 r3 r4 zr L4 ig
        cases Dz:dh (TT s (j+3))
        ·have hg1:bD (TT s) (PP s) (j+1)=.error (2,j+3):=by unfold bD;rw [hg0];simp only [hst,uQ,bN,Dz];rfl
         rw [jE _ _ _ _ _ _ hg1] at qc;clear hg0 hg1 hst uQ;refine (jq b s tv (j+3) d a kv rv pv true _ (ae M4).rs Dz).mono ?_;rintro e w4 ⟨rfl,b4,k4⟩;have L4:=af ((ae M4).step (j':=j+3) hlt b4 k4 (by omega));have ig:=af ((ae N4).but b4 n1);have Ld:=b4.size;have ML:=(ae N4).lt;have DC:=af (Below.refl w4.heap.size w4);clear b4 k4 M4 N4;unfold qb;obtain ⟨p0,p1,p2,p3,p4,p5,p6,p7⟩:=(ae L4).box.eight;have zp:=(ae L4).box.fz;obtain ⟨g0,g1,g2,g3⟩:=(ae ig).four;have zg:=(ae ig).fz;obtain ⟨r0,r1,r2,r3,r4,_⟩:=(ae L4).rs.blk.eight;have zr:=(ae L4).rs.blk.fz;have n1:¬(w2.heap.size+1=b):=by omega
         have n2:¬(b=w2.heap.size+1):=by omega
         have n3:¬(w.heap.size=b):=by omega
         have n4:¬(b=w.heap.size):=by omega
         have n5:¬(w.heap.size=w2.heap.size+1):=by omega
         have n6:¬(w2.heap.size+1=w.heap.size):=by omega
         have lgb:=(ae ig).lt;have lpb:=(ae L4).box.lt;have lrb:=(ae L4).rs.lt;have n7:¬(w4.heap.size=w2.heap.size+1):=by omega
         have n8:¬(w2.heap.size+1=w4.heap.size):=by omega
         have n9:¬(w4.heap.size=w.heap.size):=by omega
         have n10:¬(w.heap.size=w4.heap.size):=by omega
         have n11:¬(w4.heap.size=b):=by omega
         have n12:¬(b=w4.heap.size):=by omega
         clear Dz;have LX:=af ((((ae L4).far (ae ig) n2 (by omega) (ae iL) 1 (.string (TT s (j+3)))).far ((ae ig).set 1 _) n2 (by omega) (ae iL) 3 (.int .i64 (PP s (j+3)))).below ((Below.refl _ _).alloc aeg (.cells #[.string (TT s (j+3)),.int .i64 (PP s (j+3)),.bool (aT (TT s (j+3)))] 259)));have MK:=(ae LX).len;have O4:=af (ae LX).row;have nN:=(ae LX).but.size;go_wp2_with (at_builtin;go_must (refine wpList_append_lies _ rfl _ _ 253 rfl w.heap.size 257 i0 _ 4 48 Tryz.underlying253 (ae HI) (ae fG) (ae fH) (ae fI) rfl (by decide) (.slice ga gs.length gc) gs.length (gs.flatMap aJ) rfl ?XE ⟨w4.heap.size+1,0,none⟩ 1 1 (aJ ⟨TT s (j+1),PP s (j+1),2,TT s (j+3),PP s (j+3)⟩) rfl rfl ?Ub ?XF (by decide) ?h63Be ?PW ?Uc (w4.heap.size+1+1) ?hHBe ?Ud))
         case XE=>exact (ae O4).alloc _
         case Ub=>exact World.news_of_block (B:=w4.heap.size+1) (cs:=#[.string (TT s (j+1)),.string (TT s (j+3)),.int .i64 (PP s (j+1)),.int .i64 (PP s (j+3))]) (t:=257) (fr:=(0,0)) (ai.new' _ _ _ _ (by simp))
         case XF=>
          intro u hu;simp only [aJ,List.mem_cons,List.not_mem_nil,or_false] at hu
          rcases hu with rfl|rfl|rfl|rfl<;>rfl
         case h63Be=>unfold maxLen;omega
         case PW=>omega
         case Uc=>simp at nN ⊢;omega
         case hHBe=>simp
         case Ud=>
          intro g5 aD w5 aC aj aP di;obtain ⟨bV,sW,iQ⟩:=eO (ae LX) aj;have L5:=af (fA (gr:=⟨TT s (j+1),PP s (j+1),2,TT s (j+3),PP s (j+3)⟩) (ae LX) hlt aj aC (by omega) false);obtain ⟨q0,q1,q2,q3,q4,q5,q6,q7⟩:=iQ.eight;have zq:=iQ.fz;have lq:=iQ.lt;clear bV sW iQ aC aj aP p0 p1 p2 p3 p4 p5 p6 p7 zp g0 g1 g2 g3 zg r0 r1 r2 r3 r4 zr;go_wp2
          go_roundg fu
          case measure=>omega
          case rel=>
           have PC:=af (show Jo (TT s) (PP s) i a R fu false (j+3) 2 (PP s (j+3)) (gs++[⟨TT s (j+1),PP s (j+1),2,TT s (j+3),PP s (j+3)⟩]) from .inr (.inr ⟨rfl,by decide,by have:=ae Jp;omega,j+3,rfl,(ae qc).symm⟩));refine ⟨false,j+3,2,PP s (j+3),gs++[⟨TT s (j+1),PP s (j+1),2,TT s (j+3),PP s (j+3)⟩],some ⟨g5,0,none⟩,aD,rfl,?_,by omega,PC⟩
           with_reducible exact ae L5
        ·by_cases Bf:8<(TT s (j+3)).size
         ·have hg1:bD (TT s) (PP s) (j+1)=.error (3,j+3):=by unfold bD;rw [hg0];simp only [hst,uQ,bN,Dz,Bf];rfl
          rw [jE _ _ _ _ _ _ hg1] at qc;clear hg0 hg1 hst uQ;refine (kG b s tv (j+3) d a kv rv pv true _ (ae M4).rs Dz Bf).mono ?_;rintro e w4 ⟨rfl,b4,k4⟩;have L4:=af ((ae M4).step (j':=j+3) hlt b4 k4 (by omega));have ig:=af ((ae N4).but b4 n1);have Ld:=b4.size;have ML:=(ae N4).lt;have DC:=af (Below.refl w4.heap.size w4);clear b4 k4 M4 N4;unfold qb;obtain ⟨p0,p1,p2,p3,p4,p5,p6,p7⟩:=(ae L4).box.eight;have zp:=(ae L4).box.fz;obtain ⟨g0,g1,g2,g3⟩:=(ae ig).four;have zg:=(ae ig).fz;obtain ⟨r0,r1,r2,r3,r4,_⟩:=(ae L4).rs.blk.eight;have zr:=(ae L4).rs.blk.fz;have n1:¬(w2.heap.size+1=b):=by omega
          have n2:¬(b=w2.heap.size+1):=by omega
          have n3:¬(w.heap.size=b):=by omega
          have n4:¬(b=w.heap.size):=by omega
          have n5:¬(w.heap.size=w2.heap.size+1):=by omega
          have n6:¬(w2.heap.size+1=w.heap.size):=by omega
          have lgb:=(ae ig).lt;have lpb:=(ae L4).box.lt;have lrb:=(ae L4).rs.lt;have n7:¬(w4.heap.size=w2.heap.size+1):=by omega
          have n8:¬(w2.heap.size+1=w4.heap.size):=by omega
          have n9:¬(w4.heap.size=w.heap.size):=by omega
          have n10:¬(w.heap.size=w4.heap.size):=by omega
          have n11:¬(w4.heap.size=b):=by omega
          have n12:¬(b=w4.heap.size):=by omega
          clear Dz;have LX:=af ((((ae L4).far (ae ig) n2 (by omega) (ae iL) 1 (.string (TT s (j+3)))).far ((ae ig).set 1 _) n2 (by omega) (ae iL) 3 (.int .i64 (PP s (j+3)))).below ((Below.refl _ _).alloc aeg (.cells #[.string (TT s (j+3)),.int .i64 (PP s (j+3)),.bool (aT (TT s (j+3)))] 259)));have MK:=(ae LX).len;have O4:=af (ae LX).row;have nN:=(ae LX).but.size;go_wp2_with (at_builtin;go_must (refine wpList_append_lies _ rfl _ _ 253 rfl w.heap.size 257 i0 _ 4 48 Tryz.underlying253 (ae HI) (ae fG) (ae fH) (ae fI) rfl (by decide) (.slice ga gs.length gc) gs.length (gs.flatMap aJ) rfl ?XG ⟨w4.heap.size+1,0,none⟩ 1 1 (aJ ⟨TT s (j+1),PP s (j+1),2,TT s (j+3),PP s (j+3)⟩) rfl rfl ?Ue ?XH (by decide) ?h63Bf ?PY ?Uf (w4.heap.size+1+1) ?hHBf ?Ug))
          case XG=>exact (ae O4).alloc _
          case Ue=>exact World.news_of_block (B:=w4.heap.size+1) (cs:=#[.string (TT s (j+1)),.string (TT s (j+3)),.int .i64 (PP s (j+1)),.int .i64 (PP s (j+3))]) (t:=257) (fr:=(0,0)) (ai.new' _ _ _ _ (by simp))
          case XH=>
           intro u hu;simp only [aJ,List.mem_cons,List.not_mem_nil,or_false] at hu
           rcases hu with rfl|rfl|rfl|rfl<;>rfl
          case h63Bf=>unfold maxLen;omega
          case PY=>omega
          case Uf=>simp at nN ⊢;omega
          case hHBf=>simp
          case Ug=>
           intro g5 aD w5 aC aj aP di;obtain ⟨bV,sW,iQ⟩:=eO (ae LX) aj;have L5:=af (fA (gr:=⟨TT s (j+1),PP s (j+1),2,TT s (j+3),PP s (j+3)⟩) (ae LX) hlt aj aC (by omega) false);obtain ⟨q0,q1,q2,q3,q4,q5,q6,q7⟩:=iQ.eight;have zq:=iQ.fz;have lq:=iQ.lt;clear bV sW iQ aC aj aP p0 p1 p2 p3 p4 p5 p6 p7 zp g0 g1 g2 g3 zg r0 r1 r2 r3 r4 zr;go_wp2
           go_roundg fu
           case measure=>omega
           case rel=>
            have PC:=af (show Jo (TT s) (PP s) i a R fu false (j+3) 3 (PP s (j+3)) (gs++[⟨TT s (j+1),PP s (j+1),2,TT s (j+3),PP s (j+3)⟩]) from .inr (.inr ⟨rfl,by decide,by have:=ae Jp;omega,j+3,rfl,(ae qc).symm⟩));refine ⟨false,j+3,3,PP s (j+3),gs++[⟨TT s (j+1),PP s (j+1),2,TT s (j+3),PP s (j+3)⟩],some ⟨g5,0,none⟩,aD,rfl,?_,by omega,PC⟩
            with_reducible exact ae L5
         ·have hg1:bD (TT s) (PP s) (j+1)=.ok (⟨TT s (j+1),PP s (j+1),2,TT s (j+3),PP s (j+3)⟩,j+4):=by unfold bD;rw [hg0];simp only [hst,uQ,bN,Dz,Bf];rfl
          rw [nW _ _ _ _ _ _ _ hg1] at qc;clear hg0 hg1 hst uQ;refine (iX b s tv (j+3) d a kv rv pv _ (ae M4).rs Dz (by omega)).mono ?_;rintro e w4 ⟨rfl,b4,k4⟩;have L4:=af ((ae M4).step (j':=j+4) hlt b4 k4 (by omega));have ig:=af ((ae N4).but b4 n1);have Ld:=b4.size;have ML:=(ae N4).lt;have DC:=af (Below.refl w4.heap.size w4);clear b4 k4 M4 N4;unfold qb;obtain ⟨p0,p1,p2,p3,p4,p5,p6,p7⟩:=(ae L4).box.eight;have zp:=(ae L4).box.fz;obtain ⟨g0,g1,g2,g3⟩:=(ae ig).four;have zg:=(ae ig).fz;obtain ⟨r0,r1,r2,r3,r4,_⟩:=(ae L4).rs.blk.eight;have zr:=(ae L4).rs.blk.fz;have n1:¬(w2.heap.size+1=b):=by omega
          have n2:¬(b=w2.heap.size+1):=by omega
          have n3:¬(w.heap.size=b):=by omega
          have n4:¬(b=w.heap.size):=by omega
          have n5:¬(w.heap.size=w2.heap.size+1):=by omega
          have n6:¬(w2.heap.size+1=w.heap.size):=by omega
          have lgb:=(ae ig).lt;have lpb:=(ae L4).box.lt;have lrb:=(ae L4).rs.lt;have n7:¬(w4.heap.size=w2.heap.size+1):=by omega
          have n8:¬(w2.heap.size+1=w4.heap.size):=by omega
          have n9:¬(w4.heap.size=w.heap.size):=by omega
          have n10:¬(w.heap.size=w4.heap.size):=by omega
          have n11:¬(w4.heap.size=b):=by omega
          have n12:¬(b=w4.heap.size):=by omega
          clear Dz;have LX:=af ((((ae L4).far (ae ig) n2 (by omega) (ae iL) 1 (.string (TT s (j+3)))).far ((ae ig).set 1 _) n2 (by omega) (ae iL) 3 (.int .i64 (PP s (j+3)))).below ((Below.refl _ _).alloc aeg (.cells #[.string (TT s (j+3)),.int .i64 (PP s (j+3)),.bool (aT (TT s (j+3)))] 259)));have MK:=(ae LX).len;have O4:=af (ae LX).row;have nN:=(ae LX).but.size;go_wp2_with (at_builtin;go_must (refine wpList_append_lies _ rfl _ _ 253 rfl w.heap.size 257 i0 _ 4 48 Tryz.underlying253 (ae HI) (ae fG) (ae fH) (ae fI) rfl (by decide) (.slice ga gs.length gc) gs.length (gs.flatMap aJ) rfl ?XI ⟨w4.heap.size+1,0,none⟩ 1 1 (aJ ⟨TT s (j+1),PP s (j+1),2,TT s (j+3),PP s (j+3)⟩) rfl rfl ?Uh ?XJ (by decide) ?h63Bg ?PZ ?Ui (w4.heap.size+1+1) ?hHBg ?Uj))
          case XI=>exact (ae O4).alloc _
          case Uh=>exact World.news_of_block (B:=w4.heap.size+1) (cs:=#[.string (TT s (j+1)),.string (TT s (j+3)),.int .i64 (PP s (j+1)),.int .i64 (PP s (j+3))]) (t:=257) (fr:=(0,0)) (ai.new' _ _ _ _ (by simp))
          case XJ=>
           intro u hu;simp only [aJ,List.mem_cons,List.not_mem_nil,or_false] at hu
           rcases hu with rfl|rfl|rfl|rfl<;>rfl
          case h63Bg=>unfold maxLen;omega
          case PZ=>omega
          case Ui=>simp at nN ⊢;omega
          case hHBg=>simp
          case Uj=>
           intro g5 aD w5 aC aj aP di;obtain ⟨bV,sW,iQ⟩:=eO (ae LX) aj;have L5:=af (fA (gr:=⟨TT s (j+1),PP s (j+1),2,TT s (j+3),PP s (j+3)⟩) (ae LX) hlt aj aC (by omega) false);obtain ⟨q0,q1,q2,q3,q4,q5,q6,q7⟩:=iQ.eight;have zq:=iQ.fz;have lq:=iQ.lt;clear bV sW iQ aC aj aP p0 p1 p2 p3 p4 p5 p6 p7 zp g0 g1 g2 g3 zg r0 r1 r2 r3 r4 zr;go_wp2
           go_roundg fu
           case measure=>omega
           case rel=>
            have PC:=af (show Jo (TT s) (PP s) i a R fu false (j+4) 0 (a) (gs++[⟨TT s (j+1),PP s (j+1),2,TT s (j+3),PP s (j+3)⟩]) from .inr (.inl ⟨rfl,rfl,rfl,by have:=ae Jp;omega,ae qc⟩));refine ⟨false,j+4,0,a,gs++[⟨TT s (j+1),PP s (j+1),2,TT s (j+3),PP s (j+3)⟩],some ⟨g5,0,none⟩,aD,rfl,?_,by omega,PC⟩
            with_reducible exact ae L5
      ·have uQ:eqs (TT s (j+2)) (sg 35)=false:=by
        unfold eqs at hst ⊢;rw [beq_iff_eq] at hst;rw [hst];decide
       have hg1:bD (TT s) (PP s) (j+1)=.ok (⟨TT s (j+1),PP s (j+1),1,em,0⟩,j+3):=by unfold bD;rw [hg0];simp only [hst,if_true]
       rw [nW _ _ _ _ _ _ _ hg1] at qc;have uC:=af (show Gd s (j+2+1) from (ae L2).rs.gd.succ (bZ hst (by decide)));clear hg0 hg1;go_wp2_with fail;refine (aZ b s tv (j+2) d a kv rv pv (sg 42) _ ?r1Bh true hst).mono ?_
       case r1Bh=>exact ((ae L2).below (by with_reducible repeat (first|exact ae nX|refine Below.drew ?_|(refine Below.setCell ?_ ?_ _;rotate_left;exact (by first|omega|(simp;omega)|simp))|(refine Below.alloc ?_ ?_ _;rotate_left;exact (by first|omega|(simp;omega)|simp))))).rs
       rintro e w3 ⟨rfl,hb3⟩;have qV:=af ((ai.new' (w2.alloc (.cells #[.string (TT s (j+1)),.int .i64 (PP s (j+1)),.bool (aT (TT s (j+1)))] 259)) #[.string (TT s (j+1)),.string ⟨#[]⟩,.int .i64 (PP s (j+1)),.int .i64 0] 257 (w2.heap.size+1) (by simp)).below hb3);have L3:=af (((ae L2).below (by with_reducible repeat (first|exact ae nX|refine Below.drew ?_|(refine Below.setCell ?_ ?_ _;rotate_left;exact (by first|omega|(simp;omega)|simp))|(refine Below.alloc ?_ ?_ _;rotate_left;exact (by first|omega|(simp;omega)|simp))))).below hb3);clear hb3 L2 nX;go_wp2_with fail;refine (aZ b s tv (j+2) d a kv rv pv (sg 35) _ (ae L3).rs false uQ).mono ?_;rintro e w4 ⟨rfl,hb4⟩;have L4:=af ((ae L3).below hb4);have ig:=af ((ae qV).below hb4);clear hb4 qV L3;clear hst uQ;obtain ⟨p0,p1,p2,p3,p4,p5,p6,p7⟩:=(ae L4).box.eight;have zp:=(ae L4).box.fz;obtain ⟨g0,g1,g2,g3⟩:=(ae ig).four;have zg:=(ae ig).fz;obtain ⟨r0,r1,r2,r3,r4,_⟩:=(ae L4).rs.blk.eight;have zr:=(ae L4).rs.blk.fz;have n1:¬(w2.heap.size+1=b):=by omega
       have n2:¬(b=w2.heap.size+1):=by omega
       have n3:¬(w.heap.size=b):=by omega
       have n4:¬(b=w.heap.size):=by omega
       have n5:¬(w.heap.size=w2.heap.size+1):=by omega
       have n6:¬(w2.heap.size+1=w.heap.size):=by omega
       have LX:=af ((xM.inc' (ae L4) hlt (ae uC) ((j:Int)+2+1) (by omega)).far ((ae ig).other n1 _) n2 (by omega) (ae iL) 1 (.string ⟨#[42]⟩));have MK:=(ae LX).len;have O4:=af (ae LX).row;have nN:=(ae LX).but.size;go_wp2_with (at_builtin;go_must (refine wpList_append_lies _ rfl _ _ 253 rfl w.heap.size 257 i0 _ 4 48 Tryz.underlying253 (ae HI) (ae fG) (ae fH) (ae fI) rfl (by decide) (.slice ga gs.length gc) gs.length (gs.flatMap aJ) rfl ?XK ⟨w4.heap.size,0,none⟩ 1 1 (aJ ⟨TT s (j+1),PP s (j+1),1,em,0⟩) rfl rfl ?Uk ?XL (by decide) ?h63Bh ?P5 ?Ul (w4.heap.size+1) ?hHBh ?Um))
       case XK=>exact (ae O4).alloc _
       case Uk=>exact World.news_of_block (B:=w4.heap.size) (cs:=#[.string (TT s (j+1)),.string ⟨#[42]⟩,.int .i64 (PP s (j+1)),.int .i64 0]) (t:=257) (fr:=(0,0)) (ai.new' _ _ _ _ (by simp))
       case XL=>
        intro u hu;simp only [aJ,List.mem_cons,List.not_mem_nil,or_false] at hu
        rcases hu with rfl|rfl|rfl|rfl<;>rfl
       case h63Bh=>unfold maxLen;omega
       case P5=>omega
       case Ul=>simp at nN ⊢;omega
       case hHBh=>simp
       case Um=>
        intro g5 aD w5 aC aj aP di;obtain ⟨bV,sW,iQ⟩:=eO (ae LX) aj;have L5:=af (fA (gr:=⟨TT s (j+1),PP s (j+1),1,em,0⟩) (ae LX) hlt aj aC (by omega) false);obtain ⟨q0,q1,q2,q3,q4,q5,q6,q7⟩:=iQ.eight;have zq:=iQ.fz;have lq:=iQ.lt;clear bV sW iQ aC aj aP p0 p1 p2 p3 p4 p5 p6 p7 zp g0 g1 g2 g3 zg r0 r1 r2 r3 r4 zr;go_wp2
        go_roundg fu
        case measure=>omega
        case rel=>
         have PC:=af (show Jo (TT s) (PP s) i a R fu false (j+3) 0 (a) (gs++[⟨TT s (j+1),PP s (j+1),1,em,0⟩]) from .inr (.inl ⟨rfl,rfl,rfl,by have:=ae Jp;omega,ae qc⟩));refine ⟨false,j+3,0,a,gs++[⟨TT s (j+1),PP s (j+1),1,em,0⟩],some ⟨g5,0,none⟩,aD,rfl,?_,by omega,PC⟩
         with_reducible exact ae L5
  ·have ED:=af hI;have HIJ3:=af hij3;have qc:=af hc;clear hI HC HR hc;go_wp2_with fail;refine (ib b s tv j d e (PP s jj) kv rv pv (sg 44) _ (ae ED).rs he).mono ?_;rintro e' w3 ⟨rfl,hb3⟩;have L3:=af ((ae ED).below hb3);clear hb3 ED;go_wp2_with fail;refine (yQ b s tv j d e (PP s jj) kv rv pv (sg 93) _ (ae L3).rs he).mono ?_;rintro e' w4 ⟨rfl,hb4⟩;have L4:=af ((ae L3).below hb4);clear hb4 L3;have T4:=af ((ae uL).but (ae L4).but (ae H0).blk hbb bF);have X4:=af (show nD w4 (⟨1,gs,em,em,PP s i,0,[],[]⟩,.slice ga gs.length gc,.slice none 0 0,.slice none 0 0) from ⟨fB (ae L4).row,World.ownsRow_nil _ _ _ _,World.ownsRow_nil _ _ _ _⟩);obtain ⟨p0,p1,p2,p3,p4,p5,p6,p7⟩:=(ae L4).box.eight;have hb4:base≤w4.heap.size:=Nat.le_trans bF (ae L4).but.size;go_wp2_with fail;refine (fV base b s tv (j) d e (PP s jj) kv rv pv pl l ⟨1,gs,em,em,PP s i,0,[],[]⟩ ga gc none 0 none 0 w4 (ae L4).rs (ae T4) (ae X4) (by omega) hb4 hbb).mono ?_;rintro e' w6 ⟨pv',rfl,fr,pg,pu⟩;have F6:=af fr;have R6:=af pg;have P6:=af pu;clear fr pg pu p0 p1 p2 p3 p4 p5 p6 p7;go_wp2;go_ret;rw [ae qc];exact ⟨rfl,pv',_,_,(Fr.of_but (ae L4).but hbb bF).trans (ae F6),ae P6,vS (ae L4).row,he,j,ae HIJ3,ae R6⟩
