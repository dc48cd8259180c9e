import Derived.Test.YtlbpnlngckgcbaaGreatDoorM20
set_option linter.all false
set_option maxHeartbeats 4000000
set_option maxRecDepth 100000
namespace Go.Proofs.YtlbpnlngckgcbaaGreatDoor
open Go.RowKit Go.PlainAid
def aB (rel:RJ):Nat→Ex→List Ins
 |m,⟨n,some x,some y⟩=>if n.kind=3 then aB rel m x++aB rel (m+(aB rel m x).length) y++[⟨6,⟨#[]⟩,0⟩]
  else aB rel m x++[⟨9,⟨#[]⟩,m+(aB rel m x).length+(aB rel (m+(aB rel m x).length+1) y).length+2⟩]++aB rel (m+(aB rel m x).length+1) y++[⟨if n.kind=4 then 7 else 8,⟨#[]⟩,0⟩]
 |m,⟨n,none,_⟩=>if n.kind=0 then eO m rel ⟨4,⟨#[]⟩,0⟩ else if n.kind=1 then [⟨2,n.n1,0⟩] else eO m n.n1 ⟨5,n.n2,0⟩
 |_,⟨_,some _,none⟩=>[]
def kI (base b:Nat) (rel:RJ) (v:Value) (l c:List Ins) (w:World) (e:Ending) (w':World):Prop:=∃v',e=.returned (.tuple #[])∧kX b v w w' v'∧WI base w' b rel v' (l++c)
theorem WI.gkept {base:Nat} {w w':World} {b:Nat} {rel:RJ} {v v':Value} {l:List Ins} (h:WI base w b rel v l) (k:kX b v w w' v') (bb:Nat):iw bb w w':=fun g cs f _ hh=>k.but.block g (lt_of_some hh) (fun e=>by
 rcases e with rfl|e
 ·have:=h.blk;unfold ag at this;rw [this] at hh;simp at hh
 ·rcases h.row.2 with ⟨e2,_⟩|⟨g',cap,cur,e2,_,hc,_⟩
  ·rw [e2] at e;simp [Value.ownBlock] at e
  ·rw [e2] at e;simp only [Value.ownBlock,Option.some.injEq] at e;rw [e] at hc;rw [hc] at hh;simp at hh)
theorem DD (base b:Nat) (rel:RJ) (v:Value) (l:List Ins) (p:Nat) (sa:Option Addr) (sn sc:Nat) (w:World) (h:WI base w b rel v l) (hl:l.length≤90000):
  Calls Tryz.prog 152 #[.pointer (some ⟨b,0,none⟩),.iface 236 (.agg #[.int .i64 p,.slice sa sn sc])] w (kI base b rel v l (eO l.length rel ⟨4,⟨#[]⟩,0⟩) w):=by
 have f0:=bJ;have f1:=df;have f2:=dh;have f3:=aX;have f4:=bK;have f5:=bO;have g1:=dX;have g2:=dY;have g3:=bQ;have g4:=dC;have g5:=dE;have h2:=dZ;have h3:=bU;have h4:=dD;have h5:=dF;have i3:=bg;have i4:=bY;have i5:=bZ;have j4:=dI;have j5:=dJ;have k5:=di;have b0:=(Below.refl w.heap.size w).alloc RH (.cells #[.int .i64 p,.slice sa sn sc] 236);have F0:=ae (kX.of_below (b:=b) (v:=v) b0);have C:=ae (xR base b rel v l rel ⟨4,⟨#[]⟩,0⟩ _ (h.below b0) hl);have c0:w.cell? ⟨b,0,none⟩=some (.string rel):=h.blk.cell rfl;have c0':(w.alloc (.cells #[.int .i64 p,.slice sa sn sc] 236)).cell? ⟨b,0,none⟩=some (.string rel):=(h.below b0).blk.cell rfl;have m7:=World.new_ne w _ c0;have hne:¬(w.heap.size=b):=by have:=h.blk.lt;omega
 have lX:¬(b=w.heap.size):=by have:=h.blk.lt;omega
 clear h b0;go_enter Tryz.func152,Tryz.ntmps152;go_wp2_with fail;refine (aa C).mono ?_;rintro e w1 ⟨v1,rfl,hf,hz⟩;have HF:=ae ((aa F0).trans hf);have HZ:=ae hz;clear hf hz C;go_wp2;go_end0;exact ⟨_,rfl,aa HF,aa HZ⟩
theorem F8 (base b:Nat) (rel:RJ) (v:Value) (l:List Ins) (p:Nat) (s:RJ) (w:World) (h:WI base w b rel v l) (hl:l.length≤90000):
  Calls Tryz.prog 152 #[.pointer (some ⟨b,0,none⟩),.iface 238 (.agg #[.int .i64 p,.string s])] w (kI base b rel v l [⟨2,s,0⟩] w):=by
 have f0:=bJ;have f1:=df;have f2:=dh;have f3:=aX;have f4:=bK;have f5:=bO;have g1:=dX;have g2:=dY;have g3:=bQ;have g4:=dC;have g5:=dE;have h2:=dZ;have h3:=bU;have h4:=dD;have h5:=dF;have i3:=bg;have i4:=bY;have i5:=bZ;have j4:=dI;have j5:=dJ;have k5:=di;have b0:=(Below.refl w.heap.size w).alloc RH (.cells #[.int .i64 p,.string s] 238);have F0:=ae (kX.of_below (b:=b) (v:=v) b0);have C:=ae (gH base b rel v l ⟨2,s,0⟩ _ (h.below b0) (by omega));clear h b0;go_enter Tryz.func152,Tryz.ntmps152;go_wp2_with fail;refine (aa C).mono ?_;rintro e w1 ⟨v1,rfl,hf,hz⟩;have HF:=ae ((aa F0).trans hf);have HZ:=ae hz;clear hf hz C;go_wp2;go_end0;exact ⟨_,rfl,aa HF,aa HZ⟩
theorem F9 (base b:Nat) (rel:RJ) (v:Value) (l:List Ins) (p p1 p2:Nat) (s t:RJ) (w:World) (h:WI base w b rel v l) (hl:l.length≤90000):
  Calls Tryz.prog 152 #[.pointer (some ⟨b,0,none⟩),.iface 240 (.agg #[.int .i64 p,.int .i64 p1,.string s,.int .i64 p2,.string t])] w (kI base b rel v l (eO l.length s ⟨5,t,0⟩) w):=by
 have f0:=bJ;have f1:=df;have f2:=dh;have f3:=aX;have f4:=bK;have f5:=bO;have g1:=dX;have g2:=dY;have g3:=bQ;have g4:=dC;have g5:=dE;have h2:=dZ;have h3:=bU;have h4:=dD;have h5:=dF;have i3:=bg;have i4:=bY;have i5:=bZ;have j4:=dI;have j5:=dJ;have k5:=di;have b0:=(Below.refl w.heap.size w).alloc RH (.cells #[.int .i64 p,.int .i64 p1,.string s,.int .i64 p2,.string t] 240);have F0:=ae (kX.of_below (b:=b) (v:=v) b0);have C:=ae (xR base b rel v l s ⟨5,t,0⟩ _ (h.below b0) hl);clear h b0;go_enter Tryz.func152,Tryz.ntmps152;go_wp2_with fail;refine (aa C).mono ?_;rintro e w1 ⟨v1,rfl,hf,hz⟩;have HF:=ae ((aa F0).trans hf);have HZ:=ae hz;clear hf hz C;go_wp2;go_end0;exact ⟨_,rfl,aa HF,aa HZ⟩
theorem jG (rel:RJ) (e:Ex):∀n,(aB rel n e).length≤8*(aj e).length:=by
 induction e using Ex.ind with
 |h0 n r=>
  intro m;have:(aj ⟨n,none,r⟩).length=1:=by simp [aj]
  rw [this];unfold aB
  split
  ·simp [eO]
  ·split
   ·simp
   ·simp [eO]
 |h1 n a=>intro m;simp [aB]
 |h2 n a c iha Kc=>
  intro m;have hpl:(aj ⟨n,some a,some c⟩).length=(aj a).length+1+(aj c).length:=by simp [aj];omega
  rw [hpl];have h1:=iha m;have h2:=Kc (m+(aB rel m a).length);have h3:=Kc (m+(aB rel m a).length+1);unfold aB
  split
  ·simp only [List.length_append,List.length_cons,List.length_nil];omega
  ·simp only [List.length_append,List.length_cons,List.length_nil];omega
def JC (base b:Nat) (rel:RJ) (bb:Nat) (e:Ex):Prop:=∀(v:Value) (l:List Ins) (w:World) (val:Value),ay bb w e val→WI base w b rel v l→l.length+8*(aj e).length≤80000→Calls Tryz.prog 152 #[.pointer (some ⟨b,0,none⟩),val] w (kI base b rel v l (aB rel l.length e) w)
theorem xU (base b:Nat) (rel:RJ) (bb:Nat) (x y:Ex) (hx:JC base b rel bb x) (hy:JC base b rel bb y) (v:Value) (l:List Ins) (p:Nat) (vx vy:Value) (w:World) (rx:ay bb w x vx) (ry:ay bb w y vy) (h:WI base w b rel v l) (hl:l.length+8*((aj x).length+(aj y).length)+8≤80000):
  Calls Tryz.prog 152 #[.pointer (some ⟨b,0,none⟩),.iface 244 (.agg #[.int .i64 p,vx,vy])] w (kI base b rel v l (aB rel l.length x++aB rel (l.length+(aB rel l.length x).length) y++[⟨6,⟨#[]⟩,0⟩]) w):=by
 have f0:=bJ;have f1:=df;have f2:=dh;have f3:=aX;have f4:=bK;have f5:=bO;have g1:=dX;have g2:=dY;have g3:=bQ;have g4:=dC;have g5:=dE;have h2:=dZ;have h3:=bU;have h4:=dD;have h5:=dF;have i3:=bg;have i4:=bY;have i5:=bZ;have j4:=dI;have j5:=dJ;have k5:=di;obtain ⟨xa,xv,rfl⟩:=rx.isI;obtain ⟨ya,yv,rfl⟩:=ry.isI;have b0:=(Below.refl w.heap.size w).alloc RH (.cells #[.int .i64 p,.iface xa xv,.iface ya yv] 244);have Z0:=ae (h.below b0);have F0:=ae (kX.of_below (b:=b) (v:=v) b0);have E0:=ae (ag.new w #[.int .i64 p,.iface xa xv,.iface ya yv] 244);have lL:w.heap.size≠b:=by have:=h.blk.lt;omega
 have HQ:=ae (show v.ownBlock≠some w.heap.size from fun e=>by have:=(h.row.lt _ e).2;omega);have lx:=jG rel x l.length;have ly:=jG rel y (l.length+(aB rel l.length x).length);have C1:=ae (hx v l _ _ (rx.but (But.of_below b0)) (h.below b0) (by omega));have RY:=ae (ry.but (But.of_below b0));have HY:=ae hy;generalize QY:aB rel l.length x=cx at*;have QZ:=ae (show aB rel (l++cx).length y=aB rel (l.length+cx.length) y from by rw [List.length_append]);generalize Q0:aB rel (l.length+cx.length) y=cy at*;clear h b0 rx ry hx hy QY Q0;go_enter Tryz.func152,Tryz.ntmps152;go_wp2_with fail;generalize (w.alloc (.cells #[.int .i64 p,.iface xa xv,.iface ya yv] 244))=W at*;refine (aa C1).mono ?_;rintro e w1 ⟨v1,rfl,f1,z1⟩;have C2:=ae (aa HY v1 (l++cx) w1 _ (ay.frame ((aa Z0).gkept f1 bb) _ _ (aa RY)) z1 (by rw [List.length_append];omega));rw [aa QZ] at C2;have e1:=(f1.blk (aa E0) lL (aa HQ));obtain ⟨x0,x1,x2⟩:=three e1;have F1:=ae ((aa F0).trans f1);clear f1 z1 C1 HY RY e1;go_wp2_with fail;refine (aa C2).mono ?_;rintro e w2 ⟨v2,rfl,f2,z2⟩;have C3:=ae (gH base b rel v2 _ ⟨6,⟨#[]⟩,0⟩ w2 z2 (by rw [List.length_append,List.length_append];omega));have F2:=ae ((aa F1).trans f2);clear f2 z2 C2 x0 x1 x2;go_wp2_with fail;refine (aa C3).mono ?_;rintro e w3 ⟨v3,rfl,f3,z3⟩;have F3:=ae ((aa F2).trans f3);have Z3:=ae z3;clear f3 z3 C3;go_wp2;go_end0;exact ⟨_,rfl,aa F3,by simpa [List.append_assoc] using aa Z3⟩
theorem xW (l cx cy:List Ins) (d:Nat):lN ((((l++cx)++[⟨9,⟨#[]⟩,0⟩])++cy)++[⟨d,⟨#[]⟩,0⟩]) (l.length+cx.length)=l++(cx++[⟨9,⟨#[]⟩,l.length+cx.length+cy.length+2⟩]++cy++[⟨d,⟨#[]⟩,0⟩]):=by
 have e:(((l++cx)++[⟨9,⟨#[]⟩,0⟩])++cy)++[(⟨d,⟨#[]⟩,0⟩:Ins)]=(l++cx)++(⟨9,⟨#[]⟩,0⟩::(cy++[⟨d,⟨#[]⟩,0⟩])):=by simp
 have hk:l.length+cx.length<((l++cx)++((⟨9,⟨#[]⟩,0⟩:Ins)::(cy++[⟨d,⟨#[]⟩,0⟩]))).length:=by simp
 have hg:((l++cx)++((⟨9,⟨#[]⟩,0⟩:Ins)::(cy++[⟨d,⟨#[]⟩,0⟩])))[l.length+cx.length]? =some ⟨9,⟨#[]⟩,0⟩:=by
  rw [List.getElem?_append_right (by simp)];simp
 rw [e];unfold lN;rw [hg];simp only;rw [List.set_append_right _ _ (by simp),show l.length+cx.length-(l++cx).length=0 by simp,List.set_cons_zero];simp;omega
theorem rF (base b:Nat) (rel:RJ) (bb:Nat) (x y:Ex) (hx:JC base b rel bb x) (hy:JC base b rel bb y) (v:Value) (l:List Ins) (p d:Nat) (vx vy:Value) (w:World) (rx:ay bb w x vx) (ry:ay bb w y vy) (h:WI base w b rel v l) (hl:l.length+8*((aj x).length+(aj y).length)+8≤80000):
  Calls Tryz.prog 211 #[.pointer (some ⟨b,0,none⟩),.agg #[.int .i64 p,vx,vy],.int .i64 d] w (kI base b rel v l (aB rel l.length x++[⟨9,⟨#[]⟩,l.length+(aB rel l.length x).length+(aB rel (l.length+(aB rel l.length x).length+1) y).length+2⟩]++aB rel (l.length+(aB rel l.length x).length+1) y++[⟨d,⟨#[]⟩,0⟩]) w):=by
 obtain ⟨xa,xv,rfl⟩:=rx.isI;obtain ⟨ya,yv,rfl⟩:=ry.isI;have b0:=(Below.refl w.heap.size w).alloc RH (.cells #[.int .i64 p,.iface xa xv,.iface ya yv] 242);have Z0:=ae (h.below b0);have F0:=ae (kX.of_below (b:=b) (v:=v) b0);have E0:=ae (ag.new w #[.int .i64 p,.iface xa xv,.iface ya yv] 242);have lL:w.heap.size≠b:=by have:=h.blk.lt;omega
 have HQ:=ae (show v.ownBlock≠some w.heap.size from fun e=>by have:=(h.row.lt _ e).2;omega);have lx:=jG rel x l.length;have ly:=jG rel y (l.length+(aB rel l.length x).length+1);have C1:=ae (hx v l _ _ (rx.but (But.of_below b0)) (h.below b0) (by omega));have RY:=ae (ry.but (But.of_below b0));have HY:=ae hy;generalize QY:aB rel l.length x=cx at*;have QZ:=ae (show aB rel ((l++cx)++[(⟨9,⟨#[]⟩,0⟩:Ins)]).length y=aB rel (l.length+cx.length+1) y from by rw [List.length_append,List.length_append];rfl);generalize Q0:aB rel (l.length+cx.length+1) y=cy at*;have HE:=ae (xW l cx cy d);have Qb:=ae (show ((l.length+cx.length:Nat):Int)=(l.length:Int)+(cx.length:Int) from by omega);clear h b0 rx ry hx hy QY Q0;go_enter Tryz.func211,Tryz.ntmps211;go_wp2_with fail;generalize (w.alloc (.cells #[.int .i64 p,.iface xa xv,.iface ya yv] 242))=W at*;refine (aa C1).mono ?_;rintro e w1 ⟨v1,rfl,f1,z1⟩;have C2:=ae (gH base b rel v1 _ ⟨9,⟨#[]⟩,0⟩ w1 z1 (by rw [List.length_append];omega));have RY1:=ae (ay.frame ((aa Z0).gkept f1 bb) _ _ (aa RY));have Z1:=ae z1;have G1:=ae f1;clear f1 z1 C1 RY;go_wp2_with fail;refine (aa C2).mono ?_;rintro e w2 ⟨v2,rfl,f2,z2⟩;have C3:=ae (aa HY v2 _ w2 _ (ay.frame ((aa Z1).gkept f2 bb) _ _ (aa RY1)) z2 (by rw [List.length_append,List.length_append];simp;omega));rw [aa QZ] at C3;have G2:=ae ((aa G1).trans f2);obtain ⟨x0,x1,x2⟩:=three ((aa G2).blk (aa E0) lL (aa HQ));clear f2 z2 C2 RY1 Z1 HY;go_wp2_with fail;refine (aa C3).mono ?_;rintro e w3 ⟨v3,rfl,f3,z3⟩;have C4:=ae (gH base b rel v3 _ ⟨d,⟨#[]⟩,0⟩ w3 z3 (by rw [List.length_append,List.length_append,List.length_append];simp;omega));have G3:=ae ((aa G2).trans f3);clear f3 z3 C3 x0 x1 x2;go_wp2_with fail;refine (aa C4).mono ?_;rintro e w4 ⟨v4,rfl,f4,z4⟩;have C5:=ae (xQ base b rel v4 _ (l.length+cx.length) w4 z4 (by simp;omega) (by simp));rw [aa HE,aa Qb] at C5;have G4:=ae ((aa G3).trans f4);clear f4 z4 C4;go_wp2_with fail;refine (aa C5).mono ?_;rintro e w5 ⟨rfl,f5,z5⟩;have G5:=ae ((aa F0).trans ((aa G4).trans f5));have Z5:=ae z5;clear f5 z5 C5;go_wp2;go_end0;exact ⟨_,rfl,aa G5,aa Z5⟩
theorem DF (base b:Nat) (rel:RJ) (bb:Nat) (x y:Ex) (hx:JC base b rel bb x) (hy:JC base b rel bb y) (v:Value) (l:List Ins) (p:Nat) (vx vy:Value) (w:World) (rx:ay bb w x vx) (ry:ay bb w y vy) (h:WI base w b rel v l) (hl:l.length+8*((aj x).length+(aj y).length)+8≤80000):
  Calls Tryz.prog 152 #[.pointer (some ⟨b,0,none⟩),.iface 245 (.agg #[.int .i64 p,vx,vy])] w (kI base b rel v l (aB rel l.length x++[⟨9,⟨#[]⟩,l.length+(aB rel l.length x).length+(aB rel (l.length+(aB rel l.length x).length+1) y).length+2⟩]++aB rel (l.length+(aB rel l.length x).length+1) y++[⟨7,⟨#[]⟩,0⟩]) w):=by
 have f0:=bJ;have f1:=df;have f2:=dh;have f3:=aX;have f4:=bK;have f5:=bO;have g1:=dX;have g2:=dY;have g3:=bQ;have g4:=dC;have g5:=dE;have h2:=dZ;have h3:=bU;have h4:=dD;have h5:=dF;have i3:=bg;have i4:=bY;have i5:=bZ;have j4:=dI;have j5:=dJ;have k5:=di;obtain ⟨xa,xv,rfl⟩:=rx.isI;obtain ⟨ya,yv,rfl⟩:=ry.isI;have b0:=(Below.refl w.heap.size w).alloc RH (.cells #[.int .i64 p,.iface xa xv,.iface ya yv] 245);have F0:=ae (kX.of_below (b:=b) (v:=v) b0);have C:=ae (rF base b rel bb x y hx hy v l p 7 _ _ _ (rx.but (But.of_below b0)) (ry.but (But.of_below b0)) (h.below b0) hl);clear h b0 rx ry hx hy;go_enter Tryz.func152,Tryz.ntmps152;go_wp2_with fail;refine (aa C).mono ?_;rintro e w1 ⟨v1,rfl,hf,hz⟩;have HF:=ae ((aa F0).trans hf);have HZ:=ae hz;clear hf hz C;go_wp2;go_end0;exact ⟨_,rfl,aa HF,aa HZ⟩
theorem DI (base b:Nat) (rel:RJ) (bb:Nat) (x y:Ex) (hx:JC base b rel bb x) (hy:JC base b rel bb y) (v:Value) (l:List Ins) (p:Nat) (vx vy:Value) (w:World) (rx:ay bb w x vx) (ry:ay bb w y vy) (h:WI base w b rel v l) (hl:l.length+8*((aj x).length+(aj y).length)+8≤80000):
  Calls Tryz.prog 152 #[.pointer (some ⟨b,0,none⟩),.iface 246 (.agg #[.int .i64 p,vx,vy])] w (kI base b rel v l (aB rel l.length x++[⟨9,⟨#[]⟩,l.length+(aB rel l.length x).length+(aB rel (l.length+(aB rel l.length x).length+1) y).length+2⟩]++aB rel (l.length+(aB rel l.length x).length+1) y++[⟨8,⟨#[]⟩,0⟩]) w):=by
 have f0:=bJ;have f1:=df;have f2:=dh;have f3:=aX;have f4:=bK;have f5:=bO;have g1:=dX;have g2:=dY;have g3:=bQ;have g4:=dC;have g5:=dE;have h2:=dZ;have h3:=bU;have h4:=dD;have h5:=dF;have i3:=bg;have i4:=bY;have i5:=bZ;have j4:=dI;have j5:=dJ;have k5:=di;obtain ⟨xa,xv,rfl⟩:=rx.isI;obtain ⟨ya,yv,rfl⟩:=ry.isI;have b0:=(Below.refl w.heap.size w).alloc RH (.cells #[.int .i64 p,.iface xa xv,.iface ya yv] 246);have F0:=ae (kX.of_below (b:=b) (v:=v) b0);have C:=ae (rF base b rel bb x y hx hy v l p 8 _ _ _ (rx.but (But.of_below b0)) (ry.but (But.of_below b0)) (h.below b0) hl);clear h b0 rx ry hx hy;go_enter Tryz.func152,Tryz.ntmps152;go_wp2_with fail;refine (aa C).mono ?_;rintro e w1 ⟨v1,rfl,hf,hz⟩;have HF:=ae ((aa F0).trans hf);have HZ:=ae hz;clear hf hz C;go_wp2;go_end0;exact ⟨_,rfl,aa HF,aa HZ⟩
theorem DJ (base b:Nat) (rel:RJ) (bb:Nat) (e:Ex):JC base b rel bb e:=by
 induction e using Ex.ind with
 |h0 n r=>
  intro v l w val h hw hl;have hp:(aj ⟨n,none,r⟩).length=1:=by simp [aj]
  rw [hp] at hl
  rcases h with ⟨hk,sv,rfl,hrow⟩|⟨hk,rfl⟩|⟨hk,rfl⟩
  ·have he:aB rel l.length ⟨n,none,r⟩=eO l.length rel ⟨4,⟨#[]⟩,0⟩:=by simp [aB,hk]
   obtain ⟨sa,sc,rfl⟩:=ak hrow;rw [he];exact DD base b rel v l _ _ _ _ w hw (by omega)
  ·have he:aB rel l.length ⟨n,none,r⟩=[⟨2,n.n1,0⟩]:=by simp [aB,hk]
   rw [he];exact F8 base b rel v l _ _ w hw (by omega)
  ·have he:aB rel l.length ⟨n,none,r⟩=eO l.length n.n1 ⟨5,n.n2,0⟩:=by simp [aB,hk]
   rw [he];exact F9 base b rel v l _ _ _ _ _ w hw (by omega)
 |h1 n a=>intro v l w val h;exact h.elim
 |h2 n a c iha Kc=>
  intro v l w val h hw hl;have hpl:(aj ⟨n,some a,some c⟩).length=(aj a).length+1+(aj c).length:=by simp [aj];omega
  rw [hpl] at hl;obtain ⟨vx,vy,rfl,rx,ry⟩:=h
  by_cases k3:n.kind=3
  ·have ht:iJ n.kind=244:=by simp [iJ,k3]
   rw [aB,if_pos k3,ht];exact xU base b rel bb a c iha Kc v l _ _ _ w rx ry hw (by omega)
  ·by_cases k4:n.kind=4
   ·have ht:iJ n.kind=245:=by simp [iJ,k4]
    rw [aB,if_neg k3,if_pos k4,ht];exact DF base b rel bb a c iha Kc v l _ _ _ w rx ry hw (by omega)
   ·have ht:iJ n.kind=246:=by simp [iJ,k3,k4]
    rw [aB,if_neg k3,if_neg k4,ht];exact DI base b rel bb a c iha Kc v l _ _ _ w rx ry hw (by omega)
def eF (t:RJ) (e:Ex):List Ins:=aB t 0 e++[⟨0,⟨#[]⟩,0⟩]
def Mh (k t:RJ) (e:Ex) (w:World) (e':Ending) (w':World):Prop:=∃v',e'=.returned (.agg #[.string k,.string t,v'])∧Below w.heap.size w w'∧w'.ownsRow w.heap.size 298 3 v' (eF t e).length ((eF t e).flatMap xO)
theorem KH {P:Program} {fn:Func} {p:Tmp} {ty:TypeId} (h:fn.results=#[.cell p ty]) (tmps:Array Value) (w:World) (g:Nat) (cs':Array Value) (t:TypeId) (d:TypeDesc)
  (hp:tmps.getD p undef=.pointer (some ⟨g,0,none⟩)) (hb:∃cs,ag w g cs t∧cs=cs')
  (hu:P.underlying ty=some d) (hd:(match d with| .struct _| .array _ _=>true|_=>false)=true) (hi:(P.info? ty).map (·.size)=some cs'.size):
  (results fn tmps).run P w=.ok (.agg cs') w:=by
 obtain ⟨cs,hb,rfl⟩:=hb;exact results_cell_row h tmps w g t cs (0,0) d hp hb hu hd hi
theorem Ap (bb:Nat) (k t:RJ) (pl:Nat) (e:Ex) (val:Value) (w:World) (h:ay bb w e val) (hp:(aj e).length≤1000):
  Calls Tryz.prog 101 #[.agg #[.string k,.int .i64 pl,.string t,val]] w (Mh k t e w):=by
 obtain ⟨va,vv,rfl⟩:=h.isI;have b0:Below w.heap.size w (((w.alloc (.cells #[.string k,.int .i64 pl,.string t,.iface va vv] 198)).alloc (.cells #[.string ⟨#[]⟩,.string ⟨#[]⟩,.slice none 0 0] 201)).alloc (.cells #[.string t,.slice none 0 0] 293)):=(((Below.refl w.heap.size w).alloc RH _).alloc (by simp) _).alloc (by simp;omega) _;have Z0:WI w.heap.size (((w.alloc (.cells #[.string k,.int .i64 pl,.string t,.iface va vv] 198)).alloc (.cells #[.string ⟨#[]⟩,.string ⟨#[]⟩,.slice none 0 0] 201)).alloc (.cells #[.string t,.slice none 0 0] 293)) (w.heap.size+1+1) t (.slice none 0 0) []:=⟨ag.new' _ _ _ _ (by simp),World.ownsRow_nil _ _ _ _,by omega⟩;have R0:=ae (((ag.new w #[.string k,.int .i64 pl,.string t,.iface va vv] 198).alloc (.cells #[.string ⟨#[]⟩,.string ⟨#[]⟩,.slice none 0 0] 201)).alloc (.cells #[.string t,.slice none 0 0] 293));have L0:=ae ((ag.new' (w.alloc (.cells #[.string k,.int .i64 pl,.string t,.iface va vv] 198)) #[.string ⟨#[]⟩,.string ⟨#[]⟩,.slice none 0 0] 201 (w.heap.size+1) (by simp)).alloc (.cells #[.string t,.slice none 0 0] 293));have lc:=jG t e 0;have C1:=ae (DJ w.heap.size (w.heap.size+1+1) t bb e (.slice none 0 0) [] _ _ (h.but (But.of_below b0)) Z0 (by simp;omega));have HZ:=ae Z0;have B0:=ae b0;rw [List.length_nil] at C1;clear h b0 Z0;go_enter Tryz.func101,Tryz.ntmps101;go_wp2_with fail;generalize (((w.alloc (.cells #[.string k,.int .i64 pl,.string t,.iface va vv] 198)).alloc (.cells #[.string ⟨#[]⟩,.string ⟨#[]⟩,.slice none 0 0] 201)).alloc (.cells #[.string t,.slice none 0 0] 293))=W at*;refine (aa C1).mono ?_;rintro e' w1 ⟨v1,rfl,f1,z1⟩;rw [List.nil_append] at z1;have C2:=ae (gH w.heap.size (w.heap.size+1+1) t v1 _ ⟨0,⟨#[]⟩,0⟩ w1 z1 (by omega));have F1:=ae f1;clear f1 z1 C1;go_wp2_with fail;refine (aa C2).mono ?_;rintro e' w2 ⟨v2,rfl,f2,z2⟩;have F2:=(aa F1).trans f2;have R2:=F2.blk (aa R0) (by omega) (by simp [Value.ownBlock]);have L2:=F2.blk (aa L0) (by omega) (by simp [Value.ownBlock]);obtain ⟨q0,q1,q2,q3⟩:w2.cell? ⟨w.heap.size,0,none⟩=some (.string k)∧w2.cell? ⟨w.heap.size,1,none⟩=some (.int .i64 pl)∧w2.cell? ⟨w.heap.size,2,none⟩=some (.string t)∧w2.cell? ⟨w.heap.size,3,none⟩=some (.iface va vv):=⟨R2.cell rfl,R2.cell rfl,R2.cell rfl,R2.cell rfl⟩;obtain ⟨y0,y1,y2⟩:=three L2;have yz:=L2.fz;obtain ⟨va2,vc2,rfl⟩:=ak z2.row;obtain ⟨u0,u1⟩:=Al z2.blk;have HB:=ae ((aa B0).trans (F2.below (aa HZ)));have HL:=ae L2;have HW:=ae z2;clear f2 z2 C2 F2 R2 L2;go_wp2_with fail;have hn:(eF t e).length=(aB t 0 e).length+1:=by simp [eF]
 refine bodyPost_ret (v:=.agg #[.string k,.string t,.slice va2 ((aB t 0 e).length+1) vc2]) (KH Tryz.results101 _ _ (w.heap.size+1) _ 201 _ rfl ?hB Tryz.underlying201 rfl (by kernel_rfl)) rfl ?post
 case hB=>exact ⟨_,(by with_reducible repeat (first|exact aa HL|apply ag.alloc|apply ag.drew|apply ag.set|(apply ag.other;case ha=>exact (by first|omega|(simp;omega)|simp)))),by rfl⟩
 case post=>
  have K0:=aa HL;have O0:=(aa HW).row;have O1:=bD O0 K0 (by decide) 0 (.string k);have K1:=K0.set 0 (.string k);have O2:=bD O1 K1 (by decide) 1 (.string t);have K2:=K1.set 1 (.string t);have O3:=bD O2 K2 (by decide) 2 (.slice va2 ((aB t 0 e).length+1) vc2);refine ⟨_,rfl,(by with_reducible repeat (first|exact aa HB|refine Below.drew ?_|(refine Below.setCell ?_ ?_ _;rotate_left;exact (by first|omega|(simp;omega)|simp))|(refine Below.alloc ?_ ?_ _;rotate_left;exact (by first|omega|(simp;omega)|simp)))),?_⟩;rw [hn];rw [show (aB t 0 e++[(⟨0,⟨#[]⟩,0⟩:Ins)]).length=(aB t 0 e).length+1 from by simp] at O3;exact O3
def ed (t:Tu):Sj:=⟨t.sub,t.who,t.of⟩
def nO (a b:Nat):Nat:=a&&& (18446744073709551615-b)
structure DK where
 at_:Nat
 tup:Nat
 st:List Nat
structure ui where
 K:Sj→Nat
 cs:List Tg
 kd:RJ
 id:RJ
 ts:List Tu
def fq (v:ui) (i:Ins) (s:DK):Option DK:=
 if 50000<s.st.length then none else
 match i.does,s.st with
 |1,st=>some ⟨s.at_+1,s.tup,0::st⟩
 |2,st=>some ⟨s.at_+1,s.tup,v.K ⟨v.kd,v.id,i.rel⟩::st⟩
 |3,st=>some ⟨if iX v.ts s.tup i.rel=0 then i.to else s.at_+1,iX v.ts s.tup i.rel,st⟩
 |4,st=>if 0<s.tup then (v.ts[s.tup-1]?).map fun t=>⟨s.at_+1,s.tup,gU v.K v.cs (ed t)::st⟩ else none
 |5,st=>if 0<s.tup then (v.ts[s.tup-1]?).map fun t=>⟨s.at_+1,s.tup,pX v.K (ed t) i.rel::st⟩ else none
 |6,b::a::st=>some ⟨s.at_+1,s.tup,(b|||a)::st⟩
 |7,b::a::st=>some ⟨s.at_+1,s.tup,(b&&& a)::st⟩
 |8,b::a::st=>some ⟨s.at_+1,s.tup,nO a b::st⟩
 |9,b::st=>some ⟨if b=0 then i.to else s.at_+1,s.tup,b::st⟩
 |10,st=>some ⟨i.to,s.tup,st⟩
 |_,_=>none
def xX (v:ui) (code:List Ins) (s:DK):Option DK:=(code[s.at_]?).bind fun i=>fq v i s
def iF (v:ui) (code:List Ins):Nat→DK→Option DK
 |0,s=>some s
 |n+1,s=>(xX v code s).bind (iF v code n)
theorem xY (v:ui) (code:List Ins):∀n m s,iF v code (n+m) s=(iF v code n s).bind (iF v code m)
 |0,m,s=>by simp [iF]
 |n+1,m,s=>by
  rw [show n+1+m=(n+m)+1 by omega,iF,iF]
  cases h:xX v code s with
  |none=>rfl
  |some s'=>simp only [Option.bind_some];exact xY v code n m s'
def Goes (v:ui) (code:List Ins) (s s':DK):Prop:=∃n,iF v code n s=some s'
theorem Goes.trans {v:ui} {code:List Ins} {a b c:DK} (h:Goes v code a b) (k:Goes v code b c):Goes v code a c:=by
 obtain ⟨n,hn⟩:=h;obtain ⟨m,hm⟩:=k;exact ⟨n+m,by rw [xY,hn];exact hm⟩
theorem Goes.one {v:ui} {code:List Ins} {s s':DK} {i:Ins} (hi:code[s.at_]? =some i) (h:fq v i s=some s'):Goes v code s s':=⟨1,by
 rw [iF,xX,hi,Option.bind_some,h]
 rfl⟩
def Bq:Ex→Prop
 |⟨_,some x,some y⟩=>Bq x∧Bq y
 |⟨_,none,_⟩=>True
 |⟨_,some _,none⟩=>False
def gL (ts:List Tu) (r:RJ) (f:Tu→Nat) (a:Nat):Nat:=(ts.filter fun t=>decide (t.rel=r)).foldl (fun a t=>f t|||a) a
def bW (v:ui) (rel:RJ):Ex→Nat
 |⟨n,some x,some y⟩=>if n.kind=3 then bW v rel y|||bW v rel x else if bW v rel x=0 then 0 else if n.kind=4 then bW v rel y&&& bW v rel x else nO (bW v rel x) (bW v rel y)
 |⟨n,none,_⟩=>if n.kind=0 then gL v.ts rel (fun t=>gU v.K v.cs (ed t)) 0 else if n.kind=1 then v.K ⟨v.kd,v.id,n.n1⟩ else gL v.ts n.n1 (fun t=>pX v.K (ed t) n.n2) 0
 |⟨_,some _,none⟩=>0
theorem uj {α:Type} {p:α→Bool}:∀{l:List α} {i:Nat},l.findIdx? p=some i→∃x,l[i]? =some x∧l.filter p=x::(l.drop (i+1)).filter p
 | [],i,h=>by simp at h
 |y::l,i,h=>by
  rw [List.findIdx?_cons] at h
  by_cases hy:p y=true
  ·rw [if_pos hy] at h
   cases h
   exact ⟨y,rfl,by rw [List.filter_cons_of_pos hy];rfl⟩
  ·rw [if_neg hy] at h
   cases hl:l.findIdx? p with
   |none=>rw [hl] at h;simp at h
   |some j=>
    rw [hl] at h;simp only [Option.map_some,Option.some.injEq] at h;subst h;obtain ⟨x,h1,h2⟩:=uj hl;exact ⟨x,h1,by rw [List.filter_cons_of_neg hy,h2];rfl⟩
theorem DL {ts:List Tu} {r:RJ} {f:Tu→Nat} {k a:Nat}:(iX ts k r=0→gL (ts.drop k) r f a=a)∧(∀m,iX ts k r=m+1→k≤m∧∃t,ts[m]? =some t∧gL (ts.drop k) r f a=gL (ts.drop (m+1)) r f (f t|||a)):=by
 unfold iX
 cases h:(ts.drop k).findIdx? (fun t=>decide (t.rel=r)) with
 |none=>
  refine ⟨fun _=> ?_,fun m hm=>by simp at hm⟩;rw [List.findIdx?_eq_none_iff] at h;unfold gL;rw [List.filter_eq_nil_iff.2 (fun x hx=>by simpa using h x hx)]
  rfl
 |some i=>
  refine ⟨fun h0=>by simp at h0,fun m hm=> ?_⟩;have hm':m=k+i:=by simp at hm;omega
  subst hm';obtain ⟨x,h1,h2⟩:=uj h;rw [List.getElem?_drop] at h1;refine ⟨by omega,x,h1,?_⟩;unfold gL;rw [h2,List.drop_drop,List.foldl_cons,Nat.add_assoc]
theorem Ga (ts:List Tu) (k:Nat) (r:RJ):iX ts k r≤ts.length:=by
 unfold iX
 split
 ·rename_i i h;have:=(List.findIdx?_eq_some_iff_getElem.1 h).1;simp at this;omega
 ·omega
section
variable {v:ui} {code:List Ins}
theorem DN (m:Nat) (r:RJ) (each:Ins) (f:Tu→Nat) (st:List Nat) (hst:st.length<40000)
  (h1:code[m+1]? =some ⟨3,r,m+5⟩) (h2:code[m+2]? =some each) (h3:code[m+3]? =some ⟨6,⟨#[]⟩,0⟩) (h4:code[m+4]? =some ⟨10,⟨#[]⟩,m+1⟩)
  (hf:∀k t a,0<k→v.ts[k-1]? =some t→fq v each ⟨m+2,k,a::st⟩=some ⟨m+3,k,f t::a::st⟩):
  ∀d k a,v.ts.length-k=d→k≤v.ts.length→Goes v code ⟨m+1,k,a::st⟩ ⟨m+5,0,gL (v.ts.drop k) r f a::st⟩:=by
 intro d
 induction d using Nat.strongRecOn with
 |_ d ih=>
  intro k a hd hk;have G:=DL (ts:=v.ts) (r:=r) (f:=f) (k:=k) (a:=a)
  cases hn:iX v.ts k r with
  |zero=>
   rw [G.1 hn];exact Goes.one h1 (by simp [fq,hn];omega)
  |succ q=>
   obtain ⟨hkq,t,ht,he⟩:=G.2 q hn;have hq:=(List.getElem?_eq_some_iff.1 ht).1;rw [he];refine (Goes.one (s':=⟨m+2,q+1,a::st⟩) h1 (by simp [fq,hn];omega)).trans ?_;refine (Goes.one h2 (hf (q+1) t a (by omega) (by simpa using ht))).trans ?_;refine (Goes.one (s':=⟨m+4,q+1,(f t|||a)::st⟩) h3 (by simp [fq];omega)).trans ?_;refine (Goes.one (s':=⟨m+1,q+1,(f t|||a)::st⟩) h4 (by simp [fq];omega)).trans ?_;exact ih (v.ts.length-(q+1)) (by omega) (q+1) _ rfl (by omega)
def Seg (code:List Ins) (m:Nat) (l:List Ins):Prop:=∀i,i<l.length→code[m+i]? =l[i]?
theorem Seg.left {m:Nat} {l1 l2:List Ins} (h:Seg code m (l1++l2)):Seg code m l1:=fun i hi=>by
 rw [h i (by rw [List.length_append];omega),List.getElem?_append_left hi]
theorem Seg.right {m:Nat} {l1 l2:List Ins} (h:Seg code m (l1++l2)):Seg code (m+l1.length) l2:=fun i hi=>by
 rw [Nat.add_assoc,h (l1.length+i) (by rw [List.length_append];omega),List.getElem?_append_right (by omega)]
 congr 1
 omega
theorem Seg.head {m:Nat} {x:Ins} {l:List Ins} (h:Seg code m (x::l)):code[m]? =some x:=by simpa using h 0 (by simp)
theorem jH (rel:RJ):∀(e:Ex),Bq e→∀(m:Nat) (st:List Nat),Seg code m (aB rel m e)→st.length+(aB rel m e).length<40000→Goes v code ⟨m,0,st⟩ ⟨m+(aB rel m e).length,0,bW v rel e::st⟩
 |⟨n,some x,some y⟩,hw,m,st,hc,hl=>by
  unfold Bq at hw;obtain ⟨hx,hy⟩:=hw;unfold aB at hc hl ⊢;unfold bW
  by_cases h3:n.kind=3
  ·rw [if_pos h3] at hc hl;rw [if_pos h3,if_pos h3];simp only [List.length_append,List.length_singleton] at hl ⊢;have X:=jH rel x hx m st hc.left.left (by omega);have Y:=jH rel y hy (m+(aB rel m x).length) (bW v rel x::st) hc.left.right (by simp;omega);have Z:=hc.right.head;rw [List.length_append] at Z;refine X.trans (Y.trans ?_);rw [show m+((aB rel m x).length+(aB rel (m+(aB rel m x).length) y).length+1)=m+(aB rel m x).length+(aB rel (m+(aB rel m x).length) y).length+1 by omega];exact Goes.one (by rw [Nat.add_assoc];exact Z) (by simp [fq];omega)
  ·rw [if_neg h3] at hc hl;rw [if_neg h3,if_neg h3];simp only [List.length_append,List.length_singleton] at hl ⊢;have X:=jH rel x hx m st hc.left.left.left (by omega);have S:=hc.left.left.right.head;have Y0:=hc.left.right;rw [List.length_append,List.length_singleton,←Nat.add_assoc] at Y0;have Y:=jH rel y hy (m+(aB rel m x).length+1) (bW v rel x::st) Y0 (by simp;omega);have Z:=hc.right.head;simp only [List.length_append,List.length_singleton] at Z;refine X.trans ?_
   by_cases h0:bW v rel x=0
   ·rw [if_pos h0];refine Goes.one S ?_;simp [fq,h0];omega
   ·rw [if_neg h0];refine (Goes.one (s':=⟨m+(aB rel m x).length+1,0,bW v rel x::st⟩) S (by simp [fq,h0];omega)).trans (Y.trans ?_);rw [show m+((aB rel m x).length+1+(aB rel (m+(aB rel m x).length+1) y).length+1)=m+(aB rel m x).length+1+(aB rel (m+(aB rel m x).length+1) y).length+1 by omega];refine Goes.one (by rw [show m+(aB rel m x).length+1+(aB rel (m+(aB rel m x).length+1) y).length=m+((aB rel m x).length+1+(aB rel (m+(aB rel m x).length+1) y).length) by omega];exact Z) ?_
    by_cases h4:n.kind=4
    ·simp [fq,h4];omega
    ·simp [fq,h4];omega
 |⟨n,none,r⟩,hw,m,st,hc,hl=>by
  unfold aB at hc hl ⊢;unfold bW;have loop:∀(r:RJ) (each:Ins) (f:Tu→Nat),Seg code m (eO m r each)→st.length+5<40000→(∀k t a,0<k→v.ts[k-1]? =some t→fq v each ⟨m+2,k,a::st⟩=some ⟨m+3,k,f t::a::st⟩)→Goes v code ⟨m,0,st⟩ ⟨m+5,0,gL v.ts r f 0::st⟩:=by
   intro r each f hs hl hf;have h0:=hs 0 (by simp [eO]);have h1:=hs 1 (by simp [eO]);have h2:=hs 2 (by simp [eO]);have h3:=hs 3 (by simp [eO]);have h4:=hs 4 (by simp [eO]);refine (Goes.one (s':=⟨m+1,0,0::st⟩) h0 (by simp [fq];omega)).trans ?_;exact DN m r each f st (by omega) h1 h2 h3 h4 hf _ 0 0 rfl (by omega)
  by_cases h0:n.kind=0
  ·rw [if_pos h0] at hc hl;rw [if_pos h0,if_pos h0];exact loop rel ⟨4,⟨#[]⟩,0⟩ _ hc (by simpa [eO] using hl) (fun k t a hk ht=>by simp [fq,hk,ht];simp [eO] at hl;omega)
  ·rw [if_neg h0] at hc hl;rw [if_neg h0,if_neg h0]
   by_cases h1:n.kind=1
   ·rw [if_pos h1] at hc hl;rw [if_pos h1,if_pos h1];exact Goes.one hc.head (by simp at hl;simp [fq];omega)
   ·rw [if_neg h1] at hc hl;rw [if_neg h1,if_neg h1];exact loop n.n1 ⟨5,n.n2,0⟩ _ hc (by simpa [eO] using hl) (fun k t a hk ht=>by simp [fq,hk,ht];simp [eO] at hl;omega)
 |⟨n,some x,none⟩,hw,m,st,hc,hl=>by
  unfold Bq at hw;exact hw.elim
theorem DR (rel:RJ) (e:Ex) (hw:Bq e) (hl:(aB rel 0 e).length<40000):Goes v (eF rel e) ⟨0,0,[]⟩ ⟨(aB rel 0 e).length,0,[bW v rel e]⟩:=by
 have:=jH (v:=v) (code:=eF rel e) rel e hw 0 [] (fun i hi=>by unfold eF;rw [Nat.zero_add,List.getElem?_append_left hi]) (by simpa using hl)
 simpa using this
theorem Gb (rel:RJ) (e:Ex):(eF rel e)[(aB rel 0 e).length]? =some ⟨0,⟨#[]⟩,0⟩:=by
 unfold eF;rw [List.getElem?_append_right (by omega)];simp
end
