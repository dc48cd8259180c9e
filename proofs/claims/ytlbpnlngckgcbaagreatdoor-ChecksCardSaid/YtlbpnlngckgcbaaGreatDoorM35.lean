import Derived.Test.YtlbpnlngckgcbaaGreatDoorM28
import Derived.Test.YtlbpnlngckgcbaaGreatDoorM31
set_option linter.all false
set_option maxHeartbeats 4000000
set_option maxRecDepth 100000
namespace Go.Proofs.YtlbpnlngckgcbaaGreatDoor
open Go.RowKit Go.PlainAid Go.Proofs.Tryz
structure UQ(w:af)(x:Nat)(mv lv gv:ag)(ts:List Ty)(gs:List Tu):Prop where
 p:PU w x mv lv gv gs
 m:∃bm tl,MC bm w mv ts tl
 l:Rt ts lv w
variable {w:af} {base size n k:Nat} {e:TypeId} {v:ag} {xs:List ag}
theorem qQ(A:w.ownsRow base e size v n xs)(h:v.ownBlock=some k):∃m c,v=.slice (some ⟨k,0,none⟩) m c:=by
 rcases A.2 with ⟨rfl,_⟩|⟨g,cap,C,rfl,_⟩
 ·cases h
 simp only [Value.ownBlock,aK] at h;subst h;exact ⟨_,_,rfl⟩
section
variable {w w':af}{x:Nat}{mv lv gv:ag}{ts:List Ty}{gs:List Tu}
end
variable {aF cD:Prop}
abbrev gQ:=@Below.trans
def rA (A:aF:=by
 first|omega|(simp;omega)|simp):aF:=A
theorem Bh(x bm mv lv gv ts gs tl w)(Q:PU w x mv lv gv gs)(ap:MC bm w mv ts tl)(th rel)(hs:th.size<=1000)(aW:bQ th=true)(aU:rel.size<=maxLen)(aT:bp rel=true)(t)(aP:bL ts (aC th 58).1=some t)(r)(aR:bP t rel=some r)(aQ:kO w)(aX:1<w.heap.size):
  Calls prog 56 #[.pointer (some ⟨x,0,none⟩),.string th,.string rel] w fun e w'=>e=.returned (.tuple #[.agg #[.string (aC th 58).1,.string (aC th 58).2.1,.string rel],.int .i64 0])/\Below w.heap.size w w':=by
 have al:Below w.heap.size w (w.alloc tf):=(aw _ w).alloc az _;have U:=ai (et Dy th _ hs (aQ.below al aX) aM);rw [aW] at U;have ae:=ai (aB.new w #[.string ⟨#[]⟩,.string ⟨#[]⟩,.string ⟨#[]⟩] 102);have ad:=ai al;obtain ⟨aY,mn,mc,rfl⟩:=ap.form;have av:=ai (show ∀w',Below w.heap.size w w'->Calls prog 94 #[.agg #[.slice aY mn mc],.string (aC th 58).1,.string rel] w' fun e w''=>∃Z ac ab Y rv,e=.returned (.tuple #[.agg #[.int .i64 t.place,.string t.name,.slice Z ac ab],.agg #[.int .i64 r.place,.string r.name,.iface Y rv],.nilIface])/\Below w'.heap.size w' w'' from fun w' k=>by
  obtain ⟨Z,ac,ab,rl,Y,rv,_,_,_,a3⟩:=qa bm _ ts tl (aC th 58).1 rel w' (ap.below k) t aP r aR;exact a3.mono fun e w'' Q=>⟨Z,ac,ab,Y,rv,Q⟩)
 have ax:=ai (fun w=>gB rel w aU);have H:=ai Q;rw [aT] at ax;generalize aC th 58=X at*;obtain ⟨a,b,ok⟩:=X;simp only at U av ⊢;have a6:=Q.blk.lt;clear al aQ aX hs aW aU aT aP aR ap Q;go_enter func56,ntmps56;go_wp2_with fail;refine (ak U).mono ?_;rintro e w1 ⟨rfl,V⟩;have b1:=V.alloc V.size (df a b);have R:=ai (ad.u.trans (b1.mono ad.u.size));have ay:=ai (ae.u.below b1);have ag:=ai (aB.new w1 #[.string a,.string b] 98);have n1:¬(w1.heap.size=w.heap.size):=by have:=(ae.u.below V).lt;omega
 have n2:¬(w.heap.size=w1.heap.size):=aj;clear b1 V U ad ae;go_wp2_with fail;refine (ak ax _).mono ?_;rintro e bj ⟨rfl,rfl⟩;generalize a5:w1.alloc (df a b)=W at*;have ar:=ai (aw W.heap.size W);have ah:=H.u.blk.below R.u;obtain ⟨aZ,bh,bi⟩:=three ah;have t0:W.cell? ⟨w1.heap.size,0,none⟩=some (.string a):=ag.u.cell rfl;have t1:W.cell? ⟨w1.heap.size,1,none⟩=some (.string b):=ag.u.cell rfl;go_wp2_with fail;have l1:=R.u.size;have a8:=ag.u.lt;have a7:=ay.u.lt;have ba:¬(x=W.heap.size):=by have:=ah.lt;omega
 have a9:¬(w1.heap.size=W.heap.size):=aj;have nr:¬(w.heap.size=W.heap.size):=aj;clear ah
 go_region_held3 (fun w'=>w'.cell? ⟨x,0,none⟩=some (.slice aY mn mc)/\w'.cell? ⟨w1.heap.size,0,none⟩=some (.string a)) ((first|go_keep|refine ⟨am aZ ?_,am t0 ?_⟩<;>(with_reducible repeat (first|exact J.u|exact ar.u|refine Below.drew ?_|(refine sr ?_ ?_ _;rotate_left;exact jZ)|(refine Below.alloc ?_ ?_ _;rotate_left;exact jZ)))))
  ((go_at_call 94;refine (ak av _ (show Below w.heap.size w _ from (bB R))).mono ?_;rintro e bk ⟨Z,ac,ab,Y,rv,rfl,I⟩;have J:=ai (gQ (a:=W) (B:=W.heap.size) (show Below W.heap.size W _ from (bB ar)) (I.mono rA));have d0:=am aZ J.u;have d1:=am t0 J.u;(first|(have C:=(aB.new W #[.int .i64 0,.string ⟨#[]⟩,.slice none 0 0] 110).drew.below I;obtain ⟨aA,aD,aE⟩:=three C;have aL:=C.fz;have aJ:=C.lt;clear C)|(have D:=(aB.new W #[.int .i64 0,.string ⟨#[]⟩,.nilIface] 159).drew.below I;obtain ⟨aG,aH,aI⟩:=three D;have aN:=D.fz;have aK:=D.lt;clear D)|(have C:=((aB.new W #[.int .i64 0,.string ⟨#[]⟩,.slice none 0 0] 110).alloc ce).drew.below I;have D:=(aB.new' (W.alloc cM) #[.int .i64 0,.string ⟨#[]⟩,.nilIface] 159 (W.heap.size+1) an).drew.below I;obtain ⟨aA,aD,aE⟩:=three C;have aL:=C.fz;have aJ:=C.lt;obtain ⟨aG,aH,aI⟩:=three D;have aN:=D.fz;have aK:=D.lt;clear C D)|(have D:=((aB.new W #[.int .i64 0,.string ⟨#[]⟩,.nilIface] 159).alloc cM).drew.below I;have C:=(aB.new' (W.alloc ce) #[.int .i64 0,.string ⟨#[]⟩,.slice none 0 0] 110 (W.heap.size+1) an).drew.below I;obtain ⟨aA,aD,aE⟩:=three C;have aL:=C.fz;have aJ:=C.lt;obtain ⟨aG,aH,aI⟩:=three D;have aN:=D.fz;have aK:=D.lt;clear C D)|skip);have a4:=J.u.size;clear I))
 all_goals (
  go_wp2_with fail;refine (pj _).mono ?_;rintro e bl ⟨rfl,aO⟩;have O:=gQ (a:=W) (B:=W.heap.size) (show Below W.heap.size W _ from (bB J)) (aO.mono q8);have a2:=ai (R.u.trans (O.mono l1));have t4:=am t0 O;have t5:=am t1 O;have af:=ai (ay.u.below O);obtain ⟨bb,be,bf⟩:=three af.u;have bg:=af.u.fz;clear aO O;go_wp2;refine bc (v:=.tuple #[.agg #[.string a,.string b,.string rel],.int .i64 0]) (bC results56 _ _ w.heap.size _ 102 _ _ rfl rfl ?hB underlying102 rfl au) rfl ?post
  case hB=>exact ⟨_,(b4 af),aS⟩
  case post=>exact ⟨rfl,(bB a2)⟩)
end Go.Proofs.YtlbpnlngckgcbaaGreatDoor
namespace Go.Proofs
open Go.Shelf Go.RowKit Go.Lib
variable {P:Program}{ρ:Ren}
theorem YtlbpnlngckgcbaaGreatDoor.cutL_one(C:Lays.n220 P ρ)(s:ByteArray)(c:UInt8)(w:World)(hs:s.size<=9223372036854775807):
  Calls P (ρ.f 220) #[.string s,.string ⟨#[c]⟩] w fun e w'=>e=.returned (.tuple #[.string ⟨(Lib.cut s.data.toList [c]).1.toArray⟩,.string ⟨(Lib.cut s.data.toList [c]).2.1.toArray⟩,.bool (Lib.cut s.data.toList [c]).2.2])/\∃n,w'=w.drewN n:=by
 have ho:Lib.indexByte s.data.toList c=Lib.index s.data.toList (⟨#[c]⟩:ByteArray).data.toList:=by
  have h1:=(Lib.one s ⟨#[c]⟩ rfl).symm;have h2:((c.toNat:Nat):Int).toNat.toUInt8=c:=an;have Q:Lib.indexByte s.data.toList ((c.toNat:Nat):Int).toNat.toUInt8=Lib.indexB s ⟨#[c]⟩:=h1;rw [h2] at Q;exact Q
 have t3:=C.t3;have t4:=C.t4;have t9:=C.t9;have Y:∀w,(isAgg (ρ.t 3)).run P w=.ok false w:=run_isAgg_plain C.t3 rfl;have Z:∀w,(isAgg (ρ.t 4)).run P w=.ok false w:=run_isAgg_plain C.t4 rfl;have ab:∀w,(isAgg (ρ.t 9)).run P w=.ok false w:=run_isAgg_plain C.t9 rfl;have ad:∀args w,(callFunc (ρ.f 219) args).run P w=.ok (.enter (ρ.f 219) args) w:=enters_of C.f219 au rfl;have ag:=C.mixed;have al:=C.z3;have ah:=C.v3;have am:=C.z4;have ai:=C.v4;have ap:=C.z9;have ak:=C.v9
 rcases Lib.indexB_cases s ⟨#[c]⟩ with D|⟨i,D,R⟩
 ·obtain ⟨e1,I,J⟩:=Lib.cutB_miss s ⟨#[c]⟩ D;rw [show [c]=(⟨#[c]⟩:ByteArray).data.toList from rfl,e1,I,J];have O:Lib.indexByte s.data.toList c= -1:=ho.trans D;go_enter C.f220,Body.n220_ntmps ρ;go_wp2_with (go_at_fn (ρ.f 219);refine (Any.stringslite_Index_one {C with} _ _ _).mono ?_;rintro e w' ⟨rfl,rfl⟩;rw [O]);go_ret3;exact ⟨rfl,0,rfl⟩
 ·obtain ⟨e1,I,J⟩:=Lib.cutB_hit s ⟨#[c]⟩ i D;rw [show [c]=(⟨#[c]⟩:ByteArray).data.toList from rfl,e1,I,J];have O:Lib.indexByte s.data.toList c=(i:Int):=ho.trans D;have U:(⟨#[c]⟩:ByteArray).size=1:=rfl;rw [U] at R;have c1:(0:Int)<=↑i:=aj;have c2:(↑i:Int)<=↑s.size:=aj;have c3:(0:Int)<=↑i+1:=aj;have ac:(↑i+1:Int)<=↑s.size:=aj;go_enter C.f220,Body.n220_ntmps ρ;go_wp2_with (go_at_fn (ρ.f 219);refine (Any.stringslite_Index_one {C with} _ _ _).mono ?_;rintro e w' ⟨rfl,rfl⟩;rw [O])
  go_region_o
  go_wp2;go_ret3;exact ⟨rfl,1,rfl⟩
theorem YtlbpnlngckgcbaaGreatDoor.cutS_one(C:Lays.n145 P ρ)(s:ByteArray)(c:UInt8)(w:World)(hs:s.size<=9223372036854775807):
  Calls P (ρ.f 145) #[.string s,.string ⟨#[c]⟩] w fun e w'=>e=.returned (.tuple #[.string ⟨(Lib.cut s.data.toList [c]).1.toArray⟩,.string ⟨(Lib.cut s.data.toList [c]).2.1.toArray⟩,.bool (Lib.cut s.data.toList [c]).2.2])/\∃n,w'=w.drewN n:=by
 have t4:=C.t4;have t9:=C.t9;have t59:=C.t59;have D:∀w,(isAgg (ρ.t 4)).run P w=.ok false w:=run_isAgg_plain C.t4 rfl;have J:∀w,(isAgg (ρ.t 9)).run P w=.ok false w:=run_isAgg_plain C.t9 rfl;have I:∀w,(isAgg (ρ.t 59)).run P w=.ok false w:=run_isAgg_plain C.t59 rfl;have O:∀args w,(callFunc (ρ.f 220) args).run P w=.ok (.enter (ρ.f 220) args) w:=enters_of C.f220 au rfl;have Q:=C.mixed;have Y:=C.z4;have R:=C.v4;have ab:=C.z9;have V:=C.v9;have Z:=C.z59;have U:=C.v59;go_enter C.f145,Body.n145_ntmps ρ;go_wp2_with (go_at_fn (ρ.f 220);refine (YtlbpnlngckgcbaaGreatDoor.cutL_one {C with} _ _ _ hs).mono ?_;rintro e w' ⟨rfl,n,rfl⟩);go_ret3;exact ⟨rfl,n,rfl⟩
end Go.Proofs
namespace Go.Proofs.YtlbpnlngckgcbaaGreatDoor
open Go.RowKit Go.PlainAid Go.Proofs.Tryz
theorem Pv(s c w)(hs:s.size<=maxLen):Calls Tryz.prog 92 #[.string s,.string (mk [c])] w fun e w'=>e=.returned (.tuple #[.string (aC s c).1,.string (aC s c).2.1,.bool (aC s c).2.2])/\Below w.heap.size w w':=by
 refine (cutS_one Tryz.lays145 s c w (by unfold maxLen at hs;omega)).mono ?_;rintro e w' ⟨rfl,n,rfl⟩;refine ⟨?_,⟨rfl,rfl,rfl,cm _,fun _ _=>rfl⟩⟩;rw [EP s.data.toList c]
 rfl
theorem nX(s w)(hs:s.size<=maxLen):
  Calls Tryz.prog 55 #[.string s] w fun e w'=>e=.returned (.tuple #[.agg #[.string (aC s 58).1,.string (aC s 58).2.1],.bool (bQ s)])/\Below w.heap.size w w':=by
 unfold bQ;have z:=eb s 58;have U:Below w.heap.size w (w.alloc Cv):=(aw _ w).alloc az _;have O:=ai (Pv s 58 (w.alloc Cv) hs);have J:=ai U;have R:=ai (aB.new w #[.string ⟨#[]⟩,.string ⟨#[]⟩] 98);generalize aC s 58=X at*;obtain ⟨a,b,ok⟩:=X;simp only at z O ⊢;have V:=ai (fun w=>gB a w aj);have Cq:=ai (fun w=>gB b w aj);generalize bp a=p at*;generalize bp b=q at*;clear z U hs;go_enter Tryz.func55,Tryz.ntmps55;go_wp2_with fail;refine (ak O).mono ?_;rintro e w1 ⟨rfl,Q⟩;have B1:=ai (J.u.trans (Q.mono J.u.size));have R1:=ai (R.u.below Q);clear Q O J R;have ab:=R1.u.fz;have Y:w1.cell? ⟨w.heap.size,0,none⟩=some (.string ⟨#[]⟩):=R1.u.cell rfl;have Z:w1.cell? ⟨w.heap.size,1,none⟩=some (.string ⟨#[]⟩):=R1.u.cell rfl;go_wp2_with fail;refine (V.u _).mono ?_;rintro e ac ⟨rfl,rfl⟩
 cases p
 ·skip
  exact JY
 ·exact P7
variable {s:ByteArray}
theorem rE(h:bQ s=true):s.size<=1000:=by
 unfold bQ at h;simp only [bO] at h;have h1:=c8 h.1;have h2:=c8 h.2;have A:=gT (iu h.2);omega
end Go.Proofs.YtlbpnlngckgcbaaGreatDoor
namespace Go.Proofs.YtlbpnlngckgcbaaGreatDoor
open Go.RowKit Go.PlainAid Go.Proofs.Tryz
theorem Ec(x bm mv lv gv ts gs tl w)(J:PU w x mv lv gv gs)(V:MC bm w mv ts tl)(th rel)(hs:th.size<=1000)(aW:bQ th=true)(aU:rel.size<=maxLen)(aT:bp rel=true)(aR:∀t,bL ts (aC th 58).1=some t->bP t rel=none)(aP:Laid w)(aQ:kO w)(aX:1<w.heap.size):
  Calls prog 56 #[.pointer (some ⟨x,0,none⟩),.string th,.string rel] w fun e w'=>e=.returned (.tuple #[.agg #[.string (aC th 58).1,.string (aC th 58).2.1,.string rel],.int .i64 5])/\Below w.heap.size w w':=by
 have al:Below w.heap.size w (w.alloc tf):=(aw _ w).alloc az _;have U:=ai (et Dy th _ hs (aQ.below al aX) aM);rw [aW] at U;have ae:=ai (aB.new w #[.string ⟨#[]⟩,.string ⟨#[]⟩,.string ⟨#[]⟩] 102);have ad:=ai al;obtain ⟨aY,mn,mc,rfl⟩:=V.form;have av:=ai (show ∀w',Below w.heap.size w w'->Calls prog 94 #[.agg #[.slice aY mn mc],.string (aC th 58).1,.string rel] w' fun e w''=>∃a0 a1 Z ac ab,e=.returned (.tuple #[.agg #[.int .i64 a0,.string a1,.slice Z ac ab],.agg #[.int .i64 0,.string ⟨#[]⟩,.nilIface],bY 5])/\Below w'.heap.size w' w'' from fun w' k=>by
  cases ap:bL ts (aC th 58).1 with
  |none=>exact (oq bm _ ts tl (aC th 58).1 rel w' (V.below k) ap).mono fun e w'' J=>⟨_,_,_,_,_,J⟩
  |some t=>
   obtain ⟨Z,ac,ab,a3⟩:=ot bm _ ts tl (aC th 58).1 rel w' (V.below k) t ap (aR t ap);exact a3.mono fun e w'' J=>⟨_,_,Z,ac,ab,J⟩)
 have a4:=ai (show ∀w',Below w.heap.size w w'->Laid w' from fun w' k=>aP.below k aj);have ax:=ai (fun w=>gB rel w aU);have H:=ai J;rw [aT] at ax;generalize aC th 58=X at*;obtain ⟨a,b,ok⟩:=X;simp only at U av ⊢;have a7:=J.blk.lt;clear al aQ aX hs aW aU aT aR V J aP;go_enter func56,ntmps56;go_wp2_with fail;refine (ak U).mono ?_;rintro e w1 ⟨rfl,Y⟩;have b1:=Y.alloc Y.size (df a b);have Q:=ai (ad.u.trans (b1.mono ad.u.size));have ay:=ai (ae.u.below b1);have ag:=ai (aB.new w1 #[.string a,.string b] 98);have n1:¬(w1.heap.size=w.heap.size):=by have:=(ae.u.below Y).lt;omega
 have n2:¬(w.heap.size=w1.heap.size):=aj;clear b1 Y U ad ae;go_wp2_with fail;refine (ak ax _).mono ?_;rintro e bk ⟨rfl,rfl⟩;generalize a6:w1.alloc (df a b)=W at*;have ar:=ai (aw W.heap.size W);have ah:=H.u.blk.below Q.u;obtain ⟨aZ,bi,bj⟩:=three ah;have t0:W.cell? ⟨w1.heap.size,0,none⟩=some (.string a):=ag.u.cell rfl;have t1:W.cell? ⟨w1.heap.size,1,none⟩=some (.string b):=ag.u.cell rfl;go_wp2_with fail;have l1:=Q.u.size;have a9:=ag.u.lt;have a8:=ay.u.lt;have bb:¬(x=W.heap.size):=by have:=ah.lt;omega
 have ba:¬(w1.heap.size=W.heap.size):=aj;have nr:¬(w.heap.size=W.heap.size):=aj;clear ah
 go_region_held3 (fun w'=>w'.cell? ⟨x,0,none⟩=some (.slice aY mn mc)/\w'.cell? ⟨w1.heap.size,0,none⟩=some (.string a)) ((first|go_keep|refine ⟨am aZ ?_,am t0 ?_⟩<;>(with_reducible repeat (first|exact O.u|exact ar.u|refine Below.drew ?_|(refine sr ?_ ?_ _;rotate_left;exact jZ)|(refine Below.alloc ?_ ?_ _;rotate_left;exact jZ)))))
  ((go_at_call 94;refine (ak av _ (show Below w.heap.size w _ from (bB Q))).mono ?_;rintro e bl ⟨a0,a1,Z,ac,ab,rfl,I⟩;have O:=ai (gQ (a:=W) (B:=W.heap.size) (show Below W.heap.size W _ from (bB ar)) (I.mono rA));have d0:=am aZ O.u;have d1:=am t0 O.u;(first|(have C:=(aB.new W #[.int .i64 0,.string ⟨#[]⟩,.slice none 0 0] 110).drew.below I;obtain ⟨aA,aD,aE⟩:=three C;have aL:=C.fz;have aJ:=C.lt;clear C)|(have D:=(aB.new W #[.int .i64 0,.string ⟨#[]⟩,.nilIface] 159).drew.below I;obtain ⟨aG,aH,aI⟩:=three D;have aN:=D.fz;have aK:=D.lt;clear D)|(have C:=((aB.new W #[.int .i64 0,.string ⟨#[]⟩,.slice none 0 0] 110).alloc ce).drew.below I;have D:=(aB.new' (W.alloc cM) #[.int .i64 0,.string ⟨#[]⟩,.nilIface] 159 (W.heap.size+1) an).drew.below I;obtain ⟨aA,aD,aE⟩:=three C;have aL:=C.fz;have aJ:=C.lt;obtain ⟨aG,aH,aI⟩:=three D;have aN:=D.fz;have aK:=D.lt;clear C D)|(have D:=((aB.new W #[.int .i64 0,.string ⟨#[]⟩,.nilIface] 159).alloc cM).drew.below I;have C:=(aB.new' (W.alloc ce) #[.int .i64 0,.string ⟨#[]⟩,.slice none 0 0] 110 (W.heap.size+1) an).drew.below I;obtain ⟨aA,aD,aE⟩:=three C;have aL:=C.fz;have aJ:=C.lt;obtain ⟨aG,aH,aI⟩:=three D;have aN:=D.fz;have aK:=D.lt;clear C D)|skip);have a5:=O.u.size;clear I))
 all_goals (
  go_wp2_with fail;refine (lD 5 _ (a4.u _ (Q.u.trans ((show Below W.heap.size W _ from (bB O)).mono l1)))).mono ?_;rintro e bn ⟨rfl,aO⟩;have R:=gQ (a:=W) (B:=W.heap.size) (show Below W.heap.size W _ from (bB O)) (aO.mono q8);have a2:=ai (Q.u.trans (R.mono l1));have t4:=am t0 R;have t5:=am t1 R;have af:=ai (ay.u.below R);obtain ⟨be,bf,bg⟩:=three af.u;have bh:=af.u.fz;clear aO R;go_wp2;refine bc (v:=.tuple #[.agg #[.string a,.string b,.string rel],.int .i64 5]) (bC results56 _ _ w.heap.size _ 102 _ _ rfl rfl ?hB underlying102 rfl au) rfl ?post
  case hB=>exact ⟨_,(b4 af),aS⟩
  case post=>exact ⟨rfl,(bB a2)⟩)
theorem Ed(x th rel w)(hs:th.size<=maxLen)(U:rel.size<=maxLen)(Y:(bQ th&&bp rel)=false):
  Calls prog 56 #[.pointer (some ⟨x,0,none⟩),.string th,.string rel] w fun e w'=>e=.returned (.tuple #[.agg #[.string ⟨#[]⟩,.string ⟨#[]⟩,.string ⟨#[]⟩],.int .i64 2])/\Below w.heap.size w w':=by
 have R:Below w.heap.size w (w.alloc tf):=(aw _ w).alloc az _;have J:=ai (nX th (w.alloc tf) hs);have O:=ai (aB.new w #[.string ⟨#[]⟩,.string ⟨#[]⟩,.string ⟨#[]⟩] 102);have I:=ai R;have V:=ai (fun w=>gB rel w U);generalize bp rel=fr at*;generalize bQ th=tp at*;generalize aC th 58=X at*;obtain ⟨a,b,ok⟩:=X;simp only at J ⊢;clear R hs U;go_enter func56,ntmps56;go_wp2_with fail;refine (ak J).mono ?_;rintro e w1 ⟨rfl,D⟩;have b1:=D.alloc D.size (df a b);have Q:=ai (I.u.trans (b1.mono I.u.size));have C:=ai (O.u.below b1);have n1:¬(w1.heap.size=w.heap.size):=by have:=(O.u.below D).lt;omega
 have n2:¬(w.heap.size=w1.heap.size):=aj;obtain ⟨Z,ab,ac⟩:=three C.u;have ad:=C.u.fz;clear b1 D J I O
 cases tp
 ·go_wp2;refine bc (v:=.tuple #[.agg #[.string ⟨#[]⟩,.string ⟨#[]⟩,.string ⟨#[]⟩],.int .i64 2]) (bC results56 _ _ w.heap.size _ 102 _ _ rfl rfl ?hB underlying102 rfl au) rfl ?post
  case hB=>exact ⟨_,(b4 C),aS⟩
  case post=>exact ⟨rfl,(bB Q)⟩
 ·cases fr
  ·go_wp2_with fail;refine (V.u _).mono ?_;rintro e ae ⟨rfl,rfl⟩;go_wp2;refine bc (v:=.tuple #[.agg #[.string ⟨#[]⟩,.string ⟨#[]⟩,.string ⟨#[]⟩],.int .i64 2]) (bC results56 _ _ w.heap.size _ 102 _ _ rfl rfl ?hB underlying102 rfl au) rfl ?post
   case hB=>exact ⟨_,(b4 C),aS⟩
   case post=>exact ⟨rfl,(bB Q)⟩
  cases Y
