import Derived.Test.YtlbpnlngckgcbaaGreatDoorM26
import Derived.Test.YtlbpnlngckgcbaaGreatDoorM24
set_option linter.all false
set_option maxHeartbeats 4000000
set_option maxRecDepth 100000
namespace Go.Proofs.YtlbpnlngckgcbaaGreatDoor
open Go.RowKit Go.PlainAid Go.Proofs.Tryz
structure UQ(w:af)(x:Nat)(mv lv gv:ag)(ts:List Ty)(gs:List Tu):Prop where
 p:PU w x mv lv gv gs
 m:∃bm tl,MC bm w mv ts tl
 l:YN ts lv w
def MQ(T:TypeId):Prop:=(T=207\/T=159\/T=110)\/LT T
variable {w:af} {base size n k:Nat} {e:TypeId} {v:ag} {xs:List ag}
def oA(h:w.ownsRow base e size v n xs)(A:v.ownBlock=some k):∃m c,v=.slice (some ⟨k,0,none⟩) m c:=by
 rcases h.2 with ⟨rfl,_⟩|⟨g,cap,C,rfl,_⟩
 ·cases A
 simp only [Value.ownBlock,aL] at A;subst A;exact ⟨_,_,rfl⟩
section
variable {w w':af}{x:Nat}{mv lv gv:ag}{ts:List Ty}{gs:List Tu}
def UQ.keep{S:Nat->Prop}(h:UQ w x mv lv gv ts gs)(k:bG S w w')(D:∀k,AC x gv k->¬S k)(I:∀(k:Nat)(cs:Array ag)(T:TypeId)(f:Nat×Nat),S k->w.heap[k]? =some (Obj.cells cs T f)->¬MQ T):UQ w' x mv lv gv ts gs where
 p:=⟨k.blk h.p.blk (D _ (.inl rfl)),cC h.p.row (fun g cs f J A=>k.block g (lt_of_some A) (D g (.inr (oA h.p.row J)))),h.p.apart,h.p.most⟩
 m:=by
  obtain ⟨bm,tl,Q⟩:=h.m;exact ⟨bm,tl,Q.kt (fun g cs T f A C=>k.block g (lt_of_some A) (fun hs=>I g cs T f hs A (.inl C))) k.size⟩
 l:=by
  obtain ⟨qs,h1,h2⟩:=h.l;exact ⟨qs,h1.frame (fun g cs T f A C=>k.block g (lt_of_some A) (fun hs=>I g cs T f hs A (.inr C))),h2⟩
def UQ.below(h:UQ w x mv lv gv ts gs)(k:an w w'):UQ w' x mv lv gv ts gs:=h.keep (S:=fun _=>False) (.of_below k) (fun _ _ e=>e) (fun _ _ _ _ e=>e.elim)
end
variable {aA aU:Prop}
def zw (h:aA:=by
 first|omega|(simp;omega)|simp):aA:=h
def Sy(x bm mv lv gv ts gs tl w)(h:PU w x mv lv gv gs)(al:MC bm w mv ts tl)(th rel)(hs:th.size<=1000)(aW:cg th=true)(aV:rel.size<=maxLen)(aS:bz rel=true)(t)(aP:bW ts (aG th 58).1=some t)(r)(aR:bT t rel=some r)(aQ:mT w)(aX:1<w.heap.size):
  Calls prog 56 #[.pointer (some ⟨x,0,none⟩),.string th,.string rel] w fun e w'=>e=.returned (.tuple #[.agg #[.string (aG th 58).1,.string (aG th 58).2.1,.string rel],.int .i64 0])/\an w w':=by
 have ah:an w (w.alloc ve):=(az _ w).alloc aD _;have R:=ai (iR VQ th _ hs (aQ.below ah aX) aM);rw [aW] at R;have ad:=ai (aE.new w Am 102);have ac:=ai ah;obtain ⟨aY,mn,mc,rfl⟩:=al.form;have au:=ai (show ∀w',an w w'->Calls prog 94 #[.agg #[.slice aY mn mc],.string (aG th 58).1,.string rel] w' fun e w''=>∃Y ab Z V rv,e=.returned (.tuple #[.agg #[.int .i64 t.place,.string t.name,.slice Y ab Z],.agg #[.int .i64 r.place,.string r.name,.iface V rv],.nilIface])/\an w' w'' from fun w' k=>by
  obtain ⟨Y,ab,Z,rl,V,rv,_,_,_,a3⟩:=rF bm _ ts tl (aG th 58).1 rel w' (al.below k) t aP r aR;exact a3.mono fun e w'' h=>⟨Y,ab,Z,V,rv,h⟩)
 have av:=ai (fun w=>gA rel w aV);have H:=ai h;rw [aS] at av;generalize aG th 58=X at*;obtain ⟨a,b,ok⟩:=X;simp only at R au ⊢;have a6:=h.blk.lt;clear ah aQ aX hs aW aV aS aP aR al h;go_enter func56,ntmps56;go_wp2_with fail;refine (ak R).mono ?_;rintro e w1 ⟨rfl,U⟩;have b1:=U.alloc U.size (en a b);have Q:=ai (ac.u.trans (b1.mono ac.u.size));have ax:=ai (ad.u.below b1);have af:=ai (aE.new w1 (py a b) 98);have n1:¬(w1.heap.size=w.heap.size):=by have:=(ad.u.below U).lt;omega
 have n2:¬(w.heap.size=w1.heap.size):=aj;clear b1 U R ac ad;go_wp2_with fail;refine (ak av _).mono ?_;rintro e bj ⟨rfl,rfl⟩;generalize a5:w1.alloc (en a b)=W at*;have ap:=ai (az W.heap.size W);have ag:=H.u.blk.below Q.u;obtain ⟨aZ,bh,bi⟩:=three ag;have t0:W.cell? ⟨w1.heap.size,0,none⟩=some (.string a):=af.u.cell rfl;have t1:W.cell? ⟨w1.heap.size,1,none⟩=some (.string b):=af.u.cell rfl;go_wp2_with fail;have l1:=Q.u.size;have a8:=af.u.lt;have a7:=ax.u.lt;have ba:¬(x=W.heap.size):=by have:=ag.lt;omega
 have a9:¬(w1.heap.size=W.heap.size):=aj;have nr:¬(w.heap.size=W.heap.size):=aj;clear ag
 go_region_held3 (fun w'=>w'.cell? ⟨x,0,none⟩=some (.slice aY mn mc)/\w'.cell? ⟨w1.heap.size,0,none⟩=some (.string a)) ((first|go_keep|refine ⟨am aZ ?_,am t0 ?_⟩<;>(with_reducible repeat (first|exact I.u|exact ap.u|refine Below.drew ?_|(refine Below.setCell ?_ ?_ _;rotate_left;exact oM)|(refine Below.alloc ?_ ?_ _;rotate_left;exact oM)))))
  ((go_at_call 94;refine (ak au _ ((cd Q):an w _)).mono ?_;rintro e bk ⟨Y,ab,Z,V,rv,rfl,D⟩;have I:=ai (Below.trans (a:=W) (B:=W.heap.size) ((cd ap):an W _) (D.mono zw));have d0:=am aZ I.u;have d1:=am t0 I.u;(first|(have A:=(aE.new W eX 110).drew.below D;obtain ⟨ay,aB,aC⟩:=three A;have aL:=A.fz;have aJ:=A.lt;clear A)|(have C:=(aE.new W eC 159).drew.below D;obtain ⟨aF,aH,aI⟩:=three C;have aN:=C.fz;have aK:=C.lt;clear C)|(have A:=((aE.new W eX 110).alloc cI).drew.below D;have C:=(aE.new' (W.alloc cY) eC 159 (W.heap.size+1) ar).drew.below D;obtain ⟨ay,aB,aC⟩:=three A;have aL:=A.fz;have aJ:=A.lt;obtain ⟨aF,aH,aI⟩:=three C;have aN:=C.fz;have aK:=C.lt;clear A C)|(have C:=((aE.new W eC 159).alloc cY).drew.below D;have A:=(aE.new' (W.alloc cI) eX 110 (W.heap.size+1) ar).drew.below D;obtain ⟨ay,aB,aC⟩:=three A;have aL:=A.fz;have aJ:=A.lt;obtain ⟨aF,aH,aI⟩:=three C;have aN:=C.fz;have aK:=C.lt;clear A C)|skip);have a4:=I.u.size;clear D))
 all_goals (
  go_wp2_with fail;refine (vw _).mono ?_;rintro e bl ⟨rfl,aO⟩;have J:=Below.trans (a:=W) (B:=W.heap.size) ((cd I):an W _) (aO.mono yM);have a2:=ai (Q.u.trans (J.mono l1));have t4:=am t0 J;have t5:=am t1 J;have ae:=ai (ax.u.below J);obtain ⟨bb,be,bf⟩:=three ae.u;have bg:=ae.u.fz;clear aO J;go_wp2;refine bq (v:=.tuple #[.agg #[.string a,.string b,.string rel],.int .i64 0]) (bR results56 _ _ w.heap.size _ 102 _ _ rfl rfl ?hB underlying102 rfl aw) rfl ?post
  case hB=>exact ⟨_,(cM ae),bc⟩
  case post=>exact ⟨rfl,(cd a2)⟩)
end Go.Proofs.YtlbpnlngckgcbaaGreatDoor
namespace Go.Proofs
open Go.Shelf Go.RowKit Go.Lib
variable {P:Program}{ρ:Ren}
def YtlbpnlngckgcbaaGreatDoor.cutL_one(A:Lays.n220 P ρ)(s:ByteArray)(c:UInt8)(w:World)(hs:s.size<=9223372036854775807):
  Calls P (ρ.f 220) #[.string s,.string ⟨#[c]⟩] w fun e w'=>e=.returned (.tuple #[.string ⟨(Lib.cut s.data.toList [c]).1.toArray⟩,.string ⟨(Lib.cut s.data.toList [c]).2.1.toArray⟩,.bool (Lib.cut s.data.toList [c]).2.2])/\∃n,w'=w.drewN n:=by
 have ho:Lib.indexByte s.data.toList c=Lib.index s.data.toList (⟨#[c]⟩:ByteArray).data.toList:=by
  have h1:=(Lib.one s ⟨#[c]⟩ rfl).symm;have h2:((c.toNat:Nat):Int).toNat.toUInt8=c:=ar;have Q:Lib.indexByte s.data.toList ((c.toNat:Nat):Int).toNat.toUInt8=Lib.indexB s ⟨#[c]⟩:=h1;rw [h2] at Q;exact Q
 have t3:=A.t3;have t4:=A.t4;have t9:=A.t9;have Y:∀w,(isAgg (ρ.t 3)).run P w=.ok false w:=run_isAgg_plain A.t3 rfl;have Z:∀w,(isAgg (ρ.t 4)).run P w=.ok false w:=run_isAgg_plain A.t4 rfl;have ab:∀w,(isAgg (ρ.t 9)).run P w=.ok false w:=run_isAgg_plain A.t9 rfl;have ad:∀args w,(callFunc (ρ.f 219) args).run P w=.ok (.enter (ρ.f 219) args) w:=enters_of A.f219 aw rfl;have ag:=A.mixed;have al:=A.z3;have ah:=A.v3;have am:=A.z4;have ai:=A.v4;have an:=A.z9;have ak:=A.v9
 rcases Lib.indexB_cases s ⟨#[c]⟩ with C|⟨i,C,R⟩
 ·obtain ⟨e1,D,I⟩:=Lib.cutB_miss s ⟨#[c]⟩ C;rw [show [c]=(⟨#[c]⟩:ByteArray).data.toList from rfl,e1,D,I];have J:Lib.indexByte s.data.toList c= -1:=ho.trans C;go_enter A.f220,Body.n220_ntmps ρ;go_wp2_with (go_at_fn (ρ.f 219);refine (Any.stringslite_Index_one {A with} _ _ _).mono ?_;rintro e w' ⟨rfl,rfl⟩;rw [J]);go_ret3;exact ⟨rfl,0,rfl⟩
 ·obtain ⟨e1,D,I⟩:=Lib.cutB_hit s ⟨#[c]⟩ i C;rw [show [c]=(⟨#[c]⟩:ByteArray).data.toList from rfl,e1,D,I];have J:Lib.indexByte s.data.toList c=(i:Int):=ho.trans C;have U:(⟨#[c]⟩:ByteArray).size=1:=rfl;rw [U] at R;have c1:(0:Int)<=↑i:=aj;have c2:(↑i:Int)<=↑s.size:=aj;have c3:(0:Int)<=↑i+1:=aj;have ac:(↑i+1:Int)<=↑s.size:=aj;go_enter A.f220,Body.n220_ntmps ρ;go_wp2_with (go_at_fn (ρ.f 219);refine (Any.stringslite_Index_one {A with} _ _ _).mono ?_;rintro e w' ⟨rfl,rfl⟩;rw [J])
  go_region_o
  go_wp2;go_ret3;exact ⟨rfl,1,rfl⟩
def YtlbpnlngckgcbaaGreatDoor.cutS_one(A:Lays.n145 P ρ)(s:ByteArray)(c:UInt8)(w:World)(hs:s.size<=9223372036854775807):
  Calls P (ρ.f 145) #[.string s,.string ⟨#[c]⟩] w fun e w'=>e=.returned (.tuple #[.string ⟨(Lib.cut s.data.toList [c]).1.toArray⟩,.string ⟨(Lib.cut s.data.toList [c]).2.1.toArray⟩,.bool (Lib.cut s.data.toList [c]).2.2])/\∃n,w'=w.drewN n:=by
 have t4:=A.t4;have t9:=A.t9;have t59:=A.t59;have C:∀w,(isAgg (ρ.t 4)).run P w=.ok false w:=run_isAgg_plain A.t4 rfl;have I:∀w,(isAgg (ρ.t 9)).run P w=.ok false w:=run_isAgg_plain A.t9 rfl;have D:∀w,(isAgg (ρ.t 59)).run P w=.ok false w:=run_isAgg_plain A.t59 rfl;have J:∀args w,(callFunc (ρ.f 220) args).run P w=.ok (.enter (ρ.f 220) args) w:=enters_of A.f220 aw rfl;have Q:=A.mixed;have Y:=A.z4;have R:=A.v4;have ab:=A.z9;have V:=A.v9;have Z:=A.z59;have U:=A.v59;go_enter A.f145,Body.n145_ntmps ρ;go_wp2_with (go_at_fn (ρ.f 220);refine (YtlbpnlngckgcbaaGreatDoor.cutL_one {A with} _ _ _ hs).mono ?_;rintro e w' ⟨rfl,n,rfl⟩);go_ret3;exact ⟨rfl,n,rfl⟩
end Go.Proofs
namespace Go.Proofs.YtlbpnlngckgcbaaGreatDoor
open Go.RowKit Go.PlainAid Go.Proofs.Tryz
def WJ(s c w)(hs:s.size<=maxLen):Calls Tryz.prog 92 #[.string s,.string (mk [c])] w fun e w'=>e=.returned (.tuple #[.string (aG s c).1,.string (aG s c).2.1,.bool (aG s c).2.2])/\an w w':=by
 refine (cutS_one Tryz.lays145 s c w (by unfold maxLen at hs;omega)).mono ?_;rintro e w' ⟨rfl,n,rfl⟩;refine ⟨?_,⟨rfl,rfl,rfl,bY _,fun _ _=>rfl⟩⟩;rw [I4 s.data.toList c]
 rfl
def xM(s w)(hs:s.size<=maxLen):
  Calls Tryz.prog 55 #[.string s] w fun e w'=>e=.returned (.tuple #[.agg #[.string (aG s 58).1,.string (aG s 58).2.1],.bool (cg s)])/\an w w':=by
 unfold cg;have z:=eM s 58;have R:an w (w.alloc FE):=(az _ w).alloc aD _;have D:=ai (WJ s 58 (w.alloc FE) hs);have C:=ai R;have Q:=ai (aE.new w #[.string ⟨#[]⟩,.string ⟨#[]⟩] 98);generalize aG s 58=X at*;obtain ⟨a,b,ok⟩:=X;simp only at z D ⊢;have J:=ai (fun w=>gA a w aj);have Cq:=ai (fun w=>gA b w aj);generalize bz a=p at*;generalize bz b=q at*;go_enter Tryz.func55,Tryz.ntmps55;go_wp2_with fail;refine (ak D).mono ?_;rintro e w1 ⟨rfl,I⟩;have B1:=ai (C.u.trans (I.mono C.u.size));have R1:=ai (Q.u.below I);have Y:=R1.u.fz;have U:w1.cell? ⟨w.heap.size,0,none⟩=some (.string ⟨#[]⟩):=R1.u.cell rfl;have V:w1.cell? ⟨w.heap.size,1,none⟩=some (.string ⟨#[]⟩):=R1.u.cell rfl;go_wp2_with fail;refine (J.u _).mono ?_;rintro e Z ⟨rfl,rfl⟩
 cases p
 ·skip
  exact Xe
 ·exact Xd
variable {s:ByteArray}
def EN(h:cg s=true):s.size<=1000:=by
 unfold cg at h;simp only [bM] at h;have h1:=di h.1;have h2:=di h.2;have A:=gY (iJ h.2);omega
end Go.Proofs.YtlbpnlngckgcbaaGreatDoor
namespace Go.Proofs.YtlbpnlngckgcbaaGreatDoor
open Go.RowKit Go.PlainAid Go.Proofs.Tryz
def Ix(x bm mv lv gv ts gs tl w)(h:PU w x mv lv gv gs)(U:MC bm w mv ts tl)(th rel)(hs:th.size<=1000)(aW:cg th=true)(aV:rel.size<=maxLen)(aS:bz rel=true)(aR:∀t,bW ts (aG th 58).1=some t->bT t rel=none)(aP:Laid w)(aQ:mT w)(aX:1<w.heap.size):
  Calls prog 56 #[.pointer (some ⟨x,0,none⟩),.string th,.string rel] w fun e w'=>e=.returned (.tuple #[.agg #[.string (aG th 58).1,.string (aG th 58).2.1,.string rel],.int .i64 5])/\an w w':=by
 have ah:an w (w.alloc ve):=(az _ w).alloc aD _;have R:=ai (iR VQ th _ hs (aQ.below ah aX) aM);rw [aW] at R;have ad:=ai (aE.new w Am 102);have ac:=ai ah;obtain ⟨aY,mn,mc,rfl⟩:=U.form;have au:=ai (show ∀w',an w w'->Calls prog 94 #[.agg #[.slice aY mn mc],.string (aG th 58).1,.string rel] w' fun e w''=>∃a0 a1 Y ab Z,e=.returned (.tuple #[.agg #[.int .i64 a0,.string a1,.slice Y ab Z],.agg #[.int .i64 0,.string ⟨#[]⟩,.nilIface],cj 5])/\an w' w'' from fun w' k=>by
  cases al:bW ts (aG th 58).1 with
  |none=>exact (pu bm _ ts tl (aG th 58).1 rel w' (U.below k) al).mono fun e w'' h=>⟨_,_,_,_,_,h⟩
  |some t=>
   obtain ⟨Y,ab,Z,a3⟩:=pw bm _ ts tl (aG th 58).1 rel w' (U.below k) t al (aR t al);exact a3.mono fun e w'' h=>⟨_,_,Y,ab,Z,h⟩)
 have a4:=ai (fun w' k=>aP.below k aj:∀w',an w w'->Laid w');have av:=ai (fun w=>gA rel w aV);have H:=ai h;rw [aS] at av;generalize aG th 58=X at*;obtain ⟨a,b,ok⟩:=X;simp only at R au ⊢;have a7:=h.blk.lt;clear ah aQ aX hs aW aV aS aR U h aP;go_enter func56,ntmps56;go_wp2_with fail;refine (ak R).mono ?_;rintro e w1 ⟨rfl,V⟩;have b1:=V.alloc V.size (en a b);have J:=ai (ac.u.trans (b1.mono ac.u.size));have ax:=ai (ad.u.below b1);have af:=ai (aE.new w1 (py a b) 98);have n1:¬(w1.heap.size=w.heap.size):=by have:=(ad.u.below V).lt;omega
 have n2:¬(w.heap.size=w1.heap.size):=aj;clear b1 V R ac ad;go_wp2_with fail;refine (ak av _).mono ?_;rintro e bk ⟨rfl,rfl⟩;generalize a6:w1.alloc (en a b)=W at*;have ap:=ai (az W.heap.size W);have ag:=H.u.blk.below J.u;obtain ⟨aZ,bi,bj⟩:=three ag;have t0:W.cell? ⟨w1.heap.size,0,none⟩=some (.string a):=af.u.cell rfl;have t1:W.cell? ⟨w1.heap.size,1,none⟩=some (.string b):=af.u.cell rfl;go_wp2_with fail;have l1:=J.u.size;have a9:=af.u.lt;have a8:=ax.u.lt;have bb:¬(x=W.heap.size):=by have:=ag.lt;omega
 have ba:¬(w1.heap.size=W.heap.size):=aj;have nr:¬(w.heap.size=W.heap.size):=aj;clear ag
 go_region_held3 (fun w'=>w'.cell? ⟨x,0,none⟩=some (.slice aY mn mc)/\w'.cell? ⟨w1.heap.size,0,none⟩=some (.string a)) ((first|go_keep|refine ⟨am aZ ?_,am t0 ?_⟩<;>(with_reducible repeat (first|exact I.u|exact ap.u|refine Below.drew ?_|(refine Below.setCell ?_ ?_ _;rotate_left;exact oM)|(refine Below.alloc ?_ ?_ _;rotate_left;exact oM)))))
  ((go_at_call 94;refine (ak au _ ((cd J):an w _)).mono ?_;rintro e bl ⟨a0,a1,Y,ab,Z,rfl,D⟩;have I:=ai (Below.trans (a:=W) (B:=W.heap.size) ((cd ap):an W _) (D.mono zw));have d0:=am aZ I.u;have d1:=am t0 I.u;(first|(have A:=(aE.new W eX 110).drew.below D;obtain ⟨ay,aB,aC⟩:=three A;have aL:=A.fz;have aJ:=A.lt;clear A)|(have C:=(aE.new W eC 159).drew.below D;obtain ⟨aF,aH,aI⟩:=three C;have aN:=C.fz;have aK:=C.lt;clear C)|(have A:=((aE.new W eX 110).alloc cI).drew.below D;have C:=(aE.new' (W.alloc cY) eC 159 (W.heap.size+1) ar).drew.below D;obtain ⟨ay,aB,aC⟩:=three A;have aL:=A.fz;have aJ:=A.lt;obtain ⟨aF,aH,aI⟩:=three C;have aN:=C.fz;have aK:=C.lt;clear A C)|(have C:=((aE.new W eC 159).alloc cY).drew.below D;have A:=(aE.new' (W.alloc cI) eX 110 (W.heap.size+1) ar).drew.below D;obtain ⟨ay,aB,aC⟩:=three A;have aL:=A.fz;have aJ:=A.lt;obtain ⟨aF,aH,aI⟩:=three C;have aN:=C.fz;have aK:=C.lt;clear A C)|skip);have a5:=I.u.size;clear D))
 all_goals (
  go_wp2_with fail;refine (pJ 5 _ (a4.u _ (J.u.trans (((cd I):an W _).mono l1)))).mono ?_;rintro e bn ⟨rfl,aO⟩;have Q:=Below.trans (a:=W) (B:=W.heap.size) ((cd I):an W _) (aO.mono yM);have a2:=ai (J.u.trans (Q.mono l1));have t4:=am t0 Q;have t5:=am t1 Q;have ae:=ai (ax.u.below Q);obtain ⟨be,bf,bg⟩:=three ae.u;have bh:=ae.u.fz;clear aO Q;go_wp2;refine bq (v:=.tuple #[.agg #[.string a,.string b,.string rel],.int .i64 5]) (bR results56 _ _ w.heap.size _ 102 _ _ rfl rfl ?hB underlying102 rfl aw) rfl ?post
  case hB=>exact ⟨_,(cM ae),bc⟩
  case post=>exact ⟨rfl,(cd a2)⟩)
def Iy(x th rel w)(hs:th.size<=maxLen)(Y:rel.size<=maxLen)(V:(cg th&&bz rel)=false):
  Calls prog 56 #[.pointer (some ⟨x,0,none⟩),.string th,.string rel] w fun e w'=>e=.returned (.tuple #[.agg #[.string ⟨#[]⟩,.string ⟨#[]⟩,.string ⟨#[]⟩],.int .i64 2])/\an w w':=by
 have U:an w (w.alloc ve):=(az _ w).alloc aD _;have J:=ai (xM th (w.alloc ve) hs);have Q:=ai (aE.new w Am 102);have D:=ai U;have R:=ai (fun w=>gA rel w Y);generalize bz rel=fr at*;generalize cg th=tp at*;generalize aG th 58=X at*;obtain ⟨a,b,ok⟩:=X;simp only at J ⊢;go_enter func56,ntmps56;go_wp2_with fail;refine (ak J).mono ?_;rintro e w1 ⟨rfl,C⟩;have b1:=C.alloc C.size (en a b);have I:=ai (D.u.trans (b1.mono D.u.size));have A:=ai (Q.u.below b1);have n1:¬(w1.heap.size=w.heap.size):=by have:=(Q.u.below C).lt;omega
 obtain ⟨Z,ab,ac⟩:=three A.u;have ad:=A.u.fz
 cases tp
 ·go_wp2;refine bq (v:=.tuple #[.agg #[.string ⟨#[]⟩,.string ⟨#[]⟩,.string ⟨#[]⟩],.int .i64 2]) (bR results56 _ _ w.heap.size _ 102 _ _ rfl rfl ?hB underlying102 rfl aw) rfl ?post
  case hB=>exact ⟨_,(cM A),bc⟩
  case post=>exact ⟨rfl,(cd I)⟩
 ·cases fr
  ·go_wp2_with fail;refine (R.u _).mono ?_;rintro e ae ⟨rfl,rfl⟩;go_wp2;refine bq (v:=.tuple #[.agg #[.string ⟨#[]⟩,.string ⟨#[]⟩,.string ⟨#[]⟩],.int .i64 2]) (bR results56 _ _ w.heap.size _ 102 _ _ rfl rfl ?hB underlying102 rfl aw) rfl ?post
   case hB=>exact ⟨_,(cM A),bc⟩
   case post=>exact ⟨rfl,(cd I)⟩
  cases V
