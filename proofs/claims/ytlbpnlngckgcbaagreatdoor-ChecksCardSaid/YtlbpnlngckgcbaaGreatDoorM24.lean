import Derived.Test.YtlbpnlngckgcbaaGreatDoorM21
import Derived.Test.YtlbpnlngckgcbaaGreatDoorM19
import Derived.Test.YtlbpnlngckgcbaaGreatDoorM18
import Derived.Test.YtlbpnlngckgcbaaGreatDoorM12
set_option linter.all false
set_option maxHeartbeats 4000000
set_option maxRecDepth 100000
namespace Go.Proofs.YtlbpnlngckgcbaaGreatDoor
open Go.RowKit Go.PlainAid Go.Proofs.Tryz
variable {b g B k base size n a:Nat} {cs:Array ag} {T e:TypeId} {w w' x y z:af} {mv lv gv v kv rv pv mp tv:ag} {gs:List Tu} {aF cD:Prop} {xs:List ag} {rl:List RV} {pl:List PV} {l:List PX} {ss:List ae} {s:ae}
structure bI(S:Nat->Prop)(w w':af):Prop where
 os:w'.os=w.os
 tape:w'.tape=w.tape
 output:w'.output=w.output
 size:w.heap.size<=w'.heap.size
 block:∀k,k<w.heap.size->¬S k->w'.heap[k]? =w.heap[k]?
section
variable {S:Nat->Prop}{x y z:af}
theorem bI.refl(S w):bI S w w:=⟨rfl,rfl,rfl,cm _,fun _ _ _=>rfl⟩
theorem bI.trans(h:bI S x y)(k:bI S y z):bI S x z:=
 ⟨k.os.trans h.os,k.tape.trans h.tape,k.output.trans h.output,aL h.size k.size,fun i hi hs=>(k.block i (cg hi h.size) hs).trans (h.block i hi hs)⟩
theorem bI.of_below(h:Below x.heap.size x y):bI S x y:=⟨h.os,h.tape,h.output,h.size,fun k A _=>h.block k A⟩
theorem bI.of_but(h:But b x y)(A:S b):bI S x y:=⟨h.os,h.tape,h.output,h.size,fun k C hs=>h.block k C (fun e=>hs (e▸A))⟩
theorem bI.mono{S'}(h:bI S x y)(hs:∀k,S k->S' k):bI S' x y:=⟨h.os,h.tape,h.output,h.size,fun k A hn=>h.block k A (fun e=>hn (hs k e))⟩
theorem bI.set(h:bI S x y){a}(ha:S a.block)(u):bI S x (y.setCell a u):=
 ⟨h.os,h.tape,h.output,by simpa using h.size,fun k A hs=>(dP _ _ _ _ (fun (e:k=a.block)=>hs (by rw [e];exact ha))).trans (h.block k A hs)⟩
theorem bI.drew(h:bI S x y):bI S x y.drew:=⟨h.os,h.tape,h.output,h.size,h.block⟩
theorem bI.blk(k:bI S x y)(h:aB x g cs T)(A:¬S g):aB y g cs T:=(k.block g h.lt A).trans h
theorem bI.below(k:bI S x y)(D:B<=x.heap.size)(C:∀g,S g->B<=g):Below B x y:=⟨k.os,k.tape,k.output,k.size,fun g I=>k.block g aj (fun e=>by have:=C g e;omega)⟩
end
structure PU(w:af)(b:Nat)(mv lv gv:ag)(gs:List Tu):Prop where
 blk:aB w b #[mv,lv,gv] 117
 row:w.ownsRow 0 123 6 gv gs.length (gs.flatMap jp)
 apart:∀g n c,gv=.slice (some ⟨g,0,none⟩) n c->g≠b
 most:gs.length<=1000
def yJ(b:Nat)(gv:ag)(k:Nat):Prop:=k=b\/∃n c,gv=.slice (some ⟨k,0,none⟩) n c
theorem PU.below(h:PU w b mv lv gv gs)(k:Below w.heap.size w w'):PU w' b mv lv gv gs:=⟨h.blk.below k,aE h.row k,h.apart,h.most⟩
theorem three{a b c}(h:aB w g #[a,b,c] T):w.cell? ⟨g,0,none⟩=some a/\w.cell? ⟨g,1,none⟩=some b/\w.cell? ⟨g,2,none⟩=some c:=⟨h.cell rfl,h.cell rfl,h.cell rfl⟩
theorem vW(C:Cw)(s:ae)(w:af)(I:kO w)(J:1<w.heap.size):
  Calls prog 60 #[.string s] w fun e w'=>e=.returned (.tuple #[.agg (mI s).1,.bool (mI s).2])/\Below w.heap.size w w':=by
 by_cases D:53<s.size
 ·exact CJ s w D
 ·exact zF C s w aj I J
abbrev gL:=@and_true
def Ko (D:aF:=by
 go_wp2_with fail;refine (ak C1).mono ?_;rintro e w1 ⟨rfl,A⟩;have C:=ai (A.alloc A.size (bV t.kind t.id t.rel t.sub t.who t.of));clear A C1;go_wp2;go_ret;exact jJ.same H.u C.u 2):aF:=D
attribute [local go_sem ↓] Go.wp_at_zero Go.wp_at_succ
theorem Ov{l x}(h:kk l x=k):k<l.length:=by
 unfold kk at h
 split at h
 ·rename_i i hi;rw [kg] at hi;obtain ⟨hl,_⟩:=hi;omega
 omega
def xK(gs:List Tu)(s:ae):Nat×List Tu:=if di s=false then (2,gs) else if kk gs (bU s).1<0 then (9,gs) else (0,gs.eraseIdx (kk gs (bU s).1).toNat)
def jJ(b:Nat)(mv lv gv:ag)(w:af)(r:Nat×List Tu)(e:Ending)(w':af):Prop:=∃h,e=.returned (.int .i64 r.1)/\PU w' b mv lv h r.2/\bI (yJ b gv) w w'/\(∀k,yJ b h k->yJ b gv k\/w.heap.size<=k)
theorem jJ.same(h:PU w b mv lv gv gs)(k:Below w.heap.size w w')(c):jJ b mv lv gv w (c,gs) (.returned (.int .i64 c)) w':=⟨gv,rfl,h.below k,.of_below k,fun _ h=> .inl h⟩
theorem vX(s):∃t:Tu,(mI s).1=#[.string t.kind,.string t.id,.string t.rel,.string t.sub,.string t.who,.string t.of]/\(di s=true->t=(bU s).1):=by
 cases D:di s
 ·by_cases C:53<s.size
  ·refine ⟨⟨⟨#[]⟩,⟨#[]⟩,⟨#[]⟩,⟨#[]⟩,⟨#[]⟩,⟨#[]⟩⟩,?_,an⟩;unfold mI;rw [if_pos C]
  refine ⟨⟨(aC (aC (aC s 64).1 35).1 58).1,(aC (aC (aC s 64).1 35).1 58).2.1,(aC (aC s 64).1 35).2.1,(aC (aC (aC s 64).2.1 35).1 58).1,(aC (aC (aC s 64).2.1 35).1 58).2.1,(aC (aC s 64).2.1 35).2.1⟩,?_,an⟩;unfold mI;rw [if_neg C]
 refine ⟨(bU s).1,?_,fun _=>rfl⟩;rw [(nt D).2.1]
theorem zS(al:Cw)(b:Nat)(s:ae)(w:af)(mv lv gv:ag)(gs:List Tu)(Q:PU w b mv lv gv gs)(av:kO w)(az:1<w.heap.size):
  Calls prog 35 #[.pointer (some ⟨b,0,none⟩),.string s] w (jJ b mv lv gv w (xK gs s)):=by
 have C1:=ai (vW al s w av az);have H:=ai Q;rw [EW s] at C1;obtain ⟨t,aH,ar⟩:=vX s;rw [aH] at C1;unfold xK;clear aH
 cases ho:di s
 ·rw [ho] at C1;rw [if_pos rfl];clear Q av az al ho ar;go_enter func35,ntmps35;exact Ko
 ·rw [if_neg an,<-ar ho];rw [ho] at C1;clear ho ar;obtain ⟨ga,gc,rfl⟩:=ay Q.row;have aY:=Q.most;have U:=ai (fun w' (k:Below w.heap.size w w')=>EO 0 _ gs t w' aj (aE Q.row k));have aW:=Q.blk.lt;clear Q av az al
  by_cases hi:kk gs t<0
  ·rw [if_pos hi];generalize kk gs t=n at*;go_enter func35,ntmps35;go_wp2_with fail;refine (ak C1).mono ?_;rintro e w1 ⟨rfl,O⟩;have J:=ai (O.alloc O.size (bV t.kind t.id t.rel t.sub t.who t.of));have Z:=ai (H.u.below J.u);have Y:=ai (aB.new w1 #[.string t.kind,.string t.id,.string t.rel,.string t.sub,.string t.who,.string t.of] 123);have aT:¬(w1.heap.size=b):=by have:=O.size;omega
   have aU:¬(b=w1.heap.size):=by have:=O.size;omega
   clear O C1;go_wp2_with fail;have l1:=J.u.size;generalize (w1.alloc (bV t.kind t.id t.rel t.sub t.who t.of))=W at*;obtain ⟨c0,c1,c2⟩:=three Z.u.blk;obtain ⟨t0,t1,t2,t3,t4,t5⟩:=Y.u.six;have V:=ai (ak U W.drew J.u.drew);clear U
   go_region_held3 (fun w'=>w'.cell? ⟨b,2,none⟩=some (.slice ga gs.length gc)/\w'.cell? ⟨w1.heap.size,0,none⟩=some (.string t.kind)/\w'.cell? ⟨w1.heap.size,1,none⟩=some (.string t.id)/\w'.cell? ⟨w1.heap.size,2,none⟩=some (.string t.rel)/\w'.cell? ⟨w1.heap.size,3,none⟩=some (.string t.sub)/\w'.cell? ⟨w1.heap.size,4,none⟩=some (.string t.who)/\w'.cell? ⟨w1.heap.size,5,none⟩=some (.string t.of)) (go_keep)
    ((go_at_call 68;refine V.u.mono ?_;rintro e ah ⟨rfl,ab⟩;have I:=ai (show Below W.heap.size W ah from (aw _ W).drew.trans ab);have d0:=am c2 I.u;have d1:=am t0 I.u;have d2:=am t1 I.u;have d3:=am t2 I.u;have d4:=am t3 I.u;have d5:=am t4 I.u;have d6:=am t5 I.u;clear ab))
   have ac:=ai (J.u.trans (I.u.mono l1));clear V d0 d1 d2 d3 d4 d5 d6 t0 t1 t2 t3 t4 t5 c0 c1 c2 Z Y J I;go_wp2;go_ret;exact jJ.same H.u ac.u 9
  rw [if_neg hi];obtain ⟨k,au⟩:∃k:Nat,kk gs t=k:=⟨(kk gs t).toNat,aj⟩;have aD:=Ov au;rw [au] at U ⊢;clear hi au;obtain ⟨g,c,e1,_⟩:=H.u.row.form (n:=gs.length) aj;simp only [aI,cz] at e1;obtain ⟨rfl,rfl⟩:=e1;have aC:=H.u.apart g _ _ rfl;rw [jF];have aX:¬((k:Int)<0):=aj;go_enter func35,ntmps35;go_wp2_with fail;refine (ak C1).mono ?_;rintro e w1 ⟨rfl,O⟩;have J:=ai (O.alloc O.size (bV t.kind t.id t.rel t.sub t.who t.of));have Z:=ai (H.u.below J.u);have Y:=ai (aB.new w1 #[.string t.kind,.string t.id,.string t.rel,.string t.sub,.string t.who,.string t.of] 123);have aT:¬(w1.heap.size=b):=by have:=O.size;omega
  have aU:¬(b=w1.heap.size):=by have:=O.size;omega
  clear O C1;go_wp2_with fail;have l1:=J.u.size;generalize (w1.alloc (bV t.kind t.id t.rel t.sub t.who t.of))=W at*;obtain ⟨c0,c1,c2⟩:=three Z.u.blk;obtain ⟨t0,t1,t2,t3,t4,t5⟩:=Y.u.six;have V:=ai (ak U W.drew J.u.drew);clear U
  go_region_held3 (fun w'=>w'.cell? ⟨b,2,none⟩=some (.slice (some ⟨g,0,none⟩) gs.length gc)/\w'.cell? ⟨w1.heap.size,0,none⟩=some (.string t.kind)/\w'.cell? ⟨w1.heap.size,1,none⟩=some (.string t.id)/\w'.cell? ⟨w1.heap.size,2,none⟩=some (.string t.rel)/\w'.cell? ⟨w1.heap.size,3,none⟩=some (.string t.sub)/\w'.cell? ⟨w1.heap.size,4,none⟩=some (.string t.who)/\w'.cell? ⟨w1.heap.size,5,none⟩=some (.string t.of)) (go_keep)
   ((go_at_call 68;refine V.u.mono ?_;rintro e ah ⟨rfl,ab⟩;have I:=ai (show Below W.heap.size W ah from (aw _ W).drew.trans ab);have d0:=am c2 I.u;have d1:=am t0 I.u;have d2:=am t1 I.u;have d3:=am t2 I.u;have d4:=am t3 I.u;have d5:=am t4 I.u;have d6:=am t5 I.u;clear ab))
  have ac:=ai (J.u.trans (I.u.mono l1));clear V d0 d1 d2 d3 d4 d5 d6 t0 t1 t2 t3 t4 t5 c0 c1 c2 Z Y J I;have R:=H.u.below ac.u;have aA:=ai (JW 0 g gc gs k ah aD aj R.row);obtain ⟨c0,c1,c2⟩:=three R.blk;have aN:=R.blk.fz;have aM:=ai R.blk;have a6:=R.blk.lt;have aQ:¬(b=g):=fun e=>aC e.symm
  clear R;go_wp2_with fail;refine aA.u.mono ?_;rintro e a7 ⟨rfl,aG,ap⟩;have ad:=ai (aM.u.but ap aQ);obtain ⟨a8,a9,ba⟩:=three ad.u;have bb:=ad.u.fz;have aL:=ai aG;have aJ:=ai ap;clear aG ap c0 c1 c2 aN aA;go_wp2;go_ret;have aS:(gs.eraseIdx k).length=gs.length-1:=List.length_eraseIdx_of_lt aD;have aO:yJ b (.slice (some ⟨g,0,none⟩) gs.length gc) g:=.inr ⟨_,_,rfl⟩;have aP:yJ b (.slice (some ⟨g,0,none⟩) gs.length gc) b:=.inl rfl;refine ⟨.slice (some ⟨g,0,none⟩) (gs.length-1) gc,rfl,⟨ad.u.set 2 _,?_,?_,by show (gs.eraseIdx k).length<=1000;omega⟩,((bI.of_below ac.u).trans (.of_but aJ.u aO)).set aP _,?_⟩
  ·show World.ownsRow _ 0 123 6 _ (gs.eraseIdx k).length _
   rw [aS];refine ax aL.u (fun g' cs f _ aR=>dP _ _ _ _ (fun (e':g'=b)=> ?_));subst e';have:=ad.u;unfold aB at this;rw [aR] at this;simp at this
  ·intro g' n c e;simp only [aI,aK,cw,gL] at e;exact fun e'=>aC (e.1.trans e')
  rintro aZ (rfl|⟨n,c,e⟩)
  ·exact .inl (.inl rfl)
  simp only [aI,aK,cw,gL] at e;exact .inl (.inr ⟨_,_,by rw [e.1]⟩)
def Ab (A:aF:=by
 unfold RT;decide):aF:=A
def RT(T:TypeId):Prop:=T=252\/T=170\/T=172\/T=255\/T=257\/T=3\/T=259
def KD(w w':af):Prop:=∀(g:Nat)(cs:Array ag)(T:TypeId)(f:Nat×Nat),w.heap[g]? =some (Obj.cells cs T f)->RT T->w'.heap[g]? =w.heap[g]?
theorem KD.of_butS{S}(A:bI S w w')(C:∀g cs T f,S g->w.heap[g]? =some (Obj.cells cs T f)->¬RT T):KD w w':=fun g cs T f h D=>A.block g (lt_of_some h) (fun hs=>C g cs T f hs h D)
theorem KD.below(h:Below w.heap.size w w'):KD w w':=fun g cs T f A _=>h.block g (lt_of_some A)
theorem KD.row(k:KD w w')(h:w.ownsRow base e size v n xs)(A:RT e):w'.ownsRow base e size v n xs:=ax h (fun g cs f _ C=>k g cs _ f C A)
structure Rw(w:af)(b:Nat)(kv rv pv:ag)(kl:List (ae×Nat))(rl:List RV)(pl:List PV)(l:List PX):Prop where
 dm:DM w b kv rv pv kl rl pl l
 blk:∃cs,aB w b cs 252
theorem Rw.kd{kl}(C:Rw w b kv rv pv kl rl pl l)(k:KD w w'):Rw w' b kv rv pv kl rl pl l:=by
 obtain ⟨cs,D⟩:=C.blk;have e:=k b cs _ _ D (.inl rfl);have hc:∀o v,w.cell? ⟨b,o,none⟩=some v->w'.cell? ⟨b,o,none⟩=some v:=fun o v hv=>(iV (w:=w) e).trans hv
 have h:=C.dm;refine ⟨⟨hc _ _ h.c5,hc _ _ h.c6,hc _ _ h.c7,k.row h.kt (.inr (.inl rfl)),k.row h.rt (.inr (.inr (.inl rfl))),⟨h.pt.fst,k.row h.pt.row (.inr (.inr (.inr (.inl rfl)))),fun x I=> ?_⟩,h.kn,h.rn,h.pn⟩,cs,e.trans D⟩;have A:=h.pt.rep x I;exact ⟨k.row A.g (.inr (.inr (.inr (.inr (.inl rfl))))),k.row A.p (.inr (.inr (.inr (.inr (.inr (.inl rfl)))))),k.row A.s (.inr (.inr (.inr (.inr (.inr (.inr rfl))))))⟩
theorem KD.set(A:aB w g cs T)(C:¬RT T)(o u):KD w (w.setCell ⟨g,o,none⟩ u):=fun g' I T' f h D=>dP _ _ _ _ (fun (e':g'=g)=>by
 subst e';unfold aB at A;rw [A] at h;simp only [aK,s3] at h;exact C (by rw [h.2.1];exact D))
theorem KD.trans(C:KD x y)(k:KD y z):KD x z:=fun g cs T f h A=>(k g cs T f ((C g cs T f h A).trans h) A).trans (C g cs T f h A)
theorem G4(b:Nat)(s w mp tv ss)(I:DU w b mp tv ss)(c p:Nat)(J:c≠0)(C:Calls prog 80 #[.string s] w fun e w'=>e=.returned (.tuple #[.pointer none,.int .i64 c,.int .i64 p])/\Below w.heap.size w w'):
  Calls prog 83 #[.pointer (some ⟨b,0,none⟩),.string s] w fun e w'=>e=.returned (.int .i64 c)/\Below w.heap.size w w':=by
 have O:((c:Int)==0)=false:=by rw [bG];omega
 have h:=ai C;clear C I;go_enter func83,ntmps83;go_wp2_with fail;refine h.u.mono ?_;rintro e w1 ⟨rfl,A⟩;have D:=ai A;clear A h;go_wp2;go_ret;exact ⟨rfl,D.u⟩
def Rx(b:Nat)(X:Nat->af->Prop)(w:af)(e:Ending)(w':af):Prop:=∃bm,e=.returned (.int .i64 0)/\DU w' b (.pointer (some ⟨bm,5,none⟩)) (.slice none 0 0) []/\X bm w'/\bI (fun k=>k=b) w w'
theorem KS(b s w mp tv ss)(I:DU w b mp tv ss)(X)(R:∀bm w w',X bm w->KD w w'->X bm w')(C:Calls prog 80 #[.string s] w fun e w'=>∃bm,e=.returned (.tuple #[.pointer (some ⟨bm,5,none⟩),.int .i64 0,.int .i64 0])/\Below w.heap.size w w'/\X bm w'):
  Calls prog 83 #[.pointer (some ⟨b,0,none⟩),.string s] w (Rx b X w):=by
 have O:=ai C;have H:=ai I;have Y:=ai R;obtain ⟨ta,tc,rfl⟩:=ay I.row;clear C I R;go_enter func83,ntmps83;go_wp2_with fail;refine O.u.mono ?_;rintro e w1 ⟨bm,rfl,J,U⟩;have D:=(H.u.below J).blk;obtain ⟨ac,ad⟩:=hS D;have ae:=D.fz;have Q:=ai D;have V:=ai J;have Z:=ai U;clear J O D U;go_wp2;go_ret;have k1:=Q.u.set 0 (.pointer (some ⟨bm,5,none⟩));have ab:=k1.set 1 (.slice none 0 0);exact ⟨bm,rfl,⟨ab,bN,fun g n c e=>by simp at e,an⟩,Y.u bm w1 _ Z.u ((KD.set Q.u Ab 0 _).trans (KD.set k1 Ab 1 _)),((bI.of_below V.u).set (show (fun k=>k=b) (⟨b,0,none⟩:Addr).block from rfl) _).set (show (fun k=>k=b) (⟨b,1,none⟩:Addr).block from rfl) _⟩
theorem KU(s w)(c p:Nat)(O:c≠0)(C:Calls prog 80 #[.string s] w fun e w'=>e=.returned (.tuple #[.pointer none,.int .i64 c,.int .i64 p])/\Below w.heap.size w w'):
  Calls prog 82 #[.string s] w fun e w'=>e=.returned (.tuple #[.pointer none,.int .i64 c])/\Below w.heap.size w w':=by
 have Q:((c:Int)==0)=false:=by rw [bG];omega
 have R:((c:Int) != 0)=true:=g8.2 aj;have D:=ai C;clear C;go_enter func82,ntmps82;go_wp2_with fail;refine D.u.mono ?_;rintro e w1 ⟨rfl,I⟩;have J:=ai I;clear I D;go_wp2;go_ret2;exact ⟨rfl,J.u⟩
def Ry(X:Nat->af->Prop)(w:af)(e:Ending)(w':af):Prop:=∃bm b,e=.returned (.tuple #[.pointer (some ⟨b,0,none⟩),.int .i64 0])/\DU w' b (.pointer (some ⟨bm,5,none⟩)) (.slice none 0 0) []/\X bm w'/\Below w.heap.size w w'/\w.heap.size<=b
theorem OE(s w X)(J:∀bm w w',X bm w->KD w w'->X bm w')(C:Calls prog 80 #[.string s] w fun e w'=>∃bm,e=.returned (.tuple #[.pointer (some ⟨bm,5,none⟩),.int .i64 0,.int .i64 0])/\Below w.heap.size w w'/\X bm w'):
  Calls prog 82 #[.string s] w (Ry X w):=by
 have I:=ai C;have R:=ai J;clear C J;go_enter func82,ntmps82;go_wp2_with fail;refine I.u.mono ?_;rintro e w1 ⟨bm,rfl,D,O⟩;have Q:=ai D;have U:=ai O;have l1:=D.size;clear D I O;go_wp2;go_ret2;have k1:=aB.new w1 #[.pointer (some ⟨bm,5,none⟩),.slice none 0 0] 262;exact ⟨bm,w1.heap.size,rfl,⟨k1,bN,fun g n c e=>by simp at e,an⟩,R.u bm w1 _ U.u (KD.below ((aw _ w1).alloc az _)),Q.u.alloc l1 _,l1⟩
abbrev Dq:=@List.eraseIdx_of_length_le
def AD(ss:List ae)(s:ae):Nat×List ae:=if di s=false then (2,ss) else if jK ss s<0 then (9,ss) else (0,ss.eraseIdx (jK ss s).toNat)
def Dr(b:Nat)(tv:ag)(k:Nat):Prop:=k=b\/∃n c,tv=.slice (some ⟨k,0,none⟩) n c
def ix(b:Nat)(mp tv:ag)(w:af)(r:Nat×List ae)(e:Ending)(w':af):Prop:=∃h,e=.returned (.int .i64 r.1)/\DU w' b mp h r.2/\bI (Dr b tv) w w'/\(∀k,Dr b h k->Dr b tv k\/w.heap.size<=k)
theorem ix.same(h:DU w b mp tv ss)(k:Below w.heap.size w w')(c):ix b mp tv w (c,ss) (.returned (.int .i64 c)) w':=⟨tv,rfl,h.below k,.of_below k,fun _ h=> .inl h⟩
theorem Tryz.infoDT:(Tryz.prog.info? 264).map (fun i=>(i.zero,i.size,i.bytes))=some (some (.agg #[.string ⟨#[]⟩,.string ⟨#[]⟩,.string ⟨#[]⟩,.string ⟨#[]⟩,.string ⟨#[]⟩,.string ⟨#[]⟩,.string ⟨#[]⟩]),7,112):=by kernel_rfl
theorem OO{l x}(h:jK l x=k):k<l.length:=by
 unfold jK at h
 split at h
 ·rename_i i hi;rw [kg] at hi;obtain ⟨hl,_⟩:=hi;omega
 omega
theorem Ds(C:k<ss.length)(I:k≠a):(ss.take (k+1)).eraseIdx a=(ss.take k).eraseIdx a++[ss[k]]:=by
 rw [dS C]
 by_cases D:a<k
 ·rw [List.eraseIdx_append_of_lt_length lY]
 rw [Dq aM,Dq lY]
theorem LM(C:a<ss.length):(ss.take (a+1)).eraseIdx a=(ss.take a).eraseIdx a:=by
 rw [dS C,List.eraseIdx_append_of_length_le lY,Dq (l:=ss.take a) lY];have:a-(ss.take a).length=0:=by rw [gj];omega
 rw [this];simp
theorem AE(b s w mp tv ss)(Q:DU w b mp tv ss)(hs:s.size<=maxLen):
  Calls prog 85 #[.pointer (some ⟨b,0,none⟩),.string s] w (ix b mp tv w (AD ss s)):=by
 have I:=ai (uk s w hs);rw [Kl] at I;unfold Tu.cells at I;have H:=ai Q;have U:=ai (fun w' (k:Below w.heap.size w w')=>vY b s w' mp tv ss (Q.below k));have be:=Q.blk.lt;unfold AD;generalize aY:(bU s).1=T at I;clear aY
 cases ho:di s
 ·rw [ho] at I;rw [if_pos rfl];generalize jK ss s=n at*;clear Q hs ho;go_enter func85,ntmps85;go_wp2_with fail;refine (ak I).mono ?_;rintro e w1 ⟨rfl,J⟩;have D:=ai (J.alloc J.size (.cells #[.string T.kind,.string T.id,.string T.rel,.string T.sub,.string T.who,.string T.of,.string s] 264));clear J I;go_wp2_with fail;refine (ak U _ D.u).mono ?_;rintro e aN ⟨rfl,R⟩;have ab:=ai (D.u.trans (R.mono D.u.size));clear R U D;go_wp2;go_ret;exact ix.same H.u ab.u 2
 ·rw [ho] at I;rw [if_neg an];clear ho hs
  by_cases hi:jK ss s<0
  ·rw [if_pos hi];generalize jK ss s=n at*;clear Q;go_enter func85,ntmps85;go_wp2_with fail;refine (ak I).mono ?_;rintro e w1 ⟨rfl,J⟩;have D:=ai (J.alloc J.size (.cells #[.string T.kind,.string T.id,.string T.rel,.string T.sub,.string T.who,.string T.of,.string s] 264));clear J I;go_wp2_with fail;refine (ak U _ D.u).mono ?_;rintro e aN ⟨rfl,R⟩;have ab:=ai (D.u.trans (R.mono D.u.size));clear R U D;go_wp2;go_ret;exact ix.same H.u ab.u 9
  rw [if_neg hi];obtain ⟨a,ha⟩:∃a:Nat,jK ss s=a:=⟨(jK ss s).toNat,aj⟩;have bc:=OO ha;rw [ha,jF];rw [ha] at U;obtain ⟨ta,tc,rfl⟩:=ay Q.row;have bg:=Q.most;have bb:¬((a:Int)<0):=aj;obtain ⟨i0,az,aJ,aK,aL⟩:=bH Tryz.infoDT;have aP:=ai az;have aS:=ai aJ;have aT:=ai aK;have aU:=ai aL;clear Q hi ha az aJ aK aL;go_enter func85,ntmps85;go_wp2_with fail;refine (ak I).mono ?_;rintro e w1 ⟨rfl,J⟩;have D:=ai (J.alloc J.size (.cells #[.string T.kind,.string T.id,.string T.rel,.string T.sub,.string T.who,.string T.of,.string s] 264));clear J I;go_wp2_with fail;refine (ak U _ D.u).mono ?_;rintro e aN ⟨rfl,R⟩;have ab:=ai (D.u.trans (R.mono D.u.size));clear R U D;go_wp2_with fail
  go_loopw [8,9] (fun a7 am wr=>∃(k:Nat)(L:List ae),k<=ss.length/\am=.int .i64 k/\Below w.heap.size w wr/\wr.ownsRow w.heap.size 264 7 a7 L.length (L.flatMap BE)/\L.length<=k/\Hid (L=(ss.take k).eraseIdx a)) (fun _ am _=>ss.length-(intOf am).toNat)
  case atStart=>exact ⟨0,[],aj,rfl,ab.u,bN,an,ai an⟩
  case round=>
   obtain ⟨k,L,aA,rfl,V,ad,ba,af⟩:=hrel;obtain ⟨ah,al,rfl⟩:=ay ad;have HB:=ai V;have ac:=ai ad;have bh:=V.size;have Y:=H.u.below V;obtain ⟨c0,c1⟩:=hS Y.blk
   by_cases aD:k<ss.length
   ·have a2:(k:Int)<(ss.length:Int):=by omega
    obtain ⟨g,c,e1,hc⟩:=bi BE 7 (fun _=>rfl) Y.row k ss[k] (aG aD);simp only [aI,cz] at e1;obtain ⟨rfl,rfl⟩:=e1;have O:=ak af
    by_cases Z:k=a
    ·have a3:((k:Int) != (a:Int))=false:=by rw [Z];simp
     have a4:((k:Int)==(a:Int))=true:=by rw [Z];simp
     have ag:=ai (show L=(ss.take (k+1)).eraseIdx a from by rw [O,Z];exact (LM aj).symm);clear V ad Y hc O Z;go_wp2;go_roundw
     case rel=>exact ⟨k+1,L,aj,by go_num,HB.u,ac.u,aj,ag⟩
     case measure=>simp [intOf];omega
    have a3:((k:Int) != (a:Int))=true:=by rw [g8];omega
    have a4:((k:Int)==(a:Int))=false:=by rw [bG];omega
    have ag:=ai (show L++[ss[k]]=(ss.take (k+1)).eraseIdx a from by rw [O,Ds aD Z]);generalize ss[k]=y at*;have k0:wr.cell? ⟨g,k*7,none⟩=some (.string (bU y).1.kind):=hc 0 _ aj rfl;have k1:=hc 1 _ aj rfl;have bj:=hc 2 _ aj rfl;have k3:=hc 3 _ aj rfl;have bk:=hc 4 _ aj rfl;have bl:=hc 5 _ aj rfl;have bn:=hc 6 _ aj rfl;have av:BE y=[.string (bU y).1.kind,.string (bU y).1.id,.string (bU y).1.rel,.string (bU y).1.sub,.string (bU y).1.who,.string (bU y).1.of,.string y]:=rfl;generalize (bU y).1=C at*;have aR:=ai av;clear V ad Y hc O Z av;go_wp2_with (at_builtin;go_must (refine bD _ rfl _ _ 260 rfl w.heap.size 264 i0 _ 7 112 underlying260 aP.u aS.u aT.u aU.u rfl ar (.slice ah L.length al) L.length (L.flatMap BE) rfl ?hown ⟨wr.heap.size,0,none⟩ 1 1 [.string C.kind,.string C.id,.string C.rel,.string C.sub,.string C.who,.string C.of,.string y] rfl rfl ?hnews ?hone ar ?h63 ?hbytes ?hbase (wr.heap.size+1) ?hH ?hrest))
    case hown=>exact ac.u.alloc _
    case hnews=>exact bE (B:=wr.heap.size) (cs:=#[.string C.kind,.string C.id,.string C.rel,.string C.sub,.string C.who,.string C.of,.string y]) (t:=264) (fr:=(0,0)) (aB.new _ _ _)
    case hone=>
     intro u aH;simp at aH
     rcases aH with rfl|rfl|rfl|rfl|rfl|rfl|rfl<;>rfl
    case h63=>unfold maxLen;omega
    case hbytes=>omega
    case hbase=>have:=HB.u.size;simp;omega
    case hH=>simp
    case hrest=>
     intro g5 aV w5 aE aw aZ bf;have ap:=ac.u.alloc (.cells #[.string C.kind,.string C.id,.string C.rel,.string C.sub,.string C.who,.string C.of,.string y] 264);have aO:=ai (dc (HB.u.alloc HB.u.size (.cells #[.string C.kind,.string C.id,.string C.rel,.string C.sub,.string C.who,.string C.of,.string y] 264)) aw vw (fun k aA=>(ap.lt k aA).1));have aW:=ai (show w5.ownsRow w.heap.size 264 7 (.slice (some ⟨g5,0,none⟩) (L.length+1) aV) (L++[y]).length ((L++[y]).flatMap BE) from by
      rw [show (L++[y]).length=L.length+1 by simp,cX,List.flatMap_singleton,aR.u];exact aE)
     clear ap aE aw aZ;go_wp2;go_roundw
     case rel=>exact ⟨k+1,L++[y],aj,by go_num,aO.u,(by have:=aW.u;rw [show (L++[y]).length=L.length+1 by simp] at this ⊢;exact this),aM,ag⟩
     case measure=>simp [intOf];omega
   have a2:¬((k:Int)<(ss.length:Int)):=aj;have O:L=ss.eraseIdx a:=by
    have:=ak af;rw [eh aj] at this;exact this
   have au:=ai Y.blk;have a9:=Y.blk.fz;have aQ:=ai O;clear V ad Y af O;go_wp2;go_ret;have O:=aQ.u;have aX:Dr b (.slice ta ss.length tc) b:=.inl rfl;have aC:∀g n c,Value.slice ah L.length al=.slice (some ⟨g,0,none⟩) n c->w.heap.size<=g:=fun g n c e=>by
    have a5:=ac.u;simp only [aI] at e;obtain ⟨rfl,_,_⟩:=e;obtain ⟨a8,V,a0⟩:=eD a5;exact a0
   refine ⟨.slice ah L.length al,rfl,⟨au.u.set 1 _,?_,?_,by show (ss.eraseIdx a).length<=1000;rw [<-O];omega⟩,(bI.of_below HB.u).set aX _,?_⟩
   ·show World.ownsRow _ 0 264 7 _ (ss.eraseIdx a).length ((ss.eraseIdx a).flatMap BE)
    rw [<-O];refine ax (ec ac.u) (fun g' cs f _ a1=>dP _ _ _ _ (fun (e':g'=b)=> ?_));subst e';have:=au.u;unfold aB at this;rw [a1] at this;simp at this
   ·intro g n c e e';have:=aC g n c e;omega
   rintro a6 (rfl|⟨n,c,e⟩)
   ·exact .inl (.inl rfl)
   exact .inr (aC a6 n c e)
def ul(s:ae):Tu:=(bU s).1
structure rL(gs:List Tu)(ss:List ae):Prop where
 eq:gs=ss.map ul
 ok:∀y∈ss,di y=true
theorem Fg{y}(h:di s=true)(k:di y=true)(e:ul s=ul y):s=y:=by
 rw [<-AF h,<-AF k];have e':(bU s).1=(bU y).1:=e;rw [e']
theorem wu{s:ae}(hs:di s=true):∀ss:List ae,(∀y∈ss,di y=true)->(ss.map ul).findIdx? (ox (ul s))=ss.findIdx? (fun y=>eqs y s)
 | [],_=>rfl
 |y::ss,h=>by
  rw [cj,List.findIdx?_cons,List.findIdx?_cons,wu hs ss (fun y C=>h y (by simp [C]))];have e:ox (ul s) (ul y)=eqs y s:=by
   rw [mz,JV,bn];exact ⟨fun e=>(Fg hs (h y an) e).symm,fun e=>by rw [e]⟩
  rw [e]
theorem AG(h:rL gs ss)(hs:di s=true):kk gs (bU s).1=jK ss s:=by
 rw [h.eq];unfold kk jK;rw [show (bU s).1=ul s from rfl,wu hs ss h.ok]
 cases ss.findIdx? (fun y=>eqs y s)<;>rfl
theorem LO(h:rL gs ss)(s):(xK gs s).1=(AD ss s).1/\rL (xK gs s).2 (AD ss s).2:=by
 unfold xK AD
 by_cases h1:di s=false
 ·rw [if_pos h1,if_pos h1];exact ⟨rfl,h⟩
 rw [if_neg h1,if_neg h1,AG h (by simpa using h1)]
 by_cases h2:jK ss s<0
 ·rw [if_pos h2,if_pos h2];exact ⟨rfl,h⟩
 rw [if_neg h2,if_neg h2];refine ⟨rfl,?_,fun y A=>h.ok y (List.mem_of_mem_eraseIdx A)⟩;rw [h.eq,xx,xx,de,List.map_take,List.map_drop]
