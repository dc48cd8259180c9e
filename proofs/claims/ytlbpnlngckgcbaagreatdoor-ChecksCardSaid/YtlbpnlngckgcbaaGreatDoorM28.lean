import Derived.Test.YtlbpnlngckgcbaaGreatDoorM27
set_option linter.all false
set_option maxHeartbeats 4000000
set_option maxRecDepth 100000
namespace Go.Proofs.YtlbpnlngckgcbaaGreatDoor
open Go.RowKit Go.PlainAid Go.Proofs.Tryz
variable {aF cD:Prop} {α β:Type} {n b g:Nat} {w x y z:af} {ts:List Ty} {cs:Array ag} {T:TypeId} {v' gv:ag}
def Up(C:List Ty->ag->af->Prop):Prop:=∀(bm:Nat) (sv:ag) (ts:List Ty) (tl:List (Ty×ag)) (w:af),MC bm w sv ts tl->Calls prog 59 #[.agg #[sv]] w fun e w'=>∃h ln A,e=.returned (.agg #[.slice h ln A])/\Below w.heap.size w w'/\C ts (.slice h ln A) w'
structure Rq(LX:List Ty->ag->af->Prop):Prop where
 below:∀ts lv w w',LX ts lv w->Below w.heap.size w w'->LX ts lv w'
 set:∀ts lv w g cs o u,LX ts lv w->aB w g cs 117->LX ts lv (w.setCell ⟨g,o,none⟩ u)
theorem GX(o c w)(h:Laid w):∃p:Nat,Calls prog 41 #[Rf (o,c)] w fun e w'=>e=.returned (.tuple #[.int .i64 c,.int .i64 p])/\Below w.heap.size w w':=by
 cases o with
 |none=>exact ⟨0,lD c w h⟩
 |some p=>exact ⟨p,zR p c w h⟩
theorem vZ(b s w o c)(Z:fo s=.error (o,c))(ah:c≠0)(Q:Laid w):
  Calls prog 27 #[.pointer (some ⟨b,0,none⟩),.string s] w fun e w'=>e=.returned (.int .i64 c)/\Below w.heap.size w w':=by
 have C:=ai (zE s w);rw [Z] at C;have ad:=ai Q;have hl:=Q.lt;have al:((c:Int)==0)=false:=by rw [bG];omega
 have am:((c:Int) != 0)=true:=g8.2 aj;have V:=ai (fun w' (k:Below w.heap.size w w')=>GX o c w' (ad.u.below k hl));obtain ⟨I,O⟩:∃I,I=Rf (o,c):=⟨_,rfl⟩;have ae:∃ty v,I=.iface ty v:=by
  rw [O]
  cases o with
  |none=>exact ⟨_,_,rfl⟩
  |some p=>exact ⟨_,_,rfl⟩
 obtain ⟨af,ag,rfl⟩:=ae;have U:=ai O;clear Z Q O;go_enter func27,ntmps27;go_wp2_with fail;refine (ak C).mono ?_;rintro e an ⟨J,rfl⟩;rw [<-U.u];have D:=ai (J.alloc J.size oC);obtain ⟨p,R⟩:=V.u _ D.u;rw [<-U.u] at R;have ac:=ai R;clear J C R V;go_wp2_with fail;refine ac.u.mono ?_;rintro e ap ⟨rfl,Y⟩;have ab:=ai (D.u.trans (Y.mono D.u.size));clear Y;go_wp2;go_ret;exact ⟨rfl,ab.u⟩
def Rr(h:List Ty->ag->af->Prop)(b:Nat)(ts:List Ty)(w:af)(e:Ending)(w':af):Prop:=∃mv lv bm tl,e=.returned (.int .i64 0)/\PU w' b mv lv (.slice none 0 0) []/\MC bm w' mv ts tl/\h ts lv w'/\bI (fun k=>k=b) w w'
theorem z8(ab:List Ty->ag->af->Prop)(aD:Up ab)(aC:Rq ab)(b:Nat)(s:ae)(w:af)(mv lv gv:ag)(ac:aB w b #[mv,lv,gv] 117)(ts:List Ty)(aG:fo s=.ok ts)(aP:Laid w):
  Calls prog 27 #[.pointer (some ⟨b,0,none⟩),.string s] w (Rr ab b ts w):=by
 have C:=ai (zE s w);rw [aG] at C;have aK:=ai ac;have av:=ai aD;have Z:=ai aC;have aT:=ac.lt;clear aG aP ac aD aC;go_enter func27,ntmps27;go_wp2_with fail;refine (ak C).mono ?_;rintro e Q ⟨O,sv,tl,bm,rfl,ad⟩;obtain ⟨D,mn,mc,rfl⟩:=ad.form;have V:=ai (O.alloc O.size (aN D mn mc));have aA:=ai (aB.new Q #[.slice D mn mc] 75);have ax:=ai (ad.below (ba.alloc az (aN D mn mc)));have aU:¬(Q.heap.size=b):=by have:=O.size;omega
 have aW:¬(b=Q.heap.size):=by have:=O.size;omega
 clear O ad C;go_wp2_with fail;refine (pj _).mono ?_;rintro e I ⟨rfl,U⟩;have Y:=ai (V.u.trans (U.mono V.u.size));have k0:I.cell? ⟨Q.heap.size,0,none⟩=some (.slice D mn mc):=(aA.u.below U).cell rfl;have ay:=ai (ax.u.below U);have aM:=ai (aK.u.below Y.u);clear U V ax aA;go_wp2_with fail;have aJ:=ai (av.u bm _ ts tl I.drew (ay.u.below (aw _ I).drew));have aQ:=Y.u.size;clear av
 go_region_held3 (fun w'=>w'.cell? ⟨Q.heap.size,0,none⟩=some (.slice D mn mc)) (go_keep)
  ((go_at_call 59;refine aJ.u.mono ?_;rintro e aS ⟨ah,ln,aj,rfl,aE,aH⟩;have R:=ai (show Below I.heap.size I aS from (aw _ I).drew.trans aE);have d0:=am k0 R.u;have J:=ai (aM.u.below R.u);obtain ⟨aX,aY,aZ⟩:=three J.u;have a3:=J.u.fz;have aL:=ai (ay.u.below R.u);have aO:=ai aH;clear aE aH))
 have aI:=ai (Y.u.trans (R.u.mono aQ));go_wp2;go_ret;have ap:=J.u.set 0 (.slice D mn mc);have au:=ap.set 1 (.slice ah ln aj);have aR:=au.set 2 (.slice none 0 0);have al:¬(117=207\/117=159\/117=110):=ar;have kt:=((KT.set J.u al 0 (.slice D mn mc)).trans (KT.set ap al 1 (.slice ah ln aj))).trans (KT.set au al 2 (.slice none 0 0));refine ⟨.slice D mn mc,.slice ah ln aj,bm,tl,rfl,⟨aR,bN,fun g n c e=>by simp at e,an⟩,aL.u.kt kt an,Z.u.set _ _ _ _ _ _ _ (Z.u.set _ _ _ _ _ _ _ (Z.u.set _ _ _ _ _ _ _ aO.u J.u) ap) au,(((bI.of_below aI.u).set (show (fun k=>k=b) (⟨b,0,none⟩:Addr).block from rfl) _).set (show (fun k=>k=b) (⟨b,1,none⟩:Addr).block from rfl) _).set (show (fun k=>k=b) (⟨b,2,none⟩:Addr).block from rfl) _⟩
abbrev gM:=@List.mem_cons_of_mem
abbrev hV:=@List.mem_cons_self
abbrev qv:=@List.foldl_cons
def wb (A:aF:=by
 unfold LT;decide):aF:=A
theorem EZ{g:List (List α)}{l:List α}(h:l∈fN n g):l∈g\/l=[]:=by
 unfold fN at h
 rcases aT.1 h with h|h
 ·exact .inl h
 exact .inr (Cu h)
theorem GY{x:α}{g:List (List α)}{l:List α}(A:l∈fO n x g)(y:α)(h:y∈l):y=x\/∃D∈g,y∈D:=by
 unfold fO at A
 rcases qq A with A|rfl
 ·rcases EZ A with A|rfl
  ·exact .inr ⟨l,A,h⟩
  simp at h
 rcases aT.1 h with h|h
 ·rw [dQ] at h
  cases C:(fN n g)[n-1]? with
  |none=>rw [C] at h;simp at h
  |some D=>
   rw [C] at h
   rcases EZ (bx C) with A|rfl
   ·exact .inr ⟨D,A,h⟩
   simp at h
 exact .inl (by simpa using h)
theorem GZ(rk:α->Nat)(A:List α):∀g0:List (List α),∀l∈A.foldl (fun g x=>fO (rk x) x g) g0,∀y∈l,y∈A\/∃D∈g0,y∈D:=by
 induction A with
 |nil=>intro g0 l hl y C;exact .inr ⟨l,hl,C⟩
 |cons x A ih=>
  intro g0 l hl y C
  rcases ih _ l hl y C with h|⟨D,h1,h2⟩
  ·exact .inl (gM _ h)
  rcases GY h1 y h2 with h|h
  ·exact .inl (by rw [h];exact hV)
  exact .inr h
theorem Aa{rk:α->Nat}{A:List α}{l:List α}(h:l∈iF rk A){y:α}(C:y∈l):y∈A:=by
 rcases GZ rk A [] l h y C with h|⟨D,h,_⟩
 ·exact h
 simp at h
theorem G0(f:α->β)(n)(x:α)(g:List (List α)):(fO n x g).map (List.map f)=fO n (f x) (g.map (List.map f)):=by
 have e:(fN n g).map (List.map f)=fN n (g.map (List.map f)):=by unfold fN;simp
 unfold fO;rw [oF,e,de,<-e]
 congr 2
 rw [dQ,dQ,dU]
 cases (fN n g)[n-1]? <;>simp
theorem G1(f:α->β)(rk:β->Nat)(l:List α):(iF (fun x=>rk (f x)) l).map (List.map f)=iF rk (l.map f):=by
 have key:∀(l:List α) (g:List (List α)),(l.foldl (fun g x=>fO (rk (f x)) x g) g).map (List.map f)=(l.map f).foldl (fun g x=>fO (rk x) x g) (g.map (List.map f)):=by
  intro l
  induction l with
  |nil=>intro g;rfl
  |cons x l ih=>intro g;rw [qv,ih,G0,cj,qv]
 exact key l []
abbrev TR:=Ty×Rl
def mO(ts:List Ty):List TR:=ts.flatMap fun t=>t.rels.map fun r=>(t,r)
def T5(ts:List Ty)(x:TR):Nat:=(cF ts [(x.1.name,x.2.name)]).length
def KP(x:It):TR:=(x.1.1,x.2.1)
def cZ(ts:List Ty):List (List TR):=iF (T5 ts) (mO ts)
theorem wd{b:Nat}{w:af}{C:Ty×ag->List (Rl×ag)}:∀{tl:List (Ty×ag)},Oi b w tl C->(oW C tl).map KP=mO (tl.map Prod.fst)
 | [],_=>rfl
 |p::tl,h=>by
  have J:=wd (tl:=tl) (fun q D=>h q (by simp [D]));have e:(oW C (p::tl))=((C p).map fun q=>(p,q))++oW C tl:=by simp [oW]
  rw [e,de,J,cj];have I:=(h p an).fst;unfold mO;rw [cq,<-I];simp [KP]
theorem G3{h:Ty×ag->List (Rl×ag)}{tl}(A:Oi b w tl h)(C:tl.map Prod.fst=ts):(iF (Qp ts) (oW h tl)).map (List.map KP)=cZ ts:=by
 have:=G1 KP (T5 ts) (oW h tl);rw [wd A,C] at this;exact this
def TA(p:It×ag):List ag:=[.string p.1.1.1.name,.string p.1.2.1.name,p.2]
structure yK(base:Nat)(w:af)(v:ag)(ls:List (It×ag)):Prop where
 row:w.ownsRow base 201 3 v ls.length (ls.flatMap TA)
 ins:∀p∈ls,w.ownsRow base 298 3 p.2 (fZ p.1.2.1.name p.1.2.1.body).length ((fZ p.1.2.1.name p.1.2.1.body).flatMap zU)
structure CZ(base:Nat)(w:af)(v:ag)(qs:List (ag×List (It×ag))):Prop where
 row:w.ownsRow base 190 1 v qs.length (qs.map Prod.fst)
 grp:∀q∈qs,yK base w q.1 q.2
def LT(T:TypeId):Prop:=T=190\/T=201\/T=298
section
variable {base base':Nat}{w w':af}{v:ag}
theorem yK.frame{ls}(A:yK base w v ls)(k:∀(g:Nat)(cs:Array ag)(T:TypeId)(f:Nat×Nat),w.heap[g]? =some (Obj.cells cs T f)->LT T->w'.heap[g]? =w.heap[g]?):yK base w' v ls:=
 ⟨ax A.row (fun g cs f _ h=>k g cs _ f h (.inr (.inl rfl))),fun p C=>ax (A.ins p C) (fun g cs f _ h=>k g cs _ f h (.inr (.inr rfl)))⟩
theorem CZ.frame{qs:List (ag×List (It×ag))}(h:CZ base w v qs)(k:∀(g:Nat)(cs:Array ag)(T:TypeId)(f:Nat×Nat),w.heap[g]? =some (Obj.cells cs T f)->LT T->w'.heap[g]? =w.heap[g]?):CZ base w' v qs:=
 ⟨ax h.row (fun g cs f _ A=>k g cs _ f A (.inl rfl)),fun q C=>(h.grp q C).frame k⟩
theorem yK.below{ls}(h:yK base w v ls)(k:Below w.heap.size w w'):yK base w' v ls:=h.frame (fun g cs T f A _=>k.block g (lt_of_some A))
theorem CZ.below{qs:List (ag×List (It×ag))}(h:CZ base w v qs)(k:Below w.heap.size w w'):CZ base w' v qs:=h.frame (fun g cs T f A _=>k.block g (lt_of_some A))
theorem yK.lower{ls}(h:yK base w v ls)(A:base'<=base):yK base' w v ls:=⟨aX h.row A,fun p C=>aX (h.ins p C) A⟩
theorem CZ.lower{qs:List (ag×List (It×ag))}(h:CZ base w v qs)(A:base'<=base):CZ base' w v qs:=⟨aX h.row A,fun q C=>(h.grp q C).lower A⟩
theorem Rs(A:aB w g cs T)(D:¬LT T)(o u):∀(g':Nat)(h:Array ag)(T':TypeId)(f:Nat×Nat),w.heap[g']? =some (Obj.cells h T' f)->LT T'->(w.setCell ⟨g,o,none⟩ u).heap[g']? =w.heap[g']? :=fun g' h T' f C I=>dP _ _ _ _ (fun (e:g'=g)=>by
 subst e;unfold aB at A;rw [A] at C
 cases C
 exact D I)
theorem yK.push{ls x iv}(D:yK base w v ls)(J:w.grownBy w' v.ownBlock)(O:w'.ownsRow base 201 3 v' (ls.length+1) (ls.flatMap TA++TA (x,iv)))(hi:w.ownsRow base 298 3 iv (fZ x.2.1.name x.2.1.body).length ((fZ x.2.1.name x.2.1.body).flatMap zU)):yK base w' v' (ls++[(x,iv)]):=by
 refine ⟨by simpa using O,fun p C=> ?_⟩;have k:∀(g:Nat)(cs:Array ag)(f:Nat×Nat),base<=g->w.heap[g]? =some (.cells cs 298 f)->w'.heap[g]? =w.heap[g]? :=fun g cs f _ I=>J.block g (lt_of_some I) (eo D.row I ar)
 rcases aT.1 C with C|C
 ·exact ax (D.ins p C) k
 rw [aR] at C;subst C;exact ax hi k
theorem CZ.push{qs:List (ag×List (It×ag))}{ls}(I:CZ base w v qs)(J:w.grownBy w' v.ownBlock)(O:w'.ownsRow base 190 1 v' (qs.length+1) (qs.map Prod.fst++[gv]))(hi:yK base w gv ls):CZ base w' v' (qs++[(gv,ls)]):=by
 have k:∀q:ag×List (It×ag),yK base w q.1 q.2->yK base w' q.1 q.2:=fun q C=>
  ⟨ax C.row (fun g cs f _ D=>J.block g (lt_of_some D) (eo I.row D ar)),fun p Q=>ax (C.ins p Q) (fun g cs f _ D=>J.block g (lt_of_some D) (eo I.row D ar))⟩
 refine ⟨by simpa using O,fun q C=> ?_⟩
 rcases aT.1 C with C|C
 ·exact k q (I.grp q C)
 rw [aR] at C;subst C;exact k _ hi
end
def Rt(ts:List Ty)(lv:ag)(w:af):Prop:=∃qs,CZ 0 w lv qs/\qs.map (fun q=>q.2.map fun p=>KP p.1)=cZ ts/\qs.length<=1000001000001/\∀q∈qs,q.2.length<=1000000
theorem xN:Rq Rt where
 below:=fun ts lv w w' ⟨qs,h1,h2⟩ k=>⟨qs,h1.below k,h2⟩
 set:=fun ts lv w g cs o u ⟨qs,h1,h2⟩ C=>⟨qs,h1.frame (Rs C wb o u),h2⟩
theorem Tryz.infoLn:(Tryz.prog.info? 201).map (fun i=>(i.zero,i.size,i.bytes))=some (some (.agg #[.string ⟨#[]⟩,.string ⟨#[]⟩,.slice none 0 0]),3,56):=by kernel_rfl
theorem Tryz.infoLns:(Tryz.prog.info? 190).map (fun i=>(i.zero,i.size,i.bytes))=some (some (.slice none 0 0),1,24):=by kernel_rfl
abbrev qw:Obj:=.cells #[.slice none 0 0] 114
theorem bI.then{S}(h:bI S x y)(k:Below x.heap.size y z):bI S x z:=⟨k.os.trans h.os,k.tape.trans h.tape,k.output.trans h.output,aL h.size k.size,fun i hi hs=>(k.block i hi).trans (h.block i hi hs)⟩
theorem KQ:Up Rt:=by
 intro b sv ts tl w I;obtain ⟨i0,cm,cB,cC,cE⟩:=bH Tryz.infoLn;obtain ⟨cF,co,cx,cy,cA⟩:=bH Tryz.infoLns;obtain ⟨aU,mn,mc,rfl⟩:=I.form;obtain ⟨am,hF⟩:=CB I;have aH:Below w.heap.size w (((w.alloc (aN aU mn mc)).alloc qw).alloc qw):=(((aw _ w).alloc az _).alloc an _).alloc aM _;have bQ:aB (((w.alloc (aN aU mn mc)).alloc qw).alloc qw) (w.heap.size+1) #[.slice none 0 0] 114:=(aB.new' (w.alloc (aN aU mn mc)) _ _ (w.heap.size+1) an).alloc _;have bP:aB (((w.alloc (aN aU mn mc)).alloc qw).alloc qw) (w.heap.size+2) #[.slice none 0 0] 114:=aB.new' _ _ _ _ an;have bs:=ai (GW b _ ts tl _ (I.below aH) am (fun p ah=>(hF p ah).below aH));have b9:=ai (show ∀x∈oW am tl,bg b w x.2.1.body x.2.2/\(aA x.2.1.body).length<=1000 from fun x bl=>by
  obtain ⟨_,rl,bj,ac⟩:=xC hF x bl;exact ⟨bj.ex _ ac,bj.okp _ (by rw [<-bj.fst];exact aY.2 ⟨_,ac,rfl⟩)⟩)
 have b7:=ai (G3 hF I.fst);have bF:=ai (show (oW am tl).length<=1000000 from by
  have h2:(oW am tl).length<=tl.length*1000:=hO _ 1000 tl (fun p ah=>by have:=(hF p ah).llen;simpa using this);have ab:tl.length<=1000:=by have:=I.llen;simpa using this
  omega)
 have a6:=ai aH;have bA:=ai bQ;have bw:=ai bP;generalize cj:oW am tl=L at*;clear I hF aH bQ bP cj;go_enter func59,ntmps59;go_wp2_with fail;refine bs.u.mono ?_;rintro e w1 ⟨c1,ps,rfl,aK,bk,bW,cQ,ac⟩;obtain ⟨sa,sc,rfl⟩:=ay bk.row;have B1:=ai (a6.u.trans (aK.mono a6.u.size));have ch:=ai (bA.u.below aK);have aW:=ai (bw.u.below aK);have cf:=ai bk;have bL:=ai bW;have bC:=ai ac;have cN:=aW.u.lt;clear aK bk bW ac bs a6 bA bw;go_wp2_with fail
 go_loopw [12] (fun u wr=>∃(j:Nat) (lv:ag) (qs:List (ag×List (It×ag))),j<=ps.length/\u=.int .i64 j/\bI (fun k=>k=w.heap.size+2) w1 wr/\aB wr (w.heap.size+2) #[lv] 114/\CZ w1.heap.size wr lv qs/\Hid (qs.map (fun q=>q.2.map Prod.fst)=(ps.take j).map Prod.snd)) (fun u _=>ps.length-(intOf u).toNat)
 case atStart=>exact ⟨0,.slice none 0 0,[],aj,rfl,bI.refl _ _,aW.u,⟨bN,fun _ I=>by cases I⟩,ai an⟩
 case round=>
  obtain ⟨j,lv,qs,cO,rfl,R,O,ae,ax⟩:=hrel;obtain ⟨J,ck⟩:∃J,J=wr:=⟨_,rfl⟩;subst ck;obtain ⟨aR,aT,rfl⟩:=ay ae.row;have bX:=R.size;have cU:qs.length<=j/\j<=qs.length:=by have:=congrArg List.length (ak ax);simp at this;omega
  by_cases ad:j<ps.length
  ·have cp:(j:Int)<(ps.length:Int):=by omega
   have Y:=cf.u.frame (fun g cs T f be cw=>R.block g (lt_of_some be) (fun e=>by
    have:=aW.u;subst e;unfold aB at this;rw [this] at be
    cases be
    exact absurd cw ar))
   obtain ⟨g,c,e1,k0⟩:=aZ Y.row j _ (by rw [dU,aG ad];rfl);simp only [aI,cz] at e1;obtain ⟨rfl,rfl⟩:=e1;have aP:=Y.inn _ (bu ad);have bM:=ai (show (ps.take (j+1)).map Prod.snd=(ps.take j).map Prod.snd++[ps[j].2] from by rw [dS ad,de];rfl);have bJ:=ai (show ∀x∈ps[j].2,x∈L from fun x bl=>Aa (by rw [<-bL.u];exact aY.2 ⟨_,bu ad,rfl⟩) bl);have bV:=bC.u _ (bu ad);generalize ps[j]=p at*;obtain ⟨pv,pl⟩:=p;simp only at k0 aP bV bM bJ;obtain ⟨pa,pc,rfl⟩:=ay aP;have cT:pl.length<=1000000:=by have:=bF.u;omega
   have ce:=ai aP;have b5:=ai R;have b3:=ai O;have cd:=ai ae;have br:=ai (B1.u.trans (R.below (B:=w.heap.size) JZ (fun g e=>aj)));clear Y aP R O ae bV;go_wp2_with fail
   go_loopw [6,18] (fun cI bp bZ=>∃(k:Nat) (ls:List (It×ag)),k<=pl.length/\bp=.int .i64 k/\Below J.heap.size J bZ/\yK J.heap.size bZ cI ls/\Hid (ls.map Prod.fst=pl.take k)) (fun _ bp _=>pl.length-(intOf bp).toNat)
   case atStart=>exact ⟨0,[],aj,rfl,aw _ _,⟨bN,fun _ I=>by cases I⟩,ai an⟩
   case round=>
    obtain ⟨k,ls,cP,rfl,Q,aL,a7⟩:=hrel;obtain ⟨ga,gc,rfl⟩:=ay aL.row;have cS:ls.length<=k/\k<=ls.length:=by have:=congrArg List.length (ak a7);simp at this;omega
    have Y:=Q.size;have bz:=ai Q;have bB:=ai aL
    by_cases bf:k<pl.length
    ·have cq:(k:Int)<(pl.length:Int):=by omega
     obtain ⟨g',cL,bR,hc⟩:=bi IC 4 (fun _=>rfl) (aE ce.u Q) k pl[k] (aG bf);simp only [aI,cz] at bR;obtain ⟨rfl,rfl⟩:=bR;have cg:=ai (show pl.take (k+1)=pl.take k++[pl[k]] from dS bf);obtain ⟨aQ,bh⟩:=b9.u _ (ak bJ _ (bu bf));generalize pl[k]=x at*;obtain ⟨⟨t,tv⟩,⟨r,cJ⟩⟩:=x;obtain ⟨al,rv,bT⟩:=aQ.isI;simp only at bT aQ bh;subst bT;have k1:wr.cell? ⟨g',k*4,none⟩=some (.string t.name):=hc 0 _ aj rfl;have cG:wr.cell? ⟨g',k*4+1,none⟩=some (.int .i64 r.place):=hc 1 _ aj rfl;have k3:wr.cell? ⟨g',k*4+2,none⟩=some (.string r.name):=hc 2 _ aj rfl;have cH:wr.cell? ⟨g',k*4+3,none⟩=some (.iface al rv):=hc 3 _ aj rfl;have ba:=(aw wr.heap.size wr).alloc az (ko t.name r.place r.name al rv);have bt:=ai (CW b t.name r.name r.place r.body (.iface al rv) _ (aQ.but (But.of_below (br.u.trans ((Q.trans (ba.mono Y)).mono br.u.size)))) bh);have bx:=ai ba;clear hc aQ bh ba Q aL;go_wp2_with fail;refine bt.u.mono ?_;rintro e ap ⟨cV,rfl,bS,aO⟩;have b8:=ai aO;obtain ⟨il,bU⟩:∃il,il=(fZ r.name r.body).length:=⟨_,rfl⟩;rw [<-bU] at aO;obtain ⟨bn,bo,rfl⟩:=ay aO;have a9:=bx.u.trans (bS.mono bx.u.size);have bq:=ai (bz.u.trans (a9.mono Y));have bv:=ai (bB.u.below a9);have ct:=bq.u.size;have cu:J.heap.size<=(wr.alloc (ko t.name r.place r.name al rv)).heap.size:=aM;clear aO bU a9 bt k1 cG k3 cH bS;go_wp2_with (at_builtin;go_must (refine bD _ rfl _ _ 190 rfl J.heap.size 201 i0 _ 3 56 underlying190 cm cB cC cE rfl ar (.slice ga ls.length gc) ls.length (ls.flatMap TA) rfl ?hown ⟨ap.heap.size,0,none⟩ 1 1 [.string t.name,.string r.name,.slice bn il bo] rfl rfl ?hnews ?hone ar ?h63 ?hbytes ?hbase (ap.heap.size+1) ?hH ?hrest))
     case hown=>exact bv.u.row.alloc _
     case hnews=>exact bE (B:=ap.heap.size) (cs:=#[.string t.name,.string r.name,.slice bn il bo]) (t:=201) (fr:=(0,0)) (aB.new _ _ _)
     case hone=>
      exact pX
     case h63=>unfold maxLen;omega
     case hbytes=>omega
     case hbase=>simp;omega
     case hH=>simp
     case hrest=>
      intro g5 aV w5 af U bb cl;have D:=(aw ap.heap.size ap).alloc az (.cells #[.string t.name,.string r.name,.slice bn il bo] 201);have a5:=bv.u.below D;have b6:=ai (a5.push (x:=((t,tv),(r,.iface al rv))) U af (aX (aE b8.u D) cu));have av:=ai (dc (bq.u.trans (D.mono ct)) U aM (fun q V=>(a5.row.lt q V).1));clear D a5 af U bb;go_wp2;go_roundw
      case rel=>exact ⟨k+1,_,aj,by go_num,av.u,b6.u,by
       have h1:=ak a7;have h2:=cg.u;exact ai (by rw [de,h1,h2];rfl)⟩
      case measure=>simp [intOf];omega
    have cq:¬((k:Int)<(pl.length:Int)):=aj;have O:=b3.u.below Q;have a0:wr.cell? ⟨w.heap.size+2,0,none⟩=some (.slice aR qs.length aT):=O.cell rfl;have ci:=O.fz;have b2:=ai O;have bG:=ai (cd.u.below Q);have cR:ls.length<=1000000:=aj;clear O Q aL;go_wp2_with (at_builtin;go_must (refine bD _ rfl _ _ 112 rfl w1.heap.size 190 cF _ 1 24 underlying112 co cx cy cA rfl ar (.slice aR qs.length aT) qs.length (qs.map Prod.fst) rfl ?hown2 ⟨wr.heap.size,0,none⟩ 1 1 [.slice ga ls.length gc] rfl rfl ?hnews2 ?hone2 ar ?h632 ?OD ?Ru (wr.heap.size+1) ?hH2 ?Rv))
    case hown2=>exact bG.u.row.alloc _
    case hone2=>first|rfl|(intro u bY;simp at bY;subst bY;rfl)
    case h632=>first|omega|(unfold maxLen;omega)
    case OD=>omega
    case Ru=>first|omega|(simp;omega)
    case Rv=>
     intro g5 aV w5 af U bb cl;have D:=(aw wr.heap.size wr).alloc az (.cells #[.slice ga ls.length gc] 190);have aD:=bG.u.below D;have aC:=b2.u.below D;have Z:aB w5 (w.heap.size+2) _ 114:=(U.block _ aC.lt (own_ne aD.row aC ar)).trans aC;have cW:=Z.cell (o:=0) rfl;have cX:=Z.fz;have bO:=aD.push U af ((bB.u.below D).lower bX);have av:=dc ((bz.u.mono bX).trans (D.mono aj)) U aM (fun q V=>(aD.row.lt q V).1);have b4:=ai ((bI.then b5.u av).set (show (fun k=>k=w.heap.size+2) (⟨w.heap.size+2,0,none⟩:Addr).block from rfl) (.slice (some ⟨g5,0,none⟩) (qs.length+1) aV));have cb:=ai (Z.set 0 (.slice (some ⟨g5,0,none⟩) (qs.length+1) aV));have a8:=ai (bO.frame (Rs Z wb 0 (.slice (some ⟨g5,0,none⟩) (qs.length+1) aV)));clear D aD aC Z bO av af U bb a0 ci;go_wp2;go_roundw
     case rel=>exact ⟨j+1,_,_,aj,by go_num,b4.u,cb.u,a8.u,by
      have h1:=ak ax;have h2:=ak bM;have ab:=ak a7;rw [eh aj] at ab;exact ai (by rw [de,h1,h2];simp [ab])⟩
     case measure=>simp [intOf];omega
  have cp:¬((j:Int)<(ps.length:Int)):=aj;have a0:J.cell? ⟨w.heap.size+2,0,none⟩=some (.slice aR qs.length aT):=O.cell rfl;have aJ:=R.blk ch.u aj;have cY:J.cell? ⟨w.heap.size+1,0,none⟩=some (.slice none 0 0):=aJ.cell rfl;have cZ:=aJ.fz;have bK:=ai aJ;have b0:=ai (B1.u.trans (R.below (B:=w.heap.size) JZ (fun g e=>aj)));have a8:=ai ae;clear aJ R O ae;go_wp2_with fail;refine bc (v:=.agg #[.slice aR qs.length aT]) (Qi results59 _ _ (w.heap.size+1) _ 114 _ rfl ?hB underlying114 rfl au) rfl ?post
  case hB=>exact ⟨_,bK.u.set 0 _,aS⟩
  case post=>
   rw [eh aj] at ax;have V:=ak ax;refine ⟨_,_,_,rfl,b0.u.setCell (p:=⟨w.heap.size+1,0,none⟩) an _,qs,(a8.u.frame (Rs bK.u wb 0 _)).lower (gZ _),?_,aj,fun q cr=> ?_⟩
   ·have h1:=congrArg (List.map (List.map KP)) V;rw [bL.u,b7.u] at h1;rw [<-h1,mD];simp
   have h1:q.2.map Prod.fst∈ps.map Prod.snd:=by rw [<-V];exact aY.2 ⟨q,cr,rfl⟩
   obtain ⟨p,ah,e⟩:=aY.1 h1;have h2:=bC.u p ah;have ab:=congrArg List.length e;rw [cK] at ab;have cM:=bF.u;omega
theorem LY(s w o c)(O:fo s=.error (o,c))(R:c≠0)(I:Laid w):
  Calls prog 50 #[.string s] w fun e w'=>e=.returned (.tuple #[.pointer none,.int .i64 c])/\Below w.heap.size w w':=by
 have hl:=I.lt;have D:=ai ((aw w.heap.size w).alloc az (.cells #[.slice none 0 0,.slice none 0 0,.slice none 0 0] 117));have C:=ai (vZ w.heap.size s _ o c O R (I.below D.u hl));have U:((c:Int)==0)=false:=by rw [bG];omega
 have V:((c:Int) != 0)=true:=g8.2 aj;clear O I;go_enter func50,ntmps50;go_wp2_with fail;refine C.u.mono ?_;rintro e Y ⟨rfl,J⟩;have Q:=ai (D.u.trans (J.mono D.u.size));clear J C;go_wp2;go_ret2;exact ⟨rfl,Q.u⟩
def RJ(h:List Ty->ag->af->Prop)(ts:List Ty)(w:af)(e:Ending)(w':af):Prop:=∃mv lv bm tl b,e=.returned (.tuple #[.pointer (some ⟨b,0,none⟩),.int .i64 0])/\PU w' b mv lv (.slice none 0 0) []/\MC bm w' mv ts tl/\h ts lv w'/\Below w.heap.size w w'/\w.heap.size<=b
theorem OT(D:List Ty->ag->af->Prop)(Q:Up D)(O:Rq D)(s:ae)(w:af)(ts:List Ty)(V:fo s=.ok ts)(J:Laid w):
  Calls prog 50 #[.string s] w (RJ D ts w):=by
 have hl:=J.lt;have I:=ai ((aw w.heap.size w).alloc az (.cells #[.slice none 0 0,.slice none 0 0,.slice none 0 0] 117));have C:=ai (z8 D Q O w.heap.size s _ _ _ _ (aB.new w #[.slice none 0 0,.slice none 0 0,.slice none 0 0] 117) ts V (J.below I.u hl));clear V J Q O;go_enter func50,ntmps50;go_wp2_with fail;refine C.u.mono ?_;rintro e ak ⟨mv,lv,bm,tl,rfl,Y,U,Z,R⟩;have ad:=ai Y;have ac:=ai U;have ah:=ai Z;have ab:=ai R;clear Y U Z R C;go_wp2;go_ret2;exact ⟨mv,lv,bm,tl,w.heap.size,rfl,ad.u,ac.u,ah.u,I.u.trans (ab.u.below I.u.size (fun g e=>aj)),cm _⟩
