import Derived.Test.YtlbpnlngckgcbaaGreatDoorM25
set_option linter.all false
set_option maxHeartbeats 4000000
set_option maxRecDepth 100000
namespace Go.Proofs.YtlbpnlngckgcbaaGreatDoor
open Go.RowKit Go.PlainAid Go.Proofs.Tryz
section
variable {aA aU:Prop}
section
open Go.Shelf
abbrev ll(a0:Option Addr)(a1:Nat)(a2:Nat):Obj:=.cells #[.slice a0 a1 a2] 119
abbrev lm:Obj:=.cells #[.int .i64 64] 3
attribute [local go_sem] Oper.semAt_some
def Ul(h Bn:Nat)(W W':af):Prop:=W.heap.size<=W'.heap.size/\W'.heap[h]? =W.heap[h]? /\W'.heap[Bn]? =W.heap[Bn]?
def Ul.trans{A Bn:Nat}{X C D:af}(h:Ul A Bn X C)(k:Ul A Bn C D):Ul A Bn X D:=⟨aP h.1 k.1,k.2.1.trans h.2.1,k.2.2.trans h.2.2⟩
def Mh(sa sn sc w):Calls prog 97 #[.slice sa sn sc,.int .i64 64] w fun e w'=>e=.returned (.func (.func 146) #[] #[.pointer (some ⟨w.heap.size,0,none⟩),.pointer (some ⟨w.heap.size+1,0,none⟩)])/\w'=(w.alloc (ll sa sn sc)).alloc lm:=by
 go_enter func97,ntmps97;go_wp2;go_ret;exact ⟨rfl,rfl⟩
def Mi(n:Nat)(aM:1<=n)(l C Bn g A J:Nat)(D Z:List Unit->af->Prop)(I:af)(ad:AbidesFrom I.heap.size D)
  (ah:∀pre x U,D pre U->pre.length<1->YieldAt Fence.wide (n-1) prog l #[.slice (some ⟨g,0,none⟩) A A] U fun e W'=>(e=.returned (.bool true)/\D (pre++[x]) W'/\Ul C Bn U W')\/(e=.returned (.bool false)/\Z (pre++[x]) W'))
  (ac:aE I C #[.slice (some ⟨g,0,none⟩) A J] 119) (ab:aE I Bn #[.int .i64 64] 3) (aG:0<A) (aF:A<=64) (aH:A<=J) (aI:J<=maxLen) (h0:D [] I):
  CallsIn Fence.wide n prog 146 #[.func (.yield l) #[] #[],.pointer (some ⟨C,0,none⟩),.pointer (some ⟨Bn,0,none⟩)] I fun e W'=>(∃v,e=.returned v)/\((∃al,al=[()]/\D al W')\/(∃pre,pre<+: [()]/\Z pre W')):=by
 have av:=ai ah;have am:=ai ad;have au:=ai ac;have Y:=ai ab;clear ah ad ac ab;refine callsIn_of_wp func146 rfl trivial ?_ rfl;simp only [ntmps146,rO,List.length_cons,List.length_nil,Nat.reduceAdd,Nat.reduceSub,vj,Array.replicate_zero,vk,vm,List.nil_append,List.cons_append];gi_wp2
 gi_loopw [4] (fun u wr=>Ul C Bn I wr/\((u=.int .i64 0/\D [] wr)\/(u=.int .i64 64/\D [()] wr))) (fun u _=>64-(intOf u).toNat)
 case atStart=>exact ⟨⟨bY _,rfl,rfl⟩,.inl ⟨rfl,h0⟩⟩
 case round=>
  obtain ⟨Q,az⟩:=hrel;have aC:wr.cell? ⟨C,0,none⟩=some (.slice (some ⟨g,0,none⟩) A J):=(show aE wr C _ _ from Q.2.1.trans au.u).cell rfl;have aB:wr.cell? ⟨Bn,0,none⟩=some (.int .i64 64):=(show aE wr Bn _ _ from Q.2.2.trans Y.u).cell rfl
  rcases az with ⟨rfl,R⟩|⟨rfl,R⟩
  ·have ag:=am.u [] wr wr.drew none R ⟨rfl,rfl,rfl,bY _,fun _ _ _=>rfl⟩ (fun r e=>by cases e);obtain ⟨fn,aP,aD,body,aN,ay⟩:=av.u [] () _ ag ar;have aK:min (64:Int) (A:Int)=(A:Int):=aj;have aL:min (64:Nat) A=A:=aj;have d0:wr.drew.cell? ⟨C,0,none⟩=some (.slice (some ⟨g,0,none⟩) A J):=aC;have e0:wr.drew.cell? ⟨Bn,0,none⟩=some (.int .i64 64):=aB;have ap:=ai Q;clear ag R Q;gi_wp2
   gi_region
   all_goals gi_wp2
   all_goals (
    refine ay.mono ?_;rintro e V (⟨rfl,ae,ak⟩|⟨rfl,ax⟩)
    ·have an:=ai ae;have k3:=ap.u.trans (show Ul C Bn wr V from ak);have aO:V.cell? ⟨Bn,0,none⟩=some (.int .i64 64):=(show aE V Bn _ _ from k3.2.2.trans Y.u).cell rfl;have aw:=ai k3;clear ae ak k3;gi_wp2;go_roundw
     case rel=>exact ⟨aw.u,.inr ⟨rfl,an.u⟩⟩
     case measure=>simp [intOf]
    ·gi_wp2;refine bq (results_none rfl _ _ _) rfl ?_;exact ⟨⟨_,rfl⟩,.inr ⟨[()],List.prefix_refl _,ax⟩⟩)
  have aJ:¬((64:Int)<(A:Int)):=aj;clear Q;gi_wp2;go_end0;exact ⟨⟨_,rfl⟩,.inl R⟩
end
end
variable {j sb base g n c cn cc B:Nat} {aA aU:Prop} {w w' W0 W W' wr:af} {lv gv v':ag} {ts:List Ty} {gs:List Tu} {aq:Sj} {row:Option Nat} {hl:List Hd} {T:TypeId} {o:Obj} {xs:List ag}
structure Zw(w:af)(cv hv lv:ag)(cs:List Tg)(hl:List Hd)(qs:List (ag×List (It×ag))):Prop where
 cr:BU w cv cs
 hs:HsI w hv hl
 ln:Gc 0 w lv qs
 ok:∀q∈qs,∀p∈q.2,Zm p
 few:∀q∈qs,q.2.length<=1000000
section
variable {w w':af}{cv hv lv:ag}{cs:List Tg}{hl:List Hd}{qs:List (ag×List (It×ag))}{mb n:Nat}{K:Sj->Nat}
def Zw.grp(h:Zw w cv hv lv cs hl qs){A:ag×List (It×ag)}(C:A∈qs):SeG w cv hv A.1 cs hl A.2:=⟨h.cr,h.hs,h.ln.grp A C,h.ok A C,h.few A C⟩
def Zw.cellsK(h:Zw w cv hv lv cs hl qs)(k:nZ w w'):Zw w' cv hv lv cs hl qs:=⟨h.cr.cellsK k,h.hs.cellsK k,h.ln.frame (fun g cs T f A _=>k.2 g cs T f A),h.ok,h.few⟩
end
def Mj(q:ag×List (It×ag)):List TR:=q.2.map fun p=>P1 p.1
def sG(qs:List (ag×List (It×ag))):Nat:=(qs.map fun q=>q.2.length).sum
def Mk{qs:List (ag×List (It×ag))}{A:ag×List (It×ag)}(h:qs[j]? =some A):sG (qs.take (j+1))=sG (qs.take j)+A.2.length/\(qs.take (j+1)).map Mj=(qs.take j).map Mj++[Mj A]:=by
 have C:=(br.1 h).1;have e:qs.take (j+1)=qs.take j++[A]:=by
  rw [cJ C];rw [aH C] at h;rw [gu h]
 rw [e];unfold sG;simp
def Wa{qs:List (ag×List (It×ag))}(j):sG (qs.take j)<=sG qs:=by
 have:sG qs=sG (qs.take j)+sG (qs.drop j):=by
  unfold sG;rw [<-List.sum_append,<-cO,o9]
 omega
def Sv(ls hl):(Eg ls hl).length=ls.length*hl.length:=by
 unfold Eg
 induction ls with
 |nil=>simp
 |cons p ls ih=>rw [cq,aZ,ih,bX,iC,Nat.add_mul,Nat.one_mul,q9]
structure Kst(cs:List Tg)(hl:List Hd)(qs:List (ag×List (It×ag)))(j n:Nat)(K:Sj->Nat):Prop where
 run:Run cs (hl.map lk) ((qs.take j).map Mj) (fun _=>0) K
 few:n<=64000*sG (qs.take j)
def Ml(w ca ha cn cc hn hc mb n j lv K cs hl)(qs:List (ag×List (It×ag)))(A:ag×List (It×ag))(R:Zw w (.slice ca cn cc) (.slice ha hn hc) lv cs hl qs)(an:qY w mb n K)(J:Kst cs hl qs j n K)(I:qs[j]? =some A)(V:Me (qs.map Mj) (hl.map lk))(ai:∀x∈hl,∀y∈hl,x.kd=y.kd->x.id=y.id->x=y)(hs:sG qs<=1000000):
  Calls prog 99 #[.agg #[.slice ca cn cc,.slice ha hn hc,.map (some mb)],A.1] w fun e w'=>e=.returned (.tuple #[])/\bG (fun k=>k=mb) w w'/\∃Q D,qY w' mb Q D/\Kst cs hl qs (j+1) Q D:=by
 have Z:=bA I;have Y:=(br.1 I).1;have U:=R.grp Z;obtain ⟨sa,sc,hv⟩:=ax U.ln.row;have ah:=R.cr.most;have am:Mj A∈qs.map Mj:=aN.2 ⟨A,Z,rfl⟩;have C:=Md ah (Sk V am ai) K;have ae:∀g'∈(qs.take j).map Mj,∀x∈g',∀y∈Mj A,¬(x.1.name=y.1.name/\x.2.name=y.2.name):=fun g' al=>by
  have av:=iK.1 V.ap;obtain ⟨i,hi,rfl⟩:=dk al;rw [bX,dO] at hi;have:=av i j aM (by simpa using Y) aj;rw [aH Y] at I;have e:=gu I;simp only [List.getElem_map,List.getElem_take,e] at this ⊢;exact this
 have ab:Si cs A.2 hl K K:=H0 (Bm J.run (fun s i _=>ar)) (fun s aw=>Sl J.run ae s (JN.2 aw));have aB:jd (Eg A.2 hl) K<=64000*A.2.length:=by
  have h1:=zt K (Eg A.2 hl);rw [Sv] at h1;have h2:A.2.length*hl.length<=A.2.length*1000:=Nat.mul_le_mul_left _ R.hs.most;omega
 obtain ⟨e1,ac⟩:=Mk I;have ay:=Wa (qs:=qs) (j+1);have az:=J.few;rw [hv] at U ⊢;refine (HY w ca ha sa cn cc hn hc _ sc mb n (n+jd (Eg A.2 hl) K) K cs hl A.2 (Si cs A.2 hl K) (jd (Eg A.2 hl)) U C an ab aD gz).mono ?_;rintro e w' ⟨rfl,af,Q,D,au,ad,aC,ak⟩;refine ⟨rfl,af,Q,D,au,⟨?_,?_⟩⟩
 ·rw [ac];exact JO J.run ⟨D,Zs ad ak,rfl⟩
 ·rw [e1];omega
def xH(t:Tg):List ag:=[.string t.kind,.string t.id]
def dU(X:Nat)(cs:List Tg):Nat->List Tg
 |0=>[]
 |j+1=>dU X cs j++(match cs[j]? with
  |some t=>if X.testBit j then [t] else []
  |none=>[])
def Mm{X cs t}(h:cs[j]? =some t)(A:X.testBit j=true):dU X cs (j+1)=dU X cs j++[t]:=by
 rw [dU,h];simp [A]
def Sw{X cs t}(h:cs[j]? =some t)(A:X.testBit j=false):dU X cs (j+1)=dU X cs j:=by
 rw [dU,h];simp [A]
def oz(X cs):∀j,(dU X cs j).length<=j
 |0=>by simp [dU]
 |j+1=>by
  have h:=oz X cs j;rw [dU,aZ]
  cases cs[j]? with
  |none=>simp;omega
  |some t=>
   simp only
   split<;>simp<;>omega
def Wb{X:Nat}(I:X<18446744073709551616)(J:j<64):(bits .and .u64 (X:Int) (IntKind.u64.wrap (2 ^ j)) != 0)=X.testBit j:=by
 refine RR ?_;intro h2 e;rw [e,u64_and_nat _ _ I h2]
 cases C:X.testBit j with
 |true=>
  have A:(X&&& 2 ^ j).testBit j=true:=by rw [wD,C,Hw];rfl
  rw [hP];intro h0;have D:X&&& 2 ^ j=0:=aj;rw [D] at A;simp at A
 |false=>
  have A:X&&& 2 ^ j=0:=by
   apply Nat.eq_of_testBit_eq;intro i;rw [wD]
   by_cases hi:i=j
   ·subst hi;rw [C];simp
   rw [Hz (fun e=>hi e.symm)];simp
  rw [A]
  rfl
section
open Go.Shelf
abbrev sH:=@List.mem_filter
abbrev ij(a0:Option Addr)(a1:Nat)(a2:Nat):Obj:=.cells #[.slice a0 a1 a2] 114
abbrev jy(a0:Option Addr)(a1:Nat)(a2:Nat):Obj:=.cells #[.slice a0 a1 a2] 115
abbrev ku:Obj:=.cells #[.slice none 0 0] 119
attribute [local go_sem] Oper.semAt_some
structure Zx(w:af)(lv cv gv:ag)(ts:List Ty)(gs:List Tu)(cs:List Tg)(aq:Sj):Prop where
 lx:YN ts lv w
 cr:BU w cv cs
 row:w.ownsRow 0 123 6 gv gs.length (gs.flatMap jD)
 few:gs.length<=1000
 low:∀t∈gs,t.kind.size<=maxLen/\t.id.size<=maxLen/\nX (fb t)
 ask:nX aq
 ln:∀g∈cZ ts,∀x∈g,LnR x
 ok:Me (cZ ts) (dG gs)
 sum:((cZ ts).map List.length).sum<=1000000
def Zx.below{cv cs}(h:Zx w lv cv gv ts gs cs aq)(k:an w w'):Zx w' lv cv gv ts gs cs aq:=
 ⟨AJ.below _ _ _ _ h.lx k,h.cr.below k,aB h.row k,h.few,h.low,h.ask,h.ln,h.ok,h.sum⟩
def Sx(ts:List Ty)(gs:List Tu)(cs:List Tg)(aq:Sj)(w:af)(e:Ending)(w':af):Prop:=∃v K,e=.returned v/\an w w'/\Run cs (dG gs) (cZ ts) (fun _=>0) K/\w'.ownsRow w.heap.size 98 2 v (dU (K aq) cs cs.length).length ((dU (K aq) cs cs.length).flatMap xH)
def Tryz.infoTh:(Tryz.prog.info? 98).map (fun i=>(i.zero,i.size,i.bytes))=some (some (.agg #[.string ⟨#[]⟩,.string ⟨#[]⟩]),2,32):=by kernel_rfl
structure ThJ(ts:List Ty)(gs:List Tu)(cs:List Tg)(aq:Sj)(sb:Nat)(W0:af)(pre:List Unit)(W:af)(av:ag):Prop where
 but:bG (fun k=>k=sb) W0 W
 blk:aE W sb #[av] 119
 fst:pre=[]->av=.slice none 0 0
 all:pre≠ []->∃K,Run cs (dG gs) (cZ ts) (fun _=>0) K/\W.ownsRow W0.heap.size 98 2 av (dU (K aq) cs cs.length).length ((dU (K aq) cs cs.length).flatMap xH)
def ThJ.oth{cs pre av}(h:ThJ ts gs cs aq sb W0 pre W av)(A:W.grownBy W' row)(C:∀r,row=some r->W0.heap.size<=r/\∃o:Obj,W.heap[r]? =some o/\o.isCells=false):ThJ ts gs cs aq sb W0 pre W' av:=
 ⟨⟨A.os.trans h.but.os,A.tape.trans h.but.tape,A.output.trans h.but.output,aP h.but.size A.size,fun k I hs=>(A.block k (cK I h.but.size) (fun e=>by have:=(C k e.symm).1;omega)).trans (h.but.block k I hs)⟩,
  fG (β:=Unit) W0.heap.size _ _ _ () W W' row h.blk A C,h.fst,fun J=>by
   obtain ⟨K,h1,h2⟩:=h.all J;exact ⟨K,h1,ay h2 (fun g cs f _ D=>A.block g (lt_of_some D) (fun e=>by
    obtain ⟨o,ho,hc⟩:=(C g e.symm).2;rw [D] at ho
    cases ho
    cases hc))⟩⟩
def hl_hs{hv}(h:JQ base w hv hl)(V:hl.map lk=dG gs)(ac:hl.length<=gs.length)(Y:∀x∈hl,x.ts.length<=gs.length)(ad:gs.length<=1000)(C:∀t∈gs,t.kind.size<=maxLen/\t.id.size<=maxLen/\nX (fb t)):HsI w hv hl:=by
 refine ⟨bg h.row (gH _),fun x D=>⟨⟨bg (h.tup x D) (gH _),by have:=Y x D;omega⟩,?_⟩,aj⟩;have ab:lk x∈dG gs:=by rw [<-V];exact aN.2 ⟨x,D,rfl⟩
 obtain ⟨e1,R⟩:=(iU gs).ts _ ab;have Q:x.ts=gs.filter (fun t=>lP (lk x) t):=e1;have I:∀t∈x.ts,t∈gs/\x.kd=t.kind/\x.id=t.id:=fun t A=>by
  rw [Q,sH] at A;exact ⟨A.1,eA.1 A.2⟩
 have J:x.ts≠ []:=R;obtain ⟨t,A⟩:=List.exists_mem_of_ne_nil _ J;obtain ⟨h1,h2,U⟩:=I t A;refine ⟨mX.2 J,by rw [h2];exact (C t h1).1,by rw [U];exact (C t h1).2.1,fun u Z=>(C u (I u Z).1).2.2⟩
def BU.but{S o cs}(h:BU w (.slice (some ⟨g,o,none⟩) n c) cs)(k:bG S w w')(C:¬S g)(c'):BU w' (.slice (some ⟨g,o,none⟩) n c') cs:=by
 obtain ⟨g',J,I,e,h2,D,A⟩:=h;simp only [aI,aL,ce,fI] at e;obtain ⟨⟨rfl,rfl⟩,rfl,_⟩:=e;exact ⟨g,o,c',rfl,cK h2 k.size,D,fun i x hi=>⟨(ji (w:=w) (k.block g h2 C)).trans (A i x hi).1,(ji (w:=w) (k.block g h2 C)).trans (A i x hi).2⟩⟩
def Zx.but{cs bs}(h:Zx w lv (.slice (some ⟨g,0,none⟩) cn cc) gv ts gs cs aq)(k:bG (fun k=>k=sb) w w')(D:aE w sb bs 119)(I:g≠sb):Zx w' lv (.slice (some ⟨g,0,none⟩) cn cc) gv ts gs cs aq:=by
 have key:∀(i:Nat)(xs:Array ag)(T:TypeId)(f:Nat×Nat),w.heap[i]? =some (Obj.cells xs T f)->T≠119->w'.heap[i]? =w.heap[i]? :=fun i xs T f A C=>k.block i (lt_of_some A) (fun e=>by
  subst e;unfold aE at D;rw [D] at A
  cases A
  exact C rfl)
 obtain ⟨qs,h1,h2⟩:=h.lx;exact ⟨⟨qs,h1.frame (fun i xs T f A C=>key i xs T f A (by rcases C with rfl|rfl|rfl<;>decide)),h2⟩,h.cr.but k I cc,ay h.row (fun i xs f _ A=>key i xs _ f A au),h.few,h.low,h.ask,h.ln,h.ok,h.sum⟩
def Mn{bs}(k:bG (fun k=>k=sb) W W')(h:aE W sb bs T):KeepsFrom B W W':=⟨k.size,fun i o _ hi ho=>(k.block i (lt_of_some hi) (fun e=>by
 subst e;unfold aE at h;rw [h] at hi
 cases hi
 cases ho)).trans hi⟩
def Zy{W2 w7 o2 av ys}(R:bG (fun k=>k=sb) W2 wr)(Q:aE wr sb #[av] 119)(V:wr.ownsRow W2.heap.size 98 2 av n xs)(A:((wr.alloc o).drew.alloc o2).grownBy w7 av.ownBlock)(U:w7.ownsRow W2.heap.size 98 2 v' (n+1) ys):
  bG (fun k=>k=sb) W2 (w7.setCell ⟨sb,0,none⟩ v')/\aE (w7.setCell ⟨sb,0,none⟩ v') sb #[v'] 119/\(w7.setCell ⟨sb,0,none⟩ v').ownsRow W2.heap.size 98 2 v' (n+1) ys:=by
 have b:an wr ((wr.alloc o).drew.alloc o2):=(((az _ wr).alloc aD o).drew).alloc ar o2;have J:=aB V b;have C:=Q.below b;have D:aE w7 sb #[av] 119:=(A.block sb C.lt (own_ne J C au)).trans C;have Y:bG (fun k=>k=sb) W2 w7:=by
  have h1:=R.trans (bG.of_below b);exact ⟨A.os.trans h1.os,A.tape.trans h1.tape,A.output.trans h1.output,aP h1.size A.size,fun k I hs=>(A.block k (cK I h1.size) (fun e=>by have:=(J.lt k e.symm).1;omega)).trans (h1.block k I hs)⟩
 exact ⟨Y.set rfl _,D.set 0 _,bN U D au 0 _⟩
def Mo(la ga ln lc g A cc gn gc w ts gs cs aq)(h:Zx w (.slice la ln lc) (.slice (some ⟨g,0,none⟩) A cc) (.slice ga gn gc) ts gs cs aq)(dz:0<cs.length)(cY:A<=cc)(c3:cc<=maxLen):
  Calls prog 58 #[.agg #[.slice la ln lc],.slice (some ⟨g,0,none⟩) A cc,.agg #[.string aq.kind,.string aq.id,.string aq.rel],.slice ga gn gc] w (Sx ts gs cs aq w):=by
 obtain ⟨i0,c6,dl,dm,dn⟩:=bK Tryz.infoTh;have bq:A=cs.length:=by
  obtain ⟨g',a5,bn,e,_⟩:=h.cr;exact FM
 have c5:g<w.heap.size:=by
  obtain ⟨g',a5,bn,e,h2,_⟩:=h.cr;simp only [aI,aL,ce] at e;rw [e.1.1];exact h2
 have bX:A<=64:=by rw [bq];exact h.cr.most
 have cX:0<A:=aj;have a8:=ai bq;clear bq;refine (js (n:=8)).1 ?_;refine callsIn_of_wp_marks func58 rfl trivial ?_ rfl;simp only [ntmps58,rO,List.length_cons,List.length_nil,Nat.reduceAdd,Nat.reduceSub,vj,Array.replicate_zero,vk,vm,List.nil_append,List.cons_append];gi_wp2_with fail;refine ⟨trivial,(js.2 (Mh _ _ _ _)).mono ?_⟩;rintro e w' ⟨rfl,rfl⟩;gi_wp2_with fail;have bp:an w ((((w.alloc (ij la ln lc)).alloc (cB aq.kind aq.id aq.rel)).alloc (jy ga gn gc)).alloc ku):=((((az _ w).alloc aD _).alloc ar _).alloc aM _).alloc aM _;have ad:an w ((((((w.alloc (ij la ln lc)).alloc (cB aq.kind aq.id aq.rel)).alloc (jy ga gn gc)).alloc ku).alloc (ll (some ⟨g,0,none⟩) A cc)).alloc lm):=(bp.alloc bp.size _).alloc aM _;have bS:aE ((((((w.alloc (ij la ln lc)).alloc (cB aq.kind aq.id aq.rel)).alloc (jy ga gn gc)).alloc ku).alloc (ll (some ⟨g,0,none⟩) A cc)).alloc lm) w.heap.size #[.slice la ln lc] 114:=(((((aE.new w _ _).alloc _).alloc _).alloc _).alloc _).alloc _;have bO:aE ((((((w.alloc (ij la ln lc)).alloc (cB aq.kind aq.id aq.rel)).alloc (jy ga gn gc)).alloc ku).alloc (ll (some ⟨g,0,none⟩) A cc)).alloc lm) (w.heap.size+1) #[.string aq.kind,.string aq.id,.string aq.rel] 102:=((((aE.new' (w.alloc (ij la ln lc)) _ _ (w.heap.size+1) ar).alloc _).alloc _).alloc _).alloc _;have bR:aE ((((((w.alloc (ij la ln lc)).alloc (cB aq.kind aq.id aq.rel)).alloc (jy ga gn gc)).alloc ku).alloc (ll (some ⟨g,0,none⟩) A cc)).alloc lm) (w.heap.size+1+1) #[.slice ga gn gc] 115:=(((aE.new' ((w.alloc (ij la ln lc)).alloc (cB aq.kind aq.id aq.rel)) _ _ (w.heap.size+1+1) ar).alloc _).alloc _).alloc _;have bi:aE ((((((w.alloc (ij la ln lc)).alloc (cB aq.kind aq.id aq.rel)).alloc (jy ga gn gc)).alloc ku).alloc (ll (some ⟨g,0,none⟩) A cc)).alloc lm) (w.heap.size+1+1+1) #[.slice none 0 0] 119:=((aE.new' (((w.alloc (ij la ln lc)).alloc (cB aq.kind aq.id aq.rel)).alloc (jy ga gn gc)) _ _ (w.heap.size+1+1+1) ar).alloc _).alloc _;have bQ:aE ((((((w.alloc (ij la ln lc)).alloc (cB aq.kind aq.id aq.rel)).alloc (jy ga gn gc)).alloc ku).alloc (ll (some ⟨g,0,none⟩) A cc)).alloc lm) (w.heap.size+1+1+1+1) #[.slice (some ⟨g,0,none⟩) A cc] 119:=(aE.new' ((((w.alloc (ij la ln lc)).alloc (cB aq.kind aq.id aq.rel)).alloc (jy ga gn gc)).alloc ku) _ _ (w.heap.size+1+1+1+1) ar).alloc _;have bT:aE ((((((w.alloc (ij la ln lc)).alloc (cB aq.kind aq.id aq.rel)).alloc (jy ga gn gc)).alloc ku).alloc (ll (some ⟨g,0,none⟩) A cc)).alloc lm) (w.heap.size+1+1+1+1+1) #[.int .i64 64] 3:=aE.new' _ _ _ _ ar;have bI:=h.below ad;have dj:((((((w.alloc (ij la ln lc)).alloc (cB aq.kind aq.id aq.rel)).alloc (jy ga gn gc)).alloc ku).alloc (ll (some ⟨g,0,none⟩) A cc)).alloc lm).heap.size=w.heap.size+6:=ar;obtain ⟨W0,b3⟩:∃W0,((((((w.alloc (ij la ln lc)).alloc (cB aq.kind aq.id aq.rel)).alloc (jy ga gn gc)).alloc ku).alloc (ll (some ⟨g,0,none⟩) A cc)).alloc lm)=W0:=⟨_,rfl⟩;rw [b3] at ad bS bO bR bi bQ bT bI dj ⊢;clear b3 bp h;refine wpIn_rangeFunc_ownG (F:=Fence.wide) (α:=Unit) rfl au (gf:=146) (lb:=#[.pointer (some ⟨w.heap.size+1+1+1+1,0,none⟩),.pointer (some ⟨w.heap.size+1+1+1+1+1,0,none⟩)]) rfl trivial (enters_of func146 aw rfl)
  (encs:=fun _=>#[.slice (some ⟨g,0,none⟩) A A]) (Kp:=Ul (w.heap.size+1+1+1+1) (w.heap.size+1+1+1+1+1)) (S:=fun cq=>cq=[()]) (Sp:=fun pre=>pre<+: [()]) (N:=1) (w0:=W0)
  (fun l cI cJ W b2 cQ _ cV h0=>Mi _ au l _ _ g A cc cI cJ W cQ cV (bQ.below b2) (bT.below b2) cX bX cY c3 h0)
  (fun h k=>Ul.trans h k)
  (fun W l o a5 hl ho hc dK=>⟨(vi W l a5).size,World.putObj_heap_other (fun e=>aj),World.putObj_heap_other (fun e=>aj)⟩)
  bj (fun _=>rfl)
  (fun pre W=>∃Q,ThJ ts gs cs aq (w.heap.size+1+1+1) W0 pre W Q)
  (fun bW pre W=>False)
  (fun pre X cM row hs b8 ck=>by obtain ⟨Q,h⟩:=hs;exact ⟨Q,h.oth b8 ck⟩)
  (fun bW s X cM row hs b8 ck=>hs)
  ⟨.slice none 0 0,⟨bG.refl _ _,bi,fun _=>rfl,fun h=>absurd rfl h⟩⟩
  (fun _=>{tmps:=#[.agg #[.slice la ln lc],.slice (some ⟨g,0,none⟩) A cc,.agg #[.string aq.kind,.string aq.id,.string aq.rel],.slice ga gn gc,.pointer (some ⟨w.heap.size,0,none⟩),undef,.pointer (some ⟨w.heap.size+1,0,none⟩),.pointer (some ⟨w.heap.size+1+1,0,none⟩),.slice none 0 0,.pointer (some ⟨w.heap.size+1+1+1,0,none⟩),.slice (some ⟨g,0,none⟩) A A,undef,undef,undef,undef,undef,.slice (some ⟨g,0,none⟩) A cc,.func (.func 146) #[] #[.pointer (some ⟨w.heap.size+1+1+1+1,0,none⟩),.pointer (some ⟨w.heap.size+1+1+1+1+1,0,none⟩)],.slice (some ⟨g,0,none⟩) A A,undef,undef,undef,undef,undef,undef,undef,undef,undef,undef,undef,undef,undef,undef,undef,undef,undef,undef,undef,undef,undef,undef,undef,undef,undef,undef,undef,undef,undef,undef,undef,undef,undef,undef,undef,undef,undef],defers:=[]})
  ?assign ?body ?done ?stop
 case assign=>
  intro l x W K ae;gi_wp2;exact ae
 case body=>
  rintro l pre x W ⟨Q,J⟩ cf;obtain rfl:pre=[]:=by
   cases pre with
   |nil=>rfl
   |cons a b=>simp at cf
  obtain rfl:=J.fst rfl;have dB:g<w.heap.size:=c5;have ap:=bI.but J.but bi aj;have bo:W.cell? ⟨w.heap.size,0,none⟩=some (.slice la ln lc):=(J.but.blk bS aj).cell rfl;have bP:=J.but.blk bO aj;have cN:W.cell? ⟨w.heap.size+1+1,0,none⟩=some (.slice ga gn gc):=(J.but.blk bR aj).cell rfl;have C:=ai (Ej _ gs W ap.row ap.few);have bH:=ai J;have Y:=ai ap;have cS:=J.but.size;have U:=ap.ask;clear J ap cf;gi_wp2_with fail;refine ⟨trivial,(rP l (js.2 C.u)).mono ?_⟩;rintro e w1 ⟨hv,hl,rfl,Z,hH,aF,a3,hn⟩;obtain ⟨ha,hc,rfl⟩:=ax hH.row;have de:=@run_makeMap prog;obtain ⟨qs,a4,cj,_,ci⟩:=Y.u.lx;have dc:ln=qs.length:=by
   obtain ⟨a',bn,e⟩:=ax a4.row;exact FM
  subst dc;have aJ:qs.map Mj=cZ ts:=cj;have bm:=(az w1.heap.size w1).alloc aD (.map #[] 0);have bl:=bm.alloc bm.size (.cells #[.slice (some ⟨g,0,none⟩) A A,.slice ha hl.length hc,.map (some w1.heap.size)] 189);have ac:=Z.trans (bl.mono Z.size);have bN:Zw ((w1.alloc (.map #[] 0)).alloc (.cells #[.slice (some ⟨g,0,none⟩) A A,.slice ha hl.length hc,.map (some w1.heap.size)] 189)) (.slice (some ⟨g,0,none⟩) A A) (.slice ha hl.length hc) (.slice la qs.length lc) cs hl qs:=
   ⟨Y.u.cr.but (S:=fun _=>False) (.of_below ac) (fun e=>e) A,hl_hs (hH.below bl) aF a3 hn Y.u.few Y.u.low,a4.below ac,(fun q aG p df=>(LnR.ok (Y.u.ln (Mj q) (by rw [<-aJ];exact aN.2 ⟨q,aG,rfl⟩) _ (aN.2 ⟨p,df,rfl⟩)))),ci⟩
  have bM:qY ((w1.alloc (.map #[] 0)).alloc (.cells #[.slice (some ⟨g,0,none⟩) A A,.slice ha hl.length hc,.map (some w1.heap.size)] 189)) w1.heap.size 0 (fun _=>0):=(RJ w1).block (Below.heap_alloc _ _ _ ar);have bJ:=aE.new' (w1.alloc (.map #[] 0)) #[.slice (some ⟨g,0,none⟩) A A,.slice ha hl.length hc,.map (some w1.heap.size)] 189 (w1.heap.size+1) ar;have bZ:Me (qs.map Mj) (hl.map lk):=by rw [aJ,aF];exact Y.u.ok
  have di:sG qs<=1000000:=by
   have e:=Y.u.sum;rw [<-aJ,gq] at e;unfold sG;refine aP (Nat.le_of_eq ?_) e
   congr 1
   apply List.map_congr_left;intro q _;simp [Mj]
  have b9:=Zv aF;have cO:w1.cell? ⟨w.heap.size,0,none⟩=some (.slice la qs.length lc):=am bo Z;have cP:=am bo ac;have dE:¬(w.heap.size=w1.heap.size):=by have:=Z.size;omega
  have dF:¬(w.heap.size=w1.heap.size+1):=by have:=Z.size;omega
  have dy:=Z.size;have a7:=ai ac;have be:=ai bN;have al:=ai bM;have a9:=ai bJ;have cA:=ai bZ;have cC:=ai b9;have dt:=ai a4;have bE:=ai (And.intro aF aJ);have bz:=ai (bP.below ac);clear C bm bl ac bN bM bJ bZ b9 hH aF a3 hn cj aJ Z a4 ci bP;gi_wp2_with fail;obtain ⟨mb,cg⟩:∃b,b=w1.heap.size:=⟨_,rfl⟩;obtain ⟨cL,b4⟩:∃x,x=((w1.alloc (.map #[] 0)).alloc (.cells #[.slice (some ⟨g,0,none⟩) A A,.slice ha hl.length hc,.map (some w1.heap.size)] 189)):=⟨_,rfl⟩;rw [<-b4] at a7 be al a9 bz ⊢;rw [<-cg] at al a9 ⊢;have dD:W.heap.size<=mb:=aj;clear b4 de bo cN cO cP cg
  gi_loopw [27] (fun u ah=>∃(j n:Nat)(K:Sj->Nat),u=.int .i64 j/\j<=qs.length/\bG (fun k=>k=mb) cL ah/\qY ah mb n K/\Hid (Kst cs hl qs j n K)) (fun u _=>qs.length-(intOf u).toNat)
  case atStart=>exact ⟨0,0,_,rfl,aj,bG.refl _ _,ak al,ai ⟨rfl,ar⟩⟩
  case round=>
   obtain ⟨j,n,K,rfl,c9,V,aC,aV⟩:=hrel;have ay:=V.blk (ak a9) aj;obtain ⟨c0,c1,c2⟩:=three ay
   by_cases db:j<qs.length
   ·have da:(j:Int)<(qs.length:Int):=by omega
    obtain ⟨q,aG⟩:∃q,qs[j]? =some q:=⟨_,aH db⟩;have sa:=(ak be).cellsK (mF (ak al) V);obtain ⟨dx,dv,e1,c4⟩:=aS sa.ln.row j q.1 (by rw [eo,aG];rfl);simp only [aI,bU] at e1;obtain ⟨rfl,rfl⟩:=e1;obtain ⟨dW,dX,bs⟩:=ax (sa.grp (bA aG)).ln.row;obtain ⟨dY,co⟩:∃n,n=q.2.length:=⟨_,rfl⟩;rw [<-co] at bs;have a6:=ai (Ml wr _ _ _ _ _ _ mb n j _ K cs hl qs q sa aC (ak aV) aG cA.u cC.u di);rw [bs] at c4 a6;have bB:=ai V;clear V aC aV bs co sa ay;gi_wp2_with fail;refine ⟨trivial,(rP l (js.2 (ak a6))).mono ?_⟩;rintro e dS ⟨rfl,b5,dp,cK,cd,b0⟩;have cw:=ai (bB.u.trans b5);have cD:=ai cd;have cG:=ai b0;clear b5 cd b0 a6 bB;gi_wp2;go_roundw
    case rel=>exact ⟨j+1,dp,cK,by go_num,aj,cw.u,cD.u,cG⟩
    case measure=>simp [intOf];omega
   have da:¬((j:Int)<(qs.length:Int)):=aj;have bF:=ai (show Run cs (dG gs) (cZ ts) (fun _=>0) K from by
    have:=(ak aV).run;rw [show j=qs.length by omega,kY,bE.u.1,bE.u.2] at this;exact this)
   have cU:=pY (by rw [<-a8.u];exact bX) (Bm bF.u (fun s i _=>ar) aq);have sa:=(ak be).cellsK (mF (ak al) V);have cy:=ai sa.cr;have aY:an W wr:=(ak a7).trans (V.below (B:=W.heap.size) (ak a7).size (fun g e=>aj));have cx:=ai aY;have cH:=ai (bH.u.blk.below aY);have ct:=ai (V.blk (ak bz) (show ¬(w.heap.size+1=mb) by omega));have cF:=ai aC;have cE:=ai ay;have dd:=aC.lt;have dC:=ay.lt;have dk:=aY.size;clear V aC aV sa ay aY c0 c1 c2 c9;gi_wp2_with fail;obtain ⟨bh,cR⟩:∃x,x=wr:=⟨_,rfl⟩;subst cR
   gi_loopw [37] (fun u ah=>∃(i:Nat)(Q:ag),u=.int .i64 i/\i<=A/\bG (fun k=>k=w.heap.size+1+1+1) bh ah/\aE ah (w.heap.size+1+1+1) #[Q] 119/\ah.ownsRow bh.heap.size 98 2 Q (dU (K aq) cs i).length ((dU (K aq) cs i).flatMap xH)) (fun u _=>A-(intOf u).toNat)
   case atStart=>exact ⟨0,_,rfl,aj,bG.refl _ _,cH.u,bL⟩
   case round=>
    obtain ⟨i,Q,rfl,hi,R,ab,aK⟩:=hrel;obtain ⟨bv,bw,rfl⟩:=ax aK
    by_cases c8:i<A
    ·have c7:(i:Int)<(A:Int):=by omega
     obtain ⟨x,aO⟩:∃x,cs[i]? =some x:=⟨_,aH (by rw [<-a8.u];exact c8)⟩;obtain ⟨g',a5,bn,e1,_,_,b7⟩:=cy.u.but R (show ¬(g=w.heap.size+1+1+1) by omega) A;simp only [aI,aL,ce,fI] at e1;obtain ⟨⟨rfl,rfl⟩,dg,dh⟩:=e1;clear dg dh;obtain ⟨y0,y1⟩:=b7 i x aO;simp only [pE] at y0 y1;have av:=(az wr.heap.size wr).alloc aD (en x.kind x.id);obtain ⟨dT,dV,ds⟩:=three ((R.blk cE.u aj).below av);obtain ⟨a0,a1,a2⟩:=three ((R.blk ct.u aj).below av);have cp:qY (wr.alloc (en x.kind x.id)).drew mb n K:=cF.u.block ((av.block mb (by have:=R.size;omega)).trans (R.block mb dd aj));have bC:=ai R;have aR:=ai ab;have aW:=ai aK;have dq:wr.cell? ⟨w.heap.size+1+1+1,0,none⟩=some (.slice bv (dU (K aq) cs i).length bw):=ab.cell rfl;have dN:=ab.fz;have dJ:=ab.lt;have dL:=R.size;clear b7 R ab aK;gi_wp2_with fail;refine qy (S:=fun w'=>w'.cell? ⟨mb+1,2,none⟩=some (.map (some mb))/\w'.cell? ⟨w.heap.size+1,0,none⟩=some (.string aq.kind)/\w'.cell? ⟨w.heap.size+1,1,none⟩=some (.string aq.id)/\w'.cell? ⟨w.heap.size+1,2,none⟩=some (.string aq.rel)/\qY w' mb n K) aw aw ⟨ds,a0,a1,a2,cp⟩ (fun hH=> ?_);refine bV (i:=0) (v:= ?v0) rfl aw aw aw (fun _ _ _ h=>by cases h.1) (Or.inl ⟨bc,?y0⟩) hH ?r0
     case y0=>
      intro w' I;obtain ⟨f0,f1,f2,f3,f4⟩:=I;have D:=f4.look U;unfold xk at D
      try dsimp only at D
      go_simp
      all_goals with_reducible rfl
     try simp only [Act.put,List.getElem_toArray,List.getElem_cons_zero,List.getElem_cons_succ,fo,List.set_cons_zero,List.set_cons_succ]
     refine bV (i:=1) (v:= ?v1) rfl aw aw aw (fun _ _ _ h=>by cases h.1) (Or.inl ⟨bc,?y1⟩) hH ?r1
     case y1=>
      intro w' I;obtain ⟨f0,f1,f2,f3,f4⟩:=I;have D:=f4.look U;unfold xk at D
      try dsimp only at D
      go_simp
      all_goals with_reducible rfl
     try simp only [Act.put,List.getElem_toArray,List.getElem_cons_zero,List.getElem_cons_succ,fo,List.set_cons_zero,List.set_cons_succ]
     refine bV (i:=2) (v:= ?v2) rfl aw aw aw (fun _ _ _ h=>by cases h.1) (Or.inl ⟨bc,?y2⟩) hH ?r2
     case y2=>
      intro w' I;obtain ⟨f0,f1,f2,f3,f4⟩:=I;have D:=f4.look U;unfold xk at D
      try dsimp only at D
      go_simp
      all_goals with_reducible rfl
     try simp only [Act.put,List.getElem_toArray,List.getElem_cons_zero,List.getElem_cons_succ,fo,List.set_cons_zero,List.set_cons_succ]
     refine bV (i:=3) (v:= ?v3) rfl aw aw aw (fun _ _ _ h=>by cases h.1) (Or.inl ⟨bc,?y3⟩) hH ?r3
     case y3=>
      intro w' I;obtain ⟨f0,f1,f2,f3,f4⟩:=I;have D:=f4.look U;unfold xk at D
      try dsimp only at D
      go_simp
      all_goals with_reducible rfl
     try simp only [Act.put,List.getElem_toArray,List.getElem_cons_zero,List.getElem_cons_succ,fo,List.set_cons_zero,List.set_cons_succ]
     refine bV (i:=4) (v:= ?v4) rfl aw aw aw (fun _ _ _ h=>by cases h.1) (Or.inl ⟨bc,?y4⟩) hH ?r4
     case y4=>
      intro w' I;obtain ⟨f0,f1,f2,f3,f4⟩:=I;have D:=f4.look U;unfold xk at D
      try dsimp only at D
      go_simp
      all_goals with_reducible rfl
     try simp only [Act.put,List.getElem_toArray,List.getElem_cons_zero,List.getElem_cons_succ,fo,List.set_cons_zero,List.set_cons_succ]
     refine bV (i:=5) (v:= ?v5) rfl aw aw aw (fun _ _ _ h=>by cases h.1) (Or.inl ⟨bc,?y5⟩) hH ?r5
     case y5=>
      intro w' I;obtain ⟨f0,f1,f2,f3,f4⟩:=I;have D:=f4.look U;unfold xk at D
      try dsimp only at D
      go_simp
      all_goals with_reducible rfl
     try simp only [Act.put,List.getElem_toArray,List.getElem_cons_zero,List.getElem_cons_succ,fo,List.set_cons_zero,List.set_cons_succ]
     refine bV (i:=6) (v:= ?v6) rfl aw aw aw (fun _ _ _ h=>by cases h.1) (Or.inl ⟨bc,?y6⟩) hH ?r6
     case y6=>
      intro w' I;obtain ⟨f0,f1,f2,f3,f4⟩:=I;have D:=f4.look U;unfold xk at D
      try dsimp only at D
      go_simp
      all_goals with_reducible rfl
     try simp only [Act.put,List.getElem_toArray,List.getElem_cons_zero,List.getElem_cons_succ,fo,List.set_cons_zero,List.set_cons_succ]
     refine bV (i:=7) (v:= ?v7) rfl aw aw aw (fun _ _ _ h=>by cases h.1) (Or.inl ⟨bc,?y7⟩) hH ?r7
     case y7=>
      intro w' I;obtain ⟨f0,f1,f2,f3,f4⟩:=I;have D:=f4.look U;unfold xk at D
      try dsimp only at D
      go_simp
      all_goals with_reducible rfl
     try simp only [Act.put,List.getElem_toArray,List.getElem_cons_zero,List.getElem_cons_succ,fo,List.set_cons_zero,List.set_cons_succ]
     refine wpAnyH_done aw ?_ _;refine ⟨rfl,?_⟩;have b6:=Wb cU (show i<64 by omega);have bd:=av.drew;have t9:(wr.alloc (en x.kind x.id)).drew.cell? ⟨w.heap.size+1+1+1,0,none⟩=some (.slice bv (dU (K aq) cs i).length bw):=am dq bd;have t8:=(aR.u.below bd).fz;have bt:=(aE.new wr (py x.kind x.id) 98).drew;have dO:(wr.alloc (en x.kind x.id)).drew.cell? ⟨wr.heap.size,0,none⟩=some (.string x.kind):=bt.cell rfl;have dP:(wr.alloc (en x.kind x.id)).drew.cell? ⟨wr.heap.size,1,none⟩=some (.string x.id):=bt.cell rfl;have dH:=oz (K aq) cs i;clear hH cp av bt
     cases af:(K aq).testBit i with
     |true=>
      rw [af] at b6;have bb:=ai (Mm aO af);clear af aO;gi_wp2_with (gi_at_builtin;go_must (refine kI rfl _ _ 119 rfl bh.heap.size 98 i0 _ 2 32 underlying119 c6 dl dm dn rfl au (.slice bv (dU (K aq) cs i).length bw) (dU (K aq) cs i).length ((dU (K aq) cs i).flatMap xH) rfl ?hown ⟨wr.heap.size+1,0,none⟩ 1 1 [.string x.kind,.string x.id] rfl rfl ?hnews ?hone au ?h63 ?hbytes ?hbase (wr.heap.size+1+1) ?hH ?hrest))
      case hown=>exact (aB aW.u bd).alloc _
      case hnews=>exact bu (B:=wr.heap.size+1) (cs:=#[.string x.kind,.string x.id]) (t:=98) (fr:=(0,0)) (aE.new' _ _ _ _ ar)
      case hone=>
       intro u cm;simp at cm
       rcases cm with rfl|rfl<;>rfl
      case h63=>unfold maxLen;omega
      case hbytes=>omega
      case hbase=>simp;omega
      case hH=>simp
      case hrest=>
       intro dw du dr ch br cW dA;have ba:=ai (Zy bC.u aR.u aW.u br ch);have bk:=bd.alloc bd.size (en x.kind x.id);have aX:=aR.u.below bk;have bf:aE dr (w.heap.size+1+1+1) _ 119:=(br.block _ aX.lt (own_ne (aB aW.u bk) aX au)).trans aX;have dR:=bf.cell (o:=0) rfl;have dQ:=bf.fz;clear ch br cW bk aX bf;gi_wp2;go_roundw
       case rel=>exact ⟨i+1,_,by go_num,aj,ba.u.1,ba.u.2.1,by
        have:=ba.u.2.2;rw [bb.u,aZ,cT];exact this⟩
       case measure=>simp [intOf];omega
     |false=>
      rw [af] at b6;have bb:=ai (Sw aO af);clear af aO;gi_wp2;go_roundw
      case rel=>exact ⟨i+1,_,by go_num,aj,bC.u.trans (.of_below bd),aR.u.below bd,by
       rw [bb.u];exact aB aW.u bd⟩
      case measure=>simp [intOf];omega
    have c7:¬((i:Int)<(A:Int)):=aj;have cb:i=cs.length:=by have:=a8.u;omega
    have cz:=ai (show KeepsFrom (w.heap.size+6) W wr/\Ul (w.heap.size+1+1+1+1) (w.heap.size+1+1+1+1+1) W wr/\∃Q,ThJ ts gs cs aq (w.heap.size+1+1+1) W0 [x] wr Q from by
     have aQ:bG (fun k=>k=w.heap.size+1+1+1) W wr:=(bG.of_below cx.u).trans R;have st:=bH.u;refine ⟨Mn aQ st.blk,⟨aQ.size,aQ.block _ aj aj,aQ.block _ aj aj⟩,_,⟨st.but.trans aQ,ab,(fun e=>by simp at e),fun _=>⟨K,bF.u,?_⟩⟩⟩;rw [<-cb];exact bg aK (aP cS dk))
    clear R ab aK cb;gi_wp2;exact cz.u
 case done=>
  rintro bx cq W bY rfl ⟨Q,J⟩ ae;obtain ⟨K,cl,hown⟩:=J.all ar;obtain ⟨sa,sc,rfl⟩:=ax hown;have dM:=J.blk.cell (o:=0) rfl;have cu:=ai (ad.trans (J.but.below (B:=w.heap.size) ad.size (fun g e=>aj)));have bD:=ai (And.intro cl hown);clear J cl hown;gi_wp2;refine ⟨ar,.inl ⟨_,_,rfl,run_takeDeferred ae,?_⟩⟩;refine ⟨.slice sa (dU (K aq) cs cs.length).length sc,?_,_,K,rfl,cu.u.trans (belowK_b (w:=w) aD W bx _ _ (aP ad.size bY) ae rfl rfl),bD.u.1,?_⟩
  ·simp [results,Tryz.f58,go_sem]
  exact bg (ownsRow_putObj bD.u.2 _ ae rfl) ad.size
 case stop=>
  rintro bx bW pre W bY dI a3 ae;exact a3.elim
end
