import Derived.Test.YtlbpnlngckgcbaaGreatDoorM28
import Derived.Deep.Slices
import Derived.ChangeArms
import Derived.SizedLaws
import Derived.Lib.LaidTab
import Derived.Shelf.Vars
import Derived.ChangeSame
import Derived.DataShut
import Derived.OpenShut
import Derived.ChangeVars
import Derived.ChangeSlices
import Derived.Carry
import Derived.LaidLaws
import Derived.LaidHandle
import Derived.LaidMore
import Derived.LaidSub
import Derived.Test.YtlbpnlngckgcbaaGreatDoorRows
import Derived.HandedShaped
import Derived.JoinedOf
import Derived.Stop.Joined
import Derived.Test.YtlbpnlngckgcbaaGreatDoorTie
import Derived.Test.YtlbpnlngckgcbaaGreatDoorCards
import Derived.SevenTiedAt
set_option linter.all false
set_option maxHeartbeats 4000000
set_option maxRecDepth 100000
namespace Go.Proofs.YtlbpnlngckgcbaaGreatDoor
open Go.ChangeShapes Go.WideShapes Go.RowKit
theorem Y9:Tryz.prog.cellsOf 3=1:=by kernel_rfl
theorem Za:Tryz.prog.cellsOf 9=1:=by kernel_rfl
theorem Eu:Tryz.prog.cellsOf 34=5:=by kernel_rfl
theorem Vu:Tryz.prog.bytesOf 34=64:=by kernel_rfl
theorem Vv {n:Int} (h:(Lit.int .i64 n).wf=true): -9223372036854775808≤n∧n≤9223372036854775807:=by
 simp only [Lit.wf,Bool.and_eq_true,decide_eq_true_eq] at h;have h1:IntKind.i64.min= -9223372036854775808:=by decide
 have h2:IntKind.i64.max=9223372036854775807:=by decide
 rw [h1,h2] at h;exact h
theorem Vw {H:Type} {enc:TypeId×Value→H} {W:World} {fuel:Nat} {cs:List Value} {x:DataW H×List MemPlace} (h:DataW.trod enc Tryz.prog W 0 (fun _=>true) true fuel 34 cs=some x):
  ∃st:St,KM st∧cs=[.int .i64 st.kd,.int .i64 st.ee,.string st.s,.string st.rr,.string st.ww]∧x.2=[]:=by
 obtain ⟨xs,k,hk,hxy,hcl,hxl,hf⟩:=DataW.trod_struct Tryz.underlying34 h;rw [Eu] at hcl
 match xs,hxl,cs,hcl with
 | [y0,y1,y2,y3,y4],_,[v0,v1,v2,v3,v4],_=>
  have g0:=hf 0 _ rfl;have g1:=hf 1 _ rfl;have g2:=hf 2 _ rfl;have g3:=hf 3 _ rfl;have g4:=hf 4 _ rfl;simp only [List.getElem_toArray,List.getElem_cons_zero,List.getElem_cons_succ] at g0 g1 g2 g3 g4;simp only [Y9,Za,List.drop_zero,List.drop_succ_cons,List.take_succ_cons,List.take_zero,List.getElem?_cons_zero,List.getElem?_cons_succ] at g0 g1 g2 g3 g4;obtain ⟨n0,e0,f0,r0⟩:=DataW.trod_int Tryz.underlying3 g0;obtain ⟨n1,e1,f1,r1⟩:=DataW.trod_int Tryz.underlying3 g1;obtain ⟨n2,e2,f2,r2⟩:=DataW.trod_string Tryz.underlying9 g2;obtain ⟨n3,e3,f3,r3⟩:=DataW.trod_string Tryz.underlying9 g3;obtain ⟨n4,e4,f4,r4⟩:=DataW.trod_string Tryz.underlying9 g4;simp only [List.cons.injEq,and_true] at e0 e1 e2 e3 e4;subst e0 e1 e2 e3 e4;have hr:=Vv r1;refine ⟨⟨n0,n1,n2,n3,n4⟩,⟨hr.1,hr.2,r2,r3,r4⟩,rfl,?_⟩;rw [hxy,f0,f1,f2,f3,f4]
  rfl
theorem Zb {H:Type} {enc:TypeId×Value→H} {W:World} {a0:Option Addr} {Zc ab9:Nat} {d:DataW H} {p:List MemPlace} (h:DataW.Trod enc Tryz.prog W 0 (fun _=>true) true 36 (.slice a0 Zc ab9) d p):
  ∃n,Ox W (.slice a0 Zc ab9) n∧(∀x∈p,x.block<W.heap.size)∧((d=.nil∧n=0)∨∃el sp,d=.slice el sp∧el.length=n):=by
 obtain ⟨fuel,hf⟩:=h
 rcases Deep.open_slice Tryz.underlying36 hf with ⟨hcs,hx⟩|⟨a,len,cap,m,n,D,Pl,hcs,_,hl,hm,hmm,hx,he⟩
 ·simp only [Value.cells,List.toList_toArray,List.cons.injEq,and_true,Value.slice.injEq] at hcs;simp only [Prod.mk.injEq] at hx;obtain ⟨rfl,rfl,rfl⟩:=hcs;obtain ⟨rfl,rfl⟩:=hx;exact ⟨0,.inl ⟨rfl,rfl⟩,by simp,.inl ⟨rfl,rfl⟩⟩
 ·simp only [Value.cells,List.toList_toArray,List.cons.injEq,and_true,Value.slice.injEq] at hcs;simp only [Prod.mk.injEq] at hx;obtain ⟨rfl,rfl,rfl⟩:=hcs;obtain ⟨rfl,rfl⟩:=hx;simp only [if_true] at hmm;subst hmm;have each:∀i,i<m→∃st:St,KM st∧W.cell? (a.add (i*5))=some (.int .i64 st.kd)∧W.cell? ⟨(a.add (i*5)).block,(a.add (i*5)).off+1,none⟩=some (.int .i64 st.ee)∧W.cell? ⟨(a.add (i*5)).block,(a.add (i*5)).off+2,none⟩=some (.string st.s)∧W.cell? ⟨(a.add (i*5)).block,(a.add (i*5)).off+3,none⟩=some (.string st.rr)∧W.cell? ⟨(a.add (i*5)).block,(a.add (i*5)).off+4,none⟩=some (.string st.ww)∧Pl i=[]:=fun i hi=>by
   obtain ⟨cs',h1,h2⟩:=he i hi;rw [Eu] at h1;obtain ⟨_,hlen,hcell⟩:=World.cells?_some h1;obtain ⟨st,ok,rfl,hp⟩:=Vw h2;exact ⟨st,ok,hcell 0 (by omega),hcell 1 (by omega),hcell 2 (by omega),hcell 3 (by omega),hcell 4 (by omega),hp⟩
  have hne:∃st0:St,True:=⟨⟨0,0,⟨#[]⟩,⟨#[]⟩,⟨#[]⟩⟩,trivial⟩;obtain ⟨st0,_⟩:=hne;have ch:∃z:Nat→St,∀i,i<m→KM (z i)∧W.cell? (a.add (i*5))=some (.int .i64 (z i).kd)∧W.cell? ⟨(a.add (i*5)).block,(a.add (i*5)).off+1,none⟩=some (.int .i64 (z i).ee)∧W.cell? ⟨(a.add (i*5)).block,(a.add (i*5)).off+2,none⟩=some (.string (z i).s)∧W.cell? ⟨(a.add (i*5)).block,(a.add (i*5)).off+3,none⟩=some (.string (z i).rr)∧W.cell? ⟨(a.add (i*5)).block,(a.add (i*5)).off+4,none⟩=some (.string (z i).ww)∧Pl i=[]:=by
   have:∀i,∃st:St,i<m→KM st∧W.cell? (a.add (i*5))=some (.int .i64 st.kd)∧W.cell? ⟨(a.add (i*5)).block,(a.add (i*5)).off+1,none⟩=some (.int .i64 st.ee)∧W.cell? ⟨(a.add (i*5)).block,(a.add (i*5)).off+2,none⟩=some (.string st.s)∧W.cell? ⟨(a.add (i*5)).block,(a.add (i*5)).off+3,none⟩=some (.string st.rr)∧W.cell? ⟨(a.add (i*5)).block,(a.add (i*5)).off+4,none⟩=some (.string st.ww)∧Pl i=[]:=fun i=>by
    by_cases hi:i<m
    ·obtain ⟨st,h⟩:=each i hi;exact ⟨st,fun _=>h⟩
    ·exact ⟨st0,fun h=>absurd h hi⟩
   exact ⟨fun i=>Classical.choose (this i),fun i hi=>Classical.choose_spec (this i) hi⟩
  obtain ⟨z,hz⟩:=ch;refine ⟨Zc,.inr ⟨a,m,z,rfl,hl,fun j hj=> ?_⟩,fun x hx=> ?_,.inr ⟨_,_,rfl,by simp⟩⟩
  ·obtain ⟨q0,q1,q2,q3,q4,q5,_⟩:=hz j (by omega);exact ⟨q0,q1,q2,q3,q4,q5⟩
  ·rcases List.mem_append.1 hx with hx|hx
   ·obtain ⟨i,hi,rfl⟩:=MemPlace.mem_row.1 hx;rw [Eu] at hi;have h0:=(hz 0 (by omega)).2.1;have:=World.block_lt_of_cell? W _ h0;have hb0:∀q,(a.add q).block=a.block:=fun q=>by unfold Addr.add;split<;>rfl
    rw [hb0] at this
    simpa [MemPlace.block,hb0] using this
   ·obtain ⟨i,hi,hx⟩:=List.mem_flatMap.1 hx;rw [(hz i (List.mem_range.1 hi)).2.2.2.2.2.2] at hx
    cases hx
end Go.Proofs.YtlbpnlngckgcbaaGreatDoor
namespace Go.Proofs.YtlbpnlngckgcbaaGreatDoor
open Go.ChangeShapes Go.WideShapes Go.RowKit
theorem gOwn:ownKnob Tryz.prog.godebug=none:=by kernel_rfl
theorem gVar:Tryz.prog.globalNamed "errors.errorType"=some 0:=by kernel_rfl
theorem gRt:(Tryz.prog.cutTypes.find? (·.1== "internal/reflectlite.rtype")).map (·.2)=some 325:=by kernel_rfl
theorem gSize:Tryz.prog.types.size=445:=by kernel_rfl
theorem gOne:((List.range 445).filter fun t=>Tryz.prog.rowNamed t [101,114,114,111,114])=[77]:=by kernel_rfl
theorem gLaid:laidOutB Tryz.prog=true:=by kernel_rfl
theorem Wt:Tryz.prog.globals.size=5:=by kernel_rfl
theorem gFour:((begin Tryz.prog (fun _ _=>0) default).world.heap[4]?).bind Obj.row? =some ((((begin Tryz.prog (fun _ _=>0) default).world.heap[4]?).bind Obj.row?).getD (#[],0)):=by kernel_rfl
theorem Zd {W:World} (h:laidMet Tryz.prog [("math/bits.deBruijn32tab",Rows.laid_math_bits_deBruijn32tab),("math/bits.deBruijn64tab",Rows.laid_math_bits_deBruijn64tab),("internal/strconv.uint64pow10",Rows.laid_internal_strconv_uint64pow10)] W):qA W:=by
 obtain ⟨ps,⟨_,_,_,_,_,_,_,_,_,_,⟨_,_,_,_,_,_,_,_,_,_,⟨g',t',cs,fuel,p,q,hg',ht',hvar,hd,_,_⟩,_⟩,_⟩,_⟩:=h;obtain rfl:=Option.some.inj ((show Tryz.prog.globalNamed "internal/strconv.uint64pow10"=some 2 by kernel_rfl).symm.trans hg');obtain rfl:=Option.some.inj ((show (Tryz.prog.globals[2]?).map (·.type)=some 413 by kernel_rfl).symm.trans ht');unfold qA Lib.TabIs;rw [hvar];rw [←Lib.cells_of_tab (zs:=Lib.pow10Tab) (k:=.u64) Tryz.underlying413 Tryz.underlying192 (by kernel_rfl) (by kernel_rfl) hd]
theorem Ip {H:Type} {enc:TypeId×Value→H} {a:Assume} {C:Checked} {os:Os} {f:FuncId} {fn:Func} {s:ChangeSpec} {conds:List PathCond} {apart fresh handsOn again:Bool} {X:World→Array Value→Prop}
  (hX:∀(w w':World) (args:Array Value),w.heap=w'.heap→X w args→X w' args)
  (own:ownKnob C.prog.godebug=none) (started:os.Started) (noInit:C.prog.inits.idxOf? f=none) (hfn:C.prog.funcs[f]? =some fn)
  (witness:∃(w:World) (tape:Tape) (i:Input),w.os=os∧(w.forCall tape i).Shaped C.prog∧i.vars=[]∧Input.okWide C.prog (w.forCall tape i) .any w.heap.size f i∧
   ((s.pre enc C.prog fn conds apart (w.forCall tape i).memory i.args∧X (w.forCall tape i).memory i.args)∧sizedMet enc C.prog fn (OpenSpec.ofChange s) apart (w.forCall tape i).memory i.args)∧a.holds C.prog (lone (Frame.enter C.prog f i.args .normal) [] (w.forCall tape i)))
  (contract:∀(W:World) (base:Nat) (args:Array Value) (ds gs:List (DataW H)) (before:List MemPlace),
   (∀(j:Nat) t v,fn.params[j]? =some t→args[j]? =some v→Value.okWide C.prog W .any base t v)→
   DataW.Whole enc C.prog fn.params.toList s.vars apart W args.toList ds gs before→
   conds.all (PathCond.test C.prog ⟨fn.params.toList,ds,s.plain.varTypes C.prog,gs⟩)=true→
   (DataW.weightsEach C.prog (fn.params.toList++s.plain.varTypes C.prog) (ds++gs)).all (· ≤reachBytes)=true→W.ShapedOpen C.prog→X W args→
   a.holds C.prog (lone (Frame.enter C.prog f args .normal) [] W)→
   Calls C.prog f args W fun e W'=>∃v,e=.returned v∧s.post enc C.prog fn apart fresh handsOn again W args v W'):
  ReturnsInHanded a C os f .any (fun w args=>(s.pre enc C.prog fn conds apart w args∧X w args)∧sizedMet enc C.prog fn (OpenSpec.ofChange s) apart w args) (s.post enc C.prog fn apart fresh handsOn again):=by
 refine returnsInHanded_of_calls own started noInit witness ?_;intro w tape i _ hsh _ hok hpre hholds;obtain ⟨_,_,_,fn',hfn',_,_,_,_,hval⟩:=hok;have e:fn'=fn:=Option.some.inj (hfn'.symm.trans hfn);subst e;obtain ⟨⟨⟨ds,gs,before,hw,hc⟩,hx⟩,hz⟩:=hpre;have hw':=DataW.Whole.of_heap (w':=w.forCall tape i) (by rfl) hw;refine (contract (w.forCall tape i) w.heap.size i.args ds gs before hval hw' hc (hz.weights hw) hsh (hX _ _ _ (by rfl) hx) hholds).mono fun e W' ⟨v,he,hp⟩=> ?_
 subst he;exact ChangeSpec.post_blind hp
theorem Iq (v:Value) (n:Nat) (w:World) (h:Ox w v n) (hn:n≤2199023255488) (hE:Env w):
  Calls Tryz.prog 4 #[v] w fun e w'=>e=.returned (.bool true)∧Below w.heap.size w w':=Io v n w h hn hE
theorem Ir {W:World} (h:laidMetH Tryz.prog Rows.grantedRow.laid W) (hs:W.ShapedOpen Tryz.prog):Env W:=by
 obtain ⟨hd,hh⟩:=laidMetH_iff.1 h;refine ⟨?_,?_,?_,?_⟩
 ·obtain ⟨name,u,ty,e1,e2,e3,e4,e5⟩:=hh ("errors.errorType",Rows.laid_errors_errorType) (List.mem_filter.2 ⟨.tail _ (.tail _ (.tail _ (.head _))),by kernel_rfl⟩);have en:name=[101,114,114,111,114]:=(Option.some.inj e1).symm;subst en;obtain rfl:=Option.some.inj (gRt.symm.trans e2);have hm:ty∈(List.range 445).filter fun t=>Tryz.prog.rowNamed t [101,114,114,111,114]:=List.mem_filter.2 ⟨List.mem_range.2 (by rw [←gSize];exact e3),e4⟩
  rw [gOne] at hm;obtain rfl:=List.mem_singleton.1 hm;have hh:typeHandle Tryz.prog 77=.pointer (some ⟨5,77,none⟩):=by kernel_rfl
  rw [hh] at e5;unfold Laid
  simpa using World.var?_cell gVar e5 0
 ·exact cell_of_shapedOpen_int (t:=3) (zero:=#[.int .i64 0]) (k:=.i64) hs (by rw [Wt];decide) (by kernel_rfl) rfl (by kernel_rfl) (by kernel_rfl) Tryz.underlying3
 ·exact Zd (show laidMet Tryz.prog [("math/bits.deBruijn32tab",Rows.laid_math_bits_deBruijn32tab),("math/bits.deBruijn64tab",Rows.laid_math_bits_deBruijn64tab),("internal/strconv.uint64pow10",Rows.laid_internal_strconv_uint64pow10)] W from hd)
 ·obtain ⟨cs,hc,_⟩:=hs.1 4 _ _ (by rw [Wt];decide) gFour;exact lt_of_some hc
theorem Iu (os:Os) (args:Array Value):laidMetH Tryz.prog Rows.grantedRow.laid ((World.doorLaid Tryz.prog 31 os).forCall (fun _ _=>0) ⟨#[],args,[]⟩).memory:=
 laidMetH_of_parts3 (fuel:=8) (laidMet_of_run' 8 (by kernel_rfl) (by kernel_rfl)) (by kernel_rfl) (by kernel_rfl)
theorem Am (os:Os) (started:os.Started) (H:Type) (enc:TypeId×Value→H):
  ReturnsInHanded {} Tryz.checked os 4 .any (fun w args=>(Rows.grantedSpec.pre enc Tryz.prog Tryz.f4 [] false w args∧laidMetH Tryz.prog Rows.grantedRow.laid w)∧sizedMet enc Tryz.prog Tryz.f4 (OpenSpec.ofChange Rows.grantedSpec) false w args)
   (Rows.grantedSpec.post enc Tryz.prog Tryz.f4 false true false false):=by
 refine Ip (C:=Tryz.checked) (X:=fun w _=>laidMetH Tryz.prog Rows.grantedRow.laid w) (fun _ _ _ hh h=>h.of_heap hh) gOwn started (by kernel_rfl) Tryz.func4
  (ChangeSpec.witness_shaped (enc:=enc) (C:=Tryz.checked) (os:=os) (X:=fun w _=>laidMetH Tryz.prog Rows.grantedRow.laid w) false (World.doorLaid Tryz.prog 31 os) #[.slice none 0 0] 8 rfl (World.shaped_of_RefB (by kernel_rfl) (by kernel_rfl)) (by kernel_rfl) (by kernel_rfl) (by kernel_rfl) (Iu os _)) ?_
 intro W base args ds gs before Wu hW _ hwt hsh hL _;have hval:∀(j:Nat) t v,Tryz.f4.params[j]? =some t→args[j]? =some v→Value.okWide Tryz.prog W .any base t v:=Wu;have hW':=hW;obtain ⟨p,q,hA0,hV0,rfl,hfz,hnd⟩:=hW;have hA:DataW.TrodAll enc Tryz.prog W 0 (fun _=>true) true Tryz.f4.params.toList args.toList ds p:=hA0;have hV:DataW.TrodVars enc Tryz.prog W (fun _=>true) [] gs q:=hV0;rw [Tryz.params4] at hA hval;obtain ⟨v0,vs0,d0,ds0,p0,q0,hargs,rfl,rfl,h0,r0⟩:=trodAll_cons hA;obtain ⟨rfl,rfl,rfl⟩:=trodAll_nil r0;obtain rfl:args=#[v0]:=by cases args;simp_all
 have hE:=Ir hL hsh;obtain ⟨rfl,rfl⟩:gs=[]∧q=[]:=by
  cases gs with
  |nil=>exact ⟨rfl,hV⟩
  |cons g r=>exact absurd hV (by intro h;cases h)
 obtain ⟨a0,len,cap,rfl⟩:=okWide_slice Tryz.underlying36 (hval 0 36 v0 rfl rfl);clear hA0 Wu;simp only [List.append_nil] at hW' hwt;obtain ⟨n,hraw,hlt,hd⟩:=Zb h0;have hn:n≤2199023255488:=by
  rcases hd with ⟨_,rfl⟩|⟨el,sp,rfl,rfl⟩
  ·omega
  ·have hb:(el.length+sp.length)*Tryz.prog.bytesOf 34≤reachBytes:=sized_slice (j:=0) (t:=36) hwt (by
    show (Tryz.f4.params.toList++[])[0]? =_
    rw [Tryz.params4]
    rfl) rfl Tryz.underlying36
   rw [Vu] at hb;have:reachBytes=140737488351232:=rfl;omega
 refine (Iq _ n W hraw hn hE).mono fun e W' ⟨he,hb⟩=> ?_
 subst he;exact ⟨_,rfl,_,_,_,[],p0,[],hW',trodAll_mk1 (shut_bool Tryz.underlying4 true),by
  have:=trodAll_cons_mk (Below.trod gLaid (by kernel_rfl) (of_decide_eq_true (by kernel_rfl)) h0 hb hlt) trodAll_mk0;simp only [List.append_nil] at this;exact this,rfl,hb.frame _,fun h=>by cases h⟩
end Go.Proofs.YtlbpnlngckgcbaaGreatDoor
namespace Go.Proofs.YtlbpnlngckgcbaaGreatDoor
open Go.ChangeShapes Go.WideShapes Go.RowKit
theorem Iw:(Rows.grantedRow.inPlace==Tryz.prog.inPlace 4)=true:=by kernel_rfl
theorem Iy:(Rows.grantedRow.unfollowed==Tryz.prog.unfollowed 4)=true:=by kernel_rfl
theorem Iz:(Rows.grantedRow.recurses==Tryz.prog.recurses 4)=true:=by kernel_rfl
theorem IA:(Rows.grantedRow.named==Tryz.prog.varsNamed 4)=true:=by kernel_rfl
theorem KN:joinedFacts Tryz.prog 4 Tryz.f4 Rows.grantedSpec Rows.grantedRow=true:=by
 unfold joinedFacts;rw [Iw,Iy,Iz,IA]
 kernel_rfl
theorem IB:Rows.GrantedSaid:=
 OpenClaim.holds_of_wide 4 Tryz.f4 rfl rfl rfl rfl rfl rfl rfl ⟨rfl,rfl,rfl,rfl,rfl⟩ rfl rfl rfl rfl rfl (by kernel_rfl) Tryz.func4 KN
  (of_decide_eq_true (by kernel_rfl)) (by unfold Func.isWrapper;rw [if_neg (of_decide_eq_false (by kernel_rfl))];exact ⟨rfl,rfl⟩)
  (fun os started H enc _=>Am os started H enc)
theorem granted_card:Rows.GrantedCardSaid:=
 Claim7.holds_tied_plain_at .later [] [.data,.data,.data,.handle] true (true,"fd20d6c549d17d85a810cd82a604e0c889f018ff3c871702bc764961d7eacfa8") true
  IB (fun _ h=>by cases h) (by kernel_rfl) (fun _ h=>by cases h) granted_row_tie rfl ⟨rfl,rfl⟩ (by kernel_rfl) rfl
  (fun f fn hf hfn=>by
   obtain rfl:f=4:=Option.some.inj ((show Tryz.prog.funcNamed Tryz.f4.name=some 4 by kernel_rfl).symm.trans hf) |>.symm;obtain rfl:fn=Tryz.f4:=(Option.some.inj (Tryz.func4.symm.trans hfn)).symm;exact ⟨by kernel_rfl,fun j t ht=>by
    rw [Tryz.params4] at ht;have h3:t=36:=by
     rcases j with _|j
     ·simpa using ht.symm
     ·simp at ht
    rw [h3];exact (show Tryz.prog.wantsStandIn 36=false by kernel_rfl)⟩)
  (by kernel_rfl)
#print axioms granted_card
end Go.Proofs.YtlbpnlngckgcbaaGreatDoor
