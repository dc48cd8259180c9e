import Derived.Test.YtlbpnlngckgcbaaGreatDoorM29
import Derived.Deep.Slices
import Derived.ChangeArms
import Derived.SizedLaws
import Derived.Lib.LaidTab
import Derived.Shelf.Vars
import Derived.ChangeSame
import Derived.DataShut
import Derived.OpenShut
import Derived.ChangeVars
import Derived.ChangeSlices
import Derived.Carry
import Derived.LaidLaws
import Derived.LaidHandle
import Derived.LaidMore
import Derived.LaidSub
set_option linter.all false
set_option maxHeartbeats 4000000
set_option maxRecDepth 100000
namespace Go.Proofs.YtlbpnlngckgcbaaGreatDoor
open Go.RowKit Go.PlainAid
def je (kb:Sj→Bool) (id:Qx) (c:UInt8):Bool:=kb ⟨nb 116,id,nb c⟩
theorem IR {hs:List Hp} {id nm:Qx} (hn:¬∃h∈hs,h.kd=nb 116∧h.id=id) (g:List R3):¬xH g hs ⟨nb 116,id,nm⟩:=by
 rintro ⟨x,_,h,hh,_,e⟩;exact hn ⟨h,hh,(congrArg Sj.kind e).symm,(congrArg Sj.id e).symm⟩
theorem nM {n:Bool} {who:Tg} {hs:List Hp} {kb:Sj→Bool} (h:jv who hs (pu++[jK n]) (fun _=>false) kb) (id:Qx):
  je kb id 112=(je kb id 97&&(je kb id 98||je kb id 99))∧je kb id 114=(je kb id 97&& !je kb id 98&& !je kb id 99)∧je kb id 118=(je kb id 97||je kb id 98||je kb id 99):=by
 by_cases hn:∃h∈hs,h.kd=nb 116∧h.id=id
 ·obtain ⟨y,hy,e1,e2⟩:=hn;obtain ⟨k3,_,k4,hs4,e4⟩:=ik h;have Oe:kb=k4:=e4;subst Oe;have f1:=hs4.fix ⟨nb 116,nb 112,P8 n⟩ (by simp [jK]) y hy e1;have f2:=hs4.fix ⟨nb 116,nb 114,P9 n⟩ (by simp [jK]) y hy e1;have f3:=hs4.fix ⟨nb 116,nb 118,Qa n⟩ (by simp [jK]) y hy e1;rw [e1,e2] at f1 f2 f3;unfold je;rw [←f1,←f2,←f3]
  cases n<;>simp [P8,P9,Qa,dL,kG,kH,dW,gD]<;>(generalize kb ⟨nb 116,id,nb 97⟩=p;generalize kb ⟨nb 116,id,nb 98⟩=q;generalize kb ⟨nb 116,id,nb 99⟩=r;cases p<;>cases q<;>cases r<;>decide)
 ·have z:∀c,je kb id c=false:=fun c=>xJ h _ (fun g _=>IR hn g)
  rw [z,z,z,z,z,z]
  decide
theorem FW {who:Tg} {hs:List Hp} {ka kb:Sj→Bool} (h:jv who hs (pu++[jK false]) (fun _=>false) ka) (k:jv who hs (pu++[jK true]) (fun _=>false) kb) (id:Qx):
  je ka id 97=je kb id 97∧je ka id 98=je kb id 98∧je ka id 99=je kb id 99:=by
 obtain ⟨k3,h3,k4,hs4,e4⟩:=ik h;obtain ⟨j3,g3,j4,gs4,f4⟩:=ik k;have Oe:ka=k4:=e4;have f4':kb=j4:=f4;subst Oe f4';obtain rfl:=nK h3 g3;have nt:∀(n:Bool) (c:UInt8),nb 112≠nb c→nb 114≠nb c→nb 118≠nb c→¬xH (jK n) hs ⟨nb 116,id,nb c⟩:=fun n c h1 h2 h3=>by
  rintro ⟨x,hx,y,_,_,e⟩;have e':nb c=x.nm:=congrArg Sj.rel e;simp only [jK,List.mem_cons,List.not_mem_nil,or_false] at hx
  rcases hx with rfl|rfl|rfl
  ·exact h1 e'.symm
  ·exact h2 e'.symm
  ·exact h3 e'.symm
 have key:∀c:UInt8,nb 112≠nb c→nb 114≠nb c→nb 118≠nb c→je ka id c=je kb id c:=fun c h1 h2 h3=>by
  unfold je;rw [hs4.old _ (nt false c h1 h2 h3),gs4.old _ (nt true c h1 h2 h3)]
 exact ⟨key 97 (by decide) (by decide) (by decide),key 98 (by decide) (by decide) (by decide),key 99 (by decide) (by decide) (by decide)⟩
theorem IU {who:Tg} {hs:List Hp} {ka kb:Sj→Bool} (h:jv who hs (pu++[jK false]) (fun _=>false) ka) (k:jv who hs (pu++[jK true]) (fun _=>false) kb) (id:Qx):∀c∈([97,98,99,112,114,118]:List UInt8),je ka id c=je kb id c:=by
 obtain ⟨e1,e2,e3⟩:=FW h k id;obtain ⟨p1,p2,p3⟩:=nM h id;obtain ⟨q1,q2,q3⟩:=nM k id;intro c hc;simp only [List.mem_cons,List.not_mem_nil,or_false] at hc
 rcases hc with rfl|rfl|rfl|rfl|rfl|rfl
 ·exact e1
 ·exact e2
 ·exact e3
 ·rw [p1,q1,e1,e2,e3]
 ·rw [p2,q2,e1,e2,e3]
 ·rw [p3,q3,e1,e2,e3]
def zL:List UInt8:=[116,58,122,35,97,64,117,58,109]
def zT:Tu:=⟨nb 116,nb 122,nb 97,nb 117,nb 109,⟨#[]⟩⟩
theorem JI:(dG (mk zL)).1=zT:=by kernel_rfl
theorem JJ {kb:Sj→Bool} (h:jv ⟨nb 117,nb 109⟩ (dn [zT]) (pu++[jK false]) (fun _=>false) kb):je kb (nb 122) 114=true∧je kb (nb 122) 112=false:=by
 have hh:dn [zT]=[⟨nb 116,nb 122,[zT]⟩]:=rfl;obtain ⟨p1,p2,p3⟩:=nM h (nb 122);rw [hh] at h;obtain ⟨k3,h3,k4,hs4,e4⟩:=ik h;have Oe:kb=k4:=e4;subst Oe;obtain ⟨k1,s1,k2,s2,k3',s3,e3⟩:=h3;have e3':k3=k3':=e3;subst e3';have nt:∀(c d:UInt8) (sh:Sh),nb c≠nb d→¬xH [⟨nb 116,nb c,sh⟩] [⟨nb 116,nb 122,[zT]⟩] ⟨nb 116,nb 122,nb d⟩:=fun c d sh h1=>by
  rintro ⟨x,hx,y,_,_,e⟩;rw [List.mem_singleton] at hx;subst hx;exact h1 (congrArg Sj.rel e).symm
 have Qr:∀d:UInt8,nb 112≠nb d→nb 114≠nb d→nb 118≠nb d→¬xH (jK false) [⟨nb 116,nb 122,[zT]⟩] ⟨nb 116,nb 122,nb d⟩:=fun d h1 h2 h3=>by
  rintro ⟨x,hx,y,_,_,e⟩;have e':nb d=x.nm:=congrArg Sj.rel e;simp only [jK,List.mem_cons,List.not_mem_nil,or_false] at hx
  rcases hx with rfl|rfl|rfl
  ·exact h1 e'.symm
  ·exact h2 e'.symm
  ·exact h3 e'.symm
 have xa:je kb (nb 122) 97=true:=by
  unfold je;rw [hs4.old _ (Qr 97 (by decide) (by decide) (by decide)),s3.old _ (nt 99 97 _ (by decide)),s2.old _ (nt 98 97 _ (by decide))];exact (s1.fix ⟨nb 116,nb 97,jd⟩ (List.mem_singleton.2 rfl) ⟨nb 116,nb 122,[zT]⟩ (List.mem_singleton.2 rfl) rfl).symm.trans rfl
 have xb:je kb (nb 122) 98=false:=by
  unfold je;rw [hs4.old _ (Qr 98 (by decide) (by decide) (by decide)),s3.old _ (nt 99 98 _ (by decide))];exact (s2.fix ⟨nb 116,nb 98,jd⟩ (List.mem_singleton.2 rfl) ⟨nb 116,nb 122,[zT]⟩ (List.mem_singleton.2 rfl) rfl).symm.trans rfl
 have xc:je kb (nb 122) 99=false:=by
  unfold je;rw [hs4.old _ (Qr 99 (by decide) (by decide) (by decide))];exact (s3.fix ⟨nb 116,nb 99,jd⟩ (List.mem_singleton.2 rfl) ⟨nb 116,nb 122,[zT]⟩ (List.mem_singleton.2 rfl) rfl).symm.trans rfl
 rw [p1,p2,xa,xb,xc]
 decide
def oG (gs:List Tu):Prop:=∀t∈gs,∃p∈mJ,t=(dG (mk p.1)).1
structure Gg (n:Bool) (ts:List Ty):Prop where
 read:iL (lF n)=.ok ts
 grp:(bH ts).map (List.map JE)=pu++[jK n]
 mod:Lr ts=true
 rel:∀c∈([97,98,99,112,114,118]:List UInt8),∃t r,bF ts (nb 116)=some t∧aV t (nb c)=some r
 usr:∃t,bF ts (nb 117)=some t
 lets:∀p∈mJ,gY (mk p.1)=true∧qI ts (dG (mk p.1)).1=p.2
theorem FX (n:Bool):∃ts,Gg n ts:=by
 obtain ⟨ts,hr,ht⟩:=IB n;unfold FH at ht;simp only [Bool.and_eq_true,decide_eq_true_eq] at ht;obtain ⟨⟨⟨⟨h1,h2⟩,h3⟩,h4⟩,h5⟩:=ht;refine ⟨ts,hr,qQ (fun _ _=>qQ (fun _ _=>Lp)) h1,h2,fun c hc=> ?_,?_,fun p hp=> ?_⟩
 ·have:=List.all_eq_true.1 h3 c hc
  cases hf:bF ts (nb 116) with
  |none=>rw [hf] at this;cases this
  |some t=>
   rw [hf] at this;obtain ⟨r,hr⟩:=Option.isSome_iff_exists.1 this;exact ⟨t,r,rfl,hr⟩
 ·exact Option.isSome_iff_exists.1 h4
 ·have:=List.all_eq_true.1 h5 p hp
  simpa using this
theorem IV {n:Bool} {ts:List Ty} (h:Gg n ts) {gs:List Tu} (hg:oG gs) (hl:gs.length≤24):PuR ts gs:=by
 have hm:=h.mod;unfold Lr at hm;simp only [Bool.and_eq_true,decide_eq_true_eq] at hm;obtain ⟨⟨m1,m2⟩,m3⟩:=hm;refine ⟨by omega,fun t ht=> ?_,fun g hg x hx=>ln_of (List.all_eq_true.1 (List.all_eq_true.1 m2 g hg) x hx),gs_ok m1 (fun a ha b hb e1 e2=>Lv (vk gs).ap ha hb e1 e2),m3⟩;obtain ⟨p,hp,rfl⟩:=hg t ht;have:=List.all_eq_true.1 FI p hp;unfold JG at this;simp only [Bool.and_eq_true,decide_eq_true_eq] at this;obtain ⟨⟨⟨⟨q1,q2⟩,q3⟩,q4⟩,q5⟩:=this;refine ⟨by unfold maxLen;omega,by unfold maxLen;omega,?_,?_,?_⟩
 ·show (dG (mk p.1)).1.sub.size≤_;unfold maxLen;omega
 ·show (dG (mk p.1)).1.who.size≤_;unfold maxLen;omega
 ·show (dG (mk p.1)).1.of.size≤_;unfold maxLen;omega
def vo (gs:List Tu) (p:List UInt8×Nat):Nat×List Tu:=if p.2≠0 then (p.2,gs) else if 0≤iA gs (dG (mk p.1)).1 then (4,gs) else if gs.length=24 then (8,gs) else (0,gs++[(dG (mk p.1)).1])
theorem LV {n:Bool} {ts:List Ty} (h:Gg n ts) (gs:List Tu) {p:List UInt8×Nat} (hp:p∈mJ):Ju ts gs (mk p.1)=vo gs p:=by
 obtain ⟨h1,h2⟩:=h.lets p hp;unfold Ju vo;rw [h1,h2];simp
theorem qV {gs:List Tu} (hg:oG gs) (hl:gs.length≤24) {p:List UInt8×Nat} (hp:p∈mJ):oG (vo gs p).2∧(vo gs p).2.length≤24:=by
 unfold vo
 split
 ·exact ⟨hg,hl⟩
 ·split
  ·exact ⟨hg,hl⟩
  ·split
   ·exact ⟨hg,hl⟩
   ·refine ⟨fun t ht=> ?_,by simp;omega⟩
    rcases List.mem_append.1 ht with ht|ht
    ·exact hg t ht
    ·rw [List.mem_singleton] at ht;exact ⟨p,hp,ht⟩
theorem xP (gs:List Tu) (p:List UInt8×Nat):(vo gs p).1=p.2∧p.2≠0∨p.2=0∧((vo gs p).1=0∨(vo gs p).1=4∨(vo gs p).1=8):=by
 unfold vo
 by_cases h:p.2=0
 ·right;refine ⟨h,?_⟩;rw [if_neg (by simpa using h)]
  split
  ·exact .inr (.inl rfl)
  ·split
   ·exact .inr (.inr rfl)
   ·exact .inl rfl
 ·left;rw [if_pos h];exact ⟨rfl,h⟩
theorem nN {gs:List Tu} (hg:oG gs) (hl:gs.length≤24) (s:Qx):oG (nE gs s).2∧(nE gs s).2.length≤24:=by
 have key:∀(l:List Tu) (k:Nat),oG l→l.length≤24→oG (l.eraseIdx k)∧(l.eraseIdx k).length≤24:=fun l k h1 h2=>⟨fun t ht=>h1 t (List.mem_of_mem_eraseIdx ht),Nat.le_trans (List.length_eraseIdx_le l k) h2⟩
 unfold nE
 split
 ·exact ⟨hg,hl⟩
 ·split
  ·exact ⟨hg,hl⟩
  ·first|exact key _ _ hg hl|(have:=key gs (iA gs (dG s).1).toNat hg hl;rw [List.eraseIdx_eq_take_drop_succ] at this;exact this)
end Go.Proofs.YtlbpnlngckgcbaaGreatDoor
namespace Go.Proofs.YtlbpnlngckgcbaaGreatDoor
open Go.ChangeShapes Go.WideShapes Go.RowKit
structure Oq where
 kd:Int
 a:Int
 b:Int
 less:Bool
def xQ (n:Int):Prop:= -9223372036854775808≤n∧n≤9223372036854775807
structure DN (x:Oq):Prop where
 kd:xQ x.kd
 a:xQ x.a
 b:xQ x.b
def IW (W:World) (v:Value) (n:Nat):Prop:=(v=.slice none 0 0∧n=0)∨∃(a:Addr) (c:Nat) (z:Nat→Oq),v=.slice (some a) n c∧n≤c∧∀i,i<n→DN (z i)∧W.cell? (a.add (i*4))=some (.int .i64 (z i).kd)∧W.cell? ⟨(a.add (i*4)).block,(a.add (i*4)).off+1,none⟩=some (.int .i64 (z i).a)∧W.cell? ⟨(a.add (i*4)).block,(a.add (i*4)).off+2,none⟩=some (.int .i64 (z i).b)∧W.cell? ⟨(a.add (i*4)).block,(a.add (i*4)).off+3,none⟩=some (.bool (z i).less)
theorem IW.cell {w W:World} {a:Addr} {n c i:Nat} (h:IW w (.slice (some a) n c) n) (k:Below w.heap.size w W) (hj:i<n):∃x:Oq,DN x∧W.cell? (a.add (i*4))=some (.int .i64 x.kd)∧W.cell? ⟨(a.add (i*4)).block,(a.add (i*4)).off+1,none⟩=some (.int .i64 x.a)∧W.cell? ⟨(a.add (i*4)).block,(a.add (i*4)).off+2,none⟩=some (.int .i64 x.b)∧W.cell? ⟨(a.add (i*4)).block,(a.add (i*4)).off+3,none⟩=some (.bool x.less):=by
 rcases h with ⟨h,_⟩|⟨ad',c',z,e,_,hz⟩
 ·cases h
 ·simp only [Value.slice.injEq,Option.some.injEq,true_and] at e;obtain ⟨rfl,rfl⟩:=e;obtain ⟨h0,h1,h2,h3,h4⟩:=hz i hj;exact ⟨z i,h0,af h1 k,af h2 k,af h3 k,af h4 k⟩
theorem LW:Tryz.prog.cellsOf 3=1:=by kernel_rfl
theorem IX:Tryz.prog.cellsOf 4=1:=by kernel_rfl
theorem vw:Tryz.prog.cellsOf 50=4:=by kernel_rfl
theorem IY:Tryz.prog.bytesOf 50=32:=by kernel_rfl
theorem vz {n:Int} (h:(Lit.int .i64 n).wf=true):xQ n:=by
 simp only [Lit.wf,Bool.and_eq_true,decide_eq_true_eq] at h;have h1:IntKind.i64.min= -9223372036854775808:=by decide
 have h2:IntKind.i64.max=9223372036854775807:=by decide
 rw [h1,h2] at h;exact h
theorem op_of {H:Type} {enc:TypeId×Value→H} {W:World} {fuel:Nat} {cs:List Value} {x:DataW H×List MemPlace} (h:DataW.trod enc Tryz.prog W 0 (fun _=>true) true fuel 50 cs=some x):
  ∃st:Oq,DN st∧cs=[.int .i64 st.kd,.int .i64 st.a,.int .i64 st.b,.bool st.less]∧x.2=[]:=by
 obtain ⟨xs,k,hk,hxy,hcl,hxl,hf⟩:=DataW.trod_struct Tryz.underlying50 h;rw [vw] at hcl
 match xs,hxl,cs,hcl with
 | [y0,y1,y2,y3],_,[v0,v1,v2,v3],_=>
  have g0:=hf 0 _ rfl;have g1:=hf 1 _ rfl;have g2:=hf 2 _ rfl;have g3:=hf 3 _ rfl;simp only [List.getElem_toArray,List.getElem_cons_zero,List.getElem_cons_succ] at g0 g1 g2 g3;simp only [LW,IX,List.drop_zero,List.drop_succ_cons,List.take_succ_cons,List.take_zero,List.getElem?_cons_zero,List.getElem?_cons_succ] at g0 g1 g2 g3;obtain ⟨n0,e0,f0,r0⟩:=DataW.trod_int Tryz.underlying3 g0;obtain ⟨n1,e1,f1,r1⟩:=DataW.trod_int Tryz.underlying3 g1;obtain ⟨n2,e2,f2,r2⟩:=DataW.trod_int Tryz.underlying3 g2;obtain ⟨n3,e3,f3⟩:=DataW.trod_bool Tryz.underlying4 g3;simp only [List.cons.injEq,and_true] at e0 e1 e2 e3;subst e0 e1 e2 e3;refine ⟨⟨n0,n1,n2,n3⟩,⟨vz r0,vz r1,vz r2⟩,rfl,?_⟩;rw [hxy,f0,f1,f2,f3]
  rfl
theorem IZ {H:Type} {enc:TypeId×Value→H} {W:World} {a0:Option Addr} {LY Og:Nat} {d:DataW H} {p:List MemPlace} (h:DataW.Trod enc Tryz.prog W 0 (fun _=>true) true 44 (.slice a0 LY Og) d p):
  ∃n,IW W (.slice a0 LY Og) n∧(∀x∈p,x.block<W.heap.size)∧((d=.nil∧n=0)∨∃el sp,d=.slice el sp∧el.length=n):=by
 obtain ⟨fuel,hf⟩:=h
 rcases Deep.open_slice Tryz.underlying44 hf with ⟨hcs,hx⟩|⟨a,len,cap,m,n,D,Pl,hcs,_,hl,hm,hmm,hx,he⟩
 ·simp only [Value.cells,List.toList_toArray,List.cons.injEq,and_true,Value.slice.injEq] at hcs;simp only [Prod.mk.injEq] at hx;obtain ⟨rfl,rfl,rfl⟩:=hcs;obtain ⟨rfl,rfl⟩:=hx;exact ⟨0,.inl ⟨rfl,rfl⟩,by simp,.inl ⟨rfl,rfl⟩⟩
 ·simp only [Value.cells,List.toList_toArray,List.cons.injEq,and_true,Value.slice.injEq] at hcs;simp only [Prod.mk.injEq] at hx;obtain ⟨rfl,rfl,rfl⟩:=hcs;obtain ⟨rfl,rfl⟩:=hx;simp only [if_true] at hmm;subst hmm;have each:∀i,i<m→∃st:Oq,DN st∧(W.cell? (a.add (i*4))=some (.int .i64 st.kd)∧W.cell? ⟨(a.add (i*4)).block,(a.add (i*4)).off+1,none⟩=some (.int .i64 st.a)∧W.cell? ⟨(a.add (i*4)).block,(a.add (i*4)).off+2,none⟩=some (.int .i64 st.b)∧W.cell? ⟨(a.add (i*4)).block,(a.add (i*4)).off+3,none⟩=some (.bool st.less))∧Pl i=[]:=fun i hi=>by
   obtain ⟨cs',h1,h2⟩:=he i hi;rw [vw] at h1;obtain ⟨_,hlen,hcell⟩:=World.cells?_some h1;obtain ⟨st,ok,rfl,hp⟩:=op_of h2;exact ⟨st,ok,⟨hcell 0 (by omega),hcell 1 (by omega),hcell 2 (by omega),hcell 3 (by omega)⟩,hp⟩
  have ch:∃z:Nat→Oq,∀i,i<m→DN (z i)∧(W.cell? (a.add (i*4))=some (.int .i64 (z i).kd)∧W.cell? ⟨(a.add (i*4)).block,(a.add (i*4)).off+1,none⟩=some (.int .i64 (z i).a)∧W.cell? ⟨(a.add (i*4)).block,(a.add (i*4)).off+2,none⟩=some (.int .i64 (z i).b)∧W.cell? ⟨(a.add (i*4)).block,(a.add (i*4)).off+3,none⟩=some (.bool (z i).less))∧Pl i=[]:=by
   have:∀i,∃st:Oq,i<m→DN st∧(W.cell? (a.add (i*4))=some (.int .i64 st.kd)∧W.cell? ⟨(a.add (i*4)).block,(a.add (i*4)).off+1,none⟩=some (.int .i64 st.a)∧W.cell? ⟨(a.add (i*4)).block,(a.add (i*4)).off+2,none⟩=some (.int .i64 st.b)∧W.cell? ⟨(a.add (i*4)).block,(a.add (i*4)).off+3,none⟩=some (.bool st.less))∧Pl i=[]:=fun i=>by
    by_cases hi:i<m
    ·obtain ⟨st,h⟩:=each i hi;exact ⟨st,fun _=>h⟩
    ·exact ⟨⟨0,0,0,false⟩,fun h=>absurd h hi⟩
   exact ⟨fun i=>Classical.choose (this i),fun i hi=>Classical.choose_spec (this i) hi⟩
  obtain ⟨z,hz⟩:=ch;refine ⟨LY,.inr ⟨a,m,z,rfl,hl,fun j hj=> ?_⟩,fun x hx=> ?_,.inr ⟨_,_,rfl,by simp⟩⟩
  ·obtain ⟨q0,q1,_⟩:=hz j (by omega);exact ⟨q0,q1⟩
  ·rcases List.mem_append.1 hx with hx|hx
   ·obtain ⟨i,hi,rfl⟩:=MemPlace.mem_row.1 hx;rw [vw] at hi;have h0:=(hz 0 (by omega)).2.1.1;have:=World.block_lt_of_cell? W _ h0;have hb0:∀q,(a.add q).block=a.block:=fun q=>by unfold Addr.add;split<;>rfl
    rw [hb0] at this
    simpa [MemPlace.block,hb0] using this
   ·obtain ⟨i,hi,hx⟩:=List.mem_flatMap.1 hx;rw [(hz i (List.mem_range.1 hi)).2.2] at hx
    cases hx
end Go.Proofs.YtlbpnlngckgcbaaGreatDoor
namespace Go.Proofs.YtlbpnlngckgcbaaGreatDoor
open Go.RowKit Go.PlainAid
theorem qW (n:Bool) (w:World):Calls Tryz.prog 38 #[.int .i64 (if n then 1 else 0)] w fun e w'=>e=.returned (.string (lF n))∧w'=w:=by
 cases n
 ·simp only [Bool.false_eq_true,if_false];go_enter Tryz.func38,Tryz.ntmps38;go_wp2;go_ret;exact ⟨by kernel_rfl,rfl⟩
 ·simp only [if_true];go_enter Tryz.func38,Tryz.ntmps38;go_wp2;go_ret;exact ⟨by kernel_rfl,rfl⟩
def LZ (ts:List Ty) (w:World) (e:Ending) (w':World):Prop:=∃mv lv b,e=.returned (.pointer (some ⟨b,0,none⟩))∧UQ w' b mv lv (.slice none 0 0) ts []∧Below w.heap.size w w'∧w.heap.size≤b
theorem tL (s:Qx) (ts:List Ty) (hr:iL s=.ok ts) (w:World) (hg:Laid w):Calls Tryz.prog 20 #[.string s] w (LZ ts w):=by
 have C:=ae (qnew s ts hr hg);clear hr hg;go_enter Tryz.func20,Tryz.ntmps20;go_wp2_with fail;refine (aa C).mono ?_;rintro e w1 ⟨mv,lv,b,rfl,hu,hb,hl⟩;have H:=ae (And.intro hu (And.intro hb hl));clear hu hb hl C;go_wp2;go_ret;exact ⟨mv,lv,b,rfl,aa H⟩
def JK (c:Int) (n:Nat):Nat:=(if c<0 then-(c+1) else c).toNat % n
theorem vB (c:Int) {n:Nat} (h:0<n):JK c n<n:=Nat.mod_lt _ h
theorem kY (c:Int) (n:Nat) (w:World) (hc:xQ c) (hn:0<n) (hm:n<1000):Calls Tryz.prog 19 #[.int .i64 c,.int .i64 n] w fun e w'=>e=.returned (.int .i64 (JK c n))∧w'=w:=by
 obtain ⟨h1,h2⟩:=hc;obtain ⟨Z,hZ⟩:∃Z,Z=JK c n:=⟨_,rfl⟩;rw [←hZ];unfold JK at hZ
 by_cases h:c<0
 ·rw [if_pos h] at hZ;have KEY:=ae (show-((c+1).tmod (n:Int))=(Z:Int) from by
   rw [hZ,←Int.neg_tmod,Int.tmod_eq_emod_of_nonneg (by omega),Int.natCast_emod,Int.toNat_of_nonneg (by omega)])
  clear hZ;go_enter Tryz.func19,Tryz.ntmps19;go_wp2;go_ret;exact ⟨by rw [←aa KEY];rfl,rfl⟩
 ·rw [if_neg h] at hZ;have KEY:=ae (show c % (n:Int)=(Z:Int) from by
   rw [hZ,Int.natCast_emod,Int.toNat_of_nonneg (by omega)])
  clear hZ;go_enter Tryz.func19,Tryz.ntmps19;go_wp2;go_ret;exact ⟨by rw [←aa KEY];rfl,rfl⟩
def DR:List UInt8:=[97,98,99,112,114,118]
structure L6 (who:Tg) (gs:List Tu) (id:Qx) (n:Bool) (i:Nat) (xs:List Bool):Prop where
 len:xs.length=6
 all:∀j c,j<i→DR[j]? =some c→∃kb,jv who (dn gs) (pu++[jK n]) (fun _=>false) kb∧xs[j]? =some (je kb id c)
theorem Oh (c a:UInt8) (hc:c≠58):au (mk [c,58,a]) 58=(nb c,nb a,true):=by
 unfold au;simp only [JP];simp [List.findIdx?_cons,List.findIdx?,hc,mk,nb]
theorem oH {x:Nat} {mv lv gv:Value} {ts:List Ty} {gs:List Tu} {w:World} {n:Bool} (hu:UQ w x mv lv gv ts gs) (h:Gg n ts) (hg:oG gs) (hl:gs.length≤24) (a b c:UInt8) (ha:bg (nb a)=true) (hb:bg (nb b)=true) (hm:jZ w) (hw:1<w.heap.size) {X:Qx} (hX:X=nb c) (hc:c∈([97,98,99,112,114,118]:List UInt8)):
  Calls Tryz.prog 26 #[.pointer (some ⟨x,0,none⟩),.string (mk [116,58,a]),.string X,.string (mk [117,58,b])] w fun e w'=>∃kb,e=.returned (.tuple #[.bool (je kb (nb a) c),.int .i64 0])∧Below w.heap.size w w'∧jv ⟨nb 117,nb b⟩ (dn gs) (pu++[jK n]) (fun _=>false) kb:=by
 subst hX;obtain ⟨t,r,hf,hq⟩:=h.rel c hc;obtain ⟨t',hf'⟩:=h.usr;have e1:=Oh 116 a (by decide);have e2:=Oh 117 b (by decide);have hfc:bg (nb c)=true:=by
  simp only [List.mem_cons,List.not_mem_nil,or_false] at hc
  rcases hc with rfl|rfl|rfl|rfl|rfl|rfl<;>kernel_rfl
 refine (FV x mv lv gv ts gs w hu (IV h hg hl) (mk [116,58,a]) (nb c) (mk [117,58,b]) (show 3≤1000 by omega) ?_ (show 1≤1000 by omega) hfc t (by rw [e1];exact hf) r hq (show 3≤1000 by omega) ?_ t' (by rw [e2];exact hf') hm hw).mono ?_
 ·unfold dh;rw [e1,ha]
  kernel_rfl
 ·unfold dh;rw [e2,hb]
  kernel_rfl
 ·rintro e w' ⟨kb,rfl,hb',hr⟩;rw [e1,e2] at*;rw [h.grp] at hr;exact ⟨kb,rfl,hb',hr⟩
theorem ext6 {i:Nat} (h:i<6):∃c,DR[i]? =some c∧c∈([97,98,99,112,114,118]:List UInt8)∧(⟨#[97,98,99,112,114,118]⟩:Qx).extract i (i+1)=nb c:=by
 rcases i with _|_|_|_|_|_|i
 ·exact ⟨97,rfl,by simp,by kernel_rfl⟩
 ·exact ⟨98,rfl,by simp,by kernel_rfl⟩
 ·exact ⟨99,rfl,by simp,by kernel_rfl⟩
 ·exact ⟨112,rfl,by simp,by kernel_rfl⟩
 ·exact ⟨114,rfl,by simp,by kernel_rfl⟩
 ·exact ⟨118,rfl,by simp,by kernel_rfl⟩
 ·omega
theorem L6.put {who:Tg} {gs:List Tu} {id:Qx} {n:Bool} {i:Nat} {xs:List Bool} (h:L6 who gs id n i xs) (hi:i<6) {c:UInt8} (hc:DR[i]? =some c) {kb:Sj→Bool} (hr:jv who (dn gs) (pu++[jK n]) (fun _=>false) kb):L6 who gs id n (i+1) (xs.set i (je kb id c)):=by
 refine ⟨by rw [List.length_set];exact h.len,fun j d hj hd=> ?_⟩
 by_cases e:j=i
 ·subst e;rw [hc] at hd;obtain rfl:=Option.some.inj hd;exact ⟨kb,hr,by rw [List.getElem?_set_self (by rw [h.len];exact hi)]⟩
 ·obtain ⟨kb',h1,h2⟩:=h.all j d (by omega) hd;exact ⟨kb',h1,by rw [List.getElem?_set_ne (fun e'=>e e'.symm)];exact h2⟩
theorem I5 {who:Tg} {gs:List Tu} {id:Qx} {xs ys:List Bool} (h:L6 who gs id false 6 xs) (k:L6 who gs id true 6 ys):∃p q r:Bool,xs=[p,q,r,p&&(q||r),p&& !q&& !r,p||q||r]∧ys=[p,q,r,p&&(q||r),p&& !q&& !r,p||q||r]:=by
 obtain ⟨ka,hka,_⟩:=h.all 0 97 (by omega) rfl;obtain ⟨kb,hkb,_⟩:=k.all 0 97 (by omega) rfl;have fx:∀j c,j<6→DR[j]? =some c→xs[j]? =some (je ka id c):=fun j c hj hc=>by
  obtain ⟨k',h1,h2⟩:=h.all j c hj hc;rw [nK h1 hka] at h2;exact h2
 have fy:∀j c,j<6→DR[j]? =some c→ys[j]? =some (je kb id c):=fun j c hj hc=>by
  obtain ⟨k',h1,h2⟩:=k.all j c hj hc;rw [nK h1 hkb] at h2;exact h2
 have six:∀(l:List Bool) (f:UInt8→Bool),l.length=6→(∀j c,j<6→DR[j]? =some c→l[j]? =some (f c))→l=[f 97,f 98,f 99,f 112,f 114,f 118]:=fun l f hl hf=>by
  match l,hl with
  | [a,b,c,d,e,g],_=>
   have h0:=hf 0 97 (by omega) rfl;have h1:=hf 1 98 (by omega) rfl;have h2:=hf 2 99 (by omega) rfl;have h3:=hf 3 112 (by omega) rfl;have h4:=hf 4 114 (by omega) rfl;have h5:=hf 5 118 (by omega) rfl;simp at h0 h1 h2 h3 h4 h5;rw [h0,h1,h2,h3,h4,h5]
 obtain ⟨p1,p2,p3⟩:=nM hka id;have hal:=IU hka hkb id;have ex:=six xs _ h.len fx;have ey:=six ys _ k.len fy;refine ⟨je ka id 97,je ka id 98,je ka id 99,?_,?_⟩
 ·rw [ex,p1,p2,p3]
 ·rw [ey,←hal 97 (by simp),←hal 98 (by simp),←hal 99 (by simp),←hal 112 (by simp),←hal 114 (by simp),←hal 118 (by simp),p1,p2,p3]
theorem tN {w:World} {g i:Nat} {xs:List Bool} {T:TypeId} (h:ag w g (xs.map Value.bool).toArray T) (v:Bool):ag (w.setCell ⟨g,i,none⟩ (.bool v)) g ((xs.set i v).map Value.bool).toArray T:=by
 have:=h.set i (.bool v);rw [List.map_set]
 simpa using this
theorem qX {w:World} {g i:Nat} {xs:List Bool} {T:TypeId} (h:ag w g (xs.map Value.bool).toArray T) (hi:i<xs.length):w.cell? ⟨g,i,none⟩=some (.bool xs[i]):=h.cell (by simp [hi])
theorem eq6 (a b c d e f:Bool) (w:World):(Op.equalIn 10000 133 (.agg #[.bool a,.bool b,.bool c,.bool d,.bool e,.bool f]) (.agg #[.bool a,.bool b,.bool c,.bool d,.bool e,.bool f])).run Tryz.prog w=.ok true w:=by
 cases a<;>cases b<;>cases c<;>cases d<;>cases e<;>cases f<;>kernel_rfl
theorem L8 (x y:Operand) (xs ys:Array Value) (w:World):(eqGuard .eql 133 x y (.agg xs) (.agg ys)).run Tryz.prog w=.ok () w:=run_eqGuard_agg w .eql 133 x y xs ys (by kernel_rfl)
theorem DT (x y:Nat) (mv lv gv mv' DU rP:Value) (ts ts':List Ty) (gs:List Tu) (w:World) (hu:UQ w x mv lv gv ts gs) (hv:UQ w y mv' DU rP ts' gs) (h0:Gg false ts) (h1:Gg true ts') (hg:oG gs) (hl:gs.length≤24) (a b:UInt8) (ha:bg (nb a)=true) (hb:bg (nb b)=true) (hm:jZ w) (hw:1<w.heap.size):
  Calls Tryz.prog 39 #[.pointer (some ⟨x,0,none⟩),.pointer (some ⟨y,0,none⟩),.string (mk [116,58,a]),.string (mk [117,58,b])] w fun e w'=>e=.returned (.bool true)∧Below w.heap.size w w':=by
 have CU:=ae (fun (w':World) (k:Below w.heap.size w w') (c:UInt8) (X:Qx) (hX:X=nb c) (hc:c∈([97,98,99,112,114,118]:List UInt8))=>oH (hu.below k) h0 hg hl a b c ha hb (hm.below k hw) (Nat.lt_of_lt_of_le hw k.size) hX hc);have CV:=ae (fun (w':World) (k:Below w.heap.size w w') (c:UInt8) (X:Qx) (hX:X=nb c) (hc:c∈([97,98,99,112,114,118]:List UInt8))=>oH (hv.below k) h1 hg hl a b c ha hb (hm.below k hw) (Nat.lt_of_lt_of_le hw k.size) hX hc);clear hu hv h0 h1 hg hl ha hb hm hw;go_enter Tryz.func39,Tryz.ntmps39;go_wp2_with fail;have bx:=ag.new w #[.bool false,.bool false,.bool false,.bool false,.bool false,.bool false] 133
 go_loopw [12] (fun u wr=>∃(i:Nat) (xs ys:List Bool),u=.int .i64 i∧i≤6∧Below w.heap.size w wr∧ag wr w.heap.size (xs.map Value.bool).toArray 133∧ag wr (w.heap.size+1) (ys.map Value.bool).toArray 133∧Hid (L6 ⟨nb 117,nb b⟩ gs (nb a) false i xs∧L6 ⟨nb 117,nb b⟩ gs (nb a) true i ys)) (fun u _=>6-(intOf u).toNat)
 case atStart=>exact ⟨0,[false,false,false,false,false,false],[false,false,false,false,false,false],rfl,by omega,((Below.refl _ w).alloc Qv _).alloc (by simp) _,bx.alloc _,ag.new' _ _ _ _ (by simp),ae ⟨⟨rfl,fun j c hj=>by omega⟩,⟨rfl,fun j c hj=>by omega⟩⟩⟩
 case round=>
  obtain ⟨i,xs,ys,rfl,hi,hB,hX,hY,HI⟩:=hrel
  by_cases hlt:i<6
  ·have hin:(i:Int)<6:=by omega
   obtain ⟨c,hc,hcm,Qs⟩:=ext6 hlt;have D1:=ae (aa CU wr hB c _ Qs hcm);have D2:=ae (fun w' k=>aa CV w' k c _ Qs hcm);have HX:=ae hX;have HY:=ae hY;have HB:=ae hB;have hbs:=hB.size;clear hX hY hB Qs;go_wp2_with fail;refine (aa D1).mono ?_;rintro e w1 ⟨ka,rfl,hb1,hr1⟩;have B1:=ae ((aa HB).trans (hb1.mono hbs));have X1:=ae ((aa HX).below hb1);have Y1:=ae ((aa HY).below hb1);have R1:=ae hr1;have E2:=ae (aa D2 w1 (aa B1));clear hb1 hr1 D1 D2 HX HY HB;go_wp2_with fail;refine (aa E2).mono ?_;rintro e w2 ⟨kb,rfl,hb2,hr2⟩;have B2:=ae ((aa B1).trans (hb2.mono (aa B1).size));have X2:=ae ((aa X1).below hb2);have Y2:=ae ((aa Y1).below hb2);have R2:=ae hr2;have x0:=qX (i:=i) (aa X2) (by rw [(aa HI).1.len];exact hlt);have y0:=qX (i:=i) (aa Y2) (by rw [(aa HI).2.len];exact hlt);have xz:=(aa X2).fz;have yz:=(aa Y2).fz;have xl:=(aa X2).lt;have HN:=ae (And.intro ((aa HI).1.put hlt hc (aa R1)) ((aa HI).2.put hlt hc (aa R2)));generalize xs[i]'_=ox at x0;generalize ys[i]'_=oy at y0;clear hb2 hr2 E2 X1 Y1 B1 R1 R2 hc hcm;go_wp2;go_roundw
   case rel=>exact ⟨i+1,_,_,by go_num,by omega,(by with_reducible repeat (first|exact aa B2|refine Below.drew ?_|(refine Below.setCell ?_ ?_ _;rotate_left;exact (by first|omega|(simp;omega)|simp))|(refine Below.alloc ?_ ?_ _;rotate_left;exact (by first|omega|(simp;omega)|simp)))),(tN (aa X2) _).other (show w.heap.size≠w.heap.size+1 by omega) _,tN ((aa Y2).other (show w.heap.size+1≠w.heap.size by omega) _) _,HN⟩
   case measure=>simp [intOf];omega
  ·obtain rfl:i=6:=by omega
   have hin:¬((6:Int)<6):=by omega
   obtain ⟨p,q,r,rfl,rfl⟩:=I5 (aa HI).1 (aa HI).2;have X2:ag wr w.heap.size #[.bool p,.bool q,.bool r,.bool (p&&(q||r)),.bool (p&& !q&& !r),.bool (p||q||r)] 133:=hX;have Y2:ag wr (w.heap.size+1) #[.bool p,.bool q,.bool r,.bool (p&&(q||r)),.bool (p&& !q&& !r),.bool (p||q||r)] 133:=hY;have x0:wr.cell? ⟨w.heap.size,0,none⟩=some (.bool p):=X2.cell rfl;have x1:wr.cell? ⟨w.heap.size,1,none⟩=some (.bool q):=X2.cell rfl;have x2:wr.cell? ⟨w.heap.size,2,none⟩=some (.bool r):=X2.cell rfl;have x3:wr.cell? ⟨w.heap.size,3,none⟩=some (.bool (p&&(q||r))):=X2.cell rfl;have x4:wr.cell? ⟨w.heap.size,4,none⟩=some (.bool (p&& !q&& !r)):=X2.cell rfl;have x5:wr.cell? ⟨w.heap.size,5,none⟩=some (.bool (p||q||r)):=X2.cell rfl;have y0:wr.cell? ⟨w.heap.size+1,0,none⟩=some (.bool p):=Y2.cell rfl;have y1:wr.cell? ⟨w.heap.size+1,1,none⟩=some (.bool q):=Y2.cell rfl;have y2:wr.cell? ⟨w.heap.size+1,2,none⟩=some (.bool r):=Y2.cell rfl;have y3:wr.cell? ⟨w.heap.size+1,3,none⟩=some (.bool (p&&(q||r))):=Y2.cell rfl;have y4:wr.cell? ⟨w.heap.size+1,4,none⟩=some (.bool (p&& !q&& !r)):=Y2.cell rfl;have y5:wr.cell? ⟨w.heap.size+1,5,none⟩=some (.bool (p||q||r)):=Y2.cell rfl;have HB:=ae hB;have GV:=L8;have yX:=fun w'=>eq6 p q r (p&&(q||r)) (p&& !q&& !r) (p||q||r) w'
   clear hX hY hB X2 Y2 HI CU CV bx
   cases p<;>cases q<;>cases r<;>(
    simp only [Bool.false_and,Bool.true_and,Bool.and_false,Bool.and_true,Bool.false_or,Bool.true_or,Bool.or_false,Bool.or_true,Bool.not_false,Bool.not_true,Bool.or_self,Bool.and_self] at x3 x4 x5 y3 y4 y5 yX;go_wp2;go_ret;exact ⟨rfl,aa HB⟩)
structure qY (w:World):Prop where
 laid:Laid w
 max:jZ w
 lt:4<w.heap.size
theorem qY.below {w w':World} {B:Nat} (h:qY w) (k:Below B w w') (hB:4<B):qY w':=⟨h.laid.below k (by omega),h.max.below k (by omega),by have:=k.size;have:=h.lt;omega⟩
def q9 (B:Nat) (w:World) (x y:Nat) (ts ts':List Ty) (gs gs':List Tu):Prop:=∃mv lv gv mv' DU rP,UQ w x mv lv gv ts gs∧UQ w y mv' DU rP ts' gs'∧(∀k,wP x gv k→¬wP y rP k)∧(∀k,wP x gv k→B≤k)∧∀k,wP y rP k→B≤k
section
variable {B:Nat} {w w':World} {x y:Nat} {ts ts' Oi:List Ty} {gs gs' gs2:List Tu}
theorem q9.swap (h:q9 B w x y ts ts' gs gs'):q9 B w y x ts' ts gs' gs:=by
 obtain ⟨mv,lv,gv,mv',DU,rP,h1,h2,h3,h4,h5⟩:=h;exact ⟨mv',DU,rP,mv,lv,gv,h2,h1,fun k hk hk'=>h3 k hk' hk,h5,h4⟩
theorem q9.below (h:q9 B w x y ts ts' gs gs') (k:Below w.heap.size w w'):q9 B w' x y ts ts' gs gs':=by
 obtain ⟨mv,lv,gv,mv',DU,rP,h1,h2,h3⟩:=h;exact ⟨mv,lv,gv,mv',DU,rP,h1.below k,h2.below k,h3⟩
theorem FY {f c:Nat} {args:Array Value} (h:q9 B w x y ts ts' gs gs') (hc:∀mv lv gv,UQ w x mv lv gv ts gs→Calls Tryz.prog f args w (FR w x gv c Oi gs2)):
  Calls Tryz.prog f args w fun e w'=>e=.returned (.int .i64 c)∧q9 B w' x y Oi ts' gs2 gs'∧Below B w w':=by
 obtain ⟨mv,lv,gv,mv',DU,rP,h1,h2,h3,h4,h5⟩:=h;refine (hc mv lv gv h1).mono ?_;rintro e w' ⟨mv2,lv2,gv2,he,hu,hb,hf⟩;have hBw:B≤w.heap.size:=by
  have:=h4 x (.inl rfl);have:=h1.p.blk.lt;omega
 refine ⟨he,⟨mv2,lv2,gv2,mv',DU,rP,hu,h2.keep hb (fun k hk hs=>h3 k hs hk) (fun k cs T f hs hh=>h1.nty hs hh),fun k hk hk'=> ?_,fun k hk=> ?_,h5⟩,hb.below hBw h4⟩
 ·rcases hf k hk with e|e
  ·exact h3 k e hk'
  ·have:=h2.lt hk';omega
 ·rcases hf k hk with e|e
  ·exact h4 k e
  ·omega
theorem FZ (h:q9 B w x y ts ts' gs gs') (hE:qY w) (s:Qx) (Ii:gs.length<1000):
  Calls Tryz.prog 28 #[.pointer (some ⟨x,0,none⟩),.string s] w fun e w'=>e=.returned (.int .i64 (Ju ts gs s).1)∧q9 B w' x y ts ts' (Ju ts gs s).2 gs'∧Below B w w':=
 FY h (fun mv lv gv hu=>LQ hu s hE.max (by have:=hE.lt;omega) hE.laid Ii)
theorem dN (h:q9 B w x y ts ts' gs gs') (hE:qY w) (s:Qx):
  Calls Tryz.prog 35 #[.pointer (some ⟨x,0,none⟩),.string s] w fun e w'=>e=.returned (.int .i64 (nE gs s).1)∧q9 B w' x y ts ts' (nE gs s).2 gs'∧Below B w w':=
 FY h (fun mv lv gv hu=>IQ hu s hE.max (by have:=hE.lt;omega))
theorem I6 (h:q9 B w x y ts ts' gs gs') (hE:qY w) (s:Qx) (hr:iL s=.ok Oi):
  Calls Tryz.prog 27 #[.pointer (some ⟨x,0,none⟩),.string s] w fun e w'=>e=.returned (.int .i64 0)∧q9 B w' x y Oi ts' [] gs'∧Below B w w':=
 FY h (fun mv lv gv hu=>qload hu s Oi hr hE.laid)
end
def xR (i c:Nat):Qx:=((⟨#[116,58]⟩:Qx)++(⟨#[107,108]⟩:Qx).extract i (i+1)++⟨#[35]⟩++(⟨#[97,98,99]⟩:Qx).extract c (c+1))++⟨#[64]⟩
theorem DV {i c:Nat} (hi:i<2) (hc:c<3):(xR i c).size=6:=by
 rcases i with _|_|i<;>rcases c with _|_|_|c<;>first|omega|kernel_rfl
theorem F7 {i c k:Nat} (hi:i<2) (hc:c<3) (hk:k<3):∃p∈mJ,p.2=0∧(xR i c++⟨#[117,58]⟩)++(⟨#[109,110,111]⟩:Qx).extract k (k+1)=mk p.1:=by
 have key:∀i,i<2→∀c,c<3→∀k,k<3→(mJ.any fun p=>decide (p.2=0)&&decide ((xR i c++⟨#[117,58]⟩)++(⟨#[109,110,111]⟩:Qx).extract k (k+1)=mk p.1))=true:=by
  intro i hi c hc k hk
  rcases i with _|_|i<;>rcases c with _|_|_|c<;>rcases k with _|_|_|k<;>first|omega|kernel_rfl
 obtain ⟨p,hp,h⟩:=List.any_eq_true.1 (key i hi c hc k hk);simp only [Bool.and_eq_true,decide_eq_true_eq] at h;exact ⟨p,hp,h⟩
theorem alT_t {i c k:Nat} (hi:i<2) (hc:c<3) (hk:k<2):∃p∈mJ,p.2=0∧(((xR i c++⟨#[116,58]⟩)++(⟨#[107,108]⟩:Qx).extract k (k+1))++⟨#[35]⟩)++(⟨#[97,97,98]⟩:Qx).extract c (c+1)=mk p.1:=by
 have key:∀i,i<2→∀c,c<3→∀k,k<2→(mJ.any fun p=>decide (p.2=0)&&decide ((((xR i c++⟨#[116,58]⟩)++(⟨#[107,108]⟩:Qx).extract k (k+1))++⟨#[35]⟩)++(⟨#[97,97,98]⟩:Qx).extract c (c+1)=mk p.1))=true:=by
  intro i hi c hc k hk
  rcases i with _|_|i<;>rcases c with _|_|_|c<;>rcases k with _|_|k<;>first|omega|kernel_rfl
 obtain ⟨p,hp,h⟩:=List.any_eq_true.1 (key i hi c hc k hk);simp only [Bool.and_eq_true,decide_eq_true_eq] at h;exact ⟨p,hp,h⟩
theorem alT_a {i c:Nat} (hi:i<2) (hc:c<3):∃p∈mJ,(p.2=0∨p.2=7∧c=2)∧xR i c++⟨#[117,58,42]⟩=mk p.1:=by
 have key:∀i,i<2→∀c,c<3→(mJ.any fun p=>decide (p.2=0∨p.2=7∧c=2)&&decide (xR i c++⟨#[117,58,42]⟩=mk p.1))=true:=by
  intro i hi c hc
  rcases i with _|_|i<;>rcases c with _|_|_|c<;>first|omega|kernel_rfl
 obtain ⟨p,hp,h⟩:=List.any_eq_true.1 (key i hi c hc);simp only [Bool.and_eq_true,decide_eq_true_eq] at h;exact ⟨p,hp,h⟩
theorem kI {B:Nat} {w:World} {x y:Nat} {ts ts':List Ty} {gs gs':List Tu} {n:Bool} (h:q9 B w x y ts ts' gs gs') (hE:qY w) (ht:Gg n ts) {p:List UInt8×Nat} (hp:p∈mJ) {S:Qx} (hS:S=mk p.1) (hl:gs.length≤24):
  Calls Tryz.prog 28 #[.pointer (some ⟨x,0,none⟩),.string S] w fun e w'=>e=.returned (.int .i64 (vo gs p).1)∧q9 B w' x y ts ts' (vo gs p).2 gs'∧Below B w w':=by
 subst hS;have:=FZ h hE (mk p.1) (by omega);rw [LV ht gs hp] at this;exact this
theorem xU {B:Nat} {w:World} {x y:Nat} {ts ts':List Ty} {gs gs':List Tu} {n:Bool} (h:q9 B w x y ts ts' gs gs') (hE:qY w) (ht:Gg n ts) (hg:oG gs) (hl:gs.length≤24) (a b c:UInt8) (ha:bg (nb a)=true) (hb:bg (nb b)=true) (hc:c∈([97,98,99,112,114,118]:List UInt8)):
  Calls Tryz.prog 26 #[.pointer (some ⟨x,0,none⟩),.string (mk [116,58,a]),.string (nb c),.string (mk [117,58,b])] w fun e w'=>∃kb,e=.returned (.tuple #[.bool (je kb (nb a) c),.int .i64 0])∧Below w.heap.size w w'∧jv ⟨nb 117,nb b⟩ (dn gs) (pu++[jK n]) (fun _=>false) kb:=by
 obtain ⟨mv,lv,gv,mv',DU,rP,h1,_⟩:=h;exact oH h1 ht hg hl a b c ha hb hE.max (by have:=hE.lt;omega) rfl hc
theorem F8 {B:Nat} {w:World} {x y:Nat} {ts ts':List Ty} {gs:List Tu} (h:q9 B w x y ts ts' gs gs) (hE:qY w) (ht:Gg false ts) (ht':Gg true ts') (hg:oG gs) (hl:gs.length≤24) {i j:Nat} (hi:i<2) (hj:j<4):
  Calls Tryz.prog 39 #[.pointer (some ⟨x,0,none⟩),.pointer (some ⟨y,0,none⟩),.string ((⟨#[116,58]⟩:Qx)++(⟨#[107,108]⟩:Qx).extract i (i+1)),.string ((⟨#[117,58]⟩:Qx)++(⟨#[109,110,111,106]⟩:Qx).extract j (j+1))] w fun e w'=>e=.returned (.bool true)∧Below w.heap.size w w':=by
 obtain ⟨mv,lv,gv,mv',DU,rP,h1,h2,_⟩:=h;have e1:∃a,bg (nb a)=true∧(⟨#[116,58]⟩:Qx)++(⟨#[107,108]⟩:Qx).extract i (i+1)=mk [116,58,a]:=by
  rcases i with _|_|i
  ·exact ⟨107,by kernel_rfl,by kernel_rfl⟩
  ·exact ⟨108,by kernel_rfl,by kernel_rfl⟩
  ·omega
 have e2:∃b,bg (nb b)=true∧(⟨#[117,58]⟩:Qx)++(⟨#[109,110,111,106]⟩:Qx).extract j (j+1)=mk [117,58,b]:=by
  rcases j with _|_|_|_|j
  ·exact ⟨109,by kernel_rfl,by kernel_rfl⟩
  ·exact ⟨110,by kernel_rfl,by kernel_rfl⟩
  ·exact ⟨111,by kernel_rfl,by kernel_rfl⟩
  ·exact ⟨106,by kernel_rfl,by kernel_rfl⟩
  ·omega
 obtain ⟨a,ha,ea⟩:=e1;obtain ⟨b,hb,eb⟩:=e2;rw [ea,eb];exact DT x y _ _ _ _ _ _ ts ts' gs w h1 h2 ht ht' hg hl a b ha hb hE.max (by have:=hE.lt;omega)
theorem JL:(zL,0)∈mJ:=by
 have h:(mJ.any fun p=>decide (p.1=zL)&&decide (p.2=0))=true:=by kernel_rfl
 obtain ⟨p,hp,h⟩:=List.any_eq_true.1 h;simp only [Bool.and_eq_true,decide_eq_true_eq] at h;obtain ⟨a,b⟩:=p;obtain ⟨rfl,rfl⟩:=h;exact hp
theorem wrA_z:vo [] (zL,0)=(0,[zT]):=by
 unfold vo;rw [if_neg (by simp),if_neg (show ¬(0≤iA [] (dG (mk zL)).1) by decide),if_neg (by simp),JI]
 rfl
theorem JM:oG [zT]:=fun t ht=>by
 rw [List.mem_singleton] at ht;subst ht;exact ⟨_,JL,JI.symm⟩
