import Derived.Test.YtlbpnlngckgcbaaGreatDoorM10
set_option linter.all false
set_option maxHeartbeats 4000000
set_option maxRecDepth 100000
namespace Go.Proofs.YtlbpnlngckgcbaaGreatDoor
open Go.RowKit Go.PlainAid
def bQ (R:Nat→Ex→Prop):List Nat→List Ex→Prop
 | [],[]=>True
 |n::ns,x::xs=>R n x∧bQ R ns xs
 |_,_=>False
def kV (x:Ex):List (aei×Nat×Ex)→Ex
 | []=>x
 |(t,p,y)::r=>kV (jZ t p x y) r
def Tr (pl:List PV):Nat→Nat→Ex→Prop
 |0,_,_=>False
 |f+1,n,x=>∃p,pl[n]? =some p∧(
   (p.kind=1∧(p.ps=[]∧p.sg=[])∧x=⟨⟨0,p.pa,em,0,em,0,p.gs⟩,none,none⟩)∨
   (p.kind=2∧p.gs=[]∧(p.ps=[]∧p.sg=[])∧x=⟨⟨1,p.pa,p.nr,p.pa,em,0,[]⟩,none,none⟩)∨
   (p.kind=3∧p.gs=[]∧(p.ps=[]∧p.sg=[])∧x=⟨⟨2,p.pa,p.nb,p.pa,p.nr,p.pr,[]⟩,none,none⟩)∨
   (p.kind=4∧p.gs=[]∧∃n0 ns x0 rs,p.ps=n0::ns∧Tr pl f n0 x0∧bQ (Tr pl f) ns (rs.map fun r=>r.2.2)∧p.sg=⟨[],0,false⟩::rs.map (fun r=>⟨bi r.1,r.2.1,false⟩)∧((∀r∈rs,r.1=sg 38∨r.1=sg 45)∧rs≠ [])∧x=kV x0 rs)∨
   (p.kind=5∧p.gs=[]∧p.sg=[]∧∃n0 ns x0 rs,p.ps=n0::ns∧Tr pl f n0 x0∧bQ (Tr pl f) ns (rs.map fun r=>r.2.2)∧(∀r∈rs,r.1=sg 124)∧rs≠ []∧x=kV x0 rs))
theorem bQ.mono {R S:Nat→Ex→Prop} (h:∀n x,R n x→S n x):∀(ns:List Nat) (xs:List Ex),bQ R ns xs→bQ S ns xs
 | [],[],_=>trivial
 |n::ns,x::xs,k=>⟨h n x k.1,bQ.mono h ns xs k.2⟩
 | [],_::_,k=>k.elim
 |_::_,[],k=>k.elim
theorem Tr.more (pl t:List PV):∀(f n:Nat) (x:Ex),Tr pl f n x→Tr (pl++t) f n x
 |0,_,_,h=>h.elim
 |f+1,n,x,⟨p,hp,h⟩=>by
  refine ⟨p,?_,?_⟩
  ·rw [List.getElem?_append_left (List.getElem?_eq_some_iff.1 hp).1];exact hp
  ·rcases h with h|h|h|⟨h1,h2,n0,ns,x0,rs,h3,h4,h5,h6,h7,h8⟩|⟨h1,h2,h2',n0,ns,x0,rs,h3,h4,h5,h6,h7,h8⟩
   ·exact .inl h
   ·exact .inr (.inl h)
   ·exact .inr (.inr (.inl h))
   ·exact .inr (.inr (.inr (.inl ⟨h1,h2,n0,ns,x0,rs,h3,Tr.more pl t f _ _ h4,bQ.mono (Tr.more pl t f) _ _ h5,h6,h7,h8⟩)))
   ·exact .inr (.inr (.inr (.inr ⟨h1,h2,h2',n0,ns,x0,rs,h3,Tr.more pl t f _ _ h4,bQ.mono (Tr.more pl t f) _ _ h5,h6,h7,h8⟩)))
theorem Tr.up (pl:List PV):∀(f n:Nat) (x:Ex),Tr pl f n x→Tr pl (f+1) n x
 |0,_,_,h=>h.elim
 |f+1,n,x,⟨p,hp,h⟩=>by
  refine ⟨p,hp,?_⟩
  rcases h with h|h|h|⟨h1,h2,n0,ns,x0,rs,h3,h4,h5,h6,h7,h8⟩|⟨h1,h2,h2',n0,ns,x0,rs,h3,h4,h5,h6,h7,h8⟩
  ·exact .inl h
  ·exact .inr (.inl h)
  ·exact .inr (.inr (.inl h))
  ·exact .inr (.inr (.inr (.inl ⟨h1,h2,n0,ns,x0,rs,h3,Tr.up pl f _ _ h4,bQ.mono (Tr.up pl f) _ _ h5,h6,h7,h8⟩)))
  ·exact .inr (.inr (.inr (.inr ⟨h1,h2,h2',n0,ns,x0,rs,h3,Tr.up pl f _ _ h4,bQ.mono (Tr.up pl f) _ _ h5,h6,h7,h8⟩)))
theorem Tr.le (pl:List PV) {f g:Nat} (h:f≤g) {n:Nat} {x:Ex} (k:Tr pl f n x):Tr pl g n x:=by
 obtain ⟨m,rfl⟩:=Nat.exists_eq_add_of_le h;clear h
 induction m with
 |zero=>exact k
 |succ m ih=>exact Tr.up pl _ _ _ ih
def nY (base b:Nat) (s:aei) (tv:Value) (i d a:Nat) (kv rv pv:Value) (pl:List PV) (l:List PX) (w:World) (ex:Nat) (R:dM Ex) (e:Ending) (w':World):Prop:=
 ∃m:Nat,e=.returned (.int .i64 m)∧∃pv' mX l' t tl,Fr base b w w' pv pv'∧PT base w' pv' mX l'∧mX=pl++t∧l'=l++tl∧(∀x∈tl,lH w.heap.size x)∧match R with
  | .ok (x,j)=>RS w' b s tv j d 0 a kv rv pv'∧i<j∧mX.length+i≤pl.length+j∧∃f,Tr mX f m x
  | .error (c,jj)=>c≠0∧∃j',i≤j'∧RS w' b s tv j' d c (PP s jj) kv rv pv'∧mX.length+i≤pl.length+j'+ex
def uR (s:aei) (inner:Nat→dM Ex) (d ex:Nat):Prop:=∀(base b:Nat) (tv:Value) (i a:Nat) (kv rv pv:Value) (pl:List PV) (l:List PX) (w:World),RS w b s tv i d 0 a kv rv pv→PT base w pv pl l→base≤b→base≤w.heap.size→pl.length≤i→
 Calls Tryz.prog 229 #[.pointer (some ⟨b,0,none⟩)] w (nY base b s tv i d a kv rv pv pl l w ex (inner i))
theorem MM (base b:Nat) (s:aei) (tv:Value) (i d a:Nat) (kv rv pv:Value) (pl:List PV) (l:List PX) (w:World) (h:RS w b s tv i d 0 a kv rv pv) (ht:PT base w pv pl l) (hbb:base≤b) (bF:base≤w.heap.size) (hl:pl.length≤i) (ex:Nat) (he:eqs (TT s i) (sg 91)=true):Calls Tryz.prog 266 #[.pointer (some ⟨b,0,none⟩)] w (nY base b s tv i d a kv rv pv pl l w (ex+1) (pR (TT s) (PP s) i)):=by
 have hle:=h.gd.le;have hsz:=h.sz;have H:=af h;have HT:=af ht;have C:=af (aZ b s tv i d a kv rv pv (sg 91) w h true he);clear h ht;go_enter Tryz.func266,Tryz.ntmps266;go_wp2_with fail;refine (ae C).mono ?_;rintro e w1 ⟨rfl,hb1⟩;have hsz1:=hb1.size;have FB:=af (Fr.of_below (base:=base) (b:=b) (pv:=pv) hb1 bF);have H1:=af ((ae H).below hb1);have T1:=af ((ae HT).but (But.of_below (b:=b) hb1) (ae H).blk hbb bF);have C2:=af (MJ base b s tv i d a kv rv pv pl l w1 (ae H1) (ae T1) hbb (Nat.le_trans bF hb1.size) (by omega) he);clear hb1 C;go_wp2_with fail;refine (ae C2).mono ?_;rintro e w2 ⟨rfl,pv',p,x,fr,pt,Fb,hr⟩;have P7:=af (Fb.mono hsz1);have F2:=af ((ae FB).trans fr);have P2:=af pt;have R2:=af hr;clear fr pt hr Fb C2;go_wp2;go_ret;refine ⟨pl.length,rfl,pv',_,_,[p],[x],ae F2,ae P2,rfl,rfl,fun y hy=>by rw [List.mem_singleton] at hy;subst hy;exact ae P7,?_⟩;have hr:=ae R2;unfold pR
 cases hq:eY (TT s) (PP s) 512 [] i with
 |error e=>
  obtain ⟨c,jj⟩:=e;rw [hq] at hr;obtain ⟨hc,j',hj,rs⟩:=hr;exact ⟨hc,j',hj,rs,by simp;omega⟩
 |ok y=>
  obtain ⟨gs,j⟩:=y;rw [hq] at hr;obtain ⟨rs,rfl,hj⟩:=hr;exact ⟨rs,hj,by simp;omega,1,_,List.getElem?_concat_length,.inl ⟨rfl,⟨rfl,rfl⟩,rfl⟩⟩
theorem MN (base b:Nat) (s:aei) (tv:Value) (i d a:Nat) (kv rv pv:Value) (pl:List PV) (l:List PX) (w:World) (h:RS w b s tv i d 0 a kv rv pv) (ht:PT base w pv pl l) (hbb:base≤b) (bF:base≤w.heap.size) (hl:pl.length≤i) (ex:Nat) (h1:eqs (TT s i) (sg 91)=false) (he:eqs (TT s i) (sg 40)=true) (hd:d=4):Calls Tryz.prog 266 #[.pointer (some ⟨b,0,none⟩)] w (nY base b s tv i d a kv rv pv pl l w (ex+1) (.error (3,i))):=by
 have H:=af h;have HT:=af ht;have C:=af (aZ b s tv i d a kv rv pv (sg 91) w h false h1);have hlt:=h.lt;clear h ht;go_enter Tryz.func266,Tryz.ntmps266;go_wp2_with fail;refine (ae C).mono ?_;rintro e w1 ⟨rfl,hb1⟩;have H1:=af ((ae H).below hb1);have B1:=af (But.of_below (b:=b) hb1);clear hb1 C;go_wp2_with fail;refine (aZ b s tv i d a kv rv pv (sg 40) w1 (ae H1) true he).mono ?_;rintro e w2 ⟨rfl,hb2⟩;have H2:=af ((ae H1).below hb2);have B2:=af ((ae B1).trans (But.of_below (b:=b) hb2));obtain ⟨r0,r1,r2,r3,r4,_⟩:=(ae H2).blk.eight;clear hb2 H1 B1;subst hd;go_wp2_with fail;refine (oG b s tv i 4 a kv rv pv 3 w2 (ae H2)).mono ?_;rintro e w3 ⟨rfl,b3,k3⟩;have B3:=af ((ae B2).trans b3);have K3:=af k3;clear b3 k3 r0 r1 r2 r3 r4;go_wp2;go_ret;exact ⟨0,rfl,pv,pl,l,[],[],Fr.of_but (ae B3) hbb bF,(ae HT).but (ae B3) (ae H).blk hbb bF,by simp,by simp,by simp,by decide,i,Nat.le_refl _,ae K3,by omega⟩
def MO (T:Nat→aei) (r:dM Ex):dM Ex:=match r with
 | .error e=> .error e
 | .ok (x,j)=>if eqs (T j) (sg 41) then .ok (x,j+1) else .error (2,j)
theorem Un (base b:Nat) (s:aei) (tv:Value) (i d a:Nat) (kv rv pv:Value) (pl:List PV) (l:List PX) (w:World) (h:RS w b s tv i d 0 a kv rv pv) (ht:PT base w pv pl l) (hbb:base≤b) (bF:base≤w.heap.size) (hl:pl.length≤i) (inner:Nat→dM Ex) (ex:Nat) (IH:uR s inner (d+1) ex) (h1:eqs (TT s i) (sg 91)=false) (he:eqs (TT s i) (sg 40)=true) (hd:d<4):Calls Tryz.prog 266 #[.pointer (some ⟨b,0,none⟩)] w (nY base b s tv i d a kv rv pv pl l w (ex+1) (MO (TT s) (inner (i+1)))):=by
 have H:=af h;have HT:=af ht;have HG:=af (h.gd.succ (bZ he (by decide)));have C:=af (aZ b s tv i d a kv rv pv (sg 91) w h false h1);have hlt:=h.lt;have hle:=h.gd.le;have hsz:=h.sz;have hd':¬((d:Int)=4):=by omega
 have hd2:((d:Int)==4)=false:=beq_eq_false_iff_ne.2 hd';clear h ht;go_enter Tryz.func266,Tryz.ntmps266;go_wp2_with fail;refine (ae C).mono ?_;rintro e w1 ⟨rfl,hb1⟩;have H1:=af ((ae H).below hb1);have B1:=af (But.of_below (b:=b) hb1);clear hb1 C;go_wp2_with fail;refine (aZ b s tv i d a kv rv pv (sg 40) w1 (ae H1) true he).mono ?_;rintro e w2 ⟨rfl,hb2⟩;have H2:=af ((ae H1).below hb2);have B2:=af ((ae B1).trans (But.of_below (b:=b) hb2));obtain ⟨r0,r1,r2,r3,r4,_⟩:=(ae H2).blk.eight;have zr:=(ae H2).blk.fz;clear hb2 H1 B1;go_wp2_with fail;have H3:=af (show RS ((w2.setCell ⟨b,1,none⟩ (.int .i64 ((i:Int)+1))).setCell ⟨b,2,none⟩ (.int .i64 ((d:Int)+1))) b s tv (i+1) (d+1) 0 a kv rv pv from ((ae H2).setI (i+1) (ae HG)).setD (d+1));have B3:=af (show But b w ((w2.setCell ⟨b,1,none⟩ (.int .i64 ((i:Int)+1))).setCell ⟨b,2,none⟩ (.int .i64 ((d:Int)+1))) from ((ae B2).setCell 1 _).setCell 2 _);clear r0 r1 r2 r3 r4 zr H2 B2;generalize (w2.setCell ⟨b,1,none⟩ (.int .i64 ((i:Int)+1))).setCell ⟨b,2,none⟩ (.int .i64 ((d:Int)+1))=W3 at*;have hw3:base≤W3.heap.size:=Nat.le_trans bF (ae B3).size;have C3:=af (IH base b tv (i+1) a kv rv pv pl l W3 (ae H3) ((ae HT).but (ae B3) (ae H).blk hbb bF) hbb hw3 (by omega));refine (ae C3).mono ?_;rintro e w4 ⟨m,rfl,pv',mX,l',t,tl,fr,pt,rfl,rfl,Fb,hr⟩;have P7:=af (fun x hx=>(Fb x hx).mono (ae B3).size);have F4:=af ((Fr.of_but (ae B3) hbb bF).trans fr);have P4:=af pt;have hw4:base≤w4.heap.size:=Nat.le_trans hw3 fr.below.size;clear fr pt Fb C3
 cases hin:inner (i+1) with
 |error e=>
  obtain ⟨c,jj⟩:=e;rw [hin] at hr;obtain ⟨hc,j',hj,rs,hn⟩:=hr;have E:=af (show MO (TT s) (inner (i+1))=.error (c,jj) by rw [hin];rfl);have R4:=af rs;obtain ⟨r0,r1,r2,r3,r4,_⟩:=rs.blk.eight;have zr:=rs.blk.fz;have C5:=af (yQ b s tv j' d c (PP s jj) kv rv pv' (sg 41) _ (rs.setD d) hc);clear rs hin;go_wp2_with fail;refine (ae C5).mono ?_;rintro e w5 ⟨rfl,bV⟩;have K5:=af (((ae R4).setD d).below bV);have B5:=af (((But.refl b w4).setCell 2 (.int .i64 (d:Nat))).trans (But.of_below bV));clear bV C5 r0 r1 r2 r3 r4 zr;go_wp2;go_ret;rw [ae E];exact ⟨m,rfl,pv',_,_,t,tl,(ae F4).trans (Fr.of_but (ae B5) hbb hw4),(ae P4).but (ae B5) (ae R4).blk hbb hw4,rfl,rfl,ae P7,hc,j',by omega,ae K5,by omega⟩
 |ok y=>
  obtain ⟨x,j⟩:=y;rw [hin] at hr;obtain ⟨rs,hj,hn,f,htr⟩:=hr;have R4:=af rs;have TR:=af htr;obtain ⟨r0,r1,r2,r3,r4,_⟩:=rs.blk.eight;have zr:=rs.blk.fz
  cases h41:eqs (TT s j) (sg 41)
  ·have E:=af (show MO (TT s) (inner (i+1))=.error (2,j) by rw [hin];simp [MO,h41]);have C5:=af (Dw b s tv j d a kv rv pv' (sg 41) _ (rs.setD d) h41);clear rs hin htr;go_wp2_with fail;refine (ae C5).mono ?_;rintro e w5 ⟨rfl,b5,k5⟩;have K5:=af k5;have B5:=af (((But.refl b w4).setCell 2 (.int .i64 (d:Nat))).trans b5);clear b5 k5 C5 r0 r1 r2 r3 r4 zr;go_wp2;go_ret;rw [ae E];exact ⟨m,rfl,pv',_,_,t,tl,(ae F4).trans (Fr.of_but (ae B5) hbb hw4),(ae P4).but (ae B5) (ae R4).blk hbb hw4,rfl,rfl,ae P7,by decide,j,by omega,ae K5,by omega⟩
  ·have E:=af (show MO (TT s) (inner (i+1))=.ok (x,j+1) by rw [hin];simp [MO,h41]);have C5:=af (yP b s tv j d a kv rv pv' (sg 41) _ (rs.setD d) h41 (by decide));clear rs hin htr;go_wp2_with fail;refine (ae C5).mono ?_;rintro e w5 ⟨rfl,b5,k5⟩;have K5:=af k5;have B5:=af (((But.refl b w4).setCell 2 (.int .i64 (d:Nat))).trans b5);clear b5 k5 C5 r0 r1 r2 r3 r4 zr;go_wp2;go_ret;rw [ae E];exact ⟨m,rfl,pv',_,_,t,tl,(ae F4).trans (Fr.of_but (ae B5) hbb hw4),(ae P4).but (ae B5) (ae R4).blk hbb hw4,rfl,rfl,ae P7,ae K5,by omega,by omega,f,ae TR⟩
theorem qW (w:World) (k:Nat) (x y:aei) (p q:Nat):nD w (⟨k,[],x,y,p,q,[],[]⟩,.slice none 0 0,.slice none 0 0,.slice none 0 0):=⟨World.ownsRow_nil _ _ _ _,World.ownsRow_nil _ _ _ _,World.ownsRow_nil _ _ _ _⟩
theorem P8 (base b:Nat) (s:aei) (tv:Value) (i d a:Nat) (kv rv pv:Value) (pl:List PV) (l:List PX) (w:World) (h:RS w b s tv i d 0 a kv rv pv) (ht:PT base w pv pl l) (hbb:base≤b) (bF:base≤w.heap.size) (hl:pl.length≤i) (ex:Nat) (h1:eqs (TT s i) (sg 91)=false) (h2:eqs (TT s i) (sg 40)=false) (hn:dh (TT s i)=true) (h8:(TT s i).size≤8) (hd:eqs (TT s (i+1)) (sg 46)=false):Calls Tryz.prog 266 #[.pointer (some ⟨b,0,none⟩)] w (nY base b s tv i d a kv rv pv pl l w (ex+1) (.ok (⟨⟨1,PP s i,TT s i,PP s i,em,0,[]⟩,none,none⟩,i+1))):=by
 have H:=af h;have HT:=af ht;have C:=af (aZ b s tv i d a kv rv pv (sg 91) w h false h1);have hlt:=h.lt;have hle:=h.gd.le;have hsz:=h.sz;clear h ht;go_enter Tryz.func266,Tryz.ntmps266;go_wp2_with fail;refine (ae C).mono ?_;rintro e w1 ⟨rfl,hb1⟩;have H1:=af ((ae H).below hb1);have B1:=af (But.of_below (b:=b) hb1);clear hb1 C;go_wp2_with fail;refine (aZ b s tv i d a kv rv pv (sg 40) w1 (ae H1) false h2).mono ?_;rintro e w2 ⟨rfl,hb2⟩;have H2:=af ((ae H1).below hb2);have B2:=af ((ae B1).trans (But.of_below (b:=b) hb2));clear hb2 H1 B1;go_wp2_with fail;refine (iX b s tv i d a kv rv pv w2 (ae H2) hn h8).mono ?_;rintro e w3 ⟨rfl,b3,k3⟩;have K3:=af k3;have B3:=af ((ae B2).trans b3);have oI:=af (Below.refl w3.heap.size w3);clear b3 k3 H2 B2;unfold qb;go_wp2_with fail;refine (aZ b s tv (i+1) d a kv rv pv (sg 46) _ ?r (false) hd).mono ?_
 case r=>exact (ae K3).below (by with_reducible repeat (first|exact ae oI|refine Below.drew ?_|(refine Below.setCell ?_ ?_ _;rotate_left;exact (by first|omega|(simp;omega)|simp))|(refine Below.alloc ?_ ?_ _;rotate_left;exact (by first|omega|(simp;omega)|simp))))
 rintro e w4 ⟨rfl,hb4⟩;have K4:=af (((ae K3).below (by with_reducible repeat (first|exact ae oI|refine Below.drew ?_|(refine Below.setCell ?_ ?_ _;rotate_left;exact (by first|omega|(simp;omega)|simp))|(refine Below.alloc ?_ ?_ _;rotate_left;exact (by first|omega|(simp;omega)|simp))))).below hb4);have oD:=af ((ai.new w3 #[.string (TT s i),.int .i64 (PP s i),.bool (aT (TT s i))] 259).below hb4);have B4:=af ((show But b w _ from (by with_reducible repeat (first|exact ae B3|refine But.alloc ?_ _|refine But.drew ?_|(refine But.setNew ?_ ?_ _;rotate_left;exact (by first|omega|(simp;omega)|simp))))).trans (But.of_below hb4));obtain ⟨t0,t1,t2⟩:=(ae oD).three;have VQ:=(ae oD).lt;have Zi:=(ae B3).size;clear hb4 K3 B3 oI;go_wp2_with fail;have T4:=af ((ae HT).but (ae B4) (ae H).blk hbb bF);have hb4:base≤(w4).heap.size:=Nat.le_trans bF (ae B4).size;refine (fV base b s tv (i+1) d 0 (a) kv rv pv pl l ⟨2,[],em,TT s i,PP s i,0,[],[]⟩ none 0 none 0 none 0 (w4) (ae K4) (ae T4) (qW _ _ _ _ _ _) (by omega) hb4 hbb).mono ?_;rintro e' wf ⟨pv',rfl,fr,pg,pu⟩;have F6:=af ((Fr.of_but (ae B4) hbb bF).trans fr);have R6:=af pg;have P6:=af pu;clear fr pg pu;go_wp2;go_ret;exact ⟨pl.length,rfl,pv',_,_,[_],[_],ae F6,ae P6,rfl,rfl,fun y hy=>by rw [List.mem_singleton] at hy;subst hy;exact lT _ _,ae R6,by omega,by simp;omega,1,_,List.getElem?_concat_length,.inr (.inl ⟨rfl,rfl,⟨rfl,rfl⟩,rfl⟩)⟩
theorem MP (base b:Nat) (s:aei) (tv:Value) (i d a:Nat) (kv rv pv:Value) (pl:List PV) (l:List PX) (w:World) (h:RS w b s tv i d 0 a kv rv pv) (ht:PT base w pv pl l) (hbb:base≤b) (bF:base≤w.heap.size) (hl:pl.length≤i) (ex:Nat) (h1:eqs (TT s i) (sg 91)=false) (h2:eqs (TT s i) (sg 40)=false) (hn:dh (TT s i)=false):Calls Tryz.prog 266 #[.pointer (some ⟨b,0,none⟩)] w (nY base b s tv i d a kv rv pv pl l w (ex+1) (.error (2,i))):=by
 have H:=af h;have HT:=af ht;have C:=af (aZ b s tv i d a kv rv pv (sg 91) w h false h1);have hlt:=h.lt;have hle:=h.gd.le;have hsz:=h.sz;clear h ht;go_enter Tryz.func266,Tryz.ntmps266;go_wp2_with fail;refine (ae C).mono ?_;rintro e w1 ⟨rfl,hb1⟩;have H1:=af ((ae H).below hb1);have B1:=af (But.of_below (b:=b) hb1);clear hb1 C;go_wp2_with fail;refine (aZ b s tv i d a kv rv pv (sg 40) w1 (ae H1) false h2).mono ?_;rintro e w2 ⟨rfl,hb2⟩;have H2:=af ((ae H1).below hb2);have B2:=af ((ae B1).trans (But.of_below (b:=b) hb2));clear hb2 H1 B1;go_wp2_with fail;refine (jq b s tv i d a kv rv pv true w2 (ae H2) hn).mono ?_;rintro e w3 ⟨rfl,b3,k3⟩;have K3:=af k3;have B3:=af ((ae B2).trans b3);have oI:=af (Below.refl w3.heap.size w3);clear b3 k3 H2 B2;unfold qb;go_wp2_with fail;refine (ib b s tv i d 2 (PP s i) kv rv pv (sg 46) _ ?r (by decide)).mono ?_
 case r=>exact (ae K3).below (by with_reducible repeat (first|exact ae oI|refine Below.drew ?_|(refine Below.setCell ?_ ?_ _;rotate_left;exact (by first|omega|(simp;omega)|simp))|(refine Below.alloc ?_ ?_ _;rotate_left;exact (by first|omega|(simp;omega)|simp))))
 rintro e w4 ⟨rfl,hb4⟩;have K4:=af (((ae K3).below (by with_reducible repeat (first|exact ae oI|refine Below.drew ?_|(refine Below.setCell ?_ ?_ _;rotate_left;exact (by first|omega|(simp;omega)|simp))|(refine Below.alloc ?_ ?_ _;rotate_left;exact (by first|omega|(simp;omega)|simp))))).below hb4);have oD:=af ((ai.new w3 #[.string (TT s i),.int .i64 (PP s i),.bool (aT (TT s i))] 259).below hb4);have B4:=af ((show But b w _ from (by with_reducible repeat (first|exact ae B3|refine But.alloc ?_ _|refine But.drew ?_|(refine But.setNew ?_ ?_ _;rotate_left;exact (by first|omega|(simp;omega)|simp))))).trans (But.of_below hb4));obtain ⟨t0,t1,t2⟩:=(ae oD).three;have VQ:=(ae oD).lt;have Zi:=(ae B3).size;clear hb4 K3 B3 oI;go_wp2_with fail;have T4:=af ((ae HT).but (ae B4) (ae H).blk hbb bF);have hb4:base≤(w4).heap.size:=Nat.le_trans bF (ae B4).size;refine (fV base b s tv (i) d 2 (PP s i) kv rv pv pl l ⟨2,[],em,TT s i,PP s i,0,[],[]⟩ none 0 none 0 none 0 (w4) (ae K4) (ae T4) (qW _ _ _ _ _ _) (by omega) hb4 hbb).mono ?_;rintro e' wf ⟨pv',rfl,fr,pg,pu⟩;have F6:=af ((Fr.of_but (ae B4) hbb bF).trans fr);have R6:=af pg;have P6:=af pu;clear fr pg pu;go_wp2;go_ret;exact ⟨pl.length,rfl,pv',_,_,[_],[_],ae F6,ae P6,rfl,rfl,fun y hy=>by rw [List.mem_singleton] at hy;subst hy;exact lT _ _,by decide,i,Nat.le_refl _,ae R6,by simp;omega⟩
theorem P9 (base b:Nat) (s:aei) (tv:Value) (i d a:Nat) (kv rv pv:Value) (pl:List PV) (l:List PX) (w:World) (h:RS w b s tv i d 0 a kv rv pv) (ht:PT base w pv pl l) (hbb:base≤b) (bF:base≤w.heap.size) (hl:pl.length≤i) (ex:Nat) (h1:eqs (TT s i) (sg 91)=false) (h2:eqs (TT s i) (sg 40)=false) (hn:dh (TT s i)=true) (h8:8<(TT s i).size):Calls Tryz.prog 266 #[.pointer (some ⟨b,0,none⟩)] w (nY base b s tv i d a kv rv pv pl l w (ex+1) (.error (3,i))):=by
 have H:=af h;have HT:=af ht;have C:=af (aZ b s tv i d a kv rv pv (sg 91) w h false h1);have hlt:=h.lt;have hle:=h.gd.le;have hsz:=h.sz;clear h ht;go_enter Tryz.func266,Tryz.ntmps266;go_wp2_with fail;refine (ae C).mono ?_;rintro e w1 ⟨rfl,hb1⟩;have H1:=af ((ae H).below hb1);have B1:=af (But.of_below (b:=b) hb1);clear hb1 C;go_wp2_with fail;refine (aZ b s tv i d a kv rv pv (sg 40) w1 (ae H1) false h2).mono ?_;rintro e w2 ⟨rfl,hb2⟩;have H2:=af ((ae H1).below hb2);have B2:=af ((ae B1).trans (But.of_below (b:=b) hb2));clear hb2 H1 B1;go_wp2_with fail;refine (kG b s tv i d a kv rv pv true w2 (ae H2) hn h8).mono ?_;rintro e w3 ⟨rfl,b3,k3⟩;have K3:=af k3;have B3:=af ((ae B2).trans b3);have oI:=af (Below.refl w3.heap.size w3);clear b3 k3 H2 B2;unfold qb;go_wp2_with fail;refine (ib b s tv i d 3 (PP s i) kv rv pv (sg 46) _ ?r (by decide)).mono ?_
 case r=>exact (ae K3).below (by with_reducible repeat (first|exact ae oI|refine Below.drew ?_|(refine Below.setCell ?_ ?_ _;rotate_left;exact (by first|omega|(simp;omega)|simp))|(refine Below.alloc ?_ ?_ _;rotate_left;exact (by first|omega|(simp;omega)|simp))))
 rintro e w4 ⟨rfl,hb4⟩;have K4:=af (((ae K3).below (by with_reducible repeat (first|exact ae oI|refine Below.drew ?_|(refine Below.setCell ?_ ?_ _;rotate_left;exact (by first|omega|(simp;omega)|simp))|(refine Below.alloc ?_ ?_ _;rotate_left;exact (by first|omega|(simp;omega)|simp))))).below hb4);have oD:=af ((ai.new w3 #[.string (TT s i),.int .i64 (PP s i),.bool (aT (TT s i))] 259).below hb4);have B4:=af ((show But b w _ from (by with_reducible repeat (first|exact ae B3|refine But.alloc ?_ _|refine But.drew ?_|(refine But.setNew ?_ ?_ _;rotate_left;exact (by first|omega|(simp;omega)|simp))))).trans (But.of_below hb4));obtain ⟨t0,t1,t2⟩:=(ae oD).three;have VQ:=(ae oD).lt;have Zi:=(ae B3).size;clear hb4 K3 B3 oI;go_wp2_with fail;have T4:=af ((ae HT).but (ae B4) (ae H).blk hbb bF);have hb4:base≤(w4).heap.size:=Nat.le_trans bF (ae B4).size;refine (fV base b s tv (i) d 3 (PP s i) kv rv pv pl l ⟨2,[],em,TT s i,PP s i,0,[],[]⟩ none 0 none 0 none 0 (w4) (ae K4) (ae T4) (qW _ _ _ _ _ _) (by omega) hb4 hbb).mono ?_;rintro e' wf ⟨pv',rfl,fr,pg,pu⟩;have F6:=af ((Fr.of_but (ae B4) hbb bF).trans fr);have R6:=af pg;have P6:=af pu;clear fr pg pu;go_wp2;go_ret;exact ⟨pl.length,rfl,pv',_,_,[_],[_],ae F6,ae P6,rfl,rfl,fun y hy=>by rw [List.mem_singleton] at hy;subst hy;exact lT _ _,by decide,i,Nat.le_refl _,ae R6,by simp;omega⟩
theorem Qa (base b:Nat) (s:aei) (tv:Value) (i d a:Nat) (kv rv pv:Value) (pl:List PV) (l:List PX) (w:World) (h:RS w b s tv i d 0 a kv rv pv) (ht:PT base w pv pl l) (hbb:base≤b) (bF:base≤w.heap.size) (hl:pl.length≤i) (ex:Nat) (h1:eqs (TT s i) (sg 91)=false) (h2:eqs (TT s i) (sg 40)=false) (hn:dh (TT s i)=true) (h8:(TT s i).size≤8) (hd:eqs (TT s (i+1)) (sg 46)=true) (hm:dh (TT s (i+2))=true) (VR:(TT s (i+2)).size≤8):Calls Tryz.prog 266 #[.pointer (some ⟨b,0,none⟩)] w (nY base b s tv i d a kv rv pv pl l w (ex+1) (.ok (⟨⟨2,PP s i,TT s i,PP s i,TT s (i+2),PP s (i+2),[]⟩,none,none⟩,i+3))):=by
 have H:=af h;have HT:=af ht;have C:=af (aZ b s tv i d a kv rv pv (sg 91) w h false h1);have hlt:=h.lt;have hle:=h.gd.le;have hsz:=h.sz;clear h ht;go_enter Tryz.func266,Tryz.ntmps266;go_wp2_with fail;refine (ae C).mono ?_;rintro e w1 ⟨rfl,hb1⟩;have H1:=af ((ae H).below hb1);have B1:=af (But.of_below (b:=b) hb1);clear hb1 C;go_wp2_with fail;refine (aZ b s tv i d a kv rv pv (sg 40) w1 (ae H1) false h2).mono ?_;rintro e w2 ⟨rfl,hb2⟩;have H2:=af ((ae H1).below hb2);have B2:=af ((ae B1).trans (But.of_below (b:=b) hb2));clear hb2 H1 B1;go_wp2_with fail;refine (iX b s tv i d a kv rv pv w2 (ae H2) hn h8).mono ?_;rintro e w3 ⟨rfl,b3,k3⟩;have K3:=af k3;have B3:=af ((ae B2).trans b3);have oI:=af (Below.refl w3.heap.size w3);clear b3 k3 H2 B2;unfold qb;go_wp2_with fail;refine (aZ b s tv (i+1) d a kv rv pv (sg 46) _ ?r true hd).mono ?_
 case r=>exact (ae K3).below (by with_reducible repeat (first|exact ae oI|refine Below.drew ?_|(refine Below.setCell ?_ ?_ _;rotate_left;exact (by first|omega|(simp;omega)|simp))|(refine Below.alloc ?_ ?_ _;rotate_left;exact (by first|omega|(simp;omega)|simp))))
 rintro e w4 ⟨rfl,hb4⟩;have K4:=af (((ae K3).below (by with_reducible repeat (first|exact ae oI|refine Below.drew ?_|(refine Below.setCell ?_ ?_ _;rotate_left;exact (by first|omega|(simp;omega)|simp))|(refine Below.alloc ?_ ?_ _;rotate_left;exact (by first|omega|(simp;omega)|simp))))).below hb4);have oD:=af ((ai.new w3 #[.string (TT s i),.int .i64 (PP s i),.bool (aT (TT s i))] 259).below hb4);have B4:=af ((show But b w _ from (by with_reducible repeat (first|exact ae B3|refine But.alloc ?_ _|refine But.drew ?_|(refine But.setNew ?_ ?_ _;rotate_left;exact (by first|omega|(simp;omega)|simp))))).trans (But.of_below hb4));obtain ⟨t0,t1,t2⟩:=(ae oD).three;have VQ:=(ae oD).lt;have Zi:=(ae B3).size;clear hb4 K3 B3 oI;have HG:=af ((ae K4).gd.succ (bZ hd (by decide)));obtain ⟨r0,r1,r2,r3,r4,_⟩:=(ae K4).blk.eight;have zr:=(ae K4).blk.fz;have xH:=(ae B4).size;go_wp2_with fail;have K5:=af (show RS (w4.setCell ⟨b,1,none⟩ (.int .i64 ((i:Int)+1+1))) b s tv (i+2) d 0 a kv rv pv from (ae K4).setI (i+2) (ae HG));have B5:=af (show But b w (w4.setCell ⟨b,1,none⟩ (.int .i64 ((i:Int)+1+1))) from (ae B4).setCell 1 _);have hne:¬(w3.heap.size=b):=by omega
 have VS:=af (show ai (w4.setCell ⟨b,1,none⟩ (.int .i64 ((i:Int)+1+1))) w3.heap.size #[.string (TT s i),.int .i64 (PP s i),.bool (aT (TT s i))] 259 from (ae oD).other hne _);clear r0 r1 r2 r3 r4 zr t0 t1 t2 VQ K4 B4 oD;generalize w4.setCell ⟨b,1,none⟩ (.int .i64 ((i:Int)+1+1))=W5 at*;refine (iX b s tv (i+2) d a kv rv pv W5 (ae K5) hm VR).mono ?_;rintro e w6 ⟨rfl,b6,k6⟩;have K6:=af k6;have B6:=af ((ae B5).trans b6);have Qb:=af ((ae VS).but b6 hne);have lt6:=(ae Qb).lt;obtain ⟨t0,t1,t2⟩:=(ae Qb).three;have n1:¬(w3.heap.size=w6.heap.size):=by omega
 have n2:¬(w6.heap.size=w3.heap.size):=by omega
 have wZ:=af (Below.refl w6.heap.size w6);clear b6 k6 K5 B5 VS;unfold qb;go_wp2_with fail;have K7:=af ((ae K6).below ((Below.refl _ w6).alloc aeg (.cells #[.string (TT s (i+2)),.int .i64 (PP s (i+2)),.bool (aT (TT s (i+2)))] 259)));have B7:=af ((ae B6).trans (But.of_below (b:=b) ((Below.refl _ w6).alloc aeg (.cells #[.string (TT s (i+2)),.int .i64 (PP s (i+2)),.bool (aT (TT s (i+2)))] 259))));clear K6 B6 Qb wZ;generalize w6.alloc (.cells #[.string (TT s (i+2)),.int .i64 (PP s (i+2)),.bool (aT (TT s (i+2)))] 259)=WW at*;have T4:=af ((ae HT).but (ae B7) (ae H).blk hbb bF);have hb4:base≤(WW).heap.size:=Nat.le_trans bF (ae B7).size;refine (fV base b s tv (i+3) d 0 (a) kv rv pv pl l ⟨3,[],TT s i,TT s (i+2),PP s i,PP s (i+2),[],[]⟩ none 0 none 0 none 0 (WW) (ae K7) (ae T4) (qW _ _ _ _ _ _) (by omega) hb4 hbb).mono ?_;rintro e' wf ⟨pv',rfl,fr,pg,pu⟩;have F6:=af ((Fr.of_but (ae B7) hbb bF).trans fr);have R6:=af pg;have P6:=af pu;clear fr pg pu;go_wp2;go_ret;exact ⟨pl.length,rfl,pv',_,_,[_],[_],ae F6,ae P6,rfl,rfl,fun y hy=>by rw [List.mem_singleton] at hy;subst hy;exact lT _ _,ae R6,by omega,by simp;omega,1,_,List.getElem?_concat_length,.inr (.inr (.inl ⟨rfl,rfl,⟨rfl,rfl⟩,rfl⟩))⟩
theorem DD (base b:Nat) (s:aei) (tv:Value) (i d a:Nat) (kv rv pv:Value) (pl:List PV) (l:List PX) (w:World) (h:RS w b s tv i d 0 a kv rv pv) (ht:PT base w pv pl l) (hbb:base≤b) (bF:base≤w.heap.size) (hl:pl.length≤i) (ex:Nat) (h1:eqs (TT s i) (sg 91)=false) (h2:eqs (TT s i) (sg 40)=false) (hn:dh (TT s i)=true) (h8:(TT s i).size≤8) (hd:eqs (TT s (i+1)) (sg 46)=true) (hm:dh (TT s (i+2))=false):Calls Tryz.prog 266 #[.pointer (some ⟨b,0,none⟩)] w (nY base b s tv i d a kv rv pv pl l w (ex+1) (.error (2,i+2))):=by
 have H:=af h;have HT:=af ht;have C:=af (aZ b s tv i d a kv rv pv (sg 91) w h false h1);have hlt:=h.lt;have hle:=h.gd.le;have hsz:=h.sz;clear h ht;go_enter Tryz.func266,Tryz.ntmps266;go_wp2_with fail;refine (ae C).mono ?_;rintro e w1 ⟨rfl,hb1⟩;have H1:=af ((ae H).below hb1);have B1:=af (But.of_below (b:=b) hb1);clear hb1 C;go_wp2_with fail;refine (aZ b s tv i d a kv rv pv (sg 40) w1 (ae H1) false h2).mono ?_;rintro e w2 ⟨rfl,hb2⟩;have H2:=af ((ae H1).below hb2);have B2:=af ((ae B1).trans (But.of_below (b:=b) hb2));clear hb2 H1 B1;go_wp2_with fail;refine (iX b s tv i d a kv rv pv w2 (ae H2) hn h8).mono ?_;rintro e w3 ⟨rfl,b3,k3⟩;have K3:=af k3;have B3:=af ((ae B2).trans b3);have oI:=af (Below.refl w3.heap.size w3);clear b3 k3 H2 B2;unfold qb;go_wp2_with fail;refine (aZ b s tv (i+1) d a kv rv pv (sg 46) _ ?r true hd).mono ?_
 case r=>exact (ae K3).below (by with_reducible repeat (first|exact ae oI|refine Below.drew ?_|(refine Below.setCell ?_ ?_ _;rotate_left;exact (by first|omega|(simp;omega)|simp))|(refine Below.alloc ?_ ?_ _;rotate_left;exact (by first|omega|(simp;omega)|simp))))
 rintro e w4 ⟨rfl,hb4⟩;have K4:=af (((ae K3).below (by with_reducible repeat (first|exact ae oI|refine Below.drew ?_|(refine Below.setCell ?_ ?_ _;rotate_left;exact (by first|omega|(simp;omega)|simp))|(refine Below.alloc ?_ ?_ _;rotate_left;exact (by first|omega|(simp;omega)|simp))))).below hb4);have oD:=af ((ai.new w3 #[.string (TT s i),.int .i64 (PP s i),.bool (aT (TT s i))] 259).below hb4);have B4:=af ((show But b w _ from (by with_reducible repeat (first|exact ae B3|refine But.alloc ?_ _|refine But.drew ?_|(refine But.setNew ?_ ?_ _;rotate_left;exact (by first|omega|(simp;omega)|simp))))).trans (But.of_below hb4));obtain ⟨t0,t1,t2⟩:=(ae oD).three;have VQ:=(ae oD).lt;have Zi:=(ae B3).size;clear hb4 K3 B3 oI;have HG:=af ((ae K4).gd.succ (bZ hd (by decide)));obtain ⟨r0,r1,r2,r3,r4,_⟩:=(ae K4).blk.eight;have zr:=(ae K4).blk.fz;have xH:=(ae B4).size;go_wp2_with fail;have K5:=af (show RS (w4.setCell ⟨b,1,none⟩ (.int .i64 ((i:Int)+1+1))) b s tv (i+2) d 0 a kv rv pv from (ae K4).setI (i+2) (ae HG));have B5:=af (show But b w (w4.setCell ⟨b,1,none⟩ (.int .i64 ((i:Int)+1+1))) from (ae B4).setCell 1 _);have hne:¬(w3.heap.size=b):=by omega
 have VS:=af (show ai (w4.setCell ⟨b,1,none⟩ (.int .i64 ((i:Int)+1+1))) w3.heap.size #[.string (TT s i),.int .i64 (PP s i),.bool (aT (TT s i))] 259 from (ae oD).other hne _);clear r0 r1 r2 r3 r4 zr t0 t1 t2 VQ K4 B4 oD;generalize w4.setCell ⟨b,1,none⟩ (.int .i64 ((i:Int)+1+1))=W5 at*;refine (jq b s tv (i+2) d a kv rv pv true W5 (ae K5) hm).mono ?_;rintro e w6 ⟨rfl,b6,k6⟩;have K6:=af k6;have B6:=af ((ae B5).trans b6);have Qb:=af ((ae VS).but b6 hne);have lt6:=(ae Qb).lt;obtain ⟨t0,t1,t2⟩:=(ae Qb).three;have n1:¬(w3.heap.size=w6.heap.size):=by omega
 have n2:¬(w6.heap.size=w3.heap.size):=by omega
 have wZ:=af (Below.refl w6.heap.size w6);clear b6 k6 K5 B5 VS;unfold qb;go_wp2_with fail;have K7:=af ((ae K6).below ((Below.refl _ w6).alloc aeg (.cells #[.string (TT s (i+2)),.int .i64 (PP s (i+2)),.bool (aT (TT s (i+2)))] 259)));have B7:=af ((ae B6).trans (But.of_below (b:=b) ((Below.refl _ w6).alloc aeg (.cells #[.string (TT s (i+2)),.int .i64 (PP s (i+2)),.bool (aT (TT s (i+2)))] 259))));clear K6 B6 Qb wZ;generalize w6.alloc (.cells #[.string (TT s (i+2)),.int .i64 (PP s (i+2)),.bool (aT (TT s (i+2)))] 259)=WW at*;have T4:=af ((ae HT).but (ae B7) (ae H).blk hbb bF);have hb4:base≤(WW).heap.size:=Nat.le_trans bF (ae B7).size;refine (fV base b s tv (i+2) d 2 (PP s (i+2)) kv rv pv pl l ⟨3,[],TT s i,TT s (i+2),PP s i,PP s (i+2),[],[]⟩ none 0 none 0 none 0 (WW) (ae K7) (ae T4) (qW _ _ _ _ _ _) (by omega) hb4 hbb).mono ?_;rintro e' wf ⟨pv',rfl,fr,pg,pu⟩;have F6:=af ((Fr.of_but (ae B7) hbb bF).trans fr);have R6:=af pg;have P6:=af pu;clear fr pg pu;go_wp2;go_ret;exact ⟨pl.length,rfl,pv',_,_,[_],[_],ae F6,ae P6,rfl,rfl,fun y hy=>by rw [List.mem_singleton] at hy;subst hy;exact lT _ _,by decide,i+2,by omega,ae R6,by simp;omega⟩
theorem Fe (base b:Nat) (s:aei) (tv:Value) (i d a:Nat) (kv rv pv:Value) (pl:List PV) (l:List PX) (w:World) (h:RS w b s tv i d 0 a kv rv pv) (ht:PT base w pv pl l) (hbb:base≤b) (bF:base≤w.heap.size) (hl:pl.length≤i) (ex:Nat) (h1:eqs (TT s i) (sg 91)=false) (h2:eqs (TT s i) (sg 40)=false) (hn:dh (TT s i)=true) (h8:(TT s i).size≤8) (hd:eqs (TT s (i+1)) (sg 46)=true) (hm:dh (TT s (i+2))=true) (VR:8<(TT s (i+2)).size):Calls Tryz.prog 266 #[.pointer (some ⟨b,0,none⟩)] w (nY base b s tv i d a kv rv pv pl l w (ex+1) (.error (3,i+2))):=by
 have H:=af h;have HT:=af ht;have C:=af (aZ b s tv i d a kv rv pv (sg 91) w h false h1);have hlt:=h.lt;have hle:=h.gd.le;have hsz:=h.sz;clear h ht;go_enter Tryz.func266,Tryz.ntmps266;go_wp2_with fail;refine (ae C).mono ?_;rintro e w1 ⟨rfl,hb1⟩;have H1:=af ((ae H).below hb1);have B1:=af (But.of_below (b:=b) hb1);clear hb1 C;go_wp2_with fail;refine (aZ b s tv i d a kv rv pv (sg 40) w1 (ae H1) false h2).mono ?_;rintro e w2 ⟨rfl,hb2⟩;have H2:=af ((ae H1).below hb2);have B2:=af ((ae B1).trans (But.of_below (b:=b) hb2));clear hb2 H1 B1;go_wp2_with fail;refine (iX b s tv i d a kv rv pv w2 (ae H2) hn h8).mono ?_;rintro e w3 ⟨rfl,b3,k3⟩;have K3:=af k3;have B3:=af ((ae B2).trans b3);have oI:=af (Below.refl w3.heap.size w3);clear b3 k3 H2 B2;unfold qb;go_wp2_with fail;refine (aZ b s tv (i+1) d a kv rv pv (sg 46) _ ?r true hd).mono ?_
 case r=>exact (ae K3).below (by with_reducible repeat (first|exact ae oI|refine Below.drew ?_|(refine Below.setCell ?_ ?_ _;rotate_left;exact (by first|omega|(simp;omega)|simp))|(refine Below.alloc ?_ ?_ _;rotate_left;exact (by first|omega|(simp;omega)|simp))))
 rintro e w4 ⟨rfl,hb4⟩;have K4:=af (((ae K3).below (by with_reducible repeat (first|exact ae oI|refine Below.drew ?_|(refine Below.setCell ?_ ?_ _;rotate_left;exact (by first|omega|(simp;omega)|simp))|(refine Below.alloc ?_ ?_ _;rotate_left;exact (by first|omega|(simp;omega)|simp))))).below hb4);have oD:=af ((ai.new w3 #[.string (TT s i),.int .i64 (PP s i),.bool (aT (TT s i))] 259).below hb4);have B4:=af ((show But b w _ from (by with_reducible repeat (first|exact ae B3|refine But.alloc ?_ _|refine But.drew ?_|(refine But.setNew ?_ ?_ _;rotate_left;exact (by first|omega|(simp;omega)|simp))))).trans (But.of_below hb4));obtain ⟨t0,t1,t2⟩:=(ae oD).three;have VQ:=(ae oD).lt;have Zi:=(ae B3).size;clear hb4 K3 B3 oI;have HG:=af ((ae K4).gd.succ (bZ hd (by decide)));obtain ⟨r0,r1,r2,r3,r4,_⟩:=(ae K4).blk.eight;have zr:=(ae K4).blk.fz;have xH:=(ae B4).size;go_wp2_with fail;have K5:=af (show RS (w4.setCell ⟨b,1,none⟩ (.int .i64 ((i:Int)+1+1))) b s tv (i+2) d 0 a kv rv pv from (ae K4).setI (i+2) (ae HG));have B5:=af (show But b w (w4.setCell ⟨b,1,none⟩ (.int .i64 ((i:Int)+1+1))) from (ae B4).setCell 1 _);have hne:¬(w3.heap.size=b):=by omega
 have VS:=af (show ai (w4.setCell ⟨b,1,none⟩ (.int .i64 ((i:Int)+1+1))) w3.heap.size #[.string (TT s i),.int .i64 (PP s i),.bool (aT (TT s i))] 259 from (ae oD).other hne _);clear r0 r1 r2 r3 r4 zr t0 t1 t2 VQ K4 B4 oD;generalize w4.setCell ⟨b,1,none⟩ (.int .i64 ((i:Int)+1+1))=W5 at*;refine (kG b s tv (i+2) d a kv rv pv true W5 (ae K5) hm VR).mono ?_;rintro e w6 ⟨rfl,b6,k6⟩;have K6:=af k6;have B6:=af ((ae B5).trans b6);have Qb:=af ((ae VS).but b6 hne);have lt6:=(ae Qb).lt;obtain ⟨t0,t1,t2⟩:=(ae Qb).three;have n1:¬(w3.heap.size=w6.heap.size):=by omega
 have n2:¬(w6.heap.size=w3.heap.size):=by omega
 have wZ:=af (Below.refl w6.heap.size w6);clear b6 k6 K5 B5 VS;unfold qb;go_wp2_with fail;have K7:=af ((ae K6).below ((Below.refl _ w6).alloc aeg (.cells #[.string (TT s (i+2)),.int .i64 (PP s (i+2)),.bool (aT (TT s (i+2)))] 259)));have B7:=af ((ae B6).trans (But.of_below (b:=b) ((Below.refl _ w6).alloc aeg (.cells #[.string (TT s (i+2)),.int .i64 (PP s (i+2)),.bool (aT (TT s (i+2)))] 259))));clear K6 B6 Qb wZ;generalize w6.alloc (.cells #[.string (TT s (i+2)),.int .i64 (PP s (i+2)),.bool (aT (TT s (i+2)))] 259)=WW at*;have T4:=af ((ae HT).but (ae B7) (ae H).blk hbb bF);have hb4:base≤(WW).heap.size:=Nat.le_trans bF (ae B7).size;refine (fV base b s tv (i+2) d 3 (PP s (i+2)) kv rv pv pl l ⟨3,[],TT s i,TT s (i+2),PP s i,PP s (i+2),[],[]⟩ none 0 none 0 none 0 (WW) (ae K7) (ae T4) (qW _ _ _ _ _ _) (by omega) hb4 hbb).mono ?_;rintro e' wf ⟨pv',rfl,fr,pg,pu⟩;have F6:=af ((Fr.of_but (ae B7) hbb bF).trans fr);have R6:=af pg;have P6:=af pu;clear fr pg pu;go_wp2;go_ret;exact ⟨pl.length,rfl,pv',_,_,[_],[_],ae F6,ae P6,rfl,rfl,fun y hy=>by rw [List.mem_singleton] at hy;subst hy;exact lT _ _,by decide,i+2,by omega,ae R6,by simp;omega⟩
theorem MQ (base b:Nat) (s:aei) (tv:Value) (i d a:Nat) (kv rv pv:Value) (pl:List PV) (l:List PX) (w:World) (h:RS w b s tv i d 0 a kv rv pv) (ht:PT base w pv pl l) (hbb:base≤b) (bF:base≤w.heap.size) (hl:pl.length≤i) (room:Bool) (inner:Nat→dM Ex) (ex:Nat) (hr:room=true→d<4∧uR s inner (d+1) ex) (hf:room=false→d=4):Calls Tryz.prog 266 #[.pointer (some ⟨b,0,none⟩)] w (nY base b s tv i d a kv rv pv pl l w (ex+1) (gY (TT s) (PP s) room inner i)):=by
 unfold gY
 cases h1:eqs (TT s i) (sg 91)
 ·simp only [Bool.false_eq_true,if_false]
  cases h2:eqs (TT s i) (sg 40)
  ·simp only [Bool.false_eq_true,if_false];unfold lW bN
   cases hn:dh (TT s i)
   ·exact MP base b s tv i d a kv rv pv pl l w h ht hbb bF hl ex h1 h2 hn
   ·by_cases h8:8<(TT s i).size
    ·simp only [if_true,h8];exact P9 base b s tv i d a kv rv pv pl l w h ht hbb bF hl ex h1 h2 hn h8
    ·simp only [if_true,h8,if_false]
     cases hd:eqs (TT s (i+1)) (sg 46)
     ·simp only [Bool.false_eq_true,if_false];exact P8 base b s tv i d a kv rv pv pl l w h ht hbb bF hl ex h1 h2 hn (by omega) hd
     ·simp only [if_true]
      cases hm:dh (TT s (i+1+1))
      ·exact DD base b s tv i d a kv rv pv pl l w h ht hbb bF hl ex h1 h2 hn (by omega) hd hm
      ·by_cases VR:8<(TT s (i+1+1)).size
       ·simp only [if_true,VR];exact Fe base b s tv i d a kv rv pv pl l w h ht hbb bF hl ex h1 h2 hn (by omega) hd hm VR
       ·simp only [if_true,VR,if_false];exact Qa base b s tv i d a kv rv pv pl l w h ht hbb bF hl ex h1 h2 hn (by omega) hd hm (Nat.le_of_not_lt VR)
  ·simp only [if_true]
   cases room with
   |false=>
    simp only [Bool.false_eq_true,if_false];exact MN base b s tv i d a kv rv pv pl l w h ht hbb bF hl ex h1 h2 (hf rfl)
   |true=>
    simp only [if_true];exact Un base b s tv i d a kv rv pv pl l w h ht hbb bF hl inner ex (hr rfl).2 h1 h2 (hr rfl).1
 ·simp only [if_true];exact MM base b s tv i d a kv rv pv pl l w h ht hbb bF hl ex h1
def AJ (o:Option Nat) (x:PX):Prop:=∀g,(x.2.1.ownBlock=some g∨x.2.2.1.ownBlock=some g∨x.2.2.2.ownBlock=some g)→o≠some g
theorem nD.lt {w:World} {x:PX} (h:nD w x):∀g,(x.2.1.ownBlock=some g∨x.2.2.1.ownBlock=some g∨x.2.2.2.ownBlock=some g)→g<w.heap.size:=fun g hg=>by
 rcases hg with hg|hg|hg
 ·exact (h.g.lt g hg).2
 ·exact (h.p.lt g hg).2
 ·exact (h.s.lt g hg).2
theorem nD.keep {w w':World} {x:PX} (h:nD w x) (k:∀g cs T f,w.heap[g]? =some (.cells cs T f)→(T=257∨T=3∨T=259)→(x.2.1.ownBlock=some g∨x.2.2.1.ownBlock=some g∨x.2.2.2.ownBlock=some g)→w'.heap[g]? =w.heap[g]?):nD w' x:=by
 have f:∀{T:TypeId} {size:Nat} {v:Value} {n:Nat} {xs:List Value},w.ownsRow 0 T size v n xs→(∀g cs f,w.heap[g]? =some (.cells cs T f)→v.ownBlock=some g→w'.heap[g]? =w.heap[g]?)→w'.ownsRow 0 T size v n xs:=by
  intro T size v n xs h k;refine ⟨h.1,?_⟩
  rcases h.2 with h|⟨g,cap,cur,h1,h2,h3,h4⟩
  ·exact .inl h
  ·exact .inr ⟨g,cap,cur,h1,h2,(k g cur (0,0) h3 (by rw [h1];rfl)).trans h3,h4⟩
 exact ⟨f h.g (fun g cs f hh ho=>k g cs _ f hh (.inl rfl) (.inl ho)),f h.p (fun g cs f hh ho=>k g cs _ f hh (.inr (.inl rfl)) (.inr (.inl ho))),f h.s (fun g cs f hh ho=>k g cs _ f hh (.inr (.inr rfl)) (.inr (.inr ho)))⟩
theorem uS {w w':World} {base:Nat} {T:TypeId} {size:Nat} {v:Value} {n:Nat} {xs:List Value} (h:w.ownsRow base T size v n xs) (k:∀g cs f,w.heap[g]? =some (.cells cs T f)→v.ownBlock=some g→w'.heap[g]? =w.heap[g]?):w'.ownsRow base T size v n xs:=by
 refine ⟨h.1,?_⟩
 rcases h.2 with h|⟨g,cap,cur,h1,h2,h3,h4⟩
 ·exact .inl h
 ·exact .inr ⟨g,cap,cur,h1,h2,(k g cur (0,0) h3 (by rw [h1];rfl)).trans h3,h4⟩
theorem Ff {w:World} {base:Nat} {T:TypeId} {size:Nat} {v:Value} {n:Nat} {xs:List Value} (h:w.ownsRow base T size v n xs) {g:Nat} (k:v.ownBlock=some g):∃cur,ai w g cur T:=by
 rcases h.2 with ⟨e,_⟩|⟨g',cap,cur,h1,h2,h3,h4⟩
 ·rw [e] at k;cases k
 ·rw [h1] at k;simp only [Value.ownBlock,Option.some.injEq] at k;subst k;exact ⟨cur,h3⟩
structure xN (base b:Nat) (s:aei) (tv:Value) (d:Nat) (kv rv pv:Value) (i:Nat) (pl:List PV) (l:List PX) (w:World) (kd:Nat) (wr:World) (lI:Value) (j e aa:Nat) (gm:List PV) (lr:List PX) (ps:List Nat) (pa:Option Addr) (pc:Nat) (eu:List Tk) (sa:Option Addr) (sc:Nat):Prop where
 fr:Fr base b w wr pv lI
 rs:RS wr b s tv j d e aa kv rv lI
 pt:PT base wr lI gm lr
 box:ai wr w.heap.size #[.int .i64 kd,.slice none 0 0,.string ⟨#[]⟩,.string ⟨#[]⟩,.int .i64 (PP s i),.int .i64 0,.slice pa ps.length pc,.slice sa eu.length sc] 255
 nb:lI.ownBlock≠some w.heap.size
 prow:wr.ownsRow w.heap.size 3 1 (.slice pa ps.length pc) ps.length (ps.map fun n:Nat=> .int .i64 n)
 srow:wr.ownsRow w.heap.size 259 3 (.slice sa eu.length sc) eu.length (aL eu)
 dp:∀x∈lr,AJ (Value.slice pa ps.length pc).ownBlock x
 ds:∀x∈lr,AJ (Value.slice sa eu.length sc).ownBlock x
 sfx:∃t,gm=pl++t
 new:∃tl,lr=l++tl∧∀x∈tl,lH w.heap.size x
 blt:b<w.heap.size
 tvl:∀g,tv.ownBlock=some g→g<w.heap.size
theorem xN.below {base b:Nat} {s:aei} {tv:Value} {d:Nat} {kv rv pv:Value} {i:Nat} {pl:List PV} {l:List PX} {w wr:World} {kd:Nat} {lI:Value} {j e aa:Nat} {gm:List PV} {lr:List PX} {ps:List Nat} {pa:Option Addr} {pc:Nat} {eu:List Tk} {sa:Option Addr} {sc:Nat} {w':World} (h:xN base b s tv d kv rv pv i pl l w kd wr lI j e aa gm lr ps pa pc eu sa sc) (k:Below wr.heap.size wr w') (hb:base≤wr.heap.size) (hbb:base≤b):xN base b s tv d kv rv pv i pl l w kd w' lI j e aa gm lr ps pa pc eu sa sc:=
 ⟨h.fr.trans (Fr.of_below k hb),h.rs.below k,h.pt.but (But.of_below k) h.rs.blk hbb hb,h.box.below k,h.nb,ak h.prow (fun g cs f _ hh=>k.block g (lt_of_some hh)),ak h.srow (fun g cs f _ hh=>k.block g (lt_of_some hh)),h.dp,h.ds,h.sfx,h.new,h.blt,h.tvl⟩
theorem xN.but {base b:Nat} {s:aei} {tv:Value} {d:Nat} {kv rv pv:Value} {i:Nat} {pl:List PV} {l:List PX} {w wr:World} {kd:Nat} {lI:Value} {j e aa:Nat} {gm:List PV} {lr:List PX} {ps:List Nat} {pa:Option Addr} {pc:Nat} {eu:List Tk} {sa:Option Addr} {sc:Nat} {w':World} (h:xN base b s tv d kv rv pv i pl l w kd wr lI j e aa gm lr ps pa pc eu sa sc) (k:But b wr w') (hb:base≤wr.heap.size) (hbb:base≤b) {j' e' aa':Nat} (r:RS w' b s tv j' d e' aa' kv rv lI):xN base b s tv d kv rv pv i pl l w kd w' lI j' e' aa' gm lr ps pa pc eu sa sc:=
 have f:=Fr.of_but (pv:=lI) k hbb hb
 ⟨h.fr.trans f,r,h.pt.but k h.rs.blk hbb hb,h.box.but k (by have:=h.blt;omega),h.nb,f.row h.prow h.rs.blk h.pt.row (by decide) (by decide),f.row h.srow h.rs.blk h.pt.row (by decide) (by decide),h.dp,h.ds,h.sfx,h.new,h.blt,h.tvl⟩
theorem xN.call {base b:Nat} {s:aei} {tv:Value} {d:Nat} {kv rv pv:Value} {i:Nat} {pl:List PV} {l:List PX} {w wr:World} {kd:Nat} {lI:Value} {j e aa:Nat} {gm:List PV} {lr:List PX} {ps:List Nat} {pa:Option Addr} {pc:Nat} {eu:List Tk} {sa:Option Addr} {sc:Nat} {w1:World} {sZ:Value} {j1 e1 a1:Nat} {Uo t:List PV} {l1 tl:List PX} (h:xN base b s tv d kv rv pv i pl l w kd wr lI j e aa gm lr ps pa pc eu sa sc) (f:Fr base b wr w1 lI sZ) (p:PT base w1 sZ (gm++t) (lr++tl)) (r:RS w1 b s tv j1 d e1 a1 kv rv sZ) (fs:∀x∈tl,lH wr.heap.size x):xN base b s tv d kv rv pv i pl l w kd w1 sZ j1 e1 a1 (gm++t) (lr++tl) ps pa pc eu sa sc:=by
 have hlt:=h.box.lt;have away:∀{T:TypeId} {size:Nat} {v:Value} {n:Nat} {xs:List Value},wr.ownsRow w.heap.size T size v n xs→(∀x∈lr,AJ v.ownBlock x)→∀x∈lr++tl,AJ v.ownBlock x:=by
  intro T size v n xs ho ha x hx;rw [List.mem_append] at hx
  rcases hx with hx|hx
  ·exact ha x hx
  ·intro g hg e;have:=(ho.lt g e).2;have:=fs x hx g hg;omega
 refine ⟨h.fr.trans f,r,p,f.blk h.box (by have:=h.blt;omega) h.nb,fun e=> ?_,f.row h.prow h.rs.blk h.pt.row (by decide) (by decide),f.row h.srow h.rs.blk h.pt.row (by decide) (by decide),away h.prow h.dp,away h.srow h.ds,?_,?_,h.blt,h.tvl⟩
 ·rcases f.own _ e with e|e
  ·exact h.nb e
  ·omega
 ·obtain ⟨t0,e⟩:=h.sfx;exact ⟨t0++t,by rw [e,List.append_assoc]⟩
 ·obtain ⟨t0,e,k⟩:=h.new;refine ⟨t0++tl,by rw [e,List.append_assoc],fun x hx=> ?_⟩;rw [List.mem_append] at hx
  rcases hx with hx|hx
  ·exact k x hx
  ·exact (fs x hx).mono (by omega)
theorem xN.grow {base b:Nat} {s:aei} {tv:Value} {d:Nat} {kv rv pv:Value} {i:Nat} {pl:List PV} {l:List PX} {w wr:World} {kd:Nat} {lI:Value} {j e aa:Nat} {gm:List PV} {lr:List PX} {ps:List Nat} {pa:Option Addr} {pc:Nat} {eu:List Tk} {sa:Option Addr} {sc:Nat} {w5:World} {o:Obj} {row:Option Nat} {u:Value} {c:Nat} (h:xN base b s tv d kv rv pv i pl l w kd wr lI j e aa gm lr ps pa pc eu sa sc) (hb:base≤wr.heap.size) (hbb:base≤b) (hw:base≤w.heap.size) (G5:(wr.alloc o).grownBy w5 row) (hrow:∀k,row=some k→w.heap.size≤k) (n1:row≠some b) (n2:row≠some w.heap.size) (n3:∀k,lI.ownBlock=some k→row≠some k) (n4:∀x∈lr,AJ row x):
  Fr base b w (w5.setCell ⟨w.heap.size,c,none⟩ u) pv lI∧RS (w5.setCell ⟨w.heap.size,c,none⟩ u) b s tv j d e aa kv rv lI∧PT base (w5.setCell ⟨w.heap.size,c,none⟩ u) lI gm lr∧ai w5 w.heap.size #[.int .i64 kd,.slice none 0 0,.string ⟨#[]⟩,.string ⟨#[]⟩,.int .i64 (PP s i),.int .i64 0,.slice pa ps.length pc,.slice sa eu.length sc] 255:=by
 have b0:Below wr.heap.size wr (wr.alloc o):=(Below.refl _ _).alloc aeg _;have H:=h.below b0 hb hbb;have keep:∀g,g<(wr.alloc o).heap.size→row≠some g→w5.heap[g]? =(wr.alloc o).heap[g]? :=fun g hg hr=>G5.block g hg (fun e=>hr e.symm)
 have aas:ai w5 w.heap.size #[.int .i64 kd,.slice none 0 0,.string ⟨#[]⟩,.string ⟨#[]⟩,.int .i64 (PP s i),.int .i64 0,.slice pa ps.length pc,.slice sa eu.length sc] 255:=(keep _ H.box.lt n2).trans H.box;have blk5:=(keep _ H.rs.blk.lt n1).trans H.rs.blk;have hne:b≠w.heap.size:=by have:=h.blt;omega
 refine ⟨⟨(Below.grown H.fr.below G5 (Nat.le_trans hw H.fr.below.size) (fun k hk=>Nat.le_trans hw (hrow k hk))).setCell hw _,fun g hg hgb hp=> ?_,h.fr.own⟩,⟨ai.other blk5 hne _,?_,h.rs.gd,h.rs.fm,h.rs.sz⟩,⟨h.pt.fst,?_,fun x hx=> ?_⟩,aas⟩
 ·have e1:g≠w.heap.size:=by omega
  exact (Below.heap_setCell _ _ _ _ e1).trans ((keep g (Nat.lt_of_lt_of_le hg H.fr.below.size) (fun e=>by have:=hrow g e;omega)).trans (H.fr.keep g hg hgb hp))
 ·refine aX (T:=255) ?_ aas (by decide) _ _;refine uS H.rs.tok (fun g cs f hh ho=>keep g (lt_of_some hh) (fun e=> ?_));have:=h.tvl g ho;have:=hrow g e;omega
 ·refine ownsRow_setCell_other ?_ h.nb _;exact uS H.pt.row (fun g cs f hh ho=>keep g (lt_of_some hh) (n3 g ho))
 ·refine (H.pt.rep x hx).keep (fun g cs T f hh ht ho=> ?_);have e1:g≠w.heap.size:=fun e=>by
   subst e;have:=H.box;unfold ai at this;rw [this] at hh;simp only [Option.some.injEq,Obj.cells.injEq] at hh
   rcases ht with ht|ht|ht<;>rw [ht] at hh<;>exact absurd hh.2.1 (by decide)
  exact (Below.heap_setCell _ _ _ _ e1).trans (keep g (lt_of_some hh) (n4 x hx g ho))
theorem xN.sign {base b:Nat} {s:aei} {tv:Value} {d:Nat} {kv rv pv:Value} {i:Nat} {pl:List PV} {l:List PX} {w wr:World} {kd:Nat} {lI:Value} {j e aa:Nat} {gm:List PV} {lr:List PX} {ps:List Nat} {pa:Option Addr} {pc:Nat} {eu:List Tk} {sa:Option Addr} {sc:Nat} (h:xN base b s tv d kv rv pv i pl l w kd wr lI j e aa gm lr ps pa pc eu sa sc) (hw:base≤w.heap.size) {cs:Array Value} (S:ai wr (w.heap.size+1) cs 259) (ns:(Value.slice sa eu.length sc).ownBlock≠some (w.heap.size+1)) (da:∀x∈lr,AJ (some (w.heap.size+1)) x) (c:Nat) (u:Value):xN base b s tv d kv rv pv i pl l w kd (wr.setCell ⟨w.heap.size+1,c,none⟩ u) lI j e aa gm lr ps pa pc eu sa sc:=by
 have hb:=h.blt;refine ⟨⟨h.fr.below.setCell (show base≤w.heap.size+1 by omega) _,fun g hg hgb hp=> ?_,h.fr.own⟩,⟨h.rs.blk.other (show b≠w.heap.size+1 by omega) _,?_,h.rs.gd,h.rs.fm,h.rs.sz⟩,⟨h.pt.fst,aX h.pt.row S (by decide) _ _,fun x hx=> ?_⟩,h.box.other (show w.heap.size≠w.heap.size+1 by omega) _,h.nb,aX h.prow S (by decide) _ _,ownsRow_setCell_other h.srow ns _,h.dp,h.ds,h.sfx,h.new,h.blt,h.tvl⟩
 ·exact (Below.heap_setCell _ _ _ _ (show g≠w.heap.size+1 by omega)).trans (h.fr.keep g hg hgb hp)
 ·refine ownsRow_setCell_other h.rs.tok (fun e=> ?_) _;have:=h.tvl (w.heap.size+1) e;omega
 ·exact (h.pt.rep x hx).keep (fun g cs T f hh ht ho=>Below.heap_setCell _ _ _ _ (fun e=>da x hx g ho (by rw [e])))
theorem Fg {base b:Nat} {s:aei} {tv:Value} {d:Nat} {kv rv pv:Value} {i:Nat} {pl:List PV} {l:List PX} {w wr:World} {kd:Nat} {lI:Value} {j e aa:Nat} {gm:List PV} {lr:List PX} {ps:List Nat} {pa:Option Addr} {pc:Nat} {eu:List Tk} {sa:Option Addr} {sc:Nat} {v:Value} {g5 aD m:Nat} (h:xN base b s tv d kv rv pv i pl l w kd wr lI j e aa gm lr ps pa pc eu sa sc) (A5:v.ownBlock=some g5∨g5=wr.heap.size+1) (k:∀x∈lr,AJ v.ownBlock x):∀x∈lr,AJ (Value.slice (some ⟨g5,0,none⟩) m aD).ownBlock x:=fun x hx g hg e=>by
 simp only [Value.ownBlock,Option.some.injEq] at e;subst e
 rcases A5 with e|e
 ·exact k x hx g5 hg e
 ·have:=(h.pt.rep x hx).lt g5 hg;omega
theorem xN.grownP {base b:Nat} {s:aei} {tv:Value} {d:Nat} {kv rv pv:Value} {i:Nat} {pl:List PV} {l:List PX} {w wr:World} {kd:Nat} {lI:Value} {j e aa:Nat} {gm:List PV} {lr:List PX} {ps:List Nat} {pa:Option Addr} {pc:Nat} {eu:List Tk} {sa:Option Addr} {sc:Nat} {w5:World} {o:Obj} (h:xN base b s tv d kv rv pv i pl l w kd wr lI j e aa gm lr ps pa pc eu sa sc) (hb:base≤wr.heap.size) (hbb:base≤b) (hw:base≤w.heap.size) (G5:(wr.alloc o).grownBy w5 (Value.slice pa ps.length pc).ownBlock) {g5 aD m:Nat} (O5:w5.ownsRow w.heap.size 3 1 (.slice (some ⟨g5,0,none⟩) (ps.length+1) aD) (ps.length+1) ((ps.map fun n:Nat=>Value.int .i64 n)++[.int .i64 m])) (A5:(Value.slice pa ps.length pc).ownBlock=some g5∨g5=wr.heap.size+1):
  ai w5 w.heap.size #[.int .i64 kd,.slice none 0 0,.string ⟨#[]⟩,.string ⟨#[]⟩,.int .i64 (PP s i),.int .i64 0,.slice pa ps.length pc,.slice sa eu.length sc] 255∧xN base b s tv d kv rv pv i pl l w kd (w5.setCell ⟨w.heap.size,6,none⟩ (.slice (some ⟨g5,0,none⟩) (ps.length+1) aD)) lI j e aa gm lr (ps++[m]) (some ⟨g5,0,none⟩) aD eu sa sc:=by
 have el:(ps++[m]).length=ps.length+1:=by simp
 have b0:Below wr.heap.size wr (wr.alloc o):=(Below.refl _ _).alloc aeg _;have H:=h.below b0 hb hbb;obtain ⟨f1,f2,f3,f4⟩:=h.grow (u:=.slice (some ⟨g5,0,none⟩) (ps.length+1) aD) (c:=6) hb hbb hw G5 (fun k hk=>(h.prow.lt k hk).1) (iY h.prow h.rs.blk (by decide)) (iY h.prow h.box (by decide)) (fun k hk=>by
  obtain ⟨cur,hc⟩:=Ff h.pt.row hk;exact iY h.prow hc (by decide)) h.dp
 refine ⟨f4,f1,f2,f3,?_,h.nb,?_,?_,?_,h.ds,h.sfx,h.new,h.blt,h.tvl⟩
 ·rw [el];exact f4.set 6 _
 ·rw [el,List.map_append];exact aX O5 f4 (by decide) _ _
 ·refine aX ?_ f4 (by decide) _ _;exact uS H.srow (fun g cs f hh ho=>G5.block g (lt_of_some hh) (cO H.prow hh (by decide)))
 ·rw [el];exact Fg h A5 h.dp
theorem xN.grownS {base b:Nat} {s:aei} {tv:Value} {d:Nat} {kv rv pv:Value} {i:Nat} {pl:List PV} {l:List PX} {w wr:World} {kd:Nat} {lI:Value} {j e aa:Nat} {gm:List PV} {lr:List PX} {ps:List Nat} {pa:Option Addr} {pc:Nat} {eu:List Tk} {sa:Option Addr} {sc:Nat} {w5:World} {o:Obj} (h:xN base b s tv d kv rv pv i pl l w kd wr lI j e aa gm lr ps pa pc eu sa sc) (hb:base≤wr.heap.size) (hbb:base≤b) (hw:base≤w.heap.size) (G5:(wr.alloc o).grownBy w5 (Value.slice sa eu.length sc).ownBlock) {g5 aD:Nat} {t:Tk} (O5:w5.ownsRow w.heap.size 259 3 (.slice (some ⟨g5,0,none⟩) (eu.length+1) aD) (eu.length+1) (aL eu++gG t)) (A5:(Value.slice sa eu.length sc).ownBlock=some g5∨g5=wr.heap.size+1):
  ai w5 w.heap.size #[.int .i64 kd,.slice none 0 0,.string ⟨#[]⟩,.string ⟨#[]⟩,.int .i64 (PP s i),.int .i64 0,.slice pa ps.length pc,.slice sa eu.length sc] 255∧xN base b s tv d kv rv pv i pl l w kd (w5.setCell ⟨w.heap.size,7,none⟩ (.slice (some ⟨g5,0,none⟩) (eu.length+1) aD)) lI j e aa gm lr ps pa pc (eu++[t]) (some ⟨g5,0,none⟩) aD:=by
 have el:(eu++[t]).length=eu.length+1:=by simp
 have b0:Below wr.heap.size wr (wr.alloc o):=(Below.refl _ _).alloc aeg _;have H:=h.below b0 hb hbb;obtain ⟨f1,f2,f3,f4⟩:=h.grow (u:=.slice (some ⟨g5,0,none⟩) (eu.length+1) aD) (c:=7) hb hbb hw G5 (fun k hk=>(h.srow.lt k hk).1) (iY h.srow h.rs.blk (by decide)) (iY h.srow h.box (by decide)) (fun k hk=>by
  obtain ⟨cur,hc⟩:=Ff h.pt.row hk;exact iY h.srow hc (by decide)) h.ds
 refine ⟨f4,f1,f2,f3,?_,h.nb,?_,?_,h.dp,?_,h.sfx,h.new,h.blt,h.tvl⟩
 ·rw [el];exact f4.set 7 _
 ·refine aX ?_ f4 (by decide) _ _;exact uS H.prow (fun g cs f hh ho=>G5.block g (lt_of_some hh) (cO H.srow hh (by decide)))
 ·rw [el];unfold aL;rw [List.flatMap_append];have:=aX O5 f4 (by decide) 7 (.slice (some ⟨g5,0,none⟩) (eu.length+1) aD)
  simpa [aL] using this
 ·rw [el];exact Fg h A5 h.ds
def VT (prev:Option (Ex×aei×Nat)) (y:Ex):Ex:=match prev with
 |none=>y
 |some (x,t,p)=>jZ t p x y
def pz (T:Nat→aei) (P:Nat→Nat) (signs:List aei) (part:Nat→dM Ex) (k:Nat) (prev:Option (Ex×aei×Nat)) (j:Nat):dM Ex:=match part j with
 | .error e=> .error e
 | .ok (y,m)=>joinL T P signs part k (VT prev y) m
theorem yS (T:Nat→aei) (P:Nat→Nat) (signs:List aei) (part:Nat→dM Ex) (i:Nat):gJ T P signs part i=pz T P signs part 512 none i:=by
 unfold gJ pz
 cases part i with
 |error e=>rfl
 |ok y=>rfl
theorem uT {T:Nat→aei} {P:Nat→Nat} {signs:List aei} {part:Nat→dM Ex} {k:Nat} {prev:Option (Ex×aei×Nat)} {j:Nat} {e:Nat×Nat} (h:part j=.error e):pz T P signs part k prev j=.error e:=by unfold pz;rw [h]
theorem xO {T:Nat→aei} {P:Nat→Nat} {signs:List aei} {part:Nat→dM Ex} {k:Nat} {prev:Option (Ex×aei×Nat)} {j:Nat} {y:Ex} {m:Nat} (h:part j=.ok (y,m)):pz T P signs part k prev j=joinL T P signs part k (VT prev y) m:=by unfold pz;rw [h]
theorem vT {T:Nat→aei} {P:Nat→Nat} {signs:List aei} {part:Nat→dM Ex} {k:Nat} {x:Ex} {j:Nat} (h:gX (T j) signs=true):joinL T P signs part (k+1) x j=pz T P signs part k (some (x,T j,P j)) (j+1):=by
 simp only [joinL,h,if_true];unfold pz
 cases part (j+1) with
 |error e=>rfl
 |ok y=>rfl
theorem Fh {T:Nat→aei} {P:Nat→Nat} {signs:List aei} {part:Nat→dM Ex} {k:Nat} {x:Ex} {j:Nat} (h:gX (T j) signs=false):joinL T P signs part (k+1) x j=.ok (x,j):=by
 simp [joinL,h]
theorem tq:∀(rs:List (aei×Nat×Ex)) (x0:Ex) (t:aei) (p:Nat) (y:Ex),kV x0 (rs++[(t,p,y)])=jZ t p (kV x0 rs) y
 | [],_,_,_,_=>rfl
 |(t',p',y')::rs,x0,t,p,y=>by
  simp only [List.cons_append,kV];exact tq rs _ t p y
theorem bQ.snoc {R:Nat→Ex→Prop} {m:Nat} {y:Ex} (k:R m y):∀(ns:List Nat) (xs:List Ex),bQ R ns xs→bQ R (ns++[m]) (xs++[y])
 | [],[],_=>⟨k,trivial⟩
 |n::ns,x::xs,h=>⟨h.1,bQ.snoc k ns xs h.2⟩
 | [],_::_,h=>h.elim
 |_::_,[],h=>h.elim
def aat:Tk:=⟨[],0,false⟩
def sgnT (r:aei×Nat×Ex):Tk:=⟨bi r.1,r.2.1,false⟩
def mY (pl:List PV) (ps:List Nat) (eu:List Tk) (x:Ex):Prop:=
 ∃n0 ns x0 rs f,ps=n0::ns∧Tr pl f n0 x0∧bQ (Tr pl f) ns (rs.map fun r=>r.2.2)∧eu=aat::rs.map sgnT∧(∀r∈rs,r.1=sg 38∨r.1=sg 45)∧x=kV x0 rs
theorem mY.one {pl:List PV} {f m:Nat} {y:Ex} (h:Tr pl f m y):mY pl [m] [aat] y:=⟨m,[],y,[],f,rfl,h,trivial,rfl,by simp,rfl⟩
theorem mY.snoc {pl t:List PV} {ps:List Nat} {eu:List Tk} {x:Ex} (h:mY pl ps eu x) {f m:Nat} {y:Ex} (k:Tr (pl++t) f m y) (tt:aei) (p:Nat) (wY:tt=sg 38∨tt=sg 45):mY (pl++t) (ps++[m]) (eu++[⟨bi tt,p,false⟩]) (jZ tt p x y):=by
 obtain ⟨n0,ns,x0,rs,g,rfl,h1,h2,rfl,h3,rfl⟩:=h;refine ⟨n0,ns++[m],x0,rs++[(tt,p,y)],g+f,rfl,Tr.le _ (by omega) (Tr.more pl t g _ _ h1),?_,?_,?_,?_⟩
 ·rw [List.map_append];exact bQ.snoc (Tr.le _ (by omega) k) _ _ (bQ.mono (fun n x hx=>Tr.le _ (by omega) (Tr.more pl t g _ _ hx)) _ _ h2)
 ·rw [List.map_append];rfl
 ·intro r hr
  rcases List.mem_append.1 hr with hr|hr
  ·exact h3 r hr
  ·rw [List.mem_singleton] at hr;subst hr;exact wY
 ·rw [tq]
theorem mY.chain {pl:List PV} {ps:List Nat} {eu:List Tk} {x:Ex} (h:mY pl ps eu x) (hn:ps.length≠1) (p:Nat):∃f,Tr (pl++[⟨4,[],em,em,p,0,ps,eu⟩]) f pl.length x:=by
 obtain ⟨n0,ns,x0,rs,g,rfl,h1,h2,rfl,h3,rfl⟩:=h;refine ⟨g+1,_,List.getElem?_concat_length,.inr (.inr (.inr (.inl ⟨rfl,rfl,n0,ns,x0,rs,rfl,Tr.more pl _ g _ _ h1,bQ.mono (Tr.more pl _ g) _ _ h2,rfl,⟨h3,?_⟩,rfl⟩)))⟩;rintro rfl
 cases ns with
 |nil=>exact hn rfl
 |cons n ns=>exact h2.elim
theorem mY.alone {pl:List PV} {m:Nat} {eu:List Tk} {x:Ex} (h:mY pl [m] eu x):∃f,Tr pl f m x:=by
 obtain ⟨n0,ns,x0,rs,g,e,h1,h2,rfl,_,rfl⟩:=h;simp only [List.cons.injEq] at e;obtain ⟨rfl,rfl⟩:=e
 cases rs with
 |nil=>exact ⟨g,h1⟩
 |cons r rs=>exact h2.elim
