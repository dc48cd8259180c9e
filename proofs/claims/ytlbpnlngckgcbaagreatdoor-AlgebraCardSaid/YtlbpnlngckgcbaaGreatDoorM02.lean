import Derived.Test.YtlbpnlngckgcbaaGreatDoorM01
import Derived.Deep.AppendLies
import Derived.Laws.ResultCell
import Derived.Laws.Rows
set_option linter.all false
set_option maxHeartbeats 4000000
set_option maxRecDepth 100000
namespace Go.Proofs.YtlbpnlngckgcbaaGreatDoor
open Go.RowKit Go.PlainAid
structure Gr where
 ty:Qx
 tp:Nat
 reach:Nat
 rel:Qx
 rp:Nat
structure Nd where
 kind:Nat
 place:Nat
 n1:Qx
 p1:Nat
 n2:Qx
 p2:Nat
 gs:List Gr
structure Ex where
 nd:Nd
 l:Option Ex
 r:Option Ex
structure Rl where
 name:Qx
 place:Nat
 body:Ex
structure Ty where
 name:Qx
 place:Nat
 rels:List Rl
abbrev eX (α:Type):=Except (Nat×Nat) (α×Nat)
def em:Qx:=⟨#[]⟩
def sg (c:UInt8):Qx:=⟨#[c]⟩
def jg:Qx:=⟨#[116,121,112,101]⟩
section
variable (T:Nat→Qx) (P:Nat→Nat)
def bW (i:Nat):eX Unit:=if lI (T i) then (if 8<(T i).size then .error (3,i) else .ok ((),i+1)) else .error (2,i)
def bi (x:Qx) (i:Nat):eX Unit:=match bW T i with
 | .error e=> .error e
 | .ok (_,j)=>if eqs (T j) x then .ok ((),j+1) else .error (2,j)
def lJ (i:Nat):eX Gr:=match bW T i with
 | .error e=> .error e
 | .ok (_,j)=>if eqs (T j) (sg 42) then .ok (⟨T i,P i,1,em,0⟩,j+1)
  else if eqs (T j) (sg 35) then (match bW T (j+1) with
   | .error e=> .error e
   | .ok (_,m)=> .ok (⟨T i,P i,2,T (j+1),P (j+1)⟩,m))
  else .ok (⟨T i,P i,0,em,0⟩,j)
def iE:Nat→List Gr→Nat→eX (List Gr)
 |0,_,i=> .error (0,i)
 |f+1,acc,i=>match lJ T P (i+1) with
  | .error e=> .error e
  | .ok (g,j)=>if eqs (T j) (sg 44) then iE f (acc++[g]) j
   else if eqs (T j) (sg 93) then .ok (acc++[g],j+1) else .error (2,j)
def I7 (i:Nat) (gs:List Gr):Ex:=⟨⟨0,P i,em,0,em,0,gs⟩,none,none⟩
def rV (i:Nat):eX Ex:=match iE T P 512 [] i with
 | .error e=> .error e
 | .ok (gs,j)=> .ok (I7 P i gs,j)
def lK (i:Nat):eX Ex:=match bW T i with
 | .error e=> .error e
 | .ok (_,j)=>if eqs (T j) (sg 46) then (match bW T (j+1) with
   | .error e=> .error e
   | .ok (_,m)=> .ok (⟨⟨2,P i,T i,P i,T (j+1),P (j+1),[]⟩,none,none⟩,m))
  else .ok (⟨⟨1,P i,T i,P i,em,0,[]⟩,none,none⟩,j)
def mR (room:Bool) (inner:Nat→eX Ex) (i:Nat):eX Ex:=
 if eqs (T i) (sg 91) then rV T P i
 else if eqs (T i) (sg 40) then
  (if room then (match inner (i+1) with
   | .error e=> .error e
   | .ok (x,j)=>if eqs (T j) (sg 41) then .ok (x,j+1) else .error (2,j))
  else .error (3,i))
 else lK T P i
def kindOf (t:Qx):Nat:=if eqs t (sg 124) then 3 else if eqs t (sg 38) then 4 else 5
def pX (t:Qx) (p:Nat) (x y:Ex):Ex:=⟨⟨kindOf t,p,em,0,em,0,[]⟩,some x,some y⟩
def joinL (signs:List Qx) (part:Nat→eX Ex):Nat→Ex→Nat→eX Ex
 |0,_,i=> .error (0,i)
 |f+1,x,i=>if gp (T i) signs then (match part (i+1) with
   | .error e=> .error e
   | .ok (y,j)=>joinL signs part f (pX (T i) (P i) x y) j)
  else .ok (x,i)
def gP (signs:List Qx) (part:Nat→eX Ex) (i:Nat):eX Ex:=match part i with
 | .error e=> .error e
 | .ok (x,j)=>joinL T P signs part 512 x j
def yE (room:Bool) (inner:Nat→eX Ex) (i:Nat):eX Ex:=gP T P [sg 38,sg 45] (mR T P room inner) i
def mU:Nat→Nat→eX Ex
 |0,i=>gP T P [sg 124] (yE T P false (fun _=> .error (0,0))) i
 |n+1,i=>gP T P [sg 124] (yE T P true (mU n)) i
def tV (i:Nat):eX Rl:=match bi T (sg 58) i with
 | .error e=> .error e
 | .ok (_,j)=>match mU T P 4 j with
  | .error e=> .error e
  | .ok (x,m)=>if eqs (T m) (sg 59) then .ok (⟨T i,P i,x⟩,m+1) else .error (2,m)
def jM:Nat→List Rl→Nat→eX (List Rl)
 |0,_,i=> .error (0,i)
 |f+1,acc,i=>if eqs (T i) (sg 125) then .ok (acc,i+1)
  else if lI (T i)&&acc.length==6 then .error (3,i)
  else match tV T P i with
   | .error e=> .error e
   | .ok (r,j)=>jM f (acc++[r]) j
def mV (i:Nat):eX Ty:=if eqs (T i) jg then (match bi T (sg 123) (i+1) with
  | .error e=> .error e
  | .ok (_,j)=>match jM T P 512 [] j with
   | .error e=> .error e
   | .ok (rs,m)=> .ok (⟨T (i+1),P (i+1),rs⟩,m))
 else .error (2,i)
def jT:Nat→List Ty→Nat→eX (List Ty)
 |0,_,i=> .error (0,i)
 |f+1,acc,i=>if eqs (T i) em then .ok (acc,i)
  else if eqs (T i) jg&&acc.length==5 then .error (3,i)
  else match mV T P i with
   | .error e=> .error e
   | .ok (t,j)=>jT f (acc++[t]) j
def lL:eX (List Ty):=jT T P 512 [] 0
end
def K (s:Qx):Nat→Nat
 |0=>0
 |i+1=>next s (K s i)
def TT (s:Qx) (i:Nat):Qx:=aO s (K s i)
def PP (s:Qx) (i:Nat):Nat:=aR s (K s i)
structure At (w:World) (b:Nat) (s:Qx) (i d:Nat):Prop where
 pos:mM w b s (K s i) d
 good:i≤K s i
theorem At.le {w:World} {b:Nat} {s:Qx} {i d:Nat} (h:At w b s i d):i≤s.size:=Nat.le_trans h.good h.pos.le
theorem At.below {w w':World} {b:Nat} {s:Qx} {i d:Nat} (h:At w b s i d) (k:Below w.heap.size w w'):At w' b s i d:=⟨h.pos.below k,h.good⟩
theorem At.alloc {w:World} {b:Nat} {s:Qx} {i d:Nat} (h:At w b s i d) (o:Obj):At (w.alloc o) b s i d:=⟨h.pos.alloc o,h.good⟩
theorem At.drew {w:World} {b:Nat} {s:Qx} {i d:Nat} (h:At w b s i d):At w.drew b s i d:=⟨h.pos.drew,h.good⟩
theorem At.setNew {w:World} {b:Nat} {s:Qx} {i d:Nat} (h:At w b s i d) {a:Addr} (ha:a.block≠b) (u:Value):At (w.setCell a u) b s i d:=⟨h.pos.setNew ha u,h.good⟩
theorem At.lt {w:World} {b:Nat} {s:Qx} {i d:Nat} (h:At w b s i d):b<w.heap.size:=h.pos.rd.lt
theorem At.grown {w w':World} {b:Nat} {s:Qx} {i d:Nat} {row:Option Nat} (h:At w b s i d) (k:w.grownBy w' row) (hb:some b≠row):At w' b s i d:=⟨⟨h.pos.rd.of_block (k.block b h.lt hb),h.pos.le⟩,h.good⟩
theorem Gm (l:List UInt8) (k:Nat):k≤skip l k:=by unfold skip;omega
theorem Bi {s:Qx} {i:Nat} (h:i≤K s i) (ht:0<(TT s i).size):i+1≤K s (i+1):=by
 show i+1≤aR s (K s i)+(aO s (K s i)).size
 have:=Gm (dx s) (K s i);unfold TT at ht;unfold aR;omega
theorem At.next {w:World} {b:Nat} {s:Qx} {i d:Nat} (h:mM w b s (next s (K s i)) d) (hg:i≤K s i) (ht:0<(TT s i).size):At w b s (i+1) d:=⟨h,Bi hg ht⟩
theorem D9 {t:Qx} (h:lI t=true):0<t.size:=by
 rw [←aL];unfold lI at h;generalize dx t=l at*
 cases l with
 |nil=>simp at h
 |cons c r=>simp
theorem eB {t x:Qx} (h:eqs t x=true) (hx:0<(dx x).length):0<t.size:=by
 rw [←aL];unfold eqs at h;rw [beq_iff_eq] at h;rw [h];exact hx
def I8 (v:Value):Prop:=v=.nilIface∨∃t x,v=.iface t x
def Post {α:Type} (b:Nat) (s:Qx) (d:Nat) (w:World) (r:eX α) (rep:World→α→Value→Prop) (bad:Value→Prop) (e:Ending) (w':World):Prop:=
 But b w w'∧match r with
  | .ok (x,j)=>∃v,e=.returned (.tuple #[v,.nilIface])∧rep w' x v∧At w' b s j d
  | .error (c,j)=>∃v d',e=.returned (.tuple #[v,aJ c])∧bad v∧At w' b s j d'
theorem aX (b:Nat) (s:Qx) (i d:Nat) (w:World) (hs:s.size≤maxLen) (h:At w b s i d):
  Calls Tryz.prog 221 #[.pointer (some ⟨b,0,none⟩)] w (Post b s d w (bW (TT s) i) (fun _ _ v=>v=o6 s (K s i)) (fun v=>v=yh)):=by
 unfold bW
 cases hn:lI (TT s i)
 ·refine (Bg b s (K s i) d w hs h.pos hn).mono ?_;rintro e w' ⟨rfl,h1,h2⟩;exact ⟨But.of_below h2,yh,d,rfl,rfl,h1,h.good⟩
 ·by_cases hl:8<(TT s i).size
  ·simp only [hl,if_true];refine (Bh b s (K s i) d w hs h.pos hn hl).mono ?_;rintro e w' ⟨rfl,h1,h2⟩;exact ⟨But.of_below h2,yh,d,rfl,rfl,h1,h.good⟩
  ·simp only [hl,if_true,if_false];refine (Gl b s (K s i) d w hs h.pos hn (by unfold TT at hl;omega)).mono ?_;rintro e w' ⟨rfl,h1,h2⟩;exact ⟨h2,_,rfl,rfl,At.next h1 h.good (D9 hn)⟩
def Gn (v:Value):Prop:=∃(p:Nat) (t:Qx),v=.agg #[.int .i64 p,.string t]
theorem ag.two {w:World} {g:Nat} {x y:Value} {T:TypeId} (h:ag w g #[x,y] T):w.cell? ⟨g,0,none⟩=some x∧w.cell? ⟨g,1,none⟩=some y:=⟨h.cell rfl,h.cell rfl⟩
theorem ag.three {w:World} {g:Nat} {x y z:Value} {T:TypeId} (h:ag w g #[x,y,z] T):w.cell? ⟨g,0,none⟩=some x∧w.cell? ⟨g,1,none⟩=some y∧w.cell? ⟨g,2,none⟩=some z:=⟨h.cell rfl,h.cell rfl,h.cell rfl⟩
theorem ag.five {w:World} {g:Nat} {x y z u v:Value} {T:TypeId} (h:ag w g #[x,y,z,u,v] T):w.cell? ⟨g,0,none⟩=some x∧w.cell? ⟨g,1,none⟩=some y∧w.cell? ⟨g,2,none⟩=some z∧w.cell? ⟨g,3,none⟩=some u∧w.cell? ⟨g,4,none⟩=some v:=⟨h.cell rfl,h.cell rfl,h.cell rfl,h.cell rfl,h.cell rfl⟩
theorem tX {P:Program} {fn:Func} {p u:Tmp} {ty:TypeId} (h:fn.results=#[.cell p ty,.tmp u]) (tmps:Array Value) (w:World) (g:Nat) (cs:Array Value) (t:TypeId) (e:Value) (d:TypeDesc)
  (hp:tmps.getD p undef=.pointer (some ⟨g,0,none⟩)) (hq:tmps.getD u undef=e) (hb:ag w g cs t)
  (hu:P.underlying ty=some d) (hd:(match d with| .struct _| .array _ _=>true|_=>false)=true) (hi:(P.info? ty).map (·.size)=some cs.size):
  (results fn tmps).run P w=.ok (.tuple #[.agg cs,e]) w:=by
 rw [results_cell_tmp h,hp,hq];simp [asAddr,run_loadVar_row w g t ty cs (0,0) d hb hu hd hi]
theorem fG (b:Nat) (s:Qx) (i d:Nat) (x:Qx) (w:World) (hs:s.size≤maxLen) (h:At w b s i d) (he:eqs (TT s i) x=true) (hx:0<(dx x).length):
  Calls Tryz.prog 169 #[.pointer (some ⟨b,0,none⟩),.string x] w fun e w'=>e=.returned .nilIface∧At w' b s (i+1) d∧But b w w':=by
 refine (D8 b s (K s i) d x w hs h.pos he).mono ?_;rintro e w' ⟨rfl,h1,h2⟩;exact ⟨rfl,At.next h1 h.good (eB he hx),h2⟩
theorem jU (b:Nat) (s:Qx) (i d:Nat) (x:Qx) (w:World) (h:At w b s i d) (he:eqs (TT s i) x=false):
  Calls Tryz.prog 169 #[.pointer (some ⟨b,0,none⟩),.string x] w fun e w'=>e=.returned (aJ 2)∧At w' b s i d∧But b w w':=by
 refine (Gj b s (K s i) d x w h.pos he).mono ?_;rintro e w' ⟨rfl,h1,h2⟩;exact ⟨rfl,⟨h1,h.good⟩,But.of_below h2⟩
theorem steps (b:Nat) (s:Qx) (i d:Nat) (w:World) (hs:s.size≤maxLen) (h:At w b s i d) (ht:0<(TT s i).size):
  Calls Tryz.prog 220 #[.pointer (some ⟨b,0,none⟩)] w fun e w'=>e=.returned (.tuple #[])∧At w' b s (i+1) d∧But b w w':=by
 refine (pW b s (K s i) d w hs h.pos).mono ?_;rintro e w' ⟨rfl,h1,h2⟩;exact ⟨rfl,At.next h1 h.good ht,h2⟩
theorem ats (b:Nat) (s:Qx) (i d g cap:Nat) (x:Qx) (w:World) (h:At w b s i d) (hc:w.cell? ⟨g,0,none⟩=some (.string x)):
  Calls Tryz.prog 113 #[.pointer (some ⟨b,0,none⟩),.slice (some ⟨g,0,none⟩) 1 cap] w fun e w'=>e=.returned (.bool (eqs (TT s i) x))∧w'=w:=
 OU b s (K s i) d g cap x w h.pos hc
theorem tY (b:Nat) (s:Qx) (i d:Nat) (x:Qx) (w:World) (hs:s.size≤maxLen) (h:At w b s i d) (c j:Nat) (hr:bW (TT s) i=.error (c,j)):
  Calls Tryz.prog 170 #[.pointer (some ⟨b,0,none⟩),.string x] w (Post b s d w (.error (c,j):eX Unit) (fun _ _ v=>v=o6 s (K s i)) Gn):=by
 have hlt:=h.lt;have C:=ae (aX b s i d (w.alloc (.cells #[.int .i64 0,.string ⟨#[]⟩] 107)) hs (h.alloc _));rw [hr] at C;clear hr;go_enter Tryz.func170,Tryz.ntmps170;go_wp2_with fail;refine (aa C).mono ?_;rintro e w1 ⟨b1,v,d',rfl,rfl,a1⟩;have A1:=ae a1;have B1:=ae (((But.refl b w).alloc _).trans b1);have R:=(ag.new w #[.int .i64 0,.string ⟨#[]⟩] 107).but b1 (by omega);obtain ⟨r0,r1⟩:=R.two;have z:=R.fz;have hsz:=R.lt;have HR:=ae R;clear a1 b1 C h hs R;unfold aJ yh;go_wp2;exact bodyPost_ret (v:=.tuple #[yh,aJ c]) (tX Tryz.results170 _ _ w.heap.size #[.int .i64 0,.string ⟨#[]⟩] 107 _ _ rfl rfl ((((aa HR).set 0 _).set 1 _).alloc _) Tryz.underlying107 rfl (by kernel_rfl)) rfl
  ⟨(((aa B1).setNew (by simp) _).setNew (by simp) _).alloc _,yh,d',rfl,⟨0,_,rfl⟩,(((aa A1).setNew (by simp;omega) _).setNew (by simp;omega) _).alloc _⟩
theorem tZ (b:Nat) (s:Qx) (i d:Nat) (x:Qx) (w:World) (hs:s.size≤maxLen) (h:At w b s i d) (j:Nat) (hr:bW (TT s) i=.ok ((),j)) (he:eqs (TT s j) x=true) (hx:0<(dx x).length):
  Calls Tryz.prog 170 #[.pointer (some ⟨b,0,none⟩),.string x] w (Post b s d w (.ok ((),j+1):eX Unit) (fun _ _ v=>v=o6 s (K s i)) Gn):=by
 have hlt:=h.lt;have Hs:=ae hs;have He:=ae he;have C:=ae (aX b s i d (w.alloc (.cells #[.int .i64 0,.string ⟨#[]⟩] 107)) hs (h.alloc _));rw [hr] at C;clear hr he;go_enter Tryz.func170,Tryz.ntmps170;go_wp2_with fail;refine (aa C).mono ?_;rintro e w1 ⟨b1,v,rfl,rfl,a1⟩;have A1:=ae a1;have B1:=ae (((But.refl b w).alloc _).trans b1);have R:=(ag.new w #[.int .i64 0,.string ⟨#[]⟩] 107).but b1 (by omega);have HR:=ae R;obtain ⟨r0,r1⟩:=R.two;have z:=R.fz;have hsz:=R.lt;have hne:¬(w1.heap.size=w.heap.size):=by omega
 have jV:¬(w.heap.size=w1.heap.size):=by omega
 clear a1 b1 C h hs R;unfold o6;go_wp2
 go_region_held3 (fun w'=>w'.cell? ⟨w1.heap.size,0,none⟩=some (.int .i64 (aR s (K s i)))∧w'.cell? ⟨w1.heap.size,1,none⟩=some (.string (aO s (K s i))))
  (go_keep) ((go_at_call 169;refine (fG b s j d x _ (aa Hs) ?_ (aa He) hx).mono ?_;(exact ((aa A1).alloc _).drew);rintro e w2 ⟨rfl,a2,b2⟩;have N2:=(ag.new w1 #[.int .i64 (aR s (K s i)),.string (aO s (K s i))] 107).drew.but b2 (by omega);obtain ⟨n0,n1⟩:=N2.two;have R2:=((aa HR).alloc (.cells #[.int .i64 (aR s (K s i)),.string (aO s (K s i))] 107)).drew.but b2 (by omega);obtain ⟨r0',r1'⟩:=R2.two;have z':=R2.fz;have cu:=ae R2;have A2:=ae a2;have B2:=ae b2;clear N2 R2 a2 b2))
 go_wp2;exact bodyPost_ret (v:=.tuple #[o6 s (K s i),.nilIface]) (tX Tryz.results170 _ _ w.heap.size #[.int .i64 (aR s (K s i)),.string (aO s (K s i))] 107 _ _ rfl rfl (((aa cu).set 0 _).set 1 _) Tryz.underlying107 rfl (by kernel_rfl)) rfl
  ⟨((((aa B1).alloc _).drew.trans (aa B2)).setNew (by simp) _).setNew (by simp) _,_,rfl,rfl,((aa A2).setNew (by simp;omega) _).setNew (by simp;omega) _⟩
theorem vL (b:Nat) (s:Qx) (i d:Nat) (x:Qx) (w:World) (hs:s.size≤maxLen) (h:At w b s i d) (j:Nat) (hr:bW (TT s) i=.ok ((),j)) (he:eqs (TT s j) x=false):
  Calls Tryz.prog 170 #[.pointer (some ⟨b,0,none⟩),.string x] w (Post b s d w (.error (2,j):eX Unit) (fun _ _ v=>v=o6 s (K s i)) Gn):=by
 have hlt:=h.lt;have Hs:=ae hs;have He:=ae he;have C:=ae (aX b s i d (w.alloc (.cells #[.int .i64 0,.string ⟨#[]⟩] 107)) hs (h.alloc _));rw [hr] at C;clear hr he;go_enter Tryz.func170,Tryz.ntmps170;go_wp2_with fail;refine (aa C).mono ?_;rintro e w1 ⟨b1,v,rfl,rfl,a1⟩;have A1:=ae a1;have B1:=ae (((But.refl b w).alloc _).trans b1);have R:=(ag.new w #[.int .i64 0,.string ⟨#[]⟩] 107).but b1 (by omega);have HR:=ae R;obtain ⟨r0,r1⟩:=R.two;have z:=R.fz;have hsz:=R.lt;have hne:¬(w1.heap.size=w.heap.size):=by omega
 have jV:¬(w.heap.size=w1.heap.size):=by omega
 clear a1 b1 C h hs R;unfold o6;go_wp2
 go_region_held3 (fun w'=>w'.cell? ⟨w1.heap.size,0,none⟩=some (.int .i64 (aR s (K s i)))∧w'.cell? ⟨w1.heap.size,1,none⟩=some (.string (aO s (K s i))))
  (go_keep) ((go_at_call 169;refine (jU b s j d x _ ?_ (aa He)).mono ?_;(exact ((aa A1).alloc _).drew);rintro e w2 ⟨rfl,a2,b2⟩;have N2:=(ag.new w1 #[.int .i64 (aR s (K s i)),.string (aO s (K s i))] 107).drew.but b2 (by omega);obtain ⟨n0,n1⟩:=N2.two;have R2:=((aa HR).alloc (.cells #[.int .i64 (aR s (K s i)),.string (aO s (K s i))] 107)).drew.but b2 (by omega);obtain ⟨r0',r1'⟩:=R2.two;have z':=R2.fz;have cu:=ae R2;have A2:=ae a2;have B2:=ae b2;clear N2 R2 a2 b2))
 go_wp2;exact bodyPost_ret (v:=.tuple #[o6 s (K s i),aJ 2]) (tX Tryz.results170 _ _ w.heap.size #[.int .i64 (aR s (K s i)),.string (aO s (K s i))] 107 _ _ rfl rfl (((aa cu).set 0 _).set 1 _) Tryz.underlying107 rfl (by kernel_rfl)) rfl
  ⟨((((aa B1).alloc _).drew.trans (aa B2)).setNew (by simp) _).setNew (by simp) _,_,d,rfl,⟨_,_,rfl⟩,((aa A2).setNew (by simp;omega) _).setNew (by simp;omega) _⟩
theorem dM (b:Nat) (s:Qx) (i d:Nat) (x:Qx) (w:World) (hs:s.size≤maxLen) (h:At w b s i d) (hx:0<(dx x).length):
  Calls Tryz.prog 170 #[.pointer (some ⟨b,0,none⟩),.string x] w (Post b s d w (bi (TT s) x i) (fun _ _ v=>v=o6 s (K s i)) Gn):=by
 unfold bi
 cases hr:bW (TT s) i with
 |error e=>exact tY b s i d x w hs h e.1 e.2 hr
 |ok y=>
  obtain ⟨⟨⟩,j⟩:=y
  cases he:eqs (TT s j) x
  ·simp only [he];exact vL b s i d x w hs h j hr he
  ·simp only [he];exact tZ b s i d x w hs h j hr he hx
def aI (g:Gr):Array Value:=#[.int .i64 g.tp,.string g.ty,.int .i64 g.reach,.int .i64 g.rp,.string g.rel]
def rW (g:Gr):Value:=.agg (aI g)
def Bj (v:Value):Prop:=∃g,v=rW g
theorem aG (W:World) (x:Value) (T n:Nat) (hn:n=W.heap.size):(W.alloc (.cells #[x] T)).cell? ⟨n,0,none⟩=some x:=by
 subst hn;exact (ag.new W #[x] T).cell rfl
theorem aH {P:Program} {fn:Func} {p u:Tmp} {ty:TypeId} (h:fn.results=#[.cell p ty,.tmp u]) (tmps:Array Value) (w:World) (g:Nat) (cs':Array Value) (t:TypeId) (e:Value) (d:TypeDesc)
  (hp:tmps.getD p undef=.pointer (some ⟨g,0,none⟩)) (hq:tmps.getD u undef=e) (hb:∃cs,ag w g cs t∧cs=cs')
  (hu:P.underlying ty=some d) (hd:(match d with| .struct _| .array _ _=>true|_=>false)=true) (hi:(P.info? ty).map (·.size)=some cs'.size):
  (results fn tmps).run P w=.ok (.tuple #[.agg cs',e]) w:=by
 obtain ⟨cs,hb,rfl⟩:=hb;exact tX h tmps w g cs t e d hp hq hb hu hd hi
theorem Bl (b:Nat) (s:Qx) (i d:Nat) (w:World) (hs:s.size≤maxLen) (h:At w b s i d) (c j:Nat) (hr:bW (TT s) i=.error (c,j)):
  Calls Tryz.prog 277 #[.pointer (some ⟨b,0,none⟩)] w (Post b s d w (.error (c,j):eX Gr) (fun _ g v=>v=rW g) Bj):=by
 have hlt:=h.lt;have C:=ae (aX b s i d _ hs ((h.alloc (.cells #[.int .i64 0,.string ⟨#[]⟩,.int .i64 0,.int .i64 0,.string ⟨#[]⟩] 207)).alloc (.cells #[.int .i64 0,.string ⟨#[]⟩,.int .i64 0,.int .i64 0,.string ⟨#[]⟩] 207)));rw [hr] at C;clear hr;go_enter Tryz.func277,Tryz.ntmps277;go_wp2_with fail;refine (aa C).mono ?_;rintro e w1 ⟨b1,v,d',rfl,rfl,a1⟩;have A1:=ae a1;have B1:=ae (((But.refl b w).alloc _).alloc _ |>.trans b1);have R:=((ag.new w #[.int .i64 0,.string ⟨#[]⟩,.int .i64 0,.int .i64 0,.string ⟨#[]⟩] 207).alloc _).but b1 (by omega);have G:=(ag.new (w.alloc (.cells #[.int .i64 0,.string ⟨#[]⟩,.int .i64 0,.int .i64 0,.string ⟨#[]⟩] 207)) #[.int .i64 0,.string ⟨#[]⟩,.int .i64 0,.int .i64 0,.string ⟨#[]⟩] 207).but b1 (by simp;omega);rw [show (w.alloc (.cells #[.int .i64 0,.string ⟨#[]⟩,.int .i64 0,.int .i64 0,.string ⟨#[]⟩] 207)).heap.size=w.heap.size+1 by simp] at G;have HR:=ae R;have HG:=ae G;obtain ⟨r0,r1,r2,r3,r4⟩:=R.five;obtain ⟨g0,g1,g2,g3,g4⟩:=G.five;have zr:=R.fz;have zg:=G.fz;have hsz:=G.lt;have hsz':w.heap.size<w1.heap.size:=by omega
 clear a1 b1 C h hs R G;unfold aJ yh;go_wp2;refine bodyPost_ret (v:=.tuple #[.agg #[.int .i64 0,.string ⟨#[]⟩,.int .i64 0,.int .i64 0,.string ⟨#[]⟩],aJ c]) (aH Tryz.results277 _ _ w.heap.size _ 207 _ _ rfl rfl ?hB Tryz.underlying207 rfl (by kernel_rfl)) rfl ?post
 case hB=>exact ⟨_,(by with_reducible repeat (first|exact aa HR|apply ag.alloc|apply ag.drew|apply ag.set|(apply ag.other;case ha=>exact (by first|omega|(simp;omega)|simp)))),by rfl⟩
 case post=>exact ⟨(by with_reducible repeat (first|exact aa B1|refine But.alloc ?_ _|refine But.drew ?_|(refine But.setNew ?_ ?_ _;rotate_left;exact (by first|omega|(simp;omega)|simp)))),_,d',rfl,⟨⟨⟨#[]⟩,0,0,⟨#[]⟩,0⟩,rfl⟩,(by with_reducible repeat (first|exact aa A1|refine At.alloc ?_ _|refine At.drew ?_|(refine At.setNew ?_ ?_ _;rotate_left;exact (by first|omega|(simp;omega)|simp))))⟩
theorem vM (b:Nat) (s:Qx) (i d:Nat) (w:World) (hs:s.size≤maxLen) (h:At w b s i d) (j:Nat) (hr:bW (TT s) i=.ok ((),j)) (h1:eqs (TT s j) (sg 42)=false) (h2:eqs (TT s j) (sg 35)=false):
  Calls Tryz.prog 277 #[.pointer (some ⟨b,0,none⟩)] w (Post b s d w (.ok (⟨TT s i,PP s i,0,em,0⟩,j):eX Gr) (fun _ g v=>v=rW g) Bj):=by
 have hlt:=h.lt;have Hs:=ae hs;have C:=ae (aX b s i d _ hs ((h.alloc (.cells #[.int .i64 0,.string ⟨#[]⟩,.int .i64 0,.int .i64 0,.string ⟨#[]⟩] 207)).alloc (.cells #[.int .i64 0,.string ⟨#[]⟩,.int .i64 0,.int .i64 0,.string ⟨#[]⟩] 207)));rw [hr] at C;clear hr;go_enter Tryz.func277,Tryz.ntmps277;go_wp2_with fail;refine (aa C).mono ?_;rintro e w1 ⟨b1,v,rfl,rfl,a1⟩;have A1:=ae a1;have B1:=ae (((But.refl b w).alloc _).alloc _ |>.trans b1);have R:=((ag.new w #[.int .i64 0,.string ⟨#[]⟩,.int .i64 0,.int .i64 0,.string ⟨#[]⟩] 207).alloc _).but b1 (by omega);have G:=(ag.new (w.alloc (.cells #[.int .i64 0,.string ⟨#[]⟩,.int .i64 0,.int .i64 0,.string ⟨#[]⟩] 207)) #[.int .i64 0,.string ⟨#[]⟩,.int .i64 0,.int .i64 0,.string ⟨#[]⟩] 207).but b1 (by simp;omega);rw [show (w.alloc (.cells #[.int .i64 0,.string ⟨#[]⟩,.int .i64 0,.int .i64 0,.string ⟨#[]⟩] 207)).heap.size=w.heap.size+1 by simp] at G;have HR:=ae R;have HG:=ae G;obtain ⟨r0,r1,r2,r3,r4⟩:=R.five;obtain ⟨g0,g1,g2,g3,g4⟩:=G.five;have zr:=R.fz;have zg:=G.fz;have hsz:=G.lt;have hsz':w.heap.size<w1.heap.size:=by omega
 have hne:¬(w1.heap.size=w.heap.size):=by omega
 have jV:¬(w1.heap.size=w.heap.size+1):=by omega
 clear a1 b1 C h hs R G;unfold o6;go_wp2_with fail;refine (ats b s j d _ _ (sg 42) _ ?_ ?_).mono ?_
 ·exact (by with_reducible repeat (first|exact aa A1|refine At.alloc ?_ _|refine At.drew ?_|(refine At.setNew ?_ ?_ _;rotate_left;exact (by first|omega|(simp;omega)|simp))))
 ·exact aG _ _ _ _ (by simp)
 rintro e w2 ⟨rfl,rfl⟩;rw [h1];go_wp2_with fail;refine (ats b s j d _ _ (sg 35) _ ?_ ?_).mono ?_
 ·exact (by with_reducible repeat (first|exact aa A1|refine At.alloc ?_ _|refine At.drew ?_|(refine At.setNew ?_ ?_ _;rotate_left;exact (by first|omega|(simp;omega)|simp))))
 ·exact aG _ _ _ _ (by simp)
 rintro e w2 ⟨rfl,rfl⟩;rw [h2];go_wp2;refine bodyPost_ret (v:=.tuple #[rW ⟨TT s i,PP s i,0,em,0⟩,.nilIface]) (aH Tryz.results277 _ _ w.heap.size _ 207 _ _ rfl rfl ?hB Tryz.underlying207 rfl (by kernel_rfl)) rfl ?post
 case hB=>exact ⟨_,(by with_reducible repeat (first|exact aa HR|apply ag.alloc|apply ag.drew|apply ag.set|(apply ag.other;case ha=>exact (by first|omega|(simp;omega)|simp)))),by rfl⟩
 case post=>exact ⟨(by with_reducible repeat (first|exact aa B1|refine But.alloc ?_ _|refine But.drew ?_|(refine But.setNew ?_ ?_ _;rotate_left;exact (by first|omega|(simp;omega)|simp)))),_,rfl,rfl,(by with_reducible repeat (first|exact aa A1|refine At.alloc ?_ _|refine At.drew ?_|(refine At.setNew ?_ ?_ _;rotate_left;exact (by first|omega|(simp;omega)|simp))))⟩
theorem Bo (b:Nat) (s:Qx) (i d:Nat) (w:World) (hs:s.size≤maxLen) (h:At w b s i d) (j:Nat) (hr:bW (TT s) i=.ok ((),j)) (h1:eqs (TT s j) (sg 42)=true):
  Calls Tryz.prog 277 #[.pointer (some ⟨b,0,none⟩)] w (Post b s d w (.ok (⟨TT s i,PP s i,1,em,0⟩,j+1):eX Gr) (fun _ g v=>v=rW g) Bj):=by
 have hlt:=h.lt;have Hs:=ae hs;have C:=ae (aX b s i d _ hs ((h.alloc (.cells #[.int .i64 0,.string ⟨#[]⟩,.int .i64 0,.int .i64 0,.string ⟨#[]⟩] 207)).alloc (.cells #[.int .i64 0,.string ⟨#[]⟩,.int .i64 0,.int .i64 0,.string ⟨#[]⟩] 207)));rw [hr] at C;clear hr;go_enter Tryz.func277,Tryz.ntmps277;go_wp2_with fail;refine (aa C).mono ?_;rintro e w1 ⟨b1,v,rfl,rfl,a1⟩;have A1:=ae a1;have B1:=ae (((But.refl b w).alloc _).alloc _ |>.trans b1);have R:=((ag.new w #[.int .i64 0,.string ⟨#[]⟩,.int .i64 0,.int .i64 0,.string ⟨#[]⟩] 207).alloc _).but b1 (by omega);have G:=(ag.new (w.alloc (.cells #[.int .i64 0,.string ⟨#[]⟩,.int .i64 0,.int .i64 0,.string ⟨#[]⟩] 207)) #[.int .i64 0,.string ⟨#[]⟩,.int .i64 0,.int .i64 0,.string ⟨#[]⟩] 207).but b1 (by simp;omega);rw [show (w.alloc (.cells #[.int .i64 0,.string ⟨#[]⟩,.int .i64 0,.int .i64 0,.string ⟨#[]⟩] 207)).heap.size=w.heap.size+1 by simp] at G;have HR:=ae R;have HG:=ae G;obtain ⟨r0,r1,r2,r3,r4⟩:=R.five;obtain ⟨g0,g1,g2,g3,g4⟩:=G.five;have zr:=R.fz;have zg:=G.fz;have hsz:=G.lt;have hsz':w.heap.size<w1.heap.size:=by omega
 have hne:¬(w1.heap.size=w.heap.size):=by omega
 have jV:¬(w1.heap.size=w.heap.size+1):=by omega
 clear a1 b1 C h hs R G;unfold o6;have H1:=ae h1;go_wp2_with fail;refine (ats b s j d _ _ (sg 42) _ ?_ ?_).mono ?_
 ·exact (by with_reducible repeat (first|exact aa A1|refine At.alloc ?_ _|refine At.drew ?_|(refine At.setNew ?_ ?_ _;rotate_left;exact (by first|omega|(simp;omega)|simp))))
 ·exact aG _ _ _ _ (by simp)
 rintro e w2 ⟨rfl,rfl⟩;rw [h1];go_wp2_with fail;refine (steps b s j d _ (aa Hs) ?_ ?_).mono ?_
 ·exact (by with_reducible repeat (first|exact aa A1|refine At.alloc ?_ _|refine At.drew ?_|(refine At.setNew ?_ ?_ _;rotate_left;exact (by first|omega|(simp;omega)|simp))))
 ·exact eB (aa H1) (by decide)
 rintro e w2 ⟨rfl,a2,b2⟩;have cu:=ae (ag.but (g:=w.heap.size) (T:=207) (by with_reducible repeat (first|exact aa HR|apply ag.alloc|apply ag.drew|apply ag.set|(apply ag.other;case ha=>exact (by first|omega|(simp;omega)|simp)))) b2 (by omega));have vN:=ag.but (g:=w.heap.size+1) (T:=207) (by with_reducible repeat (first|exact aa HG|apply ag.alloc|apply ag.drew|apply ag.set|(apply ag.other;case ha=>exact (by first|omega|(simp;omega)|simp)))) b2 (by omega);have G2:ag w2 (w.heap.size+1) #[.int .i64 (aR s (K s i)),.string (aO s (K s i)),.int .i64 1,.int .i64 0,.string ⟨#[]⟩] 207:=vN;have R2:ag w2 w.heap.size #[.int .i64 0,.string ⟨#[]⟩,.int .i64 0,.int .i64 0,.string ⟨#[]⟩] 207:=aa cu;obtain ⟨p0,p1,p2,p3,p4⟩:=R2.five;obtain ⟨q0,q1,q2,q3,q4⟩:=G2.five;have zp:=R2.fz;have zq:=G2.fz;have tz:=G2.lt;have JS:w.heap.size<w2.heap.size:=by omega
 have HG2:=ae G2;have A2:=ae a2;have B2:=ae (But.trans (x:=w) (by with_reducible repeat (first|exact aa B1|refine But.alloc ?_ _|refine But.drew ?_|(refine But.setNew ?_ ?_ _;rotate_left;exact (by first|omega|(simp;omega)|simp)))) b2);clear a2 b2 R2 G2 vN r0 r1 r2 r3 r4 g0 g1 g2 g3 g4 zr zg hsz hsz' hne jV;go_wp2;refine bodyPost_ret (v:=.tuple #[rW ⟨TT s i,PP s i,1,em,0⟩,.nilIface]) (aH Tryz.results277 _ _ w.heap.size _ 207 _ _ rfl rfl ?hB Tryz.underlying207 rfl (by kernel_rfl)) rfl ?post
 case hB=>exact ⟨_,(by with_reducible repeat (first|exact aa cu|apply ag.alloc|apply ag.drew|apply ag.set|(apply ag.other;case ha=>exact (by first|omega|(simp;omega)|simp)))),by rfl⟩
 case post=>exact ⟨(by with_reducible repeat (first|exact aa B2|refine But.alloc ?_ _|refine But.drew ?_|(refine But.setNew ?_ ?_ _;rotate_left;exact (by first|omega|(simp;omega)|simp)))),_,rfl,rfl,(by with_reducible repeat (first|exact aa A2|refine At.alloc ?_ _|refine At.drew ?_|(refine At.setNew ?_ ?_ _;rotate_left;exact (by first|omega|(simp;omega)|simp))))⟩
theorem Bp (b:Nat) (s:Qx) (i d:Nat) (w:World) (hs:s.size≤maxLen) (h:At w b s i d) (j m:Nat) (hr:bW (TT s) i=.ok ((),j)) (h1:eqs (TT s j) (sg 42)=false) (h2:eqs (TT s j) (sg 35)=true) (Hm:Hid (bW (TT s) (j+1)=.ok ((),m))):
  Calls Tryz.prog 277 #[.pointer (some ⟨b,0,none⟩)] w (Post b s d w (.ok (⟨TT s i,PP s i,2,TT s (j+1),PP s (j+1)⟩,m):eX Gr) (fun _ g v=>v=rW g) Bj):=by
 have hlt:=h.lt;have Hs:=ae hs;have C:=ae (aX b s i d _ hs ((h.alloc (.cells #[.int .i64 0,.string ⟨#[]⟩,.int .i64 0,.int .i64 0,.string ⟨#[]⟩] 207)).alloc (.cells #[.int .i64 0,.string ⟨#[]⟩,.int .i64 0,.int .i64 0,.string ⟨#[]⟩] 207)));rw [hr] at C;clear hr;go_enter Tryz.func277,Tryz.ntmps277;go_wp2_with fail;refine (aa C).mono ?_;rintro e w1 ⟨b1,v,rfl,rfl,a1⟩;have A1:=ae a1;have B1:=ae (((But.refl b w).alloc _).alloc _ |>.trans b1);have R:=((ag.new w #[.int .i64 0,.string ⟨#[]⟩,.int .i64 0,.int .i64 0,.string ⟨#[]⟩] 207).alloc _).but b1 (by omega);have G:=(ag.new (w.alloc (.cells #[.int .i64 0,.string ⟨#[]⟩,.int .i64 0,.int .i64 0,.string ⟨#[]⟩] 207)) #[.int .i64 0,.string ⟨#[]⟩,.int .i64 0,.int .i64 0,.string ⟨#[]⟩] 207).but b1 (by simp;omega);rw [show (w.alloc (.cells #[.int .i64 0,.string ⟨#[]⟩,.int .i64 0,.int .i64 0,.string ⟨#[]⟩] 207)).heap.size=w.heap.size+1 by simp] at G;have HR:=ae R;have HG:=ae G;obtain ⟨r0,r1,r2,r3,r4⟩:=R.five;obtain ⟨g0,g1,g2,g3,g4⟩:=G.five;have zr:=R.fz;have zg:=G.fz;have hsz:=G.lt;have hsz':w.heap.size<w1.heap.size:=by omega
 have hne:¬(w1.heap.size=w.heap.size):=by omega
 have jV:¬(w1.heap.size=w.heap.size+1):=by omega
 clear a1 b1 C h hs R G;unfold o6;have H2:=ae h2;go_wp2_with fail;refine (ats b s j d _ _ (sg 42) _ ?_ ?_).mono ?_
 ·exact (by with_reducible repeat (first|exact aa A1|refine At.alloc ?_ _|refine At.drew ?_|(refine At.setNew ?_ ?_ _;rotate_left;exact (by first|omega|(simp;omega)|simp))))
 ·exact aG _ _ _ _ (by simp)
 rintro e w2 ⟨rfl,rfl⟩;rw [h1];go_wp2_with fail;refine (ats b s j d _ _ (sg 35) _ ?_ ?_).mono ?_
 ·exact (by with_reducible repeat (first|exact aa A1|refine At.alloc ?_ _|refine At.drew ?_|(refine At.setNew ?_ ?_ _;rotate_left;exact (by first|omega|(simp;omega)|simp))))
 ·exact aG _ _ _ _ (by simp)
 rintro e w2 ⟨rfl,rfl⟩;rw [h2];clear h1 h2;go_wp2_with fail;refine (steps b s j d _ (aa Hs) ?_ ?_).mono ?_
 ·exact (by with_reducible repeat (first|exact aa A1|refine At.alloc ?_ _|refine At.drew ?_|(refine At.setNew ?_ ?_ _;rotate_left;exact (by first|omega|(simp;omega)|simp))))
 ·exact eB (aa H2) (by decide)
 rintro e w2 ⟨rfl,a2,b2⟩;have cu:=ae (ag.but (g:=w.heap.size) (T:=207) (by with_reducible repeat (first|exact aa HR|apply ag.alloc|apply ag.drew|apply ag.set|(apply ag.other;case ha=>exact (by first|omega|(simp;omega)|simp)))) b2 (by omega));have vN:=ag.but (g:=w.heap.size+1) (T:=207) (by with_reducible repeat (first|exact aa HG|apply ag.alloc|apply ag.drew|apply ag.set|(apply ag.other;case ha=>exact (by first|omega|(simp;omega)|simp)))) b2 (by omega);have G2:ag w2 (w.heap.size+1) #[.int .i64 (aR s (K s i)),.string (aO s (K s i)),.int .i64 2,.int .i64 0,.string ⟨#[]⟩] 207:=vN;have R2:ag w2 w.heap.size #[.int .i64 0,.string ⟨#[]⟩,.int .i64 0,.int .i64 0,.string ⟨#[]⟩] 207:=aa cu;obtain ⟨p0,p1,p2,p3,p4⟩:=R2.five;obtain ⟨q0,q1,q2,q3,q4⟩:=G2.five;have zp:=R2.fz;have zq:=G2.fz;have tz:=G2.lt;have JS:w.heap.size<w2.heap.size:=by omega
 have HG2:=ae G2;have A2:=ae a2;have B2:=ae (But.trans (x:=w) (by with_reducible repeat (first|exact aa B1|refine But.alloc ?_ _|refine But.drew ?_|(refine But.setNew ?_ ?_ _;rotate_left;exact (by first|omega|(simp;omega)|simp)))) b2);clear a2 b2 R2 G2 vN r0 r1 r2 r3 r4 g0 g1 g2 g3 g4 zr zg hsz hsz' hne jV;go_wp2_with fail;have C:=ae (aX b s (j+1) d w2 (aa Hs) (aa A2));rw [aa Hm] at C;refine (aa C).mono ?_;rintro e w3 ⟨b3,v,rfl,rfl,a3⟩;have iq:=ae (ag.but (aa cu) b3 (by omega));have G3:=ag.but (aa HG2) b3 (by omega);have R3:ag w3 w.heap.size #[.int .i64 0,.string ⟨#[]⟩,.int .i64 0,.int .i64 0,.string ⟨#[]⟩] 207:=aa iq;obtain ⟨p0,p1,p2,p3,p4⟩:=R3.five;obtain ⟨q0,q1,q2,q3,q4⟩:=G3.five;have zp:=R3.fz;have zq:=G3.fz;have tz:=G3.lt;have JS:w.heap.size<w3.heap.size:=by omega
 have A3:=ae a3;have B3:=ae (But.trans (aa B2) b3);clear a3 b3 R3 G3;unfold o6;go_wp2;refine bodyPost_ret (v:=.tuple #[rW ⟨TT s i,PP s i,2,TT s (j+1),PP s (j+1)⟩,.nilIface]) (aH Tryz.results277 _ _ w.heap.size _ 207 _ _ rfl rfl ?hB Tryz.underlying207 rfl (by kernel_rfl)) rfl ?post
 case hB=>exact ⟨_,(by with_reducible repeat (first|exact aa iq|apply ag.alloc|apply ag.drew|apply ag.set|(apply ag.other;case ha=>exact (by first|omega|(simp;omega)|simp)))),by rfl⟩
 case post=>exact ⟨(by with_reducible repeat (first|exact aa B3|refine But.alloc ?_ _|refine But.drew ?_|(refine But.setNew ?_ ?_ _;rotate_left;exact (by first|omega|(simp;omega)|simp)))),_,rfl,rfl,(by with_reducible repeat (first|exact aa A3|refine At.alloc ?_ _|refine At.drew ?_|(refine At.setNew ?_ ?_ _;rotate_left;exact (by first|omega|(simp;omega)|simp))))⟩
theorem yF (b:Nat) (s:Qx) (i d:Nat) (w:World) (hs:s.size≤maxLen) (h:At w b s i d) (j c m:Nat) (hr:bW (TT s) i=.ok ((),j)) (h1:eqs (TT s j) (sg 42)=false) (h2:eqs (TT s j) (sg 35)=true) (Hm:Hid (bW (TT s) (j+1)=.error (c,m))):
  Calls Tryz.prog 277 #[.pointer (some ⟨b,0,none⟩)] w (Post b s d w (.error (c,m):eX Gr) (fun _ g v=>v=rW g) Bj):=by
 have hlt:=h.lt;have Hs:=ae hs;have C:=ae (aX b s i d _ hs ((h.alloc (.cells #[.int .i64 0,.string ⟨#[]⟩,.int .i64 0,.int .i64 0,.string ⟨#[]⟩] 207)).alloc (.cells #[.int .i64 0,.string ⟨#[]⟩,.int .i64 0,.int .i64 0,.string ⟨#[]⟩] 207)));rw [hr] at C;clear hr;go_enter Tryz.func277,Tryz.ntmps277;go_wp2_with fail;refine (aa C).mono ?_;rintro e w1 ⟨b1,v,rfl,rfl,a1⟩;have A1:=ae a1;have B1:=ae (((But.refl b w).alloc _).alloc _ |>.trans b1);have R:=((ag.new w #[.int .i64 0,.string ⟨#[]⟩,.int .i64 0,.int .i64 0,.string ⟨#[]⟩] 207).alloc _).but b1 (by omega);have G:=(ag.new (w.alloc (.cells #[.int .i64 0,.string ⟨#[]⟩,.int .i64 0,.int .i64 0,.string ⟨#[]⟩] 207)) #[.int .i64 0,.string ⟨#[]⟩,.int .i64 0,.int .i64 0,.string ⟨#[]⟩] 207).but b1 (by simp;omega);rw [show (w.alloc (.cells #[.int .i64 0,.string ⟨#[]⟩,.int .i64 0,.int .i64 0,.string ⟨#[]⟩] 207)).heap.size=w.heap.size+1 by simp] at G;have HR:=ae R;have HG:=ae G;obtain ⟨r0,r1,r2,r3,r4⟩:=R.five;obtain ⟨g0,g1,g2,g3,g4⟩:=G.five;have zr:=R.fz;have zg:=G.fz;have hsz:=G.lt;have hsz':w.heap.size<w1.heap.size:=by omega
 have hne:¬(w1.heap.size=w.heap.size):=by omega
 have jV:¬(w1.heap.size=w.heap.size+1):=by omega
 clear a1 b1 C h hs R G;unfold o6;have H2:=ae h2;go_wp2_with fail;refine (ats b s j d _ _ (sg 42) _ ?_ ?_).mono ?_
 ·exact (by with_reducible repeat (first|exact aa A1|refine At.alloc ?_ _|refine At.drew ?_|(refine At.setNew ?_ ?_ _;rotate_left;exact (by first|omega|(simp;omega)|simp))))
 ·exact aG _ _ _ _ (by simp)
 rintro e w2 ⟨rfl,rfl⟩;rw [h1];go_wp2_with fail;refine (ats b s j d _ _ (sg 35) _ ?_ ?_).mono ?_
 ·exact (by with_reducible repeat (first|exact aa A1|refine At.alloc ?_ _|refine At.drew ?_|(refine At.setNew ?_ ?_ _;rotate_left;exact (by first|omega|(simp;omega)|simp))))
 ·exact aG _ _ _ _ (by simp)
 rintro e w2 ⟨rfl,rfl⟩;rw [h2];clear h1 h2;go_wp2_with fail;refine (steps b s j d _ (aa Hs) ?_ ?_).mono ?_
 ·exact (by with_reducible repeat (first|exact aa A1|refine At.alloc ?_ _|refine At.drew ?_|(refine At.setNew ?_ ?_ _;rotate_left;exact (by first|omega|(simp;omega)|simp))))
 ·exact eB (aa H2) (by decide)
 rintro e w2 ⟨rfl,a2,b2⟩;have cu:=ae (ag.but (g:=w.heap.size) (T:=207) (by with_reducible repeat (first|exact aa HR|apply ag.alloc|apply ag.drew|apply ag.set|(apply ag.other;case ha=>exact (by first|omega|(simp;omega)|simp)))) b2 (by omega));have vN:=ag.but (g:=w.heap.size+1) (T:=207) (by with_reducible repeat (first|exact aa HG|apply ag.alloc|apply ag.drew|apply ag.set|(apply ag.other;case ha=>exact (by first|omega|(simp;omega)|simp)))) b2 (by omega);have G2:ag w2 (w.heap.size+1) #[.int .i64 (aR s (K s i)),.string (aO s (K s i)),.int .i64 2,.int .i64 0,.string ⟨#[]⟩] 207:=vN;have R2:ag w2 w.heap.size #[.int .i64 0,.string ⟨#[]⟩,.int .i64 0,.int .i64 0,.string ⟨#[]⟩] 207:=aa cu;obtain ⟨p0,p1,p2,p3,p4⟩:=R2.five;obtain ⟨q0,q1,q2,q3,q4⟩:=G2.five;have zp:=R2.fz;have zq:=G2.fz;have tz:=G2.lt;have JS:w.heap.size<w2.heap.size:=by omega
 have HG2:=ae G2;have A2:=ae a2;have B2:=ae (But.trans (x:=w) (by with_reducible repeat (first|exact aa B1|refine But.alloc ?_ _|refine But.drew ?_|(refine But.setNew ?_ ?_ _;rotate_left;exact (by first|omega|(simp;omega)|simp)))) b2);clear a2 b2 R2 G2 vN r0 r1 r2 r3 r4 g0 g1 g2 g3 g4 zr zg hsz hsz' hne jV;go_wp2_with fail;have C:=ae (aX b s (j+1) d w2 (aa Hs) (aa A2));rw [aa Hm] at C;refine (aa C).mono ?_;rintro e w3 ⟨b3,v,d',rfl,rfl,a3⟩;have iq:=ae (ag.but (aa cu) b3 (by omega));have G3:=ag.but (aa HG2) b3 (by omega);have R3:ag w3 w.heap.size #[.int .i64 0,.string ⟨#[]⟩,.int .i64 0,.int .i64 0,.string ⟨#[]⟩] 207:=aa iq;obtain ⟨p0,p1,p2,p3,p4⟩:=R3.five;obtain ⟨q0,q1,q2,q3,q4⟩:=G3.five;have zp:=R3.fz;have zq:=G3.fz;have tz:=G3.lt;have JS:w.heap.size<w3.heap.size:=by omega
 have A3:=ae a3;have B3:=ae (But.trans (aa B2) b3);clear a3 b3 R3 G3;unfold yh aJ;go_wp2;refine bodyPost_ret (v:=.tuple #[rW ⟨TT s i,PP s i,2,em,0⟩,aJ c]) (aH Tryz.results277 _ _ w.heap.size _ 207 _ _ rfl rfl ?hB Tryz.underlying207 rfl (by kernel_rfl)) rfl ?post
 case hB=>exact ⟨_,(by with_reducible repeat (first|exact aa iq|apply ag.alloc|apply ag.drew|apply ag.set|(apply ag.other;case ha=>exact (by first|omega|(simp;omega)|simp)))),by rfl⟩
 case post=>exact ⟨(by with_reducible repeat (first|exact aa B3|refine But.alloc ?_ _|refine But.drew ?_|(refine But.setNew ?_ ?_ _;rotate_left;exact (by first|omega|(simp;omega)|simp)))),_,d',rfl,⟨_,rfl⟩,(by with_reducible repeat (first|exact aa A3|refine At.alloc ?_ _|refine At.drew ?_|(refine At.setNew ?_ ?_ _;rotate_left;exact (by first|omega|(simp;omega)|simp))))⟩
theorem jA (b:Nat) (s:Qx) (i d:Nat) (w:World) (hs:s.size≤maxLen) (h:At w b s i d):
  Calls Tryz.prog 277 #[.pointer (some ⟨b,0,none⟩)] w (Post b s d w (lJ (TT s) (PP s) i) (fun _ g v=>v=rW g) Bj):=by
 unfold lJ
 cases hr:bW (TT s) i with
 |error e=>exact Bl b s i d w hs h e.1 e.2 hr
 |ok y=>
  obtain ⟨⟨⟩,j⟩:=y
  cases h1:eqs (TT s j) (sg 42)
  ·cases h2:eqs (TT s j) (sg 35)
   ·simp only [h1,h2];exact vM b s i d w hs h j hr h1 h2
   ·cases hm:bW (TT s) (j+1) with
    |error e=>simp only [h1,h2,hm];exact yF b s i d w hs h j e.1 e.2 hr h1 h2 (ae hm)
    |ok y=>
     obtain ⟨⟨⟩,m⟩:=y;simp only [h1,h2,hm];exact Bp b s i d w hs h j m hr h1 h2 (ae hm)
  ·simp only [h1];exact Bo b s i d w hs h j hr h1
