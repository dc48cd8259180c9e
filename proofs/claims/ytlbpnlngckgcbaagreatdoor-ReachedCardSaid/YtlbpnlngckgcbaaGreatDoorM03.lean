import Derived.Test.YtlbpnlngckgcbaaGreatDoorM02
import Derived.Deep.LoopGhost
set_option linter.all false
set_option maxHeartbeats 4000000
set_option maxRecDepth 100000
namespace Go.Proofs.YtlbpnlngckgcbaaGreatDoor
open Go.RowKit Go.PlainAid
theorem Ex.ind (Q:Ex→Prop) (h0:∀n r,Q ⟨n,none,r⟩) (h1:∀n a,Q ⟨n,some a,none⟩) (h2:∀n a b,Q a→Q b→Q ⟨n,some a,some b⟩):∀e,Q e
 |⟨n,none,r⟩=>h0 n r
 |⟨n,some a,none⟩=>h1 n a
 |⟨n,some a,some b⟩=>h2 n a b (Ex.ind Q h0 h1 h2 a) (Ex.ind Q h0 h1 h2 b)
def iJ (k:Nat):TypeId:=if k=3 then 244 else if k=4 then 245 else 246
def aO (l:List Gr):List Value:=l.flatMap fun g=>(aL g).toList
def Iz (b:Nat) (w:World) (n:Nd) (v:Value):Prop:=
 (n.kind=0∧∃sv,v=.iface 236 (.agg #[.int .i64 n.place,sv])∧w.ownsRow (b+1) 207 5 sv n.gs.length (aO n.gs))∨
 (n.kind=1∧v=.iface 238 (.agg #[.int .i64 n.place,.string n.n1]))∨
 (n.kind=2∧v=.iface 240 (.agg #[.int .i64 n.place,.int .i64 n.p1,.string n.n1,.int .i64 n.p2,.string n.n2]))
def ay (b:Nat) (w:World):Ex→Value→Prop
 |⟨n,some x,some y⟩,v=>∃vx vy,v=.iface (iJ n.kind) (.agg #[.int .i64 n.place,vx,vy])∧ay b w x vx∧ay b w y vy
 |⟨n,none,_⟩,v=>Iz b w n v
 |⟨_,some _,none⟩,_=>False
theorem ai {w w':World} {base:Nat} {e:TypeId} {size:Nat} {v:Value} {n:Nat} {xs:List Value} (h:w.ownsRow base e size v n xs)
  (k:∀g cs f,base≤g→w.heap[g]? =some (.cells cs e f)→w'.heap[g]? =w.heap[g]?):w'.ownsRow base e size v n xs:=by
 obtain ⟨h1,h2⟩:=h;refine ⟨h1,?_⟩
 rcases h2 with h2|⟨g,cap,cur,hv,hg,hh,r⟩
 ·exact Or.inl h2
 ·exact Or.inr ⟨g,cap,cur,hv,hg,(k g cur (0,0) hg hh).trans hh,r⟩
def iw (b:Nat) (w w':World):Prop:=∀g cs f,b+1≤g→w.heap[g]? =some (.cells cs 207 f)→w'.heap[g]? =w.heap[g]?
theorem lt_of_some {w:World} {g:Nat} {o:Obj} (h:w.heap[g]? =some o):g<w.heap.size:=by
 rcases Nat.lt_or_ge g w.heap.size with k|k
 ·exact k
 ·rw [Array.getElem?_eq_none k] at h;cases h
theorem iw.of_but {b:Nat} {w w':World} (h:But b w w'):iw b w w':=fun g cs f hg hh=>h.block g (lt_of_some hh) (by omega)
theorem ay.frame {b:Nat} {w w':World} (k:iw b w w'):∀e v,ay b w e v→ay b w' e v:=by
 intro e
 induction e using Ex.ind with
 |h0 n r=>
  intro v h
  rcases h with ⟨h1,sv,h2,h3⟩|h|h
  ·exact Or.inl ⟨h1,sv,h2,ai h3 k⟩
  ·exact Or.inr (Or.inl h)
  ·exact Or.inr (Or.inr h)
 |h1 n a=>intro v h;exact h
 |h2 n a c iha Kc=>
  rintro v ⟨vx,vy,h1,h2,h3⟩;exact ⟨vx,vy,h1,iha _ h2,Kc _ h3⟩
theorem ay.but {b:Nat} {w w':World} {e:Ex} {v:Value} (h:ay b w e v) (k:But b w w'):ay b w' e v:=ay.frame (iw.of_but k) e v h
theorem ay.isI {b:Nat} {w:World} {e:Ex} {v:Value} (h:ay b w e v):∃t x,v=.iface t x:=by
 match e,h with
 |⟨n,some x,some y⟩,⟨vx,vy,h1,_⟩=>exact ⟨_,_,h1⟩
 |⟨n,none,_⟩,h=>
  rcases h with ⟨h1,sv,h2,h3⟩|⟨_,h⟩|⟨_,h⟩
  ·exact ⟨_,_,h2⟩
  ·exact ⟨_,_,h⟩
  ·exact ⟨_,_,h⟩
abbrev cZ (b:Nat) (s:RJ) (d:Nat) (w:World) (r:fw Ex):Ending→World→Prop:=Post b s d w r (ay b) Kb
theorem IA (b:Nat) (s:RJ) (i d:Nat) (w:World) (hs:s.size≤maxLen) (h:At w b s i d) (c j:Nat) (hr:cB (TT s) i=.error (c,j)):
  Calls Tryz.prog 273 #[.pointer (some ⟨b,0,none⟩)] w (cZ b s d w (.error (c,j))):=by
 have hlt:=h.lt;have Hs:=ae hs;have C:=ae (bf b s i d w hs h);rw [hr] at C;clear hr;go_enter Tryz.func273,Tryz.ntmps273;go_wp2_with fail;refine (aa C).mono ?_;rintro e w1 ⟨b1,v,d',rfl,rfl,a1⟩;have A1:=ae a1;have B1:=ae b1;clear a1 b1 C h hs;unfold yR aM;go_wp2;go_ret2;exact ⟨(by with_reducible repeat (first|exact aa B1|refine But.alloc ?_ _|refine But.drew ?_|(refine But.setNew ?_ ?_ _;rotate_left;exact (by first|omega|(simp;omega)|simp)))),_,d',rfl,.inl rfl,(by with_reducible repeat (first|exact aa A1|refine At.alloc ?_ _|refine At.drew ?_|(refine At.setNew ?_ ?_ _;rotate_left;exact (by first|omega|(simp;omega)|simp))))⟩
theorem IB (b:Nat) (s:RJ) (i d:Nat) (w:World) (hs:s.size≤maxLen) (h:At w b s i d) (j:Nat) (hr:cB (TT s) i=.ok ((),j)) (h1:eqs (TT s j) (sg 46)=false):
  Calls Tryz.prog 273 #[.pointer (some ⟨b,0,none⟩)] w (cZ b s d w (.ok (⟨⟨1,PP s i,TT s i,PP s i,em,0,[]⟩,none,none⟩,j))):=by
 have hlt:=h.lt;have Hs:=ae hs;have C:=ae (bf b s i d w hs h);rw [hr] at C;clear hr;go_enter Tryz.func273,Tryz.ntmps273;go_wp2_with fail;refine (aa C).mono ?_;rintro e w1 ⟨b1,v,rfl,rfl,a1⟩;have A1:=ae a1;have B1:=ae b1;have hsz:b<w1.heap.size:=Nat.lt_of_lt_of_le hlt b1.size;clear a1 b1 C h hs;unfold pU;go_wp2_with fail;refine (ats b s j d _ _ (sg 46) _ ?_ ?_).mono ?_
 ·exact (by with_reducible repeat (first|exact aa A1|refine At.alloc ?_ _|refine At.drew ?_|(refine At.setNew ?_ ?_ _;rotate_left;exact (by first|omega|(simp;omega)|simp))))
 ·exact aI _ _ _ _ (by simp)
 rintro e w2 ⟨rfl,rfl⟩;rw [h1];go_wp2;go_ret2;exact ⟨(by with_reducible repeat (first|exact aa B1|refine But.alloc ?_ _|refine But.drew ?_|(refine But.setNew ?_ ?_ _;rotate_left;exact (by first|omega|(simp;omega)|simp)))),_,rfl,.inr (.inl ⟨rfl,rfl⟩),(by with_reducible repeat (first|exact aa A1|refine At.alloc ?_ _|refine At.drew ?_|(refine At.setNew ?_ ?_ _;rotate_left;exact (by first|omega|(simp;omega)|simp))))⟩
theorem IC (b:Nat) (s:RJ) (i d:Nat) (w:World) (hs:s.size≤maxLen) (h:At w b s i d) (j m:Nat) (hr:cB (TT s) i=.ok ((),j)) (h1:eqs (TT s j) (sg 46)=true) (Hm:Hid (cB (TT s) (j+1)=.ok ((),m))):
  Calls Tryz.prog 273 #[.pointer (some ⟨b,0,none⟩)] w (cZ b s d w (.ok (⟨⟨2,PP s i,TT s i,PP s i,TT s (j+1),PP s (j+1),[]⟩,none,none⟩,m))):=by
 have hlt:=h.lt;have Hs:=ae hs;have C:=ae (bf b s i d w hs h);rw [hr] at C;clear hr;go_enter Tryz.func273,Tryz.ntmps273;go_wp2_with fail;refine (aa C).mono ?_;have H1:=ae h1;rintro e w1 ⟨b1,v,rfl,rfl,a1⟩;have A1:=ae a1;have B1:=ae b1;have hsz:b<w1.heap.size:=Nat.lt_of_lt_of_le hlt b1.size;clear a1 b1 C h hs;unfold pU;go_wp2_with fail;refine (ats b s j d _ _ (sg 46) _ ?_ ?_).mono ?_
 ·exact (by with_reducible repeat (first|exact aa A1|refine At.alloc ?_ _|refine At.drew ?_|(refine At.setNew ?_ ?_ _;rotate_left;exact (by first|omega|(simp;omega)|simp))))
 ·exact aI _ _ _ _ (by simp)
 rintro e w2 ⟨rfl,rfl⟩;rw [h1];clear h1;go_wp2_with fail;refine (steps b s j d _ (aa Hs) ?_ ?_).mono ?_
 ·exact (by with_reducible repeat (first|exact aa A1|refine At.alloc ?_ _|refine At.drew ?_|(refine At.setNew ?_ ?_ _;rotate_left;exact (by first|omega|(simp;omega)|simp))))
 ·exact eQ (aa H1) (by decide)
 rintro e w2 ⟨rfl,a2,b2⟩;have N2:=ag.but (g:=w1.heap.size) (T:=107) (ag.alloc (ag.new w1 #[.int .i64 (aV s (K s i)),.string (aP s (K s i))] 107) _) b2 (by omega);have IE:=ae N2;have A2:=ae a2;have B2:=ae (But.trans (x:=w) (by with_reducible repeat (first|exact aa B1|refine But.alloc ?_ _|refine But.drew ?_|(refine But.setNew ?_ ?_ _;rotate_left;exact (by first|omega|(simp;omega)|simp)))) b2);clear a2 b2 N2;go_wp2_with fail;have C:=ae (bf b s (j+1) d w2 (aa Hs) (aa A2));rw [aa Hm] at C;refine (aa C).mono ?_;rintro e w3 ⟨b3,v,rfl,rfl,a3⟩;have N3:=ag.but (aa IE) b3 (by omega);obtain ⟨n0,n1⟩:=N3.two;have hn:=N3.lt;have A3:=ae a3;have B3:=ae (But.trans (aa B2) b3);clear a3 b3 N3;unfold pU;go_wp2;go_ret2;exact ⟨(by with_reducible repeat (first|exact aa B3|refine But.alloc ?_ _|refine But.drew ?_|(refine But.setNew ?_ ?_ _;rotate_left;exact (by first|omega|(simp;omega)|simp)))),_,rfl,.inr (.inr ⟨rfl,rfl⟩),(by with_reducible repeat (first|exact aa A3|refine At.alloc ?_ _|refine At.drew ?_|(refine At.setNew ?_ ?_ _;rotate_left;exact (by first|omega|(simp;omega)|simp))))⟩
theorem EU (b:Nat) (s:RJ) (i d:Nat) (w:World) (hs:s.size≤maxLen) (h:At w b s i d) (j c m:Nat) (hr:cB (TT s) i=.ok ((),j)) (h1:eqs (TT s j) (sg 46)=true) (Hm:Hid (cB (TT s) (j+1)=.error (c,m))):
  Calls Tryz.prog 273 #[.pointer (some ⟨b,0,none⟩)] w (cZ b s d w (.error (c,m))):=by
 have hlt:=h.lt;have Hs:=ae hs;have C:=ae (bf b s i d w hs h);rw [hr] at C;clear hr;go_enter Tryz.func273,Tryz.ntmps273;go_wp2_with fail;refine (aa C).mono ?_;have H1:=ae h1;rintro e w1 ⟨b1,v,rfl,rfl,a1⟩;have A1:=ae a1;have B1:=ae b1;have hsz:b<w1.heap.size:=Nat.lt_of_lt_of_le hlt b1.size;clear a1 b1 C h hs;unfold pU;go_wp2_with fail;refine (ats b s j d _ _ (sg 46) _ ?_ ?_).mono ?_
 ·exact (by with_reducible repeat (first|exact aa A1|refine At.alloc ?_ _|refine At.drew ?_|(refine At.setNew ?_ ?_ _;rotate_left;exact (by first|omega|(simp;omega)|simp))))
 ·exact aI _ _ _ _ (by simp)
 rintro e w2 ⟨rfl,rfl⟩;rw [h1];clear h1;go_wp2_with fail;refine (steps b s j d _ (aa Hs) ?_ ?_).mono ?_
 ·exact (by with_reducible repeat (first|exact aa A1|refine At.alloc ?_ _|refine At.drew ?_|(refine At.setNew ?_ ?_ _;rotate_left;exact (by first|omega|(simp;omega)|simp))))
 ·exact eQ (aa H1) (by decide)
 rintro e w2 ⟨rfl,a2,b2⟩;have N2:=ag.but (g:=w1.heap.size) (T:=107) (ag.alloc (ag.new w1 #[.int .i64 (aV s (K s i)),.string (aP s (K s i))] 107) _) b2 (by omega);have IE:=ae N2;have A2:=ae a2;have B2:=ae (But.trans (x:=w) (by with_reducible repeat (first|exact aa B1|refine But.alloc ?_ _|refine But.drew ?_|(refine But.setNew ?_ ?_ _;rotate_left;exact (by first|omega|(simp;omega)|simp)))) b2);clear a2 b2 N2;go_wp2_with fail;have C:=ae (bf b s (j+1) d w2 (aa Hs) (aa A2));rw [aa Hm] at C;refine (aa C).mono ?_;rintro e w3 ⟨b3,v,d',rfl,rfl,a3⟩;have N3:=ag.but (aa IE) b3 (by omega);obtain ⟨n0,n1⟩:=N3.two;have hn:=N3.lt;have A3:=ae a3;have B3:=ae (But.trans (aa B2) b3);clear a3 b3 N3;unfold yR aM;go_wp2;go_ret2;exact ⟨(by with_reducible repeat (first|exact aa B3|refine But.alloc ?_ _|refine But.drew ?_|(refine But.setNew ?_ ?_ _;rotate_left;exact (by first|omega|(simp;omega)|simp)))),_,d',rfl,.inr ⟨_,_,rfl⟩,(by with_reducible repeat (first|exact aa A3|refine At.alloc ?_ _|refine At.drew ?_|(refine At.setNew ?_ ?_ _;rotate_left;exact (by first|omega|(simp;omega)|simp))))⟩
theorem EW (b:Nat) (s:RJ) (i d:Nat) (w:World) (hs:s.size≤maxLen) (h:At w b s i d):
  Calls Tryz.prog 273 #[.pointer (some ⟨b,0,none⟩)] w (cZ b s d w (lU (TT s) (PP s) i)):=by
 unfold lU
 cases hr:cB (TT s) i with
 |error e=>exact IA b s i d w hs h e.1 e.2 hr
 |ok y=>
  obtain ⟨⟨⟩,j⟩:=y
  cases h1:eqs (TT s j) (sg 46)
  ·simp only [h1];exact IB b s i d w hs h j hr h1
  ·cases hm:cB (TT s) (j+1) with
   |error e=>simp only [h1,hm];exact EU b s i d w hs h j e.1 e.2 hr h1 (ae hm)
   |ok y=>
    obtain ⟨⟨⟩,m⟩:=y;simp only [h1,hm];exact IC b s i d w hs h j m hr h1 (ae hm)
theorem nA (p:Int) (t:RJ) (x y:Value) (hx:Kb x) (hy:Kb y) (w:World):
  Calls Tryz.prog 263 #[.agg #[.int .i64 p,.string t],x,y] w fun e w'=>e=.returned (.iface (iJ (kindOf t)) (.agg #[.int .i64 p,x,y]))∧Below w.heap.size w w':=by
 have hk:∀a b,(t.toList== [124])=a→(t.toList== [38])=b→kindOf t=if a then 3 else if b then 4 else 5:=by
  intro a b h1 h2;unfold kindOf eqs;rw [←aC,show cO (sg 124)=[124] from rfl,show cO (sg 38)=[38] from rfl,h1,h2]
 cases h1:(t.toList== [124])
 ·cases h2:(t.toList== [38])
  all_goals
   rw [hk _ _ h1 h2];clear hk
   rcases hx with rfl|⟨tx,vx,rfl⟩<;>rcases hy with rfl|⟨ty,vy,rfl⟩
   all_goals
    go_enter Tryz.func263,Tryz.ntmps263;go_wp2;go_ret;exact ⟨rfl,((Below.refl _ _).alloc RH _).alloc (by simp) _⟩
 ·rw [hk _ _ h1 rfl];clear hk
  rcases hx with rfl|⟨tx,vx,rfl⟩<;>rcases hy with rfl|⟨ty,vy,rfl⟩
  all_goals
   go_enter Tryz.func263,Tryz.ntmps263;go_wp2;go_ret;exact ⟨rfl,((Below.refl _ _).alloc RH _).alloc (by simp) _⟩
end Go.Proofs.YtlbpnlngckgcbaaGreatDoor
namespace Go.Proofs.YtlbpnlngckgcbaaGreatDoor
def jf {α:Type} (r:Nat→fw α):Prop:=∀i x j,r i=.ok (x,j)→i<j
theorem iA (T:Nat→ByteArray):jf (cB T):=by
 intro i x j h;unfold cB at h
 repeat' split at h
 all_goals simp at h
 omega
theorem ku (T:Nat→ByteArray) (y:ByteArray):jf (bB T y):=by
 intro i x j h;unfold bB at h
 split at h
 ·simp at h
 ·rename_i hm;have:=iA T _ _ _ hm
  split at h<;>simp at h
  omega
theorem iQ (T:Nat→ByteArray) (P:Nat→Nat):jf (lT T P):=by
 intro i x j h;unfold lT at h
 split at h
 ·simp at h
 ·rename_i hm;have:=iA T _ _ _ hm
  split at h
  ·simp at h;omega
  ·split at h
   ·split at h
    ·simp at h
    ·rename_i hk;have:=iA T _ _ _ hk;simp at h;omega
   ·simp at h;omega
theorem qB (T:Nat→ByteArray) (P:Nat→Nat):∀f acc,jf (iP T P f acc)
 |0,_=>fun i x j h=>by simp [iP] at h
 |f+1,acc=>fun i x j h=>by
  unfold iP at h
  split at h
  ·simp at h
  ·rename_i hm;have:=iQ T P _ _ _ hm
   split at h
   ·have:=qB T P f _ _ _ _ h;omega
   ·split at h<;>simp at h
    omega
theorem qC (T:Nat→ByteArray) (P:Nat→Nat):jf (sP T P):=by
 intro i x j h;unfold sP at h
 split at h
 ·simp at h
 ·rename_i hm;have:=qB T P _ _ _ _ _ hm;simp at h;omega
theorem oZ (T:Nat→ByteArray) (P:Nat→Nat):jf (lU T P):=by
 intro i x j h;unfold lU at h
 split at h
 ·simp at h
 ·rename_i hm;have:=iA T _ _ _ hm
  split at h
  ·split at h
   ·simp at h
   ·rename_i hk;have:=iA T _ _ _ hk;simp at h;omega
  ·simp at h;omega
theorem lY (T:Nat→ByteArray) (P:Nat→Nat) (room:Bool) (inner:Nat→fw Ex) (hi:jf inner):jf (nu T P room inner):=by
 intro i x j h;unfold nu at h
 split at h
 ·exact qC T P _ _ _ h
 ·split at h
  ·split at h
   ·split at h
    ·simp at h
    ·rename_i hm;have:=hi _ _ _ hm
     split at h<;>simp at h
     omega
   ·simp at h
  ·exact oZ T P _ _ _ h
theorem qD (T:Nat→ByteArray) (P:Nat→Nat) (l:List ByteArray) (part:Nat→fw Ex) (hp:jf part):∀f y i x j,joinL T P l part f y i=.ok (x,j)→i≤j
 |0,_,i,x,j=>fun h=>by simp [joinL] at h
 |f+1,y,i,x,j=>fun h=>by
  unfold joinL at h
  split at h
  ·split at h
   ·simp at h
   ·rename_i hm;have:=hp _ _ _ hm;have:=qD T P l part hp f _ _ _ _ h;omega
  ·simp at h;omega
theorem lZ (T:Nat→ByteArray) (P:Nat→Nat) (l:List ByteArray) (part:Nat→fw Ex) (hp:jf part):jf (iq T P l part):=by
 intro i x j h;unfold iq at h
 split at h
 ·simp at h
 ·rename_i hm;have:=hp _ _ _ hm;have:=qD T P l part hp _ _ _ _ _ h;omega
theorem iR (T:Nat→ByteArray) (P:Nat→Nat) (room:Bool) (inner:Nat→fw Ex) (hi:jf inner):jf (zh T P room inner):=
 lZ T P _ _ (lY T P room inner hi)
theorem jM (T:Nat→ByteArray) (P:Nat→Nat):∀n,jf (ny T P n)
 |0=>lZ T P _ _ (iR T P false _ (fun i x j h=>by simp at h))
 |n+1=>lZ T P _ _ (iR T P true _ (jM T P n))
theorem kQ (T:Nat→ByteArray) (P:Nat→Nat):jf (uD T P):=by
 intro i x j h;unfold uD at h
 split at h
 ·simp at h
 ·rename_i hm;have:=ku T _ _ _ _ hm
  split at h
  ·simp at h
  ·rename_i hk;have:=jM T P _ _ _ _ hk
   split at h<;>simp at h
   omega
theorem qE (T:Nat→ByteArray) (P:Nat→Nat):∀f acc,jf (jV T P f acc)
 |0,_=>fun i x j h=>by simp [jV] at h
 |f+1,acc=>fun i x j h=>by
  unfold jV at h
  split at h
  ·simp at h;omega
  ·split at h
   ·simp at h
   ·split at h
    ·simp at h
    ·rename_i hm;have:=kQ T P _ _ _ hm;have:=qE T P f _ _ _ _ h;omega
theorem l6 (T:Nat→ByteArray) (P:Nat→Nat):jf (nz T P):=by
 intro i x j h;unfold nz at h
 split at h
 ·split at h
  ·simp at h
  ·rename_i hm;have:=ku T _ _ _ _ hm
   split at h
   ·simp at h
   ·rename_i hk;have:=qE T P _ _ _ _ _ hk;simp at h;omega
 ·simp at h
end Go.Proofs.YtlbpnlngckgcbaaGreatDoor
namespace Go.Proofs.YtlbpnlngckgcbaaGreatDoor
open Go.RowKit Go.PlainAid
theorem sS {t:RJ} {l:List RJ} (h:gJ t l=true) (hl:∀x∈l,0<(cO x).length):0<t.size:=by
 unfold gJ at h;rw [List.any_eq_true] at h;obtain ⟨x,hx,he⟩:=h;exact eQ he (hl x hx)
theorem wI (b:Nat) (s:RJ) (i d:Nat) (w:World) (hs:s.size≤500) (h:At w b s i d) (g cap:Nat) (l:List RJ) (part:Nat→fw Ex) (hm:jf part)
  (hp:∀i w,At w b s i d→Calls Tryz.prog 264 #[.pointer (some ⟨b,0,none⟩)] w (cZ b s d w (part i)))
  (hl:l.length≤maxLen) (hpos:∀x∈l,0<(cO x).length) (hg:g≠b) (hgl:g<w.heap.size) (hc:∀i,i<l.length→w.cell? ⟨g,i,none⟩=some (.string (l.getD i ByteArray.empty))):
  Calls Tryz.prog 248 #[.pointer (some ⟨b,0,none⟩),.func (.func 264) #[.pointer (some ⟨b,0,none⟩)] #[],.slice (some ⟨g,0,none⟩) l.length cap] w (cZ b s d w (iq (TT s) (PP s) l part i)):=by
 have hlt:=h.lt;have Hs:Hid (s.size≤maxLen):=ae (by unfold maxLen;omega);have Hp:=ae hp;have Hm:=ae hm;have Hc:=ae hc;have Hl:=ae hl;have KW:=ae hpos;have A0:=ae h;clear hp hm hc hl h hpos;unfold iq
 cases hr:part i with
 |error e=>
  obtain ⟨c,j⟩:=e;have C:=ae (aa Hp i w (aa A0));rw [hr] at C;clear hr;go_enter Tryz.func248,Tryz.ntmps248;go_wp2_with fail;refine (aa C).mono ?_;rintro e w1 ⟨b1,v,d',rfl,hv,a1⟩;have A1:=ae a1;have B1:=ae b1;have HV:=ae hv;clear a1 b1 hv;unfold aM;go_wp2_with fail;refine wp_loop_rounds 1 ?_;rw [rounds_succ];go_wp2;go_ret2;exact ⟨aa B1,v,d',rfl,aa HV,aa A1⟩
 |ok y=>
  obtain ⟨x0,j0⟩:=y;have C:=ae (aa Hp i w (aa A0));rw [hr] at C;have Hj:=ae (aa Hm _ _ _ hr);clear hr;simp only;generalize hR:joinL (TT s) (PP s) l part 512 x0 j0=R;have HR:=ae hR;clear hR;go_enter Tryz.func248,Tryz.ntmps248;go_wp2_with fail;refine (aa C).mono ?_;rintro e w1 ⟨b1,v,rfl,hv,a1⟩;have A1:=ae a1;have B1:=ae b1;have HV:=ae hv;clear a1 b1 hv;go_wp2_with fail
  go_loopg [8,9] 512 (fun k u8 u9 wr=>But b w wr∧((u9=.nilIface∧∃x j,ay b wr x u8∧At wr b s j d∧512≤k+j∧Hid (joinL (TT s) (PP s) l part k x j=R))∨(∃c j d',u9=aM c∧Kb u8∧At wr b s j d'∧Hid (R=.error (c,j)))))
  case atStart=>exact ⟨aa B1,.inl ⟨rfl,x0,j0,aa HV,aa A1,by omega,HR⟩⟩
  case round=>
   obtain ⟨hb,⟨rfl,x,j,hv,ha,hk,HJ⟩|⟨c,j,d',rfl,hv,ha,HJ⟩⟩:=hrel
   ·have hf:12≤gk:=by have:=ha.le;omega
    obtain ⟨f,rfl⟩:∃f,gk=f+1:=⟨gk-1,by omega⟩;have HA:=ae ha;have HB:=ae hb;have HX:=ae hv;have hc':=ae (show ∀i,i<l.length→wr.cell? ⟨g,i,none⟩=some (.string (l.getD i ByteArray.empty)) from fun i hi=>(hb.cell hgl hg).trans (aa Hc i hi));have hlt':b<wr.heap.size:=ha.lt;obtain ⟨tx,vx,rfl⟩:=hv.isI;have c1:=ha.pos.rd.c1;have c2:=ha.pos.rd.c2;clear ha hb hv;have zo:=aa HJ;unfold joinL at zo
    cases ht:gJ (TT s j) l
    ·simp only [ht] at zo;have yS:=ae zo;clear zo;go_wp2_with fail;refine (ni b s _ _ d g cap l _ (aa HA).pos.rd (aa Hl) (aa hc')).mono ?_;rintro e w2 ⟨rfl,rfl⟩;rw [show gJ (aP s (K s j)) l=false from ht];go_wp2;go_ret2;rw [←aa yS];exact ⟨aa HB,_,rfl,aa HX,aa HA⟩
    ·simp only [ht,if_true] at zo;have yS:=ae zo;clear zo;go_wp2_with fail;refine (ni b s _ _ d g cap l _ (aa HA).pos.rd (aa Hl) (aa hc')).mono ?_;rintro e w2 ⟨rfl,rfl⟩;rw [show gJ (aP s (K s j)) l=true from ht];have Ht:=ae ht;clear ht;go_wp2_with fail;refine (steps b s j d _ (aa Hs) ((aa HA).alloc _) (sS (aa Ht) (aa KW))).mono ?_;rintro e w3 ⟨rfl,a3,b3⟩;have S3:=ae ((ag.new w2 #[.int .i64 (aV s (K s j)),.string (aP s (K s j))] 137).but b3 (by omega));have B3:=ae (But.trans (aa HB) (But.trans ((But.refl b w2).alloc _) b3));have X3:=ae (ay.but (aa HX) (But.trans ((But.refl b w2).alloc _) b3));have A3:=ae a3;have hlt3:b<w3.heap.size:=a3.lt;clear a3 b3 c1 c2
     cases hq:part (j+1) with
     |error e=>
      obtain ⟨c4,j4⟩:=e;have C3:=ae (aa Hp (j+1) w3 (aa A3));rw [hq] at yS C3;clear hq;go_wp2_with fail;refine (aa C3).mono ?_;rintro e w4 ⟨b4,v4,d4,rfl,hv4,a4⟩;have S4:=(aa S3).but b4 (by have:=(aa S3).lt;have:=(aa HA).lt;omega);obtain ⟨s0,s1⟩:=S4.two;have B4:=ae (But.trans (aa B3) b4);have A4:=ae a4;have V4:=ae hv4;clear a4 b4 hv4 S4;unfold aM;go_wp2_with fail;refine (nA _ _ _ _ (.inr ⟨_,_,rfl⟩) (aa V4) _).mono ?_;rintro e w5 ⟨rfl,gF⟩;have B5:=ae (But.trans (aa B4) (But.of_below gF));have A5:=ae ((aa A4).below gF);clear gF;go_wp2
      go_roundg 0
      case measure=>omega
      case rel=>exact ⟨aa B5,.inr ⟨c4,j4,d4,rfl,.inr ⟨_,_,rfl⟩,aa A5,ae (aa yS).symm⟩⟩
     |ok y=>
      obtain ⟨y4,j4⟩:=y;have C3:=ae (aa Hp (j+1) w3 (aa A3));have NM:j+1<j4:=aa Hm _ _ _ hq;rw [hq] at yS C3;clear hq;go_wp2_with fail;refine (aa C3).mono ?_;rintro e w4 ⟨b4,v4,rfl,hv4,a4⟩;have S4:=(aa S3).but b4 (by have:=(aa S3).lt;have:=(aa HA).lt;omega);obtain ⟨s0,s1⟩:=S4.two;have B4:=ae (But.trans (aa B3) b4);have A4:=ae a4;have V4:=ae hv4;have X4:=ae (ay.but (aa X3) b4);have I4:=ae (show Kb v4 from .inr hv4.isI);clear a4 b4 hv4 S4;go_wp2_with fail;refine (nA _ _ _ _ (.inr ⟨_,_,rfl⟩) (aa I4) _).mono ?_;rintro e w5 ⟨rfl,gF⟩;have B5:=ae (But.trans (aa B4) (But.of_below gF));have A5:=ae ((aa A4).below gF);have X5:=ae (ay.but (aa X4) (But.of_below gF));have V5:=ae (ay.but (aa V4) (But.of_below gF));clear gF;go_wp2
      go_roundg f
      case measure=>omega
      case rel=>exact ⟨aa B5,.inl ⟨rfl,qA (TT s j) (PP s j) x y4,j4,⟨_,_,rfl,aa X5,aa V5⟩,aa A5,by omega,ae (aa yS)⟩⟩
   ·have HB:=ae hb;have HA:=ae ha;have HX:=ae hv;clear hb ha hv;unfold aM;go_wp2;go_ret2;rw [aa HJ];exact ⟨aa HB,_,d',rfl,aa HX,aa HA⟩
theorem uH (b:Nat) (s:RJ) (i d:Nat) (w:World) (hs:s.size≤500) (h:At w b s i d) (g cap:Nat) (l:List RJ) (part:Nat→fw Ex) (hm:jf part)
  (hp:∀i w,At w b s i d→Calls Tryz.prog 249 #[.pointer (some ⟨b,0,none⟩)] w (cZ b s d w (part i)))
  (hl:l.length≤maxLen) (hpos:∀x∈l,0<(cO x).length) (hg:g≠b) (hgl:g<w.heap.size) (hc:∀i,i<l.length→w.cell? ⟨g,i,none⟩=some (.string (l.getD i ByteArray.empty))):
  Calls Tryz.prog 248 #[.pointer (some ⟨b,0,none⟩),.func (.func 249) #[.pointer (some ⟨b,0,none⟩)] #[],.slice (some ⟨g,0,none⟩) l.length cap] w (cZ b s d w (iq (TT s) (PP s) l part i)):=by
 have hlt:=h.lt;have Hs:Hid (s.size≤maxLen):=ae (by unfold maxLen;omega);have Hp:=ae hp;have Hm:=ae hm;have Hc:=ae hc;have Hl:=ae hl;have KW:=ae hpos;have A0:=ae h;clear hp hm hc hl h hpos;unfold iq
 cases hr:part i with
 |error e=>
  obtain ⟨c,j⟩:=e;have C:=ae (aa Hp i w (aa A0));rw [hr] at C;clear hr;go_enter Tryz.func248,Tryz.ntmps248;go_wp2_with fail;refine (aa C).mono ?_;rintro e w1 ⟨b1,v,d',rfl,hv,a1⟩;have A1:=ae a1;have B1:=ae b1;have HV:=ae hv;clear a1 b1 hv;unfold aM;go_wp2_with fail;refine wp_loop_rounds 1 ?_;rw [rounds_succ];go_wp2;go_ret2;exact ⟨aa B1,v,d',rfl,aa HV,aa A1⟩
 |ok y=>
  obtain ⟨x0,j0⟩:=y;have C:=ae (aa Hp i w (aa A0));rw [hr] at C;have Hj:=ae (aa Hm _ _ _ hr);clear hr;simp only;generalize hR:joinL (TT s) (PP s) l part 512 x0 j0=R;have HR:=ae hR;clear hR;go_enter Tryz.func248,Tryz.ntmps248;go_wp2_with fail;refine (aa C).mono ?_;rintro e w1 ⟨b1,v,rfl,hv,a1⟩;have A1:=ae a1;have B1:=ae b1;have HV:=ae hv;clear a1 b1 hv;go_wp2_with fail
  go_loopg [8,9] 512 (fun k u8 u9 wr=>But b w wr∧((u9=.nilIface∧∃x j,ay b wr x u8∧At wr b s j d∧512≤k+j∧Hid (joinL (TT s) (PP s) l part k x j=R))∨(∃c j d',u9=aM c∧Kb u8∧At wr b s j d'∧Hid (R=.error (c,j)))))
  case atStart=>exact ⟨aa B1,.inl ⟨rfl,x0,j0,aa HV,aa A1,by omega,HR⟩⟩
  case round=>
   obtain ⟨hb,⟨rfl,x,j,hv,ha,hk,HJ⟩|⟨c,j,d',rfl,hv,ha,HJ⟩⟩:=hrel
   ·have hf:12≤gk:=by have:=ha.le;omega
    obtain ⟨f,rfl⟩:∃f,gk=f+1:=⟨gk-1,by omega⟩;have HA:=ae ha;have HB:=ae hb;have HX:=ae hv;have hc':=ae (show ∀i,i<l.length→wr.cell? ⟨g,i,none⟩=some (.string (l.getD i ByteArray.empty)) from fun i hi=>(hb.cell hgl hg).trans (aa Hc i hi));have hlt':b<wr.heap.size:=ha.lt;obtain ⟨tx,vx,rfl⟩:=hv.isI;have c1:=ha.pos.rd.c1;have c2:=ha.pos.rd.c2;clear ha hb hv;have zo:=aa HJ;unfold joinL at zo
    cases ht:gJ (TT s j) l
    ·simp only [ht] at zo;have yS:=ae zo;clear zo;go_wp2_with fail;refine (ni b s _ _ d g cap l _ (aa HA).pos.rd (aa Hl) (aa hc')).mono ?_;rintro e w2 ⟨rfl,rfl⟩;rw [show gJ (aP s (K s j)) l=false from ht];go_wp2;go_ret2;rw [←aa yS];exact ⟨aa HB,_,rfl,aa HX,aa HA⟩
    ·simp only [ht,if_true] at zo;have yS:=ae zo;clear zo;go_wp2_with fail;refine (ni b s _ _ d g cap l _ (aa HA).pos.rd (aa Hl) (aa hc')).mono ?_;rintro e w2 ⟨rfl,rfl⟩;rw [show gJ (aP s (K s j)) l=true from ht];have Ht:=ae ht;clear ht;go_wp2_with fail;refine (steps b s j d _ (aa Hs) ((aa HA).alloc _) (sS (aa Ht) (aa KW))).mono ?_;rintro e w3 ⟨rfl,a3,b3⟩;have S3:=ae ((ag.new w2 #[.int .i64 (aV s (K s j)),.string (aP s (K s j))] 137).but b3 (by omega));have B3:=ae (But.trans (aa HB) (But.trans ((But.refl b w2).alloc _) b3));have X3:=ae (ay.but (aa HX) (But.trans ((But.refl b w2).alloc _) b3));have A3:=ae a3;have hlt3:b<w3.heap.size:=a3.lt;clear a3 b3 c1 c2
     cases hq:part (j+1) with
     |error e=>
      obtain ⟨c4,j4⟩:=e;have C3:=ae (aa Hp (j+1) w3 (aa A3));rw [hq] at yS C3;clear hq;go_wp2_with fail;refine (aa C3).mono ?_;rintro e w4 ⟨b4,v4,d4,rfl,hv4,a4⟩;have S4:=(aa S3).but b4 (by have:=(aa S3).lt;have:=(aa HA).lt;omega);obtain ⟨s0,s1⟩:=S4.two;have B4:=ae (But.trans (aa B3) b4);have A4:=ae a4;have V4:=ae hv4;clear a4 b4 hv4 S4;unfold aM;go_wp2_with fail;refine (nA _ _ _ _ (.inr ⟨_,_,rfl⟩) (aa V4) _).mono ?_;rintro e w5 ⟨rfl,gF⟩;have B5:=ae (But.trans (aa B4) (But.of_below gF));have A5:=ae ((aa A4).below gF);clear gF;go_wp2
      go_roundg 0
      case measure=>omega
      case rel=>exact ⟨aa B5,.inr ⟨c4,j4,d4,rfl,.inr ⟨_,_,rfl⟩,aa A5,ae (aa yS).symm⟩⟩
     |ok y=>
      obtain ⟨y4,j4⟩:=y;have C3:=ae (aa Hp (j+1) w3 (aa A3));have NM:j+1<j4:=aa Hm _ _ _ hq;rw [hq] at yS C3;clear hq;go_wp2_with fail;refine (aa C3).mono ?_;rintro e w4 ⟨b4,v4,rfl,hv4,a4⟩;have S4:=(aa S3).but b4 (by have:=(aa S3).lt;have:=(aa HA).lt;omega);obtain ⟨s0,s1⟩:=S4.two;have B4:=ae (But.trans (aa B3) b4);have A4:=ae a4;have V4:=ae hv4;have X4:=ae (ay.but (aa X3) b4);have I4:=ae (show Kb v4 from .inr hv4.isI);clear a4 b4 hv4 S4;go_wp2_with fail;refine (nA _ _ _ _ (.inr ⟨_,_,rfl⟩) (aa I4) _).mono ?_;rintro e w5 ⟨rfl,gF⟩;have B5:=ae (But.trans (aa B4) (But.of_below gF));have A5:=ae ((aa A4).below gF);have X5:=ae (ay.but (aa X4) (But.of_below gF));have V5:=ae (ay.but (aa V4) (But.of_below gF));clear gF;go_wp2
      go_roundg f
      case measure=>omega
      case rel=>exact ⟨aa B5,.inl ⟨rfl,qA (TT s j) (PP s j) x y4,j4,⟨_,_,rfl,aa X5,aa V5⟩,aa A5,by omega,ae (aa yS)⟩⟩
   ·have HB:=ae hb;have HA:=ae ha;have HX:=ae hv;clear hb ha hv;unfold aM;go_wp2;go_ret2;rw [aa HJ];exact ⟨aa HB,_,d',rfl,aa HX,aa HA⟩
