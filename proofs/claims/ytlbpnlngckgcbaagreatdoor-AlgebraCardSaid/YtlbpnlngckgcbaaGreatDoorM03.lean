import Derived.Test.YtlbpnlngckgcbaaGreatDoorM02
import Derived.Deep.LoopGhost
set_option linter.all false
set_option maxHeartbeats 4000000
set_option maxRecDepth 100000
namespace Go.Proofs.YtlbpnlngckgcbaaGreatDoor
open Go.RowKit Go.PlainAid
theorem Ex.ind (Q:Ex→Prop) (h0:∀n r,Q ⟨n,none,r⟩) (h1:∀n a,Q ⟨n,some a,none⟩) (h2:∀n a b,Q a→Q b→Q ⟨n,some a,some b⟩):∀e,Q e
 |⟨n,none,r⟩=>h0 n r
 |⟨n,some a,none⟩=>h1 n a
 |⟨n,some a,some b⟩=>h2 n a b (Ex.ind Q h0 h1 h2 a) (Ex.ind Q h0 h1 h2 b)
def iw (k:Nat):TypeId:=if k=3 then 244 else if k=4 then 245 else 246
def aN (l:List Gr):List Value:=l.flatMap fun g=>(aI g).toList
def Gp (b:Nat) (w:World) (n:Nd) (v:Value):Prop:=
 (n.kind=0∧∃sv,v=.iface 236 (.agg #[.int .i64 n.place,sv])∧w.ownsRow (b+1) 207 5 sv n.gs.length (aN n.gs))∨
 (n.kind=1∧v=.iface 238 (.agg #[.int .i64 n.place,.string n.n1]))∨
 (n.kind=2∧v=.iface 240 (.agg #[.int .i64 n.place,.int .i64 n.p1,.string n.n1,.int .i64 n.p2,.string n.n2]))
def ay (b:Nat) (w:World):Ex→Value→Prop
 |⟨n,some x,some y⟩,v=>∃vx vy,v=.iface (iw n.kind) (.agg #[.int .i64 n.place,vx,vy])∧ay b w x vx∧ay b w y vy
 |⟨n,none,_⟩,v=>Gp b w n v
 |⟨_,some _,none⟩,_=>False
theorem ai {w w':World} {base:Nat} {e:TypeId} {size:Nat} {v:Value} {n:Nat} {xs:List Value} (h:w.ownsRow base e size v n xs)
  (k:∀g cs f,base≤g→w.heap[g]? =some (.cells cs e f)→w'.heap[g]? =w.heap[g]?):w'.ownsRow base e size v n xs:=by
 obtain ⟨h1,h2⟩:=h;refine ⟨h1,?_⟩
 rcases h2 with h2|⟨g,cap,cur,hv,hg,hh,r⟩
 ·exact Or.inl h2
 ·exact Or.inr ⟨g,cap,cur,hv,hg,(k g cur (0,0) hg hh).trans hh,r⟩
def gQ (b:Nat) (w w':World):Prop:=∀g cs f,b+1≤g→w.heap[g]? =some (.cells cs 207 f)→w'.heap[g]? =w.heap[g]?
theorem lt_of_some {w:World} {g:Nat} {o:Obj} (h:w.heap[g]? =some o):g<w.heap.size:=by
 rcases Nat.lt_or_ge g w.heap.size with k|k
 ·exact k
 ·rw [Array.getElem?_eq_none k] at h;cases h
theorem gQ.of_but {b:Nat} {w w':World} (h:But b w w'):gQ b w w':=fun g cs f hg hh=>h.block g (lt_of_some hh) (by omega)
theorem ay.frame {b:Nat} {w w':World} (k:gQ b w w'):∀e v,ay b w e v→ay b w' e v:=by
 intro e
 induction e using Ex.ind with
 |h0 n r=>
  intro v h
  rcases h with ⟨h1,sv,h2,h3⟩|h|h
  ·exact Or.inl ⟨h1,sv,h2,ai h3 k⟩
  ·exact Or.inr (Or.inl h)
  ·exact Or.inr (Or.inr h)
 |h1 n a=>intro v h;exact h
 |h2 n a c iha I9=>
  rintro v ⟨vx,vy,h1,h2,h3⟩;exact ⟨vx,vy,h1,iha _ h2,I9 _ h3⟩
theorem ay.but {b:Nat} {w w':World} {e:Ex} {v:Value} (h:ay b w e v) (k:But b w w'):ay b w' e v:=ay.frame (gQ.of_but k) e v h
theorem ay.isI {b:Nat} {w:World} {e:Ex} {v:Value} (h:ay b w e v):∃t x,v=.iface t x:=by
 match e,h with
 |⟨n,some x,some y⟩,⟨vx,vy,h1,_⟩=>exact ⟨_,_,h1⟩
 |⟨n,none,_⟩,h=>
  rcases h with ⟨h1,sv,h2,h3⟩|⟨_,h⟩|⟨_,h⟩
  ·exact ⟨_,_,h2⟩
  ·exact ⟨_,_,h⟩
  ·exact ⟨_,_,h⟩
abbrev cB (b:Nat) (s:Qx) (d:Nat) (w:World) (r:eX Ex):Ending→World→Prop:=Post b s d w r (ay b) I8
theorem Gq (b:Nat) (s:Qx) (i d:Nat) (w:World) (hs:s.size≤maxLen) (h:At w b s i d) (c j:Nat) (hr:bW (TT s) i=.error (c,j)):
  Calls Tryz.prog 273 #[.pointer (some ⟨b,0,none⟩)] w (cB b s d w (.error (c,j))):=by
 have hlt:=h.lt;have Hs:=ae hs;have C:=ae (aX b s i d w hs h);rw [hr] at C;clear hr;go_enter Tryz.func273,Tryz.ntmps273;go_wp2_with fail;refine (aa C).mono ?_;rintro e w1 ⟨b1,v,d',rfl,rfl,a1⟩;have A1:=ae a1;have B1:=ae b1;clear a1 b1 C h hs;unfold yh aJ;go_wp2;go_ret2;exact ⟨(by with_reducible repeat (first|exact aa B1|refine But.alloc ?_ _|refine But.drew ?_|(refine But.setNew ?_ ?_ _;rotate_left;exact (by first|omega|(simp;omega)|simp)))),_,d',rfl,.inl rfl,(by with_reducible repeat (first|exact aa A1|refine At.alloc ?_ _|refine At.drew ?_|(refine At.setNew ?_ ?_ _;rotate_left;exact (by first|omega|(simp;omega)|simp))))⟩
theorem Gs (b:Nat) (s:Qx) (i d:Nat) (w:World) (hs:s.size≤maxLen) (h:At w b s i d) (j:Nat) (hr:bW (TT s) i=.ok ((),j)) (h1:eqs (TT s j) (sg 46)=false):
  Calls Tryz.prog 273 #[.pointer (some ⟨b,0,none⟩)] w (cB b s d w (.ok (⟨⟨1,PP s i,TT s i,PP s i,em,0,[]⟩,none,none⟩,j))):=by
 have hlt:=h.lt;have Hs:=ae hs;have C:=ae (aX b s i d w hs h);rw [hr] at C;clear hr;go_enter Tryz.func273,Tryz.ntmps273;go_wp2_with fail;refine (aa C).mono ?_;rintro e w1 ⟨b1,v,rfl,rfl,a1⟩;have A1:=ae a1;have B1:=ae b1;have hsz:b<w1.heap.size:=Nat.lt_of_lt_of_le hlt b1.size;clear a1 b1 C h hs;unfold o6;go_wp2_with fail;refine (ats b s j d _ _ (sg 46) _ ?_ ?_).mono ?_
 ·exact (by with_reducible repeat (first|exact aa A1|refine At.alloc ?_ _|refine At.drew ?_|(refine At.setNew ?_ ?_ _;rotate_left;exact (by first|omega|(simp;omega)|simp))))
 ·exact aG _ _ _ _ (by simp)
 rintro e w2 ⟨rfl,rfl⟩;rw [h1];go_wp2;go_ret2;exact ⟨(by with_reducible repeat (first|exact aa B1|refine But.alloc ?_ _|refine But.drew ?_|(refine But.setNew ?_ ?_ _;rotate_left;exact (by first|omega|(simp;omega)|simp)))),_,rfl,.inr (.inl ⟨rfl,rfl⟩),(by with_reducible repeat (first|exact aa A1|refine At.alloc ?_ _|refine At.drew ?_|(refine At.setNew ?_ ?_ _;rotate_left;exact (by first|omega|(simp;omega)|simp))))⟩
theorem Gt (b:Nat) (s:Qx) (i d:Nat) (w:World) (hs:s.size≤maxLen) (h:At w b s i d) (j m:Nat) (hr:bW (TT s) i=.ok ((),j)) (h1:eqs (TT s j) (sg 46)=true) (Hm:Hid (bW (TT s) (j+1)=.ok ((),m))):
  Calls Tryz.prog 273 #[.pointer (some ⟨b,0,none⟩)] w (cB b s d w (.ok (⟨⟨2,PP s i,TT s i,PP s i,TT s (j+1),PP s (j+1),[]⟩,none,none⟩,m))):=by
 have hlt:=h.lt;have Hs:=ae hs;have C:=ae (aX b s i d w hs h);rw [hr] at C;clear hr;go_enter Tryz.func273,Tryz.ntmps273;go_wp2_with fail;refine (aa C).mono ?_;have H1:=ae h1;rintro e w1 ⟨b1,v,rfl,rfl,a1⟩;have A1:=ae a1;have B1:=ae b1;have hsz:b<w1.heap.size:=Nat.lt_of_lt_of_le hlt b1.size;clear a1 b1 C h hs;unfold o6;go_wp2_with fail;refine (ats b s j d _ _ (sg 46) _ ?_ ?_).mono ?_
 ·exact (by with_reducible repeat (first|exact aa A1|refine At.alloc ?_ _|refine At.drew ?_|(refine At.setNew ?_ ?_ _;rotate_left;exact (by first|omega|(simp;omega)|simp))))
 ·exact aG _ _ _ _ (by simp)
 rintro e w2 ⟨rfl,rfl⟩;rw [h1];clear h1;go_wp2_with fail;refine (steps b s j d _ (aa Hs) ?_ ?_).mono ?_
 ·exact (by with_reducible repeat (first|exact aa A1|refine At.alloc ?_ _|refine At.drew ?_|(refine At.setNew ?_ ?_ _;rotate_left;exact (by first|omega|(simp;omega)|simp))))
 ·exact eB (aa H1) (by decide)
 rintro e w2 ⟨rfl,a2,b2⟩;have N2:=ag.but (g:=w1.heap.size) (T:=107) (ag.alloc (ag.new w1 #[.int .i64 (aR s (K s i)),.string (aO s (K s i))] 107) _) b2 (by omega);have JU:=ae N2;have A2:=ae a2;have B2:=ae (But.trans (x:=w) (by with_reducible repeat (first|exact aa B1|refine But.alloc ?_ _|refine But.drew ?_|(refine But.setNew ?_ ?_ _;rotate_left;exact (by first|omega|(simp;omega)|simp)))) b2);clear a2 b2 N2;go_wp2_with fail;have C:=ae (aX b s (j+1) d w2 (aa Hs) (aa A2));rw [aa Hm] at C;refine (aa C).mono ?_;rintro e w3 ⟨b3,v,rfl,rfl,a3⟩;have N3:=ag.but (aa JU) b3 (by omega);obtain ⟨n0,n1⟩:=N3.two;have hn:=N3.lt;have A3:=ae a3;have B3:=ae (But.trans (aa B2) b3);clear a3 b3 N3;unfold o6;go_wp2;go_ret2;exact ⟨(by with_reducible repeat (first|exact aa B3|refine But.alloc ?_ _|refine But.drew ?_|(refine But.setNew ?_ ?_ _;rotate_left;exact (by first|omega|(simp;omega)|simp)))),_,rfl,.inr (.inr ⟨rfl,rfl⟩),(by with_reducible repeat (first|exact aa A3|refine At.alloc ?_ _|refine At.drew ?_|(refine At.setNew ?_ ?_ _;rotate_left;exact (by first|omega|(simp;omega)|simp))))⟩
theorem Ea (b:Nat) (s:Qx) (i d:Nat) (w:World) (hs:s.size≤maxLen) (h:At w b s i d) (j c m:Nat) (hr:bW (TT s) i=.ok ((),j)) (h1:eqs (TT s j) (sg 46)=true) (Hm:Hid (bW (TT s) (j+1)=.error (c,m))):
  Calls Tryz.prog 273 #[.pointer (some ⟨b,0,none⟩)] w (cB b s d w (.error (c,m))):=by
 have hlt:=h.lt;have Hs:=ae hs;have C:=ae (aX b s i d w hs h);rw [hr] at C;clear hr;go_enter Tryz.func273,Tryz.ntmps273;go_wp2_with fail;refine (aa C).mono ?_;have H1:=ae h1;rintro e w1 ⟨b1,v,rfl,rfl,a1⟩;have A1:=ae a1;have B1:=ae b1;have hsz:b<w1.heap.size:=Nat.lt_of_lt_of_le hlt b1.size;clear a1 b1 C h hs;unfold o6;go_wp2_with fail;refine (ats b s j d _ _ (sg 46) _ ?_ ?_).mono ?_
 ·exact (by with_reducible repeat (first|exact aa A1|refine At.alloc ?_ _|refine At.drew ?_|(refine At.setNew ?_ ?_ _;rotate_left;exact (by first|omega|(simp;omega)|simp))))
 ·exact aG _ _ _ _ (by simp)
 rintro e w2 ⟨rfl,rfl⟩;rw [h1];clear h1;go_wp2_with fail;refine (steps b s j d _ (aa Hs) ?_ ?_).mono ?_
 ·exact (by with_reducible repeat (first|exact aa A1|refine At.alloc ?_ _|refine At.drew ?_|(refine At.setNew ?_ ?_ _;rotate_left;exact (by first|omega|(simp;omega)|simp))))
 ·exact eB (aa H1) (by decide)
 rintro e w2 ⟨rfl,a2,b2⟩;have N2:=ag.but (g:=w1.heap.size) (T:=107) (ag.alloc (ag.new w1 #[.int .i64 (aR s (K s i)),.string (aO s (K s i))] 107) _) b2 (by omega);have JU:=ae N2;have A2:=ae a2;have B2:=ae (But.trans (x:=w) (by with_reducible repeat (first|exact aa B1|refine But.alloc ?_ _|refine But.drew ?_|(refine But.setNew ?_ ?_ _;rotate_left;exact (by first|omega|(simp;omega)|simp)))) b2);clear a2 b2 N2;go_wp2_with fail;have C:=ae (aX b s (j+1) d w2 (aa Hs) (aa A2));rw [aa Hm] at C;refine (aa C).mono ?_;rintro e w3 ⟨b3,v,d',rfl,rfl,a3⟩;have N3:=ag.but (aa JU) b3 (by omega);obtain ⟨n0,n1⟩:=N3.two;have hn:=N3.lt;have A3:=ae a3;have B3:=ae (But.trans (aa B2) b3);clear a3 b3 N3;unfold yh aJ;go_wp2;go_ret2;exact ⟨(by with_reducible repeat (first|exact aa B3|refine But.alloc ?_ _|refine But.drew ?_|(refine But.setNew ?_ ?_ _;rotate_left;exact (by first|omega|(simp;omega)|simp)))),_,d',rfl,.inr ⟨_,_,rfl⟩,(by with_reducible repeat (first|exact aa A3|refine At.alloc ?_ _|refine At.drew ?_|(refine At.setNew ?_ ?_ _;rotate_left;exact (by first|omega|(simp;omega)|simp))))⟩
theorem Eb (b:Nat) (s:Qx) (i d:Nat) (w:World) (hs:s.size≤maxLen) (h:At w b s i d):
  Calls Tryz.prog 273 #[.pointer (some ⟨b,0,none⟩)] w (cB b s d w (lK (TT s) (PP s) i)):=by
 unfold lK
 cases hr:bW (TT s) i with
 |error e=>exact Gq b s i d w hs h e.1 e.2 hr
 |ok y=>
  obtain ⟨⟨⟩,j⟩:=y
  cases h1:eqs (TT s j) (sg 46)
  ·simp only [h1];exact Gs b s i d w hs h j hr h1
  ·cases hm:bW (TT s) (j+1) with
   |error e=>simp only [h1,hm];exact Ea b s i d w hs h j e.1 e.2 hr h1 (ae hm)
   |ok y=>
    obtain ⟨⟨⟩,m⟩:=y;simp only [h1,hm];exact Gt b s i d w hs h j m hr h1 (ae hm)
theorem mW (p:Int) (t:Qx) (x y:Value) (hx:I8 x) (hy:I8 y) (w:World):
  Calls Tryz.prog 263 #[.agg #[.int .i64 p,.string t],x,y] w fun e w'=>e=.returned (.iface (iw (kindOf t)) (.agg #[.int .i64 p,x,y]))∧Below w.heap.size w w':=by
 have hk:∀a b,(t.toList== [124])=a→(t.toList== [38])=b→kindOf t=if a then 3 else if b then 4 else 5:=by
  intro a b h1 h2;unfold kindOf eqs;rw [←aB,show dx (sg 124)=[124] from rfl,show dx (sg 38)=[38] from rfl,h1,h2]
 cases h1:(t.toList== [124])
 ·cases h2:(t.toList== [38])
  all_goals
   rw [hk _ _ h1 h2];clear hk
   rcases hx with rfl|⟨tx,vx,rfl⟩<;>rcases hy with rfl|⟨ty,vy,rfl⟩
   all_goals
    go_enter Tryz.func263,Tryz.ntmps263;go_wp2;go_ret;exact ⟨rfl,((Below.refl _ _).alloc Qv _).alloc (by simp) _⟩
 ·rw [hk _ _ h1 rfl];clear hk
  rcases hx with rfl|⟨tx,vx,rfl⟩<;>rcases hy with rfl|⟨ty,vy,rfl⟩
  all_goals
   go_enter Tryz.func263,Tryz.ntmps263;go_wp2;go_ret;exact ⟨rfl,((Below.refl _ _).alloc Qv _).alloc (by simp) _⟩
end Go.Proofs.YtlbpnlngckgcbaaGreatDoor
namespace Go.Proofs.YtlbpnlngckgcbaaGreatDoor
def iT {α:Type} (r:Nat→eX α):Prop:=∀i x j,r i=.ok (x,j)→i<j
theorem gT (T:Nat→ByteArray):iT (bW T):=by
 intro i x j h;unfold bW at h
 repeat' split at h
 all_goals simp at h
 omega
theorem jW (T:Nat→ByteArray) (y:ByteArray):iT (bi T y):=by
 intro i x j h;unfold bi at h
 split at h
 ·simp at h
 ·rename_i hm;have:=gT T _ _ _ hm
  split at h<;>simp at h
  omega
theorem iF (T:Nat→ByteArray) (P:Nat→Nat):iT (lJ T P):=by
 intro i x j h;unfold lJ at h
 split at h
 ·simp at h
 ·rename_i hm;have:=gT T _ _ _ hm
  split at h
  ·simp at h;omega
  ·split at h
   ·split at h
    ·simp at h
    ·rename_i hk;have:=gT T _ _ _ hk;simp at h;omega
   ·simp at h;omega
theorem pY (T:Nat→ByteArray) (P:Nat→Nat):∀f acc,iT (iE T P f acc)
 |0,_=>fun i x j h=>by simp [iE] at h
 |f+1,acc=>fun i x j h=>by
  unfold iE at h
  split at h
  ·simp at h
  ·rename_i hm;have:=iF T P _ _ _ hm
   split at h
   ·have:=pY T P f _ _ _ _ h;omega
   ·split at h<;>simp at h
    omega
theorem p8 (T:Nat→ByteArray) (P:Nat→Nat):iT (rV T P):=by
 intro i x j h;unfold rV at h
 split at h
 ·simp at h
 ·rename_i hm;have:=pY T P _ _ _ _ _ hm;simp at h;omega
theorem oI (T:Nat→ByteArray) (P:Nat→Nat):iT (lK T P):=by
 intro i x j h;unfold lK at h
 split at h
 ·simp at h
 ·rename_i hm;have:=gT T _ _ _ hm
  split at h
  ·split at h
   ·simp at h
   ·rename_i hk;have:=gT T _ _ _ hk;simp at h;omega
  ·simp at h;omega
theorem lM (T:Nat→ByteArray) (P:Nat→Nat) (room:Bool) (inner:Nat→eX Ex) (hi:iT inner):iT (mR T P room inner):=by
 intro i x j h;unfold mR at h
 split at h
 ·exact p8 T P _ _ _ h
 ·split at h
  ·split at h
   ·split at h
    ·simp at h
    ·rename_i hm;have:=hi _ _ _ hm
     split at h<;>simp at h
     omega
   ·simp at h
  ·exact oI T P _ _ _ h
theorem p9 (T:Nat→ByteArray) (P:Nat→Nat) (l:List ByteArray) (part:Nat→eX Ex) (hp:iT part):∀f y i x j,joinL T P l part f y i=.ok (x,j)→i≤j
 |0,_,i,x,j=>fun h=>by simp [joinL] at h
 |f+1,y,i,x,j=>fun h=>by
  unfold joinL at h
  split at h
  ·split at h
   ·simp at h
   ·rename_i hm;have:=hp _ _ _ hm;have:=p9 T P l part hp f _ _ _ _ h;omega
  ·simp at h;omega
theorem lN (T:Nat→ByteArray) (P:Nat→Nat) (l:List ByteArray) (part:Nat→eX Ex) (hp:iT part):iT (gP T P l part):=by
 intro i x j h;unfold gP at h
 split at h
 ·simp at h
 ·rename_i hm;have:=hp _ _ _ hm;have:=p9 T P l part hp _ _ _ _ _ h;omega
theorem iG (T:Nat→ByteArray) (P:Nat→Nat) (room:Bool) (inner:Nat→eX Ex) (hi:iT inner):iT (yE T P room inner):=
 lN T P _ _ (lM T P room inner hi)
theorem jB (T:Nat→ByteArray) (P:Nat→Nat):∀n,iT (mU T P n)
 |0=>lN T P _ _ (iG T P false _ (fun i x j h=>by simp at h))
 |n+1=>lN T P _ _ (iG T P true _ (jB T P n))
theorem kK (T:Nat→ByteArray) (P:Nat→Nat):iT (tV T P):=by
 intro i x j h;unfold tV at h
 split at h
 ·simp at h
 ·rename_i hm;have:=jW T _ _ _ _ hm
  split at h
  ·simp at h
  ·rename_i hk;have:=jB T P _ _ _ _ hk
   split at h<;>simp at h
   omega
theorem qa (T:Nat→ByteArray) (P:Nat→Nat):∀f acc,iT (jM T P f acc)
 |0,_=>fun i x j h=>by simp [jM] at h
 |f+1,acc=>fun i x j h=>by
  unfold jM at h
  split at h
  ·simp at h;omega
  ·split at h
   ·simp at h
   ·split at h
    ·simp at h
    ·rename_i hm;have:=kK T P _ _ _ hm;have:=qa T P f _ _ _ _ h;omega
theorem lQ (T:Nat→ByteArray) (P:Nat→Nat):iT (mV T P):=by
 intro i x j h;unfold mV at h
 split at h
 ·split at h
  ·simp at h
  ·rename_i hm;have:=jW T _ _ _ _ hm
   split at h
   ·simp at h
   ·rename_i hk;have:=qa T P _ _ _ _ _ hk;simp at h;omega
 ·simp at h
end Go.Proofs.YtlbpnlngckgcbaaGreatDoor
namespace Go.Proofs.YtlbpnlngckgcbaaGreatDoor
open Go.RowKit Go.PlainAid
theorem rY {t:Qx} {l:List Qx} (h:gp t l=true) (hl:∀x∈l,0<(dx x).length):0<t.size:=by
 unfold gp at h;rw [List.any_eq_true] at h;obtain ⟨x,hx,he⟩:=h;exact eB he (hl x hx)
theorem vO (b:Nat) (s:Qx) (i d:Nat) (w:World) (hs:s.size≤500) (h:At w b s i d) (g cap:Nat) (l:List Qx) (part:Nat→eX Ex) (hm:iT part)
  (hp:∀i w,At w b s i d→Calls Tryz.prog 264 #[.pointer (some ⟨b,0,none⟩)] w (cB b s d w (part i)))
  (hl:l.length≤maxLen) (hpos:∀x∈l,0<(dx x).length) (hg:g≠b) (hgl:g<w.heap.size) (hc:∀i,i<l.length→w.cell? ⟨g,i,none⟩=some (.string (l.getD i ByteArray.empty))):
  Calls Tryz.prog 248 #[.pointer (some ⟨b,0,none⟩),.func (.func 264) #[.pointer (some ⟨b,0,none⟩)] #[],.slice (some ⟨g,0,none⟩) l.length cap] w (cB b s d w (gP (TT s) (PP s) l part i)):=by
 have hlt:=h.lt;have Hs:Hid (s.size≤maxLen):=ae (by unfold maxLen;omega);have Hp:=ae hp;have Hm:=ae hm;have Hc:=ae hc;have Hl:=ae hl;have JV:=ae hpos;have A0:=ae h;clear hp hm hc hl h hpos;unfold gP
 cases hr:part i with
 |error e=>
  obtain ⟨c,j⟩:=e;have C:=ae (aa Hp i w (aa A0));rw [hr] at C;clear hr;go_enter Tryz.func248,Tryz.ntmps248;go_wp2_with fail;refine (aa C).mono ?_;rintro e w1 ⟨b1,v,d',rfl,hv,a1⟩;have A1:=ae a1;have B1:=ae b1;have HV:=ae hv;clear a1 b1 hv;unfold aJ;go_wp2_with fail;refine wp_loop_rounds 1 ?_;rw [rounds_succ];go_wp2;go_ret2;exact ⟨aa B1,v,d',rfl,aa HV,aa A1⟩
 |ok y=>
  obtain ⟨x0,j0⟩:=y;have C:=ae (aa Hp i w (aa A0));rw [hr] at C;have Hj:=ae (aa Hm _ _ _ hr);clear hr;simp only;generalize hR:joinL (TT s) (PP s) l part 512 x0 j0=R;have HR:=ae hR;clear hR;go_enter Tryz.func248,Tryz.ntmps248;go_wp2_with fail;refine (aa C).mono ?_;rintro e w1 ⟨b1,v,rfl,hv,a1⟩;have A1:=ae a1;have B1:=ae b1;have HV:=ae hv;clear a1 b1 hv;go_wp2_with fail
  go_loopg [8,9] 512 (fun k u8 u9 wr=>But b w wr∧((u9=.nilIface∧∃x j,ay b wr x u8∧At wr b s j d∧512≤k+j∧Hid (joinL (TT s) (PP s) l part k x j=R))∨(∃c j d',u9=aJ c∧I8 u8∧At wr b s j d'∧Hid (R=.error (c,j)))))
  case atStart=>exact ⟨aa B1,.inl ⟨rfl,x0,j0,aa HV,aa A1,by omega,HR⟩⟩
  case round=>
   obtain ⟨hb,⟨rfl,x,j,hv,ha,hk,HJ⟩|⟨c,j,d',rfl,hv,ha,HJ⟩⟩:=hrel
   ·have hf:12≤gk:=by have:=ha.le;omega
    obtain ⟨f,rfl⟩:∃f,gk=f+1:=⟨gk-1,by omega⟩;have HA:=ae ha;have HB:=ae hb;have HX:=ae hv;have hc':=ae (show ∀i,i<l.length→wr.cell? ⟨g,i,none⟩=some (.string (l.getD i ByteArray.empty)) from fun i hi=>(hb.cell hgl hg).trans (aa Hc i hi));have hlt':b<wr.heap.size:=ha.lt;obtain ⟨tx,vx,rfl⟩:=hv.isI;have c1:=ha.pos.rd.c1;have c2:=ha.pos.rd.c2;clear ha hb hv;have yG:=aa HJ;unfold joinL at yG
    cases ht:gp (TT s j) l
    ·simp only [ht] at yG;have yj:=ae yG;clear yG;go_wp2_with fail;refine (mQ b s _ _ d g cap l _ (aa HA).pos.rd (aa Hl) (aa hc')).mono ?_;rintro e w2 ⟨rfl,rfl⟩;rw [show gp (aO s (K s j)) l=false from ht];go_wp2;go_ret2;rw [←aa yj];exact ⟨aa HB,_,rfl,aa HX,aa HA⟩
    ·simp only [ht,if_true] at yG;have yj:=ae yG;clear yG;go_wp2_with fail;refine (mQ b s _ _ d g cap l _ (aa HA).pos.rd (aa Hl) (aa hc')).mono ?_;rintro e w2 ⟨rfl,rfl⟩;rw [show gp (aO s (K s j)) l=true from ht];have Ht:=ae ht;clear ht;go_wp2_with fail;refine (steps b s j d _ (aa Hs) ((aa HA).alloc _) (rY (aa Ht) (aa JV))).mono ?_;rintro e w3 ⟨rfl,a3,b3⟩;have S3:=ae ((ag.new w2 #[.int .i64 (aR s (K s j)),.string (aO s (K s j))] 137).but b3 (by omega));have B3:=ae (But.trans (aa HB) (But.trans ((But.refl b w2).alloc _) b3));have X3:=ae (ay.but (aa HX) (But.trans ((But.refl b w2).alloc _) b3));have A3:=ae a3;have hlt3:b<w3.heap.size:=a3.lt;clear a3 b3 c1 c2
     cases hq:part (j+1) with
     |error e=>
      obtain ⟨c4,j4⟩:=e;have C3:=ae (aa Hp (j+1) w3 (aa A3));rw [hq] at yj C3;clear hq;go_wp2_with fail;refine (aa C3).mono ?_;rintro e w4 ⟨b4,v4,d4,rfl,hv4,a4⟩;have S4:=(aa S3).but b4 (by have:=(aa S3).lt;have:=(aa HA).lt;omega);obtain ⟨s0,s1⟩:=S4.two;have B4:=ae (But.trans (aa B3) b4);have A4:=ae a4;have V4:=ae hv4;clear a4 b4 hv4 S4;unfold aJ;go_wp2_with fail;refine (mW _ _ _ _ (.inr ⟨_,_,rfl⟩) (aa V4) _).mono ?_;rintro e w5 ⟨rfl,eD⟩;have B5:=ae (But.trans (aa B4) (But.of_below eD));have A5:=ae ((aa A4).below eD);clear eD;go_wp2
      go_roundg 0
      case measure=>omega
      case rel=>exact ⟨aa B5,.inr ⟨c4,j4,d4,rfl,.inr ⟨_,_,rfl⟩,aa A5,ae (aa yj).symm⟩⟩
     |ok y=>
      obtain ⟨y4,j4⟩:=y;have C3:=ae (aa Hp (j+1) w3 (aa A3));have Md:j+1<j4:=aa Hm _ _ _ hq;rw [hq] at yj C3;clear hq;go_wp2_with fail;refine (aa C3).mono ?_;rintro e w4 ⟨b4,v4,rfl,hv4,a4⟩;have S4:=(aa S3).but b4 (by have:=(aa S3).lt;have:=(aa HA).lt;omega);obtain ⟨s0,s1⟩:=S4.two;have B4:=ae (But.trans (aa B3) b4);have A4:=ae a4;have V4:=ae hv4;have X4:=ae (ay.but (aa X3) b4);have I4:=ae (show I8 v4 from .inr hv4.isI);clear a4 b4 hv4 S4;go_wp2_with fail;refine (mW _ _ _ _ (.inr ⟨_,_,rfl⟩) (aa I4) _).mono ?_;rintro e w5 ⟨rfl,eD⟩;have B5:=ae (But.trans (aa B4) (But.of_below eD));have A5:=ae ((aa A4).below eD);have X5:=ae (ay.but (aa X4) (But.of_below eD));have V5:=ae (ay.but (aa V4) (But.of_below eD));clear eD;go_wp2
      go_roundg f
      case measure=>omega
      case rel=>exact ⟨aa B5,.inl ⟨rfl,pX (TT s j) (PP s j) x y4,j4,⟨_,_,rfl,aa X5,aa V5⟩,aa A5,by omega,ae (aa yj)⟩⟩
   ·have HB:=ae hb;have HA:=ae ha;have HX:=ae hv;clear hb ha hv;unfold aJ;go_wp2;go_ret2;rw [aa HJ];exact ⟨aa HB,_,d',rfl,aa HX,aa HA⟩
theorem uf (b:Nat) (s:Qx) (i d:Nat) (w:World) (hs:s.size≤500) (h:At w b s i d) (g cap:Nat) (l:List Qx) (part:Nat→eX Ex) (hm:iT part)
  (hp:∀i w,At w b s i d→Calls Tryz.prog 249 #[.pointer (some ⟨b,0,none⟩)] w (cB b s d w (part i)))
  (hl:l.length≤maxLen) (hpos:∀x∈l,0<(dx x).length) (hg:g≠b) (hgl:g<w.heap.size) (hc:∀i,i<l.length→w.cell? ⟨g,i,none⟩=some (.string (l.getD i ByteArray.empty))):
  Calls Tryz.prog 248 #[.pointer (some ⟨b,0,none⟩),.func (.func 249) #[.pointer (some ⟨b,0,none⟩)] #[],.slice (some ⟨g,0,none⟩) l.length cap] w (cB b s d w (gP (TT s) (PP s) l part i)):=by
 have hlt:=h.lt;have Hs:Hid (s.size≤maxLen):=ae (by unfold maxLen;omega);have Hp:=ae hp;have Hm:=ae hm;have Hc:=ae hc;have Hl:=ae hl;have JV:=ae hpos;have A0:=ae h;clear hp hm hc hl h hpos;unfold gP
 cases hr:part i with
 |error e=>
  obtain ⟨c,j⟩:=e;have C:=ae (aa Hp i w (aa A0));rw [hr] at C;clear hr;go_enter Tryz.func248,Tryz.ntmps248;go_wp2_with fail;refine (aa C).mono ?_;rintro e w1 ⟨b1,v,d',rfl,hv,a1⟩;have A1:=ae a1;have B1:=ae b1;have HV:=ae hv;clear a1 b1 hv;unfold aJ;go_wp2_with fail;refine wp_loop_rounds 1 ?_;rw [rounds_succ];go_wp2;go_ret2;exact ⟨aa B1,v,d',rfl,aa HV,aa A1⟩
 |ok y=>
  obtain ⟨x0,j0⟩:=y;have C:=ae (aa Hp i w (aa A0));rw [hr] at C;have Hj:=ae (aa Hm _ _ _ hr);clear hr;simp only;generalize hR:joinL (TT s) (PP s) l part 512 x0 j0=R;have HR:=ae hR;clear hR;go_enter Tryz.func248,Tryz.ntmps248;go_wp2_with fail;refine (aa C).mono ?_;rintro e w1 ⟨b1,v,rfl,hv,a1⟩;have A1:=ae a1;have B1:=ae b1;have HV:=ae hv;clear a1 b1 hv;go_wp2_with fail
  go_loopg [8,9] 512 (fun k u8 u9 wr=>But b w wr∧((u9=.nilIface∧∃x j,ay b wr x u8∧At wr b s j d∧512≤k+j∧Hid (joinL (TT s) (PP s) l part k x j=R))∨(∃c j d',u9=aJ c∧I8 u8∧At wr b s j d'∧Hid (R=.error (c,j)))))
  case atStart=>exact ⟨aa B1,.inl ⟨rfl,x0,j0,aa HV,aa A1,by omega,HR⟩⟩
  case round=>
   obtain ⟨hb,⟨rfl,x,j,hv,ha,hk,HJ⟩|⟨c,j,d',rfl,hv,ha,HJ⟩⟩:=hrel
   ·have hf:12≤gk:=by have:=ha.le;omega
    obtain ⟨f,rfl⟩:∃f,gk=f+1:=⟨gk-1,by omega⟩;have HA:=ae ha;have HB:=ae hb;have HX:=ae hv;have hc':=ae (show ∀i,i<l.length→wr.cell? ⟨g,i,none⟩=some (.string (l.getD i ByteArray.empty)) from fun i hi=>(hb.cell hgl hg).trans (aa Hc i hi));have hlt':b<wr.heap.size:=ha.lt;obtain ⟨tx,vx,rfl⟩:=hv.isI;have c1:=ha.pos.rd.c1;have c2:=ha.pos.rd.c2;clear ha hb hv;have yG:=aa HJ;unfold joinL at yG
    cases ht:gp (TT s j) l
    ·simp only [ht] at yG;have yj:=ae yG;clear yG;go_wp2_with fail;refine (mQ b s _ _ d g cap l _ (aa HA).pos.rd (aa Hl) (aa hc')).mono ?_;rintro e w2 ⟨rfl,rfl⟩;rw [show gp (aO s (K s j)) l=false from ht];go_wp2;go_ret2;rw [←aa yj];exact ⟨aa HB,_,rfl,aa HX,aa HA⟩
    ·simp only [ht,if_true] at yG;have yj:=ae yG;clear yG;go_wp2_with fail;refine (mQ b s _ _ d g cap l _ (aa HA).pos.rd (aa Hl) (aa hc')).mono ?_;rintro e w2 ⟨rfl,rfl⟩;rw [show gp (aO s (K s j)) l=true from ht];have Ht:=ae ht;clear ht;go_wp2_with fail;refine (steps b s j d _ (aa Hs) ((aa HA).alloc _) (rY (aa Ht) (aa JV))).mono ?_;rintro e w3 ⟨rfl,a3,b3⟩;have S3:=ae ((ag.new w2 #[.int .i64 (aR s (K s j)),.string (aO s (K s j))] 137).but b3 (by omega));have B3:=ae (But.trans (aa HB) (But.trans ((But.refl b w2).alloc _) b3));have X3:=ae (ay.but (aa HX) (But.trans ((But.refl b w2).alloc _) b3));have A3:=ae a3;have hlt3:b<w3.heap.size:=a3.lt;clear a3 b3 c1 c2
     cases hq:part (j+1) with
     |error e=>
      obtain ⟨c4,j4⟩:=e;have C3:=ae (aa Hp (j+1) w3 (aa A3));rw [hq] at yj C3;clear hq;go_wp2_with fail;refine (aa C3).mono ?_;rintro e w4 ⟨b4,v4,d4,rfl,hv4,a4⟩;have S4:=(aa S3).but b4 (by have:=(aa S3).lt;have:=(aa HA).lt;omega);obtain ⟨s0,s1⟩:=S4.two;have B4:=ae (But.trans (aa B3) b4);have A4:=ae a4;have V4:=ae hv4;clear a4 b4 hv4 S4;unfold aJ;go_wp2_with fail;refine (mW _ _ _ _ (.inr ⟨_,_,rfl⟩) (aa V4) _).mono ?_;rintro e w5 ⟨rfl,eD⟩;have B5:=ae (But.trans (aa B4) (But.of_below eD));have A5:=ae ((aa A4).below eD);clear eD;go_wp2
      go_roundg 0
      case measure=>omega
      case rel=>exact ⟨aa B5,.inr ⟨c4,j4,d4,rfl,.inr ⟨_,_,rfl⟩,aa A5,ae (aa yj).symm⟩⟩
     |ok y=>
      obtain ⟨y4,j4⟩:=y;have C3:=ae (aa Hp (j+1) w3 (aa A3));have Md:j+1<j4:=aa Hm _ _ _ hq;rw [hq] at yj C3;clear hq;go_wp2_with fail;refine (aa C3).mono ?_;rintro e w4 ⟨b4,v4,rfl,hv4,a4⟩;have S4:=(aa S3).but b4 (by have:=(aa S3).lt;have:=(aa HA).lt;omega);obtain ⟨s0,s1⟩:=S4.two;have B4:=ae (But.trans (aa B3) b4);have A4:=ae a4;have V4:=ae hv4;have X4:=ae (ay.but (aa X3) b4);have I4:=ae (show I8 v4 from .inr hv4.isI);clear a4 b4 hv4 S4;go_wp2_with fail;refine (mW _ _ _ _ (.inr ⟨_,_,rfl⟩) (aa I4) _).mono ?_;rintro e w5 ⟨rfl,eD⟩;have B5:=ae (But.trans (aa B4) (But.of_below eD));have A5:=ae ((aa A4).below eD);have X5:=ae (ay.but (aa X4) (But.of_below eD));have V5:=ae (ay.but (aa V4) (But.of_below eD));clear eD;go_wp2
      go_roundg f
      case measure=>omega
      case rel=>exact ⟨aa B5,.inl ⟨rfl,pX (TT s j) (PP s j) x y4,j4,⟨_,_,rfl,aa X5,aa V5⟩,aa A5,by omega,ae (aa yj)⟩⟩
   ·have HB:=ae hb;have HA:=ae ha;have HX:=ae hv;clear hb ha hv;unfold aJ;go_wp2;go_ret2;rw [aa HJ];exact ⟨aa HB,_,d',rfl,aa HX,aa HA⟩
