import Derived.Test.YtlbpnlngckgcbaaGreatDoorM20
import Derived.Test.YtlbpnlngckgcbaaGreatDoorM21
set_option linter.all false
set_option maxHeartbeats 4000000
set_option maxRecDepth 100000
namespace Go.Proofs.YtlbpnlngckgcbaaGreatDoor
open Go.RowKit Go.PlainAid Go.Proofs.Tryz
variable {aF cD:Prop} {k:Nat}
def Kr (I:aF:=by
 rw [he] at C;have Hn:=ai (Tt.u he);clear he GF Tt;go_wp2_with fail;refine (ak C).mono ?_;rintro e J ⟨rfl,hb2⟩;exact I1):aF:=I
theorem Ri(g t q w)(D:aB w q #[.string t.kind,.string t.id,.string t.rel,.string t.sub,.string t.who,.string t.of] 123):
  Calls prog 103 #[wZ g,.pointer (some ⟨q,0,none⟩)] w fun e w'=>e=.returned (.bool (fY g t))/\Below w.heap.size w w':=by
 have C:=ai (fun w=>GD g t w);have hl:=D.lt;unfold wZ cu at C ⊢;have I:Below w.heap.size w (w.alloc (g9 g.tp g.ty g.reach g.rp g.rel)):=(aw _ w).alloc az _;have J:=ai I;have U:=ai (D.below I);have R:=ai (aB.new w #[.int .i64 g.tp,.string g.ty,.int .i64 g.reach,.int .i64 g.rp,.string g.rel] 207);have V:¬(q=w.heap.size):=aj;have Y:¬(w.heap.size=q):=aj;obtain ⟨Z,ab,ac,ad,ae,af⟩:=D.six;clear D I;go_enter func103,ntmps103;go_wp2_with fail;refine (ak C _).mono ?_;rintro e w1 ⟨rfl,O⟩;have Q:=ai (J.u.trans (O.mono J.u.size));clear O C;go_wp2;go_ret;exact ⟨rfl,Q.u⟩
theorem Rj{l:List Gr}{t:Tu}(A:k<l.length)(h:fY l[k] t=true):l.any (fun g=>fY g t)=true:=ei.2 ⟨l[k],bu A,h⟩
theorem Rk{l:List Gr}{t:Tu}(A:∀j,(D:j<l.length)->fY l[j] t=false):l.any (fun g=>fY g t)=false:=by
 rw [iW];intro y C;obtain ⟨j,h,rfl⟩:=dn C;rw [A j h];simp
theorem CU(base v l t q w)(ah:l.length<=1000)(O:w.ownsRow base 207 5 v l.length (b6 l))(Y:aB w q #[.string t.kind,.string t.id,.string t.rel,.string t.sub,.string t.who,.string t.of] 123):
  Calls prog 155 #[v,.func (.func 103) #[] #[.pointer (some ⟨q,0,none⟩)]] w fun e w'=>∃n:Int,e=.returned (.int .i64 n)/\decide (0<=n)=l.any (fun g=>fY g t)/\Below w.heap.size w w':=by
 obtain ⟨sa,sc,rfl⟩:=ay O;have H:=ai O;have ab:=ai Y;clear O Y;go_enter func155,ntmps155;go_wp2
 go_loopw [5,8] (fun u i wr=>∃k:Nat,k<=l.length/\i=.int .i64 k/\Below w.heap.size w wr/\Hid (∀j,(O:j<l.length)->j<k->fY l[j] t=false)) (fun _ i _=>l.length-(intOf i).toNat)
 case atStart=>exact ⟨0,aj,rfl,aw _ _,ai (fun j e O=>aj)⟩
 case round=>
  obtain ⟨k,ag,rfl,Q,U⟩:=hrel;have HB:=ai Q
  by_cases V:k<l.length
  ·obtain ⟨g,c,e1,hc⟩:=bi (fun g=>(cu g).toList) 5 (fun _=>rfl) (aE H.u Q) k l[k] (aG V);simp only [aI] at e1;obtain ⟨rfl,_,rfl⟩:=e1;have ac:=ai (ab.u.below Q);have GF:=ai (fun (he:fY l[k] t=true)=>Rj V he);have Tt:=ai (fun (he:fY l[k] t=false)=>(show ∀j,(O:j<l.length)->j<k+1->fY l[j] t=false from fun j O af=>by
     by_cases e:j=k
     ·subst e;exact he
     exact ak U j O aj))
   have C:=ai (Ri l[k] t q wr ac.u);unfold wZ cu at C;generalize l[k]=y at*;have k0:wr.cell? ⟨g,k*5,none⟩=some (.int .i64 y.tp):=hc 0 _ aj rfl;have k1:wr.cell? ⟨g,k*5+1,none⟩=some (.string y.ty):=hc 1 _ aj rfl;have al:wr.cell? ⟨g,k*5+2,none⟩=some (.int .i64 y.reach):=hc 2 _ aj rfl;have k3:wr.cell? ⟨g,k*5+3,none⟩=some (.int .i64 y.rp):=hc 3 _ aj rfl;have am:wr.cell? ⟨g,k*5+4,none⟩=some (.string y.rel):=hc 4 _ aj rfl;have ae:(k:Int)<(l.length:Int):=aj;clear Q hc
   cases he:fY y t
   ·exact Kr
   rw [he] at C;have R:=ai (GF.u he);clear he GF Tt;go_wp2_with fail;refine (ak C).mono ?_;rintro e an ⟨rfl,hb2⟩;have Z:=ai (HB.u.trans (hb2.mono HB.u.size));clear hb2;go_wp2;go_ret;exact ⟨k,rfl,by rw [R.u];simp,Z.u⟩
  have R:=ai (Rk (t:=t) (fun j ad=>ak U j ad aj));have ae:¬((k:Int)<(l.length:Int)):=aj;clear Q;go_wp2;go_ret;exact ⟨-1,rfl,by rw [R.u];decide,HB.u⟩
theorem u9(base v l t q w)(Q:l.length<=1000)(h:w.ownsRow base 207 5 v l.length (b6 l))(I:aB w q #[.string t.kind,.string t.id,.string t.rel,.string t.sub,.string t.who,.string t.of] 123):
  Calls prog 105 #[v,.func (.func 103) #[] #[.pointer (some ⟨q,0,none⟩)]] w fun e w'=>e=.returned (.bool (l.any (fun g=>fY g t)))/\Below w.heap.size w w':=by
 have C:=ai (CU base v l t q w Q h I);obtain ⟨sa,sc,rfl⟩:=ay h;clear h I;go_enter func105,ntmps105;go_wp2_with fail;refine C.u.mono ?_;rintro e w1 ⟨n,rfl,D,A⟩;have J:=ai A;have O:=ai D;clear D A;go_wp2;go_ret;exact ⟨by rw [<-O.u];rfl,J.u⟩
def l6(ts:List Ty)(t:Tu):Nat:=match bL ts t.kind with
 |none=>5
 |some y=>match bP y t.rel with
  |none=>5
  |some r=>if (bZ r.body).any (fun g=>fY g t) then 0 else 7
def Ow(n:Nat):ag:=if n=0 then .nilIface else bY n
theorem zT(D:Option Addr)(J I:Nat)(t:Tu)(w:af)(ab:Nat)(Z:ae)(U:Option Addr)(Y V:Nat)
  (Q:Calls prog 94 #[.agg #[.slice D J I],.string t.kind,.string t.rel] ((w.alloc (aN D J I)).alloc (bV t.kind t.id t.rel t.sub t.who t.of)) fun e w''=>e=.returned (.tuple #[.agg #[.int .i64 ab,.string Z,.slice U Y V],.agg #[.int .i64 0,.string ⟨#[]⟩,.nilIface],bY 5])/\Below ((w.alloc (aN D J I)).alloc (bV t.kind t.id t.rel t.sub t.who t.of)).heap.size ((w.alloc (aN D J I)).alloc (bV t.kind t.id t.rel t.sub t.who t.of)) w''):
  Calls prog 61 #[.agg #[.slice D J I],.agg #[.string t.kind,.string t.id,.string t.rel,.string t.sub,.string t.who,.string t.of]] w fun e w'=>e=.returned (bY 5)/\Below w.heap.size w w':=by
 have O:=ai (((aw w.heap.size w).alloc az (aN D J I)).alloc an (bV t.kind t.id t.rel t.sub t.who t.of));have C:=ai Q;clear Q;unfold bY at C ⊢;go_enter func61,ntmps61;go_wp2_with fail;refine (ak C).mono ?_;rintro e w1 ⟨rfl,R⟩;have b1:=O.u.trans (R.mono O.u.size);have ac:=ai ((b1.alloc b1.size (bq ab Z U Y V)).alloc (by have:=b1.size;simp;omega) ce);clear R C b1;go_wp2;go_ret;exact ⟨rfl,ac.u⟩
theorem Ks(b:Nat)(D)(J I:Nat)(t w)(U:Nat)(yn va)(R Q rp:Nat)(rn ra rv e)(aI:b<w.heap.size)(ax:bg b ((w.alloc (aN D J I)).alloc (bV t.kind t.id t.rel t.sub t.who t.of)) e (.iface ra rv))(aG:(aA e).length<=1000)(ae:(bZ e).length<=1000)(aH:WF e)(al:Calls prog 94 #[.agg #[.slice D J I],.string t.kind,.string t.rel] ((w.alloc (aN D J I)).alloc (bV t.kind t.id t.rel t.sub t.who t.of)) fun e w''=>e=.returned (.tuple #[.agg #[.int .i64 U,.string yn,.slice va R Q],.agg #[.int .i64 rp,.string rn,.iface ra rv],.nilIface])/\Below ((w.alloc (aN D J I)).alloc (bV t.kind t.id t.rel t.sub t.who t.of)).heap.size ((w.alloc (aN D J I)).alloc (bV t.kind t.id t.rel t.sub t.who t.of)) w''):
  Calls prog 61 #[.agg #[.slice D J I],.agg #[.string t.kind,.string t.id,.string t.rel,.string t.sub,.string t.who,.string t.of]] w fun e' w'=>e'=.returned (Ow (if (bZ e).any (fun g=>fY g t) then 0 else 7))/\Below w.heap.size w w':=by
 have V:=ai (((aw w.heap.size w).alloc az (aN D J I)).alloc an (bV t.kind t.id t.rel t.sub t.who t.of));have ar:=ai (aB.new' (w.alloc (aN D J I)) #[.string t.kind,.string t.id,.string t.rel,.string t.sub,.string t.who,.string t.of] 123 (w.heap.size+1) an);have C:=ai al;have am:=ai (fun w' (k:Below ((w.alloc (aN D J I)).alloc (bV t.kind t.id t.rel t.sub t.who t.of)).heap.size ((w.alloc (aN D J I)).alloc (bV t.kind t.id t.rel t.sub t.who t.of)) w')=>oi rp rn b e (.iface ra rv) w' (by have:=k.size;simp at this;omega) (ax.but (But.of_below k)) aG ae aH);have ab:=ai (fun (base:Nat) (v:ag) (w':af) (aJ:w'.ownsRow base 207 5 v (bZ e).length (b6 (bZ e))) (aK:aB w' (w.heap.size+1) #[.string t.kind,.string t.id,.string t.rel,.string t.sub,.string t.who,.string t.of] 123)=>u9 base v (bZ e) t (w.heap.size+1) w' ae aJ aK);obtain ⟨ac,aC⟩:∃ac,ac=(bZ e).any (fun g=>fY g t):=⟨_,rfl⟩;rw [<-aC] at ab ⊢;have aM:w.heap.size<(w.alloc (aN D J I)).heap.size:=an;clear al ax aI aG ae aH aC;go_enter func61,ntmps61;go_wp2_with fail;refine C.u.mono ?_;rintro e w1 ⟨rfl,O⟩;have b1:=V.u.trans (O.mono V.u.size);have av:=(b1.alloc b1.size (bq U yn va R Q)).alloc (by have:=b1.size;simp;omega) (cp rp rn ra rv);have Y:=ai av;have au:=ai (((ar.u.below O).alloc (bq U yn va R Q)).alloc (cp rp rn ra rv));have ap:=ai (am.u _ ((O.alloc O.size (bq U yn va R Q)).alloc (by have:=O.size;simp at this ⊢;omega) (cp rp rn ra rv)));clear O C V ar b1 av am;go_wp2_with fail;refine ap.u.mono ?_;rintro e aL ⟨gv,rfl,ad,ah⟩;obtain ⟨ga,gc,rfl⟩:=ay ah;have Z:=ai (Y.u.trans (ad.mono Y.u.size));have E:=ai (ak ab _ _ aL ah (au.u.below ad));clear ad ah ap Y au ab;go_wp2_with fail;refine E.u.mono ?_;rintro e aO ⟨rfl,aD⟩;have aj:=ai (Z.u.trans (aD.mono Z.u.size));clear aD E Z
 cases ac
 ·go_wp2;go_ret;exact ⟨rfl,aj.u⟩
 ·go_wp2;go_ret;exact ⟨rfl,aj.u⟩
theorem Kt(b sv ts tl t w)(C:MC b w sv ts tl):
  Calls prog 61 #[.agg #[sv],.agg #[.string t.kind,.string t.id,.string t.rel,.string t.sub,.string t.who,.string t.of]] w fun e w'=>e=.returned (Ow (l6 ts t))/\Below w.heap.size w w':=by
 obtain ⟨sa,D,sc,rfl⟩:=C.form;have k:Below w.heap.size w ((w.alloc (aN sa D sc)).alloc (bV t.kind t.id t.rel t.sub t.who t.of)):=((aw w.heap.size w).alloc az (aN sa D sc)).alloc an (bV t.kind t.id t.rel t.sub t.who t.of);unfold l6
 cases h1:bL ts t.kind with
 |none=>exact zT sa D sc t w 0 ⟨#[]⟩ none 0 0 (oq b _ ts tl t.kind t.rel _ (C.below k) h1)
 |some y=>
  cases h2:bP y t.rel with
  |none=>
   simp only [h2];obtain ⟨O,R,Q,hc⟩:=ot b _ ts tl t.kind t.rel _ (C.below k) y h1 h2;exact zT sa D sc t w _ _ O R Q hc
  |some r=>
   simp only [h2];obtain ⟨O,R,Q,rl,V,rv,I,J,U,hc⟩:=qa b _ ts tl t.kind t.rel _ (C.below k) y h1 r h2;exact Ks b sa D sc t w _ _ O R Q _ _ V rv r.body C.blt U (J.okp r I) (J.okg r I) (J.wf r I) hc
