import Derived.Test.YtlbpnlngckgcbaaGreatDoorM03
import Derived.Deep.Upon
import Derived.RangeFuncNested
import Derived.RangeFuncBound
import Derived.Shelf.RegionOpen
import Derived.OwnWalkIn
import Derived.LoopNIn
import Derived.LoopIn
import Derived.Test.YtlbpnlngckgcbaaGreatDoorM02
import Derived.Stop.Asserts
import Derived.RowKitTokens
set_option linter.all false
set_option maxHeartbeats 4000000
set_option maxRecDepth 100000
namespace Go.Proofs.YtlbpnlngckgcbaaGreatDoor
open Go.RowKit Go.PlainAid Go.Proofs.Tryz
variable {fn:Func} {ty T e:TypeId} {aA aU:Prop} {w w' y z W W':af} {cs:Array ag} {sv v v' tv:ag} {rs:List Rl} {ts:List Ty} {i base off cap n size g' B b1 n1 m:Nat} {ao:Option Addr} {nl:List Sp} {P:Program} {rest:List Oper} {xs:List ag} {α β:Type} {t:Ty}
def Ct{p q u ty2}(h:fn.results=#[.cell p ty,.cell q ty2,.tmp u])(tmps P w):
  (results fn tmps).run P w=
   ((asAddr (tmps.getD p undef)).run P w).andThen fun a D=>((loadVar ty a).run P D).andThen fun v I=>((asAddr (tmps.getD q undef)).run P I).andThen fun A J=>((loadVar ty2 A).run P J).andThen fun C Q=> .ok (.tuple #[v,C,tmps.getD u undef]) Q:=by
 simp only [results,h];simp [Sem.run_bind,Result.andThen]
def Ab{P:Program}{fn:Func}{p R u:Tmp}{ty C:TypeId}(h:fn.results=#[.cell p ty,.cell R C,.tmp u])(A:Array ag)(w:af)(g I:Nat)(cs D:Array ag)(t t2:TypeId)(e:ag)(d d2:TypeDesc)
  (Z:A.getD p undef=.pointer (some ⟨g,0,none⟩)) (ab:A.getD R undef=.pointer (some ⟨I,0,none⟩)) (ac:A.getD u undef=e) (J:∃x,aE w g x t/\x=cs) (Q:∃x,aE w I x t2/\x=D)
  (ad:P.underlying ty=some d) (U:(match d with| .struct _| .array _ _=>true|_=>false)=true) (hi:(P.info? ty).map (·.size)=some cs.size)
  (ae:P.underlying C=some d2) (V:(match d2 with| .struct _| .array _ _=>true|_=>false)=true) (Y:(P.info? C).map (·.size)=some D.size):
  (results fn A).run P w=.ok (.tuple #[.agg cs,.agg D,e]) w:=by
 obtain ⟨x,J,rfl⟩:=J;obtain ⟨y,Q,rfl⟩:=Q;rw [Ct h,Z,ab,ac];simp [asAddr,Result.andThen,run_loadVar_row w g t ty x (0,0) d J ad U hi,run_loadVar_row w I t2 C y (0,0) d2 Q ae V Y]
def Oa(b sv ts tl x w)(h:MC b w sv ts tl)(t)(A:bW ts x=some t):
  ∃J R Q rl,RC b w (.slice J R Q) t.rels rl/\∀w1,an w w1->Calls prog 57 #[.agg #[sv],.string x] w1 fun e w'=>e=.returned (.tuple #[.agg #[.int .i64 t.place,.string t.name,.slice J R Q],.nilIface])/\an w1 w':=by
 rw [<-h.fst,ph] at A
 cases C:tl.find? (fun p=>eqs p.1.name x) with
 |none=>rw [C] at A;cases A
 |some y=>
  rw [C] at A;simp only [Option.map_some,aL] at A;subst A;obtain ⟨rl,D⟩:=h.rels y (gj C);obtain ⟨a,n,c,e⟩:=D.form;have I:=D;rw [e] at I;refine ⟨a,n,c,rl,I,fun w1 k=> ?_⟩;have:=o7 sv (tl.map t3) x w1 h.llen (h.below k).row (t3 y) (by rw [uF,C];rfl) ⟨a,n,c,e⟩;have U:(t3 y).2.2=.slice a n c:=e;rw [U] at this;exact this
def Ob(b Q:Nat)(nn sv t rl x w)(h:RC b w sv t.rels rl)(r)(A:bT t x=some r):
  ∃ta C,bB b w r.body (.iface ta C)/\r∈t.rels/\∀w1,an w w1->Calls prog 145 #[.agg #[.int .i64 Q,.string nn,sv],.string x] w1 fun e w'=>e=.returned (.tuple #[.agg #[.int .i64 r.place,.string r.name,.iface ta C],.nilIface])/\an w1 w':=by
 have U:r∈t.rels:=gj A;unfold bT at A;rw [<-h.fst,List.find?_map,show ((fun r:Rl=>eqs r.name x) ∘ Prod.fst)=(fun p:Rl×ag=>eqs p.1.name x) from rfl] at A
 cases D:rl.find? (fun p=>eqs p.1.name x) with
 |none=>rw [D] at A;cases A
 |some y=>
  rw [D] at A;simp only [Option.map_some,aL] at A;subst A;have I:=h.ex y (gj D);obtain ⟨ta,C,e⟩:=I.isI;have J:=I;rw [e] at J;refine ⟨ta,C,J,U,fun w1 k=> ?_⟩;have:=o8 Q nn sv (rl.map r3) x w1 h.llen (h.below k).row (r3 y) (by rw [uG,D];rfl) ⟨ta,C,e⟩;have R:(r3 y).2.2=.iface ta C:=e;rw [R] at this;exact this
def pu(b sv ts tl s1 s2 w)(h:MC b w sv ts tl)(Y:bW ts s1=none):
  Calls prog 94 #[.agg #[sv],.string s1,.string s2] w fun e w'=>e=.returned (.tuple #[.agg #[.int .i64 0,.string ⟨#[]⟩,.slice none 0 0],.agg #[.int .i64 0,.string ⟨#[]⟩,.nilIface],cj 5])/\an w w':=by
 obtain ⟨J,mn,mc,rfl⟩:=h.form;have W0:an w (((w.alloc (aW J mn mc)).alloc cY).alloc cI):=((bj.alloc aD _).alloc ar _).alloc aM _;have U:=ai (h.below W0);have Q:=ai W0;have TB:=ai ((aE.new' (w.alloc (aW J mn mc)) eX 110 (w.heap.size+1) ar).alloc cI);have V:=ai (aE.new' ((w.alloc (aW J mn mc)).alloc cY) eC 159 (w.heap.size+2) ar);have C:=ai (uH b _ ts tl s1 _ U.u Y);go_enter func94,ntmps94;go_wp2_with fail;refine C.u.mono ?_;rintro e w1 ⟨rfl,I⟩;have R:=ai (Q.u.trans (I.mono Q.u.size));have D:=ai (TB.u.below I);have A:=ai (V.u.below I);obtain ⟨t0,t1,t2⟩:=D.u.three;obtain ⟨ac,ad,ae⟩:=A.u.three;have ag:=D.u.fz;have af:=A.u.fz;have ab:=D.u.lt;have Z:=A.u.lt;unfold cj;go_wp2;refine bq (v:=.tuple #[.agg #[.int .i64 0,.string ⟨#[]⟩,.slice none 0 0],.agg #[.int .i64 0,.string ⟨#[]⟩,.nilIface],cj 5]) (Ab results94 _ _ (w.heap.size+1) (w.heap.size+2) _ _ 110 159 _ _ _ rfl rfl rfl ?hB ?hC underlying110 rfl aw underlying159 rfl aw) rfl ?post
 case hB=>exact ⟨_,(cM D),bc⟩
 case hC=>exact ⟨_,(cM A),bc⟩
 case post=>exact ⟨rfl,(cd R)⟩
def pw(b sv ts tl s1 s2 w)(h:MC b w sv ts tl)(t)(aB:bW ts s1=some t)(aC:bT t s2=none):
  ∃A I D,Calls prog 94 #[.agg #[sv],.string s1,.string s2] w fun e w'=>e=.returned (.tuple #[.agg #[.int .i64 t.place,.string t.name,.slice A I D],.agg #[.int .i64 0,.string ⟨#[]⟩,.nilIface],cj 5])/\an w w':=by
 obtain ⟨Z,mn,mc,rfl⟩:=h.form;have W0:an w (((w.alloc (aW Z mn mc)).alloc cY).alloc cI):=((bj.alloc aD _).alloc ar _).alloc aM _;have ah:=ai (h.below W0);have ac:=ai W0;have TB:=ai ((aE.new' (w.alloc (aW Z mn mc)) eX 110 (w.heap.size+1) ar).alloc cI);have ad:=ai (aE.new' ((w.alloc (aW Z mn mc)).alloc cY) eC 159 (w.heap.size+2) ar);obtain ⟨A,I,D,rl,aF,az⟩:=ru b _ ts tl s1 _ ah.u t aB;refine ⟨A,I,D,?_⟩;have C:=ai az;have am:=ai aF;have ak:=ai aC;go_enter func94,ntmps94;go_wp2_with fail;refine C.u.mono ?_;rintro e w1 ⟨rfl,V⟩;have b1:=V.alloc V.size (bD t.place t.name A I D);have ab:=ai (ac.u.trans (b1.mono ac.u.size));have ap:=ai (TB.u.below b1);have al:=ai (ad.u.below b1);have ax:=ai (am.u.below b1);have ae:=ai (aE.new w1 (iy t.place t.name A I D) 110);have ay:=V;have ag:=ai (jW b t.place t.name _ t rl s2 _ ax.u ak.u);go_wp2_with fail;refine ag.u.mono ?_;rintro e J ⟨rfl,Y⟩;have Q:=Y.alloc Y.size cI;have af:=ai (ab.u.trans (Q.mono ab.u.size));have U:=ai (ap.u.below Q);have R:=ai (al.u.below Q);have av:=ai (ae.u.below Q);have au:=ai (aE.new J eC 159);have aG:=(ad.u.below ay).lt;have l2:=(ae.u.below Y).lt
 try unfold cj
 go_wp2_with fail;generalize J.alloc cI=W at*;obtain ⟨t0,t1,t2⟩:=U.u.three;obtain ⟨aL,aN,aO⟩:=R.u.three;obtain ⟨aS,aV,aX⟩:=av.u.three;obtain ⟨aP,aQ,aR⟩:=au.u.three;have aZ:=U.u.fz;have aY:=R.u.fz;have aH:¬(w.heap.size+1=w1.heap.size):=aj;have aI:¬(w.heap.size+1+1=w1.heap.size):=aj;have aJ:¬(w.heap.size+1=J.heap.size):=aj;have aK:¬(w.heap.size+1+1=J.heap.size):=aj
 go_region_held3 (fun w'=>w'.cell? ⟨w1.heap.size,0,none⟩=some (.int .i64 t.place)/\w'.cell? ⟨w1.heap.size,1,none⟩=some (.string t.name)/\w'.cell? ⟨w1.heap.size,2,none⟩=some (.slice A I D)/\w'.cell? ⟨J.heap.size,0,none⟩=some (.int .i64 0)/\w'.cell? ⟨J.heap.size,1,none⟩=some (.string ⟨#[]⟩)/\w'.cell? ⟨J.heap.size,2,none⟩=some .nilIface) (go_keep) (fail)
 go_wp2;refine bq (v:=.tuple #[.agg #[.int .i64 t.place,.string t.name,.slice A I D],.agg #[.int .i64 0,.string ⟨#[]⟩,.nilIface],cj 5]) (Ab results94 _ _ (w.heap.size+1) (w.heap.size+2) _ _ 110 159 _ _ _ rfl rfl rfl ?hB ?hC underlying110 rfl aw underlying159 rfl aw) rfl ?post
 case hB=>exact ⟨_,(cM U),bc⟩
 case hC=>exact ⟨_,(cM R),bc⟩
 case post=>exact ⟨rfl,(cd af)⟩
def rF(b sv ts tl s1 s2 w)(h:MC b w sv ts tl)(t)(aB:bW ts s1=some t)(r)(aF:bT t s2=some r):
  ∃D J I rl A rv,r∈t.rels/\RC b w (.slice D J I) t.rels rl/\bB b w r.body (.iface A rv)/\Calls prog 94 #[.agg #[sv],.string s1,.string s2] w fun e w'=>e=.returned (.tuple #[.agg #[.int .i64 t.place,.string t.name,.slice D J I],.agg #[.int .i64 r.place,.string r.name,.iface A rv],.nilIface])/\an w w':=by
 obtain ⟨D,J,I,rl,ac,ay⟩:=Oa b _ ts tl s1 _ h t aB;obtain ⟨A,rv,aG,aC,az⟩:=Ob b t.place t.name _ t rl s2 _ ac r aF;refine ⟨D,J,I,rl,A,rv,aC,ac,aG,?_⟩;obtain ⟨ad,mn,mc,rfl⟩:=h.form;have W0:an w (((w.alloc (aW ad mn mc)).alloc cY).alloc cI):=((bj.alloc aD _).alloc ar _).alloc aM _;have ae:=ai W0;have TB:=ai ((aE.new' (w.alloc (aW ad mn mc)) eX 110 (w.heap.size+1) ar).alloc cI);have af:=ai (aE.new' ((w.alloc (aW ad mn mc)).alloc cY) eC 159 (w.heap.size+2) ar);have C:=ai (ay _ W0);have aH:=ai (ac.below W0);have al:=ai az;go_enter func94,ntmps94;go_wp2_with fail;refine C.u.mono ?_;rintro e w1 ⟨rfl,Z⟩;have b1:=Z.alloc Z.size (bD t.place t.name D J I);have U:=ai (ae.u.trans (b1.mono ae.u.size));have ap:=ai (TB.u.below b1);have am:=ai (af.u.below b1);have ag:=ai (aE.new w1 (iy t.place t.name D J I) 110);have ax:=Z;have ak:=ai (al.u _ U.u);go_wp2_with fail;refine ak.u.mono ?_;rintro e Q ⟨rfl,ab⟩;have R:=ab.alloc ab.size (cE r.place r.name A rv);have ah:=ai (U.u.trans (R.mono U.u.size));have Y:=ai (ap.u.below R);have V:=ai (am.u.below R);have av:=ai (ag.u.below R);have au:=ai (aE.new Q (rh r.place r.name A rv) 159);have aI:=(af.u.below ax).lt;have l2:=(ag.u.below ab).lt
 try unfold cj
 go_wp2_with fail;generalize Q.alloc (cE r.place r.name A rv)=W at*;obtain ⟨t0,t1,t2⟩:=Y.u.three;obtain ⟨aO,aP,aQ⟩:=V.u.three;obtain ⟨aX,aY,aZ⟩:=av.u.three;obtain ⟨aR,aS,aV⟩:=au.u.three;have a6:=Y.u.fz;have a5:=V.u.fz;have aJ:¬(w.heap.size+1=w1.heap.size):=aj;have aK:¬(w.heap.size+1+1=w1.heap.size):=aj;have aL:¬(w.heap.size+1=Q.heap.size):=aj;have aN:¬(w.heap.size+1+1=Q.heap.size):=aj
 go_region_held3 (fun w'=>w'.cell? ⟨w1.heap.size,0,none⟩=some (.int .i64 t.place)/\w'.cell? ⟨w1.heap.size,1,none⟩=some (.string t.name)/\w'.cell? ⟨w1.heap.size,2,none⟩=some (.slice D J I)/\w'.cell? ⟨Q.heap.size,0,none⟩=some (.int .i64 r.place)/\w'.cell? ⟨Q.heap.size,1,none⟩=some (.string r.name)/\w'.cell? ⟨Q.heap.size,2,none⟩=some (.iface A rv)) (go_keep) (fail)
 go_wp2;refine bq (v:=.tuple #[.agg #[.int .i64 t.place,.string t.name,.slice D J I],.agg #[.int .i64 r.place,.string r.name,.iface A rv],.nilIface]) (Ab results94 _ _ (w.heap.size+1) (w.heap.size+2) _ _ 110 159 _ _ _ rfl rfl rfl ?hB ?hC underlying110 rfl aw underlying159 rfl aw) rfl ?post
 case hB=>exact ⟨_,(cM Y),bc⟩
 case hC=>exact ⟨_,(cM V),bc⟩
 case post=>exact ⟨rfl,(cd ah)⟩
section
abbrev py(a0:ae)(a1:ae):Array ag:=#[.string a0,.string a1]
def W5 (h:aA:=by
 simp only;go_enter func209,ntmps209;go_wp2_with fail;refine C.u.mono ?_;rintro e w1 ⟨rfl,D⟩;have A:=ai (UT.u.trans (D.mono UT.u.size));have sz:=A.u.size;unfold cj;go_wp2;go_ret;exact ⟨_,rfl,(cd A),hS.nil _ _⟩):aA:=h
def Oc (h:aA:=by
 go_wp2;go_roundw
 case rel=>exact ⟨k+1,aj,by go_num,below_drewN HB.u _,xh.u.drewN _,Hn⟩
 case measure=>simp [intOf];omega):aA:=h
def Od (h:aA:=by
 have A:¬((k:Int)<(l.length:Int)):=aj;go_wp2;go_ret;exact ⟨-1,rfl,by rw [qe.u];decide,HB.u⟩):aA:=h
def aX(ts:List Ty)(s:Sp):List Sp:=match bW ts s.1 with
 |none=>[]
 |some t=>match bT t s.2 with
  |none=>[]
  |some r=>dd ts t r r.body
def sW(b I ts tl s1 s2 w)(h:MC b w I ts tl):
  Calls prog 209 #[.agg #[I],.agg #[.string s1,.string s2]] w fun e' w'=>∃I,e'=.returned I/\an w w'/\hS w.heap.size w' I (aX ts (s1,s2)):=by
 obtain ⟨Z,mn,mc,rfl⟩:=h.form;have W0:an w ((w.alloc (aW Z mn mc)).alloc (jp s1 s2)):=(bj.alloc aD _).alloc ar _;have J:=ai (h.below W0);have ab:=ai ((aE.new w #[.slice Z mn mc] 75).alloc (jp s1 s2));have UT:=ai W0;unfold aX
 cases Y:bW ts s1 with
 |none=>
  have C:=ai (pu b _ ts tl s1 s2 _ J.u Y);exact W5
 |some t=>
  simp only
  cases ae:bT t s2 with
  |none=>
   obtain ⟨ag,aj,ah,V⟩:=pw b _ ts tl s1 s2 _ J.u t Y ae;have C:=ai V;exact W5
  |some r=>
   obtain ⟨ag,aj,ah,rl,aB,rv,ad,af,ay,V⟩:=rF b _ ts tl s1 s2 _ J.u t Y r ae;have C:=ai V;have okp:=af.okp r ad;have ap:=ai af;have au:=ai ay;have am:=ai ad;simp only;go_enter func209,ntmps209;go_wp2_with fail;refine C.u.mono ?_;rintro e w1 ⟨rfl,R⟩;have b1:=R.alloc R.size (bD t.place t.name ag aj ah);have Q:=b1.alloc b1.size (cE r.place r.name aB rv);have U:=ai (UT.u.trans (Q.mono UT.u.size));have av:=ai (ap.u.below Q);have al:=ai (J.u.below Q);have ac:=ai (au.u.but (But.of_below Q));have aF:w1.cell? ⟨w.heap.size,0,none⟩=some (.slice Z mn mc):=(ab.u.below R).cell rfl;have aG:=(ab.u.below R).lt;have aC:=U.u.size;go_wp2_with fail;refine (rE b _ ts tl t _ rl r _ r.body _ _ al.u av.u ac.u am.u ac.u okp).mono ?_;rintro e aI ⟨aH,rfl,ax,az⟩;have ak:=ai (U.u.trans (ax.mono U.u.size));have aw:=ai (az.base aC);go_wp2;go_ret;exact ⟨_,rfl,ak.u,aw.u⟩
def gO(a c:Sp):Bool:=eqs a.1 c.1&&eqs a.2 c.2
def Ym(a c x y w):(Op.equalIn 10000 291 (.agg #[.string a,.string c]) (.agg #[.string x,.string y])).run prog w=.ok (gO (a,c) (x,y)) w:=by
 have A:=underlying9;rw [show (10000:Nat)=9999+1 from rfl,run_equalIn_agg w 9999 291 _ _ aw aw];simp only [Program.fieldsOf,underlying291]
 go_simp
 rw [show gO (a,c) (x,y)=(decide (a.toList=x.toList)&&decide (c.toList=y.toList)) from by
  unfold gO eqs;rw [aO,aO,aO,aO];simp [Bool.beq_eq_decide_eq]]
 by_cases h1:a.toList=x.toList<;>by_cases h2:c.toList=y.toList<;>simp [h1,h2]
def Fs(w:af):∀n,(w.drewN n).heap=w.heap
 |0=>rfl
 |n+1=>rfl
variable {g:Nat}
def aE.drewN(h:aE w g cs T)(n):aE (w.drewN n) g cs T:=by unfold aE;rw [Fs];exact h
def KJ(x y xs ys w):(eqGuard .eql 291 x y (.agg xs) (.agg ys)).run prog w=.ok () w:=run_eqGuard_agg w .eql 291 x y xs ys aw
def UU(base v l x w)(ah:l.length<=10000000000000)(h:w.ownsRow base 291 2 v l.length (bp l)):
  Calls prog 224 #[v,.agg #[.string x.1,.string x.2]] w fun e w'=>∃n:Int,e=.returned (.int .i64 n)/\decide (0<=n)=l.any (fun y=>gO x y)/\an w w':=by
 obtain ⟨sa,sc,rfl⟩:=ax h;have H:=ai h;have ab:=Ym;have ac:=KJ;go_enter func224,ntmps224;go_wp2
 go_loopw [5,8] (fun u i wr=>∃k:Nat,k<=l.length/\i=.int .i64 k/\an w wr/\aE wr w.heap.size (py x.1 x.2) 291/\Hid (∀j,(h:j<l.length)->j<k->gO x l[j]=false)) (fun _ i _=>l.length-(intOf i).toNat)
 case atStart=>exact ⟨0,aj,rfl,bj.alloc aD _,aE.new _ _ _,ai (fun j e h=>aj)⟩
 case round=>
  obtain ⟨k,ae,rfl,I,J,D⟩:=hrel;have HB:=ai I;have xh:=ai J
  by_cases Q:k<l.length
  ·obtain ⟨g,c,e1,k0,k1⟩:=Row2.cell (ay (w':=wr) H.u (fun g cs f _ U=>I.block g (lt_of_some U))) k l[k] (aH Q);simp only [aI] at e1;obtain ⟨rfl,_,rfl⟩:=e1;obtain ⟨Z,b1⟩:=J.two;have ag:(k:Int)<(l.length:Int):=aj;have af:(0:Int)<=(k:Int):=aj
   cases C:gO x l[k]
   ·have R:gO (x.1,x.2) (l[k].1,l[k].2)=false:=C;have Hn:=ai (show ∀j,(h:j<l.length)->j<k+1->gO x l[j]=false from fun j h ad=>by
     by_cases e:j=k
     ·subst e;exact C
     exact ak D j h aj)
    go_wp2
    go_quiet (fail)
    exact Oc
   have R:gO (x.1,x.2) (l[k].1,l[k].2)=true:=C;have qe:=ai (cX.2 ⟨l[k],bn Q,C⟩:l.any (fun y=>gO x y)=true);go_wp2
   go_quiet (fail)
   go_wp2;go_ret;exact ⟨k,rfl,by rw [qe.u];simp,below_drewN HB.u _⟩
  have qe:=ai (show l.any (fun y=>gO x y)=false from by
   rw [jk];intro y Y;obtain ⟨j,V,rfl⟩:=dk Y;rw [ak D j V aj];simp)
  exact Od
def pz(base v l x w)(R:l.length<=10000000000000)(h:w.ownsRow base 291 2 v l.length (bp l)):
  Calls prog 176 #[v,.agg #[.string x.1,.string x.2]] w fun e w'=>e=.returned (.bool (l.any (fun y=>gO x y)))/\an w w':=by
 have C:=ai (fun w' (I:an w w')=>UU base v l x w' R (ay h (fun g cs f _ Q=>I.block g (lt_of_some Q))));obtain ⟨sa,sc,rfl⟩:=ax h;go_enter func176,ntmps176;go_wp2_with fail;refine (C.u _ (bj.alloc aD _)).mono ?_;rintro e w1 ⟨n,rfl,hn,J⟩;have A:=ai (((az _ w).alloc aD (jp x.1 x.2)).trans (J.mono ar));have D:=ai hn;go_wp2;go_ret;exact ⟨by rw [<-D.u];rfl,A.u⟩
def bo(a c):eqs a c=true↔a=c:=by
 unfold eqs;rw [dA]
 constructor
 ·intro h;rw [<-dj a,<-dj c,h]
 rintro rfl;rfl
def ql(a c):gO a c=true↔a=c:=by
 unfold gO;rw [Bool.and_eq_true,bo,bo];obtain ⟨h,A⟩:=a;obtain ⟨c1,c2⟩:=c;simp
end
section
abbrev mo:=@Bool.or_false
abbrev An:=@Nat.eq_zero_or_pos
def Xg (h:aA:=by
 intro V Z ac Y ad I C J D Q R A;have U:=ai (Yv.u.app hb bj I (fun h0=>by have:=C h0;first|exact this|exact .inr this) J D Q R (fun i hi ab=>by first|exact A i hi ab|exact A i hi));clear I C J D Q R A Yv SRC;go_wp2
 go_roundg k
 case measure=>omega
 case rel=>exact ⟨q++aX ts x,f++[x],V,Z,ac,Y,some ⟨g6,0,none⟩,U3,ar,ar,by simpa using U.u,ai ⟨aM,aM,sZ.u⟩⟩):aA:=h
def OZ(q:aU) (h:bF aU->aA:=by
 intro zq;intro g6 U3 w6 Xh FG aaT hgl6;have Uc:an w5 (w5.alloc (jp x.1 x.2)):=bj.alloc aD _;have U4:=ai (EU.u.grown hb Uc FG Xh (by simpa using aaT));have XB6:aE w6 wr.heap.size (py x.1 x.2) 291:=(FG.block wr.heap.size aM (fun e=>by have:=KY _ e.symm;omega)).trans (Xi.u.alloc _);obtain ⟨z0,z1⟩:=XB6.two;have zl:=XB6.lt;have m0:w6.cell? ⟨w.heap.size,0,none⟩=some (.slice ma mn mc):=U4.u.mb.cell rfl;have Yw:=ai (H.u.ns U4.u.ns U4.u.bel.size);clear Xh FG aaT hgl6 Uc XB6
 revert g6 U3 w6 U4 z0 z1 zl m0 Yw
 exact zq.1):aA:=h ⟨q⟩
def O0(q:aU) (h:bF aU->aA:=by
 intro zq;have hbx:an wr (wr.alloc (jp x.1 x.2)):=bj.alloc aD _;have HST:=ai (HT.u.below hb hbx);have XB:=ai (aE.new wr (py x.1 x.2) 291);have KY:∀q,(Value.slice fa f.length fc).ownBlock=some q->q<wr.heap.size:=fun q hq=>(HT.u.ro.lt q hq).2
 revert hbx HST XB KY
 exact zq.1):aA:=h ⟨q⟩
def O2(q:aU) (h:bF aU->aA:=by
 intro zq;have Yv:=ai (U4.u.below hb hb7);have SRC:=ai (show Src prog 2 288 (.slice na (aX ts x).length nc) (aX ts x).length (bp (aX ts x)) w7 from QR.src hrs.1);have O3:base<=w7.heap.size:=by have:=hb7.size;omega
 revert Yv SRC O3
 exact zq.1):aA:=h ⟨q⟩
def O6(q:aU) (h:bF aU->aA:=by
 intro zq;refine (pz _ _ f x _ aj HST.u.ro).mono ?_;rintro e w5 ⟨rfl,oP⟩;have EU:=ai (HST.u.below hb oP);have Xi:=ai (XB.u.below oP);obtain ⟨y0,y1⟩:=Xi.u.two;have yl:=Xi.u.lt;have s5:=EU.u.sz;clear oP
 revert w5 EU Xi y0 y1 yl s5
 exact zq.1):aA:=h ⟨q⟩
def NS(w w':af):Prop:=∀(g:Nat)(cs:Array ag)(T:TypeId)(f:Nat×Nat),w.heap[g]? =some (Obj.cells cs T f)->T≠291->w'.heap[g]? =w.heap[g]?
def NS.below(h:an w w'):NS w w':=fun g cs T f A _=>h.block g (lt_of_some A)
def NS.trans{x}(h:NS x y)(k:NS y z):NS x z:=fun g cs T f A C=>(k g cs T f ((h g cs T f A C).trans A) C).trans (h g cs T f A C)
variable {b:Nat}
def NS.g(h:NS w w'):oN b w w':=fun g cs f _ A=>h g cs _ f A au
def RC.ns{rl}(h:RC b w sv rs rl)(k:NS w w'):RC b w' sv rs rl:=
 ⟨h.fst,ay h.row (fun g cs f _ A=>k g cs _ f A au),fun p C=>bB.frame k.g _ _ (h.ex p C),h.len,h.okp,h.okg,h.wf⟩
def MC.ns{tl}(h:MC b w sv ts tl)(k:NS w w')(hs:w.heap.size<=w'.heap.size):MC b w' sv ts tl:=
 ⟨h.fst,ay h.row (fun g cs f _ A=>k g cs _ f A au),fun p C=>by obtain ⟨rl,D⟩:=h.rels p C;exact ⟨rl,D.ns k⟩,h.len,cK h.blt hs⟩
def eH(nd:Sp->List Sp)(f:List Sp):List Sp->Nat
 | []=>0
 |k::ks=>(if f.any (fun y=>gO k y) then 0 else (nd k).length)+eH nd f ks
def pF(nd f x):∀ks,eH nd (f++[x]) ks<=eH nd f ks
 | []=>bY _
 |k::ks=>by
  have h:=pF nd f x ks;simp only [eH,List.any_append]
  cases f.any (fun y=>gO k y)<;>simp
  ·split<;>omega
  exact h
def yi(nd f x)(C:f.any (fun y=>gO x y)=false):∀ks,x∈ks->(nd x).length+eH nd (f++[x]) ks<=eH nd f ks
 | [],h=>by simp at h
 |k::ks,h=>by
  have h1:=pF nd f x ks
  by_cases A:k=x
  ·subst A;have e:gO k k=true:=(ql k k).2 rfl;simp only [eH,List.any_append,C,Bool.false_or,List.any_cons,e,List.any_nil,mo,if_true,Bool.false_eq_true,aV];omega
  have h2:=yi nd f x C ks (by
   rcases List.mem_cons.1 h with e|e
   ·exact absurd e.symm A
   exact e)
  simp only [eH,List.any_append,List.any_cons,List.any_nil,mo];have e:gO k x=false:=by
   cases e:gO k x
   ·rfl
   exact absurd ((ql k x).1 e) A
  rw [e,mo];omega
def KZ(nd f x ks)(h:nd x=[]):(nd x).length+eH nd (f++[x]) ks<=eH nd f ks:=by
 have:=pF nd f x ks;rw [h]
 simpa using this
def gX(ts:List Ty):List Sp:=ts.flatMap fun t=>t.rels.map fun r=>(t.name,r.name)
def U5(ts s)(h:aX ts s≠ []):s∈gX ts:=by
 unfold aX at h
 split at h
 ·exact absurd rfl h
 rename_i t D
 split at h
 ·exact absurd rfl h
 rename_i r C;unfold gX;rw [bS];refine ⟨t,gj D,?_⟩;rw [aN];refine ⟨r,gj C,?_⟩;have e1:=(bo _ _).1 (List.find?_some (p:=fun t:Ty=>eqs t.name s.1) D);have A:=(bo _ _).1 (List.find?_some (p:=fun r:Rl=>eqs r.name s.2) C);obtain ⟨I,J⟩:=s;simp only at e1 A;rw [e1,A]
def rL(ts f x)(A:f.any (fun y=>gO x y)=false):(aX ts x).length+eH (aX ts) (f++[x]) (gX ts)<=eH (aX ts) f (gX ts):=by
 by_cases h:aX ts x=[]
 ·exact KZ _ _ _ _ h
 exact yi _ _ _ A _ (U5 ts x h)
def dQ(nd:Sp->List Sp):Nat->List Sp->List Sp->List Sp
 |0,_,f=>f
 |_+1,[],f=>f
 |k+1,x::q,f=>if f.any (fun y=>gO x y) then dQ nd k q f else dQ nd k (q++nd x) (f++[x])
def eK(ts:List Ty)(h:List Sp):Nat:=h.length+eH (aX ts) [] (gX ts)
def cL(ts:List Ty)(h:List Sp):List Sp:=dQ (aX ts) (eK ts h+1) h []
def hU(ts:List Ty)(h:List Sp)(x:Sp):Bool:=(cL ts h).any (fun y=>gO x y)
def FH{may}(h:w.keptBut w' may)(hi:i<w.heap.size)(D:∀j,¬may (.cell i j))(C:¬may (.map i)):w'.heap[i]? =w.heap[i]? :=by
 have A:=h.2.2 i hi
 revert A
 cases e1:w.heap[i]? with
 |none=>cases e2:w'.heap[i]? with
  |none=>simp
  |some o'=>intro A;exact A
 |some o=>cases e2:w'.heap[i]? with
  |none=>cases o<;>(intro A;exact A)
  |some o'=>
   cases o with
   |cells c t fr=>
    cases o' with
    |cells c' t' fr'=>
     rintro ⟨rfl,rfl,hs,hc⟩;have:c'=c:=Array.ext_getElem? (fun j=>hc j (D j));rw [this]
    |_=>intro A;exact A
   |map es cl=>
    cases o' with
    |map es' cl'=>
     intro A
     rcases A with A|⟨rfl,rfl⟩
     ·exact absurd A C
     rfl
    |_=>intro A;exact A
   |_=>intro A;exact A
structure QR(base:Nat)(w:af)(ao:Option Addr)(g off cap:Nat)(l:List Sp):Prop where
 came:Came w 2 ao g off l.length cap (bp l)
 max:cap<=maxLen
 at_:0<cap->base<=g
def QR.of_own{l}(h:w.ownsRow base 291 2 v l.length (bp l)):∃ao g cap,v=.slice ao l.length cap/\QR base w ao g 0 cap l/\(0<cap->v.ownBlock=some g):=by
 rcases h with ⟨h1,⟨rfl,h2⟩|⟨g,cap,D,rfl,I,C,J,Q,hs,R⟩⟩
 ·refine ⟨none,0,0,by rw [h2],⟨⟨aj,aj,aj,cu _,?_,by intro j A;omega⟩,by unfold maxLen;omega,aj⟩,aj⟩;intro j u A;have:=(List.getElem?_eq_some_iff.1 A).1;rw [cu] at this;omega
 refine ⟨_,g,cap,rfl,⟨⟨J,fun _=>rfl,fun _=>lt_of_some C,cu _,?_,?_⟩,Q,fun _=>I⟩,fun _=>rfl⟩
 ·intro j u A;have U:=(List.getElem?_eq_some_iff.1 A).1;rw [<-R,List.getElem?_take] at A
  split at A
  ·simp [World.cell?,C] at A ⊢;exact A
  simp at A
 intro j A;have:0+l.length*2+j<D.size:=by rw [hs];rw [Nat.sub_mul] at A;omega
 refine ⟨?_,?_⟩
 ·simp [World.cell?,C];omega
 simp [World.frozen?,C]
def QR.frame{g l}(h:QR base w ao g off cap l)(C:0<cap->w'.heap[g]? =w.heap[g]?)(hs:w.heap.size<=w'.heap.size):QR base w' ao g off cap l:=by
 obtain ⟨hc,J,ha⟩:=h;refine ⟨⟨hc.le,hc.addr,fun h0=>cK (hc.lt h0) hs,hc.oldsLen,?_,?_⟩,J,ha⟩
 ·intro j u A;have I:=(List.getElem?_eq_some_iff.1 A).1;have h0:0<cap:=by have:=hc.le;rw [cu] at I;omega
  exact (ji (a:=⟨g,off+j,none⟩) (C h0)).trans (hc.olds j u A)
 intro j A;have h0:0<cap:=by
  rcases An cap with e|e
  ·subst e;simp at A
  exact e
 have e1:=ji (a:=⟨g,off+l.length*2+j,none⟩) (C h0);have D:=World.frozen?_of_block (a:=⟨g,off+l.length*2+j,none⟩) (C h0);rw [e1,D];exact hc.spare j A
def QR.head{g x l}(h:QR base w ao g off cap (x::l)):0<cap/\ao=some ⟨g,off,none⟩/\w.cell? ⟨g,off,none⟩=some (.string x.1)/\w.cell? ⟨g,off+1,none⟩=some (.string x.2):=by
 have h0:0<cap:=by have:=h.came.le;simp at this;omega
 refine ⟨h0,h.came.addr h0,?_,?_⟩
 ·exact h.came.olds 0 _ (by simp [bp,Cr])
 exact h.came.olds 1 _ (by simp [bp,Cr])
def QR.tail{g x l}(h:QR base w ao g off cap (x::l))(U6)(ha:0<cap-1->U6=some ⟨g,off+2,none⟩):QR base w U6 g (off+2) (cap-1) l:=by
 obtain ⟨hc,I,C⟩:=h;have D:=hc.le;simp only [List.length_cons] at D;refine ⟨⟨aj,ha,fun h0=>hc.lt aj,cu _,?_,?_⟩,aj,fun h0=>C aj⟩
 ·intro j u A;rw [show off+2+j=off+(j+2) by omega];exact hc.olds (j+2) u (by simpa [bp,Cr] using A)
 intro j A;have:=hc.spare j (by simp only [List.length_cons];rw [show cap-(l.length+1)=cap-1-l.length by omega];exact A);simp only [List.length_cons] at this;rw [show off+2+l.length*2+j=off+(l.length+1)*2+j by omega];exact this
def QR.app{g r q}(h:QR base w ao g off cap q)(R:base<=w.heap.size)(C:Upon w 291 2 ao g off q.length cap (bp q) w' v' nl.length (bp nl) r):
  ∃J g' Z D,v'=.slice J (q++nl).length D/\QR base w' J g' Z D (q++nl)/\(0<D->(0<cap/\g'=g)\/w.heap.size<=g'):=by
 have U:=C.kept.size
 rcases C.val with ⟨V,hv,Y⟩|⟨ab,Q,c2,hv,ho⟩
 ·refine ⟨ao,g,off,cap,by rw [hv,List.length_append],⟨⟨by rw [List.length_append];exact V,h.came.addr,fun h0=>cK (h.came.lt h0) U,cu _,?_,?_⟩,h.max,h.at_⟩,fun h0=> .inl ⟨h0,rfl⟩⟩
  ·intro j u A;have I:=(List.getElem?_eq_some_iff.1 A).1;rw [cu,List.length_append] at I;have h0:0<cap:=aj;rw [C.inArray h.came h0 Y j aj,<-ea];exact A
  intro j A;rw [List.length_append] at A ⊢;have h0:0<cap:=by
   rcases An cap with e|e
   ·subst e;simp at A
   exact e
  have hs:=h.came.spare (nl.length*2+j) (by rw [Nat.sub_mul] at A ⊢;omega);rw [show off+(q.length+nl.length)*2+j=off+q.length*2+(nl.length*2+j) by omega];have ad:=C.ksLen;rw [C.old (h.came.lt h0) (fun j' ac ⟨_,e⟩=>aj),C.frozen _ (h.came.lt h0)];exact hs
 ·refine ⟨_,Q,0,c2,by rw [hv,List.length_append],⟨⟨by rw [List.length_append];exact ho.le,fun _=>rfl,?_,cu _,?_,?_⟩,ho.max,fun _=>aP R ho.new⟩,fun _=> .inr ho.new⟩
  ·intro h0;have:=(ho.there 0 aj).1;exact World.block_lt_of_cell? _ _ (Option.isSome_iff_exists.1 this).choose_spec
  ·intro j u A;have I:=(List.getElem?_eq_some_iff.1 A).1;rw [cu,List.length_append] at I;rw [Nat.zero_add,ho.holds j aj,<-ea];exact A
  intro j A;rw [List.length_append,Nat.sub_mul] at A;rw [List.length_append];exact ho.there _ aj
def QR.others{g len r q ks}(h:Upon w 291 2 ao g off len cap q w' v' n ks r)(hi:i<w.heap.size)(C:0<cap->i≠g):w'.heap[i]? =w.heap[i]? :=by
 refine FH h.kept hi ?_ ?_
 ·rintro j ⟨j',A,e⟩;have h0:=h.capPos A;injection e with e1 D
  exact C h0 e1
 rintro ⟨j',A,e⟩
 cases e
def QR.src{l}(h:w.ownsRow base 291 2 sv l.length (bp l)):Src prog 2 288 sv l.length (bp l) w:=by
 rcases h with ⟨h1,⟨rfl,h2⟩|⟨g,cap,I,rfl,J,C,Q,U,hs,D⟩⟩
 ·have:l=[]:=List.eq_nil_of_length_eq_zero h2;subst this;exact Src.ofNil w underlying288 0
 refine Src.ofSlice w underlying288 _ _ _ _ (cu _) ?_ (N5 l);intro j u A;have R:=(List.getElem?_eq_some_iff.1 A).1;rw [<-D,List.getElem?_take] at A
 split at A
 ·rw [Addr.add_lit];simp [World.cell?,C] at A ⊢;exact A
 simp at A
def oR(b):∀(h:List ag)(o:Nat)(w:af),(w.setCells b o h).tape=w.tape
 | [],_,_=>rfl
 |v::r,o,w=>(oR b r (o+1) _).trans ((az 0 w).setCell (p:=⟨b,o,none⟩) (Nat.zero_le _) v).tape
def Ao(D:P.underlying 288=some (.slice 291)){g q}(h:QR base w ao g off cap q)(ty i z)(hi:P.info? 291=some i)(J:i.zero=some z)(A:i.size=2)(I:i.bytes=32)(V:z.cells.size=2)(x)(hs:Src P 2 288 x nl.length (bp nl) w)(Z:q.length+nl.length<=4000000000000):
  ∃v' w',(Builtin.append_ #[288,288] ty #[.slice ao q.length cap,x]).run P w=.ok v' w'/\Upon w 291 2 ao g off q.length cap (bp q) w' v' nl.length (bp nl) (Upon.next q.length cap 2 0 0 nl.length)/\w'.tape=w.tape:=by
 obtain ⟨v',w',e,Q⟩:=run_append_upon (P:=P) h.came 288 288 ty i z 32 D hi J A I V (Upon.start h.came) x nl.length (bp nl) hs gz aj;refine ⟨v',w',e,by simpa using Q,?_⟩;have Y:=cu nl
 by_cases U:q.length+nl.length<=cap
 ·by_cases h0:0<cap
  ·have R:=h.came.addr h0;subst R;have:=run_append_room_src (P:=P) (w:=w) 288 288 ty 291 i D hi g off q.length cap x nl.length (bp nl) (by rw [A];exact hs) U
    (fun j C=>by rw [A];exact (h.came.spare j (by rw [Nat.sub_mul];omega)).1) (fun j C=>by rw [A];exact (h.came.spare j (by rw [Nat.sub_mul];omega)).2)
   rw [e] at this;injection this with h1 h2
   rw [h2];exact oR _ _ _ _
  have hn:nl=[]:=List.eq_nil_of_length_eq_zero aj;subst hn;have:=run_append_nothing (P:=P) w 288 288 ty 291 i D hi ao q.length cap h.came.le x (by rw [A];exact hs);rw [e] at this;injection this with h1 h2
  rw [h2]
 ·have hold:(Builtin.firstCells i.size q.length (.slice ao q.length cap)).run P w.drew=.ok (bp q).toArray w.drew:=by
   rw [A]
   by_cases h0:0<cap
   ·rw [h.came.addr h0];exact run_firstCells_some w.drew 2 q.length _ _ _ _ (cu _) (fun j v C=>by rw [Addr.add_lit];exact h.came.olds j v C)
   have ab:=h.came.le;have hn:q=[]:=List.eq_nil_of_length_eq_zero aj;subst hn
   cases ao with
   |none=>exact run_firstCells_none _ _ _ _ _
   |some a=>exact run_firstCells_some w.drew 2 0 _ _ _ [] ar (fun j v C=>by simp at C)
  have:=run_append_grow_src (P:=P) (w:=w) 288 288 ty 291 i z D hi J ao q.length cap (bp q) hold x nl.length (bp nl) (by rw [A];exact hs) aj aj (growslice_fits aj (by rw [I];omega));rw [e] at this;injection this with h1 h2
  rw [h2]
  rfl
def mP(Z:P.underlying 288=some (.slice 291)){U:Array Oper}{o:Oper}{a:Act}{Q:Exit->Act->af->Prop}(ae:o.guard=none)(s x:Operand)
  (ho:o.op=.call {callee:=.builtin .append,args:=#[s,x],argTypes:=#[288,288]}) {g:Nat} {D:List Sp} (h:QR base w ao g off cap D)
  (i:TypeInfo) (z:ag) (hi:P.info? 291=some i) (ar:i.zero=some z) (al:i.size=2) (ac:i.bytes=32) (au:z.cells.size=2) (an:a.eval s=.slice ao D.length cap)
  (R:ag) (ap:a.eval x=R) (hs:Src P 2 288 R nl.length (bp nl) w) (ah:D.length+nl.length<=4000000000000) (ab:base<=w.heap.size)
  (V:∀I g' J C w',QR base w' I g' J C (D++nl)->(0<C->(0<cap/\g'=g)\/w.heap.size<=g')->w.heap.size<=w'.heap.size->w'.os=w.os->w'.tape=w.tape->w'.output=w.output->(∀i,i<w.heap.size->(0<cap->i≠g)->w'.heap[i]? =w.heap[i]?)->wpList P U Q rest (a.put o.dst (.slice I (D.length+nl.length) C)) w'):wpList P U Q (o::rest) a w:=by
 refine wpList_plain ae fun K Y=> ?_
 obtain ⟨v',w',ak,A,am⟩:=Ao Z h o.type i z hi ar al ac au R hs ah;unfold Oper.wp;simp [execOp,ho,resolve,invoke,builtin,an,ap,ak,Result.andThen];obtain ⟨I,g',J,C,rfl,aj,ad⟩:=h.app ab A;refine Y _ _ ?_;rw [List.length_append];exact V I g' J C w' aj ad A.kept.size A.kept.1 am A.kept.2.1 (fun i hi ai=>QR.others A hi ai)
def cC(h:w.ownsRow base e size v n xs)
  (k:∀g cs f,v.ownBlock=some g->w.heap[g]? =some (.cells cs e f)->w'.heap[g]? =w.heap[g]?):w'.ownsRow base e size v n xs:=by
 obtain ⟨h1,h2⟩:=h;refine ⟨h1,?_⟩
 rcases h2 with h2|⟨g,cap,A,hv,D,C,r⟩
 ·exact Or.inl h2
 ·exact Or.inr ⟨g,cap,A,hv,D,(k g A (0,0) (by rw [hv];rfl) C).trans C,r⟩
def pG(nd):∀(k:Nat)(q f:List Sp),(dQ nd k q f).length<=f.length+k
 |0,_,f=>by simp [dQ]
 |k+1,[],f=>by simp [dQ]
 |k+1,x::q,f=>by
  simp only [dQ]
  split
  ·have:=pG nd k q f;omega
  have:=pG nd k (q++nd x) (f++[x]);simp at this;omega
def s6(ts l0):(cL ts l0).length<=eK ts l0+1:=by
 have:=pG (aX ts) (eK ts l0+1) l0 []
 simpa [cL] using this
def CC(nd n)(h:∀k,(nd k).length<=n)(f):∀ks,eH nd f ks<=ks.length*n
 | []=>by simp [eH]
 |k::ks=>by
  have h1:=CC nd n h f ks;have h2:=h k;simp only [eH,List.length_cons,Nat.add_mul,Nat.one_mul]
  split<;>omega
structure FI(base:Nat)(w wr:af)(mv:ag)(ao:Option Addr)(g off cap:Nat)(q:List Sp)(fv:ag)(f:List Sp):Prop where
 bel:Below base w wr
 ns:NS w wr
 sz:w.heap.size+1<=wr.heap.size
 mb:aE wr w.heap.size #[mv] 75
 qr:QR base wr ao g off cap q
 ro:wr.ownsRow w.heap.size 291 2 fv f.length (bp f)
 far:0<cap->g≠w.heap.size
 old:0<cap->∀cs T fr,w.heap[g]? =some (.cells cs T fr)->T=291
 ne:0<cap->fv.ownBlock≠some g
section
variable {base:Nat}{w wr w':af}{mv:ag}{ao:Option Addr}{g off cap:Nat}{q:List Sp}{fv:ag}{f:List Sp}
def FI.below(h:FI base w wr mv ao g off cap q fv f)(C:base<=w.heap.size)(k:an wr w'):FI base w w' mv ao g off cap q fv f:=
 have h2:=h.sz
 ⟨h.bel.trans (k.mono aj),h.ns.trans (NS.below k),aP h.sz k.size,h.mb.below k,h.qr.frame (fun h0=>k.block g (h.qr.came.lt h0)) k.size,ay h.ro (fun g cs f _ A=>k.block g (lt_of_some A)),h.far,h.old,h.ne⟩
def FI.tail{x}(h:FI base w wr mv ao g off cap (x::q) fv f)(U6)(ha:0<cap-1->U6=some ⟨g,off+2,none⟩):FI base w wr mv U6 g (off+2) (cap-1) q fv f:=
 ⟨h.bel,h.ns,h.sz,h.mb,h.qr.tail U6 ha,h.ro,fun h0=>h.far aj,fun h0=>h.old aj,fun h0=>h.ne aj⟩
def FI.grown{w6 cap' y}(h:FI base w wr mv ao g off cap q fv f)(J:base<=w.heap.size)(k:an wr W)(C:W.grownBy w6 fv.ownBlock)(V:w6.ownsRow w.heap.size 291 2 (.slice (some ⟨g',0,none⟩) (f.length+1) cap') (f.length+1) (bp f++Cr y))(R:fv.ownBlock=some g'\/g'=W.heap.size):FI base w w6 mv ao g off cap q (.slice (some ⟨g',0,none⟩) (f.length+1) cap') (f++[y]):=by
 have A:=h.below J k;have Y:=A.sz;refine ⟨ct A.bel C aj (fun k U=>aP J (A.ro.lt k U).1),?_,?_,?_,?_,?_,h.far,h.old,?_⟩
 ·intro q cs T fr D Q;have e:=A.ns q cs T fr D Q;exact (C.block q (lt_of_some (e.trans D)) (dH A.ro (e.trans D) Q)).trans e
 ·have:=C.size;omega
 ·exact (C.block _ A.mb.lt (own_ne A.ro A.mb au)).trans A.mb
 ·exact A.qr.frame (fun h0=>C.block g (A.qr.came.lt h0) (fun e=>A.ne h0 e.symm)) C.size
 ·rw [List.length_append,ea,show bp [y]=Cr y from by simp [bp]];exact V
 ·intro h0 e;simp only [Value.ownBlock,aL] at e
  rcases R with I|I
  ·exact h.ne h0 (by rw [I,e])
  have:=A.qr.came.lt h0;omega
def FI.app{U6 off' cap'}(h:FI base w wr mv ao g off cap q fv f)(V:base<=w.heap.size)(k:an wr W)(Y:QR base w' U6 g' off' cap' (q++nl))(Q:0<cap'->(0<cap/\g'=g)\/W.heap.size<=g')(hs:W.heap.size<=w'.heap.size)(ho:w'.os=W.os)(I:w'.tape=W.tape)(Z:w'.output=W.output)(D:∀i,i<W.heap.size->(0<cap->i≠g)->w'.heap[i]? =W.heap[i]?):FI base w w' mv U6 g' off' cap' (q++nl) fv f:=by
 have C:=h.below V k;have ab:=C.sz;have U:Below base W w':=⟨ho,I,Z,hs,fun j R=>D j aj (fun h0 e=>by have:=h.qr.at_ h0;omega)⟩;refine ⟨C.bel.trans U,?_,aj,?_,Y,?_,?_,?_,?_⟩
 ·intro j cs T fr A I;have e:=C.ns j cs T fr A I;refine (D j (lt_of_some (e.trans A)) (fun h0 J=> ?_)).trans e;subst J;exact I (h.old h0 cs T fr A)
 ·exact (D _ C.mb.lt (fun h0 e=>h.far h0 e.symm)).trans C.mb
 ·refine cC C.ro (fun j cs fr R A=>D j (lt_of_some A) (fun h0 J=> ?_));subst J;exact h.ne h0 R
 ·intro h0
  rcases Q h0 with ⟨h1,rfl⟩|h1
  ·exact h.far h1
  omega
 ·intro h0 cs T fr A
  rcases Q h0 with ⟨h1,rfl⟩|h1
  ·exact h.old h1 cs T fr A
  have:=lt_of_some A;omega
 ·intro h0 e
  rcases Q h0 with ⟨h1,rfl⟩|h1
  ·exact h.ne h1 e
  have:=(C.ro.lt _ e).2;omega
end
def nB(b base sv ts tl fv l0 w)(h:MC b w sv ts tl)(aG:w.ownsRow base 291 2 fv l0.length (bp l0))(hb:base<=w.heap.size)(bb:eK ts l0<=2000000000000):
  Calls prog 151 #[.agg #[sv],fv] w fun e' w'=>∃v',e'=.returned v'/\Below base w w'/\NS w w'/\w'.ownsRow w.heap.size 291 2 v' (cL ts l0).length (bp (cL ts l0)):=by
 obtain ⟨i0,hi,aP,aQ,aR⟩:=bK Tryz.info291;have ax:=ai hi;have ay:=ai aP;have az:=ai aQ;have aB:=ai aR;clear hi aP aQ aR;obtain ⟨ma,mn,mc,rfl⟩:=h.form;obtain ⟨ao,g,cap,rfl,hq,aZ⟩:=QR.of_own aG;have H:=ai h;generalize am:cL ts l0=aO;have aK:=ai (show dQ (aX ts) (eK ts l0+1) l0 []=aO from am);have aC:=ai (show l0.length+eH (aX ts) [] (gX ts)<=eK ts l0 from bY _);have W0:an w (w.alloc (aW ma mn mc)):=bj.alloc aD _;have aN:=ai (show FI base w (w.alloc (aW ma mn mc)) (.slice ma mn mc) ao g 0 cap l0 (.slice none 0 0) [] from
  ⟨W0.mono hb,NS.below W0,ar,aE.new w _ _,hq.frame (fun h0=>W0.block g (hq.came.lt h0)) W0.size,bL,fun h0=>by have:=hq.came.lt h0;omega,fun h0 cs T fr aJ=>by
   rcases aG with ⟨_,⟨e,_⟩|⟨g',a9,ba,e,_,a4,_⟩⟩
   ·simp only [aI] at e;omega
   simp only [aI] at e;have aF:=hq.came.addr h0;rw [e.1] at aF;simp only [aL,ce] at aF;rw [<-aF.1,a4] at aJ;simp only [aL,Obj.cells.injEq] at aJ;exact aJ.2.1.symm,fun h0 e=>by cases e⟩)
 have a3:=hq.came.le;clear h aG am W0 hq aZ;go_enter func151,ntmps151;go_wp2_with fail
 go_loopg [1,5] (eK ts l0+1) (fun k a7 a8 wr=>∃(q f:List Sp)(ao:Option Addr)(g off cap:Nat)(fa:Option Addr)(fc:Nat),a7=.slice ao q.length cap/\a8=.slice fa f.length fc/\FI base w wr (.slice ma mn mc) ao g off cap q (.slice fa f.length fc) f/\Hid (f.length+(q.length+eH (aX ts) f (gX ts))<=eK ts l0/\q.length+eH (aX ts) f (gX ts)<k/\dQ (aX ts) k q f=aO))
 case atStart=>exact ⟨l0,[],ao,g,0,cap,none,0,rfl,rfl,aN.u,ai ⟨by simpa using aC.u,by have:=aC.u;omega,aK.u⟩⟩
 case round=>
  clear aN aC aK a3;obtain ⟨q,f,ao,g,off,cap,fa,fc,rfl,rfl,ap,af⟩:=hrel;have a5:=(ak af).2.1;obtain ⟨k,rfl⟩:∃k,gk=k+1:=⟨gk-1,aj⟩;clear a5;have al:=ai ap;have bf:=ap.sz
  cases q with
  |nil=>
   have am:=(ak af).2.2;simp only [dQ] at am;have aS:=ai am;clear ap am af;go_wp2;go_ret;rw [<-aS.u];exact ⟨_,rfl,al.u.bel,al.u.ns,al.u.ro⟩
  |cons x q=>
   obtain ⟨bc,rfl,c0,c1⟩:=ap.qr.head;have aY:=ap.qr.came.le;have be:f.length+(q.length+1)<=2000000000000:=by have:=(ak af).1;simp at this;omega
   simp only [List.length_cons] at aY;clear ap;go_wp2_with fail
   ·subst h;have HT:=ai (show FI base w wr (.slice ma mn mc) (some ⟨g,off,none⟩) g (off+2) 0 q (.slice fa f.length fc) f from al.u.tail (some ⟨g,off,none⟩) (fun h=>aj));clear al;refine O0 ?_;intro hbx HST XB KY;have aH:0<0->g<wr.heap.size:=fun h0=>HT.u.qr.came.lt h0
    clear hbx c0 c1;refine O6 ?_;intro w5 EU Xi y0 y1 yl s5;clear XB HST HT
    cases ha:f.any (fun z=>gO x z)
    ·obtain ⟨ag,ah,ae⟩:=ak af;simp only [dQ,ha,Bool.false_eq_true,aV] at ae;have hrs:=rL ts f x ha;have sZ:=ai ae;have av:f.length+1+(q.length+(aX ts x).length+eH (aX ts) (f++[x]) (gX ts))<=eK ts l0:=by simp at ag;omega
     have aw:q.length+(aX ts x).length+eH (aX ts) (f++[x]) (gX ts)<k:=by simp at ah;omega
     clear ag ah ae hrs af ha;go_wp2_with (at_builtin;go_must (refine bI _ rfl _ _ 288 rfl w.heap.size 291 i0 _ 2 32 underlying288 ax.u ay.u az.u aB.u rfl au (.slice fa f.length fc) f.length (bp f) rfl ?lA ⟨w5.heap.size,0,none⟩ 1 1 (Cr x) rfl rfl ?gK ?jX au ?pi ?eZ ?gL (w5.heap.size+1) ?Fo ?jn))
     case lA=>exact (EU.u.ro).alloc _
     case gK=>exact bu (B:=w5.heap.size) (cs:=#[.string x.1,.string x.2]) (t:=291) (fr:=(0,0)) (aE.new w5 _ _)
     case jX=>
      exact uR
     case pi=>unfold maxLen;omega
     case eZ=>omega
     case gL=>simp;omega
     case Fo=>simp
     refine OZ ?_;intro g6 U3 w6 U4 z0 z1 zl m0 Yw;clear EU Xi y0 y1 yl s5 KY aH;go_wp2_with fail;refine (sW b _ ts tl x.1 x.2 _ Yw.u).mono ?_;rintro e w7 ⟨a6,rfl,hb7,hrs⟩;obtain ⟨na,nc,rfl⟩:=hrs.form;refine O2 ?_;intro Yv SRC O3;clear hb7 hrs U4 Yw z0 z1 zl m0;go_wp2_with (at_builtin;go_must (refine mP underlying288 rfl _ _ rfl Yv.u.qr i0 _ ax.u ay.u az.u aB.u rfl rfl (.slice na (aX ts x).length nc) rfl SRC.u ?hlB O3 ?hKB))
     case hlB=>omega
     exact Xg
    obtain ⟨ag,ah,ae⟩:=ak af;simp only [dQ,ha,if_true] at ae;have sZ:=ai ae;have av:f.length+(q.length+eH (aX ts) f (gX ts))<=eK ts l0:=by simp at ag;omega
    have aw:q.length+eH (aX ts) f (gX ts)<k:=by simp at ah;omega
    clear ag ah ae af ha;go_wp2
    go_roundg k
    case measure=>omega
    case rel=>exact ⟨q,f,_,g,off+2,0,fa,fc,rfl,rfl,EU.u,ai ⟨av,aw,sZ.u⟩⟩
   have HT:=ai (al.u.tail (some ⟨g,off+2,none⟩) (fun h=>rfl));clear al h;refine O0 ?_;intro hbx HST XB KY;have aH:0<cap-1->g<wr.heap.size:=fun h0=>HT.u.qr.came.lt h0
   clear hbx c0 c1;refine O6 ?_;intro w5 EU Xi y0 y1 yl s5;clear XB HST HT
   cases ha:f.any (fun z=>gO x z)
   ·obtain ⟨ag,ah,ae⟩:=ak af;simp only [dQ,ha,Bool.false_eq_true,aV] at ae;have hrs:=rL ts f x ha;have sZ:=ai ae;have av:f.length+1+(q.length+(aX ts x).length+eH (aX ts) (f++[x]) (gX ts))<=eK ts l0:=by simp at ag;omega
    have aw:q.length+(aX ts x).length+eH (aX ts) (f++[x]) (gX ts)<k:=by simp at ah;omega
    clear ag ah ae hrs af ha;go_wp2_with (at_builtin;go_must (refine bI _ rfl _ _ 288 rfl w.heap.size 291 i0 _ 2 32 underlying288 ax.u ay.u az.u aB.u rfl au (.slice fa f.length fc) f.length (bp f) rfl ?uI ⟨w5.heap.size,0,none⟩ 1 1 (Cr x) rfl rfl ?l8 ?nj au ?nk ?ew ?l9 (w5.heap.size+1) ?UL ?jm))
    case uI=>exact (EU.u.ro).alloc _
    case l8=>exact bu (B:=w5.heap.size) (cs:=#[.string x.1,.string x.2]) (t:=291) (fr:=(0,0)) (aE.new w5 _ _)
    case nj=>
     exact uR
    case nk=>unfold maxLen;omega
    case ew=>omega
    case l9=>simp;omega
    case UL=>simp
    refine OZ ?_;intro g6 U3 w6 U4 z0 z1 zl m0 Yw;clear EU Xi y0 y1 yl s5 KY aH;go_wp2_with fail;refine (sW b _ ts tl x.1 x.2 _ Yw.u).mono ?_;rintro e w7 ⟨a6,rfl,hb7,hrs⟩;obtain ⟨na,nc,rfl⟩:=hrs.form;refine O2 ?_;intro Yv SRC O3;clear hb7 hrs U4 Yw z0 z1 zl m0;go_wp2_with (at_builtin;go_must (refine mP underlying288 rfl _ _ rfl Yv.u.qr i0 _ ax.u ay.u az.u aB.u rfl rfl (.slice na (aX ts x).length nc) rfl SRC.u ?hlA O3 ?hKA))
    case hlA=>omega
    exact Xg
   obtain ⟨ag,ah,ae⟩:=ak af;simp only [dQ,ha,if_true] at ae;have sZ:=ai ae;have av:f.length+(q.length+eH (aX ts) f (gX ts))<=eK ts l0:=by simp at ag;omega
   have aw:q.length+eH (aX ts) f (gX ts)<k:=by simp at ah;omega
   clear ag ah ae af ha;go_wp2
   go_roundg k
   case measure=>omega
   case rel=>exact ⟨q,f,_,g,off+2,cap-1,fa,fc,rfl,rfl,EU.u,ai ⟨av,aw,sZ.u⟩⟩
end
section
abbrev kY:=@List.take_length
def aaV (h:aA:=by
 have:=HUL.u _ hnl;have:=s6 ts (dd ts t r yq);omega):aA:=h
def O7 (h:aA:=by
 rw [U7] at kc;go_wp2;exact O8):aA:=h
def FJ (h:aA:=by
 subst hv;go_wp2;exact O8):aA:=h
def O9 (h:aA:=by
 simp only [cq,List.length_append,List.length_cons,Nat.add_mul,Nat.one_mul];omega):aA:=h
def O8 (h:aA:=by
 go_roundw
 case rel=>exact ⟨k+1,aj,by go_num,HB.u,kP⟩
 case measure=>simp [intOf];omega):aA:=h
def lF(ts:List Ty)(t:Ty)(r:Rl)(p:Ex):Option Nat:=match p.l,p.r with
 |some _,some y=>if gy p.nd.kind=246 then (if hU ts (dd ts t r y) (t.name,r.name) then some p.nd.place else none) else none
 |_,_=>none
def jr(ts:List Ty)(t:Ty)(r:Rl):Option Nat:=(aC r.body).findSome? (lF ts t r)
def nC(nd x y):∀(e:Ex),⟨nd,some x,some y⟩∈aC e->(aC y).length<=(aC e).length
 |⟨n,some a,some c⟩,h=>by
  simp only [aC] at h ⊢;rw [aQ,aQ,aR] at h;simp only [List.length_append]
  rcases h with (h|h)|h
  ·have:=nC nd x y a h;omega
  ·simp only [Ex.mk.injEq,aL] at h;rw [h.2.2];omega
  have:=nC nd x y c h;omega
 |⟨n,none,c⟩,h=>by
  unfold aC at h;simp at h
 |⟨n,some a,none⟩,h=>by
  unfold aC at h;simp at h
variable {b:Nat}
def yj{rl}(ts t)(h:RC b w tv t.rels rl)(r)(A:r∈t.rels)(e)(C:(aC e).length<=1000):(dd ts t r e).length<=1000000:=by
 have:=N9 ts t h r (h.okg r A) e (aC e).length;unfold NK at this;rw [kY] at this;unfold dd;omega
def hV{α β:Type}(f:α->List β)(n):∀(l:List α),(∀a∈l,(f a).length<=n)->(l.flatMap f).length<=l.length*n
 | [],_=>ar
 |a::l,h=>by
  have h1:=h a ar;have h2:=hV f n l (fun a ha=>h a (by simp [ha]));exact O9
def FK{tl}(h:MC b w sv ts tl)(s):(aX ts s).length<=1000000:=by
 unfold aX
 split
 ·simp
 rename_i t C
 split
 ·simp
 rename_i r A;have C:=gj C;have A:=gj A;rw [<-h.fst,aN] at C;obtain ⟨p,I,rfl⟩:=C;obtain ⟨rl,D⟩:=h.rels p I;exact yj ts p.1 D r A r.body (D.okp r A)
def U8{tl}(h:MC b w sv ts tl):(gX ts).length<=1000000:=by
 have:=hV (fun t=>t.rels.map fun r=>(t.name,r.name)) 1000 ts (fun t A=>by
  rw [<-h.fst,aN] at A;obtain ⟨p,C,rfl⟩:=A;obtain ⟨rl,D⟩:=h.rels p C;have:=D.len
  simpa using this)
 have I:=h.len;unfold gX;omega
def rM{tl}(h:MC b w sv ts tl)(l0)(A:l0.length<=1000000):eK ts l0<=1000001000000:=by
 have h1:=CC (aX ts) 1000000 (FK h) [] (gX ts);have h2:=U8 h;unfold eK;omega
def vh(b sv ts tl t tv rl r bv w)(h:MC b w sv ts tl)(aF:RC b w tv t.rels rl)(bg:bB b w r.body bv)(aV:r∈t.rels):
  Calls prog 118 #[.agg #[sv],.agg #[.int .i64 t.place,.string t.name,tv],.agg #[.int .i64 r.place,.string r.name,bv]] w fun e' w'=>e'=.returned (iW 6 (jr ts t r))/\an w w':=by
 obtain ⟨R,mn,mc,rfl⟩:=h.form;obtain ⟨ag,al,ah,rfl⟩:=aF.form;obtain ⟨af,rv,rfl⟩:=bg.isI;have W0:an w (((w.alloc (aW R mn mc)).alloc (bD t.place t.name ag al ah)).alloc (cE r.place r.name af rv)):=((bj.alloc aD _).alloc ar _).alloc aM _;have a7:=ai (h.below W0);have br:=ai (aF.below W0);have bb:=ai (bg.but (But.of_below W0));have bw:=ai (((aE.new w #[.slice R mn mc] 75).alloc (bD t.place t.name ag al ah)).alloc (cE r.place r.name af rv));have bJ:=ai ((aE.new' (w.alloc (aW R mn mc)) (iy t.place t.name ag al ah) 110 (w.heap.size+1) ar).alloc (cE r.place r.name af rv));have bC:=ai (aE.new' ((w.alloc (aW R mn mc)).alloc (bD t.place t.name ag al ah)) (rh r.place r.name af rv) 159 (w.heap.size+2) ar);have okp:=aF.okp r aV;have a8:=ai aV;have bo:=ai (fun e ae=>yj ts t aF r aV e ae);have HUL:=ai (fun b6 hl=>rM h b6 hl);have ba:=ai W0;generalize J:jr ts t r=aO;have bp:=ai J;have b0:=a7.u.blt;go_enter func118,ntmps118;go_wp2_with fail;refine (oe r.body b _ _ b0 bb.u okp).mono ?_;rintro e1 cf ⟨cy,rfl,ad,l,l1,l2,bh⟩;obtain ⟨cr,oc,rfl⟩:=ax bh;have co:l.length=(aC r.body).length:=by rw [<-l1];simp
 have B2:=ai (ba.u.trans (ad.mono ba.u.size));have L1:=ai l1;have L2:=ai l2;have L3:=ai bh;have bu:=ai (a7.u.below ad);have bH:=ai (br.u.below ad);have bI:=ai (bb.u.but (But.of_below ad));have bx:=ai (bw.u.below ad);have bK:=ai (bJ.u.below ad);have bE:=ai (bC.u.below ad);have UH:=B2.u.size;have f0:=qk;have f1:=sU;have f2:=sV;have f3:=uD;have f4:=zY;have f5:=jG;go_wp2_with fail
 go_loopw [14] (fun cd wr=>∃(k:Nat),k<=(aC r.body).length/\cd=.int .i64 k/\an cf wr/\Hid (((aC r.body).drop k).findSome? (lF ts t r)=aO)) (fun u _=>(aC r.body).length-(intOf u).toNat)
 case atStart=>exact ⟨0,aj,rfl,az _ _,bp⟩
 case round=>
  obtain ⟨k,ci,rfl,hbr,HQ⟩:=hrel;have HB:=ai hbr;have cg:=hbr.size
  by_cases ck:k<(aC r.body).length
  ·refine Fk ?_;intro hkl aZ c1 e1 kc;simp only [aI] at e1;obtain ⟨rfl,_,rfl⟩:=e1;refine N3 ?_;intro iF hk';generalize l[k]=q at*;obtain ⟨aZ,cx⟩:=q;simp only at kc iF hk';have cj:(k:Int)<((aC r.body).length:Int):=aj;have J:=ak HQ;rw [oQ _ _ _ _ hk'] at J;have av:=bA hk';have bl:=ai (bu.u.below hbr);have bs:=ai (bH.u.below hbr);have bt:=ai (bI.u.but (But.of_below hbr));have bz:=ai (bx.u.below hbr);have bL:=ai (bK.u.below hbr);have bG:=ai (bE.u.below hbr)
   match aZ,iF,J,av with
   |⟨nq,some xq,some yq⟩,⟨vx,vy,hv,rx,ry⟩,J,av=>
    obtain ⟨aJ,aK,rfl⟩:=rx.isI;obtain ⟨am,yv,rfl⟩:=ry.isI;have cm:=nC _ _ _ _ av;have bq:=ai ry;subst hv
    by_cases aG:gy nq.kind=246
    ·rw [aG] at kc;have b5:lF ts t r ⟨nq,some xq,some yq⟩=if hU ts (dd ts t r yq) (t.name,r.name) then some nq.place else none:=by simp [lF,aG]
     rw [b5] at J;have hnl:=bo.u yq aj;have ac:an wr (wr.alloc (.cells #[.int .i64 nq.place,.iface aJ aK,.iface am yv] 246)):=bj.alloc aD _;have aL:=ai (HB.u.trans (ac.mono cg));have aB:=ai (bl.u.below ac);have a9:=ai (bs.u.below ac);have bc:=ai (bt.u.but (But.of_below ac));have be:=ai (bq.u.but (But.of_below ac));have Y:=ai (bz.u.below ac);have ab:=ai (bL.u.below ac);have Z:=ai (bG.u.below ac);have V:=ai (aE.new wr #[.int .i64 nq.place,.iface aJ aK,.iface am yv] 246);go_wp2_with fail;have ch:wr.heap.size<(wr.alloc (.cells #[.int .i64 nq.place,.iface aJ aK,.iface am yv] 246)).heap.size:=ar;generalize (wr.alloc (.cells #[.int .i64 nq.place,.iface aJ aK,.iface am yv] 246))=W at*;generalize wr.heap.size=bk at*;have cp:W.cell? ⟨w.heap.size,0,none⟩=some (.slice R mn mc):=Y.u.cell rfl;have cq:=Y.u.lt;obtain ⟨cz,cA,cB⟩:=ab.u.three;have cC:=ab.u.lt;obtain ⟨cD,cF,cG⟩:=Z.u.three;have cH:=Z.u.lt;obtain ⟨ct,aZ,cu⟩:=V.u.three;have cw:=V.u.lt;have bi:=aL.u.size
     cases hh:hU ts (dd ts t r yq) (t.name,r.name)
     ·rw [hh] at J;have aN:=ai hh;have kP:=ai J
      go_region_held3 (fun w'=>w'.cell? ⟨w.heap.size,0,none⟩=some (.slice R mn mc)/\w'.cell? ⟨w.heap.size+1,0,none⟩=some (.int .i64 t.place)/\w'.cell? ⟨w.heap.size+1,1,none⟩=some (.string t.name)/\w'.cell? ⟨w.heap.size+1,2,none⟩=some (.slice ag al ah)/\w'.cell? ⟨w.heap.size+2,0,none⟩=some (.int .i64 r.place)/\w'.cell? ⟨w.heap.size+2,1,none⟩=some (.string r.name)/\w'.cell? ⟨w.heap.size+2,2,none⟩=some (.iface af rv)/\w'.cell? ⟨bk,2,none⟩=some (.iface am yv)) (go_keep)
       (first
       |(go_at_call 177;refine (rE b _ ts tl t _ rl r _ yq _ _ (aB.u.below bj.drew) (a9.u.below bj.drew) (bc.u.but (But.refl _ _).drew) a8.u (be.u.but (But.refl _ _).drew) aj).mono ?_;rintro e aw ⟨a5,rfl,aP,aY⟩;have I:=ai ((az _ W).drew.trans aP);have ap:=ai (aY:hS W.heap.size aw a5 (dd ts t r yq));obtain ⟨b7,b8,rfl⟩:=ap.u.form;have a0:aw.cell? ⟨w.heap.size,0,none⟩=some (.slice R mn mc):=(Y.u.below I.u).cell rfl;obtain ⟨a1,a2,a3⟩:=(ab.u.below I.u).three;obtain ⟨a4,bM,bN⟩:=(Z.u.below I.u).three;obtain ⟨bO,bP,bQ⟩:=(V.u.below I.u).three)
       |(go_at_call 151;refine (nB b W.heap.size _ ts tl _ _ _ (aB.u.below I.u) ap.u.1 I.u.size (by have:=HUL.u _ hnl;omega)).mono ?_;rintro e a6 ⟨ce,rfl,aQ,_,aX⟩;have Q:=ai (I.u.trans aQ);have au:=ai aX;obtain ⟨b9,cb,rfl⟩:=ax au.u;have bR:a6.cell? ⟨w.heap.size,0,none⟩=some (.slice R mn mc):=(Y.u.below Q.u).cell rfl;obtain ⟨b1,bS,bT⟩:=(ab.u.below Q.u).three;obtain ⟨bU,bV,bW⟩:=(Z.u.below Q.u).three;obtain ⟨bX,bY,bZ⟩:=(V.u.below Q.u).three)
       |(go_at_call 176;refine (pz _ _ _ (t.name,r.name) _ aaV au.u).mono ?_;rintro e w5 ⟨ae,aR⟩;rw [show ((cL ts (dd ts t r yq)).any fun y=>gO (t.name,r.name) y)=_ from aN.u] at ae;subst ae;have U:=ai (Q.u.trans (aR.mono Q.u.size));have c0:w5.cell? ⟨w.heap.size,0,none⟩=some (.slice R mn mc):=(Y.u.below U.u).cell rfl;obtain ⟨c1,c2,c3⟩:=(ab.u.below U.u).three;obtain ⟨b2,c5,c6⟩:=(Z.u.below U.u).three;obtain ⟨c7,b3,b4⟩:=(V.u.below U.u).three))
      go_wp2;go_roundw
      case rel=>exact ⟨k+1,aj,by go_num,aL.u.trans (U.u.mono bi),by simpa using kP⟩
      case measure=>simp [intOf];omega
     rw [hh] at J;have aN:=ai hh;have kP:=ai J
     go_region_held3 (fun w'=>w'.cell? ⟨w.heap.size,0,none⟩=some (.slice R mn mc)/\w'.cell? ⟨w.heap.size+1,0,none⟩=some (.int .i64 t.place)/\w'.cell? ⟨w.heap.size+1,1,none⟩=some (.string t.name)/\w'.cell? ⟨w.heap.size+1,2,none⟩=some (.slice ag al ah)/\w'.cell? ⟨w.heap.size+2,0,none⟩=some (.int .i64 r.place)/\w'.cell? ⟨w.heap.size+2,1,none⟩=some (.string r.name)/\w'.cell? ⟨w.heap.size+2,2,none⟩=some (.iface af rv)/\w'.cell? ⟨bk,2,none⟩=some (.iface am yv)) (go_keep)
      (first
      |(go_at_call 177;refine (rE b _ ts tl t _ rl r _ yq _ _ (aB.u.below bj.drew) (a9.u.below bj.drew) (bc.u.but (But.refl _ _).drew) a8.u (be.u.but (But.refl _ _).drew) aj).mono ?_;rintro e aw ⟨a5,rfl,aP,aY⟩;have I:=ai ((az _ W).drew.trans aP);have ap:=ai (aY:hS W.heap.size aw a5 (dd ts t r yq));obtain ⟨b7,b8,rfl⟩:=ap.u.form;have a0:aw.cell? ⟨w.heap.size,0,none⟩=some (.slice R mn mc):=(Y.u.below I.u).cell rfl;obtain ⟨a1,a2,a3⟩:=(ab.u.below I.u).three;obtain ⟨a4,bM,bN⟩:=(Z.u.below I.u).three;obtain ⟨bO,bP,bQ⟩:=(V.u.below I.u).three)
      |(go_at_call 151;refine (nB b W.heap.size _ ts tl _ _ _ (aB.u.below I.u) ap.u.1 I.u.size (by have:=HUL.u _ hnl;omega)).mono ?_;rintro e a6 ⟨ce,rfl,aQ,_,aX⟩;have Q:=ai (I.u.trans aQ);have au:=ai aX;obtain ⟨b9,cb,rfl⟩:=ax au.u;have bR:a6.cell? ⟨w.heap.size,0,none⟩=some (.slice R mn mc):=(Y.u.below Q.u).cell rfl;obtain ⟨b1,bS,bT⟩:=(ab.u.below Q.u).three;obtain ⟨bU,bV,bW⟩:=(Z.u.below Q.u).three;obtain ⟨bX,bY,bZ⟩:=(V.u.below Q.u).three)
      |(go_at_call 176;refine (pz _ _ _ (t.name,r.name) _ aaV au.u).mono ?_;rintro e w5 ⟨ae,aR⟩;rw [show ((cL ts (dd ts t r yq)).any fun y=>gO (t.name,r.name) y)=_ from aN.u] at ae;subst ae;have U:=ai (Q.u.trans (aR.mono Q.u.size));have c0:w5.cell? ⟨w.heap.size,0,none⟩=some (.slice R mn mc):=(Y.u.below U.u).cell rfl;obtain ⟨c1,c2,c3⟩:=(ab.u.below U.u).three;obtain ⟨b2,c5,c6⟩:=(Z.u.below U.u).three;obtain ⟨c7,b3,b4⟩:=(V.u.below U.u).three))
     go_wp2_with (go_at_call 73;refine (jS _ 6 _).mono ?_;rintro e w5 ⟨rfl,rfl⟩);go_ret;rw [<-kP.u];exact ⟨rfl,B2.u.trans ((aL.u.trans (U.u.mono bi)).mono UH)⟩
    have kP:=ai (by simpa [lF,aG] using J:((aC r.body).drop (k+1)).findSome? (lF ts t r)=aO)
    rcases pk nq.kind with U7|U7|U7
    ·exact O7
    ·exact O7
    exact absurd U7 aG
   |⟨nq,none,rq⟩,iF,J,av=>
    have kP:=ai (by simpa [lF] using J:((aC r.body).drop (k+1)).findSome? (lF ts t r)=aO)
    rcases iF with ⟨bf,gv,hv,cl⟩|⟨bf,hv⟩|⟨bf,hv⟩
    ·exact FJ
    ·exact FJ
    exact FJ
   |⟨nq,some xq,none⟩,iF,J,av=>exact iF.elim
  exact N0
end
section
section
open Go.Shelf
abbrev vi:=@grownBy_putObj'
abbrev rN:=@List.findSome?_append
abbrev j7:=@List.findSome?_eq_none_iff
abbrev rO:=@List.size_toArray
abbrev vj:=@Array.replicate_succ
abbrev vk:=@List.push_toArray
abbrev vm:=@List.append_toArray
abbrev mq:=@List.flatMap_nil
abbrev js:=@callsIn_wide
abbrev Ap:=@KeepsOthers.alloc
abbrev rP:=@CallsIn.inRound
abbrev rQ:Obj:=.cells #[.nilIface] 77
def Pa (h:aA:=by
 obtain ⟨a',A,e⟩:=ax hM.row;simp only [aI,bX] at e;exact e.2.1):aA:=h
def Pb (h:aA:=by
 exact ⟨fun p=>Classical.choose (this p),fun p A=>Classical.choose_spec (this p) A⟩):aA:=h
attribute [local go_sem] Oper.semAt_some
def eT(N:Ty->Rl->Option Nat)(ts:List Ty):Option Nat:=ts.findSome? fun t=>t.rels.findSome? (N t)
def KT(w w':af):Prop:=∀(g:Nat)(cs:Array ag)(T:TypeId)(f:Nat×Nat),w.heap[g]? =some (Obj.cells cs T f)->(T=207\/T=159\/T=110)->w'.heap[g]? =w.heap[g]?
def KT.trans{x}(h:KT x y)(k:KT y z):KT x z:=fun g cs T f A C=>(k g cs T f ((h g cs T f A C).trans A) C).trans (h g cs T f A C)
variable {g:Nat}
def KT.set(A:aE w g cs T)(C:¬(T=207\/T=159\/T=110))(o u):KT w (w.setCell ⟨g,o,none⟩ u):=
 fun g' I T' f h D=>dN _ _ _ _ (fun (e':g'=g)=>by
  subst e';unfold aE at A;rw [A] at h;simp only [aL,Obj.cells.injEq] at h;exact C (by rw [h.2.1];exact D))
def RC.kt{b rl}(h:RC b w sv rs rl)(k:KT w w'):RC b w' sv rs rl:=
 ⟨h.fst,ay h.row (fun g cs f _ A=>k g cs _ f A (.inr (.inl rfl))),fun p C=>bB.frame (fun g cs f _ A=>k g cs _ f A (.inl rfl)) _ _ (h.ex p C),h.len,h.okp,h.okg,h.wf⟩
def MC.kt{b tl}(h:MC b w sv ts tl)(k:KT w w')(hs:w.heap.size<=w'.heap.size):MC b w' sv ts tl:=
 ⟨h.fst,ay h.row (fun g cs f _ A=>k g cs _ f A (.inr (.inr rfl))),fun p C=>by obtain ⟨rl,D⟩:=h.rels p C;exact ⟨rl,D.kt k⟩,h.len,cK h.blt hs⟩
def MT(T:TypeId):Prop:=T=207\/T=159\/T=110\/T=75
def CK(W W':af):Prop:=W.heap.size<=W'.heap.size/\∀(g:Nat)(cs:Array ag)(T:TypeId)(f:Nat×Nat),W.heap[g]? =some (Obj.cells cs T f)->MT T->W'.heap[g]? =W.heap[g]?
def CK.trans{X D I:af}(h:CK X D)(k:CK D I):CK X I:=⟨aP h.1 k.1,fun g cs T f A C=>(k.2 g cs T f ((h.2 g cs T f A C).trans A) C).trans (h.2 g cs T f A C)⟩
def CK.below(h:an W W'):CK W W':=⟨h.size,fun g cs T f A _=>h.block g (lt_of_some A)⟩
def CK.kt(h:CK W W'):KT W W':=fun g cs T f A C=>h.2 g cs T f A (by rcases C with e|e|e<;>simp [MT,e])
def CK.b(W l o o')(D:w.heap.size<=l)(h:W.heap[l]? =some o)(C:o.isCells=false)(I:o.isWalk=false):CK W (W.putObj l o'):=
 ⟨(vi W l o').size,fun g cs T f A _=>World.putObj_heap_other (fun e=>by
  subst e;rw [h] at A
  cases A
  cases C)⟩
def CK.blk(h:CK W W')(k:aE W g cs T)(A:MT T):aE W' g cs T:=(h.2 g cs T (0,0) k A).trans k
def CK.mc(h:CK W W'){b tl}(k:MC b W sv ts tl):MC b W' sv ts tl:=k.kt h.kt h.1
def CK.rc(h:CK W W'){b rl}(k:RC b W sv rs rl):RC b W' sv rs rl:=k.kt h.kt
abbrev It:=(Ty×ag)×(Rl×ag)
def itE(x:It):Array ag:=#[.agg #[.int .i64 x.1.1.place,.string x.1.1.name,x.1.2],.agg #[.int .i64 x.2.1.place,.string x.2.1.name,x.2.2]]
def Aq(b:Nat)(w:af)(tl:List (Ty×ag))(x:It):Prop:=x.1∈tl/\∃rl,RC b w x.1.2 x.1.1.rels rl/\x.2∈rl
def U9(b:Nat)(w:af)(tl:List (Ty×ag))(h:Ty×ag->List (Rl×ag)):Prop:=∀p∈tl,RC b w p.2 p.1.rels (h p)
def Pc{b tl}(h:MC b w sv ts tl):∃I,U9 b w tl I:=by
 have:∀p:Ty×ag,∃rl,p∈tl->RC b w p.2 p.1.rels rl:=fun p=>by
  by_cases C:p∈tl
  ·obtain ⟨rl,D⟩:=h.rels p C;exact ⟨rl,fun _=>D⟩
  exact ⟨[],fun e=>absurd e C⟩
 exact Pb
def qt(h:Ty×ag->List (Rl×ag))(tl:List (Ty×ag)):List It:=tl.flatMap fun p=>(h p).map fun q=>(p,q)
def FL{b tl}{C:Ty×ag->List (Rl×ag)}(h:U9 b w tl C)(x)(A:x∈qt C tl):Aq b w tl x:=by
 unfold qt at A;rw [bS] at A;obtain ⟨p,D,A⟩:=A;rw [aN] at A;obtain ⟨q,I,rfl⟩:=A;exact ⟨D,C p,h p D,I⟩
def yk(N b w)(A:Ty×ag->List (Rl×ag)):∀(tl:List (Ty×ag)),U9 b w tl A->eT N (tl.map Prod.fst)=(qt A tl).findSome? fun x=>N x.1.1 x.2.1
 | [],_=>rfl
 |p::tl,h=>by
  have J:=yk N b w A tl (fun q D=>h q (by simp [D]));have e:(qt A (p::tl))=((A p).map fun q=>(p,q))++qt A tl:=by simp [qt]
  rw [e,rN,List.findSome?_map,<-J];have I:=h p ar;have C:p.1.rels.findSome? (N p.1)=(A p).findSome? ((fun x:It=>N x.1.1 x.2.1) ∘ fun q=>(p,q)):=by
   rw [<-I.fst,List.findSome?_map]
   rfl
  rw [<-C];unfold eT;rw [cA,gm]
  cases p.1.rels.findSome? (N p.1)<;>rfl
def vo{α:Type}(P:α->Prop):∀(l:List α),(∀x∈l,P x)->∃L:List {x // P x},L.map Subtype.val=l
 | [],_=>⟨[],rfl⟩
 |x::l,h=>by
  obtain ⟨L,A⟩:=vo P l (fun y C=>h y (by simp [C]));exact ⟨⟨x,h x ar⟩::L,by simp [A]⟩
def CE(f:α->Option β):∀(l p:List α)(x:α)(y:β),p++[x]<+:l->(∀z∈p,f z=none)->f x=some y->l.findSome? f=some y:=by
 rintro l p x y ⟨r,rfl⟩ h1 h2;rw [rN,rN];have:p.findSome? f=none:=j7.2 h1;rw [this];simp [h2]
def oS(sv w)(hs:∃a n c,sv=.slice a n c):Calls prog 150 #[.agg #[sv]] w fun e w'=>e=.returned (.func (.func 208) #[] #[.pointer (some ⟨w.heap.size,0,none⟩)])/\w'=w.alloc (.cells #[sv] 75):=by
 obtain ⟨a,n,c,rfl⟩:=hs;go_enter func150,ntmps150;go_wp2;go_ret;exact ⟨rfl,rfl⟩
def Va(b:Nat)(w0:af)(aR:ag)(ts:List Ty)(tl:List (Ty×ag))(hM:MC b w0 aR ts tl)(U:Ty×ag->List (Rl×ag))(hF:U9 b w0 tl U)(n:Nat)(bB:1<=n)(l Bn:Nat)(Y:List {x:It // Aq b w0 tl x})(aG:Y.map Subtype.val=qt U tl)(V aB:List {x:It // Aq b w0 tl x}->af->Prop)
  (Q:af) (aJ:an w0 Q) (aF:AbidesFrom Q.heap.size V)
  (aK:∀pre x ah,V pre ah->pre.length<Y.length->YieldAt Fence.wide (n-1) prog l (itE x.1) ah fun e W'=>(e=.returned (.bool true)/\V (pre++[x]) W'/\CK ah W')\/(e=.returned (.bool false)/\aB (pre++[x]) W'))
  (bt:Q.cell? ⟨Bn,0,none⟩=some aR) (h0:V [] Q):
  CallsIn Fence.wide n prog 208 #[.func (.yield l) #[] #[],.pointer (some ⟨Bn,0,none⟩)] Q fun e W'=>(∃v,e=.returned v)/\((∃aY,aY=Y/\V aY W')\/(∃pre,pre<+:Y/\aB pre W')):=by
 obtain ⟨bI,mn,mc,rfl⟩:=hM.form;have bi:mn=tl.length:=by
  exact Pa
 have bz:mn<=tl.length:=aj;have bA:tl.length<=mn:=aj;clear bi;have bF:tl.length<=1000:=by have:=hM.llen;simpa using this
 have a7:=ai hM;have aZ:=ai hF;have a6:=ai aG;have ba:=ai aK;have aw:=ai aF;have a9:=ai (CK.below aJ:CK w0 Q);clear hM hF aK aF aJ aG;refine callsIn_of_wp func208 rfl trivial ?_ rfl;simp only [ntmps208,rO,List.length_cons,List.length_nil,Nat.reduceAdd,Nat.reduceSub,vj,Array.replicate_zero,vk,vm,List.nil_append,List.cons_append];gi_wp2
 gi_loopw [10] (fun u wr=>∃(k:Nat)(pre rest:List {x:It // Aq b w0 tl x}),k<=mn/\u=.int .i64 k/\CK w0 wr/\Q.heap.size<=wr.heap.size/\Hid (Y=pre++rest/\rest.map Subtype.val=qt U (tl.drop k))/\V pre wr) (fun u _=>mn-(intOf u).toNat)
 case atStart=>exact ⟨0,[],Y,aj,rfl,a9.u,bY _,ai ⟨rfl,a6.u⟩,h0⟩
 case round=>
  obtain ⟨k,pre,rest,bw,rfl,I,bE,ac,R⟩:=hrel;obtain ⟨J,C⟩:=ak ac
  by_cases bx:k<mn
  ·have au:k<tl.length:=by omega
   obtain ⟨g,aC,e1,k0,k1,aO⟩:=(I.mc a7.u).row.cell k (by simpa using au);simp only [aI] at e1;obtain ⟨rfl,av,rfl⟩:=e1;clear av ac;simp only [List.getElem_map,t3] at k0 k1 aO;have ae:=aZ.u tl[k] (bn au);have aH:qt U (tl.drop k)=((U tl[k]).map fun q=>(tl[k],q))++qt U (tl.drop (k+1)):=by
    rw [dI au];simp only [qt,cq]
   rw [aH] at C;clear aH;generalize tl[k]=p at*;obtain ⟨t,tv⟩:=p;simp only at k0 k1 aO ae;obtain ⟨Z,D,ab,rfl⟩:=ae.form;generalize bk:U (t,.slice Z D ab)=rl at*;clear bk;have bo:D=rl.length:=by
    obtain ⟨a',aC,e⟩:=ax ae.row;simp only [aI,bX] at e;exact e.2.1
   have bG:D<=rl.length:=aj;have bH:rl.length<=D:=aj;clear bo;have bC:rl.length<=1000:=by have:=ae.llen;simpa using this
   have al:an wr (wr.alloc (bD t.place t.name Z D ab)):=bj.alloc aD _;have ap:=ai (I.trans (CK.below al));have az:=ai ae;have TB:=ai (aE.new wr (iy t.place t.name Z D ab) 110);have a5:=ai (aw.u pre wr (wr.alloc (bD t.place t.name Z D ab)) none R (World.grownBy_alloc wr _ none) (fun r e=>by cases e));have bh:(k:Int)<(mn:Int):=aj;have a8:=ai (And.intro J C);have bl:Q.heap.size<=(wr.alloc (bD t.place t.name Z D ab)).heap.size:=aM;clear ae al J C I R;gi_wp2;generalize (wr.alloc (bD t.place t.name Z D ab))=ah at*;generalize wr.heap.size=bJ at*
   gi_loopw [17] (fun u aS=>∃(j:Nat)(pre rest:List {x:It // Aq b w0 tl x}),j<=D/\u=.int .i64 j/\CK ah aS/\Hid (Y=pre++rest/\rest.map Subtype.val=((rl.drop j).map fun q=>((t,Value.slice Z D ab),q))++qt U (tl.drop (k+1)))/\V pre aS) (fun u _=>D-(intOf u).toNat)
   case atStart=>exact ⟨0,pre,rest,aj,rfl,⟨bY _,fun _ _ _ _ _ _=>rfl⟩,ai a8.u,a5.u⟩
   case round=>
    obtain ⟨j,pre,rest,bu,rfl,I,ac,R⟩:=hrel;obtain ⟨J,C⟩:=ak ac;clear ac
    by_cases bv:j<D
    ·have ar:j<rl.length:=by omega
     obtain ⟨g,aC,e1,aV,aW,aX⟩:=((ap.u.trans I).rc az.u).row.cell j (by simpa using ar);simp only [aI] at e1;obtain ⟨rfl,av,rfl⟩:=e1;clear av;simp only [List.getElem_map,r3] at aV aW aX;have hex:=((ap.u.trans I).rc az.u).ex rl[j] (bn ar);rw [dI ar] at C;generalize rl[j]=p at*;obtain ⟨r,bs⟩:=p;simp only at aV aW aX hex;obtain ⟨aQ,rv,rfl⟩:=hex.isI
     cases rest with
     |nil=>simp at C
     |cons x rest=>
      simp only [cA,List.cons_append,List.cons.injEq] at C;obtain ⟨aL,C⟩:=C;obtain ⟨t0,t1,t2⟩:=(I.blk TB.u (.inr (.inr (.inl rfl)))).three;have bK:=(I.blk TB.u (.inr (.inr (.inl rfl)))).lt;have al:an wr (wr.alloc (cE r.place r.name aQ rv)):=bj.alloc aD _;have ay:=aw.u pre wr (wr.alloc (cE r.place r.name aQ rv)) none R (World.grownBy_alloc wr _ none) (fun r e=>by cases e);obtain ⟨fn,bL,br,body,aN,be⟩:=ba.u pre x _ ay (by rw [J];simp);rw [aL] at aN;simp only [itE] at aN;have am:=ai (I.trans (CK.below al));have bf:(j:Int)<(D:Int):=aj;have ad:=ai (And.intro J C);clear hex al J C I R aL ay;gi_wp2;refine be.mono ?_;rintro e bp (⟨rfl,bb,bg⟩|⟨rfl,bc⟩)
      ·gi_wp2;go_roundw
       case rel=>exact ⟨j+1,pre++[x],rest,aj,by go_num,am.u.trans bg,ai ⟨by rw [ad.u.1];simp,ad.u.2⟩,bb⟩
       case measure=>simp [intOf];omega
      gi_wp2;refine bq (results_none rfl _ _ _) rfl ?_;exact ⟨⟨_,rfl⟩,.inr ⟨pre++[x],⟨rest,by rw [ad.u.1];simp⟩,bc⟩⟩
    have bf:¬((j:Int)<(D:Int)):=aj;rw [ei aj] at C;have ad:=ai (And.intro J C);have am:=ai I;clear J C I;gi_wp2;go_roundw
    case rel=>exact ⟨k+1,pre,rest,aj,by go_num,ap.u.trans am.u,aP bl am.u.1,ai ⟨ad.u.1,by simpa using ad.u.2⟩,R⟩
    case measure=>simp [intOf];omega
  have bh:¬((k:Int)<(mn:Int)):=aj;rw [ei aj] at C;simp only [qt,mq,List.map_eq_nil_iff] at C;subst C;clear ac I;gi_wp2;go_end0;refine ⟨⟨_,rfl⟩,.inl ?_⟩
  first|exact R|exact ⟨pre,by rw [J];simp,R⟩
def yo(b w0 sv ts tl)(U:MC b w0 sv ts tl)(A:Ty×ag->List (Rl×ag))(hF:U9 b w0 tl A)(n)(Y:1<=n)(Bn)(J:aE w0 Bn #[sv] 75)(h:List {x:It // Aq b w0 tl x})(R:h.map Subtype.val=qt A tl):
  SeqStopsK Fence.wide n prog 208 #[.pointer (some ⟨Bn,0,none⟩)] (fun x:{x:It // Aq b w0 tl x}=>itE x.1) CK (fun Z=>Z=h) (fun pre=>pre<+:h) h.length w0:=fun l D I W C Q _ V h0=>
 Va b w0 sv ts tl U A hF n Y l Bn h R D I W C Q V ((J.below C).cell rfl) h0
def jt(h:an W W'):KeepsFrom B W W':=⟨h.size,fun k o _ A _=>(h.block k (Array.getElem?_eq_some_iff.1 A).1).trans A⟩
def fG(B g cs T):OwnFrom B (fun (_:β) W=>aE W g cs T):=fun _ X C row hs h A=>
 (h.block g (aE.lt hs) (fun e=>by
  obtain ⟨_,o,ho,hc⟩:=A g e.symm;unfold aE at hs;rw [hs] at ho
  cases ho
  cases hc)).trans hs
def I5(F b c:Nat)(ba:F=117\/F=118)(ai:ag)(ts:List Ty)(tl:List (Ty×ag))(N:Ty->Rl->Option Nat)(w:af)(h:MC b w ai ts tl)
  (bf:∀w' t tv rl r al,MC b w' ai ts tl->RC b w' tv t.rels rl->bB b w' r.body al->r∈t.rels->Calls prog F #[.agg #[ai],.agg #[.int .i64 t.place,.string t.name,tv],.agg #[.int .i64 r.place,.string r.name,al]] w' fun e' w''=>e'=.returned (iW c (N t r))/\an w' w''):
  Calls prog 116 #[.agg #[ai],.func (.func F) #[.agg #[ai]] #[]] w fun e' w'=>e'=.returned (iW c (eT N ts))/\an w w':=by
 obtain ⟨A,mn,mc,rfl⟩:=h.form;refine (js (n:=8)).1 ?_;refine callsIn_of_wp_marks func116 rfl trivial ?_ rfl;simp only [ntmps116,rO,List.length_cons,List.length_nil,Nat.reduceAdd,Nat.reduceSub,vj,Array.replicate_zero,vk,vm,List.nil_append,List.cons_append];gi_wp2_with fail;refine ⟨trivial,(js.2 (oS _ _ ⟨_,_,_,rfl⟩)).mono ?_⟩;rintro e w' ⟨rfl,rfl⟩;gi_wp2_with fail;have am:an w ((((w.alloc (aW A mn mc)).alloc (.cells #[.func (.func F) #[.agg #[.slice A mn mc]] #[]] 222)).alloc rQ).alloc (aW A mn mc)):=((((az _ w).alloc aD _).alloc ar _).alloc aM _).alloc aM _;have aK:aE ((((w.alloc (aW A mn mc)).alloc (.cells #[.func (.func F) #[.agg #[.slice A mn mc]] #[]] 222)).alloc rQ).alloc (aW A mn mc)) (w.heap.size+1) #[.func (.func F) #[.agg #[.slice A mn mc]] #[]] 222:=((aE.new' (w.alloc (aW A mn mc)) _ _ (w.heap.size+1) ar).alloc _).alloc _;have ax:aE ((((w.alloc (aW A mn mc)).alloc (.cells #[.func (.func F) #[.agg #[.slice A mn mc]] #[]] 222)).alloc rQ).alloc (aW A mn mc)) (w.heap.size+1+1) #[.nilIface] 77:=(aE.new' ((w.alloc (aW A mn mc)).alloc (.cells #[.func (.func F) #[.agg #[.slice A mn mc]] #[]] 222)) _ _ (w.heap.size+1+1) ar).alloc _;have aO:aE ((((w.alloc (aW A mn mc)).alloc (.cells #[.func (.func F) #[.agg #[.slice A mn mc]] #[]] 222)).alloc rQ).alloc (aW A mn mc)) (w.heap.size+1+1+1) #[.slice A mn mc] 75:=aE.new' _ _ _ _ ar;have bh:((((w.alloc (aW A mn mc)).alloc (.cells #[.func (.func F) #[.agg #[.slice A mn mc]] #[]] 222)).alloc rQ).alloc (aW A mn mc)).heap.size=w.heap.size+4:=ar;have ac:=h.below am;obtain ⟨W0,bb⟩:∃W0,((((w.alloc (aW A mn mc)).alloc (.cells #[.func (.func F) #[.agg #[.slice A mn mc]] #[]] 222)).alloc rQ).alloc (aW A mn mc))=W0:=⟨_,rfl⟩;rw [bb] at am aK ax aO bh ac ⊢;obtain ⟨aI,hF⟩:=Pc ac;obtain ⟨L,aV⟩:∃L:List {x:It // Aq b W0 tl x},L.map Subtype.val=qt aI tl:=vo _ _ (FL hF);have aS:eT N ts=L.findSome? (fun x=>N x.1.1.1 x.1.2.1):=by
  rw [<-ac.fst,yk N b W0 aI tl hF,<-aV,List.findSome?_map]
  rfl
 refine wpIn_rangeFunc_ownH (F:=Fence.wide) rfl au (gf:=208) (lb:=#[.pointer (some ⟨w.heap.size+1+1+1,0,none⟩)]) rfl trivial (enters_of func208 aw rfl)
  (yo b W0 _ ts tl ac aI hF _ au _ aO L aV) (fun h k=>CK.trans h k) (CK.b (w:=W0)) bj (fun _=>rfl)
  (fun pre W=>(∀x∈pre,N x.1.1.1 x.1.2.1=none)/\an W0 W)
  (fun ay pre W=>(ay=.ret/\∃ab x q,pre=ab++[x]/\(∀y∈ab,N y.1.1.1 y.1.2.1=none)/\N x.1.1.1 x.1.2.1=some q/\aE W (w.heap.size+1+1) #[iW c (some q)] 77)/\an w W)
  (OwnFrom.and (ownFrom_pure _ _) (ownFrom_below aD aD))
  (fun ay=>OwnFrom.and (fun s X ak row hs ap ah=>by
   obtain ⟨h1,ab,x,q,h2,ad,aB,a8⟩:=hs;exact ⟨h1,ab,x,q,h2,ad,aB,fG (β:=Unit) W0.heap.size _ _ _ () X ak row a8 ap ah⟩) (ownFrom_below aD aj))
  ⟨ar,az _ _⟩
  (fun x a' W=>∃J,W0.heap.size<=J/\aE W J #[.int .i64 x.1.1.1.place,.string x.1.1.1.name,x.1.1.2] 110/\aE W (J+1) #[.int .i64 x.1.2.1.place,.string x.1.2.1.name,x.1.2.2] 159/\a'={tmps:=#[.agg #[.slice A mn mc],.func (.func F) #[.agg #[.slice A mn mc]] #[],.pointer (some ⟨w.heap.size,0,none⟩),.pointer (some ⟨w.heap.size+1,0,none⟩),.pointer (some ⟨w.heap.size+1+1,0,none⟩),.pointer (some ⟨J,0,none⟩),.pointer (some ⟨J+1,0,none⟩),undef,.agg #[.slice A mn mc],.func (.func 208) #[] #[.pointer (some ⟨w.heap.size+1+1+1,0,none⟩)],.agg #[.int .i64 x.1.1.1.place,.string x.1.1.1.name,x.1.1.2],.agg #[.int .i64 x.1.2.1.place,.string x.1.2.1.name,x.1.2.2],undef,undef,undef,undef,undef,undef,undef],defers:=[]})
  (fun x a' _ X ak row hs ap ah=>by
   obtain ⟨J,h1,h2,ad,aB⟩:=hs;exact ⟨J,h1,fG (β:=Unit) W0.heap.size _ _ _ () X ak row h2 ap ah,fG (β:=Unit) W0.heap.size _ _ _ () X ak row ad ap ah,aB⟩)
  ?assign ?body ?done ?stop
 case assign=>
  rintro l pre x W K ⟨Z,D⟩ Q;obtain ⟨⟨⟨t,tv⟩,⟨r,al⟩⟩,aH⟩:=x;obtain ⟨rl,I,U⟩:=aH.2;simp only at I U Q;obtain ⟨aZ,a6,a5,rfl⟩:=I.form;obtain ⟨aY,rv,ae⟩:=(I.ex _ U).isI;simp only at ae;subst ae;simp only [itE];have b1:=(az _ W).alloc aD (bD t.place t.name aZ a6 a5);have aJ:=b1.alloc b1.size (cE r.place r.name aY rv);gi_wp2_with fail;exact Q _ _ (((Ap _ _).trans (Ap _ _)).from _) (CK.below aJ) ⟨Z,D.trans (aJ.mono D.size)⟩ ⟨W.heap.size,D.size,(aE.new W _ _).alloc _,aE.new' _ _ _ _ ar,rfl⟩
 case body=>
  rintro l pre x a' W hl ⟨rr,ah⟩ ⟨Z,D⟩ ⟨J,bk,aP,aL,rfl⟩ bl;obtain ⟨⟨⟨t,tv⟩,⟨r,al⟩⟩,aH⟩:=x;obtain ⟨rl,I,U⟩:=aH.2;simp only at I U aP aL;obtain ⟨aZ,a6,a5,rfl⟩:=I.form;obtain ⟨aY,rv,ae⟩:=(I.ex _ U).isI;simp only at ae;subst ae;obtain ⟨t0,t1,t2⟩:=aP.three;obtain ⟨bn,bo,bp⟩:=aL.three;have c0:W.cell? ⟨w.heap.size+1,0,none⟩=some (.func (.func F) #[.agg #[.slice A mn mc]] #[]):=(aK.below D).cell rfl;have be:r∈t.rels:=by rw [<-I.fst];exact aN.2 ⟨_,U,rfl⟩
  have C:=bf W t _ rl r _ (ac.below D) (I.below D) ((I.ex _ U).but (But.of_below D)) be
  rcases ba with rfl|rfl
  all_goals
   cases hn:N t r with
   |none=>
    rw [hn] at C;gi_wp2_with fail;refine ⟨trivial,(rP l (js.2 C)).mono ?_⟩;rintro e a7 ⟨rfl,R⟩;unfold iW;gi_wp2;exact ⟨jt R,CK.below R,fun y av=>by
     rw [aQ,aR] at av
     rcases av with av|rfl
     ·exact Z y av
     exact hn,D.trans (R.mono D.size)⟩
   |some q=>
    rw [hn] at C;gi_wp2_with fail;refine ⟨trivial,(rP l (js.2 C)).mono ?_⟩;rintro e a7 ⟨rfl,R⟩;have Y:=(ax.below D).below R;have aX:a7.cell? ⟨w.heap.size+1+1,0,none⟩=some .nilIface:=Y.cell rfl;have bi:=Y.fz;have bc:=(am.trans (D.mono aj)).trans (R.mono (by have:=D.size;omega));unfold iW gl;gi_wp2;exact ⟨(jt R).trans ((KeepsOthers.setCell _ _ _).from _),⟨rfl,pre,_,q,rfl,Z,hn,Y.set 0 _⟩,bc.setCell (p:=⟨w.heap.size+1+1,0,none⟩) aM _⟩
 case done=>
  rintro V bq W a9 rfl ⟨Z,D⟩ Q;have Y:=ax.below D;have aX:W.cell? ⟨w.heap.size+1+1,0,none⟩=some .nilIface:=Y.cell rfl;have bi:=Y.fz;have aC:eT N ts=none:=by rw [aS];exact j7.2 Z
  gi_wp2;have aF:=(KeepsOthers.setCell W ⟨w.heap.size+1+1,0,none⟩ .nilIface).same V _ Q rfl;refine ⟨ar,.inl ⟨_,_,rfl,run_takeDeferred aF,?_⟩⟩;have aG:=cell_kept (World.cell?_setCell_same' W ⟨w.heap.size+1+1,0,none⟩ .nilIface (by rw [aX];rfl)) (vi _ V (.deferred none)) (fun r e=>by cases e;exact ⟨_,aF,rfl⟩);refine ⟨.nilIface,?_,by rw [aC];rfl,((am.trans (D.mono aj)).setCell (p:=⟨w.heap.size+1+1,0,none⟩) aM _).trans (belowK_b (w:=w) aD _ V _ _ aj aF rfl rfl)⟩;simp [results,Tryz.f116,go_sem,aG]
 case stop=>
  rintro V ay pre W a9 bg ⟨⟨rfl,ab,x,q,rfl,h1,h2,ad⟩,D⟩ Q;have aC:eT N ts=some q:=by rw [aS];exact CE _ L ab x q bg h1 h2
  gi_wp2;refine ⟨ar,.inl ⟨_,_,rfl,run_takeDeferred Q,?_⟩⟩;have aG:=cell_kept (ad.cell (o:=0) rfl) (vi _ V (.deferred none)) (fun r e=>by cases e;exact ⟨_,Q,rfl⟩);refine ⟨iW c (some q),?_,by rw [aC],D.trans (belowK_b (w:=w) aD W V _ _ aj Q rfl rfl)⟩;simp [results,Tryz.f116,go_sem,aG]
end
end
abbrev pH:=@List.any_map
def Pd (h:aA:=by
 rw [pH,gJ,cX,List.find?_isSome]
 rfl):aA:=h
def FM (h:aA:=by
 simp only [aI] at e;exact e.2.1):aA:=h
def FN(q:aU) (h:bF aU->aA:=by
 intro zq;refine (ak C0).mono ?_;rintro e w2 ⟨rfl,hb2⟩;have B2:=ai (UT.u.trans (hb2.mono UT.u.size));have m0:w2.cell? ⟨w.heap.size,0,none⟩=some (.slice ma mn mc):=(MB.u.below hb2).cell rfl
 revert w2 hb2 B2 m0
 exact zq.1):aA:=h ⟨q⟩
def Ar(q:aU) (h:bF aU->aA:=by
 intro zq;rintro e w3 ⟨rfl,hb3⟩;have B3:=ai (B2.u.trans (hb3.mono B2.u.size))
 revert w3 hb3 B3
 exact zq.1):aA:=h ⟨q⟩
def Pe(q:aU) (h:bF aU->aA:=by
 intro zq;refine (ak C1 _ B2.u).mono ?_;refine Ar ?_;intro w3 hb3 B3;have m1:w3.cell? ⟨w.heap.size,0,none⟩=some (.slice ma mn mc):=(MB2.u.below hb3).cell rfl;unfold iW
 revert w3 hb3 B3 m1
 exact zq.1):aA:=h ⟨q⟩
def Vb{b2 n2 x1 x2}(h1:w.ownsRow b1 e size v n1 x1)(h2:w.ownsRow b2 e size v n2 x2):n1=n2/\x1=x2:=by
 have hn:n1=n2:=by
  obtain ⟨a,c,rfl⟩:=ax h1;obtain ⟨a',C,e⟩:=ax h2;exact FM
 subst hn;refine ⟨rfl,List.ext_getElem? fun k=> ?_⟩;have hl:x1.length=x2.length:=h1.1.trans h2.1.symm
 rcases gh k x1.length with h|h
 ·obtain ⟨g,c,e1,c1⟩:=aS h1 k _ (aH h);obtain ⟨g',C,A,c2⟩:=aS h2 k _ (aH (show k<x2.length by omega));rw [e1] at A;simp only [aI,aL,ce] at A;obtain ⟨⟨rfl,_⟩,_⟩:=A;rw [c1] at c2;rw [aH h,aH (show k<x2.length by omega)];exact c2
 rw [kR h,kR aj]
def Pf:∀(a c:List E3),a.flatMap c3=c.flatMap c3->a=c
 | [],[],_=>rfl
 | [],e::c,h=>by simp [c3] at h
 |e::a,[],h=>by simp [c3] at h
 |(p,n,v)::a,(p',n',v')::c,h=>by
  simp only [cq,c3,List.cons_append,List.nil_append,List.cons.injEq,Value.int.injEq,Value.string.injEq,true_and] at h;obtain ⟨h1,h2,A,C⟩:=h;rw [Pf a c C,h2,A,show p=p' by omega]
def hJ.inj{l1 l2}(h1:hJ w T v l1)(h2:hJ w T v l2):l1=l2:=Pf _ _ (Vb h1 h2).2
def Ud:List ae->List (ae×Nat)->Option Nat
 |_,[]=>none
 |ah,(n,p)::r=>if ah.any (fun m=>eqs m n) then some p else Ud (ah++[n]) r
def yp(n l):(gV n l).isSome=(l.map fun e=>e.2.1).any (fun m=>eqs m n):=by
 unfold gV;exact Pd
def yt:∀(l ah:List E3),jT ah l=Ud (ah.map fun e=>e.2.1) (l.map fun e=>(e.2.1,e.1))
 | [],ah=>rfl
 |e::l,ah=>by
  have:=yt l (ah++[e]);simp only [jT,cA,Ud,yp];rw [this,cO]
  rfl
def twR(rs:List Rl):Option Nat:=Ud [] (rs.map fun r=>(r.name,r.place))
def CF:List ae->List Ty->Option Nat
 |_,[]=>none
 |ah,t::r=>if ah.any (fun m=>eqs m t.name) then some t.place else match twR t.rels with
  |some p=>some p
  |none=>CF (ah++[t.name]) r
def vp(inn):∀(l A:List (Ty×ag)),(∀p∈l,inn (t3 p)=twR p.1.rels)->iO inn (A.map t3) (l.map t3)=CF (A.map fun p=>p.1.name) (l.map Prod.fst)
 | [],A,_=>rfl
 |p::l,A,h=>by
  have C:=vp inn l (A++[p]) (fun q I=>h q (by simp [I]));have D:=h p ar;simp only [cA,iO,CF,yp,D];rw [cO,cO] at C;simp only [cA,po] at C;rw [C,gq]
  rfl
def Yx(w):∃inn:E3->Option Nat,∀e l,hJ w 159 e.2.2 l->inn e=jT [] l:=by
 classical
 refine ⟨fun e=>if h:∃l:List E3,hJ w 159 e.2.2 l then jT [] h.choose else none,?_⟩;intro e l h;have A:∃l:List E3,hJ w 159 e.2.2 l:=⟨l,h⟩;simp only;rw [dif_pos A,hJ.inj A.choose_spec h]
def FO(b sv ts tl w)(h:MC b w sv ts tl):
  Calls prog 115 #[.agg #[sv]] w fun e w'=>e=.returned (iW 4 (CF [] ts))/\an w w':=by
 obtain ⟨inn,I⟩:=Yx w;have key:iO inn [] (tl.map t3)=CF [] ts:=by
  have:=vp inn tl [] (fun p D=>by
   obtain ⟨rl,A⟩:=h.rels p D;rw [I (t3 p) _ A.row,yt,twR,<-A.fst,gq,gq]
   rfl)
  rw [h.fst] at this;exact this
 rw [<-key];refine Fg inn sv (tl.map t3) w h.llen h.row ?_ ?_
 ·intro e C;rw [aN] at C;obtain ⟨p,D,rfl⟩:=C;obtain ⟨rl,A⟩:=h.rels p D;exact A.form
 ·intro e C w' J;rw [aN] at C;obtain ⟨p,D,rfl⟩:=C;obtain ⟨rl,A⟩:=h.rels p D;rw [I (t3 p) _ A.row];refine Ff _ _ _ _ w' A.llen (A.row.below J) ?_;intro e C;rw [aN] at C;obtain ⟨q,Q,rfl⟩:=C;exact (A.ex q Q).isI
def gt(ts:List Ty):Option (Nat×Nat):=match CF [] ts with
 |some p=>some (p,4)
 |none=>match eT (gN ts) ts with
  |some p=>some (p,5)
  |none=>match eT (jr ts) ts with
   |some p=>some (p,6)
   |none=>none
def FP:Option (Nat×Nat)->ag
 |none=> .nilIface
 |some (p,c)=>gl p c
def yu(b sv ts tl w)(h:MC b w sv ts tl):
  Calls prog 74 #[.agg #[sv]] w fun e w'=>e=.returned (FP (gt ts))/\an w w':=by
 obtain ⟨ma,mn,mc,rfl⟩:=h.form;have W0:an w (w.alloc (aW ma mn mc)):=bj.alloc aD _;have UT:=ai W0;have U:=ai (h.below W0);have MB:=ai (aE.new w #[.slice ma mn mc] 75);have C0:=ai (FO b _ ts tl _ U.u);have C1:=ai (fun w' (R:an w w')=>I5 _ b 5 (.inl rfl) _ ts tl (gN ts) w' (h.below R) (fun w'' t tv rl r I h1 h2 A J=>uQ b _ ts tl t tv rl r I w'' h1 h2 A J));have C:=ai (fun w' (R:an w w')=>I5 _ b 6 (.inr rfl) _ ts tl (jr ts) w' (h.below R) (fun w'' t tv rl r I h1 h2 A J=>vh b _ ts tl t tv rl r I w'' h1 h2 A J));unfold gt
 cases h1:CF [] ts with
 |some p=>
  rw [h1] at C0;simp only [FP];go_enter func74,ntmps74;go_wp2_with fail;refine (ak C0).mono ?_;rintro e w2 ⟨rfl,hb2⟩;have B2:=ai (UT.u.trans (hb2.mono UT.u.size));unfold iW gl;go_wp2;go_ret;exact ⟨rfl,B2.u⟩
 |none=>
  rw [h1] at C0;simp only
  cases h2:eT (gN ts) ts with
  |some p=>
   rw [h2] at C1;simp only [FP];go_enter func74,ntmps74;go_wp2_with fail;refine FN ?_;intro w2 hb2 B2 m0;unfold iW;go_wp2_with fail;refine (ak C1 _ B2.u).mono ?_;refine Ar ?_;intro w3 hb3 B3;unfold iW gl;go_wp2;go_ret;exact ⟨rfl,B3.u⟩
  |none=>
   rw [h2] at C1;simp only
   cases A:eT (jr ts) ts with
   |some p=>
    rw [A] at C;simp only [FP];go_enter func74,ntmps74;go_wp2_with fail;refine FN ?_;intro w2 hb2 B2 m0;have MB2:=ai (MB.u.below hb2);unfold iW;go_wp2_with fail;refine Pe ?_;intro w3 hb3 B3 m1;go_wp2_with fail;refine (ak C _ B3.u).mono ?_;rintro e V ⟨rfl,Q⟩;have D:=ai (B3.u.trans (Q.mono B3.u.size));unfold iW gl;go_wp2;go_ret;exact ⟨rfl,D.u⟩
   |none=>
    rw [A] at C;simp only [FP];go_enter func74,ntmps74;go_wp2_with fail;refine FN ?_;intro w2 hb2 B2 m0;have MB2:=ai (MB.u.below hb2);unfold iW;go_wp2_with fail;refine Pe ?_;intro w3 hb3 B3 m1;go_wp2_with fail;refine (ak C _ B3.u).mono ?_;rintro e V ⟨rfl,Q⟩;have D:=ai (B3.u.trans (Q.mono B3.u.size));unfold iW;go_wp2;go_ret;exact ⟨rfl,D.u⟩
section
def Pg (h:aA:=by
 obtain ⟨A,C,D⟩:=this;simp only [List.length_append,List.length_cons,List.length_nil] at C;exact ⟨A,aj,aj⟩):aA:=h
def Ph (h:aA:=by
 simp at h;obtain ⟨rfl,rfl⟩:=h;exact Bn.leaf _ _ _ aj (fun h=>by simp at h)):aA:=h
structure Bn(x:Ex)(n:Nat):Prop where
 p:(aC x).length<=n
 g:(b9 x).length<=n
 wf:WF x
def Bn.le{x:Ex}(h:Bn x n)(A:n<=m):Bn x m:=⟨aP h.p A,aP h.g A,h.wf⟩
def Bn.leaf(nd r n)(h1:1<=n)(h2:nd.kind=0->nd.gs.length<=n/\nd.gs≠ []):Bn ⟨nd,none,r⟩ n:=by
 refine ⟨by simp [aC];omega,?_,?_⟩
 ·simp only [b9,aC,cq,mq,List.append_nil,eY]
  split
  ·rename_i h;exact (h2 h).1
  simp
 intro p A hl h;simp only [aC,aR] at A;subst A;exact (h2 h).2
def Bn.join{x y}(t p)(A:Bn x n)(C:Bn y m):Bn (fU t p x y) (n+1+m):=by
 refine ⟨?_,?_,?_⟩
 ·have h1:=A.p;have h2:=C.p;simp only [fU,aC,List.length_append,List.length_cons,List.length_nil];omega
 ·have h1:=A.g;have h2:=C.g;unfold b9 at*;simp only [fU,aC,cT,cq,mq,List.append_nil,eY,List.length_append];omega
 intro q h hl D;simp only [fU,aC,aQ,aR] at h
 rcases h with (h|h)|h
 ·exact A.wf q h hl D
 ·subst h;simp at hl
 exact C.wf q h hl D
def BN(r:Nat->eI Ex):Prop:=∀i x j,r i=.ok (x,j)->i<j/\Bn x (j-i)
def CG(T P):∀f acc i gs j,dZ T P f acc i=.ok (gs,j)->gs≠ []/\gs.length+i<acc.length+j
 |0,_,i,x,j,h=>by simp [dZ] at h
 |f+1,acc,i,x,j,h=>by
  unfold dZ at h
  split at h
  ·simp at h
  rename_i A;have:=nh T P _ _ _ A
  split at h
  ·have:=CG T P f _ _ _ _ h;refine ⟨this.1,?_⟩;have h2:=this.2;simp only [List.length_append,List.length_cons,List.length_nil] at h2;omega
  split at h<;>simp at h
  obtain ⟨rfl,rfl⟩:=h;simp;omega
def Pi(T P):BN (lw T P):=by
 intro i x j h;refine ⟨uw T P _ _ _ h,?_⟩;unfold lw at h
 split at h
 ·simp at h
 rename_i A;have:=CG T P _ _ _ _ _ A;simp at h;obtain ⟨rfl,rfl⟩:=h;have h2:=this.2;simp only [List.length_nil] at h2;exact Bn.leaf _ _ _ aj (fun _=>⟨by simp only;omega,this.1⟩)
def K3(T P):BN (jl T P):=by
 intro i x j h;have A:=sR T P _ _ _ h;refine ⟨A,?_⟩;unfold jl at h
 split at h
 ·simp at h
 split at h
 ·split at h
  ·simp at h
  exact Ph
 exact Ph
def CH(T P room inner)(hi:BN inner):BN (eR T P room inner):=by
 intro i x j h;unfold eR at h
 split at h
 ·exact Pi T P _ _ _ h
 split at h
 ·split at h
  ·split at h
   ·simp at h
   rename_i A;have:=hi _ _ _ A
   split at h<;>simp at h
   obtain ⟨rfl,rfl⟩:=h;exact ⟨aj,this.2.le aj⟩
  simp at h
 exact K3 T P _ _ _ h
def CI(T P l part)(A:BN part)(i0):∀f y i x j,i0<=i->Bn y (i-i0)->joinL T P l part f y i=.ok (x,j)->i<=j/\Bn x (j-i0)
 |0,_,i,x,j,h0,hb,h=>by simp [joinL] at h
 |f+1,y,i,x,j,h0,hb,h=>by
  unfold joinL at h
  split at h
  ·split at h
   ·simp at h
   rename_i C;obtain ⟨h1,h2⟩:=A _ _ _ C;have:=CI T P l part A i0 f _ _ _ _ aj ((hb.join _ _ h2).le aj) h;exact ⟨aj,this.2⟩
  simp at h;obtain ⟨rfl,rfl⟩:=h;exact ⟨bY _,hb⟩
def qu(T P l part)(A:BN part):BN (fe T P l part):=by
 intro i x j h;unfold fe at h
 split at h
 ·simp at h
 rename_i C;obtain ⟨h1,h2⟩:=A _ _ _ C;have:=CI T P l part A i _ _ _ _ _ aj h2 h;exact ⟨aj,this.2⟩
def CJ(T P):∀n,BN (fp T P n)
 |0=>qu T P _ _ (qu T P _ _ (CH T P false _ (fun i x j h=>by simp at h)))
 |n+1=>qu T P _ _ (qu T P _ _ (CH T P true _ (CJ T P n)))
def Vc(T P i r j)(h:lW T P i=.ok (r,j)):Bn r.body j:=by
 unfold lW at h
 split at h
 ·simp at h
 split at h
 ·simp at h
 rename_i A;have:=CJ T P _ _ _ _ A
 split at h<;>simp at h
 obtain ⟨rfl,rfl⟩:=h;exact this.2.le aj
def CM(T P):∀f acc i rs j,(∀r∈acc,Bn r.body i)->dv T P f acc i=.ok (rs,j)->(∀r∈rs,Bn r.body j)/\rs.length+i<=acc.length+j/\i<j
 |0,_,i,x,j,_,h=>by simp [dv] at h
 |f+1,acc,i,x,j,ha,h=>by
  unfold dv at h
  split at h
  ·simp at h;obtain ⟨rfl,rfl⟩:=h;exact ⟨fun r I=>(ha r I).le aj,aj,aj⟩
  split at h
  ·simp at h
  split at h
  ·simp at h
  rename_i J;have h1:=od T P _ _ _ J;have h2:=Vc T P _ _ _ J;have:=CM T P f _ _ _ _ (by
   intro r I;rw [aQ,aR] at I
   rcases I with I|rfl
   ·exact (ha r I).le aj
   exact h2) h
  exact Pg
def Pj(T P i t j)(h:ly T P i=.ok (t,j)):(∀r∈t.rels,Bn r.body j)/\t.rels.length<=j:=by
 unfold ly at h
 split at h
 ·split at h
  ·simp at h
  split at h
  ·simp at h
  rename_i A;have:=CM T P _ _ _ _ _ ar A;simp at h;obtain ⟨rfl,rfl⟩:=h;refine ⟨this.1,?_⟩;have h2:=this.2.1;simp only [List.length_nil] at h2;simp only;omega
 simp at h
def TB(t:Ty)(n:Nat):Prop:=(∀r∈t.rels,Bn r.body n)/\t.rels.length<=n
def TB.le(h:TB t n)(A:n<=m):TB t m:=⟨fun r C=>(h.1 r C).le A,aP h.2 A⟩
def yw(T P):∀f acc i ts j,(∀t∈acc,TB t i)->cS T P f acc i=.ok (ts,j)->(∀t∈ts,TB t j)/\ts.length+i<=acc.length+j/\i<=j
 |0,_,i,x,j,_,h=>by simp [cS] at h
 |f+1,acc,i,x,j,ha,h=>by
  unfold cS at h
  split at h
  ·simp at h;obtain ⟨rfl,rfl⟩:=h;exact ⟨ha,bY _,bY _⟩
  split at h
  ·simp at h
  split at h
  ·simp at h
  rename_i J;have h1:=uy T P _ _ _ J;have h2:=Pj T P _ _ _ J;have:=yw T P f _ _ _ _ (by
   intro t I;rw [aQ,aR] at I
   rcases I with I|rfl
   ·exact (ha t I).le aj
   exact h2) h
  exact Pg
def iH(T P ts j)(h:eg T P=.ok (ts,j)):(∀t∈ts,TB t j)/\ts.length<=j:=by
 have:=yw T P _ _ _ _ _ ar h;refine ⟨this.1,?_⟩;have h2:=this.2.1;simp only [List.length_nil] at h2;omega
variable {b:Nat}
def RC.of_rep(h:iz (b+1) b w sv rs)(C:∀r∈rs,Bn r.body n)(I:rs.length<=n)(J:n<=500):∃rl,RC b w sv rs rl:=by
 obtain ⟨l,h1,h2,D⟩:=h;refine ⟨l,h1,?_,h2,aj,fun r A=>aP (C r A).p aj,fun r A=>aP (C r A).g aj,fun r A=>(C r A).wf⟩;unfold hJ;rw [c3_r3,bX,show l.length=rs.length by rw [<-h1,bX]];exact bg D (Nat.zero_le _)
def MC.of_rep(h:kQ (b+1) b w sv ts)(A:∀t∈ts,TB t n)(R:ts.length<=n)(Q:n<=500)(J:b<w.heap.size):∃tl,MC b w sv ts tl:=by
 obtain ⟨l,h1,h2,I⟩:=h;refine ⟨l,h1,?_,?_,aj,J⟩
 ·unfold hJ;rw [c3_t3,bX,show l.length=ts.length by rw [<-h1,bX]];exact bg I (Nat.zero_le _)
 intro p D;have C:p.1∈ts:=by rw [<-h1];exact List.mem_map_of_mem D
 exact RC.of_rep (h2 p D) (A p.1 C).1 (A p.1 C).2 Q
end
def Xj (h:aA:=by
 have:=B2.u.size;omega):aA:=h
def FQ(q:aU) (h:bF aU->aA:=by
 intro zq;refine C0.u.mono ?_;rintro e w1 ⟨rfl,hb1⟩;have B1:=ai (B0.u.trans (hb1.mono B0.u.size));have R1:=ai (R0.u.below hb1);have Xk:=(R0.u.below hb1).lt;have A1:At (w1.alloc (.cells #[.string s,.int .i64 (dz s 0),.string (cD s 0),.int .i64 0] 140)) w1.heap.size s 0 0:=⟨⟨⟨aE.new w1 _ _⟩,Nat.zero_le _⟩,Nat.zero_le _⟩;have C1:=ai (Fa w1.heap.size s 0 _ hs A1 rfl);have R2:=ai (R1.u.alloc (.cells #[.string s,.int .i64 (dz s 0),.string (cD s 0),.int .i64 0] 140));have B2:=ai (B1.u.alloc B1.u.size (.cells #[.string s,.int .i64 (dz s 0),.string (cD s 0),.int .i64 0] 140))
 revert w1 hb1 B1 R1 Xk A1 C1 R2 B2
 exact zq.1):aA:=h ⟨q⟩
def FR(q:aU) (h:bF aU->aA:=by
 intro zq;refine CL.u.mono ?_;rintro e w0 ⟨rfl,hb0⟩;have B0:=ai (((az _ w).alloc aD (.cells #[.slice none 0 0] 75)).trans (hb0.mono ar));have R0:=ai ((aE.new w o3 75).below hb0);have C0:=ai (oL s 0 0 w0 gz (Nat.zero_le _) rfl)
 revert w0 hb0 B0 R0 C0
 exact zq.1):aA:=h ⟨q⟩
def Pk(q:aU) (h:bF aU->aA:=by
 intro zq;refine (ak C4).mono ?_;rintro e w4 ⟨rfl,hb4⟩;have B4:=ai (B3.u.trans (((az _ w3).alloc aD (aW ma mn mc)).trans (hb4.mono ar) |>.mono B3.u.size));have R4:=ai ((R3.u.alloc (aW ma mn mc)).below hb4)
 revert w4 hb4 B4 R4
 exact zq.1):aA:=h ⟨q⟩
def FT(q:aU) (h:bF aU->aA:=by
 intro zq;have hn:¬((500:Int)<(s.size:Int)):=aj;have CL:=ai (yx s (w.alloc (.cells #[.slice none 0 0] 75)) hs)
 revert hn CL
 exact zq.1):aA:=h ⟨q⟩
def FU(q:aU) (h:bF aU->aA:=by
 intro zq;have B3:=ai (B2.u.trans (b3.below (by have:=B1.u.size;omega) Xj));have R3:=ai (R2.u.but b3 aj)
 revert B3 R3
 exact zq.1):aA:=h ⟨q⟩
def yx(s w)(hs:s.size<=500):Calls prog 70 #[.string s] w fun e w'=>e=.returned (.string s)/\an w w':=by
 have C:=ai (Tryz.stringslite_Clone s w aj);go_enter func70,ntmps70;go_wp2_with fail;refine C.u.mono ?_;rintro e w' ⟨rfl,D⟩;have A:=ai D;go_wp2;go_ret;exact ⟨rfl,A.u⟩
def fq(s:ae):Except (Option Nat×Nat) (List Ty):=if 500<s.size then .error (none,1) else match eg (TT s) (PP s) with
 | .error (c,j)=> .error (some (PP s j),c)
 | .ok (ts,_)=>match gt ts with
  |some (p,c)=> .error (some p,c)
  |none=> .ok ts
def Yy:Option Nat×Nat->ag
 |(none,c)=>cj c
 |(some p,c)=>gl p c
def nD(w:af)(r:Except (Option Nat×Nat) (List Ty))(e:Ending)(w':af):Prop:=an w w'/\match r with
 | .error x=>e=.returned (.tuple #[.agg #[.slice none 0 0],Yy x])
 | .ok ts=>∃sv tl b,e=.returned (.tuple #[.agg #[sv],.nilIface])/\MC b w' sv ts tl
def K4(s w)(hs:500<s.size):Calls prog 40 #[.string s] w (nD w (.error (none,1))):=by
 have hn:(500:Int)<(s.size:Int):=aj;have C:=ai (aE.new w o3 75);have A:=ai (az w.heap.size w);go_enter func40,ntmps40;go_wp2;refine bq (v:=.tuple #[.agg #[.slice none 0 0],cj 1]) (bR results40 _ _ w.heap.size _ 75 _ _ rfl rfl ?hB underlying75 rfl aw) rfl ?post
 case hB=>exact ⟨_,(cM C),bc⟩
 case post=>exact ⟨(cd A),rfl⟩
def Pl(s w)(hs:s.size<=500)(c j)(I:eg (TT s) (PP s)=.error (c,j)):Calls prog 40 #[.string s] w (nD w (.error (some (PP s j),c))):=by
 have D:=ai I;refine FT ?_;intro hn CL;go_enter func40,ntmps40;go_wp2_with fail;refine FR ?_;intro w0 hb0 B0 R0 C0;go_wp2_with fail;refine FQ ?_;intro w1 hb1 B1 R1 Xk A1 C1 R2 B2;rw [D.u] at C1;go_wp2_with fail;refine (ak C1).mono ?_;rintro e C ⟨b3,v,d',rfl,⟨V,Z,Y,rfl⟩,A⟩;have c1:C.cell? ⟨w1.heap.size,1,none⟩=some (.int .i64 (PP s j)):=A.pos.rd.c1;have U:=A.lt;refine FU ?_;intro B3 R3;have J:=R3.u.cell (o:=0) rfl;simp only [List.getElem_toArray,List.getElem_cons_zero] at J;have R:=R3.u.fz;have rl:=R3.u.lt;have Q:¬(w.heap.size=C.heap.size):=aj;unfold cj;go_wp2_with (go_at_call 73;refine (jS _ c _).mono ?_;rintro e ab ⟨rfl,rfl⟩);refine bq (v:=.tuple #[.agg #[.slice none 0 0],gl (PP s j) c]) (bR results40 _ _ w.heap.size _ 75 _ _ rfl rfl ?hB underlying75 rfl aw) rfl ?post
 case hB=>exact ⟨_,(cM R3),bc⟩
 case post=>exact ⟨(cd B3),rfl⟩
def FV(s w)(hs:s.size<=500)(ts j p c)(Q:eg (TT s) (PP s)=.ok (ts,j))(J:gt ts=some (p,c)):Calls prog 40 #[.string s] w (nD w (.error (some p,c))):=by
 have A:=ai Q;have I:=ai J;refine FT ?_;intro hn CL;go_enter func40,ntmps40;go_wp2_with fail;refine FR ?_;intro w0 hb0 B0 R0 C0;go_wp2_with fail;refine FQ ?_;intro w1 hb1 B1 R1 Xk A1 C1 R2 B2;rw [A.u] at C1;go_wp2_with fail;refine (ak C1).mono ?_;rintro e w3 ⟨b3,v,rfl,⟨sv,rfl,R⟩,C⟩;obtain ⟨tl,D⟩:=MC.of_rep R (iH _ _ _ _ A.u).1 (iH _ _ _ _ A.u).2 (by have:=C.le;omega) C.lt;obtain ⟨ma,mn,mc,rfl⟩:=D.form;refine FU ?_;intro B3 R3;have C4:=ai (yu _ _ ts tl _ (D.below (bj.alloc aD (aW ma mn mc))));rw [I.u] at C4;go_wp2_with fail;refine Pk ?_;intro w4 hb4 B4 R4;have U:=R4.u.cell (o:=0) rfl;simp only [List.getElem_toArray,List.getElem_cons_zero] at U;have V:=R4.u.fz;unfold FP gl cj;go_wp2;refine bq (v:=.tuple #[.agg #[.slice none 0 0],gl p c]) (bR results40 _ _ w.heap.size _ 75 _ _ rfl rfl ?hB underlying75 rfl aw) rfl ?post
 case hB=>exact ⟨_,(cM R4),bc⟩
 case post=>exact ⟨(cd B4),rfl⟩
def Vd(s w)(hs:s.size<=500)(ts j)(U:eg (TT s) (PP s)=.ok (ts,j))(R:gt ts=none):Calls prog 40 #[.string s] w (nD w (.ok ts)):=by
 have A:=ai U;have J:=ai R;refine FT ?_;intro hn CL;go_enter func40,ntmps40;go_wp2_with fail;refine FR ?_;intro w0 hb0 B0 R0 C0;go_wp2_with fail;refine FQ ?_;intro w1 hb1 B1 R1 Xk A1 C1 R2 B2;rw [A.u] at C1;go_wp2_with fail;refine (ak C1).mono ?_;rintro e w3 ⟨b3,v,rfl,⟨sv,rfl,V⟩,D⟩;obtain ⟨tl,I⟩:=MC.of_rep V (iH _ _ _ _ A.u).1 (iH _ _ _ _ A.u).2 (by have:=D.le;omega) D.lt;obtain ⟨ma,mn,mc,rfl⟩:=I.form;refine FU ?_;intro B3 R3;have C:=ai (I.below (bj.alloc aD (aW ma mn mc)));have C4:=ai (yu _ _ ts tl _ C.u);rw [J.u] at C4;go_wp2_with fail;refine Pk ?_;intro w4 hb4 B4 R4;have Q:=ai (C.u.below hb4);have Z:w4.cell? ⟨w3.heap.size,0,none⟩=some (.slice ma mn mc):=((aE.new w3 #[.slice ma mn mc] 75).below hb4).cell rfl;have Y:=R4.u.cell (o:=0) rfl;simp only [List.getElem_toArray,List.getElem_cons_zero] at Y;have ab:=R4.u.fz;unfold FP;go_wp2;refine bq (v:=.tuple #[.agg #[.slice ma mn mc],.nilIface]) (bR results40 _ _ w.heap.size _ 75 _ _ rfl rfl ?hB underlying75 rfl aw) rfl ?post
 case hB=>exact ⟨_,(cM R4),bc⟩
 case post=>exact ⟨(cd B4),_,tl,_,rfl,Q.u.kt (KT.set R4.u au 0 _) M7⟩
def CN(s w):Calls prog 40 #[.string s] w (nD w (fq s)):=by
 unfold fq
 split
 ·rename_i h;exact K4 s w h
 rename_i h;have hs:s.size<=500:=aj
 split
 ·rename_i c j A;exact Pl s w hs c j A
 rename_i ts j A
 split
 ·rename_i p c hc;exact FV s w hs ts j p c A hc
 rename_i hc;exact Vd s w hs ts j A hc
section
open Go.Extern.Stop Go.Stop Go.Extern
abbrev mr(a0:Option Addr):Obj:=.cells #[.pointer a0] 145
abbrev pI(a0:Option Addr):Obj:=.cells #[.pointer a0] 148
def Ve(u)(h:(#[u]:Array ag).size=1)(k:0<1):Array.getLit (n:=1) #[u] 0 h k=u:=rfl
def Xm(u v)(h:(#[u,v]:Array ag).size=2)(k:0<2):Array.getLit (n:=2) #[u,v] 0 h k=u:=rfl
def Xn(u v)(h:(#[u,v]:Array ag).size=2)(k:1<2):Array.getLit (n:=2) #[u,v] 1 h k=v:=rfl
def I6(t w):(ReflectliteValue.unpack (.iface 145 (.pointer (some t)))).run prog w
  =.ok (.agg #[.pointer (some ⟨5,145,none⟩),.pointer (some ⟨w.heap.size,0,none⟩),.int .u64 150]) (w.alloc (mr (some t))):=aw
def I7(t w):(ReflectliteValue.unpack (.iface 148 (.pointer (some t)))).run prog w
  =.ok (.agg #[.pointer (some ⟨5,148,none⟩),.pointer (some ⟨w.heap.size,0,none⟩),.int .u64 150]) (w.alloc (pI (some t))):=aw
def I8(c w):(ReflectliteValue.unpack (.iface 134 (.int .i64 c))).run prog w
  =.ok (.agg #[.pointer (some ⟨5,134,none⟩),.pointer (some ⟨w.heap.size,0,none⟩),.int .u64 130]) (w.alloc (.cells #[.int .i64 c] 134)):=aw
def Vf(p e w):(ReflectliteValue.unpack (.iface 147 (.agg #[.int .i64 p,e]))).run prog w
  =.ok (.agg #[.pointer (some ⟨5,147,none⟩),.pointer (some ⟨w.heap.size,0,none⟩),.int .u64 153]) (w.alloc (.cells #[.int .i64 p,e] 147)):=aw
def yz(a w):(ReflectliteValue.methodAny (ReflectliteValue.valueError "reflectlite.Value.Type" 0) (fun t _ _ _=>ReflectliteType.toType t) #[.agg #[.pointer (some ⟨5,145,none⟩),.pointer (some a),.int .u64 150]]).run prog w
  =.ok (.iface 325 (.agg #[.pointer (some ⟨5,145,none⟩)])) w:=aw
def yA(a w):(ReflectliteValue.methodAny (ReflectliteValue.valueError "reflectlite.Value.Type" 0) (fun t _ _ _=>ReflectliteType.toType t) #[.agg #[.pointer (some ⟨5,148,none⟩),.pointer (some a),.int .u64 150]]).run prog w
  =.ok (.iface 325 (.agg #[.pointer (some ⟨5,148,none⟩)])) w:=aw
def qv(h w):(Go.method 545 325 (.agg #[h]) "Kind").run prog w=.ok (292,h) w:=by kernel_rfl
def yB(w):((ReflectliteType.abiMethod fun t=>Functor.map (fun a:Nat=>Value.int IntKind.u8 (a:Int)) (Rtype.kind t)) #[.pointer (some ⟨5,145,none⟩)]).run prog w=.ok (.int .u8 22) w:=by kernel_rfl
def yC(w):((ReflectliteType.abiMethod fun t=>Functor.map (fun a:Nat=>Value.int IntKind.u8 (a:Int)) (Rtype.kind t)) #[.pointer (some ⟨5,148,none⟩)]).run prog w=.ok (.int .u8 22) w:=by kernel_rfl
def yD(w):((ReflectliteType.abiMethod fun t=>Functor.map (fun a:Nat=>Value.int IntKind.u8 (a:Int)) (Rtype.kind t)) #[.pointer (some ⟨5,134,none⟩)]).run prog w=.ok (.int .u8 2) w:=by kernel_rfl
def yE(w):((ReflectliteType.abiMethod fun t=>Functor.map (fun a:Nat=>Value.int IntKind.u8 (a:Int)) (Rtype.kind t)) #[.pointer (some ⟨5,147,none⟩)]).run prog w=.ok (.int .u8 25) w:=by kernel_rfl
def vq(a w):(ReflectliteValue.parts (.agg #[.pointer (some ⟨5,145,none⟩),.pointer (some a),.int .u64 150])).run prog w=.ok (some (145,a,150)) w:=by kernel_rfl
def vr(a w):(ReflectliteValue.parts (.agg #[.pointer (some ⟨5,148,none⟩),.pointer (some a),.int .u64 150])).run prog w=.ok (some (148,a,150)) w:=by kernel_rfl
def CQ(a p W)(ha:W.cell? a=some (.pointer (some p))):
  (ReflectliteValue.method (ReflectliteValue.valueError "reflectlite.Value.IsNil" 0) ReflectliteValue.isNil #[.agg #[.pointer (some ⟨5,145,none⟩),.pointer (some a),.int .u64 150]]).run prog W=.ok (.bool false) W:=by
 refine Eq.trans (congrArg (fun z:Sem ag=>z.run prog W) (rfl:ReflectliteValue.method _ _ _=ReflectliteValue.parts _ >>= _)) ?_;simp only [Ve,pm,vq,Result.andThen];simp [ReflectliteValue.isNil,loadVar,isAgg,underlying,underlying145,ha,Result.andThen]
def CR(a p W)(ha:W.cell? a=some (.pointer (some p))):
  (ReflectliteValue.method (ReflectliteValue.valueError "reflectlite.Value.IsNil" 0) ReflectliteValue.isNil #[.agg #[.pointer (some ⟨5,148,none⟩),.pointer (some a),.int .u64 150]]).run prog W=.ok (.bool false) W:=by
 refine Eq.trans (congrArg (fun z:Sem ag=>z.run prog W) (rfl:ReflectliteValue.method _ _ _=ReflectliteValue.parts _ >>= _)) ?_;simp only [Ve,pm,vr,Result.andThen];simp [ReflectliteValue.isNil,loadVar,isAgg,underlying,underlying148,ha,Result.andThen]
def qw(h w):(Go.method 545 325 (.agg #[h]) "Elem").run prog w=.ok (305,.agg #[h]) w:=by kernel_rfl
def qx(h w):(Go.method 545 325 (.agg #[h]) "Implements").run prog w=.ok (306,.agg #[h]) w:=by kernel_rfl
def mw(h w):(Go.method 545 325 (.agg #[h]) "AssignableTo").run prog w=.ok (303,.agg #[h]) w:=by kernel_rfl
def FY(p h w):(Go.method 545 147 (.agg #[.int .i64 p,h]) "Unwrap").run prog w=.ok (297,.agg #[.int .i64 p,h]) w:=by kernel_rfl
def yF(w):(ReflectliteType.method ReflectliteType.elem #[.agg #[.pointer (some ⟨5,145,none⟩)]]).run prog w=.ok (.iface 325 (.agg #[.pointer (some ⟨5,134,none⟩)])) w:=by kernel_rfl
def yG(w):(ReflectliteType.method ReflectliteType.elem #[.agg #[.pointer (some ⟨5,148,none⟩)]]).run prog w=.ok (.iface 325 (.agg #[.pointer (some ⟨5,147,none⟩)])) w:=by kernel_rfl
def yH(w):(ReflectliteType.relation "Implements" ReflectliteType.implements_ #[.agg #[.pointer (some ⟨5,134,none⟩)],.iface 325 (.agg #[.pointer (some ⟨5,77,none⟩)])]).run prog w=.ok (.bool true) w:=by kernel_rfl
def yI(w):(ReflectliteType.relation "Implements" ReflectliteType.implements_ #[.agg #[.pointer (some ⟨5,147,none⟩)],.iface 325 (.agg #[.pointer (some ⟨5,77,none⟩)])]).run prog w=.ok (.bool true) w:=by kernel_rfl
def nF(v w):(ReflectliteType.typeOf #[.iface 134 v]).run prog w=.ok (.iface 325 (.agg #[.pointer (some ⟨5,134,none⟩)])) w:=by kernel_rfl
def s7(v w):(ReflectliteType.typeOf #[.iface 147 v]).run prog w=.ok (.iface 325 (.agg #[.pointer (some ⟨5,147,none⟩)])) w:=by kernel_rfl
def vs(w):(ReflectliteType.relation "AssignableTo" ReflectliteType.assignableTo #[.agg #[.pointer (some ⟨5,134,none⟩)],.iface 325 (.agg #[.pointer (some ⟨5,134,none⟩)])]).run prog w=.ok (.bool true) w:=by kernel_rfl
def FZ(w):(ReflectliteType.relation "AssignableTo" ReflectliteType.assignableTo #[.agg #[.pointer (some ⟨5,147,none⟩)],.iface 325 (.agg #[.pointer (some ⟨5,134,none⟩)])]).run prog w=.ok (.bool false) w:=by kernel_rfl
def F0(w):(ReflectliteType.relation "AssignableTo" ReflectliteType.assignableTo #[.agg #[.pointer (some ⟨5,134,none⟩)],.iface 325 (.agg #[.pointer (some ⟨5,147,none⟩)])]).run prog w=.ok (.bool false) w:=by kernel_rfl
def F1(w):(ReflectliteType.relation "AssignableTo" ReflectliteType.assignableTo #[.agg #[.pointer (some ⟨5,147,none⟩)],.iface 325 (.agg #[.pointer (some ⟨5,147,none⟩)])]).run prog w=.ok (.bool true) w:=by kernel_rfl
def CS(w):(Rtype.elem? 145).run prog w=.ok (some 134) w:=by kernel_rfl
def CU(w):(Rtype.elem? 148).run prog w=.ok (some 147) w:=by kernel_rfl
def Vg(p w):(ReflectliteValue.mk 134 p ReflectliteValue.flagAddr).run prog w=.ok (.agg #[.pointer (some ⟨5,134,none⟩),.pointer (some p),.int .u64 386]) w:=by kernel_rfl
def Vh(p w):(ReflectliteValue.mk 147 p ReflectliteValue.flagAddr).run prog w=.ok (.agg #[.pointer (some ⟨5,147,none⟩),.pointer (some p),.int .u64 409]) w:=by kernel_rfl
def vt(a p W)(ha:W.cell? a=some (.pointer (some p))):
  (ReflectliteValue.method (ReflectliteValue.valueError "reflectlite.Value.Elem" 0) ReflectliteValue.elem #[.agg #[.pointer (some ⟨5,145,none⟩),.pointer (some a),.int .u64 150]]).run prog W
   =.ok (.agg #[.pointer (some ⟨5,134,none⟩),.pointer (some p),.int .u64 386]) W:=by
 refine Eq.trans (congrArg (fun z:Sem ag=>z.run prog W) (rfl:ReflectliteValue.method _ _ _=ReflectliteValue.parts _ >>= _)) ?_;simp only [Ve,pm,vq,Result.andThen];simp [ReflectliteValue.elem,loadVar,isAgg,underlying,underlying145,ha,Result.andThen,CS,Vg]
def F2(a p W)(ha:W.cell? a=some (.pointer (some p))):
  (ReflectliteValue.method (ReflectliteValue.valueError "reflectlite.Value.Elem" 0) ReflectliteValue.elem #[.agg #[.pointer (some ⟨5,148,none⟩),.pointer (some a),.int .u64 150]]).run prog W
   =.ok (.agg #[.pointer (some ⟨5,147,none⟩),.pointer (some p),.int .u64 409]) W:=by
 refine Eq.trans (congrArg (fun z:Sem ag=>z.run prog W) (rfl:ReflectliteValue.method _ _ _=ReflectliteValue.parts _ >>= _)) ?_;simp only [Ve,pm,vr,Result.andThen];simp [ReflectliteValue.elem,loadVar,isAgg,underlying,underlying148,ha,Result.andThen,CU,Vh]
def CV(a w):(ReflectliteValue.parts (.agg #[.pointer (some ⟨5,134,none⟩),.pointer (some a),.int .u64 386])).run prog w=.ok (some (134,a,386)) w:=by kernel_rfl
def F3(a w):(ReflectliteValue.parts (.agg #[.pointer (some ⟨5,134,none⟩),.pointer (some a),.int .u64 130])).run prog w=.ok (some (134,a,130)) w:=by kernel_rfl
def CW(a w):(ReflectliteValue.parts (.agg #[.pointer (some ⟨5,147,none⟩),.pointer (some a),.int .u64 409])).run prog w=.ok (some (147,a,409)) w:=by kernel_rfl
def F4(a w):(ReflectliteValue.parts (.agg #[.pointer (some ⟨5,147,none⟩),.pointer (some a),.int .u64 153])).run prog w=.ok (some (147,a,153)) w:=by kernel_rfl
def CX(w):(Rtype.directlyAssignable 134 134).run prog w=.ok true w:=by kernel_rfl
def CY(w):(Rtype.directlyAssignable 147 147).run prog w=.ok true w:=by kernel_rfl
def CZ(ta b c old W)(A:W.cell? b=some (.int .i64 c))(D:W.cell? ta=some old)(C:W.frozen? ta=false):
  (ReflectliteValue.set #[.agg #[.pointer (some ⟨5,134,none⟩),.pointer (some ta),.int .u64 386],.agg #[.pointer (some ⟨5,134,none⟩),.pointer (some b),.int .u64 130]]).run prog W
   =.ok (.tuple #[]) (W.setCell ta (.int .i64 c)):=by
 refine Eq.trans (congrArg (fun z:Sem ag=>z.run prog W) (rfl:ReflectliteValue.set _=ReflectliteValue.parts _ >>= _)) ?_;simp only [Xm,Xn,pm,CV,F3,Result.andThen];simp [ReflectliteValue.flagAddr,loadVar,isAgg,underlying,underlying134,A,Result.andThen,CX,storeVar,Value.cells,storeCells,Addr.add];rw [run_store prog W ta _ _ bc];simp [D,C]
end
section
open Go.Extern.Stop Go.Stop Go.Extern
abbrev vu:=@World.cell?_alloc_lt
abbrev eN(a0:Option Addr)(a1:Option Addr):Obj:=.cells #[.pointer a0,.pointer a1,.int .u64 150] 226
def aaY (h:aA:=by
 rw [vu _ _ ⟨w.heap.size,0,none⟩ (by simp;omega)];simp):aA:=h
def Xo (h:aA:=by
 rw [World.cell?_alloc_at _ _ _ _ (by simp)];rfl):aA:=h
def Au (h:aA:=by
 rw [vu _ _ ⟨0,0,none⟩ ar,vu _ _ ⟨0,0,none⟩ hlt];exact hg):aA:=h
def Av (h:aA:=by
 rcases An w.heap.size with h0|h
 ·simp [World.cell?,h0] at hg
 exact h):aA:=h
def Aw:=@run_callFunc_extern prog 119 _ (fun args=>ReflectliteValue.unpack (args.getD 0 (.tuple #[]))) func119 aw aw aw aw
def Ax:=@run_callFunc_extern prog 120 _ (ReflectliteValue.methodAny (ReflectliteValue.valueError "reflectlite.Value.Type" 0) (fun t _ _ _=>ReflectliteType.toType t)) func120 aw aw aw aw
def Ay:=@run_callFunc_extern prog 121 _ (ReflectliteValue.method (ReflectliteValue.valueError "reflectlite.Value.IsNil" 0) ReflectliteValue.isNil) func121 aw aw aw aw
def I9:=@run_callFunc_extern prog 292 _ (ReflectliteType.abiMethod fun t=>do pure (.int .u8 (<-Rtype.kind t))) func292 aw aw aw aw
def Ja:=@run_callFunc_extern prog 305 _ (ReflectliteType.method ReflectliteType.elem) func305 aw aw aw aw
def Jb:=@run_callFunc_extern prog 306 _ (ReflectliteType.relation "Implements" ReflectliteType.implements_) func306 aw aw aw aw
def Jc:=@run_callFunc_extern prog 178 _ ReflectliteType.typeOf func178 aw aw aw aw
def Jd:=@run_callFunc_extern prog 303 _ (ReflectliteType.relation "AssignableTo" ReflectliteType.assignableTo) func303 aw aw aw aw
def Po:=@run_callFunc_extern prog 179 _ (ReflectliteValue.method (ReflectliteValue.valueError "reflectlite.Value.Elem" 0) ReflectliteValue.elem) func179 aw aw aw aw
def Pp:=@run_callFunc_extern prog 180 _ ReflectliteValue.set func180 aw aw aw aw
def Yz(t w):Calls prog 75 #[.nilIface,t] w fun e w'=>e=.returned (.bool false)/\w'=w:=by
 go_enter func75,ntmps75;go_wp2;go_ret;exact ⟨rfl,rfl⟩
def as_58(c tb old w)(hg:w.cell? ⟨0,0,none⟩=some (.iface 325 (.agg #[.pointer (some ⟨5,77,none⟩)])))(A:aE w tb #[old] 134):
  Calls prog 75 #[.iface 134 (.int .i64 c),.iface 145 (.pointer (some ⟨tb,0,none⟩))] w fun D w'=>D=.returned (.bool true)/\But tb w w'/\aE w' tb #[.int .i64 c] 134:=by
 have af:=Aw;have ag:=Ax;have ah:=Ay;have am:=I9;have ak:=Ja;have al:=Jb;have ap:=Jc;have aj:=Jd;have au:=Po;have an:=Pp;have ab:=qv;have Y:=qw;have Z:=qx;have V:=mw;have f6:=I6;have f7:=yz;have kp:=yB;have U:=yD;have J:=yF;have R:=yH;have ac:=CQ ⟨w.heap.size,0,none⟩ ⟨tb,0,none⟩ ((w.alloc (mr (some ⟨tb,0,none⟩))).alloc (eN (some ⟨5,145,none⟩) (some ⟨w.heap.size,0,none⟩))) ar;have hlt:0<w.heap.size:=by
  exact Av
 have Q:((w.alloc (mr (some ⟨tb,0,none⟩))).alloc (eN (some ⟨5,145,none⟩) (some ⟨w.heap.size,0,none⟩))).cell? ⟨0,0,none⟩=some (.iface 325 (.agg #[.pointer (some ⟨5,77,none⟩)])):=by
  exact Au
 have ad:=nF;have I:=vs;have ae:=I8;have el:=vt ⟨w.heap.size,0,none⟩ ⟨tb,0,none⟩ (((w.alloc (mr (some ⟨tb,0,none⟩))).alloc (eN (some ⟨5,145,none⟩) (some ⟨w.heap.size,0,none⟩))).alloc (eN (some ⟨5,145,none⟩) (some ⟨w.heap.size,0,none⟩))) aaY;have st:=CZ ⟨tb,0,none⟩ ⟨w.heap.size+1+1+1,0,none⟩ c old ((((w.alloc (mr (some ⟨tb,0,none⟩))).alloc (eN (some ⟨5,145,none⟩) (some ⟨w.heap.size,0,none⟩))).alloc (eN (some ⟨5,145,none⟩) (some ⟨w.heap.size,0,none⟩))).alloc (.cells #[.int .i64 c] 134))
  Xo
  (((((A.alloc _).alloc _).alloc _).alloc _).cell rfl)
  (((((A.alloc _).alloc _).alloc _).alloc _).fz 0)
 have C:=ai A;go_enter func75,ntmps75;go_wp2;refine uz 1 ?_;rw [rf];go_wp2;go_ret;exact ⟨rfl,((((((But.refl tb w).alloc _).alloc _).alloc _).alloc _).setCell 0 _),(((((C.u.alloc _).alloc _).alloc _).alloc _).set 0 _)⟩
end
