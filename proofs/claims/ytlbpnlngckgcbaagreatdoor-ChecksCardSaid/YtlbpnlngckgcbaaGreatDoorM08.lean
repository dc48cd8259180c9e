import Derived.Test.YtlbpnlngckgcbaaGreatDoorM06
set_option linter.all false
set_option maxHeartbeats 4000000
set_option maxRecDepth 100000
namespace Go.Proofs.YtlbpnlngckgcbaaGreatDoor
open Go.RowKit Go.PlainAid Go.Proofs.Tryz
variable {fn:Func} {ty:TypeId}
theorem zj{p q u ty2}(A:fn.results=#[.cell p ty,.cell q ty2,.tmp u])(tmps P w):
  (results fn tmps).run P w=
   ((asAddr (tmps.getD p undef)).run P w).andThen fun a D=>((loadVar ty a).run P D).andThen fun v I=>((asAddr (tmps.getD q undef)).run P I).andThen fun h J=>((loadVar ty2 h).run P J).andThen fun C O=> .ok (.tuple #[v,C,tmps.getD u undef]) O:=by
 simp only [results,A];simp [Sem.run_bind,Result.andThen]
theorem xp{P:Program}{fn:Func}{p O u:Tmp}{ty A:TypeId}(Q:fn.results=#[.cell p ty,.cell O A,.tmp u])(h:Array ag)(w:af)(g D:Nat)(cs C:Array ag)(t t2:TypeId)(e:ag)(d d2:TypeDesc)
  (Y:h.getD p undef=.pointer (some ⟨g,0,none⟩)) (Z:h.getD O undef=.pointer (some ⟨D,0,none⟩)) (ab:h.getD u undef=e) (I:∃x,aB w g x t/\x=cs) (J:∃x,aB w D x t2/\x=C)
  (ac:P.underlying ty=some d) (R:(match d with| .struct _| .array _ _=>true|_=>false)=true) (hi:(P.info? ty).map (·.size)=some cs.size)
  (ad:P.underlying A=some d2) (U:(match d2 with| .struct _| .array _ _=>true|_=>false)=true) (V:(P.info? A).map (·.size)=some C.size):
  (results fn h).run P w=.ok (.tuple #[.agg cs,.agg C,e]) w:=by
 obtain ⟨x,I,rfl⟩:=I;obtain ⟨y,J,rfl⟩:=J;rw [zj Q,Y,Z,ab];simp [asAddr,Result.andThen,run_loadVar_row w g t ty x (0,0) d I ac R hi,run_loadVar_row w D t2 A y (0,0) d2 J ad U V]
theorem zm(b sv ts tl x w)(A:MC b w sv ts tl)(t)(h:bL ts x=some t):
  ∃J Q O rl,RC b w (.slice J Q O) t.rels rl/\∀w1,Below w.heap.size w w1->Calls prog 57 #[.agg #[sv],.string x] w1 fun e w'=>e=.returned (.tuple #[.agg #[.int .i64 t.place,.string t.name,.slice J Q O],.nilIface])/\Below w1.heap.size w1 w':=by
 rw [<-A.fst,oj] at h
 cases C:tl.find? (fun p=>eqs p.1.name x) with
 |none=>rw [C] at h;cases h
 |some y=>
  rw [C] at h;simp only [Option.map_some,aK] at h;subst h;obtain ⟨rl,D⟩:=A.rels y (gm C);obtain ⟨a,n,c,e⟩:=D.form;have I:=D;rw [e] at I;refine ⟨a,n,c,rl,I,fun w1 k=> ?_⟩;have:=oa sv (tl.map t3) x w1 A.llen (A.below k).row (t3 y) (by rw [sK,C];rfl) ⟨a,n,c,e⟩;have R:(t3 y).2.2=.slice a n c:=e;rw [R] at this;exact this
theorem Jy(b O:Nat)(nn sv t rl x w)(C:RC b w sv t.rels rl)(r)(h:bP t x=some r):
  ∃ta A,bg b w r.body (.iface ta A)/\r∈t.rels/\∀w1,Below w.heap.size w w1->Calls prog 145 #[.agg #[.int .i64 O,.string nn,sv],.string x] w1 fun e w'=>e=.returned (.tuple #[.agg #[.int .i64 r.place,.string r.name,.iface ta A],.nilIface])/\Below w1.heap.size w1 w':=by
 have R:r∈t.rels:=gm h;unfold bP at h;rw [<-C.fst,List.find?_map,show ((fun r:Rl=>eqs r.name x) ∘ Prod.fst)=(fun p:Rl×ag=>eqs p.1.name x) from rfl] at h
 cases D:rl.find? (fun p=>eqs p.1.name x) with
 |none=>rw [D] at h;cases h
 |some y=>
  rw [D] at h;simp only [Option.map_some,aK] at h;subst h;have I:=C.ex y (gm D);obtain ⟨ta,A,e⟩:=I.isI;have J:=I;rw [e] at J;refine ⟨ta,A,J,R,fun w1 k=> ?_⟩;have:=ob O nn sv (rl.map r3) x w1 C.llen (C.below k).row (r3 y) (by rw [sL,D];rfl) ⟨ta,A,e⟩;have Q:(r3 y).2.2=.iface ta A:=e;rw [Q] at this;exact this
theorem oq(b sv ts tl s1 s2 w)(O:MC b w sv ts tl)(U:bL ts s1=none):
  Calls prog 94 #[.agg #[sv],.string s1,.string s2] w fun e w'=>e=.returned (.tuple #[.agg #[.int .i64 0,.string ⟨#[]⟩,.slice none 0 0],.agg #[.int .i64 0,.string ⟨#[]⟩,.nilIface],bY 5])/\Below w.heap.size w w':=by
 obtain ⟨Q,mn,mc,rfl⟩:=O.form;have W0:Below w.heap.size w (((w.alloc (aN Q mn mc)).alloc cM).alloc ce):=((ba.alloc az _).alloc an _).alloc aM _;have Y:=ai (O.below W0);have R:=ai W0;have TB:=ai ((aB.new' (w.alloc (aN Q mn mc)) #[.int .i64 0,.string ⟨#[]⟩,.slice none 0 0] 110 (w.heap.size+1) an).alloc ce);have Z:=ai (aB.new' ((w.alloc (aN Q mn mc)).alloc cM) #[.int .i64 0,.string ⟨#[]⟩,.nilIface] 159 (w.heap.size+2) an);have C:=ai (o4 b _ ts tl s1 _ Y.u U);clear O W0 U;go_enter func94,ntmps94;go_wp2_with fail;refine C.u.mono ?_;rintro e w1 ⟨rfl,J⟩;have V:=ai (R.u.trans (J.mono R.u.size));have I:=ai (TB.u.below J);have D:=ai (Z.u.below J);obtain ⟨t0,t1,t2⟩:=I.u.three;obtain ⟨ad,ae,af⟩:=D.u.three;have ah:=I.u.fz;have ag:=D.u.fz;have ac:=I.u.lt;have ab:=D.u.lt;clear J C;unfold bY;go_wp2;refine bc (v:=.tuple #[.agg #[.int .i64 0,.string ⟨#[]⟩,.slice none 0 0],.agg #[.int .i64 0,.string ⟨#[]⟩,.nilIface],bY 5]) (xp results94 _ _ (w.heap.size+1) (w.heap.size+2) _ _ 110 159 _ _ _ rfl rfl rfl ?hB ?hC underlying110 rfl au underlying159 rfl au) rfl ?post
 case hB=>exact ⟨_,(b4 I),aS⟩
 case hC=>exact ⟨_,(b4 D),aS⟩
 case post=>exact ⟨rfl,(bB V)⟩
theorem ot(b sv ts tl s1 s2 w)(Z:MC b w sv ts tl)(t)(am:bL ts s1=some t)(ap:bP t s2=none):
  ∃I O J,Calls prog 94 #[.agg #[sv],.string s1,.string s2] w fun e w'=>e=.returned (.tuple #[.agg #[.int .i64 t.place,.string t.name,.slice I O J],.agg #[.int .i64 0,.string ⟨#[]⟩,.nilIface],bY 5])/\Below w.heap.size w w':=by
 obtain ⟨ab,mn,mc,rfl⟩:=Z.form;have W0:Below w.heap.size w (((w.alloc (aN ab mn mc)).alloc cM).alloc ce):=((ba.alloc az _).alloc an _).alloc aM _;have aw:=ai (Z.below W0);have af:=ai W0;have TB:=ai ((aB.new' (w.alloc (aN ab mn mc)) #[.int .i64 0,.string ⟨#[]⟩,.slice none 0 0] 110 (w.heap.size+1) an).alloc ce);have ag:=ai (aB.new' ((w.alloc (aN ab mn mc)).alloc cM) #[.int .i64 0,.string ⟨#[]⟩,.nilIface] 159 (w.heap.size+2) an);obtain ⟨I,O,J,rl,ar,al⟩:=pW b _ ts tl s1 _ aw.u t am;refine ⟨I,O,J,?_⟩;have C:=ai al;have ay:=ai ar;have ax:=ai ap;clear al ar am ap Z W0;go_enter func94,ntmps94;go_wp2_with fail;refine C.u.mono ?_;rintro e w1 ⟨rfl,V⟩;have b1:=V.alloc V.size (bq t.place t.name I O J);have ac:=ai (af.u.trans (b1.mono af.u.size));have aA:=ai (TB.u.below b1);have ae:=ai (ag.u.below b1);have aE:=ai (ay.u.below b1);have ah:=ai (aB.new w1 #[.int .i64 t.place,.string t.name,.slice I O J] 110);have ak:=V;clear V b1 C;have ad:=ai (jA b t.place t.name _ t rl s2 _ aE.u ax.u);go_wp2_with fail;refine ad.u.mono ?_;rintro e D ⟨rfl,Y⟩;have Q:=Y.alloc Y.size ce;have av:=ai (ac.u.trans (Q.mono ac.u.size));have U:=ai (aA.u.below Q);have R:=ai (ae.u.below Q);have aD:=ai (ah.u.below Q);have aC:=ai (aB.new D #[.int .i64 0,.string ⟨#[]⟩,.nilIface] 159);have l1:=ae.u.lt;have aG:=(ag.u.below ak).lt;have aH:=(ah.u.below Y).lt;clear Y Q ad ak
 try unfold bY
 go_wp2_with fail;generalize D.alloc ce=W at*;obtain ⟨t0,t1,t2⟩:=U.u.three;obtain ⟨aT,aU,aW⟩:=R.u.three;obtain ⟨a5,a6,a7⟩:=aD.u.three;obtain ⟨aX,aY,aZ⟩:=aC.u.three;have a9:=U.u.fz;have a8:=R.u.fz;have aJ:=U.u.lt;have aI:=R.u.lt;have n1:¬(w1.heap.size=w.heap.size+1):=aj;have n2:¬(w1.heap.size=w.heap.size+2):=aj;have aQ:¬(D.heap.size=w.heap.size+1):=aj;have aR:¬(D.heap.size=w.heap.size+2):=aj;have aK:¬(w.heap.size+1=w1.heap.size):=aj;have aL:¬(w.heap.size+1+1=w1.heap.size):=aj;have aO:¬(w.heap.size+1=D.heap.size):=aj;have aP:¬(w.heap.size+1+1=D.heap.size):=aj
 go_region_held3 (fun w'=>w'.cell? ⟨w1.heap.size,0,none⟩=some (.int .i64 t.place)/\w'.cell? ⟨w1.heap.size,1,none⟩=some (.string t.name)/\w'.cell? ⟨w1.heap.size,2,none⟩=some (.slice I O J)/\w'.cell? ⟨D.heap.size,0,none⟩=some (.int .i64 0)/\w'.cell? ⟨D.heap.size,1,none⟩=some (.string ⟨#[]⟩)/\w'.cell? ⟨D.heap.size,2,none⟩=some .nilIface) (go_keep) (fail)
 go_wp2;refine bc (v:=.tuple #[.agg #[.int .i64 t.place,.string t.name,.slice I O J],.agg #[.int .i64 0,.string ⟨#[]⟩,.nilIface],bY 5]) (xp results94 _ _ (w.heap.size+1) (w.heap.size+2) _ _ 110 159 _ _ _ rfl rfl rfl ?hB ?hC underlying110 rfl au underlying159 rfl au) rfl ?post
 case hB=>exact ⟨_,(b4 U),aS⟩
 case hC=>exact ⟨_,(b4 R),aS⟩
 case post=>exact ⟨rfl,(bB av)⟩
theorem qa(b sv ts tl s1 s2 w)(Y:MC b w sv ts tl)(t)(av:bL ts s1=some t)(r)(ax:bP t s2=some r):
  ∃J Q O rl D rv,r∈t.rels/\RC b w (.slice J Q O) t.rels rl/\bg b w r.body (.iface D rv)/\Calls prog 94 #[.agg #[sv],.string s1,.string s2] w fun e w'=>e=.returned (.tuple #[.agg #[.int .i64 t.place,.string t.name,.slice J Q O],.agg #[.int .i64 r.place,.string r.name,.iface D rv],.nilIface])/\Below w.heap.size w w':=by
 obtain ⟨J,Q,O,rl,ac,ap⟩:=zm b _ ts tl s1 _ Y t av;obtain ⟨D,rv,ay,aw,ar⟩:=Jy b t.place t.name _ t rl s2 _ ac r ax;refine ⟨J,Q,O,rl,D,rv,aw,ac,ay,?_⟩;obtain ⟨ae,mn,mc,rfl⟩:=Y.form;have W0:Below w.heap.size w (((w.alloc (aN ae mn mc)).alloc cM).alloc ce):=((ba.alloc az _).alloc an _).alloc aM _;have aI:=ai (Y.below W0);have ah:=ai W0;have TB:=ai ((aB.new' (w.alloc (aN ae mn mc)) #[.int .i64 0,.string ⟨#[]⟩,.slice none 0 0] 110 (w.heap.size+1) an).alloc ce);have ak:=ai (aB.new' ((w.alloc (aN ae mn mc)).alloc cM) #[.int .i64 0,.string ⟨#[]⟩,.nilIface] 159 (w.heap.size+2) an);have C:=ai (ap _ W0);have aD:=ai (ac.below W0);have aC:=ai ar;clear ap ar ay aw ac av ax Y W0;go_enter func94,ntmps94;go_wp2_with fail;refine C.u.mono ?_;rintro e w1 ⟨rfl,Z⟩;have b1:=Z.alloc Z.size (bq t.place t.name J Q O);have ad:=ai (ah.u.trans (b1.mono ah.u.size));have aE:=ai (TB.u.below b1);have ag:=ai (ak.u.below b1);have aJ:=ai (aD.u.below b1);have al:=ai (aB.new w1 #[.int .i64 t.place,.string t.name,.slice J Q O] 110);have am:=Z;clear Z b1 C;have af:=ai (aC.u _ ad.u);go_wp2_with fail;refine af.u.mono ?_;rintro e I ⟨rfl,ab⟩;have R:=ab.alloc ab.size (cp r.place r.name D rv);have aA:=ai (ad.u.trans (R.mono ad.u.size));have V:=ai (aE.u.below R);have U:=ai (ag.u.below R);have aH:=ai (al.u.below R);have aG:=ai (aB.new I #[.int .i64 r.place,.string r.name,.iface D rv] 159);have l1:=ag.u.lt;have aK:=(ak.u.below am).lt;have aL:=(al.u.below ab).lt;clear ab R af am
 try unfold bY
 go_wp2_with fail;generalize I.alloc (cp r.place r.name D rv)=W at*;obtain ⟨t0,t1,t2⟩:=V.u.three;obtain ⟨aY,aZ,a5⟩:=U.u.three;obtain ⟨a9,bb,be⟩:=aH.u.three;obtain ⟨a6,a7,a8⟩:=aG.u.three;have bh:=V.u.fz;have bf:=U.u.fz;have aP:=V.u.lt;have aO:=U.u.lt;have n1:¬(w1.heap.size=w.heap.size+1):=aj;have n2:¬(w1.heap.size=w.heap.size+2):=aj;have aW:¬(I.heap.size=w.heap.size+1):=aj;have aX:¬(I.heap.size=w.heap.size+2):=aj;have aQ:¬(w.heap.size+1=w1.heap.size):=aj;have aR:¬(w.heap.size+1+1=w1.heap.size):=aj;have aT:¬(w.heap.size+1=I.heap.size):=aj;have aU:¬(w.heap.size+1+1=I.heap.size):=aj
 go_region_held3 (fun w'=>w'.cell? ⟨w1.heap.size,0,none⟩=some (.int .i64 t.place)/\w'.cell? ⟨w1.heap.size,1,none⟩=some (.string t.name)/\w'.cell? ⟨w1.heap.size,2,none⟩=some (.slice J Q O)/\w'.cell? ⟨I.heap.size,0,none⟩=some (.int .i64 r.place)/\w'.cell? ⟨I.heap.size,1,none⟩=some (.string r.name)/\w'.cell? ⟨I.heap.size,2,none⟩=some (.iface D rv)) (go_keep) (fail)
 go_wp2;refine bc (v:=.tuple #[.agg #[.int .i64 t.place,.string t.name,.slice J Q O],.agg #[.int .i64 r.place,.string r.name,.iface D rv],.nilIface]) (xp results94 _ _ (w.heap.size+1) (w.heap.size+2) _ _ 110 159 _ _ _ rfl rfl rfl ?hB ?hC underlying110 rfl au underlying159 rfl au) rfl ?post
 case hB=>exact ⟨_,(b4 V),aS⟩
 case hC=>exact ⟨_,(b4 U),aS⟩
 case post=>exact ⟨rfl,(bB aA)⟩
