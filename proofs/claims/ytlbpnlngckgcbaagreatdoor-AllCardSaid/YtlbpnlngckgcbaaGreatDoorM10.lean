import Derived.Test.YtlbpnlngckgcbaaGreatDoorM03
set_option linter.all false
set_option maxHeartbeats 4000000
set_option maxRecDepth 100000
namespace Go.Proofs.YtlbpnlngckgcbaaGreatDoor
open Go.RowKit Go.PlainAid Go.Proofs.Tryz
variable {fn:Func} {ty:TypeId}
def DA{p q u ty2}(h:fn.results=#[.cell p ty,.cell q ty2,.tmp u])(tmps P w):
  (results fn tmps).run P w=
   ((asAddr (tmps.getD p undef)).run P w).andThen fun a D=>((loadVar ty a).run P D).andThen fun v I=>((asAddr (tmps.getD q undef)).run P I).andThen fun A J=>((loadVar ty2 A).run P J).andThen fun C Q=> .ok (.tuple #[v,C,tmps.getD u undef]) Q:=by
 simp only [results,h];simp [Sem.run_bind,Result.andThen]
def Ba{P:Program}{fn:Func}{p R u:Tmp}{ty C:TypeId}(h:fn.results=#[.cell p ty,.cell R C,.tmp u])(A:Array ag)(w:af)(g I:Nat)(cs D:Array ag)(t t2:TypeId)(e:ag)(d d2:TypeDesc)
  (Z:A.getD p undef=bu g) (ab:A.getD R undef=bu I) (ac:A.getD u undef=e) (J:∃x,aL w g x t/\x=cs) (Q:∃x,aL w I x t2/\x=D)
  (ad:P.underlying ty=some d) (U:(match d with| .struct _| .array _ _=>true|_=>false)=true) (hi:(P.info? ty).map (·.size)=some cs.size)
  (ae:P.underlying C=some d2) (V:(match d2 with| .struct _| .array _ _=>true|_=>false)=true) (Y:(P.info? C).map (·.size)=some D.size):
  (results fn A).run P w=.ok (.tuple #[.agg cs,.agg D,e]) w:=by
 obtain ⟨x,J,rfl⟩:=J;obtain ⟨y,Q,rfl⟩:=Q;rw [DA h,Z,ab,ac];simp [asAddr,Result.andThen,run_loadVar_row w g t ty x (0,0) d J ad U hi,run_loadVar_row w I t2 C y (0,0) d2 Q ae V Y]
def DB(b sv ts tl x w)(h:MC b w sv ts tl)(t)(A:bW ts x=some t):
  ∃I Q J rl,RC b w (aA I Q J) t.rels rl/\∀w1,am w w1->Calls prog 57 #[.agg #[sv],an x] w1 fun e w'=>e=bi (.tuple #[.agg #[au t.place,an t.name,aA I Q J],.nilIface])/\am w1 w':=by
 rw [<-h.fst,pN] at A
 cases C:tl.find? (fun p=>eqs p.1.name x) with
 |none=>rw [C] at A;cases A
 |some y=>
  rw [C] at A;simp only [Option.map_some,aR] at A;subst A;obtain ⟨rl,D⟩:=h.rels y (gI C);obtain ⟨a,n,c,e⟩:=D.form;rw [e] at D;refine ⟨a,n,c,rl,D,fun w1 k=> ?_⟩;have:=pJ sv (tl.map t3) x w1 h.llen (h.below k).row (t3 y) (by rw [vs,C];rfl) ⟨a,n,c,e⟩;have R:(t3 y).2.2=aA a n c:=e;rw [R] at this;exact this
def O8(b J:Nat)(nn sv t rl x w)(h:RC b w sv t.rels rl)(r)(A:b8 t x=some r):
  ∃ta C,bA b w r.body (.iface ta C)/\r∈t.rels/\∀w1,am w w1->Calls prog 145 #[.agg #[au J,an nn,sv],an x] w1 fun e w'=>e=bi (.tuple #[.agg #[au r.place,an r.name,.iface ta C],.nilIface])/\am w1 w':=by
 have R:r∈t.rels:=gI A;unfold b8 at A;rw [<-h.fst,List.find?_map,show ((fun r:Rl=>eqs r.name x) ∘ Prod.fst)=(fun p:Rl×ag=>eqs p.1.name x) from rfl] at A
 cases D:rl.find? (fun p=>eqs p.1.name x) with
 |none=>rw [D] at A;cases A
 |some y=>
  rw [D] at A;simp only [Option.map_some,aR] at A;subst A;have I:=h.ex y (gI D);obtain ⟨ta,C,e⟩:=I.isI;rw [e] at I;refine ⟨ta,C,I,R,fun w1 k=> ?_⟩;have:=pK J nn sv (rl.map r3) x w1 h.llen (h.below k).row (r3 y) (by rw [vt,D];rfl) ⟨ta,C,e⟩;have Q:(r3 y).2.2=.iface ta C:=e;rw [Q] at this;exact this
def pS(b sv ts tl s1 s2 w)(h:MC b w sv ts tl)(R:bW ts s1=none):
  Calls prog 94 #[.agg #[sv],an s1,an s2] w fun e w'=>e=bi (.tuple #[.agg #[au 0,an ⟨#[]⟩,aA none 0 0],.agg #[au 0,an ⟨#[]⟩,.nilIface],cm 5])/\am w w':=by
 obtain ⟨I,mn,mc,rfl⟩:=h.form;have W0:am w (((w.alloc (ba I mn mc)).alloc dD).alloc cZ):=((bo.alloc aH _).alloc ar _).alloc aS _;have J:=h.below W0;have TB:=(aL.new' (w.alloc (ba I mn mc)) fG 110 (w.heap.size+1) ar).alloc cZ;have Q:=aL.new' ((w.alloc (ba I mn mc)).alloc dD) fF 159 (w.heap.size+2) ar;go_enter func94,ntmps94;go_wp2_with fail;refine (qG b _ ts tl s1 _ J R).mono ?_;rintro e w1 ⟨rfl,D⟩;have C:=TB.below D;have A:=Q.below D;obtain ⟨t0,t1,t2⟩:=C.three;obtain ⟨Y,Z,ab⟩:=A.three;have ad:=C.fz;have ac:=A.fz;have V:=C.lt;have U:=A.lt;unfold cm;go_wp2;refine bE (v:=.tuple #[.agg #[au 0,an ⟨#[]⟩,aA none 0 0],.agg #[au 0,an ⟨#[]⟩,.nilIface],cm 5]) (Ba results94 _ _ (w.heap.size+1) (w.heap.size+2) _ _ 110 159 _ _ _ rfl rfl rfl ?hB ?hC underlying110 rfl aM underlying159 rfl aM) rfl ?post
 case hB=>exact ⟨_,(cY C),bQ⟩
 case hC=>exact ⟨_,(cY A),bQ⟩
 case post=>exact ⟨rfl,(cq (W0.trans (D.mono W0.size)))⟩
def pT(b sv ts tl s1 s2 w)(h:MC b w sv ts tl)(t)(al:bW ts s1=some t)(ap:b8 t s2=none):
  ∃A D C,Calls prog 94 #[.agg #[sv],an s1,an s2] w fun e w'=>e=bi (.tuple #[.agg #[au t.place,an t.name,aA A D C],.agg #[au 0,an ⟨#[]⟩,.nilIface],cm 5])/\am w w':=by
 obtain ⟨Y,mn,mc,rfl⟩:=h.form;have W0:am w (((w.alloc (ba Y mn mc)).alloc dD).alloc cZ):=((bo.alloc aH _).alloc ar _).alloc aS _;have TB:=(aL.new' (w.alloc (ba Y mn mc)) fG 110 (w.heap.size+1) ar).alloc cZ;have ab:=aL.new' ((w.alloc (ba Y mn mc)).alloc dD) fF 159 (w.heap.size+2) ar;obtain ⟨A,D,C,rl,av,ak⟩:=r8 b _ ts tl s1 _ (h.below W0) t al;refine ⟨A,D,C,?_⟩;go_enter func94,ntmps94;go_wp2_with fail;refine ak.mono ?_;rintro e w1 ⟨rfl,U⟩;have b1:=U.alloc U.size (bG t.place t.name A D C);have Z:=W0.trans (b1.mono W0.size);have af:=TB.below b1;have ae:=ab.below b1;have aj:=av.below b1;have ac:=aL.new w1 (h8 t.place t.name A D C) 110;go_wp2_with fail;refine (kh b t.place t.name _ t rl s2 _ aj ap).mono ?_;rintro e I ⟨rfl,V⟩;have J:=V.alloc V.size cZ;have ad:=Z.trans (J.mono Z.size);have R:=af.below J;have Q:=ae.below J;have ah:=ac.below J;have ag:=aL.new I fF 159;have aw:=(ab.below U).lt;have l2:=(ac.below V).lt
 try unfold cm
 go_wp2_with fail;generalize I.alloc cZ=W at*;obtain ⟨t0,t1,t2⟩:=R.three;obtain ⟨aE,aF,aG⟩:=Q.three;obtain ⟨aN,aO,aQ⟩:=ah.three;obtain ⟨aI,aJ,aK⟩:=ag.three;have aT:=R.fz;have aR:=Q.fz;have ax:¬(w.heap.size+1=w1.heap.size):=ai;have ay:¬(w.heap.size+1+1=w1.heap.size):=ai;have az:¬(w.heap.size+1=I.heap.size):=ai;have aB:¬(w.heap.size+1+1=I.heap.size):=ai
 go_region_held3 (fun w'=>w'.cell? (aP w1.heap.size)=some (au t.place)/\w'.cell? (aC w1.heap.size 1)=some (an t.name)/\w'.cell? (aC w1.heap.size 2)=some (aA A D C)/\w'.cell? (aP I.heap.size)=some (au 0)/\w'.cell? (aC I.heap.size 1)=some (an ⟨#[]⟩)/\w'.cell? (aC I.heap.size 2)=some .nilIface) (go_keep) (fail)
 go_wp2;refine bE (v:=.tuple #[.agg #[au t.place,an t.name,aA A D C],.agg #[au 0,an ⟨#[]⟩,.nilIface],cm 5]) (Ba results94 _ _ (w.heap.size+1) (w.heap.size+2) _ _ 110 159 _ _ _ rfl rfl rfl ?hB ?hC underlying110 rfl aM underlying159 rfl aM) rfl ?post
 case hB=>exact ⟨_,(cY R),bQ⟩
 case hC=>exact ⟨_,(cY Q),bQ⟩
 case post=>exact ⟨rfl,(cq ad)⟩
def si(b sv ts tl s1 s2 w)(h:MC b w sv ts tl)(t)(av:bW ts s1=some t)(r)(ax:b8 t s2=some r):
  ∃C I D rl A rv,r∈t.rels/\RC b w (aA C I D) t.rels rl/\bA b w r.body (.iface A rv)/\Calls prog 94 #[.agg #[sv],an s1,an s2] w fun e w'=>e=bi (.tuple #[.agg #[au t.place,an t.name,aA C I D],.agg #[au r.place,an r.name,.iface A rv],.nilIface])/\am w w':=by
 obtain ⟨C,I,D,rl,ab,al⟩:=DB b _ ts tl s1 _ h t av;obtain ⟨A,rv,ay,aw,ap⟩:=O8 b t.place t.name _ t rl s2 _ ab r ax;refine ⟨C,I,D,rl,A,rv,aw,ab,ay,?_⟩;obtain ⟨ac,mn,mc,rfl⟩:=h.form;have W0:am w (((w.alloc (ba ac mn mc)).alloc dD).alloc cZ):=((bo.alloc aH _).alloc ar _).alloc aS _;have TB:=(aL.new' (w.alloc (ba ac mn mc)) fG 110 (w.heap.size+1) ar).alloc cZ;have ad:=aL.new' ((w.alloc (ba ac mn mc)).alloc dD) fF 159 (w.heap.size+2) ar;have az:=ab.below W0;go_enter func94,ntmps94;go_wp2_with fail;refine (al _ W0).mono ?_;rintro e w1 ⟨rfl,Y⟩;have b1:=Y.alloc Y.size (bG t.place t.name C I D);have R:=W0.trans (b1.mono W0.size);have ah:=TB.below b1;have ag:=ad.below b1;have ae:=aL.new w1 (h8 t.place t.name C I D) 110;go_wp2_with fail;refine (ap _ R).mono ?_;rintro e J ⟨rfl,Z⟩;have Q:=Z.alloc Z.size (cC r.place r.name A rv);have af:=R.trans (Q.mono R.size);have V:=ah.below Q;have U:=ag.below Q;have ak:=ae.below Q;have aj:=aL.new J #[au r.place,an r.name,.iface A rv] 159;have aB:=(ad.below Y).lt;have l2:=(ae.below Z).lt
 try unfold cm
 go_wp2_with fail;generalize J.alloc (cC r.place r.name A rv)=W at*;obtain ⟨t0,t1,t2⟩:=V.three;obtain ⟨aJ,aK,aN⟩:=U.three;obtain ⟨aT,aU,aV⟩:=ak.three;obtain ⟨aO,aQ,aR⟩:=aj.three;have aX:=V.fz;have aW:=U.fz;have aE:¬(w.heap.size+1=w1.heap.size):=ai;have aF:¬(w.heap.size+1+1=w1.heap.size):=ai;have aG:¬(w.heap.size+1=J.heap.size):=ai;have aI:¬(w.heap.size+1+1=J.heap.size):=ai
 go_region_held3 (fun w'=>w'.cell? (aP w1.heap.size)=some (au t.place)/\w'.cell? (aC w1.heap.size 1)=some (an t.name)/\w'.cell? (aC w1.heap.size 2)=some (aA C I D)/\w'.cell? (aP J.heap.size)=some (au r.place)/\w'.cell? (aC J.heap.size 1)=some (an r.name)/\w'.cell? (aC J.heap.size 2)=some (.iface A rv)) (go_keep) (fail)
 go_wp2;refine bE (v:=.tuple #[.agg #[au t.place,an t.name,aA C I D],.agg #[au r.place,an r.name,.iface A rv],.nilIface]) (Ba results94 _ _ (w.heap.size+1) (w.heap.size+2) _ _ 110 159 _ _ _ rfl rfl rfl ?hB ?hC underlying110 rfl aM underlying159 rfl aM) rfl ?post
 case hB=>exact ⟨_,(cY V),bQ⟩
 case hC=>exact ⟨_,(cY U),bQ⟩
 case post=>exact ⟨rfl,(cq af)⟩
