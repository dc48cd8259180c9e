import Derived.Test.YtlbpnlngckgcbaaGreatDoorM11
import Derived.Laws.StructEq
import Derived.Deep.RegionLaw
import Derived.Lib.SliceRun
import Derived.Lib.IndexMore
set_option linter.all false
set_option maxHeartbeats 4000000
set_option maxRecDepth 100000
namespace Go.Proofs.YtlbpnlngckgcbaaGreatDoor
open Go.RowKit Go.PlainAid
theorem wV {fn:Func} {p q u:Tmp} {ty Lm:TypeId} (h:fn.results=#[.cell p ty,.cell q Lm,.tmp u]) (tmps:Array Value) (P:Program) (w:World):
  (results fn tmps).run P w=
   ((asAddr (tmps.getD p undef)).run P w).andThen fun a w₁=>((loadVar ty a).run P w₁).andThen fun v w₂=>((asAddr (tmps.getD q undef)).run P w₂).andThen fun a2 w₃=>((loadVar Lm a2).run P w₃).andThen fun v2 w₄=> .ok (.tuple #[v,v2,tmps.getD u undef]) w₄:=by
 simp only [results,h];simp [Sem.run_bind,Result.andThen]
theorem vk {P:Program} {fn:Func} {p q u:Tmp} {ty Lm:TypeId} (h:fn.results=#[.cell p ty,.cell q Lm,.tmp u]) (tmps:Array Value) (w:World) (g g2:Nat) (cs QK:Array Value) (t t2:TypeId) (e:Value) (d d2:TypeDesc)
  (hp:tmps.getD p undef=.pointer (some ⟨g,0,none⟩)) (hp2:tmps.getD q undef=.pointer (some ⟨g2,0,none⟩)) (hq:tmps.getD u undef=e) (hb:∃x,ag w g x t∧x=cs) (hb2:∃x,ag w g2 x t2∧x=QK)
  (hu:P.underlying ty=some d) (hd:(match d with| .struct _| .array _ _=>true|_=>false)=true) (hi:(P.info? ty).map (·.size)=some cs.size)
  (hu2:P.underlying Lm=some d2) (hd2:(match d2 with| .struct _| .array _ _=>true|_=>false)=true) (hi2:(P.info? Lm).map (·.size)=some QK.size):
  (results fn tmps).run P w=.ok (.tuple #[.agg cs,.agg QK,e]) w:=by
 obtain ⟨x,hb,rfl⟩:=hb;obtain ⟨y,hb2,rfl⟩:=hb2;rw [wV h,hp,hp2,hq];simp [asAddr,Result.andThen,run_loadVar_row w g t ty x (0,0) d hb hu hd hi,run_loadVar_row w g2 t2 Lm y (0,0) d2 hb2 hu2 hd2 hi2]
theorem Fu (b:Nat) (sv:Value) (ts:List Ty) (tl:List (Ty×Value)) (x:RJ) (w:World) (h:MC b w sv ts tl) (t:Ty) (hf:cu ts x=some t):
  ∃va vn vc rl,RC b w (.slice va vn vc) t.rels rl∧∀w1,Below w.heap.size w w1→Calls Tryz.prog 57 #[.agg #[sv],.string x] w1 fun e w'=>e=.returned (.tuple #[.agg #[.int .i64 t.place,.string t.name,.slice va vn vc],.nilIface])∧Below w1.heap.size w1 w':=by
 rw [←h.fst,mq] at hf
 cases hq:tl.find? (fun p=>eqs p.1.name x) with
 |none=>rw [hq] at hf;cases hf
 |some y=>
  rw [hq] at hf;simp only [Option.map_some,Option.some.injEq] at hf;subst hf;obtain ⟨rl,hr⟩:=h.rels y (List.mem_of_find?_eq_some hq);obtain ⟨a,n,c,e⟩:=hr.form;have hr':=hr;rw [e] at hr';refine ⟨a,n,c,rl,hr',fun w1 k=> ?_⟩;have:=l8 sv (tl.map t3) x w1 h.llen (h.below k).row (t3 y) (by rw [qM,hq];rfl) ⟨a,n,c,e⟩;have e2:(t3 y).2.2=.slice a n c:=e;rw [e2] at this;exact this
theorem Fv (b pp:Nat) (nn:RJ) (sv:Value) (t:Ty) (rl:List (Rl×Value)) (x:RJ) (w:World) (h:RC b w sv t.rels rl) (r:Rl) (hf:aW t x=some r):
  ∃ta va,ay b w r.body (.iface ta va)∧r∈t.rels∧∀w1,Below w.heap.size w w1→Calls Tryz.prog 145 #[.agg #[.int .i64 pp,.string nn,sv],.string x] w1 fun e w'=>e=.returned (.tuple #[.agg #[.int .i64 r.place,.string r.name,.iface ta va],.nilIface])∧Below w1.heap.size w1 w':=by
 have hmem:r∈t.rels:=List.mem_of_find?_eq_some hf;unfold aW at hf;rw [←h.fst,List.find?_map,show ((fun r:Rl=>eqs r.name x) ∘ Prod.fst)=(fun p:Rl×Value=>eqs p.1.name x) from rfl] at hf
 cases hq:rl.find? (fun p=>eqs p.1.name x) with
 |none=>rw [hq] at hf;cases hf
 |some y=>
  rw [hq] at hf;simp only [Option.map_some,Option.some.injEq] at hf;subst hf;have hr:=h.ex y (List.mem_of_find?_eq_some hq);obtain ⟨ta,va,e⟩:=hr.isI;have hr':=hr;rw [e] at hr';refine ⟨ta,va,hr',hmem,fun w1 k=> ?_⟩;have:=l9 pp nn sv (rl.map r3) x w1 h.llen (h.below k).row (r3 y) (by rw [qN,hq];rfl) ⟨ta,va,e⟩;have e2:(r3 y).2.2=.iface ta va:=e;rw [e2] at this;exact this
theorem qU (b:Nat) (sv:Value) (ts:List Ty) (tl:List (Ty×Value)) (s1 s2:RJ) (w:World) (h:MC b w sv ts tl) (hf:cu ts s1=none):
  Calls Tryz.prog 94 #[.agg #[sv],.string s1,.string s2] w fun e w'=>e=.returned (.tuple #[.agg #[.int .i64 0,.string ⟨#[]⟩,.slice none 0 0],.agg #[.int .i64 0,.string ⟨#[]⟩,.nilIface],aM 5])∧Below w.heap.size w w':=by
 obtain ⟨ma,mn,mc,rfl⟩:=h.form;have W0:Below w.heap.size w (((w.alloc (.cells #[.slice ma mn mc] 75)).alloc (.cells #[.int .i64 0,.string ⟨#[]⟩,.slice none 0 0] 110)).alloc (.cells #[.int .i64 0,.string ⟨#[]⟩,.nilIface] 159)):=(((Below.refl _ _).alloc RH _).alloc (by simp) _).alloc (by simp;omega) _;have qd:=ae (h.below W0);have fK:=ae W0;have TB:=ae ((ag.new' (w.alloc (.cells #[.slice ma mn mc] 75)) #[.int .i64 0,.string ⟨#[]⟩,.slice none 0 0] 110 (w.heap.size+1) (by simp)).alloc (.cells #[.int .i64 0,.string ⟨#[]⟩,.nilIface] 159));have RB:=ae (ag.new' ((w.alloc (.cells #[.slice ma mn mc] 75)).alloc (.cells #[.int .i64 0,.string ⟨#[]⟩,.slice none 0 0] 110)) #[.int .i64 0,.string ⟨#[]⟩,.nilIface] 159 (w.heap.size+2) (by simp));have C:=ae (qO b _ ts tl s1 _ (aa qd) hf);clear h W0 hf;go_enter Tryz.func94,Tryz.ntmps94;go_wp2_with fail;refine (aa C).mono ?_;rintro e w1 ⟨rfl,hb1⟩;have B1:=ae ((aa fK).trans (hb1.mono (aa fK).size));have HT:=ae ((aa TB).below hb1);have HR:=ae ((aa RB).below hb1);obtain ⟨t0,t1,t2⟩:=(aa HT).three;obtain ⟨r0,r1,r2⟩:=(aa HR).three;have zt:=(aa HT).fz;have zr:=(aa HR).fz;have ltt:=(aa HT).lt;have ltr:=(aa HR).lt;clear hb1 C;unfold aM;go_wp2;refine bodyPost_ret (v:=.tuple #[.agg #[.int .i64 0,.string ⟨#[]⟩,.slice none 0 0],.agg #[.int .i64 0,.string ⟨#[]⟩,.nilIface],aM 5]) (vk Tryz.results94 _ _ (w.heap.size+1) (w.heap.size+2) _ _ 110 159 _ _ _ rfl rfl rfl ?hB ?hC Tryz.underlying110 rfl (by kernel_rfl) Tryz.underlying159 rfl (by kernel_rfl)) rfl ?post
 case hB=>exact ⟨_,(by with_reducible repeat (first|exact aa HT|apply ag.alloc|apply ag.drew|apply ag.set|(apply ag.other;case ha=>exact (by first|omega|(simp;omega)|simp)))),by rfl⟩
 case hC=>exact ⟨_,(by with_reducible repeat (first|exact aa HR|apply ag.alloc|apply ag.drew|apply ag.set|(apply ag.other;case ha=>exact (by first|omega|(simp;omega)|simp)))),by rfl⟩
 case post=>exact ⟨rfl,(by with_reducible repeat (first|exact aa B1|refine Below.drew ?_|(refine Below.setCell ?_ ?_ _;rotate_left;exact (by first|omega|(simp;omega)|simp))|(refine Below.alloc ?_ ?_ _;rotate_left;exact (by first|omega|(simp;omega)|simp))))⟩
theorem qV (b:Nat) (sv:Value) (ts:List Ty) (tl:List (Ty×Value)) (s1 s2:RJ) (w:World) (h:MC b w sv ts tl) (t:Ty) (hf:cu ts s1=some t) (hq:aW t s2=none):
  ∃va vn vc,Calls Tryz.prog 94 #[.agg #[sv],.string s1,.string s2] w fun e w'=>e=.returned (.tuple #[.agg #[.int .i64 t.place,.string t.name,.slice va vn vc],.agg #[.int .i64 0,.string ⟨#[]⟩,.nilIface],aM 5])∧Below w.heap.size w w':=by
 obtain ⟨ma,mn,mc,rfl⟩:=h.form;have W0:Below w.heap.size w (((w.alloc (.cells #[.slice ma mn mc] 75)).alloc (.cells #[.int .i64 0,.string ⟨#[]⟩,.slice none 0 0] 110)).alloc (.cells #[.int .i64 0,.string ⟨#[]⟩,.nilIface] 159)):=(((Below.refl _ _).alloc RH _).alloc (by simp) _).alloc (by simp;omega) _;have qd:=ae (h.below W0);have fK:=ae W0;have TB:=ae ((ag.new' (w.alloc (.cells #[.slice ma mn mc] 75)) #[.int .i64 0,.string ⟨#[]⟩,.slice none 0 0] 110 (w.heap.size+1) (by simp)).alloc (.cells #[.int .i64 0,.string ⟨#[]⟩,.nilIface] 159));have RB:=ae (ag.new' ((w.alloc (.cells #[.slice ma mn mc] 75)).alloc (.cells #[.int .i64 0,.string ⟨#[]⟩,.slice none 0 0] 110)) #[.int .i64 0,.string ⟨#[]⟩,.nilIface] 159 (w.heap.size+2) (by simp));obtain ⟨va,vn,vc,rl,hrc,hcall⟩:=oh b _ ts tl s1 _ (aa qd) t hf;refine ⟨va,vn,vc,?_⟩;have C:=ae hcall;have Kw:=ae hrc;have HQ:=ae hq;clear hcall hrc hf hq h W0;go_enter Tryz.func94,Tryz.ntmps94;go_wp2_with fail;refine (aa C).mono ?_;rintro e w1 ⟨rfl,hb1⟩;have b1:=hb1.alloc hb1.size (.cells #[.int .i64 t.place,.string t.name,.slice va vn vc] 110);have B1:=ae ((aa fK).trans (b1.mono (aa fK).size));have Nt:=ae ((aa TB).below b1);have Ou:=ae ((aa RB).below b1);have RC1:=ae ((aa Kw).below b1);have Ov:=ae (ag.new w1 #[.int .i64 t.place,.string t.name,.slice va vn vc] 110);have h1b:=hb1;clear hb1 b1 C;have C2:=ae (iC b t.place t.name _ t rl s2 _ (aa RC1) (aa HQ));go_wp2_with fail;refine (aa C2).mono ?_;rintro e w2 ⟨rfl,hb2⟩;have b2:=hb2.alloc hb2.size (.cells #[.int .i64 0,.string ⟨#[]⟩,.nilIface] 159);have B2:=ae ((aa B1).trans (b2.mono (aa B1).size));have HT:=ae ((aa Nt).below b2);have HR:=ae ((aa Ou).below b2);have HY:=ae ((aa Ov).below b2);have HX:=ae (ag.new w2 #[.int .i64 0,.string ⟨#[]⟩,.nilIface] 159);have l1:=(aa Ou).lt;have l0:=((aa RB).below h1b).lt;have l2:=((aa Ov).below hb2).lt;clear hb2 b2 C2 h1b
 try unfold aM
 go_wp2_with fail;generalize w2.alloc (.cells #[.int .i64 0,.string ⟨#[]⟩,.nilIface] 159)=W at*;obtain ⟨t0,t1,t2⟩:=(aa HT).three;obtain ⟨r0,r1,r2⟩:=(aa HR).three;obtain ⟨y0,y1,y2⟩:=(aa HY).three;obtain ⟨x0,x1,x2⟩:=(aa HX).three;have zt:=(aa HT).fz;have zr:=(aa HR).fz;have ltt:=(aa HT).lt;have ltr:=(aa HR).lt;have n1:¬(w1.heap.size=w.heap.size+1):=by omega
 have n2:¬(w1.heap.size=w.heap.size+2):=by omega
 have n3:¬(w2.heap.size=w.heap.size+1):=by omega
 have n4:¬(w2.heap.size=w.heap.size+2):=by omega
 have m1:¬(w.heap.size+1=w1.heap.size):=by omega
 have m2:¬(w.heap.size+1+1=w1.heap.size):=by omega
 have m3:¬(w.heap.size+1=w2.heap.size):=by omega
 have m4:¬(w.heap.size+1+1=w2.heap.size):=by omega
 go_region_held3 (fun w'=>w'.cell? ⟨w1.heap.size,0,none⟩=some (.int .i64 t.place)∧w'.cell? ⟨w1.heap.size,1,none⟩=some (.string t.name)∧w'.cell? ⟨w1.heap.size,2,none⟩=some (.slice va vn vc)∧w'.cell? ⟨w2.heap.size,0,none⟩=some (.int .i64 0)∧w'.cell? ⟨w2.heap.size,1,none⟩=some (.string ⟨#[]⟩)∧w'.cell? ⟨w2.heap.size,2,none⟩=some .nilIface) (go_keep) (fail)
 go_wp2;refine bodyPost_ret (v:=.tuple #[.agg #[.int .i64 t.place,.string t.name,.slice va vn vc],.agg #[.int .i64 0,.string ⟨#[]⟩,.nilIface],aM 5]) (vk Tryz.results94 _ _ (w.heap.size+1) (w.heap.size+2) _ _ 110 159 _ _ _ rfl rfl rfl ?hB ?hC Tryz.underlying110 rfl (by kernel_rfl) Tryz.underlying159 rfl (by kernel_rfl)) rfl ?post
 case hB=>exact ⟨_,(by with_reducible repeat (first|exact aa HT|apply ag.alloc|apply ag.drew|apply ag.set|(apply ag.other;case ha=>exact (by first|omega|(simp;omega)|simp)))),by rfl⟩
 case hC=>exact ⟨_,(by with_reducible repeat (first|exact aa HR|apply ag.alloc|apply ag.drew|apply ag.set|(apply ag.other;case ha=>exact (by first|omega|(simp;omega)|simp)))),by rfl⟩
 case post=>exact ⟨rfl,(by with_reducible repeat (first|exact aa B2|refine Below.drew ?_|(refine Below.setCell ?_ ?_ _;rotate_left;exact (by first|omega|(simp;omega)|simp))|(refine Below.alloc ?_ ?_ _;rotate_left;exact (by first|omega|(simp;omega)|simp))))⟩
theorem oq (b:Nat) (sv:Value) (ts:List Ty) (tl:List (Ty×Value)) (s1 s2:RJ) (w:World) (h:MC b w sv ts tl) (t:Ty) (hf:cu ts s1=some t) (r:Rl) (hq:aW t s2=some r):
  ∃va vn vc rl ra rv,r∈t.rels∧RC b w (.slice va vn vc) t.rels rl∧ay b w r.body (.iface ra rv)∧Calls Tryz.prog 94 #[.agg #[sv],.string s1,.string s2] w fun e w'=>e=.returned (.tuple #[.agg #[.int .i64 t.place,.string t.name,.slice va vn vc],.agg #[.int .i64 r.place,.string r.name,.iface ra rv],.nilIface])∧Below w.heap.size w w':=by
 obtain ⟨va,vn,vc,rl,hrc,hc1⟩:=Fu b _ ts tl s1 _ h t hf;obtain ⟨ra,rv,bi,hmem,hc2⟩:=Fv b t.place t.name _ t rl s2 _ hrc r hq;refine ⟨va,vn,vc,rl,ra,rv,hmem,hrc,bi,?_⟩;obtain ⟨ma,mn,mc,rfl⟩:=h.form;have W0:Below w.heap.size w (((w.alloc (.cells #[.slice ma mn mc] 75)).alloc (.cells #[.int .i64 0,.string ⟨#[]⟩,.slice none 0 0] 110)).alloc (.cells #[.int .i64 0,.string ⟨#[]⟩,.nilIface] 159)):=(((Below.refl _ _).alloc RH _).alloc (by simp) _).alloc (by simp;omega) _;have qd:=ae (h.below W0);have fK:=ae W0;have TB:=ae ((ag.new' (w.alloc (.cells #[.slice ma mn mc] 75)) #[.int .i64 0,.string ⟨#[]⟩,.slice none 0 0] 110 (w.heap.size+1) (by simp)).alloc (.cells #[.int .i64 0,.string ⟨#[]⟩,.nilIface] 159));have RB:=ae (ag.new' ((w.alloc (.cells #[.slice ma mn mc] 75)).alloc (.cells #[.int .i64 0,.string ⟨#[]⟩,.slice none 0 0] 110)) #[.int .i64 0,.string ⟨#[]⟩,.nilIface] 159 (w.heap.size+2) (by simp));have C:=ae (hc1 _ W0);have Kw:=ae (hrc.below W0);have D2:=ae hc2;clear hc1 hc2 bi hmem hrc hf hq h W0;go_enter Tryz.func94,Tryz.ntmps94;go_wp2_with fail;refine (aa C).mono ?_;rintro e w1 ⟨rfl,hb1⟩;have b1:=hb1.alloc hb1.size (.cells #[.int .i64 t.place,.string t.name,.slice va vn vc] 110);have B1:=ae ((aa fK).trans (b1.mono (aa fK).size));have Nt:=ae ((aa TB).below b1);have Ou:=ae ((aa RB).below b1);have RC1:=ae ((aa Kw).below b1);have Ov:=ae (ag.new w1 #[.int .i64 t.place,.string t.name,.slice va vn vc] 110);have h1b:=hb1;clear hb1 b1 C;have C2:=ae (aa D2 _ (aa B1));go_wp2_with fail;refine (aa C2).mono ?_;rintro e w2 ⟨rfl,hb2⟩;have b2:=hb2.alloc hb2.size (.cells #[.int .i64 r.place,.string r.name,.iface ra rv] 159);have B2:=ae ((aa B1).trans (b2.mono (aa B1).size));have HT:=ae ((aa Nt).below b2);have HR:=ae ((aa Ou).below b2);have HY:=ae ((aa Ov).below b2);have HX:=ae (ag.new w2 #[.int .i64 r.place,.string r.name,.iface ra rv] 159);have l1:=(aa Ou).lt;have l0:=((aa RB).below h1b).lt;have l2:=((aa Ov).below hb2).lt;clear hb2 b2 C2 h1b
 try unfold aM
 go_wp2_with fail;generalize w2.alloc (.cells #[.int .i64 r.place,.string r.name,.iface ra rv] 159)=W at*;obtain ⟨t0,t1,t2⟩:=(aa HT).three;obtain ⟨r0,r1,r2⟩:=(aa HR).three;obtain ⟨y0,y1,y2⟩:=(aa HY).three;obtain ⟨x0,x1,x2⟩:=(aa HX).three;have zt:=(aa HT).fz;have zr:=(aa HR).fz;have ltt:=(aa HT).lt;have ltr:=(aa HR).lt;have n1:¬(w1.heap.size=w.heap.size+1):=by omega
 have n2:¬(w1.heap.size=w.heap.size+2):=by omega
 have n3:¬(w2.heap.size=w.heap.size+1):=by omega
 have n4:¬(w2.heap.size=w.heap.size+2):=by omega
 have m1:¬(w.heap.size+1=w1.heap.size):=by omega
 have m2:¬(w.heap.size+1+1=w1.heap.size):=by omega
 have m3:¬(w.heap.size+1=w2.heap.size):=by omega
 have m4:¬(w.heap.size+1+1=w2.heap.size):=by omega
 go_region_held3 (fun w'=>w'.cell? ⟨w1.heap.size,0,none⟩=some (.int .i64 t.place)∧w'.cell? ⟨w1.heap.size,1,none⟩=some (.string t.name)∧w'.cell? ⟨w1.heap.size,2,none⟩=some (.slice va vn vc)∧w'.cell? ⟨w2.heap.size,0,none⟩=some (.int .i64 r.place)∧w'.cell? ⟨w2.heap.size,1,none⟩=some (.string r.name)∧w'.cell? ⟨w2.heap.size,2,none⟩=some (.iface ra rv)) (go_keep) (fail)
 go_wp2;refine bodyPost_ret (v:=.tuple #[.agg #[.int .i64 t.place,.string t.name,.slice va vn vc],.agg #[.int .i64 r.place,.string r.name,.iface ra rv],.nilIface]) (vk Tryz.results94 _ _ (w.heap.size+1) (w.heap.size+2) _ _ 110 159 _ _ _ rfl rfl rfl ?hB ?hC Tryz.underlying110 rfl (by kernel_rfl) Tryz.underlying159 rfl (by kernel_rfl)) rfl ?post
 case hB=>exact ⟨_,(by with_reducible repeat (first|exact aa HT|apply ag.alloc|apply ag.drew|apply ag.set|(apply ag.other;case ha=>exact (by first|omega|(simp;omega)|simp)))),by rfl⟩
 case hC=>exact ⟨_,(by with_reducible repeat (first|exact aa HR|apply ag.alloc|apply ag.drew|apply ag.set|(apply ag.other;case ha=>exact (by first|omega|(simp;omega)|simp)))),by rfl⟩
 case post=>exact ⟨rfl,(by with_reducible repeat (first|exact aa B2|refine Below.drew ?_|(refine Below.setCell ?_ ?_ _;rotate_left;exact (by first|omega|(simp;omega)|simp))|(refine Below.alloc ?_ ?_ _;rotate_left;exact (by first|omega|(simp;omega)|simp))))⟩
def aG (ts:List Ty) (s:Sp):List Sp:=match cu ts s.1 with
 |none=>[]
 |some t=>match aW t s.2 with
  |none=>[]
  |some r=>eX ts t r r.body
theorem pg (b:Nat) (sv:Value) (ts:List Ty) (tl:List (Ty×Value)) (s1 s2:RJ) (w:World) (h:MC b w sv ts tl):
  Calls Tryz.prog 209 #[.agg #[sv],.agg #[.string s1,.string s2]] w fun e' w'=>∃sv,e'=.returned sv∧Below w.heap.size w w'∧eZ w.heap.size w' sv (aG ts (s1,s2)):=by
 obtain ⟨ma,mn,mc,rfl⟩:=h.form;have W0:Below w.heap.size w ((w.alloc (.cells #[.slice ma mn mc] 75)).alloc (.cells #[.string s1,.string s2] 291)):=((Below.refl _ _).alloc RH _).alloc (by simp) _;have qd:=ae (h.below W0);have MB:=ae ((ag.new w #[.slice ma mn mc] 75).alloc (.cells #[.string s1,.string s2] 291));have SB:=ae (ag.new' (w.alloc (.cells #[.slice ma mn mc] 75)) #[.string s1,.string s2] 291 (w.heap.size+1) (by simp));have fK:=ae W0;clear W0 h;unfold aG
 cases hf:cu ts s1 with
 |none=>
  have C:=ae (qU b _ ts tl s1 s2 _ (aa qd) hf);clear hf;simp only;go_enter Tryz.func209,Tryz.ntmps209;go_wp2_with fail;refine (aa C).mono ?_;rintro e w1 ⟨rfl,hb1⟩;have B1:=ae ((aa fK).trans (hb1.mono (aa fK).size));have sz:=(aa B1).size;clear hb1;unfold aM;go_wp2;go_ret;exact ⟨_,rfl,(by with_reducible repeat (first|exact aa B1|refine Below.drew ?_|(refine Below.setCell ?_ ?_ _;rotate_left;exact (by first|omega|(simp;omega)|simp))|(refine Below.alloc ?_ ?_ _;rotate_left;exact (by first|omega|(simp;omega)|simp)))),eZ.nil _ _⟩
 |some t=>
  simp only
  cases hq:aW t s2 with
  |none=>
   obtain ⟨va,vn,vc,hcall⟩:=qV b _ ts tl s1 s2 _ (aa qd) t hf hq;have C:=ae hcall;clear hf hq hcall;simp only;go_enter Tryz.func209,Tryz.ntmps209;go_wp2_with fail;refine (aa C).mono ?_;rintro e w1 ⟨rfl,hb1⟩;have B1:=ae ((aa fK).trans (hb1.mono (aa fK).size));have sz:=(aa B1).size;clear hb1;unfold aM;go_wp2;go_ret;exact ⟨_,rfl,(by with_reducible repeat (first|exact aa B1|refine Below.drew ?_|(refine Below.setCell ?_ ?_ _;rotate_left;exact (by first|omega|(simp;omega)|simp))|(refine Below.alloc ?_ ?_ _;rotate_left;exact (by first|omega|(simp;omega)|simp)))),eZ.nil _ _⟩
  |some r=>
   obtain ⟨va,vn,vc,rl,ra,rv,hmem,hrc,bi,hcall⟩:=oq b _ ts tl s1 s2 _ (aa qd) t hf r hq;have C:=ae hcall;have okp:=hrc.okp r hmem;have Kw:=ae hrc;have Le:=ae bi;have I5:=ae hmem;clear hf hq hcall hrc bi hmem;simp only;go_enter Tryz.func209,Tryz.ntmps209;go_wp2_with fail;refine (aa C).mono ?_;rintro e w1 ⟨rfl,hb1⟩;have b1:=hb1.alloc hb1.size (.cells #[.int .i64 t.place,.string t.name,.slice va vn vc] 110);have b2:=b1.alloc b1.size (.cells #[.int .i64 r.place,.string r.name,.iface ra rv] 159);have B2:=ae ((aa fK).trans (b2.mono (aa fK).size));have PX:=ae ((aa Kw).below b2);have QL:=ae ((aa qd).below b2);have X2:=ae ((aa Le).but (But.of_below b2));have m0:w1.cell? ⟨w.heap.size,0,none⟩=some (.slice ma mn mc):=((aa MB).below hb1).cell rfl;have ml:=((aa MB).below hb1).lt;have nH:=(aa B2).size;clear hb1 b1 b2 C;go_wp2_with fail;refine (oo b _ ts tl t _ rl r _ r.body _ _ (aa QL) (aa PX) (aa X2) (aa I5) (aa X2) okp).mono ?_;rintro e w3 ⟨Ns,rfl,hb3,hrs⟩;have B3:=ae ((aa B2).trans (hb3.mono (aa B2).size));have S3:=ae (hrs.base nH);clear hb3 hrs;go_wp2;go_ret;exact ⟨_,rfl,aa B3,aa S3⟩
def fT (a c:Sp):Bool:=eqs a.1 c.1&&eqs a.2 c.2
theorem Lp (a c x y:RJ) (w:World):(Op.equalIn 10000 291 (.agg #[.string a,.string c]) (.agg #[.string x,.string y])).run Tryz.prog w=.ok (fT (a,c) (x,y)) w:=by
 have u9:=Tryz.underlying9;rw [show (10000:Nat)=9999+1 from rfl,run_equalIn_agg w 9999 291 _ _ (by kernel_rfl) (by kernel_rfl)];simp only [Program.fieldsOf,Tryz.underlying291]
 go_simp
 rw [show fT (a,c) (x,y)=(decide (a.toList=x.toList)&&decide (c.toList=y.toList)) from by
  unfold fT eqs;rw [aC,aC,aC,aC];simp [Bool.beq_eq_decide_eq]]
 by_cases h1:a.toList=x.toList<;>by_cases h2:c.toList=y.toList<;>simp [h1,h2]
theorem zN (w:World):∀n,(w.drewN n).heap=w.heap
 |0=>rfl
 |n+1=>rfl
theorem ag.drewN {w:World} {g:Nat} {cs:Array Value} {T:TypeId} (h:ag w g cs T) (n:Nat):ag (w.drewN n) g cs T:=by unfold ag;rw [zN];exact h
theorem CV (x y:Operand) (xs ys:Array Value) (w:World):(eqGuard .eql 291 x y (.agg xs) (.agg ys)).run Tryz.prog w=.ok () w:=run_eqGuard_agg w .eql 291 x y xs ys (by kernel_rfl)
theorem I6 (base:Nat) (v:Value) (l:List Sp) (x:Sp) (w:World) (hl:l.length≤10000000000000) (h:w.ownsRow base 291 2 v l.length (aD l)):
  Calls Tryz.prog 224 #[v,.agg #[.string x.1,.string x.2]] w fun e w'=>∃n:Int,e=.returned (.int .i64 n)∧decide (0≤n)=l.any (fun y=>fT x y)∧Below w.heap.size w w':=by
 obtain ⟨sa,sc,rfl⟩:=ak h;have H:=ae h;have Fw:=Lp;have Lr:=CV;clear h;go_enter Tryz.func224,Tryz.ntmps224;go_wp2
 go_loopw [5,8] (fun u i wr=>∃k:Nat,k≤l.length∧i=.int .i64 k∧Below w.heap.size w wr∧ag wr w.heap.size #[.string x.1,.string x.2] 291∧Hid (∀j,(h:j<l.length)→j<k→fT x l[j]=false)) (fun _ i _=>l.length-(intOf i).toNat)
 case atStart=>exact ⟨0,by omega,rfl,(Below.refl _ _).alloc RH _,ag.new _ _ _,ae (fun j e h=>by omega)⟩
 case round=>
  obtain ⟨k,hk,rfl,hb,yY,eH⟩:=hrel;have HB:=ae hb;have iL:=ae yY
  by_cases hlt:k<l.length
  ·obtain ⟨g,c,e1,k0,k1⟩:=Row2.cell (ai (w':=wr) (aa H) (fun g cs f _ hh=>hb.block g (lt_of_some hh))) k l[k] (RI hlt);simp only [Value.slice.injEq] at e1;obtain ⟨rfl,_,rfl⟩:=e1;obtain ⟨b0,b1⟩:=yY.two;have hkn:(k:Int)<(l.length:Int):=by omega
   have QM:(0:Int)≤(k:Int):=by omega
   clear hb yY
   cases he:fT x l[k]
   ·have he':fT (x.1,x.2) (l[k].1,l[k].2)=false:=he;have Hn:=ae (show ∀j,(h:j<l.length)→j<k+1→fT x l[j]=false from fun j h h'=>by
     by_cases e:j=k
     ·subst e;exact he
     ·exact aa eH j h (by omega))
    clear he;go_wp2
    go_quiet (fail)
    go_wp2;go_roundw
    case rel=>exact ⟨k+1,by omega,by go_num,below_drewN (aa HB) _,(aa iL).drewN _,Hn⟩
    case measure=>simp [intOf];omega
   ·have he':fT (x.1,x.2) (l[k].1,l[k].2)=true:=he;have dN:=ae (show l.any (fun y=>fT x y)=true from List.any_eq_true.2 ⟨l[k],List.getElem_mem hlt,he⟩);clear he;go_wp2
    go_quiet (fail)
    go_wp2;go_ret;exact ⟨k,rfl,by rw [aa dN];simp,below_drewN (aa HB) _⟩
  ·have dN:=ae (show l.any (fun y=>fT x y)=false from by
    rw [List.any_eq_false];intro y hy;obtain ⟨j,hj,rfl⟩:=List.getElem_of_mem hy;rw [aa eH j hj (by omega)];simp)
   have hkn:¬((k:Int)<(l.length:Int)):=by omega
   clear hb yY;go_wp2;go_ret;exact ⟨-1,rfl,by rw [aa dN];decide,aa HB⟩
theorem jP (base:Nat) (v:Value) (l:List Sp) (x:Sp) (w:World) (hl:l.length≤10000000000000) (h:w.ownsRow base 291 2 v l.length (aD l)):
  Calls Tryz.prog 176 #[v,.agg #[.string x.1,.string x.2]] w fun e w'=>e=.returned (.bool (l.any (fun y=>fT x y)))∧Below w.heap.size w w':=by
 have C:=ae (fun w' (hb:Below w.heap.size w w')=>I6 base v l x w' hl (ai h (fun g cs f _ hh=>hb.block g (lt_of_some hh))));obtain ⟨sa,sc,rfl⟩:=ak h;clear h;go_enter Tryz.func176,Tryz.ntmps176;go_wp2_with fail;refine (aa C _ ((Below.refl _ _).alloc RH _)).mono ?_;rintro e w1 ⟨n,rfl,hn,hb1⟩;have B1:=ae (((Below.refl _ w).alloc RH (.cells #[.string x.1,.string x.2] 291)).trans (hb1.mono (by simp)));have HN:=ae hn;clear hn hb1;go_wp2;go_ret;exact ⟨by rw [←aa HN];rfl,aa B1⟩
theorem eT (a c:RJ):eqs a c=true↔a=c:=by
 unfold eqs;rw [beq_iff_eq]
 constructor
 ·intro h;rw [←lQ a,←lQ c,h]
 ·rintro rfl;rfl
theorem wW (a c:Sp):fT a c=true↔a=c:=by
 unfold fT;rw [Bool.and_eq_true,eT,eT];obtain ⟨a1,a2⟩:=a;obtain ⟨c1,c2⟩:=c;simp
theorem fG {w:World} {base:Nat} {e:TypeId} {size:Nat} {v:Value} {n:Nat} {xs:List Value} (h:w.ownsRow base e size v n xs):w.drew.ownsRow base e size v n xs:=h
section
variable {base b:Nat} {w w':World} {s:RJ} {tv:Value} {i d e a:Nat} {kv rv pv:Value} {kl:List (RJ×Nat)}
end
theorem aF {w w':World} {base:Nat} {e:TypeId} {size:Nat} {v:Value} {n:Nat} {xs:List Value} (h:w.ownsRow base e size v n xs) (k:Below w.heap.size w w'):w'.ownsRow base e size v n xs:=ai h (fun g cs f _ hh=>k.block g (lt_of_some hh))
theorem af {w w':World} {a:Addr} {v:Value} (h:w.cell? a=some v) (k:Below w.heap.size w w'):w'.cell? a=some v:=(World.cell?_of_block (k.block a.block (World.block_lt_of_cell? w a h))).trans h
section
variable {w w':World} {b:Nat} {kv rv pv:Value} {kl:List (RJ×Nat)}
theorem wX {α:Type} (f:α→List Value) (k:Nat) (hf:∀a,(f a).length=k) (a:α) (j:Nat) (hj:j<k):∀(l:List α) (i:Nat),l[i]? =some a→(l.flatMap f)[i*k+j]? =(f a)[j]?
 | [],i,h=>by simp at h
 |x::l,0,h=>by
  simp only [List.getElem?_cons_zero,Option.some.injEq] at h;subst h;rw [List.flatMap_cons,Nat.zero_mul,Nat.zero_add,List.getElem?_append_left (by rw [hf];exact hj)]
 |x::l,i+1,h=>by
  rw [List.getElem?_cons_succ] at h;rw [List.flatMap_cons,List.getElem?_append_right (by rw [hf,Nat.add_mul];omega),hf,show (i+1)*k+j-k=i*k+j by rw [Nat.add_mul];omega];exact wX f k hf a j hj l i h
theorem aU {T:TypeId} {α:Type} (f:α→List Value) (k:Nat) (hf:∀a,(f a).length=k) {v:Value} {l:List α} {base:Nat} (h:w.ownsRow base T k v l.length (l.flatMap f)) (i:Nat) (a:α) (hi:l[i]? =some a):
  ∃g c,v=.slice (some ⟨g,0,none⟩) l.length c∧∀j u,j<k→(f a)[j]? =some u→w.cell? ⟨g,i*k+j,none⟩=some u:=by
 obtain ⟨g,c,e,_⟩:=h.form (n:=l.length) (by have:=(List.getElem?_eq_some_iff.1 hi).1;omega);refine ⟨g,c,e,fun j u hj hu=> ?_⟩;obtain ⟨g',c',e',hc⟩:=aQ h (i*k+j) u (by rw [wX f k hf a j hj l i hi];exact hu);rw [e] at e';simp only [Value.slice.injEq,Option.some.injEq,Addr.mk.injEq] at e';rw [e'.1.1];exact hc
end
theorem mG (a c:RJ):eqs a c=(a.toList==c.toList):=by unfold eqs;rw [aC,aC]
def mH (t:Tu):List Value:=[.string t.kind,.string t.id,.string t.rel,.string t.sub,.string t.who,.string t.of]
def qW (a c:Tu):Bool:=eqs a.kind c.kind&&(eqs a.id c.id&&(eqs a.rel c.rel&&(eqs a.sub c.sub&&(eqs a.who c.who&&eqs a.of c.of))))
theorem I7 (a c:Tu) (w:World):(Op.equalIn 10000 123 (.agg #[.string a.kind,.string a.id,.string a.rel,.string a.sub,.string a.who,.string a.of]) (.agg #[.string c.kind,.string c.id,.string c.rel,.string c.sub,.string c.who,.string c.of])).run Tryz.prog w=.ok (qW a c) w:=by
 have u9:=Tryz.underlying9;have u1:=Tryz.underlying98;have u2:=Tryz.underlying102;rw [show (10000:Nat)=9999+1 from rfl,run_equalIn_agg w 9999 123 _ _ (by kernel_rfl) (by kernel_rfl)];simp only [Program.fieldsOf,Tryz.underlying123]
 go_simp
 have e:∀p q:RJ,eqs p q=decide (p.toList=q.toList):=fun p q=>by
  unfold eqs;rw [aC,aC,Bool.beq_eq_decide_eq]
 simp only [qW,e]
 (repeat' split)<;>simp_all
theorem I8 (x y:Operand) (xs ys:Array Value) (w:World):(eqGuard .eql 123 x y (.agg xs) (.agg ys)).run Tryz.prog w=.ok () w:=run_eqGuard_agg w .eql 123 x y xs ys (by kernel_rfl)
def ou (l:List Tu) (x:Tu):Int:=match l.findIdx? (qW x) with
 |some i=>(i:Int)
 |none=> -1
theorem I9 {l:List Tu} {x:Tu} {k:Nat} (hk:k<l.length) (hn:∀j,(h:j<l.length)→j<k→qW x l[j]=false) (he:qW x l[k]=true):ou l x=k:=by
 unfold ou;have:l.findIdx? (qW x)=some k:=by
  rw [List.findIdx?_eq_some_iff_getElem];exact ⟨hk,he,fun j hj=>by rw [hn j (by omega) hj];simp⟩
 rw [this]
theorem CX {l:List Tu} {x:Tu} (hn:∀j,(h:j<l.length)→qW x l[j]=false):ou l x= -1:=by
 unfold ou;have:l.findIdx? (qW x)=none:=by
  rw [List.findIdx?_eq_none_iff];intro y hy;obtain ⟨j,hj,rfl⟩:=List.getElem_of_mem hy;exact hn j hj
 rw [this]
theorem ag.six {w:World} {g:Nat} {a b c d e f:Value} {T:TypeId} (h:ag w g #[a,b,c,d,e,f] T):w.cell? ⟨g,0,none⟩=some a∧w.cell? ⟨g,1,none⟩=some b∧w.cell? ⟨g,2,none⟩=some c∧w.cell? ⟨g,3,none⟩=some d∧w.cell? ⟨g,4,none⟩=some e∧w.cell? ⟨g,5,none⟩=some f:=
 ⟨h.cell rfl,h.cell rfl,h.cell rfl,h.cell rfl,h.cell rfl,h.cell rfl⟩
theorem Ja (base:Nat) (v:Value) (l:List Tu) (x:Tu) (w:World) (hl:l.length≤10000000000000) (h:w.ownsRow base 123 6 v l.length (l.flatMap mH)):
  Calls Tryz.prog 68 #[v,.agg #[.string x.kind,.string x.id,.string x.rel,.string x.sub,.string x.who,.string x.of]] w fun e w'=>e=.returned (.int .i64 (ou l x))∧Below w.heap.size w w':=by
 obtain ⟨sa,sc,rfl⟩:=ak h;have H:=ae h;have Fw:=I7;have Lr:=I8;obtain ⟨R,hR⟩:∃R,R=ou l x:=⟨_,rfl⟩;rw [←hR];have HR:=ae hR;clear h hR;go_enter Tryz.func68,Tryz.ntmps68;go_wp2
 go_loopw [5,8] (fun u i wr=>∃k:Nat,k≤l.length∧i=.int .i64 k∧Below w.heap.size w wr∧ag wr w.heap.size #[.string x.kind,.string x.id,.string x.rel,.string x.sub,.string x.who,.string x.of] 123∧Hid (∀j,(h:j<l.length)→j<k→qW x l[j]=false)) (fun _ i _=>l.length-(intOf i).toNat)
 case atStart=>exact ⟨0,by omega,rfl,(Below.refl _ _).alloc RH _,ag.new _ _ _,ae (fun j e h=>by omega)⟩
 case round=>
  obtain ⟨k,hk,rfl,hb,yY,eH⟩:=hrel;have HB:=ae hb;have iL:=ae yY
  by_cases hlt:k<l.length
  ·obtain ⟨g,c,e1,hc⟩:=aU mH 6 (fun _=>rfl) (ai (w':=wr) (aa H) (fun g cs f _ hh=>hb.block g (lt_of_some hh))) k l[k] (RI hlt);simp only [Value.slice.injEq] at e1;obtain ⟨rfl,_,rfl⟩:=e1;have k0:wr.cell? ⟨g,k*6,none⟩=some (.string l[k].kind):=hc 0 _ (by omega) rfl;have k1:=hc 1 _ (by omega) rfl;have k2:=hc 2 _ (by omega) rfl;have k3:=hc 3 _ (by omega) rfl;have k4:=hc 4 _ (by omega) rfl;have k5:=hc 5 _ (by omega) rfl;obtain ⟨b0,b1,b2,b3,b4,b5⟩:=yY.six;have hkn:(k:Int)<(l.length:Int):=by omega
   have QM:(0:Int)≤(k:Int):=by omega
   clear hb yY hc
   cases he:qW x l[k]
   ·have Hn:=ae (show ∀j,(h:j<l.length)→j<k+1→qW x l[j]=false from fun j h h'=>by
     by_cases e:j=k
     ·subst e;exact he
     ·exact aa eH j h (by omega))
    go_wp2
    go_quiet (fail)
    go_wp2;go_roundw
    case rel=>exact ⟨k+1,by omega,by go_num,below_drewN (aa HB) _,(aa iL).drewN _,Hn⟩
    case measure=>simp [intOf];omega
   ·have hF:=I9 hlt (aa eH) he;rw [←aa HR] at hF;subst hF;go_wp2
    go_quiet (fail)
    go_wp2;go_ret;exact ⟨rfl,below_drewN (aa HB) _⟩
  ·have hF:=CX (fun j hj=>aa eH j hj (by omega));rw [←aa HR] at hF;subst hF;have hkn:¬((k:Int)<(l.length:Int)):=by omega
   clear hb yY;go_wp2;go_ret;exact ⟨rfl,aa HB⟩
theorem zO (base:Nat) (v:Value) (l:List Tu) (x:Tu) (w:World) (hl:l.length≤10000000000000) (h:w.ownsRow base 123 6 v l.length (l.flatMap mH)):
  Calls Tryz.prog 62 #[v,.agg #[.string x.kind,.string x.id,.string x.rel,.string x.sub,.string x.who,.string x.of]] w fun e w'=>e=.returned (.bool (decide (0≤ou l x)))∧Below w.heap.size w w':=by
 have C:=ae (fun w' (hb:Below w.heap.size w w')=>Ja base v l x w' hl (ai h (fun g cs f _ hh=>hb.block g (lt_of_some hh))));obtain ⟨sa,sc,rfl⟩:=ak h;generalize ou l x=n at*;clear h;go_enter Tryz.func62,Tryz.ntmps62;go_wp2_with fail;refine (aa C _ ((Below.refl _ _).alloc RH _)).mono ?_;rintro e w1 ⟨rfl,hb1⟩;have B1:=ae (((Below.refl _ w).alloc RH (.cells #[.string x.kind,.string x.id,.string x.rel,.string x.sub,.string x.who,.string x.of] 123)).trans (hb1.mono (by simp)));clear hb1;go_wp2;go_ret;exact ⟨rfl,aa B1⟩
theorem nL {g:Nat} {T:TypeId}:∀(vs:List Value) (o:Nat) (w:World) (cur:Array Value),ag w g cur T→o+vs.length≤cur.size→∃cur',ag (w.setCells g o vs) g cur' T∧cur'.size=cur.size∧cur'.toList=cur.toList.take o++vs++cur.toList.drop (o+vs.length)
 | [],o,w,cur,h,_=>⟨cur,h,rfl,by simp⟩
 |v::vs,o,w,cur,h,hz=>by
  rw [List.length_cons] at hz;obtain ⟨cur',h1,h2,h3⟩:=nL vs (o+1) _ _ (h.set o v) (by rw [Array.size_setIfInBounds];omega);refine ⟨cur',h1,by rw [h2,Array.size_setIfInBounds],?_⟩;rw [h3,Array.toList_setIfInBounds];have hl:o<cur.toList.length:=by rw [Array.length_toList];omega
  rw [List.take_succ_eq_append_getElem (by rw [List.length_set];exact hl),List.take_set_of_le (Nat.le_refl o),List.getElem_set_self,List.drop_set_of_lt (by omega),List.length_cons];simp [Nat.add_assoc,Nat.add_comm 1]
theorem But.setCells {b:Nat} {x:World}:∀(vs:List Value) (o:Nat) (y:World),But b x y→But b x (y.setCells b o vs)
 | [],_,_,h=>h
 |v::vs,o,y,h=>But.setCells vs (o+1) _ (h.setCell o v)
theorem index_one (c:UInt8):∀l:List UInt8,Lib.index l [c]=if l.contains c then ((l.takeWhile (· != c)).length:Int) else-1
 | []=>rfl
 |b::l=>by
  have ih:=index_one c l;rw [Lib.index]
  by_cases h:b=c
  ·subst h;simp
  ·have h1:(c==b)=false:=by rw [beq_eq_false_iff_ne];exact fun e=>h e.symm
   have h2:(b != c)=true:=by simpa using h
   have e:((b::l).contains c)=l.contains c:=by rw [List.contains_cons,h1,Bool.false_or]
   rw [e,List.takeWhile_cons,if_pos h2,List.length_cons,ih];have h3:([c].isPrefixOf (b::l))=false:=by rw [List.isPrefixOf,h1,Bool.false_and]
   rw [h3]
   cases l.contains c
   ·simp
   ·simp only [if_true,Bool.false_eq_true,if_false];rw [if_neg (by simp)];omega
theorem iD (c:UInt8):∀l:List UInt8,l.contains c=false→l.takeWhile (· != c)=l∧l.dropWhile (· != c)=[]
 | [],_=>⟨rfl,rfl⟩
 |b::l,h=>by
  rw [List.contains_cons,Bool.or_eq_false_iff] at h;have ih:=iD c l h.2;have h2:(b != c)=true:=by
   have:=h.1;rw [beq_eq_false_iff_ne] at this
   simpa using fun e=>this e.symm
  rw [List.takeWhile_cons,List.dropWhile_cons,if_pos h2,if_pos h2,ih.1];exact ⟨rfl,ih.2⟩
theorem Jb (l:List UInt8) (c:UInt8):Lib.cut l [c]=(l.takeWhile (· != c),(l.dropWhile (· != c)).drop 1,l.contains c):=by
 unfold Lib.cut;rw [index_one]
 cases h:l.contains c
 ·obtain ⟨h1,h2⟩:=iD c l h;simp [h1,h2]
 ·simp only [if_true];rw [if_pos (by omega),Int.toNat_natCast,←kw,dropWhile_drop,List.drop_drop]
  rfl
def ow (w:World):Prop:=∃m,w.cell? ⟨1,0,none⟩=some (.int .i64 m)
theorem ow.below {w w':World} {B:Nat} (h:ow w) (k:Below B w w') (hB:1<B):ow w':=by
 obtain ⟨m,hm⟩:=h;exact ⟨m,(World.cell?_of_block (w:=w) (k.block 1 hB)).trans hm⟩
def CY:Prop:=∀(s:RJ) (c:UInt8) (w:World),s.size≤1000→ow w→Calls Tryz.prog 92 #[.string s,.string (mk [c])] w fun e w'=>e=.returned (.tuple #[.string (ax s c).1,.string (ax s c).2.1,.bool (ax s c).2.2])∧Below w.heap.size w w'
def dR (s:RJ):Bool:=dG (ax s 58).1&&dG (ax s 58).2.1
theorem jm (PC:CY) (s:RJ) (w:World) (hs:s.size≤1000) (hm:ow w) (hw:1<w.heap.size):
  Calls Tryz.prog 55 #[.string s] w fun e w'=>e=.returned (.tuple #[.agg #[.string (ax s 58).1,.string (ax s 58).2.1],.bool (dR s)])∧Below w.heap.size w w':=by
 unfold dR;have z:=jB s 58;have b0:Below w.heap.size w (w.alloc (.cells #[.string ⟨#[]⟩,.string ⟨#[]⟩] 98)):=(Below.refl _ w).alloc RH _;have C1:=ae (PC s 58 _ hs (hm.below b0 hw));have B0:=ae b0;have R0:=ae (ag.new w #[.string ⟨#[]⟩,.string ⟨#[]⟩] 98);generalize ax s 58=X at*;obtain ⟨a,b,ok⟩:=X;simp only at z C1 ⊢;have Cp:=ae (fun w=>jA a w (by unfold maxLen;omega));have Cq:=ae (fun w=>jA b w (by unfold maxLen;omega));generalize dG a=p at*;generalize dG b=q at*;clear z b0 hm hw hs;go_enter Tryz.func55,Tryz.ntmps55;go_wp2_with fail;refine (aa C1).mono ?_;rintro e w1 ⟨rfl,hb1⟩;have B1:=ae ((aa B0).trans (hb1.mono (aa B0).size));have R1:=ae ((aa R0).below hb1);clear hb1 C1 B0 R0;have rz:=(aa R1).fz;have r0:w1.cell? ⟨w.heap.size,0,none⟩=some (.string ⟨#[]⟩):=(aa R1).cell rfl;have r1:w1.cell? ⟨w.heap.size,1,none⟩=some (.string ⟨#[]⟩):=(aa R1).cell rfl;go_wp2_with fail;refine (aa Cp _).mono ?_;rintro e w2 ⟨rfl,rfl⟩
 cases p
 ·skip
  go_wp2;refine bodyPost_ret (v:=.tuple #[.agg #[.string a,.string b],.bool _]) (aK Tryz.results55 _ _ w.heap.size _ 98 _ _ rfl rfl ?jQ Tryz.underlying98 rfl (by kernel_rfl)) rfl ?post1
  case jQ=>exact ⟨_,(by with_reducible repeat (first|exact aa R1|apply ag.alloc|apply ag.drew|apply ag.set|(apply ag.other;case ha=>exact (by first|omega|(simp;omega)|simp)))),by rfl⟩
  case post1=>exact ⟨rfl,(by with_reducible repeat (first|exact aa B1|refine Below.drew ?_|(refine Below.setCell ?_ ?_ _;rotate_left;exact (by first|omega|(simp;omega)|simp))|(refine Below.alloc ?_ ?_ _;rotate_left;exact (by first|omega|(simp;omega)|simp))))⟩
 ·go_wp2_with fail;refine (aa Cq _).mono ?_;rintro e w3 ⟨rfl,rfl⟩;go_wp2;refine bodyPost_ret (v:=.tuple #[.agg #[.string a,.string b],.bool _]) (aK Tryz.results55 _ _ w.heap.size _ 98 _ _ rfl rfl ?hB2 Tryz.underlying98 rfl (by kernel_rfl)) rfl ?post2
  case hB2=>exact ⟨_,(by with_reducible repeat (first|exact aa R1|apply ag.alloc|apply ag.drew|apply ag.set|(apply ag.other;case ha=>exact (by first|omega|(simp;omega)|simp)))),by rfl⟩
  case post2=>exact ⟨rfl,(by with_reducible repeat (first|exact aa B1|refine Below.drew ?_|(refine Below.setCell ?_ ?_ _;rotate_left;exact (by first|omega|(simp;omega)|simp))|(refine Below.alloc ?_ ?_ _;rotate_left;exact (by first|omega|(simp;omega)|simp))))⟩
