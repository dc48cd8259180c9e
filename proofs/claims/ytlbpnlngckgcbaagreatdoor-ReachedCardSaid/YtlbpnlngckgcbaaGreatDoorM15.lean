import Derived.Test.YtlbpnlngckgcbaaGreatDoorM14
set_option linter.all false
set_option maxHeartbeats 4000000
set_option maxRecDepth 100000
namespace Go.Proofs.YtlbpnlngckgcbaaGreatDoor
open Go.RowKit Go.PlainAid
def pu (ts:List Ty) (t:Ty) (r:Rl) (p:Ex):Option Nat:=match p.l,p.r with
 |some _,some y=>if iJ p.nd.kind=246 then (if zP ts (eX ts t r y) (t.name,r.name) then some p.nd.place else none) else none
 |_,_=>none
def qX (ts:List Ty) (t:Ty) (r:Rl):Option Nat:=(aj r.body).findSome? (pu ts t r)
theorem kF (nd:Nd) (x y:Ex):∀(e:Ex),⟨nd,some x,some y⟩∈aj e→(aj y).length≤(aj e).length
 |⟨n,some a,some c⟩,h=>by
  simp only [aj] at h ⊢;rw [List.mem_append,List.mem_append,List.mem_singleton] at h;simp only [List.length_append]
  rcases h with (h|h)|h
  ·have:=kF nd x y a h;omega
  ·simp only [Ex.mk.injEq,Option.some.injEq] at h;rw [h.2.2];omega
  ·have:=kF nd x y c h;omega
 |⟨n,none,c⟩,h=>by
  unfold aj at h;simp at h
 |⟨n,some a,none⟩,h=>by
  unfold aj at h;simp at h
theorem tL {b:Nat} {w:World} {tv:Value} {rl:List (Rl×Value)} (ts:List Ty) (t:Ty) (ht:RC b w tv t.rels rl) (r:Rl) (hr:r∈t.rels) (e:Ex) (hp:(aj e).length≤1000):(eX ts t r e).length≤1000000:=by
 have:=Fs ts t ht r (ht.okg r hr) e (aj e).length;unfold NK at this;rw [List.take_length] at this;unfold eX;omega
theorem fH {α β:Type} (f:α→List β) (n:Nat):∀(l:List α),(∀a∈l,(f a).length≤n)→(l.flatMap f).length≤l.length*n
 | [],_=>by simp
 |a::l,h=>by
  have h1:=h a (by simp);have h2:=fH f n l (fun a ha=>h a (by simp [ha]));simp only [List.flatMap_cons,List.length_append,List.length_cons,Nat.add_mul,Nat.one_mul];omega
theorem zT {b:Nat} {w:World} {sv:Value} {ts:List Ty} {tl:List (Ty×Value)} (h:MC b w sv ts tl) (s:Sp):(aG ts s).length≤1000000:=by
 unfold aG
 split
 ·simp
 ·rename_i t ht
  split
  ·simp
  ·rename_i r hr;have ht:=List.mem_of_find?_eq_some ht;have hr:=List.mem_of_find?_eq_some hr;rw [←h.fst,List.mem_map] at ht;obtain ⟨p,hp,rfl⟩:=ht;obtain ⟨rl,hq⟩:=h.rels p hp;exact tL ts p.1 hq r hr r.body (hq.okp r hr)
theorem Jg {b:Nat} {w:World} {sv:Value} {ts:List Ty} {tl:List (Ty×Value)} (h:MC b w sv ts tl):(fe ts).length≤1000000:=by
 have:=fH (fun t=>t.rels.map fun r=>(t.name,r.name)) 1000 ts (fun t ht=>by
  rw [←h.fst,List.mem_map] at ht;obtain ⟨p,hp,rfl⟩:=ht;obtain ⟨rl,hq⟩:=h.rels p hp;have:=hq.len
  simpa using this)
 have h3:=h.len;have h4:ts.length*1000≤1000*1000:=Nat.mul_le_mul_right _ h3;unfold fe;omega
theorem oz {b:Nat} {w:World} {sv:Value} {ts:List Ty} {tl:List (Ty×Value)} (h:MC b w sv ts tl) (l0:List Sp) (hl:l0.length≤1000000):dL ts l0≤1000001000000:=by
 have h1:=wZ (aG ts) 1000000 (zT h) [] (fe ts);have h2:=Jg h;have h3:(fe ts).length*1000000≤1000000*1000000:=Nat.mul_le_mul_right _ h2;unfold dL;omega
theorem qY (b:Nat) (sv:Value) (ts:List Ty) (tl:List (Ty×Value)) (t:Ty) (tv:Value) (rl:List (Rl×Value)) (r:Rl) (bv:Value) (w:World) (h:MC b w sv ts tl) (ht:RC b w tv t.rels rl) (hr:ay b w r.body bv) (hmem:r∈t.rels):
  Calls Tryz.prog 118 #[.agg #[sv],.agg #[.int .i64 t.place,.string t.name,tv],.agg #[.int .i64 r.place,.string r.name,bv]] w fun e' w'=>e'=.returned (dW 6 (qX ts t r))∧Below w.heap.size w w':=by
 obtain ⟨ma,mn,mc,rfl⟩:=h.form;obtain ⟨va,vn,vc,rfl⟩:=ht.form;obtain ⟨ra,rv,rfl⟩:=hr.isI;have W0:Below w.heap.size w (((w.alloc (.cells #[.slice ma mn mc] 75)).alloc (.cells #[.int .i64 t.place,.string t.name,.slice va vn vc] 110)).alloc (.cells #[.int .i64 r.place,.string r.name,.iface ra rv] 159)):=(((Below.refl _ _).alloc RH _).alloc (by simp) _).alloc (by simp;omega) _;have qd:=ae (h.below W0);have IX:=ae (ht.below W0);have Nr:=ae (hr.but (But.of_below W0));have MB:=ae (((ag.new w #[.slice ma mn mc] 75).alloc (.cells #[.int .i64 t.place,.string t.name,.slice va vn vc] 110)).alloc (.cells #[.int .i64 r.place,.string r.name,.iface ra rv] 159));have YB:=ae ((ag.new' (w.alloc (.cells #[.slice ma mn mc] 75)) #[.int .i64 t.place,.string t.name,.slice va vn vc] 110 (w.heap.size+1) (by simp)).alloc (.cells #[.int .i64 r.place,.string r.name,.iface ra rv] 159));have RB:=ae (ag.new' ((w.alloc (.cells #[.slice ma mn mc] 75)).alloc (.cells #[.int .i64 t.place,.string t.name,.slice va vn vc] 110)) #[.int .i64 r.place,.string r.name,.iface ra rv] 159 (w.heap.size+2) (by simp));have okp:=ht.okp r hmem;have I5:=ae hmem;have HNL:=ae (fun e he=>tL ts t ht r hmem e he);have P5:=ae (fun l0 hl=>oz h l0 hl);have fK:=ae W0;generalize hR:qX ts t r=R;have yV:=ae hR;have Fg:=(aa qd).blt;clear W0 h ht hr hR hmem;go_enter Tryz.func118,Tryz.ntmps118;go_wp2_with fail;refine (kT r.body b _ _ Fg (aa Nr) okp).mono ?_;rintro e1 w2 ⟨yX,rfl,hb2,l,l1,l2,l3⟩;obtain ⟨oa,oc,rfl⟩:=ak l3;have ll:l.length=(aj r.body).length:=by rw [←l1];simp
 have B2:=ae ((aa fK).trans (hb2.mono (aa fK).size));have L1:=ae l1;have L2:=ae l2;have L3:=ae l3;have M2:=ae ((aa qd).below hb2);have T2:=ae ((aa IX).below hb2);have X2:=ae ((aa Nr).but (But.of_below hb2));have CE:=ae ((aa MB).below hb2);have Lf:=ae ((aa YB).below hb2);have PZ:=ae ((aa RB).below hb2);have nH:=(aa B2).size;clear hb2 l1 l2 l3;have f0:=nI;have f1:=o7;have f2:=o8;have f3:=qJ;have f4:=uQ;have f5:=di;go_wp2_with fail
 go_loopw [14] (fun u14 wr=>∃(k:Nat),k≤(aj r.body).length∧u14=.int .i64 k∧Below w2.heap.size w2 wr∧Hid (((aj r.body).drop k).findSome? (pu ts t r)=R)) (fun u _=>(aj r.body).length-(intOf u).toNat)
 case atStart=>exact ⟨0,by omega,rfl,Below.refl _ _,yV⟩
 case round=>
  obtain ⟨k,hk,rfl,hbr,HQ⟩:=hrel;have HB:=ae hbr;have uV:=hbr.size
  by_cases hlt:k<(aj r.body).length
  ·have hkl:k<l.length:=by omega
   obtain ⟨q1,c1,e1,kc⟩:=aQ (ai (w':=wr) (aa L3) (fun g cs f _ hh=>hbr.block g (lt_of_some hh))) k l[k].2 (by simp [RI hkl]);simp only [Value.slice.injEq] at e1;obtain ⟨rfl,_,rfl⟩:=e1;have bi:=(aa L2 l[k] (List.getElem_mem hkl)).but (b:=b) (But.of_below hbr);have hk':(aj r.body)[k]? =some l[k].1:=by rw [←aa L1];simp [RI hkl]
   generalize l[k]=q at*;obtain ⟨q1,qv⟩:=q;simp only at kc bi hk';have hkn:(k:Int)<((aj r.body).length:Int):=by omega
   have hR:=aa HQ;rw [lJ _ _ _ _ hk'] at hR;have hin:=List.mem_of_getElem? hk';have Lg:=ae ((aa M2).below hbr);have Lh:=ae ((aa T2).below hbr);have QG:=ae ((aa X2).but (But.of_below hbr));have MBR:=ae ((aa CE).below hbr);have YBR:=ae ((aa Lf).below hbr);have RBR:=ae ((aa PZ).below hbr);clear hbr hk' HQ
   match q1,bi,hR,hin with
   |⟨nq,some xq,some yq⟩,⟨vx,vy,hv,rx,ry⟩,hR,hin=>
    obtain ⟨xa,xv,rfl⟩:=rx.isI;obtain ⟨ya,yv,rfl⟩:=ry.isI;have Ky:=kF _ _ _ _ hin;have HRY:=ae ry;subst hv;clear rx ry hin
    by_cases wT:iJ nq.kind=246
    ·rw [wT] at kc;have sG:pu ts t r ⟨nq,some xq,some yq⟩=if zP ts (eX ts t r yq) (t.name,r.name) then some nq.place else none:=by simp [pu,wT]
     rw [sG] at hR;have hnl:=aa HNL yq (by omega);have bx:Below wr.heap.size wr (wr.alloc (.cells #[.int .i64 nq.place,.iface xa xv,.iface ya yv] 246)):=(Below.refl _ _).alloc RH _;have iL:=ae ((aa HB).trans (bx.mono uV));have P6:=ae ((aa Lg).below bx);have HTX:=ae ((aa Lh).below bx);have HXX:=ae ((aa QG).but (But.of_below bx));have HYX:=ae ((aa HRY).but (But.of_below bx));have IW:=ae ((aa MBR).below bx);have Kz:=ae ((aa YBR).below bx);have KC:=ae ((aa RBR).below bx);have KD:=ae (ag.new wr #[.int .i64 nq.place,.iface xa xv,.iface ya yv] 246);clear bx wT sG;go_wp2_with fail;have hWs:wr.heap.size<(wr.alloc (.cells #[.int .i64 nq.place,.iface xa xv,.iface ya yv] 246)).heap.size:=by simp
     generalize (wr.alloc (.cells #[.int .i64 nq.place,.iface xa xv,.iface ya yv] 246))=W at*;generalize wr.heap.size=wz at*;have m0:W.cell? ⟨w.heap.size,0,none⟩=some (.slice ma mn mc):=(aa IW).cell rfl;have ml:=(aa IW).lt;obtain ⟨y0,y1,y2⟩:=(aa Kz).three;have yl:=(aa Kz).lt;obtain ⟨z0,z1,z2⟩:=(aa KC).three;have zl:=(aa KC).lt;obtain ⟨q0,q1,q2⟩:=(aa KD).three;have ql:=(aa KD).lt;have szX:=(aa iL).size
     cases hh:zP ts (eX ts t r yq) (t.name,r.name)
     ·rw [hh] at hR;have HH:=ae hh;have bP:=ae hR;clear hh hR
      go_region_held3 (fun w'=>w'.cell? ⟨w.heap.size,0,none⟩=some (.slice ma mn mc)∧w'.cell? ⟨w.heap.size+1,0,none⟩=some (.int .i64 t.place)∧w'.cell? ⟨w.heap.size+1,1,none⟩=some (.string t.name)∧w'.cell? ⟨w.heap.size+1,2,none⟩=some (.slice va vn vc)∧w'.cell? ⟨w.heap.size+2,0,none⟩=some (.int .i64 r.place)∧w'.cell? ⟨w.heap.size+2,1,none⟩=some (.string r.name)∧w'.cell? ⟨w.heap.size+2,2,none⟩=some (.iface ra rv)∧w'.cell? ⟨wz,2,none⟩=some (.iface ya yv)) (go_keep)
       (first
       |(go_at_call 177;refine (oo b _ ts tl t _ rl r _ yq _ _ ((aa P6).below (Below.refl _ _).drew) ((aa HTX).below (Below.refl _ _).drew) ((aa HXX).but (But.refl _ _).drew) (aa I5) ((aa HYX).but (But.refl _ _).drew) (by omega)).mono ?_;rintro e w3 ⟨Ns,rfl,hb3,hrs⟩;have zU:=ae ((Below.refl _ W).drew.trans hb3);have N3:=ae (show eZ W.heap.size w3 Ns (eX ts t r yq) from hrs);clear hb3 hrs;obtain ⟨na,nc,rfl⟩:=(aa N3).form;have a0:w3.cell? ⟨w.heap.size,0,none⟩=some (.slice ma mn mc):=((aa IW).below (aa zU)).cell rfl;obtain ⟨a1,a2,a3⟩:=((aa Kz).below (aa zU)).three;obtain ⟨a4,a5,a6⟩:=((aa KC).below (aa zU)).three;obtain ⟨a7,a8,a9⟩:=((aa KD).below (aa zU)).three)
       |(go_at_call 151;refine (kE b W.heap.size _ ts tl _ _ _ ((aa P6).below (aa zU)) (aa N3).1 (aa zU).size (by have:=aa P5 _ hnl;omega)).mono ?_;rintro e w4 ⟨v4,rfl,hb4,_,OL⟩;have C9:=ae ((aa zU).trans hb4);have O4:=ae OL;clear hb4 OL;obtain ⟨oa4,oc4,rfl⟩:=ak (aa O4);have b0:w4.cell? ⟨w.heap.size,0,none⟩=some (.slice ma mn mc):=((aa IW).below (aa C9)).cell rfl;obtain ⟨b1,b2,b3⟩:=((aa Kz).below (aa C9)).three;obtain ⟨b4,b5,b6⟩:=((aa KC).below (aa C9)).three;obtain ⟨b7,b8,b9⟩:=((aa KD).below (aa C9)).three)
       |(go_at_call 176;refine (jP _ _ _ (t.name,r.name) _ (by have:=aa P5 _ hnl;have:=kD ts (eX ts t r yq);omega) (aa O4)).mono ?_;rintro e w5 ⟨he,gF⟩;rw [show ((dm ts (eX ts t r yq)).any fun y=>fT (t.name,r.name) y)=_ from aa HH] at he;subst he;have Fz:=ae ((aa C9).trans (gF.mono (aa C9).size));clear gF;have c0:w5.cell? ⟨w.heap.size,0,none⟩=some (.slice ma mn mc):=((aa IW).below (aa Fz)).cell rfl;obtain ⟨c1,c2,c3⟩:=((aa Kz).below (aa Fz)).three;obtain ⟨c4,c5,c6⟩:=((aa KC).below (aa Fz)).three;obtain ⟨c7,c8,c9⟩:=((aa KD).below (aa Fz)).three))
      go_wp2;go_roundw
      case rel=>exact ⟨k+1,by omega,by go_num,(aa iL).trans ((aa Fz).mono szX),by simpa using bP⟩
      case measure=>simp [intOf];omega
     ·rw [hh] at hR;have HH:=ae hh;have bP:=ae hR;clear hh hR
      go_region_held3 (fun w'=>w'.cell? ⟨w.heap.size,0,none⟩=some (.slice ma mn mc)∧w'.cell? ⟨w.heap.size+1,0,none⟩=some (.int .i64 t.place)∧w'.cell? ⟨w.heap.size+1,1,none⟩=some (.string t.name)∧w'.cell? ⟨w.heap.size+1,2,none⟩=some (.slice va vn vc)∧w'.cell? ⟨w.heap.size+2,0,none⟩=some (.int .i64 r.place)∧w'.cell? ⟨w.heap.size+2,1,none⟩=some (.string r.name)∧w'.cell? ⟨w.heap.size+2,2,none⟩=some (.iface ra rv)∧w'.cell? ⟨wz,2,none⟩=some (.iface ya yv)) (go_keep)
       (first
       |(go_at_call 177;refine (oo b _ ts tl t _ rl r _ yq _ _ ((aa P6).below (Below.refl _ _).drew) ((aa HTX).below (Below.refl _ _).drew) ((aa HXX).but (But.refl _ _).drew) (aa I5) ((aa HYX).but (But.refl _ _).drew) (by omega)).mono ?_;rintro e w3 ⟨Ns,rfl,hb3,hrs⟩;have zU:=ae ((Below.refl _ W).drew.trans hb3);have N3:=ae (show eZ W.heap.size w3 Ns (eX ts t r yq) from hrs);clear hb3 hrs;obtain ⟨na,nc,rfl⟩:=(aa N3).form;have a0:w3.cell? ⟨w.heap.size,0,none⟩=some (.slice ma mn mc):=((aa IW).below (aa zU)).cell rfl;obtain ⟨a1,a2,a3⟩:=((aa Kz).below (aa zU)).three;obtain ⟨a4,a5,a6⟩:=((aa KC).below (aa zU)).three;obtain ⟨a7,a8,a9⟩:=((aa KD).below (aa zU)).three)
       |(go_at_call 151;refine (kE b W.heap.size _ ts tl _ _ _ ((aa P6).below (aa zU)) (aa N3).1 (aa zU).size (by have:=aa P5 _ hnl;omega)).mono ?_;rintro e w4 ⟨v4,rfl,hb4,_,OL⟩;have C9:=ae ((aa zU).trans hb4);have O4:=ae OL;clear hb4 OL;obtain ⟨oa4,oc4,rfl⟩:=ak (aa O4);have b0:w4.cell? ⟨w.heap.size,0,none⟩=some (.slice ma mn mc):=((aa IW).below (aa C9)).cell rfl;obtain ⟨b1,b2,b3⟩:=((aa Kz).below (aa C9)).three;obtain ⟨b4,b5,b6⟩:=((aa KC).below (aa C9)).three;obtain ⟨b7,b8,b9⟩:=((aa KD).below (aa C9)).three)
       |(go_at_call 176;refine (jP _ _ _ (t.name,r.name) _ (by have:=aa P5 _ hnl;have:=kD ts (eX ts t r yq);omega) (aa O4)).mono ?_;rintro e w5 ⟨he,gF⟩;rw [show ((dm ts (eX ts t r yq)).any fun y=>fT (t.name,r.name) y)=_ from aa HH] at he;subst he;have Fz:=ae ((aa C9).trans (gF.mono (aa C9).size));clear gF;have c0:w5.cell? ⟨w.heap.size,0,none⟩=some (.slice ma mn mc):=((aa IW).below (aa Fz)).cell rfl;obtain ⟨c1,c2,c3⟩:=((aa Kz).below (aa Fz)).three;obtain ⟨c4,c5,c6⟩:=((aa KC).below (aa Fz)).three;obtain ⟨c7,c8,c9⟩:=((aa KD).below (aa Fz)).three))
      go_wp2_with (go_at_call 73;refine (fE _ 6 _).mono ?_;rintro e w5 ⟨rfl,rfl⟩);go_ret;rw [←aa bP];exact ⟨rfl,(aa B2).trans (((aa iL).trans ((aa Fz).mono szX)).mono nH)⟩
    ·have bP:=ae (show ((aj r.body).drop (k+1)).findSome? (pu ts t r)=R from by simpa [pu,wT] using hR);clear hR
     rcases mD nq.kind with zV|zV|zV
     ·rw [zV] at kc;clear wT zV;go_wp2;go_roundw
      case rel=>exact ⟨k+1,by omega,by go_num,aa HB,bP⟩
      case measure=>simp [intOf];omega
     ·rw [zV] at kc;clear wT zV;go_wp2;go_roundw
      case rel=>exact ⟨k+1,by omega,by go_num,aa HB,bP⟩
      case measure=>simp [intOf];omega
     ·exact absurd zV wT
   |⟨nq,none,rq⟩,bi,hR,hin=>
    have bP:=ae (show ((aj r.body).drop (k+1)).findSome? (pu ts t r)=R from by simpa [pu] using hR);clear hR hin
    rcases bi with ⟨jK,gv,hv,hrow⟩|⟨jK,hv⟩|⟨jK,hv⟩
    ·subst hv;clear hrow;go_wp2;go_roundw
     case rel=>exact ⟨k+1,by omega,by go_num,aa HB,bP⟩
     case measure=>simp [intOf];omega
    ·subst hv;go_wp2;go_roundw
     case rel=>exact ⟨k+1,by omega,by go_num,aa HB,bP⟩
     case measure=>simp [intOf];omega
    ·subst hv;go_wp2;go_roundw
     case rel=>exact ⟨k+1,by omega,by go_num,aa HB,bP⟩
     case measure=>simp [intOf];omega
   |⟨nq,some xq,none⟩,bi,hR,hin=>exact bi.elim
  ·have hR:=aa HQ;rw [List.drop_of_length_le (by omega)] at hR;have hkn:¬((k:Int)<((aj r.body).length:Int)):=by omega
   have bP:=ae hR;clear hbr hR;go_wp2;go_ret;rw [←aa bP];exact ⟨rfl,(aa B2).trans ((aa HB).mono nH)⟩
