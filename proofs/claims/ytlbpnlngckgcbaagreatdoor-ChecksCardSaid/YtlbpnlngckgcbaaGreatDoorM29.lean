import Derived.Test.YtlbpnlngckgcbaaGreatDoorM27
set_option linter.all false
set_option maxHeartbeats 4000000
set_option maxRecDepth 100000
namespace Go.Proofs.YtlbpnlngckgcbaaGreatDoor
open Go.RowKit Go.PlainAid Go.Proofs.Tryz
variable {w w':af} {cn cc n:Nat} {code:List Ins}
theorem S0.below{ca ia ha ta il ic hn hc tn tc mb v}(h:S0 w ca ia ha ta cn cc il ic hn hc tn tc mb n v code)(k:Below w.heap.size w w'):S0 w' ca ia ha ta cn cc il ic hn hc tn tc mb n v code:=
 ⟨h.kn.block (k.block mb h.kn.lt),h.cr.below k,aE h.ln k,h.ho.below k,h.pos,h.bits,h.kd,h.id,h.rel,h.sub,h.len⟩
def Sa(mb n:Nat)(K:Sj->Nat)(s:Sj)(X:Nat)(w:af)(e:Ending)(w':af):Prop:=
 bI (fun k=>k=mb) w w'/\((X=K s/\e=.returned (.bool false)/\pP w' mb n K)\/(X≠K s/\e=.returned (.bool true)/\pP w' mb (n+1) (ma K s X)))
theorem H5(w ca ia ha ta cn cc il ic hn hc tn tc mb n v TI rel ex)(D:S0 w ca ia ha ta cn cc il ic hn hc tn tc mb n v (fZ rel ex))(ax:A1 ex)(ar:(aW rel 0 ex).length<40000)(hrel:rel.size<=maxLen)(am:dH v rel ex<18446744073709551616)(au:n<maxLen):
  Calls prog 149 #[.agg #[.slice ca cn cc,.slice ha hn hc,.map (some mb)],.agg #[.string TI,.string rel,.slice ia il ic],.agg #[.string v.kd,.string v.id,.slice ta tn tc]] w (Sa mb n v.K ⟨v.kd,v.id,rel⟩ (dH v rel ex) w):=by
 have af:m0 ⟨v.kd,v.id,rel⟩:=⟨D.kd,D.id,hrel⟩;have ab:=H1 (v:=v) rel ex ax ar;generalize dH v rel ex=X at*;have R:Below w.heap.size w ((((w.alloc (.cells #[.slice ca cn cc,.slice ha hn hc,.map (some mb)] 189)).alloc (.cells #[.string TI,.string rel,.slice ia il ic] 201)).alloc (m1 v.kd v.id ta tn tc)).alloc (b8 v.kd v.id rel)):=((((aw w.heap.size w).alloc az (.cells #[.slice ca cn cc,.slice ha hn hc,.map (some mb)] 189)).alloc an (.cells #[.string TI,.string rel,.slice ia il ic] 201)).alloc aM (m1 v.kd v.id ta tn tc)).alloc aM (b8 v.kd v.id rel);have C:=ai (H3 _ ca ia ha ta cn cc il ic hn hc tn tc mb n v (fZ rel ex) (D.below R) (aW rel 0 ex).length X ab (Mn rel ex));have Y:=ai ((((aB.new w #[.slice ca cn cc,.slice ha hn hc,.map (some mb)] 189).alloc (.cells #[.string TI,.string rel,.slice ia il ic] 201)).alloc (m1 v.kd v.id ta tn tc)).alloc (b8 v.kd v.id rel));have Z:=ai (aB.new' (((w.alloc (.cells #[.slice ca cn cc,.slice ha hn hc,.map (some mb)] 189)).alloc (.cells #[.string TI,.string rel,.slice ia il ic] 201)).alloc (m1 v.kd v.id ta tn tc)) #[.string v.kd,.string v.id,.string rel] 102 (w.heap.size+3) an);have Q:=ai R;have V:=ai D.kn;clear R D ab;go_enter func149,ntmps149;go_wp2_with fail;refine C.u.mono ?_;rintro e w1 ⟨rfl,J⟩;have b1:=Q.u.trans (J.mono Q.u.size);obtain ⟨c0,c1,c2⟩:=three (Y.u.below J);obtain ⟨d0,d1,d2⟩:=three (Z.u.below J);have I:=V.u.block (b1.block mb V.u.lt);have ac:=I.look af;unfold uW at ac;dsimp only at ac;have U:=ai b1;clear C Y Z Q J b1
 by_cases O:X=v.K ⟨v.kd,v.id,rel⟩
 ·have av:((X:Int)==((v.K ⟨v.kd,v.id,rel⟩:Nat):Int))=true:=by rw [<-O];simp
  have ak:=ai I;clear I;go_wp2;go_ret;exact ⟨.of_below U.u,.inl ⟨O,rfl,ak.u⟩⟩
 ·have av:((X:Int)==((v.K ⟨v.kd,v.id,rel⟩:Nat):Int))=false:=by
   rw [bG];intro e;exact O aj
  obtain ⟨ay,ad,ag,ae⟩:=I.upd au af am;unfold uW at ad;dsimp only at ad;have al:=ai ag;have ah:=ai ae;clear I ag ae;go_wp2;go_ret;refine ⟨?_,.inr ⟨O,rfl,al.u⟩⟩;exact (bI.of_below U.u).trans (fM ah.u (fun k ap=>by simpa using ap.symm))
