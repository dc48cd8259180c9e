import Derived.Test.YtlbpnlngckgcbaaGreatDoorM21
import Derived.ScopeJumps
import Derived.WalkMore
set_option linter.all false
set_option maxHeartbeats 4000000
set_option maxRecDepth 100000
namespace Go.Proofs.YtlbpnlngckgcbaaGreatDoor
open Go.RowKit Go.PlainAid
theorem nH {P:Nat→Prop} (h:∃r,P r):∃r,P r∧∀r',r'<r→¬P r':=by
 obtain ⟨r,hr⟩:=h
 induction r using Nat.strongRecOn with
 |_ r ih=>
  by_cases h:∃r',r'<r∧P r'
  ·obtain ⟨r',h1,h2⟩:=h;exact ih r' h1 h2
  ·exact ⟨r,hr,fun r' h1 h2=>h ⟨r',h1,h2⟩⟩
open Classical in
theorem xg {P:Program} {a:Act} {w:World} {Q:Exit→Act→World→Prop} {c rest:Code} (l:Nat) (J:Nat→Act→World→Prop) (hf:findLabel c l=some (.seq .skip rest))
  (pass:∀r a w,J r a w→rest.wp P (Exit.jump l (fun a' w'=>∃r',r'<r∧J r' a' w') Q) a w)
  (first:(∀r a w,J r a w→rest.wp P (Exit.jump l (fun a w=>∃r,J r a w) Q) a w)→c.wp P (Exit.jump l (fun a w=>∃r,J r a w) Q) a w):(Code.scope c).wp P Q a w:=by
 refine wp_scope_jumps l (fun a w=>∃r,J r a w) (fun a w=>if h:∃r,J r a w then Classical.choose (nH h) else 0) hf (first fun r a w h=>wp_mono (pass r a w h) (fun e a' w' q=>by
  cases e<;>try exact q
  obtain ⟨h1,r',_,h3⟩:=q;exact ⟨h1,r',h3⟩)) ?_
 intro a w h;have hs:=Classical.choose_spec (nH h);refine wp_seq (wp_skip ?_);refine wp_mono (pass _ a w hs.1) (fun e a' w' q=> ?_)
 cases e<;>try exact q
 obtain ⟨h1,r',h2,h3⟩:=q;refine ⟨h1,⟨r',h3⟩,?_⟩;have h':∃r,J r a' w':=⟨r',h3⟩;rw [dif_pos h',dif_pos h];have hs':=Classical.choose_spec (nH h');have:¬r'<Classical.choose (nH h'):=fun e=>hs'.2 r' e h3
 omega
structure nR (w:World) (ca ha ta:Option Addr) (cn cc hn hc tn tc mb:Nat) (v:sW) (s:CY) (sv:Value) (wr:World):Prop where
 bel:Below w.heap.size w wr
 kn:ag wr w.heap.size #[.slice ca cn cc,.slice ha hn hc,.map (some mb)] 189
 ho:ag wr (w.heap.size+1) #[.string v.kd,.string v.id,.slice ta tn tc] 282
 sk:CB w.heap.size wr (w.heap.size+2) sv s.st.reverse
 tup:s.tup≤v.ts.length
 bits:∀x∈s.st,x<18446744073709551616
theorem us94 (us:List Value) (h:us.length=94):∃u:Nat→Value,us=[u 0,u 1,u 2,u 3,u 4,u 5,u 6,u 7,u 8,u 9,u 10,u 11,u 12,u 13,u 14,u 15,u 16,u 17,u 18,u 19,u 20,u 21,u 22,u 23,u 24,u 25,u 26,u 27,u 28,u 29,u 30,u 31,u 32,u 33,u 34,u 35,u 36,u 37,u 38,u 39,u 40,u 41,u 42,u 43,u 44,u 45,u 46,u 47,u 48,u 49,u 50,u 51,u 52,u 53,u 54,u 55,u 56,u 57,u 58,u 59,u 60,u 61,u 62,u 63,u 64,u 65,u 66,u 67,u 68,u 69,u 70,u 71,u 72,u 73,u 74,u 75,u 76,u 77,u 78,u 79,u 80,u 81,u 82,u 83,u 84,u 85,u 86,u 87,u 88,u 89,u 90,u 91,u 92,u 93]:=by
 refine ⟨fun k=>us.getD k undef,?_⟩;have e:us=(List.range 94).map (fun k=>us.getD k undef):=by
  refine List.ext_getElem (by simp [h]) fun i h1 h2=> ?_
  simp [List.getD_eq_getElem?_getD,Qw h1]
 generalize (fun k=>us.getD k undef)=u at*;rw [e]
 rfl
def Db (w:World) (ca ia ha ta:Option Addr) (cn cc il ic hn hc tn tc mb:Nat) (v:sW) (s:CY) (u4:Value) (us:List Value):Act:={tmps:=(.agg #[.slice ca cn cc,.slice ha hn hc,.map (some mb)]:: .slice ia il ic:: .agg #[.string v.kd,.string v.id,.slice ta tn tc]:: .pointer (some ⟨w.heap.size,0,none⟩)::u4:: .pointer (some ⟨w.heap.size+1,0,none⟩):: .int .u64 0:: .pointer (some ⟨w.heap.size+2,0,none⟩):: .int .i64 s.at_:: .int .i64 s.tup::us).toArray,defers:=[]}
theorem CB.bel {base b:Nat} {sv pz:Value} {l:List Nat} {w w':World} (h:CB base w b sv l) (k:kS b sv w w' pz):Below base w w':=by
 have hb:=h.blk.lt;have hl:=h.low;exact k.but.below (by omega) (fun g e=>by
  rcases e with e|e
  ·omega
  ·exact (h.row.lt g e).1)
section
variable {w wr wa w1:World} {ca ha ta:Option Addr} {cn cc hn hc tn tc mb:Nat} {v:sW} {s s':CY} {sv pz:Value}
theorem nR.below (J:nR w ca ha ta cn cc hn hc tn tc mb v s sv wr) (k:Below wr.heap.size wr wa):nR w ca ha ta cn cc hn hc tn tc mb v s sv wa:=
 ⟨J.bel.trans (k.mono J.bel.size),J.kn.below k,J.ho.below k,J.sk.below k,J.tup,J.bits⟩
theorem nR.push (J:nR w ca ha ta cn cc hn hc tn tc mb v s sv wa) (f:kS (w.heap.size+2) sv wa w1 pz) (hs:CB w.heap.size w1 (w.heap.size+2) pz s'.st.reverse) (ht:s'.tup≤v.ts.length) (hb:∀x∈s'.st,x<18446744073709551616):nR w ca ha ta cn cc hn hc tn tc mb v s' pz w1:=
 ⟨J.bel.trans (J.sk.bel f),f.blk J.kn (by omega) (fun e=>own_ne J.sk.row J.kn (by decide) e.symm),f.blk J.ho (by omega) (fun e=>own_ne J.sk.row J.ho (by decide) e.symm),hs,ht,hb⟩
theorem nR.same (J:nR w ca ha ta cn cc hn hc tn tc mb v s sv wa) (hs:s'.st=s.st) (ht:s'.tup≤v.ts.length):nR w ca ha ta cn cc hn hc tn tc mb v s' sv wa:=
 ⟨J.bel,J.kn,J.ho,by rw [hs];exact J.sk,ht,by rw [hs];exact J.bits⟩
end
theorem vF.most {w:World} {x:Value} {cs:List Tg} (h:vF w x cs):cs.length≤64:=by
 obtain ⟨_,_,_,_,_,h,_⟩:=h;exact h
theorem xh {K:Sj→Nat} {cs:List Tg} (hK:∀s,K s<18446744073709551616) (hc:cs.length≤64) (s:Sj):gI K cs s<18446744073709551616:=by
 unfold gI
 split
 ·exact om _ _ _ hc
 ·exact hK s
theorem Fa {K:Sj→Nat} (hK:∀s,K s<18446744073709551616) (s:Sj) (rel:Qx):pg K s rel<18446744073709551616:=by
 unfold pg
 split
 ·exact hK _
 ·decide
theorem kT (n:Int):IntKind.i64.wrap n=(n+9223372036854775808) % 18446744073709551616-9223372036854775808:=by
 simp [IntKind.wrap,IntKind.bits,IntKind.signed]
 split<;>omega
theorem Fb {a b:Nat} (ha:a<18446744073709551616) (hb:b<18446744073709551616):bits .andNot .u64 (a:Int) (b:Int)=((nG a b:Nat):Int):=u64_andNot_nat a b ha hb
theorem AR {a b:Nat} (ha:a<18446744073709551616):nG a b<18446744073709551616:=Nat.lt_of_le_of_lt Nat.and_le_left ha
structure Ml (w:World) (ca ia ha ta:Option Addr) (cn cc il ic hn hc tn tc mb n:Nat) (v:sW) (code:List eH):Prop where
 kn:nQ w mb n v.K
 cr:vF w (.slice ca cn cc) v.cs
 ln:w.ownsRow 0 298 3 (.slice ia il ic) code.length (code.flatMap wT)
 ho:Io w (.slice ta tn tc) v.ts
 pos:0<v.ts.length
 bits:∀s,v.K s<18446744073709551616
 kd:v.kd.size≤maxLen
 id:v.id.size≤maxLen
 rel:∀i∈code,i.rel.size≤maxLen
 sub:∀t∈v.ts,lg (fB t)
 len:code.length≤100000
theorem Dc (w:World) (ca ia ha ta:Option Addr) (cn cc il ic hn hc tn tc mb n:Nat) (v:sW) (code:List eH) (h:Ml w ca ia ha ta cn cc il ic hn hc tn tc mb n v code) (p res:Nat) (hg:Goes v code ⟨0,0,[]⟩ ⟨p,0,[res]⟩) (hp:code[p]? =some ⟨0,⟨#[]⟩,0⟩):
  Calls Tryz.prog 207 #[.agg #[.slice ca cn cc,.slice ha hn hc,.map (some mb)],.slice ia il ic,.agg #[.string v.kd,.string v.id,.slice ta tn tc]] w fun e w'=>e=.returned (.int .u64 res)∧Below w.heap.size w w':=by
 go_enter Tryz.func207,Tryz.ntmps207;go_wp2;refine xg 0 (fun r a wr=>∃(s:CY) (sv u4:Value) (us:List Value),ib v code r s=some ⟨p,0,[res]⟩∧us.length=94∧a=Db w ca ia ha ta cn cc il ic hn hc tn tc mb v s u4 us∧nR w ca ha ta cn cc hn hc tn tc mb v s sv wr) rfl ?pass ?first
 case pass=>
  rintro r a wr ⟨s,sv,u4,us,hit,hus,rfl,J⟩;obtain ⟨u,rfl⟩:=us94 us hus;obtain ⟨i,hi⟩:∃i,code[s.at_]? =some i:=by
   cases r with
   |zero=>simp only [ib,Option.some.injEq] at hit;subst hit;exact ⟨_,hp⟩
   |succ r=>
    rw [ib,wZ] at hit
    cases hc:code[s.at_]? with
    |none=>rw [hc] at hit;simp at hit
    |some i=>exact ⟨i,rfl⟩
  obtain ⟨ig,ic',e1,hc⟩:=aZ wT 3 (fun _=>rfl) (aM h.ln J.bel) s.at_ i hi;simp only [Value.slice.injEq] at e1;obtain ⟨rfl,rfl,rfl⟩:=e1;have hat:=(List.getElem?_eq_some_iff.1 hi).1;have k0:wr.cell? ⟨ig,s.at_*3,none⟩=some (.int .i64 i.does):=hc 0 _ (by omega) rfl;have k1:=hc 1 _ (by omega) rfl;have k2:=hc 2 _ (by omega) rfl;have hlen:=h.len;have hatn:(s.at_:Int)<(code.length:Int):=by omega
  have hatb:s.at_<100000:=by omega
  have hwr:=J.bel.size;have HJ:=ae J;have H:=ae h;have HI:=ae hi;have HP:=ae hp;have HIT:=ae hit;have ba:=(Below.refl wr.heap.size wr).alloc Qv (.cells #[.int .i64 i.does,.string i.rel,.int .i64 i.to] 298);have BA:=ae ba;clear hc J h hi hp hit ba
  cases r with
  |zero=>
   have hit:=aa HIT;simp only [ib,Option.some.injEq] at hit;subst hit;have hi2:=aa HI;rw [aa HP] at hi2;simp only [Option.some.injEq] at hi2;subst hi2;dsimp only at*;have C:=ae (fM w.heap.size (w.heap.size+2) sv [] res _ (show CB w.heap.size _ _ sv ([]++[res]) from (aa HJ).sk.below (aa BA)) (by simp));unfold Db;go_wp2_with fail;refine (aa C).mono ?_;rintro e w1 ⟨v',rfl,hf,hs⟩;have B1:=ae hf;clear hf hs;go_wp2;simp only [Exit.jump];go_ret;refine ⟨rfl,?_⟩;exact (((aa HJ).below (aa BA)).bel.trans (((aa HJ).below (aa BA)).sk.bel (aa B1)))
  |succ r=>
   obtain ⟨s',hst,hit⟩:∃s',eU v i s=some s'∧ib v code r s'=some ⟨p,0,[res]⟩:=by
    have hit:=aa HIT;rw [ib,wZ,aa HI,Option.bind_some] at hit
    cases hs:eU v i s with
    |none=>rw [hs] at hit;simp at hit
    |some s'=>rw [hs] at hit;exact ⟨s',rfl,hit⟩
   clear HIT;have HIT:=ae hit;clear hit;unfold eU at hst
   split at hst
   ·cases hst
   rename_i hsl;obtain ⟨d,rl,to⟩:=i;obtain ⟨at_,tup,st⟩:=s;dsimp only at*;obtain ⟨c0,c1,c2⟩:=three (aa HJ).kn;obtain ⟨d0,d1,d2⟩:=three (aa HJ).ho;have e0:wr.cell? ⟨w.heap.size+2,0,none⟩=some sv:=(aa HJ).sk.blk.cell rfl;have n3:=(aa HJ).sk.blk.lt;have n0:¬(w.heap.size=wr.heap.size):=by omega
   have n1:¬(w.heap.size+1=wr.heap.size):=by omega
   have n2:¬(w.heap.size+2=wr.heap.size):=by omega
   have HB:=ae (aa HJ).bits;have K0:=ae k0;have K1:=ae k1;have K2:=ae k2
   split at hst
   ·simp only [Option.some.injEq] at hst;subst hst;have C:=ae (gZ w.heap.size (w.heap.size+2) sv st.reverse 0 _ ((aa HJ).sk.below (aa BA)) (by simp;omega));unfold Db;go_wp2_with fail;refine (aa C).mono ?_;rintro e w1 ⟨v',rfl,hf,hs⟩;have J1:=ae (nR.push (s':=⟨at_+1,tup,0::st⟩) ((aa HJ).below (aa BA)) hf (by simpa using hs) (aa HJ).tup (fun x hx=>by rcases List.mem_cons.1 hx with rfl|hx;(· decide);exact aa HB x hx));clear hf hs;go_wp2
    go_step3
    exact ⟨rfl,r,by omega,_,_,_,_,aa HIT,rfl,rfl,aa J1⟩
   ·simp only [Option.some.injEq] at hst;subst hst;have Fe:Below wr.heap.size wr (wr.alloc (.cells #[.int .i64 2,.string rl,.int .i64 to] 298)):=aa BA;have ja:=(aa HJ).below Fe;have hL:=((aa H).kn.block (ja.bel.block mb (aa H).kn.lt)).look (s:=⟨v.kd,v.id,rl⟩) ⟨(aa H).kd,(aa H).id,(aa H).rel _ (List.mem_of_getElem? (aa HI))⟩;have KW:=(aa H).bits ⟨v.kd,v.id,rl⟩;unfold q8 at hL;dsimp only at hL;obtain ⟨f0,f1,f2⟩:=three ja.kn;obtain ⟨g0,g1,g2⟩:=three ja.ho;have C:=ae (gZ w.heap.size (w.heap.size+2) sv st.reverse (v.K ⟨v.kd,v.id,rl⟩) _ ja.sk (by simp;omega));clear Fe ja;unfold Db;go_wp2_with fail;refine (aa C).mono ?_;rintro e w1 ⟨v',rfl,hf,hs⟩;have J1:=ae (nR.push (s':=⟨at_+1,tup,v.K ⟨v.kd,v.id,rl⟩::st⟩) ((aa HJ).below (aa BA)) hf (by simpa using hs) (aa HJ).tup (fun x hx=>by rcases List.mem_cons.1 hx with rfl|hx;(· exact KW);exact aa HB x hx));clear hf hs;go_wp2
    go_step3
    exact ⟨rfl,r,by omega,_,_,_,_,aa HIT,rfl,rfl,aa J1⟩
   ·simp only [Option.some.injEq] at hst;subst hst;have Fe:Below wr.heap.size wr (wr.alloc (.cells #[.int .i64 3,.string rl,.int .i64 to] 298)):=aa BA;have ja:=(aa HJ).below Fe;obtain ⟨g0,g1,g2⟩:=three ja.ho;have nb:=ag.new wr #[.int .i64 3,.string rl,.int .i64 to] 298;have C:=ae (EU v.kd v.id rl (.slice ta tn tc) v.ts tup _ ((aa H).ho.below ja.bel) (aa H).pos (aa HJ).tup);have Iq:=E8 v.ts tup rl;generalize iN v.ts tup rl=m at*;have JA:=ae ja;have NB:=ae nb;clear ja nb Fe;unfold Db;go_wp2_with fail;refine (aa C).mono ?_;rintro e w1 ⟨rfl,hb1⟩;have ja:=aa JA;obtain ⟨q0,q1,q2⟩:=three ((aa NB).below hb1);clear NB JA C
    by_cases hm0:m=0
    ·have hq:((m:Int)==0)=true:=by rw [hm0];rfl
     have J1:=ae (nR.same (s':=⟨to,m,st⟩) (ja.below hb1) rfl Iq);rw [if_pos hm0] at HIT;clear hm0 hb1 ja Iq;go_wp2
     go_step3
     exact ⟨rfl,r,by omega,_,_,_,_,aa HIT,rfl,rfl,aa J1⟩
    ·have hq:((m:Int)==0)=false:=by simpa using hm0
     have J1:=ae (nR.same (s':=⟨at_+1,m,st⟩) (ja.below hb1) rfl Iq);rw [if_neg hm0] at HIT;clear hm0 hb1 ja Iq;go_wp2
     go_step3
     exact ⟨rfl,r,by omega,_,_,_,_,aa HIT,rfl,rfl,aa J1⟩
   ·split at hst
    ·rename_i hpos;obtain ⟨m,rfl⟩:∃m,tup=m+1:=⟨tup-1,by omega⟩;rw [show m+1-1=m by omega] at hst
     cases ht:v.ts[m]? with
     |none=>rw [ht] at hst;cases hst
     |some t=>
      rw [ht] at hst;simp only [Option.map_some,Option.some.injEq] at hst;subst hst;have KX:=(aa H).sub t (List.mem_of_getElem? ht);obtain ⟨tg,tc',e2,hct⟩:=aZ gL 6 (fun _=>rfl) (aa H).ho.row m t ht;simp only [Value.slice.injEq] at e2;obtain ⟨rfl,rfl,rfl⟩:=e2;have t3:=hct 3 _ (by omega) rfl;have t4:=hct 4 _ (by omega) rfl;have t5:=hct 5 _ (by omega) rfl;have hml:=(List.getElem?_eq_some_iff.1 ht).1;have Px:(m:Int)<(v.ts.length:Int):=by omega
      have hm0:(0:Int)≤(m:Int):=by omega
      have wR:=(aa H).ho.most;have hw2:IntKind.i64.wrap (m:Int)=(m:Int):=by rw [kT];omega
      have hw1:IntKind.i64.wrap ((m:Int)+1-1)=(m:Int):=by rw [kT];omega
      have Fe:Below wr.heap.size wr (wr.alloc (.cells #[.int .i64 4,.string rl,.int .i64 to] 298)):=aa BA;have ja:=(aa HJ).below Fe;have NB:=ae (ag.new wr #[.int .i64 4,.string rl,.int .i64 to] 298);have hM:=xh (aa H).bits (aa H).cr.most (fB t);have hrl:=(aa H).rel _ (List.mem_of_getElem? (aa HI));have HM:=ae (fun w' (k:Below w.heap.size w w')=>CE _ v.cs ha hn hc mb n v.K (fB t) w' ((aa H).kn.block (k.block mb (aa H).kn.lt)) ((aa H).cr.below k) KX);generalize hX:gI v.K v.cs (fB t)=X at*;have JA:=ae ja;have T3:=ae t3;have T4:=ae t4;have T5:=ae t5;have HTO:=ae KX;have hup:=(aa HJ).tup;clear ja Fe hct ht KX hX k0 k1 k2 c0 c1 c2 d0 d1 d2 e0;have k0:wr.cell? ⟨ig,at_*3,none⟩=some (.int .i64 4):=aa K0;have k1:wr.cell? ⟨ig,at_*3+1,none⟩=some (.string rl):=aa K1;have k2:wr.cell? ⟨ig,at_*3+2,none⟩=some (.int .i64 to):=aa K2;unfold Db;go_wp2_with fail;generalize (wr.alloc (.cells #[.int .i64 4,.string rl,.int .i64 to] 298))=WA at*;clear k0 k1 k2;obtain ⟨f0,f1,f2⟩:=three (aa JA).kn;obtain ⟨g0,g1,g2⟩:=three (aa JA).ho;obtain ⟨i0,i1,i2⟩:=three (aa NB);have z3:=af (aa T3) (aa JA).bel;have z4:=af (aa T4) (aa JA).bel;have z5:=af (aa T5) (aa JA).bel;have hlw:=(aa JA).bel.size;have D:=ae (aa HM WA.drew (aa JA).bel.drew)
      go_region_held3 (fun w'=>w'.cell? ⟨w.heap.size,0,none⟩=some (.slice ca cn cc)∧w'.cell? ⟨w.heap.size,1,none⟩=some (.slice ha hn hc)∧w'.cell? ⟨w.heap.size,2,none⟩=some (.map (some mb))∧w'.cell? ⟨w.heap.size+1,2,none⟩=some (.slice (some ⟨tg,0,none⟩) v.ts.length tc)∧w'.cell? ⟨tg,m*6+3,none⟩=some (.string t.sub)∧w'.cell? ⟨tg,m*6+4,none⟩=some (.string t.who)∧w'.cell? ⟨tg,m*6+5,none⟩=some (.string t.of)∧w'.cell? ⟨wr.heap.size,1,none⟩=some (.string rl)) (go_keep)
       (first
       |(go_at_call 243;refine (aa D).mono ?_;rintro e w2 ⟨rfl,hb2⟩;have BB:=ae (show Below WA.heap.size WA w2 from (Below.refl _ WA).drew.trans hb2);have q0:=af f0 (aa BB);have q1:=af f1 (aa BB);have q2:=af f2 (aa BB);have q3:=af g2 (aa BB);have q4:=af z3 (aa BB);have q5:=af z4 (aa BB);have q6:=af z5 (aa BB);have q7:=af i1 (aa BB);clear hb2)
       |(go_at_call 241;refine (gZ w.heap.size (w.heap.size+2) sv st.reverse X _ ((aa JA).below (aa BB)).sk (by simp;omega)).mono ?_;rintro e w3 ⟨v',rfl,hf,hs⟩;have jb:=(aa JA).below (aa BB);have j3:=nR.push (s':=⟨at_+1,m+1,X::st⟩) jb hf (by simpa using hs) hup (fun x hx=>by rcases List.mem_cons.1 hx with rfl|hx;(· exact hM);exact aa HB x hx);have nb:=(aa NB).below (aa BB);have Nw:=hf.blk nb (by omega) (fun e=>own_ne jb.sk.row nb (by decide) e.symm);obtain ⟨p0,p1,p2⟩:=three j3.kn;have p3:=(three j3.ho).2.2;have p4:=af (aa T3) j3.bel;have p5:=af (aa T4) j3.bel;have p6:=af (aa T5) j3.bel;have p7:=(three Nw).2.1;have J1:=ae j3;clear hf hs jb j3 nb Nw))
      all_goals (
       go_wp2
       go_step3
       exact ⟨rfl,r,by omega,_,_,_,_,aa HIT,rfl,rfl,aa J1⟩)
    ·cases hst
   ·split at hst
    ·rename_i hpos;obtain ⟨m,rfl⟩:∃m,tup=m+1:=⟨tup-1,by omega⟩;rw [show m+1-1=m by omega] at hst
     cases ht:v.ts[m]? with
     |none=>rw [ht] at hst;cases hst
     |some t=>
      rw [ht] at hst;simp only [Option.map_some,Option.some.injEq] at hst;subst hst;have KX:=(aa H).sub t (List.mem_of_getElem? ht);obtain ⟨tg,tc',e2,hct⟩:=aZ gL 6 (fun _=>rfl) (aa H).ho.row m t ht;simp only [Value.slice.injEq] at e2;obtain ⟨rfl,rfl,rfl⟩:=e2;have t3:=hct 3 _ (by omega) rfl;have t4:=hct 4 _ (by omega) rfl;have t5:=hct 5 _ (by omega) rfl;have hml:=(List.getElem?_eq_some_iff.1 ht).1;have Px:(m:Int)<(v.ts.length:Int):=by omega
      have hm0:(0:Int)≤(m:Int):=by omega
      have wR:=(aa H).ho.most;have hw2:IntKind.i64.wrap (m:Int)=(m:Int):=by rw [kT];omega
      have hw1:IntKind.i64.wrap ((m:Int)+1-1)=(m:Int):=by rw [kT];omega
      have Fe:Below wr.heap.size wr (wr.alloc (.cells #[.int .i64 5,.string rl,.int .i64 to] 298)):=aa BA;have ja:=(aa HJ).below Fe;have NB:=ae (ag.new wr #[.int .i64 5,.string rl,.int .i64 to] 298);have hM:=Fa (aa H).bits (fB t) rl;have hrl:=(aa H).rel _ (List.mem_of_getElem? (aa HI));have HM:=ae (fun w' (k:Below w.heap.size w w')=>zV ca ha cn cc hn hc mb n v.K (fB t) rl w' ((aa H).kn.block (k.block mb (aa H).kn.lt)) KX hrl);generalize hX:pg v.K (fB t) rl=X at*;have JA:=ae ja;have T3:=ae t3;have T4:=ae t4;have T5:=ae t5;have HTO:=ae KX;have hup:=(aa HJ).tup;clear ja Fe hct ht KX hX k0 k1 k2 c0 c1 c2 d0 d1 d2 e0;have k0:wr.cell? ⟨ig,at_*3,none⟩=some (.int .i64 5):=aa K0;have k1:wr.cell? ⟨ig,at_*3+1,none⟩=some (.string rl):=aa K1;have k2:wr.cell? ⟨ig,at_*3+2,none⟩=some (.int .i64 to):=aa K2;unfold Db;go_wp2_with fail;generalize (wr.alloc (.cells #[.int .i64 5,.string rl,.int .i64 to] 298))=WA at*;clear k0 k1 k2;obtain ⟨f0,f1,f2⟩:=three (aa JA).kn;obtain ⟨g0,g1,g2⟩:=three (aa JA).ho;obtain ⟨i0,i1,i2⟩:=three (aa NB);have z3:=af (aa T3) (aa JA).bel;have z4:=af (aa T4) (aa JA).bel;have z5:=af (aa T5) (aa JA).bel;have hlw:=(aa JA).bel.size;have D:=ae (aa HM WA.drew (aa JA).bel.drew)
      go_region_held3 (fun w'=>w'.cell? ⟨w.heap.size,0,none⟩=some (.slice ca cn cc)∧w'.cell? ⟨w.heap.size,1,none⟩=some (.slice ha hn hc)∧w'.cell? ⟨w.heap.size,2,none⟩=some (.map (some mb))∧w'.cell? ⟨w.heap.size+1,2,none⟩=some (.slice (some ⟨tg,0,none⟩) v.ts.length tc)∧w'.cell? ⟨tg,m*6+3,none⟩=some (.string t.sub)∧w'.cell? ⟨tg,m*6+4,none⟩=some (.string t.who)∧w'.cell? ⟨tg,m*6+5,none⟩=some (.string t.of)∧w'.cell? ⟨wr.heap.size,1,none⟩=some (.string rl)) (go_keep)
       (first
       |(go_at_call 244;refine (aa D).mono ?_;rintro e w2 ⟨rfl,hb2⟩;have BB:=ae (show Below WA.heap.size WA w2 from (Below.refl _ WA).drew.trans hb2);have q0:=af f0 (aa BB);have q1:=af f1 (aa BB);have q2:=af f2 (aa BB);have q3:=af g2 (aa BB);have q4:=af z3 (aa BB);have q5:=af z4 (aa BB);have q6:=af z5 (aa BB);have q7:=af i1 (aa BB);clear hb2)
       |(go_at_call 241;refine (gZ w.heap.size (w.heap.size+2) sv st.reverse X _ ((aa JA).below (aa BB)).sk (by simp;omega)).mono ?_;rintro e w3 ⟨v',rfl,hf,hs⟩;have jb:=(aa JA).below (aa BB);have j3:=nR.push (s':=⟨at_+1,m+1,X::st⟩) jb hf (by simpa using hs) hup (fun x hx=>by rcases List.mem_cons.1 hx with rfl|hx;(· exact hM);exact aa HB x hx);have nb:=(aa NB).below (aa BB);have Nw:=hf.blk nb (by omega) (fun e=>own_ne jb.sk.row nb (by decide) e.symm);obtain ⟨p0,p1,p2⟩:=three j3.kn;have p3:=(three j3.ho).2.2;have p4:=af (aa T3) j3.bel;have p5:=af (aa T4) j3.bel;have p6:=af (aa T5) j3.bel;have p7:=(three Nw).2.1;have J1:=ae j3;clear hf hs jb j3 nb Nw))
      all_goals (
       go_wp2
       go_step3
       exact ⟨rfl,r,by omega,_,_,_,_,aa HIT,rfl,rfl,aa J1⟩)
    ·cases hst
   ·rename_i b a st;simp only [Option.some.injEq] at hst;subst hst;have hb:=aa HB b (by simp);have ha:=aa HB a (by simp);have C:=ae (fM w.heap.size (w.heap.size+2) sv (st.reverse++[a]) b _ (by simpa using (aa HJ).sk.below (aa BA)) (by simp at hsl ⊢;omega));unfold Db;go_wp2_with fail;refine (aa C).mono ?_;rintro e w1 ⟨v1,rfl,hf,hs⟩;have J1:=ae (nR.push (s':=⟨at_+1,tup,a::st⟩) ((aa HJ).below (aa BA)) hf (by simpa using hs) (aa HJ).tup (fun x hx=>aa HB x (List.mem_cons_of_mem _ hx)));have C2:=ae (fM w.heap.size (w.heap.size+2) v1 st.reverse a _ hs (by simp at hsl ⊢;omega));clear hf hs C;go_wp2_with fail;refine (aa C2).mono ?_;rintro e w2 ⟨v2,rfl,hf,hs⟩;have J2:=ae (nR.push (s':=⟨at_+1,tup,st⟩) (aa J1) hf hs (aa HJ).tup (fun x hx=>aa HB x (List.mem_cons_of_mem _ (List.mem_cons_of_mem _ hx))));have c3:=gZ w.heap.size (w.heap.size+2) v2 st.reverse (b|||a) w2 hs (by simp at hsl ⊢;omega);rw [←u64_or_nat b a hb ha] at c3;have C3:=ae c3;clear hf hs C2 c3 J1;go_wp2_with fail;refine (aa C3).mono ?_;rintro e w3 ⟨v3,rfl,hf,hs⟩;have J1:=ae (nR.push (s':=⟨at_+1,tup,(b|||a)::st⟩) (aa J2) hf (by simpa using hs) (aa HJ).tup (fun x hx=>by rcases List.mem_cons.1 hx with rfl|hx;(· exact Nat.or_lt_two_pow (n:=64) hb ha);exact aa HB x (List.mem_cons_of_mem _ (List.mem_cons_of_mem _ hx))));clear hf hs;go_wp2
    go_step3
    exact ⟨rfl,r,by omega,_,_,_,_,aa HIT,rfl,rfl,aa J1⟩
   ·rename_i b a st;simp only [Option.some.injEq] at hst;subst hst;have hb:=aa HB b (by simp);have ha:=aa HB a (by simp);have C:=ae (fM w.heap.size (w.heap.size+2) sv (st.reverse++[a]) b _ (by simpa using (aa HJ).sk.below (aa BA)) (by simp at hsl ⊢;omega));unfold Db;go_wp2_with fail;refine (aa C).mono ?_;rintro e w1 ⟨v1,rfl,hf,hs⟩;have J1:=ae (nR.push (s':=⟨at_+1,tup,a::st⟩) ((aa HJ).below (aa BA)) hf (by simpa using hs) (aa HJ).tup (fun x hx=>aa HB x (List.mem_cons_of_mem _ hx)));have C2:=ae (fM w.heap.size (w.heap.size+2) v1 st.reverse a _ hs (by simp at hsl ⊢;omega));clear hf hs C;go_wp2_with fail;refine (aa C2).mono ?_;rintro e w2 ⟨v2,rfl,hf,hs⟩;have J2:=ae (nR.push (s':=⟨at_+1,tup,st⟩) (aa J1) hf hs (aa HJ).tup (fun x hx=>aa HB x (List.mem_cons_of_mem _ (List.mem_cons_of_mem _ hx))));have c3:=gZ w.heap.size (w.heap.size+2) v2 st.reverse (b&&& a) w2 hs (by simp at hsl ⊢;omega);rw [←u64_and_nat b a hb ha] at c3;have C3:=ae c3;clear hf hs C2 c3 J1;go_wp2_with fail;refine (aa C3).mono ?_;rintro e w3 ⟨v3,rfl,hf,hs⟩;have J1:=ae (nR.push (s':=⟨at_+1,tup,(b&&& a)::st⟩) (aa J2) hf (by simpa using hs) (aa HJ).tup (fun x hx=>by rcases List.mem_cons.1 hx with rfl|hx;(· exact Nat.and_lt_two_pow (n:=64) b ha);exact aa HB x (List.mem_cons_of_mem _ (List.mem_cons_of_mem _ hx))));clear hf hs;go_wp2
    go_step3
    exact ⟨rfl,r,by omega,_,_,_,_,aa HIT,rfl,rfl,aa J1⟩
   ·rename_i b a st;simp only [Option.some.injEq] at hst;subst hst;have hb:=aa HB b (by simp);have ha:=aa HB a (by simp);have C:=ae (fM w.heap.size (w.heap.size+2) sv (st.reverse++[a]) b _ (by simpa using (aa HJ).sk.below (aa BA)) (by simp at hsl ⊢;omega));unfold Db;go_wp2_with fail;refine (aa C).mono ?_;rintro e w1 ⟨v1,rfl,hf,hs⟩;have J1:=ae (nR.push (s':=⟨at_+1,tup,a::st⟩) ((aa HJ).below (aa BA)) hf (by simpa using hs) (aa HJ).tup (fun x hx=>aa HB x (List.mem_cons_of_mem _ hx)));have C2:=ae (fM w.heap.size (w.heap.size+2) v1 st.reverse a _ hs (by simp at hsl ⊢;omega));clear hf hs C;go_wp2_with fail;refine (aa C2).mono ?_;rintro e w2 ⟨v2,rfl,hf,hs⟩;have J2:=ae (nR.push (s':=⟨at_+1,tup,st⟩) (aa J1) hf hs (aa HJ).tup (fun x hx=>aa HB x (List.mem_cons_of_mem _ (List.mem_cons_of_mem _ hx))));have c3:=gZ w.heap.size (w.heap.size+2) v2 st.reverse (nG a b) w2 hs (by simp at hsl ⊢;omega);rw [←Fb ha hb] at c3;have C3:=ae c3;clear hf hs C2 c3 J1;go_wp2_with fail;refine (aa C3).mono ?_;rintro e w3 ⟨v3,rfl,hf,hs⟩;have J1:=ae (nR.push (s':=⟨at_+1,tup,(nG a b)::st⟩) (aa J2) hf (by simpa using hs) (aa HJ).tup (fun x hx=>by rcases List.mem_cons.1 hx with rfl|hx;(· exact AR ha);exact aa HB x (List.mem_cons_of_mem _ (List.mem_cons_of_mem _ hx))));clear hf hs;go_wp2
    go_step3
    exact ⟨rfl,r,by omega,_,_,_,_,aa HIT,rfl,rfl,aa J1⟩
   ·rename_i b st;simp only [Option.some.injEq] at hst;subst hst;obtain ⟨sa,sc,rfl⟩:=ak (aa HJ).sk.row;have C:=ae (ER w.heap.size (w.heap.size+2) _ st.reverse b _ (by simpa using (aa HJ).sk.below (aa BA)) (by simp at hsl ⊢;omega))
    by_cases hb0:b=0
    ·have hq:((b:Int)==0)=true:=by rw [hb0];rfl
     have J1:=ae (nR.same (s':=⟨if b=0 then to else at_+1,tup,b::st⟩) ((aa HJ).below (aa BA)) rfl (aa HJ).tup);rw [if_pos hb0] at HIT J1;clear hb0;unfold Db;go_wp2_with fail;refine (aa C).mono ?_;rintro e w1 ⟨rfl,rfl⟩;go_wp2
     go_step3
     exact ⟨rfl,r,by omega,_,_,_,_,aa HIT,rfl,rfl,aa J1⟩
    ·have hq:((b:Int)==0)=false:=by simpa using hb0
     have J1:=ae (nR.same (s':=⟨if b=0 then to else at_+1,tup,b::st⟩) ((aa HJ).below (aa BA)) rfl (aa HJ).tup);rw [if_neg hb0] at HIT J1;clear hb0;unfold Db;go_wp2_with fail;refine (aa C).mono ?_;rintro e w1 ⟨rfl,rfl⟩;go_wp2
     go_step3
     exact ⟨rfl,r,by omega,_,_,_,_,aa HIT,rfl,rfl,aa J1⟩
   ·simp only [Option.some.injEq] at hst;subst hst;have J1:=ae (nR.same (s':=⟨to,tup,st⟩) ((aa HJ).below (aa BA)) rfl (aa HJ).tup);unfold Db;go_wp2
    go_step3
    exact ⟨rfl,r,by omega,_,_,_,_,aa HIT,rfl,rfl,aa J1⟩
   ·cases hst
 case first=>
  intro pass;go_wp2
  go_step3
  obtain ⟨N,hN⟩:=hg;rename_i K hK;refine hK _ _ (pass N _ _ ⟨⟨0,0,[]⟩,.slice none 0 0,_,_,hN,?_,rfl,?_⟩)
  ·rfl
  have b1:=(Below.refl w.heap.size w).alloc Qv (.cells #[.slice ca cn cc,.slice ha hn hc,.map (some mb)] 189);have b2:=b1.alloc (by simp) (.cells #[.string v.kd,.string v.id,.slice ta tn tc] 282);refine ⟨b2.alloc (by simp;omega) _,((ag.new w _ _).alloc _).alloc _,(ag.new' _ _ _ _ (by simp)).alloc _,⟨ag.new' _ _ _ _ (by simp),World.ownsRow_nil _ _ _ _,by omega⟩,Nat.zero_le _,fun x hx=>by cases hx⟩
def oo (kb:Sj→Bool) (who:Tg) (s:Sj):Bool:=if s.rel.size=0 then jQ s who else kb s
def De (kb:Sj→Bool) (s:Sj) (rel:Qx):Bool:=if s.rel.size=0 then kb ⟨s.kind,s.id,rel⟩ else false
def bY (kb:Sj→Bool) (who:Tg) (kd id:Qx) (ts:List Tu) (rel:Qx):Ex→Bool
 |⟨n,some x,some y⟩=>if n.kind=3 then bY kb who kd id ts rel x||bY kb who kd id ts rel y else if n.kind=4 then bY kb who kd id ts rel x&&bY kb who kd id ts rel y else bY kb who kd id ts rel x&& !bY kb who kd id ts rel y
 |⟨n,none,_⟩=>if n.kind=0 then ts.any (fun t=>decide (t.rel=rel)&&oo kb who (fB t)) else if n.kind=1 then kb ⟨kd,id,n.n1⟩ else ts.any (fun t=>decide (t.rel=n.n1)&&De kb (fB t) n.n2)
 |⟨_,some _,none⟩=>false
theorem qN (p:Tg→Bool) (cs:List Tg) (i:Nat):∀j,(dm p cs j).testBit i=(decide (i<j)&&match cs[i]? with|some t=>p t|none=>false)
 |0=>by simp [dm]
 |j+1=>by
  have ih:=qN p cs i j;rw [dm]
  by_cases e:i=j
  ·subst e
   cases hc:cs[i]? with
   |none=>rw [hc] at ih;simpa using ih
   |some t=>
    rw [hc] at ih;simp only
    by_cases hp:p t=true
    ·rw [if_pos hp,Nat.testBit_or,Nat.testBit_two_pow_self];simp [hp]
    ·rw [if_neg hp,ih];simp [hp]
  ·have h1:decide (i<j+1)=decide (i<j):=by rw [decide_eq_decide];omega
   rw [h1,←ih]
   split
   ·split
    ·rw [Nat.testBit_or,Nat.testBit_two_pow_of_ne (by omega),Bool.or_false]
    ·rfl
   ·rfl
theorem Ff {a b i:Nat} (hb:b<18446744073709551616) (hi:i<64):(nG a b).testBit i=(a.testBit i&& !b.testBit i):=by
 unfold nG;rw [Nat.testBit_and,show 18446744073709551615-b=2 ^ 64-(b+1) by omega,Nat.testBit_two_pow_sub_succ hb];simp [hi]
theorem jq (r:Qx) (f:Tu→Nat) (i:Nat):∀(ts:List Tu) (a:Nat),(gy ts r f a).testBit i=(a.testBit i||ts.any fun t=>decide (t.rel=r)&&(f t).testBit i)
 | [],a=>by simp [gy]
 |t::ts,a=>by
  unfold gy
  by_cases h:t.rel=r
  ·rw [List.filter_cons_of_pos (by simpa using h),List.foldl_cons];have:=jq r f i ts (f t|||a);unfold gy at this;rw [this,Nat.testBit_or,List.any_cons]
   cases a.testBit i<;>cases (f t).testBit i<;>simp [h]
  ·rw [List.filter_cons_of_neg (by simpa using h)];have:=jq r f i ts a;unfold gy at this;rw [this,List.any_cons];simp [h]
theorem pJ (r:Qx) (f:Tu→Nat) (hf:∀t,f t<18446744073709551616):∀(ts:List Tu) (a:Nat),a<18446744073709551616→gy ts r f a<18446744073709551616
 | [],a,ha=>by simpa [gy] using ha
 |t::ts,a,ha=>by
  unfold gy
  by_cases h:t.rel=r
  ·rw [List.filter_cons_of_pos (by simpa using h),List.foldl_cons];exact pJ r f hf ts (f t|||a) (Nat.or_lt_two_pow (n:=64) (hf t) ha)
  ·rw [List.filter_cons_of_neg (by simpa using h)];exact pJ r f hf ts a ha
theorem uR (v:sW) (hK:∀s,v.K s<18446744073709551616) (hc:v.cs.length≤64) (rel:Qx):∀e,bO v rel e<18446744073709551616
 |⟨n,some x,some y⟩=>by
  have hx:=uR v hK hc rel x;have hy:=uR v hK hc rel y;unfold bO
  split
  ·exact Nat.or_lt_two_pow (n:=64) hy hx
  ·split
   ·decide
   ·split
    ·exact Nat.and_lt_two_pow (n:=64) _ hx
    ·exact AR hx
 |⟨n,none,r⟩=>by
  unfold bO
  split
  ·exact pJ _ _ (fun t=>xh hK hc _) _ _ (by decide)
  ·split
   ·exact hK _
   ·exact pJ _ _ (fun t=>Fa hK _ _) _ _ (by decide)
 |⟨_,some _,none⟩=>by
  unfold bO
  decide
theorem kE (v:sW) (hK:∀s,v.K s<18446744073709551616) (hc:v.cs.length≤64) {i:Nat} {who:Tg} (hw:v.cs[i]? =some who) (rel:Qx):∀e,(bO v rel e).testBit i=bY (fun s=>(v.K s).testBit i) who v.kd v.id v.ts rel e
 |⟨n,some x,some y⟩=>by
  have hx:=kE v hK hc hw rel x;have hy:=kE v hK hc hw rel y;have hi:=(List.getElem?_eq_some_iff.1 hw).1;unfold bO bY
  split
  ·rw [Nat.testBit_or,hx,hy,Bool.or_comm]
  ·split
   ·rename_i h0;rw [←hx,←hy,h0];simp
   ·split
    ·rw [Nat.testBit_and,hx,hy,Bool.and_comm]
    ·rw [Ff (uR v hK hc rel y) (by omega),hx,hy]
 |⟨n,none,r⟩=>by
  have hi:=(List.getElem?_eq_some_iff.1 hw).1;unfold bO bY;have hm:∀t,(gI v.K v.cs (fB t)).testBit i=oo (fun s=>(v.K s).testBit i) who (fB t):=fun t=>by
   unfold gI oo
   split
   ·rw [qN,hw];simp [hi]
   ·rfl
  have hb:∀t,(pg v.K (fB t) n.n2).testBit i=De (fun s=>(v.K s).testBit i) (fB t) n.n2:=fun t=>by
   unfold pg De
   split
   ·rfl
   ·simp
  split
  ·rw [jq];simp [hm]
  ·split
   ·rfl
   ·rw [jq];simp [hb]
 |⟨_,some _,none⟩=>by
  unfold bO bY;simp
def gK (kp kn:Sj→Bool) (who:Tg) (kd id:Qx) (ts:List Tu) (rel:Qx):Ex→Bool
 |⟨n,some x,some y⟩=>if n.kind=3 then gK kp kn who kd id ts rel x||gK kp kn who kd id ts rel y else if n.kind=4 then gK kp kn who kd id ts rel x&&gK kp kn who kd id ts rel y else gK kp kn who kd id ts rel x&& !bY kn who kd id ts rel y
 |e=>bY kp who kd id ts rel e
theorem mD (k:Sj→Bool) (who:Tg) (kd id:Qx) (ts:List Tu) (rel:Qx):∀e,gK k k who kd id ts rel e=bY k who kd id ts rel e
 |⟨n,some x,some y⟩=>by
  rw [gK,bY,mD k who kd id ts rel x,mD k who kd id ts rel y]
 |⟨n,none,r⟩=>by rw [gK];intro a b c h;cases h
 |⟨n,some x,none⟩=>by rw [gK];intro a b c h;cases h
def AU (kd id:Qx) (ts:List Tu) (rel:Qx):Ex→Sj→Prop
 |⟨_,some x,some y⟩,s=>AU kd id ts rel x s∨AU kd id ts rel y s
 |⟨n,none,_⟩,s=>(n.kind=0∧∃t∈ts,t.rel=rel∧¬t.of.size=0∧s=fB t)∨(n.kind=1∧s=⟨kd,id,n.n1⟩)∨(¬n.kind=0∧¬n.kind=1∧∃t∈ts,t.rel=n.n1∧t.of.size=0∧s=⟨t.sub,t.who,n.n2⟩)
 |⟨_,some _,none⟩,_=>False
def DY (kd id:Qx) (ts:List Tu) (rel:Qx):Ex→Sj→Prop
 |⟨n,some x,some y⟩,s=>DY kd id ts rel x s∨(if n.kind=3∨n.kind=4 then DY kd id ts rel y s else AU kd id ts rel y s)
 |_,_=>False
section
variable {kp KY kn kn':Sj→Bool} {who:Tg} {kd id:Qx} {ts:List Tu} {rel:Qx}
theorem oq {α:Type} {f g:α→Bool}:∀{l:List α},(∀x∈l,f x=g x)→l.any f=l.any g
 | [],_=>rfl
 |x::l,h=>by rw [List.any_cons,List.any_cons,h x (by simp),oq (fun y hy=>h y (by simp [hy]))]
theorem gz:∀e,(∀s,AU kd id ts rel e s→kp s=KY s)→bY kp who kd id ts rel e=bY KY who kd id ts rel e
 |⟨n,some x,some y⟩,h=>by
  rw [bY,bY,gz x (fun s hs=>h s (by rw [AU];exact .inl hs)),gz y (fun s hs=>h s (by rw [AU];exact .inr hs))]
 |⟨n,none,r⟩,h=>by
  rw [bY,bY]
  split
  ·rename_i h0;refine oq (fun t ht=> ?_)
   by_cases hr:t.rel=rel
   ·unfold oo
    split
    ·rfl
    ·rename_i h2;rw [h (fB t) (by rw [AU];exact .inl ⟨h0,t,ht,hr,h2,rfl⟩)]
   ·simp [hr]
  ·rename_i h0
   split
   ·rename_i h1;exact h _ (by rw [AU];exact .inr (.inl ⟨h1,rfl⟩))
   ·rename_i h1;refine oq (fun t ht=> ?_)
    by_cases hr:t.rel=n.n1
    ·unfold De
     split
     ·rename_i h2;rw [h ⟨(fB t).kind,(fB t).id,n.n2⟩ (by rw [AU];exact .inr (.inr ⟨h0,h1,t,ht,hr,h2,rfl⟩))]
     ·rfl
    ·simp [hr]
 |⟨n,some x,none⟩,h=>by rw [bY,bY]
theorem iO:∀e,(∀s,AU kd id ts rel e s→kp s=KY s)→(∀s,DY kd id ts rel e s→kn s=kn' s)→gK kp kn who kd id ts rel e=gK KY kn' who kd id ts rel e
 |⟨n,some x,some y⟩,h,g=>by
  have hx:=iO x (fun s hs=>h s (by rw [AU];exact .inl hs)) (fun s hs=>g s (by rw [DY];exact .inl hs));rw [gK,gK,hx]
  by_cases h3:n.kind=3
  ·rw [if_pos h3,if_pos h3,iO y (fun s hs=>h s (by rw [AU];exact .inr hs)) (fun s hs=>g s (by rw [DY,if_pos (.inl h3)];exact .inr hs))]
  ·rw [if_neg h3,if_neg h3]
   by_cases h4:n.kind=4
   ·rw [if_pos h4,if_pos h4,iO y (fun s hs=>h s (by rw [AU];exact .inr hs)) (fun s hs=>g s (by rw [DY,if_pos (.inr h4)];exact .inr hs))]
   ·rw [if_neg h4,if_neg h4,gz y (fun s hs=>g s (by rw [DY,if_neg (by omega)];exact .inr hs))]
 |⟨n,none,r⟩,h,g=>gz _ h
 |⟨n,some x,none⟩,h,g=>gz _ h
theorem xk {α:Type} {f g:α→Bool} {l:List α} (h:∀x,f x=true→g x=true) (hf:l.any f=true):l.any g=true:=by
 rw [List.any_eq_true] at hf ⊢;obtain ⟨x,hx,hy⟩:=hf;exact ⟨x,hx,h x hy⟩
theorem mF (hk:∀s,kp s=true→KY s=true):∀e,gK kp kn who kd id ts rel e=true→gK KY kn who kd id ts rel e=true
 |⟨n,some x,some y⟩,h=>by
  have hx:=mF hk x;have hy:=mF hk y;rw [gK] at h ⊢
  by_cases h3:n.kind=3
  ·rw [if_pos h3] at h ⊢;rw [Bool.or_eq_true] at h ⊢;exact h.imp hx hy
  ·rw [if_neg h3] at h ⊢
   by_cases h4:n.kind=4
   ·rw [if_pos h4] at h ⊢;rw [Bool.and_eq_true] at h ⊢;exact ⟨hx h.1,hy h.2⟩
   ·rw [if_neg h4] at h ⊢;rw [Bool.and_eq_true] at h ⊢;exact ⟨hx h.1,h.2⟩
 |⟨n,none,r⟩,h=>by
  change bY kp who kd id ts rel _=true at h;change bY KY who kd id ts rel _=true;rw [bY] at h ⊢
  split
  ·rename_i h0;rw [if_pos h0] at h;refine xk (fun t ht=> ?_) h;rw [Bool.and_eq_true] at ht ⊢;refine ⟨ht.1,?_⟩;have:=ht.2;unfold oo at this ⊢
   split
   ·rename_i h2;rw [if_pos h2] at this;exact this
   ·rename_i h2;rw [if_neg h2] at this;exact hk _ this
  ·rename_i h0;rw [if_neg h0] at h
   split
   ·rename_i h1;rw [if_pos h1] at h;exact hk _ h
   ·rename_i h1;rw [if_neg h1] at h;refine xk (fun t ht=> ?_) h;rw [Bool.and_eq_true] at ht ⊢;refine ⟨ht.1,?_⟩;have:=ht.2;unfold De at this ⊢
    split
    ·rename_i h2;rw [if_pos h2] at this;exact hk _ this
    ·rename_i h2;rw [if_neg h2] at this;exact this
 |⟨n,some x,none⟩,h=>by
  change bY kp who kd id ts rel _=true at h;rw [bY] at h
  cases h
end
def ou (a b:Nat):Prop:=∀i,a.testBit i=true→b.testBit i=true
def pop (a:Nat):Nat:=(List.range 64).countP fun i=>a.testBit i
theorem ow {α:Type} {p q:α→Bool} (h:∀x,p x=true→q x=true):∀l:List α,l.countP p≤l.countP q
 | []=>by simp
 |x::l=>by
  have ih:=ow h l;rw [List.countP_cons,List.countP_cons]
  by_cases hp:p x=true
  ·simp [hp,h x hp,ih]
  ·simp only [Bool.not_eq_true] at hp;rw [hp];simp;omega
theorem tq {α:Type} {p q:α→Bool} (h:∀x,p x=true→q x=true):∀(l:List α) (x:α),x∈l→q x=true→p x=false→l.countP p<l.countP q
 | [],x,hx,_,_=>by cases hx
 |y::l,x,hx,hq,hp=>by
  rw [List.countP_cons,List.countP_cons]
  rcases List.mem_cons.1 hx with rfl|hx
  ·have:=ow h l;rw [hp,hq];simp;omega
  ·have:=tq h l x hx hq hp
   by_cases hy:p y=true
   ·simp [hy,h y hy,this]
   ·simp only [Bool.not_eq_true] at hy;rw [hy];simp;omega
theorem KZ (a:Nat):pop a≤64:=by
 have:=List.countP_le_length (p:=fun i=>a.testBit i) (l:=List.range 64)
 simpa [pop] using this
theorem K4 {a b:Nat} (hb:b<18446744073709551616) (h:ou a b) (hne:a≠b):pop a<pop b:=by
 have:∃i,b.testBit i=true∧a.testBit i=false:=by
  apply Classical.byContradiction;intro hn;apply hne;apply Nat.eq_of_testBit_eq;intro i
  cases ha:a.testBit i with
  |true=>rw [h i ha]
  |false=>
   cases hb:b.testBit i with
   |false=>rfl
   |true=>exact absurd ⟨i,hb,ha⟩ hn
 obtain ⟨i,h1,h2⟩:=this;have hi:i<64:=by
  apply Classical.byContradiction;intro hn;rw [Nat.testBit_lt_two_pow (Nat.lt_of_lt_of_le hb (Nat.pow_le_pow_right (n:=2) (by omega) (show 64≤i by omega)))] at h1
  cases h1
 exact tq (fun x hx=>h x hx) _ i (List.mem_range.2 hi) h1 h2
theorem xm {a b:Nat} (h:ou a b):pop a≤pop b:=ow (fun x hx=>h x hx) _
def gB (l:List Sj) (K:Sj→Nat):Nat:=(l.map fun s=>64-pop (K s)).sum
theorem AV {K K':Sj→Nat} (h:∀s,ou (K s) (K' s)):∀l,gB l K'≤gB l K
 | []=>by simp [gB]
 |s::l=>by
  have ih:=AV h l;have:=xm (h s);unfold gB at ih ⊢;rw [List.map_cons,List.map_cons,List.sum_cons,List.sum_cons];omega
theorem AX {K K':Sj→Nat} (h:∀s,ou (K s) (K' s)) {s:Sj} (hb:K' s<18446744073709551616) (hne:K s≠K' s):∀l,s∈l→gB l K'<gB l K
 | [],hs=>by cases hs
 |t::l,hs=>by
  unfold gB;rw [List.map_cons,List.map_cons,List.sum_cons,List.sum_cons]
  rcases List.mem_cons.1 hs with rfl|hs
  ·have h1:=AV h l;have h2:=K4 hb (h s) hne;have h3:=KZ (K' s);unfold gB at h1;omega
  ·have h1:=AX h hb hne l hs;have h2:=xm (h t);unfold gB at h1;omega
theorem tu (K:Sj→Nat):∀l,gB l K≤64*l.length
 | []=>by simp [gB]
 |s::l=>by
  have:=tu K l;unfold gB at this ⊢;rw [List.map_cons,List.sum_cons,List.length_cons];omega
