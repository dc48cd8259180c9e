import Derived.Test.YtlbpnlngckgcbaaGreatDoorM21
import Derived.ScopeJumps
import Derived.WalkMore
set_option linter.all false
set_option maxHeartbeats 4000000
set_option maxRecDepth 100000
namespace Go.Proofs.YtlbpnlngckgcbaaGreatDoor
open Go.RowKit Go.PlainAid
theorem nP {P:Nat→Prop} (h:∃r,P r):∃r,P r∧∀r',r'<r→¬P r':=by
 obtain ⟨r,hr⟩:=h
 induction r using Nat.strongRecOn with
 |_ r ih=>
  by_cases h:∃r',r'<r∧P r'
  ·obtain ⟨r',h1,h2⟩:=h;exact ih r' h1 h2
  ·exact ⟨r,hr,fun r' h1 h2=>h ⟨r',h1,h2⟩⟩
open Classical in
theorem xZ {P:Program} {a:Act} {w:World} {Q:Exit→Act→World→Prop} {c rest:Code} (l:Nat) (J:Nat→Act→World→Prop) (hf:findLabel c l=some (.seq .skip rest))
  (pass:∀r a w,J r a w→rest.wp P (Exit.jump l (fun a' w'=>∃r',r'<r∧J r' a' w') Q) a w)
  (first:(∀r a w,J r a w→rest.wp P (Exit.jump l (fun a w=>∃r,J r a w) Q) a w)→c.wp P (Exit.jump l (fun a w=>∃r,J r a w) Q) a w):(Code.scope c).wp P Q a w:=by
 refine wp_scope_jumps l (fun a w=>∃r,J r a w) (fun a w=>if h:∃r,J r a w then Classical.choose (nP h) else 0) hf (first fun r a w h=>wp_mono (pass r a w h) (fun e a' w' q=>by
  cases e<;>try exact q
  obtain ⟨h1,r',_,h3⟩:=q;exact ⟨h1,r',h3⟩)) ?_
 intro a w h;have hs:=Classical.choose_spec (nP h);refine wp_seq (wp_skip ?_);refine wp_mono (pass _ a w hs.1) (fun e a' w' q=> ?_)
 cases e<;>try exact q
 obtain ⟨h1,r',h2,h3⟩:=q;refine ⟨h1,⟨r',h3⟩,?_⟩;have h':∃r,J r a' w':=⟨r',h3⟩;rw [dif_pos h',dif_pos h];have hs':=Classical.choose_spec (nP h');have:¬r'<Classical.choose (nP h'):=fun e=>hs'.2 r' e h3
 omega
structure nX (w:World) (ca ha ta:Option Addr) (cn cc hn hc tn tc mb:Nat) (v:ui) (s:DK) (sv:Value) (wr:World):Prop where
 bel:Below w.heap.size w wr
 kn:ag wr w.heap.size #[.slice ca cn cc,.slice ha hn hc,.map (some mb)] 189
 ho:ag wr (w.heap.size+1) #[.string v.kd,.string v.id,.slice ta tn tc] 282
 sk:Dx w.heap.size wr (w.heap.size+2) sv s.st.reverse
 tup:s.tup≤v.ts.length
 bits:∀x∈s.st,x<18446744073709551616
theorem us94 (us:List Value) (h:us.length=94):∃u:Nat→Value,us=[u 0,u 1,u 2,u 3,u 4,u 5,u 6,u 7,u 8,u 9,u 10,u 11,u 12,u 13,u 14,u 15,u 16,u 17,u 18,u 19,u 20,u 21,u 22,u 23,u 24,u 25,u 26,u 27,u 28,u 29,u 30,u 31,u 32,u 33,u 34,u 35,u 36,u 37,u 38,u 39,u 40,u 41,u 42,u 43,u 44,u 45,u 46,u 47,u 48,u 49,u 50,u 51,u 52,u 53,u 54,u 55,u 56,u 57,u 58,u 59,u 60,u 61,u 62,u 63,u 64,u 65,u 66,u 67,u 68,u 69,u 70,u 71,u 72,u 73,u 74,u 75,u 76,u 77,u 78,u 79,u 80,u 81,u 82,u 83,u 84,u 85,u 86,u 87,u 88,u 89,u 90,u 91,u 92,u 93]:=by
 refine ⟨fun k=>us.getD k undef,?_⟩;have e:us=(List.range 94).map (fun k=>us.getD k undef):=by
  refine List.ext_getElem (by simp [h]) fun i h1 h2=> ?_
  simp [List.getD_eq_getElem?_getD,RI h1]
 generalize (fun k=>us.getD k undef)=u at*;rw [e]
 rfl
def DU (w:World) (ca ia ha ta:Option Addr) (cn cc il ic hn hc tn tc mb:Nat) (v:ui) (s:DK) (u4:Value) (us:List Value):Act:={tmps:=(.agg #[.slice ca cn cc,.slice ha hn hc,.map (some mb)]:: .slice ia il ic:: .agg #[.string v.kd,.string v.id,.slice ta tn tc]:: .pointer (some ⟨w.heap.size,0,none⟩)::u4:: .pointer (some ⟨w.heap.size+1,0,none⟩):: .int .u64 0:: .pointer (some ⟨w.heap.size+2,0,none⟩):: .int .i64 s.at_:: .int .i64 s.tup::us).toArray,defers:=[]}
theorem Dx.bel {base b:Nat} {sv qc:Value} {l:List Nat} {w w':World} (h:Dx base w b sv l) (k:kX b sv w w' qc):Below base w w':=by
 have hb:=h.blk.lt;have hl:=h.low;exact k.but.below (by omega) (fun g e=>by
  rcases e with e|e
  ·omega
  ·exact (h.row.lt g e).1)
section
variable {w wr wa w1:World} {ca ha ta:Option Addr} {cn cc hn hc tn tc mb:Nat} {v:ui} {s s':DK} {sv qc:Value}
theorem nX.below (J:nX w ca ha ta cn cc hn hc tn tc mb v s sv wr) (k:Below wr.heap.size wr wa):nX w ca ha ta cn cc hn hc tn tc mb v s sv wa:=
 ⟨J.bel.trans (k.mono J.bel.size),J.kn.below k,J.ho.below k,J.sk.below k,J.tup,J.bits⟩
theorem nX.push (J:nX w ca ha ta cn cc hn hc tn tc mb v s sv wa) (f:kX (w.heap.size+2) sv wa w1 qc) (hs:Dx w.heap.size w1 (w.heap.size+2) qc s'.st.reverse) (ht:s'.tup≤v.ts.length) (hb:∀x∈s'.st,x<18446744073709551616):nX w ca ha ta cn cc hn hc tn tc mb v s' qc w1:=
 ⟨J.bel.trans (J.sk.bel f),f.blk J.kn (by omega) (fun e=>own_ne J.sk.row J.kn (by decide) e.symm),f.blk J.ho (by omega) (fun e=>own_ne J.sk.row J.ho (by decide) e.symm),hs,ht,hb⟩
theorem nX.same (J:nX w ca ha ta cn cc hn hc tn tc mb v s sv wa) (hs:s'.st=s.st) (ht:s'.tup≤v.ts.length):nX w ca ha ta cn cc hn hc tn tc mb v s' sv wa:=
 ⟨J.bel,J.kn,J.ho,by rw [hs];exact J.sk,ht,by rw [hs];exact J.bits⟩
end
theorem wo.most {w:World} {x:Value} {cs:List Tg} (h:wo w x cs):cs.length≤64:=by
 obtain ⟨_,_,_,_,_,h,_⟩:=h;exact h
theorem x8 {K:Sj→Nat} {cs:List Tg} (hK:∀s,K s<18446744073709551616) (hc:cs.length≤64) (s:Sj):gU K cs s<18446744073709551616:=by
 unfold gU
 split
 ·exact oF _ _ _ hc
 ·exact hK s
theorem Gc {K:Sj→Nat} (hK:∀s,K s<18446744073709551616) (s:Sj) (rel:RJ):pX K s rel<18446744073709551616:=by
 unfold pX
 split
 ·exact hK _
 ·decide
theorem kY (n:Int):IntKind.i64.wrap n=(n+9223372036854775808) % 18446744073709551616-9223372036854775808:=by
 simp [IntKind.wrap,IntKind.bits,IntKind.signed]
 split<;>omega
theorem Gd {a b:Nat} (ha:a<18446744073709551616) (hb:b<18446744073709551616):bits .andNot .u64 (a:Int) (b:Int)=((nO a b:Nat):Int):=u64_andNot_nat a b ha hb
theorem Br {a b:Nat} (ha:a<18446744073709551616):nO a b<18446744073709551616:=Nat.lt_of_le_of_lt Nat.and_le_left ha
structure NA (w:World) (ca ia ha ta:Option Addr) (cn cc il ic hn hc tn tc mb n:Nat) (v:ui) (code:List Ins):Prop where
 kn:nW w mb n v.K
 cr:wo w (.slice ca cn cc) v.cs
 ln:w.ownsRow 0 298 3 (.slice ia il ic) code.length (code.flatMap xO)
 ho:Jz w (.slice ta tn tc) v.ts
 pos:0<v.ts.length
 bits:∀s,v.K s<18446744073709551616
 kd:v.kd.size≤maxLen
 id:v.id.size≤maxLen
 rel:∀i∈code,i.rel.size≤maxLen
 sub:∀t∈v.ts,lF (ed t)
 len:code.length≤100000
theorem DV (w:World) (ca ia ha ta:Option Addr) (cn cc il ic hn hc tn tc mb n:Nat) (v:ui) (code:List Ins) (h:NA w ca ia ha ta cn cc il ic hn hc tn tc mb n v code) (p res:Nat) (hg:Goes v code ⟨0,0,[]⟩ ⟨p,0,[res]⟩) (hp:code[p]? =some ⟨0,⟨#[]⟩,0⟩):
  Calls Tryz.prog 207 #[.agg #[.slice ca cn cc,.slice ha hn hc,.map (some mb)],.slice ia il ic,.agg #[.string v.kd,.string v.id,.slice ta tn tc]] w fun e w'=>e=.returned (.int .u64 res)∧Below w.heap.size w w':=by
 go_enter Tryz.func207,Tryz.ntmps207;go_wp2;refine xZ 0 (fun r a wr=>∃(s:DK) (sv u4:Value) (us:List Value),iF v code r s=some ⟨p,0,[res]⟩∧us.length=94∧a=DU w ca ia ha ta cn cc il ic hn hc tn tc mb v s u4 us∧nX w ca ha ta cn cc hn hc tn tc mb v s sv wr) rfl ?pass ?first
 case pass=>
  rintro r a wr ⟨s,sv,u4,us,hit,hus,rfl,J⟩;obtain ⟨u,rfl⟩:=us94 us hus;obtain ⟨i,hi⟩:∃i,code[s.at_]? =some i:=by
   cases r with
   |zero=>simp only [iF,Option.some.injEq] at hit;subst hit;exact ⟨_,hp⟩
   |succ r=>
    rw [iF,xX] at hit
    cases hc:code[s.at_]? with
    |none=>rw [hc] at hit;simp at hit
    |some i=>exact ⟨i,rfl⟩
  obtain ⟨ig,ic',e1,hc⟩:=aU xO 3 (fun _=>rfl) (aF h.ln J.bel) s.at_ i hi;simp only [Value.slice.injEq] at e1;obtain ⟨rfl,rfl,rfl⟩:=e1;have hat:=(List.getElem?_eq_some_iff.1 hi).1;have k0:wr.cell? ⟨ig,s.at_*3,none⟩=some (.int .i64 i.does):=hc 0 _ (by omega) rfl;have k1:=hc 1 _ (by omega) rfl;have k2:=hc 2 _ (by omega) rfl;have hlen:=h.len;have hatn:(s.at_:Int)<(code.length:Int):=by omega
  have hatb:s.at_<100000:=by omega
  have hwr:=J.bel.size;have HJ:=ae J;have H:=ae h;have HI:=ae hi;have HP:=ae hp;have HIT:=ae hit;have ba:=(Below.refl wr.heap.size wr).alloc RH (.cells #[.int .i64 i.does,.string i.rel,.int .i64 i.to] 298);have BA:=ae ba;clear hc J h hi hp hit ba
  cases r with
  |zero=>
   have hit:=aa HIT;simp only [iF,Option.some.injEq] at hit;subst hit;have hi2:=aa HI;rw [aa HP] at hi2;simp only [Option.some.injEq] at hi2;subst hi2;dsimp only at*;have C:=ae (fZ w.heap.size (w.heap.size+2) sv [] res _ (show Dx w.heap.size _ _ sv ([]++[res]) from (aa HJ).sk.below (aa BA)) (by simp));unfold DU;go_wp2_with fail;refine (aa C).mono ?_;rintro e w1 ⟨v',rfl,hf,hs⟩;have B1:=ae hf;clear hf hs;go_wp2;simp only [Exit.jump];go_ret;refine ⟨rfl,?_⟩;exact (((aa HJ).below (aa BA)).bel.trans (((aa HJ).below (aa BA)).sk.bel (aa B1)))
  |succ r=>
   obtain ⟨s',hst,hit⟩:∃s',fq v i s=some s'∧iF v code r s'=some ⟨p,0,[res]⟩:=by
    have hit:=aa HIT;rw [iF,xX,aa HI,Option.bind_some] at hit
    cases hs:fq v i s with
    |none=>rw [hs] at hit;simp at hit
    |some s'=>rw [hs] at hit;exact ⟨s',rfl,hit⟩
   clear HIT;have HIT:=ae hit;clear hit;unfold fq at hst
   split at hst
   ·cases hst
   rename_i hsl;obtain ⟨d,rl,to⟩:=i;obtain ⟨at_,tup,st⟩:=s;dsimp only at*;obtain ⟨c0,c1,c2⟩:=three (aa HJ).kn;obtain ⟨d0,d1,d2⟩:=three (aa HJ).ho;have e0:wr.cell? ⟨w.heap.size+2,0,none⟩=some sv:=(aa HJ).sk.blk.cell rfl;have n3:=(aa HJ).sk.blk.lt;have n0:¬(w.heap.size=wr.heap.size):=by omega
   have n1:¬(w.heap.size+1=wr.heap.size):=by omega
   have n2:¬(w.heap.size+2=wr.heap.size):=by omega
   have HB:=ae (aa HJ).bits;have K0:=ae k0;have K1:=ae k1;have K2:=ae k2
   split at hst
   ·simp only [Option.some.injEq] at hst;subst hst;have C:=ae (iE w.heap.size (w.heap.size+2) sv st.reverse 0 _ ((aa HJ).sk.below (aa BA)) (by simp;omega));unfold DU;go_wp2_with fail;refine (aa C).mono ?_;rintro e w1 ⟨v',rfl,hf,hs⟩;have J1:=ae (nX.push (s':=⟨at_+1,tup,0::st⟩) ((aa HJ).below (aa BA)) hf (by simpa using hs) (aa HJ).tup (fun x hx=>by rcases List.mem_cons.1 hx with rfl|hx;(· decide);exact aa HB x hx));clear hf hs;go_wp2
    go_step3
    exact ⟨rfl,r,by omega,_,_,_,_,aa HIT,rfl,rfl,aa J1⟩
   ·simp only [Option.some.injEq] at hst;subst hst;have Gf:Below wr.heap.size wr (wr.alloc (.cells #[.int .i64 2,.string rl,.int .i64 to] 298)):=aa BA;have ja:=(aa HJ).below Gf;have hL:=((aa H).kn.block (ja.bel.block mb (aa H).kn.lt)).look (s:=⟨v.kd,v.id,rl⟩) ⟨(aa H).kd,(aa H).id,(aa H).rel _ (List.mem_of_getElem? (aa HI))⟩;have Mi:=(aa H).bits ⟨v.kd,v.id,rl⟩;unfold rW at hL;dsimp only at hL;obtain ⟨f0,f1,f2⟩:=three ja.kn;obtain ⟨g0,g1,g2⟩:=three ja.ho;have C:=ae (iE w.heap.size (w.heap.size+2) sv st.reverse (v.K ⟨v.kd,v.id,rl⟩) _ ja.sk (by simp;omega));clear Gf ja;unfold DU;go_wp2_with fail;refine (aa C).mono ?_;rintro e w1 ⟨v',rfl,hf,hs⟩;have J1:=ae (nX.push (s':=⟨at_+1,tup,v.K ⟨v.kd,v.id,rl⟩::st⟩) ((aa HJ).below (aa BA)) hf (by simpa using hs) (aa HJ).tup (fun x hx=>by rcases List.mem_cons.1 hx with rfl|hx;(· exact Mi);exact aa HB x hx));clear hf hs;go_wp2
    go_step3
    exact ⟨rfl,r,by omega,_,_,_,_,aa HIT,rfl,rfl,aa J1⟩
   ·simp only [Option.some.injEq] at hst;subst hst;have Gf:Below wr.heap.size wr (wr.alloc (.cells #[.int .i64 3,.string rl,.int .i64 to] 298)):=aa BA;have ja:=(aa HJ).below Gf;obtain ⟨g0,g1,g2⟩:=three ja.ho;have nb:=ag.new wr #[.int .i64 3,.string rl,.int .i64 to] 298;have C:=ae (FX v.kd v.id rl (.slice ta tn tc) v.ts tup _ ((aa H).ho.below ja.bel) (aa H).pos (aa HJ).tup);have JD:=Ga v.ts tup rl;generalize iX v.ts tup rl=m at*;have JA:=ae ja;have NB:=ae nb;clear ja nb Gf;unfold DU;go_wp2_with fail;refine (aa C).mono ?_;rintro e w1 ⟨rfl,hb1⟩;have ja:=aa JA;obtain ⟨q0,q1,q2⟩:=three ((aa NB).below hb1);clear NB JA C
    by_cases hm0:m=0
    ·have hq:((m:Int)==0)=true:=by rw [hm0];rfl
     have J1:=ae (nX.same (s':=⟨to,m,st⟩) (ja.below hb1) rfl JD);rw [if_pos hm0] at HIT;clear hm0 hb1 ja JD;go_wp2
     go_step3
     exact ⟨rfl,r,by omega,_,_,_,_,aa HIT,rfl,rfl,aa J1⟩
    ·have hq:((m:Int)==0)=false:=by simpa using hm0
     have J1:=ae (nX.same (s':=⟨at_+1,m,st⟩) (ja.below hb1) rfl JD);rw [if_neg hm0] at HIT;clear hm0 hb1 ja JD;go_wp2
     go_step3
     exact ⟨rfl,r,by omega,_,_,_,_,aa HIT,rfl,rfl,aa J1⟩
   ·split at hst
    ·rename_i hpos;obtain ⟨m,rfl⟩:∃m,tup=m+1:=⟨tup-1,by omega⟩;rw [show m+1-1=m by omega] at hst
     cases ht:v.ts[m]? with
     |none=>rw [ht] at hst;cases hst
     |some t=>
      rw [ht] at hst;simp only [Option.map_some,Option.some.injEq] at hst;subst hst;have Mj:=(aa H).sub t (List.mem_of_getElem? ht);obtain ⟨tg,tc',e2,hct⟩:=aU mH 6 (fun _=>rfl) (aa H).ho.row m t ht;simp only [Value.slice.injEq] at e2;obtain ⟨rfl,rfl,rfl⟩:=e2;have t3:=hct 3 _ (by omega) rfl;have t4:=hct 4 _ (by omega) rfl;have t5:=hct 5 _ (by omega) rfl;have hml:=(List.getElem?_eq_some_iff.1 ht).1;have OO:(m:Int)<(v.ts.length:Int):=by omega
      have hm0:(0:Int)≤(m:Int):=by omega
      have Bi:=(aa H).ho.most;have hw2:IntKind.i64.wrap (m:Int)=(m:Int):=by rw [kY];omega
      have hw1:IntKind.i64.wrap ((m:Int)+1-1)=(m:Int):=by rw [kY];omega
      have Gf:Below wr.heap.size wr (wr.alloc (.cells #[.int .i64 4,.string rl,.int .i64 to] 298)):=aa BA;have ja:=(aa HJ).below Gf;have NB:=ae (ag.new wr #[.int .i64 4,.string rl,.int .i64 to] 298);have hM:=x8 (aa H).bits (aa H).cr.most (ed t);have hrl:=(aa H).rel _ (List.mem_of_getElem? (aa HI));have HM:=ae (fun w' (k:Below w.heap.size w w')=>Dy _ v.cs ha hn hc mb n v.K (ed t) w' ((aa H).kn.block (k.block mb (aa H).kn.lt)) ((aa H).cr.below k) Mj);generalize hX:gU v.K v.cs (ed t)=X at*;have JA:=ae ja;have T3:=ae t3;have T4:=ae t4;have T5:=ae t5;have HTO:=ae Mj;have hup:=(aa HJ).tup;clear ja Gf hct ht Mj hX k0 k1 k2 c0 c1 c2 d0 d1 d2 e0;have k0:wr.cell? ⟨ig,at_*3,none⟩=some (.int .i64 4):=aa K0;have k1:wr.cell? ⟨ig,at_*3+1,none⟩=some (.string rl):=aa K1;have k2:wr.cell? ⟨ig,at_*3+2,none⟩=some (.int .i64 to):=aa K2;unfold DU;go_wp2_with fail;generalize (wr.alloc (.cells #[.int .i64 4,.string rl,.int .i64 to] 298))=WA at*;clear k0 k1 k2;obtain ⟨f0,f1,f2⟩:=three (aa JA).kn;obtain ⟨g0,g1,g2⟩:=three (aa JA).ho;obtain ⟨i0,i1,i2⟩:=three (aa NB);have z3:=af (aa T3) (aa JA).bel;have z4:=af (aa T4) (aa JA).bel;have z5:=af (aa T5) (aa JA).bel;have hlw:=(aa JA).bel.size;have D:=ae (aa HM WA.drew (aa JA).bel.drew)
      go_region_held3 (fun w'=>w'.cell? ⟨w.heap.size,0,none⟩=some (.slice ca cn cc)∧w'.cell? ⟨w.heap.size,1,none⟩=some (.slice ha hn hc)∧w'.cell? ⟨w.heap.size,2,none⟩=some (.map (some mb))∧w'.cell? ⟨w.heap.size+1,2,none⟩=some (.slice (some ⟨tg,0,none⟩) v.ts.length tc)∧w'.cell? ⟨tg,m*6+3,none⟩=some (.string t.sub)∧w'.cell? ⟨tg,m*6+4,none⟩=some (.string t.who)∧w'.cell? ⟨tg,m*6+5,none⟩=some (.string t.of)∧w'.cell? ⟨wr.heap.size,1,none⟩=some (.string rl)) (go_keep)
       (first
       |(go_at_call 243;refine (aa D).mono ?_;rintro e w2 ⟨rfl,hb2⟩;have BB:=ae (show Below WA.heap.size WA w2 from (Below.refl _ WA).drew.trans hb2);have q0:=af f0 (aa BB);have q1:=af f1 (aa BB);have q2:=af f2 (aa BB);have q3:=af g2 (aa BB);have q4:=af z3 (aa BB);have q5:=af z4 (aa BB);have q6:=af z5 (aa BB);have q7:=af i1 (aa BB);clear hb2)
       |(go_at_call 241;refine (iE w.heap.size (w.heap.size+2) sv st.reverse X _ ((aa JA).below (aa BB)).sk (by simp;omega)).mono ?_;rintro e w3 ⟨v',rfl,hf,hs⟩;have jb:=(aa JA).below (aa BB);have j3:=nX.push (s':=⟨at_+1,m+1,X::st⟩) jb hf (by simpa using hs) hup (fun x hx=>by rcases List.mem_cons.1 hx with rfl|hx;(· exact hM);exact aa HB x hx);have nb:=(aa NB).below (aa BB);have OU:=hf.blk nb (by omega) (fun e=>own_ne jb.sk.row nb (by decide) e.symm);obtain ⟨p0,p1,p2⟩:=three j3.kn;have p3:=(three j3.ho).2.2;have p4:=af (aa T3) j3.bel;have p5:=af (aa T4) j3.bel;have p6:=af (aa T5) j3.bel;have p7:=(three OU).2.1;have J1:=ae j3;clear hf hs jb j3 nb OU))
      all_goals (
       go_wp2
       go_step3
       exact ⟨rfl,r,by omega,_,_,_,_,aa HIT,rfl,rfl,aa J1⟩)
    ·cases hst
   ·split at hst
    ·rename_i hpos;obtain ⟨m,rfl⟩:∃m,tup=m+1:=⟨tup-1,by omega⟩;rw [show m+1-1=m by omega] at hst
     cases ht:v.ts[m]? with
     |none=>rw [ht] at hst;cases hst
     |some t=>
      rw [ht] at hst;simp only [Option.map_some,Option.some.injEq] at hst;subst hst;have Mj:=(aa H).sub t (List.mem_of_getElem? ht);obtain ⟨tg,tc',e2,hct⟩:=aU mH 6 (fun _=>rfl) (aa H).ho.row m t ht;simp only [Value.slice.injEq] at e2;obtain ⟨rfl,rfl,rfl⟩:=e2;have t3:=hct 3 _ (by omega) rfl;have t4:=hct 4 _ (by omega) rfl;have t5:=hct 5 _ (by omega) rfl;have hml:=(List.getElem?_eq_some_iff.1 ht).1;have OO:(m:Int)<(v.ts.length:Int):=by omega
      have hm0:(0:Int)≤(m:Int):=by omega
      have Bi:=(aa H).ho.most;have hw2:IntKind.i64.wrap (m:Int)=(m:Int):=by rw [kY];omega
      have hw1:IntKind.i64.wrap ((m:Int)+1-1)=(m:Int):=by rw [kY];omega
      have Gf:Below wr.heap.size wr (wr.alloc (.cells #[.int .i64 5,.string rl,.int .i64 to] 298)):=aa BA;have ja:=(aa HJ).below Gf;have NB:=ae (ag.new wr #[.int .i64 5,.string rl,.int .i64 to] 298);have hM:=Gc (aa H).bits (ed t) rl;have hrl:=(aa H).rel _ (List.mem_of_getElem? (aa HI));have HM:=ae (fun w' (k:Below w.heap.size w w')=>Ao ca ha cn cc hn hc mb n v.K (ed t) rl w' ((aa H).kn.block (k.block mb (aa H).kn.lt)) Mj hrl);generalize hX:pX v.K (ed t) rl=X at*;have JA:=ae ja;have T3:=ae t3;have T4:=ae t4;have T5:=ae t5;have HTO:=ae Mj;have hup:=(aa HJ).tup;clear ja Gf hct ht Mj hX k0 k1 k2 c0 c1 c2 d0 d1 d2 e0;have k0:wr.cell? ⟨ig,at_*3,none⟩=some (.int .i64 5):=aa K0;have k1:wr.cell? ⟨ig,at_*3+1,none⟩=some (.string rl):=aa K1;have k2:wr.cell? ⟨ig,at_*3+2,none⟩=some (.int .i64 to):=aa K2;unfold DU;go_wp2_with fail;generalize (wr.alloc (.cells #[.int .i64 5,.string rl,.int .i64 to] 298))=WA at*;clear k0 k1 k2;obtain ⟨f0,f1,f2⟩:=three (aa JA).kn;obtain ⟨g0,g1,g2⟩:=three (aa JA).ho;obtain ⟨i0,i1,i2⟩:=three (aa NB);have z3:=af (aa T3) (aa JA).bel;have z4:=af (aa T4) (aa JA).bel;have z5:=af (aa T5) (aa JA).bel;have hlw:=(aa JA).bel.size;have D:=ae (aa HM WA.drew (aa JA).bel.drew)
      go_region_held3 (fun w'=>w'.cell? ⟨w.heap.size,0,none⟩=some (.slice ca cn cc)∧w'.cell? ⟨w.heap.size,1,none⟩=some (.slice ha hn hc)∧w'.cell? ⟨w.heap.size,2,none⟩=some (.map (some mb))∧w'.cell? ⟨w.heap.size+1,2,none⟩=some (.slice (some ⟨tg,0,none⟩) v.ts.length tc)∧w'.cell? ⟨tg,m*6+3,none⟩=some (.string t.sub)∧w'.cell? ⟨tg,m*6+4,none⟩=some (.string t.who)∧w'.cell? ⟨tg,m*6+5,none⟩=some (.string t.of)∧w'.cell? ⟨wr.heap.size,1,none⟩=some (.string rl)) (go_keep)
       (first
       |(go_at_call 244;refine (aa D).mono ?_;rintro e w2 ⟨rfl,hb2⟩;have BB:=ae (show Below WA.heap.size WA w2 from (Below.refl _ WA).drew.trans hb2);have q0:=af f0 (aa BB);have q1:=af f1 (aa BB);have q2:=af f2 (aa BB);have q3:=af g2 (aa BB);have q4:=af z3 (aa BB);have q5:=af z4 (aa BB);have q6:=af z5 (aa BB);have q7:=af i1 (aa BB);clear hb2)
       |(go_at_call 241;refine (iE w.heap.size (w.heap.size+2) sv st.reverse X _ ((aa JA).below (aa BB)).sk (by simp;omega)).mono ?_;rintro e w3 ⟨v',rfl,hf,hs⟩;have jb:=(aa JA).below (aa BB);have j3:=nX.push (s':=⟨at_+1,m+1,X::st⟩) jb hf (by simpa using hs) hup (fun x hx=>by rcases List.mem_cons.1 hx with rfl|hx;(· exact hM);exact aa HB x hx);have nb:=(aa NB).below (aa BB);have OU:=hf.blk nb (by omega) (fun e=>own_ne jb.sk.row nb (by decide) e.symm);obtain ⟨p0,p1,p2⟩:=three j3.kn;have p3:=(three j3.ho).2.2;have p4:=af (aa T3) j3.bel;have p5:=af (aa T4) j3.bel;have p6:=af (aa T5) j3.bel;have p7:=(three OU).2.1;have J1:=ae j3;clear hf hs jb j3 nb OU))
      all_goals (
       go_wp2
       go_step3
       exact ⟨rfl,r,by omega,_,_,_,_,aa HIT,rfl,rfl,aa J1⟩)
    ·cases hst
   ·rename_i b a st;simp only [Option.some.injEq] at hst;subst hst;have hb:=aa HB b (by simp);have ha:=aa HB a (by simp);have C:=ae (fZ w.heap.size (w.heap.size+2) sv (st.reverse++[a]) b _ (by simpa using (aa HJ).sk.below (aa BA)) (by simp at hsl ⊢;omega));unfold DU;go_wp2_with fail;refine (aa C).mono ?_;rintro e w1 ⟨v1,rfl,hf,hs⟩;have J1:=ae (nX.push (s':=⟨at_+1,tup,a::st⟩) ((aa HJ).below (aa BA)) hf (by simpa using hs) (aa HJ).tup (fun x hx=>aa HB x (List.mem_cons_of_mem _ hx)));have C2:=ae (fZ w.heap.size (w.heap.size+2) v1 st.reverse a _ hs (by simp at hsl ⊢;omega));clear hf hs C;go_wp2_with fail;refine (aa C2).mono ?_;rintro e w2 ⟨v2,rfl,hf,hs⟩;have J2:=ae (nX.push (s':=⟨at_+1,tup,st⟩) (aa J1) hf hs (aa HJ).tup (fun x hx=>aa HB x (List.mem_cons_of_mem _ (List.mem_cons_of_mem _ hx))));have c3:=iE w.heap.size (w.heap.size+2) v2 st.reverse (b|||a) w2 hs (by simp at hsl ⊢;omega);rw [←u64_or_nat b a hb ha] at c3;have C3:=ae c3;clear hf hs C2 c3 J1;go_wp2_with fail;refine (aa C3).mono ?_;rintro e w3 ⟨v3,rfl,hf,hs⟩;have J1:=ae (nX.push (s':=⟨at_+1,tup,(b|||a)::st⟩) (aa J2) hf (by simpa using hs) (aa HJ).tup (fun x hx=>by rcases List.mem_cons.1 hx with rfl|hx;(· exact Nat.or_lt_two_pow (n:=64) hb ha);exact aa HB x (List.mem_cons_of_mem _ (List.mem_cons_of_mem _ hx))));clear hf hs;go_wp2
    go_step3
    exact ⟨rfl,r,by omega,_,_,_,_,aa HIT,rfl,rfl,aa J1⟩
   ·rename_i b a st;simp only [Option.some.injEq] at hst;subst hst;have hb:=aa HB b (by simp);have ha:=aa HB a (by simp);have C:=ae (fZ w.heap.size (w.heap.size+2) sv (st.reverse++[a]) b _ (by simpa using (aa HJ).sk.below (aa BA)) (by simp at hsl ⊢;omega));unfold DU;go_wp2_with fail;refine (aa C).mono ?_;rintro e w1 ⟨v1,rfl,hf,hs⟩;have J1:=ae (nX.push (s':=⟨at_+1,tup,a::st⟩) ((aa HJ).below (aa BA)) hf (by simpa using hs) (aa HJ).tup (fun x hx=>aa HB x (List.mem_cons_of_mem _ hx)));have C2:=ae (fZ w.heap.size (w.heap.size+2) v1 st.reverse a _ hs (by simp at hsl ⊢;omega));clear hf hs C;go_wp2_with fail;refine (aa C2).mono ?_;rintro e w2 ⟨v2,rfl,hf,hs⟩;have J2:=ae (nX.push (s':=⟨at_+1,tup,st⟩) (aa J1) hf hs (aa HJ).tup (fun x hx=>aa HB x (List.mem_cons_of_mem _ (List.mem_cons_of_mem _ hx))));have c3:=iE w.heap.size (w.heap.size+2) v2 st.reverse (b&&& a) w2 hs (by simp at hsl ⊢;omega);rw [←u64_and_nat b a hb ha] at c3;have C3:=ae c3;clear hf hs C2 c3 J1;go_wp2_with fail;refine (aa C3).mono ?_;rintro e w3 ⟨v3,rfl,hf,hs⟩;have J1:=ae (nX.push (s':=⟨at_+1,tup,(b&&& a)::st⟩) (aa J2) hf (by simpa using hs) (aa HJ).tup (fun x hx=>by rcases List.mem_cons.1 hx with rfl|hx;(· exact Nat.and_lt_two_pow (n:=64) b ha);exact aa HB x (List.mem_cons_of_mem _ (List.mem_cons_of_mem _ hx))));clear hf hs;go_wp2
    go_step3
    exact ⟨rfl,r,by omega,_,_,_,_,aa HIT,rfl,rfl,aa J1⟩
   ·rename_i b a st;simp only [Option.some.injEq] at hst;subst hst;have hb:=aa HB b (by simp);have ha:=aa HB a (by simp);have C:=ae (fZ w.heap.size (w.heap.size+2) sv (st.reverse++[a]) b _ (by simpa using (aa HJ).sk.below (aa BA)) (by simp at hsl ⊢;omega));unfold DU;go_wp2_with fail;refine (aa C).mono ?_;rintro e w1 ⟨v1,rfl,hf,hs⟩;have J1:=ae (nX.push (s':=⟨at_+1,tup,a::st⟩) ((aa HJ).below (aa BA)) hf (by simpa using hs) (aa HJ).tup (fun x hx=>aa HB x (List.mem_cons_of_mem _ hx)));have C2:=ae (fZ w.heap.size (w.heap.size+2) v1 st.reverse a _ hs (by simp at hsl ⊢;omega));clear hf hs C;go_wp2_with fail;refine (aa C2).mono ?_;rintro e w2 ⟨v2,rfl,hf,hs⟩;have J2:=ae (nX.push (s':=⟨at_+1,tup,st⟩) (aa J1) hf hs (aa HJ).tup (fun x hx=>aa HB x (List.mem_cons_of_mem _ (List.mem_cons_of_mem _ hx))));have c3:=iE w.heap.size (w.heap.size+2) v2 st.reverse (nO a b) w2 hs (by simp at hsl ⊢;omega);rw [←Gd ha hb] at c3;have C3:=ae c3;clear hf hs C2 c3 J1;go_wp2_with fail;refine (aa C3).mono ?_;rintro e w3 ⟨v3,rfl,hf,hs⟩;have J1:=ae (nX.push (s':=⟨at_+1,tup,(nO a b)::st⟩) (aa J2) hf (by simpa using hs) (aa HJ).tup (fun x hx=>by rcases List.mem_cons.1 hx with rfl|hx;(· exact Br ha);exact aa HB x (List.mem_cons_of_mem _ (List.mem_cons_of_mem _ hx))));clear hf hs;go_wp2
    go_step3
    exact ⟨rfl,r,by omega,_,_,_,_,aa HIT,rfl,rfl,aa J1⟩
   ·rename_i b st;simp only [Option.some.injEq] at hst;subst hst;obtain ⟨sa,sc,rfl⟩:=ak (aa HJ).sk.row;have C:=ae (FU w.heap.size (w.heap.size+2) _ st.reverse b _ (by simpa using (aa HJ).sk.below (aa BA)) (by simp at hsl ⊢;omega))
    by_cases hb0:b=0
    ·have hq:((b:Int)==0)=true:=by rw [hb0];rfl
     have J1:=ae (nX.same (s':=⟨if b=0 then to else at_+1,tup,b::st⟩) ((aa HJ).below (aa BA)) rfl (aa HJ).tup);rw [if_pos hb0] at HIT J1;clear hb0;unfold DU;go_wp2_with fail;refine (aa C).mono ?_;rintro e w1 ⟨rfl,rfl⟩;go_wp2
     go_step3
     exact ⟨rfl,r,by omega,_,_,_,_,aa HIT,rfl,rfl,aa J1⟩
    ·have hq:((b:Int)==0)=false:=by simpa using hb0
     have J1:=ae (nX.same (s':=⟨if b=0 then to else at_+1,tup,b::st⟩) ((aa HJ).below (aa BA)) rfl (aa HJ).tup);rw [if_neg hb0] at HIT J1;clear hb0;unfold DU;go_wp2_with fail;refine (aa C).mono ?_;rintro e w1 ⟨rfl,rfl⟩;go_wp2
     go_step3
     exact ⟨rfl,r,by omega,_,_,_,_,aa HIT,rfl,rfl,aa J1⟩
   ·simp only [Option.some.injEq] at hst;subst hst;have J1:=ae (nX.same (s':=⟨to,tup,st⟩) ((aa HJ).below (aa BA)) rfl (aa HJ).tup);unfold DU;go_wp2
    go_step3
    exact ⟨rfl,r,by omega,_,_,_,_,aa HIT,rfl,rfl,aa J1⟩
   ·cases hst
 case first=>
  intro pass;go_wp2
  go_step3
  obtain ⟨N,hN⟩:=hg;rename_i K hK;refine hK _ _ (pass N _ _ ⟨⟨0,0,[]⟩,.slice none 0 0,_,_,hN,?_,rfl,?_⟩)
  ·rfl
  have b1:=(Below.refl w.heap.size w).alloc RH (.cells #[.slice ca cn cc,.slice ha hn hc,.map (some mb)] 189);have b2:=b1.alloc (by simp) (.cells #[.string v.kd,.string v.id,.slice ta tn tc] 282);refine ⟨b2.alloc (by simp;omega) _,((ag.new w _ _).alloc _).alloc _,(ag.new' _ _ _ _ (by simp)).alloc _,⟨ag.new' _ _ _ _ (by simp),World.ownsRow_nil _ _ _ _,by omega⟩,Nat.zero_le _,fun x hx=>by cases hx⟩
def gV (kb:Sj→Bool) (who:Tg) (s:Sj):Bool:=if s.rel.size=0 then jF s who else kb s
def x9 (kb:Sj→Bool) (s:Sj) (rel:RJ):Bool:=if s.rel.size=0 then kb ⟨s.kind,s.id,rel⟩ else false
def cK (kb:Sj→Bool) (who:Tg) (kd id:RJ) (ts:List Tu) (rel:RJ):Ex→Bool
 |⟨n,some x,some y⟩=>if n.kind=3 then cK kb who kd id ts rel x||cK kb who kd id ts rel y else if n.kind=4 then cK kb who kd id ts rel x&&cK kb who kd id ts rel y else cK kb who kd id ts rel x&& !cK kb who kd id ts rel y
 |⟨n,none,_⟩=>if n.kind=0 then ts.any (fun t=>decide (t.rel=rel)&&gV kb who (ed t)) else if n.kind=1 then kb ⟨kd,id,n.n1⟩ else ts.any (fun t=>decide (t.rel=n.n1)&&x9 kb (ed t) n.n2)
 |⟨_,some _,none⟩=>false
theorem rG (p:Tg→Bool) (cs:List Tg) (i:Nat):∀j,(dz p cs j).testBit i=(decide (i<j)&&match cs[i]? with|some t=>p t|none=>false)
 |0=>by simp [dz]
 |j+1=>by
  have ih:=rG p cs i j;rw [dz]
  by_cases e:i=j
  ·subst e
   cases hc:cs[i]? with
   |none=>rw [hc] at ih;simpa using ih
   |some t=>
    rw [hc] at ih;simp only
    by_cases hp:p t=true
    ·rw [if_pos hp,Nat.testBit_or,Nat.testBit_two_pow_self];simp [hp]
    ·rw [if_neg hp,ih];simp [hp]
  ·have h1:decide (i<j+1)=decide (i<j):=by rw [decide_eq_decide];omega
   rw [h1,←ih]
   split
   ·split
    ·rw [Nat.testBit_or,Nat.testBit_two_pow_of_ne (by omega),Bool.or_false]
    ·rfl
   ·rfl
theorem Gg {a b i:Nat} (hb:b<18446744073709551616) (hi:i<64):(nO a b).testBit i=(a.testBit i&& !b.testBit i):=by
 unfold nO;rw [Nat.testBit_and,show 18446744073709551615-b=2 ^ 64-(b+1) by omega,Nat.testBit_two_pow_sub_succ hb];simp [hi]
theorem jI (r:RJ) (f:Tu→Nat) (i:Nat):∀(ts:List Tu) (a:Nat),(gL ts r f a).testBit i=(a.testBit i||ts.any fun t=>decide (t.rel=r)&&(f t).testBit i)
 | [],a=>by simp [gL]
 |t::ts,a=>by
  unfold gL
  by_cases h:t.rel=r
  ·rw [List.filter_cons_of_pos (by simpa using h),List.foldl_cons];have:=jI r f i ts (f t|||a);unfold gL at this;rw [this,Nat.testBit_or,List.any_cons]
   cases a.testBit i<;>cases (f t).testBit i<;>simp [h]
  ·rw [List.filter_cons_of_neg (by simpa using h)];have:=jI r f i ts a;unfold gL at this;rw [this,List.any_cons];simp [h]
theorem qh (r:RJ) (f:Tu→Nat) (hf:∀t,f t<18446744073709551616):∀(ts:List Tu) (a:Nat),a<18446744073709551616→gL ts r f a<18446744073709551616
 | [],a,ha=>by simpa [gL] using ha
 |t::ts,a,ha=>by
  unfold gL
  by_cases h:t.rel=r
  ·rw [List.filter_cons_of_pos (by simpa using h),List.foldl_cons];exact qh r f hf ts (f t|||a) (Nat.or_lt_two_pow (n:=64) (hf t) ha)
  ·rw [List.filter_cons_of_neg (by simpa using h)];exact qh r f hf ts a ha
theorem vF (v:ui) (hK:∀s,v.K s<18446744073709551616) (hc:v.cs.length≤64) (rel:RJ):∀e,bW v rel e<18446744073709551616
 |⟨n,some x,some y⟩=>by
  have hx:=vF v hK hc rel x;have hy:=vF v hK hc rel y;unfold bW
  split
  ·exact Nat.or_lt_two_pow (n:=64) hy hx
  ·split
   ·decide
   ·split
    ·exact Nat.and_lt_two_pow (n:=64) _ hx
    ·exact Br hx
 |⟨n,none,r⟩=>by
  unfold bW
  split
  ·exact qh _ _ (fun t=>x8 hK hc _) _ _ (by decide)
  ·split
   ·exact hK _
   ·exact qh _ _ (fun t=>Gc hK _ _) _ _ (by decide)
 |⟨_,some _,none⟩=>by
  unfold bW
  decide
theorem kJ (v:ui) (hK:∀s,v.K s<18446744073709551616) (hc:v.cs.length≤64) {i:Nat} {who:Tg} (hw:v.cs[i]? =some who) (rel:RJ):∀e,(bW v rel e).testBit i=cK (fun s=>(v.K s).testBit i) who v.kd v.id v.ts rel e
 |⟨n,some x,some y⟩=>by
  have hx:=kJ v hK hc hw rel x;have hy:=kJ v hK hc hw rel y;have hi:=(List.getElem?_eq_some_iff.1 hw).1;unfold bW cK
  split
  ·rw [Nat.testBit_or,hx,hy,Bool.or_comm]
  ·split
   ·rename_i h0;rw [←hx,←hy,h0];simp
   ·split
    ·rw [Nat.testBit_and,hx,hy,Bool.and_comm]
    ·rw [Gg (vF v hK hc rel y) (by omega),hx,hy]
 |⟨n,none,r⟩=>by
  have hi:=(List.getElem?_eq_some_iff.1 hw).1;unfold bW cK;have hm:∀t,(gU v.K v.cs (ed t)).testBit i=gV (fun s=>(v.K s).testBit i) who (ed t):=fun t=>by
   unfold gU gV
   split
   ·rw [rG,hw];simp [hi]
   ·rfl
  have hb:∀t,(pX v.K (ed t) n.n2).testBit i=x9 (fun s=>(v.K s).testBit i) (ed t) n.n2:=fun t=>by
   unfold pX x9
   split
   ·rfl
   ·simp
  split
  ·rw [jI];simp [hm]
  ·split
   ·rfl
   ·rw [jI];simp [hb]
 |⟨_,some _,none⟩=>by
  unfold bW cK;simp
def gX (kp kn:Sj→Bool) (who:Tg) (kd id:RJ) (ts:List Tu) (rel:RJ):Ex→Bool
 |⟨n,some x,some y⟩=>if n.kind=3 then gX kp kn who kd id ts rel x||gX kp kn who kd id ts rel y else if n.kind=4 then gX kp kn who kd id ts rel x&&gX kp kn who kd id ts rel y else gX kp kn who kd id ts rel x&& !cK kn who kd id ts rel y
 |e=>cK kp who kd id ts rel e
theorem mP (k:Sj→Bool) (who:Tg) (kd id:RJ) (ts:List Tu) (rel:RJ):∀e,gX k k who kd id ts rel e=cK k who kd id ts rel e
 |⟨n,some x,some y⟩=>by
  rw [gX,cK,mP k who kd id ts rel x,mP k who kd id ts rel y]
 |⟨n,none,r⟩=>by rw [gX];intro a b c h;cases h
 |⟨n,some x,none⟩=>by rw [gX];intro a b c h;cases h
def Bu (kd id:RJ) (ts:List Tu) (rel:RJ):Ex→Sj→Prop
 |⟨_,some x,some y⟩,s=>Bu kd id ts rel x s∨Bu kd id ts rel y s
 |⟨n,none,_⟩,s=>(n.kind=0∧∃t∈ts,t.rel=rel∧¬t.of.size=0∧s=ed t)∨(n.kind=1∧s=⟨kd,id,n.n1⟩)∨(¬n.kind=0∧¬n.kind=1∧∃t∈ts,t.rel=n.n1∧t.of.size=0∧s=⟨t.sub,t.who,n.n2⟩)
 |⟨_,some _,none⟩,_=>False
def EM (kd id:RJ) (ts:List Tu) (rel:RJ):Ex→Sj→Prop
 |⟨n,some x,some y⟩,s=>EM kd id ts rel x s∨(if n.kind=3∨n.kind=4 then EM kd id ts rel y s else Bu kd id ts rel y s)
 |_,_=>False
section
variable {kp Mk kn kn':Sj→Bool} {who:Tg} {kd id:RJ} {ts:List Tu} {rel:RJ}
theorem oG {α:Type} {f g:α→Bool}:∀{l:List α},(∀x∈l,f x=g x)→l.any f=l.any g
 | [],_=>rfl
 |x::l,h=>by rw [List.any_cons,List.any_cons,h x (by simp),oG (fun y hy=>h y (by simp [hy]))]
theorem gM:∀e,(∀s,Bu kd id ts rel e s→kp s=Mk s)→cK kp who kd id ts rel e=cK Mk who kd id ts rel e
 |⟨n,some x,some y⟩,h=>by
  rw [cK,cK,gM x (fun s hs=>h s (by rw [Bu];exact .inl hs)),gM y (fun s hs=>h s (by rw [Bu];exact .inr hs))]
 |⟨n,none,r⟩,h=>by
  rw [cK,cK]
  split
  ·rename_i h0;refine oG (fun t ht=> ?_)
   by_cases hr:t.rel=rel
   ·unfold gV
    split
    ·rfl
    ·rename_i h2;rw [h (ed t) (by rw [Bu];exact .inl ⟨h0,t,ht,hr,h2,rfl⟩)]
   ·simp [hr]
  ·rename_i h0
   split
   ·rename_i h1;exact h _ (by rw [Bu];exact .inr (.inl ⟨h1,rfl⟩))
   ·rename_i h1;refine oG (fun t ht=> ?_)
    by_cases hr:t.rel=n.n1
    ·unfold x9
     split
     ·rename_i h2;rw [h ⟨(ed t).kind,(ed t).id,n.n2⟩ (by rw [Bu];exact .inr (.inr ⟨h0,h1,t,ht,hr,h2,rfl⟩))]
     ·rfl
    ·simp [hr]
 |⟨n,some x,none⟩,h=>by rw [cK,cK]
theorem iY:∀e,(∀s,Bu kd id ts rel e s→kp s=Mk s)→(∀s,EM kd id ts rel e s→kn s=kn' s)→gX kp kn who kd id ts rel e=gX Mk kn' who kd id ts rel e
 |⟨n,some x,some y⟩,h,g=>by
  have hx:=iY x (fun s hs=>h s (by rw [Bu];exact .inl hs)) (fun s hs=>g s (by rw [EM];exact .inl hs));rw [gX,gX,hx]
  by_cases h3:n.kind=3
  ·rw [if_pos h3,if_pos h3,iY y (fun s hs=>h s (by rw [Bu];exact .inr hs)) (fun s hs=>g s (by rw [EM,if_pos (.inl h3)];exact .inr hs))]
  ·rw [if_neg h3,if_neg h3]
   by_cases h4:n.kind=4
   ·rw [if_pos h4,if_pos h4,iY y (fun s hs=>h s (by rw [Bu];exact .inr hs)) (fun s hs=>g s (by rw [EM,if_pos (.inr h4)];exact .inr hs))]
   ·rw [if_neg h4,if_neg h4,gM y (fun s hs=>g s (by rw [EM,if_neg (by omega)];exact .inr hs))]
 |⟨n,none,r⟩,h,g=>gM _ h
 |⟨n,some x,none⟩,h,g=>gM _ h
theorem yc {α:Type} {f g:α→Bool} {l:List α} (h:∀x,f x=true→g x=true) (hf:l.any f=true):l.any g=true:=by
 rw [List.any_eq_true] at hf ⊢;obtain ⟨x,hx,hy⟩:=hf;exact ⟨x,hx,h x hy⟩
theorem mQ (hk:∀s,kp s=true→Mk s=true):∀e,gX kp kn who kd id ts rel e=true→gX Mk kn who kd id ts rel e=true
 |⟨n,some x,some y⟩,h=>by
  have hx:=mQ hk x;have hy:=mQ hk y;rw [gX] at h ⊢
  by_cases h3:n.kind=3
  ·rw [if_pos h3] at h ⊢;rw [Bool.or_eq_true] at h ⊢;exact h.imp hx hy
  ·rw [if_neg h3] at h ⊢
   by_cases h4:n.kind=4
   ·rw [if_pos h4] at h ⊢;rw [Bool.and_eq_true] at h ⊢;exact ⟨hx h.1,hy h.2⟩
   ·rw [if_neg h4] at h ⊢;rw [Bool.and_eq_true] at h ⊢;exact ⟨hx h.1,h.2⟩
 |⟨n,none,r⟩,h=>by
  change cK kp who kd id ts rel _=true at h;change cK Mk who kd id ts rel _=true;rw [cK] at h ⊢
  split
  ·rename_i h0;rw [if_pos h0] at h;refine yc (fun t ht=> ?_) h;rw [Bool.and_eq_true] at ht ⊢;refine ⟨ht.1,?_⟩;have:=ht.2;unfold gV at this ⊢
   split
   ·rename_i h2;rw [if_pos h2] at this;exact this
   ·rename_i h2;rw [if_neg h2] at this;exact hk _ this
  ·rename_i h0;rw [if_neg h0] at h
   split
   ·rename_i h1;rw [if_pos h1] at h;exact hk _ h
   ·rename_i h1;rw [if_neg h1] at h;refine yc (fun t ht=> ?_) h;rw [Bool.and_eq_true] at ht ⊢;refine ⟨ht.1,?_⟩;have:=ht.2;unfold x9 at this ⊢
    split
    ·rename_i h2;rw [if_pos h2] at this;exact hk _ this
    ·rename_i h2;rw [if_neg h2] at this;exact this
 |⟨n,some x,none⟩,h=>by
  change cK kp who kd id ts rel _=true at h;rw [cK] at h
  cases h
end
def oH (a b:Nat):Prop:=∀i,a.testBit i=true→b.testBit i=true
def pop (a:Nat):Nat:=(List.range 64).countP fun i=>a.testBit i
theorem oI {α:Type} {p q:α→Bool} (h:∀x,p x=true→q x=true):∀l:List α,l.countP p≤l.countP q
 | []=>by simp
 |x::l=>by
  have ih:=oI h l;rw [List.countP_cons,List.countP_cons]
  by_cases hp:p x=true
  ·simp [hp,h x hp,ih]
  ·simp only [Bool.not_eq_true] at hp;rw [hp];simp;omega
theorem uk {α:Type} {p q:α→Bool} (h:∀x,p x=true→q x=true):∀(l:List α) (x:α),x∈l→q x=true→p x=false→l.countP p<l.countP q
 | [],x,hx,_,_=>by cases hx
 |y::l,x,hx,hq,hp=>by
  rw [List.countP_cons,List.countP_cons]
  rcases List.mem_cons.1 hx with rfl|hx
  ·have:=oI h l;rw [hp,hq];simp;omega
  ·have:=uk h l x hx hq hp
   by_cases hy:p y=true
   ·simp [hy,h y hy,this]
   ·simp only [Bool.not_eq_true] at hy;rw [hy];simp;omega
theorem Ml (a:Nat):pop a≤64:=by
 have:=List.countP_le_length (p:=fun i=>a.testBit i) (l:=List.range 64)
 simpa [pop] using this
theorem Mm {a b:Nat} (hb:b<18446744073709551616) (h:oH a b) (hne:a≠b):pop a<pop b:=by
 have:∃i,b.testBit i=true∧a.testBit i=false:=by
  apply Classical.byContradiction;intro hn;apply hne;apply Nat.eq_of_testBit_eq;intro i
  cases ha:a.testBit i with
  |true=>rw [h i ha]
  |false=>
   cases hb:b.testBit i with
   |false=>rfl
   |true=>exact absurd ⟨i,hb,ha⟩ hn
 obtain ⟨i,h1,h2⟩:=this;have hi:i<64:=by
  apply Classical.byContradiction;intro hn;rw [Nat.testBit_lt_two_pow (Nat.lt_of_lt_of_le hb (Nat.pow_le_pow_right (n:=2) (by omega) (show 64≤i by omega)))] at h1
  cases h1
 exact uk (fun x hx=>h x hx) _ i (List.mem_range.2 hi) h1 h2
theorem yf {a b:Nat} (h:oH a b):pop a≤pop b:=oI (fun x hx=>h x hx) _
def gN (l:List Sj) (K:Sj→Nat):Nat:=(l.map fun s=>64-pop (K s)).sum
theorem Bv {K K':Sj→Nat} (h:∀s,oH (K s) (K' s)):∀l,gN l K'≤gN l K
 | []=>by simp [gN]
 |s::l=>by
  have ih:=Bv h l;have:=yf (h s);unfold gN at ih ⊢;rw [List.map_cons,List.map_cons,List.sum_cons,List.sum_cons];omega
theorem Bw {K K':Sj→Nat} (h:∀s,oH (K s) (K' s)) {s:Sj} (hb:K' s<18446744073709551616) (hne:K s≠K' s):∀l,s∈l→gN l K'<gN l K
 | [],hs=>by cases hs
 |t::l,hs=>by
  unfold gN;rw [List.map_cons,List.map_cons,List.sum_cons,List.sum_cons]
  rcases List.mem_cons.1 hs with rfl|hs
  ·have h1:=Bv h l;have h2:=Mm hb (h s) hne;have h3:=Ml (K' s);unfold gN at h1;omega
  ·have h1:=Bw h hb hne l hs;have h2:=yf (h t);unfold gN at h1;omega
theorem uo (K:Sj→Nat):∀l,gN l K≤64*l.length
 | []=>by simp [gN]
 |s::l=>by
  have:=uo K l;unfold gN at this ⊢;rw [List.map_cons,List.sum_cons,List.length_cons];omega
