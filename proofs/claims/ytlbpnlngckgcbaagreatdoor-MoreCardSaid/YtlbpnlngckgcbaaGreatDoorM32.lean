import Derived.Test.YtlbpnlngckgcbaaGreatDoorM31
import Derived.Test.YtlbpnlngckgcbaaGreatDoorRows
import Derived.Test.YtlbpnlngckgcbaaGreatDoorTie
import Derived.Test.YtlbpnlngckgcbaaGreatDoorCards
import Derived.SevenTiedAt
import Derived.HandedShaped
import Derived.JoinedOf
import Derived.Stop.Joined
set_option linter.all false
set_option maxHeartbeats 4000000
set_option maxRecDepth 100000
namespace Go.Proofs.YtlbpnlngckgcbaaGreatDoor
open Go.RowKit Go.PlainAid
structure Qp (ts:List Ty) (gs:List Tu) (id:RJ) (l:List RJ):Prop where
 gin:AY gs
 few:gs.length≤24
 was:l=[]∨∃K,Run (aH ts gs) (bF gs) (aT ts) (fun _=>0) K∧l=iH (K (nY id)) (aH ts gs)
 len:l.length≤64
theorem H6 (v:Value) (n:Nat) (what:Int) (w:World) (h:JY w v n) (hn:n≤4398046511104) (hwh:uA what) (hE:yN w):
  Calls Tryz.prog 13 #[v,.int .i64 what] w fun e w'=>e=.returned (.bool true)∧Below w.heap.size w w':=by
 have hv:∃a c,v=.slice a n c∧(0<n→∃ad,a=some ad):=by
  rcases h with ⟨rfl,rfl⟩|⟨ad,c,z,rfl,h1,_⟩
  ·exact ⟨_,_,rfl,by omega⟩
  ·exact ⟨_,_,rfl,fun _=>⟨_,rfl⟩⟩
 obtain ⟨ra,rc,rfl,hra⟩:=hv;obtain ⟨ts,ht⟩:=Ng;have hlt:=hE.lt;have C1:=ae (EH pM ts ht.read w hE.laid);unfold pM at C1;have P0:=ae (fun w'=>gu what 4 w' hwh (by omega) (by omega));have ld:=mX what (n:=4) (by omega);generalize BV what 4=d at*;have C2:=ae (fun w'=>nV d (by omega) w');have HR:=ae h;have HRA:=ae hra;have HE:=ae hE;have HT:=ae ht;clear h hra hE ht;go_enter Tryz.func13,Tryz.ntmps13;go_wp2_with fail;refine (aa C1).mono ?_;rintro e w1 ⟨mv,lv,x,rfl,hu,hb1,hx⟩;have HS:=ae (show EP w.heap.size w1 x ts [] from ⟨mv,lv,_,hu,fun k hk=>by
  rcases hk with rfl|⟨_,_,e⟩
  ·exact hx
  ·cases e⟩)
 have MN:=ae hb1;clear hu hb1 C1 hx;go_wp2_with fail;refine (aa P0 _).mono ?_;rintro e w0 ⟨rfl,hw0⟩;rw [hw0];clear hw0 w0;go_wp2_with fail;refine (aa C2 _).mono ?_;rintro e w0 ⟨rfl,hw0⟩;rw [hw0];clear hw0 w0;have hds:=(kN (show d<10 by omega)).2.2;obtain ⟨D,hD⟩:∃D,D=ib d:=⟨_,rfl⟩;have HD:=ae hD;rw [←hD];rw [←hD] at hds;clear hD;go_wp2_with fail
 go_loopw [6,8] (fun u6 u8 wr=>∃(i:Nat) (gs:List Tu) (l:List RJ),u8=.int .i64 i∧i≤n∧Below w.heap.size w wr∧EP w.heap.size wr x ts gs∧wr.ownsRow 0 9 1 u6 l.length (jZ l)∧Hid (Qp ts gs (qa d) l)) (fun _ u8 _=>n-(intOf u8).toNat)
 case atStart=>exact ⟨0,[],[],rfl,by omega,aa MN,aa HS,World.ownsRow_nil _ _ _ _,ae ⟨(fun _ h=>by cases h),by simp,.inl rfl,by simp⟩⟩
 case round=>
  obtain ⟨i,gs,l,rfl,hi,hb,hS,hrow,HI⟩:=hrel;obtain ⟨va,vc,rfl⟩:=ak hrow
  by_cases hit:i<n
  ·have hin:(i:Int)<(n:Int):=by omega
   obtain ⟨ad,rfl⟩:=aa HRA (by omega);obtain ⟨o,PT,z0,z1,z2,z3⟩:=(aa HR).cell (Below.refl _ w) hit;have x0:=af z0 hb;have x1:=af z1 hb;have x2:=af z2 hb;have x3:=af z3 hb;have HX:=ae (And.intro z0 (And.intro z1 (And.intro z2 z3)));clear z0 z1 z2 z3;have CG:=ae (AX o PT wr);have P1:=ae (fun w'=>gu o.kd 9 w' PT.kd (by omega) (by omega));have P2:=ae (fun w'=>gu o.a 4 w' PT.a (by omega) (by omega));have P3:=ae (fun w'=>gu o.b 4 w' PT.b (by omega) (by omega));have l1:=mX o.kd (n:=9) (by omega);have l2:=mX o.a (n:=4) (by omega);have l3:=mX o.b (n:=4) (by omega);generalize BV o.kd 9=kk at*;generalize BV o.a 4=ka at*;generalize BV o.b 4=kb at*;have RF:=ae (Ha l1 l2 l3);have HOW:=ae (show kk=3→(dw (Io kk ka kb)).1=⟨eP,qa ka,bH,dP,NI kb,⟨#[]⟩⟩ from fun e=>by rw [e];exact vX l2 l3);obtain ⟨S0,hS0⟩:∃S0,S0=Io kk ka kb:=⟨_,rfl⟩;rw [←hS0] at CG RF HOW;clear hS0;have HB:=ae hb;have HSS:=ae hS;have om:=ae hrow;have hbs:=hb.size;clear hb hS hrow PT;go_wp2_with fail;refine (aa CG).mono ?_;rintro e w2 ⟨rfl,hb2⟩;have iK:=ae ((aa HB).trans (hb2.mono hbs));have Ih:=ae ((aa HSS).below hb2);have bP:=ae (aF (aa om) hb2);clear hb2 CG HB HSS om x0 x1 x2 x3;have CW:=ae (yO (aa Ih) ((aa HE).below (aa iK) hlt) (aa HT) (aa RF) rfl (aa HI).few);obtain ⟨wg1,wg2,wg3,wg4⟩:=Nk (aa HI).gin (aa HI).few (aa RF);have rY:=ae (And.intro wg1 (And.intro wg2 (And.intro wg3 wg4)));clear wg1 wg2 wg3 wg4;generalize AZ gs S0=rr at*;obtain ⟨NJ,gs'⟩:=rr;simp only at rY CW;go_wp2_with fail;refine (aa CW).mono ?_;rintro e w3 ⟨rfl,hs3,hb3,hk3⟩;have ww:=ae ((aa iK).trans hb3);have zJ:=ae hs3;have gD:=ae (hk3.row (aa bP));have CQ:=ae (H5 hs3 ((aa HE).below (aa ww) hlt) (aa HT) (aa rY).1 (aa rY).2.1 ld);rw [←aa HD] at CQ;unfold dM at CQ;clear hs3 hb3 hk3 CW iK Ih bP;have ut:NJ=0∨NJ=4∨NJ=8:=by
    rcases (aa rY).2.2.2 with h|h|h
    ·exact .inl h.1
    ·exact .inr (.inl h)
    ·exact .inr (.inr h)
   have HEE:=ae (show ((NJ:Int) != 0&&((NJ:Int) != 4)&&((NJ:Int) != 8))=false from by rcases ut with rfl|rfl|rfl<;>rfl)
   rcases ut with rfl|rfl|rfl
   ·have HUS:=ae (show ∀K,Run (aH ts gs') (bF gs') (aT ts) (fun _=>0) K→kk=3→ib ka=D→gQ kb∈iH (K (nY (qa d))) (aH ts gs') from fun K hr e1 e2=>by
     have ho:=aa HOW e1
     rcases (aa rY).2.2.2 with ⟨_,hm⟩|h|h
     ·rw [ho] at hm;have:=Hu (aa HT) hr (fJ (aa HT) (aa rY).1 (aa rY).2.1).2.1 hm;rw [BZ l3] at this;have e3:qa ka=qa d:=by unfold qa;rw [e2,aa HD]
      rw [e3] at this;exact this
     ·cases h
     ·cases h)
    go_wp2_with fail;refine (aa CQ).mono ?_;rintro e w4 ⟨v4,K,rfl,hb4,hrun,hown⟩;have wy:=ae ((aa ww).trans (hb4.mono (aa ww).size));have Nl:=ae ((aa zJ).below hb4);have lD:=ae (aF (aa gD) hb4);have hl4:=rV (K (nY (qa d))) (aH ts gs');have KP:=(fJ (aa HT) (aa rY).1 (aa rY).2.1).2.1;have H7:=ae (show ∀s∈l,s∈iH (K (nY (qa d))) (aH ts gs') from fun s hs=>by
     rcases (aa HI).was with e|⟨K0,J8,e⟩
     ·rw [e] at hs;cases hs
     ·rw [e] at hs;exact oV (aa HT) (aa rY).2.2.1 J8 hrun (fJ (aa HT) (aa HI).gin (aa HI).few).2.1 KP _ s hs)
    have JB:=ae (aa HUS K hrun);have yC:=ae (show Qp ts gs' (qa d) (iH (K (nY (qa d))) (aH ts gs')) from ⟨(aa rY).1,(aa rY).2.1,.inr ⟨K,hrun,rfl⟩,by omega⟩);generalize iH (K (nY (qa d))) (aH ts gs')=l' at*;have hl5:l'.length≤64:=by omega
    obtain ⟨la,lc,rfl⟩:=ak hown;have yU:=ae (aA hown (Nat.zero_le _));have CP:=ae (fun s=>mY 0 _ l' s w4 (aa yU) (by omega));have hll:=(aa HI).len;clear hb4 hrun hown ww zJ gD CQ HUS hl4 KP;go_wp2_with fail
    go_loopw [13] (fun u13 wj=>∃k:Nat,u13=.int .i64 k∧k≤l.length∧wj=w4) (fun u13 _=>l.length-(intOf u13).toNat)
    case atStart=>exact ⟨0,rfl,by omega,rfl⟩
    case round=>
     obtain ⟨k,rfl,hk,PV⟩:=hrel;subst PV
     by_cases Ar:k<l.length
     ·have hkn:(k:Int)<(l.length:Int):=by omega
      obtain ⟨g,c',e1,hc⟩:=aQ (aa lD) k (.string l[k]) (by unfold jZ;rw [List.getElem?_map,RI Ar];rfl);simp only [Value.slice.injEq,true_and] at e1;obtain ⟨rfl,rfl⟩:=e1;have hin':=aa H7 l[k] (List.getElem_mem Ar);generalize l[k]=y at*;have C:=ae (aa CP y);go_wp2_with fail;refine (aa C).mono ?_;rintro e w5 ⟨r,rfl,iI,hr⟩;rw [iI];clear iI w5;have J8:¬(r<0):=fun h=>(hr.1 h) hin'
      clear hr hin' C;go_wp2;go_roundw
      case rel=>exact ⟨k+1,by go_num,by omega,by first|rfl|trivial⟩
      case measure=>simp [intOf];omega
     ·have hkn:¬((k:Int)<(l.length:Int)):=by omega
      obtain ⟨z0,z1,z2,z3⟩:=aa HX;have x0:=af z0 (aa wy);have x1:=af z1 (aa wy);have x2:=af z2 (aa wy);clear z0 z1 z2 z3;go_wp2_with fail;refine (aa P3 _).mono ?_;rintro e w5 ⟨rfl,iI⟩;rw [iI];clear iI w5;go_wp2_with fail;refine (lC kb (by omega) _).mono ?_;rintro e w5 ⟨rfl,iI⟩;rw [iI];clear iI w5;go_wp2_with fail;refine (aa CP (gQ kb)).mono ?_;rintro e w5 ⟨r,rfl,iI,hr⟩;rw [iI];clear iI w5;clear CP
      by_cases hk3:kk=3
      ·have vw:((kk:Int)==3)=true:=by rw [hk3];rfl
       have hq3':(kk:Int)=3:=by omega
       go_wp2_with fail;refine (aa P1 _).mono ?_;rintro e w5 ⟨rfl,iI⟩;rw [iI];clear iI w5;go_wp2_with fail;refine (aa P2 _).mono ?_;rintro e w5 ⟨rfl,iI⟩;rw [iI];clear iI w5;go_wp2_with fail;refine (nV ka (by omega) _).mono ?_;rintro e w5 ⟨rfl,iI⟩;rw [iI];clear iI w5
       by_cases hdd:ib ka=D
       ·have J8:¬(r<0):=fun h=>(hr.1 h) (aa JB hk3 hdd)
        have hqd:=ug hdd;clear hr;go_wp2;go_roundw
        case rel=>exact ⟨i+1,gs',l',by go_num,by omega,aa wy,aa Nl,aa yU,yC⟩
        case measure=>simp [intOf];omega
       ·have hqd:=uf hdd;clear hr;go_wp2;go_roundw
        case rel=>exact ⟨i+1,gs',l',by go_num,by omega,aa wy,aa Nl,aa yU,yC⟩
        case measure=>simp [intOf];omega
      ·have vw:((kk:Int)==3)=false:=by rw [beq_eq_false_iff_ne];omega
       have hq3':¬((kk:Int)=3):=by omega
       clear hr;go_wp2_with fail;refine (aa P1 _).mono ?_;rintro e w5 ⟨rfl,iI⟩;rw [iI];clear iI w5;go_wp2;go_roundw
       case rel=>exact ⟨i+1,gs',l',by go_num,by omega,aa wy,aa Nl,aa yU,yC⟩
       case measure=>simp [intOf];omega
   ·skip
    go_wp2_with fail;refine (aa CQ).mono ?_;rintro e w4 ⟨v4,K,rfl,hb4,hrun,hown⟩;have wy:=ae ((aa ww).trans (hb4.mono (aa ww).size));have Nl:=ae ((aa zJ).below hb4);have lD:=ae (aF (aa gD) hb4);have hl4:=rV (K (nY (qa d))) (aH ts gs');have KP:=(fJ (aa HT) (aa rY).1 (aa rY).2.1).2.1;have H7:=ae (show ∀s∈l,s∈iH (K (nY (qa d))) (aH ts gs') from fun s hs=>by
     rcases (aa HI).was with e|⟨K0,J8,e⟩
     ·rw [e] at hs;cases hs
     ·rw [e] at hs;exact oV (aa HT) (aa rY).2.2.1 J8 hrun (fJ (aa HT) (aa HI).gin (aa HI).few).2.1 KP _ s hs)
    have yC:=ae (show Qp ts gs' (qa d) (iH (K (nY (qa d))) (aH ts gs')) from ⟨(aa rY).1,(aa rY).2.1,.inr ⟨K,hrun,rfl⟩,by omega⟩);generalize iH (K (nY (qa d))) (aH ts gs')=l' at*;have hl5:l'.length≤64:=by omega
    obtain ⟨la,lc,rfl⟩:=ak hown;have yU:=ae (aA hown (Nat.zero_le _));have CP:=ae (fun s=>mY 0 _ l' s w4 (aa yU) (by omega));have hll:=(aa HI).len;clear hb4 hrun hown ww zJ gD CQ hl4 KP;go_wp2_with fail
    go_loopw [13] (fun u13 wj=>∃k:Nat,u13=.int .i64 k∧k≤l.length∧wj=w4) (fun u13 _=>l.length-(intOf u13).toNat)
    case atStart=>exact ⟨0,rfl,by omega,rfl⟩
    case round=>
     obtain ⟨k,rfl,hk,PV⟩:=hrel;subst PV
     by_cases Ar:k<l.length
     ·have hkn:(k:Int)<(l.length:Int):=by omega
      obtain ⟨g,c',e1,hc⟩:=aQ (aa lD) k (.string l[k]) (by unfold jZ;rw [List.getElem?_map,RI Ar];rfl);simp only [Value.slice.injEq,true_and] at e1;obtain ⟨rfl,rfl⟩:=e1;have hin':=aa H7 l[k] (List.getElem_mem Ar);generalize l[k]=y at*;have C:=ae (aa CP y);go_wp2_with fail;refine (aa C).mono ?_;rintro e w5 ⟨r,rfl,iI,hr⟩;rw [iI];clear iI w5;have J8:¬(r<0):=fun h=>(hr.1 h) hin'
      clear hr hin' C;go_wp2;go_roundw
      case rel=>exact ⟨k+1,by go_num,by omega,by first|rfl|trivial⟩
      case measure=>simp [intOf];omega
     ·have hkn:¬((k:Int)<(l.length:Int)):=by omega
      obtain ⟨z0,z1,z2,z3⟩:=aa HX;have x0:=af z0 (aa wy);have x1:=af z1 (aa wy);have x2:=af z2 (aa wy);clear z0 z1 z2 z3;go_wp2_with fail;refine (aa P3 _).mono ?_;rintro e w5 ⟨rfl,iI⟩;rw [iI];clear iI w5;go_wp2_with fail;refine (lC kb (by omega) _).mono ?_;rintro e w5 ⟨rfl,iI⟩;rw [iI];clear iI w5;go_wp2_with fail;refine (aa CP (gQ kb)).mono ?_;rintro e w5 ⟨r,rfl,iI,hr⟩;rw [iI];clear iI w5;clear CP hr;go_wp2;go_roundw
      case rel=>exact ⟨i+1,gs',l',by go_num,by omega,aa wy,aa Nl,aa yU,yC⟩
      case measure=>simp [intOf];omega
   ·skip
    go_wp2_with fail;refine (aa CQ).mono ?_;rintro e w4 ⟨v4,K,rfl,hb4,hrun,hown⟩;have wy:=ae ((aa ww).trans (hb4.mono (aa ww).size));have Nl:=ae ((aa zJ).below hb4);have lD:=ae (aF (aa gD) hb4);have hl4:=rV (K (nY (qa d))) (aH ts gs');have KP:=(fJ (aa HT) (aa rY).1 (aa rY).2.1).2.1;have H7:=ae (show ∀s∈l,s∈iH (K (nY (qa d))) (aH ts gs') from fun s hs=>by
     rcases (aa HI).was with e|⟨K0,J8,e⟩
     ·rw [e] at hs;cases hs
     ·rw [e] at hs;exact oV (aa HT) (aa rY).2.2.1 J8 hrun (fJ (aa HT) (aa HI).gin (aa HI).few).2.1 KP _ s hs)
    have yC:=ae (show Qp ts gs' (qa d) (iH (K (nY (qa d))) (aH ts gs')) from ⟨(aa rY).1,(aa rY).2.1,.inr ⟨K,hrun,rfl⟩,by omega⟩);generalize iH (K (nY (qa d))) (aH ts gs')=l' at*;have hl5:l'.length≤64:=by omega
    obtain ⟨la,lc,rfl⟩:=ak hown;have yU:=ae (aA hown (Nat.zero_le _));have CP:=ae (fun s=>mY 0 _ l' s w4 (aa yU) (by omega));have hll:=(aa HI).len;clear hb4 hrun hown ww zJ gD CQ hl4 KP;go_wp2_with fail
    go_loopw [13] (fun u13 wj=>∃k:Nat,u13=.int .i64 k∧k≤l.length∧wj=w4) (fun u13 _=>l.length-(intOf u13).toNat)
    case atStart=>exact ⟨0,rfl,by omega,rfl⟩
    case round=>
     obtain ⟨k,rfl,hk,PV⟩:=hrel;subst PV
     by_cases Ar:k<l.length
     ·have hkn:(k:Int)<(l.length:Int):=by omega
      obtain ⟨g,c',e1,hc⟩:=aQ (aa lD) k (.string l[k]) (by unfold jZ;rw [List.getElem?_map,RI Ar];rfl);simp only [Value.slice.injEq,true_and] at e1;obtain ⟨rfl,rfl⟩:=e1;have hin':=aa H7 l[k] (List.getElem_mem Ar);generalize l[k]=y at*;have C:=ae (aa CP y);go_wp2_with fail;refine (aa C).mono ?_;rintro e w5 ⟨r,rfl,iI,hr⟩;rw [iI];clear iI w5;have J8:¬(r<0):=fun h=>(hr.1 h) hin'
      clear hr hin' C;go_wp2;go_roundw
      case rel=>exact ⟨k+1,by go_num,by omega,by first|rfl|trivial⟩
      case measure=>simp [intOf];omega
     ·have hkn:¬((k:Int)<(l.length:Int)):=by omega
      obtain ⟨z0,z1,z2,z3⟩:=aa HX;have x0:=af z0 (aa wy);have x1:=af z1 (aa wy);have x2:=af z2 (aa wy);clear z0 z1 z2 z3;go_wp2_with fail;refine (aa P3 _).mono ?_;rintro e w5 ⟨rfl,iI⟩;rw [iI];clear iI w5;go_wp2_with fail;refine (lC kb (by omega) _).mono ?_;rintro e w5 ⟨rfl,iI⟩;rw [iI];clear iI w5;go_wp2_with fail;refine (aa CP (gQ kb)).mono ?_;rintro e w5 ⟨r,rfl,iI,hr⟩;rw [iI];clear iI w5;clear CP hr;go_wp2;go_roundw
      case rel=>exact ⟨i+1,gs',l',by go_num,by omega,aa wy,aa Nl,aa yU,yC⟩
      case measure=>simp [intOf];omega
  ·have hin:¬((i:Int)<(n:Int)):=by omega
   have HB:=ae hb;have CL:=ae (J6 hS ((aa HE).below hb hlt) (aa HT));unfold pM at CL;clear hb hS hrow;go_wp2_with fail;refine (aa CL).mono ?_;rintro e w2 ⟨rfl,hs2,hb2,hk2⟩;have iK:=ae ((aa HB).trans hb2);have CW:=ae (fun S hS=>yO hs2 ((aa HE).below (aa iK) hlt) (aa HT) (Ha (show 3<9 by omega) ld (show 0<4 by omega)) (S:=S) hS (by simp));clear hs2 hb2 hk2 CL;go_wp2_with fail;refine (aa CW _ (by rw [aa HD];exact J7 ld)).mono ?_;rw [show AZ [] (Io 3 d 0)=(0,[⟨eP,qa d,bH,dP,NI 0,⟨#[]⟩⟩]) from by
    unfold AZ;rw [show ou [] (dw (Io 3 d 0)).1= -1 from rfl,if_neg (show ¬((0:Int)≤-1) by decide),if_neg (by simp),vX ld (by omega)]
    rfl]
   rintro e w3 ⟨rfl,hs3,hb3,hk3⟩;have ww:=ae ((aa iK).trans hb3);have RG:AY [⟨eP,qa d,bH,dP,NI 0,⟨#[]⟩⟩]:=fun t ht=>by
    rw [List.mem_singleton] at ht;subst ht;exact ⟨_,Ha (show 3<9 by omega) ld (show 0<4 by omega),(vX ld (by omega)).symm⟩
   have CQ:=ae (H5 hs3 ((aa HE).below (aa ww) hlt) (aa HT) RG (by simp) ld);rw [←aa HD] at CQ;unfold dM at CQ;clear hs3 hb3 hk3 CW;go_wp2_with fail;refine (aa CQ).mono ?_;rintro e w4 ⟨v4,K,rfl,hb4,hrun,hown⟩;rw [EG (aa HT) un0 hrun (fJ (aa HT) RG (by simp)).2.1,BZ (show 0<4 by omega)] at hown;have wy:=ae ((aa ww).trans (hb4.mono (aa ww).size));obtain ⟨g,c',e1,hc⟩:=aQ hown 0 (.string (gQ 0)) rfl;subst e1;have hu0:(gQ 0).toList== [117,115,101,114,58,117,48]:=by kernel_rfl
   clear hb4 hrun hown RG CQ;go_wp2;go_ret;exact ⟨rfl,aa wy⟩
end Go.Proofs.YtlbpnlngckgcbaaGreatDoor
namespace Go.Proofs.YtlbpnlngckgcbaaGreatDoor
open Go.ChangeShapes Go.WideShapes Go.RowKit
theorem qOwn:ownKnob Tryz.prog.godebug=none:=by kernel_rfl
theorem qVar:Tryz.prog.globalNamed "errors.errorType"=some 0:=by kernel_rfl
theorem qRt:(Tryz.prog.cutTypes.find? (·.1== "internal/reflectlite.rtype")).map (·.2)=some 325:=by kernel_rfl
theorem qSize:Tryz.prog.types.size=445:=by kernel_rfl
theorem qOne:((List.range 445).filter fun t=>Tryz.prog.rowNamed t [101,114,114,111,114])=[77]:=by kernel_rfl
theorem qLaid:laidOutB Tryz.prog=true:=by kernel_rfl
theorem KQ:Tryz.prog.globals.size=5:=by kernel_rfl
theorem qFour:((begin Tryz.prog (fun _ _=>0) default).world.heap[4]?).bind Obj.row? =some ((((begin Tryz.prog (fun _ _=>0) default).world.heap[4]?).bind Obj.row?).getD (#[],0)):=by kernel_rfl
theorem vY {H:Type} {enc:TypeId×Value→H} {a:Assume} {C:Checked} {os:Os} {f:FuncId} {fn:Func} {s:ChangeSpec} {conds:List PathCond} {apart fresh handsOn again:Bool} {X:World→Array Value→Prop}
  (hX:∀(w w':World) (args:Array Value),w.heap=w'.heap→X w args→X w' args)
  (own:ownKnob C.prog.godebug=none) (started:os.Started) (noInit:C.prog.inits.idxOf? f=none) (hfn:C.prog.funcs[f]? =some fn)
  (witness:∃(w:World) (tape:Tape) (i:Input),w.os=os∧(w.forCall tape i).Shaped C.prog∧i.vars=[]∧Input.okWide C.prog (w.forCall tape i) .any w.heap.size f i∧
   ((s.pre enc C.prog fn conds apart (w.forCall tape i).memory i.args∧X (w.forCall tape i).memory i.args)∧sizedMet enc C.prog fn (OpenSpec.ofChange s) apart (w.forCall tape i).memory i.args)∧a.holds C.prog (lone (Frame.enter C.prog f i.args .normal) [] (w.forCall tape i)))
  (contract:∀(W:World) (base:Nat) (args:Array Value) (ds gs:List (DataW H)) (before:List MemPlace),
   (∀(j:Nat) t v,fn.params[j]? =some t→args[j]? =some v→Value.okWide C.prog W .any base t v)→
   DataW.Whole enc C.prog fn.params.toList s.vars apart W args.toList ds gs before→
   conds.all (PathCond.test C.prog ⟨fn.params.toList,ds,s.plain.varTypes C.prog,gs⟩)=true→
   (DataW.weightsEach C.prog (fn.params.toList++s.plain.varTypes C.prog) (ds++gs)).all (· ≤reachBytes)=true→W.ShapedOpen C.prog→X W args→
   a.holds C.prog (lone (Frame.enter C.prog f args .normal) [] W)→
   Calls C.prog f args W fun e W'=>∃v,e=.returned v∧s.post enc C.prog fn apart fresh handsOn again W args v W'):
  ReturnsInHanded a C os f .any (fun w args=>(s.pre enc C.prog fn conds apart w args∧X w args)∧sizedMet enc C.prog fn (OpenSpec.ofChange s) apart w args) (s.post enc C.prog fn apart fresh handsOn again):=by
 refine returnsInHanded_of_calls own started noInit witness ?_;intro w tape i _ hsh _ hok hpre hholds;obtain ⟨_,_,_,fn',hfn',_,_,_,_,hval⟩:=hok;have e:fn'=fn:=Option.some.inj (hfn'.symm.trans hfn);subst e;obtain ⟨⟨⟨ds,gs,before,hw,hc⟩,hx⟩,hz⟩:=hpre;have hw':=DataW.Whole.of_heap (w':=w.forCall tape i) (by rfl) hw;refine (contract (w.forCall tape i) w.heap.size i.args ds gs before hval hw' hc (hz.weights hw) hsh (hX _ _ _ (by rfl) hx) hholds).mono fun e W' ⟨v,he,hp⟩=> ?_
 subst he;exact ChangeSpec.post_blind hp
theorem H8 {W:World} (h:laidMetH Tryz.prog Rows.moreRow.laid W) (hs:W.ShapedOpen Tryz.prog):yN W:=by
 have h':laidMet Tryz.prog [] W∧handlesMet Tryz.prog Rows.moreRow.laid W:=h;refine ⟨?_,?_,?_⟩
 ·obtain ⟨name,u,ty,e1,e2,e3,e4,e5⟩:=h'.2 _ (List.mem_singleton.2 rfl);have en:name=[101,114,114,111,114]:=(Option.some.inj e1).symm;subst en;obtain rfl:=Option.some.inj (qRt.symm.trans e2);have hm:ty∈(List.range 445).filter fun t=>Tryz.prog.rowNamed t [101,114,114,111,114]:=List.mem_filter.2 ⟨List.mem_range.2 (by rw [←qSize];exact e3),e4⟩
  rw [qOne] at hm;obtain rfl:=List.mem_singleton.1 hm;have hh:typeHandle Tryz.prog 77=.pointer (some ⟨5,77,none⟩):=by kernel_rfl
  rw [hh] at e5;unfold Laid
  simpa using World.var?_cell qVar e5 0
 ·exact cell_of_shapedOpen_int (t:=3) (zero:=#[.int .i64 0]) (k:=.i64) hs (by rw [KQ];decide) (by kernel_rfl) rfl (by kernel_rfl) (by kernel_rfl) Tryz.underlying3
 ·obtain ⟨cs,hc,_⟩:=hs.1 4 _ _ (by rw [KQ];decide) qFour;exact lt_of_some hc
theorem H9 (os:Os) (args:Array Value):laidMetH Tryz.prog Rows.moreRow.laid ((World.doorLaid Tryz.prog 31 os).forCall (fun _ _=>0) ⟨#[],args,[]⟩).memory:=
 laidMetH_of_parts (laidMet_nil _ _) (by kernel_rfl)
theorem yP (os:Os) (started:os.Started) (H:Type) (enc:TypeId×Value→H):
  ReturnsInHanded {} Tryz.checked os 13 .any (fun w args=>(Rows.moreSpec.pre enc Tryz.prog Tryz.f13 [] false w args∧laidMetH Tryz.prog Rows.moreRow.laid w)∧sizedMet enc Tryz.prog Tryz.f13 (OpenSpec.ofChange Rows.moreSpec) false w args)
   (Rows.moreSpec.post enc Tryz.prog Tryz.f13 false true false false):=by
 refine vY (C:=Tryz.checked) (X:=fun w _=>laidMetH Tryz.prog Rows.moreRow.laid w) (fun _ _ _ hh h=>h.of_heap hh) qOwn started (by kernel_rfl) Tryz.func13
  (ChangeSpec.witness_shaped (enc:=enc) (C:=Tryz.checked) (os:=os) (X:=fun w _=>laidMetH Tryz.prog Rows.moreRow.laid w) false (World.doorLaid Tryz.prog 31 os) #[.slice none 0 0,.int .i64 0] 8 rfl (World.shaped_of_RefB (by kernel_rfl) (by kernel_rfl)) (by kernel_rfl) (by kernel_rfl) (by kernel_rfl) (H9 os _)) ?_
 intro W base args ds gs before KR hW _ hwt hsh hL _;have hval:∀(j:Nat) t v,Tryz.f13.params[j]? =some t→args[j]? =some v→Value.okWide Tryz.prog W .any base t v:=KR;have hW':=hW;obtain ⟨p,q,hA0,hV0,rfl,hfz,hnd⟩:=hW;have hA:DataW.TrodAll enc Tryz.prog W 0 (fun _=>true) true Tryz.f13.params.toList args.toList ds p:=hA0;have hV:DataW.TrodVars enc Tryz.prog W (fun _=>true) [] gs q:=hV0;rw [Tryz.params13] at hA hval;obtain ⟨v0,vs0,d0,ds0,p0,q0,hargs,rfl,rfl,h0,r0⟩:=trodAll_cons hA;obtain ⟨v1,vs1,d1,ds1,p1,q1,rfl,rfl,rfl,h1,r1⟩:=trodAll_cons r0;obtain ⟨rfl,rfl,rfl⟩:=trodAll_nil r1;obtain rfl:args=#[v0,v1]:=by cases args;simp_all
 obtain ⟨bad,rfl,rfl,rfl,hwb⟩:=open_int Tryz.underlying3 (hval 1 3 v1 rfl rfl) h1;have hE:=H8 hL hsh;obtain ⟨rfl,rfl⟩:gs=[]∧q=[]:=by
  cases gs with
  |nil=>exact ⟨rfl,hV⟩
  |cons g r=>exact absurd hV (by intro h;cases h)
 obtain ⟨a0,len,cap,rfl⟩:=okWide_slice Tryz.underlying44 (hval 0 44 v0 rfl rfl);clear hA0 KR;simp only [List.append_nil] at hW' hwt;obtain ⟨n,hraw,hlt,hd⟩:=J4 h0;have hn:n≤4398046511104:=by
  rcases hd with ⟨_,rfl⟩|⟨el,sp,rfl,rfl⟩
  ·omega
  ·have hb:(el.length+sp.length)*Tryz.prog.bytesOf 50≤reachBytes:=sized_slice (j:=0) (t:=44) hwt (by
    show (Tryz.f13.params.toList++[])[0]? =_
    rw [Tryz.params13]
    rfl) rfl Tryz.underlying44
   rw [J3] at hb;have:reachBytes=140737488351232:=rfl;omega
 refine (H6 _ n bad W hraw hn (vW hwb) hE).mono fun e W' ⟨he,hb⟩=> ?_
 subst he;exact ⟨_,rfl,_,_,_,[],p0,[],hW',trodAll_mk1 (shut_bool Tryz.underlying4 true),by
  have:=trodAll_cons_mk (Below.trod qLaid (by kernel_rfl) (of_decide_eq_true (by kernel_rfl)) h0 hb hlt) (trodAll_cons_mk (shut_int Tryz.underlying3 hwb) trodAll_mk0);simp only [List.append_nil] at this;exact this,rfl,hb.frame _,fun h=>by cases h⟩
theorem Ia:(Rows.moreRow.inPlace==Tryz.prog.inPlace 13)=true:=by kernel_rfl
theorem Ib:(Rows.moreRow.unfollowed==Tryz.prog.unfollowed 13)=true:=by kernel_rfl
theorem Ic:(Rows.moreRow.recurses==Tryz.prog.recurses 13)=true:=by kernel_rfl
theorem Ie:(Rows.moreRow.named==Tryz.prog.varsNamed 13)=true:=by kernel_rfl
theorem J9:joinedFacts Tryz.prog 13 Tryz.f13 Rows.moreSpec Rows.moreRow=true:=by
 unfold joinedFacts;rw [Ia,Ib,Ic,Ie]
 kernel_rfl
theorem Ig:Rows.MoreSaid:=
 OpenClaim.holds_of_wide 13 Tryz.f13 rfl rfl rfl rfl rfl rfl rfl ⟨rfl,rfl,rfl,rfl,rfl⟩ rfl rfl rfl rfl rfl (by kernel_rfl) Tryz.func13 J9
  (of_decide_eq_true (by kernel_rfl)) (by unfold Func.isWrapper;rw [if_neg (of_decide_eq_false (by kernel_rfl))];exact ⟨rfl,rfl⟩)
  (fun os started H enc _=>yP os started H enc)
theorem more_card:Rows.MoreCardSaid:=
 Claim7.holds_tied_plain_at .later [] [.handle] true (true,"fd20d6c549d17d85a810cd82a604e0c889f018ff3c871702bc764961d7eacfa8") true
  Ig (fun _ h=>by cases h) (by kernel_rfl) (fun _ h=>by cases h) more_row_tie rfl ⟨rfl,rfl⟩ (by kernel_rfl) rfl
  (fun f fn hf hfn=>by
   obtain rfl:f=13:=Option.some.inj ((show Tryz.prog.funcNamed Tryz.f13.name=some 13 by kernel_rfl).symm.trans hf) |>.symm;obtain rfl:fn=Tryz.f13:=(Option.some.inj (Tryz.func13.symm.trans hfn)).symm;exact ⟨by kernel_rfl,fun j t ht=>by
    rw [Tryz.params13] at ht;have h3:t=44∨t=3:=by
     rcases j with _|_|j
     ·exact .inl (by simpa using ht.symm)
     ·exact .inr (by simpa using ht.symm)
     ·simp at ht
    rcases h3 with rfl|rfl
    ·exact (show Tryz.prog.wantsStandIn 44=false by kernel_rfl)
    ·exact (show Tryz.prog.wantsStandIn 3=false by kernel_rfl)⟩)
  (by kernel_rfl)
#print axioms more_card
end Go.Proofs.YtlbpnlngckgcbaaGreatDoor
