import Derived.Test.YtlbpnlngckgcbaaGreatDoorM17
import Derived.Test.YtlbpnlngckgcbaaGreatDoorM16
import Derived.Shelf.Sort.Plain
import Derived.Shelf.Slices.In.SortNone
set_option linter.all false
set_option maxHeartbeats 4000000
set_option maxRecDepth 100000
namespace Go.Proofs.YtlbpnlngckgcbaaGreatDoor
open Go.RowKit Go.PlainAid Go.Proofs.Tryz
section
variable {aA aU:Prop}
def XL (h:aA:=by
 rw [hq] at HF;obtain rfl:=ak HF;clear HF;exact Q6):aA:=h
def XN (h:aA:=by
 obtain rfl:=ak HF;clear hbs HF;exact Q6):aA:=h
def Q7 (h:aA:=by
 rcases four ok has thing word with rfl|⟨rfl,rfl⟩|⟨rfl,rfl,rfl⟩|⟨rfl,rfl,rfl,rfl⟩|⟨rfl,rfl,rfl,rfl⟩
 all_goals (
  go_wp2;refine bq (v:=.tuple #[.agg ((Tu.mk kind id rel su sw BR).cells s),.bool _]) (bR results131 _ _ w.heap.size _ 264 _ _ rfl rfl ?_ underlying264 rfl aw) rfl ?_
  ·exact ⟨_,(cM R6),bc⟩
  ·exact ⟨rfl,(cd B6)⟩)):aA:=h
def Q6 (h:aA:=by
 go_wp2_with fail;refine (C9.u _).mono ?_;rintro e A ⟨rfl,rfl⟩;have V:=R7.u.fz;have D:A.cell? ⟨w.heap.size,0,none⟩=some (.string ⟨#[]⟩):=R7.u.cell rfl;have I:A.cell? ⟨w.heap.size,1,none⟩=some (.string ⟨#[]⟩):=R7.u.cell rfl;have J:A.cell? ⟨w.heap.size,2,none⟩=some (.string ⟨#[]⟩):=R7.u.cell rfl;have r3:A.cell? ⟨w.heap.size,3,none⟩=some (.string ⟨#[]⟩):=R7.u.cell rfl;have Q:A.cell? ⟨w.heap.size,4,none⟩=some (.string ⟨#[]⟩):=R7.u.cell rfl;have R:A.cell? ⟨w.heap.size,5,none⟩=some (.string ⟨#[]⟩):=R7.u.cell rfl;have U:A.cell? ⟨w.heap.size,6,none⟩=some (.string ⟨#[]⟩):=R7.u.cell rfl;have rl:=R7.u.lt;have C:¬(w.heap.size=A.heap.size):=aj
 rcases four ok has thing word with rfl|⟨rfl,rfl⟩|⟨rfl,rfl,rfl⟩|⟨rfl,rfl,rfl,rfl⟩|⟨rfl,rfl,rfl,rfl⟩
 all_goals (
  go_wp2;refine bq (v:=.tuple #[.agg ((Tu.mk kind id rel su jB BR).cells s),.bool _]) (bR results131 _ _ w.heap.size _ 264 _ _ rfl rfl ?_ underlying264 rfl aw) rfl ?_
  ·exact ⟨_,(cM R7),bc⟩
  ·exact ⟨rfl,(cd B7)⟩)):aA:=h
def Q8(q:aU) (h:bF aU->aA:=by
 intro zq;have rz:=R6.u.fz;have r0:w9.cell? ⟨w.heap.size,0,none⟩=some (.string ⟨#[]⟩):=R6.u.cell rfl;have r1:w9.cell? ⟨w.heap.size,1,none⟩=some (.string ⟨#[]⟩):=R6.u.cell rfl;have r2:w9.cell? ⟨w.heap.size,2,none⟩=some (.string ⟨#[]⟩):=R6.u.cell rfl;have r3:w9.cell? ⟨w.heap.size,3,none⟩=some (.string ⟨#[]⟩):=R6.u.cell rfl;have r4:w9.cell? ⟨w.heap.size,4,none⟩=some (.string ⟨#[]⟩):=R6.u.cell rfl;have r5:w9.cell? ⟨w.heap.size,5,none⟩=some (.string ⟨#[]⟩):=R6.u.cell rfl;have r6:w9.cell? ⟨w.heap.size,6,none⟩=some (.string ⟨#[]⟩):=R6.u.cell rfl;have rl:=R6.u.lt;have C8:¬(w.heap.size=w9.heap.size):=aj
 revert rz r0 r1 r2 r3 r4 r5 r6 rl C8
 exact zq.1):aA:=h ⟨q⟩
def four(a b c d):a=false\/(a=true/\b=false)\/(a=true/\b=true/\c=false)\/(a=true/\b=true/\c=true/\d=false)\/(a=true/\b=true/\c=true/\d=true):=by
 cases a<;>cases b<;>cases c<;>cases d<;>simp
def wh(s w)(hs:s.size<=maxLen):
  Calls prog 131 #[.string s] w fun e w'=>e=.returned (.tuple #[.agg ((bQ s).1.cells s),.bool (bQ s).2])/\an w w':=by
 unfold bQ;have aN:=eM s 64;have ag:=ai (fun w=>lB s 64 64 rfl w hs);generalize aG s 64=aR at*;obtain ⟨l,r,ok⟩:=aR;simp only at aN ag ⊢;have aP:=eM l 35;have ah:=ai (fun w=>lB l 35 35 rfl w aj);generalize aG l 35=aS at*;obtain ⟨what,rel,has⟩:=aS;simp only at aP ah ⊢;have al:=ai (fun w=>pj what w aj);generalize ej what=aW at*;obtain ⟨kind,id,thing⟩:=aW;simp only at al ⊢;have aF:=ai (fun w=>iD rel w);generalize bz rel=word at*;have aQ:=eM r 35;have am:=ai (fun w=>lB r 35 35 rfl w aj);generalize aG r 35=aX at*;obtain ⟨who,BR,all⟩:=aX;simp only at aQ am ⊢;have ap:=ai (fun w=>pj who w aj);have ar:=ai (fun w=>lB who 58 58 rfl w aj);have C9:=ai (fun w=>iD BR w);generalize bz BR=q at*;have aH:=ai (fun w=>iD (aG who 58).1 w);obtain ⟨⟨su,sw,a1⟩,Y⟩:∃S,S=np who all:=⟨_,rfl⟩;rw [<-Y];unfold np at Y;generalize ej who=aY at*;generalize aG who 58=aZ at*;obtain ⟨sub,ww,a0⟩:=aY;obtain ⟨a,b,two⟩:=aZ;simp only at ap ar aH Y ⊢;generalize bz a=p at*;have Z:=ai Y;clear aN aP aQ hs Y;go_enter func131,ntmps131;have ab:=ai ((az _ w).alloc aD _:an w (w.alloc (.cells #[.string ⟨#[]⟩,.string ⟨#[]⟩,.string ⟨#[]⟩,.string ⟨#[]⟩,.string ⟨#[]⟩,.string ⟨#[]⟩,.string ⟨#[]⟩] 264)));have aI:=ai (aE.new w #[.string ⟨#[]⟩,.string ⟨#[]⟩,.string ⟨#[]⟩,.string ⟨#[]⟩,.string ⟨#[]⟩,.string ⟨#[]⟩,.string ⟨#[]⟩] 264);go_wp2_with fail;refine (ak ag _).mono ?_;rintro e w1 ⟨rfl,au⟩;have ac:=ai (ab.u.trans (au.mono ab.u.size));have aJ:=ai (aI.u.below au);clear au ab aI ag;go_wp2_with fail;refine (ak ah _).mono ?_;rintro e a2 ⟨rfl,av⟩;have ad:=ai (ac.u.trans (av.mono ac.u.size));have aK:=ai (aJ.u.below av);clear av ac aJ ah;go_wp2_with fail;refine (ak al _).mono ?_;rintro e a3 ⟨rfl,ax⟩;have ae:=ai (ad.u.trans (ax.mono ad.u.size));have R3:=ai (aK.u.below ax);clear ax ad aK al;go_wp2_with fail;refine (aF.u _).mono ?_;rintro e a4 ⟨rfl,rfl⟩;go_wp2_with fail;refine (ak am _).mono ?_;rintro e w5 ⟨rfl,ay⟩;have af:=ai (ae.u.trans (ay.mono ae.u.size));have aL:=ai (R3.u.below ay);clear ay ae R3 aF am;go_wp2_with fail;refine (ak ap _).mono ?_;rintro e a5 ⟨rfl,aB⟩;have B6:=ai (af.u.trans (aB.mono af.u.size));have R6:=ai (aL.u.below aB);clear aB af aL ap
 cases a0
 ·cases all
  ·have Y:=Z.u;simp only [Bool.not_false,Bool.and_self,if_true,gM] at Y;obtain ⟨rfl,rfl,aM⟩:=Y;have HF:=ai aM;clear aM Z;go_wp2_with fail;refine (ak ar _).mono ?_;rintro e a6 ⟨rfl,aC⟩;have B7:=ai (B6.u.trans (aC.mono B6.u.size));have R7:=ai (R6.u.below aC);clear aC B6 R6 ar;go_wp2_with fail;refine (ak aH _).mono ?_;rintro e a7 ⟨rfl,rfl⟩;have hbs:eqs b jB=(b.toList== [42]):=by unfold eqs jB;rw [aO];rfl
   cases two
   ·simp only [eB] at HF;exact XN
   cases p
   ·simp only [fE,eB] at HF;exact XN
   simp only [fE] at HF;rw [hbs] at HF;clear hbs
   cases hq:(b.toList== [42])
   ·exact XL
   exact XL
  have Y:=Z.u;simp only [Bool.not_false,Bool.not_true,oY,bH,aV,gM] at Y;obtain ⟨rfl,rfl,rfl⟩:=Y;clear Z;go_wp2_with fail;refine (C9.u _).mono ?_;rintro e w9 ⟨rfl,rfl⟩;refine Q8 ?_;intro rz r0 r1 r2 r3 r4 r5 r6 rl C8;exact Q7
 ·have Y:=Z.u;simp only [Bool.not_true,eB,bH,aV,gM] at Y;obtain ⟨rfl,rfl,rfl⟩:=Y;clear Z;go_wp2_with fail;refine (C9.u _).mono ?_;rintro e w9 ⟨rfl,rfl⟩;refine Q8 ?_;intro rz r0 r1 r2 r3 r4 r5 r6 rl C8
  cases all
  ·skip
   exact Q7
  skip
  exact Q7
end
variable {aA aU:Prop}
abbrev GQ:=@List.eraseIdx_of_length_le
def wi(q:aU) (h:bF aU->aA:=by
 intro zq;refine (ak C1).mono ?_;rintro e w1 ⟨rfl,hb1⟩;have B1:=ai (hb1.alloc hb1.size (.cells #[.string T.kind,.string T.id,.string T.rel,.string T.sub,.string T.who,.string T.of,.string s] 264))
 revert w1 hb1 B1
 exact zq.1):aA:=h ⟨q⟩
def GS(q:aU) (h:bF aU->aA:=by
 intro zq;refine (ak CP _ B1.u).mono ?_;rintro e w2 ⟨rfl,hb2⟩;have B2:=ai (B1.u.trans (hb2.mono B1.u.size));clear hb2
 revert w2 B2
 exact zq.1):aA:=h ⟨q⟩
def DP(ss:List ae)(s:ae):Nat×List ae:=if dC s=false then (2,ss) else if j9 ss s<0 then (9,ss) else (0,ss.eraseIdx (j9 ss s).toNat)
def GU(b:Nat)(tv:ag)(k:Nat):Prop:=k=b\/∃n c,tv=.slice (some ⟨k,0,none⟩) n c
def iL(b:Nat)(mp tv:ag)(w:af)(r:Nat×List ae)(e:Ending)(w':af):Prop:=∃h,e=.returned (.int .i64 r.1)/\DU w' b mp h r.2/\bG (GU b tv) w w'/\(∀k,GU b h k->GU b tv k\/w.heap.size<=k)
variable {b:Nat} {mp tv:ag} {w w':af} {ss:List ae}
def iL.same(h:DU w b mp tv ss)(k:an w w')(c):iL b mp tv w (c,ss) (.returned (.int .i64 c)) w':=⟨tv,rfl,h.below k,.of_below k,fun _ h=> .inl h⟩
def Tryz.infoDT:(Tryz.prog.info? 264).map (fun i=>(i.zero,i.size,i.bytes))=some (some (.agg #[.string ⟨#[]⟩,.string ⟨#[]⟩,.string ⟨#[]⟩,.string ⟨#[]⟩,.string ⟨#[]⟩,.string ⟨#[]⟩,.string ⟨#[]⟩]),7,112):=by kernel_rfl
variable {l:List ae} {x:ae} {k:Nat}
def VI(h:j9 l x=k):k<l.length:=by
 unfold j9 at h
 split at h
 ·rename_i i hi;rw [kS] at hi;obtain ⟨hl,_⟩:=hi;omega
 omega
variable {a:Nat}
def GV(A:k<ss.length)(C:k≠a):(ss.take (k+1)).eraseIdx a=(ss.take k).eraseIdx a++[ss[k]]:=by
 rw [cJ A]
 by_cases h:a<k
 ·rw [List.eraseIdx_append_of_lt_length mN]
 rw [GQ aM,GQ mN]
def Q9(A:a<ss.length):(ss.take (a+1)).eraseIdx a=(ss.take a).eraseIdx a:=by
 rw [cJ A,List.eraseIdx_append_of_length_le mN,GQ (l:=ss.take a) mN];have:a-(ss.take a).length=0:=by rw [dO];omega
 rw [this];simp
def DQ(b s w mp tv ss)(h:DU w b mp tv ss)(hs:s.size<=maxLen):
  Calls prog 85 #[.pointer (some ⟨b,0,none⟩),.string s] w (iL b mp tv w (DP ss s)):=by
 have C1:=ai (wh s w hs);rw [Pu] at C1;unfold Tu.cells at C1;have H:=ai h;have CP:=ai (fun w' (k:an w w')=>yL b s w' mp tv ss (h.below k));have a7:=h.blk.lt;unfold DP;generalize aQ:(bQ s).1=T at C1;clear aQ
 cases ho:dC s
 ·rw [ho] at C1;rw [if_pos rfl];generalize j9 ss s=n at*;clear h hs ho;go_enter func85,ntmps85;go_wp2_with fail;refine wi ?_;intro w1 hb1 B1;clear hb1 C1;go_wp2_with fail;refine GS ?_;intro w2 B2;clear CP B1;go_wp2;go_ret;exact iL.same H.u B2.u 2
 ·rw [ho] at C1;rw [if_neg ar];clear ho hs
  by_cases hi:j9 ss s<0
  ·rw [if_pos hi];generalize j9 ss s=n at*;clear h;go_enter func85,ntmps85;go_wp2_with fail;refine wi ?_;intro w1 hb1 B1;clear hb1 C1;go_wp2_with fail;refine GS ?_;intro w2 B2;clear CP B1;go_wp2;go_ret;exact iL.same H.u B2.u 9
  rw [if_neg hi];obtain ⟨a,ha⟩:∃a:Nat,j9 ss s=a:=⟨(j9 ss s).toNat,aj⟩;have a6:=VI ha;rw [ha,j4];rw [ha] at CP;obtain ⟨ta,tc,rfl⟩:=ax h.row;have a9:=h.most;have a5:¬((a:Int)<0):=aj;obtain ⟨i0,ah,az,aB,aC⟩:=bK Tryz.infoDT;have aF:=ai ah;have aK:=ai az;have aL:=ai aB;have aN:=ai aC;clear h hi ha ah az aB aC;go_enter func85,ntmps85;go_wp2_with fail;refine wi ?_;intro w1 hb1 B1;clear hb1 C1;go_wp2_with fail;refine GS ?_;intro w2 B2;clear CP B1;go_wp2_with fail
  go_loopw [8,9] (fun a1 ab wr=>∃(k:Nat)(L:List ae),k<=ss.length/\ab=.int .i64 k/\an w wr/\wr.ownsRow w.heap.size 264 7 a1 L.length (L.flatMap EV)/\L.length<=k/\Hid (L=(ss.take k).eraseIdx a)) (fun _ ab _=>ss.length-(intOf ab).toNat)
  case atStart=>exact ⟨0,[],aj,rfl,B2.u,bL,ar,ai ar⟩
  case round=>
   obtain ⟨k,L,al,rfl,D,R,a4,U⟩:=hrel;obtain ⟨Y,Z,rfl⟩:=ax R;have HB:=ai D;have Q:=ai R;have ba:=D.size;have I:=H.u.below D;obtain ⟨c0,c1⟩:=hY I.blk
   by_cases ap:k<ss.length
   ·have aW:(k:Int)<(ss.length:Int):=by omega
    obtain ⟨g,c,e1,hc⟩:=bf EV 7 (fun _=>rfl) I.row k ss[k] (aH ap);simp only [aI,bU] at e1;obtain ⟨rfl,rfl⟩:=e1;have C:=ak U
    by_cases J:k=a
    ·have aX:((k:Int) != (a:Int))=false:=by rw [J];simp
     have aY:((k:Int)==(a:Int))=true:=by rw [J];simp
     have V:=ai (by rw [C,J];exact (Q9 aj).symm:L=(ss.take (k+1)).eraseIdx a);clear D R I hc C J;go_wp2;go_roundw
     case rel=>exact ⟨k+1,L,aj,by go_num,HB.u,Q.u,aj,V⟩
     case measure=>simp [intOf];omega
    have aX:((k:Int) != (a:Int))=true:=by rw [hP];omega
    have aY:((k:Int)==(a:Int))=false:=by rw [b6];omega
    have V:=ai (by rw [C,GV ap J]:L++[ss[k]]=(ss.take (k+1)).eraseIdx a);generalize ss[k]=y at*;have k0:wr.cell? ⟨g,k*7,none⟩=some (.string (bQ y).1.kind):=hc 0 _ aj rfl;refine Aj ?_;intro k1 k2 k3 k4 k5;have bb:=hc 6 _ aj rfl;have af:EV y=[.string (bQ y).1.kind,.string (bQ y).1.id,.string (bQ y).1.rel,.string (bQ y).1.sub,.string (bQ y).1.who,.string (bQ y).1.of,.string y]:=rfl;generalize (bQ y).1=A at*;have aJ:=ai af;clear D R I hc C J af;go_wp2_with (at_builtin;go_must (refine bI _ rfl _ _ 260 rfl w.heap.size 264 i0 _ 7 112 underlying260 aF.u aK.u aL.u aN.u rfl au (.slice Y L.length Z) L.length (L.flatMap EV) rfl ?hown ⟨wr.heap.size,0,none⟩ 1 1 [.string A.kind,.string A.id,.string A.rel,.string A.sub,.string A.who,.string A.of,.string y] rfl rfl ?hnews ?hone au ?h63 ?hbytes ?hbase (wr.heap.size+1) ?hH ?hrest))
    case hown=>exact Q.u.alloc _
    case hnews=>exact bu (B:=wr.heap.size) (cs:=#[.string A.kind,.string A.id,.string A.rel,.string A.sub,.string A.who,.string A.of,.string y]) (t:=264) (fr:=(0,0)) (aE.new _ _ _)
    case hone=>
     intro u aw;simp at aw
     rcases aw with rfl|rfl|rfl|rfl|rfl|rfl|rfl<;>rfl
    case h63=>unfold maxLen;omega
    case hbytes=>omega
    case hbase=>have:=HB.u.size;simp;omega
    case hH=>simp
    case hrest=>
     intro g5 aT w5 av ag aR a8;have ac:=Q.u.alloc (.cells #[.string A.kind,.string A.id,.string A.rel,.string A.sub,.string A.who,.string A.of,.string y] 264);have aD:=ai (ct (HB.u.alloc HB.u.size (.cells #[.string A.kind,.string A.id,.string A.rel,.string A.sub,.string A.who,.string A.of,.string y] 264)) ag xY (fun k al=>(ac.lt k al).1));have aO:=ai (show w5.ownsRow w.heap.size 264 7 (.slice (some ⟨g5,0,none⟩) (L.length+1) aT) (L++[y]).length ((L++[y]).flatMap EV) from by
      rw [show (L++[y]).length=L.length+1 by simp,cT,List.flatMap_singleton,aJ.u];exact av)
     clear ac av ag aR;go_wp2;go_roundw
     case rel=>exact ⟨k+1,L++[y],aj,by go_num,aD.u,(by have:=aO.u;rw [show (L++[y]).length=L.length+1 by simp] at this ⊢;exact this),aM,V⟩
     case measure=>simp [intOf];omega
   have aW:¬((k:Int)<(ss.length:Int)):=aj;have C:L=ss.eraseIdx a:=by
    have:=ak U;rw [dy aj] at this;exact this
   have ad:=ai I.blk;have a3:=I.blk.fz;have aG:=ai C;clear D R I U C;go_wp2;go_ret;have C:=aG.u;have aP:GU b (.slice ta ss.length tc) b:=.inl rfl;have am:∀g n c,Value.slice Y L.length Z=.slice (some ⟨g,0,none⟩) n c->w.heap.size<=g:=fun g n c e=>by
    have aZ:=Q.u;simp only [aI] at e;obtain ⟨rfl,_,_⟩:=e;obtain ⟨a2,D,aS⟩:=dx aZ;exact aS
   refine ⟨.slice Y L.length Z,rfl,⟨ad.u.set 1 _,?_,?_,by show (ss.eraseIdx a).length<=1000;rw [<-C];omega⟩,(bG.of_below HB.u).set aP _,?_⟩
   ·show World.ownsRow _ 0 264 7 _ (ss.eraseIdx a).length ((ss.eraseIdx a).flatMap EV)
    rw [<-C];refine ay (hT Q.u) (fun g' cs f _ aV=>dN _ _ _ _ (fun (e':g'=b)=> ?_));subst e';have:=ad.u;unfold aE at this;rw [aV] at this;simp at this
   ·intro g n c e e';have:=am g n c e;omega
   rintro a0 (rfl|⟨n,c,e⟩)
   ·exact .inl (.inl rfl)
   exact .inr (am a0 n c e)
def Ui(rl:List RV)(h:Nat->List Gr)(ss:List ae)(s:ae):Nat×List ae:=if dC s=false then (2,ss) else if aY (bQ s).1.kind (bQ s).1.rel rl 0<0 then (5,ss) else if (h (aY (bQ s).1.kind (bQ s).1.rel rl 0).toNat).any (i8 (bQ s).1)=false then (7,ss) else if 0<=j9 ss s then (4,ss) else if ss.length=24 then (8,ss) else (0,ss++[s])
variable {g5 aT:Nat} {s:ae} {W w5:af} {o:Obj}
def Ra{ta tc}(H:DU w b mp (.slice ta ss.length tc) ss)(hB:an w W)(I:ss.length<1000)(C:(W.alloc o).drew.grownBy w5 (Value.slice ta ss.length tc).ownBlock)(O5:w5.ownsRow 0 264 7 (.slice (some ⟨g5,0,none⟩) (ss.length+1) aT) (ss.length+1) (ss.flatMap EV++EV s))(A5:(Value.slice ta ss.length tc).ownBlock=some g5\/g5=W.heap.size+1)(K5:aE w5 b #[mp,.slice ta ss.length tc] 262):
  iL b mp (.slice ta ss.length tc) w (0,ss++[s]) (.returned (.int .i64 0)) (w5.setCell ⟨b,1,none⟩ (.slice (some ⟨g5,0,none⟩) (ss.length+1) aT)):=by
 have Vl:∀k,(Value.slice ta ss.length tc).ownBlock=some k->GU b (.slice ta ss.length tc) k:=fun k hk=>by
  exact PA
 have D:=(hB.alloc hB.size o).drew;refine ⟨_,rfl,⟨K5.set 1 _,?_,?_,by show (ss++[s]).length<=1000;simp;omega⟩,((bG.of_below D).trans (dr C Vl)).set (.inl rfl) _,?_⟩
 ·show World.ownsRow _ 0 264 7 _ (ss++[s]).length ((ss++[s]).flatMap EV)
  have:=bN O5 K5 au 1 (.slice (some ⟨g5,0,none⟩) (ss.length+1) aT);exact PD
 ·exact Xs
 ·exact Xr
def GW(b bm s w kv rv pv tv kl rl pl l ss dE)(h:DU w b (.pointer (some ⟨bm,5,none⟩)) tv ss)(al:DM w bm kv rv pv kl rl pl l)(ah:nO rl pl dE)(hs:s.size<=maxLen)(bw:ss.length<1000):
  Calls prog 84 #[.pointer (some ⟨b,0,none⟩),.string s] w (iL b (.pointer (some ⟨bm,5,none⟩)) tv w (Ui rl dE ss s)):=by
 have C1:=ai (wh s w hs);rw [Pu] at C1;unfold Tu.cells at C1;have H:=ai h;have aM:=ai (fun w' (k:an w w')=>yL b s w' _ tv ss (h.below k));have bx:=h.blk.lt;have bp:=ai (show EV s=[.string (bQ s).1.kind,.string (bQ s).1.id,.string (bQ s).1.rel,.string (bQ s).1.sub,.string (bQ s).1.who,.string (bQ s).1.of,.string s] from rfl);unfold Ui;generalize (bQ s).1=T at*;obtain ⟨r,A⟩:∃r,r=(if dC s=false then (2,ss) else if aY T.kind T.rel rl 0<0 then (5,ss) else if (dE (aY T.kind T.rel rl 0).toNat).any (i8 T)=false then (7,ss) else if 0<=j9 ss s then (4,ss) else if ss.length=24 then (8,ss) else (0,ss++[s])):=⟨_,rfl⟩;rw [<-A]
 cases ho:dC s
 ·rw [ho] at C1 A;rw [if_pos rfl] at A;subst A;clear h hs ho al ah;go_enter func84,ntmps84;go_wp2_with fail;refine wi ?_;intro w1 hb1 B1;clear hb1 C1;go_wp2;go_ret;exact iL.same H.u B1.u 2
 ·rw [ho] at C1 A;rw [if_neg ar] at A;have Y:=ai A;have aL:=ai (fun w' (k:an w w')=>dV bm kv rv pv kl rl pl l T.kind T.rel w' (al.below k));have av:=ai (fun (q:Nat) (aH:aY T.kind T.rel rl 0=(q:Int)) (ap:q<rl.length) w' (k:an w w')=>LH b bm s T w' kv rv pv tv kl rl pl l ss (h.below k) (al.below k) q (dE q) aH (ah q ap).1 (ah q ap).2);have ay:=ai (cP T.kind T.rel rl 0);obtain ⟨ta,tc,rfl⟩:=ax h.row;clear h hs ho al ah A;go_enter func84,ntmps84;go_wp2_with fail;refine wi ?_;intro w1 hb1 B1;have aQ:=ai (H.u.below B1.u).blk;have af:=ai (aE.new w1 #[.string T.kind,.string T.id,.string T.rel,.string T.sub,.string T.who,.string T.of,.string s] 264);have bB:¬(w1.heap.size=b):=by have:=hb1.size;omega
  have bC:¬(b=w1.heap.size):=by have:=hb1.size;omega
  clear hb1 C1;go_wp2_with fail;have l1:=B1.u.size;generalize (w1.alloc (kk T.kind T.id T.rel T.sub T.who T.of s))=W at*;obtain ⟨aI,aJ⟩:=hY aQ.u;have aX:W.cell? ⟨w1.heap.size,0,none⟩=some (.string T.kind):=af.u.cell rfl;have aZ:W.cell? ⟨w1.heap.size,2,none⟩=some (.string T.rel):=af.u.cell rfl;have aw:=ai (aL.u W.drew B1.u.drew);obtain ⟨n,hn⟩:∃n,n=aY T.kind T.rel rl 0:=⟨_,rfl⟩;rw [<-hn] at aw ay Y av;clear aL hn
  go_region_held3 (fun w'=>w'.cell? ⟨b,0,none⟩=some (.pointer (some ⟨bm,5,none⟩))/\w'.cell? ⟨w1.heap.size,0,none⟩=some (.string T.kind)/\w'.cell? ⟨w1.heap.size,2,none⟩=some (.string T.rel)) (go_keep)
   ((go_at_call 132;refine (ak aw).mono ?_;rintro e I ⟨rfl,aS⟩;have Q:=ai (show an W I from (az _ W).drew.trans aS);have d0:=am aI Q.u;have d1:=am aX Q.u;have d2:=am aZ Q.u;clear aS))
  have U:=ai (B1.u.trans (Q.u.mono l1));have D:=ai (af.u.below Q.u);have l2:=U.u.size;clear d0 d1 d2 aI aJ aX aZ aw Q af aQ B1
  by_cases hn:n<0
  ·have A:=ak Y;rw [if_pos hn] at A;subst A;clear Y;go_wp2;go_ret;exact iL.same H.u U.u 5
  have A:=ak Y;rw [if_neg hn] at A;obtain ⟨q,aH,ap⟩:∃q:Nat,n=q/\q<rl.length:=by
   rcases ak ay with h|⟨j,h,_,h2⟩
   ·omega
   exact ⟨j,h,aj⟩
  subst aH;rw [j4] at A;have R:=ai A;have E:=ai (ak av q rfl ap I U.u);obtain ⟨aK,a7,a8,a9,ba,bb,bc⟩:I.cell? ⟨w1.heap.size,0,none⟩=some (.string T.kind)/\I.cell? ⟨w1.heap.size,1,none⟩=some (.string T.id)/\I.cell? ⟨w1.heap.size,2,none⟩=some (.string T.rel)/\I.cell? ⟨w1.heap.size,3,none⟩=some (.string T.sub)/\I.cell? ⟨w1.heap.size,4,none⟩=some (.string T.who)/\I.cell? ⟨w1.heap.size,5,none⟩=some (.string T.of)/\I.cell? ⟨w1.heap.size,6,none⟩=some (.string s):=⟨D.u.cell rfl,D.u.cell rfl,D.u.cell rfl,D.u.cell rfl,D.u.cell rfl,D.u.cell rfl,D.u.cell rfl⟩;generalize (dE q).any (i8 T)=bt at*;clear A Y ay av;go_wp2_with fail;refine E.u.mono ?_;rintro e bv ⟨rfl,aC⟩;have ad:=ai (U.u.trans (aC.mono l2));have aP:=ai (D.u.below aC);have F:=ai (aM.u bv ad.u);have bs:=ad.u.size;clear aC E aM U D aK a7 a8 a9 ba bb bc;generalize j9 ss s=m at*;go_wp2_with fail;refine F.u.mono ?_;rintro e C ⟨rfl,aD⟩;have V:=ai (ad.u.trans (aD.mono bs));have J:=ai (aP.u.below aD);have aB:=ai (H.u.below V.u);obtain ⟨aI,aJ⟩:=hY aB.u.blk;clear aD F ad aP
  cases bt
  ·have A:=R.u;rw [if_pos rfl] at A;subst A;clear R;go_wp2;go_ret;exact iL.same H.u V.u 7
  have A:=R.u;rw [if_neg ar] at A
  by_cases aG:0<=m
  ·rw [if_pos aG] at A;subst A;clear R;go_wp2;go_ret;exact iL.same H.u V.u 4
  rw [if_neg aG] at A;have bA:decide (0<=m)=false:=m5 aG
  by_cases ab:ss.length=24
  ·rw [if_pos ab] at A;subst A;have br:((ss.length:Int)==24)=true:=by rw [ab];rfl
   clear R ab;go_wp2;go_ret;exact iL.same H.u V.u 8
  rw [if_neg ab] at A;subst A;have br:((ss.length:Int)==24)=false:=by rw [b6];omega
  clear R ab;have aK:C.cell? ⟨w1.heap.size,0,none⟩=some (.string T.kind):=J.u.cell rfl;have a7:C.cell? ⟨w1.heap.size,1,none⟩=some (.string T.id):=J.u.cell rfl;have a8:C.cell? ⟨w1.heap.size,2,none⟩=some (.string T.rel):=J.u.cell rfl;have a9:C.cell? ⟨w1.heap.size,3,none⟩=some (.string T.sub):=J.u.cell rfl;have ba:C.cell? ⟨w1.heap.size,4,none⟩=some (.string T.who):=J.u.cell rfl;have bb:C.cell? ⟨w1.heap.size,5,none⟩=some (.string T.of):=J.u.cell rfl;have bc:C.cell? ⟨w1.heap.size,6,none⟩=some (.string s):=J.u.cell rfl;go_wp2_with fail;obtain ⟨i0,hi0,hz0,hz1,hz2⟩:=bK Tryz.infoDT;refine AE ?_;intro HI Vm Vn Vo;clear hi0 hz0 hz1 hz2;have ac:=aB.u.blk;have bE:=ac.fz;have aN:=ai aB.u.row;have bH:=cm C _ aJ;have bI:=cm C _ aK;have c7:(C.alloc (kk T.kind T.id T.rel T.sub T.who T.of s)).cell? ⟨b,1,none⟩=some (.slice ta ss.length tc):=(ac.alloc _).cell rfl;have bD:¬(b=C.heap.size):=by have:=ac.lt;omega
  have bh:=ai ac;clear ac;have bn:=ai (show ∀u∈([.string T.kind,.string T.id,.string T.rel,.string T.sub,.string T.who,.string T.of,.string s]:List ag),u.oneCell'=true from by
   intro u aW;simp only [bi,dK,dP] at aW
   rcases aW with rfl|rfl|rfl|rfl|rfl|rfl|rfl<;>rfl)
  have bg:=ai (show ss.length+1<=maxLen from by unfold maxLen;omega);have bj:=ai (show (ss.length+1)*112<=140737488355328 from aj);have bo:=ai (show 0<=(C.alloc (kk T.kind T.id T.rel T.sub T.who T.of s)).drew.heap.size from gH _);have bk:=ai (show (C.alloc (kk T.kind T.id T.rel T.sub T.who T.of s)).drew.heap.size=C.heap.size+1 from ar)
  go_region_law (refine jY _ rfl (.tmp 51) (.tmp 53) 260 rfl 0 264 i0 _ 7 112 underlying260 HI.u Vm.u Vn.u Vo.u rfl au (.slice ta ss.length tc) ss.length (ss.flatMap EV) gW (bO (aN.u.alloc _)) ⟨C.heap.size,0,none⟩ 1 1 [.string T.kind,.string T.id,.string T.rel,.string T.sub,.string T.who,.string T.of,.string s] gW rfl (bu (B:=C.heap.size) (cs:=#[.string T.kind,.string T.id,.string T.rel,.string T.sub,.string T.who,.string T.of,.string s]) (t:=264) (fr:=(0,0)) (aE.new C _ _).drew) bn.u au bg.u bj.u bo.u (C.heap.size+1) bk.u ?_;intro g5 aT w5 aV aF aR bz;have aO:=bO (aN.u.alloc (kk T.kind T.id T.rel T.sub T.who T.of s));have ae:=(bh.u.alloc (kk T.kind T.id T.rel T.sub T.who T.of s)).drew;have Z:aE w5 b _ 262:=(aF.block b ae.lt (own_ne aO ae au)).trans ae;obtain ⟨bJ,bL⟩:=hY Z;have zq:=Z.fz;have bl:=ai Z;have bf:=ai aF;have bq:=ai aV;have be:=ai aR;have bG:=Z.lt;clear aO ae Z aF aV aR)
  all_goals
   go_wp2;go_ret;exact Ra H.u V.u aj bf.u (by rw [bp.u];exact bq.u) be.u bl.u
def tJ(s:ae):Tu:=(bQ s).1
structure sm(gs:List Tu)(ss:List ae):Prop where
 eq:gs=ss.map tJ
 ok:∀y∈ss,dC y=true
def Jr{y}(h:dC s=true)(k:dC y=true)(e:tJ s=tJ y):s=y:=by
 rw [<-wj h,<-wj k];have e':(bQ s).1=(bQ y).1:=e;rw [e']
def zc{s:ae}(hs:dC s=true):∀ss:List ae,(∀y∈ss,dC y=true)->(ss.map tJ).findIdx? (oF (tJ s))=ss.findIdx? (fun y=>eqs y s)
 | [],_=>rfl
 |y::ss,h=>by
  rw [cA,List.findIdx?_cons,List.findIdx?_cons,zc hs ss (fun y A=>h y (by simp [A]))];have e:oF (tJ s) (tJ y)=eqs y s:=by
   rw [gJ,CB,bo];exact ⟨fun e=>(Jr hs (h y ar) e).symm,fun e=>by rw [e]⟩
  rw [e]
variable {gs:List Tu}
def DR(h:sm gs ss)(hs:dC s=true):kX gs (bQ s).1=j9 ss s:=by
 rw [h.eq];unfold kX j9;rw [show (bQ s).1=tJ s from rfl,zc hs ss h.ok]
 cases ss.findIdx? (fun y=>eqs y s)<;>rfl
def Rb(h:sm gs ss)(s):(AD gs s).1=(DP ss s).1/\sm (AD gs s).2 (DP ss s).2:=by
 unfold AD DP
 by_cases h1:dC s=false
 ·rw [if_pos h1,if_pos h1];exact ⟨rfl,h⟩
 rw [if_neg h1,if_neg h1,DR h (by simpa using h1)]
 by_cases h2:j9 ss s<0
 ·rw [if_pos h2,if_pos h2];exact ⟨rfl,h⟩
 rw [if_neg h2,if_neg h2];refine ⟨rfl,?_,fun y A=>h.ok y (List.mem_of_mem_eraseIdx A)⟩;rw [h.eq,Al,Al,cO,List.map_take,List.map_drop]
abbrev G8:=@List.takeWhile_append_dropWhile
abbrev lh:=@Below.trans
def zc13q (h:aA:=by
 have:=HB.u.size;have:=HD.u.size;omega):aA:=h
def Rn (h:aA:=by
 intro J Q U C A;have I:=ai (show U.ownsRow w.heap.size 9 1 (.slice J (a+1+(k-a)) Q) (k+1) (dF (lL O x)) from by
  have e:dF (lL O x)=dF (O.take a)++ .string x::dF (O.drop a):=by rw [LM.u];simp [dF]
  rw [e,show k+1=a+1+(k-a) by omega];exact Jv C zc13q)
 have D:=ai (HB.u.trans ((lh HD.u ((ct B2.u A hs2 (fun k R=>(M2.u.lt k R).1)).mono hsd)).mono HB.u.size));clear C A;go_wp2;go_roundw
 case rel=>exact ⟨k+1,aj,by go_num,D.u,by rw [HST.u];exact I.u⟩
 case measure=>simp [intOf];omega):aA:=h
def Ro (h:aA:=by
 exact Src.ofSlice w underlying22 _ _ _ _ ar (fun j u A=>by simp at A) (fun u C=>by simp at C)):aA:=h
def Rp (h:aA:=by
 simp only [aI,aL,ce] at e1;obtain ⟨⟨rfl,_⟩,_⟩:=e1;exact h'):aA:=h
def Rq (h:aA:=by
 rcases h.2 with ⟨_,h⟩|⟨g,cap,A,e1,_⟩
 ·exact h
 simp at e1):aA:=h
def Rr (h:aA:=by
 exact ⟨fun h=>aj,fun _=>⟨rfl,Src.ofNil w underlying22 _⟩⟩):aA:=h
def G9(q:aU) (h:bF aU->aA:=by
 intro zq;have xR:=M1.u.alloc (dn x);have B2:=ai (ct (B1.u.alloc B1.u.size (dn x)) hgrow2 aM (fun k hk=>(xR.lt k hk).1));have xF:=aB Ha.u B2.u;have M2:=ai hown2
 revert xR B2 xF M2
 exact zq.1):aA:=h ⟨q⟩
def Hb(q:aU) (h:bF aU->aA:=by
 intro zq;have hot1:=aB Ha.u B1.u;have Hc:=cellAt (aB (aB (aB H.u HB.u) HD.u) B1.u) HX.u;have M1:=ai hown1;have hs1:=B1.u.size;clear hot1
 revert Hc M1 hs1
 exact zq.1):aA:=h ⟨q⟩
def Hf(q:aU) (h:bF aU->aA:=by
 intro zq;have hco:k<=oc:=qz VP;have Y1:=ai VP;have s1:a<=oc:=aj;have s2:a<=k:=aj
 revert hco Y1 s1 s2
 exact zq.1):aA:=h ⟨q⟩
def DX(a b:ae):Bool:=Op.bytesLess a.toList b.toList
def lL(l:List ae)(x:ae):List ae:=l.takeWhile (DX · x)++x::l.dropWhile (DX · x)
def kK(l:List ae):List ae:=l.foldl lL []
def dF(l:List ae):List ag:=l.map .string
def Rs(l:List ae)(x:ae):(lL l x).length=l.length+1:=by
 have:=congrArg List.length (G8 (p:=(DX · x)) (l:=l));rw [aZ] at this;unfold lL;rw [aZ,iC];omega
def xG(l:List ae):∀a,(l.foldl lL a).length=a.length+l.length:=by
 induction l with
 |nil=>intro a;rfl
 |cons x l ih=>intro a;rw [List.foldl_cons,ih,Rs,iC];omega
def zf(l:List ae):(kK l).length=l.length:=by rw [kK,xG];simp
def Hg(h:k<l.length):kK (l.take (k+1))=lL (kK (l.take k)) l[k]:=by
 rw [cJ h,kK,List.foldl_append];rfl
variable {O:List ae}
def Jw(ha:a<=O.length)(h1:∀j,(h:j<a)->(A:j<O.length)->DX O[j] x=true)(h2:(h:a<O.length)->DX O[a] x=false):lL O x=O.take a++x::O.drop a:=by
 have e:=fl (DX · x) O a h1 ha h2;unfold lL;rw [fC,fD,e]
def wq(P:Program)(size:Nat)(t:TypeId)(C:ag)(m:Nat)(h:List ag)(w:af):Prop:=(0<m->∃A c,C=.slice (some A) m c/\h.length=m*size/\∀j u,h[j]? =some u->w.cell? (A.add j)=some u)/\(m=0->h=[]/\Src P size t C 0 [] w)
variable {P:Program} {rest:List Oper}
def dt{ab:Array Oper}{o:Oper}{a:Act}{Q:Exit->Act->af->Prop}(R:o.guard=none)(s x:Operand)(t:TypeId)
  (ho:o.op=.call {callee:=.builtin .append,args:=#[s,x],argTypes:=#[t,t]})
  (base:Nat) (e:TypeId) (i:TypeInfo) (z:ag) (size bytes:Nat) (Z:P.underlying t=some (.slice e)) (hi:P.info? e=some i) (an:i.zero=some z)
  (Y:i.size=size) (aj:i.bytes=bytes) (ap:z.cells.size=size) (am:0<size)
  (v:ag) (n:Nat) (I:List ag) (hs:a.eval s=v) (C:w.ownsRow base e size v n I)
  (J:ag) (m:Nat) (D:List ag) (hx:a.eval x=J) (V:wq P size t J m D w) (h1:∀u∈D,u.oneCell'=true)
  (ae:n+m<=maxLen) (ak:(n+m)*bytes<=140737488355328) (ai:base<=w.heap.size)
  (h:∀A cv w',w'.ownsRow base e size (.slice A (n+m) cv) (n+m) (I++D)->w.grownBy w' v.ownBlock->wpList P ab Q rest (a.put o.dst (.slice A (n+m) cv)) w'):wpList P ab Q (o::rest) a w:=by
 by_cases U:0<m
 ·obtain ⟨ac,c,rfl,hl,hn⟩:=V.1 U;exact bI w R s x t ho base e i z size bytes Z hi an Y aj ap am v n I hs C ac m c D hx hl hn h1 U ae ak ai _ rfl (fun g5 cap w' h2 ad ar au=>h _ cap w' h2 ad)
 ·obtain rfl:m=0:=by omega
  obtain ⟨rfl,al⟩:=V.2 rfl;obtain ⟨A,cv,rfl⟩:=ax C;refine wpList_plain R fun K ah=> ?_
  have hrun:=run_append_nothing (P:=P) w t t o.type e i Z hi A n cv (qz C) J (by rw [Y];exact al);refine Qe ?_;exact ah _ _ (h A cv w (by simpa using C) ⟨rfl,rfl,rfl,bY _,fun _ _ _=>rfl⟩)
variable {base g oc:Nat}
def zh(h:w.ownsRow base 9 1 (.slice (some ⟨g,0,none⟩) k oc) k (dF O))(ha:a<=k):wq prog 1 22 (.slice (some ⟨g,0,none⟩) a oc) a (dF (O.take a)) w:=by
 have U:O.length=k:=by have:=h.1;simpa [dF] using this
 refine ⟨fun I=>⟨⟨g,0,none⟩,oc,rfl,by simp [dF];omega,fun j u D=> ?_⟩,fun I=>⟨by subst I;rfl,?_⟩⟩
 ·have Q:(dF O)[j]? =some u:=by
   simp only [dF,List.map_take,vb] at D
   split at D
   ·exact D
   simp at D
  obtain ⟨g',R,e1,J⟩:=aS h j u Q;simp only [aI,aL,ce] at e1;obtain ⟨⟨rfl,_⟩,_⟩:=e1;rw [Addr.add_lit,pE];exact J
 subst I;exact Ro
def zi{D:Option Addr}(h:w.ownsRow base 9 1 (.slice (some ⟨g,0,none⟩) k oc) k (dF O))(ha:a<=k)(Q:D=if oc=a then some ⟨g,0,none⟩ else some ⟨g,a,none⟩):wq prog 1 22 (.slice D (k-a) (oc-a)) (k-a) (dF (O.drop a)) w:=by
 have ab:O.length=k:=by have:=h.1;simpa [dF] using this
 have Z:=qz h;refine ⟨fun J=>⟨⟨g,a,none⟩,oc-a,?_,by simp [dF];omega,fun j u U=> ?_⟩,fun J=>⟨?_,?_⟩⟩
 ·rw [Q,if_neg aj]
 ·have V:(dF O)[a+j]? =some u:=by
   simpa only [dF,List.map_drop,rb] using U
  obtain ⟨g',Y,e1,R⟩:=aS h (a+j) u V;simp only [aI,aL,ce] at e1;obtain ⟨⟨rfl,_⟩,_⟩:=e1;rw [Addr.add_lit];exact R
 ·rw [ei aj];rfl
 rw [J];obtain ⟨I,rfl⟩:∃I,D=some I:=by
  rw [Q]
  split
  ·exact ⟨_,rfl⟩
  exact ⟨_,rfl⟩
 exact Ro
variable {n m c:Nat}
def cellAt(h:w.ownsRow base 9 1 (.slice (some ⟨g,0,none⟩) n c) m (dF l))(A:(dF l)[k]? =some (.string x)):w.cell? ⟨g,k,none⟩=some (.string x):=by
 obtain ⟨g',C,e1,h'⟩:=aS h k (.string x) A;exact Rp
variable {B size:Nat} {e:TypeId} {v:ag} {xs:List ag}
def Jv{A:Nat}(h:w.ownsRow A e size v n xs)(D:B<=A):w.ownsRow B e size v n xs:=by
 rcases h with ⟨h0,h|⟨g,cap,C,e1,I,h⟩⟩
 ·exact ⟨h0,.inl h⟩
 exact ⟨h0,.inr ⟨g,cap,C,e1,aP D I,h⟩⟩
def Hh(h:w.ownsRow base 9 1 (.slice none k oc) k (dF O))(ha:a<=k):wq prog 1 22 (.slice none a oc) a (dF (O.take a)) w:=by
 obtain rfl:k=0:=by
  exact Rq
 obtain rfl:a=0:=aj;exact Rr
def Hi(h:w.ownsRow base 9 1 (.slice none k oc) k (dF O))(ha:a<=k):wq prog 1 22 (.slice none (k-a) (oc-a)) (k-a) (dF (O.drop a)) w:=by
 obtain rfl:k=0:=by
  exact Rq
 obtain rfl:a=0:=aj;have C:O=[]:=by have:=h.1;simpa [dF] using this
 subst C;exact Rr
def Y2{A:Addr}(h:w.ownsRow base 9 1 (.slice (some A) k oc) n xs):∃g,A=⟨g,0,none⟩:=by
 rcases h.2 with ⟨e,h⟩|⟨g,cap,C,e1,_⟩
 ·simp at e
 simp only [aI,aL] at e1;exact ⟨g,e1.1⟩
def ov(l:List ae):∀u∈dF l,u.oneCell'=true:=by
 intro u h;simp only [dF,aN] at h;obtain ⟨x,_,rfl⟩:=h
 rfl
def Tryz.infoStr:(Tryz.prog.info? 9).map (fun i=>(i.zero,i.size,i.bytes))=some (some (.string ⟨#[]⟩),1,16):=by kernel_rfl
def Hj(base:Nat)(v:ag)(l:List ae)(w:af)(h:w.ownsRow base 9 1 v l.length (dF l))(bn:l.length<=100000):
  Calls prog 139 #[v] w fun e w'=>∃v',e=.returned v'/\an w w'/\w'.ownsRow w.heap.size 9 1 v' l.length (dF (kK l)):=by
 obtain ⟨bp,bq,rfl⟩:=ax h;have H:=ai h;obtain ⟨i0,aW,a3,a4,a5⟩:=bK Tryz.infoStr;have Y:=ai aW;have Z:=ai a3;have ab:=ai a4;have ac:=ai a5;clear h aW a3 a4 a5;go_enter func139,ntmps139;go_wp2_with fail
 go_loopw [3,4] (fun bi aR wr=>∃k:Nat,k<=l.length/\aR=.int .i64 k/\an w wr/\wr.ownsRow w.heap.size 9 1 bi k (dF (kK (l.take k)))) (fun _ aR _=>l.length-(intOf aR).toNat)
 case atStart=>exact ⟨0,aj,rfl,az _ _,bL⟩
 case round=>
  obtain ⟨k,hk,rfl,aH,aJ⟩:=hrel;obtain ⟨a6,oc,rfl⟩:=ax aJ;obtain ⟨W0,rfl⟩:∃W0,W0=wr:=⟨_,rfl⟩;have HB:=ai aH;have bb:=ai aJ;have bo:=aH.size
  by_cases aY:k<l.length
  ·have bf:(k:Int)<(l.length:Int):=by omega
   have a2:=Hg aY;have aN:(kK (l.take k)).length=k:=by rw [zf,dO];omega
   have a1:=aB H.u aH;have aP:(dF l)[k]? =some (.string l[k]):=by simp [dF,aY]
   have HX:=ai aP;obtain ⟨g,c,e1,hc⟩:=aS a1 k (.string l[k]) aP;simp only [aI,bU] at e1;obtain ⟨rfl,rfl⟩:=e1;generalize l[k]=x at*;generalize kK (l.take k)=O at*;have HST:=ai a2;have ba:=ai aN;clear aH aJ a2 a1 hc aN aP;go_wp2_with fail
   go_loopw [5] (fun aV wt=>∃a:Nat,a<=k/\aV=.int .i64 a/\an W0 wt/\Hid (∀j,(h:j<a)->(h':j<O.length)->DX O[j] x=true)) (fun aV _=>k-(intOf aV).toNat)
   case atStart=>exact ⟨0,aj,rfl,az _ _,ai (fun j h=>aj)⟩
   case round=>
    obtain ⟨a,ha,rfl,ar,ap⟩:=hrel;have VP:=aB bb.u ar;have aQ:wr.cell? ⟨g,k,none⟩=some (.string x):=by
     obtain ⟨g',bj,e1,h'⟩:=aS (aB (aB H.u HB.u) ar) k (.string x) HX.u;exact Rp
    have aK:=ai ar;have aN:=ba.u;have bl:k<=100000:=aj
    by_cases be:a<k
    ·have bg:(a:Int)<(k:Int):=by omega
     obtain ⟨av,c2,e1,bk⟩:=aS VP a (.string (O[a]'aj)) (by simp [dF,aN,be]);simp only [aI,bU] at e1;obtain ⟨rfl,rfl⟩:=e1
     by_cases aO:DX (O[a]'aj) x=true
     ·have a8:=ai (show ∀j,(h:j<a+1)->(h':j<O.length)->DX O[j] x=true from fun j h h'=>by
       by_cases e:j=a
       ·subst e;exact aO
       exact ak ap j aj h')
      generalize (O[a]'aj)=y at*;unfold DX at aO;clear VP ap ar;go_wp2_with fail
      go_region
      go_wp2_with fail;exact ⟨⟨a+1,aj,by go_num,aK.u.drew,a8⟩,by simp [intOf];omega⟩
     have aZ:DX (O[a]'aj) x=false:=by simpa using aO
     have LM:=ai (Jw aj (ak ap) (fun h=>aZ):lL O x=O.take a++x::O.drop a);generalize (O[a]'aj)=y at*;unfold DX at aZ;have bh:¬oc=a:=by have:=qz VP;omega
     clear aO;refine Hf ?_;intro hco Y1 s1 s2;clear VP ap ar;go_wp2_with fail
     go_region
     have HD:=ai (aK.u.drew);have Ha:=ai (bO Y1.u);have ah:=ai (zh Ha.u (show a<=k by omega));generalize wr.drew=V at*;have hsd:=HD.u.size;go_wp2_with (at_builtin;go_must (refine dt rfl _ _ 22 rfl V.heap.size 9 i0 _ 1 16 underlying22 Y.u Z.u ab.u ac.u rfl au (.slice none 0 0) 0 [] rfl (bL) (.slice (some ⟨av,0,none⟩) a oc) a (dF (O.take a)) rfl ah.u (ov _) ?nk ?ew aD ?jm))
     case nk=>unfold maxLen;omega
     case ew=>omega
     case jm=>
      intro ay aC w1 hown1 al;have B1:=ai (ct (az V.heap.size V) al aD (fun k hk=>by simp [Value.ownBlock] at hk));refine Hb ?_;intro Hc M1 hs1;clear hown1 al aQ ah;go_wp2_with (at_builtin;go_must (refine bI _ rfl _ _ 22 rfl V.heap.size 9 i0 _ 1 16 underlying22 Y.u Z.u ab.u ac.u rfl au (.slice ay a aC) a (dF (O.take a)) rfl ?lA ⟨w1.heap.size,0,none⟩ 1 1 [.string x] rfl rfl ?gK ?jX au ?pi ?eZ ?gL (w1.heap.size+1) ?Fo ?jn))
      case lA=>exact M1.u.alloc _
      case gK=>exact bu (B:=w1.heap.size) (cs:=#[.string x]) (t:=9) (fr:=(0,0)) (aE.new _ _ _)
      case jX=>
       intro u am;simp at am;subst am
       rfl
      case pi=>unfold maxLen;omega
      case eZ=>omega
      case gL=>simp;omega
      case Fo=>simp
      case jn=>
       intro aG aF a7 hown2 hgrow2 _ _;refine G9 ?_;intro xR B2 xF M2;have aw:=ai (zi xF (show a<=k by omega) (if_neg bh).symm);have hs2:=B2.u.size;clear xF hown2 hgrow2 xR Hc;go_wp2_with (at_builtin;go_must (refine dt rfl _ _ 22 rfl V.heap.size 9 i0 _ 1 16 underlying22 Y.u Z.u ab.u ac.u rfl au (.slice (some ⟨aG,0,none⟩) (a+1) aF) (a+1) (dF (O.take a)++[.string x]) rfl M2.u (.slice (some ⟨av,a,none⟩) (k-a) (oc-a)) (k-a) (dF (O.drop a)) rfl aw.u (ov _) ?rD ?fT hs2 ?kT))
       case rD=>unfold maxLen;omega
       case fT=>omega
       case kT=>
        exact Rn
    have bg:¬((a:Int)<(k:Int)):=aj;have LM:=ai (Jw aj (ak ap) (fun h=>absurd h aj):lL O x=O.take a++x::O.drop a)
    cases a6 with
    |none=>
     refine Hf ?_;intro hco Y1 s1 s2;clear VP ap ar;go_wp2_with fail
     go_region
     have HD:=ai (aK.u.drew);have Ha:=ai (bO Y1.u);have ah:=ai (Hh Ha.u (show a<=k by omega));generalize wr.drew=V at*;have hsd:=HD.u.size;go_wp2_with (at_builtin;go_must (refine dt rfl _ _ 22 rfl V.heap.size 9 i0 _ 1 16 underlying22 Y.u Z.u ab.u ac.u rfl au (.slice none 0 0) 0 [] rfl (bL) (.slice none a oc) a (dF (O.take a)) rfl ah.u (ov _) ?nk ?ew aD ?jm))
     case nk=>unfold maxLen;omega
     case ew=>omega
     case jm=>
      intro ay aC w1 hown1 al;have B1:=ai (ct (az V.heap.size V) al aD (fun k hk=>by simp [Value.ownBlock] at hk));refine Hb ?_;intro Hc M1 hs1;clear hown1 al aQ ah;go_wp2_with (at_builtin;go_must (refine bI _ rfl _ _ 22 rfl V.heap.size 9 i0 _ 1 16 underlying22 Y.u Z.u ab.u ac.u rfl au (.slice ay a aC) a (dF (O.take a)) rfl ?lA ⟨w1.heap.size,0,none⟩ 1 1 [.string x] rfl rfl ?gK ?jX au ?pi ?eZ ?gL (w1.heap.size+1) ?Fo ?jn))
      case lA=>exact M1.u.alloc _
      case gK=>exact bu (B:=w1.heap.size) (cs:=#[.string x]) (t:=9) (fr:=(0,0)) (aE.new _ _ _)
      case jX=>
       intro u am;simp at am;subst am
       rfl
      case pi=>unfold maxLen;omega
      case eZ=>omega
      case gL=>simp;omega
      case Fo=>simp
      case jn=>
       intro aG aF a7 hown2 hgrow2 _ _;refine G9 ?_;intro xR B2 xF M2;have aw:=ai (Hi xF (show a<=k by omega));have hs2:=B2.u.size;clear xF hown2 hgrow2 xR Hc;go_wp2_with (at_builtin;go_must (refine dt rfl _ _ 22 rfl V.heap.size 9 i0 _ 1 16 underlying22 Y.u Z.u ab.u ac.u rfl au (.slice (some ⟨aG,0,none⟩) (a+1) aF) (a+1) (dF (O.take a)++[.string x]) rfl M2.u (.slice none (k-a) (oc-a)) (k-a) (dF (O.drop a)) rfl aw.u (ov _) ?rD ?fT hs2 ?kT))
       case rD=>unfold maxLen;omega
       case fT=>omega
       case kT=>
        exact Rn
    |some ad=>
     obtain ⟨av,rfl⟩:=Y2 VP;obtain ⟨A,bc⟩:∃A:Addr,(if oc=a then some (⟨av,0,none⟩:Addr) else some ⟨av,a,none⟩)=some A:=by
      split
      ·exact ⟨_,rfl⟩
      exact ⟨_,rfl⟩
     refine Hf ?_;intro hco Y1 s1 s2;clear VP ap ar;go_wp2_with fail
     go_region
     have HD:=ai (aK.u.drew);have Ha:=ai (bO Y1.u);have ah:=ai (zh Ha.u (show a<=k by omega));generalize wr.drew=V at*;have hsd:=HD.u.size;go_wp2_with (at_builtin;go_must (refine dt rfl _ _ 22 rfl V.heap.size 9 i0 _ 1 16 underlying22 Y.u Z.u ab.u ac.u rfl au (.slice none 0 0) 0 [] rfl (bL) (.slice (some ⟨av,0,none⟩) a oc) a (dF (O.take a)) rfl ah.u (ov _) ?nk ?ew aD ?jm))
     case nk=>unfold maxLen;omega
     case ew=>omega
     case jm=>
      intro ay aC w1 hown1 al;have B1:=ai (ct (az V.heap.size V) al aD (fun k hk=>by simp [Value.ownBlock] at hk));refine Hb ?_;intro Hc M1 hs1;clear hown1 al aQ ah;go_wp2_with (at_builtin;go_must (refine bI _ rfl _ _ 22 rfl V.heap.size 9 i0 _ 1 16 underlying22 Y.u Z.u ab.u ac.u rfl au (.slice ay a aC) a (dF (O.take a)) rfl ?lA ⟨w1.heap.size,0,none⟩ 1 1 [.string x] rfl rfl ?gK ?jX au ?pi ?eZ ?gL (w1.heap.size+1) ?Fo ?jn))
      case lA=>exact M1.u.alloc _
      case gK=>exact bu (B:=w1.heap.size) (cs:=#[.string x]) (t:=9) (fr:=(0,0)) (aE.new _ _ _)
      case jX=>
       intro u am;simp at am;subst am
       rfl
      case pi=>unfold maxLen;omega
      case eZ=>omega
      case gL=>simp;omega
      case Fo=>simp
      case jn=>
       intro aG aF a7 hown2 hgrow2 _ _;refine G9 ?_;intro xR B2 xF M2;have aw:=ai (zi xF (show a<=k by omega) bc.symm);have hs2:=B2.u.size;clear xF hown2 hgrow2 xR Hc;go_wp2_with (at_builtin;go_must (refine dt rfl _ _ 22 rfl V.heap.size 9 i0 _ 1 16 underlying22 Y.u Z.u ab.u ac.u rfl au (.slice (some ⟨aG,0,none⟩) (a+1) aF) (a+1) (dF (O.take a)++[.string x]) rfl M2.u (.slice (some A) (k-a) (oc-a)) (k-a) (dF (O.drop a)) rfl aw.u (ov _) ?rD ?fT hs2 ?kT))
       case rD=>unfold maxLen;omega
       case fT=>omega
       case kT=>
        exact Rn
  have bf:¬((k:Int)<(l.length:Int)):=aj;have aX:k=l.length:=aj;have a9:=ai (show W0.ownsRow w.heap.size 9 1 (.slice a6 k oc) l.length (dF (kK l)) from by
   have:=aJ;rw [dy aj] at this;rw [<-aX];exact this)
  clear aH aJ aX;go_wp2;go_ret;exact ⟨_,rfl,HB.u,a9.u⟩
end Go.Proofs.YtlbpnlngckgcbaaGreatDoor
namespace Go.Proofs
open Go.Shelf YtlbpnlngckgcbaaGreatDoor
def Tryz.lays190_ren:Go.Shelf.Ren:=⟨fun|190=>64|125=>109|258=>108|128=>166|129=>167|302=>157|303=>158|304=>159|305=>160|306=>161|307=>162|308=>163|309=>164|310=>165|333=>213|329=>214|330=>215|334=>216|335=>217|336=>218|344=>247|n=>n,fun|31=>22|9=>9|3=>3|46=>215|0=>0|51=>313|53=>192|4=>4|183=>305|182=>304|131=>310|5=>5|218=>365|222=>369|228=>395|229=>396|n=>n,fun|n=>n⟩
def Tryz.lays190:Go.Proofs.Lays.n190 Tryz.prog Tryz.lays190_ren:={
 mixed:=aw
 f125:=Tryz.func109.trans (congrArg some aw)
 f128:=Tryz.func166.trans (congrArg some aw)
 f129:=Tryz.func167.trans (congrArg some aw)
 f190:=Tryz.func64.trans (congrArg some aw)
 f258:=Tryz.func108.trans (congrArg some aw)
 f302:=Tryz.func157.trans (congrArg some aw)
 f303:=Tryz.func158.trans (congrArg some aw)
 f304:=Tryz.func159.trans (congrArg some aw)
 f305:=Tryz.func160.trans (congrArg some aw)
 f306:=Tryz.func161.trans (congrArg some aw)
 f307:=Tryz.func162.trans (congrArg some aw)
 f308:=Tryz.func163.trans (congrArg some aw)
 f309:=Tryz.func164.trans (congrArg some aw)
 f310:=Tryz.func165.trans (congrArg some aw)
 f329:=Tryz.func214.trans (congrArg some aw)
 f330:=Tryz.func215.trans (congrArg some aw)
 f333:=Tryz.func213.trans (congrArg some aw)
 f334:=Tryz.func216.trans (congrArg some aw)
 f335:=Tryz.func217.trans (congrArg some aw)
 f336:=Tryz.func218.trans (congrArg some aw)
 f344:=Tryz.func247.trans (congrArg some aw)
 t0:=Tryz.underlying0
 a0:=Tryz.isAgg0
 z0:=Tryz.sizeOf0
 v0:=Tryz.zeroValue0
 t3:=Tryz.underlying3
 a3:=Tryz.isAgg3
 z3:=Tryz.sizeOf3
 v3:=Tryz.zeroValue3
 t4:=Tryz.underlying4
 a4:=Tryz.isAgg4
 z4:=Tryz.sizeOf4
 v4:=Tryz.zeroValue4
 t5:=Tryz.underlying5
 a5:=Tryz.isAgg5
 z5:=Tryz.sizeOf5
 v5:=Tryz.zeroValue5
 t9:=Tryz.underlying9
 a9:=Tryz.isAgg9
 z9:=Tryz.sizeOf9
 v9:=Tryz.zeroValue9
 t31:=Tryz.underlying22
 a31:=Tryz.isAgg22
 z31:=Tryz.sizeOf22
 v31:=Tryz.zeroValue22
 t46:=Tryz.underlying215
 a46:=Tryz.isAgg215
 z46:=Tryz.sizeOf215
 v46:=Tryz.zeroValue215
 t51:=Tryz.underlying313
 a51:=Tryz.isAgg313
 z51:=Tryz.sizeOf313
 v51:=Tryz.zeroValue313
 t53:=Tryz.underlying192
 a53:=Tryz.isAgg192
 z53:=Tryz.sizeOf192
 v53:=Tryz.zeroValue192
 t131:=Tryz.underlying310
 a131:=Tryz.isAgg310
 z131:=Tryz.sizeOf310
 v131:=Tryz.zeroValue310
 t182:=Tryz.underlying304
 a182:=Tryz.isAgg304
 z182:=Tryz.sizeOf304
 v182:=Tryz.zeroValue304
 t183:=Tryz.underlying305
 a183:=Tryz.isAgg305
 z183:=Tryz.sizeOf305
 v183:=Tryz.zeroValue305
 t218:=Tryz.underlying365
 a218:=Tryz.isAgg365
 z218:=Tryz.sizeOf365
 v218:=Tryz.zeroValue365
 t222:=Tryz.underlying369
 a222:=Tryz.isAgg369
 z222:=Tryz.sizeOf369
 v222:=Tryz.zeroValue369
 t228:=Tryz.underlying395
 a228:=Tryz.isAgg395
 z228:=Tryz.sizeOf395
 v228:=Tryz.zeroValue395
 t229:=Tryz.underlying396
 a229:=Tryz.isAgg396
 z229:=Tryz.sizeOf396
 v229:=Tryz.zeroValue396}
end Go.Proofs
namespace Go.Proofs.YtlbpnlngckgcbaaGreatDoor
open Go.RowKit Go.PlainAid Go.Proofs.Tryz
def g9(l:List ByteArray):List ByteArray:=((l.map bJ).mergeSort fun x y=>decide (x<=y)).map mk
def sr(l:List ByteArray):(g9 l).length=l.length:=by simp [g9]
def LN(l:List ByteArray):dF (g9 l)=((l.map bJ).mergeSort fun x y=>decide (x<=y)).map encStr:=by
 simp only [dF,g9,gq]
 rfl
def Rt(base:Nat)(v:Value)(l:List ByteArray)(w:World)(h:w.ownsRow base 9 1 v l.length (dF l))(ab:l.length<=100000):
  Calls Tryz.prog 64 #[v] w fun e w'=>e=.returned (.tuple #[])/\w'.ownsRow base 9 1 v l.length (dF (g9 l))/\bG (fun k=>v.ownBlock=some k) w w':=by
 obtain ⟨h0,⟨rfl,h2⟩|⟨g,cap,D,rfl,R,A,U,V,hs,Q⟩⟩:=h
 ·have e:=jP h2;subst e;refine (Any.slices_Sort_string_none Tryz.lays190 none 0 w).mono ?_;rintro e w' ⟨rfl,rfl⟩;exact ⟨rfl,by rw [show g9 []=[] from by simp [g9]];exact bL,⟨rfl,rfl,rfl,bY _,fun _ _ _=>rfl⟩⟩
 ·have J:g<w.heap.size:=lt_of_some A;rw [Nat.mul_one] at hs Q;have key:=Any.slices_Sort_string Tryz.lays190 g 0 cap (l.map bJ) w (fun j I=>by
   have C:j<l.length:=by simpa using I
   have hc:D[j]? =some (.string l[j]):=by
    have:(dF l)[j]? =some (.string l[j]):=by simp [dF,C]
    rw [<-Q,vb,if_pos C] at this;rw [<-Array.getElem?_toList];exact this
   refine ⟨?_,?_⟩
   ·rw [pE];simp only [World.cell?,A,hc];rw [getElem!_pos _ j (by simpa using C)];simp [bJ]
   exact aE.fz A _) J aM
  rw [bX] at key;refine key.mono ?_;rintro e w' ⟨rfl,n,os,rfl⟩;have Z:(Sort.grow (Sort.putRow encStr (Sort.ahead w n) g 0 ((l.map bJ).mergeSort fun x y=>decide (x<=y)).toArray) os).heap[g]? =some (.cells (Sort.putCells encStr 0 ((l.map bJ).mergeSort fun x y=>decide (x<=y)).toArray D) 9 (0,0)):=by
   rw [Sort.heap_grow_old _ _ (by simp [Sort.putRow,Sort.mapBlock,Sort.ahead];exact J)];simp [Sort.putRow,Sort.mapBlock,Sort.ahead,Array.getElem?_modify,A,Sort.onCells]
  refine ⟨rfl,⟨by simp [dF,sr],.inr ⟨g,cap,_,rfl,R,Z,U,V,by simp [Sort.putCells,hs],?_⟩⟩,⟨rfl,rfl,rfl,by simp [Sort.putRow,Sort.mapBlock,Sort.ahead],fun i hi hn=> ?_⟩⟩
  ·rw [LN];have ac:((l.map bJ).mergeSort fun x y=>decide (x<=y)).length=l.length:=ar;generalize ((l.map bJ).mergeSort fun x y=>decide (x<=y))=ad at*;apply List.ext_getElem?;intro j;rw [vb]
   by_cases I:j<l.length
   ·rw [if_pos aj,Array.getElem?_toList,Sort.putCells,Array.getElem?_mapIdx,Ak aj,Option.map_some,if_pos aM,List.getElem?_map,aH aj,Option.map_some,Nat.sub_zero,getElem!_pos _ j aM];simp
   rw [if_neg aj,kR aM]
  rw [Sort.heap_grow_old _ _ (by simp [Sort.putRow,Sort.mapBlock,Sort.ahead];exact hi)];have Y:¬g=i:=fun e=>hn (by simp [Value.ownBlock,e])
  simp [Sort.putRow,Sort.mapBlock,Sort.ahead,Array.getElem?_modify,Y]
end Go.Proofs.YtlbpnlngckgcbaaGreatDoor
namespace Go.Proofs.YtlbpnlngckgcbaaGreatDoor
open Go.RowKit Go.PlainAid Go.Proofs.Tryz
def tuS(t:Tu):ae:=((((t.kind++sg 58)++t.id)++sg 35)++t.rel)++sg 64++VJ t.sub t.who t.of
def ow(t:Tu):Prop:=t.kind.size+t.id.size+t.rel.size+t.sub.size+t.who.size+t.of.size<=500
def leB(a b:ae):Prop:=bJ a<=bJ b
def Jx(a b:ae):DX a b=true↔bJ a<bJ b:=by
 unfold DX;rw [bytesLess_eq,aO,aO];simp
def Hk{a b:ae}(h:DX a b=false):leB b a:=by
 have:¬bJ a<bJ b:=fun k=>by rw [(Jx a b).2 k] at h;simp at h
 exact List.not_lt.1 this
def Y3{a b:ae}(h:DX a b=true):leB a b:=List.le_of_lt ((Jx a b).1 h)
def zj(l:List ae)(x:ae):(lL l x).Perm (x::l):=by
 unfold lL;refine List.perm_middle.trans (List.Perm.cons x ?_);rw [G8]
def tq(x:ae):∀(l:List ae),l.Pairwise leB->(lL l x).Pairwise leB
 | [],_=>by simp [lL]
 |y::l,h=>by
  have J:=tq x l (List.pairwise_cons.1 h).2;unfold lL at J ⊢
  cases C:DX y x
  ·simp only [iw,uM,C,bH,aV,List.nil_append];refine List.pairwise_cons.2 ⟨fun z A=> ?_,h⟩;have I:=Hk C
   rcases bi.1 A with rfl|A
   ·exact I
   exact List.le_trans I ((List.pairwise_cons.1 h).1 z A)
  simp only [iw,uM,C,if_true,List.cons_append];refine List.pairwise_cons.2 ⟨fun z A=> ?_,J⟩;have D:=(zj l x).mem_iff.1 (A:z∈lL l x)
  rcases bi.1 D with rfl|D
  ·exact Y3 C
  exact (List.pairwise_cons.1 h).1 z D
def sx(l:List ae):∀a,a.Pairwise leB->(l.foldl lL a).Pairwise leB/\(l.foldl lL a).Perm (a++l):=by
 induction l with
 |nil=>intro a h;exact ⟨h,ar⟩
 |cons x l ih=>
  intro a h;obtain ⟨h1,h2⟩:=ih (lL a x) (tq x a h);refine ⟨h1,h2.trans ?_⟩;exact ((zj a x).append_right l).trans (List.perm_middle (l₁:=a) (a:=x) (l₂:=l)).symm
def ws:∀(l m:List ae),l.Pairwise leB->m.Pairwise leB->l.Perm m->l=m
 | [],m,_,_,h=>(List.nil_perm.1 h).symm
 |x::l,[],_,_,h=>absurd h ar
 |x::l,y::m,h1,h2,h=>by
  have D:x=y:=by
   have A:x∈y::m:=h.mem_iff.1 ar;have C:y∈x::l:=h.mem_iff.2 ar
   rcases bi.1 A with e|A
   ·exact e
   rcases bi.1 C with e|C
   ·exact e.symm
   have e:=List.le_antisymm ((List.pairwise_cons.1 h1).1 y C) ((List.pairwise_cons.1 h2).1 x A);rw [<-dj x,<-dj y,e]
  subst D;rw [ws l m (List.pairwise_cons.1 h1).2 (List.pairwise_cons.1 h2).2 ((List.perm_cons x).1 h)]
def ox(l:List ae):g9 l=kK l:=by
 obtain ⟨h1,h2⟩:=sx l [] List.Pairwise.nil;refine ws _ _ ?_ h1 ?_
 ·have:=List.pairwise_mergeSort (le:=fun x y:List UInt8=>decide (x<=y)) (fun a b c h k=>by simp only [jo] at*;exact List.le_trans h k) (fun a b=>by have:=List.le_total a b;simpa using this) (l.map bJ);unfold g9;rw [List.pairwise_map];refine this.imp (fun {a b} h=> ?_);unfold leB;rw [kM,kM]
  simpa using h
 have:=(List.mergeSort_perm (l.map bJ) (fun x y=>decide (x<=y))).map mk;refine List.Perm.trans this ?_;rw [gq,show (mk ∘ bJ)=id from rfl,List.map_id];exact h2.symm
variable {gs:List Tu} {ss:List ae}
def DY(h:sm gs ss):g9 (gs.map tuS)=kK ss/\∀t∈gs,ow t:=by
 refine ⟨?_,fun t A=> ?_⟩
 ·rw [ox,h.eq,gq]
  congr 1
  conv=>rhs;rw [<-List.map_id ss]
  exact List.map_congr_left (fun s hs=>wj (h.ok s hs))
 rw [h.eq] at A;obtain ⟨s,hs,rfl⟩:=aN.1 A;obtain ⟨C,_,hl⟩:=lG (h.ok s hs);have hl:=congrArg List.length hl;have D:(if (bQ s).1.of.size=0 then [] else (35:UInt8)::bJ (bQ s).1.of).length≥(bQ s).1.of.size:=by
  by_cases h0:(bQ s).1.of.size=0
  ·rw [h0];exact gH _
  rw [if_neg h0,iC,bh];omega
 simp only [aZ,List.length_cons,bh] at hl;unfold ow tJ;omega
def Ru(Y Z:Nat)(Q R:ag)(l:List ae)(w:af)(h1:w.ownsRow Y 9 1 Q l.length (dF l))(h2:w.ownsRow Z 9 1 R l.length (dF l))(au:l.length<=100000):
  Calls prog 88 #[Q,R] w fun e w'=>e=.returned (.bool true)/\an w w':=by
 obtain ⟨ah,c1,rfl⟩:=ax h1;obtain ⟨ak,c2,rfl⟩:=ax h2;have U:=ai h1;have V:=ai h2;go_enter func88,ntmps88;go_wp2_with fail
 go_loopw [5] (fun D wr=>∃k:Nat,k<=l.length/\D=.int .i64 k/\an w wr) (fun D _=>l.length-(intOf D).toNat)
 case atStart=>exact ⟨0,aj,rfl,az _ _⟩
 case round=>
  obtain ⟨k,ap,rfl,C⟩:=hrel;have HB:=ai C
  by_cases ab:k<l.length
  ·have ar:(k:Int)<(l.length:Int):=by omega
   have J:(dF l)[k]? =some (.string l[k]):=by simp [dF,ab]
   have ac:=aB U.u C;have ad:=aB V.u C;obtain ⟨al,d1,e1,k1⟩:=aS ac k _ J;obtain ⟨am,d2,I,av⟩:=aS ad k _ J;simp only [aI,bU] at e1 I;obtain ⟨rfl,rfl⟩:=e1;obtain ⟨rfl,rfl⟩:=I;generalize l[k]=x at*;go_wp2_with fail
   go_region
   go_wp2_with fail;exact ⟨⟨k+1,aj,by go_num,HB.u.drew⟩,by simp [intOf];omega⟩
  exact OP
