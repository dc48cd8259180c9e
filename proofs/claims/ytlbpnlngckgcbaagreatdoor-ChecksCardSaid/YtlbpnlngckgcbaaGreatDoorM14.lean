import Derived.Test.YtlbpnlngckgcbaaGreatDoorM09
set_option linter.all false
set_option maxHeartbeats 4000000
set_option maxRecDepth 100000
namespace Go.Proofs.YtlbpnlngckgcbaaGreatDoor
open Go.RowKit Go.PlainAid Go.Proofs.Tryz
variable {aF cD:Prop}
def K4 (D:aF:=by
 have C:=ai hq;clear hb HI hq;go_wp2;go_roundw
 case rel=>exact ⟨i+1,c',aj,by go_num,rfl,TD.u,ai (by rw [C.u];exact E8.u)⟩
 case measure=>simp [intOf];omega):aF:=D
def lH (C:aF:=by
 go_wp2;go_roundw
 case rel=>exact ⟨k+1,_,aj,by go_num,rfl,below_drewN TD.u _,q5⟩
 case measure=>simp [intOf];omega):aF:=C
def K6 (C:aF:=by
 have Gx:=ai hq;clear hb HQ hq;exact td):aF:=C
theorem Ae(base:Nat)(v:ag)(l:List Nat)(n:Nat)(w:af)(J:w.ownsRow base 3 1 v l.length (l.map fun n:Nat=> .int .i64 n))(Z:l.length<=1000000000):
  Calls prog 194 #[v,.int .i64 n] w fun e w'=>e=.returned (.bool (l.any fun k=>k==n))/\Below w.heap.size w w':=by
 obtain ⟨ac,ad,rfl⟩:=ay J;have H:=ai J;generalize hR:(l.any fun k=>k==n)=O;have Q:=ai (show ((l.drop 0).any fun k=>k==n)=O from hR);clear J hR;go_enter func194,ntmps194;go_wp2_with fail
 go_loopw [5] (fun u wr=>∃k:Nat,k<=l.length/\u=.int .i64 k/\Below w.heap.size w wr/\Hid (((l.drop k).any fun k=>k==n)=O)) (fun u _=>l.length-(intOf u).toNat)
 case atStart=>exact ⟨0,aj,rfl,aw _ _,Q⟩
 case round=>
  obtain ⟨k,Y,rfl,hb,HQ⟩:=hrel;have HB:=ai hb
  by_cases hlt:k<l.length
  ·obtain ⟨q,V,e1,ab⟩:=aZ (aE H.u hb) k (.int .i64 (l[k]:Nat)) tI;simp only [aI,true_and] at e1;obtain ⟨rfl,rfl⟩:=e1;have hR:=ak HQ;rw [dw hlt,jD] at hR;generalize l[k]=m at*;have U:(k:Int)<(l.length:Int):=aj
   by_cases I:m=n
   ·have R:((m:Int)==(n:Int))=true:=by rw [dL];omega
    rw [dL.2 I,Bool.true_or] at hR;have Gx:=ai hR;clear hb HQ hR I;exact td
   have R:((m:Int)==(n:Int))=false:=by rw [bG];omega
   rw [bG.2 I,Bool.false_or] at hR;have mf:=ai hR;clear hb HQ hR I;exact JU
  have U:¬((k:Int)<(l.length:Int)):=aj;exact JS
def ed(best:Int)(p:Nat):Int:=if best<0\/(p:Int)<best then p else best
def re(x:ae×Nat):List (ae×Nat)->Int->Int
 | [],c=>c
 |y::ys,c=>re x ys (if eqs y.1 x.1 then ed c x.2 else c)
def mP:List (ae×Nat)->List (ae×Nat)->Int->Int
 |_,[],c=>c
 |acc,x::xs,c=>mP (acc++[x]) xs (re x acc c)
def rf(x:RV):List RV->Int->Int
 | [],c=>c
 |y::ys,c=>rf x ys (if eqs y.kd x.kd&&eqs y.nm x.nm then ed c x.pl else c)
def oG:List RV->List RV->Int->Int
 |_,[],c=>c
 |acc,x::xs,c=>oG (acc++[x]) xs (rf x acc c)
def tK(kl:List (ae×Nat))(rl:List RV):Int:=oG [] rl (mP [] kl (-1))
theorem C3(b kv rv pv kl rl pl l w)(Q:DM w b kv rv pv kl rl pl l):
  Calls prog 128 #[.pointer (some ⟨b,5,none⟩)] w fun e w'=>e=.returned (.int .i64 (tK kl rl))/\Below w.heap.size w w':=by
 obtain ⟨aD,aE,rfl⟩:=ay Q.kt;obtain ⟨aH,rc,rfl⟩:=ay Q.rt;have H:=ai Q;have aB:=Q.kn;have aC:=Q.rn;clear Q;go_enter func128,ntmps128;go_wp2_with fail
 go_loopw [3,4] (fun O ab wr=>∃(i:Nat)(c:Int),i<=kl.length/\ab=.int .i64 i/\O=.int .i64 c/\Below w.heap.size w wr/\Hid (mP (kl.take i) (kl.drop i) c=mP [] kl (-1))) (fun _ ab _=>kl.length-(intOf ab).toNat)
 case atStart=>exact ⟨0,-1,aj,rfl,rfl,aw _ _,ai an⟩
 case round=>
  obtain ⟨i,c,hi,rfl,rfl,hb,HQ⟩:=hrel;have c5:=(H.u.below hb).c5;have HB:=ai hb
  by_cases J:i<kl.length
  ·have Z:(i:Int)<(kl.length:Int):=by omega
   have hq:=ak HQ;rw [dw J,mP,<-dS J] at hq;have E8:=ai hq;obtain ⟨am,gc,e1,ag,ah⟩:=(H.u.below hb).kat i kl[i] (aG J);simp only [aI,true_and] at e1;obtain ⟨rfl,rfl⟩:=e1;have U:=ai (aG J);generalize kl[i]=x at*;clear hb HQ hq;go_wp2_with fail
   go_loopw [3,5] (fun O ac af=>∃(k:Nat)(c':Int),k<=i/\ac=.int .i64 k/\O=.int .i64 c'/\Below w.heap.size w af/\Hid (re x ((kl.take i).drop k) c'=re x (kl.take i) c)) (fun _ ac _=>i-(intOf ac).toNat)
   case atStart=>exact ⟨0,c,aj,rfl,rfl,HB.u,ai an⟩
   case round=>
    clear ag ah c5;obtain ⟨k,c',au,rfl,rfl,hb,HI⟩:=hrel;have c5:=(H.u.below hb).c5;obtain ⟨am,gc,e1,ag,ah⟩:=(H.u.below hb).kat i x U.u;simp only [aI,true_and,aK,cw,and_true] at e1;obtain ⟨rfl,rfl⟩:=e1;have TD:=ai hb
    by_cases ax:k<i
    ·have V:(k:Int)<(i:Int):=by omega
     have Y:k<kl.length:=aj;have av:(k:Int)<(kl.length:Int):=aj;obtain ⟨ar,ap,e1,az,aA⟩:=(H.u.below hb).kat k kl[k] (aG Y);simp only [aI,true_and,aK,cw,and_true] at e1;obtain ⟨rfl,rfl⟩:=e1;have hq:=ak HI;rw [dw lY,List.getElem_take,re] at hq;generalize kl[k]=y at*
     cases I:eqs y.1 x.1
     ·rw [I] at hq;simp only [bz,aP] at hq;rw [aJ] at I;have q5:=ai hq;clear hb HI hq;go_wp2
      go_quiet (fail)
      exact lH
     rw [I] at hq;simp only [if_true] at hq;rw [aJ] at I
     by_cases h0:c'<0
     ·rw [show ed c' x.2=x.2 from by simp [ed,h0]] at hq;have q5:=ai hq;clear hb HI hq;go_wp2
      go_quiet (fail)
      exact lH
     by_cases h1:(x.2:Int)<c'
     ·rw [show ed c' x.2=x.2 from by simp [ed,h1]] at hq;have q5:=ai hq;clear hb HI hq;go_wp2
      go_quiet (fail)
      exact lH
     rw [show ed c' x.2=c' from by simp [ed,h0,h1]] at hq;have q5:=ai hq;clear hb HI hq;go_wp2
     go_quiet (fail)
     exact lH
    have V:¬((k:Int)<(i:Int)):=aj;have hq:=ak HI;rw [eK lY,re] at hq;exact K4
  have Z:¬((i:Int)<(kl.length:Int)):=aj;have hq:=ak HQ;rw [eK aj,mP] at hq;have al:=ai hq;clear hb HQ hq;go_wp2_with fail;clear c5
  go_loopw [3,6] (fun O ad wr=>∃(i:Nat)(c:Int),i<=rl.length/\ad=.int .i64 i/\O=.int .i64 c/\Below w.heap.size w wr/\Hid (oG (rl.take i) (rl.drop i) c=tK kl rl)) (fun _ ad _=>rl.length-(intOf ad).toNat)
  case atStart=>exact ⟨0,c,aj,rfl,rfl,HB.u,ai (by rw [al.u];rfl)⟩
  case round=>
   clear HB al;obtain ⟨i,c,hi,rfl,rfl,hb,HQ⟩:=hrel;have c6:=(H.u.below hb).c6;have HB:=ai hb
   by_cases J:i<rl.length
   ·have Z:(i:Int)<(rl.length:Int):=by omega
    have hq:=ak HQ;rw [dw J,oG,<-dS J] at hq;have E8:=ai hq;have U:=ai (aG J);generalize rl[i]=x at*;clear hb HQ hq;go_wp2_with fail
    go_loopw [3,7] (fun O ae af=>∃(k:Nat)(c':Int),k<=i/\ae=.int .i64 k/\O=.int .i64 c'/\Below w.heap.size w af/\Hid (rf x ((rl.take i).drop k) c'=rf x (rl.take i) c)) (fun _ ae _=>i-(intOf ae).toNat)
    case atStart=>exact ⟨0,c,aj,rfl,rfl,HB.u,ai an⟩
    case round=>
     clear c6;obtain ⟨k,c',au,rfl,rfl,hb,HI⟩:=hrel;have c6:=(H.u.below hb).c6;have TD:=ai hb
     by_cases ax:k<i
     ·have V:(k:Int)<(i:Int):=by omega
      obtain ⟨am,gc,e1,ag,ah,aL,aM⟩:=(H.u.below hb).rat i x U.u;simp only [aI,true_and,aK,cw,and_true] at e1;obtain ⟨rfl,rfl⟩:=e1;have Y:k<rl.length:=aj;have av:(k:Int)<(rl.length:Int):=aj;obtain ⟨ar,ap,e1,az,aA,aN,aO⟩:=(H.u.below hb).rat k rl[k] (aG Y);simp only [aI,true_and,aK,cw,and_true] at e1;obtain ⟨rfl,rfl⟩:=e1;have hq:=ak HI;rw [dw lY,List.getElem_take,rf] at hq;generalize rl[k]=y at*
      cases I:eqs y.kd x.kd
      ·rw [I,dR] at hq;simp only [bz,aP] at hq;rw [aJ] at I;have q5:=ai hq;clear hb HI hq;go_wp2
       go_quiet (fail)
       exact lH
      rw [I,Bool.true_and] at hq;rw [aJ] at I
      cases R:eqs y.nm x.nm
      ·rw [R] at hq;simp only [bz,aP] at hq;rw [aJ] at R;have q5:=ai hq;clear hb HI hq;go_wp2
       go_quiet (fail)
       exact lH
      rw [R] at hq;simp only [if_true] at hq;rw [aJ] at R
      by_cases h0:c'<0
      ·rw [show ed c' x.pl=x.pl from by simp [ed,h0]] at hq;have q5:=ai hq;clear hb HI hq;go_wp2
       go_quiet (fail)
       exact lH
      by_cases h1:(x.pl:Int)<c'
      ·rw [show ed c' x.pl=x.pl from by simp [ed,h1]] at hq;have q5:=ai hq;clear hb HI hq;go_wp2
       go_quiet (fail)
       exact lH
      rw [show ed c' x.pl=c' from by simp [ed,h0,h1]] at hq;have q5:=ai hq;clear hb HI hq;go_wp2
      go_quiet (fail)
      exact lH
     have V:¬((k:Int)<(i:Int)):=aj;have hq:=ak HI;rw [eK lY,rf] at hq;exact K4
   have Z:¬((i:Int)<(rl.length:Int)):=aj;have hq:=ak HQ;rw [eK aj,oG] at hq;exact K6
