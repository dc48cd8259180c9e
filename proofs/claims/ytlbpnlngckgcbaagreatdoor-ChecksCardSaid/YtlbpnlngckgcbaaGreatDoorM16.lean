import Derived.Test.YtlbpnlngckgcbaaGreatDoorM10
import Derived.Test.YtlbpnlngckgcbaaGreatDoorM09
set_option linter.all false
set_option maxHeartbeats 4000000
set_option maxRecDepth 100000
namespace Go.Proofs.YtlbpnlngckgcbaaGreatDoor
open Go.RowKit Go.PlainAid Go.Proofs.Tryz
variable {w w':af} {b k g:Nat} {mp tv:ag} {ss:List ae} {T:TypeId}
def BE(s:ae):List ag:=[.string (bU s).1.kind,.string (bU s).1.id,.string (bU s).1.rel,.string (bU s).1.sub,.string (bU s).1.who,.string (bU s).1.of,.string s]
structure DU(w:af)(b:Nat)(mp tv:ag)(ss:List ae):Prop where
 blk:aB w b #[mp,tv] 262
 row:w.ownsRow 0 264 7 tv ss.length (ss.flatMap BE)
 apart:∀g n c,tv=.slice (some ⟨g,0,none⟩) n c->g≠b
 most:ss.length<=1000
theorem DU.below(h:DU w b mp tv ss)(k:Below w.heap.size w w'):DU w' b mp tv ss:=⟨h.blk.below k,aE h.row k,h.apart,h.most⟩
def jK(l:List ae)(x:ae):Int:=match l.findIdx? (fun y=>eqs y x) with
 |some i=>(i:Int)
 |none=> -1
theorem Oz{l x}(I:k<l.length)(J:∀j,(O:j<l.length)->j<k->eqs l[j] x=false)(C:eqs l[k] x=true):jK l x=k:=by
 unfold jK;have:l.findIdx? (fun y=>eqs y x)=some k:=by
  rw [kg];exact ⟨I,C,fun j D=>by rw [J j aj D];simp⟩
 rw [this]
theorem GH{l x}(A:∀j,(D:j<l.length)->eqs l[j] x=false):jK l x= -1:=by
 unfold jK;have:l.findIdx? (fun y=>eqs y x)=none:=by
  rw [n9];intro y C;obtain ⟨j,h,rfl⟩:=dn C;exact A j h
 rw [this]
theorem hS{a b}(h:aB w g #[a,b] T):w.cell? ⟨g,0,none⟩=some a/\w.cell? ⟨g,1,none⟩=some b:=⟨h.cell rfl,h.cell rfl⟩
theorem vY(b s w mp tv ss)(C:DU w b mp tv ss):
  Calls prog 134 #[.pointer (some ⟨b,0,none⟩),.string s] w fun e w'=>e=.returned (.int .i64 (jK ss s))/\Below w.heap.size w w':=by
 obtain ⟨ta,tc,rfl⟩:=ay C.row;have H:=ai C;have af:=C.most;obtain ⟨U,Q⟩:∃U,U=jK ss s:=⟨_,rfl⟩;rw [<-Q];have R:=ai Q;clear C Q;go_enter func134,ntmps134;go_wp2_with fail
 go_loopw [5] (fun u wr=>∃k:Nat,k<=ss.length/\u=.int .i64 k/\Below w.heap.size w wr/\Hid (∀j,(C:j<ss.length)->j<k->eqs ss[j] s=false)) (fun u _=>ss.length-(intOf u).toNat)
 case atStart=>exact ⟨0,aj,rfl,aw _ _,ai (fun j C Z=>aj)⟩
 case round=>
  obtain ⟨k,ae,rfl,D,O⟩:=hrel;have J:=ai D;obtain ⟨c0,c1⟩:=hS (H.u.below D).blk
  by_cases V:k<ss.length
  ·have ad:(k:Int)<(ss.length:Int):=by omega
   obtain ⟨g,c,e1,hc⟩:=bi BE 7 (fun _=>rfl) (H.u.below D).row k ss[k] (aG V);simp only [aI,cz] at e1;obtain ⟨rfl,rfl⟩:=e1;have ag:=hc 6 _ aj rfl
   cases I:eqs ss[k] s
   ·have ab:(ss[k].toList==s.toList)=false:=by rw [<-aJ];exact I
    have Y:=ai (show ∀j,(C:j<ss.length)->j<k+1->eqs ss[j] s=false from fun j C Z=>by
     by_cases e:j=k
     ·subst e;exact I
     exact ak O j C aj)
    generalize ss[k]=y at*;clear D hc I;go_wp2;go_roundw
    case rel=>exact ⟨k+1,aj,by go_num,J.u,Y⟩
    case measure=>simp [intOf];omega
   have ab:(ss[k].toList==s.toList)=true:=by rw [<-aJ];exact I
   have hF:=Oz V (ak O) I;rw [<-R.u] at hF;subst hF;generalize ss[k]=y at*;clear D hc I;go_wp2;go_ret;exact ⟨rfl,J.u⟩
  have ad:¬((k:Int)<(ss.length:Int)):=aj;have hF:=GH (fun j ac=>ak O j ac aj);rw [<-R.u] at hF;subst hF;clear D;go_wp2;go_ret;exact ⟨rfl,J.u⟩
