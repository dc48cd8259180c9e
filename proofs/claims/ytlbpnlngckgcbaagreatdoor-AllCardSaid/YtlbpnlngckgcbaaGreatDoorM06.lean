import Derived.Test.YtlbpnlngckgcbaaGreatDoorM01
set_option linter.all false
set_option maxHeartbeats 4000000
set_option maxRecDepth 100000
namespace Go.Proofs.YtlbpnlngckgcbaaGreatDoor
open Go.RowKit Go.PlainAid Go.Proofs.Tryz
variable {P:Program} {fuel k:Nat} {w:af} {v:ag}
def wpK(_:Nat)(P:Program)(A:Region.Mode)(C:Array Oper)(Q:Exit->Act->af->Prop)(S:af->Prop)(fuel:Nat)(h:Array Bool)(a:Act)(w:af):Prop:=wpAnyH P A C Q S fuel h a w
def wl{C:Region.Mode}{D:Array Oper}{Q:Exit->Act->af->Prop}{S:af->Prop}{A:Array Bool}{a:Act}(k:Nat)(h:wpK k P C D Q S fuel A a w):wpAnyH P C D Q S fuel A a w:=h
def pk{I:Region.Mode}{A:Array Oper}{Q:Exit->Act->af->Prop}{S:af->Prop}{J:Oper}{D:Array Bool}{a:Act}(hi:A[k]? =some J)(C:(Region.noSelect A&&(Region.free I A D k&&(Region.ready I A D).contains k))=true)(R:∀c a w,Q (.panic c) (a.put J.dst v) w->Q (.panic c) a w)(U:S w)(V:YieldsIf P A S J v a)(h:wpK (k+1) P I A Q S fuel (D.setIfInBounds k true) (a.put J.dst v) w):wpK k P I A Q S (fuel+1) D a w:=by
 rw [Bool.and_eq_true,Bool.and_eq_true] at C;exact wpAnyH_take hi C.1 C.2.1 C.2.2 R V U h
