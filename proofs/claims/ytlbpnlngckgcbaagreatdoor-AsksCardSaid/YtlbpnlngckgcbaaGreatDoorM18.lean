import Derived.Test.YtlbpnlngckgcbaaGreatDoorM12
set_option linter.all false
set_option maxHeartbeats 4000000
set_option maxRecDepth 100000
namespace Go.Proofs.YtlbpnlngckgcbaaGreatDoor
open Go.RowKit Go.PlainAid Go.Proofs.Tryz
variable {s:ae}
def zb(a c:ae):(a++c).size=a.size+c.size:=ByteArray.size_append
def GX(k i:ae)(w:af)(A:k.size+i.size<=1000):
  Calls prog 66 #[.agg #[.string k,.string i]] w fun e w'=>e=.returned (.string ((k++sg 58)++i))/\an w w':=by
 have h:=ai (az w.heap.size w);go_enter func66,ntmps66;go_wp2;go_ret;exact ⟨rfl,(cd h)⟩
def VJ(k i r:ae):ae:=if r.size=0 then (k++sg 58)++i else (((k++sg 58)++i)++sg 35)++r
def wj(h:dC s=true):((((((bQ s).1.kind++sg 58)++(bQ s).1.id)++sg 35)++(bQ s).1.rel)++sg 64++VJ (bQ s).1.sub (bQ s).1.who (bQ s).1.of)=s:=by
 obtain ⟨_,_,hl⟩:=lG h;have e:∀a b:ae,bJ (a++b)=bJ a++bJ b:=fun a b=>by simp [bJ,ByteArray.data_append]
 have A:∀c:UInt8,bJ (sg c)=[c]:=fun c=>rfl
 generalize (bQ s).1=t at*;have key:bJ ((((((t.kind++sg 58)++t.id)++sg 35)++t.rel)++sg 64++VJ t.sub t.who t.of))=bJ s:=by
  rw [hl];unfold VJ
  split<;>simp [e,A]
 rw [<-dj s,<-key,dj]
