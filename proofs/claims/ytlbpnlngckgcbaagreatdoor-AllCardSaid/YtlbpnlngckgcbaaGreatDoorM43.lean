import Derived.Test.YtlbpnlngckgcbaaGreatDoorM01
import Derived.Test.YtlbpnlngckgcbaaGreatDoorRows
set_option linter.all false
set_option maxHeartbeats 4000000
set_option maxRecDepth 100000
namespace Go.Proofs.YtlbpnlngckgcbaaGreatDoor
def Xd:(Rows.allRow.inPlace==Tryz.prog.inPlace 7)=true:=by kernel_rfl
def Xe:(Rows.allRow.unfollowed==Tryz.prog.unfollowed 7)=true:=by kernel_rfl
def Xf:(Rows.allRow.recurses==Tryz.prog.recurses 7)=true:=by kernel_rfl
def Xg:(Rows.allRow.named==Tryz.prog.varsNamed 7)=true:=by kernel_rfl
