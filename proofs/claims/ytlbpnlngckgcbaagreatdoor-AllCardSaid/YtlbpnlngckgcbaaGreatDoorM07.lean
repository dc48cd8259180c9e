import Derived.Test.YtlbpnlngckgcbaaGreatDoorM01
import Derived.Shelf.Strconv.Itoa3
import Derived.Lib.ItoaLen
set_option linter.all false
set_option maxHeartbeats 4000000
set_option maxRecDepth 100000
namespace Go.Proofs
open Go.Shelf
def Tryz.laysM171_ren:Go.Shelf.Ren:=⟨fun|171=>142|243=>201|246=>235|283=>257|284=>258|285=>259|286=>260|129=>167|317=>267|318=>268|319=>269|320=>270|337=>275|338=>276|n=>n,fun|3=>3|9=>9|2=>2|4=>4|171=>403|0=>0|53=>192|37=>151|5=>5|173=>405|212=>413|51=>313|20=>20|213=>414|46=>215|232=>417|233=>418|n=>n,fun|17=>2|18=>3|19=>4|n=>n⟩
def Tryz.laysM171:Go.Proofs.LaysM.n171 Tryz.prog Tryz.laysM171_ren:={
 mixed:=by kernel_rfl
 f129:=Tryz.func167.trans (congrArg some (by kernel_rfl))
 f171:=Tryz.func142.trans (congrArg some (by kernel_rfl))
 f243:=Tryz.func201.trans (congrArg some (by kernel_rfl))
 f246:=Tryz.func235.trans (congrArg some (by kernel_rfl))
 f283:=Tryz.func257.trans (congrArg some (by kernel_rfl))
 f284:=Tryz.func258.trans (congrArg some (by kernel_rfl))
 f285:=Tryz.func259.trans (congrArg some (by kernel_rfl))
 f286:=Tryz.func260.trans (congrArg some (by kernel_rfl))
 f317:=Tryz.func267.trans (congrArg some (by kernel_rfl))
 f318:=Tryz.func268.trans (congrArg some (by kernel_rfl))
 f319:=Tryz.func269.trans (congrArg some (by kernel_rfl))
 f320:=Tryz.func270.trans (congrArg some (by kernel_rfl))
 f337:=Tryz.func275.trans (congrArg some (by kernel_rfl))
 f338:=Tryz.func276.trans (congrArg some (by kernel_rfl))
 t0:=Tryz.underlying0
 a0:=Tryz.isAgg0
 z0:=Tryz.sizeOf0
 v0:=Tryz.zeroValue0
 t2:=Tryz.underlying2
 a2:=Tryz.isAgg2
 z2:=Tryz.sizeOf2
 v2:=Tryz.zeroValue2
 t3:=Tryz.underlying3
 a3:=Tryz.isAgg3
 z3:=Tryz.sizeOf3
 v3:=Tryz.zeroValue3
 t4:=Tryz.underlying4
 a4:=Tryz.isAgg4
 z4:=Tryz.sizeOf4
 v4:=Tryz.zeroValue4
 t5:=Tryz.underlying5
 a5:=Tryz.isAgg5
 z5:=Tryz.sizeOf5
 v5:=Tryz.zeroValue5
 t9:=Tryz.underlying9
 a9:=Tryz.isAgg9
 z9:=Tryz.sizeOf9
 v9:=Tryz.zeroValue9
 t20:=Tryz.underlying20
 a20:=Tryz.isAgg20
 z20:=Tryz.sizeOf20
 v20:=Tryz.zeroValue20
 t37:=Tryz.underlying151
 a37:=Tryz.isAgg151
 z37:=Tryz.sizeOf151
 v37:=Tryz.zeroValue151
 t46:=Tryz.underlying215
 a46:=Tryz.isAgg215
 z46:=Tryz.sizeOf215
 v46:=Tryz.zeroValue215
 t51:=Tryz.underlying313
 a51:=Tryz.isAgg313
 z51:=Tryz.sizeOf313
 v51:=Tryz.zeroValue313
 t53:=Tryz.underlying192
 a53:=Tryz.isAgg192
 z53:=Tryz.sizeOf192
 v53:=Tryz.zeroValue192
 t171:=Tryz.underlying403
 a171:=Tryz.isAgg403
 z171:=Tryz.sizeOf403
 v171:=Tryz.zeroValue403
 t173:=Tryz.underlying405
 a173:=Tryz.isAgg405
 z173:=Tryz.sizeOf405
 v173:=Tryz.zeroValue405
 t212:=Tryz.underlying413
 a212:=Tryz.isAgg413
 z212:=Tryz.sizeOf413
 v212:=Tryz.zeroValue413
 t213:=Tryz.underlying414
 a213:=Tryz.isAgg414
 z213:=Tryz.sizeOf414
 t232:=Tryz.underlying417
 a232:=Tryz.isAgg417
 z232:=Tryz.sizeOf417
 v232:=Tryz.zeroValue417
 t233:=Tryz.underlying418
 a233:=Tryz.isAgg418
 z233:=Tryz.sizeOf418
 v233:=Tryz.zeroValue418
 g17:=by kernel_rfl
 g18:=by kernel_rfl
 g19:=by kernel_rfl
 i0:=by kernel_rfl
 i2:=by kernel_rfl
 i3:=by kernel_rfl
 i4:=by kernel_rfl
 i5:=by kernel_rfl
 i9:=by kernel_rfl
 i20:=by kernel_rfl
 i37:=by kernel_rfl
 i46:=by kernel_rfl
 i51:=by kernel_rfl
 i53:=by kernel_rfl
 i171:=by kernel_rfl
 i173:=by kernel_rfl
 i212:=by kernel_rfl
 i232:=by kernel_rfl
 i233:=by kernel_rfl
 m17:=by kernel_rfl
 m18:=by kernel_rfl
 m19:=by kernel_rfl}
end Go.Proofs
namespace Go.Proofs.YtlbpnlngckgcbaaGreatDoor
open Go.RowKit Go.PlainAid Go.Proofs.Tryz
def nV(w:World):Prop:=Lib.TabIs Tryz.prog w "internal/strconv.uint64pow10" .u64 Lib.pow10Tab
def nW(k:Nat):ByteArray:=⟨#[109,97,114,107]⟩++⟨(Lib.itoa (k:Int)).toArray⟩
variable {w w':World} {B:Nat}
def nV.below(h:nV w)(k:Below B w w')(A:2<B):nV w':=by
 have C:Tryz.prog.globalNamed "internal/strconv.uint64pow10"=some 2:=by kernel_rfl
 unfold nV Lib.TabIs World.var? at*;rw [C] at h ⊢;simp only [Option.bind_some] at h ⊢;rw [k.block 2 A];exact h
def HZ(w k os):am w (Go.Sort.grow (w.drewN k) os):=
 ⟨rfl,rfl,rfl,by simp [Go.Sort.grow,World.drewN],fun i hi=>by simp only [Go.Sort.grow,World.drewN];exact Array.getElem?_append_left hi⟩
def Es(k:Nat)(w)(J:k<=9223372036854775807)(D:nV w):
  Calls Tryz.prog 91 #[au k] w fun e w'=>e=bi (an (nW k))/\am w w':=by
 have C:=Any.strconv_Itoa Tryz.laysM171 (k:Int) ai ai w D;have hl:=Lib.itoa_length_le (k:Int) ai ai;have Q:(⟨(Lib.itoa (k:Int)).toArray⟩:ByteArray).size=(Lib.itoa (k:Int)).length:=by simp [ByteArray.size]
 unfold nW;generalize (⟨(Lib.itoa (k:Int)).toArray⟩:ByteArray)=t at*;have I:¬9223372036854775807<(⟨#[109,97,114,107]⟩:ByteArray).size+t.size:=by
  rw [show (⟨#[109,97,114,107]⟩:ByteArray).size=4 from rfl];omega
 go_enter Tryz.func91,Tryz.ntmps91;go_wp2_with fail;refine C.mono ?_;rintro e w' ⟨rfl,n,os,rfl⟩;have A:=HZ w n os;generalize Go.Sort.grow (w.drewN n) os=W at*;go_wp2;go_ret;exact ⟨rfl,A⟩
end Go.Proofs.YtlbpnlngckgcbaaGreatDoor
