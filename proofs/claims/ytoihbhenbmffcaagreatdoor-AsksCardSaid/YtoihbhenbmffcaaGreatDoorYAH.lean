import Derived.Shelf.Strings.BuilderK
import Derived.Test.YtoihbhenbmffcaaGreatDoorYAA
set_option linter.all false
set_option maxHeartbeats 0
namespace Go.Proofs.YtoihbhenbmffcaaGreatDoor
open Go.Shelf Go.RowKit
open Go.Proofs.Tryz
def aw:Ren:=⟨fun|166=>75|167=>77|169=>78|240=>125|276=>168|n=>n,fun|37=>143|70=>142|72=>145|75=>147|80=>50|127=>223|164=>272|n=>n,fun|n=>n⟩
theorem ZT:Lays.n166 prog aw:=⟨by kernel_rfl,func75.trans (congrArg some (by kernel_rfl)),func125.trans (congrArg some (by kernel_rfl)),func168.trans (congrArg some (by kernel_rfl)),underlying0,isAgg0,sizeOf0,zeroValue0,underlying3,isAgg3,sizeOf3,zeroValue3,underlying4,isAgg4,sizeOf4,zeroValue4,underlying9,isAgg9,sizeOf9,zeroValue9,underlying20,isAgg20,sizeOf20,zeroValue20,underlying143,isAgg143,sizeOf143,zeroValue143,underlying142,isAgg142,sizeOf142,zeroValue142,underlying145,isAgg145,sizeOf145,zeroValue145,underlying147,isAgg147,sizeOf147,zeroValue147,underlying272,isAgg272,sizeOf272,zeroValue272⟩
theorem ZD:Lays.n169 prog aw:=⟨by kernel_rfl,func78.trans (congrArg some (by kernel_rfl)),underlying0,isAgg0,sizeOf0,zeroValue0,underlying3,isAgg3,sizeOf3,zeroValue3,underlying9,isAgg9,sizeOf9,zeroValue9,underlying143,isAgg143,sizeOf143,zeroValue143,underlying142,isAgg142,sizeOf142,zeroValue142,underlying145,isAgg145,sizeOf145,zeroValue145,underlying223,isAgg223,sizeOf223,zeroValue223⟩
theorem aV:Builder.Extra prog aw:={sizeBuilder:=by kernel_rfl,liesBuilder:=by kernel_rfl,t5:=underlying5,a5:=isAgg5,z5:=sizeOf5,v5:=zeroValue5,infoByte:=by kernel_rfl,cellsByte:=by kernel_rfl,sizeByte:=by kernel_rfl,neB5:=by decide}
theorem Sl(B b:Nat)(l:List UInt8)(w:World)(h:Lib.IsBuilderF 145 5 B b (Lib.byteCells l) w)(c:B<=w.heap.size):
  Calls prog 78 #[.pointer (some ⟨b,0,none⟩)] w λe a=>e=.returned (.string ⟨l.toArray⟩)/\(Lib.IsBuilderF 145 5 B b (Lib.byteCells l) a/\Below B w a/\Lib.OthersKept 5 (some b) w a):=
 Any.Builder_String_any_k ZD aV B b l w h c
