import Derived.Shelf.Strings.BuilderK
import Derived.Test.YtoihbhenbmffcaaGreatDoorYAA
set_option linter.all false
set_option maxHeartbeats 0
open Option renaming some->V
namespace Go.Proofs.YtoihbhenbmffcaaGreatDoor
open Go.Shelf Go.RowKit
open Go.Proofs.Tryz
def dK:Ren:=⟨fun|166=>75|167=>77|169=>78|240=>125|276=>168|n=>n,fun|37=>143|70=>142|72=>145|75=>147|80=>50|127=>223|164=>272|n=>n,fun|n=>n⟩
theorem Ya:Lays.n166 prog dK:=⟨by kernel_rfl,func75.trans (congrArg V (by kernel_rfl)),func125.trans (congrArg V (by kernel_rfl)),func168.trans (congrArg V (by kernel_rfl)),underlying0,isAgg0,sizeOf0,zeroValue0,underlying3,isAgg3,sizeOf3,zeroValue3,underlying4,isAgg4,sizeOf4,zeroValue4,underlying9,isAgg9,sizeOf9,zeroValue9,underlying20,isAgg20,sizeOf20,zeroValue20,underlying143,isAgg143,sizeOf143,zeroValue143,underlying142,isAgg142,sizeOf142,zeroValue142,underlying145,isAgg145,sizeOf145,zeroValue145,underlying147,isAgg147,sizeOf147,zeroValue147,underlying272,isAgg272,sizeOf272,zeroValue272⟩
theorem dq:Lays.n167 prog dK:=⟨by kernel_rfl,func77.trans (congrArg V (by kernel_rfl)),func125.trans (congrArg V (by kernel_rfl)),func168.trans (congrArg V (by kernel_rfl)),underlying0,isAgg0,sizeOf0,zeroValue0,underlying4,isAgg4,sizeOf4,zeroValue4,underlying5,isAgg5,sizeOf5,zeroValue5,underlying9,isAgg9,sizeOf9,zeroValue9,underlying20,isAgg20,sizeOf20,zeroValue20,underlying143,isAgg143,sizeOf143,zeroValue143,underlying142,isAgg142,sizeOf142,zeroValue142,underlying145,isAgg145,sizeOf145,zeroValue145,underlying147,isAgg147,sizeOf147,zeroValue147,underlying272,isAgg272,sizeOf272,zeroValue272⟩
theorem dt:Lays.n169 prog dK:=⟨by kernel_rfl,func78.trans (congrArg V (by kernel_rfl)),underlying0,isAgg0,sizeOf0,zeroValue0,underlying3,isAgg3,sizeOf3,zeroValue3,underlying9,isAgg9,sizeOf9,zeroValue9,underlying143,isAgg143,sizeOf143,zeroValue143,underlying142,isAgg142,sizeOf142,zeroValue142,underlying145,isAgg145,sizeOf145,zeroValue145,underlying223,isAgg223,sizeOf223,zeroValue223⟩
theorem dY:Builder.Extra prog dK:={sizeBuilder:=by kernel_rfl,liesBuilder:=by kernel_rfl,t5:=underlying5,a5:=isAgg5,z5:=sizeOf5,v5:=zeroValue5,infoByte:=by kernel_rfl,cellsByte:=by kernel_rfl,sizeByte:=by kernel_rfl,neB5:=by decide}
def YR(B b:Nat)(a:mc Value)(c:Int)(w:World)(h:Lib.IsBuilderF 145 5 B b a w)(g:a.length+1<=140737488355328)(f:B<=w.heap.size):
  Calls prog 77 #[.pointer (V ⟨b,0,none⟩),.int .u8 c] w λe d=>e=.returned .nilIface/\(Lib.BuilderAtF 145 5 B b (.pointer (V ⟨b,0,none⟩)) (a++[.int .u8 c]) d/\Below B w d/\Lib.OthersKept 5 (V b) w d):=
 Any.Builder_WriteByte_k dq dY B b a c w h g f
def ax(B b:Nat)(a:mc Value)(s:zA)(w:World)(h:Lib.IsBuilderF 145 5 B b a w)(f:a.length+s.size<=140737488355328)(d:B<=w.heap.size):
  Calls prog 75 #[.pointer (V ⟨b,0,none⟩),.string s] w λe c=>e=.returned (.tuple #[.int .i64 s.size,.nilIface])/\(Lib.BuilderAtF 145 5 B b (.pointer (V ⟨b,0,none⟩)) (a++Lib.strCells s) c/\Below B w c/\Lib.OthersKept 5 (V b) w c):=
 Any.Builder_WriteString_k Ya dY B b a s w h f d
def NW(B b:Nat)(l:mc UInt8)(w:World)(h:Lib.IsBuilderF 145 5 B b (Lib.byteCells l) w)(c:B<=w.heap.size):
  Calls prog 78 #[.pointer (V ⟨b,0,none⟩)] w λe a=>e=.returned (.string ⟨l.toArray⟩)/\(Lib.IsBuilderF 145 5 B b (Lib.byteCells l) a/\Below B w a/\Lib.OthersKept 5 (V b) w a):=
 Any.Builder_String_any_k dt dY B b l w h c
