import Derived.Deep.WholeRow
import Derived.Test.YtoihbhenbmffcaaGreatDoorYAA
set_option linter.all false
set_option maxHeartbeats 0
namespace Go.Proofs.YtoihbhenbmffcaaGreatDoor
open Go.RowKit Go.Proofs.Tryz
theorem V0:∀(a:List Value) (k:Nat) (Z:Array Value),k+a.length<=Z.size->(a.zipIdx k).foldl (fun(c:Array Value) (p:Value×Nat)=>c.setIfInBounds (0+p.2) p.1) Z=(Z.toList.take k++a++Z.toList.drop (k+a.length)).toArray
 |[],k,Z,h=>by simp
 |v::a,k,Z,h=>by
  simp only[bU]at h;rw[List.zipIdx_cons,cC,V0 a (k+1) _ (by simp;omega)];simp only[cV,Array.toList_setIfInBounds,bU]
  congr 1
  rw[List.drop_set,if_pos (by omega),bM (by simp;omega),List.getElem_set_self,List.take_set,List.set_eq_of_length_le (by simp;omega)];simp only[dd,fU,dG,dm];rw[show k+1+a.length=k+(a.length+1) by omega]
theorem Yy(cs:List Value)(Z:Array Value)(h:Z.size=cs.length):cs.toArray.zipIdx.foldl (fun(c:Array Value) (p:Value×Nat)=>c.setIfInBounds (0+p.2) p.1) Z=cs.toArray:=by
 have:=V0 cs 0 Z (by omega);rw[<-Array.foldl_toList,Array.toList_zipIdx,fb,this,cV,<-h,<-Array.length_toList,List.drop_length];simp
variable {P:Program}
theorem Ki(w:World)(t e:TypeId)(cs:List Value)(z:Value)(j:P.underlying t=some (.slice e))(d:(Value.agg cs.toArray).cells=cs.toArray)(k:(P.info? e).map (λi=>(i.zero,i.size))=some (some z,cs.length))(m:z.cells.size=cs.length)(c:0<cs.length)(n:cs.length<=2^24):
  (Instr.buildSlice t 1 #[(0,.agg cs.toArray)]).run P w=.ok (.slice (some ⟨w.heap.size,0,none⟩) 1 1) (w.alloc (.cells cs.toArray e)):=by
 obtain⟨g,a⟩:=zero_of_info k;have l:(sizeOf e).run P w=.ok cs.length w:=by
  cases hq:P.info? e with
  |none=>simp[hq]at a
  |some i=>simp[hq]at a;simp[sizeOf,typeInfo,hq,a]
 have f:Instr.fill (λi=>some (i*cs.length,cs.length)) (Array.map (λx=>z.cells[x%z.cells.size]!) (Array.range cs.length)) [(0,.agg cs.toArray)]=some cs.toArray:=by
  have b:=Yy cs (Array.map (λx=>z.cells[x%z.cells.size]!) (Array.range cs.length)) (by simp);simp only[Instr.fill,d,Nat.zero_mul,dh,Array.size_map,Array.size_range,cV,ne_eq,not_true_eq_false,fP,ex];rw[if_neg (by simp)];simp only[cV]at b;rw[b]
 simp[Instr.buildSlice,run_underlying j,l,g,f,fx,Result.andThen,newRow,newObj];rw[if_neg (by omega),if_neg (by intro h;rw[h]at c;simp at c)];rfl
theorem E6{ops:Array Oper}{b:List Oper}{op:Oper}{a:Act}{w:World}{Q:Exit->Act->World->Prop}(d:op.guard=none)(t:TypeId)(x:Operand)(f:op.op=.buildSlice t 1 #[(0,x)])(cs:List Value)(o:a.eval x=.agg cs.toArray)
  (e:TypeId) (z:Value) (l:P.underlying t=some (.slice e)) (c:(Value.agg cs.toArray).cells=cs.toArray) (n:(P.info? e).map (λi=>(i.zero,i.size))=some (some z,cs.length)) (p:z.cells.size=cs.length) (m:0<cs.length) (k:cs.length<=2^24)
  (h:wpList P ops Q b (a.put op.dst (.slice (some ⟨w.heap.size,0,none⟩) 1 1)) (w.alloc (.cells cs.toArray e))):wpList P ops Q (op::b) a w:=
 wpList_plain d λ_ j=>by
  unfold Oper.wp execOp;have g:=Ki (P:=P) w t e cs z l c n p m k;simp[f,o,g];exact j _ _ h
theorem Tryz.zK:(Tryz.prog.info? 90).map (λi=>(i.zero,i.size))=some (some (.agg (List.replicate 26 (.string ⟨#[]⟩)).toArray),26):=by kernel_rfl
