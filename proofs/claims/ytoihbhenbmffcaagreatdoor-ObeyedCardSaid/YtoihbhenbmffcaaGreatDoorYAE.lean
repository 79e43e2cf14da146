import Derived.Deep.WholeRow
import Derived.Test.YtoihbhenbmffcaaGreatDoorYAA
set_option linter.all false
set_option maxHeartbeats 0
open List renaming length->Z,toArray->j3
open Option renaming some->V
open Go renaming Value->lN
namespace Go.Proofs.YtoihbhenbmffcaaGreatDoor
open Go.RowKit Go.Proofs.Tryz
def Yi:∀(a:mc lN) (k:Nat) (b:Array lN),k+Z a<=b.size->(a.zipIdx k).foldl (fun(c:Array lN) (p:lN×Nat)=>c.setIfInBounds (0+p.2) p.1) b=j3 (b.toList.take k++a++b.toList.drop (k+Z a))
 |[],k,b,h=>by simp
 |v::a,k,b,h=>by
  simp only[gW]at h;rw[List.zipIdx_cons,iA,Yi a (k+1) _ (by simp;omega)];simp only[iM,Array.toList_setIfInBounds,gW]
  congr 1
  rw[List.drop_set,gY (by omega),gQ (by simp;omega),List.getElem_set_self,List.take_set,List.set_eq_of_length_le (by simp;omega)];simp only[iT,lG,js,i6];rw[show k+1+Z a=k+(Z a+1) by omega]
def bg(cs:mc lN)(a:Array lN)(h:a.size=Z cs):cs.toArray.zipIdx.foldl (fun(c:Array lN) (p:lN×Nat)=>c.setIfInBounds (0+p.2) p.1) a=j3 cs:=by
 have:=Yi cs 0 a (by omega);rw[<-Array.foldl_toList,Array.toList_zipIdx,kO,this,iM,<-h,<-Array.length_toList,List.drop_length];simp
variable {P:Program}
def Ll(w:World)(t e:TypeId)(cs:mc lN)(z:lN)(j:P.underlying t=V (.slice e))(d:(Value.agg (j3 cs)).cells=j3 cs)(k:(P.info? e).map (λi=>(i.zero,i.size))=V (V z,Z cs))(m:z.cells.size=Z cs)(c:0<Z cs)(n:Z cs<=2^24):
  (Instr.buildSlice t 1 #[(0,.agg (j3 cs))]).run P w=.ok (.slice (V ⟨w.heap.size,0,none⟩) 1 1) (w.alloc (.cells (j3 cs) e)):=by
 obtain⟨g,a⟩:=zero_of_info k;have l:(sizeOf e).run P w=.ok (Z cs) w:=by
  cases hq:P.info? e with
  |none=>simp[hq]at a
  |some i=>simp[hq]at a;simp[sizeOf,typeInfo,hq,a]
 have f:Instr.fill (λi=>V (i*Z cs,Z cs)) (Array.map (λx=>z.cells[x%z.cells.size]!) (Array.range (Z cs))) [(0,.agg (j3 cs))]=V (j3 cs):=by
  have b:=bg cs (Array.map (λx=>z.cells[x%z.cells.size]!) (Array.range (Z cs))) (by simp);simp only[Instr.fill,d,Nat.zero_mul,i7,Array.size_map,Array.size_range,iM,ne_eq,not_true_eq_false,lD,kp];rw[gV (by simp)];simp only[iM]at b;rw[b]
 simp[Instr.buildSlice,run_underlying j,l,g,f,lh,Result.andThen,newRow,newObj];rw[gV (by omega),gV (by intro h;rw[h]at c;simp at c)];rfl
def Fm{ops:Array Oper}{b:mc Oper}{op:Oper}{a:Act}{w:World}{Q:Exit->Act->World->Prop}(d:op.guard=none)(t:TypeId)(x:Operand)(f:op.op=.buildSlice t 1 #[(0,x)])(cs:mc lN)(o:a.eval x=.agg (j3 cs))
  (e:TypeId) (z:lN) (l:P.underlying t=V (.slice e)) (c:(Value.agg (j3 cs)).cells=j3 cs) (n:(P.info? e).map (λi=>(i.zero,i.size))=V (V z,Z cs)) (p:z.cells.size=Z cs) (m:0<Z cs) (k:Z cs<=2^24)
  (h:wpList P ops Q b (a.put op.dst (.slice (V ⟨w.heap.size,0,none⟩) 1 1)) (w.alloc (.cells (j3 cs) e))):wpList P ops Q (op::b) a w:=
 wpList_plain d λ_ j=>by
  unfold Oper.wp execOp;have g:=Ll (P:=P) w t e cs z l c n p m k;simp[f,o,g];exact j _ _ h
theorem Tryz.yL:(Tryz.prog.info? 90).map (λi=>(i.zero,i.size))=V (V (.agg (j3 (List.replicate 26 (.string ⟨#[]⟩)))),26):=by kernel_rfl
