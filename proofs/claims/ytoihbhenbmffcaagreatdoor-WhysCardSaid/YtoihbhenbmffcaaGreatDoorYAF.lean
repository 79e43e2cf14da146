import Derived.Deep.WholeRow
import Derived.Test.YtoihbhenbmffcaaGreatDoorYAA
set_option linter.all false
set_option maxHeartbeats 0
open List renaming length->Z,toArray->j2
open Option renaming some->V
open Go renaming Value->j8
namespace Go.Proofs.YtoihbhenbmffcaaGreatDoor
open Go.RowKit Go.Proofs.Tryz
def W7:∀(a:List j8) (k:Nat) (b:Array j8),k+Z a<=b.size->(a.zipIdx k).foldl (fun(c:Array j8) (p:j8×Nat)=>c.setIfInBounds (0+p.2) p.1) b=j2 (b.toList.take k++a++b.toList.drop (k+Z a))
 |[],k,b,h=>by simp
 |v::a,k,b,h=>by
  simp only[eF]at h;rw[List.zipIdx_cons,fd,W7 a (k+1) _ (by simp;omega)];simp only[fw,Array.toList_setIfInBounds,eF]
  congr 1
  rw[List.drop_set,eI (by omega),ep (by simp;omega),List.getElem_set_self,List.take_set,List.set_eq_of_length_le (by simp;omega)];simp only[fD,jx,gO,gd];rw[show k+1+Z a=k+(Z a+1) by omega]
def ZO(cs:List j8)(a:Array j8)(h:a.size=Z cs):cs.toArray.zipIdx.foldl (fun(c:Array j8) (p:j8×Nat)=>c.setIfInBounds (0+p.2) p.1) a=j2 cs:=by
 have:=W7 cs 0 a (by omega);rw[<-Array.foldl_toList,Array.toList_zipIdx,iD,this,fw,<-h,<-Array.length_toList,List.drop_length];simp
variable {P:Program}
def KT(w:World)(t e:TypeId)(cs:List j8)(z:j8)(j:P.underlying t=V (.slice e))(d:(Value.agg (j2 cs)).cells=j2 cs)(k:(P.info? e).map (λi=>(i.zero,i.size))=V (V z,Z cs))(m:z.cells.size=Z cs)(c:0<Z cs)(n:Z cs<=2^24):
  (Instr.buildSlice t 1 #[(0,.agg (j2 cs))]).run P w=.ok (.slice (V ⟨w.heap.size,0,none⟩) 1 1) (w.alloc (.cells (j2 cs) e)):=by
 obtain⟨g,a⟩:=zero_of_info k;have l:(sizeOf e).run P w=.ok (Z cs) w:=by
  cases hq:P.info? e with
  |none=>simp[hq]at a
  |some i=>simp[hq]at a;simp[sizeOf,typeInfo,hq,a]
 have f:Instr.fill (λi=>V (i*Z cs,Z cs)) (Array.map (λx=>z.cells[x%z.cells.size]!) (Array.range (Z cs))) [(0,.agg (j2 cs))]=V (j2 cs):=by
  have b:=ZO cs (Array.map (λx=>z.cells[x%z.cells.size]!) (Array.range (Z cs))) (by simp);simp only[Instr.fill,d,Nat.zero_mul,fU,Array.size_map,Array.size_range,fw,ne_eq,not_true_eq_false,jr,ib];rw[eE (by simp)];simp only[fw]at b;rw[b]
 simp[Instr.buildSlice,run_underlying j,l,g,f,je,Result.andThen,newRow,newObj];rw[eE (by omega),eE (by intro h;rw[h]at c;simp at c)];rfl
def CQ{ops:Array Oper}{b:List Oper}{op:Oper}{a:Act}{w:World}{Q:Exit->Act->World->Prop}(d:op.guard=none)(t:TypeId)(x:Operand)(f:op.op=.buildSlice t 1 #[(0,x)])(cs:List j8)(o:a.eval x=.agg (j2 cs))
  (e:TypeId) (z:j8) (l:P.underlying t=V (.slice e)) (c:(Value.agg (j2 cs)).cells=j2 cs) (n:(P.info? e).map (λi=>(i.zero,i.size))=V (V z,Z cs)) (p:z.cells.size=Z cs) (m:0<Z cs) (k:Z cs<=2^24)
  (h:wpList P ops Q b (a.put op.dst (.slice (V ⟨w.heap.size,0,none⟩) 1 1)) (w.alloc (.cells (j2 cs) e))):wpList P ops Q (op::b) a w:=
 wpList_plain d λ_ j=>by
  unfold Oper.wp execOp;have g:=KT (P:=P) w t e cs z l c n p m k;simp[f,o,g];exact j _ _ h
theorem Tryz.zr:(Tryz.prog.info? 90).map (λi=>(i.zero,i.size))=V (V (.agg (j2 (List.replicate 26 (.string ⟨#[]⟩)))),26):=by kernel_rfl
