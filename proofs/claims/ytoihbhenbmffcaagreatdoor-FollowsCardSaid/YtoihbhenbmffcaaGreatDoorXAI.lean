import Derived.Deep.WholeRow
import Derived.Test.YtoihbhenbmffcaaGreatDoorXAA
set_option linter.all false
set_option maxHeartbeats 0
open List renaming length->Z,toArray->ml
open Option renaming some->V
open Go renaming Value->p5
namespace Go.Proofs.YtoihbhenbmffcaaGreatDoor
open Go.RowKit Go.Proofs.Tryz
def ak:∀(a:pM p5) (k:Nat) (b:Array p5),k+Z a<=b.size->(a.zipIdx k).foldl (fun(c:Array p5) (p:p5×Nat)=>c.setIfInBounds (0+p.2) p.1) b=ml (b.toList.take k++a++b.toList.drop (k+Z a))
 |[],k,b,h=>by simp
 |v::a,k,b,h=>by
  simp only[lj]at h;rw[List.zipIdx_cons,lR,ak a (k+1) _ (by simp;omega)];simp only[me,Array.toList_setIfInBounds,lj]
  congr 1
  rw[List.drop_set,ln (by omega),kW (by simp;omega),List.getElem_set_self,List.take_set,List.set_eq_of_length_le (by simp;omega)];simp only[mo,pr,mV,mw];rw[show k+1+Z a=k+(Z a+1) by omega]
def el(a:pM p5)(b:Array p5)(h:b.size=Z a):a.toArray.zipIdx.foldl (fun(c:Array p5) (p:p5×Nat)=>c.setIfInBounds (0+p.2) p.1) b=ml a:=by
 have:=ak a 0 b (by omega);rw[<-Array.foldl_toList,Array.toList_zipIdx,oo,this,me,<-h,<-Array.length_toList,List.drop_length];simp
variable {P:Program}
def Mt(w:World)(t e:TypeId)(a:pM p5)(z:p5)(k:P.underlying t=V (.slice e))(f:(Value.agg (ml a)).cells=ml a)(l:(P.info? e).map (λi=>(i.zero,i.size))=V (V z,Z a))(n:z.cells.size=Z a)(d:0<Z a)(o:Z a<=2^24):
  (Instr.buildSlice t 1 #[(0,.agg (ml a))]).run P w=.ok (.slice (V ⟨w.heap.size,0,none⟩) 1 1) (w.alloc (.cells (ml a) e)):=by
 obtain⟨j,b⟩:=zero_of_info l;have m:(sizeOf e).run P w=.ok (Z a) w:=by
  cases hq:P.info? e with
  |none=>simp[hq]at b
  |some i=>simp[hq]at b;simp[sizeOf,typeInfo,hq,b]
 have g:Instr.fill (λi=>V (i*Z a,Z a)) (Array.map (λx=>z.cells[x%z.cells.size]!) (Array.range (Z a))) [(0,.agg (ml a))]=V (ml a):=by
  have c:=el a (Array.map (λx=>z.cells[x%z.cells.size]!) (Array.range (Z a))) (by simp);simp only[Instr.fill,f,Nat.zero_mul,mE,Array.size_map,Array.size_range,me,ne_eq,not_true_eq_false,oW,nI];rw[li (by simp)];simp only[me]at c;rw[c]
 simp[Instr.buildSlice,run_underlying k,m,j,g,oV,Result.andThen,newRow,newObj];rw[li (by omega),li (by intro h;rw[h]at d;simp at d)];rfl
def Da{d:Array Oper}{f:pM Oper}{c:Oper}{a:Act}{w:World}{Q:Exit->Act->World->Prop}(j:c.guard=none)(t:TypeId)(x:Operand)(k:c.op=.buildSlice t 1 #[(0,x)])(b:pM p5)(r:a.eval x=.agg (ml b))
  (e:TypeId) (z:p5) (o:P.underlying t=V (.slice e)) (g:(Value.agg (ml b)).cells=ml b) (q:(P.info? e).map (λi=>(i.zero,i.size))=V (V z,Z b)) (s:z.cells.size=Z b) (p:0<Z b) (n:Z b<=2^24)
  (h:wpList P d Q f (a.put c.dst (.slice (V ⟨w.heap.size,0,none⟩) 1 1)) (w.alloc (.cells (ml b) e))):wpList P d Q (c::f) a w:=
 wpList_plain j λ_ l=>by
  unfold Oper.wp execOp;have m:=Mt (P:=P) w t e b z o g q s p n;simp[k,r,m];exact l _ _ h
theorem Tryz.zu:(Tryz.prog.info? 90).map (λi=>(i.zero,i.size))=V (V (.agg (ml (List.replicate 26 (.string ⟨#[]⟩)))),26):=by kernel_rfl
