import Derived.Deep.WholeRow
import Derived.Test.YtoihbhenbmffcaaGreatZAA
set_option linter.all false
set_option maxHeartbeats 0
open List renaming length->Z,toArray->j1
open Option renaming some->V
open Go renaming Value->ks
namespace Go.Proofs.YtoihbhenbmffcaaGreat
open Go.RowKit Go.Proofs.Tryz
def Xp:∀(a:kJ ks) (k:Nat) (b:Array ks),k+Z a<=b.size->(a.zipIdx k).foldl (fun(c:Array ks) (p:ks×Nat)=>c.setIfInBounds (0+p.2) p.1) b=j1 (b.toList.take k++a++b.toList.drop (k+Z a))
 |[],k,b,h=>by simp
 |v::a,k,b,h=>by
  simp only[fD]at h;rw[List.zipIdx_cons,fZ,Xp a (k+1) _ (by simp;omega)];simp only[gE,Array.toList_setIfInBounds,fD]
  congr 1
  rw[List.drop_set,fF (by omega),fm (by simp;omega),List.getElem_set_self,List.take_set,List.set_eq_of_length_le (by simp;omega)];simp only[gF,kg,iO,ia];rw[show k+1+Z a=k+(Z a+1) by omega]
def Z0(a:kJ ks)(b:Array ks)(h:b.size=Z a):a.toArray.zipIdx.foldl (fun(c:Array ks) (p:ks×Nat)=>c.setIfInBounds (0+p.2) p.1) b=j1 a:=by
 have:=Xp a 0 b (by omega);rw[<-Array.foldl_toList,Array.toList_zipIdx,jk,this,gE,<-h,<-Array.length_toList,List.drop_length];simp
variable {P:Program}
def KX(w:World)(t e:TypeId)(a:kJ ks)(z:ks)(k:P.underlying t=V (.slice e))(f:(Value.agg (j1 a)).cells=j1 a)(l:(P.info? e).map (λi=>(i.zero,i.size))=V (V z,Z a))(n:z.cells.size=Z a)(d:0<Z a)(o:Z a<=2^24):
  (Instr.buildSlice t 1 #[(0,.agg (j1 a))]).run P w=.ok (.slice (V ⟨w.heap.size,0,none⟩) 1 1) (w.alloc (.cells (j1 a) e)):=by
 obtain⟨j,b⟩:=zero_of_info l;have m:(sizeOf e).run P w=.ok (Z a) w:=by
  cases hq:P.info? e with
  |none=>simp[hq]at b
  |some i=>simp[hq]at b;simp[sizeOf,typeInfo,hq,b]
 have g:Instr.fill (λi=>V (i*Z a,Z a)) (Array.map (λx=>z.cells[x%z.cells.size]!) (Array.range (Z a))) [(0,.agg (j1 a))]=V (j1 a):=by
  have c:=Z0 a (Array.map (λx=>z.cells[x%z.cells.size]!) (Array.range (Z a))) (by simp);simp only[Instr.fill,f,Nat.zero_mul,gS,Array.size_map,Array.size_range,gE,ne_eq,not_true_eq_false,j9,iZ];rw[fB (by simp)];simp only[gE]at c;rw[c]
 simp[Instr.buildSlice,j7 k,m,j,g,jO,Result.andThen,newRow,newObj];rw[fB (by omega),fB (by intro h;rw[h]at d;simp at d)];rfl
def CQ{d:Array Oper}{f:kJ Oper}{c:Oper}{a:Act}{w:World}{Q:Exit->Act->World->Prop}(j:c.guard=none)(t:TypeId)(x:Operand)(k:c.op=.buildSlice t 1 #[(0,x)])(b:kJ ks)(r:a.eval x=.agg (j1 b))
  (e:TypeId) (z:ks) (o:P.underlying t=V (.slice e)) (g:(Value.agg (j1 b)).cells=j1 b) (q:(P.info? e).map (λi=>(i.zero,i.size))=V (V z,Z b)) (s:z.cells.size=Z b) (p:0<Z b) (n:Z b<=2^24)
  (h:wpList P d Q f (a.put c.dst (.slice (V ⟨w.heap.size,0,none⟩) 1 1)) (w.alloc (.cells (j1 b) e))):wpList P d Q (c::f) a w:=
 wpList_plain j λ_ l=>by
  unfold Oper.wp execOp;have m:=KX (P:=P) w t e b z o g q s p n;simp[k,r,m];exact l _ _ h
theorem Tryz.zero141:(Tryz.prog.info? 141).map (λi=>(i.zero,i.size))=V (V (.agg (j1 (List.replicate 26 (.string ⟨#[]⟩)))),26):=by kernel_rfl
