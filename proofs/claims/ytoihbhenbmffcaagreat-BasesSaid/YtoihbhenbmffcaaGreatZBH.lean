import Derived.ProofKit
import Derived.OpenShut
import Derived.Deep.Slices
import Derived.Deep.Strs
import Derived.Test.YtoihbhenbmffcaaGreatRows
import Derived.Test.YtoihbhenbmffcaaGreatZBG
set_option linter.all false
set_option maxHeartbeats 0
open Go.Value renaming slice->U,string->O
namespace Go.Proofs.YtoihbhenbmffcaaGreat
open Go.ChangeShapes Go.WideShapes Go.ChangeAt Go.RowKit Go.Deep
open Go.Proofs.Tryz
variable{y:kJ Value}{w:World}{j:Nat}
theorem Tryz.ownK:ownKnob Tryz.prog.godebug=none:=by kernel_rfl
theorem Tryz.zj:laidOutB Tryz.prog=true:=by kernel_rfl
def eC(h:y.length=3):∃a b c,y=[a,b,c]:=by
 match y,h with
 |[a,b,c],_=>exact⟨a,b,c,rfl⟩
theorem Y8{H:Type}{Q:TypeId×Value->H}{x:DataW H×kJ MemPlace}(h:DataW.trod Q prog w 0 (λ_=>true) true j 22 y=some x):
  (∃a b,y=[U a 0 b])\/∃o l c b L S T,y=[U (some ⟨o,l,none⟩) c b]/\Q6 w o l c L S T/\c<=b/\b<=9223372036854775807/\∀i,i<c->(S i).size<=9223372036854775807:=by
 rcases open_slice underlying22 h with⟨p,_⟩|⟨a,c,b,m,n,D,Pl,rfl,hb,hl,hm,N,_,hx⟩
 .exact Or.inl ⟨none,0,p⟩
 .by_cases p:c=0
  .subst p;exact Or.inl ⟨some a,b,rfl⟩
  .right;(have EK:c<=m:=by rw[N];simp;omega);(have Ax:prog.cellsOf 32=3:=by kernel_rfl);(have I:prog.cellsOf 3=1:=by kernel_rfl);(have AB:prog.cellsOf 9=1:=by kernel_rfl);have R:∀i,i<m->∃q:Int×zA×zA,w.cell? (a.add (i*3))=some (.int .i64 q.1)/\w.cell? (a.add (i*3+1))=some (O q.2.1)/\w.cell? (a.add (i*3+2))=some (O q.2.2)/\q.2.1.size<=maxLen:=by
    intro i u;obtain⟨CL,B,M⟩:=hx i u;rw[Ax]at B;obtain⟨_,P,r⟩:=World.cells?_some B;obtain⟨y0,y1,y2,n',_,_,A,E,z⟩:=trod_struct3 underlying32 M;obtain⟨v0,v1,v2,rfl⟩:=eC P;simp[I,AB]at A E z;obtain⟨k,v,_,_⟩:=DataW.trod_int underlying3 A;obtain⟨s,G,_,hs⟩:=DataW.trod_string underlying9 E;obtain⟨t,C,_,_⟩:=DataW.trod_string underlying9 z;have f:=r 0 (by omega);have d:=r 1 (by omega);have e:=r 2 (by omega);rw[Addr.add_add]at f d e;simp only[iH,and_true]at v G C;subst v G C;exact⟨(k,s,t),by simpa using f,by simpa using d,by simpa using e,hs⟩
   obtain⟨q,g⟩:=choose_lt R;have F:a.spot=none:=by
    have:=(g 0 (by omega)).1;simp only[Nat.zero_mul,Addr.add_zero']at this;exact World.cell?_spot this
   obtain⟨o,l,EM⟩:=a;simp only at F;subst F;unfold maxLen at hm g;refine⟨o,l,c,b,λi=>(q i).1,λi=>(q i).2.1,λi=>(q i).2.2,rfl,λi u=>?_,hl,by omega,λi u=>by have:=(g i (by omega)).2.2.2;omega⟩;obtain⟨f,d,e,_⟩:=g i (by omega);rw[iP]at f d e;exact⟨f,by rw[Nat.add_assoc];exact d,by rw[Nat.add_assoc];exact e⟩
set_option maxRecDepth 100000
theorem Sv(z:Os)(AB:z.Started)(H:Type)(enc:TypeId×Value->H):
  ReturnsInHanded {} Tryz.checked z 3 .any (Rows.basesSpec.pre6 enc prog Tryz.f3 Rows.basesRow.domain false) (Rows.basesSpec.post enc prog Tryz.f3 false true false false):=by
 refine returnsInHanded_of_change (C:=Tryz.checked) Tryz.ownK AB (by kernel_rfl) func3
  (ChangeSpec.witness6 (enc:=enc) (C:=Tryz.checked) false ⟨#[],#[O ⟨#[]⟩,U none 0 0],[]⟩ 8 (by kernel_rfl) (by kernel_rfl) (by kernel_rfl) (by kernel_rfl)) ?_
 intro W AR d ds gs FL N w Ha _;have k:∀(j:Nat) t v,Tryz.f3.params[j]?=some t->d[j]?=some v->Value.okWide prog W .any AR t v:=N;have n:=w;obtain⟨p,q,A,hV,rfl,HB,FW⟩:=w;have D:DataW.TrodAll enc prog W 0 (λ_=>true) true Tryz.f3.params.toList d.toList ds p:=A;rw[params3]at D k;obtain⟨M,HA,d0,FA,I,q0,FO,rfl,rfl,u,r0⟩:=trodAll_cons D;obtain⟨B,E0,d1,FT,m,q1,CW,rfl,rfl,f,r1⟩:=trodAll_cons r0;obtain⟨rfl,rfl,rfl⟩:=trodAll_nil r1;subst CW;obtain rfl:d=#[M,B]:=by cases d;simp_all
 obtain⟨rfl,rfl⟩:=trodVars_none hV;clear A N;simp only[gd]at n;have r:∀x∈I++m,x.block<W.heap.size:=λx c=>by simpa using n.lt x (by simpa using c)
 obtain⟨F,y,L,rfl⟩:=okWide_slice underlying22 (k 1 22 B rfl rfl);obtain⟨P,rfl⟩:=okWide_string underlying9 (k 0 9 M rfl rfl);have G:P.size<=9223372036854775807:=by
  obtain⟨E,g⟩:=u;obtain⟨s,e,_,o⟩:=DataW.trod_string underlying9 g;simp[Value.cells]at e;subst e;unfold maxLen at o;omega
 have EK:Calls prog 3 #[O P,U F y L] W λe R=>e=.returned (.bool true)/\Ac [] W R:=by
  obtain⟨E,g⟩:=f;have EM:DataW.trod enc prog W 0 (λ_=>true) true E 22 [U F y L]=some (d1,m):=by simpa[Value.cells] using g
  rcases Y8 EM with⟨a,BT,b⟩|⟨ab,ao,FF,BT,Q,S,T,b,o,f,h2,h3⟩
  .simp only[iH,fg,and_true]at b;obtain⟨rfl,rfl,rfl⟩:=b;exact Ry P _ 0 _ (λ_=>0) (λ_=>ByteArray.empty) (λ_=>ByteArray.empty) W G (Or.inl rfl) (λi hi=>by omega)
  .simp only[iH,fg,and_true]at b;obtain⟨rfl,rfl,rfl⟩:=b;exact Ry P _ _ _ Q S T W G (Or.inr ⟨ab,ao,rfl,o,f,h2⟩) h3
 refine EK.mono λe W' ⟨b,hk⟩=>?_
 subst b;have l:Below W.heap.size W W':=hk.below;refine⟨_,rfl,?_⟩;refine⟨_,_,_,[],I++(m++[]),[],n,?_,?_,rfl,l.frame _,λh=>by cases h⟩
 .exact trodAll_cons_mk (shut_bool underlying4 _) trodAll_mk0
 .exact trodAll_cons_mk (Below.trod Tryz.zj (by kernel_rfl) (j6 (by kernel_rfl)) u l (λx c=>r x (ij _ c))) (trodAll_cons_mk (Below.trod Tryz.zj (by kernel_rfl) (j6 (by kernel_rfl)) f l (λx c=>r x (List.mem_append_right _ c))) trodAll_mk0)
theorem Wc:Rows.basesRow.holds Tryz.pinned (OpenSpec.ofChange Rows.basesSpec):=
 OpenClaim.holds_of_wide 3 Tryz.f3 rfl rfl rfl rfl rfl rfl rfl ⟨rfl,rfl,rfl,rfl,rfl⟩ rfl rfl rfl rfl rfl (by kernel_rfl) func3 (by kernel_rfl)
  (j6 (by kernel_rfl)) (by unfold Func.isWrapper;first|(rw[fF (by decide+kernel)];kernel_rfl)|(rw[fB (by decide+kernel)];exact⟨rfl,rfl⟩))
  (λa b H c _=>Sv a b H c)
def dj:Rows.BasesSaid:=
 Wc
def bases_holds:Rows.BasesSaid:=dj
