import Derived.LaidMore
import Derived.Stop.Joined
import Derived.SevenTiedAt
import Derived.ProofKit
import Derived.OpenShut
import Derived.Deep.Slices
import Derived.Deep.Strs
import Derived.Test.YtoihbhenbmffcaaGreatDoorRows
import Derived.Test.YtoihbhenbmffcaaGreatDoorTBK
import Derived.Test.YtoihbhenbmffcaaGreatDoorTBI
import Derived.Test.YtoihbhenbmffcaaGreatDoorTie
import Derived.Test.YtoihbhenbmffcaaGreatDoorCards
set_option linter.all false
set_option maxHeartbeats 0
open Go.Value renaming slice->U,string->O
open Option renaming some->V
open Bool renaming false->K,true->jj
namespace Go.Proofs.YtoihbhenbmffcaaGreatDoor
open Go.ChangeShapes Go.WideShapes Go.ChangeAt Go.RowKit Go.Deep
open Go.Proofs.Tryz
variable{y:rc Value}{w:World}{j:Nat}
theorem Tryz.ownK:ownKnob Tryz.prog.godebug=none:=by kernel_rfl
theorem Tryz.zz:laidOutB Tryz.prog=jj:=by kernel_rfl
def ld(h:y.length=3):∃a b c,y=[a,b,c]:=by
 match y,h with
 |[a,b,c],_=>exact⟨a,b,c,rfl⟩
theorem dO{H:Type}{R:TypeId×Value->H}{x:DataW H×rc MemPlace}(h:DataW.trod R prog w 0 (λ_=>jj) jj j 22 y=V x):
  (∃a b,y=[U a 0 b])\/∃o l c b L S T,y=[U (V ⟨o,l,none⟩) c b]/\Qt w o l c L S T/\c<=b/\b<=9223372036854775807/\∀i,i<c->(S i).size<=9223372036854775807/\(T i).size<=9223372036854775807:=by
 rcases open_slice underlying22 h with⟨p,_⟩|⟨a,c,b,m,n,D,Pl,rfl,hb,hl,hm,N,_,hx⟩
 .exact Or.inl ⟨none,0,p⟩
 .by_cases p:c=0
  .subst p;exact Or.inl ⟨V a,b,rfl⟩
  .right;(have B0:c<=m:=by rw[N];simp;omega);(have AB:prog.cellsOf 29=3:=by kernel_rfl);(have I:prog.cellsOf 3=1:=by kernel_rfl);(have AH:prog.cellsOf 9=1:=by kernel_rfl);have Ax:∀i,i<m->∃q:Int×zA×zA,w.cell? (a.add (i*3))=V (.int .i64 q.1)/\w.cell? (a.add (i*3+1))=V (O q.2.1)/\w.cell? (a.add (i*3+2))=V (O q.2.2)/\q.2.1.size<=maxLen/\q.2.2.size<=maxLen:=by
    intro i u;obtain⟨BS,B,M⟩:=hx i u;rw[AB]at B;obtain⟨_,Q,r⟩:=World.cells?_some B;obtain⟨y0,y1,y2,n',_,_,A,E,z⟩:=trod_struct3 underlying29 M;obtain⟨v0,v1,v2,rfl⟩:=ld Q;simp[I,AH]at A E z;obtain⟨k,v,_,_⟩:=DataW.trod_int underlying3 A;obtain⟨s,G,_,hs⟩:=DataW.trod_string underlying9 E;obtain⟨t,C,_,P⟩:=DataW.trod_string underlying9 z;have f:=r 0 (by omega);have d:=r 1 (by omega);have e:=r 2 (by omega);rw[Addr.add_add]at f d e;simp only[oA,and_true]at v G C;subst v G C;exact⟨(k,s,t),by simpa using f,by simpa using d,by simpa using e,hs,P⟩
   obtain⟨q,g⟩:=choose_lt Ax;have F:a.spot=none:=by
    have:=(g 0 (by omega)).1;simp only[Nat.zero_mul,Addr.add_zero']at this;exact World.cell?_spot this
   obtain⟨o,l,B2⟩:=a;simp only at F;subst F;unfold maxLen at hm g;refine⟨o,l,c,b,λi=>(q i).1,λi=>(q i).2.1,λi=>(q i).2.2,rfl,λi u=>?_,hl,by omega,λi u=>by have:=(g i (by omega)).2.2.2;omega⟩;obtain⟨f,d,e,_⟩:=g i (by omega);rw[po]at f d e;exact⟨f,by rw[Nat.add_assoc];exact d,by rw[Nat.add_assoc];exact e⟩
def dZ:rc (String×DataW Unit):=Rows.tracesRow.laid
theorem gq(a:Os)(b:Array Value):laidMetH prog dZ ((World.doorLaid prog 400 a).forCall (λ_ _=>0) ⟨#[],b,[]⟩).memory:=
 laidMetH_of_parts3 (fuel:=8) (laidMet_of_run' 8 (by kernel_rfl) (by kernel_rfl)) (by kernel_rfl) (by kernel_rfl)
set_option maxRecDepth 100000
theorem Tm(os:Os)(AH:os.Started)(H:Type)(enc:TypeId×Value->H):
  ReturnsInHanded {} Tryz.checked os 11 .any (λw b=>(Rows.tracesSpec.pre enc prog Tryz.f11 [] K w b/\laidMetH prog dZ w)/\sizedMet enc prog Tryz.f11 (OpenSpec.ofChange Rows.tracesSpec) K w b)
   (Rows.tracesSpec.post enc prog Tryz.f11 K jj K K):=by
 refine returnsInHanded_of_change_and (C:=Tryz.checked) (X:=λw _=>laidMetH prog dZ w) (λ_ _ _ hh h=>h.of_heap hh) Tryz.ownK AH (by kernel_rfl) func11
  (ChangeSpec.witness_shaped (enc:=enc) (C:=Tryz.checked) (os:=os) (X:=λw _=>laidMetH prog dZ w) K (World.doorLaid prog 400 os) #[O ⟨#[]⟩,U none 0 0] 8 rfl (World.shaped_of_RefB (by kernel_rfl) (by kernel_rfl)) (by kernel_rfl) (by kernel_rfl) (by kernel_rfl) (gq os _)) ?_
 intro W AR b ds gs EY Q y _ _ hL _;have k:∀(j:Nat) t v,Tryz.f11.params[j]?=V t->b[j]?=V v->Value.okWide prog W .any AR t v:=Q;have n:=y;obtain⟨p,q,A,hV,rfl,FL,FC⟩:=y;have D:DataW.TrodAll enc prog W 0 (λ_=>jj) jj Tryz.f11.params.toList b.toList ds p:=A;rw[params11]at D k;obtain⟨N,FF,d0,DT,L,q0,E0,rfl,rfl,u,r0⟩:=trodAll_cons D;obtain⟨B,CW,d1,FB,m,q1,B0,rfl,rfl,f,r1⟩:=trodAll_cons r0;obtain⟨rfl,rfl,rfl⟩:=trodAll_nil r1;subst B0;obtain rfl:b=#[N,B]:=by cases b;simp_all
 obtain⟨rfl,rfl⟩:=trodVars_none hV;clear A Q;simp only[np]at n;have r:∀x∈L++m,x.block<W.heap.size:=λx d=>by simpa using n.lt x (by simpa using d)
 obtain⟨G,z,M,rfl⟩:=okWide_slice underlying22 (k 1 22 B rfl rfl);obtain⟨P,rfl⟩:=okWide_string underlying9 (k 0 9 N rfl rfl);have I:P.size<=9223372036854775807:=by
  obtain⟨F,g⟩:=u;obtain⟨s,e,_,o⟩:=DataW.trod_string underlying9 g;simp[Value.cells]at e;subst e;unfold maxLen at o;omega
 have B2:Calls prog 11 #[O P,U G z M] W λe w'=>e=.returned (.bool jj)/\Ac [] W w':=by
  obtain⟨F,g⟩:=f;have B9:DataW.trod enc prog W 0 (λ_=>jj) jj F 22 [U G z M]=V (d1,m):=by simpa[Value.cells] using g
  rcases dO B9 with⟨a,A2,c⟩|⟨ab,ao,EX,A2,R,S,T,c,o,f,h2,h3⟩
  .simp only[oA,mu,and_true]at c;obtain⟨rfl,rfl,rfl⟩:=c;exact Rh TA P _ 0 _ (λ_=>0) (λ_=>ByteArray.empty) (λ_=>ByteArray.empty) W I (Or.inl rfl) (λi E=>by omega)
  .simp only[oA,mu,and_true]at c;obtain⟨rfl,rfl,rfl⟩:=c;exact Rh TA P _ _ _ R S T W I (Or.inr ⟨ab,ao,rfl,o,f,h2⟩) (λi E=>(h3 i E).1)
 refine B2.mono λe W' ⟨c,hk⟩=>?_
 subst c;have l:Below W.heap.size W W':=hk.below;refine⟨_,rfl,?_⟩;refine⟨_,_,_,[],L++(m++[]),[],n,?_,?_,rfl,l.frame _,λh=>by cases h⟩
 .exact trodAll_cons_mk (shut_bool underlying4 _) trodAll_mk0
 .exact trodAll_cons_mk (Below.trod Tryz.zz (by kernel_rfl) (qK (by kernel_rfl)) u l (λx d=>r x (nS _ d))) (trodAll_cons_mk (Below.trod Tryz.zz (by kernel_rfl) (qK (by kernel_rfl)) f l (λx d=>r x (List.mem_append_right _ d))) trodAll_mk0)
theorem Wc:Rows.tracesRow.holds Tryz.pinned (OpenSpec.ofChange Rows.tracesSpec):=
 OpenClaim.holds_of_wide 11 Tryz.f11 rfl rfl rfl rfl rfl rfl rfl ⟨rfl,rfl,rfl,rfl,rfl⟩ rfl rfl rfl rfl rfl (by kernel_rfl) func11 (by kernel_rfl)
  (qK (by kernel_rfl)) (by unfold Func.isWrapper;first|(rw[mK (by decide+kernel)];kernel_rfl)|(rw[mJ (by decide+kernel)];exact⟨rfl,rfl⟩))
  (λa b H c _=>Tm a b H c)
theorem jC:Rows.TracesCardSaid:=
 Claim7.holds_tied_plain_at .later [] [.data,.data,.data] jj (jj, "ea828b41a5e358bbdacc24b3a189b8291ed9b019ffd3ea37ebae98d5bdc4741a") K
  Wc (λ_ h=>by cases h) (by kernel_rfl) (λ_ h=>by cases h) traces_row_tie rfl ⟨rfl,rfl⟩ (by kernel_rfl) rfl
  (λf g d e=>by
   obtain rfl:f=11:=pH ((show prog.funcNamed Rows.tracesRow.func=V 11 by kernel_rfl).symm.trans d)|>.symm
   obtain rfl:g=Tryz.f11:=(pH (func11.symm.trans e)).symm
   exact⟨by kernel_rfl,λj t a=>by
    rw[params11]at a
    have b:t∈[9,22]:=by simpa using Array.mem_of_getElem? a
    have c:([9,22].all λu=> !prog.wantsStandIn u)=jj:=by kernel_rfl
    exact(show prog.wantsStandIn t=K by simpa using nY.1 c t b)⟩)
  (by kernel_rfl)
theorem traces_card:Rows.TracesCardSaid:=jC
