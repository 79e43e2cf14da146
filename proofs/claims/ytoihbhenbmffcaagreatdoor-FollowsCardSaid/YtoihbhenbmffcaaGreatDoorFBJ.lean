import Derived.LaidMore
import Derived.Stop.Joined
import Derived.SevenTiedAt
import Derived.ProofKit
import Derived.OpenShut
import Derived.Deep.Slices
import Derived.Deep.Strs
import Derived.Test.YtoihbhenbmffcaaGreatDoorRows
import Derived.Test.YtoihbhenbmffcaaGreatDoorFBD
import Derived.Test.YtoihbhenbmffcaaGreatDoorTie
import Derived.Test.YtoihbhenbmffcaaGreatDoorCards
set_option linter.all false
set_option maxHeartbeats 0
open Option renaming some->V
open Bool renaming false->K,true->jj
namespace Go.Proofs.YtoihbhenbmffcaaGreatDoor
open Go.ChangeShapes Go.WideShapes Go.ChangeAt Go.RowKit Go.Deep
open Go.Proofs.Tryz
variable{y:pM Value}{w:World}{j:Nat}
theorem Tryz.zt:ownKnob Tryz.prog.godebug=none:=by kernel_rfl
theorem Tryz.zU:laidOutB Tryz.prog=jj:=by kernel_rfl
def PJ(h:y.length=3):∃a b c,y=[a,b,c]:=by
 match y,h with
 |[a,b,c],_=>exact⟨a,b,c,rfl⟩
theorem E3{H:Type}{R:TypeId×Value->H}{x:DataW H×pM MemPlace}(h:DataW.trod R prog w 0 (λ_=>jj) jj j 22 y=V x):
  (∃a b,y=[.slice a 0 b])\/∃o l c b L S T,y=[.slice (V ⟨o,l,none⟩) c b]/\LZ w o l c L S T/\c<=b/\b<=9223372036854775807/\∀i,i<c->(S i).size<=9223372036854775807/\(T i).size<=9223372036854775807:=by
 rcases open_slice underlying22 h with⟨p,_⟩|⟨a,c,b,m,n,D,Pl,rfl,hb,hl,hm,N,_,hx⟩
 .exact Or.inl ⟨none,0,p⟩
 .by_cases p:c=0
  .subst p;exact Or.inl ⟨V a,b,rfl⟩
  .right;(have B2:c<=m:=by rw[N];simp;omega);(have AB:prog.cellsOf 29=3:=by kernel_rfl);(have I:prog.cellsOf 3=1:=by kernel_rfl);(have AH:prog.cellsOf 9=1:=by kernel_rfl);have Ax:∀i,i<m->∃q:Int×zA×zA,w.cell? (a.add (i*3))=V (.int .i64 q.1)/\w.cell? (a.add (i*3+1))=V (.string q.2.1)/\w.cell? (a.add (i*3+2))=V (.string q.2.2)/\q.2.1.size<=maxLen/\q.2.2.size<=maxLen:=by
    intro i u;obtain⟨BT,B,M⟩:=hx i u;rw[AB]at B;obtain⟨_,Q,r⟩:=World.cells?_some B;obtain⟨y0,y1,y2,n',_,_,A,E,z⟩:=trod_struct3 underlying29 M;obtain⟨v0,v1,v2,rfl⟩:=PJ Q;simp[I,AH]at A E z;obtain⟨k,v,_,_⟩:=DataW.trod_int underlying3 A;obtain⟨s,G,_,hs⟩:=DataW.trod_string underlying9 E;obtain⟨t,C,_,P⟩:=DataW.trod_string underlying9 z;have f:=r 0 (by omega);have d:=r 1 (by omega);have e:=r 2 (by omega);rw[Addr.add_add]at f d e;simp only[mj,and_true]at v G C;subst v G C;exact⟨(k,s,t),by simpa using f,by simpa using d,by simpa using e,hs,P⟩
   obtain⟨q,g⟩:=choose_lt Ax;have F:a.spot=none:=by
    have:=(g 0 (by omega)).1;simp only[Nat.zero_mul,Addr.add_zero']at this;exact World.cell?_spot this
   obtain⟨o,l,B9⟩:=a;simp only at F;subst F;unfold maxLen at hm g;refine⟨o,l,c,b,λi=>(q i).1,λi=>(q i).2.1,λi=>(q i).2.2,rfl,λi u=>?_,hl,by omega,λi u=>by have:=(g i (by omega)).2.2.2;omega⟩;obtain⟨f,d,e,_⟩:=g i (by omega);rw[nu]at f d e;exact⟨f,by rw[Nat.add_assoc];exact d,by rw[Nat.add_assoc];exact e⟩
def Fd:pM (String×DataW Unit):=Rows.followsRow.laid
theorem F8(a:Os)(b:Array Value):laidMetH prog Fd ((World.doorLaid prog 400 a).forCall (λ_ _=>0) ⟨#[],b,[]⟩).memory:=
 laidMetH_of_parts3 (fuel:=8) (laidMet_of_run' 8 (by kernel_rfl) (by kernel_rfl)) (by kernel_rfl) (by kernel_rfl)
set_option maxRecDepth 100000
theorem Qb(os:Os)(F:os.Started)(H:Type)(enc:TypeId×Value->H):
  ReturnsInHanded {} Tryz.checked os 4 .any (λw b=>(Rows.followsSpec.pre enc prog Tryz.f4 [] K w b/\laidMetH prog Fd w)/\sizedMet enc prog Tryz.f4 (OpenSpec.ofChange Rows.followsSpec) K w b)
   (Rows.followsSpec.post enc prog Tryz.f4 K jj K K):=by
 refine returnsInHanded_of_change_and (C:=Tryz.checked) (X:=λw _=>laidMetH prog Fd w) (λ_ _ _ hh h=>h.of_heap hh) Tryz.zt F (by kernel_rfl) func4
  (ChangeSpec.witness_shaped (enc:=enc) (C:=Tryz.checked) (os:=os) (X:=λw _=>laidMetH prog Fd w) K (World.doorLaid prog 400 os) #[.slice none 0 0] 8 rfl (World.shaped_of_RefB (by kernel_rfl) (by kernel_rfl)) (by kernel_rfl) (by kernel_rfl) (by kernel_rfl) (F8 os _)) ?_
 intro W G b Q gs B2 y i _ _ hL _;have m:∀(j:Nat) t v,Tryz.f4.params[j]?=V t->b[j]?=V v->Value.okWide prog W .any G t v:=y;have d:=i;obtain⟨p,q,l,hV,rfl,DT,CC⟩:=i;have n:DataW.TrodAll enc prog W 0 (λ_=>jj) jj Tryz.f4.params.toList b.toList Q p:=l;rw[params4]at n m;obtain⟨u,CL,R,BA,f,q0,B9,rfl,rfl,g,L⟩:=trodAll_cons n;obtain⟨rfl,rfl,rfl⟩:=trodAll_nil L;obtain rfl:b=#[u]:=by cases b;simp_all
 obtain⟨rfl,rfl⟩:=trodVars_none hV;clear l y;simp only[lU]at d;have A:∀x∈f,x.block<W.heap.size:=λx hx=>by simpa using d.lt x hx
 obtain⟨r,k,s,rfl⟩:=okWide_slice underlying22 (m 0 22 u rfl rfl);have AT:Calls prog 4 #[.slice r k s] W λe D=>e=.returned (.bool jj)/\Ac [] W D:=by
  obtain⟨A0,z⟩:=g;have A1:DataW.trod enc prog W 0 (λ_=>jj) jj A0 22 [.slice r k s]=V (R,f):=by simpa[Value.cells] using z
  rcases E3 A1 with⟨a,N,c⟩|⟨P,I,B0,N,B,S,T,c,hs,M,E,h3⟩
  .simp only[mj,kS,and_true]at c;obtain⟨rfl,rfl,rfl⟩:=c;exact QO (RC 2 2 _ _ W)
  .simp only[mj,kS,and_true]at c;obtain⟨rfl,rfl,rfl⟩:=c;exact QO (RM 2 2 jf P I _ _ B S T W hs M E h3)
 refine AT.mono λe W' ⟨c,hk⟩=>?_
 subst c;have o:Below W.heap.size W W':=hk.below;refine⟨_,rfl,?_⟩;refine⟨_,_,_,[],f++[],[],d,?_,?_,rfl,o.frame _,λh=>by cases h⟩
 .exact trodAll_cons_mk (shut_bool underlying4 _) trodAll_mk0
 .exact trodAll_cons_mk (Below.trod Tryz.zU (by kernel_rfl) (nr (by kernel_rfl)) g o A) trodAll_mk0
theorem UC:Rows.followsRow.holds Tryz.pinned (OpenSpec.ofChange Rows.followsSpec):=
 OpenClaim.holds_of_wide 4 Tryz.f4 rfl rfl rfl rfl rfl rfl rfl ⟨rfl,rfl,rfl,rfl,rfl⟩ rfl rfl rfl rfl rfl (by kernel_rfl) func4 (by kernel_rfl)
  (nr (by kernel_rfl)) (by unfold Func.isWrapper;first|(rw[ln (by decide+kernel)];kernel_rfl)|(rw[li (by decide+kernel)];exact⟨rfl,rfl⟩))
  (λa b H c _=>Qb a b H c)
theorem gc:Rows.FollowsCardSaid:=
 Claim7.holds_tied_plain_at .later [] [.data,.data,.data] jj (jj, "ea828b41a5e358bbdacc24b3a189b8291ed9b019ffd3ea37ebae98d5bdc4741a") K
  UC (λ_ h=>by cases h) (by kernel_rfl) (λ_ h=>by cases h) follows_row_tie rfl ⟨rfl,rfl⟩ (by kernel_rfl) rfl
  (λf fn hf hfn=>by
   obtain rfl:f=4:=mZ ((show prog.funcNamed Rows.followsRow.func=V 4 by kernel_rfl).symm.trans hf)|>.symm
   obtain rfl:fn=Tryz.f4:=(mZ (func4.symm.trans hfn)).symm
   exact⟨by kernel_rfl,λj t ht=>by
    rw[params4]at ht
    have hm:t∈[22]:=by simpa using Array.mem_of_getElem? ht
    have hall:([22].all λu=> !prog.wantsStandIn u)=jj:=by kernel_rfl
    exact(show prog.wantsStandIn t=K by simpa using mC.1 hall t hm)⟩)
  (by kernel_rfl)
theorem follows_card:Rows.FollowsCardSaid:=gc
