import Derived.LaidMore
import Derived.Stop.Joined
import Derived.SevenTiedAt
import Derived.ProofKit
import Derived.OpenShut
import Derived.Deep.Slices
import Derived.Deep.Strs
import Derived.Test.YtoihbhenbmffcaaGreatDoorRows
import Derived.Test.YtoihbhenbmffcaaGreatDoorVBI
import Derived.Test.YtoihbhenbmffcaaGreatDoorTie
import Derived.Test.YtoihbhenbmffcaaGreatDoorCards
set_option linter.all false
set_option maxHeartbeats 0
open Option renaming some->V
open Bool renaming false->K,true->Cm
namespace Go.Proofs.YtoihbhenbmffcaaGreatDoor
open Go.ChangeShapes Go.WideShapes Go.ChangeAt Go.RowKit Go.Deep
open Go.Proofs.Tryz
variable{y:QC Value}{w:World}{j:Nat}
theorem Tryz.ownK:ownKnob Tryz.prog.godebug=none:=by kernel_rfl
theorem Tryz.ze:laidOutB Tryz.prog=Cm:=by kernel_rfl
def kl(h:y.length=3):∃a b c,y=[a,b,c]:=by
 match y,h with
 |[a,b,c],_=>exact⟨a,b,c,rfl⟩
theorem dh{H:Type}{R:TypeId×Value->H}{x:DataW H×QC MemPlace}(h:DataW.trod R prog w 0 (λ_=>Cm) Cm j 22 y=V x):
  (∃a b,y=[.slice a 0 b])\/∃o l c b L S T,y=[.slice (V ⟨o,l,none⟩) c b]/\SY w o l c L S T/\c<=b/\b<=9223372036854775807/\∀i,i<c->(S i).size<=9223372036854775807/\(T i).size<=9223372036854775807:=by
 rcases open_slice underlying22 h with⟨p,_⟩|⟨a,c,b,m,n,D,Pl,rfl,hb,hl,hm,N,_,hx⟩
 .exact Or.inl ⟨none,0,p⟩
 .by_cases p:c=0
  .subst p;exact Or.inl ⟨V a,b,rfl⟩
  .right;(have BT:c<=m:=by rw[N];simp;omega);(have AB:prog.cellsOf 29=3:=by kernel_rfl);(have I:prog.cellsOf 3=1:=by kernel_rfl);(have AH:prog.cellsOf 9=1:=by kernel_rfl);have Ax:∀i,i<m->∃q:Int×bC×bC,w.cell? (a.add (i*3))=V (.int .i64 q.1)/\w.cell? (a.add (i*3+1))=V (.string q.2.1)/\w.cell? (a.add (i*3+2))=V (.string q.2.2)/\q.2.1.size<=maxLen/\q.2.2.size<=maxLen:=by
    intro i u;obtain⟨BB,B,M⟩:=hx i u;rw[AB]at B;obtain⟨_,Q,r⟩:=World.cells?_some B;obtain⟨y0,y1,y2,n',_,_,A,E,z⟩:=trod_struct3 underlying29 M;obtain⟨v0,v1,v2,rfl⟩:=kl Q;simp[I,AH]at A E z;obtain⟨k,v,_,_⟩:=DataW.trod_int underlying3 A;obtain⟨s,G,_,hs⟩:=DataW.trod_string underlying9 E;obtain⟨t,C,_,P⟩:=DataW.trod_string underlying9 z;have f:=r 0 (by omega);have d:=r 1 (by omega);have e:=r 2 (by omega);rw[Addr.add_add]at f d e;simp only[nC,and_true]at v G C;subst v G C;exact⟨(k,s,t),by simpa using f,by simpa using d,by simpa using e,hs,P⟩
   obtain⟨q,g⟩:=choose_lt Ax;have F:a.spot=none:=by
    have:=(g 0 (by omega)).1;simp only[Nat.zero_mul,Addr.add_zero']at this;exact World.cell?_spot this
   obtain⟨o,l,B0⟩:=a;simp only at F;subst F;unfold maxLen at hm g;refine⟨o,l,c,b,λi=>(q i).1,λi=>(q i).2.1,λi=>(q i).2.2,rfl,λi u=>?_,hl,by omega,λi u=>by have:=(g i (by omega)).2.2.2;omega⟩;obtain⟨f,d,e,_⟩:=g i (by omega);rw[ou]at f d e;exact⟨f,by rw[Nat.add_assoc];exact d,by rw[Nat.add_assoc];exact e⟩
def dt:QC (String×DataW Unit):=Rows.toldRow.laid
theorem fB(a:Os)(b:Array Value):laidMetH prog dt ((World.doorLaid prog 400 a).forCall (λ_ _=>0) ⟨#[],b,[]⟩).memory:=
 laidMetH_of_parts3 (fuel:=8) (laidMet_of_run' 8 (by kernel_rfl) (by kernel_rfl)) (by kernel_rfl) (by kernel_rfl)
set_option maxRecDepth 100000
theorem Wr(os:Os)(F:os.Started)(H:Type)(enc:TypeId×Value->H):
  ReturnsInHanded {} Tryz.checked os 8 .any (λw b=>(Rows.toldSpec.pre enc prog Tryz.f8 [] K w b/\laidMetH prog dt w)/\sizedMet enc prog Tryz.f8 (OpenSpec.ofChange Rows.toldSpec) K w b)
   (Rows.toldSpec.post enc prog Tryz.f8 K Cm K K):=by
 refine returnsInHanded_of_change_and (C:=Tryz.checked) (X:=λw _=>laidMetH prog dt w) (λ_ _ _ hh h=>h.of_heap hh) Tryz.ownK F (by kernel_rfl) func8
  (ChangeSpec.witness_shaped (enc:=enc) (C:=Tryz.checked) (os:=os) (X:=λw _=>laidMetH prog dt w) K (World.doorLaid prog 400 os) #[.slice none 0 0] 8 rfl (World.shaped_of_RefB (by kernel_rfl) (by kernel_rfl)) (by kernel_rfl) (by kernel_rfl) (by kernel_rfl) (fB os _)) ?_
 intro W G b Q gs BT y i _ _ hL _;have m:∀(j:Nat) t v,Tryz.f8.params[j]?=V t->b[j]?=V v->Value.okWide prog W .any G t v:=y;have d:=i;obtain⟨p,q,l,hV,rfl,CC,B2⟩:=i;have n:DataW.TrodAll enc prog W 0 (λ_=>Cm) Cm Tryz.f8.params.toList b.toList Q p:=l;rw[params8]at n m;obtain⟨u,B9,R,Bx,f,q0,B0,rfl,rfl,g,L⟩:=trodAll_cons n;obtain⟨rfl,rfl,rfl⟩:=trodAll_nil L;obtain rfl:b=#[u]:=by cases b;simp_all
 obtain⟨rfl,rfl⟩:=trodVars_none hV;clear l y;simp only[mz]at d;have A:∀x∈f,x.block<W.heap.size:=λx hx=>by simpa using d.lt x hx
 obtain⟨r,k,s,rfl⟩:=okWide_slice underlying22 (m 0 22 u rfl rfl);have AR:Calls prog 8 #[.slice r k s] W λe D=>e=.returned (.bool Cm)/\Ac [] W D:=by
  obtain⟨AT,z⟩:=g;have A0:DataW.trod enc prog W 0 (λ_=>Cm) Cm AT 22 [.slice r k s]=V (R,f):=by simpa[Value.cells] using z
  rcases dh A0 with⟨a,N,c⟩|⟨P,I,BS,N,B,S,T,c,hs,M,E,h3⟩
  .simp only[nC,lB,and_true]at c;obtain⟨rfl,rfl,rfl⟩:=c;exact ec S4 _ _ W
  .simp only[nC,lB,and_true]at c;obtain⟨rfl,rfl,rfl⟩:=c;exact eK S4 P I _ _ B S T W hs M E h3
 refine AR.mono λe W' ⟨c,hk⟩=>?_
 subst c;have o:Below W.heap.size W W':=hk.below;refine⟨_,rfl,?_⟩;refine⟨_,_,_,[],f++[],[],d,?_,?_,rfl,o.frame _,λh=>by cases h⟩
 .exact trodAll_cons_mk (shut_bool underlying4 _) trodAll_mk0
 .exact trodAll_cons_mk (Below.trod Tryz.ze (by kernel_rfl) (of_decide_eq_true (by kernel_rfl)) g o A) trodAll_mk0
theorem dn:Rows.toldRow.holds Tryz.pinned (OpenSpec.ofChange Rows.toldSpec):=
 OpenClaim.holds_of_wide 8 Tryz.f8 rfl rfl rfl rfl rfl rfl rfl ⟨rfl,rfl,rfl,rfl,rfl⟩ rfl rfl rfl rfl rfl (by kernel_rfl) func8 (by kernel_rfl)
  (of_decide_eq_true (by kernel_rfl)) (by unfold Func.isWrapper;first|(rw[lS (by decide+kernel)];kernel_rfl)|(rw[lO (by decide+kernel)];exact⟨rfl,rfl⟩))
  (λa b H c _=>Wr a b H c)
theorem jV:Rows.ToldCardSaid:=
 Claim7.holds_tied_plain_at .later [] [.data,.data,.data] Cm (Cm, "ea828b41a5e358bbdacc24b3a189b8291ed9b019ffd3ea37ebae98d5bdc4741a") K
  dn (λ_ h=>by cases h) (by kernel_rfl) (λ_ h=>by cases h) told_row_tie rfl ⟨rfl,rfl⟩ (by kernel_rfl) rfl
  (λf fn hf hfn=>by
   obtain rfl:f=8:=oU ((show prog.funcNamed Rows.toldRow.func=V 8 by kernel_rfl).symm.trans hf)|>.symm
   obtain rfl:fn=Tryz.f8:=(oU (func8.symm.trans hfn)).symm
   exact⟨by kernel_rfl,λj t ht=>by
    rw[params8]at ht
    have hm:t∈[22]:=by simpa using Array.mem_of_getElem? ht
    have hall:([22].all λu=> !prog.wantsStandIn u)=Cm:=by kernel_rfl
    exact(show prog.wantsStandIn t=K by simpa using m3.1 hall t hm)⟩)
  (by kernel_rfl)
theorem told_card:Rows.ToldCardSaid:=jV
