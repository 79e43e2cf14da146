import Derived.Test.YtoihbhenbmffcaaGreatDoorMI
import Derived.LaidMore
import Derived.Stop.Joined
import Derived.SevenTiedAt
import Derived.ProofKit
import Derived.OpenShut
import Derived.Deep.Slices
import Derived.Deep.Strs
import Derived.Test.YtoihbhenbmffcaaGreatDoorRows
import Derived.Test.YtoihbhenbmffcaaGreatDoorTie
import Derived.Test.YtoihbhenbmffcaaGreatDoorCards
set_option linter.all false
set_option maxHeartbeats 0
open Go.Value renaming slice->U,string->O
open Option renaming some->V
open Bool renaming false->K,true->T6
namespace Go.Proofs.YtoihbhenbmffcaaGreatDoor
open Go.ChangeShapes Go.WideShapes Go.ChangeAt Go.RowKit Go.Deep
open Go.Proofs.Tryz
variable{y:kN Value}{w:World}{j:Nat}
theorem Tryz.ownK:ownKnob Tryz.prog.godebug=none:=lo
theorem Tryz.zs:laidOutB Tryz.prog=T6:=lo
def kU(h:y.length=3):∃a b c,y=[a,b,c]:=by
 match y,h with
 |[a,b,c],_=>exact⟨a,b,c,rfl⟩
theorem dK{H}{R}{x:DataW H×kN MemPlace}(h:DataW.trod R prog w 0 (λ_=>T6) T6 j 22 y=V x):(∃a b,y=[U a 0 b])\/∃o l c b L S T,y=[U (V ⟨o,l,none⟩) c b]/\RU w o l c L S T/\c<=b/\b<=9223372036854775807/\∀i,i<c->(S i).size<=9223372036854775807/\(T i).size<=9223372036854775807:=by
 rcases open_slice underlying22 h with⟨p,_⟩|⟨a,c,b,m,n,D,Pl,rfl,hb,hl,hm,N,_,hx⟩
 .exact Or.inl ⟨none,0,p⟩
 .by_cases p:c=0
  .subst p;exact Or.inl ⟨V a,b,rfl⟩
  .right;(have B0:c<=m:=by rw[N];simp;omega);have AB:prog.cellsOf 29=3:=lo;have I:prog.cellsOf 3=1:=lo;have AH:prog.cellsOf 9=1:=lo;have Ax:∀i,i<m->∃q:Int×bN×bN,w.cell? (a.add (i*3))=V (.int .i64 q.1)/\w.cell? (a.add (i*3+1))=V (O q.2.1)/\w.cell? (a.add (i*3+2))=V (O q.2.2)/\q.2.1.size<=maxLen/\q.2.2.size<=maxLen:=by
    intro i u;obtain⟨BS,B,M⟩:=hx i u;rw[AB]at B;obtain⟨_,Q,r⟩:=World.cells?_some B;obtain⟨y0,y1,y2,n',_,_,A,E,z⟩:=trod_struct3 underlying29 M;obtain⟨v0,v1,v2,rfl⟩:=kU Q;simp[I,AH]at A E z;obtain⟨k,v,_,_⟩:=DataW.trod_int underlying3 A;obtain⟨s,G,_,hs⟩:=DataW.trod_string underlying9 E;obtain⟨t,C,_,P⟩:=DataW.trod_string underlying9 z;have f:=r 0 lc;have d:=r 1 lc;have e:=r 2 lc;rw[Addr.add_add]at f d e;simp only[ou,and_true]at v G C;subst v G C;exact⟨(k,s,t),by simpa using f,by simpa using d,by simpa using e,hs,P⟩
   obtain⟨q,g⟩:=choose_lt Ax;have F:a.spot=none:=by
    have:=(g 0 lc).1;simp only[Nat.zero_mul,Addr.add_zero']at this;exact World.cell?_spot this
   obtain⟨o,l,B2⟩:=a;simp only at F;subst F;unfold maxLen at hm g;refine⟨o,l,c,b,λi=>(q i).1,λi=>(q i).2.1,λi=>(q i).2.2,rfl,λi u=>?_,hl,lc,λi u=>by have:=(g i lc).2.2.2;omega⟩;obtain⟨f,d,e,_⟩:=g i lc;rw[oN]at f d e;exact⟨f,by rw[Nat.add_assoc];exact d,by rw[Nat.add_assoc];exact e⟩
def dV:kN (String×DataW Unit):=Rows.allRow.laid
theorem gu(a b):laidMetH prog dV ((World.doorLaid prog 400 a).forCall (λ_ _=>0) ⟨#[],b,[]⟩).memory:=
 laidMetH_of_parts3 (fuel:=8) (laidMet_of_run' 8 lo lo) lo lo
set_option maxRecDepth 100000
theorem Y2(os)(A1:os.Started)(H)(enc:TypeId×Value->H):ReturnsInHanded {} Tryz.checked os 12 .any (λw b=>(Rows.allSpec.pre enc prog Tryz.f12 [] K w b/\laidMetH prog dV w)/\sizedMet enc prog Tryz.f12 (OpenSpec.ofChange Rows.allSpec) K w b)
   (Rows.allSpec.post enc prog Tryz.f12 K T6 K K):=by
 refine returnsInHanded_of_change_and (C:=Tryz.checked) (X:=λw _=>laidMetH prog dV w) (λ_ _ _ hh h=>h.of_heap hh) Tryz.ownK A1 lo func12
  (ChangeSpec.witness_shaped (enc:=enc) (C:=Tryz.checked) (os:=os) (X:=λw _=>laidMetH prog dV w) K (World.doorLaid prog 400 os) #[O ⟨#[]⟩,U none 0 0] 8 rfl (World.shaped_of_RefB lo lo) lo lo lo (gu os _)) ?_
 intro W Bx b ds gs E0 AT D _ _ hL _;have n:∀(j:Nat) t v,Tryz.f12.params[j]?=V t->b[j]?=V v->Value.okWide prog W .any Bx t v:=AT;have u:=D;obtain⟨p,q,G,hV,rfl,FO,FF⟩:=D;have M:DataW.TrodAll enc prog W 0 (λ_=>T6) T6 Tryz.f12.params.toList b.toList ds p:=G;rw[params12]at M n;obtain⟨v0,FL,d0,EM,p0,q0,FA,rfl,rfl,B,r0⟩:=trodAll_cons M;obtain⟨I,EK,d1,FC,r,q1,CC,rfl,rfl,d,r1⟩:=trodAll_cons r0;obtain⟨rfl,rfl,rfl⟩:=trodAll_nil r1;subst CC;obtain rfl:b=#[v0,I]:=by cases b;simp_all
 obtain⟨rfl,rfl⟩:=trodVars_none hV;clear G AT;simp only[mQ]at u;have y:∀x∈p0++r,x.block<W.heap.size:=λx f=>by simpa using u.lt x (by simpa using f)
 obtain⟨sa,E,sc,rfl⟩:=okWide_slice underlying22 (n 1 22 I rfl rfl);obtain⟨P,rfl⟩:=okWide_string underlying9 (n 0 9 v0 rfl rfl);have hP:P.size<=9223372036854775807:=by
  obtain⟨R,k⟩:=B;obtain⟨s,e,_,g⟩:=DataW.trod_string underlying9 k;simp[Value.cells]at e;subst e;unfold maxLen at g;omega
 have CL:Calls prog 12 #[O P,U sa E sc] W λe w'=>e=.returned (.bool T6)/\Ac [] W w':=by
  obtain⟨R,k⟩:=d;have CW:DataW.trod enc prog W 0 (λ_=>T6) T6 R 22 [U sa E sc]=V (d1,r):=by simpa[Value.cells] using k
  rcases dK CW with⟨a,B0,c⟩|⟨L,F,FP,B0,z,S,T,c,g,d,A,N⟩
  .simp only[ou,lU,and_true]at c;obtain⟨rfl,rfl,rfl⟩:=c;exact gR (TY P _ 0 _ (λ_=>0) (λ_=>ByteArray.empty) (λ_=>ByteArray.empty) W hP (Or.inl rfl) (λi Q=>lc)) (λm _=>eE 1 4 _ _ m)
  .simp only[ou,lU,and_true]at c;obtain⟨rfl,rfl,rfl⟩:=c;exact gR (TY P _ _ _ z S T W hP (Or.inr ⟨L,F,rfl,g,d,A⟩) (λi Q=>(N i Q).1)) (λm l=>eX 1 4 ft L F _ _ z S T m (g.C l) d A N)
 refine CL.mono λe W' ⟨c,l⟩=>?_
 subst c;have o:Below W.heap.size W W':=l.below;refine⟨_,rfl,?_⟩;refine⟨_,_,_,[],p0++(r++[]),[],u,?_,?_,rfl,o.frame _,λh=>oj⟩
 .exact trodAll_cons_mk (shut_bool underlying4 _) trodAll_mk0
 .exact trodAll_cons_mk (Below.trod Tryz.zs lo (qg lo) B o (λx f=>y x (nP _ f))) (trodAll_cons_mk (Below.trod Tryz.zs lo (qg lo) d o (λx f=>y x (List.mem_append_right _ f))) trodAll_mk0)
theorem gi:Rows.allRow.holds Tryz.pinned (OpenSpec.ofChange Rows.allSpec):=
 OpenClaim.holds_of_wide 12 Tryz.f12 rfl rfl rfl rfl rfl rfl rfl ⟨rfl,rfl,rfl,rfl,rfl⟩ rfl rfl rfl rfl rfl lo func12 lo
  (qg lo) (by unfold Func.isWrapper;first|(rw[mo (by decide+kernel)];kernel_rfl)|(rw[mm (by decide+kernel)];exact⟨rfl,rfl⟩))
  (λa b H c _=>Y2 a b H c)
theorem all_card:Rows.AllCardSaid:=
 Claim7.holds_tied_plain_at .later [] [.data,.data,.data] T6 (T6, "ea828b41a5e358bbdacc24b3a189b8291ed9b019ffd3ea37ebae98d5bdc4741a") K
  gi (λ_ h=>oj) lo (λ_ h=>oj) all_row_tie rfl ⟨rfl,rfl⟩ lo rfl
  (λf fn hf hfn=>by
   obtain rfl:f=12:=o9 ((lo:prog.funcNamed Rows.allRow.func=V 12).symm.trans hf)|>.symm
   obtain rfl:fn=Tryz.f12:=(o9 (func12.symm.trans hfn)).symm
   exact⟨lo,λj t ht=>by
    rw[params12]at ht
    have hm:t∈[9,22]:=by simpa using Array.mem_of_getElem? ht
    have hall:([9,22].all λu=> !prog.wantsStandIn u)=T6:=lo
    exact(show prog.wantsStandIn t=K by simpa using nI.1 hall t hm)⟩)
  lo
