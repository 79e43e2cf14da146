import Derived.LaidMore
import Derived.Stop.Joined
import Derived.SevenTiedAt
import Derived.ProofKit
import Derived.OpenShut
import Derived.Deep.Slices
import Derived.Deep.Strs
import Derived.Test.YtoihbhenbmffcaaGreatDoorRows
import Derived.Test.YtoihbhenbmffcaaGreatDoorYBT
import Derived.Test.YtoihbhenbmffcaaGreatDoorTie
import Derived.Test.YtoihbhenbmffcaaGreatDoorCards
set_option linter.all false
set_option maxHeartbeats 0
namespace Go.Proofs.YtoihbhenbmffcaaGreatDoor
open Go.ChangeShapes Go.WideShapes Go.ChangeAt Go.RowKit Go.Deep
open Go.Proofs.Tryz
theorem Tryz.ownK:ownKnob Tryz.prog.godebug=none:=by kernel_rfl
theorem Tryz.zI:laidOutB Tryz.prog=true:=by kernel_rfl
theorem aZ{l:List Value}(h:l.length=3):∃a b c,l=[a,b,c]:=by
 match l,h with
 |[a,b,c],_=>exact⟨a,b,c,rfl⟩
theorem XH{H:Type}{enc:TypeId×Value->H}{W:World}{fuel:Nat}{cs:List Value}{x:DataW H×List MemPlace}(h:DataW.trod enc prog W 0 (λ_=>true) true fuel 22 cs=some x):
  (∃a b,cs=[.slice a 0 b])\/∃l j c b K S T,cs=[.slice (some ⟨l,j,none⟩) c b]/\U2 W l j c K S T/\c<=b/\b<=9223372036854775807/\∀i,i<c->(S i).size<=9223372036854775807/\(T i).size<=9223372036854775807:=by
 rcases open_slice underlying22 h with⟨o,_⟩|⟨a,c,b,m,n,D,Pl,rfl,V,N,Q,F,_,P⟩
 .exact Or.inl ⟨none,0,o⟩
 .by_cases o:c=0
  .subst o;exact Or.inl ⟨some a,b,rfl⟩
  .right;(have AB:c<=m:=by rw[F];simp;omega);(have L:prog.cellsOf 29=3:=by kernel_rfl);(have R:prog.cellsOf 3=1:=by kernel_rfl);(have M:prog.cellsOf 9=1:=by kernel_rfl);have J:∀i,i<m->∃q:Int×cR×cR,W.cell? (a.add (i*3))=some (.int .i64 q.1)/\W.cell? (a.add (i*3+1))=some (.string q.2.1)/\W.cell? (a.add (i*3+2))=some (.string q.2.2)/\q.2.1.size<=maxLen/\q.2.2.size<=maxLen:=by
    intro i r;obtain⟨Z,y,E⟩:=P i r;rw[L]at y;obtain⟨_,I,p⟩:=World.cells?_some y;obtain⟨y0,X,y2,U,_,_,w,A,v⟩:=trod_struct3 underlying29 E;obtain⟨v0,Y,v2,rfl⟩:=aZ I;simp[R,M]at w A v;obtain⟨k,u,_,_⟩:=DataW.trod_int underlying3 w;obtain⟨s,C,_,O⟩:=DataW.trod_string underlying9 A;obtain⟨t,z,_,G⟩:=DataW.trod_string underlying9 v;have f:=p 0 (by omega);have d:=p 1 (by omega);have e:=p 2 (by omega);rw[Addr.add_add]at f d e;simp only[eS,and_true]at u C z;subst u C z;exact⟨(k,s,t),by simpa using f,by simpa using d,by simpa using e,O,G⟩
   obtain⟨q,g⟩:=choose_lt J;have B:a.spot=none:=by
    have:=(g 0 (by omega)).1;simp only[Nat.zero_mul,Addr.add_zero']at this;exact World.cell?_spot this
   obtain⟨l,j,AH⟩:=a;simp only at B;subst B;unfold maxLen at Q g;refine⟨l,j,c,b,λi=>(q i).1,λi=>(q i).2.1,λi=>(q i).2.2,rfl,λi r=>?_,N,by omega,λi r=>by have:=(g i (by omega)).2.2.2;omega⟩;obtain⟨f,d,e,_⟩:=g i (by omega);rw[ed]at f d e;exact⟨f,by rw[Nat.add_assoc];exact d,by rw[Nat.add_assoc];exact e⟩
def XP:List (String×DataW Unit):=[("math/bits.deBruijn32tab",Rows.laid_math_bits_deBruijn32tab),("math/bits.deBruijn64tab",Rows.laid_math_bits_deBruijn64tab),("internal/strconv.uint64pow10",Rows.laid_internal_strconv_uint64pow10)]
theorem Y1(os:Os)(args:Array Value):laidMetH prog XP ((World.doorLaid prog 400 os).forCall (λ_ _=>0) ⟨#[],args,[]⟩).memory:=
 laidMetH_of_parts3 (fuel:=8) (laidMet_of_run' 8 (by kernel_rfl) (by kernel_rfl)) (by kernel_rfl) (by kernel_rfl)
set_option maxRecDepth 100000
theorem SO(os:Os)(E:os.Started)(H:Type)(enc:TypeId×Value->H):
  ReturnsInHanded {} Tryz.checked os 7 .any (λw b=>(Rows.asksSpec.pre enc prog Tryz.f7 [] false w b/\laidMetH prog XP w)/\sizedMet enc prog Tryz.f7 (OpenSpec.ofChange Rows.asksSpec) false w b)
   (Rows.asksSpec.post enc prog Tryz.f7 false true false false):=by
 refine returnsInHanded_of_change_and (C:=Tryz.checked) (X:=λw _=>laidMetH prog XP w) (λ_ _ _ P h=>h.of_heap P) Tryz.ownK E (by kernel_rfl) func7
  (ChangeSpec.witness_shaped (enc:=enc) (C:=Tryz.checked) (os:=os) (X:=λw _=>laidMetH prog XP w) false (World.doorLaid prog 400 os) #[.slice none 0 0] 8 rfl (World.shaped_of_RefB (by kernel_rfl) (by kernel_rfl)) (by kernel_rfl) (by kernel_rfl) (by kernel_rfl) (Y1 os _)) ?_
 intro W F b N gs BA y i _ _ hL _;have m:∀(j:Nat) t v,Tryz.f7.params[j]?=some t->b[j]?=some v->Value.okWide prog W .any F t v:=y;have d:=i;obtain⟨p,q,l,hV,rfl,CL,B9⟩:=i;have n:DataW.TrodAll enc prog W 0 (λ_=>true) true Tryz.f7.params.toList b.toList N p:=l;rw[params7]at n m;obtain⟨u,CC,O,AH,f,q0,BT,rfl,rfl,g,I⟩:=trodAll_cons n;obtain⟨rfl,rfl,rfl⟩:=trodAll_nil I;obtain rfl:b=#[u]:=by cases b;simp_all
 obtain⟨rfl,rfl⟩:=trodVars_none hV;clear l y;simp only[cK]at d;have A:∀x∈f,x.block<W.heap.size:=λx U=>by simpa using d.lt x U
 obtain⟨r,k,s,rfl⟩:=okWide_slice underlying22 (m 0 22 u rfl rfl);have V:Calls prog 7 #[.slice r k s] W λe B=>e=.returned (.bool true)/\Ac [] W B:=by
  obtain⟨Y,z⟩:=g;have Z:DataW.trod enc prog W 0 (λ_=>true) true Y 22 [.slice r k s]=some (O,f):=by simpa[Value.cells] using z
  rcases XH Z with⟨a,L,c⟩|⟨M,G,Bx,L,K,S,T,c,R,J,D,Q⟩
  .simp only[eS,bK,and_true]at c;obtain⟨rfl,rfl,rfl⟩:=c;exact VW (X9 3 3 _ _ W)
  .simp only[eS,bK,and_true]at c;obtain⟨rfl,rfl,rfl⟩:=c;exact VW (Yn 3 3 aK M G _ _ K S T W R J D Q)
 refine V.mono λe W' ⟨c,hk⟩=>?_
 subst c;have o:Below W.heap.size W W':=hk.below;refine⟨_,rfl,?_⟩;refine⟨_,_,_,[],f++[],[],d,?_,?_,rfl,o.frame _,λh=>by cases h⟩
 .exact trodAll_cons_mk (shut_bool underlying4 _) trodAll_mk0
 .exact trodAll_cons_mk (Below.trod Tryz.zI (by kernel_rfl) (of_decide_eq_true (by kernel_rfl)) g o A) trodAll_mk0
theorem Xq:Rows.asksRow.holds Tryz.pinned (OpenSpec.ofChange Rows.asksSpec):=
 OpenClaim.holds_of_wide 7 Tryz.f7 rfl rfl rfl rfl rfl rfl rfl ⟨rfl,rfl,rfl,rfl,rfl⟩ rfl rfl rfl rfl rfl (by kernel_rfl) func7 (by kernel_rfl)
  (of_decide_eq_true (by kernel_rfl)) (by unfold Func.isWrapper;first|(rw[if_pos (by decide+kernel)];kernel_rfl)|(rw[if_neg (by decide+kernel)];exact⟨rfl,rfl⟩))
  (λa b H c _=>SO a b H c)
theorem aR:Rows.AsksCardSaid:=
 Claim7.holds_tied_plain_at .later [] [.data,.data,.data] true (true, "ea828b41a5e358bbdacc24b3a189b8291ed9b019ffd3ea37ebae98d5bdc4741a") false
  Xq (λ_ h=>by cases h) (by kernel_rfl) (λ_ h=>by cases h) asks_row_tie rfl ⟨rfl,rfl⟩ (by kernel_rfl) rfl
  (λf fn hf hfn=>by
   obtain rfl:f=7:=fY ((show prog.funcNamed "augur/augurlaw.Asks" =some 7 by kernel_rfl).symm.trans hf)|>.symm
   obtain rfl:fn=Tryz.f7:=(fY (func7.symm.trans hfn)).symm
   exact⟨by kernel_rfl,λj t ht=>by
    rw[params7]at ht
    have hm:t∈[22]:=by simpa using Array.mem_of_getElem? ht
    have hall:([22].all λu=> !prog.wantsStandIn u)=true:=by kernel_rfl
    exact(show prog.wantsStandIn t=false by simpa using dO.1 hall t hm)⟩)
  (by kernel_rfl)
theorem asks_card:Rows.AsksCardSaid:=aR
