import Derived.LaidMore
import Derived.Stop.Joined
import Derived.SevenTiedAt
import Derived.ProofKit
import Derived.OpenShut
import Derived.Deep.Slices
import Derived.Deep.Strs
import Derived.Test.YtoihbhenbmffcaaGreatDoorRows
import Derived.Test.YtoihbhenbmffcaaGreatDoorYBX
import Derived.Test.YtoihbhenbmffcaaGreatDoorTie
import Derived.Test.YtoihbhenbmffcaaGreatDoorCards
set_option linter.all false
set_option maxHeartbeats 0
open Option renaming some->V
open Bool renaming false->K,true->jj
namespace Go.Proofs.YtoihbhenbmffcaaGreatDoor
open Go.ChangeShapes Go.WideShapes Go.ChangeAt Go.RowKit Go.Deep
open Go.Proofs.Tryz
theorem Tryz.ownK:ownKnob Tryz.prog.godebug=none:=by kernel_rfl
theorem Tryz.yG:laidOutB Tryz.prog=jj:=by kernel_rfl
def dE{l:List Value}(h:l.length=3):∃a b c,l=[a,b,c]:=by
 match l,h with
 |[a,b,c],_=>exact⟨a,b,c,rfl⟩
theorem YU{H:Type}{enc:TypeId×Value->H}{W:World}{fuel:Nat}{cs:List Value}{x:DataW H×List MemPlace}(h:DataW.trod enc prog W 0 (λ_=>jj) jj fuel 22 cs=V x):
  (∃a b,cs=[.slice a 0 b])\/∃l j c b E S T,cs=[.slice (V ⟨l,j,none⟩) c b]/\VZ W l j c E S T/\c<=b/\b<=9223372036854775807/\∀i,i<c->(S i).size<=9223372036854775807/\(T i).size<=9223372036854775807:=by
 rcases open_slice underlying22 h with⟨o,_⟩|⟨a,c,b,m,n,D,Pl,rfl,hb,Q,hm,G,_,hx⟩
 .exact Or.inl ⟨none,0,o⟩
 .by_cases o:c=0
  .subst o;exact Or.inl ⟨V a,b,rfl⟩
  .right;(have BS:c<=m:=by rw[G];simp;omega);(have N:prog.cellsOf 29=3:=by kernel_rfl);(have AH:prog.cellsOf 3=1:=by kernel_rfl);(have P:prog.cellsOf 9=1:=by kernel_rfl);have M:∀i,i<m->∃q:Int×g0×g0,W.cell? (a.add (i*3))=V (.int .i64 q.1)/\W.cell? (a.add (i*3+1))=V (.string q.2.1)/\W.cell? (a.add (i*3+2))=V (.string q.2.2)/\q.2.1.size<=maxLen/\q.2.2.size<=maxLen:=by
    intro i r;obtain⟨Bx,y,F⟩:=hx i r;rw[N]at y;obtain⟨_,L,p⟩:=World.cells?_some y;obtain⟨y0,y1,y2,n',_,_,w,A,v⟩:=trod_struct3 underlying29 F;obtain⟨v0,v1,v2,rfl⟩:=dE L;simp[AH,P]at w A v;obtain⟨k,u,_,_⟩:=DataW.trod_int underlying3 w;obtain⟨s,C,_,R⟩:=DataW.trod_string underlying9 A;obtain⟨t,z,_,I⟩:=DataW.trod_string underlying9 v;have f:=p 0 (by omega);have d:=p 1 (by omega);have e:=p 2 (by omega);rw[Addr.add_add]at f d e;simp only[gW,and_true]at u C z;subst u C z;exact⟨(k,s,t),by simpa using f,by simpa using d,by simpa using e,R,I⟩
   obtain⟨q,g⟩:=choose_lt M;have B:a.spot=none:=by
    have:=(g 0 (by omega)).1;simp only[Nat.zero_mul,Addr.add_zero']at this;exact World.cell?_spot this
   obtain⟨l,j,BT⟩:=a;simp only at B;subst B;unfold maxLen at hm g;refine⟨l,j,c,b,λi=>(q i).1,λi=>(q i).2.1,λi=>(q i).2.2,rfl,λi r=>?_,Q,by omega,λi r=>by have:=(g i (by omega)).2.2.2;omega⟩;obtain⟨f,d,e,_⟩:=g i (by omega);rw[il]at f d e;exact⟨f,by rw[Nat.add_assoc];exact d,by rw[Nat.add_assoc];exact e⟩
def Y4:List (String×DataW Unit):=[("math/bits.deBruijn32tab",Rows.laid_math_bits_deBruijn32tab),("math/bits.deBruijn64tab",Rows.laid_math_bits_deBruijn64tab),("internal/strconv.uint64pow10",Rows.laid_internal_strconv_uint64pow10)]
theorem aE(os:Os)(args:Array Value):laidMetH prog Y4 ((World.doorLaid prog 400 os).forCall (λ_ _=>0) ⟨#[],args,[]⟩).memory:=
 laidMetH_of_parts3 (fuel:=8) (laidMet_of_run' 8 (by kernel_rfl) (by kernel_rfl)) (by kernel_rfl) (by kernel_rfl)
set_option maxRecDepth 100000
theorem Tn(os:Os)(F:os.Started)(H:Type)(enc:TypeId×Value->H):
  ReturnsInHanded {} Tryz.checked os 9 .any (λw b=>(Rows.whysSpec.pre enc prog Tryz.f9 [] K w b/\laidMetH prog Y4 w)/\sizedMet enc prog Tryz.f9 (OpenSpec.ofChange Rows.whysSpec) K w b)
   (Rows.whysSpec.post enc prog Tryz.f9 K jj K K):=by
 refine returnsInHanded_of_change_and (C:=Tryz.checked) (X:=λw _=>laidMetH prog Y4 w) (λ_ _ _ hh h=>h.of_heap hh) Tryz.ownK F (by kernel_rfl) func9
  (ChangeSpec.witness_shaped (enc:=enc) (C:=Tryz.checked) (os:=os) (X:=λw _=>laidMetH prog Y4 w) K (World.doorLaid prog 400 os) #[.slice none 0 0] 8 rfl (World.shaped_of_RefB (by kernel_rfl) (by kernel_rfl)) (by kernel_rfl) (by kernel_rfl) (by kernel_rfl) (aE os _)) ?_
 intro W G b Q gs B9 y i _ _ hL _;have m:∀(j:Nat) t v,Tryz.f9.params[j]?=V t->b[j]?=V v->Value.okWide prog W .any G t v:=y;have d:=i;obtain⟨p,q,l,hV,rfl,EK,CL⟩:=i;have n:DataW.TrodAll enc prog W 0 (λ_=>jj) jj Tryz.f9.params.toList b.toList Q p:=l;rw[params9]at n m;obtain⟨u,DT,R,BS,f,q0,CC,rfl,rfl,g,L⟩:=trodAll_cons n;obtain⟨rfl,rfl,rfl⟩:=trodAll_nil L;obtain rfl:b=#[u]:=by cases b;simp_all
 obtain⟨rfl,rfl⟩:=trodVars_none hV;clear l y;simp only[fh]at d;have A:∀x∈f,x.block<W.heap.size:=λx hx=>by simpa using d.lt x hx
 obtain⟨r,k,s,rfl⟩:=okWide_slice underlying22 (m 0 22 u rfl rfl);have A0:Calls prog 9 #[.slice r k s] W λe D=>e=.returned (.bool jj)/\Ac [] W D:=by
  obtain⟨A1,z⟩:=g;have A2:DataW.trod enc prog W 0 (λ_=>jj) jj A1 22 [.slice r k s]=V (R,f):=by simpa[Value.cells] using z
  rcases YU A2 with⟨a,N,c⟩|⟨P,I,B2,N,B,S,T,c,hs,M,E,h3⟩
  .simp only[gW,ei,and_true]at c;obtain⟨rfl,rfl,rfl⟩:=c;exact Xn (Zo 4 4 _ _ W)
  .simp only[gW,ei,and_true]at c;obtain⟨rfl,rfl,rfl⟩:=c;exact Xn (ZD 4 4 dv P I _ _ B S T W hs M E h3)
 refine A0.mono λe W' ⟨c,hk⟩=>?_
 subst c;have o:Below W.heap.size W W':=hk.below;refine⟨_,rfl,?_⟩;refine⟨_,_,_,[],f++[],[],d,?_,?_,rfl,o.frame _,λh=>by cases h⟩
 .exact trodAll_cons_mk (shut_bool underlying4 _) trodAll_mk0
 .exact trodAll_cons_mk (Below.trod Tryz.yG (by kernel_rfl) (of_decide_eq_true (by kernel_rfl)) g o A) trodAll_mk0
theorem XJ:Rows.whysRow.holds Tryz.pinned (OpenSpec.ofChange Rows.whysSpec):=
 OpenClaim.holds_of_wide 9 Tryz.f9 rfl rfl rfl rfl rfl rfl rfl ⟨rfl,rfl,rfl,rfl,rfl⟩ rfl rfl rfl rfl rfl (by kernel_rfl) func9 (by kernel_rfl)
  (of_decide_eq_true (by kernel_rfl)) (by unfold Func.isWrapper;first|(rw[eI (by decide+kernel)];kernel_rfl)|(rw[eE (by decide+kernel)];exact⟨rfl,rfl⟩))
  (λa b H c _=>Tn a b H c)
theorem dx:Rows.WhysCardSaid:=
 Claim7.holds_tied_plain_at .later [] [.data,.data,.data] jj (jj, "ea828b41a5e358bbdacc24b3a189b8291ed9b019ffd3ea37ebae98d5bdc4741a") K
  XJ (λ_ h=>by cases h) (by kernel_rfl) (λ_ h=>by cases h) whys_row_tie rfl ⟨rfl,rfl⟩ (by kernel_rfl) rfl
  (λf fn hf hfn=>by
   obtain rfl:f=9:=iM ((show prog.funcNamed "augur/augurlaw.Whys" =V 9 by kernel_rfl).symm.trans hf)|>.symm
   obtain rfl:fn=Tryz.f9:=(iM (func9.symm.trans hfn)).symm
   exact⟨by kernel_rfl,λj t ht=>by
    rw[params9]at ht
    have hm:t∈[22]:=by simpa using Array.mem_of_getElem? ht
    have hall:([22].all λu=> !prog.wantsStandIn u)=jj:=by kernel_rfl
    exact(show prog.wantsStandIn t=K by simpa using gN.1 hall t hm)⟩)
  (by kernel_rfl)
theorem whys_card:Rows.WhysCardSaid:=dx
