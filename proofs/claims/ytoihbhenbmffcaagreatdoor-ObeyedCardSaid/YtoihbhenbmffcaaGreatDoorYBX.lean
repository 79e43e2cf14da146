import Derived.LaidMore
import Derived.Stop.Joined
import Derived.SevenTiedAt
import Derived.ProofKit
import Derived.OpenShut
import Derived.Deep.Slices
import Derived.Deep.Strs
import Derived.Test.YtoihbhenbmffcaaGreatDoorRows
import Derived.Test.YtoihbhenbmffcaaGreatDoorYBW
import Derived.Test.YtoihbhenbmffcaaGreatDoorTie
import Derived.Test.YtoihbhenbmffcaaGreatDoorCards
set_option linter.all false
set_option maxHeartbeats 0
open Option renaming some->V
namespace Go.Proofs.YtoihbhenbmffcaaGreatDoor
open Go.ChangeShapes Go.WideShapes Go.ChangeAt Go.RowKit Go.Deep
open Go.Proofs.Tryz
theorem Ac.below{w w':World}(h:Ac [] w w'):Below w.heap.size w w':=⟨h.os,h.tape,h.output,h.size,λk a=>h.block k a (by simp)⟩
theorem Tryz.ownK:ownKnob Tryz.prog.godebug=none:=by kernel_rfl
theorem Tryz.yJ:laidOutB Tryz.prog=true:=by kernel_rfl
def fE{l:mc Value}(h:l.length=3):∃a b c,l=[a,b,c]:=by
 match l,h with
 |[a,b,c],_=>exact⟨a,b,c,rfl⟩
theorem ZX{H:Type}{enc:TypeId×Value->H}{W:World}{fuel:Nat}{cs:mc Value}{x:DataW H×mc MemPlace}(h:DataW.trod enc prog W 0 (λ_=>true) true fuel 22 cs=V x):
  (∃a b,cs=[.slice a 0 b])\/∃l j c b E S T,cs=[.slice (V ⟨l,j,none⟩) c b]/\W8 W l j c E S T/\c<=b/\b<=9223372036854775807/\∀i,i<c->(S i).size<=9223372036854775807/\(T i).size<=9223372036854775807:=by
 rcases open_slice underlying22 h with⟨o,_⟩|⟨a,c,b,m,n,D,Pl,rfl,hb,Q,hm,G,_,hx⟩
 .exact Or.inl ⟨none,0,o⟩
 .by_cases o:c=0
  .subst o;exact Or.inl ⟨V a,b,rfl⟩
  .right;(have BT:c<=m:=by rw[G];simp;omega);(have N:prog.cellsOf 29=3:=by kernel_rfl);(have AT:prog.cellsOf 3=1:=by kernel_rfl);(have P:prog.cellsOf 9=1:=by kernel_rfl);have M:∀i,i<m->∃q:Int×zA×zA,W.cell? (a.add (i*3))=V (.int .i64 q.1)/\W.cell? (a.add (i*3+1))=V (.string q.2.1)/\W.cell? (a.add (i*3+2))=V (.string q.2.2)/\q.2.1.size<=maxLen/\q.2.2.size<=maxLen:=by
    intro i r;obtain⟨BA,y,F⟩:=hx i r;rw[N]at y;obtain⟨_,L,p⟩:=World.cells?_some y;obtain⟨y0,y1,y2,n',_,_,w,A,v⟩:=trod_struct3 underlying29 F;obtain⟨v0,v1,v2,rfl⟩:=fE L;simp[AT,P]at w A v;obtain⟨k,u,_,_⟩:=DataW.trod_int underlying3 w;obtain⟨s,C,_,R⟩:=DataW.trod_string underlying9 A;obtain⟨t,z,_,I⟩:=DataW.trod_string underlying9 v;have f:=p 0 (by omega);have d:=p 1 (by omega);have e:=p 2 (by omega);rw[Addr.add_add]at f d e;simp only[jB,and_true]at u C z;subst u C z;exact⟨(k,s,t),by simpa using f,by simpa using d,by simpa using e,R,I⟩
   obtain⟨q,g⟩:=choose_lt M;have B:a.spot=none:=by
    have:=(g 0 (by omega)).1;simp only[Nat.zero_mul,Addr.add_zero']at this;exact World.cell?_spot this
   obtain⟨l,j,B0⟩:=a;simp only at B;subst B;unfold maxLen at hm g;refine⟨l,j,c,b,λi=>(q i).1,λi=>(q i).2.1,λi=>(q i).2.2,rfl,λi r=>?_,Q,by omega,λi r=>by have:=(g i (by omega)).2.2.2;omega⟩;obtain⟨f,d,e,_⟩:=g i (by omega);rw[j8]at f d e;exact⟨f,by rw[Nat.add_assoc];exact d,by rw[Nat.add_assoc];exact e⟩
def Z5:mc (String×DataW Unit):=Rows.obeyedRow.laid
theorem cd(os:Os)(args:Array Value):laidMetH prog Z5 ((World.doorLaid prog 400 os).forCall (λ_ _=>0) ⟨#[],args,[]⟩).memory:=
 laidMetH_of_parts3 (fuel:=8) (laidMet_of_run' 8 (by kernel_rfl) (by kernel_rfl)) (by kernel_rfl) (by kernel_rfl)
set_option maxRecDepth 100000
theorem Q5(os:Os)(started:os.Started)(H:Type)(enc:TypeId×Value->H):
  ReturnsInHanded {} Tryz.checked os 5 .any (λw args=>(Rows.obeyedSpec.pre enc prog Tryz.f5 [] false w args/\laidMetH prog Z5 w)/\sizedMet enc prog Tryz.f5 (OpenSpec.ofChange Rows.obeyedSpec) false w args)
   (Rows.obeyedSpec.post enc prog Tryz.f5 false true false false):=by
 refine returnsInHanded_of_change_and (C:=Tryz.checked) (X:=λw _=>laidMetH prog Z5 w) (λ_ _ _ hh h=>h.of_heap hh) Tryz.ownK started (by kernel_rfl) func5
  (ChangeSpec.witness_shaped (enc:=enc) (C:=Tryz.checked) (os:=os) (X:=λw _=>laidMetH prog Z5 w) false (World.doorLaid prog 400 os) #[.slice none 0 0] 8 rfl (World.shaped_of_RefB (by kernel_rfl) (by kernel_rfl)) (by kernel_rfl) (by kernel_rfl) (by kernel_rfl) (cd os _)) ?_
 intro W base args ds gs before hval0 hW _ _ hL _;have hval:∀(j:Nat) t v,Tryz.f5.params[j]?=V t->args[j]?=V v->Value.okWide prog W .any base t v:=hval0;have hW':=hW;obtain⟨p,q,hA0,hV,rfl,hfz,hnd⟩:=hW;have hA:DataW.TrodAll enc prog W 0 (λ_=>true) true Tryz.f5.params.toList args.toList ds p:=hA0;rw[params5]at hA hval;obtain⟨v0,vs0,d0,ds0,p0,q0,hargs,rfl,rfl,h0,r0⟩:=trodAll_cons hA;obtain⟨rfl,rfl,rfl⟩:=trodAll_nil r0;obtain rfl:args=#[v0]:=by cases args;simp_all
 obtain⟨rfl,rfl⟩:=trodVars_none hV;clear hA0 hval0;simp only[iJ]at hW';have zY:∀x∈p0,x.block<W.heap.size:=λx hx=>by simpa using hW'.lt x hx
 obtain⟨sa,sl,sc,rfl⟩:=okWide_slice underlying22 (hval 0 22 v0 rfl rfl);have hcalls:Calls prog 5 #[.slice sa sl sc] W λe w'=>e=.returned (.bool true)/\Ac [] W w':=by
  obtain⟨fuel,hd⟩:=h0;have hd':DataW.trod enc prog W 0 (λ_=>true) true fuel 22 [.slice sa sl sc]=V (d0,p0):=by simpa[Value.cells] using hd
  rcases ZX hd' with⟨a,cap,he⟩|⟨ab,ao,len,cap,K,S,T,he,hs,h1,h2,h3⟩
  .simp only[jB,gM,and_true]at he;obtain⟨rfl,rfl,rfl⟩:=he;exact WK Rp _ _ W
  .simp only[jB,gM,and_true]at he;obtain⟨rfl,rfl,rfl⟩:=he;exact Wk Rp ab ao _ _ K S T W hs h1 h2 h3
 refine hcalls.mono λe W' ⟨he,hk⟩=>?_
 subst he;have bel:Below W.heap.size W W':=hk.below;refine⟨_,rfl,?_⟩;refine⟨_,_,_,[],p0++[],[],hW',?_,?_,rfl,bel.frame _,λh=>by cases h⟩
 .exact trodAll_cons_mk (shut_bool underlying4 _) trodAll_mk0
 .exact trodAll_cons_mk (Below.trod Tryz.yJ (by kernel_rfl) (of_decide_eq_true (by kernel_rfl)) h0 bel zY) trodAll_mk0
theorem Uh:Rows.obeyedRow.holds Tryz.pinned (OpenSpec.ofChange Rows.obeyedSpec):=
 OpenClaim.holds_of_wide 5 Tryz.f5 rfl rfl rfl rfl rfl rfl rfl ⟨rfl,rfl,rfl,rfl,rfl⟩ rfl rfl rfl rfl rfl (by kernel_rfl) func5 (by kernel_rfl)
  (of_decide_eq_true (by kernel_rfl)) (by unfold Func.isWrapper;first|(rw[gY (by decide+kernel)];kernel_rfl)|(rw[gV (by decide+kernel)];exact⟨rfl,rfl⟩))
  (λa b H c _=>Q5 a b H c)
theorem el:Rows.ObeyedCardSaid:=
 Claim7.holds_tied_plain_at .later [] [.data,.data,.data] true (true, "ea828b41a5e358bbdacc24b3a189b8291ed9b019ffd3ea37ebae98d5bdc4741a") false
  Uh (λ_ h=>by cases h) (by kernel_rfl) (λ_ h=>by cases h) obeyed_row_tie rfl ⟨rfl,rfl⟩ (by kernel_rfl) rfl
  (λf fn hf hfn=>by
   obtain rfl:f=5:=kJ ((show prog.funcNamed Rows.obeyedRow.func=V 5 by kernel_rfl).symm.trans hf)|>.symm
   obtain rfl:fn=Tryz.f5:=(kJ (func5.symm.trans hfn)).symm
   exact⟨by kernel_rfl,λj t ht=>by
    rw[params5]at ht
    have hm:t∈[22]:=by simpa using Array.mem_of_getElem? ht
    have hall:([22].all λu=> !prog.wantsStandIn u)=true:=by kernel_rfl
    exact(show prog.wantsStandIn t=false by simpa using ji.1 hall t hm)⟩)
  (by kernel_rfl)
theorem obeyed_card:Rows.ObeyedCardSaid:=el
