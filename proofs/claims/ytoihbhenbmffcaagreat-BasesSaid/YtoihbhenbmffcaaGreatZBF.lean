import Derived.Test.YtoihbhenbmffcaaGreatZBD
import Derived.Test.YtoihbhenbmffcaaGreatZBE
set_option linter.all false
set_option maxHeartbeats 0
open List renaming length->Z
open Option renaming none->Y,some->V
open Go.Value renaming slice->U,pointer->j2
open Go.Act renaming put->kG
namespace Go.Proofs.YtoihbhenbmffcaaGreat
open Go.RowKit Go.Proofs.Tryz
variable{s t:zA}{c:kJ AY}
def GT(f:Ag):Prop:=f.name.size<=300/\∀x∈f.args,x.size<=300
def az(h:KG s=true):GT (CI s):=by
 unfold KG at h;rw[fU]at h;obtain⟨a,_⟩:=h;have hF:CI s=Av BM (Ao s 0).1.head:=by unfold CI;rw[fF a]
 unfold KP at a;simp only[fU,iK,it]at a;have g:=a.1;have b:=(I6 s 0).1;rw[hF];refine⟨by have:=b.1;show(Ao s 0).1.head.name.size<=300;omega,λx d=>?_⟩;obtain⟨t,c,rfl⟩:=fC.1 d;have e:=b.2 t c;have f:(AJ BM t).size<=t.s.size:=by
  unfold AJ BM;split
  .exact fJ _
  .rw[fG,List.getElem?_replicate];split<;>exact fP _
 omega
def YZ{u:kJ Ag}(g:D5 u)(b:∀f∈u,D0 c f/\GT f)(s:zA):∀f∈(GO c u s).2,D0 c f/\GT f:=by
 unfold GO;by_cases a:EI c s=0
 .rw[fF a];split
  .exact b
  .intro f e;rcases((C0 (R8 a).canon g (λp d=>(b p d).1.canon)).2.2 f).1 e with h|h
   .exact b f h
   .rw[h];exact⟨R8 a,az (J5 a)⟩
 .rw[fB a];exact b
def XN{u:kJ Ag}(a:∀f∈u,D0 c f/\GT f)(s:zA):∀f∈(GN c u s).2,D0 c f/\GT f:=by
 unfold GN;by_cases b:EI c s=0
 .rw[fF b];split
  .exact λf d=>a f (fT.1 d).1
  .exact a
 .rw[fB b];exact a
def F2.app{α β:Type}{R:α->β->Prop}:∀{l b:kJ α} {m a:kJ β},F2 R l m->F2 R b a->F2 R (l++b) (m++a)
 |[],_,[],_,_,h=>h
 |[],_,_::_,_,h,_=>h.elim
 |_::_,_,[],_,h,_=>h.elim
 |_::_,_,_::_,_,h,k=>⟨h.1,F2.app h.2 k⟩
def ez(f:Ag):AY:=⟨Tg f,U Y 0 0,U Y 0 0,[],0⟩
def Xn:∀u:kJ Ag,F2 Gi u (u.map ez)
 |[]=>F2.nil
 |_::u=>F2.cons ⟨rfl,rfl,rfl⟩ (Xn u)
def aS{f:Ag}{q:CB}{c:AY}(g:Q4 (Bn f) q)(m:Gi f c)(d:AQ f)(h:lenOf q.hv=Z q.zD):Qj q c:=by
 obtain⟨j,o,l,p,i⟩:=g;obtain⟨a,b,k⟩:=m;have e:q.zD=c.head.args.map ct:=by
  rw[l,a];simp only[Bn,Tg,gR];refine gN (λx n=>?_);show IY (AA x)=ct (Ku x);unfold ct Ku IY;simp only;rw[ID (d x n)];rfl
 refine⟨by rw[j,a];rfl,by rw[o,a];rfl,e,by rw[i,b];exact F2.nil,by rw[h,e,fH],by rw[k,a];rfl⟩
def Sd:∀{u:kJ Ag} {a:kJ CB} {b:kJ AY},F2 Q4 (u.map Bn) a->F2 Gi u b->(∀f∈u,AQ f)->(∀q∈a,lenOf q.hv=Z q.zD)->F2 Qj a b
 |[],[],[],_,_,_,_=>F2.nil
 |[],[],_::_,_,h,_,_=>h.elim
 |[],_::_,_,h,_,_,_=>h.elim
 |_::_,[],_,h,_,_,_=>h.elim
 |_::_,_::_,[],_,h,_,_=>h.elim
 |f::u,q::a,c::b,hq,hc,hf,hv=>F2.cons (aS hq.1 hc.1 (hf f (by simp)) (hv q (by simp))) (Sd hq.2 hc.2 (λg e=>hf g (by simp[e])) (λp d=>hv p (by simp[d])))
def Vn{s k:kJ CB}{g v:kJ AY}{u:kJ Ag}(n:Ih s g)(B:BI g)(t:F2 Q4 (u.map Bn) k)(w:F2 Gi u v)(m:∀f∈u,D0 g f/\GT f)(d:Z u<=900)(D:∀q∈k,lenOf q.hv=Z q.zD):Ih (s++k) (g++v):=by
 have y:∀q∈k,∃f∈u,Q4 (Bn f) q:=λq C=>by
  obtain⟨p,j,h⟩:=t.mem q C;obtain⟨f,b,rfl⟩:=fC.1 j;exact⟨f,b,h⟩
 refine⟨n.zg.app (Sd t w (λf b=>(m f b).1.canon) D),LO B n.pass w (λf b=>(m f b).1) d,λc a=>?_,λc a=>?_⟩
 .rcases fA.1 a with a|a
  .exact n.zN c a
  .obtain⟨f,b,A,o,x,z,i⟩:=y c a;have r:=(m f b).1;(have F:Z c.zD=Z f.args:=by rw[x];simp[Bn]);(have E:Z f.args≠0:=λe=>r.ne (iu e));refine⟨⟨by show 0<Z c.zD;omega,by show Z c.zD<=151;have:=r.two;omega⟩,?_,λl d=>?_⟩
   .show Z (c.zE.map Prod.fst)<=151;rw[i];simp
   .have d:l∈c.zE.map Prod.fst:=d;rw[i]at d;cases d
 .rcases fA.1 a with a|a
  .exact n.names c a
  .obtain⟨f,b,A,o,x,z,i⟩:=y c a;refine⟨?_,λp j=>by rw[i]at j;cases j⟩;rw[o];have:=(m f b).2.1;show f.name.size<=_;omega
def ej(cs:kJ AY)(u:kJ Ag)(t:zA):Prop:=∃(ws:kJ AY) (L:zA->Nat) (N:Nat) (m:kJ Ag),F2 Gi u ws/\Dl (cs++ws) L/\Jj (cs++ws) L N m/\(∀c∈cs++ws,L c.head.name<N)/\t=Ra ByteArray.empty (m.map Bn)
def N3(A:s.size<=300){e o:kJ AY}{u:kJ Ag}(w:e.map AY.erase=(Ar s (Ae s 0)).1)(k:F2 Gi u o)(n:∀f∈u,D0 e f/\GT f){m:kJ Ag}(i:∀f∈m,FV (e++o) f):
  ∀f∈m,f.name.size<=300/\∀x∈f.args,x.size<=300:=by
 intro f q;have l:=i f q;have p:∀c∈e,eL s c.head:=λc a=>(F9 s (Ae s 0) c.erase (by rw[<-w];exact fW a)).1
 refine⟨?_,λx z=>?_⟩
 .obtain⟨c,a,v,_⟩:=l.ze;rw[v];rcases fA.1 a with a|a
  .have:=(p c a).1;omega
  .obtain⟨g,j,h⟩:=k.mem c a;rw[h.1];exact(n g j).2.1
 .have a:=l.args x z;unfold consts at a;obtain⟨c,b,i⟩:=gc.1 a;obtain⟨t,d,rfl⟩:=fC.1 i;have d:=(fT.1 d).1;rcases fA.1 b with b|b
  .have:=(p c b).2 t d;omega
  .obtain⟨g,j,h⟩:=k.mem c b;rw[h.1]at d;obtain⟨y,r,rfl⟩:=fC.1 d;exact(n g j).2.2 y r
def MS(cs:kJ AY)(u:kJ Ag)(w:World)(e:Ending)(w':World):Prop:=∃t,e=.returned (.string t)/\ej cs u t/\Ac [] w w'
set_option maxRecDepth 100000
theorem VT(d:Nat)(E:Option Addr)(D:Nat)(g:kJ CB)(E0:Option Addr)(FA:Nat)(C:kJ DF)(s:zA)(r:kJ AY)(u:kJ Ag)(w:World)(h:Ij w d E D g E0 FA C)(S:CG C u)(hB:Ih g r)(ho:BI r)(hs:s.size<=300)(CL:r.map AY.erase=(Ar s (Ae s 0)).1)(hu:∀f∈u,D0 r f/\GT f)(HS:Z u<=300):
  Calls prog 11 #[j2 (V ⟨d,0,Y⟩)] w (MS r u w):=by
 have HV:Z C=Z u:=by have:=congrArg List.length S.same;simpa using this
 have c0:=h.base.cell 0;have W:=h.base.cell 1;simp at c0 W;have B9:=Ab (JM d w);have BT:Hid (∀c,Ac [] w c->Calls prog 26 #[U E (Z g) D,j2 (V ⟨d,1,Y⟩)] c (P2 g C c)):=λc n=>Qz d 1 E D g E0 FA C c (h.prog.kept n) (n.cellAt W) (h.facts.kept n) (by rw[hB.zg.lenX];exact ho.small.1) (by omega)
 have FF:Hid (∀A F k c,Ac [] w c->Cv c (U A (Z (g++k)) F) (g++k)->F2 Q4 (C.map DF.f) k->Calls prog 25 #[U A (Z (g++k)) F] c λe Q=>∃B,e=.returned (j2 (V ⟨B,1,Y⟩))/\Ac [] w Q/\Calls prog 27 #[j2 (V ⟨B,1,Y⟩)] Q λe HK=>MS r u w e HK):=by
  intro A F k c n hP hq;rw[S.same]at hq;have hw:=Xn u;have hb:=Vn hB ho hq hw hu (by omega) (λq hm=>by
   obtain⟨a,b,e⟩:=Aj (hP.each q (List.mem_append_right _ hm)).head
   rw[e]
   rfl)
  refine(N0 A F (g++k) _ c hP hb).mono ?_;rintro _ M ⟨B,m,L,N,rfl,g1,g2,g3,g4⟩;refine⟨B,rfl,n.trans g1.kept,?_⟩;obtain⟨FW,Ha,EM,HT,HR,xs,k1,I,G,_⟩:=g1.out;have hc:=k1.cell 1;have HU:=(hb.ze g3).2.2;have HQ:Z EM=Z m:=by have:=congrArg List.length G.same;simpa using this
  refine(NG B 1 FW Ha EM M (by simpa using hc) I (by omega) ?_).mono ?_
  .intro p hp;(have HF:p.f∈m.map Bn:=by rw[<-G.same];exact fW hp);obtain⟨f,hf,e⟩:=fC.1 HF;have hz:=N3 hs CL hw hu g3.zX f hf;rw[<-e];refine⟨by show f.name.size<=_;omega,λx hx=>?_⟩;obtain⟨y,hy,rfl⟩:=fC.1 hx;have T:=hz.2 y hy;have R:=NT y;omega
  .rintro _ Q ⟨rfl,Go⟩;exact⟨_,rfl,⟨_,L,N,m,hw,g2,g3,g4,by rw[G.same]⟩,(n.trans g1.kept).trans Go⟩
 clear h S hB ho CL hu W;go_enter func11,ntmps11;go_wp2_with fail
 refine B9.mono ?_;rintro _ l ⟨rfl,HI⟩;subst HI;clear B9;have H:Hid (∀c,Ac [] l c->c.cell? ⟨d,0,Y⟩=V (U E (Z g) D)):=λc n=>n.cellAt c0
 have z:=Ab (H l.drew (kL [] l).drew);have FC:=Ab (BT l.drew (kL [] l).drew);clear BT c0;go_wp2_with fail
 refine Cn 10 (λc=>c.cell? ⟨d,0,Y⟩=V (U E (Z g) D)) (by kernel_rfl) ?_;refine Ci.tq (i:=0) (v:=j2 (V ⟨d,0,Y⟩)) rfl (λ_ _ _ h=>h) z ?_;simp only[kG,ff,fh,fi];refine Ci.tq (i:=1) (v:=j2 (V ⟨d,0,Y⟩)) rfl (λ_ _ _ h=>h) z ?_;simp only[kG,ff,fh,fi];refine Ci.tq (i:=2) (v:=j2 (V ⟨d,0,Y⟩)) rfl (λ_ _ _ h=>h) z ?_;simp only[kG,ff,fh,fi];refine Ci.tq (i:=3) (v:=U E (Z g) D) rfl (λ_ _ _ h=>h) z ?_;simp only[kG,ff,fh,fi];refine Ci.tq (i:=4) (v:=j2 (V ⟨d,0,Y⟩)) rfl (λ_ _ _ h=>h) z ?_;simp only[kG,ff,fh,fi];refine Ci.tq (i:=5) (v:=j2 (V ⟨d,0,Y⟩)) rfl (λ_ _ _ h=>h) z ?_;simp only[kG,ff,fh,fi];refine Ci.tq (i:=6) (v:=j2 (V ⟨d,1,Y⟩)) rfl (λ_ _ _ h=>h) z ?_;simp only[kG,ff,fh,fi];refine Ci.one (i:=7) (by kernel_rfl) rfl (λo j=>?_)
 go_simp
 refine FC.mono ?_;rintro _ M ⟨A,F,k,rfl,T,R,CC⟩;have I:Ac [] l M:=(kL [] l).drew.trans CC;have P:=Ab (FF A F k M I T R);generalize Z (g++k)=L at P⊢;refine j.out _ _ (λ_=>H _ I) ?_;clear j o FC FF T R CC
 try simp only[kG,ff,fh,fi]
 refine Ci.one (i:=8) (by kernel_rfl) rfl (λo j=>?_)
 go_simp
 refine P.mono ?_;rintro _ w3 ⟨B,rfl,G,h3⟩;have H3:=Ab h3;refine j.out _ _ (λ_=>H _ G) ?_;clear j o P h3
 try simp only[kG,ff,fh,fi]
 refine Ci.one (i:=9) (by kernel_rfl) rfl (λo j=>?_)
 go_simp
 refine H3.mono ?_;rintro _ w4 ⟨t,rfl,ht,k4⟩;have HO:Hid (MS r u l (.returned (.string t)) w4):=⟨t,rfl,ht,k4⟩;refine j.out _ _ (λ_=>H _ k4) ?_;clear j o H3 ht
 try simp only[kG,ff,fh,fi]
 refine Ci.one (i:=10) (by kernel_rfl) rfl (λo j=>?_)
 go_simp
 refine j.out _ _ (λh=>absurd rfl h) ?_;clear j o;refine Ci.done (by kernel_rfl) ?_ _;go_wp2;go_ret;exact HO
def mod_one{e g:kJ AY}{u:kJ Ag}(h:ej e u t)(r:∀c∈e,c.head.args≠[])(x:∀f∈u,D0 e f)(i:F2 Gi u g)(p:CX (e++g)){k:kJ BD}(w:Jj (e++g) (BJ (e++g) 6) 7 (k.map BD.f)):t=L7 ByteArray.empty k:=by
 obtain⟨z,L,N,m,l,s,y,v,rfl⟩:=h;have n:OJ e e:=λc j=>⟨c,j,rfl,rfl⟩
 have a:=RJ n l i;have b:=RJ n i l;refine p.text (aK r i x) w (b.zR s) (a.inv b y) (λd o=>?_);obtain⟨c,j,q,_⟩:=b d o;rw[<-q];exact v c j
