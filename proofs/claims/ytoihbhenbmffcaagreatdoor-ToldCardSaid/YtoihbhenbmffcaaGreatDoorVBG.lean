import Derived.Test.YtoihbhenbmffcaaGreatDoorVBA
import Derived.Test.YtoihbhenbmffcaaGreatDoorVBF
set_option linter.all false
set_option maxHeartbeats 0
open List renaming length->Z
open Option renaming none->Y
open Go.Value renaming slice->U,string->O
open Bool renaming false->K
open ByteArray renaming empty->ND
open Prod renaming fst->O0
namespace Go.Proofs.YtoihbhenbmffcaaGreatDoor
open Go.RowKit Go.Proofs.Tryz
variable{s t:bC}{c:QC A7}{p:QC DF}{I:Int}{z:Value}{f:QC Af}{i n:Nat}{g:UInt8}
def Zw(c:CG):QC kU:=((c.head.at_:Int),c.head.name,Z c.head.args)::(c.body.filter λx=>x.kind==97||x.kind==33).map λx=>((x.A.at_:Int),x.A.name,Z x.A.args)
def UR(r:A7):Fi r=Zw r.erase:=by
 unfold Fi Zw A7.erase;simp only;rw[List.filter_map,mJ];rfl
def Wb{d b:QC A7}(h:d.map A7.erase=b.map A7.erase):FX d=FX b:=by
 have e:∀l:QC A7,FX l=(l.map A7.erase).flatMap λc=>(Zw c).map λa=>a.2:=by
  intro l;unfold FX;rw[List.flatMap_map]
  congr 1
  funext r
  rw[UR]
 rw[e,e,h]
def ac{b:QC Lx}{bl:QC Be}(c:b.map O0=(bl.map O0).map LQ)(f:∀p∈b,G7 p.1)(d:∀p∈b,lenOf p.2=Z p.1.ts):F2 T4 b bl:=by
 rw[mJ]at c;refine(F2.of_map c).mono (λp a q _ e=>?_);have e:p.1=LQ q.1:=e;refine⟨e,?_,λg=>?_⟩
 .rw[d p a,e];show Z (q.1.A.args.map ct)=_;rw[lR]
 .have a:=(f p a).plain (by rw[e,Iw];exact g);rw[e]at a;have a:q.1.A.args.map ct=[]:=a;exact List.map_eq_nil_iff.1 a
def jn{f:QC DF}{c e:QC A7}(hF:F2 RY f c)(i:e.map A7.erase=c.map A7.erase){d:QC Lx}{g:QC Be}(h:F2 T4 d g):
  jA f (AV d)=(g.find? (Ol e)).map λq=>(q.1.A.at_:Int):=by
 unfold jA AV;rw[List.find?_map,List.find?_filter,Option.map_map];refine F2.find (λp q b=>⟨?_,?_⟩) h
 .simp only[Function.comp];unfold Ol;rw[b.atom];cases hi:Nf q with
  |false=>rfl
  |true=>
   simp only[true_and,Bool.decide_eq_true,np];unfold Sy;simp only;(have j:p.1.an=q.1.A.name:=by rw[b.eq];rfl);rw[b.len,j,Xt hF,OL,Wb i];unfold P3;cases hf:(FX c).find? (jG q.1.A.name)with
   |none=>simp
   |some a=>
    simp;rw[Bool.or_comm]
    congr 1
    rw[m9];simp;omega
 .simp only[Function.comp];rw[b.eq];rfl
def jt{a:QC Lx}{b:QC Be}(h:F2 T4 a b):(a.find? λp=>(AU p.1).any (Dv a)).map (λp=>p.1.place)=if 0<=DN FH b then some (DN FH b)else Y:=by
 have c:RY ⟨0,ND,[],U Y 0 0,U Y 0 0,a⟩ ⟨FH,U Y 0 0,U Y 0 0,b,0⟩:=⟨rfl,rfl,rfl,h,rfl,rfl⟩;have:=c.zu;unfold Ig at this;simp only[List.any_nil,lJ,if_false]at this;exact this
def iT{e:QC DF}{f c:QC A7}(hF:F2 RY e f)(g:c.map A7.erase=f.map A7.erase){d:QC Lx}{b:QC Be}(h:F2 T4 d b):qR e d=I6 c b:=by
 unfold qR I6;rw[jn hF g h,jt h];cases hf:b.find? (Ol c)with
 |some p=>rfl
 |none=>
  simp only[Option.map_none];by_cases a:0<=DN FH b
  .rw[lS a,lS a]
  .rw[lO a,lO a]
def OQ{f:QC DF}{m g:QC A7}(hF:F2 RY f m)(x:g.map A7.erase=m.map A7.erase){r:Int×Int}{e d:Int}(b:iU s f r)(a:Db s g e d):r=(e,d):=by
 unfold iU at b;unfold Db at a;by_cases k:300<s.size
 .rw[lS k]at b a;rw[b,a.1,a.2]
 .rw[lO k]at b a;have c:=W9 s;cases hal:FR (Dt s)with
  |error p=>
   rw[hal]at b c;rw[lS c.1]at a;rw[b,a.1,a.2,c.2]
  |ok ls=>
   rw[hal]at b c;obtain⟨y,z,i⟩:=c;obtain⟨v,_⟩:=Rb (by omega) hal;rw[lO (by rw[y];rintro (h|h);cases h;exact z h)]at a;(have B:Z ls=Z (A4 s 0).1:=by rw[i,lR]);simp only at b;by_cases j:3<Z ls
   .rw[lS j]at b;rw[lS (by omega)]at a;rw[b,a.1,a.2]
   .rw[lO j]at b;rw[lO (by omega)]at a;obtain⟨C,l,t,w⟩:=b;obtain⟨A,o,n⟩:=a;rw[w,n];refine iT hF x (ac (by rw[l,o,i]) (λp u=>v p.1 (by rw[<-l];exact lZ u)) t)
def UB(g:s.size<=300){b:QC A7}(f:b.map A7.erase=(An s (Ae s 0)).1){x:bC}(a:x∈consts b):x.size<=300:=by
 unfold consts at a;obtain⟨c,e,a⟩:=mD.1 a;obtain⟨t,d,rfl⟩:=lP.1 a;have h:=(GI s (Ae s 0) c.erase (by rw[<-f];exact lZ e)).1.2 t (mh.1 d).1;omega
def jm(E:s.size<=300){o:QC DF}(I:c.map A7.erase=(An s (Ae s 0)).1)(n:M7 o c){d:QC Lx}(G:FR (Dt t)=.ok (d.map O0))(A:∀p∈d,G7 p.1)(L:Z d<=3)(C:∀p∈d,lenOf p.2=Z p.1.ts)(z:qR o d=(0,0)):
  d.map O0=(A4 t 0).1.map LQ/\∀u,(∀f∈u,DV c f)->Zx (A4 t 0).1 u/\gG (A9 (A4 t 0).1) (Av (Jd (A4 t 0).1 u) (A4 t 0).1 u (A9 (A4 t 0).1) Bj):=by
 have y:=W9 t;rw[G]at y;obtain⟨F,M,j⟩:=y;refine⟨j,λu k=>?_⟩;obtain⟨bl,h⟩:∃bl:QC Be,bl.map O0=(A4 t 0).1:=⟨(A4 t 0).1.map λx=>(x,U Y 0 0),by rw[mJ];exact List.map_id' _⟩;have B:=ac (bl:=bl) (by rw[h];exact j) A C;have r:I6 c bl=(0,0):=by rw[<-iT n.zL rfl B];exact z
 have H:Z bl<=3:=by
  have b:=congrArg List.length j;have i:=congrArg List.length h;simp at b i;omega
 have a:=Ob n.pass k r (by rw[h];exact MA F);have l:=Qu r H;rw[h]at a l;refine⟨a,⟨?_,λx w v g=>?_,GM _ _ rfl,λv g=>(a.vars v g).1,l⟩⟩
 .have b:=WE n.pass k a l _ (λe m=>m);rw[RL a,lR]at b;exact b
 .refine⟨a.zO w v g,?_⟩;obtain⟨e,m,D⟩:=QI a w;have b:Nc e v=Nc x v:=by
   have i:=List.map_inj_left.1 D v g;exact i
  rw[<-b];have:=UB E I (Mx k a m v g);omega
def Jz(s q:bC)(r:Int×Int):Prop:=
 ∃r1,EI s (jo s) r1/\((r1.1≠0/\r=r1)\/(r1.1=0/\∃(pcs:QC DF) (rcs:QC A7),F2 RY pcs rcs/\rcs.map A7.erase=(An s (Ae s 0)).1/\iU q pcs r))
def Y5(s q t:bC)(er:Int):Prop:=
 (er≠0->t=ND)/\
 (er=0->∃(rcs:QC A7) (L:bC->Nat) (n:Nat) (u:QC Af),rcs.map A7.erase=(An s (Ae s 0)).1/\CX rcs L/\GN rcs L n u/\(∀c∈rcs,L c.head.name<n)/\
  t=EJ (A9 (A4 q 0).1) ND ((Av (Jd (A4 q 0).1 u) (A4 q 0).1 u (A9 (A4 q 0).1) Bj).map (Ex (A9 (A4 q 0).1))))
def iU.zero(h:iU s p (0,I)):I=0:=by
 unfold iU at h;split at h
 .exact absurd (congrArg O0 h) (by simp)
 .split at h
  .exact absurd (congrArg O0 h) (by simp)
  .split at h
   .exact absurd (congrArg O0 h) (by simp)
   .obtain⟨b,_,_,h⟩:=h;unfold qR at h;split at h
    .exact absurd (congrArg O0 h) (by simp)
    .split at h
     .exact absurd (congrArg O0 h) (by simp)
     .exact congrArg Prod.snd h
def Jz.zero{s q:bC}{a:Int}(h:Jz s q (0,a)):a=0:=by
 obtain⟨d,_,h|⟨_,b,c,_,_,h⟩⟩:=h
 .exact absurd (by rw[<-h.2]) h.1
 .exact h.zero
set_option maxRecDepth 100000
theorem Lp(s q:bC)(w:World)(BS:s.size<=9223372036854775807)(H:q.size<=9223372036854775807):
  Calls prog 24 #[O s,O q] w λe x=>∃(t:bC) (r:Int×Int),e=.returned (.tuple #[O t,.int .i64 r.1,.int .i64 r.2])/\Jz s q r/\Y5 s q t r.1/\Ac [] w x:=by
 have AB:=Ab (LV s (jo s) w BS (λp cs z d A=>Me p z A));go_enter func24,ntmps24;go_wp2_with fail
 refine(Aa AB).mono ?_;rintro _ T ⟨I,n,P,⟨g,v⟩,rfl,Bx,Ax,S⟩;have o:=Ab Bx;have E:=Ab Ax;have AR:=Ab S;clear AB Bx Ax S;by_cases b:g=0
 .subst b;obtain⟨p,cs,d,z,A,rfl,C⟩:=Aa E rfl;obtain⟨hr,Q,y,l⟩:=O5 p z A C (Aa o) rfl;have B2:((0:Int) !=0)=K:=rfl;have F:=Ab (cj q I P d T H C (λc hc=>(l.fit hc).pc.lits) (by have:=l.len;omega));have D:Hid (∀r,iU q d r->Jz s q r):=λr h=>⟨(0,v),Aa o,Or.inr ⟨rfl,d,Q,l.zL,y,h⟩⟩
  have N:Hid (∀(i:Option Addr) (j f:Nat) (r:Int×Int) (a:World),Ac [] T a->gE q d a (U i j f) j r->r.1=0->Calls prog 52 #[U I (Z d) P,U i j f] a λe x=>∃t,e=.returned (O t)/\Y5 s q t 0/\Ac [] a x):=by
   intro i j f r a hk hl b;obtain⟨FT,E0,FA,hg,h3,rfl,B9,CL,H⟩:=hl b;obtain⟨e1,k⟩:=jm p y l FA hg h3 CL H;refine(Wi I P d Q i f E0 _ a (C.kept hk) l ⟨B9,e1,hg,h3⟩ k).mono ?_;rintro e x ⟨t,u,L,n,rfl,g1,g2,g3,g4,g5⟩;exact⟨t,rfl,⟨λh=>absurd rfl h,λ_=>⟨Q,L,n,u,y,g1,g2,g3,g4⟩⟩,g5⟩
  clear p z A C hr y l E o;go_wp2_with fail
  refine(Aa F).mono ?_;rintro _ a ⟨i,j,f,⟨k,a2⟩,rfl,M,R,B⟩;have W:=Ab (Aa D _ M);have A0:=Ab ((Aa AR).trans B);by_cases m:k=0
  .have A2:=Ab (Aa N i j f _ a B R m);subst m;clear F D N M R B;(go_wp2_with fail);refine(Aa A2).mono ?_;rintro _ w3 ⟨t,rfl,hA,k3⟩;have BA:=Ab hA;have FB:=Ab ((Aa A0).trans k3);clear A2 hA k3;(go_wp2_with fail);go_ret3;exact⟨t,(0,0),rfl,by have h:=Aa W;rw[h.zero]at h;exact h,Aa BA,Aa FB⟩
  ·(have FP:(k !=0)=true:=by simp[m]);have G:Hid (Y5 s q ND k):=⟨λ_=>rfl,λh=>absurd h m⟩;clear m F D N M R B;(go_wp2_with fail);go_ret3;exact⟨ND,(k,a2),rfl,Aa W,Aa G,Aa A0⟩
 .have B2:(g !=0)=true:=by simp[b]
  have G:Hid (Y5 s q ND g):=⟨λ_=>rfl,λh=>absurd h b⟩;have HI:Hid (Jz s q (g,v)):=⟨(g,v),Aa o,Or.inl ⟨b,rfl⟩⟩;clear b E o;go_wp2_with fail
  go_ret3;exact⟨ND,(g,v),rfl,Aa HI,Aa G,Aa AR⟩
def ak{x:Bp}(d:BU c x.A.name=(Z x.A.args:Int))(b:Z x.A.args<=2)(a:IK [(x,z)] (x,z)=K):I6 c [(x,z)]=(0,0):=by
 have e:Ol c (x,z)=K:=by
  unfold Ol;simp only[d];simp;exact λ_=>b
 unfold I6;simp only[n5,List.find?_nil,e];unfold DN;simp only[FH,List.any_nil,n5,List.find?_nil,a];rfl
def XF{x:Bp}(d:s.size<=300)(b:A4 s 0=([x],s.size,K))(a:I6 c [(x,U Y 0 0)]=(0,0)):Db s c 0 0:=by
 unfold Db;rw[lO (by omega),b];rw[lO (by simp only[(fQ (lX s.size)).1];rintro (h|h);cases h;omega),lO (by simp)];exact⟨[(x,U Y 0 0)],rfl,a.symm⟩
def gi{S q t:bC}{r:Int×Int}(h:Jz S q r)(y:Y5 S q t r.1)(p:CJ S 0 I){i:QC A7}(x:Cp i)(m:i.map A7.erase=(An S (Ae S 0)).1)(s:Db q i 0 0)(z:GN i (Cf i 6) 7 f):
  r.1=0/\t=EJ (A9 (A4 q 0).1) ND ((Av (Jd (A4 q 0).1 f) (A4 q 0).1 f (A9 (A4 q 0).1) Bj).map (Ex (A9 (A4 q 0).1))):=by
 obtain⟨C,j,g⟩:=h;have e:=Fa p j;subst e;rcases g with⟨g,_⟩|⟨_,D,F,l,k,w⟩
 .exact absurd rfl g
 .have e:=OQ l (m.trans k.symm) w s;subst e;obtain⟨E,L,n,v,j,g,l,k,rfl⟩:=y.2 rfl;have a:=Hw (j.trans m.symm);have b:=Hw (m.trans j.symm);have e:f=v:=x.one z (b.dp g) (a.inv b l) (λd o=>by
   obtain⟨c,B,A,_⟩:=b d o
   rw[<-A]
   exact k c B)
  subst e;exact⟨rfl,rfl⟩
def Xr{S q t:bC}{r:Int×Int}(h:Jz S q r)(i:Y5 S q t r.1)(p:CJ S 0 I)(g:Cp c)(E:c.map A7.erase=(An S (Ae S 0)).1){u:QC Af}(d:GN c (Cf c 6) 7 u)
   {a:QC UInt8} (b:XY a) (C:q.size<=300) (j:A4 q 0=([QW s a],q.size,K)) (F:A6 s) (z:BU c s=(Z a:Int)) (m:∀f∈u,f.name=s->Z f.args=Z a):r.1=0/\t=IH s ND u:=by
 have A:∀f∈u,AJ f:=λf i=>(d.fw f i).canon g.prog.cU
 have D:Z a<=2:=by rcases b with rfl|rfl<;>simp
 have k:I6 c [(QW s a,U Y 0 0)]=(0,0):=by
  refine ak ?_ ?_ ?_
  .show BU c s=(Z (a.map Ve):Int);rw[lR];exact z
  .show Z (a.map Ve)<=2;rw[lR];exact D
  .rcases b with rfl|rfl<;>rfl
 obtain⟨G,e⟩:=gi h i p g E (XF C j k) d;refine⟨G,?_⟩;rw[j]at e;simp only at e;have o:A9 [QW s a]=a:=by rcases b with rfl|rfl<;>rfl
 have y:Zx [QW s a] u:=Ob (bl:=[(QW s a,U Y 0 0)]) g d.fw k (λx n=>by
  simp only[l9,nE,lG]at n
  subst n
  unfold Dk
  rw[lS (by rfl)]
  refine⟨F,λt w=>?_⟩
  obtain⟨v,B,rfl⟩:=lP.1 w
  right
  rcases b.ok v B with rfl|rfl<;>exact⟨by decide,by decide,rfl⟩)
 have l:=RL y;rw[o,aV d.cE A b m]at l;rw[e,o,<-O4 b u ND m,l,mJ];rfl
def Og{T:bC}(h:Hj T=true):Il (CP T)/\B5 (CP T)=T/\Z (CP T).args<=2/\T.size<=300:=by
 obtain⟨_,i,j⟩:=Hm h;unfold Hj at h;rw[mi]at h;obtain⟨a,c⟩:=h;have hF:CP T=Aq Bj (Ao T 0).1.head:=by unfold CP;rw[lS a]
 have k:B5 (CP T)=T:=toList_inj (by simpa using c);unfold Lo at a;simp only[mi,nW,nV]at a;obtain⟨o,g,m,p,n⟩:=a;have f:=JM g;refine⟨⟨by rw[hF];exact f.name,λx d=>?_,j⟩,k,by rw[hF];simp[Aq];omega,by omega⟩;have l:=(i x d).size;rw[hF]at d;obtain⟨t,c,rfl⟩:=lP.1 d;by_cases b:t.v=0
 .have e:AL Bj t=t.s:=by unfold AL;rw[lS b]
  rw[e];exact f.args t c b
 .refine absurd ?_ l;unfold AL Bj;rw[lO b,lT,List.getElem?_replicate];split<;>rfl
def S9{f:Af}(h:Il f){m:QC UInt8}(a:CV s i (D7 f.args++41::m)):Cb s i=(f.args.map (AF.mk 0),i+Z (D7 f.args),K):=by
 cases hf:f.args with
 |nil=>exact absurd hf h.ne
 |cons x xs=>rw[hf]at a;exact OA xs x _ m (λy b=>h.args y (by rw[hf];exact b)) a
def fA{f:Af}(h:Il f)(c:s.toList=f.name.toList++40::(D7 f.args++[41])):A4 s 0=([Pr 97 f 0],s.size,K):=by
 refine R3 h.name c ?_;have b:=EB s;rw[c]at b;have d:=b.right;have a:CV s (0+Z f.name.toList+[(40:UInt8)].length) (D7 f.args++[41]):=(show CV s (0+Z f.name.toList) ([40]++(D7 f.args++[41]))from d).right;rw[mC]at a;exact S9 h a
def eC{f:Af}(h:Il f)(a:s.toList=33::(f.name.toList++40::(D7 f.args++[41]))):A4 s 0=([Pr 33 f 1],s.size,K):=by
 refine gP h.name a ?_;have b:=EB s;rw[a]at b;have e:CV s (0+[(33:UInt8)].length) (f.name.toList++40::(D7 f.args++[41])):=(show CV s 0 ([33]++(f.name.toList++40::(D7 f.args++[41])))from b).right;have d:=e.right;have c:CV s (0+[(33:UInt8)].length+Z f.name.toList+[(40:UInt8)].length) (D7 f.args++[41]):=(show CV s (0+[(33:UInt8)].length+Z f.name.toList) ([40]++(D7 f.args++[41]))from d).right;exact S9 h (by simpa using c)
def Pb(h:Hj t=true):(t.extract 0 (t.size-1)).toList=(CP t).name.toList++40::(D7 (CP t).args++[41])/\(t.extract 0 (t.size-1)).size+1=t.size:=by
 obtain⟨f,d,_,_⟩:=Og h;have a:=EB t;have b:t.toList=((CP t).name.toList++40::(D7 (CP t).args++[41]))++[46]:=by
  conv=>lhs;rw[<-d]
  rw[Ii f.ne];simp
 have k:t.size=Z ((CP t).name.toList++40::(D7 (CP t).args++[41]))+1:=by rw[AP,b,lU];rfl
 rw[b]at a;obtain⟨Q,j⟩:=QP ((CP t).name.toList++40::(D7 (CP t).args++[41]));rw[j]at a k⊢;have e:Q=(⟨Q.toArray⟩:bC).toList:=by rw[ma]
 have c:=Eh (x:=⟨Q.toArray⟩) (s:=t) (i:=0) (by rw[<-e];exact a.left);rw[<-e,mC]at c;have g:t.size-1=Z Q:=by omega
 rw[g,c];refine⟨e.symm,?_⟩;rw[AP,<-e];omega
def W5{S q t:bC}{r:Int×Int}(h:Jz S q r)(m:Y5 S q t r.1)(v:CJ S 0 I)(j:Cp c)(x:c.map A7.erase=(An S (Ae S 0)).1){u:QC Af}(w:GN c (Cf c 6) 7 u)
   (d:g=97\/g=33) {f:Af}  (hF:Il f) (z:AJ f) (s:Z f.args<=2) (B:q.size<=300) (i:A4 q 0=([Pr g f n],q.size,K)) (A:BU c f.name=(Z f.args:Int)):
  r.1=0/\t=if(if g=97 then CW u f else !CW u f)=true then⟨#[10]⟩else ND:=by
 have o:I6 c [(Pr g f n,U Y 0 0)]=(0,0):=by
  refine ak ?_ ?_ ?_
  .show BU c f.name=(Z (f.args.map (AF.mk 0)):Int);rw[lR];exact A
  .show Z (f.args.map (AF.mk 0))<=2;rw[lR];exact s
  .unfold IK;rw[ng];intro t e;have l:t∈f.args.map (AF.mk 0):=by
    unfold AE at e;rcases d with rfl|rfl<;>exact e
   obtain⟨y,_,rfl⟩:=lP.1 l;unfold CR;simp
 obtain⟨p,b⟩:=gi h m v j x (XF B i o) w;refine⟨p,?_⟩;rw[i]at b;simp only at b;rw[b];exact Wl d z n u _
