import Derived.Laws.IdiomStrings
import Derived.Test.YtoihbhenbmffcaaGreatDoorXBF
set_option linter.all false
set_option maxHeartbeats 0
open List renaming length->Z
open Go.Value renaming slice->U,string->O
open ByteArray renaming empty->pF
open Prod renaming fst->pH
namespace Go.Proofs.YtoihbhenbmffcaaGreatDoor
open Go.RowKit Go.Proofs.Tryz
variable{s t:zA}{c:pM A4}{p:pM Dy}{I:Int}
def Zr(c:CD):pM kq:=((c.head.at_:Int),c.head.name,Z c.head.args)::(c.body.filter λx=>x.kind==97||x.kind==33).map λx=>((x.A.at_:Int),x.A.name,Z x.A.args)
def UT(r:A4):Fb r=Zr r.erase:=by
 unfold Fb Zr A4.erase;simp only;rw[List.filter_map,mq];rfl
def Wc{d b:pM A4}(h:d.map A4.erase=b.map A4.erase):FN d=FN b:=by
 have e:∀l:pM A4,FN l=(l.map A4.erase).flatMap λc=>(Zr c).map λa=>a.2:=by
  intro l;unfold FN;rw[List.flatMap_map]
  congr 1
  funext r
  rw[UT]
 rw[e,e,h]
def Z6{b:pM Lz}{bl:pM Ba}(c:b.map pH=(bl.map pH).map LU)(f:∀p∈b,Hb p.1)(d:∀p∈b,lenOf p.2=Z p.1.ts):F2 T4 b bl:=by
 rw[mq]at c;refine(F2.of_map c).mono (λp a q _ e=>?_);have e:p.1=LU q.1:=e;refine⟨e,?_,λg=>?_⟩
 .rw[d p a,e];show Z (q.1.A.args.map ct)=_;rw[lm]
 .have a:=(f p a).plain (by rw[e,IB];exact g);rw[e]at a;have a:q.1.A.args.map ct=[]:=a;exact List.map_eq_nil_iff.1 a
def iX{f:pM Dy}{c e:pM A4}(hF:F2 RX f c)(i:e.map A4.erase=c.map A4.erase){d:pM Lz}{g:pM Ba}(h:F2 T4 d g):
  jl f (AS d)=(g.find? (P5 e)).map λq=>(q.1.A.at_:Int):=by
 unfold jl AS;rw[List.find?_map,List.find?_filter,Option.map_map];refine F2.find (λp q b=>⟨?_,?_⟩) h
 .simp only[Function.comp];unfold P5;rw[b.atom];cases hi:MF q with
  |false=>rfl
  |true=>
   simp only[true_and,Bool.decide_eq_true,mR];unfold Sy;simp only;(have j:p.1.an=q.1.A.name:=by rw[b.eq];rfl);rw[b.len,j,Xp hF,OJ,Wc i];unfold P1;cases hf:(FN c).find? (jr q.1.A.name)with
   |none=>simp
   |some a=>
    simp;rw[Bool.or_comm]
    congr 1
    rw[mN];simp;omega
 .simp only[Function.comp];rw[b.eq];rfl
def i9{a:pM Lz}{b:pM Ba}(h:F2 T4 a b):(a.find? λp=>(AR p.1).any (Dn a)).map (λp=>p.1.place)=if 0<=DR F0 b then some (DR F0 b)else none:=by
 have c:RX ⟨0,pF,[],U none 0 0,U none 0 0,a⟩ ⟨F0,U none 0 0,U none 0 0,b,0⟩:=⟨rfl,rfl,rfl,h,rfl,rfl⟩;have:=c.yb;unfold Ik at this;simp only[List.any_nil,k0,if_false]at this;exact this
def iE{e:pM Dy}{f c:pM A4}(hF:F2 RX e f)(g:c.map A4.erase=f.map A4.erase){d:pM Lz}{b:pM Ba}(h:F2 T4 d b):qR e d=KP c b:=by
 unfold qR KP;rw[iX hF g h,i9 h];cases hf:b.find? (P5 c)with
 |some p=>rfl
 |none=>
  simp only[Option.map_none];by_cases a:0<=DR F0 b
  .rw[ln a,ln a]
  .rw[li a,li a]
def Tm{f:pM Dy}{m g:pM A4}(hF:F2 RX f m)(x:g.map A4.erase=m.map A4.erase){r:Int×Int}{e d:Int}(b:iF s f r)(a:DN s g e d):r=(e,d):=by
 unfold iF at b;unfold DN at a;by_cases k:300<s.size
 .rw[ln k]at b a;rw[b,a.1,a.2]
 .rw[li k]at b a;have c:=W6 s;cases hal:FE (Dl s)with
  |error p=>
   rw[hal]at b c;rw[ln c.1]at a;rw[b,a.1,a.2,c.2]
  |ok ls=>
   rw[hal]at b c;obtain⟨y,z,i⟩:=c;obtain⟨v,_⟩:=Q9 (by omega) hal;rw[li (by rw[y];rintro (h|h);cases h;exact z h)]at a;(have B:Z ls=Z (Bj s 0).1:=by rw[i,lm]);simp only at b;by_cases j:3<Z ls
   .rw[ln j]at b;rw[ln (by omega)]at a;rw[b,a.1,a.2]
   .rw[li j]at b;rw[li (by omega)]at a;obtain⟨C,l,t,w⟩:=b;obtain⟨A,o,n⟩:=a;rw[w,n];refine iE hF x (Z6 (by rw[l,o,i]) (λp u=>v p.1 (by rw[<-l];exact lB u)) t)
def UB(g:s.size<=300){b:pM A4}(f:b.map A4.erase=(An s (Ae s 0)).1){x:zA}(a:x∈consts b):x.size<=300:=by
 unfold consts at a;obtain⟨c,e,a⟩:=ma.1 a;obtain⟨t,d,rfl⟩:=lk.1 a;have h:=(GI s (Ae s 0) c.erase (by rw[<-f];exact lB e)).1.2 t (lK.1 d).1;omega
def iW(E:s.size<=300){o:pM Dy}(I:c.map A4.erase=(An s (Ae s 0)).1)(n:M9 o c){d:pM Lz}(G:FE (Dl t)=.ok (d.map pH))(A:∀p∈d,Hb p.1)(L:Z d<=3)(C:∀p∈d,lenOf p.2=Z p.1.ts)(z:qR o d=(0,0)):
  d.map pH=(Bj t 0).1.map LU/\∀u,(∀f∈u,D0 c f)->ZX (Bj t 0).1 u/\fW (Bf (Bj t 0).1) (Aw (Jc (Bj t 0).1 u) (Bj t 0).1 u (Bf (Bj t 0).1) Bk):=by
 have y:=W6 t;rw[G]at y;obtain⟨F,M,j⟩:=y;refine⟨j,λu k=>?_⟩;obtain⟨bl,h⟩:∃bl:pM Ba,bl.map pH=(Bj t 0).1:=⟨(Bj t 0).1.map λx=>(x,U none 0 0),by rw[mq];exact List.map_id' _⟩;have B:=Z6 (bl:=bl) (by rw[h];exact j) A C;have r:KP c bl=(0,0):=by rw[<-iE n.zv rfl B];exact z
 have H:Z bl<=3:=by
  have b:=congrArg List.length j;have i:=congrArg List.length h;simp at b i;omega
 have a:=R5 n.pass k r (by rw[h];exact MA F);have l:=Qu r H;rw[h]at a l;refine⟨a,⟨?_,λx w v g=>?_,GN _ _ rfl,λv g=>(a.vars v g).1,l⟩⟩
 .have b:=WE n.pass k a l _ (λe m=>m);rw[WJ a,lm]at b;exact b
 .refine⟨a.zx w v g,?_⟩;obtain⟨e,m,D⟩:=QI a w;have b:Nk e v=Nk x v:=by
   have i:=List.map_inj_left.1 D v g;exact i
  rw[<-b];have:=UB E I (My k a m v g);omega
def NE(s q:zA)(r:Int×Int):Prop:=
 ∃r1,Ex s (iY s) r1/\((r1.1≠0/\r=r1)\/(r1.1=0/\∃(pcs:pM Dy) (rcs:pM A4),F2 RX pcs rcs/\rcs.map A4.erase=(An s (Ae s 0)).1/\iF q pcs r))
def fM(s q t:zA)(er:Int):Prop:=
 (er≠0->t=pF)/\
 (er=0->∃(rcs:pM A4) (L:zA->Nat) (n:Nat) (u:pM Af),rcs.map A4.erase=(An s (Ae s 0)).1/\CR rcs L/\GF rcs L n u/\(∀c∈rcs,L c.head.name<n)/\
  t=FK (Bf (Bj q 0).1) pF ((Aw (Jc (Bj q 0).1 u) (Bj q 0).1 u (Bf (Bj q 0).1) Bk).map (FI (Bf (Bj q 0).1))))
def iF.zero(h:iF s p (0,I)):I=0:=by
 unfold iF at h;split at h
 .exact absurd (congrArg pH h) (by simp)
 .split at h
  .exact absurd (congrArg pH h) (by simp)
  .split at h
   .exact absurd (congrArg pH h) (by simp)
   .obtain⟨b,_,_,h⟩:=h;unfold qR at h;split at h
    .exact absurd (congrArg pH h) (by simp)
    .split at h
     .exact absurd (congrArg pH h) (by simp)
     .exact congrArg Prod.snd h
def NE.zero{s q:zA}{a:Int}(h:NE s q (0,a)):a=0:=by
 obtain⟨d,_,h|⟨_,b,c,_,_,h⟩⟩:=h
 .exact absurd (by rw[<-h.2]) h.1
 .exact h.zero
set_option maxRecDepth 100000
theorem Xu(s q:zA)(w:World)(B0:s.size<=9223372036854775807)(H:q.size<=9223372036854775807):
  Calls prog 24 #[O s,O q] w λe x=>∃(t:zA) (r:Int×Int),e=.returned (.tuple #[O t,.int .i64 r.1,.int .i64 r.2])/\NE s q r/\fM s q t r.1/\Ac [] w x:=by
 have AB:=Ab (LY s (iY s) w B0 (λp cs z d A=>Me p z A));go_enter func24,ntmps24;go_wp2_with fail
 refine(Aa AB).mono ?_;rintro _ T ⟨I,n,P,⟨g,v⟩,rfl,BA,Ax,S⟩;have o:=Ab BA;have E:=Ab Ax;have AT:=Ab S;clear AB BA Ax S;by_cases b:g=0
 .subst b;obtain⟨p,cs,d,z,A,rfl,C⟩:=Aa E rfl;obtain⟨hr,Q,y,l⟩:=OY p z A C (Aa o) rfl;have CC:((0:Int) !=0)=false:=rfl;have F:=Ab (bY q I P d T H C (λc hc=>(l.fit hc).pc.lits) (by have:=l.len;omega));have D:Hid (∀r,iF q d r->NE s q r):=λr h=>⟨(0,v),Aa o,Or.inr ⟨rfl,d,Q,l.zv,y,h⟩⟩
  have N:Hid (∀(i:Option Addr) (j f:Nat) (r:Int×Int) (a:World),Ac [] T a->fU q d a (U i j f) j r->r.1=0->Calls prog 52 #[U I (Z d) P,U i j f] a λe x=>∃t,e=.returned (O t)/\fM s q t 0/\Ac [] a x):=by
   intro i j f r a hk hl b;obtain⟨Go,FB,FC,hg,h3,rfl,CL,EK,H⟩:=hl b;obtain⟨e1,k⟩:=iW p y l FC hg h3 EK H;refine(Wk I P d Q i f FB _ a (C.kept hk) l ⟨CL,e1,hg,h3⟩ k).mono ?_;rintro e x ⟨t,u,L,n,rfl,g1,g2,g3,g4,g5⟩;exact⟨t,rfl,⟨λh=>absurd rfl h,λ_=>⟨Q,L,n,u,y,g1,g2,g3,g4⟩⟩,g5⟩
  clear p z A C hr y l E o;go_wp2_with fail
  refine(Aa F).mono ?_;rintro _ a ⟨i,j,f,⟨k,a2⟩,rfl,M,R,B⟩;have W:=Ab (Aa D _ M);have A1:=Ab ((Aa AT).trans B);by_cases m:k=0
  .have Bx:=Ab (Aa N i j f _ a B R m);subst m;clear F D N M R B;(go_wp2_with fail);refine(Aa Bx).mono ?_;rintro _ w3 ⟨t,rfl,hA,k3⟩;have BS:=Ab hA;have FF:=Ab ((Aa A1).trans k3);clear Bx hA k3;(go_wp2_with fail);go_ret3;exact⟨t,(0,0),rfl,by have h:=Aa W;rw[h.zero]at h;exact h,Aa BS,Aa FF⟩
  ·(have FW:(k !=0)=true:=by simp[m]);have G:Hid (fM s q pF k):=⟨λ_=>rfl,λh=>absurd h m⟩;clear m F D N M R B;(go_wp2_with fail);go_ret3;exact⟨pF,(k,a2),rfl,Aa W,Aa G,Aa A1⟩
 .have CC:(g !=0)=true:=by simp[b]
  have G:Hid (fM s q pF g):=⟨λ_=>rfl,λh=>absurd h b⟩;have HI:Hid (NE s q (g,v)):=⟨(g,v),Aa o,Or.inl ⟨b,rfl⟩⟩;clear b E o;go_wp2_with fail
  go_ret3;exact⟨pF,(g,v),rfl,Aa HI,Aa G,Aa AT⟩
