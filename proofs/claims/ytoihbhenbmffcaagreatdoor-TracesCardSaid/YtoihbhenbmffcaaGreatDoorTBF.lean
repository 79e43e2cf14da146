import Derived.Test.YtoihbhenbmffcaaGreatDoorTAX
import Derived.Test.YtoihbhenbmffcaaGreatDoorTBD
set_option linter.all false
set_option maxHeartbeats 0
open List renaming length->Z
open Go.Value renaming slice->U,string->O
open ByteArray renaming empty->q9
open Prod renaming fst->qW
namespace Go.Proofs.YtoihbhenbmffcaaGreatDoor
open Go.RowKit Go.Proofs.Tryz
variable{s t:zA}{c:rc AV}{p:rc CU}{I:Int}
def Z1(c:Ca):rc lS:=((c.head.at_:Int),c.head.name,Z c.head.args)::(c.body.filter λx=>x.kind==97||x.kind==33).map λx=>((x.A.at_:Int),x.A.name,Z x.A.args)
def Vr(r:AV):Fs r=Z1 r.erase:=by
 unfold Fs Z1 AV.erase;simp only;rw[List.filter_map,nN];rfl
def WH{d b:rc AV}(h:d.map AV.erase=b.map AV.erase):FN d=FN b:=by
 have e:∀l:rc AV,FN l=(l.map AV.erase).flatMap λc=>(Z1 c).map λa=>a.2:=by
  intro l;unfold FN;rw[List.flatMap_map]
  congr 1
  funext r
  rw[Vr]
 rw[e,e,h]
def aS{b:rc Mk}{bl:rc Bb}(c:b.map qW=(bl.map qW).map MA)(f:∀p∈b,Hw p.1)(d:∀p∈b,lenOf p.2=Z p.1.ts):F2 Uy b bl:=by
 rw[nN]at c;refine(F2.of_map c).mono (λp a q _ e=>?_);have e:p.1=MA q.1:=e;refine⟨e,?_,λg=>?_⟩
 .rw[d p a,e];show Z (q.1.A.args.map ct)=_;rw[mI]
 .have a:=(f p a).plain (by rw[e,I4];exact g);rw[e]at a;have a:q.1.A.args.map ct=[]:=a;exact List.map_eq_nil_iff.1 a
def j7{f:rc CU}{c e:rc AV}(hF:F2 Qy f c)(i:e.map AV.erase=c.map AV.erase){d:rc Mk}{g:rc Bb}(h:F2 Uy d g):
  kn f (AU d)=(g.find? (QI e)).map λq=>(q.1.A.at_:Int):=by
 unfold kn AU;rw[List.find?_map,List.find?_filter,Option.map_map];refine F2.find (λp q b=>⟨?_,?_⟩) h
 .simp only[Function.comp];unfold QI;rw[b.atom];cases hi:MP q with
  |false=>rfl
  |true=>
   simp only[true_and,Bool.decide_eq_true,oy];unfold Ta;simp only;(have j:p.1.an=q.1.A.name:=by rw[b.eq];rfl);rw[b.len,j,SA hF,Mh,WH i];unfold PS;cases hf:(FN c).find? (jX q.1.A.name)with
   |none=>simp
   |some a=>
    simp;rw[Bool.or_comm]
    congr 1
    rw[nT];simp;omega
 .simp only[Function.comp];rw[b.eq];rfl
def kh{a:rc Mk}{b:rc Bb}(h:F2 Uy a b):(a.find? λp=>(AS p.1).any (DJ a)).map (λp=>p.1.place)=if 0<=Ee Gj b then some (Ee Gj b)else none:=by
 have c:Qy ⟨0,q9,[],U none 0 0,U none 0 0,a⟩ ⟨Gj,U none 0 0,U none 0 0,b,0⟩:=⟨rfl,rfl,rfl,h,rfl,rfl⟩;have:=c.yi;unfold IQ at this;simp only[List.any_nil,mC,if_false]at this;exact this
def jJ{e:rc CU}{f c:rc AV}(hF:F2 Qy e f)(g:c.map AV.erase=f.map AV.erase){d:rc Mk}{b:rc Bb}(h:F2 Uy d b):qR e d=LI c b:=by
 unfold qR LI;rw[j7 hF g h,kh h];cases hf:b.find? (QI c)with
 |some p=>rfl
 |none=>
  simp only[Option.map_none];by_cases a:0<=Ee Gj b
  .rw[mK a,mK a]
  .rw[mJ a,mJ a]
def TZ{f:rc CU}{m g:rc AV}(hF:F2 Qy f m)(x:g.map AV.erase=m.map AV.erase){r:Int×Int}{e d:Int}(b:jK s f r)(a:D5 s g e d):r=(e,d):=by
 unfold jK at b;unfold D5 at a;by_cases k:300<s.size
 .rw[mK k]at b a;rw[b,a.1,a.2]
 .rw[mJ k]at b a;have c:=XG s;cases hal:F6 (DH s)with
  |error p=>
   rw[hal]at b c;rw[mK c.1]at a;rw[b,a.1,a.2,c.2]
  |ok ls=>
   rw[hal]at b c;obtain⟨y,z,i⟩:=c;obtain⟨v,_⟩:=RN (by omega) hal;rw[mJ (by rw[y];rintro (h|h);cases h;exact z h)]at a;(have B:Z ls=Z (Bg s 0).1:=by rw[i,mI]);simp only at b;by_cases j:3<Z ls
   .rw[mK j]at b;rw[mK (by omega)]at a;rw[b,a.1,a.2]
   .rw[mJ j]at b;rw[mJ (by omega)]at a;obtain⟨C,l,t,w⟩:=b;obtain⟨A,o,n⟩:=a;rw[w,n];refine jJ hF x (aS (by rw[l,o,i]) (λp u=>v p.1 (by rw[<-l];exact mR u)) t)
def U8(g:s.size<=300){b:rc AV}(f:b.map AV.erase=(Aj s (Ae s 0)).1){x:zA}(a:x∈consts b):x.size<=300:=by
 unfold consts at a;obtain⟨c,e,a⟩:=m6.1 a;obtain⟨t,d,rfl⟩:=mD.1 a;have h:=(FY s (Ae s 0) c.erase (by rw[<-f];exact mR e)).1.2 t (mT.1 d).1;omega
def j6(E:s.size<=300){o:rc CU}(I:c.map AV.erase=(Aj s (Ae s 0)).1)(n:Im o c){d:rc Mk}(G:F6 (DH t)=.ok (d.map qW))(A:∀p∈d,Hw p.1)(L:Z d<=3)(C:∀p∈d,lenOf p.2=Z p.1.ts)(z:qR o d=(0,0)):
  d.map qW=(Bg t 0).1.map MA/\∀u,(∀f∈u,Dw c f)->aK (Bg t 0).1 u/\io (Bf (Bg t 0).1) (Aw (JN (Bg t 0).1 u) (Bg t 0).1 u (Bf (Bg t 0).1) Bl):=by
 have y:=XG t;rw[G]at y;obtain⟨F,M,j⟩:=y;refine⟨j,λu k=>?_⟩;obtain⟨bl,h⟩:∃bl:rc Bb,bl.map qW=(Bg t 0).1:=⟨(Bg t 0).1.map λx=>(x,U none 0 0),by rw[nN];exact List.map_id' _⟩;have B:=aS (bl:=bl) (by rw[h];exact j) A C;have r:LI c bl=(0,0):=by rw[<-jJ n.zl rfl B];exact z
 have H:Z bl<=3:=by
  have b:=congrArg List.length j;have i:=congrArg List.length h;simp at b i;omega
 have a:=SE n.pass k r (by rw[h];exact Ns F);have l:=Q9 r H;rw[h]at a l;refine⟨a,⟨?_,λx w v g=>?_,G5 _ _ rfl,λv g=>(a.vars v g).1,l⟩⟩
 .have b:=Xf n.pass k a l _ (λe m=>m);rw[Xo a,mI]at b;exact b
 .refine⟨a.z8 w v g,?_⟩;obtain⟨e,m,D⟩:=Rp a w;have b:N8 e v=N8 x v:=by
   have i:=List.map_inj_left.1 D v g;exact i
  rw[<-b];have:=U8 E I (No k a m v g);omega
def Ou(s q:zA)(r:Int×Int):Prop:=
 ∃r1,El s (jw s) r1/\((r1.1≠0/\r=r1)\/(r1.1=0/\∃(pcs:rc CU) (rcs:rc AV),F2 Qy pcs rcs/\rcs.map AV.erase=(Aj s (Ae s 0)).1/\jK q pcs r))
def ia(s q t:zA)(er:Int):Prop:=
 (er≠0->t=q9)/\
 (er=0->∃(rcs:rc AV) (L:zA->Nat) (n:Nat) (u:rc Af),rcs.map AV.erase=(Aj s (Ae s 0)).1/\CG rcs L/\Hm rcs L n u/\(∀c∈rcs,L c.head.name<n)/\
  t=Ge (Bf (Bg q 0).1) q9 ((Aw (JN (Bg q 0).1 u) (Bg q 0).1 u (Bf (Bg q 0).1) Bl).map (Gc (Bf (Bg q 0).1))))
def jK.zero(h:jK s p (0,I)):I=0:=by
 unfold jK at h;split at h
 .exact absurd (congrArg qW h) (by simp)
 .split at h
  .exact absurd (congrArg qW h) (by simp)
  .split at h
   .exact absurd (congrArg qW h) (by simp)
   .obtain⟨b,_,_,h⟩:=h;unfold qR at h;split at h
    .exact absurd (congrArg qW h) (by simp)
    .split at h
     .exact absurd (congrArg qW h) (by simp)
     .exact congrArg Prod.snd h
def Ou.zero{s q:zA}{a:Int}(h:Ou s q (0,a)):a=0:=by
 obtain⟨d,_,h|⟨_,b,c,_,_,h⟩⟩:=h
 .exact absurd (by rw[<-h.2]) h.1
 .exact h.zero
set_option maxRecDepth 100000
theorem fZ(s q:zA)(w:World)(BT:s.size<=9223372036854775807)(H:q.size<=9223372036854775807):
  Calls prog 24 #[O s,O q] w λe x=>∃(t:zA) (r:Int×Int),e=.returned (.tuple #[O t,.int .i64 r.1,.int .i64 r.2])/\Ou s q r/\ia s q t r.1/\Ac [] w x:=by
 have AB:=Ab (J2 s (jw s) w BT (λp cs z d A=>Le p z A));go_enter func24,ntmps24;go_wp2_with fail
 refine(Aa AB).mono ?_;rintro _ T ⟨I,n,P,⟨g,v⟩,rfl,Bx,Ax,S⟩;have o:=Ab Bx;have E:=Ab Ax;have AR:=Ab S;clear AB Bx Ax S;by_cases b:g=0
 .subst b;obtain⟨p,cs,d,z,A,rfl,C⟩:=Aa E rfl;obtain⟨hr,Q,y,l⟩:=My p z A C (Aa o) rfl;have B9:((0:Int) !=0)=false:=rfl;have F:=Ab (da q I P d T H C (λc hc=>(l.fit hc).pc.lits) (by have:=l.len;omega));have D:Hid (∀r,jK q d r->Ou s q r):=λr h=>⟨(0,v),Aa o,Or.inr ⟨rfl,d,Q,l.zl,y,h⟩⟩
  have N:Hid (∀(i:Option Addr) (j f:Nat) (r:Int×Int) (a:World),Ac [] T a->ik q d a (U i j f) j r->r.1=0->Calls prog 52 #[U I (Z d) P,U i j f] a λe x=>∃t,e=.returned (O t)/\ia s q t 0/\Ac [] a x):=by
   intro i j f r a hk hl b;obtain⟨FT,E0,FA,hg,h3,rfl,CC,CW,H⟩:=hl b;obtain⟨e1,k⟩:=j6 p y l FA hg h3 CW H;refine(WN I P d Q i f E0 _ a (C.kept hk) l ⟨CC,e1,hg,h3⟩ k).mono ?_;rintro e x ⟨t,u,L,n,rfl,g1,g2,g3,g4,g5⟩;exact⟨t,rfl,⟨λh=>absurd rfl h,λ_=>⟨Q,L,n,u,y,g1,g2,g3,g4⟩⟩,g5⟩
  clear p z A C hr y l E o;go_wp2_with fail
  refine(Aa F).mono ?_;rintro _ a ⟨i,j,f,⟨k,a2⟩,rfl,M,R,B⟩;have W:=Ab (Aa D _ M);have A0:=Ab ((Aa AR).trans B);by_cases m:k=0
  .have A2:=Ab (Aa N i j f _ a B R m);subst m;clear F D N M R B;(go_wp2_with fail);refine(Aa A2).mono ?_;rintro _ w3 ⟨t,rfl,hA,k3⟩;have BA:=Ab hA;have FB:=Ab ((Aa A0).trans k3);clear A2 hA k3;(go_wp2_with fail);go_ret3;exact⟨t,(0,0),rfl,by have h:=Aa W;rw[h.zero]at h;exact h,Aa BA,Aa FB⟩
  ·(have FP:(k !=0)=true:=by simp[m]);have G:Hid (ia s q q9 k):=⟨λ_=>rfl,λh=>absurd h m⟩;clear m F D N M R B;(go_wp2_with fail);go_ret3;exact⟨q9,(k,a2),rfl,Aa W,Aa G,Aa A0⟩
 .have B9:(g !=0)=true:=by simp[b]
  have G:Hid (ia s q q9 g):=⟨λ_=>rfl,λh=>absurd h b⟩;have HI:Hid (Ou s q (g,v)):=⟨(g,v),Aa o,Or.inl ⟨b,rfl⟩⟩;clear b E o;go_wp2_with fail
  go_ret3;exact⟨q9,(g,v),rfl,Aa HI,Aa G,Aa AR⟩
