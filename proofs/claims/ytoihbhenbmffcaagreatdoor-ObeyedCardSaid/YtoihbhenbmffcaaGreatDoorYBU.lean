import Derived.Test.YtoihbhenbmffcaaGreatDoorYBN
import Derived.Test.YtoihbhenbmffcaaGreatDoorYBT
set_option linter.all false
set_option maxHeartbeats 0
open List renaming length->Z
open Go.Value renaming slice->U,string->O
open ByteArray renaming empty->lU
open Prod renaming fst->lW
namespace Go.Proofs.YtoihbhenbmffcaaGreatDoor
open Go.RowKit Go.Proofs.Tryz
def Xt(c:Ck):mc fZ:=((c.head.at_:Int),c.head.name,Z c.head.args)::(c.body.filter λx=>x.kind==97||x.kind==33).map λx=>((x.A.at_:Int),x.A.name,Z x.A.args)
def S9(r:A6):EG r=Xt r.erase:=by
 unfold EG Xt A6.erase;simp only;rw[List.filter_map,iX];rfl
def Ur{cs ds:mc A6}(h:cs.map A6.erase=ds.map A6.erase):Fg cs=Fg ds:=by
 have e:∀l:mc A6,Fg l=(l.map A6.erase).flatMap λc=>(Xt c).map λa=>a.2:=by
  intro l;unfold Fg;rw[List.flatMap_map]
  congr 1
  funext r
  rw[S9]
 rw[e,e,h]
def X9{b:mc Ks}{bl:mc Bj}(c:b.map lW=(bl.map lW).map KF)(f:∀p∈b,GC p.1)(d:∀p∈b,lenOf p.2=Z p.1.ts):F2 Sg b bl:=by
 rw[iX]at c;refine(F2.of_map c).mono (λp a q _ e=>?_);have e:p.1=KF q.1:=e;refine⟨e,?_,λg=>?_⟩
 .rw[d p a,e];show Z (q.1.A.args.map ct)=_;rw[ie]
 .have a:=(f p a).plain (by rw[e,Hf];exact g);rw[e]at a;have a:q.1.A.args.map ct=[]:=a;exact List.map_eq_nil_iff.1 a
def eQ{e:mc Db}{c cs:mc A6}(hF:F2 QH e c)(f:cs.map A6.erase=c.map A6.erase){d:mc Ks}{bl:mc Bj}(h:F2 Sg d bl):
  fb e (AN d)=(bl.find? (Wi cs)).map λq=>(q.1.A.at_:Int):=by
 unfold fb AN;rw[List.find?_map,List.find?_filter,Option.map_map];refine F2.find (λp q b=>⟨?_,?_⟩) h
 .simp only[Function.comp];unfold Wi;rw[b.atom];cases hi:MT q with
  |false=>rfl
  |true=>
   simp only[true_and,Bool.decide_eq_true,jq];unfold QY;simp only;(have g:p.1.an=q.1.A.name:=by rw[b.eq];rfl);rw[b.len,g,Vy hF,M5,Ur f];unfold OD;cases hf:(Fg c).find? (fh q.1.A.name)with
   |none=>simp
   |some a=>
    simp;rw[Bool.or_comm]
    congr 1
    rw[jl];simp;omega
 .simp only[Function.comp];rw[b.eq];rfl
def eW{a:mc Ks}{bl:mc Bj}(h:F2 Sg a bl):(a.find? λp=>(AL p.1).any (CV a)).map (λp=>p.1.place)=if 0<=D5 JK bl then some (D5 JK bl)else none:=by
 have b:QH ⟨0,lU,[],U none 0 0,U none 0 0,a⟩ ⟨JK,U none 0 0,U none 0 0,bl,0⟩:=⟨rfl,rfl,rfl,h,rfl,rfl⟩;have:=b.yZ;unfold G2 at this;simp only[List.any_nil,gO,if_false]at this;exact this
def ex{c:mc Db}{d cs:mc A6}(hF:F2 QH c d)(e:cs.map A6.erase=d.map A6.erase){b:mc Ks}{bl:mc Bj}(h:F2 Sg b bl):qR c b=Vt cs bl:=by
 unfold qR Vt;rw[eQ hF e h,eW h];cases hf:bl.find? (Wi cs)with
 |some p=>rfl
 |none=>
  simp only[Option.map_none];by_cases a:0<=D5 JK bl
  .rw[gY a,gY a]
  .rw[gV a,gV a]
def YS{q:zA}{e:mc Db}{k cs:mc A6}(hF:F2 QH e k)(u:cs.map A6.erase=k.map A6.erase){r:Int×Int}{d at_:Int}(b:ey q e r)(a:OZ q cs d at_):r=(d,at_):=by
 unfold ey at b;unfold OZ at a;by_cases i:300<q.size
 .rw[gY i]at b a;rw[b,a.1,a.2]
 .rw[gV i]at b a;have c:=Vg q;cases hal:Fc (C4 q)with
  |error p=>
   rw[hal]at b c;rw[gY c.1]at a;rw[b,a.1,a.2,c.2]
  |ok ls=>
   rw[hal]at b c;obtain⟨v,w,f⟩:=c;obtain⟨s,_⟩:=PO (by omega) hal;rw[gV (by rw[v];rintro (h|h);cases h;exact w h)]at a;(have y:Z ls=Z (Bl q 0).1:=by rw[f,ie]);simp only at b;by_cases g:3<Z ls
   .rw[gY g]at b;rw[gY (by omega)]at a;rw[b,a.1,a.2]
   .rw[gV g]at b;rw[gV (by omega)]at a;obtain⟨z,j,n,t⟩:=b;obtain⟨x,m,l⟩:=a;rw[t,l];refine ex hF u (X9 (by rw[j,m,f]) (λp o=>s p.1 (by rw[<-j];exact it o)) n)
def SQ{s:zA}(g:s.size<=300){b:mc A6}(d:b.map A6.erase=(Ap s (Ae s 0)).1){x:zA}(a:x∈consts b):x.size<=300:=by
 unfold consts at a;obtain⟨c,f,a⟩:=iI.1 a;obtain⟨t,e,rfl⟩:=gX.1 a;have h:=(F8 s (Ae s 0) c.erase (by rw[<-d];exact it f)).1.2 t (ir.1 e).1;omega
def eP{s q:zA}(D:s.size<=300){o:mc Db}{h:mc A6}(H:h.map A6.erase=(Ap s (Ae s 0)).1)(n:LW o h){c:mc Ks}(F:Fc (C4 q)=.ok (c.map lW))(z:∀p∈c,GC p.1)(I:Z c<=3)(B:∀p∈c,lenOf p.2=Z p.1.ts)(y:qR o c=(0,0)):
  c.map lW=(Bl q 0).1.map KF/\∀u,(∀f∈u,DP h f)->aj (Bl q 0).1 u/\da (Bk (Bl q 0).1) (Av (Im (Bl q 0).1 u) (Bl q 0).1 u (Bk (Bl q 0).1) Bs):=by
 have w:=Vg q;rw[F]at w;obtain⟨E,L,j⟩:=w;refine⟨j,λu k=>?_⟩;obtain⟨bl,g⟩:∃bl:mc Bj,bl.map lW=(Bl q 0).1:=⟨(Bl q 0).1.map λx=>(x,U none 0 0),by rw[iX];exact List.map_id' _⟩;have A:=X9 (bl:=bl) (by rw[g];exact j) z B;have r:Vt h bl=(0,0):=by rw[<-ex n.zs rfl A];exact y
 have G:Z bl<=3:=by
  have b:=congrArg List.length j;have i:=congrArg List.length g;simp at b i;omega
 have a:=bY n.pass k r (by rw[g];exact Pd E);have l:=V1 r G;rw[g]at a l;refine⟨a,⟨?_,λx t v d=>?_,Gd _ _ rfl,λv d=>(a.vars v d).1,l⟩⟩
 .have b:=aA n.pass k a l _ (λe m=>m);rw[aN a,ie]at b;exact b
 .refine⟨a.zv t v d,?_⟩;obtain⟨e,m,C⟩:=Pp a t;have b:OI e v=OI x v:=by
   have i:=List.map_inj_left.1 C v d;exact i
  rw[<-b];have:=SQ D H (OY k a m v d);omega
def Oq(s q:zA)(r:Int×Int):Prop:=
 ∃r1,ED s (fo s) r1/\((r1.1≠0/\r=r1)\/(r1.1=0/\∃(pcs:mc Db) (rcs:mc A6),F2 QH pcs rcs/\rcs.map A6.erase=(Ap s (Ae s 0)).1/\ey q pcs r))
def d9(s q t:zA)(er:Int):Prop:=
 (er≠0->t=lU)/\
 (er=0->∃(rcs:mc A6) (L:zA->Nat) (n:Nat) (u:mc Af),rcs.map A6.erase=(Ap s (Ae s 0)).1/\Cn rcs L/\Il rcs L n u/\(∀c∈rcs,L c.head.name<n)/\
  t=I7 (Bk (Bl q 0).1) lU ((Av (Im (Bl q 0).1 u) (Bl q 0).1 u (Bk (Bl q 0).1) Bs).map (Gs (Bk (Bl q 0).1))))
def ey.zero{q:zA}{b:mc Db}{a:Int}(h:ey q b (0,a)):a=0:=by
 unfold ey at h;split at h
 .exact absurd (congrArg lW h) (by simp)
 .split at h
  .exact absurd (congrArg lW h) (by simp)
  .split at h
   .exact absurd (congrArg lW h) (by simp)
   .obtain⟨c,_,_,h⟩:=h;unfold qR at h;split at h
    .exact absurd (congrArg lW h) (by simp)
    .split at h
     .exact absurd (congrArg lW h) (by simp)
     .exact congrArg Prod.snd h
def Oq.zero{s q:zA}{a:Int}(h:Oq s q (0,a)):a=0:=by
 obtain⟨d,_,h|⟨_,b,c,_,_,h⟩⟩:=h
 .exact absurd (by rw[<-h.2]) h.1
 .exact h.zero
set_option maxRecDepth 100000
theorem bX(s q:zA)(w:World)(B9:s.size<=9223372036854775807)(H:q.size<=9223372036854775807):
  Calls prog 24 #[O s,O q] w λe x=>∃(t:zA) (r:Int×Int),e=.returned (.tuple #[O t,.int .i64 r.1,.int .i64 r.2])/\Oq s q r/\d9 s q t r.1/\Ac [] w x:=by
 have AO:=Ab (Nz s (fo s) w B9 (λp cs z d A=>MJ p z A));go_enter func24,ntmps24;go_wp2_with fail
 refine(Aa AO).mono ?_;rintro _ T ⟨I,n,P,⟨g,v⟩,rfl,BT,Ax,S⟩;have o:=Ab BT;have E:=Ab Ax;have A1:=Ab S;clear AO BT Ax S;by_cases b:g=0
 .subst b;obtain⟨p,cs,d,z,A,rfl,C⟩:=Aa E rfl;obtain⟨hr,Q,y,l⟩:=Np p z A C (Aa o) rfl;have DT:((0:Int) !=0)=false:=rfl;have F:=Ab (Zp q I P d T H C (λc hc=>(l.fit hc).pc.lits) (by have:=l.len;omega));have D:Hid (∀r,ey q d r->Oq s q r):=λr h=>⟨(0,v),Aa o,Or.inr ⟨rfl,d,Q,l.zs,y,h⟩⟩
  have N:Hid (∀(i:Option Addr) (j f:Nat) (r:Int×Int) (a:World),Ac [] T a->cY q d a (U i j f) j r->r.1=0->Calls prog 52 #[U I (Z d) P,U i j f] a λe x=>∃t,e=.returned (O t)/\d9 s q t 0/\Ac [] a x):=by
   intro i j f r a hk hl b;obtain⟨HD,FO,FP,hg,h3,rfl,EK,EX,H⟩:=hl b;obtain⟨e1,k⟩:=eP p y l FP hg h3 EX H;refine(Ux I P d Q i f FO _ a (C.kept hk) l ⟨EK,e1,hg,h3⟩ k).mono ?_;rintro e x ⟨t,u,L,n,rfl,g1,g2,g3,g4,g5⟩;exact⟨t,rfl,⟨λh=>absurd rfl h,λ_=>⟨Q,L,n,u,y,g1,g2,g3,g4⟩⟩,g5⟩
  clear p z A C hr y l E o;go_wp2_with fail
  refine(Aa F).mono ?_;rintro _ a ⟨i,j,f,⟨k,a2⟩,rfl,M,R,B⟩;have W:=Ab (Aa D _ M);have Bx:=Ab ((Aa A1).trans B);by_cases m:k=0
  .have BS:=Ab (Aa N i j f _ a B R m);subst m;clear F D N M R B;(go_wp2_with fail);refine(Aa BS).mono ?_;rintro _ w3 ⟨t,rfl,hA,k3⟩;have B0:=Ab hA;have FT:=Ab ((Aa Bx).trans k3);clear BS hA k3;(go_wp2_with fail);go_ret3;exact⟨t,(0,0),rfl,by have h:=Aa W;rw[h.zero]at h;exact h,Aa B0,Aa FT⟩
  ·(have HC:(k !=0)=true:=by simp[m]);have G:Hid (d9 s q lU k):=⟨λ_=>rfl,λh=>absurd h m⟩;clear m F D N M R B;(go_wp2_with fail);go_ret3;exact⟨lU,(k,a2),rfl,Aa W,Aa G,Aa Bx⟩
 .have DT:(g !=0)=true:=by simp[b]
  have G:Hid (d9 s q lU g):=⟨λ_=>rfl,λh=>absurd h b⟩;have HI:Hid (Oq s q (g,v)):=⟨(g,v),Aa o,Or.inl ⟨b,rfl⟩⟩;clear b E o;go_wp2_with fail
  go_ret3;exact⟨lU,(g,v),rfl,Aa HI,Aa G,Aa A1⟩
