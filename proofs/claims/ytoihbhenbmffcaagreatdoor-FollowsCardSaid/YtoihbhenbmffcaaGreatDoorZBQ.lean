import Derived.Test.YtoihbhenbmffcaaGreatDoorZBF
import Derived.Test.YtoihbhenbmffcaaGreatDoorZBP
set_option linter.unusedVariables false
set_option linter.unusedSimpArgs false
set_option maxHeartbeats 6400000
namespace Go.Proofs.YtoihbhenbmffcaaGreatDoor
open Go.RowKit
open Go.Proofs.Tryz
theorem R5(s:cL)(at_:Nat)(a:Bool):(AA s at_ a).1.s.size<=s.size:=by
 unfold AA;split
 ·exact aG _
 ·split
  ·split
   ·exact aG _
   ·split
    ·exact JU _ _ _
    ·split
     ·exact aG _
     ·show(ByteArray.extract _ _ _).size<=_;rw[cK];omega
  ·exact aG _
theorem XF(s:cL)(at_:Nat):∀t∈(De s at_).1,t.s.size<=s.size:=by
 fun_induction De s at_ with
 |case1 at_ hc _ _ ih=>
  intro t a;rcases aj.1 a with rfl|a
  ·exact R5 _ _ _
  ·exact ih t a
 |case2 at_ hc=>
  intro t a;rw[ae]at a;subst a;exact R5 _ _ _
def ZT(s:cL)(A:CQ):Prop:=A.name.size<=s.size/\∀t∈A.args,t.s.size<=s.size
theorem Of(s:cL)(at_:Nat)(b:Bool):ZT s (A4 s at_ b).1:=by
 unfold A4;refine⟨JU _ _ _,?_⟩;show∀t∈(Ek s _).1,_;unfold Ek;split
 ·intro t a;cases a
 ·exact XF _ _
theorem Px(s:cL):ZT s CI:=⟨aG _,λt a=>by cases a⟩
theorem UA(s:cL)(at_:Nat):ZT s (CU s at_).1.A:=by
 unfold CU;simp only;split
 ·exact Of _ _ _
 ·split
  ·exact Of _ _ _
  ·unfold Ke;split
   ·exact Px s
   ·exact Px s
theorem XA(s:cL)(at_:Nat):∀x∈(CJ s at_).1,ZT s x.A:=by
 fun_induction CJ s at_ with
 |case1 at_ hc _ _ ih=>
  intro t a;rcases aj.1 a with rfl|a
  ·exact UA _ _
  ·exact ih t a
 |case2 at_ hc=>
  intro t a;rw[ae]at a;subst a;exact UA _ _
def Z2(s:cL)(c:Cm):Prop:=ZT s c.head/\∀x∈c.body,ZT s x.A
theorem Nm(s:cL)(at_:Nat):Z2 s (AQ s at_).1:=by
 unfold AQ;refine⟨Of _ _ _,?_⟩;show∀x∈(Db s _ _).1,_;unfold Db;split
 ·split
  ·exact XA _ _
  ·intro x a;cases a
 ·intro x a;cases a
theorem IP(s:cL)(at_:Nat):∀c∈(Au s at_).1,Z2 s c:=by
 fun_induction Au s at_ with
 |case1 at_ ha hc ih=>
  intro c a;rcases aj.1 a with rfl|a
  ·exact Nm _ _
  ·exact ih c a
 |case2 at_ ha hc=>
  intro c a;rw[ae]at a;subst a;exact Nm _ _
 |case3 at_ ha=>intro c a;cases a
theorem NH:∀(k:Nat) (x:cL),(Jj k x).size<=x.size+k
 |0,x=>au _
 |k+1,x=>by
  rw[Jj];split
  ·have h:=NH k (Nl++x);have a:Nl.size=1:=rfl;rw[aU,a]at h;omega
  ·omega
theorem Rf(x:cL):(Ay x).size<=x.size+3:=by
 unfold Ay;split
 ·exact NH 3 x
 ·omega
def O3(cs ds:List Bf):Prop:=∀c∈cs,∃d∈ds,d.head=c.head/\Al d=Al c
theorem Yt{cs ds:List Bf}(h:cs.map Bf.erase=ds.map Bf.erase):O3 cs ds:=by
 intro c b;obtain⟨d,a,e⟩:=(F2.of_map h).mem1 c b;exact⟨d,a,(congrArg Cm.head e).symm,(congrArg Cm.body e).symm⟩
theorem O3.inst{cs ds:List Bf}(h:O3 cs ds){i:W6 Aj}(g:EF cs i):EF ds i:=by
 obtain⟨c,j,σ,a,rfl⟩:=g;obtain⟨d,e,f,b⟩:=h c j;refine⟨d,e,σ,?_,?_⟩
 ·unfold WV at a⊢;rw[b];exact a
 ·unfold GP;rw[f,b]
theorem O3.consts{cs ds:List Bf}(h:O3 cs ds){x:cL}(a:x∈consts cs):x∈consts ds:=by
 unfold Go.Proofs.YtoihbhenbmffcaaGreatDoor.consts at a⊢;obtain⟨c,e,a⟩:=bh.1 a;obtain⟨d,b,f,_⟩:=h c e;exact bh.2 ⟨d,b,by rw[f];exact a⟩
theorem O3.factIn{cs ds:List Bf}(h:O3 cs ds){f:Aj}(a:Gl cs f):Gl ds f:=by
 refine⟨?_,λx j=>h.consts (a.args x j)⟩;obtain⟨c,i,e⟩:=a.way;obtain⟨d,b,g,_⟩:=h c i;exact⟨d,b,by rw[g];exact e⟩
theorem O3.inv{cs ds:List Bf}(h:O3 cs ds)(c:O3 ds cs){L:cL->Nat}{n:Nat}{s:List Aj}(a:IL cs L n s):IL ds L n s:=by
 have e:EF cs=EF ds:=funext λi=>propext ⟨h.inst,c.inst⟩
 exact⟨by rw[<-e];exact a.work,a.rise,λf b=>h.factIn (a.inn f b)⟩
theorem O3.lev{cs ds:List Bf}(j:O3 ds cs){L:cL->Nat}(g:Dt cs L):Dt ds L:=by
 refine⟨λd e x b a=>?_,λd e x b a=>?_⟩<;>obtain⟨c,h,f,i⟩:=j d e
 ·rw[<-f];exact g.pos c h x (by rw[i];exact b) a
 ·rw[<-f];exact g.neg c h x (by rw[i];exact b) a
def NZ(s:cL)(t:cL)(er:Int):Prop:=
 (er≠0->t=ByteArray.empty)/\
 (er=0->∃(cs:List Bf) (L:cL->Nat) (N:Nat) (u:List Aj),cs.map Bf.erase=(Au s (Af s 0)).1/\Dt cs L/\IL cs L N u/\(∀c∈cs,L c.head.name<N)/\t=Qt ByteArray.empty (u.map CK))
theorem TT{s t g:cL}{f:Int}(j:NZ s t f)(k:Nc s g f):t=g:=by
 by_cases e:f=0
 ·obtain⟨x,L,N,u,h,m,q,o,rfl⟩:=j.2 e;obtain⟨y,z,i,n,w,p,rfl⟩:=k.2 e;have a:=Yt (h.trans i.symm);have b:=Yt (i.trans h.symm);refine n.text w p (b.lev m) (a.inv b q) (λd l=>?_);obtain⟨c,v,r,_⟩:=b d l;rw[<-r];exact o c v
 ·rw[j.1 e,k.1 e]
theorem V7{s:cL}(G:s.size<=300){w:World}{D:Value}{cs:List PC}{g:List Da}(i:Dj (Fo s) 0 []= .ok cs)(j:g.map Da.pc=cs)(C:Dv w D g){r:Int×Int}(z:E3 s (ZO s) r)(v:r.1=0):
  r=(0,0)/\∃a:List Bf,a.map Bf.erase=(Au s (Af s 0)).1/\ME g a:=by
 have h:=QD s;rw[i]at h;have d:((Au s (Af s 0)).1.map SZ).map Bf.erase=(Au s (Af s 0)).1:=by
  rw[bX]
  conv=>rhs;rw[<-List.map_id (Au s (Af s 0)).1]
  exact bT λc _=>Mf c
 generalize(Au s (Af s 0)).1.map SZ=a at d;have E:Er s (Cj a).1 (Cj a).2:=by
  unfold Er;rw[if_neg (by omega),if_neg (by rw[h.1];simp)];exact⟨a,d,rfl⟩
 have q:=PD E z;have o:Cj a=(0,0):=GF (by rw[<-show r.1=(Cj a).1 by rw[q]];exact v);refine⟨by rw[q,o],a,d,?_⟩;have F:=(KL s).1;have y:=If (by omega) _ 0 [] (au _) (by simp) i;have t:g.map Da.pc=a.map λr=>Zx r.erase:=by
  rw[j,h.2.1,<-d,bX];rfl
 have m:∀c∈g,ID c.pc:=λc f=>y.1 _ (by rw[<-j];exact az.2 ⟨c,f,rfl⟩)
 refine⟨(F2.of_map t).mono (λc f b l k=>Yv k (m c f) (C.each c f).wf ?_),GG h.1 d o,m,λc f=>?_⟩
 ·exact h.2.2 b.erase (by rw[<-d];exact az.2 ⟨b,l,rfl⟩)
 ·obtain⟨b,l,k⟩:=(F2.of_map t).mem1 c f;have n:=IP s (Af s 0) b.erase (by rw[<-d];exact aM l);refine⟨?_,λp i=>?_⟩
  ·have e:c.hn=b.erase.head.name:=congrArg PC.hn k;rw[e];have:=n.1.1;omega
  ·have e:c.lvs.map Prod.fst=b.erase.body.map Lg:=congrArg PC.body k;(have j:p.1∈b.erase.body.map Lg:=by rw[<-e];exact aM i);obtain⟨x,B,u⟩:=az.1 j;rw[<-u];have:=(n.2 x B).1;show x.A.name.size<=_;omega
theorem TN{s:cL}(z:s.size<=300){d:List Bf}(h:d.map Bf.erase=(Au s (Af s 0)).1){u:List Aj}(r:∀f∈u,Gl d f){i:List Fm}(l:i.map Fm.f=u.map CK):
  ∀p∈i,p.f.name.size<=1000000/\∀x∈p.f.things,x.size<=1000000:=by
 intro p j;have b:p.f∈u.map CK:=by rw[<-l];exact aM j
 obtain⟨f,k,e⟩:=az.1 b;have g:=r f k;rw[<-e];refine⟨?_,λx w=>?_⟩
 ·obtain⟨c,a,o,_⟩:=g.way;show f.name.size<=_;rw[o];have:=(IP s (Af s 0) c.erase (by rw[<-h];exact aM a)).1.1;have v:c.erase.head=c.head:=rfl;rw[v]at this;omega
 ·obtain⟨y,m,rfl⟩:=az.1 w;have a:=g.args y m;unfold consts at a;obtain⟨c,n,b⟩:=bh.1 a;obtain⟨t,q,rfl⟩:=az.1 b;have:=(IP s (Af s 0) c.erase (by rw[<-h];exact aM n)).1.2 t (aJ.1 q).1;have:=Rf t.s;omega
set_option maxRecDepth 100000
theorem Q6(s:cL)(w:World)(X:s.size<=9223372036854775807):
  Calls prog 14 #[.string s] w λe i=>∃(t:cL) (r:Int×Int),e= .returned (.tuple #[.string t, .int .i64 r.1, .int .i64 r.2])/\E3 s (ZO s) r/\NZ s t r.1/\Ac [] w i:=by
 have I:=Ab (WE s (ZO s) w X (λf Y m x p=>UN f m p));go_enter func14,ntmps14;go_wp2_with fail
 refine(Aa I).mono ?_;rintro _ q ⟨O,n,U,⟨j,F⟩,rfl,T,H,E⟩;have A:=Ab T;have y:=Ab H;have M:=Ab E;clear I T H E;by_cases k:j=0
 ·subst k;obtain⟨f,Y,x,m,p,rfl,B⟩:=Aa y rfl;obtain⟨Q,g,D,C⟩:=V7 f m p B (Aa A) rfl;obtain rfl:F=0:=(Prod.mk.inj Q).2;have Ax:((0:Int) !=0)=false:=rfl;have S:=Ab (Rr O U x g q B C);have V:Hid (∀a u L N b,Ft q a (.slice O x.length U) [] u b->Dt g L->IL g L N u->(∀c∈g,L c.head.name<N)->
    Calls prog 42 #[.pointer (some ⟨a,1,none⟩)] b λe i=>∃t,e= .returned (.string t)/\NZ s t 0/\Ac [] q i):=by
   intro a u L N b G Z v h3;obtain⟨AH,AT,R,CL,CC,xs,o,l,d,_⟩:=G.out;have hc:=o.cell 1;have EK:=(C.way v).2.2;(have B9:R.length=u.length:=by have:=congrArg List.length d.same;simpa using this);refine(Q1 a 1 AH AT R b (by simpa using hc) l (by omega) (TN f D v.inn d.same)).mono ?_;rintro _ i ⟨rfl,W⟩;exact⟨_,rfl,⟨λh=>absurd rfl h,λ_=>⟨g,L,N,u,D,Z,v,h3,by rw[d.same]⟩⟩,G.kept.trans W⟩
  clear f m p B Q D C y;go_wp2_with fail
  refine(Aa S).mono ?_;rintro _ b ⟨a,u,L,N,rfl,o,l,d,P⟩;have K:=Ab (Aa V a u L N b o l d P);clear S V o l d P;go_wp2_with fail
  refine(Aa K).mono ?_;rintro _ w3 ⟨t,rfl,hF,J⟩;have z:=Ab hF;have BA:=Ab ((Aa M).trans J);clear K hF J;go_wp2_with fail
  go_ret3;exact⟨t,(0,0),rfl,Aa A,Aa z,Aa BA⟩
 ·have Ax:(j !=0)=true:=by simp[k]
  have z:Hid (NZ s ByteArray.empty j):=⟨λ_=>rfl,λh=>absurd h k⟩;clear k y;go_wp2_with fail
  go_ret3;exact⟨ByteArray.empty,(j,F),rfl,Aa A,Aa z,Aa M⟩
theorem Tm(S T:cL)(w:World)(p:S.size<=9223372036854775807):Calls prog 39 #[.agg #[.int .i64 2, .string S, .string T]] w λe q=>e= .returned (.bool true)/\Ac [] w q:=by
 have j:=Ab (Aw.new w [.int .i64 2, .string S, .string T] 29);have k:=Ab ((Ac.refl [] w).alloc (.cells [.int .i64 2, .string S, .string T].toArray 29));have m:=Ab (Q6 S (w.alloc (.cells [.int .i64 2, .string S, .string T].toArray 29)) p);go_enter func39,ntmps39;go_wp2_with fail
 refine(Aa m).mono ?_;rintro _ x ⟨t,⟨s,z⟩,rfl,i,hF,a⟩;have b:=(Aa j).kept a (by simp);have h:=Ab ((Aa k).trans a);have n:=Ab (Rz S x p);have g:=b.cell 1;simp at g;have c:=Ab i;have f:=Ab hF;clear m a i hF j k b;go_wp2_with fail
 refine(Aa n).mono ?_;rintro _ r ⟨A,C,B,rfl,o,l,d⟩;obtain⟨rfl,rfl⟩:=Prod.mk.inj (PD o (Aa c));obtain rfl:=TT (Aa f) l;have v:=Ab ((Aa h).trans d);clear n o l d c f g h;go_wp2_with fail
 refine(YN s r).mono ?_;rintro _ y ⟨rfl,u⟩;subst u;go_wp2;go_ret;exact⟨by simp,Aa v⟩
set_option maxRecDepth 512
theorem Xt(f l:Int)(s:∀K S T w,f<=K->K<=l->S.size<=9223372036854775807->T.size<=9223372036854775807->Calls prog 39 #[.agg #[.int .i64 K, .string S, .string T]] w λe c=>e= .returned (.bool true)/\Ac [] w c)
  (r p a cap:Nat) (K:Nat->Int) (S T:Nat->cL) (w:World) (h:T9 w r p a K S T) (L:a<=cap) (N:cap<=9223372036854775807) (u:∀i,i<a->(S i).size<=9223372036854775807/\(T i).size<=9223372036854775807):
  Calls prog 13 #[.slice (some ⟨r,p,none⟩) a cap, .int .i64 f, .int .i64 l] w λe c=>e= .returned (.int .i64 (-1))/\Ac [] w c:=by
 have F:=Ab h;have z:=Ab u;have D:=Ab s;clear h u s;go_enter func13,ntmps13;go_wp2
 go_loopg [7] a (λgk i wr=>∃(k:Nat),i= .int .i64 k/\k<=a/\k<=1152921504606846976/\gk=a-k/\Hid (Ac [] w wr))
 case atStart=>exact⟨0,rfl,by omega,by omega,rfl,Ac.refl _ _⟩
 case round=>
  obtain⟨k,rfl,H,C,q,b⟩:=hrel;have d:=Ab q;clear q;by_cases n:k<a
  ·(have E:(k:Int)<(a:Int):=by omega);by_cases m:k<1152921504606846976
   ·(have A:(k:Int)<1152921504606846976:=by omega);have g:=Ab m;clear m C;obtain⟨J,I,G⟩:=(Aa F).kept (Aa b) k n;have v:=Aa z k n;have j:=Ab ((Aa b).alloc (.cells [.int .i64 (K k), .string (S k), .string (T k)].toArray 29));by_cases y:f<=K k
    ·by_cases x:K k<=l
     ·have o:=Ab (Aa D (K k) (S k) (T k) (wr.alloc (.cells [.int .i64 (K k), .string (S k), .string (T k)].toArray 29)) y x v.1 v.2);(go_wp2_with fail);refine(Aa o).mono ?_;rintro e M ⟨rfl,t⟩;have B:=Ab ((Aa j).trans t);clear o t;go_wp2
      go_roundg (a-(k+1))
      case measure=>have:=Aa d;omega
      case rel=>exact⟨k+1,by go_num,by omega,by have:=Aa g;omega,rfl,B⟩
     ·go_wp2
      go_roundg (a-(k+1))
      case measure=>have:=Aa d;omega
      case rel=>exact⟨k+1,by go_num,by omega,by have:=Aa g;omega,rfl,j⟩
    ·go_wp2
     go_roundg (a-(k+1))
     case measure=>have:=Aa d;omega
     case rel=>exact⟨k+1,by go_num,by omega,by have:=Aa g;omega,rfl,j⟩
   ·(have A:¬(k:Int)<1152921504606846976:=by omega);go_wp2;go_ret;exact⟨rfl,Aa b⟩
  ·(have E:¬(k:Int)<(a:Int):=by omega);go_wp2;go_ret;exact⟨rfl,Aa b⟩
theorem Xh(c d:Int)(a:Option Addr)(cap:Nat)(w:World):Calls prog 13 #[.slice a 0 cap, .int .i64 c, .int .i64 d] w λe b=>e= .returned (.int .i64 (-1))/\Ac [] w b:=by
 go_enter func13,ntmps13;go_wp2
 go_loop [7] (λi=>i= .int .i64 0) (λ_=>0)
 case atStart=>rfl
 case round=>
  subst hrel;go_wp2;go_ret;exact⟨rfl,Ac.refl _ _⟩
theorem Nr{v:Value}{w:World}(h:Calls prog 13 #[v, .int .i64 2, .int .i64 2] w λe a=>e= .returned (.int .i64 (-1))/\Ac [] w a):Calls prog 4 #[v] w λe a=>e= .returned (.bool true)/\Ac [] w a:=by
 go_enter func4,ntmps4;go_wp2_with fail
 refine h.mono ?_;rintro e d ⟨rfl,b⟩;have c:=Ab b;clear b;go_wp2;go_ret;exact⟨rfl,Aa c⟩
theorem ZA(K:Int)(S T:cL)(w:World)(c:2<=K)(d:K<=2)(b:S.size<=9223372036854775807)(_:T.size<=9223372036854775807):Calls prog 39 #[.agg #[.int .i64 K, .string S, .string T]] w λe a=>e= .returned (.bool true)/\Ac [] w a:=by
 obtain rfl:K=2:=by omega
 exact Tm S T w b
