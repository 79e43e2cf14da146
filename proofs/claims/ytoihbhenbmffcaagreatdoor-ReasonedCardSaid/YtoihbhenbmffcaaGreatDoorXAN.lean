import Derived.Test.YtoihbhenbmffcaaGreatDoorXAM
set_option linter.all false
set_option maxHeartbeats 0
open List renaming length->Z
open Option renaming none->Y
open Go.Value renaming slice->U,int->X,string->O
open Prod renaming fst->pH
namespace Go.Proofs.YtoihbhenbmffcaaGreatDoor
open Go.RowKit Go.Proofs.Tryz
variable{p:pM Dy}{s:zA}{w u:World}{z:Value}{n m j:Nat}
def QE(c:PC):pM zA:=c.hn::(c.body.filter Bi).map λl=>l.an
def Tj(c:Dy):Ck c=QE c.pc:=by
 unfold Ck QE Gw Dy.pc;simp only[List.filter_map,mq];rfl
def IB(x:Br):Bi (LU x)=(x.kind==97||x.kind==33):=by
 unfold Bi LU;simp only[SY,dm]
def TY(r:A4):Hu r=QE (fT r.erase):=by
 unfold Hu QE fT A4.erase;simp only[mq,List.filter_map]
 congr 1
 have:(Bi∘(LU∘pH))=MF:=by
  funext q
  simp only[Function.comp,IB];rfl
 rw[this];rfl
def XO(c:CD):A4:=⟨c.head,U Y 0 0,U Y 0 0,c.body.map λx=>(x,U Y 0 0),c.at_⟩
def PI(c:CD):(XO c).erase=c:=by
 unfold XO A4.erase;simp only[mq];have:(pH∘λx:Br=>(x,U Y 0 0))=id:=rfl;rw[this,List.map_id]
def iY(s:zA):zA->zA->Bool:=Hw ((An s (Ae s 0)).1.map XO)
def WG{l:pM A4}(h:p.map Dy.pc=l.map λr=>fT r.erase)(x y:zA):Ie p x y↔Sv l x y:=by
 have k:=F2.of_map h;constructor
 .intro e S i g;refine e S i (λc f b z d=>?_);obtain⟨r,m,a⟩:=k.yK c f;rw[Tj,a,<-TY]at d;have j:c.hn=r.head.name:=congrArg PC.hn a;rw[j]at b;exact g r m b z d
 .intro e S i g;refine e S i (λr n b z d=>?_);obtain⟨c,f,a⟩:=k.mem r n;rw[TY,<-a,<-Tj]at d;have j:c.hn=r.head.name:=congrArg PC.hn a;rw[<-j]at b;exact g c f b z d
def Kq(s:zA):match Dc (Dl s) 0 [] with
  | .ok cs=>(An s (Ae s 0)).2.2=false/\cs=(An s (Ae s 0)).1.map fT/\(∀c∈(An s (Ae s 0)).1,c.at_=c.head.at_)
  | .error p=>(An s (Ae s 0)).2.2=true/\p=((An s (Ae s 0)).2.1:Int):=by
 have a:At s (Dl s) 0 0:=by
  unfold At;rw[Kc];rfl
 have:=aE _ 0 (Ae s 0) [] (lC _) a.gap (BB s 0 (lz _)) (Cu s 0)
 revert this
 cases Dc (Dl s) 0 [] with
 |error p=>exact λh=>h
 |ok cs=>exact λh=>⟨h.1,by simpa using h.2.1,h.2.2⟩
def Me(n:s.size<=300){d:pM PC}(e:Dc (Dl s) 0 []=.ok d)(b:p.map Dy.pc=d):Vy (iY s) p:=by
 have j:=(JB s).1;have h:=J8 (by omega) _ 0 [] (lC _) (by simp) e;have f:=Kq s;rw[e]at f;have m:Z p=Z d:=by rw[<-b];simp
 have g:∀c∈p,KF c.pc:=λc a=>h.1 _ (by rw[<-b];exact lk.2 ⟨c,a,rfl⟩)
 have i:=h.2;simp only[lO]at i;refine⟨λx y=>?_,λc a=>(RH (g c a)).1,by omega,?_⟩
 .unfold iY;rw[Mw];refine(WG ?_ x y).symm;rw[b,f.2.1,mq];apply mu;intro c _;simp only[Function.comp,PI]
 .have l:=Q5 Ck 152 p (λc a=>(RH (g c a)).2);have k:Z p*152<=301*152:=mh _ (by omega);omega
def fR{c:Dy}{r:A4}(h:c.pc=fT r.erase)(l:KF c.pc)(b:Wf c)(m:r.at_=r.head.at_):RX c r:=by
 have g:c.hp=r.head.at_:=congrArg PC.hp h;have n:c.hn=r.head.name:=congrArg PC.hn h;have e:c.zV=r.head.args.map ct:=congrArg PC.zV h;have j:c.zH.map pH=r.bl.map λq=>LU q.1:=by
  have:c.zH.map pH=(r.bl.map pH).map LU:=congrArg PC.body h;rw[this,mq];rfl
 refine⟨g,n,e,?_,by rw[b.head,e];simp,m⟩;refine(F2.of_map j).mono (λp d q o a=>⟨a,?_,λi=>?_⟩)
 .rw[b.lits p d,a];simp[LU]
 .have k:=l.lits p.1 (lk.2 ⟨p,d,rfl⟩);have:Bi p.1=false:=by rw[a,IB];exact i
  have f:=k.plain this;rw[a]at f;simpa[LU] using f
def DA{e h:Int}{r:Int×Int}(a:CI s e h)(b:Ex s (iY s) r):r=(e,h):=by
 unfold CI at a;unfold Ex at b;by_cases m:300<s.size
 .rw[ln m]at a b;rw[b,a.1,a.2]
 .rw[li m]at a b;have d:=Kq s;cases hp:Dc (Dl s) 0 [] with
  |error p=>
   rw[hp]at d b;rw[ln d.1]at a;simp only at b;rw[b,a.1,a.2,d.2]
  |ok cs=>
   rw[hp]at d b;rw[li (by rw[d.1];simp)]at a;obtain⟨g,j,z⟩:=a;obtain⟨k,f,t,v⟩:=b;have A:=(JB s).1;have q:=J8 (by omega) _ 0 [] (lC _) (by simp) hp;have n:k.map Dy.pc=g.map λr=>fT r.erase:=by
    rw[f,d.2.1,<-j,mq];rfl
   have hF:F2 RX k g:=(F2.of_map n).mono (λc l i o w=>fR w (q.1 _ (by rw[<-f];exact lk.2 ⟨c,l,rfl⟩)) (t c l) (by
    have:=d.2.2 i.erase (by rw[<-j];exact lk.2 ⟨i,o,rfl⟩)
    exact this))
   have u:∀x y,iY s x y=Hw g x y:=by
    intro x y;rw[mN,(Me (by omega) hp f).yd,Mw];exact WG n x y
   rw[v,z];exact YI hF u
theorem E6(n:Int)(w:World):Calls prog 16 #[X .i64 n] w λe a=>e=.returned (X .i64 n)/\a=w:=by
 go_enter func16,ntmps16;go_wp2;go_ret;exact⟨rfl,rfl⟩
def LZ(w:World)(ab ao:Nat)(len:Nat)(K:Nat->Int)(S T:Nat->zA):Prop:=
 ∀i,i<len->w.cell? ⟨ab,ao+i*3,Y⟩=some (X .i64 (K i))/\w.cell? ⟨ab,ao+i*3+1,Y⟩=some (O (S i))/\w.cell? ⟨ab,ao+i*3+2,Y⟩=some (O (T i))
def O6(k:Ac [] w u){a:Addr}(h:w.cell? a=some z):u.cell? a=some z:=by
 rw[World.cell?_of_block (k.block a.block (World.block_lt_of_cell? w a h) (by simp))];exact h
def LZ.kept{w w':World}{b:Nat->Int}{S T:Nat->zA}(h:LZ w n m j b S T)(k:Ac [] w w'):LZ w' n m j b S T:=
 λi a=>⟨O6 k (h i a).1,O6 k (h i a).2.1,O6 k (h i a).2.2⟩
def Q9(c:s.size<=300){a:pM PL}(h:FE (Dl s)=.ok a):(∀l∈a,Hb l)/\Z a<=151:=by
 have b:=(JB s).1;unfold FE at h;cases hb:E4 (Dl s) 0 [] with
 |error p=>rw[hb]at h;cases h
 |ok r=>
  obtain⟨d,n⟩:=r;rw[hb]at h;simp only at h;split at h
  .cases h
   have:=MJ (by omega) (Z (Dl s)) 0 [] (by omega) (by intro l b;cases b) hb;exact⟨this.1,by have:=this.2;simp at this;omega⟩
  .cases h
def qR(pcs:pM Dy)(zH:pM Lz):Int×Int:=
 match jl pcs (AS zH)with
 |some p=>(4,p)
 |none=>match(zH.find? λp=>(AR p.1).any (Dn zH)).map λp=>p.1.place with
  |some p=>(5,p)
  |none=>(0,0)
def iF(s:zA)(pcs:pM Dy)(r:Int×Int):Prop:=
 if 300<s.size then r=(1,0)
 else match FE (Dl s)with
  | .error p=>r=(2,p)
  | .ok ls=>if 3<Z ls then r=(3,0)else∃zH:pM Lz,zH.map pH=ls/\(∀p∈zH,lenOf p.2=Z p.1.ts)/\r=qR pcs zH
def fU(s:zA)(pcs:pM Dy)(w:World)(lv:Value)(n:Nat)(r:Int×Int):Prop:=
 r.1=0->s.size<=300/\∃zH:pM Lz,FE (Dl s)=.ok (zH.map pH)/\(∀p∈zH,Hb p.1)/\Z zH<=3/\n=Z zH/\B8 w 0 lv zH/\(∀p∈zH,lenOf p.2=Z p.1.ts)/\qR pcs zH=(0,0)
def B8.len{c:pM Lz}(h:B8 w n z c):∀p∈c,(∃b a,p.2=U b (Z p.1.ts) a)/\lenOf p.2=Z p.1.ts:=by
 intro p d;obtain⟨b,a,e⟩:=Ak (h.each p d).1;exact⟨⟨b,a,e⟩,by rw[e];rfl⟩
set_option maxRecDepth 100000
theorem bY(s:zA)(M:Option Addr)(I:Nat)(d:pM Dy)(w:World)(FP:s.size<=9223372036854775807)(h:DE w (U M (Z d) I) d)(F:∀c∈d,Z c.zH<=1000)(BA:Z d<=1000):
  Calls prog 51 #[O s,U M (Z d) I] w λe u=>∃(q:Option Addr) (n t:Nat) (r:Int×Int),e=.returned (.tuple #[U q n t,X .i64 r.1,X .i64 r.2])/\iF s d r/\fU s d u (U q n t) n r/\Ac [] w u:=by
 have P:=Ab (And.intro h (And.intro F BA));clear h F BA;by_cases B2:300<s.size
 .have j:Hid (iF s d (1,0)):=by show iF _ _ _;unfold iF;rw[ln B2]
  go_enter func51,ntmps51;go_wp2;go_ret3;exact⟨Y,0,0,(1,0),rfl,j.out,(λh=>by cases h),pO _ _⟩
 .have hs:s.size<=300:=by omega
  have S:=Ab (UN s w hs);have j:Hid (∀r,(match FE (Dl s)with
    | .error p=>r=(2,p)
    | .ok k=>if 3<Z k then r=(3,0)else∃b:pM Lz,b.map pH=k/\(∀p∈b,lenOf p.2=Z p.1.ts)/\r=qR d b)->iF s d r):=by
   intro r hr;unfold iF;rw[li B2];exact hr
  have Q:Hid (∀k,FE (Dl s)=.ok k->(∀l∈k,Hb l)/\Z k<=151):=λk h=>Q9 hs h
  go_enter func51,ntmps51;go_wp2_with fail
  refine(Aa S).mono ?_;intro e y G;cases i:FE (Dl s)with
  |error p=>
   rw[i]at G j;obtain⟨rfl,C⟩:=G;clear S Q;go_wp2;go_ret3;exact⟨Y,0,0,(2,p),rfl,j.out _ rfl,(λh=>by cases h),C⟩
  |ok k=>
   rw[i]at G j;obtain⟨q,t,b,rfl,FC,CC,C⟩:=G;obtain⟨hg,EM⟩:=Aa Q k i;have B9:=Ab i;subst FC;simp only[lm]at EM j⊢;(have A:Hid (∀p∈b,Hb p.1):=λp g=>hg p.1 (lB g));have o:=Ab (CC.base (lz _));have B:=Ab C;clear S Q i hg CC C;rw[lm]at o;by_cases h3:3<Z b
   .have EY:=Ab (Aa j (3,0) (by rw[ln h3]));clear j;go_wp2;go_ret3;exact⟨Y,0,0,(3,0),rfl,EY.out,(λh=>by cases h),Aa B⟩
   ·(have F:Z b<=3:=by omega);have E:Hid (iF s d (qR d b)):=Aa j _ (by rw[li h3];exact⟨b,rfl,λp g=>((Aa o).len p g).2,rfl⟩);have W:=Ab (Mp q t b y (Aa o) (by omega));have D:Hid (∀x v f,Ac [] y f->f.ownsRow y.heap.size 187 3 (U x (Z (AS b)) v) (Z (AS b)) ((AS b).flatMap AP)->Calls prog 91 #[U x (Z (AS b)) v,U M (Z d) I] f λe u=>e=.returned (BM (jl d (AS b)))/\Ac [] f u):=by
     intro x v f z L;refine Mf x v (AS b) _ M I d f L ?_ (by have:=Ej b;omega) ?_ ((Aa P).1.kept ((Aa B).trans z)) (Aa P).2.1 (Aa P).2.2
     .intro a i;unfold AS at i;obtain⟨p,g,rfl⟩:=lk.1 i;obtain⟨⟨E0,FA,e'⟩,_⟩:=(Aa o).len p (lK.1 g).1;exact⟨E0,_,FA,e'⟩
     .intro a i;unfold AS at i;obtain⟨p,g,rfl⟩:=lk.1 i;have h1:=((Aa o).len p (lK.1 g).1).2;have h2:=(Aa A p (lK.1 g).1).le;simp only;omega
    have H:Hid (∀f,Ac [] y f->Calls prog 93 #[U q (Z b) t] f λe u=>e=.returned (BM ((b.find? λp=>(AR p.1).any (Dn b)).map λp=>p.1.place))/\Ac [] f u):=by
     intro f z;have A1:∀p∈b,Z (AR p.1)<=1000:=λp g=>by
      have:=(Aa A p g).le;unfold AR;split<;>simp<;>omega
     refine IF q t b f ((Aa o).kept z) (by omega) (λp g R=>?_) A1 ?_
     .have:=Aa A p g;exact⟨this.some (by unfold Bi;rw[R];rfl),by have:=this.le;omega⟩
     .have h1:=Uk b;have h2:=I4 A1;omega
    have m:Hid (qR d b=match jl d (AS b)with
     |some p=>(4,p)
     |none=>match(b.find? λp=>(AR p.1).any (Dn b)).map λp=>p.1.place with
      |some p=>(5,p)
      |none=>(0,0)):=by show _=_;rfl
    (have AH:Hid (qR d b=(0,0)->∀f,Ac [] y f->fU s d f (U q (Z b) t) (Z b) (0,0)):=λR f z _=>⟨hs,b,Aa B9,Aa A,F,rfl,(Aa o).kept z,λp g=>((Aa o).len p g).2,R⟩);generalize AS b=AT at W D m;generalize jl d AT=AO at D m;generalize(b.find? λp=>(AR p.1).any (Dn b)).map (λp=>p.1.place)=UO at H m;generalize qR d b=QR at E m AH;clear j o A B9 P;(go_wp2_with fail);refine(Aa W).mono ?_;rintro e w2 ⟨x,v,rfl,L,k2⟩;have BT:=Ab (Aa D x v w2 k2 L);have BS:=Ab k2;clear L k2 W D;(go_wp2_with fail);refine(Aa BT).mono ?_;rintro e w3 ⟨rfl,k3⟩;have N:=Ab ((Aa BS).trans k3);clear k3 BT BS;cases AO with
    |some p=>
     simp only[BM];have HE:=Ab (Aa m);clear m H;go_wp2;go_ret3;exact⟨Y,0,0,4,p,rfl,by have:=Aa E;rw[Aa HE]at this;exact this,(λh=>by cases h),(Aa B).trans (Aa N)⟩
    |none=>
     simp only[BM];have Bx:=Ab (Aa H w3 (Aa N));clear H;(go_wp2_with fail);refine(Aa Bx).mono ?_;rintro e w4 ⟨rfl,k4⟩;have T:=Ab ((Aa N).trans k4);clear k4 Bx N;cases UO with
     |some p=>
      simp only[BM];go_wp2;go_ret3;exact⟨Y,0,0,5,p,rfl,by have:=Aa E;rw[Aa m]at this;exact this,(λh=>by cases h),(Aa B).trans (Aa T)⟩
     |none=>
      simp only[BM];go_wp2;go_ret3;exact⟨q,Z b,t,0,0,rfl,by have:=Aa E;rw[Aa m]at this;exact this,Aa AH (Aa m) _ (Aa T),(Aa B).trans (Aa T)⟩
