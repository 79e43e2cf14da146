import Derived.Test.YtoihbhenbmffcaaGreatDoorTAL
set_option linter.all false
set_option maxHeartbeats 0
open List renaming length->Z
open Option renaming none->Y
open Go.Value renaming slice->U,int->X,string->O
open Prod renaming fst->qW
namespace Go.Proofs.YtoihbhenbmffcaaGreatDoor
open Go.RowKit Go.Proofs.Tryz
variable{p:rc CU}{s:zA}{w u:World}{z:Value}{n m j:Nat}
def Rk(c:PC):rc zA:=c.hn::(c.body.filter Bm).map λl=>l.an
def TR(c:CU):Cu c=Rk c.pc:=by
 unfold Cu Rk GT CU.pc;simp only[List.filter_map,nN];rfl
def I4(x:Bw):Bm (MA x)=(x.kind==97||x.kind==33):=by
 unfold Bm MA;simp only[Tu,ed]
def Us(r:AV):Ht r=Rk (ij r.erase):=by
 unfold Ht Rk ij AV.erase;simp only[nN,List.filter_map]
 congr 1
 have:(Bm∘(MA∘qW))=MP:=by
  funext q
  simp only[Function.comp,I4];rfl
 rw[this];rfl
def Yu(c:Ca):AV:=⟨c.head,U Y 0 0,U Y 0 0,c.body.map λx=>(x,U Y 0 0),c.at_⟩
def Qk(c:Ca):(Yu c).erase=c:=by
 unfold Yu AV.erase;simp only[nN];have:(qW∘λx:Bw=>(x,U Y 0 0))=id:=rfl;rw[this,List.map_id]
def jw(s:zA):zA->zA->Bool:=IC ((Aj s (Ae s 0)).1.map Yu)
def Xm{l:rc AV}(h:p.map CU.pc=l.map λr=>ij r.erase)(x y:zA):II p x y↔S7 l x y:=by
 have k:=F2.of_map h;constructor
 .intro e S i g;refine e S i (λc f b z d=>?_);obtain⟨r,m,a⟩:=k.zw c f;rw[TR,a,<-Us]at d;have j:c.hn=r.head.name:=congrArg PC.hn a;rw[j]at b;exact g r m b z d
 .intro e S i g;refine e S i (λr n b z d=>?_);obtain⟨c,f,a⟩:=k.mem r n;rw[Us,<-a,<-TR]at d;have j:c.hn=r.head.name:=congrArg PC.hn a;rw[<-j]at b;exact g c f b z d
def Lh(s:zA):match Ds (DH s) 0 [] with
  | .ok cs=>(Aj s (Ae s 0)).2.2=false/\cs=(Aj s (Ae s 0)).1.map ij/\(∀c∈(Aj s (Ae s 0)).1,c.at_=c.head.at_)
  | .error p=>(Aj s (Ae s 0)).2.2=true/\p=((Aj s (Ae s 0)).2.1:Int):=by
 have a:At s (DH s) 0 0:=by
  unfold At;rw[KN];rfl
 have:=bC _ 0 (Ae s 0) [] (mP _) a.yB (Bp s 0 (mO _)) (BU s 0)
 revert this
 cases Ds (DH s) 0 [] with
 |error p=>exact λh=>h
 |ok cs=>exact λh=>⟨h.1,by simpa using h.2.1,h.2.2⟩
def Le(n:s.size<=300){d:rc PC}(e:Ds (DH s) 0 []=.ok d)(b:p.map CU.pc=d):V7 (jw s) p:=by
 have j:=(Ka s).1;have h:=KI (by omega) _ 0 [] (mP _) (by simp) e;have f:=Lh s;rw[e]at f;have m:Z p=Z d:=by rw[<-b];simp
 have g:∀c∈p,Lw c.pc:=λc a=>h.1 _ (by rw[<-b];exact mD.2 ⟨c,a,rfl⟩)
 have i:=h.2;simp only[m8]at i;refine⟨λx y=>?_,λc a=>(Sk (g c a)).1,by omega,?_⟩
 .unfold jw;rw[Nm];refine(Xm ?_ x y).symm;rw[b,f.2.1,nN];apply nL;intro c _;simp only[Function.comp,Qk]
 .have l:=O0 Cu 152 p (λc a=>(Sk (g c a)).2);have k:Z p*152<=301*152:=nB _ (by omega);omega
def ii{c:CU}{r:AV}(h:c.pc=ij r.erase)(l:Lw c.pc)(b:Wf c)(m:r.at_=r.head.at_):Qy c r:=by
 have g:c.hp=r.head.at_:=congrArg PC.hp h;have n:c.hn=r.head.name:=congrArg PC.hn h;have e:c.zE=r.head.args.map ct:=congrArg PC.zE h;have j:c.zD.map qW=r.bl.map λq=>MA q.1:=by
  have:c.zD.map qW=(r.bl.map qW).map MA:=congrArg PC.body h;rw[this,nN];rfl
 refine⟨g,n,e,?_,by rw[b.head,e];simp,m⟩;refine(F2.of_map j).mono (λp d q o a=>⟨a,?_,λi=>?_⟩)
 .rw[b.lits p d,a];simp[MA]
 .have k:=l.lits p.1 (mD.2 ⟨p,d,rfl⟩);have:Bm p.1=false:=by rw[a,I4];exact i
  have f:=k.plain this;rw[a]at f;simpa[MA] using f
def EH{e h:Int}{r:Int×Int}(a:DK s e h)(b:El s (jw s) r):r=(e,h):=by
 unfold DK at a;unfold El at b;by_cases m:300<s.size
 .rw[mK m]at a b;rw[b,a.1,a.2]
 .rw[mJ m]at a b;have d:=Lh s;cases hp:Ds (DH s) 0 [] with
  |error p=>
   rw[hp]at d b;rw[mK d.1]at a;simp only at b;rw[b,a.1,a.2,d.2]
  |ok cs=>
   rw[hp]at d b;rw[mJ (by rw[d.1];simp)]at a;obtain⟨g,j,z⟩:=a;obtain⟨k,f,t,v⟩:=b;have A:=(Ka s).1;have q:=KI (by omega) _ 0 [] (mP _) (by simp) hp;have n:k.map CU.pc=g.map λr=>ij r.erase:=by
    rw[f,d.2.1,<-j,nN];rfl
   have hF:F2 Qy k g:=(F2.of_map n).mono (λc l i o w=>ii w (q.1 _ (by rw[<-f];exact mD.2 ⟨c,l,rfl⟩)) (t c l) (by
    have:=d.2.2 i.erase (by rw[<-j];exact mD.2 ⟨i,o,rfl⟩)
    exact this))
   have u:∀x y,jw s x y=IC g x y:=by
    intro x y;rw[nT,(Le (by omega) hp f).yk,Nm];exact Xm n x y
   rw[v,z];exact Zg hF u
theorem F7(n:Int)(w:World):Calls prog 16 #[X .i64 n] w λe a=>e=.returned (X .i64 n)/\a=w:=by
 go_enter func16,ntmps16;go_wp2;go_ret;exact⟨rfl,rfl⟩
def Qt(w:World)(ab ao:Nat)(len:Nat)(K:Nat->Int)(S T:Nat->zA):Prop:=
 ∀i,i<len->w.cell? ⟨ab,ao+i*3,Y⟩=some (X .i64 (K i))/\w.cell? ⟨ab,ao+i*3+1,Y⟩=some (O (S i))/\w.cell? ⟨ab,ao+i*3+2,Y⟩=some (O (T i))
def PG(k:Ac [] w u){a:Addr}(h:w.cell? a=some z):u.cell? a=some z:=by
 rw[World.cell?_of_block (k.block a.block (World.block_lt_of_cell? w a h) (by simp))];exact h
def Qt.kept{w w':World}{b:Nat->Int}{S T:Nat->zA}(h:Qt w n m j b S T)(k:Ac [] w w'):Qt w' n m j b S T:=
 λi a=>⟨PG k (h i a).1,PG k (h i a).2.1,PG k (h i a).2.2⟩
def RN(c:s.size<=300){a:rc PL}(h:F6 (DH s)=.ok a):(∀l∈a,Hw l)/\Z a<=151:=by
 have b:=(Ka s).1;unfold F6 at h;cases hb:Fo (DH s) 0 [] with
 |error p=>rw[hb]at h;cases h
 |ok r=>
  obtain⟨d,n⟩:=r;rw[hb]at h;simp only at h;split at h
  .cases h
   have:=NC (by omega) (Z (DH s)) 0 [] (by omega) (by intro l b;cases b) hb;exact⟨this.1,by have:=this.2;simp at this;omega⟩
  .cases h
def qR(pcs:rc CU)(zD:rc Mk):Int×Int:=
 match kn pcs (AU zD)with
 |some p=>(4,p)
 |none=>match(zD.find? λp=>(AS p.1).any (DJ zD)).map λp=>p.1.place with
  |some p=>(5,p)
  |none=>(0,0)
def jK(s:zA)(pcs:rc CU)(r:Int×Int):Prop:=
 if 300<s.size then r=(1,0)
 else match F6 (DH s)with
  | .error p=>r=(2,p)
  | .ok ls=>if 3<Z ls then r=(3,0)else∃zD:rc Mk,zD.map qW=ls/\(∀p∈zD,lenOf p.2=Z p.1.ts)/\r=qR pcs zD
def ik(s:zA)(pcs:rc CU)(w:World)(lv:Value)(n:Nat)(r:Int×Int):Prop:=
 r.1=0->s.size<=300/\∃zD:rc Mk,F6 (DH s)=.ok (zD.map qW)/\(∀p∈zD,Hw p.1)/\Z zD<=3/\n=Z zD/\Cf w 0 lv zD/\(∀p∈zD,lenOf p.2=Z p.1.ts)/\qR pcs zD=(0,0)
def Cf.len{c:rc Mk}(h:Cf w n z c):∀p∈c,(∃b a,p.2=U b (Z p.1.ts) a)/\lenOf p.2=Z p.1.ts:=by
 intro p d;obtain⟨b,a,e⟩:=Al (h.each p d).1;exact⟨⟨b,a,e⟩,by rw[e];rfl⟩
set_option maxRecDepth 100000
theorem da(s:zA)(M:Option Addr)(I:Nat)(d:rc CU)(w:World)(FL:s.size<=9223372036854775807)(h:CE w (U M (Z d) I) d)(F:∀c∈d,Z c.zD<=1000)(Bx:Z d<=1000):
  Calls prog 51 #[O s,U M (Z d) I] w λe u=>∃(q:Option Addr) (n t:Nat) (r:Int×Int),e=.returned (.tuple #[U q n t,X .i64 r.1,X .i64 r.2])/\jK s d r/\ik s d u (U q n t) n r/\Ac [] w u:=by
 have P:=Ab (And.intro h (And.intro F Bx));clear h F Bx;by_cases B0:300<s.size
 .have j:Hid (jK s d (1,0)):=by show jK _ _ _;unfold jK;rw[mK B0]
  go_enter func51,ntmps51;go_wp2;go_ret3;exact⟨Y,0,0,(1,0),rfl,j.out,(λh=>by cases h),re _ _⟩
 .have hs:s.size<=300:=by omega
  have S:=Ab (Vl s w hs);have j:Hid (∀r,(match F6 (DH s)with
    | .error p=>r=(2,p)
    | .ok k=>if 3<Z k then r=(3,0)else∃b:rc Mk,b.map qW=k/\(∀p∈b,lenOf p.2=Z p.1.ts)/\r=qR d b)->jK s d r):=by
   intro r hr;unfold jK;rw[mJ B0];exact hr
  have Q:Hid (∀k,F6 (DH s)=.ok k->(∀l∈k,Hw l)/\Z k<=151):=λk h=>RN hs h
  go_enter func51,ntmps51;go_wp2_with fail
  refine(Aa S).mono ?_;intro e y G;cases i:F6 (DH s)with
  |error p=>
   rw[i]at G j;obtain⟨rfl,C⟩:=G;clear S Q;go_wp2;go_ret3;exact⟨Y,0,0,(2,p),rfl,j.out _ rfl,(λh=>by cases h),C⟩
  |ok k=>
   rw[i]at G j;obtain⟨q,t,b,rfl,FA,B9,C⟩:=G;obtain⟨hg,DT⟩:=Aa Q k i;have B2:=Ab i;subst FA;simp only[mI]at DT j⊢;(have A:Hid (∀p∈b,Hw p.1):=λp g=>hg p.1 (mR g));have o:=Ab (B9.base (mO _));have B:=Ab C;clear S Q i hg B9 C;rw[mI]at o;by_cases h3:3<Z b
   .have ES:=Ab (Aa j (3,0) (by rw[mK h3]));clear j;go_wp2;go_ret3;exact⟨Y,0,0,(3,0),rfl,ES.out,(λh=>by cases h),Aa B⟩
   ·(have F:Z b<=3:=by omega);have E:Hid (jK s d (qR d b)):=Aa j _ (by rw[mJ h3];exact⟨b,rfl,λp g=>((Aa o).len p g).2,rfl⟩);have W:=Ab (Nb q t b y (Aa o) (by omega));have D:Hid (∀x v f,Ac [] y f->f.ownsRow y.heap.size 187 3 (U x (Z (AU b)) v) (Z (AU b)) ((AU b).flatMap AW)->Calls prog 91 #[U x (Z (AU b)) v,U M (Z d) I] f λe u=>e=.returned (BJ (kn d (AU b)))/\Ac [] f u):=by
     intro x v f z L;refine MX x v (AU b) _ M I d f L ?_ (by have:=EB b;omega) ?_ ((Aa P).1.kept ((Aa B).trans z)) (Aa P).2.1 (Aa P).2.2
     .intro a i;unfold AU at i;obtain⟨p,g,rfl⟩:=mD.1 i;obtain⟨⟨EX,EY,e'⟩,_⟩:=(Aa o).len p (mT.1 g).1;exact⟨EX,_,EY,e'⟩
     .intro a i;unfold AU at i;obtain⟨p,g,rfl⟩:=mD.1 i;have h1:=((Aa o).len p (mT.1 g).1).2;have h2:=(Aa A p (mT.1 g).1).le;simp only;omega
    have H:Hid (∀f,Ac [] y f->Calls prog 93 #[U q (Z b) t] f λe u=>e=.returned (BJ ((b.find? λp=>(AS p.1).any (DJ b)).map λp=>p.1.place))/\Ac [] f u):=by
     intro f z;have A0:∀p∈b,Z (AS p.1)<=1000:=λp g=>by
      have:=(Aa A p g).le;unfold AS;split<;>simp<;>omega
     refine I8 q t b f ((Aa o).kept z) (by omega) (λp g R=>?_) A0 ?_
     .have:=Aa A p g;exact⟨this.some (by unfold Bm;rw[R];rfl),by have:=this.le;omega⟩
     .have h1:=UN b;have h2:=Jy A0;omega
    have m:Hid (qR d b=match kn d (AU b)with
     |some p=>(4,p)
     |none=>match(b.find? λp=>(AS p.1).any (DJ b)).map λp=>p.1.place with
      |some p=>(5,p)
      |none=>(0,0)):=by show _=_;rfl
    (have AH:Hid (qR d b=(0,0)->∀f,Ac [] y f->ik s d f (U q (Z b) t) (Z b) (0,0)):=λR f z _=>⟨hs,b,Aa B2,Aa A,F,rfl,(Aa o).kept z,λp g=>((Aa o).len p g).2,R⟩);generalize AU b=AT at W D m;generalize kn d AT=AO at D m;generalize(b.find? λp=>(AS p.1).any (DJ b)).map (λp=>p.1.place)=UO at H m;generalize qR d b=QR at E m AH;clear j o A B2 P;(go_wp2_with fail);refine(Aa W).mono ?_;rintro e w2 ⟨x,v,rfl,L,k2⟩;have BS:=Ab (Aa D x v w2 k2 L);have BA:=Ab k2;clear L k2 W D;(go_wp2_with fail);refine(Aa BS).mono ?_;rintro e w3 ⟨rfl,k3⟩;have N:=Ab ((Aa BA).trans k3);clear k3 BS BA;cases AO with
    |some p=>
     simp only[BJ];have HE:=Ab (Aa m);clear m H;go_wp2;go_ret3;exact⟨Y,0,0,4,p,rfl,by have:=Aa E;rw[Aa HE]at this;exact this,(λh=>by cases h),(Aa B).trans (Aa N)⟩
    |none=>
     simp only[BJ];have A2:=Ab (Aa H w3 (Aa N));clear H;(go_wp2_with fail);refine(Aa A2).mono ?_;rintro e w4 ⟨rfl,k4⟩;have T:=Ab ((Aa N).trans k4);clear k4 A2 N;cases UO with
     |some p=>
      simp only[BJ];go_wp2;go_ret3;exact⟨Y,0,0,5,p,rfl,by have:=Aa E;rw[Aa m]at this;exact this,(λh=>by cases h),(Aa B).trans (Aa T)⟩
     |none=>
      simp only[BJ];go_wp2;go_ret3;exact⟨q,Z b,t,0,0,rfl,by have:=Aa E;rw[Aa m]at this;exact this,Aa AH (Aa m) _ (Aa T),(Aa B).trans (Aa T)⟩
