import Derived.Test.YtoihbhenbmffcaaGreatDoorVAM
set_option linter.all false
set_option maxHeartbeats 0
open List renaming length->Z
open Option renaming none->Y
open Go.Value renaming slice->U,int->X,string->O
open Prod renaming fst->O0
namespace Go.Proofs.YtoihbhenbmffcaaGreatDoor
open Go.RowKit Go.Proofs.Tryz
variable{p:QC DF}{s:bC}{w u:World}{z:Value}{n m j:Nat}
def QF(c:PC):QC bC:=c.hn::(c.body.filter Bl).map λl=>l.an
def Tm(c:DF):Co c=QF c.pc:=by
 unfold Co QF Gz DF.pc;simp only[List.filter_map,mJ];rfl
def Iw(x:Bp):Bl (LQ x)=(x.kind==97||x.kind==33):=by
 unfold Bl LQ;simp only[SW,dw]
def TY(r:A7):Hr r=QF (gD r.erase):=by
 unfold Hr QF gD A7.erase;simp only[mJ,List.filter_map]
 congr 1
 have:(Bl∘(LQ∘O0))=Nf:=by
  funext q
  simp only[Function.comp,Iw];rfl
 rw[this];rfl
def XU(c:CG):A7:=⟨c.head,U Y 0 0,U Y 0 0,c.body.map λx=>(x,U Y 0 0),c.at_⟩
def PO(c:CG):(XU c).erase=c:=by
 unfold XU A7.erase;simp only[mJ];have:(O0∘λx:Bp=>(x,U Y 0 0))=id:=rfl;rw[this,List.map_id]
def jo(s:bC):bC->bC->Bool:=Ht ((An s (Ae s 0)).1.map XU)
def WI{l:QC A7}(h:p.map DF.pc=l.map λr=>gD r.erase)(x y:bC):Ib p x y↔Sv l x y:=by
 have k:=F2.of_map h;constructor
 .intro e S i g;refine e S i (λc f b z d=>?_);obtain⟨r,m,a⟩:=k.zn c f;rw[Tm,a,<-TY]at d;have j:c.hn=r.head.name:=congrArg PC.hn a;rw[j]at b;exact g r m b z d
 .intro e S i g;refine e S i (λr n b z d=>?_);obtain⟨c,f,a⟩:=k.mem r n;rw[TY,<-a,<-Tm]at d;have j:c.hn=r.head.name:=congrArg PC.hn a;rw[<-j]at b;exact g c f b z d
def Kr(s:bC):match Dl (Dt s) 0 [] with
  | .ok cs=>(An s (Ae s 0)).2.2=false/\cs=(An s (Ae s 0)).1.map gD/\(∀c∈(An s (Ae s 0)).1,c.at_=c.head.at_)
  | .error p=>(An s (Ae s 0)).2.2=true/\p=((An s (Ae s 0)).2.1:Int):=by
 have a:At s (Dt s) 0 0:=by
  unfold At;rw[Kc];rfl
 have:=aL _ 0 (Ae s 0) [] (lX _) a.gap (BD s 0 (lW _)) (Cz s 0)
 revert this
 cases Dl (Dt s) 0 [] with
 |error p=>exact λh=>h
 |ok cs=>exact λh=>⟨h.1,by simpa using h.2.1,h.2.2⟩
def Me(n:s.size<=300){d:QC PC}(e:Dl (Dt s) 0 []=.ok d)(b:p.map DF.pc=d):Vw (jo s) p:=by
 have j:=(JE s).1;have h:=J9 (by omega) _ 0 [] (lX _) (by simp) e;have f:=Kr s;rw[e]at f;have m:Z p=Z d:=by rw[<-b];simp
 have g:∀c∈p,KE c.pc:=λc a=>h.1 _ (by rw[<-b];exact lP.2 ⟨c,a,rfl⟩)
 have i:=h.2;simp only[mn]at i;refine⟨λx y=>?_,λc a=>(RH (g c a)).1,by omega,?_⟩
 .unfold jo;rw[Mv];refine(WI ?_ x y).symm;rw[b,f.2.1,mJ];apply mI;intro c _;simp only[Function.comp,PO]
 .have l:=Q7 Co 152 p (λc a=>(RH (g c a)).2);have k:Z p*152<=301*152:=mF _ (by omega);omega
def gB{c:DF}{r:A7}(h:c.pc=gD r.erase)(l:KE c.pc)(b:Wf c)(m:r.at_=r.head.at_):RY c r:=by
 have g:c.hp=r.head.at_:=congrArg PC.hp h;have n:c.hn=r.head.name:=congrArg PC.hn h;have e:c.dx=r.head.args.map ct:=congrArg PC.dx h;have j:c.bm.map O0=r.bl.map λq=>LQ q.1:=by
  have:c.bm.map O0=(r.bl.map O0).map LQ:=congrArg PC.body h;rw[this,mJ];rfl
 refine⟨g,n,e,?_,by rw[b.head,e];simp,m⟩;refine(F2.of_map j).mono (λp d q o a=>⟨a,?_,λi=>?_⟩)
 .rw[b.lits p d,a];simp[LQ]
 .have k:=l.lits p.1 (lP.2 ⟨p,d,rfl⟩);have:Bl p.1=false:=by rw[a,Iw];exact i
  have f:=k.plain this;rw[a]at f;simpa[LQ] using f
def Fa{e h:Int}{r:Int×Int}(a:CJ s e h)(b:EI s (jo s) r):r=(e,h):=by
 unfold CJ at a;unfold EI at b;by_cases m:300<s.size
 .rw[lS m]at a b;rw[b,a.1,a.2]
 .rw[lO m]at a b;have d:=Kr s;cases hp:Dl (Dt s) 0 [] with
  |error p=>
   rw[hp]at d b;rw[lS d.1]at a;simp only at b;rw[b,a.1,a.2,d.2]
  |ok cs=>
   rw[hp]at d b;rw[lO (by rw[d.1];simp)]at a;obtain⟨g,j,z⟩:=a;obtain⟨k,f,t,v⟩:=b;have A:=(JE s).1;have q:=J9 (by omega) _ 0 [] (lX _) (by simp) hp;have n:k.map DF.pc=g.map λr=>gD r.erase:=by
    rw[f,d.2.1,<-j,mJ];rfl
   have hF:F2 RY k g:=(F2.of_map n).mono (λc l i o w=>gB w (q.1 _ (by rw[<-f];exact lP.2 ⟨c,l,rfl⟩)) (t c l) (by
    have:=d.2.2 i.erase (by rw[<-j];exact lP.2 ⟨i,o,rfl⟩)
    exact this))
   have u:∀x y,jo s x y=Ht g x y:=by
    intro x y;rw[m9,(Me (by omega) hp f).zw,Mv];exact WI n x y
   rw[v,z];exact YO hF u
theorem Ma(n:Int)(w:World):Calls prog 16 #[X .i64 n] w λe a=>e=.returned (X .i64 n)/\a=w:=by
 go_enter func16,ntmps16;go_wp2;go_ret;exact⟨rfl,rfl⟩
def SY(w:World)(ab ao:Nat)(len:Nat)(K:Nat->Int)(S T:Nat->bC):Prop:=
 ∀i,i<len->w.cell? ⟨ab,ao+i*3,Y⟩=some (X .i64 (K i))/\w.cell? ⟨ab,ao+i*3+1,Y⟩=some (O (S i))/\w.cell? ⟨ab,ao+i*3+2,Y⟩=some (O (T i))
def Pc(k:Ac [] w u){a:Addr}(h:w.cell? a=some z):u.cell? a=some z:=by
 rw[World.cell?_of_block (k.block a.block (World.block_lt_of_cell? w a h) (by simp))];exact h
def SY.kept{w w':World}{b:Nat->Int}{S T:Nat->bC}(h:SY w n m j b S T)(k:Ac [] w w'):SY w' n m j b S T:=
 λi a=>⟨Pc k (h i a).1,Pc k (h i a).2.1,Pc k (h i a).2.2⟩
def Rb(c:s.size<=300){a:QC PL}(h:FR (Dt s)=.ok a):(∀l∈a,G7 l)/\Z a<=151:=by
 have b:=(JE s).1;unfold FR at h;cases hb:Fd (Dt s) 0 [] with
 |error p=>rw[hb]at h;cases h
 |ok r=>
  obtain⟨d,n⟩:=r;rw[hb]at h;simp only at h;split at h
  .cases h
   have:=MJ (by omega) (Z (Dt s)) 0 [] (by omega) (by intro l b;cases b) hb;exact⟨this.1,by have:=this.2;simp at this;omega⟩
  .cases h
def qR(pcs:QC DF)(bm:QC Lx):Int×Int:=
 match jA pcs (AV bm)with
 |some p=>(4,p)
 |none=>match(bm.find? λp=>(AU p.1).any (Dv bm)).map λp=>p.1.place with
  |some p=>(5,p)
  |none=>(0,0)
def iU(s:bC)(pcs:QC DF)(r:Int×Int):Prop:=
 if 300<s.size then r=(1,0)
 else match FR (Dt s)with
  | .error p=>r=(2,p)
  | .ok ls=>if 3<Z ls then r=(3,0)else∃bm:QC Lx,bm.map O0=ls/\(∀p∈bm,lenOf p.2=Z p.1.ts)/\r=qR pcs bm
def gE(s:bC)(pcs:QC DF)(w:World)(lv:Value)(n:Nat)(r:Int×Int):Prop:=
 r.1=0->s.size<=300/\∃bm:QC Lx,FR (Dt s)=.ok (bm.map O0)/\(∀p∈bm,G7 p.1)/\Z bm<=3/\n=Z bm/\Cd w 0 lv bm/\(∀p∈bm,lenOf p.2=Z p.1.ts)/\qR pcs bm=(0,0)
def Cd.len{c:QC Lx}(h:Cd w n z c):∀p∈c,(∃b a,p.2=U b (Z p.1.ts) a)/\lenOf p.2=Z p.1.ts:=by
 intro p d;obtain⟨b,a,e⟩:=Ak (h.each p d).1;exact⟨⟨b,a,e⟩,by rw[e];rfl⟩
set_option maxRecDepth 100000
theorem cj(s:bC)(M:Option Addr)(I:Nat)(d:QC DF)(w:World)(FL:s.size<=9223372036854775807)(h:DK w (U M (Z d) I) d)(F:∀c∈d,Z c.bm<=1000)(Bx:Z d<=1000):
  Calls prog 51 #[O s,U M (Z d) I] w λe u=>∃(q:Option Addr) (n t:Nat) (r:Int×Int),e=.returned (.tuple #[U q n t,X .i64 r.1,X .i64 r.2])/\iU s d r/\gE s d u (U q n t) n r/\Ac [] w u:=by
 have P:=Ab (And.intro h (And.intro F Bx));clear h F Bx;by_cases BT:300<s.size
 .have j:Hid (iU s d (1,0)):=by show iU _ _ _;unfold iU;rw[lS BT]
  go_enter func51,ntmps51;go_wp2;go_ret3;exact⟨Y,0,0,(1,0),rfl,j.out,(λh=>by cases h),SF _ _⟩
 .have hs:s.size<=300:=by omega
  have S:=Ab (UM s w hs);have j:Hid (∀r,(match FR (Dt s)with
    | .error p=>r=(2,p)
    | .ok k=>if 3<Z k then r=(3,0)else∃b:QC Lx,b.map O0=k/\(∀p∈b,lenOf p.2=Z p.1.ts)/\r=qR d b)->iU s d r):=by
   intro r hr;unfold iU;rw[lO BT];exact hr
  have Q:Hid (∀k,FR (Dt s)=.ok k->(∀l∈k,G7 l)/\Z k<=151):=λk h=>Rb hs h
  go_enter func51,ntmps51;go_wp2_with fail
  refine(Aa S).mono ?_;intro e y G;cases i:FR (Dt s)with
  |error p=>
   rw[i]at G j;obtain⟨rfl,C⟩:=G;clear S Q;go_wp2;go_ret3;exact⟨Y,0,0,(2,p),rfl,j.out _ rfl,(λh=>by cases h),C⟩
  |ok k=>
   rw[i]at G j;obtain⟨q,t,b,rfl,FA,B2,C⟩:=G;obtain⟨hg,DT⟩:=Aa Q k i;have B0:=Ab i;subst FA;simp only[lR]at DT j⊢;(have A:Hid (∀p∈b,G7 p.1):=λp g=>hg p.1 (lZ g));have o:=Ab (B2.base (lW _));have B:=Ab C;clear S Q i hg B2 C;rw[lR]at o;by_cases h3:3<Z b
   .have ES:=Ab (Aa j (3,0) (by rw[lS h3]));clear j;go_wp2;go_ret3;exact⟨Y,0,0,(3,0),rfl,ES.out,(λh=>by cases h),Aa B⟩
   ·(have F:Z b<=3:=by omega);have E:Hid (iU s d (qR d b)):=Aa j _ (by rw[lO h3];exact⟨b,rfl,λp g=>((Aa o).len p g).2,rfl⟩);have W:=Ab (Mn q t b y (Aa o) (by omega));have D:Hid (∀x v f,Ac [] y f->f.ownsRow y.heap.size 187 3 (U x (Z (AV b)) v) (Z (AV b)) ((AV b).flatMap AS)->Calls prog 91 #[U x (Z (AV b)) v,U M (Z d) I] f λe u=>e=.returned (BP (jA d (AV b)))/\Ac [] f u):=by
     intro x v f z L;refine Mf x v (AV b) _ M I d f L ?_ (by have:=Es b;omega) ?_ ((Aa P).1.kept ((Aa B).trans z)) (Aa P).2.1 (Aa P).2.2
     .intro a i;unfold AV at i;obtain⟨p,g,rfl⟩:=lP.1 i;obtain⟨⟨EX,EY,e'⟩,_⟩:=(Aa o).len p (mh.1 g).1;exact⟨EX,_,EY,e'⟩
     .intro a i;unfold AV at i;obtain⟨p,g,rfl⟩:=lP.1 i;have h1:=((Aa o).len p (mh.1 g).1).2;have h2:=(Aa A p (mh.1 g).1).le;simp only;omega
    have H:Hid (∀f,Ac [] y f->Calls prog 93 #[U q (Z b) t] f λe u=>e=.returned (BP ((b.find? λp=>(AU p.1).any (Dv b)).map λp=>p.1.place))/\Ac [] f u):=by
     intro f z;have A0:∀p∈b,Z (AU p.1)<=1000:=λp g=>by
      have:=(Aa A p g).le;unfold AU;split<;>simp<;>omega
     refine IC q t b f ((Aa o).kept z) (by omega) (λp g R=>?_) A0 ?_
     .have:=Aa A p g;exact⟨this.some (by unfold Bl;rw[R];rfl),by have:=this.le;omega⟩
     .have h1:=Uj b;have h2:=I9 A0;omega
    have m:Hid (qR d b=match jA d (AV b)with
     |some p=>(4,p)
     |none=>match(b.find? λp=>(AU p.1).any (Dv b)).map λp=>p.1.place with
      |some p=>(5,p)
      |none=>(0,0)):=by show _=_;rfl
    (have AH:Hid (qR d b=(0,0)->∀f,Ac [] y f->gE s d f (U q (Z b) t) (Z b) (0,0)):=λR f z _=>⟨hs,b,Aa B0,Aa A,F,rfl,(Aa o).kept z,λp g=>((Aa o).len p g).2,R⟩);generalize AV b=AT at W D m;generalize jA d AT=AO at D m;generalize(b.find? λp=>(AU p.1).any (Dv b)).map (λp=>p.1.place)=UO at H m;generalize qR d b=QR at E m AH;clear j o A B0 P;(go_wp2_with fail);refine(Aa W).mono ?_;rintro e w2 ⟨x,v,rfl,L,k2⟩;have BB:=Ab (Aa D x v w2 k2 L);have BA:=Ab k2;clear L k2 W D;(go_wp2_with fail);refine(Aa BB).mono ?_;rintro e w3 ⟨rfl,k3⟩;have N:=Ab ((Aa BA).trans k3);clear k3 BB BA;cases AO with
    |some p=>
     simp only[BP];have HE:=Ab (Aa m);clear m H;go_wp2;go_ret3;exact⟨Y,0,0,4,p,rfl,by have:=Aa E;rw[Aa HE]at this;exact this,(λh=>by cases h),(Aa B).trans (Aa N)⟩
    |none=>
     simp only[BP];have A2:=Ab (Aa H w3 (Aa N));clear H;(go_wp2_with fail);refine(Aa A2).mono ?_;rintro e w4 ⟨rfl,k4⟩;have T:=Ab ((Aa N).trans k4);clear k4 A2 N;cases UO with
     |some p=>
      simp only[BP];go_wp2;go_ret3;exact⟨Y,0,0,5,p,rfl,by have:=Aa E;rw[Aa m]at this;exact this,(λh=>by cases h),(Aa B).trans (Aa T)⟩
     |none=>
      simp only[BP];go_wp2;go_ret3;exact⟨q,Z b,t,0,0,rfl,by have:=Aa E;rw[Aa m]at this;exact this,Aa AH (Aa m) _ (Aa T),(Aa B).trans (Aa T)⟩
