import Derived.Test.YtoihbhenbmffcaaGreatDoorYAG
import Derived.Test.YtoihbhenbmffcaaGreatDoorYAN
set_option linter.all false
set_option maxHeartbeats 0
open List renaming length->Z
open Option renaming none->Y,some->V
open Go.Value renaming slice->U,string->O
open Go.World renaming cell?->jF
namespace Go.Proofs.YtoihbhenbmffcaaGreatDoor
open Go.RowKit Go.Proofs.Tryz
structure Lx(w:World)(sv:Value)(fs:List Fe):Prop where
 row:w.ownsRow 0 104 2 sv (Z fs) (fs.flatMap AW)
 each:∀p∈fs,DL w p/\Z p.f.zB<=1000
def Lx.kept{w w':World}{b:Value}{fs:List Fe}(h:Lx w b fs)(k:Ac [] w w'):Lx w' b fs:=⟨Ad h.row k (by simp),λp a=>⟨(h.each p a).1.kept k,(h.each p a).2⟩⟩
def JW{w:World}{q:Value}{fs:List Fe}(h:Lx w q fs)(k:Nat)(b:k<Z fs):
  ∃g l n a f d,q=U (V ⟨g,0,Y⟩) (Z fs) l/\fs[k]=⟨⟨n,a⟩,U f (Z a) d⟩/\jF w ⟨g,k*2,Y⟩=V (O n)/\jF w ⟨g,k*2+1,Y⟩=V (U f (Z a) d):=by
 obtain⟨g,l,s,_,r⟩:=AC h.row (λc _=>rfl) k b;have i:=r k b 0 (by omega);have j:=r k b 1 (by omega);obtain⟨⟨⟨n,a⟩,t⟩,m⟩:∃p,fs[k]=p:=⟨_,rfl⟩;have o:=(h.each _ (eo b)).1;rw[m]at i j o;obtain⟨f,d,e⟩:=Ak o;simp only at e;subst e;simp[AW]at i j;exact⟨g,l,n,a,f,d,s,m,i,j⟩
structure F6(fs:List Fe)(x:CV)(p:Nat):Prop where
 le:p<=Z fs
 below:∀i (h:i<Z fs),i<p->Cx fs[i].f x<0
 zk:∀i (h:i<Z fs),p<=i->¬Cx fs[i].f x<0
def Eh(fs:List Fe)(x:CV)(p:Nat):Bool:=if h:p<Z fs then Cx fs[p].f x==0 else false
set_option maxRecDepth 100000
theorem JM(EM:Option Addr)(CL:Nat)(fs:List Fe)(x:Fe)(w:World)(h:Lx w (U EM (Z fs) CL) fs)(T:DL w x)(FO:Z x.f.zB<=1000)(HL:Z fs<=1000000)(DT:∀i j (k:i<Z fs) (hj:j<Z fs),i<=j->Cx fs[j].f x.f<0->Cx fs[i].f x.f<0):
  Calls prog 103 #[U EM (Z fs) CL,.agg (AW x).toArray,.func (.func 104) #[] #[]] w λe s=>∃p:Nat,e=.returned (.tuple #[.int .i64 p,.bool (Eh fs x.f p)])/\F6 fs x.f p/\Ac [] w s:=by
 have H:Hid (∀(p:Fe) wr,p∈fs->Ac [] w wr->Calls prog 104 #[.agg (AW p).toArray,.agg (AW x).toArray] wr λe s=>e=.returned (.int .i64 (Cx p.f x.f))/\Ac [] wr s):=λp wr hp hk=>RY p x wr ((h.each p hp).1.kept hk) (T.kept hk) (by have:=(h.each p hp).2;omega) (by omega)
 have HS:=Ab h;have G:=Ab DT;obtain⟨⟨t,u⟩,xv⟩:=x;obtain⟨z,A,CC⟩:=Ak T;simp only at CC;subst CC;simp only[AW]at H⊢;simp only at G;have r:=Ab (AI.new w [O t,U z (Z u) A] 104);have o:=Ab ((Ac.refl [] w).alloc (.cells [O t,U z (Z u) A].toArray 104));obtain⟨l,hX⟩:∃l:CV,l=⟨t,u⟩:=⟨_,rfl⟩;rw[<-hX]at G H⊢;clear h T FO DT hX;go_enter func103,ntmps103;go_wp2;change Code.wp _ _ _ _ (w.alloc (.cells [O t,U z (Z u) A].toArray 104));generalize w.alloc (.cells [O t,U z (Z u) A].toArray 104)=w1 at r o⊢;generalize w.heap.size=N at r⊢
 go_loopg [9,10] (Z fs) (λgk a b wr=>∃(c k:Nat),a=.int .i64 c/\b=.int .i64 k/\c<=k/\k<=Z fs/\gk=k-c/\Hid (∀i (h:i<Z fs),i<c->Cx fs[i].f l<0)/\Hid (∀i (h:i<Z fs),k<=i->¬Cx fs[i].f l<0)/\Hid (Ac [] w wr)/\Hid (AI wr N [O t,U z (Z u) A] 104))
 case atStart=>exact⟨0,Z fs,rfl,rfl,by omega,by omega,rfl,λi h h0=>by omega,λi h h0=>by omega,o,r⟩
 case round=>
  clear r o;obtain⟨c,k,rfl,rfl,H4,A1,EK,B2,BA,o,r⟩:=hrel;have HG:=Ab EK;clear EK;have c0:=r.cell 0;have c1:=r.cell 1;simp at c0 c1;by_cases HU:c<k
  .obtain⟨d,HP⟩:∃d,(c+k)/2=d:=⟨_,rfl⟩;(have H2:c<=d:=by omega);(have HW:d<k:=by omega);(have Q:d<Z fs:=by omega);(have H5:((c:Int)+(k:Int))>>>(1:Nat)=(d:Int):=by rw[Int.shiftRight_eq_div_pow];omega);(have H1:((c:Int)+(k:Int))/2=(d:Int):=by omega);obtain⟨g,HH,n,I,ad,cp,D,v,d0,d1⟩:=JW (HS.kept o) d Q;simp only[ei]at D;obtain⟨rfl,_,rfl⟩:=D;have m:=Ab (H fs[d] wr.drew (eo Q) o.drew);(have P:Hid (Cx fs[d].f l<0->∀i (h:i<Z fs),i<d+1->Cx fs[i].f l<0):=λW i h FA=>G i d h Q (by omega) W);(have R:Hid (¬Cx fs[d].f l<0->∀i (h:i<Z fs),d<=i->¬Cx fs[i].f l<0):=λW i h FA hh=>W (G d i Q h (by omega) hh));rw[v]at m;simp only at m;obtain⟨C,E⟩:∃C,Cx fs[d].f l=C:=⟨_,rfl⟩;rw[E]at P R;rw[v]at E;simp only at E;rw[E]at m;clear v E;by_cases BS:C<0
   .have HT:=Ab (P BS);clear P R;go_wp2_with fail
    go_region_law (go_simp;go_at_call 104;refine m.mono ?_;rintro e L ⟨rfl,q⟩;have y:=Ab (o.drew.trans q);have Ax:=Ab (r.drew.kept q (by simp));clear q)
    all_goals
     clear m;go_wp2
     go_roundg (k-(d+1))
     case measure=>have:=Aa HG;omega
     case rel=>exact⟨d+1,k,by go_num,rfl,by omega,A1,rfl,HT,BA,y,Ax⟩
   .have HT:=Ab (R BS);clear P R;go_wp2_with fail
    go_region_law (go_simp;go_at_call 104;refine m.mono ?_;rintro e L ⟨rfl,q⟩;have y:=Ab (o.drew.trans q);have Ax:=Ab (r.drew.kept q (by simp));clear q)
    all_goals
     clear m;go_wp2
     go_roundg (d-c)
     case measure=>have:=Aa HG;omega
     case rel=>exact⟨c,d,rfl,rfl,by omega,by omega,rfl,B2,HT,y,Ax⟩
  ·(have Ha:c=k:=by omega);subst Ha;have E0:Hid (F6 fs l c):=⟨A1,B2,BA⟩;by_cases F:c<Z fs
   ·(have FF:(c:Int)<(Z fs:Int):=by omega);obtain⟨g,HH,n,I,ad,cp,D,v,d0,d1⟩:=JW (HS.kept o) c F;simp only[ei]at D;obtain⟨rfl,_,rfl⟩:=D;have m:=Ab (H fs[c] wr.drew (eo F) o.drew);(have B:Hid (Eh fs l c=(Cx fs[c].f l==0)):=by show _=_;unfold Eh;rw[dif_pos F]);rw[v]at m B;simp only at m B;generalize Cx ⟨n,I⟩ l=C at m B;have EX:Hid (∀M:World,Ac [] w M->jF M ⟨g,c*2,Y⟩=V (O n)/\jF M ⟨g,c*2+1,Y⟩=V (U ad (Z I) cp)):=by
     intro M HI;obtain⟨g',HV,n',HX,H3,H0,Bx,FP,f0,f1⟩:=JW (HS.kept HI) c F;have e2:=FP.symm.trans v;simp only[ei,eD,fm,Fe.mk.injEq,CV.mk.injEq]at Bx e2;obtain⟨⟨rfl,_,_⟩,_,_⟩:=Bx;obtain⟨⟨rfl,rfl⟩,rfl,_,rfl⟩:=e2;exact⟨f0,f1⟩
    clear v;go_wp2_with fail
    go_region_held3 (λs=>jF s ⟨g,c*2,Y⟩=V (O n)/\jF s ⟨g,c*2+1,Y⟩=V (U ad (Z I) cp)/\jF s ⟨N,0,Y⟩=V (O t)/\jF s ⟨N,1,Y⟩=V (U z (Z u) A)) (go_keep) ((go_at_call 104;refine m.mono ?_;rintro e L ⟨rfl,q⟩;have y:=Ab (o.drew.trans q);have S:=r.drew.kept q (by simp);have x0:=S.cell 0;have x1:=S.cell 1;have x2:=(EX L y).1;have x3:=(EX L y).2;simp at x0 x1;clear q S))
    rename_i HB;clear HB m;go_wp2;go_ret2;refine⟨c,?_,E0,y⟩;rw[Aa B];rfl
   ·(have FF:¬(c:Int)<(Z fs:Int):=by omega);(have B:Hid (Eh fs l c=false):=by show _=_;unfold Eh;rw[dif_neg F]);(have FB:Hid (∀n,Ac [] w (wr.drewN n)):=λn=>o.drewN n);go_wp2_with fail
    go_quiet (fail)
    go_wp2;go_ret2;rw[<-Aa B];exact⟨c,rfl,E0,FB _⟩
def Ac.cellAt{w w':World}(k:Ac [] w w'){b o:Nat}{v:Value}(h:jF w ⟨b,o,Y⟩=V v):jF w' ⟨b,o,Y⟩=V v:=by
 have a:b<w.heap.size:=by
  cases hq:w.heap[b]? with
  |none=>simp[World.cell?,hq]at h
  |some x=>exact(fx.1 hq).1
 have e:=k.block b a (by simp);simp only[World.cell?,e]at h⊢;exact h
def MC{w:World}{b o:Nat}{v:Value}(h:jF w ⟨b,o,Y⟩=V v):b<w.heap.size:=by
 cases hq:w.heap[b]? with
 |none=>simp[World.cell?,hq]at h
 |some x=>exact(fx.1 hq).1
theorem MQ(B u:Nat)(k:Option Addr)(l:Nat)(fs:List Fe)(x:Fe)(w:World)(s:jF w ⟨B,u,Y⟩=V (U k (Z fs) l))(h:Lx w (U k (Z fs) l) fs)(r:DL w x)(t:Z x.f.zB<=1000)(F:Z fs<=1000000)(C:∀i j (P:i<Z fs) (Q:j<Z fs),i<=j->Cx fs[j].f x.f<0->Cx fs[i].f x.f<0):
  Calls prog 60 #[.pointer (V ⟨B,u,Y⟩),.agg (AW x).toArray] w λe n=>∃p:Nat,e=.returned (.bool (Eh fs x.f p))/\F6 fs x.f p/\Ac [] w n:=by
 have M:=MC s;have d:Hid (∀wr,Ac [] w wr->Calls prog 103 #[U k (Z fs) l,.agg (AW x).toArray,.func (.func 104) #[] #[]] wr λe n=>∃p:Nat,e=.returned (.tuple #[.int .i64 p,.bool (Eh fs x.f p)])/\F6 fs x.f p/\Ac [] wr n):=λwr v=>JM k l fs x wr (h.kept v) (r.kept v) t F C
 obtain⟨⟨a,b⟩,L⟩:=x;obtain⟨m,g,A⟩:=Ak r;simp only at A;subst A;simp only[AW]at d⊢;generalize(⟨a,b⟩:CV)=X at d⊢;have o:=(Ac.refl [] w).alloc (.cells [O a,U m (Z b) g].toArray 104);have H:=o.cellAt s;clear s;have c:=AI.new w [O a,U m (Z b) g] 104;have q:=Ab o;clear h r t C o;go_enter func60,ntmps60;go_wp2_with fail
 change Code.wp _ _ _ _ (w.alloc (.cells [O a,U m (Z b) g].toArray 104));generalize w.alloc (.cells [O a,U m (Z b) g].toArray 104)=w1 at q H c⊢;generalize w.heap.size=N at c⊢;have D:=c.cell 0;have G:=c.cell 1;simp at D G;have E:=Ab (d w1.drew q.drew);clear d c
 go_region_law (go_simp;go_at_call 103;refine E.mono ?_;rintro e I ⟨p,rfl,hcut,z⟩;have y:=Ab (And.intro hcut (q.drew.trans z));clear hcut z)
 all_goals
  go_wp2;go_ret;exact⟨p,rfl,y.1,y.2⟩
