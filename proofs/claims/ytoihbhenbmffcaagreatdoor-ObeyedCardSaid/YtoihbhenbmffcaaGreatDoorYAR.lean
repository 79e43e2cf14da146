import Derived.Test.YtoihbhenbmffcaaGreatDoorYAF
import Derived.Test.YtoihbhenbmffcaaGreatDoorYAM
set_option linter.all false
set_option maxHeartbeats 0
open List renaming length->Z
open Option renaming none->Y,some->V
open Go.Value renaming slice->U,string->O
open Go.World renaming cell?->lP
namespace Go.Proofs.YtoihbhenbmffcaaGreatDoor
open Go.RowKit Go.Proofs.Tryz
structure Iw(w:World)(sv:Value)(fs:mc EN):Prop where
 row:w.ownsRow 0 104 2 sv (Z fs) (fs.flatMap AW)
 each:∀p∈fs,DS w p/\Z p.f.zC<=1000
def Iw.kept{w w':World}{b:Value}{fs:mc EN}(h:Iw w b fs)(k:Ac [] w w'):Iw w' b fs:=⟨Ad h.row k (by simp),λp a=>⟨(h.each p a).1.kept k,(h.each p a).2⟩⟩
def ID{w:World}{q:Value}{fs:mc EN}(h:Iw w q fs)(k:Nat)(b:k<Z fs):
  ∃g l n a f d,q=U (V ⟨g,0,Y⟩) (Z fs) l/\fs[k]=⟨⟨n,a⟩,U f (Z a) d⟩/\lP w ⟨g,k*2,Y⟩=V (O n)/\lP w ⟨g,k*2+1,Y⟩=V (U f (Z a) d):=by
 obtain⟨g,l,s,_,r⟩:=AF h.row (λc _=>rfl) k b;have i:=r k b 0 (by omega);have j:=r k b 1 (by omega);obtain⟨⟨⟨n,a⟩,t⟩,m⟩:∃p,fs[k]=p:=⟨_,rfl⟩;have o:=(h.each _ (gL b)).1;rw[m]at i j o;obtain⟨f,d,e⟩:=Al o;simp only at e;subst e;simp[AW]at i j;exact⟨g,l,n,a,f,d,s,m,i,j⟩
structure Gg(fs:mc EN)(x:CG)(p:Nat):Prop where
 le:p<=Z fs
 below:∀i (h:i<Z fs),i<p->Cm fs[i].f x<0
 zl:∀i (h:i<Z fs),p<=i->¬Cm fs[i].f x<0
def Ev(fs:mc EN)(x:CG)(p:Nat):Bool:=if h:p<Z fs then Cm fs[p].f x==0 else false
set_option maxRecDepth 100000
theorem J6(EX:Option Addr)(DT:Nat)(fs:mc EN)(x:EN)(w:World)(h:Iw w (U EX (Z fs) DT) fs)(T:DS w x)(FT:Z x.f.zC<=1000)(HQ:Z fs<=1000000)(EK:∀i j (k:i<Z fs) (hj:j<Z fs),i<=j->Cm fs[j].f x.f<0->Cm fs[i].f x.f<0):
  Calls prog 103 #[U EX (Z fs) DT,.agg (AW x).toArray,.func (.func 104) #[] #[]] w λe s=>∃p:Nat,e=.returned (.tuple #[.int .i64 p,.bool (Ev fs x.f p)])/\Gg fs x.f p/\Ac [] w s:=by
 have H:Hid (∀(p:EN) wr,p∈fs->Ac [] w wr->Calls prog 104 #[.agg (AW p).toArray,.agg (AW x).toArray] wr λe s=>e=.returned (.int .i64 (Cm p.f x.f))/\Ac [] wr s):=λp wr hp hk=>SX p x wr ((h.each p hp).1.kept hk) (T.kept hk) (by have:=(h.each p hp).2;omega) (by omega)
 have HS:=Ab h;have G:=Ab EK;obtain⟨⟨t,u⟩,xv⟩:=x;obtain⟨z,A,CL⟩:=Al T;simp only at CL;subst CL;simp only[AW]at H⊢;simp only at G;have r:=Ab (mf w [O t,U z (Z u) A] 104);have o:=Ab ((me [] w).alloc (.cells [O t,U z (Z u) A].toArray 104));obtain⟨l,hX⟩:∃l:CG,l=⟨t,u⟩:=⟨_,rfl⟩;rw[<-hX]at G H⊢;clear h T FT EK hX;go_enter func103,ntmps103;go_wp2;change Code.wp _ _ _ _ (w.alloc (.cells [O t,U z (Z u) A].toArray 104));generalize w.alloc (.cells [O t,U z (Z u) A].toArray 104)=w1 at r o⊢;generalize w.heap.size=N at r⊢
 go_loopg [9,10] (Z fs) (λgk a b wr=>∃(c k:Nat),a=.int .i64 c/\b=.int .i64 k/\c<=k/\k<=Z fs/\gk=k-c/\Hid (∀i (h:i<Z fs),i<c->Cm fs[i].f l<0)/\Hid (∀i (h:i<Z fs),k<=i->¬Cm fs[i].f l<0)/\Hid (Ac [] w wr)/\Hid (AH wr N [O t,U z (Z u) A] 104))
 case atStart=>exact⟨0,Z fs,rfl,rfl,by omega,by omega,rfl,λi h h0=>by omega,λi h h0=>by omega,o,r⟩
 case round=>
  clear r o;obtain⟨c,k,rfl,rfl,H7,A2,EM,B9,BS,o,r⟩:=hrel;have HG:=Ab EM;clear EM;have c0:=r.cell 0;have c1:=r.cell 1;simp at c0 c1;by_cases HX:c<k
  .obtain⟨d,HU⟩:∃d,(c+k)/2=d:=⟨_,rfl⟩;(have H5:c<=d:=by omega);(have HZ:d<k:=by omega);(have Q:d<Z fs:=by omega);(have H8:((c:Int)+(k:Int))>>>(1:Nat)=(d:Int):=by rw[Int.shiftRight_eq_div_pow];omega);(have H4:((c:Int)+(k:Int))/2=(d:Int):=by omega);obtain⟨g,HL,n,I,ad,cp,D,v,d0,d1⟩:=ID (HS.kept o) d Q;simp only[gM]at D;obtain⟨rfl,_,rfl⟩:=D;have m:=Ab (H fs[d] wr.drew (gL Q) o.drew);(have P:Hid (Cm fs[d].f l<0->∀i (h:i<Z fs),i<d+1->Cm fs[i].f l<0):=λW i h FC=>G i d h Q (by omega) W);(have R:Hid (¬Cm fs[d].f l<0->∀i (h:i<Z fs),d<=i->¬Cm fs[i].f l<0):=λW i h FC hh=>W (G d i Q h (by omega) hh));rw[v]at m;simp only at m;obtain⟨C,E⟩:∃C,Cm fs[d].f l=C:=⟨_,rfl⟩;rw[E]at P R;rw[v]at E;simp only at E;rw[E]at m;clear v E;by_cases BT:C<0
   .have HT:=Ab (P BT);clear P R;go_wp2_with fail
    go_region_law (go_simp;go_at_call 104;refine m.mono ?_;rintro e L ⟨rfl,q⟩;have y:=Ab (o.drew.trans q);have Ax:=Ab (r.drew.kept q (by simp));clear q)
    all_goals
     clear m;go_wp2
     go_roundg (k-(d+1))
     case measure=>have:=Aa HG;omega
     case rel=>exact⟨d+1,k,by go_num,rfl,by omega,A2,rfl,HT,BS,y,Ax⟩
   .have HT:=Ab (R BT);clear P R;go_wp2_with fail
    go_region_law (go_simp;go_at_call 104;refine m.mono ?_;rintro e L ⟨rfl,q⟩;have y:=Ab (o.drew.trans q);have Ax:=Ab (r.drew.kept q (by simp));clear q)
    all_goals
     clear m;go_wp2
     go_roundg (d-c)
     case measure=>have:=Aa HG;omega
     case rel=>exact⟨c,d,rfl,rfl,by omega,by omega,rfl,B9,HT,y,Ax⟩
  ·(have HC:c=k:=by omega);subst HC;have FB:Hid (Gg fs l c):=⟨A2,B9,BS⟩;by_cases F:c<Z fs
   ·(have FO:(c:Int)<(Z fs:Int):=by omega);obtain⟨g,HL,n,I,ad,cp,D,v,d0,d1⟩:=ID (HS.kept o) c F;simp only[gM]at D;obtain⟨rfl,_,rfl⟩:=D;have m:=Ab (H fs[c] wr.drew (gL F) o.drew);(have B:Hid (Ev fs l c=(Cm fs[c].f l==0)):=by show _=_;unfold Ev;rw[dif_pos F]);rw[v]at m B;simp only at m B;generalize Cm ⟨n,I⟩ l=C at m B;have EY:Hid (∀M:World,Ac [] w M->lP M ⟨g,c*2,Y⟩=V (O n)/\lP M ⟨g,c*2+1,Y⟩=V (U ad (Z I) cp)):=by
     intro M HO;obtain⟨g',HY,n',H0,H6,H3,BA,Go,f0,f1⟩:=ID (HS.kept HO) c F;have e2:=Go.symm.trans v;simp only[gM,gT,iL,EN.mk.injEq,CG.mk.injEq]at BA e2;obtain⟨⟨rfl,_,_⟩,_,_⟩:=BA;obtain⟨⟨rfl,rfl⟩,rfl,_,rfl⟩:=e2;exact⟨f0,f1⟩
    clear v;go_wp2_with fail
    go_region_held3 (λs=>lP s ⟨g,c*2,Y⟩=V (O n)/\lP s ⟨g,c*2+1,Y⟩=V (U ad (Z I) cp)/\lP s ⟨N,0,Y⟩=V (O t)/\lP s ⟨N,1,Y⟩=V (U z (Z u) A)) (go_keep) ((go_at_call 104;refine m.mono ?_;rintro e L ⟨rfl,q⟩;have y:=Ab (o.drew.trans q);have S:=r.drew.kept q (by simp);have x0:=S.cell 0;have x1:=S.cell 1;have x2:=(EY L y).1;have x3:=(EY L y).2;simp at x0 x1;clear q S))
    rename_i HE;clear HE m;go_wp2;go_ret2;refine⟨c,?_,FB,y⟩;rw[Aa B];rfl
   ·(have FO:¬(c:Int)<(Z fs:Int):=by omega);(have B:Hid (Ev fs l c=false):=by show _=_;unfold Ev;rw[dif_neg F]);(have FF:Hid (∀n,Ac [] w (wr.drewN n)):=λn=>o.drewN n);go_wp2_with fail
    go_quiet (fail)
    go_wp2;go_ret2;rw[<-Aa B];exact⟨c,rfl,FB,FF _⟩
def Ac.cellAt{w w':World}(k:Ac [] w w'){b o:Nat}{v:Value}(h:lP w ⟨b,o,Y⟩=V v):lP w' ⟨b,o,Y⟩=V v:=by
 have a:b<w.heap.size:=by
  cases hq:w.heap[b]? with
  |none=>simp[World.cell?,hq]at h
  |some x=>exact(iK.1 hq).1
 have e:=k.block b a (by simp);simp only[World.cell?,e]at h⊢;exact h
def MS{w:World}{b o:Nat}{v:Value}(h:lP w ⟨b,o,Y⟩=V v):b<w.heap.size:=by
 cases hq:w.heap[b]? with
 |none=>simp[World.cell?,hq]at h
 |some x=>exact(iK.1 hq).1
theorem Ng(B u:Nat)(k:Option Addr)(l:Nat)(fs:mc EN)(x:EN)(w:World)(s:lP w ⟨B,u,Y⟩=V (U k (Z fs) l))(h:Iw w (U k (Z fs) l) fs)(r:DS w x)(t:Z x.f.zC<=1000)(F:Z fs<=1000000)(C:∀i j (P:i<Z fs) (Q:j<Z fs),i<=j->Cm fs[j].f x.f<0->Cm fs[i].f x.f<0):
  Calls prog 60 #[.pointer (V ⟨B,u,Y⟩),.agg (AW x).toArray] w λe n=>∃p:Nat,e=.returned (.bool (Ev fs x.f p))/\Gg fs x.f p/\Ac [] w n:=by
 have M:=MS s;have d:Hid (∀wr,Ac [] w wr->Calls prog 103 #[U k (Z fs) l,.agg (AW x).toArray,.func (.func 104) #[] #[]] wr λe n=>∃p:Nat,e=.returned (.tuple #[.int .i64 p,.bool (Ev fs x.f p)])/\Gg fs x.f p/\Ac [] wr n):=λwr v=>J6 k l fs x wr (h.kept v) (r.kept v) t F C
 obtain⟨⟨a,b⟩,L⟩:=x;obtain⟨m,g,A⟩:=Al r;simp only at A;subst A;simp only[AW]at d⊢;generalize(⟨a,b⟩:CG)=X at d⊢;have o:=(me [] w).alloc (.cells [O a,U m (Z b) g].toArray 104);have H:=o.cellAt s;clear s;have c:=mf w [O a,U m (Z b) g] 104;have q:=Ab o;clear h r t C o;go_enter func60,ntmps60;go_wp2_with fail
 change Code.wp _ _ _ _ (w.alloc (.cells [O a,U m (Z b) g].toArray 104));generalize w.alloc (.cells [O a,U m (Z b) g].toArray 104)=w1 at q H c⊢;generalize w.heap.size=N at c⊢;have D:=c.cell 0;have G:=c.cell 1;simp at D G;have E:=Ab (d w1.drew q.drew);clear d c
 go_region_law (go_simp;go_at_call 103;refine E.mono ?_;rintro e I ⟨p,rfl,hcut,z⟩;have y:=Ab (And.intro hcut (q.drew.trans z));clear hcut z)
 all_goals
  go_wp2;go_ret;exact⟨p,rfl,y.1,y.2⟩
