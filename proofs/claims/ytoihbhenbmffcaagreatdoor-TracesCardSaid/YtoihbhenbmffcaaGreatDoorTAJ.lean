import Derived.Laws.RangeAny
import Derived.Test.YtoihbhenbmffcaaGreatDoorTAH
set_option linter.all false
set_option maxHeartbeats 0
open List renaming length->Z,toArray->j2,replicate->qV
open Option renaming none->Y,some->V
open Go.Value renaming slice->U,int->X,string->O,pointer->j3,bool->q8
open Bool renaming false->K,true->jj
open Go.IntKind renaming i64->J
open Go.Obj renaming cells->j1
open Go.Ending renaming returned->kt
open Or renaming inl->lo,inr->lx
open Go renaming World->ly,Value->ml
open Go.RowKit renaming Hid->nc
open Go.World renaming cell?->oa,ownsRow->oi
open ByteArray renaming empty->q9
open Prod renaming fst->qW
open Go.Op renaming bytesLess->qZ
namespace Go.Proofs.YtoihbhenbmffcaaGreatDoor
open Go.RowKit Go.Proofs.Tryz
variable{s t:zA}{j n k b m i:Nat}{I:Int}{g:UInt8}{M:rc Nat}{w v:ly}{z:ml}{y:rc ml}{T:TypeId}{B:Bool}
def ED(s:zA)(j:Nat):Be×Nat:=
 if AA (CN s j)then(⟨2,j,s.extract j (AK AA s j)⟩,AK AA s j)
 else if Ap (CN s j)then(⟨3,j,s.extract j (AK Ap s j)⟩,AK Ap s j)
 else if CN s j=58/\DM s (j+1) 45=jj then(⟨5,j,⟨#[58,45]⟩⟩,j+2)
 else(CR j (Utf8.decode s j).1,j+(Utf8.decode s j).2)
def Fl(h:j<s.size):CN s j=s[j]:=by simp[CN,h]
def Se(s:zA)(j:Nat)(h:j<s.size):j<(ED s j).2:=by
 unfold ED;split
 .rename_i a;rw[Fl h]at a;simp only;rw[Co _ _ _ h a];have:=CD AA s (j+1);omega
 .split
  .rename_i a;rw[Fl h]at a;simp only;rw[Co _ _ _ h a];have:=CD Ap s (j+1);omega
  .split
   .simp only;omega
   .have:=JU s j h;simp only;omega
def SW(s:zA)(a:Nat):rc Be:=
 if h:Ae s a<s.size then
  have _h1:a<s.size:=Nat.lt_of_le_of_lt (B1 s a) h;have _h2:a<(ED s (Ae s a)).2:=Nat.lt_of_le_of_lt (B1 s a) (Se s (Ae s a) h)
  (ED s (Ae s a)).1::SW s (ED s (Ae s a)).2
 else[]
def Kb(h:¬Ae s n<s.size):SW s n=[]:=by unfold SW;simp[h]
def GW(b:Ae s n=j)(h:j<s.size):SW s n=(ED s j).1::SW s (ED s j).2:=by
 subst b
 conv=>lhs;unfold SW
 simp[h]
def Y3(h:Ae s n=Ae s (n+1)):SW s n=SW s (n+1):=by
 by_cases b:Ae s (n+1)<s.size
 .rw[GW h b,GW rfl b]
 .rw[Kb b,Kb (by rw[h];exact b)]
def G4(h:n<s.size)(b:DX s[n]=jj):Ae s n=Ae s (n+1):=by
 conv=>lhs;unfold Ae
 simp[h,b]
def PW(h:n<s.size)(b:DX s[n]=K):Ae s n=n:=by
 unfold Ae;simp[h,b]
def T2(h:¬n<s.size):Ae s n=n:=by
 unfold Ae;simp[h]
def Kd(s:zA)(ms:rc Be)(pos:Nat):Prop:=∀m,ms.getLast?=V m->
 (∀p r,C7 m p r=K)\/m.place+m.text.size<pos\/(m.place+m.text.size=pos/\(pos<s.size->C7 m pos (Utf8.decode s pos).1=K))
def Zk{m:Be}(h:m.place+m.text.size<n):C7 m n I=K:=by
 unfold C7;rw[mK (by omega)]
def Kd.now{b:rc Be}(h:Kd s b n)(c:n<s.size)(e:¬(((Utf8.decode s n).1:Int)=32\/((Utf8.decode s n).1:Int)=10)):
  Ni b n (Utf8.decode s n).1=b++[CR n (Utf8.decode s n).1]:=by
 unfold Ni;rw[mJ e];split
 .rename_i m d;have:C7 m n (Utf8.decode s n).1=K:=by
   rcases h m d with a|a|a
   .exact a _ _
   .exact Zk a
   .exact a.2 c
  simp[this]
 .rfl
def Kd.far{b:rc Be}(h:Kd s b n):Kd s b (n+1):=by
 intro m c;rcases h m c with a|a|a
 .exact lo a
 .exact lx (lo (by omega))
 .exact lx (lo (by omega))
def Jo{b:rc Be}{m:Be}(h:(∀p r,C7 m p r=K)\/m.place+m.text.size<n\/(m.place+m.text.size=n/\(n<s.size->C7 m n (Utf8.decode s n).1=K))):Kd s (b++[m]) n:=by
 intro c a;simp at a;subst a;exact h
def Dc(c:UInt8):AA c=jj↔97<=c.toNat/\c.toNat<=122:=by
 simp[AA,pG]
def FM(c:UInt8):Dx c=jj↔65<=c.toNat/\c.toNat<=90:=by
 simp[Dx,pG]
def CM(c:UInt8):Ap c=jj↔48<=c.toNat/\c.toNat<=57:=by
 simp[Ap,pG]
def RA(c:UInt8):DX c=jj↔c.toNat=32\/c.toNat=10:=by
 simp[DX,<-oE]
def GV(c:UInt8)(h:c.toNat<128):Utf8.encode (c.toNat:Int)=⟨#[c]⟩:=by
 unfold Utf8.encode;have a:Utf8.valid (c.toNat:Int)=jj:=by simp[Utf8.valid];omega
 simp[a,h]
def Kl(f:j<=k)(d:k<s.size):s.extract j k++⟨#[s[k]]⟩=s.extract j (k+1):=by
 apply ByteArray.ext;simp only[qN,ByteArray.data_extract];apply Array.ext
 .simp only[Array.size_append,Array.size_extract];have:s.data.size=s.size:=rfl;simp;omega
 .intro i b a;have e:s.data.size=s.size:=rfl;simp only[Array.size_append,Array.size_extract,nQ,mL,m8]at b a;by_cases g:i<k-j
  .rw[Array.getElem_append_left (by simp;omega)];simp
  ·(have c:i=k-j:=by omega);subst c;rw[Array.getElem_append_right (by simp;omega)];simp[show j+(k-j)=k by omega];rfl
def size_extract{s:zA}{j k:Nat}(a:k<=s.size):(s.extract j k).size=k-j:=by
 simp[n7];omega
def VT(s:zA)(a:Int)(p:UInt8->Bool)(g:a=2\/a=3)(e:∀c:UInt8,p c=jj->c.toNat<128/\E4 (c.toNat:Int)=a/\¬((c.toNat:Int)=32\/(c.toNat:Int)=10))(d:rc Be)(j:Nat):
  ∀(n k:Nat),s.size-k<=n->j<k->k<=s.size->Fu s k (d++[⟨a,j,s.extract j k⟩])=Fu s (AK p s k) (d++[⟨a,j,s.extract j (AK p s k)⟩])
 |n,k,hn,hjk,hk=>by
  by_cases b:k<s.size
  .cases hpk:p s[k] with
   |false=>rw[EN p s k b hpk]
   |true=>
    obtain⟨f,h,i⟩:=e _ hpk;rw[Co p s k b hpk,Gi _ b,pw s k b f];simp only;rw[PK i];have l:C7 ⟨a,j,s.extract j k⟩ k (s[k].toNat:Int)=jj:=by
     unfold C7;simp only[size_extract hk];rw[mJ (by omega),mK g];simp[h]
    rw[mK l];simp only;rw[GV _ f,Kl (by omega) b]
    match n with
    |0=>omega
    |n+1=>exact VT s a p g e d j n (k+1) (by omega) (by omega) (by omega)
  .rw[GU p s k b]
def NO(p:UInt8->Bool)(s:zA):∀(n i:Nat),s.size-i<=n->∀h:AK p s i<s.size,p s[AK p s i]=K
 |n,i,hn,h=>by
  by_cases a:i<s.size
  .cases hp:p s[i] with
   |false=>
    have e:=EN p s i a hp;simp only[e];exact hp
   |true=>
    have e:=Co p s i a hp
    match n with
    |0=>omega
    |n+1=>
     have:=NO p s n (i+1) (by omega) (by rw[<-e];exact h);simp only[e];exact this
  .have e:=GU p s i a;omega
def GZ(r:Int):E4 r=2↔97<=r/\r<=122:=by
 unfold E4;split
 .simp;omega
 .split
  .simp;omega
  .split
   .simp;omega
   .split
    .simp;omega
    .simp;omega
def Ji(r:Int):E4 r=3↔48<=r/\r<=57:=by
 unfold E4;split
 .simp;omega
 .split
  .simp;omega
  .split
   .simp;omega
   .split
    .simp;omega
    .simp;omega
def RW{p:UInt8->Bool}(e:I=2\/I=3)(l:∀c:UInt8,p c=K->E4 (c.toNat:Int)≠I)(b:k<=s.size)(n:j<=k)(g:∀h:k<s.size,p s[k]=K):
  Kd s ([⟨I,j,s.extract j k⟩]:rc Be) k:=by
 intro m a;simp at a;subst a;refine lx (lx ⟨by simp only[size_extract b];omega,λh=>?_⟩);unfold C7;simp only[size_extract b];rw[mJ (by omega),mK e];have i:=g h;simp only[nj,ne_eq];by_cases f:s[k].toNat<128
 .rw[pw s k h f];exact l _ i
 .have:=(qQ s k h (by omega)).1;intro d;rcases e with rfl|rfl
  .rw[GZ]at d;omega
  .rw[Ji]at d;omega
def Q7{a:rc Be}{m:Be}(h:Kd s [m] n):Kd s (a++[m]) n:=by
 refine Jo (h m (by simp))
def SI(h:¬(97<=n/\n<=122))(a:¬(48<=n/\n<=57)):E4 (n:Int)=4\/E4 (n:Int)=5\/E4 (n:Int)=0:=by
 unfold E4;rw[mJ (by omega),mJ (by omega)];split
 .simp
 .split<;>simp
def Q5{m:Be}(h:m.kind=4\/m.kind=0\/(m.kind=5/\m.text.toList≠[58]))(p:Nat)(r:Int):C7 m p r=K:=by
 unfold C7;split
 .rfl
 .rcases h with h|h|h
  .simp[h]
  .simp[h]
  .simp[h.1,h.2]
theorem Er(s:zA):∀(n a:Nat) (e:rc Be),s.size-a<=n->Kd s e a->Fu s a e=e++SW s a
 |n,a,e,hn,d=>by
  by_cases b:a<s.size
  .match n with
   |0=>omega
   |n+1=>
    cases hb:DX s[a] with
    |true=>
     have x:=(RA _).1 hb;rw[Gi _ b,pw s a b (by omega)];simp only;(have:Ni e a (s[a].toNat:Int)=e:=by unfold Ni;rw[mK (by omega)]);rw[this,Er s n (a+1) e (by omega) d.far,Y3 (G4 b hb)]
    |false=>
     (have x:¬(s[a].toNat=32\/s[a].toNat=10):=λh=>by rw[(RA _).2 h]at hb;cases hb);have v:=PW b hb;have y:¬(((Utf8.decode s a).1:Int)=32\/((Utf8.decode s a).1:Int)=10):=by
      by_cases i:s[a].toNat<128
      .rw[pw s a b i];simp only;omega
      .have:=(qQ s a b (by omega)).1;omega
     rw[GW v b,Gi _ b,d.now b y];have f:=Se s a b;unfold ED at f⊢;rw[Fl b]at f⊢;cases hl:AA s[a] with
     |true=>
      have q:=(Dc _).1 hl;simp only[hl,if_true]at f⊢;rw[pw s a b (by omega)];simp only;have k:CR a (s[a].toNat:Int)=⟨2,a,s.extract a (a+1)⟩:=by
       unfold CR;rw[(GZ _).2 (by omega),GV _ (by omega),<-Kl (mP _) b];simp
      rw[k,VT s 2 AA (lo rfl) (λc d=>by have:=(Dc _).1 d;exact⟨by omega,(GZ _).2 (by omega),by omega⟩) e a _ (a+1) (mP _) (by omega) (by omega),<-Co AA s a b hl];have o:=C0 AA s a (by omega);rw[Er s n _ _ (by omega) (Q7 (RW (lo rfl) (λc d g=>by rw[GZ]at g;rw[(Dc c).2 (by omega)]at d;cases d) o (by omega) (NO AA s _ a (mP _))))];simp
     |false=>
      (have q:¬(97<=s[a].toNat/\s[a].toNat<=122):=λh=>by rw[(Dc _).2 h]at hl;cases hl);cases hd:Ap s[a] with
      |true=>
       have r:=(CM _).1 hd;simp only[hl,hd,if_true,mC,if_false]at f⊢;rw[pw s a b (by omega)];simp only;have k:CR a (s[a].toNat:Int)=⟨3,a,s.extract a (a+1)⟩:=by
        unfold CR;rw[(Ji _).2 (by omega),GV _ (by omega),<-Kl (mP _) b];simp
       rw[k,VT s 3 Ap (lx rfl) (λc d=>by have:=(CM _).1 d;exact⟨by omega,(Ji _).2 (by omega),by omega⟩) e a _ (a+1) (mP _) (by omega) (by omega),<-Co Ap s a b hd];have o:=C0 Ap s a (by omega);rw[Er s n _ _ (by omega) (Q7 (RW (lx rfl) (λc d g=>by rw[Ji]at g;rw[(CM c).2 (by omega)]at d;cases d) o (by omega) (NO Ap s _ a (mP _))))];simp
      |false=>
       (have r:¬(48<=s[a].toNat/\s[a].toNat<=57):=λh=>by rw[(CM _).2 h]at hd;cases hd);simp only[hl,hd,mC,if_false]at f⊢;by_cases j:s[a]=58
       ·(have z:s[a].toNat=58:=by rw[j];rfl);rw[pw s a b (by omega)]at f⊢;simp only at f⊢;have k:CR a (s[a].toNat:Int)=⟨5,a,⟨#[58]⟩⟩:=by
         unfold CR;rw[GV _ (by omega),j];rfl
        rw[k];cases hat:DM s (a+1) 45 with
        |true=>
         have m:=Fe hat;have p:s[a+1]=45:=by
          unfold DM at hat;simpa[m] using hat
         (have u:s[a+1].toNat=45:=by rw[p];rfl);rw[mK ⟨j,rfl⟩];simp only;rw[Gi _ m,pw s (a+1) m (by omega)];simp only;rw[PK (by omega)];have t:C7 ⟨5,a,⟨#[58]⟩⟩ (a+1) (s[a+1].toNat:Int)=jj:=by
          rw[u];unfold C7;rw[mJ (by simp;rfl)];simp
         rw[mK t];simp only;rw[GV _ (by omega),p];have w:(⟨#[58]⟩:zA)++⟨#[45]⟩=⟨#[58,45]⟩:=rfl;rw[w,Er s n (a+1+1) _ (by omega) (Jo (lo (Q5 (lx (lx ⟨rfl,by simp⟩)))))];simp
        |false=>
         rw[mJ (by simp)];simp only;rw[Er s n (a+1) _ (by omega) (Jo (lx (lx ⟨by simp;rfl,λl=>?_⟩)))]
         .simp
         .unfold C7;rw[mJ (by simp;rfl)];simp;intro g;by_cases i:s[a+1].toNat<128
          .rw[pw s (a+1) l i]at g;simp only at g;unfold DM at hat;simp[l]at hat;apply hat;apply oE.1;rw[show(45:UInt8).toNat=45 from rfl]
           omega
          .have:=(qQ s (a+1) l (by omega)).1;omega
       .rw[mJ (by simp[j])]at f⊢;simp only at f⊢;refine(Er s n _ _ (by omega) (Jo (lo (Q5 ?_)))).trans (by simp);by_cases i:s[a].toNat<128
        .rw[pw s a b i];unfold CR;simp only;rcases SI q r with h|h|h
         .exact lo h
         .refine lx (lx ⟨h,?_⟩);rw[GV _ i];intro g;apply j;simpa using g
         .exact lx (lo h)
        .have:=(qQ s a b (by omega)).1;refine lx (lo ?_);unfold CR;simp only;unfold E4;rw[mJ (by omega),mJ (by omega),mJ (by omega),mJ (by omega)]
  .rw[Qe _ b,Kb (by rw[T2 b];exact b)];simp
def Dv(s:zA)(a:Nat):rc Be:=(SW s a).map JR++[Fp s]
def KN(s:zA):DH s=Dv s 0:=by
 unfold DH Dv;rw[Er s _ 0 [] (mP _) (λm a=>by simp at a)];simp
def A8(s:zA):Prop:=(∃c r,s.toList=c::r/\97<=c.toNat/\c.toNat<=122)\/fN s.toList=jj
def Dp{r:rc UInt8}(h:s.toList=g::r):CN s 0=g/\s.size=Z r+1:=by
 have b:s.size=Z r+1:=by rw[A5,h];rfl
 refine⟨?_,b⟩;unfold CN;rw[dif_pos (by omega)];obtain⟨d,a,_⟩:=Jj s (by omega);rw[h]at a;exact(List.cons.inj a).1.symm
def Mr(a:48<=g.toNat)(b:g.toNat<=57):Ap g=jj:=(CM _).2 ⟨a,b⟩
def KC(a:97<=g.toNat):Ap g=K:=by
 cases h:Ap g with
 |false=>rfl
 |true=>have:=(CM _).1 h;omega
def Rr(x:UInt8)(l m:rc UInt8):qZ (x::l) (x::m)=qZ l m:=by
 simp[qZ]
def el{x y:UInt8}(h:x.toNat<y.toNat)(l m:rc UInt8):qZ (x::l) (y::m)=jj:=by
 have:x<y:=h;simp[qZ,this]
def eh{x y:UInt8}(h:y.toNat<x.toNat)(l m:rc UInt8):qZ (x::l) (y::m)=K:=by
 have a:¬x<y:=by
  intro c;have:x.toNat<y.toNat:=c;omega
 have b:(x==y)=K:=by
  rw[nj];intro e;rw[e]at h;omega
 simp[qZ,a,b]
def Gy(h:fN s.toList=jj):(AD s).toList=qV (3-Z s.toList) 48++s.toList:=by
 have g:Jw s=jj:=by
  unfold Jw;rcases FH h with⟨c,e,b,a⟩|⟨c,d,e,b,a⟩|⟨c,d,f,e,b,a⟩<;>rw[e,Fy]<;>simp<;>omega
 have j:Z s.toList<=3:=by
  rcases FH h with⟨c,e,b,a⟩|⟨c,d,e,b,a⟩|⟨c,d,f,e,b,a⟩<;>rw[e]<;>simp
 have i:=A5 s;unfold AD;rw[g,mK rfl,Nn 3 s (by omega) (by omega),i]
def FX{r:rc UInt8}(h:s.toList=g::r)(b:97<=g.toNat):AD s=s:=by
 have a:Jw s=K:=by
  unfold Jw;rw[h,Fy];simp;omega
 unfold AD;rw[a];rfl
def IW(l:A8 s)(i:A8 t):qZ (AD s).toList (AD t).toList=Gv s t:=by
 rcases l with⟨c,r,p,q,D⟩|l
 .obtain⟨y,E⟩:=Dp p;rcases i with⟨d,m,k,o,z⟩|i
  .obtain⟨u,B⟩:=Dp k;rw[FX p q,FX k o];unfold Gv;rw[y,u,KC q,KC o];rfl
  .rw[FX p q,Gy i];unfold Gv;rw[y,KC q];rcases FH i with⟨d,e,j,h⟩|⟨d,f,e,j,h⟩|⟨d,f,g,e,j,h⟩;all_goals
    rw[(Dp e).1,Mr (by omega) h,e,p];refine Eq.trans (eh ?_ _ _) rfl
    first|omega|(show(48:UInt8).toNat<_;show 48<_;omega)
 .rcases i with⟨d,m,k,o,z⟩|i
  .obtain⟨u,B⟩:=Dp k;rw[FX k o,Gy l];unfold Gv;rw[u,KC o];rcases FH l with⟨c,e,j,h⟩|⟨c,f,e,j,h⟩|⟨c,f,g,e,j,h⟩;all_goals
    rw[(Dp e).1,Mr (by omega) h,e,k];refine Eq.trans (el ?_ _ _) rfl
    first|omega|(show(48:UInt8).toNat<_;show 48<_;omega)
  .rw[Gy l,Gy i];unfold Gv;rcases FH l with⟨c,e,j,h⟩|⟨c,f,e,j,h⟩|⟨c,f,g,e,j,h⟩<;>
    rcases FH i with⟨w,n,x,v⟩|⟨w,A,n,x,v⟩|⟨w,A,C,n,x,v⟩<;>
    rw[(Dp e).1,(Dp n).1,Mr (by omega) h,Mr (by omega) v,(Dp e).2,(Dp n).2,e,n]
   .simp[qV,Rr]
   .exact Eq.trans (Eq.trans (Rr _ _ _) (el (by show 48<_;omega) _ _)) rfl
   .exact Eq.trans (el (by show 48<_;omega) _ _) rfl
   .exact Eq.trans (Eq.trans (Rr _ _ _) (eh (by show 48<_;omega) _ _)) rfl
   .simp[qV,Rr]
   .exact Eq.trans (el (by show 48<_;omega) _ _) rfl
   .exact Eq.trans (eh (by show 48<_;omega) _ _) rfl
   .exact Eq.trans (eh (by show 48<_;omega) _ _) rfl
   .simp[qV]
def Pr(s:zA):(s.extract 1 s.size).toList=s.toList.drop 1:=by
 rw[ng,ng,ByteArray.data_extract,Array.toList_extract];have h:s.size=Z s.data.toList:=rfl;simp only[List.extract];rw[mz (by rw[nF];omega)]
def FV{r:rc UInt8}(h:s.toList=g::r):(F4 (k+1) s).toList=if 0<Z r/\g=48 then(F4 k (s.extract 1 s.size)).toList else s.toList:=by
 obtain⟨e,d⟩:=Dp h;rw[F4,e,d];by_cases a:0<Z r/\g=48
 .rw[mK ⟨by omega,a.2⟩,mK a]
 .rw[mJ (λb=>a ⟨by omega,b.2⟩),mJ a]
def GO(k:A8 s):B5 (AD s)=s:=by
 rcases k with⟨c,r,e,b,m⟩|k
 .rw[FX e b];unfold B5;have i:Jw s=K:=by
   unfold Jw;rw[e,Fy];simp;omega
  rw[i];rfl
 .have g:=Gy k;apply toList_inj;have l:(AD s).size=Z (AD s).toList:=A5 _;generalize AD s=p at g l⊢;unfold B5;rcases FH k with⟨c,e,b,m⟩|⟨c,d,e,b,m⟩|⟨c,d,f,e,b,m⟩
  .rw[e]at g⊢;have a:p.toList=[48,48,c]:=g;(have i:Jw p=jj:=by unfold Jw;rw[a,Fy];rfl);rw[i,mK rfl,l,a];show(F4 3 p).toList=[c];rw[FV a,mK ⟨by simp,rfl⟩];(have j:(p.extract 1 p.size).toList=[48,c]:=by rw[Pr,a];rfl);rw[FV j,mK ⟨by simp,rfl⟩];(have q:((p.extract 1 p.size).extract 1 (p.extract 1 p.size).size).toList=[c]:=by rw[Pr,j];rfl);rw[FV q,mJ (by simp),q]
  .rw[e]at g⊢;have a:p.toList=[48,c,d]:=g;(have i:Jw p=jj:=by unfold Jw;rw[a,Fy];rfl);(have o:c≠48:=λn=>by rw[n]at b;exact absurd b (by decide));rw[i,mK rfl,l,a];show(F4 3 p).toList=[c,d];rw[FV a,mK ⟨by simp,rfl⟩];(have j:(p.extract 1 p.size).toList=[c,d]:=by rw[Pr,a];rfl);rw[FV j,mJ (λh=>o h.2),j]
  .rw[e]at g⊢;have a:p.toList=[c,d,f]:=g;(have i:Jw p=jj:=by unfold Jw;rw[a,Fy];simp;omega);(have o:c≠48:=λn=>by rw[n]at b;exact absurd b (by decide));rw[i,mK rfl,l,a];show(F4 3 p).toList=[c,d,f];rw[FV a,mJ (λh=>o h.2),a]
def FQ(c:A8 s)(d:A8 t)(h:AD s=AD t):s=t:=by
 rw[<-GO c,<-GO d,h]
theorem Tryz.yb:(Tryz.prog.info? 217).map (λi=>(i.zero,i.size,i.bytes))=V (V (.agg #[X J 0,X J 0,X J 0,O ⟨#[]⟩,U Y 0 0,X .i32 0,O ⟨#[]⟩,X .i32 0,O ⟨#[]⟩]),9,112):=by kernel_rfl
structure PL where
 place:Int
 sort:Int
 ap:Int
 an:zA
 ts:rc AZ
 l:AZ
 r:AZ
def Lm:eu->PL
 | .inl (pl,so,p,s,ts)=>⟨pl,so,p,s,ts,A3,A3⟩
 | .inr c=>⟨c.place,c.sort,0,q9,[],c.left,c.right⟩
abbrev Mk:=PL×ml
def Ay(p:Mk):rc ml:=[X J p.1.place,X J p.1.sort,X J p.1.ap,O p.1.an,p.2,X .i32 p.1.l.v,O p.1.l.s,X .i32 p.1.r.v,O p.1.r.s]
def LP(w:ly)(base:Nat)(p:Mk):Prop:=oi w base 215 2 p.2 (Z p.1.ts) (p.1.ts.flatMap Ar)
def LP.zV{p:Mk}(h:LP w n p)(k:Ac M w v)(a:∀i,p.2.ownBlock=V i->i∉M):LP v n p:=Ag h k a
def LP.kept{w w':ly}{p:Mk}(h:LP w n p)(k:Ac M w w')(a:∀i,i∈M->i<n:=by simp):LP w' n p:=Ad h k a
def ZW.uni{g:rc Be}{e:Ending}{l:eu}(d:Hf g m=.ok (l,n))(h:ZW b z g I w e v (.ok (l,n))):
  ∃i f,e=kt (.tuple #[.agg (j2 (Ay (Lm l,U i (Z (Lm l).ts) f))),q8 jj])/\LP v w.heap.size (Lm l,U i (Z (Lm l).ts) f)/\Cw v b z g n I/\Ac [b] w v:=by
 cases l with
 |inl a=>
  obtain⟨E,x,p,s,G⟩:=a;obtain⟨A,y,rfl,r,o,k,j⟩:=h;obtain⟨i,f,rfl⟩:=Al o;exact⟨i,f,rfl,Ak o r,k,j⟩
 |inr c=>
  have u:MI g m=.ok (c,n):=by
   unfold Hf at d;split at d
   .split at d<;>simp at d
   .split at d
    .split at d<;>simp at d
    .split at d
     .simp at d
     .rename_i t;simp only[nU,ny,Sum.inr.injEq]at d;rw[t];simp[d]
  have q:=UE u;obtain⟨f,B,C,F,D⟩:=c;simp only at q;subst q;obtain⟨rfl,k,j⟩:=h;exact⟨Y,0,rfl,mS _ _ _ _,k,j⟩
def R3{b:rc Be}:∀(k a:Nat) (d:rc AZ) {c:rc AZ} {n:Nat},Z b-a<=k->G7 b a d=.ok (c,n)->a<n
 |k,a,d,c,n,hk,h=>by
  unfold G7 at h;split at h
  .rename_i e;split at h
   .cases h
   .split at h
    .match k with
     |0=>omega
     |k+1=>have:=R3 k (a+2) _ (by omega) h;omega
    .split at h
     .simp only[nU,ny]at h;omega
     .cases h
  .cases h
def Ny{b:rc Be}{a:Nat×zA×rc AZ}(h:EC b m=.ok (a,n)):m<n:=by
 unfold EC at h;split at h
 .split at h
  .split at h
   .cases h
   .rename_i c;simp only[nU,ny]at h;have:=R3 _ _ _ (mP _) c;omega
  .cases h
 .cases h
def dh{a:rc Be}{l:eo}(h:MI a m=.ok (l,n)):m<n:=by
 unfold MI at h;split at h
 .cases h
 .rename_i c;have d:=GD c;split at h
  .cases h
  .split at h
   .cases h
   .rename_i b;have q2:=GD b;simp only[nU,ny]at h;omega
def J4{b:rc Be}{l:eu}(h:Hf b m=.ok (l,n)):m<n:=by
 unfold Hf at h;split at h
 .split at h
  .cases h
  .rename_i a;have:=Ny a;simp only[nU,ny]at h;omega
 .split at h
  .split at h
   .cases h
   .rename_i a;have:=Ny a;simp only[nU,ny]at h;omega
  .split at h
   .cases h
   .rename_i a;have:=dh a;simp only[nU,ny]at h;omega
def Fo(ms:rc Be)(nx:Nat)(acc:rc PL):Except Int (rc PL×Nat):=
 if _h:nx<Z ms then
  match Hf ms nx with
  | .error p=> .error p
  | .ok (l,n)=>
   if _h2:nx<n then
    if B4 (Au ms n) Jp then Fo ms (n+1) (acc++[Lm l])else .ok (acc++[Lm l],n)
   else .error 0
 else .error 0
def Jf{a:rc Be}{c:rc PL}(h:n<Z a)(b:Hf a n=.error I):Fo a n c=.error I:=by
 unfold Fo;simp[h,b]
def OQ{a:rc Be}{acc:rc PL}{l:eu}(h:m<Z a)(b:Hf a m=.ok (l,n)):
  Fo a m acc=if B4 (Au a n) Jp then Fo a (n+1) (acc++[Lm l])else .ok (acc++[Lm l],n):=by
 have c:=J4 b
 conv=>lhs;unfold Fo
 simp[h,b,c]
structure Cf(w:ly)(base:Nat)(v:ml)(ls:rc Mk):Prop where
 row:oi w base 217 9 v (Z ls) (ls.flatMap Ay)
 each:∀p∈ls,LP w base p/\Ce p.2 v
def Cf.kept{M:rc Nat}{w w':ly}{a:Nat}{v:ml}{d:rc Mk}(h:Cf w a v d)(k:Ac M w w')(c:∀i,i∈M->i<a:=by simp):Cf w' a v d:=
 ⟨Ad h.row k c,λp b=>⟨(h.each p b).1.kept k c,(h.each p b).2⟩⟩
def Cf.base{w:ly}{d base':Nat}{v:ml}{b:rc Mk}(h:Cf w d v b)(c:base'<=d):Cf w base' v b:=
 ⟨Ak h.row c,λp a=>⟨Ak (h.each p a).1 c,(h.each p a).2⟩⟩
def Cf.nil(w:ly)(b:Nat):Cf w b (U Y 0 0) []:=⟨mS _ _ _ _,λp a=>by simp at a⟩
def iK(b:Nat)(mv:ml)(ms:rc Be)(br:Int)(w:ly)(e:Ending)(w':ly):Except Int (rc PL×Nat)->Prop
 | .ok (ls,nx)=>∃ad cp zD,e=kt (.tuple #[U ad (Z ls) cp,q8 jj])/\zD.map qW=ls/\Cf w' w.heap.size (U ad (Z ls) cp) zD/\Cw w' b mv ms nx br/\Ac [b] w w'
 | .error p=>∃nx,e=kt (.tuple #[U Y 0 0,q8 K])/\Cw w' b mv ms nx p/\Ac [b] w w'
set_option maxRecDepth 100000
theorem T7(b:Nat)(n:ml)(a:rc Be)(I:Nat)(C:Int)(w:ly)(h:Cw w b n a I C)(ok:X6 a):
  Calls prog 133 #[j3 (V ⟨b,0,Y⟩)] w λe w'=>iK b n a C w e w' (Fo a I []):=by
 obtain⟨i0,HI,Go,HK,HE⟩:=nC Tryz.yb;obtain⟨R,hR⟩:=rd (Fo a I []);rw[hR];have B2:=Ab hR;have HO:=Ab ok;have HY:=h.zO.lt;have HQ:=h.len;have BT:nc (∀k,w.heap.size<=k->n.ownBlock≠V k):=λk B e=>by have:=(h.row.lt k e).2;omega
 have h0:=Ab h;clear hR ok h;go_enter func133,ntmps133;go_wp2_with fail
 go_loopg [4] (Z a-I) (λgk o wr=>∃(j:Nat) (acc:rc Mk) (v:Option Addr) (x:Nat),o=U v (Z acc) x/\gk=Z a-j/\nc (Fo a j (acc.map qW)=R)/\nc (Cw wr b n a j C)/\nc (Cf wr w.heap.size (U v (Z acc) x) acc)/\nc (Ac [b] w wr)/\Z acc<=j)
 case atStart=>exact⟨I,[],Y,0,rfl,rfl,B2,h0,Cf.nil _ _,re _ _,by simp⟩
 case round=>
  clear h0 B2;obtain⟨j,acc,v,x,rfl,FL,D,HR,E,P,HN⟩:=hrel;have HG:=Ab FL;clear FL;have B0:=HR.lt;have HV:=P.size;go_wp2_with fail
  refine(gh b n a j C _ HR HO).mono ?_;intro e f H;cases ht:Hf a j with
  |error q=>
   rw[ht]at H;obtain⟨n9,l,⟨H5,n8,H3,FF⟩,rfl,G,z⟩:=H;(have HF:nc (R=.error q):=by show _=_;rw[<-Aa D];exact Jf B0 ht);have S:=Ab (P.trans z);have s:=Ab G;clear z ht HR E P D G;obtain⟨lp,ls,⟨la,H2,HW⟩,ll,lr⟩:=l;simp only at FF;subst FF;simp only[AE];go_wp2;go_ret2;rw[HF.out];exact⟨n9,rfl,s.zL ((re [] _).alloc _),S.alloc _⟩
  |ok r=>
   obtain⟨t,u⟩:=r;rw[ht]at H;have HM:=J4 ht;obtain⟨d,c,rfl,W,G,z⟩:=H.uni ht;have M:=Ab (OQ (acc:=acc.map qW) B0 ht);clear H ht;generalize Lm t=p at W M⊢;clear t;have H8:=z.size;have BA:=Ad E.row z (by simp;omega);(have B9:nc (∀q∈acc,LP f w.heap.size q/\Ce q.2 (U v (Z acc) x)):=λq g=>⟨(E.each q g).1.kept z (by simp;omega),(E.each q g).2⟩);have Bx:nc (Ce (U d (Z p.ts) c) (U v (Z acc) x)):=λk B he=>by
    have:=(W.lt k B).1;have:=(E.row.lt k he).2;omega
   have DT:=Ab W;have S:=Ab (P.trans z);have s:=Ab G;have E0:=G.lt;clear W G z E P HR;have FO:((f.alloc (j1 (j2 (Ay (p,U d (Z p.ts) c))) 217)).alloc (j1 (j2 (Ay (p,U d (Z p.ts) c))) 217)).heap[f.heap.size+1]?=V (j1 (j2 (Ay (p,U d (Z p.ts) c))) 217 (0,0)):=by
    have hh:=m7 (f.alloc (j1 (j2 (Ay (p,U d (Z p.ts) c))) 217)) (j1 (j2 (Ay (p,U d (Z p.ts) c))) 217);rw[show(f.alloc (j1 (j2 (Ay (p,U d (Z p.ts) c))) 217)).heap.size=f.heap.size+1 from by simp]at hh
    exact hh
   have FA:=mE (mE BA (j1 (j2 (Ay (p,U d (Z p.ts) c))) 217)) (j1 (j2 (Ay (p,U d (Z p.ts) c))) 217);(have HZ:Z acc<=1000:=by omega);simp only[Ay];go_wp2_with (at_builtin;refine mZ _ rfl (.tmp 14) (.tmp 16) _ rfl w.heap.size 217 i0 _ 9 112 underlying97 HI Go HK HE rfl (by omega) (U v (Z acc) x) (Z acc) (acc.flatMap Ay) rfl FA ⟨f.heap.size+1,0,Y⟩ 1 1 (Ay (p,U d (Z p.ts) c)) rfl rfl (mW (cs:=j2 (Ay (p,U d (Z p.ts) c))) (t:=217) (fr:=(0,0)) FO) (by simp[Value.oneCell',Ay]) (by omega) (by unfold maxLen;omega) (by omega) (by simp;omega) (f.heap.size+1+1) (by simp) ?_;intro Q AT L A1 CL AB FT)
   have F:Ac (U v (Z acc) x).ownBlock.toList f L:=(((re _ f).alloc _).alloc _).grown CL (λk B=>lo (by simp[B]));(have T:∀i∈(U v (Z acc) x).ownBlock.toList,w.heap.size<=i:=λi m=>(BA.lt i (by simpa using m)).1);have FW:n.ownBlock≠Y->∀k,n.ownBlock=V k->k<w.heap.size:=λ_ k B=>by
    by_cases g:k<w.heap.size
    .exact g
    .exact absurd B (BT k (by omega))
   have CW:Cw L b n a u C:=⟨s.zO.kept F (λA=>by have:=T b A;omega),Ag s.row F (λi m A=>by have:=T i A;exact absurd m (BT i this)),s.ap,s.lt,s.len⟩;have A0:Ac [b] w L:=S.trans' F (λi m=>lx (by have:=T i m;omega));have H4:w.heap.size<=L.heap.size:=A0.size;have EY:nc (Cf L w.heap.size (U (V ⟨Q,0,Y⟩) (Z acc+1) AT) (acc++[(p,U d (Z p.ts) c)])):=by
    refine⟨by simpa using A1,?_⟩;intro q g;rcases mF.1 g with g|g
    .obtain⟨N,h2⟩:=B9 q g;exact⟨N.zV F (λi m A=>h2 i m (by simpa using A)),Ce.zh h2 N AB (by omega)⟩
    .simp only[my]at g;subst g;have N:LP f w.heap.size (p,U d (Z p.ts) c):=Ak DT (by omega);exact⟨N.zV F (λi m A=>Bx i m (by simpa using A)),Ce.zh Bx N AB (by omega)⟩
   have CC:=Ab CW;have EX:=Ab A0;have H6:w.heap.size<=Q:=(A1.lt Q rfl).1;clear F T FW CW A0 CL AB FT A1 FO FA BA B9 Bx DT S s;refine(Ho b n a u C Jp _ CC (Au a u) (Bz E0) (HO.seen E0 Jp)).mono ?_;rintro e HX ⟨rfl,y,A2⟩;have FB:=Ab (EY.kept A2 (by simp;omega));have FP:=Ab (EX.trans A2);clear A2 EY EX CC;cases hs:B4 (Au a u) Jp with
   |true=>
    rw[hs]at y;simp only[if_true]at y;have HA:nc (Fo a (u+1) ((acc++[(p,(U d (Z p.ts) c:ml))]).map qW)=R):=by
     show _=_;rw[<-Aa D,Aa M,hs];simp
    have AH:=Ab y;clear y hs D M;go_wp2_with fail
    go_roundg (Z a-(u+1))
    case measure=>have:=Aa HG;omega
    case rel=>exact⟨u+1,acc++[(p,U d (Z p.ts) c)],V ⟨Q,0,Y⟩,AT,by simp,rfl,HA,AH,by simpa using FB,FP,by simp;omega⟩
   |false=>
    rw[hs]at y;simp only[mC,if_false]at y;have HF:nc (R=.ok (acc.map qW++[p],u)):=by
     show _=_;rw[<-Aa D,Aa M,hs];simp
    have AH:=Ab y;clear y hs D M;go_wp2;go_ret2;rw[HF.out];exact⟨V ⟨Q,0,Y⟩,AT,acc++[(p,U d (Z p.ts) c)],by simp,by simp,by simpa using(Aa FB),Aa AH,Aa FP⟩
def bD:zA:=⟨#[58]⟩
def jB:zA:=⟨#[58,45]⟩
def aV:zA:=⟨#[46]⟩
structure PC where
 hp:Int
 hn:zA
 zE:rc AZ
 body:rc PL
def O4(ms:rc Be)(n:Nat)(c:PC):Except Int (PC×Nat):=if B4 (Au ms n) aV then .ok (c,n+1)else .error (Au ms n).place
def C4(ms:rc Be)(nx:Nat):Except Int (PC×Nat):=
 match EC ms nx with
 | .error p=> .error p
 | .ok ((p,s,ts),n)=>
  if B4 (Au ms n) bD then .error (((Au ms n).place:Int)+1)
  else if B4 (Au ms n) jB then
   match Fo ms (n+1) [] with
   | .error q=> .error q
   | .ok (ls,n2)=>O4 ms n2 ⟨p,s,ts,ls⟩
  else O4 ms n ⟨p,s,ts,[]⟩
def Rt{b:rc Be}:∀(k a:Nat) (d:rc PL) {e:rc PL} {n:Nat},Z b-a<=k->Fo b a d=.ok (e,n)->a<n
 |k,a,d,e,n,hk,h=>by
  by_cases c:a<Z b
  .cases hl:Hf b a with
   |error p=>rw[Jf c hl]at h;cases h
   |ok r=>
    obtain⟨l,f⟩:=r;have g:=J4 hl;rw[OQ c hl]at h;split at h
    .match k with
     |0=>omega
     |k+1=>have:=Rt k (f+1) _ (by omega) h;omega
    .simp only[nU,ny]at h;omega
  .unfold Fo at h;rw[dif_neg c]at h;cases h
def T9{a:rc Be}{c b:PC}(h:O4 a n c=.ok (b,m)):m=n+1:=by
 unfold O4 at h;split at h
 .simp only[nU,ny]at h;exact h.2.symm
 .cases h
def Ib{a:rc Be}{c:PC}(h:C4 a m=.ok (c,n)):m<n:=by
 unfold C4 at h;split at h
 .cases h
 .rename_i d;have e:=Ny d;split at h
  .cases h
  .split at h
   .split at h
    .cases h
    .rename_i b;have q2:=Rt _ _ _ (mP _) b;have q3:=T9 h;omega
   .have q3:=T9 h;omega
def Ds(ms:rc Be)(nx:Nat)(acc:rc PC):Except Int (rc PC):=
 if _h:nx<Z ms then
  if(Au ms nx).kind==1 then .ok acc
  else match C4 ms nx with
   | .error p=> .error p
   | .ok (c,n)=>if _h2:nx<n then Ds ms n (acc++[c])else .error 0
 else .error 0
def Po{a:rc Be}{b:rc PC}(h:n<Z a)(c:((Au a n).kind==1)=jj):Ds a n b=.ok b:=by
 unfold Ds;simp[h,c]
def L1{a:rc Be}{d:rc PC}(h:n<Z a)(b:((Au a n).kind==1)=K)(c:C4 a n=.error I):Ds a n d=.error I:=by
 unfold Ds;simp[h,b,c]
def SH{a:rc Be}{acc:rc PC}{c:PC}(h:m<Z a)(d:((Au a m).kind==1)=K)(b:C4 a m=.ok (c,n)):Ds a m acc=Ds a n (acc++[c]):=by
 have e:=Ib b
 conv=>lhs;unfold Ds
 simp[h,d,b,e]
def Bi(hp:Int)(hn:zA)(hv bv:ml):rc ml:=[X J hp,O hn,hv,bv]
def AI.zP{N:Nat}(h:AI w N y T)(g:Z y=4)(d c b a:ml):AI ((((w.setCell ⟨N,0,Y⟩ d).setCell ⟨N,1,Y⟩ c).setCell ⟨N,2,Y⟩ b).setCell ⟨N,3,Y⟩ a) N [d,c,b,a] T:=by
 have f:=(((h.set 0 d).set 1 c).set 2 b).set 3 a;have e:(((y.set 0 d).set 1 c).set 2 b).set 3 a=[d,c,b,a]:=by
  match y,g with
  |[_,_,_,_],_=>rfl
 rw[e]at f;exact f
def Cw.zP{d:rc Be}(h:Cw w b z d n I){N:Nat}(a:N≠b)(c:z.ownBlock≠V N)(i g f e:ml):Cw ((((w.setCell ⟨N,0,Y⟩ i).setCell ⟨N,1,Y⟩ g).setCell ⟨N,2,Y⟩ f).setCell ⟨N,3,Y⟩ e) b z d n I:=
 (((h.other (p:=⟨N,0,Y⟩) a c i).other (p:=⟨N,1,Y⟩) a c g).other (p:=⟨N,2,Y⟩) a c f).other (p:=⟨N,3,Y⟩) a c e
def Ac.zP(h:Ac M v w){N:Nat}(b:N∈M\/v.heap.size<=N)(f e d c:ml):Ac M v ((((w.setCell ⟨N,0,Y⟩ f).setCell ⟨N,1,Y⟩ e).setCell ⟨N,2,Y⟩ d).setCell ⟨N,3,Y⟩ c):=
 (((h.setCell (p:=⟨N,0,Y⟩) b f).setCell (p:=⟨N,1,Y⟩) b e).setCell (p:=⟨N,2,Y⟩) b d).setCell (p:=⟨N,3,Y⟩) b c
structure JY(w:ly)(base:Nat)(hv bv:ml)(zE:rc AZ)(ls:rc Mk):Prop where
 head:oi w base 215 2 hv (Z zE) (zE.flatMap Ar)
 body:Cf w base bv ls
def JY.kept{M:rc Nat}{w w':ly}{a:Nat}{d e:ml}{c:rc AZ}{f:rc Mk}(h:JY w a d e c f)(k:Ac M w w')(b:∀i,i∈M->i<a:=by simp):JY w' a d e c f:=⟨Ad h.head k b,h.body.kept k b⟩
def JY.base{w:ly}{c base':Nat}{b e:ml}{a:rc AZ}{f:rc Mk}(h:JY w c b e a f)(d:base'<=c):JY w base' b e a f:=⟨Ak h.head d,h.body.base d⟩
def bJ(b:Nat)(mv:ml)(ms:rc Be)(br:Int)(w:ly)(e:Ending)(w':ly):Except Int (PC×Nat)->Prop
 | .ok (c,nx)=>∃ad cp ad2 cp2 zD,e=kt (.tuple #[.agg (j2 (Bi c.hp c.hn (U ad (Z c.zE) cp) (U ad2 (Z c.body) cp2))),q8 jj])/\zD.map qW=c.body/\JY w' (w.heap.size+1) (U ad (Z c.zE) cp) (U ad2 (Z c.body) cp2) c.zE zD/\Cw w' b mv ms nx br/\Ac [b] w w'
 | .error p=>∃nx hp hn ad n cp ad2 n2 cp2,e=kt (.tuple #[.agg (j2 (Bi hp hn (U ad n cp) (U ad2 n2 cp2))),q8 K])/\Cw w' b mv ms nx p/\Ac [b] w w'
theorem WF(b:Nat)(F:ml)(c:rc Be)(H:Nat)(L:Int)(w:ly)(h:Cw w b F c H L)(ok:X6 c)(HX:∀i,(Au c i).place<=1000000):
  Calls prog 115 #[j3 (V ⟨b,0,Y⟩)] w λe I=>bJ b F c L w e I (C4 c H):=by
 have HO:=Ab ok;have M0:=Ab HX;clear HX;have M2:=h.zO.lt;have IA:∀k,F.ownBlock=V k->k<w.heap.size:=λk hk=>(h.row.lt k hk).2
 have h1:=Ab (h.zL ((re [] w).alloc (j1 (j2 (Bi 0 ⟨#[]⟩ (U Y 0 0) (U Y 0 0))) 189)));have hN:=Ab (rf w (Bi 0 ⟨#[]⟩ (U Y 0 0) (U Y 0 0)) 189);have CW:=Ab ((re [b] w).alloc (j1 (j2 (Bi 0 ⟨#[]⟩ (U Y 0 0) (U Y 0 0))) 189));have H2:(w.alloc (j1 (j2 (Bi 0 ⟨#[]⟩ (U Y 0 0) (U Y 0 0))) 189)).heap.size=w.heap.size+1:=by simp
 clear h ok;go_enter func115,ntmps115;go_wp2_with fail
 change Calls _ _ _ (w.alloc (j1 (j2 (Bi 0 ⟨#[]⟩ (U Y 0 0) (U Y 0 0))) 189)) _;generalize w.alloc (j1 (j2 (Bi 0 ⟨#[]⟩ (U Y 0 0) (U Y 0 0))) 189)=w1 at h1 hN CW H2⊢;obtain⟨N,H6⟩:=rd w.heap.size;rw[H6]at hN M2 H2 IA⊢;have R:nc (∀k,N<=k->F.ownBlock≠V k):=λk hk e=>by have:=IA k e;omega
 clear IA;have Q:=Ab H6;clear H6;refine(PE b F c H L _ h1 HO).mono ?_;intro e D S;clear h1;cases ht:EC c H with
 |error q=>
  rw[ht]at S;obtain⟨n9,ap,an,d,LM,f,rfl,h2,k2⟩:=S;have HF:nc (C4 c H=.error q):=by show _=_;unfold C4;rw[ht]
  clear ht;have v:=hN.kept k2 (by simp;omega);have Go:=Ab (CW.trans k2);have c0:=v.cell 0;have c1:=v.cell 1;have c2:=v.cell 2;have c3:=v.cell 3;have nf:=v.frozen;have d0:=λo=>(v.alloc o).cell 0
  have d1:=λo=>(v.alloc o).cell 1
  have d2:=λo=>(v.alloc o).cell 2
  have d3:=λo=>(v.alloc o).cell 3
  have df:=λo=>(v.alloc o).frozen
  simp[Bi]at c0 c1 c2 c3 d0 d1 d2 d3;have NE:=v.lt;have q1:¬N=D.heap.size:=by omega
  have q2:¬D.heap.size=N:=by omega
  have z:=Ab h2;have G:=Ab v;clear h2 v k2 hN CW;simp only[AW];go_wp2;rw[HF.out];have AB:=(G.zP rfl (X J 0) (O ⟨#[]⟩) (U Y 0 0) (U Y 0 0)).alloc (j1 #[X J ap,O an,U d LM f] 187);refine m5 (As (P:=prog) (fn:=Tryz.f115) (p:=2) (u:=3) rfl rfl AB underlying189 rfl (by kernel_rfl)) rfl ?_;refine⟨n9,0,q9,Y,0,0,Y,0,0,rfl,?_,?_⟩
  .exact(z.zP (by omega) (R N (by omega)) _ _ _ _).zL ((re [] _).alloc _)
  .have:=Aa Q;exact(Go.zP (by right;omega) _ _ _ _).alloc _
 |ok r=>
  obtain⟨⟨p,s,a⟩,n⟩:=r;rw[ht]at S;obtain⟨tv,NB,rfl,MN,H4,h2,k2⟩:=S;obtain⟨d,f,rfl⟩:=Al H4;have Bx:nc (C4 c H=if B4 (Au c n) bD then .error (((Au c n).place:Int)+1)else if B4 (Au c n) jB then(match Fo c (n+1) [] with| .error q=> .error q| .ok (j,W)=>O4 c W ⟨p,s,a,j⟩)else O4 c n ⟨p,s,a,[]⟩):=by
   show _=_;unfold C4;rw[ht]
  clear ht;have HI:oi D (N+1) 215 2 (U d (Z a) f) (Z a) (a.flatMap Ar):=Ak H4 (by omega);have K7:nc (∀k,(U d (Z a) f).ownBlock=V k->k<D.heap.size):=λk e=>(HI.lt k e).2
  have v:=hN.kept k2 (by simp;omega);have Go:=CW.trans k2;have M6:=v.lt;have L0:N+1<=D.heap.size:=by have:=k2.size;omega
  clear H4 MN k2 hN CW H2;have CC:=Ab (h2.zL (((re [] D).alloc (j1 (j2 (AW ⟨p,s,U d (Z a) f⟩)) 187)).alloc (j1 (j2 (Bi p s (U d (Z a) f) (U Y 0 0))) 189)));have HS:=Ab ((v.alloc (j1 (j2 (AW ⟨p,s,U d (Z a) f⟩)) 187)).alloc (j1 (j2 (Bi p s (U d (Z a) f) (U Y 0 0))) 189));have HW:=Ab ((Go.alloc (j1 (j2 (AW ⟨p,s,U d (Z a) f⟩)) 187)).alloc (j1 (j2 (Bi p s (U d (Z a) f) (U Y 0 0))) 189));have FW:nc (AI ((D.alloc (j1 (j2 (AW ⟨p,s,U d (Z a) f⟩)) 187)).alloc (j1 (j2 (Bi p s (U d (Z a) f) (U Y 0 0))) 189)) (D.heap.size+1) (Bi p s (U d (Z a) f) (U Y 0 0)) 189):=by
   have hh:=rf (D.alloc (j1 (j2 (AW ⟨p,s,U d (Z a) f⟩)) 187)) (Bi p s (U d (Z a) f) (U Y 0 0)) 189;rw[show(D.alloc (j1 (j2 (AW ⟨p,s,U d (Z a) f⟩)) 187)).heap.size=D.heap.size+1 from by simp]at hh
   exact hh
  have HZ:=Ab (mE (mE HI (j1 (j2 (AW ⟨p,s,U d (Z a) f⟩)) 187)) (j1 (j2 (Bi p s (U d (Z a) f) (U Y 0 0))) 189));clear h2 v Go HI;simp only[AW];go_wp2_with fail
  change Calls _ _ _ ((D.alloc (j1 (j2 (AW ⟨p,s,U d (Z a) f⟩)) 187)).alloc (j1 (j2 (Bi p s (U d (Z a) f) (U Y 0 0))) 189)) _;generalize(D.alloc (j1 (j2 (AW ⟨p,s,U d (Z a) f⟩)) 187)).alloc (j1 (j2 (Bi p s (U d (Z a) f) (U Y 0 0))) 189)=w3 at CC HS HW FW HZ⊢;obtain⟨C,KK⟩:=rd (D.heap.size+1);have NL:N+1<C:=by omega
  have Mo:nc ((U d (Z a) f).ownBlock≠V C):=λe=>by have:=Aa K7 C e;omega
  clear K7;rw[KK]at FW⊢;clear KK L0 M6;refine(UG b F c n L bD _ CC (Au c n) (Bz CC.lt)).mono ?_;rintro e w4 ⟨rfl,k4⟩;have A0:=Ab (CC.zL k4);have FO:=Ab (HS.kept k4);have JJ:=Ab (FW.kept k4);have FC:=Ab (HW.trans (k4.mono (by simp)));have HV:=Ab (Ad HZ k4);clear CC HS FW HW HZ k4;cases hc:B4 (Au c n) bD with
  |true=>
   (have HF:nc (C4 c H=.error (((Au c n).place:Int)+1)):=by show _=_;rw[Aa Bx,hc];rfl);clear Bx hc JJ HV;(go_wp2_with fail);refine(J6 b F c n L _ A0 (Au c n) (Bz A0.lt)).mono ?_;rintro e w5 ⟨rfl,M⟩;have K9:=Ab (A0.zL M);have Ax:=Ab (FO.kept M);have T:=Ab (FC.trans (M.mono (by simp)));have HX:(Au c n).place<=1000000:=M0 n;clear A0 FO FC M;(go_wp2_with fail);refine(F1 b F c n L (((Au c n).place:Int)+1) _ K9).mono ?_;rintro e w6 ⟨rfl,h6,B⟩;have t:=Ax.kept B (by simp;omega);have BS:=Ab (T.trans B);have c0:=t.cell 0;have c1:=t.cell 1;have c2:=t.cell 2;have c3:=t.cell 3;have nf:=t.frozen;simp[Bi]at c0 c1 c2 c3;have G:=Ab t;have z:=Ab h6;clear t h6 B K9 Ax T;go_wp2;rw[HF.out];have AB:=G.zP rfl (X J 0) (O ⟨#[]⟩) (U Y 0 0) (U Y 0 0);refine m5 (As (P:=prog) (fn:=Tryz.f115) (p:=2) (u:=3) rfl rfl AB underlying189 rfl (by kernel_rfl)) rfl ?_;refine⟨n,0,q9,Y,0,0,Y,0,0,rfl,?_,?_⟩
   .exact z.zP (by omega) (R N (by omega)) _ _ _ _
   .have:=Aa Q;exact BS.zP (by right;omega) _ _ _ _
  |false=>
   have FF:=Ab hc;clear hc;(go_wp2_with fail);refine(Ho b F c n L jB _ A0 (Au c n) (Bz A0.lt) (HO.seen A0.lt jB)).mono ?_;rintro e w5 ⟨rfl,h5,M⟩;have Ax:=Ab (FO.kept M (by simp;omega));have A2:=Ab (JJ.kept M (by simp;omega));have T:=Ab (FC.trans M);have B9:=Ab (Ad HV M (by simp;omega));clear A0 FO JJ FC HV M;cases hd:B4 (Au c n) jB with
   |false=>
    rw[hd]at h5;simp only[mC,if_false]at h5;(have HD:nc (C4 c H=O4 c n ⟨p,s,a,[]⟩):=by show _=_;rw[Aa Bx,Aa FF,hd];rfl);have z:=Ab h5;have G:=Ax;have A:=A2;have HK:=T;have HP:nc (JY w5 (N+1) (U d (Z a) f) (U Y 0 0) a []):=⟨B9,Cf.nil _ _⟩;clear hd h5 Bx FF Ax A2 T B9;have DT:=z.lt;have H5:=Ab (OS b F c n L aV _ (z.zL (re [] w5).drew) (Au c n) (Bz DT) (HO.seen DT aV));have e0:=A.cell 0;have e1:=A.cell 1;have e2:=A.cell 2;have e3:=A.cell 3;simp[Bi]at e0 e1 e2 e3;(have HH:nc (∀m,Ac [b] w5.drew m->AI m N (Bi 0 ⟨#[]⟩ (U Y 0 0) (U Y 0 0)) 189/\AI m C (Bi p s (U d (Z a) f) (U Y 0 0)) 189):=λm k=>⟨G.drew.kept k (by simp;omega),A.drew.kept k (by simp;omega)⟩);(have q1:¬C=N:=by omega);(have q2:¬N=C:=by omega);clear z G A;go_wp2_with fail
    go_region_held3 (λI=>oa I ⟨C,0,Y⟩=V (X J p)/\oa I ⟨C,1,Y⟩=V (O s)/\oa I ⟨C,2,Y⟩=V (U d (Z a) f)/\oa I ⟨C,3,Y⟩=V (U Y 0 0)) (go_keep) ((go_at_call 163;refine H5.mono ?_;rintro e m ⟨rfl,l,E⟩;have g:=Aa HH m E;have f0:=g.2.cell 0;have f1:=g.2.cell 1;have f2:=g.2.cell 2;have f3:=g.2.cell 3;have p0:=g.1.cell 0;have p1:=g.1.cell 1;have p2:=g.1.cell 2;have p3:=g.1.cell 3;have pf:=g.1.frozen;simp[Bi]at f0 f1 f2 f3 p0 p1 p2 p3;have HT:=Ab (And.intro l (And.intro E g));clear l E g))
    rename_i HJ;clear HJ;go_wp2;obtain⟨l,E,g,_⟩:=HT;have AB:=g.zP rfl (X J p) (O s) (U d (Z a) f) (U Y 0 0);have FA:Ac [b] w m:=HK.drew.trans E;have KA:JY m (N+1) (U d (Z a) f) (U Y 0 0) a []:=(HP.kept (re [] w5).drew).kept E (by simp;omega);refine m5 (As (P:=prog) (fn:=Tryz.f115) (p:=2) (u:=3) rfl rfl AB underlying189 rfl (by kernel_rfl)) rfl ?_;rw[Aa HD];cases hcl:B4 (Au c n) aV with
    |true=>
     rw[hcl]at l;simp only[if_true]at l;unfold O4;rw[hcl];simp only[if_true];refine⟨d,f,Y,0,[],rfl,rfl,?_,?_,?_⟩
     .rw[Aa Q];exact KA.kept ((re [N] m).zP (by simp) _ _ _ _)
     .exact l.zP (by omega) (R N (by omega)) _ _ _ _
     .have:=Aa Q;exact FA.zP (by right;omega) _ _ _ _
    |false=>
     rw[hcl]at l;simp only[mC,if_false]at l;unfold O4;rw[hcl];simp only[mC,if_false];refine⟨n,p,s,d,Z a,f,Y,_,0,rfl,?_,?_⟩
     .exact l.zP (by omega) (R N (by omega)) _ _ _ _
     .have:=Aa Q;exact FA.zP (by right;omega) _ _ _ _
   |true=>
    rw[hd]at h5;simp only[if_true]at h5;have FT:nc (C4 c H=(match Fo c (n+1) [] with| .error q=> .error q| .ok (j,W)=>O4 c W ⟨p,s,a,j⟩)):=by show _=_;rw[Aa Bx,Aa FF,hd];rfl
    have LD:=Ab h5;clear hd h5 Bx FF;have MB:=A2.lt;(go_wp2_with fail);refine(T7 b F c (n+1) L _ LD HO).mono ?_;intro e w6 S;clear LD;cases hb:Fo c (n+1) [] with
    |error q=>
     rw[hb]at S;obtain⟨n9,rfl,h6,B⟩:=S;(have HF:nc (C4 c H=.error q):=by show _=_;rw[Aa FT,hb]);have t:=Ax.kept B (by simp;omega);have AT:=A2.kept B (by simp;omega);have BS:=Ab (T.trans B);have c0:=t.cell 0;have c1:=t.cell 1;have c2:=t.cell 2;have c3:=t.cell 3;have nf:=t.frozen;have d3:=AT.cell 3;have df:=AT.frozen;simp[Bi]at c0 c1 c2 c3 d3;(have q1:¬C=N:=by omega);(have q2:¬N=C:=by omega);have G:=Ab t;have z:=Ab h6;clear t AT h6 B hb FT Ax A2 T B9;go_wp2;rw[HF.out];have AB:=(G.zB ⟨C,3,Y⟩ (by simp;omega) (U Y 0 0)).zP rfl (X J 0) (O ⟨#[]⟩) (U Y 0 0) (U Y 0 0);refine m5 (As (P:=prog) (fn:=Tryz.f115) (p:=2) (u:=3) rfl rfl AB underlying189 rfl (by kernel_rfl)) rfl ?_;refine⟨n9,0,q9,Y,0,0,Y,0,0,rfl,?_,?_⟩
     .exact(z.other (p:=⟨C,3,Y⟩) (by simp;omega) (R C (by omega)) _).zP (by omega) (R N (by omega)) _ _ _ _
     .have:=Aa Q;exact(BS.setCell (p:=⟨C,3,Y⟩) (by right;simp;omega) _).zP (by right;omega) _ _ _ _
    |ok r=>
     obtain⟨j,W⟩:=r;rw[hb]at S;obtain⟨y,x,FL,rfl,K6,KS,h6,B⟩:=S;(have HD:nc (C4 c H=O4 c W ⟨p,s,a,j⟩):=by show _=_;rw[Aa FT,hb]);have t:=Ax.kept B (by simp;omega);have AT:=A2.kept B (by simp;omega);have BS:=T.trans B;have LC:=Ad B9 B (by simp;omega);have d3:=AT.cell 3;have df:=AT.frozen;simp[Bi]at d3;have K8:=Ab t;have KD:=Ab AT;have LB:=Ab BS;have K5:=Ab LC;have IJ:=Ab (And.intro K6 KS);have K3:=Ab h6;clear t AT BS LC K6 KS h6 B hb FT Ax A2 T B9;(go_wp2_with fail);have Nx:C<w5.heap.size:=MB;have z:=Ab (K3.other (p:=⟨C,3,Y⟩) (by simp;omega) (R C (by omega)) (U y (Z j) x));have G:=Ab (K8.zB ⟨C,3,Y⟩ (by simp;omega) (U y (Z j) x));have A:nc (AI (w6.setCell ⟨C,3,Y⟩ (U y (Z j) x)) C (Bi p s (U d (Z a) f) (U y (Z j) x)) 189):=KD.set 3 _;have HK:nc (Ac [b] w (w6.setCell ⟨C,3,Y⟩ (U y (Z j) x))):=by
      have:=Aa Q;exact LB.setCell (p:=⟨C,3,Y⟩) (by right;simp;omega) _
     have HP:nc (JY (w6.setCell ⟨C,3,Y⟩ (U y (Z j) x)) (N+1) (U d (Z a) f) (U y (Z j) x) a FL):=by
      have kC:Ac [C] w6 (w6.setCell ⟨C,3,Y⟩ (U y (Z j) x)):=(re [C] w6).setCell (by simp) _;refine⟨?_,(IJ.2.kept kC (by simp;omega)).base (by omega)⟩;exact Ah K5 (p:=⟨C,3,Y⟩) Mo _
     have HM:nc (FL.map qW=j):=IJ.1;clear K3 K8 KD LB K5 IJ d3 df;generalize w6.setCell ⟨C,3,Y⟩ (U y (Z j) x)=w7 at z G A HK HP⊢;have DT:=z.lt;have H5:=Ab (OS b F c W L aV _ (z.zL (re [] w7).drew) (Au c W) (Bz DT) (HO.seen DT aV));have e0:=A.cell 0;have e1:=A.cell 1;have e2:=A.cell 2;have e3:=A.cell 3;simp[Bi]at e0 e1 e2 e3;(have HH:nc (∀m,Ac [b] w7.drew m->AI m N (Bi 0 ⟨#[]⟩ (U Y 0 0) (U Y 0 0)) 189/\AI m C (Bi p s (U d (Z a) f) (U y (Z j) x)) 189):=λm k=>⟨G.drew.kept k (by simp;omega),A.drew.kept k (by simp;omega)⟩);(have q1:¬C=N:=by omega);(have q2:¬N=C:=by omega);clear z G A;go_wp2_with fail
     go_region_held3 (λI=>oa I ⟨C,0,Y⟩=V (X J p)/\oa I ⟨C,1,Y⟩=V (O s)/\oa I ⟨C,2,Y⟩=V (U d (Z a) f)/\oa I ⟨C,3,Y⟩=V (U y (Z j) x)) (go_keep) ((go_at_call 163;refine H5.mono ?_;rintro e m ⟨rfl,l,E⟩;have g:=Aa HH m E;have f0:=g.2.cell 0;have f1:=g.2.cell 1;have f2:=g.2.cell 2;have f3:=g.2.cell 3;have p0:=g.1.cell 0;have p1:=g.1.cell 1;have p2:=g.1.cell 2;have p3:=g.1.cell 3;have pf:=g.1.frozen;simp[Bi]at f0 f1 f2 f3 p0 p1 p2 p3;have HT:=Ab (And.intro l (And.intro E g));clear l E g))
     rename_i HJ;clear HJ;go_wp2;obtain⟨l,E,g,_⟩:=HT;have AB:=g.zP rfl (X J p) (O s) (U d (Z a) f) (U y (Z j) x);have FA:Ac [b] w m:=HK.drew.trans E;have KA:JY m (N+1) (U d (Z a) f) (U y (Z j) x) a FL:=(HP.kept (re [] w7).drew).kept E (by simp;omega);refine m5 (As (P:=prog) (fn:=Tryz.f115) (p:=2) (u:=3) rfl rfl AB underlying189 rfl (by kernel_rfl)) rfl ?_;rw[Aa HD];cases hcl:B4 (Au c W) aV with
     |true=>
      rw[hcl]at l;simp only[if_true]at l;unfold O4;rw[hcl];simp only[if_true];refine⟨d,f,y,x,FL,rfl,HM,?_,?_,?_⟩
      .rw[Aa Q];exact KA.kept ((re [N] m).zP (by simp) _ _ _ _)
      .exact l.zP (by omega) (R N (by omega)) _ _ _ _
      .have:=Aa Q;exact FA.zP (by right;omega) _ _ _ _
     |false=>
      rw[hcl]at l;simp only[mC,if_false]at l;unfold O4;rw[hcl];simp only[mC,if_false];refine⟨W,p,s,d,Z a,f,y,_,x,rfl,?_,?_⟩
      .exact l.zP (by omega) (R N (by omega)) _ _ _ _
      .have:=Aa Q;exact FA.zP (by right;omega) _ _ _ _
def BV(s:zA)(a:Nat):Be:=if Ae s a<s.size then JR (ED s (Ae s a)).1 else Fp s
def At(s:zA)(ms:rc Be)(nx a:Nat):Prop:=ms.drop nx=Dv s a
def SZ(s:zA)(a:Nat):Dv s (Ae s a)=Dv s a:=by
 unfold Dv
 congr 2
 by_cases b:Ae s a<s.size
 .rw[GW (BU s a) b,GW rfl b]
 .rw[Kb b,Kb (by rw[BU];exact b)]
def At.yB{b:rc Be}(h:At s b n m):At s b n (Ae s m):=by
 unfold At at*;rw[SZ];exact h
def At.head{b:rc Be}(h:At s b n m):Au b n=BV s m:=by
 unfold At at h;have e:b[n]?=(Dv s m)[0]?:=by rw[<-h];simp
 unfold Au BV;rw[mN,e];unfold Dv SW;split
 .simp
 .simp
def At.next{b:rc Be}(h:At s b n m)(c:Ae s m=j)(d:j<s.size):At s b (n+1) (ED s j).2:=by
 unfold At at*;rw[<-List.drop_drop,h];unfold Dv;rw[GW c d];simp
def At.lt{b:rc Be}(h:At s b n m):n<Z b:=by
 unfold At at h;have:Z (b.drop n)=Z (Dv s m):=by rw[h]
 unfold Dv at this;simp at this;omega
def I6(h:¬Ae s n<s.size):BV s n=Fp s:=by simp[BV,h]
def Is(c:Ae s n=j)(h:j<s.size)(d:AA s[j]=jj):
  BV s n=⟨if AK AA s j-j<=4 then 2 else 0,j,s.extract j (AK AA s j)⟩/\(ED s j).2=AK AA s j:=by
 have e:=C0 AA s j (by omega);have f:ED s j=(⟨2,j,s.extract j (AK AA s j)⟩,AK AA s j):=by unfold ED;rw[Fl h,d];rfl
 unfold BV;rw[c,mK h,f];refine⟨?_,rfl⟩;simp only[JR,J9,size_extract e,if_true];by_cases b:AK AA s j-j<=4<;>simp[b]
def Wy(h:j<s.size)(a:k<=s.size)(b:j<k)(c:UInt8):DM (s.extract j k) 0 c=(s[j]==c):=by
 unfold DM;rw[dif_pos (by rw[size_extract a];omega)];simp[p7]
def FU(i:Ae s n=j)(h:j<s.size)(k:AA s[j]=K)(b:Ap s[j]=jj):
  BV s n=⟨if 3<AK Ap s j-j\/(s[j]=48/\1<AK Ap s j-j)then 0 else 3,j,s.extract j (AK Ap s j)⟩/\(ED s j).2=AK Ap s j:=by
 have c:=C0 Ap s j (by omega);have f:j<AK Ap s j:=by rw[Co _ _ _ h b];have:=CD Ap s (j+1);omega
 have l:ED s j=(⟨3,j,s.extract j (AK Ap s j)⟩,AK Ap s j):=by unfold ED;rw[Fl h,k,b];rfl
 unfold BV;rw[i,mK h,l];refine⟨?_,rfl⟩;have e:J9 ⟨3,j,s.extract j (AK Ap s j)⟩= !decide (3<AK Ap s j-j\/(s[j]=48/\1<AK Ap s j-j)):=by
  unfold J9;simp only[size_extract c,Wy h c f];rw[mJ (by decide),mK trivial,nT];simp only[om,mV,py,oJ,oF,nj,ne_eq];by_cases d:s[j]=48
  .simp only[d,not_true_eq_false,true_and,and_false,or_false];omega
  .simp only[d,not_false_eq_true,false_and,and_true,or_false];omega
 unfold JR;rw[e];by_cases g:3<AK Ap s j-j\/(s[j]=48/\1<AK Ap s j-j)<;>simp[g]
def Ll{a j:Nat}(c:Ae s a=j)(h:j<s.size)(d:s[j]=58)(b:DM s (j+1) 45=jj):
  BV s a=⟨5,j,jB⟩/\(ED s j).2=j+2:=by
 have e:ED s j=(⟨5,j,jB⟩,j+2):=by unfold ED;rw[Fl h,d,b];rfl
 unfold BV;rw[c,mK h,e];exact⟨rfl,rfl⟩
def Hh{a j:Nat}(f:Ae s a=j)(h:j<s.size)(c:AA s[j]=K)(b:Ap s[j]=K)(l:¬(s[j]=58/\DM s (j+1) 45=jj))(d:s[j].toNat<128):
  BV s a=⟨E4 (s[j].toNat:Int),j,⟨#[s[j]]⟩⟩/\(ED s j).2=j+1:=by
 have i:¬(97<=s[j].toNat/\s[j].toNat<=122):=λh=>by rw[(Dc _).2 h]at c;cases c
 have g:¬(48<=s[j].toNat/\s[j].toNat<=57):=λh=>by rw[(CM _).2 h]at b;cases b
 have k:ED s j=(⟨E4 (s[j].toNat:Int),j,⟨#[s[j]]⟩⟩,j+1):=by
  unfold ED;rw[Fl h,c,b,pw s j h d];simp only[mC,if_false];rw[mJ l];simp only[CR,GV _ d]
 unfold BV;rw[f,mK h,k];refine⟨?_,rfl⟩;unfold JR J9;simp only;rcases SI i g with e|e|e<;>simp[e]
def It(f:Ae s n=j)(h:j<s.size)(c:128<=s[j].toNat):(BV s n).kind=0/\(BV s n).place=j:=by
 have g:AA s[j]=K:=by cases b:AA s[j] with|false=>rfl|true=>have:=(Dc _).1 b;omega
 have d:Ap s[j]=K:=by cases b:Ap s[j] with|false=>rfl|true=>have:=(CM _).1 b;omega
 have i:¬(s[j]=58/\DM s (j+1) 45=jj):=λb=>by rw[b.1]at c;simp at c
 have k:=(qQ s j h c).1;have e:E4 ((Utf8.decode s j).1:Int)=0:=by unfold E4;rw[mJ (by omega),mJ (by omega),mJ (by omega),mJ (by omega)]
 unfold BV ED;rw[f,mK h,Fl h,g,d];simp only[mC,if_false];rw[mJ i];simp[CR,JR,J9,e]
def D3(d:n<=s.size):(BV s n).place=Ae s n:=by
 obtain⟨j,b⟩:=rd (Ae s n);have f:=Bp s n d;by_cases h:j<s.size
 .by_cases e:s[j].toNat<128
  .cases hl:AA s[j] with
   |true=>rw[(Is b h hl).1,b]
   |false=>
    cases hd:Ap s[j] with
    |true=>rw[(FU b h hl hd).1,b]
    |false=>
     by_cases c:s[j]=58/\DM s (j+1) 45=jj
     .rw[(Ll b h c.1 c.2).1,b]
     .rw[(Hh b h hl hd c e).1,b]
  .rw[(It b h (by omega)).2,b]
 .rw[I6 (by omega)];simp only[Fp];omega
def Fw:rc UInt8:=[46,44,33,61,35,60,40,41]
def UA(h:g∈Fw):g.toNat<128/\AA g=K/\Ap g=K/\g≠58/\E4 (g.toNat:Int)=5/\DX g=K:=by
 simp only[Fw,mA,nI,or_false]at h;rcases h with rfl|rfl|rfl|rfl|rfl|rfl|rfl|rfl<;>decide
def Uf(x c:UInt8):(((⟨#[x]⟩:zA).toList==(⟨#[c]⟩:zA).toList))=(x==c):=by
 have e:∀y:UInt8,(⟨#[y]⟩:zA).toList=[y]:=λy=>by rw[ng]
 rw[e,e];simp
def EG{a:Nat}{c:UInt8}(o:c∈Fw):B4 (BV s a) ⟨#[c]⟩=DM s (Ae s a) c:=by
 obtain⟨j,d⟩:=rd (Ae s a);obtain⟨s1,s2,k,m,q,_⟩:=UA o;rw[d];unfold B4;by_cases h:j<s.size
 .have i:DM s j c=(s[j]==c):=by simp[DM,h]
  rw[i];have f:∀x:UInt8,(AA x=jj\/Ap x=jj\/128<=x.toNat)->(x==c)=K:=by
   intro x b;simp only[nj,ne_eq];rintro rfl;rcases b with b|b|b
   .rw[s2]at b;cases b
   .rw[k]at b;cases b
   .omega
  by_cases n:s[j].toNat<128
  .cases hl:AA s[j] with
   |true=>
    rw[(Is d h hl).1,f _ (lo hl)];by_cases g:AK AA s j-j<=4<;>simp[g]
   |false=>
    cases hd:Ap s[j] with
    |true=>
     rw[(FU d h hl hd).1,f _ (lx (lo hd))];by_cases g:3<AK Ap s j-j\/(s[j]=48/\1<AK Ap s j-j)<;>simp[g]
    |false=>
     by_cases e:s[j]=58/\DM s (j+1) 45=jj
     .rw[(Ll d h e.1 e.2).1];(have l:(s[j]==c)=K:=by simp[e.1,Ne.symm m]);have p:(jB.toList==(⟨#[c]⟩:zA).toList)=K:=by
       rw[show jB.toList=[58,45] from by rw[ng];rfl,show(⟨#[c]⟩:zA).toList=[c] from by rw[ng]]
       simp
      rw[l,p,pK]
     .rw[(Hh d h hl hd e n).1];simp only[Uf];cases he:(s[j]==c)with
      |false=>simp
      |true=>
       (have:s[j]=c:=by simpa using he);rw[this,q];rfl
  .have:=It d h (by omega);rw[this.1,f _ (lx (lx (by omega)))];rfl
 .rw[I6 (by omega)];simp[Fp,DM,h]
def At.take{e:rc Be}{g a:Nat}{c:UInt8}(h:At s e g a)(l:c∈Fw)(f:DM s (Ae s a) c=jj):At s e (g+1) (Ae s a+1)/\Ae s a+1<=s.size:=by
 obtain⟨s1,s2,i,j,m,_⟩:=UA l;have d:=Fe f;have b:s[Ae s a]=c:=by simpa[DM,d] using f
 have:=h.next rfl d;rw[(Hh (a:=a) rfl d (by rw[b];exact s2) (by rw[b];exact i) (by rw[b];exact λk=>j k.1) (by rw[b];exact s1)).2]at this;exact⟨this,by omega⟩
def Qo{α β:Type}(R:α->β->Prop)(s:zA)(ms:rc Be):Except Int (α×Nat)->β×Nat×Bool->Prop
 | .ok (x,n),(y,a,bd)=>bd=K/\R x y/\At s ms n a/\a<=s.size
 | .error p,(_,a,bd)=>bd=jj/\p=(a:Int)
def ct(t:AJ):AZ:=⟨(t.v.toNat:Int),Ek t.s⟩
def Kj(h:j<s.size)(a:k<=s.size)(b:j<k):∃c:0<(s.extract j k).size,(s.extract j k)[0]=s[j]:=
 ⟨by rw[size_extract a];omega,by simp[p7]⟩
def U7(c:UInt8)(h:c.toNat<128):DI ⟨#[c]⟩ 0 0=(c.toNat:Int):=by
 have a:(0:Nat)<(⟨#[c]⟩:zA).size:=Nat.zero_lt_one;rw[MQ 0 a];have b:=pw ⟨#[c]⟩ 0 a h;rw[b];unfold DI;rw[dif_neg (λd=>absurd d.1 (show¬(0+1<1)from by decide))];rfl
theorem VI{u:rc Be}(h:At s u n m)(E:m<=s.size):Qo (λt F=>t=ct F) s u (G8 (Au u n) n) (Az s m K):=by
 obtain⟨j,c⟩:=rd (Ae s m);have P:=Bp s m E;rw[h.head];unfold Az G8;simp only[mC,if_false];by_cases b:j<s.size
 .rw[dif_pos (by rw[c];exact b)];simp only[c];have p:=h.next c b;by_cases y:s[j].toNat<128
  .cases f:AA s[j] with
   |true=>
    have L:=(Dc _).1 f;have g:Dx s[j]=K:=by cases d:Dx s[j] with|false=>rfl|true=>have:=(FM _).1 d;omega
    have e:Ap s[j]=K:=by cases d:Ap s[j] with|false=>rfl|true=>have:=(CM _).1 d;omega
    obtain⟨l,k⟩:=Is c b f;rw[k]at p;(have D:Ae s j=j:=by rw[<-c];exact BU s m);(have v:j<AK AA s j:=by rw[Co _ _ _ b f];have:=CD AA s (j+1);omega);have o:=C0 AA s j (by omega);rw[l,g,e];simp only[mC,if_false,nZ,if_true];by_cases i:AK AA s j-j<=4
    .rw[I0 D rfl (by omega)];simp only[i,if_true];obtain⟨A,q⟩:=Kj b o v;refine⟨rfl,?_,p,o⟩;unfold ct;simp only;rw[<-ZI A (by rw[q];omega)];rfl
    .rw[Eh D rfl (by omega)];simp only[i,if_false];exact⟨rfl,rfl⟩
   |false=>
    cases e:Ap s[j] with
    |true=>
     have N:=(CM _).1 e;have g:Dx s[j]=K:=by cases d:Dx s[j] with|false=>rfl|true=>have:=(FM _).1 d;omega
     obtain⟨l,k⟩:=FU c b f e;rw[k]at p;have o:=C0 Ap s j (by omega);rw[l,g];simp only[mC,if_false,pj];by_cases i:3<AK Ap s j-j\/(s[j]=48/\1<AK Ap s j-j)
     .rw[mK i,mK i];exact⟨rfl,rfl⟩
     .rw[mJ i,mJ i];(have v:j<AK Ap s j:=by rw[Co _ _ _ b e];have:=CD Ap s (j+1);omega);obtain⟨A,q⟩:=Kj b o v;have C:=size_extract (s:=s) (j:=j) o;(have M:s[j].toNat=48->s[j]=48:=λh=>oE.1 h);refine⟨rfl,?_,p,o⟩;unfold ct;simp only;rw[<-cU A (by rw[q];omega) (by rw[q];omega) (by rw[C];omega) (λh=>by rw[q]at h;have H:=M h;have B:¬1<AK Ap s j-j:=λB=>i (lx ⟨H,B⟩);rw[C];omega)];rfl
    |false=>
     cases g:Dx s[j] with
     |true=>
      have w:=(FM _).1 g;(have r:¬(s[j]=58/\DM s (j+1) 45=jj):=λd=>by rw[d.1]at w;simp at w);obtain⟨l,k⟩:=Hh c b f e r y;rw[k]at p;(have I:E4 (s[j].toNat:Int)=4:=by unfold E4;rw[mJ (by omega),mJ (by omega),mK (by omega)]);rw[l,I];simp only[if_true];refine⟨rfl,?_,p,by omega⟩;rw[U7 _ y];rfl
     |false=>
      have z:AY s j K=(q9,j,jj):=Eh (by rw[<-c];exact BU s m) (EN _ _ _ b f) (lo rfl);(have w:¬(65<=s[j].toNat/\s[j].toNat<=90):=λh=>by rw[(FM _).2 h]at g;cases g);(have L:¬(97<=s[j].toNat/\s[j].toNat<=122):=λh=>by rw[(Dc _).2 h]at f;cases f);(have N:¬(48<=s[j].toNat/\s[j].toNat<=57):=λh=>by rw[(CM _).2 h]at e;cases e);simp only[mC,if_false,nZ,if_true,z];(have G:(BV s m).place=j:=by rw[D3 E,c]);have x:(BV s m).kind≠2/\(BV s m).kind≠3/\(BV s m).kind≠4:=by
       by_cases r:s[j]=58/\DM s (j+1) 45=jj
       .rw[(Ll c b r.1 r.2).1];simp
       .rw[(Hh c b f e r y).1];unfold E4;rw[mJ (by omega),mJ (by omega),mJ (by omega)];split<;>simp
      simp only[oI,x.1,x.2.1,x.2.2,qS,om,or_self,if_false,G];exact⟨rfl,rfl⟩
  .have f:AA s[j]=K:=by cases d:AA s[j] with|false=>rfl|true=>have:=(Dc _).1 d;omega
   have e:Ap s[j]=K:=by cases d:Ap s[j] with|false=>rfl|true=>have:=(CM _).1 d;omega
   have g:Dx s[j]=K:=by cases d:Dx s[j] with|false=>rfl|true=>have:=(FM _).1 d;omega
   have z:AY s j K=(q9,j,jj):=Eh (by rw[<-c];exact BU s m) (EN _ _ _ b f) (lo rfl);obtain⟨l,k⟩:=It c b (by omega);rw[g,e];simp only[mC,if_false,nZ,if_true,z,l,k];exact⟨rfl,rfl⟩
 .rw[dif_neg (by rw[c];exact b),I6 (by omega)];simp only[Fp];refine⟨rfl,?_⟩;rw[c];show(s.size:Int)=(j:Int);omega
def Dt(t:AJ):Prop:=(t.v=0/\A8 t.s)\/(65<=t.v.toNat/\t.v.toNat<=90/\t.s=q9)
def A8.size{s:zA}(h:A8 s):s.size≠0:=by
 rw[A5];rcases h with⟨c,r,h,_⟩|h
 .rw[h];simp
 .rcases FH h with⟨c,e,_⟩|⟨c,d,e,_⟩|⟨c,d,f,e,_⟩<;>rw[e]<;>simp
def Dt.zM{t:AJ}(h:Dt t):BH t:=by
 rcases h with⟨a,b⟩|h
 .exact lo ⟨a,b.size⟩
 .exact lx ⟨h.1,h.2.1⟩
def Kg(h:j<s.size)(a:k<=s.size)(f:j<k):∃r,(s.extract j k).toList=s[j]::r/\Z r+1=k-j:=by
 obtain⟨d,e⟩:=Kj h a f;obtain⟨r,c,b⟩:=Jj _ d;refine⟨r,by rw[c,e],?_⟩;rw[c,Kp _ _ _ a]at b;simpa using b
def Jn{p:UInt8->Bool}(h:AK p s i≠i):∃a:i<s.size,p s[i]=jj:=by
 by_cases a:i<s.size
 .refine⟨a,?_⟩;cases hp:p s[i] with
  |true=>rfl
  |false=>exact absurd (EN p s i a hp) h
 .exact absurd (GU p s i a) h
def LT{p:UInt8->Bool}(h:AK p s i≠i):AK p s i<=s.size:=by
 obtain⟨a,_⟩:=Jn h;exact C0 p s i (by omega)
def PQ(h:(AY s n K).2.2=K):A8 (AY s n K).1:=by
 unfold AY at h⊢;rw[mJ (by simp)]at h⊢;by_cases a:AK AA s (Ae s n)=Ae s n\/4<AK AA s (Ae s n)-Ae s n
 .rw[mK a]at h;cases h
 .rw[mJ a];have b:AK AA s (Ae s n)≠Ae s n:=λe=>a (lo e)
  obtain⟨d,c⟩:=Jn b;have f:=CD AA s (Ae s n);obtain⟨r,e,_⟩:=Kg d (LT b) (by omega:Ae s n<AK AA s (Ae s n));exact lo ⟨_,r,e,(Dc _).1 c⟩
def Vj(i:j<s.size)(g:Ap s[j]=jj)(h:¬(3<AK Ap s j-j\/(s[j]=48/\1<AK Ap s j-j))):A8 (s.extract j (AK Ap s j)):=by
 have l:=CD Ap s (j+1);rw[<-Co Ap s j i g]at l;have n:=C0 Ap s j (by omega);obtain⟨r,e,d⟩:=Kg i n (by omega:j<AK Ap s j);have f:=(CM _).1 g;have p:¬3<AK Ap s j-j:=λx=>h (lo x)
 have k:1<AK Ap s j-j->49<=s[j].toNat:=by
  intro o;have m:s[j]≠48:=λx=>h (lx ⟨x,o⟩)
  have:s[j].toNat≠48:=λx=>m (oE.1 (by rw[x];rfl))
  omega
 refine lx ?_;rw[e]
 match r,d with
 |[],_=>simp only[fN];exact oS f
 |[a],d=>simp only[fN];exact oS ⟨k (by simp at d;omega),f.2⟩
 |[a,b],d=>simp only[fN];exact oS ⟨k (by simp at d;omega),f.2⟩
 |a::b::c::r,d=>simp at d;omega
def KP(h:(Az s n K).2.2=K):Dt (Az s n K).1:=by
 unfold Az at h⊢;rw[mJ (by simp)]at h⊢;by_cases a:Ae s n<s.size
 .rw[dif_pos a]at h⊢;cases hu:Dx s[Ae s n] with
  |true=>
   rw[mK rfl];exact lx ⟨((FM _).1 hu).1,((FM _).1 hu).2,rfl⟩
  |false=>
   rw[hu,mJ (by simp)]at h;rw[mJ (by simp)];cases hd:Ap s[Ae s n] with
   |false=>
    rw[hd,nZ,mK rfl]at h;rw[nZ,mK rfl];exact lo ⟨rfl,PQ h⟩
   |true=>
    rw[hd,pj,mJ (by simp)]at h;rw[pj,mJ (by simp)];by_cases b:3<AK Ap s (Ae s n)-Ae s n\/(s[Ae s n]=48/\1<AK Ap s (Ae s n)-Ae s n)
    .rw[mK b]at h;cases h
    .rw[mJ b];exact lo ⟨rfl,Vj a hd b⟩
 .rw[dif_neg a]at h;cases h
def Y7{s:zA}{b:Nat}(h:(Cq s b).2.2=K):∀t∈(Cq s b).1,Dt t:=by
 fun_induction Cq s b with
 |case1 b hc _ _ ih=>
  intro t a;have c:(Az s b K).2.2=K:=by
   have:=hc.1;rw[mV]at this;simpa using this.1
  rcases mA.1 a with rfl|a
  .exact KP c
  .exact ih h t a
 |case2 b hc=>
  intro t a;rw[my]at a;subst a;exact KP h
def IF(h:(Bk s n B g).2=K):B=K:=by
 unfold Bk at h;cases B with
 |false=>rfl
 |true=>simp at h
structure Nc(A:Dr):Prop where
 name:A8 A.name
 args:∀t∈A.args,Dt t
def NU(h:(A4 s n K).2.2=K):Nc (A4 s n K).1:=by
 unfold A4 at h⊢;simp only at h⊢;have a:=IF h;have b:(Bk s (AY s (AF s n K) K).2.1 (AY s (AF s n K) K).2.2 40).2=K:=by
  cases hm:(Bk s (AY s (AF s n K) K).2.1 (AY s (AF s n K) K).2.2 40).2 with
  |false=>rfl
  |true=>unfold DZ at a;rw[hm,mK rfl]at a;cases a
 refine⟨PQ (IF b),?_⟩;unfold DZ at a⊢;rw[b,mJ (by simp)]at a⊢;exact Y7 a
def Dz(x:Bw):Prop:=if(x.kind==97||x.kind==33)=jj then Nc x.A else Dt x.L/\Dt x.R/\(x.kind=61\/x.kind=35\/x.kind=60)
def Ur(h:(CI s n).2.2=K):Dz (CI s n).1:=by
 unfold CI at h⊢;simp only at h⊢;cases h33:DM s (Ae s n) 33 with
 |true=>
  rw[h33,mK rfl]at h;rw[mK rfl];unfold Dz;rw[mK (by rfl)];exact NU h
 |false=>
  rw[h33,mJ (by simp)]at h;rw[mJ (by simp)];cases ho:(CT s (Ae s n)&&Gs s (Ae s n))with
  |true=>
   rw[ho,mK rfl]at h;rw[mK rfl];unfold Dz;rw[mK (by rfl)];exact NU h
  |false=>
   rw[ho,mJ (by simp)]at h;rw[mJ (by simp)];unfold In at h⊢;generalize hg:AF s (Az s (Ae s n) K).2.1 (Az s (Ae s n) K).2.2=a3 at h⊢;cases hc:(!(Az s (Ae s n) K).2.2&&(DM s a3 61||DM s a3 35||DM s a3 60))with
   |false=>rw[hc,mJ (by simp)]at h;cases h
   |true=>
    rw[hc,mK rfl]at h;rw[mK rfl];rw[mV]at hc;(have d:(Az s (Ae s n) K).2.2=K:=by simpa using hc.1);have c:CN s a3=61\/CN s a3=35\/CN s a3=60:=by
     have a:=hc.2;unfold CN;by_cases b:a3<s.size
     .rw[dif_pos b];unfold DM at a;rw[dif_pos b,dif_pos b,dif_pos b]at a;simp only[om,oI]at a;rcases a with(a|a)|a
      .exact lo a
      .exact lx (lo a)
      .exact lx (lx a)
     .unfold DM at a;rw[dif_neg b,dif_neg b,dif_neg b]at a;simp at a
    unfold Dz;(have f:(CN s a3==97||CN s a3==33)=K:=by rcases c with e|e|e<;>rw[e]<;>rfl);rw[mJ (by rw[f];simp)];exact⟨KP d,KP h,c⟩
def Ns{s:zA}{b:Nat}(h:(Bg s b).2.2=K):∀x∈(Bg s b).1,Dz x:=by
 fun_induction Bg s b with
 |case1 b hc _ _ ih=>
  intro t a;have c:(CI s b).2.2=K:=by
   have:=hc.1;rw[mV]at this;simpa using this.1
  rcases mA.1 a with rfl|a
  .exact Ur c
  .exact ih h t a
 |case2 b hc=>
  intro t a;rw[my]at a;subst a;exact Ur h
structure SR(c:Ca):Prop where
 head:Nc c.head
 body:∀x∈c.body,Dz x
def GH(h:(Df s n B).2.2=K):B=K/\∀x∈(Df s n B).1,Dz x:=by
 unfold Df at h⊢;cases hc:(!B&&DM s (AF s n B) 58)with
 |true=>
  rw[hc,mK rfl]at h;rw[mK rfl];have c:B=K:=by
   rw[mV]at hc;simpa using hc.1
  refine⟨c,?_⟩;cases h45:DM s (Cg s n B 58) 45 with
  |true=>
   rw[h45,mK rfl]at h;rw[mK rfl];exact Ns h
  |false=>rw[h45,mJ (by simp)]at h;cases h
 |false=>
  rw[hc,mJ (by simp)]at h;rw[mJ (by simp)];exact⟨h,λx b=>by cases b⟩
def DO(h:(Ao s n).2.2=K):SR (Ao s n).1:=by
 unfold Ao at h⊢;simp only at h⊢;have a:=GH (IF h);exact⟨NU a.1,a.2⟩
def S9{s:zA}{b:Nat}(h:(Aj s b).2.2=K):∀c∈(Aj s b).1,SR c:=by
 fun_induction Aj s b with
 |case1 b ha hc ih=>
  intro c a;rcases mA.1 a with rfl|a
  .exact DO hc.1
  .exact ih h c a
 |case2 b ha hc=>
  intro c a;rw[my]at a;subst a;exact DO h
 |case3 b ha=>intro c a;cases a
def MG{a:rc AV}(h:(Aj s n).2.2=K)(e:a.map AV.erase=(Aj s n).1):
  ∀c∈a,Nc c.head/\∀x∈An c,Dz x:=by
 intro c d;have b:c.erase∈(Aj s n).1:=by rw[<-e];exact mR d
 have:=S9 h _ b;exact⟨this.head,this.body⟩
def Zp{a:rc AV}(h:(Aj s n).2.2=K)(e:a.map AV.erase=(Aj s n).1):
  ∀c∈a,∀x∈An c,(x.kind==97)=jj->∀t∈x.A.args,BH t:=by
 intro c f x g b t d;have:=(MG h e c f).2 x g;unfold Dz at this;rw[b,pW,mK rfl]at this;exact(this.args t d).zM
def Tt(x:zA):Prop:=1<=Z x.toList/\Z x.toList<=4/\∀c∈x.toList,AA c=jj
def lw(x:zA):Prop:=1<=Z x.toList/\Z x.toList<=3/\(∀c∈x.toList,Ap c=jj)/\∀r,x.toList=48::r->r=[]
def Gn(x:zA):Prop:=Tt x\/lw x
def EV(s:zA)(i:Nat)(l:rc UInt8):Prop:=i+l.length<=s.size/\∀k (h:k<l.length) (h2:i+k<s.size),s[i+k]=l[k]
def EV.left{l m:rc UInt8}(h:EV s i (l++m)):EV s i l:=by
 have a:=h.1;rw[mM]at a;refine⟨by omega,λk c b=>?_⟩;rw[h.2 k (by rw[mM];omega) b,nV c]
def EV.right{l m:rc UInt8}(h:EV s i (l++m)):EV s (i+Z l) m:=by
 have a:=h.1;rw[mM]at a;refine⟨by omega,λk c b=>?_⟩;have:=h.2 (Z l+k) (by rw[mM];omega) (by omega);rw[List.getElem_append_right (by omega)]at this;simp only[Nat.add_sub_cancel_left]at this;rw[<-this]
 congr 1
 omega
def MD(s:zA):EV s 0 s.toList:=by
 refine⟨by rw[<-A5];omega,λk b a=>?_⟩;simp only[ng,nE];simp[ByteArray.getElem_eq_getElem_data]
def EV.head{l:rc UInt8}(h:EV s i (g::l)):∃b:i<s.size,s[i]=g:=by
 have a:=h.1;simp only[mL]at a;have:=h.2 0 (by simp) (by omega);exact⟨by omega,by simpa using this⟩
def Su{p:UInt8->Bool}{s:zA}:∀(l:rc UInt8) (i:Nat) (c:UInt8) (m:rc UInt8),EV s i (l++c::m)->(∀x∈l,p x=jj)->p c=K->AK p s i=i+Z l
 |[],i,c,m,h,_,hc=>by
  obtain⟨a,e⟩:=h.head;rw[EN p s i a (by rw[e];exact hc)];rfl
 |x::l,i,c,m,h,hl,hc=>by
  obtain⟨a,e⟩:=(show EV s i (x::(l++c::m))from h).head;rw[Co p s i a (by rw[e];exact hl x (by simp))];have b:EV s (i+1) (l++c::m):=(show EV s i ([x]++(l++c::m))from h).right;rw[Su l (i+1) c m b (λy d=>hl y (by simp[d])) hc,mL];omega
def Ih{s x:zA}(h:EV s i x.toList):s.extract i (i+Z x.toList)=x:=by
 apply toList_inj;have a:=h.1;simp only[ng]at h a⊢;apply List.ext_getElem
 .simp at a⊢;omega
 .intro k d b;have c:=h.2 k b (by simp at b a⊢;omega);rw[<-c];simp[ByteArray.getElem_eq_getElem_data]
def Qj(h:AA g=jj):DX g=K/\Dx g=K/\Ap g=K:=by
 unfold AA at h;unfold DX Dx Ap;simp only[mV,py]at h;have b:97<=g.toNat:=h.1;refine⟨?_,?_,?_⟩
 .rw[pu,nj,nj];constructor
  .rintro rfl;exact absurd b (by decide)
  .rintro rfl;exact absurd b (by decide)
 .rw[Bool.and_eq_false_iff];exact lx (nW (λa=>by have:g.toNat<=90:=a;omega))
 .rw[Bool.and_eq_false_iff];exact lx (nW (λa=>by have:g.toNat<=57:=a;omega))
def Wm(h:Ap g=jj):DX g=K/\Dx g=K:=by
 unfold Ap at h;unfold DX Dx;simp only[mV,py]at h;have a:48<=g.toNat:=h.1;have b:g.toNat<=57:=h.2;refine⟨?_,?_⟩
 .rw[pu,nj,nj];constructor
  .rintro rfl;exact absurd a (by decide)
  .rintro rfl;exact absurd a (by decide)
 .rw[Bool.and_eq_false_iff];exact lo (nW (λb=>by have:65<=g.toNat:=b;omega))
def EI{c:UInt8}{m:rc UInt8}(h:EV s i (c::m))(a:DX c=K):Ae s i=i:=by
 obtain⟨b,e⟩:=h.head;rw[Ae,dif_pos b,mJ (by rw[e,a];simp)]
def Gn.first(h:Gn s):∃c r,s.toList=c::r/\DX c=K/\Dx c=K/\((Ap c=K/\Tt s)\/(Ap c=jj/\lw s)):=by
 cases hx:s.toList with
 |nil=>
  rcases h with h|h
  .have:=h.1;rw[hx]at this;simp at this
  .have:=h.1;rw[hx]at this;simp at this
 |cons c r=>
  refine⟨c,r,rfl,?_⟩;rcases h with h|h
  .have e:=h.2.2 c (by rw[hx];simp);obtain⟨b,a,f⟩:=Qj e;exact⟨b,a,lo ⟨f,h⟩⟩
  .have d:=h.2.2.1 c (by rw[hx];simp);obtain⟨b,a⟩:=Wm d;exact⟨b,a,lx ⟨d,h⟩⟩
def Pp{c:UInt8}{m:rc UInt8}(a:Tt t)(h:EV s i (t.toList++c::m))(j:AA c=K):AY s i K=(t,i+Z t.toList,K):=by
 obtain⟨d,r,e,f,_⟩:=Gn.first (lo a);have g:Ae s i=i:=EI (c:=d) (m:=r++c::m) (by rw[e]at h;exact h) f;have b:=Su t.toList i c m h a.2.2 j;have l:=a.1;have k:=a.2.1;rw[I0 g b (by omega),Ih h.left]
def iD(c:UInt8):Prop:=AA c=K/\Ap c=K/\DX c=K
def UD{m:rc UInt8}(y:Gn t)(h:EV s i (t.toList++g::m))(n:iD g):Az s i K=(⟨0,t⟩,i+Z t.toList,K):=by
 obtain⟨d,r,e,u,p,a⟩:=y.first;have k:EV s i (d::(r++g::m)):=by rw[e]at h;exact h
 have v:Ae s i=i:=EI k u;obtain⟨w,b⟩:=k.head;unfold Az;rw[mJ (by simp)];simp only[v];rw[dif_pos w,mJ (by rw[b,p];simp)];rcases a with⟨a,o⟩|⟨a,f⟩
 .rw[mK (by rw[b,a];rfl),Pp o h n.1]
 .have q:=Su t.toList i g m h f.2.2.1 n.2.1;have A:=f.1;have z:=f.2.1;rw[mJ (by rw[b,a];simp),q,mJ ?_,Ih h.left];rintro (j|⟨j,l⟩)
  .omega
  .rw[b]at j;have:=f.2.2.2 r (by rw[e,j]);rw[e,this]at l;simp at l
def Eo:rc zA->rc UInt8
 |[]=>[]
 |[x]=>x.toList
 |x::y::l=>x.toList++44::Eo (y::l)
def jI:iD 44:=by unfold iD;decide
def jT:iD 41:=by unfold iD;decide
def O2{m:rc UInt8}(h:EV s i (g::m))(d:UInt8):DM s i d=(g==d):=by
 obtain⟨b,a⟩:=h.head;unfold DM;rw[dif_pos b,a]
def O7{s:zA}:∀(a:rc zA) (x:zA) (i:Nat) (m:rc UInt8),(∀y∈x::a,Gn y)->EV s i (Eo (x::a)++41::m)->Cq s i=((x::a).map (AJ.mk 0),i+Z (Eo (x::a)),K)
 |[],x,i,m,hx,h=>by
  have f:=UD (hx x (by simp)) (show EV s i (x.toList++41::m)from h) jT;have b:EV s (i+Z x.toList) (41::m):=(show EV s i (x.toList++41::m)from h).right;have d:AF s (i+Z x.toList) K=i+Z x.toList:=by unfold AF;rw[mJ (by simp),EI b jT.2.2]
  have c:DM s (i+Z x.toList) 44=K:=by rw[O2 b];rfl
  rw[Cq];simp only[f,d,c];rw[dif_neg (by simp)];unfold Cg;rw[d,c,mJ (by simp)];rfl
 |y::a,x,i,m,hx,h=>by
  have g:EV s i (x.toList++44::(Eo (y::a)++41::m)):=by
   (have e:Eo (x::y::a)++41::m=x.toList++44::(Eo (y::a)++41::m):=by rw[Eo];simp);rw[<-e];exact h
  have f:=UD (hx x (by simp)) g jI;have b:EV s (i+Z x.toList) (44::(Eo (y::a)++41::m)):=g.right;have d:AF s (i+Z x.toList) K=i+Z x.toList:=by unfold AF;rw[mJ (by simp),EI b jI.2.2]
  have c:DM s (i+Z x.toList) 44=jj:=by rw[O2 b];rfl
  have n:Cg s (i+Z x.toList) K 44=i+Z x.toList+1:=by unfold Cg;rw[d,c];rfl
  have k:EV s (i+Z x.toList+1) (Eo (y::a)++41::m):=(show EV s (i+Z x.toList) ([44]++(Eo (y::a)++41::m))from b).right;have ih:=O7 a y (i+Z x.toList+1) m (λz j=>hx z (by simp at j⊢;exact lx j)) k;have p:=h.1;have l:i<s.size:=by
   obtain⟨o,_⟩:=b.head;omega
  rw[Cq];simp only[f,d,c,n,ih];rw[dif_pos ⟨by simp,by omega,l⟩];simp only[mU,ny,and_true,true_and];rw[Eo];simp;omega
structure GL(f:Af):Prop where
 name:Tt f.name
 args:∀x∈f.args,Gn x
 ne:f.args≠[]
def R1:∀(a:rc zA) (x s:zA),(Gr (s++x) jj a).toList=s.toList++Eo (x::a)
 |[],x,s=>by rw[Gr,CK];rfl
 |y::a,x,s=>by
  rw[Gr,mK rfl];have h:=R1 a y (s++x++⟨#[44]⟩);rw[h,CK,CK,Eo];simp[ng]
def E2{f:Af}(h:f.args≠[]):(Bv f).toList=f.name.toList++(40::(Eo f.args++[41,46])):=by
 unfold Bv;cases hf:f.args with
 |nil=>exact absurd hf h
 |cons x xs=>
  rw[Gr,mJ (by simp),CK,R1 xs x (f.name++⟨#[40]⟩),CK];simp[ng]
def Ir{m:rc UInt8}(h:EV s i (g::m))(d:DX g=K):Bk s i K g=(i+1,K):=by
 have a:AF s i K=i:=by unfold AF;rw[mJ (by simp),EI h d]
 have b:DM s i g=jj:=by rw[O2 h];simp
 unfold Bk Cg;rw[a,b];rfl
def WL{f:Af}(h:GL f)(a:EV s i (Bv f).toList):Ao s i=(⟨⟨f.name,f.args.map (AJ.mk 0),i⟩,[],i⟩,i+(Bv f).size,K):=by
 have w:(Bv f).size=Z f.name.toList+Z (Eo f.args)+3:=by
  rw[A5,E2 h.ne];simp;omega
 rw[E2 h.ne]at a;obtain⟨d,r,e,u,_⟩:=Gn.first (lo h.name);have k:Ae s i=i:=EI (c:=d) (m:=r++40::(Eo f.args++[41,46])) (by rw[e]at a;exact a) u;have z:=Pp h.name a (by decide);have j:EV s (i+Z f.name.toList) (40::(Eo f.args++[41,46])):=a.right;have B:=Ir j (by decide);have b:EV s (i+Z f.name.toList+1) (Eo f.args++41::[46]):=(show EV s (i+Z f.name.toList) ([40]++(Eo f.args++[41,46]))from j).right;have p:Cq s (i+Z f.name.toList+1)=(f.args.map (AJ.mk 0),i+Z f.name.toList+1+Z (Eo f.args),K):=by
  cases hf:f.args with
  |nil=>exact absurd hf h.ne
  |cons x xs=>rw[hf]at b;exact O7 xs x _ [46] (λy A=>h.args y (by rw[hf];exact A)) b
 have l:=b.right;have v:=Ir l (by decide);have o:A4 s i K=(⟨f.name,f.args.map (AJ.mk 0),i⟩,i+Z f.name.toList+1+Z (Eo f.args)+1,K):=by
  unfold A4;have C:AF s i K=i:=by unfold AF;rw[mJ (by simp),k]
  simp only[C,z,B];unfold DZ;simp only[mC,if_false,p,v]
 have g:EV s (i+Z f.name.toList+1+Z (Eo f.args)+1) [46]:=(show EV s (i+Z f.name.toList+1+Z (Eo f.args)) ([41]++[46])from l).right;have t:AF s (i+Z f.name.toList+1+Z (Eo f.args)+1) K=i+Z f.name.toList+1+Z (Eo f.args)+1:=by unfold AF;rw[mJ (by simp),EI g (by decide)]
 have n:Df s (i+Z f.name.toList+1+Z (Eo f.args)+1) K=([],i+Z f.name.toList+1+Z (Eo f.args)+1,K):=by
  have D:DM s (i+Z f.name.toList+1+Z (Eo f.args)+1) 58=K:=by rw[O2 g];rfl
  unfold Df Cg;rw[t,D];rfl
 have q:=Ir g (by decide);unfold Ao;simp only[k,o,n,q];rw[w]
 congr 1
 congr 1
 omega
def W4{f:Af}(h:GL f):Ao (Bv f) 0=(⟨⟨f.name,f.args.map (AJ.mk 0),0⟩,[],0⟩,(Bv f).size,K):=by
 rw[WL h (MD _),nE]
end Go.Proofs.YtoihbhenbmffcaaGreatDoor
namespace Go.Proofs.YtoihbhenbmffcaaGreatDoor
open Go.RowKit Go.Proofs.Tryz
structure Vo(p T:zA):Prop where
 lt:p.size<T.size
 same:∀k (h:k<p.size) (h2:k<T.size),T[k]=p[k]
 blank:∀h:p.size<T.size,T[p.size]=32
variable {p T:zA}
def Vo.yB(h:Vo p T){i:Nat}(a:Ae p i<p.size):Ae T i=Ae p i:=by
 have b:=h.lt
 fun_induction Ae p i with
 |case1 i h1 hb ih=>
  rw[G4 (show i<T.size by omega) (by rw[h.same i h1 (by omega)];exact hb)];exact ih a
 |case2 i h1 hb=>exact PW (show i<T.size by omega) (by rw[h.same i h1 (by omega)];simpa using hb)
 |case3 i h1=>omega
def Vo.gapEnd(h:Vo p T){i:Nat}(a:Ae p i=p.size):Ae T i=Ae T p.size:=by
 have b:=h.lt
 fun_induction Ae p i with
 |case1 i h1 hb ih=>
  rw[G4 (show i<T.size by omega) (by rw[h.same i h1 (by omega)];exact hb)];exact ih a
 |case2 i h1 hb=>omega
 |case3 i h1=>rw[a]
def Vo.run(h:Vo p T){q:UInt8->Bool}(b:q 32=K){i:Nat}(c:i<=p.size):AK q T i=AK q p i:=by
 have a:=h.lt
 fun_induction AK q p i with
 |case1 i h1 hp ih=>
  rw[Co q T i (by omega) (by rw[h.same i h1 (by omega)];exact hp)];exact ih (by omega)
 |case2 i h1 hp=>exact EN q T i (by omega) (by rw[h.same i h1 (by omega)];simpa using hp)
 |case3 i h1=>
  obtain rfl:i=p.size:=by omega
  exact EN q T _ a (by rw[h.blank a];exact b)
def Vo.at_(h:Vo p T){c:UInt8}(d:c≠32){j:Nat}(f:j<=p.size):DM T j c=DM p j c:=by
 have b:=h.lt;unfold DM;rw[dif_pos (show j<T.size by omega)];by_cases a:j<p.size
 .rw[dif_pos a,h.same j a (by omega)]
 .obtain rfl:j=p.size:=by omega
  rw[dif_neg a,h.blank b];simpa using λe=>d e.symm
def Vo.ext(h:Vo p T){j k:Nat}(d:k<=p.size):T.extract j k=p.extract j k:=by
 have c:=h.lt;apply ByteArray.ext_getElem
 .simp only[n7];omega
 .intro i b a;simp only[n7]at b a;rw[p7,p7];exact h.same _ (by omega) (by omega)
def Vo.word(h:Vo p T){i:Nat}(b:(AY p i K).2.2=K):AY T i K=AY p i K/\Ae p i<p.size:=by
 by_cases a:AK AA p (Ae p i)=Ae p i\/4<AK AA p (Ae p i)-Ae p i
 .rw[Eh rfl rfl a]at b;cases b
 .have c:Ae p i<p.size:=(Jn (λe=>a (lo e))).1;refine⟨?_,c⟩;have d:=h.yB c;have f:=h.run (q:=AA) (by decide) (i:=Ae p i) (by omega);rw[I0 rfl rfl a,I0 d f a,h.ext (LT (λe=>a (lo e)))]
def Vo.term(h:Vo p T){i:Nat}(a:(Az p i K).2.2=K):Az T i K=Az p i K/\Ae p i<p.size:=by
 have k:=h.lt;have b:Ae p i<p.size:=by
  by_cases b:Ae p i<p.size
  .exact b
  .unfold Az at a;rw[mJ (by simp),dif_neg b]at a;cases a
 refine⟨?_,b⟩;have f:=h.yB b;have j:=h.same _ b (by omega);have g:=h.run (q:=Ap) (by decide) (i:=Ae p i) (by omega);unfold Az at a⊢;simp only[f];rw[mJ (by simp),dif_pos b]at a⊢;rw[mJ (by simp),dif_pos (show Ae p i<T.size by omega)];rw[j,g];by_cases d:Dx p[Ae p i]=jj
 .rw[mK d,mK d]
 .rw[mJ d]at a⊢;rw[mJ d];by_cases c:(!Ap p[Ae p i])=jj
  .rw[mK c]at a⊢;rw[mK c,(h.word a).1]
  .rw[mJ c]at a⊢;rw[mJ c];by_cases e:3<AK Ap p (Ae p i)-Ae p i\/(p[Ae p i]=48/\1<AK Ap p (Ae p i)-Ae p i)
   .rw[mK e]at a;cases a
   .rw[mJ e,mJ e,h.ext (C0 _ _ _ (by omega))]
def Vo.see(h:Vo p T){c:UInt8}(f:c≠32){a:Nat}(d:Ae p a<p.size):AF T a K=AF p a K/\DM T (AF T a K) c=DM p (AF p a K) c/\Cg T a K c=Cg p a K c:=by
 have e:AF T a K=AF p a K:=by unfold AF;simpa using h.yB d
 have b:DM T (AF T a K) c=DM p (AF p a K) c:=by rw[e];exact h.at_ f (by unfold AF;simp;omega)
 refine⟨e,b,?_⟩;unfold Cg;rw[b,e]
def QB{a:Nat}{c:UInt8}(h:DM p (AF p a K) c=jj):Ae p a<p.size:=Fe h
def Vo.must(h:Vo p T){c:UInt8}(j:c≠32){a:Nat}{b:Bool}(d:(Bk p a b c).2=K):Bk T a b c=Bk p a b c/\b=K/\Ae p a<p.size:=by
 have i:=IF d;subst i;have g:DM p (AF p a K) c=jj:=by
  unfold Bk at d;simpa using d
 have e:=QB g;obtain⟨l,k,f⟩:=h.see j e;refine⟨?_,rfl,e⟩;unfold Bk;rw[k,f]
def Sv{i j:Nat}(b:i<=j)(a:Ae p j<p.size):Ae p i<p.size:=by
 fun_induction Ae p i with
 |case1 i h1 hb ih=>
  by_cases e:i=j
  .subst e;rw[G4 h1 hb]at a;exact a
  .exact ih (by omega)
 |case2 i h1 hb=>exact h1
 |case3 i h1=>have:=B1 p j;omega
def Vo.args(h:Vo p T){i:Nat}(o:i<=p.size)(a:(Cq p i).2.2=K)(b:Ae p (Cq p i).2.1<p.size):Cq T i=Cq p i:=by
 have v:=h.lt
 fun_induction Cq p i with
 |case1 i hc n k ih=>
  have d:(Az p i K).2.2=K:=by
   have:=hc.1;rw[mV]at this;simpa using this.1
  obtain⟨f,_⟩:=h.term d;have q:=hc.1;rw[d]at q;have l:DM p (AF p (Az p i K).2.1 K) 44=jj:=by simpa using q
  obtain⟨u,g,j⟩:=h.see (c:=44) (by decide) (QB l);have e:Az T i K=((Az p i K).1,(Az p i K).2.1,K):=by rw[f];exact Prod.ext rfl (Prod.ext rfl d)
  have m:=(N1 e (by omega) (by rw[g,l];rfl)).2;rw[j]at m;rw[d]at ih a b⊢;rw[m,ih (Dm _ _ _ _ (Fh _ _ _ o)) a b]
 |case2 i hc=>
  simp only at a b;rw[a]at b;have t:i<p.size:=by
   have n:=OO a;have k:=Fh p i K o;omega
  have n:=OO a;have k:=DE p (Az p i K).2.1 (Az p i K).2.2 44;have r:DM p (AF p (Az p i K).2.1 K) 44=K:=by
   cases hq:DM p (AF p (Az p i K).2.1 K) 44 with
   |false=>rfl
   |true=>exact absurd ⟨by rw[a,hq];rfl,by omega,t⟩ hc
  obtain⟨f,_⟩:=h.term a;have s:Ae p (Az p i K).2.1<p.size:=Sv (DE p (Az p i K).2.1 K 44) b;obtain⟨u,g,j⟩:=h.see (c:=44) (by decide) s;have e:Az T i K=((Az p i K).1,(Az p i K).2.1,K):=by rw[f];exact Prod.ext rfl (Prod.ext rfl a)
  rw[KJ e (by rw[g,r];rfl),j,a]
def Vo.atom(h:Vo p T){i:Nat}(q:i<=p.size)(d:(A4 p i K).2.2=K):A4 T i K=A4 p i K/\Ae p i<p.size:=by
 unfold A4 at d⊢;simp only at d⊢;obtain⟨n,a,b⟩:=h.must (c:=41) (by decide) d;have f:(Bk p (AY p (AF p i K) K).2.1 (AY p (AF p i K) K).2.2 40).2=K:=by
  cases hm:(Bk p (AY p (AF p i K) K).2.1 (AY p (AF p i K) K).2.2 40).2 with
  |false=>rfl
  |true=>unfold DZ at a;rw[hm]at a;cases a
 obtain⟨m,o,r⟩:=h.must (c:=40) (by decide) f;obtain⟨k,g⟩:=h.word o;have e:Ae p i<p.size:=by
  have:AF p i K=Ae p i:=rfl;rw[this,BU]at g;exact g
 have j:AF T i K=AF p i K:=h.yB e;refine⟨?_,e⟩;have l:DZ T (Bk p (AY p (AF p i K) K).2.1 (AY p (AF p i K) K).2.2 40)=DZ p (Bk p (AY p (AF p i K) K).2.1 (AY p (AF p i K) K).2.2 40):=by
  unfold DZ at a b⊢;rw[f]at a b⊢;simp only[mC,if_false]at a b⊢;exact h.args (Dm _ _ _ _ (Hk _ _ _ (Gx _ _ _ q))) a b
 rw[j,k,m,l,n]
theorem Vo.lit(h:Vo p T){i:Nat}(D:i<=p.size)(a:(CI p i).2.2=K):CI T i=CI p i:=by
 have F:=h.lt;have l:Ae p i<p.size:=by
  unfold CI at a;simp only at a;by_cases d:DM p (Ae p i) 33=jj
  .exact Fe d
  .rw[mJ d]at a;by_cases b:(CT p (Ae p i)&&Gs p (Ae p i))=jj
   .rw[mK b]at a;have:=(h.atom (Bp _ _ D) a).2
    rwa [BU]at this
   .rw[mJ b]at a;have y:(Az p (Ae p i) K).2.2=K:=by
     unfold In at a;cases hq:(Az p (Ae p i) K).2.2 with
     |false=>rfl
     |true=>rw[hq]at a;simp at a
    have:=(h.term y).2
    rwa [BU]at this
 have E:=h.yB l;have C:=h.at_ (c:=33) (by decide) (j:=Ae p i) (by omega);have A:CT T (Ae p i)=CT p (Ae p i):=by
  unfold CT;rw[dif_pos l,dif_pos (show Ae p i<T.size by omega),h.same _ l (by omega)]
 unfold CI at a⊢;simp only at a⊢;rw[E,C];by_cases d:DM p (Ae p i) 33=jj
 .rw[mK d]at a⊢;rw[mK d,(h.atom (by omega) a).1]
 .rw[mJ d]at a⊢;rw[mJ d,A];have r:(CT p (Ae p i)&&Gs p (Ae p i))=K->(Az p (Ae p i) K).2.2=K/\Ae p (Az p (Ae p i) K).2.1<p.size:=by
   intro b;rw[b,mJ (by simp)]at a;unfold In at a;cases hq:(Az p (Ae p i) K).2.2 with
   |true=>rw[hq]at a;simp at a
   |false=>
    refine⟨rfl,?_⟩;rw[hq]at a;have f:(DM p (AF p (Az p (Ae p i) K).2.1 K) 61||DM p (AF p (Az p (Ae p i) K).2.1 K) 35||DM p (AF p (Az p (Ae p i) K).2.1 K) 60)=jj:=by
     cases hy:(DM p (AF p (Az p (Ae p i) K).2.1 K) 61||DM p (AF p (Az p (Ae p i) K).2.1 K) 35||DM p (AF p (Az p (Ae p i) K).2.1 K) 60)with
     |true=>rfl
     |false=>rw[hy]at a;simp at a
    simp only[om]at f;rcases f with(f|f)|f<;>exact QB f
  have v:CT p (Ae p i)=jj->Gs T (Ae p i)=Gs p (Ae p i):=by
   intro m;have n:(AY p (Ae p i) K).2.2=K/\Ae p (AY p (Ae p i) K).2.1<p.size:=by
    cases hop:Gs p (Ae p i)with
    |true=>
     unfold Gs at hop;rw[mV]at hop;(have s:(AY p (Ae p i) K).2.2=K:=by simpa using hop.1);have e:=hop.2;rw[s]at e;exact⟨s,QB e⟩
    |false=>
     obtain⟨g,k⟩:=r (by rw[hop,pK]);have x:AA p[Ae p i]=jj:=by
      unfold CT at m;rw[dif_pos l]at m;exact m
     obtain⟨_,B,t⟩:=Qj x;have z:(Az p (Ae p i) K).2=(AY p (Ae p i) K).2:=by
      unfold Az;simp only[BU];rw[mJ (by simp),dif_pos l,B,mJ (by simp),t,mK (by rfl)]
     rw[z]at g k;exact⟨g,k⟩
   obtain⟨u,_⟩:=h.word n.1;obtain⟨_,s2,_⟩:=h.see (c:=40) (by decide) n.2;unfold Gs;rw[u,n.1,s2]
  have w:(CT p (Ae p i)&&Gs T (Ae p i))=(CT p (Ae p i)&&Gs p (Ae p i)):=by
   cases m:CT p (Ae p i)with
   |false=>rfl
   |true=>rw[v m]
  rw[w];by_cases b:(CT p (Ae p i)&&Gs p (Ae p i))=jj
  .rw[mK b]at a⊢;rw[mK b,(h.atom (by omega) a).1]
  .rw[mJ b]at a⊢;rw[mJ b];obtain⟨g,k⟩:=r (by simpa using b);obtain⟨t1,_⟩:=h.term g;rw[t1];rw[g]at a⊢;obtain⟨s1,_,_⟩:=h.see (c:=61) (by decide) k;rw[s1];(have o:AF p (Az p (Ae p i) K).2.1 K<=p.size:=by unfold AF;simp;omega);have q:AF p (Az p (Ae p i) K).2.1 K<p.size:=k;unfold In at a⊢;rw[h.at_ (c:=61) (by decide) o,h.at_ (c:=35) (by decide) o,h.at_ (c:=60) (by decide) o];by_cases e:(!false&&(DM p (AF p (Az p (Ae p i) K).2.1 K) 61||DM p (AF p (Az p (Ae p i) K).2.1 K) 35||DM p (AF p (Az p (Ae p i) K).2.1 K) 60))=jj
   .rw[mK e]at a⊢;rw[mK e,(h.term a).1];have:CN T (AF p (Az p (Ae p i) K).2.1 K)=CN p (AF p (Az p (Ae p i) K).2.1 K):=by
     unfold CN;rw[dif_pos q,dif_pos (show _<T.size by omega),h.same _ q (by omega)]
    rw[this]
   .rw[mJ e,mJ e]
def Vo.body(h:Vo p T){i:Nat}(d:i<=p.size)(a:(Bg p i).2.2=K)(b:Ae p (Bg p i).2.1<p.size):Bg T i=Bg p i:=by
 have v:=h.lt
 fun_induction Bg p i with
 |case1 i hc r l ih=>
  have e:(CI p i).2.2=K:=by
   have:=hc.1;rw[mV]at this;simpa using this.1
  have g:=h.lit d e;have o:=hc.1;rw[e]at o;have m:DM p (AF p (CI p i).2.1 K) 44=jj:=by simpa using o
  obtain⟨u,j,k⟩:=h.see (c:=44) (by decide) (QB m);have f:CI T i=((CI p i).1,(CI p i).2.1,K):=by rw[g];exact Prod.ext rfl (Prod.ext rfl e)
  have n:=(NJ f (by omega) (by rw[j,m];rfl)).2;rw[k]at n;rw[e]at ih a b⊢;rw[n,ih (Dm _ _ _ _ (JC _ _ d)) a b]
 |case2 i hc=>
  simp only at a b;rw[a]at b;have r:=VM a;have t:i<p.size:=by
   have l:=JC p i d;omega
  have l:=DE p (CI p i).2.1 (CI p i).2.2 44;have q:DM p (AF p (CI p i).2.1 K) 44=K:=by
   cases hq:DM p (AF p (CI p i).2.1 K) 44 with
   |false=>rfl
   |true=>exact absurd ⟨by rw[a,hq];rfl,by omega,t⟩ hc
  have g:=h.lit d a;have s:Ae p (CI p i).2.1<p.size:=Sv (DE p (CI p i).2.1 K 44) b;obtain⟨u,j,k⟩:=h.see (c:=44) (by decide) s;have f:CI T i=((CI p i).1,(CI p i).2.1,K):=by rw[g];exact Prod.ext rfl (Prod.ext rfl a)
  rw[KQ f (by rw[j,q];rfl),k,a]
def Vo.rest(h:Vo p T){a:Nat}{f:Bool}(k:a<=p.size)(b:(Df p a f).2.2=K)(e:Ae p (Df p a f).2.1<p.size):Df T a f=Df p a f:=by
 have l:f=K:=(GH b).1;subst l;have i:Ae p a<p.size:=by
  unfold Df at e;by_cases d:(!false&&DM p (AF p a K) 58)=jj
  .exact QB (by simpa using d)
  .rw[mJ d]at e;exact Sv (DE p a K 58) e
 obtain⟨s1,s2,j⟩:=h.see (c:=58) (by decide) i;unfold Df at b e⊢;rw[s2,j];by_cases d:(!false&&DM p (AF p a K) 58)=jj
 .rw[mK d]at b e⊢;rw[mK d,h.at_ (c:=45) (by decide) (Dm _ _ _ _ k)];by_cases g:DM p (Cg p a K 58) 45=jj
  .rw[mK g]at b e⊢;rw[mK g,h.body (by have:=Fe g;omega) b e]
  .rw[mJ g]at b;cases b
 .rw[mJ d,mJ d]
def Vo.clause(h:Vo p T){i:Nat}(k:i<=p.size)(a:(Ao p i).2.2=K):Ao T i=Ao p i:=by
 unfold Ao at a⊢;simp only at a⊢;obtain⟨l,b,j⟩:=h.must (c:=46) (by decide) a;have m:=(GH b).1;have e:=Bp p i k;obtain⟨g,d⟩:=h.atom e m;rw[BU]at d;have f:=h.yB d;have n:=h.rest (IZ _ _ _ e) b j;rw[f,g,n,l]
def Vo.clauses(h:Vo p T){i:Nat}(m:i<p.size)(c:(Aj p i).2.2=K):Aj T i=((Aj p i).1++(Aj T (Ae T p.size)).1,(Aj T (Ae T p.size)).2):=by
 have o:=h.lt
 fun_induction Aj p i with
 |case1 i h1 h2 ih=>
  obtain⟨b,n⟩:=h2;have j:=h.clause (by omega) b;have k:=IH p i (by omega);have g:i<Ae T (Ao p i).2.1:=by have:=Kz b;have:=B1 T (Ao p i).2.1;omega
  have l:Aj T i=((Ao p i).1::(Aj T (Ae T (Ao p i).2.1)).1,(Aj T (Ae T (Ao p i).2.1)).2):=by
   conv=>lhs;rw[Aj]
   rw[dif_pos (show i<T.size by omega),j,b,dif_pos ⟨rfl,g⟩];rfl
  have f:AF p (Ao p i).2.1 (Ao p i).2.2=Ae p (Ao p i).2.1:=by rw[b];rfl
  rw[f]at ih c⊢;rw[l];by_cases e:Ae p (Ao p i).2.1<p.size
  .rw[h.yB e,ih e c];rfl
  ·(have d:Ae p (Ao p i).2.1=p.size:=by have:=Bp p (Ao p i).2.1 k;omega);rw[h.gapEnd d,d,Gh (s:=p) (a:=p.size) (by omega)];rfl
 |case2 i h1 h2=>
  have b:(Ao p i).2.2=K:=c;refine absurd ⟨b,?_⟩ h2;have:=Kz b;rw[b];have:=B1 p (Ao p i).2.1;show i<Ae p (Ao p i).2.1;omega
 |case3 i h1=>exact absurd m h1
def Vo.all(h:Vo p T)(d:(Aj p (Ae p 0)).2.2=K):Aj T (Ae T 0)=((Aj p (Ae p 0)).1++(Aj T (Ae T p.size)).1,(Aj T (Ae T p.size)).2):=by
 by_cases c:Ae p 0<p.size
 .rw[h.yB c];exact h.clauses c d
 .have b:Ae p 0=p.size:=by have:=Bp p 0 (mO _);omega
  rw[h.gapEnd b,b,Gh (s:=p) (a:=p.size) (by omega)];rfl
end Go.Proofs.YtoihbhenbmffcaaGreatDoor
namespace Go.Proofs.YtoihbhenbmffcaaGreatDoor
open Go.RowKit Go.Proofs.Tryz
variable{s:zA}{w u:ly}{m j n i b:Nat}{T:TypeId}{y x:rc ml}{g:UInt8}
theorem Tryz.zy:(Tryz.prog.info? 189).map (λi=>(i.zero,i.size,i.bytes))=V (V (.agg #[X J 0,O ⟨#[]⟩,U Y 0 0,U Y 0 0]),4,72):=by kernel_rfl
def dB(r:Int):E4 r≠1:=by
 unfold E4;split
 .simp
 .split
  .simp
  .split
   .simp
   .split<;>simp
def XD(s:zA)(j:Nat)(h:j<s.size):(ED s j).1.kind≠1/\(ED s j).1.place=j/\(ED s j).1.text.size<=s.size+4:=by
 unfold ED;split
 .have:=C0 AA s j (by omega);refine⟨by simp,rfl,?_⟩;simp only[size_extract this];omega
 .split
  .have:=C0 Ap s j (by omega);refine⟨by simp,rfl,?_⟩;simp only[size_extract this];omega
  .split
   .refine⟨by simp,rfl,?_⟩;show 2<=s.size+4;omega
   .refine⟨dB _,rfl,?_⟩;have:=ZX ((Utf8.decode s j).1:Int);simp only[CR];omega
def V1(s:zA):∀(n a:Nat),s.size-a<=n->Z (SW s a)<=s.size-a/\∀m∈SW s a,m.kind≠1/\m.place<=s.size/\m.text.size<=s.size+4
 |n,a,hn=>by
  by_cases h:Ae s a<s.size
  .have d:=B1 s a;have f:=Se s _ h;obtain⟨t1,t2,t3⟩:=XD s _ h;rw[GW rfl h]
   match n with
   |0=>omega
   |n+1=>
    obtain⟨e,c⟩:=V1 s n (ED s (Ae s a)).2 (by omega);refine⟨by simp only[mL];omega,λm b=>?_⟩;rcases mA.1 b with rfl|b
    .exact⟨t1,by omega,t3⟩
    .exact c m b
  .rw[Kb h];exact⟨by simp,λm b=>by simp at b⟩
def aY(m:Be):(JR m).place=m.place/\(JR m).text=m.text/\(m.kind≠1->(JR m).kind≠1):=by
 unfold JR;split
 .exact⟨rfl,rfl,λh=>h⟩
 .exact⟨rfl,rfl,λ_=>by simp⟩
def Ka(s:zA):Z (DH s)<=s.size+1/\0<Z (DH s):=by
 rw[KN];unfold Dv;have:=(V1 s _ 0 (mP _)).1;simp;omega
def Tz(s:zA):∀m∈DH s,m.place<=s.size/\m.text.size<=s.size+4:=by
 rw[KN];unfold Dv;intro m a;rcases mF.1 a with a|a
 .obtain⟨b,d,rfl⟩:=mD.1 a;obtain⟨e,c,_⟩:=aY b;obtain⟨_,f,g⟩:=(V1 s _ 0 (mP _)).2 b d;rw[e,c];exact⟨f,g⟩
 .simp at a;subst a;exact⟨mP _,mO _⟩
def bo(d:s.size<=300):X6 (DH s):=by
 refine⟨λi h b=>?_,λi h=>?_⟩
 .by_cases c:i+1<Z (DH s)
  .exact c
  .exfalso
   (have a:(DH s).getLast?=V (Fp s):=by unfold DH;simp);have:(DH s)[i]?=V (Fp s):=by
    rw[List.getLast?_eq_getElem?]at a;rw[show i=Z (DH s)-1 by omega];exact a
   rw[mG h]at this;simp only[mB]at this;rw[this]at b;cases b
 .have:=(Tz s _ (mw h)).2;omega
def ZN(a:s.size<=300)(i:Nat):(Au (DH s) i).place<=1000000:=by
 by_cases h:i<Z (DH s)
 .rw[<-Bz h];have:=(Tz s _ (mw h)).1;omega
 .unfold Au;rw[mN,List.getElem?_eq_none (by omega)];simp
structure CU where
 hp:Int
 hn:zA
 zE:rc AZ
 hv:ml
 bv:ml
 zD:rc Mk
def CU.pc(c:CU):PC:=⟨c.hp,c.hn,c.zE,c.zD.map qW⟩
def Bc(c:CU):rc ml:=[X J c.hp,O c.hn,c.hv,c.bv]
structure Qr(w:ly)(base:Nat)(lv:ml)(c:CU):Prop where
 at_:JY w base c.hv c.bv c.zE c.zD
 yj:Ce c.hv lv
 yh:Ce c.bv lv
 yl:∀p∈c.zD,Ce p.2 lv
def Qr.kept{M:rc Nat}{w w':ly}{a:Nat}{b:ml}{c:CU}(h:Qr w a b c)(k:Ac M w w')(d:∀i,i∈M->i<a:=by simp):Qr w' a b c:=
 ⟨h.at_.kept k d,h.yj,h.yh,h.yl⟩
def Jz{v a:ml}(h:oi w m T j v n y)(k:Ac a.ownBlock.toList w u)(d:Ce v a):oi u m T j v n y:=
 Ag h k (λi c b=>d i c (by simpa using b))
def Qr.zh{w f:ly}{i:Nat}{d:ml}{c:CU}{g n cap H:Nat}(h:Qr w i d c)(k:Ac d.ownBlock.toList w f)(e:d.ownBlock=V g\/g=H)(b:w.heap.size<=H):Qr f i (U (V ⟨g,0,Y⟩) n cap) c:=
 ⟨⟨Jz h.at_.head k h.yj,⟨Jz h.at_.body.row k h.yh,λp a=>⟨Jz (h.at_.body.each p a).1 k (h.yl p a),(h.at_.body.each p a).2⟩⟩⟩,
  Ce.zh h.yj h.at_.head e b,Ce.zh h.yh h.at_.body.row e b,λp a=>Ce.zh (h.yl p a) (h.at_.body.each p a).1 e b⟩
def Pv{e h:TypeId}{v a:ml}(g:oi u w.heap.size e i v n y)(f:oi w b h j a m x):Ce v a:=by
 intro k c d;have:=(g.lt k c).1;have:=(f.lt k d).2;omega
structure GM(w:ly)(base:Nat)(lv:ml)(cs:rc CU):Prop where
 row:oi w base 189 4 lv (Z cs) (cs.flatMap Bc)
 each:∀c∈cs,Qr w base lv c
def GM.kept{M:rc Nat}{w w':ly}{a:Nat}{e:ml}{d:rc CU}(h:GM w a e d)(k:Ac M w w')(b:∀i,i∈M->i<a:=by simp):GM w' a e d:=
 ⟨Ad h.row k b,λc f=>(h.each c f).kept k b⟩
def GM.base{w:ly}{f base':Nat}{d:ml}{b:rc CU}(h:GM w f d b)(e:base'<=f):GM w base' d b:=
 ⟨Ak h.row e,λc a=>⟨(h.each c a).at_.base e,(h.each c a).yj,(h.each c a).yh,(h.each c a).yl⟩⟩
def GM.nil(w:ly)(b:Nat):GM w b (U Y 0 0) []:=⟨mS _ _ _ _,λp a=>by simp at a⟩
def iW(w:ly)(e:Ending)(w':ly):Except Int (rc PC)->Prop
 | .ok cs=>∃ad cp pcs,e=kt (.tuple #[U ad (Z cs) cp,X J 0,q8 jj])/\pcs.map CU.pc=cs/\GM w' w.heap.size (U ad (Z cs) cp) pcs/\Ac [] w w'
 | .error p=>e=kt (.tuple #[U Y 0 0,X J p,q8 K])/\Ac [] w w'
set_option maxRecDepth 100000
theorem KL(s:zA)(w:ly)(hs:s.size<=300):
  Calls prog 71 #[O s] w λe G=>iW w e G (Ds (DH s) 0 []):=by
 obtain⟨i0,KS,H6,K3,KD⟩:=nC Tryz.zy;have HO:=Ab (bo hs);have Ha:=Ab (ZN hs);have FB:=Ka s;have EM:=Ab (ax s w hs);obtain⟨R,hR⟩:=rd (Ds (DH s) 0 []);rw[hR];have Bx:=Ab hR;clear hR;generalize DH s=ms at HO Ha FB EM Bx;have LD:Z ms<=1000:=by omega
 go_enter func71,ntmps71;go_wp2_with fail
 refine EM.mono ?_;rintro e x ⟨mv,rfl,A0,k1⟩;clear EM;obtain⟨C,m,rfl⟩:=Al A0;have FT:=rf x [U C (Z ms) m,X J 0,X J 0] 203;have HC:=Ak (mE A0 (j1 [U C (Z ms) m,X J 0,X J 0].toArray 203)) (mO _);have HD:(U C (Z ms) m).ownBlock≠V x.heap.size:=λe=>by have:=(A0.lt _ e).2;omega
 have HB:Cw (x.alloc (j1 [U C (Z ms) m,X J 0,X J 0].toArray 203)) x.heap.size (U C (Z ms) m) ms 0 0:=⟨FT,HC,HD,FB.2,by omega⟩;have HU:=k1.alloc (j1 [U C (Z ms) m,X J 0,X J 0].toArray 203);have I:=Ab HB;have CL:=Ab HU;have HZ:w.heap.size<=x.heap.size:=k1.size;have BA:(x.alloc (j1 [U C (Z ms) m,X J 0,X J 0].toArray 203)).heap.size=x.heap.size+1:=by simp
 clear FT HC HD HB HU A0 k1;go_wp2;change Code.wp _ _ _ _ (x.alloc (j1 [U C (Z ms) m,X J 0,X J 0].toArray 203));generalize x.alloc (j1 [U C (Z ms) m,X J 0,X J 0].toArray 203)=w2 at I CL BA⊢;obtain⟨b,HX⟩:=rd x.heap.size;rw[HX]at I HZ BA⊢;clear HX;obtain⟨g,MY,HN,_,_,_,_⟩:=I.cells;simp only[mu]at HN;obtain⟨rfl,_,rfl⟩:=HN;have HY:nc (∀k,b+1<=k->(U (V ⟨g,0,Y⟩) (Z ms) m).ownBlock≠V k):=λk y e=>by have:=(I.row.lt k e).2;omega
 go_loopg [2] (Z ms) (λgk o wr=>∃(j:Nat) (acc:rc CU) (z:Option Addr) (B:Nat),o=U z (Z acc) B/\gk=Z ms-j/\nc (Ds ms j (acc.map CU.pc)=R)/\nc (Cw wr b (U (V ⟨g,0,Y⟩) (Z ms) m) ms j 0)/\nc (GM wr (b+1) (U z (Z acc) B) acc)/\nc (Ac [] w wr)/\b+1<=wr.heap.size/\Z acc<=j)
 case atStart=>exact⟨0,[],Y,0,rfl,rfl,Bx,I,GM.nil _ _,CL,by omega,by simp⟩
 case round=>
  clear I Bx CL BA;obtain⟨j,acc,z,B,rfl,HS,N,HR,HP,HK,FA,LB⟩:=hrel;have HG:=Ab HS;clear HS;have S:=HR.lt;have MN:(j:Int)<(Z ms:Int):=by omega
  have K9:(0:Int)<=(j:Int):=by omega
  obtain⟨g',LC,he,b0,b1,_,hc⟩:=HR.cells;simp only[mu,mB,nr]at he;obtain⟨⟨rfl,_⟩,_,rfl⟩:=he;obtain⟨c0,_,_⟩:=hc j S;clear hc;rw[Bz S]at c0;obtain⟨P,AB⟩:=rd (Au ms j).kind;rw[AB]at c0;go_wp2_with fail
  go_region_held3 (λG=>oa G ⟨b,0,Y⟩=V (U (V ⟨g,0,Y⟩) (Z ms) m)/\oa G ⟨b,1,Y⟩=V (X J j)/\oa G ⟨g,j*3,Y⟩=V (X J P)) (go_keep) (fail)
  rename_i JJ;clear JJ b0 b1 c0;cases y:(P==1)with
  |true=>
   (have H5:(P !=1)=K:=by simp[bne,y]);(have HF:nc (R=.ok (acc.map CU.pc)):=by show _=_;rw[<-Aa N];exact Po S (by rw[AB];exact y));clear y AB N;go_wp2;go_ret3;rw[HF.out];exact⟨z,B,acc,by simp,rfl,by simpa using(HP.kept (re [] wr).drew).base (by omega),HK.drew⟩
  |false=>
   (have H5:(P !=1)=jj:=by simp[bne,y]);(have AH:nc (((Au ms j).kind==1)=K):=by show _=_;rw[AB];exact y);clear y AB;(go_wp2_with fail);refine(WF b (U (V ⟨g,0,Y⟩) (Z ms) m) ms j 0 _ (HR.zL (re [] wr).drew) HO Ha).mono ?_;intro e v T;have D:=Ab (HP.kept (re [] wr).drew);have W:=Ab (HK.drew);have H9:b+1<=wr.drew.heap.size:=FA;clear HR HP HK FA;generalize wr.drew=w5 at T D W H9;cases ht:C4 ms j with
   |error q=>
    rw[ht]at T;obtain⟨n9,hp,hn,K2,n8,K1,IJ,n2,H1,rfl,Q,F⟩:=T;(have HF:nc (R=.error q):=by show _=_;rw[<-Aa N];exact L1 S AH ht);have H8:=Ab (W.trans' F (λi A=>lx (by simp at A;omega)));(have d2:=λo=>(Q.zO.alloc o).cell 2);simp at d2;clear ht N AH Q F D W;simp only[Bi];(go_wp2_with fail);have LL:=d2 (j1 [X J hp,O hn,U K2 n8 K1,U IJ n2 H1].toArray 189)
    go_region_held3 (λG=>oa G ⟨b,2,Y⟩=V (X J q)) (go_keep) (fail)
    rename_i H2;clear H2;go_wp2;go_ret3;rw[HF.out];exact⟨rfl,(H8.alloc _).drew⟩
   |ok r=>
    obtain⟨c,n1⟩:=r;rw[ht]at T;have K7:=Ib ht;obtain⟨u,f,l,h,M,rfl,HA,AT,Q,F⟩:=T;have HT:=Ab (SH (acc:=acc.map CU.pc) S AH ht);clear ht AH;obtain⟨n,d,a,MB⟩:=c;simp only at HA AT;subst HA;have K6:=F.size;have ES:=Ad D.row F;(have HH:nc (∀q∈acc,Qr v (b+1) (U z (Z acc) B) q):=λq E=>(D.each q E).kept F);have BT:nc (Qr v (b+1) (U z (Z acc) B) ⟨n,d,a,U u (Z a) f,U l (Z (M.map qW)) h,M⟩):=by
     have B9:=AT.base (base':=w5.heap.size) (by omega);refine⟨AT.base (by omega),?_,?_,?_⟩
     .exact Pv B9.head D.row
     .exact Pv B9.body.row D.row
     .exact λp hp=>Pv (B9.body.each p hp).1 D.row
    have HQ:=Ab (W.trans' F (λi A=>lx (by simp at A;omega)));have L:=Ab Q;have L0:=Q.lt;clear AT Q F D W;generalize hnl:Z (M.map qW)=nl at BT;have HV:((v.alloc (j1 (j2 (Bi n d (U u (Z a) f) (U l nl h))) 189)).alloc (j1 (j2 (Bi n d (U u (Z a) f) (U l nl h))) 189)).heap[v.heap.size+1]?=V (j1 (j2 (Bi n d (U u (Z a) f) (U l nl h))) 189 (0,0)):=by
     have hh:=m7 (v.alloc (j1 (j2 (Bi n d (U u (Z a) f) (U l nl h))) 189)) (j1 (j2 (Bi n d (U u (Z a) f) (U l nl h))) 189);rw[show(v.alloc (j1 (j2 (Bi n d (U u (Z a) f) (U l nl h))) 189)).heap.size=v.heap.size+1 from by simp]at hh
     exact hh
    have HI:=mE (mE ES (j1 (j2 (Bi n d (U u (Z a) f) (U l nl h))) 189)) (j1 (j2 (Bi n d (U u (Z a) f) (U l nl h))) 189);(have LM:Z acc<=1000:=by omega);have LE:=Ab hnl;clear hnl;simp only[Bi];go_wp2_with (at_builtin;refine mZ _ rfl (.tmp 35) (.tmp 37) _ rfl (b+1) 189 i0 _ 4 72 underlying66 KS H6 K3 KD rfl (by omega) (U z (Z acc) B) (Z acc) (acc.flatMap Bc) rfl HI ⟨v.heap.size+1,0,Y⟩ 1 1 (Bi n d (U u (Z a) f) (U l nl h)) rfl rfl (mW (cs:=j2 (Bi n d (U u (Z a) f) (U l nl h))) (t:=189) (fr:=(0,0)) HV) (by simp[Value.oneCell',Bi]) (by omega) (by unfold maxLen;omega) (by omega) (by simp;omega) (v.heap.size+1+1) (by simp) ?_;intro g1 FF w9 HE FL A2 H3)
    have H:Ac (U z (Z acc) B).ownBlock.toList v w9:=(((re _ v).alloc _).alloc _).grown FL (λk y=>lo (by simp[y]));(have AR:∀i∈(U z (Z acc) B).ownBlock.toList,b+1<=i:=λi A=>(ES.lt i (by simpa using A)).1);have FO:Cw w9 b (U (V ⟨g,0,Y⟩) (Z ms) m) ms n1 0:=⟨L.zO.kept H (λhm=>by have:=AR b hm;omega),Ag L.row H (λi A hm=>by have:=AR i hm;exact absurd A (HY i this)),L.ap,L.lt,L.len⟩;have FP:Ac [] w w9:=HQ.trans' H (λi A=>lx (by have:=AR i A;omega));have KA:nc (GM w9 (b+1) (U (V ⟨g1,0,Y⟩) (Z acc+1) FF) (acc++[⟨n,d,a,U u (Z a) f,U l nl h,M⟩])):=by
     refine⟨by simpa[Bc,Bi] using HE,?_⟩;intro q E;rcases mF.1 E with E|E
     .exact(HH q E).zh H A2 (by omega)
     .simp only[my]at E;subst E;exact BT.zh H A2 (by omega)
    have IS:nc (Ds ms n1 ((acc++[(⟨n,d,a,U u (Z a) f,U l nl h,M⟩:CU)]).map CU.pc)=R):=by
     show _=_;rw[<-Aa N,Aa HT];simp[CU.pc]
    (have K5:b+1<=w9.heap.size:=by have:=H.size;omega);have H7:=Ab FO;have JA:=Ab FP;clear H AR FO FP FL A2 H3 HE HV HI ES HH BT HQ L N HT
    go_roundg (Z ms-n1)
    case measure=>have:=Aa HG;omega
    case rel=>exact⟨n1,acc++[⟨n,d,a,U u (Z a) f,U l nl h,M⟩],V ⟨g1,0,Y⟩,FF,by simp,rfl,IS,H7,by simpa using KA,JA,K5,by simp;omega⟩
def aj{d:rc Be}(h:At s d n m)(t:m<=s.size)(c:Ae s m=j):
  (((Au d n).kind==2)=jj/\∃g,AY s j K=((Au d n).text,g,K)/\At s d (n+1) g/\g<=s.size)\/
  (((Au d n).kind==2)=K/\AY s j K=(q9,j,jj)):=by
 have e:Ae s j=j:=by rw[<-c];exact BU s m
 rw[h.head];by_cases b:j<s.size
 .have k:=h.next c b;cases hl:AA s[j] with
  |true=>
   obtain⟨o,q⟩:=Is c b hl;rw[q]at k;(have r:j<AK AA s j:=by rw[Co _ _ _ b hl];have:=CD AA s (j+1);omega);have l:=C0 AA s j (by omega);rw[o];by_cases f:AK AA s j-j<=4
   .left;refine⟨by simp[f],_,I0 e rfl (by omega),k,l⟩
   .right;exact⟨by simp[f],Eh e rfl (by omega)⟩
  |false=>
   right;refine⟨?_,Eh e (EN _ _ _ b hl) (lo rfl)⟩;(have u:¬(97<=s[j].toNat/\s[j].toNat<=122):=λh=>by rw[(Dc _).2 h]at hl;cases hl);by_cases p:s[j].toNat<128
   .cases hd:Ap s[j] with
    |true=>
     rw[(FU c b hl hd).1];by_cases f:3<AK Ap s j-j\/(s[j]=48/\1<AK Ap s j-j)<;>simp[f]
    |false=>
     by_cases i:s[j]=58/\DM s (j+1) 45=jj
     .rw[(Ll c b i.1 i.2).1];rfl
     .rw[(Hh c b hl hd i p).1];simp only[nj,ne_eq,GZ];omega
   .rw[(It c b (by omega)).1];rfl
 .right;rw[I6 (by omega)];exact⟨rfl,Eh e (GU _ _ _ b) (lo rfl)⟩
def OG(s:zA)(a:Nat)(c:UInt8):Cg s a jj c=a:=by simp[Cg,AF]
def Oy(h:DM s (Ae s n) g=jj):Cg s n K g=Ae s n+1:=by simp[Cg,AF,h]
def RZ(h:DM s (Ae s n) g=K):Cg s n K g=Ae s n:=by simp[Cg,AF,h]
def GC(s:zA)(a:Nat)(c:UInt8):Bk s a jj c=(a,jj):=by simp[Bk,OG]
def N3(h:DM s (Ae s n) g=jj):Bk s n K g=(Ae s n+1,K):=by simp[Bk,Oy h,AF,h]
def Pj(h:DM s (Ae s n) g=K):Bk s n K g=(Ae s n,jj):=by simp[Bk,RZ h,AF,h]
def bg{s:zA}{f:rc Be}:∀(k d a:Nat) (i:rc AZ),Z f-d<=k->At s f d a->a<=s.size->
  Qo (λts (L:rc AJ)=>ts=i++L.map ct) s f (G7 f d i) ((Cq s a).1,Bk s (Cq s a).2.1 (Cq s a).2.2 41)
 |k,d,a,i,hk,h,ha=>by
  have x:=h.lt;have g:=VI h ha;obtain⟨l,b,v,j⟩:∃l b v,Az s a K=(l,b,v):=⟨_,_,_,rfl⟩;rw[j]at g;unfold G7;rw[dif_pos x];cases hM:G8 (Au f d) d with
  |error p=>
   rw[hM]at g;obtain⟨rfl,rfl⟩:=g;rw[KJ j (by simp)];simp only[OG,GC];exact⟨rfl,rfl⟩
  |ok r=>
   obtain⟨t,B⟩:=r;rw[hM]at g;have A:=GD hM;subst A;obtain⟨rfl,rfl,u,w⟩:=g;simp only;have z:=EG (s:=s) (a:=b) (c:=44) (by simp[Fw]);have y:=EG (s:=s) (a:=b) (c:=41) (by simp[Fw]);rw[u.head,show Jp=⟨#[44]⟩from rfl,show Qw=⟨#[41]⟩from rfl,z,y];cases hc:DM s (Ae s b) 44 with
   |true=>
    obtain⟨_,e⟩:=N1 j ha (by simp[AF,hc]);rw[Oy hc]at e;obtain⟨q,o⟩:=u.take (by simp[Fw]) hc;rw[e];simp only[if_true]
    match k with
    |0=>omega
    |k+1=>
     have ih:=bg k (d+2) (Ae s b+1) (i++[ct l]) (by omega) q o
     revert ih
     generalize G7 f (d+2) (i++[ct l])=X;intro ih
     match X,ih with
     | .ok (ts,n),ih=>exact⟨ih.1,by rw[ih.2.1];simp,ih.2.2⟩
     | .error p,ih=>exact ih
   |false=>
    rw[KJ j (by simp[AF,hc])];simp only[mC,if_false,RZ hc];have m:Ae s (Ae s b)=Ae s b:=BU s b;cases hcl:DM s (Ae s b) 41 with
    |true=>
     obtain⟨q,o⟩:=u.take (by simp[Fw]) hcl;rw[N3 (by rw[m];exact hcl),m];simp only[if_true];exact⟨rfl,rfl,q,o⟩
    |false=>
     rw[Pj (by rw[m];exact hcl),m,D3 w];simp only[mC,if_false];exact⟨rfl,rfl⟩
def VA{b:rc Be}{d a:Nat}(h:At s b d a)(i:a<=s.size):
  Qo (λx (A:Dr)=>x=(A.at_,A.name,A.args.map ct)) s b (EC b d) (A4 s a K):=by
 have r:AF s a K=Ae s a:=rfl;have k:(Au b d).place=Ae s a:=by rw[h.head,D3 i]
 unfold EC A4;simp only[r];rcases aj h i rfl with⟨f,g,e,j,l⟩|⟨f,e⟩
 .rw[e,f];simp only[if_true];have m:=EG (s:=s) (a:=g) (c:=40) (by simp[Fw]);rw[j.head,show Ul=⟨#[40]⟩from rfl,m];cases hc:DM s (Ae s g) 40 with
  |true=>
   obtain⟨o,q⟩:=j.take (by simp[Fw]) hc;rw[N3 hc];simp only[if_true,DZ,mC,if_false];have ih:=bg _ (d+2) (Ae s g+1) [] (mP _) o q
   revert ih
   generalize G7 b (d+2) []=X;intro ih
   match X,ih with
   | .ok (ts,n),ih=>exact⟨ih.1,by rw[ih.2.1,k];simp,ih.2.2⟩
   | .error p,ih=>exact ih
  |false=>
   rw[Pj hc,D3 l];simp only[mC,if_false,DZ,if_true,GC];exact⟨rfl,rfl⟩
 .rw[e,f,k];simp only[mC,if_false,GC,DZ,if_true];exact⟨rfl,rfl⟩
def Gu(k:UInt8):Int:=if k=97 then 0 else if k=33 then 1 else if k=61 then 2 else if k=35 then 3 else 4
def MA(x:Bw):PL:=⟨x.at_,Gu x.kind,x.A.at_,x.A.name,x.A.args.map ct,ct x.L,ct x.R⟩
def jN:ct Ec=A3:=rfl
def kg{e:rc Be}{d a j:Nat}(h:At s e d j)(A:j<=s.size)(S:Ae s j=j):
  Qo (λx (y:Bw)=>Lm (.inr x)=MA y/\x.atom=Bt) s e (MI e d) (In s j (AF s (Az s j K).2.1 (Az s j K).2.2) (Az s j K).1 (Az s j K).2.2):=by
 have F:(Au e d).place=j:=by rw[h.head,D3 A,S]
 have f:=VI h A;obtain⟨l,b,v,z⟩:∃l b v,Az s j K=(l,b,v):=⟨_,_,_,rfl⟩;rw[z]at f;rw[z];unfold MI In;cases hM:G8 (Au e d) d with
 |error p=>
  rw[hM]at f;obtain⟨rfl,rfl⟩:=f;simp only[pj,pL,mC,if_false,Md];exact⟨rfl,rfl⟩
 |ok r=>
  obtain⟨t,n1⟩:=r;rw[hM]at f;have G:=GD hM;subst G;obtain⟨rfl,rfl,u,C⟩:=f;simp only;have H:=EG (s:=s) (a:=b) (c:=61) (by simp[Fw]);have L:=EG (s:=s) (a:=b) (c:=35) (by simp[Fw]);have N:=EG (s:=s) (a:=b) (c:=60) (by simp[Fw]);have M:AF s b K=Ae s b:=rfl;rw[u.head,M];unfold OR;rw[show lM=⟨#[61]⟩from rfl,show lK=⟨#[35]⟩from rfl,show lJ=⟨#[60]⟩from rfl,H,L,N];have n:∀(c:UInt8) (m:Int),c∈Fw->Gu c=m->DM s (Ae s b) c=jj->CN s (Ae s b)=c/\
    Qo (λx (y:Bw)=>Lm (.inr x)=MA y/\x.atom=Bt) s e
     (match G8 (Au e (d+1+1)) (d+1+1)with| .error p=> .error p| .ok (r,n2)=> .ok (⟨(Au e d).place,m,Bt,ct l,r⟩,n2))
     (⟨c,Hr,l,(Az s (Ae s b+1) K).1,j⟩,(Az s (Ae s b+1) K).2):=by
   intro c m I T o;have q:=Fe o;refine⟨by rw[Fl q];simpa[DM,q] using o,?_⟩;obtain⟨E,R⟩:=u.take I o;have k:=VI E R;obtain⟨t2,w,kS,B⟩:∃t2 w kS,Az s (Ae s b+1) K=(t2,w,kS):=⟨_,_,_,rfl⟩;rw[B]at k;rw[B];cases hM2:G8 (Au e (d+1+1)) (d+1+1)with
   |error p=>
    rw[hM2]at k;obtain⟨rfl,rfl⟩:=k;exact⟨rfl,rfl⟩
   |ok r=>
    obtain⟨t3,W⟩:=r;rw[hM2]at k;have P:=GD hM2;subst P;obtain⟨rfl,rfl,Q,D⟩:=k;refine⟨rfl,⟨?_,rfl⟩,Q,D⟩;simp[Lm,MA,T,F,Hr]
  cases h61:DM s (Ae s b) 61 with
  |true=>
   obtain⟨g,i⟩:=n 61 2 (by simp[Fw]) rfl h61;rw[g];simp only[if_true,nZ,pW,pE];exact i
  |false=>
   cases h35:DM s (Ae s b) 35 with
   |true=>
    obtain⟨g,i⟩:=n 35 3 (by simp[Fw]) rfl h35;rw[g];simp only[if_true,nZ,pW,qB,pE,mC,if_false];exact i
   |false=>
    cases h60:DM s (Ae s b) 60 with
    |true=>
     obtain⟨g,i⟩:=n 60 4 (by simp[Fw]) rfl h60;rw[g];simp only[if_true,nZ,qB,pE,mC,if_false];exact i
    |false=>
     simp only[qS,pK,mC,if_false,D3 C];exact⟨rfl,rfl⟩
def j9{b:rc Be}{d a:Nat}(h:At s b d a)(D:a<=s.size):
  Qo (λx (y:Bw)=>Lm x=MA y) s b (Hf b d) (CI s a):=by
 obtain⟨j,g⟩:=rd (Ae s a);have f:Ae s j=j:=by rw[<-g];exact BU s a
 have o:j<=s.size:=by rw[<-g];exact Bp s a D
 have l:At s b d j:=by rw[<-g];exact h.yB
 have G:(Au b d).place=j:=by rw[h.head,D3 D,g]
 unfold Hf CI;simp only[g];have Q:=EG (s:=s) (a:=a) (c:=33) (by simp[Fw]);rw[h.head,show ZR=⟨#[33]⟩from rfl,Q,g,<-h.head,G];cases h33:DM s j 33 with
 |true=>
  obtain⟨w,B⟩:=l.take (c:=33) (by simp[Fw]) (by rw[f];exact h33);rw[f]at w B;simp only[if_true];have ih:=VA w B;obtain⟨A,k,kS,t⟩:∃A k kS,A4 s (j+1) K=(A,k,kS):=⟨_,_,_,rfl⟩;rw[t]at ih⊢
  revert ih
  generalize EC b (d+1)=X;intro ih
  match X,ih with
  | .ok ((p,n,ts),m),ih=>
   obtain⟨v,i,u⟩:=ih;refine⟨v,?_,u⟩;simp only[ny]at i;obtain⟨rfl,rfl,rfl⟩:=i;simp[Lm,MA,Gu,jN]
  | .error p,ih=>exact ih
 |false=>
  simp only[mC,if_false];have I:Fm b d=(CT s j&&Gs s j):=by
   unfold Fm;have F:=h.lt;have N:b[d]?=V (Au b d):=by
    unfold Au;rw[mN,mG F];rfl
   rw[N];rcases aj l o f with⟨q,L,e,z,R⟩|⟨q,e⟩
   .have H:=z.lt;have P:b[d+1]?=V (Au b (d+1)):=by
     unfold Au;rw[mN,mG H];rfl
    have M:=EG (s:=s) (a:=L) (c:=40) (by simp[Fw]);have E:CT s j=jj:=by
     unfold CT;by_cases r:j<s.size
     .rw[dif_pos r];cases hl:AA s[j] with
      |true=>rfl
      |false=>rw[Eh f (EN _ _ _ r hl) (lo rfl)]at e;simp at e
     .rw[Eh f (GU _ _ _ r) (lo rfl)]at e;simp at e
    unfold Gs;rw[P,e,E];simp only[q,oy,nZ];rw[z.head,show Ul=⟨#[40]⟩from rfl,M];rfl
   .unfold Gs;rw[e];simp only[pj,pL,pK];split
    .rename_i m T C S;simp only[mB]at C;rw[<-C,q,pL]
    .rfl
  rw[I];cases hop:(CT s j&&Gs s j)with
  |true=>
   simp only[if_true];have ih:=VA l o;obtain⟨A,k,kS,t⟩:∃A k kS,A4 s j K=(A,k,kS):=⟨_,_,_,rfl⟩;rw[t]at ih⊢
   revert ih
   generalize EC b d=X;intro ih
   match X,ih with
   | .ok ((p,n,ts),m),ih=>
    obtain⟨v,i,u⟩:=ih;refine⟨v,?_,u⟩;simp only[ny]at i;obtain⟨rfl,rfl,rfl⟩:=i;simp[Lm,MA,Gu,jN]
   | .error p,ih=>exact ih
  |false=>
   simp only[mC,if_false];have ih:=kg (a:=a) l o f
   revert ih
   generalize MI b d=X;intro ih
   match X,ih with
   | .ok (c,m),ih=>exact⟨ih.1,ih.2.1.1,ih.2.2⟩
   | .error p,ih=>exact ih
def VE{s:zA}{ms:rc Be}:∀(k i a:Nat) (g:rc PL),Z ms-i<=k->At s ms i a->a<=s.size->
  Qo (λls (L:rc Bw)=>ls=g++L.map MA) s ms (Fo ms i g) (Bg s a)
 |k,i,a,g,hk,h,ha=>by
  have o:=h.lt;have f:=j9 h ha;obtain⟨d,b,m,j⟩:∃d b m,CI s a=(d,b,m):=⟨_,_,_,rfl⟩;rw[j]at f;cases hM:Hf ms i with
  |error p=>
   rw[hM]at f;obtain⟨rfl,rfl⟩:=f;rw[KQ j (by simp),Jf o hM,OG];exact⟨rfl,rfl⟩
  |ok r=>
   obtain⟨t,q⟩:=r;rw[hM]at f;have A:=J4 hM;obtain⟨rfl,w,l,u⟩:=f;have z:Lm t=MA d:=w;have x:=EG (s:=s) (a:=b) (c:=44) (by simp[Fw]);rw[OQ o hM,l.head,show Jp=⟨#[44]⟩from rfl,x,z];cases hc:DM s (Ae s b) 44 with
   |true=>
    obtain⟨_,e⟩:=NJ j ha (by simp[AF,hc]);rw[Oy hc]at e;obtain⟨v,y⟩:=l.take (by simp[Fw]) hc;rw[e];simp only[if_true]
    match k with
    |0=>omega
    |k+1=>
     have ih:=VE k (q+1) (Ae s b+1) (g++[MA d]) (by omega) v y
     revert ih
     generalize Fo ms (q+1) (g++[MA d])=X;intro ih
     match X,ih with
     | .ok (ts,n),ih=>exact⟨ih.1,by rw[ih.2.1];simp,ih.2.2⟩
     | .error p,ih=>exact ih
   |false=>
    rw[KQ j (by simp[AF,hc]),RZ hc];simp only[mC,if_false];exact⟨rfl,by simp,l.yB,Bp s b u⟩
def ij(c:Ca):PC:=⟨c.head.at_,c.head.name,c.head.args.map ct,c.body.map MA⟩
def gO{b:rc Be}{n a:Nat}{c:PC}{C:Ca}(h:At s b n a)(d:a<=s.size)(i:c=ij C/\C.at_=C.head.at_):
  Qo (λx (y:Ca)=>x=ij y/\y.at_=y.head.at_) s b (O4 b n c) (C,Bk s a K 46):=by
 have f:=EG (s:=s) (a:=a) (c:=46) (by simp[Fw]);unfold O4;rw[h.head,show aV=⟨#[46]⟩from rfl,f,D3 d];cases hd:DM s (Ae s a) 46 with
 |true=>
  obtain⟨e,g⟩:=h.take (by simp[Fw]) hd;rw[N3 hd];exact⟨rfl,i,e,g⟩
 |false=>
  rw[Pj hd];exact⟨rfl,rfl⟩
def kj(s:zA)(a:Nat):B4 (BV s a) bD=(DM s (Ae s a) 58&& !(DM s (Ae s a+1) 45))/\B4 (BV s a) jB=(DM s (Ae s a) 58&&DM s (Ae s a+1) 45):=by
 obtain⟨j,b⟩:=rd (Ae s a);rw[b];unfold B4;by_cases h:j<s.size
 .have o:DM s j 58=(s[j]==58):=by simp[DM,h]
  rw[o];by_cases c:s[j]=58/\DM s (j+1) 45=jj
  .rw[(Ll b h c.1 c.2).1,c.1,c.2];have k:(jB.toList==bD.toList)=K:=by
    rw[show jB.toList=[58,45] from by rw[ng];rfl,show bD.toList=[58] from by rw[ng];rfl]
    rfl
   (have n:(jB.toList==jB.toList)=jj:=by simp);constructor
   .rw[k];rfl
   .rw[n];rfl
  .have i:∀x:UInt8,((⟨#[x]⟩:zA).toList==jB.toList)=K:=by
    intro x;rw[show jB.toList=[58,45] from by rw[ng];rfl,show(⟨#[x]⟩:zA).toList=[x] from by rw[ng]]
    simp
   by_cases f:s[j].toNat<128
   .cases hl:AA s[j] with
    |true=>
     (have:s[j]≠58:=λe=>by rw[e]at hl;cases hl);rw[(Is b h hl).1];by_cases d:AK AA s j-j<=4<;>simp[d,this]
    |false=>
     cases hd:Ap s[j] with
     |true=>
      (have:s[j]≠58:=λe=>by rw[e]at hd;cases hd);rw[(FU b h hl hd).1];by_cases d:3<AK Ap s j-j\/(s[j]=48/\1<AK Ap s j-j)<;>simp[d,this]
     |false=>
      rw[(Hh b h hl hd c f).1];rw[show bD=⟨#[58]⟩from rfl];simp only[Uf,i,pK];cases he:(s[j]==58)with
      |false=>simp
      |true=>
       (have g:s[j]=58:=by simpa using he);have m:DM s (j+1) 45=K:=by
        cases d:DM s (j+1) 45 with
        |false=>rfl
        |true=>exact absurd ⟨g,d⟩ c
       rw[g,m];exact⟨rfl,rfl⟩
   .have:=It b h (by omega);have l:(s[j]==58)=K:=by
     simp only[nj,ne_eq];intro e;rw[e]at f;simp at f
    rw[this.1,l];exact⟨rfl,rfl⟩
 .rw[I6 (by omega)];simp[Fp,DM,h]
def cQ{d:rc Be}{o a:Nat}(h:At s d o a)(R:a<=s.size):
  Qo (λx (y:Ca)=>x=ij y/\y.at_=y.head.at_) s d (C4 d o) (Ao s a):=by
 have F:=h.yB;have Q:=Bp s a R;have M:Ae s (Ae s a)=Ae s a:=BU s a;have e:=VA F Q;obtain⟨A,b,v,l⟩:∃A b v,A4 s (Ae s a) K=(A,b,v):=⟨_,_,_,rfl⟩;have t:A.at_=Ae s a:=by
  have:(A4 s (Ae s a) K).1.at_=Ae s a:=by
   unfold A4;simp only;show Ae s (Ae s a)=Ae s a;exact M
  rw[l]at this;exact this
 rw[l]at e;unfold C4 Ao;simp only[l];cases hM:EC d o with
 |error p=>
  rw[hM]at e;obtain⟨rfl,rfl⟩:=e;simp only[Df,pj,pL,mC,if_false,OG,GC];exact⟨rfl,rfl⟩
 |ok r=>
  obtain⟨⟨p,n,ts⟩,m⟩:=r;rw[hM]at e;obtain⟨rfl,w,j,q⟩:=e;simp only[ny]at w;obtain⟨rfl,rfl,rfl⟩:=w;obtain⟨H,I⟩:=kj s b;have G:AF s b K=Ae s b:=rfl;simp only;rw[j.head,H,I];unfold Df;rw[G];cases h58:DM s (Ae s b) 58 with
  |false=>
   simp only[pL,mC,if_false,pK,RZ h58];have:=gO (c:=⟨A.at_,A.name,A.args.map ct,[]⟩) (C:=⟨A,[],Ae s a⟩) j.yB (Bp s b q) ⟨rfl,t.symm⟩;exact this
  |true=>
   simp only[nZ,oy,if_true,Oy h58];cases h45:DM s (Ae s b+1) 45 with
   |false=>
    simp only[nZ,if_true,mC,if_false,GC,D3 q];exact⟨rfl,by simp⟩
   |true=>
    simp only[pj,if_true,mC,if_false];have g:=Fe h58;(have E:s[Ae s b]=58:=by simpa[DM,g] using h58);have z:=j.next rfl g;rw[(Ll (a:=b) rfl g E h45).2]at z;have W:=Fe h45;have f:=VE _ (m+1) (Ae s b+2) [] (mP _) z (by omega);obtain⟨L,k,i,u⟩:∃L k i,Bg s (Ae s b+2)=(L,k,i):=⟨_,_,_,rfl⟩;rw[u]at f;have P:Bg s (Ae s b+1+1)=(L,k,i):=u;rw[P];cases hM3:Fo d (m+1) [] with
    |error p=>
     rw[hM3]at f;obtain⟨rfl,rfl⟩:=f;simp only[GC];exact⟨rfl,rfl⟩
    |ok r=>
     obtain⟨T,S⟩:=r;rw[hM3]at f;obtain⟨rfl,B,N,D⟩:=f;simp only[nM]at B;subst B;exact gO (c:=⟨A.at_,A.name,A.args.map ct,L.map MA⟩) (C:=⟨A,L,Ae s a⟩) N D ⟨rfl,t.symm⟩
def bC{s:zA}{d:rc Be}:∀(k i a:Nat) (j:rc PC),Z d-i<=k->At s d i a->a<=s.size->Ae s a=a->
  match Ds d i j with
  | .ok cs=>(Aj s a).2.2=K/\cs=j++(Aj s a).1.map ij/\(∀c∈(Aj s a).1,c.at_=c.head.at_)
  | .error p=>(Aj s a).2.2=jj/\p=((Aj s a).2.1:Int)
 |k,i,a,j,hk,h,ha,hg=>by
  have o:=h.lt;by_cases g:a<s.size
  .have m:((Au d i).kind==1)=K:=by
    rw[h.head];have l:=hg;by_cases z:s[a].toNat<128
    .cases hl:AA s[a] with
     |true=>
      rw[(Is l g hl).1];by_cases q:AK AA s a-a<=4<;>simp[q]
     |false=>
      cases hd:Ap s[a] with
      |true=>
       rw[(FU l g hl hd).1];by_cases q:3<AK Ap s a-a\/(s[a]=48/\1<AK Ap s a-a)<;>simp[q]
      |false=>
       by_cases t:s[a]=58/\DM s (a+1) 45=jj
       .rw[(Ll l g t.1 t.2).1];rfl
       .rw[(Hh l g hl hd t z).1];simp only[nj,ne_eq];(have A:¬(97<=s[a].toNat/\s[a].toNat<=122):=λh=>by rw[(Dc _).2 h]at hl;cases hl);(have D:¬(48<=s[a].toNat/\s[a].toNat<=57):=λh=>by rw[(CM _).2 h]at hd;cases hd);rcases SI A D with e|e|e<;>simp[e]
    .rw[(It l g (by omega)).1];rfl
   have b:=cQ h ha;obtain⟨C,f,u,v⟩:∃C f u,Ao s a=(C,f,u):=⟨_,_,_,rfl⟩;rw[v]at b;rw[M7 g v];cases hM:C4 d i with
   |error p=>
    rw[hM]at b;obtain⟨rfl,rfl⟩:=b;rw[L1 o m hM];simp only[FD,if_true,Md];exact⟨trivial,trivial⟩
   |ok r=>
    obtain⟨c,n⟩:=r;have E:=Ib hM;rw[hM]at b;obtain⟨rfl,⟨rfl,x⟩,y,w⟩:=b;rw[SH o m hM];simp only[FD,mC,if_false];have B:AF s f K=Ae s f:=rfl;rw[B]
    match k with
    |0=>omega
    |k+1=>
     have ih:=bC k n (Ae s f) (j++[ij C]) (by omega) y.yB (Bp s f w) (BU s f)
     revert ih
     generalize Ds d n (j++[ij C])=X;intro ih
     match X,ih with
     | .ok cs,ih=>
      refine⟨ih.1,by rw[ih.2.1];simp,?_⟩;intro c b;rcases mA.1 b with rfl|b
      .exact x
      .exact ih.2.2 c b
     | .error p,ih=>exact ih
  ·(have m:((Au d i).kind==1)=jj:=by rw[h.head,I6 (by omega)];rfl);rw[Po o m,Gh g];simp
def Li(s:zA):Bool:= !decide (300<s.size)&&(!(Ao s 0).2.2&&(!decide ((Ao s 0).2.1<s.size)&&(!decide (0<Z (Ao s 0).1.body)&& !decide (2<Z (Ao s 0).1.head.args))))
def gJ:Af:=⟨⟨#[]⟩,[]⟩
def Cs(s:zA):Af:=if Li s=jj then Av Bl (Ao s 0).1.head else gJ
def Il(s:zA):Bool:=Li s&&((Bv (Cs s)).toList==s.toList)
theorem W7(b:Nat)(B:ml)(a:rc Be)(c:Nat)(j:Int)(w:ly)(h:Cw w b B a c j):
  Calls prog 134 #[j3 (V ⟨b,0,Y⟩)] w λe f=>e=kt (q8 ((Au a c).kind==1))/\Cw f b B a c (if(Au a c).kind==1 then j else(Au a c).place)/\Ac [b] w f:=by
 have k:=h.lt;obtain⟨g,i,rfl,R,M,_,l⟩:=h.cells;obtain⟨C,_,_⟩:=l c k;clear l;rw[Bz k]at C;have p:=Ab h;have n:nc (a[c]'k=Au a c):=Bz k;have AO:(0:Int)<=(c:Int):=by omega
 have S:(c:Int)<(Z a:Int):=by omega
 generalize Au a c=m at C n⊢;clear h;cases hk:(m.kind==1)with
 |true=>
  go_enter func134,ntmps134;go_wp2_with fail
  go_quiet (fail)
  go_wp2;go_ret;exact⟨rfl,(Aa p).zL ((re [] w).drewN _),(re _ w).drewN _⟩
 |false=>
  go_enter func134,ntmps134;go_wp2_with fail
  have x:nc (∀d u,Cw d b (U (V ⟨g,0,Y⟩) (Z a) i) a c u->oa d ⟨b,0,Y⟩=V (U (V ⟨g,0,Y⟩) (Z a) i)/\oa d ⟨b,1,Y⟩=V (X J c)/\oa d ⟨g,c*3,Y⟩=V (X J m.kind)):=by
   intro d u o;obtain⟨g',P,z,G,F,_,l⟩:=o.cells;obtain⟨q,_,_⟩:=l c k;simp only[mu,mB,nr]at z;obtain⟨⟨rfl,_⟩,_,rfl⟩:=z;rw[Aa n]at q;exact⟨G,F,q⟩
  have H:=Ab (J6 b (U (V ⟨g,0,Y⟩) (Z a) i) a c j w.drew ((Aa p).zL (re [] w).drew) m (Aa n));have E:nc (∀d,Cw d b (U (V ⟨g,0,Y⟩) (Z a) i) a c j->Calls prog 160 #[j3 (V ⟨b,0,Y⟩),X J m.place] d λe f=>e=kt (q8 K)/\Cw f b (U (V ⟨g,0,Y⟩) (Z a) i) a c m.place/\Ac [b] d f):=λd o=>F1 b (U (V ⟨g,0,Y⟩) (Z a) i) a c j m.place d o
  go_region_held3 (λf=>oa f ⟨b,0,Y⟩=V (U (V ⟨g,0,Y⟩) (Z a) i)/\oa f ⟨b,1,Y⟩=V (X J c)/\oa f ⟨g,c*3,Y⟩=V (X J m.kind)) (go_keep) ((first|(go_at_call 161;refine(Aa H).mono ?_;rintro e L ⟨rfl,A⟩;have v:=Ab ((re [] w).drew.trans A);have t:=Ab ((Aa p).zL (Aa v));obtain⟨y0,Q,y2⟩:=Aa x L j (Aa t);clear A)|(go_at_call 160;refine(Aa E _ (Aa t)).mono ?_;rintro e D ⟨rfl,y,s⟩;have r:=Ab y;have I:=Ab (((Aa v).mono (N:=[b]) (by simp)).trans s);obtain⟨W,u1,T⟩:=Aa x D m.place (Aa r);clear y s)))
  go_wp2;go_ret;exact⟨rfl,Aa r,Aa I⟩
def F6(ms:rc Be):Except Int (rc PL):=
 match Fo ms 0 [] with
 | .error p=> .error p
 | .ok (ls,nx)=>if(Au ms nx).kind==1 then .ok ls else .error (Au ms nx).place
def eY(w:ly)(e:Ending)(w':ly):Except Int (rc PL)->Prop
 | .ok ls=>∃ad cp zD,e=kt (.tuple #[U ad (Z ls) cp,X J 0,q8 jj])/\zD.map qW=ls/\Cf w' w.heap.size (U ad (Z ls) cp) zD/\Ac [] w w'
 | .error p=>e=kt (.tuple #[U Y 0 0,X J p,q8 K])/\Ac [] w w'
theorem Vl(s:zA)(w:ly)(S:s.size<=300):
  Calls prog 90 #[O s] w λe j=>eY w e j (F6 (DH s)):=by
 have Q:=Ab (bo S);have M:=Ka s;have E:=Ab (ax s w S);generalize DH s=ms at Q M E⊢;have AT:Z ms<=1000:=by omega
 go_enter func90,ntmps90;go_wp2_with fail
 refine(Aa E).mono ?_;rintro e a ⟨mv,rfl,x,z⟩;clear E;obtain⟨c,d,rfl⟩:=Al x;have P:=rf a [U c (Z ms) d,X J 0,X J 0] 203;have I:=Ak (mE x (j1 [U c (Z ms) d,X J 0,X J 0].toArray 203)) (mO _);have L:(U c (Z ms) d).ownBlock≠V a.heap.size:=λe=>by have:=(x.lt _ e).2;omega
 have k:nc (Cw (a.alloc (j1 [U c (Z ms) d,X J 0,X J 0].toArray 203)) a.heap.size (U c (Z ms) d) ms 0 0):=⟨P,I,L,M.2,by omega⟩;have n:=Ab (z.alloc (j1 [U c (Z ms) d,X J 0,X J 0].toArray 203));have AH:w.heap.size<=a.heap.size:=z.size;have R:(a.alloc (j1 [U c (Z ms) d,X J 0,X J 0].toArray 203)).heap.size=a.heap.size+1:=by simp
 clear P I L x z;go_wp2_with fail
 change Calls _ _ _ (a.alloc (j1 [U c (Z ms) d,X J 0,X J 0].toArray 203)) _;generalize a.alloc (j1 [U c (Z ms) d,X J 0,X J 0].toArray 203)=w2 at k n R⊢;obtain⟨b,W⟩:=rd a.heap.size;rw[W]at k AH R⊢;clear W;refine(T7 b _ ms 0 0 w2 (Aa k) (Aa Q)).mono ?_;intro e A v;cases ht:Fo ms 0 [] with
 |error p=>
  have f:nc (F6 ms=.error p):=by show _=_;unfold F6;rw[ht]
  rw[ht]at v;obtain⟨q,rfl,l,h⟩:=v;have D:=l.zO.cell 2;simp at D;have o:nc (Ac [] w A):=(Aa n).trans' h (λi g=>lx (by simp at g;omega));clear ht l h k n;go_wp2_with fail
  go_region_held3 (λj=>oa j ⟨b,2,Y⟩=V (X J p)) (go_keep) (fail)
  rename_i C;clear C;go_wp2;go_ret3;rw[f.out];exact⟨rfl,(Aa o).drew⟩
 |ok r=>
  obtain⟨G,q⟩:=r;rw[ht]at v;obtain⟨N,cp,T,rfl,AO,AB,l,h⟩:=v;have f:nc (F6 ms=if(Au ms q).kind==1 then .ok G else .error (Au ms q).place):=by show _=_;unfold F6;rw[ht]
  have u:=Ab (W7 b _ ms q 0 A l);have o:nc (Ac [] w A):=(Aa n).trans' h (λi g=>lx (by simp at g;omega));have B:=Ab AB;have A0:=h.size;clear ht l h k n AB;generalize Au ms q=m at f u;go_wp2_with fail
  refine(Aa u).mono ?_;rintro e F ⟨rfl,t,y⟩;have H:nc (Ac [] w F):=(Aa o).trans' y (λi g=>lx (by simp at g;omega));have AR:nc (Cf F w2.heap.size (U N (Z G) cp) T):=(Aa B).kept y (λi g=>by simp at g;omega);cases hk:(m.kind==1)with
  |true=>
   rw[hk]at f;clear t y u B o;go_wp2;go_ret3;rw[f.out];exact⟨N,cp,T,rfl,AO,(Aa AR).base (by omega),Aa H⟩
  |false=>
   rw[hk]at f t;have D:=t.zO.cell 2;simp at D;clear t y u B o;go_wp2_with fail
   go_region_held3 (λj=>oa j ⟨b,2,Y⟩=V (X J m.place)) (go_keep) (fail)
   rename_i C;clear C;go_wp2;go_ret3;rw[f.out];exact⟨rfl,(Aa H).drew⟩
def XG(s:zA):match F6 (DH s)with
  | .ok i=>(Bg s 0).2.2=K/\¬Ae s (Bg s 0).2.1<s.size/\i=(Bg s 0).1.map MA
  | .error p=>((Bg s 0).2.2=jj\/Ae s (Bg s 0).2.1<s.size)/\p=(AF s (Bg s 0).2.1 (Bg s 0).2.2:Int):=by
 have g:At s (DH s) 0 0:=by unfold At;rw[KN];rfl
 have h:=VE (s:=s) (ms:=DH s) (Z (DH s)) 0 0 [] (by omega) g (mO _);generalize DH s=ms at h g;obtain⟨L,a,f,j⟩:∃L a f,Bg s 0=(L,a,f):=⟨_,_,_,rfl⟩;rw[j]at h⊢;unfold F6;cases hb:Fo ms 0 [] with
 |error p=>
  rw[hb]at h;obtain⟨e,d⟩:=h;subst e;exact⟨lo rfl,by rw[d];rfl⟩
 |ok r=>
  obtain⟨i,n⟩:=r;rw[hb]at h;obtain⟨e,d,l,k⟩:=h;subst e;simp only;rw[l.head];by_cases b:Ae s a<s.size
  .have c:((BV s a).kind==1)=K:=by
    unfold BV;rw[mK b];exact nj.2 ((aY _).2.2 (XD s _ b).1)
   rw[c,D3 k];exact⟨lx b,rfl⟩
  ·(have c:((BV s a).kind==1)=jj:=by rw[I6 b];rfl);rw[c];exact⟨trivial,b,by rw[d];simp⟩
