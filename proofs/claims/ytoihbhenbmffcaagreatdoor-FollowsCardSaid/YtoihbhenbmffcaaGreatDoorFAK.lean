import Derived.Laws.RangeAny
import Derived.Test.YtoihbhenbmffcaaGreatDoorFAH
set_option linter.all false
set_option maxHeartbeats 0
open List renaming length->Z,toArray->ml,replicate->pG
open Option renaming none->Y,some->V
open Go.Value renaming slice->U,int->X,string->O,bool->pE
open Bool renaming false->K,true->jj
open Go.IntKind renaming i64->J
open Go.Obj renaming cells->j3
open Go.Ending renaming returned->oa
open Or renaming inl->oi,inr->oj
open Go renaming World->py,Value->p5
open Go.RowKit renaming Hid->p7
open Go.World renaming cell?->p8,ownsRow->p9
open ByteArray renaming empty->pF
open Prod renaming fst->pH
open Go.Op renaming bytesLess->pK
namespace Go.Proofs.YtoihbhenbmffcaaGreatDoor
open Go.RowKit Go.Proofs.Tryz
variable{s t:zA}{j n k b m i:Nat}{I:Int}{g:UInt8}{M:pM Nat}{w v u:py}{z:p5}{y x:pM p5}{T:TypeId}{B:Bool}
def Ek(s:zA)(j:Nat):Bb×Nat:=
 if AD (CQ s j)then(⟨2,j,s.extract j (AG AD s j)⟩,AG AD s j)
 else if Ap (CQ s j)then(⟨3,j,s.extract j (AG Ap s j)⟩,AG Ap s j)
 else if CQ s j=58/\Et s (j+1) 45=jj then(⟨5,j,⟨#[58,45]⟩⟩,j+2)
 else(CB j (Utf8.decode s j).1,j+(Utf8.decode s j).2)
def EV(h:j<s.size):CQ s j=s[j]:=by simp[CQ,h]
def Ry(s:zA)(j:Nat)(h:j<s.size):j<(Ek s j).2:=by
 unfold Ek;split
 .rename_i a;rw[EV h]at a;simp only;rw[Cp _ _ _ h a];have:=Cr AD s (j+1);omega
 .split
  .rename_i a;rw[EV h]at a;simp only;rw[Cp _ _ _ h a];have:=Cr Ap s (j+1);omega
  .split
   .simp only;omega
   .have:=Jf s j h;simp only;omega
def Sl(s:zA)(a:Nat):pM Bb:=
 if h:Ae s a<s.size then
  have _h1:a<s.size:=Nat.lt_of_le_of_lt (Cb s a) h;have _h2:a<(Ek s (Ae s a)).2:=Nat.lt_of_le_of_lt (Cb s a) (Ry s (Ae s a) h)
  (Ek s (Ae s a)).1::Sl s (Ek s (Ae s a)).2
 else[]
def JC(h:¬Ae s n<s.size):Sl s n=[]:=by unfold Sl;simp[h]
def GD(b:Ae s n=j)(h:j<s.size):Sl s n=(Ek s j).1::Sl s (Ek s j).2:=by
 subst b
 conv=>lhs;unfold Sl
 simp[h]
def Yt(h:Ae s n=Ae s (n+1)):Sl s n=Sl s (n+1):=by
 by_cases b:Ae s (n+1)<s.size
 .rw[GD h b,GD rfl b]
 .rw[JC b,JC (by rw[h];exact b)]
def Ws(h:n<s.size)(b:DD s[n]=jj):Ae s n=Ae s (n+1):=by
 conv=>lhs;unfold Ae
 simp[h,b]
def VJ(h:n<s.size)(b:DD s[n]=K):Ae s n=n:=by
 unfold Ae;simp[h,b]
def bm(h:¬n<s.size):Ae s n=n:=by
 unfold Ae;simp[h]
def JD(s:zA)(ms:pM Bb)(pos:Nat):Prop:=∀m,ms.getLast?=V m->
 (∀p r,CT m p r=K)\/m.place+m.text.size<pos\/(m.place+m.text.size=pos/\(pos<s.size->CT m pos (Utf8.decode s pos).1=K))
def YK{m:Bb}(h:m.place+m.text.size<n):CT m n I=K:=by
 unfold CT;rw[ln (by omega)]
def JD.now{b:pM Bb}(h:JD s b n)(c:n<s.size)(e:¬(((Utf8.decode s n).1:Int)=32\/((Utf8.decode s n).1:Int)=10)):
  Mu b n (Utf8.decode s n).1=b++[CB n (Utf8.decode s n).1]:=by
 unfold Mu;rw[li e];split
 .rename_i m d;have:CT m n (Utf8.decode s n).1=K:=by
   rcases h m d with a|a|a
   .exact a _ _
   .exact YK a
   .exact a.2 c
  simp[this]
 .rfl
def JD.far{b:pM Bb}(h:JD s b n):JD s b (n+1):=by
 intro m c;rcases h m c with a|a|a
 .exact oi a
 .exact oj (oi (by omega))
 .exact oj (oi (by omega))
def IV{b:pM Bb}{m:Bb}(h:(∀p r,CT m p r=K)\/m.place+m.text.size<n\/(m.place+m.text.size=n/\(n<s.size->CT m n (Utf8.decode s n).1=K))):JD s (b++[m]) n:=by
 intro c a;simp at a;subst a;exact h
def CX(c:UInt8):AD c=jj↔97<=c.toNat/\c.toNat<=122:=by
 simp[AD,nT]
def Fr(c:UInt8):Ds c=jj↔65<=c.toNat/\c.toNat<=90:=by
 simp[Ds,nT]
def Cx(c:UInt8):Ap c=jj↔48<=c.toNat/\c.toNat<=57:=by
 simp[Ap,nT]
def QX(c:UInt8):DD c=jj↔c.toNat=32\/c.toNat=10:=by
 simp[DD,<-mO]
def Gy(c:UInt8)(h:c.toNat<128):Utf8.encode (c.toNat:Int)=⟨#[c]⟩:=by
 unfold Utf8.encode;have a:Utf8.valid (c.toNat:Int)=jj:=by simp[Utf8.valid];omega
 simp[a,h]
def JL(f:j<=k)(d:k<s.size):s.extract j k++⟨#[s[k]]⟩=s.extract j (k+1):=by
 apply ByteArray.ext;simp only[po,ByteArray.data_extract];apply Array.ext
 .simp only[Array.size_append,Array.size_extract];have:s.data.size=s.size:=rfl;simp;omega
 .intro i b a;have e:s.data.size=s.size:=rfl;simp only[Array.size_append,Array.size_extract,mE,lj,lO]at b a;by_cases g:i<k-j
  .rw[Array.getElem_append_left (by simp;omega)];simp
  ·(have c:i=k-j:=by omega);subst c;rw[Array.getElem_append_right (by simp;omega)];simp[show j+(k-j)=k by omega];rfl
def size_extract{s:zA}{j k:Nat}(a:k<=s.size):(s.extract j k).size=k-j:=by
 simp[my];omega
def Vh(s:zA)(a:Int)(p:UInt8->Bool)(g:a=2\/a=3)(e:∀c:UInt8,p c=jj->c.toNat<128/\EG (c.toNat:Int)=a/\¬((c.toNat:Int)=32\/(c.toNat:Int)=10))(d:pM Bb)(j:Nat):
  ∀(n k:Nat),s.size-k<=n->j<k->k<=s.size->Fc s k (d++[⟨a,j,s.extract j k⟩])=Fc s (AG p s k) (d++[⟨a,j,s.extract j (AG p s k)⟩])
 |n,k,hn,hjk,hk=>by
  by_cases b:k<s.size
  .cases hpk:p s[k] with
   |false=>rw[Fm p s k b hpk]
   |true=>
    obtain⟨f,h,i⟩:=e _ hpk;rw[Cp p s k b hpk,FZ _ b,nN s k b f];simp only;rw[O9 i];have l:CT ⟨a,j,s.extract j k⟩ k (s[k].toNat:Int)=jj:=by
     unfold CT;simp only[size_extract hk];rw[li (by omega),ln g];simp[h]
    rw[ln l];simp only;rw[Gy _ f,JL (by omega) b]
    match n with
    |0=>omega
    |n+1=>exact Vh s a p g e d j n (k+1) (by omega) (by omega) (by omega)
  .rw[Gx p s k b]
def MV(p:UInt8->Bool)(s:zA):∀(n i:Nat),s.size-i<=n->∀h:AG p s i<s.size,p s[AG p s i]=K
 |n,i,hn,h=>by
  by_cases a:i<s.size
  .cases hp:p s[i] with
   |false=>
    have e:=Fm p s i a hp;simp only[e];exact hp
   |true=>
    have e:=Cp p s i a hp
    match n with
    |0=>omega
    |n+1=>
     have:=MV p s n (i+1) (by omega) (by rw[<-e];exact h);simp only[e];exact this
  .have e:=Gx p s i a;omega
def GG(r:Int):EG r=2↔97<=r/\r<=122:=by
 unfold EG;split
 .simp;omega
 .split
  .simp;omega
  .split
   .simp;omega
   .split
    .simp;omega
    .simp;omega
def IR(r:Int):EG r=3↔48<=r/\r<=57:=by
 unfold EG;split
 .simp;omega
 .split
  .simp;omega
  .split
   .simp;omega
   .split
    .simp;omega
    .simp;omega
def Rf{p:UInt8->Bool}(e:I=2\/I=3)(l:∀c:UInt8,p c=K->EG (c.toNat:Int)≠I)(b:k<=s.size)(n:j<=k)(g:∀h:k<s.size,p s[k]=K):
  JD s ([⟨I,j,s.extract j k⟩]:pM Bb) k:=by
 intro m a;simp at a;subst a;refine oj (oj ⟨by simp only[size_extract b];omega,λh=>?_⟩);unfold CT;simp only[size_extract b];rw[li (by omega),ln e];have i:=g h;simp only[lQ,ne_eq];by_cases f:s[k].toNat<128
 .rw[nN s k h f];exact l _ i
 .have:=(pu s k h (by omega)).1;intro d;rcases e with rfl|rfl
  .rw[GG]at d;omega
  .rw[IR]at d;omega
def Qs{a:pM Bb}{m:Bb}(h:JD s [m] n):JD s (a++[m]) n:=by
 refine IV (h m (by simp))
def Sa(h:¬(97<=n/\n<=122))(a:¬(48<=n/\n<=57)):EG (n:Int)=4\/EG (n:Int)=5\/EG (n:Int)=0:=by
 unfold EG;rw[li (by omega),li (by omega)];split
 .simp
 .split<;>simp
def Qq{m:Bb}(h:m.kind=4\/m.kind=0\/(m.kind=5/\m.text.toList≠[58]))(p:Nat)(r:Int):CT m p r=K:=by
 unfold CT;split
 .rfl
 .rcases h with h|h|h
  .simp[h]
  .simp[h]
  .simp[h.1,h.2]
theorem D6(s:zA):∀(n a:Nat) (e:pM Bb),s.size-a<=n->JD s e a->Fc s a e=e++Sl s a
 |n,a,e,hn,d=>by
  by_cases b:a<s.size
  .match n with
   |0=>omega
   |n+1=>
    cases hb:DD s[a] with
    |true=>
     have x:=(QX _).1 hb;rw[FZ _ b,nN s a b (by omega)];simp only;(have:Mu e a (s[a].toNat:Int)=e:=by unfold Mu;rw[ln (by omega)]);rw[this,D6 s n (a+1) e (by omega) d.far,Yt (Ws b hb)]
    |false=>
     (have x:¬(s[a].toNat=32\/s[a].toNat=10):=λh=>by rw[(QX _).2 h]at hb;cases hb);have v:=VJ b hb;have y:¬(((Utf8.decode s a).1:Int)=32\/((Utf8.decode s a).1:Int)=10):=by
      by_cases i:s[a].toNat<128
      .rw[nN s a b i];simp only;omega
      .have:=(pu s a b (by omega)).1;omega
     rw[GD v b,FZ _ b,d.now b y];have f:=Ry s a b;unfold Ek at f⊢;rw[EV b]at f⊢;cases hl:AD s[a] with
     |true=>
      have q:=(CX _).1 hl;simp only[hl,if_true]at f⊢;rw[nN s a b (by omega)];simp only;have k:CB a (s[a].toNat:Int)=⟨2,a,s.extract a (a+1)⟩:=by
       unfold CB;rw[(GG _).2 (by omega),Gy _ (by omega),<-JL (lC _) b];simp
      rw[k,Vh s 2 AD (oi rfl) (λc d=>by have:=(CX _).1 d;exact⟨by omega,(GG _).2 (by omega),by omega⟩) e a _ (a+1) (lC _) (by omega) (by omega),<-Cp AD s a b hl];have o:=CM AD s a (by omega);rw[D6 s n _ _ (by omega) (Qs (Rf (oi rfl) (λc d g=>by rw[GG]at g;rw[(CX c).2 (by omega)]at d;cases d) o (by omega) (MV AD s _ a (lC _))))];simp
     |false=>
      (have q:¬(97<=s[a].toNat/\s[a].toNat<=122):=λh=>by rw[(CX _).2 h]at hl;cases hl);cases hd:Ap s[a] with
      |true=>
       have r:=(Cx _).1 hd;simp only[hl,hd,if_true,k0,if_false]at f⊢;rw[nN s a b (by omega)];simp only;have k:CB a (s[a].toNat:Int)=⟨3,a,s.extract a (a+1)⟩:=by
        unfold CB;rw[(IR _).2 (by omega),Gy _ (by omega),<-JL (lC _) b];simp
       rw[k,Vh s 3 Ap (oj rfl) (λc d=>by have:=(Cx _).1 d;exact⟨by omega,(IR _).2 (by omega),by omega⟩) e a _ (a+1) (lC _) (by omega) (by omega),<-Cp Ap s a b hd];have o:=CM Ap s a (by omega);rw[D6 s n _ _ (by omega) (Qs (Rf (oj rfl) (λc d g=>by rw[IR]at g;rw[(Cx c).2 (by omega)]at d;cases d) o (by omega) (MV Ap s _ a (lC _))))];simp
      |false=>
       (have r:¬(48<=s[a].toNat/\s[a].toNat<=57):=λh=>by rw[(Cx _).2 h]at hd;cases hd);simp only[hl,hd,k0,if_false]at f⊢;by_cases j:s[a]=58
       ·(have z:s[a].toNat=58:=by rw[j];rfl);rw[nN s a b (by omega)]at f⊢;simp only at f⊢;have k:CB a (s[a].toNat:Int)=⟨5,a,⟨#[58]⟩⟩:=by
         unfold CB;rw[Gy _ (by omega),j];rfl
        rw[k];cases hat:Et s (a+1) 45 with
        |true=>
         have m:=F1 hat;have p:s[a+1]=45:=by
          unfold Et at hat;simpa[m] using hat
         (have u:s[a+1].toNat=45:=by rw[p];rfl);rw[ln ⟨j,rfl⟩];simp only;rw[FZ _ m,nN s (a+1) m (by omega)];simp only;rw[O9 (by omega)];have t:CT ⟨5,a,⟨#[58]⟩⟩ (a+1) (s[a+1].toNat:Int)=jj:=by
          rw[u];unfold CT;rw[li (by simp;rfl)];simp
         rw[ln t];simp only;rw[Gy _ (by omega),p];have w:(⟨#[58]⟩:zA)++⟨#[45]⟩=⟨#[58,45]⟩:=rfl;rw[w,D6 s n (a+1+1) _ (by omega) (IV (oi (Qq (oj (oj ⟨rfl,by simp⟩)))))];simp
        |false=>
         rw[li (by simp)];simp only;rw[D6 s n (a+1) _ (by omega) (IV (oj (oj ⟨by simp;rfl,λl=>?_⟩)))]
         .simp
         .unfold CT;rw[li (by simp;rfl)];simp;intro g;by_cases i:s[a+1].toNat<128
          .rw[nN s (a+1) l i]at g;simp only at g;unfold Et at hat;simp[l]at hat;apply hat;apply mO.1;rw[show(45:UInt8).toNat=45 from rfl]
           omega
          .have:=(pu s (a+1) l (by omega)).1;omega
       .rw[li (by simp[j])]at f⊢;simp only at f⊢;refine(D6 s n _ _ (by omega) (IV (oi (Qq ?_)))).trans (by simp);by_cases i:s[a].toNat<128
        .rw[nN s a b i];unfold CB;simp only;rcases Sa q r with h|h|h
         .exact oi h
         .refine oj (oj ⟨h,?_⟩);rw[Gy _ i];intro g;apply j;simpa using g
         .exact oj (oi h)
        .have:=(pu s a b (by omega)).1;refine oj (oi ?_);unfold CB;simp only;unfold EG;rw[li (by omega),li (by omega),li (by omega),li (by omega)]
  .rw[PE _ b,JC (by rw[bm b];exact b)];simp
def De(s:zA)(a:Nat):pM Bb:=(Sl s a).map Jd++[E5 s]
def Kc(s:zA):Dl s=De s 0:=by
 unfold Dl De;rw[D6 s _ 0 [] (lC _) (λm a=>by simp at a)];simp
def A8(s:zA):Prop:=(∃c r,s.toList=c::r/\97<=c.toNat/\c.toNat<=122)\/eO s.toList=jj
def C8{r:pM UInt8}(h:s.toList=g::r):CQ s 0=g/\s.size=Z r+1:=by
 have b:s.size=Z r+1:=by rw[AY,h];rfl
 refine⟨?_,b⟩;unfold CQ;rw[dif_pos (by omega)];obtain⟨d,a,_⟩:=IT s (by omega);rw[h]at a;exact(List.cons.inj a).1.symm
def LI(a:48<=g.toNat)(b:g.toNat<=57):Ap g=jj:=(Cx _).2 ⟨a,b⟩
def J0(a:97<=g.toNat):Ap g=K:=by
 cases h:Ap g with
 |false=>rfl
 |true=>have:=(Cx _).1 h;omega
def QL(x:UInt8)(l m:pM UInt8):pK (x::l) (x::m)=pK l m:=by
 simp[pK]
def dt{x y:UInt8}(h:x.toNat<y.toNat)(l m:pM UInt8):pK (x::l) (y::m)=jj:=by
 have:x<y:=h;simp[pK,this]
def dn{x y:UInt8}(h:y.toNat<x.toNat)(l m:pM UInt8):pK (x::l) (y::m)=K:=by
 have a:¬x<y:=by
  intro c;have:x.toNat<y.toNat:=c;omega
 have b:(x==y)=K:=by
  rw[lQ];intro e;rw[e]at h;omega
 simp[pK,a,b]
def Ge(h:eO s.toList=jj):(AE s).toList=pG (3-Z s.toList) 48++s.toList:=by
 have g:I2 s=jj:=by
  unfold I2;rcases Fl h with⟨c,e,b,a⟩|⟨c,d,e,b,a⟩|⟨c,d,f,e,b,a⟩<;>rw[e,Fh]<;>simp<;>omega
 have j:Z s.toList<=3:=by
  rcases Fl h with⟨c,e,b,a⟩|⟨c,d,e,b,a⟩|⟨c,d,f,e,b,a⟩<;>rw[e]<;>simp
 have i:=AY s;unfold AE;rw[g,ln rfl,Mx 3 s (by omega) (by omega),i]
def Fu{r:pM UInt8}(h:s.toList=g::r)(b:97<=g.toNat):AE s=s:=by
 have a:I2 s=K:=by
  unfold I2;rw[h,Fh];simp;omega
 unfold AE;rw[a];rfl
def Ip(l:A8 s)(i:A8 t):pK (AE s).toList (AE t).toList=Gb s t:=by
 rcases l with⟨c,r,p,q,D⟩|l
 .obtain⟨y,E⟩:=C8 p;rcases i with⟨d,m,k,o,z⟩|i
  .obtain⟨u,B⟩:=C8 k;rw[Fu p q,Fu k o];unfold Gb;rw[y,u,J0 q,J0 o];rfl
  .rw[Fu p q,Ge i];unfold Gb;rw[y,J0 q];rcases Fl i with⟨d,e,j,h⟩|⟨d,f,e,j,h⟩|⟨d,f,g,e,j,h⟩;all_goals
    rw[(C8 e).1,LI (by omega) h,e,p];refine Eq.trans (dn ?_ _ _) rfl
    first|omega|(show(48:UInt8).toNat<_;show 48<_;omega)
 .rcases i with⟨d,m,k,o,z⟩|i
  .obtain⟨u,B⟩:=C8 k;rw[Fu k o,Ge l];unfold Gb;rw[u,J0 o];rcases Fl l with⟨c,e,j,h⟩|⟨c,f,e,j,h⟩|⟨c,f,g,e,j,h⟩;all_goals
    rw[(C8 e).1,LI (by omega) h,e,k];refine Eq.trans (dt ?_ _ _) rfl
    first|omega|(show(48:UInt8).toNat<_;show 48<_;omega)
  .rw[Ge l,Ge i];unfold Gb;rcases Fl l with⟨c,e,j,h⟩|⟨c,f,e,j,h⟩|⟨c,f,g,e,j,h⟩<;>
    rcases Fl i with⟨w,n,x,v⟩|⟨w,A,n,x,v⟩|⟨w,A,C,n,x,v⟩<;>
    rw[(C8 e).1,(C8 n).1,LI (by omega) h,LI (by omega) v,(C8 e).2,(C8 n).2,e,n]
   .simp[pG,QL]
   .exact Eq.trans (Eq.trans (QL _ _ _) (dt (by show 48<_;omega) _ _)) rfl
   .exact Eq.trans (dt (by show 48<_;omega) _ _) rfl
   .exact Eq.trans (Eq.trans (QL _ _ _) (dn (by show 48<_;omega) _ _)) rfl
   .simp[pG,QL]
   .exact Eq.trans (dt (by show 48<_;omega) _ _) rfl
   .exact Eq.trans (dn (by show 48<_;omega) _ _) rfl
   .exact Eq.trans (dn (by show 48<_;omega) _ _) rfl
   .simp[pG]
def OT(s:zA):(s.extract 1 s.size).toList=s.toList.drop 1:=by
 rw[lN,lN,ByteArray.data_extract,Array.toList_extract];have h:s.size=Z s.data.toList:=rfl;simp only[List.extract];rw[kX (by rw[mf];omega)]
def Ft{r:pM UInt8}(h:s.toList=g::r):(Fz (k+1) s).toList=if 0<Z r/\g=48 then(Fz k (s.extract 1 s.size)).toList else s.toList:=by
 obtain⟨e,d⟩:=C8 h;rw[Fz,e,d];by_cases a:0<Z r/\g=48
 .rw[ln ⟨by omega,a.2⟩,ln a]
 .rw[li (λb=>a ⟨by omega,b.2⟩),li a]
def Gr(k:A8 s):BZ (AE s)=s:=by
 rcases k with⟨c,r,e,b,m⟩|k
 .rw[Fu e b];unfold BZ;have i:I2 s=K:=by
   unfold I2;rw[e,Fh];simp;omega
  rw[i];rfl
 .have g:=Ge k;apply toList_inj;have l:(AE s).size=Z (AE s).toList:=AY _;generalize AE s=p at g l⊢;unfold BZ;rcases Fl k with⟨c,e,b,m⟩|⟨c,d,e,b,m⟩|⟨c,d,f,e,b,m⟩
  .rw[e]at g⊢;have a:p.toList=[48,48,c]:=g;(have i:I2 p=jj:=by unfold I2;rw[a,Fh];rfl);rw[i,ln rfl,l,a];show(Fz 3 p).toList=[c];rw[Ft a,ln ⟨by simp,rfl⟩];(have j:(p.extract 1 p.size).toList=[48,c]:=by rw[OT,a];rfl);rw[Ft j,ln ⟨by simp,rfl⟩];(have q:((p.extract 1 p.size).extract 1 (p.extract 1 p.size).size).toList=[c]:=by rw[OT,j];rfl);rw[Ft q,li (by simp),q]
  .rw[e]at g⊢;have a:p.toList=[48,c,d]:=g;(have i:I2 p=jj:=by unfold I2;rw[a,Fh];rfl);(have o:c≠48:=λn=>by rw[n]at b;exact absurd b (by decide));rw[i,ln rfl,l,a];show(Fz 3 p).toList=[c,d];rw[Ft a,ln ⟨by simp,rfl⟩];(have j:(p.extract 1 p.size).toList=[c,d]:=by rw[OT,a];rfl);rw[Ft j,li (λh=>o h.2),j]
  .rw[e]at g⊢;have a:p.toList=[c,d,f]:=g;(have i:I2 p=jj:=by unfold I2;rw[a,Fh];simp;omega);(have o:c≠48:=λn=>by rw[n]at b;exact absurd b (by decide));rw[i,ln rfl,l,a];show(Fz 3 p).toList=[c,d,f];rw[Ft a,li (λh=>o h.2),a]
def Gp(c:A8 s)(d:A8 t)(h:AE s=AE t):s=t:=by
 rw[<-Gr c,<-Gr d,h]
theorem Tryz.yV:(Tryz.prog.info? 217).map (λi=>(i.zero,i.size,i.bytes))=V (V (.agg #[X J 0,X J 0,X J 0,O ⟨#[]⟩,U Y 0 0,X .i32 0,O ⟨#[]⟩,X .i32 0,O ⟨#[]⟩]),9,112):=by kernel_rfl
structure PL where
 place:Int
 sort:Int
 ap:Int
 an:zA
 ts:pM AW
 l:AW
 r:AW
def Kt:dw->PL
 | .inl (pl,so,p,s,ts)=>⟨pl,so,p,s,ts,AJ,AJ⟩
 | .inr c=>⟨c.place,c.sort,0,pF,[],c.left,c.right⟩
abbrev Lz:=PL×p5
def Ay(p:Lz):pM p5:=[X J p.1.place,X J p.1.sort,X J p.1.ap,O p.1.an,p.2,X .i32 p.1.l.v,O p.1.l.s,X .i32 p.1.r.v,O p.1.r.s]
def KV(w:py)(base:Nat)(p:Lz):Prop:=p9 w base 215 2 p.2 (Z p.1.ts) (p.1.ts.flatMap Ar)
def KV.zX{p:Lz}(h:KV w n p)(k:Ac M w v)(a:∀i,p.2.ownBlock=V i->i∉M):KV v n p:=Ai h k a
def KV.kept{w w':py}{p:Lz}(h:KV w n p)(k:Ac M w w')(a:∀i,i∈M->i<n:=by simp):KV w' n p:=Ad h k a
def Zm.uni{g:pM Bb}{e:Ending}{l:dw}(d:IG g m=.ok (l,n))(h:Zm b z g I w e v (.ok (l,n))):
  ∃i f,e=oa (.tuple #[.agg (ml (Ay (Kt l,U i (Z (Kt l).ts) f))),pE jj])/\KV v w.heap.size (Kt l,U i (Z (Kt l).ts) f)/\Cn v b z g n I/\Ac [b] w v:=by
 cases l with
 |inl a=>
  obtain⟨E,x,p,s,G⟩:=a;obtain⟨A,y,rfl,r,o,k,j⟩:=h;obtain⟨i,f,rfl⟩:=Ak o;exact⟨i,f,rfl,Am o r,k,j⟩
 |inr c=>
  have u:ID g m=.ok (c,n):=by
   unfold IG at d;split at d
   .split at d<;>simp at d
   .split at d
    .split at d<;>simp at d
    .split at d
     .simp at d
     .rename_i t;simp only[mF,lZ,Sum.inr.injEq]at d;rw[t];simp[d]
  have q:=Ua u;obtain⟨f,B,C,F,D⟩:=c;simp only at q;subst q;obtain⟨rfl,k,j⟩:=h;exact⟨Y,0,rfl,lH _ _ _ _,k,j⟩
def Ro{b:pM Bb}:∀(k a:Nat) (d:pM AW) {c:pM AW} {n:Nat},Z b-a<=k->GP b a d=.ok (c,n)->a<n
 |k,a,d,c,n,hk,h=>by
  unfold GP at h;split at h
  .rename_i e;split at h
   .cases h
   .split at h
    .match k with
     |0=>omega
     |k+1=>have:=Ro k (a+2) _ (by omega) h;omega
    .split at h
     .simp only[mF,lZ]at h;omega
     .cases h
  .cases h
def MH{b:pM Bb}{a:Nat×zA×pM AW}(h:Fo b m=.ok (a,n)):m<n:=by
 unfold Fo at h;split at h
 .split at h
  .split at h
   .cases h
   .rename_i c;simp only[mF,lZ]at h;have:=Ro _ _ _ (lC _) c;omega
  .cases h
 .cases h
def cg{a:pM Bb}{l:du}(h:ID a m=.ok (l,n)):m<n:=by
 unfold ID at h;split at h
 .cases h
 .rename_i c;have d:=Gj c;split at h
  .cases h
  .split at h
   .cases h
   .rename_i b;have q2:=Gj b;simp only[mF,lZ]at h;omega
def Jq{b:pM Bb}{l:dw}(h:IG b m=.ok (l,n)):m<n:=by
 unfold IG at h;split at h
 .split at h
  .cases h
  .rename_i a;have:=MH a;simp only[mF,lZ]at h;omega
 .split at h
  .split at h
   .cases h
   .rename_i a;have:=MH a;simp only[mF,lZ]at h;omega
  .split at h
   .cases h
   .rename_i a;have:=cg a;simp only[mF,lZ]at h;omega
def E4(ms:pM Bb)(nx:Nat)(acc:pM PL):Except Int (pM PL×Nat):=
 if _h:nx<Z ms then
  match IG ms nx with
  | .error p=> .error p
  | .ok (l,n)=>
   if _h2:nx<n then
    if BW (Au ms n) IW then E4 ms (n+1) (acc++[Kt l])else .ok (acc++[Kt l],n)
   else .error 0
 else .error 0
def IN{a:pM Bb}{c:pM PL}(h:n<Z a)(b:IG a n=.error I):E4 a n c=.error I:=by
 unfold E4;simp[h,b]
def Oc{a:pM Bb}{acc:pM PL}{l:dw}(h:m<Z a)(b:IG a m=.ok (l,n)):
  E4 a m acc=if BW (Au a n) IW then E4 a (n+1) (acc++[Kt l])else .ok (acc++[Kt l],n):=by
 have c:=Jq b
 conv=>lhs;unfold E4
 simp[h,b,c]
structure B8(w:py)(base:Nat)(v:p5)(ls:pM Lz):Prop where
 row:p9 w base 217 9 v (Z ls) (ls.flatMap Ay)
 each:∀p∈ls,KV w base p/\B6 p.2 v
def B8.kept{M:pM Nat}{w w':py}{a:Nat}{v:p5}{d:pM Lz}(h:B8 w a v d)(k:Ac M w w')(c:∀i,i∈M->i<a:=by simp):B8 w' a v d:=
 ⟨Ad h.row k c,λp b=>⟨(h.each p b).1.kept k c,(h.each p b).2⟩⟩
def B8.base{w:py}{d base':Nat}{v:p5}{b:pM Lz}(h:B8 w d v b)(c:base'<=d):B8 w base' v b:=
 ⟨Am h.row c,λp a=>⟨Am (h.each p a).1 c,(h.each p a).2⟩⟩
def B8.nil(w:py)(b:Nat):B8 w b (U Y 0 0) []:=⟨lH _ _ _ _,λp a=>by simp at a⟩
def gG(b:Nat)(mv:p5)(ms:pM Bb)(br:Int)(w:py)(e:Ending)(w':py):Except Int (pM PL×Nat)->Prop
 | .ok (ls,nx)=>∃ad cp zH,e=oa (.tuple #[U ad (Z ls) cp,pE jj])/\zH.map pH=ls/\B8 w' w.heap.size (U ad (Z ls) cp) zH/\Cn w' b mv ms nx br/\Ac [b] w w'
 | .error p=>∃nx,e=oa (.tuple #[U Y 0 0,pE K])/\Cn w' b mv ms nx p/\Ac [b] w w'
set_option maxRecDepth 100000
theorem Tw(b:Nat)(n:p5)(a:pM Bb)(I:Nat)(C:Int)(w:py)(h:Cn w b n a I C)(ok:Xs a):
  Calls prog 133 #[.pointer (V ⟨b,0,Y⟩)] w λe w'=>gG b n a C w e w' (E4 a I []):=by
 obtain⟨i0,HK,HA,HN,HI⟩:=mg Tryz.yV;obtain⟨R,hR⟩:=pN (E4 a I []);rw[hR];have B9:=Ab hR;have HO:=Ab ok;have H0:=h.zN.lt;have HU:=h.len;have B0:p7 (∀k,w.heap.size<=k->n.ownBlock≠V k):=λk B e=>by have:=(h.row.lt k e).2;omega
 have h0:=Ab h;clear hR ok h;go_enter func133,ntmps133;go_wp2_with fail
 go_loopg [4] (Z a-I) (λgk o wr=>∃(j:Nat) (acc:pM Lz) (v:Option Addr) (x:Nat),o=U v (Z acc) x/\gk=Z a-j/\p7 (E4 a j (acc.map pH)=R)/\p7 (Cn wr b n a j C)/\p7 (B8 wr w.heap.size (U v (Z acc) x) acc)/\p7 (Ac [b] w wr)/\Z acc<=j)
 case atStart=>exact⟨I,[],Y,0,rfl,rfl,B9,h0,B8.nil _ _,pO _ _,by simp⟩
 case round=>
  clear h0 B9;obtain⟨j,acc,v,x,rfl,FP,D,HR,E,P,HQ⟩:=hrel;have HG:=Ab FP;clear FP;have B2:=HR.lt;have HX:=P.size;go_wp2_with fail
  refine(fc b n a j C _ HR HO).mono ?_;intro e f H;cases ht:IG a j with
  |error q=>
   rw[ht]at H;obtain⟨n9,l,⟨H7,n8,H5,FO⟩,rfl,G,z⟩:=H;(have HF:p7 (R=.error q):=by show _=_;rw[<-Aa D];exact IN B2 ht);have S:=Ab (P.trans z);have s:=Ab G;clear z ht HR E P D G;obtain⟨lp,ls,⟨la,H4,HY⟩,ll,lr⟩:=l;simp only at FO;subst FO;simp only[Az];go_wp2;go_ret2;rw[HF.out];exact⟨n9,rfl,s.zJ ((pO [] _).alloc _),S.alloc _⟩
  |ok r=>
   obtain⟨t,u⟩:=r;rw[ht]at H;have HP:=Jq ht;obtain⟨d,c,rfl,W,G,z⟩:=H.uni ht;have M:=Ab (Oc (acc:=acc.map pH) B2 ht);clear H ht;generalize Kt t=p at W M⊢;clear t;have Ix:=z.size;have BS:=Ad E.row z (by simp;omega);(have CC:p7 (∀q∈acc,KV f w.heap.size q/\B6 q.2 (U v (Z acc) x)):=λq g=>⟨(E.each q g).1.kept z (by simp;omega),(E.each q g).2⟩);have BA:p7 (B6 (U d (Z p.ts) c) (U v (Z acc) x)):=λk B he=>by
    have:=(W.lt k B).1;have:=(E.row.lt k he).2;omega
   have EM:=Ab W;have S:=Ab (P.trans z);have s:=Ab G;have FB:=G.lt;clear W G z E P HR;have FT:((f.alloc (j3 (ml (Ay (p,U d (Z p.ts) c))) 217)).alloc (j3 (ml (Ay (p,U d (Z p.ts) c))) 217)).heap[f.heap.size+1]?=V (j3 (ml (Ay (p,U d (Z p.ts) c))) 217 (0,0)):=by
    have hh:=lP (f.alloc (j3 (ml (Ay (p,U d (Z p.ts) c))) 217)) (j3 (ml (Ay (p,U d (Z p.ts) c))) 217);rw[show(f.alloc (j3 (ml (Ay (p,U d (Z p.ts) c))) 217)).heap.size=f.heap.size+1 from by simp]at hh
    exact hh
   have FC:=lg (lg BS (j3 (ml (Ay (p,U d (Z p.ts) c))) 217)) (j3 (ml (Ay (p,U d (Z p.ts) c))) 217);(have H1:Z acc<=1000:=by omega);simp only[Ay];go_wp2_with (at_builtin;refine lG _ rfl (.tmp 14) (.tmp 16) _ rfl w.heap.size 217 i0 _ 9 112 underlying97 HK HA HN HI rfl (by omega) (U v (Z acc) x) (Z acc) (acc.flatMap Ay) rfl FC ⟨f.heap.size+1,0,Y⟩ 1 1 (Ay (p,U d (Z p.ts) c)) rfl rfl (lI (cs:=ml (Ay (p,U d (Z p.ts) c))) (t:=217) (fr:=(0,0)) FT) (by simp[Value.oneCell',Ay]) (by omega) (by unfold maxLen;omega) (by omega) (by simp;omega) (f.heap.size+1+1) (by simp) ?_;intro Q A0 L A2 DT AB Go)
   have F:Ac (U v (Z acc) x).ownBlock.toList f L:=(((pO _ f).alloc _).alloc _).grown DT (λk B=>oi (by simp[B]));(have T:∀i∈(U v (Z acc) x).ownBlock.toList,w.heap.size<=i:=λi m=>(BS.lt i (by simpa using m)).1);have Ha:n.ownBlock≠Y->∀k,n.ownBlock=V k->k<w.heap.size:=λ_ k B=>by
    by_cases g:k<w.heap.size
    .exact g
    .exact absurd B (B0 k (by omega))
   have EK:Cn L b n a u C:=⟨s.zN.kept F (λA=>by have:=T b A;omega),Ai s.row F (λi m A=>by have:=T i A;exact absurd m (B0 i this)),s.ap,s.lt,s.len⟩;have A1:Ac [b] w L:=S.trans' F (λi m=>oj (by have:=T i m;omega));have H6:w.heap.size<=L.heap.size:=A1.size;have FA:p7 (B8 L w.heap.size (U (V ⟨Q,0,Y⟩) (Z acc+1) A0) (acc++[(p,U d (Z p.ts) c)])):=by
    refine⟨by simpa using A2,?_⟩;intro q g;rcases lw.1 g with g|g
    .obtain⟨N,h2⟩:=CC q g;exact⟨N.zX F (λi m A=>h2 i m (by simpa using A)),B6.ze h2 N AB (by omega)⟩
    .simp only[kY]at g;subst g;have N:KV f w.heap.size (p,U d (Z p.ts) c):=Am EM (by omega);exact⟨N.zX F (λi m A=>BA i m (by simpa using A)),B6.ze BA N AB (by omega)⟩
   have CL:=Ab EK;have E0:=Ab A1;have H8:w.heap.size<=Q:=(A2.lt Q rfl).1;clear F T Ha EK A1 DT AB Go A2 FT FC BS CC BA EM S s;refine(G1 b n a u C IW _ CL (Au a u) (Bl FB) (HO.seen FB IW)).mono ?_;rintro e HZ ⟨rfl,y,Bx⟩;have FF:=Ab (FA.kept Bx (by simp;omega));have FW:=Ab (E0.trans Bx);clear Bx FA E0 CL;cases hs:BW (Au a u) IW with
   |true=>
    rw[hs]at y;simp only[if_true]at y;have HD:p7 (E4 a (u+1) ((acc++[(p,(U d (Z p.ts) c:p5))]).map pH)=R):=by
     show _=_;rw[<-Aa D,Aa M,hs];simp
    have AH:=Ab y;clear y hs D M;go_wp2_with fail
    go_roundg (Z a-(u+1))
    case measure=>have:=Aa HG;omega
    case rel=>exact⟨u+1,acc++[(p,U d (Z p.ts) c)],V ⟨Q,0,Y⟩,A0,by simp,rfl,HD,AH,by simpa using FF,FW,by simp;omega⟩
   |false=>
    rw[hs]at y;simp only[k0,if_false]at y;have HF:p7 (R=.ok (acc.map pH++[p],u)):=by
     show _=_;rw[<-Aa D,Aa M,hs];simp
    have AH:=Ab y;clear y hs D M;go_wp2;go_ret2;rw[HF.out];exact⟨V ⟨Q,0,Y⟩,A0,acc++[(p,U d (Z p.ts) c)],by simp,by simp,by simpa using(Aa FF),Aa AH,Aa FW⟩
def aF:zA:=⟨#[58]⟩
def iz:zA:=⟨#[58,45]⟩
def Z8:zA:=⟨#[46]⟩
structure PC where
 hp:Int
 hn:zA
 zV:pM AW
 body:pM PL
def Ou(ms:pM Bb)(n:Nat)(c:PC):Except Int (PC×Nat):=if BW (Au ms n) Z8 then .ok (c,n+1)else .error (Au ms n).place
def CO(ms:pM Bb)(nx:Nat):Except Int (PC×Nat):=
 match Fo ms nx with
 | .error p=> .error p
 | .ok ((p,s,ts),n)=>
  if BW (Au ms n) aF then .error (((Au ms n).place:Int)+1)
  else if BW (Au ms n) iz then
   match E4 ms (n+1) [] with
   | .error q=> .error q
   | .ok (ls,n2)=>Ou ms n2 ⟨p,s,ts,ls⟩
  else Ou ms n ⟨p,s,ts,[]⟩
def QP{b:pM Bb}:∀(k a:Nat) (d:pM PL) {e:pM PL} {n:Nat},Z b-a<=k->E4 b a d=.ok (e,n)->a<n
 |k,a,d,e,n,hk,h=>by
  by_cases c:a<Z b
  .cases hl:IG b a with
   |error p=>rw[IN c hl]at h;cases h
   |ok r=>
    obtain⟨l,f⟩:=r;have g:=Jq hl;rw[Oc c hl]at h;split at h
    .match k with
     |0=>omega
     |k+1=>have:=QP k (f+1) _ (by omega) h;omega
    .simp only[mF,lZ]at h;omega
  .unfold E4 at h;rw[dif_neg c]at h;cases h
def Tz{a:pM Bb}{c b:PC}(h:Ou a n c=.ok (b,m)):m=n+1:=by
 unfold Ou at h;split at h
 .simp only[mF,lZ]at h;exact h.2.symm
 .cases h
def Hf{a:pM Bb}{c:PC}(h:CO a m=.ok (c,n)):m<n:=by
 unfold CO at h;split at h
 .cases h
 .rename_i d;have e:=MH d;split at h
  .cases h
  .split at h
   .split at h
    .cases h
    .rename_i b;have q2:=QP _ _ _ (lC _) b;have q3:=Tz h;omega
   .have q3:=Tz h;omega
def Dc(ms:pM Bb)(nx:Nat)(acc:pM PC):Except Int (pM PC):=
 if _h:nx<Z ms then
  if(Au ms nx).kind==1 then .ok acc
  else match CO ms nx with
   | .error p=> .error p
   | .ok (c,n)=>if _h2:nx<n then Dc ms n (acc++[c])else .error 0
 else .error 0
def OR{a:pM Bb}{b:pM PC}(h:n<Z a)(c:((Au a n).kind==1)=jj):Dc a n b=.ok b:=by
 unfold Dc;simp[h,c]
def Ld{a:pM Bb}{d:pM PC}(h:n<Z a)(b:((Au a n).kind==1)=K)(c:CO a n=.error I):Dc a n d=.error I:=by
 unfold Dc;simp[h,b,c]
def R9{a:pM Bb}{acc:pM PC}{c:PC}(h:m<Z a)(d:((Au a m).kind==1)=K)(b:CO a m=.ok (c,n)):Dc a m acc=Dc a n (acc++[c]):=by
 have e:=Hf b
 conv=>lhs;unfold Dc
 simp[h,d,b,e]
def Bh(hp:Int)(hn:zA)(hv bv:p5):pM p5:=[X J hp,O hn,hv,bv]
def AF.zO{N:Nat}(h:AF w N y T)(g:Z y=4)(d c b a:p5):AF ((((w.setCell ⟨N,0,Y⟩ d).setCell ⟨N,1,Y⟩ c).setCell ⟨N,2,Y⟩ b).setCell ⟨N,3,Y⟩ a) N [d,c,b,a] T:=by
 have f:=(((h.set 0 d).set 1 c).set 2 b).set 3 a;have e:(((y.set 0 d).set 1 c).set 2 b).set 3 a=[d,c,b,a]:=by
  match y,g with
  |[_,_,_,_],_=>rfl
 rw[e]at f;exact f
def Cn.zO{d:pM Bb}(h:Cn w b z d n I){N:Nat}(a:N≠b)(c:z.ownBlock≠V N)(i g f e:p5):Cn ((((w.setCell ⟨N,0,Y⟩ i).setCell ⟨N,1,Y⟩ g).setCell ⟨N,2,Y⟩ f).setCell ⟨N,3,Y⟩ e) b z d n I:=
 (((h.other (p:=⟨N,0,Y⟩) a c i).other (p:=⟨N,1,Y⟩) a c g).other (p:=⟨N,2,Y⟩) a c f).other (p:=⟨N,3,Y⟩) a c e
def Ac.zO(h:Ac M v w){N:Nat}(b:N∈M\/v.heap.size<=N)(f e d c:p5):Ac M v ((((w.setCell ⟨N,0,Y⟩ f).setCell ⟨N,1,Y⟩ e).setCell ⟨N,2,Y⟩ d).setCell ⟨N,3,Y⟩ c):=
 (((h.setCell (p:=⟨N,0,Y⟩) b f).setCell (p:=⟨N,1,Y⟩) b e).setCell (p:=⟨N,2,Y⟩) b d).setCell (p:=⟨N,3,Y⟩) b c
structure Ki(w:py)(base:Nat)(hv bv:p5)(zV:pM AW)(ls:pM Lz):Prop where
 head:p9 w base 215 2 hv (Z zV) (zV.flatMap Ar)
 body:B8 w base bv ls
def Ki.kept{M:pM Nat}{w w':py}{a:Nat}{d e:p5}{c:pM AW}{f:pM Lz}(h:Ki w a d e c f)(k:Ac M w w')(b:∀i,i∈M->i<a:=by simp):Ki w' a d e c f:=⟨Ad h.head k b,h.body.kept k b⟩
def Ki.base{w:py}{c base':Nat}{b e:p5}{a:pM AW}{f:pM Lz}(h:Ki w c b e a f)(d:base'<=c):Ki w base' b e a f:=⟨Am h.head d,h.body.base d⟩
def aM(b:Nat)(mv:p5)(ms:pM Bb)(br:Int)(w:py)(e:Ending)(w':py):Except Int (PC×Nat)->Prop
 | .ok (c,nx)=>∃ad cp ad2 cp2 zH,e=oa (.tuple #[.agg (ml (Bh c.hp c.hn (U ad (Z c.zV) cp) (U ad2 (Z c.body) cp2))),pE jj])/\zH.map pH=c.body/\Ki w' (w.heap.size+1) (U ad (Z c.zV) cp) (U ad2 (Z c.body) cp2) c.zV zH/\Cn w' b mv ms nx br/\Ac [b] w w'
 | .error p=>∃nx hp hn ad n cp ad2 n2 cp2,e=oa (.tuple #[.agg (ml (Bh hp hn (U ad n cp) (U ad2 n2 cp2))),pE K])/\Cn w' b mv ms nx p/\Ac [b] w w'
theorem V9(b:Nat)(F:p5)(c:pM Bb)(H:Nat)(L:Int)(w:py)(h:Cn w b F c H L)(ok:Xs c)(HZ:∀i,(Au c i).place<=1000000):
  Calls prog 115 #[.pointer (V ⟨b,0,Y⟩)] w λe I=>aM b F c L w e I (CO c H):=by
 have HO:=Ab ok;have M2:=Ab HZ;clear HZ;have M6:=h.zN.lt;have IS:∀k,F.ownBlock=V k->k<w.heap.size:=λk hk=>(h.row.lt k hk).2
 have h1:=Ab (h.zJ ((pO [] w).alloc (j3 (ml (Bh 0 ⟨#[]⟩ (U Y 0 0) (U Y 0 0))) 189)));have hN:=Ab (pP w (Bh 0 ⟨#[]⟩ (U Y 0 0) (U Y 0 0)) 189);have EK:=Ab ((pO [b] w).alloc (j3 (ml (Bh 0 ⟨#[]⟩ (U Y 0 0) (U Y 0 0))) 189));have H4:(w.alloc (j3 (ml (Bh 0 ⟨#[]⟩ (U Y 0 0) (U Y 0 0))) 189)).heap.size=w.heap.size+1:=by simp
 clear h ok;go_enter func115,ntmps115;go_wp2_with fail
 change Calls _ _ _ (w.alloc (j3 (ml (Bh 0 ⟨#[]⟩ (U Y 0 0) (U Y 0 0))) 189)) _;generalize w.alloc (j3 (ml (Bh 0 ⟨#[]⟩ (U Y 0 0) (U Y 0 0))) 189)=w1 at h1 hN EK H4⊢;obtain⟨N,H8⟩:=pN w.heap.size;rw[H8]at hN M6 H4 IS⊢;have R:p7 (∀k,N<=k->F.ownBlock≠V k):=λk hk e=>by have:=IS k e;omega
 clear IS;have Q:=Ab H8;clear H8;refine(O2 b F c H L _ h1 HO).mono ?_;intro e D S;clear h1;cases ht:Fo c H with
 |error q=>
  rw[ht]at S;obtain⟨n9,ap,an,d,L0,f,rfl,h2,k2⟩:=S;have HF:p7 (CO c H=.error q):=by show _=_;unfold CO;rw[ht]
  clear ht;have v:=hN.kept k2 (by simp;omega);have HA:=Ab (EK.trans k2);have c0:=v.cell 0;have c1:=v.cell 1;have c2:=v.cell 2;have c3:=v.cell 3;have nf:=v.frozen;have d0:=λo=>(v.alloc o).cell 0
  have d1:=λo=>(v.alloc o).cell 1
  have d2:=λo=>(v.alloc o).cell 2
  have d3:=λo=>(v.alloc o).cell 3
  have df:=λo=>(v.alloc o).frozen
  simp[Bh]at c0 c1 c2 c3 d0 d1 d2 d3;have NN:=v.lt;have q1:¬N=D.heap.size:=by omega
  have q2:¬D.heap.size=N:=by omega
  have z:=Ab h2;have G:=Ab v;clear h2 v k2 hN EK;simp only[AP];go_wp2;rw[HF.out];have AB:=(G.zO rfl (X J 0) (O ⟨#[]⟩) (U Y 0 0) (U Y 0 0)).alloc (j3 #[X J ap,O an,U d L0 f] 187);refine lL (Av (P:=prog) (fn:=Tryz.f115) (p:=2) (u:=3) rfl rfl AB underlying189 rfl (by kernel_rfl)) rfl ?_;refine⟨n9,0,pF,Y,0,0,Y,0,0,rfl,?_,?_⟩
  .exact(z.zO (by omega) (R N (by omega)) _ _ _ _).zJ ((pO [] _).alloc _)
  .have:=Aa Q;exact(HA.zO (by right;omega) _ _ _ _).alloc _
 |ok r=>
  obtain⟨⟨p,s,a⟩,n⟩:=r;rw[ht]at S;obtain⟨tv,NM,rfl,M0,H6,h2,k2⟩:=S;obtain⟨d,f,rfl⟩:=Ak H6;have BA:p7 (CO c H=if BW (Au c n) aF then .error (((Au c n).place:Int)+1)else if BW (Au c n) iz then(match E4 c (n+1) [] with| .error q=> .error q| .ok (j,W)=>Ou c W ⟨p,s,a,j⟩)else Ou c n ⟨p,s,a,[]⟩):=by
   show _=_;unfold CO;rw[ht]
  clear ht;have HL:p9 D (N+1) 215 2 (U d (Z a) f) (Z a) (a.flatMap Ar):=Am H6 (by omega);have K8:p7 (∀k,(U d (Z a) f).ownBlock=V k->k<D.heap.size):=λk e=>(HL.lt k e).2
  have v:=hN.kept k2 (by simp;omega);have HA:=EK.trans k2;have Nj:=v.lt;have MB:N+1<=D.heap.size:=by have:=k2.size;omega
  clear H6 M0 k2 hN EK H4;have CL:=Ab (h2.zJ (((pO [] D).alloc (j3 (ml (AP ⟨p,s,U d (Z a) f⟩)) 187)).alloc (j3 (ml (Bh p s (U d (Z a) f) (U Y 0 0))) 189)));have HU:=Ab ((v.alloc (j3 (ml (AP ⟨p,s,U d (Z a) f⟩)) 187)).alloc (j3 (ml (Bh p s (U d (Z a) f) (U Y 0 0))) 189));have HY:=Ab ((HA.alloc (j3 (ml (AP ⟨p,s,U d (Z a) f⟩)) 187)).alloc (j3 (ml (Bh p s (U d (Z a) f) (U Y 0 0))) 189));have Ha:p7 (AF ((D.alloc (j3 (ml (AP ⟨p,s,U d (Z a) f⟩)) 187)).alloc (j3 (ml (Bh p s (U d (Z a) f) (U Y 0 0))) 189)) (D.heap.size+1) (Bh p s (U d (Z a) f) (U Y 0 0)) 189):=by
   have hh:=pP (D.alloc (j3 (ml (AP ⟨p,s,U d (Z a) f⟩)) 187)) (Bh p s (U d (Z a) f) (U Y 0 0)) 189;rw[show(D.alloc (j3 (ml (AP ⟨p,s,U d (Z a) f⟩)) 187)).heap.size=D.heap.size+1 from by simp]at hh
   exact hh
  have H1:=Ab (lg (lg HL (j3 (ml (AP ⟨p,s,U d (Z a) f⟩)) 187)) (j3 (ml (Bh p s (U d (Z a) f) (U Y 0 0))) 189));clear h2 v HA HL;simp only[AP];go_wp2_with fail
  change Calls _ _ _ ((D.alloc (j3 (ml (AP ⟨p,s,U d (Z a) f⟩)) 187)).alloc (j3 (ml (Bh p s (U d (Z a) f) (U Y 0 0))) 189)) _;generalize(D.alloc (j3 (ml (AP ⟨p,s,U d (Z a) f⟩)) 187)).alloc (j3 (ml (Bh p s (U d (Z a) f) (U Y 0 0))) 189)=w3 at CL HU HY Ha H1⊢;obtain⟨C,KS⟩:=pN (D.heap.size+1);have NS:N+1<C:=by omega
  have MN:p7 ((U d (Z a) f).ownBlock≠V C):=λe=>by have:=Aa K8 C e;omega
  clear K8;rw[KS]at Ha⊢;clear KS MB Nj;refine(Ud b F c n L aF _ CL (Au c n) (Bl CL.lt)).mono ?_;rintro e w4 ⟨rfl,k4⟩;have A1:=Ab (CL.zJ k4);have FT:=Ab (HU.kept k4);have KB:=Ab (Ha.kept k4);have FL:=Ab (HY.trans (k4.mono (by simp)));have HX:=Ab (Ad H1 k4);clear CL HU Ha HY H1 k4;cases hc:BW (Au c n) aF with
  |true=>
   (have HF:p7 (CO c H=.error (((Au c n).place:Int)+1)):=by show _=_;rw[Aa BA,hc];rfl);clear BA hc KB HX;(go_wp2_with fail);refine(Ju b F c n L _ A1 (Au c n) (Bl A1.lt)).mono ?_;rintro e w5 ⟨rfl,M⟩;have LB:=Ab (A1.zJ M);have Ax:=Ab (FT.kept M);have T:=Ab (FL.trans (M.mono (by simp)));have HZ:(Au c n).place<=1000000:=M2 n;clear A1 FT FL M;(go_wp2_with fail);refine(Fx b F c n L (((Au c n).place:Int)+1) _ LB).mono ?_;rintro e w6 ⟨rfl,h6,B⟩;have t:=Ax.kept B (by simp;omega);have BT:=Ab (T.trans B);have c0:=t.cell 0;have c1:=t.cell 1;have c2:=t.cell 2;have c3:=t.cell 3;have nf:=t.frozen;simp[Bh]at c0 c1 c2 c3;have G:=Ab t;have z:=Ab h6;clear t h6 B LB Ax T;go_wp2;rw[HF.out];have AB:=G.zO rfl (X J 0) (O ⟨#[]⟩) (U Y 0 0) (U Y 0 0);refine lL (Av (P:=prog) (fn:=Tryz.f115) (p:=2) (u:=3) rfl rfl AB underlying189 rfl (by kernel_rfl)) rfl ?_;refine⟨n,0,pF,Y,0,0,Y,0,0,rfl,?_,?_⟩
   .exact z.zO (by omega) (R N (by omega)) _ _ _ _
   .have:=Aa Q;exact BT.zO (by right;omega) _ _ _ _
  |false=>
   have FO:=Ab hc;clear hc;(go_wp2_with fail);refine(G1 b F c n L iz _ A1 (Au c n) (Bl A1.lt) (HO.seen A1.lt iz)).mono ?_;rintro e w5 ⟨rfl,h5,M⟩;have Ax:=Ab (FT.kept M (by simp;omega));have Bx:=Ab (KB.kept M (by simp;omega));have T:=Ab (FL.trans M);have CC:=Ab (Ad HX M (by simp;omega));clear A1 FT KB FL HX M;cases hd:BW (Au c n) iz with
   |false=>
    rw[hd]at h5;simp only[k0,if_false]at h5;(have HD:p7 (CO c H=Ou c n ⟨p,s,a,[]⟩):=by show _=_;rw[Aa BA,Aa FO,hd];rfl);have z:=Ab h5;have G:=Ax;have A:=Bx;have HK:=T;have HP:p7 (Ki w5 (N+1) (U d (Z a) f) (U Y 0 0) a []):=⟨CC,B8.nil _ _⟩;clear hd h5 BA FO Ax Bx T CC;have EM:=z.lt;have H7:=Ab (Of b F c n L Z8 _ (z.zJ (pO [] w5).drew) (Au c n) (Bl EM) (HO.seen EM Z8));have e0:=A.cell 0;have e1:=A.cell 1;have e2:=A.cell 2;have e3:=A.cell 3;simp[Bh]at e0 e1 e2 e3;(have HJ:p7 (∀m,Ac [b] w5.drew m->AF m N (Bh 0 ⟨#[]⟩ (U Y 0 0) (U Y 0 0)) 189/\AF m C (Bh p s (U d (Z a) f) (U Y 0 0)) 189):=λm k=>⟨G.drew.kept k (by simp;omega),A.drew.kept k (by simp;omega)⟩);(have q1:¬C=N:=by omega);(have q2:¬N=C:=by omega);clear z G A;go_wp2_with fail
    go_region_held3 (λI=>p8 I ⟨C,0,Y⟩=V (X J p)/\p8 I ⟨C,1,Y⟩=V (O s)/\p8 I ⟨C,2,Y⟩=V (U d (Z a) f)/\p8 I ⟨C,3,Y⟩=V (U Y 0 0)) (go_keep) ((go_at_call 163;refine H7.mono ?_;rintro e m ⟨rfl,l,E⟩;have g:=Aa HJ m E;have f0:=g.2.cell 0;have f1:=g.2.cell 1;have f2:=g.2.cell 2;have f3:=g.2.cell 3;have p0:=g.1.cell 0;have p1:=g.1.cell 1;have p2:=g.1.cell 2;have p3:=g.1.cell 3;have pf:=g.1.frozen;simp[Bh]at f0 f1 f2 f3 p0 p1 p2 p3;have HV:=Ab (And.intro l (And.intro E g));clear l E g))
    rename_i HQ;clear HQ;go_wp2;obtain⟨l,E,g,_⟩:=HV;have AB:=g.zO rfl (X J p) (O s) (U d (Z a) f) (U Y 0 0);have FC:Ac [b] w m:=HK.drew.trans E;have KD:Ki m (N+1) (U d (Z a) f) (U Y 0 0) a []:=(HP.kept (pO [] w5).drew).kept E (by simp;omega);refine lL (Av (P:=prog) (fn:=Tryz.f115) (p:=2) (u:=3) rfl rfl AB underlying189 rfl (by kernel_rfl)) rfl ?_;rw[Aa HD];cases hcl:BW (Au c n) Z8 with
    |true=>
     rw[hcl]at l;simp only[if_true]at l;unfold Ou;rw[hcl];simp only[if_true];refine⟨d,f,Y,0,[],rfl,rfl,?_,?_,?_⟩
     .rw[Aa Q];exact KD.kept ((pO [N] m).zO (by simp) _ _ _ _)
     .exact l.zO (by omega) (R N (by omega)) _ _ _ _
     .have:=Aa Q;exact FC.zO (by right;omega) _ _ _ _
    |false=>
     rw[hcl]at l;simp only[k0,if_false]at l;unfold Ou;rw[hcl];simp only[k0,if_false];refine⟨n,p,s,d,Z a,f,Y,_,0,rfl,?_,?_⟩
     .exact l.zO (by omega) (R N (by omega)) _ _ _ _
     .have:=Aa Q;exact FC.zO (by right;omega) _ _ _ _
   |true=>
    rw[hd]at h5;simp only[if_true]at h5;have Go:p7 (CO c H=(match E4 c (n+1) [] with| .error q=> .error q| .ok (j,W)=>Ou c W ⟨p,s,a,j⟩)):=by show _=_;rw[Aa BA,Aa FO,hd];rfl
    have LL:=Ab h5;clear hd h5 BA FO;have MY:=Bx.lt;(go_wp2_with fail);refine(Tw b F c (n+1) L _ LL HO).mono ?_;intro e w6 S;clear LL;cases hb:E4 c (n+1) [] with
    |error q=>
     rw[hb]at S;obtain⟨n9,rfl,h6,B⟩:=S;(have HF:p7 (CO c H=.error q):=by show _=_;rw[Aa Go,hb]);have t:=Ax.kept B (by simp;omega);have A0:=Bx.kept B (by simp;omega);have BT:=Ab (T.trans B);have c0:=t.cell 0;have c1:=t.cell 1;have c2:=t.cell 2;have c3:=t.cell 3;have nf:=t.frozen;have d3:=A0.cell 3;have df:=A0.frozen;simp[Bh]at c0 c1 c2 c3 d3;(have q1:¬C=N:=by omega);(have q2:¬N=C:=by omega);have G:=Ab t;have z:=Ab h6;clear t A0 h6 B hb Go Ax Bx T CC;go_wp2;rw[HF.out];have AB:=(G.zB ⟨C,3,Y⟩ (by simp;omega) (U Y 0 0)).zO rfl (X J 0) (O ⟨#[]⟩) (U Y 0 0) (U Y 0 0);refine lL (Av (P:=prog) (fn:=Tryz.f115) (p:=2) (u:=3) rfl rfl AB underlying189 rfl (by kernel_rfl)) rfl ?_;refine⟨n9,0,pF,Y,0,0,Y,0,0,rfl,?_,?_⟩
     .exact(z.other (p:=⟨C,3,Y⟩) (by simp;omega) (R C (by omega)) _).zO (by omega) (R N (by omega)) _ _ _ _
     .have:=Aa Q;exact(BT.setCell (p:=⟨C,3,Y⟩) (by right;simp;omega) _).zO (by right;omega) _ _ _ _
    |ok r=>
     obtain⟨j,W⟩:=r;rw[hb]at S;obtain⟨y,x,FP,rfl,K7,K1,h6,B⟩:=S;(have HD:p7 (CO c H=Ou c W ⟨p,s,a,j⟩):=by show _=_;rw[Aa Go,hb]);have t:=Ax.kept B (by simp;omega);have A0:=Bx.kept B (by simp;omega);have BT:=T.trans B;have LE:=Ad CC B (by simp;omega);have d3:=A0.cell 3;have df:=A0.frozen;simp[Bh]at d3;have K9:=Ab t;have KK:=Ab A0;have LC:=Ab BT;have K6:=Ab LE;have Jx:=Ab (And.intro K7 K1);have K4:=Ab h6;clear t A0 BT LE K7 K1 h6 B hb Go Ax Bx T CC;(go_wp2_with fail);have NB:C<w5.heap.size:=MY;have z:=Ab (K4.other (p:=⟨C,3,Y⟩) (by simp;omega) (R C (by omega)) (U y (Z j) x));have G:=Ab (K9.zB ⟨C,3,Y⟩ (by simp;omega) (U y (Z j) x));have A:p7 (AF (w6.setCell ⟨C,3,Y⟩ (U y (Z j) x)) C (Bh p s (U d (Z a) f) (U y (Z j) x)) 189):=KK.set 3 _;have HK:p7 (Ac [b] w (w6.setCell ⟨C,3,Y⟩ (U y (Z j) x))):=by
      have:=Aa Q;exact LC.setCell (p:=⟨C,3,Y⟩) (by right;simp;omega) _
     have HP:p7 (Ki (w6.setCell ⟨C,3,Y⟩ (U y (Z j) x)) (N+1) (U d (Z a) f) (U y (Z j) x) a FP):=by
      have kC:Ac [C] w6 (w6.setCell ⟨C,3,Y⟩ (U y (Z j) x)):=(pO [C] w6).setCell (by simp) _;refine⟨?_,(Jx.2.kept kC (by simp;omega)).base (by omega)⟩;exact Ag K6 (p:=⟨C,3,Y⟩) MN _
     have HM:p7 (FP.map pH=j):=Jx.1;clear K4 K9 KK LC K6 Jx d3 df;generalize w6.setCell ⟨C,3,Y⟩ (U y (Z j) x)=w7 at z G A HK HP⊢;have EM:=z.lt;have H7:=Ab (Of b F c W L Z8 _ (z.zJ (pO [] w7).drew) (Au c W) (Bl EM) (HO.seen EM Z8));have e0:=A.cell 0;have e1:=A.cell 1;have e2:=A.cell 2;have e3:=A.cell 3;simp[Bh]at e0 e1 e2 e3;(have HJ:p7 (∀m,Ac [b] w7.drew m->AF m N (Bh 0 ⟨#[]⟩ (U Y 0 0) (U Y 0 0)) 189/\AF m C (Bh p s (U d (Z a) f) (U y (Z j) x)) 189):=λm k=>⟨G.drew.kept k (by simp;omega),A.drew.kept k (by simp;omega)⟩);(have q1:¬C=N:=by omega);(have q2:¬N=C:=by omega);clear z G A;go_wp2_with fail
     go_region_held3 (λI=>p8 I ⟨C,0,Y⟩=V (X J p)/\p8 I ⟨C,1,Y⟩=V (O s)/\p8 I ⟨C,2,Y⟩=V (U d (Z a) f)/\p8 I ⟨C,3,Y⟩=V (U y (Z j) x)) (go_keep) ((go_at_call 163;refine H7.mono ?_;rintro e m ⟨rfl,l,E⟩;have g:=Aa HJ m E;have f0:=g.2.cell 0;have f1:=g.2.cell 1;have f2:=g.2.cell 2;have f3:=g.2.cell 3;have p0:=g.1.cell 0;have p1:=g.1.cell 1;have p2:=g.1.cell 2;have p3:=g.1.cell 3;have pf:=g.1.frozen;simp[Bh]at f0 f1 f2 f3 p0 p1 p2 p3;have HV:=Ab (And.intro l (And.intro E g));clear l E g))
     rename_i HQ;clear HQ;go_wp2;obtain⟨l,E,g,_⟩:=HV;have AB:=g.zO rfl (X J p) (O s) (U d (Z a) f) (U y (Z j) x);have FC:Ac [b] w m:=HK.drew.trans E;have KD:Ki m (N+1) (U d (Z a) f) (U y (Z j) x) a FP:=(HP.kept (pO [] w7).drew).kept E (by simp;omega);refine lL (Av (P:=prog) (fn:=Tryz.f115) (p:=2) (u:=3) rfl rfl AB underlying189 rfl (by kernel_rfl)) rfl ?_;rw[Aa HD];cases hcl:BW (Au c W) Z8 with
     |true=>
      rw[hcl]at l;simp only[if_true]at l;unfold Ou;rw[hcl];simp only[if_true];refine⟨d,f,y,x,FP,rfl,HM,?_,?_,?_⟩
      .rw[Aa Q];exact KD.kept ((pO [N] m).zO (by simp) _ _ _ _)
      .exact l.zO (by omega) (R N (by omega)) _ _ _ _
      .have:=Aa Q;exact FC.zO (by right;omega) _ _ _ _
     |false=>
      rw[hcl]at l;simp only[k0,if_false]at l;unfold Ou;rw[hcl];simp only[k0,if_false];refine⟨W,p,s,d,Z a,f,y,_,x,rfl,?_,?_⟩
      .exact l.zO (by omega) (R N (by omega)) _ _ _ _
      .have:=Aa Q;exact FC.zO (by right;omega) _ _ _ _
def BL(s:zA)(a:Nat):Bb:=if Ae s a<s.size then Jd (Ek s (Ae s a)).1 else E5 s
def At(s:zA)(ms:pM Bb)(nx a:Nat):Prop:=ms.drop nx=De s a
def Sn(s:zA)(a:Nat):De s (Ae s a)=De s a:=by
 unfold De
 congr 2
 by_cases b:Ae s a<s.size
 .rw[GD (Cu s a) b,GD rfl b]
 .rw[JC b,JC (by rw[Cu];exact b)]
def At.gap{b:pM Bb}(h:At s b n m):At s b n (Ae s m):=by
 unfold At at*;rw[Sn];exact h
def At.head{b:pM Bb}(h:At s b n m):Au b n=BL s m:=by
 unfold At at h;have e:b[n]?=(De s m)[0]?:=by rw[<-h];simp
 unfold Au BL;rw[lq,e];unfold De Sl;split
 .simp
 .simp
def At.next{b:pM Bb}(h:At s b n m)(c:Ae s m=j)(d:j<s.size):At s b (n+1) (Ek s j).2:=by
 unfold At at*;rw[<-List.drop_drop,h];unfold De;rw[GD c d];simp
def At.lt{b:pM Bb}(h:At s b n m):n<Z b:=by
 unfold At at h;have:Z (b.drop n)=Z (De s m):=by rw[h]
 unfold De at this;simp at this;omega
def IC(h:¬Ae s n<s.size):BL s n=E5 s:=by simp[BL,h]
def Hp(c:Ae s n=j)(h:j<s.size)(d:AD s[j]=jj):
  BL s n=⟨if AG AD s j-j<=4 then 2 else 0,j,s.extract j (AG AD s j)⟩/\(Ek s j).2=AG AD s j:=by
 have e:=CM AD s j (by omega);have f:Ek s j=(⟨2,j,s.extract j (AG AD s j)⟩,AG AD s j):=by unfold Ek;rw[EV h,d];rfl
 unfold BL;rw[c,ln h,f];refine⟨?_,rfl⟩;simp only[Jd,Jy,size_extract e,if_true];by_cases b:AG AD s j-j<=4<;>simp[b]
def V4(h:j<s.size)(a:k<=s.size)(b:j<k)(c:UInt8):Et (s.extract j k) 0 c=(s[j]==c):=by
 unfold Et;rw[dif_pos (by rw[size_extract a];omega)];simp[ByteArray.getElem_extract]
def Fs(i:Ae s n=j)(h:j<s.size)(k:AD s[j]=K)(b:Ap s[j]=jj):
  BL s n=⟨if 3<AG Ap s j-j\/(s[j]=48/\1<AG Ap s j-j)then 0 else 3,j,s.extract j (AG Ap s j)⟩/\(Ek s j).2=AG Ap s j:=by
 have c:=CM Ap s j (by omega);have f:j<AG Ap s j:=by rw[Cp _ _ _ h b];have:=Cr Ap s (j+1);omega
 have l:Ek s j=(⟨3,j,s.extract j (AG Ap s j)⟩,AG Ap s j):=by unfold Ek;rw[EV h,k,b];rfl
 unfold BL;rw[i,ln h,l];refine⟨?_,rfl⟩;have e:Jy ⟨3,j,s.extract j (AG Ap s j)⟩= !decide (3<AG Ap s j-j\/(s[j]=48/\1<AG Ap s j-j)):=by
  unfold Jy;simp only[size_extract c,V4 h c f];rw[li (by decide),ln trivial,mN];simp only[mP,lJ,nP,no,ng,lQ,ne_eq];by_cases d:s[j]=48
  .simp only[d,not_true_eq_false,true_and,and_false,or_false];omega
  .simp only[d,not_false_eq_true,false_and,and_true,or_false];omega
 unfold Jd;rw[e];by_cases g:3<AG Ap s j-j\/(s[j]=48/\1<AG Ap s j-j)<;>simp[g]
def Ks{a j:Nat}(c:Ae s a=j)(h:j<s.size)(d:s[j]=58)(b:Et s (j+1) 45=jj):
  BL s a=⟨5,j,iz⟩/\(Ek s j).2=j+2:=by
 have e:Ek s j=(⟨5,j,iz⟩,j+2):=by unfold Ek;rw[EV h,d,b];rfl
 unfold BL;rw[c,ln h,e];exact⟨rfl,rfl⟩
def GW{a j:Nat}(f:Ae s a=j)(h:j<s.size)(c:AD s[j]=K)(b:Ap s[j]=K)(l:¬(s[j]=58/\Et s (j+1) 45=jj))(d:s[j].toNat<128):
  BL s a=⟨EG (s[j].toNat:Int),j,⟨#[s[j]]⟩⟩/\(Ek s j).2=j+1:=by
 have i:¬(97<=s[j].toNat/\s[j].toNat<=122):=λh=>by rw[(CX _).2 h]at c;cases c
 have g:¬(48<=s[j].toNat/\s[j].toNat<=57):=λh=>by rw[(Cx _).2 h]at b;cases b
 have k:Ek s j=(⟨EG (s[j].toNat:Int),j,⟨#[s[j]]⟩⟩,j+1):=by
  unfold Ek;rw[EV h,c,b,nN s j h d];simp only[k0,if_false];rw[li l];simp only[CB,Gy _ d]
 unfold BL;rw[f,ln h,k];refine⟨?_,rfl⟩;unfold Jd Jy;simp only;rcases Sa i g with e|e|e<;>simp[e]
def Hq(f:Ae s n=j)(h:j<s.size)(c:128<=s[j].toNat):(BL s n).kind=0/\(BL s n).place=j:=by
 have g:AD s[j]=K:=by cases b:AD s[j] with|false=>rfl|true=>have:=(CX _).1 b;omega
 have d:Ap s[j]=K:=by cases b:Ap s[j] with|false=>rfl|true=>have:=(Cx _).1 b;omega
 have i:¬(s[j]=58/\Et s (j+1) 45=jj):=λb=>by rw[b.1]at c;simp at c
 have k:=(pu s j h c).1;have e:EG ((Utf8.decode s j).1:Int)=0:=by unfold EG;rw[li (by omega),li (by omega),li (by omega),li (by omega)]
 unfold BL Ek;rw[f,ln h,EV h,g,d];simp only[k0,if_false];rw[li i];simp[CB,Jd,Jy,e]
def DL(d:n<=s.size):(BL s n).place=Ae s n:=by
 obtain⟨j,b⟩:=pN (Ae s n);have f:=BB s n d;by_cases h:j<s.size
 .by_cases e:s[j].toNat<128
  .cases hl:AD s[j] with
   |true=>rw[(Hp b h hl).1,b]
   |false=>
    cases hd:Ap s[j] with
    |true=>rw[(Fs b h hl hd).1,b]
    |false=>
     by_cases c:s[j]=58/\Et s (j+1) 45=jj
     .rw[(Ks b h c.1 c.2).1,b]
     .rw[(GW b h hl hd c e).1,b]
  .rw[(Hq b h (by omega)).2,b]
 .rw[IC (by omega)];simp only[E5];omega
def Ff:pM UInt8:=[46,44,33,61,35,60,40,41]
def T6(h:g∈Ff):g.toNat<128/\AD g=K/\Ap g=K/\g≠58/\EG (g.toNat:Int)=5/\DD g=K:=by
 simp only[Ff,kZ,mr,or_false]at h;rcases h with rfl|rfl|rfl|rfl|rfl|rfl|rfl|rfl<;>decide
def TF(x c:UInt8):(((⟨#[x]⟩:zA).toList==(⟨#[c]⟩:zA).toList))=(x==c):=by
 have e:∀y:UInt8,(⟨#[y]⟩:zA).toList=[y]:=λy=>by rw[lN]
 rw[e,e];simp
def En{a:Nat}{c:UInt8}(o:c∈Ff):BW (BL s a) ⟨#[c]⟩=Et s (Ae s a) c:=by
 obtain⟨j,d⟩:=pN (Ae s a);obtain⟨s1,s2,k,m,q,_⟩:=T6 o;rw[d];unfold BW;by_cases h:j<s.size
 .have i:Et s j c=(s[j]==c):=by simp[Et,h]
  rw[i];have f:∀x:UInt8,(AD x=jj\/Ap x=jj\/128<=x.toNat)->(x==c)=K:=by
   intro x b;simp only[lQ,ne_eq];rintro rfl;rcases b with b|b|b
   .rw[s2]at b;cases b
   .rw[k]at b;cases b
   .omega
  by_cases n:s[j].toNat<128
  .cases hl:AD s[j] with
   |true=>
    rw[(Hp d h hl).1,f _ (oi hl)];by_cases g:AG AD s j-j<=4<;>simp[g]
   |false=>
    cases hd:Ap s[j] with
    |true=>
     rw[(Fs d h hl hd).1,f _ (oj (oi hd))];by_cases g:3<AG Ap s j-j\/(s[j]=48/\1<AG Ap s j-j)<;>simp[g]
    |false=>
     by_cases e:s[j]=58/\Et s (j+1) 45=jj
     .rw[(Ks d h e.1 e.2).1];(have l:(s[j]==c)=K:=by simp[e.1,Ne.symm m]);have p:(iz.toList==(⟨#[c]⟩:zA).toList)=K:=by
       rw[show iz.toList=[58,45] from by rw[lN];rfl,show(⟨#[c]⟩:zA).toList=[c] from by rw[lN]]
       simp
      rw[l,p,nZ]
     .rw[(GW d h hl hd e n).1];simp only[TF];cases he:(s[j]==c)with
      |false=>simp
      |true=>
       (have:s[j]=c:=by simpa using he);rw[this,q];rfl
  .have:=Hq d h (by omega);rw[this.1,f _ (oj (oj (by omega)))];rfl
 .rw[IC (by omega)];simp[E5,Et,h]
def At.take{e:pM Bb}{g a:Nat}{c:UInt8}(h:At s e g a)(l:c∈Ff)(f:Et s (Ae s a) c=jj):At s e (g+1) (Ae s a+1)/\Ae s a+1<=s.size:=by
 obtain⟨s1,s2,i,j,m,_⟩:=T6 l;have d:=F1 f;have b:s[Ae s a]=c:=by simpa[Et,d] using f
 have:=h.next rfl d;rw[(GW (a:=a) rfl d (by rw[b];exact s2) (by rw[b];exact i) (by rw[b];exact λk=>j k.1) (by rw[b];exact s1)).2]at this;exact⟨this,by omega⟩
def PO{α β:Type}(R:α->β->Prop)(s:zA)(ms:pM Bb):Except Int (α×Nat)->β×Nat×Bool->Prop
 | .ok (x,n),(y,a,bd)=>bd=K/\R x y/\At s ms n a/\a<=s.size
 | .error p,(_,a,bd)=>bd=jj/\p=(a:Int)
def ct(t:AK):AW:=⟨(t.v.toNat:Int),DX t.s⟩
def JI(h:j<s.size)(a:k<=s.size)(b:j<k):∃c:0<(s.extract j k).size,(s.extract j k)[0]=s[j]:=
 ⟨by rw[size_extract a];omega,by simp[ByteArray.getElem_extract]⟩
def UA(c:UInt8)(h:c.toNat<128):Dm ⟨#[c]⟩ 0 0=(c.toNat:Int):=by
 have a:(0:Nat)<(⟨#[c]⟩:zA).size:=Nat.zero_lt_one;rw[L8 0 a];have b:=nN ⟨#[c]⟩ 0 a h;rw[b];unfold Dm;rw[dif_neg (λd=>absurd d.1 (show¬(0+1<1)from by decide))];rfl
theorem Vc{u:pM Bb}(h:At s u n m)(E:m<=s.size):PO (λt F=>t=ct F) s u (Ga (Au u n) n) (AN s m K):=by
 obtain⟨j,c⟩:=pN (Ae s m);have P:=BB s m E;rw[h.head];unfold AN Ga;simp only[k0,if_false];by_cases b:j<s.size
 .rw[dif_pos (by rw[c];exact b)];simp only[c];have p:=h.next c b;by_cases y:s[j].toNat<128
  .cases f:AD s[j] with
   |true=>
    have L:=(CX _).1 f;have g:Ds s[j]=K:=by cases d:Ds s[j] with|false=>rfl|true=>have:=(Fr _).1 d;omega
    have e:Ap s[j]=K:=by cases d:Ap s[j] with|false=>rfl|true=>have:=(Cx _).1 d;omega
    obtain⟨l,k⟩:=Hp c b f;rw[k]at p;(have D:Ae s j=j:=by rw[<-c];exact Cu s m);(have v:j<AG AD s j:=by rw[Cp _ _ _ b f];have:=Cr AD s (j+1);omega);have o:=CM AD s j (by omega);rw[l,g,e];simp only[k0,if_false,mJ,if_true];by_cases i:AG AD s j-j<=4
    .rw[Li D rfl (by omega)];simp only[i,if_true];obtain⟨A,q⟩:=JI b o v;refine⟨rfl,?_,p,o⟩;unfold ct;simp only;rw[<-Za A (by rw[q];omega)];rfl
    .rw[Ep D rfl (by omega)];simp only[i,if_false];exact⟨rfl,rfl⟩
   |false=>
    cases e:Ap s[j] with
    |true=>
     have N:=(Cx _).1 e;have g:Ds s[j]=K:=by cases d:Ds s[j] with|false=>rfl|true=>have:=(Fr _).1 d;omega
     obtain⟨l,k⟩:=Fs c b f e;rw[k]at p;have o:=CM Ap s j (by omega);rw[l,g];simp only[k0,if_false,nJ];by_cases i:3<AG Ap s j-j\/(s[j]=48/\1<AG Ap s j-j)
     .rw[ln i,ln i];exact⟨rfl,rfl⟩
     .rw[li i,li i];(have v:j<AG Ap s j:=by rw[Cp _ _ _ b e];have:=Cr Ap s (j+1);omega);obtain⟨A,q⟩:=JI b o v;have C:=size_extract (s:=s) (j:=j) o;(have M:s[j].toNat=48->s[j]=48:=λh=>mO.1 h);refine⟨rfl,?_,p,o⟩;unfold ct;simp only;rw[<-bU A (by rw[q];omega) (by rw[q];omega) (by rw[C];omega) (λh=>by rw[q]at h;have H:=M h;have B:¬1<AG Ap s j-j:=λB=>i (oj ⟨H,B⟩);rw[C];omega)];rfl
    |false=>
     cases g:Ds s[j] with
     |true=>
      have w:=(Fr _).1 g;(have r:¬(s[j]=58/\Et s (j+1) 45=jj):=λd=>by rw[d.1]at w;simp at w);obtain⟨l,k⟩:=GW c b f e r y;rw[k]at p;(have I:EG (s[j].toNat:Int)=4:=by unfold EG;rw[li (by omega),li (by omega),ln (by omega)]);rw[l,I];simp only[if_true];refine⟨rfl,?_,p,by omega⟩;rw[UA _ y];rfl
     |false=>
      have z:A9 s j K=(pF,j,jj):=Ep (by rw[<-c];exact Cu s m) (Fm _ _ _ b f) (oi rfl);(have w:¬(65<=s[j].toNat/\s[j].toNat<=90):=λh=>by rw[(Fr _).2 h]at g;cases g);(have L:¬(97<=s[j].toNat/\s[j].toNat<=122):=λh=>by rw[(CX _).2 h]at f;cases f);(have N:¬(48<=s[j].toNat/\s[j].toNat<=57):=λh=>by rw[(Cx _).2 h]at e;cases e);simp only[k0,if_false,mJ,if_true,z];(have G:(BL s m).place=j:=by rw[DL E,c]);have x:(BL s m).kind≠2/\(BL s m).kind≠3/\(BL s m).kind≠4:=by
       by_cases r:s[j]=58/\Et s (j+1) 45=jj
       .rw[(Ks c b r.1 r.2).1];simp
       .rw[(GW c b f e r y).1];unfold EG;rw[li (by omega),li (by omega),li (by omega)];split<;>simp
      simp only[mT,x.1,x.2.1,x.2.2,pw,mP,or_self,if_false,G];exact⟨rfl,rfl⟩
  .have f:AD s[j]=K:=by cases d:AD s[j] with|false=>rfl|true=>have:=(CX _).1 d;omega
   have e:Ap s[j]=K:=by cases d:Ap s[j] with|false=>rfl|true=>have:=(Cx _).1 d;omega
   have g:Ds s[j]=K:=by cases d:Ds s[j] with|false=>rfl|true=>have:=(Fr _).1 d;omega
   have z:A9 s j K=(pF,j,jj):=Ep (by rw[<-c];exact Cu s m) (Fm _ _ _ b f) (oi rfl);obtain⟨l,k⟩:=Hq c b (by omega);rw[g,e];simp only[k0,if_false,mJ,if_true,z,l,k];exact⟨rfl,rfl⟩
 .rw[dif_neg (by rw[c];exact b),IC (by omega)];simp only[E5];refine⟨rfl,?_⟩;rw[c];show(s.size:Int)=(j:Int);omega
def Do(t:AK):Prop:=(t.v=0/\A8 t.s)\/(65<=t.v.toNat/\t.v.toNat<=90/\t.s=pF)
def A8.size{s:zA}(h:A8 s):s.size≠0:=by
 rw[AY];rcases h with⟨c,r,h,_⟩|h
 .rw[h];simp
 .rcases Fl h with⟨c,e,_⟩|⟨c,d,e,_⟩|⟨c,d,f,e,_⟩<;>rw[e]<;>simp
def Do.zK{t:AK}(h:Do t):BC t:=by
 rcases h with⟨a,b⟩|h
 .exact oi ⟨a,b.size⟩
 .exact oj ⟨h.1,h.2.1⟩
def JG(h:j<s.size)(a:k<=s.size)(f:j<k):∃r,(s.extract j k).toList=s[j]::r/\Z r+1=k-j:=by
 obtain⟨d,e⟩:=JI h a f;obtain⟨r,c,b⟩:=IT _ d;refine⟨r,by rw[c,e],?_⟩;rw[c,JO _ _ _ a]at b;simpa using b
def Lh{p:UInt8->Bool}(h:AG p s i≠i):∃a:i<s.size,p s[i]=jj:=by
 by_cases a:i<s.size
 .refine⟨a,?_⟩;cases hp:p s[i] with
  |true=>rfl
  |false=>exact absurd (Fm p s i a hp) h
 .exact absurd (Gx p s i a) h
def Pj{p:UInt8->Bool}(h:AG p s i≠i):AG p s i<=s.size:=by
 obtain⟨a,_⟩:=Lh h;exact CM p s i (by omega)
def Pd(h:(A9 s n K).2.2=K):A8 (A9 s n K).1:=by
 unfold A9 at h⊢;rw[li (by simp)]at h⊢;by_cases a:AG AD s (Ae s n)=Ae s n\/4<AG AD s (Ae s n)-Ae s n
 .rw[ln a]at h;cases h
 .rw[li a];have b:AG AD s (Ae s n)≠Ae s n:=λe=>a (oi e)
  obtain⟨d,c⟩:=Lh b;have f:=Cr AD s (Ae s n);obtain⟨r,e,_⟩:=JG d (Pj b) (by omega:Ae s n<AG AD s (Ae s n));exact oi ⟨_,r,e,(CX _).1 c⟩
def UK(i:j<s.size)(g:Ap s[j]=jj)(h:¬(3<AG Ap s j-j\/(s[j]=48/\1<AG Ap s j-j))):A8 (s.extract j (AG Ap s j)):=by
 have l:=Cr Ap s (j+1);rw[<-Cp Ap s j i g]at l;have n:=CM Ap s j (by omega);obtain⟨r,e,d⟩:=JG i n (by omega:j<AG Ap s j);have f:=(Cx _).1 g;have p:¬3<AG Ap s j-j:=λx=>h (oi x)
 have k:1<AG Ap s j-j->49<=s[j].toNat:=by
  intro o;have m:s[j]≠48:=λx=>h (oj ⟨x,o⟩)
  have:s[j].toNat≠48:=λx=>m (mO.1 (by rw[x];rfl))
  omega
 refine oj ?_;rw[e]
 match r,d with
 |[],_=>simp only[eO];exact np f
 |[a],d=>simp only[eO];exact np ⟨k (by simp at d;omega),f.2⟩
 |[a,b],d=>simp only[eO];exact np ⟨k (by simp at d;omega),f.2⟩
 |a::b::c::r,d=>simp at d;omega
def Ke(h:(AN s n K).2.2=K):Do (AN s n K).1:=by
 unfold AN at h⊢;rw[li (by simp)]at h⊢;by_cases a:Ae s n<s.size
 .rw[dif_pos a]at h⊢;cases hu:Ds s[Ae s n] with
  |true=>
   rw[ln rfl];exact oj ⟨((Fr _).1 hu).1,((Fr _).1 hu).2,rfl⟩
  |false=>
   rw[hu,li (by simp)]at h;rw[li (by simp)];cases hd:Ap s[Ae s n] with
   |false=>
    rw[hd,mJ,ln rfl]at h;rw[mJ,ln rfl];exact oi ⟨rfl,Pd h⟩
   |true=>
    rw[hd,nJ,li (by simp)]at h;rw[nJ,li (by simp)];by_cases b:3<AG Ap s (Ae s n)-Ae s n\/(s[Ae s n]=48/\1<AG Ap s (Ae s n)-Ae s n)
    .rw[ln b]at h;cases h
    .rw[li b];exact oi ⟨rfl,UK a hd b⟩
 .rw[dif_neg a]at h;cases h
def Yz{s:zA}{b:Nat}(h:(CE s b).2.2=K):∀t∈(CE s b).1,Do t:=by
 fun_induction CE s b with
 |case1 b hc _ _ ih=>
  intro t a;have c:(AN s b K).2.2=K:=by
   have:=hc.1;rw[lJ]at this;simpa using this.1
  rcases kZ.1 a with rfl|a
  .exact Ke c
  .exact ih h t a
 |case2 b hc=>
  intro t a;rw[kY]at a;subst a;exact Ke h
def I8(h:(By s n B g).2=K):B=K:=by
 unfold By at h;cases B with
 |false=>rfl
 |true=>simp at h
structure Mq(A:Dg):Prop where
 name:A8 A.name
 args:∀t∈A.args,Do t
def M7(h:(AZ s n K).2.2=K):Mq (AZ s n K).1:=by
 unfold AZ at h⊢;simp only at h⊢;have a:=I8 h;have b:(By s (A9 s (AQ s n K) K).2.1 (A9 s (AQ s n K) K).2.2 40).2=K:=by
  cases hm:(By s (A9 s (AQ s n K) K).2.1 (A9 s (AQ s n K) K).2.2 40).2 with
  |false=>rfl
  |true=>unfold Ev at a;rw[hm,ln rfl]at a;cases a
 refine⟨Pd (I8 b),?_⟩;unfold Ev at a⊢;rw[b,li (by simp)]at a⊢;exact Yz a
def Db(x:Br):Prop:=if(x.kind==97||x.kind==33)=jj then Mq x.A else Do x.L/\Do x.R/\(x.kind=61\/x.kind=35\/x.kind=60)
def TW(h:(DF s n).2.2=K):Db (DF s n).1:=by
 unfold DF at h⊢;simp only at h⊢;cases h33:Et s (Ae s n) 33 with
 |true=>
  rw[h33,ln rfl]at h;rw[ln rfl];unfold Db;rw[ln (by rfl)];exact M7 h
 |false=>
  rw[h33,li (by simp)]at h;rw[li (by simp)];cases ho:(FJ s (Ae s n)&&MR s (Ae s n))with
  |true=>
   rw[ho,ln rfl]at h;rw[ln rfl];unfold Db;rw[ln (by rfl)];exact M7 h
  |false=>
   rw[ho,li (by simp)]at h;rw[li (by simp)];unfold I6 at h⊢;generalize hg:AQ s (AN s (Ae s n) K).2.1 (AN s (Ae s n) K).2.2=a3 at h⊢;cases hc:(!(AN s (Ae s n) K).2.2&&(Et s a3 61||Et s a3 35||Et s a3 60))with
   |false=>rw[hc,li (by simp)]at h;cases h
   |true=>
    rw[hc,ln rfl]at h;rw[ln rfl];rw[lJ]at hc;(have d:(AN s (Ae s n) K).2.2=K:=by simpa using hc.1);have c:CQ s a3=61\/CQ s a3=35\/CQ s a3=60:=by
     have a:=hc.2;unfold CQ;by_cases b:a3<s.size
     .rw[dif_pos b];unfold Et at a;rw[dif_pos b,dif_pos b,dif_pos b]at a;simp only[mP,mT]at a;rcases a with(a|a)|a
      .exact oi a
      .exact oj (oi a)
      .exact oj (oj a)
     .unfold Et at a;rw[dif_neg b,dif_neg b,dif_neg b]at a;simp at a
    unfold Db;(have f:(CQ s a3==97||CQ s a3==33)=K:=by rcases c with e|e|e<;>rw[e]<;>rfl);rw[li (by rw[f];simp)];exact⟨Ke d,Ke h,c⟩
def MA{s:zA}{b:Nat}(h:(Bj s b).2.2=K):∀x∈(Bj s b).1,Db x:=by
 fun_induction Bj s b with
 |case1 b hc _ _ ih=>
  intro t a;have c:(DF s b).2.2=K:=by
   have:=hc.1;rw[lJ]at this;simpa using this.1
  rcases kZ.1 a with rfl|a
  .exact TW c
  .exact ih h t a
 |case2 b hc=>
  intro t a;rw[kY]at a;subst a;exact TW h
structure Sg(c:CD):Prop where
 head:Mq c.head
 body:∀x∈c.body,Db x
def J3(h:(D9 s n B).2.2=K):B=K/\∀x∈(D9 s n B).1,Db x:=by
 unfold D9 at h⊢;cases hc:(!B&&Et s (AQ s n B) 58)with
 |true=>
  rw[hc,ln rfl]at h;rw[ln rfl];have c:B=K:=by
   rw[lJ]at hc;simpa using hc.1
  refine⟨c,?_⟩;cases h45:Et s (Ch s n B 58) 45 with
  |true=>
   rw[h45,ln rfl]at h;rw[ln rfl];exact MA h
  |false=>rw[h45,li (by simp)]at h;cases h
 |false=>
  rw[hc,li (by simp)]at h;rw[li (by simp)];exact⟨h,λx b=>by cases b⟩
def D8(h:(Ao s n).2.2=K):Sg (Ao s n).1:=by
 unfold Ao at h⊢;simp only at h⊢;have a:=J3 (I8 h);exact⟨M7 a.1,a.2⟩
def Sx{s:zA}{b:Nat}(h:(An s b).2.2=K):∀c∈(An s b).1,Sg c:=by
 fun_induction An s b with
 |case1 b ha hc ih=>
  intro c a;rcases kZ.1 a with rfl|a
  .exact D8 hc.1
  .exact ih h c a
 |case2 b ha hc=>
  intro c a;rw[kY]at a;subst a;exact D8 h
 |case3 b ha=>intro c a;cases a
def L2{a:pM A4}(h:(An s n).2.2=K)(e:a.map A4.erase=(An s n).1):
  ∀c∈a,Mq c.head/\∀x∈Al c,Db x:=by
 intro c d;have b:c.erase∈(An s n).1:=by rw[<-e];exact lB d
 have:=Sx h _ b;exact⟨this.head,this.body⟩
def YS{a:pM A4}(h:(An s n).2.2=K)(e:a.map A4.erase=(An s n).1):
  ∀c∈a,∀x∈Al c,(x.kind==97)=jj->∀t∈x.A.args,BC t:=by
 intro c f x g b t d;have:=(L2 h e c f).2 x g;unfold Db at this;rw[b,ox,ln rfl]at this;exact(this.args t d).zK
theorem Tryz.yX:(Tryz.prog.info? 189).map (λi=>(i.zero,i.size,i.bytes))=V (V (.agg #[X J 0,O ⟨#[]⟩,U Y 0 0,U Y 0 0]),4,72):=by kernel_rfl
def cJ(r:Int):EG r≠1:=by
 unfold EG;split
 .simp
 .split
  .simp
  .split
   .simp
   .split<;>simp
def WZ(s:zA)(j:Nat)(h:j<s.size):(Ek s j).1.kind≠1/\(Ek s j).1.place=j/\(Ek s j).1.text.size<=s.size+4:=by
 unfold Ek;split
 .have:=CM AD s j (by omega);refine⟨by simp,rfl,?_⟩;simp only[size_extract this];omega
 .split
  .have:=CM Ap s j (by omega);refine⟨by simp,rfl,?_⟩;simp only[size_extract this];omega
  .split
   .refine⟨by simp,rfl,?_⟩;show 2<=s.size+4;omega
   .refine⟨cJ _,rfl,?_⟩;have:=Zn ((Utf8.decode s j).1:Int);simp only[CB];omega
def Vr(s:zA):∀(n a:Nat),s.size-a<=n->Z (Sl s a)<=s.size-a/\∀m∈Sl s a,m.kind≠1/\m.place<=s.size/\m.text.size<=s.size+4
 |n,a,hn=>by
  by_cases h:Ae s a<s.size
  .have d:=Cb s a;have f:=Ry s _ h;obtain⟨t1,t2,t3⟩:=WZ s _ h;rw[GD rfl h]
   match n with
   |0=>omega
   |n+1=>
    obtain⟨e,c⟩:=Vr s n (Ek s (Ae s a)).2 (by omega);refine⟨by simp only[lj];omega,λm b=>?_⟩;rcases kZ.1 b with rfl|b
    .exact⟨t1,by omega,t3⟩
    .exact c m b
  .rw[JC h];exact⟨by simp,λm b=>by simp at b⟩
def ah(m:Bb):(Jd m).place=m.place/\(Jd m).text=m.text/\(m.kind≠1->(Jd m).kind≠1):=by
 unfold Jd;split
 .exact⟨rfl,rfl,λh=>h⟩
 .exact⟨rfl,rfl,λ_=>by simp⟩
def JB(s:zA):Z (Dl s)<=s.size+1/\0<Z (Dl s):=by
 rw[Kc];unfold De;have:=(Vr s _ 0 (lC _)).1;simp;omega
def S3(s:zA):∀m∈Dl s,m.place<=s.size/\m.text.size<=s.size+4:=by
 rw[Kc];unfold De;intro m a;rcases lw.1 a with a|a
 .obtain⟨b,d,rfl⟩:=lk.1 a;obtain⟨e,c,_⟩:=ah b;obtain⟨_,f,g⟩:=(Vr s _ 0 (lC _)).2 b d;rw[e,c];exact⟨f,g⟩
 .simp at a;subst a;exact⟨lC _,lz _⟩
def az(d:s.size<=300):Xs (Dl s):=by
 refine⟨λi h b=>?_,λi h=>?_⟩
 .by_cases c:i+1<Z (Dl s)
  .exact c
  .exfalso
   (have a:(Dl s).getLast?=V (E5 s):=by unfold Dl;simp);have:(Dl s)[i]?=V (E5 s):=by
    rw[List.getLast?_eq_getElem?]at a;rw[show i=Z (Dl s)-1 by omega];exact a
   rw[lc h]at this;simp only[ld]at this;rw[this]at b;cases b
 .have:=(S3 s _ (kV h)).2;omega
def Ze(a:s.size<=300)(i:Nat):(Au (Dl s) i).place<=1000000:=by
 by_cases h:i<Z (Dl s)
 .rw[<-Bl h];have:=(S3 s _ (kV h)).1;omega
 .unfold Au;rw[lq,List.getElem?_eq_none (by omega)];simp
structure Dy where
 hp:Int
 hn:zA
 zV:pM AW
 hv:p5
 bv:p5
 zH:pM Lz
def Dy.pc(c:Dy):PC:=⟨c.hp,c.hn,c.zV,c.zH.map pH⟩
def Bo(c:Dy):pM p5:=[X J c.hp,O c.hn,c.hv,c.bv]
structure PR(w:py)(base:Nat)(lv:p5)(c:Dy):Prop where
 at_:Ki w base c.hv c.bv c.zV c.zH
 yc:B6 c.hv lv
 ya:B6 c.bv lv
 ye:∀p∈c.zH,B6 p.2 lv
def PR.kept{M:pM Nat}{w w':py}{a:Nat}{b:p5}{c:Dy}(h:PR w a b c)(k:Ac M w w')(d:∀i,i∈M->i<a:=by simp):PR w' a b c:=
 ⟨h.at_.kept k d,h.yc,h.ya,h.ye⟩
def I5{v a:p5}(h:p9 w m T j v n y)(k:Ac a.ownBlock.toList w u)(d:B6 v a):p9 u m T j v n y:=
 Ai h k (λi c b=>d i c (by simpa using b))
def PR.ze{w f:py}{i:Nat}{d:p5}{c:Dy}{g n cap H:Nat}(h:PR w i d c)(k:Ac d.ownBlock.toList w f)(e:d.ownBlock=V g\/g=H)(b:w.heap.size<=H):PR f i (U (V ⟨g,0,Y⟩) n cap) c:=
 ⟨⟨I5 h.at_.head k h.yc,⟨I5 h.at_.body.row k h.ya,λp a=>⟨I5 (h.at_.body.each p a).1 k (h.ye p a),(h.at_.body.each p a).2⟩⟩⟩,
  B6.ze h.yc h.at_.head e b,B6.ze h.ya h.at_.body.row e b,λp a=>B6.ze (h.ye p a) (h.at_.body.each p a).1 e b⟩
def OW{e h:TypeId}{v a:p5}(g:p9 u w.heap.size e i v n y)(f:p9 w b h j a m x):B6 v a:=by
 intro k c d;have:=(g.lt k c).1;have:=(f.lt k d).2;omega
structure Gq(w:py)(base:Nat)(lv:p5)(cs:pM Dy):Prop where
 row:p9 w base 189 4 lv (Z cs) (cs.flatMap Bo)
 each:∀c∈cs,PR w base lv c
def Gq.kept{M:pM Nat}{w w':py}{a:Nat}{e:p5}{d:pM Dy}(h:Gq w a e d)(k:Ac M w w')(b:∀i,i∈M->i<a:=by simp):Gq w' a e d:=
 ⟨Ad h.row k b,λc f=>(h.each c f).kept k b⟩
def Gq.base{w:py}{f base':Nat}{d:p5}{b:pM Dy}(h:Gq w f d b)(e:base'<=f):Gq w base' d b:=
 ⟨Am h.row e,λc a=>⟨(h.each c a).at_.base e,(h.each c a).yc,(h.each c a).ya,(h.each c a).ye⟩⟩
def Gq.nil(w:py)(b:Nat):Gq w b (U Y 0 0) []:=⟨lH _ _ _ _,λp a=>by simp at a⟩
def gU(w:py)(e:Ending)(w':py):Except Int (pM PC)->Prop
 | .ok cs=>∃ad cp pcs,e=oa (.tuple #[U ad (Z cs) cp,X J 0,pE jj])/\pcs.map Dy.pc=cs/\Gq w' w.heap.size (U ad (Z cs) cp) pcs/\Ac [] w w'
 | .error p=>e=oa (.tuple #[U Y 0 0,X J p,pE K])/\Ac [] w w'
theorem Ka(s:zA)(w:py)(hs:s.size<=300):
  Calls prog 71 #[O s] w λe G=>gU w e G (Dc (Dl s) 0 []):=by
 obtain⟨i0,K1,H8,K4,KK⟩:=mg Tryz.yX;have HO:=Ab (az hs);have HB:=Ab (Ze hs);have FF:=JB s;have EX:=Ab (ZJ s w hs);obtain⟨R,hR⟩:=pN (Dc (Dl s) 0 []);rw[hR];have BA:=Ab hR;clear hR;generalize Dl s=ms at HO HB FF EX BA;have LL:Z ms<=1000:=by omega
 go_enter func71,ntmps71;go_wp2_with fail
 refine EX.mono ?_;rintro e x ⟨mv,rfl,A1,k1⟩;clear EX;obtain⟨C,m,rfl⟩:=Ak A1;have Go:=pP x [U C (Z ms) m,X J 0,X J 0] 203;have HE:=Am (lg A1 (j3 [U C (Z ms) m,X J 0,X J 0].toArray 203)) (lz _);have HH:(U C (Z ms) m).ownBlock≠V x.heap.size:=λe=>by have:=(A1.lt _ e).2;omega
 have HD:Cn (x.alloc (j3 [U C (Z ms) m,X J 0,X J 0].toArray 203)) x.heap.size (U C (Z ms) m) ms 0 0:=⟨Go,HE,HH,FF.2,by omega⟩;have HW:=k1.alloc (j3 [U C (Z ms) m,X J 0,X J 0].toArray 203);have I:=Ab HD;have DT:=Ab HW;have H1:w.heap.size<=x.heap.size:=k1.size;have BS:(x.alloc (j3 [U C (Z ms) m,X J 0,X J 0].toArray 203)).heap.size=x.heap.size+1:=by simp
 clear Go HE HH HD HW A1 k1;go_wp2;change Code.wp _ _ _ _ (x.alloc (j3 [U C (Z ms) m,X J 0,X J 0].toArray 203));generalize x.alloc (j3 [U C (Z ms) m,X J 0,X J 0].toArray 203)=w2 at I DT BS⊢;obtain⟨b,HZ⟩:=pN x.heap.size;rw[HZ]at I H1 BS⊢;clear HZ;obtain⟨g,M1,HS,_,_,_,_⟩:=I.cells;simp only[kS]at HS;obtain⟨rfl,_,rfl⟩:=HS;have H0:p7 (∀k,b+1<=k->(U (V ⟨g,0,Y⟩) (Z ms) m).ownBlock≠V k):=λk y e=>by have:=(I.row.lt k e).2;omega
 go_loopg [2] (Z ms) (λgk o wr=>∃(j:Nat) (acc:pM Dy) (z:Option Addr) (B:Nat),o=U z (Z acc) B/\gk=Z ms-j/\p7 (Dc ms j (acc.map Dy.pc)=R)/\p7 (Cn wr b (U (V ⟨g,0,Y⟩) (Z ms) m) ms j 0)/\p7 (Gq wr (b+1) (U z (Z acc) B) acc)/\p7 (Ac [] w wr)/\b+1<=wr.heap.size/\Z acc<=j)
 case atStart=>exact⟨0,[],Y,0,rfl,rfl,BA,I,Gq.nil _ _,DT,by omega,by simp⟩
 case round=>
  clear I BA DT BS;obtain⟨j,acc,z,B,rfl,HV,N,HR,HP,HK,FC,LC⟩:=hrel;have HG:=Ab HV;clear HV;have S:=HR.lt;have M0:(j:Int)<(Z ms:Int):=by omega
  have LB:(0:Int)<=(j:Int):=by omega
  obtain⟨g',LE,he,b0,b1,_,hc⟩:=HR.cells;simp only[kS,ld,lW]at he;obtain⟨⟨rfl,_⟩,_,rfl⟩:=he;obtain⟨c0,_,_⟩:=hc j S;clear hc;rw[Bl S]at c0;obtain⟨P,AB⟩:=pN (Au ms j).kind;rw[AB]at c0;go_wp2_with fail
  go_region_held3 (λG=>p8 G ⟨b,0,Y⟩=V (U (V ⟨g,0,Y⟩) (Z ms) m)/\p8 G ⟨b,1,Y⟩=V (X J j)/\p8 G ⟨g,j*3,Y⟩=V (X J P)) (go_keep) (fail)
  rename_i KB;clear KB b0 b1 c0;cases y:(P==1)with
  |true=>
   (have H7:(P !=1)=K:=by simp[bne,y]);(have HF:p7 (R=.ok (acc.map Dy.pc)):=by show _=_;rw[<-Aa N];exact OR S (by rw[AB];exact y));clear y AB N;go_wp2;go_ret3;rw[HF.out];exact⟨z,B,acc,by simp,rfl,by simpa using(HP.kept (pO [] wr).drew).base (by omega),HK.drew⟩
  |false=>
   (have H7:(P !=1)=jj:=by simp[bne,y]);(have AH:p7 (((Au ms j).kind==1)=K):=by show _=_;rw[AB];exact y);clear y AB;(go_wp2_with fail);refine(V9 b (U (V ⟨g,0,Y⟩) (Z ms) m) ms j 0 _ (HR.zJ (pO [] wr).drew) HO HB).mono ?_;intro e v T;have D:=Ab (HP.kept (pO [] wr).drew);have W:=Ab (HK.drew);have IA:b+1<=wr.drew.heap.size:=FC;clear HR HP HK FC;generalize wr.drew=w5 at T D W IA;cases ht:CO ms j with
   |error q=>
    rw[ht]at T;obtain⟨n9,hp,hn,K3,n8,K2,Jx,n2,H3,rfl,Q,F⟩:=T;(have HF:p7 (R=.error q):=by show _=_;rw[<-Aa N];exact Ld S AH ht);have Ix:=Ab (W.trans' F (λi A=>oj (by simp at A;omega)));(have d2:=λo=>(Q.zN.alloc o).cell 2);simp at d2;clear ht N AH Q F D W;simp only[Bh];(go_wp2_with fail);have LS:=d2 (j3 [X J hp,O hn,U K3 n8 K2,U Jx n2 H3].toArray 189)
    go_region_held3 (λG=>p8 G ⟨b,2,Y⟩=V (X J q)) (go_keep) (fail)
    rename_i H4;clear H4;go_wp2;go_ret3;rw[HF.out];exact⟨rfl,(Ix.alloc _).drew⟩
   |ok r=>
    obtain⟨c,n1⟩:=r;rw[ht]at T;have K8:=Hf ht;obtain⟨u,f,l,h,M,rfl,HC,A0,Q,F⟩:=T;have HT:=Ab (R9 (acc:=acc.map Dy.pc) S AH ht);clear ht AH;obtain⟨n,d,a,MY⟩:=c;simp only at HC A0;subst HC;have K7:=F.size;have EY:=Ad D.row F;(have HJ:p7 (∀q∈acc,PR v (b+1) (U z (Z acc) B) q):=λq E=>(D.each q E).kept F);have B0:p7 (PR v (b+1) (U z (Z acc) B) ⟨n,d,a,U u (Z a) f,U l (Z (M.map pH)) h,M⟩):=by
     have CC:=A0.base (base':=w5.heap.size) (by omega);refine⟨A0.base (by omega),?_,?_,?_⟩
     .exact OW CC.head D.row
     .exact OW CC.body.row D.row
     .exact λp hp=>OW (CC.body.each p hp).1 D.row
    have HU:=Ab (W.trans' F (λi A=>oj (by simp at A;omega)));have L:=Ab Q;have MB:=Q.lt;clear A0 Q F D W;generalize hnl:Z (M.map pH)=nl at B0;have HX:((v.alloc (j3 (ml (Bh n d (U u (Z a) f) (U l nl h))) 189)).alloc (j3 (ml (Bh n d (U u (Z a) f) (U l nl h))) 189)).heap[v.heap.size+1]?=V (j3 (ml (Bh n d (U u (Z a) f) (U l nl h))) 189 (0,0)):=by
     have hh:=lP (v.alloc (j3 (ml (Bh n d (U u (Z a) f) (U l nl h))) 189)) (j3 (ml (Bh n d (U u (Z a) f) (U l nl h))) 189);rw[show(v.alloc (j3 (ml (Bh n d (U u (Z a) f) (U l nl h))) 189)).heap.size=v.heap.size+1 from by simp]at hh
     exact hh
    have HM:=lg (lg EY (j3 (ml (Bh n d (U u (Z a) f) (U l nl h))) 189)) (j3 (ml (Bh n d (U u (Z a) f) (U l nl h))) 189);(have L0:Z acc<=1000:=by omega);have LM:=Ab hnl;clear hnl;simp only[Bh];go_wp2_with (at_builtin;refine lG _ rfl (.tmp 35) (.tmp 37) _ rfl (b+1) 189 i0 _ 4 72 underlying66 K1 H8 K4 KK rfl (by omega) (U z (Z acc) B) (Z acc) (acc.flatMap Bo) rfl HM ⟨v.heap.size+1,0,Y⟩ 1 1 (Bh n d (U u (Z a) f) (U l nl h)) rfl rfl (lI (cs:=ml (Bh n d (U u (Z a) f) (U l nl h))) (t:=189) (fr:=(0,0)) HX) (by simp[Value.oneCell',Bh]) (by omega) (by unfold maxLen;omega) (by omega) (by simp;omega) (v.heap.size+1+1) (by simp) ?_;intro g1 FO w9 HI FP Bx H5)
    have H:Ac (U z (Z acc) B).ownBlock.toList v w9:=(((pO _ v).alloc _).alloc _).grown FP (λk y=>oi (by simp[y]));(have AT:∀i∈(U z (Z acc) B).ownBlock.toList,b+1<=i:=λi A=>(EY.lt i (by simpa using A)).1);have FT:Cn w9 b (U (V ⟨g,0,Y⟩) (Z ms) m) ms n1 0:=⟨L.zN.kept H (λhm=>by have:=AT b hm;omega),Ai L.row H (λi A hm=>by have:=AT i hm;exact absurd A (H0 i this)),L.ap,L.lt,L.len⟩;have FW:Ac [] w w9:=HU.trans' H (λi A=>oj (by have:=AT i A;omega));have KD:p7 (Gq w9 (b+1) (U (V ⟨g1,0,Y⟩) (Z acc+1) FO) (acc++[⟨n,d,a,U u (Z a) f,U l nl h,M⟩])):=by
     refine⟨by simpa[Bo,Bh] using HI,?_⟩;intro q E;rcases lw.1 E with E|E
     .exact(HJ q E).ze H Bx (by omega)
     .simp only[kY]at E;subst E;exact B0.ze H Bx (by omega)
    have JA:p7 (Dc ms n1 ((acc++[(⟨n,d,a,U u (Z a) f,U l nl h,M⟩:Dy)]).map Dy.pc)=R):=by
     show _=_;rw[<-Aa N,Aa HT];simp[Dy.pc]
    (have K6:b+1<=w9.heap.size:=by have:=H.size;omega);have H9:=Ab FT;have KA:=Ab FW;clear H AT FT FW FP Bx H5 HI HX HM EY HJ B0 HU L N HT
    go_roundg (Z ms-n1)
    case measure=>have:=Aa HG;omega
    case rel=>exact⟨n1,acc++[⟨n,d,a,U u (Z a) f,U l nl h,M⟩],V ⟨g1,0,Y⟩,FO,by simp,rfl,JA,H9,by simpa using KD,KA,K6,by simp;omega⟩
def ZD{d:pM Bb}(h:At s d n m)(t:m<=s.size)(c:Ae s m=j):
  (((Au d n).kind==2)=jj/\∃g,A9 s j K=((Au d n).text,g,K)/\At s d (n+1) g/\g<=s.size)\/
  (((Au d n).kind==2)=K/\A9 s j K=(pF,j,jj)):=by
 have e:Ae s j=j:=by rw[<-c];exact Cu s m
 rw[h.head];by_cases b:j<s.size
 .have k:=h.next c b;cases hl:AD s[j] with
  |true=>
   obtain⟨o,q⟩:=Hp c b hl;rw[q]at k;(have r:j<AG AD s j:=by rw[Cp _ _ _ b hl];have:=Cr AD s (j+1);omega);have l:=CM AD s j (by omega);rw[o];by_cases f:AG AD s j-j<=4
   .left;refine⟨by simp[f],_,Li e rfl (by omega),k,l⟩
   .right;exact⟨by simp[f],Ep e rfl (by omega)⟩
  |false=>
   right;refine⟨?_,Ep e (Fm _ _ _ b hl) (oi rfl)⟩;(have u:¬(97<=s[j].toNat/\s[j].toNat<=122):=λh=>by rw[(CX _).2 h]at hl;cases hl);by_cases p:s[j].toNat<128
   .cases hd:Ap s[j] with
    |true=>
     rw[(Fs c b hl hd).1];by_cases f:3<AG Ap s j-j\/(s[j]=48/\1<AG Ap s j-j)<;>simp[f]
    |false=>
     by_cases i:s[j]=58/\Et s (j+1) 45=jj
     .rw[(Ks c b i.1 i.2).1];rfl
     .rw[(GW c b hl hd i p).1];simp only[lQ,ne_eq,GG];omega
   .rw[(Hq c b (by omega)).1];rfl
 .right;rw[IC (by omega)];exact⟨rfl,Ep e (Gx _ _ _ b) (oi rfl)⟩
def NW(s:zA)(a:Nat)(c:UInt8):Ch s a jj c=a:=by simp[Ch,AQ]
def NI(h:Et s (Ae s n) g=jj):Ch s n K g=Ae s n+1:=by simp[Ch,AQ,h]
def Rk(h:Et s (Ae s n) g=K):Ch s n K g=Ae s n:=by simp[Ch,AQ,h]
def Gi(s:zA)(a:Nat)(c:UInt8):By s a jj c=(a,jj):=by simp[By,NW]
def Nb(h:Et s (Ae s n) g=jj):By s n K g=(Ae s n+1,K):=by simp[By,NI h,AQ,h]
def OM(h:Et s (Ae s n) g=K):By s n K g=(Ae s n,jj):=by simp[By,Rk h,AQ,h]
def am{s:zA}{f:pM Bb}:∀(k d a:Nat) (i:pM AW),Z f-d<=k->At s f d a->a<=s.size->
  PO (λts (L:pM AK)=>ts=i++L.map ct) s f (GP f d i) ((CE s a).1,By s (CE s a).2.1 (CE s a).2.2 41)
 |k,d,a,i,hk,h,ha=>by
  have x:=h.lt;have g:=Vc h ha;obtain⟨l,b,v,j⟩:∃l b v,AN s a K=(l,b,v):=⟨_,_,_,rfl⟩;rw[j]at g;unfold GP;rw[dif_pos x];cases hM:Ga (Au f d) d with
  |error p=>
   rw[hM]at g;obtain⟨rfl,rfl⟩:=g;rw[MU j (by simp)];simp only[NW,Gi];exact⟨rfl,rfl⟩
  |ok r=>
   obtain⟨t,B⟩:=r;rw[hM]at g;have A:=Gj hM;subst A;obtain⟨rfl,rfl,u,w⟩:=g;simp only;have z:=En (s:=s) (a:=b) (c:=44) (by simp[Ff]);have y:=En (s:=s) (a:=b) (c:=41) (by simp[Ff]);rw[u.head,show IW=⟨#[44]⟩from rfl,show PW=⟨#[41]⟩from rfl,z,y];cases hc:Et s (Ae s b) 44 with
   |true=>
    obtain⟨_,e⟩:=Rq j ha (by simp[AQ,hc]);rw[NI hc]at e;obtain⟨q,o⟩:=u.take (by simp[Ff]) hc;rw[e];simp only[if_true]
    match k with
    |0=>omega
    |k+1=>
     have ih:=am k (d+2) (Ae s b+1) (i++[ct l]) (by omega) q o
     revert ih
     generalize GP f (d+2) (i++[ct l])=X;intro ih
     match X,ih with
     | .ok (ts,n),ih=>exact⟨ih.1,by rw[ih.2.1];simp,ih.2.2⟩
     | .error p,ih=>exact ih
   |false=>
    rw[MU j (by simp[AQ,hc])];simp only[k0,if_false,Rk hc];have m:Ae s (Ae s b)=Ae s b:=Cu s b;cases hcl:Et s (Ae s b) 41 with
    |true=>
     obtain⟨q,o⟩:=u.take (by simp[Ff]) hcl;rw[Nb (by rw[m];exact hcl),m];simp only[if_true];exact⟨rfl,rfl,q,o⟩
    |false=>
     rw[OM (by rw[m];exact hcl),m,DL w];simp only[k0,if_false];exact⟨rfl,rfl⟩
def U5{b:pM Bb}{d a:Nat}(h:At s b d a)(i:a<=s.size):
  PO (λx (A:Dg)=>x=(A.at_,A.name,A.args.map ct)) s b (Fo b d) (AZ s a K):=by
 have r:AQ s a K=Ae s a:=rfl;have k:(Au b d).place=Ae s a:=by rw[h.head,DL i]
 unfold Fo AZ;simp only[r];rcases ZD h i rfl with⟨f,g,e,j,l⟩|⟨f,e⟩
 .rw[e,f];simp only[if_true];have m:=En (s:=s) (a:=g) (c:=40) (by simp[Ff]);rw[j.head,show TO=⟨#[40]⟩from rfl,m];cases hc:Et s (Ae s g) 40 with
  |true=>
   obtain⟨o,q⟩:=j.take (by simp[Ff]) hc;rw[Nb hc];simp only[if_true,Ev,k0,if_false];have ih:=am _ (d+2) (Ae s g+1) [] (lC _) o q
   revert ih
   generalize GP b (d+2) []=X;intro ih
   match X,ih with
   | .ok (ts,n),ih=>exact⟨ih.1,by rw[ih.2.1,k];simp,ih.2.2⟩
   | .error p,ih=>exact ih
  |false=>
   rw[OM hc,DL l];simp only[k0,if_false,Ev,if_true,Gi];exact⟨rfl,rfl⟩
 .rw[e,f,k];simp only[k0,if_false,Gi,Ev,if_true];exact⟨rfl,rfl⟩
def F9(k:UInt8):Int:=if k=97 then 0 else if k=33 then 1 else if k=61 then 2 else if k=35 then 3 else 4
def LU(x:Br):PL:=⟨x.at_,F9 x.kind,x.A.at_,x.A.name,x.A.args.map ct,ct x.L,ct x.R⟩
def iI:ct DQ=AJ:=rfl
def i8{e:pM Bb}{d a j:Nat}(h:At s e d j)(A:j<=s.size)(S:Ae s j=j):
  PO (λx (y:Br)=>Kt (.inr x)=LU y/\x.atom=A7) s e (ID e d) (I6 s j (AQ s (AN s j K).2.1 (AN s j K).2.2) (AN s j K).1 (AN s j K).2.2):=by
 have F:(Au e d).place=j:=by rw[h.head,DL A,S]
 have f:=Vc h A;obtain⟨l,b,v,z⟩:∃l b v,AN s j K=(l,b,v):=⟨_,_,_,rfl⟩;rw[z]at f;rw[z];unfold ID I6;cases hM:Ga (Au e d) d with
 |error p=>
  rw[hM]at f;obtain⟨rfl,rfl⟩:=f;simp only[nJ,n5,k0,if_false,Ls];exact⟨rfl,rfl⟩
 |ok r=>
  obtain⟨t,n1⟩:=r;rw[hM]at f;have G:=Gj hM;subst G;obtain⟨rfl,rfl,u,C⟩:=f;simp only;have H:=En (s:=s) (a:=b) (c:=61) (by simp[Ff]);have L:=En (s:=s) (a:=b) (c:=35) (by simp[Ff]);have N:=En (s:=s) (a:=b) (c:=60) (by simp[Ff]);have M:AQ s b K=Ae s b:=rfl;rw[u.head,M];unfold Od;rw[show kj=⟨#[61]⟩from rfl,show kh=⟨#[35]⟩from rfl,show kg=⟨#[60]⟩from rfl,H,L,N];have n:∀(c:UInt8) (m:Int),c∈Ff->F9 c=m->Et s (Ae s b) c=jj->CQ s (Ae s b)=c/\
    PO (λx (y:Br)=>Kt (.inr x)=LU y/\x.atom=A7) s e
     (match Ga (Au e (d+1+1)) (d+1+1)with| .error p=> .error p| .ok (r,n2)=> .ok (⟨(Au e d).place,m,A7,ct l,r⟩,n2))
     (⟨c,G6,l,(AN s (Ae s b+1) K).1,j⟩,(AN s (Ae s b+1) K).2):=by
   intro c m I T o;have q:=F1 o;refine⟨by rw[EV q];simpa[Et,q] using o,?_⟩;obtain⟨E,R⟩:=u.take I o;have k:=Vc E R;obtain⟨t2,w,jN,B⟩:∃t2 w jN,AN s (Ae s b+1) K=(t2,w,jN):=⟨_,_,_,rfl⟩;rw[B]at k;rw[B];cases hM2:Ga (Au e (d+1+1)) (d+1+1)with
   |error p=>
    rw[hM2]at k;obtain⟨rfl,rfl⟩:=k;exact⟨rfl,rfl⟩
   |ok r=>
    obtain⟨t3,W⟩:=r;rw[hM2]at k;have P:=Gj hM2;subst P;obtain⟨rfl,rfl,Q,D⟩:=k;refine⟨rfl,⟨?_,rfl⟩,Q,D⟩;simp[Kt,LU,T,F,G6]
  cases h61:Et s (Ae s b) 61 with
  |true=>
   obtain⟨g,i⟩:=n 61 2 (by simp[Ff]) rfl h61;rw[g];simp only[if_true,mJ,ox,nH];exact i
  |false=>
   cases h35:Et s (Ae s b) 35 with
   |true=>
    obtain⟨g,i⟩:=n 35 3 (by simp[Ff]) rfl h35;rw[g];simp only[if_true,mJ,ox,oY,nH,k0,if_false];exact i
   |false=>
    cases h60:Et s (Ae s b) 60 with
    |true=>
     obtain⟨g,i⟩:=n 60 4 (by simp[Ff]) rfl h60;rw[g];simp only[if_true,mJ,oY,nH,k0,if_false];exact i
    |false=>
     simp only[pw,nZ,k0,if_false,DL C];exact⟨rfl,rfl⟩
def i6{b:pM Bb}{d a:Nat}(h:At s b d a)(D:a<=s.size):
  PO (λx (y:Br)=>Kt x=LU y) s b (IG b d) (DF s a):=by
 obtain⟨j,g⟩:=pN (Ae s a);have f:Ae s j=j:=by rw[<-g];exact Cu s a
 have o:j<=s.size:=by rw[<-g];exact BB s a D
 have l:At s b d j:=by rw[<-g];exact h.gap
 have G:(Au b d).place=j:=by rw[h.head,DL D,g]
 unfold IG DF;simp only[g];have Q:=En (s:=s) (a:=a) (c:=33) (by simp[Ff]);rw[h.head,show Zi=⟨#[33]⟩from rfl,Q,g,<-h.head,G];cases h33:Et s j 33 with
 |true=>
  obtain⟨w,B⟩:=l.take (c:=33) (by simp[Ff]) (by rw[f];exact h33);rw[f]at w B;simp only[if_true];have ih:=U5 w B;obtain⟨A,k,jN,t⟩:∃A k jN,AZ s (j+1) K=(A,k,jN):=⟨_,_,_,rfl⟩;rw[t]at ih⊢
  revert ih
  generalize Fo b (d+1)=X;intro ih
  match X,ih with
  | .ok ((p,n,ts),m),ih=>
   obtain⟨v,i,u⟩:=ih;refine⟨v,?_,u⟩;simp only[lZ]at i;obtain⟨rfl,rfl,rfl⟩:=i;simp[Kt,LU,F9,iI]
  | .error p,ih=>exact ih
 |false=>
  simp only[k0,if_false];have I:EZ b d=(FJ s j&&MR s j):=by
   unfold EZ;have F:=h.lt;have N:b[d]?=V (Au b d):=by
    unfold Au;rw[lq,lc F];rfl
   rw[N];rcases ZD l o f with⟨q,L,e,z,R⟩|⟨q,e⟩
   .have H:=z.lt;have P:b[d+1]?=V (Au b (d+1)):=by
     unfold Au;rw[lq,lc H];rfl
    have M:=En (s:=s) (a:=L) (c:=40) (by simp[Ff]);have E:FJ s j=jj:=by
     unfold FJ;by_cases r:j<s.size
     .rw[dif_pos r];cases hl:AD s[j] with
      |true=>rfl
      |false=>rw[Ep f (Fm _ _ _ r hl) (oi rfl)]at e;simp at e
     .rw[Ep f (Gx _ _ _ r) (oi rfl)]at e;simp at e
    unfold MR;rw[P,e,E];simp only[q,mR,mJ];rw[z.head,show TO=⟨#[40]⟩from rfl,M];rfl
   .unfold MR;rw[e];simp only[nJ,n5,nZ];split
    .rename_i m T C S;simp only[ld]at C;rw[<-C,q,n5]
    .rfl
  rw[I];cases hop:(FJ s j&&MR s j)with
  |true=>
   simp only[if_true];have ih:=U5 l o;obtain⟨A,k,jN,t⟩:∃A k jN,AZ s j K=(A,k,jN):=⟨_,_,_,rfl⟩;rw[t]at ih⊢
   revert ih
   generalize Fo b d=X;intro ih
   match X,ih with
   | .ok ((p,n,ts),m),ih=>
    obtain⟨v,i,u⟩:=ih;refine⟨v,?_,u⟩;simp only[lZ]at i;obtain⟨rfl,rfl,rfl⟩:=i;simp[Kt,LU,F9,iI]
   | .error p,ih=>exact ih
  |false=>
   simp only[k0,if_false];have ih:=i8 (a:=a) l o f
   revert ih
   generalize ID b d=X;intro ih
   match X,ih with
   | .ok (c,m),ih=>exact⟨ih.1,ih.2.1.1,ih.2.2⟩
   | .error p,ih=>exact ih
def U9{s:zA}{ms:pM Bb}:∀(k i a:Nat) (g:pM PL),Z ms-i<=k->At s ms i a->a<=s.size->
  PO (λls (L:pM Br)=>ls=g++L.map LU) s ms (E4 ms i g) (Bj s a)
 |k,i,a,g,hk,h,ha=>by
  have o:=h.lt;have f:=i6 h ha;obtain⟨d,b,m,j⟩:∃d b m,DF s a=(d,b,m):=⟨_,_,_,rfl⟩;rw[j]at f;cases hM:IG ms i with
  |error p=>
   rw[hM]at f;obtain⟨rfl,rfl⟩:=f;rw[M8 j (by simp),IN o hM,NW];exact⟨rfl,rfl⟩
  |ok r=>
   obtain⟨t,q⟩:=r;rw[hM]at f;have A:=Jq hM;obtain⟨rfl,w,l,u⟩:=f;have z:Kt t=LU d:=w;have x:=En (s:=s) (a:=b) (c:=44) (by simp[Ff]);rw[Oc o hM,l.head,show IW=⟨#[44]⟩from rfl,x,z];cases hc:Et s (Ae s b) 44 with
   |true=>
    obtain⟨_,e⟩:=Q0 j ha (by simp[AQ,hc]);rw[NI hc]at e;obtain⟨v,y⟩:=l.take (by simp[Ff]) hc;rw[e];simp only[if_true]
    match k with
    |0=>omega
    |k+1=>
     have ih:=U9 k (q+1) (Ae s b+1) (g++[LU d]) (by omega) v y
     revert ih
     generalize E4 ms (q+1) (g++[LU d])=X;intro ih
     match X,ih with
     | .ok (ts,n),ih=>exact⟨ih.1,by rw[ih.2.1];simp,ih.2.2⟩
     | .error p,ih=>exact ih
   |false=>
    rw[M8 j (by simp[AQ,hc]),Rk hc];simp only[k0,if_false];exact⟨rfl,by simp,l.gap,BB s b u⟩
def fT(c:CD):PC:=⟨c.head.at_,c.head.name,c.head.args.map ct,c.body.map LU⟩
def fw{b:pM Bb}{n a:Nat}{c:PC}{C:CD}(h:At s b n a)(d:a<=s.size)(i:c=fT C/\C.at_=C.head.at_):
  PO (λx (y:CD)=>x=fT y/\y.at_=y.head.at_) s b (Ou b n c) (C,By s a K 46):=by
 have f:=En (s:=s) (a:=a) (c:=46) (by simp[Ff]);unfold Ou;rw[h.head,show Z8=⟨#[46]⟩from rfl,f,DL d];cases hd:Et s (Ae s a) 46 with
 |true=>
  obtain⟨e,g⟩:=h.take (by simp[Ff]) hd;rw[Nb hd];exact⟨rfl,i,e,g⟩
 |false=>
  rw[OM hd];exact⟨rfl,rfl⟩
def jd(s:zA)(a:Nat):BW (BL s a) aF=(Et s (Ae s a) 58&& !(Et s (Ae s a+1) 45))/\BW (BL s a) iz=(Et s (Ae s a) 58&&Et s (Ae s a+1) 45):=by
 obtain⟨j,b⟩:=pN (Ae s a);rw[b];unfold BW;by_cases h:j<s.size
 .have o:Et s j 58=(s[j]==58):=by simp[Et,h]
  rw[o];by_cases c:s[j]=58/\Et s (j+1) 45=jj
  .rw[(Ks b h c.1 c.2).1,c.1,c.2];have k:(iz.toList==aF.toList)=K:=by
    rw[show iz.toList=[58,45] from by rw[lN];rfl,show aF.toList=[58] from by rw[lN];rfl]
    rfl
   (have n:(iz.toList==iz.toList)=jj:=by simp);constructor
   .rw[k];rfl
   .rw[n];rfl
  .have i:∀x:UInt8,((⟨#[x]⟩:zA).toList==iz.toList)=K:=by
    intro x;rw[show iz.toList=[58,45] from by rw[lN];rfl,show(⟨#[x]⟩:zA).toList=[x] from by rw[lN]]
    simp
   by_cases f:s[j].toNat<128
   .cases hl:AD s[j] with
    |true=>
     (have:s[j]≠58:=λe=>by rw[e]at hl;cases hl);rw[(Hp b h hl).1];by_cases d:AG AD s j-j<=4<;>simp[d,this]
    |false=>
     cases hd:Ap s[j] with
     |true=>
      (have:s[j]≠58:=λe=>by rw[e]at hd;cases hd);rw[(Fs b h hl hd).1];by_cases d:3<AG Ap s j-j\/(s[j]=48/\1<AG Ap s j-j)<;>simp[d,this]
     |false=>
      rw[(GW b h hl hd c f).1];rw[show aF=⟨#[58]⟩from rfl];simp only[TF,i,nZ];cases he:(s[j]==58)with
      |false=>simp
      |true=>
       (have g:s[j]=58:=by simpa using he);have m:Et s (j+1) 45=K:=by
        cases d:Et s (j+1) 45 with
        |false=>rfl
        |true=>exact absurd ⟨g,d⟩ c
       rw[g,m];exact⟨rfl,rfl⟩
   .have:=Hq b h (by omega);have l:(s[j]==58)=K:=by
     simp only[lQ,ne_eq];intro e;rw[e]at f;simp at f
    rw[this.1,l];exact⟨rfl,rfl⟩
 .rw[IC (by omega)];simp[E5,Et,h]
def bR{d:pM Bb}{o a:Nat}(h:At s d o a)(R:a<=s.size):
  PO (λx (y:CD)=>x=fT y/\y.at_=y.head.at_) s d (CO d o) (Ao s a):=by
 have F:=h.gap;have Q:=BB s a R;have M:Ae s (Ae s a)=Ae s a:=Cu s a;have e:=U5 F Q;obtain⟨A,b,v,l⟩:∃A b v,AZ s (Ae s a) K=(A,b,v):=⟨_,_,_,rfl⟩;have t:A.at_=Ae s a:=by
  have:(AZ s (Ae s a) K).1.at_=Ae s a:=by
   unfold AZ;simp only;show Ae s (Ae s a)=Ae s a;exact M
  rw[l]at this;exact this
 rw[l]at e;unfold CO Ao;simp only[l];cases hM:Fo d o with
 |error p=>
  rw[hM]at e;obtain⟨rfl,rfl⟩:=e;simp only[D9,nJ,n5,k0,if_false,NW,Gi];exact⟨rfl,rfl⟩
 |ok r=>
  obtain⟨⟨p,n,ts⟩,m⟩:=r;rw[hM]at e;obtain⟨rfl,w,j,q⟩:=e;simp only[lZ]at w;obtain⟨rfl,rfl,rfl⟩:=w;obtain⟨H,I⟩:=jd s b;have G:AQ s b K=Ae s b:=rfl;simp only;rw[j.head,H,I];unfold D9;rw[G];cases h58:Et s (Ae s b) 58 with
  |false=>
   simp only[n5,k0,if_false,nZ,Rk h58];have:=fw (c:=⟨A.at_,A.name,A.args.map ct,[]⟩) (C:=⟨A,[],Ae s a⟩) j.gap (BB s b q) ⟨rfl,t.symm⟩;exact this
  |true=>
   simp only[mJ,mR,if_true,NI h58];cases h45:Et s (Ae s b+1) 45 with
   |false=>
    simp only[mJ,if_true,k0,if_false,Gi,DL q];exact⟨rfl,by simp⟩
   |true=>
    simp only[nJ,if_true,k0,if_false];have g:=F1 h58;(have E:s[Ae s b]=58:=by simpa[Et,g] using h58);have z:=j.next rfl g;rw[(Ks (a:=b) rfl g E h45).2]at z;have W:=F1 h45;have f:=U9 _ (m+1) (Ae s b+2) [] (lC _) z (by omega);obtain⟨L,k,i,u⟩:∃L k i,Bj s (Ae s b+2)=(L,k,i):=⟨_,_,_,rfl⟩;rw[u]at f;have P:Bj s (Ae s b+1+1)=(L,k,i):=u;rw[P];cases hM3:E4 d (m+1) [] with
    |error p=>
     rw[hM3]at f;obtain⟨rfl,rfl⟩:=f;simp only[Gi];exact⟨rfl,rfl⟩
    |ok r=>
     obtain⟨T,S⟩:=r;rw[hM3]at f;obtain⟨rfl,B,N,D⟩:=f;simp only[mw]at B;subst B;exact fw (c:=⟨A.at_,A.name,A.args.map ct,L.map LU⟩) (C:=⟨A,L,Ae s a⟩) N D ⟨rfl,t.symm⟩
def aE{s:zA}{d:pM Bb}:∀(k i a:Nat) (j:pM PC),Z d-i<=k->At s d i a->a<=s.size->Ae s a=a->
  match Dc d i j with
  | .ok cs=>(An s a).2.2=K/\cs=j++(An s a).1.map fT/\(∀c∈(An s a).1,c.at_=c.head.at_)
  | .error p=>(An s a).2.2=jj/\p=((An s a).2.1:Int)
 |k,i,a,j,hk,h,ha,hg=>by
  have o:=h.lt;by_cases g:a<s.size
  .have m:((Au d i).kind==1)=K:=by
    rw[h.head];have l:=hg;by_cases z:s[a].toNat<128
    .cases hl:AD s[a] with
     |true=>
      rw[(Hp l g hl).1];by_cases q:AG AD s a-a<=4<;>simp[q]
     |false=>
      cases hd:Ap s[a] with
      |true=>
       rw[(Fs l g hl hd).1];by_cases q:3<AG Ap s a-a\/(s[a]=48/\1<AG Ap s a-a)<;>simp[q]
      |false=>
       by_cases t:s[a]=58/\Et s (a+1) 45=jj
       .rw[(Ks l g t.1 t.2).1];rfl
       .rw[(GW l g hl hd t z).1];simp only[lQ,ne_eq];(have A:¬(97<=s[a].toNat/\s[a].toNat<=122):=λh=>by rw[(CX _).2 h]at hl;cases hl);(have D:¬(48<=s[a].toNat/\s[a].toNat<=57):=λh=>by rw[(Cx _).2 h]at hd;cases hd);rcases Sa A D with e|e|e<;>simp[e]
    .rw[(Hq l g (by omega)).1];rfl
   have b:=bR h ha;obtain⟨C,f,u,v⟩:∃C f u,Ao s a=(C,f,u):=⟨_,_,_,rfl⟩;rw[v]at b;rw[Mk g v];cases hM:CO d i with
   |error p=>
    rw[hM]at b;obtain⟨rfl,rfl⟩:=b;rw[Ld o m hM];simp only[Fj,if_true,Ls];exact⟨trivial,trivial⟩
   |ok r=>
    obtain⟨c,n⟩:=r;have E:=Hf hM;rw[hM]at b;obtain⟨rfl,⟨rfl,x⟩,y,w⟩:=b;rw[R9 o m hM];simp only[Fj,k0,if_false];have B:AQ s f K=Ae s f:=rfl;rw[B]
    match k with
    |0=>omega
    |k+1=>
     have ih:=aE k n (Ae s f) (j++[fT C]) (by omega) y.gap (BB s f w) (Cu s f)
     revert ih
     generalize Dc d n (j++[fT C])=X;intro ih
     match X,ih with
     | .ok cs,ih=>
      refine⟨ih.1,by rw[ih.2.1];simp,?_⟩;intro c b;rcases kZ.1 b with rfl|b
      .exact x
      .exact ih.2.2 c b
     | .error p,ih=>exact ih
  ·(have m:((Au d i).kind==1)=jj:=by rw[h.head,IC (by omega)];rfl);rw[OR o m,Nh g];simp
