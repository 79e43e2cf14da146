import Derived.Laws.RangeAny
import Derived.Test.YtoihbhenbmffcaaGreatDoorVAH
set_option linter.all false
set_option maxHeartbeats 0
open List renaming length->Z,toArray->D6,replicate->NP
open Option renaming none->Y,some->V
open Go.Value renaming slice->U,int->X,string->O,pointer->Gi,bool->No
open Bool renaming false->K,true->Cm
open Go.IntKind renaming i64->J
open Go.Obj renaming cells->Dj
open Go.Ending renaming returned->G3
open Or renaming inl->Hd,inr->Hf
open Go renaming World->Hq,Value->Hs
open Go.RowKit renaming Hid->JR
open Go.World renaming cell?->Lc,ownsRow->Mi
open ByteArray renaming empty->ND
open Prod renaming fst->O0
open Go.Op renaming bytesLess->Pf
namespace Go.Proofs.YtoihbhenbmffcaaGreatDoor
open Go.RowKit Go.Proofs.Tryz
variable{s t:bC}{j n k b m i:Nat}{I:Int}{g:UInt8}{M:QC Nat}{w v u:Hq}{z:Hs}{y x:QC Hs}{T:TypeId}{B:Bool}
def Eu(s:bC)(j:Nat):Bf×Nat:=
 if AA (CT s j)then(⟨2,j,s.extract j (AG AA s j)⟩,AG AA s j)
 else if Ap (CT s j)then(⟨3,j,s.extract j (AG Ap s j)⟩,AG Ap s j)
 else if CT s j=58/\Ej s (j+1) 45=Cm then(⟨5,j,⟨#[58,45]⟩⟩,j+2)
 else(CF j (Utf8.decode s j).1,j+(Utf8.decode s j).2)
def E8(h:j<s.size):CT s j=s[j]:=by simp[CT,h]
def Ry(s:bC)(j:Nat)(h:j<s.size):j<(Eu s j).2:=by
 unfold Eu;split
 .rename_i a;rw[E8 h]at a;simp only;rw[Ct _ _ _ h a];have:=Cw AA s (j+1);omega
 .split
  .rename_i a;rw[E8 h]at a;simp only;rw[Ct _ _ _ h a];have:=Cw Ap s (j+1);omega
  .split
   .simp only;omega
   .have:=Jk s j h;simp only;omega
def Sm(s:bC)(a:Nat):QC Bf:=
 if h:Ae s a<s.size then
  have _h1:a<s.size:=Nat.lt_of_le_of_lt (Ch s a) h;have _h2:a<(Eu s (Ae s a)).2:=Nat.lt_of_le_of_lt (Ch s a) (Ry s (Ae s a) h)
  (Eu s (Ae s a)).1::Sm s (Eu s (Ae s a)).2
 else[]
def JG(h:¬Ae s n<s.size):Sm s n=[]:=by unfold Sm;simp[h]
def GF(b:Ae s n=j)(h:j<s.size):Sm s n=(Eu s j).1::Sm s (Eu s j).2:=by
 subst b
 conv=>lhs;unfold Sm
 simp[h]
def Yx(h:Ae s n=Ae s (n+1)):Sm s n=Sm s (n+1):=by
 by_cases b:Ae s (n+1)<s.size
 .rw[GF h b,GF rfl b]
 .rw[JG b,JG (by rw[h];exact b)]
def Wt(h:n<s.size)(b:Dx s[n]=Cm):Ae s n=Ae s (n+1):=by
 conv=>lhs;unfold Ae
 simp[h,b]
def VJ(h:n<s.size)(b:Dx s[n]=K):Ae s n=n:=by
 unfold Ae;simp[h,b]
def bD(h:¬n<s.size):Ae s n=n:=by
 unfold Ae;simp[h]
def JH(s:bC)(ms:QC Bf)(pos:Nat):Prop:=∀m,ms.getLast?=V m->
 (∀p r,CZ m p r=K)\/m.place+m.text.size<pos\/(m.place+m.text.size=pos/\(pos<s.size->CZ m pos (Utf8.decode s pos).1=K))
def YR{m:Bf}(h:m.place+m.text.size<n):CZ m n I=K:=by
 unfold CZ;rw[lS (by omega)]
def JH.now{b:QC Bf}(h:JH s b n)(c:n<s.size)(e:¬(((Utf8.decode s n).1:Int)=32\/((Utf8.decode s n).1:Int)=10)):
  Mt b n (Utf8.decode s n).1=b++[CF n (Utf8.decode s n).1]:=by
 unfold Mt;rw[lO e];split
 .rename_i m d;have:CZ m n (Utf8.decode s n).1=K:=by
   rcases h m d with a|a|a
   .exact a _ _
   .exact YR a
   .exact a.2 c
  simp[this]
 .rfl
def JH.far{b:QC Bf}(h:JH s b n):JH s b (n+1):=by
 intro m c;rcases h m c with a|a|a
 .exact Hd a
 .exact Hf (Hd (by omega))
 .exact Hf (Hd (by omega))
def IX{b:QC Bf}{m:Bf}(h:(∀p r,CZ m p r=K)\/m.place+m.text.size<n\/(m.place+m.text.size=n/\(n<s.size->CZ m n (Utf8.decode s n).1=K))):JH s (b++[m]) n:=by
 intro c a;simp at a;subst a;exact h
def C3(c:UInt8):AA c=Cm↔97<=c.toNat/\c.toNat<=122:=by
 simp[AA,oA]
def Fz(c:UInt8):Do c=Cm↔65<=c.toNat/\c.toNat<=90:=by
 simp[Do,oA]
def CA(c:UInt8):Ap c=Cm↔48<=c.toNat/\c.toNat<=57:=by
 simp[Ap,oA]
def QY(c:UInt8):Dx c=Cm↔c.toNat=32\/c.toNat=10:=by
 simp[Dx,<-nh]
def GB(c:UInt8)(h:c.toNat<128):Utf8.encode (c.toNat:Int)=⟨#[c]⟩:=by
 unfold Utf8.encode;have a:Utf8.valid (c.toNat:Int)=Cm:=by simp[Utf8.valid];omega
 simp[a,h]
def JQ(f:j<=k)(d:k<s.size):s.extract j k++⟨#[s[k]]⟩=s.extract j (k+1):=by
 apply ByteArray.ext;simp only[pQ,ByteArray.data_extract];apply Array.ext
 .simp only[Array.size_append,Array.size_extract];have:s.data.size=s.size:=rfl;simp;omega
 .intro i b a;have e:s.data.size=s.size:=rfl;simp only[Array.size_append,Array.size_extract,mW,lQ,mn]at b a;by_cases g:i<k-j
  .rw[Array.getElem_append_left (by simp;omega)];simp
  ·(have c:i=k-j:=by omega);subst c;rw[Array.getElem_append_right (by simp;omega)];simp[show j+(k-j)=k by omega];rfl
def size_extract{s:bC}{j k:Nat}(a:k<=s.size):(s.extract j k).size=k-j:=by
 simp[mP];omega
def Vg(s:bC)(a:Int)(p:UInt8->Bool)(g:a=2\/a=3)(e:∀c:UInt8,p c=Cm->c.toNat<128/\EV (c.toNat:Int)=a/\¬((c.toNat:Int)=32\/(c.toNat:Int)=10))(d:QC Bf)(j:Nat):
  ∀(n k:Nat),s.size-k<=n->j<k->k<=s.size->Fk s k (d++[⟨a,j,s.extract j k⟩])=Fk s (AG p s k) (d++[⟨a,j,s.extract j (AG p s k)⟩])
 |n,k,hn,hjk,hk=>by
  by_cases b:k<s.size
  .cases hpk:p s[k] with
   |false=>rw[Ft p s k b hpk]
   |true=>
    obtain⟨f,h,i⟩:=e _ hpk;rw[Ct p s k b hpk,F1 _ b,ot s k b f];simp only;rw[Pg i];have l:CZ ⟨a,j,s.extract j k⟩ k (s[k].toNat:Int)=Cm:=by
     unfold CZ;simp only[size_extract hk];rw[lO (by omega),lS g];simp[h]
    rw[lS l];simp only;rw[GB _ f,JQ (by omega) b]
    match n with
    |0=>omega
    |n+1=>exact Vg s a p g e d j n (k+1) (by omega) (by omega) (by omega)
  .rw[GA p s k b]
def MU(p:UInt8->Bool)(s:bC):∀(n i:Nat),s.size-i<=n->∀h:AG p s i<s.size,p s[AG p s i]=K
 |n,i,hn,h=>by
  by_cases a:i<s.size
  .cases hp:p s[i] with
   |false=>
    have e:=Ft p s i a hp;simp only[e];exact hp
   |true=>
    have e:=Ct p s i a hp
    match n with
    |0=>omega
    |n+1=>
     have:=MU p s n (i+1) (by omega) (by rw[<-e];exact h);simp only[e];exact this
  .have e:=GA p s i a;omega
def GH(r:Int):EV r=2↔97<=r/\r<=122:=by
 unfold EV;split
 .simp;omega
 .split
  .simp;omega
  .split
   .simp;omega
   .split
    .simp;omega
    .simp;omega
def IT(r:Int):EV r=3↔48<=r/\r<=57:=by
 unfold EV;split
 .simp;omega
 .split
  .simp;omega
  .split
   .simp;omega
   .split
    .simp;omega
    .simp;omega
def Rg{p:UInt8->Bool}(e:I=2\/I=3)(l:∀c:UInt8,p c=K->EV (c.toNat:Int)≠I)(b:k<=s.size)(n:j<=k)(g:∀h:k<s.size,p s[k]=K):
  JH s ([⟨I,j,s.extract j k⟩]:QC Bf) k:=by
 intro m a;simp at a;subst a;refine Hf (Hf ⟨by simp only[size_extract b];omega,λh=>?_⟩);unfold CZ;simp only[size_extract b];rw[lO (by omega),lS e];have i:=g h;simp only[mq,ne_eq];by_cases f:s[k].toNat<128
 .rw[ot s k h f];exact l _ i
 .have:=(pT s k h (by omega)).1;intro d;rcases e with rfl|rfl
  .rw[GH]at d;omega
  .rw[IT]at d;omega
def Qs{a:QC Bf}{m:Bf}(h:JH s [m] n):JH s (a++[m]) n:=by
 refine IX (h m (by simp))
def Sc(h:¬(97<=n/\n<=122))(a:¬(48<=n/\n<=57)):EV (n:Int)=4\/EV (n:Int)=5\/EV (n:Int)=0:=by
 unfold EV;rw[lO (by omega),lO (by omega)];split
 .simp
 .split<;>simp
def Qq{m:Bf}(h:m.kind=4\/m.kind=0\/(m.kind=5/\m.text.toList≠[58]))(p:Nat)(r:Int):CZ m p r=K:=by
 unfold CZ;split
 .rfl
 .rcases h with h|h|h
  .simp[h]
  .simp[h]
  .simp[h.1,h.2]
theorem Ef(s:bC):∀(n a:Nat) (e:QC Bf),s.size-a<=n->JH s e a->Fk s a e=e++Sm s a
 |n,a,e,hn,d=>by
  by_cases b:a<s.size
  .match n with
   |0=>omega
   |n+1=>
    cases hb:Dx s[a] with
    |true=>
     have x:=(QY _).1 hb;rw[F1 _ b,ot s a b (by omega)];simp only;(have:Mt e a (s[a].toNat:Int)=e:=by unfold Mt;rw[lS (by omega)]);rw[this,Ef s n (a+1) e (by omega) d.far,Yx (Wt b hb)]
    |false=>
     (have x:¬(s[a].toNat=32\/s[a].toNat=10):=λh=>by rw[(QY _).2 h]at hb;cases hb);have v:=VJ b hb;have y:¬(((Utf8.decode s a).1:Int)=32\/((Utf8.decode s a).1:Int)=10):=by
      by_cases i:s[a].toNat<128
      .rw[ot s a b i];simp only;omega
      .have:=(pT s a b (by omega)).1;omega
     rw[GF v b,F1 _ b,d.now b y];have f:=Ry s a b;unfold Eu at f⊢;rw[E8 b]at f⊢;cases hl:AA s[a] with
     |true=>
      have q:=(C3 _).1 hl;simp only[hl,if_true]at f⊢;rw[ot s a b (by omega)];simp only;have k:CF a (s[a].toNat:Int)=⟨2,a,s.extract a (a+1)⟩:=by
       unfold CF;rw[(GH _).2 (by omega),GB _ (by omega),<-JQ (lX _) b];simp
      rw[k,Vg s 2 AA (Hd rfl) (λc d=>by have:=(C3 _).1 d;exact⟨by omega,(GH _).2 (by omega),by omega⟩) e a _ (a+1) (lX _) (by omega) (by omega),<-Ct AA s a b hl];have o:=CN AA s a (by omega);rw[Ef s n _ _ (by omega) (Qs (Rg (Hd rfl) (λc d g=>by rw[GH]at g;rw[(C3 c).2 (by omega)]at d;cases d) o (by omega) (MU AA s _ a (lX _))))];simp
     |false=>
      (have q:¬(97<=s[a].toNat/\s[a].toNat<=122):=λh=>by rw[(C3 _).2 h]at hl;cases hl);cases hd:Ap s[a] with
      |true=>
       have r:=(CA _).1 hd;simp only[hl,hd,if_true,lJ,if_false]at f⊢;rw[ot s a b (by omega)];simp only;have k:CF a (s[a].toNat:Int)=⟨3,a,s.extract a (a+1)⟩:=by
        unfold CF;rw[(IT _).2 (by omega),GB _ (by omega),<-JQ (lX _) b];simp
       rw[k,Vg s 3 Ap (Hf rfl) (λc d=>by have:=(CA _).1 d;exact⟨by omega,(IT _).2 (by omega),by omega⟩) e a _ (a+1) (lX _) (by omega) (by omega),<-Ct Ap s a b hd];have o:=CN Ap s a (by omega);rw[Ef s n _ _ (by omega) (Qs (Rg (Hf rfl) (λc d g=>by rw[IT]at g;rw[(CA c).2 (by omega)]at d;cases d) o (by omega) (MU Ap s _ a (lX _))))];simp
      |false=>
       (have r:¬(48<=s[a].toNat/\s[a].toNat<=57):=λh=>by rw[(CA _).2 h]at hd;cases hd);simp only[hl,hd,lJ,if_false]at f⊢;by_cases j:s[a]=58
       ·(have z:s[a].toNat=58:=by rw[j];rfl);rw[ot s a b (by omega)]at f⊢;simp only at f⊢;have k:CF a (s[a].toNat:Int)=⟨5,a,⟨#[58]⟩⟩:=by
         unfold CF;rw[GB _ (by omega),j];rfl
        rw[k];cases hat:Ej s (a+1) 45 with
        |true=>
         have m:=F4 hat;have p:s[a+1]=45:=by
          unfold Ej at hat;simpa[m] using hat
         (have u:s[a+1].toNat=45:=by rw[p];rfl);rw[lS ⟨j,rfl⟩];simp only;rw[F1 _ m,ot s (a+1) m (by omega)];simp only;rw[Pg (by omega)];have t:CZ ⟨5,a,⟨#[58]⟩⟩ (a+1) (s[a+1].toNat:Int)=Cm:=by
          rw[u];unfold CZ;rw[lO (by simp;rfl)];simp
         rw[lS t];simp only;rw[GB _ (by omega),p];have w:(⟨#[58]⟩:bC)++⟨#[45]⟩=⟨#[58,45]⟩:=rfl;rw[w,Ef s n (a+1+1) _ (by omega) (IX (Hd (Qq (Hf (Hf ⟨rfl,by simp⟩)))))];simp
        |false=>
         rw[lO (by simp)];simp only;rw[Ef s n (a+1) _ (by omega) (IX (Hf (Hf ⟨by simp;rfl,λl=>?_⟩)))]
         .simp
         .unfold CZ;rw[lO (by simp;rfl)];simp;intro g;by_cases i:s[a+1].toNat<128
          .rw[ot s (a+1) l i]at g;simp only at g;unfold Ej at hat;simp[l]at hat;apply hat;apply nh.1;rw[show(45:UInt8).toNat=45 from rfl]
           omega
          .have:=(pT s (a+1) l (by omega)).1;omega
       .rw[lO (by simp[j])]at f⊢;simp only at f⊢;refine(Ef s n _ _ (by omega) (IX (Hd (Qq ?_)))).trans (by simp);by_cases i:s[a].toNat<128
        .rw[ot s a b i];unfold CF;simp only;rcases Sc q r with h|h|h
         .exact Hd h
         .refine Hf (Hf ⟨h,?_⟩);rw[GB _ i];intro g;apply j;simpa using g
         .exact Hf (Hd h)
        .have:=(pT s a b (by omega)).1;refine Hf (Hd ?_);unfold CF;simp only;unfold EV;rw[lO (by omega),lO (by omega),lO (by omega),lO (by omega)]
  .rw[PK _ b,JG (by rw[bD b];exact b)];simp
def Dn(s:bC)(a:Nat):QC Bf:=(Sm s a).map Ji++[Fe s]
def Kc(s:bC):Dt s=Dn s 0:=by
 unfold Dt Dn;rw[Ef s _ 0 [] (lX _) (λm a=>by simp at a)];simp
def A6(s:bC):Prop:=(∃c r,s.toList=c::r/\97<=c.toNat/\c.toNat<=122)\/fc s.toList=Cm
def Dg{r:QC UInt8}(h:s.toList=g::r):CT s 0=g/\s.size=Z r+1:=by
 have b:s.size=Z r+1:=by rw[AP,h];rfl
 refine⟨?_,b⟩;unfold CT;rw[dif_pos (by omega)];obtain⟨d,a,_⟩:=IU s (by omega);rw[h]at a;exact(List.cons.inj a).1.symm
def LF(a:48<=g.toNat)(b:g.toNat<=57):Ap g=Cm:=(CA _).2 ⟨a,b⟩
def J2(a:97<=g.toNat):Ap g=K:=by
 cases h:Ap g with
 |false=>rfl
 |true=>have:=(CA _).1 h;omega
def QL(x:UInt8)(l m:QC UInt8):Pf (x::l) (x::m)=Pf l m:=by
 simp[Pf]
def dB{x y:UInt8}(h:x.toNat<y.toNat)(l m:QC UInt8):Pf (x::l) (y::m)=Cm:=by
 have:x<y:=h;simp[Pf,this]
def dy{x y:UInt8}(h:y.toNat<x.toNat)(l m:QC UInt8):Pf (x::l) (y::m)=K:=by
 have a:¬x<y:=by
  intro c;have:x.toNat<y.toNat:=c;omega
 have b:(x==y)=K:=by
  rw[mq];intro e;rw[e]at h;omega
 simp[Pf,a,b]
def Gf(h:fc s.toList=Cm):(AD s).toList=NP (3-Z s.toList) 48++s.toList:=by
 have g:I7 s=Cm:=by
  unfold I7;rcases Fs h with⟨c,e,b,a⟩|⟨c,d,e,b,a⟩|⟨c,d,f,e,b,a⟩<;>rw[e,Fo]<;>simp<;>omega
 have j:Z s.toList<=3:=by
  rcases Fs h with⟨c,e,b,a⟩|⟨c,d,e,b,a⟩|⟨c,d,f,e,b,a⟩<;>rw[e]<;>simp
 have i:=AP s;unfold AD;rw[g,lS rfl,Mw 3 s (by omega) (by omega),i]
def FG{r:QC UInt8}(h:s.toList=g::r)(b:97<=g.toNat):AD s=s:=by
 have a:I7 s=K:=by
  unfold I7;rw[h,Fo];simp;omega
 unfold AD;rw[a];rfl
def In(l:A6 s)(i:A6 t):Pf (AD s).toList (AD t).toList=Gd s t:=by
 rcases l with⟨c,r,p,q,D⟩|l
 .obtain⟨y,E⟩:=Dg p;rcases i with⟨d,m,k,o,z⟩|i
  .obtain⟨u,B⟩:=Dg k;rw[FG p q,FG k o];unfold Gd;rw[y,u,J2 q,J2 o];rfl
  .rw[FG p q,Gf i];unfold Gd;rw[y,J2 q];rcases Fs i with⟨d,e,j,h⟩|⟨d,f,e,j,h⟩|⟨d,f,g,e,j,h⟩;all_goals
    rw[(Dg e).1,LF (by omega) h,e,p];refine Eq.trans (dy ?_ _ _) rfl
    first|omega|(show(48:UInt8).toNat<_;show 48<_;omega)
 .rcases i with⟨d,m,k,o,z⟩|i
  .obtain⟨u,B⟩:=Dg k;rw[FG k o,Gf l];unfold Gd;rw[u,J2 o];rcases Fs l with⟨c,e,j,h⟩|⟨c,f,e,j,h⟩|⟨c,f,g,e,j,h⟩;all_goals
    rw[(Dg e).1,LF (by omega) h,e,k];refine Eq.trans (dB ?_ _ _) rfl
    first|omega|(show(48:UInt8).toNat<_;show 48<_;omega)
  .rw[Gf l,Gf i];unfold Gd;rcases Fs l with⟨c,e,j,h⟩|⟨c,f,e,j,h⟩|⟨c,f,g,e,j,h⟩<;>
    rcases Fs i with⟨w,n,x,v⟩|⟨w,A,n,x,v⟩|⟨w,A,C,n,x,v⟩<;>
    rw[(Dg e).1,(Dg n).1,LF (by omega) h,LF (by omega) v,(Dg e).2,(Dg n).2,e,n]
   .simp[NP,QL]
   .exact Eq.trans (Eq.trans (QL _ _ _) (dB (by show 48<_;omega) _ _)) rfl
   .exact Eq.trans (dB (by show 48<_;omega) _ _) rfl
   .exact Eq.trans (Eq.trans (QL _ _ _) (dy (by show 48<_;omega) _ _)) rfl
   .simp[NP,QL]
   .exact Eq.trans (dB (by show 48<_;omega) _ _) rfl
   .exact Eq.trans (dy (by show 48<_;omega) _ _) rfl
   .exact Eq.trans (dy (by show 48<_;omega) _ _) rfl
   .simp[NP]
def OX(s:bC):(s.extract 1 s.size).toList=s.toList.drop 1:=by
 rw[ma,ma,ByteArray.data_extract,Array.toList_extract];have h:s.size=Z s.data.toList:=rfl;simp only[List.extract];rw[lH (by rw[mG];omega)]
def FE{r:QC UInt8}(h:s.toList=g::r):(FN (k+1) s).toList=if 0<Z r/\g=48 then(FN k (s.extract 1 s.size)).toList else s.toList:=by
 obtain⟨e,d⟩:=Dg h;rw[FN,e,d];by_cases a:0<Z r/\g=48
 .rw[lS ⟨by omega,a.2⟩,lS a]
 .rw[lO (λb=>a ⟨by omega,b.2⟩),lO a]
def Gt(k:A6 s):B4 (AD s)=s:=by
 rcases k with⟨c,r,e,b,m⟩|k
 .rw[FG e b];unfold B4;have i:I7 s=K:=by
   unfold I7;rw[e,Fo];simp;omega
  rw[i];rfl
 .have g:=Gf k;apply toList_inj;have l:(AD s).size=Z (AD s).toList:=AP _;generalize AD s=p at g l⊢;unfold B4;rcases Fs k with⟨c,e,b,m⟩|⟨c,d,e,b,m⟩|⟨c,d,f,e,b,m⟩
  .rw[e]at g⊢;have a:p.toList=[48,48,c]:=g;(have i:I7 p=Cm:=by unfold I7;rw[a,Fo];rfl);rw[i,lS rfl,l,a];show(FN 3 p).toList=[c];rw[FE a,lS ⟨by simp,rfl⟩];(have j:(p.extract 1 p.size).toList=[48,c]:=by rw[OX,a];rfl);rw[FE j,lS ⟨by simp,rfl⟩];(have q:((p.extract 1 p.size).extract 1 (p.extract 1 p.size).size).toList=[c]:=by rw[OX,j];rfl);rw[FE q,lO (by simp),q]
  .rw[e]at g⊢;have a:p.toList=[48,c,d]:=g;(have i:I7 p=Cm:=by unfold I7;rw[a,Fo];rfl);(have o:c≠48:=λn=>by rw[n]at b;exact absurd b (by decide));rw[i,lS rfl,l,a];show(FN 3 p).toList=[c,d];rw[FE a,lS ⟨by simp,rfl⟩];(have j:(p.extract 1 p.size).toList=[c,d]:=by rw[OX,a];rfl);rw[FE j,lO (λh=>o h.2),j]
  .rw[e]at g⊢;have a:p.toList=[c,d,f]:=g;(have i:I7 p=Cm:=by unfold I7;rw[a,Fo];simp;omega);(have o:c≠48:=λn=>by rw[n]at b;exact absurd b (by decide));rw[i,lS rfl,l,a];show(FN 3 p).toList=[c,d,f];rw[FE a,lO (λh=>o h.2),a]
def Gr(c:A6 s)(d:A6 t)(h:AD s=AD t):s=t:=by
 rw[<-Gt c,<-Gt d,h]
theorem Tryz.zo:(Tryz.prog.info? 217).map (λi=>(i.zero,i.size,i.bytes))=V (V (.agg #[X J 0,X J 0,X J 0,O ⟨#[]⟩,U Y 0 0,X .i32 0,O ⟨#[]⟩,X .i32 0,O ⟨#[]⟩]),9,112):=by kernel_rfl
structure PL where
 place:Int
 sort:Int
 ap:Int
 an:bC
 ts:QC AY
 l:AY
 r:AY
def Ku:dE->PL
 | .inl (pl,so,p,s,ts)=>⟨pl,so,p,s,ts,AK,AK⟩
 | .inr c=>⟨c.place,c.sort,0,ND,[],c.left,c.right⟩
abbrev Lx:=PL×Hs
def Ay(p:Lx):QC Hs:=[X J p.1.place,X J p.1.sort,X J p.1.ap,O p.1.an,p.2,X .i32 p.1.l.v,O p.1.l.s,X .i32 p.1.r.v,O p.1.r.s]
def KR(w:Hq)(base:Nat)(p:Lx):Prop:=Mi w base 215 2 p.2 (Z p.1.ts) (p.1.ts.flatMap Ar)
def KR.eF{p:Lx}(h:KR w n p)(k:Ac M w v)(a:∀i,p.2.ownBlock=V i->i∉M):KR v n p:=Ai h k a
def KR.kept{w w':Hq}{p:Lx}(h:KR w n p)(k:Ac M w w')(a:∀i,i∈M->i<n:=by simp):KR w' n p:=Ad h k a
def Zr.uni{g:QC Bf}{e:Ending}{l:dE}(d:ID g m=.ok (l,n))(h:Zr b z g I w e v (.ok (l,n))):
  ∃i f,e=G3 (.tuple #[.agg (D6 (Ay (Ku l,U i (Z (Ku l).ts) f))),No Cm])/\KR v w.heap.size (Ku l,U i (Z (Ku l).ts) f)/\Cr v b z g n I/\Ac [b] w v:=by
 cases l with
 |inl a=>
  obtain⟨E,x,p,s,G⟩:=a;obtain⟨A,y,rfl,r,o,k,j⟩:=h;obtain⟨i,f,rfl⟩:=Ak o;exact⟨i,f,rfl,Al o r,k,j⟩
 |inr c=>
  have u:Iz g m=.ok (c,n):=by
   unfold ID at d;split at d
   .split at d<;>simp at d
   .split at d
    .split at d<;>simp at d
    .split at d
     .simp at d
     .rename_i t;simp only[mX,mA,Sum.inr.injEq]at d;rw[t];simp[d]
  have q:=Ua u;obtain⟨f,B,C,F,D⟩:=c;simp only at q;subst q;obtain⟨rfl,k,j⟩:=h;exact⟨Y,0,rfl,mf _ _ _ _,k,j⟩
def Rp{b:QC Bf}:∀(k a:Nat) (d:QC AY) {c:QC AY} {n:Nat},Z b-a<=k->GP b a d=.ok (c,n)->a<n
 |k,a,d,c,n,hk,h=>by
  unfold GP at h;split at h
  .rename_i e;split at h
   .cases h
   .split at h
    .match k with
     |0=>omega
     |k+1=>have:=Rp k (a+2) _ (by omega) h;omega
    .split at h
     .simp only[mX,mA]at h;omega
     .cases h
  .cases h
def MG{b:QC Bf}{a:Nat×bC×QC AY}(h:Fv b m=.ok (a,n)):m<n:=by
 unfold Fv at h;split at h
 .split at h
  .split at h
   .cases h
   .rename_i c;simp only[mX,mA]at h;have:=Rp _ _ _ (lX _) c;omega
  .cases h
 .cases h
def cu{a:QC Bf}{l:dC}(h:Iz a m=.ok (l,n)):m<n:=by
 unfold Iz at h;split at h
 .cases h
 .rename_i c;have d:=Gk c;split at h
  .cases h
  .split at h
   .cases h
   .rename_i b;have q2:=Gk b;simp only[mX,mA]at h;omega
def Jt{b:QC Bf}{l:dE}(h:ID b m=.ok (l,n)):m<n:=by
 unfold ID at h;split at h
 .split at h
  .cases h
  .rename_i a;have:=MG a;simp only[mX,mA]at h;omega
 .split at h
  .split at h
   .cases h
   .rename_i a;have:=MG a;simp only[mX,mA]at h;omega
  .split at h
   .cases h
   .rename_i a;have:=cu a;simp only[mX,mA]at h;omega
def Fd(ms:QC Bf)(nx:Nat)(acc:QC PL):Except Int (QC PL×Nat):=
 if _h:nx<Z ms then
  match ID ms nx with
  | .error p=> .error p
  | .ok (l,n)=>
   if _h2:nx<n then
    if BY (Au ms n) IY then Fd ms (n+1) (acc++[Ku l])else .ok (acc++[Ku l],n)
   else .error 0
 else .error 0
def IP{a:QC Bf}{c:QC PL}(h:n<Z a)(b:ID a n=.error I):Fd a n c=.error I:=by
 unfold Fd;simp[h,b]
def Oc{a:QC Bf}{acc:QC PL}{l:dE}(h:m<Z a)(b:ID a m=.ok (l,n)):
  Fd a m acc=if BY (Au a n) IY then Fd a (n+1) (acc++[Ku l])else .ok (acc++[Ku l],n):=by
 have c:=Jt b
 conv=>lhs;unfold Fd
 simp[h,b,c]
structure Cd(w:Hq)(base:Nat)(v:Hs)(ls:QC Lx):Prop where
 row:Mi w base 217 9 v (Z ls) (ls.flatMap Ay)
 each:∀p∈ls,KR w base p/\Cc p.2 v
def Cd.kept{M:QC Nat}{w w':Hq}{a:Nat}{v:Hs}{d:QC Lx}(h:Cd w a v d)(k:Ac M w w')(c:∀i,i∈M->i<a:=by simp):Cd w' a v d:=
 ⟨Ad h.row k c,λp b=>⟨(h.each p b).1.kept k c,(h.each p b).2⟩⟩
def Cd.base{w:Hq}{d base':Nat}{v:Hs}{b:QC Lx}(h:Cd w d v b)(c:base'<=d):Cd w base' v b:=
 ⟨Al h.row c,λp a=>⟨Al (h.each p a).1 c,(h.each p a).2⟩⟩
def Cd.nil(w:Hq)(b:Nat):Cd w b (U Y 0 0) []:=⟨mf _ _ _ _,λp a=>by simp at a⟩
def gW(b:Nat)(mv:Hs)(ms:QC Bf)(br:Int)(w:Hq)(e:Ending)(w':Hq):Except Int (QC PL×Nat)->Prop
 | .ok (ls,nx)=>∃ad cp bm,e=G3 (.tuple #[U ad (Z ls) cp,No Cm])/\bm.map O0=ls/\Cd w' w.heap.size (U ad (Z ls) cp) bm/\Cr w' b mv ms nx br/\Ac [b] w w'
 | .error p=>∃nx,e=G3 (.tuple #[U Y 0 0,No K])/\Cr w' b mv ms nx p/\Ac [b] w w'
set_option maxRecDepth 100000
theorem Tw(b:Nat)(n:Hs)(a:QC Bf)(I:Nat)(C:Int)(w:Hq)(h:Cr w b n a I C)(ok:Xw a):
  Calls prog 133 #[Gi (V ⟨b,0,Y⟩)] w λe w'=>gW b n a C w e w' (Fd a I []):=by
 obtain⟨i0,HI,Go,HK,HE⟩:=mH Tryz.zo;obtain⟨R,hR⟩:=QP (Fd a I []);rw[hR];have B0:=Ab hR;have HO:=Ab ok;have HY:=h.dI.lt;have HQ:=h.len;have BS:JR (∀k,w.heap.size<=k->n.ownBlock≠V k):=λk B e=>by have:=(h.row.lt k e).2;omega
 have h0:=Ab h;clear hR ok h;go_enter func133,ntmps133;go_wp2_with fail
 go_loopg [4] (Z a-I) (λgk o wr=>∃(j:Nat) (acc:QC Lx) (v:Option Addr) (x:Nat),o=U v (Z acc) x/\gk=Z a-j/\JR (Fd a j (acc.map O0)=R)/\JR (Cr wr b n a j C)/\JR (Cd wr w.heap.size (U v (Z acc) x) acc)/\JR (Ac [b] w wr)/\Z acc<=j)
 case atStart=>exact⟨I,[],Y,0,rfl,rfl,B0,h0,Cd.nil _ _,SF _ _,by simp⟩
 case round=>
  clear h0 B0;obtain⟨j,acc,v,x,rfl,FL,D,HR,E,P,HN⟩:=hrel;have HG:=Ab FL;clear FL;have BT:=HR.lt;have HV:=P.size;go_wp2_with fail
  refine(fx b n a j C _ HR HO).mono ?_;intro e f H;cases ht:ID a j with
  |error q=>
   rw[ht]at H;obtain⟨n9,l,⟨H5,n8,H3,FF⟩,rfl,G,z⟩:=H;(have HF:JR (R=.error q):=by show _=_;rw[<-Aa D];exact IP BT ht);have S:=Ab (P.trans z);have s:=Ab G;clear z ht HR E P D G;obtain⟨lp,ls,⟨la,H2,HW⟩,ll,lr⟩:=l;simp only at FF;subst FF;simp only[Az];go_wp2;go_ret2;rw[HF.out];exact⟨n9,rfl,s.bw ((SF [] _).alloc _),S.alloc _⟩
  |ok r=>
   obtain⟨t,u⟩:=r;rw[ht]at H;have HM:=Jt ht;obtain⟨d,c,rfl,W,G,z⟩:=H.uni ht;have M:=Ab (Oc (acc:=acc.map O0) BT ht);clear H ht;generalize Ku t=p at W M⊢;clear t;have H8:=z.size;have BA:=Ad E.row z (by simp;omega);(have B2:JR (∀q∈acc,KR f w.heap.size q/\Cc q.2 (U v (Z acc) x)):=λq g=>⟨(E.each q g).1.kept z (by simp;omega),(E.each q g).2⟩);have Bx:JR (Cc (U d (Z p.ts) c) (U v (Z acc) x)):=λk B he=>by
    have:=(W.lt k B).1;have:=(E.row.lt k he).2;omega
   have DT:=Ab W;have S:=Ab (P.trans z);have s:=Ab G;have E0:=G.lt;clear W G z E P HR;have FO:((f.alloc (Dj (D6 (Ay (p,U d (Z p.ts) c))) 217)).alloc (Dj (D6 (Ay (p,U d (Z p.ts) c))) 217)).heap[f.heap.size+1]?=V (Dj (D6 (Ay (p,U d (Z p.ts) c))) 217 (0,0)):=by
    have hh:=mo (f.alloc (Dj (D6 (Ay (p,U d (Z p.ts) c))) 217)) (Dj (D6 (Ay (p,U d (Z p.ts) c))) 217);rw[show(f.alloc (Dj (D6 (Ay (p,U d (Z p.ts) c))) 217)).heap.size=f.heap.size+1 from by simp]at hh
    exact hh
   have FA:=lM (lM BA (Dj (D6 (Ay (p,U d (Z p.ts) c))) 217)) (Dj (D6 (Ay (p,U d (Z p.ts) c))) 217);(have HZ:Z acc<=1000:=by omega);simp only[Ay];go_wp2_with (at_builtin;refine me _ rfl (.tmp 14) (.tmp 16) _ rfl w.heap.size 217 i0 _ 9 112 underlying97 HI Go HK HE rfl (by omega) (U v (Z acc) x) (Z acc) (acc.flatMap Ay) rfl FA ⟨f.heap.size+1,0,Y⟩ 1 1 (Ay (p,U d (Z p.ts) c)) rfl rfl (mg (cs:=D6 (Ay (p,U d (Z p.ts) c))) (t:=217) (fr:=(0,0)) FO) (by simp[Value.oneCell',Ay]) (by omega) (by unfold maxLen;omega) (by omega) (by simp;omega) (f.heap.size+1+1) (by simp) ?_;intro Q AT L A1 CC AB FT)
   have F:Ac (U v (Z acc) x).ownBlock.toList f L:=(((SF _ f).alloc _).alloc _).grown CC (λk B=>Hd (by simp[B]));(have T:∀i∈(U v (Z acc) x).ownBlock.toList,w.heap.size<=i:=λi m=>(BA.lt i (by simpa using m)).1);have FW:n.ownBlock≠Y->∀k,n.ownBlock=V k->k<w.heap.size:=λ_ k B=>by
    by_cases g:k<w.heap.size
    .exact g
    .exact absurd B (BS k (by omega))
   have CL:Cr L b n a u C:=⟨s.dI.kept F (λA=>by have:=T b A;omega),Ai s.row F (λi m A=>by have:=T i A;exact absurd m (BS i this)),s.ap,s.lt,s.len⟩;have A0:Ac [b] w L:=S.trans' F (λi m=>Hf (by have:=T i m;omega));have H4:w.heap.size<=L.heap.size:=A0.size;have EY:JR (Cd L w.heap.size (U (V ⟨Q,0,Y⟩) (Z acc+1) AT) (acc++[(p,U d (Z p.ts) c)])):=by
    refine⟨by simpa using A1,?_⟩;intro q g;rcases lV.1 g with g|g
    .obtain⟨N,h2⟩:=B2 q g;exact⟨N.eF F (λi m A=>h2 i m (by simpa using A)),Cc.zA h2 N AB (by omega)⟩
    .simp only[lG]at g;subst g;have N:KR f w.heap.size (p,U d (Z p.ts) c):=Al DT (by omega);exact⟨N.eF F (λi m A=>Bx i m (by simpa using A)),Cc.zA Bx N AB (by omega)⟩
   have B9:=Ab CL;have EX:=Ab A0;have H6:w.heap.size<=Q:=(A1.lt Q rfl).1;clear F T FW CL A0 CC AB FT A1 FO FA BA B2 Bx DT S s;refine(G1 b n a u C IY _ B9 (Au a u) (Bn E0) (HO.seen E0 IY)).mono ?_;rintro e HX ⟨rfl,y,A2⟩;have FB:=Ab (EY.kept A2 (by simp;omega));have FP:=Ab (EX.trans A2);clear A2 EY EX B9;cases hs:BY (Au a u) IY with
   |true=>
    rw[hs]at y;simp only[if_true]at y;have HA:JR (Fd a (u+1) ((acc++[(p,(U d (Z p.ts) c:Hs))]).map O0)=R):=by
     show _=_;rw[<-Aa D,Aa M,hs];simp
    have AH:=Ab y;clear y hs D M;go_wp2_with fail
    go_roundg (Z a-(u+1))
    case measure=>have:=Aa HG;omega
    case rel=>exact⟨u+1,acc++[(p,U d (Z p.ts) c)],V ⟨Q,0,Y⟩,AT,by simp,rfl,HA,AH,by simpa using FB,FP,by simp;omega⟩
   |false=>
    rw[hs]at y;simp only[lJ,if_false]at y;have HF:JR (R=.ok (acc.map O0++[p],u)):=by
     show _=_;rw[<-Aa D,Aa M,hs];simp
    have AH:=Ab y;clear y hs D M;go_wp2;go_ret2;rw[HF.out];exact⟨V ⟨Q,0,Y⟩,AT,acc++[(p,U d (Z p.ts) c)],by simp,by simp,by simpa using(Aa FB),Aa AH,Aa FP⟩
def aM:bC:=⟨#[58]⟩
def iO:bC:=⟨#[58,45]⟩
def ah:bC:=⟨#[46]⟩
structure PC where
 hp:Int
 hn:bC
 dx:QC AY
 body:QC PL
def Ov(ms:QC Bf)(n:Nat)(c:PC):Except Int (PC×Nat):=if BY (Au ms n) ah then .ok (c,n+1)else .error (Au ms n).place
def CO(ms:QC Bf)(nx:Nat):Except Int (PC×Nat):=
 match Fv ms nx with
 | .error p=> .error p
 | .ok ((p,s,ts),n)=>
  if BY (Au ms n) aM then .error (((Au ms n).place:Int)+1)
  else if BY (Au ms n) iO then
   match Fd ms (n+1) [] with
   | .error q=> .error q
   | .ok (ls,n2)=>Ov ms n2 ⟨p,s,ts,ls⟩
  else Ov ms n ⟨p,s,ts,[]⟩
def QO{b:QC Bf}:∀(k a:Nat) (d:QC PL) {e:QC PL} {n:Nat},Z b-a<=k->Fd b a d=.ok (e,n)->a<n
 |k,a,d,e,n,hk,h=>by
  by_cases c:a<Z b
  .cases hl:ID b a with
   |error p=>rw[IP c hl]at h;cases h
   |ok r=>
    obtain⟨l,f⟩:=r;have g:=Jt hl;rw[Oc c hl]at h;split at h
    .match k with
     |0=>omega
     |k+1=>have:=QO k (f+1) _ (by omega) h;omega
    .simp only[mX,mA]at h;omega
  .unfold Fd at h;rw[dif_neg c]at h;cases h
def Tz{a:QC Bf}{c b:PC}(h:Ov a n c=.ok (b,m)):m=n+1:=by
 unfold Ov at h;split at h
 .simp only[mX,mA]at h;exact h.2.symm
 .cases h
def Hb{a:QC Bf}{c:PC}(h:CO a m=.ok (c,n)):m<n:=by
 unfold CO at h;split at h
 .cases h
 .rename_i d;have e:=MG d;split at h
  .cases h
  .split at h
   .split at h
    .cases h
    .rename_i b;have q2:=QO _ _ _ (lX _) b;have q3:=Tz h;omega
   .have q3:=Tz h;omega
def Dl(ms:QC Bf)(nx:Nat)(acc:QC PC):Except Int (QC PC):=
 if _h:nx<Z ms then
  if(Au ms nx).kind==1 then .ok acc
  else match CO ms nx with
   | .error p=> .error p
   | .ok (c,n)=>if _h2:nx<n then Dl ms n (acc++[c])else .error 0
 else .error 0
def OT{a:QC Bf}{b:QC PC}(h:n<Z a)(c:((Au a n).kind==1)=Cm):Dl a n b=.ok b:=by
 unfold Dl;simp[h,c]
def Lb{a:QC Bf}{d:QC PC}(h:n<Z a)(b:((Au a n).kind==1)=K)(c:CO a n=.error I):Dl a n d=.error I:=by
 unfold Dl;simp[h,b,c]
def Sb{a:QC Bf}{acc:QC PC}{c:PC}(h:m<Z a)(d:((Au a m).kind==1)=K)(b:CO a m=.ok (c,n)):Dl a m acc=Dl a n (acc++[c]):=by
 have e:=Hb b
 conv=>lhs;unfold Dl
 simp[h,d,b,e]
def Bi(hp:Int)(hn:bC)(hv bv:Hs):QC Hs:=[X J hp,O hn,hv,bv]
def AI.dL{N:Nat}(h:AI w N y T)(g:Z y=4)(d c b a:Hs):AI ((((w.setCell ⟨N,0,Y⟩ d).setCell ⟨N,1,Y⟩ c).setCell ⟨N,2,Y⟩ b).setCell ⟨N,3,Y⟩ a) N [d,c,b,a] T:=by
 have f:=(((h.set 0 d).set 1 c).set 2 b).set 3 a;have e:(((y.set 0 d).set 1 c).set 2 b).set 3 a=[d,c,b,a]:=by
  match y,g with
  |[_,_,_,_],_=>rfl
 rw[e]at f;exact f
def Cr.dL{d:QC Bf}(h:Cr w b z d n I){N:Nat}(a:N≠b)(c:z.ownBlock≠V N)(i g f e:Hs):Cr ((((w.setCell ⟨N,0,Y⟩ i).setCell ⟨N,1,Y⟩ g).setCell ⟨N,2,Y⟩ f).setCell ⟨N,3,Y⟩ e) b z d n I:=
 (((h.other (p:=⟨N,0,Y⟩) a c i).other (p:=⟨N,1,Y⟩) a c g).other (p:=⟨N,2,Y⟩) a c f).other (p:=⟨N,3,Y⟩) a c e
def Ac.dL(h:Ac M v w){N:Nat}(b:N∈M\/v.heap.size<=N)(f e d c:Hs):Ac M v ((((w.setCell ⟨N,0,Y⟩ f).setCell ⟨N,1,Y⟩ e).setCell ⟨N,2,Y⟩ d).setCell ⟨N,3,Y⟩ c):=
 (((h.setCell (p:=⟨N,0,Y⟩) b f).setCell (p:=⟨N,1,Y⟩) b e).setCell (p:=⟨N,2,Y⟩) b d).setCell (p:=⟨N,3,Y⟩) b c
structure Kj(w:Hq)(base:Nat)(hv bv:Hs)(dx:QC AY)(ls:QC Lx):Prop where
 head:Mi w base 215 2 hv (Z dx) (dx.flatMap Ar)
 body:Cd w base bv ls
def Kj.kept{M:QC Nat}{w w':Hq}{a:Nat}{d e:Hs}{c:QC AY}{f:QC Lx}(h:Kj w a d e c f)(k:Ac M w w')(b:∀i,i∈M->i<a:=by simp):Kj w' a d e c f:=⟨Ad h.head k b,h.body.kept k b⟩
def Kj.base{w:Hq}{c base':Nat}{b e:Hs}{a:QC AY}{f:QC Lx}(h:Kj w c b e a f)(d:base'<=c):Kj w base' b e a f:=⟨Al h.head d,h.body.base d⟩
def aU(b:Nat)(mv:Hs)(ms:QC Bf)(br:Int)(w:Hq)(e:Ending)(w':Hq):Except Int (PC×Nat)->Prop
 | .ok (c,nx)=>∃ad cp ad2 cp2 bm,e=G3 (.tuple #[.agg (D6 (Bi c.hp c.hn (U ad (Z c.dx) cp) (U ad2 (Z c.body) cp2))),No Cm])/\bm.map O0=c.body/\Kj w' (w.heap.size+1) (U ad (Z c.dx) cp) (U ad2 (Z c.body) cp2) c.dx bm/\Cr w' b mv ms nx br/\Ac [b] w w'
 | .error p=>∃nx hp hn ad n cp ad2 n2 cp2,e=G3 (.tuple #[.agg (D6 (Bi hp hn (U ad n cp) (U ad2 n2 cp2))),No K])/\Cr w' b mv ms nx p/\Ac [b] w w'
theorem V7(b:Nat)(F:Hs)(c:QC Bf)(H:Nat)(L:Int)(w:Hq)(h:Cr w b F c H L)(ok:Xw c)(HX:∀i,(Au c i).place<=1000000):
  Calls prog 115 #[Gi (V ⟨b,0,Y⟩)] w λe I=>aU b F c L w e I (CO c H):=by
 have HO:=Ab ok;have M1:=Ab HX;clear HX;have M3:=h.dI.lt;have IA:∀k,F.ownBlock=V k->k<w.heap.size:=λk hk=>(h.row.lt k hk).2
 have h1:=Ab (h.bw ((SF [] w).alloc (Dj (D6 (Bi 0 ⟨#[]⟩ (U Y 0 0) (U Y 0 0))) 189)));have hN:=Ab (Tc w (Bi 0 ⟨#[]⟩ (U Y 0 0) (U Y 0 0)) 189);have CL:=Ab ((SF [b] w).alloc (Dj (D6 (Bi 0 ⟨#[]⟩ (U Y 0 0) (U Y 0 0))) 189));have H2:(w.alloc (Dj (D6 (Bi 0 ⟨#[]⟩ (U Y 0 0) (U Y 0 0))) 189)).heap.size=w.heap.size+1:=by simp
 clear h ok;go_enter func115,ntmps115;go_wp2_with fail
 change Calls _ _ _ (w.alloc (Dj (D6 (Bi 0 ⟨#[]⟩ (U Y 0 0) (U Y 0 0))) 189)) _;generalize w.alloc (Dj (D6 (Bi 0 ⟨#[]⟩ (U Y 0 0) (U Y 0 0))) 189)=w1 at h1 hN CL H2⊢;obtain⟨N,H6⟩:=QP w.heap.size;rw[H6]at hN M3 H2 IA⊢;have R:JR (∀k,N<=k->F.ownBlock≠V k):=λk hk e=>by have:=IA k e;omega
 clear IA;have Q:=Ab H6;clear H6;refine(O9 b F c H L _ h1 HO).mono ?_;intro e D S;clear h1;cases ht:Fv c H with
 |error q=>
  rw[ht]at S;obtain⟨n9,ap,an,d,LS,f,rfl,h2,k2⟩:=S;have HF:JR (CO c H=.error q):=by show _=_;unfold CO;rw[ht]
  clear ht;have v:=hN.kept k2 (by simp;omega);have Go:=Ab (CL.trans k2);have c0:=v.cell 0;have c1:=v.cell 1;have c2:=v.cell 2;have c3:=v.cell 3;have nf:=v.frozen;have d0:=λo=>(v.alloc o).cell 0
  have d1:=λo=>(v.alloc o).cell 1
  have d2:=λo=>(v.alloc o).cell 2
  have d3:=λo=>(v.alloc o).cell 3
  have df:=λo=>(v.alloc o).frozen
  simp[Bi]at c0 c1 c2 c3 d0 d1 d2 d3;have NM:=v.lt;have q1:¬N=D.heap.size:=by omega
  have q2:¬D.heap.size=N:=by omega
  have z:=Ab h2;have G:=Ab v;clear h2 v k2 hN CL;simp only[AS];go_wp2;rw[HF.out];have AB:=(G.dL rfl (X J 0) (O ⟨#[]⟩) (U Y 0 0) (U Y 0 0)).alloc (Dj #[X J ap,O an,U d LS f] 187);refine mj (Aw (P:=prog) (fn:=Tryz.f115) (p:=2) (u:=3) rfl rfl AB underlying189 rfl (by kernel_rfl)) rfl ?_;refine⟨n9,0,ND,Y,0,0,Y,0,0,rfl,?_,?_⟩
  .exact(z.dL (by omega) (R N (by omega)) _ _ _ _).bw ((SF [] _).alloc _)
  .have:=Aa Q;exact(Go.dL (by right;omega) _ _ _ _).alloc _
 |ok r=>
  obtain⟨⟨p,s,a⟩,n⟩:=r;rw[ht]at S;obtain⟨tv,NL,rfl,MY,H4,h2,k2⟩:=S;obtain⟨d,f,rfl⟩:=Ak H4;have Bx:JR (CO c H=if BY (Au c n) aM then .error (((Au c n).place:Int)+1)else if BY (Au c n) iO then(match Fd c (n+1) [] with| .error q=> .error q| .ok (j,W)=>Ov c W ⟨p,s,a,j⟩)else Ov c n ⟨p,s,a,[]⟩):=by
   show _=_;unfold CO;rw[ht]
  clear ht;have HI:Mi D (N+1) 215 2 (U d (Z a) f) (Z a) (a.flatMap Ar):=Al H4 (by omega);have K7:JR (∀k,(U d (Z a) f).ownBlock=V k->k<D.heap.size):=λk e=>(HI.lt k e).2
  have v:=hN.kept k2 (by simp;omega);have Go:=CL.trans k2;have Nd:=v.lt;have Mo:N+1<=D.heap.size:=by have:=k2.size;omega
  clear H4 MY k2 hN CL H2;have B9:=Ab (h2.bw (((SF [] D).alloc (Dj (D6 (AS ⟨p,s,U d (Z a) f⟩)) 187)).alloc (Dj (D6 (Bi p s (U d (Z a) f) (U Y 0 0))) 189)));have HS:=Ab ((v.alloc (Dj (D6 (AS ⟨p,s,U d (Z a) f⟩)) 187)).alloc (Dj (D6 (Bi p s (U d (Z a) f) (U Y 0 0))) 189));have HW:=Ab ((Go.alloc (Dj (D6 (AS ⟨p,s,U d (Z a) f⟩)) 187)).alloc (Dj (D6 (Bi p s (U d (Z a) f) (U Y 0 0))) 189));have FW:JR (AI ((D.alloc (Dj (D6 (AS ⟨p,s,U d (Z a) f⟩)) 187)).alloc (Dj (D6 (Bi p s (U d (Z a) f) (U Y 0 0))) 189)) (D.heap.size+1) (Bi p s (U d (Z a) f) (U Y 0 0)) 189):=by
   have hh:=Tc (D.alloc (Dj (D6 (AS ⟨p,s,U d (Z a) f⟩)) 187)) (Bi p s (U d (Z a) f) (U Y 0 0)) 189;rw[show(D.alloc (Dj (D6 (AS ⟨p,s,U d (Z a) f⟩)) 187)).heap.size=D.heap.size+1 from by simp]at hh
   exact hh
  have HZ:=Ab (lM (lM HI (Dj (D6 (AS ⟨p,s,U d (Z a) f⟩)) 187)) (Dj (D6 (Bi p s (U d (Z a) f) (U Y 0 0))) 189));clear h2 v Go HI;simp only[AS];go_wp2_with fail
  change Calls _ _ _ ((D.alloc (Dj (D6 (AS ⟨p,s,U d (Z a) f⟩)) 187)).alloc (Dj (D6 (Bi p s (U d (Z a) f) (U Y 0 0))) 189)) _;generalize(D.alloc (Dj (D6 (AS ⟨p,s,U d (Z a) f⟩)) 187)).alloc (Dj (D6 (Bi p s (U d (Z a) f) (U Y 0 0))) 189)=w3 at B9 HS HW FW HZ⊢;obtain⟨C,KK⟩:=QP (D.heap.size+1);have NN:N+1<C:=by omega
  have MB:JR ((U d (Z a) f).ownBlock≠V C):=λe=>by have:=Aa K7 C e;omega
  clear K7;rw[KK]at FW⊢;clear KK Mo Nd;refine(Uc b F c n L aM _ B9 (Au c n) (Bn B9.lt)).mono ?_;rintro e w4 ⟨rfl,k4⟩;have A0:=Ab (B9.bw k4);have FO:=Ab (HS.kept k4);have JJ:=Ab (FW.kept k4);have FC:=Ab (HW.trans (k4.mono (by simp)));have HV:=Ab (Ad HZ k4);clear B9 HS FW HW HZ k4;cases hc:BY (Au c n) aM with
  |true=>
   (have HF:JR (CO c H=.error (((Au c n).place:Int)+1)):=by show _=_;rw[Aa Bx,hc];rfl);clear Bx hc JJ HV;(go_wp2_with fail);refine(Jy b F c n L _ A0 (Au c n) (Bn A0.lt)).mono ?_;rintro e w5 ⟨rfl,M⟩;have K9:=Ab (A0.bw M);have Ax:=Ab (FO.kept M);have T:=Ab (FC.trans (M.mono (by simp)));have HX:(Au c n).place<=1000000:=M1 n;clear A0 FO FC M;(go_wp2_with fail);refine(FK b F c n L (((Au c n).place:Int)+1) _ K9).mono ?_;rintro e w6 ⟨rfl,h6,B⟩;have t:=Ax.kept B (by simp;omega);have BB:=Ab (T.trans B);have c0:=t.cell 0;have c1:=t.cell 1;have c2:=t.cell 2;have c3:=t.cell 3;have nf:=t.frozen;simp[Bi]at c0 c1 c2 c3;have G:=Ab t;have z:=Ab h6;clear t h6 B K9 Ax T;go_wp2;rw[HF.out];have AB:=G.dL rfl (X J 0) (O ⟨#[]⟩) (U Y 0 0) (U Y 0 0);refine mj (Aw (P:=prog) (fn:=Tryz.f115) (p:=2) (u:=3) rfl rfl AB underlying189 rfl (by kernel_rfl)) rfl ?_;refine⟨n,0,ND,Y,0,0,Y,0,0,rfl,?_,?_⟩
   .exact z.dL (by omega) (R N (by omega)) _ _ _ _
   .have:=Aa Q;exact BB.dL (by right;omega) _ _ _ _
  |false=>
   have FF:=Ab hc;clear hc;(go_wp2_with fail);refine(G1 b F c n L iO _ A0 (Au c n) (Bn A0.lt) (HO.seen A0.lt iO)).mono ?_;rintro e w5 ⟨rfl,h5,M⟩;have Ax:=Ab (FO.kept M (by simp;omega));have A2:=Ab (JJ.kept M (by simp;omega));have T:=Ab (FC.trans M);have B2:=Ab (Ad HV M (by simp;omega));clear A0 FO JJ FC HV M;cases hd:BY (Au c n) iO with
   |false=>
    rw[hd]at h5;simp only[lJ,if_false]at h5;(have HD:JR (CO c H=Ov c n ⟨p,s,a,[]⟩):=by show _=_;rw[Aa Bx,Aa FF,hd];rfl);have z:=Ab h5;have G:=Ax;have A:=A2;have HK:=T;have HP:JR (Kj w5 (N+1) (U d (Z a) f) (U Y 0 0) a []):=⟨B2,Cd.nil _ _⟩;clear hd h5 Bx FF Ax A2 T B2;have DT:=z.lt;have H5:=Ab (Oe b F c n L ah _ (z.bw (SF [] w5).drew) (Au c n) (Bn DT) (HO.seen DT ah));have e0:=A.cell 0;have e1:=A.cell 1;have e2:=A.cell 2;have e3:=A.cell 3;simp[Bi]at e0 e1 e2 e3;(have HH:JR (∀m,Ac [b] w5.drew m->AI m N (Bi 0 ⟨#[]⟩ (U Y 0 0) (U Y 0 0)) 189/\AI m C (Bi p s (U d (Z a) f) (U Y 0 0)) 189):=λm k=>⟨G.drew.kept k (by simp;omega),A.drew.kept k (by simp;omega)⟩);(have q1:¬C=N:=by omega);(have q2:¬N=C:=by omega);clear z G A;go_wp2_with fail
    go_region_held3 (λI=>Lc I ⟨C,0,Y⟩=V (X J p)/\Lc I ⟨C,1,Y⟩=V (O s)/\Lc I ⟨C,2,Y⟩=V (U d (Z a) f)/\Lc I ⟨C,3,Y⟩=V (U Y 0 0)) (go_keep) ((go_at_call 163;refine H5.mono ?_;rintro e m ⟨rfl,l,E⟩;have g:=Aa HH m E;have f0:=g.2.cell 0;have f1:=g.2.cell 1;have f2:=g.2.cell 2;have f3:=g.2.cell 3;have p0:=g.1.cell 0;have p1:=g.1.cell 1;have p2:=g.1.cell 2;have p3:=g.1.cell 3;have pf:=g.1.frozen;simp[Bi]at f0 f1 f2 f3 p0 p1 p2 p3;have HT:=Ab (And.intro l (And.intro E g));clear l E g))
    rename_i HJ;clear HJ;go_wp2;obtain⟨l,E,g,_⟩:=HT;have AB:=g.dL rfl (X J p) (O s) (U d (Z a) f) (U Y 0 0);have FA:Ac [b] w m:=HK.drew.trans E;have KA:Kj m (N+1) (U d (Z a) f) (U Y 0 0) a []:=(HP.kept (SF [] w5).drew).kept E (by simp;omega);refine mj (Aw (P:=prog) (fn:=Tryz.f115) (p:=2) (u:=3) rfl rfl AB underlying189 rfl (by kernel_rfl)) rfl ?_;rw[Aa HD];cases hcl:BY (Au c n) ah with
    |true=>
     rw[hcl]at l;simp only[if_true]at l;unfold Ov;rw[hcl];simp only[if_true];refine⟨d,f,Y,0,[],rfl,rfl,?_,?_,?_⟩
     .rw[Aa Q];exact KA.kept ((SF [N] m).dL (by simp) _ _ _ _)
     .exact l.dL (by omega) (R N (by omega)) _ _ _ _
     .have:=Aa Q;exact FA.dL (by right;omega) _ _ _ _
    |false=>
     rw[hcl]at l;simp only[lJ,if_false]at l;unfold Ov;rw[hcl];simp only[lJ,if_false];refine⟨n,p,s,d,Z a,f,Y,_,0,rfl,?_,?_⟩
     .exact l.dL (by omega) (R N (by omega)) _ _ _ _
     .have:=Aa Q;exact FA.dL (by right;omega) _ _ _ _
   |true=>
    rw[hd]at h5;simp only[if_true]at h5;have FT:JR (CO c H=(match Fd c (n+1) [] with| .error q=> .error q| .ok (j,W)=>Ov c W ⟨p,s,a,j⟩)):=by show _=_;rw[Aa Bx,Aa FF,hd];rfl
    have LE:=Ab h5;clear hd h5 Bx FF;have MN:=A2.lt;(go_wp2_with fail);refine(Tw b F c (n+1) L _ LE HO).mono ?_;intro e w6 S;clear LE;cases hb:Fd c (n+1) [] with
    |error q=>
     rw[hb]at S;obtain⟨n9,rfl,h6,B⟩:=S;(have HF:JR (CO c H=.error q):=by show _=_;rw[Aa FT,hb]);have t:=Ax.kept B (by simp;omega);have AT:=A2.kept B (by simp;omega);have BB:=Ab (T.trans B);have c0:=t.cell 0;have c1:=t.cell 1;have c2:=t.cell 2;have c3:=t.cell 3;have nf:=t.frozen;have d3:=AT.cell 3;have df:=AT.frozen;simp[Bi]at c0 c1 c2 c3 d3;(have q1:¬C=N:=by omega);(have q2:¬N=C:=by omega);have G:=Ab t;have z:=Ab h6;clear t AT h6 B hb FT Ax A2 T B2;go_wp2;rw[HF.out];have AB:=(G.bI ⟨C,3,Y⟩ (by simp;omega) (U Y 0 0)).dL rfl (X J 0) (O ⟨#[]⟩) (U Y 0 0) (U Y 0 0);refine mj (Aw (P:=prog) (fn:=Tryz.f115) (p:=2) (u:=3) rfl rfl AB underlying189 rfl (by kernel_rfl)) rfl ?_;refine⟨n9,0,ND,Y,0,0,Y,0,0,rfl,?_,?_⟩
     .exact(z.other (p:=⟨C,3,Y⟩) (by simp;omega) (R C (by omega)) _).dL (by omega) (R N (by omega)) _ _ _ _
     .have:=Aa Q;exact(BB.setCell (p:=⟨C,3,Y⟩) (by right;simp;omega) _).dL (by right;omega) _ _ _ _
    |ok r=>
     obtain⟨j,W⟩:=r;rw[hb]at S;obtain⟨y,x,FL,rfl,K6,KS,h6,B⟩:=S;(have HD:JR (CO c H=Ov c W ⟨p,s,a,j⟩):=by show _=_;rw[Aa FT,hb]);have t:=Ax.kept B (by simp;omega);have AT:=A2.kept B (by simp;omega);have BB:=T.trans B;have LC:=Ad B2 B (by simp;omega);have d3:=AT.cell 3;have df:=AT.frozen;simp[Bi]at d3;have K8:=Ab t;have KD:=Ab AT;have LB:=Ab BB;have K5:=Ab LC;have IJ:=Ab (And.intro K6 KS);have K3:=Ab h6;clear t AT BB LC K6 KS h6 B hb FT Ax A2 T B2;(go_wp2_with fail);have NA:C<w5.heap.size:=MN;have z:=Ab (K3.other (p:=⟨C,3,Y⟩) (by simp;omega) (R C (by omega)) (U y (Z j) x));have G:=Ab (K8.bI ⟨C,3,Y⟩ (by simp;omega) (U y (Z j) x));have A:JR (AI (w6.setCell ⟨C,3,Y⟩ (U y (Z j) x)) C (Bi p s (U d (Z a) f) (U y (Z j) x)) 189):=KD.set 3 _;have HK:JR (Ac [b] w (w6.setCell ⟨C,3,Y⟩ (U y (Z j) x))):=by
      have:=Aa Q;exact LB.setCell (p:=⟨C,3,Y⟩) (by right;simp;omega) _
     have HP:JR (Kj (w6.setCell ⟨C,3,Y⟩ (U y (Z j) x)) (N+1) (U d (Z a) f) (U y (Z j) x) a FL):=by
      have kC:Ac [C] w6 (w6.setCell ⟨C,3,Y⟩ (U y (Z j) x)):=(SF [C] w6).setCell (by simp) _;refine⟨?_,(IJ.2.kept kC (by simp;omega)).base (by omega)⟩;exact Ah K5 (p:=⟨C,3,Y⟩) MB _
     have HM:JR (FL.map O0=j):=IJ.1;clear K3 K8 KD LB K5 IJ d3 df;generalize w6.setCell ⟨C,3,Y⟩ (U y (Z j) x)=w7 at z G A HK HP⊢;have DT:=z.lt;have H5:=Ab (Oe b F c W L ah _ (z.bw (SF [] w7).drew) (Au c W) (Bn DT) (HO.seen DT ah));have e0:=A.cell 0;have e1:=A.cell 1;have e2:=A.cell 2;have e3:=A.cell 3;simp[Bi]at e0 e1 e2 e3;(have HH:JR (∀m,Ac [b] w7.drew m->AI m N (Bi 0 ⟨#[]⟩ (U Y 0 0) (U Y 0 0)) 189/\AI m C (Bi p s (U d (Z a) f) (U y (Z j) x)) 189):=λm k=>⟨G.drew.kept k (by simp;omega),A.drew.kept k (by simp;omega)⟩);(have q1:¬C=N:=by omega);(have q2:¬N=C:=by omega);clear z G A;go_wp2_with fail
     go_region_held3 (λI=>Lc I ⟨C,0,Y⟩=V (X J p)/\Lc I ⟨C,1,Y⟩=V (O s)/\Lc I ⟨C,2,Y⟩=V (U d (Z a) f)/\Lc I ⟨C,3,Y⟩=V (U y (Z j) x)) (go_keep) ((go_at_call 163;refine H5.mono ?_;rintro e m ⟨rfl,l,E⟩;have g:=Aa HH m E;have f0:=g.2.cell 0;have f1:=g.2.cell 1;have f2:=g.2.cell 2;have f3:=g.2.cell 3;have p0:=g.1.cell 0;have p1:=g.1.cell 1;have p2:=g.1.cell 2;have p3:=g.1.cell 3;have pf:=g.1.frozen;simp[Bi]at f0 f1 f2 f3 p0 p1 p2 p3;have HT:=Ab (And.intro l (And.intro E g));clear l E g))
     rename_i HJ;clear HJ;go_wp2;obtain⟨l,E,g,_⟩:=HT;have AB:=g.dL rfl (X J p) (O s) (U d (Z a) f) (U y (Z j) x);have FA:Ac [b] w m:=HK.drew.trans E;have KA:Kj m (N+1) (U d (Z a) f) (U y (Z j) x) a FL:=(HP.kept (SF [] w7).drew).kept E (by simp;omega);refine mj (Aw (P:=prog) (fn:=Tryz.f115) (p:=2) (u:=3) rfl rfl AB underlying189 rfl (by kernel_rfl)) rfl ?_;rw[Aa HD];cases hcl:BY (Au c W) ah with
     |true=>
      rw[hcl]at l;simp only[if_true]at l;unfold Ov;rw[hcl];simp only[if_true];refine⟨d,f,y,x,FL,rfl,HM,?_,?_,?_⟩
      .rw[Aa Q];exact KA.kept ((SF [N] m).dL (by simp) _ _ _ _)
      .exact l.dL (by omega) (R N (by omega)) _ _ _ _
      .have:=Aa Q;exact FA.dL (by right;omega) _ _ _ _
     |false=>
      rw[hcl]at l;simp only[lJ,if_false]at l;unfold Ov;rw[hcl];simp only[lJ,if_false];refine⟨W,p,s,d,Z a,f,y,_,x,rfl,?_,?_⟩
      .exact l.dL (by omega) (R N (by omega)) _ _ _ _
      .have:=Aa Q;exact FA.dL (by right;omega) _ _ _ _
def BO(s:bC)(a:Nat):Bf:=if Ae s a<s.size then Ji (Eu s (Ae s a)).1 else Fe s
def At(s:bC)(ms:QC Bf)(nx a:Nat):Prop:=ms.drop nx=Dn s a
def Sp(s:bC)(a:Nat):Dn s (Ae s a)=Dn s a:=by
 unfold Dn
 congr 2
 by_cases b:Ae s a<s.size
 .rw[GF (Cz s a) b,GF rfl b]
 .rw[JG b,JG (by rw[Cz];exact b)]
def At.gap{b:QC Bf}(h:At s b n m):At s b n (Ae s m):=by
 unfold At at*;rw[Sp];exact h
def At.head{b:QC Bf}(h:At s b n m):Au b n=BO s m:=by
 unfold At at h;have e:b[n]?=(Dn s m)[0]?:=by rw[<-h];simp
 unfold Au BO;rw[lT,e];unfold Dn Sm;split
 .simp
 .simp
def At.next{b:QC Bf}(h:At s b n m)(c:Ae s m=j)(d:j<s.size):At s b (n+1) (Eu s j).2:=by
 unfold At at*;rw[<-List.drop_drop,h];unfold Dn;rw[GF c d];simp
def At.lt{b:QC Bf}(h:At s b n m):n<Z b:=by
 unfold At at h;have:Z (b.drop n)=Z (Dn s m):=by rw[h]
 unfold Dn at this;simp at this;omega
def Iy(h:¬Ae s n<s.size):BO s n=Fe s:=by simp[BO,h]
def Hn(c:Ae s n=j)(h:j<s.size)(d:AA s[j]=Cm):
  BO s n=⟨if AG AA s j-j<=4 then 2 else 0,j,s.extract j (AG AA s j)⟩/\(Eu s j).2=AG AA s j:=by
 have e:=CN AA s j (by omega);have f:Eu s j=(⟨2,j,s.extract j (AG AA s j)⟩,AG AA s j):=by unfold Eu;rw[E8 h,d];rfl
 unfold BO;rw[c,lS h,f];refine⟨?_,rfl⟩;simp only[Ji,JC,size_extract e,if_true];by_cases b:AG AA s j-j<=4<;>simp[b]
def V2(h:j<s.size)(a:k<=s.size)(b:j<k)(c:UInt8):Ej (s.extract j k) 0 c=(s[j]==c):=by
 unfold Ej;rw[dif_pos (by rw[size_extract a];omega)];simp[ByteArray.getElem_extract]
def FD(i:Ae s n=j)(h:j<s.size)(k:AA s[j]=K)(b:Ap s[j]=Cm):
  BO s n=⟨if 3<AG Ap s j-j\/(s[j]=48/\1<AG Ap s j-j)then 0 else 3,j,s.extract j (AG Ap s j)⟩/\(Eu s j).2=AG Ap s j:=by
 have c:=CN Ap s j (by omega);have f:j<AG Ap s j:=by rw[Ct _ _ _ h b];have:=Cw Ap s (j+1);omega
 have l:Eu s j=(⟨3,j,s.extract j (AG Ap s j)⟩,AG Ap s j):=by unfold Eu;rw[E8 h,k,b];rfl
 unfold BO;rw[i,lS h,l];refine⟨?_,rfl⟩;have e:JC ⟨3,j,s.extract j (AG Ap s j)⟩= !decide (3<AG Ap s j-j\/(s[j]=48/\1<AG Ap s j-j)):=by
  unfold JC;simp only[size_extract c,V2 h c f];rw[lO (by decide),lS trivial,m9];simp only[ni,mi,n7,nW,nV,mq,ne_eq];by_cases d:s[j]=48
  .simp only[d,not_true_eq_false,true_and,and_false,or_false];omega
  .simp only[d,not_false_eq_true,false_and,and_true,or_false];omega
 unfold Ji;rw[e];by_cases g:3<AG Ap s j-j\/(s[j]=48/\1<AG Ap s j-j)<;>simp[g]
def Kt{a j:Nat}(c:Ae s a=j)(h:j<s.size)(d:s[j]=58)(b:Ej s (j+1) 45=Cm):
  BO s a=⟨5,j,iO⟩/\(Eu s j).2=j+2:=by
 have e:Eu s j=(⟨5,j,iO⟩,j+2):=by unfold Eu;rw[E8 h,d,b];rfl
 unfold BO;rw[c,lS h,e];exact⟨rfl,rfl⟩
def GW{a j:Nat}(f:Ae s a=j)(h:j<s.size)(c:AA s[j]=K)(b:Ap s[j]=K)(l:¬(s[j]=58/\Ej s (j+1) 45=Cm))(d:s[j].toNat<128):
  BO s a=⟨EV (s[j].toNat:Int),j,⟨#[s[j]]⟩⟩/\(Eu s j).2=j+1:=by
 have i:¬(97<=s[j].toNat/\s[j].toNat<=122):=λh=>by rw[(C3 _).2 h]at c;cases c
 have g:¬(48<=s[j].toNat/\s[j].toNat<=57):=λh=>by rw[(CA _).2 h]at b;cases b
 have k:Eu s j=(⟨EV (s[j].toNat:Int),j,⟨#[s[j]]⟩⟩,j+1):=by
  unfold Eu;rw[E8 h,c,b,ot s j h d];simp only[lJ,if_false];rw[lO l];simp only[CF,GB _ d]
 unfold BO;rw[f,lS h,k];refine⟨?_,rfl⟩;unfold Ji JC;simp only;rcases Sc i g with e|e|e<;>simp[e]
def Ho(f:Ae s n=j)(h:j<s.size)(c:128<=s[j].toNat):(BO s n).kind=0/\(BO s n).place=j:=by
 have g:AA s[j]=K:=by cases b:AA s[j] with|false=>rfl|true=>have:=(C3 _).1 b;omega
 have d:Ap s[j]=K:=by cases b:Ap s[j] with|false=>rfl|true=>have:=(CA _).1 b;omega
 have i:¬(s[j]=58/\Ej s (j+1) 45=Cm):=λb=>by rw[b.1]at c;simp at c
 have k:=(pT s j h c).1;have e:EV ((Utf8.decode s j).1:Int)=0:=by unfold EV;rw[lO (by omega),lO (by omega),lO (by omega),lO (by omega)]
 unfold BO Eu;rw[f,lS h,E8 h,g,d];simp only[lJ,if_false];rw[lO i];simp[CF,Ji,JC,e]
def DP(d:n<=s.size):(BO s n).place=Ae s n:=by
 obtain⟨j,b⟩:=QP (Ae s n);have f:=BD s n d;by_cases h:j<s.size
 .by_cases e:s[j].toNat<128
  .cases hl:AA s[j] with
   |true=>rw[(Hn b h hl).1,b]
   |false=>
    cases hd:Ap s[j] with
    |true=>rw[(FD b h hl hd).1,b]
    |false=>
     by_cases c:s[j]=58/\Ej s (j+1) 45=Cm
     .rw[(Kt b h c.1 c.2).1,b]
     .rw[(GW b h hl hd c e).1,b]
  .rw[(Ho b h (by omega)).2,b]
 .rw[Iy (by omega)];simp only[Fe];omega
def Fm:QC UInt8:=[46,44,33,61,35,60,40,41]
def T6(h:g∈Fm):g.toNat<128/\AA g=K/\Ap g=K/\g≠58/\EV (g.toNat:Int)=5/\Dx g=K:=by
 simp only[Fm,lI,mQ,or_false]at h;rcases h with rfl|rfl|rfl|rfl|rfl|rfl|rfl|rfl<;>decide
def TG(x c:UInt8):(((⟨#[x]⟩:bC).toList==(⟨#[c]⟩:bC).toList))=(x==c):=by
 have e:∀y:UInt8,(⟨#[y]⟩:bC).toList=[y]:=λy=>by rw[ma]
 rw[e,e];simp
def Ez{a:Nat}{c:UInt8}(o:c∈Fm):BY (BO s a) ⟨#[c]⟩=Ej s (Ae s a) c:=by
 obtain⟨j,d⟩:=QP (Ae s a);obtain⟨s1,s2,k,m,q,_⟩:=T6 o;rw[d];unfold BY;by_cases h:j<s.size
 .have i:Ej s j c=(s[j]==c):=by simp[Ej,h]
  rw[i];have f:∀x:UInt8,(AA x=Cm\/Ap x=Cm\/128<=x.toNat)->(x==c)=K:=by
   intro x b;simp only[mq,ne_eq];rintro rfl;rcases b with b|b|b
   .rw[s2]at b;cases b
   .rw[k]at b;cases b
   .omega
  by_cases n:s[j].toNat<128
  .cases hl:AA s[j] with
   |true=>
    rw[(Hn d h hl).1,f _ (Hd hl)];by_cases g:AG AA s j-j<=4<;>simp[g]
   |false=>
    cases hd:Ap s[j] with
    |true=>
     rw[(FD d h hl hd).1,f _ (Hf (Hd hd))];by_cases g:3<AG Ap s j-j\/(s[j]=48/\1<AG Ap s j-j)<;>simp[g]
    |false=>
     by_cases e:s[j]=58/\Ej s (j+1) 45=Cm
     .rw[(Kt d h e.1 e.2).1];(have l:(s[j]==c)=K:=by simp[e.1,Ne.symm m]);have p:(iO.toList==(⟨#[c]⟩:bC).toList)=K:=by
       rw[show iO.toList=[58,45] from by rw[ma];rfl,show(⟨#[c]⟩:bC).toList=[c] from by rw[ma]]
       simp
      rw[l,p,oG]
     .rw[(GW d h hl hd e n).1];simp only[TG];cases he:(s[j]==c)with
      |false=>simp
      |true=>
       (have:s[j]=c:=by simpa using he);rw[this,q];rfl
  .have:=Ho d h (by omega);rw[this.1,f _ (Hf (Hf (by omega)))];rfl
 .rw[Iy (by omega)];simp[Fe,Ej,h]
def At.take{e:QC Bf}{g a:Nat}{c:UInt8}(h:At s e g a)(l:c∈Fm)(f:Ej s (Ae s a) c=Cm):At s e (g+1) (Ae s a+1)/\Ae s a+1<=s.size:=by
 obtain⟨s1,s2,i,j,m,_⟩:=T6 l;have d:=F4 f;have b:s[Ae s a]=c:=by simpa[Ej,d] using f
 have:=h.next rfl d;rw[(GW (a:=a) rfl d (by rw[b];exact s2) (by rw[b];exact i) (by rw[b];exact λk=>j k.1) (by rw[b];exact s1)).2]at this;exact⟨this,by omega⟩
def PR{α β:Type}(R:α->β->Prop)(s:bC)(ms:QC Bf):Except Int (α×Nat)->β×Nat×Bool->Prop
 | .ok (x,n),(y,a,bd)=>bd=K/\R x y/\At s ms n a/\a<=s.size
 | .error p,(_,a,bd)=>bd=Cm/\p=(a:Int)
def ct(t:AF):AY:=⟨(t.v.toNat:Int),D4 t.s⟩
def JO(h:j<s.size)(a:k<=s.size)(b:j<k):∃c:0<(s.extract j k).size,(s.extract j k)[0]=s[j]:=
 ⟨by rw[size_extract a];omega,by simp[ByteArray.getElem_extract]⟩
def Uz(c:UInt8)(h:c.toNat<128):Du ⟨#[c]⟩ 0 0=(c.toNat:Int):=by
 have a:(0:Nat)<(⟨#[c]⟩:bC).size:=Nat.zero_lt_one;rw[L6 0 a];have b:=ot ⟨#[c]⟩ 0 a h;rw[b];unfold Du;rw[dif_neg (λd=>absurd d.1 (show¬(0+1<1)from by decide))];rfl
theorem Va{u:QC Bf}(h:At s u n m)(E:m<=s.size):PR (λt F=>t=ct F) s u (Gc (Au u n) n) (AM s m K):=by
 obtain⟨j,c⟩:=QP (Ae s m);have P:=BD s m E;rw[h.head];unfold AM Gc;simp only[lJ,if_false];by_cases b:j<s.size
 .rw[dif_pos (by rw[c];exact b)];simp only[c];have p:=h.next c b;by_cases y:s[j].toNat<128
  .cases f:AA s[j] with
   |true=>
    have L:=(C3 _).1 f;have g:Do s[j]=K:=by cases d:Do s[j] with|false=>rfl|true=>have:=(Fz _).1 d;omega
    have e:Ap s[j]=K:=by cases d:Ap s[j] with|false=>rfl|true=>have:=(CA _).1 d;omega
    obtain⟨l,k⟩:=Hn c b f;rw[k]at p;(have D:Ae s j=j:=by rw[<-c];exact Cz s m);(have v:j<AG AA s j:=by rw[Ct _ _ _ b f];have:=Cw AA s (j+1);omega);have o:=CN AA s j (by omega);rw[l,g,e];simp only[lJ,if_false,m4,if_true];by_cases i:AG AA s j-j<=4
    .rw[Li D rfl (by omega)];simp only[i,if_true];obtain⟨A,q⟩:=JO b o v;refine⟨rfl,?_,p,o⟩;unfold ct;simp only;rw[<-Zh A (by rw[q];omega)];rfl
    .rw[EC D rfl (by omega)];simp only[i,if_false];exact⟨rfl,rfl⟩
   |false=>
    cases e:Ap s[j] with
    |true=>
     have N:=(CA _).1 e;have g:Do s[j]=K:=by cases d:Do s[j] with|false=>rfl|true=>have:=(Fz _).1 d;omega
     obtain⟨l,k⟩:=FD c b f e;rw[k]at p;have o:=CN Ap s j (by omega);rw[l,g];simp only[lJ,if_false,oh];by_cases i:3<AG Ap s j-j\/(s[j]=48/\1<AG Ap s j-j)
     .rw[lS i,lS i];exact⟨rfl,rfl⟩
     .rw[lO i,lO i];(have v:j<AG Ap s j:=by rw[Ct _ _ _ b e];have:=Cw Ap s (j+1);omega);obtain⟨A,q⟩:=JO b o v;have C:=size_extract (s:=s) (j:=j) o;(have M:s[j].toNat=48->s[j]=48:=λh=>nh.1 h);refine⟨rfl,?_,p,o⟩;unfold ct;simp only;rw[<-cc A (by rw[q];omega) (by rw[q];omega) (by rw[C];omega) (λh=>by rw[q]at h;have H:=M h;have B:¬1<AG Ap s j-j:=λB=>i (Hf ⟨H,B⟩);rw[C];omega)];rfl
    |false=>
     cases g:Do s[j] with
     |true=>
      have w:=(Fz _).1 g;(have r:¬(s[j]=58/\Ej s (j+1) 45=Cm):=λd=>by rw[d.1]at w;simp at w);obtain⟨l,k⟩:=GW c b f e r y;rw[k]at p;(have I:EV (s[j].toNat:Int)=4:=by unfold EV;rw[lO (by omega),lO (by omega),lS (by omega)]);rw[l,I];simp only[if_true];refine⟨rfl,?_,p,by omega⟩;rw[Uz _ y];rfl
     |false=>
      have z:Bc s j K=(ND,j,Cm):=EC (by rw[<-c];exact Cz s m) (Ft _ _ _ b f) (Hd rfl);(have w:¬(65<=s[j].toNat/\s[j].toNat<=90):=λh=>by rw[(Fz _).2 h]at g;cases g);(have L:¬(97<=s[j].toNat/\s[j].toNat<=122):=λh=>by rw[(C3 _).2 h]at f;cases f);(have N:¬(48<=s[j].toNat/\s[j].toNat<=57):=λh=>by rw[(CA _).2 h]at e;cases e);simp only[lJ,if_false,m4,if_true,z];(have G:(BO s m).place=j:=by rw[DP E,c]);have x:(BO s m).kind≠2/\(BO s m).kind≠3/\(BO s m).kind≠4:=by
       by_cases r:s[j]=58/\Ej s (j+1) 45=Cm
       .rw[(Kt c b r.1 r.2).1];simp
       .rw[(GW c b f e r y).1];unfold EV;rw[lO (by omega),lO (by omega),lO (by omega)];split<;>simp
      simp only[nu,x.1,x.2.1,x.2.2,pU,ni,or_self,if_false,G];exact⟨rfl,rfl⟩
  .have f:AA s[j]=K:=by cases d:AA s[j] with|false=>rfl|true=>have:=(C3 _).1 d;omega
   have e:Ap s[j]=K:=by cases d:Ap s[j] with|false=>rfl|true=>have:=(CA _).1 d;omega
   have g:Do s[j]=K:=by cases d:Do s[j] with|false=>rfl|true=>have:=(Fz _).1 d;omega
   have z:Bc s j K=(ND,j,Cm):=EC (by rw[<-c];exact Cz s m) (Ft _ _ _ b f) (Hd rfl);obtain⟨l,k⟩:=Ho c b (by omega);rw[g,e];simp only[lJ,if_false,m4,if_true,z,l,k];exact⟨rfl,rfl⟩
 .rw[dif_neg (by rw[c];exact b),Iy (by omega)];simp only[Fe];refine⟨rfl,?_⟩;rw[c];show(s.size:Int)=(j:Int);omega
def Dw(t:AF):Prop:=(t.v=0/\A6 t.s)\/(65<=t.v.toNat/\t.v.toNat<=90/\t.s=ND)
def A6.size{s:bC}(h:A6 s):s.size≠0:=by
 rw[AP];rcases h with⟨c,r,h,_⟩|h
 .rw[h];simp
 .rcases Fs h with⟨c,e,_⟩|⟨c,d,e,_⟩|⟨c,d,f,e,_⟩<;>rw[e]<;>simp
def Dw.cI{t:AF}(h:Dw t):Bs t:=by
 rcases h with⟨a,b⟩|h
 .exact Hd ⟨a,b.size⟩
 .exact Hf ⟨h.1,h.2.1⟩
def JL(h:j<s.size)(a:k<=s.size)(f:j<k):∃r,(s.extract j k).toList=s[j]::r/\Z r+1=k-j:=by
 obtain⟨d,e⟩:=JO h a f;obtain⟨r,c,b⟩:=IU _ d;refine⟨r,by rw[c,e],?_⟩;rw[c,JT _ _ _ a]at b;simpa using b
def Lg{p:UInt8->Bool}(h:AG p s i≠i):∃a:i<s.size,p s[i]=Cm:=by
 by_cases a:i<s.size
 .refine⟨a,?_⟩;cases hp:p s[i] with
  |true=>rfl
  |false=>exact absurd (Ft p s i a hp) h
 .exact absurd (GA p s i a) h
def Ps{p:UInt8->Bool}(h:AG p s i≠i):AG p s i<=s.size:=by
 obtain⟨a,_⟩:=Lg h;exact CN p s i (by omega)
def Pk(h:(Bc s n K).2.2=K):A6 (Bc s n K).1:=by
 unfold Bc at h⊢;rw[lO (by simp)]at h⊢;by_cases a:AG AA s (Ae s n)=Ae s n\/4<AG AA s (Ae s n)-Ae s n
 .rw[lS a]at h;cases h
 .rw[lO a];have b:AG AA s (Ae s n)≠Ae s n:=λe=>a (Hd e)
  obtain⟨d,c⟩:=Lg b;have f:=Cw AA s (Ae s n);obtain⟨r,e,_⟩:=JL d (Ps b) (by omega:Ae s n<AG AA s (Ae s n));exact Hd ⟨_,r,e,(C3 _).1 c⟩
def UK(i:j<s.size)(g:Ap s[j]=Cm)(h:¬(3<AG Ap s j-j\/(s[j]=48/\1<AG Ap s j-j))):A6 (s.extract j (AG Ap s j)):=by
 have l:=Cw Ap s (j+1);rw[<-Ct Ap s j i g]at l;have n:=CN Ap s j (by omega);obtain⟨r,e,d⟩:=JL i n (by omega:j<AG Ap s j);have f:=(CA _).1 g;have p:¬3<AG Ap s j-j:=λx=>h (Hd x)
 have k:1<AG Ap s j-j->49<=s[j].toNat:=by
  intro o;have m:s[j]≠48:=λx=>h (Hf ⟨x,o⟩)
  have:s[j].toNat≠48:=λx=>m (nh.1 (by rw[x];rfl))
  omega
 refine Hf ?_;rw[e]
 match r,d with
 |[],_=>simp only[fc];exact nP f
 |[a],d=>simp only[fc];exact nP ⟨k (by simp at d;omega),f.2⟩
 |[a,b],d=>simp only[fc];exact nP ⟨k (by simp at d;omega),f.2⟩
 |a::b::c::r,d=>simp at d;omega
def Kf(h:(AM s n K).2.2=K):Dw (AM s n K).1:=by
 unfold AM at h⊢;rw[lO (by simp)]at h⊢;by_cases a:Ae s n<s.size
 .rw[dif_pos a]at h⊢;cases hu:Do s[Ae s n] with
  |true=>
   rw[lS rfl];exact Hf ⟨((Fz _).1 hu).1,((Fz _).1 hu).2,rfl⟩
  |false=>
   rw[hu,lO (by simp)]at h;rw[lO (by simp)];cases hd:Ap s[Ae s n] with
   |false=>
    rw[hd,m4,lS rfl]at h;rw[m4,lS rfl];exact Hd ⟨rfl,Pk h⟩
   |true=>
    rw[hd,oh,lO (by simp)]at h;rw[oh,lO (by simp)];by_cases b:3<AG Ap s (Ae s n)-Ae s n\/(s[Ae s n]=48/\1<AG Ap s (Ae s n)-Ae s n)
    .rw[lS b]at h;cases h
    .rw[lO b];exact Hd ⟨rfl,UK a hd b⟩
 .rw[dif_neg a]at h;cases h
def YE{s:bC}{b:Nat}(h:(Cb s b).2.2=K):∀t∈(Cb s b).1,Dw t:=by
 fun_induction Cb s b with
 |case1 b hc _ _ ih=>
  intro t a;have c:(AM s b K).2.2=K:=by
   have:=hc.1;rw[mi]at this;simpa using this.1
  rcases lI.1 a with rfl|a
  .exact Kf c
  .exact ih h t a
 |case2 b hc=>
  intro t a;rw[lG]at a;subst a;exact Kf h
def Hz(h:(Bz s n B g).2=K):B=K:=by
 unfold Bz at h;cases B with
 |false=>rfl
 |true=>simp at h
structure Mp(A:C8):Prop where
 name:A6 A.name
 args:∀t∈A.args,Dw t
def M4(h:(A3 s n K).2.2=K):Mp (A3 s n K).1:=by
 unfold A3 at h⊢;simp only at h⊢;have a:=Hz h;have b:(Bz s (Bc s (AQ s n K) K).2.1 (Bc s (AQ s n K) K).2.2 40).2=K:=by
  cases hm:(Bz s (Bc s (AQ s n K) K).2.1 (Bc s (AQ s n K) K).2.2 40).2 with
  |false=>rfl
  |true=>unfold Et at a;rw[hm,lS rfl]at a;cases a
 refine⟨Pk (Hz b),?_⟩;unfold Et at a⊢;rw[b,lO (by simp)]at a⊢;exact YE a
def Dk(x:Bp):Prop:=if(x.kind==97||x.kind==33)=Cm then Mp x.A else Dw x.L/\Dw x.R/\(x.kind=61\/x.kind=35\/x.kind=60)
def O3(h:(Dd s n).2.2=K):Dk (Dd s n).1:=by
 unfold Dd at h⊢;simp only at h⊢;cases h33:Ej s (Ae s n) 33 with
 |true=>
  rw[h33,lS rfl]at h;rw[lS rfl];unfold Dk;rw[lS (by rfl)];exact M4 h
 |false=>
  rw[h33,lO (by simp)]at h;rw[lO (by simp)];cases ho:(Ey s (Ae s n)&&Ka s (Ae s n))with
  |true=>
   rw[ho,lS rfl]at h;rw[lS rfl];unfold Dk;rw[lS (by rfl)];exact M4 h
  |false=>
   rw[ho,lO (by simp)]at h;rw[lO (by simp)];unfold IF at h⊢;generalize hg:AQ s (AM s (Ae s n) K).2.1 (AM s (Ae s n) K).2.2=a3 at h⊢;cases hc:(!(AM s (Ae s n) K).2.2&&(Ej s a3 61||Ej s a3 35||Ej s a3 60))with
   |false=>rw[hc,lO (by simp)]at h;cases h
   |true=>
    rw[hc,lS rfl]at h;rw[lS rfl];rw[mi]at hc;(have d:(AM s (Ae s n) K).2.2=K:=by simpa using hc.1);have c:CT s a3=61\/CT s a3=35\/CT s a3=60:=by
     have a:=hc.2;unfold CT;by_cases b:a3<s.size
     .rw[dif_pos b];unfold Ej at a;rw[dif_pos b,dif_pos b,dif_pos b]at a;simp only[ni,nu]at a;rcases a with(a|a)|a
      .exact Hd a
      .exact Hf (Hd a)
      .exact Hf (Hf a)
     .unfold Ej at a;rw[dif_neg b,dif_neg b,dif_neg b]at a;simp at a
    unfold Dk;(have f:(CT s a3==97||CT s a3==33)=K:=by rcases c with e|e|e<;>rw[e]<;>rfl);rw[lO (by rw[f];simp)];exact⟨Kf d,Kf h,c⟩
def MA{s:bC}{b:Nat}(h:(A4 s b).2.2=K):∀x∈(A4 s b).1,Dk x:=by
 fun_induction A4 s b with
 |case1 b hc _ _ ih=>
  intro t a;have c:(Dd s b).2.2=K:=by
   have:=hc.1;rw[mi]at this;simpa using this.1
  rcases lI.1 a with rfl|a
  .exact O3 c
  .exact ih h t a
 |case2 b hc=>
  intro t a;rw[lG]at a;subst a;exact O3 h
structure Si(c:CG):Prop where
 head:Mp c.head
 body:∀x∈c.body,Dk x
def J5(h:(DL s n B).2.2=K):B=K/\∀x∈(DL s n B).1,Dk x:=by
 unfold DL at h⊢;cases hc:(!B&&Ej s (AQ s n B) 58)with
 |true=>
  rw[hc,lS rfl]at h;rw[lS rfl];have c:B=K:=by
   rw[mi]at hc;simpa using hc.1
  refine⟨c,?_⟩;cases h45:Ej s (B7 s n B 58) 45 with
  |true=>
   rw[h45,lS rfl]at h;rw[lS rfl];exact MA h
  |false=>rw[h45,lO (by simp)]at h;cases h
 |false=>
  rw[hc,lO (by simp)]at h;rw[lO (by simp)];exact⟨h,λx b=>by cases b⟩
def Ei(h:(Ao s n).2.2=K):Si (Ao s n).1:=by
 unfold Ao at h⊢;simp only at h⊢;have a:=J5 (Hz h);exact⟨M4 a.1,a.2⟩
def Sx{s:bC}{b:Nat}(h:(An s b).2.2=K):∀c∈(An s b).1,Si c:=by
 fun_induction An s b with
 |case1 b ha hc ih=>
  intro c a;rcases lI.1 a with rfl|a
  .exact Ei hc.1
  .exact ih h c a
 |case2 b ha hc=>
  intro c a;rw[lG]at a;subst a;exact Ei h
 |case3 b ha=>intro c a;cases a
def LX{a:QC A7}(h:(An s n).2.2=K)(e:a.map A7.erase=(An s n).1):
  ∀c∈a,Mp c.head/\∀x∈Am c,Dk x:=by
 intro c d;have b:c.erase∈(An s n).1:=by rw[<-e];exact lZ d
 have:=Sx h _ b;exact⟨this.head,this.body⟩
def YW{a:QC A7}(h:(An s n).2.2=K)(e:a.map A7.erase=(An s n).1):
  ∀c∈a,∀x∈Am c,(x.kind==97)=Cm->∀t∈x.A.args,Bs t:=by
 intro c f x g b t d;have:=(LX h e c f).2 x g;unfold Dk at this;rw[b,oR,lS rfl]at this;exact(this.args t d).cI
theorem Tryz.zq:(Tryz.prog.info? 189).map (λi=>(i.zero,i.size,i.bytes))=V (V (.agg #[X J 0,O ⟨#[]⟩,U Y 0 0,U Y 0 0]),4,72):=by kernel_rfl
def cS(r:Int):EV r≠1:=by
 unfold EV;split
 .simp
 .split
  .simp
  .split
   .simp
   .split<;>simp
def W6(s:bC)(j:Nat)(h:j<s.size):(Eu s j).1.kind≠1/\(Eu s j).1.place=j/\(Eu s j).1.text.size<=s.size+4:=by
 unfold Eu;split
 .have:=CN AA s j (by omega);refine⟨by simp,rfl,?_⟩;simp only[size_extract this];omega
 .split
  .have:=CN Ap s j (by omega);refine⟨by simp,rfl,?_⟩;simp only[size_extract this];omega
  .split
   .refine⟨by simp,rfl,?_⟩;show 2<=s.size+4;omega
   .refine⟨cS _,rfl,?_⟩;have:=Zs ((Utf8.decode s j).1:Int);simp only[CF];omega
def Vq(s:bC):∀(n a:Nat),s.size-a<=n->Z (Sm s a)<=s.size-a/\∀m∈Sm s a,m.kind≠1/\m.place<=s.size/\m.text.size<=s.size+4
 |n,a,hn=>by
  by_cases h:Ae s a<s.size
  .have d:=Ch s a;have f:=Ry s _ h;obtain⟨t1,t2,t3⟩:=W6 s _ h;rw[GF rfl h]
   match n with
   |0=>omega
   |n+1=>
    obtain⟨e,c⟩:=Vq s n (Eu s (Ae s a)).2 (by omega);refine⟨by simp only[lQ];omega,λm b=>?_⟩;rcases lI.1 b with rfl|b
    .exact⟨t1,by omega,t3⟩
    .exact c m b
  .rw[JG h];exact⟨by simp,λm b=>by simp at b⟩
def am(m:Bf):(Ji m).place=m.place/\(Ji m).text=m.text/\(m.kind≠1->(Ji m).kind≠1):=by
 unfold Ji;split
 .exact⟨rfl,rfl,λh=>h⟩
 .exact⟨rfl,rfl,λ_=>by simp⟩
def JE(s:bC):Z (Dt s)<=s.size+1/\0<Z (Dt s):=by
 rw[Kc];unfold Dn;have:=(Vq s _ 0 (lX _)).1;simp;omega
def S2(s:bC):∀m∈Dt s,m.place<=s.size/\m.text.size<=s.size+4:=by
 rw[Kc];unfold Dn;intro m a;rcases lV.1 a with a|a
 .obtain⟨b,d,rfl⟩:=lP.1 a;obtain⟨e,c,_⟩:=am b;obtain⟨_,f,g⟩:=(Vq s _ 0 (lX _)).2 b d;rw[e,c];exact⟨f,g⟩
 .simp at a;subst a;exact⟨lX _,lW _⟩
def aG(d:s.size<=300):Xw (Dt s):=by
 refine⟨λi h b=>?_,λi h=>?_⟩
 .by_cases c:i+1<Z (Dt s)
  .exact c
  .exfalso
   (have a:(Dt s).getLast?=V (Fe s):=by unfold Dt;simp);have:(Dt s)[i]?=V (Fe s):=by
    rw[List.getLast?_eq_getElem?]at a;rw[show i=Z (Dt s)-1 by omega];exact a
   rw[lN h]at this;simp only[lL]at this;rw[this]at b;cases b
 .have:=(S2 s _ (lE h)).2;omega
def Zk(a:s.size<=300)(i:Nat):(Au (Dt s) i).place<=1000000:=by
 by_cases h:i<Z (Dt s)
 .rw[<-Bn h];have:=(S2 s _ (lE h)).1;omega
 .unfold Au;rw[lT,List.getElem?_eq_none (by omega)];simp
structure DF where
 hp:Int
 hn:bC
 dx:QC AY
 hv:Hs
 bv:Hs
 bm:QC Lx
def DF.pc(c:DF):PC:=⟨c.hp,c.hn,c.dx,c.bm.map O0⟩
def Br(c:DF):QC Hs:=[X J c.hp,O c.hn,c.hv,c.bv]
structure PU(w:Hq)(base:Nat)(lv:Hs)(c:DF):Prop where
 at_:Kj w base c.hv c.bv c.dx c.bm
 zv:Cc c.hv lv
 zt:Cc c.bv lv
 zx:∀p∈c.bm,Cc p.2 lv
def PU.kept{M:QC Nat}{w w':Hq}{a:Nat}{b:Hs}{c:DF}(h:PU w a b c)(k:Ac M w w')(d:∀i,i∈M->i<a:=by simp):PU w' a b c:=
 ⟨h.at_.kept k d,h.zv,h.zt,h.zx⟩
def Ja{v a:Hs}(h:Mi w m T j v n y)(k:Ac a.ownBlock.toList w u)(d:Cc v a):Mi u m T j v n y:=
 Ai h k (λi c b=>d i c (by simpa using b))
def PU.zA{w f:Hq}{i:Nat}{d:Hs}{c:DF}{g n cap H:Nat}(h:PU w i d c)(k:Ac d.ownBlock.toList w f)(e:d.ownBlock=V g\/g=H)(b:w.heap.size<=H):PU f i (U (V ⟨g,0,Y⟩) n cap) c:=
 ⟨⟨Ja h.at_.head k h.zv,⟨Ja h.at_.body.row k h.zt,λp a=>⟨Ja (h.at_.body.each p a).1 k (h.zx p a),(h.at_.body.each p a).2⟩⟩⟩,
  Cc.zA h.zv h.at_.head e b,Cc.zA h.zt h.at_.body.row e b,λp a=>Cc.zA (h.zx p a) (h.at_.body.each p a).1 e b⟩
def O1{e h:TypeId}{v a:Hs}(g:Mi u w.heap.size e i v n y)(f:Mi w b h j a m x):Cc v a:=by
 intro k c d;have:=(g.lt k c).1;have:=(f.lt k d).2;omega
structure Gs(w:Hq)(base:Nat)(lv:Hs)(cs:QC DF):Prop where
 row:Mi w base 189 4 lv (Z cs) (cs.flatMap Br)
 each:∀c∈cs,PU w base lv c
def Gs.kept{M:QC Nat}{w w':Hq}{a:Nat}{e:Hs}{d:QC DF}(h:Gs w a e d)(k:Ac M w w')(b:∀i,i∈M->i<a:=by simp):Gs w' a e d:=
 ⟨Ad h.row k b,λc f=>(h.each c f).kept k b⟩
def Gs.base{w:Hq}{f base':Nat}{d:Hs}{b:QC DF}(h:Gs w f d b)(e:base'<=f):Gs w base' d b:=
 ⟨Al h.row e,λc a=>⟨(h.each c a).at_.base e,(h.each c a).zv,(h.each c a).zt,(h.each c a).zx⟩⟩
def Gs.nil(w:Hq)(b:Nat):Gs w b (U Y 0 0) []:=⟨mf _ _ _ _,λp a=>by simp at a⟩
def im(w:Hq)(e:Ending)(w':Hq):Except Int (QC PC)->Prop
 | .ok cs=>∃ad cp pcs,e=G3 (.tuple #[U ad (Z cs) cp,X J 0,No Cm])/\pcs.map DF.pc=cs/\Gs w' w.heap.size (U ad (Z cs) cp) pcs/\Ac [] w w'
 | .error p=>e=G3 (.tuple #[U Y 0 0,X J p,No K])/\Ac [] w w'
theorem Kb(s:bC)(w:Hq)(hs:s.size<=300):
  Calls prog 71 #[O s] w λe G=>im w e G (Dl (Dt s) 0 []):=by
 obtain⟨i0,KS,H6,K3,KD⟩:=mH Tryz.zq;have HO:=Ab (aG hs);have Ha:=Ab (Zk hs);have FB:=JE s;have EM:=Ab (ZP s w hs);obtain⟨R,hR⟩:=QP (Dl (Dt s) 0 []);rw[hR];have Bx:=Ab hR;clear hR;generalize Dt s=ms at HO Ha FB EM Bx;have LE:Z ms<=1000:=by omega
 go_enter func71,ntmps71;go_wp2_with fail
 refine EM.mono ?_;rintro e x ⟨mv,rfl,A0,k1⟩;clear EM;obtain⟨C,m,rfl⟩:=Ak A0;have FT:=Tc x [U C (Z ms) m,X J 0,X J 0] 203;have HC:=Al (lM A0 (Dj [U C (Z ms) m,X J 0,X J 0].toArray 203)) (lW _);have HD:(U C (Z ms) m).ownBlock≠V x.heap.size:=λe=>by have:=(A0.lt _ e).2;omega
 have HB:Cr (x.alloc (Dj [U C (Z ms) m,X J 0,X J 0].toArray 203)) x.heap.size (U C (Z ms) m) ms 0 0:=⟨FT,HC,HD,FB.2,by omega⟩;have HU:=k1.alloc (Dj [U C (Z ms) m,X J 0,X J 0].toArray 203);have I:=Ab HB;have CC:=Ab HU;have HZ:w.heap.size<=x.heap.size:=k1.size;have BA:(x.alloc (Dj [U C (Z ms) m,X J 0,X J 0].toArray 203)).heap.size=x.heap.size+1:=by simp
 clear FT HC HD HB HU A0 k1;go_wp2;change Code.wp _ _ _ _ (x.alloc (Dj [U C (Z ms) m,X J 0,X J 0].toArray 203));generalize x.alloc (Dj [U C (Z ms) m,X J 0,X J 0].toArray 203)=w2 at I CC BA⊢;obtain⟨b,HX⟩:=QP x.heap.size;rw[HX]at I HZ BA⊢;clear HX;obtain⟨g,M0,HN,_,_,_,_⟩:=I.cells;simp only[lB]at HN;obtain⟨rfl,_,rfl⟩:=HN;have HY:JR (∀k,b+1<=k->(U (V ⟨g,0,Y⟩) (Z ms) m).ownBlock≠V k):=λk y e=>by have:=(I.row.lt k e).2;omega
 go_loopg [2] (Z ms) (λgk o wr=>∃(j:Nat) (acc:QC DF) (z:Option Addr) (B:Nat),o=U z (Z acc) B/\gk=Z ms-j/\JR (Dl ms j (acc.map DF.pc)=R)/\JR (Cr wr b (U (V ⟨g,0,Y⟩) (Z ms) m) ms j 0)/\JR (Gs wr (b+1) (U z (Z acc) B) acc)/\JR (Ac [] w wr)/\b+1<=wr.heap.size/\Z acc<=j)
 case atStart=>exact⟨0,[],Y,0,rfl,rfl,Bx,I,Gs.nil _ _,CC,by omega,by simp⟩
 case round=>
  clear I Bx CC BA;obtain⟨j,acc,z,B,rfl,HS,N,HR,HP,HK,FA,LB⟩:=hrel;have HG:=Ab HS;clear HS;have S:=HR.lt;have MY:(j:Int)<(Z ms:Int):=by omega
  have K9:(0:Int)<=(j:Int):=by omega
  obtain⟨g',LC,he,b0,b1,_,hc⟩:=HR.cells;simp only[lB,lL,mu]at he;obtain⟨⟨rfl,_⟩,_,rfl⟩:=he;obtain⟨c0,_,_⟩:=hc j S;clear hc;rw[Bn S]at c0;obtain⟨P,AB⟩:=QP (Au ms j).kind;rw[AB]at c0;go_wp2_with fail
  go_region_held3 (λG=>Lc G ⟨b,0,Y⟩=V (U (V ⟨g,0,Y⟩) (Z ms) m)/\Lc G ⟨b,1,Y⟩=V (X J j)/\Lc G ⟨g,j*3,Y⟩=V (X J P)) (go_keep) (fail)
  rename_i JJ;clear JJ b0 b1 c0;cases y:(P==1)with
  |true=>
   (have H5:(P !=1)=K:=by simp[bne,y]);(have HF:JR (R=.ok (acc.map DF.pc)):=by show _=_;rw[<-Aa N];exact OT S (by rw[AB];exact y));clear y AB N;go_wp2;go_ret3;rw[HF.out];exact⟨z,B,acc,by simp,rfl,by simpa using(HP.kept (SF [] wr).drew).base (by omega),HK.drew⟩
  |false=>
   (have H5:(P !=1)=Cm:=by simp[bne,y]);(have AH:JR (((Au ms j).kind==1)=K):=by show _=_;rw[AB];exact y);clear y AB;(go_wp2_with fail);refine(V7 b (U (V ⟨g,0,Y⟩) (Z ms) m) ms j 0 _ (HR.bw (SF [] wr).drew) HO Ha).mono ?_;intro e v T;have D:=Ab (HP.kept (SF [] wr).drew);have W:=Ab (HK.drew);have H9:b+1<=wr.drew.heap.size:=FA;clear HR HP HK FA;generalize wr.drew=w5 at T D W H9;cases ht:CO ms j with
   |error q=>
    rw[ht]at T;obtain⟨n9,hp,hn,K2,n8,K1,IJ,n2,H1,rfl,Q,F⟩:=T;(have HF:JR (R=.error q):=by show _=_;rw[<-Aa N];exact Lb S AH ht);have H8:=Ab (W.trans' F (λi A=>Hf (by simp at A;omega)));(have d2:=λo=>(Q.dI.alloc o).cell 2);simp at d2;clear ht N AH Q F D W;simp only[Bi];(go_wp2_with fail);have LM:=d2 (Dj [X J hp,O hn,U K2 n8 K1,U IJ n2 H1].toArray 189)
    go_region_held3 (λG=>Lc G ⟨b,2,Y⟩=V (X J q)) (go_keep) (fail)
    rename_i H2;clear H2;go_wp2;go_ret3;rw[HF.out];exact⟨rfl,(H8.alloc _).drew⟩
   |ok r=>
    obtain⟨c,n1⟩:=r;rw[ht]at T;have K7:=Hb ht;obtain⟨u,f,l,h,M,rfl,HA,AT,Q,F⟩:=T;have HT:=Ab (Sb (acc:=acc.map DF.pc) S AH ht);clear ht AH;obtain⟨n,d,a,MN⟩:=c;simp only at HA AT;subst HA;have K6:=F.size;have ES:=Ad D.row F;(have HH:JR (∀q∈acc,PU v (b+1) (U z (Z acc) B) q):=λq E=>(D.each q E).kept F);have BS:JR (PU v (b+1) (U z (Z acc) B) ⟨n,d,a,U u (Z a) f,U l (Z (M.map O0)) h,M⟩):=by
     have B2:=AT.base (base':=w5.heap.size) (by omega);refine⟨AT.base (by omega),?_,?_,?_⟩
     .exact O1 B2.head D.row
     .exact O1 B2.body.row D.row
     .exact λp hp=>O1 (B2.body.each p hp).1 D.row
    have HQ:=Ab (W.trans' F (λi A=>Hf (by simp at A;omega)));have L:=Ab Q;have Mo:=Q.lt;clear AT Q F D W;generalize hnl:Z (M.map O0)=nl at BS;have HV:((v.alloc (Dj (D6 (Bi n d (U u (Z a) f) (U l nl h))) 189)).alloc (Dj (D6 (Bi n d (U u (Z a) f) (U l nl h))) 189)).heap[v.heap.size+1]?=V (Dj (D6 (Bi n d (U u (Z a) f) (U l nl h))) 189 (0,0)):=by
     have hh:=mo (v.alloc (Dj (D6 (Bi n d (U u (Z a) f) (U l nl h))) 189)) (Dj (D6 (Bi n d (U u (Z a) f) (U l nl h))) 189);rw[show(v.alloc (Dj (D6 (Bi n d (U u (Z a) f) (U l nl h))) 189)).heap.size=v.heap.size+1 from by simp]at hh
     exact hh
    have HI:=lM (lM ES (Dj (D6 (Bi n d (U u (Z a) f) (U l nl h))) 189)) (Dj (D6 (Bi n d (U u (Z a) f) (U l nl h))) 189);(have LS:Z acc<=1000:=by omega);have LL:=Ab hnl;clear hnl;simp only[Bi];go_wp2_with (at_builtin;refine me _ rfl (.tmp 35) (.tmp 37) _ rfl (b+1) 189 i0 _ 4 72 underlying66 KS H6 K3 KD rfl (by omega) (U z (Z acc) B) (Z acc) (acc.flatMap Br) rfl HI ⟨v.heap.size+1,0,Y⟩ 1 1 (Bi n d (U u (Z a) f) (U l nl h)) rfl rfl (mg (cs:=D6 (Bi n d (U u (Z a) f) (U l nl h))) (t:=189) (fr:=(0,0)) HV) (by simp[Value.oneCell',Bi]) (by omega) (by unfold maxLen;omega) (by omega) (by simp;omega) (v.heap.size+1+1) (by simp) ?_;intro g1 FF w9 HE FL A2 H3)
    have H:Ac (U z (Z acc) B).ownBlock.toList v w9:=(((SF _ v).alloc _).alloc _).grown FL (λk y=>Hd (by simp[y]));(have AR:∀i∈(U z (Z acc) B).ownBlock.toList,b+1<=i:=λi A=>(ES.lt i (by simpa using A)).1);have FO:Cr w9 b (U (V ⟨g,0,Y⟩) (Z ms) m) ms n1 0:=⟨L.dI.kept H (λhm=>by have:=AR b hm;omega),Ai L.row H (λi A hm=>by have:=AR i hm;exact absurd A (HY i this)),L.ap,L.lt,L.len⟩;have FP:Ac [] w w9:=HQ.trans' H (λi A=>Hf (by have:=AR i A;omega));have KA:JR (Gs w9 (b+1) (U (V ⟨g1,0,Y⟩) (Z acc+1) FF) (acc++[⟨n,d,a,U u (Z a) f,U l nl h,M⟩])):=by
     refine⟨by simpa[Br,Bi] using HE,?_⟩;intro q E;rcases lV.1 E with E|E
     .exact(HH q E).zA H A2 (by omega)
     .simp only[lG]at E;subst E;exact BS.zA H A2 (by omega)
    have IS:JR (Dl ms n1 ((acc++[(⟨n,d,a,U u (Z a) f,U l nl h,M⟩:DF)]).map DF.pc)=R):=by
     show _=_;rw[<-Aa N,Aa HT];simp[DF.pc]
    (have K5:b+1<=w9.heap.size:=by have:=H.size;omega);have H7:=Ab FO;have JA:=Ab FP;clear H AR FO FP FL A2 H3 HE HV HI ES HH BS HQ L N HT
    go_roundg (Z ms-n1)
    case measure=>have:=Aa HG;omega
    case rel=>exact⟨n1,acc++[⟨n,d,a,U u (Z a) f,U l nl h,M⟩],V ⟨g1,0,Y⟩,FF,by simp,rfl,IS,H7,by simpa using KA,JA,K5,by simp;omega⟩
def ZJ{d:QC Bf}(h:At s d n m)(t:m<=s.size)(c:Ae s m=j):
  (((Au d n).kind==2)=Cm/\∃g,Bc s j K=((Au d n).text,g,K)/\At s d (n+1) g/\g<=s.size)\/
  (((Au d n).kind==2)=K/\Bc s j K=(ND,j,Cm)):=by
 have e:Ae s j=j:=by rw[<-c];exact Cz s m
 rw[h.head];by_cases b:j<s.size
 .have k:=h.next c b;cases hl:AA s[j] with
  |true=>
   obtain⟨o,q⟩:=Hn c b hl;rw[q]at k;(have r:j<AG AA s j:=by rw[Ct _ _ _ b hl];have:=Cw AA s (j+1);omega);have l:=CN AA s j (by omega);rw[o];by_cases f:AG AA s j-j<=4
   .left;refine⟨by simp[f],_,Li e rfl (by omega),k,l⟩
   .right;exact⟨by simp[f],EC e rfl (by omega)⟩
  |false=>
   right;refine⟨?_,EC e (Ft _ _ _ b hl) (Hd rfl)⟩;(have u:¬(97<=s[j].toNat/\s[j].toNat<=122):=λh=>by rw[(C3 _).2 h]at hl;cases hl);by_cases p:s[j].toNat<128
   .cases hd:Ap s[j] with
    |true=>
     rw[(FD c b hl hd).1];by_cases f:3<AG Ap s j-j\/(s[j]=48/\1<AG Ap s j-j)<;>simp[f]
    |false=>
     by_cases i:s[j]=58/\Ej s (j+1) 45=Cm
     .rw[(Kt c b i.1 i.2).1];rfl
     .rw[(GW c b hl hd i p).1];simp only[mq,ne_eq,GH];omega
   .rw[(Ho c b (by omega)).1];rfl
 .right;rw[Iy (by omega)];exact⟨rfl,EC e (GA _ _ _ b) (Hd rfl)⟩
def N1(s:bC)(a:Nat)(c:UInt8):B7 s a Cm c=a:=by simp[B7,AQ]
def NJ(h:Ej s (Ae s n) g=Cm):B7 s n K g=Ae s n+1:=by simp[B7,AQ,h]
def Rl(h:Ej s (Ae s n) g=K):B7 s n K g=Ae s n:=by simp[B7,AQ,h]
def Gj(s:bC)(a:Nat)(c:UInt8):Bz s a Cm c=(a,Cm):=by simp[Bz,N1]
def M9(h:Ej s (Ae s n) g=Cm):Bz s n K g=(Ae s n+1,K):=by simp[Bz,NJ h,AQ,h]
def ON(h:Ej s (Ae s n) g=K):Bz s n K g=(Ae s n,Cm):=by simp[Bz,Rl h,AQ,h]
def ax{s:bC}{f:QC Bf}:∀(k d a:Nat) (i:QC AY),Z f-d<=k->At s f d a->a<=s.size->
  PR (λts (L:QC AF)=>ts=i++L.map ct) s f (GP f d i) ((Cb s a).1,Bz s (Cb s a).2.1 (Cb s a).2.2 41)
 |k,d,a,i,hk,h,ha=>by
  have x:=h.lt;have g:=Va h ha;obtain⟨l,b,v,j⟩:∃l b v,AM s a K=(l,b,v):=⟨_,_,_,rfl⟩;rw[j]at g;unfold GP;rw[dif_pos x];cases hM:Gc (Au f d) d with
  |error p=>
   rw[hM]at g;obtain⟨rfl,rfl⟩:=g;rw[MT j (by simp)];simp only[N1,Gj];exact⟨rfl,rfl⟩
  |ok r=>
   obtain⟨t,B⟩:=r;rw[hM]at g;have A:=Gk hM;subst A;obtain⟨rfl,rfl,u,w⟩:=g;simp only;have z:=Ez (s:=s) (a:=b) (c:=44) (by simp[Fm]);have y:=Ez (s:=s) (a:=b) (c:=41) (by simp[Fm]);rw[u.head,show IY=⟨#[44]⟩from rfl,show PY=⟨#[41]⟩from rfl,z,y];cases hc:Ej s (Ae s b) 44 with
   |true=>
    obtain⟨_,e⟩:=Rr j ha (by simp[AQ,hc]);rw[NJ hc]at e;obtain⟨q,o⟩:=u.take (by simp[Fm]) hc;rw[e];simp only[if_true]
    match k with
    |0=>omega
    |k+1=>
     have ih:=ax k (d+2) (Ae s b+1) (i++[ct l]) (by omega) q o
     revert ih
     generalize GP f (d+2) (i++[ct l])=X;intro ih
     match X,ih with
     | .ok (ts,n),ih=>exact⟨ih.1,by rw[ih.2.1];simp,ih.2.2⟩
     | .error p,ih=>exact ih
   |false=>
    rw[MT j (by simp[AQ,hc])];simp only[lJ,if_false,Rl hc];have m:Ae s (Ae s b)=Ae s b:=Cz s b;cases hcl:Ej s (Ae s b) 41 with
    |true=>
     obtain⟨q,o⟩:=u.take (by simp[Fm]) hcl;rw[M9 (by rw[m];exact hcl),m];simp only[if_true];exact⟨rfl,rfl,q,o⟩
    |false=>
     rw[ON (by rw[m];exact hcl),m,DP w];simp only[lJ,if_false];exact⟨rfl,rfl⟩
def U2{b:QC Bf}{d a:Nat}(h:At s b d a)(i:a<=s.size):
  PR (λx (A:C8)=>x=(A.at_,A.name,A.args.map ct)) s b (Fv b d) (A3 s a K):=by
 have r:AQ s a K=Ae s a:=rfl;have k:(Au b d).place=Ae s a:=by rw[h.head,DP i]
 unfold Fv A3;simp only[r];rcases ZJ h i rfl with⟨f,g,e,j,l⟩|⟨f,e⟩
 .rw[e,f];simp only[if_true];have m:=Ez (s:=s) (a:=g) (c:=40) (by simp[Fm]);rw[j.head,show TP=⟨#[40]⟩from rfl,m];cases hc:Ej s (Ae s g) 40 with
  |true=>
   obtain⟨o,q⟩:=j.take (by simp[Fm]) hc;rw[M9 hc];simp only[if_true,Et,lJ,if_false];have ih:=ax _ (d+2) (Ae s g+1) [] (lX _) o q
   revert ih
   generalize GP b (d+2) []=X;intro ih
   match X,ih with
   | .ok (ts,n),ih=>exact⟨ih.1,by rw[ih.2.1,k];simp,ih.2.2⟩
   | .error p,ih=>exact ih
  |false=>
   rw[ON hc,DP l];simp only[lJ,if_false,Et,if_true,Gj];exact⟨rfl,rfl⟩
 .rw[e,f,k];simp only[lJ,if_false,Gj,Et,if_true];exact⟨rfl,rfl⟩
def Gb(k:UInt8):Int:=if k=97 then 0 else if k=33 then 1 else if k=61 then 2 else if k=35 then 3 else 4
def LQ(x:Bp):PL:=⟨x.at_,Gb x.kind,x.A.at_,x.A.name,x.A.args.map ct,ct x.L,ct x.R⟩
def iX:ct Cl=AK:=rfl
def js{e:QC Bf}{d a j:Nat}(h:At s e d j)(A:j<=s.size)(S:Ae s j=j):
  PR (λx (y:Bp)=>Ku (.inr x)=LQ y/\x.atom=Ba) s e (Iz e d) (IF s j (AQ s (AM s j K).2.1 (AM s j K).2.2) (AM s j K).1 (AM s j K).2.2):=by
 have F:(Au e d).place=j:=by rw[h.head,DP A,S]
 have f:=Va h A;obtain⟨l,b,v,z⟩:∃l b v,AM s j K=(l,b,v):=⟨_,_,_,rfl⟩;rw[z]at f;rw[z];unfold Iz IF;cases hM:Gc (Au e d) d with
 |error p=>
  rw[hM]at f;obtain⟨rfl,rfl⟩:=f;simp only[oh,oH,lJ,if_false,Lr];exact⟨rfl,rfl⟩
 |ok r=>
  obtain⟨t,n1⟩:=r;rw[hM]at f;have G:=Gk hM;subst G;obtain⟨rfl,rfl,u,C⟩:=f;simp only;have H:=Ez (s:=s) (a:=b) (c:=61) (by simp[Fm]);have L:=Ez (s:=s) (a:=b) (c:=35) (by simp[Fm]);have N:=Ez (s:=s) (a:=b) (c:=60) (by simp[Fm]);have M:AQ s b K=Ae s b:=rfl;rw[u.head,M];unfold Od;rw[show kO=⟨#[61]⟩from rfl,show kL=⟨#[35]⟩from rfl,show kK=⟨#[60]⟩from rfl,H,L,N];have n:∀(c:UInt8) (m:Int),c∈Fm->Gb c=m->Ej s (Ae s b) c=Cm->CT s (Ae s b)=c/\
    PR (λx (y:Bp)=>Ku (.inr x)=LQ y/\x.atom=Ba) s e
     (match Gc (Au e (d+1+1)) (d+1+1)with| .error p=> .error p| .ok (r,n2)=> .ok (⟨(Au e d).place,m,Ba,ct l,r⟩,n2))
     (⟨c,Gp,l,(AM s (Ae s b+1) K).1,j⟩,(AM s (Ae s b+1) K).2):=by
   intro c m I T o;have q:=F4 o;refine⟨by rw[E8 q];simpa[Ej,q] using o,?_⟩;obtain⟨E,R⟩:=u.take I o;have k:=Va E R;obtain⟨t2,w,j5,B⟩:∃t2 w j5,AM s (Ae s b+1) K=(t2,w,j5):=⟨_,_,_,rfl⟩;rw[B]at k;rw[B];cases hM2:Gc (Au e (d+1+1)) (d+1+1)with
   |error p=>
    rw[hM2]at k;obtain⟨rfl,rfl⟩:=k;exact⟨rfl,rfl⟩
   |ok r=>
    obtain⟨t3,W⟩:=r;rw[hM2]at k;have P:=Gk hM2;subst P;obtain⟨rfl,rfl,Q,D⟩:=k;refine⟨rfl,⟨?_,rfl⟩,Q,D⟩;simp[Ku,LQ,T,F,Gp]
  cases h61:Ej s (Ae s b) 61 with
  |true=>
   obtain⟨g,i⟩:=n 61 2 (by simp[Fm]) rfl h61;rw[g];simp only[if_true,m4,oR,od];exact i
  |false=>
   cases h35:Ej s (Ae s b) 35 with
   |true=>
    obtain⟨g,i⟩:=n 35 3 (by simp[Fm]) rfl h35;rw[g];simp only[if_true,m4,oR,pG,od,lJ,if_false];exact i
   |false=>
    cases h60:Ej s (Ae s b) 60 with
    |true=>
     obtain⟨g,i⟩:=n 60 4 (by simp[Fm]) rfl h60;rw[g];simp only[if_true,m4,pG,od,lJ,if_false];exact i
    |false=>
     simp only[pU,oG,lJ,if_false,DP C];exact⟨rfl,rfl⟩
def jq{b:QC Bf}{d a:Nat}(h:At s b d a)(D:a<=s.size):
  PR (λx (y:Bp)=>Ku x=LQ y) s b (ID b d) (Dd s a):=by
 obtain⟨j,g⟩:=QP (Ae s a);have f:Ae s j=j:=by rw[<-g];exact Cz s a
 have o:j<=s.size:=by rw[<-g];exact BD s a D
 have l:At s b d j:=by rw[<-g];exact h.gap
 have G:(Au b d).place=j:=by rw[h.head,DP D,g]
 unfold ID Dd;simp only[g];have Q:=Ez (s:=s) (a:=a) (c:=33) (by simp[Fm]);rw[h.head,show Zo=⟨#[33]⟩from rfl,Q,g,<-h.head,G];cases h33:Ej s j 33 with
 |true=>
  obtain⟨w,B⟩:=l.take (c:=33) (by simp[Fm]) (by rw[f];exact h33);rw[f]at w B;simp only[if_true];have ih:=U2 w B;obtain⟨A,k,j5,t⟩:∃A k j5,A3 s (j+1) K=(A,k,j5):=⟨_,_,_,rfl⟩;rw[t]at ih⊢
  revert ih
  generalize Fv b (d+1)=X;intro ih
  match X,ih with
  | .ok ((p,n,ts),m),ih=>
   obtain⟨v,i,u⟩:=ih;refine⟨v,?_,u⟩;simp only[mA]at i;obtain⟨rfl,rfl,rfl⟩:=i;simp[Ku,LQ,Gb,iX]
  | .error p,ih=>exact ih
 |false=>
  simp only[lJ,if_false];have I:E9 b d=(Ey s j&&Ka s j):=by
   unfold E9;have F:=h.lt;have N:b[d]?=V (Au b d):=by
    unfold Au;rw[lT,lN F];rfl
   rw[N];rcases ZJ l o f with⟨q,L,e,z,R⟩|⟨q,e⟩
   .have H:=z.lt;have P:b[d+1]?=V (Au b (d+1)):=by
     unfold Au;rw[lT,lN H];rfl
    have M:=Ez (s:=s) (a:=L) (c:=40) (by simp[Fm]);have E:Ey s j=Cm:=by
     unfold Ey;by_cases r:j<s.size
     .rw[dif_pos r];cases hl:AA s[j] with
      |true=>rfl
      |false=>rw[EC f (Ft _ _ _ r hl) (Hd rfl)]at e;simp at e
     .rw[EC f (GA _ _ _ r) (Hd rfl)]at e;simp at e
    unfold Ka;rw[P,e,E];simp only[q,np,m4];rw[z.head,show TP=⟨#[40]⟩from rfl,M];rfl
   .unfold Ka;rw[e];simp only[oh,oH,oG];split
    .rename_i m T C S;simp only[lL]at C;rw[<-C,q,oH]
    .rfl
  rw[I];cases hop:(Ey s j&&Ka s j)with
  |true=>
   simp only[if_true];have ih:=U2 l o;obtain⟨A,k,j5,t⟩:∃A k j5,A3 s j K=(A,k,j5):=⟨_,_,_,rfl⟩;rw[t]at ih⊢
   revert ih
   generalize Fv b d=X;intro ih
   match X,ih with
   | .ok ((p,n,ts),m),ih=>
    obtain⟨v,i,u⟩:=ih;refine⟨v,?_,u⟩;simp only[mA]at i;obtain⟨rfl,rfl,rfl⟩:=i;simp[Ku,LQ,Gb,iX]
   | .error p,ih=>exact ih
  |false=>
   simp only[lJ,if_false];have ih:=js (a:=a) l o f
   revert ih
   generalize Iz b d=X;intro ih
   match X,ih with
   | .ok (c,m),ih=>exact⟨ih.1,ih.2.1.1,ih.2.2⟩
   | .error p,ih=>exact ih
def U7{s:bC}{ms:QC Bf}:∀(k i a:Nat) (g:QC PL),Z ms-i<=k->At s ms i a->a<=s.size->
  PR (λls (L:QC Bp)=>ls=g++L.map LQ) s ms (Fd ms i g) (A4 s a)
 |k,i,a,g,hk,h,ha=>by
  have o:=h.lt;have f:=jq h ha;obtain⟨d,b,m,j⟩:∃d b m,Dd s a=(d,b,m):=⟨_,_,_,rfl⟩;rw[j]at f;cases hM:ID ms i with
  |error p=>
   rw[hM]at f;obtain⟨rfl,rfl⟩:=f;rw[M5 j (by simp),IP o hM,N1];exact⟨rfl,rfl⟩
  |ok r=>
   obtain⟨t,q⟩:=r;rw[hM]at f;have A:=Jt hM;obtain⟨rfl,w,l,u⟩:=f;have z:Ku t=LQ d:=w;have x:=Ez (s:=s) (a:=b) (c:=44) (by simp[Fm]);rw[Oc o hM,l.head,show IY=⟨#[44]⟩from rfl,x,z];cases hc:Ej s (Ae s b) 44 with
   |true=>
    obtain⟨_,e⟩:=Q1 j ha (by simp[AQ,hc]);rw[NJ hc]at e;obtain⟨v,y⟩:=l.take (by simp[Fm]) hc;rw[e];simp only[if_true]
    match k with
    |0=>omega
    |k+1=>
     have ih:=U7 k (q+1) (Ae s b+1) (g++[LQ d]) (by omega) v y
     revert ih
     generalize Fd ms (q+1) (g++[LQ d])=X;intro ih
     match X,ih with
     | .ok (ts,n),ih=>exact⟨ih.1,by rw[ih.2.1];simp,ih.2.2⟩
     | .error p,ih=>exact ih
   |false=>
    rw[M5 j (by simp[AQ,hc]),Rl hc];simp only[lJ,if_false];exact⟨rfl,by simp,l.gap,BD s b u⟩
def gD(c:CG):PC:=⟨c.head.at_,c.head.name,c.head.args.map ct,c.body.map LQ⟩
def fO{b:QC Bf}{n a:Nat}{c:PC}{C:CG}(h:At s b n a)(d:a<=s.size)(i:c=gD C/\C.at_=C.head.at_):
  PR (λx (y:CG)=>x=gD y/\y.at_=y.head.at_) s b (Ov b n c) (C,Bz s a K 46):=by
 have f:=Ez (s:=s) (a:=a) (c:=46) (by simp[Fm]);unfold Ov;rw[h.head,show ah=⟨#[46]⟩from rfl,f,DP d];cases hd:Ej s (Ae s a) 46 with
 |true=>
  obtain⟨e,g⟩:=h.take (by simp[Fm]) hd;rw[M9 hd];exact⟨rfl,i,e,g⟩
 |false=>
  rw[ON hd];exact⟨rfl,rfl⟩
def jx(s:bC)(a:Nat):BY (BO s a) aM=(Ej s (Ae s a) 58&& !(Ej s (Ae s a+1) 45))/\BY (BO s a) iO=(Ej s (Ae s a) 58&&Ej s (Ae s a+1) 45):=by
 obtain⟨j,b⟩:=QP (Ae s a);rw[b];unfold BY;by_cases h:j<s.size
 .have o:Ej s j 58=(s[j]==58):=by simp[Ej,h]
  rw[o];by_cases c:s[j]=58/\Ej s (j+1) 45=Cm
  .rw[(Kt b h c.1 c.2).1,c.1,c.2];have k:(iO.toList==aM.toList)=K:=by
    rw[show iO.toList=[58,45] from by rw[ma];rfl,show aM.toList=[58] from by rw[ma];rfl]
    rfl
   (have n:(iO.toList==iO.toList)=Cm:=by simp);constructor
   .rw[k];rfl
   .rw[n];rfl
  .have i:∀x:UInt8,((⟨#[x]⟩:bC).toList==iO.toList)=K:=by
    intro x;rw[show iO.toList=[58,45] from by rw[ma];rfl,show(⟨#[x]⟩:bC).toList=[x] from by rw[ma]]
    simp
   by_cases f:s[j].toNat<128
   .cases hl:AA s[j] with
    |true=>
     (have:s[j]≠58:=λe=>by rw[e]at hl;cases hl);rw[(Hn b h hl).1];by_cases d:AG AA s j-j<=4<;>simp[d,this]
    |false=>
     cases hd:Ap s[j] with
     |true=>
      (have:s[j]≠58:=λe=>by rw[e]at hd;cases hd);rw[(FD b h hl hd).1];by_cases d:3<AG Ap s j-j\/(s[j]=48/\1<AG Ap s j-j)<;>simp[d,this]
     |false=>
      rw[(GW b h hl hd c f).1];rw[show aM=⟨#[58]⟩from rfl];simp only[TG,i,oG];cases he:(s[j]==58)with
      |false=>simp
      |true=>
       (have g:s[j]=58:=by simpa using he);have m:Ej s (j+1) 45=K:=by
        cases d:Ej s (j+1) 45 with
        |false=>rfl
        |true=>exact absurd ⟨g,d⟩ c
       rw[g,m];exact⟨rfl,rfl⟩
   .have:=Ho b h (by omega);have l:(s[j]==58)=K:=by
     simp only[mq,ne_eq];intro e;rw[e]at f;simp at f
    rw[this.1,l];exact⟨rfl,rfl⟩
 .rw[Iy (by omega)];simp[Fe,Ej,h]
def bY{d:QC Bf}{o a:Nat}(h:At s d o a)(R:a<=s.size):
  PR (λx (y:CG)=>x=gD y/\y.at_=y.head.at_) s d (CO d o) (Ao s a):=by
 have F:=h.gap;have Q:=BD s a R;have M:Ae s (Ae s a)=Ae s a:=Cz s a;have e:=U2 F Q;obtain⟨A,b,v,l⟩:∃A b v,A3 s (Ae s a) K=(A,b,v):=⟨_,_,_,rfl⟩;have t:A.at_=Ae s a:=by
  have:(A3 s (Ae s a) K).1.at_=Ae s a:=by
   unfold A3;simp only;show Ae s (Ae s a)=Ae s a;exact M
  rw[l]at this;exact this
 rw[l]at e;unfold CO Ao;simp only[l];cases hM:Fv d o with
 |error p=>
  rw[hM]at e;obtain⟨rfl,rfl⟩:=e;simp only[DL,oh,oH,lJ,if_false,N1,Gj];exact⟨rfl,rfl⟩
 |ok r=>
  obtain⟨⟨p,n,ts⟩,m⟩:=r;rw[hM]at e;obtain⟨rfl,w,j,q⟩:=e;simp only[mA]at w;obtain⟨rfl,rfl,rfl⟩:=w;obtain⟨H,I⟩:=jx s b;have G:AQ s b K=Ae s b:=rfl;simp only;rw[j.head,H,I];unfold DL;rw[G];cases h58:Ej s (Ae s b) 58 with
  |false=>
   simp only[oH,lJ,if_false,oG,Rl h58];have:=fO (c:=⟨A.at_,A.name,A.args.map ct,[]⟩) (C:=⟨A,[],Ae s a⟩) j.gap (BD s b q) ⟨rfl,t.symm⟩;exact this
  |true=>
   simp only[m4,np,if_true,NJ h58];cases h45:Ej s (Ae s b+1) 45 with
   |false=>
    simp only[m4,if_true,lJ,if_false,Gj,DP q];exact⟨rfl,by simp⟩
   |true=>
    simp only[oh,if_true,lJ,if_false];have g:=F4 h58;(have E:s[Ae s b]=58:=by simpa[Ej,g] using h58);have z:=j.next rfl g;rw[(Kt (a:=b) rfl g E h45).2]at z;have W:=F4 h45;have f:=U7 _ (m+1) (Ae s b+2) [] (lX _) z (by omega);obtain⟨L,k,i,u⟩:∃L k i,A4 s (Ae s b+2)=(L,k,i):=⟨_,_,_,rfl⟩;rw[u]at f;have P:A4 s (Ae s b+1+1)=(L,k,i):=u;rw[P];cases hM3:Fd d (m+1) [] with
    |error p=>
     rw[hM3]at f;obtain⟨rfl,rfl⟩:=f;simp only[Gj];exact⟨rfl,rfl⟩
    |ok r=>
     obtain⟨T,S⟩:=r;rw[hM3]at f;obtain⟨rfl,B,N,D⟩:=f;simp only[mR]at B;subst B;exact fO (c:=⟨A.at_,A.name,A.args.map ct,L.map LQ⟩) (C:=⟨A,L,Ae s a⟩) N D ⟨rfl,t.symm⟩
def aL{s:bC}{d:QC Bf}:∀(k i a:Nat) (j:QC PC),Z d-i<=k->At s d i a->a<=s.size->Ae s a=a->
  match Dl d i j with
  | .ok cs=>(An s a).2.2=K/\cs=j++(An s a).1.map gD/\(∀c∈(An s a).1,c.at_=c.head.at_)
  | .error p=>(An s a).2.2=Cm/\p=((An s a).2.1:Int)
 |k,i,a,j,hk,h,ha,hg=>by
  have o:=h.lt;by_cases g:a<s.size
  .have m:((Au d i).kind==1)=K:=by
    rw[h.head];have l:=hg;by_cases z:s[a].toNat<128
    .cases hl:AA s[a] with
     |true=>
      rw[(Hn l g hl).1];by_cases q:AG AA s a-a<=4<;>simp[q]
     |false=>
      cases hd:Ap s[a] with
      |true=>
       rw[(FD l g hl hd).1];by_cases q:3<AG Ap s a-a\/(s[a]=48/\1<AG Ap s a-a)<;>simp[q]
      |false=>
       by_cases t:s[a]=58/\Ej s (a+1) 45=Cm
       .rw[(Kt l g t.1 t.2).1];rfl
       .rw[(GW l g hl hd t z).1];simp only[mq,ne_eq];(have A:¬(97<=s[a].toNat/\s[a].toNat<=122):=λh=>by rw[(C3 _).2 h]at hl;cases hl);(have D:¬(48<=s[a].toNat/\s[a].toNat<=57):=λh=>by rw[(CA _).2 h]at hd;cases hd);rcases Sc A D with e|e|e<;>simp[e]
    .rw[(Ho l g (by omega)).1];rfl
   have b:=bY h ha;obtain⟨C,f,u,v⟩:∃C f u,Ao s a=(C,f,u):=⟨_,_,_,rfl⟩;rw[v]at b;rw[Mj g v];cases hM:CO d i with
   |error p=>
    rw[hM]at b;obtain⟨rfl,rfl⟩:=b;rw[Lb o m hM];simp only[Fq,if_true,Lr];exact⟨trivial,trivial⟩
   |ok r=>
    obtain⟨c,n⟩:=r;have E:=Hb hM;rw[hM]at b;obtain⟨rfl,⟨rfl,x⟩,y,w⟩:=b;rw[Sb o m hM];simp only[Fq,lJ,if_false];have B:AQ s f K=Ae s f:=rfl;rw[B]
    match k with
    |0=>omega
    |k+1=>
     have ih:=aL k n (Ae s f) (j++[gD C]) (by omega) y.gap (BD s f w) (Cz s f)
     revert ih
     generalize Dl d n (j++[gD C])=X;intro ih
     match X,ih with
     | .ok cs,ih=>
      refine⟨ih.1,by rw[ih.2.1];simp,?_⟩;intro c b;rcases lI.1 b with rfl|b
      .exact x
      .exact ih.2.2 c b
     | .error p,ih=>exact ih
  ·(have m:((Au d i).kind==1)=Cm:=by rw[h.head,Iy (by omega)];rfl);rw[OT o m,Ni g];simp
theorem Wz(b:Nat)(B:Hs)(a:QC Bf)(c:Nat)(j:Int)(w:Hq)(h:Cr w b B a c j):
  Calls prog 134 #[Gi (V ⟨b,0,Y⟩)] w λe f=>e=G3 (No ((Au a c).kind==1))/\Cr f b B a c (if(Au a c).kind==1 then j else(Au a c).place)/\Ac [b] w f:=by
 have k:=h.lt;obtain⟨g,i,rfl,R,M,_,l⟩:=h.cells;obtain⟨C,_,_⟩:=l c k;clear l;rw[Bn k]at C;have p:=Ab h;have n:JR (a[c]'k=Au a c):=Bn k;have AO:(0:Int)<=(c:Int):=by omega
 have S:(c:Int)<(Z a:Int):=by omega
 generalize Au a c=m at C n⊢;clear h;cases hk:(m.kind==1)with
 |true=>
  go_enter func134,ntmps134;go_wp2_with fail
  go_quiet (fail)
  go_wp2;go_ret;exact⟨rfl,(Aa p).bw ((SF [] w).drewN _),(SF _ w).drewN _⟩
 |false=>
  go_enter func134,ntmps134;go_wp2_with fail
  have x:JR (∀d u,Cr d b (U (V ⟨g,0,Y⟩) (Z a) i) a c u->Lc d ⟨b,0,Y⟩=V (U (V ⟨g,0,Y⟩) (Z a) i)/\Lc d ⟨b,1,Y⟩=V (X J c)/\Lc d ⟨g,c*3,Y⟩=V (X J m.kind)):=by
   intro d u o;obtain⟨g',P,z,G,F,_,l⟩:=o.cells;obtain⟨q,_,_⟩:=l c k;simp only[lB,lL,mu]at z;obtain⟨⟨rfl,_⟩,_,rfl⟩:=z;rw[Aa n]at q;exact⟨G,F,q⟩
  have H:=Ab (Jy b (U (V ⟨g,0,Y⟩) (Z a) i) a c j w.drew ((Aa p).bw (SF [] w).drew) m (Aa n));have E:JR (∀d,Cr d b (U (V ⟨g,0,Y⟩) (Z a) i) a c j->Calls prog 160 #[Gi (V ⟨b,0,Y⟩),X J m.place] d λe f=>e=G3 (No K)/\Cr f b (U (V ⟨g,0,Y⟩) (Z a) i) a c m.place/\Ac [b] d f):=λd o=>FK b (U (V ⟨g,0,Y⟩) (Z a) i) a c j m.place d o
  go_region_held3 (λf=>Lc f ⟨b,0,Y⟩=V (U (V ⟨g,0,Y⟩) (Z a) i)/\Lc f ⟨b,1,Y⟩=V (X J c)/\Lc f ⟨g,c*3,Y⟩=V (X J m.kind)) (go_keep) ((first|(go_at_call 161;refine(Aa H).mono ?_;rintro e L ⟨rfl,A⟩;have v:=Ab ((SF [] w).drew.trans A);have t:=Ab ((Aa p).bw (Aa v));obtain⟨y0,Q,y2⟩:=Aa x L j (Aa t);clear A)|(go_at_call 160;refine(Aa E _ (Aa t)).mono ?_;rintro e D ⟨rfl,y,s⟩;have r:=Ab y;have I:=Ab (((Aa v).mono (N:=[b]) (by simp)).trans s);obtain⟨W,u1,T⟩:=Aa x D m.place (Aa r);clear y s)))
  go_wp2;go_ret;exact⟨rfl,Aa r,Aa I⟩
def FR(ms:QC Bf):Except Int (QC PL):=
 match Fd ms 0 [] with
 | .error p=> .error p
 | .ok (ls,nx)=>if(Au ms nx).kind==1 then .ok ls else .error (Au ms nx).place
def ep(w:Hq)(e:Ending)(w':Hq):Except Int (QC PL)->Prop
 | .ok ls=>∃ad cp bm,e=G3 (.tuple #[U ad (Z ls) cp,X J 0,No Cm])/\bm.map O0=ls/\Cd w' w.heap.size (U ad (Z ls) cp) bm/\Ac [] w w'
 | .error p=>e=G3 (.tuple #[U Y 0 0,X J p,No K])/\Ac [] w w'
theorem UM(s:bC)(w:Hq)(S:s.size<=300):
  Calls prog 90 #[O s] w λe j=>ep w e j (FR (Dt s)):=by
 have Q:=Ab (aG S);have M:=JE s;have E:=Ab (ZP s w S);generalize Dt s=ms at Q M E⊢;have AT:Z ms<=1000:=by omega
 go_enter func90,ntmps90;go_wp2_with fail
 refine(Aa E).mono ?_;rintro e a ⟨mv,rfl,x,z⟩;clear E;obtain⟨c,d,rfl⟩:=Ak x;have P:=Tc a [U c (Z ms) d,X J 0,X J 0] 203;have I:=Al (lM x (Dj [U c (Z ms) d,X J 0,X J 0].toArray 203)) (lW _);have L:(U c (Z ms) d).ownBlock≠V a.heap.size:=λe=>by have:=(x.lt _ e).2;omega
 have k:JR (Cr (a.alloc (Dj [U c (Z ms) d,X J 0,X J 0].toArray 203)) a.heap.size (U c (Z ms) d) ms 0 0):=⟨P,I,L,M.2,by omega⟩;have n:=Ab (z.alloc (Dj [U c (Z ms) d,X J 0,X J 0].toArray 203));have AH:w.heap.size<=a.heap.size:=z.size;have R:(a.alloc (Dj [U c (Z ms) d,X J 0,X J 0].toArray 203)).heap.size=a.heap.size+1:=by simp
 clear P I L x z;go_wp2_with fail
 change Calls _ _ _ (a.alloc (Dj [U c (Z ms) d,X J 0,X J 0].toArray 203)) _;generalize a.alloc (Dj [U c (Z ms) d,X J 0,X J 0].toArray 203)=w2 at k n R⊢;obtain⟨b,W⟩:=QP a.heap.size;rw[W]at k AH R⊢;clear W;refine(Tw b _ ms 0 0 w2 (Aa k) (Aa Q)).mono ?_;intro e A v;cases ht:Fd ms 0 [] with
 |error p=>
  have f:JR (FR ms=.error p):=by show _=_;unfold FR;rw[ht]
  rw[ht]at v;obtain⟨q,rfl,l,h⟩:=v;have D:=l.dI.cell 2;simp at D;have o:JR (Ac [] w A):=(Aa n).trans' h (λi g=>Hf (by simp at g;omega));clear ht l h k n;go_wp2_with fail
  go_region_held3 (λj=>Lc j ⟨b,2,Y⟩=V (X J p)) (go_keep) (fail)
  rename_i C;clear C;go_wp2;go_ret3;rw[f.out];exact⟨rfl,(Aa o).drew⟩
 |ok r=>
  obtain⟨G,q⟩:=r;rw[ht]at v;obtain⟨N,cp,T,rfl,AO,AB,l,h⟩:=v;have f:JR (FR ms=if(Au ms q).kind==1 then .ok G else .error (Au ms q).place):=by show _=_;unfold FR;rw[ht]
  have u:=Ab (Wz b _ ms q 0 A l);have o:JR (Ac [] w A):=(Aa n).trans' h (λi g=>Hf (by simp at g;omega));have B:=Ab AB;have A0:=h.size;clear ht l h k n AB;generalize Au ms q=m at f u;go_wp2_with fail
  refine(Aa u).mono ?_;rintro e F ⟨rfl,t,y⟩;have H:JR (Ac [] w F):=(Aa o).trans' y (λi g=>Hf (by simp at g;omega));have AR:JR (Cd F w2.heap.size (U N (Z G) cp) T):=(Aa B).kept y (λi g=>by simp at g;omega);cases hk:(m.kind==1)with
  |true=>
   rw[hk]at f;clear t y u B o;go_wp2;go_ret3;rw[f.out];exact⟨N,cp,T,rfl,AO,(Aa AR).base (by omega),Aa H⟩
  |false=>
   rw[hk]at f t;have D:=t.dI.cell 2;simp at D;clear t y u B o;go_wp2_with fail
   go_region_held3 (λj=>Lc j ⟨b,2,Y⟩=V (X J m.place)) (go_keep) (fail)
   rename_i C;clear C;go_wp2;go_ret3;rw[f.out];exact⟨rfl,(Aa H).drew⟩
def W9(s:bC):match FR (Dt s)with
  | .ok i=>(A4 s 0).2.2=K/\¬Ae s (A4 s 0).2.1<s.size/\i=(A4 s 0).1.map LQ
  | .error p=>((A4 s 0).2.2=Cm\/Ae s (A4 s 0).2.1<s.size)/\p=(AQ s (A4 s 0).2.1 (A4 s 0).2.2:Int):=by
 have g:At s (Dt s) 0 0:=by unfold At;rw[Kc];rfl
 have h:=U7 (s:=s) (ms:=Dt s) (Z (Dt s)) 0 0 [] (by omega) g (lW _);generalize Dt s=ms at h g;obtain⟨L,a,f,j⟩:∃L a f,A4 s 0=(L,a,f):=⟨_,_,_,rfl⟩;rw[j]at h⊢;unfold FR;cases hb:Fd ms 0 [] with
 |error p=>
  rw[hb]at h;obtain⟨e,d⟩:=h;subst e;exact⟨Hd rfl,by rw[d];rfl⟩
 |ok r=>
  obtain⟨i,n⟩:=r;rw[hb]at h;obtain⟨e,d,l,k⟩:=h;subst e;simp only;rw[l.head];by_cases b:Ae s a<s.size
  .have c:((BO s a).kind==1)=K:=by
    unfold BO;rw[lS b];exact mq.2 ((am _).2.2 (W6 s _ b).1)
   rw[c,DP k];exact⟨Hf b,rfl⟩
  ·(have c:((BO s a).kind==1)=Cm:=by rw[Iy b];rfl);rw[c];exact⟨trivial,b,by rw[d];simp⟩
def Lo(s:bC):Bool:= !decide (300<s.size)&&(!(Ao s 0).2.2&&(!decide ((Ao s 0).2.1<s.size)&&(!decide (0<Z (Ao s 0).1.body)&& !decide (2<Z (Ao s 0).1.head.args))))
def fJ:Af:=⟨⟨#[]⟩,[]⟩
def CP(s:bC):Af:=if Lo s=Cm then Aq Bj (Ao s 0).1.head else fJ
def Hj(s:bC):Bool:=Lo s&&((B5 (CP s)).toList==s.toList)
def Kd(x:bC):Prop:=1<=Z x.toList/\Z x.toList<=4/\∀c∈x.toList,AA c=Cm
def ku(x:bC):Prop:=1<=Z x.toList/\Z x.toList<=3/\(∀c∈x.toList,Ap c=Cm)/\∀r,x.toList=48::r->r=[]
def Gw(x:bC):Prop:=Kd x\/ku x
def CV(s:bC)(i:Nat)(l:QC UInt8):Prop:=i+Z l<=s.size/\∀k (h:k<Z l) (h2:i+k<s.size),s[i+k]=l[k]
def CV.left{l m:QC UInt8}(h:CV s i (l++m)):CV s i l:=by
 have a:=h.1;rw[lU]at a;refine⟨by omega,λk c b=>?_⟩;rw[h.2 k (by rw[lU];omega) b,mT c]
def CV.right{l m:QC UInt8}(h:CV s i (l++m)):CV s (i+Z l) m:=by
 have a:=h.1;rw[lU]at a;refine⟨by omega,λk c b=>?_⟩;have:=h.2 (Z l+k) (by rw[lU];omega) (by omega);rw[List.getElem_append_right (by omega)]at this;simp only[Nat.add_sub_cancel_left]at this;rw[<-this]
 congr 1
 omega
def EB(s:bC):CV s 0 s.toList:=by
 refine⟨by rw[<-AP];omega,λk b a=>?_⟩;simp only[ma,mC];simp[ByteArray.getElem_eq_getElem_data]
def CV.head{l:QC UInt8}(h:CV s i (g::l)):∃b:i<s.size,s[i]=g:=by
 have a:=h.1;simp only[lQ]at a;have:=h.2 0 (by simp) (by omega);exact⟨by omega,by simpa using this⟩
def RZ{p:UInt8->Bool}{s:bC}:∀(l:QC UInt8) (i:Nat) (c:UInt8) (m:QC UInt8),CV s i (l++c::m)->(∀x∈l,p x=Cm)->p c=K->AG p s i=i+Z l
 |[],i,c,m,h,_,hc=>by
  obtain⟨a,e⟩:=h.head;rw[Ft p s i a (by rw[e];exact hc)];rfl
 |x::l,i,c,m,h,hl,hc=>by
  obtain⟨a,e⟩:=(show CV s i (x::(l++c::m))from h).head;rw[Ct p s i a (by rw[e];exact hl x (by simp))];have b:CV s (i+1) (l++c::m):=(show CV s i ([x]++(l++c::m))from h).right;rw[RZ l (i+1) c m b (λy d=>hl y (by simp[d])) hc,lQ];omega
def Eh{s x:bC}(h:CV s i x.toList):s.extract i (i+Z x.toList)=x:=by
 apply toList_inj;have a:=h.1;simp only[ma]at h a⊢;apply List.ext_getElem
 .simp at a⊢;omega
 .intro k d b;have c:=h.2 k b (by simp at b a⊢;omega);rw[<-c];simp[ByteArray.getElem_eq_getElem_data]
def Wy(h:AA g=Cm):Dx g=K/\Do g=K/\Ap g=K:=by
 unfold AA at h;unfold Dx Do Ap;simp only[mi,n7]at h;have b:97<=g.toNat:=h.1;refine⟨?_,?_,?_⟩
 .rw[ol,mq,mq];constructor
  .rintro rfl;exact absurd b (by decide)
  .rintro rfl;exact absurd b (by decide)
 .rw[Bool.and_eq_false_iff];exact Hf (mY (λa=>by have:g.toNat<=90:=a;omega))
 .rw[Bool.and_eq_false_iff];exact Hf (mY (λa=>by have:g.toNat<=57:=a;omega))
def VN(h:Ap g=Cm):Dx g=K/\Do g=K:=by
 unfold Ap at h;unfold Dx Do;simp only[mi,n7]at h;have a:48<=g.toNat:=h.1;have b:g.toNat<=57:=h.2;refine⟨?_,?_⟩
 .rw[ol,mq,mq];constructor
  .rintro rfl;exact absurd a (by decide)
  .rintro rfl;exact absurd a (by decide)
 .rw[Bool.and_eq_false_iff];exact Hd (mY (λb=>by have:65<=g.toNat:=b;omega))
def Cv{c:UInt8}{m:QC UInt8}(h:CV s i (c::m))(a:Dx c=K):Ae s i=i:=by
 obtain⟨b,e⟩:=h.head;rw[Ae,dif_pos b,lO (by rw[e,a];simp)]
def Gw.first(h:Gw s):∃c r,s.toList=c::r/\Dx c=K/\Do c=K/\((Ap c=K/\Kd s)\/(Ap c=Cm/\ku s)):=by
 cases hx:s.toList with
 |nil=>
  rcases h with h|h
  .have:=h.1;rw[hx]at this;simp at this
  .have:=h.1;rw[hx]at this;simp at this
 |cons c r=>
  refine⟨c,r,rfl,?_⟩;rcases h with h|h
  .have e:=h.2.2 c (by rw[hx];simp);obtain⟨b,a,f⟩:=Wy e;exact⟨b,a,Hd ⟨f,h⟩⟩
  .have d:=h.2.2.1 c (by rw[hx];simp);obtain⟨b,a⟩:=VN d;exact⟨b,a,Hf ⟨d,h⟩⟩
def OV{c:UInt8}{m:QC UInt8}(a:Kd t)(h:CV s i (t.toList++c::m))(j:AA c=K):Bc s i K=(t,i+Z t.toList,K):=by
 obtain⟨d,r,e,f,_⟩:=Gw.first (Hd a);have g:Ae s i=i:=Cv (c:=d) (m:=r++c::m) (by rw[e]at h;exact h) f;have b:=RZ t.toList i c m h a.2.2 j;have l:=a.1;have k:=a.2.1;rw[Li g b (by omega),Eh h.left]
def gR(c:UInt8):Prop:=AA c=K/\Ap c=K/\Dx c=K
def T9{m:QC UInt8}(y:Gw t)(h:CV s i (t.toList++g::m))(n:gR g):AM s i K=(⟨0,t⟩,i+Z t.toList,K):=by
 obtain⟨d,r,e,u,p,a⟩:=y.first;have k:CV s i (d::(r++g::m)):=by rw[e]at h;exact h
 have v:Ae s i=i:=Cv k u;obtain⟨w,b⟩:=k.head;unfold AM;rw[lO (by simp)];simp only[v];rw[dif_pos w,lO (by rw[b,p];simp)];rcases a with⟨a,o⟩|⟨a,f⟩
 .rw[lS (by rw[b,a];rfl),OV o h n.1]
 .have q:=RZ t.toList i g m h f.2.2.1 n.2.1;have A:=f.1;have z:=f.2.1;rw[lO (by rw[b,a];simp),q,lO ?_,Eh h.left];rintro (j|⟨j,l⟩)
  .omega
  .rw[b]at j;have:=f.2.2.2 r (by rw[e,j]);rw[e,this]at l;simp at l
def D7:QC bC->QC UInt8
 |[]=>[]
 |[x]=>x.toList
 |x::y::l=>x.toList++44::D7 (y::l)
def iS:gR 44:=by unfold gR;decide
def jc:gR 41:=by unfold gR;decide
def Fj{m:QC UInt8}(h:CV s i (g::m))(d:UInt8):Ej s i d=(g==d):=by
 obtain⟨b,a⟩:=h.head;unfold Ej;rw[dif_pos b,a]
def OA{s:bC}:∀(a:QC bC) (x:bC) (i:Nat) (m:QC UInt8),(∀y∈x::a,Gw y)->CV s i (D7 (x::a)++41::m)->Cb s i=((x::a).map (AF.mk 0),i+Z (D7 (x::a)),K)
 |[],x,i,m,hx,h=>by
  have f:=T9 (hx x (by simp)) (show CV s i (x.toList++41::m)from h) jc;have b:CV s (i+Z x.toList) (41::m):=(show CV s i (x.toList++41::m)from h).right;have d:AQ s (i+Z x.toList) K=i+Z x.toList:=by unfold AQ;rw[lO (by simp),Cv b jc.2.2]
  have c:Ej s (i+Z x.toList) 44=K:=by rw[Fj b];rfl
  rw[Cb];simp only[f,d,c];rw[dif_neg (by simp)];unfold B7;rw[d,c,lO (by simp)];rfl
 |y::a,x,i,m,hx,h=>by
  have g:CV s i (x.toList++44::(D7 (y::a)++41::m)):=by
   (have e:D7 (x::y::a)++41::m=x.toList++44::(D7 (y::a)++41::m):=by rw[D7];simp);rw[<-e];exact h
  have f:=T9 (hx x (by simp)) g iS;have b:CV s (i+Z x.toList) (44::(D7 (y::a)++41::m)):=g.right;have d:AQ s (i+Z x.toList) K=i+Z x.toList:=by unfold AQ;rw[lO (by simp),Cv b iS.2.2]
  have c:Ej s (i+Z x.toList) 44=Cm:=by rw[Fj b];rfl
  have n:B7 s (i+Z x.toList) K 44=i+Z x.toList+1:=by unfold B7;rw[d,c];rfl
  have k:CV s (i+Z x.toList+1) (D7 (y::a)++41::m):=(show CV s (i+Z x.toList) ([44]++(D7 (y::a)++41::m))from b).right;have ih:=OA a y (i+Z x.toList+1) m (λz j=>hx z (by simp at j⊢;exact Hf j)) k;have p:=h.1;have l:i<s.size:=by
   obtain⟨o,_⟩:=b.head;omega
  rw[Cb];simp only[f,d,c,n,ih];rw[dif_pos ⟨by simp,by omega,l⟩];simp only[l9,mA,and_true,true_and];rw[D7];simp;omega
structure Il(f:Af):Prop where
 name:Kd f.name
 args:∀x∈f.args,Gw x
 ne:f.args≠[]
def Rn:∀(a:QC bC) (x s:bC),(F7 (s++x) Cm a).toList=s.toList++D7 (x::a)
 |[],x,s=>by rw[F7,BH];rfl
 |y::a,x,s=>by
  rw[F7,lS rfl];have h:=Rn a y (s++x++⟨#[44]⟩);rw[h,BH,BH,D7];simp[ma]
def Ii{f:Af}(h:f.args≠[]):(B5 f).toList=f.name.toList++(40::(D7 f.args++[41,46])):=by
 unfold B5;cases hf:f.args with
 |nil=>exact absurd hf h
 |cons x xs=>
  rw[F7,lO (by simp),BH,Rn xs x (f.name++⟨#[40]⟩),BH];simp[ma]
def Jg{m:QC UInt8}(h:CV s i (g::m))(d:Dx g=K):Bz s i K g=(i+1,K):=by
 have a:AQ s i K=i:=by unfold AQ;rw[lO (by simp),Cv h d]
 have b:Ej s i g=Cm:=by rw[Fj h];simp
 unfold Bz B7;rw[a,b];rfl
def Ww{f:Af}(h:Il f):Ao (B5 f) 0=(⟨⟨f.name,f.args.map (AF.mk 0),0⟩,[],0⟩,(B5 f).size,K):=by
 obtain⟨s,b⟩:=QP (B5 f);have a:=EB s;rw[<-b,Ii h.ne,b]at a;have z:s.size=Z f.name.toList+Z (D7 f.args)+3:=by
  rw[AP,<-b,Ii h.ne];simp;omega
 rw[b];obtain⟨d,r,e,v,_⟩:=Gw.first (Hd h.name);have l:Ae s 0=0:=Cv (c:=d) (m:=r++40::(D7 f.args++[41,46])) (by rw[e]at a;exact a) v;have k:=OV h.name a (by decide);rw[mC]at k;have j:CV s (Z f.name.toList) (40::(D7 f.args++[41,46])):=by have:=a.right;rwa [mC]at this
 have B:=Jg j (by decide);have g:CV s (Z f.name.toList+1) (D7 f.args++41::[46]):=(show CV s (Z f.name.toList) ([40]++(D7 f.args++[41,46]))from j).right;have q:Cb s (Z f.name.toList+1)=(f.args.map (AF.mk 0),Z f.name.toList+1+Z (D7 f.args),K):=by
  cases hf:f.args with
  |nil=>exact absurd hf h.ne
  |cons x xs=>rw[hf]at g;exact OA xs x _ [46] (λy A=>h.args y (by rw[hf];exact A)) g
 have n:=g.right;have w:=Jg n (by decide);have p:A3 s 0 K=(⟨f.name,f.args.map (AF.mk 0),0⟩,Z f.name.toList+1+Z (D7 f.args)+1,K):=by
  unfold A3;have C:AQ s 0 K=0:=by unfold AQ;rw[lO (by simp),l]
  simp only[C,k,B];unfold Et;simp only[lJ,if_false,q,w]
 have i:CV s (Z f.name.toList+1+Z (D7 f.args)+1) [46]:=(show CV s (Z f.name.toList+1+Z (D7 f.args)) ([41]++[46])from n).right;have u:AQ s (Z f.name.toList+1+Z (D7 f.args)+1) K=Z f.name.toList+1+Z (D7 f.args)+1:=by unfold AQ;rw[lO (by simp),Cv i (by decide)]
 have o:DL s (Z f.name.toList+1+Z (D7 f.args)+1) K=([],Z f.name.toList+1+Z (D7 f.args)+1,K):=by
  have D:Ej s (Z f.name.toList+1+Z (D7 f.args)+1) 58=K:=by rw[Fj i];rfl
  unfold DL B7;rw[u,D];rfl
 have t:=Jg i (by decide);unfold Ao;simp only[l,p,o,t];rw[z]
 congr 2
 omega
def JF(s:bC)(i:Nat):AQ s i K=Ae s i:=rfl
def TE{A m:QC UInt8}{j:QC AF}(f:Kd t)(h:CV s i (t.toList++40::(A++41::m)))
  (v:Cb s (i+Z t.toList+1)=(j,i+Z t.toList+1+Z A,K)):
  A3 s i K=(⟨t,j,i⟩,i+Z t.toList+1+Z A+1,K)/\Ae s i=i/\Ey s i=Cm/\Ka s i=Cm/\Ej s i 33=K:=by
 obtain⟨d,r,e,q,_⟩:=Gw.first (Hd f);have c:AA d=Cm:=f.2.2 d (by rw[e];simp);have b:CV s i (d::(r++40::(A++41::m))):=by rw[e]at h;exact h
 have k:Ae s i=i:=Cv b q;have g:=OV f h (by decide);have a:CV s (i+Z t.toList) (40::(A++41::m)):=h.right;have l:=Jg a (by decide);have p:CV s (i+Z t.toList+1) (A++41::m):=(show CV s (i+Z t.toList) ([40]++(A++41::m))from a).right;have u:=Jg p.right (by decide);obtain⟨n,o⟩:=b.head;refine⟨?_,k,?_,?_,?_⟩
 .unfold A3;simp only[JF,k,g,l];unfold Et;simp only[lJ,if_false,v,u]
 .unfold Ey;rw[dif_pos n,o];exact c
 .unfold Ka;rw[g];simp only[JF,Cv a (by decide),Fj a];rfl
 .rw[Fj b];cases hb:(d==33)with
  |false=>rfl
  |true=>rw[nu]at hb;rw[hb]at c;exact absurd c (by decide)
def fQ(h:s.size<=i):Ae s i=i/\∀c,Ej s i c=K:=by
 refine⟨?_,λc=>?_⟩
 .unfold Ae;rw[dif_neg (by omega)]
 .unfold Ej;rw[dif_neg (by omega)]
def RM{m:QC UInt8}(h:CV s i (g::m))(e:Do g=Cm)(f:Dx g=K):AM s i K=(⟨g,ND⟩,i+1,K):=by
 have a:=Cv h f;obtain⟨b,d⟩:=h.head;unfold AM;rw[lO (by simp),dif_pos (by rw[a];exact b)];simp only[a];rw[d,lS e]
def ex{m:QC UInt8}(h:CV s i (88::41::m)):Cb s i=([⟨88,ND⟩],i+1,K):=by
 have b:=RM h (by decide) (by decide);have a:CV s (i+1) (41::m):=(show CV s i ([88]++41::m)from h).right;have c:B7 s (i+1) K 44=i+1:=by
  unfold B7;simp only[JF,Cv a (by decide),Fj a];rfl
 rw[Cb,dif_neg (by simp only[b,JF,Cv a (by decide),Fj a];exact λh=>absurd h.1 (by decide))];simp only[b,c]
def dY{m:QC UInt8}(h:CV s i (88::44::89::41::m)):Cb s i=([⟨88,ND⟩,⟨89,ND⟩],i+3,K):=by
 have e:=RM h (by decide) (by decide);have a:CV s (i+1) (44::89::41::m):=(show CV s i ([88]++44::89::41::m)from h).right;have f:CV s (i+1+1) (89::41::m):=(show CV s (i+1) ([44]++89::41::m)from a).right;have c:=RM f (by decide) (by decide);have b:CV s (i+1+1+1) (41::m):=(show CV s (i+1+1) ([89]++41::m)from f).right;have d:B7 s (i+1) K 44=i+1+1:=by
  unfold B7;simp only[JF,Cv a (by decide),Fj a];rfl
 have g:Cb s (i+1+1)=([⟨89,ND⟩],i+1+1+1,K):=by
  have j:B7 s (i+1+1+1) K 44=i+1+1+1:=by
   unfold B7;simp only[JF,Cv b (by decide),Fj b];rfl
  rw[Cb,dif_neg (by simp only[c,JF,Cv b (by decide),Fj b];exact λh=>absurd h.1 (by decide))];simp only[c,j]
 have k:=h.1;simp only[lQ]at k;rw[Cb,dif_pos (by simp only[e,JF,Cv a (by decide),Fj a,d];exact⟨by decide,by omega,by omega⟩)];simp only[e,d,g]
def Tg{A:C8}(b:Dd s 0=(⟨g,A,Cl,Cl,n⟩,s.size,K)):A4 s 0=([⟨g,A,Cl,Cl,n⟩],s.size,K):=by
 obtain⟨a,c⟩:=fQ (lX s.size);have d:B7 s s.size K 44=s.size:=by
  unfold B7;simp only[JF,a,c];rfl
 rw[A4,dif_neg (by simp only[b,JF,a,c];exact λh=>absurd h.1 (by decide))];simp only[b,d]
def R3{A:QC UInt8}{a:QC AF}(j:Kd t)(c:s.toList=t.toList++40::(A++[41]))(i:Cb s (Z t.toList+1)=(a,Z t.toList+1+Z A,K)):
  A4 s 0=([⟨97,⟨t,a,0⟩,Cl,Cl,0⟩],s.size,K):=by
 have b:=EB s;rw[c]at b;obtain⟨f,d,h,e,g⟩:=TE j b (by rw[mC];exact i);have k:s.size=0+Z t.toList+1+Z A+1:=by rw[AP,c];simp;omega
 refine Tg ?_;unfold Dd;simp only[d];rw[lO (by rw[g];simp),h,e,lS (by rfl),f,k]
def gP{A:QC UInt8}{b:QC AF}(h:Kd t)(c:s.toList=33::(t.toList++40::(A++[41])))(g:Cb s (1+Z t.toList+1)=(b,1+Z t.toList+1+Z A,K)):
  A4 s 0=([⟨33,⟨t,b,1⟩,Cl,Cl,0⟩],s.size,K):=by
 have a:=EB s;rw[c]at a;have d:CV s (0+1) (t.toList++40::(A++[41])):=(show CV s 0 ([33]++(t.toList++40::(A++[41])))from a).right;obtain⟨e,j,m,k,l⟩:=TE h d (by rw[mC];exact g);have i:s.size=0+1+Z t.toList+1+Z A+1:=by rw[AP,c];simp;omega
 refine Tg ?_;unfold Dd;have f:Ae s 0=0:=Cv a (by decide);simp only[f];rw[lS (by rw[Fj a];rfl),e,i]
