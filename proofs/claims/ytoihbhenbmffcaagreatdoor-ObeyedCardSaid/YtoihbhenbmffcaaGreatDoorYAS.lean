import Derived.Test.YtoihbhenbmffcaaGreatDoorYAP
import Derived.Test.YtoihbhenbmffcaaGreatDoorYAI
import Derived.Test.YtoihbhenbmffcaaGreatDoorYAO
set_option linter.all false
set_option maxHeartbeats 0
open List renaming length->Z,toArray->j3,replicate->lV
open Option renaming none->Y,some->V
open Go.Value renaming slice->U,int->X,string->O,bool->lT
open Bool renaming false->K,true->j1
open Go.IntKind renaming i64->J
open Go.Obj renaming cells->j2
open Go.Ending renaming returned->lo
open Or renaming inl->lx,inr->ly
open Go renaming World->l9,Value->lN
open Go.World renaming cell?->lP,ownsRow->lQ
open ByteArray renaming empty->lU
open Go.Op renaming bytesLess->lZ
namespace Go.Proofs.YtoihbhenbmffcaaGreatDoor
open Go.RowKit Go.Proofs.Tryz
def A3(s:zA):Prop:=(∃c r,s.toList=c::r/\97<=c.toNat/\c.toNat<=122)\/bM s.toList=j1
def CD{s:zA}{c:UInt8}{r:mc UInt8}(h:s.toList=c::r):Cl s 0=c/\s.size=Z r+1:=by
 have b:s.size=Z r+1:=by rw[Bg,h];rfl
 refine⟨?_,b⟩;unfold Cl;rw[dif_pos (by omega)];obtain⟨d,a,_⟩:=Ht s (by omega);rw[h]at a;exact(List.cons.inj a).1.symm
def Ky{c:UInt8}(a:48<=c.toNat)(b:c.toNat<=57):Ao c=j1:=(Cc _).2 ⟨a,b⟩
def Jd{c:UInt8}(a:97<=c.toNat):Ao c=K:=by
 cases h:Ao c with
 |false=>rfl
 |true=>have:=(Cc _).1 h;omega
def Ps(x:UInt8)(l m:mc UInt8):lZ (x::l) (x::m)=lZ l m:=by
 simp[lZ]
def ah{x y:UInt8}(h:x.toNat<y.toNat)(l m:mc UInt8):lZ (x::l) (y::m)=j1:=by
 have:x<y:=h;simp[lZ,this]
def Z9{x y:UInt8}(h:y.toNat<x.toNat)(l m:mc UInt8):lZ (x::l) (y::m)=K:=by
 have a:¬x<y:=by
  intro c;have:x.toNat<y.toNat:=c;omega
 have b:(x==y)=K:=by
  rw[iw];intro e;rw[e]at h;omega
 simp[lZ,a,b]
def Fz{s:zA}(h:bM s.toList=j1):(AA s).toList=lV (3-Z s.toList) 48++s.toList:=by
 have g:Ib s=j1:=by
  unfold Ib;rcases ES h with⟨c,e,b,a⟩|⟨c,d,e,b,a⟩|⟨c,d,f,e,b,a⟩<;>rw[e,EO]<;>simp<;>omega
 have j:Z s.toList<=3:=by
  rcases ES h with⟨c,e,b,a⟩|⟨c,d,e,b,a⟩|⟨c,d,f,e,b,a⟩<;>rw[e]<;>simp
 have i:=Bg s;unfold AA;rw[g,gY rfl,Lp 3 s (by omega) (by omega),i]
def E6{s:zA}{c:UInt8}{r:mc UInt8}(h:s.toList=c::r)(b:97<=c.toNat):AA s=s:=by
 have a:Ib s=K:=by
  unfold Ib;rw[h,EO];simp;omega
 unfold AA;rw[a];rfl
def G5{a b:zA}(l:A3 a)(i:A3 b):lZ (AA a).toList (AA b).toList=Fu a b:=by
 rcases l with⟨c,r,p,q,B⟩|l
 .obtain⟨w,C⟩:=CD p;rcases i with⟨d,m,k,o,x⟩|i
  .obtain⟨s,z⟩:=CD k;rw[E6 p q,E6 k o];unfold Fu;rw[w,s,Jd q,Jd o];rfl
  .rw[E6 p q,Fz i];unfold Fu;rw[w,Jd q];rcases ES i with⟨d,e,j,h⟩|⟨d,f,e,j,h⟩|⟨d,f,g,e,j,h⟩;all_goals
    rw[(CD e).1,Ky (by omega) h,e,p];refine Eq.trans (Z9 ?_ _ _) rfl
    first|omega|(show(48:UInt8).toNat<_;show 48<_;omega)
 .rcases i with⟨d,m,k,o,x⟩|i
  .obtain⟨s,z⟩:=CD k;rw[E6 k o,Fz l];unfold Fu;rw[s,Jd o];rcases ES l with⟨c,e,j,h⟩|⟨c,f,e,j,h⟩|⟨c,f,g,e,j,h⟩;all_goals
    rw[(CD e).1,Ky (by omega) h,e,k];refine Eq.trans (ah ?_ _ _) rfl
    first|omega|(show(48:UInt8).toNat<_;show 48<_;omega)
  .rw[Fz l,Fz i];unfold Fu;rcases ES l with⟨c,e,j,h⟩|⟨c,f,e,j,h⟩|⟨c,f,g,e,j,h⟩<;>
    rcases ES i with⟨u,n,v,t⟩|⟨u,y,n,v,t⟩|⟨u,y,A,n,v,t⟩<;>
    rw[(CD e).1,(CD n).1,Ky (by omega) h,Ky (by omega) t,(CD e).2,(CD n).2,e,n]
   .simp[lV,Ps]
   .exact Eq.trans (Eq.trans (Ps _ _ _) (ah (by show 48<_;omega) _ _)) rfl
   .exact Eq.trans (ah (by show 48<_;omega) _ _) rfl
   .exact Eq.trans (Eq.trans (Ps _ _ _) (Z9 (by show 48<_;omega) _ _)) rfl
   .simp[lV,Ps]
   .exact Eq.trans (ah (by show 48<_;omega) _ _) rfl
   .exact Eq.trans (Z9 (by show 48<_;omega) _ _) rfl
   .exact Eq.trans (Z9 (by show 48<_;omega) _ _) rfl
   .simp[lV]
def Nk(s:zA):(s.extract 1 s.size).toList=s.toList.drop 1:=by
 rw[iy,iy,ByteArray.data_extract,Array.toList_extract];have h:s.size=Z s.data.toList:=rfl;simp only[List.extract];rw[gR (by rw[iN];omega)]
def E5{k:Nat}{s:zA}{c:UInt8}{r:mc UInt8}(h:s.toList=c::r):(Fb (k+1) s).toList=if 0<Z r/\c=48 then(Fb k (s.extract 1 s.size)).toList else s.toList:=by
 obtain⟨e,d⟩:=CD h;rw[Fb,e,d];by_cases a:0<Z r/\c=48
 .rw[gY ⟨by omega,a.2⟩,gY a]
 .rw[gV (λb=>a ⟨by omega,b.2⟩),gV a]
def FU{s:zA}(k:A3 s):BL (AA s)=s:=by
 rcases k with⟨c,r,e,b,m⟩|k
 .rw[E6 e b];unfold BL;have i:Ib s=K:=by
   unfold Ib;rw[e,EO];simp;omega
  rw[i];rfl
 .have g:=Fz k;apply toList_inj;have l:(AA s).size=Z (AA s).toList:=Bg _;generalize AA s=p at g l⊢;unfold BL;rcases ES k with⟨c,e,b,m⟩|⟨c,d,e,b,m⟩|⟨c,d,f,e,b,m⟩
  .rw[e]at g⊢;have a:p.toList=[48,48,c]:=g;(have i:Ib p=j1:=by unfold Ib;rw[a,EO];rfl);rw[i,gY rfl,l,a];show(Fb 3 p).toList=[c];rw[E5 a,gY ⟨by simp,rfl⟩];(have j:(p.extract 1 p.size).toList=[48,c]:=by rw[Nk,a];rfl);rw[E5 j,gY ⟨by simp,rfl⟩];(have q:((p.extract 1 p.size).extract 1 (p.extract 1 p.size).size).toList=[c]:=by rw[Nk,j];rfl);rw[E5 q,gV (by simp),q]
  .rw[e]at g⊢;have a:p.toList=[48,c,d]:=g;(have i:Ib p=j1:=by unfold Ib;rw[a,EO];rfl);(have o:c≠48:=λn=>by rw[n]at b;exact absurd b (by decide));rw[i,gY rfl,l,a];show(Fb 3 p).toList=[c,d];rw[E5 a,gY ⟨by simp,rfl⟩];(have j:(p.extract 1 p.size).toList=[c,d]:=by rw[Nk,a];rfl);rw[E5 j,gV (λh=>o h.2),j]
  .rw[e]at g⊢;have a:p.toList=[c,d,f]:=g;(have i:Ib p=j1:=by unfold Ib;rw[a,EO];simp;omega);(have o:c≠48:=λn=>by rw[n]at b;exact absurd b (by decide));rw[i,gY rfl,l,a];show(Fb 3 p).toList=[c,d,f];rw[E5 a,gV (λh=>o h.2),a]
def FQ{a b:zA}(c:A3 a)(d:A3 b)(h:AA a=AA b):a=b:=by
 rw[<-FU c,<-FU d,h]
def BD(s:zA)(a:Nat):AZ:=if Ae s a<s.size then In (DQ s (Ae s a)).1 else EC s
def At(s:zA)(ms:mc AZ)(nx a:Nat):Prop:=ms.drop nx=CM s a
def QO(s:zA)(a:Nat):CM s (Ae s a)=CM s a:=by
 unfold CM
 congr 2
 by_cases b:Ae s a<s.size
 .rw[F5 (Cb s a) b,F5 rfl b]
 .rw[IM b,IM (by rw[Cb];exact b)]
def At.gap{s:zA}{ms:mc AZ}{b a:Nat}(h:At s ms b a):At s ms b (Ae s a):=by
 unfold At at*;rw[QO];exact h
def At.head{s:zA}{ms:mc AZ}{b a:Nat}(h:At s ms b a):As ms b=BD s a:=by
 unfold At at h;have e:ms[b]?=(CM s a)[0]?:=by rw[<-h];simp
 unfold As BD;rw[ia,e];unfold CM QM;split
 .simp
 .simp
def At.next{s:zA}{ms:mc AZ}{b a j:Nat}(h:At s ms b a)(c:Ae s a=j)(d:j<s.size):At s ms (b+1) (DQ s j).2:=by
 unfold At at*;rw[<-List.drop_drop,h];unfold CM;rw[F5 c d];simp
def At.lt{s:zA}{ms:mc AZ}{b a:Nat}(h:At s ms b a):b<Z ms:=by
 unfold At at h;have:Z (ms.drop b)=Z (CM s a):=by rw[h]
 unfold CM at this;simp at this;omega
def Hh{s:zA}{a:Nat}(h:¬Ae s a<s.size):BD s a=EC s:=by simp[BD,h]
def GR{s:zA}{a j:Nat}(c:Ae s a=j)(h:j<s.size)(d:Az s[j]=j1):
  BD s a=⟨if AC Az s j-j<=4 then 2 else 0,j,s.extract j (AC Az s j)⟩/\(DQ s j).2=AC Az s j:=by
 have e:=Ci Az s j (by omega);have f:DQ s j=(⟨2,j,s.extract j (AC Az s j)⟩,AC Az s j):=by unfold DQ;rw[Ey h,d];rfl
 unfold BD;rw[c,gY h,f];refine⟨?_,rfl⟩;simp only[In,IH,size_extract e,if_true];by_cases b:AC Az s j-j<=4<;>simp[b]
def Uk{s:zA}{j k:Nat}(h:j<s.size)(a:k<=s.size)(b:j<k)(c:UInt8):D1 (s.extract j k) 0 c=(s[j]==c):=by
 unfold D1;rw[dif_pos (by rw[size_extract a];omega)];simp[ByteArray.getElem_extract]
def E4{s:zA}{a j:Nat}(i:Ae s a=j)(h:j<s.size)(k:Az s[j]=K)(b:Ao s[j]=j1):
  BD s a=⟨if 3<AC Ao s j-j\/(s[j]=48/\1<AC Ao s j-j)then 0 else 3,j,s.extract j (AC Ao s j)⟩/\(DQ s j).2=AC Ao s j:=by
 have c:=Ci Ao s j (by omega);have f:j<AC Ao s j:=by rw[B5 _ _ _ h b];have:=B7 Ao s (j+1);omega
 have l:DQ s j=(⟨3,j,s.extract j (AC Ao s j)⟩,AC Ao s j):=by unfold DQ;rw[Ey h,k,b];rfl
 unfold BD;rw[i,gY h,l];refine⟨?_,rfl⟩;have e:IH ⟨3,j,s.extract j (AC Ao s j)⟩= !decide (3<AC Ao s j-j\/(s[j]=48/\1<AC Ao s j-j)):=by
  unfold IH;simp only[size_extract c,Uk h c f];rw[gV (by decide),gY trivial,jl];simp only[jx,iq,kw,jU,jY,iw,ne_eq];by_cases d:s[j]=48
  .simp only[d,not_true_eq_false,true_and,and_false,or_false];omega
  .simp only[d,not_false_eq_true,false_and,and_true,or_false];omega
 unfold In;rw[e];by_cases g:3<AC Ao s j-j\/(s[j]=48/\1<AC Ao s j-j)<;>simp[g]
def JE{s:zA}{a j:Nat}(c:Ae s a=j)(h:j<s.size)(d:s[j]=58)(b:D1 s (j+1) 45=j1):
  BD s a=⟨5,j,eo⟩/\(DQ s j).2=j+2:=by
 have e:DQ s j=(⟨5,j,eo⟩,j+2):=by unfold DQ;rw[Ey h,d,b];rfl
 unfold BD;rw[c,gY h,e];exact⟨rfl,rfl⟩
def Gn{s:zA}{a j:Nat}(f:Ae s a=j)(h:j<s.size)(c:Az s[j]=K)(b:Ao s[j]=K)(l:¬(s[j]=58/\D1 s (j+1) 45=j1))(d:s[j].toNat<128):
  BD s a=⟨Ei (s[j].toNat:Int),j,⟨#[s[j]]⟩⟩/\(DQ s j).2=j+1:=by
 have i:¬(97<=s[j].toNat/\s[j].toNat<=122):=λh=>by rw[(Cs _).2 h]at c;cases c
 have g:¬(48<=s[j].toNat/\s[j].toNat<=57):=λh=>by rw[(Cc _).2 h]at b;cases b
 have k:DQ s j=(⟨Ei (s[j].toNat:Int),j,⟨#[s[j]]⟩⟩,j+1):=by
  unfold DQ;rw[Ey h,c,b,j5 s j h d];simp only[gO,if_false];rw[gV l];simp only[Cf,FZ _ d]
 unfold BD;rw[f,gY h,k];refine⟨?_,rfl⟩;unfold In IH;simp only;rcases QC i g with e|e|e<;>simp[e]
def GS{s:zA}{a j:Nat}(f:Ae s a=j)(h:j<s.size)(c:128<=s[j].toNat):(BD s a).kind=0/\(BD s a).place=j:=by
 have g:Az s[j]=K:=by cases b:Az s[j] with|false=>rfl|true=>have:=(Cs _).1 b;omega
 have d:Ao s[j]=K:=by cases b:Ao s[j] with|false=>rfl|true=>have:=(Cc _).1 b;omega
 have i:¬(s[j]=58/\D1 s (j+1) 45=j1):=λb=>by rw[b.1]at c;simp at c
 have k:=(lK s j h c).1;have e:Ei ((Utf8.decode s j).1:Int)=0:=by unfold Ei;rw[gV (by omega),gV (by omega),gV (by omega),gV (by omega)]
 unfold BD DQ;rw[f,gY h,Ey h,g,d];simp only[gO,if_false];rw[gV i];simp[Cf,In,IH,e]
def Dj{s:zA}{a:Nat}(d:a<=s.size):(BD s a).place=Ae s a:=by
 obtain⟨j,b⟩:∃j,Ae s a=j:=⟨_,rfl⟩;have f:=Bp s a d;by_cases h:j<s.size
 .by_cases e:s[j].toNat<128
  .cases hl:Az s[j] with
   |true=>rw[(GR b h hl).1,b]
   |false=>
    cases hd:Ao s[j] with
    |true=>rw[(E4 b h hl hd).1,b]
    |false=>
     by_cases c:s[j]=58/\D1 s (j+1) 45=j1
     .rw[(JE b h c.1 c.2).1,b]
     .rw[(Gn b h hl hd c e).1,b]
  .rw[(GS b h (by omega)).2,b]
 .rw[Hh (by omega)];simp only[EC];omega
def EJ:mc UInt8:=[46,44,33,61,35,60,40,41]
def Si{c:UInt8}(h:c∈EJ):c.toNat<128/\Az c=K/\Ao c=K/\c≠58/\Ei (c.toNat:Int)=5/\C8 c=K:=by
 simp only[EJ,gP,iU,or_false]at h;rcases h with rfl|rfl|rfl|rfl|rfl|rfl|rfl|rfl<;>decide
def R2(x c:UInt8):(((⟨#[x]⟩:zA).toList==(⟨#[c]⟩:zA).toList))=(x==c):=by
 have e:∀y:UInt8,(⟨#[y]⟩:zA).toList=[y]:=λy=>by rw[iy]
 rw[e,e];simp
def DW{s:zA}{a:Nat}{c:UInt8}(m:c∈EJ):BM (BD s a) ⟨#[c]⟩=D1 s (Ae s a) c:=by
 obtain⟨j,d⟩:∃j,Ae s a=j:=⟨_,rfl⟩;obtain⟨s1,s2,i,k,n,_⟩:=Si m;rw[d];unfold BM;by_cases h:j<s.size
 .have q:D1 s j c=(s[j]==c):=by simp[D1,h]
  rw[q];have g:∀x:UInt8,(Az x=j1\/Ao x=j1\/128<=x.toNat)->(x==c)=K:=by
   intro x b;simp only[iw,ne_eq];rintro rfl;rcases b with b|b|b
   .rw[s2]at b;cases b
   .rw[i]at b;cases b
   .omega
  by_cases o:s[j].toNat<128
  .cases hl:Az s[j] with
   |true=>
    rw[(GR d h hl).1,g _ (lx hl)];by_cases f:AC Az s j-j<=4<;>simp[f]
   |false=>
    cases hd:Ao s[j] with
    |true=>
     rw[(E4 d h hl hd).1,g _ (ly (lx hd))];by_cases f:3<AC Ao s j-j\/(s[j]=48/\1<AC Ao s j-j)<;>simp[f]
    |false=>
     by_cases e:s[j]=58/\D1 s (j+1) 45=j1
     .rw[(JE d h e.1 e.2).1];(have l:(s[j]==c)=K:=by simp[e.1,Ne.symm k]);have p:(eo.toList==(⟨#[c]⟩:zA).toList)=K:=by
       rw[show eo.toList=[58,45] from by rw[iy];rfl,show(⟨#[c]⟩:zA).toList=[c] from by rw[iy]]
       simp
      rw[l,p,ks]
     .rw[(Gn d h hl hd e o).1];simp only[R2];cases he:(s[j]==c)with
      |false=>simp
      |true=>
       (have:s[j]=c:=by simpa using he);rw[this,n];rfl
  .have:=GS d h (by omega);rw[this.1,g _ (ly (ly (by omega)))];rfl
 .rw[Hh (by omega)];simp[EC,D1,h]
def At.take{s:zA}{ms:mc AZ}{e a:Nat}{c:UInt8}(h:At s ms e a)(k:c∈EJ)(f:D1 s (Ae s a) c=j1):At s ms (e+1) (Ae s a+1)/\Ae s a+1<=s.size:=by
 obtain⟨s1,s2,g,i,l,_⟩:=Si k;have d:=Fl f;have b:s[Ae s a]=c:=by simpa[D1,d] using f
 have:=h.next rfl d;rw[(Gn (a:=a) rfl d (by rw[b];exact s2) (by rw[b];exact g) (by rw[b];exact λj=>i j.1) (by rw[b];exact s1)).2]at this;exact⟨this,by omega⟩
def Ok{α β:Type}(R:α->β->Prop)(s:zA)(ms:mc AZ):Except Int (α×Nat)->β×Nat×Bool->Prop
 | .ok (x,n),(y,a,bd)=>bd=K/\R x y/\At s ms n a/\a<=s.size
 | .error p,(_,a,bd)=>bd=j1/\p=(a:Int)
def ct(t:AE):AQ:=⟨(t.v.toNat:Int),Dt t.s⟩
def IU{s:zA}{j k:Nat}(h:j<s.size)(a:k<=s.size)(b:j<k):∃c:0<(s.extract j k).size,(s.extract j k)[0]=s[j]:=
 ⟨by rw[size_extract a];omega,by simp[ByteArray.getElem_extract]⟩
def SO(c:UInt8)(h:c.toNat<128):CU ⟨#[c]⟩ 0 0=(c.toNat:Int):=by
 have a:(0:Nat)<(⟨#[c]⟩:zA).size:=Nat.zero_lt_one;rw[KR 0 a];have b:=j5 ⟨#[c]⟩ 0 a h;rw[b];unfold CU;rw[dif_neg (λd=>absurd d.1 (show¬(0+1<1)from by decide))];rfl
theorem Ts{s:zA}{ms:mc AZ}{y a:Nat}(h:At s ms y a)(C:a<=s.size):Ok (λt D=>t=ct D) s ms (Ft (As ms y) y) (AI s a K):=by
 obtain⟨j,c⟩:∃j,Ae s a=j:=⟨_,rfl⟩;have M:=Bp s a C;rw[h.head];unfold AI Ft;simp only[gO,if_false];by_cases b:j<s.size
 .rw[dif_pos (by rw[c];exact b)];simp only[c];have n:=h.next c b;by_cases v:s[j].toNat<128
  .cases f:Az s[j] with
   |true=>
    have H:=(Cs _).1 f;have g:C2 s[j]=K:=by cases d:C2 s[j] with|false=>rfl|true=>have:=(E1 _).1 d;omega
    have e:Ao s[j]=K:=by cases d:Ao s[j] with|false=>rfl|true=>have:=(Cc _).1 d;omega
    obtain⟨l,k⟩:=GR c b f;rw[k]at n;(have B:Ae s j=j:=by rw[<-c];exact Cb s a);(have q:j<AC Az s j:=by rw[B5 _ _ _ b f];have:=B7 Az s (j+1);omega);have m:=Ci Az s j (by omega);rw[l,g,e];simp only[gO,if_false,jb,if_true];by_cases i:AC Az s j-j<=4
    .rw[Kf B rfl (by omega)];simp only[i,if_true];obtain⟨x,o⟩:=IU b m q;refine⟨rfl,?_,n,m⟩;unfold ct;simp only;rw[<-Xd x (by rw[o];omega)];rfl
    .rw[DY B rfl (by omega)];simp only[i,if_false];exact⟨rfl,rfl⟩
   |false=>
    cases e:Ao s[j] with
    |true=>
     have L:=(Cc _).1 e;have g:C2 s[j]=K:=by cases d:C2 s[j] with|false=>rfl|true=>have:=(E1 _).1 d;omega
     obtain⟨l,k⟩:=E4 c b f e;rw[k]at n;have m:=Ci Ao s j (by omega);rw[l,g];simp only[gO,if_false,jW];by_cases i:3<AC Ao s j-j\/(s[j]=48/\1<AC Ao s j-j)
     .rw[gY i,gY i];exact⟨rfl,rfl⟩
     .rw[gV i,gV i];(have q:j<AC Ao s j:=by rw[B5 _ _ _ b e];have:=B7 Ao s (j+1);omega);obtain⟨x,o⟩:=IU b m q;have A:=size_extract (s:=s) (j:=j) m;(have I:s[j].toNat=48->s[j]=48:=λh=>jp.1 h);refine⟨rfl,?_,n,m⟩;unfold ct;simp only;rw[<-Zk x (by rw[o];omega) (by rw[o];omega) (by rw[A];omega) (λh=>by rw[o]at h;have F:=I h;have z:¬1<AC Ao s j-j:=λz=>i (ly ⟨F,z⟩);rw[A];omega)];rfl
    |false=>
     cases g:C2 s[j] with
     |true=>
      have r:=(E1 _).1 g;(have p:¬(s[j]=58/\D1 s (j+1) 45=j1):=λd=>by rw[d.1]at r;simp at r);obtain⟨l,k⟩:=Gn c b f e p v;rw[k]at n;(have G:Ei (s[j].toNat:Int)=4:=by unfold Ei;rw[gV (by omega),gV (by omega),gY (by omega)]);rw[l,G];simp only[if_true];refine⟨rfl,?_,n,by omega⟩;rw[SO _ v];rfl
     |false=>
      have w:AY s j K=(lU,j,j1):=DY (by rw[<-c];exact Cb s a) (ET _ _ _ b f) (lx rfl);(have r:¬(65<=s[j].toNat/\s[j].toNat<=90):=λh=>by rw[(E1 _).2 h]at g;cases g);(have H:¬(97<=s[j].toNat/\s[j].toNat<=122):=λh=>by rw[(Cs _).2 h]at f;cases f);(have L:¬(48<=s[j].toNat/\s[j].toNat<=57):=λh=>by rw[(Cc _).2 h]at e;cases e);simp only[gO,if_false,jb,if_true,w];(have E:(BD s a).place=j:=by rw[Dj C,c]);have u:(BD s a).kind≠2/\(BD s a).kind≠3/\(BD s a).kind≠4:=by
       by_cases p:s[j]=58/\D1 s (j+1) 45=j1
       .rw[(JE c b p.1 p.2).1];simp
       .rw[(Gn c b f e p v).1];unfold Ei;rw[gV (by omega),gV (by omega),gV (by omega)];split<;>simp
      simp only[jA,u.1,u.2.1,u.2.2,lM,jx,or_self,if_false,E];exact⟨rfl,rfl⟩
  .have f:Az s[j]=K:=by cases d:Az s[j] with|false=>rfl|true=>have:=(Cs _).1 d;omega
   have e:Ao s[j]=K:=by cases d:Ao s[j] with|false=>rfl|true=>have:=(Cc _).1 d;omega
   have g:C2 s[j]=K:=by cases d:C2 s[j] with|false=>rfl|true=>have:=(E1 _).1 d;omega
   have w:AY s j K=(lU,j,j1):=DY (by rw[<-c];exact Cb s a) (ET _ _ _ b f) (lx rfl);obtain⟨l,k⟩:=GS c b (by omega);rw[g,e];simp only[gO,if_false,jb,if_true,w,l,k];exact⟨rfl,rfl⟩
 .rw[dif_neg (by rw[c];exact b),Hh (by omega)];simp only[EC];refine⟨rfl,?_⟩;rw[c];show(s.size:Int)=(j:Int);omega
def CX(t:AE):Prop:=(t.v=0/\A3 t.s)\/(65<=t.v.toNat/\t.v.toNat<=90/\t.s=lU)
def A3.size{s:zA}(h:A3 s):s.size≠0:=by
 rw[Bg];rcases h with⟨c,r,h,_⟩|h
 .rw[h];simp
 .rcases ES h with⟨c,e,_⟩|⟨c,d,e,_⟩|⟨c,d,f,e,_⟩<;>rw[e]<;>simp
def CX.zM{t:AE}(h:CX t):BK t:=by
 rcases h with⟨a,b⟩|h
 .exact lx ⟨a,b.size⟩
 .exact ly ⟨h.1,h.2.1⟩
def IR{s:zA}{j k:Nat}(h:j<s.size)(a:k<=s.size)(f:j<k):∃r,(s.extract j k).toList=s[j]::r/\Z r+1=k-j:=by
 obtain⟨d,e⟩:=IU h a f;obtain⟨r,c,b⟩:=Ht _ d;refine⟨r,by rw[c,e],?_⟩;rw[c,IZ _ _ _ a]at b;simpa using b
def Ke{p:UInt8->Bool}{s:zA}{i:Nat}(h:AC p s i≠i):∃a:i<s.size,p s[i]=j1:=by
 by_cases a:i<s.size
 .refine⟨a,?_⟩;cases hp:p s[i] with
  |true=>rfl
  |false=>exact absurd (ET p s i a hp) h
 .exact absurd (FX p s i a) h
def NP{p:UInt8->Bool}{s:zA}{i:Nat}(h:AC p s i≠i):AC p s i<=s.size:=by
 obtain⟨a,_⟩:=Ke h;exact Ci p s i (by omega)
def NF{s:zA}{at_:Nat}(h:(AY s at_ K).2.2=K):A3 (AY s at_ K).1:=by
 unfold AY at h⊢;rw[gV (by simp)]at h⊢;by_cases a:AC Az s (Ae s at_)=Ae s at_\/4<AC Az s (Ae s at_)-Ae s at_
 .rw[gY a]at h;cases h
 .rw[gV a];have b:AC Az s (Ae s at_)≠Ae s at_:=λe=>a (lx e)
  obtain⟨d,c⟩:=Ke b;have f:=B7 Az s (Ae s at_);obtain⟨r,e,_⟩:=IR d (NP b) (by omega:Ae s at_<AC Az s (Ae s at_));exact lx ⟨_,r,e,(Cs _).1 c⟩
def SZ{s:zA}{j:Nat}(i:j<s.size)(g:Ao s[j]=j1)(h:¬(3<AC Ao s j-j\/(s[j]=48/\1<AC Ao s j-j))):A3 (s.extract j (AC Ao s j)):=by
 have l:=B7 Ao s (j+1);rw[<-B5 Ao s j i g]at l;have n:=Ci Ao s j (by omega);obtain⟨r,e,d⟩:=IR i n (by omega:j<AC Ao s j);have f:=(Cc _).1 g;have p:¬3<AC Ao s j-j:=λx=>h (lx x)
 have k:1<AC Ao s j-j->49<=s[j].toNat:=by
  intro o;have m:s[j]≠48:=λx=>h (ly ⟨x,o⟩)
  have:s[j].toNat≠48:=λx=>m (jp.1 (by rw[x];rfl))
  omega
 refine ly ?_;rw[e]
 match r,d with
 |[],_=>simp only[bM];exact jH f
 |[a],d=>simp only[bM];exact jH ⟨k (by simp at d;omega),f.2⟩
 |[a,b],d=>simp only[bM];exact jH ⟨k (by simp at d;omega),f.2⟩
 |a::b::c::r,d=>simp at d;omega
def Jp{s:zA}{at_:Nat}(h:(AI s at_ K).2.2=K):CX (AI s at_ K).1:=by
 unfold AI at h⊢;rw[gV (by simp)]at h⊢;by_cases a:Ae s at_<s.size
 .rw[dif_pos a]at h⊢;cases hu:C2 s[Ae s at_] with
  |true=>
   rw[gY rfl];exact ly ⟨((E1 _).1 hu).1,((E1 _).1 hu).2,rfl⟩
  |false=>
   rw[hu,gV (by simp)]at h;rw[gV (by simp)];cases hd:Ao s[Ae s at_] with
   |false=>
    rw[hd,jb,gY rfl]at h;rw[jb,gY rfl];exact lx ⟨rfl,NF h⟩
   |true=>
    rw[hd,jW,gV (by simp)]at h;rw[jW,gV (by simp)];by_cases b:3<AC Ao s (Ae s at_)-Ae s at_\/(s[Ae s at_]=48/\1<AC Ao s (Ae s at_)-Ae s at_)
    .rw[gY b]at h;cases h
    .rw[gV b];exact lx ⟨rfl,SZ a hd b⟩
 .rw[dif_neg a]at h;cases h
def Wx{s:zA}{at_:Nat}(h:(Ch s at_).2.2=K):∀t∈(Ch s at_).1,CX t:=by
 fun_induction Ch s at_ with
 |case1 at_ hc _ _ ih=>
  intro t a;have b:(AI s at_ K).2.2=K:=by
   have:=hc.1;rw[iq]at this;simpa using this.1
  rcases gP.1 a with rfl|a
  .exact Jp b
  .exact ih h t a
 |case2 at_ hc=>
  intro t a;rw[gN]at a;subst a;exact Jp h
def Ii{s:zA}{a:Nat}{b:Bool}{c:UInt8}(h:(Bn s a b c).2=K):b=K:=by
 unfold Bn at h;cases b with
 |false=>rfl
 |true=>simp at h
structure Lh(A:Df):Prop where
 name:A3 A.name
 args:∀t∈A.args,CX t
def LT{s:zA}{at_:Nat}(h:(AS s at_ K).2.2=K):Lh (AS s at_ K).1:=by
 unfold AS at h⊢;simp only at h⊢;have a:=Ii h;have b:(Bn s (AY s (AM s at_ K) K).2.1 (AY s (AM s at_ K) K).2.2 40).2=K:=by
  cases hm:(Bn s (AY s (AM s at_ K) K).2.1 (AY s (AM s at_ K) K).2.2 40).2 with
  |false=>rfl
  |true=>unfold D2 at a;rw[hm,gY rfl]at a;cases a
 refine⟨NF (Ii b),?_⟩;unfold D2 at a⊢;rw[b,gV (by simp)]at a⊢;exact Wx a
def Do(x:Bi):Prop:=if(x.kind==97||x.kind==33)=j1 then Lh x.A else CX x.L/\CX x.R/\(x.kind=61\/x.kind=35\/x.kind=60)
def Sa{s:zA}{at_:Nat}(h:(Da s at_).2.2=K):Do (Da s at_).1:=by
 unfold Da at h⊢;simp only at h⊢;cases h33:D1 s (Ae s at_) 33 with
 |true=>
  rw[h33,gY rfl]at h;rw[gY rfl];unfold Do;rw[gY (by rfl)];exact LT h
 |false=>
  rw[h33,gV (by simp)]at h;rw[gV (by simp)];cases ho:(Fe s (Ae s at_)&&LG s (Ae s at_))with
  |true=>
   rw[ho,gY rfl]at h;rw[gY rfl];unfold Do;rw[gY (by rfl)];exact LT h
  |false=>
   rw[ho,gV (by simp)]at h;rw[gV (by simp)];unfold Ig at h⊢;generalize hg:AM s (AI s (Ae s at_) K).2.1 (AI s (Ae s at_) K).2.2=a3 at h⊢;cases hc:(!(AI s (Ae s at_) K).2.2&&(D1 s a3 61||D1 s a3 35||D1 s a3 60))with
   |false=>rw[hc,gV (by simp)]at h;cases h
   |true=>
    rw[hc,gY rfl]at h;rw[gY rfl];rw[iq]at hc;(have d:(AI s (Ae s at_) K).2.2=K:=by simpa using hc.1);have c:Cl s a3=61\/Cl s a3=35\/Cl s a3=60:=by
     have a:=hc.2;unfold Cl;by_cases b:a3<s.size
     .rw[dif_pos b];unfold D1 at a;rw[dif_pos b,dif_pos b,dif_pos b]at a;simp only[jx,jA]at a;rcases a with(a|a)|a
      .exact lx a
      .exact ly (lx a)
      .exact ly (ly a)
     .unfold D1 at a;rw[dif_neg b,dif_neg b,dif_neg b]at a;simp at a
    unfold Do;(have f:(Cl s a3==97||Cl s a3==33)=K:=by rcases c with e|e|e<;>rw[e]<;>rfl);rw[gV (by rw[f];simp)];exact⟨Jp d,Jp h,c⟩
def Pd{s:zA}{at_:Nat}(h:(Bl s at_).2.2=K):∀x∈(Bl s at_).1,Do x:=by
 fun_induction Bl s at_ with
 |case1 at_ hc _ _ ih=>
  intro t a;have b:(Da s at_).2.2=K:=by
   have:=hc.1;rw[iq]at this;simpa using this.1
  rcases gP.1 a with rfl|a
  .exact Sa b
  .exact ih h t a
 |case2 at_ hc=>
  intro t a;rw[gN]at a;subst a;exact Sa h
structure QG(c:Ck):Prop where
 head:Lh c.head
 body:∀x∈c.body,Do x
def Jg{s:zA}{a:Nat}{b:Bool}(h:(DG s a b).2.2=K):b=K/\∀x∈(DG s a b).1,Do x:=by
 unfold DG at h⊢;cases hc:(!b&&D1 s (AM s a b) 58)with
 |true=>
  rw[hc,gY rfl]at h;rw[gY rfl];have d:b=K:=by
   rw[iq]at hc;simpa using hc.1
  refine⟨d,?_⟩;cases h45:D1 s (BX s a b 58) 45 with
  |true=>
   rw[h45,gY rfl]at h;rw[gY rfl];exact Pd h
  |false=>rw[h45,gV (by simp)]at h;cases h
 |false=>
  rw[hc,gV (by simp)]at h;rw[gV (by simp)];exact⟨h,λx c=>by cases c⟩
def DF{s:zA}{at_:Nat}(h:(An s at_).2.2=K):QG (An s at_).1:=by
 unfold An at h⊢;simp only at h⊢;have a:=Jg (Ii h);exact⟨LT a.1,a.2⟩
def QX{s:zA}{at_:Nat}(h:(Ap s at_).2.2=K):∀c∈(Ap s at_).1,QG c:=by
 fun_induction Ap s at_ with
 |case1 at_ ha hc ih=>
  intro c a;rcases gP.1 a with rfl|a
  .exact DF hc.1
  .exact ih h c a
 |case2 at_ ha hc=>
  intro c a;rw[gN]at a;subst a;exact DF h
 |case3 at_ ha=>intro c a;cases a
def KL{s:zA}{at_:Nat}{cs:mc A6}(h:(Ap s at_).2.2=K)(d:cs.map A6.erase=(Ap s at_).1):
  ∀c∈cs,Lh c.head/\∀x∈Ak c,Do x:=by
 intro c b;have a:c.erase∈(Ap s at_).1:=by rw[<-d];exact it b
 have:=QX h _ a;exact⟨this.head,this.body⟩
def WN{s:zA}{at_:Nat}{cs:mc A6}(h:(Ap s at_).2.2=K)(d:cs.map A6.erase=(Ap s at_).1):
  ∀c∈cs,∀x∈Ak c,(x.kind==97)=j1->∀t∈x.A.args,BK t:=by
 intro c e x f a t b;have:=(KL h d c e).2 x f;unfold Do at this;rw[a,kN,gY rfl]at this;exact(this.args t b).zM
theorem Tryz.yV:(Tryz.prog.info? 189).map (λi=>(i.zero,i.size,i.bytes))=V (V (.agg #[X J 0,O ⟨#[]⟩,U Y 0 0,U Y 0 0]),4,72):=by kernel_rfl
def ZJ(r:Int):Ei r≠1:=by
 unfold Ei;split
 .simp
 .split
  .simp
  .split
   .simp
   .split<;>simp
def Vd(s:zA)(j:Nat)(h:j<s.size):(DQ s j).1.kind≠1/\(DQ s j).1.place=j/\(DQ s j).1.text.size<=s.size+4:=by
 unfold DQ;split
 .have:=Ci Az s j (by omega);refine⟨by simp,rfl,?_⟩;simp only[size_extract this];omega
 .split
  .have:=Ci Ao s j (by omega);refine⟨by simp,rfl,?_⟩;simp only[size_extract this];omega
  .split
   .refine⟨by simp,rfl,?_⟩;show 2<=s.size+4;omega
   .refine⟨ZJ _,rfl,?_⟩;have:=Xp ((Utf8.decode s j).1:Int);simp only[Cf];omega
def TE(s:zA):∀(n a:Nat),s.size-a<=n->Z (QM s a)<=s.size-a/\∀m∈QM s a,m.kind≠1/\m.place<=s.size/\m.text.size<=s.size+4
 |n,a,hn=>by
  by_cases h:Ae s a<s.size
  .have d:=BU s a;have f:=Qc s _ h;obtain⟨t1,t2,t3⟩:=Vd s _ h;rw[F5 rfl h]
   match n with
   |0=>omega
   |n+1=>
    obtain⟨e,c⟩:=TE s n (DQ s (Ae s a)).2 (by omega);refine⟨by simp only[gW];omega,λm b=>?_⟩;rcases gP.1 b with rfl|b
    .exact⟨t1,by omega,t3⟩
    .exact c m b
  .rw[IM h];exact⟨by simp,λm b=>by simp at b⟩
def Ye(m:AZ):(In m).place=m.place/\(In m).text=m.text/\(m.kind≠1->(In m).kind≠1):=by
 unfold In;split
 .exact⟨rfl,rfl,λh=>h⟩
 .exact⟨rfl,rfl,λ_=>by simp⟩
def IL(s:zA):Z (C4 s)<=s.size+1/\0<Z (C4 s):=by
 rw[Jn];unfold CM;have:=(TE s _ 0 (ig _)).1;simp;omega
def Rm(s:zA):∀m∈C4 s,m.place<=s.size/\m.text.size<=s.size+4:=by
 rw[Jn];unfold CM;intro m a;rcases ic.1 a with a|a
 .obtain⟨b,d,rfl⟩:=gX.1 a;obtain⟨e,c,_⟩:=Ye b;obtain⟨_,f,g⟩:=(TE s _ 0 (ig _)).2 b d;rw[e,c];exact⟨f,g⟩
 .simp at a;subst a;exact⟨ig _,ik _⟩
def Yp{s:zA}(d:s.size<=300):VB (C4 s):=by
 refine⟨λi h b=>?_,λi h=>?_⟩
 .by_cases c:i+1<Z (C4 s)
  .exact c
  .exfalso
   (have a:(C4 s).getLast?=V (EC s):=by unfold C4;simp);have:(C4 s)[i]?=V (EC s):=by
    rw[List.getLast?_eq_getElem?]at a;rw[show i=Z (C4 s)-1 by omega];exact a
   rw[gS h]at this;simp only[gT]at this;rw[this]at b;cases b
 .have:=(Rm s _ (gL h)).2;omega
def Xh{s:zA}(a:s.size<=300)(i:Nat):(As (C4 s) i).place<=1000000:=by
 by_cases h:i<Z (C4 s)
 .rw[<-Bb h];have:=(Rm s _ (gL h)).1;omega
 .unfold As;rw[ia,List.getElem?_eq_none (by omega)];simp
structure Db where
 hp:Int
 hn:zA
 zE:mc AQ
 hv:lN
 bv:lN
 zD:mc Ks
def Db.pc(c:Db):PC:=⟨c.hp,c.hn,c.zE,c.zD.map Prod.fst⟩
def Bc(c:Db):mc lN:=[X J c.hp,O c.hn,c.hv,c.bv]
structure On(w:l9)(base:Nat)(lv:lN)(c:Db):Prop where
 at_:Js w base c.hv c.bv c.zE c.zD
 ya:Cd c.hv lv
 yY:Cd c.bv lv
 yc:∀p∈c.zD,Cd p.2 lv
def On.kept{M:mc Nat}{w w':l9}{base:Nat}{a:lN}{c:Db}(h:On w base a c)(k:Ac M w w')(b:∀i,i∈M->i<base):On w' base a c:=
 ⟨h.at_.kept k b,h.ya,h.yY,h.yc⟩
def If{w w':l9}{base:Nat}{e:TypeId}{size:Nat}{v a:lN}{n:Nat}{b:mc lN}(h:lQ w base e size v n b)(k:Ac a.ownBlock.toList w w')(d:Cd v a):lQ w' base e size v n b:=
 Ai h k (λi f c=>d i f (by simpa using c))
def On.ze{w w':l9}{base:Nat}{d:lN}{c:Db}{g n cap H:Nat}(h:On w base d c)(k:Ac d.ownBlock.toList w w')(b:d.ownBlock=V g\/g=H)(e:w.heap.size<=H):On w' base (U (V ⟨g,0,Y⟩) n cap) c:=
 ⟨⟨If h.at_.head k h.ya,⟨If h.at_.body.row k h.yY,λp a=>⟨If (h.at_.body.each p a).1 k (h.yc p a),(h.at_.body.each p a).2⟩⟩⟩,
  Cd.ze h.ya h.at_.head b e,Cd.ze h.yY h.at_.body.row b e,λp a=>Cd.ze (h.yc p a) (h.at_.body.each p a).1 b e⟩
def Nn{w o:l9}{e l:TypeId}{c i n m base:Nat}{v a:lN}{j d:mc lN}(h:lQ o w.heap.size e c v n j)(g:lQ w base l i a m d):Cd v a:=by
 intro k b f;have:=(h.lt k b).1;have:=(g.lt k f).2;omega
structure FR(w:l9)(base:Nat)(lv:lN)(cs:mc Db):Prop where
 row:lQ w base 189 4 lv (Z cs) (cs.flatMap Bc)
 each:∀c∈cs,On w base lv c
def FR.kept{M:mc Nat}{w w':l9}{base:Nat}{a:lN}{cs:mc Db}(h:FR w base a cs)(k:Ac M w w')(b:∀i,i∈M->i<base):FR w' base a cs:=
 ⟨Ad h.row k b,λc d=>(h.each c d).kept k b⟩
def FR.base{w:l9}{base base':Nat}{b:lN}{cs:mc Db}(h:FR w base b cs)(d:base'<=base):FR w base' b cs:=
 ⟨Am h.row d,λc a=>⟨(h.each c a).at_.base d,(h.each c a).ya,(h.each c a).yY,(h.each c a).yc⟩⟩
def FR.nil(w:l9)(base:Nat):FR w base (U Y 0 0) []:=⟨ip _ _ _ _,λp a=>by simp at a⟩
def dF(w:l9)(e:Ending)(w':l9):Except Int (mc PC)->Prop
 | .ok cs=>∃ad cp pcs,e=lo (.tuple #[U ad (Z cs) cp,X J 0,lT j1])/\pcs.map Db.pc=cs/\FR w' w.heap.size (U ad (Z cs) cp) pcs/\Ac [] w w'
 | .error p=>e=lo (.tuple #[U Y 0 0,X J p,lT K])/\Ac [] w w'
set_option maxRecDepth 100000
theorem Jm(s:zA)(w:l9)(hs:s.size<=300):
  Calls prog 71 #[O s] w λe G=>dF w e G (C1 (C4 s) 0 []):=by
 obtain⟨i0,LC,Jx,LM,K9⟩:=iR Tryz.yV;have HO:=Ab (Yp hs);have HI:=Ab (Xh hs);have FT:=IL s;have FB:=Ab (XL s w hs);obtain⟨R,hR⟩:∃R,C1 (C4 s) 0 []=R:=⟨_,rfl⟩;rw[hR];have BT:=Ab hR;clear hR;generalize C4 s=ms at HO HI FT FB BT;have M2:Z ms<=1000:=by omega
 go_enter func71,ntmps71;go_wp2_with fail
 refine FB.mono ?_;rintro e x ⟨mv,rfl,Bx,k1⟩;clear FB;obtain⟨C,m,rfl⟩:=Al Bx;have HD:=mf x [U C (Z ms) m,X J 0,X J 0] 203;have HN:=Am (gU Bx (j2 [U C (Z ms) m,X J 0,X J 0].toArray 203)) (ik _);have HQ:(U C (Z ms) m).ownBlock≠V x.heap.size:=λe=>by have:=(Bx.lt _ e).2;omega
 have HM:B3 (x.alloc (j2 [U C (Z ms) m,X J 0,X J 0].toArray 203)) x.heap.size (U C (Z ms) m) ms 0 0:=⟨HD,HN,HQ,FT.2,by omega⟩;have H1:=k1.alloc (j2 [U C (Z ms) m,X J 0,X J 0].toArray 203);have I:=Ab HM;have EM:=Ab H1;have H6:w.heap.size<=x.heap.size:=k1.size;have B0:(x.alloc (j2 [U C (Z ms) m,X J 0,X J 0].toArray 203)).heap.size=x.heap.size+1:=by simp
 clear HD HN HQ HM H1 Bx k1;go_wp2;change Code.wp _ _ _ _ (x.alloc (j2 [U C (Z ms) m,X J 0,X J 0].toArray 203));generalize x.alloc (j2 [U C (Z ms) m,X J 0,X J 0].toArray 203)=w2 at I EM B0⊢;obtain⟨b,H4⟩:∃b,x.heap.size=b:=⟨_,rfl⟩;rw[H4]at I H6 B0⊢;clear H4;obtain⟨g,NM,HY,_,_,_,_⟩:=I.cells;simp only[gM]at HY;obtain⟨rfl,_,rfl⟩:=HY;have H5:Hid (∀k,b+1<=k->(U (V ⟨g,0,Y⟩) (Z ms) m).ownBlock≠V k):=λk y e=>by have:=(I.row.lt k e).2;omega
 go_loopg [2] (Z ms) (λgk o wr=>∃(j:Nat) (acc:mc Db) (z:Option Addr) (B:Nat),o=U z (Z acc) B/\gk=Z ms-j/\Hid (C1 ms j (acc.map Db.pc)=R)/\Hid (B3 wr b (U (V ⟨g,0,Y⟩) (Z ms) m) ms j 0)/\Hid (FR wr (b+1) (U z (Z acc) B) acc)/\Hid (Ac [] w wr)/\b+1<=wr.heap.size/\Z acc<=j)
 case atStart=>exact⟨0,[],Y,0,rfl,rfl,BT,I,FR.nil _ _,EM,by omega,by simp⟩
 case round=>
  clear I BT EM B0;obtain⟨j,acc,z,B,rfl,H0,N,HR,HP,HK,FP,M0⟩:=hrel;have HG:=Ab H0;clear H0;have S:=HR.lt;have NL:(j:Int)<(Z ms:Int):=by omega
  have MY:(0:Int)<=(j:Int):=by omega
  obtain⟨g',M1,he,b0,b1,_,hc⟩:=HR.cells;simp only[gM,gT,iL]at he;obtain⟨⟨rfl,_⟩,_,rfl⟩:=he;obtain⟨c0,_,_⟩:=hc j S;clear hc;rw[Bb S]at c0;obtain⟨P,AO⟩:∃P,(As ms j).kind=P:=⟨_,rfl⟩;rw[AO]at c0;go_wp2_with fail
  go_region_held3 (λG=>lP G ⟨b,0,Y⟩=V (U (V ⟨g,0,Y⟩) (Z ms) m)/\lP G ⟨b,1,Y⟩=V (X J j)/\lP G ⟨g,j*3,Y⟩=V (X J P)) (go_keep) (fail)
  rename_i K7;clear K7 b0 b1 c0;cases y:(P==1)with
  |true=>
   (have IS:(P !=1)=K:=by simp[bne,y]);(have HF:Hid (R=.ok (acc.map Db.pc)):=by show _=_;rw[<-Aa N];exact Nh S (by rw[AO];exact y));clear y AO N;go_wp2;go_ret3;rw[HF.out];exact⟨z,B,acc,by simp,rfl,by simpa using(HP.kept (me [] wr).drew (by simp)).base (by omega),HK.drew⟩
  |false=>
   (have IS:(P !=1)=j1:=by simp[bne,y]);(have AT:Hid (((As ms j).kind==1)=K):=by show _=_;rw[AO];exact y);clear y AO;(go_wp2_with fail);refine(Up b (U (V ⟨g,0,Y⟩) (Z ms) m) ms j 0 _ (HR.zI (me [] wr).drew) HO HI).mono ?_;intro e v T;have D:=Ab (HP.kept (me [] wr).drew (by simp));have W:=Ab (HK.drew);have KS:b+1<=wr.drew.heap.size:=FP;clear HR HP HK FP;generalize wr.drew=w5 at T D W KS;cases ht:Cj ms j with
   |error q=>
    rw[ht]at T;obtain⟨n9,hp,hn,LL,n8,LE,K3,n2,H8,rfl,Q,F⟩:=T;(have HF:Hid (R=.error q):=by show _=_;rw[<-Aa N];exact Ka S AT ht);have KK:=Ab (W.trans' F (λi A=>ly (by simp at A;omega)));(have d2:=λo=>(Q.zO.alloc o).cell 2);simp at d2;clear ht N AT Q F D W;simp only[A8];(go_wp2_with fail);have M6:=d2 (j2 [X J hp,O hn,U LL n8 LE,U K3 n2 H8].toArray 189)
    go_region_held3 (λG=>lP G ⟨b,2,Y⟩=V (X J q)) (go_keep) (fail)
    rename_i H9;clear H9;go_wp2;go_ret3;rw[HF.out];exact⟨rfl,(KK.alloc _).drew⟩
   |ok r=>
    obtain⟨c,n1⟩:=r;rw[ht]at T;have MB:=GG ht;obtain⟨u,f,l,h,M,rfl,HJ,A2,Q,F⟩:=T;have HT:=Ab (QB (acc:=acc.map Db.pc) S AT ht);clear ht AT;obtain⟨n,d,a,NB⟩:=c;simp only at HJ A2;subst HJ;have Mo:=F.size;have FC:=Ad D.row F (by simp);(have HU:Hid (∀q∈acc,On v (b+1) (U z (Z acc) B) q):=λq E=>(D.each q E).kept F (by simp));have B9:Hid (On v (b+1) (U z (Z acc) B) ⟨n,d,a,U u (Z a) f,U l (Z (M.map Prod.fst)) h,M⟩):=by
     have DT:=A2.base (base':=w5.heap.size) (by omega);refine⟨A2.base (by omega),?_,?_,?_⟩
     .exact Nn DT.head D.row
     .exact Nn DT.body.row D.row
     .exact λp hp=>Nn (DT.body.each p hp).1 D.row
    have HZ:=Ab (W.trans' F (λi A=>ly (by simp at A;omega)));have L:=Ab Q;have Nq:=Q.lt;clear A2 Q F D W;generalize hnl:Z (M.map Prod.fst)=nl at B9;have H2:((v.alloc (j2 (j3 (A8 n d (U u (Z a) f) (U l nl h))) 189)).alloc (j2 (j3 (A8 n d (U u (Z a) f) (U l nl h))) 189)).heap[v.heap.size+1]?=V (j2 (j3 (A8 n d (U u (Z a) f) (U l nl h))) 189 (0,0)):=by
     have hh:=iD (v.alloc (j2 (j3 (A8 n d (U u (Z a) f) (U l nl h))) 189)) (j2 (j3 (A8 n d (U u (Z a) f) (U l nl h))) 189);rw[show(v.alloc (j2 (j3 (A8 n d (U u (Z a) f) (U l nl h))) 189)).heap.size=v.heap.size+1 from by simp]at hh
     exact hh
    have HV:=gU (gU FC (j2 (j3 (A8 n d (U u (Z a) f) (U l nl h))) 189)) (j2 (j3 (A8 n d (U u (Z a) f) (U l nl h))) 189);(have Nd:Z acc<=1000:=by omega);have M3:=Ab hnl;clear hnl;simp only[A8];go_wp2_with (at_builtin;refine io _ rfl (.tmp 35) (.tmp 37) _ rfl (b+1) 189 i0 _ 4 72 underlying66 LC Jx LM K9 rfl (by omega) (U z (Z acc) B) (Z acc) (acc.flatMap Bc) rfl HV ⟨v.heap.size+1,0,Y⟩ 1 1 (A8 n d (U u (Z a) f) (U l nl h)) rfl rfl (iu (cs:=j3 (A8 n d (U u (Z a) f) (U l nl h))) (t:=189) (fr:=(0,0)) H2) (by simp[Value.oneCell',A8]) (by omega) (by unfold maxLen;omega) (by omega) (by simp;omega) (v.heap.size+1+1) (by simp) ?_;intro g1 Ha w9 HS HA BS Ix)
    have H:Ac (U z (Z acc) B).ownBlock.toList v w9:=(((me _ v).alloc _).alloc _).grown HA (λk y=>lx (by simp[y]));(have A1:∀i∈(U z (Z acc) B).ownBlock.toList,b+1<=i:=λi A=>(FC.lt i (by simpa using A)).1);have HB:B3 w9 b (U (V ⟨g,0,Y⟩) (Z ms) m) ms n1 0:=⟨L.zO.kept H (λhm=>by have:=A1 b hm;omega),Ai L.row H (λi A hm=>by have:=A1 i hm;exact absurd A (H5 i this)),L.ap,L.lt,L.len⟩;have HC:Ac [] w w9:=HZ.trans' H (λi A=>ly (by have:=A1 i A;omega));have K8:Hid (FR w9 (b+1) (U (V ⟨g1,0,Y⟩) (Z acc+1) Ha) (acc++[⟨n,d,a,U u (Z a) f,U l nl h,M⟩])):=by
     refine⟨by simpa[Bc,A8] using HS,?_⟩;intro q E;rcases ic.1 E with E|E
     .exact(HU q E).ze H BS (by omega)
     .simp only[gN]at E;subst E;exact B9.ze H BS (by omega)
    have K4:Hid (C1 ms n1 ((acc++[(⟨n,d,a,U u (Z a) f,U l nl h,M⟩:Db)]).map Db.pc)=R):=by
     show _=_;rw[<-Aa N,Aa HT];simp[Db.pc]
    (have L0:b+1<=w9.heap.size:=by have:=H.size;omega);have JJ:=Ab HB;have K6:=Ab HC;clear H A1 HB HC HA BS Ix HS H2 HV FC HU B9 HZ L N HT
    go_roundg (Z ms-n1)
    case measure=>have:=Aa HG;omega
    case rel=>exact⟨n1,acc++[⟨n,d,a,U u (Z a) f,U l nl h,M⟩],V ⟨g1,0,Y⟩,Ha,by simp,rfl,K4,JJ,by simpa using K8,K6,L0,by simp;omega⟩
def XE{s:zA}{ms:mc AZ}{d a j:Nat}(h:At s ms d a)(q:a<=s.size)(c:Ae s a=j):
  (((As ms d).kind==2)=j1/\∃g,AY s j K=((As ms d).text,g,K)/\At s ms (d+1) g/\g<=s.size)\/
  (((As ms d).kind==2)=K/\AY s j K=(lU,j,j1)):=by
 have e:Ae s j=j:=by rw[<-c];exact Cb s a
 rw[h.head];by_cases b:j<s.size
 .have k:=h.next c b;cases hl:Az s[j] with
  |true=>
   obtain⟨m,o⟩:=GR c b hl;rw[o]at k;(have p:j<AC Az s j:=by rw[B5 _ _ _ b hl];have:=B7 Az s (j+1);omega);have l:=Ci Az s j (by omega);rw[m];by_cases f:AC Az s j-j<=4
   .left;refine⟨by simp[f],_,Kf e rfl (by omega),k,l⟩
   .right;exact⟨by simp[f],DY e rfl (by omega)⟩
  |false=>
   right;refine⟨?_,DY e (ET _ _ _ b hl) (lx rfl)⟩;(have r:¬(97<=s[j].toNat/\s[j].toNat<=122):=λh=>by rw[(Cs _).2 h]at hl;cases hl);by_cases n:s[j].toNat<128
   .cases hd:Ao s[j] with
    |true=>
     rw[(E4 c b hl hd).1];by_cases f:3<AC Ao s j-j\/(s[j]=48/\1<AC Ao s j-j)<;>simp[f]
    |false=>
     by_cases i:s[j]=58/\D1 s (j+1) 45=j1
     .rw[(JE c b i.1 i.2).1];rfl
     .rw[(Gn c b hl hd i n).1];simp only[iw,ne_eq,F7];omega
   .rw[(GS c b (by omega)).1];rfl
 .right;rw[Hh (by omega)];exact⟨rfl,DY e (FX _ _ _ b) (lx rfl)⟩
def Mt(s:zA)(a:Nat)(c:UInt8):BX s a j1 c=a:=by simp[BX,AM]
def Mk{s:zA}{a:Nat}{c:UInt8}(h:D1 s (Ae s a) c=j1):BX s a K c=Ae s a+1:=by simp[BX,AM,h]
def PY{s:zA}{a:Nat}{c:UInt8}(h:D1 s (Ae s a) c=K):BX s a K c=Ae s a:=by simp[BX,AM,h]
def FG(s:zA)(a:Nat)(c:UInt8):Bn s a j1 c=(a,j1):=by simp[Bn,Mt]
def LY{s:zA}{a:Nat}{c:UInt8}(h:D1 s (Ae s a) c=j1):Bn s a K c=(Ae s a+1,K):=by simp[Bn,Mk h,AM,h]
def M9{s:zA}{a:Nat}{c:UInt8}(h:D1 s (Ae s a) c=K):Bn s a K c=(Ae s a,j1):=by simp[Bn,PY h,AM,h]
def Yj{s:zA}{ms:mc AZ}:∀(k d a:Nat) (g:mc AQ),Z ms-d<=k->At s ms d a->a<=s.size->
  Ok (λts (L:mc AE)=>ts=g++L.map ct) s ms (Gf ms d g) ((Ch s a).1,Bn s (Ch s a).2.1 (Ch s a).2.2 41)
 |k,d,a,g,hk,h,ha=>by
  have w:=h.lt;have f:=Ts h ha;obtain⟨j,b,u,i⟩:∃j b u,AI s a K=(j,b,u):=⟨_,_,_,rfl⟩;rw[i]at f;unfold Gf;rw[dif_pos w];cases hM:Ft (As ms d) d with
  |error p=>
   rw[hM]at f;obtain⟨rfl,rfl⟩:=f;rw[LK i (by simp)];simp only[Mt,FG];exact⟨rfl,rfl⟩
  |ok r=>
   obtain⟨t,A⟩:=r;rw[hM]at f;have z:=FH hM;subst z;obtain⟨rfl,rfl,q,v⟩:=f;simp only;have y:=DW (s:=s) (a:=b) (c:=44) (by simp[EJ]);have x:=DW (s:=s) (a:=b) (c:=41) (by simp[EJ]);rw[q.head,show Hv=⟨#[44]⟩from rfl,show Ow=⟨#[41]⟩from rfl,y,x];cases hc:D1 s (Ae s b) 44 with
   |true=>
    obtain⟨_,e⟩:=P4 i ha (by simp[AM,hc]);rw[Mk hc]at e;obtain⟨o,m⟩:=q.take (by simp[EJ]) hc;rw[e];simp only[if_true]
    match k with
    |0=>omega
    |k+1=>
     have ih:=Yj k (d+2) (Ae s b+1) (g++[ct j]) (by omega) o m
     revert ih
     generalize Gf ms (d+2) (g++[ct j])=X;intro ih
     match X,ih with
     | .ok (ts,n),ih=>exact⟨ih.1,by rw[ih.2.1];simp,ih.2.2⟩
     | .error p,ih=>exact ih
   |false=>
    rw[LK i (by simp[AM,hc])];simp only[gO,if_false,PY hc];have l:Ae s (Ae s b)=Ae s b:=Cb s b;cases hcl:D1 s (Ae s b) 41 with
    |true=>
     obtain⟨o,m⟩:=q.take (by simp[EJ]) hcl;rw[LY (by rw[l];exact hcl),l];simp only[if_true];exact⟨rfl,rfl,o,m⟩
    |false=>
     rw[M9 (by rw[l];exact hcl),l,Dj v];simp only[gO,if_false];exact⟨rfl,rfl⟩
def Tk{s:zA}{ms:mc AZ}{b a:Nat}(h:At s ms b a)(g:a<=s.size):
  Ok (λx (A:Df)=>x=(A.at_,A.name,A.args.map ct)) s ms (EW ms b) (AS s a K):=by
 have o:AM s a K=Ae s a:=rfl;have j:(As ms b).place=Ae s a:=by rw[h.head,Dj g]
 unfold EW AS;simp only[o];rcases XE h g rfl with⟨e,f,d,i,k⟩|⟨e,d⟩
 .rw[d,e];simp only[if_true];have q:=DW (s:=s) (a:=f) (c:=40) (by simp[EJ]);rw[i.head,show R6=⟨#[40]⟩from rfl,q];cases hc:D1 s (Ae s f) 40 with
  |true=>
   obtain⟨l,m⟩:=i.take (by simp[EJ]) hc;rw[LY hc];simp only[if_true,D2,gO,if_false];have ih:=Yj _ (b+2) (Ae s f+1) [] (ig _) l m
   revert ih
   generalize Gf ms (b+2) []=X;intro ih
   match X,ih with
   | .ok (ts,n),ih=>exact⟨ih.1,by rw[ih.2.1,j];simp,ih.2.2⟩
   | .error p,ih=>exact ih
  |false=>
   rw[M9 hc,Dj k];simp only[gO,if_false,D2,if_true,FG];exact⟨rfl,rfl⟩
 .rw[d,e,j];simp only[gO,if_false,FG,D2,if_true];exact⟨rfl,rfl⟩
def Fs(k:UInt8):Int:=if k=97 then 0 else if k=33 then 1 else if k=61 then 2 else if k=35 then 3 else 4
def KF(x:Bi):PL:=⟨x.at_,Fs x.kind,x.A.at_,x.A.name,x.A.args.map ct,ct x.L,ct x.R⟩
def eD:ct Dm=AD:=rfl
def eV{s:zA}{ms:mc AZ}{d a j:Nat}(h:At s ms d j)(z:j<=s.size)(Q:Ae s j=j):
  Ok (λx (y:Bi)=>JG (.inr x)=KF y/\x.atom=AX) s ms (Hi ms d) (Ig s j (AM s (AI s j K).2.1 (AI s j K).2.2) (AI s j K).1 (AI s j K).2.2):=by
 have E:(As ms d).place=j:=by rw[h.head,Dj z,Q]
 have e:=Ts h z;obtain⟨k,b,u,w⟩:∃k b u,AI s j K=(k,b,u):=⟨_,_,_,rfl⟩;rw[w]at e;rw[w];unfold Hi Ig;cases hM:Ft (As ms d) d with
 |error p=>
  rw[hM]at e;obtain⟨rfl,rfl⟩:=e;simp only[jW,kq,gO,if_false,Km];exact⟨rfl,rfl⟩
 |ok r=>
  obtain⟨t,W⟩:=r;rw[hM]at e;have F:=FH hM;subst F;obtain⟨rfl,rfl,q,B⟩:=e;simp only;have G:=DW (s:=s) (a:=b) (c:=61) (by simp[EJ]);have H:=DW (s:=s) (a:=b) (c:=35) (by simp[EJ]);have L:=DW (s:=s) (a:=b) (c:=60) (by simp[EJ]);have I:AM s b K=Ae s b:=rfl;rw[q.head,I];unfold MD;rw[show fT=⟨#[61]⟩from rfl,show fR=⟨#[35]⟩from rfl,show fQ=⟨#[60]⟩from rfl,G,H,L];have m:∀(c:UInt8) (l:Int),c∈EJ->Fs c=l->D1 s (Ae s b) c=j1->Cl s (Ae s b)=c/\
    Ok (λx (y:Bi)=>JG (.inr x)=KF y/\x.atom=AX) s ms
     (match Ft (As ms (d+1+1)) (d+1+1)with| .error p=> .error p| .ok (r,n2)=> .ok (⟨(As ms d).place,l,AX,ct k,r⟩,n2))
     (⟨c,Gy,k,(AI s (Ae s b+1) K).1,j⟩,(AI s (Ae s b+1) K).2):=by
   intro c l S R n;have o:=Fl n;refine⟨by rw[Ey o];simpa[D1,o] using n,?_⟩;obtain⟨D,P⟩:=q.take S n;have i:=Ts D P;obtain⟨t2,v,fy,A⟩:∃t2 v fy,AI s (Ae s b+1) K=(t2,v,fy):=⟨_,_,_,rfl⟩;rw[A]at i;rw[A];cases hM2:Ft (As ms (d+1+1)) (d+1+1)with
   |error p=>
    rw[hM2]at i;obtain⟨rfl,rfl⟩:=i;exact⟨rfl,rfl⟩
   |ok r=>
    obtain⟨t3,T⟩:=r;rw[hM2]at i;have M:=FH hM2;subst M;obtain⟨rfl,rfl,N,C⟩:=i;refine⟨rfl,⟨?_,rfl⟩,N,C⟩;simp[JG,KF,R,E,Gy]
  cases h61:D1 s (Ae s b) 61 with
  |true=>
   obtain⟨f,g⟩:=m 61 2 (by simp[EJ]) rfl h61;rw[f];simp only[if_true,jb,kN,kf];exact g
  |false=>
   cases h35:D1 s (Ae s b) 35 with
   |true=>
    obtain⟨f,g⟩:=m 35 3 (by simp[EJ]) rfl h35;rw[f];simp only[if_true,jb,kN,lm,kf,gO,if_false];exact g
   |false=>
    cases h60:D1 s (Ae s b) 60 with
    |true=>
     obtain⟨f,g⟩:=m 60 4 (by simp[EJ]) rfl h60;rw[f];simp only[if_true,jb,lm,kf,gO,if_false];exact g
    |false=>
     simp only[lM,ks,gO,if_false,Dj B];exact⟨rfl,rfl⟩
def eS{s:zA}{ms:mc AZ}{b a:Nat}(h:At s ms b a)(C:a<=s.size):
  Ok (λx (y:Bi)=>JG x=KF y) s ms (Hl ms b) (Da s a):=by
 obtain⟨j,f⟩:∃j,Ae s a=j:=⟨_,rfl⟩;have e:Ae s j=j:=by rw[<-f];exact Cb s a
 have l:j<=s.size:=by rw[<-f];exact Bp s a C
 have k:At s ms b j:=by rw[<-f];exact h.gap
 have F:(As ms b).place=j:=by rw[h.head,Dj C,f]
 unfold Hl Da;simp only[f];have P:=DW (s:=s) (a:=a) (c:=33) (by simp[EJ]);rw[h.head,show Xk=⟨#[33]⟩from rfl,P,f,<-h.head,F];cases h33:D1 s j 33 with
 |true=>
  obtain⟨v,z⟩:=k.take (c:=33) (by simp[EJ]) (by rw[e];exact h33);rw[e]at v z;simp only[if_true];have ih:=Tk v z;obtain⟨A,i,fy,r⟩:∃A i fy,AS s (j+1) K=(A,i,fy):=⟨_,_,_,rfl⟩;rw[r]at ih⊢
  revert ih
  generalize EW ms (b+1)=X;intro ih
  match X,ih with
  | .ok ((p,n,ts),m),ih=>
   obtain⟨u,g,t⟩:=ih;refine⟨u,?_,t⟩;simp only[iE]at g;obtain⟨rfl,rfl,rfl⟩:=g;simp[JG,KF,Fs,eD]
  | .error p,ih=>exact ih
 |false=>
  simp only[gO,if_false];have H:Ez ms b=(Fe s j&&LG s j):=by
   unfold Ez;have E:=h.lt;have M:ms[b]?=V (As ms b):=by
    unfold As;rw[ia,gS E];rfl
   rw[M];rcases XE k l e with⟨o,I,d,w,Q⟩|⟨o,d⟩
   .have G:=w.lt;have N:ms[b+1]?=V (As ms (b+1)):=by
     unfold As;rw[ia,gS G];rfl
    have L:=DW (s:=s) (a:=I) (c:=40) (by simp[EJ]);have D:Fe s j=j1:=by
     unfold Fe;by_cases q:j<s.size
     .rw[dif_pos q];cases hl:Az s[j] with
      |true=>rfl
      |false=>rw[DY e (ET _ _ _ q hl) (lx rfl)]at d;simp at d
     .rw[DY e (FX _ _ _ q) (lx rfl)]at d;simp at d
    unfold LG;rw[N,d,D];simp only[o,jq,jb];rw[w.head,show R6=⟨#[40]⟩from rfl,L];rfl
   .unfold LG;rw[d];simp only[jW,kq,ks];split
    .rename_i m S B R;simp only[gT]at B;rw[<-B,o,kq]
    .rfl
  rw[H];cases hop:(Fe s j&&LG s j)with
  |true=>
   simp only[if_true];have ih:=Tk k l;obtain⟨A,i,fy,r⟩:∃A i fy,AS s j K=(A,i,fy):=⟨_,_,_,rfl⟩;rw[r]at ih⊢
   revert ih
   generalize EW ms b=X;intro ih
   match X,ih with
   | .ok ((p,n,ts),m),ih=>
    obtain⟨u,g,t⟩:=ih;refine⟨u,?_,t⟩;simp only[iE]at g;obtain⟨rfl,rfl,rfl⟩:=g;simp[JG,KF,Fs,eD]
   | .error p,ih=>exact ih
  |false=>
   simp only[gO,if_false];have ih:=eV (a:=a) k l e
   revert ih
   generalize Hi ms b=X;intro ih
   match X,ih with
   | .ok (c,m),ih=>exact⟨ih.1,ih.2.1.1,ih.2.2⟩
   | .error p,ih=>exact ih
def To{s:zA}{ms:mc AZ}:∀(k i a:Nat) (g:mc PL),Z ms-i<=k->At s ms i a->a<=s.size->
  Ok (λls (L:mc Bi)=>ls=g++L.map KF) s ms (EB ms i g) (Bl s a)
 |k,i,a,g,hk,h,ha=>by
  have o:=h.lt;have f:=eS h ha;obtain⟨d,b,m,j⟩:∃d b m,Da s a=(d,b,m):=⟨_,_,_,rfl⟩;rw[j]at f;cases hM:Hl ms i with
  |error p=>
   rw[hM]at f;obtain⟨rfl,rfl⟩:=f;rw[LU j (by simp),Hp o hM,Mt];exact⟨rfl,rfl⟩
  |ok r=>
   obtain⟨t,q⟩:=r;rw[hM]at f;have A:=IA hM;obtain⟨rfl,w,l,u⟩:=f;have z:JG t=KF d:=w;have x:=DW (s:=s) (a:=b) (c:=44) (by simp[EJ]);rw[MC o hM,l.head,show Hv=⟨#[44]⟩from rfl,x,z];cases hc:D1 s (Ae s b) 44 with
   |true=>
    obtain⟨_,e⟩:=PE j ha (by simp[AM,hc]);rw[Mk hc]at e;obtain⟨v,y⟩:=l.take (by simp[EJ]) hc;rw[e];simp only[if_true]
    match k with
    |0=>omega
    |k+1=>
     have ih:=To k (q+1) (Ae s b+1) (g++[KF d]) (by omega) v y
     revert ih
     generalize EB ms (q+1) (g++[KF d])=X;intro ih
     match X,ih with
     | .ok (ts,n),ih=>exact⟨ih.1,by rw[ih.2.1];simp,ih.2.2⟩
     | .error p,ih=>exact ih
   |false=>
    rw[LU j (by simp[AM,hc]),PY hc];simp only[gO,if_false];exact⟨rfl,by simp,l.gap,Bp s b u⟩
def cX(c:Ck):PC:=⟨c.head.at_,c.head.name,c.head.args.map ct,c.body.map KF⟩
def cD{s:zA}{ms:mc AZ}{n a:Nat}{c:PC}{C:Ck}(h:At s ms n a)(b:a<=s.size)(g:c=cX C/\C.at_=C.head.at_):
  Ok (λx (y:Ck)=>x=cX y/\y.at_=y.head.at_) s ms (MP ms n c) (C,Bn s a K 46):=by
 have e:=DW (s:=s) (a:=a) (c:=46) (by simp[EJ]);unfold MP;rw[h.head,show Yb=⟨#[46]⟩from rfl,e,Dj b];cases hd:D1 s (Ae s a) 46 with
 |true=>
  obtain⟨d,f⟩:=h.take (by simp[EJ]) hd;rw[LY hd];exact⟨rfl,g,d,f⟩
 |false=>
  rw[M9 hd];exact⟨rfl,rfl⟩
def eZ(s:zA)(a:Nat):BM (BD s a) Yv=(D1 s (Ae s a) 58&& !(D1 s (Ae s a+1) 45))/\BM (BD s a) eo=(D1 s (Ae s a) 58&&D1 s (Ae s a+1) 45):=by
 obtain⟨j,b⟩:∃j,Ae s a=j:=⟨_,rfl⟩;rw[b];unfold BM;by_cases h:j<s.size
 .have o:D1 s j 58=(s[j]==58):=by simp[D1,h]
  rw[o];by_cases c:s[j]=58/\D1 s (j+1) 45=j1
  .rw[(JE b h c.1 c.2).1,c.1,c.2];have k:(eo.toList==Yv.toList)=K:=by
    rw[show eo.toList=[58,45] from by rw[iy];rfl,show Yv.toList=[58] from by rw[iy];rfl]
    rfl
   (have n:(eo.toList==eo.toList)=j1:=by simp);constructor
   .rw[k];rfl
   .rw[n];rfl
  .have i:∀x:UInt8,((⟨#[x]⟩:zA).toList==eo.toList)=K:=by
    intro x;rw[show eo.toList=[58,45] from by rw[iy];rfl,show(⟨#[x]⟩:zA).toList=[x] from by rw[iy]]
    simp
   by_cases f:s[j].toNat<128
   .cases hl:Az s[j] with
    |true=>
     (have:s[j]≠58:=λe=>by rw[e]at hl;cases hl);rw[(GR b h hl).1];by_cases d:AC Az s j-j<=4<;>simp[d,this]
    |false=>
     cases hd:Ao s[j] with
     |true=>
      (have:s[j]≠58:=λe=>by rw[e]at hd;cases hd);rw[(E4 b h hl hd).1];by_cases d:3<AC Ao s j-j\/(s[j]=48/\1<AC Ao s j-j)<;>simp[d,this]
     |false=>
      rw[(Gn b h hl hd c f).1];rw[show Yv=⟨#[58]⟩from rfl];simp only[R2,i,ks];cases he:(s[j]==58)with
      |false=>simp
      |true=>
       (have g:s[j]=58:=by simpa using he);have m:D1 s (j+1) 45=K:=by
        cases d:D1 s (j+1) 45 with
        |false=>rfl
        |true=>exact absurd ⟨g,d⟩ c
       rw[g,m];exact⟨rfl,rfl⟩
   .have:=GS b h (by omega);have l:(s[j]==58)=K:=by
     simp only[iw,ne_eq];intro e;rw[e]at f;simp at f
    rw[this.1,l];exact⟨rfl,rfl⟩
 .rw[Hh (by omega)];simp[EC,D1,h]
def Zf{s:zA}{ms:mc AZ}{l a:Nat}(h:At s ms l a)(Q:a<=s.size):
  Ok (λx (y:Ck)=>x=cX y/\y.at_=y.head.at_) s ms (Cj ms l) (An s a):=by
 have E:=h.gap;have P:=Bp s a Q;have I:Ae s (Ae s a)=Ae s a:=Cb s a;have d:=Tk E P;obtain⟨A,b,u,k⟩:∃A b u,AS s (Ae s a) K=(A,b,u):=⟨_,_,_,rfl⟩;have q:A.at_=Ae s a:=by
  have:(AS s (Ae s a) K).1.at_=Ae s a:=by
   unfold AS;simp only;show Ae s (Ae s a)=Ae s a;exact I
  rw[k]at this;exact this
 rw[k]at d;unfold Cj An;simp only[k];cases hM:EW ms l with
 |error p=>
  rw[hM]at d;obtain⟨rfl,rfl⟩:=d;simp only[DG,jW,kq,gO,if_false,Mt,FG];exact⟨rfl,rfl⟩
 |ok r=>
  obtain⟨⟨p,n,W⟩,m⟩:=r;rw[hM]at d;obtain⟨rfl,v,i,o⟩:=d;simp only[iE]at v;obtain⟨rfl,rfl,rfl⟩:=v;obtain⟨G,H⟩:=eZ s b;have F:AM s b K=Ae s b:=rfl;simp only;rw[i.head,G,H];unfold DG;rw[F];cases h58:D1 s (Ae s b) 58 with
  |false=>
   simp only[kq,gO,if_false,ks,PY h58];have:=cD (c:=⟨A.at_,A.name,A.args.map ct,[]⟩) (C:=⟨A,[],Ae s a⟩) i.gap (Bp s b o) ⟨rfl,q.symm⟩;exact this
  |true=>
   simp only[jb,jq,if_true,Mk h58];cases h45:D1 s (Ae s b+1) 45 with
   |false=>
    simp only[jb,if_true,gO,if_false,FG,Dj o];exact⟨rfl,by simp⟩
   |true=>
    simp only[jW,if_true,gO,if_false];have f:=Fl h58;(have D:s[Ae s b]=58:=by simpa[D1,f] using h58);have w:=i.next rfl f;rw[(JE (a:=b) rfl f D h45).2]at w;have T:=Fl h45;have e:=To _ (m+1) (Ae s b+2) [] (ig _) w (by omega);obtain⟨L,j,g,t⟩:∃L j g,Bl s (Ae s b+2)=(L,j,g):=⟨_,_,_,rfl⟩;rw[t]at e;have N:Bl s (Ae s b+1+1)=(L,j,g):=t;rw[N];cases hM3:EB ms (m+1) [] with
    |error p=>
     rw[hM3]at e;obtain⟨rfl,rfl⟩:=e;simp only[FG];exact⟨rfl,rfl⟩
    |ok r=>
     obtain⟨S,R⟩:=r;rw[hM3]at e;obtain⟨rfl,z,M,B⟩:=e;simp only[i6]at z;subst z;exact cD (c:=⟨A.at_,A.name,A.args.map ct,L.map KF⟩) (C:=⟨A,L,Ae s a⟩) M B ⟨rfl,q.symm⟩
def Yu{s:zA}{ms:mc AZ}:∀(k g a:Nat) (i:mc PC),Z ms-g<=k->At s ms g a->a<=s.size->Ae s a=a->
  match C1 ms g i with
  | .ok cs=>(Ap s a).2.2=K/\cs=i++(Ap s a).1.map cX/\(∀c∈(Ap s a).1,c.at_=c.head.at_)
  | .error p=>(Ap s a).2.2=j1/\p=((Ap s a).2.1:Int)
 |k,g,a,i,hk,h,ha,hg=>by
  have m:=h.lt;by_cases f:a<s.size
  .have l:((As ms g).kind==1)=K:=by
    rw[h.head];have j:=hg;by_cases y:s[a].toNat<128
    .cases hl:Az s[a] with
     |true=>
      rw[(GR j f hl).1];by_cases o:AC Az s a-a<=4<;>simp[o]
     |false=>
      cases hd:Ao s[a] with
      |true=>
       rw[(E4 j f hl hd).1];by_cases o:3<AC Ao s a-a\/(s[a]=48/\1<AC Ao s a-a)<;>simp[o]
      |false=>
       by_cases q:s[a]=58/\D1 s (a+1) 45=j1
       .rw[(JE j f q.1 q.2).1];rfl
       .rw[(Gn j f hl hd q y).1];simp only[iw,ne_eq];(have z:¬(97<=s[a].toNat/\s[a].toNat<=122):=λh=>by rw[(Cs _).2 h]at hl;cases hl);(have B:¬(48<=s[a].toNat/\s[a].toNat<=57):=λh=>by rw[(Cc _).2 h]at hd;cases hd);rcases QC z B with e|e|e<;>simp[e]
    .rw[(GS j f (by omega)).1];rfl
   have b:=Zf h ha;obtain⟨C,d,t,u⟩:∃C d t,An s a=(C,d,t):=⟨_,_,_,rfl⟩;rw[u]at b;rw[Lb f u];cases hM:Cj ms g with
   |error p=>
    rw[hM]at b;obtain⟨rfl,rfl⟩:=b;rw[Ka m l hM];simp only[EQ,if_true,Km];exact⟨trivial,trivial⟩
   |ok r=>
    obtain⟨c,n⟩:=r;have D:=GG hM;rw[hM]at b;obtain⟨rfl,⟨rfl,w⟩,x,v⟩:=b;rw[QB m l hM];simp only[EQ,gO,if_false];have A:AM s d K=Ae s d:=rfl;rw[A]
    match k with
    |0=>omega
    |k+1=>
     have ih:=Yu k n (Ae s d) (i++[cX C]) (by omega) x.gap (Bp s d v) (Cb s d)
     revert ih
     generalize C1 ms n (i++[cX C])=X;intro ih
     match X,ih with
     | .ok cs,ih=>
      refine⟨ih.1,by rw[ih.2.1];simp,?_⟩;intro c b;rcases gP.1 b with rfl|b
      .exact w
      .exact ih.2.2 c b
     | .error p,ih=>exact ih
  ·(have l:((As ms g).kind==1)=j1:=by rw[h.head,Hh (by omega)];rfl);rw[Nh m l,L3 f];simp
def Le(s:zA):Bool:= !decide (300<s.size)&&(!(An s 0).2.2&&(!decide ((An s 0).2.1<s.size)&&(!decide (0<Z (An s 0).1.body)&& !decide (2<Z (An s 0).1.head.args))))
def cu:Af:=⟨⟨#[]⟩,[]⟩
def Er(s:zA):Af:=if Le s=j1 then AB Bs (An s 0).1.head else cu
def Ja(s:zA):Bool:=Le s&&((C7 (Er s)).toList==s.toList)
def Rh(x:zA):Prop:=1<=Z x.toList/\Z x.toList<=4/\∀c∈x.toList,Az c=j1
def fJ(x:zA):Prop:=1<=Z x.toList/\Z x.toList<=3/\(∀c∈x.toList,Ao c=j1)/\∀r,x.toList=48::r->r=[]
def GB(x:zA):Prop:=Rh x\/fJ x
def Fx(s:zA)(i:Nat)(l:mc UInt8):Prop:=i+Z l<=s.size/\∀k (h:k<Z l) (h2:i+k<s.size),s[i+k]=l[k]
def Fx.left{s:zA}{i:Nat}{l m:mc UInt8}(h:Fx s i (l++m)):Fx s i l:=by
 have c:=h.1;rw[ib]at c;refine⟨by omega,λk b a=>?_⟩;rw[h.2 k (by rw[ib];omega) a,kj b]
def Fx.right{s:zA}{i:Nat}{l m:mc UInt8}(h:Fx s i (l++m)):Fx s (i+Z l) m:=by
 have a:=h.1;rw[ib]at a;refine⟨by omega,λk c b=>?_⟩;have:=h.2 (Z l+k) (by rw[ib];omega) (by omega);rw[List.getElem_append_right (by omega)]at this;simp only[Nat.add_sub_cancel_left]at this;rw[<-this]
 congr 1
 omega
def Sp(s:zA):Fx s 0 s.toList:=by
 refine⟨by rw[<-Bg];omega,λk b a=>?_⟩;simp only[iy,iM];simp[ByteArray.getElem_eq_getElem_data]
def Fx.head{s:zA}{i:Nat}{c:UInt8}{l:mc UInt8}(h:Fx s i (c::l)):∃b:i<s.size,s[i]=c:=by
 have a:=h.1;simp only[gW]at a;have:=h.2 0 (by simp) (by omega);exact⟨by omega,by simpa using this⟩
def Qs{p:UInt8->Bool}{s:zA}:∀(l:mc UInt8) (i:Nat) (c:UInt8) (m:mc UInt8),Fx s i (l++c::m)->(∀x∈l,p x=j1)->p c=K->AC p s i=i+Z l
 |[],i,c,m,h,_,hc=>by
  obtain⟨a,e⟩:=h.head;rw[ET p s i a (by rw[e];exact hc)];rfl
 |x::l,i,c,m,h,hl,hc=>by
  obtain⟨a,e⟩:=(show Fx s i (x::(l++c::m))from h).head;rw[B5 p s i a (by rw[e];exact hl x (by simp))];have b:Fx s (i+1) (l++c::m):=(show Fx s i ([x]++(l++c::m))from h).right;rw[Qs l (i+1) c m b (λy d=>hl y (by simp[d])) hc,gW];omega
def GL{s x:zA}{i:Nat}(h:Fx s i x.toList):s.extract i (i+Z x.toList)=x:=by
 apply toList_inj;have a:=h.1;simp only[iy]at h a⊢;apply List.ext_getElem
 .simp at a⊢;omega
 .intro k d b;have c:=h.2 k b (by simp at b a⊢;omega);rw[<-c];simp[ByteArray.getElem_eq_getElem_data]
def UM{c:UInt8}(h:Az c=j1):C8 c=K/\C2 c=K/\Ao c=K:=by
 unfold Az at h;unfold C8 C2 Ao;simp only[iq,kw]at h;have b:97<=c.toNat:=h.1;refine⟨?_,?_,?_⟩
 .rw[kl,iw,iw];constructor
  .rintro rfl;exact absurd b (by decide)
  .rintro rfl;exact absurd b (by decide)
 .rw[Bool.and_eq_false_iff];exact ly (i9 (λa=>by have:c.toNat<=90:=a;omega))
 .rw[Bool.and_eq_false_iff];exact ly (i9 (λa=>by have:c.toNat<=57:=a;omega))
def T7{c:UInt8}(h:Ao c=j1):C8 c=K/\C2 c=K:=by
 unfold Ao at h;unfold C8 C2;simp only[iq,kw]at h;have a:48<=c.toNat:=h.1;have b:c.toNat<=57:=h.2;refine⟨?_,?_⟩
 .rw[kl,iw,iw];constructor
  .rintro rfl;exact absurd a (by decide)
  .rintro rfl;exact absurd a (by decide)
 .rw[Bool.and_eq_false_iff];exact lx (i9 (λb=>by have:65<=c.toNat:=b;omega))
def F4{s:zA}{i:Nat}{c:UInt8}{m:mc UInt8}(h:Fx s i (c::m))(a:C8 c=K):Ae s i=i:=by
 obtain⟨b,e⟩:=h.head;rw[Ae,dif_pos b,gV (by rw[e,a];simp)]
def GB.first{x:zA}(h:GB x):∃c r,x.toList=c::r/\C8 c=K/\C2 c=K/\((Ao c=K/\Rh x)\/(Ao c=j1/\fJ x)):=by
 cases hx:x.toList with
 |nil=>
  rcases h with h|h
  .have:=h.1;rw[hx]at this;simp at this
  .have:=h.1;rw[hx]at this;simp at this
 |cons c r=>
  refine⟨c,r,rfl,?_⟩;rcases h with h|h
  .have e:=h.2.2 c (by rw[hx];simp);obtain⟨b,a,f⟩:=UM e;exact⟨b,a,lx ⟨f,h⟩⟩
  .have d:=h.2.2.1 c (by rw[hx];simp);obtain⟨b,a⟩:=T7 d;exact⟨b,a,ly ⟨d,h⟩⟩
def RL{s x:zA}{i:Nat}{c:UInt8}{m:mc UInt8}(a:Rh x)(h:Fx s i (x.toList++c::m))(j:Az c=K):AY s i K=(x,i+Z x.toList,K):=by
 obtain⟨d,r,e,f,_⟩:=GB.first (lx a);have g:Ae s i=i:=F4 (c:=d) (m:=r++c::m) (by rw[e]at h;exact h) f;have b:=Qs x.toList i c m h a.2.2 j;have l:=a.1;have k:=a.2.1;rw[Kf g b (by omega),GL h.left]
def dn(c:UInt8):Prop:=Az c=K/\Ao c=K/\C8 c=K
def Sl{s x:zA}{i:Nat}{c:UInt8}{m:mc UInt8}(v:GB x)(h:Fx s i (x.toList++c::m))(l:dn c):AI s i K=(⟨0,x⟩,i+Z x.toList,K):=by
 obtain⟨d,r,e,q,o,a⟩:=v.first;have j:Fx s i (d::(r++c::m)):=by rw[e]at h;exact h
 have t:Ae s i=i:=F4 j q;obtain⟨u,b⟩:=j.head;unfold AI;rw[gV (by simp)];simp only[t];rw[dif_pos u,gV (by rw[b,o];simp)];rcases a with⟨a,n⟩|⟨a,f⟩
 .rw[gY (by rw[b,a];rfl),RL n h l.1]
 .have p:=Qs x.toList i c m h f.2.2.1 l.2.1;have w:=f.1;have y:=f.2.1;rw[gV (by rw[b,a];simp),p,gV ?_,GL h.left];rintro (g|⟨g,k⟩)
  .omega
  .rw[b]at g;have:=f.2.2.2 r (by rw[e,g]);rw[e,this]at k;simp at k
def Fw:mc zA->mc UInt8
 |[]=>[]
 |[x]=>x.toList
 |x::y::l=>x.toList++44::Fw (y::l)
def ev:dn 44:=by unfold dn;decide
def eI:dn 41:=by unfold dn;decide
def PS{s:zA}{i:Nat}{c:UInt8}{m:mc UInt8}(h:Fx s i (c::m))(d:UInt8):D1 s i d=(c==d):=by
 obtain⟨b,a⟩:=h.head;unfold D1;rw[dif_pos b,a]
def Rl{s:zA}:∀(a:mc zA) (x:zA) (i:Nat) (m:mc UInt8),(∀y∈x::a,GB y)->Fx s i (Fw (x::a)++41::m)->Ch s i=((x::a).map (AE.mk 0),i+Z (Fw (x::a)),K)
 |[],x,i,m,hx,h=>by
  have f:=Sl (hx x (by simp)) (show Fx s i (x.toList++41::m)from h) eI;have b:Fx s (i+Z x.toList) (41::m):=(show Fx s i (x.toList++41::m)from h).right;have d:AM s (i+Z x.toList) K=i+Z x.toList:=by unfold AM;rw[gV (by simp),F4 b eI.2.2]
  have c:D1 s (i+Z x.toList) 44=K:=by rw[PS b];rfl
  rw[Ch];simp only[f,d,c];rw[dif_neg (by simp)];unfold BX;rw[d,c,gV (by simp)];rfl
 |y::a,x,i,m,hx,h=>by
  have g:Fx s i (x.toList++44::(Fw (y::a)++41::m)):=by
   (have e:Fw (x::y::a)++41::m=x.toList++44::(Fw (y::a)++41::m):=by rw[Fw];simp);rw[<-e];exact h
  have f:=Sl (hx x (by simp)) g ev;have b:Fx s (i+Z x.toList) (44::(Fw (y::a)++41::m)):=g.right;have d:AM s (i+Z x.toList) K=i+Z x.toList:=by unfold AM;rw[gV (by simp),F4 b ev.2.2]
  have c:D1 s (i+Z x.toList) 44=j1:=by rw[PS b];rfl
  have n:BX s (i+Z x.toList) K 44=i+Z x.toList+1:=by unfold BX;rw[d,c];rfl
  have k:Fx s (i+Z x.toList+1) (Fw (y::a)++41::m):=(show Fx s (i+Z x.toList) ([44]++(Fw (y::a)++41::m))from b).right;have ih:=Rl a y (i+Z x.toList+1) m (λz j=>hx z (by simp at j⊢;exact ly j)) k;have p:=h.1;have l:i<s.size:=by
   obtain⟨o,_⟩:=b.head;omega
  rw[Ch];simp only[f,d,c,n,ih];rw[dif_pos ⟨by simp,by omega,l⟩];simp only[ii,iE,and_true,true_and];rw[Fw];simp;omega
structure Ol(f:Af):Prop where
 name:Rh f.name
 args:∀x∈f.args,GB x
 ne:f.args≠[]
def P1:∀(a:mc zA) (x s:zA),(GI (s++x) j1 a).toList=s.toList++Fw (x::a)
 |[],x,s=>by rw[GI,Dh];rfl
 |y::a,x,s=>by
  rw[GI,gY rfl];have h:=P1 a y (s++x++⟨#[44]⟩);rw[h,Dh,Dh,Fw];simp[iy]
def Jl{f:Af}(h:f.args≠[]):(C7 f).toList=f.name.toList++(40::(Fw f.args++[41,46])):=by
 unfold C7;cases hf:f.args with
 |nil=>exact absurd hf h
 |cons x xs=>
  rw[GI,gV (by simp),Dh,P1 xs x (f.name++⟨#[40]⟩),Dh];simp[iy]
def M7{s:zA}{i:Nat}{c:UInt8}{m:mc UInt8}(h:Fx s i (c::m))(d:C8 c=K):Bn s i K c=(i+1,K):=by
 have a:AM s i K=i:=by unfold AM;rw[gV (by simp),F4 h d]
 have b:D1 s i c=j1:=by rw[PS h];simp
 unfold Bn BX;rw[a,b];rfl
def UK{f:Af}(h:Ol f):An (C7 f) 0=(⟨⟨f.name,f.args.map (AE.mk 0),0⟩,[],0⟩,(C7 f).size,K):=by
 obtain⟨s,b⟩:∃s,C7 f=s:=⟨_,rfl⟩;have a:=Sp s;rw[<-b,Jl h.ne,b]at a;have z:s.size=Z f.name.toList+Z (Fw f.args)+3:=by
  rw[Bg,<-b,Jl h.ne];simp;omega
 rw[b];obtain⟨d,r,e,v,_⟩:=GB.first (lx h.name);have l:Ae s 0=0:=F4 (c:=d) (m:=r++40::(Fw f.args++[41,46])) (by rw[e]at a;exact a) v;have k:=RL h.name a (by decide);rw[iM]at k;have j:Fx s (Z f.name.toList) (40::(Fw f.args++[41,46])):=by have:=a.right;rwa [iM]at this
 have B:=M7 j (by decide);have g:Fx s (Z f.name.toList+1) (Fw f.args++41::[46]):=(show Fx s (Z f.name.toList) ([40]++(Fw f.args++[41,46]))from j).right;have q:Ch s (Z f.name.toList+1)=(f.args.map (AE.mk 0),Z f.name.toList+1+Z (Fw f.args),K):=by
  cases hf:f.args with
  |nil=>exact absurd hf h.ne
  |cons x xs=>rw[hf]at g;exact Rl xs x _ [46] (λy A=>h.args y (by rw[hf];exact A)) g
 have n:=g.right;have w:=M7 n (by decide);have p:AS s 0 K=(⟨f.name,f.args.map (AE.mk 0),0⟩,Z f.name.toList+1+Z (Fw f.args)+1,K):=by
  unfold AS;have C:AM s 0 K=0:=by unfold AM;rw[gV (by simp),l]
  simp only[C,k,B];unfold D2;simp only[gO,if_false,q,w]
 have i:Fx s (Z f.name.toList+1+Z (Fw f.args)+1) [46]:=(show Fx s (Z f.name.toList+1+Z (Fw f.args)) ([41]++[46])from n).right;have u:AM s (Z f.name.toList+1+Z (Fw f.args)+1) K=Z f.name.toList+1+Z (Fw f.args)+1:=by unfold AM;rw[gV (by simp),F4 i (by decide)]
 have o:DG s (Z f.name.toList+1+Z (Fw f.args)+1) K=([],Z f.name.toList+1+Z (Fw f.args)+1,K):=by
  have D:D1 s (Z f.name.toList+1+Z (Fw f.args)+1) 58=K:=by rw[PS i];rfl
  unfold DG BX;rw[u,D];rfl
 have t:=M7 i (by decide);unfold An;simp only[l,p,o,t];rw[z]
 congr 2
 omega
theorem UN(b:Nat)(mv:lN)(ms:mc AZ)(nx:Nat)(br:Int)(w:l9)(h:B3 w b mv ms nx br):
  Calls prog 134 #[.pointer (V ⟨b,0,Y⟩)] w λe w'=>e=lo (lT ((As ms nx).kind==1))/\B3 w' b mv ms nx (if(As ms nx).kind==1 then br else(As ms nx).place)/\Ac [b] w w':=by
 have zY:=h.lt;obtain⟨g,cap,rfl,b0,b1,_,hc⟩:=h.cells;obtain⟨c0,_,_⟩:=hc nx zY;clear hc;rw[Bb zY]at c0;have HH:=Ab h;have HM:Hid (ms[nx]'zY=As ms nx):=Bb zY;have hj0:(0:Int)<=(nx:Int):=by omega
 have hjl:(nx:Int)<(Z ms:Int):=by omega
 generalize As ms nx=m at c0 HM⊢;clear h;cases hk:(m.kind==1)with
 |true=>
  go_enter func134,ntmps134;go_wp2_with fail
  go_quiet (fail)
  go_wp2;go_ret;exact⟨rfl,(Aa HH).zI ((me [] w).drewN _),(me _ w).drewN _⟩
 |false=>
  go_enter func134,ntmps134;go_wp2_with fail
  have HCl:Hid (∀wz br',B3 wz b (U (V ⟨g,0,Y⟩) (Z ms) cap) ms nx br'->lP wz ⟨b,0,Y⟩=V (U (V ⟨g,0,Y⟩) (Z ms) cap)/\lP wz ⟨b,1,Y⟩=V (X J nx)/\lP wz ⟨g,nx*3,Y⟩=V (X J m.kind)):=by
   intro wz br' hz;obtain⟨g',cap',hmv',d0,d1,_,hc⟩:=hz.cells;obtain⟨e0,_,_⟩:=hc nx zY;simp only[gM,gT,iL]at hmv';obtain⟨⟨rfl,_⟩,_,rfl⟩:=hmv';rw[Aa HM]at e0;exact⟨d0,d1,e0⟩
  have HHere:=Ab (IE b (U (V ⟨g,0,Y⟩) (Z ms) cap) ms nx br w.drew ((Aa HH).zI (me [] w).drew) m (Aa HM));have HBr:Hid (∀wz,B3 wz b (U (V ⟨g,0,Y⟩) (Z ms) cap) ms nx br->Calls prog 160 #[.pointer (V ⟨b,0,Y⟩),X J m.place] wz λe w'=>e=lo (lT K)/\B3 w' b (U (V ⟨g,0,Y⟩) (Z ms) cap) ms nx m.place/\Ac [b] wz w'):=λwz hz=>E9 b (U (V ⟨g,0,Y⟩) (Z ms) cap) ms nx br m.place wz hz
  go_region_held3 (λw'=>lP w' ⟨b,0,Y⟩=V (U (V ⟨g,0,Y⟩) (Z ms) cap)/\lP w' ⟨b,1,Y⟩=V (X J nx)/\lP w' ⟨g,nx*3,Y⟩=V (X J m.kind)) (go_keep) ((first|(go_at_call 161;refine(Aa HHere).mono ?_;rintro e w2 ⟨rfl,k2⟩;have HK2:=Ab ((me [] w).drew.trans k2);have HR2:=Ab ((Aa HH).zI (Aa HK2));obtain⟨y0,y1,y2⟩:=Aa HCl w2 br (Aa HR2);clear k2)|(go_at_call 160;refine(Aa HBr _ (Aa HR2)).mono ?_;rintro e w3 ⟨rfl,h3,k3⟩;have HR3:=Ab h3;have HK3:=Ab (((Aa HK2).mono (N:=[b]) (by simp)).trans k3);obtain⟨u0,u1,u2⟩:=Aa HCl w3 m.place (Aa HR3);clear h3 k3)))
  go_wp2;go_ret;exact⟨rfl,Aa HR3,Aa HK3⟩
def Fc(ms:mc AZ):Except Int (mc PL):=
 match EB ms 0 [] with
 | .error p=> .error p
 | .ok (ls,nx)=>if(As ms nx).kind==1 then .ok ls else .error (As ms nx).place
def aX(w:l9)(e:Ending)(w':l9):Except Int (mc PL)->Prop
 | .ok ls=>∃ad cp zD,e=lo (.tuple #[U ad (Z ls) cp,X J 0,lT j1])/\zD.map Prod.fst=ls/\BP w' w.heap.size (U ad (Z ls) cp) zD/\Ac [] w w'
 | .error p=>e=lo (.tuple #[U Y 0 0,X J p,lT K])/\Ac [] w w'
theorem S4(s:zA)(w:l9)(S:s.size<=300):
  Calls prog 90 #[O s] w λe j=>aX w e j (Fc (C4 s)):=by
 have Q:=Ab (Yp S);have M:=IL s;have E:=Ab (XL s w S);generalize C4 s=ms at Q M E⊢;have A2:Z ms<=1000:=by omega
 go_enter func90,ntmps90;go_wp2_with fail
 refine(Aa E).mono ?_;rintro e a ⟨mv,rfl,x,z⟩;clear E;obtain⟨c,d,rfl⟩:=Al x;have P:=mf a [U c (Z ms) d,X J 0,X J 0] 203;have I:=Am (gU x (j2 [U c (Z ms) d,X J 0,X J 0].toArray 203)) (ik _);have L:(U c (Z ms) d).ownBlock≠V a.heap.size:=λe=>by have:=(x.lt _ e).2;omega
 have k:Hid (B3 (a.alloc (j2 [U c (Z ms) d,X J 0,X J 0].toArray 203)) a.heap.size (U c (Z ms) d) ms 0 0):=⟨P,I,L,M.2,by omega⟩;have n:=Ab (z.alloc (j2 [U c (Z ms) d,X J 0,X J 0].toArray 203));have AT:w.heap.size<=a.heap.size:=z.size;have R:(a.alloc (j2 [U c (Z ms) d,X J 0,X J 0].toArray 203)).heap.size=a.heap.size+1:=by simp
 clear P I L x z;go_wp2_with fail
 change Calls _ _ _ (a.alloc (j2 [U c (Z ms) d,X J 0,X J 0].toArray 203)) _;generalize a.alloc (j2 [U c (Z ms) d,X J 0,X J 0].toArray 203)=w2 at k n R⊢;obtain⟨b,W⟩:∃b,a.heap.size=b:=⟨_,rfl⟩;rw[W]at k AT R⊢;clear W;refine(RR b _ ms 0 0 w2 (Aa k) (Aa Q)).mono ?_;intro e A v;cases ht:EB ms 0 [] with
 |error p=>
  have f:Hid (Fc ms=.error p):=by show _=_;unfold Fc;rw[ht]
  rw[ht]at v;obtain⟨q,rfl,l,h⟩:=v;have D:=l.zO.cell 2;simp at D;have o:Hid (Ac [] w A):=(Aa n).trans' h (λi g=>ly (by simp at g;omega));clear ht l h k n;go_wp2_with fail
  go_region_held3 (λj=>lP j ⟨b,2,Y⟩=V (X J p)) (go_keep) (fail)
  rename_i C;clear C;go_wp2;go_ret3;rw[f.out];exact⟨rfl,(Aa o).drew⟩
 |ok r=>
  obtain⟨G,q⟩:=r;rw[ht]at v;obtain⟨N,cp,T,rfl,A0,AO,l,h⟩:=v;have f:Hid (Fc ms=if(As ms q).kind==1 then .ok G else .error (As ms q).place):=by show _=_;unfold Fc;rw[ht]
  have u:=Ab (UN b _ ms q 0 A l);have o:Hid (Ac [] w A):=(Aa n).trans' h (λi g=>ly (by simp at g;omega));have B:=Ab AO;have Bx:=h.size;clear ht l h k n AO;generalize As ms q=m at f u;go_wp2_with fail
  refine(Aa u).mono ?_;rintro e F ⟨rfl,t,y⟩;have H:Hid (Ac [] w F):=(Aa o).trans' y (λi g=>ly (by simp at g;omega));have A1:Hid (BP F w2.heap.size (U N (Z G) cp) T):=(Aa B).kept y (λi g=>by simp at g;omega);cases hk:(m.kind==1)with
  |true=>
   rw[hk]at f;clear t y u B o;go_wp2;go_ret3;rw[f.out];exact⟨N,cp,T,rfl,A0,(Aa A1).base (by omega),Aa H⟩
  |false=>
   rw[hk]at f t;have D:=t.zO.cell 2;simp at D;clear t y u B o;go_wp2_with fail
   go_region_held3 (λj=>lP j ⟨b,2,Y⟩=V (X J m.place)) (go_keep) (fail)
   rename_i C;clear C;go_wp2;go_ret3;rw[f.out];exact⟨rfl,(Aa H).drew⟩
def Vg(s:zA):match Fc (C4 s)with
  | .ok i=>(Bl s 0).2.2=K/\¬Ae s (Bl s 0).2.1<s.size/\i=(Bl s 0).1.map KF
  | .error p=>((Bl s 0).2.2=j1\/Ae s (Bl s 0).2.1<s.size)/\p=(AM s (Bl s 0).2.1 (Bl s 0).2.2:Int):=by
 have g:At s (C4 s) 0 0:=by unfold At;rw[Jn];rfl
 have h:=To (s:=s) (ms:=C4 s) (Z (C4 s)) 0 0 [] (by omega) g (ik _);generalize C4 s=ms at h g;obtain⟨L,a,f,j⟩:∃L a f,Bl s 0=(L,a,f):=⟨_,_,_,rfl⟩;rw[j]at h⊢;unfold Fc;cases hb:EB ms 0 [] with
 |error p=>
  rw[hb]at h;obtain⟨e,d⟩:=h;subst e;exact⟨lx rfl,by rw[d];rfl⟩
 |ok r=>
  obtain⟨i,n⟩:=r;rw[hb]at h;obtain⟨e,d,l,k⟩:=h;subst e;simp only;rw[l.head];by_cases b:Ae s a<s.size
  .have c:((BD s a).kind==1)=K:=by
    unfold BD;rw[gY b];exact iw.2 ((Ye _).2.2 (Vd s _ b).1)
   rw[c,Dj k];exact⟨ly b,rfl⟩
  ·(have c:((BD s a).kind==1)=j1:=by rw[Hh b];rfl);rw[c];exact⟨trivial,b,by rw[d];simp⟩
