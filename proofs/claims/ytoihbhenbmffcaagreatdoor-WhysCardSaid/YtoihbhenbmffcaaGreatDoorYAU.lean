import Derived.Test.YtoihbhenbmffcaaGreatDoorYAR
import Derived.Test.YtoihbhenbmffcaaGreatDoorYAJ
import Derived.Test.YtoihbhenbmffcaaGreatDoorYAP
set_option linter.all false
set_option maxHeartbeats 0
open List renaming length->Z,toArray->j2,replicate->jL
open Option renaming none->Y,some->V
open Go.Value renaming slice->U,int->X,string->O
open Bool renaming false->K,true->jj
open Go.IntKind renaming i64->J
open Go.Obj renaming cells->j1
open Or renaming inl->j5,inr->j6
open Go renaming World->j7,Value->j8
open ByteArray renaming empty->jK
open Go.Op renaming bytesLess->jP
namespace Go.Proofs.YtoihbhenbmffcaaGreatDoor
open Go.RowKit Go.Proofs.Tryz
def A3(s:g0):Prop:=(∃c r,s.toList=c::r/\97<=c.toNat/\c.toNat<=122)\/ah s.toList=jj
def CO{s:g0}{c:UInt8}{r:List UInt8}(h:s.toList=c::r):Cw s 0=c/\s.size=Z r+1:=by
 have b:s.size=Z r+1:=by rw[A7,h];rfl
 refine⟨?_,b⟩;unfold Cw;rw[dif_pos (by omega)];obtain⟨d,a,_⟩:=Hi s (by omega);rw[h]at a;exact(List.cons.inj a).1.symm
def Kh{c:UInt8}(a:48<=c.toNat)(b:c.toNat<=57):An c=jj:=(Ci _).2 ⟨a,b⟩
def IV{c:UInt8}(a:97<=c.toNat):An c=K:=by
 cases h:An c with
 |false=>rfl
 |true=>have:=(Ci _).1 h;omega
def OU(x:UInt8)(l m:List UInt8):jP (x::l) (x::m)=jP l m:=by
 simp[jP]
def Zc{x y:UInt8}(h:x.toNat<y.toNat)(l m:List UInt8):jP (x::l) (y::m)=jj:=by
 have:x<y:=h;simp[jP,this]
def Y8{x y:UInt8}(h:y.toNat<x.toNat)(l m:List UInt8):jP (x::l) (y::m)=K:=by
 have a:¬x<y:=by
  intro c;have:x.toNat<y.toNat:=c;omega
 have b:(x==y)=K:=by
  rw[ff];intro e;rw[e]at h;omega
 simp[jP,a,b]
def Fq{s:g0}(h:ah s.toList=jj):(AA s).toList=jL (3-Z s.toList) 48++s.toList:=by
 have g:Hp s=jj:=by
  unfold Hp;rcases EB h with⟨c,e,b,a⟩|⟨c,d,e,b,a⟩|⟨c,d,f,e,b,a⟩<;>rw[e,Ey]<;>simp<;>omega
 have j:Z s.toList<=3:=by
  rcases EB h with⟨c,e,b,a⟩|⟨c,d,e,b,a⟩|⟨c,d,f,e,b,a⟩<;>rw[e]<;>simp
 have i:=A7 s;unfold AA;rw[g,eI rfl,KY 3 s (by omega) (by omega),i]
def EQ{s:g0}{c:UInt8}{r:List UInt8}(h:s.toList=c::r)(b:97<=c.toNat):AA s=s:=by
 have a:Hp s=K:=by
  unfold Hp;rw[h,Ey];simp;omega
 unfold AA;rw[a];rfl
def Pa{a b:g0}(l:A3 a)(i:A3 b):jP (AA a).toList (AA b).toList=Fm a b:=by
 rcases l with⟨c,r,p,q,B⟩|l
 .obtain⟨w,C⟩:=CO p;rcases i with⟨d,m,k,o,x⟩|i
  .obtain⟨s,z⟩:=CO k;rw[EQ p q,EQ k o];unfold Fm;rw[w,s,IV q,IV o];rfl
  .rw[EQ p q,Fq i];unfold Fm;rw[w,IV q];rcases EB i with⟨d,e,j,h⟩|⟨d,f,e,j,h⟩|⟨d,f,g,e,j,h⟩;all_goals
    rw[(CO e).1,Kh (by omega) h,e,p];refine Eq.trans (Y8 ?_ _ _) rfl
    first|omega|(show(48:UInt8).toNat<_;show 48<_;omega)
 .rcases i with⟨d,m,k,o,x⟩|i
  .obtain⟨s,z⟩:=CO k;rw[EQ k o,Fq l];unfold Fm;rw[s,IV o];rcases EB l with⟨c,e,j,h⟩|⟨c,f,e,j,h⟩|⟨c,f,g,e,j,h⟩;all_goals
    rw[(CO e).1,Kh (by omega) h,e,k];refine Eq.trans (Zc ?_ _ _) rfl
    first|omega|(show(48:UInt8).toNat<_;show 48<_;omega)
  .rw[Fq l,Fq i];unfold Fm;rcases EB l with⟨c,e,j,h⟩|⟨c,f,e,j,h⟩|⟨c,f,g,e,j,h⟩<;>
    rcases EB i with⟨u,n,v,t⟩|⟨u,y,n,v,t⟩|⟨u,y,A,n,v,t⟩<;>
    rw[(CO e).1,(CO n).1,Kh (by omega) h,Kh (by omega) t,(CO e).2,(CO n).2,e,n]
   .simp[jL,OU]
   .exact Eq.trans (Eq.trans (OU _ _ _) (Zc (by show 48<_;omega) _ _)) rfl
   .exact Eq.trans (Zc (by show 48<_;omega) _ _) rfl
   .exact Eq.trans (Eq.trans (OU _ _ _) (Y8 (by show 48<_;omega) _ _)) rfl
   .simp[jL,OU]
   .exact Eq.trans (Zc (by show 48<_;omega) _ _) rfl
   .exact Eq.trans (Y8 (by show 48<_;omega) _ _) rfl
   .exact Eq.trans (Y8 (by show 48<_;omega) _ _) rfl
   .simp[jL]
def MS(s:g0):(s.extract 1 s.size).toList=s.toList.drop 1:=by
 rw[fc,fc,ByteArray.data_extract,Array.toList_extract];have h:s.size=Z s.data.toList:=rfl;simp only[List.extract];rw[eu (by rw[fz];omega)]
def EP{k:Nat}{s:g0}{c:UInt8}{r:List UInt8}(h:s.toList=c::r):(EU (k+1) s).toList=if 0<Z r/\c=48 then(EU k (s.extract 1 s.size)).toList else s.toList:=by
 obtain⟨e,d⟩:=CO h;rw[EU,e,d];by_cases a:0<Z r/\c=48
 .rw[eI ⟨by omega,a.2⟩,eI a]
 .rw[eE (λb=>a ⟨by omega,b.2⟩),eE a]
def GV{s:g0}(k:A3 s):BN (AA s)=s:=by
 rcases k with⟨c,r,e,b,m⟩|k
 .rw[EQ e b];unfold BN;have i:Hp s=K:=by
   unfold Hp;rw[e,Ey];simp;omega
  rw[i];rfl
 .have g:=Fq k;apply toList_inj;have l:(AA s).size=Z (AA s).toList:=A7 _;generalize AA s=p at g l⊢;unfold BN;rcases EB k with⟨c,e,b,m⟩|⟨c,d,e,b,m⟩|⟨c,d,f,e,b,m⟩
  .rw[e]at g⊢;have a:p.toList=[48,48,c]:=g;(have i:Hp p=jj:=by unfold Hp;rw[a,Ey];rfl);rw[i,eI rfl,l,a];show(EU 3 p).toList=[c];rw[EP a,eI ⟨by simp,rfl⟩];(have j:(p.extract 1 p.size).toList=[48,c]:=by rw[MS,a];rfl);rw[EP j,eI ⟨by simp,rfl⟩];(have q:((p.extract 1 p.size).extract 1 (p.extract 1 p.size).size).toList=[c]:=by rw[MS,j];rfl);rw[EP q,eE (by simp),q]
  .rw[e]at g⊢;have a:p.toList=[48,c,d]:=g;(have i:Hp p=jj:=by unfold Hp;rw[a,Ey];rfl);(have o:c≠48:=λn=>by rw[n]at b;exact absurd b (by decide));rw[i,eI rfl,l,a];show(EU 3 p).toList=[c,d];rw[EP a,eI ⟨by simp,rfl⟩];(have j:(p.extract 1 p.size).toList=[c,d]:=by rw[MS,a];rfl);rw[EP j,eE (λh=>o h.2),j]
  .rw[e]at g⊢;have a:p.toList=[c,d,f]:=g;(have i:Hp p=jj:=by unfold Hp;rw[a,Ey];simp;omega);(have o:c≠48:=λn=>by rw[n]at b;exact absurd b (by decide));rw[i,eI rfl,l,a];show(EU 3 p).toList=[c,d,f];rw[EP a,eE (λh=>o h.2),a]
def FE{a b:g0}(c:A3 a)(d:A3 b)(h:AA a=AA b):a=b:=by
 rw[<-GV c,<-GV d,h]
def BO(s:g0)(a:Nat):AZ:=if Ae s a<s.size then Ic (DJ s (Ae s a)).1 else Em s
def At(s:g0)(ms:List AZ)(nx a:Nat):Prop:=ms.drop nx=CU s a
def P8(s:g0)(a:Nat):CU s (Ae s a)=CU s a:=by
 unfold CU
 congr 2
 by_cases b:Ae s a<s.size
 .rw[FR (Ch s a) b,FR rfl b]
 .rw[Iu b,Iu (by rw[Ch];exact b)]
def At.gap{s:g0}{b:List AZ}{c a:Nat}(h:At s b c a):At s b c (Ae s a):=by
 unfold At at*;rw[P8];exact h
def At.head{s:g0}{b:List AZ}{c a:Nat}(h:At s b c a):Au b c=BO s a:=by
 unfold At at h;have e:b[c]?=(CU s a)[0]?:=by rw[<-h];simp
 unfold Au BO;rw[eK,e];unfold CU P5;split
 .simp
 .simp
def At.next{s:g0}{b:List AZ}{c a j:Nat}(h:At s b c a)(d:Ae s a=j)(e:j<s.size):At s b (c+1) (DJ s j).2:=by
 unfold At at*;rw[<-List.drop_drop,h];unfold CU;rw[FR d e];simp
def At.lt{s:g0}{b:List AZ}{c a:Nat}(h:At s b c a):c<Z b:=by
 unfold At at h;have:Z (b.drop c)=Z (CU s a):=by rw[h]
 unfold CU at this;simp at this;omega
def Iz{s:g0}{a:Nat}(h:¬Ae s a<s.size):BO s a=Em s:=by simp[BO,h]
def GF{s:g0}{a j:Nat}(c:Ae s a=j)(h:j<s.size)(d:Az s[j]=jj):
  BO s a=⟨if AF Az s j-j<=4 then 2 else 0,j,s.extract j (AF Az s j)⟩/\(DJ s j).2=AF Az s j:=by
 have e:=Cz Az s j (by omega);have f:DJ s j=(⟨2,j,s.extract j (AF Az s j)⟩,AF Az s j):=by unfold DJ;rw[Ej h,d];rfl
 unfold BO;rw[c,eI h,f];refine⟨?_,rfl⟩;simp only[Ic,Iq,size_extract e,if_true];by_cases b:AF Az s j-j<=4<;>simp[b]
def Tg{s:g0}{j k:Nat}(h:j<s.size)(a:k<=s.size)(b:j<k)(c:UInt8):DS (s.extract j k) 0 c=(s[j]==c):=by
 unfold DS;rw[dif_pos (by rw[size_extract a];omega)];simp[ByteArray.getElem_extract]
def EO{s:g0}{a j:Nat}(i:Ae s a=j)(h:j<s.size)(k:Az s[j]=K)(b:An s[j]=jj):
  BO s a=⟨if 3<AF An s j-j\/(s[j]=48/\1<AF An s j-j)then 0 else 3,j,s.extract j (AF An s j)⟩/\(DJ s j).2=AF An s j:=by
 have c:=Cz An s j (by omega);have f:j<AF An s j:=by rw[B6 _ _ _ h b];have:=B8 An s (j+1);omega
 have l:DJ s j=(⟨3,j,s.extract j (AF An s j)⟩,AF An s j):=by unfold DJ;rw[Ej h,k,b];rfl
 unfold BO;rw[i,eI h,l];refine⟨?_,rfl⟩;have e:Iq ⟨3,j,s.extract j (AF An s j)⟩= !decide (3<AF An s j-j\/(s[j]=48/\1<AF An s j-j)):=by
  unfold Iq;simp only[size_extract c,Tg h c f];rw[eE (by decide),eI trivial,gc];simp only[gr,eW,im,io,ie,ff,ne_eq];by_cases d:s[j]=48
  .simp only[d,not_true_eq_false,true_and,and_false,or_false];omega
  .simp only[d,not_false_eq_true,false_and,and_true,or_false];omega
 unfold Ic;rw[e];by_cases g:3<AF An s j-j\/(s[j]=48/\1<AF An s j-j)<;>simp[g]
def Jk{s:g0}{a j:Nat}(c:Ae s a=j)(h:j<s.size)(d:s[j]=58)(b:DS s (j+1) 45=jj):
  BO s a=⟨5,j,cP⟩/\(DJ s j).2=j+2:=by
 have e:DJ s j=(⟨5,j,cP⟩,j+2):=by unfold DJ;rw[Ej h,d,b];rfl
 unfold BO;rw[c,eI h,e];exact⟨rfl,rfl⟩
def Gd{s:g0}{a j:Nat}(f:Ae s a=j)(h:j<s.size)(c:Az s[j]=K)(b:An s[j]=K)(l:¬(s[j]=58/\DS s (j+1) 45=jj))(d:s[j].toNat<128):
  BO s a=⟨D4 (s[j].toNat:Int),j,⟨#[s[j]]⟩⟩/\(DJ s j).2=j+1:=by
 have i:¬(97<=s[j].toNat/\s[j].toNat<=122):=λh=>by rw[(CF _).2 h]at c;cases c
 have g:¬(48<=s[j].toNat/\s[j].toNat<=57):=λh=>by rw[(Ci _).2 h]at b;cases b
 have k:DJ s j=(⟨D4 (s[j].toNat:Int),j,⟨#[s[j]]⟩⟩,j+1):=by
  unfold DJ;rw[Ej h,c,b,ij s j h d];simp only[ev,if_false];rw[eE l];simp only[Co,FK _ d]
 unfold BO;rw[f,eI h,k];refine⟨?_,rfl⟩;unfold Ic Iq;simp only;rcases PU i g with e|e|e<;>simp[e]
def GG{s:g0}{a j:Nat}(f:Ae s a=j)(h:j<s.size)(c:128<=s[j].toNat):(BO s a).kind=0/\(BO s a).place=j:=by
 have g:Az s[j]=K:=by cases b:Az s[j] with|false=>rfl|true=>have:=(CF _).1 b;omega
 have d:An s[j]=K:=by cases b:An s[j] with|false=>rfl|true=>have:=(Ci _).1 b;omega
 have i:¬(s[j]=58/\DS s (j+1) 45=jj):=λb=>by rw[b.1]at c;simp at c
 have k:=(jB s j h c).1;have e:D4 ((Utf8.decode s j).1:Int)=0:=by unfold D4;rw[eE (by omega),eE (by omega),eE (by omega),eE (by omega)]
 unfold BO DJ;rw[f,eI h,Ej h,g,d];simp only[ev,if_false];rw[eE i];simp[Co,Ic,Iq,e]
def DF{s:g0}{a:Nat}(d:a<=s.size):(BO s a).place=Ae s a:=by
 obtain⟨j,b⟩:∃j,Ae s a=j:=⟨_,rfl⟩;have f:=Bn s a d;by_cases h:j<s.size
 .by_cases e:s[j].toNat<128
  .cases hl:Az s[j] with
   |true=>rw[(GF b h hl).1,b]
   |false=>
    cases hd:An s[j] with
    |true=>rw[(EO b h hl hd).1,b]
    |false=>
     by_cases c:s[j]=58/\DS s (j+1) 45=jj
     .rw[(Jk b h c.1 c.2).1,b]
     .rw[(Gd b h hl hd c e).1,b]
  .rw[(GG b h (by omega)).2,b]
 .rw[Iz (by omega)];simp only[Em];omega
def Ev:List UInt8:=[46,44,33,61,35,60,40,41]
def Ro{c:UInt8}(h:c∈Ev):c.toNat<128/\Az c=K/\An c=K/\c≠58/\D4 (c.toNat:Int)=5/\Dc c=K:=by
 simp only[Ev,ey,fP,or_false]at h;rcases h with rfl|rfl|rfl|rfl|rfl|rfl|rfl|rfl<;>decide
def Q8(x c:UInt8):(((⟨#[x]⟩:g0).toList==(⟨#[c]⟩:g0).toList))=(x==c):=by
 have e:∀y:UInt8,(⟨#[y]⟩:g0).toList=[y]:=λy=>by rw[fc]
 rw[e,e];simp
def DP{s:g0}{a:Nat}{c:UInt8}(o:c∈Ev):BD (BO s a) ⟨#[c]⟩=DS s (Ae s a) c:=by
 obtain⟨j,d⟩:∃j,Ae s a=j:=⟨_,rfl⟩;obtain⟨t,l,i,k,p,_⟩:=Ro o;rw[d];unfold BD;by_cases h:j<s.size
 .have q:DS s j c=(s[j]==c):=by simp[DS,h]
  rw[q];have g:∀x:UInt8,(Az x=jj\/An x=jj\/128<=x.toNat)->(x==c)=K:=by
   intro x b;simp only[ff,ne_eq];rintro rfl;rcases b with b|b|b
   .rw[l]at b;cases b
   .rw[i]at b;cases b
   .omega
  by_cases m:s[j].toNat<128
  .cases hl:Az s[j] with
   |true=>
    rw[(GF d h hl).1,g _ (j5 hl)];by_cases f:AF Az s j-j<=4<;>simp[f]
   |false=>
    cases hd:An s[j] with
    |true=>
     rw[(EO d h hl hd).1,g _ (j6 (j5 hd))];by_cases f:3<AF An s j-j\/(s[j]=48/\1<AF An s j-j)<;>simp[f]
    |false=>
     by_cases e:s[j]=58/\DS s (j+1) 45=jj
     .rw[(Jk d h e.1 e.2).1];(have n:(s[j]==c)=K:=by simp[e.1,Ne.symm k]);have r:(cP.toList==(⟨#[c]⟩:g0).toList)=K:=by
       rw[show cP.toList=[58,45] from by rw[fc];rfl,show(⟨#[c]⟩:g0).toList=[c] from by rw[fc]]
       simp
      rw[n,r,iz]
     .rw[(Gd d h hl hd e m).1];simp only[Q8];cases he:(s[j]==c)with
      |false=>simp
      |true=>
       (have:s[j]=c:=by simpa using he);rw[this,p];rfl
  .have:=GG d h (by omega);rw[this.1,g _ (j6 (j6 (by omega)))];rfl
 .rw[Iz (by omega)];simp[Em,DS,h]
def At.take{s:g0}{e:List AZ}{f a:Nat}{c:UInt8}(h:At s e f a)(n:c∈Ev)(g:DS s (Ae s a) c=jj):At s e (f+1) (Ae s a+1)/\Ae s a+1<=s.size:=by
 obtain⟨m,k,i,j,o,_⟩:=Ro n;have d:=Fa g;have b:s[Ae s a]=c:=by simpa[DS,d] using g
 have:=h.next rfl d;rw[(Gd (a:=a) rfl d (by rw[b];exact k) (by rw[b];exact i) (by rw[b];exact λl=>j l.1) (by rw[b];exact m)).2]at this;exact⟨this,by omega⟩
def NR{α β:Type}(R:α->β->Prop)(s:g0)(ms:List AZ):Except Int (α×Nat)->β×Nat×Bool->Prop
 | .ok (x,n),(y,a,bd)=>bd=K/\R x y/\At s ms n a/\a<=s.size
 | .error p,(_,a,bd)=>bd=jj/\p=(a:Int)
def ct(t:AG):AO:=⟨(t.v.toNat:Int),Dp t.s⟩
def ID{s:g0}{j k:Nat}(h:j<s.size)(a:k<=s.size)(b:j<k):∃c:0<(s.extract j k).size,(s.extract j k)[0]=s[j]:=
 ⟨by rw[size_extract a];omega,by simp[ByteArray.getElem_extract]⟩
def RQ(c:UInt8)(h:c.toNat<128):CZ ⟨#[c]⟩ 0 0=(c.toNat:Int):=by
 have a:(0:Nat)<(⟨#[c]⟩:g0).size:=Nat.zero_lt_one;rw[KC 0 a];have b:=ij ⟨#[c]⟩ 0 a h;rw[b];unfold CZ;rw[dif_neg (λd=>absurd d.1 (show¬(0+1<1)from by decide))];rfl
theorem Sp{s:g0}{q:List AZ}{z a:Nat}(h:At s q z a)(D:a<=s.size):NR (λt E=>t=ct E) s q (Fk (Au q z) z) (AK s a K):=by
 obtain⟨j,c⟩:∃j,Ae s a=j:=⟨_,rfl⟩;have N:=Bn s a D;rw[h.head];unfold AK Fk;simp only[ev,if_false];by_cases b:j<s.size
 .rw[dif_pos (by rw[c];exact b)];simp only[c];have n:=h.next c b;by_cases w:s[j].toNat<128
  .cases f:Az s[j] with
   |true=>
    have I:=(CF _).1 f;have g:C6 s[j]=K:=by cases d:C6 s[j] with|false=>rfl|true=>have:=(EJ _).1 d;omega
    have e:An s[j]=K:=by cases d:An s[j] with|false=>rfl|true=>have:=(Ci _).1 d;omega
    obtain⟨l,k⟩:=GF c b f;rw[k]at n;(have C:Ae s j=j:=by rw[<-c];exact Ch s a);(have r:j<AF Az s j:=by rw[B6 _ _ _ b f];have:=B8 Az s (j+1);omega);have m:=Cz Az s j (by omega);rw[l,g,e];simp only[ev,if_false,fS,if_true];by_cases i:AF Az s j-j<=4
    .rw[JX C rfl (by omega)];simp only[i,if_true];obtain⟨y,o⟩:=ID b m r;refine⟨rfl,?_,n,m⟩;unfold ct;simp only;rw[<-V3 y (by rw[o];omega)];rfl
    .rw[DR C rfl (by omega)];simp only[i,if_false];exact⟨rfl,rfl⟩
   |false=>
    cases e:An s[j] with
    |true=>
     have M:=(Ci _).1 e;have g:C6 s[j]=K:=by cases d:C6 s[j] with|false=>rfl|true=>have:=(EJ _).1 d;omega
     obtain⟨l,k⟩:=EO c b f e;rw[k]at n;have m:=Cz An s j (by omega);rw[l,g];simp only[ev,if_false,ig];by_cases i:3<AF An s j-j\/(s[j]=48/\1<AF An s j-j)
     .rw[eI i,eI i];exact⟨rfl,rfl⟩
     .rw[eE i,eE i];(have r:j<AF An s j:=by rw[B6 _ _ _ b e];have:=B8 An s (j+1);omega);obtain⟨y,o⟩:=ID b m r;have B:=size_extract (s:=s) (j:=j) m;(have L:s[j].toNat=48->s[j]=48:=λh=>gn.1 h);refine⟨rfl,?_,n,m⟩;unfold ct;simp only;rw[<-Yf y (by rw[o];omega) (by rw[o];omega) (by rw[B];omega) (λh=>by rw[o]at h;have G:=L h;have A:¬1<AF An s j-j:=λA=>i (j6 ⟨G,A⟩);rw[B];omega)];rfl
    |false=>
     cases g:C6 s[j] with
     |true=>
      have u:=(EJ _).1 g;(have p:¬(s[j]=58/\DS s (j+1) 45=jj):=λd=>by rw[d.1]at u;simp at u);obtain⟨l,k⟩:=Gd c b f e p w;rw[k]at n;(have H:D4 (s[j].toNat:Int)=4:=by unfold D4;rw[eE (by omega),eE (by omega),eI (by omega)]);rw[l,H];simp only[if_true];refine⟨rfl,?_,n,by omega⟩;rw[RQ _ w];rfl
     |false=>
      have x:AX s j K=(jK,j,jj):=DR (by rw[<-c];exact Ch s a) (ED _ _ _ b f) (j5 rfl);(have u:¬(65<=s[j].toNat/\s[j].toNat<=90):=λh=>by rw[(EJ _).2 h]at g;cases g);(have I:¬(97<=s[j].toNat/\s[j].toNat<=122):=λh=>by rw[(CF _).2 h]at f;cases f);(have M:¬(48<=s[j].toNat/\s[j].toNat<=57):=λh=>by rw[(Ci _).2 h]at e;cases e);simp only[ev,if_false,fS,if_true,x];(have F:(BO s a).place=j:=by rw[DF D,c]);have v:(BO s a).kind≠2/\(BO s a).kind≠3/\(BO s a).kind≠4:=by
       by_cases p:s[j]=58/\DS s (j+1) 45=jj
       .rw[(Jk c b p.1 p.2).1];simp
       .rw[(Gd c b f e p w).1];unfold D4;rw[eE (by omega),eE (by omega),eE (by omega)];split<;>simp
      simp only[gF,v.1,v.2.1,v.2.2,jD,gr,or_self,if_false,F];exact⟨rfl,rfl⟩
  .have f:Az s[j]=K:=by cases d:Az s[j] with|false=>rfl|true=>have:=(CF _).1 d;omega
   have e:An s[j]=K:=by cases d:An s[j] with|false=>rfl|true=>have:=(Ci _).1 d;omega
   have g:C6 s[j]=K:=by cases d:C6 s[j] with|false=>rfl|true=>have:=(EJ _).1 d;omega
   have x:AX s j K=(jK,j,jj):=DR (by rw[<-c];exact Ch s a) (ED _ _ _ b f) (j5 rfl);obtain⟨l,k⟩:=GG c b (by omega);rw[g,e];simp only[ev,if_false,fS,if_true,x,l,k];exact⟨rfl,rfl⟩
 .rw[dif_neg (by rw[c];exact b),Iz (by omega)];simp only[Em];refine⟨rfl,?_⟩;rw[c];show(s.size:Int)=(j:Int);omega
def C0(t:AG):Prop:=(t.v=0/\A3 t.s)\/(65<=t.v.toNat/\t.v.toNat<=90/\t.s=jK)
def A3.size{s:g0}(h:A3 s):s.size≠0:=by
 rw[A7];rcases h with⟨c,r,h,_⟩|h
 .rw[h];simp
 .rcases EB h with⟨c,e,_⟩|⟨c,d,e,_⟩|⟨c,d,f,e,_⟩<;>rw[e]<;>simp
def C0.zL{t:AG}(h:C0 t):Bs t:=by
 rcases h with⟨a,b⟩|h
 .exact j5 ⟨a,b.size⟩
 .exact j6 ⟨h.1,h.2.1⟩
def IA{s:g0}{j k:Nat}(h:j<s.size)(a:k<=s.size)(f:j<k):∃r,(s.extract j k).toList=s[j]::r/\Z r+1=k-j:=by
 obtain⟨d,e⟩:=ID h a f;obtain⟨r,c,b⟩:=Hi _ d;refine⟨r,by rw[c,e],?_⟩;rw[c,IH _ _ _ a]at b;simpa using b
def JU{p:UInt8->Bool}{s:g0}{i:Nat}(h:AF p s i≠i):∃a:i<s.size,p s[i]=jj:=by
 by_cases a:i<s.size
 .refine⟨a,?_⟩;cases hp:p s[i] with
  |true=>rfl
  |false=>exact absurd (ED p s i a hp) h
 .exact absurd (FI p s i a) h
def No{p:UInt8->Bool}{s:g0}{i:Nat}(h:AF p s i≠i):AF p s i<=s.size:=by
 obtain⟨a,_⟩:=JU h;exact Cz p s i (by omega)
def Nh{s:g0}{at_:Nat}(h:(AX s at_ K).2.2=K):A3 (AX s at_ K).1:=by
 unfold AX at h⊢;rw[eE (by simp)]at h⊢;by_cases a:AF Az s (Ae s at_)=Ae s at_\/4<AF Az s (Ae s at_)-Ae s at_
 .rw[eI a]at h;cases h
 .rw[eE a];have b:AF Az s (Ae s at_)≠Ae s at_:=λe=>a (j5 e)
  obtain⟨d,c⟩:=JU b;have f:=B8 Az s (Ae s at_);obtain⟨r,e,_⟩:=IA d (No b) (by omega:Ae s at_<AF Az s (Ae s at_));exact j5 ⟨_,r,e,(CF _).1 c⟩
def R1{s:g0}{j:Nat}(i:j<s.size)(g:An s[j]=jj)(h:¬(3<AF An s j-j\/(s[j]=48/\1<AF An s j-j))):A3 (s.extract j (AF An s j)):=by
 have l:=B8 An s (j+1);rw[<-B6 An s j i g]at l;have n:=Cz An s j (by omega);obtain⟨r,e,d⟩:=IA i n (by omega:j<AF An s j);have f:=(Ci _).1 g;have p:¬3<AF An s j-j:=λx=>h (j5 x)
 have k:1<AF An s j-j->49<=s[j].toNat:=by
  intro o;have m:s[j]≠48:=λx=>h (j6 ⟨x,o⟩)
  have:s[j].toNat≠48:=λx=>m (gn.1 (by rw[x];rfl))
  omega
 refine j6 ?_;rw[e]
 match r,d with
 |[],_=>simp only[ah];exact gG f
 |[a],d=>simp only[ah];exact gG ⟨k (by simp at d;omega),f.2⟩
 |[a,b],d=>simp only[ah];exact gG ⟨k (by simp at d;omega),f.2⟩
 |a::b::c::r,d=>simp at d;omega
def I7{s:g0}{at_:Nat}(h:(AK s at_ K).2.2=K):C0 (AK s at_ K).1:=by
 unfold AK at h⊢;rw[eE (by simp)]at h⊢;by_cases a:Ae s at_<s.size
 .rw[dif_pos a]at h⊢;cases hu:C6 s[Ae s at_] with
  |true=>
   rw[eI rfl];exact j6 ⟨((EJ _).1 hu).1,((EJ _).1 hu).2,rfl⟩
  |false=>
   rw[hu,eE (by simp)]at h;rw[eE (by simp)];cases hd:An s[Ae s at_] with
   |false=>
    rw[hd,fS,eI rfl]at h;rw[fS,eI rfl];exact j5 ⟨rfl,Nh h⟩
   |true=>
    rw[hd,ig,eE (by simp)]at h;rw[ig,eE (by simp)];by_cases b:3<AF An s (Ae s at_)-Ae s at_\/(s[Ae s at_]=48/\1<AF An s (Ae s at_)-Ae s at_)
    .rw[eI b]at h;cases h
    .rw[eE b];exact j5 ⟨rfl,R1 a hd b⟩
 .rw[dif_neg a]at h;cases h
def Vt{s:g0}{at_:Nat}(h:(Cr s at_).2.2=K):∀t∈(Cr s at_).1,C0 t:=by
 fun_induction Cr s at_ with
 |case1 at_ hc _ _ ih=>
  intro t a;have b:(AK s at_ K).2.2=K:=by
   have:=hc.1;rw[eW]at this;simpa using this.1
  rcases ey.1 a with rfl|a
  .exact I7 b
  .exact ih h t a
 |case2 at_ hc=>
  intro t a;rw[ex]at a;subst a;exact I7 h
def Hu{s:g0}{a:Nat}{b:Bool}{c:UInt8}(h:(Bl s a b c).2=K):b=K:=by
 unfold Bl at h;cases b with
 |false=>rfl
 |true=>simp at h
structure KP(A:Dj):Prop where
 name:A3 A.name
 args:∀t∈A.args,C0 t
def Lu{s:g0}{at_:Nat}(h:(AR s at_ K).2.2=K):KP (AR s at_ K).1:=by
 unfold AR at h⊢;simp only at h⊢;have a:=Hu h;have b:(Bl s (AX s (AN s at_ K) K).2.1 (AX s (AN s at_ K) K).2.2 40).2=K:=by
  cases hm:(Bl s (AX s (AN s at_ K) K).2.1 (AX s (AN s at_ K) K).2.2 40).2 with
  |false=>rfl
  |true=>unfold DW at a;rw[hm,eI rfl]at a;cases a
 refine⟨Nh (Hu b),?_⟩;unfold DW at a⊢;rw[b,eE (by simp)]at a⊢;exact Vt a
def DA(x:BF):Prop:=if(x.kind==97||x.kind==33)=jj then KP x.A else C0 x.L/\C0 x.R/\(x.kind=61\/x.kind=35\/x.kind=60)
def Ri{s:g0}{at_:Nat}(h:(Dd s at_).2.2=K):DA (Dd s at_).1:=by
 unfold Dd at h⊢;simp only at h⊢;cases h33:DS s (Ae s at_) 33 with
 |true=>
  rw[h33,eI rfl]at h;rw[eI rfl];unfold DA;rw[eI (by rfl)];exact Lu h
 |false=>
  rw[h33,eE (by simp)]at h;rw[eE (by simp)];cases ho:(E3 s (Ae s at_)&&Li s (Ae s at_))with
  |true=>
   rw[ho,eI rfl]at h;rw[eI rfl];unfold DA;rw[eI (by rfl)];exact Lu h
  |false=>
   rw[ho,eE (by simp)]at h;rw[eE (by simp)];unfold Hr at h⊢;generalize hg:AN s (AK s (Ae s at_) K).2.1 (AK s (Ae s at_) K).2.2=a3 at h⊢;cases hc:(!(AK s (Ae s at_) K).2.2&&(DS s a3 61||DS s a3 35||DS s a3 60))with
   |false=>rw[hc,eE (by simp)]at h;cases h
   |true=>
    rw[hc,eI rfl]at h;rw[eI rfl];rw[eW]at hc;(have d:(AK s (Ae s at_) K).2.2=K:=by simpa using hc.1);have c:Cw s a3=61\/Cw s a3=35\/Cw s a3=60:=by
     have a:=hc.2;unfold Cw;by_cases b:a3<s.size
     .rw[dif_pos b];unfold DS at a;rw[dif_pos b,dif_pos b,dif_pos b]at a;simp only[gr,gF]at a;rcases a with(a|a)|a
      .exact j5 a
      .exact j6 (j5 a)
      .exact j6 (j6 a)
     .unfold DS at a;rw[dif_neg b,dif_neg b,dif_neg b]at a;simp at a
    unfold DA;(have f:(Cw s a3==97||Cw s a3==33)=K:=by rcases c with e|e|e<;>rw[e]<;>rfl);rw[eE (by rw[f];simp)];exact⟨I7 d,I7 h,c⟩
def UU{s:g0}{at_:Nat}(h:(C5 s at_).2.2=K):∀x∈(C5 s at_).1,DA x:=by
 fun_induction C5 s at_ with
 |case1 at_ hc _ _ ih=>
  intro t a;have b:(Dd s at_).2.2=K:=by
   have:=hc.1;rw[eW]at this;simpa using this.1
  rcases ey.1 a with rfl|a
  .exact Ri b
  .exact ih h t a
 |case2 at_ hc=>
  intro t a;rw[ex]at a;subst a;exact Ri h
structure PZ(c:CA):Prop where
 head:KP c.head
 body:∀x∈c.body,DA x
def IY{s:g0}{a:Nat}{b:Bool}(h:(Dz s a b).2.2=K):b=K/\∀x∈(Dz s a b).1,DA x:=by
 unfold Dz at h⊢;cases hc:(!b&&DS s (AN s a b) 58)with
 |true=>
  rw[hc,eI rfl]at h;rw[eI rfl];have d:b=K:=by
   rw[eW]at hc;simpa using hc.1
  refine⟨d,?_⟩;cases h45:DS s (BZ s a b 58) 45 with
  |true=>
   rw[h45,eI rfl]at h;rw[eI rfl];exact UU h
  |false=>rw[h45,eE (by simp)]at h;cases h
 |false=>
  rw[hc,eE (by simp)]at h;rw[eE (by simp)];exact⟨h,λx c=>by cases c⟩
def Dy{s:g0}{at_:Nat}(h:(Ao s at_).2.2=K):PZ (Ao s at_).1:=by
 unfold Ao at h⊢;simp only at h⊢;have a:=IY (Hu h);exact⟨Lu a.1,a.2⟩
def Qh{s:g0}{at_:Nat}(h:(As s at_).2.2=K):∀c∈(As s at_).1,PZ c:=by
 fun_induction As s at_ with
 |case1 at_ ha hc ih=>
  intro c a;rcases ey.1 a with rfl|a
  .exact Dy hc.1
  .exact ih h c a
 |case2 at_ ha hc=>
  intro c a;rw[ex]at a;subst a;exact Dy h
 |case3 at_ ha=>intro c a;cases a
def Ku{s:g0}{at_:Nat}{cs:List A8}(h:(As s at_).2.2=K)(d:cs.map A8.erase=(As s at_).1):
  ∀c∈cs,KP c.head/\∀x∈Aj c,DA x:=by
 intro c b;have a:c.erase∈(As s at_).1:=by rw[<-d];exact eZ b
 have:=Qh h _ a;exact⟨this.head,this.body⟩
def VM{s:g0}{at_:Nat}{cs:List A8}(h:(As s at_).2.2=K)(d:cs.map A8.erase=(As s at_).1):
  ∀c∈cs,∀x∈Aj c,(x.kind==97)=jj->∀t∈x.A.args,Bs t:=by
 intro c e x f a t b;have:=(Ku h d c e).2 x f;unfold DA at this;rw[a,iG,eI rfl]at this;exact(this.args t b).zL
theorem Tryz.yR:(Tryz.prog.info? 189).map (λi=>(i.zero,i.size,i.bytes))=V (V (.agg #[X J 0,O ⟨#[]⟩,U Y 0 0,U Y 0 0]),4,72):=by kernel_rfl
def YE(r:Int):D4 r≠1:=by
 unfold D4;split
 .simp
 .split
  .simp
  .split
   .simp
   .split<;>simp
def ZT(s:g0)(j:Nat)(h:j<s.size):(DJ s j).1.kind≠1/\(DJ s j).1.place=j/\(DJ s j).1.text.size<=s.size+4:=by
 unfold DJ;split
 .have:=Cz Az s j (by omega);refine⟨by simp,rfl,?_⟩;simp only[size_extract this];omega
 .split
  .have:=Cz An s j (by omega);refine⟨by simp,rfl,?_⟩;simp only[size_extract this];omega
  .split
   .refine⟨by simp,rfl,?_⟩;show 2<=s.size+4;omega
   .refine⟨YE _,rfl,?_⟩;have:=Wi ((Utf8.decode s j).1:Int);simp only[Co];omega
def SF(s:g0):∀(n a:Nat),s.size-a<=n->Z (P5 s a)<=s.size-a/\∀m∈P5 s a,m.kind≠1/\m.place<=s.size/\m.text.size<=s.size+4
 |n,a,hn=>by
  by_cases h:Ae s a<s.size
  .have f:=BR s a;have i:=Py s _ h;obtain⟨d,j,c⟩:=ZT s _ h;rw[FR rfl h]
   match n with
   |0=>omega
   |n+1=>
    obtain⟨g,e⟩:=SF s n (DJ s (Ae s a)).2 (by omega);refine⟨by simp only[eF];omega,λm b=>?_⟩;rcases ey.1 b with rfl|b
    .exact⟨d,by omega,c⟩
    .exact e m b
  .rw[Iu h];exact⟨by simp,λm b=>by simp at b⟩
def ck(m:AZ):(Ic m).place=m.place/\(Ic m).text=m.text/\(m.kind≠1->(Ic m).kind≠1):=by
 unfold Ic;split
 .exact⟨rfl,rfl,λh=>h⟩
 .exact⟨rfl,rfl,λ_=>by simp⟩
def L9(s:g0):Z (EH s)<=s.size+1/\0<Z (EH s):=by
 rw[Lp];unfold CU;have:=(SF s _ 0 (eM _)).1;simp;omega
def Qz(s:g0):∀m∈EH s,m.place<=s.size/\m.text.size<=s.size+4:=by
 rw[Lp];unfold CU;intro m a;rcases eG.1 a with a|a
 .obtain⟨b,d,rfl⟩:=eH.1 a;obtain⟨e,c,_⟩:=ck b;obtain⟨_,f,g⟩:=(SF s _ 0 (eM _)).2 b d;rw[e,c];exact⟨f,g⟩
 .simp at a;subst a;exact⟨eM _,eV _⟩
def cG{s:g0}(d:s.size<=300):Us (EH s):=by
 refine⟨λi h b=>?_,λi h=>?_⟩
 .by_cases c:i+1<Z (EH s)
  .exact c
  .exfalso
   (have a:(EH s).getLast?=V (Em s):=by unfold EH;simp);have:(EH s)[i]?=V (Em s):=by
    rw[List.getLast?_eq_getElem?]at a;rw[show i=Z (EH s)-1 by omega];exact a
   rw[ez h]at this;simp only[eD]at this;rw[this]at b;cases b
 .have:=(Qz s _ (eo h)).2;omega
def V7{s:g0}(a:s.size<=300)(i:Nat):(Au (EH s) i).place<=1000000:=by
 by_cases h:i<Z (EH s)
 .rw[<-Bg h];have:=(Qz s _ (eo h)).1;omega
 .unfold Au;rw[eK,List.getElem?_eq_none (by omega)];simp
structure Dq where
 hp:Int
 hn:g0
 zD:List AO
 hv:j8
 bv:j8
 zC:List Oi
def Dq.pc(c:Dq):PC:=⟨c.hp,c.hn,c.zD,c.zC.map Prod.fst⟩
def Bc(c:Dq):List j8:=[X J c.hp,O c.hn,c.hv,c.bv]
structure NW(w:j7)(base:Nat)(lv:j8)(c:Dq):Prop where
 at_:Jb w base c.hv c.bv c.zD c.zC
 yU:B1 c.hv lv
 yT:B1 c.bv lv
 yX:∀p∈c.zC,B1 p.2 lv
def NW.kept{M:List Nat}{w w':j7}{base:Nat}{a:j8}{c:Dq}(h:NW w base a c)(k:Ac M w w')(b:∀i,i∈M->i<base):NW w' base a c:=
 ⟨h.at_.kept k b,h.yU,h.yT,h.yX⟩
def Hq{w w':j7}{base:Nat}{e:TypeId}{size:Nat}{v a:j8}{n:Nat}{b:List j8}(h:w.ownsRow base e size v n b)(k:Ac a.ownBlock.toList w w')(d:B1 v a):w'.ownsRow base e size v n b:=
 Al h k (λi f c=>d i f (by simpa using c))
def NW.zd{w w':j7}{base:Nat}{d:j8}{c:Dq}{g n cap H:Nat}(h:NW w base d c)(k:Ac d.ownBlock.toList w w')(b:d.ownBlock=V g\/g=H)(e:w.heap.size<=H):NW w' base (U (V ⟨g,0,Y⟩) n cap) c:=
 ⟨⟨Hq h.at_.head k h.yU,⟨Hq h.at_.body.row k h.yT,λp a=>⟨Hq (h.at_.body.each p a).1 k (h.yX p a),(h.at_.body.each p a).2⟩⟩⟩,
  B1.zd h.yU h.at_.head b e,B1.zd h.yT h.at_.body.row b e,λp a=>B1.zd (h.yX p a) (h.at_.body.each p a).1 b e⟩
def MV{w o:j7}{e l:TypeId}{c i n m base:Nat}{v a:j8}{j d:List j8}(h:o.ownsRow w.heap.size e c v n j)(g:w.ownsRow base l i a m d):B1 v a:=by
 intro k b f;have:=(h.lt k b).1;have:=(g.lt k f).2;omega
structure FG(w:j7)(base:Nat)(lv:j8)(cs:List Dq):Prop where
 row:w.ownsRow base 189 4 lv (Z cs) (cs.flatMap Bc)
 each:∀c∈cs,NW w base lv c
def FG.kept{M:List Nat}{w w':j7}{base:Nat}{a:j8}{cs:List Dq}(h:FG w base a cs)(k:Ac M w w')(b:∀i,i∈M->i<base):FG w' base a cs:=
 ⟨Ad h.row k b,λc d=>(h.each c d).kept k b⟩
def FG.base{w:j7}{base base':Nat}{b:j8}{cs:List Dq}(h:FG w base b cs)(d:base'<=base):FG w base' b cs:=
 ⟨Am h.row d,λc a=>⟨(h.each c a).at_.base d,(h.each c a).yU,(h.each c a).yT,(h.each c a).yX⟩⟩
def FG.nil(w:j7)(base:Nat):FG w base (U Y 0 0) []:=⟨eU _ _ _ _,λp a=>by simp at a⟩
def bX(w:j7)(e:Ending)(w':j7):Except Int (List PC)->Prop
 | .ok cs=>∃ad cp pcs,e=.returned (.tuple #[U ad (Z cs) cp,X J 0,.bool jj])/\pcs.map Dq.pc=cs/\FG w' w.heap.size (U ad (Z cs) cp) pcs/\Ac [] w w'
 | .error p=>e=.returned (.tuple #[U Y 0 0,X J p,.bool K])/\Ac [] w w'
set_option maxRecDepth 100000
theorem I5(s:g0)(w:j7)(hs:s.size<=300):
  Calls prog 71 #[O s] w λe G=>bX w e G (C4 (EH s) 0 []):=by
 obtain⟨i0,K6,Ix,K9,K4⟩:=fC Tryz.yR;have HO:=Ab (cG hs);have HD:=Ab (V7 hs);have FO:=L9 s;have E0:=Ab (bE s w hs);obtain⟨R,hR⟩:∃R,C4 (EH s) 0 []=R:=⟨_,rfl⟩;rw[hR];have BS:=Ab hR;clear hR;generalize EH s=ms at HO HD FO E0 BS;have MB:Z ms<=1000:=by omega
 go_enter func71,ntmps71;go_wp2_with fail
 refine E0.mono ?_;rintro e x ⟨mv,rfl,A2,k1⟩;clear E0;obtain⟨C,m,rfl⟩:=Ak A2;have HA:=AI.new x [U C (Z ms) m,X J 0,X J 0] 203;have HI:=Am (eC A2 (j1 [U C (Z ms) m,X J 0,X J 0].toArray 203)) (eV _);have HJ:(U C (Z ms) m).ownBlock≠V x.heap.size:=λe=>by have:=(A2.lt _ e).2;omega
 have HH:Cm (x.alloc (j1 [U C (Z ms) m,X J 0,X J 0].toArray 203)) x.heap.size (U C (Z ms) m) ms 0 0:=⟨HA,HI,HJ,FO.2,by omega⟩;have HY:=k1.alloc (j1 [U C (Z ms) m,X J 0,X J 0].toArray 203);have I:=Ab HH;have EK:=Ab HY;have H3:w.heap.size<=x.heap.size:=k1.size;have BT:(x.alloc (j1 [U C (Z ms) m,X J 0,X J 0].toArray 203)).heap.size=x.heap.size+1:=by simp
 clear HA HI HJ HH HY A2 k1;go_wp2;change Code.wp _ _ _ _ (x.alloc (j1 [U C (Z ms) m,X J 0,X J 0].toArray 203));generalize x.alloc (j1 [U C (Z ms) m,X J 0,X J 0].toArray 203)=w2 at I EK BT⊢;obtain⟨b,H1⟩:∃b,x.heap.size=b:=⟨_,rfl⟩;rw[H1]at I H3 BT⊢;clear H1;obtain⟨g,Nj,HV,_,_,_,_⟩:=I.cells;simp only[ei]at HV;obtain⟨rfl,_,rfl⟩:=HV;have H2:Hid (∀k,b+1<=k->(U (V ⟨g,0,Y⟩) (Z ms) m).ownBlock≠V k):=λk y e=>by have:=(I.row.lt k e).2;omega
 go_loopg [2] (Z ms) (λgk o wr=>∃(j:Nat) (acc:List Dq) (z:Option Addr) (B:Nat),o=U z (Z acc) B/\gk=Z ms-j/\Hid (C4 ms j (acc.map Dq.pc)=R)/\Hid (Cm wr b (U (V ⟨g,0,Y⟩) (Z ms) m) ms j 0)/\Hid (FG wr (b+1) (U z (Z acc) B) acc)/\Hid (Ac [] w wr)/\b+1<=wr.heap.size/\Z acc<=j)
 case atStart=>exact⟨0,[],Y,0,rfl,rfl,BS,I,FG.nil _ _,EK,by omega,by simp⟩
 case round=>
  clear I BS EK BT;obtain⟨j,acc,z,B,rfl,HX,N,HR,HP,HK,FL,L0⟩:=hrel;have HG:=Ab HX;clear HX;have S:=HR.lt;have Nd:(j:Int)<(Z ms:Int):=by omega
  have LS:(0:Int)<=(j:Int):=by omega
  obtain⟨g',Mo,he,b0,b1,_,hc⟩:=HR.cells;simp only[ei,eD,fm]at he;obtain⟨⟨rfl,_⟩,_,rfl⟩:=he;obtain⟨c0,_,_⟩:=hc j S;clear hc;rw[Bg S]at c0;obtain⟨P,AB⟩:∃P,(Au ms j).kind=P:=⟨_,rfl⟩;rw[AB]at c0;go_wp2_with fail
  go_region_held3 (λG=>G.cell? ⟨b,0,Y⟩=V (U (V ⟨g,0,Y⟩) (Z ms) m)/\G.cell? ⟨b,1,Y⟩=V (X J j)/\G.cell? ⟨g,j*3,Y⟩=V (X J P)) (go_keep) (fail)
  rename_i K2;clear K2 b0 b1 c0;cases y:(P==1)with
  |true=>
   (have H9:(P !=1)=K:=by simp[bne,y]);(have HF:Hid (R=.ok (acc.map Dq.pc)):=by show _=_;rw[<-Aa N];exact MR S (by rw[AB];exact y));clear y AB N;go_wp2;go_ret3;rw[HF.out];exact⟨z,B,acc,by simp,rfl,by simpa using(HP.kept (Ac.refl [] wr).drew (by simp)).base (by omega),HK.drew⟩
  |false=>
   (have H9:(P !=1)=jj:=by simp[bne,y]);(have AH:Hid (((Au ms j).kind==1)=K):=by show _=_;rw[AB];exact y);clear y AB;(go_wp2_with fail);refine(Tl b (U (V ⟨g,0,Y⟩) (Z ms) m) ms j 0 _ (HR.zJ (Ac.refl [] wr).drew) HO HD).mono ?_;intro e v T;have D:=Ab (HP.kept (Ac.refl [] wr).drew (by simp));have W:=Ab (HK.drew);have Jx:b+1<=wr.drew.heap.size:=FL;clear HR HP HK FL;generalize wr.drew=w5 at T D W Jx;cases ht:Cu ms j with
   |error q=>
    rw[ht]at T;obtain⟨n9,hp,hn,K8,n8,K7,KB,n2,H5,rfl,Q,F⟩:=T;(have HF:Hid (R=.error q):=by show _=_;rw[<-Aa N];exact JO S AH ht);have IS:=Ab (W.trans' F (λi A=>j6 (by simp at A;omega)));(have d2:=λo=>(Q.zO.alloc o).cell 2);simp at d2;clear ht N AH Q F D W;simp only[A6];(go_wp2_with fail);have MY:=d2 (j1 [X J hp,O hn,U K8 n8 K7,U KB n2 H5].toArray 189)
    go_region_held3 (λG=>G.cell? ⟨b,2,Y⟩=V (X J q)) (go_keep) (fail)
    rename_i H6;clear H6;go_wp2;go_ret3;rw[HF.out];exact⟨rfl,(IS.alloc _).drew⟩
   |ok r=>
    obtain⟨c,n1⟩:=r;rw[ht]at T;have LL:=Gt ht;obtain⟨u,f,l,h,M,rfl,HE,A1,Q,F⟩:=T;have HT:=Ab (PS (acc:=acc.map Dq.pc) S AH ht);clear ht AH;obtain⟨n,d,a,M6⟩:=c;simp only at HE A1;subst HE;have LE:=F.size;have FA:=Ad D.row F (by simp);(have HN:Hid (∀q∈acc,NW v (b+1) (U z (Z acc) B) q):=λq E=>(D.each q E).kept F (by simp));have B2:Hid (NW v (b+1) (U z (Z acc) B) ⟨n,d,a,U u (Z a) f,U l (Z (M.map Prod.fst)) h,M⟩):=by
     have CL:=A1.base (base':=w5.heap.size) (by omega);refine⟨A1.base (by omega),?_,?_,?_⟩
     .exact MV CL.head D.row
     .exact MV CL.body.row D.row
     .exact λp hp=>MV (CL.body.each p hp).1 D.row
    have HW:=Ab (W.trans' F (λi A=>j6 (by simp at A;omega)));have L:=Ab Q;have M2:=Q.lt;clear A1 Q F D W;generalize hnl:Z (M.map Prod.fst)=nl at B2;have HZ:((v.alloc (j1 (j2 (A6 n d (U u (Z a) f) (U l nl h))) 189)).alloc (j1 (j2 (A6 n d (U u (Z a) f) (U l nl h))) 189)).heap[v.heap.size+1]?=V (j1 (j2 (A6 n d (U u (Z a) f) (U l nl h))) 189 (0,0)):=by
     have hh:=fe (v.alloc (j1 (j2 (A6 n d (U u (Z a) f) (U l nl h))) 189)) (j1 (j2 (A6 n d (U u (Z a) f) (U l nl h))) 189);rw[show(v.alloc (j1 (j2 (A6 n d (U u (Z a) f) (U l nl h))) 189)).heap.size=v.heap.size+1 from by simp]at hh
     exact hh
    have HQ:=eC (eC FA (j1 (j2 (A6 n d (U u (Z a) f) (U l nl h))) 189)) (j1 (j2 (A6 n d (U u (Z a) f) (U l nl h))) 189);(have M0:Z acc<=1000:=by omega);have MN:=Ab hnl;clear hnl;simp only[A6];go_wp2_with (at_builtin;refine eP _ rfl (.tmp 35) (.tmp 37) _ rfl (b+1) 189 i0 _ 4 72 underlying66 K6 Ix K9 K4 rfl (by omega) (U z (Z acc) B) (Z acc) (acc.flatMap Bc) rfl HQ ⟨v.heap.size+1,0,Y⟩ 1 1 (A6 n d (U u (Z a) f) (U l nl h)) rfl rfl (eS (cs:=j2 (A6 n d (U u (Z a) f) (U l nl h))) (t:=189) (fr:=(0,0)) HZ) (by simp[Value.oneCell',A6]) (by omega) (by unfold maxLen;omega) (by omega) (by simp;omega) (v.heap.size+1+1) (by simp) ?_;intro g1 FT w9 HM FW BA H7)
    have H:Ac (U z (Z acc) B).ownBlock.toList v w9:=(((Ac.refl _ v).alloc _).alloc _).grown FW (λk y=>j5 (by simp[y]));(have A0:∀i∈(U z (Z acc) B).ownBlock.toList,b+1<=i:=λi A=>(FA.lt i (by simpa using A)).1);have Go:Cm w9 b (U (V ⟨g,0,Y⟩) (Z ms) m) ms n1 0:=⟨L.zO.kept H (λhm=>by have:=A0 b hm;omega),Al L.row H (λi A hm=>by have:=A0 i hm;exact absurd A (H2 i this)),L.ap,L.lt,L.len⟩;have Ha:Ac [] w w9:=HW.trans' H (λi A=>j6 (by have:=A0 i A;omega));have K3:Hid (FG w9 (b+1) (U (V ⟨g1,0,Y⟩) (Z acc+1) FT) (acc++[⟨n,d,a,U u (Z a) f,U l nl h,M⟩])):=by
     refine⟨by simpa[Bc,A6] using HM,?_⟩;intro q E;rcases eG.1 E with E|E
     .exact(HN q E).zd H BA (by omega)
     .simp only[ex]at E;subst E;exact B2.zd H BA (by omega)
    have KK:Hid (C4 ms n1 ((acc++[(⟨n,d,a,U u (Z a) f,U l nl h,M⟩:Dq)]).map Dq.pc)=R):=by
     show _=_;rw[<-Aa N,Aa HT];simp[Dq.pc]
    (have LC:b+1<=w9.heap.size:=by have:=H.size;omega);have IJ:=Ab Go;have K1:=Ab Ha;clear H A0 Go Ha FW BA H7 HM HZ HQ FA HN B2 HW L N HT
    go_roundg (Z ms-n1)
    case measure=>have:=Aa HG;omega
    case rel=>exact⟨n1,acc++[⟨n,d,a,U u (Z a) f,U l nl h,M⟩],V ⟨g1,0,Y⟩,FT,by simp,rfl,KK,IJ,by simpa using K3,K1,LC,by simp;omega⟩
def Ww{s:g0}{d:List AZ}{e a j:Nat}(h:At s d e a)(r:a<=s.size)(c:Ae s a=j):
  (((Au d e).kind==2)=jj/\∃i,AX s j K=((Au d e).text,i,K)/\At s d (e+1) i/\i<=s.size)\/
  (((Au d e).kind==2)=K/\AX s j K=(jK,j,jj)):=by
 have f:Ae s j=j:=by rw[<-c];exact Ch s a
 rw[h.head];by_cases b:j<s.size
 .have l:=h.next c b;cases hl:Az s[j] with
  |true=>
   obtain⟨n,p⟩:=GF c b hl;rw[p]at l;(have q:j<AF Az s j:=by rw[B6 _ _ _ b hl];have:=B8 Az s (j+1);omega);have m:=Cz Az s j (by omega);rw[n];by_cases g:AF Az s j-j<=4
   .left;refine⟨by simp[g],_,JX f rfl (by omega),l,m⟩
   .right;exact⟨by simp[g],DR f rfl (by omega)⟩
  |false=>
   right;refine⟨?_,DR f (ED _ _ _ b hl) (j5 rfl)⟩;(have t:¬(97<=s[j].toNat/\s[j].toNat<=122):=λh=>by rw[(CF _).2 h]at hl;cases hl);by_cases o:s[j].toNat<128
   .cases hd:An s[j] with
    |true=>
     rw[(EO c b hl hd).1];by_cases g:3<AF An s j-j\/(s[j]=48/\1<AF An s j-j)<;>simp[g]
    |false=>
     by_cases k:s[j]=58/\DS s (j+1) 45=jj
     .rw[(Jk c b k.1 k.2).1];rfl
     .rw[(Gd c b hl hd k o).1];simp only[ff,ne_eq,FU];omega
   .rw[(GG c b (by omega)).1];rfl
 .right;rw[Iz (by omega)];exact⟨rfl,DR f (FI _ _ _ b) (j5 rfl)⟩
def L7(s:g0)(a:Nat)(c:UInt8):BZ s a jj c=a:=by simp[BZ,AN]
def LZ{s:g0}{a:Nat}{c:UInt8}(h:DS s (Ae s a) c=jj):BZ s a K c=Ae s a+1:=by simp[BZ,AN,h]
def Pj{s:g0}{a:Nat}{c:UInt8}(h:DS s (Ae s a) c=K):BZ s a K c=Ae s a:=by simp[BZ,AN,h]
def Ft(s:g0)(a:Nat)(c:UInt8):Bl s a jj c=(a,jj):=by simp[Bl,L7]
def Ly{s:g0}{a:Nat}{c:UInt8}(h:DS s (Ae s a) c=jj):Bl s a K c=(Ae s a+1,K):=by simp[Bl,LZ h,AN,h]
def MK{s:g0}{a:Nat}{c:UInt8}(h:DS s (Ae s a) c=K):Bl s a K c=(Ae s a,jj):=by simp[Bl,Pj h,AN,h]
def W9{s:g0}{f:List AZ}:∀(k d a:Nat) (i:List AO),Z f-d<=k->At s f d a->a<=s.size->
  NR (λts (L:List AG)=>ts=i++L.map ct) s f (F4 f d i) ((Cr s a).1,Bl s (Cr s a).2.1 (Cr s a).2.2 41)
 |k,d,a,i,hk,h,ha=>by
  have x:=h.lt;have g:=Sp h ha;obtain⟨l,b,v,j⟩:∃l b v,AK s a K=(l,b,v):=⟨_,_,_,rfl⟩;rw[j]at g;unfold F4;rw[dif_pos x];cases hM:Fk (Au f d) d with
  |error p=>
   rw[hM]at g;obtain⟨rfl,rfl⟩:=g;rw[Ll j (by simp)];simp only[L7,Ft];exact⟨rfl,rfl⟩
  |ok r=>
   obtain⟨t,B⟩:=r;rw[hM]at g;have A:=Fu hM;subst A;obtain⟨rfl,rfl,u,w⟩:=g;simp only;have z:=DP (s:=s) (a:=b) (c:=44) (by simp[Ev]);have y:=DP (s:=s) (a:=b) (c:=41) (by simp[Ev]);rw[u.head,show Hl=⟨#[44]⟩from rfl,show N3=⟨#[41]⟩from rfl,z,y];cases hc:DS s (Ae s b) 44 with
   |true=>
    obtain⟨_,e⟩:=Pr j ha (by simp[AN,hc]);rw[LZ hc]at e;obtain⟨q,o⟩:=u.take (by simp[Ev]) hc;rw[e];simp only[if_true]
    match k with
    |0=>omega
    |k+1=>
     have ih:=W9 k (d+2) (Ae s b+1) (i++[ct l]) (by omega) q o
     revert ih
     generalize F4 f (d+2) (i++[ct l])=X;intro ih
     match X,ih with
     | .ok (ts,n),ih=>exact⟨ih.1,by rw[ih.2.1];simp,ih.2.2⟩
     | .error p,ih=>exact ih
   |false=>
    rw[Ll j (by simp[AN,hc])];simp only[ev,if_false,Pj hc];have m:Ae s (Ae s b)=Ae s b:=Ch s b;cases hcl:DS s (Ae s b) 41 with
    |true=>
     obtain⟨q,o⟩:=u.take (by simp[Ev]) hcl;rw[Ly (by rw[m];exact hcl),m];simp only[if_true];exact⟨rfl,rfl,q,o⟩
    |false=>
     rw[MK (by rw[m];exact hcl),m,DF w];simp only[ev,if_false];exact⟨rfl,rfl⟩
def Sj{s:g0}{b:List AZ}{d a:Nat}(h:At s b d a)(i:a<=s.size):
  NR (λx (A:Dj)=>x=(A.at_,A.name,A.args.map ct)) s b (EF b d) (AR s a K):=by
 have q:AN s a K=Ae s a:=rfl;have k:(Au b d).place=Ae s a:=by rw[h.head,DF i]
 unfold EF AR;simp only[q];rcases Ww h i rfl with⟨f,g,e,j,l⟩|⟨f,e⟩
 .rw[e,f];simp only[if_true];have r:=DP (s:=s) (a:=g) (c:=40) (by simp[Ev]);rw[j.head,show Rd=⟨#[40]⟩from rfl,r];cases hc:DS s (Ae s g) 40 with
  |true=>
   obtain⟨m,o⟩:=j.take (by simp[Ev]) hc;rw[Ly hc];simp only[if_true,DW,ev,if_false];have ih:=W9 _ (d+2) (Ae s g+1) [] (eM _) m o
   revert ih
   generalize F4 b (d+2) []=X;intro ih
   match X,ih with
   | .ok (ts,n),ih=>exact⟨ih.1,by rw[ih.2.1,k];simp,ih.2.2⟩
   | .error p,ih=>exact ih
  |false=>
   rw[MK hc,DF l];simp only[ev,if_false,DW,if_true,Ft];exact⟨rfl,rfl⟩
 .rw[e,f,k];simp only[ev,if_false,Ft,DW,if_true];exact⟨rfl,rfl⟩
def Fj(k:UInt8):Int:=if k=97 then 0 else if k=33 then 1 else if k=61 then 2 else if k=35 then 3 else 4
def LP(x:BF):PL:=⟨x.at_,Fj x.kind,x.A.at_,x.A.name,x.A.args.map ct,ct x.L,ct x.R⟩
def cV:ct Ec=AD:=rfl
def dk{s:g0}{e:List AZ}{d a j:Nat}(h:At s e d j)(C:j<=s.size)(T:Ae s j=j):
  NR (λx (y:BF)=>Jl (.inr x)=LP y/\x.atom=AU) s e (G4 e d) (Hr s j (AN s (AK s j K).2.1 (AK s j K).2.2) (AK s j K).1 (AK s j K).2.2):=by
 have H:(Au e d).place=j:=by rw[h.head,DF C,T]
 have f:=Sp h C;obtain⟨l,b,z,B⟩:∃l b z,AK s j K=(l,b,z):=⟨_,_,_,rfl⟩;rw[B]at f;rw[B];unfold G4 Hr;cases hM:Fk (Au e d) d with
 |error p=>
  rw[hM]at f;obtain⟨rfl,rfl⟩:=f;simp only[ig,iA,ev,if_false,J8];exact⟨rfl,rfl⟩
 |ok r=>
  obtain⟨t,n1⟩:=r;rw[hM]at f;have I:=Fu hM;subst I;obtain⟨rfl,rfl,v,E⟩:=f;simp only;have L:=DP (s:=s) (a:=b) (c:=61) (by simp[Ev]);have M:=DP (s:=s) (a:=b) (c:=35) (by simp[Ev]);have P:=DP (s:=s) (a:=b) (c:=60) (by simp[Ev]);have N:AN s b K=Ae s b:=rfl;rw[v.head,N];unfold Mk;rw[show dX=⟨#[61]⟩from rfl,show dV=⟨#[35]⟩from rfl,show dU=⟨#[60]⟩from rfl,L,M,P];have n:∀(c:UInt8) (m:Int),c∈Ev->Fj c=m->DS s (Ae s b) c=jj->Cw s (Ae s b)=c/\
    NR (λx (y:BF)=>Jl (.inr x)=LP y/\x.atom=AU) s e
     (match Fk (Au e (d+1+1)) (d+1+1)with| .error p=> .error p| .ok (r,n2)=> .ok (⟨(Au e d).place,m,AU,ct l,r⟩,n2))
     (⟨c,Gk,l,(AK s (Ae s b+1) K).1,j⟩,(AK s (Ae s b+1) K).2):=by
   intro c m hc W o;have u:=Fa o;refine⟨by rw[Ej u];simpa[DS,u] using o,?_⟩;obtain⟨G,S⟩:=v.take hc o;have k:=Sp G S;obtain⟨q,A,w,D⟩:∃q A w,AK s (Ae s b+1) K=(q,A,w):=⟨_,_,_,rfl⟩;rw[D]at k;rw[D];cases hM2:Fk (Au e (d+1+1)) (d+1+1)with
   |error p=>
    rw[hM2]at k;obtain⟨rfl,rfl⟩:=k;exact⟨rfl,rfl⟩
   |ok r=>
    obtain⟨t3,n3⟩:=r;rw[hM2]at k;have Q:=Fu hM2;subst Q;obtain⟨rfl,rfl,R,F⟩:=k;refine⟨rfl,⟨?_,rfl⟩,R,F⟩;simp[Jl,LP,W,H,Gk]
  cases h61:DS s (Ae s b) 61 with
  |true=>
   obtain⟨g,i⟩:=n 61 2 (by simp[Ev]) rfl h61;rw[g];simp only[if_true,fS,iG,ic];exact i
  |false=>
   cases h35:DS s (Ae s b) 35 with
   |true=>
    obtain⟨g,i⟩:=n 35 3 (by simp[Ev]) rfl h35;rw[g];simp only[if_true,fS,iG,jf,ic,ev,if_false];exact i
   |false=>
    cases h60:DS s (Ae s b) 60 with
    |true=>
     obtain⟨g,i⟩:=n 60 4 (by simp[Ev]) rfl h60;rw[g];simp only[if_true,fS,jf,ic,ev,if_false];exact i
    |false=>
     simp only[jD,iz,ev,if_false,DF E];exact⟨rfl,rfl⟩
def di{s:g0}{b:List AZ}{d a:Nat}(h:At s b d a)(E:a<=s.size):
  NR (λx (y:BF)=>Jl x=LP y) s b (G6 b d) (Dd s a):=by
 obtain⟨j,g⟩:∃j,Ae s a=j:=⟨_,rfl⟩;have f:Ae s j=j:=by rw[<-g];exact Ch s a
 have q:j<=s.size:=by rw[<-g];exact Bn s a E
 have o:At s b d j:=by rw[<-g];exact h.gap
 have H:(Au b d).place=j:=by rw[h.head,DF E,g]
 unfold G6 Dd;simp only[g];have R:=DP (s:=s) (a:=a) (c:=33) (by simp[Ev]);rw[h.head,show Wc=⟨#[33]⟩from rfl,R,g,<-h.head,H];cases h33:DS s j 33 with
 |true=>
  obtain⟨z,C⟩:=o.take (c:=33) (by simp[Ev]) (by rw[f];exact h33);rw[f]at z C;simp only[if_true];have ih:=Sj z C;obtain⟨A,l,k,u⟩:∃A l k,AR s (j+1) K=(A,l,k):=⟨_,_,_,rfl⟩;rw[u]at ih⊢
  revert ih
  generalize EF b (d+1)=X;intro ih
  match X,ih with
  | .ok ((p,n,ts),m),ih=>
   obtain⟨w,i,v⟩:=ih;refine⟨w,?_,v⟩;simp only[fo]at i;obtain⟨rfl,rfl,rfl⟩:=i;simp[Jl,LP,Fj,cV]
  | .error p,ih=>exact ih
 |false=>
  simp only[ev,if_false];have L:Ek b d=(E3 s j&&Li s j):=by
   unfold Ek;have G:=h.lt;have P:b[d]?=V (Au b d):=by
    unfold Au;rw[eK,ez G];rfl
   rw[P];rcases Ww o q f with⟨r,M,e,B,S⟩|⟨r,e⟩
   .have I:=B.lt;have Q:b[d+1]?=V (Au b (d+1)):=by
     unfold Au;rw[eK,ez I];rfl
    have N:=DP (s:=s) (a:=M) (c:=40) (by simp[Ev]);have F:E3 s j=jj:=by
     unfold E3;by_cases t:j<s.size
     .rw[dif_pos t];cases hl:Az s[j] with
      |true=>rfl
      |false=>rw[DR f (ED _ _ _ t hl) (j5 rfl)]at e;simp at e
     .rw[DR f (FI _ _ _ t) (j5 rfl)]at e;simp at e
    unfold Li;rw[Q,e,F];simp only[r,gq,fS];rw[B.head,show Rd=⟨#[40]⟩from rfl,N];rfl
   .unfold Li;rw[e];simp only[ig,iA,iz];split
    .rename_i m W D T;simp only[eD]at D;rw[<-D,r,iA]
    .rfl
  rw[L];cases hop:(E3 s j&&Li s j)with
  |true=>
   simp only[if_true];have ih:=Sj o q;obtain⟨A,l,k,u⟩:∃A l k,AR s j K=(A,l,k):=⟨_,_,_,rfl⟩;rw[u]at ih⊢
   revert ih
   generalize EF b d=X;intro ih
   match X,ih with
   | .ok ((p,n,ts),m),ih=>
    obtain⟨w,i,v⟩:=ih;refine⟨w,?_,v⟩;simp only[fo]at i;obtain⟨rfl,rfl,rfl⟩:=i;simp[Jl,LP,Fj,cV]
   | .error p,ih=>exact ih
  |false=>
   simp only[ev,if_false];have ih:=dk (a:=a) o q f
   revert ih
   generalize G4 b d=X;intro ih
   match X,ih with
   | .ok (c,m),ih=>exact⟨ih.1,ih.2.1.1,ih.2.2⟩
   | .error p,ih=>exact ih
def WG{s:g0}{b:List AZ}:∀(k j a:Nat) (i:List PL),Z b-j<=k->At s b j a->a<=s.size->
  NR (λls (L:List BF)=>ls=i++L.map LP) s b (Fl b j i) (C5 s a)
 |k,j,a,i,hk,h,ha=>by
  have q:=h.lt;have g:=di h ha;obtain⟨f,d,o,l⟩:∃f d o,Dd s a=(f,d,o):=⟨_,_,_,rfl⟩;rw[l]at g;cases hM:G6 b j with
  |error p=>
   rw[hM]at g;obtain⟨rfl,rfl⟩:=g;rw[Lv l (by simp),Hd q hM,L7];exact⟨rfl,rfl⟩
  |ok r=>
   obtain⟨t,u⟩:=r;rw[hM]at g;have B:=Im hM;obtain⟨rfl,x,m,v⟩:=g;have A:Jl t=LP f:=x;have y:=DP (s:=s) (a:=d) (c:=44) (by simp[Ev]);rw[Mj q hM,m.head,show Hl=⟨#[44]⟩from rfl,y,A];cases hc:DS s (Ae s d) 44 with
   |true=>
    obtain⟨_,e⟩:=O6 l ha (by simp[AN,hc]);rw[LZ hc]at e;obtain⟨w,z⟩:=m.take (by simp[Ev]) hc;rw[e];simp only[if_true]
    match k with
    |0=>omega
    |k+1=>
     have ih:=WG k (u+1) (Ae s d+1) (i++[LP f]) (by omega) w z
     revert ih
     generalize Fl b (u+1) (i++[LP f])=X;intro ih
     match X,ih with
     | .ok (ts,n),ih=>exact⟨ih.1,by rw[ih.2.1];simp,ih.2.2⟩
     | .error p,ih=>exact ih
   |false=>
    rw[Lv l (by simp[AN,hc]),Pj hc];simp only[ev,if_false];exact⟨rfl,by simp,m.gap,Bn s d v⟩
def bk(c:CA):PC:=⟨c.head.at_,c.head.name,c.head.args.map ct,c.body.map LP⟩
def aP{s:g0}{b:List AZ}{n a:Nat}{c:PC}{C:CA}(h:At s b n a)(d:a<=s.size)(i:c=bk C/\C.at_=C.head.at_):
  NR (λx (y:CA)=>x=bk y/\y.at_=y.head.at_) s b (My b n c) (C,Bl s a K 46):=by
 have f:=DP (s:=s) (a:=a) (c:=46) (by simp[Ev]);unfold My;rw[h.head,show WZ=⟨#[46]⟩from rfl,f,DF d];cases hd:DS s (Ae s a) 46 with
 |true=>
  obtain⟨e,g⟩:=h.take (by simp[Ev]) hd;rw[Ly hd];exact⟨rfl,i,e,g⟩
 |false=>
  rw[MK hd];exact⟨rfl,rfl⟩
def dm(s:g0)(a:Nat):BD (BO s a) Xl=(DS s (Ae s a) 58&& !(DS s (Ae s a+1) 45))/\BD (BO s a) cP=(DS s (Ae s a) 58&&DS s (Ae s a+1) 45):=by
 obtain⟨j,b⟩:∃j,Ae s a=j:=⟨_,rfl⟩;rw[b];unfold BD;by_cases h:j<s.size
 .have o:DS s j 58=(s[j]==58):=by simp[DS,h]
  rw[o];by_cases c:s[j]=58/\DS s (j+1) 45=jj
  .rw[(Jk b h c.1 c.2).1,c.1,c.2];have k:(cP.toList==Xl.toList)=K:=by
    rw[show cP.toList=[58,45] from by rw[fc];rfl,show Xl.toList=[58] from by rw[fc];rfl]
    rfl
   (have n:(cP.toList==cP.toList)=jj:=by simp);constructor
   .rw[k];rfl
   .rw[n];rfl
  .have i:∀x:UInt8,((⟨#[x]⟩:g0).toList==cP.toList)=K:=by
    intro x;rw[show cP.toList=[58,45] from by rw[fc];rfl,show(⟨#[x]⟩:g0).toList=[x] from by rw[fc]]
    simp
   by_cases f:s[j].toNat<128
   .cases hl:Az s[j] with
    |true=>
     (have:s[j]≠58:=λe=>by rw[e]at hl;cases hl);rw[(GF b h hl).1];by_cases d:AF Az s j-j<=4<;>simp[d,this]
    |false=>
     cases hd:An s[j] with
     |true=>
      (have:s[j]≠58:=λe=>by rw[e]at hd;cases hd);rw[(EO b h hl hd).1];by_cases d:3<AF An s j-j\/(s[j]=48/\1<AF An s j-j)<;>simp[d,this]
     |false=>
      rw[(Gd b h hl hd c f).1];rw[show Xl=⟨#[58]⟩from rfl];simp only[Q8,i,iz];cases he:(s[j]==58)with
      |false=>simp
      |true=>
       (have g:s[j]=58:=by simpa using he);have m:DS s (j+1) 45=K:=by
        cases d:DS s (j+1) 45 with
        |false=>rfl
        |true=>exact absurd ⟨g,d⟩ c
       rw[g,m];exact⟨rfl,rfl⟩
   .have:=GG b h (by omega);have l:(s[j]==58)=K:=by
     simp only[ff,ne_eq];intro e;rw[e]at f;simp at f
    rw[this.1,l];exact⟨rfl,rfl⟩
 .rw[Iz (by omega)];simp[Em,DS,h]
def Yb{s:g0}{d:List AZ}{o a:Nat}(h:At s d o a)(R:a<=s.size):
  NR (λx (y:CA)=>x=bk y/\y.at_=y.head.at_) s d (Cu d o) (Ao s a):=by
 have F:=h.gap;have Q:=Bn s a R;have M:Ae s (Ae s a)=Ae s a:=Ch s a;have e:=Sj F Q;obtain⟨A,b,v,l⟩:∃A b v,AR s (Ae s a) K=(A,b,v):=⟨_,_,_,rfl⟩;have t:A.at_=Ae s a:=by
  have:(AR s (Ae s a) K).1.at_=Ae s a:=by
   unfold AR;simp only;show Ae s (Ae s a)=Ae s a;exact M
  rw[l]at this;exact this
 rw[l]at e;unfold Cu Ao;simp only[l];cases hM:EF d o with
 |error p=>
  rw[hM]at e;obtain⟨rfl,rfl⟩:=e;simp only[Dz,ig,iA,ev,if_false,L7,Ft];exact⟨rfl,rfl⟩
 |ok r=>
  obtain⟨⟨p,n,ts⟩,m⟩:=r;rw[hM]at e;obtain⟨rfl,w,j,q⟩:=e;simp only[fo]at w;obtain⟨rfl,rfl,rfl⟩:=w;obtain⟨H,I⟩:=dm s b;have G:AN s b K=Ae s b:=rfl;simp only;rw[j.head,H,I];unfold Dz;rw[G];cases h58:DS s (Ae s b) 58 with
  |false=>
   simp only[iA,ev,if_false,iz,Pj h58];have:=aP (c:=⟨A.at_,A.name,A.args.map ct,[]⟩) (C:=⟨A,[],Ae s a⟩) j.gap (Bn s b q) ⟨rfl,t.symm⟩;exact this
  |true=>
   simp only[fS,gq,if_true,LZ h58];cases h45:DS s (Ae s b+1) 45 with
   |false=>
    simp only[fS,if_true,ev,if_false,Ft,DF q];exact⟨rfl,by simp⟩
   |true=>
    simp only[ig,if_true,ev,if_false];have g:=Fa h58;(have E:s[Ae s b]=58:=by simpa[DS,g] using h58);have z:=j.next rfl g;rw[(Jk (a:=b) rfl g E h45).2]at z;have W:=Fa h45;have f:=WG _ (m+1) (Ae s b+2) [] (eM _) z (by omega);obtain⟨L,k,i,u⟩:∃L k i,C5 s (Ae s b+2)=(L,k,i):=⟨_,_,_,rfl⟩;rw[u]at f;have P:C5 s (Ae s b+1+1)=(L,k,i):=u;rw[P];cases hM3:Fl d (m+1) [] with
    |error p=>
     rw[hM3]at f;obtain⟨rfl,rfl⟩:=f;simp only[Ft];exact⟨rfl,rfl⟩
    |ok r=>
     obtain⟨T,S⟩:=r;rw[hM3]at f;obtain⟨rfl,B,N,D⟩:=f;simp only[gd]at B;subst B;exact aP (c:=⟨A.at_,A.name,A.args.map ct,L.map LP⟩) (C:=⟨A,L,Ae s a⟩) N D ⟨rfl,t.symm⟩
def Xk{s:g0}{d:List AZ}:∀(k i a:Nat) (j:List PC),Z d-i<=k->At s d i a->a<=s.size->Ae s a=a->
  match C4 d i j with
  | .ok cs=>(As s a).2.2=K/\cs=j++(As s a).1.map bk/\(∀c∈(As s a).1,c.at_=c.head.at_)
  | .error p=>(As s a).2.2=jj/\p=((As s a).2.1:Int)
 |k,i,a,j,hk,h,ha,hg=>by
  have o:=h.lt;by_cases g:a<s.size
  .have m:((Au d i).kind==1)=K:=by
    rw[h.head];have l:=hg;by_cases z:s[a].toNat<128
    .cases hl:Az s[a] with
     |true=>
      rw[(GF l g hl).1];by_cases q:AF Az s a-a<=4<;>simp[q]
     |false=>
      cases hd:An s[a] with
      |true=>
       rw[(EO l g hl hd).1];by_cases q:3<AF An s a-a\/(s[a]=48/\1<AF An s a-a)<;>simp[q]
      |false=>
       by_cases t:s[a]=58/\DS s (a+1) 45=jj
       .rw[(Jk l g t.1 t.2).1];rfl
       .rw[(Gd l g hl hd t z).1];simp only[ff,ne_eq];(have A:¬(97<=s[a].toNat/\s[a].toNat<=122):=λh=>by rw[(CF _).2 h]at hl;cases hl);(have D:¬(48<=s[a].toNat/\s[a].toNat<=57):=λh=>by rw[(Ci _).2 h]at hd;cases hd);rcases PU A D with e|e|e<;>simp[e]
    .rw[(GG l g (by omega)).1];rfl
   have b:=Yb h ha;obtain⟨C,f,u,v⟩:∃C f u,Ao s a=(C,f,u):=⟨_,_,_,rfl⟩;rw[v]at b;rw[KJ g v];cases hM:Cu d i with
   |error p=>
    rw[hM]at b;obtain⟨rfl,rfl⟩:=b;rw[JO o m hM];simp only[EA,if_true,J8];exact⟨trivial,trivial⟩
   |ok r=>
    obtain⟨c,n⟩:=r;have E:=Gt hM;rw[hM]at b;obtain⟨rfl,⟨rfl,x⟩,y,w⟩:=b;rw[PS o m hM];simp only[EA,ev,if_false];have B:AN s f K=Ae s f:=rfl;rw[B]
    match k with
    |0=>omega
    |k+1=>
     have ih:=Xk k n (Ae s f) (j++[bk C]) (by omega) y.gap (Bn s f w) (Ch s f)
     revert ih
     generalize C4 d n (j++[bk C])=X;intro ih
     match X,ih with
     | .ok cs,ih=>
      refine⟨ih.1,by rw[ih.2.1];simp,?_⟩;intro c b;rcases ey.1 b with rfl|b
      .exact x
      .exact ih.2.2 c b
     | .error p,ih=>exact ih
  ·(have m:((Au d i).kind==1)=jj:=by rw[h.head,Iz (by omega)];rfl);rw[MR o m,LF g];simp
def KN(s:g0):Bool:= !decide (300<s.size)&&(!(Ao s 0).2.2&&(!decide ((Ao s 0).2.1<s.size)&&(!decide (0<Z (Ao s 0).1.body)&& !decide (2<Z (Ao s 0).1.head.args))))
def aL:Af:=⟨⟨#[]⟩,[]⟩
def GC(s:g0):Af:=if KN s=jj then Av BM (Ao s 0).1.head else aL
def IT(s:g0):Bool:=KN s&&((Cq (GC s)).toList==s.toList)
def Qu(x:g0):Prop:=1<=Z x.toList/\Z x.toList<=4/\∀c∈x.toList,Az c=jj
def dL(x:g0):Prop:=1<=Z x.toList/\Z x.toList<=3/\(∀c∈x.toList,An c=jj)/\∀r,x.toList=48::r->r=[]
def Gn(x:g0):Prop:=Qu x\/dL x
def Fp(s:g0)(i:Nat)(l:List UInt8):Prop:=i+Z l<=s.size/\∀k (h:k<Z l) (h2:i+k<s.size),s[i+k]=l[k]
def Fp.left{s:g0}{i:Nat}{l m:List UInt8}(h:Fp s i (l++m)):Fp s i l:=by
 have c:=h.1;rw[eJ]at c;refine⟨by omega,λk b a=>?_⟩;rw[h.2 k (by rw[eJ];omega) a,fL b]
def Fp.right{s:g0}{i:Nat}{l m:List UInt8}(h:Fp s i (l++m)):Fp s (i+Z l) m:=by
 have a:=h.1;rw[eJ]at a;refine⟨by omega,λk c b=>?_⟩;have:=h.2 (Z l+k) (by rw[eJ];omega) (by omega);rw[List.getElem_append_right (by omega)]at this;simp only[Nat.add_sub_cancel_left]at this;rw[<-this]
 congr 1
 omega
def Rt(s:g0):Fp s 0 s.toList:=by
 refine⟨by rw[<-A7];omega,λk b a=>?_⟩;simp only[fc,fw];simp[ByteArray.getElem_eq_getElem_data]
def Fp.head{s:g0}{i:Nat}{c:UInt8}{l:List UInt8}(h:Fp s i (c::l)):∃b:i<s.size,s[i]=c:=by
 have a:=h.1;simp only[eF]at a;have:=h.2 0 (by simp) (by omega);exact⟨by omega,by simpa using this⟩
def PN{p:UInt8->Bool}{s:g0}:∀(l:List UInt8) (i:Nat) (c:UInt8) (m:List UInt8),Fp s i (l++c::m)->(∀x∈l,p x=jj)->p c=K->AF p s i=i+Z l
 |[],i,c,m,h,_,hc=>by
  obtain⟨a,e⟩:=h.head;rw[ED p s i a (by rw[e];exact hc)];rfl
 |x::l,i,c,m,h,hl,hc=>by
  obtain⟨a,e⟩:=(show Fp s i (x::(l++c::m))from h).head;rw[B6 p s i a (by rw[e];exact hl x (by simp))];have b:Fp s (i+1) (l++c::m):=(show Fp s i ([x]++(l++c::m))from h).right;rw[PN l (i+1) c m b (λy d=>hl y (by simp[d])) hc,eF];omega
def Gz{s x:g0}{i:Nat}(h:Fp s i x.toList):s.extract i (i+Z x.toList)=x:=by
 apply toList_inj;have a:=h.1;simp only[fc]at h a⊢;apply List.ext_getElem
 .simp at a⊢;omega
 .intro k d b;have c:=h.2 k b (by simp at b a⊢;omega);rw[<-c];simp[ByteArray.getElem_eq_getElem_data]
def TG{c:UInt8}(h:Az c=jj):Dc c=K/\C6 c=K/\An c=K:=by
 unfold Az at h;unfold Dc C6 An;simp only[eW,im]at h;have b:97<=c.toNat:=h.1;refine⟨?_,?_,?_⟩
 .rw[ix,ff,ff];constructor
  .rintro rfl;exact absurd b (by decide)
  .rintro rfl;exact absurd b (by decide)
 .rw[Bool.and_eq_false_iff];exact j6 (fO (λa=>by have:c.toNat<=90:=a;omega))
 .rw[Bool.and_eq_false_iff];exact j6 (fO (λa=>by have:c.toNat<=57:=a;omega))
def S4{c:UInt8}(h:An c=jj):Dc c=K/\C6 c=K:=by
 unfold An at h;unfold Dc C6;simp only[eW,im]at h;have a:48<=c.toNat:=h.1;have b:c.toNat<=57:=h.2;refine⟨?_,?_⟩
 .rw[ix,ff,ff];constructor
  .rintro rfl;exact absurd a (by decide)
  .rintro rfl;exact absurd a (by decide)
 .rw[Bool.and_eq_false_iff];exact j5 (fO (λb=>by have:65<=c.toNat:=b;omega))
def FQ{s:g0}{i:Nat}{c:UInt8}{m:List UInt8}(h:Fp s i (c::m))(a:Dc c=K):Ae s i=i:=by
 obtain⟨b,e⟩:=h.head;rw[Ae,dif_pos b,eE (by rw[e,a];simp)]
def Gn.first{x:g0}(h:Gn x):∃c r,x.toList=c::r/\Dc c=K/\C6 c=K/\((An c=K/\Qu x)\/(An c=jj/\dL x)):=by
 cases hx:x.toList with
 |nil=>
  rcases h with h|h
  .have:=h.1;rw[hx]at this;simp at this
  .have:=h.1;rw[hx]at this;simp at this
 |cons c r=>
  refine⟨c,r,rfl,?_⟩;rcases h with h|h
  .have e:=h.2.2 c (by rw[hx];simp);obtain⟨b,a,f⟩:=TG e;exact⟨b,a,j5 ⟨f,h⟩⟩
  .have d:=h.2.2.1 c (by rw[hx];simp);obtain⟨b,a⟩:=S4 d;exact⟨b,a,j6 ⟨d,h⟩⟩
def QW{s x:g0}{i:Nat}{c:UInt8}{m:List UInt8}(a:Qu x)(h:Fp s i (x.toList++c::m))(j:Az c=K):AX s i K=(x,i+Z x.toList,K):=by
 obtain⟨d,r,e,f,_⟩:=Gn.first (j5 a);have g:Ae s i=i:=FQ (c:=d) (m:=r++c::m) (by rw[e]at h;exact h) f;have b:=PN x.toList i c m h a.2.2 j;have l:=a.1;have k:=a.2.1;rw[JX g b (by omega),Gz h.left]
def bG(c:UInt8):Prop:=Az c=K/\An c=K/\Dc c=K
def Rp{s x:g0}{i:Nat}{c:UInt8}{m:List UInt8}(v:Gn x)(h:Fp s i (x.toList++c::m))(l:bG c):AK s i K=(⟨0,x⟩,i+Z x.toList,K):=by
 obtain⟨d,r,e,q,o,a⟩:=v.first;have j:Fp s i (d::(r++c::m)):=by rw[e]at h;exact h
 have t:Ae s i=i:=FQ j q;obtain⟨u,b⟩:=j.head;unfold AK;rw[eE (by simp)];simp only[t];rw[dif_pos u,eE (by rw[b,o];simp)];rcases a with⟨a,n⟩|⟨a,f⟩
 .rw[eI (by rw[b,a];rfl),QW n h l.1]
 .have p:=PN x.toList i c m h f.2.2.1 l.2.1;have w:=f.1;have y:=f.2.1;rw[eE (by rw[b,a];simp),p,eE ?_,Gz h.left];rintro (g|⟨g,k⟩)
  .omega
  .rw[b]at g;have:=f.2.2.2 r (by rw[e,g]);rw[e,this]at k;simp at k
def Fo:List g0->List UInt8
 |[]=>[]
 |[x]=>x.toList
 |x::y::l=>x.toList++44::Fo (y::l)
def cT:bG 44:=by unfold bG;decide
def dd:bG 41:=by unfold bG;decide
def Pe{s:g0}{i:Nat}{c:UInt8}{m:List UInt8}(h:Fp s i (c::m))(d:UInt8):DS s i d=(c==d):=by
 obtain⟨b,a⟩:=h.head;unfold DS;rw[dif_pos b,a]
def Qy{s:g0}:∀(a:List g0) (x:g0) (i:Nat) (m:List UInt8),(∀y∈x::a,Gn y)->Fp s i (Fo (x::a)++41::m)->Cr s i=((x::a).map (AG.mk 0),i+Z (Fo (x::a)),K)
 |[],x,i,m,hx,h=>by
  have f:=Rp (hx x (by simp)) (show Fp s i (x.toList++41::m)from h) dd;have b:Fp s (i+Z x.toList) (41::m):=(show Fp s i (x.toList++41::m)from h).right;have d:AN s (i+Z x.toList) K=i+Z x.toList:=by unfold AN;rw[eE (by simp),FQ b dd.2.2]
  have c:DS s (i+Z x.toList) 44=K:=by rw[Pe b];rfl
  rw[Cr];simp only[f,d,c];rw[dif_neg (by simp)];unfold BZ;rw[d,c,eE (by simp)];rfl
 |y::a,x,i,m,hx,h=>by
  have g:Fp s i (x.toList++44::(Fo (y::a)++41::m)):=by
   (have e:Fo (x::y::a)++41::m=x.toList++44::(Fo (y::a)++41::m):=by rw[Fo];simp);rw[<-e];exact h
  have f:=Rp (hx x (by simp)) g cT;have b:Fp s (i+Z x.toList) (44::(Fo (y::a)++41::m)):=g.right;have d:AN s (i+Z x.toList) K=i+Z x.toList:=by unfold AN;rw[eE (by simp),FQ b cT.2.2]
  have c:DS s (i+Z x.toList) 44=jj:=by rw[Pe b];rfl
  have n:BZ s (i+Z x.toList) K 44=i+Z x.toList+1:=by unfold BZ;rw[d,c];rfl
  have k:Fp s (i+Z x.toList+1) (Fo (y::a)++41::m):=(show Fp s (i+Z x.toList) ([44]++(Fo (y::a)++41::m))from b).right;have ih:=Qy a y (i+Z x.toList+1) m (λz j=>hx z (by simp at j⊢;exact j6 j)) k;have p:=h.1;have l:i<s.size:=by
   obtain⟨o,_⟩:=b.head;omega
  rw[Cr];simp only[f,d,c,n,ih];rw[dif_pos ⟨by simp,by omega,l⟩];simp only[eR,fo,and_true,true_and];rw[Fo];simp;omega
structure Ln(f:Af):Prop where
 name:Qu f.name
 args:∀x∈f.args,Gn x
 ne:f.args≠[]
def Pn:∀(a:List g0) (x s:g0),(Gv (s++x) jj a).toList=s.toList++Fo (x::a)
 |[],x,s=>by rw[Gv,CG];rfl
 |y::a,x,s=>by
  rw[Gv,eI rfl];have h:=Pn a y (s++x++⟨#[44]⟩);rw[h,CG,CG,Fo];simp[fc]
def I4{f:Af}(h:f.args≠[]):(Cq f).toList=f.name.toList++(40::(Fo f.args++[41,46])):=by
 unfold Cq;cases hf:f.args with
 |nil=>exact absurd hf h
 |cons x xs=>
  rw[Gv,eE (by simp),CG,Pn xs x (f.name++⟨#[40]⟩),CG];simp[fc]
def MI{s:g0}{i:Nat}{c:UInt8}{m:List UInt8}(h:Fp s i (c::m))(d:Dc c=K):Bl s i K c=(i+1,K):=by
 have a:AN s i K=i:=by unfold AN;rw[eE (by simp),FQ h d]
 have b:DS s i c=jj:=by rw[Pe h];simp
 unfold Bl BZ;rw[a,b];rfl
def TD{f:Af}(h:Ln f):Ao (Cq f) 0=(⟨⟨f.name,f.args.map (AG.mk 0),0⟩,[],0⟩,(Cq f).size,K):=by
 obtain⟨s,b⟩:∃s,Cq f=s:=⟨_,rfl⟩;have a:=Rt s;rw[<-b,I4 h.ne,b]at a;have z:s.size=Z f.name.toList+Z (Fo f.args)+3:=by
  rw[A7,<-b,I4 h.ne];simp;omega
 rw[b];obtain⟨d,r,e,v,_⟩:=Gn.first (j5 h.name);have l:Ae s 0=0:=FQ (c:=d) (m:=r++40::(Fo f.args++[41,46])) (by rw[e]at a;exact a) v;have k:=QW h.name a (by decide);rw[fw]at k;have j:Fp s (Z f.name.toList) (40::(Fo f.args++[41,46])):=by have:=a.right;rwa [fw]at this
 have B:=MI j (by decide);have g:Fp s (Z f.name.toList+1) (Fo f.args++41::[46]):=(show Fp s (Z f.name.toList) ([40]++(Fo f.args++[41,46]))from j).right;have q:Cr s (Z f.name.toList+1)=(f.args.map (AG.mk 0),Z f.name.toList+1+Z (Fo f.args),K):=by
  cases hf:f.args with
  |nil=>exact absurd hf h.ne
  |cons x xs=>rw[hf]at g;exact Qy xs x _ [46] (λy A=>h.args y (by rw[hf];exact A)) g
 have n:=g.right;have w:=MI n (by decide);have p:AR s 0 K=(⟨f.name,f.args.map (AG.mk 0),0⟩,Z f.name.toList+1+Z (Fo f.args)+1,K):=by
  unfold AR;have C:AN s 0 K=0:=by unfold AN;rw[eE (by simp),l]
  simp only[C,k,B];unfold DW;simp only[ev,if_false,q,w]
 have i:Fp s (Z f.name.toList+1+Z (Fo f.args)+1) [46]:=(show Fp s (Z f.name.toList+1+Z (Fo f.args)) ([41]++[46])from n).right;have u:AN s (Z f.name.toList+1+Z (Fo f.args)+1) K=Z f.name.toList+1+Z (Fo f.args)+1:=by unfold AN;rw[eE (by simp),FQ i (by decide)]
 have o:Dz s (Z f.name.toList+1+Z (Fo f.args)+1) K=([],Z f.name.toList+1+Z (Fo f.args)+1,K):=by
  have D:DS s (Z f.name.toList+1+Z (Fo f.args)+1) 58=K:=by rw[Pe i];rfl
  unfold Dz BZ;rw[u,D];rfl
 have t:=MI i (by decide);unfold Ao;simp only[l,p,o,t];rw[z]
 congr 2
 omega
