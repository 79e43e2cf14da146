import Derived.Test.YtoihbhenbmffcaaGreatDoorZAS
import Derived.Test.YtoihbhenbmffcaaGreatDoorZAK
import Derived.Test.YtoihbhenbmffcaaGreatDoorZAQ
set_option linter.unusedVariables false
set_option linter.unusedSimpArgs false
set_option maxHeartbeats 6400000
namespace Go.Proofs.YtoihbhenbmffcaaGreatDoor
open Go.RowKit
open Go.Proofs.Tryz
def AX(s:cL):Prop:=(∃c r,s.toList=c::r/\97<=c.toNat/\c.toNat<=122)\/XU s.toList=true
theorem Cs{s:cL}{c:UInt8}{r:List UInt8}(h:s.toList=c::r):B5 s 0=c/\s.size=r.length+1:=by
 have b:s.size=r.length+1:=by rw[B4,h];rfl
 refine⟨?_,b⟩;unfold B5;rw[dif_pos (by omega)];obtain⟨d,a,_⟩:=GN s (by omega);rw[h]at a;exact(List.cons.inj a).1.symm
theorem Jd{c:UInt8}(a:48<=c.toNat)(b:c.toNat<=57):An c=true:=(BW _).2 ⟨a,b⟩
theorem Ia{c:UInt8}(a:97<=c.toNat):An c=false:=by
 cases h:An c with
 |false=>rfl
 |true=>have:=(BW _).1 h;omega
theorem No(x:UInt8)(l m:List UInt8):Op.bytesLess (x::l) (x::m)=Op.bytesLess l m:=by
 simp[Op.bytesLess]
theorem WZ{x y:UInt8}(h:x.toNat<y.toNat)(l m:List UInt8):Op.bytesLess (x::l) (y::m)=true:=by
 have:x<y:=h;simp[Op.bytesLess,this]
theorem WT{x y:UInt8}(h:y.toNat<x.toNat)(l m:List UInt8):Op.bytesLess (x::l) (y::m)=false:=by
 have a:¬x<y:=by
  intro c;have:x.toNat<y.toNat:=c;omega
 have b:(x==y)=false:=by
  rw[bc];intro e;rw[e]at h;omega
 simp[Op.bytesLess,a,b]
theorem EZ{s:cL}(h:XU s.toList=true):(Ay s).toList=List.replicate (3-s.toList.length) 48++s.toList:=by
 have g:GT s=true:=by
  unfold GT;rcases Eh h with⟨c,e,b,a⟩|⟨c,d,e,b,a⟩|⟨c,d,f,e,b,a⟩<;>rw[e,Ed]<;>simp<;>omega
 have j:s.toList.length<=3:=by
  rcases Eh h with⟨c,e,b,a⟩|⟨c,d,e,b,a⟩|⟨c,d,f,e,b,a⟩<;>rw[e]<;>simp
 have i:=B4 s;unfold Ay;rw[g,if_pos rfl,JQ 3 s (by omega) (by omega),i]
theorem Eu{s:cL}{c:UInt8}{r:List UInt8}(h:s.toList=c::r)(b:97<=c.toNat):Ay s=s:=by
 have a:GT s=false:=by
  unfold GT;rw[h,Ed];simp;omega
 unfold Ay;rw[a];rfl
theorem NC{a b:cL}(l:AX a)(i:AX b):Op.bytesLess (Ay a).toList (Ay b).toList=ES a b:=by
 rcases l with⟨c,r,p,q,B⟩|l
 ·obtain⟨w,C⟩:=Cs p;rcases i with⟨d,m,k,o,x⟩|i
  ·obtain⟨s,z⟩:=Cs k;rw[Eu p q,Eu k o];unfold ES;rw[w,s,Ia q,Ia o];rfl
  ·rw[Eu p q,EZ i];unfold ES;rw[w,Ia q];rcases Eh i with⟨d,e,j,h⟩|⟨d,f,e,j,h⟩|⟨d,f,g,e,j,h⟩;all_goals
    rw[(Cs e).1,Jd (by omega) h,e,p];refine Eq.trans (WT ?_ _ _) rfl
    first|omega|(show(48:UInt8).toNat<_;show 48<_;omega)
 ·rcases i with⟨d,m,k,o,x⟩|i
  ·obtain⟨s,z⟩:=Cs k;rw[Eu k o,EZ l];unfold ES;rw[s,Ia o];rcases Eh l with⟨c,e,j,h⟩|⟨c,f,e,j,h⟩|⟨c,f,g,e,j,h⟩;all_goals
    rw[(Cs e).1,Jd (by omega) h,e,k];refine Eq.trans (WZ ?_ _ _) rfl
    first|omega|(show(48:UInt8).toNat<_;show 48<_;omega)
  ·rw[EZ l,EZ i];unfold ES;rcases Eh l with⟨c,e,j,h⟩|⟨c,f,e,j,h⟩|⟨c,f,g,e,j,h⟩<;>
    rcases Eh i with⟨u,n,v,t⟩|⟨u,y,n,v,t⟩|⟨u,y,A,n,v,t⟩<;>
    rw[(Cs e).1,(Cs n).1,Jd (by omega) h,Jd (by omega) t,(Cs e).2,(Cs n).2,e,n]
   ·simp[List.replicate,No]
   ·exact Eq.trans (Eq.trans (No _ _ _) (WZ (by show 48<_;omega) _ _)) rfl
   ·exact Eq.trans (WZ (by show 48<_;omega) _ _) rfl
   ·exact Eq.trans (Eq.trans (No _ _ _) (WT (by show 48<_;omega) _ _)) rfl
   ·simp[List.replicate,No]
   ·exact Eq.trans (WZ (by show 48<_;omega) _ _) rfl
   ·exact Eq.trans (WT (by show 48<_;omega) _ _) rfl
   ·exact Eq.trans (WT (by show 48<_;omega) _ _) rfl
   ·simp[List.replicate]
theorem Lv(s:cL):(s.extract 1 s.size).toList=s.toList.drop 1:=by
 rw[bi,bi,ByteArray.data_extract,Array.toList_extract];have h:s.size=s.data.toList.length:=rfl;simp only[List.extract];rw[Z9 (by rw[aL];omega)]
theorem Et{k:Nat}{s:cL}{c:UInt8}{r:List UInt8}(h:s.toList=c::r):(Ex (k+1) s).toList=if 0<r.length/\c=48 then(Ex k (s.extract 1 s.size)).toList else s.toList:=by
 obtain⟨e,d⟩:=Cs h;rw[Ex,e,d];by_cases a:0<r.length/\c=48
 ·rw[if_pos ⟨by omega,a.2⟩,if_pos a]
 ·rw[if_neg (λb=>a ⟨by omega,b.2⟩),if_neg a]
theorem Ih{s:cL}(k:AX s):CX (Ay s)=s:=by
 rcases k with⟨c,r,e,b,m⟩|k
 ·rw[Eu e b];unfold CX;have i:GT s=false:=by
   unfold GT;rw[e,Ed];simp;omega
  rw[i];rfl
 ·have g:=EZ k;apply toList_inj;have l:(Ay s).size=(Ay s).toList.length:=B4 _;generalize Ay s=p at g l⊢;unfold CX;rcases Eh k with⟨c,e,b,m⟩|⟨c,d,e,b,m⟩|⟨c,d,f,e,b,m⟩
  ·rw[e]at g⊢;have a:p.toList=[48,48,c]:=g;(have i:GT p=true:=by unfold GT;rw[a,Ed];rfl);rw[i,if_pos rfl,l,a];show(Ex 3 p).toList=[c];rw[Et a,if_pos ⟨by simp,rfl⟩];(have j:(p.extract 1 p.size).toList=[48,c]:=by rw[Lv,a];rfl);rw[Et j,if_pos ⟨by simp,rfl⟩];(have q:((p.extract 1 p.size).extract 1 (p.extract 1 p.size).size).toList=[c]:=by rw[Lv,j];rfl);rw[Et q,if_neg (by simp),q]
  ·rw[e]at g⊢;have a:p.toList=[48,c,d]:=g;(have i:GT p=true:=by unfold GT;rw[a,Ed];rfl);(have o:c≠48:=λn=>by rw[n]at b;exact absurd b (by decide));rw[i,if_pos rfl,l,a];show(Ex 3 p).toList=[c,d];rw[Et a,if_pos ⟨by simp,rfl⟩];(have j:(p.extract 1 p.size).toList=[c,d]:=by rw[Lv,a];rfl);rw[Et j,if_neg (λh=>o h.2),j]
  ·rw[e]at g⊢;have a:p.toList=[c,d,f]:=g;(have i:GT p=true:=by unfold GT;rw[a,Ed];simp;omega);(have o:c≠48:=λn=>by rw[n]at b;exact absurd b (by decide));rw[i,if_pos rfl,l,a];show(Ex 3 p).toList=[c,d,f];rw[Et a,if_neg (λh=>o h.2),a]
theorem Fa{a b:cL}(c:AX a)(d:AX b)(h:Ay a=Ay b):a=b:=by
 rw[<-Ih c,<-Ih d,h]
def BE(s:cL)(a:Nat):AV:=if Af s a<s.size then G2 (Dk s (Af s a)).1 else DX s
def At(s:cL)(ms:List AV)(nx a:Nat):Prop:=ms.drop nx=Cv s a
theorem OB(s:cL)(a:Nat):Cv s (Af s a)=Cv s a:=by
 unfold Cv
 congr 2
 by_cases b:Af s a<s.size
 ·rw[Fl (AZ s a) b,Fl rfl b]
 ·rw[Hi b,Hi (by rw[AZ];exact b)]
theorem At.gap{s:cL}{b:List AV}{c a:Nat}(h:At s b c a):At s b c (Af s a):=by
 unfold At at*;rw[OB];exact h
theorem At.head{s:cL}{b:List AV}{c a:Nat}(h:At s b c a):Ao b c=BE s a:=by
 unfold At at h;have e:b[c]?=(Cv s a)[0]?:=by rw[<-h];simp
 unfold Ao BE;rw[aq,e];unfold Cv OA;split
 ·simp
 ·simp
theorem At.next{s:cL}{b:List AV}{c a j:Nat}(h:At s b c a)(d:Af s a=j)(e:j<s.size):At s b (c+1) (Dk s j).2:=by
 unfold At at*;rw[<-List.drop_drop,h];unfold Cv;rw[Fl d e];simp
theorem At.lt{s:cL}{b:List AV}{c a:Nat}(h:At s b c a):c<b.length:=by
 unfold At at h;have:(b.drop c).length=(Cv s a).length:=by rw[h]
 unfold Cv at this;simp at this;omega
theorem Hl{s:cL}{a:Nat}(h:¬Af s a<s.size):BE s a=DX s:=by simp[BE,h]
theorem Ga{s:cL}{a j:Nat}(c:Af s a=j)(h:j<s.size)(d:Av s[j]=true):
  BE s a=⟨if AM Av s j-j<=4 then 2 else 0,j,s.extract j (AM Av s j)⟩/\(Dk s j).2=AM Av s j:=by
 have e:=CA Av s j (by omega);have f:Dk s j=(⟨2,j,s.extract j (AM Av s j)⟩,AM Av s j):=by unfold Dk;rw[DS h,d];rfl
 unfold BE;rw[c,if_pos h,f];refine⟨?_,rfl⟩;simp only[G2,He,size_extract e,if_true];by_cases b:AM Av s j-j<=4<;>simp[b]
theorem Rq{s:cL}{j k:Nat}(h:j<s.size)(a:k<=s.size)(b:j<k)(c:UInt8):Cz (s.extract j k) 0 c=(s[j]==c):=by
 unfold Cz;rw[dif_pos (by rw[size_extract a];omega)];simp[ByteArray.getElem_extract]
theorem Es{s:cL}{a j:Nat}(i:Af s a=j)(h:j<s.size)(k:Av s[j]=false)(b:An s[j]=true):
  BE s a=⟨if 3<AM An s j-j\/(s[j]=48/\1<AM An s j-j)then 0 else 3,j,s.extract j (AM An s j)⟩/\(Dk s j).2=AM An s j:=by
 have c:=CA An s j (by omega);have f:j<AM An s j:=by rw[B0 _ _ _ h b];have:=Cq An s (j+1);omega
 have l:Dk s j=(⟨3,j,s.extract j (AM An s j)⟩,AM An s j):=by unfold Dk;rw[DS h,k,b];rfl
 unfold BE;rw[i,if_pos h,l];refine⟨?_,rfl⟩;have e:He ⟨3,j,s.extract j (AM An s j)⟩= !decide (3<AM An s j-j\/(s[j]=48/\1<AM An s j-j)):=by
  unfold He;simp only[size_extract c,Rq h c f];rw[if_neg (by decide),if_pos trivial,bJ];simp only[bN,aO,dS,dk,dm,bc,ne_eq];by_cases d:s[j]=48
  ·simp only[d,not_true_eq_false,true_and,and_false,or_false];omega
  ·simp only[d,not_false_eq_true,false_and,and_true,or_false];omega
 unfold G2;rw[e];by_cases g:3<AM An s j-j\/(s[j]=48/\1<AM An s j-j)<;>simp[g]
theorem Iu{s:cL}{a j:Nat}(c:Af s a=j)(h:j<s.size)(d:s[j]=58)(b:Cz s (j+1) 45=true):
  BE s a=⟨5,j,Zg⟩/\(Dk s j).2=j+2:=by
 have e:Dk s j=(⟨5,j,Zg⟩,j+2):=by unfold Dk;rw[DS h,d,b];rfl
 unfold BE;rw[c,if_pos h,e];exact⟨rfl,rfl⟩
theorem FH{s:cL}{a j:Nat}(f:Af s a=j)(h:j<s.size)(c:Av s[j]=false)(b:An s[j]=false)(l:¬(s[j]=58/\Cz s (j+1) 45=true))(d:s[j].toNat<128):
  BE s a=⟨DF (s[j].toNat:Int),j,⟨#[s[j]]⟩⟩/\(Dk s j).2=j+1:=by
 have i:¬(97<=s[j].toNat/\s[j].toNat<=122):=λh=>by rw[(Ce _).2 h]at c;cases c
 have g:¬(48<=s[j].toNat/\s[j].toNat<=57):=λh=>by rw[(BW _).2 h]at b;cases b
 have k:Dk s j=(⟨DF (s[j].toNat:Int),j,⟨#[s[j]]⟩⟩,j+1):=by
  unfold Dk;rw[DS h,c,b,cH s j h d];simp only[Z8,if_false];rw[if_neg l];simp only[BZ,Fi _ d]
 unfold BE;rw[f,if_pos h,k];refine⟨?_,rfl⟩;unfold G2 He;simp only;rcases Ot i g with e|e|e<;>simp[e]
theorem Gc{s:cL}{a j:Nat}(f:Af s a=j)(h:j<s.size)(c:128<=s[j].toNat):(BE s a).kind=0/\(BE s a).place=j:=by
 have g:Av s[j]=false:=by cases b:Av s[j] with|false=>rfl|true=>have:=(Ce _).1 b;omega
 have d:An s[j]=false:=by cases b:An s[j] with|false=>rfl|true=>have:=(BW _).1 b;omega
 have i:¬(s[j]=58/\Cz s (j+1) 45=true):=λb=>by rw[b.1]at c;simp at c
 have k:=(ey s j h c).1;have e:DF ((Utf8.decode s j).1:Int)=0:=by unfold DF;rw[if_neg (by omega),if_neg (by omega),if_neg (by omega),if_neg (by omega)]
 unfold BE Dk;rw[f,if_pos h,DS h,g,d];simp only[Z8,if_false];rw[if_neg i];simp[BZ,G2,He,e]
theorem Df{s:cL}{a:Nat}(d:a<=s.size):(BE s a).place=Af s a:=by
 obtain⟨j,b⟩:∃j,Af s a=j:=⟨_,rfl⟩;have f:=AN s a d;by_cases h:j<s.size
 ·by_cases e:s[j].toNat<128
  ·cases hl:Av s[j] with
   |true=>rw[(Ga b h hl).1,b]
   |false=>
    cases hd:An s[j] with
    |true=>rw[(Es b h hl hd).1,b]
    |false=>
     by_cases c:s[j]=58/\Cz s (j+1) 45=true
     ·rw[(Iu b h c.1 c.2).1,b]
     ·rw[(FH b h hl hd c e).1,b]
  ·rw[(Gc b h (by omega)).2,b]
 ·rw[Hl (by omega)];simp only[DX];omega
def Ea:List UInt8:=[46,44,33,61,35,60,40,41]
theorem PH{c:UInt8}(h:c∈Ea):c.toNat<128/\Av c=false/\An c=false/\c≠58/\DF (c.toNat:Int)=5/\EJ c=false:=by
 simp only[Ea,aj,bE,or_false]at h;rcases h with rfl|rfl|rfl|rfl|rfl|rfl|rfl|rfl<;>decide
theorem Pu(x c:UInt8):(((⟨#[x]⟩:cL).toList==(⟨#[c]⟩:cL).toList))=(x==c):=by
 have e:∀y:UInt8,(⟨#[y]⟩:cL).toList=[y]:=λy=>by rw[bi]
 rw[e,e];simp
theorem Dp{s:cL}{a:Nat}{c:UInt8}(o:c∈Ea):Bz (BE s a) ⟨#[c]⟩=Cz s (Af s a) c:=by
 obtain⟨j,d⟩:∃j,Af s a=j:=⟨_,rfl⟩;obtain⟨t,l,i,k,p,_⟩:=PH o;rw[d];unfold Bz;by_cases h:j<s.size
 ·have q:Cz s j c=(s[j]==c):=by simp[Cz,h]
  rw[q];have g:∀x:UInt8,(Av x=true\/An x=true\/128<=x.toNat)->(x==c)=false:=by
   intro x b;simp only[bc,ne_eq];rintro rfl;rcases b with b|b|b
   ·rw[l]at b;cases b
   ·rw[i]at b;cases b
   ·omega
  by_cases m:s[j].toNat<128
  ·cases hl:Av s[j] with
   |true=>
    rw[(Ga d h hl).1,g _ (Or.inl hl)];by_cases f:AM Av s j-j<=4<;>simp[f]
   |false=>
    cases hd:An s[j] with
    |true=>
     rw[(Es d h hl hd).1,g _ (Or.inr (Or.inl hd))];by_cases f:3<AM An s j-j\/(s[j]=48/\1<AM An s j-j)<;>simp[f]
    |false=>
     by_cases e:s[j]=58/\Cz s (j+1) 45=true
     ·rw[(Iu d h e.1 e.2).1];(have n:(s[j]==c)=false:=by simp[e.1,Ne.symm k]);have r:(Zg.toList==(⟨#[c]⟩:cL).toList)=false:=by
       rw[show Zg.toList=[58,45] from by rw[bi];rfl,show(⟨#[c]⟩:cL).toList=[c] from by rw[bi]]
       simp
      rw[n,r,cW]
     ·rw[(FH d h hl hd e m).1];simp only[Pu];cases he:(s[j]==c)with
      |false=>simp
      |true=>
       (have:s[j]=c:=by simpa using he);rw[this,p];rfl
  ·have:=Gc d h (by omega);rw[this.1,g _ (Or.inr (Or.inr (by omega)))];rfl
 ·rw[Hl (by omega)];simp[DX,Cz,h]
theorem At.take{s:cL}{e:List AV}{f a:Nat}{c:UInt8}(h:At s e f a)(n:c∈Ea)(g:Cz s (Af s a) c=true):At s e (f+1) (Af s a+1)/\Af s a+1<=s.size:=by
 obtain⟨m,k,i,j,o,_⟩:=PH n;have d:=EL g;have b:s[Af s a]=c:=by simpa[Cz,d] using g
 have:=h.next rfl d;rw[(FH (a:=a) rfl d (by rw[b];exact k) (by rw[b];exact i) (by rw[b];exact λl=>j l.1) (by rw[b];exact m)).2]at this;exact⟨this,by omega⟩
def Ml{α β:Type}(R:α->β->Prop)(s:cL)(ms:List AV):Except Int (α×Nat)->β×Nat×Bool->Prop
 | .ok (x,n),(y,a,bd)=>bd=false/\R x y/\At s ms n a/\a<=s.size
 | .error p,(_,a,bd)=>bd=true/\p=(a:Int)
def ct(t:AG):A3:=⟨(t.v.toNat:Int),FM t.s⟩
theorem Hn{s:cL}{j k:Nat}(h:j<s.size)(a:k<=s.size)(b:j<k):∃c:0<(s.extract j k).size,(s.extract j k)[0]=s[j]:=
 ⟨by rw[size_extract a];omega,by simp[ByteArray.getElem_extract]⟩
theorem P3(c:UInt8)(h:c.toNat<128):CE ⟨#[c]⟩ 0 0=(c.toNat:Int):=by
 have a:(0:Nat)<(⟨#[c]⟩:cL).size:=Nat.zero_lt_one;rw[Jw 0 a];have b:=cH ⟨#[c]⟩ 0 a h;rw[b];unfold CE;rw[dif_neg (λd=>absurd d.1 (show¬(0+1<1)from by decide))];rfl
theorem Qy{s:cL}{q:List AV}{z a:Nat}(h:At s q z a)(D:a<=s.size):Ml (λt E=>t=ct E) s q (EQ (Ao q z) z) (AA s a false):=by
 obtain⟨j,c⟩:∃j,Af s a=j:=⟨_,rfl⟩;have L:=AN s a D;rw[h.head];unfold AA EQ;simp only[Z8,if_false];by_cases b:j<s.size
 ·rw[dif_pos (by rw[c];exact b)];simp only[c];have n:=h.next c b;by_cases w:s[j].toNat<128
  ·cases f:Av s[j] with
   |true=>
    have I:=(Ce _).1 f;have g:D8 s[j]=false:=by cases d:D8 s[j] with|false=>rfl|true=>have:=(Eo _).1 d;omega
    have e:An s[j]=false:=by cases d:An s[j] with|false=>rfl|true=>have:=(BW _).1 d;omega
    obtain⟨l,k⟩:=Ga c b f;rw[k]at n;(have C:Af s j=j:=by rw[<-c];exact AZ s a);(have r:j<AM Av s j:=by rw[B0 _ _ _ b f];have:=Cq Av s (j+1);omega);have m:=CA Av s j (by omega);rw[l,g,e];simp only[Z8,if_false,bG,if_true];by_cases i:AM Av s j-j<=4
    ·rw[Oa C rfl (by omega)];simp only[i,if_true];obtain⟨y,o⟩:=Hn b m r;refine⟨rfl,?_,n,m⟩;unfold ct;simp only;rw[<-Ud y (by rw[o];omega)];rfl
    ·rw[DV C rfl (by omega)];simp only[i,if_false];exact⟨rfl,rfl⟩
   |false=>
    cases e:An s[j] with
    |true=>
     have K:=(BW _).1 e;have g:D8 s[j]=false:=by cases d:D8 s[j] with|false=>rfl|true=>have:=(Eo _).1 d;omega
     obtain⟨l,k⟩:=Es c b f e;rw[k]at n;have m:=CA An s j (by omega);rw[l,g];simp only[Z8,if_false,cV];by_cases i:3<AM An s j-j\/(s[j]=48/\1<AM An s j-j)
     ·rw[if_pos i,if_pos i];exact⟨rfl,rfl⟩
     ·rw[if_neg i,if_neg i];(have r:j<AM An s j:=by rw[B0 _ _ _ b e];have:=Cq An s (j+1);omega);obtain⟨y,o⟩:=Hn b m r;have B:=size_extract (s:=s) (j:=j) m;(have J:s[j].toNat=48->s[j]=48:=λh=>bQ.1 h);refine⟨rfl,?_,n,m⟩;unfold ct;simp only;rw[<-V0 y (by rw[o];omega) (by rw[o];omega) (by rw[B];omega) (λh=>by rw[o]at h;have G:=J h;have A:¬1<AM An s j-j:=λA=>i (Or.inr ⟨G,A⟩);rw[B];omega)];rfl
    |false=>
     cases g:D8 s[j] with
     |true=>
      have u:=(Eo _).1 g;(have p:¬(s[j]=58/\Cz s (j+1) 45=true):=λd=>by rw[d.1]at u;simp at u);obtain⟨l,k⟩:=FH c b f e p w;rw[k]at n;(have H:DF (s[j].toNat:Int)=4:=by unfold DF;rw[if_neg (by omega),if_neg (by omega),if_pos (by omega)]);rw[l,H];simp only[if_true];refine⟨rfl,?_,n,by omega⟩;rw[P3 _ w];rfl
     |false=>
      have x:AW s j false=(ByteArray.empty,j,true):=DV (by rw[<-c];exact AZ s a) (ET _ _ _ b f) (Or.inl rfl);(have u:¬(65<=s[j].toNat/\s[j].toNat<=90):=λh=>by rw[(Eo _).2 h]at g;cases g);(have I:¬(97<=s[j].toNat/\s[j].toNat<=122):=λh=>by rw[(Ce _).2 h]at f;cases f);(have K:¬(48<=s[j].toNat/\s[j].toNat<=57):=λh=>by rw[(BW _).2 h]at e;cases e);simp only[Z8,if_false,bG,if_true,x];(have F:(BE s a).place=j:=by rw[Df D,c]);have v:(BE s a).kind≠2/\(BE s a).kind≠3/\(BE s a).kind≠4:=by
       by_cases p:s[j]=58/\Cz s (j+1) 45=true
       ·rw[(Iu c b p.1 p.2).1];simp
       ·rw[(FH c b f e p w).1];unfold DF;rw[if_neg (by omega),if_neg (by omega),if_neg (by omega)];split<;>simp
      simp only[b8,v.1,v.2.1,v.2.2,eE,bN,or_self,if_false,F];exact⟨rfl,rfl⟩
  ·have f:Av s[j]=false:=by cases d:Av s[j] with|false=>rfl|true=>have:=(Ce _).1 d;omega
   have e:An s[j]=false:=by cases d:An s[j] with|false=>rfl|true=>have:=(BW _).1 d;omega
   have g:D8 s[j]=false:=by cases d:D8 s[j] with|false=>rfl|true=>have:=(Eo _).1 d;omega
   have x:AW s j false=(ByteArray.empty,j,true):=DV (by rw[<-c];exact AZ s a) (ET _ _ _ b f) (Or.inl rfl);obtain⟨l,k⟩:=Gc c b (by omega);rw[g,e];simp only[Z8,if_false,bG,if_true,x,l,k];exact⟨rfl,rfl⟩
 ·rw[dif_neg (by rw[c];exact b),Hl (by omega)];simp only[DX];refine⟨rfl,?_⟩;rw[c];show(s.size:Int)=(j:Int);omega
def Dh(t:AG):Prop:=(t.v=0/\AX t.s)\/(65<=t.v.toNat/\t.v.toNat<=90/\t.s=ByteArray.empty)
theorem AX.size{s:cL}(h:AX s):s.size≠0:=by
 rw[B4];rcases h with⟨c,r,h,_⟩|h
 ·rw[h];simp
 ·rcases Eh h with⟨c,e,_⟩|⟨c,d,e,_⟩|⟨c,d,f,e,_⟩<;>rw[e]<;>simp
theorem Dh.good{t:AG}(h:Dh t):BD t:=by
 rcases h with⟨a,b⟩|h
 ·exact Or.inl ⟨a,b.size⟩
 ·exact Or.inr ⟨h.1,h.2.1⟩
theorem Ki{s:cL}{j k:Nat}(h:j<s.size)(a:k<=s.size)(f:j<k):∃r,(s.extract j k).toList=s[j]::r/\r.length+1=k-j:=by
 obtain⟨d,e⟩:=Hn h a f;obtain⟨r,c,b⟩:=GN _ d;refine⟨r,by rw[c,e],?_⟩;rw[c,Hr _ _ _ a]at b;simpa using b
theorem Me{p:UInt8->Bool}{s:cL}{i:Nat}(h:AM p s i≠i):∃a:i<s.size,p s[i]=true:=by
 by_cases a:i<s.size
 ·refine⟨a,?_⟩;cases hp:p s[i] with
  |true=>rfl
  |false=>exact absurd (ET p s i a hp) h
 ·exact absurd (Fg p s i a) h
theorem Rd{p:UInt8->Bool}{s:cL}{i:Nat}(h:AM p s i≠i):AM p s i<=s.size:=by
 obtain⟨a,_⟩:=Me h;exact CA p s i (by omega)
theorem LR{s:cL}{at_:Nat}(h:(AW s at_ false).2.2=false):AX (AW s at_ false).1:=by
 unfold AW at h⊢;rw[if_neg (by simp)]at h⊢;by_cases a:AM Av s (Af s at_)=Af s at_\/4<AM Av s (Af s at_)-Af s at_
 ·rw[if_pos a]at h;cases h
 ·rw[if_neg a];have b:AM Av s (Af s at_)≠Af s at_:=λe=>a (Or.inl e)
  obtain⟨d,c⟩:=Me b;have f:=Cq Av s (Af s at_);obtain⟨r,e,_⟩:=Ki d (Rd b) (by omega:Af s at_<AM Av s (Af s at_));exact Or.inl ⟨_,r,e,(Ce _).1 c⟩
theorem Qd{s:cL}{j:Nat}(i:j<s.size)(g:An s[j]=true)(h:¬(3<AM An s j-j\/(s[j]=48/\1<AM An s j-j))):AX (s.extract j (AM An s j)):=by
 have l:=Cq An s (j+1);rw[<-B0 An s j i g]at l;have n:=CA An s j (by omega);obtain⟨r,e,d⟩:=Ki i n (by omega:j<AM An s j);have f:=(BW _).1 g;have p:¬3<AM An s j-j:=λx=>h (Or.inl x)
 have k:1<AM An s j-j->49<=s[j].toNat:=by
  intro o;have m:s[j]≠48:=λx=>h (Or.inr ⟨x,o⟩)
  have:s[j].toNat≠48:=λx=>m (bQ.1 (by rw[x];rfl))
  omega
 refine Or.inr ?_;rw[e]
 match r,d with
 |[],_=>simp only[XU];exact cO f
 |[a],d=>simp only[XU];exact cO ⟨k (by simp at d;omega),f.2⟩
 |[a,b],d=>simp only[XU];exact cO ⟨k (by simp at d;omega),f.2⟩
 |a::b::c::r,d=>simp at d;omega
theorem Ij{s:cL}{at_:Nat}(h:(AA s at_ false).2.2=false):Dh (AA s at_ false).1:=by
 unfold AA at h⊢;rw[if_neg (by simp)]at h⊢;by_cases a:Af s at_<s.size
 ·rw[dif_pos a]at h⊢;cases hu:D8 s[Af s at_] with
  |true=>
   rw[if_pos rfl];exact Or.inr ⟨((Eo _).1 hu).1,((Eo _).1 hu).2,rfl⟩
  |false=>
   rw[hu,if_neg (by simp)]at h;rw[if_neg (by simp)];cases hd:An s[Af s at_] with
   |false=>
    rw[hd,bG,if_pos rfl]at h;rw[bG,if_pos rfl];exact Or.inl ⟨rfl,LR h⟩
   |true=>
    rw[hd,cV,if_neg (by simp)]at h;rw[cV,if_neg (by simp)];by_cases b:3<AM An s (Af s at_)-Af s at_\/(s[Af s at_]=48/\1<AM An s (Af s at_)-Af s at_)
    ·rw[if_pos b]at h;cases h
    ·rw[if_neg b];exact Or.inl ⟨rfl,Qd a hd b⟩
 ·rw[dif_neg a]at h;cases h
theorem Ty{s:cL}{at_:Nat}(h:(De s at_).2.2=false):∀t∈(De s at_).1,Dh t:=by
 fun_induction De s at_ with
 |case1 at_ hc _ _ ih=>
  intro t a;have b:(AA s at_ false).2.2=false:=by
   have:=hc.1;rw[aO]at this;simpa using this.1
  rcases aj.1 a with rfl|a
  ·exact Ij b
  ·exact ih h t a
 |case2 at_ hc=>
  intro t a;rw[ae]at a;subst a;exact Ij h
theorem KZ{s:cL}{a:Nat}{b:Bool}{c:UInt8}(h:(Bk s a b c).2=false):b=false:=by
 unfold Bk at h;cases b with
 |false=>rfl
 |true=>simp at h
structure JI(A:CQ):Prop where
 name:AX A.name
 args:∀t∈A.args,Dh t
theorem Kb{s:cL}{at_:Nat}(h:(A4 s at_ false).2.2=false):JI (A4 s at_ false).1:=by
 unfold A4 at h⊢;simp only at h⊢;have a:=KZ h;have b:(Bk s (AW s (As s at_ false) false).2.1 (AW s (As s at_ false) false).2.2 40).2=false:=by
  cases hm:(Bk s (AW s (As s at_ false) false).2.1 (AW s (As s at_ false) false).2.2 40).2 with
  |false=>rfl
  |true=>unfold Ek at a;rw[hm,if_pos rfl]at a;cases a
 refine⟨LR (KZ b),?_⟩;unfold Ek at a⊢;rw[b,if_neg (by simp)]at a⊢;exact Ty a
def DC(x:By):Prop:=if(x.kind==97||x.kind==33)=true then JI x.A else Dh x.L/\Dh x.R/\(x.kind=61\/x.kind=35\/x.kind=60)
theorem PE{s:cL}{at_:Nat}(h:(CU s at_).2.2=false):DC (CU s at_).1:=by
 unfold CU at h⊢;simp only at h⊢;cases h33:Cz s (Af s at_) 33 with
 |true=>
  rw[h33,if_pos rfl]at h;rw[if_pos rfl];unfold DC;rw[if_pos (by rfl)];exact Kb h
 |false=>
  rw[h33,if_neg (by simp)]at h;rw[if_neg (by simp)];cases ho:(EW s (Af s at_)&&EE s (Af s at_))with
  |true=>
   rw[ho,if_pos rfl]at h;rw[if_pos rfl];unfold DC;rw[if_pos (by rfl)];exact Kb h
  |false=>
   rw[ho,if_neg (by simp)]at h;rw[if_neg (by simp)];unfold Ke at h⊢;generalize hg:As s (AA s (Af s at_) false).2.1 (AA s (Af s at_) false).2.2=a3 at h⊢;cases hc:(!(AA s (Af s at_) false).2.2&&(Cz s a3 61||Cz s a3 35||Cz s a3 60))with
   |false=>rw[hc,if_neg (by simp)]at h;cases h
   |true=>
    rw[hc,if_pos rfl]at h;rw[if_pos rfl];rw[aO]at hc;(have d:(AA s (Af s at_) false).2.2=false:=by simpa using hc.1);have c:B5 s a3=61\/B5 s a3=35\/B5 s a3=60:=by
     have a:=hc.2;unfold B5;by_cases b:a3<s.size
     ·rw[dif_pos b];unfold Cz at a;rw[dif_pos b,dif_pos b,dif_pos b]at a;simp only[bN,b8]at a;rcases a with(a|a)|a
      ·exact Or.inl a
      ·exact Or.inr (Or.inl a)
      ·exact Or.inr (Or.inr a)
     ·unfold Cz at a;rw[dif_neg b,dif_neg b,dif_neg b]at a;simp at a
    unfold DC;(have f:(B5 s a3==97||B5 s a3==33)=false:=by rcases c with e|e|e<;>rw[e]<;>rfl);rw[if_neg (by rw[f];simp)];exact⟨Ij d,Ij h,c⟩
theorem S6{s:cL}{at_:Nat}(h:(CJ s at_).2.2=false):∀x∈(CJ s at_).1,DC x:=by
 fun_induction CJ s at_ with
 |case1 at_ hc _ _ ih=>
  intro t a;have b:(CU s at_).2.2=false:=by
   have:=hc.1;rw[aO]at this;simpa using this.1
  rcases aj.1 a with rfl|a
  ·exact PE b
  ·exact ih h t a
 |case2 at_ hc=>
  intro t a;rw[ae]at a;subst a;exact PE h
structure SM(c:Cm):Prop where
 head:JI c.head
 body:∀x∈c.body,DC x
theorem Nu{s:cL}{a:Nat}{b:Bool}(h:(Db s a b).2.2=false):b=false/\∀x∈(Db s a b).1,DC x:=by
 unfold Db at h⊢;cases hc:(!b&&Cz s (As s a b) 58)with
 |true=>
  rw[hc,if_pos rfl]at h;rw[if_pos rfl];have d:b=false:=by
   rw[aO]at hc;simpa using hc.1
  refine⟨d,?_⟩;cases h45:Cz s (Bi s a b 58) 45 with
  |true=>
   rw[h45,if_pos rfl]at h;rw[if_pos rfl];exact S6 h
  |false=>rw[h45,if_neg (by simp)]at h;cases h
 |false=>
  rw[hc,if_neg (by simp)]at h;rw[if_neg (by simp)];exact⟨h,λx c=>by cases c⟩
theorem Kw{s:cL}{at_:Nat}(h:(AQ s at_).2.2=false):SM (AQ s at_).1:=by
 unfold AQ at h⊢;simp only at h⊢;have a:=Nu (KZ h);exact⟨Kb a.1,a.2⟩
theorem OM{s:cL}{at_:Nat}(h:(Au s at_).2.2=false):∀c∈(Au s at_).1,SM c:=by
 fun_induction Au s at_ with
 |case1 at_ ha hc ih=>
  intro c a;rcases aj.1 a with rfl|a
  ·exact Kw hc.1
  ·exact ih h c a
 |case2 at_ ha hc=>
  intro c a;rw[ae]at a;subst a;exact Kw h
 |case3 at_ ha=>intro c a;cases a
theorem Jr{s:cL}{at_:Nat}{cs:List Bf}(h:(Au s at_).2.2=false)(d:cs.map Bf.erase=(Au s at_).1):
  ∀c∈cs,JI c.head/\∀x∈Al c,DC x:=by
 intro c b;have a:c.erase∈(Au s at_).1:=by rw[<-d];exact aM b
 have:=OM h _ a;exact⟨this.head,this.body⟩
theorem TR{s:cL}{at_:Nat}{cs:List Bf}(h:(Au s at_).2.2=false)(d:cs.map Bf.erase=(Au s at_).1):
  ∀c∈cs,∀x∈Al c,(x.kind==97)=true->∀t∈x.A.args,BD t:=by
 intro c e x f a t b;have:=(Jr h d c e).2 x f;unfold DC at this;rw[a,dl,if_pos rfl]at this;exact(this.args t b).good
theorem Tryz.info189:(Tryz.prog.info? 189).map (λi=>(i.zero,i.size,i.bytes))=some (some (.agg #[.int .i64 0, .string ⟨#[]⟩, .slice none 0 0, .slice none 0 0]),4,72):=by kernel_rfl
theorem Ws(r:Int):DF r≠1:=by
 unfold DF;split
 ·simp
 ·split
  ·simp
  ·split
   ·simp
   ·split<;>simp
theorem XH(s:cL)(j:Nat)(h:j<s.size):(Dk s j).1.kind≠1/\(Dk s j).1.place=j/\(Dk s j).1.text.size<=s.size+4:=by
 unfold Dk;split
 ·have:=CA Av s j (by omega);refine⟨by simp,rfl,?_⟩;simp only[size_extract this];omega
 ·split
  ·have:=CA An s j (by omega);refine⟨by simp,rfl,?_⟩;simp only[size_extract this];omega
  ·split
   ·refine⟨by simp,rfl,?_⟩;show 2<=s.size+4;omega
   ·refine⟨Ws _,rfl,?_⟩;have:=Un ((Utf8.decode s j).1:Int);simp only[BZ];omega
theorem QL(s:cL):∀(n a:Nat),s.size-a<=n->(OA s a).length<=s.size-a/\∀m∈OA s a,m.kind≠1/\m.place<=s.size/\m.text.size<=s.size+4
 |n,a,hn=>by
  by_cases h:Af s a<s.size
  ·have f:=Cr s a;have i:=N9 s _ h;obtain⟨d,j,c⟩:=XH s _ h;rw[Fl rfl h]
   match n with
   |0=>omega
   |n+1=>
    obtain⟨g,e⟩:=QL s n (Dk s (Af s a)).2 (by omega);refine⟨by simp only[ak];omega,λm b=>?_⟩;rcases aj.1 b with rfl|b
    ·exact⟨d,by omega,c⟩
    ·exact e m b
  ·rw[Hi h];exact⟨by simp,λm b=>by simp at b⟩
theorem Y3(m:AV):(G2 m).place=m.place/\(G2 m).text=m.text/\(m.kind≠1->(G2 m).kind≠1):=by
 unfold G2;split
 ·exact⟨rfl,rfl,λh=>h⟩
 ·exact⟨rfl,rfl,λ_=>by simp⟩
theorem KL(s:cL):(Fo s).length<=s.size+1/\0<(Fo s).length:=by
 rw[J8];unfold Cv;have:=(QL s _ 0 (au _)).1;simp;omega
theorem O2(s:cL):∀m∈Fo s,m.place<=s.size/\m.text.size<=s.size+4:=by
 rw[J8];unfold Cv;intro m a;rcases aw.1 a with a|a
 ·obtain⟨b,d,rfl⟩:=az.1 a;obtain⟨e,c,_⟩:=Y3 b;obtain⟨_,f,g⟩:=(QL s _ 0 (au _)).2 b d;rw[e,c];exact⟨f,g⟩
 ·simp at a;subst a;exact⟨au _,aG _⟩
theorem Zb{s:cL}(d:s.size<=300):Sx (Fo s):=by
 refine⟨λi h b=>?_,λi h=>?_⟩
 ·by_cases c:i+1<(Fo s).length
  ·exact c
  ·exfalso
   (have a:(Fo s).getLast?=some (DX s):=by unfold Fo;simp);have:(Fo s)[i]?=some (DX s):=by
    rw[List.getLast?_eq_getElem?]at a;rw[show i=(Fo s).length-1 by omega];exact a
   rw[aA h]at this;simp only[ai]at this;rw[this]at b;cases b
 ·have:=(O2 s _ (Z7 h)).2;omega
theorem Ug{s:cL}(a:s.size<=300)(i:Nat):(Ao (Fo s) i).place<=1000000:=by
 by_cases h:i<(Fo s).length
 ·rw[<-Be h];have:=(O2 s _ (Z7 h)).1;omega
 ·unfold Ao;rw[aq,List.getElem?_eq_none (by omega)];simp
structure Da where
 hp:Int
 hn:cL
 hts:List A3
 hv:Value
 bv:Value
 lvs:List MH
def Da.pc(c:Da):PC:=⟨c.hp,c.hn,c.hts,c.lvs.map Prod.fst⟩
def A8(c:Da):List Value:=[.int .i64 c.hp, .string c.hn,c.hv,c.bv]
structure Mp(w:World)(base:Nat)(lv:Value)(c:Da):Prop where
 at_:Im w base c.hv c.bv c.hts c.lvs
 ap1:BX c.hv lv
 ap2:BX c.bv lv
 ap3:∀p∈c.lvs,BX p.2 lv
theorem Mp.kept{M:List Nat}{w w':World}{base:Nat}{a:Value}{c:Da}(h:Mp w base a c)(k:Ac M w w')(b:∀i,i∈M->i<base):Mp w' base a c:=
 ⟨h.at_.kept k b,h.ap1,h.ap2,h.ap3⟩
theorem GU{w w':World}{base:Nat}{e:TypeId}{size:Nat}{v a:Value}{n:Nat}{b:List Value}(h:w.ownsRow base e size v n b)(k:Ac a.ownBlock.toList w w')(d:BX v a):w'.ownsRow base e size v n b:=
 Ar h k (λi f c=>d i f (by simpa using c))
theorem Mp.lies{w w':World}{base:Nat}{d:Value}{c:Da}{g n cap H:Nat}(h:Mp w base d c)(k:Ac d.ownBlock.toList w w')(b:d.ownBlock=some g\/g=H)(e:w.heap.size<=H):Mp w' base (.slice (some ⟨g,0,none⟩) n cap) c:=
 ⟨⟨GU h.at_.head k h.ap1,⟨GU h.at_.body.row k h.ap2,λp a=>⟨GU (h.at_.body.each p a).1 k (h.ap3 p a),(h.at_.body.each p a).2⟩⟩⟩,
  BX.lies h.ap1 h.at_.head b e,BX.lies h.ap2 h.at_.body.row b e,λp a=>BX.lies (h.ap3 p a) (h.at_.body.each p a).1 b e⟩
theorem Ly{w o:World}{e l:TypeId}{c i n m base:Nat}{v a:Value}{j d:List Value}(h:o.ownsRow w.heap.size e c v n j)(g:w.ownsRow base l i a m d):BX v a:=by
 intro k b f;have:=(h.lt k b).1;have:=(g.lt k f).2;omega
structure Fc(w:World)(base:Nat)(lv:Value)(cs:List Da):Prop where
 row:w.ownsRow base 189 4 lv cs.length (cs.flatMap A8)
 each:∀c∈cs,Mp w base lv c
theorem Fc.kept{M:List Nat}{w w':World}{base:Nat}{a:Value}{cs:List Da}(h:Fc w base a cs)(k:Ac M w w')(b:∀i,i∈M->i<base):Fc w' base a cs:=
 ⟨Ad h.row k b,λc d=>(h.each c d).kept k b⟩
theorem Fc.base{w:World}{base base':Nat}{b:Value}{cs:List Da}(h:Fc w base b cs)(d:base'<=base):Fc w base' b cs:=
 ⟨Ai h.row d,λc a=>⟨(h.each c a).at_.base d,(h.each c a).ap1,(h.each c a).ap2,(h.each c a).ap3⟩⟩
theorem Fc.nil(w:World)(base:Nat):Fc w base (.slice none 0 0) []:=⟨ax _ _ _ _,λp a=>by simp at a⟩
def YW(w:World)(e:Ending)(w':World):Except Int (List PC)->Prop
 | .ok cs=>∃ad cp pcs,e= .returned (.tuple #[.slice ad cs.length cp, .int .i64 0, .bool true])/\pcs.map Da.pc=cs/\Fc w' w.heap.size (.slice ad cs.length cp) pcs/\Ac [] w w'
 | .error p=>e= .returned (.tuple #[.slice none 0 0, .int .i64 p, .bool false])/\Ac [] w w'
set_option maxRecDepth 100000
theorem Mm(s:cL)(w:World)(hs:s.size<=300):
  Calls prog 71 #[.string s] w λe G=>YW w e G (Dj (Fo s) 0 []):=by
 obtain⟨i0,LE,JJ,LS,LB⟩:=bj Tryz.info189;have HO:=Ab (Zb hs);have HH:=Ab (Ug hs);have FT:=KL s;have FA:=Ab (YF s w hs);obtain⟨R,hR⟩:∃R,Dj (Fo s) 0 []=R:=⟨_,rfl⟩;rw[hR];have AB:=Ab hR;clear hR;generalize Fo s=ms at HO HH FT FA AB;have Nx:ms.length<=1000:=by omega
 go_enter func71,ntmps71;go_wp2_with fail
 refine(Aa FA).mono ?_;rintro e x ⟨mv,rfl,Y,k1⟩;clear FA;obtain⟨C,m,rfl⟩:=Ak Y;have HC:=Aw.new x [.slice C ms.length m, .int .i64 0, .int .i64 0] 203;have HM:=Ai (ah Y (.cells [.slice C ms.length m, .int .i64 0, .int .i64 0].toArray 203)) (aG _);have HN:(Value.slice C ms.length m).ownBlock≠some x.heap.size:=λe=>by have:=(Y.lt _ e).2;omega
 have HJ:BY (x.alloc (.cells [.slice C ms.length m, .int .i64 0, .int .i64 0].toArray 203)) x.heap.size (.slice C ms.length m) ms 0 0:=⟨HC,HM,HN,FT.2,by omega⟩;have H0:=k1.alloc (.cells [.slice C ms.length m, .int .i64 0, .int .i64 0].toArray 203);have I:=Ab HJ;have CL:=Ab H0;have H5:w.heap.size<=x.heap.size:=k1.size;have AH:(x.alloc (.cells [.slice C ms.length m, .int .i64 0, .int .i64 0].toArray 203)).heap.size=x.heap.size+1:=by simp
 clear HC HM HN HJ H0 Y k1;go_wp2;change Code.wp _ _ _ _ (x.alloc (.cells [.slice C ms.length m, .int .i64 0, .int .i64 0].toArray 203));generalize x.alloc (.cells [.slice C ms.length m, .int .i64 0, .int .i64 0].toArray 203)=w2 at I CL AH⊢;obtain⟨b,H3⟩:∃b,x.heap.size=b:=⟨_,rfl⟩;rw[H3]at I H5 AH⊢;clear H3;obtain⟨g,Op,HX,_,_,_,_⟩:=(Aa I).cells;simp only[Z6]at HX;obtain⟨rfl,_,rfl⟩:=HX;have H4:Hid (∀k,b+1<=k->(Value.slice (some ⟨g,0,none⟩) ms.length m).ownBlock≠some k):=λk y e=>by have:=((Aa I).row.lt k e).2;omega
 go_loopg [2] ms.length (λgk o wr=>∃(j:Nat) (acc:List Da) (z:Option Addr) (B:Nat),o= .slice z acc.length B/\gk=ms.length-j/\Hid (Dj ms j (acc.map Da.pc)=R)/\Hid (BY wr b (.slice (some ⟨g,0,none⟩) ms.length m) ms j 0)/\Hid (Fc wr (b+1) (.slice z acc.length B) acc)/\Hid (Ac [] w wr)/\b+1<=wr.heap.size/\acc.length<=j)
 case atStart=>exact⟨0,[],none,0,rfl,rfl,AB,I,Fc.nil _ _,CL,by omega,by simp⟩
 case round=>
  clear I AB CL AH;obtain⟨j,acc,z,B,rfl,HZ,L,Z,HP,HK,FP,M6⟩:=hrel;have HG:=Ab HZ;clear HZ;have O:=(Aa Z).lt;have N4:(j:Int)<(ms.length:Int):=by omega
  have M0:(0:Int)<=(j:Int):=by omega
  obtain⟨g',Nq,he,b0,b1,_,hc⟩:=(Aa Z).cells;simp only[Z6,ai,aW]at he;obtain⟨⟨rfl,_⟩,_,rfl⟩:=he;obtain⟨c0,_,_⟩:=hc j O;clear hc;rw[Be O]at c0;obtain⟨M,T⟩:∃M,(Ao ms j).kind=M:=⟨_,rfl⟩;rw[T]at c0;go_wp2_with fail
  go_region_held3 (λG=>G.cell? ⟨b,0,none⟩=some (.slice (some ⟨g,0,none⟩) ms.length m)/\G.cell? ⟨b,1,none⟩=some (.int .i64 j)/\G.cell? ⟨g,j*3,none⟩=some (.int .i64 M)) (go_keep) (fail)
  rename_i K8;clear K8 b0 b1 c0;cases y:(M==1)with
  |true=>
   (have Jx:(M !=1)=false:=by simp[bne,y]);(have HF:Hid (R= .ok (acc.map Da.pc)):=by show _=_;rw[<-Aa L];exact Lu O (by rw[T];exact y));clear y T L;go_wp2;go_ret3;rw[HF.out];exact⟨z,B,acc,by simp,rfl,by simpa using((Aa HP).kept (Ac.refl [] wr).drew (by simp)).base (by omega),(Aa HK).drew⟩
  |false=>
   (have Jx:(M !=1)=true:=by simp[bne,y]);(have U:Hid (((Ao ms j).kind==1)=false):=by show _=_;rw[T];exact y);clear y T;(go_wp2_with fail);refine(Rw b (.slice (some ⟨g,0,none⟩) ms.length m) ms j 0 _ ((Aa Z).kept0 (Ac.refl [] wr).drew) (Aa HO) (Aa HH)).mono ?_;intro e v P;have D:=Ab ((Aa HP).kept (Ac.refl [] wr).drew (by simp));have Q:=Ab ((Aa HK).drew);have K1:b+1<=wr.drew.heap.size:=FP;clear Z HP HK FP;generalize wr.drew=w5 at P D Q K1;cases ht:B3 ms j with
   |error q=>
    rw[ht]at P;obtain⟨n9,hp,hn,LM,n8,LL,K4,n2,H7,rfl,N,F⟩:=P;(have HF:Hid (R= .error q):=by show _=_;rw[<-Aa L];exact IU O (Aa U) ht);have KS:=Ab ((Aa Q).trans' F (λi A=>Or.inr (by simp at A;omega)));(have d2:=λo=>(N.blk.alloc o).cell 2);simp at d2;clear ht L U N F D Q;simp only[A0];(go_wp2_with fail);have NM:=d2 (.cells [.int .i64 hp, .string hn, .slice LM n8 LL, .slice K4 n2 H7].toArray 189)
    go_region_held3 (λG=>G.cell? ⟨b,2,none⟩=some (.int .i64 q)) (go_keep) (fail)
    rename_i H8;clear H8;go_wp2;go_ret3;rw[HF.out];exact⟨rfl,((Aa KS).alloc _).drew⟩
   |ok r=>
    obtain⟨c,V⟩:=r;rw[ht]at P;have MN:=FZ ht;obtain⟨u,f,l,h,K,rfl,HI,X,N,F⟩:=P;have HT:=Ab (Oq (acc:=acc.map Da.pc) O (Aa U) ht);clear ht U;obtain⟨n,d,a,N2⟩:=c;simp only at HI X;subst HI;have MB:=F.size;have FC:=Ad (Aa D).row F (by simp);(have HS:Hid (∀q∈acc,Mp v (b+1) (.slice z acc.length B) q):=λq E=>((Aa D).each q E).kept F (by simp));have Bx:Hid (Mp v (b+1) (.slice z acc.length B) ⟨n,d,a, .slice u a.length f, .slice l (K.map Prod.fst).length h,K⟩):=by
     have B9:=X.base (base':=w5.heap.size) (by omega);refine⟨X.base (by omega),?_,?_,?_⟩
     ·exact Ly B9.head (Aa D).row
     ·exact Ly B9.body.row (Aa D).row
     ·exact λp hp=>Ly (B9.body.each p hp).1 (Aa D).row
    have HY:=Ab ((Aa Q).trans' F (λi A=>Or.inr (by simp at A;omega)));have J:=Ab N;have NX:=N.lt;clear X N F D Q;generalize hnl:(K.map Prod.fst).length=nl at Bx;have H1:((v.alloc (.cells (A0 n d (.slice u a.length f) (.slice l nl h)).toArray 189)).alloc (.cells (A0 n d (.slice u a.length f) (.slice l nl h)).toArray 189)).heap[v.heap.size+1]?=some (.cells (A0 n d (.slice u a.length f) (.slice l nl h)).toArray 189 (0,0)):=by
     have hh:=aS (v.alloc (.cells (A0 n d (.slice u a.length f) (.slice l nl h)).toArray 189)) (.cells (A0 n d (.slice u a.length f) (.slice l nl h)).toArray 189);rw[show(v.alloc (.cells (A0 n d (.slice u a.length f) (.slice l nl h)).toArray 189)).heap.size=v.heap.size+1 from by simp]at hh
     exact hh
    have HU:=ah (ah FC (.cells (A0 n d (.slice u a.length f) (.slice l nl h)).toArray 189)) (.cells (A0 n d (.slice u a.length f) (.slice l nl h)).toArray 189);(have NS:acc.length<=1000:=by omega);have NL:=Ab hnl;clear hnl;simp only[A0];go_wp2_with (at_builtin;refine ay _ rfl (.tmp 35) (.tmp 37) _ rfl (b+1) 189 i0 _ 4 72 underlying66 LE JJ LS LB rfl (by omega) (.slice z acc.length B) acc.length (acc.flatMap A8) rfl HU ⟨v.heap.size+1,0,none⟩ 1 1 (A0 n d (.slice u a.length f) (.slice l nl h)) rfl rfl (aF (cs:=(A0 n d (.slice u a.length f) (.slice l nl h)).toArray) (t:=189) (fr:=(0,0)) H1) (by simp[Value.oneCell',A0]) (by omega) (by unfold maxLen;omega) (by omega) (by simp;omega) (v.heap.size+1+1) (by simp) ?_;intro g1 Go S HQ Ha Ax H9)
    have H:Ac (Value.slice z acc.length B).ownBlock.toList v S:=(((Ac.refl _ v).alloc _).alloc _).grown Ha (λk y=>Or.inl (by simp[y]));(have W:∀i∈(Value.slice z acc.length B).ownBlock.toList,b+1<=i:=λi A=>(FC.lt i (by simpa using A)).1);have HA:BY S b (.slice (some ⟨g,0,none⟩) ms.length m) ms V 0:=⟨(Aa J).blk.kept H (λhm=>by have:=W b hm;omega),Ar (Aa J).row H (λi A hm=>by have:=W i hm;exact absurd A (Aa H4 i this)),(Aa J).ap,(Aa J).lt,(Aa J).len⟩;have HB:Ac [] w S:=(Aa HY).trans' H (λi A=>Or.inr (by have:=W i A;omega));have K9:Hid (Fc S (b+1) (.slice (some ⟨g1,0,none⟩) (acc.length+1) Go) (acc++[⟨n,d,a, .slice u a.length f, .slice l nl h,K⟩])):=by
     refine⟨by simpa[A8,A0] using HQ,?_⟩;intro q E;rcases aw.1 E with E|E
     ·exact(Aa HS q E).lies H Ax (by omega)
     ·simp only[ae]at E;subst E;exact(Aa Bx).lies H Ax (by omega)
    have K5:Hid (Dj ms V ((acc++[(⟨n,d,a, .slice u a.length f, .slice l nl h,K⟩:Da)]).map Da.pc)=R):=by
     show _=_;rw[<-Aa L,Aa HT];simp[Da.pc]
    (have Mo:b+1<=S.heap.size:=by have:=H.size;omega);have KK:=Ab HA;have K7:=Ab HB;clear H W HA HB Ha Ax H9 HQ H1 HU FC HS Bx HY J L HT
    go_roundg (ms.length-V)
    case measure=>have:=Aa HG;omega
    case rel=>exact⟨V,acc++[⟨n,d,a, .slice u a.length f, .slice l nl h,K⟩],some ⟨g1,0,none⟩,Go,by simp,rfl,K5,KK,by simpa using K9,K7,Mo,by simp;omega⟩
theorem Uy{s:cL}{d:List AV}{e a j:Nat}(h:At s d e a)(r:a<=s.size)(c:Af s a=j):
  (((Ao d e).kind==2)=true/\∃i,AW s j false=((Ao d e).text,i,false)/\At s d (e+1) i/\i<=s.size)\/
  (((Ao d e).kind==2)=false/\AW s j false=(ByteArray.empty,j,true)):=by
 have f:Af s j=j:=by rw[<-c];exact AZ s a
 rw[h.head];by_cases b:j<s.size
 ·have l:=h.next c b;cases hl:Av s[j] with
  |true=>
   obtain⟨n,p⟩:=Ga c b hl;rw[p]at l;(have q:j<AM Av s j:=by rw[B0 _ _ _ b hl];have:=Cq Av s (j+1);omega);have m:=CA Av s j (by omega);rw[n];by_cases g:AM Av s j-j<=4
   ·left;refine⟨by simp[g],_,Oa f rfl (by omega),l,m⟩
   ·right;exact⟨by simp[g],DV f rfl (by omega)⟩
  |false=>
   right;refine⟨?_,DV f (ET _ _ _ b hl) (Or.inl rfl)⟩;(have t:¬(97<=s[j].toNat/\s[j].toNat<=122):=λh=>by rw[(Ce _).2 h]at hl;cases hl);by_cases o:s[j].toNat<128
   ·cases hd:An s[j] with
    |true=>
     rw[(Es c b hl hd).1];by_cases g:3<AM An s j-j\/(s[j]=48/\1<AM An s j-j)<;>simp[g]
    |false=>
     by_cases k:s[j]=58/\Cz s (j+1) 45=true
     ·rw[(Iu c b k.1 k.2).1];rfl
     ·rw[(FH c b hl hd k o).1];simp only[bc,ne_eq,Fn];omega
   ·rw[(Gc c b (by omega)).1];rfl
 ·right;rw[Hl (by omega)];exact⟨rfl,DV f (Fg _ _ _ b) (Or.inl rfl)⟩
theorem KH(s:cL)(a:Nat)(c:UInt8):Bi s a true c=a:=by simp[Bi,As]
theorem KB{s:cL}{a:Nat}{c:UInt8}(h:Cz s (Af s a) c=true):Bi s a false c=Af s a+1:=by simp[Bi,As,h]
theorem NP{s:cL}{a:Nat}{c:UInt8}(h:Cz s (Af s a) c=false):Bi s a false c=Af s a:=by simp[Bi,As,h]
theorem E1(s:cL)(a:Nat)(c:UInt8):Bk s a true c=(a,true):=by simp[Bk,KH]
theorem Kf{s:cL}{a:Nat}{c:UInt8}(h:Cz s (Af s a) c=true):Bk s a false c=(Af s a+1,false):=by simp[Bk,KB h,As,h]
theorem Lp{s:cL}{a:Nat}{c:UInt8}(h:Cz s (Af s a) c=false):Bk s a false c=(Af s a,true):=by simp[Bk,NP h,As,h]
theorem UY{s:cL}{f:List AV}:∀(k d a:Nat) (i:List A3),f.length-d<=k->At s f d a->a<=s.size->
  Ml (λts (L:List AG)=>ts=i++L.map ct) s f (Fw f d i) ((De s a).1,Bk s (De s a).2.1 (De s a).2.2 41)
 |k,d,a,i,hk,h,ha=>by
  have x:=h.lt;have g:=Qy h ha;obtain⟨l,b,v,j⟩:∃l b v,AA s a false=(l,b,v):=⟨_,_,_,rfl⟩;rw[j]at g;unfold Fw;rw[dif_pos x];cases hM:EQ (Ao f d) d with
  |error p=>
   rw[hM]at g;obtain⟨rfl,rfl⟩:=g;rw[J5 j (by simp)];simp only[KH,E1];exact⟨rfl,rfl⟩
  |ok r=>
   obtain⟨t,B⟩:=r;rw[hM]at g;have A:=E2 hM;subst A;obtain⟨rfl,rfl,u,w⟩:=g;simp only;have z:=Dp (s:=s) (a:=b) (c:=44) (by simp[Ea]);have y:=Dp (s:=s) (a:=b) (c:=41) (by simp[Ea]);rw[u.head,show GQ=⟨#[44]⟩from rfl,show Mu=⟨#[41]⟩from rfl,z,y];cases hc:Cz s (Af s b) 44 with
   |true=>
    obtain⟨_,e⟩:=N1 j ha (by simp[As,hc]);rw[KB hc]at e;obtain⟨q,o⟩:=u.take (by simp[Ea]) hc;rw[e];simp only[if_true]
    match k with
    |0=>omega
    |k+1=>
     have ih:=UY k (d+2) (Af s b+1) (i++[ct l]) (by omega) q o
     revert ih
     generalize Fw f (d+2) (i++[ct l])=X;intro ih
     match X,ih with
     | .ok (ts,n),ih=>exact⟨ih.1,by rw[ih.2.1];simp,ih.2.2⟩
     | .error p,ih=>exact ih
   |false=>
    rw[J5 j (by simp[As,hc])];simp only[Z8,if_false,NP hc];have m:Af s (Af s b)=Af s b:=AZ s b;cases hcl:Cz s (Af s b) 41 with
    |true=>
     obtain⟨q,o⟩:=u.take (by simp[Ea]) hcl;rw[Kf (by rw[m];exact hcl),m];simp only[if_true];exact⟨rfl,rfl,q,o⟩
    |false=>
     rw[Lp (by rw[m];exact hcl),m,Df w];simp only[Z8,if_false];exact⟨rfl,rfl⟩
theorem Qs{s:cL}{b:List AV}{d a:Nat}(h:At s b d a)(i:a<=s.size):
  Ml (λx (A:CQ)=>x=(A.at_,A.name,A.args.map ct)) s b (Em b d) (A4 s a false):=by
 have q:As s a false=Af s a:=rfl;have k:(Ao b d).place=Af s a:=by rw[h.head,Df i]
 unfold Em A4;simp only[q];rcases Uy h i rfl with⟨f,g,e,j,l⟩|⟨f,e⟩
 ·rw[e,f];simp only[if_true];have r:=Dp (s:=s) (a:=g) (c:=40) (by simp[Ea]);rw[j.head,show Py=⟨#[40]⟩from rfl,r];cases hc:Cz s (Af s g) 40 with
  |true=>
   obtain⟨m,o⟩:=j.take (by simp[Ea]) hc;rw[Kf hc];simp only[if_true,Ek,Z8,if_false];have ih:=UY _ (d+2) (Af s g+1) [] (au _) m o
   revert ih
   generalize Fw b (d+2) []=X;intro ih
   match X,ih with
   | .ok (ts,n),ih=>exact⟨ih.1,by rw[ih.2.1,k];simp,ih.2.2⟩
   | .error p,ih=>exact ih
  |false=>
   rw[Lp hc,Df l];simp only[Z8,if_false,Ek,if_true,E1];exact⟨rfl,rfl⟩
 ·rw[e,f,k];simp only[Z8,if_false,E1,Ek,if_true];exact⟨rfl,rfl⟩
def Fd(k:UInt8):Int:=if k=97 then 0 else if k=33 then 1 else if k=61 then 2 else if k=35 then 3 else 4
def Lg(x:By):PL:=⟨x.at_,Fd x.kind,x.A.at_,x.A.name,x.A.args.map ct,ct x.L,ct x.R⟩
theorem Zw{s:cL}{e:List AV}{d a j:Nat}(h:At s e d j)(C:j<=s.size)(Q:Af s j=j):
  Ml (λx (y:By)=>Iv (.inr x)=Lg y/\x.atom=AR) s e (GA e d) (Ke s j (As s (AA s j false).2.1 (AA s j false).2.2) (AA s j false).1 (AA s j false).2.2):=by
 have H:(Ao e d).place=j:=by rw[h.head,Df C,Q]
 have f:=Qy h C;obtain⟨l,b,z,B⟩:∃l b z,AA s j false=(l,b,z):=⟨_,_,_,rfl⟩;rw[B]at f;rw[B];unfold GA Ke;cases hM:EQ (Ao e d) d with
 |error p=>
  rw[hM]at f;obtain⟨rfl,rfl⟩:=f;simp only[cV,cX,Z8,if_false,I5];exact⟨rfl,rfl⟩
 |ok r=>
  obtain⟨t,V⟩:=r;rw[hM]at f;have I:=E2 hM;subst I;obtain⟨rfl,rfl,v,E⟩:=f;simp only;have J:=Dp (s:=s) (a:=b) (c:=61) (by simp[Ea]);have K:=Dp (s:=s) (a:=b) (c:=35) (by simp[Ea]);have M:=Dp (s:=s) (a:=b) (c:=60) (by simp[Ea]);have L:As s b false=Af s b:=rfl;rw[v.head,L];unfold KU;rw[show ZY=⟨#[61]⟩from rfl,show ZX=⟨#[35]⟩from rfl,show ZW=⟨#[60]⟩from rfl,J,K,M];have n:∀(c:UInt8) (m:Int),c∈Ea->Fd c=m->Cz s (Af s b) c=true->B5 s (Af s b)=c/\
    Ml (λx (y:By)=>Iv (.inr x)=Lg y/\x.atom=AR) s e
     (match EQ (Ao e (d+1+1)) (d+1+1)with| .error p=> .error p| .ok (r,n2)=> .ok (⟨(Ao e d).place,m,AR,ct l,r⟩,n2))
     (⟨c,CI,l,(AA s (Af s b+1) false).1,j⟩,(AA s (Af s b+1) false).2):=by
   intro c m S R o;have u:=EL o;refine⟨by rw[DS u];simpa[Cz,u] using o,?_⟩;obtain⟨G,P⟩:=v.take S o;have k:=Qy G P;obtain⟨q,A,w,D⟩:∃q A w,AA s (Af s b+1) false=(q,A,w):=⟨_,_,_,rfl⟩;rw[D]at k;rw[D];cases hM2:EQ (Ao e (d+1+1)) (d+1+1)with
   |error p=>
    rw[hM2]at k;obtain⟨rfl,rfl⟩:=k;exact⟨rfl,rfl⟩
   |ok r=>
    obtain⟨T,U⟩:=r;rw[hM2]at k;have N:=E2 hM2;subst N;obtain⟨rfl,rfl,O,F⟩:=k;refine⟨rfl,⟨?_,rfl⟩,O,F⟩;simp[Iv,Lg,R,H,CI]
  cases h61:Cz s (Af s b) 61 with
  |true=>
   obtain⟨g,i⟩:=n 61 2 (by simp[Ea]) rfl h61;rw[g];simp only[if_true,bG,dl,cN];exact i
  |false=>
   cases h35:Cz s (Af s b) 35 with
   |true=>
    obtain⟨g,i⟩:=n 35 3 (by simp[Ea]) rfl h35;rw[g];simp only[if_true,bG,dl,dJ,cN,Z8,if_false];exact i
   |false=>
    cases h60:Cz s (Af s b) 60 with
    |true=>
     obtain⟨g,i⟩:=n 60 4 (by simp[Ea]) rfl h60;rw[g];simp only[if_true,bG,dJ,cN,Z8,if_false];exact i
    |false=>
     simp only[eE,cW,Z8,if_false,Df E];exact⟨rfl,rfl⟩
theorem Zu{s:cL}{b:List AV}{d a:Nat}(h:At s b d a)(E:a<=s.size):
  Ml (λx (y:By)=>Iv x=Lg y) s b (GC b d) (CU s a):=by
 obtain⟨j,g⟩:∃j,Af s a=j:=⟨_,rfl⟩;have f:Af s j=j:=by rw[<-g];exact AZ s a
 have q:j<=s.size:=by rw[<-g];exact AN s a E
 have o:At s b d j:=by rw[<-g];exact h.gap
 have H:(Ao b d).place=j:=by rw[h.head,Df E,g]
 unfold GC CU;simp only[g];have O:=Dp (s:=s) (a:=a) (c:=33) (by simp[Ea]);rw[h.head,show Uj=⟨#[33]⟩from rfl,O,g,<-h.head,H];cases h33:Cz s j 33 with
 |true=>
  obtain⟨z,C⟩:=o.take (c:=33) (by simp[Ea]) (by rw[f];exact h33);rw[f]at z C;simp only[if_true];have ih:=Qs z C;obtain⟨A,l,k,u⟩:∃A l k,A4 s (j+1) false=(A,l,k):=⟨_,_,_,rfl⟩;rw[u]at ih⊢
  revert ih
  generalize Em b (d+1)=X;intro ih
  match X,ih with
  | .ok ((p,n,ts),m),ih=>
   obtain⟨w,i,v⟩:=ih;refine⟨w,?_,v⟩;simp only[aY]at i;obtain⟨rfl,rfl,rfl⟩:=i;simp[Iv,Lg,Fd,show ct CV=AC from rfl]
  | .error p,ih=>exact ih
 |false=>
  simp only[Z8,if_false];have J:DT b d=(EW s j&&EE s j):=by
   unfold DT;have G:=h.lt;have M:b[d]?=some (Ao b d):=by
    unfold Ao;rw[aq,aA G];rfl
   rw[M];rcases Uy o q f with⟨r,K,e,B,P⟩|⟨r,e⟩
   ·have I:=B.lt;have N:b[d+1]?=some (Ao b (d+1)):=by
     unfold Ao;rw[aq,aA I];rfl
    have L:=Dp (s:=s) (a:=K) (c:=40) (by simp[Ea]);have F:EW s j=true:=by
     unfold EW;by_cases t:j<s.size
     ·rw[dif_pos t];cases hl:Av s[j] with
      |true=>rfl
      |false=>rw[DV f (ET _ _ _ t hl) (Or.inl rfl)]at e;simp at e
     ·rw[DV f (Fg _ _ _ t) (Or.inl rfl)]at e;simp at e
    unfold EE;rw[N,e,F];simp only[r,cn,bG];rw[B.head,show Py=⟨#[40]⟩from rfl,L];rfl
   ·unfold EE;rw[e];simp only[cV,cX,cW];split
    ·rename_i m R D Q;simp only[ai]at D;rw[<-D,r,cX]
    ·rfl
  rw[J];cases hop:(EW s j&&EE s j)with
  |true=>
   simp only[if_true];have ih:=Qs o q;obtain⟨A,l,k,u⟩:∃A l k,A4 s j false=(A,l,k):=⟨_,_,_,rfl⟩;rw[u]at ih⊢
   revert ih
   generalize Em b d=X;intro ih
   match X,ih with
   | .ok ((p,n,ts),m),ih=>
    obtain⟨w,i,v⟩:=ih;refine⟨w,?_,v⟩;simp only[aY]at i;obtain⟨rfl,rfl,rfl⟩:=i;simp[Iv,Lg,Fd,show ct CV=AC from rfl]
   | .error p,ih=>exact ih
  |false=>
   simp only[Z8,if_false];have ih:=Zw (a:=a) o q f
   revert ih
   generalize GA b d=X;intro ih
   match X,ih with
   | .ok (c,m),ih=>exact⟨ih.1,ih.2.1.1,ih.2.2⟩
   | .error p,ih=>exact ih
theorem UE{s:cL}{b:List AV}:∀(k j a:Nat) (i:List PL),b.length-j<=k->At s b j a->a<=s.size->
  Ml (λls (L:List By)=>ls=i++L.map Lg) s b (ER b j i) (CJ s a)
 |k,j,a,i,hk,h,ha=>by
  have q:=h.lt;have g:=Zu h ha;obtain⟨f,d,o,l⟩:∃f d o,CU s a=(f,d,o):=⟨_,_,_,rfl⟩;rw[l]at g;cases hM:GC b j with
  |error p=>
   rw[hM]at g;obtain⟨rfl,rfl⟩:=g;rw[Kc l (by simp),GI q hM,KH];exact⟨rfl,rfl⟩
  |ok r=>
   obtain⟨t,u⟩:=r;rw[hM]at g;have B:=G9 hM;obtain⟨rfl,x,m,v⟩:=g;have A:Iv t=Lg f:=x;have y:=Dp (s:=s) (a:=d) (c:=44) (by simp[Ea]);rw[KT q hM,m.head,show GQ=⟨#[44]⟩from rfl,y,A];cases hc:Cz s (Af s d) 44 with
   |true=>
    obtain⟨_,e⟩:=Ny l ha (by simp[As,hc]);rw[KB hc]at e;obtain⟨w,z⟩:=m.take (by simp[Ea]) hc;rw[e];simp only[if_true]
    match k with
    |0=>omega
    |k+1=>
     have ih:=UE k (u+1) (Af s d+1) (i++[Lg f]) (by omega) w z
     revert ih
     generalize ER b (u+1) (i++[Lg f])=X;intro ih
     match X,ih with
     | .ok (ts,n),ih=>exact⟨ih.1,by rw[ih.2.1];simp,ih.2.2⟩
     | .error p,ih=>exact ih
   |false=>
    rw[Kc l (by simp[As,hc]),NP hc];simp only[Z8,if_false];exact⟨rfl,by simp,m.gap,AN s d v⟩
def Zx(c:Cm):PC:=⟨c.head.at_,c.head.name,c.head.args.map ct,c.body.map Lg⟩
theorem Yh{s:cL}{b:List AV}{n a:Nat}{c:PC}{C:Cm}(h:At s b n a)(d:a<=s.size)(i:c=Zx C/\C.at_=C.head.at_):
  Ml (λx (y:Cm)=>x=Zx y/\y.at_=y.head.at_) s b (Li b n c) (C,Bk s a false 46):=by
 have f:=Dp (s:=s) (a:=a) (c:=46) (by simp[Ea]);unfold Li;rw[h.head,show US=⟨#[46]⟩from rfl,f,Df d];cases hd:Cz s (Af s a) 46 with
 |true=>
  obtain⟨e,g⟩:=h.take (by simp[Ea]) hd;rw[Kf hd];exact⟨rfl,i,e,g⟩
 |false=>
  rw[Lp hd];exact⟨rfl,rfl⟩
theorem Zz(s:cL)(a:Nat):Bz (BE s a) U9=(Cz s (Af s a) 58&& !(Cz s (Af s a+1) 45))/\Bz (BE s a) Zg=(Cz s (Af s a) 58&&Cz s (Af s a+1) 45):=by
 obtain⟨j,b⟩:∃j,Af s a=j:=⟨_,rfl⟩;rw[b];unfold Bz;by_cases h:j<s.size
 ·have o:Cz s j 58=(s[j]==58):=by simp[Cz,h]
  rw[o];by_cases c:s[j]=58/\Cz s (j+1) 45=true
  ·rw[(Iu b h c.1 c.2).1,c.1,c.2];have k:(Zg.toList==U9.toList)=false:=by
    rw[show Zg.toList=[58,45] from by rw[bi];rfl,show U9.toList=[58] from by rw[bi];rfl]
    rfl
   (have n:(Zg.toList==Zg.toList)=true:=by simp);constructor
   ·rw[k];rfl
   ·rw[n];rfl
  ·have i:∀x:UInt8,((⟨#[x]⟩:cL).toList==Zg.toList)=false:=by
    intro x;rw[show Zg.toList=[58,45] from by rw[bi];rfl,show(⟨#[x]⟩:cL).toList=[x] from by rw[bi]]
    simp
   by_cases f:s[j].toNat<128
   ·cases hl:Av s[j] with
    |true=>
     (have:s[j]≠58:=λe=>by rw[e]at hl;cases hl);rw[(Ga b h hl).1];by_cases d:AM Av s j-j<=4<;>simp[d,this]
    |false=>
     cases hd:An s[j] with
     |true=>
      (have:s[j]≠58:=λe=>by rw[e]at hd;cases hd);rw[(Es b h hl hd).1];by_cases d:3<AM An s j-j\/(s[j]=48/\1<AM An s j-j)<;>simp[d,this]
     |false=>
      rw[(FH b h hl hd c f).1];rw[show U9=⟨#[58]⟩from rfl];simp only[Pu,i,cW];cases he:(s[j]==58)with
      |false=>simp
      |true=>
       (have g:s[j]=58:=by simpa using he);have m:Cz s (j+1) 45=false:=by
        cases d:Cz s (j+1) 45 with
        |false=>rfl
        |true=>exact absurd ⟨g,d⟩ c
       rw[g,m];exact⟨rfl,rfl⟩
   ·have:=Gc b h (by omega);have l:(s[j]==58)=false:=by
     simp only[bc,ne_eq];intro e;rw[e]at f;simp at f
    rw[this.1,l];exact⟨rfl,rfl⟩
 ·rw[Hl (by omega)];simp[DX,Cz,h]
theorem VW{s:cL}{d:List AV}{o a:Nat}(h:At s d o a)(O:a<=s.size):
  Ml (λx (y:Cm)=>x=Zx y/\y.at_=y.head.at_) s d (B3 d o) (AQ s a):=by
 have F:=h.gap;have N:=AN s a O;have J:Af s (Af s a)=Af s a:=AZ s a;have e:=Qs F N;obtain⟨A,b,v,l⟩:∃A b v,A4 s (Af s a) false=(A,b,v):=⟨_,_,_,rfl⟩;have t:A.at_=Af s a:=by
  have:(A4 s (Af s a) false).1.at_=Af s a:=by
   unfold A4;simp only;show Af s (Af s a)=Af s a;exact J
  rw[l]at this;exact this
 rw[l]at e;unfold B3 AQ;simp only[l];cases hM:Em d o with
 |error p=>
  rw[hM]at e;obtain⟨rfl,rfl⟩:=e;simp only[Db,cV,cX,Z8,if_false,KH,E1];exact⟨rfl,rfl⟩
 |ok r=>
  obtain⟨⟨p,n,S⟩,m⟩:=r;rw[hM]at e;obtain⟨rfl,w,j,q⟩:=e;simp only[aY]at w;obtain⟨rfl,rfl,rfl⟩:=w;obtain⟨H,I⟩:=Zz s b;have G:As s b false=Af s b:=rfl;simp only;rw[j.head,H,I];unfold Db;rw[G];cases h58:Cz s (Af s b) 58 with
  |false=>
   simp only[cX,Z8,if_false,cW,NP h58];have:=Yh (c:=⟨A.at_,A.name,A.args.map ct,[]⟩) (C:=⟨A,[],Af s a⟩) j.gap (AN s b q) ⟨rfl,t.symm⟩;exact this
  |true=>
   simp only[bG,cn,if_true,KB h58];cases h45:Cz s (Af s b+1) 45 with
   |false=>
    simp only[bG,if_true,Z8,if_false,E1,Df q];exact⟨rfl,by simp⟩
   |true=>
    simp only[cV,if_true,Z8,if_false];have g:=EL h58;(have E:s[Af s b]=58:=by simpa[Cz,g] using h58);have z:=j.next rfl g;rw[(Iu (a:=b) rfl g E h45).2]at z;have R:=EL h45;have f:=UE _ (m+1) (Af s b+2) [] (au _) z (by omega);obtain⟨L,k,i,u⟩:∃L k i,CJ s (Af s b+2)=(L,k,i):=⟨_,_,_,rfl⟩;rw[u]at f;have M:CJ s (Af s b+1+1)=(L,k,i):=u;rw[M];cases hM3:ER d (m+1) [] with
    |error p=>
     rw[hM3]at f;obtain⟨rfl,rfl⟩:=f;simp only[E1];exact⟨rfl,rfl⟩
    |ok r=>
     obtain⟨Q,P⟩:=r;rw[hM3]at f;obtain⟨rfl,B,K,D⟩:=f;simp only[bU]at B;subst B;exact Yh (c:=⟨A.at_,A.name,A.args.map ct,L.map Lg⟩) (C:=⟨A,L,Af s a⟩) K D ⟨rfl,t.symm⟩
theorem U8{s:cL}{d:List AV}:∀(k i a:Nat) (j:List PC),d.length-i<=k->At s d i a->a<=s.size->Af s a=a->
  match Dj d i j with
  | .ok cs=>(Au s a).2.2=false/\cs=j++(Au s a).1.map Zx/\(∀c∈(Au s a).1,c.at_=c.head.at_)
  | .error p=>(Au s a).2.2=true/\p=((Au s a).2.1:Int)
 |k,i,a,j,hk,h,ha,hg=>by
  have o:=h.lt;by_cases g:a<s.size
  ·have m:((Ao d i).kind==1)=false:=by
    rw[h.head];have l:=hg;by_cases z:s[a].toNat<128
    ·cases hl:Av s[a] with
     |true=>
      rw[(Ga l g hl).1];by_cases q:AM Av s a-a<=4<;>simp[q]
     |false=>
      cases hd:An s[a] with
      |true=>
       rw[(Es l g hl hd).1];by_cases q:3<AM An s a-a\/(s[a]=48/\1<AM An s a-a)<;>simp[q]
      |false=>
       by_cases t:s[a]=58/\Cz s (a+1) 45=true
       ·rw[(Iu l g t.1 t.2).1];rfl
       ·rw[(FH l g hl hd t z).1];simp only[bc,ne_eq];(have A:¬(97<=s[a].toNat/\s[a].toNat<=122):=λh=>by rw[(Ce _).2 h]at hl;cases hl);(have D:¬(48<=s[a].toNat/\s[a].toNat<=57):=λh=>by rw[(BW _).2 h]at hd;cases hd);rcases Ot A D with e|e|e<;>simp[e]
    ·rw[(Gc l g (by omega)).1];rfl
   have b:=VW h ha;obtain⟨C,f,u,v⟩:∃C f u,AQ s a=(C,f,u):=⟨_,_,_,rfl⟩;rw[v]at b;rw[JD g v];cases hM:B3 d i with
   |error p=>
    rw[hM]at b;obtain⟨rfl,rfl⟩:=b;rw[IU o m hM];simp only[Eg,if_true,I5];exact⟨trivial,trivial⟩
   |ok r=>
    obtain⟨c,n⟩:=r;have E:=FZ hM;rw[hM]at b;obtain⟨rfl,⟨rfl,x⟩,y,w⟩:=b;rw[Oq o m hM];simp only[Eg,Z8,if_false];have B:As s f false=Af s f:=rfl;rw[B]
    match k with
    |0=>omega
    |k+1=>
     have ih:=U8 k n (Af s f) (j++[Zx C]) (by omega) y.gap (AN s f w) (AZ s f)
     revert ih
     generalize Dj d n (j++[Zx C])=X;intro ih
     match X,ih with
     | .ok cs,ih=>
      refine⟨ih.1,by rw[ih.2.1];simp,?_⟩;intro c b;rcases aj.1 b with rfl|b
      ·exact x
      ·exact ih.2.2 c b
     | .error p,ih=>exact ih
  ·(have m:((Ao d i).kind==1)=true:=by rw[h.head,Hl (by omega)];rfl);rw[Lu o m,Kk g];simp
