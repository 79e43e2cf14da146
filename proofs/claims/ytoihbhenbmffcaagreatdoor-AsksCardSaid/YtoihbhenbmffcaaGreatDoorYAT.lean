import Derived.Test.YtoihbhenbmffcaaGreatDoorYAQ
import Derived.Test.YtoihbhenbmffcaaGreatDoorYAI
import Derived.Test.YtoihbhenbmffcaaGreatDoorYAO
set_option linter.all false
set_option maxHeartbeats 0
namespace Go.Proofs.YtoihbhenbmffcaaGreatDoor
open Go.RowKit Go.Proofs.Tryz
def AX(s:cR):Prop:=(∃c r,s.toList=c::r/\97<=c.toNat/\c.toNat<=122)\/YO s.toList=true
theorem Cx{s:cR}{c:UInt8}{r:List UInt8}(h:s.toList=c::r):Cb s 0=c/\s.size=r.length+1:=by
 have b:s.size=r.length+1:=by rw[B8,h];rfl
 refine⟨?_,b⟩;unfold Cb;rw[dif_pos (by omega)];obtain⟨d,a,_⟩:=G3 s (by omega);rw[h]at a;exact(List.cons.inj a).1.symm
theorem JM{c:UInt8}(a:48<=c.toNat)(b:c.toNat<=57):Ap c=true:=(BZ _).2 ⟨a,b⟩
theorem IB{c:UInt8}(a:97<=c.toNat):Ap c=false:=by
 cases h:Ap c with
 |false=>rfl
 |true=>have:=(BZ _).1 h;omega
theorem Od(x:UInt8)(l m:List UInt8):Op.bytesLess (x::l) (x::m)=Op.bytesLess l m:=by
 simp[Op.bytesLess]
theorem XY{x y:UInt8}(h:x.toNat<y.toNat)(l m:List UInt8):Op.bytesLess (x::l) (y::m)=true:=by
 have:x<y:=h;simp[Op.bytesLess,this]
theorem XU{x y:UInt8}(h:y.toNat<x.toNat)(l m:List UInt8):Op.bytesLess (x::l) (y::m)=false:=by
 have a:¬x<y:=by
  intro c;have:x.toNat<y.toNat:=c;omega
 have b:(x==y)=false:=by
  rw[cJ];intro e;rw[e]at h;omega
 simp[Op.bytesLess,a,b]
theorem Fk{s:cR}(h:YO s.toList=true):(Aw s).toList=List.replicate (3-s.toList.length) 48++s.toList:=by
 have g:Hc s=true:=by
  unfold Hc;rcases Er h with⟨c,e,b,a⟩|⟨c,d,e,b,a⟩|⟨c,d,f,e,b,a⟩<;>rw[e,En]<;>simp<;>omega
 have j:s.toList.length<=3:=by
  rcases Er h with⟨c,e,b,a⟩|⟨c,d,e,b,a⟩|⟨c,d,f,e,b,a⟩<;>rw[e]<;>simp
 have i:=B8 s;unfold Aw;rw[g,if_pos rfl,Km 3 s (by omega) (by omega),i]
theorem EC{s:cR}{c:UInt8}{r:List UInt8}(h:s.toList=c::r)(b:97<=c.toNat):Aw s=s:=by
 have a:Hc s=false:=by
  unfold Hc;rw[h,En];simp;omega
 unfold Aw;rw[a];rfl
theorem GG{a b:cR}(l:AX a)(i:AX b):Op.bytesLess (Aw a).toList (Aw b).toList=Ff a b:=by
 rcases l with⟨c,r,p,q,B⟩|l
 .obtain⟨w,C⟩:=Cx p;rcases i with⟨d,m,k,o,x⟩|i
  .obtain⟨s,z⟩:=Cx k;rw[EC p q,EC k o];unfold Ff;rw[w,s,IB q,IB o];rfl
  .rw[EC p q,Fk i];unfold Ff;rw[w,IB q];rcases Er i with⟨d,e,j,h⟩|⟨d,f,e,j,h⟩|⟨d,f,g,e,j,h⟩;all_goals
    rw[(Cx e).1,JM (by omega) h,e,p];refine Eq.trans (XU ?_ _ _) rfl
    first|omega|(show(48:UInt8).toNat<_;show 48<_;omega)
 .rcases i with⟨d,m,k,o,x⟩|i
  .obtain⟨s,z⟩:=Cx k;rw[EC k o,Fk l];unfold Ff;rw[s,IB o];rcases Er l with⟨c,e,j,h⟩|⟨c,f,e,j,h⟩|⟨c,f,g,e,j,h⟩;all_goals
    rw[(Cx e).1,JM (by omega) h,e,k];refine Eq.trans (XY ?_ _ _) rfl
    first|omega|(show(48:UInt8).toNat<_;show 48<_;omega)
  .rw[Fk l,Fk i];unfold Ff;rcases Er l with⟨c,e,j,h⟩|⟨c,f,e,j,h⟩|⟨c,f,g,e,j,h⟩<;>
    rcases Er i with⟨u,n,v,t⟩|⟨u,y,n,v,t⟩|⟨u,y,A,n,v,t⟩<;>
    rw[(Cx e).1,(Cx n).1,JM (by omega) h,JM (by omega) t,(Cx e).2,(Cx n).2,e,n]
   .simp[List.replicate,Od]
   .exact Eq.trans (Eq.trans (Od _ _ _) (XY (by show 48<_;omega) _ _)) rfl
   .exact Eq.trans (XY (by show 48<_;omega) _ _) rfl
   .exact Eq.trans (Eq.trans (Od _ _ _) (XU (by show 48<_;omega) _ _)) rfl
   .simp[List.replicate,Od]
   .exact Eq.trans (XY (by show 48<_;omega) _ _) rfl
   .exact Eq.trans (XU (by show 48<_;omega) _ _) rfl
   .exact Eq.trans (XU (by show 48<_;omega) _ _) rfl
   .simp[List.replicate]
theorem Mh(s:cR):(s.extract 1 s.size).toList=s.toList.drop 1:=by
 rw[cT,cT,ByteArray.data_extract,Array.toList_extract];have h:s.size=s.data.toList.length:=rfl;simp only[List.extract];rw[bP (by rw[cQ];omega)]
theorem EA{k:Nat}{s:cR}{c:UInt8}{r:List UInt8}(h:s.toList=c::r):(Fu (k+1) s).toList=if 0<r.length/\c=48 then(Fu k (s.extract 1 s.size)).toList else s.toList:=by
 obtain⟨e,d⟩:=Cx h;rw[Fu,e,d];by_cases a:0<r.length/\c=48
 .rw[if_pos ⟨by omega,a.2⟩,if_pos a]
 .rw[if_neg (λb=>a ⟨by omega,b.2⟩),if_neg a]
theorem KM{s:cR}(k:AX s):Fb (Aw s)=s:=by
 rcases k with⟨c,r,e,b,m⟩|k
 .rw[EC e b];unfold Fb;have i:Hc s=false:=by
   unfold Hc;rw[e,En];simp;omega
  rw[i];rfl
 .have g:=Fk k;apply toList_inj;have l:(Aw s).size=(Aw s).toList.length:=B8 _;generalize Aw s=p at g l⊢;unfold Fb;rcases Er k with⟨c,e,b,m⟩|⟨c,d,e,b,m⟩|⟨c,d,f,e,b,m⟩
  .rw[e]at g⊢;have a:p.toList=[48,48,c]:=g;(have i:Hc p=true:=by unfold Hc;rw[a,En];rfl);rw[i,if_pos rfl,l,a];show(Fu 3 p).toList=[c];rw[EA a,if_pos ⟨by simp,rfl⟩];(have j:(p.extract 1 p.size).toList=[48,c]:=by rw[Mh,a];rfl);rw[EA j,if_pos ⟨by simp,rfl⟩];(have q:((p.extract 1 p.size).extract 1 (p.extract 1 p.size).size).toList=[c]:=by rw[Mh,j];rfl);rw[EA q,if_neg (by simp),q]
  .rw[e]at g⊢;have a:p.toList=[48,c,d]:=g;(have i:Hc p=true:=by unfold Hc;rw[a,En];rfl);(have o:c≠48:=λn=>by rw[n]at b;exact absurd b (by decide));rw[i,if_pos rfl,l,a];show(Fu 3 p).toList=[c,d];rw[EA a,if_pos ⟨by simp,rfl⟩];(have j:(p.extract 1 p.size).toList=[c,d]:=by rw[Mh,a];rfl);rw[EA j,if_neg (λh=>o h.2),j]
  .rw[e]at g⊢;have a:p.toList=[c,d,f]:=g;(have i:Hc p=true:=by unfold Hc;rw[a,En];simp;omega);(have o:c≠48:=λn=>by rw[n]at b;exact absurd b (by decide));rw[i,if_pos rfl,l,a];show(Fu 3 p).toList=[c,d,f];rw[EA a,if_neg (λh=>o h.2),a]
theorem Fv{a b:cR}(c:AX a)(d:AX b)(h:Aw a=Aw b):a=b:=by
 rw[<-KM c,<-KM d,h]
def Bu(s:cR)(a:Nat):AW:=if Af s a<s.size then Hl (Dv s (Af s a)).1 else Ea s
def At(s:cR)(ms:List AW)(nx a:Nat):Prop:=ms.drop nx=CA s a
theorem Po(s:cR)(a:Nat):CA s (Af s a)=CA s a:=by
 unfold CA
 congr 2
 by_cases b:Af s a<s.size
 .rw[FH (BY s a) b,FH rfl b]
 .rw[Ih b,Ih (by rw[BY];exact b)]
theorem At.gap{s:cR}{ms:List AW}{b a:Nat}(h:At s ms b a):At s ms b (Af s a):=by
 unfold At at*;rw[Po];exact h
theorem At.head{s:cR}{ms:List AW}{b a:Nat}(h:At s ms b a):An ms b=Bu s a:=by
 unfold At at h;have e:ms[b]?=(CA s a)[0]?:=by rw[<-h];simp
 unfold An Bu;rw[bT,e];unfold CA Pn;split
 .simp
 .simp
theorem At.next{s:cR}{ms:List AW}{b a j:Nat}(h:At s ms b a)(c:Af s a=j)(d:j<s.size):At s ms (b+1) (Dv s j).2:=by
 unfold At at*;rw[<-List.drop_drop,h];unfold CA;rw[FH c d];simp
theorem At.lt{s:cR}{ms:List AW}{b a:Nat}(h:At s ms b a):b<ms.length:=by
 unfold At at h;have:(ms.drop b).length=(CA s a).length:=by rw[h]
 unfold CA at this;simp at this;omega
theorem GQ{s:cR}{a:Nat}(h:¬Af s a<s.size):Bu s a=Ea s:=by simp[Bu,h]
theorem Gt{s:cR}{a j:Nat}(c:Af s a=j)(h:j<s.size)(d:Az s[j]=true):
  Bu s a=⟨if AL Az s j-j<=4 then 2 else 0,j,s.extract j (AL Az s j)⟩/\(Dv s j).2=AL Az s j:=by
 have e:=CG Az s j (by omega);have f:Dv s j=(⟨2,j,s.extract j (AL Az s j)⟩,AL Az s j):=by unfold Dv;rw[D5 h,d];rfl
 unfold Bu;rw[c,if_pos h,f];refine⟨?_,rfl⟩;simp only[Hl,Ib,size_extract e,if_true];by_cases b:AL Az s j-j<=4<;>simp[b]
theorem Sm{s:cR}{j k:Nat}(h:j<s.size)(a:k<=s.size)(b:j<k)(c:UInt8):DW (s.extract j k) 0 c=(s[j]==c):=by
 unfold DW;rw[dif_pos (by rw[size_extract a];omega)];simp[ByteArray.getElem_extract]
theorem Ez{s:cR}{a j:Nat}(i:Af s a=j)(h:j<s.size)(k:Az s[j]=false)(b:Ap s[j]=true):
  Bu s a=⟨if 3<AL Ap s j-j\/(s[j]=48/\1<AL Ap s j-j)then 0 else 3,j,s.extract j (AL Ap s j)⟩/\(Dv s j).2=AL Ap s j:=by
 have c:=CG Ap s j (by omega);have f:j<AL Ap s j:=by rw[B4 _ _ _ h b];have:=Cu Ap s (j+1);omega
 have l:Dv s j=(⟨3,j,s.extract j (AL Ap s j)⟩,AL Ap s j):=by unfold Dv;rw[D5 h,k,b];rfl
 unfold Bu;rw[i,if_pos h,l];refine⟨?_,rfl⟩;have e:Ib ⟨3,j,s.extract j (AL Ap s j)⟩= !decide (3<AL Ap s j-j\/(s[j]=48/\1<AL Ap s j-j)):=by
  unfold Ib;simp only[size_extract c,Sm h c f];rw[if_neg (by decide),if_pos trivial,dk];simp only[dr,cq,fi,eD,eY,cJ,ne_eq];by_cases d:s[j]=48
  .simp only[d,not_true_eq_false,true_and,and_false,or_false];omega
  .simp only[d,not_false_eq_true,false_and,and_true,or_false];omega
 unfold Hl;rw[e];by_cases g:3<AL Ap s j-j\/(s[j]=48/\1<AL Ap s j-j)<;>simp[g]
theorem IY{s:cR}{a j:Nat}(c:Af s a=j)(h:j<s.size)(d:s[j]=58)(b:DW s (j+1) 45=true):
  Bu s a=⟨5,j,Z9⟩/\(Dv s j).2=j+2:=by
 have e:Dv s j=(⟨5,j,Z9⟩,j+2):=by unfold Dv;rw[D5 h,d,b];rfl
 unfold Bu;rw[c,if_pos h,e];exact⟨rfl,rfl⟩
theorem F3{s:cR}{a j:Nat}(f:Af s a=j)(h:j<s.size)(c:Az s[j]=false)(b:Ap s[j]=false)(l:¬(s[j]=58/\DW s (j+1) 45=true))(d:s[j].toNat<128):
  Bu s a=⟨DQ (s[j].toNat:Int),j,⟨#[s[j]]⟩⟩/\(Dv s j).2=j+1:=by
 have i:¬(97<=s[j].toNat/\s[j].toNat<=122):=λh=>by rw[(Cj _).2 h]at c;cases c
 have g:¬(48<=s[j].toNat/\s[j].toNat<=57):=λh=>by rw[(BZ _).2 h]at b;cases b
 have k:Dv s j=(⟨DQ (s[j].toNat:Int),j,⟨#[s[j]]⟩⟩,j+1):=by
  unfold Dv;rw[D5 h,c,b,ec s j h d];simp only[bN,if_false];rw[if_neg l];simp only[B1,FD _ d]
 unfold Bu;rw[f,if_pos h,k];refine⟨?_,rfl⟩;unfold Hl Ib;simp only;rcases Pf i g with e|e|e<;>simp[e]
theorem Gu{s:cR}{a j:Nat}(f:Af s a=j)(h:j<s.size)(c:128<=s[j].toNat):(Bu s a).kind=0/\(Bu s a).place=j:=by
 have g:Az s[j]=false:=by cases b:Az s[j] with|false=>rfl|true=>have:=(Cj _).1 b;omega
 have d:Ap s[j]=false:=by cases b:Ap s[j] with|false=>rfl|true=>have:=(BZ _).1 b;omega
 have i:¬(s[j]=58/\DW s (j+1) 45=true):=λb=>by rw[b.1]at c;simp at c
 have k:=(fX s j h c).1;have e:DQ ((Utf8.decode s j).1:Int)=0:=by unfold DQ;rw[if_neg (by omega),if_neg (by omega),if_neg (by omega),if_neg (by omega)]
 unfold Bu Dv;rw[f,if_pos h,D5 h,g,d];simp only[bN,if_false];rw[if_neg i];simp[B1,Hl,Ib,e]
theorem CX{s:cR}{a:Nat}(d:a<=s.size):(Bu s a).place=Af s a:=by
 obtain⟨j,b⟩:∃j,Af s a=j:=⟨_,rfl⟩;have f:=Bk s a d;by_cases h:j<s.size
 .by_cases e:s[j].toNat<128
  .cases hl:Az s[j] with
   |true=>rw[(Gt b h hl).1,b]
   |false=>
    cases hd:Ap s[j] with
    |true=>rw[(Ez b h hl hd).1,b]
    |false=>
     by_cases c:s[j]=58/\DW s (j+1) 45=true
     .rw[(IY b h c.1 c.2).1,b]
     .rw[(F3 b h hl hd c e).1,b]
  .rw[(Gu b h (by omega)).2,b]
 .rw[GQ (by omega)];simp only[Ea];omega
def Ek:List UInt8:=[46,44,33,61,35,60,40,41]
theorem QC{c:UInt8}(h:c∈Ek):c.toNat<128/\Az c=false/\Ap c=false/\c≠58/\DQ (c.toNat:Int)=5/\E4 c=false:=by
 simp only[Ek,bS,di,or_false]at h;rcases h with rfl|rfl|rfl|rfl|rfl|rfl|rfl|rfl<;>decide
theorem Qp(x c:UInt8):(((⟨#[x]⟩:cR).toList==(⟨#[c]⟩:cR).toList))=(x==c):=by
 have e:∀y:UInt8,(⟨#[y]⟩:cR).toList=[y]:=λy=>by rw[cT]
 rw[e,e];simp
theorem DB{s:cR}{a:Nat}{c:UInt8}(o:c∈Ek):BF (Bu s a) ⟨#[c]⟩=DW s (Af s a) c:=by
 obtain⟨j,d⟩:∃j,Af s a=j:=⟨_,rfl⟩;obtain⟨t,l,i,k,p,_⟩:=QC o;rw[d];unfold BF;by_cases h:j<s.size
 .have q:DW s j c=(s[j]==c):=by simp[DW,h]
  rw[q];have g:∀x:UInt8,(Az x=true\/Ap x=true\/128<=x.toNat)->(x==c)=false:=by
   intro x b;simp only[cJ,ne_eq];rintro rfl;rcases b with b|b|b
   .rw[l]at b;cases b
   .rw[i]at b;cases b
   .omega
  by_cases m:s[j].toNat<128
  .cases hl:Az s[j] with
   |true=>
    rw[(Gt d h hl).1,g _ (Or.inl hl)];by_cases f:AL Az s j-j<=4<;>simp[f]
   |false=>
    cases hd:Ap s[j] with
    |true=>
     rw[(Ez d h hl hd).1,g _ (Or.inr (Or.inl hd))];by_cases f:3<AL Ap s j-j\/(s[j]=48/\1<AL Ap s j-j)<;>simp[f]
    |false=>
     by_cases e:s[j]=58/\DW s (j+1) 45=true
     .rw[(IY d h e.1 e.2).1];(have n:(s[j]==c)=false:=by simp[e.1,Ne.symm k]);have r:(Z9.toList==(⟨#[c]⟩:cR).toList)=false:=by
       rw[show Z9.toList=[58,45] from by rw[cT];rfl,show(⟨#[c]⟩:cR).toList=[c] from by rw[cT]]
       simp
      rw[n,r,ez]
     .rw[(F3 d h hl hd e m).1];simp only[Qp];cases he:(s[j]==c)with
      |false=>simp
      |true=>
       (have:s[j]=c:=by simpa using he);rw[this,p];rfl
  .have:=Gu d h (by omega);rw[this.1,g _ (Or.inr (Or.inr (by omega)))];rfl
 .rw[GQ (by omega)];simp[Ea,DW,h]
theorem At.take{s:cR}{ms:List AW}{e a:Nat}{c:UInt8}(h:At s ms e a)(m:c∈Ek)(f:DW s (Af s a) c=true):At s ms (e+1) (Af s a+1)/\Af s a+1<=s.size:=by
 obtain⟨l,j,g,i,n,_⟩:=QC m;have d:=E5 f;have b:s[Af s a]=c:=by simpa[DW,d] using f
 have:=h.next rfl d;rw[(F3 (a:=a) rfl d (by rw[b];exact j) (by rw[b];exact g) (by rw[b];exact λk=>i k.1) (by rw[b];exact l)).2]at this;exact⟨this,by omega⟩
def M4{α β:Type}(R:α->β->Prop)(s:cR)(ms:List AW):Except Int (α×Nat)->β×Nat×Bool->Prop
 | .ok (x,n),(y,a,bd)=>bd=false/\R x y/\At s ms n a/\a<=s.size
 | .error p,(_,a,bd)=>bd=true/\p=(a:Int)
def ct(t:AG):A3:=⟨(t.v.toNat:Int),F9 t.s⟩
theorem Ik{s:cR}{j k:Nat}(h:j<s.size)(a:k<=s.size)(b:j<k):∃c:0<(s.extract j k).size,(s.extract j k)[0]=s[j]:=
 ⟨by rw[size_extract a];omega,by simp[ByteArray.getElem_extract]⟩
theorem Q1(c:UInt8)(h:c.toNat<128):CH ⟨#[c]⟩ 0 0=(c.toNat:Int):=by
 have a:(0:Nat)<(⟨#[c]⟩:cR).size:=Nat.zero_lt_one;rw[J3 0 a];have b:=ec ⟨#[c]⟩ 0 a h;rw[b];unfold CH;rw[dif_neg (λd=>absurd d.1 (show¬(0+1<1)from by decide))];rfl
theorem Rv{s:cR}{ms:List AW}{y a:Nat}(h:At s ms y a)(C:a<=s.size):M4 (λt D=>t=ct D) s ms (Fe (An ms y) y) (AP s a false):=by
 obtain⟨j,c⟩:∃j,Af s a=j:=⟨_,rfl⟩;have K:=Bk s a C;rw[h.head];unfold AP Fe;simp only[bN,if_false];by_cases b:j<s.size
 .rw[dif_pos (by rw[c];exact b)];simp only[c];have n:=h.next c b;by_cases v:s[j].toNat<128
  .cases f:Az s[j] with
   |true=>
    have H:=(Cj _).1 f;have g:Eh s[j]=false:=by cases d:Eh s[j] with|false=>rfl|true=>have:=(Ew _).1 d;omega
    have e:Ap s[j]=false:=by cases d:Ap s[j] with|false=>rfl|true=>have:=(BZ _).1 d;omega
    obtain⟨l,k⟩:=Gt c b f;rw[k]at n;(have B:Af s j=j:=by rw[<-c];exact BY s a);(have q:j<AL Az s j:=by rw[B4 _ _ _ b f];have:=Cu Az s (j+1);omega);have m:=CG Az s j (by omega);rw[l,g,e];simp only[bN,if_false,dn,if_true];by_cases i:AL Az s j-j<=4
    .rw[OU B rfl (by omega)];simp only[i,if_true];obtain⟨x,o⟩:=Ik b m q;refine⟨rfl,?_,n,m⟩;unfold ct;simp only;rw[<-U7 x (by rw[o];omega)];rfl
    .rw[D8 B rfl (by omega)];simp only[i,if_false];exact⟨rfl,rfl⟩
   |false=>
    cases e:Ap s[j] with
    |true=>
     have J:=(BZ _).1 e;have g:Eh s[j]=false:=by cases d:Eh s[j] with|false=>rfl|true=>have:=(Ew _).1 d;omega
     obtain⟨l,k⟩:=Ez c b f e;rw[k]at n;have m:=CG Ap s j (by omega);rw[l,g];simp only[bN,if_false,ey];by_cases i:3<AL Ap s j-j\/(s[j]=48/\1<AL Ap s j-j)
     .rw[if_pos i,if_pos i];exact⟨rfl,rfl⟩
     .rw[if_neg i,if_neg i];(have q:j<AL Ap s j:=by rw[B4 _ _ _ b e];have:=Cu Ap s (j+1);omega);obtain⟨x,o⟩:=Ik b m q;have A:=size_extract (s:=s) (j:=j) m;(have I:s[j].toNat=48->s[j]=48:=λh=>dx.1 h);refine⟨rfl,?_,n,m⟩;unfold ct;simp only;rw[<-W4 x (by rw[o];omega) (by rw[o];omega) (by rw[A];omega) (λh=>by rw[o]at h;have F:=I h;have z:¬1<AL Ap s j-j:=λz=>i (Or.inr ⟨F,z⟩);rw[A];omega)];rfl
    |false=>
     cases g:Eh s[j] with
     |true=>
      have r:=(Ew _).1 g;(have p:¬(s[j]=58/\DW s (j+1) 45=true):=λd=>by rw[d.1]at r;simp at r);obtain⟨l,k⟩:=F3 c b f e p v;rw[k]at n;(have G:DQ (s[j].toNat:Int)=4:=by unfold DQ;rw[if_neg (by omega),if_neg (by omega),if_pos (by omega)]);rw[l,G];simp only[if_true];refine⟨rfl,?_,n,by omega⟩;rw[Q1 _ v];rfl
     |false=>
      have w:Ba s j false=(ByteArray.empty,j,true):=D8 (by rw[<-c];exact BY s a) (Fg _ _ _ b f) (Or.inl rfl);(have r:¬(65<=s[j].toNat/\s[j].toNat<=90):=λh=>by rw[(Ew _).2 h]at g;cases g);(have H:¬(97<=s[j].toNat/\s[j].toNat<=122):=λh=>by rw[(Cj _).2 h]at f;cases f);(have J:¬(48<=s[j].toNat/\s[j].toNat<=57):=λh=>by rw[(BZ _).2 h]at e;cases e);simp only[bN,if_false,dn,if_true,w];(have E:(Bu s a).place=j:=by rw[CX C,c]);have u:(Bu s a).kind≠2/\(Bu s a).kind≠3/\(Bu s a).kind≠4:=by
       by_cases p:s[j]=58/\DW s (j+1) 45=true
       .rw[(IY c b p.1 p.2).1];simp
       .rw[(F3 c b f e p v).1];unfold DQ;rw[if_neg (by omega),if_neg (by omega),if_neg (by omega)];split<;>simp
      simp only[dE,u.1,u.2.1,u.2.2,gc,dr,or_self,if_false,E];exact⟨rfl,rfl⟩
  .have f:Az s[j]=false:=by cases d:Az s[j] with|false=>rfl|true=>have:=(Cj _).1 d;omega
   have e:Ap s[j]=false:=by cases d:Ap s[j] with|false=>rfl|true=>have:=(BZ _).1 d;omega
   have g:Eh s[j]=false:=by cases d:Eh s[j] with|false=>rfl|true=>have:=(Ew _).1 d;omega
   have w:Ba s j false=(ByteArray.empty,j,true):=D8 (by rw[<-c];exact BY s a) (Fg _ _ _ b f) (Or.inl rfl);obtain⟨l,k⟩:=Gu c b (by omega);rw[g,e];simp only[bN,if_false,dn,if_true,w,l,k];exact⟨rfl,rfl⟩
 .rw[dif_neg (by rw[c];exact b),GQ (by omega)];simp only[Ea];refine⟨rfl,?_⟩;rw[c];show(s.size:Int)=(j:Int);omega
def Dq(t:AG):Prop:=(t.v=0/\AX t.s)\/(65<=t.v.toNat/\t.v.toNat<=90/\t.s=ByteArray.empty)
theorem AX.size{s:cR}(h:AX s):s.size≠0:=by
 rw[B8];rcases h with⟨c,r,h,_⟩|h
 .rw[h];simp
 .rcases Er h with⟨c,e,_⟩|⟨c,d,e,_⟩|⟨c,d,f,e,_⟩<;>rw[e]<;>simp
theorem Dq.fl{t:AG}(h:Dq t):Bz t:=by
 rcases h with⟨a,b⟩|h
 .exact Or.inl ⟨a,b.size⟩
 .exact Or.inr ⟨h.1,h.2.1⟩
theorem KV{s:cR}{j k:Nat}(h:j<s.size)(a:k<=s.size)(f:j<k):∃r,(s.extract j k).toList=s[j]::r/\r.length+1=k-j:=by
 obtain⟨d,e⟩:=Ik h a f;obtain⟨r,c,b⟩:=G3 _ d;refine⟨r,by rw[c,e],?_⟩;rw[c,Ip _ _ _ a]at b;simpa using b
theorem MU{p:UInt8->Bool}{s:cR}{i:Nat}(h:AL p s i≠i):∃a:i<s.size,p s[i]=true:=by
 by_cases a:i<s.size
 .refine⟨a,?_⟩;cases hp:p s[i] with
  |true=>rfl
  |false=>exact absurd (Fg p s i a hp) h
 .exact absurd (FB p s i a) h
theorem Sc{p:UInt8->Bool}{s:cR}{i:Nat}(h:AL p s i≠i):AL p s i<=s.size:=by
 obtain⟨a,_⟩:=MU h;exact CG p s i (by omega)
theorem Mw{s:cR}{at_:Nat}(h:(Ba s at_ false).2.2=false):AX (Ba s at_ false).1:=by
 unfold Ba at h⊢;rw[if_neg (by simp)]at h⊢;by_cases a:AL Az s (Af s at_)=Af s at_\/4<AL Az s (Af s at_)-Af s at_
 .rw[if_pos a]at h;cases h
 .rw[if_neg a];have b:AL Az s (Af s at_)≠Af s at_:=λe=>a (Or.inl e)
  obtain⟨d,c⟩:=MU b;have f:=Cu Az s (Af s at_);obtain⟨r,e,_⟩:=KV d (Sc b) (by omega:Af s at_<AL Az s (Af s at_));exact Or.inl ⟨_,r,e,(Cj _).1 c⟩
theorem Q8{s:cR}{j:Nat}(i:j<s.size)(g:Ap s[j]=true)(h:¬(3<AL Ap s j-j\/(s[j]=48/\1<AL Ap s j-j))):AX (s.extract j (AL Ap s j)):=by
 have l:=Cu Ap s (j+1);rw[<-B4 Ap s j i g]at l;have n:=CG Ap s j (by omega);obtain⟨r,e,d⟩:=KV i n (by omega:j<AL Ap s j);have f:=(BZ _).1 g;have p:¬3<AL Ap s j-j:=λx=>h (Or.inl x)
 have k:1<AL Ap s j-j->49<=s[j].toNat:=by
  intro o;have m:s[j]≠48:=λx=>h (Or.inr ⟨x,o⟩)
  have:s[j].toNat≠48:=λx=>m (dx.1 (by rw[x];rfl))
  omega
 refine Or.inr ?_;rw[e]
 match r,d with
 |[],_=>simp only[YO];exact fe f
 |[a],d=>simp only[YO];exact fe ⟨k (by simp at d;omega),f.2⟩
 |[a,b],d=>simp only[YO];exact fe ⟨k (by simp at d;omega),f.2⟩
 |a::b::c::r,d=>simp at d;omega
theorem IK{s:cR}{at_:Nat}(h:(AP s at_ false).2.2=false):Dq (AP s at_ false).1:=by
 unfold AP at h⊢;rw[if_neg (by simp)]at h⊢;by_cases a:Af s at_<s.size
 .rw[dif_pos a]at h⊢;cases hu:Eh s[Af s at_] with
  |true=>
   rw[if_pos rfl];exact Or.inr ⟨((Ew _).1 hu).1,((Ew _).1 hu).2,rfl⟩
  |false=>
   rw[hu,if_neg (by simp)]at h;rw[if_neg (by simp)];cases hd:Ap s[Af s at_] with
   |false=>
    rw[hd,dn,if_pos rfl]at h;rw[dn,if_pos rfl];exact Or.inl ⟨rfl,Mw h⟩
   |true=>
    rw[hd,ey,if_neg (by simp)]at h;rw[ey,if_neg (by simp)];by_cases b:3<AL Ap s (Af s at_)-Af s at_\/(s[Af s at_]=48/\1<AL Ap s (Af s at_)-Af s at_)
    .rw[if_pos b]at h;cases h
    .rw[if_neg b];exact Or.inl ⟨rfl,Q8 a hd b⟩
 .rw[dif_neg a]at h;cases h
theorem Uw{s:cR}{at_:Nat}(h:(DL s at_).2.2=false):∀t∈(DL s at_).1,Dq t:=by
 fun_induction DL s at_ with
 |case1 at_ hc _ _ ih=>
  intro t a;have b:(AP s at_ false).2.2=false:=by
   have:=hc.1;rw[cq]at this;simpa using this.1
  rcases bS.1 a with rfl|a
  .exact IK b
  .exact ih h t a
 |case2 at_ hc=>
  intro t a;rw[bO]at a;subst a;exact IK h
theorem Ro{s:cR}{a:Nat}{b:Bool}{c:UInt8}(h:(BG s a b c).2=false):b=false:=by
 unfold BG at h;cases b with
 |false=>rfl
 |true=>simp at h
structure Kf(A:C2):Prop where
 name:AX A.name
 args:∀t∈A.args,Dq t
theorem KO{s:cR}{at_:Nat}(h:(Bj s at_ false).2.2=false):Kf (Bj s at_ false).1:=by
 unfold Bj at h⊢;simp only at h⊢;have a:=Ro h;have b:(BG s (Ba s (AQ s at_ false) false).2.1 (Ba s (AQ s at_ false) false).2.2 40).2=false:=by
  cases hm:(BG s (Ba s (AQ s at_ false) false).2.1 (Ba s (AQ s at_ false) false).2.2 40).2 with
  |false=>rfl
  |true=>unfold ER at a;rw[hm,if_pos rfl]at a;cases a
 refine⟨Mw (Ro b),?_⟩;unfold ER at a⊢;rw[b,if_neg (by simp)]at a⊢;exact Uw a
def CN(x:Bg):Prop:=if(x.kind==97||x.kind==33)=true then Kf x.A else Dq x.L/\Dq x.R/\(x.kind=61\/x.kind=35\/x.kind=60)
theorem Qx{s:cR}{at_:Nat}(h:(CR s at_).2.2=false):CN (CR s at_).1:=by
 unfold CR at h⊢;simp only at h⊢;cases h33:DW s (Af s at_) 33 with
 |true=>
  rw[h33,if_pos rfl]at h;rw[if_pos rfl];unfold CN;rw[if_pos (by rfl)];exact KO h
 |false=>
  rw[h33,if_neg (by simp)]at h;rw[if_neg (by simp)];cases ho:(EP s (Af s at_)&&KE s (Af s at_))with
  |true=>
   rw[ho,if_pos rfl]at h;rw[if_pos rfl];unfold CN;rw[if_pos (by rfl)];exact KO h
  |false=>
   rw[ho,if_neg (by simp)]at h;rw[if_neg (by simp)];unfold Hg at h⊢;generalize hg:AQ s (AP s (Af s at_) false).2.1 (AP s (Af s at_) false).2.2=a3 at h⊢;cases hc:(!(AP s (Af s at_) false).2.2&&(DW s a3 61||DW s a3 35||DW s a3 60))with
   |false=>rw[hc,if_neg (by simp)]at h;cases h
   |true=>
    rw[hc,if_pos rfl]at h;rw[if_pos rfl];rw[cq]at hc;(have d:(AP s (Af s at_) false).2.2=false:=by simpa using hc.1);have c:Cb s a3=61\/Cb s a3=35\/Cb s a3=60:=by
     have a:=hc.2;unfold Cb;by_cases b:a3<s.size
     .rw[dif_pos b];unfold DW at a;rw[dif_pos b,dif_pos b,dif_pos b]at a;simp only[dr,dE]at a;rcases a with(a|a)|a
      .exact Or.inl a
      .exact Or.inr (Or.inl a)
      .exact Or.inr (Or.inr a)
     .unfold DW at a;rw[dif_neg b,dif_neg b,dif_neg b]at a;simp at a
    unfold CN;(have f:(Cb s a3==97||Cb s a3==33)=false:=by rcases c with e|e|e<;>rw[e]<;>rfl);rw[if_neg (by rw[f];simp)];exact⟨IK d,IK h,c⟩
theorem Kp{s:cR}{at_:Nat}(h:(Be s at_).2.2=false):∀x∈(Be s at_).1,CN x:=by
 fun_induction Be s at_ with
 |case1 at_ hc _ _ ih=>
  intro t a;have b:(CR s at_).2.2=false:=by
   have:=hc.1;rw[cq]at this;simpa using this.1
  rcases bS.1 a with rfl|a
  .exact Qx b
  .exact ih h t a
 |case2 at_ hc=>
  intro t a;rw[bO]at a;subst a;exact Qx h
structure TI(c:Cf):Prop where
 head:Kf c.head
 body:∀x∈c.body,CN x
theorem Uq{s:cR}{a:Nat}{b:Bool}(h:(DN s a b).2.2=false):b=false/\∀x∈(DN s a b).1,CN x:=by
 unfold DN at h⊢;cases hc:(!b&&DW s (AQ s a b) 58)with
 |true=>
  rw[hc,if_pos rfl]at h;rw[if_pos rfl];have d:b=false:=by
   rw[cq]at hc;simpa using hc.1
  refine⟨d,?_⟩;cases h45:DW s (B3 s a b 58) 45 with
  |true=>
   rw[h45,if_pos rfl]at h;rw[if_pos rfl];exact Kp h
  |false=>rw[h45,if_neg (by simp)]at h;cases h
 |false=>
  rw[hc,if_neg (by simp)]at h;rw[if_neg (by simp)];exact⟨h,λx c=>by cases c⟩
theorem Lm{s:cR}{at_:Nat}(h:(A5 s at_).2.2=false):TI (A5 s at_).1:=by
 unfold A5 at h⊢;simp only at h⊢;have a:=Uq (Ro h);exact⟨KO a.1,a.2⟩
theorem Py{s:cR}{at_:Nat}(h:(AD s at_).2.2=false):∀c∈(AD s at_).1,TI c:=by
 fun_induction AD s at_ with
 |case1 at_ ha hc ih=>
  intro c a;rcases bS.1 a with rfl|a
  .exact Lm hc.1
  .exact ih h c a
 |case2 at_ ha hc=>
  intro c a;rw[bO]at a;subst a;exact Lm h
 |case3 at_ ha=>intro c a;cases a
theorem JX{s:cR}{at_:Nat}{cs:List A7}(h:(AD s at_).2.2=false)(d:cs.map A7.erase=(AD s at_).1):
  ∀c∈cs,Kf c.head/\∀x∈Am c,CN x:=by
 intro c b;have a:c.erase∈(AD s at_).1:=by rw[<-d];exact cm b
 have:=Py h _ a;exact⟨this.head,this.body⟩
theorem UK{s:cR}{at_:Nat}{cs:List A7}(h:(AD s at_).2.2=false)(d:cs.map A7.erase=(AD s at_).1):
  ∀c∈cs,∀x∈Am c,(x.kind==97)=true->∀t∈x.A.args,Bz t:=by
 intro c e x f a t b;have:=(JX h d c e).2 x f;unfold CN at this;rw[a,eX,if_pos rfl]at this;exact(this.args t b).fl
theorem Tryz.zV:(Tryz.prog.info? 189).map (λi=>(i.zero,i.size,i.bytes))=some (some (.agg #[.int .i64 0,.string ⟨#[]⟩,.slice none 0 0,.slice none 0 0]),4,72):=by kernel_rfl
theorem Xt(r:Int):DQ r≠1:=by
 unfold DQ;split
 .simp
 .split
  .simp
  .split
   .simp
   .split<;>simp
theorem Tb(s:cR)(j:Nat)(h:j<s.size):(Dv s j).1.kind≠1/\(Dv s j).1.place=j/\(Dv s j).1.text.size<=s.size+4:=by
 unfold Dv;split
 .have:=CG Az s j (by omega);refine⟨by simp,rfl,?_⟩;simp only[size_extract this];omega
 .split
  .have:=CG Ap s j (by omega);refine⟨by simp,rfl,?_⟩;simp only[size_extract this];omega
  .split
   .refine⟨by simp,rfl,?_⟩;show 2<=s.size+4;omega
   .refine⟨Xt _,rfl,?_⟩;have:=Vi ((Utf8.decode s j).1:Int);simp only[B1];omega
theorem RM(s:cR):∀(n a:Nat),s.size-a<=n->(Pn s a).length<=s.size-a/\∀m∈Pn s a,m.kind≠1/\m.place<=s.size/\m.text.size<=s.size+4
 |n,a,hn=>by
  by_cases h:Af s a<s.size
  .have f:=Cv s a;have i:=OR s _ h;obtain⟨d,j,c⟩:=Tb s _ h;rw[FH rfl h]
   match n with
   |0=>omega
   |n+1=>
    obtain⟨g,e⟩:=RM s n (Dv s (Af s a)).2 (by omega);refine⟨by simp only[bU];omega,λm b=>?_⟩;rcases bS.1 b with rfl|b
    .exact⟨d,by omega,c⟩
    .exact e m b
  .rw[Ih h];exact⟨by simp,λm b=>by simp at b⟩
theorem VY(m:AW):(Hl m).place=m.place/\(Hl m).text=m.text/\(m.kind≠1->(Hl m).kind≠1):=by
 unfold Hl;split
 .exact⟨rfl,rfl,λh=>h⟩
 .exact⟨rfl,rfl,λ_=>by simp⟩
theorem Ie(s:cR):(De s).length<=s.size+1/\0<(De s).length:=by
 rw[IH];unfold CA;have:=(RM s _ 0 (bZ _)).1;simp;omega
theorem PS(s:cR):∀m∈De s,m.place<=s.size/\m.text.size<=s.size+4:=by
 rw[IH];unfold CA;intro m a;rcases bY.1 a with a|a
 .obtain⟨b,d,rfl⟩:=bV.1 a;obtain⟨e,c,_⟩:=VY b;obtain⟨_,f,g⟩:=(RM s _ 0 (bZ _)).2 b d;rw[e,c];exact⟨f,g⟩
 .simp at a;subst a;exact⟨bZ _,b8 _⟩
theorem V7{s:cR}(d:s.size<=300):Tv (De s):=by
 refine⟨λi h b=>?_,λi h=>?_⟩
 .by_cases c:i+1<(De s).length
  .exact c
  .exfalso
   (have a:(De s).getLast?=some (Ea s):=by unfold De;simp);have:(De s)[i]?=some (Ea s):=by
    rw[List.getLast?_eq_getElem?]at a;rw[show i=(De s).length-1 by omega];exact a
   rw[bW h]at this;simp only[bR]at this;rw[this]at b;cases b
 .have:=(PS s _ (bL h)).2;omega
theorem Va{s:cR}(a:s.size<=300)(i:Nat):(An (De s) i).place<=1000000:=by
 by_cases h:i<(De s).length
 .rw[<-A8 h];have:=(PS s _ (bL h)).1;omega
 .unfold An;rw[bT,List.getElem?_eq_none (by omega)];simp
structure C0 where
 hp:Int
 hn:cR
 eB:List A3
 hv:Value
 bv:Value
 db:List JF
def C0.pc(c:C0):PC:=⟨c.hp,c.hn,c.eB,c.db.map Prod.fst⟩
def A9(c:C0):List Value:=[.int .i64 c.hp,.string c.hn,c.hv,c.bv]
structure M9(w:World)(base:Nat)(lv:Value)(c:C0):Prop where
 at_:IP w base c.hv c.bv c.eB c.db
 zb:BP c.hv lv
 zY:BP c.bv lv
 zd:∀p∈c.db,BP p.2 lv
theorem M9.kept{M:List Nat}{w w':World}{base:Nat}{a:Value}{c:C0}(h:M9 w base a c)(k:Ac M w w')(b:∀i,i∈M->i<base):M9 w' base a c:=
 ⟨h.at_.kept k b,h.zb,h.zY,h.zd⟩
theorem Hf{w w':World}{base:Nat}{e:TypeId}{size:Nat}{v a:Value}{n:Nat}{b:List Value}(h:w.ownsRow base e size v n b)(k:Ac a.ownBlock.toList w w')(d:BP v a):w'.ownsRow base e size v n b:=
 Al h k (λi f c=>d i f (by simpa using c))
theorem M9.gO{w w':World}{base:Nat}{d:Value}{c:C0}{g n cap H:Nat}(h:M9 w base d c)(k:Ac d.ownBlock.toList w w')(b:d.ownBlock=some g\/g=H)(e:w.heap.size<=H):M9 w' base (.slice (some ⟨g,0,none⟩) n cap) c:=
 ⟨⟨Hf h.at_.head k h.zb,⟨Hf h.at_.body.row k h.zY,λp a=>⟨Hf (h.at_.body.each p a).1 k (h.zd p a),(h.at_.body.each p a).2⟩⟩⟩,
  BP.gO h.zb h.at_.head b e,BP.gO h.zY h.at_.body.row b e,λp a=>BP.gO (h.zd p a) (h.at_.body.each p a).1 b e⟩
theorem Mk{w o:World}{e l:TypeId}{c i n m base:Nat}{v a:Value}{j d:List Value}(h:o.ownsRow w.heap.size e c v n j)(g:w.ownsRow base l i a m d):BP v a:=by
 intro k b f;have:=(h.lt k b).1;have:=(g.lt k f).2;omega
structure Fw(w:World)(base:Nat)(lv:Value)(cs:List C0):Prop where
 row:w.ownsRow base 189 4 lv cs.length (cs.flatMap A9)
 each:∀c∈cs,M9 w base lv c
theorem Fw.kept{M:List Nat}{w w':World}{base:Nat}{a:Value}{cs:List C0}(h:Fw w base a cs)(k:Ac M w w')(b:∀i,i∈M->i<base):Fw w' base a cs:=
 ⟨Ad h.row k b,λc d=>(h.each c d).kept k b⟩
theorem Fw.base{w:World}{base base':Nat}{b:Value}{cs:List C0}(h:Fw w base b cs)(d:base'<=base):Fw w base' b cs:=
 ⟨Ak h.row d,λc a=>⟨(h.each c a).at_.base d,(h.each c a).zb,(h.each c a).zY,(h.each c a).zd⟩⟩
theorem Fw.nil(w:World)(base:Nat):Fw w base (.slice none 0 0) []:=⟨ck _ _ _ _,λp a=>by simp at a⟩
def ZQ(w:World)(e:Ending)(w':World):Except Int (List PC)->Prop
 | .ok cs=>∃ad cp pcs,e=.returned (.tuple #[.slice ad cs.length cp,.int .i64 0,.bool true])/\pcs.map C0.pc=cs/\Fw w' w.heap.size (.slice ad cs.length cp) pcs/\Ac [] w w'
 | .error p=>e=.returned (.tuple #[.slice none 0 0,.int .i64 p,.bool false])/\Ac [] w w'
set_option maxRecDepth 100000
theorem M7(s:cR)(w:World)(hs:s.size<=300):
  Calls prog 71 #[.string s] w λe G=>ZQ w e G (Du (De s) 0 []):=by
 obtain⟨i0,K8,IA,LC,K6⟩:=cU Tryz.zV;have HO:=Ab (V7 hs);have HE:=Ab (Va hs);have FO:=Ie s;have EX:=Ab (Vz s w hs);obtain⟨R,hR⟩:∃R,Du (De s) 0 []=R:=⟨_,rfl⟩;rw[hR];have AB:=Ab hR;clear hR;generalize De s=ms at HO HE FO EX AB;have MY:ms.length<=1000:=by omega
 go_enter func71,ntmps71;go_wp2_with fail
 refine(Aa EX).mono ?_;rintro e x ⟨mv,rfl,Y,k1⟩;clear EX;obtain⟨C,m,rfl⟩:=Aj Y;have HB:=AE.new x [.slice C ms.length m,.int .i64 0,.int .i64 0] 203;have HJ:=Ak (bQ Y (.cells [.slice C ms.length m,.int .i64 0,.int .i64 0].toArray 203)) (b8 _);have HM:(Value.slice C ms.length m).ownBlock≠some x.heap.size:=λe=>by have:=(Y.lt _ e).2;omega
 have HI:BU (x.alloc (.cells [.slice C ms.length m,.int .i64 0,.int .i64 0].toArray 203)) x.heap.size (.slice C ms.length m) ms 0 0:=⟨HB,HJ,HM,FO.2,by omega⟩;have HZ:=k1.alloc (.cells [.slice C ms.length m,.int .i64 0,.int .i64 0].toArray 203);have I:=Ab HI;have CC:=Ab HZ;have H4:w.heap.size<=x.heap.size:=k1.size;have AH:(x.alloc (.cells [.slice C ms.length m,.int .i64 0,.int .i64 0].toArray 203)).heap.size=x.heap.size+1:=by simp
 clear HB HJ HM HI HZ Y k1;go_wp2;change Code.wp _ _ _ _ (x.alloc (.cells [.slice C ms.length m,.int .i64 0,.int .i64 0].toArray 203));generalize x.alloc (.cells [.slice C ms.length m,.int .i64 0,.int .i64 0].toArray 203)=w2 at I CC AH⊢;obtain⟨b,H2⟩:∃b,x.heap.size=b:=⟨_,rfl⟩;rw[H2]at I H4 AH⊢;clear H2;obtain⟨g,NM,HW,_,_,_,_⟩:=(Aa I).cells;simp only[bK]at HW;obtain⟨rfl,_,rfl⟩:=HW;have H3:Hid (∀k,b+1<=k->(Value.slice (some ⟨g,0,none⟩) ms.length m).ownBlock≠some k):=λk y e=>by have:=((Aa I).row.lt k e).2;omega
 go_loopg [2] ms.length (λgk o wr=>∃(j:Nat) (acc:List C0) (z:Option Addr) (B:Nat),o=.slice z acc.length B/\gk=ms.length-j/\Hid (Du ms j (acc.map C0.pc)=R)/\Hid (BU wr b (.slice (some ⟨g,0,none⟩) ms.length m) ms j 0)/\Hid (Fw wr (b+1) (.slice z acc.length B) acc)/\Hid (Ac [] w wr)/\b+1<=wr.heap.size/\acc.length<=j)
 case atStart=>exact⟨0,[],none,0,rfl,rfl,AB,I,Fw.nil _ _,CC,by omega,by simp⟩
 case round=>
  clear I AB CC AH;obtain⟨j,acc,z,B,rfl,HY,L,Z,HP,HK,FL,MB⟩:=hrel;have HG:=Ab HY;clear HY;have O:=(Aa Z).lt;have NL:(j:Int)<(ms.length:Int):=by omega
  have Mo:(0:Int)<=(j:Int):=by omega
  obtain⟨g',MN,he,b0,b1,_,hc⟩:=(Aa Z).cells;simp only[bK,bR,cI]at he;obtain⟨⟨rfl,_⟩,_,rfl⟩:=he;obtain⟨c0,_,_⟩:=hc j O;clear hc;rw[A8 O]at c0;obtain⟨M,T⟩:∃M,(An ms j).kind=M:=⟨_,rfl⟩;rw[T]at c0;go_wp2_with fail
  go_region_held3 (λG=>G.cell? ⟨b,0,none⟩=some (.slice (some ⟨g,0,none⟩) ms.length m)/\G.cell? ⟨b,1,none⟩=some (.int .i64 j)/\G.cell? ⟨g,j*3,none⟩=some (.int .i64 M)) (go_keep) (fail)
  rename_i K4;clear K4 b0 b1 c0;cases y:(M==1)with
  |true=>
   (have Ix:(M !=1)=false:=by simp[bne,y]);(have HF:Hid (R=.ok (acc.map C0.pc)):=by show _=_;rw[<-Aa L];exact Mf O (by rw[T];exact y));clear y T L;go_wp2;go_ret3;rw[HF.out];exact⟨z,B,acc,by simp,rfl,by simpa using((Aa HP).kept (Ac.refl [] wr).drew (by simp)).base (by omega),(Aa HK).drew⟩
  |false=>
   (have Ix:(M !=1)=true:=by simp[bne,y]);(have U:Hid (((An ms j).kind==1)=false):=by show _=_;rw[T];exact y);clear y T;(go_wp2_with fail);refine(Sr b (.slice (some ⟨g,0,none⟩) ms.length m) ms j 0 _ ((Aa Z).eb (Ac.refl [] wr).drew) (Aa HO) (Aa HE)).mono ?_;intro e v P;have D:=Ab ((Aa HP).kept (Ac.refl [] wr).drew (by simp));have Q:=Ab ((Aa HK).drew);have JJ:b+1<=wr.drew.heap.size:=FL;clear Z HP HK FL;generalize wr.drew=w5 at P D Q JJ;cases ht:B5 ms j with
   |error q=>
    rw[ht]at P;obtain⟨n9,hp,hn,LB,n8,K9,KS,n2,H6,rfl,N,F⟩:=P;(have HF:Hid (R=.error q):=by show _=_;rw[<-Aa L];exact Jn O (Aa U) ht);have JA:=Ab ((Aa Q).trans' F (λi A=>Or.inr (by simp at A;omega)));(have d2:=λo=>(N.gA.alloc o).cell 2);simp at d2;clear ht L U N F D Q;simp only[A2];(go_wp2_with fail);have M1:=d2 (.cells [.int .i64 hp,.string hn,.slice LB n8 K9,.slice KS n2 H6].toArray 189)
    go_region_held3 (λG=>G.cell? ⟨b,2,none⟩=some (.int .i64 q)) (go_keep) (fail)
    rename_i H7;clear H7;go_wp2;go_ret3;rw[HF.out];exact⟨rfl,((Aa JA).alloc _).drew⟩
   |ok r=>
    obtain⟨c,V⟩:=r;rw[ht]at P;have LS:=Gj ht;obtain⟨u,f,l,h,K,rfl,HH,X,N,F⟩:=P;have HT:=Ab (Pe (acc:=acc.map C0.pc) O (Aa U) ht);clear ht U;obtain⟨n,d,a,Nx⟩:=c;simp only at HH X;subst HH;have LM:=F.size;have EY:=Ad (Aa D).row F (by simp);(have HQ:Hid (∀q∈acc,M9 v (b+1) (.slice z acc.length B) q):=λq E=>((Aa D).each q E).kept F (by simp));have AT:Hid (M9 v (b+1) (.slice z acc.length B) ⟨n,d,a,.slice u a.length f,.slice l (K.map Prod.fst).length h,K⟩):=by
     have BT:=X.base (base':=w5.heap.size) (by omega);refine⟨X.base (by omega),?_,?_,?_⟩
     .exact Mk BT.head (Aa D).row
     .exact Mk BT.body.row (Aa D).row
     .exact λp hp=>Mk (BT.body.each p hp).1 (Aa D).row
    have HX:=Ab ((Aa Q).trans' F (λi A=>Or.inr (by simp at A;omega)));have J:=Ab N;have M6:=N.lt;clear X N F D Q;generalize hnl:(K.map Prod.fst).length=nl at AT;have H0:((v.alloc (.cells (A2 n d (.slice u a.length f) (.slice l nl h)).toArray 189)).alloc (.cells (A2 n d (.slice u a.length f) (.slice l nl h)).toArray 189)).heap[v.heap.size+1]?=some (.cells (A2 n d (.slice u a.length f) (.slice l nl h)).toArray 189 (0,0)):=by
     have hh:=cA (v.alloc (.cells (A2 n d (.slice u a.length f) (.slice l nl h)).toArray 189)) (.cells (A2 n d (.slice u a.length f) (.slice l nl h)).toArray 189);rw[show(v.alloc (.cells (A2 n d (.slice u a.length f) (.slice l nl h)).toArray 189)).heap.size=v.heap.size+1 from by simp]at hh
     exact hh
    have HS:=bQ (bQ EY (.cells (A2 n d (.slice u a.length f) (.slice l nl h)).toArray 189)) (.cells (A2 n d (.slice u a.length f) (.slice l nl h)).toArray 189);(have M2:acc.length<=1000:=by omega);have M0:=Ab hnl;clear hnl;simp only[A2];go_wp2_with (at_builtin;refine cd _ rfl (.tmp 35) (.tmp 37) _ rfl (b+1) 189 i0 _ 4 72 underlying66 K8 IA LC K6 rfl (by omega) (.slice z acc.length B) acc.length (acc.flatMap A9) rfl HS ⟨v.heap.size+1,0,none⟩ 1 1 (A2 n d (.slice u a.length f) (.slice l nl h)) rfl rfl (cj (cs:=(A2 n d (.slice u a.length f) (.slice l nl h)).toArray) (t:=189) (fr:=(0,0)) H0) (by simp[Value.oneCell',A2]) (by omega) (by unfold maxLen;omega) (by omega) (by simp;omega) (v.heap.size+1+1) (by simp) ?_;intro g1 FW S HN Go Ax H8)
    have H:Ac (Value.slice z acc.length B).ownBlock.toList v S:=(((Ac.refl _ v).alloc _).alloc _).grown Go (λk y=>Or.inl (by simp[y]));(have W:∀i∈(Value.slice z acc.length B).ownBlock.toList,b+1<=i:=λi A=>(EY.lt i (by simpa using A)).1);have Ha:BU S b (.slice (some ⟨g,0,none⟩) ms.length m) ms V 0:=⟨(Aa J).gA.kept H (λhm=>by have:=W b hm;omega),Al (Aa J).row H (λi A hm=>by have:=W i hm;exact absurd A (Aa H3 i this)),(Aa J).ap,(Aa J).lt,(Aa J).len⟩;have HA:Ac [] w S:=(Aa HX).trans' H (λi A=>Or.inr (by have:=W i A;omega));have K5:Hid (Fw S (b+1) (.slice (some ⟨g1,0,none⟩) (acc.length+1) FW) (acc++[⟨n,d,a,.slice u a.length f,.slice l nl h,K⟩])):=by
     refine⟨by simpa[A9,A2] using HN,?_⟩;intro q E;rcases bY.1 E with E|E
     .exact(Aa HQ q E).gO H Ax (by omega)
     .simp only[bO]at E;subst E;exact(Aa AT).gO H Ax (by omega)
    have K1:Hid (Du ms V ((acc++[(⟨n,d,a,.slice u a.length f,.slice l nl h,K⟩:C0)]).map C0.pc)=R):=by
     show _=_;rw[<-Aa L,Aa HT];simp[C0.pc]
    (have LL:b+1<=S.heap.size:=by have:=H.size;omega);have Jx:=Ab Ha;have K3:=Ab HA;clear H W Ha HA Go Ax H8 HN H0 HS EY HQ AT HX J L HT
    go_roundg (ms.length-V)
    case measure=>have:=Aa HG;omega
    case rel=>exact⟨V,acc++[⟨n,d,a,.slice u a.length f,.slice l nl h,K⟩],some ⟨g1,0,none⟩,FW,by simp,rfl,K1,Jx,by simpa using K5,K3,LL,by simp;omega⟩
theorem Vv{s:cR}{ms:List AW}{d a j:Nat}(h:At s ms d a)(q:a<=s.size)(c:Af s a=j):
  (((An ms d).kind==2)=true/\∃g,Ba s j false=((An ms d).text,g,false)/\At s ms (d+1) g/\g<=s.size)\/
  (((An ms d).kind==2)=false/\Ba s j false=(ByteArray.empty,j,true)):=by
 have e:Af s j=j:=by rw[<-c];exact BY s a
 rw[h.head];by_cases b:j<s.size
 .have k:=h.next c b;cases hl:Az s[j] with
  |true=>
   obtain⟨m,o⟩:=Gt c b hl;rw[o]at k;(have p:j<AL Az s j:=by rw[B4 _ _ _ b hl];have:=Cu Az s (j+1);omega);have l:=CG Az s j (by omega);rw[m];by_cases f:AL Az s j-j<=4
   .left;refine⟨by simp[f],_,OU e rfl (by omega),k,l⟩
   .right;exact⟨by simp[f],D8 e rfl (by omega)⟩
  |false=>
   right;refine⟨?_,D8 e (Fg _ _ _ b hl) (Or.inl rfl)⟩;(have r:¬(97<=s[j].toNat/\s[j].toNat<=122):=λh=>by rw[(Cj _).2 h]at hl;cases hl);by_cases n:s[j].toNat<128
   .cases hd:Ap s[j] with
    |true=>
     rw[(Ez c b hl hd).1];by_cases f:3<AL Ap s j-j\/(s[j]=48/\1<AL Ap s j-j)<;>simp[f]
    |false=>
     by_cases i:s[j]=58/\DW s (j+1) 45=true
     .rw[(IY c b i.1 i.2).1];rfl
     .rw[(F3 c b hl hd i n).1];simp only[cJ,ne_eq,FJ];omega
   .rw[(Gu c b (by omega)).1];rfl
 .right;rw[GQ (by omega)];exact⟨rfl,D8 e (FB _ _ _ b) (Or.inl rfl)⟩
theorem Lz(s:cR)(a:Nat)(c:UInt8):B3 s a true c=a:=by simp[B3,AQ]
theorem Lr{s:cR}{a:Nat}{c:UInt8}(h:DW s (Af s a) c=true):B3 s a false c=Af s a+1:=by simp[B3,AQ,h]
theorem OC{s:cR}{a:Nat}{c:UInt8}(h:DW s (Af s a) c=false):B3 s a false c=Af s a:=by simp[B3,AQ,h]
theorem Fm(s:cR)(a:Nat)(c:UInt8):BG s a true c=(a,true):=by simp[BG,Lz]
theorem KR{s:cR}{a:Nat}{c:UInt8}(h:DW s (Af s a) c=true):BG s a false c=(Af s a+1,false):=by simp[BG,Lr h,AQ,h]
theorem Mc{s:cR}{a:Nat}{c:UInt8}(h:DW s (Af s a) c=false):BG s a false c=(Af s a,true):=by simp[BG,OC h,AQ,h]
theorem V1{s:cR}{ms:List AW}:∀(k d a:Nat) (g:List A3),ms.length-d<=k->At s ms d a->a<=s.size->
  M4 (λts (L:List AG)=>ts=g++L.map ct) s ms (FT ms d g) ((DL s a).1,BG s (DL s a).2.1 (DL s a).2.2 41)
 |k,d,a,g,hk,h,ha=>by
  have w:=h.lt;have f:=Rv h ha;obtain⟨j,b,u,i⟩:∃j b u,AP s a false=(j,b,u):=⟨_,_,_,rfl⟩;rw[i]at f;unfold FT;rw[dif_pos w];cases hM:Fe (An ms d) d with
  |error p=>
   rw[hM]at f;obtain⟨rfl,rfl⟩:=f;rw[KG i (by simp)];simp only[Lz,Fm];exact⟨rfl,rfl⟩
  |ok r=>
   obtain⟨t,A⟩:=r;rw[hM]at f;have z:=Fn hM;subst z;obtain⟨rfl,rfl,q,v⟩:=f;simp only;have y:=DB (s:=s) (a:=b) (c:=44) (by simp[Ek]);have x:=DB (s:=s) (a:=b) (c:=41) (by simp[Ek]);rw[q.head,show G7=⟨#[44]⟩from rfl,show Nf=⟨#[41]⟩from rfl,y,x];cases hc:DW s (Af s b) 44 with
   |true=>
    obtain⟨_,e⟩:=OK i ha (by simp[AQ,hc]);rw[Lr hc]at e;obtain⟨o,m⟩:=q.take (by simp[Ek]) hc;rw[e];simp only[if_true]
    match k with
    |0=>omega
    |k+1=>
     have ih:=V1 k (d+2) (Af s b+1) (g++[ct j]) (by omega) o m
     revert ih
     generalize FT ms (d+2) (g++[ct j])=X;intro ih
     match X,ih with
     | .ok (ts,n),ih=>exact⟨ih.1,by rw[ih.2.1];simp,ih.2.2⟩
     | .error p,ih=>exact ih
   |false=>
    rw[KG i (by simp[AQ,hc])];simp only[bN,if_false,OC hc];have l:Af s (Af s b)=Af s b:=BY s b;cases hcl:DW s (Af s b) 41 with
    |true=>
     obtain⟨o,m⟩:=q.take (by simp[Ek]) hcl;rw[KR (by rw[l];exact hcl),l];simp only[if_true];exact⟨rfl,rfl,o,m⟩
    |false=>
     rw[Mc (by rw[l];exact hcl),l,CX v];simp only[bN,if_false];exact⟨rfl,rfl⟩
theorem Rn{s:cR}{ms:List AW}{b a:Nat}(h:At s ms b a)(g:a<=s.size):
  M4 (λx (A:C2)=>x=(A.at_,A.name,A.args.map ct)) s ms (Et ms b) (Bj s a false):=by
 have o:AQ s a false=Af s a:=rfl;have j:(An ms b).place=Af s a:=by rw[h.head,CX g]
 unfold Et Bj;simp only[o];rcases Vv h g rfl with⟨e,f,d,i,k⟩|⟨e,d⟩
 .rw[d,e];simp only[if_true];have q:=DB (s:=s) (a:=f) (c:=40) (by simp[Ek]);rw[i.head,show Qt=⟨#[40]⟩from rfl,q];cases hc:DW s (Af s f) 40 with
  |true=>
   obtain⟨l,m⟩:=i.take (by simp[Ek]) hc;rw[KR hc];simp only[if_true,ER,bN,if_false];have ih:=V1 _ (b+2) (Af s f+1) [] (bZ _) l m
   revert ih
   generalize FT ms (b+2) []=X;intro ih
   match X,ih with
   | .ok (ts,n),ih=>exact⟨ih.1,by rw[ih.2.1,j];simp,ih.2.2⟩
   | .error p,ih=>exact ih
  |false=>
   rw[Mc hc,CX k];simp only[bN,if_false,ER,if_true,Fm];exact⟨rfl,rfl⟩
 .rw[d,e,j];simp only[bN,if_false,Fm,ER,if_true];exact⟨rfl,rfl⟩
def Fx(k:UInt8):Int:=if k=97 then 0 else if k=33 then 1 else if k=61 then 2 else if k=35 then 3 else 4
def Kj(x:Bg):PL:=⟨x.at_,Fx x.kind,x.A.at_,x.A.name,x.A.args.map ct,ct x.L,ct x.R⟩
theorem ak:ct DV=Ay:=rfl
theorem aF{s:cR}{ms:List AW}{d a j:Nat}(h:At s ms d j)(B:j<=s.size)(P:Af s j=j):
  M4 (λx (y:Bg)=>IZ (.inr x)=Kj y/\x.atom=AV) s ms (GR ms d) (Hg s j (AQ s (AP s j false).2.1 (AP s j false).2.2) (AP s j false).1 (AP s j false).2.2):=by
 have G:(An ms d).place=j:=by rw[h.head,CX B,P]
 have e:=Rv h B;obtain⟨k,b,w,A⟩:∃k b w,AP s j false=(k,b,w):=⟨_,_,_,rfl⟩;rw[A]at e;rw[A];unfold GR Hg;cases hM:Fe (An ms d) d with
 |error p=>
  rw[hM]at e;obtain⟨rfl,rfl⟩:=e;simp only[ey,eC,bN,if_false,Jz];exact⟨rfl,rfl⟩
 |ok r=>
  obtain⟨t,U⟩:=r;rw[hM]at e;have H:=Fn hM;subst H;obtain⟨rfl,rfl,u,D⟩:=e;simp only;have I:=DB (s:=s) (a:=b) (c:=61) (by simp[Ek]);have J:=DB (s:=s) (a:=b) (c:=35) (by simp[Ek]);have L:=DB (s:=s) (a:=b) (c:=60) (by simp[Ek]);have K:AQ s b false=Af s b:=rfl;rw[u.head,K];unfold LK;rw[show bq=⟨#[61]⟩from rfl,show bo=⟨#[35]⟩from rfl,show bm=⟨#[60]⟩from rfl,I,J,L];have m:∀(c:UInt8) (l:Int),c∈Ek->Fx c=l->DW s (Af s b) c=true->Cb s (Af s b)=c/\
    M4 (λx (y:Bg)=>IZ (.inr x)=Kj y/\x.atom=AV) s ms
     (match Fe (An ms (d+1+1)) (d+1+1)with| .error p=> .error p| .ok (r,n2)=> .ok (⟨(An ms d).place,l,AV,ct k,r⟩,n2))
     (⟨c,Gc,k,(AP s (Af s b+1) false).1,j⟩,(AP s (Af s b+1) false).2):=by
   intro c l R Q n;have q:=E5 n;refine⟨by rw[D5 q];simpa[DW,q] using n,?_⟩;obtain⟨F,O⟩:=u.take R n;have i:=Rv F O;obtain⟨o,z,v,C⟩:∃o z v,AP s (Af s b+1) false=(o,z,v):=⟨_,_,_,rfl⟩;rw[C]at i;rw[C];cases hM2:Fe (An ms (d+1+1)) (d+1+1)with
   |error p=>
    rw[hM2]at i;obtain⟨rfl,rfl⟩:=i;exact⟨rfl,rfl⟩
   |ok r=>
    obtain⟨S,T⟩:=r;rw[hM2]at i;have M:=Fn hM2;subst M;obtain⟨rfl,rfl,N,E⟩:=i;refine⟨rfl,⟨?_,rfl⟩,N,E⟩;simp[IZ,Kj,Q,G,Gc]
  cases h61:DW s (Af s b) 61 with
  |true=>
   obtain⟨f,g⟩:=m 61 2 (by simp[Ek]) rfl h61;rw[f];simp only[if_true,dn,eX,ee];exact g
  |false=>
   cases h35:DW s (Af s b) 35 with
   |true=>
    obtain⟨f,g⟩:=m 35 3 (by simp[Ek]) rfl h35;rw[f];simp only[if_true,dn,eX,fA,ee,bN,if_false];exact g
   |false=>
    cases h60:DW s (Af s b) 60 with
    |true=>
     obtain⟨f,g⟩:=m 60 4 (by simp[Ek]) rfl h60;rw[f];simp only[if_true,dn,fA,ee,bN,if_false];exact g
    |false=>
     simp only[gc,ez,bN,if_false,CX D];exact⟨rfl,rfl⟩
theorem aD{s:cR}{ms:List AW}{b a:Nat}(h:At s ms b a)(D:a<=s.size):
  M4 (λx (y:Bg)=>IZ x=Kj y) s ms (GU ms b) (CR s a):=by
 obtain⟨j,f⟩:∃j,Af s a=j:=⟨_,rfl⟩;have e:Af s j=j:=by rw[<-f];exact BY s a
 have o:j<=s.size:=by rw[<-f];exact Bk s a D
 have l:At s ms b j:=by rw[<-f];exact h.gap
 have G:(An ms b).place=j:=by rw[h.head,CX D,f]
 unfold GU CR;simp only[f];have N:=DB (s:=s) (a:=a) (c:=33) (by simp[Ek]);rw[h.head,show Ve=⟨#[33]⟩from rfl,N,f,<-h.head,G];cases h33:DW s j 33 with
 |true=>
  obtain⟨w,B⟩:=l.take (c:=33) (by simp[Ek]) (by rw[e];exact h33);rw[e]at w B;simp only[if_true];have ih:=Rn w B;obtain⟨A,k,i,t⟩:∃A k i,Bj s (j+1) false=(A,k,i):=⟨_,_,_,rfl⟩;rw[t]at ih⊢
  revert ih
  generalize Et ms (b+1)=X;intro ih
  match X,ih with
  | .ok ((p,n,ts),m),ih=>
   obtain⟨v,g,u⟩:=ih;refine⟨v,?_,u⟩;simp only[cP]at g;obtain⟨rfl,rfl,rfl⟩:=g;simp[IZ,Kj,Fx,ak]
  | .error p,ih=>exact ih
 |false=>
  simp only[bN,if_false];have I:D6 ms b=(EP s j&&KE s j):=by
   unfold D6;have F:=h.lt;have L:ms[b]?=some (An ms b):=by
    unfold An;rw[bT,bW F];rfl
   rw[L];rcases Vv l o e with⟨q,J,d,z,O⟩|⟨q,d⟩
   .have H:=z.lt;have M:ms[b+1]?=some (An ms (b+1)):=by
     unfold An;rw[bT,bW H];rfl
    have K:=DB (s:=s) (a:=J) (c:=40) (by simp[Ek]);have E:EP s j=true:=by
     unfold EP;by_cases r:j<s.size
     .rw[dif_pos r];cases hl:Az s[j] with
      |true=>rfl
      |false=>rw[D8 e (Fg _ _ _ r hl) (Or.inl rfl)]at d;simp at d
     .rw[D8 e (FB _ _ _ r) (Or.inl rfl)]at d;simp at d
    unfold KE;rw[M,d,E];simp only[q,dF,dn];rw[z.head,show Qt=⟨#[40]⟩from rfl,K];rfl
   .unfold KE;rw[d];simp only[ey,eC,ez];split
    .rename_i m Q C P;simp only[bR]at C;rw[<-C,q,eC]
    .rfl
  rw[I];cases hop:(EP s j&&KE s j)with
  |true=>
   simp only[if_true];have ih:=Rn l o;obtain⟨A,k,i,t⟩:∃A k i,Bj s j false=(A,k,i):=⟨_,_,_,rfl⟩;rw[t]at ih⊢
   revert ih
   generalize Et ms b=X;intro ih
   match X,ih with
   | .ok ((p,n,ts),m),ih=>
    obtain⟨v,g,u⟩:=ih;refine⟨v,?_,u⟩;simp only[cP]at g;obtain⟨rfl,rfl,rfl⟩:=g;simp[IZ,Kj,Fx,ak]
   | .error p,ih=>exact ih
  |false=>
   simp only[bN,if_false];have ih:=aF (a:=a) l o e
   revert ih
   generalize GR ms b=X;intro ih
   match X,ih with
   | .ok (c,m),ih=>exact⟨ih.1,ih.2.1.1,ih.2.2⟩
   | .error p,ih=>exact ih
theorem Rq{s:cR}{ms:List AW}:∀(k i a:Nat) (g:List PL),ms.length-i<=k->At s ms i a->a<=s.size->
  M4 (λls (L:List Bg)=>ls=g++L.map Kj) s ms (D9 ms i g) (Be s a)
 |k,i,a,g,hk,h,ha=>by
  have o:=h.lt;have f:=aD h ha;obtain⟨d,b,m,j⟩:∃d b m,CR s a=(d,b,m):=⟨_,_,_,rfl⟩;rw[j]at f;cases hM:GU ms i with
  |error p=>
   rw[hM]at f;obtain⟨rfl,rfl⟩:=f;rw[KP j (by simp),GZ o hM,Lz];exact⟨rfl,rfl⟩
  |ok r=>
   obtain⟨t,q⟩:=r;rw[hM]at f;have A:=Hw hM;obtain⟨rfl,w,l,u⟩:=f;have z:IZ t=Kj d:=w;have x:=DB (s:=s) (a:=b) (c:=44) (by simp[Ek]);rw[LJ o hM,l.head,show G7=⟨#[44]⟩from rfl,x,z];cases hc:DW s (Af s b) 44 with
   |true=>
    obtain⟨_,e⟩:=Oj j ha (by simp[AQ,hc]);rw[Lr hc]at e;obtain⟨v,y⟩:=l.take (by simp[Ek]) hc;rw[e];simp only[if_true]
    match k with
    |0=>omega
    |k+1=>
     have ih:=Rq k (q+1) (Af s b+1) (g++[Kj d]) (by omega) v y
     revert ih
     generalize D9 ms (q+1) (g++[Kj d])=X;intro ih
     match X,ih with
     | .ok (ts,n),ih=>exact⟨ih.1,by rw[ih.2.1];simp,ih.2.2⟩
     | .error p,ih=>exact ih
   |false=>
    rw[KP j (by simp[AQ,hc]),OC hc];simp only[bN,if_false];exact⟨rfl,by simp,l.gap,Bk s b u⟩
def aH(c:Cf):PC:=⟨c.head.at_,c.head.name,c.head.args.map ct,c.body.map Kj⟩
theorem Za{s:cR}{ms:List AW}{n a:Nat}{c:PC}{C:Cf}(h:At s ms n a)(b:a<=s.size)(g:c=aH C/\C.at_=C.head.at_):
  M4 (λx (y:Cf)=>x=aH y/\y.at_=y.head.at_) s ms (L2 ms n c) (C,BG s a false 46):=by
 have e:=DB (s:=s) (a:=a) (c:=46) (by simp[Ek]);unfold L2;rw[h.head,show VU=⟨#[46]⟩from rfl,e,CX b];cases hd:DW s (Af s a) 46 with
 |true=>
  obtain⟨d,f⟩:=h.take (by simp[Ek]) hd;rw[KR hd];exact⟨rfl,g,d,f⟩
 |false=>
  rw[Mc hd];exact⟨rfl,rfl⟩
theorem aJ(s:cR)(a:Nat):BF (Bu s a) We=(DW s (Af s a) 58&& !(DW s (Af s a+1) 45))/\BF (Bu s a) Z9=(DW s (Af s a) 58&&DW s (Af s a+1) 45):=by
 obtain⟨j,b⟩:∃j,Af s a=j:=⟨_,rfl⟩;rw[b];unfold BF;by_cases h:j<s.size
 .have o:DW s j 58=(s[j]==58):=by simp[DW,h]
  rw[o];by_cases c:s[j]=58/\DW s (j+1) 45=true
  .rw[(IY b h c.1 c.2).1,c.1,c.2];have k:(Z9.toList==We.toList)=false:=by
    rw[show Z9.toList=[58,45] from by rw[cT];rfl,show We.toList=[58] from by rw[cT];rfl]
    rfl
   (have n:(Z9.toList==Z9.toList)=true:=by simp);constructor
   .rw[k];rfl
   .rw[n];rfl
  .have i:∀x:UInt8,((⟨#[x]⟩:cR).toList==Z9.toList)=false:=by
    intro x;rw[show Z9.toList=[58,45] from by rw[cT];rfl,show(⟨#[x]⟩:cR).toList=[x] from by rw[cT]]
    simp
   by_cases f:s[j].toNat<128
   .cases hl:Az s[j] with
    |true=>
     (have:s[j]≠58:=λe=>by rw[e]at hl;cases hl);rw[(Gt b h hl).1];by_cases d:AL Az s j-j<=4<;>simp[d,this]
    |false=>
     cases hd:Ap s[j] with
     |true=>
      (have:s[j]≠58:=λe=>by rw[e]at hd;cases hd);rw[(Ez b h hl hd).1];by_cases d:3<AL Ap s j-j\/(s[j]=48/\1<AL Ap s j-j)<;>simp[d,this]
     |false=>
      rw[(F3 b h hl hd c f).1];rw[show We=⟨#[58]⟩from rfl];simp only[Qp,i,ez];cases he:(s[j]==58)with
      |false=>simp
      |true=>
       (have g:s[j]=58:=by simpa using he);have m:DW s (j+1) 45=false:=by
        cases d:DW s (j+1) 45 with
        |false=>rfl
        |true=>exact absurd ⟨g,d⟩ c
       rw[g,m];exact⟨rfl,rfl⟩
   .have:=Gu b h (by omega);have l:(s[j]==58)=false:=by
     simp only[cJ,ne_eq];intro e;rw[e]at f;simp at f
    rw[this.1,l];exact⟨rfl,rfl⟩
 .rw[GQ (by omega)];simp[Ea,DW,h]
theorem WU{s:cR}{ms:List AW}{l a:Nat}(h:At s ms l a)(N:a<=s.size):
  M4 (λx (y:Cf)=>x=aH y/\y.at_=y.head.at_) s ms (B5 ms l) (A5 s a):=by
 have E:=h.gap;have M:=Bk s a N;have I:Af s (Af s a)=Af s a:=BY s a;have d:=Rn E M;obtain⟨A,b,u,k⟩:∃A b u,Bj s (Af s a) false=(A,b,u):=⟨_,_,_,rfl⟩;have q:A.at_=Af s a:=by
  have:(Bj s (Af s a) false).1.at_=Af s a:=by
   unfold Bj;simp only;show Af s (Af s a)=Af s a;exact I
  rw[k]at this;exact this
 rw[k]at d;unfold B5 A5;simp only[k];cases hM:Et ms l with
 |error p=>
  rw[hM]at d;obtain⟨rfl,rfl⟩:=d;simp only[DN,ey,eC,bN,if_false,Lz,Fm];exact⟨rfl,rfl⟩
 |ok r=>
  obtain⟨⟨p,n,R⟩,m⟩:=r;rw[hM]at d;obtain⟨rfl,v,i,o⟩:=d;simp only[cP]at v;obtain⟨rfl,rfl,rfl⟩:=v;obtain⟨G,H⟩:=aJ s b;have F:AQ s b false=Af s b:=rfl;simp only;rw[i.head,G,H];unfold DN;rw[F];cases h58:DW s (Af s b) 58 with
  |false=>
   simp only[eC,bN,if_false,ez,OC h58];have:=Za (c:=⟨A.at_,A.name,A.args.map ct,[]⟩) (C:=⟨A,[],Af s a⟩) i.gap (Bk s b o) ⟨rfl,q.symm⟩;exact this
  |true=>
   simp only[dn,dF,if_true,Lr h58];cases h45:DW s (Af s b+1) 45 with
   |false=>
    simp only[dn,if_true,bN,if_false,Fm,CX o];exact⟨rfl,by simp⟩
   |true=>
    simp only[ey,if_true,bN,if_false];have f:=E5 h58;(have D:s[Af s b]=58:=by simpa[DW,f] using h58);have w:=i.next rfl f;rw[(IY (a:=b) rfl f D h45).2]at w;have Q:=E5 h45;have e:=Rq _ (m+1) (Af s b+2) [] (bZ _) w (by omega);obtain⟨L,j,g,t⟩:∃L j g,Be s (Af s b+2)=(L,j,g):=⟨_,_,_,rfl⟩;rw[t]at e;have K:Be s (Af s b+1+1)=(L,j,g):=t;rw[K];cases hM3:D9 ms (m+1) [] with
    |error p=>
     rw[hM3]at e;obtain⟨rfl,rfl⟩:=e;simp only[Fm];exact⟨rfl,rfl⟩
    |ok r=>
     obtain⟨P,O⟩:=r;rw[hM3]at e;obtain⟨rfl,z,J,B⟩:=e;simp only[dm]at z;subst z;exact Za (c:=⟨A.at_,A.name,A.args.map ct,L.map Kj⟩) (C:=⟨A,L,Af s a⟩) J B ⟨rfl,q.symm⟩
theorem Wd{s:cR}{ms:List AW}:∀(k g a:Nat) (i:List PC),ms.length-g<=k->At s ms g a->a<=s.size->Af s a=a->
  match Du ms g i with
  | .ok cs=>(AD s a).2.2=false/\cs=i++(AD s a).1.map aH/\(∀c∈(AD s a).1,c.at_=c.head.at_)
  | .error p=>(AD s a).2.2=true/\p=((AD s a).2.1:Int)
 |k,g,a,i,hk,h,ha,hg=>by
  have m:=h.lt;by_cases f:a<s.size
  .have l:((An ms g).kind==1)=false:=by
    rw[h.head];have j:=hg;by_cases y:s[a].toNat<128
    .cases hl:Az s[a] with
     |true=>
      rw[(Gt j f hl).1];by_cases o:AL Az s a-a<=4<;>simp[o]
     |false=>
      cases hd:Ap s[a] with
      |true=>
       rw[(Ez j f hl hd).1];by_cases o:3<AL Ap s a-a\/(s[a]=48/\1<AL Ap s a-a)<;>simp[o]
      |false=>
       by_cases q:s[a]=58/\DW s (a+1) 45=true
       .rw[(IY j f q.1 q.2).1];rfl
       .rw[(F3 j f hl hd q y).1];simp only[cJ,ne_eq];(have z:¬(97<=s[a].toNat/\s[a].toNat<=122):=λh=>by rw[(Cj _).2 h]at hl;cases hl);(have B:¬(48<=s[a].toNat/\s[a].toNat<=57):=λh=>by rw[(BZ _).2 h]at hd;cases hd);rcases Pf z B with e|e|e<;>simp[e]
    .rw[(Gu j f (by omega)).1];rfl
   have b:=WU h ha;obtain⟨C,d,t,u⟩:∃C d t,A5 s a=(C,d,t):=⟨_,_,_,rfl⟩;rw[u]at b;rw[Ka f u];cases hM:B5 ms g with
   |error p=>
    rw[hM]at b;obtain⟨rfl,rfl⟩:=b;rw[Jn m l hM];simp only[Ep,if_true,Jz];exact⟨trivial,trivial⟩
   |ok r=>
    obtain⟨c,n⟩:=r;have D:=Gj hM;rw[hM]at b;obtain⟨rfl,⟨rfl,w⟩,x,v⟩:=b;rw[Pe m l hM];simp only[Ep,bN,if_false];have A:AQ s d false=Af s d:=rfl;rw[A]
    match k with
    |0=>omega
    |k+1=>
     have ih:=Wd k n (Af s d) (i++[aH C]) (by omega) x.gap (Bk s d v) (BY s d)
     revert ih
     generalize Du ms n (i++[aH C])=X;intro ih
     match X,ih with
     | .ok cs,ih=>
      refine⟨ih.1,by rw[ih.2.1];simp,?_⟩;intro c b;rcases bS.1 b with rfl|b
      .exact w
      .exact ih.2.2 c b
     | .error p,ih=>exact ih
  ·(have l:((An ms g).kind==1)=true:=by rw[h.head,GQ (by omega)];rfl);rw[Mf m l,KY f];simp
theorem SM(b:Nat)(mv:Value)(ms:List AW)(nx:Nat)(br:Int)(w:World)(h:BU w b mv ms nx br):
  Calls prog 134 #[.pointer (some ⟨b,0,none⟩)] w λe w'=>e=.returned (.bool ((An ms nx).kind==1))/\BU w' b mv ms nx (if(An ms nx).kind==1 then br else(An ms nx).place)/\Ac [b] w w':=by
 have gK:=h.lt;obtain⟨g,cap,rfl,b0,b1,_,hc⟩:=h.cells;obtain⟨c0,_,_⟩:=hc nx gK;clear hc;rw[A8 gK]at c0;have HH:=Ab h;have HM:Hid (ms[nx]'gK=An ms nx):=A8 gK;have hj0:(0:Int)<=(nx:Int):=by omega
 have hjl:(nx:Int)<(ms.length:Int):=by omega
 generalize An ms nx=m at c0 HM⊢;clear h;cases hk:(m.kind==1)with
 |true=>
  go_enter func134,ntmps134;go_wp2_with fail
  go_quiet (fail)
  go_wp2;go_ret;exact⟨rfl,(Aa HH).eb ((Ac.refl [] w).drewN _),(Ac.refl _ w).drewN _⟩
 |false=>
  go_enter func134,ntmps134;go_wp2_with fail
  have HCl:Hid (∀wz br',BU wz b (.slice (some ⟨g,0,none⟩) ms.length cap) ms nx br'->wz.cell? ⟨b,0,none⟩=some (.slice (some ⟨g,0,none⟩) ms.length cap)/\wz.cell? ⟨b,1,none⟩=some (.int .i64 nx)/\wz.cell? ⟨g,nx*3,none⟩=some (.int .i64 m.kind)):=by
   intro wz br' hz;obtain⟨g',cap',hmv',d0,d1,_,hc⟩:=hz.cells;obtain⟨e0,_,_⟩:=hc nx gK;simp only[bK,bR,cI]at hmv';obtain⟨⟨rfl,_⟩,_,rfl⟩:=hmv';rw[Aa HM]at e0;exact⟨d0,d1,e0⟩
  have HHere:=Ab (Hz b (.slice (some ⟨g,0,none⟩) ms.length cap) ms nx br w.drew ((Aa HH).eb (Ac.refl [] w).drew) m (Aa HM));have HBr:Hid (∀wz,BU wz b (.slice (some ⟨g,0,none⟩) ms.length cap) ms nx br->Calls prog 160 #[.pointer (some ⟨b,0,none⟩),.int .i64 m.place] wz λe w'=>e=.returned (.bool false)/\BU w' b (.slice (some ⟨g,0,none⟩) ms.length cap) ms nx m.place/\Ac [b] wz w'):=λwz hz=>EF b (.slice (some ⟨g,0,none⟩) ms.length cap) ms nx br m.place wz hz
  go_region_held3 (λw'=>w'.cell? ⟨b,0,none⟩=some (.slice (some ⟨g,0,none⟩) ms.length cap)/\w'.cell? ⟨b,1,none⟩=some (.int .i64 nx)/\w'.cell? ⟨g,nx*3,none⟩=some (.int .i64 m.kind)) (go_keep) ((first|(go_at_call 161;refine(Aa HHere).mono ?_;rintro e w2 ⟨rfl,k2⟩;have HK2:=Ab ((Ac.refl [] w).drew.trans k2);have HR2:=Ab ((Aa HH).eb (Aa HK2));obtain⟨y0,y1,y2⟩:=Aa HCl w2 br (Aa HR2);clear k2)|(go_at_call 160;refine(Aa HBr _ (Aa HR2)).mono ?_;rintro e w3 ⟨rfl,h3,k3⟩;have HR3:=Ab h3;have HK3:=Ab (((Aa HK2).mono (N:=[b]) (by simp)).trans k3);obtain⟨u0,u1,u2⟩:=Aa HCl w3 m.place (Aa HR3);clear h3 k3)))
  go_wp2;go_ret;exact⟨rfl,Aa HR3,Aa HK3⟩
def EH(ms:List AW):Except Int (List PL):=
 match D9 ms 0 [] with
 | .error p=> .error p
 | .ok (ls,nx)=>if(An ms nx).kind==1 then .ok ls else .error (An ms nx).place
def Yr(w:World)(e:Ending)(w':World):Except Int (List PL)->Prop
 | .ok ls=>∃ad cp db,e=.returned (.tuple #[.slice ad ls.length cp,.int .i64 0,.bool true])/\db.map Prod.fst=ls/\BI w' w.heap.size (.slice ad ls.length cp) db/\Ac [] w w'
 | .error p=>e=.returned (.tuple #[.slice none 0 0,.int .i64 p,.bool false])/\Ac [] w w'
theorem Rb(s:cR)(w:World)(P:s.size<=300):
  Calls prog 90 #[.string s] w λe j=>Yr w e j (EH (De s)):=by
 have N:=Ab (V7 P);have K:=Ie s;have E:=Ab (Vz s w P);generalize De s=ms at N K E⊢;have X:ms.length<=1000:=by omega
 go_enter func90,ntmps90;go_wp2_with fail
 refine(Aa E).mono ?_;rintro e a ⟨Z,rfl,x,z⟩;clear E;obtain⟨c,d,rfl⟩:=Aj x;have M:=AE.new a [.slice c ms.length d,.int .i64 0,.int .i64 0] 203;have I:=Ak (bQ x (.cells [.slice c ms.length d,.int .i64 0,.int .i64 0].toArray 203)) (b8 _);have J:(Value.slice c ms.length d).ownBlock≠some a.heap.size:=λe=>by have:=(x.lt _ e).2;omega
 have k:Hid (BU (a.alloc (.cells [.slice c ms.length d,.int .i64 0,.int .i64 0].toArray 203)) a.heap.size (.slice c ms.length d) ms 0 0):=⟨M,I,J,K.2,by omega⟩;have n:=Ab (z.alloc (.cells [.slice c ms.length d,.int .i64 0,.int .i64 0].toArray 203));have U:w.heap.size<=a.heap.size:=z.size;have O:(a.alloc (.cells [.slice c ms.length d,.int .i64 0,.int .i64 0].toArray 203)).heap.size=a.heap.size+1:=by simp
 clear M I J x z;go_wp2_with fail
 change Calls _ _ _ (a.alloc (.cells [.slice c ms.length d,.int .i64 0,.int .i64 0].toArray 203)) _;generalize a.alloc (.cells [.slice c ms.length d,.int .i64 0,.int .i64 0].toArray 203)=w2 at k n O⊢;obtain⟨b,R⟩:∃b,a.heap.size=b:=⟨_,rfl⟩;rw[R]at k U O⊢;clear R;refine(Qh b _ ms 0 0 w2 (Aa k) (Aa N)).mono ?_;intro e A v;cases ht:D9 ms 0 [] with
 |error p=>
  have f:Hid (EH ms=.error p):=by show _=_;unfold EH;rw[ht]
  rw[ht]at v;obtain⟨q,rfl,l,h⟩:=v;have D:=l.gA.cell 2;simp at D;have o:Hid (Ac [] w A):=(Aa n).trans' h (λi g=>Or.inr (by simp at g;omega));clear ht l h k n;go_wp2_with fail
  go_region_held3 (λj=>j.cell? ⟨b,2,none⟩=some (.int .i64 p)) (go_keep) (fail)
  rename_i C;clear C;go_wp2;go_ret3;rw[f.out];exact⟨rfl,(Aa o).drew⟩
 |ok r=>
  obtain⟨G,q⟩:=r;rw[ht]at v;obtain⟨L,S,Q,rfl,V,T,l,h⟩:=v;have f:Hid (EH ms=if(An ms q).kind==1 then .ok G else .error (An ms q).place):=by show _=_;unfold EH;rw[ht]
  have u:=Ab (SM b _ ms q 0 A l);have o:Hid (Ac [] w A):=(Aa n).trans' h (λi g=>Or.inr (by simp at g;omega));have B:=Ab T;have Y:=h.size;clear ht l h k n T;generalize An ms q=m at f u;go_wp2_with fail
  refine(Aa u).mono ?_;rintro e F ⟨rfl,t,y⟩;have H:Hid (Ac [] w F):=(Aa o).trans' y (λi g=>Or.inr (by simp at g;omega));have W:Hid (BI F w2.heap.size (.slice L G.length S) Q):=(Aa B).kept y (λi g=>by simp at g;omega);cases hk:(m.kind==1)with
  |true=>
   rw[hk]at f;clear t y u B o;go_wp2;go_ret3;rw[f.out];exact⟨L,S,Q,rfl,V,(Aa W).base (by omega),Aa H⟩
  |false=>
   rw[hk]at f t;have D:=t.gA.cell 2;simp at D;clear t y u B o;go_wp2_with fail
   go_region_held3 (λj=>j.cell? ⟨b,2,none⟩=some (.int .i64 m.place)) (go_keep) (fail)
   rename_i C;clear C;go_wp2;go_ret3;rw[f.out];exact⟨rfl,(Aa H).drew⟩
theorem Td(s:cR):match EH (De s)with
  | .ok i=>(Be s 0).2.2=false/\¬Af s (Be s 0).2.1<s.size/\i=(Be s 0).1.map Kj
  | .error p=>((Be s 0).2.2=true\/Af s (Be s 0).2.1<s.size)/\p=(AQ s (Be s 0).2.1 (Be s 0).2.2:Int):=by
 have g:At s (De s) 0 0:=by unfold At;rw[IH];rfl
 have h:=Rq (s:=s) (ms:=De s) (De s).length 0 0 [] (by omega) g (b8 _);generalize De s=ms at h g;obtain⟨L,a,f,j⟩:∃L a f,Be s 0=(L,a,f):=⟨_,_,_,rfl⟩;rw[j]at h⊢;unfold EH;cases hb:D9 ms 0 [] with
 |error p=>
  rw[hb]at h;obtain⟨e,d⟩:=h;subst e;exact⟨Or.inl rfl,by rw[d];rfl⟩
 |ok r=>
  obtain⟨i,n⟩:=r;rw[hb]at h;obtain⟨e,d,l,k⟩:=h;subst e;simp only;rw[l.head];by_cases b:Af s a<s.size
  .have c:((Bu s a).kind==1)=false:=by
    unfold Bu;rw[if_pos b];exact cJ.2 ((VY _).2.2 (Tb s _ b).1)
   rw[c,CX k];exact⟨Or.inr b,rfl⟩
  ·(have c:((Bu s a).kind==1)=true:=by rw[GQ b];rfl);rw[c];exact⟨trivial,b,by rw[d];simp⟩
