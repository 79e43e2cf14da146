import Derived.Test.YtoihbhenbmffcaaGreatDoorYBU
set_option linter.all false
set_option maxHeartbeats 0
open List renaming length->Z
open Go.Value renaming slice->U,int->X,string->O
open Go.IntKind renaming i64->J
namespace Go.Proofs.YtoihbhenbmffcaaGreatDoor
open Go.RowKit Go.Proofs.Tryz
def U7(h:De):List UInt8:=(Cq h.2.head).toList++32::((JB h.1).toList++[10])
def NE(l:List De):List UInt8:=l.flatMap U7
def Rl:∀(l:List De) (t:g0),(Ib t l).toList=t.toList++NE l
 |[],t=>by simp[Ib,NE]
 |h::l,t=>by
  rw[Ib,Rl l,CG,CG,CG,CG];have b:(⟨#[32]⟩:g0).toList=[32]:=by rw[fc]
  have a:(⟨#[10]⟩:g0).toList=[10]:=by rw[fc]
  rw[b,a];unfold NE U7;simp
def Uw{n:Nat}(a:n<12):(n<10/\(JB n).toList=[UInt8.ofNat (48+n)])\/(10<=n/\(JB n).toList=[49,UInt8.ofNat (38+n)]):=by
 unfold JB;by_cases h:n<10
 .rw[eI h];exact Or.inl ⟨h,by rw[fc]⟩
 .rw[eE h];exact Or.inr ⟨by omega,by rw[fc]⟩
def PB{c:UInt8}(h:Az c=true):c≠10:=by rintro rfl;exact absurd h (by decide)
def T3{c:UInt8}(h:An c=true):c≠10:=by rintro rfl;exact absurd h (by decide)
def WL:∀(b:List g0),(∀x∈b,Gn x)->∀c∈Fo b,c≠10
 |[],_,c,a=>by simp[Fo]at a
 |[x],h,c,a=>by
  rcases h x (by simp)with hw|hn
  .exact PB (hw.2.2 c a)
  .exact T3 (hn.2.2.1 c a)
 |x::y::l,h,c,a=>by
  rw[Fo,eG,ey]at a;rcases a with a|rfl|a
  .rcases h x (by simp)with hw|hn
   .exact PB (hw.2.2 c a)
   .exact T3 (hn.2.2.1 c a)
  .decide
  .exact WL (y::l) (λz d=>h z (by simp at d⊢;exact Or.inr d)) c a
def Zz{f:Af}(h:Ln f):∀c∈(Cq f).toList,c≠10:=by
 rw[I4 h.ne];intro c a;simp only[eG,ey,fP,or_false]at a;rcases a with a|rfl|a|rfl|rfl
 .exact PB (h.name.2.2 c a)
 .decide
 .exact WL _ h.args c a
 .decide
 .decide
def Gn.len{x:g0}(h:Gn x):Z x.toList<=4:=by
 rcases h with h|h
 .exact h.2.1
 .have:=h.2.1;omega
def O0{f:Af}(h:Ln f)(a:Z f.args<=2):Z (Cq f).toList<=300:=by
 rw[I4 h.ne];have b:=h.name.2.1;have c:Z (Fo f.args)<=9:=by
  match hf:f.args with
  |[]=>simp[Fo]
  |[x]=>have:=(h.args x (by rw[hf];simp)).len;simp only[Fo];omega
  |[x,y]=>
   have:=(h.args x (by rw[hf];simp)).len;have:=(h.args y (by rw[hf];simp)).len;simp only[Fo,eJ,eF];omega
  |x::y::z::l=>rw[hf]at a;simp at a
 simp only[eJ,eF,fb];omega
def Zw{f:Af}(h:Ln f)(d:Z f.args<=2):IT (Cq f)=true/\GC (Cq f)=f:=by
 have b:=TD h;have e:(Cq f).size<=300:=by rw[A7];exact O0 h d
 have c:KN (Cq f)=true:=by
  unfold KN;rw[b];simp only[eL,fb];rw[fO (by omega),fO (by omega),fO (by omega),fO (by omega)];rfl
 have a:GC (Cq f)=f:=by
  unfold GC;rw[eI c,b];unfold Av;simp only[fN];have:(AJ BM∘AG.mk 0)=id:=by funext x;rfl
  rw[this,List.map_id]
 refine⟨?_,a⟩;unfold IT;rw[c,a];simp
structure bu where
 f:B5
 n:Nat
def NT(s:bu):List Value:=[O s.f.f.name,s.f.av,X J s.n]
theorem Tryz.info110:(Tryz.prog.info? 110).map (λi=>(i.zero,i.size,i.bytes))=some (some (.agg #[O ⟨#[]⟩,U none 0 0,X J 0]),3,48):=by kernel_rfl
structure dG(s:g0)(f d I n:Nat)(F:g0)(rest:List UInt8):Prop where
 at_:I=f+1+d
 lt:I<s.size
 nl:∀j (hj:j<s.size),j<I->s[j].toNat≠10
 end_:s[I].toNat=10
 sp:∀(hj:f<s.size),s[f].toNat=32
 fact:s.extract 0 f=F
 rest:(s.extract (I+1) s.size).toList=rest
 dig:(d=1/\n<10/\∀(hj:f+1<s.size),s[f+1].toNat=48+n)\/(d=2/\10<=n/\n<12/\(∀(hj:f+1<s.size),s[f+1].toNat=49)/\∀(hj:f+2<s.size),s[f+2].toNat=38+n)
def cE{s:g0}{h:De}{b:List UInt8}(t:s.toList=U7 h++b)(z:Ln h.2.head)(v:h.1<12):dG s (Z (Cq h.2.head).toList) (Z (JB h.1).toList) (Z (Cq h.2.head).toList+1+Z (JB h.1).toList) h.1 (Cq h.2.head) b:=by
 have g:=Rt s;rw[t]at g;unfold U7 at g;obtain⟨A,p⟩:∃A,(Cq h.2.head).toList=A:=⟨_,rfl⟩;obtain⟨D,o⟩:∃D,(JB h.1).toList=D:=⟨_,rfl⟩;have q:=Zz z;have B:Fp s 0 (Cq h.2.head).toList:=by
  rw[fD]at g;exact g.left
 have m:=Gz B;rw[fw]at m;have G:s.size=Z A+1+Z D+1+Z b:=by
  rw[A7,t];unfold U7;rw[p,o];simp;omega
 rw[p]at g q m⊢;have n:=Uw v;rw[o]at g n⊢;have l:∀j (f:j<s.size) (r:j<Z ((A++32::(D++[10]))++b)),s[j]=((A++32::(D++[10]))++b)[j]:=λj f r=>by
  have:=g.2 j r (by omega);simpa using this
 have w:∀c∈D,c.toNat≠10:=by
  intro c k;rcases n with⟨d,a⟩|⟨d,a⟩
  .rw[a,ex]at k;rw[k,UInt8.toNat_ofNat'];omega
  .rw[a]at k;rcases ey.1 k with rfl|k
   .decide
   .rw[ex]at k;rw[k,UInt8.toNat_ofNat'];omega
 refine⟨rfl,by omega,λj f F=>?_,?_,λf=>?_,m,?_,?_⟩
 .rw[l j f (by simp;omega),fL (by simp;omega)];by_cases d:j<Z A
  .rw[fL d];exact λe=>q _ (eo d) (gn.1 (by rw[e];rfl))
  .rw[List.getElem_append_right (by omega)];by_cases a:j=Z A
   .subst a;simp
   .rw[List.getElem_cons,dif_neg (by omega),fL (by omega)];exact w _ (eo _)
 .rw[l _ (by omega) (by simp;omega),fL (by simp;omega),List.getElem_append_right (by omega),List.getElem_cons,dif_neg (by omega),List.getElem_append_right (by omega)];simp
 .rw[l _ f (by simp),fL (by simp),List.getElem_append_right (by omega)];simp
 .have E:Fp s (0+Z (A++32::(D++[10]))) b:=g.right;have u:s.extract (0+Z (A++32::(D++[10]))) (0+Z (A++32::(D++[10]))+Z b)=⟨b.toArray⟩:=by
   (have d:b=(⟨b.toArray⟩:g0).toList:=by rw[fc]);have a:=Gz (x:=⟨b.toArray⟩) (s:=s) (i:=0+Z (A++32::(D++[10]))) (by rw[<-d];exact E);rw[<-d]at a;exact a
  have C:0+Z (A++32::(D++[10]))=Z A+1+Z D+1:=by simp;omega
  have y:Z A+1+Z D+1+Z b=s.size:=by omega
  rw[C,y]at u;rw[u,fc]
 .rcases n with⟨d,a⟩|⟨d,a⟩
  .refine Or.inl ⟨by rw[a];rfl,d,λf=>?_⟩;subst a;rw[l _ f (by simp),fL (by simp),List.getElem_append_right (by omega)];simp;omega
  .refine Or.inr ⟨by rw[a];rfl,d,v,λf=>?_,λf=>?_⟩
   .subst a;rw[l _ f (by simp),fL (by simp),List.getElem_append_right (by omega)];simp
   .subst a;rw[l _ f (by simp),fL (by simp),List.getElem_append_right (by omega)];simp;omega
set_option maxRecDepth 100000
theorem YB(s0:g0)(l:List De)(w:World)(hs:s0.toList=NE l)(NS:s0.size<=9000000000000)(hl:∀h∈l,Ln h.2.head/\Z h.2.head.args<=2/\h.1<12)(ap:Z l<=7000):
  Calls prog 29 #[O s0] w λe T=>∃(L:Option Addr) (M:Nat) (c:List bu),e=.returned (.tuple #[U L (Z c) M,.bool true])/\c.map (λr=>(r.n,r.f.f))=l.map (λh=>(h.1,h.2.head))/\T.ownsRow 0 110 3 (U L (Z c) M) (Z c) (c.flatMap NT)/\(∀r∈c,Ew T r.f)/\Ac [] w T:=by
 obtain⟨i0,TS,Op,Wa,RV⟩:=fC Tryz.info110;obtain⟨N,hN⟩:∃N,w.heap.size=N:=⟨_,rfl⟩;have HN:=Ab hN;have HL:=Ab hl;have H1:Hid (s0.toList=NE (l.drop 0)):=hs;clear hl hs hN;go_enter func29,ntmps29;go_wp2_with fail
 go_loopg [0,4] (Z l) (λgk sv lv wr=>∃(k:Nat) (s:g0) (c:List bu) (L:Option Addr) (M:Nat),sv=O s/\lv=U L (Z c) M/\k<=Z l/\gk=Z l-k/\s.size<=9000000000000/\Hid (Z c=k)/\Hid (s.toList=NE (l.drop k))/\Hid (c.map (λr=>(r.n,r.f.f))=(l.take k).map (λh=>(h.1,h.2.head)))/\Hid (wr.ownsRow N 110 3 (U L (Z c) M) (Z c) (c.flatMap NT))/\Hid (∀r∈c,Ew wr r.f)/\Hid (Ac [] w wr))
 case atStart=>exact⟨0,s0,[],none,0,rfl,rfl,by omega,rfl,NS,rfl,H1,rfl,eU _ _ _ _,(λr A=>by simp at A),Ac.refl _ _⟩
 case round=>
  clear H1;obtain⟨k,s,c,L,M,rfl,rfl,hk,LS,YP,FB,HS,HM,HO,HE,HK⟩:=hrel;have HG:=Ab LS;clear LS;by_cases B0:k<Z l
  .have M3:l.drop k=l[k]::l.drop (k+1):=eQ B0;obtain⟨CL,BA,hn⟩:=HL _ (eo B0);have H5:s.toList=U7 l[k]++NE (l.drop (k+1)):=by
    rw[Aa HS,M3];unfold NE;rw[eN]
   have g:=cE H5 CL hn;have FF:Hid ((l.take (k+1)).map (λh=>(h.1,h.2.head))=(l.take k).map (λh=>(h.1,h.2.head))++[(l[k].1,l[k].2.head)]):=by
    show _=_;rw[ep B0,fi];rfl
   obtain⟨H,hH⟩:∃H,l[k]=H:=⟨_,rfl⟩;rw[hH]at g FF CL hn BA;obtain⟨f,hf⟩:∃f,Z (Cq H.2.head).toList=f:=⟨_,rfl⟩;obtain⟨d,hd⟩:∃d,Z (JB H.1).toList=d:=⟨_,rfl⟩;obtain⟨R,hR⟩:∃R,NE (l.drop (k+1))=R:=⟨_,rfl⟩;rw[hf,hd,hR]at g;obtain⟨I,hI⟩:∃I,f+1+d=I:=⟨_,rfl⟩;rw[hI]at g;have K3:Hid (∀wz,Calls prog 26 #[O (Cq H.2.head)] wz λe T=>∃p:B5,e=.returned (.tuple #[.agg (Bq p).toArray,.bool true])/\p.f=H.2.head/\Ew T p/\Ac [] wz T):=by
    intro wz;obtain⟨o1,o2⟩:=Zw CL BA;have X3:(Cq H.2.head).size<=s.size:=by
     have y:=g.lt;have S:=g.at_;rw[A7,hf];omega
    refine(Xc (Cq H.2.head) wz (by omega)).mono ?_;rintro e T ⟨p,rfl,y,S,_,h3⟩;rw[o1];exact⟨p,rfl,y.trans o2,S,h3⟩
   have HR:=Ab hR;have S1:=Ab g;have al:=g.lt;have HP:=g.at_;have NX:s[I].toNat=10:=g.end_;(have OH:f<s.size:=by omega);have KS:s[f].toNat=32:=g.sp OH;(have ab:d=1\/d=2:=by rcases g.dig with h|h<;>omega);have Jx:Hid (∀j (hj:j<s.size),j<I->s[j].toNat≠10):=g.nl;have Nd:Hid (∃(x o:Nat->Nat),x 0=0/\o 0=1/\x d=H.1/\∀j,j<d->∀p (hp:p<s.size),p+j+1=I->48<=s[p].toNat/\s[p].toNat<=57/\(o j=1\/o j=10)/\o (j+1)=10*o j/\x j+o j*(s[p].toNat-48)=x (j+1)/\x j<=9):=by
    rcases g.dig with⟨y,S,h3⟩|⟨y,S,h3,h4,h5⟩
    .refine⟨λj=>if j=0 then 0 else H.1,λj=>if j=0 then 1 else 10,rfl,rfl,by rw[y];rfl,λj hj p hp he=>?_⟩;(obtain rfl:j=0:=by omega);(obtain rfl:p=f+1:=by omega);have:=h3 hp;simp;omega
    .refine⟨λj=>if j=0 then 0 else if j=1 then H.1-10 else H.1,λj=>if j=0 then 1 else if j=1 then 10 else 100,rfl,rfl,by rw[y];rfl,λj hj p hp he=>?_⟩;(have Nq:j=0\/j=1:=by omega);rcases Nq with rfl|rfl
     ·(obtain rfl:p=f+2:=by omega);have:=h5 hp;simp;omega
     ·(obtain rfl:p=f+1:=by omega);have:=h4 hp;simp;omega
   have K8:Hid ((f+1<s.size)/\(((f:Int)+2<I->∀hj:f+1<s.size,s[f+1].toNat≠48))):=⟨by omega,λh hj=>by
    rcases g.dig with⟨y,S,h3⟩|⟨y,S,h3,h4,h5⟩
    .omega
    .rw[h4 hj];decide⟩
   have VL:Hid (s.extract 0 f=Cq H.2.head):=g.fact;have NV:Hid ((s.extract (I+1) s.size).toList=R):=g.rest;have Q:=Ab HP;clear M3 H5 hH CL hf hd hR g HS S1 hI BA HP;(have X2:(0:Int)<(s.size:Int):=by omega);(have ar:0<s.size:=by omega);go_wp2_with fail
   go_loopg [5] I (λWW i wq=>∃(j:Nat),i=X J j/\j<=I/\WW=I-j/\wq=wr)
   case atStart=>exact⟨0,rfl,by omega,rfl,rfl⟩
   case round=>
    obtain⟨j,rfl,hj,Mo,rfl⟩:=hrel;have K2:=Ab Mo;clear Mo;(have aT:(j:Int)<(s.size:Int):=by omega);(have X0:(0:Int)<=(j:Int):=by omega);by_cases HY:j<I
    .have W2:=Aa Jx j (by omega) HY;(have HU:(((s[j]'(by omega)).toNat:Int) !=10)=true:=by simp only[bne_iff_ne,ne_eq];omega);go_wp2
     go_roundg (I-(j+1))
     case measure=>have:=Aa K2;omega
     case rel=>exact⟨j+1,by go_num,by omega,rfl,rfl⟩
    ·(obtain rfl:j=I:=by omega);(have HU:((s[j].toNat:Int) !=10)=false:=by rw[NX];rfl);(have W1:((j:Int)==(s.size:Int))=false:=by simp only[ff,ne_eq];omega);clear K2 HY;obtain⟨x,o,JJ,LB,M0,Ix⟩:=Aa Nd;have FA:Hid (x 0=0/\o 0=1/\x d=H.1):=⟨JJ,LB,M0⟩;have LM:=Ab Ix;clear JJ LB M0 Ix Nd;(go_wp2_with fail);clear HU W1
     go_loopg [6,7,8] d (λRE kk nn tt wq=>∃(m p:Nat),m<=d/\p+m+1=j/\kk=X J p/\nn=X J (x m)/\tt=X J (o m)/\RE=d-m/\wq=wr)
     case atStart=>exact⟨0,j-1,by omega,by have:=Aa Q;omega,congrArg (X J) (by have:=Aa Q;omega),by rw[(Aa FA).1];rfl,by rw[(Aa FA).2.1];rfl,rfl,rfl⟩
     case round=>
      obtain⟨m,p,hm,HZ,rfl,rfl,rfl,H4,rfl⟩:=hrel;have MB:=Ab H4;have EY:=Ab HZ;clear H4;(have RB:p<s.size:=by omega);(have aa:(p:Int)<(s.size:Int):=by omega);(have a0:(0:Int)<=(p:Int):=by omega);clear HZ;by_cases H2:m<d
      .obtain⟨v1,v2,v3,v4,v5,v6⟩:=LM m H2 p RB EY;(have ao:0<p:=by have:=Aa EY;have:=Aa Q;omega);have AT:An s[p]=true:=by
        unfold An;simp only[eW,im];exact⟨v1,v2⟩
       obtain⟨FT,hX⟩:∃FT,x m=FT:=⟨_,rfl⟩;rw[hX]at v5 v6;rw[hX];have HV:Hid (FT+o m*(s[p].toNat-48)=x (m+1)/\o (m+1)=10*o m):=⟨v5,v4⟩;clear v4 v5 hX;rcases v3 with v3|v3<;>(
        rw[v3]at HV
        rw[v3]
        clear v3
        go_wp2_with (go_at_call 55;refine(Ck _ s[p] _ rfl).mono ?_;rintro e w2 ⟨rfl,rfl⟩;rw[AT])
        go_roundg (d-(m+1))
        case measure=>have:=Aa MB;omega
        case rel=>exact⟨m+1,p-1,by omega,by have:=Aa EY;omega,congrArg (X J) (by omega),congrArg (X J) (by have:=HV.1;omega),congrArg (X J) (by have:=HV.2;omega),rfl,rfl⟩)
      ·(obtain rfl:m=d:=by omega);(obtain rfl:p=f:=by have:=Aa EY;have:=Aa Q;omega);rw[(Aa FA).2.2];have AT:An s[p]=false:=by
        unfold An;rw[Bool.and_eq_false_iff];exact Or.inl (fO (λh=>by have S:48<=s[p].toNat:=h;omega))
       (have NB:((s[p].toNat:Int) !=32)=false:=by rw[KS];rfl);(have W3:¬(p:Int)<0:=by omega);(have BA:((p:Int)==(j:Int)-1)=false:=by simp only[ff,ne_eq];have:=Aa Q;omega);(have H8:(p:Int)+2<=(j:Int):=by have:=Aa Q;omega);(have TL:p+1<s.size:=by have:=Aa Q;omega);clear MB H2 LM;obtain⟨bz,HW⟩:∃bz,((s[p+1].toNat:Int)==48)=bz:=⟨_,rfl⟩;(have ag:(p:Int)+1<(s.size:Int):=by omega);have M2:bz=true->(j:Int)<=(p:Int)+2:=by
        intro hb;refine Int.not_lt.1 (λh=>?_);have:=K8.2 h TL;rw[hb,gF]at HW;omega
       clear K8 Jx
       rename ∀(a:Act) (w:World),Code.wp prog (Code.seq (Code.seq (Code.region 15 _ _) _) _) _ a w->_=>hA6
       have M6:=Ab hA6;clear hA6 AT;(have AT:An (32:UInt8)=false:=by decide);go_wp2_with fail
       go_at_call 55
       refine(Ck _ (32:UInt8) _ rfl).mono ?_;rintro e w2 ⟨rfl,rfl⟩;rw[AT];have a1:=Ab H8;clear H8;(go_wp2_with fail);refine M6 _ _ ?_;clear M6;refine jT (λW u=>?_);have TX:Hid (s.extract 0 p=Cq H.2.head):=VL;clear AT;cases bz<;>(
        try have TV:(j:Int)<=(p:Int)+2:=M2 rfl
        clear M2
        go_wp2
        refine u _ _ ?_
        clear u W NB BA KS HW
        try clear TV
        refine wp_seq_k (λW z=>?_)
        have u:=Ab z
        clear z
        go_wp2_with fail
        rw[Aa TX]
        refine(K3 _).mono ?_
        rintro _ F ⟨⟨⟨E,C⟩,qv⟩,rfl,KK,HD,k3⟩
        obtain⟨P,G,e⟩:=Ak HD
        simp only at e
        subst e
        simp only[Bq]
        have HQ:Hid ((⟨E,C⟩:Af)=H.2.head):=KK
        have H0:=Ab HD
        have LC:=Ab (HK.trans k3)
        have L0:=Ab (Ad HO k3 (by simp))
        have K4:Hid (∀r∈c,Ew F r.f):=λr A=>(HE r A).kept k3
        clear KK HD k3 HO HE HK K3
        go_wp2
        refine u _ _ ?_
        clear u W
        have BT:=Ab (AI.new F [O E,U P (Z C) G] 43)
        have A0:Hid (Ac [] F (F.alloc (.cells [O E,U P (Z C) G].toArray 43))):=(Ac.refl [] F).alloc _
        change Code.wp _ _ _ _ (F.alloc (.cells [O E,U P (Z C) G].toArray 43))
        generalize F.alloc (.cells [O E,U P (Z C) G].toArray 43)=w4 at BT A0⊢
        obtain⟨B,hB⟩:∃B,F.heap.size=B:=⟨_,rfl⟩
        rw[hB]at BT⊢
        clear hB
        have HC:=Ab (LC.trans A0)
        have CC:=Ab (Ad L0 A0 (by simp))
        have K9:Hid (∀r∈c,Ew w4 r.f):=λr A=>(K4 r A).kept A0
        have Nx:=Ab (H0.kept A0)
        clear LC L0 K4 H0 A0
        have b0:=BT.cell 0
        have b1:=BT.cell 1
        simp at b0 b1
        refine wp_seq_k (λW z=>?_)
        have u:=Ab z
        clear z
        go_wp2
        refine u _ _ ?_
        clear u W
        refine wp_seq_k (λW z=>?_)
        have u:=Ab z
        clear z
        go_wp2_with (at_builtin;change Hid (wpList _ _ _ _ _ _))
        show wpList _ _ _ _ _ _
        have QQ:Z c<=7000:=by have:=Aa FB;omega
        have an:N<=w4.heap.size:=by have:=HC.size;have:=Aa HN;omega
        refine eP _ rfl (.tmp 93) (.tmp 97) _ rfl N 110 i0 _ 3 48 (by kernel_rfl) TS Op Wa RV rfl (by omega) (U L (Z c) M) (Z c) (c.flatMap NT) rfl (eC CC _) ⟨w4.heap.size,0,none⟩ 1 1 [O E,U P (Z C) G,X J (H.1:Nat)] rfl rfl (eS (cs:=#[O E,U P (Z C) G,X J (H.1:Nat)]) (t:=110) (fr:=(0,0)) (fe w4 _)) (by simp[Value.oneCell']) (by omega) (by unfold maxLen;omega) (by omega) (by simp;omega) (w4.heap.size+1) (by simp) ?_
        intro g1 H6 w5 K5 FO NA NY
        have LL:Ac [] w w5:=(HC.alloc (.cells #[O E,U P (Z C) G,X J (H.1:Nat)] 110)).grown FO (λq hq=>Or.inr (by have y:=(CC.lt q hq).1;have:=Aa HN;omega))
        have FL:∀{b e sz n:Nat} {v:Value} {ys:List Value},w4.ownsRow b e sz v n ys->e≠110->w5.ownsRow b e sz v n ys:=fun{b e sz n v ys} A y=>fT (v:=v) (eC (v:=v) A _) FO (by
         cases hpo:v.ownBlock with
         |none=>exact Or.inl rfl
         |some q=>exact Or.inr (λe=>A5 A CC y q hpo e.symm))
        obtain⟨D,A2⟩:∃D:List bu,D=c++[⟨⟨⟨E,C⟩,U P (Z C) G⟩,H.1⟩]:=⟨_,rfl⟩
        have DT:Z c+1=Z D:=by rw[A2];simp
        have N2:Hid (w5.ownsRow N 110 3 (U (some ⟨g1,0,none⟩) (Z D) H6) (Z D) (D.flatMap NT)):=by
         rw[<-DT,A2,eY]
         exact K5
        have SJ:Hid (∀r∈D,Ew w5 r.f):=λr A=>by
         rw[A2]at A
         rcases eG.1 A with h|h
         .exact FL (v:=r.f.av) (K9 r h) (by decide)
         .simp only[ex]at h
          subst h
          exact FL Nx (by decide)
        have S0:=Ab LL
        rw[DT]
        have NM:Hid (D.map (λr=>(r.n,r.f.f))=(l.take (k+1)).map (λh=>(h.1,h.2.head))):=by
         show _=_
         rw[Aa FF,<-Aa HM,A2,fi,<-Aa HQ]
         rfl
        have SB:Hid (Z D=k+1):=by show _=_;rw[<-DT,Aa FB]
        clear FL K5 FO NA NY LL CC K9 Nx HC b0 b1 DT A2 QQ HM FF HQ FB
        have X1:(j:Int)+1<=(s.size:Int):=by omega
        have Nq:(0:Int)<=(j:Int)+1:=by omega
        go_wp2
        refine u _ _ ?_
        clear u W
        go_wp2
        go_roundg (Z l-(k+1))
        case measure=>have:=Aa HG;omega
        case rel=>exact⟨k+1,s.extract (j+1) s.size,D,some ⟨g1,0,none⟩,H6,rfl,rfl,by omega,rfl,by rw[gh];omega,SB,NV.trans HR.symm,NM,N2,SJ,S0⟩)
  ·(obtain rfl:k=Z l:=by omega);(have hz:s.size=0:=by rw[A7,Aa HS,List.drop_length];rfl);(have UO:Hid (c.map (λr=>(r.n,r.f.f))=l.map (λh=>(h.1,h.2.head))):=by have:=Aa HM;rwa [gP]at this);clear HS HM B0 hk HG;go_wp2;go_ret2;exact⟨L,M,c,rfl,UO,Am HO (eV _),HE,HK⟩
