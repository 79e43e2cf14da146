import Derived.Test.YtoihbhenbmffcaaGreatDoorMC
import Derived.Deep.WholeRow
import Derived.Laws.RangeAny
set_option linter.all false
set_option maxHeartbeats 0
open List renaming length->Z,toArray->Za,replicate->kB,flatMap->qS,take->qT,foldl->qU
open Option renaming none->Y,some->V,toList->qV
open Go.Value renaming slice->U,int->X,string->O,agg->ku,ownBlock->kE,pointer->jj,bool->kx,ownBlock->qW
open Go.IntKind renaming i64->J
open Go.Obj renaming cells->Y6
open Go renaming World->jH,Value->jR,Calls->rE
open Go.RowKit renaming Hid->jV
open Go.World renaming cell?->jY,ownsRow->kt
open Prod renaming fst->kD
open Go.Proofs.Tryz renaming prog->rF
open Bool renaming false->K,true->T6
open Go.Ending renaming returned->j1
open Or renaming inl->j2,inr->j3
open ByteArray renaming empty->ky
open Go.Op renaming bytesLess->kG
namespace Go.Proofs.YtoihbhenbmffcaaGreatDoor
open Go.RowKit Go.Proofs.Tryz
section
def aX:∀(a:kN jR) (k) (b),k+Z a<=b.size->(a.zipIdx k).foldl (fun(c:Array jR) (p:jR×Nat)=>c.setIfInBounds (0+p.2) p.1) b=Za (b.toList.take k++a++b.toList.drop (k+Z a))
 |[],k,b,h=>ln
 |v::a,k,b,h=>by
  simp at h;rw[List.zipIdx_cons,mK,aX a (k+1) _ li];simp only[m7,Array.toList_setIfInBounds,mn]
  rw[List.drop_set,mo lc,lW li,List.getElem_set_self,List.take_set,List.set_eq_of_length_le li];exact li
def fj(a:kN jR)(b)(h:b.size=Z a):a.toArray.zipIdx.foldl (fun(c:Array jR) (p:jR×Nat)=>c.setIfInBounds (0+p.2) p.1) b=Za a:=by
 have:=aX a 0 b lc;exact qr
variable {P:Program}
def MW(w t e)(a:kN jR)(z)(k:P.underlying t=V (.slice e))(f:(ku (Za a)).cells=Za a)(l:(P.info? e).map (λi=>(i.zero,i.size))=V (V z,Z a))(n:z.cells.size=Z a)(d:0<Z a)(o:Z a<=2^24):
  (Instr.buildSlice t 1 #[(0,ku (Za a))]).run P w=.ok (U (V ⟨w.heap.size,0,Y⟩) 1 1) (w.alloc (Y6 (Za a) e)):=by
 obtain⟨j,b⟩:=zero_of_info l;have m:(sizeOf e).run P w=.ok (Z a) w:=by
  cases hq:P.info? e with
  |none=>simp[hq]at b
  |some i=>simp[hq]at b;simp[sizeOf,typeInfo,hq,b]
 have g:Instr.fill (λi=>V (i*Z a,Z a)) (Array.map (λx=>z.cells[x%z.cells.size]!) (Array.range (Z a))) [(0,ku (Za a))]=V (Za a):=by
  have c:=fj a (Array.map (λx=>z.cells[x%z.cells.size]!) (Array.range (Z a))) ln;simp only[Instr.fill,f,Nat.zero_mul,nu,Array.size_map,Array.size_range,m7,ne_eq,not_true_eq_false,pX,oO];exact qr
 simp[Instr.buildSlice,qh k,m,j,g,pL,Result.andThen,newRow,newObj];rw[mm lc,mm (by intro h;rw[h]at d;simp at d)];rfl
def Do{d}{f:kN Oper}{c}{a}{w}{Q}(j:c.guard=Y)(t x)(k:c.op=.buildSlice t 1 #[(0,x)])(b:kN jR)(r:a.eval x=ku (Za b))(e z)(o:P.underlying t=V (.slice e))(g:(ku (Za b)).cells=Za b)(q:(P.info? e).map (λi=>(i.zero,i.size))=V (V z,Z b))(s:z.cells.size=Z b)(p:0<Z b)(n:Z b<=2^24)(h:wpList P d Q f (a.put c.dst (U (V ⟨w.heap.size,0,Y⟩) 1 1)) (w.alloc (Y6 (Za b) e))):wpList P d Q (c::f) a w:=
 wpList_plain j λ_ l=>by
  unfold Oper.wp execOp;have m:=MW (P:=P) w t e b z o g q s p n;simp[k,r,m];exact l _ _ h
theorem Tryz.zo:(Tryz.prog.info? 90).map (λi=>(i.zero,i.size))=V (V (ku (Za (kB 26 (O ⟨#[]⟩)))),26):=lo
end
section
variable{n:Nat}{M:kN Nat}{w u:jH}{z:jR}{y:kN jR}
abbrev jS:Array jR:=#[O ⟨#[]⟩,O ⟨#[]⟩,O ⟨#[]⟩,O ⟨#[]⟩,O ⟨#[]⟩,O ⟨#[]⟩,O ⟨#[]⟩,O ⟨#[]⟩,O ⟨#[]⟩,O ⟨#[]⟩,O ⟨#[]⟩,O ⟨#[]⟩,O ⟨#[]⟩,O ⟨#[]⟩,O ⟨#[]⟩,O ⟨#[]⟩,O ⟨#[]⟩,O ⟨#[]⟩,O ⟨#[]⟩,O ⟨#[]⟩,O ⟨#[]⟩,O ⟨#[]⟩,O ⟨#[]⟩,O ⟨#[]⟩,O ⟨#[]⟩,O ⟨#[]⟩]
structure BR(w:jH)(base:Nat)(v:jR)(L:kN (kN bN)):Prop where
 row:w.ownsRow base 90 26 v (Z L) (qS Al L)
 j:∀e∈L,Z e=26
def BR.C{w w':jH}{v:jR}{L:kN (kN bN)}(h:BR w n v L)(k:Ac M w w')(a:∀i,v.ownBlock=V i->i∉M:=by simp):BR w' n v L:=⟨Ag h.row k a,h.j⟩
def BR.nil(w a):BR w a (U Y 0 0) []:=⟨mw _ _ _ _,ln⟩
def Jb{L}(h:BR w n z L)(k b):∃g a,z=U (V ⟨g,0,Y⟩) (Z L) a/\Z L<=a/\w.rangeAt g (k*26) (Al L[k]):=by
 obtain⟨g,a,c,j,l⟩:=Az h.row (λe c=>by rw[CD];exact h.j e c) k b;refine⟨g,a,c,j,λi z d=>?_⟩;have f:i<26:=by
  have:=(oI.1 d).1;rw[CD,h.j _ (lV b)]at this;exact this
 rw[l k b i f];exact d
def MM{d:kN Bc}(h:w.ownsRow 0 95 9 z (Z d) (qS A4 d))(D:∀p∈d,Cc w 0 p)(k)(a:k<Z d):
  ∃g n x f i,z=U (V ⟨g,0,Y⟩) (Z d) n/\d[k]=(x,U f (Z x.A.qH) i)/\
   jY w ⟨g,k*9,Y⟩=V (X .u8 x.b.toNat)/\jY w ⟨g,k*9+1,Y⟩=V (O x.A.a)/\jY w ⟨g,k*9+2,Y⟩=V (U f (Z x.A.qH) i)/\jY w ⟨g,k*9+3,Y⟩=V (X J x.A.e)/\
   jY w ⟨g,k*9+4,Y⟩=V (X .u8 x.L.v.toNat)/\jY w ⟨g,k*9+5,Y⟩=V (O x.L.s)/\jY w ⟨g,k*9+6,Y⟩=V (X .u8 x.R.v.toNat)/\jY w ⟨g,k*9+7,Y⟩=V (O x.R.s)/\jY w ⟨g,k*9+8,Y⟩=V (X J x.e):=by
 obtain⟨g,n,E,_,b⟩:=Az h (λc _=>B4 c) k a;have B:=D _ (lV a);have r:=b k a 0 lc;have m:=b k a 1 lc;have j:=b k a 2 lc;have l:=b k a 3 lc;have y:=b k a 4 lc;have t:=b k a 5 lc;have q:=b k a 6 lc;have o:=b k a 7 lc;have u:=b k a 8 lc;obtain⟨⟨x,F⟩,C⟩:∃p,d[k]=p:=⟨_,rfl⟩;rw[C]at r m j l y t q o u B;obtain⟨f,i,e⟩:=Aj B;simp at e;subst e;exact⟨g,n,x,f,i,E,C,r,m,j,l,y,t,q,o,u⟩
def OU(S:kN Ae)(A):∀(L:kN (kN bN)),Z (L.flatMap λe=>S.filterMap (It e A))<=Z L*Z S
 |[]=>ln
 |e::L=>by
  have a:=OU S A L;have b:=List.length_filterMap_le (It e A) S;simp only[mB,mp,mn,oD,Nat.one_mul];omega
def J4:∀a b e,Z (Dv e a b).1=Z e
 |[],_,e=>by simp[Dv]
 |_::_,[],e=>by simp[Dv]
 |t::a,x::b,e=>by
  unfold Dv;split
  .rw[J4 a b];simp
  .split
   .exact J4 a b e
   .rfl
def F8(e A f):Z (Ca e A f).1=Z e:=by
 unfold Ca;split
 .exact J4 _ _ _
 .rfl
def LF(w:jH)(a:Z y=26):(w.alloc (Y6 jS 90)).there w.heap.size 0 y.toArray.size:=Il (kS w (kB 26 (O ⟨#[]⟩)) 90) a
def N1(k:Ac [] (u.alloc (Y6 jS 90)).drew w)(a:Z y=26):w.there u.heap.size 0 y.toArray.size:=Il ((kS u (kB 26 (O ⟨#[]⟩)) 90).drew.C k) a
theorem Tryz.yA:(Tryz.prog.info? 90).map (λi=>(i.zero,i.size,i.bytes))=V (V (ku (Za (kB 26 (O ⟨#[]⟩)))),26,416):=lo
set_option maxRecDepth 100000
theorem Tn(X1 U1)(d:kN Bc)(LL K9)(c:kN BE)(w)(hb:w.ownsRow 0 95 9 (U X1 (Z d) U1) (Z d) (qS A4 d))(hl:∀p∈d,Cc w 0 p)(hs:CS w (U LL (Z c) K9) c)(c6:Z d<=3)(W1:Z c<=6912)(hg:∀p∈d,(p.1.b==97)=true->(∀t∈p.1.A.qH,BJ t)/\Z p.1.A.qH<=1000)(aa:∀e∈qU (Ce (c.map BE.f)) [Bm] (d.map kD),∀p∈d,(p.1.b==97)=false->MO e p.1):rE rF 47 #[U X1 (Z d) U1,U LL (Z c) K9] w λr w'=>∃ad cp,r=.returned (U ad (Z (BN (d.map kD) (c.map BE.f))) cp)/\BR w' w.heap.size (U ad (Z (BN (d.map kD) (c.map BE.f))) cp) (BN (d.map kD) (c.map BE.f))/\Ac [] w w':=by
 obtain⟨i0,ar,WW,a1,HL⟩:=mW Tryz.yA;obtain⟨H7,TT⟩:=kQ (BN (d.map kD) (c.map BE.f));rw[TT];have WS:jV ((qU (Ce (c.map BE.f)) [Bm] (d.map kD)).filter (λe=>(d.map kD).all λx=>x.b==97||Cm (Av e) (AI e) (c.map BE.f) x)=H7):=TT;have HB:=Ab hb;have HT:=Ab hl;have HS:=Ab hs;have av:=Ab hg;have ao:=Ab aa;obtain⟨N,hN⟩:=kQ w.heap.size;rw[hN];have HN:=Ab hN;clear TT hb hl hs hg aa;go_enter func47,ntmps47;apply wp_seq_k;intro KK JA;have HV:=Ab JA;clear JA;go_wp2;refine HV _ _ ?_;clear HV KK;apply wp_seq_k;intro KK JA;have HV:=Ab JA;clear JA;go_wp2;refine HV _ _ ?_;clear HV KK;have Nq:jV (BR (w.alloc (Y6 jS 90)) N (U (V ⟨N,0,Y⟩) [Bm].length 1) [Bm]):=by
  have h:=pQ (e:=90) (size:=26) (base:=N) w (Za (kB 26 (O ⟨#[]⟩))) 1 (by rw[Aa HN];exact mt _) lw ln;rw[Aa HN]at h;exact⟨h,by simp[Bm]⟩
 have SP:=Ab ((kR [] w).alloc (Y6 jS 90));generalize w.alloc (Y6 jS 90)=w1 at Nq SP|-;generalize ku jS=U17;go_wp2_with fail
 go_loopg [5,6] (Z d) (λgk l i wr=>∃(k:Nat) (L:kN (kN bN)) (FA:rB) (G:Nat),l=U FA (Z L) G/\i=X J k/\k<=Z d/\gk=Z d-k/\jV (qU (Ce (c.map BE.f)) [Bm] ((qT k d).map kD)=L)/\jV (Z L<=6912^k)/\jV (BR wr N (U FA (Z L) G) L)/\jV (Ac [] w wr))
 case atStart=>exact⟨0,[Bm],V ⟨N,0,Y⟩,1,rfl,rfl,lc,rfl,rfl,(by show _<=_;simp),Nq,SP⟩
 case round=>
  clear Nq SP;obtain⟨k,L,FA,G,rfl,rfl,hk,a2,HF,JJ,j,g⟩:=hrel;have HG:=Ab a2;clear a2;by_cases KS:k<Z d
  .obtain⟨y,br,x,AT,A1,IS,B0,d0,d1,d2,d3,d4,d5,d6,d7,d8⟩:=MM (Ad HB g) (λp hp=>(HT p hp).C g) k KS;obtain⟨rfl,_,rfl⟩:=qX IS;have Df:jV (qU (Ce (c.map BE.f)) [Bm] ((qT (k+1) d).map kD)=if x.b==97 then L.flatMap (λe=>(c.map BE.f).filterMap (It e x.A))else L):=by
    show _=_;rw[lW KS,mO,m6,Aa HF,B0];rfl
   (have CL:(x,U AT (Z x.A.qH) A1)∈d:=by rw[<-B0];exact lV KS);have cB:=Ab CL;have b3:=Ab B0;have b9:=Ab (HT _ CL);have P0:=Ab (av _ CL);clear B0 HF CL d4 d5 d6 d7 d8;have EX:((x.b.toNat:Int)==97)=(x.b==97):=Cu _ 97;obtain⟨c8,cL⟩:=rI (lc:k<Z d);cases h97:(x.b==97)with
   |false=>
    rw[h97]at EX Df;(have a5:((x.b.toNat:Int) !=97)=true:=by simp[bne,EX]);have RI:jV (Z L<=6912^(k+1)):=by
     have h:=Aa JJ;show _<=_;rw[Nat.pow_succ];omega
    have LS:jV (qU (Ce (c.map BE.f)) [Bm] ((qT (k+1) d).map kD)=L):=Df;clear Df;go_wp2
    go_roundg (Z d-(k+1))
    case measure=>exact qu
    case rel=>exact⟨k+1,L,FA,G,rfl,ly,lc,rfl,LS,RI,j,g⟩
   |true=>
    rw[h97]at EX Df P0;(have a5:((x.b.toNat:Int) !=97)=false:=by simp[bne,EX]);have bx:Z L<=47775744:=by
     have h:=Aa JJ;have h2:6912^k<=6912^2:=Nat.pow_le_pow_right lc lc;omega
    have X2:=Ab (P0 rfl);clear P0;go_wp2_with fail
    go_loopg [7,8] (Z L) (λgk nx i wr=>∃(m:Nat) (H:kN (kN bN)) (BT:rB) (BA:Nat),nx=U BT (Z H) BA/\i=X J m/\m<=Z L/\gk=Z L-m/\jV ((qT m L).flatMap (λe=>(c.map BE.f).filterMap (It e x.A))=H)/\jV (BR wr N (U BT (Z H) BA) H)/\jV (BR wr N (U FA (Z L) G) L)/\jV (Cd (U BT (Z H) BA) (U FA (Z L) G))/\jV (Ac [] w wr))
    case atStart=>exact⟨0,[],Y,0,rfl,rfl,lc,rfl,rfl,BR.nil _ _,j,(λq hq=>by cases hq),g⟩
    case round=>
     clear j g d0 d1 d2 d3;obtain⟨m,H,BT,BA,rfl,rfl,hm,H4,H6,BS,j,M,g⟩:=hrel;have K2:=Ab H4;clear H4;have K4:jV (Z H<=m*Z c):=by
      show _<=_;rw[<-Aa H6];have h:=OU (c.map BE.f) x.A (qT m L);rw[mh,mT,oP hm]at h;exact h
     by_cases A2:m<Z L
     .obtain⟨C,cy,H8,cv,r0⟩:=Jb j m A2;obtain⟨rfl,_,rfl⟩:=qX H8;obtain⟨e,he⟩:=kQ (L[m]);(have EY:Z e=26:=by rw[<-he];exact j.j _ (lV A2));have H1:jV ((qT (m+1) L).flatMap (λe=>(c.map BE.f).filterMap (It e x.A))=H++(c.map BE.f).filterMap (It e x.A)):=by
       show _=_;rw[lW A2,mD,Aa H6,he];simp
      rw[he]at r0;obtain⟨a7,b1⟩:=rI (lc:m<Z L);have c2:Z H+Z c<=330225942528:=by
       have h:=Aa K4;have h2:(m+1)*Z c<=47775744*6912:=Nat.mul_le_mul lc W1;rw[oD,Nat.one_mul]at h2;omega
      clear K4 r0;have KA:jV (∀b,BR b N (U (V ⟨C,0,Y⟩) (Z L) G) L->b.rangeAt C (m*26) (Al e)):=by
       intro b hz;obtain⟨g',af,AB,_,r'⟩:=Jb hz m A2;simp only[lU,lZ,mR]at AB;obtain⟨⟨rfl,_,_⟩,_,_⟩:=AB;rw[he]at r';exact r'
      clear he;go_wp2_with fail
      go_loopg [7,9] (Z c) (λgk nx i wr=>∃(q:Nat) (F:kN (kN bN)) (BT:rB) (BA:Nat),nx=U BT (Z F) BA/\i=X J q/\q<=Z c/\gk=Z c-q/\Z F<=Z H+q/\jV (H++((qT q c).map BE.f).filterMap (It e x.A)=F)/\jV (BR wr N (U BT (Z F) BA) F)/\jV (BR wr N (U (V ⟨C,0,Y⟩) (Z L) G) L)/\jV (Cd (U BT (Z F) BA) (U (V ⟨C,0,Y⟩) (Z L) G))/\jV (Ac [] w wr))
      case atStart=>exact⟨0,H,BT,BA,rfl,rfl,lc,rfl,lc,se,BS,j,M,g⟩
      case round=>
       clear BS j M g H6;obtain⟨q,F,SB,NE,rfl,rfl,hq,HW,c9,T0,BS,j,M,g⟩:=hrel;have HQ:=Ab HW;clear HW;by_cases DT:q<Z c
       .obtain⟨gs,c1,fn,Q,K8,K6,al,LC,s0,s1⟩:=Dd (HS.C g) q DT;obtain⟨rfl,_,rfl⟩:=qX al;obtain⟨bb,b6⟩:=rI (lc:q<Z c);have K5:=HS.j _ (lV DT);rw[LC]at K5;have H5:jV (∀b,Ac [] wr b->rE rF 87 #[ku (Za (Al e)),ku #[O x.A.a,U AT (Z x.A.qH) A1,X J x.A.e],ku #[O fn,U K8 (Z Q) K6]] b λr w'=>r=.returned (.tuple #[ku (Za (Al (Ca e x.A ⟨fn,Q⟩).1)),.bool (Ca e x.A ⟨fn,Q⟩).2])/\Ac [] b w'):=λb I=>
         NH e x.A AT A1 ⟨⟨fn,Q⟩,U K8 (Z Q) K6⟩ b EY (b9.C (g.H I)) (K5.1.C (g.H I)) X2.2 (by have:=K5.2.len;simp at this|-;omega) X2.1
        have T:jV (H++((qT (q+1) c).map BE.f).filterMap (It e x.A)=if(Ca e x.A ⟨fn,Q⟩).2 then F++[(Ca e x.A ⟨fn,Q⟩).1] else F):=by
         show _=_;rw[lW DT,mO,List.filterMap_append,<-mY,Aa T0,LC];simp only[mA,om,pW,List.filterMap_nil,It];cases(Ca e x.A ⟨fn,Q⟩).2<;>simp
        (have Pl:jV (Z (Ca e x.A ⟨fn,Q⟩).1=26):=by show _=_;rw[F8,EY]);have EM:jV (∀b,Ac [] wr b->b.rangeAt C (m*26) (Al e)/\jY b ⟨y,k*9+1,Y⟩=V (O x.A.a)/\jY b ⟨y,k*9+2,Y⟩=V (U AT (Z x.A.qH) A1)/\jY b ⟨y,k*9+3,Y⟩=V (X J x.A.e)/\jY b ⟨gs,q*2,Y⟩=V (O fn)/\jY b ⟨gs,q*2+1,Y⟩=V (U K8 (Z Q) K6)):=by
         intro b I;have HP:=g.H I;obtain⟨ce,a8,x',bz,ca,H3,HH,VS,OH,PT,NN,_⟩:=MM (Ad HB HP) (λp hp=>(HT p hp).C HP) k KS;simp only[lU,lZ,mR]at H3;obtain⟨⟨rfl,_,_⟩,_,_⟩:=H3;rw[Aa b3]at HH;simp only[mU,lU]at HH;obtain⟨rfl,rfl,_,rfl⟩:=HH;obtain⟨g',c0,n',c5,df,af,AB,ba,f0,f1⟩:=Dd (HS.C HP) q DT;have e2:=ba.symm.H LC;simp only[lU,lZ,mR,BE.mk.injEq,Ae.mk.injEq]at AB e2;obtain⟨⟨rfl,_,_⟩,_,_⟩:=AB;obtain⟨⟨rfl,rfl⟩,rfl,_,rfl⟩:=e2;exact⟨KA b (j.C I),OH,PT,NN,f0,f1⟩
        clear LC K5;obtain⟨E,HJ⟩:=kQ (Al (Ca e x.A ⟨fn,Q⟩).1);obtain⟨RB,S0⟩:=kQ (Ca e x.A ⟨fn,Q⟩).2;obtain⟨RE,S1⟩:=kQ (Ca e x.A ⟨fn,Q⟩).1;rw[S0,S1]at T;rw[HJ,S0]at H5;rw[S1]at Pl HJ;have LD:=Ab HJ;(have FT:Z E=26:=by rw[<-HJ,CD];exact Pl);(have UO:∀v∈E,v.oneCell'=true:=by rw[<-HJ];exact Gs RE);clear HJ S0 S1;obtain⟨u,P⟩:=kQ (Al e);rw[P]at H5 EM;(have HA:Z u=26:=by rw[<-P,CD,EY]);clear P;have hu:=underlying90;(have hi:(rF.info? 90).map (·.size)=V (Z u):=by rw[HA];exact Tryz.zE);(have a6:(rF.info? 90).map (·.size)=V (Z E):=by rw[FT];exact Tryz.zE);have ds:(k:Int)<(Z d:Int):=lc;obtain⟨nm,HX⟩:=kQ x.A.a;obtain⟨ja,H9⟩:=kQ x.A.e;obtain⟨na,HY⟩:=kQ (Z x.A.qH);rw[HX,H9,HY]at H5 EM;clear HX H9 HY;go_wp2_with fail
        go_region_held3 (λb=>Ac [] wr b/\b.rangeAt C (m*26) u/\jY b ⟨y,k*9+1,Y⟩=V (O nm)/\jY b ⟨y,k*9+2,Y⟩=V (U AT na A1)/\jY b ⟨y,k*9+3,Y⟩=V (X J ja)/\jY b ⟨gs,q*2,Y⟩=V (O fn)/\jY b ⟨gs,q*2+1,Y⟩=V (U K8 (Z Q) K6)) ((go_split_ands;refine(fun(I:Ac [] wr _)=>And.intro I (EM _ I)) ?_;repeat (first|assumption|exact kR [] _|refine Ac.drew ?_|refine Ac.alloc ?_ _|(refine Ac.zG ?_ (Or.inr (by first|omega|(simp;omega))) _ _)))) ((go_at_call 87;refine(H5 _ ml).G ?_;rintro e w3 ⟨rfl,k3⟩;have Go:Ac [] wr w3:=sh;have Wa:=LF w3 FT;(try have cf:=N1 k3 FT);have Mo:=Go.size;have Ha:=Ab k3;clear k3))
        all_goals
         rename_i K7;have S:=Ab K7.1;clear K7 H5 EM
         first
          |(
            have E0:jV (AF (w3.setCells wr.heap.size 0 E) wr.heap.size E 90):=AF.zM ((kS wr (kB 26 (O ⟨#[]⟩)) 90).drew.C Ha) E (by rw[FT];rfl)
            obtain⟨B,hB⟩:=kQ wr.heap.size
            rw[hB]at E0 S|-
            have bd:wr.heap.size<=B:=lc
            clear Wa cf Mo Ha hB
            generalize w3.setCells B 0 E=W at E0 S|-)
          |(
            have E0:jV (AF ((w3.alloc (Y6 jS 90)).setCells w3.heap.size 0 E) w3.heap.size E 90):=AF.zM (kS w3 (kB 26 (O ⟨#[]⟩)) 90) E (by rw[FT];rfl)
            obtain⟨B,hB⟩:=kQ w3.heap.size
            rw[hB]at E0 S Mo|-
            have bd:wr.heap.size<=B:=lc
            clear Wa Mo Ha hB
            generalize(w3.alloc (Y6 jS 90)).setCells B 0 E=W at E0 S|-)
         clear Go;have dc:=S.size;cases RB with
         |false=>
          have FO:jV (H++((qT (q+1) c).map BE.f).filterMap (It e x.A)=F):=T;have b7:=Ab (BS.C S);have TV:=Ab (j.C S);have RO:=Ab (g.H S);clear T BS j g E0 S;go_wp2
          go_roundg (Z c-(q+1))
          case measure=>exact qu
          case rel=>exact⟨q+1,F,SB,NE,rfl,ly,lc,rfl,lc,FO,b7,TV,M,RO⟩
         |true=>
          have FO:jV (H++((qT (q+1) c).map BE.f).filterMap (It e x.A)=F++[RE]):=T;have M3:=(BS.C S).row;have MB:0<Z E:=lc;(have bs:N<=wr.heap.size:=by have:=g.size;have:=Aa HN;omega);(have NA:(ku (Za E)).cells=Za E:=by rw[<-Aa LD];exact Bp RE);(have HZ:jV ((rF.info? 90).map (λi=>(i.zero,i.size))=V (V (ku (Za (kB 26 (O ⟨#[]⟩)))),Z E)):=by rw[FT];exact Tryz.zo);clear T;go_wp2_with (first|((with_reducible refine qY 90 ?_);refine oe rfl 90 _ rfl B 0 lx E _ E0.range underlying90 rfl a6 ?_)|((with_reducible refine q7 87 ?_);refine Do rfl 87 _ rfl E lx 90 _ underlying87 NA HZ (by rw[FT];rfl) MB lc ?_)|(at_builtin;change jV (wpList _ _ _ _ _ _)))
          show wpList _ _ _ _ _ _;refine mE _ rfl (.tmp 61) (.tmp 63) _ rfl N 90 i0 _ 26 416 underlying87 ar WW a1 HL rfl lc (U SB (Z F) NE) (Z F) (qS Al F) rfl (mg M3 _) ⟨W.heap.size,0,Y⟩ 1 1 E rfl lc (mz (mG W _)) UO lc lw lc li (W.heap.size+1) ln ?_;intro g1 FF w9 IA FL HU Nd;have bp:jV (BR w9 N (U (V ⟨g1,0,Y⟩) (Z (F++[RE])) FF) (F++[RE])):=by
           refine⟨?_,λe' AB=>?_⟩
           .rw[mp,mD];simp only[mB,np,mQ,Aa LD,mn,mI,m7];exact IA
           .rcases mi.1 AB with h|h
            .exact BS.j e' h
            .simp only[lX]at h;rw[h];exact Pl
          have RT:jV (BR w9 N (U (V ⟨C,0,Y⟩) (Z L) G) L):=
           ⟨nF (v:=U (V ⟨C,0,Y⟩) (Z L) G) ((j.C S).row.alloc _) FL (Or.inr (λh=>M C h.symm rfl)),j.j⟩
          have M6:jV (Cd (U (V ⟨g1,0,Y⟩) (Z (F++[RE])) FF) (U (V ⟨C,0,Y⟩) (Z L) G)):=by
           intro z hz HL;simp only[kE,lZ]at hz HL;rcases HU with h|h
           .exact M g1 h (by simp only[kE,lZ];omega)
           .have:=(j.row.lt C rfl).2;omega
          have Ha:jV (Ac [] w w9):=(((g.H S).alloc _).grown FL (λz hz=>Or.inr (by have:=(M3.lt z hz).1;have:=Aa HN;omega)));clear IA FL HU Nd M3 BS j M g S E0;go_wp2_with fail
          go_roundg (Z c-(q+1))
          case measure=>exact qu
          case rel=>exact⟨q+1,F++[RE],V ⟨g1,0,Y⟩,FF,ln,ly,lc,rfl,li,FO,bp,RT,M6,Ha⟩
       .have HR:jV ((qT (m+1) L).flatMap (λe=>(c.map BE.f).filterMap (It e x.A))=F):=by
         show _=_;rw[Aa H1,<-Aa T0,lY lc]
        clear T0 H1;go_wp2
        go_roundg (Z L-(m+1))
        case measure=>exact qu
        case rel=>exact⟨m+1,F,SB,NE,rfl,ly,lc,rfl,HR,BS,j,M,g⟩
     .have LS:jV (qU (Ce (c.map BE.f)) [Bm] ((qT (k+1) d).map kD)=H):=by
       show _=_;rw[Aa Df,mo True.intro,<-Aa H6,lY lc]
      have RI:jV (Z H<=6912^(k+1)):=by
       show _<=_;have h:=Aa K4;have h2:m*Z c<=6912^k*6912:=Nat.mul_le_mul (by have:=Aa JJ;omega) W1;rw[Nat.pow_succ];omega
      clear H6 Df K4 j M;go_wp2
      go_roundg (Z d-(k+1))
      case measure=>exact qu
      case rel=>exact⟨k+1,H,BT,BA,rfl,ly,lc,rfl,LS,RI,BS,g⟩
  .have ST:jV (qU (Ce (c.map BE.f)) [Bm] (d.map kD)=L):=by
    have h:=Aa HF;rw[lY lc]at h;exact h
   have bx:Z L<=330225942528:=by
    have h:=Aa JJ;have h2:6912^k<=6912^3:=Nat.pow_le_pow_right lc lc;omega
   have b5:jV (L.filter (λe=>(d.map kD).all λx=>x.b==97||Cm (Av e) (AI e) (c.map BE.f) x)=H7):=by
    have h:=Aa WS;rw[Aa ST]at h;exact h
   have co:jV (∀e∈L,∀p∈d,(p.1.b==97)=false->MO e p.1):=by
    have h:=Aa ao;rw[Aa ST]at h;exact h
   clear WS ao HF ST av JJ HG;go_wp2_with fail
   go_loopg [12,13] (Z L) (λgk o i wr=>∃(m:Nat) (D:kN (kN bN)) (CC:rB) (B9:Nat),o=U CC (Z D) B9/\i=X J m/\m<=Z L/\gk=Z L-m/\Z D<=m/\jV ((qT m L).filter (λe=>(d.map kD).all λx=>x.b==97||Cm (Av e) (AI e) (c.map BE.f) x)=D)/\jV (BR wr N (U CC (Z D) B9) D)/\jV (BR wr N (U FA (Z L) G) L)/\jV (Cd (U CC (Z D) B9) (U FA (Z L) G))/\jV (Ac [] w wr))
   case atStart=>exact⟨0,[],Y,0,rfl,rfl,lc,rfl,ln,rfl,BR.nil _ _,j,(λq hq=>by cases hq),g⟩
   case round=>
    clear j g;obtain⟨m,D,CC,B9,rfl,rfl,hm,H4,c7,X3,AO,j,M,g⟩:=hrel;have K2:=Ab H4;clear H4;by_cases A2:m<Z L
    .obtain⟨C,cy,H8,cv,r0⟩:=Jb j m A2;obtain⟨rfl,_,rfl⟩:=qX H8;obtain⟨e,he⟩:=kQ (L[m]);(have EY:Z e=26:=by rw[<-he];exact j.j _ (lV A2));have a9:=Ab (co e (by rw[<-he];exact lV A2));have H1:jV ((qT (m+1) L).filter (λe=>(d.map kD).all λx=>x.b==97||Cm (Av e) (AI e) (c.map BE.f) x)=D++if((qT (Z d) d).map kD).all (λx=>x.b==97||Cm (Av e) (AI e) (c.map BE.f) x)then[e] else[]):=by
      show _=_;rw[lW A2,oA,Aa X3,he,nw,nJ,List.filter_nil]
     obtain⟨a7,b1⟩:=rI (lc:m<Z L);clear r0;have KA:jV (∀b,BR b N (U (V ⟨C,0,Y⟩) (Z L) G) L->b.rangeAt C (m*26) (Al e)):=by
      intro b hz;obtain⟨g',af,AB,_,r'⟩:=Jb hz m A2;simp only[lU,lZ,mR]at AB;obtain⟨⟨rfl,_,_⟩,_,_⟩:=AB;rw[he]at r';exact r'
     clear he;go_wp2_with fail
     go_loopg [14,15] (Z d) (λgk a i wr=>∃(q:Nat) (ab:rD),a=.bool ab/\i=X J q/\q<=Z d/\gk=Z d-q/\jV (((qT q d).map kD).all (λx=>x.b==97||Cm (Av e) (AI e) (c.map BE.f) x)=ab)/\jV (BR wr N (U CC (Z D) B9) D)/\jV (BR wr N (U (V ⟨C,0,Y⟩) (Z L) G) L)/\jV (Ac [] w wr))
     case atStart=>exact⟨0,true,rfl,rfl,lc,rfl,rfl,AO,j,g⟩
     case round=>
      clear AO j g;obtain⟨q,ab,rfl,rfl,hq,HW,IJ,AO,j,g⟩:=hrel;have HQ:=Ab HW;clear HW;by_cases DT:q<Z d
      .obtain⟨y,br,x,AT,A1,IS,B0,d0,d1,d2,d3,d4,d5,d6,d7,d8⟩:=MM (Ad HB g) (λp hp=>(HT p hp).C g) q DT;obtain⟨rfl,_,rfl⟩:=qX IS;(have CL:(x,U AT (Z x.A.qH) A1)∈d:=by rw[<-B0];exact lV DT);have T:jV (((qT (q+1) d).map kD).all (λx=>x.b==97||Cm (Av e) (AI e) (c.map BE.f) x)=(ab&&(x.b==97||Cm (Av e) (AI e) (c.map BE.f) x))):=by
        show _=_;rw[lW DT,mO,List.all_append,Aa IJ,B0];simp
       obtain⟨bb,b6⟩:=rI (lc:q<Z d);have EX:((x.b.toNat:Int)==97)=(x.b==97):=Cu _ 97;cases h97:(x.b==97)with
       |true=>
        rw[h97]at EX T;have FO:jV (((qT (q+1) d).map kD).all (λx=>x.b==97||Cm (Av e) (AI e) (c.map BE.f) x)=ab):=by
         have h:=Aa T;rw[pA,Bool.and_true]at h;exact h
        (have HD:jV (∀n,BR (wr.drewN n) N (U CC (Z D) B9) D/\BR (wr.drewN n) N (U (V ⟨C,0,Y⟩) (Z L) G) L/\Ac [] w (wr.drewN n)):=λn=>⟨AO.C ((kR [] wr).drewN n),j.C ((kR [] wr).drewN n),g.drewN n⟩);clear T B0 CL AO j g IJ;go_wp2_with fail
        go_quiet (fail)
        cases ab
        all_goals
         go_wp2
         go_roundg (Z d-(q+1))
         case measure=>exact qu
         case rel=>exact⟨q+1,_,rfl,ly,lc,rfl,FO,(HD _).1,(HD _).2.1,(HD _).2.2⟩
       |false=>
        rw[h97]at EX T;have Ix:jV (∀b,Ac [] wr b->rE rF 88 #[ku (Za (Al e)),ku #[X .u8 x.b.toNat,O x.A.a,U AT (Z x.A.qH) A1,X J x.A.e,X .u8 x.L.v.toNat,O x.L.s,X .u8 x.R.v.toNat,O x.R.s,X J x.e],U LL (Z c) K9] b λr w'=>r=.returned (.bool (Cm (Av e) (AI e) (c.map BE.f) x))/\Ac [] b w'):=λb I=>
         Rl e x AT A1 LL K9 c b EY ((HT _ CL).C (g.H I)) (HS.C (g.H I)) lc (a9 _ CL h97)
        have EM:jV (∀b,Ac [] wr b->b.rangeAt C (m*26) (Al e)/\jY b ⟨y,q*9,Y⟩=V (X .u8 x.b.toNat)/\jY b ⟨y,q*9+1,Y⟩=V (O x.A.a)/\jY b ⟨y,q*9+2,Y⟩=V (U AT (Z x.A.qH) A1)/\jY b ⟨y,q*9+3,Y⟩=V (X J x.A.e)/\jY b ⟨y,q*9+4,Y⟩=V (X .u8 x.L.v.toNat)/\jY b ⟨y,q*9+5,Y⟩=V (O x.L.s)/\jY b ⟨y,q*9+6,Y⟩=V (X .u8 x.R.v.toNat)/\jY b ⟨y,q*9+7,Y⟩=V (O x.R.s)/\jY b ⟨y,q*9+8,Y⟩=V (X J x.e)):=by
         intro b I;have HP:=g.H I;obtain⟨ce,a8,x',bz,ca,H3,HH,VS,OH,PT,NN,cr,bn,cz,cl,bt⟩:=MM (Ad HB HP) (λp hp=>(HT p hp).C HP) q DT;simp only[lU,lZ,mR]at H3;obtain⟨⟨rfl,_,_⟩,_,_⟩:=H3;rw[B0]at HH;simp only[mU,lU]at HH;obtain⟨rfl,rfl,_,rfl⟩:=HH;exact⟨KA b (j.C I),VS,OH,PT,NN,cr,bn,cz,cl,bt⟩
        obtain⟨LB,M2⟩:=kQ (Cm (Av e) (AI e) (c.map BE.f) x);rw[M2,oO]at T;rw[M2]at Ix;clear M2 B0 CL;obtain⟨u,P⟩:=kQ (Al e);rw[P]at Ix EM;(have HA:Z u=26:=by rw[<-P,CD,EY]);clear P;have hu:=underlying90;(have hi:(rF.info? 90).map (·.size)=V (Z u):=by rw[HA];exact Tryz.zE);obtain⟨kd,QR⟩:=kQ x.b.toNat;obtain⟨nm,HX⟩:=kQ x.A.a;obtain⟨ja,H9⟩:=kQ x.A.e;obtain⟨na,HY⟩:=kQ (Z x.A.qH);obtain⟨lv,a3⟩:=kQ x.L.v.toNat;obtain⟨ls,ap⟩:=kQ x.L.s;obtain⟨rv,U0⟩:=kQ x.R.v.toNat;obtain⟨rs,a0⟩:=kQ x.R.s;obtain⟨L0,aT⟩:=kQ x.e;rw[QR,HX,H9,HY,a3,ap,U0,a0,aT]at Ix EM;rw[QR]at EX;clear h97 QR HX H9 HY a3 ap U0 a0 aT d0 d1 d2 d3 d4 d5 d6 d7 d8;go_wp2_with fail
        go_region_held3 (λb=>Ac [] wr b/\b.rangeAt C (m*26) u/\jY b ⟨y,q*9,Y⟩=V (X .u8 kd)/\jY b ⟨y,q*9+1,Y⟩=V (O nm)/\jY b ⟨y,q*9+2,Y⟩=V (U AT na A1)/\jY b ⟨y,q*9+3,Y⟩=V (X J ja)/\jY b ⟨y,q*9+4,Y⟩=V (X .u8 lv)/\jY b ⟨y,q*9+5,Y⟩=V (O ls)/\jY b ⟨y,q*9+6,Y⟩=V (X .u8 rv)/\jY b ⟨y,q*9+7,Y⟩=V (O rs)/\jY b ⟨y,q*9+8,Y⟩=V (X J L0)) ((go_split_ands;refine(fun(I:Ac [] wr _)=>And.intro I (EM _ I)) ?_;repeat (first|assumption|exact kR [] _|refine Ac.drew ?_|refine Ac.alloc ?_ _))) ((go_at_call 88;refine(Ix _ ml).G ?_;rintro e w3 ⟨rfl,k3⟩;have Go:Ac [] wr w3:=sh;clear k3))
        rename_i K7;clear K7 Ix EM;have cx:=Ab (AO.C Go);have TV:=Ab (j.C Go);have RO:=Ab (g.H Go);clear AO j g Go IJ;cases ab
        all_goals
         have FO:=Ab T;clear T;go_wp2
         go_roundg (Z d-(q+1))
         case measure=>exact qu
         case rel=>exact⟨q+1,_,rfl,ly,lc,rfl,FO,cx,TV,RO⟩
      .have HR:jV ((qT (m+1) L).filter (λe=>(d.map kD).all λx=>x.b==97||Cm (Av e) (AI e) (c.map BE.f) x)=D++if ab then[e] else[]):=by
        have h:=Aa H1;have h2:=Aa IJ;rw[show q=Z d by omega]at h2;rw[h2]at h;exact h
       clear H1 IJ HQ;cases ab with
       |false=>
        have MN:jV ((qT (m+1) L).filter (λe=>(d.map kD).all λx=>x.b==97||Cm (Av e) (AI e) (c.map BE.f) x)=D):=by
         have h:=Aa HR;rw[mm ln,mQ]at h;exact h
        clear HR;go_wp2
        go_roundg (Z L-(m+1))
        case measure=>exact qu
        case rel=>exact⟨m+1,D,CC,B9,rfl,ly,lc,rfl,lc,MN,AO,j,M,g⟩
       |true=>
        have MN:jV ((qT (m+1) L).filter (λe=>(d.map kD).all λx=>x.b==97||Cm (Av e) (AI e) (c.map BE.f) x)=D++[e]):=HR;obtain⟨u,P⟩:=kQ (Al e);(have HA:Z u=26:=by rw[<-P,CD,EY]);(have UO:∀v∈u,v.oneCell'=true:=by rw[<-P];exact Gs e);(have NA:(ku (Za u)).cells=Za u:=by rw[<-P];exact Bp e);(have WB:jV (wr.rangeAt C (m*26) u):=by rw[<-P];exact KA wr j);have LD:=Ab P;(have hi:(rF.info? 90).map (·.size)=V (Z u):=by rw[HA];exact Tryz.zE);have MB:0<Z u:=lc;(have HZ:jV ((rF.info? 90).map (λi=>(i.zero,i.size))=V (V (ku (Za (kB 26 (O ⟨#[]⟩)))),Z u)):=by rw[HA];exact Tryz.zo);(have bs:N<=wr.heap.size:=by have:=g.size;have:=Aa HN;omega);have TL:=AO.row;clear HR P;go_wp2_with (first|((with_reducible refine qY 90 ?_);refine oe rfl 90 _ rfl C (m*26) lx u _ WB underlying90 rfl hi ?_)|((with_reducible refine q7 87 ?_);refine Do rfl 87 _ rfl u lx 90 _ underlying87 NA HZ (by rw[HA];rfl) MB lc ?_)|(at_builtin;change jV (wpList _ _ _ _ _ _)))
        show wpList _ _ _ _ _ _;refine mE _ rfl (.tmp 101) (.tmp 106) _ rfl N 90 i0 _ 26 416 underlying87 ar WW a1 HL rfl lc (U CC (Z D) B9) (Z D) (qS Al D) rfl (mg TL _) ⟨wr.heap.size,0,Y⟩ 1 1 u rfl lc (mz (mG wr _)) UO lc lw lc li (wr.heap.size+1) ln ?_;intro g1 FF w9 IA FL HU Nd;have bv:jV (BR w9 N (U (V ⟨g1,0,Y⟩) (Z (D++[e])) FF) (D++[e])):=by
         refine⟨?_,λe' AB=>?_⟩
         .rw[mp,mD];simp only[mB,np,mQ,Aa LD,mn,mI,m7];exact IA
         .rcases mi.1 AB with h|h
          .exact AO.j e' h
          .simp only[lX]at h;rw[h];exact EY
        have RT:jV (BR w9 N (U (V ⟨C,0,Y⟩) (Z L) G) L):=
         ⟨nF (v:=U (V ⟨C,0,Y⟩) (Z L) G) (j.row.alloc _) FL (Or.inr (λh=>M C h.symm rfl)),j.j⟩
        have M6:jV (Cd (U (V ⟨g1,0,Y⟩) (Z (D++[e])) FF) (U (V ⟨C,0,Y⟩) (Z L) G)):=by
         intro z hz HL;simp only[kE,lZ]at hz HL;rcases HU with h|h
         .exact M g1 h (by simp only[kE,lZ];omega)
         .have:=(j.row.lt C rfl).2;omega
        have Ha:jV (Ac [] w w9):=(g.alloc _).grown FL (λz hz=>Or.inr (by have:=(TL.lt z hz).1;have:=Aa HN;omega));clear IA FL HU Nd TL AO j M g WB;go_wp2_with fail
        go_roundg (Z L-(m+1))
        case measure=>exact qu
        case rel=>exact⟨m+1,D++[e],V ⟨g1,0,Y⟩,FF,ln,ly,lc,rfl,li,MN,bv,RT,M6,Ha⟩
    .have b4:jV (D=H7):=by
      have h:=Aa b5;have h2:=Aa X3;rw[lY lc]at h2;exact h2.symm.H h
     go_wp2;go_ret;rw[<-Aa b4];exact⟨CC,B9,rfl,AO,g⟩
end
section
variable{s t:bN}{j n k b m i:Nat}{I:Int}{g:rC}{M:kN Nat}{w v u:jH}{z:jR}{y x:kN jR}{T:TypeId}{B:rD}
def Er(s:bN)(j:Nat):Bb×Nat:=
 if AC (C2 s j)then(⟨2,j,s.extract j (AL AC s j)⟩,AL AC s j)
 else if Aq (C2 s j)then(⟨3,j,s.extract j (AL Aq s j)⟩,AL Aq s j)
 else if C2 s j=58/\Ey s (j+1) 45=T6 then(⟨5,j,⟨#[58,45]⟩⟩,j+2)
 else(CM j (Utf8.decode s j).1,j+(Utf8.decode s j).2)
def Fa(h):C2 s j=s[j]:=by simp[C2,h]
def R3(s j)(h:j<s.size):j<(Er s j).2:=by
 unfold Er;split
 .rename_i a;rw[Fa h]at a;rw[Ct _ _ _ h a];have:=Cz AC s (j+1);omega
 .split
  .rename_i a;rw[Fa h]at a;rw[Ct _ _ _ h a];have:=Cz Aq s (j+1);omega
  .split
   .exact lc
   .have:=JB s j h;omega
def SF(s:bN)(a:Nat):kN Bb:=
 if h:Af s a<s.size then
  have _h1:a<s.size:=Nat.lt_of_le_of_lt (Ck s a) h;have _h2:a<(Er s (Af s a)).2:=Nat.lt_of_le_of_lt (Ck s a) (R3 s (Af s a) h)
  (Er s (Af s a)).1::SF s (Er s (Af s a)).2
 else[]
def JU(h:¬Af s n<s.size):SF s n=[]:=by unfold SF;simp[h]
def GL(b:Af s n=j)(h:j<s.size):SF s n=(Er s j).1::SF s (Er s j).2:=by
 subst b
 conv=>lhs;unfold SF
 simp[h]
def YY(h:Af s n=Af s (n+1)):SF s n=SF s (n+1):=by
 by_cases b:Af s (n+1)<s.size
 .rw[GL h b,GL rfl b]
 .rw[JU b,JU lc]
def WP(h)(b:DN s[n]=T6):Af s n=Af s (n+1):=by
 conv=>lhs;unfold Af
 simp[h,b]
def V7(h)(b:DN s[n]=K):Af s n=n:=by
 unfold Af;simp[h,b]
def cd(h:¬n<s.size):Af s n=n:=by
 unfold Af;simp[h]
def JW(s:bN)(ms:kN Bb)(pos:Nat):Prop:=∀m,ms.getLast?=V m->
 (∀p r,C4 m p r=K)\/m.c+m.qJ.size<pos\/(m.c+m.qJ.size=pos/\(pos<s.size->C4 m pos (Utf8.decode s pos).1=K))
def Zh{m}(h:m.c+m.qJ.size<n):C4 m n I=K:=by
 unfold C4;rw[mo lc]
def JW.now{b}(h:JW s b n)(c:n<s.size)(e:¬(((Utf8.decode s n).1:Int)=32\/((Utf8.decode s n).1:Int)=10)):
  MX b n (Utf8.decode s n).1=b++[CM n (Utf8.decode s n).1]:=by
 unfold MX;rw[mm e];split
 .rename_i m d;have:C4 m n (Utf8.decode s n).1=K:=by
   rcases h m d with a|a|a
   .exact a _ _
   .exact Zh a
   .exact a.2 c
  simp[this]
 .rfl
def JW.far{b}(h:JW s b n):JW s b (n+1):=by
 intro m c;rcases h m c with a|a|a
 .exact j2 a
 .exact lc
 exact lc
def I7{b}{m}(h:(∀p r,C4 m p r=K)\/m.c+m.qJ.size<n\/(m.c+m.qJ.size=n/\(n<s.size->C4 m n (Utf8.decode s n).1=K))):JW s (b++[m]) n:=by
 intro c a;simp at a;subst a;exact h
def Da(c):AC c=T6↔97<=c.toNat/\c.toNat<=122:=by
 simp[AC,oZ]
def Fy(c):DF c=T6↔65<=c.toNat/\c.toNat<=90:=by
 simp[DF,oZ]
def CG(c):Aq c=T6↔48<=c.toNat/\c.toNat<=57:=by
 simp[Aq,oZ]
def Rj(c):DN c=T6↔c.toNat=32\/c.toNat=10:=by
 simp[DN,<-nW]
def GJ(c)(h:c.toNat<128):Utf8.encode (c.toNat:Int)=⟨#[c]⟩:=by
 unfold Utf8.encode;have a:Utf8.valid c.toNat=T6:=by simp[Utf8.valid];omega
 simp[a,h]
def J3(f:j<=k)(d):s.extract j k++⟨#[s[k]]⟩=s.extract j (k+1):=by
 apply ByteArray.ext;simp only[qk,ByteArray.data_extract];apply Array.ext
 .exact li
 .intro i b a;simp only[Array.size_append,Array.size_extract,nu,mn,mI]at b a;by_cases g:i<k-j
  .rw[Array.getElem_append_left li];simp
  ·have c:i=k-j:=lc;subst c;rw[Array.getElem_append_right li];simp[show j+(k-j)=k by omega];rfl
def size_extract{s:bN}{j k}(a:k<=s.size):(s.extract j k).size=k-j:=li
def VE(s a p)(g:a=2\/a=3)(e:∀c:rC,p c=T6->c.toNat<128/\EQ (c.toNat:Int)=a/\¬((c.toNat:Int)=32\/(c.toNat:Int)=10))(d:kN Bb)(j):
  ∀n k,s.size-k<=n->j<k->k<=s.size->Fk s k (d++[⟨a,j,s.extract j k⟩])=Fk s (AL p s k) (d++[⟨a,j,s.extract j (AL p s k)⟩])
 |n,k,hn,hjk,hk=>by
  by_cases b:k<s.size
  .cases hpk:p s[k] with
   |false=>rw[Fu p s k b hpk]
   |true=>
    obtain⟨f,h,i⟩:=e _ hpk;rw[Ct p s k b hpk,F9 _ b,oS s k b f];rw[Pt i];have l:C4 ⟨a,j,s.extract j k⟩ k s[k].toNat=T6:=by
     unfold C4;exact qy
    rw[mo l];rw[GJ _ f,J3 lc b]
    match n with
    |0=>omega
    |n+1=>exact VE s a p g e d j n (k+1) lc lc lc
  .rw[GI p s k b]
def Nv(p s):∀n i,s.size-i<=n->∀h:AL p s i<s.size,p s[AL p s i]=K
 |n,i,hn,h=>by
  by_cases a:i<s.size
  .cases hp:p s[i] with
   |false=>
    have e:=Fu p s i a hp;simp only[e];exact hp
   |true=>
    have e:=Ct p s i a hp
    match n with
    |0=>omega
    |n+1=>
     have:=Nv p s n (i+1) lc lc;simp only[e];exact this
  .have e:=GI p s i a;omega
def GN(r):EQ r=2↔97<=r/\r<=122:=by
 unfold EQ;exact lc
def I2(r):EQ r=3↔48<=r/\r<=57:=by
 unfold EQ;exact lc
def RD{p:rC->rD}(e:I=2\/I=3)(l:∀c:rC,p c=K->EQ (c.toNat:Int)≠I)(b:k<=s.size)(n:j<=k)(g:∀h:k<s.size,p s[k]=K):
  JW s ([⟨I,j,s.extract j k⟩]:kN Bb) k:=by
 intro m a;simp at a;subst a;refine j3 (j3 ⟨li,λh=>?_⟩);unfold C4;simp only[size_extract b];rw[mm lc,mo e];have i:=g h;simp;by_cases f:s[k].toNat<128
 .rw[oS s k h f];exact l _ i
 .have:=(qo s k h lc).1;intro d;rcases e with rfl|rfl
  .rw[GN]at d;omega
  .rw[I2]at d;omega
def QN{a}{m}(h:JW s [m] n):JW s (a++[m]) n:=by
 refine I7 (h m ln)
def Su(h:¬(97<=n/\n<=122))(a:¬(48<=n/\n<=57)):EQ (n:Int)=4\/EQ (n:Int)=5\/EQ (n:Int)=0:=by
 unfold EQ;exact lc
def QL{m}(h:m.b=4\/m.b=0\/(m.b=5/\m.qJ.toList≠[58]))(p r):C4 m p r=K:=by
 unfold C4;split
 .rfl
 .rcases h with h|h|h
  .simp[h]
  .simp[h]
  .simp[h.1,h.2]
theorem Ee(s):∀n a e,s.size-a<=n->JW s e a->Fk s a e=e++SF s a
 |n,a,e,hn,d=>by
  by_cases b:a<s.size
  .match n with
   |0=>omega
   |n+1=>
    cases hb:DN s[a] with
    |true=>
     have x:=(Rj _).1 hb;rw[F9 _ b,oS s a b lc];(have:MX e a s[a].toNat=e:=by unfold MX;rw[mo lc]);rw[this,Ee s n (a+1) e lc d.far,YY (WP b hb)]
    |false=>
     (have x:¬(s[a].toNat=32\/s[a].toNat=10):=λh=>by rw[(Rj _).2 h]at hb;cases hb);have v:=V7 b hb;have y:¬(((Utf8.decode s a).1:Int)=32\/((Utf8.decode s a).1:Int)=10):=by
      by_cases i:s[a].toNat<128
      .rw[oS s a b i];omega
      .have:=(qo s a b lc).1;omega
     rw[GL v b,F9 _ b,d.now b y];have f:=R3 s a b;unfold Er at f|-;rw[Fa b]at f|-;cases hl:AC s[a] with
     |true=>
      have q:=(Da _).1 hl;simp only[hl,ro]at f|-;rw[oS s a b lc];have k:CM a s[a].toNat=⟨2,a,s.extract a (a+1)⟩:=by
       unfold CM;rw[(GN _).2 lc,GJ _ lc,<-J3 (mt _) b];simp
      rw[k,VE s 2 AC (j2 rfl) (λc d=>by have:=(Da _).1 d;exact⟨lc,(GN _).2 lc,lc⟩) e a _ (a+1) (mt _) lc lc,<-Ct AC s a b hl];have o:=C5 AC s a lc;rw[Ee s n _ _ lc (QN (RD (j2 rfl) (λc d g=>by rw[GN]at g;rw[(Da c).2 lc]at d;cases d) o lc (Nv AC s _ a (mt _))))];simp
     |false=>
      (have q:¬(97<=s[a].toNat/\s[a].toNat<=122):=λh=>by rw[(Da _).2 h]at hl;cases hl);cases hd:Aq s[a] with
      |true=>
       have r:=(CG _).1 hd;simp only[hl,hd,ro,ma,rm]at f|-;rw[oS s a b lc];have k:CM a s[a].toNat=⟨3,a,s.extract a (a+1)⟩:=by
        unfold CM;rw[(I2 _).2 lc,GJ _ lc,<-J3 (mt _) b];simp
       rw[k,VE s 3 Aq (j3 rfl) (λc d=>by have:=(CG _).1 d;exact⟨lc,(I2 _).2 lc,lc⟩) e a _ (a+1) (mt _) lc lc,<-Ct Aq s a b hd];have o:=C5 Aq s a lc;rw[Ee s n _ _ lc (QN (RD (j3 rfl) (λc d g=>by rw[I2]at g;rw[(CG c).2 lc]at d;cases d) o lc (Nv Aq s _ a (mt _))))];simp
      |false=>
       (have r:¬(48<=s[a].toNat/\s[a].toNat<=57):=λh=>by rw[(CG _).2 h]at hd;cases hd);simp only[hl,hd,ma,rm]at f|-;by_cases j:s[a]=58
       ·(have z:s[a].toNat=58:=by rw[j];rfl);rw[oS s a b lc]at f|-;simp at f|-;have k:CM a s[a].toNat=⟨5,a,⟨#[58]⟩⟩:=by
         unfold CM;rw[GJ _ lc,j];rfl
        rw[k];cases hat:Ey s (a+1) 45 with
        |true=>
         have m:=Gc hat;have p:s[a+1]=45:=by
          unfold Ey at hat;simpa[m] using hat
         (have u:s[a+1].toNat=45:=by rw[p];rfl);rw[mo ⟨j,rfl⟩];rw[F9 _ m,oS s (a+1) m lc];rw[Pt lc];have t:C4 ⟨5,a,⟨#[58]⟩⟩ (a+1) s[a+1].toNat=T6:=by
          rw[u];unfold C4;rw[mm (by simp;rfl)];simp
         rw[mo t];rw[GJ _ lc,p];have w:(⟨#[58]⟩:bN)++⟨#[45]⟩=⟨#[58,45]⟩:=rfl;rw[w,Ee s n _ _ lc (I7 (j2 (QL (j3 (j3 ⟨rfl,ln⟩)))))];simp
        |false=>
         rw[Ee s n (a+1) _ lc (I7 (j3 (j3 ⟨lx,λl=>?_⟩)))]
         .simp
         .unfold C4;rw[mm (by simp;rfl)];simp;intro g;by_cases i:s[a+1].toNat<128
          .rw[oS s (a+1) l i]at g;unfold Ey at hat;simp[l]at hat;apply hat;apply nW.1;exact li
          .have:=(qo s (a+1) l lc).1;omega
       .rw[mm (by simp[j])]at f|-;refine(Ee s n _ _ lc (I7 (j2 (QL ?_)))).H ln;by_cases i:s[a].toNat<128
        .rw[oS s a b i];unfold CM;rcases Su q r with h|h|h
         .exact j2 h
         .refine j3 (j3 ⟨h,?_⟩);rw[GJ _ i];exact li
         exact li
        .have:=(qo s a b lc).1;refine j3 (j2 ?_);unfold CM;unfold EQ;exact li
  .rw[PX _ b,JU (by rw[cd b];exact b)];simp
def Dw(s:bN)(a:Nat):kN Bb:=(SF s a).map Jw++[Ff s]
def Ku(s):DB s=Dw s 0:=by
 unfold DB Dw;rw[Ee s _ 0 [] (mt _) (λm a=>sF)];simp
def A7(s:bN):Prop:=(∃c r,s.toList=c::r/\97<=c.toNat/\c.toNat<=122)\/fP s.toList=T6
def Dn{r:kN rC}(h:s.toList=g::r):C2 s 0=g/\s.size=Z r+1:=by
 have b:s.size=Z r+1:=by rw[Bi,h];rfl
 refine⟨?_,b⟩;unfold C2;rw[dif_pos lc];obtain⟨d,a,_⟩:=I3 s lc;exact qr
def Mc(a:48<=g.toNat)(b:g.toNat<=57):Aq g=T6:=(CG _).2 ⟨a,b⟩
def Kj(a:97<=g.toNat):Aq g=K:=by
 cases h:Aq g with
 |false=>rfl
 |true=>have:=(CG _).1 h;omega
def Rb(x)(l m:kN rC):kG (x::l) (x::m)=kG l m:=by
 simp[kG]
def ee{x y}(h:x.toNat<y.toNat)(l m:kN rC):kG (x::l) (y::m)=T6:=by
 have:x<y:=h;simp[kG,this]
def dZ{x y}(h:y.toNat<x.toNat)(l m:kN rC):kG (x::l) (y::m)=K:=by
 have a:¬x<y:=by
  intro c;have:x.toNat<y.toNat:=c;omega
 have b:(x==y)=K:=by
  rw[mM];intro e;rw[e]at h;omega
 simp[kG,a,b]
def Gq(h:fP s.toList=T6):(AE s).toList=kB (3-Z s.toList) 48++s.toList:=by
 have g:Je s=T6:=by
  unfold Je;rcases Ft h with⟨c,e,b,a⟩|⟨c,d,e,b,a⟩|⟨c,d,f,e,b,a⟩<;>rw[e,Fp]<;>simp<;>omega
 have j:Z s.toList<=3:=by
  rcases Ft h with⟨c,e,b,a⟩|⟨c,d,e,b,a⟩|⟨c,d,f,e,b,a⟩<;>rw[e]<;>simp
 have i:=Bi s;unfold AE;rw[g,mo rfl,M7 3 s lc lc,i]
def FI{r:kN rC}(h:s.toList=g::r)(b:97<=g.toNat):AE s=s:=by
 have a:Je s=K:=by
  unfold Je;rw[h,Fp];simp;omega
 unfold AE;rw[a];rfl
def IE(l:A7 s)(i:A7 t):kG (AE s).toList (AE t).toList=Gl s t:=by
 rcases l with⟨c,r,p,q,D⟩|l
 .obtain⟨y,E⟩:=Dn p;rcases i with⟨d,m,k,o,z⟩|i
  .obtain⟨u,B⟩:=Dn k;rw[FI p q,FI k o];unfold Gl;rw[y,u,Kj q,Kj o];rfl
  .rw[FI p q,Gq i];unfold Gl;rw[y,Kj q];rcases Ft i with⟨d,e,j,h⟩|⟨d,f,e,j,h⟩|⟨d,f,g,e,j,h⟩;all_goals
    rw[(Dn e).1,Mc lc h,e,p];refine Eq.H (dZ ?_ _ _) rfl
    first|omega|exact li
 .rcases i with⟨d,m,k,o,z⟩|i
  .obtain⟨u,B⟩:=Dn k;rw[FI k o,Gq l];unfold Gl;rw[u,Kj o];rcases Ft l with⟨c,e,j,h⟩|⟨c,f,e,j,h⟩|⟨c,f,g,e,j,h⟩;all_goals
    rw[(Dn e).1,Mc lc h,e,k];refine Eq.H (ee ?_ _ _) rfl
    first|omega|exact li
  .rw[Gq l,Gq i];unfold Gl;rcases Ft l with⟨c,e,j,h⟩|⟨c,f,e,j,h⟩|⟨c,f,g,e,j,h⟩<;>
    rcases Ft i with⟨w,n,x,v⟩|⟨w,A,n,x,v⟩|⟨w,A,C,n,x,v⟩<;>
    rw[(Dn e).1,(Dn n).1,Mc lc h,Mc lc v,(Dn e).2,(Dn n).2,e,n]
   .simp[kB,Rb]
   .exact Eq.H (Eq.H (Rb _ _ _) (ee li _ _)) rfl
   .exact Eq.H (ee li _ _) rfl
   .exact Eq.H (Eq.H (Rb _ _ _) (dZ li _ _)) rfl
   .simp[kB,Rb]
   .exact Eq.H (ee li _ _) rfl
   .exact Eq.H (dZ li _ _) rfl
   .exact Eq.H (dZ li _ _) rfl
   .simp[kB]
def Pb(s:bN):(s.extract 1 s.size).toList=s.toList.drop 1:=by
 rw[mL,mL,ByteArray.data_extract,Array.toList_extract];have h:s.size=Z _:=rfl;simp only[List.extract];rw[lY ln]
def FH{r:kN rC}(h:s.toList=g::r):(FQ (k+1) s).toList=if 0<Z r/\g=48 then(FQ k (s.extract 1 s.size)).toList else s.toList:=by
 obtain⟨e,d⟩:=Dn h;rw[FQ,e,d];by_cases a:0<Z r/\g=48
 .rw[mo ⟨lc,a.2⟩,mo a]
 .rw[mm (λb=>a ⟨lc,b.2⟩),mm a]
def GC(k:A7 s):B3 (AE s)=s:=by
 rcases k with⟨c,r,e,b,m⟩|k
 .rw[FI e b];unfold B3;have i:Je s=K:=by
   unfold Je;rw[e,Fp];simp;omega
  rw[i];rfl
 .have g:=Gq k;apply toList_inj;have l:(AE s).size=Z _:=Bi _;generalize AE s=p at g l|-;unfold B3;rcases Ft k with⟨c,e,b,m⟩|⟨c,d,e,b,m⟩|⟨c,d,f,e,b,m⟩
  .rw[e]at g|-;have a:p.toList=[48,48,c]:=g;(have i:Je p=T6:=by unfold Je;rw[a,Fp];rfl);rw[i,mo rfl,l,a];show(FQ 3 p).toList=[c];rw[FH a,mo ⟨ln,rfl⟩];(have j:(p.extract 1 p.size).toList=[48,c]:=by rw[Pb,a];rfl);rw[FH j,mo ⟨ln,rfl⟩];(have q:((p.extract 1 p.size).extract 1 (p.extract 1 p.size).size).toList=[c]:=by rw[Pb,j];rfl);rw[FH q,mm ln,q]
  .rw[e]at g|-;have a:p.toList=[48,c,d]:=g;(have i:Je p=T6:=by unfold Je;rw[a,Fp];rfl);(have o:c≠48:=λn=>by rw[n]at b;exact rl b lu);rw[i,mo rfl,l,a];show(FQ 3 p).toList=[c,d];rw[FH a,mo ⟨ln,rfl⟩];(have j:(p.extract 1 p.size).toList=[c,d]:=by rw[Pb,a];rfl);rw[FH j,mm (λh=>o h.2),j]
  .rw[e]at g|-;have a:p.toList=[c,d,f]:=g;(have i:Je p=T6:=by unfold Je;rw[a,Fp];simp;omega);(have o:c≠48:=λn=>by rw[n]at b;exact rl b lu);rw[i,mo rfl,l,a];show(FQ 3 p).toList=[c,d,f];rw[FH a,mm (λh=>o h.2),a]
def FD(c:A7 s)(d:A7 t)(h:AE s=AE t):s=t:=by
 rw[<-GC c,<-GC d,h]
theorem Tryz.yS:(Tryz.prog.info? 217).map (λi=>(i.zero,i.size,i.bytes))=V (V (.agg #[X J 0,X J 0,X J 0,O ⟨#[]⟩,U Y 0 0,X .i32 0,O ⟨#[]⟩,X .i32 0,O ⟨#[]⟩]),9,112):=lo
structure PL where
 c:Int
 sort:Int
 ap:Int
 an:bN
 ts:kN AY
 l:AY
 r:AY
def KU:el->PL
 | .inl (pl,so,p,s,ts)=>⟨pl,so,p,s,ts,AZ,AZ⟩
 | .inr c=>⟨c.c,c.sort,0,ky,[],c.left,c.right⟩
abbrev L6:=PL×jR
def Ay(p:L6):kN jR:=[X J p.1.c,X J p.1.sort,X J p.1.ap,O p.1.an,p.2,X .i32 p.1.l.v,O p.1.l.s,X .i32 p.1.r.v,O p.1.r.s]
def Lr(w:jH)(base:Nat)(p:L6):Prop:=kt w base 215 2 p.2 (Z p.1.ts) (qS Ar p.1.ts)
def Lr.zR{p}(h:Lr w n p)(k:Ac M w v)(a:∀i,p.2.ownBlock=V i->i∉M):Lr v n p:=Ag h k a
def Lr.C{w w':jH}{p:L6}(h:Lr w n p)(k:Ac M w w')(a:∀i,i∈M->i<n:=by simp):Lr w' n p:=Ad h k a
def ZR.uni{g}{e}{l}(d:G5 g m=.ok (l,n))(h:ZR b z g I w e v (.ok (l,n))):
  ∃i f,e=j1 (.tuple #[.agg (Za (Ay (KU l,U i (Z (KU l).ts) f))),kx T6])/\Lr v w.heap.size (KU l,U i (Z (KU l).ts) f)/\Cs v b z g n I/\Ac [b] w v:=by
 cases l with
 |inl a=>
  obtain⟨A,y,rfl,r,o,k,j⟩:=h;obtain⟨i,f,rfl⟩:=Aj o;exact⟨i,f,rfl,Ak o r,k,j⟩
 |inr c=>
  have u:Mv g m=.ok (c,n):=by
   unfold G5 at d;split at d
   .split at d<;>simp at d
   .split at d
    .split at d<;>simp at d
    .split at d
     .simp at d
     exact qr
  have q:=Uq u;obtain⟨f,B,C,F,D⟩:=c;subst q;obtain⟨rfl,k,j⟩:=h;exact⟨Y,0,rfl,mw _ _ _ _,k,j⟩
def RN{b:kN Bb}:∀k a (d) {c:kN AY} {n:Nat},Z b-a<=k->GW b a d=.ok (c,n)->a<n
 |k,a,d,c,n,hk,h=>by
  unfold GW at h;split at h
  .split at h
   .cases h
   .split at h
    .match k with
     |0=>omega
     |k+1=>have:=RN k (a+2) _ lc h;omega
    .split at h
     .exact qy
     .cases h
  .cases h
def Ni{b}{a}(h:Ep b m=.ok (a,n)):m<n:=by
 unfold Ep at h;split at h
 .split at h
  .split at h
   .cases h
   .rename_i c;simp at h;have:=RN _ _ _ (mt _) c;omega
  .cases h
 .cases h
def da{a}{l}(h:Mv a m=.ok (l,n)):m<n:=by
 unfold Mv at h;split at h
 .cases h
 .rename_i c;have d:=Gu c;split at h
  .cases h
  .split at h
   .cases h
   .rename_i b;have e:=Gu b;simp at h;omega
def JM{b}{l}(h:G5 b m=.ok (l,n)):m<n:=by
 unfold G5 at h;split at h
 .split at h
  .cases h
  .rename_i a;have:=Ni a;simp at h;omega
 .split at h
  .split at h
   .cases h
   .rename_i a;have:=Ni a;simp at h;omega
  .split at h
   .cases h
   .rename_i a;have:=da a;simp at h;omega
def Fe(ms:kN Bb)(nx:Nat)(acc:kN PL):Except Int (kN PL×Nat):=
 if _h:nx<Z ms then
  match G5 ms nx with
  | .error p=> .error p
  | .ok (l,n)=>
   if _h2:nx<n then
    if BZ (Au ms n) I8 then Fe ms (n+1) (acc++[KU l])else .ok (acc++[KU l],n)
   else .error 0
 else .error 0
def IZ{a:kN Bb}{c}(h:n<Z a)(b:G5 a n=.error I):Fe a n c=.error I:=by
 unfold Fe;simp[h,b]
def OC{a:kN Bb}{acc}{l}(h:m<Z a)(b:G5 a m=.ok (l,n)):
  Fe a m acc=if BZ (Au a n) I8 then Fe a (n+1) (acc++[KU l])else .ok (acc++[KU l],n):=by
 have c:=JM b
 conv=>lhs;unfold Fe
 simp[h,b,c]
structure Cg(w:jH)(base:Nat)(v:jR)(ls:kN L6):Prop where
 row:kt w base 217 9 v (Z ls) (qS Ay ls)
 j:∀p∈ls,Lr w base p/\Cd p.2 v
def Cg.C{M:kN Nat}{w w':jH}{a:Nat}{v:jR}{d:kN L6}(h:Cg w a v d)(k:Ac M w w')(c:∀i,i∈M->i<a:=by simp):Cg w' a v d:=
 ⟨Ad h.row k c,λp b=>⟨(h.j p b).1.C k c,(h.j p b).2⟩⟩
def Cg.base{w}{d base'}{v}{b}(h:Cg w d v b)(c:base'<=d):Cg w base' v b:=
 ⟨Ak h.row c,λp a=>⟨Ak (h.j p a).1 c,(h.j p a).2⟩⟩
def Cg.nil(w b):Cg w b (U Y 0 0) []:=⟨mw _ _ _ _,λp a=>sF⟩
def iN(b:Nat)(mv:jR)(ms:kN Bb)(br:Int)(w:jH)(e:Ending)(w':jH):Except Int (kN PL×Nat)->Prop
 | .ok (ls,nx)=>∃ad cp ea,e=j1 (.tuple #[U ad (Z ls) cp,kx T6])/\ea.map kD=ls/\Cg w' w.heap.size (U ad (Z ls) cp) ea/\Cs w' b mv ms nx br/\Ac [b] w w'
 | .error p=>∃nx,e=j1 (.tuple #[U Y 0 0,kx K])/\Cs w' b mv ms nx p/\Ac [b] w w'
set_option maxRecDepth 100000
theorem TN(b n a I C w)(h:Cs w b n a I C)(ok:XT a):rE rF 133 #[jj (V ⟨b,0,Y⟩)] w λe w'=>iN b n a C w e w' (Fe a I []):=by
 obtain⟨i0,HI,Go,HK,HE⟩:=mW Tryz.yS;obtain⟨R,hR⟩:=kQ (Fe a I []);rw[hR];have B2:=Ab hR;have HO:=Ab ok;have HY:=h.zJ.lt;have HQ:=h.len;have BT:jV (∀k,w.heap.size<=k->n.ownBlock≠V k):=λk B e=>by have:=(h.row.lt k e).2;omega
 have h0:=Ab h;clear hR ok h;go_enter func133,ntmps133;go_wp2_with fail
 go_loopg [4] (Z a-I) (λgk o wr=>∃(j:Nat) (acc:kN L6) (v:rB) (x:Nat),o=U v (Z acc) x/\gk=Z a-j/\jV (Fe a j (acc.map kD)=R)/\jV (Cs wr b n a j C)/\jV (Cg wr w.heap.size (U v (Z acc) x) acc)/\jV (Ac [b] w wr)/\Z acc<=j)
 case atStart=>exact⟨I,[],Y,0,rfl,rfl,B2,h0,Cg.nil _ _,kR _ _,ln⟩
 case round=>
  clear h0 B2;obtain⟨j,acc,v,x,rfl,FL,D,HR,E,P,HN⟩:=hrel;have HG:=Ab FL;clear FL;have B0:=HR.lt;have HV:=P.size;go_wp2_with fail
  refine(gm b n a j C _ HR HO).G ?_;intro e f H;cases ht:G5 a j with
  |error q=>
   rw[ht]at H;obtain⟨n9,l,⟨H5,n8,H3,FF⟩,rfl,G,z⟩:=H;(have HF:jV (R=.error q):=by rw[<-Aa D];exact IZ B0 ht);have S:=Ab (P.H z);have s:=Ab G;clear z ht HR E P D G;obtain⟨lp,ls,⟨la,H2,HW⟩,ll,lr⟩:=l;simp at FF;subst FF;simp only[AD];go_wp2;go_ret2;rw[HF.o];exact⟨n9,rfl,s.zH ((kR [] _).alloc _),S.alloc _⟩
  |ok r=>
   obtain⟨t,u⟩:=r;rw[ht]at H;have HM:=JM ht;obtain⟨d,c,rfl,W,G,z⟩:=H.uni ht;have M:=Ab (OC (acc:=acc.map kD) B0 ht);clear H ht;generalize KU t=p at W M|-;clear t;have H8:=z.size;have BA:=Ad E.row z li;(have B9:jV (∀q∈acc,Lr f _ q/\Cd q.2 _):=λq g=>⟨(E.j q g).1.C z li,(E.j q g).2⟩);have Bx:jV (Cd (U d _ c) _):=λk B he=>by
    have:=(W.lt k B).1;have:=(E.row.lt k he).2;omega
   have DT:=Ab W;have S:=Ab (P.H z);have s:=Ab G;have E0:=G.lt;clear W G z E P HR;have FO:((f.alloc (Y6 (Za (Ay (p,U d (Z p.ts) c))) 217)).alloc (Y6 (Za (Ay (p,U d (Z p.ts) c))) 217)).heap[f.heap.size+1]?=V (Y6 (Za (Ay (p,U d (Z p.ts) c))) 217 (0,0)):=by
    have hh:=mG (f.alloc (Y6 (Za (Ay (p,U d (Z p.ts) c))) 217)) (Y6 (Za (Ay (p,U d (Z p.ts) c))) 217);rw[show(f.alloc _).heap.size=f.heap.size+1 from ln]at hh
    exact hh
   have FA:=mg (mg BA (Y6 (Za (Ay (p,U d (Z p.ts) c))) 217)) (Y6 (Za (Ay (p,U d (Z p.ts) c))) 217);have HZ:Z acc<=1000:=lc;simp only[Ay];go_wp2_with (at_builtin;refine mE _ rfl (.tmp 14) (.tmp 16) _ rfl w.heap.size 217 i0 _ 9 112 underlying97 HI Go HK HE rfl lc (U v (Z acc) x) (Z acc) (qS Ay acc) rfl FA ⟨f.heap.size+1,0,Y⟩ 1 1 (Ay (p,U d (Z p.ts) c)) rfl rfl (mz (cs:=Za (Ay (p,U d (Z p.ts) c))) (t:=217) (fr:=(0,0)) FO) (by simp[Value.oneCell',Ay]) lc lw lc li (f.heap.size+1+1) ln ?_;intro Q AT L A1 CL AB FT)
   have F:Ac (qV (qW (U v (Z acc) x))) f L:=(((kR _ f).alloc _).alloc _).grown CL (λk B=>j2 (by simp[B]));(have T:∀i∈qV _,w.heap.size<=i:=λi m=>(BA.lt i (by simpa using m)).1);have FW:n.ownBlock≠Y->∀k,n.ownBlock=V k->k<w.heap.size:=λ_ k B=>by
    by_cases g:k<w.heap.size
    .exact g
    .exact rl B (BT k lc)
   have CW:Cs L b n a u C:=⟨s.zJ.C F (λA=>by have:=T b A;omega),Ag s.row F (λi m A=>by have:=T i A;exact rl m (BT i this)),s.ap,s.lt,s.len⟩;have A0:=S.trans' F (λi m=>j3 (by have:=T i m;omega));have H4:=A0.size;have EY:jV (Cg L w.heap.size (U (V ⟨Q,0,Y⟩) (Z acc+1) AT) (acc++[(p,U d (Z p.ts) c)])):=by
    refine⟨by simpa using A1,?_⟩;intro q g;rcases mi.1 g with g|g
    .obtain⟨N,h2⟩:=B9 q g;exact⟨N.zR F (λi m A=>h2 i m (by simpa using A)),Cd.zb h2 N AB lc⟩
    .simp at g;subst g;have N:Lr f _ _:=Ak DT lc;exact⟨N.zR F (λi m A=>Bx i m (by simpa using A)),Cd.zb Bx N AB lc⟩
   have CC:=Ab CW;have EX:=Ab A0;have H6:=(A1.lt Q rfl).1;clear F T FW CW A0 CL AB FT A1 FO FA BA B9 Bx DT S s;refine(Hd b n a u C I8 _ CC _ (Bv E0) (HO.seen E0 I8)).G ?_;rintro e HX ⟨rfl,y,A2⟩;have FB:=Ab (EY.C A2 li);have FP:=Ab (EX.H A2);clear A2 EY EX CC;cases hs:BZ (Au a u) I8 with
   |true=>
    rw[hs]at y;simp at y;have HA:jV (Fe a (u+1) ((acc++[(p,U d (Z p.ts) c)]).map kD)=R):=by
     show _=_;rw[<-Aa D,Aa M,hs];simp
    have AH:=Ab y;clear y hs D M;go_wp2_with fail
    go_roundg (Z a-(u+1))
    case measure=>exact qu
    case rel=>exact⟨u+1,_,V ⟨Q,0,Y⟩,AT,ln,rfl,HA,AH,by simpa using FB,FP,li⟩
   |false=>
    rw[hs]at y;have HF:jV (R=.ok (acc.map kD++[p],u)):=by
     show _=_;rw[<-Aa D,Aa M,hs];simp
    have AH:=Ab y;go_wp2;go_ret2;rw[HF.o];exact⟨V ⟨Q,0,Y⟩,AT,acc++[(p,U d _ c)],ln,ln,by simpa using(Aa FB),Aa AH,Aa FP⟩
def bq:bN:=⟨#[58]⟩
def jG:bN:=⟨#[58,45]⟩
def aQ:bN:=⟨#[46]⟩
structure PC where
 hp:Int
 hn:bN
 zA:kN AY
 body:kN PL
def OQ(ms:kN Bb)(n:Nat)(c:PC):Except Int (PC×Nat):=if BZ (Au ms n) aQ then .ok (c,n+1)else .error (Au ms n).c
def C0(ms:kN Bb)(nx:Nat):Except Int (PC×Nat):=
 match Ep ms nx with
 | .error p=> .error p
 | .ok ((p,s,ts),n)=>
  if BZ (Au ms n) bq then .error (((Au ms n).c:Int)+1)
  else if BZ (Au ms n) jG then
   match Fe ms (n+1) [] with
   | .error q=> .error q
   | .ok (ls,n2)=>OQ ms n2 ⟨p,s,ts,ls⟩
  else OQ ms n ⟨p,s,ts,[]⟩
def Rd{b:kN Bb}:∀k a (d) {e:kN PL} {n:Nat},Z b-a<=k->Fe b a d=.ok (e,n)->a<n
 |k,a,d,e,n,hk,h=>by
  by_cases c:a<Z b
  .cases hl:G5 b a with
   |error p=>rw[IZ c hl]at h;cases h
   |ok r=>
    obtain⟨l,f⟩:=r;have g:=JM hl;rw[OC c hl]at h;split at h
    .match k with
     |0=>omega
     |k+1=>have:=Rd k (f+1) _ lc h;omega
    .exact qr
  .unfold Fe at h;rw[dif_neg c]at h;cases h
def TP{a}{c b}(h:OQ a n c=.ok (b,m)):m=n+1:=by
 unfold OQ at h;split at h
 .exact qr
 .cases h
def Hq{a}{c}(h:C0 a m=.ok (c,n)):m<n:=by
 unfold C0 at h;split at h
 .cases h
 .rename_i d;have f:=Ni d;split at h
  .cases h
  .split at h
   .split at h
    .cases h
    .rename_i b;have g:=Rd _ _ _ (mt _) b;have e:=TP h;omega
   .have e:=TP h;omega
def Dq(ms:kN Bb)(nx:Nat)(acc:kN PC):Except Int (kN PC):=
 if _h:nx<Z ms then
  if(Au ms nx).b==1 then .ok acc
  else match C0 ms nx with
   | .error p=> .error p
   | .ok (c,n)=>if _h2:nx<n then Dq ms n (acc++[c])else .error 0
 else .error 0
def Pa{a:kN Bb}{b}(h:n<Z a)(c:((Au a n).b==1)=T6):Dq a n b=.ok b:=by
 unfold Dq;simp[h,c]
def LA{a:kN Bb}{d}(h:n<Z a)(b:((Au a n).b==1)=K)(c:C0 a n=.error I):Dq a n d=.error I:=by
 unfold Dq;simp[h,b,c]
def St{a:kN Bb}{acc}{c}(h:m<Z a)(d:((Au a m).b==1)=K)(b:C0 a m=.ok (c,n)):Dq a m acc=Dq a n (acc++[c]):=by
 have e:=Hq b
 conv=>lhs;unfold Dq
 simp[h,d,b,e]
def Bg(hp:Int)(hn:bN)(hv bv:jR):kN jR:=[X J hp,O hn,hv,bv]
def AF.zL{N}(h:AF w N y T)(g:Z y=4)(d c b a):AF ((((w.setCell ⟨N,0,Y⟩ d).setCell ⟨N,1,Y⟩ c).setCell ⟨N,2,Y⟩ b).setCell ⟨N,3,Y⟩ a) N [d,c,b,a] T:=by
 have f:=(((h.set 0 d).set 1 c).set 2 b).set 3 a;have e:(((y.set 0 d).set 1 c).set 2 b).set 3 a=[d,c,b,a]:=by
  match y,g with
  |[_,_,_,_],_=>rfl
 rw[e]at f;exact f
def Cs.zL{d}(h:Cs w b z d n I){N}(a:N≠b)(c:z.ownBlock≠V N)(i g f e):Cs ((((w.setCell ⟨N,0,Y⟩ i).setCell ⟨N,1,Y⟩ g).setCell ⟨N,2,Y⟩ f).setCell ⟨N,3,Y⟩ e) b z d n I:=
 (((h.other (p:=⟨N,0,Y⟩) a c i).other (p:=⟨N,1,Y⟩) a c g).other (p:=⟨N,2,Y⟩) a c f).other (p:=⟨N,3,Y⟩) a c e
def Ac.zL(h:Ac M v w){N}(b:N∈M\/v.heap.size<=N)(f e d c):Ac M v ((((w.setCell ⟨N,0,Y⟩ f).setCell ⟨N,1,Y⟩ e).setCell ⟨N,2,Y⟩ d).setCell ⟨N,3,Y⟩ c):=
 (((h.setCell (p:=⟨N,0,Y⟩) b f).setCell (p:=⟨N,1,Y⟩) b e).setCell (p:=⟨N,2,Y⟩) b d).setCell (p:=⟨N,3,Y⟩) b c
structure JG(w:jH)(base:Nat)(hv bv:jR)(zA:kN AY)(ls:kN L6):Prop where
 E:kt w base 215 2 hv (Z zA) (qS Ar zA)
 body:Cg w base bv ls
def JG.C{M:kN Nat}{w w':jH}{a:Nat}{d e:jR}{c:kN AY}{f:kN L6}(h:JG w a d e c f)(k:Ac M w w')(b:∀i,i∈M->i<a:=by simp):JG w' a d e c f:=⟨Ad h.E k b,h.body.C k b⟩
def JG.base{w}{c base'}{b e}{a}{f}(h:JG w c b e a f)(d:base'<=c):JG w base' b e a f:=⟨Ak h.E d,h.body.base d⟩
def bD(b:Nat)(mv:jR)(ms:kN Bb)(br:Int)(w:jH)(e:Ending)(w':jH):Except Int (PC×Nat)->Prop
 | .ok (c,nx)=>∃ad cp ad2 cp2 ea,e=j1 (.tuple #[.agg (Za (Bg c.hp c.hn (U ad (Z c.zA) cp) (U ad2 (Z c.body) cp2))),kx T6])/\ea.map kD=c.body/\JG w' (w.heap.size+1) (U ad (Z c.zA) cp) (U ad2 (Z c.body) cp2) c.zA ea/\Cs w' b mv ms nx br/\Ac [b] w w'
 | .error p=>∃nx hp hn ad n cp ad2 n2 cp2,e=j1 (.tuple #[.agg (Za (Bg hp hn (U ad n cp) (U ad2 n2 cp2))),kx K])/\Cs w' b mv ms nx p/\Ac [b] w w'
theorem Wv(b F c H L w)(h:Cs w b F c H L)(ok:XT c)(HX:∀i,(Au c i).c<=1000000):rE rF 115 #[jj (V ⟨b,0,Y⟩)] w λe I=>bD b F c L w e I (C0 c H):=by
 have HO:=Ab ok;have M0:=Ab HX;clear HX;have M2:=h.zJ.lt;have IJ:∀k,F.ownBlock=V k->k<w.heap.size:=λk hk=>(h.row.lt k hk).2
 have h1:=Ab (h.zH ((kR [] w).alloc (Y6 (Za (Bg 0 ⟨#[]⟩ (U Y 0 0) (U Y 0 0))) 189)));have hN:=Ab (kS w (Bg 0 ⟨#[]⟩ (U Y 0 0) (U Y 0 0)) 189);have CW:=Ab ((kR [b] w).alloc (Y6 (Za (Bg 0 ⟨#[]⟩ (U Y 0 0) (U Y 0 0))) 189));have H2:(w.alloc (Y6 (Za (Bg 0 ⟨#[]⟩ (U Y 0 0) (U Y 0 0))) 189)).heap.size=w.heap.size+1:=ln
 clear h ok;go_enter func115,ntmps115;go_wp2_with fail
 change rE _ _ _ (w.alloc (Y6 (Za (Bg 0 ⟨#[]⟩ (U Y 0 0) (U Y 0 0))) 189)) _;generalize w.alloc (Y6 (Za (Bg 0 ⟨#[]⟩ (U Y 0 0) (U Y 0 0))) 189)=w1 at h1 hN CW H2|-;obtain⟨N,H7⟩:=kQ w.heap.size;rw[H7]at hN M2 H2 IJ|-;have R:jV (∀k,N<=k->F.ownBlock≠V k):=λk hk e=>by have:=IJ k e;omega
 clear IJ;have Q:=Ab H7;clear H7;refine(Pn b F c H L _ h1 HO).G ?_;intro e D S;clear h1;cases ht:Ep c H with
 |error q=>
  rw[ht]at S;obtain⟨n9,ap,an,d,LM,f,rfl,h2,k2⟩:=S;have HF:jV (C0 c H=.error q):=by show _=_;unfold C0;rw[ht]
  clear ht;have v:=hN.C k2 li;have Go:=Ab (CW.H k2);obtain⟨c0,c1,c2,c3⟩:=v.c4;have nf:=v.qI;have d0:=λo=>(v.alloc o).D 0
  have d1:=λo=>(v.alloc o).D 1
  have d2:=λo=>(v.alloc o).D 2
  have d3:=λo=>(v.alloc o).D 3
  have df:=λo=>(v.alloc o).qI
  simp[Bg]at c0 c1 c2 c3 d0 d1 d2 d3;have NE:=v.lt;have q1:¬N=D.heap.size:=lc
  have q2:¬D.heap.size=N:=lc
  have z:=Ab h2;have G:=Ab v;clear h2 v k2 hN CW;simp only[AV];go_wp2;rw[HF.o];have AB:=(G.zL rfl (X J 0) (O ⟨#[]⟩) (U Y 0 0) (U Y 0 0)).alloc (Y6 #[X J ap,O an,U d LM f] 187);refine mF (As (P:=rF) (fn:=Tryz.f115) (p:=2) (u:=3) rfl rfl AB underlying189 rfl lo) rfl ?_;refine⟨n9,0,ky,Y,0,0,Y,0,0,rfl,?_,?_⟩
  .exact(z.zL lc (R N lc) _ _ _ _).zH ((kR [] _).alloc _)
  .have:=Aa Q;exact(Go.zL oi _ _ _ _).alloc _
 |ok r=>
  obtain⟨⟨p,s,a⟩,n⟩:=r;rw[ht]at S;obtain⟨tv,NB,rfl,MN,H5,h2,k2⟩:=S;obtain⟨d,f,rfl⟩:=Aj H5;have Bx:jV (C0 c H=if BZ (Au c n) bq then .error (((Au c n).c:Int)+1)else if BZ (Au c n) jG then(match Fe c (n+1) [] with| .error q=> .error q| .ok (j,W)=>OQ c W ⟨p,s,a,j⟩)else OQ c n ⟨p,s,a,[]⟩):=by
   show _=_;unfold C0;rw[ht]
  clear ht;have HI:kt D (N+1) 215 2 (U d (Z a) f) (Z a) (qS Ar a):=Ak H5 lc;have K7:jV (∀k,(U d (Z a) f).ownBlock=V k->k<D.heap.size):=λk e=>(HI.lt k e).2
  have v:=hN.C k2 li;have Go:=CW.H k2;have M6:=v.lt;have L0:N+1<=D.heap.size:=by have:=k2.size;omega
  clear H5 MN k2 hN CW H2;have CC:=Ab (h2.zH (((kR [] D).alloc (Y6 (Za (AV ⟨p,s,U d (Z a) f⟩)) 187)).alloc (Y6 (Za (Bg p s (U d (Z a) f) (U Y 0 0))) 189)));have HS:=Ab ((v.alloc (Y6 (Za (AV ⟨p,s,U d (Z a) f⟩)) 187)).alloc (Y6 (Za (Bg p s (U d (Z a) f) (U Y 0 0))) 189));have HW:=Ab ((Go.alloc (Y6 (Za (AV ⟨p,s,U d (Z a) f⟩)) 187)).alloc (Y6 (Za (Bg p s (U d (Z a) f) (U Y 0 0))) 189));have FW:jV (AF ((D.alloc (Y6 (Za (AV ⟨p,s,U d (Z a) f⟩)) 187)).alloc (Y6 (Za (Bg p s (U d (Z a) f) (U Y 0 0))) 189)) (D.heap.size+1) (Bg p s (U d (Z a) f) (U Y 0 0)) 189):=by
   have hh:=kS (D.alloc (Y6 (Za (AV ⟨p,s,U d (Z a) f⟩)) 187)) (Bg p s (U d (Z a) f) (U Y 0 0)) 189;rw[show(D.alloc (Y6 (Za (AV ⟨p,s,U d (Z a) f⟩)) 187)).heap.size=D.heap.size+1 from ln]at hh
   exact hh
  have HZ:=Ab (mg (mg HI (Y6 (Za (AV ⟨p,s,U d (Z a) f⟩)) 187)) (Y6 (Za (Bg p s (U d (Z a) f) (U Y 0 0))) 189));clear h2 v Go HI;simp only[AV];go_wp2_with fail
  change rE _ _ _ ((D.alloc (Y6 (Za (AV ⟨p,s,U d (Z a) f⟩)) 187)).alloc (Y6 (Za (Bg p s (U d (Z a) f) (U Y 0 0))) 189)) _;generalize(D.alloc (Y6 (Za (AV ⟨p,s,U d (Z a) f⟩)) 187)).alloc (Y6 (Za (Bg p s (U d (Z a) f) (U Y 0 0))) 189)=w3 at CC HS HW FW HZ|-;obtain⟨C,KK⟩:=kQ (D.heap.size+1);have NL:N+1<C:=lc
  have Mo:jV ((U d (Z a) f).ownBlock≠V C):=λe=>by have:=Aa K7 C e;omega
  clear K7;rw[KK]at FW|-;clear KK L0 M6;refine(Us b F c n L bq _ CC (Au c n) (Bv CC.lt)).G ?_;rintro e w4 ⟨rfl,k4⟩;have A0:=Ab (CC.zH k4);have FO:=Ab (HS.C k4);have KA:=Ab (FW.C k4);have FC:=Ab (HW.H (k4.G ln));have HV:=Ab (Ad HZ k4);clear CC HS FW HW HZ k4;cases hc:BZ (Au c n) bq with
  |true=>
   (have HF:jV (C0 c H=.error (((Au c n).c:Int)+1)):=by show _=_;rw[Aa Bx,hc];rfl);clear Bx hc KA HV;(go_wp2_with fail);refine(JP b F c n L _ A0 (Au c n) (Bv A0.lt)).G ?_;rintro e w5 ⟨rfl,M⟩;have K9:=Ab (A0.zH M);have Ax:=Ab (FO.C M);have T:=Ab (FC.H (M.G ln));have HX:(Au c n).c<=1000000:=M0 n;clear A0 FO FC M;(go_wp2_with fail);refine(FM b F c n L (((Au c n).c:Int)+1) _ K9).G ?_;rintro e w6 ⟨rfl,h6,B⟩;have t:=Ax.C B li;have BS:=Ab (T.H B);obtain⟨c0,c1,c2,c3⟩:=t.c4;have nf:=t.qI;simp[Bg]at c0 c1 c2 c3;have G:=Ab t;have z:=Ab h6;clear t h6 B K9 Ax T;go_wp2;rw[HF.o];have AB:=G.zL rfl (X J 0) (O ⟨#[]⟩) (U Y 0 0) (U Y 0 0);refine mF (As (P:=rF) (fn:=Tryz.f115) (p:=2) (u:=3) rfl rfl AB underlying189 rfl lo) rfl ?_;refine⟨n,0,ky,Y,0,0,Y,0,0,rfl,?_,?_⟩
   .exact z.zL lc (R N lc) _ _ _ _
   .have:=Aa Q;exact BS.zL oi _ _ _ _
  |false=>
   have FF:=Ab hc;clear hc;(go_wp2_with fail);refine(Hd b F c n L jG _ A0 (Au c n) (Bv A0.lt) (HO.seen A0.lt jG)).G ?_;rintro e w5 ⟨rfl,h5,M⟩;have Ax:=Ab (FO.C M li);have A2:=Ab (KA.C M li);have T:=Ab (FC.H M);have B9:=Ab (Ad HV M li);clear A0 FO KA FC HV M;cases hd:BZ (Au c n) jG with
   |false=>
    rw[hd]at h5;simp only[ma,rm]at h5;(have HD:jV (C0 c H=OQ c n ⟨p,s,a,[]⟩):=by show _=_;rw[Aa Bx,Aa FF,hd];rfl);have z:=Ab h5;have G:=Ax;have A:=A2;have HK:=T;have HP:jV (JG w5 (N+1) (U d (Z a) f) (U Y 0 0) a []):=⟨B9,Cg.nil _ _⟩;clear hd h5 Bx FF Ax A2 T B9;have DT:=z.lt;have H6:=Ab (OE b F c n L aQ _ (z.zH (kR [] w5).drew) (Au c n) (Bv DT) (HO.seen DT aQ));obtain⟨e0,e1,e2,e3⟩:=A.c4;simp[Bg]at e0 e1 e2 e3;(have HH:jV (∀m,Ac [b] w5.drew m->AF m N (Bg 0 ⟨#[]⟩ (U Y 0 0) (U Y 0 0)) 189/\AF m C (Bg p s (U d (Z a) f) (U Y 0 0)) 189):=λm k=>⟨G.drew.C k li,A.drew.C k li⟩);have q1:¬C=N:=lc;have q2:¬N=C:=lc;clear z G A;go_wp2_with fail
    go_region_held3 (λI=>jY I ⟨C,0,Y⟩=V (X J p)/\jY I ⟨C,1,Y⟩=V (O s)/\jY I ⟨C,2,Y⟩=V (U d (Z a) f)/\jY I ⟨C,3,Y⟩=V (U Y 0 0)) (go_keep) ((go_at_call 163;refine H6.G ?_;rintro e m ⟨rfl,l,E⟩;have g:=Aa HH m E;have f0:=g.2.D 0;have f1:=g.2.D 1;have f2:=g.2.D 2;have f3:=g.2.D 3;have p0:=g.1.D 0;have p1:=g.1.D 1;have p2:=g.1.D 2;have p3:=g.1.D 3;have pf:=g.1.qI;simp[Bg]at f0 f1 f2 f3 p0 p1 p2 p3;have HT:=Ab (And.intro l (And.intro E g));clear l E g))
    rename_i HJ;clear HJ;go_wp2;obtain⟨l,E,g,_⟩:=HT;have AB:=g.zL rfl (X J p) (O s) (U d (Z a) f) (U Y 0 0);have FA:Ac [b] w m:=HK.drew.H E;have KB:JG m (N+1) (U d (Z a) f) (U Y 0 0) a []:=(HP.C (kR [] w5).drew).C E li;refine mF (As (P:=rF) (fn:=Tryz.f115) (p:=2) (u:=3) rfl rfl AB underlying189 rfl lo) rfl ?_;rw[Aa HD];cases hcl:BZ (Au c n) aQ with
    |true=>
     rw[hcl]at l;simp only[ro]at l;unfold OQ;rw[hcl];simp only[ro];refine⟨d,f,Y,0,[],rfl,rfl,?_,?_,?_⟩
     .rw[Aa Q];exact KB.C ((kR [N] m).zL ln _ _ _ _)
     .exact l.zL lc (R N lc) _ _ _ _
     .have:=Aa Q;exact FA.zL oi _ _ _ _
    |false=>
     rw[hcl]at l;simp only[ma,rm]at l;unfold OQ;rw[hcl];simp only[ma,rm];refine⟨n,p,s,d,Z a,f,Y,_,0,rfl,?_,?_⟩
     .exact l.zL lc (R N lc) _ _ _ _
     .have:=Aa Q;exact FA.zL oi _ _ _ _
   |true=>
    rw[hd]at h5;simp only[ro]at h5;have FT:jV (C0 c H=(match Fe c (n+1) [] with| .error q=> .error q| .ok (j,W)=>OQ c W ⟨p,s,a,j⟩)):=by show _=_;rw[Aa Bx,Aa FF,hd];rfl
    have LD:=Ab h5;clear hd h5 Bx FF;have MB:=A2.lt;(go_wp2_with fail);refine(TN b F c (n+1) L _ LD HO).G ?_;intro e w6 S;clear LD;cases hb:Fe c (n+1) [] with
    |error q=>
     rw[hb]at S;obtain⟨n9,rfl,h6,B⟩:=S;(have HF:jV (C0 c H=.error q):=by show _=_;rw[Aa FT,hb]);have t:=Ax.C B li;have AT:=A2.C B li;have BS:=Ab (T.H B);obtain⟨c0,c1,c2,c3⟩:=t.c4;have nf:=t.qI;have d3:=AT.D 3;have df:=AT.qI;simp[Bg]at c0 c1 c2 c3 d3;have q1:¬C=N:=lc;have q2:¬N=C:=lc;have G:=Ab t;have z:=Ab h6;clear t AT h6 B hb FT Ax A2 T B9;go_wp2;rw[HF.o];have AB:=(G.bW ⟨C,3,Y⟩ li (U Y 0 0)).zL rfl (X J 0) (O ⟨#[]⟩) (U Y 0 0) (U Y 0 0);refine mF (As (P:=rF) (fn:=Tryz.f115) (p:=2) (u:=3) rfl rfl AB underlying189 rfl lo) rfl ?_;refine⟨n9,0,ky,Y,0,0,Y,0,0,rfl,?_,?_⟩
     .exact(z.other (p:=⟨C,3,Y⟩) li (R C lc) _).zL lc (R N lc) _ _ _ _
     .have:=Aa Q;exact(BS.setCell (p:=⟨C,3,Y⟩) nc _).zL oi _ _ _ _
    |ok r=>
     obtain⟨j,W⟩:=r;rw[hb]at S;obtain⟨y,x,FL,rfl,K6,KS,h6,B⟩:=S;(have HD:jV (C0 c H=OQ c W ⟨p,s,a,j⟩):=by show _=_;rw[Aa FT,hb]);have t:=Ax.C B li;have AT:=A2.C B li;have BS:=T.H B;have LC:=Ad B9 B li;have d3:=AT.D 3;have df:=AT.qI;simp[Bg]at d3;have K8:=Ab t;have KD:=Ab AT;have LB:=Ab BS;have K5:=Ab LC;have IS:=Ab (And.intro K6 KS);have K3:=Ab h6;clear t AT BS LC K6 KS h6 B hb FT Ax A2 T B9;(go_wp2_with fail);have Nx:C<w5.heap.size:=MB;have z:=Ab (K3.other (p:=⟨C,3,Y⟩) li (R C lc) (U y (Z j) x));have G:=Ab (K8.bW ⟨C,3,Y⟩ li (U y (Z j) x));have A:jV (AF (w6.setCell ⟨C,3,Y⟩ (U y (Z j) x)) C (Bg p s (U d (Z a) f) (U y (Z j) x)) 189):=KD.set 3 _;have HK:jV (Ac [b] w (w6.setCell ⟨C,3,Y⟩ (U y (Z j) x))):=by
      have:=Aa Q;exact LB.setCell (p:=⟨C,3,Y⟩) nc _
     have HP:jV (JG (w6.setCell ⟨C,3,Y⟩ (U y (Z j) x)) (N+1) (U d (Z a) f) (U y (Z j) x) a FL):=by
      have kC:Ac [C] w6 (w6.setCell ⟨C,3,Y⟩ (U y (Z j) x)):=(kR [C] w6).setCell ln _;refine⟨?_,(IS.2.C kC li).base lc⟩;exact Ah K5 (p:=⟨C,3,Y⟩) Mo _
     have HM:jV (FL.map kD=j):=IS.1;clear K3 K8 KD LB K5 IS d3 df;generalize w6.setCell ⟨C,3,Y⟩ (U y (Z j) x)=w7 at z G A HK HP|-;have DT:=z.lt;have H6:=Ab (OE b F c W L aQ _ (z.zH (kR [] w7).drew) (Au c W) (Bv DT) (HO.seen DT aQ));obtain⟨e0,e1,e2,e3⟩:=A.c4;simp[Bg]at e0 e1 e2 e3;(have HH:jV (∀m,Ac [b] w7.drew m->AF m N (Bg 0 ⟨#[]⟩ (U Y 0 0) (U Y 0 0)) 189/\AF m C (Bg p s (U d (Z a) f) (U y (Z j) x)) 189):=λm k=>⟨G.drew.C k li,A.drew.C k li⟩);have q1:¬C=N:=lc;have q2:¬N=C:=lc;clear z G A;go_wp2_with fail
     go_region_held3 (λI=>jY I ⟨C,0,Y⟩=V (X J p)/\jY I ⟨C,1,Y⟩=V (O s)/\jY I ⟨C,2,Y⟩=V (U d (Z a) f)/\jY I ⟨C,3,Y⟩=V (U y (Z j) x)) (go_keep) ((go_at_call 163;refine H6.G ?_;rintro e m ⟨rfl,l,E⟩;have g:=Aa HH m E;have f0:=g.2.D 0;have f1:=g.2.D 1;have f2:=g.2.D 2;have f3:=g.2.D 3;have p0:=g.1.D 0;have p1:=g.1.D 1;have p2:=g.1.D 2;have p3:=g.1.D 3;have pf:=g.1.qI;simp[Bg]at f0 f1 f2 f3 p0 p1 p2 p3;have HT:=Ab (And.intro l (And.intro E g));clear l E g))
     rename_i HJ;clear HJ;go_wp2;obtain⟨l,E,g,_⟩:=HT;have AB:=g.zL rfl (X J p) (O s) (U d (Z a) f) (U y (Z j) x);have FA:Ac [b] w m:=HK.drew.H E;have KB:JG m (N+1) (U d (Z a) f) (U y (Z j) x) a FL:=(HP.C (kR [] w7).drew).C E li;refine mF (As (P:=rF) (fn:=Tryz.f115) (p:=2) (u:=3) rfl rfl AB underlying189 rfl lo) rfl ?_;rw[Aa HD];cases hcl:BZ (Au c W) aQ with
     |true=>
      rw[hcl]at l;simp only[ro]at l;unfold OQ;rw[hcl];simp only[ro];refine⟨d,f,y,x,FL,rfl,HM,?_,?_,?_⟩
      .rw[Aa Q];exact KB.C ((kR [N] m).zL ln _ _ _ _)
      .exact l.zL lc (R N lc) _ _ _ _
      .have:=Aa Q;exact FA.zL oi _ _ _ _
     |false=>
      rw[hcl]at l;simp only[ma,rm]at l;unfold OQ;rw[hcl];simp only[ma,rm];refine⟨W,p,s,d,Z a,f,y,_,x,rfl,?_,?_⟩
      .exact l.zL lc (R N lc) _ _ _ _
      .have:=Aa Q;exact FA.zL oi _ _ _ _
def BU(s:bN)(a:Nat):Bb:=if Af s a<s.size then Jw (Er s (Af s a)).1 else Ff s
def At(s:bN)(ms:kN Bb)(nx a:Nat):Prop:=ms.drop nx=Dw s a
def SI(s a):Dw s (Af s a)=Dw s a:=by
 unfold Dw
 by_cases b:Af s a<s.size
 .rw[GL (CF s a) b,GL rfl b]
 .rw[JU b,JU (by rw[CF];exact b)]
def At.gap{b}(h:At s b n m):At s b n (Af s m):=by
 unfold At at*;rw[SI];exact h
def At.E{b}(h:At s b n m):Au b n=BU s m:=by
 have e:b[n]?=(Dw s m)[0]?:=by rw[<-h];simp
 unfold Au BU;rw[mq,e];unfold Dw SF;split
 .simp
 .simp
def At.next{b}(h:At s b n m)(c:Af s m=j)(d:j<s.size):At s b (n+1) (Er s j).2:=by
 unfold At at*;rw[<-List.drop_drop,h];unfold Dw;rw[GL c d];simp
def At.lt{b}(h:At s b n m):n<Z b:=by
 have:Z (b.drop n)=Z (Dw s m):=by rw[h]
 unfold Dw at this;simp at this;omega
def IQ(h:¬Af s n<s.size):BU s n=Ff s:=by simp[BU,h]
def Ig(c:Af s n=j)(h)(d:AC s[j]=T6):
  BU s n=⟨if AL AC s j-j<=4 then 2 else 0,j,s.extract j (AL AC s j)⟩/\(Er s j).2=AL AC s j:=by
 have e:=C5 AC s j lc;have f:Er s j=(⟨2,j,s.extract j (AL AC s j)⟩,AL AC s j):=by unfold Er;rw[Fa h,d];rfl
 unfold BU;rw[c,mo h,f];simp only[Jw,JS,size_extract e,ro];by_cases b:AL AC s j-j<=4<;>simp[b]
def Wp(h)(a:k<=s.size)(b:j<k)(c):Ey (s.extract j k) 0 c=(s[j]==c):=by
 unfold Ey;rw[dif_pos li];simp[ByteArray.getElem_extract]
def FG(i:Af s n=j)(h)(k:AC s[j]=K)(b:Aq s[j]=T6):
  BU s n=⟨if 3<AL Aq s j-j\/(s[j]=48/\1<AL Aq s j-j)then 0 else 3,j,s.extract j (AL Aq s j)⟩/\(Er s j).2=AL Aq s j:=by
 have c:=C5 Aq s j lc;have f:j<AL Aq s j:=by rw[Ct _ _ _ h b];have:=Cz Aq s (j+1);omega
 have l:Er s j=(⟨3,j,s.extract j (AL Aq s j)⟩,AL Aq s j):=by unfold Er;rw[Fa h,k,b];rfl
 unfold BU;rw[i,mo h,l];have e:JS ⟨3,j,s.extract j (AL Aq s j)⟩= !decide (3<AL Aq s j-j\/(s[j]=48/\1<AL Aq s j-j)):=by
  unfold JS;simp only[size_extract c,Wp h c f];rw[mm lu,mo trivial,nz];simp only[nN,mC,oV,n6,nX,mM,ne_eq];by_cases d:s[j]=48
  .exact qy
  exact qy
 unfold Jw;rw[e];by_cases g:3<AL Aq s j-j\/(s[j]=48/\1<AL Aq s j-j)<;>simp[g]
def KT{a j}(c:Af s a=j)(h)(d:s[j]=58)(b:Ey s (j+1) 45=T6):
  BU s a=⟨5,j,jG⟩/\(Er s j).2=j+2:=by
 have e:Er s j=(⟨5,j,jG⟩,j+2):=by unfold Er;rw[Fa h,d,b];rfl
 unfold BU;rw[c,mo h,e];exact⟨rfl,rfl⟩
def G6{a j}(f:Af s a=j)(h)(c:AC s[j]=K)(b:Aq s[j]=K)(l:¬(s[j]=58/\Ey s (j+1) 45=T6))(d:s[j].toNat<128):
  BU s a=⟨EQ (s[j].toNat:Int),j,⟨#[s[j]]⟩⟩/\(Er s j).2=j+1:=by
 have i:¬(97<=s[j].toNat/\s[j].toNat<=122):=λh=>by rw[(Da _).2 h]at c;cases c
 have g:¬(48<=s[j].toNat/\s[j].toNat<=57):=λh=>by rw[(CG _).2 h]at b;cases b
 have k:Er s j=(⟨EQ s[j].toNat,j,⟨#[s[j]]⟩⟩,j+1):=by
  unfold Er;rw[Fa h,c,b,oS s j h d];simp;rw[mm l];simp only[CM,GJ _ d]
 unfold BU;rw[f,mo h,k];unfold Jw JS;rcases Su i g with e|e|e<;>simp[e]
def Ih(f:Af s n=j)(h)(c:128<=s[j].toNat):(BU s n).b=0/\(BU s n).c=j:=by
 have g:AC s[j]=K:=by cases b:AC s[j] with|false=>rfl|true=>have:=(Da _).1 b;omega
 have d:Aq s[j]=K:=by cases b:Aq s[j] with|false=>rfl|true=>have:=(CG _).1 b;omega
 have i:¬(s[j]=58/\Ey s (j+1) 45=T6):=λb=>by rw[b.1]at c;simp at c
 have k:=(qo s j h c).1;have e:EQ (Utf8.decode s j).1=0:=by unfold EQ;exact lc
 unfold BU Er;rw[f,mo h,Fa h,g,d];rw[mm i];simp[CM,Jw,JS,e]
def DW(d:n<=s.size):(BU s n).c=Af s n:=by
 obtain⟨j,b⟩:=kQ (Af s n);have f:=BI s n d;by_cases h:j<s.size
 .by_cases e:s[j].toNat<128
  .cases hl:AC s[j] with
   |true=>rw[(Ig b h hl).1,b]
   |false=>
    cases hd:Aq s[j] with
    |true=>rw[(FG b h hl hd).1,b]
    |false=>
     by_cases c:s[j]=58/\Ey s (j+1) 45=T6
     .rw[(KT b h c.1 c.2).1,b]
     .rw[(G6 b h hl hd c e).1,b]
  .rw[(Ih b h lc).2,b]
 .rw[IQ lc];simp only[Ff];omega
def Fm:kN rC:=[46,44,33,61,35,60,40,41]
def Um(h:g∈Fm):g.toNat<128/\AC g=K/\Aq g=K/\g≠58/\EQ (g.toNat:Int)=5/\DN g=K:=by
 simp only[Fm,l9,nr,or_false]at h;rcases h with rfl|rfl|rfl|rfl|rfl|rfl|rfl|rfl<;>decide
def T1(x c):(((⟨#[x]⟩:bN).toList==(⟨#[c]⟩:bN).toList))=(x==c):=ln
def Eu{a}{c}(n:c∈Fm):BZ (BU s a) ⟨#[c]⟩=Ey s (Af s a) c:=by
 obtain⟨j,d⟩:=kQ (Af s a);obtain⟨t,l,i,k,q,_⟩:=Um n;rw[d];unfold BZ;by_cases h:j<s.size
 .have r:Ey s j c=(s[j]==c):=by simp[Ey,h]
  rw[r];have g:∀x:rC,(AC x=T6\/Aq x=T6\/128<=x.toNat)->(x==c)=K:=by
   intro x b;simp;rintro rfl;exact qy
  by_cases o:s[j].toNat<128
  .cases hl:AC s[j] with
   |true=>
    rw[(Ig d h hl).1,g _ (j2 hl)];exact li
   |false=>
    cases hd:Aq s[j] with
    |true=>
     rw[(FG d h hl hd).1,g _ (j3 (j2 hd))];exact li
    |false=>
     by_cases e:s[j]=58/\Ey s (j+1) 45=T6
     .rw[(KT d h e.1 e.2).1];(have m:(s[j]==c)=K:=by simp[e.1,Ne.symm k]);have p:(jG.toList==(⟨#[c]⟩:bN).toList)=K:=by
       rw[show jG.toList=[58,45] from by rw[mL];rfl,show(⟨#[c]⟩:bN).toList=[c] from ln]
       simp
      rw[m,p,pF]
     .rw[(G6 d h hl hd e o).1];exact qr
  .have:=Ih d h lc;exact qr
 .rw[IQ lc];simp[Ff,Ey,h]
def At.take{e}{g a}{c}(h:At s e g a)(n:c∈Fm)(f:Ey s (Af s a) c=T6):At s e (g+1) (Af s a+1)/\Af s a+1<=s.size:=by
 obtain⟨m,k,i,j,o,_⟩:=Um n;have d:=Gc f;have b:s[Af s a]=c:=by simpa[Ey,d] using f
 have:=h.next rfl d;rw[(G6 (a:=a) rfl d (by rw[b];exact k) (by rw[b];exact i) (by rw[b];exact λl=>j l.1) (by rw[b];exact m)).2]at this;exact⟨this,lc⟩
def P7{α β:Type}(R:α->β->Prop)(s:bN)(ms:kN Bb):Except Int (α×Nat)->β×Nat×rD->Prop
 | .ok (x,n),(y,a,bd)=>bd=K/\R x y/\At s ms n a/\a<=s.size
 | .error p,(_,a,bd)=>bd=T6/\p=(a:Int)
def ct(t:AK):AY:=⟨(t.v.toNat:Int),D9 t.s⟩
def J1(h)(a:k<=s.size)(b:j<k):∃c,(s.extract j k)[0]=s[j]:=
 ⟨li,by simp[ByteArray.getElem_extract]⟩
def UT(c)(h:c.toNat<128):DC ⟨#[c]⟩ 0 0=(c.toNat:Int):=by
 have a:0<(⟨#[c]⟩:bN).size:=Nat.zero_lt_one;rw[MC 0 a];have b:=oS _ 0 a h;rw[b];unfold DC;rfl
theorem Vy{u}(h:At s u n m)(E:m<=s.size):P7 (λt F=>t=ct F) s u (GX (Au u n) n) (AN s m K):=by
 obtain⟨j,c⟩:=kQ (Af s m);have P:=BI s m E;rw[h.E];unfold AN GX;simp only[ma,rm];by_cases b:j<s.size
 .rw[dif_pos lc];simp only[c];have p:=h.next c b;by_cases y:s[j].toNat<128
  .cases f:AC s[j] with
   |true=>
    have L:=(Da _).1 f;have g:DF s[j]=K:=by cases d:DF s[j] with|false=>rfl|true=>have:=(Fy _).1 d;omega
    have e:Aq s[j]=K:=by cases d:Aq s[j] with|false=>rfl|true=>have:=(CG _).1 d;omega
    obtain⟨l,k⟩:=Ig c b f;rw[k]at p;(have D:Af s j=j:=by rw[<-c];exact CF s m);(have v:j<AL AC s j:=by rw[Ct _ _ _ b f];have:=Cz AC s (j+1);omega);have o:=C5 AC s j lc;rw[l,g,e];by_cases i:AL AC s j-j<=4
    .rw[LI D rfl lc];simp only[i,ro];obtain⟨A,q⟩:=J1 b o v;refine⟨rfl,?_,p,o⟩;unfold ct;simp only;rw[<-ZE A (by rw[q];omega)];rfl
    .rw[Ev D rfl lc];simp only[i,rm];exact⟨rfl,rfl⟩
   |false=>
    cases e:Aq s[j] with
    |true=>
     have N:=(CG _).1 e;have g:DF s[j]=K:=by cases d:DF s[j] with|false=>rfl|true=>have:=(Fy _).1 d;omega
     obtain⟨l,k⟩:=FG c b f e;rw[k]at p;have o:=C5 Aq s j lc;rw[l,g];by_cases i:3<AL Aq s j-j\/(s[j]=48/\1<AL Aq s j-j)
     .rw[mo i,mo i];exact⟨rfl,rfl⟩
     .rw[mm i,mm i];(have v:j<AL Aq s j:=by rw[Ct _ _ _ b e];have:=Cz Aq s (j+1);omega);obtain⟨A,q⟩:=J1 b o v;have C:=size_extract (s:=s) (j:=j) o;(have M:s[j].toNat=48->s[j]=48:=λh=>nW.1 h);refine⟨rfl,?_,p,o⟩;unfold ct;simp only;rw[<-cP A (by rw[q];omega) (by rw[q];omega) lc (λh=>by rw[q]at h;exact qy)];rfl
    |false=>
     cases g:DF s[j] with
     |true=>
      have w:=(Fy _).1 g;(have r:¬(s[j]=58/\Ey s (j+1) 45=T6):=λd=>by rw[d.1]at w;simp at w);obtain⟨l,k⟩:=G6 c b f e r y;rw[k]at p;(have I:EQ s[j].toNat=4:=by unfold EQ;exact lc);rw[l,I];refine⟨rfl,?_,p,lc⟩;rw[UT _ y];rfl
     |false=>
      have z:A9 s j K=(ky,j,T6):=Ev (by rw[<-c];exact CF s m) (Fu _ _ _ b f) (j2 rfl);(have w:¬(65<=s[j].toNat/\s[j].toNat<=90):=λh=>by rw[(Fy _).2 h]at g;cases g);(have L:¬(97<=s[j].toNat/\s[j].toNat<=122):=λh=>by rw[(Da _).2 h]at f;cases f);(have N:¬(48<=s[j].toNat/\s[j].toNat<=57):=λh=>by rw[(CG _).2 h]at e;cases e);simp only[ma,rm,nE,ro,z];(have G:(BU s m).c=j:=by rw[DW E,c]);have x:(BU s m).b≠2/\(BU s m).b≠3/\(BU s m).b≠4:=by
       by_cases r:s[j]=58/\Ey s (j+1) 45=T6
       .rw[(KT c b r.1 r.2).1];simp
       .rw[(G6 c b f e r y).1];unfold EQ;exact li
      simp only[n5,x.1,x.2.1,x.2.2,qp,nN,or_self,rm,G];exact⟨rfl,rfl⟩
  .have f:AC s[j]=K:=by cases d:AC s[j] with|false=>rfl|true=>have:=(Da _).1 d;omega
   have e:Aq s[j]=K:=by cases d:Aq s[j] with|false=>rfl|true=>have:=(CG _).1 d;omega
   have g:DF s[j]=K:=by cases d:DF s[j] with|false=>rfl|true=>have:=(Fy _).1 d;omega
   have z:A9 s j K=(ky,j,T6):=Ev (by rw[<-c];exact CF s m) (Fu _ _ _ b f) (j2 rfl);obtain⟨l,k⟩:=Ih c b lc;rw[g,e];simp only[ma,rm,nE,ro,z,l,k];exact⟨rfl,rfl⟩
 .rw[dif_neg lc,IQ lc];simp only[Ff];refine⟨rfl,?_⟩;omega
def Dt(t:AK):Prop:=(t.v=0/\A7 t.s)\/(65<=t.v.toNat/\t.v.toNat<=90/\t.s=ky)
def A7.size{s}(h:A7 s):s.size≠0:=by
 rw[Bi];rcases h with⟨c,r,h,_⟩|h
 .rw[h];simp
 .rcases Ft h with⟨c,e,_⟩|⟨c,d,e,_⟩|⟨c,d,f,e,_⟩<;>rw[e]<;>simp
def Dt.zD{t}(h:Dt t):BJ t:=by
 rcases h with⟨a,b⟩|h
 .exact j2 ⟨a,b.size⟩
 .exact j3 ⟨h.1,h.2.1⟩
def JZ(h)(a:k<=s.size)(f:j<k):∃r,(s.extract j k).toList=s[j]::r/\Z r+1=k-j:=by
 obtain⟨d,e⟩:=J1 h a f;obtain⟨r,c,b⟩:=I3 _ d;exact qr
def LH{p}(h:AL p s i≠i):∃a,p s[i]=T6:=by
 by_cases a:i<s.size
 .refine⟨a,?_⟩;cases hp:p s[i] with
  |true=>rfl
  |false=>exact rl (Fu p s i a hp) h
 .exact rl (GI p s i a) h
def PG{p}(h:AL p s i≠i):AL p s i<=s.size:=by
 obtain⟨a,_⟩:=LH h;exact C5 p s i lc
def Py(h:(A9 s n K).2.2=K):A7 (A9 s n K).1:=by
 unfold A9 at h|-;rw[mm ln]at h|-;by_cases a:AL AC s (Af s n)=Af s n\/4<AL AC s (Af s n)-Af s n
 .rw[mo a]at h;cases h
 .rw[mm a];have b:AL AC s (Af s n)≠Af s n:=λe=>a (j2 e)
  obtain⟨d,c⟩:=LH b;have f:=Cz AC s (Af s n);obtain⟨r,e,_⟩:=JZ d (PG b) (by omega:Af s n<AL AC s (Af s n));exact j2 ⟨_,r,e,(Da _).1 c⟩
def U8(i)(g:Aq s[j]=T6)(h:¬(3<AL Aq s j-j\/(s[j]=48/\1<AL Aq s j-j))):A7 (s.extract j (AL Aq s j)):=by
 have l:=Cz Aq s (j+1);rw[<-Ct Aq s j i g]at l;have n:=C5 Aq s j lc;obtain⟨r,e,d⟩:=JZ i n (by omega:j<AL Aq s j);have f:=(CG _).1 g;have p:¬3<AL Aq s j-j:=λx=>h (j2 x)
 have k:1<AL Aq s j-j->49<=s[j].toNat:=by
  intro o;have m:s[j]≠48:=λx=>h (j3 ⟨x,o⟩)
  have:s[j].toNat≠48:=λx=>m (nW.1 (by rw[x];rfl))
  omega
 refine j3 ?_;rw[e]
 match r,d with
 |[],_=>simp only[fP];exact oy f
 |[a],d=>simp only[fP];exact oy ⟨k (by simp at d;omega),f.2⟩
 |[a,b],d=>simp only[fP];exact oy ⟨k (by simp at d;omega),f.2⟩
 |a::b::c::r,d=>simp at d;omega
def Kw(h:(AN s n K).2.2=K):Dt (AN s n K).1:=by
 unfold AN at h|-;by_cases a:Af s n<s.size
 .rw[dif_pos a]at h|-;cases hu:DF s[Af s n] with
  |true=>
   exact j3 ⟨((Fy _).1 hu).1,((Fy _).1 hu).2,rfl⟩
  |false=>
   rw[hu,mm ln]at h;cases hd:Aq s[Af s n] with
   |false=>
    rw[hd,nE,mo rfl]at h;exact j2 ⟨rfl,Py h⟩
   |true=>
    rw[hd,oK,mm ln]at h;by_cases b:3<AL Aq s (Af s n)-Af s n\/(s[Af s n]=48/\1<AL Aq s (Af s n)-Af s n)
    .rw[mo b]at h;cases h
    .rw[mm b];exact j2 ⟨rfl,U8 a hd b⟩
 .exact qr
def Y5{s}{b}(h:(CO s b).2.2=K):∀t∈(CO s b).1,Dt t:=by
 fun_induction CO s b with
 |case1 b hc _ _ ih=>
  intro t a;have c:(AN s b K).2.2=K:=qr
  rcases l9.1 a with rfl|a
  .exact Kw c
  .exact ih h t a
 |case2 b hc=>
  intro t a;rw[lX]at a;subst a;exact Kw h
def Ji(h:(BM s n B g).2=K):B=K:=by
 unfold BM at h;exact qr
structure MU(A:Dp):Prop where
 a:A7 A.a
 qH:∀t∈A.qH,Dt t
def NF(h:(A5 s n K).2.2=K):MU (A5 s n K).1:=by
 unfold A5 at h|-;simp at h|-;have a:=Ji h;have b:(BM s (A9 s (AS s n K) K).2.1 (A9 s (AS s n K) K).2.2 40).2=K:=by
  cases hm:(BM s (A9 s (AS s n K) K).2.1 (A9 s (AS s n K) K).2.2 40).2 with
  |false=>rfl
  |true=>unfold Ez at a;rw[hm,mo rfl]at a;cases a
 refine⟨Py (Ji b),?_⟩;unfold Ez at a|-;rw[b,mm ln]at a|-;exact Y5 a
def Di(x:Bt):Prop:=if(x.b==97||x.b==33)=T6 then MU x.A else Dt x.L/\Dt x.R/\(x.b=61\/x.b=35\/x.b=60)
def Ud(h:(DO s n).2.2=K):Di (DO s n).1:=by
 unfold DO at h|-;simp only at h|-;cases h33:Ey s (Af s n) 33 with
 |true=>
  rw[h33,mo rfl]at h;exact NF h
 |false=>
  rw[h33,mm ln]at h;rw[mm ln];cases ho:(F3 s (Af s n)&&Nr s (Af s n))with
  |true=>
   rw[ho,mo rfl]at h;exact NF h
  |false=>
   rw[ho,mm ln]at h;rw[mm ln];unfold Jh at h|-;generalize hg:AS s (AN s (Af s n) K).2.1 (AN s (Af s n) K).2.2=a3 at h|-;cases hc:(!(AN s (Af s n) K).2.2&&(Ey s a3 61||Ey s a3 35||Ey s a3 60))with
   |false=>rw[hc,mm ln]at h;cases h
   |true=>
    rw[hc,mo rfl]at h;rw[mo rfl];rw[mC]at hc;(have d:(AN s (Af s n) K).2.2=K:=by simpa using hc.1);have c:C2 s a3=61\/C2 s a3=35\/C2 s a3=60:=by
     have a:=hc.2;unfold C2;by_cases b:a3<s.size
     .rw[dif_pos b];unfold Ey at a;rw[dif_pos b,dif_pos b,dif_pos b]at a;simp at a;rcases a with(a|a)|a
      .exact j2 a
      .exact j3 (j2 a)
      .exact j3 (j3 a)
     .unfold Ey at a;exact qr
    unfold Di;(have f:(C2 s a3==97||C2 s a3==33)=K:=by rcases c with e|e|e<;>rw[e]<;>rfl);rw[mm (by rw[f];simp)];exact⟨Kw d,Kw h,c⟩
def Nb{s}{b}(h:(By s b).2.2=K):∀x∈(By s b).1,Di x:=by
 fun_induction By s b with
 |case1 b hc _ _ ih=>
  intro t a;have c:(DO s b).2.2=K:=qr
  rcases l9.1 a with rfl|a
  .exact Ud c
  .exact ih h t a
 |case2 b hc=>
  intro t a;rw[lX]at a;subst a;exact Ud h
structure SA(c:Cv):Prop where
 E:MU c.E
 body:∀x∈c.body,Di x
def Kl(h:(Eg s n B).2.2=K):B=K/\∀x∈(Eg s n B).1,Di x:=by
 unfold Eg at h|-;cases hc:(!B&&Ey s (AS s n B) 58)with
 |true=>
  rw[hc,mo rfl]at h;have c:B=K:=qr
  refine⟨c,?_⟩;cases h45:Ey s (Cn s n B 58) 45 with
  |true=>
   rw[h45,mo rfl]at h;exact Nb h
  |false=>exact ln
 |false=>
  exact qr
def DH(h:(An s n).2.2=K):SA (An s n).1:=by
 have a:=Kl (Ji h);exact⟨NF a.1,a.2⟩
def SV{s}{b}(h:(Ao s b).2.2=K):∀c∈(Ao s b).1,SA c:=by
 fun_induction Ao s b with
 |case1 b ha hc ih=>
  intro c a;rcases l9.1 a with rfl|a
  .exact DH hc.1
  .exact ih h c a
 |case2 b ha hc=>
  intro c a;rw[lX]at a;subst a;exact DH h
 |case3 b ha=>exact ln
def Ms{a:kN AW}(h:(Ao s n).2.2=K)(e:a.map AW.erase=(Ao s n).1):
  ∀c∈a,MU c.E/\∀x∈Am c,Di x:=by
 intro c d;have b:c.erase∈(Ao s n).1:=by rw[<-e];exact mx d
 have:=SV h _ b;exact⟨this.E,this.body⟩
def Zm{a:kN AW}(h:(Ao s n).2.2=K)(e:a.map AW.erase=(Ao s n).1):
  ∀c∈a,∀x∈Am c,(x.b==97)=T6->∀t∈x.A.qH,BJ t:=by
 intro c f x g b t d;have:=(Ms h e c f).2 x g;unfold Di at this;rw[b,pA,mo rfl]at this;exact(this.qH t d).zD
theorem Tryz.zq:(Tryz.prog.info? 189).map (λi=>(i.zero,i.size,i.bytes))=V (V (.agg #[X J 0,O ⟨#[]⟩,U Y 0 0,U Y 0 0]),4,72):=lo
def dx(r):EQ r≠1:=by
 unfold EQ;exact lc
def Xs(s j)(h:j<s.size):(Er s j).1.b≠1/\(Er s j).1.c=j/\(Er s j).1.qJ.size<=s.size+4:=by
 unfold Er;split
 .exact li
 .split
  .exact li
  .split
   .refine⟨ln,rfl,?_⟩;show 2<=s.size+4;omega
   .refine⟨dx _,rfl,?_⟩;have:=ZS (Utf8.decode s j).1;simp only[CM];omega
def VO(s):∀n a,s.size-a<=n->Z (SF s a)<=s.size-a/\∀m∈SF s a,m.b≠1/\m.c<=s.size/\m.qJ.size<=s.size+4
 |n,a,hn=>by
  by_cases h:Af s a<s.size
  .have f:=Ck s a;have i:=R3 s _ h;obtain⟨d,j,c⟩:=Xs s _ h;rw[GL rfl h]
   match n with
   |0=>omega
   |n+1=>
    obtain⟨g,e⟩:=VO s n (Er s (Af s a)).2 lc;exact qy
  .rw[JU h];exact ln
def aU(m):(Jw m).c=m.c/\(Jw m).qJ=m.qJ/\(m.b≠1->(Jw m).b≠1):=by
 unfold Jw;split
 .exact ln
 exact ln
def JT(s):Z (DB s)<=s.size+1/\0<Z (DB s):=by
 rw[Ku];unfold Dw;have:=(VO s _ 0 (mt _)).1;simp;omega
def Tm(s):∀m∈DB s,m.c<=s.size/\m.qJ.size<=s.size+4:=by
 rw[Ku];intro m a;rcases mi.1 a with a|a
 .obtain⟨b,d,rfl⟩:=me.1 a;obtain⟨e,c,_⟩:=aU b;obtain⟨_,f,g⟩:=(VO s _ 0 (mt _)).2 b d;rw[e,c];exact lc
 .simp at a;subst a;exact⟨mt _,mr _⟩
def bg(d:s.size<=300):XT (DB s):=by
 refine⟨λi h b=>?_,λi h=>?_⟩
 .by_cases c:i+1<Z (DB s)
  .exact c
  .exfalso
   (have a:(DB s).getLast?=V (Ff s):=by unfold DB;simp);have:(DB s)[i]?=V (Ff s):=by
    rw[List.getLast?_eq_getElem?]at a;rw[show i=Z (DB s)-1 by omega];exact a
   rw[mc h]at this;simp at this;rw[this]at b;cases b
 .have:=(Tm s _ (lV h)).2;omega
def ZJ(a:s.size<=300)(i):(Au (DB s) i).c<=1000000:=by
 by_cases h:i<Z (DB s)
 .rw[<-Bv h];have:=(Tm s _ (lV h)).1;omega
 .unfold Au;exact qr
structure CQ where
 hp:Int
 hn:bN
 zA:kN AY
 hv:jR
 bv:jR
 ea:kN L6
def CQ.pc(c:CQ):PC:=⟨c.hp,c.hn,c.zA,c.ea.map kD⟩
def Ba(c:CQ):kN jR:=[X J c.hp,O c.hn,c.hv,c.bv]
structure Qb(w:jH)(base:Nat)(lv:jR)(c:CQ):Prop where
 e:JG w base c.hv c.bv c.zA c.ea
 yZ:Cd c.hv lv
 yX:Cd c.bv lv
 yb:∀p∈c.ea,Cd p.2 lv
def Qb.C{M:kN Nat}{w w':jH}{a:Nat}{b:jR}{c:CQ}(h:Qb w a b c)(k:Ac M w w')(d:∀i,i∈M->i<a:=by simp):Qb w' a b c:=
 ⟨h.e.C k d,h.yZ,h.yX,h.yb⟩
def Jg{v a}(h:kt w m T j v n y)(k:Ac (qV (qW a)) w u)(d:Cd v a):kt u m T j v n y:=
 Ag h k (λi c b=>d i c sB)
def Qb.zb{w f}{i}{d}{c}{g n cap H}(h:Qb w i d c)(k:Ac (qV (qW d)) w f)(e:d.ownBlock=V g\/g=H)(b:w.heap.size<=H):Qb f i (U (V ⟨g,0,Y⟩) n cap) c:=
 ⟨⟨Jg h.e.E k h.yZ,⟨Jg h.e.body.row k h.yX,λp a=>⟨Jg (h.e.body.j p a).1 k (h.yb p a),(h.e.body.j p a).2⟩⟩⟩,
  Cd.zb h.yZ h.e.E e b,Cd.zb h.yX h.e.body.row e b,λp a=>Cd.zb (h.yb p a) (h.e.body.j p a).1 e b⟩
def Pe{e h}{v a}(g:kt u w.heap.size e i v n y)(f:kt w b h j a m x):Cd v a:=by
 intro k c d;have:=(g.lt k c).1;have:=(f.lt k d).2;omega
structure GB(w:jH)(base:Nat)(lv:jR)(cs:kN CQ):Prop where
 row:kt w base 189 4 lv (Z cs) (qS Ba cs)
 j:∀c∈cs,Qb w base lv c
def GB.C{M:kN Nat}{w w':jH}{a:Nat}{e:jR}{d:kN CQ}(h:GB w a e d)(k:Ac M w w')(b:∀i,i∈M->i<a:=by simp):GB w' a e d:=
 ⟨Ad h.row k b,λc f=>(h.j c f).C k b⟩
def GB.base{w}{f base'}{d}{b}(h:GB w f d b)(e:base'<=f):GB w base' d b:=
 ⟨Ak h.row e,λc a=>⟨(h.j c a).e.base e,(h.j c a).yZ,(h.j c a).yX,(h.j c a).yb⟩⟩
def GB.nil(w b):GB w b (U Y 0 0) []:=⟨mw _ _ _ _,λp a=>sF⟩
def i9(w:jH)(e:Ending)(w':jH):Except Int (kN PC)->Prop
 | .ok cs=>∃ad cp pcs,e=j1 (.tuple #[U ad (Z cs) cp,X J 0,kx T6])/\pcs.map CQ.pc=cs/\GB w' w.heap.size (U ad (Z cs) cp) pcs/\Ac [] w w'
 | .error p=>e=j1 (.tuple #[U Y 0 0,X J p,kx K])/\Ac [] w w'
theorem Ks(s:bN)(w)(hs:s.size<=300):rE rF 71 #[O s] w λe G=>i9 w e G (Dq (DB s) 0 []):=by
 obtain⟨i0,KK,H6,K2,KB⟩:=mW Tryz.zq;have HO:=Ab (bg hs);have Ha:=Ab (ZJ hs);have FB:=JT s;have EM:=Ab (ak s w hs);obtain⟨R,hR⟩:=kQ (Dq (DB s) 0 []);rw[hR];have Bx:=Ab hR;clear hR;generalize DB s=ms at HO Ha FB EM Bx;have LC:Z ms<=1000:=lc
 go_enter func71,ntmps71;go_wp2_with fail
 refine EM.G ?_;rintro e x ⟨mv,rfl,A0,k1⟩;clear EM;obtain⟨C,m,rfl⟩:=Aj A0;have FT:=kS x [U C (Z ms) m,X J 0,X J 0] 203;have HC:=Ak (mg A0 (Y6 #[U C (Z ms) m,X J 0,X J 0] 203)) (mr _);have HD:(U C _ m).ownBlock≠V x.heap.size:=λe=>by have:=(A0.lt _ e).2;omega
 have HB:Cs _ _ _ ms 0 0:=⟨FT,HC,HD,FB.2,lc⟩;have HU:=k1.alloc (Y6 #[U C (Z ms) m,X J 0,X J 0] 203);have I:=Ab HB;have CL:=Ab HU;have HZ:=k1.size;have BA:(x.alloc (Y6 #[U C (Z ms) m,X J 0,X J 0] 203)).heap.size=x.heap.size+1:=ln
 clear FT HC HD HB HU A0 k1;go_wp2;change Code.wp _ _ _ _ (x.alloc (Y6 #[U C (Z ms) m,X J 0,X J 0] 203));generalize x.alloc (Y6 #[U C (Z ms) m,X J 0,X J 0] 203)=w2 at I CL BA|-;obtain⟨b,HX⟩:=kQ x.heap.size;rw[HX]at I HZ BA|-;clear HX;obtain⟨g,MN,HN,_,_,_,_⟩:=I.cells;obtain⟨rfl,_,rfl⟩:=qX HN;have HY:jV (∀k,b+1<=k->(U _ _ m).ownBlock≠V k):=λk y e=>by have:=(I.row.lt k e).2;omega
 go_loopg [2] (Z ms) (λgk o wr=>∃(j:Nat) (acc:kN CQ) (z:rB) (B:Nat),o=U z (Z acc) B/\gk=Z ms-j/\jV (Dq ms j (acc.map CQ.pc)=R)/\jV (Cs wr b (U (V ⟨g,0,Y⟩) (Z ms) m) ms j 0)/\jV (GB wr (b+1) (U z (Z acc) B) acc)/\jV (Ac [] w wr)/\b+1<=wr.heap.size/\Z acc<=j)
 case atStart=>exact⟨0,[],Y,0,rfl,rfl,Bx,I,GB.nil _ _,CL,lc,ln⟩
 case round=>
  clear I Bx CL BA;obtain⟨j,acc,z,B,rfl,HS,N,HR,HP,HK,FA,K9⟩:=hrel;have HG:=Ab HS;clear HS;have S:=HR.lt;have MB:(j:Int)<Z ms:=lc
  have K8:=rJ j
  obtain⟨g',LB,he,b0,b1,_,hc⟩:=HR.cells;simp only[lU,lZ,mR]at he;obtain⟨⟨rfl,_⟩,_,rfl⟩:=he;obtain⟨c0,_,_⟩:=hc j S;clear hc;rw[Bv S]at c0;obtain⟨P,AB⟩:=kQ (Au ms j).b;rw[AB]at c0;go_wp2_with fail
  go_region_held3 (λG=>jY G ⟨b,0,Y⟩=V (U (V ⟨g,0,Y⟩) (Z ms) m)/\jY G ⟨b,1,Y⟩=V (X J j)/\jY G ⟨g,j*3,Y⟩=V (X J P)) (go_keep) (fail)
  rename_i JJ;clear JJ b0 b1 c0;cases y:(P==1)with
  |true=>
   (have HF:jV (R=.ok (acc.map CQ.pc)):=by rw[<-Aa N];exact Pa S (by rw[AB];exact y));go_wp2;go_ret3;rw[HF.o];exact⟨z,B,acc,ln,rfl,by simpa using(HP.C (kR [] wr).drew).base lc,HK.drew⟩
  |false=>
   (have H5:(P !=1)=T6:=by simp[bne,y]);(have AH:jV (((Au ms j).b==1)=K):=by rw[AB];exact y);clear y AB;(go_wp2_with fail);refine(Wv b _ ms j 0 _ (HR.zH (kR [] wr).drew) HO Ha).G ?_;intro e v T;have D:=Ab (HP.C (kR [] wr).drew);have W:=Ab (HK.drew);have H9:b+1<=wr.drew.heap.size:=FA;clear HR HP HK FA;generalize wr.drew=w5 at T D W H9;cases ht:C0 ms j with
   |error q=>
    rw[ht]at T;obtain⟨n9,hp,hn,K1,n8,KS,IJ,n2,H1,rfl,Q,F⟩:=T;(have HF:jV (R=.error q):=by rw[<-Aa N];exact LA S AH ht);have H8:=Ab (W.trans' F (λi A=>j3 (by simp at A;omega)));(have d2:=λo=>(Q.zJ.alloc o).D 2);simp at d2;clear ht N AH Q F D W;simp only[Bg];(go_wp2_with fail);have LE:=d2 (Y6 #[X J hp,O hn,U K1 n8 KS,U IJ n2 H1] 189)
    go_region_held3 (λG=>jY G ⟨b,2,Y⟩=V (X J q)) (go_keep) (fail)
    rename_i H2;clear H2;go_wp2;go_ret3;rw[HF.o];exact⟨rfl,(H8.alloc _).drew⟩
   |ok r=>
    obtain⟨c,n1⟩:=r;rw[ht]at T;have K6:=Hq ht;obtain⟨u,f,l,h,M,rfl,HA,AT,Q,F⟩:=T;have HT:=Ab (St (acc:=acc.map CQ.pc) S AH ht);clear ht AH;obtain⟨n,d,a,Mo⟩:=c;simp at HA AT;subst HA;have K5:=F.size;have ES:=Ad D.row F;(have HH:jV _:=λq E=>(D.j q E).C F);have BT:jV (Qb v (b+1) (U z (Z acc) B) ⟨n,d,a,U u (Z a) f,U l (Z (M.map kD)) h,M⟩):=by
     have B9:=AT.base (base':=w5.heap.size) lc;refine⟨AT.base lc,?_,?_,?_⟩
     .exact Pe B9.E D.row
     .exact Pe B9.body.row D.row
     .exact λp hp=>Pe (B9.body.j p hp).1 D.row
    have HQ:=Ab (W.trans' F (λi A=>j3 (by simp at A;omega)));have L:=Ab Q;have LS:=Q.lt;clear AT Q F D W;generalize hnl:Z (M.map kD)=nl at BT;have HV:((v.alloc (Y6 (Za (Bg n d (U u (Z a) f) (U l nl h))) 189)).alloc (Y6 (Za (Bg n d (U u (Z a) f) (U l nl h))) 189)).heap[v.heap.size+1]?=V (Y6 (Za (Bg n d (U u (Z a) f) (U l nl h))) 189 (0,0)):=by
     have hh:=mG (v.alloc (Y6 (Za (Bg n d (U u (Z a) f) (U l nl h))) 189)) (Y6 (Za (Bg n d (U u (Z a) f) (U l nl h))) 189);rw[show(v.alloc _).heap.size=v.heap.size+1 from ln]at hh
     exact hh
    have HI:=mg (mg ES (Y6 (Za (Bg n d (U u (Z a) f) (U l nl h))) 189)) (Y6 (Za (Bg n d (U u (Z a) f) (U l nl h))) 189);have LL:Z acc<=1000:=lc;have LD:=Ab hnl;clear hnl;simp only[Bg];go_wp2_with (at_builtin;refine mE _ rfl (.tmp 35) (.tmp 37) _ rfl (b+1) 189 i0 _ 4 72 underlying66 KK H6 K2 KB rfl lc (U z (Z acc) B) (Z acc) (qS Ba acc) rfl HI ⟨v.heap.size+1,0,Y⟩ 1 1 (Bg n d (U u (Z a) f) (U l nl h)) rfl rfl (mz (cs:=Za (Bg n d (U u (Z a) f) (U l nl h))) (t:=189) (fr:=(0,0)) HV) (by simp[Value.oneCell',Bg]) lc lw lc li (v.heap.size+1+1) ln ?_;intro g1 FF w9 HE FL A2 H3)
    have H:Ac (qV (qW (U z _ B))) v w9:=(((kR _ v).alloc _).alloc _).grown FL (λk y=>j2 li);(have AR:∀i∈qV _,b+1<=i:=λi A=>(ES.lt i (by simpa using A)).1);have FO:Cs w9 b _ ms n1 0:=⟨L.zJ.C H (λhm=>by have:=AR b hm;omega),Ag L.row H (λi A hm=>by have:=AR i hm;exact rl A (HY i this)),L.ap,L.lt,L.len⟩;have FP:=HQ.trans' H (λi A=>j3 (by have:=AR i A;omega));have KA:jV (GB w9 (b+1) (U (V ⟨g1,0,Y⟩) (Z acc+1) FF) (acc++[⟨n,d,a,U u (Z a) f,U l nl h,M⟩])):=by
     refine⟨by simpa[Ba,Bg] using HE,?_⟩;intro q E;rcases mi.1 E with E|E
     .exact(HH q E).zb H A2 lc
     .simp at E;subst E;exact BT.zb H A2 lc
    have IS:jV (Dq ms n1 ((acc++[(⟨n,d,a,U u (Z a) f,U l nl h,M⟩:CQ)]).map CQ.pc)=R):=by
     show _=_;rw[<-Aa N,Aa HT];simp[CQ.pc]
    (have K4:b+1<=w9.heap.size:=by have:=H.size;omega);have H7:=Ab FO;have JA:=Ab FP;clear H AR FO FP FL A2 H3 HE HV HI ES HH BT HQ L N HT
    go_roundg (Z ms-n1)
    case measure=>exact qu
    case rel=>exact⟨n1,_,V ⟨g1,0,Y⟩,FF,ln,rfl,IS,H7,li,JA,K4,li⟩
def Z9{d}(h:At s d n m)(t:m<=s.size)(c:Af s m=j):
  (((Au d n).b==2)=T6/\∃g,A9 s j K=((Au d n).qJ,g,K)/\At s d (n+1) g/\g<=s.size)\/
  (((Au d n).b==2)=K/\A9 s j K=(ky,j,T6)):=by
 have e:Af s j=j:=by rw[<-c];exact CF s m
 rw[h.E];by_cases b:j<s.size
 .have k:=h.next c b;cases hl:AC s[j] with
  |true=>
   obtain⟨o,q⟩:=Ig c b hl;rw[q]at k;(have r:j<AL AC s j:=by rw[Ct _ _ _ b hl];have:=Cz AC s (j+1);omega);have l:=C5 AC s j lc;rw[o];by_cases f:AL AC s j-j<=4
   .left;refine⟨li,_,LI e rfl lc,k,l⟩
   .right;exact⟨li,Ev e rfl lc⟩
  |false=>
   right;refine⟨?_,Ev e (Fu _ _ _ b hl) (j2 rfl)⟩;(have u:¬(97<=s[j].toNat/\s[j].toNat<=122):=λh=>by rw[(Da _).2 h]at hl;cases hl);by_cases p:s[j].toNat<128
   .cases hd:Aq s[j] with
    |true=>
     rw[(FG c b hl hd).1];exact li
    |false=>
     by_cases i:s[j]=58/\Ey s (j+1) 45=T6
     .rw[(KT c b i.1 i.2).1];rfl
     .rw[(G6 c b hl hd i p).1];simp only[mM,ne_eq,GN];omega
   .rw[(Ih c b lc).1];rfl
 .right;rw[IQ lc];exact⟨rfl,Ev e (GI _ _ _ b) (j2 rfl)⟩
def Oq(s a c):Cn s a T6 c=a:=by simp[Cn,AS]
def Oi(h:Ey s (Af s n) g=T6):Cn s n K g=Af s n+1:=by simp[Cn,AS,h]
def RH(h:Ey s (Af s n) g=K):Cn s n K g=Af s n:=by simp[Cn,AS,h]
def Gt(s a c):BM s a T6 c=(a,T6):=by simp[BM,Oq]
def NI(h:Ey s (Af s n) g=T6):BM s n K g=(Af s n+1,K):=by simp[BM,Oi h,AS,h]
def O5(h:Ey s (Af s n) g=K):BM s n K g=(Af s n,T6):=by simp[BM,RH h,AS,h]
def aY{s}{f:kN Bb}:∀k d a (i:kN AY),Z f-d<=k->At s f d a->a<=s.size->
  P7 (λts (L:kN AK)=>ts=i++L.map ct) s f (GW f d i) ((CO s a).1,BM s (CO s a).2.1 (CO s a).2.2 41)
 |k,d,a,i,hk,h,ha=>by
  have x:=h.lt;have g:=Vy h ha;obtain⟨l,b,v,j⟩:∃l b v,AN s a K=(l,b,v):=⟨_,_,_,rfl⟩;rw[j]at g;unfold GW;rw[dif_pos x];cases hM:GX (Au f d) d with
  |error p=>
   rw[hM]at g;obtain⟨rfl,rfl⟩:=g;rw[Nu j ln];simp only[Oq,Gt];exact⟨rfl,rfl⟩
  |ok r=>
   obtain⟨t,B⟩:=r;rw[hM]at g;have A:=Gu hM;subst A;obtain⟨rfl,rfl,u,w⟩:=g;simp;have z:=Eu (s:=s) (a:=b) (c:=44) sj;have y:=Eu (s:=s) (a:=b) (c:=41) sj;rw[u.E,show I8=⟨#[44]⟩from rfl,show Qg=⟨#[41]⟩from rfl,z,y];cases hc:Ey s (Af s b) 44 with
   |true=>
    obtain⟨_,e⟩:=RR j ha oa;rw[Oi hc]at e;obtain⟨q,o⟩:=u.take sj hc;rw[e];simp
    match k with
    |0=>omega
    |k+1=>
     have ih:=aY k (d+2) _ (i++[ct l]) lc q o
     revert ih
     generalize GW f (d+2) (i++[ct l])=X;intro ih
     match X,ih with
     | .ok (ts,n),ih=>exact⟨ih.1,by rw[ih.2.1];simp,ih.2.2⟩
     | .error p,ih=>exact ih
   |false=>
    rw[Nu j oa];simp only[ma,rm,RH hc];have m:=CF s b;cases hcl:Ey s (Af s b) 41 with
    |true=>
     obtain⟨q,o⟩:=u.take sj hcl;rw[NI (by rw[m];exact hcl),m];simp;exact⟨rfl,rfl,q,o⟩
    |false=>
     rw[O5 (by rw[m];exact hcl),m,DW w];simp;exact⟨rfl,rfl⟩
def Vp{b}{d a}(h:At s b d a)(i:a<=s.size):
  P7 (λx (A:Dp)=>x=(A.e,A.a,A.qH.map ct)) s b (Ep b d) (A5 s a K):=by
 have r:AS s a K=Af s a:=rfl;have k:(Au b d).c=Af s a:=by rw[h.E,DW i]
 unfold Ep A5;simp only[r];rcases Z9 h i rfl with⟨f,g,e,j,l⟩|⟨f,e⟩
 .rw[e,f];have m:=Eu (s:=s) (a:=g) (c:=40) sj;rw[j.E,show T7=⟨#[40]⟩from rfl,m];cases hc:Ey s (Af s g) 40 with
  |true=>
   obtain⟨o,q⟩:=j.take sj hc;rw[NI hc];simp only[ro,Ez,ma,rm];have ih:=aY _ (d+2) _ [] (mt _) o q
   revert ih
   generalize GW b (d+2) []=X;intro ih
   match X,ih with
   | .ok (ts,n),ih=>exact⟨ih.1,by rw[ih.2.1,k];simp,ih.2.2⟩
   | .error p,ih=>exact ih
  |false=>
   rw[O5 hc,DW l];exact⟨rfl,rfl⟩
 .rw[e,f,k];exact⟨rfl,rfl⟩
def Gk(k:rC):Int:=if k=97 then 0 else if k=33 then 1 else if k=61 then 2 else if k=35 then 3 else 4
def Mn(x:Bt):PL:=⟨x.e,Gk x.b,x.A.e,x.A.a,x.A.qH.map ct,ct x.L,ct x.R⟩
def jQ:ct E5=AZ:=rfl
def kf{e}{d a j:Nat}(h:At s e d j)(C:j<=s.size)(W:Af s j=j):
  P7 (λx y=>KU (.inr x)=Mn y/\x.atom=Br) s e (Mv e d) (Jh s j (AS s (AN s j K).2.1 (AN s j K).2.2) (AN s j K).1 (AN s j K).2.2):=by
 have H:(Au e d).c=j:=by rw[h.E,DW C,W]
 have f:=Vy h C;obtain⟨l,b,z,B⟩:∃l b z,AN s j K=(l,b,z):=⟨_,_,_,rfl⟩;rw[B]at f;rw[B];unfold Mv Jh;cases hM:GX (Au e d) d with
 |error p=>
  rw[hM]at f;obtain⟨rfl,rfl⟩:=f;exact⟨rfl,rfl⟩
 |ok r=>
  obtain⟨t,n1⟩:=r;rw[hM]at f;have I:=Gu hM;subst I;obtain⟨rfl,rfl,v,E⟩:=f;simp only;have L:=Eu (s:=s) (a:=b) (c:=61) sj;have N:=Eu (s:=s) (a:=b) (c:=35) sj;have Q:=Eu (s:=s) (a:=b) (c:=60) sj;have P:AS s b K=Af s b:=rfl;rw[v.E,P];unfold OD;rw[show lH=⟨#[61]⟩from rfl,show lF=⟨#[35]⟩from rfl,show lE=⟨#[60]⟩from rfl,L,N,Q];have n:∀(c:rC) (m:Int),c∈Fm->Gk c=m->Ey s (Af s b) c=T6->C2 s (Af s b)=c/\
    P7 (λx y=>KU (.inr x)=Mn y/\x.atom=Br) s e
     (match GX (Au e (d+1+1)) (d+1+1)with| .error p=> .error p| .ok (r,n2)=> .ok (⟨(Au e d).c,m,Br,ct l,r⟩,n2))
     (⟨c,Hg,l,(AN s (Af s b+1) K).1,j⟩,(AN s (Af s b+1) K).2):=by
   intro c m M Ax o;have u:=Gc o;refine⟨by rw[Fa u];simpa[Ey,u] using o,?_⟩;obtain⟨G,T⟩:=v.take M o;have k:=Vy G T;obtain⟨q,A,w,D⟩:∃q A w,AN s (Af s b+1) K=(q,A,w):=⟨_,_,_,rfl⟩;rw[D]at k;rw[D];cases hM2:GX (Au e (d+1+1)) (d+1+1)with
   |error p=>
    rw[hM2]at k;exact oa
   |ok r=>
    obtain⟨t3,n3⟩:=r;rw[hM2]at k;obtain⟨rfl,rfl,S,F⟩:=k;refine⟨rfl,⟨?_,rfl⟩,S,F⟩;simp[KU,Mn,Ax,H,Hg]
  cases h61:Ey s (Af s b) 61 with
  |true=>
   obtain⟨g,i⟩:=n 61 2 sj rfl h61;exact qy
  |false=>
   cases h35:Ey s (Af s b) 35 with
   |true=>
    obtain⟨g,i⟩:=n 35 3 sj rfl h35;exact qy
   |false=>
    cases h60:Ey s (Af s b) 60 with
    |true=>
     obtain⟨g,i⟩:=n 60 4 sj rfl h60;exact qy
    |false=>
     simp only[qp,pF,ma,rm,DW E];exact⟨rfl,rfl⟩
def kc{b}{d a}(h:At s b d a)(E:a<=s.size):
  P7 (λx y=>KU x=Mn y) s b (G5 b d) (DO s a):=by
 obtain⟨j,g⟩:=kQ (Af s a);have f:Af s j=j:=by rw[<-g];exact CF s a
 have q:j<=s.size:=by rw[<-g];exact BI s a E
 have o:At s b d j:=by rw[<-g];exact h.gap
 have H:(Au b d).c=j:=by rw[h.E,DW E,g]
 unfold G5 DO;simp only[g];have R:=Eu (s:=s) (a:=a) (c:=33) sj;rw[h.E,show ZN=⟨#[33]⟩from rfl,R,g,<-h.E,H];cases h33:Ey s j 33 with
 |true=>
  obtain⟨z,C⟩:=o.take (c:=33) sj (by rw[f];exact h33);rw[f]at z C;have ih:=Vp z C;obtain⟨A,l,k,u⟩:∃A l k,A5 s (j+1) K=(A,l,k):=⟨_,_,_,rfl⟩;rw[u]at ih|-
  revert ih
  generalize Ep b (d+1)=X;intro ih
  match X,ih with
  | .ok ((p,n,ts),m),ih=>
   obtain⟨w,i,v⟩:=ih;refine⟨w,?_,v⟩;obtain⟨rfl,rfl,rfl⟩:=i;exact lx
  | .error p,ih=>exact ih
 |false=>
  have L:Fb b d=(F3 s j&&Nr s j):=by
   unfold Fb;have G:=h.lt;have P:b[d]?=V (Au b d):=by
    unfold Au;rw[mq,mc G];rfl
   rw[P];rcases Z9 o q f with⟨r,M,e,B,S⟩|⟨r,e⟩
   .have I:=B.lt;have Q:b[d+1]?=V (Au b (d+1)):=by
     unfold Au;rw[mq,mc I];rfl
    have N:=Eu (s:=s) (a:=M) (c:=40) sj;have F:F3 s j=T6:=by
     unfold F3;by_cases t:j<s.size
     .rw[dif_pos t];cases hl:AC s[j] with
      |true=>rfl
      |false=>rw[Ev f (Fu _ _ _ t hl) (j2 rfl)]at e;simp at e
     .rw[Ev f (GI _ _ _ t) (j2 rfl)]at e;simp at e
    unfold Nr;rw[Q,e,F];simp only[r,nQ,nE];rw[B.E,show T7=⟨#[40]⟩from rfl,N];rfl
   .unfold Nr;rw[e];simp;split
    .exact qr
    .rfl
  rw[L];cases hop:(F3 s j&&Nr s j)with
  |true=>
   have ih:=Vp o q;obtain⟨A,l,k,u⟩:∃A l k,A5 s j K=(A,l,k):=⟨_,_,_,rfl⟩;rw[u]at ih|-
   revert ih
   generalize Ep b d=X;intro ih
   match X,ih with
   | .ok ((p,n,ts),m),ih=>
    obtain⟨w,i,v⟩:=ih;refine⟨w,?_,v⟩;obtain⟨rfl,rfl,rfl⟩:=i;exact lx
   | .error p,ih=>exact ih
  |false=>
   have ih:=kf (a:=a) o q f
   revert ih
   generalize Mv b d=X;intro ih
   match X,ih with
   | .ok (c,m),ih=>exact⟨ih.1,ih.2.1.1,ih.2.2⟩
   | .error p,ih=>exact ih
def Vu{s}{ms:kN Bb}:∀k i a (g:kN PL),Z ms-i<=k->At s ms i a->a<=s.size->
  P7 (λls (L:kN Bt)=>ls=g++L.map Mn) s ms (Fe ms i g) (By s a)
 |k,i,a,g,hk,h,ha=>by
  have o:=h.lt;have f:=kc h ha;obtain⟨d,b,m,j⟩:∃d b m,DO s a=(d,b,m):=⟨_,_,_,rfl⟩;rw[j]at f;cases hM:G5 ms i with
  |error p=>
   rw[hM]at f;obtain⟨rfl,rfl⟩:=f;rw[NG j ln,IZ o hM,Oq];exact⟨rfl,rfl⟩
  |ok r=>
   obtain⟨t,q⟩:=r;rw[hM]at f;have A:=JM hM;obtain⟨rfl,w,l,u⟩:=f;have z:=w;have x:=Eu (s:=s) (a:=b) (c:=44) sj;rw[OC o hM,l.E,show I8=⟨#[44]⟩from rfl,x,z];cases hc:Ey s (Af s b) 44 with
   |true=>
    obtain⟨_,e⟩:=Rm j ha oa;rw[Oi hc]at e;obtain⟨v,y⟩:=l.take sj hc;rw[e];match k with
    |0=>omega
    |k+1=>
     have ih:=Vu k (q+1) _ (g++[Mn d]) lc v y
     revert ih
     generalize Fe ms (q+1) (g++[Mn d])=X;intro ih
     match X,ih with
     | .ok (ts,n),ih=>exact⟨ih.1,by rw[ih.2.1];simp,ih.2.2⟩
     | .error p,ih=>exact ih
   |false=>
    rw[NG j oa,RH hc];exact⟨rfl,ln,l.gap,BI s b u⟩
def im(c:Cv):PC:=⟨c.E.e,c.E.a,c.E.qH.map ct,c.body.map Mn⟩
def gT{b}{n a}{c}{C}(h:At s b n a)(d:a<=s.size)(i:c=im C/\C.e=C.E.e):
  P7 (λx y=>x=im y/\y.e=y.E.e) s b (OQ b n c) (C,BM s a K 46):=by
 have f:=Eu (s:=s) (a:=a) (c:=46) sj;unfold OQ;rw[h.E,show aQ=⟨#[46]⟩from rfl,f,DW d];cases hd:Ey s (Af s a) 46 with
 |true=>
  obtain⟨e,g⟩:=h.take sj hd;rw[NI hd];exact⟨rfl,i,e,g⟩
 |false=>
  rw[O5 hd];exact⟨rfl,rfl⟩
def ki(s a):BZ (BU s a) bq=(Ey s (Af s a) 58&& !(Ey s (Af s a+1) 45))/\BZ (BU s a) jG=(Ey s (Af s a) 58&&Ey s (Af s a+1) 45):=by
 obtain⟨j,b⟩:=kQ (Af s a);rw[b];unfold BZ;by_cases h:j<s.size
 .have o:Ey s j 58=(s[j]==58):=by simp[Ey,h]
  rw[o];by_cases c:s[j]=58/\Ey s (j+1) 45=T6
  .rw[(KT b h c.1 c.2).1,c.1,c.2];have k:(jG.toList==bq.toList)=K:=by
    rw[show jG.toList=[58,45] from by rw[mL];rfl,show bq.toList=[58] from by rw[mL];rfl]
    rfl
   exact qr
  .have i:∀x:rC,((⟨#[x]⟩:bN).toList==jG.toList)=K:=by
    intro x;rw[show jG.toList=[58,45] from by rw[mL];rfl,show(⟨#[x]⟩:bN).toList=[x] from ln]
    simp
   by_cases f:s[j].toNat<128
   .cases hl:AC s[j] with
    |true=>
     (have:s[j]≠58:=λe=>by rw[e]at hl;cases hl);rw[(Ig b h hl).1];by_cases d:AL AC s j-j<=4<;>simp[d,this]
    |false=>
     cases hd:Aq s[j] with
     |true=>
      (have:s[j]≠58:=λe=>by rw[e]at hd;cases hd);rw[(FG b h hl hd).1];by_cases d:3<AL Aq s j-j\/(s[j]=48/\1<AL Aq s j-j)<;>simp[d,this]
     |false=>
      rw[(G6 b h hl hd c f).1];rw[show bq=⟨#[58]⟩from rfl];simp only[T1,i,pF];cases he:(s[j]==58)with
      |false=>simp
      |true=>
       (have g:s[j]=58:=by simpa using he);have m:Ey s (j+1) 45=K:=qr
       rw[g,m];exact⟨rfl,rfl⟩
   .have:=Ih b h lc;have l:(s[j]==58)=K:=by
     simp;intro e;rw[e]at f;simp at f
    exact qr
 .rw[IQ lc];simp[Ff,Ey,h]
def cM{d}{o a}(h:At s d o a)(R:a<=s.size):
  P7 (λx y=>x=im y/\y.e=y.E.e) s d (C0 d o) (An s a):=by
 have F:=h.gap;have Q:=BI s a R;have M:=CF s a;have e:=Vp F Q;obtain⟨A,b,v,l⟩:∃A b v,A5 s (Af s a) K=(A,b,v):=⟨_,_,_,rfl⟩;have t:A.e=Af s a:=by
  have:(A5 s (Af s a) K).1.e=Af s a:=oa
  rw[l]at this;exact this
 rw[l]at e;unfold C0 An;simp only[l];cases hM:Ep d o with
 |error p=>
  rw[hM]at e;obtain⟨rfl,rfl⟩:=e;exact⟨rfl,rfl⟩
 |ok r=>
  obtain⟨⟨p,n,ts⟩,m⟩:=r;rw[hM]at e;obtain⟨rfl,w,j,q⟩:=e;obtain⟨rfl,rfl,rfl⟩:=w;obtain⟨H,I⟩:=ki s b;have G:AS s b K=Af s b:=rfl;simp;rw[j.E,H,I];unfold Eg;rw[G];cases h58:Ey s (Af s b) 58 with
  |false=>
   simp only[ph,ma,rm,pF,RH h58];have:=gT (c:=⟨A.e,A.a,A.qH.map ct,[]⟩) (C:=⟨A,[],Af s a⟩) j.gap (BI s b q) ⟨rfl,t.symm⟩;exact this
  |true=>
   simp only[nE,nQ,ro,Oi h58];cases h45:Ey s (Af s b+1) 45 with
   |false=>
    simp only[nE,ro,ma,rm,Gt,DW q];exact⟨rfl,ln⟩
   |true=>
    have g:=Gc h58;(have E:s[Af s b]=58:=by simpa[Ey,g] using h58);have z:=j.next rfl g;rw[(KT (a:=b) rfl g E h45).2]at z;have W:=Gc h45;have f:=Vu _ (m+1) _ [] (mt _) z lc;obtain⟨L,k,i,u⟩:∃L k i,By s (Af s b+2)=(L,k,i):=⟨_,_,_,rfl⟩;rw[u]at f;have P:By s (Af s b+1+1)=(L,k,i):=u;rw[P];cases hM3:Fe d (m+1) [] with
    |error p=>
     rw[hM3]at f;obtain⟨rfl,rfl⟩:=f;exact⟨rfl,rfl⟩
    |ok r=>
     obtain⟨T,S⟩:=r;rw[hM3]at f;obtain⟨rfl,B,N,D⟩:=f;subst B;exact gT (c:=⟨A.e,A.a,_,_⟩) (C:=⟨A,L,Af s a⟩) N D ⟨rfl,t.symm⟩
def bo{s:bN}{d:kN Bb}:∀(k i a:Nat) (j:kN PC),Z d-i<=k->At s d i a->a<=s.size->Af s a=a->
  match Dq d i j with
  | .ok cs=>(Ao s a).2.2=K/\cs=j++(Ao s a).1.map im/\(∀c∈(Ao s a).1,c.e=c.E.e)
  | .error p=>(Ao s a).2.2=T6/\p=((Ao s a).2.1:Int)
 |k,i,a,j,hk,h,ha,hg=>by
  have o:=h.lt;by_cases g:a<s.size
  .have m:((Au d i).b==1)=K:=by
    rw[h.E];have l:=hg;by_cases z:s[a].toNat<128
    .cases hl:AC s[a] with
     |true=>
      rw[(Ig l g hl).1];exact li
     |false=>
      cases hd:Aq s[a] with
      |true=>
       rw[(FG l g hl hd).1];exact li
      |false=>
       by_cases t:s[a]=58/\Ey s (a+1) 45=T6
       .rw[(KT l g t.1 t.2).1];rfl
       .rw[(G6 l g hl hd t z).1];(have A:¬(97<=s[a].toNat/\s[a].toNat<=122):=λh=>by rw[(Da _).2 h]at hl;cases hl);(have D:¬(48<=s[a].toNat/\s[a].toNat<=57):=λh=>by rw[(CG _).2 h]at hd;cases hd);rcases Su A D with e|e|e<;>simp[e]
    .rw[(Ih l g lc).1];rfl
   have b:=cM h ha;obtain⟨C,f,u,v⟩:∃C f u,An s a=(C,f,u):=⟨_,_,_,rfl⟩;rw[v]at b;rw[MP g v];cases hM:C0 d i with
   |error p=>
    rw[hM]at b;obtain⟨rfl,rfl⟩:=b;rw[LA o m hM];simp only[Fr,ro,LX];exact ln
   |ok r=>
    obtain⟨c,n⟩:=r;have E:=Hq hM;rw[hM]at b;obtain⟨rfl,⟨rfl,x⟩,y,w⟩:=b;rw[St o m hM];simp only[Fr,ma,rm];have B:AS s f K=Af s f:=rfl;rw[B]
    match k with
    |0=>omega
    |k+1=>
     have ih:=bo k n _ (j++[im C]) lc y.gap (BI s f w) (CF s f)
     exact qy
  ·(have m:((Au d i).b==1)=T6:=by rw[h.E,IQ lc];rfl);rw[Pa o m,NP g];simp
def KP(s:bN):rD:= !decide (300<s.size)&&(!(An s 0).2.2&&(!decide ((An s 0).2.1<s.size)&&(!decide (0<Z (An s 0).1.body)&& !decide (2<Z (An s 0).1.E.qH))))
def gN:Ae:=⟨⟨#[]⟩,[]⟩
def Co(s:bN):Ae:=if KP s=T6 then Av Bm (An s 0).1.E else gN
def Gw(s:bN):rD:=KP s&&((B7 (Co s)).toList==s.toList)
def Tg(x:bN):Prop:=1<=Z x.toList/\Z x.toList<=4/\∀c∈x.toList,AC c=T6
def lg(x:bN):Prop:=1<=Z x.toList/\Z x.toList<=3/\(∀c∈x.toList,Aq c=T6)/\∀r,x.toList=48::r->r=[]
def Hl(x:bN):Prop:=Tg x\/lg x
def Ge(s:bN)(i:Nat)(l:kN rC):Prop:=i+Z l<=s.size/\∀k (h:k<Z l) (h2:i+k<s.size),s[i+k]=l[k]
def Ge.left{l m}(h:Ge s i (l++m)):Ge s i l:=by
 have a:=h.1;rw[mp]at a;refine⟨lc,λk c b=>?_⟩;rw[h.2 k li b,nB c]
def Ge.right{l m}(h:Ge s i (l++m)):Ge s (i+Z l) m:=by
 have a:=h.1;rw[mp]at a;refine⟨lc,λk c b=>?_⟩;have:=h.2 (Z l+k) li lc;rw[rq lc]at this;simp at this;rw[<-this]
 congr 1
 omega
def Ut(s):Ge s 0 s.toList:=by
 refine⟨by rw[<-Bi];omega,λk b a=>?_⟩;simp only[mL,m7];exact lx
def Ge.E{l:kN rC}(h:Ge s i (g::l)):∃b,s[i]=g:=by
 have a:=h.1;simp at a;have:=h.2 0 ln lc;exact qy
def Sj{p}{s}:∀l i c (m:kN rC),Ge s i (l++c::m)->(∀x∈l,p x=T6)->p c=K->AL p s i=i+Z l
 |[],i,c,m,h,_,hc=>by
  obtain⟨a,e⟩:=h.E;rw[Fu p s i a (by rw[e];exact hc)];rfl
 |x::l,i,c,m,h,hl,hc=>by
  obtain⟨a,e⟩:=(show Ge s i _ from h).E;rw[Ct p s i a (by rw[e];exact hl x ln)];have b:Ge s (i+1) _:=(show Ge s i ([x]++(l++c::m))from h).right;rw[Sj l (i+1) c m b (λy d=>hl y sn) hc,mn];omega
def Hv{s x:bN}(h:Ge s i x.toList):s.extract i (i+Z x.toList)=x:=by
 apply toList_inj;have a:=h.1;simp only[mL]at h a|-;apply List.ext_getElem
 .simp at a|-;omega
 .intro k d b;have c:=h.2 k b lc;rw[<-c];simp[ByteArray.getElem_eq_getElem_data]
def WV(h:AC g=T6):DN g=K/\DF g=K/\Aq g=K:=by
 unfold AC at h;unfold DN DF Aq;simp at h;have b:97<=g.toNat:=h.1;refine⟨?_,?_,?_⟩
 .rw[oQ,mM,mM];constructor
  .rintro rfl;exact rl b lu
  .rintro rfl;exact rl b lu
 .rw[Bool.and_eq_false_iff];exact j3 (nC (λa=>by have:g.toNat<=90:=a;omega))
 .rw[Bool.and_eq_false_iff];exact j3 (nC (λa=>by have:g.toNat<=57:=a;omega))
def Wc(h:Aq g=T6):DN g=K/\DF g=K:=by
 unfold Aq at h;unfold DN DF;simp at h;have a:48<=g.toNat:=h.1;have b:g.toNat<=57:=h.2;refine⟨?_,?_⟩
 .rw[oQ,mM,mM];constructor
  .rintro rfl;exact rl a lu
  .rintro rfl;exact rl a lu
 .rw[Bool.and_eq_false_iff];exact j2 (nC (λb=>by have:65<=g.toNat:=b;omega))
def GK{c}{m:kN rC}(h:Ge s i (c::m))(a:DN c=K):Af s i=i:=by
 obtain⟨b,e⟩:=h.E;rw[Af,dif_pos b,mm (by rw[e,a];simp)]
def Hl.first(h:Hl s):∃c r,s.toList=c::r/\DN c=K/\DF c=K/\((Aq c=K/\Tg s)\/(Aq c=T6/\lg s)):=by
 cases hx:s.toList with
 |nil=>
  rcases h with h|h
  .have:=h.1;rw[hx]at this;simp at this
  .have:=h.1;rw[hx]at this;simp at this
 |cons c r=>
  refine⟨c,r,rfl,?_⟩;rcases h with h|h
  .have e:=h.2.2 c (by rw[hx];simp);obtain⟨b,a,f⟩:=WV e;exact⟨b,a,j2 ⟨f,h⟩⟩
  .have d:=h.2.2.1 c (by rw[hx];simp);obtain⟨b,a⟩:=Wc d;exact⟨b,a,j3 ⟨d,h⟩⟩
def TG{c}{m:kN rC}(a:Tg t)(h:Ge s i (t.toList++c::m))(j:AC c=K):A9 s i K=(t,i+Z t.toList,K):=by
 obtain⟨d,r,e,f,_⟩:=Hl.first (j2 a);have g:=GK (c:=d) (m:=r++c::m) (by rw[e]at h;exact h) f;have b:=Sj _ i c m h a.2.2 j;have l:=a.1;have k:=a.2.1;rw[LI g b lc,Hv h.left]
def iG(c:rC):Prop:=AC c=K/\Aq c=K/\DN c=K
def Up{m:kN rC}(y:Hl t)(h:Ge s i (t.toList++g::m))(n:iG g):AN s i K=(⟨0,t⟩,i+Z t.toList,K):=by
 obtain⟨d,r,e,u,p,a⟩:=y.first;have k:Ge s i (d::(r++g::m)):=by rw[e]at h;exact h
 have v:=GK k u;obtain⟨w,b⟩:=k.E;unfold AN;rw[mm ln];simp only[v];rw[dif_pos w,mm (by rw[b,p];simp)];rcases a with⟨a,o⟩|⟨a,f⟩
 .rw[mo (by rw[b,a];rfl),TG o h n.1]
 .have q:=Sj _ i g m h f.2.2.1 n.2.1;have z:=f.2.1;rw[mm (by rw[b,a];simp),q,mm ?_,Hv h.left];rintro (j|⟨j,l⟩)
  .omega
  .rw[b]at j;have:=f.2.2.2 r (by rw[e,j]);rw[e,this]at l;simp at l
def Gn:kN bN->kN rC
 |[]=>[]
 |[x]=>x.toList
 |x::y::l=>x.toList++44::Gn (y::l)
def jL:iG 44:=by unfold iG;decide
def jW:iG 41:=by unfold iG;decide
def Ry{m:kN rC}(h:Ge s i (g::m))(d):Ey s i d=(g==d):=by
 obtain⟨b,a⟩:=h.E;unfold Ey;rw[dif_pos b,a]
def Tl{s}:∀(a:kN bN) (x) (i) (m:kN rC),(∀y∈x::a,Hl y)->Ge s i (Gn (x::a)++41::m)->CO s i=((x::a).map (AK.mk 0),i+Z (Gn (x::a)),K)
 |[],x,i,m,hx,h=>by
  have f:=Up (hx x ln) (show Ge s i _ from h) jW;have b:Ge s (i+Z x.toList) _:=(show Ge s i _ from h).right;have d:AS s (i+Z x.toList) K=i+Z x.toList:=by unfold AS;rw[mm ln,GK b jW.2.2]
  have c:Ey s (i+Z x.toList) 44=K:=by rw[Ry b];rfl
  rw[CO];simp only[f,d,c];rw[dif_neg ln];unfold Cn;rw[d,c,mm ln];rfl
 |y::a,x,i,m,hx,h=>by
  have g:Ge s i (x.toList++44::(Gn (y::a)++41::m)):=by
   (have e:Gn (x::y::a)++41::m=x.toList++44::(Gn (y::a)++41::m):=by rw[Gn];simp);rw[<-e];exact h
  have f:=Up (hx x ln) g jL;have b:Ge s (i+Z x.toList) _:=g.right;have d:AS s (i+Z x.toList) K=i+Z x.toList:=by unfold AS;rw[mm ln,GK b jL.2.2]
  have c:Ey s (i+Z x.toList) 44=T6:=by rw[Ry b];rfl
  have n:Cn s (i+Z x.toList) K 44=i+Z x.toList+1:=by unfold Cn;rw[d,c];rfl
  have k:Ge s (i+Z _+1) _:=(show Ge s _ ([44]++(Gn _++41::m))from b).right;have ih:=Tl a y _ m (λz j=>hx z (by simp at j|-;exact j3 j)) k;have p:=h.1;have l:i<s.size:=qy
  rw[CO];simp only[f,d,c,n,ih];rw[dif_pos ⟨ln,lc,l⟩];simp;rw[Gn];simp;omega
structure Ml(f:Ae):Prop where
 a:Tg f.a
 qH:∀x∈f.qH,Hl x
 ne:f.qH≠[]
def RK:∀a x s,(Gg (s++x) T6 a).toList=s.toList++Gn (x::a)
 |[],x,s=>by rw[Gg,Db];rfl
 |y::a,x,s=>by
  rw[Gg,mo rfl];have h:=RK a y (s++x++⟨#[44]⟩);rw[h,Db,Db,Gn];simp[mL]
def Kr{f:Ae}(h:f.qH≠[]):(B7 f).toList=f.a.toList++(40::(Gn f.qH++[41,46])):=by
 unfold B7;cases hf:f.qH with
 |nil=>exact rl hf h
 |cons x xs=>
  rw[Gg,mm ln,Db,RK xs x _,Db];simp[mL]
def O3{m:kN rC}(h:Ge s i (g::m))(d:DN g=K):BM s i K g=(i+1,K):=by
 have a:AS s i K=i:=by unfold AS;rw[mm ln,GK h d]
 have b:Ey s i g=T6:=by rw[Ry h];simp
 unfold BM Cn;rw[a,b];rfl
def WD{f}(h:Ml f)(a:Ge s i (B7 f).toList):An s i=(⟨⟨f.a,f.qH.map (AK.mk 0),i⟩,[],i⟩,i+(B7 f).size,K):=by
 have w:(B7 f).size=Z f.a.toList+Z (Gn f.qH)+3:=by
  rw[Bi,Kr h.ne];simp;omega
 rw[Kr h.ne]at a;obtain⟨d,r,e,u,_⟩:=Hl.first (j2 h.a);have k:=GK (c:=d) (m:=r++40::(Gn f.qH++[41,46])) (by rw[e]at a;exact a) u;have z:=TG h.a a lu;have j:Ge s (i+Z f.a.toList) _:=a.right;have B:=O3 j lu;have b:Ge s (i+Z _+1) _:=(show Ge s _ ([40]++(Gn f.qH++[41,46]))from j).right;have p:CO s (i+Z f.a.toList+1)=(f.qH.map (AK.mk 0),i+Z f.a.toList+1+Z (Gn f.qH),K):=by
  cases hf:f.qH with
  |nil=>exact rl hf h.ne
  |cons x xs=>rw[hf]at b;exact Tl xs x _ [46] (λy A=>h.qH y (by rw[hf];exact A)) b
 have l:=b.right;have v:=O3 l lu;have o:A5 s i K=(⟨f.a,f.qH.map (AK.mk 0),i⟩,i+Z f.a.toList+1+Z (Gn f.qH)+1,K):=by
  unfold A5;have C:AS s i K=i:=oa
  simp only[C,z,B];unfold Ez;simp only[ma,rm,p,v]
 have g:Ge s (i+Z _+1+Z _+1) [46]:=(show Ge s _ ([41]++[46])from l).right;have t:AS s (i+Z f.a.toList+1+Z (Gn f.qH)+1) K=i+Z f.a.toList+1+Z (Gn f.qH)+1:=by unfold AS;rw[mm ln,GK g lu]
 have n:Eg s (i+Z f.a.toList+1+Z (Gn f.qH)+1) K=([],i+Z f.a.toList+1+Z (Gn f.qH)+1,K):=by
  have D:Ey s (i+Z f.a.toList+1+Z (Gn f.qH)+1) 58=K:=by rw[Ry g];rfl
  unfold Eg Cn;rw[t,D];rfl
 have q:=O3 g lu;unfold An;exact qy
def WT{f}(h:Ml f):An (B7 f) 0=(⟨⟨f.a,f.qH.map (AK.mk 0),0⟩,[],0⟩,(B7 f).size,K):=by
 rw[WD h (Ut _),m7]
theorem WX(b B a c j w)(h:Cs w b B a c j):rE rF 134 #[jj (V ⟨b,0,Y⟩)] w λe f=>e=j1 (kx ((Au a c).b==1))/\Cs f b B a c (if(Au a c).b==1 then j else(Au a c).c)/\Ac [b] w f:=by
 have k:=h.lt;obtain⟨g,i,rfl,R,M,_,l⟩:=h.cells;obtain⟨C,_,_⟩:=l c k;clear l;rw[Bv k]at C;have p:=Ab h;have n:jV (a[c]'k=Au a c):=Bv k;have AO:=rJ c
 have S:(c:Int)<(Z a:Int):=lc
 generalize Au a c=m at C n|-;clear h;cases hk:(m.b==1)with
 |true=>
  go_enter func134,ntmps134;go_wp2_with fail
  go_quiet (fail)
  go_wp2;go_ret;exact⟨rfl,(Aa p).zH ((kR [] w).drewN _),(kR _ w).drewN _⟩
 |false=>
  go_enter func134,ntmps134;go_wp2_with fail
  have x:jV (∀d u,Cs d b (U (V ⟨g,0,Y⟩) (Z a) i) a c u->jY d ⟨b,0,Y⟩=V (U (V ⟨g,0,Y⟩) (Z a) i)/\jY d ⟨b,1,Y⟩=V (X J c)/\jY d ⟨g,c*3,Y⟩=V (X J m.b)):=by
   intro d u o;obtain⟨g',P,z,G,F,_,l⟩:=o.cells;obtain⟨q,_,_⟩:=l c k;simp only[lU,lZ,mR]at z;obtain⟨⟨rfl,_⟩,_,rfl⟩:=z;rw[Aa n]at q;exact⟨G,F,q⟩
  have H:=Ab (JP b (U (V ⟨g,0,Y⟩) (Z a) i) a c j w.drew ((Aa p).zH (kR [] w).drew) m (Aa n));have E:jV (∀d,Cs d b (U (V ⟨g,0,Y⟩) (Z a) i) a c j->rE rF 160 #[jj (V ⟨b,0,Y⟩),X J m.c] d λe f=>e=j1 (kx K)/\Cs f b (U (V ⟨g,0,Y⟩) (Z a) i) a c m.c/\Ac [b] d f):=λd o=>FM b (U (V ⟨g,0,Y⟩) (Z a) i) a c j m.c d o
  go_region_held3 (λf=>jY f ⟨b,0,Y⟩=V (U (V ⟨g,0,Y⟩) (Z a) i)/\jY f ⟨b,1,Y⟩=V (X J c)/\jY f ⟨g,c*3,Y⟩=V (X J m.b)) (go_keep) ((first|(go_at_call 161;refine(Aa H).G ?_;rintro e L ⟨rfl,A⟩;have v:=Ab ((kR [] w).drew.H A);have t:=Ab ((Aa p).zH (Aa v));obtain⟨y0,Q,y2⟩:=Aa x L j (Aa t);clear A)|(go_at_call 160;refine(Aa E _ (Aa t)).G ?_;rintro e D ⟨rfl,y,s⟩;have r:=Ab y;have I:=Ab (((Aa v).G (N:=[b]) ln).H s);obtain⟨W,u1,T⟩:=Aa x D m.c (Aa r);clear y s)))
  go_wp2;go_ret;exact⟨rfl,Aa r,Aa I⟩
def FU(ms:kN Bb):Except Int (kN PL):=
 match Fe ms 0 [] with
 | .error p=> .error p
 | .ok (ls,nx)=>if(Au ms nx).b==1 then .ok ls else .error (Au ms nx).c
def fc(w:jH)(e:Ending)(w':jH):Except Int (kN PL)->Prop
 | .ok ls=>∃ad cp ea,e=j1 (.tuple #[U ad (Z ls) cp,X J 0,kx T6])/\ea.map kD=ls/\Cg w' w.heap.size (U ad (Z ls) cp) ea/\Ac [] w w'
 | .error p=>e=j1 (.tuple #[U Y 0 0,X J p,kx K])/\Ac [] w w'
theorem Va(s:bN)(w)(S:s.size<=300):rE rF 90 #[O s] w λe j=>fc w e j (FU (DB s)):=by
 have Q:=Ab (bg S);have M:=JT s;have E:=Ab (ak s w S);generalize DB s=ms at Q M E|-;have AT:Z ms<=1000:=lc
 go_enter func90,ntmps90;go_wp2_with fail
 refine(Aa E).G ?_;rintro e a ⟨mv,rfl,x,z⟩;clear E;obtain⟨c,d,rfl⟩:=Aj x;have P:=kS a [U c (Z ms) d,X J 0,X J 0] 203;have I:=Ak (mg x (Y6 #[U c (Z ms) d,X J 0,X J 0] 203)) (mr _);have L:(U c (Z ms) d).ownBlock≠V a.heap.size:=λe=>by have:=(x.lt _ e).2;omega
 have k:jV (Cs (a.alloc (Y6 #[U c (Z ms) d,X J 0,X J 0] 203)) a.heap.size (U c (Z ms) d) ms 0 0):=⟨P,I,L,M.2,lc⟩;have n:=Ab (z.alloc (Y6 #[U c (Z ms) d,X J 0,X J 0] 203));have AH:w.heap.size<=a.heap.size:=z.size;have R:(a.alloc (Y6 #[U c (Z ms) d,X J 0,X J 0] 203)).heap.size=a.heap.size+1:=ln
 clear P I L x z;go_wp2_with fail
 change rE _ _ _ (a.alloc (Y6 #[U c (Z ms) d,X J 0,X J 0] 203)) _;generalize a.alloc (Y6 #[U c (Z ms) d,X J 0,X J 0] 203)=w2 at k n R|-;obtain⟨b,W⟩:=kQ a.heap.size;rw[W]at k AH R|-;clear W;refine(TN b _ ms 0 0 w2 (Aa k) (Aa Q)).G ?_;intro e A v;cases ht:Fe ms 0 [] with
 |error p=>
  have f:jV (FU ms=.error p):=by show _=_;unfold FU;rw[ht]
  rw[ht]at v;obtain⟨q,rfl,l,h⟩:=v;have D:=l.zJ.D 2;simp at D;have o:jV (Ac [] w A):=(Aa n).trans' h (λi g=>j3 (by simp at g;omega));clear ht l h k n;go_wp2_with fail
  go_region_held3 (λj=>jY j ⟨b,2,Y⟩=V (X J p)) (go_keep) (fail)
  rename_i C;clear C;go_wp2;go_ret3;rw[f.o];exact⟨rfl,(Aa o).drew⟩
 |ok r=>
  obtain⟨G,q⟩:=r;rw[ht]at v;obtain⟨N,cp,T,rfl,AO,AB,l,h⟩:=v;have f:jV (FU ms=if(Au ms q).b==1 then .ok G else .error (Au ms q).c):=by show _=_;unfold FU;rw[ht]
  have u:=Ab (WX b _ ms q 0 A l);have o:jV (Ac [] w A):=(Aa n).trans' h (λi g=>j3 (by simp at g;omega));have B:=Ab AB;have A0:=h.size;clear ht l h k n AB;generalize Au ms q=m at f u;go_wp2_with fail
  refine(Aa u).G ?_;rintro e F ⟨rfl,t,y⟩;have H:jV (Ac [] w F):=(Aa o).trans' y (λi g=>j3 (by simp at g;omega));have AR:jV (Cg F w2.heap.size (U N (Z G) cp) T):=(Aa B).C y (λi g=>by simp at g;omega);cases hk:(m.b==1)with
  |true=>
   rw[hk]at f;clear t y u B o;go_wp2;go_ret3;rw[f.o];exact⟨N,cp,T,rfl,AO,(Aa AR).base lc,Aa H⟩
  |false=>
   rw[hk]at f t;have D:=t.zJ.D 2;simp at D;clear t y u B o;go_wp2_with fail
   go_region_held3 (λj=>jY j ⟨b,2,Y⟩=V (X J m.c)) (go_keep) (fail)
   rename_i C;clear C;go_wp2;go_ret3;rw[f.o];exact⟨rfl,(Aa H).drew⟩
def Xv(s:bN):match FU (DB s)with
  | .ok i=>(By s 0).2.2=K/\¬Af s (By s 0).2.1<s.size/\i=(By s 0).1.map Mn
  | .error p=>((By s 0).2.2=T6\/Af s (By s 0).2.1<s.size)/\p=(AS s (By s 0).2.1 (By s 0).2.2:Int):=by
 have g:At s (DB s) 0 0:=by rw[Ku];rfl
 have h:=Vu (s:=s) (ms:=DB s) (Z (DB s)) 0 0 [] lc g (mr _);generalize DB s=ms at h g;obtain⟨L,a,f,j⟩:∃L a f,By s 0=(L,a,f):=⟨_,_,_,rfl⟩;rw[j]at h|-;unfold FU;cases hb:Fe ms 0 [] with
 |error p=>
  rw[hb]at h;obtain⟨e,d⟩:=h;subst e;exact⟨j2 rfl,oa⟩
 |ok r=>
  rw[hb]at h;obtain⟨e,d,l,k⟩:=h;subst e;simp only;rw[l.E];by_cases b:Af s a<s.size
  .have c:((BU s a).b==1)=K:=by
    unfold BU;rw[mo b];exact mM.2 ((aU _).2.2 (Xs s _ b).1)
   rw[c,DW k];exact⟨j3 b,rfl⟩
  ·(have c:((BU s a).b==1)=T6:=by rw[IQ b];rfl);exact qr
end
def Xw:Al Bm=kB 26 (O ⟨#[]⟩):=lx
set_option maxRecDepth 100000
theorem V9(c CL B2 HR Bx)(g:kN Bc)(fp cr b0)(u:kN BE)(Nd Nq)(E:kN BE)(w)(hh:w.ownsRow 0 93 2 (U CL (Z c.E.qH) B2) (Z c.E.qH) (qS AP c.E.qH))(hb:w.ownsRow 0 95 9 (U HR (Z g) Bx) (Z g) (qS A4 g))(hl:∀p∈g,Cc w 0 p)(hf:DR w fp)(hs:CS w (U cr (Z u) b0) u)(ce:CS w (U Nd (Z E) Nq) E)(gt:Z g<=3)(a5:Z u<=6912)(g0:Z E<=6912)(ao:∀t∈c.E.qH,BJ t)(ag:Z c.E.qH<=1000)(a7:Z fp.f.qH<=1000000)(hg:∀p∈g,(p.1.b==97)=T6->(∀t∈p.1.A.qH,BJ t)/\Z p.1.A.qH<=1000)(av:(Ca Bm c.E fp.f).2=T6)(M2:∀e∈qU (Ce (u.map BE.f)) [(Ca Bm c.E fp.f).1] (g.map kD),∀p∈g,(p.1.b==97)=K->MO e p.1):rE rF 56 #[ku (Za (Dc c (U CL (Z c.E.qH) B2) (U HR (Z g) Bx))),ku (Za (Bj fp)),U cr (Z u) b0,U Nd (Z E) Nq] w λr w'=>r=.returned (kx ((qU (Ce (u.map BE.f)) [(Ca Bm c.E fp.f).1] (g.map kD)).any λe=>(g.map kD).all λx=>x.b==97||Cm (Av e) (AI e) (E.map BE.f) x))/\Ac [] w w':=by
 obtain⟨i0,e3,c9,e7,VR⟩:=mW Tryz.yA;have K8:=Ab (λd (hk:Ac [] w d)=>NH Bm c.E CL B2 fp d rfl (Ad hh hk) (hf.C hk) ag a7 ao);obtain⟨⟨S,CC,A2⟩,f9,IS⟩:=c;obtain⟨⟨FO,bp⟩,HT⟩:=fp;simp only[CN,Bj,Dc,av]at K8 M2|-;have SL:Z (Ca Bm ⟨S,CC,A2⟩ ⟨FO,bp⟩).1=26:=by rw[F8];rfl
 obtain⟨E0,QR⟩:=kQ (Ca Bm ⟨S,CC,A2⟩ ⟨FO,bp⟩).1;simp only[QR]at K8;rw[QR]at M2 SL|-;obtain⟨H4,X3⟩:=kQ ((qU (Ce (u.map BE.f)) [E0] (g.map kD)).any λe=>(g.map kD).all λx=>x.b==97||Cm (Av e) (AI e) (E.map BE.f) x);rw[X3];have a0:=Ab X3;have HB:=Ab hb;have cv:=Ab hl;have HS:=Ab hs;have a1:=Ab ce;have cb:=Ab hg;have b7:=Ab M2;obtain⟨N,hN⟩:=kQ w.heap.size;have HN:=Ab hN;clear X3 hb hl hs hg M2 ce hh hf ao av QR ag a7;simp only[Xw]at K8;have FW:=Ab (((kR [] w).alloc (Y6 #[O S,U CL (Z CC) B2,X J A2,U HR (Z g) Bx,X J IS] 82)).alloc (Y6 #[O FO,HT] 43));have Ha:=Ab ((kS w [O S,U CL (Z CC) B2,X J A2,U HR (Z g) Bx,X J IS] 82).alloc (Y6 #[O FO,HT] 43));have LE:=Ab (kS (w.alloc (Y6 #[O S,U CL (Z CC) B2,X J A2,U HR (Z g) Bx,X J IS] 82)) [O FO,HT] 43);rw[mJ]at LE;go_enter func56,ntmps56;refine kI (λKK H9=>?_);go_wp2;refine H9 _ _ ?_;clear H9 KK;change Code.wp _ _ _ _ ((w.alloc (Y6 #[O S,U CL (Z CC) B2,X J A2,U HR (Z g) Bx,X J IS] 82)).alloc (Y6 #[O FO,HT] 43));generalize(w.alloc (Y6 #[O S,U CL (Z CC) B2,X J A2,U HR (Z g) Bx,X J IS] 82)).alloc (Y6 #[O FO,HT] 43)=w1 at FW Ha LE|-;rw[Aa HN]at Ha LE
 try rw[Aa HN]
 have DT:jV (∀d,Ac [] w1 d->rE rF 87 #[ku (Za (kB 26 (O ⟨#[]⟩))),ku #[O S,U CL (Z CC) B2,X J A2],ku #[O FO,HT]] d λr w'=>r=.returned (.tuple #[ku (Za (Al E0)),kx T6])/\Ac [] d w'):=λd hk=>K8 d (FW.H hk)
 have AR:jV (∀d,Ac [] w1 d->jY d ⟨N,0,Y⟩=V (O S)/\jY d ⟨N,1,Y⟩=V (U CL (Z CC) B2)/\jY d ⟨N,2,Y⟩=V (X J A2)/\jY d ⟨N+1,0,Y⟩=V (O FO)/\jY d ⟨N+1,1,Y⟩=V HT):=by
  intro d G;have hc:=Ha.C G;have hd:=LE.C G;obtain⟨h0,h1,h2⟩:=hc.c3;obtain⟨h3,h4⟩:=hd.c2;simp at h0 h1 h2 h3 h4;exact⟨h0,h1,h2,h3,h4⟩
 obtain⟨j,A1⟩:=kQ (Al E0);have H6:=Ab A1;have T:Z j=26:=by rw[<-A1,CD,SL]
 have Nx:∀v∈j,v.oneCell'=T6:=by rw[<-A1];exact Gs E0
 rw[A1]at DT;clear A1 K8;have hu:=underlying90;have IA:(rF.info? 90).map (·.size)=V (Z j):=by rw[T];exact Tryz.zE
 obtain⟨NA,a3⟩:=kQ (Z CC);rw[a3]at DT AR Ha|-;clear a3;obtain⟨c0,c1,c2,c3,c4⟩:=AR w1 (kR _ _);refine kI (λKK H9=>?_);go_wp2_with fail
 refine(DT _ (kR _ _)).G ?_;rintro _ D ⟨rfl,k3⟩;have IJ:=LF D T;have H0:=k3.size;have HI:=Ab k3;clear k3 c0 c1 c2 c3 c4;go_wp2_with ((with_reducible refine qZ 90 ?_);refine ow rfl 90 _ _ rfl D.heap.size 0 (Za j) lx lx IJ IA (nH Nx) ?_)
 refine H9 _ _ ?_;clear H9 KK;have A0:jV (AF ((D.alloc (Y6 jS 90)).setCells D.heap.size 0 j) D.heap.size j 90):=AF.zM (kS D (kB 26 (O ⟨#[]⟩)) 90) j (by rw[T];rfl);have H:jV (Ac [] w1 ((D.alloc (Y6 jS 90)).setCells D.heap.size 0 j)):=(HI.alloc _).zG (b:=D.heap.size) (Or.inr H0) j 0
 try simp only[pr]
 generalize(D.alloc (Y6 jS 90)).setCells D.heap.size 0 j=W at A0 H|-;obtain⟨B,hB⟩:=kQ D.heap.size;rw[hB]at A0|-;clear IJ H0 HI hB;have K9:0<Z j:=lc
 have LM:(ku (Za j)).cells=Za j:=by rw[<-Aa H6];exact Bp E0
 have HZ:jV ((rF.info? 90).map (λi=>(i.zero,i.size))=V (V (ku (Za (kB 26 (O ⟨#[]⟩)))),Z j)):=by rw[T];exact Tryz.zo
 have Jx:jV (BR (W.alloc (Y6 (Za j) 90)) w1.heap.size (U (V ⟨W.heap.size,0,Y⟩) [E0].length 1) [E0]):=by
  have h:=pQ (e:=90) (size:=26) (base:=w1.heap.size) W (Za j) 1 H.size lw (by simp[T]);refine⟨?_,λe he=>by simp at he;rw[he];exact SL⟩;simp only[mB,np,mQ,Aa H6];exact h
 have WW:=Ab (H.alloc (Y6 (Za j) 90));obtain⟨Q,X2⟩:=kQ w1.heap.size;have b4:=Ab X2;rw[X2]at Jx;clear X2;have M3:=Ab (Ad HB FW);have H1:jV (∀p∈g,Cc w1 0 p):=λp hp=>(cv p hp).C FW
 have NS:=Ab (HS.C FW);have en:=Ab (a1.C FW);clear HB cv HS a1 AR DT;go_wp2_with (first|((with_reducible refine qY 90 ?_);refine oe rfl 90 _ rfl B 0 lx j _ A0.range underlying90 rfl IA ?_)|((with_reducible refine q7 87 ?_);refine Do rfl 87 _ rfl j lx 90 _ underlying87 LM HZ (by rw[T];rfl) K9 lc ?_))
 generalize W.alloc (Y6 (Za j) 90)=w4 at Jx WW|-;generalize W.heap.size=WS at Jx|-;clear A0 H HZ K9 LM IA Nx T H6
 go_loopg [11,12] (Z g) (λgk l i wr=>∃(k:Nat) (L:kN (kN bN)) (HX:rB) (P:Nat),l=U HX (Z L) P/\i=X J k/\k<=Z g/\gk=Z g-k/\jV (qU (Ce (u.map BE.f)) [E0] ((qT k g).map kD)=L)/\jV (Z L<=6912^k)/\jV (BR wr Q (U HX (Z L) P) L)/\jV (Ac [] w1 wr))
 case atStart=>exact⟨0,[E0],V ⟨WS,0,Y⟩,1,rfl,rfl,lc,rfl,rfl,(by show _<=_;simp),Jx,WW⟩
 case round=>
  clear Jx WW;obtain⟨k,L,HX,P,rfl,rfl,hk,cp,HF,K7,y,o⟩:=hrel;have HG:=Ab cp;clear cp;have cB:=(Ha.C o).D 3;simp at cB;by_cases LS:k<Z g
  .obtain⟨C,eg,x,BA,BT,K5,FA,d0,d1,d2,d3,d4,d5,d6,d7,d8⟩:=MM (Ad M3 o) (λp hp=>(H1 p hp).C o) k LS;obtain⟨rfl,_,rfl⟩:=qX K5;have Df:jV (qU (Ce (u.map BE.f)) [E0] ((qT (k+1) g).map kD)=if x.b==97 then L.flatMap (λe=>(u.map BE.f).filterMap (It e x.A))else L):=by
    show _=_;rw[lW LS,mO,m6,Aa HF,FA];rfl
   (have FF:(x,U BA (Z x.A.qH) BT)∈g:=by rw[<-FA];exact lV LS);have f7:=Ab FF;have ew:=Ab FA;have e4:=Ab (H1 _ FF);have T0:=Ab (cb _ FF);clear FA HF FF d4 d5 d6 d7 d8;have HC:((x.b.toNat:Int)==97)=(x.b==97):=Cu _ 97;obtain⟨gv,f8⟩:=rI (lc:k<Z g);cases h97:(x.b==97)with
   |false=>
    rw[h97]at HC Df;(have cy:((x.b.toNat:Int) !=97)=T6:=by simp[bne,HC]);have U1:jV (Z L<=6912^(k+1)):=by
     have h:=Aa K7;show _<=_;rw[Nat.pow_succ];omega
    have NL:jV (qU (Ce (u.map BE.f)) [E0] ((qT (k+1) g).map kD)=L):=Df;clear Df;go_wp2
    go_roundg (Z g-(k+1))
    case measure=>exact qu
    case rel=>exact⟨k+1,L,HX,P,rfl,ly,lc,rfl,NL,U1,y,o⟩
   |true=>
    rw[h97]at HC Df T0;(have cy:((x.b.toNat:Int) !=97)=K:=by simp[bne,HC]);have em:Z L<=47775744:=by
     have h:=Aa K7;have h2:6912^k<=6912^2:=Nat.pow_le_pow_right lc lc;omega
    have br:=Ab (T0 rfl);clear T0;go_wp2_with fail
    go_loopg [13,14] (Z L) (λgk nx i wr=>∃(m:Nat) (I:kN (kN bN)) (EY:rB) (ES:Nat),nx=U EY (Z I) ES/\i=X J m/\m<=Z L/\gk=Z L-m/\jV ((qT m L).flatMap (λe=>(u.map BE.f).filterMap (It e x.A))=I)/\jV (BR wr Q (U EY (Z I) ES) I)/\jV (BR wr Q (U HX (Z L) P) L)/\jV (Cd (U EY (Z I) ES) (U HX (Z L) P))/\jV (Ac [] w1 wr))
    case atStart=>exact⟨0,[],Y,0,rfl,rfl,lc,rfl,rfl,BR.nil _ _,y,(λq hq=>by cases hq),o⟩
    case round=>
     clear y o d0 d1 d2 d3 cB;obtain⟨m,I,EY,ES,rfl,rfl,hm,KD,KS,EX,y,FB,o⟩:=hrel;have SP:=Ab KD;clear KD;have MB:jV (Z I<=m*Z u):=by
      show _<=_;rw[<-Aa KS];have h:=OU (u.map BE.f) x.A (qT m L);rw[mh,mT,oP hm]at h;exact h
     by_cases CW:m<Z L
     .obtain⟨M,f4,K1,f3,r0⟩:=Jb y m CW;obtain⟨rfl,_,rfl⟩:=qX K1;obtain⟨e,he⟩:=kQ (L[m]);(have H3:Z e=26:=by rw[<-he];exact y.j _ (lV CW));have H2:jV ((qT (m+1) L).flatMap (λe=>(u.map BE.f).filterMap (It e x.A))=I++(u.map BE.f).filterMap (It e x.A)):=by
       show _=_;rw[lW CW,mD,Aa KS,he];simp
      rw[he]at r0;obtain⟨cL,et⟩:=rI (lc:m<Z L);have gg:Z I+Z u<=330225942528:=by
       have h:=Aa MB;have h2:(m+1)*Z u<=47775744*6912:=Nat.mul_le_mul lc a5;rw[oD,Nat.one_mul]at h2;omega
      clear MB r0;have NN:jV (∀d,BR d Q (U (V ⟨M,0,Y⟩) (Z L) P) L->d.rangeAt M (m*26) (Al e)):=by
       intro d hz;obtain⟨g',bx,B9,_,r'⟩:=Jb hz m CW;simp only[lU,lZ,mR]at B9;obtain⟨⟨rfl,_,_⟩,_,_⟩:=B9;rw[he]at r';exact r'
      clear he;go_wp2_with fail
      go_loopg [13,15] (Z u) (λgk nx i wr=>∃(q:Nat) (F:kN (kN bN)) (EY:rB) (ES:Nat),nx=U EY (Z F) ES/\i=X J q/\q<=Z u/\gk=Z u-q/\Z F<=Z I+q/\jV (I++((qT q u).map BE.f).filterMap (It e x.A)=F)/\jV (BR wr Q (U EY (Z F) ES) F)/\jV (BR wr Q (U (V ⟨M,0,Y⟩) (Z L) P) L)/\jV (Cd (U EY (Z F) ES) (U (V ⟨M,0,Y⟩) (Z L) P))/\jV (Ac [] w1 wr))
      case atStart=>exact⟨0,I,EY,ES,rfl,rfl,lc,rfl,lc,se,EX,y,FB,o⟩
      case round=>
       clear EX y FB o KS;obtain⟨q,F,Wa,P0,rfl,rfl,hq,Ix,gw,aa,EX,y,FB,o⟩:=hrel;have H8:=Ab Ix;clear Ix;by_cases FP:q<Z u
       .obtain⟨gs,gf,fn,xs,M1,MY,b5,M6,s0,s1⟩:=Dd (NS.C o) q FP;obtain⟨rfl,_,rfl⟩:=qX b5;obtain⟨ds,eB⟩:=rI (lc:q<Z u);have MN:=NS.j _ (lV FP);rw[M6]at MN;have DT:jV (∀d,Ac [] wr d->rE rF 87 #[ku (Za (Al e)),ku #[O x.A.a,U BA (Z x.A.qH) BT,X J x.A.e],ku #[O fn,U M1 (Z xs) MY]] d λr w'=>r=.returned (.tuple #[ku (Za (Al (Ca e x.A ⟨fn,xs⟩).1)),kx (Ca e x.A ⟨fn,xs⟩).2])/\Ac [] d w'):=λd G=>
         NH e x.A BA BT ⟨⟨fn,xs⟩,U M1 (Z xs) MY⟩ d H3 (e4.C (o.H G)) (MN.1.C (o.H G)) br.2 (by have:=MN.2.len;simp at this|-;omega) br.1
        have AO:jV (I++((qT (q+1) u).map BE.f).filterMap (It e x.A)=if(Ca e x.A ⟨fn,xs⟩).2 then F++[(Ca e x.A ⟨fn,xs⟩).1] else F):=by
         show _=_;rw[lW FP,mO,List.filterMap_append,<-mY,Aa aa,M6];simp only[mA,om,pW,List.filterMap_nil,It];cases(Ca e x.A ⟨fn,xs⟩).2<;>simp
        (have TV:jV (Z (Ca e x.A ⟨fn,xs⟩).1=26):=by show _=_;rw[F8,H3]);have AR:jV (∀d,Ac [] wr d->jY d ⟨N,3,Y⟩=V (U (V ⟨C,0,Y⟩) (Z g) Bx)/\d.rangeAt M (m*26) (Al e)/\jY d ⟨C,k*9+1,Y⟩=V (O x.A.a)/\jY d ⟨C,k*9+2,Y⟩=V (U BA (Z x.A.qH) BT)/\jY d ⟨C,k*9+3,Y⟩=V (X J x.A.e)/\jY d ⟨gs,q*2,Y⟩=V (O fn)/\jY d ⟨gs,q*2+1,Y⟩=V (U M1 (Z xs) MY)):=by
         intro d G;have HJ:=o.H G;obtain⟨e8,c5,x',ek,e5,KB,HW,ar,TT,TX,SB,_⟩:=MM (Ad M3 HJ) (λp hp=>(H1 p hp).C HJ) k LS;simp only[lU,lZ,mR]at KB;obtain⟨⟨rfl,_,_⟩,_,_⟩:=KB;rw[Aa ew]at HW;simp only[mU,lU]at HW;obtain⟨rfl,rfl,_,rfl⟩:=HW;obtain⟨g',ge,n',gp,gz,bx,B9,db,f0,f1⟩:=Dd (NS.C HJ) q FP;have e2:=db.symm.H M6;simp only[lU,lZ,mR,BE.mk.injEq,Ae.mk.injEq]at B9 e2;obtain⟨⟨rfl,_,_⟩,_,_⟩:=B9;obtain⟨⟨rfl,rfl⟩,rfl,_,rfl⟩:=e2;have h3:=(Ha.C HJ).D 3;simp at h3;exact⟨h3,NN d (y.C G),TT,TX,SB,f0,f1⟩
        clear M6 MN;obtain⟨j,A1⟩:=kQ (Al (Ca e x.A ⟨fn,xs⟩).1);obtain⟨RB,W2⟩:=kQ (Ca e x.A ⟨fn,xs⟩).2;obtain⟨RE,W3⟩:=kQ (Ca e x.A ⟨fn,xs⟩).1;rw[W2,W3]at AO;rw[A1,W2]at DT;rw[W3]at TV A1;have H6:=Ab A1;(have T:Z j=26:=by rw[<-A1,CD];exact TV);(have Nx:∀v∈j,v.oneCell'=T6:=by rw[<-A1];exact Gs RE);clear A1 W2 W3;obtain⟨EK,HO⟩:=kQ (Al e);rw[HO]at DT AR;(have X0:Z EK=26:=by rw[<-HO,CD,H3]);clear HO;have hu:=underlying90;(have hi:(rF.info? 90).map (·.size)=V (Z EK):=by rw[X0];exact Tryz.zE);(have IA:(rF.info? 90).map (·.size)=V (Z j):=by rw[T];exact Tryz.zE);have g2:(k:Int)<(Z g:Int):=lc;obtain⟨nm,S⟩:=kQ x.A.a;obtain⟨ja,K2⟩:=kQ x.A.e;obtain⟨na,JA⟩:=kQ (Z x.A.qH);rw[S,K2,JA]at DT AR;clear S K2 JA;go_wp2_with fail
        go_region_held3 (λd=>Ac [] wr d/\jY d ⟨N,3,Y⟩=V (U (V ⟨C,0,Y⟩) (Z g) Bx)/\d.rangeAt M (m*26) EK/\jY d ⟨C,k*9+1,Y⟩=V (O nm)/\jY d ⟨C,k*9+2,Y⟩=V (U BA na BT)/\jY d ⟨C,k*9+3,Y⟩=V (X J ja)/\jY d ⟨gs,q*2,Y⟩=V (O fn)/\jY d ⟨gs,q*2+1,Y⟩=V (U M1 (Z xs) MY)) ((go_split_ands;refine(fun(G:Ac [] wr _)=>And.intro G (AR _ G)) ?_;repeat (first|assumption|exact kR [] _|refine Ac.drew ?_|refine Ac.alloc ?_ _|(refine Ac.zG ?_ (Or.inr (by first|omega|(simp;omega))) _ _)))) ((go_at_call 87;refine(DT _ ml).G ?_;rintro e D ⟨rfl,k3⟩;have H5:Ac [] wr D:=sh;have IJ:=LF D T;(try have fa:=N1 k3 T);have H0:=H5.size;have HI:=Ab k3;clear k3))
        all_goals
         rename_i M0;have H:=Ab M0.1;clear M0 DT AR
         first
          |(
            have A0:jV (AF (D.setCells wr.heap.size 0 j) wr.heap.size j 90):=AF.zM ((kS wr (kB 26 (O ⟨#[]⟩)) 90).drew.C HI) j (by rw[T];rfl)
            obtain⟨B,hB⟩:=kQ wr.heap.size
            rw[hB]at A0 H|-
            have dT:wr.heap.size<=B:=lc
            clear IJ fa H0 HI hB
            generalize D.setCells B 0 j=W at A0 H|-)
          |(
            have A0:jV (AF ((D.alloc (Y6 jS 90)).setCells D.heap.size 0 j) D.heap.size j 90):=AF.zM (kS D (kB 26 (O ⟨#[]⟩)) 90) j (by rw[T];rfl)
            obtain⟨B,hB⟩:=kQ D.heap.size
            rw[hB]at A0 H H0|-
            have dT:wr.heap.size<=B:=lc
            clear IJ H0 HI hB
            generalize(D.alloc (Y6 jS 90)).setCells B 0 j=W at A0 H|-)
         clear H5;have gy:=H.size;cases RB with
         |false=>
          have HQ:jV (I++((qT (q+1) u).map BE.f).filterMap (It e x.A)=F):=AO;have e0:=Ab (EX.C H);have YP:=Ab (y.C H);have VL:=Ab (o.H H);clear AO EX y o A0 H;go_wp2
          go_roundg (Z u-(q+1))
          case measure=>exact qu
          case rel=>exact⟨q+1,F,Wa,P0,rfl,ly,lc,rfl,lc,HQ,e0,YP,FB,VL⟩
         |true=>
          have HQ:jV (I++((qT (q+1) u).map BE.f).filterMap (It e x.A)=F++[RE]):=AO;have OH:=(EX.C H).row;have K9:0<Z j:=lc;(have gr:Q<=wr.heap.size:=by have:=o.size;have:=Aa b4;omega);(have LM:(ku (Za j)).cells=Za j:=by rw[<-Aa H6];exact Bp RE);(have HZ:jV ((rF.info? 90).map (λi=>(i.zero,i.size))=V (V (ku (Za (kB 26 (O ⟨#[]⟩)))),Z j)):=by rw[T];exact Tryz.zo);clear AO;go_wp2_with (first|((with_reducible refine qY 90 ?_);refine oe rfl 90 _ rfl B 0 lx j _ A0.range underlying90 rfl IA ?_)|((with_reducible refine q7 87 ?_);refine Do rfl 87 _ rfl j lx 90 _ underlying87 LM HZ (by rw[T];rfl) K9 lc ?_)|(at_builtin;change jV (wpList _ _ _ _ _ _)))
          show wpList _ _ _ _ _ _;refine mE _ rfl (.tmp 79) (.tmp 81) _ rfl Q 90 i0 _ 26 416 underlying87 e3 c9 e7 VR rfl lc (U Wa (Z F) P0) (Z F) (qS Al F) rfl (mg OH _) ⟨W.heap.size,0,Y⟩ 1 1 j rfl lc (mz (mG W _)) Nx lc lw lc li (W.heap.size+1) ln ?_;intro g1 RT w9 bz SS ad c8;have ef:jV (BR w9 Q (U (V ⟨g1,0,Y⟩) (Z (F++[RE])) RT) (F++[RE])):=by
           refine⟨?_,λe' B9=>?_⟩
           .rw[mp,mD];simp only[mB,np,mQ,Aa H6,mn,mI,m7];exact bz
           .rcases mi.1 B9 with h|h
            .exact EX.j e' h
            .simp only[lX]at h;rw[h];exact TV
          have es:jV (BR w9 Q (U (V ⟨M,0,Y⟩) (Z L) P) L):=
           ⟨nF (v:=U (V ⟨M,0,Y⟩) (Z L) P) ((y.C H).row.alloc _) SS (Or.inr (λh=>FB M h.symm rfl)),y.j⟩
          have c7:jV (Cd (U (V ⟨g1,0,Y⟩) (Z (F++[RE])) RT) (U (V ⟨M,0,Y⟩) (Z L) P)):=by
           intro z hz VR;simp only[kE,lZ]at hz VR;rcases ad with h|h
           .exact FB g1 h (by simp only[kE,lZ];omega)
           .have:=(y.row.lt M rfl).2;omega
          have HI:jV (Ac [] w1 w9):=(((o.H H).alloc _).grown SS (λz hz=>Or.inr (by have:=(OH.lt z hz).1;have:=Aa b4;omega)));clear bz SS ad c8 OH EX y FB o H A0;go_wp2_with fail
          go_roundg (Z u-(q+1))
          case measure=>exact qu
          case rel=>exact⟨q+1,F++[RE],V ⟨g1,0,Y⟩,RT,ln,ly,lc,rfl,li,HQ,ef,es,c7,HI⟩
       .have fl:jV ((qT (m+1) L).flatMap (λe=>(u.map BE.f).filterMap (It e x.A))=F):=by
         show _=_;rw[Aa H2,<-Aa aa,lY lc]
        clear aa H2;go_wp2
        go_roundg (Z L-(m+1))
        case measure=>exact qu
        case rel=>exact⟨m+1,F,Wa,P0,rfl,ly,lc,rfl,fl,EX,y,FB,o⟩
     .have NL:jV (qU (Ce (u.map BE.f)) [E0] ((qT (k+1) g).map kD)=I):=by
       show _=_;rw[Aa Df,mo True.intro,<-Aa KS,lY lc]
      have U1:jV (Z I<=6912^(k+1)):=by
       show _<=_;have h:=Aa MB;have h2:m*Z u<=6912^k*6912:=Nat.mul_le_mul (by have:=Aa K7;omega) a5;rw[Nat.pow_succ];omega
      clear KS Df MB y FB;go_wp2
      go_roundg (Z g-(k+1))
      case measure=>exact qu
      case rel=>exact⟨k+1,I,EY,ES,rfl,ly,lc,rfl,NL,U1,EX,o⟩
  .have W1:jV (qU (Ce (u.map BE.f)) [E0] (g.map kD)=L):=by
    have h:=Aa HF;rw[lY lc]at h;exact h
   have em:Z L<=330225942528:=by
    have h:=Aa K7;have h2:6912^k<=6912^3:=Nat.pow_le_pow_right lc lc;omega
   have b6:jV (L.any (λe=>(g.map kD).all λx=>x.b==97||Cm (Av e) (AI e) (E.map BE.f) x)=H4):=by
    have h:=Aa a0;rw[Aa W1]at h;exact h
   have fz:jV (∀e∈L,∀p∈g,(p.1.b==97)=K->MO e p.1):=by
    have h:=Aa b7;rw[Aa W1]at h;exact h
   clear a0 b7 HF W1 cb K7 HG;(go_wp2_with fail);clear cB
   go_loopg [18] (Z L) (λgk i wr=>∃(m:Nat),i=X J m/\m<=Z L/\gk=Z L-m/\jV ((qT m L).any (λe=>(g.map kD).all λx=>x.b==97||Cm (Av e) (AI e) (E.map BE.f) x)=K)/\jV (BR wr Q (U HX (Z L) P) L)/\jV (Ac [] w1 wr))
   case atStart=>exact⟨0,rfl,lc,rfl,rfl,y,o⟩
   case round=>
    clear y o;obtain⟨m,rfl,hm,KD,bt,y,o⟩:=hrel;have SP:=Ab KD;clear KD;by_cases CW:m<Z L
    .obtain⟨M,f4,K1,f3,r0⟩:=Jb y m CW;obtain⟨rfl,_,rfl⟩:=qX K1;obtain⟨e,he⟩:=kQ (L[m]);(have H3:Z e=26:=by rw[<-he];exact y.j _ (lV CW));(have an:e∈L:=by rw[<-he];exact lV CW);have c6:=Ab (fz e an);have H2:jV ((qT (m+1) L).any (λe=>(g.map kD).all λx=>x.b==97||Cm (Av e) (AI e) (E.map BE.f) x)=((qT (Z g) g).map kD).all (λx=>x.b==97||Cm (Av e) (AI e) (E.map BE.f) x)):=by
      show _=_;rw[lW CW,p8,Aa bt,he,nw];simp
     have NV:jV (((qT (Z g) g).map kD).all (λx=>x.b==97||Cm (Av e) (AI e) (E.map BE.f) x)=T6->H4=T6):=by
      intro h;rw[<-Aa b6];rw[nw]at h;exact nD.2 ⟨e,an,h⟩
     obtain⟨cL,et⟩:=rI (lc:m<Z L);clear r0;have NN:jV (∀d,BR d Q (U (V ⟨M,0,Y⟩) (Z L) P) L->d.rangeAt M (m*26) (Al e)):=by
      intro d hz;obtain⟨g',bx,B9,_,r'⟩:=Jb hz m CW;simp only[lU,lZ,mR]at B9;obtain⟨⟨rfl,_,_⟩,_,_⟩:=B9;rw[he]at r';exact r'
     clear he;go_wp2_with fail
     go_loopg [19,20] (Z g) (λgk a i wr=>∃(q:Nat) (ab:rD),a=kx ab/\i=X J q/\q<=Z g/\gk=Z g-q/\jV (((qT q g).map kD).all (λx=>x.b==97||Cm (Av e) (AI e) (E.map BE.f) x)=ab)/\jV (BR wr Q (U (V ⟨M,0,Y⟩) (Z L) P) L)/\jV (Ac [] w1 wr))
     case atStart=>exact⟨0,T6,rfl,rfl,lc,rfl,rfl,y,o⟩
     case round=>
      clear y o;obtain⟨q,ab,rfl,rfl,hq,Ix,K4,y,o⟩:=hrel;have H8:=Ab Ix;clear Ix;have cB:=(Ha.C o).D 3;simp at cB;by_cases FP:q<Z g
      .obtain⟨C,eg,x,BA,BT,K5,FA,d0,d1,d2,d3,d4,d5,d6,d7,d8⟩:=MM (Ad M3 o) (λp hp=>(H1 p hp).C o) q FP;obtain⟨rfl,_,rfl⟩:=qX K5;(have FF:(x,U BA (Z x.A.qH) BT)∈g:=by rw[<-FA];exact lV FP);have AO:jV (((qT (q+1) g).map kD).all (λx=>x.b==97||Cm (Av e) (AI e) (E.map BE.f) x)=(ab&&(x.b==97||Cm (Av e) (AI e) (E.map BE.f) x))):=by
        show _=_;rw[lW FP,mO,List.all_append,Aa K4,FA];simp
       obtain⟨ds,eB⟩:=rI (lc:q<Z g);have HC:((x.b.toNat:Int)==97)=(x.b==97):=Cu _ 97;cases h97:(x.b==97)with
       |true=>
        rw[h97]at HC AO;have HQ:jV (((qT (q+1) g).map kD).all (λx=>x.b==97||Cm (Av e) (AI e) (E.map BE.f) x)=ab):=by
         have h:=Aa AO;rw[pA,Bool.and_true]at h;exact h
        (have HD:jV (∀n,BR (wr.drewN n) Q (U (V ⟨M,0,Y⟩) (Z L) P) L/\Ac [] w1 (wr.drewN n)):=λn=>⟨y.C ((kR [] wr).drewN n),o.drewN n⟩);clear AO FA FF y o K4;go_wp2_with fail
        go_quiet (fail)
        cases ab
        all_goals
         go_wp2
         go_roundg (Z g-(q+1))
         case measure=>exact qu
         case rel=>exact⟨q+1,_,rfl,ly,lc,rfl,HQ,(HD _).1,(HD _).2⟩
       |false=>
        rw[h97]at HC AO;have K3:jV (∀d,Ac [] wr d->rE rF 88 #[ku (Za (Al e)),ku #[X .u8 x.b.toNat,O x.A.a,U BA (Z x.A.qH) BT,X J x.A.e,X .u8 x.L.v.toNat,O x.L.s,X .u8 x.R.v.toNat,O x.R.s,X J x.e],U Nd (Z E) Nq] d λr w'=>r=.returned (kx (Cm (Av e) (AI e) (E.map BE.f) x))/\Ac [] d w'):=λd G=>
         Rl e x BA BT Nd Nq E d H3 ((H1 _ FF).C (o.H G)) (en.C (o.H G)) lc (c6 _ FF h97)
        have AR:jV (∀d,Ac [] wr d->jY d ⟨N,3,Y⟩=V (U (V ⟨C,0,Y⟩) (Z g) Bx)/\d.rangeAt M (m*26) (Al e)/\jY d ⟨C,q*9,Y⟩=V (X .u8 x.b.toNat)/\jY d ⟨C,q*9+1,Y⟩=V (O x.A.a)/\jY d ⟨C,q*9+2,Y⟩=V (U BA (Z x.A.qH) BT)/\jY d ⟨C,q*9+3,Y⟩=V (X J x.A.e)/\jY d ⟨C,q*9+4,Y⟩=V (X .u8 x.L.v.toNat)/\jY d ⟨C,q*9+5,Y⟩=V (O x.L.s)/\jY d ⟨C,q*9+6,Y⟩=V (X .u8 x.R.v.toNat)/\jY d ⟨C,q*9+7,Y⟩=V (O x.R.s)/\jY d ⟨C,q*9+8,Y⟩=V (X J x.e)):=by
         intro d G;have HJ:=o.H G;obtain⟨e8,c5,x',ek,e5,KB,HW,ar,TT,TX,SB,f2,eb,f6,fy,eh⟩:=MM (Ad M3 HJ) (λp hp=>(H1 p hp).C HJ) q FP;simp only[lU,lZ,mR]at KB;obtain⟨⟨rfl,_,_⟩,_,_⟩:=KB;rw[FA]at HW;simp only[mU,lU]at HW;obtain⟨rfl,rfl,_,rfl⟩:=HW;have h3:=(Ha.C HJ).D 3;simp at h3;exact⟨h3,NN d (y.C G),ar,TT,TX,SB,f2,eb,f6,fy,eh⟩
        obtain⟨LB,Os⟩:=kQ (Cm (Av e) (AI e) (E.map BE.f) x);rw[Os,oO]at AO;rw[Os]at K3;clear Os FA FF;obtain⟨EK,HO⟩:=kQ (Al e);rw[HO]at K3 AR;(have X0:Z EK=26:=by rw[<-HO,CD,H3]);clear HO;have hu:=underlying90;(have hi:(rF.info? 90).map (·.size)=V (Z EK):=by rw[X0];exact Tryz.zE);obtain⟨kd,U0⟩:=kQ x.b.toNat;obtain⟨nm,S⟩:=kQ x.A.a;obtain⟨ja,K2⟩:=kQ x.A.e;obtain⟨na,JA⟩:=kQ (Z x.A.qH);obtain⟨lv,cx⟩:=kQ x.L.v.toNat;obtain⟨ls,b9⟩:=kQ x.L.s;obtain⟨rv,af⟩:=kQ x.R.v.toNat;obtain⟨rs,ch⟩:=kQ x.R.s;obtain⟨NM,A2⟩:=kQ x.e;rw[U0,S,K2,JA,cx,b9,af,ch,A2]at K3 AR;rw[U0]at HC;clear h97 U0 S K2 JA cx b9 af ch A2 d0 d1 d2 d3 d4 d5 d6 d7 d8;(go_wp2_with fail);clear cB
        go_region_held3 (λd=>Ac [] wr d/\jY d ⟨N,3,Y⟩=V (U (V ⟨C,0,Y⟩) (Z g) Bx)/\d.rangeAt M (m*26) EK/\jY d ⟨C,q*9,Y⟩=V (X .u8 kd)/\jY d ⟨C,q*9+1,Y⟩=V (O nm)/\jY d ⟨C,q*9+2,Y⟩=V (U BA na BT)/\jY d ⟨C,q*9+3,Y⟩=V (X J ja)/\jY d ⟨C,q*9+4,Y⟩=V (X .u8 lv)/\jY d ⟨C,q*9+5,Y⟩=V (O ls)/\jY d ⟨C,q*9+6,Y⟩=V (X .u8 rv)/\jY d ⟨C,q*9+7,Y⟩=V (O rs)/\jY d ⟨C,q*9+8,Y⟩=V (X J NM)) ((go_split_ands;refine(fun(G:Ac [] wr _)=>And.intro G (AR _ G)) ?_;repeat (first|assumption|exact kR [] _|refine Ac.drew ?_|refine Ac.alloc ?_ _))) ((go_at_call 88;refine(K3 _ ml).G ?_;rintro e D ⟨rfl,k3⟩;have H5:Ac [] wr D:=sh;clear k3))
        rename_i M0;clear M0 K3 AR;have YP:=Ab (y.C H5);have VL:=Ab (o.H H5);clear y o H5 K4;cases ab
        all_goals
         have HQ:=Ab AO;clear AO;go_wp2
         go_roundg (Z g-(q+1))
         case measure=>exact qu
         case rel=>exact⟨q+1,_,rfl,ly,lc,rfl,HQ,YP,VL⟩
      ·have a2:q=Z g:=lc;have L0:jV (((qT (Z g) g).map kD).all (λx=>x.b==97||Cm (Av e) (AI e) (E.map BE.f) x)=ab):=by
        have h2:=Aa K4;rw[a2]at h2;exact h2
       clear K4 H8 a2;cases ab with
       |false=>
        have cz:jV ((qT (m+1) L).any (λe=>(g.map kD).all λx=>x.b==97||Cm (Av e) (AI e) (E.map BE.f) x)=K):=H2.H L0;clear H2 NV L0;go_wp2
        go_roundg (Z L-(m+1))
        case measure=>exact qu
        case rel=>exact⟨m+1,ly,lc,rfl,cz,y,o⟩
       |true=>
        have HY:jV (H4=T6):=NV L0;have TH:jV (Ac [] w wr):=FW.H o;clear H2 NV L0;go_wp2;go_ret;rw[Aa HY];exact⟨rfl,TH⟩
    .have HY:jV (H4=K):=by
      have h:=Aa bt;rw[lY lc]at h;exact b6.symm.H h
     have TH:jV (Ac [] w wr):=FW.H o;go_wp2;go_ret;rw[Aa HY];exact⟨rfl,TH⟩
