import Derived.Test.YtoihbhenbmffcaaGreatDoorYAQ
import Derived.Test.YtoihbhenbmffcaaGreatDoorYAF
set_option linter.all false
set_option maxHeartbeats 0
open List renaming length->Z,toArray->j2,replicate->jL
open Option renaming none->Y,some->V
open Go.Value renaming slice->U,int->X,string->O,agg->jH,ownBlock->jN
open Go.IntKind renaming i64->J
open Go renaming World->j7,Value->j8
open Go.RowKit renaming Hid->j9
open Go.World renaming cell?->jF
open Prod renaming fst->jM
namespace Go.Proofs.YtoihbhenbmffcaaGreatDoor
open Go.RowKit Go.Proofs.Tryz
abbrev cW:Array j8:=#[O ⟨#[]⟩,O ⟨#[]⟩,O ⟨#[]⟩,O ⟨#[]⟩,O ⟨#[]⟩,O ⟨#[]⟩,O ⟨#[]⟩,O ⟨#[]⟩,O ⟨#[]⟩,O ⟨#[]⟩,O ⟨#[]⟩,O ⟨#[]⟩,O ⟨#[]⟩,O ⟨#[]⟩,O ⟨#[]⟩,O ⟨#[]⟩,O ⟨#[]⟩,O ⟨#[]⟩,O ⟨#[]⟩,O ⟨#[]⟩,O ⟨#[]⟩,O ⟨#[]⟩,O ⟨#[]⟩,O ⟨#[]⟩,O ⟨#[]⟩,O ⟨#[]⟩]
structure By(w:j7)(base:Nat)(v:j8)(L:List (List g0)):Prop where
 row:w.ownsRow base 90 26 v (Z L) (L.flatMap Ai)
 each:∀e∈L,Z e=26
def By.kept{w w':j7}{base:Nat}{v:j8}{L:List (List g0)}(h:By w base v L){M:List Nat}(k:Ac M w w')(a:∀i,v.ownBlock=V i->i∉M):By w' base v L:=⟨Al h.row k a,h.each⟩
def By.nil(w:j7)(base:Nat):By w base (U Y 0 0) []:=⟨eU _ _ _ _,by simp⟩
def Ir{w:j7}{base:Nat}{v:j8}{L:List (List g0)}(h:By w base v L)(k:Nat)(b:k<Z L):∃g a,v=U (V ⟨g,0,Y⟩) (Z L) a/\Z L<=a/\w.rangeAt g (k*26) (Ai L[k]):=by
 obtain⟨g,a,c,j,f⟩:=AC h.row (λe c=>by rw[Cf];exact h.each e c) k b;refine⟨g,a,c,j,λi v d=>?_⟩;have l:i<26:=by
  have:=(ir.1 d).1;rw[Cf,h.each _ (eo b)]at this;exact this
 rw[f k b i l];exact d
def KI{w:j7}{C:j8}{d:List Bw}(h:w.ownsRow 0 95 9 C (Z d) (d.flatMap Bb))(D:∀p∈d,Cv w 0 p)(k:Nat)(a:k<Z d):
  ∃g n x f i,C=U (V ⟨g,0,Y⟩) (Z d) n/\d[k]=(x,U f (Z x.A.args) i)/\
   jF w ⟨g,k*9,Y⟩=V (X .u8 x.kind.toNat)/\jF w ⟨g,k*9+1,Y⟩=V (O x.A.name)/\jF w ⟨g,k*9+2,Y⟩=V (U f (Z x.A.args) i)/\jF w ⟨g,k*9+3,Y⟩=V (X J x.A.at_)/\
   jF w ⟨g,k*9+4,Y⟩=V (X .u8 x.L.v.toNat)/\jF w ⟨g,k*9+5,Y⟩=V (O x.L.s)/\jF w ⟨g,k*9+6,Y⟩=V (X .u8 x.R.v.toNat)/\jF w ⟨g,k*9+7,Y⟩=V (O x.R.s)/\jF w ⟨g,k*9+8,Y⟩=V (X J x.at_):=by
 obtain⟨g,n,E,_,b⟩:=AC h (λc _=>BV c) k a;have z:=D _ (eo a);have r:=b k a 0 (by omega);have m:=b k a 1 (by omega);have j:=b k a 2 (by omega);have l:=b k a 3 (by omega);have y:=b k a 4 (by omega);have t:=b k a 5 (by omega);have q:=b k a 6 (by omega);have o:=b k a 7 (by omega);have u:=b k a 8 (by omega);obtain⟨⟨x,F⟩,B⟩:∃p,d[k]=p:=⟨_,rfl⟩;rw[B]at r m j l y t q o u z;obtain⟨f,i,e⟩:=Ak z;simp only at e;subst e;simp[Bb,Cs]at r m j l y t q o u;exact⟨g,n,x,f,i,E,B,r,m,j,l,y,t,q,o,u⟩
def MD(S:List Af)(A:Dj):∀(L:List (List g0)),Z (L.flatMap λe=>S.filterMap (GP e A))<=Z L*Z S
 |[]=>by simp
 |e::L=>by
  have a:=MD S A L;have b:=List.length_filterMap_le (GP e A) S;simp only[eN,eJ,eF,gL,Nat.one_mul];omega
def IG:∀(a:List AG) (b:List g0) (e:List g0),Z (CT e a b).1=Z e
 |[],_,e=>by simp[CT]
 |_::_,[],e=>by simp[CT]
 |t::a,x::b,e=>by
  unfold CT;split
  .rw[IG a b];simp
  .split
   .exact IG a b e
   .rfl
def E6(e:List g0)(A:Dj)(f:Af):Z (BH e A f).1=Z e:=by
 unfold BH;split
 .exact IG _ _ _
 .rfl
def JQ(w:j7){E:List j8}(a:Z E=26):(w.alloc (.cells cW 90)).there w.heap.size 0 E.toArray.size:=GI (AI.new w (jL 26 (O ⟨#[]⟩)) 90) a
def LK{u w:j7}(k:Ac [] (u.alloc (.cells cW 90)).drew w){E:List j8}(a:Z E=26):w.there u.heap.size 0 E.toArray.size:=GI ((AI.new u (jL 26 (O ⟨#[]⟩)) 90).drew.kept k (by simp)) a
theorem Tryz.yB:(Tryz.prog.info? 90).map (λi=>(i.zero,i.size,i.bytes))=V (V (jH (j2 (jL 26 (O ⟨#[]⟩)))),26,416):=by kernel_rfl
set_option maxRecDepth 100000
theorem Xq(bad:Option Addr)(bcp:Nat)(bl:List Bw)(sad:Option Addr)(scp:Nat)(fs:List B5)(w:j7)(hb:w.ownsRow 0 95 9 (U bad (Z bl) bcp) (Z bl) (bl.flatMap Bb))(hl:∀p∈bl,Cv w 0 p)(hs:Dm w (U sad (Z fs) scp) fs)(hbl:Z bl<=3)(hfs:Z fs<=6912)
  (hg:∀p∈bl,(p.1.kind==97)=true->(∀t∈p.1.A.args,Bs t)/\Z p.1.A.args<=1000)
  (hfit:∀e∈(bl.map jM).foldl (BY (fs.map B5.f)) [BM],∀p∈bl,(p.1.kind==97)=false->LX e p.1):
  Calls prog 47 #[U bad (Z bl) bcp,U sad (Z fs) scp] w λr w'=>∃ad cp,r=.returned (U ad (Z (CD (bl.map jM) (fs.map B5.f))) cp)/\By w' w.heap.size (U ad (Z (CD (bl.map jM) (fs.map B5.f))) cp) (CD (bl.map jM) (fs.map B5.f))/\Ac [] w w':=by
 obtain⟨i0,hi0,hz0,hz1,hz2⟩:=fC Tryz.yB;obtain⟨RES,hRES⟩:∃RES,CD (bl.map jM) (fs.map B5.f)=RES:=⟨_,rfl⟩;rw[hRES];have HRES:j9 (((bl.map jM).foldl (BY (fs.map B5.f)) [BM]).filter (λe=>(bl.map jM).all λx=>x.kind==97||Cg (Av e) (AJ e) (fs.map B5.f) x)=RES):=hRES;have HB:=Ab hb;have HLi:=Ab hl;have HS:=Ab hs;have HGd:=Ab hg;have HFit:=Ab hfit;obtain⟨N,hN⟩:∃N,w.heap.size=N:=⟨_,rfl⟩;rw[hN];have HN:=Ab hN;clear hRES hb hl hs hg hfit;go_enter func47,ntmps47;apply wp_seq_k;intro KK hKK;have HKK:=Ab hKK;clear hKK;go_wp2;refine HKK _ _ ?_;clear HKK KK;apply wp_seq_k;intro KK hKK;have HKK:=Ab hKK;clear hKK;go_wp2;refine HKK _ _ ?_;clear HKK KK;have HE0:j9 (By (w.alloc (.cells cW 90)) N (U (V ⟨N,0,Y⟩) [BM].length 1) [BM]):=by
  have h:=jp (e:=90) (size:=26) (base:=N) w (j2 (jL 26 (O ⟨#[]⟩))) 1 (by rw[Aa HN];exact eM _) (by unfold maxLen;omega) (by simp);rw[Aa HN]at h;exact⟨h,by simp[BM]⟩
 have HK0:=Ab ((Ac.refl [] w).alloc (.cells cW 90));generalize w.alloc (.cells cW 90)=w1 at HE0 HK0⊢;generalize jH cW=U17;go_wp2_with fail
 go_loopg [5,6] (Z bl) (λgk l i wr=>∃(k:Nat) (L:List (List g0)) (lad:Option Addr) (lcp:Nat),l=U lad (Z L) lcp/\i=X J k/\k<=Z bl/\gk=Z bl-k/\j9 (((bl.take k).map jM).foldl (BY (fs.map B5.f)) [BM]=L)/\j9 (Z L<=6912^k)/\j9 (By wr N (U lad (Z L) lcp) L)/\j9 (Ac [] w wr))
 case atStart=>exact⟨0,[BM],V ⟨N,0,Y⟩,1,rfl,rfl,by omega,rfl,rfl,(by show _<=_;simp),HE0,HK0⟩
 case round=>
  clear HE0 HK0;obtain⟨k,L,lad,lcp,rfl,rfl,hk,hgk,HF,HLb,HE,HK⟩:=hrel;have HG:=Ab hgk;clear hgk;by_cases zX:k<Z bl
  .obtain⟨gb,cpb,x,xad,xcp,hev,hbk,d0,d1,d2,d3,d4,d5,d6,d7,d8⟩:=KI (Ad HB HK (by simp)) (λp hp=>(HLi p hp).kept HK (by simp)) k zX;simp only[ei]at hev;obtain⟨rfl,_,rfl⟩:=hev;have De:j9 (((bl.take (k+1)).map jM).foldl (BY (fs.map B5.f)) [BM]=if x.kind==97 then L.flatMap (λe=>(fs.map B5.f).filterMap (GP e x.A))else L):=by
    show _=_;rw[ep zX,fi,fE,Aa HF,hbk];rfl
   (have hxm:(x,U xad (Z x.A.args) xcp)∈bl:=by rw[<-hbk];exact eo zX);have HXm:=Ab hxm;have HBk:=Ab hbk;have HXl:=Ab (HLi _ hxm);have HXg:=Ab (HGd _ hxm);clear hbk HF hxm d4 d5 d6 d7 d8;have k97:((x.kind.toNat:Int)==97)=(x.kind==97):=Cp _ 97;(have hr0:(0:Int)<=(k:Int):=by omega);(have hr1:(k:Int)<(Z bl:Int):=by omega);cases h97:(x.kind==97)with
   |false=>
    rw[h97]at k97 De;(have k97b:((x.kind.toNat:Int) !=97)=true:=by simp[bne,k97]);have HLb2:j9 (Z L<=6912^(k+1)):=by
     have h:=Aa HLb;show _<=_;rw[Nat.pow_succ];omega
    have HSt2:j9 (((bl.take (k+1)).map jM).foldl (BY (fs.map B5.f)) [BM]=L):=De;clear De;go_wp2
    go_roundg (Z bl-(k+1))
    case measure=>have:=Aa HG;omega
    case rel=>exact⟨k+1,L,lad,lcp,rfl,by go_num,by omega,rfl,HSt2,HLb2,HE,HK⟩
   |true=>
    rw[h97]at k97 De HXg;(have k97b:((x.kind.toNat:Int) !=97)=false:=by simp[bne,k97]);have hLb:Z L<=47775744:=by
     have h:=Aa HLb;have h2:6912^k<=6912^2:=Nat.pow_le_pow_right (by omega) (by omega);omega
    have HXg2:=Ab (HXg rfl);clear HXg;go_wp2_with fail
    go_loopg [7,8] (Z L) (λgk nx i wr=>∃(m:Nat) (NX:List (List g0)) (nad:Option Addr) (ncp:Nat),nx=U nad (Z NX) ncp/\i=X J m/\m<=Z L/\gk=Z L-m/\j9 ((L.take m).flatMap (λe=>(fs.map B5.f).filterMap (GP e x.A))=NX)/\j9 (By wr N (U nad (Z NX) ncp) NX)/\j9 (By wr N (U lad (Z L) lcp) L)/\j9 (B1 (U nad (Z NX) ncp) (U lad (Z L) lcp))/\j9 (Ac [] w wr))
    case atStart=>exact⟨0,[],Y,0,rfl,rfl,by omega,rfl,rfl,By.nil _ _,HE,(λq hq=>by cases hq),HK⟩
    case round=>
     clear HE HK d0 d1 d2 d3;obtain⟨m,NX,nad,ncp,rfl,rfl,hm,hgm,HNX,HNE,HE,HAp,HK⟩:=hrel;have HGm:=Ab hgm;clear hgm;have HNl:j9 (Z NX<=m*Z fs):=by
      show _<=_;rw[<-Aa HNX];have h:=MD (fs.map B5.f) x.A (L.take m);rw[eL,ft,iu hm]at h;exact h
     by_cases hml:m<Z L
     .obtain⟨gl,cpl,hel,hcl,r0⟩:=Ir HE m hml;simp only[ei]at hel;obtain⟨rfl,_,rfl⟩:=hel;obtain⟨e,he⟩:∃e,L[m]=e:=⟨_,rfl⟩;(have he26:Z e=26:=by rw[<-he];exact HE.each _ (eo hml));have HTk:j9 ((L.take (m+1)).flatMap (λe=>(fs.map B5.f).filterMap (GP e x.A))=NX++(fs.map B5.f).filterMap (GP e x.A)):=by
       show _=_;rw[ep hml,eY,Aa HNX,he];simp
      rw[he]at r0;(have hmr0:(0:Int)<=(m:Int):=by omega);(have hmr1:(m:Int)<(Z L:Int):=by omega);have hNb:Z NX+Z fs<=330225942528:=by
       have h:=Aa HNl;have h2:(m+1)*Z fs<=47775744*6912:=Nat.mul_le_mul (by omega) hfs;rw[gL,Nat.one_mul]at h2;omega
      clear HNl r0;have HAt:j9 (∀wz,By wz N (U (V ⟨gl,0,Y⟩) (Z L) lcp) L->wz.rangeAt gl (m*26) (Ai e)):=by
       intro wz hz;obtain⟨g',cp',he',_,r'⟩:=Ir hz m hml;simp only[ei,eD,fm]at he';obtain⟨⟨rfl,_,_⟩,_,_⟩:=he';rw[he]at r';exact r'
      clear he;go_wp2_with fail
      go_loopg [7,9] (Z fs) (λgk nx i wr=>∃(q:Nat) (NY:List (List g0)) (nad:Option Addr) (ncp:Nat),nx=U nad (Z NY) ncp/\i=X J q/\q<=Z fs/\gk=Z fs-q/\Z NY<=Z NX+q/\j9 (NX++((fs.take q).map B5.f).filterMap (GP e x.A)=NY)/\j9 (By wr N (U nad (Z NY) ncp) NY)/\j9 (By wr N (U (V ⟨gl,0,Y⟩) (Z L) lcp) L)/\j9 (B1 (U nad (Z NY) ncp) (U (V ⟨gl,0,Y⟩) (Z L) lcp))/\j9 (Ac [] w wr))
      case atStart=>exact⟨0,NX,nad,ncp,rfl,rfl,by omega,rfl,by omega,(by show _=_;simp),HNE,HE,HAp,HK⟩
      case round=>
       clear HNE HE HAp HK HNX;obtain⟨q,NY,nad2,ncp2,rfl,rfl,hq,hgq,hNYb,HNY,HNE,HE,HAp,HK⟩:=hrel;have HGq:=Ab hgq;clear hgq;by_cases hql:q<Z fs
       .obtain⟨gs,cps,fn,xs,pad,pcp,hes,hfk,s0,s1⟩:=EL (HS.kept HK) q hql;simp only[ei]at hes;obtain⟨rfl,_,rfl⟩:=hes;(have hqr0:(0:Int)<=(q:Int):=by omega);(have hqr1:(q:Int)<(Z fs:Int):=by omega);have hfm:=HS.each _ (eo hql);rw[hfk]at hfm;have HMt:j9 (∀wz,Ac [] wr wz->Calls prog 87 #[jH (j2 (Ai e)),jH #[O x.A.name,U xad (Z x.A.args) xcp,X J x.A.at_],jH #[O fn,U pad (Z xs) pcp]] wz λr w'=>r=.returned (.tuple #[jH (j2 (Ai (BH e x.A ⟨fn,xs⟩).1)),.bool (BH e x.A ⟨fn,xs⟩).2])/\Ac [] wz w'):=λwz hkz=>
         Lw e x.A xad xcp ⟨⟨fn,xs⟩,U pad (Z xs) pcp⟩ wz he26 (HXl.kept (HK.trans hkz) (by simp)) (hfm.1.kept (HK.trans hkz)) HXg2.2 (by have:=hfm.2.len;simp at this⊢;omega) HXg2.1
        have HTq:j9 (NX++((fs.take (q+1)).map B5.f).filterMap (GP e x.A)=if(BH e x.A ⟨fn,xs⟩).2 then NY++[(BH e x.A ⟨fn,xs⟩).1] else NY):=by
         show _=_;rw[ep hql,fi,List.filterMap_append,<-fD,Aa HNY,hfk];simp only[eR,gU,jd,List.filterMap_nil,GP];cases(BH e x.A ⟨fn,xs⟩).2<;>simp
        (have HM26:j9 (Z (BH e x.A ⟨fn,xs⟩).1=26):=by show _=_;rw[E6,he26]);have HCs:j9 (∀wz,Ac [] wr wz->wz.rangeAt gl (m*26) (Ai e)/\jF wz ⟨gb,k*9+1,Y⟩=V (O x.A.name)/\jF wz ⟨gb,k*9+2,Y⟩=V (U xad (Z x.A.args) xcp)/\jF wz ⟨gb,k*9+3,Y⟩=V (X J x.A.at_)/\jF wz ⟨gs,q*2,Y⟩=V (O fn)/\jF wz ⟨gs,q*2+1,Y⟩=V (U pad (Z xs) pcp)):=by
         intro wz hkz;have hkw:=HK.trans hkz;obtain⟨gb',cpb',x',xad',xcp',hev',hbk',d0',d1',d2',d3',_⟩:=KI (Ad HB hkw (by simp)) (λp hp=>(HLi p hp).kept hkw (by simp)) k zX;simp only[ei,eD,fm]at hev';obtain⟨⟨rfl,_,_⟩,_,_⟩:=hev';rw[Aa HBk]at hbk';simp only[fo,ei]at hbk';obtain⟨rfl,rfl,_,rfl⟩:=hbk';obtain⟨g',cap',n',pa',ad',cp',he',hfk',f0,f1⟩:=EL (HS.kept hkw) q hql;have e2:=hfk'.symm.trans hfk;simp only[ei,eD,fm,B5.mk.injEq,Af.mk.injEq]at he' e2;obtain⟨⟨rfl,_,_⟩,_,_⟩:=he';obtain⟨⟨rfl,rfl⟩,rfl,_,rfl⟩:=e2;exact⟨HAt wz (HE.kept hkz (by simp)),d1',d2',d3',f0,f1⟩
        clear hfk hfm;obtain⟨RV,hRV⟩:∃RV,Ai (BH e x.A ⟨fn,xs⟩).1=RV:=⟨_,rfl⟩;obtain⟨RB,hRB⟩:∃RB,(BH e x.A ⟨fn,xs⟩).2=RB:=⟨_,rfl⟩;obtain⟨RE,hRE⟩:∃RE,(BH e x.A ⟨fn,xs⟩).1=RE:=⟨_,rfl⟩;rw[hRB,hRE]at HTq;rw[hRV,hRB]at HMt;rw[hRE]at HM26 hRV;have HRV:=Ab hRV;(have hRl:Z RV=26:=by rw[<-hRV,Cf];exact HM26);(have hRo:∀v∈RV,v.oneCell'=true:=by rw[<-hRV];exact Fs RE);clear hRV hRB hRE;obtain⟨EK,hEK⟩:∃EK,Ai e=EK:=⟨_,rfl⟩;rw[hEK]at HMt HCs;(have hEl:Z EK=26:=by rw[<-hEK,Cf,he26]);clear hEK;have hu:=underlying90;(have hi:(prog.info? 90).map (·.size)=V (Z EK):=by rw[hEl];exact Tryz.zG);(have hi2:(prog.info? 90).map (·.size)=V (Z RV):=by rw[hRl];exact Tryz.zG);(have hr9:(k:Int)<(Z bl:Int):=by omega);obtain⟨nm,hnm⟩:∃nm,x.A.name=nm:=⟨_,rfl⟩;obtain⟨ja,hja⟩:∃ja,x.A.at_=ja:=⟨_,rfl⟩;obtain⟨na,hna⟩:∃na,Z x.A.args=na:=⟨_,rfl⟩;rw[hnm,hja,hna]at HMt HCs;clear hnm hja hna;go_wp2_with fail
        go_region_held3 (λwz=>Ac [] wr wz/\wz.rangeAt gl (m*26) EK/\jF wz ⟨gb,k*9+1,Y⟩=V (O nm)/\jF wz ⟨gb,k*9+2,Y⟩=V (U xad na xcp)/\jF wz ⟨gb,k*9+3,Y⟩=V (X J ja)/\jF wz ⟨gs,q*2,Y⟩=V (O fn)/\jF wz ⟨gs,q*2+1,Y⟩=V (U pad (Z xs) pcp)) ((go_split_ands;refine(fun(hkz:Ac [] wr _)=>And.intro hkz (HCs _ hkz)) ?_;repeat (first|assumption|exact Ac.refl [] _|refine Ac.drew ?_|refine Ac.alloc ?_ _|(refine Ac.zI ?_ (Or.inr (by first|omega|(simp;omega))) _ _)))) ((go_at_call 87;refine(HMt _ (by go_split_ands;assumption)).mono ?_;rintro e w3 ⟨rfl,k3⟩;have hk3:Ac [] wr w3:=(by go_split_ands;exact Ac.trans (by assumption) k3);have hth3:=JQ w3 hRl;(try have hth4:=LK k3 hRl);have hs3:=hk3.size;have HK3:=Ab k3;clear k3))
        all_goals
         rename_i hHeldX;have HKW:=Ab hHeldX.1;clear hHeldX HMt HCs
         first
          |(
            have HBW:j9 (AI (w3.setCells wr.heap.size 0 RV) wr.heap.size RV 90):=AI.zQ ((AI.new wr (jL 26 (O ⟨#[]⟩)) 90).drew.kept HK3 (by simp)) RV (by rw[hRl];rfl)
            obtain⟨B,hB⟩:∃B,wr.heap.size=B:=⟨_,rfl⟩
            rw[hB]at HBW HKW⊢
            have hBw:wr.heap.size<=B:=by omega
            clear hth3 hth4 hs3 HK3 hB
            generalize w3.setCells B 0 RV=W at HBW HKW⊢)
          |(
            have HBW:j9 (AI ((w3.alloc (.cells cW 90)).setCells w3.heap.size 0 RV) w3.heap.size RV 90):=AI.zQ (AI.new w3 (jL 26 (O ⟨#[]⟩)) 90) RV (by rw[hRl];rfl)
            obtain⟨B,hB⟩:∃B,w3.heap.size=B:=⟨_,rfl⟩
            rw[hB]at HBW HKW hs3⊢
            have hBw:wr.heap.size<=B:=by omega
            clear hth3 hs3 HK3 hB
            generalize(w3.alloc (.cells cW 90)).setCells B 0 RV=W at HBW HKW⊢)
         clear hk3;have hWs:=HKW.size;cases RB with
         |false=>
          have HTq2:j9 (NX++((fs.take (q+1)).map B5.f).filterMap (GP e x.A)=NY):=HTq;have HNE2:=Ab (HNE.kept HKW (by simp));have HE2:=Ab (HE.kept HKW (by simp));have HK2:=Ab (HK.trans HKW);clear HTq HNE HE HK HBW HKW;go_wp2
          go_roundg (Z fs-(q+1))
          case measure=>have:=Aa HGq;omega
          case rel=>exact⟨q+1,NY,nad2,ncp2,rfl,by go_num,by omega,rfl,by omega,HTq2,HNE2,HE2,HAp,HK2⟩
         |true=>
          have HTq2:j9 (NX++((fs.take (q+1)).map B5.f).filterMap (GP e x.A)=NY++[RE]):=HTq;have hNE2:=(HNE.kept HKW (by simp)).row;(have hl0:0<Z RV:=by omega);(have hNW:N<=wr.heap.size:=by have:=HK.size;have:=Aa HN;omega);(have hcR:(jH (j2 RV)).cells=j2 RV:=by rw[<-Aa HRV];exact Bj RE);(have HZ:j9 ((prog.info? 90).map (λi=>(i.zero,i.size))=V (V (jH (j2 (jL 26 (O ⟨#[]⟩)))),Z RV)):=by rw[hRl];exact Tryz.zr);clear HTq;go_wp2_with (first|((with_reducible show wpList _ _ _ ({dst:=_,op:=Op.load 90 _,type:=_,pos:=_,after:=_,guard:=_}::_) _ _);refine gD rfl 90 _ rfl B 0 (by rfl) RV _ HBW.range underlying90 rfl hi2 ?_)|((with_reducible show wpList _ _ _ ({dst:=_,op:=Op.buildSlice 87 1 _,type:=_,pos:=_,after:=_,guard:=_}::_) _ _);refine CQ rfl 87 _ rfl RV (by rfl) 90 _ underlying87 hcR HZ (by rw[hRl];rfl) hl0 (by omega) ?_)|(at_builtin;change j9 (wpList _ _ _ _ _ _)))
          show wpList _ _ _ _ _ _;refine eP _ rfl (.tmp 61) (.tmp 63) _ rfl N 90 i0 _ 26 416 underlying87 hi0 hz0 hz1 hz2 rfl (by omega) (U nad2 (Z NY) ncp2) (Z NY) (NY.flatMap Ai) rfl (eC hNE2 _) ⟨W.heap.size,0,Y⟩ 1 1 RV rfl (by omega) (eS (cs:=j2 RV) (t:=90) (fr:=(0,0)) (fe W _)) hRo (by omega) (by unfold maxLen;omega) (by omega) (by simp;omega) (W.heap.size+1) (by simp) ?_;intro g1 cp1 w9 ho1 hg1 ha1 hl1;have HNE3:j9 (By w9 N (U (V ⟨g1,0,Y⟩) (Z (NY++[RE])) cp1) (NY++[RE])):=by
           refine⟨?_,λe' he'=>?_⟩
           .rw[eJ,eY];simp only[eN,fF,fh,Aa HRV,eF,fb,fw];exact ho1
           .rcases eG.1 he' with h|h
            .exact HNE.each e' h
            .simp only[ex]at h;rw[h];exact HM26
          have HE3:j9 (By w9 N (U (V ⟨gl,0,Y⟩) (Z L) lcp) L):=
           ⟨fT (v:=U (V ⟨gl,0,Y⟩) (Z L) lcp) ((HE.kept HKW (by simp)).row.alloc _) hg1 (Or.inr (λh=>HAp gl h.symm rfl)),HE.each⟩
          have HAp3:j9 (B1 (U (V ⟨g1,0,Y⟩) (Z (NY++[RE])) cp1) (U (V ⟨gl,0,Y⟩) (Z L) lcp)):=by
           intro z hz hz2;simp only[jN,eD]at hz hz2;rcases ha1 with h|h
           .exact HAp g1 h (by simp only[jN,eD];omega)
           .have:=(HE.row.lt gl rfl).2;omega
          have HK3:j9 (Ac [] w w9):=(((HK.trans HKW).alloc _).grown hg1 (λz hz=>Or.inr (by have:=(hNE2.lt z hz).1;have:=Aa HN;omega)));clear ho1 hg1 ha1 hl1 hNE2 HNE HE HAp HK HKW HBW;go_wp2_with fail
          go_roundg (Z fs-(q+1))
          case measure=>have:=Aa HGq;omega
          case rel=>exact⟨q+1,NY++[RE],V ⟨g1,0,Y⟩,cp1,by simp,by go_num,by omega,rfl,by simp;omega,HTq2,HNE3,HE3,HAp3,HK3⟩
       .have HTk2:j9 ((L.take (m+1)).flatMap (λe=>(fs.map B5.f).filterMap (GP e x.A))=NY):=by
         show _=_;rw[Aa HTk,<-Aa HNY,eu (by omega)]
        clear HNY HTk;go_wp2
        go_roundg (Z L-(m+1))
        case measure=>have:=Aa HGm;omega
        case rel=>exact⟨m+1,NY,nad2,ncp2,rfl,by go_num,by omega,rfl,HTk2,HNE,HE,HAp,HK⟩
     .have HSt2:j9 (((bl.take (k+1)).map jM).foldl (BY (fs.map B5.f)) [BM]=NX):=by
       show _=_;rw[Aa De,eI True.intro,<-Aa HNX,eu (by omega)]
      have HLb2:j9 (Z NX<=6912^(k+1)):=by
       show _<=_;have h:=Aa HNl;have h2:m*Z fs<=6912^k*6912:=Nat.mul_le_mul (by have:=Aa HLb;omega) hfs;rw[Nat.pow_succ];omega
      clear HNX De HNl HE HAp;go_wp2
      go_roundg (Z bl-(k+1))
      case measure=>have:=Aa HG;omega
      case rel=>exact⟨k+1,NX,nad,ncp,rfl,by go_num,by omega,rfl,HSt2,HLb2,HNE,HK⟩
  .have HFu:j9 ((bl.map jM).foldl (BY (fs.map B5.f)) [BM]=L):=by
    have h:=Aa HF;rw[eu (by omega)]at h;exact h
   have hLb:Z L<=330225942528:=by
    have h:=Aa HLb;have h2:6912^k<=6912^3:=Nat.pow_le_pow_right (by omega) (by omega);omega
   have HRs:j9 (L.filter (λe=>(bl.map jM).all λx=>x.kind==97||Cg (Av e) (AJ e) (fs.map B5.f) x)=RES):=by
    have h:=Aa HRES;rw[Aa HFu]at h;exact h
   have HFt:j9 (∀e∈L,∀p∈bl,(p.1.kind==97)=false->LX e p.1):=by
    have h:=Aa HFit;rw[Aa HFu]at h;exact h
   clear HRES HFit HF HFu HGd HLb HG;go_wp2_with fail
   go_loopg [12,13] (Z L) (λgk o i wr=>∃(m:Nat) (OUT:List (List g0)) (oad:Option Addr) (ocp:Nat),o=U oad (Z OUT) ocp/\i=X J m/\m<=Z L/\gk=Z L-m/\Z OUT<=m/\j9 ((L.take m).filter (λe=>(bl.map jM).all λx=>x.kind==97||Cg (Av e) (AJ e) (fs.map B5.f) x)=OUT)/\j9 (By wr N (U oad (Z OUT) ocp) OUT)/\j9 (By wr N (U lad (Z L) lcp) L)/\j9 (B1 (U oad (Z OUT) ocp) (U lad (Z L) lcp))/\j9 (Ac [] w wr))
   case atStart=>exact⟨0,[],Y,0,rfl,rfl,by omega,rfl,by simp,rfl,By.nil _ _,HE,(λq hq=>by cases hq),HK⟩
   case round=>
    clear HE HK;obtain⟨m,OUT,oad,ocp,rfl,rfl,hm,hgm,hOb,HOUT,HOE,HE,HAp,HK⟩:=hrel;have HGm:=Ab hgm;clear hgm;by_cases hml:m<Z L
    .obtain⟨gl,cpl,hel,hcl,r0⟩:=Ir HE m hml;simp only[ei]at hel;obtain⟨rfl,_,rfl⟩:=hel;obtain⟨e,he⟩:∃e,L[m]=e:=⟨_,rfl⟩;(have he26:Z e=26:=by rw[<-he];exact HE.each _ (eo hml));have HFe:=Ab (HFt e (by rw[<-he];exact eo hml));have HTk:j9 ((L.take (m+1)).filter (λe=>(bl.map jM).all λx=>x.kind==97||Cg (Av e) (AJ e) (fs.map B5.f) x)=OUT++if((bl.take (Z bl)).map jM).all (λx=>x.kind==97||Cg (Av e) (AJ e) (fs.map B5.f) x)then[e] else[]):=by
      show _=_;rw[ep hml,ii,Aa HOUT,he,gP,gm,List.filter_nil]
     (have hmr0:(0:Int)<=(m:Int):=by omega);(have hmr1:(m:Int)<(Z L:Int):=by omega);clear r0;have HAt:j9 (∀wz,By wz N (U (V ⟨gl,0,Y⟩) (Z L) lcp) L->wz.rangeAt gl (m*26) (Ai e)):=by
      intro wz hz;obtain⟨g',cp',he',_,r'⟩:=Ir hz m hml;simp only[ei,eD,fm]at he';obtain⟨⟨rfl,_,_⟩,_,_⟩:=he';rw[he]at r';exact r'
     clear he;go_wp2_with fail
     go_loopg [14,15] (Z bl) (λgk a i wr=>∃(q:Nat) (ab:Bool),a=.bool ab/\i=X J q/\q<=Z bl/\gk=Z bl-q/\j9 (((bl.take q).map jM).all (λx=>x.kind==97||Cg (Av e) (AJ e) (fs.map B5.f) x)=ab)/\j9 (By wr N (U oad (Z OUT) ocp) OUT)/\j9 (By wr N (U (V ⟨gl,0,Y⟩) (Z L) lcp) L)/\j9 (Ac [] w wr))
     case atStart=>exact⟨0,true,rfl,rfl,by omega,rfl,rfl,HOE,HE,HK⟩
     case round=>
      clear HOE HE HK;obtain⟨q,ab,rfl,rfl,hq,hgq,HAb,HOE,HE,HK⟩:=hrel;have HGq:=Ab hgq;clear hgq;by_cases hql:q<Z bl
      .obtain⟨gb,cpb,x,xad,xcp,hev,hbk,d0,d1,d2,d3,d4,d5,d6,d7,d8⟩:=KI (Ad HB HK (by simp)) (λp hp=>(HLi p hp).kept HK (by simp)) q hql;simp only[ei]at hev;obtain⟨rfl,_,rfl⟩:=hev;(have hxm:(x,U xad (Z x.A.args) xcp)∈bl:=by rw[<-hbk];exact eo hql);have HTq:j9 (((bl.take (q+1)).map jM).all (λx=>x.kind==97||Cg (Av e) (AJ e) (fs.map B5.f) x)=(ab&&(x.kind==97||Cg (Av e) (AJ e) (fs.map B5.f) x))):=by
        show _=_;rw[ep hql,fi,List.all_append,Aa HAb,hbk];simp
       (have hqr0:(0:Int)<=(q:Int):=by omega);(have hqr1:(q:Int)<(Z bl:Int):=by omega);have k97:((x.kind.toNat:Int)==97)=(x.kind==97):=Cp _ 97;cases h97:(x.kind==97)with
       |true=>
        rw[h97]at k97 HTq;have HTq2:j9 (((bl.take (q+1)).map jM).all (λx=>x.kind==97||Cg (Av e) (AJ e) (fs.map B5.f) x)=ab):=by
         have h:=Aa HTq;rw[iG,Bool.and_true]at h;exact h
        (have HD:j9 (∀n,By (wr.drewN n) N (U oad (Z OUT) ocp) OUT/\By (wr.drewN n) N (U (V ⟨gl,0,Y⟩) (Z L) lcp) L/\Ac [] w (wr.drewN n)):=λn=>⟨HOE.kept ((Ac.refl [] wr).drewN n) (by simp),HE.kept ((Ac.refl [] wr).drewN n) (by simp),HK.drewN n⟩);clear HTq hbk hxm HOE HE HK HAb;go_wp2_with fail
        go_quiet (fail)
        cases ab
        all_goals
         go_wp2
         go_roundg (Z bl-(q+1))
         case measure=>have:=Aa HGq;omega
         case rel=>exact⟨q+1,_,rfl,by go_num,by omega,rfl,HTq2,(HD _).1,(HD _).2.1,(HD _).2.2⟩
       |false=>
        rw[h97]at k97 HTq;have HHl:j9 (∀wz,Ac [] wr wz->Calls prog 88 #[jH (j2 (Ai e)),jH #[X .u8 x.kind.toNat,O x.A.name,U xad (Z x.A.args) xcp,X J x.A.at_,X .u8 x.L.v.toNat,O x.L.s,X .u8 x.R.v.toNat,O x.R.s,X J x.at_],U sad (Z fs) scp] wz λr w'=>r=.returned (.bool (Cg (Av e) (AJ e) (fs.map B5.f) x))/\Ac [] wz w'):=λwz hkz=>
         O4 e x xad xcp sad scp fs wz he26 ((HLi _ hxm).kept (HK.trans hkz) (by simp)) (HS.kept (HK.trans hkz)) (by omega) (HFe _ hxm h97)
        have HCs:j9 (∀wz,Ac [] wr wz->wz.rangeAt gl (m*26) (Ai e)/\jF wz ⟨gb,q*9,Y⟩=V (X .u8 x.kind.toNat)/\jF wz ⟨gb,q*9+1,Y⟩=V (O x.A.name)/\jF wz ⟨gb,q*9+2,Y⟩=V (U xad (Z x.A.args) xcp)/\jF wz ⟨gb,q*9+3,Y⟩=V (X J x.A.at_)/\jF wz ⟨gb,q*9+4,Y⟩=V (X .u8 x.L.v.toNat)/\jF wz ⟨gb,q*9+5,Y⟩=V (O x.L.s)/\jF wz ⟨gb,q*9+6,Y⟩=V (X .u8 x.R.v.toNat)/\jF wz ⟨gb,q*9+7,Y⟩=V (O x.R.s)/\jF wz ⟨gb,q*9+8,Y⟩=V (X J x.at_)):=by
         intro wz hkz;have hkw:=HK.trans hkz;obtain⟨gb',cpb',x',xad',xcp',hev',hbk',d0',d1',d2',d3',d4',d5',d6',d7',d8'⟩:=KI (Ad HB hkw (by simp)) (λp hp=>(HLi p hp).kept hkw (by simp)) q hql;simp only[ei,eD,fm]at hev';obtain⟨⟨rfl,_,_⟩,_,_⟩:=hev';rw[hbk]at hbk';simp only[fo,ei]at hbk';obtain⟨rfl,rfl,_,rfl⟩:=hbk';exact⟨HAt wz (HE.kept hkz (by simp)),d0',d1',d2',d3',d4',d5',d6',d7',d8'⟩
        obtain⟨LB,hLB⟩:∃LB,Cg (Av e) (AJ e) (fs.map B5.f) x=LB:=⟨_,rfl⟩;rw[hLB,ib]at HTq;rw[hLB]at HHl;clear hLB hbk hxm;obtain⟨EK,hEK⟩:∃EK,Ai e=EK:=⟨_,rfl⟩;rw[hEK]at HHl HCs;(have hEl:Z EK=26:=by rw[<-hEK,Cf,he26]);clear hEK;have hu:=underlying90;(have hi:(prog.info? 90).map (·.size)=V (Z EK):=by rw[hEl];exact Tryz.zG);obtain⟨kd,hkd⟩:∃kd,x.kind.toNat=kd:=⟨_,rfl⟩;obtain⟨nm,hnm⟩:∃nm,x.A.name=nm:=⟨_,rfl⟩;obtain⟨ja,hja⟩:∃ja,x.A.at_=ja:=⟨_,rfl⟩;obtain⟨na,hna⟩:∃na,Z x.A.args=na:=⟨_,rfl⟩;obtain⟨lv,hlv⟩:∃lv,x.L.v.toNat=lv:=⟨_,rfl⟩;obtain⟨ls,hls⟩:∃ls,x.L.s=ls:=⟨_,rfl⟩;obtain⟨rv,hrv⟩:∃rv,x.R.v.toNat=rv:=⟨_,rfl⟩;obtain⟨rs,hrs⟩:∃rs,x.R.s=rs:=⟨_,rfl⟩;obtain⟨at_,hat⟩:∃at_,x.at_=at_:=⟨_,rfl⟩;rw[hkd,hnm,hja,hna,hlv,hls,hrv,hrs,hat]at HHl HCs;rw[hkd]at k97;clear h97 hkd hnm hja hna hlv hls hrv hrs hat d0 d1 d2 d3 d4 d5 d6 d7 d8;go_wp2_with fail
        go_region_held3 (λwz=>Ac [] wr wz/\wz.rangeAt gl (m*26) EK/\jF wz ⟨gb,q*9,Y⟩=V (X .u8 kd)/\jF wz ⟨gb,q*9+1,Y⟩=V (O nm)/\jF wz ⟨gb,q*9+2,Y⟩=V (U xad na xcp)/\jF wz ⟨gb,q*9+3,Y⟩=V (X J ja)/\jF wz ⟨gb,q*9+4,Y⟩=V (X .u8 lv)/\jF wz ⟨gb,q*9+5,Y⟩=V (O ls)/\jF wz ⟨gb,q*9+6,Y⟩=V (X .u8 rv)/\jF wz ⟨gb,q*9+7,Y⟩=V (O rs)/\jF wz ⟨gb,q*9+8,Y⟩=V (X J at_)) ((go_split_ands;refine(fun(hkz:Ac [] wr _)=>And.intro hkz (HCs _ hkz)) ?_;repeat (first|assumption|exact Ac.refl [] _|refine Ac.drew ?_|refine Ac.alloc ?_ _))) ((go_at_call 88;refine(HHl _ (by go_split_ands;assumption)).mono ?_;rintro e w3 ⟨rfl,k3⟩;have hk3:Ac [] wr w3:=(by go_split_ands;exact Ac.trans (by assumption) k3);clear k3))
        rename_i hHeldX;clear hHeldX HHl HCs;have HOE2:=Ab (HOE.kept hk3 (by simp));have HE2:=Ab (HE.kept hk3 (by simp));have HK2:=Ab (HK.trans hk3);clear HOE HE HK hk3 HAb;cases ab
        all_goals
         have HTq2:=Ab HTq;clear HTq;go_wp2
         go_roundg (Z bl-(q+1))
         case measure=>have:=Aa HGq;omega
         case rel=>exact⟨q+1,_,rfl,by go_num,by omega,rfl,HTq2,HOE2,HE2,HK2⟩
      .have HTk2:j9 ((L.take (m+1)).filter (λe=>(bl.map jM).all λx=>x.kind==97||Cg (Av e) (AJ e) (fs.map B5.f) x)=OUT++if ab then[e] else[]):=by
        have h:=Aa HTk;have h2:=Aa HAb;rw[show q=Z bl by omega]at h2;rw[h2]at h;exact h
       clear HTk HAb HGq;cases ab with
       |false=>
        have HTk3:j9 ((L.take (m+1)).filter (λe=>(bl.map jM).all λx=>x.kind==97||Cg (Av e) (AJ e) (fs.map B5.f) x)=OUT):=by
         have h:=Aa HTk2;rw[eE (by simp),fh]at h;exact h
        clear HTk2;go_wp2
        go_roundg (Z L-(m+1))
        case measure=>have:=Aa HGm;omega
        case rel=>exact⟨m+1,OUT,oad,ocp,rfl,by go_num,by omega,rfl,by omega,HTk3,HOE,HE,HAp,HK⟩
       |true=>
        have HTk3:j9 ((L.take (m+1)).filter (λe=>(bl.map jM).all λx=>x.kind==97||Cg (Av e) (AJ e) (fs.map B5.f) x)=OUT++[e]):=HTk2;obtain⟨EK,hEK⟩:∃EK,Ai e=EK:=⟨_,rfl⟩;(have hEl:Z EK=26:=by rw[<-hEK,Cf,he26]);(have hRo:∀v∈EK,v.oneCell'=true:=by rw[<-hEK];exact Fs e);(have hcR:(jH (j2 EK)).cells=j2 EK:=by rw[<-hEK];exact Bj e);(have HRg:j9 (wr.rangeAt gl (m*26) EK):=by rw[<-hEK];exact HAt wr HE);have HRV:=Ab hEK;(have hi:(prog.info? 90).map (·.size)=V (Z EK):=by rw[hEl];exact Tryz.zG);(have hl0:0<Z EK:=by omega);(have HZ:j9 ((prog.info? 90).map (λi=>(i.zero,i.size))=V (V (jH (j2 (jL 26 (O ⟨#[]⟩)))),Z EK)):=by rw[hEl];exact Tryz.zr);(have hNW:N<=wr.heap.size:=by have:=HK.size;have:=Aa HN;omega);have hOE2:=HOE.row;clear HTk2 hEK;go_wp2_with (first|((with_reducible show wpList _ _ _ ({dst:=_,op:=Op.load 90 _,type:=_,pos:=_,after:=_,guard:=_}::_) _ _);refine gD rfl 90 _ rfl gl (m*26) (by rfl) EK _ HRg underlying90 rfl hi ?_)|((with_reducible show wpList _ _ _ ({dst:=_,op:=Op.buildSlice 87 1 _,type:=_,pos:=_,after:=_,guard:=_}::_) _ _);refine CQ rfl 87 _ rfl EK (by rfl) 90 _ underlying87 hcR HZ (by rw[hEl];rfl) hl0 (by omega) ?_)|(at_builtin;change j9 (wpList _ _ _ _ _ _)))
        show wpList _ _ _ _ _ _;refine eP _ rfl (.tmp 101) (.tmp 106) _ rfl N 90 i0 _ 26 416 underlying87 hi0 hz0 hz1 hz2 rfl (by omega) (U oad (Z OUT) ocp) (Z OUT) (OUT.flatMap Ai) rfl (eC hOE2 _) ⟨wr.heap.size,0,Y⟩ 1 1 EK rfl (by omega) (eS (cs:=j2 EK) (t:=90) (fr:=(0,0)) (fe wr _)) hRo (by omega) (by unfold maxLen;omega) (by omega) (by simp;omega) (wr.heap.size+1) (by simp) ?_;intro g1 cp1 w9 ho1 hg1 ha1 hl1;have HOE3:j9 (By w9 N (U (V ⟨g1,0,Y⟩) (Z (OUT++[e])) cp1) (OUT++[e])):=by
         refine⟨?_,λe' he'=>?_⟩
         .rw[eJ,eY];simp only[eN,fF,fh,Aa HRV,eF,fb,fw];exact ho1
         .rcases eG.1 he' with h|h
          .exact HOE.each e' h
          .simp only[ex]at h;rw[h];exact he26
        have HE3:j9 (By w9 N (U (V ⟨gl,0,Y⟩) (Z L) lcp) L):=
         ⟨fT (v:=U (V ⟨gl,0,Y⟩) (Z L) lcp) (HE.row.alloc _) hg1 (Or.inr (λh=>HAp gl h.symm rfl)),HE.each⟩
        have HAp3:j9 (B1 (U (V ⟨g1,0,Y⟩) (Z (OUT++[e])) cp1) (U (V ⟨gl,0,Y⟩) (Z L) lcp)):=by
         intro z hz hz2;simp only[jN,eD]at hz hz2;rcases ha1 with h|h
         .exact HAp g1 h (by simp only[jN,eD];omega)
         .have:=(HE.row.lt gl rfl).2;omega
        have HK3:j9 (Ac [] w w9):=(HK.alloc _).grown hg1 (λz hz=>Or.inr (by have:=(hOE2.lt z hz).1;have:=Aa HN;omega));clear ho1 hg1 ha1 hl1 hOE2 HOE HE HAp HK HRg;go_wp2_with fail
        go_roundg (Z L-(m+1))
        case measure=>have:=Aa HGm;omega
        case rel=>exact⟨m+1,OUT++[e],V ⟨g1,0,Y⟩,cp1,by simp,by go_num,by omega,rfl,by simp;omega,HTk3,HOE3,HE3,HAp3,HK3⟩
    .have HRe:j9 (OUT=RES):=by
      have h:=Aa HRs;have h2:=Aa HOUT;rw[eu (by omega)]at h2;exact h2.symm.trans h
     go_wp2;go_ret;rw[<-Aa HRe];exact⟨oad,ocp,rfl,HOE,HK⟩
