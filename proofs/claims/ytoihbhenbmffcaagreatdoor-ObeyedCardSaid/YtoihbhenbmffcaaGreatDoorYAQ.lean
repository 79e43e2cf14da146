import Derived.Test.YtoihbhenbmffcaaGreatDoorYAN
import Derived.Test.YtoihbhenbmffcaaGreatDoorYAE
set_option linter.all false
set_option maxHeartbeats 0
open List renaming length->Z,toArray->j3,replicate->lV
open Option renaming none->Y,some->V
open Go.Value renaming slice->U,int->X,string->O,agg->lR,ownBlock->lX
open Go.IntKind renaming i64->J
open Go renaming World->l9,Value->lN
open Go.RowKit renaming Hid->lO
open Go.World renaming cell?->lP
open Prod renaming fst->lW
namespace Go.Proofs.YtoihbhenbmffcaaGreatDoor
open Go.RowKit Go.Proofs.Tryz
abbrev fG:Array lN:=#[O ⟨#[]⟩,O ⟨#[]⟩,O ⟨#[]⟩,O ⟨#[]⟩,O ⟨#[]⟩,O ⟨#[]⟩,O ⟨#[]⟩,O ⟨#[]⟩,O ⟨#[]⟩,O ⟨#[]⟩,O ⟨#[]⟩,O ⟨#[]⟩,O ⟨#[]⟩,O ⟨#[]⟩,O ⟨#[]⟩,O ⟨#[]⟩,O ⟨#[]⟩,O ⟨#[]⟩,O ⟨#[]⟩,O ⟨#[]⟩,O ⟨#[]⟩,O ⟨#[]⟩,O ⟨#[]⟩,O ⟨#[]⟩,O ⟨#[]⟩,O ⟨#[]⟩]
structure Cr(w:l9)(base:Nat)(v:lN)(L:mc (mc zA)):Prop where
 row:w.ownsRow base 90 26 v (Z L) (L.flatMap Aj)
 each:∀e∈L,Z e=26
def Cr.kept{w w':l9}{base:Nat}{v:lN}{L:mc (mc zA)}(h:Cr w base v L){M:mc Nat}(k:Ac M w w')(a:∀i,v.ownBlock=V i->i∉M):Cr w' base v L:=⟨Ai h.row k a,h.each⟩
def Cr.nil(w:l9)(base:Nat):Cr w base (U Y 0 0) []:=⟨ip _ _ _ _,by simp⟩
def Ot{w:l9}{base:Nat}{v:lN}{L:mc (mc zA)}(h:Cr w base v L)(k:Nat)(b:k<Z L):∃g a,v=U (V ⟨g,0,Y⟩) (Z L) a/\Z L<=a/\w.rangeAt g (k*26) (Aj L[k]):=by
 obtain⟨g,a,c,j,f⟩:=AF h.row (λe c=>by rw[De];exact h.each e c) k b;refine⟨g,a,c,j,λi v d=>?_⟩;have l:i<26:=by
  have:=(kZ.1 d).1;rw[De,h.each _ (gL b)]at this;exact this
 rw[f k b i l];exact d
def TO{w:l9}{B:lN}{bl:mc Bj}(h:w.ownsRow 0 95 9 B (Z bl) (bl.flatMap Bt))(C:∀p∈bl,CF w 0 p)(k:Nat)(a:k<Z bl):
  ∃g m x d f,B=U (V ⟨g,0,Y⟩) (Z bl) m/\bl[k]=(x,U d (Z x.A.args) f)/\
   lP w ⟨g,k*9,Y⟩=V (X .u8 x.kind.toNat)/\lP w ⟨g,k*9+1,Y⟩=V (O x.A.name)/\lP w ⟨g,k*9+2,Y⟩=V (U d (Z x.A.args) f)/\lP w ⟨g,k*9+3,Y⟩=V (X J x.A.at_)/\
   lP w ⟨g,k*9+4,Y⟩=V (X .u8 x.L.v.toNat)/\lP w ⟨g,k*9+5,Y⟩=V (O x.L.s)/\lP w ⟨g,k*9+6,Y⟩=V (X .u8 x.R.v.toNat)/\lP w ⟨g,k*9+7,Y⟩=V (O x.R.s)/\lP w ⟨g,k*9+8,Y⟩=V (X J x.at_):=by
 obtain⟨g,m,D,_,b⟩:=AF h (λc _=>B6 c) k a;have y:=C _ (gL a);have q:=b k a 0 (by omega);have l:=b k a 1 (by omega);have i:=b k a 2 (by omega);have j:=b k a 3 (by omega);have u:=b k a 4 (by omega);have r:=b k a 5 (by omega);have o:=b k a 6 (by omega);have n:=b k a 7 (by omega);have t:=b k a 8 (by omega);obtain⟨⟨x,E⟩,z⟩:∃p,bl[k]=p:=⟨_,rfl⟩;rw[z]at q l i j u r o n t y;obtain⟨d,f,e⟩:=Al y;simp only at e;subst e;simp[Bt,CJ]at q l i j u r o n t;exact⟨g,m,x,d,f,D,z,q,l,i,j,u,r,o,n,t⟩
def Ro(S:mc Af)(A:Df):∀(L:mc (mc zA)),Z (L.flatMap λe=>S.filterMap (Lu e A))<=Z L*Z S
 |[]=>by simp
 |e::L=>by
  have a:=Ro S A L;have b:=List.length_filterMap_le (Lu e A) S;simp only[il,ib,gW,jS,Nat.one_mul];omega
def IX:∀(a:mc AE) (b:mc zA) (e:mc zA),Z (CK e a b).1=Z e
 |[],_,e=>by simp[CK]
 |_::_,[],e=>by simp[CK]
 |t::a,x::b,e=>by
  unfold CK;split
  .rw[IX a b];simp
  .split
   .exact IX a b e
   .rfl
def Mb(e:mc zA)(A:Df)(f:Af):Z (D3 e A f).1=Z e:=by
 unfold D3;split
 .exact IX _ _ _
 .rfl
def UD(w:l9){E:mc lN}(a:Z E=26):(w.alloc (.cells fG 90)).there w.heap.size 0 E.toArray.size:=GU (mf w (lV 26 (O ⟨#[]⟩)) 90) a
def S2{u w:l9}(k:Ac [] (u.alloc (.cells fG 90)).drew w){E:mc lN}(a:Z E=26):w.there u.heap.size 0 E.toArray.size:=GU ((mf u (lV 26 (O ⟨#[]⟩)) 90).drew.kept k (by simp)) a
theorem Tryz.info90:(Tryz.prog.info? 90).map (λi=>(i.zero,i.size,i.bytes))=V (V (lR (j3 (lV 26 (O ⟨#[]⟩)))),26,416):=by kernel_rfl
set_option maxRecDepth 100000
theorem YA(bad:Option Addr)(bcp:Nat)(bl:mc Bj)(sad:Option Addr)(scp:Nat)(fs:mc Dr)(w:l9)(hb:w.ownsRow 0 95 9 (U bad (Z bl) bcp) (Z bl) (bl.flatMap Bt))(hl:∀p∈bl,CF w 0 p)(hs:KG w (U sad (Z fs) scp) fs)(hbl:Z bl<=3)(hfs:Z fs<=6912)
  (hg:∀p∈bl,(p.1.kind==97)=true->(∀t∈p.1.A.args,BK t)/\Z p.1.A.args<=1000)
  (hfit:∀e∈(bl.map lW).foldl (CW (fs.map Dr.f)) [Bs],∀p∈bl,(p.1.kind==97)=false->TP e p.1):
  Calls prog 47 #[U bad (Z bl) bcp,U sad (Z fs) scp] w λr w'=>∃ad cp,r=.returned (U ad (Z (BW (bl.map lW) (fs.map Dr.f))) cp)/\Cr w' w.heap.size (U ad (Z (BW (bl.map lW) (fs.map Dr.f))) cp) (BW (bl.map lW) (fs.map Dr.f))/\Ac [] w w':=by
 obtain⟨i0,hi0,hz0,hz1,hz2⟩:=iR Tryz.info90;obtain⟨RES,hRES⟩:∃RES,BW (bl.map lW) (fs.map Dr.f)=RES:=⟨_,rfl⟩;rw[hRES];have HRES:lO (((bl.map lW).foldl (CW (fs.map Dr.f)) [Bs]).filter (λe=>(bl.map lW).all λx=>x.kind==97||CH (AB e) (AR e) (fs.map Dr.f) x)=RES):=hRES;have HB:=Ab hb;have HLi:=Ab hl;have HS:=Ab hs;have HGd:=Ab hg;have HFit:=Ab hfit;obtain⟨N,hN⟩:∃N,w.heap.size=N:=⟨_,rfl⟩;rw[hN];have HN:=Ab hN;clear hRES hb hl hs hg hfit;go_enter func47,ntmps47;apply wp_seq_k;intro KK hKK;have HKK:=Ab hKK;clear hKK;go_wp2;refine HKK _ _ ?_;clear HKK KK;apply wp_seq_k;intro KK hKK;have HKK:=Ab hKK;clear hKK;go_wp2;refine HKK _ _ ?_;clear HKK KK;have HE0:lO (Cr (w.alloc (.cells fG 90)) N (U (V ⟨N,0,Y⟩) [Bs].length 1) [Bs]):=by
  have h:=lw (e:=90) (size:=26) (base:=N) w (j3 (lV 26 (O ⟨#[]⟩))) 1 (by rw[Aa HN];exact ig _) (by unfold maxLen;omega) (by simp);rw[Aa HN]at h;exact⟨h,by simp[Bs]⟩
 have HK0:=Ab ((me [] w).alloc (.cells fG 90));generalize w.alloc (.cells fG 90)=w1 at HE0 HK0⊢;generalize lR fG=U17;go_wp2_with fail
 go_loopg [5,6] (Z bl) (λgk l i wr=>∃(k:Nat) (L:mc (mc zA)) (lad:Option Addr) (lcp:Nat),l=U lad (Z L) lcp/\i=X J k/\k<=Z bl/\gk=Z bl-k/\lO (((bl.take k).map lW).foldl (CW (fs.map Dr.f)) [Bs]=L)/\lO (Z L<=6912^k)/\lO (Cr wr N (U lad (Z L) lcp) L)/\lO (Ac [] w wr))
 case atStart=>exact⟨0,[Bs],V ⟨N,0,Y⟩,1,rfl,rfl,by omega,rfl,rfl,(by show _<=_;simp),HE0,HK0⟩
 case round=>
  clear HE0 HK0;obtain⟨k,L,lad,lcp,rfl,rfl,hk,hgk,HF,HLb,HE,HK⟩:=hrel;have HG:=Ab hgk;clear hgk;by_cases zY:k<Z bl
  .obtain⟨gb,cpb,x,xad,xcp,hev,hbk,d0,d1,d2,d3,d4,d5,d6,d7,d8⟩:=TO (Ad HB HK (by simp)) (λp hp=>(HLi p hp).kept HK (by simp)) k zY;simp only[gM]at hev;obtain⟨rfl,_,rfl⟩:=hev;have EU:lO (((bl.take (k+1)).map lW).foldl (CW (fs.map Dr.f)) [Bs]=if x.kind==97 then L.flatMap (λe=>(fs.map Dr.f).filterMap (Lu e x.A))else L):=by
    show _=_;rw[gQ zY,iG,jo,Aa HF,hbk];rfl
   (have hxm:(x,U xad (Z x.A.args) xcp)∈bl:=by rw[<-hbk];exact gL zY);have HXm:=Ab hxm;have HBk:=Ab hbk;have HXl:=Ab (HLi _ hxm);have HXg:=Ab (HGd _ hxm);clear hbk HF hxm d4 d5 d6 d7 d8;have k97:((x.kind.toNat:Int)==97)=(x.kind==97):=CP _ 97;(have hr0:(0:Int)<=(k:Int):=by omega);(have hr1:(k:Int)<(Z bl:Int):=by omega);cases h97:(x.kind==97)with
   |false=>
    rw[h97]at k97 EU;(have k97b:((x.kind.toNat:Int) !=97)=true:=by simp[bne,k97]);have HLb2:lO (Z L<=6912^(k+1)):=by
     have h:=Aa HLb;show _<=_;rw[Nat.pow_succ];omega
    have HSt2:lO (((bl.take (k+1)).map lW).foldl (CW (fs.map Dr.f)) [Bs]=L):=EU;clear EU;go_wp2
    go_roundg (Z bl-(k+1))
    case measure=>have:=Aa HG;omega
    case rel=>exact⟨k+1,L,lad,lcp,rfl,by go_num,by omega,rfl,HSt2,HLb2,HE,HK⟩
   |true=>
    rw[h97]at k97 EU HXg;(have k97b:((x.kind.toNat:Int) !=97)=false:=by simp[bne,k97]);have hLb:Z L<=47775744:=by
     have h:=Aa HLb;have h2:6912^k<=6912^2:=Nat.pow_le_pow_right (by omega) (by omega);omega
    have HXg2:=Ab (HXg rfl);clear HXg;go_wp2_with fail
    go_loopg [7,8] (Z L) (λgk nx i wr=>∃(m:Nat) (NX:mc (mc zA)) (nad:Option Addr) (ncp:Nat),nx=U nad (Z NX) ncp/\i=X J m/\m<=Z L/\gk=Z L-m/\lO ((L.take m).flatMap (λe=>(fs.map Dr.f).filterMap (Lu e x.A))=NX)/\lO (Cr wr N (U nad (Z NX) ncp) NX)/\lO (Cr wr N (U lad (Z L) lcp) L)/\lO (Cd (U nad (Z NX) ncp) (U lad (Z L) lcp))/\lO (Ac [] w wr))
    case atStart=>exact⟨0,[],Y,0,rfl,rfl,by omega,rfl,rfl,Cr.nil _ _,HE,(λq hq=>by cases hq),HK⟩
    case round=>
     clear HE HK d0 d1 d2 d3;obtain⟨m,NX,nad,ncp,rfl,rfl,hm,hgm,HNX,HNE,HE,HAp,HK⟩:=hrel;have HGm:=Ab hgm;clear hgm;have HNl:lO (Z NX<=m*Z fs):=by
      show _<=_;rw[<-Aa HNX];have h:=Ro (fs.map Dr.f) x.A (L.take m);rw[ie,iH,kD hm]at h;exact h
     by_cases hml:m<Z L
     .obtain⟨gl,cpl,hel,hcl,r0⟩:=Ot HE m hml;simp only[gM]at hel;obtain⟨rfl,_,rfl⟩:=hel;obtain⟨e,he⟩:∃e,L[m]=e:=⟨_,rfl⟩;(have he26:Z e=26:=by rw[<-he];exact HE.each _ (gL hml));have HTk:lO ((L.take (m+1)).flatMap (λe=>(fs.map Dr.f).filterMap (Lu e x.A))=NX++(fs.map Dr.f).filterMap (Lu e x.A)):=by
       show _=_;rw[gQ hml,ix,Aa HNX,he];simp
      rw[he]at r0;(have hmr0:(0:Int)<=(m:Int):=by omega);(have hmr1:(m:Int)<(Z L:Int):=by omega);have hNb:Z NX+Z fs<=330225942528:=by
       have h:=Aa HNl;have h2:(m+1)*Z fs<=47775744*6912:=Nat.mul_le_mul (by omega) hfs;rw[jS,Nat.one_mul]at h2;omega
      clear HNl r0;have HAt:lO (∀wz,Cr wz N (U (V ⟨gl,0,Y⟩) (Z L) lcp) L->wz.rangeAt gl (m*26) (Aj e)):=by
       intro wz hz;obtain⟨g',cp',he',_,r'⟩:=Ot hz m hml;simp only[gM,gT,iL]at he';obtain⟨⟨rfl,_,_⟩,_,_⟩:=he';rw[he]at r';exact r'
      clear he;go_wp2_with fail
      go_loopg [7,9] (Z fs) (λgk nx i wr=>∃(q:Nat) (NY:mc (mc zA)) (nad:Option Addr) (ncp:Nat),nx=U nad (Z NY) ncp/\i=X J q/\q<=Z fs/\gk=Z fs-q/\Z NY<=Z NX+q/\lO (NX++((fs.take q).map Dr.f).filterMap (Lu e x.A)=NY)/\lO (Cr wr N (U nad (Z NY) ncp) NY)/\lO (Cr wr N (U (V ⟨gl,0,Y⟩) (Z L) lcp) L)/\lO (Cd (U nad (Z NY) ncp) (U (V ⟨gl,0,Y⟩) (Z L) lcp))/\lO (Ac [] w wr))
      case atStart=>exact⟨0,NX,nad,ncp,rfl,rfl,by omega,rfl,by omega,(by show _=_;simp),HNE,HE,HAp,HK⟩
      case round=>
       clear HNE HE HAp HK HNX;obtain⟨q,NY,nad2,ncp2,rfl,rfl,hq,hgq,hNYb,HNY,HNE,HE,HAp,HK⟩:=hrel;have HGq:=Ab hgq;clear hgq;by_cases hql:q<Z fs
       .obtain⟨gs,cps,fn,xs,pad,pcp,hes,hfk,s0,s1⟩:=LX (HS.kept HK) q hql;simp only[gM]at hes;obtain⟨rfl,_,rfl⟩:=hes;(have hqr0:(0:Int)<=(q:Int):=by omega);(have hqr1:(q:Int)<(Z fs:Int):=by omega);have hfm:=HS.each _ (gL hql);rw[hfk]at hfm;have HMt:lO (∀wz,Ac [] wr wz->Calls prog 87 #[lR (j3 (Aj e)),lR #[O x.A.name,U xad (Z x.A.args) xcp,X J x.A.at_],lR #[O fn,U pad (Z xs) pcp]] wz λr w'=>r=.returned (.tuple #[lR (j3 (Aj (D3 e x.A ⟨fn,xs⟩).1)),.bool (D3 e x.A ⟨fn,xs⟩).2])/\Ac [] wz w'):=λwz hkz=>
         W4 e x.A xad xcp ⟨⟨fn,xs⟩,U pad (Z xs) pcp⟩ wz he26 (HXl.kept (HK.trans hkz) (by simp)) (hfm.1.kept (HK.trans hkz)) HXg2.2 (by have:=hfm.2.len;simp at this⊢;omega) HXg2.1
        have HTq:lO (NX++((fs.take (q+1)).map Dr.f).filterMap (Lu e x.A)=if(D3 e x.A ⟨fn,xs⟩).2 then NY++[(D3 e x.A ⟨fn,xs⟩).1] else NY):=by
         show _=_;rw[gQ hql,iG,List.filterMap_append,<-iT,Aa HNY,hfk];simp only[ii,jM,List.filterMap_cons,List.filterMap_nil,Lu];cases(D3 e x.A ⟨fn,xs⟩).2<;>simp
        (have HM26:lO (Z (D3 e x.A ⟨fn,xs⟩).1=26):=by show _=_;rw[Mb,he26]);have HCs:lO (∀wz,Ac [] wr wz->wz.rangeAt gl (m*26) (Aj e)/\lP wz ⟨gb,k*9+1,Y⟩=V (O x.A.name)/\lP wz ⟨gb,k*9+2,Y⟩=V (U xad (Z x.A.args) xcp)/\lP wz ⟨gb,k*9+3,Y⟩=V (X J x.A.at_)/\lP wz ⟨gs,q*2,Y⟩=V (O fn)/\lP wz ⟨gs,q*2+1,Y⟩=V (U pad (Z xs) pcp)):=by
         intro wz hkz;have hkw:=HK.trans hkz;obtain⟨gb',cpb',x',xad',xcp',hev',hbk',d0',d1',d2',d3',_⟩:=TO (Ad HB hkw (by simp)) (λp hp=>(HLi p hp).kept hkw (by simp)) k zY;simp only[gM,gT,iL]at hev';obtain⟨⟨rfl,_,_⟩,_,_⟩:=hev';rw[Aa HBk]at hbk';simp only[iE,gM]at hbk';obtain⟨rfl,rfl,_,rfl⟩:=hbk';obtain⟨g',cap',n',pa',ad',cp',he',hfk',f0,f1⟩:=LX (HS.kept hkw) q hql;have e2:=hfk'.symm.trans hfk;simp only[gM,gT,iL,Dr.mk.injEq,Af.mk.injEq]at he' e2;obtain⟨⟨rfl,_,_⟩,_,_⟩:=he';obtain⟨⟨rfl,rfl⟩,rfl,_,rfl⟩:=e2;exact⟨HAt wz (HE.kept hkz (by simp)),d1',d2',d3',f0,f1⟩
        clear hfk hfm;obtain⟨RV,hRV⟩:∃RV,Aj (D3 e x.A ⟨fn,xs⟩).1=RV:=⟨_,rfl⟩;obtain⟨RB,hRB⟩:∃RB,(D3 e x.A ⟨fn,xs⟩).2=RB:=⟨_,rfl⟩;obtain⟨RE,hRE⟩:∃RE,(D3 e x.A ⟨fn,xs⟩).1=RE:=⟨_,rfl⟩;rw[hRB,hRE]at HTq;rw[hRV,hRB]at HMt;rw[hRE]at HM26 hRV;have HRV:=Ab hRV;(have hRl:Z RV=26:=by rw[<-hRV,De];exact HM26);(have hRo:∀v∈RV,v.oneCell'=true:=by rw[<-hRV];exact I3 RE);clear hRV hRB hRE;obtain⟨EK,hEK⟩:∃EK,Aj e=EK:=⟨_,rfl⟩;rw[hEK]at HMt HCs;(have hEl:Z EK=26:=by rw[<-hEK,De,he26]);clear hEK;have hu:=underlying90;(have hi:(prog.info? 90).map (·.size)=V (Z EK):=by rw[hEl];exact Tryz.zK);(have hi2:(prog.info? 90).map (·.size)=V (Z RV):=by rw[hRl];exact Tryz.zK);(have hr9:(k:Int)<(Z bl:Int):=by omega);obtain⟨nm,hnm⟩:∃nm,x.A.name=nm:=⟨_,rfl⟩;obtain⟨ja,hja⟩:∃ja,x.A.at_=ja:=⟨_,rfl⟩;obtain⟨na,hna⟩:∃na,Z x.A.args=na:=⟨_,rfl⟩;rw[hnm,hja,hna]at HMt HCs;clear hnm hja hna;go_wp2_with fail
        go_region_held3 (λwz=>Ac [] wr wz/\wz.rangeAt gl (m*26) EK/\lP wz ⟨gb,k*9+1,Y⟩=V (O nm)/\lP wz ⟨gb,k*9+2,Y⟩=V (U xad na xcp)/\lP wz ⟨gb,k*9+3,Y⟩=V (X J ja)/\lP wz ⟨gs,q*2,Y⟩=V (O fn)/\lP wz ⟨gs,q*2+1,Y⟩=V (U pad (Z xs) pcp)) ((go_split_ands;refine(fun(hkz:Ac [] wr _)=>And.intro hkz (HCs _ hkz)) ?_;repeat (first|assumption|exact me [] _|refine Ac.drew ?_|refine Ac.alloc ?_ _|(refine Ac.zJ ?_ (Or.inr (by first|omega|(simp;omega))) _ _)))) ((go_at_call 87;refine(HMt _ (by go_split_ands;assumption)).mono ?_;rintro e w3 ⟨rfl,k3⟩;have hk3:Ac [] wr w3:=(by go_split_ands;exact Ac.trans (by assumption) k3);have hth3:=UD w3 hRl;(try have hth4:=S2 k3 hRl);have hs3:=hk3.size;have HK3:=Ab k3;clear k3))
        all_goals
         rename_i hHeldX;have HKW:=Ab hHeldX.1;clear hHeldX HMt HCs
         first
          |(
            have HBW:lO (AH (w3.setCells wr.heap.size 0 RV) wr.heap.size RV 90):=AH.zU ((mf wr (lV 26 (O ⟨#[]⟩)) 90).drew.kept HK3 (by simp)) RV (by rw[hRl];rfl)
            obtain⟨B,hB⟩:∃B,wr.heap.size=B:=⟨_,rfl⟩
            rw[hB]at HBW HKW⊢
            have hBw:wr.heap.size<=B:=by omega
            clear hth3 hth4 hs3 HK3 hB
            generalize w3.setCells B 0 RV=W at HBW HKW⊢)
          |(
            have HBW:lO (AH ((w3.alloc (.cells fG 90)).setCells w3.heap.size 0 RV) w3.heap.size RV 90):=AH.zU (mf w3 (lV 26 (O ⟨#[]⟩)) 90) RV (by rw[hRl];rfl)
            obtain⟨B,hB⟩:∃B,w3.heap.size=B:=⟨_,rfl⟩
            rw[hB]at HBW HKW hs3⊢
            have hBw:wr.heap.size<=B:=by omega
            clear hth3 hs3 HK3 hB
            generalize(w3.alloc (.cells fG 90)).setCells B 0 RV=W at HBW HKW⊢)
         clear hk3;have hWs:=HKW.size;cases RB with
         |false=>
          have HTq2:lO (NX++((fs.take (q+1)).map Dr.f).filterMap (Lu e x.A)=NY):=HTq;have HNE2:=Ab (HNE.kept HKW (by simp));have HE2:=Ab (HE.kept HKW (by simp));have HK2:=Ab (HK.trans HKW);clear HTq HNE HE HK HBW HKW;go_wp2
          go_roundg (Z fs-(q+1))
          case measure=>have:=Aa HGq;omega
          case rel=>exact⟨q+1,NY,nad2,ncp2,rfl,by go_num,by omega,rfl,by omega,HTq2,HNE2,HE2,HAp,HK2⟩
         |true=>
          have HTq2:lO (NX++((fs.take (q+1)).map Dr.f).filterMap (Lu e x.A)=NY++[RE]):=HTq;have hNE2:=(HNE.kept HKW (by simp)).row;(have hl0:0<Z RV:=by omega);(have hNW:N<=wr.heap.size:=by have:=HK.size;have:=Aa HN;omega);(have hcR:(lR (j3 RV)).cells=j3 RV:=by rw[<-Aa HRV];exact Bv RE);(have HZ:lO ((prog.info? 90).map (λi=>(i.zero,i.size))=V (V (lR (j3 (lV 26 (O ⟨#[]⟩)))),Z RV)):=by rw[hRl];exact Tryz.yL);clear HTq;go_wp2_with (first|((with_reducible show wpList _ _ _ ({dst:=_,op:=Op.load 90 _,type:=_,pos:=_,after:=_,guard:=_}::_) _ _);refine jN rfl 90 _ rfl B 0 (by rfl) RV _ HBW.range underlying90 rfl hi2 ?_)|((with_reducible show wpList _ _ _ ({dst:=_,op:=Op.buildSlice 87 1 _,type:=_,pos:=_,after:=_,guard:=_}::_) _ _);refine Fm rfl 87 _ rfl RV (by rfl) 90 _ underlying87 hcR HZ (by rw[hRl];rfl) hl0 (by omega) ?_)|(at_builtin;change lO (wpList _ _ _ _ _ _)))
          show wpList _ _ _ _ _ _;refine io _ rfl (.tmp 61) (.tmp 63) _ rfl N 90 i0 _ 26 416 underlying87 hi0 hz0 hz1 hz2 rfl (by omega) (U nad2 (Z NY) ncp2) (Z NY) (NY.flatMap Aj) rfl (gU hNE2 _) ⟨W.heap.size,0,Y⟩ 1 1 RV rfl (by omega) (iu (cs:=j3 RV) (t:=90) (fr:=(0,0)) (iD W _)) hRo (by omega) (by unfold maxLen;omega) (by omega) (by simp;omega) (W.heap.size+1) (by simp) ?_;intro g1 cp1 w9 ho1 hg1 ha1 hl1;have HNE3:lO (Cr w9 N (U (V ⟨g1,0,Y⟩) (Z (NY++[RE])) cp1) (NY++[RE])):=by
           refine⟨?_,λe' he'=>?_⟩
           .rw[ib,ix];simp only[il,jh,iJ,Aa HRV,gW,iv,iM];exact ho1
           .rcases ic.1 he' with h|h
            .exact HNE.each e' h
            .simp only[gN]at h;rw[h];exact HM26
          have HE3:lO (Cr w9 N (U (V ⟨gl,0,Y⟩) (Z L) lcp) L):=
           ⟨je (v:=U (V ⟨gl,0,Y⟩) (Z L) lcp) ((HE.kept HKW (by simp)).row.alloc _) hg1 (Or.inr (λh=>HAp gl h.symm rfl)),HE.each⟩
          have HAp3:lO (Cd (U (V ⟨g1,0,Y⟩) (Z (NY++[RE])) cp1) (U (V ⟨gl,0,Y⟩) (Z L) lcp)):=by
           intro z hz hz2;simp only[lX,gT]at hz hz2;rcases ha1 with h|h
           .exact HAp g1 h (by simp only[lX,gT];omega)
           .have:=(HE.row.lt gl rfl).2;omega
          have HK3:lO (Ac [] w w9):=(((HK.trans HKW).alloc _).grown hg1 (λz hz=>Or.inr (by have:=(hNE2.lt z hz).1;have:=Aa HN;omega)));clear ho1 hg1 ha1 hl1 hNE2 HNE HE HAp HK HKW HBW;go_wp2_with fail
          go_roundg (Z fs-(q+1))
          case measure=>have:=Aa HGq;omega
          case rel=>exact⟨q+1,NY++[RE],V ⟨g1,0,Y⟩,cp1,by simp,by go_num,by omega,rfl,by simp;omega,HTq2,HNE3,HE3,HAp3,HK3⟩
       .have HTk2:lO ((L.take (m+1)).flatMap (λe=>(fs.map Dr.f).filterMap (Lu e x.A))=NY):=by
         show _=_;rw[Aa HTk,<-Aa HNY,gR (by omega)]
        clear HNY HTk;go_wp2
        go_roundg (Z L-(m+1))
        case measure=>have:=Aa HGm;omega
        case rel=>exact⟨m+1,NY,nad2,ncp2,rfl,by go_num,by omega,rfl,HTk2,HNE,HE,HAp,HK⟩
     .have HSt2:lO (((bl.take (k+1)).map lW).foldl (CW (fs.map Dr.f)) [Bs]=NX):=by
       show _=_;rw[Aa EU,gY True.intro,<-Aa HNX,gR (by omega)]
      have HLb2:lO (Z NX<=6912^(k+1)):=by
       show _<=_;have h:=Aa HNl;have h2:m*Z fs<=6912^k*6912:=Nat.mul_le_mul (by have:=Aa HLb;omega) hfs;rw[Nat.pow_succ];omega
      clear HNX EU HNl HE HAp;go_wp2
      go_roundg (Z bl-(k+1))
      case measure=>have:=Aa HG;omega
      case rel=>exact⟨k+1,NX,nad,ncp,rfl,by go_num,by omega,rfl,HSt2,HLb2,HNE,HK⟩
  .have HFu:lO ((bl.map lW).foldl (CW (fs.map Dr.f)) [Bs]=L):=by
    have h:=Aa HF;rw[gR (by omega)]at h;exact h
   have hLb:Z L<=330225942528:=by
    have h:=Aa HLb;have h2:6912^k<=6912^3:=Nat.pow_le_pow_right (by omega) (by omega);omega
   have HRs:lO (L.filter (λe=>(bl.map lW).all λx=>x.kind==97||CH (AB e) (AR e) (fs.map Dr.f) x)=RES):=by
    have h:=Aa HRES;rw[Aa HFu]at h;exact h
   have HFt:lO (∀e∈L,∀p∈bl,(p.1.kind==97)=false->TP e p.1):=by
    have h:=Aa HFit;rw[Aa HFu]at h;exact h
   clear HRES HFit HF HFu HGd HLb HG;go_wp2_with fail
   go_loopg [12,13] (Z L) (λgk o i wr=>∃(m:Nat) (OUT:mc (mc zA)) (oad:Option Addr) (ocp:Nat),o=U oad (Z OUT) ocp/\i=X J m/\m<=Z L/\gk=Z L-m/\Z OUT<=m/\lO ((L.take m).filter (λe=>(bl.map lW).all λx=>x.kind==97||CH (AB e) (AR e) (fs.map Dr.f) x)=OUT)/\lO (Cr wr N (U oad (Z OUT) ocp) OUT)/\lO (Cr wr N (U lad (Z L) lcp) L)/\lO (Cd (U oad (Z OUT) ocp) (U lad (Z L) lcp))/\lO (Ac [] w wr))
   case atStart=>exact⟨0,[],Y,0,rfl,rfl,by omega,rfl,by simp,rfl,Cr.nil _ _,HE,(λq hq=>by cases hq),HK⟩
   case round=>
    clear HE HK;obtain⟨m,OUT,oad,ocp,rfl,rfl,hm,hgm,hOb,HOUT,HOE,HE,HAp,HK⟩:=hrel;have HGm:=Ab hgm;clear hgm;by_cases hml:m<Z L
    .obtain⟨gl,cpl,hel,hcl,r0⟩:=Ot HE m hml;simp only[gM]at hel;obtain⟨rfl,_,rfl⟩:=hel;obtain⟨e,he⟩:∃e,L[m]=e:=⟨_,rfl⟩;(have he26:Z e=26:=by rw[<-he];exact HE.each _ (gL hml));have HFe:=Ab (HFt e (by rw[<-he];exact gL hml));have HTk:lO ((L.take (m+1)).filter (λe=>(bl.map lW).all λx=>x.kind==97||CH (AB e) (AR e) (fs.map Dr.f) x)=OUT++if((bl.take (Z bl)).map lW).all (λx=>x.kind==97||CH (AB e) (AR e) (fs.map Dr.f) x)then[e] else[]):=by
      show _=_;rw[gQ hml,jX,Aa HOUT,he,j6,jt,List.filter_nil]
     (have hmr0:(0:Int)<=(m:Int):=by omega);(have hmr1:(m:Int)<(Z L:Int):=by omega);clear r0;have HAt:lO (∀wz,Cr wz N (U (V ⟨gl,0,Y⟩) (Z L) lcp) L->wz.rangeAt gl (m*26) (Aj e)):=by
      intro wz hz;obtain⟨g',cp',he',_,r'⟩:=Ot hz m hml;simp only[gM,gT,iL]at he';obtain⟨⟨rfl,_,_⟩,_,_⟩:=he';rw[he]at r';exact r'
     clear he;go_wp2_with fail
     go_loopg [14,15] (Z bl) (λgk a i wr=>∃(q:Nat) (ab:Bool),a=.bool ab/\i=X J q/\q<=Z bl/\gk=Z bl-q/\lO (((bl.take q).map lW).all (λx=>x.kind==97||CH (AB e) (AR e) (fs.map Dr.f) x)=ab)/\lO (Cr wr N (U oad (Z OUT) ocp) OUT)/\lO (Cr wr N (U (V ⟨gl,0,Y⟩) (Z L) lcp) L)/\lO (Ac [] w wr))
     case atStart=>exact⟨0,true,rfl,rfl,by omega,rfl,rfl,HOE,HE,HK⟩
     case round=>
      clear HOE HE HK;obtain⟨q,ab,rfl,rfl,hq,hgq,HAb,HOE,HE,HK⟩:=hrel;have HGq:=Ab hgq;clear hgq;by_cases hql:q<Z bl
      .obtain⟨gb,cpb,x,xad,xcp,hev,hbk,d0,d1,d2,d3,d4,d5,d6,d7,d8⟩:=TO (Ad HB HK (by simp)) (λp hp=>(HLi p hp).kept HK (by simp)) q hql;simp only[gM]at hev;obtain⟨rfl,_,rfl⟩:=hev;(have hxm:(x,U xad (Z x.A.args) xcp)∈bl:=by rw[<-hbk];exact gL hql);have HTq:lO (((bl.take (q+1)).map lW).all (λx=>x.kind==97||CH (AB e) (AR e) (fs.map Dr.f) x)=(ab&&(x.kind==97||CH (AB e) (AR e) (fs.map Dr.f) x))):=by
        show _=_;rw[gQ hql,iG,List.all_append,Aa HAb,hbk];simp
       (have hqr0:(0:Int)<=(q:Int):=by omega);(have hqr1:(q:Int)<(Z bl:Int):=by omega);have k97:((x.kind.toNat:Int)==97)=(x.kind==97):=CP _ 97;cases h97:(x.kind==97)with
       |true=>
        rw[h97]at k97 HTq;have HTq2:lO (((bl.take (q+1)).map lW).all (λx=>x.kind==97||CH (AB e) (AR e) (fs.map Dr.f) x)=ab):=by
         have h:=Aa HTq;rw[kN,Bool.and_true]at h;exact h
        (have HD:lO (∀n,Cr (wr.drewN n) N (U oad (Z OUT) ocp) OUT/\Cr (wr.drewN n) N (U (V ⟨gl,0,Y⟩) (Z L) lcp) L/\Ac [] w (wr.drewN n)):=λn=>⟨HOE.kept ((me [] wr).drewN n) (by simp),HE.kept ((me [] wr).drewN n) (by simp),HK.drewN n⟩);clear HTq hbk hxm HOE HE HK HAb;go_wp2_with fail
        go_quiet (fail)
        cases ab
        all_goals
         go_wp2
         go_roundg (Z bl-(q+1))
         case measure=>have:=Aa HGq;omega
         case rel=>exact⟨q+1,_,rfl,by go_num,by omega,rfl,HTq2,(HD _).1,(HD _).2.1,(HD _).2.2⟩
       |false=>
        rw[h97]at k97 HTq;have HHl:lO (∀wz,Ac [] wr wz->Calls prog 88 #[lR (j3 (Aj e)),lR #[X .u8 x.kind.toNat,O x.A.name,U xad (Z x.A.args) xcp,X J x.A.at_,X .u8 x.L.v.toNat,O x.L.s,X .u8 x.R.v.toNat,O x.R.s,X J x.at_],U sad (Z fs) scp] wz λr w'=>r=.returned (.bool (CH (AB e) (AR e) (fs.map Dr.f) x))/\Ac [] wz w'):=λwz hkz=>
         Wz e x xad xcp sad scp fs wz he26 ((HLi _ hxm).kept (HK.trans hkz) (by simp)) (HS.kept (HK.trans hkz)) (by omega) (HFe _ hxm h97)
        have HCs:lO (∀wz,Ac [] wr wz->wz.rangeAt gl (m*26) (Aj e)/\lP wz ⟨gb,q*9,Y⟩=V (X .u8 x.kind.toNat)/\lP wz ⟨gb,q*9+1,Y⟩=V (O x.A.name)/\lP wz ⟨gb,q*9+2,Y⟩=V (U xad (Z x.A.args) xcp)/\lP wz ⟨gb,q*9+3,Y⟩=V (X J x.A.at_)/\lP wz ⟨gb,q*9+4,Y⟩=V (X .u8 x.L.v.toNat)/\lP wz ⟨gb,q*9+5,Y⟩=V (O x.L.s)/\lP wz ⟨gb,q*9+6,Y⟩=V (X .u8 x.R.v.toNat)/\lP wz ⟨gb,q*9+7,Y⟩=V (O x.R.s)/\lP wz ⟨gb,q*9+8,Y⟩=V (X J x.at_)):=by
         intro wz hkz;have hkw:=HK.trans hkz;obtain⟨gb',cpb',x',xad',xcp',hev',hbk',d0',d1',d2',d3',d4',d5',d6',d7',d8'⟩:=TO (Ad HB hkw (by simp)) (λp hp=>(HLi p hp).kept hkw (by simp)) q hql;simp only[gM,gT,iL]at hev';obtain⟨⟨rfl,_,_⟩,_,_⟩:=hev';rw[hbk]at hbk';simp only[iE,gM]at hbk';obtain⟨rfl,rfl,_,rfl⟩:=hbk';exact⟨HAt wz (HE.kept hkz (by simp)),d0',d1',d2',d3',d4',d5',d6',d7',d8'⟩
        obtain⟨LB,hLB⟩:∃LB,CH (AB e) (AR e) (fs.map Dr.f) x=LB:=⟨_,rfl⟩;rw[hLB,kp]at HTq;rw[hLB]at HHl;clear hLB hbk hxm;obtain⟨EK,hEK⟩:∃EK,Aj e=EK:=⟨_,rfl⟩;rw[hEK]at HHl HCs;(have hEl:Z EK=26:=by rw[<-hEK,De,he26]);clear hEK;have hu:=underlying90;(have hi:(prog.info? 90).map (·.size)=V (Z EK):=by rw[hEl];exact Tryz.zK);obtain⟨kd,hkd⟩:∃kd,x.kind.toNat=kd:=⟨_,rfl⟩;obtain⟨nm,hnm⟩:∃nm,x.A.name=nm:=⟨_,rfl⟩;obtain⟨ja,hja⟩:∃ja,x.A.at_=ja:=⟨_,rfl⟩;obtain⟨na,hna⟩:∃na,Z x.A.args=na:=⟨_,rfl⟩;obtain⟨lv,hlv⟩:∃lv,x.L.v.toNat=lv:=⟨_,rfl⟩;obtain⟨ls,hls⟩:∃ls,x.L.s=ls:=⟨_,rfl⟩;obtain⟨rv,hrv⟩:∃rv,x.R.v.toNat=rv:=⟨_,rfl⟩;obtain⟨rs,hrs⟩:∃rs,x.R.s=rs:=⟨_,rfl⟩;obtain⟨at_,hat⟩:∃at_,x.at_=at_:=⟨_,rfl⟩;rw[hkd,hnm,hja,hna,hlv,hls,hrv,hrs,hat]at HHl HCs;rw[hkd]at k97;clear h97 hkd hnm hja hna hlv hls hrv hrs hat d0 d1 d2 d3 d4 d5 d6 d7 d8;go_wp2_with fail
        go_region_held3 (λwz=>Ac [] wr wz/\wz.rangeAt gl (m*26) EK/\lP wz ⟨gb,q*9,Y⟩=V (X .u8 kd)/\lP wz ⟨gb,q*9+1,Y⟩=V (O nm)/\lP wz ⟨gb,q*9+2,Y⟩=V (U xad na xcp)/\lP wz ⟨gb,q*9+3,Y⟩=V (X J ja)/\lP wz ⟨gb,q*9+4,Y⟩=V (X .u8 lv)/\lP wz ⟨gb,q*9+5,Y⟩=V (O ls)/\lP wz ⟨gb,q*9+6,Y⟩=V (X .u8 rv)/\lP wz ⟨gb,q*9+7,Y⟩=V (O rs)/\lP wz ⟨gb,q*9+8,Y⟩=V (X J at_)) ((go_split_ands;refine(fun(hkz:Ac [] wr _)=>And.intro hkz (HCs _ hkz)) ?_;repeat (first|assumption|exact me [] _|refine Ac.drew ?_|refine Ac.alloc ?_ _))) ((go_at_call 88;refine(HHl _ (by go_split_ands;assumption)).mono ?_;rintro e w3 ⟨rfl,k3⟩;have hk3:Ac [] wr w3:=(by go_split_ands;exact Ac.trans (by assumption) k3);clear k3))
        rename_i hHeldX;clear hHeldX HHl HCs;have HOE2:=Ab (HOE.kept hk3 (by simp));have HE2:=Ab (HE.kept hk3 (by simp));have HK2:=Ab (HK.trans hk3);clear HOE HE HK hk3 HAb;cases ab
        all_goals
         have HTq2:=Ab HTq;clear HTq;go_wp2
         go_roundg (Z bl-(q+1))
         case measure=>have:=Aa HGq;omega
         case rel=>exact⟨q+1,_,rfl,by go_num,by omega,rfl,HTq2,HOE2,HE2,HK2⟩
      .have HTk2:lO ((L.take (m+1)).filter (λe=>(bl.map lW).all λx=>x.kind==97||CH (AB e) (AR e) (fs.map Dr.f) x)=OUT++if ab then[e] else[]):=by
        have h:=Aa HTk;have h2:=Aa HAb;rw[show q=Z bl by omega]at h2;rw[h2]at h;exact h
       clear HTk HAb HGq;cases ab with
       |false=>
        have HTk3:lO ((L.take (m+1)).filter (λe=>(bl.map lW).all λx=>x.kind==97||CH (AB e) (AR e) (fs.map Dr.f) x)=OUT):=by
         have h:=Aa HTk2;rw[gV (by simp),iJ]at h;exact h
        clear HTk2;go_wp2
        go_roundg (Z L-(m+1))
        case measure=>have:=Aa HGm;omega
        case rel=>exact⟨m+1,OUT,oad,ocp,rfl,by go_num,by omega,rfl,by omega,HTk3,HOE,HE,HAp,HK⟩
       |true=>
        have HTk3:lO ((L.take (m+1)).filter (λe=>(bl.map lW).all λx=>x.kind==97||CH (AB e) (AR e) (fs.map Dr.f) x)=OUT++[e]):=HTk2;obtain⟨EK,hEK⟩:∃EK,Aj e=EK:=⟨_,rfl⟩;(have hEl:Z EK=26:=by rw[<-hEK,De,he26]);(have hRo:∀v∈EK,v.oneCell'=true:=by rw[<-hEK];exact I3 e);(have hcR:(lR (j3 EK)).cells=j3 EK:=by rw[<-hEK];exact Bv e);(have HRg:lO (wr.rangeAt gl (m*26) EK):=by rw[<-hEK];exact HAt wr HE);have HRV:=Ab hEK;(have hi:(prog.info? 90).map (·.size)=V (Z EK):=by rw[hEl];exact Tryz.zK);(have hl0:0<Z EK:=by omega);(have HZ:lO ((prog.info? 90).map (λi=>(i.zero,i.size))=V (V (lR (j3 (lV 26 (O ⟨#[]⟩)))),Z EK)):=by rw[hEl];exact Tryz.yL);(have hNW:N<=wr.heap.size:=by have:=HK.size;have:=Aa HN;omega);have hOE2:=HOE.row;clear HTk2 hEK;go_wp2_with (first|((with_reducible show wpList _ _ _ ({dst:=_,op:=Op.load 90 _,type:=_,pos:=_,after:=_,guard:=_}::_) _ _);refine jN rfl 90 _ rfl gl (m*26) (by rfl) EK _ HRg underlying90 rfl hi ?_)|((with_reducible show wpList _ _ _ ({dst:=_,op:=Op.buildSlice 87 1 _,type:=_,pos:=_,after:=_,guard:=_}::_) _ _);refine Fm rfl 87 _ rfl EK (by rfl) 90 _ underlying87 hcR HZ (by rw[hEl];rfl) hl0 (by omega) ?_)|(at_builtin;change lO (wpList _ _ _ _ _ _)))
        show wpList _ _ _ _ _ _;refine io _ rfl (.tmp 101) (.tmp 106) _ rfl N 90 i0 _ 26 416 underlying87 hi0 hz0 hz1 hz2 rfl (by omega) (U oad (Z OUT) ocp) (Z OUT) (OUT.flatMap Aj) rfl (gU hOE2 _) ⟨wr.heap.size,0,Y⟩ 1 1 EK rfl (by omega) (iu (cs:=j3 EK) (t:=90) (fr:=(0,0)) (iD wr _)) hRo (by omega) (by unfold maxLen;omega) (by omega) (by simp;omega) (wr.heap.size+1) (by simp) ?_;intro g1 cp1 w9 ho1 hg1 ha1 hl1;have HOE3:lO (Cr w9 N (U (V ⟨g1,0,Y⟩) (Z (OUT++[e])) cp1) (OUT++[e])):=by
         refine⟨?_,λe' he'=>?_⟩
         .rw[ib,ix];simp only[il,jh,iJ,Aa HRV,gW,iv,iM];exact ho1
         .rcases ic.1 he' with h|h
          .exact HOE.each e' h
          .simp only[gN]at h;rw[h];exact he26
        have HE3:lO (Cr w9 N (U (V ⟨gl,0,Y⟩) (Z L) lcp) L):=
         ⟨je (v:=U (V ⟨gl,0,Y⟩) (Z L) lcp) (HE.row.alloc _) hg1 (Or.inr (λh=>HAp gl h.symm rfl)),HE.each⟩
        have HAp3:lO (Cd (U (V ⟨g1,0,Y⟩) (Z (OUT++[e])) cp1) (U (V ⟨gl,0,Y⟩) (Z L) lcp)):=by
         intro z hz hz2;simp only[lX,gT]at hz hz2;rcases ha1 with h|h
         .exact HAp g1 h (by simp only[lX,gT];omega)
         .have:=(HE.row.lt gl rfl).2;omega
        have HK3:lO (Ac [] w w9):=(HK.alloc _).grown hg1 (λz hz=>Or.inr (by have:=(hOE2.lt z hz).1;have:=Aa HN;omega));clear ho1 hg1 ha1 hl1 hOE2 HOE HE HAp HK HRg;go_wp2_with fail
        go_roundg (Z L-(m+1))
        case measure=>have:=Aa HGm;omega
        case rel=>exact⟨m+1,OUT++[e],V ⟨g1,0,Y⟩,cp1,by simp,by go_num,by omega,rfl,by simp;omega,HTk3,HOE3,HE3,HAp3,HK3⟩
    .have HRe:lO (OUT=RES):=by
      have h:=Aa HRs;have h2:=Aa HOUT;rw[gR (by omega)]at h2;exact h2.symm.trans h
     go_wp2;go_ret;rw[<-Aa HRe];exact⟨oad,ocp,rfl,HOE,HK⟩
