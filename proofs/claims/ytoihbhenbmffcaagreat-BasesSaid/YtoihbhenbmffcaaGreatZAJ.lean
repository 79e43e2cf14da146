import Derived.Test.YtoihbhenbmffcaaGreatZAH
import Derived.Test.YtoihbhenbmffcaaGreatZAI
set_option linter.all false
set_option maxHeartbeats 0
open List renaming length->Z,toArray->j1,replicate->kD
open Option renaming none->Y,some->V
open Go.Value renaming slice->U,int->X,string->O,agg->kx,ownBlock->kF
open Go.IntKind renaming i64->J
open Go.RowKit renaming Hid->kt
open Go.World renaming cell?->ku
open Prod renaming fst->kE
namespace Go.Proofs.YtoihbhenbmffcaaGreat
open Go.RowKit Go.Proofs.Tryz
variable{n:Nat}{M:kJ Nat}{w u:World}{z:Value}{y:kJ Value}
abbrev dw:Array Value:=#[O ⟨#[]⟩,O ⟨#[]⟩,O ⟨#[]⟩,O ⟨#[]⟩,O ⟨#[]⟩,O ⟨#[]⟩,O ⟨#[]⟩,O ⟨#[]⟩,O ⟨#[]⟩,O ⟨#[]⟩,O ⟨#[]⟩,O ⟨#[]⟩,O ⟨#[]⟩,O ⟨#[]⟩,O ⟨#[]⟩,O ⟨#[]⟩,O ⟨#[]⟩,O ⟨#[]⟩,O ⟨#[]⟩,O ⟨#[]⟩,O ⟨#[]⟩,O ⟨#[]⟩,O ⟨#[]⟩,O ⟨#[]⟩,O ⟨#[]⟩,O ⟨#[]⟩]
structure Bu(w:World)(base:Nat)(v:Value)(L:kJ (kJ zA)):Prop where
 row:w.ownsRow base 141 26 v (Z L) (L.flatMap Ai)
 each:∀e∈L,Z e=26
def Bu.kept{w w':World}{v:Value}{L:kJ (kJ zA)}(h:Bu w n v L)(k:Ac M w w')(a:∀i,v.ownBlock=V i->i∉M:=by simp):Bu w' n v L:=⟨Am h.row k a,h.each⟩
def Bu.nil(w:World)(a:Nat):Bu w a (U Y 0 0) []:=⟨fK _ _ _ _,by simp⟩
def IF{L:kJ (kJ zA)}(h:Bu w n z L)(k:Nat)(b:k<Z L):∃g a,z=U (V ⟨g,0,Y⟩) (Z L) a/\Z L<=a/\w.rangeAt g (k*26) (Ai L[k]):=by
 obtain⟨g,a,c,j,l⟩:=AC h.row (λe c=>by rw[B6];exact h.each e c) k b;refine⟨g,a,c,j,λi z d=>?_⟩;have f:i<26:=by
  have:=(jt.1 d).1;rw[B6,h.each _ (fj b)]at this;exact this
 rw[l k b i f];exact d
def KJ{d:kJ Bs}(h:w.ownsRow 0 173 9 z (Z d) (d.flatMap A8))(D:∀p∈d,Cu w 0 p)(k:Nat)(a:k<Z d):
  ∃g n x f i,z=U (V ⟨g,0,Y⟩) (Z d) n/\d[k]=(x,U f (Z x.A.args) i)/\
   ku w ⟨g,k*9,Y⟩=V (X .u8 x.kind.toNat)/\ku w ⟨g,k*9+1,Y⟩=V (O x.A.name)/\ku w ⟨g,k*9+2,Y⟩=V (U f (Z x.A.args) i)/\ku w ⟨g,k*9+3,Y⟩=V (X J x.A.at_)/\
   ku w ⟨g,k*9+4,Y⟩=V (X .u8 x.L.v.toNat)/\ku w ⟨g,k*9+5,Y⟩=V (O x.L.s)/\ku w ⟨g,k*9+6,Y⟩=V (X .u8 x.R.v.toNat)/\ku w ⟨g,k*9+7,Y⟩=V (O x.R.s)/\ku w ⟨g,k*9+8,Y⟩=V (X J x.at_):=by
 obtain⟨g,n,E,_,b⟩:=AC h (λc _=>BS c) k a;have B:=D _ (fj a);have r:=b k a 0 (by omega);have m:=b k a 1 (by omega);have j:=b k a 2 (by omega);have l:=b k a 3 (by omega);have y:=b k a 4 (by omega);have t:=b k a 5 (by omega);have q:=b k a 6 (by omega);have o:=b k a 7 (by omega);have u:=b k a 8 (by omega);obtain⟨⟨x,F⟩,C⟩:∃p,d[k]=p:=⟨_,rfl⟩;rw[C]at r m j l y t q o u B;obtain⟨f,i,e⟩:=Aj B;simp only at e;subst e;simp[A8,Co]at r m j l y t q o u;exact⟨g,n,x,f,i,E,C,r,m,j,l,y,t,q,o,u⟩
def MU(S:kJ Ag)(A:C8):∀(L:kJ (kJ zA)),Z (L.flatMap λe=>S.filterMap (G0 e A))<=Z L*Z S
 |[]=>by simp
 |e::L=>by
  have a:=MU S A L;have b:=List.length_filterMap_le (G0 e A) S;simp only[fN,fE,fD,iz,Nat.one_mul];omega
def IV:∀(a:kJ AG) (b:kJ zA) (e:kJ zA),Z (CU e a b).1=Z e
 |[],_,e=>by simp[CU]
 |_::_,[],e=>by simp[CU]
 |t::a,x::b,e=>by
  unfold CU;split
  .rw[IV a b];simp
  .split
   .exact IV a b e
   .rfl
def GJ(e:kJ zA)(A:C8)(f:Ag):Z (BX e A f).1=Z e:=by
 unfold BX;split
 .exact IV _ _ _
 .rfl
def JR(w:World)(a:Z y=26):(w.alloc (.cells dw 141)).there w.heap.size 0 y.toArray.size:=GV (kN w (kD 26 (O ⟨#[]⟩)) 141) a
def LW(k:Ac [] (u.alloc (.cells dw 141)).drew w)(a:Z y=26):w.there u.heap.size 0 y.toArray.size:=GV ((kN u (kD 26 (O ⟨#[]⟩)) 141).drew.kept k) a
theorem Tryz.info141:(Tryz.prog.info? 141).map (λi=>(i.zero,i.size,i.bytes))=V (V (kx (j1 (kD 26 (O ⟨#[]⟩)))),26,416):=by kernel_rfl
set_option maxRecDepth 100000
theorem XH(bad:Option Addr)(bcp:Nat)(bl:kJ Bs)(sad:Option Addr)(scp:Nat)(fs:kJ BD)(w:World)(hb:w.ownsRow 0 173 9 (U bad (Z bl) bcp) (Z bl) (bl.flatMap A8))(hl:∀p∈bl,Cu w 0 p)(hs:D8 w (U sad (Z fs) scp) fs)(hbl:Z bl<=3)(hfs:Z fs<=6912)
  (hg:∀p∈bl,(p.1.kind==97)=true->(∀t∈p.1.A.args,By t)/\Z p.1.A.args<=1000)
  (hfit:∀e∈(bl.map kE).foldl (B1 (fs.map BD.f)) [BM],∀p∈bl,(p.1.kind==97)=false->OE e p.1):
  Calls prog 59 #[U bad (Z bl) bcp,U sad (Z fs) scp] w λr w'=>∃ad cp,r=.returned (U ad (Z (Cp (bl.map kE) (fs.map BD.f))) cp)/\Bu w' w.heap.size (U ad (Z (Cp (bl.map kE) (fs.map BD.f))) cp) (Cp (bl.map kE) (fs.map BD.f))/\Ac [] w w':=by
 obtain⟨i0,hi0,hz0,hz1,hz2⟩:=gH Tryz.info141;obtain⟨RES,hRES⟩:=kK (Cp (bl.map kE) (fs.map BD.f));rw[hRES];have HRES:kt (((bl.map kE).foldl (B1 (fs.map BD.f)) [BM]).filter (λe=>(bl.map kE).all λx=>x.kind==97||B7 (Av e) (AJ e) (fs.map BD.f) x)=RES):=hRES;have HB:=Ab hb;have HLi:=Ab hl;have HS:=Ab hs;have HGd:=Ab hg;have HFit:=Ab hfit;obtain⟨N,hN⟩:=kK w.heap.size;rw[hN];have HN:=Ab hN;clear hRES hb hl hs hg hfit;go_enter func59,ntmps59;apply wp_seq_k;intro KK hKK;have HKK:=Ab hKK;clear hKK;go_wp2;refine HKK _ _ ?_;clear HKK KK;apply wp_seq_k;intro KK hKK;have HKK:=Ab hKK;clear hKK;go_wp2;refine HKK _ _ ?_;clear HKK KK;have HE0:kt (Bu (w.alloc (.cells dw 141)) N (U (V ⟨N,0,Y⟩) [BM].length 1) [BM]):=by
  have h:=j4 (e:=141) (size:=26) (base:=N) w (j1 (kD 26 (O ⟨#[]⟩))) 1 (by rw[Aa HN];exact fJ _) (by unfold maxLen;omega) (by simp);rw[Aa HN]at h;exact⟨h,by simp[BM]⟩
 have HK0:=Ab ((kL [] w).alloc (.cells dw 141));generalize w.alloc (.cells dw 141)=w1 at HE0 HK0⊢;generalize kx dw=U17;go_wp2_with fail
 go_loopg [5,6] (Z bl) (λgk l i wr=>∃(k:Nat) (L:kJ (kJ zA)) (lad:Option Addr) (lcp:Nat),l=U lad (Z L) lcp/\i=X J k/\k<=Z bl/\gk=Z bl-k/\kt (((bl.take k).map kE).foldl (B1 (fs.map BD.f)) [BM]=L)/\kt (Z L<=6912^k)/\kt (Bu wr N (U lad (Z L) lcp) L)/\kt (Ac [] w wr))
 case atStart=>exact⟨0,[BM],V ⟨N,0,Y⟩,1,rfl,rfl,by omega,rfl,rfl,(by show _<=_;simp),HE0,HK0⟩
 case round=>
  clear HE0 HK0;obtain⟨k,L,lad,lcp,rfl,rfl,hk,hgk,HF,HLb,HE,HK⟩:=hrel;have HG:=Ab hgk;clear hgk;by_cases hlt:k<Z bl
  .obtain⟨gb,cpb,x,xad,xcp,hev,hbk,d0,d1,d2,d3,d4,d5,d6,d7,d8⟩:=KJ (Ad HB HK) (λp hp=>(HLi p hp).kept HK) k hlt;simp only[fg]at hev;obtain⟨rfl,_,rfl⟩:=hev;have HSt:kt (((bl.take (k+1)).map kE).foldl (B1 (fs.map BD.f)) [BM]=if x.kind==97 then L.flatMap (λe=>(fs.map BD.f).filterMap (G0 e x.A))else L):=by
    show _=_;rw[fm hlt,gn,gM,Aa HF,hbk];rfl
   (have hxm:(x,U xad (Z x.A.args) xcp)∈bl:=by rw[<-hbk];exact fj hlt);have HXm:=Ab hxm;have HBk:=Ab hbk;have HXl:=Ab (HLi _ hxm);have HXg:=Ab (HGd _ hxm);clear hbk HF hxm d4 d5 d6 d7 d8;have k97:((x.kind.toNat:Int)==97)=(x.kind==97):=Ck _ 97;(have hr0:(0:Int)<=(k:Int):=by omega);(have hr1:(k:Int)<(Z bl:Int):=by omega);cases h97:(x.kind==97)with
   |false=>
    rw[h97]at k97 HSt;(have k97b:((x.kind.toNat:Int) !=97)=true:=by simp[bne,k97]);have HLb2:kt (Z L<=6912^(k+1)):=by
     have h:=Aa HLb;show _<=_;rw[Nat.pow_succ];omega
    have HSt2:kt (((bl.take (k+1)).map kE).foldl (B1 (fs.map BD.f)) [BM]=L):=HSt;clear HSt;go_wp2
    go_roundg (Z bl-(k+1))
    case measure=>have:=Aa HG;omega
    case rel=>exact⟨k+1,L,lad,lcp,rfl,by go_num,by omega,rfl,HSt2,HLb2,HE,HK⟩
   |true=>
    rw[h97]at k97 HSt HXg;(have k97b:((x.kind.toNat:Int) !=97)=false:=by simp[bne,k97]);have hLb:Z L<=47775744:=by
     have h:=Aa HLb;have h2:6912^k<=6912^2:=Nat.pow_le_pow_right (by omega) (by omega);omega
    have HXg2:=Ab (HXg rfl);clear HXg;go_wp2_with fail
    go_loopg [7,8] (Z L) (λgk nx i wr=>∃(m:Nat) (NX:kJ (kJ zA)) (nad:Option Addr) (ncp:Nat),nx=U nad (Z NX) ncp/\i=X J m/\m<=Z L/\gk=Z L-m/\kt ((L.take m).flatMap (λe=>(fs.map BD.f).filterMap (G0 e x.A))=NX)/\kt (Bu wr N (U nad (Z NX) ncp) NX)/\kt (Bu wr N (U lad (Z L) lcp) L)/\kt (BV (U nad (Z NX) ncp) (U lad (Z L) lcp))/\kt (Ac [] w wr))
    case atStart=>exact⟨0,[],Y,0,rfl,rfl,by omega,rfl,rfl,Bu.nil _ _,HE,(λq hq=>by cases hq),HK⟩
    case round=>
     clear HE HK d0 d1 d2 d3;obtain⟨m,NX,nad,ncp,rfl,rfl,hm,hgm,HNX,HNE,HE,HAp,HK⟩:=hrel;have HGm:=Ab hgm;clear hgm;have HNl:kt (Z NX<=m*Z fs):=by
      show _<=_;rw[<-Aa HNX];have h:=MU (fs.map BD.f) x.A (L.take m);rw[fH,gq,iS hm]at h;exact h
     by_cases hml:m<Z L
     .obtain⟨gl,cpl,hel,hcl,r0⟩:=IF HE m hml;simp only[fg]at hel;obtain⟨rfl,_,rfl⟩:=hel;obtain⟨e,he⟩:=kK (L[m]);(have he26:Z e=26:=by rw[<-he];exact HE.each _ (fj hml));have HTk:kt ((L.take (m+1)).flatMap (λe=>(fs.map BD.f).filterMap (G0 e x.A))=NX++(fs.map BD.f).filterMap (G0 e x.A)):=by
       show _=_;rw[fm hml,fR,Aa HNX,he];simp
      rw[he]at r0;(have hmr0:(0:Int)<=(m:Int):=by omega);(have hmr1:(m:Int)<(Z L:Int):=by omega);have hNb:Z NX+Z fs<=330225942528:=by
       have h:=Aa HNl;have h2:(m+1)*Z fs<=47775744*6912:=Nat.mul_le_mul (by omega) hfs;rw[iz,Nat.one_mul]at h2;omega
      clear HNl r0;have HAt:kt (∀wz,Bu wz N (U (V ⟨gl,0,Y⟩) (Z L) lcp) L->wz.rangeAt gl (m*26) (Ai e)):=by
       intro wz hz;obtain⟨g',cp',he',_,r'⟩:=IF hz m hml;simp only[fg,fu,gi]at he';obtain⟨⟨rfl,_,_⟩,_,_⟩:=he';rw[he]at r';exact r'
      clear he;go_wp2_with fail
      go_loopg [7,9] (Z fs) (λgk nx i wr=>∃(q:Nat) (NY:kJ (kJ zA)) (nad:Option Addr) (ncp:Nat),nx=U nad (Z NY) ncp/\i=X J q/\q<=Z fs/\gk=Z fs-q/\Z NY<=Z NX+q/\kt (NX++((fs.take q).map BD.f).filterMap (G0 e x.A)=NY)/\kt (Bu wr N (U nad (Z NY) ncp) NY)/\kt (Bu wr N (U (V ⟨gl,0,Y⟩) (Z L) lcp) L)/\kt (BV (U nad (Z NY) ncp) (U (V ⟨gl,0,Y⟩) (Z L) lcp))/\kt (Ac [] w wr))
      case atStart=>exact⟨0,NX,nad,ncp,rfl,rfl,by omega,rfl,by omega,(by show _=_;simp),HNE,HE,HAp,HK⟩
      case round=>
       clear HNE HE HAp HK HNX;obtain⟨q,NY,nad2,ncp2,rfl,rfl,hq,hgq,hNYb,HNY,HNE,HE,HAp,HK⟩:=hrel;have HGq:=Ab hgq;clear hgq;by_cases hql:q<Z fs
       .obtain⟨gs,cps,fn,xs,pad,pcp,hes,hfk,s0,s1⟩:=Dn (HS.kept HK) q hql;simp only[fg]at hes;obtain⟨rfl,_,rfl⟩:=hes;(have hqr0:(0:Int)<=(q:Int):=by omega);(have hqr1:(q:Int)<(Z fs:Int):=by omega);have hfm:=HS.each _ (fj hql);rw[hfk]at hfm;have HMt:kt (∀wz,Ac [] wr wz->Calls prog 94 #[kx (j1 (Ai e)),kx #[O x.A.name,U xad (Z x.A.args) xcp,X J x.A.at_],kx #[O fn,U pad (Z xs) pcp]] wz λr w'=>r=.returned (.tuple #[kx (j1 (Ai (BX e x.A ⟨fn,xs⟩).1)),.bool (BX e x.A ⟨fn,xs⟩).2])/\Ac [] wz w'):=λwz hkz=>
         LF e x.A xad xcp ⟨⟨fn,xs⟩,U pad (Z xs) pcp⟩ wz he26 (HXl.kept (HK.trans hkz)) (hfm.1.kept (HK.trans hkz)) HXg2.2 (by have:=hfm.2.len;simp at this⊢;omega) HXg2.1
        have HTq:kt (NX++((fs.take (q+1)).map BD.f).filterMap (G0 e x.A)=if(BX e x.A ⟨fn,xs⟩).2 then NY++[(BX e x.A ⟨fn,xs⟩).1] else NY):=by
         show _=_;rw[fm hql,gn,List.filterMap_append,<-gF,Aa HNY,hfk];simp only[fS,iV,jN,List.filterMap_nil,G0];cases(BX e x.A ⟨fn,xs⟩).2<;>simp
        (have HM26:kt (Z (BX e x.A ⟨fn,xs⟩).1=26):=by show _=_;rw[GJ,he26]);have HCs:kt (∀wz,Ac [] wr wz->wz.rangeAt gl (m*26) (Ai e)/\ku wz ⟨gb,k*9+1,Y⟩=V (O x.A.name)/\ku wz ⟨gb,k*9+2,Y⟩=V (U xad (Z x.A.args) xcp)/\ku wz ⟨gb,k*9+3,Y⟩=V (X J x.A.at_)/\ku wz ⟨gs,q*2,Y⟩=V (O fn)/\ku wz ⟨gs,q*2+1,Y⟩=V (U pad (Z xs) pcp)):=by
         intro wz hkz;have hkw:=HK.trans hkz;obtain⟨gb',cpb',x',xad',xcp',hev',hbk',d0',d1',d2',d3',_⟩:=KJ (Ad HB hkw) (λp hp=>(HLi p hp).kept hkw) k hlt;simp only[fg,fu,gi]at hev';obtain⟨⟨rfl,_,_⟩,_,_⟩:=hev';rw[Aa HBk]at hbk';simp only[gA,fg]at hbk';obtain⟨rfl,rfl,_,rfl⟩:=hbk';obtain⟨g',cap',n',pa',ad',cp',he',hfk',f0,f1⟩:=Dn (HS.kept hkw) q hql;have e2:=hfk'.symm.trans hfk;simp only[fg,fu,gi,BD.mk.injEq,Ag.mk.injEq]at he' e2;obtain⟨⟨rfl,_,_⟩,_,_⟩:=he';obtain⟨⟨rfl,rfl⟩,rfl,_,rfl⟩:=e2;exact⟨HAt wz (HE.kept hkz),d1',d2',d3',f0,f1⟩
        clear hfk hfm;obtain⟨RV,hRV⟩:=kK (Ai (BX e x.A ⟨fn,xs⟩).1);obtain⟨RB,hRB⟩:=kK (BX e x.A ⟨fn,xs⟩).2;obtain⟨RE,hRE⟩:=kK (BX e x.A ⟨fn,xs⟩).1;rw[hRB,hRE]at HTq;rw[hRV,hRB]at HMt;rw[hRE]at HM26 hRV;have HRV:=Ab hRV;(have hRl:Z RV=26:=by rw[<-hRV,B6];exact HM26);(have hRo:∀v∈RV,v.oneCell'=true:=by rw[<-hRV];exact Fy RE);clear hRV hRB hRE;obtain⟨EK,hEK⟩:=kK (Ai e);rw[hEK]at HMt HCs;(have hEl:Z EK=26:=by rw[<-hEK,B6,he26]);clear hEK;have hu:=underlying141;(have hi:(prog.info? 141).map (·.size)=V (Z EK):=by rw[hEl];exact Tryz.size141);(have hi2:(prog.info? 141).map (·.size)=V (Z RV):=by rw[hRl];exact Tryz.size141);(have hr9:(k:Int)<(Z bl:Int):=by omega);obtain⟨nm,hnm⟩:=kK x.A.name;obtain⟨ja,hja⟩:=kK x.A.at_;obtain⟨na,hna⟩:=kK (Z x.A.args);rw[hnm,hja,hna]at HMt HCs;clear hnm hja hna;go_wp2_with fail
        go_region_held3 (λwz=>Ac [] wr wz/\wz.rangeAt gl (m*26) EK/\ku wz ⟨gb,k*9+1,Y⟩=V (O nm)/\ku wz ⟨gb,k*9+2,Y⟩=V (U xad na xcp)/\ku wz ⟨gb,k*9+3,Y⟩=V (X J ja)/\ku wz ⟨gs,q*2,Y⟩=V (O fn)/\ku wz ⟨gs,q*2+1,Y⟩=V (U pad (Z xs) pcp)) ((go_split_ands;refine(fun(hkz:Ac [] wr _)=>And.intro hkz (HCs _ hkz)) ?_;repeat (first|assumption|exact kL [] _|refine Ac.drew ?_|refine Ac.alloc ?_ _|(refine Ac.zI ?_ (Or.inr (by first|omega|(simp;omega))) _ _)))) ((go_at_call 94;refine(HMt _ (by go_split_ands;assumption)).mono ?_;rintro e w3 ⟨rfl,k3⟩;have hk3:Ac [] wr w3:=(by go_split_ands;exact Ac.trans (by assumption) k3);have hth3:=JR w3 hRl;(try have hth4:=LW k3 hRl);have hs3:=hk3.size;have HK3:=Ab k3;clear k3))
        all_goals
         rename_i hHeldX;have HKW:=Ab hHeldX.1;clear hHeldX HMt HCs
         first
          |(
            have HBW:kt (AF (w3.setCells wr.heap.size 0 RV) wr.heap.size RV 141):=AF.zO ((kN wr (kD 26 (O ⟨#[]⟩)) 141).drew.kept HK3) RV (by rw[hRl];rfl)
            obtain⟨B,hB⟩:=kK wr.heap.size
            rw[hB]at HBW HKW⊢
            have hBw:wr.heap.size<=B:=by omega
            clear hth3 hth4 hs3 HK3 hB
            generalize w3.setCells B 0 RV=W at HBW HKW⊢)
          |(
            have HBW:kt (AF ((w3.alloc (.cells dw 141)).setCells w3.heap.size 0 RV) w3.heap.size RV 141):=AF.zO (kN w3 (kD 26 (O ⟨#[]⟩)) 141) RV (by rw[hRl];rfl)
            obtain⟨B,hB⟩:=kK w3.heap.size
            rw[hB]at HBW HKW hs3⊢
            have hBw:wr.heap.size<=B:=by omega
            clear hth3 hs3 HK3 hB
            generalize(w3.alloc (.cells dw 141)).setCells B 0 RV=W at HBW HKW⊢)
         clear hk3;have hWs:=HKW.size;cases RB with
         |false=>
          have HTq2:kt (NX++((fs.take (q+1)).map BD.f).filterMap (G0 e x.A)=NY):=HTq;have HNE2:=Ab (HNE.kept HKW);have HE2:=Ab (HE.kept HKW);have HK2:=Ab (HK.trans HKW);clear HTq HNE HE HK HBW HKW;go_wp2
          go_roundg (Z fs-(q+1))
          case measure=>have:=Aa HGq;omega
          case rel=>exact⟨q+1,NY,nad2,ncp2,rfl,by go_num,by omega,rfl,by omega,HTq2,HNE2,HE2,HAp,HK2⟩
         |true=>
          have HTq2:kt (NX++((fs.take (q+1)).map BD.f).filterMap (G0 e x.A)=NY++[RE]):=HTq;have hNE2:=(HNE.kept HKW).row;(have hl0:0<Z RV:=by omega);(have hNW:N<=wr.heap.size:=by have:=HK.size;have:=Aa HN;omega);(have hcR:(kx (j1 RV)).cells=j1 RV:=by rw[<-Aa HRV];exact Bh RE);(have HZ:kt ((prog.info? 141).map (λi=>(i.zero,i.size))=V (V (kx (j1 (kD 26 (O ⟨#[]⟩)))),Z RV)):=by rw[hRl];exact Tryz.zero141);clear HTq;go_wp2_with (first|((with_reducible show wpList _ _ _ ({dst:=_,op:=Op.load 141 _,type:=_,pos:=_,after:=_,guard:=_}::_) _ _);refine iq rfl 141 _ rfl B 0 (by rfl) RV _ HBW.range underlying141 rfl hi2 ?_)|((with_reducible show wpList _ _ _ ({dst:=_,op:=Op.buildSlice 138 1 _,type:=_,pos:=_,after:=_,guard:=_}::_) _ _);refine CQ rfl 138 _ rfl RV (by rfl) 141 _ underlying138 hcR HZ (by rw[hRl];rfl) hl0 (by omega) ?_)|(at_builtin;change kt (wpList _ _ _ _ _ _)))
          show wpList _ _ _ _ _ _;refine fO _ rfl (.tmp 61) (.tmp 63) _ rfl N 141 i0 _ 26 416 underlying138 hi0 hz0 hz1 hz2 rfl (by omega) (U nad2 (Z NY) ncp2) (Z NY) (NY.flatMap Ai) rfl (fw hNE2 _) ⟨W.heap.size,0,Y⟩ 1 1 RV rfl (by omega) (fM (fX W _)) hRo (by omega) (by unfold maxLen;omega) (by omega) (by simp;omega) (W.heap.size+1) (by simp) ?_;intro g1 cp1 w9 ho1 hg1 ha1 hl1;have HNE3:kt (Bu w9 N (U (V ⟨g1,0,Y⟩) (Z (NY++[RE])) cp1) (NY++[RE])):=by
           refine⟨?_,λe' he'=>?_⟩
           .rw[fE,fR];simp only[fN,gI,gd,Aa HRV,fD,gh,gE];exact ho1
           .rcases fA.1 he' with h|h
            .exact HNE.each e' h
            .simp only[ft]at h;rw[h];exact HM26
          have HE3:kt (Bu w9 N (U (V ⟨gl,0,Y⟩) (Z L) lcp) L):=
           ⟨gY (v:=U (V ⟨gl,0,Y⟩) (Z L) lcp) ((HE.kept HKW).row.alloc _) hg1 (Or.inr (λh=>HAp gl h.symm rfl)),HE.each⟩
          have HAp3:kt (BV (U (V ⟨g1,0,Y⟩) (Z (NY++[RE])) cp1) (U (V ⟨gl,0,Y⟩) (Z L) lcp)):=by
           intro z hz hz2;simp only[kF,fu]at hz hz2;rcases ha1 with h|h
           .exact HAp g1 h (by simp only[kF,fu];omega)
           .have:=(HE.row.lt gl rfl).2;omega
          have HK3:kt (Ac [] w w9):=(((HK.trans HKW).alloc _).grown hg1 (λz hz=>Or.inr (by have:=(hNE2.lt z hz).1;have:=Aa HN;omega)));clear ho1 hg1 ha1 hl1 hNE2 HNE HE HAp HK HKW HBW;go_wp2_with fail
          go_roundg (Z fs-(q+1))
          case measure=>have:=Aa HGq;omega
          case rel=>exact⟨q+1,NY++[RE],V ⟨g1,0,Y⟩,cp1,by simp,by go_num,by omega,rfl,by simp;omega,HTq2,HNE3,HE3,HAp3,HK3⟩
       .have HTk2:kt ((L.take (m+1)).flatMap (λe=>(fs.map BD.f).filterMap (G0 e x.A))=NY):=by
         show _=_;rw[Aa HTk,<-Aa HNY,fo (by omega)]
        clear HNY HTk;go_wp2
        go_roundg (Z L-(m+1))
        case measure=>have:=Aa HGm;omega
        case rel=>exact⟨m+1,NY,nad2,ncp2,rfl,by go_num,by omega,rfl,HTk2,HNE,HE,HAp,HK⟩
     .have HSt2:kt (((bl.take (k+1)).map kE).foldl (B1 (fs.map BD.f)) [BM]=NX):=by
       show _=_;rw[Aa HSt,fF True.intro,<-Aa HNX,fo (by omega)]
      have HLb2:kt (Z NX<=6912^(k+1)):=by
       show _<=_;have h:=Aa HNl;have h2:m*Z fs<=6912^k*6912:=Nat.mul_le_mul (by have:=Aa HLb;omega) hfs;rw[Nat.pow_succ];omega
      clear HNX HSt HNl HE HAp;go_wp2
      go_roundg (Z bl-(k+1))
      case measure=>have:=Aa HG;omega
      case rel=>exact⟨k+1,NX,nad,ncp,rfl,by go_num,by omega,rfl,HSt2,HLb2,HNE,HK⟩
  .have HFu:kt ((bl.map kE).foldl (B1 (fs.map BD.f)) [BM]=L):=by
    have h:=Aa HF;rw[fo (by omega)]at h;exact h
   have hLb:Z L<=330225942528:=by
    have h:=Aa HLb;have h2:6912^k<=6912^3:=Nat.pow_le_pow_right (by omega) (by omega);omega
   have HRs:kt (L.filter (λe=>(bl.map kE).all λx=>x.kind==97||B7 (Av e) (AJ e) (fs.map BD.f) x)=RES):=by
    have h:=Aa HRES;rw[Aa HFu]at h;exact h
   have HFt:kt (∀e∈L,∀p∈bl,(p.1.kind==97)=false->OE e p.1):=by
    have h:=Aa HFit;rw[Aa HFu]at h;exact h
   clear HRES HFit HF HFu HGd HLb HG;go_wp2_with fail
   go_loopg [12,13] (Z L) (λgk o i wr=>∃(m:Nat) (OUT:kJ (kJ zA)) (oad:Option Addr) (ocp:Nat),o=U oad (Z OUT) ocp/\i=X J m/\m<=Z L/\gk=Z L-m/\Z OUT<=m/\kt ((L.take m).filter (λe=>(bl.map kE).all λx=>x.kind==97||B7 (Av e) (AJ e) (fs.map BD.f) x)=OUT)/\kt (Bu wr N (U oad (Z OUT) ocp) OUT)/\kt (Bu wr N (U lad (Z L) lcp) L)/\kt (BV (U oad (Z OUT) ocp) (U lad (Z L) lcp))/\kt (Ac [] w wr))
   case atStart=>exact⟨0,[],Y,0,rfl,rfl,by omega,rfl,by simp,rfl,Bu.nil _ _,HE,(λq hq=>by cases hq),HK⟩
   case round=>
    clear HE HK;obtain⟨m,OUT,oad,ocp,rfl,rfl,hm,hgm,hOb,HOUT,HOE,HE,HAp,HK⟩:=hrel;have HGm:=Ab hgm;clear hgm;by_cases hml:m<Z L
    .obtain⟨gl,cpl,hel,hcl,r0⟩:=IF HE m hml;simp only[fg]at hel;obtain⟨rfl,_,rfl⟩:=hel;obtain⟨e,he⟩:=kK (L[m]);(have he26:Z e=26:=by rw[<-he];exact HE.each _ (fj hml));have HFe:=Ab (HFt e (by rw[<-he];exact fj hml));have HTk:kt ((L.take (m+1)).filter (λe=>(bl.map kE).all λx=>x.kind==97||B7 (Av e) (AJ e) (fs.map BD.f) x)=OUT++if((bl.take (Z bl)).map kE).all (λx=>x.kind==97||B7 (Av e) (AJ e) (fs.map BD.f) x)then[e] else[]):=by
      show _=_;rw[fm hml,iD,Aa HOUT,he,gT,gW,List.filter_nil]
     (have hmr0:(0:Int)<=(m:Int):=by omega);(have hmr1:(m:Int)<(Z L:Int):=by omega);clear r0;have HAt:kt (∀wz,Bu wz N (U (V ⟨gl,0,Y⟩) (Z L) lcp) L->wz.rangeAt gl (m*26) (Ai e)):=by
      intro wz hz;obtain⟨g',cp',he',_,r'⟩:=IF hz m hml;simp only[fg,fu,gi]at he';obtain⟨⟨rfl,_,_⟩,_,_⟩:=he';rw[he]at r';exact r'
     clear he;go_wp2_with fail
     go_loopg [14,15] (Z bl) (λgk a i wr=>∃(q:Nat) (ab:Bool),a=.bool ab/\i=X J q/\q<=Z bl/\gk=Z bl-q/\kt (((bl.take q).map kE).all (λx=>x.kind==97||B7 (Av e) (AJ e) (fs.map BD.f) x)=ab)/\kt (Bu wr N (U oad (Z OUT) ocp) OUT)/\kt (Bu wr N (U (V ⟨gl,0,Y⟩) (Z L) lcp) L)/\kt (Ac [] w wr))
     case atStart=>exact⟨0,true,rfl,rfl,by omega,rfl,rfl,HOE,HE,HK⟩
     case round=>
      clear HOE HE HK;obtain⟨q,ab,rfl,rfl,hq,hgq,HAb,HOE,HE,HK⟩:=hrel;have HGq:=Ab hgq;clear hgq;by_cases hql:q<Z bl
      .obtain⟨gb,cpb,x,xad,xcp,hev,hbk,d0,d1,d2,d3,d4,d5,d6,d7,d8⟩:=KJ (Ad HB HK) (λp hp=>(HLi p hp).kept HK) q hql;simp only[fg]at hev;obtain⟨rfl,_,rfl⟩:=hev;(have hxm:(x,U xad (Z x.A.args) xcp)∈bl:=by rw[<-hbk];exact fj hql);have HTq:kt (((bl.take (q+1)).map kE).all (λx=>x.kind==97||B7 (Av e) (AJ e) (fs.map BD.f) x)=(ab&&(x.kind==97||B7 (Av e) (AJ e) (fs.map BD.f) x))):=by
        show _=_;rw[fm hql,gn,List.all_append,Aa HAb,hbk];simp
       (have hqr0:(0:Int)<=(q:Int):=by omega);(have hqr1:(q:Int)<(Z bl:Int):=by omega);have k97:((x.kind.toNat:Int)==97)=(x.kind==97):=Ck _ 97;cases h97:(x.kind==97)with
       |true=>
        rw[h97]at k97 HTq;have HTq2:kt (((bl.take (q+1)).map kE).all (λx=>x.kind==97||B7 (Av e) (AJ e) (fs.map BD.f) x)=ab):=by
         have h:=Aa HTq;rw[jp,Bool.and_true]at h;exact h
        (have HD:kt (∀n,Bu (wr.drewN n) N (U oad (Z OUT) ocp) OUT/\Bu (wr.drewN n) N (U (V ⟨gl,0,Y⟩) (Z L) lcp) L/\Ac [] w (wr.drewN n)):=λn=>⟨HOE.kept ((kL [] wr).drewN n),HE.kept ((kL [] wr).drewN n),HK.drewN n⟩);clear HTq hbk hxm HOE HE HK HAb;go_wp2_with fail
        go_quiet (fail)
        cases ab
        all_goals
         go_wp2
         go_roundg (Z bl-(q+1))
         case measure=>have:=Aa HGq;omega
         case rel=>exact⟨q+1,_,rfl,by go_num,by omega,rfl,HTq2,(HD _).1,(HD _).2.1,(HD _).2.2⟩
       |false=>
        rw[h97]at k97 HTq;have HHl:kt (∀wz,Ac [] wr wz->Calls prog 95 #[kx (j1 (Ai e)),kx #[X .u8 x.kind.toNat,O x.A.name,U xad (Z x.A.args) xcp,X J x.A.at_,X .u8 x.L.v.toNat,O x.L.s,X .u8 x.R.v.toNat,O x.R.s,X J x.at_],U sad (Z fs) scp] wz λr w'=>r=.returned (.bool (B7 (Av e) (AJ e) (fs.map BD.f) x))/\Ac [] wz w'):=λwz hkz=>
         Pw e x xad xcp sad scp fs wz he26 ((HLi _ hxm).kept (HK.trans hkz)) (HS.kept (HK.trans hkz)) (by omega) (HFe _ hxm h97)
        have HCs:kt (∀wz,Ac [] wr wz->wz.rangeAt gl (m*26) (Ai e)/\ku wz ⟨gb,q*9,Y⟩=V (X .u8 x.kind.toNat)/\ku wz ⟨gb,q*9+1,Y⟩=V (O x.A.name)/\ku wz ⟨gb,q*9+2,Y⟩=V (U xad (Z x.A.args) xcp)/\ku wz ⟨gb,q*9+3,Y⟩=V (X J x.A.at_)/\ku wz ⟨gb,q*9+4,Y⟩=V (X .u8 x.L.v.toNat)/\ku wz ⟨gb,q*9+5,Y⟩=V (O x.L.s)/\ku wz ⟨gb,q*9+6,Y⟩=V (X .u8 x.R.v.toNat)/\ku wz ⟨gb,q*9+7,Y⟩=V (O x.R.s)/\ku wz ⟨gb,q*9+8,Y⟩=V (X J x.at_)):=by
         intro wz hkz;have hkw:=HK.trans hkz;obtain⟨gb',cpb',x',xad',xcp',hev',hbk',d0',d1',d2',d3',d4',d5',d6',d7',d8'⟩:=KJ (Ad HB hkw) (λp hp=>(HLi p hp).kept hkw) q hql;simp only[fg,fu,gi]at hev';obtain⟨⟨rfl,_,_⟩,_,_⟩:=hev';rw[hbk]at hbk';simp only[gA,fg]at hbk';obtain⟨rfl,rfl,_,rfl⟩:=hbk';exact⟨HAt wz (HE.kept hkz),d0',d1',d2',d3',d4',d5',d6',d7',d8'⟩
        obtain⟨LB,hLB⟩:=kK (B7 (Av e) (AJ e) (fs.map BD.f) x);rw[hLB,iZ]at HTq;rw[hLB]at HHl;clear hLB hbk hxm;obtain⟨EK,hEK⟩:=kK (Ai e);rw[hEK]at HHl HCs;(have hEl:Z EK=26:=by rw[<-hEK,B6,he26]);clear hEK;have hu:=underlying141;(have hi:(prog.info? 141).map (·.size)=V (Z EK):=by rw[hEl];exact Tryz.size141);obtain⟨kd,hkd⟩:=kK x.kind.toNat;obtain⟨nm,hnm⟩:=kK x.A.name;obtain⟨ja,hja⟩:=kK x.A.at_;obtain⟨na,hna⟩:=kK (Z x.A.args);obtain⟨lv,hlv⟩:=kK x.L.v.toNat;obtain⟨ls,hls⟩:=kK x.L.s;obtain⟨rv,hrv⟩:=kK x.R.v.toNat;obtain⟨rs,hrs⟩:=kK x.R.s;obtain⟨at_,hat⟩:=kK x.at_;rw[hkd,hnm,hja,hna,hlv,hls,hrv,hrs,hat]at HHl HCs;rw[hkd]at k97;clear h97 hkd hnm hja hna hlv hls hrv hrs hat d0 d1 d2 d3 d4 d5 d6 d7 d8;go_wp2_with fail
        go_region_held3 (λwz=>Ac [] wr wz/\wz.rangeAt gl (m*26) EK/\ku wz ⟨gb,q*9,Y⟩=V (X .u8 kd)/\ku wz ⟨gb,q*9+1,Y⟩=V (O nm)/\ku wz ⟨gb,q*9+2,Y⟩=V (U xad na xcp)/\ku wz ⟨gb,q*9+3,Y⟩=V (X J ja)/\ku wz ⟨gb,q*9+4,Y⟩=V (X .u8 lv)/\ku wz ⟨gb,q*9+5,Y⟩=V (O ls)/\ku wz ⟨gb,q*9+6,Y⟩=V (X .u8 rv)/\ku wz ⟨gb,q*9+7,Y⟩=V (O rs)/\ku wz ⟨gb,q*9+8,Y⟩=V (X J at_)) ((go_split_ands;refine(fun(hkz:Ac [] wr _)=>And.intro hkz (HCs _ hkz)) ?_;repeat (first|assumption|exact kL [] _|refine Ac.drew ?_|refine Ac.alloc ?_ _))) ((go_at_call 95;refine(HHl _ (by go_split_ands;assumption)).mono ?_;rintro e w3 ⟨rfl,k3⟩;have hk3:Ac [] wr w3:=(by go_split_ands;exact Ac.trans (by assumption) k3);clear k3))
        rename_i hHeldX;clear hHeldX HHl HCs;have HOE2:=Ab (HOE.kept hk3);have HE2:=Ab (HE.kept hk3);have HK2:=Ab (HK.trans hk3);clear HOE HE HK hk3 HAb;cases ab
        all_goals
         have HTq2:=Ab HTq;clear HTq;go_wp2
         go_roundg (Z bl-(q+1))
         case measure=>have:=Aa HGq;omega
         case rel=>exact⟨q+1,_,rfl,by go_num,by omega,rfl,HTq2,HOE2,HE2,HK2⟩
      .have HTk2:kt ((L.take (m+1)).filter (λe=>(bl.map kE).all λx=>x.kind==97||B7 (Av e) (AJ e) (fs.map BD.f) x)=OUT++if ab then[e] else[]):=by
        have h:=Aa HTk;have h2:=Aa HAb;rw[show q=Z bl by omega]at h2;rw[h2]at h;exact h
       clear HTk HAb HGq;cases ab with
       |false=>
        have HTk3:kt ((L.take (m+1)).filter (λe=>(bl.map kE).all λx=>x.kind==97||B7 (Av e) (AJ e) (fs.map BD.f) x)=OUT):=by
         have h:=Aa HTk2;rw[fB (by simp),gd]at h;exact h
        clear HTk2;go_wp2
        go_roundg (Z L-(m+1))
        case measure=>have:=Aa HGm;omega
        case rel=>exact⟨m+1,OUT,oad,ocp,rfl,by go_num,by omega,rfl,by omega,HTk3,HOE,HE,HAp,HK⟩
       |true=>
        have HTk3:kt ((L.take (m+1)).filter (λe=>(bl.map kE).all λx=>x.kind==97||B7 (Av e) (AJ e) (fs.map BD.f) x)=OUT++[e]):=HTk2;obtain⟨EK,hEK⟩:=kK (Ai e);(have hEl:Z EK=26:=by rw[<-hEK,B6,he26]);(have hRo:∀v∈EK,v.oneCell'=true:=by rw[<-hEK];exact Fy e);(have hcR:(kx (j1 EK)).cells=j1 EK:=by rw[<-hEK];exact Bh e);(have HRg:kt (wr.rangeAt gl (m*26) EK):=by rw[<-hEK];exact HAt wr HE);have HRV:=Ab hEK;(have hi:(prog.info? 141).map (·.size)=V (Z EK):=by rw[hEl];exact Tryz.size141);(have hl0:0<Z EK:=by omega);(have HZ:kt ((prog.info? 141).map (λi=>(i.zero,i.size))=V (V (kx (j1 (kD 26 (O ⟨#[]⟩)))),Z EK)):=by rw[hEl];exact Tryz.zero141);(have hNW:N<=wr.heap.size:=by have:=HK.size;have:=Aa HN;omega);have hOE2:=HOE.row;clear HTk2 hEK;go_wp2_with (first|((with_reducible show wpList _ _ _ ({dst:=_,op:=Op.load 141 _,type:=_,pos:=_,after:=_,guard:=_}::_) _ _);refine iq rfl 141 _ rfl gl (m*26) (by rfl) EK _ HRg underlying141 rfl hi ?_)|((with_reducible show wpList _ _ _ ({dst:=_,op:=Op.buildSlice 138 1 _,type:=_,pos:=_,after:=_,guard:=_}::_) _ _);refine CQ rfl 138 _ rfl EK (by rfl) 141 _ underlying138 hcR HZ (by rw[hEl];rfl) hl0 (by omega) ?_)|(at_builtin;change kt (wpList _ _ _ _ _ _)))
        show wpList _ _ _ _ _ _;refine fO _ rfl (.tmp 101) (.tmp 106) _ rfl N 141 i0 _ 26 416 underlying138 hi0 hz0 hz1 hz2 rfl (by omega) (U oad (Z OUT) ocp) (Z OUT) (OUT.flatMap Ai) rfl (fw hOE2 _) ⟨wr.heap.size,0,Y⟩ 1 1 EK rfl (by omega) (fM (fX wr _)) hRo (by omega) (by unfold maxLen;omega) (by omega) (by simp;omega) (wr.heap.size+1) (by simp) ?_;intro g1 cp1 w9 ho1 hg1 ha1 hl1;have HOE3:kt (Bu w9 N (U (V ⟨g1,0,Y⟩) (Z (OUT++[e])) cp1) (OUT++[e])):=by
         refine⟨?_,λe' he'=>?_⟩
         .rw[fE,fR];simp only[fN,gI,gd,Aa HRV,fD,gh,gE];exact ho1
         .rcases fA.1 he' with h|h
          .exact HOE.each e' h
          .simp only[ft]at h;rw[h];exact he26
        have HE3:kt (Bu w9 N (U (V ⟨gl,0,Y⟩) (Z L) lcp) L):=
         ⟨gY (v:=U (V ⟨gl,0,Y⟩) (Z L) lcp) (HE.row.alloc _) hg1 (Or.inr (λh=>HAp gl h.symm rfl)),HE.each⟩
        have HAp3:kt (BV (U (V ⟨g1,0,Y⟩) (Z (OUT++[e])) cp1) (U (V ⟨gl,0,Y⟩) (Z L) lcp)):=by
         intro z hz hz2;simp only[kF,fu]at hz hz2;rcases ha1 with h|h
         .exact HAp g1 h (by simp only[kF,fu];omega)
         .have:=(HE.row.lt gl rfl).2;omega
        have HK3:kt (Ac [] w w9):=(HK.alloc _).grown hg1 (λz hz=>Or.inr (by have:=(hOE2.lt z hz).1;have:=Aa HN;omega));clear ho1 hg1 ha1 hl1 hOE2 HOE HE HAp HK HRg;go_wp2_with fail
        go_roundg (Z L-(m+1))
        case measure=>have:=Aa HGm;omega
        case rel=>exact⟨m+1,OUT++[e],V ⟨g1,0,Y⟩,cp1,by simp,by go_num,by omega,rfl,by simp;omega,HTk3,HOE3,HE3,HAp3,HK3⟩
    .have HRe:kt (OUT=RES):=by
      have h:=Aa HRs;have h2:=Aa HOUT;rw[fo (by omega)]at h2;exact h2.symm.trans h
     go_wp2;go_ret;rw[<-Aa HRe];exact⟨oad,ocp,rfl,HOE,HK⟩
