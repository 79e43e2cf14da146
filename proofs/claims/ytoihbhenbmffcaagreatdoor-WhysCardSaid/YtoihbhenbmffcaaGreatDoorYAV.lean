import Derived.Test.YtoihbhenbmffcaaGreatDoorYAS
import Derived.Test.YtoihbhenbmffcaaGreatDoorYAU
set_option linter.all false
set_option maxHeartbeats 0
namespace Go.Proofs.YtoihbhenbmffcaaGreatDoor
open Go.RowKit Go.Proofs.Tryz
def T9:Ai BM=List.replicate 26 (.string ⟨#[]⟩):=by
 unfold BM Ai;rw[List.map_replicate];rfl
set_option maxRecDepth 100000
theorem S2(c:CA)(had:Option Addr)(hcp:Nat)(bad:Option Addr)(bcp:Nat)(bl:List Bw)(fp:B5)(sad:Option Addr)(scp:Nat)(fs:List B5)(mad:Option Addr)(mcp:Nat)(ms:List B5)(w:World)(hh:w.ownsRow 0 93 2 (.slice had c.head.args.length hcp) c.head.args.length (c.head.args.flatMap AQ))(hb:w.ownsRow 0 95 9 (.slice bad bl.length bcp) bl.length (bl.flatMap Bb))(hl:∀p∈bl,Cv w 0 p)(hf:Ew w fp)(hs:Dm w (.slice sad fs.length scp) fs)(hms:Dm w (.slice mad ms.length mcp) ms)(hbl:bl.length<=3)(hfs:fs.length<=6912)(hmsl:ms.length<=6912)
  (hhg:∀t∈c.head.args,Bs t) (hhl:c.head.args.length<=1000) (hfl:fp.f.args.length<=1000000)
  (hg:∀p∈bl,(p.1.kind==97)=true->(∀t∈p.1.A.args,Bs t)/\p.1.A.args.length<=1000)
  (hok:(BH BM c.head fp.f).2=true)
  (hfit:∀e∈(bl.map Prod.fst).foldl (BY (fs.map B5.f)) [(BH BM c.head fp.f).1],∀p∈bl,(p.1.kind==97)=false->LX e p.1):
  Calls prog 56 #[.agg (CH c (.slice had c.head.args.length hcp) (.slice bad bl.length bcp)).toArray,.agg (Bq fp).toArray,.slice sad fs.length scp,.slice mad ms.length mcp] w λr w'=>r=.returned (.bool (((bl.map Prod.fst).foldl (BY (fs.map B5.f)) [(BH BM c.head fp.f).1]).any λe=>(bl.map Prod.fst).all λx=>x.kind==97||Cg (Av e) (AJ e) (ms.map B5.f) x))/\Ac [] w w':=by
 obtain⟨i0,hi0,hz0,hz1,hz2⟩:=fC Tryz.yB;have HMh:=Ab (λwz (hk:Ac [] w wz)=>Lw BM c.head had hcp fp wz rfl (Ad hh hk (by simp)) (hf.kept hk) hhl hfl hhg);obtain⟨⟨hnm,has_,hat⟩,hbd,cat⟩:=c;obtain⟨⟨fnm,fas⟩,fav⟩:=fp;simp only[Cj,Bq,CH,hok]at HMh hfit⊢;have hE26:(BH BM ⟨hnm,has_,hat⟩ ⟨fnm,fas⟩).1.length=26:=by rw[E6];rfl
 obtain⟨E0,hE0⟩:∃E0,(BH BM ⟨hnm,has_,hat⟩ ⟨fnm,fas⟩).1=E0:=⟨_,rfl⟩;simp only[hE0]at HMh;rw[hE0]at hfit hE26⊢;obtain⟨RES,hRES⟩:∃RES,(((bl.map Prod.fst).foldl (BY (fs.map B5.f)) [E0]).any λe=>(bl.map Prod.fst).all λx=>x.kind==97||Cg (Av e) (AJ e) (ms.map B5.f) x)=RES:=⟨_,rfl⟩;rw[hRES];have HRES:=Ab hRES;have HB:=Ab hb;have HLi:=Ab hl;have HS:=Ab hs;have HMs:=Ab hms;have HGd:=Ab hg;have HFit:=Ab hfit;obtain⟨N,hN⟩:∃N,w.heap.size=N:=⟨_,rfl⟩;have HN:=Ab hN;clear hRES hb hl hs hg hfit hms hh hf hhg hok hE0 hhl hfl;simp only[T9]at HMh;have HK1:=Ab (((Ac.refl [] w).alloc (.cells [.string hnm,.slice had has_.length hcp,.int .i64 hat,.slice bad bl.length bcp,.int .i64 cat].toArray 82)).alloc (.cells [.string fnm,fav].toArray 43));have HBc:=Ab ((AI.new w [.string hnm,.slice had has_.length hcp,.int .i64 hat,.slice bad bl.length bcp,.int .i64 cat] 82).alloc (.cells [.string fnm,fav].toArray 43));have HBf:=Ab (AI.new (w.alloc (.cells [.string hnm,.slice had has_.length hcp,.int .i64 hat,.slice bad bl.length bcp,.int .i64 cat].toArray 82)) [.string fnm,fav] 43);rw[fg]at HBf;go_enter func56,ntmps56;refine jT (λKK HKK=>?_);go_wp2;refine HKK _ _ ?_;clear HKK KK;change Code.wp _ _ _ _ ((w.alloc (.cells [.string hnm,.slice had has_.length hcp,.int .i64 hat,.slice bad bl.length bcp,.int .i64 cat].toArray 82)).alloc (.cells [.string fnm,fav].toArray 43));generalize(w.alloc (.cells [.string hnm,.slice had has_.length hcp,.int .i64 hat,.slice bad bl.length bcp,.int .i64 cat].toArray 82)).alloc (.cells [.string fnm,fav].toArray 43)=w1 at HK1 HBc HBf⊢;rw[Aa HN]at HBc HBf
 try rw[Aa HN]
 have HMt:Hid (∀wz,Ac [] w1 wz->Calls prog 87 #[.agg (List.replicate 26 (Value.string ⟨#[]⟩)).toArray,.agg #[.string hnm,.slice had has_.length hcp,.int .i64 hat],.agg #[.string fnm,fav]] wz λr w'=>r=.returned (.tuple #[.agg (Ai E0).toArray,.bool true])/\Ac [] wz w'):=λwz hk=>HMh wz (HK1.trans hk)
 have HCs:Hid (∀wz,Ac [] w1 wz->wz.cell? ⟨N,0,none⟩=some (.string hnm)/\wz.cell? ⟨N,1,none⟩=some (.slice had has_.length hcp)/\wz.cell? ⟨N,2,none⟩=some (.int .i64 hat)/\wz.cell? ⟨N+1,0,none⟩=some (.string fnm)/\wz.cell? ⟨N+1,1,none⟩=some fav):=by
  intro wz hkz;have hc:=HBc.kept hkz (by simp);have hd:=HBf.kept hkz (by simp);have h0:=hc.cell 0;have h1:=hc.cell 1;have h2:=hc.cell 2;have h3:=hd.cell 0;have h4:=hd.cell 1;simp at h0 h1 h2 h3 h4;exact⟨h0,h1,h2,h3,h4⟩
 obtain⟨RV,hRV⟩:∃RV,Ai E0=RV:=⟨_,rfl⟩;have HRV:=Ab hRV;have hRl:RV.length=26:=by rw[<-hRV,Cf,hE26]
 have hRo:∀v∈RV,v.oneCell'=true:=by rw[<-hRV];exact Fs E0
 rw[hRV]at HMt;clear hRV HMh;have hu:=underlying90;have hi2:(prog.info? 90).map (·.size)=some RV.length:=by rw[hRl];exact Tryz.zG
 obtain⟨NA,hNA⟩:∃NA,has_.length=NA:=⟨_,rfl⟩;rw[hNA]at HMt HCs HBc⊢;clear hNA;obtain⟨c0,c1,c2,c3,c4⟩:=HCs w1 (Ac.refl _ _);refine jT (λKK HKK=>?_);go_wp2_with fail
 refine(HMt _ (Ac.refl _ _)).mono ?_;rintro _ w3 ⟨rfl,k3⟩;have hth3:=JQ w3 hRl;have hs3:=k3.size;have HK3:=Ab k3;clear k3 c0 c1 c2 c3 c4;go_wp2_with ((with_reducible show wpList _ _ _ ({dst:=_,op:=Op.store 90 _ _,type:=_,pos:=_,after:=_,guard:=_}::_) _ _);refine gQ rfl 90 _ _ rfl w3.heap.size 0 RV.toArray (by rfl) (by rfl) hth3 hi2 (fX hRo) ?_)
 refine HKK _ _ ?_;clear HKK KK;have HBW:Hid (AI ((w3.alloc (.cells cW 90)).setCells w3.heap.size 0 RV) w3.heap.size RV 90):=AI.zQ (AI.new w3 (List.replicate 26 (.string ⟨#[]⟩)) 90) RV (by rw[hRl];rfl);have HKW:Hid (Ac [] w1 ((w3.alloc (.cells cW 90)).setCells w3.heap.size 0 RV)):=(HK3.alloc _).zI (b:=w3.heap.size) (Or.inr hs3) RV 0
 try simp only[iD]
 generalize(w3.alloc (.cells cW 90)).setCells w3.heap.size 0 RV=W at HBW HKW⊢;obtain⟨B,hB⟩:∃B,w3.heap.size=B:=⟨_,rfl⟩;rw[hB]at HBW⊢;clear hth3 hs3 HK3 hB;have hl0:0<RV.length:=by omega
 have hcR:(Value.agg RV.toArray).cells=RV.toArray:=by rw[<-Aa HRV];exact Bj E0
 have HZ:Hid ((prog.info? 90).map (λi=>(i.zero,i.size))=some (some (.agg (List.replicate 26 (.string ⟨#[]⟩)).toArray),RV.length)):=by rw[hRl];exact Tryz.zr
 have HE0:Hid (By (W.alloc (.cells RV.toArray 90)) w1.heap.size (.slice (some ⟨W.heap.size,0,none⟩) [E0].length 1) [E0]):=by
  have h:=jp (e:=90) (size:=26) (base:=w1.heap.size) W RV.toArray 1 HKW.size (by unfold maxLen;omega) (by simp[hRl]);refine⟨?_,λe he=>by simp at he;rw[he];exact hE26⟩;simp only[eN,fF,fh,Aa HRV];exact h
 have HK0:=Ab (HKW.alloc (.cells RV.toArray 90));obtain⟨NB,hNB⟩:∃NB,w1.heap.size=NB:=⟨_,rfl⟩;have HNB:=Ab hNB;rw[hNB]at HE0;clear hNB;have HB1:=Ab (Ad HB HK1 (by simp));have HLi1:Hid (∀p∈bl,Cv w1 0 p):=λp hp=>(HLi p hp).kept HK1 (by simp)
 have HS1:=Ab (HS.kept HK1);have HMs1:=Ab (HMs.kept HK1);clear HB HLi HS HMs HCs HMt;go_wp2_with (first|((with_reducible show wpList _ _ _ ({dst:=_,op:=Op.load 90 _,type:=_,pos:=_,after:=_,guard:=_}::_) _ _);refine gD rfl 90 _ rfl B 0 (by rfl) RV _ HBW.range underlying90 rfl hi2 ?_)|((with_reducible show wpList _ _ _ ({dst:=_,op:=Op.buildSlice 87 1 _,type:=_,pos:=_,after:=_,guard:=_}::_) _ _);refine CQ rfl 87 _ rfl RV (by rfl) 90 _ underlying87 hcR HZ (by rw[hRl];rfl) hl0 (by omega) ?_))
 generalize W.alloc (.cells RV.toArray 90)=w4 at HE0 HK0⊢;generalize W.heap.size=WS at HE0⊢;clear HBW HKW HZ hl0 hcR hi2 hRo hRl HRV
 go_loopg [11,12] bl.length (λgk l i wr=>∃(k:Nat) (L:List (List g0)) (lad:Option Addr) (lcp:Nat),l=.slice lad L.length lcp/\i=.int .i64 k/\k<=bl.length/\gk=bl.length-k/\Hid (((bl.take k).map Prod.fst).foldl (BY (fs.map B5.f)) [E0]=L)/\Hid (L.length<=6912^k)/\Hid (By wr NB (.slice lad L.length lcp) L)/\Hid (Ac [] w1 wr))
 case atStart=>exact⟨0,[E0],some ⟨WS,0,none⟩,1,rfl,rfl,by omega,rfl,rfl,(by show _<=_;simp),HE0,HK0⟩
 case round=>
  clear HE0 HK0;obtain⟨k,L,lad,lcp,rfl,rfl,hk,hgk,HF,HLb,HE,HK⟩:=hrel;have HG:=Ab hgk;clear hgk;have cB:=(HBc.kept HK (by simp)).cell 3;simp at cB;by_cases zX:k<bl.length
  .obtain⟨gb,cpb,x,xad,xcp,hev,hbk,d0,d1,d2,d3,d4,d5,d6,d7,d8⟩:=KI (Ad HB1 HK (by simp)) (λp hp=>(HLi1 p hp).kept HK (by simp)) k zX;simp only[ei]at hev;obtain⟨rfl,_,rfl⟩:=hev;have De:Hid (((bl.take (k+1)).map Prod.fst).foldl (BY (fs.map B5.f)) [E0]=if x.kind==97 then L.flatMap (λe=>(fs.map B5.f).filterMap (GP e x.A))else L):=by
    show _=_;rw[ep zX,fi,fE,Aa HF,hbk];rfl
   (have hxm:(x,Value.slice xad x.A.args.length xcp)∈bl:=by rw[<-hbk];exact eo zX);have HXm:=Ab hxm;have HBk:=Ab hbk;have HXl:=Ab (HLi1 _ hxm);have HXg:=Ab (HGd _ hxm);clear hbk HF hxm d4 d5 d6 d7 d8;have k97:((x.kind.toNat:Int)==97)=(x.kind==97):=Cp _ 97;(have hr0:(0:Int)<=(k:Int):=by omega);(have hr1:(k:Int)<(bl.length:Int):=by omega);cases h97:(x.kind==97)with
   |false=>
    rw[h97]at k97 De;(have k97b:((x.kind.toNat:Int) !=97)=true:=by simp[bne,k97]);have HLb2:Hid (L.length<=6912^(k+1)):=by
     have h:=Aa HLb;show _<=_;rw[Nat.pow_succ];omega
    have HSt2:Hid (((bl.take (k+1)).map Prod.fst).foldl (BY (fs.map B5.f)) [E0]=L):=De;clear De;go_wp2
    go_roundg (bl.length-(k+1))
    case measure=>have:=Aa HG;omega
    case rel=>exact⟨k+1,L,lad,lcp,rfl,by go_num,by omega,rfl,HSt2,HLb2,HE,HK⟩
   |true=>
    rw[h97]at k97 De HXg;(have k97b:((x.kind.toNat:Int) !=97)=false:=by simp[bne,k97]);have hLb:L.length<=47775744:=by
     have h:=Aa HLb;have h2:6912^k<=6912^2:=Nat.pow_le_pow_right (by omega) (by omega);omega
    have HXg2:=Ab (HXg rfl);clear HXg;go_wp2_with fail
    go_loopg [13,14] L.length (λgk nx i wr=>∃(m:Nat) (NX:List (List g0)) (nad:Option Addr) (ncp:Nat),nx=.slice nad NX.length ncp/\i=.int .i64 m/\m<=L.length/\gk=L.length-m/\Hid ((L.take m).flatMap (λe=>(fs.map B5.f).filterMap (GP e x.A))=NX)/\Hid (By wr NB (.slice nad NX.length ncp) NX)/\Hid (By wr NB (.slice lad L.length lcp) L)/\Hid (B1 (.slice nad NX.length ncp) (.slice lad L.length lcp))/\Hid (Ac [] w1 wr))
    case atStart=>exact⟨0,[],none,0,rfl,rfl,by omega,rfl,rfl,By.nil _ _,HE,(λq hq=>by cases hq),HK⟩
    case round=>
     clear HE HK d0 d1 d2 d3 cB;obtain⟨m,NX,nad,ncp,rfl,rfl,hm,hgm,HNX,HNE,HE,HAp,HK⟩:=hrel;have HGm:=Ab hgm;clear hgm;have HNl:Hid (NX.length<=m*fs.length):=by
      show _<=_;rw[<-Aa HNX];have h:=MD (fs.map B5.f) x.A (L.take m);rw[eL,ft,iu hm]at h;exact h
     by_cases hml:m<L.length
     .obtain⟨gl,cpl,hel,hcl,r0⟩:=Ir HE m hml;simp only[ei]at hel;obtain⟨rfl,_,rfl⟩:=hel;obtain⟨e,he⟩:∃e,L[m]=e:=⟨_,rfl⟩;(have he26:e.length=26:=by rw[<-he];exact HE.each _ (eo hml));have HTk:Hid ((L.take (m+1)).flatMap (λe=>(fs.map B5.f).filterMap (GP e x.A))=NX++(fs.map B5.f).filterMap (GP e x.A)):=by
       show _=_;rw[ep hml,eY,Aa HNX,he];simp
      rw[he]at r0;(have hmr0:(0:Int)<=(m:Int):=by omega);(have hmr1:(m:Int)<(L.length:Int):=by omega);have hNb:NX.length+fs.length<=330225942528:=by
       have h:=Aa HNl;have h2:(m+1)*fs.length<=47775744*6912:=Nat.mul_le_mul (by omega) hfs;rw[gL,Nat.one_mul]at h2;omega
      clear HNl r0;have HAt:Hid (∀wz,By wz NB (.slice (some ⟨gl,0,none⟩) L.length lcp) L->wz.rangeAt gl (m*26) (Ai e)):=by
       intro wz hz;obtain⟨g',cp',he',_,r'⟩:=Ir hz m hml;simp only[ei,eD,fm]at he';obtain⟨⟨rfl,_,_⟩,_,_⟩:=he';rw[he]at r';exact r'
      clear he;go_wp2_with fail
      go_loopg [13,15] fs.length (λgk nx i wr=>∃(q:Nat) (NY:List (List g0)) (nad:Option Addr) (ncp:Nat),nx=.slice nad NY.length ncp/\i=.int .i64 q/\q<=fs.length/\gk=fs.length-q/\NY.length<=NX.length+q/\Hid (NX++((fs.take q).map B5.f).filterMap (GP e x.A)=NY)/\Hid (By wr NB (.slice nad NY.length ncp) NY)/\Hid (By wr NB (.slice (some ⟨gl,0,none⟩) L.length lcp) L)/\Hid (B1 (.slice nad NY.length ncp) (.slice (some ⟨gl,0,none⟩) L.length lcp))/\Hid (Ac [] w1 wr))
      case atStart=>exact⟨0,NX,nad,ncp,rfl,rfl,by omega,rfl,by omega,(by show _=_;simp),HNE,HE,HAp,HK⟩
      case round=>
       clear HNE HE HAp HK HNX;obtain⟨q,NY,nad2,ncp2,rfl,rfl,hq,hgq,hNYb,HNY,HNE,HE,HAp,HK⟩:=hrel;have HGq:=Ab hgq;clear hgq;by_cases hql:q<fs.length
       .obtain⟨gs,cps,fn,xs,pad,pcp,hes,hfk,s0,s1⟩:=EL (HS1.kept HK) q hql;simp only[ei]at hes;obtain⟨rfl,_,rfl⟩:=hes;(have hqr0:(0:Int)<=(q:Int):=by omega);(have hqr1:(q:Int)<(fs.length:Int):=by omega);have hfm:=HS1.each _ (eo hql);rw[hfk]at hfm;have HMt:Hid (∀wz,Ac [] wr wz->Calls prog 87 #[.agg (Ai e).toArray,.agg #[.string x.A.name,.slice xad x.A.args.length xcp,.int .i64 x.A.at_],.agg #[.string fn,.slice pad xs.length pcp]] wz λr w'=>r=.returned (.tuple #[.agg (Ai (BH e x.A ⟨fn,xs⟩).1).toArray,.bool (BH e x.A ⟨fn,xs⟩).2])/\Ac [] wz w'):=λwz hkz=>
         Lw e x.A xad xcp ⟨⟨fn,xs⟩,.slice pad xs.length pcp⟩ wz he26 (HXl.kept (HK.trans hkz) (by simp)) (hfm.1.kept (HK.trans hkz)) HXg2.2 (by have:=hfm.2.len;simp at this⊢;omega) HXg2.1
        have HTq:Hid (NX++((fs.take (q+1)).map B5.f).filterMap (GP e x.A)=if(BH e x.A ⟨fn,xs⟩).2 then NY++[(BH e x.A ⟨fn,xs⟩).1] else NY):=by
         show _=_;rw[ep hql,fi,List.filterMap_append,<-fD,Aa HNY,hfk];simp only[eR,gU,jd,List.filterMap_nil,GP];cases(BH e x.A ⟨fn,xs⟩).2<;>simp
        (have HM26:Hid ((BH e x.A ⟨fn,xs⟩).1.length=26):=by show _=_;rw[E6,he26]);have HCs:Hid (∀wz,Ac [] wr wz->wz.cell? ⟨N,3,none⟩=some (.slice (some ⟨gb,0,none⟩) bl.length bcp)/\wz.rangeAt gl (m*26) (Ai e)/\wz.cell? ⟨gb,k*9+1,none⟩=some (.string x.A.name)/\wz.cell? ⟨gb,k*9+2,none⟩=some (.slice xad x.A.args.length xcp)/\wz.cell? ⟨gb,k*9+3,none⟩=some (.int .i64 x.A.at_)/\wz.cell? ⟨gs,q*2,none⟩=some (.string fn)/\wz.cell? ⟨gs,q*2+1,none⟩=some (.slice pad xs.length pcp)):=by
         intro wz hkz;have hkw:=HK.trans hkz;obtain⟨gb',cpb',x',xad',xcp',hev',hbk',d0',d1',d2',d3',_⟩:=KI (Ad HB1 hkw (by simp)) (λp hp=>(HLi1 p hp).kept hkw (by simp)) k zX;simp only[ei,eD,fm]at hev';obtain⟨⟨rfl,_,_⟩,_,_⟩:=hev';rw[Aa HBk]at hbk';simp only[fo,ei]at hbk';obtain⟨rfl,rfl,_,rfl⟩:=hbk';obtain⟨g',cap',n',pa',ad',cp',he',hfk',f0,f1⟩:=EL (HS1.kept hkw) q hql;have e2:=hfk'.symm.trans hfk;simp only[ei,eD,fm,B5.mk.injEq,Af.mk.injEq]at he' e2;obtain⟨⟨rfl,_,_⟩,_,_⟩:=he';obtain⟨⟨rfl,rfl⟩,rfl,_,rfl⟩:=e2;have h3:=(HBc.kept hkw (by simp)).cell 3;simp at h3;exact⟨h3,HAt wz (HE.kept hkz (by simp)),d1',d2',d3',f0,f1⟩
        clear hfk hfm;obtain⟨RV,hRV⟩:∃RV,Ai (BH e x.A ⟨fn,xs⟩).1=RV:=⟨_,rfl⟩;obtain⟨RB,hRB⟩:∃RB,(BH e x.A ⟨fn,xs⟩).2=RB:=⟨_,rfl⟩;obtain⟨RE,hRE⟩:∃RE,(BH e x.A ⟨fn,xs⟩).1=RE:=⟨_,rfl⟩;rw[hRB,hRE]at HTq;rw[hRV,hRB]at HMt;rw[hRE]at HM26 hRV;have HRV:=Ab hRV;(have hRl:RV.length=26:=by rw[<-hRV,Cf];exact HM26);(have hRo:∀v∈RV,v.oneCell'=true:=by rw[<-hRV];exact Fs RE);clear hRV hRB hRE;obtain⟨EK,hEK⟩:∃EK,Ai e=EK:=⟨_,rfl⟩;rw[hEK]at HMt HCs;(have hEl:EK.length=26:=by rw[<-hEK,Cf,he26]);clear hEK;have hu:=underlying90;(have hi:(prog.info? 90).map (·.size)=some EK.length:=by rw[hEl];exact Tryz.zG);(have hi2:(prog.info? 90).map (·.size)=some RV.length:=by rw[hRl];exact Tryz.zG);(have hr9:(k:Int)<(bl.length:Int):=by omega);obtain⟨nm,hnm⟩:∃nm,x.A.name=nm:=⟨_,rfl⟩;obtain⟨ja,hja⟩:∃ja,x.A.at_=ja:=⟨_,rfl⟩;obtain⟨na,hna⟩:∃na,x.A.args.length=na:=⟨_,rfl⟩;rw[hnm,hja,hna]at HMt HCs;clear hnm hja hna;go_wp2_with fail
        go_region_held3 (λwz=>Ac [] wr wz/\wz.cell? ⟨N,3,none⟩=some (.slice (some ⟨gb,0,none⟩) bl.length bcp)/\wz.rangeAt gl (m*26) EK/\wz.cell? ⟨gb,k*9+1,none⟩=some (.string nm)/\wz.cell? ⟨gb,k*9+2,none⟩=some (.slice xad na xcp)/\wz.cell? ⟨gb,k*9+3,none⟩=some (.int .i64 ja)/\wz.cell? ⟨gs,q*2,none⟩=some (.string fn)/\wz.cell? ⟨gs,q*2+1,none⟩=some (.slice pad xs.length pcp)) ((go_split_ands;refine(fun(hkz:Ac [] wr _)=>And.intro hkz (HCs _ hkz)) ?_;repeat (first|assumption|exact Ac.refl [] _|refine Ac.drew ?_|refine Ac.alloc ?_ _|(refine Ac.zI ?_ (Or.inr (by first|omega|(simp;omega))) _ _)))) ((go_at_call 87;refine(HMt _ (by go_split_ands;assumption)).mono ?_;rintro e w3 ⟨rfl,k3⟩;have hk3:Ac [] wr w3:=(by go_split_ands;exact Ac.trans (by assumption) k3);have hth3:=JQ w3 hRl;(try have hth4:=LK k3 hRl);have hs3:=hk3.size;have HK3:=Ab k3;clear k3))
        all_goals
         rename_i hHeldX;have HKW:=Ab hHeldX.1;clear hHeldX HMt HCs
         first
          |(
            have HBW:Hid (AI (w3.setCells wr.heap.size 0 RV) wr.heap.size RV 90):=AI.zQ ((AI.new wr (List.replicate 26 (.string ⟨#[]⟩)) 90).drew.kept HK3 (by simp)) RV (by rw[hRl];rfl)
            obtain⟨B,hB⟩:∃B,wr.heap.size=B:=⟨_,rfl⟩
            rw[hB]at HBW HKW⊢
            have hBw:wr.heap.size<=B:=by omega
            clear hth3 hth4 hs3 HK3 hB
            generalize w3.setCells B 0 RV=W at HBW HKW⊢)
          |(
            have HBW:Hid (AI ((w3.alloc (.cells cW 90)).setCells w3.heap.size 0 RV) w3.heap.size RV 90):=AI.zQ (AI.new w3 (List.replicate 26 (.string ⟨#[]⟩)) 90) RV (by rw[hRl];rfl)
            obtain⟨B,hB⟩:∃B,w3.heap.size=B:=⟨_,rfl⟩
            rw[hB]at HBW HKW hs3⊢
            have hBw:wr.heap.size<=B:=by omega
            clear hth3 hs3 HK3 hB
            generalize(w3.alloc (.cells cW 90)).setCells B 0 RV=W at HBW HKW⊢)
         clear hk3;have hWs:=HKW.size;cases RB with
         |false=>
          have HTq2:Hid (NX++((fs.take (q+1)).map B5.f).filterMap (GP e x.A)=NY):=HTq;have HNE2:=Ab (HNE.kept HKW (by simp));have HE2:=Ab (HE.kept HKW (by simp));have HK2:=Ab (HK.trans HKW);clear HTq HNE HE HK HBW HKW;go_wp2
          go_roundg (fs.length-(q+1))
          case measure=>have:=Aa HGq;omega
          case rel=>exact⟨q+1,NY,nad2,ncp2,rfl,by go_num,by omega,rfl,by omega,HTq2,HNE2,HE2,HAp,HK2⟩
         |true=>
          have HTq2:Hid (NX++((fs.take (q+1)).map B5.f).filterMap (GP e x.A)=NY++[RE]):=HTq;have hNE2:=(HNE.kept HKW (by simp)).row;(have hl0:0<RV.length:=by omega);(have hNW:NB<=wr.heap.size:=by have:=HK.size;have:=Aa HNB;omega);(have hcR:(Value.agg RV.toArray).cells=RV.toArray:=by rw[<-Aa HRV];exact Bj RE);(have HZ:Hid ((prog.info? 90).map (λi=>(i.zero,i.size))=some (some (.agg (List.replicate 26 (.string ⟨#[]⟩)).toArray),RV.length)):=by rw[hRl];exact Tryz.zr);clear HTq;go_wp2_with (first|((with_reducible show wpList _ _ _ ({dst:=_,op:=Op.load 90 _,type:=_,pos:=_,after:=_,guard:=_}::_) _ _);refine gD rfl 90 _ rfl B 0 (by rfl) RV _ HBW.range underlying90 rfl hi2 ?_)|((with_reducible show wpList _ _ _ ({dst:=_,op:=Op.buildSlice 87 1 _,type:=_,pos:=_,after:=_,guard:=_}::_) _ _);refine CQ rfl 87 _ rfl RV (by rfl) 90 _ underlying87 hcR HZ (by rw[hRl];rfl) hl0 (by omega) ?_)|(at_builtin;change Hid (wpList _ _ _ _ _ _)))
          show wpList _ _ _ _ _ _;refine eP _ rfl (.tmp 79) (.tmp 81) _ rfl NB 90 i0 _ 26 416 underlying87 hi0 hz0 hz1 hz2 rfl (by omega) (.slice nad2 NY.length ncp2) NY.length (NY.flatMap Ai) rfl (eC hNE2 _) ⟨W.heap.size,0,none⟩ 1 1 RV rfl (by omega) (eS (cs:=RV.toArray) (t:=90) (fr:=(0,0)) (fe W _)) hRo (by omega) (by unfold maxLen;omega) (by omega) (by simp;omega) (W.heap.size+1) (by simp) ?_;intro g1 cp1 w9 ho1 hg1 ha1 hl1;have HNE3:Hid (By w9 NB (.slice (some ⟨g1,0,none⟩) (NY++[RE]).length cp1) (NY++[RE])):=by
           refine⟨?_,λe' he'=>?_⟩
           .rw[eJ,eY];simp only[eN,fF,fh,Aa HRV,eF,fb,fw];exact ho1
           .rcases eG.1 he' with h|h
            .exact HNE.each e' h
            .simp only[ex]at h;rw[h];exact HM26
          have HE3:Hid (By w9 NB (.slice (some ⟨gl,0,none⟩) L.length lcp) L):=
           ⟨fT (v:=.slice (some ⟨gl,0,none⟩) L.length lcp) ((HE.kept HKW (by simp)).row.alloc _) hg1 (Or.inr (λh=>HAp gl h.symm rfl)),HE.each⟩
          have HAp3:Hid (B1 (.slice (some ⟨g1,0,none⟩) (NY++[RE]).length cp1) (.slice (some ⟨gl,0,none⟩) L.length lcp)):=by
           intro z hz hz2;simp only[Value.ownBlock,eD]at hz hz2;rcases ha1 with h|h
           .exact HAp g1 h (by simp only[Value.ownBlock,eD];omega)
           .have:=(HE.row.lt gl rfl).2;omega
          have HK3:Hid (Ac [] w1 w9):=(((HK.trans HKW).alloc _).grown hg1 (λz hz=>Or.inr (by have:=(hNE2.lt z hz).1;have:=Aa HNB;omega)));clear ho1 hg1 ha1 hl1 hNE2 HNE HE HAp HK HKW HBW;go_wp2_with fail
          go_roundg (fs.length-(q+1))
          case measure=>have:=Aa HGq;omega
          case rel=>exact⟨q+1,NY++[RE],some ⟨g1,0,none⟩,cp1,by simp,by go_num,by omega,rfl,by simp;omega,HTq2,HNE3,HE3,HAp3,HK3⟩
       .have HTk2:Hid ((L.take (m+1)).flatMap (λe=>(fs.map B5.f).filterMap (GP e x.A))=NY):=by
         show _=_;rw[Aa HTk,<-Aa HNY,eu (by omega)]
        clear HNY HTk;go_wp2
        go_roundg (L.length-(m+1))
        case measure=>have:=Aa HGm;omega
        case rel=>exact⟨m+1,NY,nad2,ncp2,rfl,by go_num,by omega,rfl,HTk2,HNE,HE,HAp,HK⟩
     .have HSt2:Hid (((bl.take (k+1)).map Prod.fst).foldl (BY (fs.map B5.f)) [E0]=NX):=by
       show _=_;rw[Aa De,eI True.intro,<-Aa HNX,eu (by omega)]
      have HLb2:Hid (NX.length<=6912^(k+1)):=by
       show _<=_;have h:=Aa HNl;have h2:m*fs.length<=6912^k*6912:=Nat.mul_le_mul (by have:=Aa HLb;omega) hfs;rw[Nat.pow_succ];omega
      clear HNX De HNl HE HAp;go_wp2
      go_roundg (bl.length-(k+1))
      case measure=>have:=Aa HG;omega
      case rel=>exact⟨k+1,NX,nad,ncp,rfl,by go_num,by omega,rfl,HSt2,HLb2,HNE,HK⟩
  .have HFu:Hid ((bl.map Prod.fst).foldl (BY (fs.map B5.f)) [E0]=L):=by
    have h:=Aa HF;rw[eu (by omega)]at h;exact h
   have hLb:L.length<=330225942528:=by
    have h:=Aa HLb;have h2:6912^k<=6912^3:=Nat.pow_le_pow_right (by omega) (by omega);omega
   have HRs:Hid (L.any (λe=>(bl.map Prod.fst).all λx=>x.kind==97||Cg (Av e) (AJ e) (ms.map B5.f) x)=RES):=by
    have h:=Aa HRES;rw[Aa HFu]at h;exact h
   have HFt:Hid (∀e∈L,∀p∈bl,(p.1.kind==97)=false->LX e p.1):=by
    have h:=Aa HFit;rw[Aa HFu]at h;exact h
   clear HRES HFit HF HFu HGd HLb HG;(go_wp2_with fail);clear cB
   go_loopg [18] L.length (λgk i wr=>∃(m:Nat),i=.int .i64 m/\m<=L.length/\gk=L.length-m/\Hid ((L.take m).any (λe=>(bl.map Prod.fst).all λx=>x.kind==97||Cg (Av e) (AJ e) (ms.map B5.f) x)=false)/\Hid (By wr NB (.slice lad L.length lcp) L)/\Hid (Ac [] w1 wr))
   case atStart=>exact⟨0,rfl,by omega,rfl,rfl,HE,HK⟩
   case round=>
    clear HE HK;obtain⟨m,rfl,hm,hgm,HOUT,HE,HK⟩:=hrel;have HGm:=Ab hgm;clear hgm;by_cases hml:m<L.length
    .obtain⟨gl,cpl,hel,hcl,r0⟩:=Ir HE m hml;simp only[ei]at hel;obtain⟨rfl,_,rfl⟩:=hel;obtain⟨e,he⟩:∃e,L[m]=e:=⟨_,rfl⟩;(have he26:e.length=26:=by rw[<-he];exact HE.each _ (eo hml));(have hem:e∈L:=by rw[<-he];exact eo hml);have HFe:=Ab (HFt e hem);have HTk:Hid ((L.take (m+1)).any (λe=>(bl.map Prod.fst).all λx=>x.kind==97||Cg (Av e) (AJ e) (ms.map B5.f) x)=((bl.take bl.length).map Prod.fst).all (λx=>x.kind==97||Cg (Av e) (AJ e) (ms.map B5.f) x)):=by
      show _=_;rw[ep hml,jh,Aa HOUT,he,gP];simp
     have HYes:Hid (((bl.take bl.length).map Prod.fst).all (λx=>x.kind==97||Cg (Av e) (AJ e) (ms.map B5.f) x)=true->RES=true):=by
      intro h;rw[<-Aa HRs];rw[gP]at h;exact fW.2 ⟨e,hem,h⟩
     (have hmr0:(0:Int)<=(m:Int):=by omega);(have hmr1:(m:Int)<(L.length:Int):=by omega);clear r0;have HAt:Hid (∀wz,By wz NB (.slice (some ⟨gl,0,none⟩) L.length lcp) L->wz.rangeAt gl (m*26) (Ai e)):=by
      intro wz hz;obtain⟨g',cp',he',_,r'⟩:=Ir hz m hml;simp only[ei,eD,fm]at he';obtain⟨⟨rfl,_,_⟩,_,_⟩:=he';rw[he]at r';exact r'
     clear he;go_wp2_with fail
     go_loopg [19,20] bl.length (λgk a i wr=>∃(q:Nat) (ab:Bool),a=.bool ab/\i=.int .i64 q/\q<=bl.length/\gk=bl.length-q/\Hid (((bl.take q).map Prod.fst).all (λx=>x.kind==97||Cg (Av e) (AJ e) (ms.map B5.f) x)=ab)/\Hid (By wr NB (.slice (some ⟨gl,0,none⟩) L.length lcp) L)/\Hid (Ac [] w1 wr))
     case atStart=>exact⟨0,true,rfl,rfl,by omega,rfl,rfl,HE,HK⟩
     case round=>
      clear HE HK;obtain⟨q,ab,rfl,rfl,hq,hgq,HAb,HE,HK⟩:=hrel;have HGq:=Ab hgq;clear hgq;have cB:=(HBc.kept HK (by simp)).cell 3;simp at cB;by_cases hql:q<bl.length
      .obtain⟨gb,cpb,x,xad,xcp,hev,hbk,d0,d1,d2,d3,d4,d5,d6,d7,d8⟩:=KI (Ad HB1 HK (by simp)) (λp hp=>(HLi1 p hp).kept HK (by simp)) q hql;simp only[ei]at hev;obtain⟨rfl,_,rfl⟩:=hev;(have hxm:(x,Value.slice xad x.A.args.length xcp)∈bl:=by rw[<-hbk];exact eo hql);have HTq:Hid (((bl.take (q+1)).map Prod.fst).all (λx=>x.kind==97||Cg (Av e) (AJ e) (ms.map B5.f) x)=(ab&&(x.kind==97||Cg (Av e) (AJ e) (ms.map B5.f) x))):=by
        show _=_;rw[ep hql,fi,List.all_append,Aa HAb,hbk];simp
       (have hqr0:(0:Int)<=(q:Int):=by omega);(have hqr1:(q:Int)<(bl.length:Int):=by omega);have k97:((x.kind.toNat:Int)==97)=(x.kind==97):=Cp _ 97;cases h97:(x.kind==97)with
       |true=>
        rw[h97]at k97 HTq;have HTq2:Hid (((bl.take (q+1)).map Prod.fst).all (λx=>x.kind==97||Cg (Av e) (AJ e) (ms.map B5.f) x)=ab):=by
         have h:=Aa HTq;rw[iG,Bool.and_true]at h;exact h
        (have HD:Hid (∀n,By (wr.drewN n) NB (.slice (some ⟨gl,0,none⟩) L.length lcp) L/\Ac [] w1 (wr.drewN n)):=λn=>⟨HE.kept ((Ac.refl [] wr).drewN n) (by simp),HK.drewN n⟩);clear HTq hbk hxm HE HK HAb;go_wp2_with fail
        go_quiet (fail)
        cases ab
        all_goals
         go_wp2
         go_roundg (bl.length-(q+1))
         case measure=>have:=Aa HGq;omega
         case rel=>exact⟨q+1,_,rfl,by go_num,by omega,rfl,HTq2,(HD _).1,(HD _).2⟩
       |false=>
        rw[h97]at k97 HTq;have HHl:Hid (∀wz,Ac [] wr wz->Calls prog 88 #[.agg (Ai e).toArray,.agg #[.int .u8 x.kind.toNat,.string x.A.name,.slice xad x.A.args.length xcp,.int .i64 x.A.at_,.int .u8 x.L.v.toNat,.string x.L.s,.int .u8 x.R.v.toNat,.string x.R.s,.int .i64 x.at_],.slice mad ms.length mcp] wz λr w'=>r=.returned (.bool (Cg (Av e) (AJ e) (ms.map B5.f) x))/\Ac [] wz w'):=λwz hkz=>
         O4 e x xad xcp mad mcp ms wz he26 ((HLi1 _ hxm).kept (HK.trans hkz) (by simp)) (HMs1.kept (HK.trans hkz)) (by omega) (HFe _ hxm h97)
        have HCs:Hid (∀wz,Ac [] wr wz->wz.cell? ⟨N,3,none⟩=some (.slice (some ⟨gb,0,none⟩) bl.length bcp)/\wz.rangeAt gl (m*26) (Ai e)/\wz.cell? ⟨gb,q*9,none⟩=some (.int .u8 x.kind.toNat)/\wz.cell? ⟨gb,q*9+1,none⟩=some (.string x.A.name)/\wz.cell? ⟨gb,q*9+2,none⟩=some (.slice xad x.A.args.length xcp)/\wz.cell? ⟨gb,q*9+3,none⟩=some (.int .i64 x.A.at_)/\wz.cell? ⟨gb,q*9+4,none⟩=some (.int .u8 x.L.v.toNat)/\wz.cell? ⟨gb,q*9+5,none⟩=some (.string x.L.s)/\wz.cell? ⟨gb,q*9+6,none⟩=some (.int .u8 x.R.v.toNat)/\wz.cell? ⟨gb,q*9+7,none⟩=some (.string x.R.s)/\wz.cell? ⟨gb,q*9+8,none⟩=some (.int .i64 x.at_)):=by
         intro wz hkz;have hkw:=HK.trans hkz;obtain⟨gb',cpb',x',xad',xcp',hev',hbk',d0',d1',d2',d3',d4',d5',d6',d7',d8'⟩:=KI (Ad HB1 hkw (by simp)) (λp hp=>(HLi1 p hp).kept hkw (by simp)) q hql;simp only[ei,eD,fm]at hev';obtain⟨⟨rfl,_,_⟩,_,_⟩:=hev';rw[hbk]at hbk';simp only[fo,ei]at hbk';obtain⟨rfl,rfl,_,rfl⟩:=hbk';have h3:=(HBc.kept hkw (by simp)).cell 3;simp at h3;exact⟨h3,HAt wz (HE.kept hkz (by simp)),d0',d1',d2',d3',d4',d5',d6',d7',d8'⟩
        obtain⟨LB,hLB⟩:∃LB,Cg (Av e) (AJ e) (ms.map B5.f) x=LB:=⟨_,rfl⟩;rw[hLB,ib]at HTq;rw[hLB]at HHl;clear hLB hbk hxm;obtain⟨EK,hEK⟩:∃EK,Ai e=EK:=⟨_,rfl⟩;rw[hEK]at HHl HCs;(have hEl:EK.length=26:=by rw[<-hEK,Cf,he26]);clear hEK;have hu:=underlying90;(have hi:(prog.info? 90).map (·.size)=some EK.length:=by rw[hEl];exact Tryz.zG);obtain⟨kd,hkd⟩:∃kd,x.kind.toNat=kd:=⟨_,rfl⟩;obtain⟨nm,hnm⟩:∃nm,x.A.name=nm:=⟨_,rfl⟩;obtain⟨ja,hja⟩:∃ja,x.A.at_=ja:=⟨_,rfl⟩;obtain⟨na,hna⟩:∃na,x.A.args.length=na:=⟨_,rfl⟩;obtain⟨lv,hlv⟩:∃lv,x.L.v.toNat=lv:=⟨_,rfl⟩;obtain⟨ls,hls⟩:∃ls,x.L.s=ls:=⟨_,rfl⟩;obtain⟨rv,hrv⟩:∃rv,x.R.v.toNat=rv:=⟨_,rfl⟩;obtain⟨rs,hrs⟩:∃rs,x.R.s=rs:=⟨_,rfl⟩;obtain⟨at_,hat⟩:∃at_,x.at_=at_:=⟨_,rfl⟩;rw[hkd,hnm,hja,hna,hlv,hls,hrv,hrs,hat]at HHl HCs;rw[hkd]at k97;clear h97 hkd hnm hja hna hlv hls hrv hrs hat d0 d1 d2 d3 d4 d5 d6 d7 d8;(go_wp2_with fail);clear cB
        go_region_held3 (λwz=>Ac [] wr wz/\wz.cell? ⟨N,3,none⟩=some (.slice (some ⟨gb,0,none⟩) bl.length bcp)/\wz.rangeAt gl (m*26) EK/\wz.cell? ⟨gb,q*9,none⟩=some (.int .u8 kd)/\wz.cell? ⟨gb,q*9+1,none⟩=some (.string nm)/\wz.cell? ⟨gb,q*9+2,none⟩=some (.slice xad na xcp)/\wz.cell? ⟨gb,q*9+3,none⟩=some (.int .i64 ja)/\wz.cell? ⟨gb,q*9+4,none⟩=some (.int .u8 lv)/\wz.cell? ⟨gb,q*9+5,none⟩=some (.string ls)/\wz.cell? ⟨gb,q*9+6,none⟩=some (.int .u8 rv)/\wz.cell? ⟨gb,q*9+7,none⟩=some (.string rs)/\wz.cell? ⟨gb,q*9+8,none⟩=some (.int .i64 at_)) ((go_split_ands;refine(fun(hkz:Ac [] wr _)=>And.intro hkz (HCs _ hkz)) ?_;repeat (first|assumption|exact Ac.refl [] _|refine Ac.drew ?_|refine Ac.alloc ?_ _))) ((go_at_call 88;refine(HHl _ (by go_split_ands;assumption)).mono ?_;rintro e w3 ⟨rfl,k3⟩;have hk3:Ac [] wr w3:=(by go_split_ands;exact Ac.trans (by assumption) k3);clear k3))
        rename_i hHeldX;clear hHeldX HHl HCs;have HE2:=Ab (HE.kept hk3 (by simp));have HK2:=Ab (HK.trans hk3);clear HE HK hk3 HAb;cases ab
        all_goals
         have HTq2:=Ab HTq;clear HTq;go_wp2
         go_roundg (bl.length-(q+1))
         case measure=>have:=Aa HGq;omega
         case rel=>exact⟨q+1,_,rfl,by go_num,by omega,rfl,HTq2,HE2,HK2⟩
      ·(have hqe:q=bl.length:=by omega);have HAb2:Hid (((bl.take bl.length).map Prod.fst).all (λx=>x.kind==97||Cg (Av e) (AJ e) (ms.map B5.f) x)=ab):=by
        have h2:=Aa HAb;rw[hqe]at h2;exact h2
       clear HAb HGq hqe;cases ab with
       |false=>
        have HTk3:Hid ((L.take (m+1)).any (λe=>(bl.map Prod.fst).all λx=>x.kind==97||Cg (Av e) (AJ e) (ms.map B5.f) x)=false):=HTk.trans HAb2;clear HTk HYes HAb2;go_wp2
        go_roundg (L.length-(m+1))
        case measure=>have:=Aa HGm;omega
        case rel=>exact⟨m+1,by go_num,by omega,rfl,HTk3,HE,HK⟩
       |true=>
        have HY:Hid (RES=true):=HYes HAb2;have HKf:Hid (Ac [] w wr):=HK1.trans HK;clear HTk HYes HAb2;go_wp2;go_ret;rw[Aa HY];exact⟨rfl,HKf⟩
    .have HY:Hid (RES=false):=by
      have h:=Aa HOUT;rw[eu (by omega)]at h;exact HRs.symm.trans h
     have HKf:Hid (Ac [] w wr):=HK1.trans HK;go_wp2;go_ret;rw[Aa HY];exact⟨rfl,HKf⟩
