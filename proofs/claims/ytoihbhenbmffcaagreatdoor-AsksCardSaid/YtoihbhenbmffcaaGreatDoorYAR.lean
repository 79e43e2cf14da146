import Derived.Test.YtoihbhenbmffcaaGreatDoorYAP
import Derived.Test.YtoihbhenbmffcaaGreatDoorYAE
set_option linter.all false
set_option maxHeartbeats 0
namespace Go.Proofs.YtoihbhenbmffcaaGreatDoor
open Go.RowKit Go.Proofs.Tryz
structure Ca(w:World)(base:Nat)(v:Value)(L:List (List cR)):Prop where
 row:w.ownsRow base 90 26 v L.length (L.flatMap Ai)
 each:∀e∈L,e.length=26
theorem Ca.kept{w w':World}{base:Nat}{v:Value}{L:List (List cR)}(h:Ca w base v L){M:List Nat}(k:Ac M w w')(a:∀i,v.ownBlock=some i->i∉M):Ca w' base v L:=⟨Al h.row k a,h.each⟩
theorem Ca.nil(w:World)(base:Nat):Ca w base (.slice none 0 0) []:=⟨ck _ _ _ _,by simp⟩
theorem Lo{w:World}{base:Nat}{v:Value}{L:List (List cR)}(h:Ca w base v L)(k:Nat)(b:k<L.length):∃g a,v=.slice (some ⟨g,0,none⟩) L.length a/\L.length<=a/\w.rangeAt g (k*26) (Ai L[k]):=by
 obtain⟨g,a,c,j,f⟩:=Av h.row (λe c=>by rw[CV];exact h.each e c) k b;refine⟨g,a,c,j,λi v d=>?_⟩;have l:i<26:=by
  have:=(fq.1 d).1;rw[CV,h.each _ (bL b)]at this;exact this
 rw[f k b i l];exact d
theorem RU{w:World}{B:Value}{bl:List AY}(h:w.ownsRow 0 95 9 B bl.length (bl.flatMap AN))(C:∀p∈bl,BJ w 0 p)(k:Nat)(a:k<bl.length):
  ∃g m x d f,B=.slice (some ⟨g,0,none⟩) bl.length m/\bl[k]=(x,.slice d x.A.args.length f)/\
   w.cell? ⟨g,k*9,none⟩=some (.int .u8 x.kind.toNat)/\w.cell? ⟨g,k*9+1,none⟩=some (.string x.A.name)/\w.cell? ⟨g,k*9+2,none⟩=some (.slice d x.A.args.length f)/\w.cell? ⟨g,k*9+3,none⟩=some (.int .i64 x.A.at_)/\
   w.cell? ⟨g,k*9+4,none⟩=some (.int .u8 x.L.v.toNat)/\w.cell? ⟨g,k*9+5,none⟩=some (.string x.L.s)/\w.cell? ⟨g,k*9+6,none⟩=some (.int .u8 x.R.v.toNat)/\w.cell? ⟨g,k*9+7,none⟩=some (.string x.R.s)/\w.cell? ⟨g,k*9+8,none⟩=some (.int .i64 x.at_):=by
 obtain⟨g,m,D,_,b⟩:=Av h (λc _=>Bw c) k a;have y:=C _ (bL a);have q:=b k a 0 (by omega);have l:=b k a 1 (by omega);have i:=b k a 2 (by omega);have j:=b k a 3 (by omega);have u:=b k a 4 (by omega);have r:=b k a 5 (by omega);have o:=b k a 6 (by omega);have n:=b k a 7 (by omega);have t:=b k a 8 (by omega);obtain⟨⟨x,E⟩,z⟩:∃p,bl[k]=p:=⟨_,rfl⟩;rw[z]at q l i j u r o n t y;obtain⟨d,f,e⟩:=Aj y;simp only at e;subst e;simp[AN,BQ]at q l i j u r o n t;exact⟨g,m,x,d,f,D,z,q,l,i,j,u,r,o,n,t⟩
theorem PV(S:List Ah)(A:C2):∀(L:List (List cR)),(L.flatMap λe=>S.filterMap (Kv e A)).length<=L.length*S.length
 |[]=>by simp
 |e::L=>by
  have a:=PV S A L;have b:=List.length_filterMap_le (Kv e A) S;simp only[cg,cc,bU,dS,Nat.one_mul];omega
theorem In:∀(a:List AG) (b:List cR) (e:List cR),(Cz e a b).1.length=e.length
 |[],_,e=>by simp[Cz]
 |_::_,[],e=>by simp[Cz]
 |t::a,x::b,e=>by
  unfold Cz;split
  .rw[In a b];simp
  .split
   .exact In a b e
   .rfl
theorem Lf(e:List cR)(A:C2)(f:Ah):(DF e A f).1.length=e.length:=by
 unfold DF;split
 .exact In _ _ _
 .rfl
theorem SF(w:World){E:List Value}(a:E.length=26):(w.alloc (.cells #[.string ⟨#[]⟩,.string ⟨#[]⟩,.string ⟨#[]⟩,.string ⟨#[]⟩,.string ⟨#[]⟩,.string ⟨#[]⟩,.string ⟨#[]⟩,.string ⟨#[]⟩,.string ⟨#[]⟩,.string ⟨#[]⟩,.string ⟨#[]⟩,.string ⟨#[]⟩,.string ⟨#[]⟩,.string ⟨#[]⟩,.string ⟨#[]⟩,.string ⟨#[]⟩,.string ⟨#[]⟩,.string ⟨#[]⟩,.string ⟨#[]⟩,.string ⟨#[]⟩,.string ⟨#[]⟩,.string ⟨#[]⟩,.string ⟨#[]⟩,.string ⟨#[]⟩,.string ⟨#[]⟩,.string ⟨#[]⟩] 90)).there w.heap.size 0 E.toArray.size:=Gw (AE.new w (List.replicate 26 (.string ⟨#[]⟩)) 90) a
theorem Q9{u w:World}(k:Ac [] (u.alloc (.cells #[.string ⟨#[]⟩,.string ⟨#[]⟩,.string ⟨#[]⟩,.string ⟨#[]⟩,.string ⟨#[]⟩,.string ⟨#[]⟩,.string ⟨#[]⟩,.string ⟨#[]⟩,.string ⟨#[]⟩,.string ⟨#[]⟩,.string ⟨#[]⟩,.string ⟨#[]⟩,.string ⟨#[]⟩,.string ⟨#[]⟩,.string ⟨#[]⟩,.string ⟨#[]⟩,.string ⟨#[]⟩,.string ⟨#[]⟩,.string ⟨#[]⟩,.string ⟨#[]⟩,.string ⟨#[]⟩,.string ⟨#[]⟩,.string ⟨#[]⟩,.string ⟨#[]⟩,.string ⟨#[]⟩,.string ⟨#[]⟩] 90)).drew w){E:List Value}(a:E.length=26):w.there u.heap.size 0 E.toArray.size:=Gw ((AE.new u (List.replicate 26 (.string ⟨#[]⟩)) 90).drew.kept k (by simp)) a
theorem Tryz.info90:(Tryz.prog.info? 90).map (λi=>(i.zero,i.size,i.bytes))=some (some (.agg (List.replicate 26 (.string ⟨#[]⟩)).toArray),26,416):=by kernel_rfl
set_option maxRecDepth 100000
theorem PW(bad:Option Addr)(bcp:Nat)(bl:List AY)(sad:Option Addr)(scp:Nat)(fs:List CF)(w:World)(hb:w.ownsRow 0 95 9 (.slice bad bl.length bcp) bl.length (bl.flatMap AN))(hl:∀p∈bl,BJ w 0 p)(hs:Fa w (.slice sad fs.length scp) fs)(hbl:bl.length<=3)(hfs:fs.length<=6912)
    (hg:∀p∈bl,(p.1.kind==97)=true->(∀t∈p.1.A.args,Bz t)/\p.1.A.args.length<=1000)
    (hfit:∀e∈(bl.map Prod.fst).foldl (Cq (fs.map CF.f)) [BX],∀p∈bl,(p.1.kind==97)=false->PB e p.1):
    Calls prog 47 #[.slice bad bl.length bcp,.slice sad fs.length scp] w λr w'=>∃ad cp,r=.returned (.slice ad (Br (bl.map Prod.fst) (fs.map CF.f)).length cp)/\Ca w' w.heap.size (.slice ad (Br (bl.map Prod.fst) (fs.map CF.f)).length cp) (Br (bl.map Prod.fst) (fs.map CF.f))/\Ac [] w w':=by
  obtain⟨i0,hi0,hz0,hz1,hz2⟩:=cU Tryz.info90
  obtain⟨RES,hRES⟩:∃RES,Br (bl.map Prod.fst) (fs.map CF.f)=RES:=⟨_,rfl⟩
  rw[hRES]
  have HRES:Hid (((bl.map Prod.fst).foldl (Cq (fs.map CF.f)) [BX]).filter (λe=>(bl.map Prod.fst).all λx=>x.kind==97||CS (AA e) (AR e) (fs.map CF.f) x)=RES):=hRES
  have HB:=Ab hb
  have HLi:=Ab hl
  have HS:=Ab hs
  have HGd:=Ab hg
  have HFit:=Ab hfit
  obtain⟨N,hN⟩:∃N,w.heap.size=N:=⟨_,rfl⟩
  rw[hN]
  have HN:=Ab hN
  clear hRES hb hl hs hg hfit
  go_enter func47,ntmps47
  apply wp_seq_k
  intro KK hKK
  have HKK:=Ab hKK
  clear hKK
  go_wp2
  refine Aa HKK _ _ ?_
  clear HKK KK
  apply wp_seq_k
  intro KK hKK
  have HKK:=Ab hKK
  clear hKK
  go_wp2
  refine Aa HKK _ _ ?_
  clear HKK KK
  have HE0:Hid (Ca (w.alloc (.cells #[.string ⟨#[]⟩,.string ⟨#[]⟩,.string ⟨#[]⟩,.string ⟨#[]⟩,.string ⟨#[]⟩,.string ⟨#[]⟩,.string ⟨#[]⟩,.string ⟨#[]⟩,.string ⟨#[]⟩,.string ⟨#[]⟩,.string ⟨#[]⟩,.string ⟨#[]⟩,.string ⟨#[]⟩,.string ⟨#[]⟩,.string ⟨#[]⟩,.string ⟨#[]⟩,.string ⟨#[]⟩,.string ⟨#[]⟩,.string ⟨#[]⟩,.string ⟨#[]⟩,.string ⟨#[]⟩,.string ⟨#[]⟩,.string ⟨#[]⟩,.string ⟨#[]⟩,.string ⟨#[]⟩,.string ⟨#[]⟩] 90)) N (.slice (some ⟨N,0,none⟩) [BX].length 1) [BX]):=by
    have h:=fM (e:=90) (size:=26) (base:=N) w (List.replicate 26 (.string ⟨#[]⟩)).toArray 1 (by rw[Aa HN];exact bZ _) (by unfold maxLen;omega) (by simp)
    rw[Aa HN]at h
    exact⟨h,by simp[BX]⟩
  have HK0:=Ab ((Ac.refl [] w).alloc (.cells #[.string ⟨#[]⟩,.string ⟨#[]⟩,.string ⟨#[]⟩,.string ⟨#[]⟩,.string ⟨#[]⟩,.string ⟨#[]⟩,.string ⟨#[]⟩,.string ⟨#[]⟩,.string ⟨#[]⟩,.string ⟨#[]⟩,.string ⟨#[]⟩,.string ⟨#[]⟩,.string ⟨#[]⟩,.string ⟨#[]⟩,.string ⟨#[]⟩,.string ⟨#[]⟩,.string ⟨#[]⟩,.string ⟨#[]⟩,.string ⟨#[]⟩,.string ⟨#[]⟩,.string ⟨#[]⟩,.string ⟨#[]⟩,.string ⟨#[]⟩,.string ⟨#[]⟩,.string ⟨#[]⟩,.string ⟨#[]⟩] 90))
  generalize w.alloc (.cells #[.string ⟨#[]⟩,.string ⟨#[]⟩,.string ⟨#[]⟩,.string ⟨#[]⟩,.string ⟨#[]⟩,.string ⟨#[]⟩,.string ⟨#[]⟩,.string ⟨#[]⟩,.string ⟨#[]⟩,.string ⟨#[]⟩,.string ⟨#[]⟩,.string ⟨#[]⟩,.string ⟨#[]⟩,.string ⟨#[]⟩,.string ⟨#[]⟩,.string ⟨#[]⟩,.string ⟨#[]⟩,.string ⟨#[]⟩,.string ⟨#[]⟩,.string ⟨#[]⟩,.string ⟨#[]⟩,.string ⟨#[]⟩,.string ⟨#[]⟩,.string ⟨#[]⟩,.string ⟨#[]⟩,.string ⟨#[]⟩] 90)=w1 at HE0 HK0⊢
  generalize Value.agg #[.string ⟨#[]⟩,.string ⟨#[]⟩,.string ⟨#[]⟩,.string ⟨#[]⟩,.string ⟨#[]⟩,.string ⟨#[]⟩,.string ⟨#[]⟩,.string ⟨#[]⟩,.string ⟨#[]⟩,.string ⟨#[]⟩,.string ⟨#[]⟩,.string ⟨#[]⟩,.string ⟨#[]⟩,.string ⟨#[]⟩,.string ⟨#[]⟩,.string ⟨#[]⟩,.string ⟨#[]⟩,.string ⟨#[]⟩,.string ⟨#[]⟩,.string ⟨#[]⟩,.string ⟨#[]⟩,.string ⟨#[]⟩,.string ⟨#[]⟩,.string ⟨#[]⟩,.string ⟨#[]⟩,.string ⟨#[]⟩]=U17
  go_wp2_with fail
  go_loopg [5,6] bl.length (λgk l i wr=>∃(k:Nat) (L:List (List cR)) (lad:Option Addr) (lcp:Nat),l=.slice lad L.length lcp/\i=.int .i64 k/\k<=bl.length/\gk=bl.length-k/\Hid (((bl.take k).map Prod.fst).foldl (Cq (fs.map CF.f)) [BX]=L)/\Hid (L.length<=6912^k)/\Hid (Ca wr N (.slice lad L.length lcp) L)/\Hid (Ac [] w wr))
  case atStart=>exact⟨0,[BX],some ⟨N,0,none⟩,1,rfl,rfl,by omega,rfl,rfl,(by show _<=_;simp),HE0,HK0⟩
  case round=>
    clear HE0 HK0
    obtain⟨k,L,lad,lcp,rfl,rfl,hk,hgk,HF,HLb,HE,HK⟩:=hrel
    have HG:=Ab hgk
    clear hgk
    by_cases gK:k<bl.length
    · obtain⟨gb,cpb,x,xad,xcp,hev,hbk,d0,d1,d2,d3,d4,d5,d6,d7,d8⟩:=RU (Ad (Aa HB) (Aa HK) (by simp)) (λp hp=>(Aa HLi p hp).kept (Aa HK) (by simp)) k gK
      simp only[bK]at hev
      obtain⟨rfl,_,rfl⟩:=hev
      have HSt:Hid (((bl.take (k+1)).map Prod.fst).foldl (Cq (fs.map CF.f)) [BX]=if x.kind==97 then L.flatMap (λe=>(fs.map CF.f).filterMap (Kv e x.A))else L):=by
        show _=_
        rw[bM gK,cW,cY,Aa HF,hbk]
        rfl
      have hxm:(x,Value.slice xad x.A.args.length xcp)∈bl:=by rw[<-hbk];exact bL gK
      have HXm:=Ab hxm
      have HBk:=Ab hbk
      have HXl:=Ab (Aa HLi _ hxm)
      have HXg:=Ab (Aa HGd _ hxm)
      clear hbk HF hxm d4 d5 d6 d7 d8
      have k97:((x.kind.toNat:Int)==97)=(x.kind==97):=B2 _ 97
      have hr0:(0:Int)<=(k:Int):=by omega
      have hr1:(k:Int)<(bl.length:Int):=by omega
      cases h97:(x.kind==97)with
      |false=>
        rw[h97]at k97 HSt
        have k97b:((x.kind.toNat:Int) !=97)=true:=by simp[bne,k97]
        have HLb2:Hid (L.length<=6912^(k+1)):=by
          have h:=Aa HLb
          show _<=_
          rw[Nat.pow_succ]
          omega
        have HSt2:Hid (((bl.take (k+1)).map Prod.fst).foldl (Cq (fs.map CF.f)) [BX]=L):=Aa HSt
        clear HSt
        go_wp2
        go_roundg (bl.length-(k+1))
        case measure=>have:=Aa HG;omega
        case rel=>exact⟨k+1,L,lad,lcp,rfl,by go_num,by omega,rfl,HSt2,HLb2,HE,HK⟩
      |true=>
        rw[h97]at k97 HSt HXg
        have k97b:((x.kind.toNat:Int) !=97)=false:=by simp[bne,k97]
        have hLb:L.length<=47775744:=by
          have h:=Aa HLb
          have h2:6912^k<=6912^2:=Nat.pow_le_pow_right (by omega) (by omega)
          omega
        have HXg2:=Ab (Aa HXg rfl)
        clear HXg
        go_wp2_with fail
        go_loopg [7,8] L.length (λgk nx i wr=>∃(m:Nat) (NX:List (List cR)) (nad:Option Addr) (ncp:Nat),nx=.slice nad NX.length ncp/\i=.int .i64 m/\m<=L.length/\gk=L.length-m/\Hid ((L.take m).flatMap (λe=>(fs.map CF.f).filterMap (Kv e x.A))=NX)/\Hid (Ca wr N (.slice nad NX.length ncp) NX)/\Hid (Ca wr N (.slice lad L.length lcp) L)/\Hid (BP (.slice nad NX.length ncp) (.slice lad L.length lcp))/\Hid (Ac [] w wr))
        case atStart=>exact⟨0,[],none,0,rfl,rfl,by omega,rfl,rfl,Ca.nil _ _,HE,(λq hq=>by cases hq),HK⟩
        case round=>
          clear HE HK d0 d1 d2 d3
          obtain⟨m,NX,nad,ncp,rfl,rfl,hm,hgm,HNX,HNE,HE,HAp,HK⟩:=hrel
          have HGm:=Ab hgm
          clear hgm
          have HNl:Hid (NX.length<=m*fs.length):=by
            show _<=_
            rw[<-Aa HNX]
            have h:=PV (fs.map CF.f) x.A (L.take m)
            rw[bX,cM,eF hm]at h
            exact h
          by_cases hml:m<L.length
          · obtain⟨gl,cpl,hel,hcl,r0⟩:=Lo (Aa HE) m hml
            simp only[bK]at hel
            obtain⟨rfl,_,rfl⟩:=hel
            obtain⟨e,he⟩:∃e,L[m]=e:=⟨_,rfl⟩
            have he26:e.length=26:=by rw[<-he];exact(Aa HE).each _ (bL hml)
            have HTk:Hid ((L.take (m+1)).flatMap (λe=>(fs.map CF.f).filterMap (Kv e x.A))=NX++(fs.map CF.f).filterMap (Kv e x.A)):=by
              show _=_
              rw[bM hml,cw,Aa HNX,he]
              simp
            rw[he]at r0
            have hmr0:(0:Int)<=(m:Int):=by omega
            have hmr1:(m:Int)<(L.length:Int):=by omega
            have hNb:NX.length+fs.length<=330225942528:=by
              have h:=Aa HNl
              have h2:(m+1)*fs.length<=47775744*6912:=Nat.mul_le_mul (by omega) hfs
              rw[dS,Nat.one_mul]at h2
              omega
            clear HNl r0
            have HAt:Hid (∀wz,Ca wz N (.slice (some ⟨gl,0,none⟩) L.length lcp) L->wz.rangeAt gl (m*26) (Ai e)):=by
              intro wz hz
              obtain⟨g',cp',he',_,r'⟩:=Lo hz m hml
              simp only[bK,bR,cI]at he'
              obtain⟨⟨rfl,_,_⟩,_,_⟩:=he'
              rw[he]at r'
              exact r'
            clear he
            go_wp2_with fail
            go_loopg [7,9] fs.length (λgk nx i wr=>∃(q:Nat) (NY:List (List cR)) (nad:Option Addr) (ncp:Nat),nx=.slice nad NY.length ncp/\i=.int .i64 q/\q<=fs.length/\gk=fs.length-q/\NY.length<=NX.length+q/\Hid (NX++((fs.take q).map CF.f).filterMap (Kv e x.A)=NY)/\Hid (Ca wr N (.slice nad NY.length ncp) NY)/\Hid (Ca wr N (.slice (some ⟨gl,0,none⟩) L.length lcp) L)/\Hid (BP (.slice nad NY.length ncp) (.slice (some ⟨gl,0,none⟩) L.length lcp))/\Hid (Ac [] w wr))
            case atStart=>exact⟨0,NX,nad,ncp,rfl,rfl,by omega,rfl,by omega,(by show _=_;simp),HNE,HE,HAp,HK⟩
            case round=>
              clear HNE HE HAp HK HNX
              obtain⟨q,NY,nad2,ncp2,rfl,rfl,hq,hgq,hNYb,HNY,HNE,HE,HAp,HK⟩:=hrel
              have HGq:=Ab hgq
              clear hgq
              by_cases hql:q<fs.length
              · obtain⟨gs,cps,fn,xs,pad,pcp,hes,hfk,s0,s1⟩:=Ey ((Aa HS).kept (Aa HK)) q hql
                simp only[bK]at hes
                obtain⟨rfl,_,rfl⟩:=hes
                have hqr0:(0:Int)<=(q:Int):=by omega
                have hqr1:(q:Int)<(fs.length:Int):=by omega
                have hfm:=(Aa HS).each _ (bL hql)
                rw[hfk]at hfm
                have HMt:Hid (∀wz,Ac [] wr wz->Calls prog 87 #[.agg (Ai e).toArray,.agg #[.string x.A.name,.slice xad x.A.args.length xcp,.int .i64 x.A.at_],.agg #[.string fn,.slice pad xs.length pcp]] wz λr w'=>r=.returned (.tuple #[.agg (Ai (DF e x.A ⟨fn,xs⟩).1).toArray,.bool (DF e x.A ⟨fn,xs⟩).2])/\Ac [] wz w'):=λwz hkz=>
                  UV e x.A xad xcp ⟨⟨fn,xs⟩,.slice pad xs.length pcp⟩ wz he26 ((Aa HXl).kept ((Aa HK).trans hkz) (by simp)) (hfm.1.kept ((Aa HK).trans hkz)) (Aa HXg2).2 (by have:=hfm.2.len;simp at this⊢;omega) (Aa HXg2).1
                have HTq:Hid (NX++((fs.take (q+1)).map CF.f).filterMap (Kv e x.A)=if(DF e x.A ⟨fn,xs⟩).2 then NY++[(DF e x.A ⟨fn,xs⟩).1] else NY):=by
                  show _=_
                  rw[bM hql,cW,List.filterMap_append,<-dd,Aa HNY,hfk]
                  simp only[cu,eW,List.filterMap_cons,List.filterMap_nil,Kv]
                  cases(DF e x.A ⟨fn,xs⟩).2<;>simp
                have HM26:Hid ((DF e x.A ⟨fn,xs⟩).1.length=26):=by show _=_;rw[Lf,he26]
                have HCs:Hid (∀wz,Ac [] wr wz->wz.rangeAt gl (m*26) (Ai e)/\wz.cell? ⟨gb,k*9+1,none⟩=some (.string x.A.name)/\wz.cell? ⟨gb,k*9+2,none⟩=some (.slice xad x.A.args.length xcp)/\wz.cell? ⟨gb,k*9+3,none⟩=some (.int .i64 x.A.at_)/\wz.cell? ⟨gs,q*2,none⟩=some (.string fn)/\wz.cell? ⟨gs,q*2+1,none⟩=some (.slice pad xs.length pcp)):=by
                  intro wz hkz
                  have hkw:=(Aa HK).trans hkz
                  obtain⟨gb',cpb',x',xad',xcp',hev',hbk',d0',d1',d2',d3',_⟩:=RU (Ad (Aa HB) hkw (by simp)) (λp hp=>(Aa HLi p hp).kept hkw (by simp)) k gK
                  simp only[bK,bR,cI]at hev'
                  obtain⟨⟨rfl,_,_⟩,_,_⟩:=hev'
                  rw[Aa HBk]at hbk'
                  simp only[cP,bK]at hbk'
                  obtain⟨rfl,rfl,_,rfl⟩:=hbk'
                  obtain⟨g',cap',n',pa',ad',cp',he',hfk',f0,f1⟩:=Ey ((Aa HS).kept hkw) q hql
                  have e2:=hfk'.symm.trans hfk
                  simp only[bK,bR,cI,CF.mk.injEq,Ah.mk.injEq]at he' e2
                  obtain⟨⟨rfl,_,_⟩,_,_⟩:=he'
                  obtain⟨⟨rfl,rfl⟩,rfl,_,rfl⟩:=e2
                  exact⟨Aa HAt wz ((Aa HE).kept hkz (by simp)),d1',d2',d3',f0,f1⟩
                clear hfk hfm
                obtain⟨RV,hRV⟩:∃RV,Ai (DF e x.A ⟨fn,xs⟩).1=RV:=⟨_,rfl⟩
                obtain⟨RB,hRB⟩:∃RB,(DF e x.A ⟨fn,xs⟩).2=RB:=⟨_,rfl⟩
                obtain⟨RE,hRE⟩:∃RE,(DF e x.A ⟨fn,xs⟩).1=RE:=⟨_,rfl⟩
                rw[hRB,hRE]at HTq
                rw[hRV,hRB]at HMt
                rw[hRE]at HM26 hRV
                have HRV:=Ab hRV
                have hRl:RV.length=26:=by rw[<-hRV,CV];exact Aa HM26
                have hRo:∀v∈RV,v.oneCell'=true:=by rw[<-hRV];exact Is RE
                clear hRV hRB hRE
                obtain⟨EK,hEK⟩:∃EK,Ai e=EK:=⟨_,rfl⟩
                rw[hEK]at HMt HCs
                have hEl:EK.length=26:=by rw[<-hEK,CV,he26]
                clear hEK
                have hu:=underlying90
                have hi:(prog.info? 90).map (·.size)=some EK.length:=by rw[hEl];exact Tryz.em
                have hi2:(prog.info? 90).map (·.size)=some RV.length:=by rw[hRl];exact Tryz.em
                have hr9:(k:Int)<(bl.length:Int):=by omega
                obtain⟨nm,hnm⟩:∃nm,x.A.name=nm:=⟨_,rfl⟩
                obtain⟨ja,hja⟩:∃ja,x.A.at_=ja:=⟨_,rfl⟩
                obtain⟨na,hna⟩:∃na,x.A.args.length=na:=⟨_,rfl⟩
                rw[hnm,hja,hna]at HMt HCs
                clear hnm hja hna
                go_wp2_with fail
                go_region_held3 (λwz=>Ac [] wr wz/\wz.rangeAt gl (m*26) EK/\wz.cell? ⟨gb,k*9+1,none⟩=some (.string nm)/\wz.cell? ⟨gb,k*9+2,none⟩=some (.slice xad na xcp)/\wz.cell? ⟨gb,k*9+3,none⟩=some (.int .i64 ja)/\wz.cell? ⟨gs,q*2,none⟩=some (.string fn)/\wz.cell? ⟨gs,q*2+1,none⟩=some (.slice pad xs.length pcp)) ((go_split_ands;refine(fun(hkz:Ac [] wr _)=>And.intro hkz (Aa HCs _ hkz)) ?_;repeat (first|assumption|exact Ac.refl [] _|refine Ac.drew ?_|refine Ac.alloc ?_ _|(refine Ac.ek ?_ (Or.inr (by first|omega|(simp;omega))) _ _)))) ((go_at_call 87;refine(Aa HMt _ (by go_split_ands;assumption)).mono ?_;rintro e w3 ⟨rfl,k3⟩;have hk3:Ac [] wr w3:=(by go_split_ands;exact Ac.trans (by assumption) k3);have hth3:=SF w3 hRl;(try have hth4:=Q9 k3 hRl);have hs3:=hk3.size;have HK3:=Ab k3;clear k3))
                all_goals
                  rename_i hHeldX
                  have HKW:=Ab hHeldX.1
                  clear hHeldX HMt HCs
                  first
                    | (have HBW:Hid (AE (w3.setCells wr.heap.size 0 RV) wr.heap.size RV 90):=AE.gH ((AE.new wr (List.replicate 26 (.string ⟨#[]⟩)) 90).drew.kept (Aa HK3) (by simp)) RV (by rw[hRl];rfl)
                       obtain⟨B,hB⟩:∃B,wr.heap.size=B:=⟨_,rfl⟩
                       rw[hB]at HBW HKW⊢
                       have hBw:wr.heap.size<=B:=by omega
                       clear hth3 hth4 hs3 HK3 hB
                       generalize w3.setCells B 0 RV=W at HBW HKW⊢)
                    | (have HBW:Hid (AE ((w3.alloc (.cells #[.string ⟨#[]⟩,.string ⟨#[]⟩,.string ⟨#[]⟩,.string ⟨#[]⟩,.string ⟨#[]⟩,.string ⟨#[]⟩,.string ⟨#[]⟩,.string ⟨#[]⟩,.string ⟨#[]⟩,.string ⟨#[]⟩,.string ⟨#[]⟩,.string ⟨#[]⟩,.string ⟨#[]⟩,.string ⟨#[]⟩,.string ⟨#[]⟩,.string ⟨#[]⟩,.string ⟨#[]⟩,.string ⟨#[]⟩,.string ⟨#[]⟩,.string ⟨#[]⟩,.string ⟨#[]⟩,.string ⟨#[]⟩,.string ⟨#[]⟩,.string ⟨#[]⟩,.string ⟨#[]⟩,.string ⟨#[]⟩] 90)).setCells w3.heap.size 0 RV) w3.heap.size RV 90):=AE.gH (AE.new w3 (List.replicate 26 (.string ⟨#[]⟩)) 90) RV (by rw[hRl];rfl)
                       obtain⟨B,hB⟩:∃B,w3.heap.size=B:=⟨_,rfl⟩
                       rw[hB]at HBW HKW hs3⊢
                       have hBw:wr.heap.size<=B:=by omega
                       clear hth3 hs3 HK3 hB
                       generalize(w3.alloc (.cells #[.string ⟨#[]⟩,.string ⟨#[]⟩,.string ⟨#[]⟩,.string ⟨#[]⟩,.string ⟨#[]⟩,.string ⟨#[]⟩,.string ⟨#[]⟩,.string ⟨#[]⟩,.string ⟨#[]⟩,.string ⟨#[]⟩,.string ⟨#[]⟩,.string ⟨#[]⟩,.string ⟨#[]⟩,.string ⟨#[]⟩,.string ⟨#[]⟩,.string ⟨#[]⟩,.string ⟨#[]⟩,.string ⟨#[]⟩,.string ⟨#[]⟩,.string ⟨#[]⟩,.string ⟨#[]⟩,.string ⟨#[]⟩,.string ⟨#[]⟩,.string ⟨#[]⟩,.string ⟨#[]⟩,.string ⟨#[]⟩] 90)).setCells B 0 RV=W at HBW HKW⊢)
                  clear hk3
                  have hWs:=(Aa HKW).size
                  cases RB with
                  |false=>
                    have HTq2:Hid (NX++((fs.take (q+1)).map CF.f).filterMap (Kv e x.A)=NY):=Aa HTq
                    have HNE2:=Ab ((Aa HNE).kept (Aa HKW) (by simp))
                    have HE2:=Ab ((Aa HE).kept (Aa HKW) (by simp))
                    have HK2:=Ab ((Aa HK).trans (Aa HKW))
                    clear HTq HNE HE HK HBW HKW
                    go_wp2
                    go_roundg (fs.length-(q+1))
                    case measure=>have:=Aa HGq;omega
                    case rel=>exact⟨q+1,NY,nad2,ncp2,rfl,by go_num,by omega,rfl,by omega,HTq2,HNE2,HE2,HAp,HK2⟩
                  |true=>
                    have HTq2:Hid (NX++((fs.take (q+1)).map CF.f).filterMap (Kv e x.A)=NY++[RE]):=Aa HTq
                    have hNE2:=((Aa HNE).kept (Aa HKW) (by simp)).row
                    have hl0:0<RV.length:=by omega
                    have hNW:N<=wr.heap.size:=by have:=(Aa HK).size;have:=Aa HN;omega
                    have hcR:(Value.agg RV.toArray).cells=RV.toArray:=by rw[<-Aa HRV];exact Bo RE
                    have HZ:Hid ((prog.info? 90).map (λi=>(i.zero,i.size))=some (some (.agg (List.replicate 26 (.string ⟨#[]⟩)).toArray),RV.length)):=by rw[hRl];exact Tryz.zK
                    clear HTq
                    go_wp2_with (first|((with_reducible show wpList _ _ _ ({dst:=_,op:=Op.load 90 _,type:=_,pos:=_,after:=_,guard:=_}::_) _ _);refine dU rfl 90 _ rfl B 0 (by rfl) RV _ (Aa HBW).range underlying90 rfl hi2 ?_)|((with_reducible show wpList _ _ _ ({dst:=_,op:=Op.buildSlice 87 1 _,type:=_,pos:=_,after:=_,guard:=_}::_) _ _);refine E6 rfl 87 _ rfl RV (by rfl) 90 _ underlying87 hcR (Aa HZ) (by rw[hRl];rfl) hl0 (by omega) ?_)|(at_builtin;change Hid (wpList _ _ _ _ _ _)))
                    show wpList _ _ _ _ _ _
                    refine cd _ rfl (.tmp 61) (.tmp 63) _ rfl N 90 i0 _ 26 416 underlying87 hi0 hz0 hz1 hz2 rfl (by omega) (.slice nad2 NY.length ncp2) NY.length (NY.flatMap Ai) rfl (bQ hNE2 _) ⟨W.heap.size,0,none⟩ 1 1 RV rfl (by omega) (cj (cs:=RV.toArray) (t:=90) (fr:=(0,0)) (cA W _)) hRo (by omega) (by unfold maxLen;omega) (by omega) (by simp;omega) (W.heap.size+1) (by simp) ?_
                    intro g1 cp1 w9 ho1 hg1 ha1 hl1
                    have HNE3:Hid (Ca w9 N (.slice (some ⟨g1,0,none⟩) (NY++[RE]).length cp1) (NY++[RE])):=by
                      refine⟨?_,λe' he'=>?_⟩
                      · rw[cc,cw]
                        simp only[cg,cZ,cK,Aa HRV,bU,cE,cV]
                        exact ho1
                      · rcases bY.1 he' with h|h
                        · exact(Aa HNE).each e' h
                        · simp only[bO]at h
                          rw[h]
                          exact Aa HM26
                    have HE3:Hid (Ca w9 N (.slice (some ⟨gl,0,none⟩) L.length lcp) L):=
                      ⟨dB (v:=.slice (some ⟨gl,0,none⟩) L.length lcp) (((Aa HE).kept (Aa HKW) (by simp)).row.alloc _) hg1 (Or.inr (λh=>Aa HAp gl h.symm rfl)),(Aa HE).each⟩
                    have HAp3:Hid (BP (.slice (some ⟨g1,0,none⟩) (NY++[RE]).length cp1) (.slice (some ⟨gl,0,none⟩) L.length lcp)):=by
                      intro z hz hz2
                      simp only[Value.ownBlock,bR]at hz hz2
                      rcases ha1 with h|h
                      · exact Aa HAp g1 h (by simp only[Value.ownBlock,bR];omega)
                      · have:=((Aa HE).row.lt gl rfl).2
                        omega
                    have HK3:Hid (Ac [] w w9):=((((Aa HK).trans (Aa HKW)).alloc _).grown hg1 (λz hz=>Or.inr (by have:=(hNE2.lt z hz).1;have:=Aa HN;omega)))
                    clear ho1 hg1 ha1 hl1 hNE2 HNE HE HAp HK HKW HBW
                    go_wp2_with fail
                    go_roundg (fs.length-(q+1))
                    case measure=>have:=Aa HGq;omega
                    case rel=>exact⟨q+1,NY++[RE],some ⟨g1,0,none⟩,cp1,by simp,by go_num,by omega,rfl,by simp;omega,HTq2,HNE3,HE3,HAp3,HK3⟩
              · have HTk2:Hid ((L.take (m+1)).flatMap (λe=>(fs.map CF.f).filterMap (Kv e x.A))=NY):=by
                  show _=_
                  rw[Aa HTk,<-Aa HNY,bP (by omega)]
                clear HNY HTk
                go_wp2
                go_roundg (L.length-(m+1))
                case measure=>have:=Aa HGm;omega
                case rel=>exact⟨m+1,NY,nad2,ncp2,rfl,by go_num,by omega,rfl,HTk2,HNE,HE,HAp,HK⟩
          · have HSt2:Hid (((bl.take (k+1)).map Prod.fst).foldl (Cq (fs.map CF.f)) [BX]=NX):=by
              show _=_
              rw[Aa HSt,if_pos True.intro,<-Aa HNX,bP (by omega)]
            have HLb2:Hid (NX.length<=6912^(k+1)):=by
              show _<=_
              have h:=Aa HNl
              have h2:m*fs.length<=6912^k*6912:=Nat.mul_le_mul (by have:=Aa HLb;omega) hfs
              rw[Nat.pow_succ]
              omega
            clear HNX HSt HNl HE HAp
            go_wp2
            go_roundg (bl.length-(k+1))
            case measure=>have:=Aa HG;omega
            case rel=>exact⟨k+1,NX,nad,ncp,rfl,by go_num,by omega,rfl,HSt2,HLb2,HNE,HK⟩
    · have HFu:Hid ((bl.map Prod.fst).foldl (Cq (fs.map CF.f)) [BX]=L):=by
        have h:=Aa HF
        rw[bP (by omega)]at h
        exact h
      have hLb:L.length<=330225942528:=by
        have h:=Aa HLb
        have h2:6912^k<=6912^3:=Nat.pow_le_pow_right (by omega) (by omega)
        omega
      have HRs:Hid (L.filter (λe=>(bl.map Prod.fst).all λx=>x.kind==97||CS (AA e) (AR e) (fs.map CF.f) x)=RES):=by
        have h:=Aa HRES
        rw[Aa HFu]at h
        exact h
      have HFt:Hid (∀e∈L,∀p∈bl,(p.1.kind==97)=false->PB e p.1):=by
        have h:=Aa HFit
        rw[Aa HFu]at h
        exact h
      clear HRES HFit HF HFu HGd HLb HG
      go_wp2_with fail
      go_loopg [12,13] L.length (λgk o i wr=>∃(m:Nat) (OUT:List (List cR)) (oad:Option Addr) (ocp:Nat),o=.slice oad OUT.length ocp/\i=.int .i64 m/\m<=L.length/\gk=L.length-m/\OUT.length<=m/\Hid ((L.take m).filter (λe=>(bl.map Prod.fst).all λx=>x.kind==97||CS (AA e) (AR e) (fs.map CF.f) x)=OUT)/\Hid (Ca wr N (.slice oad OUT.length ocp) OUT)/\Hid (Ca wr N (.slice lad L.length lcp) L)/\Hid (BP (.slice oad OUT.length ocp) (.slice lad L.length lcp))/\Hid (Ac [] w wr))
      case atStart=>exact⟨0,[],none,0,rfl,rfl,by omega,rfl,by simp,rfl,Ca.nil _ _,HE,(λq hq=>by cases hq),HK⟩
      case round=>
        clear HE HK
        obtain⟨m,OUT,oad,ocp,rfl,rfl,hm,hgm,hOb,HOUT,HOE,HE,HAp,HK⟩:=hrel
        have HGm:=Ab hgm
        clear hgm
        by_cases hml:m<L.length
        · obtain⟨gl,cpl,hel,hcl,r0⟩:=Lo (Aa HE) m hml
          simp only[bK]at hel
          obtain⟨rfl,_,rfl⟩:=hel
          obtain⟨e,he⟩:∃e,L[m]=e:=⟨_,rfl⟩
          have he26:e.length=26:=by rw[<-he];exact(Aa HE).each _ (bL hml)
          have HFe:=Ab (Aa HFt e (by rw[<-he];exact bL hml))
          have HTk:Hid ((L.take (m+1)).filter (λe=>(bl.map Prod.fst).all λx=>x.kind==97||CS (AA e) (AR e) (fs.map CF.f) x)=OUT++if((bl.take bl.length).map Prod.fst).all (λx=>x.kind==97||CS (AA e) (AR e) (fs.map CF.f) x)then[e] else[]):=by
            show _=_
            rw[bM hml,dZ,Aa HOUT,he,eN,dv,List.filter_nil]
          have hmr0:(0:Int)<=(m:Int):=by omega
          have hmr1:(m:Int)<(L.length:Int):=by omega
          clear r0
          have HAt:Hid (∀wz,Ca wz N (.slice (some ⟨gl,0,none⟩) L.length lcp) L->wz.rangeAt gl (m*26) (Ai e)):=by
            intro wz hz
            obtain⟨g',cp',he',_,r'⟩:=Lo hz m hml
            simp only[bK,bR,cI]at he'
            obtain⟨⟨rfl,_,_⟩,_,_⟩:=he'
            rw[he]at r'
            exact r'
          clear he
          go_wp2_with fail
          go_loopg [14,15] bl.length (λgk a i wr=>∃(q:Nat) (ab:Bool),a=.bool ab/\i=.int .i64 q/\q<=bl.length/\gk=bl.length-q/\Hid (((bl.take q).map Prod.fst).all (λx=>x.kind==97||CS (AA e) (AR e) (fs.map CF.f) x)=ab)/\Hid (Ca wr N (.slice oad OUT.length ocp) OUT)/\Hid (Ca wr N (.slice (some ⟨gl,0,none⟩) L.length lcp) L)/\Hid (Ac [] w wr))
          case atStart=>exact⟨0,true,rfl,rfl,by omega,rfl,rfl,HOE,HE,HK⟩
          case round=>
            clear HOE HE HK
            obtain⟨q,ab,rfl,rfl,hq,hgq,HAb,HOE,HE,HK⟩:=hrel
            have HGq:=Ab hgq
            clear hgq
            by_cases hql:q<bl.length
            · obtain⟨gb,cpb,x,xad,xcp,hev,hbk,d0,d1,d2,d3,d4,d5,d6,d7,d8⟩:=RU (Ad (Aa HB) (Aa HK) (by simp)) (λp hp=>(Aa HLi p hp).kept (Aa HK) (by simp)) q hql
              simp only[bK]at hev
              obtain⟨rfl,_,rfl⟩:=hev
              have hxm:(x,Value.slice xad x.A.args.length xcp)∈bl:=by rw[<-hbk];exact bL hql
              have HTq:Hid (((bl.take (q+1)).map Prod.fst).all (λx=>x.kind==97||CS (AA e) (AR e) (fs.map CF.f) x)=(ab&&(x.kind==97||CS (AA e) (AR e) (fs.map CF.f) x))):=by
                show _=_
                rw[bM hql,cW,List.all_append,Aa HAb,hbk]
                simp
              have hqr0:(0:Int)<=(q:Int):=by omega
              have hqr1:(q:Int)<(bl.length:Int):=by omega
              have k97:((x.kind.toNat:Int)==97)=(x.kind==97):=B2 _ 97
              cases h97:(x.kind==97)with
              |true=>
                rw[h97]at k97 HTq
                have HTq2:Hid (((bl.take (q+1)).map Prod.fst).all (λx=>x.kind==97||CS (AA e) (AR e) (fs.map CF.f) x)=ab):=by
                  have h:=Aa HTq
                  rw[eX,Bool.and_true]at h
                  exact h
                have HD:Hid (∀n,Ca (wr.drewN n) N (.slice oad OUT.length ocp) OUT/\Ca (wr.drewN n) N (.slice (some ⟨gl,0,none⟩) L.length lcp) L/\Ac [] w (wr.drewN n)):=λn=>⟨(Aa HOE).kept ((Ac.refl [] wr).drewN n) (by simp),(Aa HE).kept ((Ac.refl [] wr).drewN n) (by simp),(Aa HK).drewN n⟩
                clear HTq hbk hxm HOE HE HK HAb
                go_wp2_with fail
                go_quiet (fail)
                cases ab
                all_goals
                  go_wp2
                  go_roundg (bl.length-(q+1))
                  case measure=>have:=Aa HGq;omega
                  case rel=>exact⟨q+1,_,rfl,by go_num,by omega,rfl,HTq2,(Aa HD _).1,(Aa HD _).2.1,(Aa HD _).2.2⟩
              |false=>
                rw[h97]at k97 HTq
                have HHl:Hid (∀wz,Ac [] wr wz->Calls prog 88 #[.agg (Ai e).toArray,.agg #[.int .u8 x.kind.toNat,.string x.A.name,.slice xad x.A.args.length xcp,.int .i64 x.A.at_,.int .u8 x.L.v.toNat,.string x.L.s,.int .u8 x.R.v.toNat,.string x.R.s,.int .i64 x.at_],.slice sad fs.length scp] wz λr w'=>r=.returned (.bool (CS (AA e) (AR e) (fs.map CF.f) x))/\Ac [] wz w'):=λwz hkz=>
                  Uy e x xad xcp sad scp fs wz he26 ((Aa HLi _ hxm).kept ((Aa HK).trans hkz) (by simp)) ((Aa HS).kept ((Aa HK).trans hkz)) (by omega) (Aa HFe _ hxm h97)
                have HCs:Hid (∀wz,Ac [] wr wz->wz.rangeAt gl (m*26) (Ai e)/\wz.cell? ⟨gb,q*9,none⟩=some (.int .u8 x.kind.toNat)/\wz.cell? ⟨gb,q*9+1,none⟩=some (.string x.A.name)/\wz.cell? ⟨gb,q*9+2,none⟩=some (.slice xad x.A.args.length xcp)/\wz.cell? ⟨gb,q*9+3,none⟩=some (.int .i64 x.A.at_)/\wz.cell? ⟨gb,q*9+4,none⟩=some (.int .u8 x.L.v.toNat)/\wz.cell? ⟨gb,q*9+5,none⟩=some (.string x.L.s)/\wz.cell? ⟨gb,q*9+6,none⟩=some (.int .u8 x.R.v.toNat)/\wz.cell? ⟨gb,q*9+7,none⟩=some (.string x.R.s)/\wz.cell? ⟨gb,q*9+8,none⟩=some (.int .i64 x.at_)):=by
                  intro wz hkz
                  have hkw:=(Aa HK).trans hkz
                  obtain⟨gb',cpb',x',xad',xcp',hev',hbk',d0',d1',d2',d3',d4',d5',d6',d7',d8'⟩:=RU (Ad (Aa HB) hkw (by simp)) (λp hp=>(Aa HLi p hp).kept hkw (by simp)) q hql
                  simp only[bK,bR,cI]at hev'
                  obtain⟨⟨rfl,_,_⟩,_,_⟩:=hev'
                  rw[hbk]at hbk'
                  simp only[cP,bK]at hbk'
                  obtain⟨rfl,rfl,_,rfl⟩:=hbk'
                  exact⟨Aa HAt wz ((Aa HE).kept hkz (by simp)),d0',d1',d2',d3',d4',d5',d6',d7',d8'⟩
                obtain⟨LB,hLB⟩:∃LB,CS (AA e) (AR e) (fs.map CF.f) x=LB:=⟨_,rfl⟩
                rw[hLB,ex]at HTq
                rw[hLB]at HHl
                clear hLB hbk hxm
                obtain⟨EK,hEK⟩:∃EK,Ai e=EK:=⟨_,rfl⟩
                rw[hEK]at HHl HCs
                have hEl:EK.length=26:=by rw[<-hEK,CV,he26]
                clear hEK
                have hu:=underlying90
                have hi:(prog.info? 90).map (·.size)=some EK.length:=by rw[hEl];exact Tryz.em
                obtain⟨kd,hkd⟩:∃kd,x.kind.toNat=kd:=⟨_,rfl⟩
                obtain⟨nm,hnm⟩:∃nm,x.A.name=nm:=⟨_,rfl⟩
                obtain⟨ja,hja⟩:∃ja,x.A.at_=ja:=⟨_,rfl⟩
                obtain⟨na,hna⟩:∃na,x.A.args.length=na:=⟨_,rfl⟩
                obtain⟨lv,hlv⟩:∃lv,x.L.v.toNat=lv:=⟨_,rfl⟩
                obtain⟨ls,hls⟩:∃ls,x.L.s=ls:=⟨_,rfl⟩
                obtain⟨rv,hrv⟩:∃rv,x.R.v.toNat=rv:=⟨_,rfl⟩
                obtain⟨rs,hrs⟩:∃rs,x.R.s=rs:=⟨_,rfl⟩
                obtain⟨at_,hat⟩:∃at_,x.at_=at_:=⟨_,rfl⟩
                rw[hkd,hnm,hja,hna,hlv,hls,hrv,hrs,hat]at HHl HCs
                rw[hkd]at k97
                clear h97 hkd hnm hja hna hlv hls hrv hrs hat d0 d1 d2 d3 d4 d5 d6 d7 d8
                go_wp2_with fail
                go_region_held3 (λwz=>Ac [] wr wz/\wz.rangeAt gl (m*26) EK/\wz.cell? ⟨gb,q*9,none⟩=some (.int .u8 kd)/\wz.cell? ⟨gb,q*9+1,none⟩=some (.string nm)/\wz.cell? ⟨gb,q*9+2,none⟩=some (.slice xad na xcp)/\wz.cell? ⟨gb,q*9+3,none⟩=some (.int .i64 ja)/\wz.cell? ⟨gb,q*9+4,none⟩=some (.int .u8 lv)/\wz.cell? ⟨gb,q*9+5,none⟩=some (.string ls)/\wz.cell? ⟨gb,q*9+6,none⟩=some (.int .u8 rv)/\wz.cell? ⟨gb,q*9+7,none⟩=some (.string rs)/\wz.cell? ⟨gb,q*9+8,none⟩=some (.int .i64 at_)) ((go_split_ands;refine(fun(hkz:Ac [] wr _)=>And.intro hkz (Aa HCs _ hkz)) ?_;repeat (first|assumption|exact Ac.refl [] _|refine Ac.drew ?_|refine Ac.alloc ?_ _))) ((go_at_call 88;refine(Aa HHl _ (by go_split_ands;assumption)).mono ?_;rintro e w3 ⟨rfl,k3⟩;have hk3:Ac [] wr w3:=(by go_split_ands;exact Ac.trans (by assumption) k3);clear k3))
                rename_i hHeldX
                clear hHeldX HHl HCs
                have HOE2:=Ab ((Aa HOE).kept hk3 (by simp))
                have HE2:=Ab ((Aa HE).kept hk3 (by simp))
                have HK2:=Ab ((Aa HK).trans hk3)
                clear HOE HE HK hk3 HAb
                cases ab
                all_goals
                  have HTq2:=Ab (Aa HTq)
                  clear HTq
                  go_wp2
                  go_roundg (bl.length-(q+1))
                  case measure=>have:=Aa HGq;omega
                  case rel=>exact⟨q+1,_,rfl,by go_num,by omega,rfl,HTq2,HOE2,HE2,HK2⟩
            · have HTk2:Hid ((L.take (m+1)).filter (λe=>(bl.map Prod.fst).all λx=>x.kind==97||CS (AA e) (AR e) (fs.map CF.f) x)=OUT++if ab then[e] else[]):=by
                have h:=Aa HTk
                have h2:=Aa HAb
                rw[show q=bl.length by omega]at h2
                rw[h2]at h
                exact h
              clear HTk HAb HGq
              cases ab with
              |false=>
                have HTk3:Hid ((L.take (m+1)).filter (λe=>(bl.map Prod.fst).all λx=>x.kind==97||CS (AA e) (AR e) (fs.map CF.f) x)=OUT):=by
                  have h:=Aa HTk2
                  rw[if_neg (by simp),cK]at h
                  exact h
                clear HTk2
                go_wp2
                go_roundg (L.length-(m+1))
                case measure=>have:=Aa HGm;omega
                case rel=>exact⟨m+1,OUT,oad,ocp,rfl,by go_num,by omega,rfl,by omega,HTk3,HOE,HE,HAp,HK⟩
              |true=>
                have HTk3:Hid ((L.take (m+1)).filter (λe=>(bl.map Prod.fst).all λx=>x.kind==97||CS (AA e) (AR e) (fs.map CF.f) x)=OUT++[e]):=Aa HTk2
                obtain⟨EK,hEK⟩:∃EK,Ai e=EK:=⟨_,rfl⟩
                have hEl:EK.length=26:=by rw[<-hEK,CV,he26]
                have hRo:∀v∈EK,v.oneCell'=true:=by rw[<-hEK];exact Is e
                have hcR:(Value.agg EK.toArray).cells=EK.toArray:=by rw[<-hEK];exact Bo e
                have HRg:Hid (wr.rangeAt gl (m*26) EK):=by rw[<-hEK];exact Aa HAt wr (Aa HE)
                have HRV:=Ab hEK
                have hi:(prog.info? 90).map (·.size)=some EK.length:=by rw[hEl];exact Tryz.em
                have hl0:0<EK.length:=by omega
                have HZ:Hid ((prog.info? 90).map (λi=>(i.zero,i.size))=some (some (.agg (List.replicate 26 (.string ⟨#[]⟩)).toArray),EK.length)):=by rw[hEl];exact Tryz.zK
                have hNW:N<=wr.heap.size:=by have:=(Aa HK).size;have:=Aa HN;omega
                have hOE2:=(Aa HOE).row
                clear HTk2 hEK
                go_wp2_with (first|((with_reducible show wpList _ _ _ ({dst:=_,op:=Op.load 90 _,type:=_,pos:=_,after:=_,guard:=_}::_) _ _);refine dU rfl 90 _ rfl gl (m*26) (by rfl) EK _ (Aa HRg) underlying90 rfl hi ?_)|((with_reducible show wpList _ _ _ ({dst:=_,op:=Op.buildSlice 87 1 _,type:=_,pos:=_,after:=_,guard:=_}::_) _ _);refine E6 rfl 87 _ rfl EK (by rfl) 90 _ underlying87 hcR (Aa HZ) (by rw[hEl];rfl) hl0 (by omega) ?_)|(at_builtin;change Hid (wpList _ _ _ _ _ _)))
                show wpList _ _ _ _ _ _
                refine cd _ rfl (.tmp 101) (.tmp 106) _ rfl N 90 i0 _ 26 416 underlying87 hi0 hz0 hz1 hz2 rfl (by omega) (.slice oad OUT.length ocp) OUT.length (OUT.flatMap Ai) rfl (bQ hOE2 _) ⟨wr.heap.size,0,none⟩ 1 1 EK rfl (by omega) (cj (cs:=EK.toArray) (t:=90) (fr:=(0,0)) (cA wr _)) hRo (by omega) (by unfold maxLen;omega) (by omega) (by simp;omega) (wr.heap.size+1) (by simp) ?_
                intro g1 cp1 w9 ho1 hg1 ha1 hl1
                have HOE3:Hid (Ca w9 N (.slice (some ⟨g1,0,none⟩) (OUT++[e]).length cp1) (OUT++[e])):=by
                  refine⟨?_,λe' he'=>?_⟩
                  · rw[cc,cw]
                    simp only[cg,cZ,cK,Aa HRV,bU,cE,cV]
                    exact ho1
                  · rcases bY.1 he' with h|h
                    · exact(Aa HOE).each e' h
                    · simp only[bO]at h
                      rw[h]
                      exact he26
                have HE3:Hid (Ca w9 N (.slice (some ⟨gl,0,none⟩) L.length lcp) L):=
                  ⟨dB (v:=.slice (some ⟨gl,0,none⟩) L.length lcp) ((Aa HE).row.alloc _) hg1 (Or.inr (λh=>Aa HAp gl h.symm rfl)),(Aa HE).each⟩
                have HAp3:Hid (BP (.slice (some ⟨g1,0,none⟩) (OUT++[e]).length cp1) (.slice (some ⟨gl,0,none⟩) L.length lcp)):=by
                  intro z hz hz2
                  simp only[Value.ownBlock,bR]at hz hz2
                  rcases ha1 with h|h
                  · exact Aa HAp g1 h (by simp only[Value.ownBlock,bR];omega)
                  · have:=((Aa HE).row.lt gl rfl).2
                    omega
                have HK3:Hid (Ac [] w w9):=((Aa HK).alloc _).grown hg1 (λz hz=>Or.inr (by have:=(hOE2.lt z hz).1;have:=Aa HN;omega))
                clear ho1 hg1 ha1 hl1 hOE2 HOE HE HAp HK HRg
                go_wp2_with fail
                go_roundg (L.length-(m+1))
                case measure=>have:=Aa HGm;omega
                case rel=>exact⟨m+1,OUT++[e],some ⟨g1,0,none⟩,cp1,by simp,by go_num,by omega,rfl,by simp;omega,HTk3,HOE3,HE3,HAp3,HK3⟩
        · have HRe:Hid (OUT=RES):=by
            have h:=Aa HRs
            have h2:=Aa HOUT
            rw[bP (by omega)]at h2
            exact h2.symm.trans h
          go_wp2
          go_ret
          rw[<-Aa HRe]
          exact⟨oad,ocp,rfl,Aa HOE,Aa HK⟩
