import Derived.Test.YtoihbhenbmffcaaGreatDoorYBW
import Derived.Test.YtoihbhenbmffcaaGreatDoorYBD
set_option linter.all false
set_option maxHeartbeats 0
open List renaming length->Z
open Go.Value renaming slice->U,int->X,string->O,agg->jH,bool->jJ
open Bool renaming false->K,true->jj
open Go.IntKind renaming i64->J
open Go.Obj renaming cells->j1
open Go.Ending renaming returned->j4
open ByteArray renaming empty->jK
namespace Go.Proofs.YtoihbhenbmffcaaGreatDoor
open Go.RowKit Go.Proofs.Tryz
def Dh.fitE{cs:List A8}(h:Dh cs)(hF:St cs){s:List Af}(F:Ia cs s){c:A8}(j:c∈cs){q:List g0}(AB:Z q=26):∀e∈(Aj c).foldl (BY s) [q],∀p∈c.bl,(p.1.kind==97)=K->LX e p.1:=by
 intro e o p z g;obtain⟨AH,Q⟩:=h.order.small;have I:∀f∈s,Jp f:=λf N=>AM.zL ((F.2 f N).canon h.prog.zN)
 have M:∀t,ES (Aj c) t->t.v≠0->0<(AJ e t).size/\(AJ e t).size<=1000000:=by
  intro t a b;obtain⟨_,_,_,_,w⟩:=C8 I (Aj c) [q] (λe o=>by simp at o;rw[o];exact AB) (h.prog.zL.args c j) e o;rcases a with i|⟨y,P,g,u,S,W⟩
  .exact absurd i b
  .have i:=(F.2 _ (w y P g).1).args (AJ e u) (eZ S);have r:=JR hF _ i;(have T:AJ e u=AJ e t:=by unfold AJ;rw[W,eE b,eE b]);rw[T]at r;exact r
 have B:∀t∈AS p,ES (Aj c) t->0<(AJ e t).size/\(AJ e t).size<=1000000:=by
  intro t a w;by_cases b:t.v=0
  .have i:=(hF.full c j).body p z t a b;unfold AJ;rw[eI b];exact i
  .exact M t w b
 have G:=(Q c j).2.2 p z;unfold Br at G;have r:¬2<Z p.1.A.args:=iV G;have E:p.1∈Aj c:=eZ z;have d:=h.lits c j p.1 E;have C:=h.prog.zL.safe c j p.1 E g;refine⟨λm=>?_,λl=>?_⟩
 .have n:(p.1.kind==33)=jj:=by rw[g]at m;simpa using m
  unfold DA at d;rw[eI m]at d;have k:AS p=p.1.A.args:=by unfold AS Oh;rw[m];rfl
  refine⟨λt a=>(d.args t a).fit,by omega,⟨by simp[Av];omega,λx hx=>?_⟩⟩;obtain⟨t,a,rfl⟩:=eH.1 hx;exact B t (by rw[k];exact a) (C.1 n t a)
 .have n:(p.1.kind==33)=K:=by rw[g]at l;simpa using l
  unfold DA at d;rw[eE (by rw[l];simp)]at d;have k:AS p=[p.1.L,p.1.R]:=by unfold AS Oh;rw[l];rfl
  have D:=B p.1.L (by rw[k];simp) (C.2 n).1;have H:=B p.1.R (by rw[k];simp) (C.2 n).2;exact⟨d.1.fit,d.2.1.fit,D.1,D.2,H.1,H.2⟩
def Ia.len{cs:List A8}(h:Dh cs){s:List Af}(b:Ia cs s):Z s<=6912:=by
 obtain⟨d,e⟩:=h.order.small;have:=Ht s (QU cs) (b.1.nodup λf a=>(b.2 f a).canon h.prog.zN) λf a=>(b.2 f a).mem
 have:=PR d (λc g=>(e c g).2.1);omega
def RP{cs:List A8}(h:Dh cs)(hF:St cs){c:A8}(b:c∈cs)(d:B5)(m:Option Addr)(n:Nat)(fs:List B5)(l:Option Addr)(q:Nat)(a:List B5)(w:World)(g:Uj w c)(N:Ew w d)(Q:Dm w (U m (Z fs) n) fs)(L:Dm w (U l (Z a) q) a)
  (B:Ia cs (fs.map B5.f)) (u:Ia cs (a.map B5.f)) (P:Z d.f.args<=1000000) (i:J0 c d.f (fs.map B5.f) (a.map B5.f)=jj):
  Calls prog 56 #[jH (BX c).toArray,jH (Bq d).toArray,U m (Z fs) n,U l (Z a) q] w λe s=>e=j4 (jJ jj)/\Ac [] w s:=by
 obtain⟨T,o⟩:=h.order.small;obtain⟨I,r,F⟩:=Ak g.args;obtain⟨y,v,C⟩:=Ak g.body;unfold J0 at i;rw[eW]at i;have G:=B.len h;have z:=u.len h;rw[eL]at G z;have H:=g.args;have x:=g.body;rw[F]at H;rw[C]at x;have j:=S2 c.erase I r y v c.bl d m n fs l q a w H x g.lits N Q L (o c b).1 G z
  (λt M=>((h.zN c b).args t M).zL) (by have:=(o c b).2.1;show Z c.head.args<=1000;omega) P
  (λp D j=>by
   have E:=(o c b).2.2 p D
   unfold Br at E
   have u:¬2<Z p.1.A.args:=iV E
   exact⟨h.prog.zL.args c b p.1 (eZ D) j,by omega⟩)
  i.1 (h.fitE hF B b (by rw[E6];rfl))
 have S:BX c=CH c.erase (U I (Z c.erase.head.args) r) (U y (Z c.bl) v):=by
  unfold BX CH;rw[F,C];rfl
 rw[S];refine j.mono ?_;rintro e s ⟨rfl,k⟩;refine⟨?_,k⟩;have:=i.2;unfold Aj at this;have R:c.erase.head=c.head:=rfl;rw[R,this]
def Ls(l:List De):List Af:=(l.map λh=>h.2.head).foldl AY []
structure SK(cs:List A8)(m:List Af)(f:Af)(l:List De):Prop where
 some_:f∈m↔l≠[]
 full:∀h∈l,Ln h.2.head/\Z h.2.head.args<=2/\h.1<12/\h.1<Z cs
 len:Z l<=7000
 zg:∀i,Ia cs (Ls (l.take i))
 new:∀(i:Nat) (h:De),l[i]?=some h->DD (Ls (l.take i)) h.2.head=K
 foll:∀(i:Nat) (h:De) (c:A8),l[i]?=some h->cs[h.1]?=some c->J0 c h.2.head (Ls (l.take i)) m=jj
 last:∀hne:l≠[],(l.getLast hne).2.head=f
def Vr{c d:A8}(h:c.erase=d.erase):Aj c=Aj d/\c.head=d.head:=by
 have a:c.erase.body=d.erase.body:=by rw[h]
 have b:c.erase.head=d.erase.head:=by rw[h]
 exact⟨a,b⟩
def dr{s:g0}{B cs:List A8}{u:List Af}{H:List De}{L:g0->Nat}{n:Nat}(p:bo s B u H L n)(y:Dh cs)(A:cs.map A8.erase=(As s (Ae s 0)).1){m:List Af}(w:Jd cs (Cd cs 6) 7 m){f:Af}(F:AM f):SK cs m f (G7 H f):=by
 have a:=bg (p.erase.trans A.symm);have b:=bg (A.trans p.erase.symm);have AH:m=u:=y.one w (b.zM p.zM) (a.inv b p.inv) (λd hd=>by
  obtain⟨c,v,e1,_⟩:=b d hd
  rw[<-e1]
  exact p.top c v)
 subst AH;have C:∀g∈m,AM g:=λg k=>(w.zY g k).canon y.prog.zN
 obtain⟨o,G,M⟩:=p.rea.proof C F;obtain⟨CL,B0⟩:=y.order.small;have DT:Z B=Z cs:=by
  have:=congrArg List.length (p.erase.trans A.symm);simpa using this
 generalize hl:G7 H f=l at o G M;have E:∀(i:Nat) (h:De),l[i]?=some h->l=l.take i++h::l.drop (i+1):=λi h j=>by
  obtain⟨q,e⟩:=ir.1 j;rw[<-e,<-eQ q,fH]
 have z:∀i,(EI (Ls (l.take i)))/\∀g,g∈Ls (l.take i)↔g∈(l.take i).map λh=>h.2.head:=λi=>by
  have h:=Ki ((l.take i).map λh=>h.2.head) [] List.Pairwise.nil (λf F=>by simp at F) (λg k=>by
   obtain⟨h,j,rfl⟩:=eH.1 k
   exact C _ (o.zY h (fR j)))
  exact⟨h.1,λg=>by rw[Ls,h.2.2 g];simp⟩
 have CC:∀i,Ia cs (Ls (l.take i)):=λi=>⟨(z i).1,λg k=>by
  obtain⟨h,j,rfl⟩:=eH.1 (((z i).2 g).1 k)
  exact w.zY _ (o.zY h (fR j))⟩
 have T:∀h∈l,h.1<Z B:=λh j=>by
  obtain⟨i,q,e⟩:=fj j;obtain⟨r,_⟩:=o.each _ _ _ (E i h (by rw[ez q,e]));exact r
 refine⟨⟨λh=>?_,λh=>?_⟩,λh j=>⟨?_,?_,?_,?_⟩,?_,CC,λi h j=>?_,λi h c j v=>?_,λAT=>?_⟩
 .obtain⟨BT,x,e,_⟩:=G h;rw[e];simp
 .exact Classical.byContradiction λr=>h (M r)
 .exact Tx p.zL A (w.zY _ (o.zY h j))
 .obtain⟨c,v,_,e⟩:=(w.zY _ (o.zY h j)).zg;have:=(B0 c v).2.1;omega
 .have:=T h j;omega
 .have:=T h j;omega
 .have D:=Ht (l.map λh=>h.2.head) m o.nd (λg k=>by
   obtain⟨h,j,rfl⟩:=eH.1 k
   exact o.zY h j)
  have N:=Ia.len y w.zg;rw[eL]at D;omega
 .have e:=E i h j;have W:=o.nd;rw[e,fi,eR,iO]at W;cases I:DD (Ls (l.take i)) h.2.head with
  |false=>rfl
  |true=>exact absurd rfl (W.2.2 _ (((z i).2 _).1 ((BL _ _).1 I)) _ (fI ..))
 .obtain⟨r,σ,D,N,h3,h4⟩:=o.each _ _ _ (E i h j);obtain⟨EK,EM⟩:=ir.1 v;have A2:B[h.1].erase=c.erase:=by
   (have Q:(B.map A8.erase)[h.1]?=(cs.map A8.erase)[h.1]?:=by rw[p.erase.trans A.symm]);rw[fM,fM,ez r,v]at Q;simpa using Q
  obtain⟨S,eh⟩:=Vr A2;have q:h.2=CR c σ:=by rw[N];unfold CR;rw[S,eh]
  have A0:Mf c σ:=by unfold Mf at D⊢;rw[<-S];exact D
  have P:c∈cs:=List.mem_of_getElem? v;have R:h.2.head=Bh σ c.head:=by rw[q];rfl
  rw[R];refine Sb y.prog.zL P (λt ht=>((y.zN c P).args t ht).zL) (λg k=>?_) A0 (λg k=>?_) (λg k=>?_) ?_
  .exact AM.zL (C g (by
    obtain⟨x,I,rfl⟩:=eH.1 (((z i).2 g).1 k)
    exact o.zY x (fR I)))
  .exact((z i).2 g).2 (h3 g (by rw[q];exact k))
  .exact h4 g (by rw[q];exact k)
  .rw[<-R];exact AM.zL (C _ (o.zY h (List.mem_of_getElem? j)))
 .have AB:f∈m:=Classical.byContradiction λr=>AT (M r)
  obtain⟨BT,x,e,e2⟩:=G AB;subst e;simp only[List.getLast_append,List.getLast_singleton];simpa using e2
def bQ{s q t:g0}{r:Int×Int}{a at_:Int}(h:Vd s q t r)(f:E9 s a at_)(i:a≠0):r=(a,at_)/\t=jK:=by
 obtain⟨j,g,c⟩:=h;have e:=Kn f g;subst e;rcases c with⟨_,b,d⟩|⟨b,_⟩
 .exact⟨b,d⟩
 .exact absurd b i
def Zm{s q t:g0}{r:Int×Int}{at_:Int}(h:Vd s q t r)(d:E9 s 0 at_)(b:IT q=K):r=(2,0)/\t=jK:=by
 obtain⟨g,f,c⟩:=h;have e:=Kn d f;subst e;rcases c with⟨a,_⟩|⟨_,⟨_,a⟩|⟨a,_⟩⟩
 .exact absurd rfl a
 .exact a
 .rw[b]at a;cases a
def aG{s q t:g0}{r:Int×Int}{at_:Int}(h:Vd s q t r)(k:E9 s 0 at_)(d:IT q=jj){cs:List A8}(g:Dh cs)(f:cs.map A8.erase=(As s (Ae s 0)).1){m:List Af}(b:Jd cs (Cd cs 6) 7 m):
  ∃l,SK cs m (GC q) l/\((l=[]/\r=(7,0)/\t=jK)\/(l≠[]/\r=(0,0)/\t=Ib jK l)):=by
 obtain⟨v,o,i⟩:=h;have e:=Kn k o;subst e;rcases i with⟨a,_⟩|⟨_,⟨a,_⟩|⟨_,j,x,u,w,L,n,p,c⟩⟩
 .exact absurd rfl a
 .rw[d]at a;cases a
 .exact⟨_,dr p g f b j,c⟩
def QH:∀(l:List De),(∀h∈l,Ln h.2.head/\Z h.2.head.args<=2/\h.1<12)->Z (NE l)<=310*Z l
 |[],_=>by simp[NE]
 |h::l,hh=>by
  have a:=hh h (by simp);have d:=O0 a.1 a.2.1;have g:=QH l (λx c=>hh x (by simp[c]));have f:Z (JB h.1).toList<=2:=by
   rcases Uw a.2.2 with⟨_,e⟩|⟨_,e⟩<;>rw[e]<;>simp
  have e:Z (NE (h::l))=Z (U7 h)+Z (NE l):=by unfold NE;rw[eN,eJ]
  have b:Z (U7 h)=Z (Cq h.2.head).toList+(1+(Z (JB h.1).toList+1)):=by
   unfold U7;simp only[eJ,eF,fb];omega
  rw[e,b,eF];omega
def SK.text{cs:List A8}{m:List Af}{f:Af}{l:List De}(h:SK cs m f l):(Ib jK l).toList=NE l/\(Ib jK l).size<=9000000000000:=by
 have e:(Ib jK l).toList=NE l:=by rw[Rl,show ByteArray.empty.toList=[] from by rw[fc];rfl,gd]
 refine⟨e,?_⟩;rw[A7,e];have:=QH l (λx a=>⟨(h.full x a).1,(h.full x a).2.1,(h.full x a).2.2.1⟩);have:=h.len;omega
def Ln.ok{f:Af}(h:Ln f)(b:Z f.args<=2):QB f:=by
 refine⟨by omega,λx a=>?_⟩;rw[A7];rcases h.args x a with h|h
 .have:=h.1;have:=h.2.1;omega
 .have:=h.1;have:=h.2.1;omega
def WH{a:List bu}{l:List De}(c:a.map (λr=>(r.n,r.f.f))=l.map (λh=>(h.1,h.2.head)))(i:Nat):Jm (a.take i)=Ls (l.take i):=by
 have b:(a.map λr=>r.f.f)=l.map λh=>h.2.head:=by
  have:=congrArg (List.map Prod.snd) c;rw[fN,fN]at this;exact this
 unfold Jm Ls;rw[List.map_take,<-b,<-List.map_take,List.foldl_map]
def Za{b:List bu}{l:List De}(c:b.map (λr=>(r.n,r.f.f))=l.map (λh=>(h.1,h.2.head))){i:Nat}{r:bu}(d:b[i]?=some r):∃h:De,l[i]?=some h/\r.n=h.1/\r.f.f=h.2.head:=by
 have a:(b.map (λr=>(r.n,r.f.f)))[i]?=(l.map (λh=>(h.1,h.2.head)))[i]?:=by rw[c]
 rw[fM,fM,d]at a;cases hl:l[i]? with
 |none=>rw[hl]at a;cases a
 |some h=>
  rw[hl]at a;simp only[gu,eD,fo]at a;exact⟨h,rfl,a.1,a.2⟩
def U9{cs:List A8}(hP:Dh cs)(hF:St cs){l:List De}(A:Nat)(C:Option Addr)(B:Nat)(D:Option Addr)(z:Nat)(a:List bu)(x:B5)(s:Option Addr)(t:Nat)(k:List B5)(w:World)
  (hm:Jd cs (Cd cs 6) 7 (k.map B5.f)) (d:SK cs (k.map B5.f) x.f l) (o:l≠[]) (m:a.map (λr=>(r.n,r.f.f))=l.map (λh=>(h.1,h.2.head)))
  (hB:AI w A [U C (Z cs) B] 76) (M:Cn w (U C (Z cs) B) cs)
  (hl:w.ownsRow 0 110 3 (U D (Z a) z) (Z a) (a.flatMap NT)) (H:∀r∈a,Ew w r.f) (hx:Ew w x) (E:Dm w (U s (Z k) t) k):
  Calls prog 30 #[.pointer (some ⟨A,0,none⟩),U D (Z a) z,jH (Bq x).toArray,U s (Z k) t] w λe P=>e=j4 (jJ jj)/\Ac [] w P:=by
 have G:Z a=Z l:=by have:=congrArg List.length m;simpa using this
 have Bx:∀r∈a,∃h∈l,r.n=h.1/\r.f.f=h.2.head:=λr g=>by
  obtain⟨i,hi,e⟩:=fj g;obtain⟨h,b,p⟩:=Za m (i:=i) (by rw[ez hi,e]);exact⟨h,List.mem_of_getElem? b,p⟩
 have AH:a≠[]:=λe=>o (gB.1 (by rw[<-G,e];rfl))
 have Q:∀h:a≠[],(a.getLast h).f.f=x.f:=λh=>by
  have b:=d.last o;have B0:0<Z a:=List.length_pos_iff.2 h;obtain⟨y,u,y2,R⟩:=Za m (i:=Z a-1) (r:=a.getLast h) (by rw[List.getLast_eq_getElem,ez]);rw[R,<-b];rw[G]at u;have j:l[Z l-1]?=some (l.getLast o):=by rw[List.getLast_eq_getElem,ez]
  rw[j]at u;cases u
  rfl
 have BT:∃h,h∈l:=⟨_,List.getLast_mem o⟩;refine Vk A C B cs D z a x s t k w hB M hl H hx ?_ E (λr g=>?_) hF.len (by have:=d.len;omega) (λi r g=>?_) (λi r c g N T AB I S v hs W=>?_) AH (λh=>?_)
 .have b:=d.full _ (List.getLast_mem o);rw[<-d.last o];exact b.1.ok b.2.1
 .obtain⟨h,b,p,j⟩:=Bx r g;have q:=d.full h b;rw[p,j];exact⟨q.1.ok q.2.1,q.2.2.2⟩
 .obtain⟨h,b,p,j⟩:=Za m g;rw[WH m i,j];exact d.new i h b
 .obtain⟨h,b,p,j⟩:=Za m g;have L:I.map B5.f=Ls (l.take i):=W.trans (WH m i);have F:c∈cs:=List.mem_of_getElem? N;have q:=d.full h (List.mem_of_getElem? b);refine RP hP hF F r.f T AB I s t k S ((M.each c F).kept v) ((H r (List.mem_of_getElem? g)).kept v) hs (E.kept v) (by rw[L];exact d.zg i) hm.zg (by rw[j];have:=q.2.1;omega) ?_;rw[L,j];exact d.foll i h c b (by rw[<-p];exact N)
 .rw[Q h];exact(Ik _ _).2 rfl
def dn{s:g0}(h:IT s=jj):QB (GC s):=by
 obtain⟨_,b,_⟩:=MH h;unfold IT at h;rw[eW]at h;obtain⟨a,_⟩:=h;have hF:GC s=Av BM (Ao s 0).1.head:=by unfold GC;rw[eI a]
 unfold KN at a;simp only[eW,io,ie]at a;obtain⟨m,e,g,l,j⟩:=a;rw[hF]at b⊢;refine⟨by simp[Av];omega,λx c=>?_⟩;have i:=(b x c).size;obtain⟨t,d,rfl⟩:=eH.1 c;have f:=(Ld s 0).1.2 t d;have k:(AJ BM t).size<=t.s.size:=by
  unfold AJ BM;split
  .exact eM _
  .rw[eK,List.getElem?_replicate];split<;>exact eV _
 omega
set_option maxRecDepth 100000
theorem Zu(M:Int)(S T:g0)(w:World)(hS:S.size<=9223372036854775807)(hT:T.size<=9223372036854775807):Calls prog 70 #[jH #[.int J M,O S,O T]] w λe z=>e=j4 (jJ jj)/\Ac [] w z:=by
 have y:=Ab (AI.new w [.int J M,O S,O T] 29);have HK:=Ab ((Ac.refl [] w).alloc (j1 [.int J M,O S,O T].toArray 29));have K4:Hid (∀d,Calls prog 27 #[O S,O T] d λe z=>∃(t:g0) (r:Int×Int),e=j4 (.tuple #[O t,.int J r.1,.int J r.2])/\Vd S T t r/\Ac [] d z):=λd=>Z9 S T d hS hT
 go_enter func70,ntmps70;refine jT (λc a=>?_);go_wp2;refine a _ _ ?_;clear a c;change Code.wp _ _ _ _ (w.alloc (j1 [.int J M,O S,O T].toArray 29));generalize w.alloc (j1 [.int J M,O S,O T].toArray 29)=w1 at y HK⊢;generalize w.heap.size=N at y⊢;have G:=y.cell 1;have o:=y.cell 2;simp at G o;refine jT (λc a=>?_);go_wp2_with fail
 refine(K4 _).mono ?_;rintro _ w2 ⟨t,⟨v,E⟩,rfl,HJ,k2⟩;have H:=Ab HJ;have Q:=Ab (y.kept k2 (by simp));have H4:=Ab (HK.trans k2);clear K4 HJ k2 y HK G o;go_wp2;refine a _ _ ?_;clear a c;have G:=Q.cell 1;have o:=Q.cell 2;simp at G o;have LB:=Ab (XP S w2 hS);refine jT (λc a=>?_);go_wp2_with fail
 refine LB.mono ?_;rintro _ R ⟨pv,er,M6,rfl,HL,HU,k3⟩;have L:=Ab HL;have CL:=Ab HU;have HT:=Ab (Q.kept k3 (by simp));have IS:=Ab (H4.trans k3);clear LB HL HU k3 Q H4 G o;go_wp2;refine a _ _ ?_;clear a c;by_cases h0:er=0
 .subst h0;obtain⟨pb,BT,A2,n,rfl,hP,hR,hF,LM,hr,AB,EX⟩:=CL rfl;have FT:=JL hr AB EX;have HB:Hid (IT T=K->((v,E):Int×Int)=(2,0)/\t=jK):=λh=>Zm H L h
  have FA:Hid (IT T=jj->∀m,Jd n (Cd n 6) 7 m->∃l,SK n m (GC T) l/\((l=[]/\((v,E):Int×Int)=(7,0)/\t=jK)\/(l≠[]/\((v,E):Int×Int)=(0,0)/\t=Ib jK l))):=λh m hm=>aG H L h FT AB hm
  have EM:Hid (∀d,Ac [] R d->Calls prog 111 #[.pointer (some ⟨pb,0,none⟩)] d λr z=>∃(ad:Option Addr) (cp:Nat) (fs:List B5),r=j4 (U ad (Z fs) cp)/\Dm z (U ad (Z fs) cp) fs/\Jd n (Cd n 6) 7 (fs.map B5.f)/\Ac [] d z):=λd F=>Vn S pb BT A2 n d (hP.kept F (by simp)) (hR.kept F) hF hr AB EX
  have CC:Hid (∀d,Ac [] R d->AI d pb [U BT (Z n) A2] 76/\Cn d (U BT (Z n) A2) n):=λd F=>⟨hP.kept F (by simp),hR.kept F⟩
  have HR:=Ab FT;have M0:=Ab hF;clear hP hR hF LM hr AB EX FT CL L H;have M1:((0:Int) !=0)=K:=rfl;refine jT (λc a=>?_);go_wp2;refine a _ _ ?_;clear a c;have o:=HT.cell 2;simp at o;have H9:=Ab (Xc T R hT);refine jT (λc a=>?_);go_wp2_with fail
  refine H9.mono ?_;rintro _ I ⟨⟨⟨i,g⟩,xv⟩,rfl,FW,FP,_,k4⟩;obtain⟨q,u,e⟩:=Ak FP;simp only at e FW;subst e;simp only[Bq];have E0:=Ab (Ew.kept FP ((Ac.refl [] I).alloc (j1 [O i,U q (Z g) u].toArray 43)));have B2:=Ab FW;have W:=Ab (AI.new I [O i,U q (Z g) u] 43);have C:=Ab (k4.alloc (j1 [O i,U q (Z g) u].toArray 43));have BS:=Ab (IS.trans C);clear H9 FP FW k4 o HT;go_wp2;refine a _ _ ?_;clear a c;change Code.wp _ _ _ _ (I.alloc (j1 [O i,U q (Z g) u].toArray 43));generalize I.alloc (j1 [O i,U q (Z g) u].toArray 43)=w5 at E0 W C BS⊢;generalize I.heap.size=X at W⊢;cases ho:IT T with
  |false=>
   obtain⟨j,rfl⟩:=HB ho;obtain⟨rfl,rfl⟩:=Prod.mk.inj j;clear HB FA EM CC j ho;(go_wp2_with fail);refine(OQ 2 w5).mono ?_;rintro _ w6 ⟨rfl,B9⟩;subst B9;go_wp2;go_ret;exact⟨by simp,BS⟩
  |true=>
   have H8:=Ab (FA ho);have H2:=Ab (dn ho);rw[<-Aa B2]at H2;clear HB FA ho;refine jT (λc a=>?_);go_wp2;refine a _ _ ?_;clear a c;have H0:=Ab (EM w5 C);refine jT (λc a=>?_);(go_wp2_with fail);refine H0.mono ?_;rintro _ w6 ⟨K5,K9,s,rfl,KB,hI,P⟩;have FB:=Ab KB;have HI:=Ab hI;have FF:=Ab (E0.kept P);have AH:=Ab (W.kept P (by simp));have HV:=Ab (C.trans P);have K6:=Ab (BS.trans P);clear H0 EM KB hI P E0 W C BS;go_wp2;refine a _ _ ?_;clear a c;obtain⟨l,hO,KA⟩:=H8 _ HI;have HP:=Aa B2;rw[<-HP]at hO;have Nd:Z s<=6912:=by
    have:=Ia.len HR HI.zg
    rwa [eL]at this
   have B:=AH.cell 0;have D:=AH.cell 1;simp at B D;have A1:=Ab (JZ K5 K9 s ⟨⟨i,g⟩,U q (Z g) u⟩ w6 FB FF (by omega) H2);(have HX:(s.any λp=>Fg p.f ⟨i,g⟩)=DD (s.map B5.f) ⟨i,g⟩:=by unfold DD;rw[iP];rfl);simp only[Bq]at A1;rw[HX]at A1;clear HX H8 B2 HP;refine jT (λc a=>?_);(go_wp2_with fail);refine A1.mono ?_;rintro _ w7 ⟨rfl,x⟩;have HH:=Ab (FB.kept x);have HM:=Ab (FF.kept x);have K7:=Ab (AH.kept x (by simp));have H1:=Ab (HV.trans x);have HA:=Ab (K6.trans x);have k:=Ab hO;have Bx:=Ab KA;clear A1 x FB FF AH HV K6 B D hO KA;cases hb:DD (s.map B5.f) ⟨i,g⟩with
   |false=>
    (have HZ:¬((⟨i,g⟩:Af)∈s.map B5.f):=λh=>by rw[(BL _ _).2 h]at hb;cases hb);obtain⟨j,rfl⟩:((v,E):Int×Int)=(7,0)/\t=jK:=by
     rcases Bx with⟨_,h⟩|⟨h,_⟩
     .exact h
     .exact absurd (k.some_.2 h) HZ
    obtain⟨rfl,rfl⟩:=Prod.mk.inj j;clear k Bx HZ j hb;go_wp2;refine a _ _ ?_;clear a c;(go_wp2_with fail);refine(OQ 7 w7).mono ?_;rintro _ w8 ⟨rfl,MN⟩;subst MN;go_wp2;go_ret;exact⟨by simp,HA⟩
   |true=>
    have HS:l≠[]:=k.some_.1 ((BL _ _).1 hb);obtain⟨j,rfl⟩:((v,E):Int×Int)=(0,0)/\t=Ib jK l:=by
     rcases Bx with⟨h,_⟩|⟨_,h⟩
     .exact absurd h HS
     .exact h
    obtain⟨rfl,rfl⟩:=Prod.mk.inj j;obtain⟨H6,H7⟩:=k.text;have De:=Ab (YB (Ib jK l) l w7 H6 H7 (λh hh=>⟨(k.full h hh).1,(k.full h hh).2.1,(k.full h hh).2.2.1⟩) k.len);generalize Ib jK l=TX at De;clear Bx j hb H6 H7;go_wp2;refine a _ _ ?_;clear a c;refine jT (λc a=>?_);go_wp2;refine a _ _ ?_;clear a c;refine jT (λc a=>?_);(go_wp2_with fail);refine De.mono ?_;rintro _ w8 ⟨LS,LL,rs,rfl,HW,IJ,H3,A⟩;have KS:=Ab (HH.kept A);have LC:=Ab (HM.kept A);have EK:=Ab (K7.kept A (by simp));have K1:=Ab (H1.trans A);have HY:=Ab (HA.trans A);obtain⟨K3,HG⟩:=CC _ K1;have B0:=Ab (U9 HR M0 pb BT A2 LS LL rs ⟨⟨i,g⟩,U q (Z g) u⟩ K5 K9 s w8 HI k HS HW K3 HG IJ H3 LC KS);simp only[Bq]at B0;clear De HW IJ H3 A HH HM K7 H1 HA K3 HG KS LC K1 CC k HI;go_wp2;refine a _ _ ?_;clear a c;have B:=EK.cell 0;have D:=EK.cell 1;simp at B D;refine jT (λc a=>?_);(go_wp2_with fail);refine B0.mono ?_;rintro _ w9 ⟨rfl,k9⟩;have MY:=Ab (HY.trans k9);clear B0 k9 B D EK HY;go_wp2;refine a _ _ ?_;clear a c;(go_wp2_with fail);refine(OQ 0 w9).mono ?_;rintro _ wa ⟨rfl,M2⟩;subst M2;go_wp2;go_ret;exact⟨by simp,MY⟩
 .have M1:(er !=0)=jj:=by simp[h0]
  obtain⟨j,rfl⟩:=bQ H L h0;obtain⟨rfl,rfl⟩:=Prod.mk.inj j;clear H L CL j h0;go_wp2_with fail
  refine(OQ v R).mono ?_;rintro _ w6 ⟨rfl,B9⟩;subst B9;go_wp2;go_ret;exact⟨by simp,IS⟩
theorem VH(S T:g0)(w:World)(g:S.size<=9223372036854775807)(h:T.size<=9223372036854775807):Calls prog 39 #[jH #[X J 4,O S,O T]] w λe b=>e=j4 (jJ jj)/\Ac [] w b:=by
 have i:=Ab (AI.new w [X J 4,O S,O T] 29);have f:=Ab ((Ac.refl [] w).alloc (j1 [X J 4,O S,O T].toArray 29));have d:Hid (∀a,Calls prog 70 #[jH #[X J 4,O S,O T]] a λe b=>e=j4 (jJ jj)/\Ac [] a b):=λa=>Zu 4 S T a g h
 go_enter func39,ntmps39;go_wp2_with fail
 refine(d _).mono ?_;rintro _ k ⟨rfl,c⟩;have j:=Ab (f.trans c);clear d c i f;go_wp2;go_ret;exact⟨rfl,j⟩
set_option maxRecDepth 512
theorem Xn{v:Value}{w:World}(h:Calls prog 13 #[v,X J 4,X J 4] w λe a=>e=j4 (X J (-1))/\Ac [] w a):Calls prog 9 #[v] w λe a=>e=j4 (jJ jj)/\Ac [] w a:=by
 go_enter func9,ntmps9;go_wp2_with fail
 refine h.mono ?_;rintro e d ⟨rfl,b⟩;have c:=Ab b;clear b;go_wp2;go_ret;exact⟨rfl,c⟩
def dv(a:Int)(S T:g0)(w:World)(g:4<=a)(f:a<=4)(c:S.size<=9223372036854775807)(d:T.size<=9223372036854775807):Calls prog 39 #[jH #[X J a,O S,O T]] w λe b=>e=j4 (jJ jj)/\Ac [] w b:=by
 obtain rfl:a=4:=by omega
 exact VH S T w c d
