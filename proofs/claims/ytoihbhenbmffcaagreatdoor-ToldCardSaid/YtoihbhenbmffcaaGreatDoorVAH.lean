import Derived.Test.YtoihbhenbmffcaaGreatDoorVAG
set_option linter.all false
set_option maxHeartbeats 0
open List renaming length->Z,toArray->D6,replicate->NP
open Option renaming none->Y,some->V
open Go.Value renaming slice->U,int->X,string->O,pointer->Gi,agg->Ms
open Bool renaming false->K,true->Cm
open Go.IntKind renaming i64->J
open Go.Obj renaming cells->Dj
open Go.Ending renaming returned->G3
open Or renaming inl->Hd,inr->Hf
open Go renaming World->Hq,Value->Hs
open Go.RowKit renaming Hid->JR
open Go.World renaming cell?->Lc,ownsRow->Mi
open ByteArray renaming empty->ND
open Go.Act renaming put->OD
namespace Go.Proofs.YtoihbhenbmffcaaGreatDoor
open Go.RowKit Go.Proofs.Tryz
variable{w:Hq}{z:Hs}{e:QC bC}{n m:Nat}{I:Int}
structure D2(w:Hq)(sv:Hs)(fs:QC BM):Prop where
 row:Mi w 0 43 2 sv (Z fs) (fs.flatMap Bw)
 each:∀p∈fs,D0 w p/\LY p.f
def D2.kept{w w':Hq}{c:Hs}{b:QC BM}(h:D2 w c b)(k:Ac [] w w'):D2 w' c b:=⟨Ad h.row k,λp a=>⟨(h.each p a).1.kept k,(h.each p a).2⟩⟩
def C6{b:QC BM}(h:D2 w z b)(k:Nat)(d:k<Z b):
  ∃g m n a i f,z=U (V ⟨g,0,Y⟩) (Z b) m/\b[k]=⟨⟨n,a⟩,U i (Z a) f⟩/\Lc w ⟨g,k*2,Y⟩=V (O n)/\Lc w ⟨g,k*2+1,Y⟩=V (U i (Z a) f):=by
 obtain⟨g,m,s,_,r⟩:=AC h.row (λc _=>rfl) k d;have j:=r k d 0 (by omega);have l:=r k d 1 (by omega);obtain⟨⟨⟨n,a⟩,t⟩,o⟩:∃p,b[k]=p:=⟨_,rfl⟩;have q:=(h.each _ (lE d)).1;rw[o]at j l q;obtain⟨i,f,e⟩:=Ak q;simp only at e;subst e;simp[Bw]at j l;exact⟨g,m,n,a,i,f,s,o,j,l⟩
theorem Tryz.info43:(Tryz.prog.info? 43).map (λi=>(i.zero,i.size,i.bytes))=V (V (Ms #[O ⟨#[]⟩,U Y 0 0]),2,40):=by kernel_rfl
def Fc(x:BM)(a:QC BM×Bool)(y:BM):QC BM×Bool:=if !a.2&&CS x.f y.f then(a.1++[x]++[y],Cm)else(a.1++[y],a.2)
def Hg(l:QC BM)(x:BM):QC BM×Bool:=l.foldl (Fc x) ([],K)
def Ou(l:QC BM)(x:BM):QC BM:=if(Hg l x).2 then(Hg l x).1 else(Hg l x).1++[x]
def XJ(l:QC BM)(x:Af):Bool:=l.any λp=>Em p.f x
def IM(l:QC BM)(x:BM):QC BM:=if XJ l x.f then l else Ou l x
def F7:bC->Bool->QC bC->bC
 |s,_,[]=>s
 |s,b,x::l=>F7 ((if b then s++⟨#[44]⟩else s)++x) Cm l
def B5(f:Af):bC:=F7 (f.name++⟨#[40]⟩) K f.args++⟨#[41,46]⟩
def Sh(c:UInt8):(⟨#[c]⟩:bC).size=1:=rfl
set_option maxRecDepth 100000
theorem Ny(p:BM)(w:Hq)(h:D0 w p)(P:Z p.f.args<=1000)(u:∀x∈p.f.args,x.size<=1000000)(Q:p.f.name.size<=1000000):
  Calls prog 28 #[Ms (D6 (Bw p))] w λe E=>e=G3 (O (B5 p.f))/\Ac [] w E:=by
 obtain⟨⟨n,a⟩,av⟩:=p;have H:JR (∀x∈a,x.size<=1000000):=u;simp only at P Q;obtain⟨b,c,e⟩:=Ak h;simp only at e;subst e;have I:JR (Mi w 0 9 1 (U b (Z a) c) (Z a) (a.flatMap Ag)):=h;obtain⟨R,v⟩:=QP (B5 ⟨n,a⟩);rw[v];have B:JR (F7 (n++⟨#[40]⟩) K (a.drop 0)++⟨#[41,46]⟩=R):=v;have q:=Ab (Tc w [O n,U b (Z a) c] 43);have t:=Ab ((SF [] w).alloc (Dj [O n,U b (Z a) c].toArray 43));clear h u v;simp only[Bw];have G:(n++⟨#[40]⟩:bC).size<=1000001:=by rw[lK,Sh];omega
 have Ax:(⟨#[40]⟩:bC).size=1:=rfl;have AB:(⟨#[44]⟩:bC).size=1:=rfl;have AR:(⟨#[41,46]⟩:bC).size=2:=rfl;go_enter func28,ntmps28;go_wp2;change Code.wp _ _ _ _ (w.alloc (Dj [O n,U b (Z a) c].toArray 43));generalize w.alloc (Dj [O n,U b (Z a) c].toArray 43)=w1 at q t⊢;generalize w.heap.size=N at q⊢;have L:=q.cell 1;simp at L
 go_loopg [3,4] (Z a) (λgk o i wr=>∃(k:Nat) (s:bC),o=O s/\i=X J k/\k<=Z a/\gk=Z a-k/\s.size<=1000001+k*1000001/\JR (F7 s (decide (0<k)) (a.drop k)++⟨#[41,46]⟩=R)/\wr=w1)
 case atStart=>exact⟨0,_,rfl,rfl,by omega,rfl,by simpa using G,B,rfl⟩
 case round=>
  clear B;obtain⟨k,s,rfl,rfl,T,A,AH,d,rfl⟩:=hrel;have z:=Ab A;clear A;by_cases l:k<Z a
  .obtain⟨g,W,C,d0⟩:=G0 (Ad I t) k l;simp only[lB]at C;obtain⟨rfl,_,rfl⟩:=C;have u:=Aa H a[k] (lE l);have j:JR (F7 ((if decide (0<k)then s++⟨#[44]⟩else s)++a[k]) Cm (a.drop (k+1))++⟨#[41,46]⟩=R):=by
    have h:=Aa d;rw[lY l,F7]at h;exact h
   have D:k*1000001<=1000*1000001:=mF _ (by omega);by_cases y:0<k
   ·(have F:(0:Int)<(k:Int):=by omega);have m:JR (F7 (s++⟨#[44]⟩++a[k]) (decide (0<k+1)) (a.drop (k+1))++⟨#[41,46]⟩=R):=by
     have h:=Aa j;simp only[y,decide_true,if_true]at h;show _=_;simpa using h
    (have M:(s++⟨#[44]⟩:bC).size=s.size+1:=by rw[lK];rfl);(have r:(s++⟨#[44]⟩++a[k]:bC).size<=1000001+(k+1)*1000001:=by rw[lK,M];omega);clear d j;go_wp2
    go_roundg (Z a-(k+1))
    case measure=>have:=Aa z;omega
    case rel=>exact⟨k+1,_,rfl,by go_num,by omega,rfl,r,m,rfl⟩
   ·(have F:¬(0:Int)<(k:Int):=by omega);have m:JR (F7 (s++a[k]) (decide (0<k+1)) (a.drop (k+1))++⟨#[41,46]⟩=R):=by
     have h:=Aa j;simp only[y,pE,lJ,if_false]at h;show _=_;simpa using h
    (have r:(s++a[k]:bC).size<=1000001+(k+1)*1000001:=by rw[lK];omega);clear d j;go_wp2
    go_roundg (Z a-(k+1))
    case measure=>have:=Aa z;omega
    case rel=>exact⟨k+1,_,rfl,by go_num,by omega,rfl,r,m,rfl⟩
  .have S:JR (s++⟨#[41,46]⟩=R):=by
    have h:=Aa d;rw[mp (by omega)]at h;exact h
   have D:k*1000001<=1000*1000001:=mF _ (by omega);go_wp2;go_ret;rw[<-Aa S];exact⟨rfl,t⟩
def Ox:bC->QC BM->bC
 |t,[]=>t
 |t,p::l=>Ox (t++B5 p.f++⟨#[10]⟩) l
def Aj(e:QC bC):QC Hs:=e.map O
def Bt(e:QC bC):(Ms (D6 (Aj e))).cells=D6 (Aj e):=by
 unfold Aj;simp[Value.cells]
def AL(e:QC bC)(t:AF):bC:=if t.v=0 then t.s else e.getD (t.v.toNat-65) ND
theorem LH(e:QC bC)(t:AF)(w:Hq)(C:Z e=26)(f:t.v=0\/(65<=t.v.toNat/\t.v.toNat<=90)):
  Calls prog 89 #[Ms (D6 (Aj e)),Ms (D6 (AX t))] w λr x=>r=G3 (O (AL e t))/\Ac [] w x:=by
 have D:=Bt e;have A:Z (Aj e)=26:=by unfold Aj;simp[C]
 have g:JR (∀i (h:i<26),(Aj e)[i]?=V (O (e.getD i ND))):=by
  intro i h;unfold Aj;rw[m6,lT,lN (by omega)];rfl
 obtain⟨a,c⟩:=t;obtain⟨R,m⟩:=QP (AL e ⟨a,c⟩);rw[m];have k:JR ((if a=0 then c else e.getD (a.toNat-65) ND)=R):=m;generalize Aj e=E at D A g⊢;have l:=Ab (((SF [] w).alloc (Dj (D6 E) 90)).alloc (Dj [X .u8 a.toNat,O c].toArray 93));have p:=Ab ((Tc w E 90).alloc (Dj [X .u8 a.toNat,O c].toArray 93));simp only[AX];clear m;simp only at f;by_cases b:a=0
 .have d:JR (c=R):=by have h:=Aa k;rw[lS b]at h;exact h
  subst b;go_enter func89,ntmps89;go_wp2;go_ret;rw[<-Aa d];exact⟨rfl,l⟩
 .have d:JR (e.getD (a.toNat-65) ND=R):=by have h:=Aa k;rw[lO b]at h;exact h
  have B:65<=a.toNat/\a.toNat<=90:=by
   rcases f with h|h
   .exact absurd h b
   .exact h
  have z:((a.toNat:Int)==0)=K:=by rw[mq];omega
  obtain⟨j,u⟩:=QP (a.toNat-65);have s:a.toNat=j+65:=by omega
  rw[u]at d;have q:j<26:=by omega
  rw[s]at p l z⊢;have o:=p.cell j;rw[Aa g j q]at o;have y:JR (∀h:j<Z E,E[j]=O (e.getD j ND)):=λh=>by
   have n:=Aa g j q;rw[lN h]at n;exact oU n
  clear k u s B f b o;go_enter func89,ntmps89;go_wp2;go_ret;rw[<-Aa d];exact⟨congrArg G3 (y _),l⟩
def UJ(x:bC):Bool:=x.toList==[]
def Ed(x:bC):UJ x=Cm↔x.size=0:=by
 unfold UJ;rw[AP];cases h:x.toList<;>simp
def EW(a b:bC):(a.toList==b.toList)=Cm↔a=b:=by
 constructor
 .intro h;exact toList_inj (by simpa using h)
 .intro h;rw[h];simp
def Dm:QC bC->QC AF->QC bC->QC bC×Bool
 |e,[],_=>(e,Cm)
 |e,_::_,[]=>(e,Cm)
 |e,t::ts,x::xs=>if UJ (AL e t)then Dm (e.set (t.v.toNat-65) x) ts xs else if(AL e t).toList==x.toList then Dm e ts xs else(e,K)
def i8(e e':QC bC):Prop:=Z e'=Z e/\∀j,(e.getD j ND).size≠0->e'.getD j ND=e.getD j ND
def i8.refl(e:QC bC):i8 e e:=⟨rfl,λ_ _=>rfl⟩
def i8.trans{a b c:QC bC}(h:i8 a b)(k:i8 b c):i8 a c:=⟨k.1.trans h.1,λj d=>(k.2 j (by rw[h.2 j d];exact d)).trans (h.2 j d)⟩
def i8.set{e:QC bC}{j:Nat}(h:(e.getD j ND).size=0)(x:bC):i8 e (e.set j x):=by
 refine⟨by simp,λi b=>?_⟩;by_cases a:j=i
 .subst a;exact absurd h b
 .rw[lT,lT,mK a]
def R1{e c:QC bC}(h:i8 e c){t:AF}(b:(AL e t).size≠0):AL c t=AL e t:=by
 unfold AL at b⊢;by_cases a:t.v=0
 .rw[lS a,lS a]
 .rw[lO a]at b⊢;rw[lO a];exact h.2 _ b
def Bs(t:AF):Prop:=(t.v=0/\t.s.size≠0)\/(65<=t.v.toNat/\t.v.toNat<=90)
def Bs.z4{t:AF}(h:Bs t)(a:(AL e t).size=0):t.v≠0/\65<=t.v.toNat/\t.v.toNat<=90/\(e.getD (t.v.toNat-65) ND).size=0:=by
 rcases h with⟨c,b⟩|⟨b,d⟩
 .unfold AL at a;rw[lS c]at a;exact absurd a b
 .have c:t.v≠0:=λh=>by rw[h]at b;exact absurd b (by decide)
  unfold AL at a;rw[lO c]at a;exact⟨c,b,d,a⟩
def eR{t:AF}(c:Z e=26)(a:t.v≠0)(b:65<=t.v.toNat)(d:t.v.toNat<=90)(x:bC):AL (e.set (t.v.toNat-65) x) t=x:=by
 unfold AL;rw[lO a,lT,m5 (by omega)];rfl
def Hi:∀(a:QC AF) (b:QC bC) (e c:QC bC),Z e=26->Z a=Z b->(∀t∈a,Bs t)->(∀x∈b,x.size≠0)->Dm e a b=(c,Cm)->i8 e c/\a.map (AL c)=b
 |[],[],e,c,_,_,_,_,h=>by
  simp only[Dm,mA]at h;rw[<-h.1];exact⟨i8.refl e,rfl⟩
 |[],_::_,_,_,_,h,_,_,_=>by simp at h
 |_::_,[],_,_,_,h,_,_,_=>by simp at h
 |t::a,x::b,e,c,he,hl,hg,hx,h=>by
  rw[Dm]at h;have n:Z a=Z b:=by simpa using hl
  have o:∀t∈a,Bs t:=λu j=>hg u (by simp[j])
  have l:∀x∈b,x.size≠0:=λu j=>hx u (by simp[j])
  have m:=hx x (by simp);by_cases k:UJ (AL e t)=Cm
  .rw[lS k]at h;obtain⟨r,q,p,s⟩:=(hg t (by simp)).z4 ((Ed _).1 k);obtain⟨d,g⟩:=Hi a b (e.set (t.v.toNat-65) x) c (by simp[he]) n o l h;have f:=eR he r q p x;refine⟨(i8.set s x).trans d,?_⟩;rw[l9,g,R1 d (by rw[f];exact m),f]
  .rw[lO k]at h;by_cases i:((AL e t).toList==x.toList)=Cm
   .rw[lS i]at h;obtain⟨d,g⟩:=Hi a b e c he n o l h;have f:=(EW _ _).1 i;refine⟨d,?_⟩;rw[l9,g,R1 d (by rw[f];exact m),f]
   .rw[lO i]at h;simp at h
def DZ(σ:UInt8->bC)(t:AF):bC:=if t.v=0 then t.s else σ t.v
def Eo(e:QC bC)(σ:UInt8->bC):Prop:=Z e=26/\∀v:UInt8,65<=v.toNat->v.toNat<=90->(e.getD (v.toNat-65) ND).size=0\/e.getD (v.toNat-65) ND=σ v
def Eo.val{σ:UInt8->bC}(h:Eo e σ){t:AF}(g:Bs t)(d:(AL e t).size≠0):AL e t=DZ σ t:=by
 unfold AL at d⊢;unfold DZ;by_cases a:t.v=0
 .rw[lS a,lS a]
 .rw[lO a]at d⊢;rw[lO a];rcases g with⟨b,_⟩|⟨b,f⟩
  .exact absurd b a
  .rcases h.2 t.v b f with c|c
   .exact absurd c d
   .exact c
def Eo.set{e:QC bC}{σ:UInt8->bC}(h:Eo e σ){v:UInt8}(f:65<=v.toNat)(d:v.toNat<=90):Eo (e.set (v.toNat-65) (σ v)) σ:=by
 refine⟨by simp[h.1],λu a b=>?_⟩;by_cases c:v.toNat-65=u.toNat-65
 .have:v=u:=nh.1 (by omega);subst this;right;rw[lT,m5 (by rw[h.1];omega)];rfl
 .rw[lT,mK c,<-lT];exact h.2 u a b
def IN(σ:UInt8->bC):∀(a:QC AF) (e:QC bC),Eo e σ->(∀t∈a,Bs t/\(DZ σ t).size≠0)->∃f,Dm e a (a.map (DZ σ))=(f,Cm)/\Eo f σ
 |[],e,h,_=>⟨e,rfl,h⟩
 |t::a,e,h,hg=>by
  rw[l9,Dm];have g:∀u∈a,Bs u/\(DZ σ u).size≠0:=λu l=>hg u (by simp[l])
  obtain⟨d,o⟩:=hg t (by simp);by_cases b:UJ (AL e t)=Cm
  .rw[lS b];obtain⟨m,k,i,n⟩:=d.z4 ((Ed _).1 b);(have c:DZ σ t=σ t.v:=by unfold DZ;rw[lO m]);rw[c];exact IN σ a _ (h.set k i) g
  .rw[lO b];have c:=h.val d (λj=>b ((Ed _).2 j));rw[lS (by rw[c];simp)];exact IN σ a e h g
def TQ:∀(l m:QC bC),Hx l m=Cm↔l=m
 |[],[]=>by simp[Hx]
 |[],_::_=>by simp[Hx]
 |_::_,[]=>by simp[Hx]
 |x::l,y::m=>by
  rw[Hx,mi,EW,TQ l m];simp
def LU(a b:Af):Em a b=Cm↔a=b:=by
 obtain⟨d,f⟩:=a;obtain⟨e,c⟩:=b;unfold Em;rw[mi,EW,TQ];simp
def Aq(e:QC bC)(A:C8):Af:=⟨A.name,A.args.map (AL e)⟩
def Bk(σ:UInt8->bC)(A:C8):Af:=⟨A.name,A.args.map (DZ σ)⟩
def B8(e:QC bC)(A:C8)(f:Af):QC bC×Bool:=if(A.name.toList==f.name.toList)&&(Z A.args==Z f.args)then Dm e A.args f.args else(e,K)
def Ie(e:QC bC)(A:C8)(f:Af):Option (QC bC):=if(B8 e A f).2 then V (B8 e A f).1 else Y
def Cj(s:QC Af)(l:QC (QC bC))(x:Bp):QC (QC bC):=if x.kind==97 then l.flatMap (λe=>s.filterMap (Ie e x.A))else l
def CW(s:QC Af)(f:Af):Bool:=s.any λg=>Em g f
def B3(s:QC Af)(f:Af):CW s f=Cm↔f∈s:=by
 unfold CW;rw[mZ];constructor
 .rintro ⟨g,a,h⟩;rw[LU]at h;rw[<-h];exact a
 .intro h;exact⟨f,h,(LU f f).2 rfl⟩
def Ce(fact:C8->Af)(val:AF->bC)(s:QC Af)(x:Bp):Bool:=
 if x.kind==97 then CW s (fact x.A)else if x.kind==33 then !CW s (fact x.A)else if x.kind==61 then(val x.L).toList==(val x.R).toList else if x.kind==35 then !((val x.L).toList==(val x.R).toList)else Gd (val x.L) (val x.R)
def Bj:QC bC:=NP 26 ND
def Bm(body:QC Bp)(s:QC Af):QC (QC bC):=(body.foldl (Cj s) [Bj]).filter λe=>body.all λx=>x.kind==97||Ce (Aq e) (AL e) s x
def IL(f:Af):Prop:=∀x∈f.args,x.size≠0
def Uh{e d:QC bC}{A:C8}{f:Af}(h:Ie e A f=V d):A.name=f.name/\Z A.args=Z f.args/\Dm e A.args f.args=(d,Cm):=by
 unfold Ie B8 at h;by_cases c:((A.name.toList==f.name.toList)&&(Z A.args==Z f.args))=Cm
 .rw[lS c]at h;rw[mi]at c;cases hm:Dm e A.args f.args with
  |mk a b=>
   rw[hm]at h;cases b with
   |false=>simp at h
   |true=>
    simp at h;exact⟨(EW _ _).1 c.1,by simpa using c.2,by rw[h]⟩
 .rw[lO c]at h;simp at h
def iJ{e a:QC bC}{A:C8}{f:Af}(d:A.name=f.name)(c:Z A.args=Z f.args)(g:Dm e A.args f.args=(a,Cm)):Ie e A f=V a:=by
 have h:((A.name.toList==f.name.toList)&&(Z A.args==Z f.args))=Cm:=by
  rw[mi,EW];exact⟨d,by simpa using c⟩
 have b:B8 e A f=(a,Cm):=by
  unfold B8;rw[lS h,g]
 unfold Ie;rw[b];rfl
def Da{s:QC Af}(n:∀f∈s,IL f):∀(g:QC Bp) (l:QC (QC bC)),(∀e∈l,Z e=26)->(∀x∈g,(x.kind==97)=Cm->∀t∈x.A.args,Bs t)->
  ∀a∈g.foldl (Cj s) l,Z a=26/\∃e∈l,i8 e a/\∀x∈g,(x.kind==97)=Cm->Aq a x.A∈s/\∀t∈x.A.args,(AL a t).size≠0
 |[],l,hl,_,a,he'=>⟨hl a he',a,he',i8.refl a,λx M=>by simp at M⟩
 |x::g,l,hl,hg,a,he'=>by
  rw[mr]at he';have w:∀x∈g,(x.kind==97)=Cm->∀t∈x.A.args,Bs t:=λy c=>hg y (by simp[c])
  by_cases j:(x.kind==97)=Cm
  .have D:∀b∈Cj s l x,∃e∈l,∃f∈s,Ie e x.A f=V b:=by
    intro b k;unfold Cj at k;rw[lS j]at k;obtain⟨e,d,F⟩:=mD.1 k;obtain⟨f,h,m⟩:=nD.1 F;exact⟨e,d,f,h,m⟩
   have I:∀b∈Cj s l x,Z b=26:=by
    intro b k;obtain⟨e,d,f,h,m⟩:=D b k;obtain⟨_,r,v⟩:=Uh m;rw[(Hi _ _ _ _ (hl e d) r (hg x (by simp) j) (n f h) v).1.1,hl e d]
   obtain⟨u,b,L,p,q⟩:=Da n g (Cj s l x) I w a he';obtain⟨e,d,f,h,m⟩:=D b L;obtain⟨H,r,v⟩:=Uh m;obtain⟨E,B⟩:=Hi _ _ _ _ (hl e d) r (hg x (by simp) j) (n f h) v;(have C:∀t∈x.A.args,(AL b t).size≠0:=λt i=>n f h _ (by rw[<-B];exact lZ i));(have z:∀t∈x.A.args,AL a t=AL b t:=λt i=>R1 p (C t i));refine⟨u,e,d,E.trans p,λy c o=>?_⟩;rcases lI.1 c with rfl|c
   .refine⟨?_,λt i=>by rw[z t i];exact C t i⟩;have:Aq a y.A=f:=by
     unfold Aq;rw[mI z,B,H]
    rw[this];exact h
   .exact q y c o
  ·(have G:Cj s l x=l:=by unfold Cj;rw[lO j]);rw[G]at he';obtain⟨u,e,d,p,q⟩:=Da n g l hl w a he';refine⟨u,e,d,p,λy c o=>?_⟩;rcases lI.1 c with rfl|c
   .exact absurd o j
   .exact q y c o
def IW{s:QC Af}(σ:UInt8->bC):∀(a:QC Bp) (l:QC (QC bC)) (e:QC bC),e∈l->Eo e σ->(∀x∈a,(x.kind==97)=Cm->(∀t∈x.A.args,Bs t/\(DZ σ t).size≠0)/\Bk σ x.A∈s)->
  ∃m∈a.foldl (Cj s) l,Eo m σ
 |[],l,e,he,ha,_=>⟨e,he,ha⟩
 |x::a,l,e,he,ha,hb=>by
  rw[mr];have c:∀y∈a,(y.kind==97)=Cm->(∀t∈y.A.args,Bs t/\(DZ σ t).size≠0)/\Bk σ y.A∈s:=λy h=>hb y (by simp[h])
  by_cases b:(x.kind==97)=Cm
  .obtain⟨j,g⟩:=hb x (by simp) b;obtain⟨d,k,i⟩:=IN σ x.A.args e ha j;refine IW σ a _ d ?_ i c;unfold Cj;rw[lS b];exact mD.2 ⟨e,he,nD.2 ⟨_,g,iJ rfl (by simp[Bk]) k⟩⟩
  ·(have f:Cj s l x=l:=by unfold Cj;rw[lO b]);rw[f];exact IW σ a l e he ha c
def Eo.start(σ:UInt8->bC):Eo Bj σ:=by
 refine⟨rfl,λv a b=>Hd ?_⟩;unfold Bj;rw[lT,List.getElem?_replicate];split<;>rfl
def F5(body:QC Bp)(t:AF):Prop:=t.v=0\/∃x∈body,(x.kind==97)=Cm/\∃u∈x.A.args,u.v=t.v
def Jq(e:QC bC)(v:UInt8):bC:=e.getD (v.toNat-65) ND
def GU(e:QC bC)(t:AF):DZ (Jq e) t=AL e t:=rfl
def F3{s:QC Af}(k:∀f∈s,IL f){b:QC Bp}(l:∀x∈b,(x.kind==97)=Cm->∀t∈x.A.args,Bs t)(a:e∈Bm b s):
  ∀x∈b,Ce (Aq e) (AL e) s x=Cm:=by
 unfold Bm at a;obtain⟨i,g⟩:=mh.1 a;obtain⟨_,_,_,_,j⟩:=Da k b [Bj] (λe a=>by simp at a;rw[a];rfl) l e i;intro x d;by_cases c:(x.kind==97)=Cm
 .unfold Ce;rw[lS c];exact(B3 _ _).2 (j x d c).1
 .have:=(m3.1 g) x d;simp only[ni]at this;rcases this with h|h
  .exact absurd h c
  .exact h
def Ld{s:QC Af}(o:∀f∈s,IL f){a:QC Bp}(l:∀x∈a,(x.kind==97)=Cm->∀t∈x.A.args,Bs t)(σ:UInt8->bC)(m:∀x∈a,Ce (Bk σ) (DZ σ) s x=Cm)
  (w:∀x∈a,(x.kind==97)=K->((x.kind==33)=Cm->∀t∈x.A.args,F5 a t)/\((x.kind==33)=K->F5 a x.L/\F5 a x.R)):
  ∃e∈Bm a s,∀t,F5 a t->AL e t=DZ σ t:=by
 have q:∀x∈a,(x.kind==97)=Cm->(∀t∈x.A.args,Bs t/\(DZ σ t).size≠0)/\Bk σ x.A∈s:=by
  intro x c b;have h:=m x c;unfold Ce at h;rw[lS b,B3]at h;exact⟨λt g=>⟨l x c b t g,o _ h _ (lZ g)⟩,h⟩
 obtain⟨e,i,p⟩:=IW σ a [Bj] Bj (by simp) (Eo.start σ) q;obtain⟨_,_,_,_,y⟩:=Da o a [Bj] (λe i=>by simp at i;rw[i];rfl) l e i;have j:∀t,F5 a t->AL e t=DZ σ t:=by
  intro t g;rcases g with d|⟨x,c,b,u,n,z⟩
  .unfold AL DZ;rw[lS d,lS d]
  .have r:=(y x c b).2 u n;have k:=p.val (l x c b u n) r;unfold AL DZ at k⊢;rw[<-z];by_cases d:u.v=0
   .rw[lS d,lS d]
   .rw[lO d,lO d]at k⊢;exact k
 refine⟨e,?_,j⟩;unfold Bm;refine mh.2 ⟨i,m3.2 λx c=>?_⟩;cases b:(x.kind==97)with
 |true=>rfl
 |false=>
  obtain⟨s1,s2⟩:=w x c b;rw[oe,<-m x c];unfold Ce;simp only[b,lJ,if_false];cases hk2:(x.kind==33)with
  |true=>
   simp only[if_true];have:Aq e x.A=Bk σ x.A:=by
    unfold Aq Bk;rw[mI (λt g=>j t (s1 hk2 t g))]
   rw[this]
  |false=>
   simp only[lJ,if_false];rw[j _ (s2 hk2).1,j _ (s2 hk2).2]
def Am(c:A7):QC Bp:=c.bl.map Prod.fst
def C1(c:A7)(σ:UInt8->bC):GZ Af:=
 ⟨((Am c).filter λx=>x.kind==97).map λx=>Bk σ x.A,((Am c).filter λx=>x.kind==33).map λx=>Bk σ x.A,Bk σ c.head⟩
def Q6(c:A7)(σ:UInt8->bC):Prop:=∀x∈Am c,(x.kind==97)=K->(x.kind==33)=K->Ce (Bk σ) (DZ σ) [] x=Cm
def FZ(cs:QC A7)(i:GZ Af):Prop:=∃c∈cs,∃σ,Q6 c σ/\i=C1 c σ
def Sf{f:C8->Af}{v:AF->bC}{s t:QC Af}{x:Bp}(a:(x.kind==97)=K)(b:(x.kind==33)=K):Ce f v s x=Ce f v t x:=by
 unfold Ce;rw[a,b];rfl
def Gm(c:A7)(σ:UInt8->bC)(s:QC Af):(∀x∈Am c,Ce (Bk σ) (DZ σ) s x=Cm)↔Ko (C1 c σ) (·∈s) (·∈s)/\Q6 c σ:=by
 constructor
 .intro h;refine⟨⟨λg i=>?_,λg i l=>?_⟩,λx a f e=>?_⟩
  .obtain⟨x,a,rfl⟩:=lP.1 i;obtain⟨a,b⟩:=mh.1 a;have d:=h x a;unfold Ce at d;rw[lS b,B3]at d;exact d
  .obtain⟨x,a,rfl⟩:=lP.1 i;obtain⟨a,b⟩:=mh.1 a;have d:=h x a;have j:(x.kind==97)=K:=by
    (have:x.kind=33:=by simpa using b);rw[this];rfl
   unfold Ce at d;rw[lO (by rw[j];simp),lS b,(B3 _ _).2 l]at d;cases d
  .rw[Sf f e (t:=s)];exact h x a
 .rintro ⟨⟨f,e⟩,k⟩ x a;cases b:(x.kind==97)with
  |true=>
   unfold Ce;rw[b,lS rfl,B3];exact f _ (lP.2 ⟨x,mh.2 ⟨a,b⟩,rfl⟩)
  |false=>
   cases hk2:(x.kind==33)with
   |true=>
    unfold Ce;rw[b,hk2,lO (by simp),lS rfl];cases d:CW s (Bk σ x.A)with
    |false=>rfl
    |true=>exact absurd ((B3 _ _).1 d) (e _ (lP.2 ⟨x,mh.2 ⟨a,hk2⟩,rfl⟩))
   |false=>
    rw[Sf b hk2 (t:=[])];exact k x a b hk2
structure Ro(cs:QC A7):Prop where
 args:∀c∈cs,∀x∈Am c,(x.kind==97)=Cm->∀t∈x.A.args,Bs t
 safe:∀c∈cs,∀x∈Am c,(x.kind==97)=K->((x.kind==33)=Cm->∀t∈x.A.args,F5 (Am c) t)/\((x.kind==33)=K->F5 (Am c) x.L/\F5 (Am c) x.R)
 head:∀c∈cs,∀t∈c.head.args,F5 (Am c) t
structure CX(cs:QC A7)(dp:bC->Nat):Prop where
 pos:∀c∈cs,∀x∈Am c,(x.kind==97)=Cm->dp x.A.name<=dp c.head.name
 neg:∀c∈cs,∀x∈Am c,(x.kind==33)=Cm->dp x.A.name<dp c.head.name
def CX.fU{k:QC A7}{j:bC->Nat}(h:CX k j):Mc (FZ k) (λf=>j f.name):=by
 refine⟨?_,?_⟩
 .rintro i ⟨c,e,σ,_,rfl⟩ g d;obtain⟨x,a,rfl⟩:=lP.1 d;obtain⟨a,b⟩:=mh.1 a;exact h.pos c e x a b
 .rintro i ⟨c,e,σ,_,rfl⟩ g d;obtain⟨x,a,rfl⟩:=lP.1 d;obtain⟨a,b⟩:=mh.1 a;exact h.neg c e x a b
def fe{b:QC A7}{a:bC->Nat}(l:CX b a)(w:Ro b){d s:QC Af}(u:D3 (FZ b) (λf=>a f.name) n (·∈s))(x:∀f∈d,f∈s)(t:∀f∈s,f∈d\/a f.name=n)(q:∀f∈d,IL f)
  {c:A7} (p:c∈b) (o:a c.head.name=n)  (y:e∈Bm (Am c) d):D3 (FZ b) (λf=>a f.name) n (λf=>f∈s\/f=Aq e c.head):=by
 have r:=F3 q (w.args c p) y;have j:Ko (C1 c (Jq e)) (·∈d) (·∈d)/\Q6 c (Jq e):=(Gm c (Jq e) d).1 r;have m:FZ b (C1 c (Jq e)):=⟨c,p,Jq e,j.2,rfl⟩;have k:(C1 c (Jq e)).head=Aq e c.head:=rfl;have:=u.step (FZ b) (λf=>a f.name) l.fU m (by rw[k];exact o) ⟨λg i=>x g (j.1.1 g i),λg i v=>by
  rcases t g v with h|h
  .exact j.1.2 g i h
  .have A:a g.name<a (C1 c (Jq e)).head.name:=l.fU.neg _ m g i
   have z:a (C1 c (Jq e)).head.name=n:=by rw[k];exact o
   omega⟩
 rw[k]at this;exact this
def cX{a:QC A7}{b:bC->Nat}(g:Ro a){s:QC Af}(j:D3 (FZ a) (λf=>b f.name) n (·∈s))(v:∀f∈s,IL f)
  (k:∀c∈a,b c.head.name=n->∀e∈Bm (Am c) s,Aq e c.head∈s):D3 (FZ a) (λf=>b f.name) (n+1) (·∈s):=by
 refine j.next (FZ a) (λf=>b f.name) ?_;rintro i ⟨c,d,σ,p,rfl⟩ w u;have o:=(Gm c σ s).2 ⟨u,p⟩;obtain⟨e,l,m⟩:=Ld v (g.args c d) σ o (g.safe c d);have h:=k c d w e l;have r:Aq e c.head=Bk σ c.head:=by
  unfold Aq Bk;rw[mI (λt q=>m t (g.head c d t q))]
 rw[r]at h;exact h
def fI{a:QC A7}{b d:bC->Nat}(p:CX a b)(o:CX a d){M N:Af->Prop}(k:D3 (FZ a) (λf=>b f.name) n M)(r:D3 (FZ a) (λf=>d f.name) m N)(l:∀c∈a,b c.head.name<n)(q:∀c∈a,d c.head.name<m):∀f,M f↔N f:=by
 have j:=k.done (FZ a) (λf=>b f.name) (λi g=>by obtain⟨c,e,σ,_,rfl⟩:=g;exact l c e);have h:=r.done (FZ a) (λf=>d f.name) (λi g=>by obtain⟨c,e,σ,_,rfl⟩:=g;exact q c e);exact ci (FZ a) _ _ p.fU o.fU j.1 j.2 h.1 h.2
def Ck(n:Nat):QC Hs:=[X J n]
def Om(f:bC->Nat)(p:Be):Nat:=if p.1.kind==97 then f p.1.A.name else if p.1.kind==33 then f p.1.A.name+1 else 0
def Jo(f:bC->Nat)(n:Nat)(bl:QC Be):Nat:=bl.foldl (λn p=>max n (Om f p)) n
def KJ(f:bC->Nat)(x:bC)(n:Nat)(c:A7):Nat:=if c.head.name.toList==x.toList then Jo f n c.bl else n
def Cf(cs:QC A7):Nat->bC->Nat
 |0,_=>0
 |d+1,x=>cs.foldl (KJ (Cf cs d) x) 0
def gd(e:QC bC)(v:Nat)(s:bC):bC:=if v=0 then s else e.getD (v-65) ND
theorem QS(b E:Nat)(e:QC bC)(v:Nat)(s:bC)(w:Hq)(F:Z e=26)(o:AI w b (Aj e) E)(p:v=0\/(65<=v/\v<=90)):
  Calls prog 180 #[Gi (V ⟨b,0,Y⟩),Ms [Value.int .i32 v,O s].toArray] w λr f=>r=G3 (O (gd e v s))/\Ac [] w f:=by
 have x:=o.lt;have I:Z (Aj e)=26:=by unfold Aj;simp[F]
 have q:JR (∀i (h:i<26),(Aj e)[i]?=V (O (e.getD i ND))):=by
  intro i h;unfold Aj;rw[m6,lT,lN (by omega)];rfl
 obtain⟨R,n⟩:=QP (gd e v s);rw[n];have m:JR ((if v=0 then s else e.getD (v-65) ND)=R):=n;have k:=Ab ((SF [] w).alloc (Dj [.int .i32 v,O s].toArray 215));have g:=Ab (o.alloc (Dj [.int .i32 v,O s].toArray 215));clear n;by_cases a:v=0
 .have c:JR (s=R):=by have h:=Aa m;rw[lS a]at h;exact h
  subst a;go_enter func180,ntmps180;go_wp2;go_ret;rw[<-Aa c];exact⟨rfl,k⟩
 .have c:JR (e.getD (v-65) ND=R):=by have h:=Aa m;rw[lO a]at h;exact h
  have C:65<=v/\v<=90:=by
   rcases p with h|h
   .exact absurd h a
   .exact h
  have z:((v:Int)==0)=K:=by rw[mq];omega
  obtain⟨j,t⟩:=QP (v-65);have A:v=j+65:=by omega
  rw[t]at c;have y:j<26:=by omega
  subst A;have B:(((j+65:Nat)):Int)=(j:Int)+65:=by omega
  rw[B]at k g z⊢;have l:=g.cell j;rw[Aa q j y]at l;generalize e.getD j ND=X at c l;have d:=Tc w [.int .i32 ((j:Int)+65),O s] 215;clear m t C p a o q;have M:(0:Int)<=(j:Int):=by omega
  have H:(j:Int)<26:=by omega
  have D:IntKind.i32.wrap (j:Int)=j:=by rw[IntKind.wrap_i32];omega
  have G:IntKind.i32.wrap ((j:Int)+65-65)=j:=by rw[show(j:Int)+65-65=j by omega];exact D
  go_enter func180,ntmps180;go_wp2;change Code.wp _ _ _ _ (w.alloc (Dj [.int .i32 ((j:Int)+65),O s].toArray 215));generalize w.alloc (Dj [.int .i32 ((j:Int)+65),O s].toArray 215)=w1 at k g d l⊢;generalize w.heap.size=N at d x⊢;have u:=d.cell 0;simp at u;have L:=Ab d;clear d g
  go_region_held3 (λf=>Lc f ⟨b,j,Y⟩=V (O X)/\Lc f ⟨N,0,Y⟩=V (.int .i32 ((j:Int)+65))) (go_keep) (fail)
  go_wp2;all_goals
   go_ret;rw[<-Aa c];refine⟨rfl,?_⟩
   repeat (first|exact k|refine Ac.drew ?_|refine Ac.alloc ?_ _|refine Ac.drewN ?_ _)
def N9{l:QC AF}(h:Mi w n 93 2 z (Z l) (l.flatMap AX))(k:Nat)(a:k<Z l):
  ∃g b,z=U (V ⟨g,0,Y⟩) (Z l) b/\Lc w ⟨g,k*2,Y⟩=V (X .u8 l[k].v.toNat)/\Lc w ⟨g,k*2+1,Y⟩=V (O l[k].s):=by
 obtain⟨g,b,i,_,f⟩:=AC h (λc _=>FQ c) k a;have d:=f k a 0 (by omega);have e:=f k a 1 (by omega);simp[AX]at d e;exact⟨g,b,i,d,e⟩
structure WM(w:Hq)(N:Nat)(E:QC Hs)(nm:bC)(av:Hs)(j:Nat)(ts:QC AF)(fv:Hs):Prop where
 b0:AI w N E 90
 b1:AI w (N+1) [O nm,av,X J j] 79
 b2:AI w (N+1+1) [O ⟨#[]⟩,U Y 0 0] 43
 b3:AI w (N+1+1+1) [O nm,fv] 43
 row:Mi w 0 93 2 av (Z ts) (ts.flatMap AX)
 low:∀q,av.ownBlock=V q->q<N
def WM.kept{w w':Hq}{N:Nat}{E:QC Hs}{d:bC}{c:Hs}{j:Nat}{b:QC AF}{a:Hs}(h:WM w N E d c j b a)(k:Ac [] w w'):WM w' N E d c j b a:=
 ⟨h.b0.kept k,h.b1.kept k,h.b2.kept k,h.b3.kept k,Ad h.row k,h.low⟩
def WM.grown{w d:Hq}{N:Nat}{E:QC Hs}{c:bC}{b:Hs}{j:Nat}{f:QC AF}{g:Hs}{r:Option Nat}(h:WM w N E c b j f g)(k:w.grownBy d r)(a:∀q,r=V q->N+1+1+1+1<=q):WM d N E c b j f g:=
 ⟨h.b0.grown k (λe=>by have:=a _ e;omega),h.b1.grown k (λe=>by have:=a _ e;omega),h.b2.grown k (λe=>by have:=a _ e;omega),h.b3.grown k (λe=>by have:=a _ e;omega),
  m0 (v:=b) h.row k (by
   cases hv:b.ownBlock with
   |none=>exact Hd rfl
   |some q=>exact Hf (λe=>by have:=h.low q hv;have:=a q e.symm;omega)),h.low⟩
theorem LT(e:QC bC)(A:C8)(u:Option Addr)(c:Nat)(w:Hq)(he:Z e=26)(hA:Mi w 0 93 2 (U u (Z A.args) c) (Z A.args) (A.args.flatMap AX))(HQ:Z A.args<=1000)(hg:∀t∈A.args,t.v=0\/(65<=t.v.toNat/\t.v.toNat<=90)):
  Calls prog 48 #[Ms (D6 (Aj e)),Ms (D6 (CB A.name (U u (Z A.args) c) A.at_))] w λr w'=>∃x y,r=G3 (Ms (D6 (Bw ⟨Aq e A,U x (Z A.args) y⟩)))/\D0 w' ⟨Aq e A,U x (Z A.args) y⟩/\(∀q,(U x (Z A.args) y).ownBlock=V q->w.heap.size<=q)/\Ac [] w w':=by
 obtain⟨i0,H8,HX,H9,H3⟩:=mH Tryz.zM;obtain⟨b,a,j⟩:=A;simp only at hA HQ hg⊢;have HV:JR (∀t wr,t∈a->Calls prog 89 #[Ms (D6 (Aj e)),Ms (D6 (AX t))] wr λr w'=>r=G3 (O (AL e t))/\Ac [] wr w'):=λt wr ht=>LH e t wr he (hg t ht)
 have HF:JR (∀x y wr,Mi wr 0 9 1 (U x (Z a) y) (Z a) ((a.map (AL e)).flatMap Ag)->D0 wr ⟨Aq e ⟨b,a,j⟩,U x (Z a) y⟩):=by
  intro x y wr h;show Mi wr 0 9 1 _ (Z (a.map (AL e))) _;rw[lR];exact h
 have EM:JR (∀x y,Bw ⟨Aq e ⟨b,a,j⟩,U x (Z a) y⟩=[O b,U x (Z a) y]):=λx y=>rfl
 generalize Aq e ⟨b,a,j⟩=FP at HF EM⊢;have hc:=Bt e;have hl:Z (Aj e)=26:=by unfold Aj;simp[he]
 generalize Aj e=E at hc hl HV⊢;have z:=Ab (((SF [] w).alloc (Dj (D6 E) 90)).alloc (Dj (D6 (CB b (U u (Z a) c) j)) 79));have HB:=Ab ((Tc w E 90).alloc (Dj (D6 (CB b (U u (Z a) c) j)) 79));have HA:=Ab hA;simp only[CB]at z HB⊢;clear hA hg;go_enter func48,ntmps48;go_wp2_with fail
 obtain⟨N,W⟩:=QP w.heap.size;have E0:WM ((((w.alloc (Dj (D6 E) 90)).alloc (Dj #[O b,U u (Z a) c,X J ↑j] 79)).alloc (Dj #[O {data:=#[]},U Y 0 0] 43)).alloc (Dj #[O b,U Y 0 0] 43)) N E b (U u (Z a) c) j a (U Y 0 0):=by
  have b1:=Tc (w.alloc (Dj (D6 E) 90)) [O b,U u (Z a) c,X J j] 79;have b2:=Tc ((w.alloc (Dj (D6 E) 90)).alloc (Dj #[O b,U u (Z a) c,X J ↑j] 79)) [O ⟨#[]⟩,U Y 0 0] 43;have b3:=Tc (((w.alloc (Dj (D6 E) 90)).alloc (Dj #[O b,U u (Z a) c,X J ↑j] 79)).alloc (Dj #[O {data:=#[]},U Y 0 0] 43)) [O b,U Y 0 0] 43;simp only[mt,W]at b1 b2 b3;have b0:=Aa HB;rw[W]at b0;exact⟨(b0.alloc _).alloc _,(b1.alloc _).alloc _,b2.alloc _,b3,Ad HA (z.alloc _|>.alloc _),λq D=>by have:=(HA.lt q D).2;omega⟩
 have A1:=Ab E0;have BT:=Ab ((z.alloc (Dj #[O {data:=#[]},U Y 0 0] 43)).alloc (Dj #[O b,U Y 0 0] 43));rw[W];have S:=Ab W;clear E0 z HB HA W;change Code.wp _ _ _ _ ((((w.alloc (Dj (D6 E) 90)).alloc (Dj #[O b,U u (Z a) c,X J ↑j] 79)).alloc (Dj #[O {data:=#[]},U Y 0 0] 43)).alloc (Dj #[O b,U Y 0 0] 43));generalize((((w.alloc (Dj (D6 E) 90)).alloc (Dj #[O b,U u (Z a) c,X J ↑j] 79)).alloc (Dj #[O {data:=#[]},U Y 0 0] 43)).alloc (Dj #[O b,U Y 0 0] 43))=w1 at A1 BT⊢
 go_loopg [6] (Z a) (λgk i wr=>∃(k:Nat) (f:Option Addr) (d:Nat),i=X J k/\k<=Z a/\gk=Z a-k/\JR (WM wr N E b (U u (Z a) c) j a (U f k d))/\JR (Mi wr (N+1+1+1+1) 9 1 (U f k d) k (((a.take k).map (AL e)).flatMap Ag))/\JR (Ac [] w wr))
 case atStart=>exact⟨0,Y,0,rfl,by omega,rfl,A1,mf _ _ _ _,BT⟩
 case round=>
  clear A1 BT;obtain⟨k,f,d,rfl,hk,HI,o,Q,z⟩:=hrel;have HG:=Ab HI;clear HI;have HD:=o.b1.cell 1;simp at HD;by_cases AB:k<Z a
  .obtain⟨g,F,Ha,d0,d1⟩:=N9 o.row k AB;simp only[lB]at Ha;obtain⟨rfl,_,rfl⟩:=Ha;obtain⟨T,P⟩:=QP (a[k]);(have HR:JR (T∈a):=by show _∈_;rw[<-P];exact lE AB);have HW:JR (a[k]=T):=P;rw[P]at d0 d1;(have KD:(0:Int)<=(k:Int):=by omega);(have Jx:(k:Int)<(Z a:Int):=by omega);have L:JR (∀l,WM l N E b (U (V ⟨g,0,Y⟩) (Z a) c) j a (U f k d)->l.rangeAt N 0 E/\Lc l ⟨N+1+1+1,1,Y⟩=V (U f k d)/\Lc l ⟨N+1,1,Y⟩=V (U (V ⟨g,0,Y⟩) (Z a) c)/\Lc l ⟨g,k*2,Y⟩=V (X .u8 T.v.toNat)/\Lc l ⟨g,k*2+1,Y⟩=V (O T.s)):=by
    intro l H;obtain⟨g',JJ,ES,f0,f1⟩:=N9 H.row k AB;simp only[lB,lL,mu]at ES;obtain⟨⟨rfl,_,_⟩,_,_⟩:=ES;rw[P]at f0 f1;have x3:=H.b3.cell 1;have x1:=H.b1.cell 1;simp at x1 x3;exact⟨H.b0.range,x3,x1,f0,f1⟩
   clear P;have B:=Ab (L wr.drew (o.kept (SF [] wr).drew));(go_wp2_with fail);refine CI 12 (λl=>l.rangeAt N 0 E/\Lc l ⟨N+1+1+1,1,Y⟩=V (U f k d)/\Lc l ⟨N+1,1,Y⟩=V (U (V ⟨g,0,Y⟩) (Z a) c)/\Lc l ⟨g,k*2,Y⟩=V (X .u8 T.v.toNat)/\Lc l ⟨g,k*2+1,Y⟩=V (O T.s)) (by kernel_rfl) ?_;refine CH.tq (i:=0) (v:=Gi (V ⟨N+1+1+1,1,Y⟩)) rfl (λ_ _ _ h=>h) B ?_;simp only[OD,lz,lC,lD];refine CH.tq (i:=1) (v:=U f k d) rfl (λ_ _ _ h=>h) B ?_;simp only[OD,lz,lC,lD];refine CH.take (i:=2) (v:=Ms (D6 E)) rfl (by kernel_rfl) (by kernel_rfl) (by kernel_rfl) (by kernel_rfl) (λ_ _ _ h=>h) B (yieldsIf_load_mid (by rfl) 90 _ rfl N 0 (by rfl) E _ (λl H=>H.1) underlying90 rfl (by rw[hl];exact Tryz.zh)) ?_;simp only[OD,lz,lC,lD];refine CH.tq (i:=3) (v:=Gi (V ⟨N+1,1,Y⟩)) rfl (λ_ _ _ h=>h) B ?_;simp only[OD,lz,lC,lD];refine CH.tq (i:=4) (v:=U (V ⟨g,0,Y⟩) (Z a) c) rfl (λ_ _ _ h=>h) B ?_;simp only[OD,lz,lC,lD];refine CH.tq (i:=5) (v:=X J k) rfl (λ_ _ _ h=>h) B ?_;simp only[OD,lz,lC,lD];refine CH.tq (i:=6) (v:=Gi (V ⟨g,k*2,Y⟩)) rfl (λ_ _ _ h=>h) B ?_;simp only[OD,lz,lC,lD];refine CH.tk (i:=7) (v:=Ms (D6 (AX T))) rfl (by kernel_rfl) (λ_ _ _ h=>h) B (by rfl) ?_ ?_
   ·(intro l JA;simp only[AX];go_simp)
   simp only[OD,lz,lC,lD];refine CH.one (i:=8) (by kernel_rfl) rfl (λC m=>?_)
   go_simp
   obtain⟨M,hV⟩:=QP (AL e T);have Bx:=Ab (HV T wr.drew HR);rw[hV]at Bx;have H7:=Ab hV;clear hV;refine Bx.mono ?_;rintro _ I ⟨rfl,R⟩;have Ax:=o.kept ((SF [] wr).drew.trans R);refine m.out _ _ (λ_=>L I Ax) ?_;clear m C Bx
   try simp only[OD,lz,lC,lD]
   refine CH.one (i:=9) (by kernel_rfl) rfl (λC m=>?_)
   go_simp
   have B0:=Ax.kept ((SF [] I).alloc (Dj #[O M] 9));refine m.out _ _ (λ_=>L _ B0) ?_;clear m C
   try simp only[OD,lz,lC,lD]
   have AO:=Ad Q ((SF [] wr).drew.trans R);have IA:=R.size;(have IS:N+1+1+1+1<=I.heap.size:=by have:=Ax.b3.lt;omega);refine CH.one (i:=10) (by kernel_rfl) rfl (λC m=>?_);refine oY _ (by rfl) _ _ _ (by rfl) (N+1+1+1+1) 9 i0 _ 1 16 underlying41 H8 HX H9 H3 rfl (by omega) (U f k d) k (((a.take k).map (AL e)).flatMap Ag) (by rfl) (lM AO _)
         ⟨I.heap.size,0,Y⟩ 1 1 [O M] (by rfl) (by rfl) (mg (mo I _)) (by simp[Value.oneCell'])
         (by omega) (by unfold maxLen;omega) (by omega) (by simp;omega) (I.heap.size+1) (by simp) ?_
   intro G F w5 BS BB H4 H5;have n:=B0.grown BB (λq D=>(AO.lt q D).1);refine m.out _ _ (λ_=>L _ n) ?_;clear m C
   try simp only[OD,lz,lC,lD]
   refine CH.one (i:=11) (by kernel_rfl) rfl (λC m=>?_)
   go_simp
   refine m.out _ _ (λ_=>L _ n) ?_;clear m C
   try simp only[OD,lz,lC,lD]
   have y1:=n.b3.cell 1;have yf:=n.b3.frozen 1;simp at y1;refine CH.one (i:=12) (by kernel_rfl) rfl (λC m=>?_)
   go_simp
   refine m.out _ _ (λh=>absurd rfl h) ?_;clear m C;refine CH.done (by kernel_rfl) ?_ _
   try simp only[OD,lz,lC,lD]
   have FW:JR (WM (w5.setCell ⟨N+1+1+1,1,Y⟩ (U (V ⟨G,0,Y⟩) (k+1) F)) N E b (U (V ⟨g,0,Y⟩) (Z a) c) j a (U (V ⟨G,0,Y⟩) (k+1) F)):=
    ⟨n.b0.bI _ (show N+1+1+1≠N by omega) _,n.b1.bI _ (show N+1+1+1≠N+1 by omega) _,n.b2.bI _ (show N+1+1+1≠N+1+1 by omega) _,n.b3.set 1 _,Ah n.row (λh=>by have:=n.low _ h;simp at this;omega) _,n.low⟩
   have FO:JR (Mi (w5.setCell ⟨N+1+1+1,1,Y⟩ (U (V ⟨G,0,Y⟩) (k+1) F)) (N+1+1+1+1) 9 1 (U (V ⟨G,0,Y⟩) (k+1) F) (k+1) (((a.take (k+1)).map (AL e)).flatMap Ag)):=by
    have h:=Ah BS (p:=⟨N+1+1+1,1,Y⟩) (λh=>by have:=(BS.lt _ h).1;simp at this;omega) (U (V ⟨G,0,Y⟩) (k+1) F);rw[lF AB,mx,mm,Aa HW];simp only[l9,nE,mc,mS,mz,Aa H7,Ag];exact h
   have HH:=Ab (((z.drew.trans R).alloc (Dj #[O M] 9)).grown BB (λq D=>Hf (by have:=(AO.lt q D).1;have:=Aa S;omega))|>.setCell (p:=⟨N+1+1+1,1,Y⟩) (Hf (by have:=Aa S;simp;omega)) (U (V ⟨G,0,Y⟩) (k+1) F));clear BS BB H4 H5 n B0 Ax AO R B L o Q z y1 yf d0 d1 HD;generalize w5.setCell ⟨N+1+1+1,1,Y⟩ (U (V ⟨G,0,Y⟩) (k+1) F)=w6 at FW FO HH⊢;go_wp2
   go_roundg (Z a-(k+1))
   case measure=>have:=Aa HG;omega
   case rel=>exact⟨k+1,V ⟨G,0,Y⟩,F,by go_num,by omega,rfl,FW,FO,HH⟩
  ·(have HZ:k=Z a:=by omega);have x0:=o.b3.cell 0;have x1:=o.b3.cell 1;have y0:=o.b2.cell 0;have y1:=o.b2.cell 1;have yf:=o.b2.frozen;simp at x0 x1 y0 y1;have H1:JR (AI ((wr.setCell ⟨N+1+1,0,Y⟩ (O b)).setCell ⟨N+1+1,1,Y⟩ (U f k d)) (N+1+1) [O b,U f k d] 43):=(o.b2.set 0 _).set 1 _;have HM:JR (Mi ((wr.setCell ⟨N+1+1,0,Y⟩ (O b)).setCell ⟨N+1+1,1,Y⟩ (U f k d)) 0 9 1 (U f k d) k ((a.map (AL e)).flatMap Ag)):=by
    have h:=Aa Q;rw[lH (by omega)]at h;(have hb:∀q,(U f k d).ownBlock=V q->q≠N+1+1:=λq D=>by have:=(h.lt q D).1;omega);exact Al (Ah (Ah h (λh=>hb _ h rfl) _) (λh=>hb _ h rfl) _) (by omega)
   (have Ix:JR (∀q,(U f k d).ownBlock=V q->w.heap.size<=q):=λq D=>by have:=(Q.lt q D).1;have:=Aa S;omega);have HY:=Ab ((z.setCell (p:=⟨N+1+1,0,Y⟩) (Hf (by have:=Aa S;simp;omega)) (O b)).setCell (p:=⟨N+1+1,1,Y⟩) (Hf (by have:=Aa S;simp;omega)) (U f k d));clear o Q z;go_wp2;subst HZ;refine mj (Cg rfl rfl H1 underlying43 rfl (by kernel_rfl)) rfl ⟨f,d,?_,HF f d _ HM,Ix,HY⟩;rw[Aa EM]
structure U8(w:Hq)(N:Nat)(E:QC Hs)(nm:bC)(av:Hs)(j:Nat)(ts:QC AF)(fn:bC)(fv:Hs)(xs:QC bC):Prop where
 b0:AI w N E 90
 b1:AI w (N+1) [O nm,av,X J j] 79
 b2:AI w (N+1+1) [O fn,fv] 43
 b3:AI w (N+1+1+1) (NP 26 (O ⟨#[]⟩)) 90
 row:Mi w 0 93 2 av (Z ts) (ts.flatMap AX)
 rof:Mi w 0 9 1 fv (Z xs) (xs.flatMap Ag)
 low:∀q,av.ownBlock=V q->q<N
 lof:∀q,fv.ownBlock=V q->q<N
def U8.kept{w w':Hq}{N:Nat}{E:QC Hs}{a c:bC}{f e:Hs}{j:Nat}{b:QC AF}{d:QC bC}(h:U8 w N E a f j b c e d)(k:Ac [] w w'):U8 w' N E a f j b c e d:=
 ⟨h.b0.kept k,h.b1.kept k,h.b2.kept k,h.b3.kept k,Ad h.row k,Ad h.rof k,h.low,h.lof⟩
def U8.set{w:Hq}{N:Nat}{E:QC Hs}{a c:bC}{g f:Hs}{j:Nat}{b:QC AF}{d:QC bC}(h:U8 w N E a g j b c f d)(i:Nat)(u:Hs):U8 (w.setCell ⟨N,i,Y⟩ u) N (E.set i u) a g j b c f d:=
 ⟨h.b0.set i u,h.b1.bI _ (show N≠N+1 by omega) _,h.b2.bI _ (show N≠N+1+1 by omega) _,h.b3.bI _ (show N≠N+1+1+1 by omega) _,
  Ah h.row (λe=>by have:=h.low _ e;simp at this) _,Ah h.rof (λe=>by have:=h.lof _ e;simp at this) _,h.low,h.lof⟩
def NI(t:AF):Prop:=t.v=0\/(65<=t.v.toNat/\t.v.toNat<=90)
structure NG(e:QC bC)(x:Bp):Prop where
 atom:(x.kind==97||x.kind==33)=Cm->(∀t∈x.A.args,NI t)/\Z x.A.args<=1000/\LY (Aq e x.A)
 cmp:(x.kind==97||x.kind==33)=K->NI x.L/\NI x.R/\0<(AL e x.L).size/\(AL e x.L).size<=1000000/\0<(AL e x.R).size/\(AL e x.R).size<=1000000
def Ol(cs:QC A7)(p:Be):Bool:=Nf p&&((decide (0<=BU cs p.1.A.name)&& !(BU cs p.1.A.name==(Z p.1.A.args:Int)))||decide (2<Z p.1.A.args))
def FH:C8:=⟨ND,[],0⟩
def I6(cs:QC A7)(bl:QC Be):Int×Int:=
 match bl.find? (Ol cs)with
 |some p=>(4,p.1.A.at_)
 |none=>if 0<=DN FH bl then(5,DN FH bl)else(0,0)
def Db(s:bC)(cs:QC A7)(er at_:Int):Prop:=
 if 300<s.size then er=1/\at_=0
 else if(A4 s 0).2.2=Cm\/Ae s (A4 s 0).2.1<s.size then er=2/\at_=(AQ s (A4 s 0).2.1 (A4 s 0).2.2:Int)
 else if 3<Z (A4 s 0).1 then er=3/\at_=0
 else∃bl:QC Be,bl.map Prod.fst=(A4 s 0).1/\(er,at_)=I6 cs bl
def MC(d:QC A7)(p:Be)(e:BU d p.1.A.name=I)(f:Z p.1.A.args=n):
  (Ol d p=Cm/\Nf p=Cm/\((0<=I/\(I==(n:Int))=K/\¬I=(n:Int)/\True)\/(0<=I/\(I==(n:Int))=Cm/\I=(n:Int)/\(2:Int)<(n:Int))\/(I<0/\True/\True/\(2:Int)<(n:Int))))\/
  (Ol d p=K/\(Nf p=K\/(Nf p=Cm/\((0<=I/\(I==(n:Int))=Cm/\I=(n:Int)/\¬(2:Int)<(n:Int))\/(I<0/\True/\True/\¬(2:Int)<(n:Int)))))):=by
 unfold Ol;rw[e,f];cases hi:Nf p with
 |false=>exact Hf ⟨rfl,Hd rfl⟩
 |true=>
  by_cases c:0<=I
  .by_cases a:I=(n:Int)
   .by_cases b:2<n
    .exact Hd ⟨by simp[b],rfl,Hf (Hd ⟨c,by simp[a],a,by omega⟩)⟩
    .exact Hf ⟨by simp[b,a],Hf ⟨rfl,Hd ⟨c,by simp[a],a,by omega⟩⟩⟩
   .exact Hd ⟨by simp[c,a],rfl,Hd ⟨c,by simp[a],a,trivial⟩⟩
  .by_cases b:2<n
   .exact Hd ⟨by simp[b],rfl,Hf (Hf ⟨by omega,trivial,trivial,by omega⟩)⟩
   .exact Hf ⟨by simp[b,c],Hf ⟨rfl,Hf ⟨by omega,trivial,trivial,by omega⟩⟩⟩
def fX(t:bC)(f:Af):bC:=match f.args with
 |[a]=>t++⟨#[88,61]⟩++a++⟨#[10]⟩
 |[a,b]=>t++⟨#[88,61]⟩++a++⟨#[32,89,61]⟩++b++⟨#[10]⟩
 |_=>t
def IH(nm:bC):bC->QC Af->bC
 |t,[]=>t
 |t,f::l=>IH nm (if(f.name.toList==nm.toList)=Cm then fX t f else t) l
theorem dH(Q:Option Addr)(W:Nat)(a:QC BM)(b:bC)(w:Hq)(h:D2 w (U Q (Z a) W) a)(EM:Z a<=100000)(M:∀p∈a,Z p.f.args=1\/Z p.f.args=2):
  Calls prog 25 #[U Q (Z a) W,O b] w λe w'=>e=G3 (O (IH b ND (a.map BM.f)))/\w'=w:=by
 have HS:=Ab h;have AT:=Ab M;obtain⟨R,H⟩:=QP (IH b ND (a.map BM.f));rw[H];have S:JR (IH b ND ((a.drop 0).map BM.f)=R):=H;clear h H M;have N:(⟨#[10]⟩:bC).size=1:=rfl;have T:(⟨#[88,61]⟩:bC).size=2:=rfl;have Bx:(⟨#[32,89,61]⟩:bC).size=3:=rfl;go_enter func25,ntmps25;go_wp2
 go_loopg [5,6] (Z a) (λgk o i wr=>∃(k:Nat) (s:bC),o=O s/\i=X J k/\k<=Z a/\gk=Z a-k/\s.size<=k*3000000/\JR (IH b s ((a.drop k).map BM.f)=R)/\wr=w)
 case atStart=>exact⟨0,ND,rfl,rfl,by omega,rfl,by simp,S,rfl⟩
 case round=>
  clear S;obtain⟨k,s,rfl,rfl,hk,P,A1,v,rfl⟩:=hrel;have B:=Ab P;clear P;have B0:k*3000000<=100000*3000000:=mF _ (by omega);have l:(k+1)*3000000=k*3000000+3000000:=by rw[nR]
  by_cases z:k<Z a
  .obtain⟨g,EK,n,m,ad,cp,he,E,d0,d1⟩:=C6 HS k z;simp only[lB]at he;obtain⟨rfl,_,rfl⟩:=he;have G:a[k]∈a:=lE z;obtain⟨q,d⟩:=HS.each _ G;have t:=Aa AT _ G;rw[E]at q d t;simp only at t;have r:JR (IH b (if(n.toList==b.toList)=Cm then fX s ⟨n,m⟩else s) ((a.drop (k+1)).map BM.f)=R):=by
    have h:=Aa v;rw[lY z,l9,IH,E]at h;exact h
   (have B9:(k:Int)<(Z a:Int):=by omega);(have DT:(0:Int)<=(k:Int):=by omega);clear E v G;cases hb:(n.toList==b.toList)with
   |false=>
    have j:JR (IH b s ((a.drop (k+1)).map BM.f)=R):=by
     have h:=Aa r;rw[hb]at h;exact h
    clear r q d t d1;have HM:=Ab l;clear l;go_wp2
    go_roundg (Z a-(k+1))
    case measure=>have:=Aa B;omega
    case rel=>exact⟨k+1,s,rfl,by go_num,by omega,rfl,mM A1 (mF _ (Nat.le_succ k)),j,rfl⟩
   |true=>
    have j:JR (IH b (fX s ⟨n,m⟩) ((a.drop (k+1)).map BM.f)=R):=by
     have h:=Aa r;rw[hb]at h;exact h
    have I:Mi wr 0 9 1 (U ad (Z m) cp) (Z m) (m.flatMap Ag):=q;obtain⟨ga,B2,L,_,u⟩:=AC I (λc _=>rfl) 0 (by omega);simp only[lB]at L;obtain⟨rfl,_,rfl⟩:=L;have F:=u 0 (by omega) 0 (by omega);simp[Ag]at F
    match m,t with
    |[x],_=>
     have hx:=(d.each x (by simp)).2;simp only[ox]at F;(have C:(s++⟨#[88,61]⟩:bC).size=s.size+2:=by rw[lK,T]);(have D:(s++⟨#[88,61]⟩++x:bC).size=s.size+2+x.size:=by rw[lK,C]);(have A:(s++⟨#[88,61]⟩++x++⟨#[10]⟩:bC).size<=(k+1)*3000000:=by rw[lK,D,N,l];omega);clear r u q d I l;go_wp2
     go_roundg (Z a-(k+1))
     case measure=>have:=Aa B;omega
     case rel=>exact⟨k+1,_,rfl,by go_num,by omega,rfl,A,j,rfl⟩
    |[x,y],_=>
     have hx:=(d.each x (by simp)).2;have hy:=(d.each y (by simp)).2;have a1:=u 1 (by simp) 0 (by omega);simp[Ag]at a1;simp only[ox]at F;(have C:(s++⟨#[88,61]⟩:bC).size=s.size+2:=by rw[lK,T]);(have D:(s++⟨#[88,61]⟩++x:bC).size=s.size+2+x.size:=by rw[lK,C]);(have A:(s++⟨#[88,61]⟩++x++⟨#[32,89,61]⟩:bC).size=s.size+5+x.size:=by rw[lK,D,Bx];omega);(have A0:(s++⟨#[88,61]⟩++x++⟨#[32,89,61]⟩++y:bC).size=s.size+5+x.size+y.size:=by rw[lK,A]);(have AO:(s++⟨#[88,61]⟩++x++⟨#[32,89,61]⟩++y++⟨#[10]⟩:bC).size<=(k+1)*3000000:=by rw[lK,A0,N,l];omega);clear r u q d I l;go_wp2
     go_roundg (Z a-(k+1))
     case measure=>have:=Aa B;omega
     case rel=>exact⟨k+1,_,rfl,by go_num,by omega,rfl,AO,j,rfl⟩
  .have j:JR (s=R):=by
    have h:=Aa v;rw[mp (by omega)]at h;exact h
   clear v;go_wp2;go_ret;exact⟨by rw[Aa j];rfl,rfl⟩
