import Derived.Deep.AppendSrc
import Derived.Test.YtoihbhenbmffcaaGreatZAF
set_option linter.all false
set_option maxHeartbeats 0
open List renaming length->Z,toArray->j1
open Option renaming none->Y,some->V
open Go.Value renaming slice->U,int->X,string->O,pointer->j2,agg->kx,bool->k0,ownBlock->kF
open Bool renaming false->K,true->hG
open Go.IntKind renaming i64->J
open Go.Obj renaming cells->jj
open Go.Ending renaming returned->j3
open Or renaming inl->kn,inr->kp
open Go renaming World->kq,Value->ks
open Go.RowKit renaming Hid->kt
open Go.World renaming cell?->ku,ownsRow->kw
open Prod renaming fst->kE
open Go.Op renaming bytesLess->kH
namespace Go.Proofs.YtoihbhenbmffcaaGreat
open Go.RowKit Go.Proofs.Tryz
variable{i n j b:Nat}{w:kq}{T:TypeId}{y:kJ ks}
def BV(v lv:ks):Prop:=∀k,v.ownBlock=V k->lv.ownBlock≠V k
def BV.zY{v f:ks}{l m:Nat}{H:Nat}(h:BV v f)(o:kw w b T l v m y)(a:f.ownBlock=V i\/i=H)(p:w.heap.size<=H):BV v (U (V ⟨i,0,Y⟩) n j):=by
 intro k c d;simp only[kF,fu]at d;subst d;rcases a with a|a
 .exact h i c a
 .have:=(o.lt i c).2;omega
section
variable {P:Program} (w:kq)
def Om(t o e:TypeId)(i:TypeInfo)(k:P.underlying t=V (.slice e))(m:P.info? e=V i)(d:Option Addr)(n b:Nat)(l:n<=b)(f:Option Addr)(c:Nat):
  (Builtin.append_ #[t,t] o #[U d n b,U f 0 c]).run P w=.ok (U d n b) w:=by
 have g:(Builtin.firstCells i.size 0 (U f 0 c)).run P w=.ok #[] w:=by
  cases f with
  |none=>exact run_firstCells_none w i.size 0 0 c
  |some a=>exact run_firstCells_some w i.size 0 a 0 c [] (by simp) (λj u h=>by simp at h)
 cases d with
 |none=>simp[Builtin.append_,j7 k,sizeOf,typeInfo,m,Builtin.lenOf,l,g]
 |some a=>simp[Builtin.append_,j7 k,sizeOf,typeInfo,m,Builtin.lenOf,l,g,storeCells]
def OU(t y:TypeId)(l:Nat)(e:TypeId)(i:TypeInfo)(z:ks)(b B:Nat)(C:P.underlying t=V (.slice e))(D:P.info? e=V i)(W:i.zero=V z)
  (F:i.size=b) (Ax:i.bytes=B) (AT:z.cells.size=b) (S:0<b)
  (f:Option Addr) (n a:Nat) (x:kJ ks) (s:kw w l e b (U f n a) n x)
  (b2:Nat) (p:Option Addr) (m c:Nat) (k:kJ ks) (r:kw w b2 e b (U p m c) m k) (M:∀u∈k,u.oneCell'=hG)
  (Q:n+m<=maxLen) (Bx:(n+m)*B<=140737488355328) (L:l<=w.heap.size):
  ∃v d j,(Builtin.append_ #[t,t] y #[U f n a,U p m c]).run P w=.ok (U v (n+m) d) j/\
   kw j l e b (U v (n+m) d) (n+m) (x++k)/\w.grownBy j (U f n a).ownBlock/\(∀q,(U v (n+m) d).ownBlock=V q->(U f n a).ownBlock=V q\/q=w.heap.size):=by
 rcases Nat.eq_zero_or_pos m with A|A
 .subst A;have T:k=[]:=iu (by have:=r.1;omega);subst T;have N:n<=a:=by
   rcases s.2 with⟨h,H⟩|⟨g,d,R,h,_,_,hc,_⟩
   .omega
   .simp only[fg]at h;omega
  refine⟨f,a,w,Om w t y e i C D f n a N p c,by simpa using s,⟨rfl,rfl,rfl,fJ _,λ_ _ _=>rfl⟩,λq o=>kn o⟩
 .have hx:∃g,p=V ⟨g,0,Y⟩:=by
   rcases r.2 with⟨h,H⟩|⟨g,d,R,h,_⟩
   .omega
   .simp only[fg]at h;exact⟨g,h.1⟩
  obtain⟨g,rfl⟩:=hx;obtain⟨g1,d,j,G,r2,E,I,r5⟩:=run_append_lies (P:=P) w t y l e i z b B C D W F Ax AT S (U f n a) n x s ⟨g,0,Y⟩ m c k r.1 (r.cells rfl) M A Q Bx L _ rfl;refine⟨_,d,j,G,r2,E,λq o=>?_⟩;simp only[kF,fu]at o;subst o;exact I
def KB{o:Oper}{a:Act}{A:Act->kq->Prop}{Q:Exit->Act->kq->Prop}(s x:Operand)(t:TypeId)
  (R:o.op=.call {callee:=.builtin .append,args:=#[s,x],argTypes:=#[t,t]})
  (l:Nat) (e:TypeId) (i:TypeInfo) (z:ks) (b y:Nat) (F:P.underlying t=V (.slice e)) (hi:P.info? e=V i) (M:i.zero=V z)
  (D:i.size=b) (S:i.bytes=y) (AR:z.cells.size=b) (N:0<b)
  (g:Option Addr) (n k:Nat) (v:kJ ks) (hs:a.eval s=U g n k) (C:kw w l e b (U g n k) n v)
  (B:Nat) (r:Option Addr) (m c:Nat) (p:kJ ks) (hx:a.eval x=U r m c) (Bx:kw w B e b (U r m c) m p) (I:∀u∈p,u.oneCell'=hG)
  (L:n+m<=maxLen) (AT:(n+m)*y<=140737488355328) (G:l<=w.heap.size)
  (h:∀j f d,kw d l e b (U j (n+m) f) (n+m) (v++p)->w.grownBy d (U g n k).ownBlock->(∀q,(U j (n+m) f).ownBlock=V q->(U g n k).ownBlock=V q\/q=w.heap.size)->A (a.put o.dst (U j (n+m) f)) d):o.wp P a w A Q:=by
 obtain⟨j,f,d,T,E,W,H⟩:=OU (P:=P) w t o.type l e i z b y F hi M D S AR N g n k v C B r m c p Bx I L AT G;unfold Oper.wp execOp;simp only[R,resolve,invoke,builtin,jO,Sem.run_pure,Result.andThen_ok,List.map_toArray,fS,iV,hs,hx,T];exact h j f d E W H
def Fh{A:Array Oper}{C:kJ Oper}{o:Oper}{a:Act}{Q:Exit->Act->kq->Prop}(D:o.guard=Y)(s x:Operand)(t:TypeId)
  (W:o.op=.call {callee:=.builtin .append,args:=#[s,x],argTypes:=#[t,t]})
  (l:Nat) (e:TypeId) (i:TypeInfo) (z:ks) (b y:Nat) (H:P.underlying t=V (.slice e)) (hi:P.info? e=V i) (S:i.zero=V z)
  (F:i.size=b) (Ax:i.bytes=y) (Bx:z.cells.size=b) (T:0<b)
  (g:Option Addr) (n k:Nat) (v:kJ ks) (hs:a.eval s=U g n k) (E:kw w l e b (U g n k) n v)
  (B:Nat) (r:Option Addr) (m c:Nat) (p:kJ ks) (hx:a.eval x=U r m c) (BT:kw w B e b (U r m c) m p) (N:∀u∈p,u.oneCell'=hG)
  (R:n+m<=maxLen) (BA:(n+m)*y<=140737488355328) (I:l<=w.heap.size)
  (h:∀j f d,kw d l e b (U j (n+m) f) (n+m) (v++p)->w.grownBy d (U g n k).ownBlock->(∀q,(U j (n+m) f).ownBlock=V q->(U g n k).ownBlock=V q\/q=w.heap.size)->wpList P A Q C (a.put o.dst (U j (n+m) f)) d):wpList P A Q (o::C) a w:=
 wpList_plain D λ_ M=>KB w s x t W l e i z b y H hi S F Ax Bx T g n k v hs E B r m c p hx BT N R BA I λj f d G h3 L=>M _ _ (h j f d G h3 L)
def I7{R:Array Oper}{o:Oper}{a:Act}{A:Act->kq->Prop}{Q:Exit->Act->kq->Prop}{E:Prop}(C:o.guard=Y)(s x:Operand)(t:TypeId)
  (S:o.op=.call {callee:=.builtin .append,args:=#[s,x],argTypes:=#[t,t]})
  (g:Nat) (e:TypeId) (i:TypeInfo) (z:ks) (b y:Nat) (G:P.underlying t=V (.slice e)) (hi:P.info? e=V i) (M:i.zero=V z)
  (F:i.size=b) (T:i.bytes=y) (AH:z.cells.size=b) (N:0<b)
  (d:Option Addr) (n f:Nat) (v:kJ ks) (W:a.eval s=U d n f) (D:kw w g e b (U d n f) n v)
  (B:Nat) (p:Option Addr) (m c:Nat) (j:kJ ks) (hx:a.eval x=U p m c) (AT:kw w B e b (U p m c) m j) (I:∀u∈j,u.oneCell'=hG)
  (L:n+m<=maxLen) (AR:(n+m)*y<=140737488355328) (H:g<=w.heap.size)
  (h:∀r l k,kw k g e b (U r (n+m) l) (n+m) (v++j)->w.grownBy k (U d n f).ownBlock->(∀q,(U r (n+m) l).ownBlock=V q->(U d n f).ownBlock=V q\/q=w.heap.size)->A (a.put o.dst (U r (n+m) l)) k):
  if Region.wanted o (yielded R a.tmps)=hG then Oper.wp P o a w A Q else E:=by
 rw[fF (by unfold Region.wanted;simp[C])];exact KB w s x t S g e i z b y G hi M F T AH N d n f v W D B p m c j hx AT I L AR H h
end
end Go.Proofs.YtoihbhenbmffcaaGreat
namespace Go.Proofs.YtoihbhenbmffcaaGreat
open Go.RowKit Go.Proofs.Tryz
variable{M:kJ Nat}{n k i m:Nat}{w u v:kq}{z:ks}{s:zA}{e:kJ zA}{P:Program}{Q:Exit->Act->kq->Prop}{a:Act}{B:Bool}{g:UInt8}{T:TypeId}{y:kJ ks}
theorem Tryz.info173:(Tryz.prog.info? 173).map (λi=>(i.zero,i.size,i.bytes))=V (V (kx #[X .u8 0,O ⟨#[]⟩,U Y 0 0,X J 0,X .u8 0,O ⟨#[]⟩,X .u8 0,O ⟨#[]⟩,X J 0]),9,112):=by kernel_rfl
abbrev Bs:=BH×ks
def Du(l:kJ Bs):kJ ks:=l.flatMap λp=>Co p.1 p.2
def Cu(w:kq)(base:Nat)(p:Bs):Prop:=kw w base 135 2 p.2 (Z p.1.A.args) (p.1.A.args.flatMap AP)
def Cu.kept{w w':kq}{p:Bs}(h:Cu w n p)(k:Ac M w w')(a:∀i,i∈M->i<n:=by simp):Cu w' n p:=Ad h k a
def Cu.grown{p:Bs}(h:Cu w n p)(k:w.grownBy u z.ownBlock)(a:BV p.2 z):Cu u n p:=
 gY (v:=p.2) h k (by
  cases hv:p.2.ownBlock with
  |none=>exact kn rfl
  |some k=>exact kp (λe=>a k hv e.symm))
def Cu.alloc{w:kq}{a:Nat}{p:Bs}(h:Cu w a p)(o:Obj):Cu (w.alloc o) a p:=fw h o
set_option maxRecDepth 100000
theorem aA(b:Nat)(s:zA)(h:Nat)(w:kq)(hs:s.size<=1000000)(HU:h<=s.size)(hB:AF w b (BL s h K) 81):
  Calls prog 73 #[j2 (V ⟨b,0,Y⟩)] w λe W=>∃(bv:ks) (bl:kJ Bs),e=j3 bv/\bl.map kE=(Da s h).1/\
   kw W w.heap.size 173 9 bv (Z bl) (Du bl)/\(∀p∈bl,Cu W w.heap.size p)/\AF W b (BL s (Da s h).2.1 (Da s h).2.2) 81/\Ac [b] w W:=by
 obtain⟨i0,HT,HF,HW,HN⟩:=gH Tryz.info173;have H1:=hB.lt;obtain⟨L,v,o,hL⟩:∃L v o,Da s h=(L,v,o):=⟨_,_,_,rfl⟩;rw[hL];have HL:kt (Da s h=(L,v,o)):=hL;clear hL;go_enter func73,ntmps73;go_wp2_with fail
 go_loopg [3,4] (2*(s.size-h)+1) (λk l HM wr=>∃(r j:Bool) (a:Nat) (c:kJ Bs),HM=k0 r/\a<=s.size/\Z c<=a+1/\((r&& !j)=hG->Z c<=a)/\
  k=2*(s.size-a)+(if(r&& !j)=hG then 1 else 0)/\kt (D6 s r j a (c.map kE) (L,v,o))/\AF wr b (BL s a j) 81/\
  kw wr w.heap.size 173 9 l (Z c) (Du c)/\kt (∀p∈c,Cu wr w.heap.size p/\BV p.2 l)/\Ac [b] w wr)
 case atStart=>
  refine⟨hG,K,h,[],rfl,HU,by simp,by simp,by simp,?_,hB,fK _ _ _ _,λp f=>by simp at f,kL _ _⟩;show D6 _ _ _ _ _ _;unfold D6;simp[HL.out]
 case round=>
  obtain⟨r,j,a,c,rfl,ha,B9,T,B,z,y,n,AH,D⟩:=hrel;have M:kt (gk=2*(s.size-a)+(if(r&& !j)=hG then 1 else 0)):=B;clear B;obtain⟨ad,cp,rfl⟩:=B5 n;cases r with
  |false=>
   have E:=z.out.done rfl;have HD:kt (c.map kE=L/\a=v/\j=o):=E;clear B9 T M z E;go_wp2;go_ret;obtain⟨d1,d2,d3⟩:=HD.out;subst d2 d3;exact⟨_,c,rfl,d1,n,λp f=>(AH.out p f).1,y,D⟩
  |true=>
   cases j with
   |true=>
    have E:=z.out.done rfl;have HD:kt (c.map kE=L/\a=v/\hG=o):=E;have CC:=y.cell 2;simp[BL]at CC;clear B9 T M z E;go_wp2;go_ret;obtain⟨d1,d2,d3⟩:=HD.out;subst d2 d3;exact⟨_,c,rfl,d1,n,λp f=>(AH.out p f).1,y,D⟩
   |false=>
    have CC:=y.cell 2;simp[BL]at CC;have H4:=y.lt;have HI:Z c<=a:=T rfl;clear B9 T;obtain⟨t,i,d,I⟩:∃t i d,Dj s a=(t,i,d):=⟨_,_,_,rfl⟩;(have HZ:i<=s.size:=by have:=KF s a ha;rw[I]at this;exact this);have HS:=z.out.step I ha (by simpa using HI);obtain⟨m,hm⟩:=kK (!d&&DV s (AN s i d) 44);obtain⟨g,FB⟩:=kK (BW s i d 44);rw[hm,FB]at HS;obtain⟨q1,S,N,q4,Q⟩:=HS;have C:kt (Dj s a=(t,i,d)/\(!d&&DV s (AN s i d) 44)=m/\BW s i d 44=g/\g<=s.size/\Z (c.map kE++[t])<=g+1/\((m&& !d)=hG->Z (c.map kE++[t])<=g)/\2*(s.size-g)+(if(m&& !d)=hG then 1 else 0)<gk/\D6 s m d g (c.map kE++[t]) (L,v,o)):=
     ⟨I,hm,FB,q1,S,N,by have:=M.out;simp at this;omega,Q⟩
    clear I hm FB q1 S N q4 Q M z;(go_wp2_with fail);refine(cc b s a _ hs ha y).mono ?_;rintro e R ⟨av,rfl,u,Bx,H⟩;rw[C.out.1]at Bx u⊢;obtain⟨x,q,rfl⟩:=B5 u;have HB:=Ad n H (by simp;omega);have HH:=H.size;have HC:=D.size;simp only[Co];simp only at u;go_wp2_with (at_builtin;refine fO _ rfl _ _ _ rfl w.heap.size 173 i0 _ 9 112 underlying88 HT HF HW HN rfl (by omega) (U ad (Z c) cp) (Z c) (Du c) rfl (HB.alloc _) ⟨R.heap.size,0,Y⟩ 1 1 (Co t (U x (Z t.A.args) q)) rfl rfl (fM (fX R _)) (by simp[Value.oneCell',Co]) (by omega) (by unfold maxLen;omega) (by omega) (by simp;omega) (R.heap.size+1) (by simp) ?_;intro gg Ha w5 EY F E0 H3)
    have H2:=(EY.lt gg rfl).1;have HA:=(Bx.alloc _).grown F (by have:=AS n b (by omega);simpa using this);have FC:=((D.trans H).alloc _).grown F (λk B=>kp ((n.lt k B).1));have EM:kt (∀p∈c++[(t,(U x (Z t.A.args) q:ks))],Cu w5 w.heap.size p/\BV p.2 (U (V ⟨gg,0,Y⟩) (Z c+1) Ha)):=by
     intro p f;rcases fA.1 f with f|f
     .obtain⟨h1,G⟩:=AH.out p f;have AR:=h1.kept H (by simp;omega);exact⟨(AR.alloc _).grown F G,BV.zY G AR E0 (by omega)⟩
     .simp only[ft]at f;subst f;have G:BV (U x (Z t.A.args) q) (U ad (Z c) cp):=by
       intro k B he;have:=(u.lt k B).1;have:=(n.lt k he).2;omega
      have AR:Cu R w.heap.size (t,U x (Z t.A.args) q):=Al u (by omega);exact⟨(AR.alloc _).grown F G,BV.zY G u E0 (by omega)⟩
    clear AH u Bx H HB F E0 n y D HH HC;(go_wp2_with fail);refine(Mb b s i d 44 44 _ rfl hs HZ HA).mono ?_;rintro e w6 ⟨rfl,FT,P⟩;have HE:=Ad EY P (by simp;omega);have HK:=FC.trans P;have HP:kt (∀p∈c++[(t,(U x (Z t.A.args) q:ks))],Cu w6 w.heap.size p/\BV p.2 (U (V ⟨gg,0,Y⟩) (Z c+1) Ha)):=
     λp f=>⟨(EM.out p f).1.kept P (by simp;omega),(EM.out p f).2⟩
    rw[C.out.2.2.1]at FT;rw[C.out.2.1];clear HA FC P EY EM;go_wp2_with fail
    go_roundg (2*(s.size-g)+(if(m&& !d)=hG then 1 else 0))
    case measure=>exact C.out.2.2.2.2.2.2.1
    case rel=>
     obtain⟨_,_,_,q1,S,N,_,Q⟩:=C.out;refine⟨m,d,g,c++[(t,U x (Z t.A.args) q)],rfl,q1,by simpa using S,by simpa using N,rfl,?_,FT,?_,HP,HK⟩
     .show D6 _ _ _ _ _ _;simpa using Q
     .simpa[Du] using HE
structure Cb where
 head:C8
 body:kJ BH
 at_:Nat
def Dg(c:Cb)(hv bv:ks):kJ ks:=[O c.head.name,hv,X J c.head.at_,bv,X J c.at_]
def DG(s:zA)(a1:Nat)(b1:Bool):kJ BH×Nat×Bool:=
 if !b1&&DV s (AN s a1 b1) 58 then(if DV s (BW s a1 b1 58) 45 then Da s (BW s a1 b1 58+1)else([],BW s a1 b1 58,hG))else([],BW s a1 b1 58,b1)
def Ao(s:zA)(at_:Nat):Cb×Nat×Bool:=
 let A:=AV s (Ae s at_) K
 let B:=DG s A.2.1 A.2.2
 (⟨A.1,B.1,Ae s at_⟩,Bm s B.2.1 B.2.2 46)
theorem WD(b:Nat)(s:zA)(E j:Nat)(w:kq)(A:C8)(n g a3:Nat)(f b3:Bool)(L:kJ BH)(a4:Nat)(b4:Bool)(hs:s.size<=1000000)(H4:E<=s.size)
  (k:kt (Ae s E=j/\AV s j K=(A,n,f)/\BW s n f 58=g/\DG s n f=(L,a3,b3)/\Bm s a3 b3 46=(a4,b4))) (hB:AF w b (BL s E K) 81):
  Calls prog 35 #[j2 (V ⟨b,0,Y⟩)] w λe w'=>∃(hv bv:ks) (a:kJ Bs),e=j3 (kx (j1 (Dg ⟨A,L,j⟩ hv bv)))/\kw w' w.heap.size 135 2 hv (Z A.args) (A.args.flatMap AP)/\
   a.map kE=L/\kw w' w.heap.size 173 9 bv (Z a) (Du a)/\(∀p∈a,Cu w' w.heap.size p)/\AF w' b (BL s a4 b4) 81/\Ac [b] w w':=by
 have MN:=hB.lt;have H5:j<=s.size:=by have:=Bj s E H4;have:=k.out.1;omega
 have HN:n<=s.size:=by have:=IB s j K H5;rw[k.out.2.1]at this;exact this
 have HI:g<=s.size:=by have:=DB s n f 58 HN;rw[k.out.2.2.1]at this;exact this
 go_enter func35,ntmps35;go_wp2_with fail
 refine(DA b s E K _ hs H4 (hB.alloc _)).mono ?_;rintro e w1 ⟨rfl,T,hK⟩;rw[show AN s E K=j from k.out.1]at T
 have hn:=(kN w _ _).kept hK (by simp;omega);have HQ:=((kL [b] w).alloc _).trans hK;clear hB hK;have LM:=T.lt;have KK:=hn.lt;have u:=T.cell 1;simp[BL]at u;go_wp2_with fail
 refine(P7 b s j K _ hs H5 (T.alloc _)).mono ?_;rintro e w2 ⟨hv,rfl,o,HB,CL⟩;rw[k.out.2.1]at HB o⊢;have B:=(kN w1 _ _).kept CL (by simp;omega);have IJ:=(hn.alloc _).kept CL (by simp;omega);have HY:=(HQ.alloc _).trans CL;have HW:=CL.size;simp only[fY]at o HW;obtain⟨N,hN⟩:=kK w1.heap.size;rw[hN]at B o HW⊢;have Mo:b<N:=by omega
 have Nq:w.heap.size<N:=by omega
 clear HQ T hn LM KK u CL hN;obtain⟨S,P,rfl⟩:=B5 o
 try simp only at o
 have e0:=B.cell 0;have e1:=B.cell 1;have e2:=B.cell 2;have HX:=B.frozen;simp at e0 e1 e2;simp only[Cc];go_wp2_with fail
 have HP:=((HB.zB ⟨N,0,Y⟩ (by simp;omega) (O A.name)).zB ⟨N,1,Y⟩ (by simp;omega) (U S (Z A.args) P)).zB ⟨N,2,Y⟩ (by simp;omega) (X J A.at_);have FT:=((B.set 0 (O A.name)).set 1 (U S (Z A.args) P)).set 2 (X J A.at_);have IS:=((IJ.zB ⟨N,0,Y⟩ (by simp;omega) (O A.name)).zB ⟨N,1,Y⟩ (by simp;omega) (U S (Z A.args) P)).zB ⟨N,2,Y⟩ (by simp;omega) (X J A.at_);have HU:=((HY.setCell (p:=⟨N,0,Y⟩) (by simp;omega) (O A.name)).setCell (p:=⟨N,1,Y⟩) (by simp;omega) (U S (Z A.args) P)).setCell (p:=⟨N,2,Y⟩) (by simp;omega) (X J A.at_);have Jx:=Af (Af (Af o (p:=⟨N,0,Y⟩) (by simpa using AS o N (by omega)) (O A.name)) (p:=⟨N,1,Y⟩) (by simpa using AS o N (by omega)) (U S (Z A.args) P)) (p:=⟨N,2,Y⟩) (by simpa using AS o N (by omega)) (X J A.at_);simp only[fh,fi]at FT;clear HB B IJ HY o e0 e1 e2 HX;refine(Mb b s n f 58 58 _ rfl hs HN HP).mono ?_;rintro e C ⟨rfl,d,BA⟩;rw[k.out.2.2.1]at d;have t:=FT.kept BA (by simp;omega);have r:=IS.kept BA (by simp;omega);have v:=HU.trans BA;have m:=Ad Jx BA (by simp;omega);clear HP FT IS HU Jx BA;have MY:=t.lt;have M6:=d.lt;have L0:=r.lt;have hQ:(!f&&DV s (AN s n f) 58)=K\/((!f&&DV s (AN s n f) 58)=hG/\¬g<s.size)\/((!f&&DV s (AN s n f) 58)=hG/\g<s.size/\DV s g 45=K)\/((!f&&DV s (AN s n f) 58)=hG/\DV s g 45=hG):=by
  cases(!f&&DV s (AN s n f) 58)<;>cases DV s g 45<;>simp
  omega
 rcases hQ with i|⟨i,CW⟩|⟨i,CW,q⟩|⟨i,q⟩
 case' inl=>
  rw[i];have c:=k.out.2.2.2.1;unfold DG at c;rw[i,k.out.2.2.1]at c;simp only[fq,if_false,gA]at c;obtain⟨z,r2,r3⟩:=c;subst r2 r3;have E0:=HI;obtain⟨a,h⟩:∃a:kJ Bs,kt (a.map kE=L)/\a=[]:=⟨[],by show _=_;rw[<-z];rfl,rfl⟩;have R:=d;have Q:=t;have AT:=r;have AH:=v;have AB:=m;have Ax:kw C (N+1) 173 9 (U Y 0 0) (Z a) (Du a):=by rw[h.2];exact fK _ _ _ _
  have BT:kt (∀p∈a,Cu C (N+1) p):=by rw[h.2];intro p l;simp at l
  replace h:=h.1
  clear d t r v m z i
 case' inr.inl=>
  have B9:f=K:=by cases f<;>simp_all
  subst B9;rw[i];have c:=k.out.2.2.2.1;unfold DG at c;rw[i,k.out.2.2.1]at c;simp only[if_true]at c;have H:=d.cell 0;have u:=d.cell 1;have G:=d.cell 2;have Go:=d.frozen;simp[BL]at H u G;have q:DV s g 45=K:=bo CW 45;rw[q]at c;simp only[fq,if_false,gA]at c;obtain⟨z,r2,r3⟩:=c;subst r2 r3;have E0:=HI;obtain⟨a,h⟩:∃a:kJ Bs,kt (a.map kE=L)/\a=[]:=⟨[],by show _=_;rw[<-z];rfl,rfl⟩;clear z i;have MB:decide ((g:Int)<(s.size:Int))=K:=by simp;omega
  have Nx:decide (g<s.size)=K:=by simp;omega
  go_wp2_with fail
  go_quiet (fail)
  have R:=(d.drewN nq).set 2 (k0 hG);have Q:=(t.drewN nq).zB ⟨b,2,Y⟩ (by simp;omega) (k0 hG);have AT:=(r.drewN nq).zB ⟨b,2,Y⟩ (by simp;omega) (k0 hG);have AH:=(v.drewN nq).setCell (p:=⟨b,2,Y⟩) (by simp) (k0 hG);have AB:=Af (Dh m nq) (p:=⟨b,2,Y⟩) (by simpa using AS m b (by omega)) (k0 hG);have Ax:kw ((C.drewN nq).setCell ⟨b,2,Y⟩ (k0 hG)) (N+1) 173 9 (U Y 0 0) (Z a) (Du a):=by rw[h.2];exact fK _ _ _ _
  have BT:kt (∀p∈a,Cu ((C.drewN nq).setCell ⟨b,2,Y⟩ (k0 hG)) (N+1) p):=by rw[h.2];intro p l;simp at l
  replace h:=h.1
  clear d t r v m
 case' inr.inr.inl=>
  have B9:f=K:=by cases f<;>simp_all
  subst B9;rw[i];have c:=k.out.2.2.2.1;unfold DG at c;rw[i,k.out.2.2.1]at c;simp only[if_true]at c;have H:=d.cell 0;have u:=d.cell 1;have G:=d.cell 2;have Go:=d.frozen;simp[BL]at H u G;rw[q]at c;simp only[fq,if_false,gA]at c;obtain⟨z,r2,r3⟩:=c;subst r2 r3;have E0:=HI;obtain⟨a,h⟩:∃a:kJ Bs,kt (a.map kE=L)/\a=[]:=⟨[],by show _=_;rw[<-z];rfl,rfl⟩;clear z i;have K1:(g:Int)<(s.size:Int):=by omega
  have hq:((s[g].toNat:Int)==45)=K:=by rw[<-q];exact(Ie CW 45).symm
  go_wp2_with fail
  go_quiet (fail)
  have R:=(d.drewN nq).set 2 (k0 hG);have Q:=(t.drewN nq).zB ⟨b,2,Y⟩ (by simp;omega) (k0 hG);have AT:=(r.drewN nq).zB ⟨b,2,Y⟩ (by simp;omega) (k0 hG);have AH:=(v.drewN nq).setCell (p:=⟨b,2,Y⟩) (by simp) (k0 hG);have AB:=Af (Dh m nq) (p:=⟨b,2,Y⟩) (by simpa using AS m b (by omega)) (k0 hG);have Ax:kw ((C.drewN nq).setCell ⟨b,2,Y⟩ (k0 hG)) (N+1) 173 9 (U Y 0 0) (Z a) (Du a):=by rw[h.2];exact fK _ _ _ _
  have BT:kt (∀p∈a,Cu ((C.drewN nq).setCell ⟨b,2,Y⟩ (k0 hG)) (N+1) p):=by rw[h.2];intro p l;simp at l
  replace h:=h.1
  clear d t r v m
 case' inr.inr.inr=>
  have B9:f=K:=by cases f<;>simp_all
  subst B9;rw[i];have c:=k.out.2.2.2.1;unfold DG at c;rw[i,k.out.2.2.1]at c;simp only[if_true]at c;have H:=d.cell 0;have u:=d.cell 1;have G:=d.cell 2;have Go:=d.frozen;simp[BL]at H u G;rw[q]at c;simp only[if_true]at c;have CW:=Fm q;have K1:(g:Int)<(s.size:Int):=by omega
  have hq:((s[g].toNat:Int)==45)=hG:=by rw[<-q];exact(Ie CW 45).symm
  have E0:a3<=s.size:=by have:=UZ s (g+1) (by omega);rw[c]at this;exact this
  have HR:kt (Da s (g+1)=(L,a3,b3)):=c;clear c i q;go_wp2_with fail
  go_quiet (fail)
  clear hq;go_wp2_with fail
  refine(aA b s (g+1) _ hs (by omega) ((d.drewN nq).set 1 _)).mono ?_;rintro e w4 ⟨bv,a,rfl,Ha,Ix,H7,HM,F⟩;rw[HR.out]at HM Ha;have h:kt (a.map kE=L):=Ha;have HG:=((t.drewN nq).zB ⟨b,1,Y⟩ (by simp;omega) _).kept F (by simp;omega);have H2:=((r.drewN nq).zB ⟨b,1,Y⟩ (by simp;omega) _).kept F (by simp;omega);have H8:=((v.drewN nq).setCell (p:=⟨b,1,Y⟩) (by simp) _).trans F;have HE:=Ad (Af (Dh m nq) (p:=⟨b,1,Y⟩) (by simpa using AS m b (by omega)) _) F (by simp;omega);have EX:kw w4 (N+1) 173 9 bv (Z a) (Du a):=Al Ix (by simp;omega);have FP:kt (∀p∈a,Cu w4 (N+1) p):=λp l=>Al (H7 p l) (by simp;omega)
  have FW:=F.size;simp only[World.size_setCell]at FW;have LS:C.heap.size<=w4.heap.size:=FW;clear d t r v m F Ix H7 Ha H u G Go FW;obtain⟨x,y,rfl⟩:=B5 EX;have e3:=HG.cell 3;have HX:=HG.frozen 3;simp at e3;have R:=HM.zB ⟨N,3,Y⟩ (by simp;omega) (U x (Z a) y);have Q:=HG.set 3 (U x (Z a) y);have AT:=H2.zB ⟨N,3,Y⟩ (by simp;omega) (U x (Z a) y);have AH:=H8.setCell (p:=⟨N,3,Y⟩) (by simp;omega) (U x (Z a) y);have AB:=Af HE (p:=⟨N,3,Y⟩) (by simpa using AS HE N (by omega)) (U x (Z a) y);have Ax:=Af EX (p:=⟨N,3,Y⟩) (by simpa using AS EX N (by omega)) (U x (Z a) y);have BT:kt (∀p∈a,Cu (w4.setCell ⟨N,3,Y⟩ (U x (Z a) y)) (N+1) p):=λp l=>Af (FP.out p l) (by simpa using AS (FP.out p l) N (by omega)) _
  clear HM H2 H8 HE EX FP
 all_goals
  have M0:=R.lt;have NA:=Q.lt;go_wp2_with fail
  refine(Mw b s _ _ 46 46 _ rfl hs E0 R).mono ?_;rintro e w6 ⟨rfl,HZ,D⟩;have FA:=k.out.2.2.2.2;simp only[Bm,gA]at FA;rw[FA.1,FA.2]at HZ;have K5:=Q.kept D (by simp;omega);have HD:=AT.kept D (by simp;omega);have K6:=AH.trans D;have K8:=Ad AB D (by simp;omega);have K2:=Ad Ax D (by simp;omega);have K9:kt (∀p∈a,Cu w6 (N+1) p):=λp l=>(BT.out p l).kept D (by simp;omega)
  clear R Q AT AH AB Ax D FA BT;have I:=K5.cell;have M:=HD.cell;have M1:=HD.frozen;have e0:=I 0;have e1:=I 1;have e2:=I 2;have e3:=I 3;have e4:=I 4;have f0:=M 0;have f1:=M 1;have f2:=M 2;have f3:=M 3;have f4:=M 4;simp at e0 e1 e2 e3 e4 f0 f1 f2 f3 f4;clear I M;go_wp2;have W:∀{v0 v1 v2 v3 v4:ks},Ac [w.heap.size] w6 (((((w6.setCell ⟨w.heap.size,0,Y⟩ v0).setCell ⟨w.heap.size,1,Y⟩ v1).setCell ⟨w.heap.size,2,Y⟩ v2).setCell ⟨w.heap.size,3,Y⟩ v3).setCell ⟨w.heap.size,4,Y⟩ v4):=by
   intro v0 v1 v2 v3 v4
   repeat (refine Ac.setCell ?_ (by simp) _)
   exact kL _ _
  refine fL (BK rfl rfl (((((HD.set 0 _).set 1 _).set 2 _).set 3 _).set 4 _) underlying90 rfl (by kernel_rfl)) rfl ⟨U S (Z A.args) P,by first|exact U x (Z a) y|exact U Y 0 0,a,?_,?_,?_,?_,?_,?_,?_⟩
  .simp[Dg]
  .exact Al (Ad K8 W (by simp;omega)) (by omega)
  .exact h.out
  .exact Al (Ad K2 W (by simp;omega)) (by omega)
  .exact λp l=>Al ((K9.out p l).kept W (by simp;omega)) (by omega)
  .exact HZ.kept W (by simp;omega)
  .exact K6.trans' W (by simp)
def ZH(s:zA)(a:Nat)(c:Bool)(h:a<=s.size):(DG s a c).2.1<=s.size:=by
 have b:=DB s a c 58 h;unfold DG;split
 .split
  .rename_i d;exact UZ _ _ (by have:=Fm d;omega)
  .exact b
 .exact b
def U2(s:zA)(a:Nat)(b:Bool):a<=(DG s a b).2.1:=by
 have c:=Eb s a b 58;unfold DG;split
 .split
  .have:=Uw s (BW s a b 58+1);omega
  .exact c
 .exact c
def I1(s:zA)(a:Nat)(h:a<=s.size):(Ao s a).2.1<=s.size:=by
 unfold Ao;simp only;exact DB _ _ _ _ (ZH _ _ _ (IB _ _ _ (Bj _ _ h)))
def Po{at_:Nat}(h:(Ao s at_).2.2=K):at_<(Ao s at_).2.1:=by
 unfold Ao at h⊢;simp only at h⊢;have a:=BR s at_;have b:=J0 s (Ae s at_) K;have d:=U2 s (AV s (Ae s at_) K).2.1 (AV s (Ae s at_) K).2.2;have c:=RM h;omega
def Pe(b:Nat)(s:zA)(a:Nat)(w:kq)(y:s.size<=1000000)(x:a<=s.size)(B:AF w b (BL s a K) 81):
  Calls prog 35 #[j2 (V ⟨b,0,Y⟩)] w λe h=>∃(t u:ks) (l:kJ Bs),e=j3 (kx (j1 (Dg (Ao s a).1 t u)))/\kw h w.heap.size 135 2 t (Z (Ao s a).1.head.args) ((Ao s a).1.head.args.flatMap AP)/\
   l.map kE=(Ao s a).1.body/\kw h w.heap.size 173 9 u (Z l) (Du l)/\(∀p∈l,Cu h w.heap.size p)/\AF h b (BL s (Ao s a).2.1 (Ao s a).2.2) 81/\Ac [b] w h:=by
 obtain⟨j,r⟩:=kK (Ae s a);obtain⟨A,d,c,n⟩:∃A d c,AV s j K=(A,d,c):=⟨_,_,_,rfl⟩;obtain⟨m,z⟩:=kK (BW s d c 58);obtain⟨L,g,f,o⟩:∃L g f,DG s d c=(L,g,f):=⟨_,_,_,rfl⟩;obtain⟨i,k,q⟩:∃i k,Bm s g f 46=(i,k):=⟨_,_,rfl⟩;have e:Ao s a=(⟨A,L,j⟩,i,k):=by unfold Ao;simp only[r,n,o,q]
 rw[e];have v:kt (Ae s a=j/\AV s j K=(A,d,c)/\BW s d c 58=m/\DG s d c=(L,g,f)/\Bm s g f 46=(i,k)):=⟨r,n,z,o,q⟩;exact WD b s a j w A d m g c f L i k y x v B
def C1(l:kJ zA)(x:zA):Bool:=l.any λy=>y.toList==x.toList
def Km(l:kJ zA)(y x:zA):C1 (l++[y]) x=(C1 l x||(y.toList==x.toList)):=by simp[C1,jT]
def Ze(a:k<Z e)(x:zA):C1 (e.take (k+1)) x=(C1 (e.take k) x||(e[k].toList==x.toList)):=by
 rw[fm a,Km]
def ZJ(a:k<Z e)(h:(e[k].toList==s.toList)=hG):C1 e s=hG:=by
 unfold C1;rw[gV];exact⟨e[k],fj a,h⟩
set_option maxRecDepth 512
theorem Dr(d:ks)(l:kJ zA)(x:zA)(q:Nat)(w:kq)(b:kw w q 9 1 d (Z l) (l.flatMap Ah))(y:Z l<=1000000):
  Calls prog 47 #[d,O x] w λe m=>e=j3 (k0 (C1 l x))/\m=w:=by
 obtain⟨z,t,rfl⟩:=Aj b;go_enter func47,ntmps47;go_wp2
 go_loop [5] (λi=>∃k:Nat,i=X J k/\k<=Z l/\kt (C1 (l.take k) x=K)) (λi=>Z l-(intOf i).toNat)
 case atStart=>exact⟨0,rfl,fP _,by show _=_;simp[C1]⟩
 case round=>
  obtain⟨k,rfl,s,j⟩:=hrel;by_cases a:k<Z l
  .obtain⟨g,u,c,v,f⟩:=AC b (by simp[Ah]) k a;simp only[fg]at c;obtain⟨rfl,_,rfl⟩:=c;have n:=f k a 0 (by omega);simp[Ah]at n;clear f;have r:kt ((l[k].toList==x.toList)=hG->C1 l x=hG):=ZJ a;have o:kt ((l[k].toList==x.toList)=K->C1 (l.take (k+1)) x=K):=by
    intro h;rw[Ze a,j.out,h];rfl
   go_wp2
   .go_ret;rw[r.out (by assumption)];exact⟨rfl,rfl⟩
   .go_round
    case rel=>exact⟨k+1,by go_num,by omega,o.out (by assumption)⟩
    case measure=>simp[intOf];omega
  ·(have p:kt (C1 l x=K):=by have:=j.out;rwa [fo (by omega)]at this);go_wp2;go_ret;rw[p.out];exact⟨rfl,rfl⟩
structure AY where
 head:C8
 hv:ks
 bv:ks
 bl:kJ Bs
 at_:Nat
def BG(c:AY):kJ ks:=[O c.head.name,c.hv,X J c.head.at_,c.bv,X J c.at_]
def A8(p:Bs):kJ ks:=Co p.1 p.2
def Bw(c:AY):Z (BG c)=5:=rfl
def BS(p:Bs):Z (A8 p)=9:=rfl
def Ge(t:AG):Z (AP t)=2:=rfl
structure V2(w:kq)(c:AY):Prop where
 args:kw w 0 135 2 c.hv (Z c.head.args) (c.head.args.flatMap AP)
 body:kw w 0 173 9 c.bv (Z c.bl) (c.bl.flatMap A8)
 lits:∀p∈c.bl,Cu w 0 p
structure Cd(w:kq)(lv:ks)(cs:kJ AY):Prop where
 row:kw w 0 90 5 lv (Z cs) (cs.flatMap BG)
 each:∀c∈cs,V2 w c
def V2.kept{w w':kq}{c:AY}(h:V2 w c)(k:Ac [] w w'):V2 w' c:=
 ⟨Ad h.args k,Ad h.body k,λp a=>Ad (h.lits p a) k⟩
def Cd.kept{w w':kq}{a:ks}{b:kJ AY}(h:Cd w a b)(k:Ac [] w w'):Cd w' a b:=
 ⟨Ad h.row k,λc d=>(h.each c d).kept k⟩
def On(p:Bs):Bool:=p.1.kind==97||p.1.kind==33
def QD(bl:kJ Bs)(x:zA):Option Nat:=bl.findSome? λp=>if On p&&(p.1.A.name.toList==x.toList)then V (Z p.1.A.args) else Y
def FQ(c:AY)(x:zA):Option Nat:=if c.head.name.toList==x.toList then V (Z c.head.args) else QD c.bl x
def B3(cs:kJ AY)(x:zA):Int:=match cs.findSome? (FQ · x)with|some n=>n|none=> -1
def FE{α β:Type}(f:α->Option β)(l:kJ α)(k:Nat)(a:k<Z l)(b:(l.take k).findSome? f=Y):(l.take (k+1)).findSome? f=f l[k]:=by
 rw[fm a,j8,b];simp
def GG{α β:Type}(f:α->Option β)(l:kJ α)(k:Nat)(a:k<Z l)(c:(l.take k).findSome? f=Y){b:β}(d:f l[k]=V b):l.findSome? f=V b:=by
 have h:=FE f l k a c;rw[d]at h;have e:l=l.take (k+1)++l.drop (k+1):=(gL _ _).symm;rw[e,j8,h];rfl
def E1(p:Bs):(((p.1.kind.toNat:Int)==97)=hG/\On p=hG)\/(((p.1.kind.toNat:Int)==97)=K/\((p.1.kind.toNat:Int)==33)=hG/\On p=hG)\/
  (((p.1.kind.toNat:Int)==97)=K/\((p.1.kind.toNat:Int)==33)=K/\On p=K):=by
 have b:((p.1.kind.toNat:Int)==97)=(p.1.kind==97):=Ck _ 97;have a:((p.1.kind.toNat:Int)==33)=(p.1.kind==33):=Ck _ 33;rw[b,a];unfold On;cases(p.1.kind==97)<;>cases(p.1.kind==33)<;>simp
set_option maxRecDepth 100000
theorem Kg(pb:Nat)(lv:ks)(a:kJ AY)(x:zA)(w:kq)(hP:AF w pb [lv] 84)(L:Cd w lv a)(HL:Z a<=1000000)(R:∀c∈a,Z c.bl<=1000000):
  Calls prog 45 #[j2 (V ⟨pb,0,Y⟩),O x] w λe w'=>e=j3 (X J (B3 a x))/\Ac [] w w':=by
 obtain⟨ad,FB,rfl⟩:=Aj L.row;have G:kt (Cd w (U ad (Z a) FB) a/\∀c∈a,Z c.bl<=1000000):=⟨L,R⟩;clear L R;go_enter func45,ntmps45;go_wp2
 go_loopw [5] (λi wr=>∃k:Nat,i=X J k/\k<=Z a/\kt ((a.take k).findSome? (FQ · x)=Y)/\Ac [] w wr) (λi _=>Z a-(intOf i).toNat)
 case atStart=>exact⟨0,rfl,fP _,by show _=_;simp,kL _ _⟩
 case round=>
  obtain⟨k,rfl,hk,y,q⟩:=hrel;have z:=(hP.kept q).cell 0;simp at z;by_cases f:k<Z a
  .have F:=G.out.1.kept q;obtain⟨g,HH,he,hc,v⟩:=AC F.row (λc _=>Bw c) k f;simp only[fg]at he;obtain⟨rfl,_,rfl⟩:=he;have S:=v k f 0 (by omega);have P:=v k f 1 (by omega);have t:=v k f 3 (by omega);simp[BG]at S P t;have n:=F.each a[k] (fj f);have HQ:=G.out.2 a[k] (fj f);obtain⟨HP,HG,B9⟩:=Aj n.args;obtain⟨EX,E0,C⟩:=Aj n.body;rw[B9]at P;rw[C]at t;have EM:kt (V2 wr a[k]):=n;have AT:kt (a[k].bv=U EX a[k].bl.length E0):=C;clear v F n B9 C;cases hnm:(a[k].head.name.toList==x.toList)with
   |true=>
    have M:kt (B3 a x=(a[k].head.args.length:Int)):=by
     show _=_;unfold B3;rw[GG (FQ · x) a k f y.out (b:=a[k].head.args.length) (by simp[FQ,hnm])]
    go_wp2;go_ret;rw[M.out];exact⟨rfl,q⟩
   |false=>
    (have HA:kt (FQ a[k] x=QD a[k].bl x):=by show _=_;simp[FQ,hnm]);go_wp2;clear S P
    go_loopw [6] (λi W=>∃m:Nat,i=X J m/\m<=a[k].bl.length/\kt ((a[k].bl.take m).findSome? (λp=>if On p&&(p.1.A.name.toList==x.toList)then V (Z p.1.A.args) else Y)=Y)/\Ac [] w W) (λi _=>a[k].bl.length-(intOf i).toNat)
    case atStart=>exact⟨0,rfl,fP _,by show _=_;simp,q⟩
    case round=>
     rename_i W _;obtain⟨m,rfl,hm,B,o⟩:=hrel;clear z t q EM;have z:=(hP.kept o).cell 0;simp at z;have E:=G.out.1.kept o;obtain⟨g2,HO,Bx,_,Ax⟩:=AC E.row (λc _=>Bw c) k f;simp only[fg,fu,gi]at Bx;obtain⟨⟨rfl,_,_⟩,_,rfl⟩:=Bx;have t:=Ax k f 3 (by omega);simp[BG]at t;rw[AT.out]at t;have n:=E.each a[k] (fj f);clear Ax E;by_cases d:m<a[k].bl.length
     .obtain⟨gb,HT,N,HD,l⟩:=AC n.body (λc _=>BS c) m d;rw[AT.out]at N;simp only[fg]at N;obtain⟨rfl,_,rfl⟩:=N;have hl:=n.lits a[k].bl[m] (fj d);obtain⟨HS,HF,T⟩:=Aj hl;have d0:=l m d 0 (by omega);have d1:=l m d 1 (by omega);have Q:=l m d 2 (by omega);have d3:=l m d 3 (by omega);have d4:=l m d 4 (by omega);have d5:=l m d 5 (by omega);have d6:=l m d 6 (by omega);have d7:=l m d 7 (by omega);have d8:=l m d 8 (by omega);simp[A8,Co]at d0 d1 Q d3 d4 d5 d6 d7 d8;rw[T]at Q;clear l hl T n;have s:kt (On a[k].bl[m]=K\/(a[k].bl[m].1.A.name.toList==x.toList)=K->(a[k].bl.take (m+1)).findSome? (λp=>if On p&&(p.1.A.name.toList==x.toList)then V (Z p.1.A.args) else Y)=Y):=by
       intro h;rw[FE _ _ m d B.out];rcases h with h|h<;>simp[h]
      have r:kt (On a[k].bl[m]=hG->(a[k].bl[m].1.A.name.toList==x.toList)=hG->B3 a x=(a[k].bl[m].1.A.args.length:Int)):=by
       intro h1 h2;have h3:=GG (λp:Bs=>if On p&&(p.1.A.name.toList==x.toList)then V (Z p.1.A.args) else Y) a[k].bl m d B.out (b:=a[k].bl[m].1.A.args.length) (by simp[h1,h2]);(have h4:FQ a[k] x=V a[k].bl[m].1.A.args.length:=by rw[HA.out];exact h3);unfold B3;rw[GG (FQ · x) a k f y.out h4]
      cases hnm2:(a[k].bl[m].1.A.name.toList==x.toList)with
      |true=>
       rcases E1 a[k].bl[m] with⟨u,j⟩|⟨u,H,j⟩|⟨u,H,j⟩
       .have D:=Ab (r.out j hnm2);clear r s j;go_wp2;go_ret;rw[Aa D];exact⟨rfl,o.alloc _⟩
       .have D:=Ab (r.out j hnm2);clear r s j;go_wp2;go_ret;rw[Aa D];exact⟨rfl,o.alloc _⟩
       .have I:=Ab (s.out (kn j));clear r s j;go_wp2
        go_roundw
        case rel=>exact⟨m+1,by go_num,by omega,I,o.alloc _⟩
        case measure=>simp[intOf];omega
      |false=>
       have I:=Ab (s.out (kp hnm2));rcases E1 a[k].bl[m] with⟨u,j⟩|⟨u,H,j⟩|⟨u,H,j⟩;all_goals
        clear r s j;go_wp2
        go_roundw
        case rel=>exact⟨m+1,by go_num,by omega,I,o.alloc _⟩
        case measure=>simp[intOf];omega
     .have HZ:kt ((a.take (k+1)).findSome? (FQ · x)=Y):=by
       show _=_;rw[FE _ _ k f y.out];have h:=B.out;rw[fo (by omega)]at h;rw[HA.out];exact h
      go_wp2
      go_roundw
      case rel=>exact⟨k+1,by go_num,by omega,HZ,o⟩
      case measure=>simp[intOf];omega
  .have M:kt (B3 a x= -1):=by
    have h:=y.out;rw[fo (by omega)]at h;show _=_;unfold B3;rw[h]
   go_wp2;go_ret;rw[M.out];exact⟨rfl,q⟩
def A2(p:Bs):kJ AG:=if On p then p.1.A.args else[p.1.L,p.1.R]
theorem Rs(p:Bs)(w:kq)(c:Cu w 0 p):
  Calls prog 86 #[kx (j1 (A8 p))] w λe k=>∃j,e=j3 j/\kw k 0 135 2 j (Z (A2 p)) ((A2 p).flatMap AP)/\Ac [] w k:=by
 obtain⟨g,f,d⟩:=Aj c;simp only[A8,Co,d];rcases E1 p with⟨i,b⟩|⟨i,l,b⟩|⟨i,l,b⟩
 .have a:kt (A2 p=p.1.A.args/\p.2=U g (Z p.1.A.args) f/\Cu w 0 p):=⟨by unfold A2;simp[b],d,c⟩;clear b d c;go_enter func86,ntmps86;go_wp2;go_ret;refine⟨_,rfl,?_,(kL _ _).alloc _⟩;rw[a.out.1];have h:kw w 0 135 2 _ _ _:=a.out.2.2;rw[a.out.2.1]at h;exact h.alloc _
 .have a:kt (A2 p=p.1.A.args/\p.2=U g (Z p.1.A.args) f/\Cu w 0 p):=⟨by unfold A2;simp[b],d,c⟩;clear b d c;go_enter func86,ntmps86;go_wp2;go_ret;refine⟨_,rfl,?_,(kL _ _).alloc _⟩;rw[a.out.1];have h:kw w 0 135 2 _ _ _:=a.out.2.2;rw[a.out.2.1]at h;exact h.alloc _
 .have a:kt (A2 p=[p.1.L,p.1.R]):=by show _=_;unfold A2;simp[b]
  clear b d c;go_enter func86,ntmps86;go_wp2;go_ret;refine⟨_,rfl,?_,((kL _ _).alloc _).alloc _⟩;rw[a.out];refine⟨rfl,kp ⟨_,2,#[X .u8 p.1.L.v.toNat,O p.1.L.s,X .u8 p.1.R.v.toNat,O p.1.R.s],rfl,fP _,by have h:=fX (w.alloc (jj #[X .u8 p.1.kind.toNat,O p.1.A.name,U g (Z p.1.A.args) f,X J p.1.A.at_,X .u8 p.1.L.v.toNat,O p.1.L.s,X .u8 p.1.R.v.toNat,O p.1.R.s,X J p.1.at_] 173)) (jj #[X .u8 p.1.L.v.toNat,O p.1.L.s,X .u8 p.1.R.v.toNat,O p.1.R.s] 135);rw[fY]at h;exact h,by simp,by unfold maxLen;omega,rfl,?_⟩⟩;simp[AP]
def QP(l:kJ AG)(v:UInt8):Bool:=l.any λt=>t.v==v
def JA(v:UInt8)(p:Bs):Bool:=p.1.kind==97&&QP p.1.A.args v
def Jw(bl:kJ Bs)(v:UInt8):Bool:=bl.any (JA v)
def C4{α:Type}(f:α->Bool)(l:kJ α)(k:Nat)(a:k<Z l)(b:(l.take k).any f=K):(l.take (k+1)).any f=f l[k]:=by
 rw[fm a,jT,b];simp
def Jl{α:Type}(f:α->Bool)(l:kJ α)(k:Nat)(a:k<Z l)(h:f l[k]=hG):l.any f=hG:=by
 rw[gV];exact⟨_,fj a,h⟩
theorem J6(I:ks)(a:kJ Bs)(n:Int)(v:UInt8)(w:kq)(W:n=v.toNat)(l:kw w 0 173 9 I (Z a) (a.flatMap A8))(D:∀p∈a,Cu w 0 p)(BT:Z a<=1000000)(H:∀p∈a,Z p.1.A.args<=1000000):
  Calls prog 115 #[I,X .u8 n] w λe L=>e=j3 (k0 (Jw a v))/\L=w:=by
 subst W;obtain⟨R,Q,rfl⟩:=Aj l;have o:kt (kw w 0 173 9 (U R (Z a) Q) (Z a) (a.flatMap A8)/\(∀p∈a,Cu w 0 p)/\(∀p∈a,Z p.1.A.args<=1000000)):=⟨l,D,H⟩;clear l D H;go_enter func115,ntmps115;go_wp2
 go_loop [5] (λi=>∃k:Nat,i=X J k/\k<=Z a/\kt ((a.take k).any (JA v)=K)) (λi=>Z a-(intOf i).toNat)
 case atStart=>exact⟨0,rfl,fP _,by show _=_;simp⟩
 case round=>
  obtain⟨k,rfl,hk,q⟩:=hrel;by_cases b:k<Z a
  .obtain⟨g,Bx,G,hc,r⟩:=AC o.out.1 (λc _=>BS c) k b;simp only[fg]at G;obtain⟨rfl,_,rfl⟩:=G;have S:=r k b 0 (by omega);have y:=r k b 2 (by omega);simp[A8,Co]at S y;have s:=o.out.2.1 a[k] (fj b);have AR:=o.out.2.2 a[k] (fj b);obtain⟨T,M,j⟩:=Aj s;rw[j]at y;have HI:kt (kw w 0 135 2 (U T a[k].1.A.args.length M) a[k].1.A.args.length (a[k].1.A.args.flatMap AP)):=by
    have h:kw w 0 135 2 _ _ _:=s;rw[j]at h;exact h
   clear r s j;have F:((a[k].1.kind.toNat:Int)==97)=(a[k].1.kind==97):=Ck _ 97;cases hkd:(a[k].1.kind==97)with
   |false=>
    rw[hkd]at F;(have d:kt ((a.take (k+1)).any (JA v)=K):=by show _=_;rw[C4 _ _ k b q.out];simp[JA,hkd]);clear hkd;go_wp2
    go_loop [6] (λi=>i=X J 0) (λ_=>0)
    case atStart=>rfl
    case round=>
     subst hrel;go_wp2
     go_round
     case rel=>exact⟨k+1,by go_num,by omega,d⟩
     case measure=>simp[intOf];omega
   |true=>
    rw[hkd]at F;(have d:kt (QP a[k].1.A.args v=K->(a.take (k+1)).any (JA v)=K):=by intro h;rw[C4 _ _ k b q.out];simp[JA,h]);(have u:kt (QP a[k].1.A.args v=hG->Jw a v=hG):=by intro h;exact Jl _ _ k b (by simp[JA,hkd,h]));clear hkd;go_wp2
    go_loop [6] (λi=>∃m:Nat,i=X J m/\m<=a[k].1.A.args.length/\kt ((a[k].1.A.args.take m).any (λt=>t.v==v)=K)) (λi=>a[k].1.A.args.length-(intOf i).toNat)
    case atStart=>exact⟨0,rfl,fP _,by show _=_;simp⟩
    case round=>
     obtain⟨m,rfl,hm,z⟩:=hrel;by_cases f:m<a[k].1.A.args.length
     .obtain⟨ga,CC,B,AT,E⟩:=AC HI.out (λc _=>Ge c) m f;simp only[fg]at B;obtain⟨rfl,_,rfl⟩:=B;have P:=E m f 0 (by omega);simp[AP]at P;clear E;have C:((a[k].1.A.args[m].v.toNat:Int)==(v.toNat:Int))=(a[k].1.A.args[m].v==v):=Ck _ v;cases hv:(a[k].1.A.args[m].v==v)with
      |true=>
       rw[hv]at C;have N:=Ab (u.out (Jl _ _ m f hv));clear hv u d;go_wp2;go_ret;rw[Aa N];exact⟨rfl,rfl⟩
      |false=>
       rw[hv]at C;(have x:kt ((a[k].1.A.args.take (m+1)).any (λt=>t.v==v)=K):=by show _=_;rw[C4 _ _ m f z.out];exact hv);clear hv u d;go_wp2
       go_round
       case rel=>exact⟨m+1,by go_num,by omega,x⟩
       case measure=>simp[intOf];omega
     .have x:=Ab (d.out (by have h:=z.out;rwa [fo (by omega)]at h));go_wp2
      go_round
      case rel=>exact⟨k+1,by go_num,by omega,x⟩
      case measure=>simp[intOf];omega
  ·(have HE:kt (Jw a v=K):=by have h:=q.out;rwa [fo (by omega)]at h);go_wp2;go_ret;rw[HE.out];exact⟨rfl,rfl⟩
def CE(bl:kJ Bs)(t:AG):Bool:= !(t.v==0||Jw bl t.v)
def I4(bl:kJ Bs)(p:Bs):Bool:=(A2 p).any (CE bl)
def FI(head:C8)(bl:kJ Bs):Int:=if head.args.any (CE bl)then head.at_ else match bl.find? (I4 bl)with|some p=>p.1.at_|none=> -1
def FZ{α:Type}(f:α->Bool)(l:kJ α)(k:Nat)(a:k<Z l)(d:(l.take k).any f=K)(h:f l[k]=hG):l.find? f=V l[k]:=by
 have e:l.find? f=(l.take k++l.drop k).find? f:=by rw[gL]
 rw[e,jY];have c:(l.take k).find? f=Y:=by
  rw[iN];intro x g b;have:(l.take k).any f=hG:=by rw[gV];exact⟨x,g,b⟩
  rw[d]at this;cases this
 rw[c,Option.none_or,fQ a,List.find?_cons_of_pos h]
theorem aL(b:C8)(hv bv:ks)(a:kJ Bs)(w:kq)(W:kw w 0 135 2 hv (Z b.args) (b.args.flatMap AP))(Q:kw w 0 173 9 bv (Z a) (a.flatMap A8))(hl:∀p∈a,Cu w 0 p)(D:Z a<=1000000)(B9:∀p∈a,Z p.1.A.args<=1000000)(HU:Z b.args<=1000000):
  Calls prog 76 #[kx (j1 (Cc b.name hv b.at_)),bv] w λe w'=>e=j3 (X J (FI b a))/\Ac [] w w':=by
 obtain⟨N,L,rfl⟩:=Aj W;obtain⟨ad,FO,rfl⟩:=Aj Q;simp only[Cc];have l:kt (kw w 0 135 2 (U N (Z b.args) L) (Z b.args) (b.args.flatMap AP)/\kw w 0 173 9 (U ad (Z a) FO) (Z a) (a.flatMap A8)/\(∀p∈a,Cu w 0 p)/\(∀p∈a,Z p.1.A.args<=1000000)):=⟨W,Q,hl,B9⟩;clear W Q hl B9;have H4:∀(x:Bool) (w:kq),(Op.unary .not (k0 x)).run prog w=.ok (k0 (!x)) w:=λ_ _=>rfl
 go_enter func76,ntmps76;go_wp2_with fail
 go_loopw [5] (λi wr=>∃k:Nat,i=X J k/\k<=Z b.args/\kt ((b.args.take k).any (CE a)=K)/\wr=w.alloc (jj #[O b.name,U N (Z b.args) L,X J b.at_] 87)) (λi _=>Z b.args-(intOf i).toNat)
 case atStart=>exact⟨0,rfl,fP _,by show _=_;simp,rfl⟩
 case round=>
  obtain⟨k,rfl,hk,HC,rfl⟩:=hrel;by_cases F:k<Z b.args
  .obtain⟨g,CL,r,hc,f⟩:=AC (l.out.1.alloc (jj #[O b.name,U N (Z b.args) L,X J b.at_] 87)) (λc _=>Ge c) k F;simp only[fg]at r;obtain⟨rfl,_,rfl⟩:=r;have E:=f k F 0 (by omega);simp[AP]at E;clear f;have y:((b.args[k].v.toNat:Int)==0)=(b.args[k].v==0):=Ck _ 0;(have n:kt (CE a b.args[k]=K->(b.args.take (k+1)).any (CE a)=K):=by intro h;rw[C4 _ _ k F HC.out];exact h);(have o:kt (CE a b.args[k]=hG->FI b a=(b.at_:Int)):=by intro h;unfold FI;rw[fF (Jl _ _ k F h)]);cases hz:(b.args[k].v==0)with
   |true=>
    rw[hz]at y;have C:=Ab (n.out (by simp[CE,hz]));clear hz n o;go_wp2_with fail
    go_roundw
    case rel=>exact⟨k+1,by go_num,by omega,C,by trivial⟩
    case measure=>simp[intOf];omega
   |false=>
    rw[hz]at y;cases hbd:Jw a b.args[k].v with
    |true=>
     have C:=Ab (n.out (by simp[CE,hbd]));clear hz n o;go_wp2_with (go_at_call 115;refine(J6 _ a _ b.args[k].v _ rfl (l.out.2.1.alloc _) (λp B=>(l.out.2.2.1 p B).alloc _) D l.out.2.2.2).mono ?_;rintro e t ⟨rfl,rfl⟩;rw[hbd])
     go_roundw
     case rel=>exact⟨k+1,by go_num,by omega,C,by trivial⟩
     case measure=>simp[intOf];omega
    |false=>
     have HK:=Ab (o.out (by simp[CE,hbd,hz]));clear hz n o;go_wp2_with (go_at_call 115;refine(J6 _ a _ b.args[k].v _ rfl (l.out.2.1.alloc _) (λp B=>(l.out.2.2.1 p B).alloc _) D l.out.2.2.2).mono ?_;rintro e t ⟨rfl,rfl⟩;rw[hbd])
     go_ret;rw[Aa HK];exact⟨rfl,(kL _ _).alloc _⟩
  ·(have HH:kt (b.args.any (CE a)=K):=by have h:=HC.out;rwa [fo (by omega)]at h);clear HC;have FL:=(kL [] w).alloc (jj #[O b.name,U N (Z b.args) L,X J b.at_] 87);go_wp2_with fail
   go_loopw [7] (λi wr=>∃k:Nat,i=X J k/\k<=Z a/\kt ((a.take k).any (I4 a)=K)/\Ac [] w wr) (λi _=>Z a-(intOf i).toNat)
   case atStart=>exact⟨0,rfl,fP _,by show _=_;simp,FL⟩
   case round=>
    rename_i wr _ _;obtain⟨q,rfl,hq,R,u⟩:=hrel;clear FL;by_cases d:q<Z a
    .have s:=Ad l.out.2.1 u;obtain⟨g,CL,r,hc,f⟩:=AC s (λc _=>BS c) q d;simp only[fg]at r;obtain⟨rfl,_,rfl⟩:=r;have AT:Cu _ 0 a[q]:=(l.out.2.2.1 a[q] (fj d)).kept u;obtain⟨H8,H3,AH⟩:=Aj AT;have T:=Rs a[q] _ AT;simp only[A8,Co,AH]at T;have E:=f q d 0 (by omega);have d1:=f q d 1 (by omega);have P:=f q d 2 (by omega);have d3:=f q d 3 (by omega);have d4:=f q d 4 (by omega);have d5:=f q d 5 (by omega);have d6:=f q d 6 (by omega);have d7:=f q d 7 (by omega);have d8:=f q d 8 (by omega);simp[A8,Co]at E d1 P d3 d4 d5 d6 d7 d8;rw[AH]at P;have HT:=Ab T;clear f s AT AH T;(have n:kt (I4 a a[q]=K->(a.take (q+1)).any (I4 a)=K):=by intro h;rw[C4 _ _ q d R.out];exact h);have o:kt (I4 a a[q]=hG->FI b a=(a[q].1.at_:Int)):=by
      intro h;unfold FI;rw[fB (by rw[HH.out];exact iC),FZ _ _ q d R.out h]
     have HL:Z (A2 a[q])<=1000000:=by
      have:=l.out.2.2.2 a[q] (fj d);unfold A2;split<;>simp<;>omega
     (go_wp2_with fail);refine HT.mono ?_;rintro e t ⟨tv,rfl,AB,FP⟩;have I:=u.trans FP;have s:=Ad l.out.2.1 I;obtain⟨g',CL,r,_,f⟩:=AC s (λc _=>BS c) q d;simp only[fg,fu,gi]at r;obtain⟨⟨rfl,_,_⟩,_,rfl⟩:=r;have e8:=f q d 8 (by omega);simp[A8,Co]at e8;have M:kt (kw t 0 173 9 (U (V ⟨g,0,Y⟩) (Z a) FO) (Z a) (a.flatMap A8)/\(∀p∈a,Cu t 0 p)):=⟨s,λp B=>(l.out.2.2.1 p B).kept I⟩;clear f s E d1 P d3 d4 d5 d6 d7 d8 HT FP u;obtain⟨H7,H6,rfl⟩:=Aj AB;have HO:=Ab AB;clear AB;obtain⟨j,Ax⟩:=kK (A2 a[q]);rw[Ax]at HO HL⊢;have FF:=Ab Ax;clear Ax;go_wp2_with fail
     go_loop [9] (λi=>∃m:Nat,i=X J m/\m<=Z j/\kt ((j.take m).any (CE a)=K)) (λi=>Z j-(intOf i).toNat)
     case atStart=>exact⟨0,rfl,fP _,by show _=_;simp⟩
     case round=>
      obtain⟨m,rfl,hm,HM⟩:=hrel;by_cases H:m<Z j
      .obtain⟨ga,HZ,EY,HV,FW⟩:=AC HO (λc _=>Ge c) m H;simp only[fg]at EY;obtain⟨rfl,_,rfl⟩:=EY;have f0:=FW m H 0 (by omega);simp[AP]at f0;clear FW;have y:((j[m].v.toNat:Int)==0)=(j[m].v==0):=Ck _ 0;(have z:kt (CE a j[m]=K->(j.take (m+1)).any (CE a)=K):=by intro h;rw[C4 _ _ m H HM.out];exact h);(have G:kt (CE a j[m]=hG->FI b a=(a[q].1.at_:Int)):=by intro h;exact o.out (by unfold I4;rw[Aa FF];exact Jl _ _ m H h));cases hz:(j[m].v==0)with
       |true=>
        rw[hz]at y;have S:=Ab (z.out (by simp[CE,hz]));clear hz z G n o;go_wp2_with fail
        go_round
        case rel=>exact⟨m+1,by go_num,by omega,S⟩
        case measure=>simp[intOf];omega
       |false=>
        rw[hz]at y;cases hbd:Jw a j[m].v with
        |true=>
         have S:=Ab (z.out (by simp[CE,hbd]));clear hz z G n o;go_wp2_with (go_at_call 115;refine(J6 _ a _ j[m].v _ rfl M.out.1 M.out.2 D l.out.2.2.2).mono ?_;rintro e t ⟨rfl,rfl⟩;rw[hbd])
         go_round
         case rel=>exact⟨m+1,by go_num,by omega,S⟩
         case measure=>simp[intOf];omega
        |false=>
         have Ha:=Ab (G.out (by simp[CE,hbd,hz]));clear hz z G n o;go_wp2_with (go_at_call 115;refine(J6 _ a _ j[m].v _ rfl M.out.1 M.out.2 D l.out.2.2.2).mono ?_;rintro e t ⟨rfl,rfl⟩;rw[hbd])
         go_ret;rw[Aa Ha];exact⟨rfl,I⟩
      .have C:=Ab (n.out (by unfold I4;rw[Aa FF];have h:=HM.out;rwa [fo (by omega)]at h));clear n o;go_wp2_with fail
       go_roundw
       case rel=>exact⟨q+1,by go_num,by omega,C,I⟩
       case measure=>simp[intOf];omega
    .have HE:kt (FI b a= -1):=by
      have h:=R.out;rw[fo (by omega)]at h;show _=_;unfold FI;rw[fB (by rw[HH.out];exact iC)];have:a.find? (I4 a)=Y:=by
       rw[iN];intro x hx hf;(have:a.any (I4 a)=hG:=by rw[gV];exact⟨x,hx,hf⟩);rw[h]at this;cases this
      rw[this]
     (go_wp2_with fail);go_ret;rw[HE.out];exact⟨rfl,u⟩
def Fu(a b:zA):Bool:=
 if Aq (Cw a 0) !=Aq (Cw b 0)then Aq (Cw a 0)
 else if Aq (Cw a 0)&&a.size !=b.size then decide (a.size<b.size)else kH a.toList b.toList
set_option maxRecDepth 512
theorem Mm(a b:zA)(w:kq)(l:0<a.size)(n:0<b.size)(p:a.size<=1000000)(q:b.size<=1000000):
  Calls prog 87 #[O a,O b] w λe k=>e=j3 (k0 (Fu a b))/\k=w:=by
 have j:Cw a 0=a[0]:=by simp[Cw,l]
 have i:Cw b 0=b[0]:=by simp[Cw,n]
 obtain⟨R,c⟩:=kK (Fu a b);rw[c];unfold Fu at c;rw[j,i]at c;have r:(0:Int)<(a.size:Int):=by omega
 have o:(0:Int)<(b.size:Int):=by omega
 clear j i;cases hx:Aq a[0] with
 |true=>
  cases hy:Aq b[0] with
  |true=>
   rw[hx,hy]at c;by_cases h:a.size=b.size
   ·(have g:(a.size !=b.size)=K:=by simp[h]);(have m:((a.size:Int) !=(b.size:Int))=K:=by simp[h]);(have f:kt (kH a.toList b.toList=R):=by show _=_;rw[<-c,g];rfl);clear c g h;go_enter func87,ntmps87;(go_wp2_with fail);refine(CJ _ a[0] _ rfl).mono ?_;rintro e d ⟨rfl,rfl⟩;rw[hx];(go_wp2_with fail);refine(CJ _ b[0] _ rfl).mono ?_;rintro e d ⟨rfl,rfl⟩;rw[hy];go_wp2;go_ret;exact⟨Bb f.out,rfl⟩
   ·(have g:(a.size !=b.size)=hG:=by simp[h]);(have m:((a.size:Int) !=(b.size:Int))=hG:=by simp;omega);(have f:kt (decide (a.size<b.size)=R):=by show _=_;rw[<-c,g];rfl);clear c g h;go_enter func87,ntmps87;(go_wp2_with fail);refine(CJ _ a[0] _ rfl).mono ?_;rintro e d ⟨rfl,rfl⟩;rw[hx];(go_wp2_with fail);refine(CJ _ b[0] _ rfl).mono ?_;rintro e d ⟨rfl,rfl⟩;rw[hy];go_wp2;go_ret;exact⟨Bb f.out,rfl⟩
  |false=>
   rw[hx,hy]at c;(have f:kt (hG=R):=by show _=_;rw[<-c];rfl);clear c;go_enter func87,ntmps87;(go_wp2_with fail);refine(CJ _ a[0] _ rfl).mono ?_;rintro e d ⟨rfl,rfl⟩;rw[hx];(go_wp2_with fail);refine(CJ _ b[0] _ rfl).mono ?_;rintro e d ⟨rfl,rfl⟩;rw[hy];go_wp2;go_ret;exact⟨Bb f.out,rfl⟩
 |false=>
  cases hy:Aq b[0] with
  |true=>
   rw[hx,hy]at c;(have f:kt (K=R):=by show _=_;rw[<-c];rfl);clear c;go_enter func87,ntmps87;(go_wp2_with fail);refine(CJ _ a[0] _ rfl).mono ?_;rintro e d ⟨rfl,rfl⟩;rw[hx];(go_wp2_with fail);refine(CJ _ b[0] _ rfl).mono ?_;rintro e d ⟨rfl,rfl⟩;rw[hy];go_wp2;go_ret;exact⟨Bb f.out,rfl⟩
  |false=>
   rw[hx,hy]at c;(have f:kt (kH a.toList b.toList=R):=by show _=_;rw[<-c];rfl);clear c;go_enter func87,ntmps87;(go_wp2_with fail);refine(CJ _ a[0] _ rfl).mono ?_;rintro e d ⟨rfl,rfl⟩;rw[hx];(go_wp2_with fail);refine(CJ _ b[0] _ rfl).mono ?_;rintro e d ⟨rfl,rfl⟩;rw[hy];go_wp2;go_ret;exact⟨Bb f.out,rfl⟩
def CZ(x:zA)(a:kJ zA×Bool)(y:zA):kJ zA×Bool:=if !a.2&&Fu x y then(a.1++[x]++[y],hG)else(a.1++[y],a.2)
def L8(l:kJ zA)(x:zA):kJ zA×Bool:=l.foldl (CZ x) ([],K)
def Hn(l:kJ zA)(x:zA):kJ zA:=if(L8 l x).2 then(L8 l x).1 else(L8 l x).1++[x]
def X8(a:k<Z e)(x:zA):L8 (e.take (k+1)) x=CZ x (L8 (e.take k) x) e[k]:=by
 unfold L8;rw[fm a,gM];rfl
def T0(x:zA)(a:kJ zA×Bool)(y:zA):Z (CZ x a y).1+a.2.toNat=Z a.1+1+(CZ x a y).2.toNat:=by
 obtain⟨o,d⟩:=a;unfold CZ;cases d<;>cases Fu x y<;>simp
def NU(x:zA):∀(l:kJ zA) (a:kJ zA×Bool),Z (l.foldl (CZ x) a).1+a.2.toNat=Z a.1+Z l+(l.foldl (CZ x) a).2.toNat
 |[],a=>by simp only[List.foldl_nil,gh,jP]
 |y::l,a=>by
  have h:=NU x l (CZ x a y);have b:=T0 x a y;simp only[fZ,fD];omega
def Mt(l:kJ zA)(x:zA):Z (L8 l x).1=Z l+(L8 l x).2.toNat:=by
 have h:=NU x l ([],K);simp only[gh,jL]at h;unfold L8;omega
def Nc(l:kJ zA)(x:zA):Z (Hn l x)=Z l+1:=by
 have h:=Mt l x;unfold Hn;cases hd:(L8 l x).2<;>simp[hd]at h⊢<;>omega
set_option maxRecDepth 100000
theorem ZR(lv:ks)(l:kJ zA)(x:zA)(EM:Nat)(w:kq)(hl:kw w EM 9 1 lv (Z l) (l.flatMap Ah))(HH:Z l<=1000000)(hx:0<x.size/\x.size<=1000000)(u:∀y∈l,0<y.size/\y.size<=1000000):
  Calls prog 121 #[lv,O x] w λe w'=>∃v,e=j3 v/\kw w' w.heap.size 9 1 v (Z (Hn l x)) ((Hn l x).flatMap Ah)/\Ac [] w w':=by
 obtain⟨F,D,B,E,G⟩:=gH Tryz.zk;obtain⟨ad,FT,rfl⟩:=Aj hl;have HR:kt (kw w EM 9 1 (U ad (Z l) FT) (Z l) (l.flatMap Ah)/\(∀y∈l,0<y.size/\y.size<=1000000)):=⟨hl,u⟩;clear hl u;have HC:∀(x:Bool) (w:kq),(Op.unary .not (k0 x)).run prog w=.ok (k0 (!x)) w:=λ_ _=>rfl
 go_enter func121,ntmps121;go_wp2
 go_loopw [5,6,7] (λo d i wr=>∃(k:Nat) (a:kJ zA) (j:Bool),i=X J k/\k<=Z l/\d=k0 j/\kt (L8 (l.take k) x=(a,j))/\Z a<=k+1/\kw wr w.heap.size 9 1 o (Z a) (a.flatMap Ah)/\Ac [] w wr) (λ_ _ i _=>Z l-(intOf i).toNat)
 case atStart=>exact⟨0,[],K,rfl,fP _,rfl,by show _=_;simp[L8],by simp,fK _ _ _ _,kL _ _⟩
 case round=>
  obtain⟨k,a,j,rfl,hk,rfl,S,Ha,f,m⟩:=hrel;obtain⟨L,H,rfl⟩:=Aj f;have W:=m.size;by_cases z:k<Z l
  .obtain⟨g,FL,N,hc,T⟩:=AC (Ad HR.out.1 m) (λc _=>rfl) k z;simp only[fg]at N;obtain⟨rfl,_,rfl⟩:=N;have A:=T k z 0 (by omega);simp[Ah]at A;clear T;have AB:=HR.out.2 l[k] (fj z);(have HS:kt (L8 (l.take (k+1)) x=CZ x (a,j) l[k]):=by show _=_;rw[X8 z,S.out]);cases b:(!j&&Fu x l[k])with
   |true=>
    (have FO:j=K:=by cases j<;>simp_all);subst FO;(have u:Fu x l[k]=hG:=by simpa using b);have HA:Z a<=k:=by
     have h:=Mt (l.take k) x;rw[S.out]at h;simp only[gq,jL]at h;omega
    (have AR:kt (L8 (l.take (k+1)) x=(a++[x]++[l[k]],hG)):=by show _=_;rw[HS.out];simp[CZ,u]);have FB:∀{n:kq} {o:Obj},(wr.alloc o).grownBy n (U L (Z a) H).ownBlock->ku n ⟨g,k,Y⟩=V (O l[k]):=by
     intro n o Go;have FF:=(m.alloc o).grown Go (λq b=>kp (f.lt q b).1);obtain⟨g',FL,N,_,T⟩:=AC (Ad HR.out.1 FF) (λc _=>rfl) k z;simp only[fg,fu,gi]at N;obtain⟨⟨rfl,_,_⟩,_,rfl⟩:=N;have A:=T k z 0 (by omega);simpa[Ah] using A
    clear HS b;(go_wp2_with fail);refine(Mm x l[k] _ hx.1 AB.1 hx.2 AB.2).mono ?_;rintro e w0 ⟨rfl,P⟩;rw[u,P];clear P w0;go_wp2_with (first|(at_builtin;refine fO _ rfl (.tmp 24) (.tmp 26) _ rfl w.heap.size 9 F _ 1 16 underlying61 D B E G rfl (by omega) (U L (Z a) H) (Z a) (a.flatMap Ah) rfl (f.alloc _) ⟨wr.heap.size,0,Y⟩ 1 1 [O x] rfl rfl (fM (fX wr _)) (by simp[Value.oneCell']) (by omega) (by unfold maxLen;omega) (by omega) (by simp;omega) (wr.heap.size+1) (by simp) ?_;intro g1 EY n I r AT CC;have d1:=FB r;have HI:wr.heap.size<=n.heap.size:=by have:=r.size;simp at this;omega)|(at_builtin;refine fO _ rfl (.tmp 28) (.tmp 33) _ rfl w.heap.size 9 F _ 1 16 underlying61 D B E G rfl (by omega) (U (V ⟨g1,0,Y⟩) (Z a+1) EY) (Z a+1) (a.flatMap Ah++[O x]) rfl (I.alloc _) ⟨n.heap.size,0,Y⟩ 1 1 [O l[k]] rfl rfl (fM (fX n _)) (by simp[Value.oneCell']) (by omega) (by unfold maxLen;omega) (by omega) (by simp;omega) (n.heap.size+1) (by simp) ?_;intro g2 E0 R Q p M C))
    have s:Ac [] w R:=(((m.alloc _).grown r (λq b=>kp (f.lt q b).1)).alloc _).grown p (λq b=>kp (I.lt q b).1);clear FB r AT CC p M C I d1 A f m W;go_wp2
    go_roundw
    case rel=>
     refine⟨k+1,a++[x]++[l[k]],hG,by go_num,by omega,rfl,AR,by simp;omega,?_,s⟩;simpa[Ah] using Q
    case measure=>simp[intOf];omega
   |false=>
    (have AR:kt (L8 (l.take (k+1)) x=(a++[l[k]],j)):=by show _=_;rw[HS.out];simp[CZ,b]);clear HS;have EK:Z a<=k+j.toNat:=by
     have h:=Mt (l.take k) x;rw[S.out]at h;simp only[gq]at h;omega
    cases j with
    |true=>
     clear b;go_wp2_with (at_builtin;refine fO _ rfl (.tmp 28) (.tmp 33) _ rfl w.heap.size 9 F _ 1 16 underlying61 D B E G rfl (by omega) (U L (Z a) H) (Z a) (a.flatMap Ah) rfl (f.alloc _) ⟨wr.heap.size,0,Y⟩ 1 1 [O l[k]] rfl rfl (fM (fX wr _)) (by simp[Value.oneCell']) (by omega) (by unfold maxLen;omega) (by omega) (by simp;omega) (wr.heap.size+1) (by simp) ?_;intro g2 E0 R Q p M C)
     have s:Ac [] w R:=(m.alloc _).grown p (λq b=>kp (f.lt q b).1);clear p M C A f m W;go_wp2
     go_roundw
     case rel=>
      refine⟨k+1,a++[l[k]],hG,by go_num,by omega,rfl,AR,by simp;omega,?_,s⟩;simpa[Ah] using Q
     case measure=>simp[intOf];omega
    |false=>
     (have u:Fu x l[k]=K:=by simpa using b);clear b;(go_wp2_with fail);refine(Mm x l[k] _ hx.1 AB.1 hx.2 AB.2).mono ?_;rintro e w0 ⟨rfl,P⟩;rw[u,P];clear P w0;go_wp2_with (at_builtin;refine fO _ rfl (.tmp 28) (.tmp 33) _ rfl w.heap.size 9 F _ 1 16 underlying61 D B E G rfl (by omega) (U L (Z a) H) (Z a) (a.flatMap Ah) rfl (f.alloc _) ⟨wr.heap.size,0,Y⟩ 1 1 [O l[k]] rfl rfl (fM (fX wr _)) (by simp[Value.oneCell']) (by omega) (by unfold maxLen;omega) (by omega) (by simp;omega) (wr.heap.size+1) (by simp) ?_;intro g2 E0 R Q p M C)
     have s:Ac [] w R:=(m.alloc _).grown p (λq b=>kp (f.lt q b).1);clear p M C A f m W;go_wp2
     go_roundw
     case rel=>
      refine⟨k+1,a++[l[k]],K,by go_num,by omega,rfl,AR,by simp;omega,?_,s⟩;simpa[Ah] using Q
     case measure=>simp[intOf];omega
  ·(have HE:kt (L8 l x=(a,j)):=by have h:=S.out;rwa [fo (by omega)]at h);have EK:Z a<=Z l+j.toNat:=by
    have h:=Mt l x;rw[HE.out]at h;simp only at h;omega
   cases j with
   |true=>
    (have HW:kt (Hn l x=a):=by show _=_;unfold Hn;rw[HE.out];rfl);go_wp2;go_ret;rw[HW.out];exact⟨_,rfl,f,m⟩
   |false=>
    (have HW:kt (Hn l x=a++[x]):=by show _=_;unfold Hn;rw[HE.out];rfl);(have HD:Z a<=Z l:=by simpa using EK);go_wp2_with (at_builtin;refine fO _ rfl (.tmp 37) (.tmp 39) _ rfl w.heap.size 9 F _ 1 16 underlying61 D B E G rfl (by omega) (U L (Z a) H) (Z a) (a.flatMap Ah) rfl (f.alloc _) ⟨wr.heap.size,0,Y⟩ 1 1 [O x] rfl rfl (fM (fX wr _)) (by simp[Value.oneCell']) (by omega) (by unfold maxLen;omega) (by omega) (by simp;omega) (wr.heap.size+1) (by simp) ?_;intro g1 EY n I r AT CC)
    have s:Ac [] w n:=(m.alloc _).grown r (λq b=>kp (f.lt q b).1);clear r AT CC f m W;go_wp2;go_ret;rw[HW.out];refine⟨_,rfl,?_,s⟩;simpa[Ah] using I
def zV(l:kJ zA)(t:AG):kJ zA:=if t.v==0&& !C1 l t.s then Hn l t.s else l
def zP(l:kJ zA)(ts:kJ AG):kJ zA:=ts.foldl zV l
def JE(l:kJ zA):Prop:=∀y∈l,0<y.size/\y.size<=1000000
def VG(ts:kJ AG):Prop:=∀t∈ts,t.v=0->0<t.s.size/\t.s.size<=1000000
def LT(x:zA)(d:0<x.size/\x.size<=1000000):∀(l:kJ zA) (a:kJ zA×Bool),JE l->JE a.1->JE (l.foldl (CZ x) a).1
 |[],_,_,ha=>ha
 |y::l,a,hl,ha=>by
  refine LT x d l _ (λz b=>hl z (by simp[b])) ?_;have c:=hl y (by simp);unfold CZ;split
  .intro z b;simp only[fA,ft]at b;rcases b with(b|b)|b
   .exact ha z b
   .rw[b];exact d
   .rw[b];exact c
  .intro z b;simp only[fA,ft]at b;rcases b with b|b
   .exact ha z b
   .rw[b];exact c
def Ww(c:JE e)(b:0<s.size/\s.size<=1000000):JE (Hn e s):=by
 have h:JE (L8 e s).1:=LT s b e ([],K) c (by intro y d;simp at d);unfold Hn;split
 .exact h
 .intro z a;simp only[fA,ft]at a;rcases a with a|a
  .exact h z a
  .rw[a];exact b
def Rh{t:AG}(a:JE e)(b:t.v=0->0<t.s.size/\t.s.size<=1000000):JE (zV e t):=by
 unfold zV;split
 .rename_i h;simp only[fU,iF]at h;exact Ww a (b h.1)
 .exact a
def ZS(l:kJ zA)(t:AG):Z (zV l t)<=Z l+1:=by
 unfold zV;split
 .rw[Nc];omega
 .omega
def XU(l:kJ zA){a:kJ AG}(b:k<Z a):zP l (a.take (k+1))=zV (zP l (a.take k)) a[k]:=by
 unfold zP;rw[fm b,gM];rfl
def UA(l:kJ zA)(a:kJ AG):Z (zP l a)<=Z l+Z a:=by
 unfold zP
 induction a generalizing l with
 |nil=>simp
 |cons t a ih=>
  have b:=ih (zV l t);have c:=ZS l t;simp only[fZ,fD];omega
def Rw{a:kJ AG}(b:JE e)(c:VG a):JE (zP e a):=by
 unfold zP
 induction a generalizing e with
 |nil=>exact b
 |cons t a ih=>exact ih (Rh b (c t (by simp))) (λu d=>c u (by simp[d]))
theorem Xw(L D:ks)(l:kJ zA)(a:kJ AG)(d:Nat)(w:kq)(z:kw w d 9 1 L (Z l) (l.flatMap Ah))(u:kw w 0 135 2 D (Z a) (a.flatMap AP))(BA:d<=w.heap.size)
  (CC:Z l+Z a<=1000000) (G:JE l) (M:VG a):
  Calls prog 85 #[L,D] w λe B=>∃v,e=j3 v/\kw B d 9 1 v (Z (zP l a)) ((zP l a).flatMap Ah)/\Ac [] w B:=by
 obtain⟨ad,B9,rfl⟩:=Aj z;obtain⟨T,R,rfl⟩:=Aj u;have t:kt (kw w 0 135 2 (U T (Z a) R) (Z a) (a.flatMap AP)/\JE l/\VG a):=⟨u,G,M⟩;clear u G M;have BT:∀(x:Bool) (w:kq),(Op.unary .not (k0 x)).run prog w=.ok (k0 (!x)) w:=λ_ _=>rfl
 go_enter func85,ntmps85;go_wp2
 go_loopw [0,5] (λo i wr=>∃(k:Nat) (b:kJ zA),i=X J k/\k<=Z a/\kt (zP l (a.take k)=b/\JE b)/\Z b<=Z l+k/\kw wr d 9 1 o (Z b) (b.flatMap Ah)/\Ac [] w wr) (λ_ i _=>Z a-(intOf i).toNat)
 case atStart=>exact⟨0,l,rfl,fP _,⟨by simp[zP],t.out.2.1⟩,by omega,z,kL _ _⟩
 case round=>
  clear z;obtain⟨k,b,rfl,hk,r,AR,f,m⟩:=hrel;obtain⟨EM,EK,rfl⟩:=Aj f;have CW:=m.size;by_cases j:k<Z a
  .obtain⟨g,AT,I,hc,y⟩:=AC (Ad t.out.1 m) (λc _=>Ge c) k j;simp only[fg]at I;obtain⟨rfl,_,rfl⟩:=I;have S:=y k j 0 (by omega);have Q:=y k j 1 (by omega);simp[AP]at S Q;clear y;have H:((a[k].v.toNat:Int)==0)=(a[k].v==0):=Ck _ 0;have n:kt (zP l (a.take (k+1))=zV b a[k]/\JE (zV b a[k])):=⟨by rw[XU l j,r.out.1],Rh r.out.2 (t.out.2.2 a[k] (fj j))⟩;cases hz:(a[k].v==0)with
   |false=>
    rw[hz]at H;(have p:kt (zP l (a.take (k+1))=b/\JE b):=by have h:=n.out;simp only[zV,hz,jd,fq,if_false]at h;exact h);clear n hz;go_wp2
    go_roundw
    case rel=>exact⟨k+1,b,by go_num,by omega,p,by omega,f,m⟩
    case measure=>simp[intOf];omega
   |true=>
    rw[hz]at H;have Ax:=t.out.2.2 a[k] (fj j) (by simpa using hz);cases hh:C1 b a[k].s with
    |true=>
     (have p:kt (zP l (a.take (k+1))=b/\JE b):=by have h:=n.out;simp only[zV,hz,hh,i6,jc,fq,if_false]at h;exact h);clear n hz;(go_wp2_with fail);refine(Dr _ b a[k].s d _ f (by omega)).mono ?_;rintro e A ⟨rfl,q⟩;rw[hh,q];clear q A;go_wp2
     go_roundw
     case rel=>exact⟨k+1,b,by go_num,by omega,p,by omega,f,m⟩
     case measure=>simp[intOf];omega
    |false=>
     (have p:kt (zP l (a.take (k+1))=Hn b a[k].s/\JE (Hn b a[k].s)):=by have h:=n.out;simp only[zV,hz,hh,gX,Bool.and_true,if_true]at h;exact h);have W:=Ab r.out.2;clear n hz;(go_wp2_with fail);refine(Dr _ b a[k].s d _ f (by omega)).mono ?_;rintro e A ⟨rfl,q⟩;rw[hh,q];clear q A;(go_wp2_with fail);refine(ZR _ b a[k].s d _ f (by omega) Ax W).mono ?_;rintro e w2 ⟨v2,rfl,E,F⟩;have N:=m.trans F;have AB:=Al (base':=d) E (by omega);have C:=Nc b a[k].s;have P:=Ab C;clear E F C;go_wp2
     go_roundw
     case rel=>exact⟨k+1,Hn b a[k].s,by go_num,by omega,p,by rw[Aa P];omega,AB,N⟩
     case measure=>simp[intOf];omega
  ·(have HE:kt (zP l a=b):=by have h:=r.out.1;rwa [fo (by omega)]at h);go_wp2;go_ret;rw[HE.out];exact⟨_,rfl,f,m⟩
structure GC(c:AY):Prop where
 body:Z c.bl<=3
 args:Z c.head.args<=2
 lits:∀p∈c.bl,Z p.1.A.args<=2
structure Zi(c:AY):Prop where
 head:VG c.head.args
 body:∀p∈c.bl,VG (A2 p)
def Cx(l:kJ zA)(x:zA):kJ zA:=if C1 l x then l else l++[x]
def zF(l:kJ zA)(p:Bs):kJ zA:=if On p then Cx l p.1.A.name else l
def KM(l:kJ zA)(c:AY):kJ zA:=c.bl.foldl zF (Cx l c.head.name)
def DX(cs:kJ AY):kJ zA:=cs.foldl KM []
def SV(l:kJ zA)(p:Bs):kJ zA:=zP l (A2 p)
def Jm(l:kJ zA)(c:AY):kJ zA:=c.bl.foldl SV (zP l c.head.args)
def Bc(cs:kJ AY):kJ zA:=cs.foldl Jm []
def DJ{α β:Type}(f:β->α->β)(b:β){l:kJ α}(a:k<Z l):(l.take (k+1)).foldl f b=f ((l.take k).foldl f b) l[k]:=by
 rw[fm a,gM];rfl
theorem P1(pb:Nat)(lv:ks)(a:kJ AY)(w:kq)(hP:AF w pb [lv] 84)(hR:Cd w lv a)(H3:Z a<=12)(n:∀c∈a,GC c)(s:∀c∈a,Zi c):
  Calls prog 46 #[j2 (V ⟨pb,0,Y⟩)] w λe w'=>∃v,e=j3 v/\kw w' w.heap.size 9 1 v (Z (Bc a)) ((Bc a).flatMap Ah)/\Ac [] w w':=by
 obtain⟨ad,HX,rfl⟩:=Aj hR.row;have H:kt (Cd w (U ad (Z a) HX) a/\(∀c∈a,GC c)/\(∀c∈a,Zi c)):=⟨hR,n,s⟩;clear hR n s;go_enter func46,ntmps46;go_wp2
 go_loopw [3,4] (λo i wr=>∃(k:Nat) (f:kJ zA),i=X J k/\k<=Z a/\kt ((a.take k).foldl Jm []=f/\JE f)/\Z f<=8*k/\kw wr w.heap.size 9 1 o (Z f) (f.flatMap Ah)/\Ac [] w wr) (λ_ i _=>Z a-(intOf i).toNat)
 case atStart=>exact⟨0,[],rfl,fP _,⟨by simp,by intro y hy;simp at hy⟩,by simp,fK _ _ _ _,kL _ _⟩
 case round=>
  obtain⟨k,f,rfl,hk,D,H9,G,t⟩:=hrel;obtain⟨K9,K8,rfl⟩:=Aj G;have x:=(hP.kept t).cell 0;simp at x;have CL:=t.size;by_cases l:k<Z a
  .have L:=H.out.1.kept t;obtain⟨g,Ix,he,hc,FA⟩:=AC L.row (λc _=>Bw c) k l;simp only[fg]at he;obtain⟨rfl,_,rfl⟩:=he;have Bx:=FA k l 1 (by omega);simp[BG]at Bx;have q:=L.each a[k] (fj l);have n:=H.out.2.1 a[k] (fj l);have s:=H.out.2.2 a[k] (fj l);obtain⟨LB,K5,AR⟩:=Aj q.args;obtain⟨HV,HO,FO⟩:=Aj q.body;rw[AR]at Bx;have HI:kt (a[k].bv=U HV a[k].bl.length HO):=FO;have A:=Xw _ _ f a[k].head.args w.heap.size _ G q.args CL (by have:=n.args;omega) D.out.2 s.head;rw[AR]at A;have HA:=Ab A;have K2:=n.args;have H4:=n.body;have z:kt (GC a[k]/\Zi a[k]):=⟨n,s⟩;clear FA L q AR FO A n s;(go_wp2_with fail);refine HA.mono ?_;rintro e w1 ⟨v1,rfl,E,EM⟩;have BA:=t.trans EM;have M:=Ab (UA f a[k].head.args);obtain⟨p,F⟩:=kK (zP f a[k].head.args);rw[F]at E M;have EK:kt (zP f a[k].head.args=p/\JE p):=⟨F,by rw[<-F];exact Rw D.out.2 z.out.2.head⟩;(have H0:Z p<=8*k+2:=by have:=Aa M;omega);obtain⟨LC,K1,rfl⟩:=Aj E;clear Bx x G t CL EM F M HA;go_wp2
   go_loopw [3,5] (λo i R=>∃(m:Nat) (d:kJ zA),i=X J m/\m<=a[k].bl.length/\kt ((a[k].bl.take m).foldl SV p=d/\JE d)/\Z d<=8*k+2+2*m/\kw R w.heap.size 9 1 o (Z d) (d.flatMap Ah)/\Ac [] w R) (λ_ i _=>a[k].bl.length-(intOf i).toNat)
   case atStart=>exact⟨0,p,rfl,fP _,⟨by simp,EK.out.2⟩,by omega,E,BA⟩
   case round=>
    rename_i R _;clear E BA;obtain⟨m,d,rfl,hm,u,JJ,B,r⟩:=hrel;obtain⟨KS,HY,rfl⟩:=Aj B;have x:=(hP.kept r).cell 0;simp at x;have LE:=r.size;have AB:=H.out.1.kept r;obtain⟨g2,HY,HJ,_,FT⟩:=AC AB.row (λc _=>Bw c) k l;simp only[fg,fu,gi]at HJ;obtain⟨⟨rfl,_,_⟩,_,rfl⟩:=HJ;have P:=FT k l 3 (by omega);simp[BG]at P;rw[HI.out]at P;have q:=AB.each a[k] (fj l);clear FT AB;by_cases b:m<a[k].bl.length
    .obtain⟨gb,H5,N,K3,j⟩:=AC q.body (λc _=>BS c) m b;rw[HI.out]at N;simp only[fg]at N;obtain⟨rfl,_,rfl⟩:=N;have S:=q.lits a[k].bl[m] (fj b);obtain⟨LD,KK,Ax⟩:=Aj S;have T:=Rs a[k].bl[m] _ S;simp only[A8,Co,Ax]at T;have d0:=j m b 0 (by omega);have d1:=j m b 1 (by omega);have I:=j m b 2 (by omega);have d3:=j m b 3 (by omega);have d4:=j m b 4 (by omega);have d5:=j m b 5 (by omega);have d6:=j m b 6 (by omega);have d7:=j m b 7 (by omega);have d8:=j m b 8 (by omega);simp[A8,Co]at d0 d1 I d3 d4 d5 d6 d7 d8;rw[Ax]at I;have HT:=Ab T;clear j S Ax q T;have K6:Z (A2 a[k].bl[m])<=2:=by
      have:=z.out.1.lits a[k].bl[m] (fj b);unfold A2;split
      .exact this
      .simp
     (go_wp2_with fail);refine HT.mono ?_;rintro e w2 ⟨tv,rfl,FP,AH⟩;have Q:=r.trans AH;have FB:=Ad B AH;have HS:=Q.size;clear d0 d1 I d3 d4 d5 d6 d7 d8 HT x P;(go_wp2_with fail);refine(Xw _ _ d (A2 a[k].bl[m]) w.heap.size _ FB FP HS (by omega) u.out.2 (z.out.2.body _ (fj b))).mono ?_;rintro e w3 ⟨v3,rfl,EY,FL⟩;have HP:=Q.trans FL;have W:=Ab (UA d (A2 a[k].bl[m]));have HH:kt ((a[k].bl.take (m+1)).foldl SV p=zP d (A2 a[k].bl[m])/\JE (zP d (A2 a[k].bl[m]))):=
      ⟨by rw[DJ _ _ b,u.out.1];rfl,Rw u.out.2 (z.out.2.body _ (fj b))⟩
     obtain⟨C,HG⟩:=kK (zP d (A2 a[k].bl[m]));rw[HG]at EY W HH;(have HL:Z C<=8*k+2+2*(m+1):=by have:=Aa W;omega);clear r B FB FP AH FL Q HG W;go_wp2
     go_roundw
     case rel=>exact⟨m+1,C,by go_num,by omega,HH,HL,EY,HP⟩
     case measure=>simp[intOf];omega
    .have HZ:kt ((a.take (k+1)).foldl Jm []=d/\JE d):=by
      have h:=u.out.1;rw[fo (by omega)]at h;refine⟨?_,u.out.2⟩;rw[DJ _ _ l,D.out.1,<-h];unfold Jm;rw[EK.out.1]
     go_wp2
     go_roundw
     case rel=>exact⟨k+1,d,by go_num,by omega,HZ,by omega,B,r⟩
     case measure=>simp[intOf];omega
  ·(have HE:kt (Bc a=f):=by have h:=D.out.1;rwa [fo (by omega)]at h);go_wp2;go_ret;rw[HE.out];exact⟨_,rfl,G,t⟩
def IA(w:kq)(o:Obj)(a:Array ks)(t:TypeId)(l:kJ ks)(b:l=a.toList):∀j u,l[j]?=V u->ku ((w.alloc o).alloc (jj a t)) ((⟨w.heap.size+1,0,Y⟩:Addr).add j)=V u:=by
 subst b;have h:=fX (w.alloc o) (jj a t);rw[fY]at h;exact fM h
theorem Y5(pb:Nat)(lv:ks)(cs:kJ AY)(w:kq)(hP:AF w pb [lv] 84)(hR:Cd w lv cs)(K9:Z cs<=12)(BT:∀c∈cs,GC c):
  Calls prog 75 #[j2 (V ⟨pb,0,Y⟩)] w λe w'=>∃v,e=j3 v/\kw w' w.heap.size 9 1 v (Z (DX cs)) ((DX cs).flatMap Ah)/\Ac [] w w':=by
 obtain⟨i0,E0,B9,FC,EX⟩:=gH Tryz.zk;obtain⟨ad,K6,rfl⟩:=Aj hR.row;have HR:kt (Cd w (U ad (Z cs) K6) cs/\(∀c∈cs,GC c)):=⟨hR,BT⟩;clear hR BT;have LM:∀(x:Bool) (w:kq),(Op.unary .not (k0 x)).run prog w=.ok (k0 (!x)) w:=λ_ _=>rfl
 go_enter func75,ntmps75;go_wp2
 go_loopw [3,4] (λo i wr=>∃(k:Nat) (f:kJ zA),i=X J k/\k<=Z cs/\kt ((cs.take k).foldl KM []=f)/\Z f<=4*k/\kw wr w.heap.size 9 1 o (Z f) (f.flatMap Ah)/\Ac [] w wr) (λ_ i _=>Z cs-(intOf i).toNat)
 case atStart=>exact⟨0,[],rfl,fP _,by show _=_;simp,by simp,fK _ _ _ _,kL _ _⟩
 case round=>
  obtain⟨k,f,rfl,hk,HF,LD,G,I⟩:=hrel;obtain⟨H7,H5,rfl⟩:=Aj G;have S:=(hP.kept I).cell 0;simp at S;have HU:=I.size;by_cases B:k<Z cs
  .have Go:=HR.out.1.kept I;obtain⟨g,LE,he,hc,HW⟩:=AC Go.row (λc _=>Bw c) k B;simp only[fg]at he;obtain⟨rfl,_,rfl⟩:=he;have HK:=HW k B 0 (by omega);simp[BG]at HK;have E:=Go.each cs[k] (fj B);have BT:=HR.out.2 cs[k] (fj B);obtain⟨K2,Jx,H0⟩:=Aj E.body;have FP:kt (cs[k].bv=U K2 cs[k].bl.length Jx):=H0;have LB:=BT.body;clear HW Go E H0 BT;(have K7:∀(b:kJ zA) (v1:ks) (w1:kq),kt (Cx f cs[k].head.name=b)->Z b<=4*k+1->kw w1 w.heap.size 9 1 v1 (Z b) (b.flatMap Ah)->Ac [] w w1->True:=λ_ _ _ _ _ _ _=>trivial);clear K7;cases hh:C1 f cs[k].head.name with
   |true=>
    (have P:kt (Cx f cs[k].head.name=f):=by show _=_;simp[Cx,hh]);(go_wp2_with fail);refine(Dr _ f cs[k].head.name w.heap.size _ G (by omega)).mono ?_;rintro e z ⟨rfl,d⟩;rw[hh,d];clear d z hh;have F:=G;have BA:=I;(have Bx:Z f<=4*k+1:=by omega);go_wp2;obtain⟨b,P,F,Bx⟩:∃b,kt (Cx f cs[k].head.name=b)/\kw wr w.heap.size 9 1 (U H7 (Z f) H5) (Z b) (b.flatMap Ah)/\Z b<=4*k+1:=⟨f,P,F,Bx⟩;clear HK S G I HU
    go_loopw [3,5] (λo i wq=>∃(m:Nat) (a:kJ zA),i=X J m/\m<=cs[k].bl.length/\kt ((cs[k].bl.take m).foldl zF b=a)/\Z a<=4*k+1+m/\kw wq w.heap.size 9 1 o (Z a) (a.flatMap Ah)/\Ac [] w wq) (λ_ i _=>cs[k].bl.length-(intOf i).toNat)
    case atStart=>exact⟨0,b,rfl,fP _,by show _=_;simp,by omega,F,BA⟩
    case round=>
     clear F BA;obtain⟨m,a,rfl,hm,HM,K1,C,u⟩:=hrel;obtain⟨CW,FF,rfl⟩:=Aj C;have S:=(hP.kept u).cell 0;simp at S;have K8:=u.size;have W:=HR.out.1.kept u;obtain⟨g2,JJ,FL,_,EM⟩:=AC W.row (λc _=>Bw c) k B;simp only[fg,fu,gi]at FL;obtain⟨⟨rfl,_,_⟩,_,rfl⟩:=FL;have CL:=EM k B 3 (by omega);simp[BG]at CL;rw[FP.out]at CL;have E:=W.each cs[k] (fj B);clear EM W;by_cases j:m<cs[k].bl.length
     .obtain⟨gb,Ix,Q,K4,p⟩:=AC E.body (λc _=>BS c) m j;rw[FP.out]at Q;simp only[fg]at Q;obtain⟨rfl,_,rfl⟩:=Q;have hl:=E.lits cs[k].bl[m] (fj j);obtain⟨HQ,HJ,FB⟩:=Aj hl;have d0:=p m j 0 (by omega);have d1:=p m j 1 (by omega);have d2:=p m j 2 (by omega);have d3:=p m j 3 (by omega);have d4:=p m j 4 (by omega);have d5:=p m j 5 (by omega);have d6:=p m j 6 (by omega);have d7:=p m j 7 (by omega);have d8:=p m j 8 (by omega);simp[A8,Co]at d0 d1 d2 d3 d4 d5 d6 d7 d8;rw[FB]at d2;clear p hl FB E;(have n:kt ((cs[k].bl.take (m+1)).foldl zF b=zF a cs[k].bl[m]):=by show _=_;rw[DJ _ _ j,HM.out]);have r:=C.alloc (jj #[X .u8 cs[k].bl[m].1.kind.toNat,O cs[k].bl[m].1.A.name,U HQ cs[k].bl[m].1.A.args.length HJ,X J cs[k].bl[m].1.A.at_,X .u8 cs[k].bl[m].1.L.v.toNat,O cs[k].bl[m].1.L.s,X .u8 cs[k].bl[m].1.R.v.toNat,O cs[k].bl[m].1.R.s,X J cs[k].bl[m].1.at_] 173);rcases E1 cs[k].bl[m] with⟨k1,l⟩|⟨k1,k2,l⟩|⟨k1,k2,l⟩
      .cases hh2:C1 a cs[k].bl[m].1.A.name with
       |true=>
        (have y:kt ((cs[k].bl.take (m+1)).foldl zF b=a):=by show _=_;rw[n.out];simp[zF,Cx,l,hh2]);clear n l;(go_wp2_with fail);refine(Dr _ a cs[k].bl[m].1.A.name w.heap.size _ r (by omega)).mono ?_;rintro e z ⟨rfl,d⟩;rw[hh2,d];clear d z hh2;go_wp2
        go_roundw
        case rel=>exact⟨m+1,a,by go_num,by omega,y,by omega,r,u.alloc _⟩
        case measure=>simp[intOf];omega
       |false=>
        (have y:kt ((cs[k].bl.take (m+1)).foldl zF b=a++[cs[k].bl[m].1.A.name]):=by show _=_;rw[n.out];simp[zF,Cx,l,hh2]);clear n l;(go_wp2_with fail);refine(Dr _ a cs[k].bl[m].1.A.name w.heap.size _ r (by omega)).mono ?_;rintro e z ⟨rfl,d⟩;rw[hh2,d];clear d z hh2;go_wp2_with (at_builtin;refine fO _ rfl (.tmp 80) (.tmp 84) _ rfl w.heap.size 9 i0 _ 1 16 underlying61 E0 B9 FC EX rfl (by omega) (U CW (Z a) FF) (Z a) (a.flatMap Ah) rfl (r.alloc _) ⟨wr.heap.size+1,0,Y⟩ 1 1 [O cs[k].bl[m].1.A.name] rfl rfl (IA wr _ _ _ _ rfl) (by simp[Value.oneCell']) (by omega) (by unfold maxLen;omega) (by omega) (by simp;omega) (wr.heap.size+2) (by simp) ?_;intro g5 HL w5 M D N T)
        have Ax:Ac [] w w5:=((u.alloc _).alloc _).grown D (λq H=>kp (C.lt q H).1);clear D N T;go_wp2
        go_roundw
        case rel=>
         refine⟨m+1,a++[cs[k].bl[m].1.A.name],by go_num,by omega,y,by simp;omega,?_,Ax⟩;simpa[Ah] using M
        case measure=>simp[intOf];omega
      .cases hh2:C1 a cs[k].bl[m].1.A.name with
       |true=>
        (have y:kt ((cs[k].bl.take (m+1)).foldl zF b=a):=by show _=_;rw[n.out];simp[zF,Cx,l,hh2]);clear n l;(go_wp2_with fail);refine(Dr _ a cs[k].bl[m].1.A.name w.heap.size _ r (by omega)).mono ?_;rintro e z ⟨rfl,d⟩;rw[hh2,d];clear d z hh2;go_wp2
        go_roundw
        case rel=>exact⟨m+1,a,by go_num,by omega,y,by omega,r,u.alloc _⟩
        case measure=>simp[intOf];omega
       |false=>
        (have y:kt ((cs[k].bl.take (m+1)).foldl zF b=a++[cs[k].bl[m].1.A.name]):=by show _=_;rw[n.out];simp[zF,Cx,l,hh2]);clear n l;(go_wp2_with fail);refine(Dr _ a cs[k].bl[m].1.A.name w.heap.size _ r (by omega)).mono ?_;rintro e z ⟨rfl,d⟩;rw[hh2,d];clear d z hh2;go_wp2_with (at_builtin;refine fO _ rfl (.tmp 80) (.tmp 84) _ rfl w.heap.size 9 i0 _ 1 16 underlying61 E0 B9 FC EX rfl (by omega) (U CW (Z a) FF) (Z a) (a.flatMap Ah) rfl (r.alloc _) ⟨wr.heap.size+1,0,Y⟩ 1 1 [O cs[k].bl[m].1.A.name] rfl rfl (IA wr _ _ _ _ rfl) (by simp[Value.oneCell']) (by omega) (by unfold maxLen;omega) (by omega) (by simp;omega) (wr.heap.size+2) (by simp) ?_;intro g5 HL w5 M D N T)
        have Ax:Ac [] w w5:=((u.alloc _).alloc _).grown D (λq H=>kp (C.lt q H).1);clear D N T;go_wp2
        go_roundw
        case rel=>
         refine⟨m+1,a++[cs[k].bl[m].1.A.name],by go_num,by omega,y,by simp;omega,?_,Ax⟩;simpa[Ah] using M
        case measure=>simp[intOf];omega
      ·(have y:kt ((cs[k].bl.take (m+1)).foldl zF b=a):=by show _=_;rw[n.out];simp[zF,l]);clear n l;go_wp2
       go_roundw
       case rel=>exact⟨m+1,a,by go_num,by omega,y,by omega,r,u.alloc _⟩
       case measure=>simp[intOf];omega
     .have HZ:kt ((cs.take (k+1)).foldl KM []=a):=by
       have h:=HM.out;rw[fo (by omega)]at h;show _=_;rw[DJ _ _ B,HF.out,<-h];unfold KM;rw[P.out]
      go_wp2
      go_roundw
      case rel=>exact⟨k+1,a,by go_num,by omega,HZ,by omega,C,u⟩
      case measure=>simp[intOf];omega
   |false=>
    (have P:kt (Cx f cs[k].head.name=f++[cs[k].head.name]):=by show _=_;simp[Cx,hh]);(go_wp2_with fail);refine(Dr _ f cs[k].head.name w.heap.size _ G (by omega)).mono ?_;rintro e z ⟨rfl,d⟩;rw[hh,d];clear d z hh;go_wp2_with (at_builtin;refine fO _ rfl (.tmp 28) (.tmp 38) _ rfl w.heap.size 9 i0 _ 1 16 underlying61 E0 B9 FC EX rfl (by omega) (U H7 (Z f) H5) (Z f) (f.flatMap Ah) rfl (G.alloc _) ⟨wr.heap.size,0,Y⟩ 1 1 [O cs[k].head.name] rfl rfl (fM (fX wr _)) (by simp[Value.oneCell']) (by omega) (by unfold maxLen;omega) (by omega) (by simp;omega) (wr.heap.size+1) (by simp) ?_;intro g1 HV w1 H2 HX H8 IJ)
    have BA:Ac [] w w1:=(I.alloc _).grown HX (λq H=>kp (G.lt q H).1);(have F:kw w1 w.heap.size 9 1 (U (V ⟨g1,0,Y⟩) (Z f+1) HV) (Z (f++[cs[k].head.name])) ((f++[cs[k].head.name]).flatMap Ah):=by simpa[Ah] using H2);(have Bx:Z (f++[cs[k].head.name])<=4*k+1:=by simp;omega);clear HX H8 IJ H2;go_wp2;obtain⟨b,P,F,Bx⟩:∃b,kt (Cx f cs[k].head.name=b)/\kw w1 w.heap.size 9 1 (U (V ⟨g1,0,Y⟩) (Z f+1) HV) (Z b) (b.flatMap Ah)/\Z b<=4*k+1:=⟨_,P,F,Bx⟩;clear HK S G I HU
    go_loopw [3,5] (λo i wq=>∃(m:Nat) (a:kJ zA),i=X J m/\m<=cs[k].bl.length/\kt ((cs[k].bl.take m).foldl zF b=a)/\Z a<=4*k+1+m/\kw wq w.heap.size 9 1 o (Z a) (a.flatMap Ah)/\Ac [] w wq) (λ_ i _=>cs[k].bl.length-(intOf i).toNat)
    case atStart=>exact⟨0,b,rfl,fP _,by show _=_;simp,by omega,F,BA⟩
    case round=>
     clear F BA;obtain⟨m,a,rfl,hm,HM,K1,C,u⟩:=hrel;obtain⟨CW,FF,rfl⟩:=Aj C;have S:=(hP.kept u).cell 0;simp at S;have K8:=u.size;have W:=HR.out.1.kept u;obtain⟨g2,JJ,FL,_,EM⟩:=AC W.row (λc _=>Bw c) k B;simp only[fg,fu,gi]at FL;obtain⟨⟨rfl,_,_⟩,_,rfl⟩:=FL;have CL:=EM k B 3 (by omega);simp[BG]at CL;rw[FP.out]at CL;have E:=W.each cs[k] (fj B);clear EM W;by_cases j:m<cs[k].bl.length
     .obtain⟨gb,Ix,Q,K4,p⟩:=AC E.body (λc _=>BS c) m j;rw[FP.out]at Q;simp only[fg]at Q;obtain⟨rfl,_,rfl⟩:=Q;have hl:=E.lits cs[k].bl[m] (fj j);obtain⟨HQ,HJ,FB⟩:=Aj hl;have d0:=p m j 0 (by omega);have d1:=p m j 1 (by omega);have d2:=p m j 2 (by omega);have d3:=p m j 3 (by omega);have d4:=p m j 4 (by omega);have d5:=p m j 5 (by omega);have d6:=p m j 6 (by omega);have d7:=p m j 7 (by omega);have d8:=p m j 8 (by omega);simp[A8,Co]at d0 d1 d2 d3 d4 d5 d6 d7 d8;rw[FB]at d2;clear p hl FB E;(have n:kt ((cs[k].bl.take (m+1)).foldl zF b=zF a cs[k].bl[m]):=by show _=_;rw[DJ _ _ j,HM.out]);have r:=C.alloc (jj #[X .u8 cs[k].bl[m].1.kind.toNat,O cs[k].bl[m].1.A.name,U HQ cs[k].bl[m].1.A.args.length HJ,X J cs[k].bl[m].1.A.at_,X .u8 cs[k].bl[m].1.L.v.toNat,O cs[k].bl[m].1.L.s,X .u8 cs[k].bl[m].1.R.v.toNat,O cs[k].bl[m].1.R.s,X J cs[k].bl[m].1.at_] 173);rcases E1 cs[k].bl[m] with⟨k1,l⟩|⟨k1,k2,l⟩|⟨k1,k2,l⟩
      .cases hh2:C1 a cs[k].bl[m].1.A.name with
       |true=>
        (have y:kt ((cs[k].bl.take (m+1)).foldl zF b=a):=by show _=_;rw[n.out];simp[zF,Cx,l,hh2]);clear n l;(go_wp2_with fail);refine(Dr _ a cs[k].bl[m].1.A.name w.heap.size _ r (by omega)).mono ?_;rintro e z ⟨rfl,d⟩;rw[hh2,d];clear d z hh2;go_wp2
        go_roundw
        case rel=>exact⟨m+1,a,by go_num,by omega,y,by omega,r,u.alloc _⟩
        case measure=>simp[intOf];omega
       |false=>
        (have y:kt ((cs[k].bl.take (m+1)).foldl zF b=a++[cs[k].bl[m].1.A.name]):=by show _=_;rw[n.out];simp[zF,Cx,l,hh2]);clear n l;(go_wp2_with fail);refine(Dr _ a cs[k].bl[m].1.A.name w.heap.size _ r (by omega)).mono ?_;rintro e z ⟨rfl,d⟩;rw[hh2,d];clear d z hh2;go_wp2_with (at_builtin;refine fO _ rfl (.tmp 80) (.tmp 84) _ rfl w.heap.size 9 i0 _ 1 16 underlying61 E0 B9 FC EX rfl (by omega) (U CW (Z a) FF) (Z a) (a.flatMap Ah) rfl (r.alloc _) ⟨wr.heap.size+1,0,Y⟩ 1 1 [O cs[k].bl[m].1.A.name] rfl rfl (IA wr _ _ _ _ rfl) (by simp[Value.oneCell']) (by omega) (by unfold maxLen;omega) (by omega) (by simp;omega) (wr.heap.size+2) (by simp) ?_;intro g5 HL w5 M D N T)
        have Ax:Ac [] w w5:=((u.alloc _).alloc _).grown D (λq H=>kp (C.lt q H).1);clear D N T;go_wp2
        go_roundw
        case rel=>
         refine⟨m+1,a++[cs[k].bl[m].1.A.name],by go_num,by omega,y,by simp;omega,?_,Ax⟩;simpa[Ah] using M
        case measure=>simp[intOf];omega
      .cases hh2:C1 a cs[k].bl[m].1.A.name with
       |true=>
        (have y:kt ((cs[k].bl.take (m+1)).foldl zF b=a):=by show _=_;rw[n.out];simp[zF,Cx,l,hh2]);clear n l;(go_wp2_with fail);refine(Dr _ a cs[k].bl[m].1.A.name w.heap.size _ r (by omega)).mono ?_;rintro e z ⟨rfl,d⟩;rw[hh2,d];clear d z hh2;go_wp2
        go_roundw
        case rel=>exact⟨m+1,a,by go_num,by omega,y,by omega,r,u.alloc _⟩
        case measure=>simp[intOf];omega
       |false=>
        (have y:kt ((cs[k].bl.take (m+1)).foldl zF b=a++[cs[k].bl[m].1.A.name]):=by show _=_;rw[n.out];simp[zF,Cx,l,hh2]);clear n l;(go_wp2_with fail);refine(Dr _ a cs[k].bl[m].1.A.name w.heap.size _ r (by omega)).mono ?_;rintro e z ⟨rfl,d⟩;rw[hh2,d];clear d z hh2;go_wp2_with (at_builtin;refine fO _ rfl (.tmp 80) (.tmp 84) _ rfl w.heap.size 9 i0 _ 1 16 underlying61 E0 B9 FC EX rfl (by omega) (U CW (Z a) FF) (Z a) (a.flatMap Ah) rfl (r.alloc _) ⟨wr.heap.size+1,0,Y⟩ 1 1 [O cs[k].bl[m].1.A.name] rfl rfl (IA wr _ _ _ _ rfl) (by simp[Value.oneCell']) (by omega) (by unfold maxLen;omega) (by omega) (by simp;omega) (wr.heap.size+2) (by simp) ?_;intro g5 HL w5 M D N T)
        have Ax:Ac [] w w5:=((u.alloc _).alloc _).grown D (λq H=>kp (C.lt q H).1);clear D N T;go_wp2
        go_roundw
        case rel=>
         refine⟨m+1,a++[cs[k].bl[m].1.A.name],by go_num,by omega,y,by simp;omega,?_,Ax⟩;simpa[Ah] using M
        case measure=>simp[intOf];omega
      ·(have y:kt ((cs[k].bl.take (m+1)).foldl zF b=a):=by show _=_;rw[n.out];simp[zF,l]);clear n l;go_wp2
       go_roundw
       case rel=>exact⟨m+1,a,by go_num,by omega,y,by omega,r,u.alloc _⟩
       case measure=>simp[intOf];omega
     .have HZ:kt ((cs.take (k+1)).foldl KM []=a):=by
       have h:=HM.out;rw[fo (by omega)]at h;show _=_;rw[DJ _ _ B,HF.out,<-h];unfold KM;rw[P.out]
      go_wp2
      go_roundw
      case rel=>exact⟨k+1,a,by go_num,by omega,HZ,by omega,C,u⟩
      case measure=>simp[intOf];omega
  ·(have HE:kt (DX cs=f):=by have h:=HF.out;rwa [fo (by omega)]at h);go_wp2;go_ret;rw[HE.out];exact⟨_,rfl,G,I⟩
def Mp(x:zA)(l:kJ zA)(c:AY):kJ zA:=if c.head.name.toList==x.toList then c.bl.foldl zF l else l
def Mg(cs:kJ AY)(l:kJ zA)(x:zA):kJ zA:=cs.foldl (Mp x) l
def C2(cs:kJ AY):kJ zA:=cs.flatMap λc=>(c.bl.filter On).map λp=>p.1.A.name
def Pb(cs:kJ AY)(l:kJ zA):Nat:=(C2 cs).countP λx=> !C1 l x
def Bd(cs:kJ AY)(l:kJ zA):Prop:=Z l+Pb cs l<=1+Z (C2 cs)
def Jt:Nat->kJ AY->zA->kJ zA->Nat->Bool
 |0,_,_,_,_=>K
 |f+1,cs,to,l,n=>if h:n<Z l then(if l[n].toList==to.toList then hG else Jt f cs to (Mg cs l l[n]) (n+1))else K
def GW(cs:kJ AY)(frm to:zA):Bool:=Jt (2+Z (C2 cs)) cs to [frm] 0
def Og(l:kJ zA)(x:zA):∀(m:kJ zA),(m.countP λy=> !C1 (l++[x]) y)<=m.countP λy=> !C1 l y
 |[]=>by simp
 |y::m=>by
  have ih:=Og l x m;simp only[List.countP_cons];have:(!C1 (l++[x]) y)=hG->(!C1 l y)=hG:=by
   rw[Km];cases C1 l y<;>simp
  cases h1:(!C1 (l++[x]) y)with
  |true=>simp only[this h1,if_true];omega
  |false=>simp only[fq,if_false];omega
def I2(l:kJ zA)(x:zA)(b:C1 l x=K):∀(m:kJ zA),x∈m->(m.countP λy=> !C1 (l++[x]) y)+1<=m.countP λy=> !C1 l y
 |[],h=>by simp at h
 |y::m,h=>by
  simp only[List.countP_cons];by_cases c:y=x
  .subst c;have a:=Og l y m;(have d:C1 (l++[y]) y=hG:=by rw[Km];simp);simp only[d,b,i6,gX,if_true,fq,if_false];omega
  .have ih:=I2 l x b m (by rcases fx.1 h with h|h;exact absurd h.symm c;exact h);have:(!C1 (l++[x]) y)=hG->(!C1 l y)=hG:=by
    rw[Km];cases C1 l y<;>simp
   cases a:(!C1 (l++[x]) y)with
   |true=>simp only[this a,if_true];omega
   |false=>simp only[fq,if_false];omega
def aD{a:kJ AY}{c:AY}{p:Bs}(i:c∈a)(b:p∈c.bl)(h:Bd a e):Bd a (zF e p):=by
 unfold zF Cx;split
 .rename_i g;split
  .exact h
  .rename_i j;(have f:C1 e p.1.A.name=K:=by simpa using j);have d:p.1.A.name∈C2 a:=by
    unfold C2;rw[gc];exact⟨c,i,fC.2 ⟨p,fT.2 ⟨b,g⟩,rfl⟩⟩
   have:=I2 e p.1.A.name f (C2 a) d;unfold Bd Pb at h⊢;simp only[fE,fD,gh];omega
 .exact h
def Y7(l:kJ zA)(p:Bs):∃a,zF l p=l++a:=by
 unfold zF Cx;split
 .split
  .exact⟨[],by simp⟩
  .exact⟨[_],rfl⟩
 .exact⟨[],by simp⟩
structure Es(cs:kJ AY)(l l2:kJ zA):Prop where
 pre:∃suf,l2=l++suf
 bd:Bd cs l2
def Es.zF{a:kJ AY}{l d:kJ zA}(h:Es a l d){c:AY}{p:Bs}(j:c∈a)(e:p∈c.bl):Es a l (zF d p):=by
 obtain⟨⟨b,rfl⟩,i⟩:=h;obtain⟨f,g⟩:=Y7 (l++b) p;exact⟨⟨b++f,by rw[g,gF]⟩,aD j e i⟩
variable{c:kJ AY}
def Es.at{l a:kJ zA}(h:Es c l a)(b:n<Z l):∃d:n<Z a,a[n]=l[n]:=by
 obtain⟨⟨e,rfl⟩,_⟩:=h;exact⟨by simp;omega,jw b⟩
def Es.len{l a:kJ zA}(h:Es c l a):Z l<=Z a/\Z a<=1+Z (C2 c):=by
 obtain⟨⟨d,rfl⟩,b⟩:=h;unfold Bd at b;exact⟨by simp,by omega⟩
theorem Tm(pb:Nat)(lv:ks)(a:kJ AY)(P H:zA)(w:kq)(hP:AF w pb [lv] 84)(hR:Cd w lv a)(N4:Z a<=1000000)(IS:∀c∈a,Z c.bl<=1000000)(NS:Z (C2 a)<=900000):
  Calls prog 77 #[j2 (V ⟨pb,0,Y⟩),O P,O H] w λe w'=>e=j3 (k0 (GW a P H))/\Ac [] w w':=by
 obtain⟨i0,K5,H6,Go,FP⟩:=gH Tryz.zk;obtain⟨ad,HX,rfl⟩:=Aj hR.row;obtain⟨R,HK⟩:=kK (GW a P H);rw[HK];have HR:kt (Cd w (U ad (Z a) HX) a/\(∀c∈a,Z c.bl<=1000000)/\GW a P H=R):=⟨hR,IS,HK⟩;obtain⟨A,hA⟩:=kK (Z (C2 a));rw[hA]at NS;have HA:=Ab hA;clear hR IS HK hA;have SJ:∀(x:Bool) (w:kq),(Op.unary .not (k0 x)).run prog w=.ok (k0 (!x)) w:=λ_ _=>rfl
 go_enter func77,ntmps77;go_wp2
 go_loopg [7,8] (1+A) (λgk o i wr=>∃(n:Nat) (l:kJ zA),i=X J n/\n<=Z l/\Z l<=1+A/\gk=1+A-n/\kt (Bd a l/\Jt (2+A-n) a H l n=R)/\kw wr w.heap.size 9 1 o (Z l) (l.flatMap Ah)/\Ac [] w wr)
 case atStart=>
  refine⟨0,[P],rfl,by simp,by simp,by simp,⟨?_,?_⟩,?_,(kL _ _).alloc _⟩
  .unfold Bd Pb;have:=kf (p:=λx=> !C1 [P] x) (l:=C2 a);simp only[fD,gh];omega
  .have h:=HR.out.2.2;unfold GW at h;rw[Aa HA]at h;exact h
  .exact⟨rfl,kp ⟨_,1,#[O P],rfl,fJ _,fX w _,by simp,by unfold maxLen;omega,rfl,by simp[Ah]⟩⟩
 case round=>
  obtain⟨n,l,rfl,hn,hl,K9,HB,FW,hK⟩:=hrel;have HG:kt (gk=1+A-n):=K9;clear K9;obtain⟨ST,SS,rfl⟩:=Aj FW;by_cases AH:n<Z l
  .obtain⟨g,P0,he,hc,H8⟩:=AC FW (λc _=>rfl) n AH;simp only[fg]at he;obtain⟨rfl,_,rfl⟩:=he;have G:=H8 n AH 0 (by omega);simp[Ah]at G;clear H8;obtain⟨x,hx⟩:=kK (l[n]);rw[hx]at G;cases hto:(x.toList==H.toList)with
   |true=>
    have NM:kt (R=hG):=by
     have h:=HB.out.2;rw[show 2+A-n=(1+A-n)+1 by omega,Jt,dif_pos AH,hx,hto]at h;exact h.symm
    clear hx;go_wp2;go_ret;rw[NM.out];exact⟨rfl,hK⟩
   |false=>
    have LB:kt (Jt (2+A-(n+1)) a H (Mg a l x) (n+1)=R/\l[n]=x):=by
     have h:=HB.out.2;rw[show 2+A-n=(2+A-(n+1))+1 by omega,Jt,dif_pos AH,hx,hto]at h;exact⟨h,hx⟩
    have H5:kt (Es a l l):=⟨⟨[],by simp⟩,HB.out.1⟩;clear hx HB;go_wp2;clear G hto
    go_loopw [7,9] (λo i Q=>∃(k:Nat) (d:kJ zA),i=X J k/\k<=Z a/\kt ((a.take k).foldl (Mp x) l=d/\Es a l d)/\kw Q w.heap.size 9 1 o (Z d) (d.flatMap Ah)/\Ac [] w Q) (λ_ i _=>Z a-(intOf i).toNat)
    case atStart=>exact⟨0,l,rfl,fP _,⟨by simp,H5.out⟩,FW,hK⟩
    case round=>
     clear FW hK H5;obtain⟨k,d,rfl,hk,HM,I,C⟩:=hrel;obtain⟨SB,NX,rfl⟩:=Aj I;have K1:=(hP.kept C).cell 0;simp at K1;by_cases u:k<Z a
     .have HW:=HR.out.1.kept C;obtain⟨gp,RV,K2,_,NL⟩:=AC HW.row (λc _=>Bw c) k u;simp only[fg]at K2;obtain⟨rfl,_,rfl⟩:=K2;have Bx:=HW.each a[k] (fj u);have S0:=HR.out.2.1 a[k] (fj u);obtain⟨M1,H7,JJ⟩:=Aj Bx.body;have LD:=Ab JJ;clear NL HW Bx JJ K1;have Ax:kt (∀(N:kq) (o:ks) (b:kJ zA),Ac [] w N->kw N w.heap.size 9 1 o (Z b) (b.flatMap Ah)->Es a l b->
        ku N ⟨pb,0,Y⟩=V (U (V ⟨gp,0,Y⟩) (Z a) HX)/\ku N ⟨gp,k*5,Y⟩=V (O a[k].head.name)/\ku N ⟨gp,k*5+3,Y⟩=V (U M1 a[k].bl.length H7)/\
        ∃F S,o=U (V ⟨F,0,Y⟩) (Z b) S/\n<Z b/\ku N ⟨F,n,Y⟩=V (O x)):=by
       intro N o b LC LS NY;have h1:=(hP.kept LC).cell 0;have LM:=HR.out.1.kept LC;obtain⟨g2,c2,LE,_,KK⟩:=AC LM.row (λc _=>Bw c) k u;simp only[fg,fu,gi]at LE;obtain⟨⟨rfl,_,_⟩,_,rfl⟩:=LE;have h2:=KK k u 0 (by omega);have h3:=KK k u 3 (by omega);simp[BG]at h1 h2 h3;rw[Aa LD]at h3;obtain⟨B9,MB⟩:=NY.at AH;obtain⟨F,S,W,_,NV⟩:=AC LS (λc _=>rfl) n B9;have h4:=NV n B9 0 (by omega);simp[Ah]at h4;rw[MB,LB.out.2]at h4;exact⟨h1,h2,h3,F,S,W,B9,h4⟩
      cases hnm:(a[k].head.name.toList==x.toList)with
      |false=>
       have E:kt ((a.take (k+1)).foldl (Mp x) l=d/\Es a l d):=⟨by rw[DJ _ _ u,HM.out.1];simp[Mp,hnm],HM.out.2⟩;obtain⟨f1,f2,f3,F,S,W,B9,f4⟩:=Ax.out _ _ _ C I E.out.2;simp only[fg]at W;obtain⟨rfl,_,rfl⟩:=W;clear Ax;(have MN:(k:Int)<(Z a:Int):=by omega);(have MY:(n:Int)<(Z d:Int):=by omega);go_wp2
       go_loopw [7,10] (λo i Q=>o=U (V ⟨F,0,Y⟩) (Z d) NX/\i=X J 0/\∃q,Q=wr.drewN q) (λ_ _ _=>0)
       case atStart=>exact⟨rfl,rfl,0,rfl⟩
       case round=>
        obtain⟨rfl,rfl,q,rfl⟩:=hrel;go_wp2_with fail
        go_quiet (fail)
        go_wp2_with fail
        go_roundw
        case rel=>exact⟨k+1,d,by go_num,by omega,E,Dh I _,C.drewN _⟩
        case measure=>simp[intOf];omega
      |true=>
       (have N2:kt ((a.take (k+1)).foldl (Mp x) l=a[k].bl.foldl zF d):=by show _=_;rw[DJ _ _ u,HM.out.1];simp[Mp,hnm]);have KS:=Ab HM.out.2;(have MN:(k:Int)<(Z a:Int):=by omega);obtain⟨f1,_⟩:=Ax.out _ _ _ C I KS;go_wp2;clear f1
       go_loopw [7,10] (λo i Q=>∃(m:Nat) (b:kJ zA),i=X J m/\m<=a[k].bl.length/\kt ((a[k].bl.take m).foldl zF d=b/\Es a l b)/\kw Q w.heap.size 9 1 o (Z b) (b.flatMap Ah)/\Ac [] w Q) (λ_ i _=>a[k].bl.length-(intOf i).toNat)
       case atStart=>exact⟨0,d,rfl,fP _,⟨by simp,KS⟩,I,C⟩
       case round=>
        clear I;have QQ:=Ab C;clear C;obtain⟨m,b,rfl,hm,HN,FB,AR⟩:=hrel;obtain⟨f1,f2,f3,F,S,W,B9,f4⟩:=Ax.out _ _ _ AR FB HN.out.2;subst W;(have MY:(n:Int)<(Z b:Int):=by omega);(have RI:Z b<=1+A:=by have:=HN.out.2.len.2;rw[Aa HA]at this;exact this);have M6:=AR.size;by_cases j:m<a[k].bl.length
        ·(have RE:(m:Int)<(a[k].bl.length:Int):=by omega);(have Nq:decide ((m:Int)<(a[k].bl.length:Int))=hG:=by simp;omega);have Bx:=(HR.out.1.kept AR).each a[k] (fj u);obtain⟨f,OH,HO,SL,z⟩:=AC Bx.body (λc _=>BS c) m j;rw[Aa LD]at HO;simp only[fg]at HO;obtain⟨rfl,_,rfl⟩:=HO;have hl:=Bx.lits a[k].bl[m] (fj j);obtain⟨HY,HP,K7⟩:=Aj hl;have G:=z m j 0 (by omega);have d1:=z m j 1 (by omega);have d2:=z m j 2 (by omega);have d3:=z m j 3 (by omega);have d4:=z m j 4 (by omega);have d5:=z m j 5 (by omega);have d6:=z m j 6 (by omega);have d7:=z m j 7 (by omega);have d8:=z m j 8 (by omega);simp[A8,Co]at G d1 d2 d3 d4 d5 d6 d7 d8;rw[K7]at d2;have HD:kt (ku wr ⟨f,m*9,Y⟩=V (X .u8 a[k].bl[m].1.kind.toNat)/\ku wr ⟨f,m*9+1,Y⟩=V (O a[k].bl[m].1.A.name)/\ku wr ⟨f,m*9+2,Y⟩=V (U HY a[k].bl[m].1.A.args.length HP)/\ku wr ⟨f,m*9+3,Y⟩=V (X J a[k].bl[m].1.A.at_)/\ku wr ⟨f,m*9+4,Y⟩=V (X .u8 a[k].bl[m].1.L.v.toNat)/\ku wr ⟨f,m*9+5,Y⟩=V (O a[k].bl[m].1.L.s)/\ku wr ⟨f,m*9+6,Y⟩=V (X .u8 a[k].bl[m].1.R.v.toNat)/\ku wr ⟨f,m*9+7,Y⟩=V (O a[k].bl[m].1.R.s)/\ku wr ⟨f,m*9+8,Y⟩=V (X J a[k].bl[m].1.at_)):=⟨G,d1,d2,d3,d4,d5,d6,d7,d8⟩;have y:kt ((a[k].bl.take (m+1)).foldl zF d=zF b a[k].bl[m]/\Es a l (zF b a[k].bl[m])):=⟨by rw[DJ _ _ j,HN.out.1],HN.out.2.zF (fj u) (fj j)⟩;clear z hl K7 Bx G d1 d2 d3 d4 d5 d6 d7 d8 Ax;go_wp2_with fail
         go_quiet (fail)
         have E0:=Dh FB nq;have M:=AR.drewN nq;have FF:ku (wr.drewN nq) ⟨pb,0,Y⟩=V (U (V ⟨gp,0,Y⟩) (Z a) HX)/\ku (wr.drewN nq) ⟨gp,k*5+3,Y⟩=V (U (V ⟨f,0,Y⟩) a[k].bl.length H7)/\ku (wr.drewN nq) ⟨f,m*9,Y⟩=V (X .u8 a[k].bl[m].1.kind.toNat)/\ku (wr.drewN nq) ⟨f,m*9+1,Y⟩=V (O a[k].bl[m].1.A.name)/\ku (wr.drewN nq) ⟨f,m*9+2,Y⟩=V (U HY a[k].bl[m].1.A.args.length HP)/\ku (wr.drewN nq) ⟨f,m*9+3,Y⟩=V (X J a[k].bl[m].1.A.at_)/\ku (wr.drewN nq) ⟨f,m*9+4,Y⟩=V (X .u8 a[k].bl[m].1.L.v.toNat)/\ku (wr.drewN nq) ⟨f,m*9+5,Y⟩=V (O a[k].bl[m].1.L.s)/\ku (wr.drewN nq) ⟨f,m*9+6,Y⟩=V (X .u8 a[k].bl[m].1.R.v.toNat)/\ku (wr.drewN nq) ⟨f,m*9+7,Y⟩=V (O a[k].bl[m].1.R.s)/\ku (wr.drewN nq) ⟨f,m*9+8,Y⟩=V (X J a[k].bl[m].1.at_):=⟨f1,f3,HD.out⟩;clear HD f1 f2 f3 f4 FB AR M6;generalize wr.drewN nq=wd at FF E0 M⊢;obtain⟨f1,f3,G,d1,d2,d3,d4,d5,d6,d7,d8⟩:=FF;have PT:=M.size;have B:=E0.alloc (jj #[X .u8 a[k].bl[m].1.kind.toNat,O a[k].bl[m].1.A.name,U HY a[k].bl[m].1.A.args.length HP,X J a[k].bl[m].1.A.at_,X .u8 a[k].bl[m].1.L.v.toNat,O a[k].bl[m].1.L.s,X .u8 a[k].bl[m].1.R.v.toNat,O a[k].bl[m].1.R.s,X J a[k].bl[m].1.at_] 173);rcases E1 a[k].bl[m] with⟨k1,r⟩|⟨k1,k2,r⟩|⟨k1,k2,r⟩
         .cases hh2:C1 b a[k].bl[m].1.A.name with
          |true=>
           (have e:zF b a[k].bl[m]=b:=by simp[zF,Cx,r,hh2]);(have D:kt ((a[k].bl.take (m+1)).foldl zF d=b/\Es a l b):=by have h:=y.out;rw[e]at h;exact h);clear e;clear y r;(go_wp2_with fail);refine(Dr _ b a[k].bl[m].1.A.name w.heap.size _ B (by omega)).mono ?_;rintro e T ⟨rfl,t⟩;rw[hh2,t];clear t T hh2;go_wp2
           go_roundw
           case rel=>exact⟨m+1,b,by go_num,by omega,D,B,M.alloc _⟩
           case measure=>simp[intOf];omega
          |false=>
           (have e:zF b a[k].bl[m]=b++[a[k].bl[m].1.A.name]:=by simp[zF,Cx,r,hh2]);(have D:kt ((a[k].bl.take (m+1)).foldl zF d=b++[a[k].bl[m].1.A.name]/\Es a l (b++[a[k].bl[m].1.A.name])):=by have h:=y.out;rw[e]at h;exact h);clear e;clear y r;(go_wp2_with fail);refine(Dr _ b a[k].bl[m].1.A.name w.heap.size _ B (by omega)).mono ?_;rintro e T ⟨rfl,t⟩;rw[hh2,t];clear t T hh2;go_wp2_with (at_builtin;refine fO _ rfl (.tmp 91) (.tmp 95) _ rfl w.heap.size 9 i0 _ 1 16 underlying61 K5 H6 Go FP rfl (by omega) (U (V ⟨F,0,Y⟩) (Z b) S) (Z b) (b.flatMap Ah) rfl (B.alloc _) ⟨wd.heap.size+1,0,Y⟩ 1 1 [O a[k].bl[m].1.A.name] rfl rfl (IA wd _ _ _ _ rfl) (by simp[Value.oneCell']) (by omega) (by unfold maxLen;omega) (by omega) (by simp;omega) (wd.heap.size+2) (by simp) ?_;intro g5 NB w5 HF EM HI HU)
           have H0:Ac [] w w5:=((M.alloc _).alloc _).grown EM (λq hq=>kp (E0.lt q hq).1);clear EM HI HU;go_wp2
           go_roundw
           case rel=>
            refine⟨m+1,b++[a[k].bl[m].1.A.name],by go_num,by omega,D,?_,H0⟩;simpa[Ah] using HF
           case measure=>simp[intOf];omega
         .cases hh2:C1 b a[k].bl[m].1.A.name with
          |true=>
           (have e:zF b a[k].bl[m]=b:=by simp[zF,Cx,r,hh2]);(have D:kt ((a[k].bl.take (m+1)).foldl zF d=b/\Es a l b):=by have h:=y.out;rw[e]at h;exact h);clear e;clear y r;(go_wp2_with fail);refine(Dr _ b a[k].bl[m].1.A.name w.heap.size _ B (by omega)).mono ?_;rintro e T ⟨rfl,t⟩;rw[hh2,t];clear t T hh2;go_wp2
           go_roundw
           case rel=>exact⟨m+1,b,by go_num,by omega,D,B,M.alloc _⟩
           case measure=>simp[intOf];omega
          |false=>
           (have e:zF b a[k].bl[m]=b++[a[k].bl[m].1.A.name]:=by simp[zF,Cx,r,hh2]);(have D:kt ((a[k].bl.take (m+1)).foldl zF d=b++[a[k].bl[m].1.A.name]/\Es a l (b++[a[k].bl[m].1.A.name])):=by have h:=y.out;rw[e]at h;exact h);clear e;clear y r;(go_wp2_with fail);refine(Dr _ b a[k].bl[m].1.A.name w.heap.size _ B (by omega)).mono ?_;rintro e T ⟨rfl,t⟩;rw[hh2,t];clear t T hh2;go_wp2_with (at_builtin;refine fO _ rfl (.tmp 91) (.tmp 95) _ rfl w.heap.size 9 i0 _ 1 16 underlying61 K5 H6 Go FP rfl (by omega) (U (V ⟨F,0,Y⟩) (Z b) S) (Z b) (b.flatMap Ah) rfl (B.alloc _) ⟨wd.heap.size+1,0,Y⟩ 1 1 [O a[k].bl[m].1.A.name] rfl rfl (IA wd _ _ _ _ rfl) (by simp[Value.oneCell']) (by omega) (by unfold maxLen;omega) (by omega) (by simp;omega) (wd.heap.size+2) (by simp) ?_;intro g5 NB w5 HF EM HI HU)
           have H0:Ac [] w w5:=((M.alloc _).alloc _).grown EM (λq hq=>kp (E0.lt q hq).1);clear EM HI HU;go_wp2
           go_roundw
           case rel=>
            refine⟨m+1,b++[a[k].bl[m].1.A.name],by go_num,by omega,D,?_,H0⟩;simpa[Ah] using HF
           case measure=>simp[intOf];omega
         ·(have e:zF b a[k].bl[m]=b:=by simp[zF,r]);(have D:kt ((a[k].bl.take (m+1)).foldl zF d=b/\Es a l b):=by have h:=y.out;rw[e]at h;exact h);clear e;clear y r;go_wp2
          go_roundw
          case rel=>exact⟨m+1,b,by go_num,by omega,D,B,M.alloc _⟩
          case measure=>simp[intOf];omega
        ·(have Nq:decide ((m:Int)<(a[k].bl.length:Int))=K:=by simp;omega);(have S1:decide (m<a[k].bl.length)=K:=by simp;omega);have E:kt ((a.take (k+1)).foldl (Mp x) l=b/\Es a l b):=by
          have h:=HN.out;rw[fo (by omega)]at h;exact⟨by rw[Aa N2];exact h.1,h.2⟩
         clear Ax;go_wp2_with fail
         go_quiet (fail)
         go_wp2_with fail
         go_roundw
         case rel=>exact⟨k+1,b,by go_num,by omega,E,Dh FB _,AR.drewN _⟩
         case measure=>simp[intOf];omega
     ·(have E:kt (Mg a l x=d/\Es a l d):=by have h:=HM.out;rw[fo (by omega)]at h;exact h);(have Go:n+1<=Z d:=by have:=E.out.2.len.1;omega);(have FP:Z d<=1+A:=by have:=E.out.2.len.2;rw[Aa HA]at this;exact this);go_wp2
      go_roundg (1+A-(n+1))
      case measure=>have:=HG.out;omega
      case rel=>exact⟨n+1,d,by go_num,Go,FP,rfl,⟨E.out.2.bd,by rw[<-E.out.1];exact LB.out.1⟩,I,C⟩
  .have L0:kt (R=K):=by
    have h:=HB.out.2;rw[show 2+A-n=(1+A-n)+1 by omega,Jt,dif_neg AH]at h;exact h.symm
   go_wp2;go_ret;rw[L0.out];exact⟨rfl,hK⟩
def Bo(p:Bs):Bool:=decide (2<Z p.1.A.args)
def BC(cs:kJ AY)(p:Bs):Bool:=On p&&(B3 cs p.1.A.name !=(Z p.1.A.args:Int))
def B0(cs:kJ AY)(i:Nat)(c:AY):Option (Int×Int):=
 if 12<=i\/3<Z c.bl then V (3,c.at_)
 else if 2<Z c.head.args then V (3,c.at_)
 else if c.bl.any Bo then V (3,c.at_)
 else if 6<Z (DX (cs.take (i+1)))\/6<Z (Bc (cs.take (i+1))) then V (3,c.at_)
 else if B3 cs c.head.name≠(Z c.head.args:Int)then V (4,c.head.at_)
 else match c.bl.find? (BC cs)with
  |some p=>V (4,p.1.A.at_)
  |none=>if 0<=FI c.head c.bl then V (5,FI c.head c.bl)else Y
def D1(cs:kJ AY):Nat->kJ AY->Option (Int×Int)
 |_,[]=>Y
 |i,c::l=>match B0 cs i c with
  |some r=>V r
  |none=>D1 cs (i+1) l
def EA(cs:kJ AY)(c:AY)(p:Bs):Bool:=p.1.kind==33&&GW cs p.1.A.name c.head.name
def Do(cs:kJ AY)(c:AY):Option (Int×Int):=(c.bl.find? (EA cs c)).map λp=>(6,(p.1.at_:Int))
def CD(cs:kJ AY):Int×Int:=match D1 cs 0 cs with
 |some r=>r
 |none=>match cs.findSome? (Do cs)with
  |some r=>r
  |none=>(0,0)
def JN{a:kJ AY}:∀(l:kJ AY) (i k:Nat),(∀j (d:j<Z l),j<k->B0 a (i+j) l[j]=Y)->k<=Z l->D1 a i l=D1 a (i+k) (l.drop k)
 |l,i,0,_,_=>by simp
 |[],i,k+1,_,hk=>by simp at hk
 |c::l,i,k+1,h,hk=>by
  have b:=h 0 (by simp) (by omega);simp only[jP,jl]at b;rw[D1,b];simp only[ji];rw[JN l (i+1) k (λj d e=>by
   have:=h (j+1) (by simp;omega) (by omega)
   simp only[List.getElem_cons_succ]at this
   rw[show i+1+j=i+(j+1) by omega];exact this) (by simpa using hk)]
  rw[show i+1+k=i+(k+1) by omega]
def Wt(b:k<Z c)(e:∀j (a:j<Z c),j<k->B0 c j c[j]=Y){r:Int×Int}(d:B0 c k c[k]=V r):CD c=r:=by
 unfold CD;rw[JN c 0 k (λj a f=>by rw[gE];exact e j a f) (by omega),fQ b,gE,D1,d]
def TB(b:∀j (a:j<Z c),B0 c j c[j]=Y):CD c=match c.findSome? (Do c)with|some r=>r|none=>(0,0):=by
 unfold CD;rw[JN c 0 (Z c) (λj a _=>by rw[gE];exact b j a) (fJ _),List.drop_length,D1]
def SC{b:kJ AY}{c:AY}(h:B0 b i c=Y):i<12/\GC c:=by
 unfold B0 at h;split at h
 .cases h
 .rename_i f;split at h
  .cases h
  .rename_i e;split at h
   .cases h
   .rename_i d;refine⟨by omega,⟨by omega,by omega,λp a=>?_⟩⟩;have:Bo p=K:=by
     cases hm:Bo p with
     |false=>rfl
     |true=>exact absurd (by rw[gV];exact⟨p,a,hm⟩) d
    simpa[Bo] using this
def Cd.take{w:kq}{g:Nat}{m:Nat}{b:kJ AY}(h:Cd w (U (V ⟨g,0,Y⟩) (Z b) m) b)(k:Nat)(t:k<=Z b):Cd w (U (V ⟨g,0,Y⟩) k m) (b.take k):=by
 refine⟨?_,λc n=>h.each c (iy n)⟩;have f:Z (b.take k)=k:=by simp;omega
 rw[f];have j:∀(l:kJ AY),Z (l.flatMap BG)=Z l*5:=by
  intro l
  induction l with
  |nil=>rfl
  |cons a l ih=>rw[fN,fE,ih,Bw,fD];omega
 rcases h.row.2 with⟨d,_⟩|⟨v,u,i,d,_,s,n,o,p,r⟩
 .cases d
 .simp only[fg,fu,gi]at d;obtain⟨⟨rfl,_,_⟩,_,rfl⟩:=d;refine⟨by rw[j,f],kp ⟨g,m,i,rfl,fP _,s,by omega,o,p,?_⟩⟩;have e:b.flatMap BG=(b.take k).flatMap BG++(b.drop k).flatMap BG:=by rw[<-fR,gL]
  have q:i.toList.take (k*5)=(i.toList.take (Z b*5)).take (k*5):=by rw[je,iS (by omega)]
  rw[q,r,e,gG (by rw[j,f];omega),fo (by rw[j,f];omega)]
structure N6(cs:kJ AY):Prop where
 len:Z cs<=1000
 body:∀c∈cs,Z c.bl<=1000
 head:∀c∈cs,Z c.head.args<=1000000
 lits:∀c∈cs,∀p∈c.bl,Z p.1.A.args<=1000000
 atoms:Z (C2 cs)<=900000
 full:∀c∈cs,Zi c
def S9{a:kJ AY}(h:Cd w (U (V ⟨n,0,Y⟩) (Z a) m) a)(q:Ac [] w v)(b:k<Z a):
  ku v ⟨n,k*5,Y⟩=V (O a[k].head.name)/\ku v ⟨n,k*5+1,Y⟩=V a[k].hv/\ku v ⟨n,k*5+2,Y⟩=V (X J a[k].head.at_)/\ku v ⟨n,k*5+3,Y⟩=V a[k].bv/\ku v ⟨n,k*5+4,Y⟩=V (X J a[k].at_):=by
 have p:=h.kept q;obtain⟨s,r,j,_,d⟩:=AC p.row (λc _=>Bw c) k b;simp only[fg,fu,gi]at j;obtain⟨⟨rfl,_,_⟩,_,rfl⟩:=j;have l:=d k b 0 (by omega);have i:=d k b 1 (by omega);have e:=d k b 2 (by omega);have o:=d k b 3 (by omega);have f:=d k b 4 (by omega);simp[BG]at l i e o f;exact⟨l,i,e,o,f⟩
def Ta{c:AY}(h:V2 w c)(b:m<Z c.bl):∃a e,c.bv=U (V ⟨a,0,Y⟩) (Z c.bl) e/\
  ku w ⟨a,m*9,Y⟩=V (X .u8 c.bl[m].1.kind.toNat)/\ku w ⟨a,m*9+1,Y⟩=V (O c.bl[m].1.A.name)/\ku w ⟨a,m*9+2,Y⟩=V c.bl[m].2/\ku w ⟨a,m*9+3,Y⟩=V (X J c.bl[m].1.A.at_)/\
  ku w ⟨a,m*9+4,Y⟩=V (X .u8 c.bl[m].1.L.v.toNat)/\ku w ⟨a,m*9+5,Y⟩=V (O c.bl[m].1.L.s)/\ku w ⟨a,m*9+6,Y⟩=V (X .u8 c.bl[m].1.R.v.toNat)/\ku w ⟨a,m*9+7,Y⟩=V (O c.bl[m].1.R.s)/\ku w ⟨a,m*9+8,Y⟩=V (X J c.bl[m].1.at_):=by
 obtain⟨a,e,r,_,d⟩:=AC h.body (λp _=>BS p) m b;have j:=d m b 0 (by omega);have k:=d m b 1 (by omega);have f:=d m b 2 (by omega);have i:=d m b 3 (by omega);have g:=d m b 4 (by omega);have l:=d m b 5 (by omega);have o:=d m b 6 (by omega);have n:=d m b 7 (by omega);have q:=d m b 8 (by omega);simp[A8,Co]at j k f i g l o n q;exact⟨a,e,r,j,k,f,i,g,l,o,n,q⟩
def Vg{a:kJ AY}(g:k<Z a)(e:∀j (b:j<Z a),j<k->B0 a j a[j]=Y)(f:GC a[k]):∀c∈a.take (k+1),GC c:=by
 intro c d;obtain⟨j,b,rfl⟩:=List.mem_iff_getElem.1 d;simp only[gq]at b;rw[jf];by_cases h:j<k
 .exact(SC (e j (by omega) h)).2
 .have:j=k:=by omega
  subst this;exact f
structure KW(w0:kq) where
 wk:kq
 kept:Ac [] w0 wk
theorem KW.some(a:kq):Nonempty (KW a):=⟨⟨a,kL _ _⟩⟩
def Gk{w w0:kq}{l:kJ Oper}(d:P.follows .mixedOrders=hG)(f:Region.lexB .any (j1 l)=hG)(c:Ac [] w0 w)
  (h:wpQuiet P (j1 l) (λb=>∃n:KW w0,b=n.wk) (λe=>∀b,(∃n:KW w0,b=n.wk)->Q .normal e b) l a):(Code.region m (j1 l) hG).wp P Q a w:=
 wp_region_quiet (C:=λb=>∃n:KW w0,b=n.wk) d f ⟨⟨_,c.drew⟩,rfl⟩ (by simpa using h)
def Calls.zc{f:FuncId}{b:Array ks}{n:KW w}
  (h:Calls P f b n.wk λe a=>e=j3 z/\Ac [] n.wk a):Calls P f b n.wk λe c=>e=j3 z/\∃m:KW w,c=m.wk:=
 h.mono λ_ a ⟨he,hk⟩=>⟨he,⟨⟨a,n.kept.trans hk⟩,rfl⟩⟩
theorem Yl(pb:Nat)(lv:ks)(b:kJ AY)(w:kq)(hP:AF w pb [lv] 84)(hR:Cd w lv b)(hF:N6 b):
  Calls prog 36 #[j2 (V ⟨pb,0,Y⟩)] w λe w'=>e=j3 (.tuple #[X J (CD b).1,X J (CD b).2])/\Ac [] w w':=by
 obtain⟨ad,HL,rfl⟩:=Aj hR.row;obtain⟨R,NA⟩:=kK (CD b);rw[NA];have f:kt (Cd w (U ad (Z b) HL) b/\N6 b/\CD b=R):=⟨hR,hF,NA⟩;have a7:=hF.len;clear hR hF NA;go_enter func36,ntmps36;go_wp2
 go_loopw [4] (λi wr=>∃k:Nat,i=X J k/\k<=Z b/\kt (∀j (hj:j<Z b),j<k->B0 b j b[j]=Y)/\Ac [] w wr) (λi _=>Z b-(intOf i).toNat)
 case atStart=>exact⟨0,rfl,fP _,λj hj h=>by omega,kL _ _⟩
 case round=>
  obtain⟨k,rfl,hk,HC,B⟩:=hrel;have M:=(hP.kept B).cell 0;simp at M;by_cases Bx:k<Z b
  .obtain⟨g,ag,he,XS,P0⟩:=AC f.out.1.row (λc _=>Bw c) k Bx;clear P0;simp only[fg]at he;obtain⟨rfl,_,rfl⟩:=he;obtain⟨c0,c1,c2,c3,c4⟩:=S9 f.out.1 B Bx;have o:=(f.out.1.kept B).each b[k] (fj Bx);obtain⟨H3,H2,K8⟩:=Aj o.args;obtain⟨HF,Ha,FB⟩:=Aj o.body;rw[K8]at c1;rw[FB]at c3;obtain⟨c,S⟩:=kK (b[k]);rw[S]at c0 c1 c2 c3 c4 K8 FB;have y:kt (b[k]=c/\c.hv=U H3 (Z c.head.args) H2/\c.bv=U HF (Z c.bl) Ha):=⟨S,K8,FB⟩;(have ap:Z c.bl<=1000:=by have:=f.out.2.1.body b[k] (fj Bx);rw[S]at this;exact this);(have W2:Z c.head.args<=1000000:=by have:=f.out.2.1.head b[k] (fj Bx);rw[S]at this;exact this);have FA:kt (∀r,B0 b k c=V r->R=r):=by
    intro r hr;rw[<-f.out.2.2];exact Wt Bx HC.out (by rw[S];exact hr)
   clear o K8 FB S;by_cases h1:12<=k\/3<Z c.bl
   .have t:kt (R=(3,(c.at_:Int))):=FA.out _ (by unfold B0;rw[fF h1]);by_cases b0:12<=k
    ·(have bs:(12:Int)<=(k:Int):=by omega);clear h1;go_wp2_with fail
     go_quiet (fail)
     (go_wp2_with fail);go_ret2;rw[t.out];exact⟨rfl,(B.alloc _).drewN _⟩
    ·(have h3:(3:Int)<(Z c.bl:Int):=by omega);clear h1;go_wp2_with fail
     go_quiet (fail)
     (go_wp2_with fail);go_ret2;rw[t.out];exact⟨rfl,(B.alloc _).drewN _⟩
   ·(have b4:k<12:=by omega);(have an:Z c.bl<=3:=by omega);by_cases h2:2<Z c.head.args
    .have t:kt (R=(3,(c.at_:Int))):=FA.out _ (by unfold B0;rw[fB h1,fF h2]);clear h1;go_wp2_with fail
     go_quiet (fail)
     (go_wp2_with fail);go_ret2;rw[t.out];exact⟨rfl,(B.alloc _).drewN _⟩
    ·(have a3:Z c.head.args<=2:=by omega);have E:kt (¬(12<=k\/3<Z c.bl)/\¬2<Z c.head.args):=⟨h1,h2⟩;clear h1 h2;(go_wp2_with fail);have AT:=kN wr [O c.head.name,U H3 (Z c.head.args) H2,X J c.head.at_,U HF (Z c.bl) Ha,X J c.at_] 90;have HV:=B.alloc (jj [O c.head.name,U H3 (Z c.head.args) H2,X J c.head.at_,U HF (Z c.bl) Ha,X J c.at_].toArray 90);have a1:=B.size;clear M c0 c1 c2 c3 c4 B;generalize wr.alloc (jj [O c.head.name,U H3 (Z c.head.args) H2,X J c.head.at_,U HF (Z c.bl) Ha,X J c.at_].toArray 90)=w1 at AT HV⊢;generalize wr.heap.size=N at AT a1⊢;have q0:=AT.cell 0;have q1:=AT.cell 1;have P:=AT.cell 2;have q3:=AT.cell 3;have q4:=AT.cell 4;simp at q0 q1 P q3 q4
     go_loop [6] (λi=>∃m:Nat,i=X J m/\m<=Z c.bl/\kt ((c.bl.take m).any Bo=K)) (λi=>Z c.bl-(intOf i).toNat)
     case atStart=>exact⟨0,rfl,fP _,by show _=_;simp⟩
     case round=>
      obtain⟨m,rfl,hm,Q⟩:=hrel;by_cases D:m<Z c.bl
      .have o:=(f.out.1.kept HV).each b[k] (fj Bx);rw[y.out.1]at o;obtain⟨gb,SJ,W,d0,d1,d2,d3,d4,d5,d6,d7,d8⟩:=Ta o D;rw[y.out.2.2]at W;simp only[fg]at W;obtain⟨rfl,_,rfl⟩:=W;obtain⟨AH,Ax,FF⟩:=Aj (o.lits c.bl[m] (fj D));rw[FF]at d2;clear d0 d1 d3 d4 d5 d6 d7 d8 o FF;by_cases WB:2<c.bl[m].1.A.args.length
       .have t:kt (R=(3,(c.at_:Int))):=FA.out _ (by unfold B0;rw[fB E.out.1,fB E.out.2,fF (Jl _ _ m D (by simpa[Bo] using WB))]);go_wp2_with fail
        go_quiet (fail)
        (go_wp2_with fail);go_ret2;rw[t.out];exact⟨rfl,HV.drewN _⟩
       ·(have z:kt ((c.bl.take (m+1)).any Bo=K):=by show _=_;rw[C4 _ _ m D Q.out];simpa[Bo] using WB);go_wp2_with fail
        go_round
        case rel=>exact⟨m+1,by go_num,by omega,z⟩
        case measure=>simp[intOf];omega
      ·(have HJ:kt (c.bl.any Bo=K):=by have h:=Q.out;rwa [fo (by omega)]at h);clear Q;have M:=(hP.kept HV).cell 0;simp at M;(have b1:(k:Int)+1<=(HL:Int):=by omega);have TT:kt (∀c'∈b.take (k+1),GC c'):=by
        refine Vg Bx HC.out ?_;rw[y.out.1];refine⟨an,a3,λp hp=>?_⟩;cases hmm:Bo p with
        |false=>simpa[Bo] using hmm
        |true=>(have:c.bl.any Bo=hG:=by rw[gV];exact⟨p,hp,hmm⟩);rw[HJ.out]at this;cases this
       (go_wp2_with fail);clear D hm;have F:=kN w1 [U (V ⟨g,0,Y⟩) (k+1) HL] 84;have K6:=HV.alloc (jj [U (V ⟨g,0,Y⟩) (k+1) HL].toArray 84);have NM:=AT.alloc (jj [U (V ⟨g,0,Y⟩) (k+1) HL].toArray 84);have aT:=AT.lt;clear M q0 q1 P q3 q4 AT HV;generalize w1.alloc (jj [U (V ⟨g,0,Y⟩) (k+1) HL].toArray 84)=w2 at F K6 NM⊢;generalize w1.heap.size=Nq at F aT⊢;(have b2:Z (b.take (k+1))=k+1:=by simp;omega);have L0:=(f.out.1.kept K6).take (k+1) (by omega);refine(Y5 Nq _ (b.take (k+1)) _ F L0 (by omega) TT).mono ?_;rintro e w3 ⟨v3,rfl,SS,H8⟩;obtain⟨a6,a8,rfl⟩:=Aj SS;have NE:=K6.trans H8;have MN:=NM.kept H8;have S1:=F.kept H8;have TS:=L0.kept H8;obtain⟨nn,QQ⟩:=kK (Z (DX (b.take (k+1))));have TV:=Ab QQ;rw[QQ];clear SS H8 NM F L0 K6 QQ;have q4:=MN.cell 4;simp at q4;by_cases av:6<nn
       .have t:kt (R=(3,(c.at_:Int))):=FA.out _ (by unfold B0;rw[fB E.out.1,fB E.out.2,fB (by rw[HJ.out];exact iC),fF (kn (by rw[Aa TV];exact av))]);go_wp2_with fail
        go_quiet (fail)
        (go_wp2_with fail);go_ret2;rw[t.out];exact⟨rfl,NE.drewN _⟩
       ·(go_wp2_with fail);refine(P1 Nq _ (b.take (k+1)) _ S1 TS (by omega) TT (λc' H6=>f.out.2.1.full c' (iy H6))).mono ?_;rintro e w4 ⟨v4,rfl,SL,LL⟩;obtain⟨bx,bz,rfl⟩:=Aj SL;have K7:=NE.trans LL;have HW:=MN.kept LL;obtain⟨nt,N2⟩:=kK (Z (Bc (b.take (k+1))));have SB:=Ab N2;rw[N2];clear SL LL MN S1 TS NE N2 q4;have q0:=HW.cell 0;have q1:=HW.cell 1;have P:=HW.cell 2;have q4:=HW.cell 4;simp at q0 q1 P q4;by_cases YP:6<nt
        .have t:kt (R=(3,(c.at_:Int))):=FA.out _ (by unfold B0;rw[fB E.out.1,fB E.out.2,fB (by rw[HJ.out];exact iC),fF (kp (by rw[Aa SB];exact YP))]);go_wp2_with fail
         go_quiet (fail)
         (go_wp2_with fail);go_ret2;rw[t.out];exact⟨rfl,K7.drewN _⟩
        .have K4:kt (¬(6<Z (DX (b.take (k+1)))\/6<Z (Bc (b.take (k+1))))):=by
          show¬_;rw[Aa TV,Aa SB];omega
         obtain⟨ar,RI⟩:=kK (B3 b c.head.name);have M1:=Ab RI;have S0:=(hP.kept K7).drew;have M6:=K7.drew;have HG:kt (Z b<=1000000/\(∀c∈b,Z c.bl<=1000000)/\(∀c∈b,∀p∈c.bl,Z p.1.A.args<=1000000)):=⟨by omega,λc' H6=>by have:=f.out.2.1.body c' H6;omega,f.out.2.1.lits⟩;clear RI;go_wp2_with fail
         go_region_held3 (λw'=>ku w' ⟨N,0,Y⟩=V (O c.head.name)/\ku w' ⟨N,1,Y⟩=V (U H3 (Z c.head.args) H2)) (go_keep) (first|(go_at_call 45;refine(Kg pb _ b c.head.name _ (by exact S0) (by exact f.out.1.kept M6) HG.out.1 HG.out.2.1).mono ?_;rintro e w5 ⟨rfl,M0⟩;rw[Aa M1];have H1:=HW.drew.kept M0;have r0:=H1.cell 0;have r1:=H1.cell 1;simp at r0 r1))
         have K9:=M6.trans M0;clear S0 M6 K7 HW q0 q1 P q4 M0 r0 r1;have P:=H1.cell 2;have q3:=H1.cell 3;simp at P q3;by_cases C:ar=(Z c.head.args:Int)
         ·(have RE:(ar !=(Z c.head.args:Int))=K:=by simp[C]);(have Mo:kt (¬B3 b c.head.name≠(Z c.head.args:Int)):=by show¬_;rw[Aa M1];simp[C]);clear C;go_wp2_with fail
          go_loopw [8] (λi wq=>∃m:Nat,i=X J m/\m<=Z c.bl/\kt ((c.bl.take m).any (BC b)=K)/\Ac [] w wq/\AF wq N [O c.head.name,U H3 (Z c.head.args) H2,X J c.head.at_,U HF (Z c.bl) Ha,X J c.at_] 90) (λi _=>Z c.bl-(intOf i).toNat)
          case atStart=>exact⟨0,rfl,fP _,by show _=_;simp,K9,H1⟩
          case round=>
           clear P q3 H1 K9 RE;obtain⟨m,rfl,hm,Q,G,F⟩:=hrel;have a5:=F.lt;have q0:=F.cell 0;have q1:=F.cell 1;have P:=F.cell 2;have q3:=F.cell 3;simp at q0 q1 P q3;have o:=(f.out.1.kept G).each b[k] (fj Bx);rw[y.out.1]at o;by_cases D:m<Z c.bl
           .obtain⟨gb,SJ,W,d0,d1,d2,d3,d4,d5,d6,d7,d8⟩:=Ta o D;rw[y.out.2.2]at W;simp only[fg]at W;obtain⟨rfl,_,rfl⟩:=W;obtain⟨AH,Ax,FF⟩:=Aj (o.lits c.bl[m] (fj D));rw[FF]at d2;clear o FF;obtain⟨a,AB⟩:=kK (c.bl[m]);rw[AB]at d0 d1 d2 d3 d4 d5 d6 d7 d8;have I:kt (BC b a=hG->R=(4,(a.1.A.at_:Int))):=by
             intro ho;refine FA.out _ ?_;unfold B0;rw[fB E.out.1,fB E.out.2,fB (by rw[HJ.out];exact iC),fB K4.out,fB Mo.out,FZ _ _ m D Q.out (by rw[AB];exact ho),AB]
            have z:kt (BC b a=K->(c.bl.take (m+1)).any (BC b)=K):=by
             intro ho;rw[C4 _ _ m D Q.out,AB];exact ho
            clear AB;(go_wp2_with fail);clear d0 d1 d2 d3 d4 d5 d6 d7 d8 q0 q1 P q3;have d:=kN wr [X .u8 a.1.kind.toNat,O a.1.A.name,U AH (Z a.1.A.args) Ax,X J a.1.A.at_,X .u8 a.1.L.v.toNat,O a.1.L.s,X .u8 a.1.R.v.toNat,O a.1.R.s,X J a.1.at_] 173;have E0:=F.alloc (jj [X .u8 a.1.kind.toNat,O a.1.A.name,U AH (Z a.1.A.args) Ax,X J a.1.A.at_,X .u8 a.1.L.v.toNat,O a.1.L.s,X .u8 a.1.R.v.toNat,O a.1.R.s,X J a.1.at_].toArray 173);have l:=G.alloc (jj [X .u8 a.1.kind.toNat,O a.1.A.name,U AH (Z a.1.A.args) Ax,X J a.1.A.at_,X .u8 a.1.L.v.toNat,O a.1.L.s,X .u8 a.1.R.v.toNat,O a.1.R.s,X J a.1.at_].toArray 173);clear F G;generalize wr.alloc (jj [X .u8 a.1.kind.toNat,O a.1.A.name,U AH (Z a.1.A.args) Ax,X J a.1.A.at_,X .u8 a.1.L.v.toNat,O a.1.L.s,X .u8 a.1.R.v.toNat,O a.1.R.s,X J a.1.at_].toArray 173)=w6 at d E0 l⊢;generalize wr.heap.size=Nx at d a5⊢;have x0:=d.cell 0;have x1:=d.cell 1;have x2:=d.cell 2;have x3:=d.cell 3;simp at x0 x1 x2 x3;obtain⟨B9,HS⟩:=kK (B3 b a.1.A.name);have HX:=Ab HS;have Ix:=(hP.kept l).drew;have KS:=l.drew;rcases E1 a with⟨k1,H⟩|⟨k1,k2,H⟩|⟨k1,k2,H⟩
            ·(have y0:∀n:KW w6,ku n.wk ⟨Nx,0,Y⟩=V (X .u8 a.1.kind.toNat):=λn=>(d.kept n.kept).cell 0);(have y1:∀n:KW w6,ku n.wk ⟨Nx,1,Y⟩=V (O a.1.A.name):=λn=>(d.kept n.kept).cell 1);(have y2:∀n:KW w6,ku n.wk ⟨Nx,2,Y⟩=V (U AH (Z a.1.A.args) Ax):=λn=>(d.kept n.kept).cell 2);have FC:kt (∀n:KW w6,Calls prog 45 #[j2 (V ⟨pb,0,Y⟩),O a.1.A.name] n.wk λe IJ=>e=j3 (X J B9)/\∃m:KW w6,IJ=m.wk):=by
              intro n;have h:=Kg pb _ b a.1.A.name n.wk (hP.kept (l.trans n.kept)) (f.out.1.kept (l.trans n.kept)) HG.out.1 HG.out.2.1;rw[Aa HX]at h;exact Calls.zc h
             clear x0 x1 x2;have VR:=KW.some w6;refine Gk (w0:=w6) (by kernel_rfl) (by kernel_rfl) (kL _ _) ?_
             repeat (go_big_quiet_step ((go_at_call 45;exact FC _)))
             refine wpQuiet_nil ?_;intro _ H4;obtain⟨⟨w7,u⟩,KK⟩:=H4;subst KK
             try simp only
             clear y0 y1 y2 FC;have AR:=l.trans u;have PT:=E0.kept u;have NY:=(d.kept u).cell 3;simp at NY;by_cases C:B9=(Z a.1.A.args:Int)
             ·(have HO:(B9 !=(Z a.1.A.args:Int))=K:=by simp[C]);have EX:=Ab (z.out (by simp only[BC,H,Aa HX,HO,jc]));clear I z H HS Ix KS x3 d E0 l u C;go_wp2_with fail
              go_roundw
              case rel=>exact⟨m+1,by go_num,by omega,EX,AR,PT⟩
              case measure=>simp[intOf];omega
             ·(have HO:(B9 !=(Z a.1.A.args:Int))=hG:=by simp[C]);have t:kt (R=(4,(a.1.A.at_:Int))):=I.out (by simp only[BC,H,Aa HX,HO,iY]);clear I z H HS Ix KS x3 d E0 l u C;go_wp2_with fail
              go_quiet (fail)
              (go_wp2_with fail);go_ret2;rw[t.out];exact⟨rfl,AR.drewN _⟩
            ·(have y0:∀n:KW w6,ku n.wk ⟨Nx,0,Y⟩=V (X .u8 a.1.kind.toNat):=λn=>(d.kept n.kept).cell 0);(have y1:∀n:KW w6,ku n.wk ⟨Nx,1,Y⟩=V (O a.1.A.name):=λn=>(d.kept n.kept).cell 1);(have y2:∀n:KW w6,ku n.wk ⟨Nx,2,Y⟩=V (U AH (Z a.1.A.args) Ax):=λn=>(d.kept n.kept).cell 2);have FC:kt (∀n:KW w6,Calls prog 45 #[j2 (V ⟨pb,0,Y⟩),O a.1.A.name] n.wk λe IJ=>e=j3 (X J B9)/\∃m:KW w6,IJ=m.wk):=by
              intro n;have h:=Kg pb _ b a.1.A.name n.wk (hP.kept (l.trans n.kept)) (f.out.1.kept (l.trans n.kept)) HG.out.1 HG.out.2.1;rw[Aa HX]at h;exact Calls.zc h
             clear x0 x1 x2;have VR:=KW.some w6;refine Gk (w0:=w6) (by kernel_rfl) (by kernel_rfl) (kL _ _) ?_
             repeat (go_big_quiet_step ((go_at_call 45;exact FC _)))
             refine wpQuiet_nil ?_;intro _ H4;obtain⟨⟨w7,u⟩,KK⟩:=H4;subst KK
             try simp only
             clear y0 y1 y2 FC;have AR:=l.trans u;have PT:=E0.kept u;have NY:=(d.kept u).cell 3;simp at NY;by_cases C:B9=(Z a.1.A.args:Int)
             ·(have HO:(B9 !=(Z a.1.A.args:Int))=K:=by simp[C]);have EX:=Ab (z.out (by simp only[BC,H,Aa HX,HO,jc]));clear I z H HS Ix KS x3 d E0 l u C;go_wp2_with fail
              go_roundw
              case rel=>exact⟨m+1,by go_num,by omega,EX,AR,PT⟩
              case measure=>simp[intOf];omega
             ·(have HO:(B9 !=(Z a.1.A.args:Int))=hG:=by simp[C]);have t:kt (R=(4,(a.1.A.at_:Int))):=I.out (by simp only[BC,H,Aa HX,HO,iY]);clear I z H HS Ix KS x3 d E0 l u C;go_wp2_with fail
              go_quiet (fail)
              (go_wp2_with fail);go_ret2;rw[t.out];exact⟨rfl,AR.drewN _⟩
            .have EX:=Ab (z.out (by simp[BC,H]));clear I z H HS Ix KS
             go_quiet (fail)
             go_wp2_with fail
             go_roundw
             case rel=>exact⟨m+1,by go_num,by omega,EX,l.drewN _,E0.drewN _⟩
             case measure=>simp[intOf];omega
           .have W0:kt (c.bl.find? (BC b)=Y):=by
             have h:=Q.out;rw[fo (by omega)]at h;show _=_;rw[iN];intro x hx hf;(have:c.bl.any (BC b)=hG:=by rw[gV];exact⟨x,hx,hf⟩);rw[h]at this;cases this
            have T:=aL c.head c.hv c.bv c.bl _ o.args o.body o.lits (by omega) (λp hp=>by have:=HG.out.2.2 b[k] (fj Bx) p (by rw[y.out.1];exact hp);exact this) W2;rw[y.out.2.1,y.out.2.2]at T;simp only[Cc]at T;have HT:=Ab T;obtain⟨sf,W1⟩:=kK (FI c.head c.bl);have LB:=Ab W1;(have a4: -1<=sf/\sf<=9223372036854775806->True:=λ_=>trivial);clear a4 T o W1;(go_wp2_with fail);refine HT.mono ?_;rintro e w7 ⟨rfl,u⟩;rw[Aa LB];have AR:=G.trans u;clear HT u G F q0 q1 P q3;by_cases ST:0<=sf
            .have t:kt (R=(5,sf)):=FA.out _ (by unfold B0;rw[fB E.out.1,fB E.out.2,fB (by rw[HJ.out];exact iC),fB K4.out,fB Mo.out,W0.out];simp only;rw[Aa LB,fF ST]);(go_wp2_with fail);go_ret2;rw[t.out];exact⟨rfl,AR⟩
            .have af:kt (∀j (hj:j<Z b),j<k+1->B0 b j b[j]=Y):=by
              intro j hj bn;by_cases ao:j<k
              .exact HC.out j hj ao
              ·(have:j=k:=by omega);subst this;rw[y.out.1];unfold B0;rw[fB E.out.1,fB E.out.2,fB (by rw[HJ.out];exact iC),fB K4.out,fB Mo.out,W0.out];simp only;rw[Aa LB,fB ST]
             go_wp2_with fail
             go_roundw
             case rel=>exact⟨k+1,by go_num,by omega,af,AR⟩
             case measure=>simp[intOf];omega
         ·(have RE:(ar !=(Z c.head.args:Int))=hG:=by simp[C]);have t:kt (R=(4,(c.head.at_:Int))):=FA.out _ (by unfold B0;rw[fB E.out.1,fB E.out.2,fB (by rw[HJ.out];exact iC),fB K4.out,fF (by rw[Aa M1];exact C)]);clear C;go_wp2_with fail
          go_quiet (fail)
          (go_wp2_with fail);go_ret2;rw[t.out];exact⟨rfl,K9.drewN _⟩
  .have WW:kt (R=match b.findSome? (Do b)with|some r=>r|none=>(0,0)):=by
    rw[<-f.out.2.2];exact TB (λj hj=>HC.out j hj (by omega))
   have Op:kt (Z b<=1000000/\(∀c∈b,Z c.bl<=1000000)/\Z (C2 b)<=900000):=⟨by omega,λc' H6=>by have:=f.out.2.1.body c' H6;omega,f.out.2.1.atoms⟩;clear HC;(go_wp2_with fail);clear M
   go_loopw [11] (λi wr=>∃q:Nat,i=X J q/\q<=Z b/\kt ((b.take q).findSome? (Do b)=Y)/\Ac [] w wr) (λi _=>Z b-(intOf i).toNat)
   case atStart=>exact⟨0,rfl,fP _,by show _=_;simp,B⟩
   case round=>
    clear B;obtain⟨q,rfl,hq,HQ,B⟩:=hrel;have M:=(hP.kept B).cell 0;simp at M;by_cases EY:q<Z b
    .obtain⟨g,ag,he,XS,P0⟩:=AC f.out.1.row (λc _=>Bw c) q EY;clear P0;simp only[fg]at he;obtain⟨rfl,_,rfl⟩:=he;have TL:=f.out.1.each b[q] (fj EY);obtain⟨HF,Ha,FB⟩:=Aj TL.body;obtain⟨c,S⟩:=kK (b[q]);rw[S]at FB;have y:kt (b[q]=c/\c.bv=U HF (Z c.bl) Ha):=⟨S,FB⟩;(have ap:Z c.bl<=1000:=by have:=f.out.2.1.body b[q] (fj EY);rw[S]at this;exact this);clear TL FB S;(go_wp2_with fail);clear M
     go_loopw [12] (λi wq=>∃m:Nat,i=X J m/\m<=Z c.bl/\kt ((c.bl.take m).any (EA b c)=K)/\Ac [] w wq) (λi _=>Z c.bl-(intOf i).toNat)
     case atStart=>exact⟨0,rfl,fP _,by show _=_;simp,B⟩
     case round=>
      clear B;obtain⟨m,rfl,hm,Q,G⟩:=hrel;have M:=(hP.kept G).cell 0;simp at M;obtain⟨c0,_,_,c3,_⟩:=S9 f.out.1 G EY;rw[y.out.1]at c0 c3;rw[y.out.2]at c3;have o:=(f.out.1.kept G).each b[q] (fj EY);rw[y.out.1]at o;by_cases D:m<Z c.bl
      .obtain⟨gb,SJ,W,d0,d1,d2,d3,d4,d5,d6,d7,d8⟩:=Ta o D;rw[y.out.2]at W;simp only[fg]at W;obtain⟨rfl,_,rfl⟩:=W;obtain⟨AH,Ax,FF⟩:=Aj (o.lits c.bl[m] (fj D));rw[FF]at d2;clear o FF;obtain⟨a,AB⟩:=kK (c.bl[m]);rw[AB]at d0 d1 d2 d3 d4 d5 d6 d7 d8;have I:kt (EA b c a=hG->R=(6,(a.1.at_:Int))):=by
        intro ho;have h1:Do b b[q]=V (6,(a.1.at_:Int)):=by
         unfold Do;rw[y.out.1,FZ _ _ m D Q.out (by rw[AB];exact ho),AB];rfl
        rw[WW.out,GG _ _ q EY HQ.out h1]
       have z:kt (EA b c a=K->(c.bl.take (m+1)).any (EA b c)=K):=by
        intro ho;rw[C4 _ _ m D Q.out,AB];exact ho
       clear AB;have MB:((a.1.kind.toNat:Int)==33)=(a.1.kind==33):=Ck _ 33;cases hkd:(a.1.kind==33)with
       |false=>
        rw[hkd]at MB;have EX:=Ab (z.out (by simp[EA,hkd]));clear I z hkd;go_wp2_with fail
        go_roundw
        case rel=>exact⟨m+1,by go_num,by omega,EX,G.alloc _⟩
        case measure=>simp[intOf];omega
       |true=>
        rw[hkd]at MB;(go_wp2_with fail);clear d0 d1 d2 d3 d4 d5 d6 d7 d8 M c0 c3 MB;have d:=kN wr [X .u8 a.1.kind.toNat,O a.1.A.name,U AH (Z a.1.A.args) Ax,X J a.1.A.at_,X .u8 a.1.L.v.toNat,O a.1.L.s,X .u8 a.1.R.v.toNat,O a.1.R.s,X J a.1.at_] 173;have l:=G.alloc (jj [X .u8 a.1.kind.toNat,O a.1.A.name,U AH (Z a.1.A.args) Ax,X J a.1.A.at_,X .u8 a.1.L.v.toNat,O a.1.L.s,X .u8 a.1.R.v.toNat,O a.1.R.s,X J a.1.at_].toArray 173);clear G;generalize wr.alloc (jj [X .u8 a.1.kind.toNat,O a.1.A.name,U AH (Z a.1.A.args) Ax,X J a.1.A.at_,X .u8 a.1.L.v.toNat,O a.1.L.s,X .u8 a.1.R.v.toNat,O a.1.R.s,X J a.1.at_].toArray 173)=w6 at d l⊢;generalize wr.heap.size=Nx at d⊢;(have y1:∀n:KW w6,ku n.wk ⟨Nx,1,Y⟩=V (O a.1.A.name):=λn=>(d.kept n.kept).cell 1);(have y2:∀n:KW w6,ku n.wk ⟨pb,0,Y⟩=V (U (V ⟨g,0,Y⟩) (Z b) HL):=λn=>(hP.kept (l.trans n.kept)).cell 0);(have y3:∀n:KW w6,ku n.wk ⟨g,q*5,Y⟩=V (O c.head.name):=λn=>by have h:=(S9 f.out.1 (l.trans n.kept) EY).1;rw[y.out.1]at h;exact h);obtain⟨rb,WS⟩:=kK (GW b a.1.A.name c.head.name);have LE:=Ab WS;have FC:kt (∀n:KW w6,Calls prog 77 #[j2 (V ⟨pb,0,Y⟩),O a.1.A.name,O c.head.name] n.wk λe IJ=>e=j3 (k0 rb)/\∃m:KW w6,IJ=m.wk):=by
         intro n;have h:=Tm pb _ b a.1.A.name c.head.name n.wk (hP.kept (l.trans n.kept)) (f.out.1.kept (l.trans n.kept)) Op.out.1 Op.out.2.1 Op.out.2.2;rw[Aa LE]at h;exact Calls.zc h
        (have ba:(q:Int)<(Z b:Int):=by omega);clear WS;have VR:=KW.some w6;refine Gk (w0:=w6) (by kernel_rfl) (by kernel_rfl) (kL _ _) ?_
        repeat (go_big_quiet_step ((go_at_call 77;exact FC _)))
        refine wpQuiet_nil ?_;intro _ H4;obtain⟨⟨w7,u⟩,KK⟩:=H4;subst KK
        try simp only
        clear y1 y2 y3 FC;have AR:=l.trans u;have x8:=(d.kept u).cell 8;simp at x8;cases rb with
        |true=>
         have t:kt (R=(6,(a.1.at_:Int))):=I.out (by simp only[EA,hkd,Aa LE,iY]);clear I z hkd d l u;go_wp2_with fail
         go_quiet (fail)
         (go_wp2_with fail);go_ret2;rw[t.out];exact⟨rfl,AR.drewN _⟩
        |false=>
         have EX:=Ab (z.out (by simp only[EA,hkd,Aa LE,jc]));clear I z hkd d l u;go_wp2_with fail
         go_roundw
         case rel=>exact⟨m+1,by go_num,by omega,EX,AR⟩
         case measure=>simp[intOf];omega
      .have HZ:kt ((b.take (q+1)).findSome? (Do b)=Y):=by
        have h:=Q.out;rw[fo (by omega)]at h;show _=_;rw[FE _ _ q EY HQ.out,y.out.1];unfold Do;have:c.bl.find? (EA b c)=Y:=by
         rw[iN];intro x hx hf;(have:c.bl.any (EA b c)=hG:=by rw[gV];exact⟨x,hx,hf⟩);rw[h]at this;cases this
        rw[this];rfl
       go_wp2_with fail
       go_roundw
       case rel=>exact⟨q+1,by go_num,by omega,HZ,G⟩
       case measure=>simp[intOf];omega
    .have HE:kt (R=(0,0)):=by
      have h:=HQ.out;rw[fo (by omega)]at h;show _=_;rw[WW.out,h]
     (go_wp2_with fail);go_ret2;rw[HE.out];exact⟨rfl,B⟩
def Ar(s:zA)(at_:Nat):kJ Cb×Nat×Bool:=
 if h:at_<s.size then
  if h2:(Ao s at_).2.2=K/\at_<AN s (Ao s at_).2.1 (Ao s at_).2.2 then
   ((Ao s at_).1::(Ar s (AN s (Ao s at_).2.1 (Ao s at_).2.2)).1,(Ar s (AN s (Ao s at_).2.1 (Ao s at_).2.2)).2)
  else([(Ao s at_).1],AN s (Ao s at_).2.1 (Ao s at_).2.2,(Ao s at_).2.2)
 else([],at_,K)
def EO(s:zA)(a:Nat)(bd:Bool):kJ Cb×Nat×Bool:=if bd then([],a,hG)else Ar s a
def KL{c:Cb}(e:n<s.size)(b:Ao s n=(c,m,B)):
  Ar s n=(c::(EO s (AN s m B) B).1,(EO s (AN s m B) B).2):=by
 conv=>lhs;rw[Ar]
 rw[dif_pos e];cases B with
 |true=>rw[dif_neg (by rw[b];simp)];rw[b];rfl
 |false=>
  have d:=Po (s:=s) (at_:=n) (by rw[b]);rw[b]at d;have f:=Jo s m K;rw[dif_pos (by rw[b];exact⟨rfl,by simp only at d⊢;omega⟩),b];rfl
def LQ(b:¬n<s.size):Ar s n=([],n,K):=by
 rw[Ar,dif_neg b]
def Tl(s:zA)(t:AG):Prop:=t.v=0->0<t.s.size/\t.s.size<=s.size
def IX(s:zA)(i j:Nat)(h:j<=s.size):(s.extract i j).size=j-i:=by
 rw[iA,iS h]
def Vb(h:(A3 s n K).2.2=K)(d:n<=s.size):0<(A3 s n K).1.size/\(A3 s n K).1.size<=s.size:=by
 have c:=Bj s n d;have a:=C3 Az s _ c;have e:=Cr Az s (Ae s n);unfold A3 at h⊢;simp only[fq,if_false]at h⊢;split at h
 .cases h
 .rename_i b;simp only[b,if_false];rw[IX _ _ _ a];omega
def Ji(h:(AK s n K).2.2=K)(j:n<=s.size):Tl s (AK s n K).1:=by
 have e:=Bj s n j;intro a;unfold AK at h a⊢;simp only[fq,if_false]at h a⊢;split at h
 .rename_i d;simp only[d,dite_true]at a⊢;split at h
  .rename_i b;simp only[b,if_true]at a;rw[a]at b;exact absurd b (by decide)
  .rename_i b;simp only[b,if_false,fq]at a⊢;split at h
   .rename_i c;simp only[c,if_true];exact Vb h e
   .rename_i c;simp only[c,if_false,fq];split at h
    .cases h
    .rename_i i;simp only[i,if_false];have f:=C3 Aq s _ e;(have g:Aq s[Ae s n]=hG:=by simpa using c);have l:=Ce Aq s _ d g;have k:=Cr Aq s (Ae s n+1);show 0<(s.extract (Ae s n) (AM Aq s (Ae s n))).size/\_;rw[IX _ _ _ f];omega
 .cases h
def Vz(s:zA)(a:Nat)(d:a<=s.size):Z (Cy s a).1<=s.size-a+1/\((Cy s a).2.2=K->∀t∈(Cy s a).1,Tl s t):=by
 fun_induction Cy s a with
 |case1 a hc _ _ ih=>
  have f:=DB s _ (AK s a K).2.2 44 (Fp s a K d);obtain⟨h,g⟩:=ih f;have i:=hc.2.1;refine⟨by simp only[fD];omega,λc t b=>?_⟩;rcases fx.1 b with rfl|b
  .have e:(AK s a K).2.2=K:=by
    have:=hc.1;simp only[fU,iK]at this;exact this.1
   exact Ji e d
  .exact g c t b
 |case2 a hc=>
  refine⟨by simp,λc t b=>?_⟩;simp only[ft]at b;subst b;exact Ji c d
def PX(s:zA)(p:Nat×Bool)(a:p.1<=s.size):Z (Eo s p).1<=s.size+1/\((Eo s p).2.2=K->∀t∈(Eo s p).1,Tl s t):=by
 unfold Eo;split
 .exact⟨by simp,λh=>by cases h⟩
 .have h:=Vz s p.1 a;exact⟨by omega,h.2⟩
def bI(s:zA)(a:C8):Prop:=∀t∈a.args,Tl s t
def Np(s:zA)(a:Nat)(c:Bool)(b:a<=s.size):Z (AV s a c).1.args<=s.size+1:=by
 unfold AV;exact(PX s _ (DB _ _ _ _ (Hc _ _ _ (Gq _ _ _ b)))).1
def Rk(h:(Bm s n B g).2=K):B=K:=by
 unfold Bm at h;cases B<;>simp_all
def Lf(h:(AV s n B).2.2=K)(a:n<=s.size):bI s (AV s n B).1:=by
 unfold AV at h⊢;exact(PX s _ (DB _ _ _ _ (Hc _ _ _ (Gq _ _ _ a)))).2 (Rk h)
structure Zo(s:zA)(x:BH):Prop where
 atom:bI s x.A
 left:(x.kind==97||x.kind==33)=K->Tl s x.L
 right:(x.kind==97||x.kind==33)=K->Tl s x.R
def Ux(s:zA)(a:Nat)(c:a<=s.size):Z (Dj s a).1.A.args<=s.size+1:=by
 have b:=Bj s a c;unfold Dj;simp only;split
 .rename_i d;have:=Fm d;exact Np s _ _ (by omega)
 .split
  .exact Np s _ _ b
  .unfold Hz;split<;>simp[Gz]
def Rp(h:(Dj s n).2.2=K)(i:n<=s.size):Zo s (Dj s n).1:=by
 have f:=Bj s n i;unfold Dj at h⊢;simp only at h⊢;split at h
 .rename_i c;simp only[c,if_true];have:=Fm c;exact⟨Lf h (by omega),λa=>by simp at a,λa=>by simp at a⟩
 .rename_i c;simp only[c,fq,if_false];split at h
  .rename_i d;simp only[d,if_true];exact⟨Lf h f,λa=>by simp at a,λa=>by simp at a⟩
  .rename_i d;simp only[d,fq,if_false];unfold Hz at h⊢;split at h
   .rename_i b;simp only[b,if_true];simp only[fU,iK,ie]at b;have j:AN s (AK s (Ae s n) K).2.1 (AK s (Ae s n) K).2.2<s.size:=by
     rcases b.2 with(e|e)|e<;>exact Fm e
    exact⟨λt g=>by simp[Gz]at g,λ_=>Ji b.1 f,λ_=>Ji h (by omega)⟩
   .cases h
def Wl(s:zA)(a:Nat)(c:a<=s.size):Z (Da s a).1<=s.size-a+1/\(∀x∈(Da s a).1,Z x.A.args<=s.size+1)/\((Da s a).2.2=K->∀x∈(Da s a).1,Zo s x):=by
 fun_induction Da s a with
 |case1 a hc _ _ ih=>
  have g:=DB s _ (Dj s a).2.2 44 (KF s a c);obtain⟨i,h,f⟩:=ih g;have j:=hc.2.1;refine⟨by simp only[fD];omega,λx b=>?_,λd x b=>?_⟩
  .rcases fx.1 b with rfl|b
   .exact Ux s a c
   .exact h x b
  .rcases fx.1 b with rfl|b
   .have e:(Dj s a).2.2=K:=by
     have:=hc.1;simp only[fU,iK]at this;exact this.1
    exact Rp e c
   .exact f d x b
 |case2 a hc=>
  refine⟨by simp,λx b=>?_,λd x b=>?_⟩
  .simp only[ft]at b;subst b;exact Ux s a c
  .simp only[ft]at b;subst b;exact Rp d c
structure Zm(s:zA)(c:Cb):Prop where
 head:bI s c.head
 body:∀x∈c.body,Zo s x
structure ei(s:zA)(c:Cb):Prop where
 head:Z c.head.args<=s.size+1
 body:Z c.body<=s.size+1
 lits:∀x∈c.body,Z x.A.args<=s.size+1
def Pk(s:zA)(c:Nat)(a:Bool)(j:c<=s.size):Z (DG s c a).1<=s.size+1/\(∀x∈(DG s c a).1,Z x.A.args<=s.size+1)/\((DG s c a).2.2=K->a=K/\∀x∈(DG s c a).1,Zo s x):=by
 unfold DG;split
 .rename_i k;have e:a=K:=by cases a<;>simp_all
  split
  .rename_i b;have i:=Fm b;obtain⟨g,f,d⟩:=Wl s (BW s c a 58+1) (by omega);exact⟨by omega,f,λh=>⟨e,d h⟩⟩
  .exact⟨by simp,λx b=>by simp at b,λh=>by cases h⟩
 .exact⟨by simp,λx b=>by simp at b,λh=>⟨h,λx b=>by simp at b⟩⟩
def T5(s:zA)(a:Nat)(d:a<=s.size):ei s (Ao s a).1:=by
 have b:=Bj s a d;have c:=Pk s (AV s (Ae s a) K).2.1 (AV s (Ae s a) K).2.2 (IB _ _ _ b);unfold Ao;exact⟨Np s _ _ b,c.1,c.2.1⟩
def So{at_:Nat}(h:(Ao s at_).2.2=K)(c:at_<=s.size):Zm s (Ao s at_).1:=by
 have a:=Bj s at_ c;have d:=Pk s (AV s (Ae s at_) K).2.1 (AV s (Ae s at_) K).2.2 (IB _ _ _ a);unfold Ao at h⊢;have b:=d.2.2 (Rk h);exact⟨Lf b.1 a,b.2⟩
theorem Tryz.zr:(Tryz.prog.info? 90).map (λi=>(i.zero,i.size,i.bytes))=V (V (kx #[O ⟨#[]⟩,U Y 0 0,X J 0,U Y 0 0,X J 0]),5,80):=by kernel_rfl
def AY.erase(c:AY):Cb:=⟨c.head,c.bl.map kE,c.at_⟩
structure Lc(w:kq)(base:Nat)(lv:ks)(c:AY):Prop where
 args:kw w base 135 2 c.hv (Z c.head.args) (c.head.args.flatMap AP)
 body:kw w base 173 9 c.bv (Z c.bl) (c.bl.flatMap A8)
 lits:∀p∈c.bl,Cu w base p
 z7:BV c.hv lv
 z6:BV c.bv lv
 z9:∀p∈c.bl,BV p.2 lv
def Lc.cvIn{c:AY}(h:Lc w n z c):V2 w c:=
 ⟨Al h.args (fP _),Al h.body (fP _),λp a=>Al (h.lits p a) (fP _)⟩
def Lc.kept{M:kJ Nat}{w w':kq}{b:Nat}{d:ks}{c:AY}(h:Lc w b d c)(k:Ac M w w')(a:∀i,i∈M->i<b:=by simp):Lc w' b d c:=
 ⟨Ad h.args k a,Ad h.body k a,λp e=>(h.lits p e).kept k a,h.z7,h.z6,h.z9⟩
def Ia{v a:ks}(h:kw w m T i v n y)(k:w.grownBy u a.ownBlock)(b:BV v a):kw u m T i v n y:=
 h.kept k (by
  cases hv:v.ownBlock with
  |none=>exact kn rfl
  |some k=>exact kp (λT=>b k hv T.symm))
def Lc.grown{c:AY}{g n cap H:Nat}(h:Lc w m z c)(k:w.grownBy v z.ownBlock)(b:z.ownBlock=V g\/g=H)(d:w.heap.size<=H):Lc v m (U (V ⟨g,0,Y⟩) n cap) c:=
 ⟨Ia h.args k h.z7,Ia h.body k h.z6,λp a=>Ia (h.lits p a) k (h.z9 p a),BV.zY h.z7 h.args b d,BV.zY h.z6 h.body b d,λp a=>BV.zY (h.z9 p a) (h.lits p a) b d⟩
def Ed(s:zA)(e at_:Int):Prop:=
 if 300<s.size then e=1/\at_=0
 else if(Ar s (Ae s 0)).2.2 then e=2/\at_=(Ar s (Ae s 0)).2.1
 else∃cs:kJ AY,cs.map AY.erase=(Ar s (Ae s 0)).1/\(e,at_)=CD cs
def TE(a:kJ AY)(N:Nat)(h:∀c∈a,Z c.bl<=N):Z (C2 a)<=Z a*N:=by
 unfold C2
 induction a with
 |nil=>simp
 |cons c a ih=>
  have f:=ih (λd b=>h d (by simp[b]));have e:=h c (by simp);have g:=ib On c.bl;simp only[fN,fE,fH,fD];rw[iz];omega
def cn(l:s.size<=300){d:kJ AY}(k:Z d<=300)(g:∀c∈d,ei s c.erase)(j:∀c∈d,Zm s c.erase):N6 d:=by
 have i:∀c∈d,Z c.bl<=301:=λc a=>by have:=(g c a).body;simp only[AY.erase,fH]at this;omega
 refine⟨by omega,λc a=>by have:=i c a;omega,λc a=>by have:=(g c a).head;simp only[AY.erase]at this;omega,λc a p f=>?_,?_,λc a=>⟨?_,λp f=>?_⟩⟩
 .have:=(g c a).lits p.1 (by simp only[AY.erase];exact fW f);omega
 .have:=TE d 301 i;have:Z d*301<=300*301:=gK _ k;omega
 .intro t b e;have:=(j c a).head t b e;omega
 .have h:=(j c a).body p.1 (by simp only[AY.erase];exact fW f);intro t b e;unfold A2 at b;cases ha:On p with
  |true=>
   rw[ha]at b;have:=h.atom t (by simpa using b) e;omega
  |false=>
   rw[ha]at b;simp only[fq,if_false,fx,gP,or_false]at b;rcases b with rfl|rfl
   .have:=h.left ha e;omega
   .have:=h.right ha e;omega
def VZ{a:kJ AY}{c:AY}{r:Int×Int}(h:B0 a i c=V r):r.1≠0:=by
 unfold B0 at h
 repeat (split at h;· first|cases h;done|(simp only[fu]at h;subst h;simp))
 all_goals first|cases h;done|(simp only[fu]at h;subst h;simp)|skip
def O4{b:kJ AY}:∀(l:kJ AY) (i:Nat) {r:Int×Int},D1 b i l=V r->r.1≠0
 |[],_,_,h=>by simp[D1]at h
 |c::l,i,r,h=>by
  rw[D1]at h;split at h
  .rename_i d a;simp only[fu]at h;subst h;exact VZ a
  .exact O4 l (i+1) h
def Hk{cs:kJ AY}(h:(CD cs).1=0):CD cs=(0,0):=by
 unfold CD at h⊢;split
 .rename_i r b;rw[b]at h;exact absurd h (O4 _ _ b)
 .rename_i b;rw[b]at h;simp only at h;split
  .rename_i r d;rw[d]at h;obtain⟨e,c,f,_,a,_⟩:=List.findSome?_eq_some_iff.1 d;unfold Do at a;cases hf:c.bl.find? (EA cs c)with
   |none=>rw[hf]at a;simp at a
   |some p=>rw[hf]at a;simp only[im,fu]at a;rw[<-a]at h;simp at h
  .rfl
structure Tk(s:zA)(acc:kJ AY)(a:Nat)(bd:Bool)(R:kJ Cb×Nat×Bool):Prop where
 rest:(acc.map AY.erase++(EO s a bd).1,(EO s a bd).2)=R
 len:Z acc<=a+1
 len2:bd=K->Z acc<=a
 lens:∀c∈acc,ei s c.erase
 zN:bd=K->∀c∈acc,Zm s c.erase
def Tk.step{l:kJ AY}{R:kJ Cb×Nat×Bool}{c:AY}(h:Tk s l n K R)(q:n<s.size)(f:Ao s n=(c.erase,m,B)):
  AN s m B<=s.size/\2*(s.size-AN s m B)+(if B then 0 else 1)<2*(s.size-n)+1/\Tk s (l++[c]) (AN s m B) B R:=by
 have i:=I1 s n (by omega);have v:=Jo s m B;have j:=T5 s n (by omega);have r:n<=m:=by
  have w:=BR s n;have z:=J0 s (Ae s n) K;have t:=U2 s (AV s (Ae s n) K).2.1 (AV s (Ae s n) K).2.2;have y:=Eb s (DG s (AV s (Ae s n) K).2.1 (AV s (Ae s n) K).2.2).2.1 (DG s (AV s (Ae s n) K).2.1 (AV s (Ae s n) K).2.2).2.2 46;have e:m=(Ao s n).2.1:=by rw[f]
  rw[e];show n<=BW s _ _ 46;omega
 have k:B=K->n<m:=λd=>by
  have:=Po (s:=s) (at_:=n) (by rw[f];exact d);rw[f]at this;exact this
 have o:B=K->Zm s c.erase:=λd=>by
  have:=So (s:=s) (at_:=n) (by rw[f];exact d) (by omega);rw[f]at this;exact this
 rw[f]at i j;simp only at i j;have p:=Gq s m B i;have u:=h.len2 rfl;refine⟨p,?_,⟨?_,?_,?_,?_,?_⟩⟩
 .cases B with
  |true=>simp;omega
  |false=>have:=k rfl;simp;omega
 .have g:=h.rest;unfold EO at g;simp only[fq,if_false]at g;rw[KL q f]at g;rw[<-g];simp
 .simp;omega
 .intro d;have:=k d;simp;omega
 .intro x b;rcases fA.1 b with b|b
  .exact h.lens x b
  .simp only[ft]at b;subst b;exact j
 .intro d x b;rcases fA.1 b with b|b
  .exact h.zN rfl x b
  .simp only[ft]at b;subst b;exact o d
def Ur(s:zA)(pv:ks)(er:Int)(w:kq):Prop:=
 er=0->∃(pb:Nat) (lad:Option Addr) (lcp:Nat) (cs:kJ AY),pv=j2 (V ⟨pb,0,Y⟩)/\AF w pb [U lad (Z cs) lcp] 84/\Cd w (U lad (Z cs) lcp) cs/\N6 cs/\s.size<=300/\(Ar s (Ae s 0)).2.2=K/\cs.map AY.erase=(Ar s (Ae s 0)).1/\CD cs=(0,0)
theorem Ng(s:zA)(w:kq)(LC:s.size<=9223372036854775807):
  Calls prog 15 #[O s] w λe w'=>∃(pv:ks) (y z:Int),e=j3 (.tuple #[pv,X J y,X J z])/\Ed s y z/\Ur s pv y w'/\Ac [] w w':=by
 by_cases HO:300<s.size
 .have HI:kt (Ed s 1 0):=by show Ed _ _ _;unfold Ed;rw[fF HO];exact⟨rfl,rfl⟩
  go_enter func15,ntmps15;go_wp2;go_ret3;exact⟨_,1,0,rfl,HI.out,(λh=>by cases h),kL _ _⟩
 .have hs:s.size<=300:=by omega
  have FL:s.size<=1000000:=by omega
  obtain⟨i0,M6,K8,NL,MN⟩:=gH Tryz.zr;obtain⟨j,hj⟩:=kK (Ae s 0);have NE:j<=s.size:=by have:=Bj s 0 (fP _);omega
  obtain⟨D,E,B,EY⟩:∃D E B,Ar s j=(D,E,B):=⟨_,_,_,rfl⟩;have HI:kt (∀y z:Int,(if B then y=2/\z=(E:Int)else∃cs:kJ AY,cs.map AY.erase=D/\(y,z)=CD cs)->Ed s y z):=by
   intro y z h;unfold Ed;rw[fB HO,hj,EY];exact h
  have R:kt (AN s 0 K=j/\Ar s j=(D,E,B)):=⟨hj,EY⟩;clear hj EY HO LC;go_enter func15,ntmps15;go_wp2_with fail
  have H8:AF ((w.alloc (jj #[O s,X J 0,k0 K] 81)).alloc (jj #[U Y 0 0] 84)) w.heap.size (BL s 0 K) 81:=(kN w (BL s 0 K) 81).alloc _;have HU:AF ((w.alloc (jj #[O s,X J 0,k0 K] 81)).alloc (jj #[U Y 0 0] 84)) (w.heap.size+1) [U Y 0 0] 84:=by
   have h:=kN (w.alloc (jj #[O s,X J 0,k0 K] 81)) [U Y 0 0] 84;rw[fY]at h;exact h
  refine(DA w.heap.size s 0 K _ FL (fP _) H8).mono ?_;rintro e w2 ⟨rfl,i,HL⟩;rw[R.out.1]at i;have l:=HU.kept HL;have HY:Ac [] w w2:=(((kL [] w).alloc _).alloc _).trans' HL (by simp);clear H8 HU HL;go_wp2_with fail
  go_loopg [] (2*(s.size-j)+1) (λgk wr=>∃(a:Nat) (bd:Bool) (b:kJ AY) (lv:ks),a<=s.size/\gk=2*(s.size-a)+(if bd then 0 else 1)/\kt (Tk s b a bd (D,E,B))/\AF wr w.heap.size (BL s a bd) 81/\AF wr (w.heap.size+1) [lv] 84/\
   kw wr (w.heap.size+2) 90 5 lv (Z b) (b.flatMap BG)/\kt (∀c∈b,Lc wr (w.heap.size+2) lv c)/\Ac [] w wr)
  case atStart=>
   refine⟨j,K,[],U Y 0 0,NE,by simp,⟨?_,by simp,by simp,by simp,by simp⟩,i,l,fK _ _ _ _,λc g=>by simp at g,HY⟩;unfold EO;simp[R.out.2]
  case round=>
   clear i l HY;obtain⟨a,bd,b,lv,ha,q,A,i,l,m,HF,hK⟩:=hrel;have HK:=Ab q;clear q;obtain⟨r,u,rfl⟩:=Aj m;have N4:=i.lt;have Os:=l.lt;have c0:=i.cell 0;have c1:=i.cell 1;have c2:=i.cell 2;have p0:=l.cell 0;have pf:=l.frozen 0;simp[BL]at c0 c1 c2 p0;cases bd with
   |true=>
    (have Go:kt ((b.map AY.erase,a,hG)=(D,E,B)):=by have h:=A.out.rest;show _=_;simpa[EO] using h);go_wp2_with fail
    go_quiet (fail)
    (go_wp2_with fail);go_ret3;have d:=Go.out;simp only[gA]at d;exact⟨_,2,a,rfl,HI.out 2 a (by rw[<-d.2.2,<-d.2.1];exact⟨rfl,rfl⟩),(λh=>by cases h),hK.drewN _⟩
   |false=>
    by_cases HX:a<s.size
    ·(have P0:(a:Int)<(s.size:Int):=by omega);obtain⟨f,Q,F,HQ⟩:∃f Q F,Ao s a=(f,Q,F):=⟨_,_,_,rfl⟩;(have NX:Q<=s.size:=by have:=I1 s a ha;rw[HQ]at this;exact this);have NY:Z b<=a:=A.out.len2 rfl;have IS:=Ab HQ;clear HQ;go_wp2_with fail
     go_region_law
      (first
       |(go_simp;go_at_call 35;refine(Pe w.heap.size s a _ FL ha (by first|exact i|exact i.drew)).mono ?_;rintro e G ⟨hv,bv,x,rfl,hH,HD,EX,HE,FA,I⟩;rw[Aa IS]at hH HD FA⊢;obtain⟨W,S,rfl⟩:=Aj hH;obtain⟨P,N,rfl⟩:=Aj EX;have Bx:=l.drew.kept I;have pc:=Bx.cell 0;have Mo:=Bx.frozen 0;have HR:=λo=>(Bx.alloc o).cell 0;simp at pc HR;simp only[Dg])
       |(refine iU _ (by rfl) _ _ _ (by rfl) (w.heap.size+2) 90 i0 _ 5 80 underlying82 M6 K8 NL MN rfl (by omega) (U r (Z b) u) (Z b) (b.flatMap BG) (by rfl) ((Ad (CN m) I).alloc _) ⟨G.heap.size,0,Y⟩ 1 1 (Dg f (U W (Z f.head.args) S) (U P (Z x) N)) (by rfl) (by rfl) (fM (fX G _)) (by simp[Value.oneCell',Dg]) (by omega) (by unfold maxLen;omega) (by omega) (by simp;have:=I.size;simp at this;omega) (G.heap.size+1) (by simp) ?_;intro v cap w5 HG AR H4 M0;have EK:=(Bx.alloc _).grown AR (AS m (w.heap.size+1) (by omega));have KS:=EK.cell 0;have LS:=EK.frozen 0;simp at KS))
     all_goals
      have N2:=I.size;have OH:=(HG.lt v rfl).1;have IJ:AY.erase ⟨f.head,U W (Z f.head.args) S,U P (Z x) N,x,f.at_⟩=f:=by
       unfold AY.erase;simp only[HD]
      obtain⟨H,CC⟩:∃H:AY,H=⟨f.head,U W (Z f.head.args) S,U P (Z x) N,x,f.at_⟩:=⟨_,rfl⟩;rw[<-CC]at IJ;(have HV:Dg f (U W (Z f.head.args) S) (U P (Z x) N)=BG H:=by rw[CC];rfl);have KK:=Ab (A.out.step HX (by rw[Aa IS,IJ]));have HW:Lc G (w.heap.size+2) (U r (Z b) u) H:=by
       (have HC:w.heap.size+2<=wr.heap.size:=by omega);have e1:BV (U W (Z f.head.args) S) (U r (Z b) u):=λk q he=>by
        have h1:wr.heap.size<=k:=(hH.lt k q).1;have d:=(m.lt k he).2;omega
       have e2:BV (U P (Z x) N) (U r (Z b) u):=λk q he=>by
        have h1:wr.heap.size<=k:=(EX.lt k q).1;have d:=(m.lt k he).2;omega
       have e3:∀p∈x,BV p.2 (U r (Z b) u):=λp hp k q he=>by
        have h1:wr.heap.size<=k:=(World.ownsRow.lt (HE p hp) k q).1;have d:=(m.lt k he).2;omega
       rw[CC];exact⟨Al hH HC,Al EX HC,λp hp=>Al (HE p hp) HC,e1,e2,e3⟩
      have H9:kt (∀c∈b++[H],Lc (w5.setCell ⟨w.heap.size+1,0,Y⟩ (U (V ⟨v,0,Y⟩) (Z b+1) cap)) (w.heap.size+2) (U (V ⟨v,0,Y⟩) (Z b+1) cap) c):=by
       intro c g;have h0:Lc G (w.heap.size+2) (U r (Z b) u) c:=by
        rcases fA.1 g with g|g
        .exact((HF.out c g).kept (w':=wr.drew) (M:=[]) (kL [] wr).drew (by simp)).kept I
        .simp only[ft]at g;subst g;exact HW
       (have h1:∀o,Lc (G.alloc o) (w.heap.size+2) (U r (Z b) u) c:=λo=>h0.kept ((kL [] G).alloc o));have d:=Lc.grown (n:=Z b+1) (cap:=cap) (h1 _) AR H4 (by simp);exact d.kept ((kL [w.heap.size+1] w5).setCell (p:=⟨w.heap.size+1,0,Y⟩) (by simp) _)
      have Ix:=((FA.alloc _).grown AR (AS m w.heap.size (by omega))).zB ⟨w.heap.size+1,0,Y⟩ (by simp) (U (V ⟨v,0,Y⟩) (Z b+1) cap);have H5:=EK.set 0 (U (V ⟨v,0,Y⟩) (Z b+1) cap);have HS:=(((hK.drew.trans' I (by simp)).alloc _).grown AR (λk q=>kp (by have:=(m.lt k q).1;omega))).setCell (p:=⟨w.heap.size+1,0,Y⟩) (by simp) (U (V ⟨v,0,Y⟩) (Z b+1) cap);have E0:=Af HG (p:=⟨w.heap.size+1,0,Y⟩) (by simp[kF];omega) (U (V ⟨v,0,Y⟩) (Z b+1) cap);rw[HV]at E0;have K3:=HK;clear HG EK KS LS AR H4 M0 Bx pc Mo HR hH EX HE FA I HW m i l hK HF c0 c1 c2 p0 pf HV CC HD;(go_wp2_with fail);refine(DA w.heap.size s Q F _ FL NX Ix).mono ?_;rintro e w6 ⟨rfl,L0,Ax⟩;have K6:=H5.kept Ax;have K4:=Ad E0 Ax;(have M1:kt (∀c∈b++[H],Lc w6 (w.heap.size+2) (U (V ⟨v,0,Y⟩) (Z b+1) cap) c):=λc g=>(H9.out c g).kept Ax);have LE:=HS.trans' Ax (by simp);clear Ix H5 HS E0 H9 Ax;go_wp2_with fail
      go_roundg (2*(s.size-AN s Q F)+(if F then 0 else 1))
      case measure=>have h1:=KK.2.1;have d:=Aa K3;simp at d;omega
      case rel=>
       obtain⟨t1,_,t3⟩:=KK;refine⟨AN s Q F,F,b++[H],U (V ⟨v,0,Y⟩) (Z b+1) cap,t1,rfl,t3,L0,K6,?_,M1,LE⟩;simpa using K4
    ·(have Go:kt ((b.map AY.erase,a,K)=(D,E,B)):=by have h:=A.out.rest;show _=_;simpa[EO,LQ HX] using h);(have hd:decide ((a:Int)<(s.size:Int))=K:=by simp;omega);have HB:Cd wr (U r (Z b) u) b:=⟨Al m (fP _),λc g=>(HF.out c g).cvIn⟩;have FC:N6 b:=cn hs (by have:=A.out.len2 rfl;omega) A.out.lens (A.out.zN rfl);obtain⟨SP,FW⟩:=kK (CD b);have FF:=Ab FW;have T:=Yl (w.heap.size+1) _ b wr l HB FC;rw[FW]at T;have HT:=Ab T;have NB:=Ab HB;have LL:=Ab FC;clear T FW HB FC;(go_wp2_with fail);refine HT.mono ?_;rintro e w3 ⟨rfl,EM⟩;have H0:=hK.trans EM;have NS:=Ab (l.kept EM);have Nq:=Ab (NB.kept EM);clear HT EM hK c0 c1 c2 p0 pf i l m;have d:=Go.out;simp only[gA]at d;obtain⟨L,sa⟩:=SP;simp only;by_cases C:L=0
     .have HZ:kt (Ed s 0 0):=HI.out 0 0 (by rw[<-d.2.2];exact⟨b,d.1,by rw[Hk (by rw[Aa FF];exact C)]⟩);have LB:kt (Ur s (j2 (V ⟨w.heap.size+1,0,Y⟩)) 0 w3):=by
       intro _;refine⟨_,r,u,b,rfl,NS,Nq,LL,hs,?_,?_,Hk (by rw[Aa FF];exact C)⟩
       .rw[show Ae s 0=j from R.out.1,R.out.2];exact d.2.2.symm
       .rw[show Ae s 0=j from R.out.1,R.out.2];exact d.1
      (have K1:(L !=0)=K:=by simp[C]);clear d C;(go_wp2_with fail);go_ret3;exact⟨_,0,0,rfl,HZ.out,LB.out,H0⟩
     .have HZ:kt (Ed s L sa):=HI.out L sa (by rw[<-d.2.2];exact⟨b,d.1,FF.symm⟩);(have K1:(L !=0)=hG:=by simp[C]);have K2:=Ab C;clear d C;(go_wp2_with fail);go_ret3;exact⟨_,L,sa,rfl,HZ.out,(λh=>absurd h K2),H0⟩
structure Ag where
 name:zA
 args:kJ zA
structure BD where
 f:Ag
 av:ks
def Bp(p:BD):kJ ks:=[O p.f.name,p.av]
def Ew(w:kq)(p:BD):Prop:=kw w 0 9 1 p.av (Z p.f.args) (p.f.args.flatMap Ah)
def Ew.kept{w w':kq}{p:BD}(h:Ew w p)(k:Ac [] w w'):Ew w' p:=Ad h k
structure O0(f:Ag):Prop where
 len:Z f.args<=1000
 each:∀x∈f.args,0<x.size/\x.size<=1000000
def GX:kJ zA->kJ zA->Bool
 |[],[]=>hG
 |x::l,y::m=>(x.toList==y.toList)&&GX l m
 |_,_=>K
def Cl(a b:Ag):Bool:=(a.name.toList==b.name.toList)&&GX a.args b.args
def VC:∀(l m:kJ zA) (k:Nat) (a:k<Z l) (b:k<Z m),GX (l.drop k) (m.drop k)=((l[k].toList==m[k].toList)&&GX (l.drop (k+1)) (m.drop (k+1)))
 |l,m,k,a,b=>by
  rw[fQ a,fQ b,GX]
def R2:∀{l m:kJ zA},GX l m=hG->Z l=Z m
 |[],[],_=>rfl
 |[],_::_,h=>by cases h
 |_::_,[],h=>by cases h
 |_::l,_::m,h=>by
  rw[GX,fU]at h;simp[R2 h.2]
def He(h:kw w n 9 1 z (Z e) (e.flatMap Ah))(k:Nat)(d:k<Z e):∃g a,z=U (V ⟨g,0,Y⟩) (Z e) a/\ku w ⟨g,k,Y⟩=V (O e[k]):=by
 obtain⟨g,a,f,_,i⟩:=AC h (λc _=>rfl) k d;have b:=i k d 0 (by omega);simp[Ah]at b;exact⟨g,a,f,b⟩
theorem RW(a b:BD)(w:kq)(v:Ew w a)(t:Ew w b)(BT:Z a.f.args<=1000000)(CC:Z b.f.args<=1000000):
  Calls prog 24 #[kx (j1 (Bp a)),kx (j1 (Bp b))] w λe w'=>e=j3 (k0 (Cl a.f b.f))/\Ac [] w w':=by
 obtain⟨⟨j,c⟩,av⟩:=a;obtain⟨⟨g,d⟩,bv⟩:=b;unfold Ew at v t;simp only at v t BT CC;obtain⟨p,o,rfl⟩:=Aj v;obtain⟨m,q,rfl⟩:=Aj t;obtain⟨S,D⟩:=kK (Cl ⟨j,c⟩ ⟨g,d⟩);rw[D];have s:kt (((j.toList==g.toList)&&GX c d)=S):=D;have HA:=Ab v;have HB:=Ab t;simp only[Bp];have l:=Ab (((kL [] w).alloc (jj [O j,U p (Z c) o].toArray 63)).alloc (jj [O g,U m (Z d) q].toArray 63));have F:=(kN w [O j,U p (Z c) o] 63).alloc (jj [O g,U m (Z d) q].toArray 63);have L:AF ((w.alloc (jj [O j,U p (Z c) o].toArray 63)).alloc (jj [O g,U m (Z d) q].toArray 63)) (w.heap.size+1) [O g,U m (Z d) q] 63:=by
  have M:=kN (w.alloc (jj [O j,U p (Z c) o].toArray 63)) [O g,U m (Z d) q] 63;rw[show(w.alloc (jj [O j,U p (Z c) o].toArray 63)).heap.size=w.heap.size+1 from by simp]at M
  exact M
 have B:=Ab F;have C:=Ab L;clear D v t F L;cases hn:(j.toList==g.toList)with
 |false=>
  have r:kt (S=K):=by show _=_;rw[<-Aa s,hn];rfl
  have R:(j.toList !=g.toList)=hG:=by simp[bne,hn]
  clear s;go_enter func24,ntmps24;go_wp2;go_ret;rw[Aa r];exact⟨rfl,l⟩
 |true=>
  have R:(j.toList !=g.toList)=K:=by simp[bne,hn]
  by_cases u:Z c=Z d
  ·(have r:kt (GX (c.drop 0) (d.drop 0)=S):=by show _=_;rw[<-Aa s,hn];rfl);(have G:((Z c:Int) !=(Z d:Int))=K:=by simp[u]);(have Q:((Z c:Int)==(Z d:Int))=hG:=by simp[u]);have H:=Ab u;clear u s;go_enter func24,ntmps24;go_wp2;change Code.wp _ _ _ _ ((w.alloc (jj [O j,U p (Z c) o].toArray 63)).alloc (jj [O g,U m (Z d) q].toArray 63));generalize(w.alloc (jj [O j,U p (Z c) o].toArray 63)).alloc (jj [O g,U m (Z d) q].toArray 63)=w1 at l B C⊢;generalize w.heap.size=N at B C⊢;clear hn R G Q
   go_loopg [5] (Z c) (λgk i wr=>∃(k:Nat),i=X J k/\k<=Z c/\gk=Z c-k/\kt (GX (c.drop k) (d.drop k)=S)/\kt (Ac [] w wr)/\kt (Ac [] w1 wr))
   case atStart=>exact⟨0,rfl,by omega,rfl,r,l,kL _ _⟩
   case round=>
    clear r l;obtain⟨k,rfl,hk,I,z,l,y⟩:=hrel;have HG:=Ab I;clear I;have e1:=(B.kept y).cell 1;have e2:=(C.kept y).cell 1;simp at e1 e2;by_cases E:k<Z c
    ·(have W:k<Z d:=by have:=Aa H;omega);obtain⟨g1,q1,T,d1⟩:=He (Ad HA l) k E;obtain⟨g2,q2,P,d2⟩:=He (Ad HB l) k W;simp only[fg]at T P;obtain⟨rfl,_,rfl⟩:=T;obtain⟨rfl,_,rfl⟩:=P;have Ax:=Ab (VC c d k E W);(have A:kt (∀n,Ac [] w (wr.drewN n)/\Ac [] w1 (wr.drewN n)):=λn=>⟨l.drewN n,y.drewN n⟩);cases hx:(c[k].toList==d[k].toList)with
     |true=>
      (have AB:(c[k].toList !=d[k].toList)=K:=by simp[bne,hx]);have x:kt (GX (c.drop (k+1)) (d.drop (k+1))=S):=by
       have h:=Aa z;rw[Aa Ax,hx]at h;exact h
      go_wp2_with fail
      go_quiet (fail)
      go_wp2
      go_roundg (Z c-(k+1))
      case measure=>have:=Aa HG;omega
      case rel=>exact⟨k+1,by go_num,by omega,rfl,x,(A _).1,(A _).2⟩
     |false=>
      (have AB:(c[k].toList !=d[k].toList)=hG:=by simp[bne,hx]);have x:kt (S=K):=by
       have h:=Aa z;rw[Aa Ax,hx]at h;exact h.symm
      go_wp2_with fail
      go_quiet (fail)
      go_wp2;go_ret;rw[Aa x];exact⟨rfl,(A _).1⟩
    .have x:kt (S=hG):=by
      have h:=Aa z;rw[gr (by omega),gr (by have:=Aa H;omega)]at h;exact h.symm
     go_wp2;go_ret;rw[Aa x];exact⟨rfl,l⟩
  ·(have G:((Z c:Int) !=(Z d:Int))=hG:=by simp[bne];omega);(have Q:((Z c:Int)==(Z d:Int))=K:=by rw[gm];omega);have r:kt (S=K):=by
    show _=_;rw[<-Aa s,hn];cases h:GX c d with
    |false=>rfl
    |true=>exact absurd (R2 h) u
   clear s;go_enter func24,ntmps24;go_wp2;go_ret;rw[Aa r];exact⟨rfl,l⟩
def EC:kJ zA->kJ zA->Bool
 |[],m=>decide (0<Z m)
 |_::_,[]=>K
 |x::l,y::m=>if x.toList==y.toList then EC l m else Fu x y
def Dy(a b:Ag):Bool:=if a.name.toList==b.name.toList then EC a.args b.args else kH a.name.toList b.name.toList
def TW(l m:kJ zA)(k:Nat)(a:k<Z l)(b:k<Z m):EC (l.drop k) (m.drop k)=if l[k].toList==m[k].toList then EC (l.drop (k+1)) (m.drop (k+1))else Fu l[k] m[k]:=by
 rw[fQ a,fQ b,EC]
def Py(l m:kJ zA)(k:Nat)(h:k<=Z l)(d:¬(k<Z l/\k<Z m))(c:k<=Z m):EC (l.drop k) (m.drop k)=decide (Z l<Z m):=by
 by_cases b:k<Z l
 .have a:Z m<=k:=by omega
  rw[fQ b,gr a,EC];simp;omega
 .rw[gr (show Z l<=k by omega),EC,gD];have:Z l=k:=by omega
  rw[this];by_cases a:k<Z m
  ·(have:0<Z m-k:=by omega);simp[a,this]
  ·(have:¬0<Z m-k:=by omega);simp[a,this]
theorem XR(a b:BD)(w:kq)(t:Ew w a)(s:Ew w b)(G:O0 a.f)(B:O0 b.f):
  Calls prog 48 #[kx (j1 (Bp a)),kx (j1 (Bp b))] w λe w'=>e=j3 (k0 (Dy a.f b.f))/\Ac [] w w':=by
 obtain⟨⟨j,c⟩,av⟩:=a;obtain⟨⟨g,d⟩,bv⟩:=b;unfold Ew at t s;have FL:=G.len;have EK:=B.len;have AB:=Ab G.each;have P:=Ab B.each;simp only at t s FL EK AB P;clear G B;obtain⟨q,m,rfl⟩:=Aj t;obtain⟨p,o,rfl⟩:=Aj s;obtain⟨S,I⟩:=kK (Dy ⟨j,c⟩ ⟨g,d⟩);rw[I];have z:kt ((if j.toList==g.toList then EC c d else kH j.toList g.toList)=S):=I;have HA:=Ab t;have HB:=Ab s;simp only[Bp];have l:=Ab (((kL [] w).alloc (jj [O j,U q (Z c) m].toArray 63)).alloc (jj [O g,U p (Z d) o].toArray 63));have M:=(kN w [O j,U q (Z c) m] 63).alloc (jj [O g,U p (Z d) o].toArray 63);have AT:AF ((w.alloc (jj [O j,U q (Z c) m].toArray 63)).alloc (jj [O g,U p (Z d) o].toArray 63)) (w.heap.size+1) [O g,U p (Z d) o] 63:=by
  have hh:=kN (w.alloc (jj [O j,U q (Z c) m].toArray 63)) [O g,U p (Z d) o] 63;rw[show(w.alloc (jj [O j,U q (Z c) m].toArray 63)).heap.size=w.heap.size+1 from by simp]at hh
  exact hh
 have D:=Ab M;have E:=Ab AT;clear I t s M AT;cases hn:(j.toList==g.toList)with
 |false=>
  have v:kt (kH j.toList g.toList=S):=by show _=_;rw[<-Aa z,hn];rfl
  have CC:(j.toList !=g.toList)=hG:=by simp[bne,hn]
  clear z;go_enter func48,ntmps48;go_wp2;go_ret;exact⟨Bb v.out,l⟩
 |true=>
  have CC:(j.toList !=g.toList)=K:=by simp[bne,hn]
  have v:kt (EC (c.drop 0) (d.drop 0)=S):=by show _=_;rw[<-Aa z,hn];rfl
  clear z;go_enter func48,ntmps48;go_wp2;change Code.wp _ _ _ _ ((w.alloc (jj [O j,U q (Z c) m].toArray 63)).alloc (jj [O g,U p (Z d) o].toArray 63));generalize(w.alloc (jj [O j,U q (Z c) m].toArray 63)).alloc (jj [O g,U p (Z d) o].toArray 63)=w1 at l D E⊢;generalize w.heap.size=N at D E⊢;clear hn CC
  go_loopg [5] (Z c) (λgk i wr=>∃(k:Nat),i=X J k/\k<=Z c/\k<=Z d/\gk=Z c-k/\kt (EC (c.drop k) (d.drop k)=S)/\kt (Ac [] w wr)/\kt (Ac [] w1 wr))
  case atStart=>exact⟨0,rfl,by omega,by omega,rfl,v,l,kL _ _⟩
  case round=>
   clear v l;obtain⟨k,rfl,R,BT,Ax,x,l,u⟩:=hrel;have HG:=Ab Ax;clear Ax;have H:=(D.kept u).cell 1;have C:=(E.kept u).cell 1;simp at H C;by_cases A:k<Z c
   .by_cases F:k<Z d
    .obtain⟨g1,q1,B9,W⟩:=He (Ad HA l) k A;obtain⟨T,q2,BA,L⟩:=He (Ad HB l) k F;simp only[fg]at B9 BA;obtain⟨rfl,_,rfl⟩:=B9;obtain⟨rfl,_,rfl⟩:=BA;have CW:=Ab (TW c d k A F);(have y:kt (∀n,Ac [] w (wr.drewN n)/\Ac [] w1 (wr.drewN n)):=λn=>⟨l.drewN n,u.drewN n⟩);cases hx:(c[k].toList==d[k].toList)with
     |true=>
      (have EX:(c[k].toList !=d[k].toList)=K:=by simp[bne,hx]);have r:kt (EC (c.drop (k+1)) (d.drop (k+1))=S):=by
       have h:=Aa x;rw[Aa CW,hx]at h;exact h
      go_wp2_with fail
      go_quiet (fail)
      go_wp2
      go_roundg (Z c-(k+1))
      case measure=>have:=Aa HG;omega
      case rel=>exact⟨k+1,by go_num,by omega,by omega,rfl,r,(y _).1,(y _).2⟩
     |false=>
      (have EX:(c[k].toList !=d[k].toList)=hG:=by simp[bne,hx]);have r:kt (Fu c[k] d[k]=S):=by
       have h:=Aa x;rw[Aa CW,hx]at h;exact h
      have AR:=Aa AB c[k] (fj A);have CL:=Aa P d[k] (fj F);go_wp2_with fail
      go_quiet (fail)
      (go_wp2_with fail);have FO:ku (wr.drewN nq) ⟨N,1,Y⟩=V (U (V ⟨g1,0,Y⟩) (Z c) m):=H;have EM:ku (wr.drewN nq) ⟨N+1,1,Y⟩=V (U (V ⟨T,0,Y⟩) (Z d) o):=C;have EY:ku (wr.drewN nq) ⟨g1,k,Y⟩=V (O c[k]):=W;have FA:ku (wr.drewN nq) ⟨T,k,Y⟩=V (O d[k]):=L;have Q:=Ab (y nq).1;clear y H C W L u l;generalize wr.drewN nq=wq at FO EM EY FA Q⊢
      go_quiet ((go_at_call 87;exact jh (Mm _ _ _ AR.1 CL.1 AR.2 CL.2)))
      go_wp2;go_ret;exact⟨Bb r.out,Q.drewN _⟩
    ·(have FP:¬(k:Int)<(Z d:Int):=by omega);have r:kt (decide (Z c<Z d)=S):=by
      show _=_;rw[<-Aa x,Py c d k R (by omega) BT]
     go_wp2;go_ret;exact⟨Bb r.out,l⟩
   .have r:kt (decide (Z c<Z d)=S):=by
     show _=_;rw[<-Aa x,Py c d k R (by omega) BT]
    go_wp2;go_ret;exact⟨Bb r.out,l⟩
