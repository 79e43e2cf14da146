import Derived.Deep.AppendSrc
import Derived.Test.YtoihbhenbmffcaaGreatDoorXAF
set_option linter.all false
set_option maxHeartbeats 0
open List renaming length->Z,toArray->ml
open Option renaming none->Y,some->V
open Go.Value renaming slice->U,int->X,string->O,pointer->m2,agg->pC,bool->pE,ownBlock->pI
open Bool renaming false->K,true->jj
open Go.IntKind renaming i64->J
open Go.Obj renaming cells->j3
open Go.Ending renaming returned->oa
open Or renaming inl->oi,inr->oj
open Go renaming World->py,Value->p5
open Go.RowKit renaming Hid->p7
open Go.World renaming cell?->p8,ownsRow->p9
open Prod renaming fst->pH
open Go.Op renaming bytesLess->pK
namespace Go.Proofs.YtoihbhenbmffcaaGreatDoor
open Go.RowKit Go.Proofs.Tryz
variable{w:py}{i j m b:Nat}{T:TypeId}{y:pM p5}
def B6(v lv:p5):Prop:=∀k,v.ownBlock=V k->lv.ownBlock≠V k
def B6.ze{v f:p5}{g n cap:Nat}(h:B6 v f)(l:p9 w i T j v m y)(a:f.ownBlock=V g\/g=b)(o:w.heap.size<=b):B6 v (U (V ⟨g,0,Y⟩) n cap):=by
 intro k c d;simp only[pI,ld]at d;subst d;rcases a with a|a
 .exact h g c a
 .have:=(l.lt g c).2;omega
section
variable {P:Program} (w:py)
def PK(t o e:TypeId)(i:TypeInfo)(k:P.underlying t=V (.slice e))(m:P.info? e=V i)(d:Option Addr)(n b:Nat)(l:n<=b)(f:Option Addr)(c:Nat):
  (Builtin.append_ #[t,t] o #[U d n b,U f 0 c]).run P w=.ok (U d n b) w:=by
 have g:(Builtin.firstCells i.size 0 (U f 0 c)).run P w=.ok #[] w:=by
  cases f with
  |none=>exact run_firstCells_none w i.size 0 0 c
  |some a=>exact run_firstCells_some w i.size 0 a 0 c [] (by simp) (λj u h=>by simp at h)
 cases d with
 |none=>simp[Builtin.append_,run_underlying k,sizeOf,typeInfo,m,Builtin.lenOf,l,g]
 |some a=>simp[Builtin.append_,run_underlying k,sizeOf,typeInfo,m,Builtin.lenOf,l,g,storeCells]
def Qc(t y:TypeId)(l:Nat)(e:TypeId)(i:TypeInfo)(z:p5)(b B:Nat)(C:P.underlying t=V (.slice e))(D:P.info? e=V i)(W:i.zero=V z)
  (F:i.size=b) (Ax:i.bytes=B) (AT:z.cells.size=b) (S:0<b)
  (f:Option Addr) (n a:Nat) (x:pM p5) (s:p9 w l e b (U f n a) n x)
  (b2:Nat) (p:Option Addr) (m c:Nat) (k:pM p5) (r:p9 w b2 e b (U p m c) m k) (M:∀u∈k,u.oneCell'=jj)
  (Q:n+m<=maxLen) (A0:(n+m)*B<=140737488355328) (L:l<=w.heap.size):
  ∃v d j,(Builtin.append_ #[t,t] y #[U f n a,U p m c]).run P w=.ok (U v (n+m) d) j/\
   p9 j l e b (U v (n+m) d) (n+m) (x++k)/\w.grownBy j (U f n a).ownBlock/\(∀q,(U v (n+m) d).ownBlock=V q->(U f n a).ownBlock=V q\/q=w.heap.size):=by
 rcases Nat.eq_zero_or_pos m with A|A
 .subst A;have T:k=[]:=oD (by have:=r.1;omega);subst T;have N:n<=a:=by
   rcases s.2 with⟨h,H⟩|⟨g,d,R,h,_,_,hc,_⟩
   .omega
   .simp only[kS]at h;omega
  refine⟨f,a,w,PK w t y e i C D f n a N p c,by simpa using s,⟨rfl,rfl,rfl,lC _,λ_ _ _=>rfl⟩,λq o=>oi o⟩
 .have hx:∃g,p=V ⟨g,0,Y⟩:=by
   rcases r.2 with⟨h,H⟩|⟨g,d,R,h,_⟩
   .omega
   .simp only[kS]at h;exact⟨g,h.1⟩
  obtain⟨g,rfl⟩:=hx;obtain⟨g1,d,j,G,r2,E,I,r5⟩:=run_append_lies (P:=P) w t y l e i z b B C D W F Ax AT S (U f n a) n x s ⟨g,0,Y⟩ m c k r.1 (r.cells rfl) M A Q A0 L _ rfl;refine⟨_,d,j,G,r2,E,λq o=>?_⟩;simp only[pI,ld]at o;subst o;exact I
def L5{o:Oper}{a:Act}{A:Act->py->Prop}{Q:Exit->Act->py->Prop}(s x:Operand)(t:TypeId)
  (R:o.op=.call {callee:=.builtin .append,args:=#[s,x],argTypes:=#[t,t]})
  (l:Nat) (e:TypeId) (i:TypeInfo) (z:p5) (b y:Nat) (F:P.underlying t=V (.slice e)) (hi:P.info? e=V i) (M:i.zero=V z)
  (D:i.size=b) (S:i.bytes=y) (AO:z.cells.size=b) (N:0<b)
  (g:Option Addr) (n k:Nat) (v:pM p5) (hs:a.eval s=U g n k) (C:p9 w l e b (U g n k) n v)
  (B:Nat) (r:Option Addr) (m c:Nat) (p:pM p5) (hx:a.eval x=U r m c) (A0:p9 w B e b (U r m c) m p) (I:∀u∈p,u.oneCell'=jj)
  (L:n+m<=maxLen) (AT:(n+m)*y<=140737488355328) (G:l<=w.heap.size)
  (h:∀j f d,p9 d l e b (U j (n+m) f) (n+m) (v++p)->w.grownBy d (U g n k).ownBlock->(∀q,(U j (n+m) f).ownBlock=V q->(U g n k).ownBlock=V q\/q=w.heap.size)->A (a.put o.dst (U j (n+m) f)) d):o.wp P a w A Q:=by
 obtain⟨j,f,d,T,E,W,H⟩:=Qc (P:=P) w t o.type l e i z b y F hi M D S AO N g n k v C B r m c p A0 I L AT G;unfold Oper.wp execOp;simp only[R,resolve,invoke,builtin,oV,Sem.run_pure,Result.andThen_ok,List.map_toArray,lE,m8,hs,hx,T];exact h j f d E W H
def IE{A:Array Oper}{C:pM Oper}{o:Oper}{a:Act}{Q:Exit->Act->py->Prop}(D:o.guard=Y)(s x:Operand)(t:TypeId)
  (W:o.op=.call {callee:=.builtin .append,args:=#[s,x],argTypes:=#[t,t]})
  (l:Nat) (e:TypeId) (i:TypeInfo) (z:p5) (b y:Nat) (H:P.underlying t=V (.slice e)) (hi:P.info? e=V i) (S:i.zero=V z)
  (F:i.size=b) (Ax:i.bytes=y) (A0:z.cells.size=b) (T:0<b)
  (g:Option Addr) (n k:Nat) (v:pM p5) (hs:a.eval s=U g n k) (E:p9 w l e b (U g n k) n v)
  (B:Nat) (r:Option Addr) (m c:Nat) (p:pM p5) (hx:a.eval x=U r m c) (A2:p9 w B e b (U r m c) m p) (N:∀u∈p,u.oneCell'=jj)
  (R:n+m<=maxLen) (A1:(n+m)*y<=140737488355328) (I:l<=w.heap.size)
  (h:∀j f d,p9 d l e b (U j (n+m) f) (n+m) (v++p)->w.grownBy d (U g n k).ownBlock->(∀q,(U j (n+m) f).ownBlock=V q->(U g n k).ownBlock=V q\/q=w.heap.size)->wpList P A Q C (a.put o.dst (U j (n+m) f)) d):wpList P A Q (o::C) a w:=
 wpList_plain D λ_ M=>L5 w s x t W l e i z b y H hi S F Ax A0 T g n k v hs E B r m c p hx A2 N R A1 I λj f d G h3 L=>M _ _ (h j f d G h3 L)
def JZ{R:Array Oper}{o:Oper}{a:Act}{A:Act->py->Prop}{Q:Exit->Act->py->Prop}{E:Prop}(C:o.guard=Y)(s x:Operand)(t:TypeId)
  (S:o.op=.call {callee:=.builtin .append,args:=#[s,x],argTypes:=#[t,t]})
  (g:Nat) (e:TypeId) (i:TypeInfo) (z:p5) (b y:Nat) (G:P.underlying t=V (.slice e)) (hi:P.info? e=V i) (M:i.zero=V z)
  (F:i.size=b) (T:i.bytes=y) (AH:z.cells.size=b) (N:0<b)
  (d:Option Addr) (n f:Nat) (v:pM p5) (W:a.eval s=U d n f) (D:p9 w g e b (U d n f) n v)
  (B:Nat) (p:Option Addr) (m c:Nat) (j:pM p5) (hx:a.eval x=U p m c) (AT:p9 w B e b (U p m c) m j) (I:∀u∈j,u.oneCell'=jj)
  (L:n+m<=maxLen) (AO:(n+m)*y<=140737488355328) (H:g<=w.heap.size)
  (h:∀r l k,p9 k g e b (U r (n+m) l) (n+m) (v++j)->w.grownBy k (U d n f).ownBlock->(∀q,(U r (n+m) l).ownBlock=V q->(U d n f).ownBlock=V q\/q=w.heap.size)->A (a.put o.dst (U r (n+m) l)) k):
  if Region.wanted o (yielded R a.tmps)=jj then Oper.wp P o a w A Q else E:=by
 rw[ln (by unfold Region.wanted;simp[C])];exact L5 w s x t S g e i z b y G hi M F T AH N d n f v W D B p m c j hx AT I L AO H h
end
end Go.Proofs.YtoihbhenbmffcaaGreatDoor
namespace Go.Proofs.YtoihbhenbmffcaaGreatDoor
open Go.RowKit Go.Proofs.Tryz
variable{M:pM Nat}{n k i m:Nat}{w u v:py}{z:p5}{s:zA}{e:pM zA}{P:Program}{Q:Exit->Act->py->Prop}{a:Act}{B:Bool}{g:UInt8}{T:TypeId}{y:pM p5}
theorem Tryz.info95:(Tryz.prog.info? 95).map (λi=>(i.zero,i.size,i.bytes))=V (V (pC #[X .u8 0,O ⟨#[]⟩,U Y 0 0,X J 0,X .u8 0,O ⟨#[]⟩,X .u8 0,O ⟨#[]⟩,X J 0]),9,112):=by kernel_rfl
abbrev Ba:=Br×p5
def DB(l:pM Ba):pM p5:=l.flatMap λp=>Cj p.1 p.2
def B4(w:py)(base:Nat)(p:Ba):Prop:=p9 w base 93 2 p.2 (Z p.1.A.args) (p.1.A.args.flatMap AV)
def B4.kept{w w':py}{p:Ba}(h:B4 w n p)(k:Ac M w w')(a:∀i,i∈M->i<n:=by simp):B4 w' n p:=Ad h k a
def B4.grown{p:Ba}(h:B4 w n p)(k:w.grownBy u z.ownBlock)(a:B6 p.2 z):B4 u n p:=
 mI (v:=p.2) h k (by
  cases hv:p.2.ownBlock with
  |none=>exact oi rfl
  |some k=>exact oj (λe=>a k hv e.symm))
def B4.alloc{w:py}{a:Nat}{p:Ba}(h:B4 w a p)(o:Obj):B4 (w.alloc o) a p:=lg h o
set_option maxRecDepth 100000
theorem Xo(b:Nat)(s:zA)(h:Nat)(w:py)(hs:s.size<=1000000)(HI:h<=s.size)(hB:AF w b (BY s h K) 73):
  Calls prog 81 #[m2 (V ⟨b,0,Y⟩)] w λe S=>∃(bv:p5) (T:pM Ba),e=oa bv/\T.map pH=(Bj s h).1/\
   p9 S w.heap.size 95 9 bv (Z T) (DB T)/\(∀p∈T,B4 S w.heap.size p)/\AF S b (BY s (Bj s h).2.1 (Bj s h).2.2) 73/\Ac [b] w S:=by
 obtain⟨i0,HH,FP,HK,HC⟩:=mg Tryz.info95;have HR:=hB.lt;obtain⟨L,v,o,hL⟩:∃L v o,Bj s h=(L,v,o):=⟨_,_,_,rfl⟩;rw[hL];have HL:p7 (Bj s h=(L,v,o)):=hL;clear hL;go_enter func81,ntmps81;go_wp2_with fail
 go_loopg [3,4] (2*(s.size-h)+1) (λk l HB wr=>∃(r j:Bool) (a:Nat) (c:pM Ba),HB=pE r/\a<=s.size/\Z c<=a+1/\((r&& !j)=jj->Z c<=a)/\
  k=2*(s.size-a)+(if(r&& !j)=jj then 1 else 0)/\p7 (EE s r j a (c.map pH) (L,v,o))/\AF wr b (BY s a j) 73/\
  p9 wr w.heap.size 95 9 l (Z c) (DB c)/\p7 (∀p∈c,B4 wr w.heap.size p/\B6 p.2 l)/\Ac [b] w wr)
 case atStart=>
  refine⟨jj,K,h,[],rfl,HI,by simp,by simp,by simp,?_,hB,lH _ _ _ _,λp f=>by simp at f,pO _ _⟩;show EE _ _ _ _ _ _;unfold EE;simp[HL.out]
 case round=>
  obtain⟨r,j,a,c,rfl,ha,A1,R,B,z,y,n,Ax,D⟩:=hrel;have M:p7 (gk=2*(s.size-a)+(if(r&& !j)=jj then 1 else 0)):=B;clear B;obtain⟨ad,cp,rfl⟩:=Ct n;cases r with
  |false=>
   have E:=z.out.done rfl;have HD:p7 (c.map pH=L/\a=v/\j=o):=E;clear A1 R M z E;go_wp2;go_ret;obtain⟨d1,d2,d3⟩:=HD.out;subst d2 d3;exact⟨_,c,rfl,d1,n,λp f=>(Ax.out p f).1,y,D⟩
  |true=>
   cases j with
   |true=>
    have E:=z.out.done rfl;have HD:p7 (c.map pH=L/\a=v/\jj=o):=E;have A2:=y.cell 2;simp[BY]at A2;clear A1 R M z E;go_wp2;go_ret;obtain⟨d1,d2,d3⟩:=HD.out;subst d2 d3;exact⟨_,c,rfl,d1,n,λp f=>(Ax.out p f).1,y,D⟩
   |false=>
    have A2:=y.cell 2;simp[BY]at A2;have HV:=y.lt;have Go:Z c<=a:=R rfl;clear A1 R;obtain⟨t,i,d,I⟩:∃t i d,DF s a=(t,i,d):=⟨_,_,_,rfl⟩;(have HO:i<=s.size:=by have:=L9 s a ha;rw[I]at this;exact this);have HS:=z.out.step I ha (by simpa using Go);obtain⟨m,hm⟩:=pN (!d&&Et s (AQ s i d) 44);obtain⟨g,CL⟩:=pN (Ch s i d 44);rw[hm,CL]at HS;obtain⟨W,q2,q3,q4,P⟩:=HS;have C:p7 (DF s a=(t,i,d)/\(!d&&Et s (AQ s i d) 44)=m/\Ch s i d 44=g/\g<=s.size/\Z (c.map pH++[t])<=g+1/\((m&& !d)=jj->Z (c.map pH++[t])<=g)/\2*(s.size-g)+(if(m&& !d)=jj then 1 else 0)<gk/\EE s m d g (c.map pH++[t]) (L,v,o)):=
     ⟨I,hm,CL,W,q2,q3,by have:=M.out;simp at this;omega,P⟩
    clear I hm CL W q2 q3 q4 P M z;(go_wp2_with fail);refine(gH b s a _ hs ha y).mono ?_;rintro e Q ⟨av,rfl,u,AO,H⟩;rw[C.out.1]at AO u⊢;obtain⟨x,q,rfl⟩:=Ct u;have FF:=Ad n H (by simp;omega);have FW:=H.size;have FL:=D.size;simp only[Cj];simp only at u;go_wp2_with (at_builtin;refine lG _ rfl _ _ _ rfl w.heap.size 95 i0 _ 9 112 underlying80 HH FP HK HC rfl (by omega) (U ad (Z c) cp) (Z c) (DB c) rfl (FF.alloc _) ⟨Q.heap.size,0,Y⟩ 1 1 (Cj t (U x (Z t.A.args) q)) rfl rfl (lI (lP Q _)) (by simp[Value.oneCell',Cj]) (by omega) (by unfold maxLen;omega) (by omega) (by simp;omega) (Q.heap.size+1) (by simp) ?_;intro gg FB w5 B2 F B9 HU)
    have HT:=(B2.lt gg rfl).1;have FC:=(AO.alloc _).grown F (by have:=Bg n b (by omega);simpa using this);have DT:=((D.trans H).alloc _).grown F (λk B=>oj ((n.lt k B).1));have BT:p7 (∀p∈c++[(t,(U x (Z t.A.args) q:p5))],B4 w5 w.heap.size p/\B6 p.2 (U (V ⟨gg,0,Y⟩) (Z c+1) FB)):=by
     intro p f;rcases lw.1 f with f|f
     .obtain⟨h1,G⟩:=Ax.out p f;have AB:=h1.kept H (by simp;omega);exact⟨(AB.alloc _).grown F G,B6.ze G AB B9 (by omega)⟩
     .simp only[kY]at f;subst f;have G:B6 (U x (Z t.A.args) q) (U ad (Z c) cp):=by
       intro k B he;have:=(u.lt k B).1;have:=(n.lt k he).2;omega
      have AB:B4 Q w.heap.size (t,U x (Z t.A.args) q):=Am u (by omega);exact⟨(AB.alloc _).grown F G,B6.ze G u B9 (by omega)⟩
    clear Ax u AO H FF F B9 n y D FW FL;(go_wp2_with fail);refine(NF b s i d 44 44 _ rfl hs HO FC).mono ?_;rintro e w6 ⟨rfl,EY,N⟩;have FO:=Ad B2 N (by simp;omega);have HA:=DT.trans N;have HF:p7 (∀p∈c++[(t,(U x (Z t.A.args) q:p5))],B4 w6 w.heap.size p/\B6 p.2 (U (V ⟨gg,0,Y⟩) (Z c+1) FB)):=
     λp f=>⟨(BT.out p f).1.kept N (by simp;omega),(BT.out p f).2⟩
    rw[C.out.2.2.1]at EY;rw[C.out.2.1];clear FC DT N B2 BT;go_wp2_with fail
    go_roundg (2*(s.size-g)+(if(m&& !d)=jj then 1 else 0))
    case measure=>exact C.out.2.2.2.2.2.2.1
    case rel=>
     obtain⟨_,_,_,W,q2,q3,_,P⟩:=C.out;refine⟨m,d,g,c++[(t,U x (Z t.A.args) q)],rfl,W,by simpa using q2,by simpa using q3,rfl,?_,EY,?_,HF,HA⟩
     .show EE _ _ _ _ _ _;simpa using P
     .simpa[DB] using FO
structure CD where
 head:Dg
 body:pM Br
 at_:Nat
def C0(c:CD)(hv bv:p5):pM p5:=[O c.head.name,hv,X J c.head.at_,bv,X J c.at_]
def D9(s:zA)(a1:Nat)(b1:Bool):pM Br×Nat×Bool:=
 if !b1&&Et s (AQ s a1 b1) 58 then(if Et s (Ch s a1 b1 58) 45 then Bj s (Ch s a1 b1 58+1)else([],Ch s a1 b1 58,jj))else([],Ch s a1 b1 58,b1)
def Ao(s:zA)(at_:Nat):CD×Nat×Bool:=
 let A:=AZ s (Ae s at_) K
 let B:=D9 s A.2.1 A.2.2
 (⟨A.1,B.1,Ae s at_⟩,By s B.2.1 B.2.2 46)
theorem Zh(b:Nat)(s:zA)(E j:Nat)(w:py)(A:Dg)(n g a3:Nat)(f b3:Bool)(L:pM Br)(a4:Nat)(b4:Bool)(hs:s.size<=1000000)(HX:E<=s.size)
  (k:p7 (Ae s E=j/\AZ s j K=(A,n,f)/\Ch s n f 58=g/\D9 s n f=(L,a3,b3)/\By s a3 b3 46=(a4,b4))) (hB:AF w b (BY s E K) 73):
  Calls prog 44 #[m2 (V ⟨b,0,Y⟩)] w λe w'=>∃(hv bv:p5) (a:pM Ba),e=oa (pC (ml (C0 ⟨A,L,j⟩ hv bv)))/\p9 w' w.heap.size 93 2 hv (Z A.args) (A.args.flatMap AV)/\
   a.map pH=L/\p9 w' w.heap.size 95 9 bv (Z a) (DB a)/\(∀p∈a,B4 w' w.heap.size p)/\AF w' b (BY s a4 b4) 73/\Ac [b] w w':=by
 have K8:=hB.lt;have HY:j<=s.size:=by have:=BB s E HX;have:=k.out.1;omega
 have HF:n<=s.size:=by have:=Js s j K HY;rw[k.out.2.1]at this;exact this
 have HB:g<=s.size:=by have:=D3 s n f 58 HF;rw[k.out.2.2.1]at this;exact this
 go_enter func44,ntmps44;go_wp2_with fail
 refine(DO b s E K _ hs HX (hB.alloc _)).mono ?_;rintro e w1 ⟨rfl,T,hK⟩;rw[show AQ s E K=j from k.out.1]at T
 have hn:=(pP w _ _).kept hK (by simp;omega);have HI:=((pO [b] w).alloc _).trans hK;clear hB hK;have K3:=T.lt;have H8:=hn.lt;have u:=T.cell 1;simp[BY]at u;go_wp2_with fail
 refine(Rx b s j K _ hs HY (T.alloc _)).mono ?_;rintro e w2 ⟨hv,rfl,o,FO,BS⟩;rw[k.out.2.1]at FO o⊢;have B:=(pP w1 _ _).kept BS (by simp;omega);have H4:=(hn.alloc _).kept BS (by simp;omega);have HQ:=(HI.alloc _).trans BS;have HO:=BS.size;simp only[lT]at o HO;obtain⟨N,hN⟩:=pN w1.heap.size;rw[hN]at B o HO⊢;have K6:b<N:=by omega
 have LL:w.heap.size<N:=by omega
 clear HI T hn K3 H8 u BS hN;obtain⟨S,P,rfl⟩:=Ct o
 try simp only at o
 have e0:=B.cell 0;have e1:=B.cell 1;have e2:=B.cell 2;have HP:=B.frozen;simp at e0 e1 e2;simp only[Cy];go_wp2_with fail
 have HH:=((FO.zB ⟨N,0,Y⟩ (by simp;omega) (O A.name)).zB ⟨N,1,Y⟩ (by simp;omega) (U S (Z A.args) P)).zB ⟨N,2,Y⟩ (by simp;omega) (X J A.at_);have FA:=((B.set 0 (O A.name)).set 1 (U S (Z A.args) P)).set 2 (X J A.at_);have H5:=((H4.zB ⟨N,0,Y⟩ (by simp;omega) (O A.name)).zB ⟨N,1,Y⟩ (by simp;omega) (U S (Z A.args) P)).zB ⟨N,2,Y⟩ (by simp;omega) (X J A.at_);have HM:=((HQ.setCell (p:=⟨N,0,Y⟩) (by simp;omega) (O A.name)).setCell (p:=⟨N,1,Y⟩) (by simp;omega) (U S (Z A.args) P)).setCell (p:=⟨N,2,Y⟩) (by simp;omega) (X J A.at_);have H6:=Ag (Ag (Ag o (p:=⟨N,0,Y⟩) (by simpa using Bg o N (by omega)) (O A.name)) (p:=⟨N,1,Y⟩) (by simpa using Bg o N (by omega)) (U S (Z A.args) P)) (p:=⟨N,2,Y⟩) (by simpa using Bg o N (by omega)) (X J A.at_);simp only[kT,kU]at FA;clear FO B H4 HQ o e0 e1 e2 HP;refine(NF b s n f 58 58 _ rfl hs HF HH).mono ?_;rintro e C ⟨rfl,d,A1⟩;rw[k.out.2.2.1]at d;have t:=FA.kept A1 (by simp;omega);have r:=H5.kept A1 (by simp;omega);have v:=HM.trans A1;have m:=Ad H6 A1 (by simp;omega);clear HH FA H5 HM H6 A1;have K9:=t.lt;have LE:=d.lt;have K5:=r.lt;have hQ:(!f&&Et s (AQ s n f) 58)=K\/((!f&&Et s (AQ s n f) 58)=jj/\¬g<s.size)\/((!f&&Et s (AQ s n f) 58)=jj/\g<s.size/\Et s g 45=K)\/((!f&&Et s (AQ s n f) 58)=jj/\Et s g 45=jj):=by
  cases(!f&&Et s (AQ s n f) 58)<;>cases Et s g 45<;>simp
  omega
 rcases hQ with i|⟨i,BT⟩|⟨i,BT,q⟩|⟨i,q⟩
 case' inl=>
  rw[i];have c:=k.out.2.2.2.1;unfold D9 at c;rw[i,k.out.2.2.1]at c;simp only[k0,if_false,lZ]at c;obtain⟨z,r2,r3⟩:=c;subst r2 r3;have CL:=HB;obtain⟨a,h⟩:∃a:pM Ba,p7 (a.map pH=L)/\a=[]:=⟨[],by show _=_;rw[<-z];rfl,rfl⟩;have R:=d;have Q:=t;have AT:=r;have AH:=v;have AB:=m;have Ax:p9 C (N+1) 95 9 (U Y 0 0) (Z a) (DB a):=by rw[h.2];exact lH _ _ _ _
  have A2:p7 (∀p∈a,B4 C (N+1) p):=by rw[h.2];intro p l;simp at l
  replace h:=h.1
  clear d t r v m z i
 case' inr.inl=>
  have Bx:f=K:=by cases f<;>simp_all
  subst Bx;rw[i];have c:=k.out.2.2.2.1;unfold D9 at c;rw[i,k.out.2.2.1]at c;simp only[if_true]at c;have H:=d.cell 0;have u:=d.cell 1;have G:=d.cell 2;have FC:=d.frozen;simp[BY]at H u G;have q:Et s g 45=K:=fI BT 45;rw[q]at c;simp only[k0,if_false,lZ]at c;obtain⟨z,r2,r3⟩:=c;subst r2 r3;have CL:=HB;obtain⟨a,h⟩:∃a:pM Ba,p7 (a.map pH=L)/\a=[]:=⟨[],by show _=_;rw[<-z];rfl,rfl⟩;clear z i;have K7:decide ((g:Int)<(s.size:Int))=K:=by simp;omega
  have LM:decide (g<s.size)=K:=by simp;omega
  go_wp2_with fail
  go_quiet (fail)
  have R:=(d.drewN nq).set 2 (pE jj);have Q:=(t.drewN nq).zB ⟨b,2,Y⟩ (by simp;omega) (pE jj);have AT:=(r.drewN nq).zB ⟨b,2,Y⟩ (by simp;omega) (pE jj);have AH:=(v.drewN nq).setCell (p:=⟨b,2,Y⟩) (by simp) (pE jj);have AB:=Ag (DC m nq) (p:=⟨b,2,Y⟩) (by simpa using Bg m b (by omega)) (pE jj);have Ax:p9 ((C.drewN nq).setCell ⟨b,2,Y⟩ (pE jj)) (N+1) 95 9 (U Y 0 0) (Z a) (DB a):=by rw[h.2];exact lH _ _ _ _
  have A2:p7 (∀p∈a,B4 ((C.drewN nq).setCell ⟨b,2,Y⟩ (pE jj)) (N+1) p):=by rw[h.2];intro p l;simp at l
  replace h:=h.1
  clear d t r v m
 case' inr.inr.inl=>
  have Bx:f=K:=by cases f<;>simp_all
  subst Bx;rw[i];have c:=k.out.2.2.2.1;unfold D9 at c;rw[i,k.out.2.2.1]at c;simp only[if_true]at c;have H:=d.cell 0;have u:=d.cell 1;have G:=d.cell 2;have FC:=d.frozen;simp[BY]at H u G;rw[q]at c;simp only[k0,if_false,lZ]at c;obtain⟨z,r2,r3⟩:=c;subst r2 r3;have CL:=HB;obtain⟨a,h⟩:∃a:pM Ba,p7 (a.map pH=L)/\a=[]:=⟨[],by show _=_;rw[<-z];rfl,rfl⟩;clear z i;have H9:(g:Int)<(s.size:Int):=by omega
  have hq:((s[g].toNat:Int)==45)=K:=by rw[<-q];exact(I9 BT 45).symm
  go_wp2_with fail
  go_quiet (fail)
  have R:=(d.drewN nq).set 2 (pE jj);have Q:=(t.drewN nq).zB ⟨b,2,Y⟩ (by simp;omega) (pE jj);have AT:=(r.drewN nq).zB ⟨b,2,Y⟩ (by simp;omega) (pE jj);have AH:=(v.drewN nq).setCell (p:=⟨b,2,Y⟩) (by simp) (pE jj);have AB:=Ag (DC m nq) (p:=⟨b,2,Y⟩) (by simpa using Bg m b (by omega)) (pE jj);have Ax:p9 ((C.drewN nq).setCell ⟨b,2,Y⟩ (pE jj)) (N+1) 95 9 (U Y 0 0) (Z a) (DB a):=by rw[h.2];exact lH _ _ _ _
  have A2:p7 (∀p∈a,B4 ((C.drewN nq).setCell ⟨b,2,Y⟩ (pE jj)) (N+1) p):=by rw[h.2];intro p l;simp at l
  replace h:=h.1
  clear d t r v m
 case' inr.inr.inr=>
  have Bx:f=K:=by cases f<;>simp_all
  subst Bx;rw[i];have c:=k.out.2.2.2.1;unfold D9 at c;rw[i,k.out.2.2.1]at c;simp only[if_true]at c;have H:=d.cell 0;have u:=d.cell 1;have G:=d.cell 2;have FC:=d.frozen;simp[BY]at H u G;rw[q]at c;simp only[if_true]at c;have BT:=F1 q;have H9:(g:Int)<(s.size:Int):=by omega
  have hq:((s[g].toNat:Int)==45)=jj:=by rw[<-q];exact(I9 BT 45).symm
  have CL:a3<=s.size:=by have:=R8 s (g+1) (by omega);rw[c]at this;exact this
  have HR:p7 (Bj s (g+1)=(L,a3,b3)):=c;clear c i q;go_wp2_with fail
  go_quiet (fail)
  clear hq;go_wp2_with fail
  refine(Xo b s (g+1) _ hs (by omega) ((d.drewN nq).set 1 _)).mono ?_;rintro e w4 ⟨bv,a,rfl,FF,H3,H0,HE,F⟩;rw[HR.out]at HE FF;have h:p7 (a.map pH=L):=FF;have Ha:=((t.drewN nq).zB ⟨b,1,Y⟩ (by simp;omega) _).kept F (by simp;omega);have HV:=((r.drewN nq).zB ⟨b,1,Y⟩ (by simp;omega) _).kept F (by simp;omega);have H1:=((v.drewN nq).setCell (p:=⟨b,1,Y⟩) (by simp) _).trans F;have FW:=Ad (Ag (DC m nq) (p:=⟨b,1,Y⟩) (by simpa using Bg m b (by omega)) _) F (by simp;omega);have B9:p9 w4 (N+1) 95 9 bv (Z a) (DB a):=Am H3 (by simp;omega);have E0:p7 (∀p∈a,B4 w4 (N+1) p):=λp l=>Am (H0 p l) (by simp;omega)
  have FB:=F.size;simp only[World.size_setCell]at FB;have K4:C.heap.size<=w4.heap.size:=FB;clear d t r v m F H3 H0 FF H u G FC FB;obtain⟨x,y,rfl⟩:=Ct B9;have e3:=Ha.cell 3;have HP:=Ha.frozen 3;simp at e3;have R:=HE.zB ⟨N,3,Y⟩ (by simp;omega) (U x (Z a) y);have Q:=Ha.set 3 (U x (Z a) y);have AT:=HV.zB ⟨N,3,Y⟩ (by simp;omega) (U x (Z a) y);have AH:=H1.setCell (p:=⟨N,3,Y⟩) (by simp;omega) (U x (Z a) y);have AB:=Ag FW (p:=⟨N,3,Y⟩) (by simpa using Bg FW N (by omega)) (U x (Z a) y);have Ax:=Ag B9 (p:=⟨N,3,Y⟩) (by simpa using Bg B9 N (by omega)) (U x (Z a) y);have A2:p7 (∀p∈a,B4 (w4.setCell ⟨N,3,Y⟩ (U x (Z a) y)) (N+1) p):=λp l=>Ag (E0.out p l) (by simpa using Bg (E0.out p l) N (by omega)) _
  clear HE HV H1 FW B9 E0
 all_goals
  have LB:=R.lt;have LS:=Q.lt;go_wp2_with fail
  refine(Ob b s _ _ 46 46 _ rfl hs CL R).mono ?_;rintro e w6 ⟨rfl,HS,D⟩;have DT:=k.out.2.2.2.2;simp only[By,lZ]at DT;rw[DT.1,DT.2]at HS;have IS:=Q.kept D (by simp;omega);have FT:=AT.kept D (by simp;omega);have Jx:=AH.trans D;have JJ:=Ad AB D (by simp;omega);have Ix:=Ad Ax D (by simp;omega);have KA:p7 (∀p∈a,B4 w6 (N+1) p):=λp l=>(A2.out p l).kept D (by simp;omega)
  clear R Q AT AH AB Ax D DT A2;have I:=IS.cell;have M:=FT.cell;have LC:=FT.frozen;have e0:=I 0;have e1:=I 1;have e2:=I 2;have e3:=I 3;have e4:=I 4;have f0:=M 0;have f1:=M 1;have f2:=M 2;have f3:=M 3;have f4:=M 4;simp at e0 e1 e2 e3 e4 f0 f1 f2 f3 f4;clear I M;go_wp2;have W:∀{v0 v1 v2 v3 v4:p5},Ac [w.heap.size] w6 (((((w6.setCell ⟨w.heap.size,0,Y⟩ v0).setCell ⟨w.heap.size,1,Y⟩ v1).setCell ⟨w.heap.size,2,Y⟩ v2).setCell ⟨w.heap.size,3,Y⟩ v3).setCell ⟨w.heap.size,4,Y⟩ v4):=by
   intro v0 v1 v2 v3 v4
   repeat (refine Ac.setCell ?_ (by simp) _)
   exact pO _ _
  refine lL (Ca rfl rfl (((((FT.set 0 _).set 1 _).set 2 _).set 3 _).set 4 _) underlying82 rfl (by kernel_rfl)) rfl ⟨U S (Z A.args) P,by first|exact U x (Z a) y|exact U Y 0 0,a,?_,?_,?_,?_,?_,?_,?_⟩
  .simp[C0]
  .exact Am (Ad JJ W (by simp;omega)) (by omega)
  .exact h.out
  .exact Am (Ad Ix W (by simp;omega)) (by omega)
  .exact λp l=>Am ((KA.out p l).kept W (by simp;omega)) (by omega)
  .exact HS.kept W (by simp;omega)
  .exact Jx.trans' W (by simp)
def dL(s:zA)(a:Nat)(c:Bool)(h:a<=s.size):(D9 s a c).2.1<=s.size:=by
 have b:=D3 s a c 58 h;unfold D9;split
 .split
  .rename_i d;exact R8 _ _ (by have:=F1 d;omega)
  .exact b
 .exact b
def XB(s:zA)(a:Nat)(b:Bool):a<=(D9 s a b).2.1:=by
 have c:=EI s a b 58;unfold D9;split
 .split
  .have:=W4 s (Ch s a b 58+1);omega
  .exact c
 .exact c
def JR(s:zA)(a:Nat)(h:a<=s.size):(Ao s a).2.1<=s.size:=by
 unfold Ao;simp only;exact D3 _ _ _ _ (dL _ _ _ (Js _ _ _ (BB _ _ h)))
def QJ{at_:Nat}(h:(Ao s at_).2.2=K):at_<(Ao s at_).2.1:=by
 unfold Ao at h⊢;simp only at h⊢;have a:=Cb s at_;have b:=Ll s (Ae s at_) K;have d:=XB s (AZ s (Ae s at_) K).2.1 (AZ s (Ae s at_) K).2.2;have c:=TT h;omega
def QA(b:Nat)(s:zA)(a:Nat)(w:py)(y:s.size<=1000000)(x:a<=s.size)(B:AF w b (BY s a K) 73):
  Calls prog 44 #[m2 (V ⟨b,0,Y⟩)] w λe h=>∃(t u:p5) (l:pM Ba),e=oa (pC (ml (C0 (Ao s a).1 t u)))/\p9 h w.heap.size 93 2 t (Z (Ao s a).1.head.args) ((Ao s a).1.head.args.flatMap AV)/\
   l.map pH=(Ao s a).1.body/\p9 h w.heap.size 95 9 u (Z l) (DB l)/\(∀p∈l,B4 h w.heap.size p)/\AF h b (BY s (Ao s a).2.1 (Ao s a).2.2) 73/\Ac [b] w h:=by
 obtain⟨j,r⟩:=pN (Ae s a);obtain⟨A,d,c,n⟩:∃A d c,AZ s j K=(A,d,c):=⟨_,_,_,rfl⟩;obtain⟨m,z⟩:=pN (Ch s d c 58);obtain⟨L,g,f,o⟩:∃L g f,D9 s d c=(L,g,f):=⟨_,_,_,rfl⟩;obtain⟨i,k,q⟩:∃i k,By s g f 46=(i,k):=⟨_,_,rfl⟩;have e:Ao s a=(⟨A,L,j⟩,i,k):=by unfold Ao;simp only[r,n,o,q]
 rw[e];have v:p7 (Ae s a=j/\AZ s j K=(A,d,c)/\Ch s d c 58=m/\D9 s d c=(L,g,f)/\By s g f 46=(i,k)):=⟨r,n,z,o,q⟩;exact Zh b s a j w A d m g c f L i k y x v B
def Em(l:pM zA)(x:zA):Bool:=l.any λy=>y.toList==x.toList
def LO(l:pM zA)(y x:zA):Em (l++[y]) x=(Em l x||(y.toList==x.toList)):=by simp[Em,pg]
def de(a:k<Z e)(x:zA):Em (e.take (k+1)) x=(Em (e.take k) x||(e[k].toList==x.toList)):=by
 rw[kW a,LO]
def dO(a:k<Z e)(h:(e[k].toList==s.toList)=jj):Em e s=jj:=by
 unfold Em;rw[mH];exact⟨e[k],kV a,h⟩
set_option maxRecDepth 512
theorem D2(d:p5)(l:pM zA)(x:zA)(q:Nat)(w:py)(b:p9 w q 9 1 d (Z l) (l.flatMap Ah))(y:Z l<=1000000):
  Calls prog 50 #[d,O x] w λe m=>e=oa (pE (Em l x))/\m=w:=by
 obtain⟨z,t,rfl⟩:=Ak b;go_enter func50,ntmps50;go_wp2
 go_loop [5] (λi=>∃k:Nat,i=X J k/\k<=Z l/\p7 (Em (l.take k) x=K)) (λi=>Z l-(intOf i).toNat)
 case atStart=>exact⟨0,rfl,lz _,by show _=_;simp[Em]⟩
 case round=>
  obtain⟨k,rfl,s,j⟩:=hrel;by_cases a:k<Z l
  .obtain⟨g,u,c,v,f⟩:=AC b (by simp[Ah]) k a;simp only[kS]at c;obtain⟨rfl,_,rfl⟩:=c;have n:=f k a 0 (by omega);simp[Ah]at n;clear f;have r:p7 ((l[k].toList==x.toList)=jj->Em l x=jj):=dO a;have o:p7 ((l[k].toList==x.toList)=K->Em (l.take (k+1)) x=K):=by
    intro h;rw[de a,j.out,h];rfl
   go_wp2
   .go_ret;rw[r.out (by assumption)];exact⟨rfl,rfl⟩
   .go_round
    case rel=>exact⟨k+1,by go_num,by omega,o.out (by assumption)⟩
    case measure=>simp[intOf];omega
  ·(have p:p7 (Em l x=K):=by have:=j.out;rwa [kX (by omega)]at this);go_wp2;go_ret;rw[p.out];exact⟨rfl,rfl⟩
structure A4 where
 head:Dg
 hv:p5
 bv:p5
 bl:pM Ba
 at_:Nat
def Ce(c:A4):pM p5:=[O c.head.name,c.hv,X J c.head.at_,c.bv,X J c.at_]
def AX(p:Ba):pM p5:=Cj p.1 p.2
def B1(c:A4):Z (Ce c)=5:=rfl
def BP(p:Ba):Z (AX p)=9:=rfl
def FD(t:AK):Z (AV t)=2:=rfl
structure Xg(w:py)(c:A4):Prop where
 args:p9 w 0 93 2 c.hv (Z c.head.args) (c.head.args.flatMap AV)
 body:p9 w 0 95 9 c.bv (Z c.bl) (c.bl.flatMap AX)
 lits:∀p∈c.bl,B4 w 0 p
structure Cl(w:py)(lv:p5)(cs:pM A4):Prop where
 row:p9 w 0 82 5 lv (Z cs) (cs.flatMap Ce)
 each:∀c∈cs,Xg w c
def Xg.kept{w w':py}{c:A4}(h:Xg w c)(k:Ac [] w w'):Xg w' c:=
 ⟨Ad h.args k,Ad h.body k,λp a=>Ad (h.lits p a) k⟩
def Cl.kept{w w':py}{a:p5}{b:pM A4}(h:Cl w a b)(k:Ac [] w w'):Cl w' a b:=
 ⟨Ad h.row k,λc d=>(h.each c d).kept k⟩
def MF(p:Ba):Bool:=p.1.kind==97||p.1.kind==33
def Vw(bl:pM Ba)(x:zA):Option Nat:=bl.findSome? λp=>if MF p&&(p.1.A.name.toList==x.toList)then V (Z p.1.A.args) else Y
def Hx(c:A4)(x:zA):Option Nat:=if c.head.name.toList==x.toList then V (Z c.head.args) else Vw c.bl x
def DG(cs:pM A4)(x:zA):Int:=match cs.findSome? (Hx · x)with|some n=>n|none=> -1
def Gk{α β:Type}(f:α->Option β)(l:pM α)(k:Nat)(a:k<Z l)(b:(l.take k).findSome? f=Y):(l.take (k+1)).findSome? f=f l[k]:=by
 rw[kW a,pk,b];simp
def He{α β:Type}(f:α->Option β)(l:pM α)(k:Nat)(a:k<Z l)(c:(l.take k).findSome? f=Y){b:β}(d:f l[k]=V b):l.findSome? f=V b:=by
 have h:=Gk f l k a c;rw[d]at h;have e:l=l.take (k+1)++l.drop (k+1):=(mt _ _).symm;rw[e,pk,h];rfl
def Ee(p:Ba):(((p.1.kind.toNat:Int)==97)=jj/\MF p=jj)\/(((p.1.kind.toNat:Int)==97)=K/\((p.1.kind.toNat:Int)==33)=jj/\MF p=jj)\/
  (((p.1.kind.toNat:Int)==97)=K/\((p.1.kind.toNat:Int)==33)=K/\MF p=K):=by
 have b:((p.1.kind.toNat:Int)==97)=(p.1.kind==97):=Cq _ 97;have a:((p.1.kind.toNat:Int)==33)=(p.1.kind==33):=Cq _ 33;rw[b,a];unfold MF;cases(p.1.kind==97)<;>cases(p.1.kind==33)<;>simp
set_option maxRecDepth 100000
theorem LH(pb:Nat)(lv:p5)(a:pM A4)(x:zA)(w:py)(hP:AF w pb [lv] 76)(L:Cl w lv a)(HD:Z a<=1000000)(R:∀c∈a,Z c.bl<=1000000):
  Calls prog 23 #[m2 (V ⟨pb,0,Y⟩),O x] w λe w'=>e=oa (X J (DG a x))/\Ac [] w w':=by
 obtain⟨ad,EK,rfl⟩:=Ak L.row;have G:p7 (Cl w (U ad (Z a) EK) a/\∀c∈a,Z c.bl<=1000000):=⟨L,R⟩;clear L R;go_enter func23,ntmps23;go_wp2
 go_loopw [5] (λi wr=>∃k:Nat,i=X J k/\k<=Z a/\p7 ((a.take k).findSome? (Hx · x)=Y)/\Ac [] w wr) (λi _=>Z a-(intOf i).toNat)
 case atStart=>exact⟨0,rfl,lz _,by show _=_;simp,pO _ _⟩
 case round=>
  obtain⟨k,rfl,hk,y,q⟩:=hrel;have z:=(hP.kept q).cell 0;simp at z;by_cases f:k<Z a
  .have F:=G.out.1.kept q;obtain⟨g,FW,he,hc,v⟩:=AC F.row (λc _=>B1 c) k f;simp only[kS]at he;obtain⟨rfl,_,rfl⟩:=he;have S:=v k f 0 (by omega);have P:=v k f 1 (by omega);have t:=v k f 3 (by omega);simp[Ce]at S P t;have n:=F.each a[k] (kV f);have HH:=G.out.2 a[k] (kV f);obtain⟨HG,FT,Bx⟩:=Ak n.args;obtain⟨B9,CL,C⟩:=Ak n.body;rw[Bx]at P;rw[C]at t;have B2:p7 (Xg wr a[k]):=n;have AT:p7 (a[k].bv=U B9 a[k].bl.length CL):=C;clear v F n Bx C;cases hnm:(a[k].head.name.toList==x.toList)with
   |true=>
    have M:p7 (DG a x=(a[k].head.args.length:Int)):=by
     show _=_;unfold DG;rw[He (Hx · x) a k f y.out (b:=a[k].head.args.length) (by simp[Hx,hnm])]
    go_wp2;go_ret;rw[M.out];exact⟨rfl,q⟩
   |false=>
    (have HA:p7 (Hx a[k] x=Vw a[k].bl x):=by show _=_;simp[Hx,hnm]);go_wp2;clear S P
    go_loopw [6] (λi W=>∃m:Nat,i=X J m/\m<=a[k].bl.length/\p7 ((a[k].bl.take m).findSome? (λp=>if MF p&&(p.1.A.name.toList==x.toList)then V (Z p.1.A.args) else Y)=Y)/\Ac [] w W) (λi _=>a[k].bl.length-(intOf i).toNat)
    case atStart=>exact⟨0,rfl,lz _,by show _=_;simp,q⟩
    case round=>
     rename_i W _;obtain⟨m,rfl,hm,B,o⟩:=hrel;clear z t q B2;have z:=(hP.kept o).cell 0;simp at z;have E:=G.out.1.kept o;obtain⟨g2,HF,A0,_,Ax⟩:=AC E.row (λc _=>B1 c) k f;simp only[kS,ld,lW]at A0;obtain⟨⟨rfl,_,_⟩,_,rfl⟩:=A0;have t:=Ax k f 3 (by omega);simp[Ce]at t;rw[AT.out]at t;have n:=E.each a[k] (kV f);clear Ax E;by_cases d:m<a[k].bl.length
     .obtain⟨gb,HJ,N,FO,l⟩:=AC n.body (λc _=>BP c) m d;rw[AT.out]at N;simp only[kS]at N;obtain⟨rfl,_,rfl⟩:=N;have hl:=n.lits a[k].bl[m] (kV d);obtain⟨HI,FP,T⟩:=Ak hl;have d0:=l m d 0 (by omega);have d1:=l m d 1 (by omega);have Q:=l m d 2 (by omega);have d3:=l m d 3 (by omega);have d4:=l m d 4 (by omega);have d5:=l m d 5 (by omega);have d6:=l m d 6 (by omega);have d7:=l m d 7 (by omega);have d8:=l m d 8 (by omega);simp[AX,Cj]at d0 d1 Q d3 d4 d5 d6 d7 d8;rw[T]at Q;clear l hl T n;have s:p7 (MF a[k].bl[m]=K\/(a[k].bl[m].1.A.name.toList==x.toList)=K->(a[k].bl.take (m+1)).findSome? (λp=>if MF p&&(p.1.A.name.toList==x.toList)then V (Z p.1.A.args) else Y)=Y):=by
       intro h;rw[Gk _ _ m d B.out];rcases h with h|h<;>simp[h]
      have r:p7 (MF a[k].bl[m]=jj->(a[k].bl[m].1.A.name.toList==x.toList)=jj->DG a x=(a[k].bl[m].1.A.args.length:Int)):=by
       intro h1 h2;have h3:=He (λp:Ba=>if MF p&&(p.1.A.name.toList==x.toList)then V (Z p.1.A.args) else Y) a[k].bl m d B.out (b:=a[k].bl[m].1.A.args.length) (by simp[h1,h2]);(have h4:Hx a[k] x=V a[k].bl[m].1.A.args.length:=by rw[HA.out];exact h3);unfold DG;rw[He (Hx · x) a k f y.out h4]
      cases hnm2:(a[k].bl[m].1.A.name.toList==x.toList)with
      |true=>
       rcases Ee a[k].bl[m] with⟨u,j⟩|⟨u,H,j⟩|⟨u,H,j⟩
       .have D:=Ab (r.out j hnm2);clear r s j;go_wp2;go_ret;rw[Aa D];exact⟨rfl,o.alloc _⟩
       .have D:=Ab (r.out j hnm2);clear r s j;go_wp2;go_ret;rw[Aa D];exact⟨rfl,o.alloc _⟩
       .have I:=Ab (s.out (oi j));clear r s j;go_wp2
        go_roundw
        case rel=>exact⟨m+1,by go_num,by omega,I,o.alloc _⟩
        case measure=>simp[intOf];omega
      |false=>
       have I:=Ab (s.out (oj hnm2));rcases Ee a[k].bl[m] with⟨u,j⟩|⟨u,H,j⟩|⟨u,H,j⟩;all_goals
        clear r s j;go_wp2
        go_roundw
        case rel=>exact⟨m+1,by go_num,by omega,I,o.alloc _⟩
        case measure=>simp[intOf];omega
     .have HZ:p7 ((a.take (k+1)).findSome? (Hx · x)=Y):=by
       show _=_;rw[Gk _ _ k f y.out];have h:=B.out;rw[kX (by omega)]at h;rw[HA.out];exact h
      go_wp2
      go_roundw
      case rel=>exact⟨k+1,by go_num,by omega,HZ,o⟩
      case measure=>simp[intOf];omega
  .have M:p7 (DG a x= -1):=by
    have h:=y.out;rw[kX (by omega)]at h;show _=_;unfold DG;rw[h]
   go_wp2;go_ret;rw[M.out];exact⟨rfl,q⟩
def AA(p:Ba):pM AK:=if MF p then p.1.A.args else[p.1.L,p.1.R]
theorem Ty(p:Ba)(w:py)(c:B4 w 0 p):
  Calls prog 131 #[pC (ml (AX p))] w λe k=>∃j,e=oa j/\p9 k 0 93 2 j (Z (AA p)) ((AA p).flatMap AV)/\Ac [] w k:=by
 obtain⟨g,f,d⟩:=Ak c;simp only[AX,Cj,d];rcases Ee p with⟨i,b⟩|⟨i,l,b⟩|⟨i,l,b⟩
 .have a:p7 (AA p=p.1.A.args/\p.2=U g (Z p.1.A.args) f/\B4 w 0 p):=⟨by unfold AA;simp[b],d,c⟩;clear b d c;go_enter func131,ntmps131;go_wp2;go_ret;refine⟨_,rfl,?_,(pO _ _).alloc _⟩;rw[a.out.1];have h:p9 w 0 93 2 _ _ _:=a.out.2.2;rw[a.out.2.1]at h;exact h.alloc _
 .have a:p7 (AA p=p.1.A.args/\p.2=U g (Z p.1.A.args) f/\B4 w 0 p):=⟨by unfold AA;simp[b],d,c⟩;clear b d c;go_enter func131,ntmps131;go_wp2;go_ret;refine⟨_,rfl,?_,(pO _ _).alloc _⟩;rw[a.out.1];have h:p9 w 0 93 2 _ _ _:=a.out.2.2;rw[a.out.2.1]at h;exact h.alloc _
 .have a:p7 (AA p=[p.1.L,p.1.R]):=by show _=_;unfold AA;simp[b]
  clear b d c;go_enter func131,ntmps131;go_wp2;go_ret;refine⟨_,rfl,?_,((pO _ _).alloc _).alloc _⟩;rw[a.out];refine⟨rfl,oj ⟨_,2,#[X .u8 p.1.L.v.toNat,O p.1.L.s,X .u8 p.1.R.v.toNat,O p.1.R.s],rfl,lz _,by have h:=lP (w.alloc (j3 #[X .u8 p.1.kind.toNat,O p.1.A.name,U g (Z p.1.A.args) f,X J p.1.A.at_,X .u8 p.1.L.v.toNat,O p.1.L.s,X .u8 p.1.R.v.toNat,O p.1.R.s,X J p.1.at_] 95)) (j3 #[X .u8 p.1.L.v.toNat,O p.1.L.s,X .u8 p.1.R.v.toNat,O p.1.R.s] 93);rw[lT]at h;exact h,by simp,by unfold maxLen;omega,rfl,?_⟩⟩;simp[AV]
def SH(l:pM AK)(v:UInt8):Bool:=l.any λt=>t.v==v
def KE(v:UInt8)(p:Ba):Bool:=p.1.kind==97&&SH p.1.A.args v
def Ky(bl:pM Ba)(v:UInt8):Bool:=bl.any (KE v)
def CU{α:Type}(f:α->Bool)(l:pM α)(k:Nat)(a:k<Z l)(b:(l.take k).any f=K):(l.take (k+1)).any f=f l[k]:=by
 rw[kW a,pg,b];simp
def I7{α:Type}(f:α->Bool)(l:pM α)(k:Nat)(a:k<Z l)(h:f l[k]=jj):l.any f=jj:=by
 rw[mH];exact⟨_,kV a,h⟩
theorem Lr(I:p5)(a:pM Ba)(n:Int)(v:UInt8)(w:py)(W:n=v.toNat)(l:p9 w 0 95 9 I (Z a) (a.flatMap AX))(D:∀p∈a,B4 w 0 p)(A2:Z a<=1000000)(H:∀p∈a,Z p.1.A.args<=1000000):
  Calls prog 132 #[I,X .u8 n] w λe L=>e=oa (pE (Ky a v))/\L=w:=by
 subst W;obtain⟨R,Q,rfl⟩:=Ak l;have o:p7 (p9 w 0 95 9 (U R (Z a) Q) (Z a) (a.flatMap AX)/\(∀p∈a,B4 w 0 p)/\(∀p∈a,Z p.1.A.args<=1000000)):=⟨l,D,H⟩;clear l D H;go_enter func132,ntmps132;go_wp2
 go_loop [5] (λi=>∃k:Nat,i=X J k/\k<=Z a/\p7 ((a.take k).any (KE v)=K)) (λi=>Z a-(intOf i).toNat)
 case atStart=>exact⟨0,rfl,lz _,by show _=_;simp⟩
 case round=>
  obtain⟨k,rfl,hk,q⟩:=hrel;by_cases b:k<Z a
  .obtain⟨g,A0,G,hc,r⟩:=AC o.out.1 (λc _=>BP c) k b;simp only[kS]at G;obtain⟨rfl,_,rfl⟩:=G;have S:=r k b 0 (by omega);have y:=r k b 2 (by omega);simp[AX,Cj]at S y;have s:=o.out.2.1 a[k] (kV b);have AO:=o.out.2.2 a[k] (kV b);obtain⟨T,M,j⟩:=Ak s;rw[j]at y;have HI:p7 (p9 w 0 93 2 (U T a[k].1.A.args.length M) a[k].1.A.args.length (a[k].1.A.args.flatMap AV)):=by
    have h:p9 w 0 93 2 _ _ _:=s;rw[j]at h;exact h
   clear r s j;have F:((a[k].1.kind.toNat:Int)==97)=(a[k].1.kind==97):=Cq _ 97;cases hkd:(a[k].1.kind==97)with
   |false=>
    rw[hkd]at F;(have d:p7 ((a.take (k+1)).any (KE v)=K):=by show _=_;rw[CU _ _ k b q.out];simp[KE,hkd]);clear hkd;go_wp2
    go_loop [6] (λi=>i=X J 0) (λ_=>0)
    case atStart=>rfl
    case round=>
     subst hrel;go_wp2
     go_round
     case rel=>exact⟨k+1,by go_num,by omega,d⟩
     case measure=>simp[intOf];omega
   |true=>
    rw[hkd]at F;(have d:p7 (SH a[k].1.A.args v=K->(a.take (k+1)).any (KE v)=K):=by intro h;rw[CU _ _ k b q.out];simp[KE,h]);(have u:p7 (SH a[k].1.A.args v=jj->Ky a v=jj):=by intro h;exact I7 _ _ k b (by simp[KE,hkd,h]));clear hkd;go_wp2
    go_loop [6] (λi=>∃m:Nat,i=X J m/\m<=a[k].1.A.args.length/\p7 ((a[k].1.A.args.take m).any (λt=>t.v==v)=K)) (λi=>a[k].1.A.args.length-(intOf i).toNat)
    case atStart=>exact⟨0,rfl,lz _,by show _=_;simp⟩
    case round=>
     obtain⟨m,rfl,hm,z⟩:=hrel;by_cases f:m<a[k].1.A.args.length
     .obtain⟨ga,BA,B,AT,E⟩:=AC HI.out (λc _=>FD c) m f;simp only[kS]at B;obtain⟨rfl,_,rfl⟩:=B;have P:=E m f 0 (by omega);simp[AV]at P;clear E;have C:((a[k].1.A.args[m].v.toNat:Int)==(v.toNat:Int))=(a[k].1.A.args[m].v==v):=Cq _ v;cases hv:(a[k].1.A.args[m].v==v)with
      |true=>
       rw[hv]at C;have N:=Ab (u.out (I7 _ _ m f hv));clear hv u d;go_wp2;go_ret;rw[Aa N];exact⟨rfl,rfl⟩
      |false=>
       rw[hv]at C;(have x:p7 ((a[k].1.A.args.take (m+1)).any (λt=>t.v==v)=K):=by show _=_;rw[CU _ _ m f z.out];exact hv);clear hv u d;go_wp2
       go_round
       case rel=>exact⟨m+1,by go_num,by omega,x⟩
       case measure=>simp[intOf];omega
     .have x:=Ab (d.out (by have h:=z.out;rwa [kX (by omega)]at h));go_wp2
      go_round
      case rel=>exact⟨k+1,by go_num,by omega,x⟩
      case measure=>simp[intOf];omega
  ·(have HE:p7 (Ky a v=K):=by have h:=q.out;rwa [kX (by omega)]at h);go_wp2;go_ret;rw[HE.out];exact⟨rfl,rfl⟩
def CV(bl:pM Ba)(t:AK):Bool:= !(t.v==0||Ky bl t.v)
def JW(bl:pM Ba)(p:Ba):Bool:=(AA p).any (CV bl)
def DR(head:Dg)(bl:pM Ba):Int:=if head.args.any (CV bl)then head.at_ else match bl.find? (JW bl)with|some p=>p.1.at_|none=> -1
def FG{α:Type}(f:α->Bool)(l:pM α)(k:Nat)(a:k<Z l)(d:(l.take k).any f=K)(h:f l[k]=jj):l.find? f=V l[k]:=by
 have e:l.find? f=(l.take k++l.drop k).find? f:=by rw[mt]
 rw[e,pi];have c:(l.take k).find? f=Y:=by
  rw[m7];intro x g b;have:(l.take k).any f=jj:=by rw[mH];exact⟨x,g,b⟩
  rw[d]at this;cases this
 rw[c,Option.none_or,lD a,List.find?_cons_of_pos h]
theorem Xx(b:Dg)(hv bv:p5)(a:pM Ba)(w:py)(W:p9 w 0 93 2 hv (Z b.args) (b.args.flatMap AV))(Q:p9 w 0 95 9 bv (Z a) (a.flatMap AX))(hl:∀p∈a,B4 w 0 p)(D:Z a<=1000000)(Bx:∀p∈a,Z p.1.A.args<=1000000)(HG:Z b.args<=1000000):
  Calls prog 84 #[pC (ml (Cy b.name hv b.at_)),bv] w λe w'=>e=oa (X J (DR b a))/\Ac [] w w':=by
 obtain⟨N,L,rfl⟩:=Ak W;obtain⟨ad,EY,rfl⟩:=Ak Q;simp only[Cy];have l:p7 (p9 w 0 93 2 (U N (Z b.args) L) (Z b.args) (b.args.flatMap AV)/\p9 w 0 95 9 (U ad (Z a) EY) (Z a) (a.flatMap AX)/\(∀p∈a,B4 w 0 p)/\(∀p∈a,Z p.1.A.args<=1000000)):=⟨W,Q,hl,Bx⟩;clear W Q hl Bx;have HW:∀(x:Bool) (w:py),(Op.unary .not (pE x)).run prog w=.ok (pE (!x)) w:=λ_ _=>rfl
 go_enter func84,ntmps84;go_wp2_with fail
 go_loopw [5] (λi wr=>∃k:Nat,i=X J k/\k<=Z b.args/\p7 ((b.args.take k).any (CV a)=K)/\wr=w.alloc (j3 #[O b.name,U N (Z b.args) L,X J b.at_] 79)) (λi _=>Z b.args-(intOf i).toNat)
 case atStart=>exact⟨0,rfl,lz _,by show _=_;simp,rfl⟩
 case round=>
  obtain⟨k,rfl,hk,HC,rfl⟩:=hrel;by_cases F:k<Z b.args
  .obtain⟨g,BS,r,hc,f⟩:=AC (l.out.1.alloc (j3 #[O b.name,U N (Z b.args) L,X J b.at_] 79)) (λc _=>FD c) k F;simp only[kS]at r;obtain⟨rfl,_,rfl⟩:=r;have E:=f k F 0 (by omega);simp[AV]at E;clear f;have y:((b.args[k].v.toNat:Int)==0)=(b.args[k].v==0):=Cq _ 0;(have n:p7 (CV a b.args[k]=K->(b.args.take (k+1)).any (CV a)=K):=by intro h;rw[CU _ _ k F HC.out];exact h);(have o:p7 (CV a b.args[k]=jj->DR b a=(b.at_:Int)):=by intro h;unfold DR;rw[ln (I7 _ _ k F h)]);cases hz:(b.args[k].v==0)with
   |true=>
    rw[hz]at y;have C:=Ab (n.out (by simp[CV,hz]));clear hz n o;go_wp2_with fail
    go_roundw
    case rel=>exact⟨k+1,by go_num,by omega,C,by trivial⟩
    case measure=>simp[intOf];omega
   |false=>
    rw[hz]at y;cases hbd:Ky a b.args[k].v with
    |true=>
     have C:=Ab (n.out (by simp[CV,hbd]));clear hz n o;go_wp2_with (go_at_call 132;refine(Lr _ a _ b.args[k].v _ rfl (l.out.2.1.alloc _) (λp B=>(l.out.2.2.1 p B).alloc _) D l.out.2.2.2).mono ?_;rintro e t ⟨rfl,rfl⟩;rw[hbd])
     go_roundw
     case rel=>exact⟨k+1,by go_num,by omega,C,by trivial⟩
     case measure=>simp[intOf];omega
    |false=>
     have Ha:=Ab (o.out (by simp[CV,hbd,hz]));clear hz n o;go_wp2_with (go_at_call 132;refine(Lr _ a _ b.args[k].v _ rfl (l.out.2.1.alloc _) (λp B=>(l.out.2.2.1 p B).alloc _) D l.out.2.2.2).mono ?_;rintro e t ⟨rfl,rfl⟩;rw[hbd])
     go_ret;rw[Aa Ha];exact⟨rfl,(pO _ _).alloc _⟩
  ·(have HH:p7 (b.args.any (CV a)=K):=by have h:=HC.out;rwa [kX (by omega)]at h);clear HC;have EX:=(pO [] w).alloc (j3 #[O b.name,U N (Z b.args) L,X J b.at_] 79);go_wp2_with fail
   go_loopw [7] (λi wr=>∃k:Nat,i=X J k/\k<=Z a/\p7 ((a.take k).any (JW a)=K)/\Ac [] w wr) (λi _=>Z a-(intOf i).toNat)
   case atStart=>exact⟨0,rfl,lz _,by show _=_;simp,EX⟩
   case round=>
    rename_i wr _ _;obtain⟨q,rfl,hq,R,u⟩:=hrel;clear EX;by_cases d:q<Z a
    .have s:=Ad l.out.2.1 u;obtain⟨g,BS,r,hc,f⟩:=AC s (λc _=>BP c) q d;simp only[kS]at r;obtain⟨rfl,_,rfl⟩:=r;have AT:B4 _ 0 a[q]:=(l.out.2.2.1 a[q] (kV d)).kept u;obtain⟨H1,HV,AH⟩:=Ak AT;have T:=Ty a[q] _ AT;simp only[AX,Cj,AH]at T;have E:=f q d 0 (by omega);have d1:=f q d 1 (by omega);have P:=f q d 2 (by omega);have d3:=f q d 3 (by omega);have d4:=f q d 4 (by omega);have d5:=f q d 5 (by omega);have d6:=f q d 6 (by omega);have d7:=f q d 7 (by omega);have d8:=f q d 8 (by omega);simp[AX,Cj]at E d1 P d3 d4 d5 d6 d7 d8;rw[AH]at P;have HT:=Ab T;clear f s AT AH T;(have n:p7 (JW a a[q]=K->(a.take (q+1)).any (JW a)=K):=by intro h;rw[CU _ _ q d R.out];exact h);have o:p7 (JW a a[q]=jj->DR b a=(a[q].1.at_:Int)):=by
      intro h;unfold DR;rw[li (by rw[HH.out];exact nw),FG _ _ q d R.out h]
     have HA:Z (AA a[q])<=1000000:=by
      have:=l.out.2.2.2 a[q] (kV d);unfold AA;split<;>simp<;>omega
     (go_wp2_with fail);refine HT.mono ?_;rintro e t ⟨tv,rfl,AB,E0⟩;have I:=u.trans E0;have s:=Ad l.out.2.1 I;obtain⟨g',BS,r,_,f⟩:=AC s (λc _=>BP c) q d;simp only[kS,ld,lW]at r;obtain⟨⟨rfl,_,_⟩,_,rfl⟩:=r;have e8:=f q d 8 (by omega);simp[AX,Cj]at e8;have M:p7 (p9 t 0 95 9 (U (V ⟨g,0,Y⟩) (Z a) EY) (Z a) (a.flatMap AX)/\(∀p∈a,B4 t 0 p)):=⟨s,λp B=>(l.out.2.2.1 p B).kept I⟩;clear f s E d1 P d3 d4 d5 d6 d7 d8 HT E0 u;obtain⟨H0,HZ,rfl⟩:=Ak AB;have HO:=Ab AB;clear AB;obtain⟨j,Ax⟩:=pN (AA a[q]);rw[Ax]at HO HA⊢;have ES:=Ab Ax;clear Ax;go_wp2_with fail
     go_loop [9] (λi=>∃m:Nat,i=X J m/\m<=Z j/\p7 ((j.take m).any (CV a)=K)) (λi=>Z j-(intOf i).toNat)
     case atStart=>exact⟨0,rfl,lz _,by show _=_;simp⟩
     case round=>
      obtain⟨m,rfl,hm,HM⟩:=hrel;by_cases H:m<Z j
      .obtain⟨ga,HL,CC,HI,FB⟩:=AC HO (λc _=>FD c) m H;simp only[kS]at CC;obtain⟨rfl,_,rfl⟩:=CC;have f0:=FB m H 0 (by omega);simp[AV]at f0;clear FB;have y:((j[m].v.toNat:Int)==0)=(j[m].v==0):=Cq _ 0;(have z:p7 (CV a j[m]=K->(j.take (m+1)).any (CV a)=K):=by intro h;rw[CU _ _ m H HM.out];exact h);(have G:p7 (CV a j[m]=jj->DR b a=(a[q].1.at_:Int)):=by intro h;exact o.out (by unfold JW;rw[Aa ES];exact I7 _ _ m H h));cases hz:(j[m].v==0)with
       |true=>
        rw[hz]at y;have S:=Ab (z.out (by simp[CV,hz]));clear hz z G n o;go_wp2_with fail
        go_round
        case rel=>exact⟨m+1,by go_num,by omega,S⟩
        case measure=>simp[intOf];omega
       |false=>
        rw[hz]at y;cases hbd:Ky a j[m].v with
        |true=>
         have S:=Ab (z.out (by simp[CV,hbd]));clear hz z G n o;go_wp2_with (go_at_call 132;refine(Lr _ a _ j[m].v _ rfl M.out.1 M.out.2 D l.out.2.2.2).mono ?_;rintro e t ⟨rfl,rfl⟩;rw[hbd])
         go_round
         case rel=>exact⟨m+1,by go_num,by omega,S⟩
         case measure=>simp[intOf];omega
        |false=>
         have FF:=Ab (G.out (by simp[CV,hbd,hz]));clear hz z G n o;go_wp2_with (go_at_call 132;refine(Lr _ a _ j[m].v _ rfl M.out.1 M.out.2 D l.out.2.2.2).mono ?_;rintro e t ⟨rfl,rfl⟩;rw[hbd])
         go_ret;rw[Aa FF];exact⟨rfl,I⟩
      .have C:=Ab (n.out (by unfold JW;rw[Aa ES];have h:=HM.out;rwa [kX (by omega)]at h));clear n o;go_wp2_with fail
       go_roundw
       case rel=>exact⟨q+1,by go_num,by omega,C,I⟩
       case measure=>simp[intOf];omega
    .have HE:p7 (DR b a= -1):=by
      have h:=R.out;rw[kX (by omega)]at h;show _=_;unfold DR;rw[li (by rw[HH.out];exact nw)];have:a.find? (JW a)=Y:=by
       rw[m7];intro x hx hf;(have:a.any (JW a)=jj:=by rw[mH];exact⟨x,hx,hf⟩);rw[h]at this;cases this
      rw[this]
     (go_wp2_with fail);go_ret;rw[HE.out];exact⟨rfl,u⟩
def Gb(a b:zA):Bool:=
 if Ap (CQ a 0) !=Ap (CQ b 0)then Ap (CQ a 0)
 else if Ap (CQ a 0)&&a.size !=b.size then decide (a.size<b.size)else pK a.toList b.toList
set_option maxRecDepth 512
theorem NU(a b:zA)(w:py)(l:0<a.size)(n:0<b.size)(p:a.size<=1000000)(q:b.size<=1000000):
  Calls prog 86 #[O a,O b] w λe k=>e=oa (pE (Gb a b))/\k=w:=by
 have j:CQ a 0=a[0]:=by simp[CQ,l]
 have i:CQ b 0=b[0]:=by simp[CQ,n]
 obtain⟨R,c⟩:=pN (Gb a b);rw[c];unfold Gb at c;rw[j,i]at c;have r:(0:Int)<(a.size:Int):=by omega
 have o:(0:Int)<(b.size:Int):=by omega
 clear j i;cases hx:Ap a[0] with
 |true=>
  cases hy:Ap b[0] with
  |true=>
   rw[hx,hy]at c;by_cases h:a.size=b.size
   ·(have g:(a.size !=b.size)=K:=by simp[h]);(have m:((a.size:Int) !=(b.size:Int))=K:=by simp[h]);(have f:p7 (pK a.toList b.toList=R):=by show _=_;rw[<-c,g];rfl);clear c g h;go_enter func86,ntmps86;(go_wp2_with fail);refine(Cz _ a[0] _ rfl).mono ?_;rintro e d ⟨rfl,rfl⟩;rw[hx];(go_wp2_with fail);refine(Cz _ b[0] _ rfl).mono ?_;rintro e d ⟨rfl,rfl⟩;rw[hy];go_wp2;go_ret;exact⟨Bs f.out,rfl⟩
   ·(have g:(a.size !=b.size)=jj:=by simp[h]);(have m:((a.size:Int) !=(b.size:Int))=jj:=by simp;omega);(have f:p7 (decide (a.size<b.size)=R):=by show _=_;rw[<-c,g];rfl);clear c g h;go_enter func86,ntmps86;(go_wp2_with fail);refine(Cz _ a[0] _ rfl).mono ?_;rintro e d ⟨rfl,rfl⟩;rw[hx];(go_wp2_with fail);refine(Cz _ b[0] _ rfl).mono ?_;rintro e d ⟨rfl,rfl⟩;rw[hy];go_wp2;go_ret;exact⟨Bs f.out,rfl⟩
  |false=>
   rw[hx,hy]at c;(have f:p7 (jj=R):=by show _=_;rw[<-c];rfl);clear c;go_enter func86,ntmps86;(go_wp2_with fail);refine(Cz _ a[0] _ rfl).mono ?_;rintro e d ⟨rfl,rfl⟩;rw[hx];(go_wp2_with fail);refine(Cz _ b[0] _ rfl).mono ?_;rintro e d ⟨rfl,rfl⟩;rw[hy];go_wp2;go_ret;exact⟨Bs f.out,rfl⟩
 |false=>
  cases hy:Ap b[0] with
  |true=>
   rw[hx,hy]at c;(have f:p7 (K=R):=by show _=_;rw[<-c];rfl);clear c;go_enter func86,ntmps86;(go_wp2_with fail);refine(Cz _ a[0] _ rfl).mono ?_;rintro e d ⟨rfl,rfl⟩;rw[hx];(go_wp2_with fail);refine(Cz _ b[0] _ rfl).mono ?_;rintro e d ⟨rfl,rfl⟩;rw[hy];go_wp2;go_ret;exact⟨Bs f.out,rfl⟩
  |false=>
   rw[hx,hy]at c;(have f:p7 (pK a.toList b.toList=R):=by show _=_;rw[<-c];rfl);clear c;go_enter func86,ntmps86;(go_wp2_with fail);refine(Cz _ a[0] _ rfl).mono ?_;rintro e d ⟨rfl,rfl⟩;rw[hx];(go_wp2_with fail);refine(Cz _ b[0] _ rfl).mono ?_;rintro e d ⟨rfl,rfl⟩;rw[hy];go_wp2;go_ret;exact⟨Bs f.out,rfl⟩
def Dh(x:zA)(a:pM zA×Bool)(y:zA):pM zA×Bool:=if !a.2&&Gb x y then(a.1++[x]++[y],jj)else(a.1++[y],a.2)
def Nz(l:pM zA)(x:zA):pM zA×Bool:=l.foldl (Dh x) ([],K)
def IP(l:pM zA)(x:zA):pM zA:=if(Nz l x).2 then(Nz l x).1 else(Nz l x).1++[x]
def bq(a:k<Z e)(x:zA):Nz (e.take (k+1)) x=Dh x (Nz (e.take k) x) e[k]:=by
 unfold Nz;rw[kW a,mi];rfl
def Wn(x:zA)(a:pM zA×Bool)(y:zA):Z (Dh x a y).1+a.2.toNat=Z a.1+1+(Dh x a y).2.toNat:=by
 obtain⟨o,d⟩:=a;unfold Dh;cases d<;>cases Gb x y<;>simp
def Pm(x:zA):∀(l:pM zA) (a:pM zA×Bool),Z (l.foldl (Dh x) a).1+a.2.toNat=Z a.1+Z l+(l.foldl (Dh x) a).2.toNat
 |[],a=>by simp only[List.foldl_nil,lO,oX]
 |y::l,a=>by
  have h:=Pm x l (Dh x a y);have b:=Wn x a y;simp only[lR,lj];omega
def N6(l:pM zA)(x:zA):Z (Nz l x).1=Z l+(Nz l x).2.toNat:=by
 have h:=Pm x l ([],K);simp only[lO,oR]at h;unfold Nz;omega
def OP(l:pM zA)(x:zA):Z (IP l x)=Z l+1:=by
 have h:=N6 l x;unfold IP;cases hd:(Nz l x).2<;>simp[hd]at h⊢<;>omega
set_option maxRecDepth 100000
theorem dY(lv:p5)(l:pM zA)(x:zA)(B2:Nat)(w:py)(hl:p9 w B2 9 1 lv (Z l) (l.flatMap Ah))(Go:Z l<=1000000)(hx:0<x.size/\x.size<=1000000)(u:∀y∈l,0<y.size/\y.size<=1000000):
  Calls prog 171 #[lv,O x] w λe w'=>∃v,e=oa v/\p9 w' w.heap.size 9 1 v (Z (IP l x)) ((IP l x).flatMap Ah)/\Ac [] w w':=by
 obtain⟨F,D,B,E,G⟩:=mg Tryz.zo;obtain⟨ad,FA,rfl⟩:=Ak hl;have HR:p7 (p9 w B2 9 1 (U ad (Z l) FA) (Z l) (l.flatMap Ah)/\(∀y∈l,0<y.size/\y.size<=1000000)):=⟨hl,u⟩;clear hl u;have FP:∀(x:Bool) (w:py),(Op.unary .not (pE x)).run prog w=.ok (pE (!x)) w:=λ_ _=>rfl
 go_enter func171,ntmps171;go_wp2
 go_loopw [5,6,7] (λo d i wr=>∃(k:Nat) (a:pM zA) (j:Bool),i=X J k/\k<=Z l/\d=pE j/\p7 (Nz (l.take k) x=(a,j))/\Z a<=k+1/\p9 wr w.heap.size 9 1 o (Z a) (a.flatMap Ah)/\Ac [] w wr) (λ_ _ i _=>Z l-(intOf i).toNat)
 case atStart=>exact⟨0,[],K,rfl,lz _,rfl,by show _=_;simp[Nz],by simp,lH _ _ _ _,pO _ _⟩
 case round=>
  obtain⟨k,a,j,rfl,hk,rfl,S,FF,f,m⟩:=hrel;obtain⟨L,H,rfl⟩:=Ak f;have W:=m.size;by_cases z:k<Z l
  .obtain⟨g,EX,N,hc,T⟩:=AC (Ad HR.out.1 m) (λc _=>rfl) k z;simp only[kS]at N;obtain⟨rfl,_,rfl⟩:=N;have A:=T k z 0 (by omega);simp[Ah]at A;clear T;have AB:=HR.out.2 l[k] (kV z);(have HS:p7 (Nz (l.take (k+1)) x=Dh x (a,j) l[k]):=by show _=_;rw[bq z,S.out]);cases b:(!j&&Gb x l[k])with
   |true=>
    (have EY:j=K:=by cases j<;>simp_all);subst EY;(have u:Gb x l[k]=jj:=by simpa using b);have FL:Z a<=k:=by
     have h:=N6 (l.take k) x;rw[S.out]at h;simp only[l9,oR]at h;omega
    (have AO:p7 (Nz (l.take (k+1)) x=(a++[x]++[l[k]],jj)):=by show _=_;rw[HS.out];simp[Dh,u]);have EK:∀{n:py} {o:Obj},(wr.alloc o).grownBy n (U L (Z a) H).ownBlock->p8 n ⟨g,k,Y⟩=V (O l[k]):=by
     intro n o FC;have ES:=(m.alloc o).grown FC (λq b=>oj (f.lt q b).1);obtain⟨g',EX,N,_,T⟩:=AC (Ad HR.out.1 ES) (λc _=>rfl) k z;simp only[kS,ld,lW]at N;obtain⟨⟨rfl,_,_⟩,_,rfl⟩:=N;have A:=T k z 0 (by omega);simpa[Ah] using A
    clear HS b;(go_wp2_with fail);refine(NU x l[k] _ hx.1 AB.1 hx.2 AB.2).mono ?_;rintro e w0 ⟨rfl,P⟩;rw[u,P];clear P w0;go_wp2_with (first|(at_builtin;refine lG _ rfl (.tmp 24) (.tmp 26) _ rfl w.heap.size 9 F _ 1 16 underlying41 D B E G rfl (by omega) (U L (Z a) H) (Z a) (a.flatMap Ah) rfl (f.alloc _) ⟨wr.heap.size,0,Y⟩ 1 1 [O x] rfl rfl (lI (lP wr _)) (by simp[Value.oneCell']) (by omega) (by unfold maxLen;omega) (by omega) (by simp;omega) (wr.heap.size+1) (by simp) ?_;intro g1 CC n I r AT BA;have d1:=EK r;have Ha:wr.heap.size<=n.heap.size:=by have:=r.size;simp at this;omega)|(at_builtin;refine lG _ rfl (.tmp 28) (.tmp 33) _ rfl w.heap.size 9 F _ 1 16 underlying41 D B E G rfl (by omega) (U (V ⟨g1,0,Y⟩) (Z a+1) CC) (Z a+1) (a.flatMap Ah++[O x]) rfl (I.alloc _) ⟨n.heap.size,0,Y⟩ 1 1 [O l[k]] rfl rfl (lI (lP n _)) (by simp[Value.oneCell']) (by omega) (by unfold maxLen;omega) (by omega) (by simp;omega) (n.heap.size+1) (by simp) ?_;intro g2 CL R Q p M C))
    have s:Ac [] w R:=(((m.alloc _).grown r (λq b=>oj (f.lt q b).1)).alloc _).grown p (λq b=>oj (I.lt q b).1);clear EK r AT BA p M C I d1 A f m W;go_wp2
    go_roundw
    case rel=>
     refine⟨k+1,a++[x]++[l[k]],jj,by go_num,by omega,rfl,AO,by simp;omega,?_,s⟩;simpa[Ah] using Q
    case measure=>simp[intOf];omega
   |false=>
    (have AO:p7 (Nz (l.take (k+1)) x=(a++[l[k]],j)):=by show _=_;rw[HS.out];simp[Dh,b]);clear HS;have B0:Z a<=k+j.toNat:=by
     have h:=N6 (l.take k) x;rw[S.out]at h;simp only[l9]at h;omega
    cases j with
    |true=>
     clear b;go_wp2_with (at_builtin;refine lG _ rfl (.tmp 28) (.tmp 33) _ rfl w.heap.size 9 F _ 1 16 underlying41 D B E G rfl (by omega) (U L (Z a) H) (Z a) (a.flatMap Ah) rfl (f.alloc _) ⟨wr.heap.size,0,Y⟩ 1 1 [O l[k]] rfl rfl (lI (lP wr _)) (by simp[Value.oneCell']) (by omega) (by unfold maxLen;omega) (by omega) (by simp;omega) (wr.heap.size+1) (by simp) ?_;intro g2 CL R Q p M C)
     have s:Ac [] w R:=(m.alloc _).grown p (λq b=>oj (f.lt q b).1);clear p M C A f m W;go_wp2
     go_roundw
     case rel=>
      refine⟨k+1,a++[l[k]],jj,by go_num,by omega,rfl,AO,by simp;omega,?_,s⟩;simpa[Ah] using Q
     case measure=>simp[intOf];omega
    |false=>
     (have u:Gb x l[k]=K:=by simpa using b);clear b;(go_wp2_with fail);refine(NU x l[k] _ hx.1 AB.1 hx.2 AB.2).mono ?_;rintro e w0 ⟨rfl,P⟩;rw[u,P];clear P w0;go_wp2_with (at_builtin;refine lG _ rfl (.tmp 28) (.tmp 33) _ rfl w.heap.size 9 F _ 1 16 underlying41 D B E G rfl (by omega) (U L (Z a) H) (Z a) (a.flatMap Ah) rfl (f.alloc _) ⟨wr.heap.size,0,Y⟩ 1 1 [O l[k]] rfl rfl (lI (lP wr _)) (by simp[Value.oneCell']) (by omega) (by unfold maxLen;omega) (by omega) (by simp;omega) (wr.heap.size+1) (by simp) ?_;intro g2 CL R Q p M C)
     have s:Ac [] w R:=(m.alloc _).grown p (λq b=>oj (f.lt q b).1);clear p M C A f m W;go_wp2
     go_roundw
     case rel=>
      refine⟨k+1,a++[l[k]],K,by go_num,by omega,rfl,AO,by simp;omega,?_,s⟩;simpa[Ah] using Q
     case measure=>simp[intOf];omega
  ·(have HE:p7 (Nz l x=(a,j)):=by have h:=S.out;rwa [kX (by omega)]at h);have B0:Z a<=Z l+j.toNat:=by
    have h:=N6 l x;rw[HE.out]at h;simp only at h;omega
   cases j with
   |true=>
    (have HW:p7 (IP l x=a):=by show _=_;unfold IP;rw[HE.out];rfl);go_wp2;go_ret;rw[HW.out];exact⟨_,rfl,f,m⟩
   |false=>
    (have HW:p7 (IP l x=a++[x]):=by show _=_;unfold IP;rw[HE.out];rfl);(have FT:Z a<=Z l:=by simpa using B0);go_wp2_with (at_builtin;refine lG _ rfl (.tmp 37) (.tmp 39) _ rfl w.heap.size 9 F _ 1 16 underlying41 D B E G rfl (by omega) (U L (Z a) H) (Z a) (a.flatMap Ah) rfl (f.alloc _) ⟨wr.heap.size,0,Y⟩ 1 1 [O x] rfl rfl (lI (lP wr _)) (by simp[Value.oneCell']) (by omega) (by unfold maxLen;omega) (by omega) (by simp;omega) (wr.heap.size+1) (by simp) ?_;intro g1 CC n I r AT BA)
    have s:Ac [] w n:=(m.alloc _).grown r (λq b=>oj (f.lt q b).1);clear r AT BA f m W;go_wp2;go_ret;rw[HW.out];refine⟨_,rfl,?_,s⟩;simpa[Ah] using I
def zc(l:pM zA)(t:AK):pM zA:=if t.v==0&& !Em l t.s then IP l t.s else l
def zS(l:pM zA)(ts:pM AK):pM zA:=ts.foldl zc l
def KN(l:pM zA):Prop:=∀y∈l,0<y.size/\y.size<=1000000
def Yi(ts:pM AK):Prop:=∀t∈ts,t.v=0->0<t.s.size/\t.s.size<=1000000
def Nn(x:zA)(d:0<x.size/\x.size<=1000000):∀(l:pM zA) (a:pM zA×Bool),KN l->KN a.1->KN (l.foldl (Dh x) a).1
 |[],_,_,ha=>ha
 |y::l,a,hl,ha=>by
  refine Nn x d l _ (λz b=>hl z (by simp[b])) ?_;have c:=hl y (by simp);unfold Dh;split
  .intro z b;simp only[lw,kY]at b;rcases b with(b|b)|b
   .exact ha z b
   .rw[b];exact d
   .rw[b];exact c
  .intro z b;simp only[lw,kY]at b;rcases b with b|b
   .exact ha z b
   .rw[b];exact c
def Zc(c:KN e)(b:0<s.size/\s.size<=1000000):KN (IP e s):=by
 have h:KN (Nz e s).1:=Nn s b e ([],K) c (by intro y d;simp at d);unfold IP;split
 .exact h
 .intro z a;simp only[lw,kY]at a;rcases a with a|a
  .exact h z a
  .rw[a];exact b
def Th{t:AK}(a:KN e)(b:t.v=0->0<t.s.size/\t.s.size<=1000000):KN (zc e t):=by
 unfold zc;split
 .rename_i h;simp only[lJ,mT]at h;exact Zc a (b h.1)
 .exact a
def dZ(l:pM zA)(t:AK):Z (zc l t)<=Z l+1:=by
 unfold zc;split
 .rw[OP];omega
 .omega
def aQ(l:pM zA){a:pM AK}(b:k<Z a):zS l (a.take (k+1))=zc (zS l (a.take k)) a[k]:=by
 unfold zS;rw[kW b,mi];rfl
def W9(l:pM zA)(a:pM AK):Z (zS l a)<=Z l+Z a:=by
 unfold zS
 induction a generalizing l with
 |nil=>simp
 |cons t a ih=>
  have b:=ih (zc l t);have c:=dZ l t;simp only[lR,lj];omega
def TB{a:pM AK}(b:KN e)(c:Yi a):KN (zS e a):=by
 unfold zS
 induction a generalizing e with
 |nil=>exact b
 |cons t a ih=>exact ih (Th b (c t (by simp))) (λu d=>c u (by simp[d]))
theorem ay(L D:p5)(l:pM zA)(a:pM AK)(d:Nat)(w:py)(z:p9 w d 9 1 L (Z l) (l.flatMap Ah))(u:p9 w 0 93 2 D (Z a) (a.flatMap AV))(A1:d<=w.heap.size)
  (BA:Z l+Z a<=1000000) (G:KN l) (M:Yi a):
  Calls prog 130 #[L,D] w λe B=>∃v,e=oa v/\p9 B d 9 1 v (Z (zS l a)) ((zS l a).flatMap Ah)/\Ac [] w B:=by
 obtain⟨ad,Bx,rfl⟩:=Ak z;obtain⟨T,R,rfl⟩:=Ak u;have t:p7 (p9 w 0 93 2 (U T (Z a) R) (Z a) (a.flatMap AV)/\KN l/\Yi a):=⟨u,G,M⟩;clear u G M;have A2:∀(x:Bool) (w:py),(Op.unary .not (pE x)).run prog w=.ok (pE (!x)) w:=λ_ _=>rfl
 go_enter func130,ntmps130;go_wp2
 go_loopw [0,5] (λo i wr=>∃(k:Nat) (b:pM zA),i=X J k/\k<=Z a/\p7 (zS l (a.take k)=b/\KN b)/\Z b<=Z l+k/\p9 wr d 9 1 o (Z b) (b.flatMap Ah)/\Ac [] w wr) (λ_ i _=>Z a-(intOf i).toNat)
 case atStart=>exact⟨0,l,rfl,lz _,⟨by simp[zS],t.out.2.1⟩,by omega,z,pO _ _⟩
 case round=>
  clear z;obtain⟨k,b,rfl,hk,r,AO,f,m⟩:=hrel;obtain⟨B2,B0,rfl⟩:=Ak f;have BT:=m.size;by_cases j:k<Z a
  .obtain⟨g,AT,I,hc,y⟩:=AC (Ad t.out.1 m) (λc _=>FD c) k j;simp only[kS]at I;obtain⟨rfl,_,rfl⟩:=I;have S:=y k j 0 (by omega);have Q:=y k j 1 (by omega);simp[AV]at S Q;clear y;have H:((a[k].v.toNat:Int)==0)=(a[k].v==0):=Cq _ 0;have n:p7 (zS l (a.take (k+1))=zc b a[k]/\KN (zc b a[k])):=⟨by rw[aQ l j,r.out.1],Th r.out.2 (t.out.2.2 a[k] (kV j))⟩;cases hz:(a[k].v==0)with
   |false=>
    rw[hz]at H;(have p:p7 (zS l (a.take (k+1))=b/\KN b):=by have h:=n.out;simp only[zc,hz,n5,k0,if_false]at h;exact h);clear n hz;go_wp2
    go_roundw
    case rel=>exact⟨k+1,b,by go_num,by omega,p,by omega,f,m⟩
    case measure=>simp[intOf];omega
   |true=>
    rw[hz]at H;have Ax:=t.out.2.2 a[k] (kV j) (by simpa using hz);cases hh:Em b a[k].s with
    |true=>
     (have p:p7 (zS l (a.take (k+1))=b/\KN b):=by have h:=n.out;simp only[zc,hz,hh,nJ,nZ,k0,if_false]at h;exact h);clear n hz;(go_wp2_with fail);refine(D2 _ b a[k].s d _ f (by omega)).mono ?_;rintro e A ⟨rfl,q⟩;rw[hh,q];clear q A;go_wp2
     go_roundw
     case rel=>exact⟨k+1,b,by go_num,by omega,p,by omega,f,m⟩
     case measure=>simp[intOf];omega
    |false=>
     (have p:p7 (zS l (a.take (k+1))=IP b a[k].s/\KN (IP b a[k].s)):=by have h:=n.out;simp only[zc,hz,hh,mJ,Bool.and_true,if_true]at h;exact h);have W:=Ab r.out.2;clear n hz;(go_wp2_with fail);refine(D2 _ b a[k].s d _ f (by omega)).mono ?_;rintro e A ⟨rfl,q⟩;rw[hh,q];clear q A;(go_wp2_with fail);refine(dY _ b a[k].s d _ f (by omega) Ax W).mono ?_;rintro e w2 ⟨v2,rfl,E,F⟩;have N:=m.trans F;have AB:=Am (base':=d) E (by omega);have C:=OP b a[k].s;have P:=Ab C;clear E F C;go_wp2
     go_roundw
     case rel=>exact⟨k+1,IP b a[k].s,by go_num,by omega,p,by rw[Aa P];omega,AB,N⟩
     case measure=>simp[intOf];omega
  ·(have HE:p7 (zS l a=b):=by have h:=r.out.1;rwa [kX (by omega)]at h);go_wp2;go_ret;rw[HE.out];exact⟨_,rfl,f,m⟩
structure KI(c:A4):Prop where
 body:Z c.bl<=3
 args:Z c.head.args<=2
 lits:∀p∈c.bl,Z p.1.A.args<=2
structure dk(c:A4):Prop where
 head:Yi c.head.args
 body:∀p∈c.bl,Yi (AA p)
def CS(l:pM zA)(x:zA):pM zA:=if Em l x then l else l++[x]
def zD(l:pM zA)(p:Ba):pM zA:=if MF p then CS l p.1.A.name else l
def Ml(l:pM zA)(c:A4):pM zA:=c.bl.foldl zD (CS l c.head.name)
def G2(cs:pM A4):pM zA:=cs.foldl Ml []
def Vb(l:pM zA)(p:Ba):pM zA:=zS l (AA p)
def Kk(l:pM zA)(c:A4):pM zA:=c.bl.foldl Vb (zS l c.head.args)
def D1(cs:pM A4):pM zA:=cs.foldl Kk []
def DI{α β:Type}(f:β->α->β)(b:β){l:pM α}(a:k<Z l):(l.take (k+1)).foldl f b=f ((l.take k).foldl f b) l[k]:=by
 rw[kW a,mi];rfl
theorem Y6(pb:Nat)(lv:p5)(a:pM A4)(w:py)(hP:AF w pb [lv] 76)(hR:Cl w lv a)(HV:Z a<=12)(n:∀c∈a,KI c)(s:∀c∈a,dk c):
  Calls prog 83 #[m2 (V ⟨pb,0,Y⟩)] w λe w'=>∃v,e=oa v/\p9 w' w.heap.size 9 1 v (Z (D1 a)) ((D1 a).flatMap Ah)/\Ac [] w w':=by
 obtain⟨ad,HO,rfl⟩:=Ak hR.row;have H:p7 (Cl w (U ad (Z a) HO) a/\(∀c∈a,KI c)/\(∀c∈a,dk c)):=⟨hR,n,s⟩;clear hR n s;go_enter func83,ntmps83;go_wp2
 go_loopw [3,4] (λo i wr=>∃(k:Nat) (f:pM zA),i=X J k/\k<=Z a/\p7 ((a.take k).foldl Kk []=f/\KN f)/\Z f<=8*k/\p9 wr w.heap.size 9 1 o (Z f) (f.flatMap Ah)/\Ac [] w wr) (λ_ i _=>Z a-(intOf i).toNat)
 case atStart=>exact⟨0,[],rfl,lz _,⟨by simp,by intro y hy;simp at hy⟩,by simp,lH _ _ _ _,pO _ _⟩
 case round=>
  obtain⟨k,f,rfl,hk,D,H2,G,t⟩:=hrel;obtain⟨KB,KA,rfl⟩:=Ak G;have x:=(hP.kept t).cell 0;simp at x;have BS:=t.size;by_cases l:k<Z a
  .have L:=H.out.1.kept t;obtain⟨g,H3,he,hc,DT⟩:=AC L.row (λc _=>B1 c) k l;simp only[kS]at he;obtain⟨rfl,_,rfl⟩:=he;have A0:=DT k l 1 (by omega);simp[Ce]at A0;have q:=L.each a[k] (kV l);have n:=H.out.2.1 a[k] (kV l);have s:=H.out.2.2 a[k] (kV l);obtain⟨KD,Jx,AO⟩:=Ak q.args;obtain⟨HL,HG,EY⟩:=Ak q.body;rw[AO]at A0;have Go:p7 (a[k].bv=U HL a[k].bl.length HG):=EY;have A:=ay _ _ f a[k].head.args w.heap.size _ G q.args BS (by have:=n.args;omega) D.out.2 s.head;rw[AO]at A;have HA:=Ab A;have IA:=n.args;have HW:=n.body;have z:p7 (KI a[k]/\dk a[k]):=⟨n,s⟩;clear DT L q AO EY A n s;(go_wp2_with fail);refine HA.mono ?_;rintro e w1 ⟨v1,rfl,E,B2⟩;have A1:=t.trans B2;have M:=Ab (W9 f a[k].head.args);obtain⟨p,F⟩:=pN (zS f a[k].head.args);rw[F]at E M;have B0:p7 (zS f a[k].head.args=p/\KN p):=⟨F,by rw[<-F];exact TB D.out.2 z.out.2.head⟩;(have HQ:Z p<=8*k+2:=by have:=Aa M;omega);obtain⟨KK,Ix,rfl⟩:=Ak E;clear A0 x G t BS B2 F M HA;go_wp2
   go_loopw [3,5] (λo i R=>∃(m:Nat) (d:pM zA),i=X J m/\m<=a[k].bl.length/\p7 ((a[k].bl.take m).foldl Vb p=d/\KN d)/\Z d<=8*k+2+2*m/\p9 R w.heap.size 9 1 o (Z d) (d.flatMap Ah)/\Ac [] w R) (λ_ i _=>a[k].bl.length-(intOf i).toNat)
   case atStart=>exact⟨0,p,rfl,lz _,⟨by simp,B0.out.2⟩,by omega,E,A1⟩
   case round=>
    rename_i R _;clear E A1;obtain⟨m,d,rfl,hm,u,H7,B,r⟩:=hrel;obtain⟨H9,HP,rfl⟩:=Ak B;have x:=(hP.kept r).cell 0;simp at x;have K1:=r.size;have AB:=H.out.1.kept r;obtain⟨g2,HP,Ha,_,FA⟩:=AC AB.row (λc _=>B1 c) k l;simp only[kS,ld,lW]at Ha;obtain⟨⟨rfl,_,_⟩,_,rfl⟩:=Ha;have P:=FA k l 3 (by omega);simp[Ce]at P;rw[Go.out]at P;have q:=AB.each a[k] (kV l);clear FA AB;by_cases b:m<a[k].bl.length
    .obtain⟨gb,HX,N,IJ,j⟩:=AC q.body (λc _=>BP c) m b;rw[Go.out]at N;simp only[kS]at N;obtain⟨rfl,_,rfl⟩:=N;have S:=q.lits a[k].bl[m] (kV b);obtain⟨KS,H8,Ax⟩:=Ak S;have T:=Ty a[k].bl[m] _ S;simp only[AX,Cj,Ax]at T;have d0:=j m b 0 (by omega);have d1:=j m b 1 (by omega);have I:=j m b 2 (by omega);have d3:=j m b 3 (by omega);have d4:=j m b 4 (by omega);have d5:=j m b 5 (by omega);have d6:=j m b 6 (by omega);have d7:=j m b 7 (by omega);have d8:=j m b 8 (by omega);simp[AX,Cj]at d0 d1 I d3 d4 d5 d6 d7 d8;rw[Ax]at I;have HT:=Ab T;clear j S Ax q T;have JA:Z (AA a[k].bl[m])<=2:=by
      have:=z.out.1.lits a[k].bl[m] (kV b);unfold AA;split
      .exact this
      .simp
     (go_wp2_with fail);refine HT.mono ?_;rintro e w2 ⟨tv,rfl,E0,AH⟩;have Q:=r.trans AH;have EK:=Ad B AH;have HJ:=Q.size;clear d0 d1 I d3 d4 d5 d6 d7 d8 HT x P;(go_wp2_with fail);refine(ay _ _ d (AA a[k].bl[m]) w.heap.size _ EK E0 HJ (by omega) u.out.2 (z.out.2.body _ (kV b))).mono ?_;rintro e w3 ⟨v3,rfl,CC,EX⟩;have HH:=Q.trans EX;have W:=Ab (W9 d (AA a[k].bl[m]));have FW:p7 ((a[k].bl.take (m+1)).foldl Vb p=zS d (AA a[k].bl[m])/\KN (zS d (AA a[k].bl[m]))):=
      ⟨by rw[DI _ _ b,u.out.1];rfl,TB u.out.2 (z.out.2.body _ (kV b))⟩
     obtain⟨C,FT⟩:=pN (zS d (AA a[k].bl[m]));rw[FT]at CC W FW;(have HC:Z C<=8*k+2+2*(m+1):=by have:=Aa W;omega);clear r B EK E0 AH EX Q FT W;go_wp2
     go_roundw
     case rel=>exact⟨m+1,C,by go_num,by omega,FW,HC,CC,HH⟩
     case measure=>simp[intOf];omega
    .have HZ:p7 ((a.take (k+1)).foldl Kk []=d/\KN d):=by
      have h:=u.out.1;rw[kX (by omega)]at h;refine⟨?_,u.out.2⟩;rw[DI _ _ l,D.out.1,<-h];unfold Kk;rw[B0.out.1]
     go_wp2
     go_roundw
     case rel=>exact⟨k+1,d,by go_num,by omega,HZ,by omega,B,r⟩
     case measure=>simp[intOf];omega
  ·(have HE:p7 (D1 a=f):=by have h:=D.out.1;rwa [kX (by omega)]at h);go_wp2;go_ret;rw[HE.out];exact⟨_,rfl,G,t⟩
def Jr(w:py)(o:Obj)(a:Array p5)(t:TypeId)(l:pM p5)(b:l=a.toList):∀j u,l[j]?=V u->p8 ((w.alloc o).alloc (j3 a t)) ((⟨w.heap.size+1,0,Y⟩:Addr).add j)=V u:=by
 subst b;have h:=lP (w.alloc o) (j3 a t);rw[lT]at h;exact lI h
theorem cW(pb:Nat)(lv:p5)(cs:pM A4)(w:py)(hP:AF w pb [lv] 76)(hR:Cl w lv cs)(KB:Z cs<=12)(A2:∀c∈cs,KI c):
  Calls prog 22 #[m2 (V ⟨pb,0,Y⟩)] w λe w'=>∃v,e=oa v/\p9 w' w.heap.size 9 1 v (Z (G2 cs)) ((G2 cs).flatMap Ah)/\Ac [] w w':=by
 obtain⟨i0,CL,Bx,EM,B9⟩:=mg Tryz.zo;obtain⟨ad,JA,rfl⟩:=Ak hR.row;have HR:p7 (Cl w (U ad (Z cs) JA) cs/\(∀c∈cs,KI c)):=⟨hR,A2⟩;clear hR A2;have K3:∀(x:Bool) (w:py),(Op.unary .not (pE x)).run prog w=.ok (pE (!x)) w:=λ_ _=>rfl
 go_enter func22,ntmps22;go_wp2
 go_loopw [3,4] (λo i wr=>∃(k:Nat) (f:pM zA),i=X J k/\k<=Z cs/\p7 ((cs.take k).foldl Ml []=f)/\Z f<=4*k/\p9 wr w.heap.size 9 1 o (Z f) (f.flatMap Ah)/\Ac [] w wr) (λ_ i _=>Z cs-(intOf i).toNat)
 case atStart=>exact⟨0,[],rfl,lz _,by show _=_;simp,by simp,lH _ _ _ _,pO _ _⟩
 case round=>
  obtain⟨k,f,rfl,hk,HF,KS,G,I⟩:=hrel;obtain⟨H0,HX,rfl⟩:=Ak G;have S:=(hP.kept I).cell 0;simp at S;have HK:=I.size;by_cases B:k<Z cs
  .have FC:=HR.out.1.kept I;obtain⟨g,K1,he,hc,HN⟩:=AC FC.row (λc _=>B1 c) k B;simp only[kS]at he;obtain⟨rfl,_,rfl⟩:=he;have HB:=HN k B 0 (by omega);simp[Ce]at HB;have E:=FC.each cs[k] (kV B);have A2:=HR.out.2 cs[k] (kV B);obtain⟨IA,H6,HQ⟩:=Ak E.body;have E0:p7 (cs[k].bv=U IA cs[k].bl.length H6):=HQ;have KD:=A2.body;clear HN FC E HQ A2;(have JJ:∀(b:pM zA) (v1:p5) (w1:py),p7 (CS f cs[k].head.name=b)->Z b<=4*k+1->p9 w1 w.heap.size 9 1 v1 (Z b) (b.flatMap Ah)->Ac [] w w1->True:=λ_ _ _ _ _ _ _=>trivial);clear JJ;cases hh:Em f cs[k].head.name with
   |true=>
    (have P:p7 (CS f cs[k].head.name=f):=by show _=_;simp[CS,hh]);(go_wp2_with fail);refine(D2 _ f cs[k].head.name w.heap.size _ G (by omega)).mono ?_;rintro e z ⟨rfl,d⟩;rw[hh,d];clear d z hh;have F:=G;have A1:=I;(have A0:Z f<=4*k+1:=by omega);go_wp2;obtain⟨b,P,F,A0⟩:∃b,p7 (CS f cs[k].head.name=b)/\p9 wr w.heap.size 9 1 (U H0 (Z f) HX) (Z b) (b.flatMap Ah)/\Z b<=4*k+1:=⟨f,P,F,A0⟩;clear HB S G I HK
    go_loopw [3,5] (λo i wq=>∃(m:Nat) (a:pM zA),i=X J m/\m<=cs[k].bl.length/\p7 ((cs[k].bl.take m).foldl zD b=a)/\Z a<=4*k+1+m/\p9 wq w.heap.size 9 1 o (Z a) (a.flatMap Ah)/\Ac [] w wq) (λ_ i _=>cs[k].bl.length-(intOf i).toNat)
    case atStart=>exact⟨0,b,rfl,lz _,by show _=_;simp,by omega,F,A1⟩
    case round=>
     clear F A1;obtain⟨m,a,rfl,hm,HM,Ix,C,u⟩:=hrel;obtain⟨BT,ES,rfl⟩:=Ak C;have S:=(hP.kept u).cell 0;simp at S;have KA:=u.size;have W:=HR.out.1.kept u;obtain⟨g2,H7,EX,_,B2⟩:=AC W.row (λc _=>B1 c) k B;simp only[kS,ld,lW]at EX;obtain⟨⟨rfl,_,_⟩,_,rfl⟩:=EX;have BS:=B2 k B 3 (by omega);simp[Ce]at BS;rw[E0.out]at BS;have E:=W.each cs[k] (kV B);clear B2 W;by_cases j:m<cs[k].bl.length
     .obtain⟨gb,H3,Q,IS,p⟩:=AC E.body (λc _=>BP c) m j;rw[E0.out]at Q;simp only[kS]at Q;obtain⟨rfl,_,rfl⟩:=Q;have hl:=E.lits cs[k].bl[m] (kV j);obtain⟨HI,HA,EK⟩:=Ak hl;have d0:=p m j 0 (by omega);have d1:=p m j 1 (by omega);have d2:=p m j 2 (by omega);have d3:=p m j 3 (by omega);have d4:=p m j 4 (by omega);have d5:=p m j 5 (by omega);have d6:=p m j 6 (by omega);have d7:=p m j 7 (by omega);have d8:=p m j 8 (by omega);simp[AX,Cj]at d0 d1 d2 d3 d4 d5 d6 d7 d8;rw[EK]at d2;clear p hl EK E;(have n:p7 ((cs[k].bl.take (m+1)).foldl zD b=zD a cs[k].bl[m]):=by show _=_;rw[DI _ _ j,HM.out]);have r:=C.alloc (j3 #[X .u8 cs[k].bl[m].1.kind.toNat,O cs[k].bl[m].1.A.name,U HI cs[k].bl[m].1.A.args.length HA,X J cs[k].bl[m].1.A.at_,X .u8 cs[k].bl[m].1.L.v.toNat,O cs[k].bl[m].1.L.s,X .u8 cs[k].bl[m].1.R.v.toNat,O cs[k].bl[m].1.R.s,X J cs[k].bl[m].1.at_] 95);rcases Ee cs[k].bl[m] with⟨k1,l⟩|⟨k1,k2,l⟩|⟨k1,k2,l⟩
      .cases hh2:Em a cs[k].bl[m].1.A.name with
       |true=>
        (have y:p7 ((cs[k].bl.take (m+1)).foldl zD b=a):=by show _=_;rw[n.out];simp[zD,CS,l,hh2]);clear n l;(go_wp2_with fail);refine(D2 _ a cs[k].bl[m].1.A.name w.heap.size _ r (by omega)).mono ?_;rintro e z ⟨rfl,d⟩;rw[hh2,d];clear d z hh2;go_wp2
        go_roundw
        case rel=>exact⟨m+1,a,by go_num,by omega,y,by omega,r,u.alloc _⟩
        case measure=>simp[intOf];omega
       |false=>
        (have y:p7 ((cs[k].bl.take (m+1)).foldl zD b=a++[cs[k].bl[m].1.A.name]):=by show _=_;rw[n.out];simp[zD,CS,l,hh2]);clear n l;(go_wp2_with fail);refine(D2 _ a cs[k].bl[m].1.A.name w.heap.size _ r (by omega)).mono ?_;rintro e z ⟨rfl,d⟩;rw[hh2,d];clear d z hh2;go_wp2_with (at_builtin;refine lG _ rfl (.tmp 80) (.tmp 84) _ rfl w.heap.size 9 i0 _ 1 16 underlying41 CL Bx EM B9 rfl (by omega) (U BT (Z a) ES) (Z a) (a.flatMap Ah) rfl (r.alloc _) ⟨wr.heap.size+1,0,Y⟩ 1 1 [O cs[k].bl[m].1.A.name] rfl rfl (Jr wr _ _ _ _ rfl) (by simp[Value.oneCell']) (by omega) (by unfold maxLen;omega) (by omega) (by simp;omega) (wr.heap.size+2) (by simp) ?_;intro g5 HC w5 M D N T)
        have Ax:Ac [] w w5:=((u.alloc _).alloc _).grown D (λq H=>oj (C.lt q H).1);clear D N T;go_wp2
        go_roundw
        case rel=>
         refine⟨m+1,a++[cs[k].bl[m].1.A.name],by go_num,by omega,y,by simp;omega,?_,Ax⟩;simpa[Ah] using M
        case measure=>simp[intOf];omega
      .cases hh2:Em a cs[k].bl[m].1.A.name with
       |true=>
        (have y:p7 ((cs[k].bl.take (m+1)).foldl zD b=a):=by show _=_;rw[n.out];simp[zD,CS,l,hh2]);clear n l;(go_wp2_with fail);refine(D2 _ a cs[k].bl[m].1.A.name w.heap.size _ r (by omega)).mono ?_;rintro e z ⟨rfl,d⟩;rw[hh2,d];clear d z hh2;go_wp2
        go_roundw
        case rel=>exact⟨m+1,a,by go_num,by omega,y,by omega,r,u.alloc _⟩
        case measure=>simp[intOf];omega
       |false=>
        (have y:p7 ((cs[k].bl.take (m+1)).foldl zD b=a++[cs[k].bl[m].1.A.name]):=by show _=_;rw[n.out];simp[zD,CS,l,hh2]);clear n l;(go_wp2_with fail);refine(D2 _ a cs[k].bl[m].1.A.name w.heap.size _ r (by omega)).mono ?_;rintro e z ⟨rfl,d⟩;rw[hh2,d];clear d z hh2;go_wp2_with (at_builtin;refine lG _ rfl (.tmp 80) (.tmp 84) _ rfl w.heap.size 9 i0 _ 1 16 underlying41 CL Bx EM B9 rfl (by omega) (U BT (Z a) ES) (Z a) (a.flatMap Ah) rfl (r.alloc _) ⟨wr.heap.size+1,0,Y⟩ 1 1 [O cs[k].bl[m].1.A.name] rfl rfl (Jr wr _ _ _ _ rfl) (by simp[Value.oneCell']) (by omega) (by unfold maxLen;omega) (by omega) (by simp;omega) (wr.heap.size+2) (by simp) ?_;intro g5 HC w5 M D N T)
        have Ax:Ac [] w w5:=((u.alloc _).alloc _).grown D (λq H=>oj (C.lt q H).1);clear D N T;go_wp2
        go_roundw
        case rel=>
         refine⟨m+1,a++[cs[k].bl[m].1.A.name],by go_num,by omega,y,by simp;omega,?_,Ax⟩;simpa[Ah] using M
        case measure=>simp[intOf];omega
      ·(have y:p7 ((cs[k].bl.take (m+1)).foldl zD b=a):=by show _=_;rw[n.out];simp[zD,l]);clear n l;go_wp2
       go_roundw
       case rel=>exact⟨m+1,a,by go_num,by omega,y,by omega,r,u.alloc _⟩
       case measure=>simp[intOf];omega
     .have HZ:p7 ((cs.take (k+1)).foldl Ml []=a):=by
       have h:=HM.out;rw[kX (by omega)]at h;show _=_;rw[DI _ _ B,HF.out,<-h];unfold Ml;rw[P.out]
      go_wp2
      go_roundw
      case rel=>exact⟨k+1,a,by go_num,by omega,HZ,by omega,C,u⟩
      case measure=>simp[intOf];omega
   |false=>
    (have P:p7 (CS f cs[k].head.name=f++[cs[k].head.name]):=by show _=_;simp[CS,hh]);(go_wp2_with fail);refine(D2 _ f cs[k].head.name w.heap.size _ G (by omega)).mono ?_;rintro e z ⟨rfl,d⟩;rw[hh,d];clear d z hh;go_wp2_with (at_builtin;refine lG _ rfl (.tmp 28) (.tmp 38) _ rfl w.heap.size 9 i0 _ 1 16 underlying41 CL Bx EM B9 rfl (by omega) (U H0 (Z f) HX) (Z f) (f.flatMap Ah) rfl (G.alloc _) ⟨wr.heap.size,0,Y⟩ 1 1 [O cs[k].head.name] rfl rfl (lI (lP wr _)) (by simp[Value.oneCell']) (by omega) (by unfold maxLen;omega) (by omega) (by simp;omega) (wr.heap.size+1) (by simp) ?_;intro g1 HL w1 HU HO H1 H4)
    have A1:Ac [] w w1:=(I.alloc _).grown HO (λq H=>oj (G.lt q H).1);(have F:p9 w1 w.heap.size 9 1 (U (V ⟨g1,0,Y⟩) (Z f+1) HL) (Z (f++[cs[k].head.name])) ((f++[cs[k].head.name]).flatMap Ah):=by simpa[Ah] using HU);(have A0:Z (f++[cs[k].head.name])<=4*k+1:=by simp;omega);clear HO H1 H4 HU;go_wp2;obtain⟨b,P,F,A0⟩:∃b,p7 (CS f cs[k].head.name=b)/\p9 w1 w.heap.size 9 1 (U (V ⟨g1,0,Y⟩) (Z f+1) HL) (Z b) (b.flatMap Ah)/\Z b<=4*k+1:=⟨_,P,F,A0⟩;clear HB S G I HK
    go_loopw [3,5] (λo i wq=>∃(m:Nat) (a:pM zA),i=X J m/\m<=cs[k].bl.length/\p7 ((cs[k].bl.take m).foldl zD b=a)/\Z a<=4*k+1+m/\p9 wq w.heap.size 9 1 o (Z a) (a.flatMap Ah)/\Ac [] w wq) (λ_ i _=>cs[k].bl.length-(intOf i).toNat)
    case atStart=>exact⟨0,b,rfl,lz _,by show _=_;simp,by omega,F,A1⟩
    case round=>
     clear F A1;obtain⟨m,a,rfl,hm,HM,Ix,C,u⟩:=hrel;obtain⟨BT,ES,rfl⟩:=Ak C;have S:=(hP.kept u).cell 0;simp at S;have KA:=u.size;have W:=HR.out.1.kept u;obtain⟨g2,H7,EX,_,B2⟩:=AC W.row (λc _=>B1 c) k B;simp only[kS,ld,lW]at EX;obtain⟨⟨rfl,_,_⟩,_,rfl⟩:=EX;have BS:=B2 k B 3 (by omega);simp[Ce]at BS;rw[E0.out]at BS;have E:=W.each cs[k] (kV B);clear B2 W;by_cases j:m<cs[k].bl.length
     .obtain⟨gb,H3,Q,IS,p⟩:=AC E.body (λc _=>BP c) m j;rw[E0.out]at Q;simp only[kS]at Q;obtain⟨rfl,_,rfl⟩:=Q;have hl:=E.lits cs[k].bl[m] (kV j);obtain⟨HI,HA,EK⟩:=Ak hl;have d0:=p m j 0 (by omega);have d1:=p m j 1 (by omega);have d2:=p m j 2 (by omega);have d3:=p m j 3 (by omega);have d4:=p m j 4 (by omega);have d5:=p m j 5 (by omega);have d6:=p m j 6 (by omega);have d7:=p m j 7 (by omega);have d8:=p m j 8 (by omega);simp[AX,Cj]at d0 d1 d2 d3 d4 d5 d6 d7 d8;rw[EK]at d2;clear p hl EK E;(have n:p7 ((cs[k].bl.take (m+1)).foldl zD b=zD a cs[k].bl[m]):=by show _=_;rw[DI _ _ j,HM.out]);have r:=C.alloc (j3 #[X .u8 cs[k].bl[m].1.kind.toNat,O cs[k].bl[m].1.A.name,U HI cs[k].bl[m].1.A.args.length HA,X J cs[k].bl[m].1.A.at_,X .u8 cs[k].bl[m].1.L.v.toNat,O cs[k].bl[m].1.L.s,X .u8 cs[k].bl[m].1.R.v.toNat,O cs[k].bl[m].1.R.s,X J cs[k].bl[m].1.at_] 95);rcases Ee cs[k].bl[m] with⟨k1,l⟩|⟨k1,k2,l⟩|⟨k1,k2,l⟩
      .cases hh2:Em a cs[k].bl[m].1.A.name with
       |true=>
        (have y:p7 ((cs[k].bl.take (m+1)).foldl zD b=a):=by show _=_;rw[n.out];simp[zD,CS,l,hh2]);clear n l;(go_wp2_with fail);refine(D2 _ a cs[k].bl[m].1.A.name w.heap.size _ r (by omega)).mono ?_;rintro e z ⟨rfl,d⟩;rw[hh2,d];clear d z hh2;go_wp2
        go_roundw
        case rel=>exact⟨m+1,a,by go_num,by omega,y,by omega,r,u.alloc _⟩
        case measure=>simp[intOf];omega
       |false=>
        (have y:p7 ((cs[k].bl.take (m+1)).foldl zD b=a++[cs[k].bl[m].1.A.name]):=by show _=_;rw[n.out];simp[zD,CS,l,hh2]);clear n l;(go_wp2_with fail);refine(D2 _ a cs[k].bl[m].1.A.name w.heap.size _ r (by omega)).mono ?_;rintro e z ⟨rfl,d⟩;rw[hh2,d];clear d z hh2;go_wp2_with (at_builtin;refine lG _ rfl (.tmp 80) (.tmp 84) _ rfl w.heap.size 9 i0 _ 1 16 underlying41 CL Bx EM B9 rfl (by omega) (U BT (Z a) ES) (Z a) (a.flatMap Ah) rfl (r.alloc _) ⟨wr.heap.size+1,0,Y⟩ 1 1 [O cs[k].bl[m].1.A.name] rfl rfl (Jr wr _ _ _ _ rfl) (by simp[Value.oneCell']) (by omega) (by unfold maxLen;omega) (by omega) (by simp;omega) (wr.heap.size+2) (by simp) ?_;intro g5 HC w5 M D N T)
        have Ax:Ac [] w w5:=((u.alloc _).alloc _).grown D (λq H=>oj (C.lt q H).1);clear D N T;go_wp2
        go_roundw
        case rel=>
         refine⟨m+1,a++[cs[k].bl[m].1.A.name],by go_num,by omega,y,by simp;omega,?_,Ax⟩;simpa[Ah] using M
        case measure=>simp[intOf];omega
      .cases hh2:Em a cs[k].bl[m].1.A.name with
       |true=>
        (have y:p7 ((cs[k].bl.take (m+1)).foldl zD b=a):=by show _=_;rw[n.out];simp[zD,CS,l,hh2]);clear n l;(go_wp2_with fail);refine(D2 _ a cs[k].bl[m].1.A.name w.heap.size _ r (by omega)).mono ?_;rintro e z ⟨rfl,d⟩;rw[hh2,d];clear d z hh2;go_wp2
        go_roundw
        case rel=>exact⟨m+1,a,by go_num,by omega,y,by omega,r,u.alloc _⟩
        case measure=>simp[intOf];omega
       |false=>
        (have y:p7 ((cs[k].bl.take (m+1)).foldl zD b=a++[cs[k].bl[m].1.A.name]):=by show _=_;rw[n.out];simp[zD,CS,l,hh2]);clear n l;(go_wp2_with fail);refine(D2 _ a cs[k].bl[m].1.A.name w.heap.size _ r (by omega)).mono ?_;rintro e z ⟨rfl,d⟩;rw[hh2,d];clear d z hh2;go_wp2_with (at_builtin;refine lG _ rfl (.tmp 80) (.tmp 84) _ rfl w.heap.size 9 i0 _ 1 16 underlying41 CL Bx EM B9 rfl (by omega) (U BT (Z a) ES) (Z a) (a.flatMap Ah) rfl (r.alloc _) ⟨wr.heap.size+1,0,Y⟩ 1 1 [O cs[k].bl[m].1.A.name] rfl rfl (Jr wr _ _ _ _ rfl) (by simp[Value.oneCell']) (by omega) (by unfold maxLen;omega) (by omega) (by simp;omega) (wr.heap.size+2) (by simp) ?_;intro g5 HC w5 M D N T)
        have Ax:Ac [] w w5:=((u.alloc _).alloc _).grown D (λq H=>oj (C.lt q H).1);clear D N T;go_wp2
        go_roundw
        case rel=>
         refine⟨m+1,a++[cs[k].bl[m].1.A.name],by go_num,by omega,y,by simp;omega,?_,Ax⟩;simpa[Ah] using M
        case measure=>simp[intOf];omega
      ·(have y:p7 ((cs[k].bl.take (m+1)).foldl zD b=a):=by show _=_;rw[n.out];simp[zD,l]);clear n l;go_wp2
       go_roundw
       case rel=>exact⟨m+1,a,by go_num,by omega,y,by omega,r,u.alloc _⟩
       case measure=>simp[intOf];omega
     .have HZ:p7 ((cs.take (k+1)).foldl Ml []=a):=by
       have h:=HM.out;rw[kX (by omega)]at h;show _=_;rw[DI _ _ B,HF.out,<-h];unfold Ml;rw[P.out]
      go_wp2
      go_roundw
      case rel=>exact⟨k+1,a,by go_num,by omega,HZ,by omega,C,u⟩
      case measure=>simp[intOf];omega
  ·(have HE:p7 (G2 cs=f):=by have h:=HF.out;rwa [kX (by omega)]at h);go_wp2;go_ret;rw[HE.out];exact⟨_,rfl,G,I⟩
def NZ(x:zA)(l:pM zA)(c:A4):pM zA:=if c.head.name.toList==x.toList then c.bl.foldl zD l else l
def NJ(cs:pM A4)(l:pM zA)(x:zA):pM zA:=cs.foldl (NZ x) l
def D4(cs:pM A4):pM zA:=cs.flatMap λc=>(c.bl.filter MF).map λp=>p.1.A.name
def Qw(cs:pM A4)(l:pM zA):Nat:=(D4 cs).countP λx=> !Em l x
def Bd(cs:pM A4)(l:pM zA):Prop:=Z l+Qw cs l<=1+Z (D4 cs)
def Kv:Nat->pM A4->zA->pM zA->Nat->Bool
 |0,_,_,_,_=>K
 |f+1,cs,to,l,n=>if h:n<Z l then(if l[n].toList==to.toList then jj else Kv f cs to (NJ cs l l[n]) (n+1))else K
def Hw(cs:pM A4)(frm to:zA):Bool:=Kv (2+Z (D4 cs)) cs to [frm] 0
def PF(l:pM zA)(x:zA):∀(m:pM zA),(m.countP λy=> !Em (l++[x]) y)<=m.countP λy=> !Em l y
 |[]=>by simp
 |y::m=>by
  have ih:=PF l x m;simp only[List.countP_cons];have:(!Em (l++[x]) y)=jj->(!Em l y)=jj:=by
   rw[LO];cases Em l y<;>simp
  cases h1:(!Em (l++[x]) y)with
  |true=>simp only[this h1,if_true];omega
  |false=>simp only[k0,if_false];omega
def JS(l:pM zA)(x:zA)(b:Em l x=K):∀(m:pM zA),x∈m->(m.countP λy=> !Em (l++[x]) y)+1<=m.countP λy=> !Em l y
 |[],h=>by simp at h
 |y::m,h=>by
  simp only[List.countP_cons];by_cases c:y=x
  .subst c;have a:=PF l y m;(have d:Em (l++[y]) y=jj:=by rw[LO];simp);simp only[d,b,nJ,mJ,if_true,k0,if_false];omega
  .have ih:=JS l x b m (by rcases kZ.1 h with h|h;exact absurd h.symm c;exact h);have:(!Em (l++[x]) y)=jj->(!Em l y)=jj:=by
    rw[LO];cases Em l y<;>simp
   cases a:(!Em (l++[x]) y)with
   |true=>simp only[this a,if_true];omega
   |false=>simp only[k0,if_false];omega
def eU{a:pM A4}{c:A4}{p:Ba}(i:c∈a)(b:p∈c.bl)(h:Bd a e):Bd a (zD e p):=by
 unfold zD CS;split
 .rename_i g;split
  .exact h
  .rename_i j;(have f:Em e p.1.A.name=K:=by simpa using j);have d:p.1.A.name∈D4 a:=by
    unfold D4;rw[ma];exact⟨c,i,lk.2 ⟨p,lK.2 ⟨b,g⟩,rfl⟩⟩
   have:=JS e p.1.A.name f (D4 a) d;unfold Bd Qw at h⊢;simp only[lu,lj,lO];omega
 .exact h
def cX(l:pM zA)(p:Ba):∃a,zD l p=l++a:=by
 unfold zD CS;split
 .split
  .exact⟨[],by simp⟩
  .exact⟨[_],rfl⟩
 .exact⟨[],by simp⟩
structure E1(cs:pM A4)(l l2:pM zA):Prop where
 pre:∃suf,l2=l++suf
 bd:Bd cs l2
def E1.zD{a:pM A4}{l d:pM zA}(h:E1 a l d){c:A4}{p:Ba}(i:c∈a)(e:p∈c.bl):E1 a l (zD d p):=by
 obtain⟨⟨b,rfl⟩,g⟩:=h;obtain⟨s2,f⟩:=cX (l++b) p;exact⟨⟨b++s2,by rw[f,mo]⟩,eU i e g⟩
variable{c:pM A4}
def E1.at{l a:pM zA}(h:E1 c l a)(b:n<Z l):∃d:n<Z a,a[n]=l[n]:=by
 obtain⟨⟨e,rfl⟩,_⟩:=h;exact⟨by simp;omega,mB b⟩
def E1.len{l a:pM zA}(h:E1 c l a):Z l<=Z a/\Z a<=1+Z (D4 c):=by
 obtain⟨⟨d,rfl⟩,b⟩:=h;unfold Bd at b;exact⟨by simp,by omega⟩
theorem VD(pb:Nat)(lv:p5)(a:pM A4)(P H:zA)(w:py)(hP:AF w pb [lv] 76)(hR:Cl w lv a)(M6:Z a<=1000000)(H5:∀c∈a,Z c.bl<=1000000)(MY:Z (D4 a)<=900000):
  Calls prog 85 #[m2 (V ⟨pb,0,Y⟩),O P,O H] w λe w'=>e=oa (pE (Hw a P H))/\Ac [] w w':=by
 obtain⟨i0,Jx,HY,FB,EY⟩:=mg Tryz.zo;obtain⟨ad,HO,rfl⟩:=Ak hR.row;obtain⟨R,Ha⟩:=pN (Hw a P H);rw[Ha];have HR:p7 (Cl w (U ad (Z a) HO) a/\(∀c∈a,Z c.bl<=1000000)/\Hw a P H=R):=⟨hR,H5,Ha⟩;obtain⟨A,hA⟩:=pN (Z (D4 a));rw[hA]at MY;have HA:=Ab hA;clear hR H5 Ha hA;have NY:∀(x:Bool) (w:py),(Op.unary .not (pE x)).run prog w=.ok (pE (!x)) w:=λ_ _=>rfl
 go_enter func85,ntmps85;go_wp2
 go_loopg [7,8] (1+A) (λgk o i wr=>∃(n:Nat) (l:pM zA),i=X J n/\n<=Z l/\Z l<=1+A/\gk=1+A-n/\p7 (Bd a l/\Kv (2+A-n) a H l n=R)/\p9 wr w.heap.size 9 1 o (Z l) (l.flatMap Ah)/\Ac [] w wr)
 case atStart=>
  refine⟨0,[P],rfl,by simp,by simp,by simp,⟨?_,?_⟩,?_,(pO _ _).alloc _⟩
  .unfold Bd Qw;have:=pq (p:=λx=> !Em [P] x) (l:=D4 a);simp only[lj,lO];omega
  .have h:=HR.out.2.2;unfold Hw at h;rw[Aa HA]at h;exact h
  .exact⟨rfl,oj ⟨_,1,#[O P],rfl,lC _,lP w _,by simp,by unfold maxLen;omega,rfl,by simp[Ah]⟩⟩
 case round=>
  obtain⟨n,l,rfl,hn,hl,KB,HB,FA,hK⟩:=hrel;have HG:p7 (gk=1+A-n):=KB;clear KB;obtain⟨Os,N4,rfl⟩:=Ak FA;by_cases AH:n<Z l
  .obtain⟨g,NA,he,hc,H1⟩:=AC FA (λc _=>rfl) n AH;simp only[kS]at he;obtain⟨rfl,_,rfl⟩:=he;have G:=H1 n AH 0 (by omega);simp[Ah]at G;clear H1;obtain⟨x,hx⟩:=pN (l[n]);rw[hx]at G;cases hto:(x.toList==H.toList)with
   |true=>
    have MN:p7 (R=jj):=by
     have h:=HB.out.2;rw[show 2+A-n=(1+A-n)+1 by omega,Kv,dif_pos AH,hx,hto]at h;exact h.symm
    clear hx;go_wp2;go_ret;rw[MN.out];exact⟨rfl,hK⟩
   |false=>
    have KD:p7 (Kv (2+A-(n+1)) a H (NJ a l x) (n+1)=R/\l[n]=x):=by
     have h:=HB.out.2;rw[show 2+A-n=(2+A-(n+1))+1 by omega,Kv,dif_pos AH,hx,hto]at h;exact⟨h,hx⟩
    have HX:p7 (E1 a l l):=⟨⟨[],by simp⟩,HB.out.1⟩;clear hx HB;go_wp2;clear G hto
    go_loopw [7,9] (λo i Q=>∃(k:Nat) (d:pM zA),i=X J k/\k<=Z a/\p7 ((a.take k).foldl (NZ x) l=d/\E1 a l d)/\p9 Q w.heap.size 9 1 o (Z d) (d.flatMap Ah)/\Ac [] w Q) (λ_ i _=>Z a-(intOf i).toNat)
    case atStart=>exact⟨0,l,rfl,lz _,⟨by simp,HX.out⟩,FA,hK⟩
    case round=>
     clear FA hK HX;obtain⟨k,d,rfl,hk,HM,I,C⟩:=hrel;obtain⟨NX,M1,rfl⟩:=Ak I;have Ix:=(hP.kept C).cell 0;simp at Ix;by_cases u:k<Z a
     .have HL:=HR.out.1.kept C;obtain⟨gp,NV,IA,_,MB⟩:=AC HL.row (λc _=>B1 c) k u;simp only[kS]at IA;obtain⟨rfl,_,rfl⟩:=IA;have A0:=HL.each a[k] (kV u);have OB:=HR.out.2.1 a[k] (kV u);obtain⟨LC,H0,H7⟩:=Ak A0.body;have KS:=Ab H7;clear MB HL A0 H7 Ix;have Ax:p7 (∀(N:py) (o:p5) (b:pM zA),Ac [] w N->p9 N w.heap.size 9 1 o (Z b) (b.flatMap Ah)->E1 a l b->
        p8 N ⟨pb,0,Y⟩=V (U (V ⟨gp,0,Y⟩) (Z a) HO)/\p8 N ⟨gp,k*5,Y⟩=V (O a[k].head.name)/\p8 N ⟨gp,k*5+3,Y⟩=V (U LC a[k].bl.length H0)/\
        ∃F S,o=U (V ⟨F,0,Y⟩) (Z b) S/\n<Z b/\p8 N ⟨F,n,Y⟩=V (O x)):=by
       intro N o b KK K4 M2;have h1:=(hP.kept KK).cell 0;have K3:=HR.out.1.kept KK;obtain⟨g2,c2,K1,_,H8⟩:=AC K3.row (λc _=>B1 c) k u;simp only[kS,ld,lW]at K1;obtain⟨⟨rfl,_,_⟩,_,rfl⟩:=K1;have h2:=H8 k u 0 (by omega);have h3:=H8 k u 3 (by omega);simp[Ce]at h1 h2 h3;rw[Aa KS]at h3;obtain⟨Bx,K7⟩:=M2.at AH;obtain⟨F,S,W,_,M0⟩:=AC K4 (λc _=>rfl) n Bx;have h4:=M0 n Bx 0 (by omega);simp[Ah]at h4;rw[K7,KD.out.2]at h4;exact⟨h1,h2,h3,F,S,W,Bx,h4⟩
      cases hnm:(a[k].head.name.toList==x.toList)with
      |false=>
       have E:p7 ((a.take (k+1)).foldl (NZ x) l=d/\E1 a l d):=⟨by rw[DI _ _ u,HM.out.1];simp[NZ,hnm],HM.out.2⟩;obtain⟨f1,f2,f3,F,S,W,Bx,f4⟩:=Ax.out _ _ _ C I E.out.2;simp only[kS]at W;obtain⟨rfl,_,rfl⟩:=W;clear Ax;(have K8:(k:Int)<(Z a:Int):=by omega);(have K9:(n:Int)<(Z d:Int):=by omega);go_wp2
       go_loopw [7,10] (λo i Q=>o=U (V ⟨F,0,Y⟩) (Z d) M1/\i=X J 0/\∃q,Q=wr.drewN q) (λ_ _ _=>0)
       case atStart=>exact⟨rfl,rfl,0,rfl⟩
       case round=>
        obtain⟨rfl,rfl,q,rfl⟩:=hrel;go_wp2_with fail
        go_quiet (fail)
        go_wp2_with fail
        go_roundw
        case rel=>exact⟨k+1,d,by go_num,by omega,E,DC I _,C.drewN _⟩
        case measure=>simp[intOf];omega
      |true=>
       (have M3:p7 ((a.take (k+1)).foldl (NZ x) l=a[k].bl.foldl zD d):=by show _=_;rw[DI _ _ u,HM.out.1];simp[NZ,hnm]);have H9:=Ab HM.out.2;(have K8:(k:Int)<(Z a:Int):=by omega);obtain⟨f1,_⟩:=Ax.out _ _ _ C I H9;go_wp2;clear f1
       go_loopw [7,10] (λo i Q=>∃(m:Nat) (b:pM zA),i=X J m/\m<=a[k].bl.length/\p7 ((a[k].bl.take m).foldl zD d=b/\E1 a l b)/\p9 Q w.heap.size 9 1 o (Z b) (b.flatMap Ah)/\Ac [] w Q) (λ_ i _=>a[k].bl.length-(intOf i).toNat)
       case atStart=>exact⟨0,d,rfl,lz _,⟨by simp,H9⟩,I,C⟩
       case round=>
        clear I;have NB:=Ab C;clear C;obtain⟨m,b,rfl,hm,HN,EK,AO⟩:=hrel;obtain⟨f1,f2,f3,F,S,W,Bx,f4⟩:=Ax.out _ _ _ AO EK HN.out.2;subst W;(have K9:(n:Int)<(Z b:Int):=by omega);(have NN:Z b<=1+A:=by have:=HN.out.2.len.2;rw[Aa HA]at this;exact this);have LE:=AO.size;by_cases j:m<a[k].bl.length
        ·(have NM:(m:Int)<(a[k].bl.length:Int):=by omega);(have LL:decide ((m:Int)<(a[k].bl.length:Int))=jj:=by simp;omega);have A0:=(HR.out.1.kept AO).each a[k] (kV u);obtain⟨f,Nj,HE,N0,z⟩:=AC A0.body (λc _=>BP c) m j;rw[Aa KS]at HE;simp only[kS]at HE;obtain⟨rfl,_,rfl⟩:=HE;have hl:=A0.lits a[k].bl[m] (kV j);obtain⟨HP,HF,JJ⟩:=Ak hl;have G:=z m j 0 (by omega);have d1:=z m j 1 (by omega);have d2:=z m j 2 (by omega);have d3:=z m j 3 (by omega);have d4:=z m j 4 (by omega);have d5:=z m j 5 (by omega);have d6:=z m j 6 (by omega);have d7:=z m j 7 (by omega);have d8:=z m j 8 (by omega);simp[AX,Cj]at G d1 d2 d3 d4 d5 d6 d7 d8;rw[JJ]at d2;have HD:p7 (p8 wr ⟨f,m*9,Y⟩=V (X .u8 a[k].bl[m].1.kind.toNat)/\p8 wr ⟨f,m*9+1,Y⟩=V (O a[k].bl[m].1.A.name)/\p8 wr ⟨f,m*9+2,Y⟩=V (U HP a[k].bl[m].1.A.args.length HF)/\p8 wr ⟨f,m*9+3,Y⟩=V (X J a[k].bl[m].1.A.at_)/\p8 wr ⟨f,m*9+4,Y⟩=V (X .u8 a[k].bl[m].1.L.v.toNat)/\p8 wr ⟨f,m*9+5,Y⟩=V (O a[k].bl[m].1.L.s)/\p8 wr ⟨f,m*9+6,Y⟩=V (X .u8 a[k].bl[m].1.R.v.toNat)/\p8 wr ⟨f,m*9+7,Y⟩=V (O a[k].bl[m].1.R.s)/\p8 wr ⟨f,m*9+8,Y⟩=V (X J a[k].bl[m].1.at_)):=⟨G,d1,d2,d3,d4,d5,d6,d7,d8⟩;have y:p7 ((a[k].bl.take (m+1)).foldl zD d=zD b a[k].bl[m]/\E1 a l (zD b a[k].bl[m])):=⟨by rw[DI _ _ j,HN.out.1],HN.out.2.zD (kV u) (kV j)⟩;clear z hl JJ A0 G d1 d2 d3 d4 d5 d6 d7 d8 Ax;go_wp2_with fail
         go_quiet (fail)
         have CL:=DC EK nq;have M:=AO.drewN nq;have FF:p8 (wr.drewN nq) ⟨pb,0,Y⟩=V (U (V ⟨gp,0,Y⟩) (Z a) HO)/\p8 (wr.drewN nq) ⟨gp,k*5+3,Y⟩=V (U (V ⟨f,0,Y⟩) a[k].bl.length H0)/\p8 (wr.drewN nq) ⟨f,m*9,Y⟩=V (X .u8 a[k].bl[m].1.kind.toNat)/\p8 (wr.drewN nq) ⟨f,m*9+1,Y⟩=V (O a[k].bl[m].1.A.name)/\p8 (wr.drewN nq) ⟨f,m*9+2,Y⟩=V (U HP a[k].bl[m].1.A.args.length HF)/\p8 (wr.drewN nq) ⟨f,m*9+3,Y⟩=V (X J a[k].bl[m].1.A.at_)/\p8 (wr.drewN nq) ⟨f,m*9+4,Y⟩=V (X .u8 a[k].bl[m].1.L.v.toNat)/\p8 (wr.drewN nq) ⟨f,m*9+5,Y⟩=V (O a[k].bl[m].1.L.s)/\p8 (wr.drewN nq) ⟨f,m*9+6,Y⟩=V (X .u8 a[k].bl[m].1.R.v.toNat)/\p8 (wr.drewN nq) ⟨f,m*9+7,Y⟩=V (O a[k].bl[m].1.R.s)/\p8 (wr.drewN nq) ⟨f,m*9+8,Y⟩=V (X J a[k].bl[m].1.at_):=⟨f1,f3,HD.out⟩;clear HD f1 f2 f3 f4 EK AO LE;generalize wr.drewN nq=wd at FF CL M⊢;obtain⟨f1,f3,G,d1,d2,d3,d4,d5,d6,d7,d8⟩:=FF;have Nx:=M.size;have B:=CL.alloc (j3 #[X .u8 a[k].bl[m].1.kind.toNat,O a[k].bl[m].1.A.name,U HP a[k].bl[m].1.A.args.length HF,X J a[k].bl[m].1.A.at_,X .u8 a[k].bl[m].1.L.v.toNat,O a[k].bl[m].1.L.s,X .u8 a[k].bl[m].1.R.v.toNat,O a[k].bl[m].1.R.s,X J a[k].bl[m].1.at_] 95);rcases Ee a[k].bl[m] with⟨k1,r⟩|⟨k1,k2,r⟩|⟨k1,k2,r⟩
         .cases hh2:Em b a[k].bl[m].1.A.name with
          |true=>
           (have e:zD b a[k].bl[m]=b:=by simp[zD,CS,r,hh2]);(have D:p7 ((a[k].bl.take (m+1)).foldl zD d=b/\E1 a l b):=by have h:=y.out;rw[e]at h;exact h);clear e;clear y r;(go_wp2_with fail);refine(D2 _ b a[k].bl[m].1.A.name w.heap.size _ B (by omega)).mono ?_;rintro e T ⟨rfl,t⟩;rw[hh2,t];clear t T hh2;go_wp2
           go_roundw
           case rel=>exact⟨m+1,b,by go_num,by omega,D,B,M.alloc _⟩
           case measure=>simp[intOf];omega
          |false=>
           (have e:zD b a[k].bl[m]=b++[a[k].bl[m].1.A.name]:=by simp[zD,CS,r,hh2]);(have D:p7 ((a[k].bl.take (m+1)).foldl zD d=b++[a[k].bl[m].1.A.name]/\E1 a l (b++[a[k].bl[m].1.A.name])):=by have h:=y.out;rw[e]at h;exact h);clear e;clear y r;(go_wp2_with fail);refine(D2 _ b a[k].bl[m].1.A.name w.heap.size _ B (by omega)).mono ?_;rintro e T ⟨rfl,t⟩;rw[hh2,t];clear t T hh2;go_wp2_with (at_builtin;refine lG _ rfl (.tmp 91) (.tmp 95) _ rfl w.heap.size 9 i0 _ 1 16 underlying41 Jx HY FB EY rfl (by omega) (U (V ⟨F,0,Y⟩) (Z b) S) (Z b) (b.flatMap Ah) rfl (B.alloc _) ⟨wd.heap.size+1,0,Y⟩ 1 1 [O a[k].bl[m].1.A.name] rfl rfl (Jr wd _ _ _ _ rfl) (by simp[Value.oneCell']) (by omega) (by unfold maxLen;omega) (by omega) (by simp;omega) (wd.heap.size+2) (by simp) ?_;intro g5 L0 w5 FP B2 FW HJ)
           have HQ:Ac [] w w5:=((M.alloc _).alloc _).grown B2 (λq hq=>oj (CL.lt q hq).1);clear B2 FW HJ;go_wp2
           go_roundw
           case rel=>
            refine⟨m+1,b++[a[k].bl[m].1.A.name],by go_num,by omega,D,?_,HQ⟩;simpa[Ah] using FP
           case measure=>simp[intOf];omega
         .cases hh2:Em b a[k].bl[m].1.A.name with
          |true=>
           (have e:zD b a[k].bl[m]=b:=by simp[zD,CS,r,hh2]);(have D:p7 ((a[k].bl.take (m+1)).foldl zD d=b/\E1 a l b):=by have h:=y.out;rw[e]at h;exact h);clear e;clear y r;(go_wp2_with fail);refine(D2 _ b a[k].bl[m].1.A.name w.heap.size _ B (by omega)).mono ?_;rintro e T ⟨rfl,t⟩;rw[hh2,t];clear t T hh2;go_wp2
           go_roundw
           case rel=>exact⟨m+1,b,by go_num,by omega,D,B,M.alloc _⟩
           case measure=>simp[intOf];omega
          |false=>
           (have e:zD b a[k].bl[m]=b++[a[k].bl[m].1.A.name]:=by simp[zD,CS,r,hh2]);(have D:p7 ((a[k].bl.take (m+1)).foldl zD d=b++[a[k].bl[m].1.A.name]/\E1 a l (b++[a[k].bl[m].1.A.name])):=by have h:=y.out;rw[e]at h;exact h);clear e;clear y r;(go_wp2_with fail);refine(D2 _ b a[k].bl[m].1.A.name w.heap.size _ B (by omega)).mono ?_;rintro e T ⟨rfl,t⟩;rw[hh2,t];clear t T hh2;go_wp2_with (at_builtin;refine lG _ rfl (.tmp 91) (.tmp 95) _ rfl w.heap.size 9 i0 _ 1 16 underlying41 Jx HY FB EY rfl (by omega) (U (V ⟨F,0,Y⟩) (Z b) S) (Z b) (b.flatMap Ah) rfl (B.alloc _) ⟨wd.heap.size+1,0,Y⟩ 1 1 [O a[k].bl[m].1.A.name] rfl rfl (Jr wd _ _ _ _ rfl) (by simp[Value.oneCell']) (by omega) (by unfold maxLen;omega) (by omega) (by simp;omega) (wd.heap.size+2) (by simp) ?_;intro g5 L0 w5 FP B2 FW HJ)
           have HQ:Ac [] w w5:=((M.alloc _).alloc _).grown B2 (λq hq=>oj (CL.lt q hq).1);clear B2 FW HJ;go_wp2
           go_roundw
           case rel=>
            refine⟨m+1,b++[a[k].bl[m].1.A.name],by go_num,by omega,D,?_,HQ⟩;simpa[Ah] using FP
           case measure=>simp[intOf];omega
         ·(have e:zD b a[k].bl[m]=b:=by simp[zD,r]);(have D:p7 ((a[k].bl.take (m+1)).foldl zD d=b/\E1 a l b):=by have h:=y.out;rw[e]at h;exact h);clear e;clear y r;go_wp2
          go_roundw
          case rel=>exact⟨m+1,b,by go_num,by omega,D,B,M.alloc _⟩
          case measure=>simp[intOf];omega
        ·(have LL:decide ((m:Int)<(a[k].bl.length:Int))=K:=by simp;omega);(have OH:decide (m<a[k].bl.length)=K:=by simp;omega);have E:p7 ((a.take (k+1)).foldl (NZ x) l=b/\E1 a l b):=by
          have h:=HN.out;rw[kX (by omega)]at h;exact⟨by rw[Aa M3];exact h.1,h.2⟩
         clear Ax;go_wp2_with fail
         go_quiet (fail)
         go_wp2_with fail
         go_roundw
         case rel=>exact⟨k+1,b,by go_num,by omega,E,DC EK _,AO.drewN _⟩
         case measure=>simp[intOf];omega
     ·(have E:p7 (NJ a l x=d/\E1 a l d):=by have h:=HM.out;rw[kX (by omega)]at h;exact h);(have FB:n+1<=Z d:=by have:=E.out.2.len.1;omega);(have EY:Z d<=1+A:=by have:=E.out.2.len.2;rw[Aa HA]at this;exact this);go_wp2
      go_roundg (1+A-(n+1))
      case measure=>have:=HG.out;omega
      case rel=>exact⟨n+1,d,by go_num,FB,EY,rfl,⟨E.out.2.bd,by rw[<-E.out.1];exact KD.out.1⟩,I,C⟩
  .have K5:p7 (R=K):=by
    have h:=HB.out.2;rw[show 2+A-n=(1+A-n)+1 by omega,Kv,dif_neg AH]at h;exact h.symm
   go_wp2;go_ret;rw[K5.out];exact⟨rfl,hK⟩
def BF(p:Ba):Bool:=decide (2<Z p.1.A.args)
def BV(cs:pM A4)(p:Ba):Bool:=MF p&&(DG cs p.1.A.name !=(Z p.1.A.args:Int))
def Cm(cs:pM A4)(i:Nat)(c:A4):Option (Int×Int):=
 if 12<=i\/3<Z c.bl then V (3,c.at_)
 else if 2<Z c.head.args then V (3,c.at_)
 else if c.bl.any BF then V (3,c.at_)
 else if 6<Z (G2 (cs.take (i+1)))\/6<Z (D1 (cs.take (i+1))) then V (3,c.at_)
 else if DG cs c.head.name≠(Z c.head.args:Int)then V (4,c.head.at_)
 else match c.bl.find? (BV cs)with
  |some p=>V (4,p.1.A.at_)
  |none=>if 0<=DR c.head c.bl then V (5,DR c.head c.bl)else Y
def Ey(cs:pM A4):Nat->pM A4->Option (Int×Int)
 |_,[]=>Y
 |i,c::l=>match Cm cs i c with
  |some r=>V r
  |none=>Ey cs (i+1) l
def E7(cs:pM A4)(c:A4)(p:Ba):Bool:=p.1.kind==33&&Hw cs p.1.A.name c.head.name
def DM(cs:pM A4)(c:A4):Option (Int×Int):=(c.bl.find? (E7 cs c)).map λp=>(6,(p.1.at_:Int))
def CJ(cs:pM A4):Int×Int:=match Ey cs 0 cs with
 |some r=>r
 |none=>match cs.findSome? (DM cs)with
  |some r=>r
  |none=>(0,0)
def Lb{a:pM A4}:∀(l:pM A4) (i k:Nat),(∀j (d:j<Z l),j<k->Cm a (i+j) l[j]=Y)->k<=Z l->Ey a i l=Ey a (i+k) (l.drop k)
 |l,i,0,_,_=>by simp
 |[],i,k+1,_,hk=>by simp at hk
 |c::l,i,k+1,h,hk=>by
  have b:=h 0 (by simp) (by omega);simp only[oX,oG]at b;rw[Ey,b];simp only[om];rw[Lb l (i+1) k (λj d e=>by
   have:=h (j+1) (by simp;omega) (by omega)
   simp only[List.getElem_cons_succ]at this
   rw[show i+1+j=i+(j+1) by omega];exact this) (by simpa using hk)]
  rw[show i+1+k=i+(k+1) by omega]
def Y8(b:k<Z c)(e:∀j (a:j<Z c),j<k->Cm c j c[j]=Y){r:Int×Int}(d:Cm c k c[k]=V r):CJ c=r:=by
 unfold CJ;rw[Lb c 0 k (λj a f=>by rw[me];exact e j a f) (by omega),lD b,me,Ey,d]
def VX(b:∀j (a:j<Z c),Cm c j c[j]=Y):CJ c=match c.findSome? (DM c)with|some r=>r|none=>(0,0):=by
 unfold CJ;rw[Lb c 0 (Z c) (λj a _=>by rw[me];exact b j a) (lC _),List.drop_length,Ey]
def UR{b:pM A4}{c:A4}(h:Cm b i c=Y):i<12/\KI c:=by
 unfold Cm at h;split at h
 .cases h
 .rename_i f;split at h
  .cases h
  .rename_i e;split at h
   .cases h
   .rename_i d;refine⟨by omega,⟨by omega,by omega,λp a=>?_⟩⟩;have:BF p=K:=by
     cases hm:BF p with
     |false=>rfl
     |true=>exact absurd (by rw[mH];exact⟨p,a,hm⟩) d
    simpa[BF] using this
def Cl.take{w:py}{g:Nat}{m:Nat}{b:pM A4}(h:Cl w (U (V ⟨g,0,Y⟩) (Z b) m) b)(k:Nat)(t:k<=Z b):Cl w (U (V ⟨g,0,Y⟩) k m) (b.take k):=by
 refine⟨?_,λc n=>h.each c (mD n)⟩;have f:Z (b.take k)=k:=by simp;omega
 rw[f];have j:∀(l:pM A4),Z (l.flatMap Ce)=Z l*5:=by
  intro l
  induction l with
  |nil=>rfl
  |cons a l ih=>rw[lF,lu,ih,B1,lj];omega
 rcases h.row.2 with⟨d,_⟩|⟨v,u,i,d,_,s,n,o,p,r⟩
 .cases d
 .simp only[kS,ld,lW]at d;obtain⟨⟨rfl,_,_⟩,_,rfl⟩:=d;refine⟨by rw[j,f],oj ⟨g,m,i,rfl,lz _,s,by omega,o,p,?_⟩⟩;have e:b.flatMap Ce=(b.take k).flatMap Ce++(b.drop k).flatMap Ce:=by rw[<-lM,mt]
  have q:i.toList.take (k*5)=(i.toList.take (Z b*5)).take (k*5):=by rw[oE,nU (by omega)]
  rw[q,r,e,mn (by rw[j,f];omega),kX (by rw[j,f];omega)]
structure QV(cs:pM A4):Prop where
 len:Z cs<=1000
 body:∀c∈cs,Z c.bl<=1000
 head:∀c∈cs,Z c.head.args<=1000000
 lits:∀c∈cs,∀p∈c.bl,Z p.1.A.args<=1000000
 atoms:Z (D4 cs)<=900000
 full:∀c∈cs,dk c
def Vp{a:pM A4}(h:Cl w (U (V ⟨n,0,Y⟩) (Z a) m) a)(q:Ac [] w v)(b:k<Z a):
  p8 v ⟨n,k*5,Y⟩=V (O a[k].head.name)/\p8 v ⟨n,k*5+1,Y⟩=V a[k].hv/\p8 v ⟨n,k*5+2,Y⟩=V (X J a[k].head.at_)/\p8 v ⟨n,k*5+3,Y⟩=V a[k].bv/\p8 v ⟨n,k*5+4,Y⟩=V (X J a[k].at_):=by
 have p:=h.kept q;obtain⟨s,r,j,_,d⟩:=AC p.row (λc _=>B1 c) k b;simp only[kS,ld,lW]at j;obtain⟨⟨rfl,_,_⟩,_,rfl⟩:=j;have l:=d k b 0 (by omega);have i:=d k b 1 (by omega);have e:=d k b 2 (by omega);have o:=d k b 3 (by omega);have f:=d k b 4 (by omega);simp[Ce]at l i e o f;exact⟨l,i,e,o,f⟩
def Vq{c:A4}(h:Xg w c)(b:m<Z c.bl):∃a e,c.bv=U (V ⟨a,0,Y⟩) (Z c.bl) e/\
  p8 w ⟨a,m*9,Y⟩=V (X .u8 c.bl[m].1.kind.toNat)/\p8 w ⟨a,m*9+1,Y⟩=V (O c.bl[m].1.A.name)/\p8 w ⟨a,m*9+2,Y⟩=V c.bl[m].2/\p8 w ⟨a,m*9+3,Y⟩=V (X J c.bl[m].1.A.at_)/\
  p8 w ⟨a,m*9+4,Y⟩=V (X .u8 c.bl[m].1.L.v.toNat)/\p8 w ⟨a,m*9+5,Y⟩=V (O c.bl[m].1.L.s)/\p8 w ⟨a,m*9+6,Y⟩=V (X .u8 c.bl[m].1.R.v.toNat)/\p8 w ⟨a,m*9+7,Y⟩=V (O c.bl[m].1.R.s)/\p8 w ⟨a,m*9+8,Y⟩=V (X J c.bl[m].1.at_):=by
 obtain⟨a,e,r,_,d⟩:=AC h.body (λp _=>BP p) m b;have j:=d m b 0 (by omega);have k:=d m b 1 (by omega);have f:=d m b 2 (by omega);have i:=d m b 3 (by omega);have g:=d m b 4 (by omega);have l:=d m b 5 (by omega);have o:=d m b 6 (by omega);have n:=d m b 7 (by omega);have q:=d m b 8 (by omega);simp[AX,Cj]at j k f i g l o n q;exact⟨a,e,r,j,k,f,i,g,l,o,n,q⟩
def XM{a:pM A4}(g:k<Z a)(e:∀j (b:j<Z a),j<k->Cm a j a[j]=Y)(f:KI a[k]):∀c∈a.take (k+1),KI c:=by
 intro c d;obtain⟨j,b,rfl⟩:=List.mem_iff_getElem.1 d;simp only[l9]at b;rw[od];by_cases h:j<k
 .exact(UR (e j (by omega) h)).2
 .have:j=k:=by omega
  subst this;exact f
structure KW(w0:py) where
 wk:py
 kept:Ac [] w0 wk
theorem KW.some(a:py):Nonempty (KW a):=⟨⟨a,pO _ _⟩⟩
def GQ{w w0:py}{l:pM Oper}(d:P.follows .mixedOrders=jj)(f:Region.lexB .any (ml l)=jj)(c:Ac [] w0 w)
  (h:wpQuiet P (ml l) (λb=>∃n:KW w0,b=n.wk) (λe=>∀b,(∃n:KW w0,b=n.wk)->Q .normal e b) l a):(Code.region m (ml l) jj).wp P Q a w:=
 wp_region_quiet (C:=λb=>∃n:KW w0,b=n.wk) d f ⟨⟨_,c.drew⟩,rfl⟩ (by simpa using h)
def Calls.zl{f:FuncId}{b:Array p5}{n:KW w}
  (h:Calls P f b n.wk λe a=>e=oa z/\Ac [] n.wk a):Calls P f b n.wk λe c=>e=oa z/\∃m:KW w,c=m.wk:=
 h.mono λ_ a ⟨he,hk⟩=>⟨he,⟨⟨a,n.kept.trans hk⟩,rfl⟩⟩
theorem bK(pb:Nat)(lv:p5)(b:pM A4)(w:py)(hP:AF w pb [lv] 76)(hR:Cl w lv b)(hF:QV b):
  Calls prog 45 #[m2 (V ⟨pb,0,Y⟩)] w λe w'=>e=oa (.tuple #[X J (CJ b).1,X J (CJ b).2])/\Ac [] w w':=by
 obtain⟨ad,Ha,rfl⟩:=Ak hR.row;obtain⟨R,LC⟩:=pN (CJ b);rw[LC];have f:p7 (Cl w (U ad (Z b) Ha) b/\QV b/\CJ b=R):=⟨hR,hF,LC⟩;have WW:=hF.len;clear hR hF LC;go_enter func45,ntmps45;go_wp2
 go_loopw [4] (λi wr=>∃k:Nat,i=X J k/\k<=Z b/\p7 (∀j (hj:j<Z b),j<k->Cm b j b[j]=Y)/\Ac [] w wr) (λi _=>Z b-(intOf i).toNat)
 case atStart=>exact⟨0,rfl,lz _,λj hj h=>by omega,pO _ _⟩
 case round=>
  obtain⟨k,rfl,hk,HC,B⟩:=hrel;have M:=(hP.kept B).cell 0;simp at M;by_cases AT:k<Z b
  .obtain⟨g,TL,he,SP,Nj⟩:=AC f.out.1.row (λc _=>B1 c) k AT;clear Nj;simp only[kS]at he;obtain⟨rfl,_,rfl⟩:=he;obtain⟨c0,c1,c2,c3,c4⟩:=Vp f.out.1 B AT;have o:=(f.out.1.kept B).each b[k] (kV AT);obtain⟨HP,HO,JA⟩:=Ak o.args;obtain⟨FO,FB,CL⟩:=Ak o.body;rw[JA]at c1;rw[CL]at c3;obtain⟨c,Q⟩:=pN (b[k]);rw[Q]at c0 c1 c2 c3 c4 JA CL;have y:p7 (b[k]=c/\c.hv=U HP (Z c.head.args) HO/\c.bv=U FO (Z c.bl) FB):=⟨Q,JA,CL⟩;(have T0:Z c.bl<=1000:=by have:=f.out.2.1.body b[k] (kV AT);rw[Q]at this;exact this);(have SK:Z c.head.args<=1000000:=by have:=f.out.2.1.head b[k] (kV AT);rw[Q]at this;exact this);have CC:p7 (∀r,Cm b k c=V r->R=r):=by
    intro r hr;rw[<-f.out.2.2];exact Y8 AT HC.out (by rw[Q];exact hr)
   clear o JA CL Q;by_cases h1:12<=k\/3<Z c.bl
   .have t:p7 (R=(3,(c.at_:Int))):=CC.out _ (by unfold Cm;rw[ln h1]);by_cases ab:12<=k
    ·(have X3:(12:Int)<=(k:Int):=by omega);clear h1;go_wp2_with fail
     go_quiet (fail)
     (go_wp2_with fail);go_ret2;rw[t.out];exact⟨rfl,(B.alloc _).drewN _⟩
    ·(have h3:(3:Int)<(Z c.bl:Int):=by omega);clear h1;go_wp2_with fail
     go_quiet (fail)
     (go_wp2_with fail);go_ret2;rw[t.out];exact⟨rfl,(B.alloc _).drewN _⟩
   ·(have an:k<12:=by omega);(have TV:Z c.bl<=3:=by omega);by_cases h2:2<Z c.head.args
    .have t:p7 (R=(3,(c.at_:Int))):=CC.out _ (by unfold Cm;rw[li h1,ln h2]);clear h1;go_wp2_with fail
     go_quiet (fail)
     (go_wp2_with fail);go_ret2;rw[t.out];exact⟨rfl,(B.alloc _).drewN _⟩
    ·(have VS:Z c.head.args<=2:=by omega);have E:p7 (¬(12<=k\/3<Z c.bl)/\¬2<Z c.head.args):=⟨h1,h2⟩;clear h1 h2;(go_wp2_with fail);have AO:=pP wr [O c.head.name,U HP (Z c.head.args) HO,X J c.head.at_,U FO (Z c.bl) FB,X J c.at_] 82;have HG:=B.alloc (j3 [O c.head.name,U HP (Z c.head.args) HO,X J c.head.at_,U FO (Z c.bl) FB,X J c.at_].toArray 82);have VL:=B.size;clear M c0 c1 c2 c3 c4 B;generalize wr.alloc (j3 [O c.head.name,U HP (Z c.head.args) HO,X J c.head.at_,U FO (Z c.bl) FB,X J c.at_].toArray 82)=w1 at AO HG⊢;generalize wr.heap.size=N at AO VL⊢;have q0:=AO.cell 0;have q1:=AO.cell 1;have q2:=AO.cell 2;have q3:=AO.cell 3;have q4:=AO.cell 4;simp at q0 q1 q2 q3 q4
     go_loop [6] (λi=>∃m:Nat,i=X J m/\m<=Z c.bl/\p7 ((c.bl.take m).any BF=K)) (λi=>Z c.bl-(intOf i).toNat)
     case atStart=>exact⟨0,rfl,lz _,by show _=_;simp⟩
     case round=>
      obtain⟨m,rfl,hm,P⟩:=hrel;by_cases D:m<Z c.bl
      .have o:=(f.out.1.kept HG).each b[k] (kV AT);rw[y.out.1]at o;obtain⟨gb,NX,S,d0,d1,d2,d3,d4,d5,d6,d7,d8⟩:=Vq o D;rw[y.out.2.2]at S;simp only[kS]at S;obtain⟨rfl,_,rfl⟩:=S;obtain⟨AB,W,EK⟩:=Ak (o.lits c.bl[m] (kV D));rw[EK]at d2;clear d0 d1 d3 d4 d5 d6 d7 d8 o EK;by_cases RO:2<c.bl[m].1.A.args.length
       .have t:p7 (R=(3,(c.at_:Int))):=CC.out _ (by unfold Cm;rw[li E.out.1,li E.out.2,ln (I7 _ _ m D (by simpa[BF] using RO))]);go_wp2_with fail
        go_quiet (fail)
        (go_wp2_with fail);go_ret2;rw[t.out];exact⟨rfl,HG.drewN _⟩
       ·(have z:p7 ((c.bl.take (m+1)).any BF=K):=by show _=_;rw[CU _ _ m D P.out];simpa[BF] using RO);go_wp2_with fail
        go_round
        case rel=>exact⟨m+1,by go_num,by omega,z⟩
        case measure=>simp[intOf];omega
      ·(have FW:p7 (c.bl.any BF=K):=by have h:=P.out;rwa [kX (by omega)]at h);clear P;have M:=(hP.kept HG).cell 0;simp at M;(have af:(k:Int)+1<=(Ha:Int):=by omega);have PT:p7 (∀c'∈b.take (k+1),KI c'):=by
        refine XM AT HC.out ?_;rw[y.out.1];refine⟨TV,VS,λp hp=>?_⟩;cases hmm:BF p with
        |false=>simpa[BF] using hmm
        |true=>(have:c.bl.any BF=jj:=by rw[mH];exact⟨p,hp,hmm⟩);rw[FW.out]at this;cases this
       (go_wp2_with fail);clear D hm;have F:=pP w1 [U (V ⟨g,0,Y⟩) (k+1) Ha] 76;have IS:=HG.alloc (j3 [U (V ⟨g,0,Y⟩) (k+1) Ha].toArray 76);have LS:=AO.alloc (j3 [U (V ⟨g,0,Y⟩) (k+1) Ha].toArray 76);have U0:=AO.lt;clear M q0 q1 q2 q3 q4 AO HG;generalize w1.alloc (j3 [U (V ⟨g,0,Y⟩) (k+1) Ha].toArray 76)=w2 at F IS LS⊢;generalize w1.heap.size=Nq at F U0⊢;(have ag:Z (b.take (k+1))=k+1:=by simp;omega);have K3:=(f.out.1.kept IS).take (k+1) (by omega);refine(cW Nq _ (b.take (k+1)) _ F K3 (by omega) PT).mono ?_;rintro e w3 ⟨v3,rfl,N2,HX⟩;obtain⟨WS,W0,rfl⟩:=Ak N2;have LL:=IS.trans HX;have K6:=LS.kept HX;have Os:=F.kept HX;have Pl:=K3.kept HX;obtain⟨nn,NA⟩:=pN (Z (G2 (b.take (k+1))));have P0:=Ab NA;rw[NA];clear N2 HX LS F K3 IS NA;have q4:=K6.cell 4;simp at q4;by_cases UO:6<nn
       .have t:p7 (R=(3,(c.at_:Int))):=CC.out _ (by unfold Cm;rw[li E.out.1,li E.out.2,li (by rw[FW.out];exact nw),ln (oi (by rw[Aa P0];exact UO))]);go_wp2_with fail
        go_quiet (fail)
        (go_wp2_with fail);go_ret2;rw[t.out];exact⟨rfl,LL.drewN _⟩
       ·(go_wp2_with fail);refine(Y6 Nq _ (b.take (k+1)) _ Os Pl (by omega) PT (λc' HV=>f.out.2.1.full c' (mD HV))).mono ?_;rintro e w4 ⟨v4,rfl,NY,KS⟩;obtain⟨ZV,aa,rfl⟩:=Ak NY;have Jx:=LL.trans KS;have HI:=K6.kept KS;obtain⟨nt,MY⟩:=pN (Z (D1 (b.take (k+1))));have NV:=Ab MY;rw[MY];clear NY KS K6 Os Pl LL MY q4;have q0:=HI.cell 0;have q1:=HI.cell 1;have q2:=HI.cell 2;have q4:=HI.cell 4;simp at q0 q1 q2 q4;by_cases ST:6<nt
        .have t:p7 (R=(3,(c.at_:Int))):=CC.out _ (by unfold Cm;rw[li E.out.1,li E.out.2,li (by rw[FW.out];exact nw),ln (oj (by rw[Aa NV];exact ST))]);go_wp2_with fail
         go_quiet (fail)
         (go_wp2_with fail);go_ret2;rw[t.out];exact⟨rfl,Jx.drewN _⟩
        .have IA:p7 (¬(6<Z (G2 (b.take (k+1)))\/6<Z (D1 (b.take (k+1))))):=by
          show¬_;rw[Aa P0,Aa NV];omega
         obtain⟨ar,NM⟩:=pN (DG b c.head.name);have K9:=Ab NM;have Op:=(hP.kept Jx).drew;have LB:=Jx.drew;have FP:p7 (Z b<=1000000/\(∀c∈b,Z c.bl<=1000000)/\(∀c∈b,∀p∈c.bl,Z p.1.A.args<=1000000)):=⟨by omega,λc' HV=>by have:=f.out.2.1.body c' HV;omega,f.out.2.1.lits⟩;clear NM;go_wp2_with fail
         go_region_held3 (λw'=>p8 w' ⟨N,0,Y⟩=V (O c.head.name)/\p8 w' ⟨N,1,Y⟩=V (U HP (Z c.head.args) HO)) (go_keep) (first|(go_at_call 23;refine(LH pb _ b c.head.name _ (by exact Op) (by exact f.out.1.kept LB) FP.out.1 FP.out.2.1).mono ?_;rintro e w5 ⟨rfl,K8⟩;rw[Aa K9];have HL:=HI.drew.kept K8;have r0:=HL.cell 0;have r1:=HL.cell 1;simp at r0 r1))
         have JJ:=LB.trans K8;clear Op LB Jx HI q0 q1 q2 q4 K8 r0 r1;have q2:=HL.cell 2;have q3:=HL.cell 3;simp at q2 q3;by_cases C:ar=(Z c.head.args:Int)
         ·(have NL:(ar !=(Z c.head.args:Int))=K:=by simp[C]);(have K4:p7 (¬DG b c.head.name≠(Z c.head.args:Int)):=by show¬_;rw[Aa K9];simp[C]);clear C;go_wp2_with fail
          go_loopw [8] (λi wq=>∃m:Nat,i=X J m/\m<=Z c.bl/\p7 ((c.bl.take m).any (BV b)=K)/\Ac [] w wq/\AF wq N [O c.head.name,U HP (Z c.head.args) HO,X J c.head.at_,U FO (Z c.bl) FB,X J c.at_] 82) (λi _=>Z c.bl-(intOf i).toNat)
          case atStart=>exact⟨0,rfl,lz _,by show _=_;simp,JJ,HL⟩
          case round=>
           clear q2 q3 HL JJ NL;obtain⟨m,rfl,hm,P,G,F⟩:=hrel;have WB:=F.lt;have q0:=F.cell 0;have q1:=F.cell 1;have q2:=F.cell 2;have q3:=F.cell 3;simp at q0 q1 q2 q3;have o:=(f.out.1.kept G).each b[k] (kV AT);rw[y.out.1]at o;by_cases D:m<Z c.bl
           .obtain⟨gb,NX,S,d0,d1,d2,d3,d4,d5,d6,d7,d8⟩:=Vq o D;rw[y.out.2.2]at S;simp only[kS]at S;obtain⟨rfl,_,rfl⟩:=S;obtain⟨AB,W,EK⟩:=Ak (o.lits c.bl[m] (kV D));rw[EK]at d2;clear o EK;obtain⟨a,Ax⟩:=pN (c.bl[m]);rw[Ax]at d0 d1 d2 d3 d4 d5 d6 d7 d8;have I:p7 (BV b a=jj->R=(4,(a.1.A.at_:Int))):=by
             intro ho;refine CC.out _ ?_;unfold Cm;rw[li E.out.1,li E.out.2,li (by rw[FW.out];exact nw),li IA.out,li K4.out,FG _ _ m D P.out (by rw[Ax];exact ho),Ax]
            have z:p7 (BV b a=K->(c.bl.take (m+1)).any (BV b)=K):=by
             intro ho;rw[CU _ _ m D P.out,Ax];exact ho
            clear Ax;(go_wp2_with fail);clear d0 d1 d2 d3 d4 d5 d6 d7 d8 q0 q1 q2 q3;have d:=pP wr [X .u8 a.1.kind.toNat,O a.1.A.name,U AB (Z a.1.A.args) W,X J a.1.A.at_,X .u8 a.1.L.v.toNat,O a.1.L.s,X .u8 a.1.R.v.toNat,O a.1.R.s,X J a.1.at_] 95;have B9:=F.alloc (j3 [X .u8 a.1.kind.toNat,O a.1.A.name,U AB (Z a.1.A.args) W,X J a.1.A.at_,X .u8 a.1.L.v.toNat,O a.1.L.s,X .u8 a.1.R.v.toNat,O a.1.R.s,X J a.1.at_].toArray 95);have l:=G.alloc (j3 [X .u8 a.1.kind.toNat,O a.1.A.name,U AB (Z a.1.A.args) W,X J a.1.A.at_,X .u8 a.1.L.v.toNat,O a.1.L.s,X .u8 a.1.R.v.toNat,O a.1.R.s,X J a.1.at_].toArray 95);clear F G;generalize wr.alloc (j3 [X .u8 a.1.kind.toNat,O a.1.A.name,U AB (Z a.1.A.args) W,X J a.1.A.at_,X .u8 a.1.L.v.toNat,O a.1.L.s,X .u8 a.1.R.v.toNat,O a.1.R.s,X J a.1.at_].toArray 95)=w6 at d B9 l⊢;generalize wr.heap.size=Nx at d WB⊢;have x0:=d.cell 0;have x1:=d.cell 1;have x2:=d.cell 2;have x3:=d.cell 3;simp at x0 x1 x2 x3;obtain⟨A2,HD⟩:=pN (DG b a.1.A.name);have HJ:=Ab HD;have H1:=(hP.kept l).drew;have H7:=l.drew;rcases Ee a with⟨k1,H⟩|⟨k1,k2,H⟩|⟨k1,k2,H⟩
            ·(have y0:∀n:KW w6,p8 n.wk ⟨Nx,0,Y⟩=V (X .u8 a.1.kind.toNat):=λn=>(d.kept n.kept).cell 0);(have y1:∀n:KW w6,p8 n.wk ⟨Nx,1,Y⟩=V (O a.1.A.name):=λn=>(d.kept n.kept).cell 1);(have y2:∀n:KW w6,p8 n.wk ⟨Nx,2,Y⟩=V (U AB (Z a.1.A.args) W):=λn=>(d.kept n.kept).cell 2);have DT:p7 (∀n:KW w6,Calls prog 23 #[m2 (V ⟨pb,0,Y⟩),O a.1.A.name] n.wk λe H2=>e=oa (X J A2)/\∃m:KW w6,H2=m.wk):=by
              intro n;have h:=LH pb _ b a.1.A.name n.wk (hP.kept (l.trans n.kept)) (f.out.1.kept (l.trans n.kept)) FP.out.1 FP.out.2.1;rw[Aa HJ]at h;exact Calls.zl h
             clear x0 x1 x2;have RE:=KW.some w6;refine GQ (w0:=w6) (by kernel_rfl) (by kernel_rfl) (pO _ _) ?_
             repeat (go_big_quiet_step ((go_at_call 23;exact DT _)))
             refine wpQuiet_nil ?_;intro _ HS;obtain⟨⟨w7,u⟩,H6⟩:=HS;subst H6
             try simp only
             clear y0 y1 y2 DT;have AH:=l.trans u;have Nd:=B9.kept u;have MN:=(d.kept u).cell 3;simp at MN;by_cases C:A2=(Z a.1.A.args:Int)
             ·(have HA:(A2 !=(Z a.1.A.args:Int))=K:=by simp[C]);have B0:=Ab (z.out (by simp only[BV,H,Aa HJ,HA,nZ]));clear I z H HD H1 H7 x3 d B9 l u C;go_wp2_with fail
              go_roundw
              case rel=>exact⟨m+1,by go_num,by omega,B0,AH,Nd⟩
              case measure=>simp[intOf];omega
             ·(have HA:(A2 !=(Z a.1.A.args:Int))=jj:=by simp[C]);have t:p7 (R=(4,(a.1.A.at_:Int))):=I.out (by simp only[BV,H,Aa HJ,HA,nH]);clear I z H HD H1 H7 x3 d B9 l u C;go_wp2_with fail
              go_quiet (fail)
              (go_wp2_with fail);go_ret2;rw[t.out];exact⟨rfl,AH.drewN _⟩
            ·(have y0:∀n:KW w6,p8 n.wk ⟨Nx,0,Y⟩=V (X .u8 a.1.kind.toNat):=λn=>(d.kept n.kept).cell 0);(have y1:∀n:KW w6,p8 n.wk ⟨Nx,1,Y⟩=V (O a.1.A.name):=λn=>(d.kept n.kept).cell 1);(have y2:∀n:KW w6,p8 n.wk ⟨Nx,2,Y⟩=V (U AB (Z a.1.A.args) W):=λn=>(d.kept n.kept).cell 2);have DT:p7 (∀n:KW w6,Calls prog 23 #[m2 (V ⟨pb,0,Y⟩),O a.1.A.name] n.wk λe H2=>e=oa (X J A2)/\∃m:KW w6,H2=m.wk):=by
              intro n;have h:=LH pb _ b a.1.A.name n.wk (hP.kept (l.trans n.kept)) (f.out.1.kept (l.trans n.kept)) FP.out.1 FP.out.2.1;rw[Aa HJ]at h;exact Calls.zl h
             clear x0 x1 x2;have RE:=KW.some w6;refine GQ (w0:=w6) (by kernel_rfl) (by kernel_rfl) (pO _ _) ?_
             repeat (go_big_quiet_step ((go_at_call 23;exact DT _)))
             refine wpQuiet_nil ?_;intro _ HS;obtain⟨⟨w7,u⟩,H6⟩:=HS;subst H6
             try simp only
             clear y0 y1 y2 DT;have AH:=l.trans u;have Nd:=B9.kept u;have MN:=(d.kept u).cell 3;simp at MN;by_cases C:A2=(Z a.1.A.args:Int)
             ·(have HA:(A2 !=(Z a.1.A.args:Int))=K:=by simp[C]);have B0:=Ab (z.out (by simp only[BV,H,Aa HJ,HA,nZ]));clear I z H HD H1 H7 x3 d B9 l u C;go_wp2_with fail
              go_roundw
              case rel=>exact⟨m+1,by go_num,by omega,B0,AH,Nd⟩
              case measure=>simp[intOf];omega
             ·(have HA:(A2 !=(Z a.1.A.args:Int))=jj:=by simp[C]);have t:p7 (R=(4,(a.1.A.at_:Int))):=I.out (by simp only[BV,H,Aa HJ,HA,nH]);clear I z H HD H1 H7 x3 d B9 l u C;go_wp2_with fail
              go_quiet (fail)
              (go_wp2_with fail);go_ret2;rw[t.out];exact⟨rfl,AH.drewN _⟩
            .have B0:=Ab (z.out (by simp[BV,H]));clear I z H HD H1 H7
             go_quiet (fail)
             go_wp2_with fail
             go_roundw
             case rel=>exact⟨m+1,by go_num,by omega,B0,l.drewN _,B9.drewN _⟩
             case measure=>simp[intOf];omega
           .have SB:p7 (c.bl.find? (BV b)=Y):=by
             have h:=P.out;rw[kX (by omega)]at h;show _=_;rw[m7];intro x hx hf;(have:c.bl.any (BV b)=jj:=by rw[mH];exact⟨x,hx,hf⟩);rw[h]at this;cases this
            have T:=Xx c.head c.hv c.bv c.bl _ o.args o.body o.lits (by omega) (λp hp=>by have:=FP.out.2.2 b[k] (kV AT) p (by rw[y.out.1];exact hp);exact this) SK;rw[y.out.2.1,y.out.2.2]at T;simp only[Cy]at T;have HT:=Ab T;obtain⟨sf,SJ⟩:=pN (DR c.head c.bl);have KA:=Ab SJ;(have Wa: -1<=sf/\sf<=9223372036854775806->True:=λ_=>trivial);clear Wa T o SJ;(go_wp2_with fail);refine HT.mono ?_;rintro e w7 ⟨rfl,u⟩;rw[Aa KA];have AH:=G.trans u;clear HT u G F q0 q1 q2 q3;by_cases N4:0<=sf
            .have t:p7 (R=(5,sf)):=CC.out _ (by unfold Cm;rw[li E.out.1,li E.out.2,li (by rw[FW.out];exact nw),li IA.out,li K4.out,SB.out];simp only;rw[Aa KA,ln N4]);(go_wp2_with fail);go_ret2;rw[t.out];exact⟨rfl,AH⟩
            .have TK:p7 (∀j (hj:j<Z b),j<k+1->Cm b j b[j]=Y):=by
              intro j hj X0;by_cases TX:j<k
              .exact HC.out j hj TX
              ·(have:j=k:=by omega);subst this;rw[y.out.1];unfold Cm;rw[li E.out.1,li E.out.2,li (by rw[FW.out];exact nw),li IA.out,li K4.out,SB.out];simp only;rw[Aa KA,li N4]
             go_wp2_with fail
             go_roundw
             case rel=>exact⟨k+1,by go_num,by omega,TK,AH⟩
             case measure=>simp[intOf];omega
         ·(have NL:(ar !=(Z c.head.args:Int))=jj:=by simp[C]);have t:p7 (R=(4,(c.head.at_:Int))):=CC.out _ (by unfold Cm;rw[li E.out.1,li E.out.2,li (by rw[FW.out];exact nw),li IA.out,ln (by rw[Aa K9];exact C)]);clear C;go_wp2_with fail
          go_quiet (fail)
          (go_wp2_with fail);go_ret2;rw[t.out];exact⟨rfl,JJ.drewN _⟩
  .have RV:p7 (R=match b.findSome? (DM b)with|some r=>r|none=>(0,0)):=by
    rw[<-f.out.2.2];exact VX (λj hj=>HC.out j hj (by omega))
   have M1:p7 (Z b<=1000000/\(∀c∈b,Z c.bl<=1000000)/\Z (D4 b)<=900000):=⟨by omega,λc' HV=>by have:=f.out.2.1.body c' HV;omega,f.out.2.1.atoms⟩;clear HC;(go_wp2_with fail);clear M
   go_loopw [11] (λi wr=>∃q:Nat,i=X J q/\q<=Z b/\p7 ((b.take q).findSome? (DM b)=Y)/\Ac [] w wr) (λi _=>Z b-(intOf i).toNat)
   case atStart=>exact⟨0,rfl,lz _,by show _=_;simp,B⟩
   case round=>
    clear B;obtain⟨q,rfl,hq,HQ,B⟩:=hrel;have M:=(hP.kept B).cell 0;simp at M;by_cases B2:q<Z b
    .obtain⟨g,TL,he,SP,Nj⟩:=AC f.out.1.row (λc _=>B1 c) q B2;clear Nj;simp only[kS]at he;obtain⟨rfl,_,rfl⟩:=he;have OH:=f.out.1.each b[q] (kV B2);obtain⟨FO,FB,CL⟩:=Ak OH.body;obtain⟨c,Q⟩:=pN (b[q]);rw[Q]at CL;have y:p7 (b[q]=c/\c.bv=U FO (Z c.bl) FB):=⟨Q,CL⟩;(have T0:Z c.bl<=1000:=by have:=f.out.2.1.body b[q] (kV B2);rw[Q]at this;exact this);clear OH CL Q;(go_wp2_with fail);clear M
     go_loopw [12] (λi wq=>∃m:Nat,i=X J m/\m<=Z c.bl/\p7 ((c.bl.take m).any (E7 b c)=K)/\Ac [] w wq) (λi _=>Z c.bl-(intOf i).toNat)
     case atStart=>exact⟨0,rfl,lz _,by show _=_;simp,B⟩
     case round=>
      clear B;obtain⟨m,rfl,hm,P,G⟩:=hrel;have M:=(hP.kept G).cell 0;simp at M;obtain⟨c0,_,_,c3,_⟩:=Vp f.out.1 G B2;rw[y.out.1]at c0 c3;rw[y.out.2]at c3;have o:=(f.out.1.kept G).each b[q] (kV B2);rw[y.out.1]at o;by_cases D:m<Z c.bl
      .obtain⟨gb,NX,S,d0,d1,d2,d3,d4,d5,d6,d7,d8⟩:=Vq o D;rw[y.out.2]at S;simp only[kS]at S;obtain⟨rfl,_,rfl⟩:=S;obtain⟨AB,W,EK⟩:=Ak (o.lits c.bl[m] (kV D));rw[EK]at d2;clear o EK;obtain⟨a,Ax⟩:=pN (c.bl[m]);rw[Ax]at d0 d1 d2 d3 d4 d5 d6 d7 d8;have I:p7 (E7 b c a=jj->R=(6,(a.1.at_:Int))):=by
        intro ho;have h1:DM b b[q]=V (6,(a.1.at_:Int)):=by
         unfold DM;rw[y.out.1,FG _ _ m D P.out (by rw[Ax];exact ho),Ax];rfl
        rw[RV.out,He _ _ q B2 HQ.out h1]
       have z:p7 (E7 b c a=K->(c.bl.take (m+1)).any (E7 b c)=K):=by
        intro ho;rw[CU _ _ m D P.out,Ax];exact ho
       clear Ax;have K5:((a.1.kind.toNat:Int)==33)=(a.1.kind==33):=Cq _ 33;cases hkd:(a.1.kind==33)with
       |false=>
        rw[hkd]at K5;have B0:=Ab (z.out (by simp[E7,hkd]));clear I z hkd;go_wp2_with fail
        go_roundw
        case rel=>exact⟨m+1,by go_num,by omega,B0,G.alloc _⟩
        case measure=>simp[intOf];omega
       |true=>
        rw[hkd]at K5;(go_wp2_with fail);clear d0 d1 d2 d3 d4 d5 d6 d7 d8 M c0 c3 K5;have d:=pP wr [X .u8 a.1.kind.toNat,O a.1.A.name,U AB (Z a.1.A.args) W,X J a.1.A.at_,X .u8 a.1.L.v.toNat,O a.1.L.s,X .u8 a.1.R.v.toNat,O a.1.R.s,X J a.1.at_] 95;have l:=G.alloc (j3 [X .u8 a.1.kind.toNat,O a.1.A.name,U AB (Z a.1.A.args) W,X J a.1.A.at_,X .u8 a.1.L.v.toNat,O a.1.L.s,X .u8 a.1.R.v.toNat,O a.1.R.s,X J a.1.at_].toArray 95);clear G;generalize wr.alloc (j3 [X .u8 a.1.kind.toNat,O a.1.A.name,U AB (Z a.1.A.args) W,X J a.1.A.at_,X .u8 a.1.L.v.toNat,O a.1.L.s,X .u8 a.1.R.v.toNat,O a.1.R.s,X J a.1.at_].toArray 95)=w6 at d l⊢;generalize wr.heap.size=Nx at d⊢;(have y1:∀n:KW w6,p8 n.wk ⟨Nx,1,Y⟩=V (O a.1.A.name):=λn=>(d.kept n.kept).cell 1);(have y2:∀n:KW w6,p8 n.wk ⟨pb,0,Y⟩=V (U (V ⟨g,0,Y⟩) (Z b) Ha):=λn=>(hP.kept (l.trans n.kept)).cell 0);(have y3:∀n:KW w6,p8 n.wk ⟨g,q*5,Y⟩=V (O c.head.name):=λn=>by have h:=(Vp f.out.1 (l.trans n.kept) B2).1;rw[y.out.1]at h;exact h);obtain⟨rb,RT⟩:=pN (Hw b a.1.A.name c.head.name);have KK:=Ab RT;have DT:p7 (∀n:KW w6,Calls prog 85 #[m2 (V ⟨pb,0,Y⟩),O a.1.A.name,O c.head.name] n.wk λe H2=>e=oa (pE rb)/\∃m:KW w6,H2=m.wk):=by
         intro n;have h:=VD pb _ b a.1.A.name c.head.name n.wk (hP.kept (l.trans n.kept)) (f.out.1.kept (l.trans n.kept)) M1.out.1 M1.out.2.1 M1.out.2.2;rw[Aa KK]at h;exact Calls.zl h
        (have W2:(q:Int)<(Z b:Int):=by omega);clear RT;have RE:=KW.some w6;refine GQ (w0:=w6) (by kernel_rfl) (by kernel_rfl) (pO _ _) ?_
        repeat (go_big_quiet_step ((go_at_call 85;exact DT _)))
        refine wpQuiet_nil ?_;intro _ HS;obtain⟨⟨w7,u⟩,H6⟩:=HS;subst H6
        try simp only
        clear y1 y2 y3 DT;have AH:=l.trans u;have x8:=(d.kept u).cell 8;simp at x8;cases rb with
        |true=>
         have t:p7 (R=(6,(a.1.at_:Int))):=I.out (by simp only[E7,hkd,Aa KK,nH]);clear I z hkd d l u;go_wp2_with fail
         go_quiet (fail)
         (go_wp2_with fail);go_ret2;rw[t.out];exact⟨rfl,AH.drewN _⟩
        |false=>
         have B0:=Ab (z.out (by simp only[E7,hkd,Aa KK,nZ]));clear I z hkd d l u;go_wp2_with fail
         go_roundw
         case rel=>exact⟨m+1,by go_num,by omega,B0,AH⟩
         case measure=>simp[intOf];omega
      .have HZ:p7 ((b.take (q+1)).findSome? (DM b)=Y):=by
        have h:=P.out;rw[kX (by omega)]at h;show _=_;rw[Gk _ _ q B2 HQ.out,y.out.1];unfold DM;have:c.bl.find? (E7 b c)=Y:=by
         rw[m7];intro x hx hf;(have:c.bl.any (E7 b c)=jj:=by rw[mH];exact⟨x,hx,hf⟩);rw[h]at this;cases this
        rw[this];rfl
       go_wp2_with fail
       go_roundw
       case rel=>exact⟨q+1,by go_num,by omega,HZ,G⟩
       case measure=>simp[intOf];omega
    .have HE:p7 (R=(0,0)):=by
      have h:=HQ.out;rw[kX (by omega)]at h;show _=_;rw[RV.out,h]
     (go_wp2_with fail);go_ret2;rw[HE.out];exact⟨rfl,B⟩
def An(s:zA)(at_:Nat):pM CD×Nat×Bool:=
 if h:at_<s.size then
  if h2:(Ao s at_).2.2=K/\at_<AQ s (Ao s at_).2.1 (Ao s at_).2.2 then
   ((Ao s at_).1::(An s (AQ s (Ao s at_).2.1 (Ao s at_).2.2)).1,(An s (AQ s (Ao s at_).2.1 (Ao s at_).2.2)).2)
  else([(Ao s at_).1],AQ s (Ao s at_).2.1 (Ao s at_).2.2,(Ao s at_).2.2)
 else([],at_,K)
def Fj(s:zA)(a:Nat)(bd:Bool):pM CD×Nat×Bool:=if bd then([],a,jj)else An s a
def Mk{c:CD}(e:n<s.size)(b:Ao s n=(c,m,B)):
  An s n=(c::(Fj s (AQ s m B) B).1,(Fj s (AQ s m B) B).2):=by
 conv=>lhs;rw[An]
 rw[dif_pos e];cases B with
 |true=>rw[dif_neg (by rw[b];simp)];rw[b];rfl
 |false=>
  have d:=QJ (s:=s) (at_:=n) (by rw[b]);rw[b]at d;have f:=Ko s m K;rw[dif_pos (by rw[b];exact⟨rfl,by simp only at d⊢;omega⟩),b];rfl
def Nh(b:¬n<s.size):An s n=([],n,K):=by
 rw[An,dif_neg b]
def VB(s:zA)(t:AK):Prop:=t.v=0->0<t.s.size/\t.s.size<=s.size
def JO(s:zA)(i j:Nat)(h:j<=s.size):(s.extract i j).size=j-i:=by
 rw[my,nU h]
def XI(h:(A9 s n K).2.2=K)(d:n<=s.size):0<(A9 s n K).1.size/\(A9 s n K).1.size<=s.size:=by
 have c:=BB s n d;have a:=CM AD s _ c;have e:=Cr AD s (Ae s n);unfold A9 at h⊢;simp only[k0,if_false]at h⊢;split at h
 .cases h
 .rename_i b;simp only[b,if_false];rw[JO _ _ _ a];omega
def Kh(h:(AN s n K).2.2=K)(j:n<=s.size):VB s (AN s n K).1:=by
 have e:=BB s n j;intro a;unfold AN at h a⊢;simp only[k0,if_false]at h a⊢;split at h
 .rename_i d;simp only[d,dite_true]at a⊢;split at h
  .rename_i b;simp only[b,if_true]at a;rw[a]at b;exact absurd b (by decide)
  .rename_i b;simp only[b,if_false,k0]at a⊢;split at h
   .rename_i c;simp only[c,if_true];exact XI h e
   .rename_i c;simp only[c,if_false,k0];split at h
    .cases h
    .rename_i i;simp only[i,if_false];have f:=CM Ap s _ e;(have g:Ap s[Ae s n]=jj:=by simpa using c);have l:=Cp Ap s _ d g;have k:=Cr Ap s (Ae s n+1);show 0<(s.extract (Ae s n) (AG Ap s (Ae s n))).size/\_;rw[JO _ _ _ f];omega
 .cases h
def X8(s:zA)(a:Nat)(d:a<=s.size):Z (CE s a).1<=s.size-a+1/\((CE s a).2.2=K->∀t∈(CE s a).1,VB s t):=by
 fun_induction CE s a with
 |case1 a hc _ _ ih=>
  have f:=D3 s _ (AN s a K).2.2 44 (F5 s a K d);obtain⟨h,g⟩:=ih f;have i:=hc.2.1;refine⟨by simp only[lj];omega,λc t b=>?_⟩;rcases kZ.1 b with rfl|b
  .have e:(AN s a K).2.2=K:=by
    have:=hc.1;simp only[lJ,no]at this;exact this.1
   exact Kh e d
  .exact g c t b
 |case2 a hc=>
  refine⟨by simp,λc t b=>?_⟩;simp only[kY]at b;subst b;exact Kh c d
def Rp(s:zA)(p:Nat×Bool)(a:p.1<=s.size):Z (Ev s p).1<=s.size+1/\((Ev s p).2.2=K->∀t∈(Ev s p).1,VB s t):=by
 unfold Ev;split
 .exact⟨by simp,λh=>by cases h⟩
 .have h:=X8 s p.1 a;exact⟨by omega,h.2⟩
def fY(s:zA)(a:Dg):Prop:=∀t∈a.args,VB s t
def OZ(s:zA)(a:Nat)(c:Bool)(b:a<=s.size):Z (AZ s a c).1.args<=s.size+1:=by
 unfold AZ;exact(Rp s _ (D3 _ _ _ _ (Iz _ _ _ (GV _ _ _ b)))).1
def Tk(h:(By s n B g).2=K):B=K:=by
 unfold By at h;cases B<;>simp_all
def MD(h:(AZ s n B).2.2=K)(a:n<=s.size):fY s (AZ s n B).1:=by
 unfold AZ at h⊢;exact(Rp s _ (D3 _ _ _ _ (Iz _ _ _ (GV _ _ _ a)))).2 (Tk h)
structure dr(s:zA)(x:Br):Prop where
 atom:fY s x.A
 left:(x.kind==97||x.kind==33)=K->VB s x.L
 right:(x.kind==97||x.kind==33)=K->VB s x.R
def W5(s:zA)(a:Nat)(c:a<=s.size):Z (DF s a).1.A.args<=s.size+1:=by
 have b:=BB s a c;unfold DF;simp only;split
 .rename_i d;have:=F1 d;exact OZ s _ _ (by omega)
 .split
  .exact OZ s _ _ b
  .unfold I6;split<;>simp[G6]
def Ts(h:(DF s n).2.2=K)(i:n<=s.size):dr s (DF s n).1:=by
 have f:=BB s n i;unfold DF at h⊢;simp only at h⊢;split at h
 .rename_i c;simp only[c,if_true];have:=F1 c;exact⟨MD h (by omega),λa=>by simp at a,λa=>by simp at a⟩
 .rename_i c;simp only[c,k0,if_false];split at h
  .rename_i d;simp only[d,if_true];exact⟨MD h f,λa=>by simp at a,λa=>by simp at a⟩
  .rename_i d;simp only[d,k0,if_false];unfold I6 at h⊢;split at h
   .rename_i b;simp only[b,if_true];simp only[lJ,no,mP]at b;have j:AQ s (AN s (Ae s n) K).2.1 (AN s (Ae s n) K).2.2<s.size:=by
     rcases b.2 with(e|e)|e<;>exact F1 e
    exact⟨λt g=>by simp[G6]at g,λ_=>Kh b.1 f,λ_=>Kh h (by omega)⟩
   .cases h
def Kf(s:zA)(a:Nat)(c:a<=s.size):Z (Bj s a).1<=s.size-a+1/\(∀x∈(Bj s a).1,Z x.A.args<=s.size+1)/\((Bj s a).2.2=K->∀x∈(Bj s a).1,dr s x):=by
 fun_induction Bj s a with
 |case1 a hc _ _ ih=>
  have g:=D3 s _ (DF s a).2.2 44 (L9 s a c);obtain⟨i,h,f⟩:=ih g;have j:=hc.2.1;refine⟨by simp only[lj];omega,λx b=>?_,λd x b=>?_⟩
  .rcases kZ.1 b with rfl|b
   .exact W5 s a c
   .exact h x b
  .rcases kZ.1 b with rfl|b
   .have e:(DF s a).2.2=K:=by
     have:=hc.1;simp only[lJ,no]at this;exact this.1
    exact Ts e c
   .exact f d x b
 |case2 a hc=>
  refine⟨by simp,λx b=>?_,λd x b=>?_⟩
  .simp only[kY]at b;subst b;exact W5 s a c
  .simp only[kY]at b;subst b;exact Ts d c
structure dp(s:zA)(c:CD):Prop where
 head:fY s c.head
 body:∀x∈c.body,dr s x
structure jL(s:zA)(c:CD):Prop where
 head:Z c.head.args<=s.size+1
 body:Z c.body<=s.size+1
 lits:∀x∈c.body,Z x.A.args<=s.size+1
def QF(s:zA)(c:Nat)(a:Bool)(j:c<=s.size):Z (D9 s c a).1<=s.size+1/\(∀x∈(D9 s c a).1,Z x.A.args<=s.size+1)/\((D9 s c a).2.2=K->a=K/\∀x∈(D9 s c a).1,dr s x):=by
 unfold D9;split
 .rename_i k;have e:a=K:=by cases a<;>simp_all
  split
  .rename_i b;have i:=F1 b;obtain⟨g,f,d⟩:=Kf s (Ch s c a 58+1) (by omega);exact⟨by omega,f,λh=>⟨e,d h⟩⟩
  .exact⟨by simp,λx b=>by simp at b,λh=>by cases h⟩
 .exact⟨by simp,λx b=>by simp at b,λh=>⟨h,λx b=>by simp at b⟩⟩
def Wt(s:zA)(a:Nat)(d:a<=s.size):jL s (Ao s a).1:=by
 have b:=BB s a d;have c:=QF s (AZ s (Ae s a) K).2.1 (AZ s (Ae s a) K).2.2 (Js _ _ _ b);unfold Ao;exact⟨OZ s _ _ b,c.1,c.2.1⟩
def UD{at_:Nat}(h:(Ao s at_).2.2=K)(c:at_<=s.size):dp s (Ao s at_).1:=by
 have a:=BB s at_ c;have d:=QF s (AZ s (Ae s at_) K).2.1 (AZ s (Ae s at_) K).2.2 (Js _ _ _ a);unfold Ao at h⊢;have b:=d.2.2 (Tk h);exact⟨MD b.1 a,b.2⟩
theorem Tryz.info82:(Tryz.prog.info? 82).map (λi=>(i.zero,i.size,i.bytes))=V (V (pC #[O ⟨#[]⟩,U Y 0 0,X J 0,U Y 0 0,X J 0]),5,80):=by kernel_rfl
def A4.erase(c:A4):CD:=⟨c.head,c.bl.map pH,c.at_⟩
structure P3(w:py)(base:Nat)(lv:p5)(c:A4):Prop where
 args:p9 w base 93 2 c.hv (Z c.head.args) (c.head.args.flatMap AV)
 body:p9 w base 95 9 c.bv (Z c.bl) (c.bl.flatMap AX)
 lits:∀p∈c.bl,B4 w base p
 yc:B6 c.hv lv
 ya:B6 c.bv lv
 ye:∀p∈c.bl,B6 p.2 lv
def P3.cvIn{c:A4}(h:P3 w n z c):Xg w c:=
 ⟨Am h.args (lz _),Am h.body (lz _),λp a=>Am (h.lits p a) (lz _)⟩
def P3.kept{M:pM Nat}{w w':py}{b:Nat}{d:p5}{c:A4}(h:P3 w b d c)(k:Ac M w w')(a:∀i,i∈M->i<b:=by simp):P3 w' b d c:=
 ⟨Ad h.args k a,Ad h.body k a,λp e=>(h.lits p e).kept k a,h.yc,h.ya,h.ye⟩
def Gu{v a:p5}(h:p9 w m T i v n y)(k:w.grownBy u a.ownBlock)(b:B6 v a):p9 u m T i v n y:=
 h.kept k (by
  cases hv:v.ownBlock with
  |none=>exact oi rfl
  |some k=>exact oj (λT=>b k hv T.symm))
def P3.grown{c:A4}{g n cap H:Nat}(h:P3 w m z c)(k:w.grownBy v z.ownBlock)(b:z.ownBlock=V g\/g=H)(d:w.heap.size<=H):P3 v m (U (V ⟨g,0,Y⟩) n cap) c:=
 ⟨Gu h.args k h.yc,Gu h.body k h.ya,λp a=>Gu (h.lits p a) k (h.ye p a),B6.ze h.yc h.args b d,B6.ze h.ya h.body b d,λp a=>B6.ze (h.ye p a) (h.lits p a) b d⟩
def CI(s:zA)(e at_:Int):Prop:=
 if 300<s.size then e=1/\at_=0
 else if(An s (Ae s 0)).2.2 then e=2/\at_=(An s (Ae s 0)).2.1
 else∃cs:pM A4,cs.map A4.erase=(An s (Ae s 0)).1/\(e,at_)=CJ cs
def V1(a:pM A4)(N:Nat)(h:∀c∈a,Z c.bl<=N):Z (D4 a)<=Z a*N:=by
 unfold D4
 induction a with
 |nil=>simp
 |cons c a ih=>
  have f:=ih (λd b=>h d (by simp[b]));have e:=h c (by simp);have g:=mS MF c.bl;simp only[lF,lu,lm,lj];rw[nA];omega
def gQ(l:s.size<=300){d:pM A4}(k:Z d<=300)(g:∀c∈d,jL s c.erase)(j:∀c∈d,dp s c.erase):QV d:=by
 have i:∀c∈d,Z c.bl<=301:=λc a=>by have:=(g c a).body;simp only[A4.erase,lm]at this;omega
 refine⟨by omega,λc a=>by have:=i c a;omega,λc a=>by have:=(g c a).head;simp only[A4.erase]at this;omega,λc a p f=>?_,?_,λc a=>⟨?_,λp f=>?_⟩⟩
 .have:=(g c a).lits p.1 (by simp only[A4.erase];exact lB f);omega
 .have:=V1 d 301 i;have:Z d*301<=300*301:=mh _ k;omega
 .intro t b e;have:=(j c a).head t b e;omega
 .have h:=(j c a).body p.1 (by simp only[A4.erase];exact lB f);intro t b e;unfold AA at b;cases ha:MF p with
  |true=>
   rw[ha]at b;have:=h.atom t (by simpa using b) e;omega
  |false=>
   rw[ha]at b;simp only[k0,if_false,kZ,mr,or_false]at b;rcases b with rfl|rfl
   .have:=h.left ha e;omega
   .have:=h.right ha e;omega
def YE{a:pM A4}{c:A4}{r:Int×Int}(h:Cm a i c=V r):r.1≠0:=by
 unfold Cm at h
 repeat (split at h;· first|cases h;done|(simp only[ld]at h;subst h;simp))
 all_goals first|cases h;done|(simp only[ld]at h;subst h;simp)|skip
def Qo{b:pM A4}:∀(l:pM A4) (i:Nat) {r:Int×Int},Ey b i l=V r->r.1≠0
 |[],_,_,h=>by simp[Ey]at h
 |c::l,i,r,h=>by
  rw[Ey]at h;split at h
  .rename_i d a;simp only[ld]at h;subst h;exact YE a
  .exact Qo l (i+1) h
def IL{cs:pM A4}(h:(CJ cs).1=0):CJ cs=(0,0):=by
 unfold CJ at h⊢;split
 .rename_i r b;rw[b]at h;exact absurd h (Qo _ _ b)
 .rename_i b;rw[b]at h;simp only at h;split
  .rename_i r d;rw[d]at h;obtain⟨e,c,f,_,a,_⟩:=List.findSome?_eq_some_iff.1 d;unfold DM at a;cases hf:c.bl.find? (E7 cs c)with
   |none=>rw[hf]at a;simp at a
   |some p=>rw[hf]at a;simp only[m0,ld]at a;rw[<-a]at h;simp at h
  .rfl
structure VA(s:zA)(acc:pM A4)(a:Nat)(bd:Bool)(R:pM CD×Nat×Bool):Prop where
 rest:(acc.map A4.erase++(Fj s a bd).1,(Fj s a bd).2)=R
 len:Z acc<=a+1
 len2:bd=K->Z acc<=a
 lens:∀c∈acc,jL s c.erase
 zK:bd=K->∀c∈acc,dp s c.erase
def VA.step{l:pM A4}{R:pM CD×Nat×Bool}{c:A4}(h:VA s l n K R)(q:n<s.size)(f:Ao s n=(c.erase,m,B)):
  AQ s m B<=s.size/\2*(s.size-AQ s m B)+(if B then 0 else 1)<2*(s.size-n)+1/\VA s (l++[c]) (AQ s m B) B R:=by
 have i:=JR s n (by omega);have v:=Ko s m B;have j:=Wt s n (by omega);have r:n<=m:=by
  have w:=Cb s n;have z:=Ll s (Ae s n) K;have t:=XB s (AZ s (Ae s n) K).2.1 (AZ s (Ae s n) K).2.2;have y:=EI s (D9 s (AZ s (Ae s n) K).2.1 (AZ s (Ae s n) K).2.2).2.1 (D9 s (AZ s (Ae s n) K).2.1 (AZ s (Ae s n) K).2.2).2.2 46;have e:m=(Ao s n).2.1:=by rw[f]
  rw[e];show n<=Ch s _ _ 46;omega
 have k:B=K->n<m:=λd=>by
  have:=QJ (s:=s) (at_:=n) (by rw[f];exact d);rw[f]at this;exact this
 have o:B=K->dp s c.erase:=λd=>by
  have:=UD (s:=s) (at_:=n) (by rw[f];exact d) (by omega);rw[f]at this;exact this
 rw[f]at i j;simp only at i j;have p:=GV s m B i;have u:=h.len2 rfl;refine⟨p,?_,⟨?_,?_,?_,?_,?_⟩⟩
 .cases B with
  |true=>simp;omega
  |false=>have:=k rfl;simp;omega
 .have g:=h.rest;unfold Fj at g;simp only[k0,if_false]at g;rw[Mk q f]at g;rw[<-g];simp
 .simp;omega
 .intro d;have:=k d;simp;omega
 .intro x b;rcases lw.1 b with b|b
  .exact h.lens x b
  .simp only[kY]at b;subst b;exact j
 .intro d x b;rcases lw.1 b with b|b
  .exact h.zK rfl x b
  .simp only[kY]at b;subst b;exact o d
def WT(s:zA)(pv:p5)(er:Int)(w:py):Prop:=
 er=0->∃(pb:Nat) (lad:Option Addr) (lcp:Nat) (cs:pM A4),pv=m2 (V ⟨pb,0,Y⟩)/\AF w pb [U lad (Z cs) lcp] 76/\Cl w (U lad (Z cs) lcp) cs/\QV cs/\s.size<=300/\(An s (Ae s 0)).2.2=K/\cs.map A4.erase=(An s (Ae s 0)).1/\CJ cs=(0,0)
theorem Hr(s:zA)(w:py)(KK:s.size<=9223372036854775807):
  Calls prog 15 #[O s] w λe w'=>∃(pv:p5) (y z:Int),e=oa (.tuple #[pv,X J y,X J z])/\CI s y z/\WT s pv y w'/\Ac [] w w':=by
 by_cases HE:300<s.size
 .have HI:p7 (CI s 1 0):=by show CI _ _ _;unfold CI;rw[ln HE];exact⟨rfl,rfl⟩
  go_enter func15,ntmps15;go_wp2;go_ret3;exact⟨_,1,0,rfl,HI.out,(λh=>by cases h),pO _ _⟩
 .have hs:s.size<=300:=by omega
  have EX:s.size<=1000000:=by omega
  obtain⟨i0,LC,KA,L0,K8⟩:=mg Tryz.info82;obtain⟨j,hj⟩:=pN (Ae s 0);have LS:j<=s.size:=by have:=BB s 0 (lz _);omega
  obtain⟨D,E,B,B9⟩:∃D E B,An s j=(D,E,B):=⟨_,_,_,rfl⟩;have HI:p7 (∀y z:Int,(if B then y=2/\z=(E:Int)else∃cs:pM A4,cs.map A4.erase=D/\(y,z)=CJ cs)->CI s y z):=by
   intro y z h;unfold CI;rw[li HE,hj,B9];exact h
  have R:p7 (AQ s 0 K=j/\An s j=(D,E,B)):=⟨hj,B9⟩;clear hj B9 HE KK;go_enter func15,ntmps15;go_wp2_with fail
  have H1:AF ((w.alloc (j3 #[O s,X J 0,pE K] 73)).alloc (j3 #[U Y 0 0] 76)) w.heap.size (BY s 0 K) 73:=(pP w (BY s 0 K) 73).alloc _;have HM:AF ((w.alloc (j3 #[O s,X J 0,pE K] 73)).alloc (j3 #[U Y 0 0] 76)) (w.heap.size+1) [U Y 0 0] 76:=by
   have h:=pP (w.alloc (j3 #[O s,X J 0,pE K] 73)) [U Y 0 0] 76;rw[lT]at h;exact h
  refine(DO w.heap.size s 0 K _ EX (lz _) H1).mono ?_;rintro e w2 ⟨rfl,i,HB⟩;rw[R.out.1]at i;have l:=HM.kept HB;have HQ:Ac [] w w2:=(((pO [] w).alloc _).alloc _).trans' HB (by simp);clear H1 HM HB;go_wp2_with fail
  go_loopg [] (2*(s.size-j)+1) (λgk wr=>∃(a:Nat) (bd:Bool) (b:pM A4) (lv:p5),a<=s.size/\gk=2*(s.size-a)+(if bd then 0 else 1)/\p7 (VA s b a bd (D,E,B))/\AF wr w.heap.size (BY s a bd) 73/\AF wr (w.heap.size+1) [lv] 76/\
   p9 wr (w.heap.size+2) 82 5 lv (Z b) (b.flatMap Ce)/\p7 (∀c∈b,P3 wr (w.heap.size+2) lv c)/\Ac [] w wr)
  case atStart=>
   refine⟨j,K,[],U Y 0 0,LS,by simp,⟨?_,by simp,by simp,by simp,by simp⟩,i,l,lH _ _ _ _,λc g=>by simp at g,HQ⟩;unfold Fj;simp[R.out.2]
  case round=>
   clear i l HQ;obtain⟨a,bd,b,lv,ha,q,A,i,l,m,FW,hK⟩:=hrel;have HK:=Ab q;clear q;obtain⟨r,u,rfl⟩:=Ak m;have M2:=i.lt;have M6:=l.lt;have c0:=i.cell 0;have c1:=i.cell 1;have c2:=i.cell 2;have p0:=l.cell 0;have pf:=l.frozen 0;simp[BY]at c0 c1 c2 p0;cases bd with
   |true=>
    (have FC:p7 ((b.map A4.erase,a,jj)=(D,E,B)):=by have h:=A.out.rest;show _=_;simpa[Fj] using h);go_wp2_with fail
    go_quiet (fail)
    (go_wp2_with fail);go_ret3;have d:=FC.out;simp only[lZ]at d;exact⟨_,2,a,rfl,HI.out 2 a (by rw[<-d.2.2,<-d.2.1];exact⟨rfl,rfl⟩),(λh=>by cases h),hK.drewN _⟩
   |false=>
    by_cases HP:a<s.size
    ·(have Nx:(a:Int)<(s.size:Int):=by omega);obtain⟨f,Q,F,HG⟩:∃f Q F,Ao s a=(f,Q,F):=⟨_,_,_,rfl⟩;(have MY:Q<=s.size:=by have:=JR s a ha;rw[HG]at this;exact this);have M0:Z b<=a:=A.out.len2 rfl;have H5:=Ab HG;clear HG;go_wp2_with fail
     go_region_law
      (first
       |(go_simp;go_at_call 44;refine(QA w.heap.size s a _ EX ha (by first|exact i|exact i.drew)).mono ?_;rintro e G ⟨hv,bv,x,rfl,hH,FP,B2,FT,DT,I⟩;rw[Aa H5]at hH FP DT⊢;obtain⟨W,S,rfl⟩:=Ak hH;obtain⟨P,N,rfl⟩:=Ak B2;have A0:=l.drew.kept I;have pc:=A0.cell 0;have K6:=A0.frozen 0;have HH:=λo=>(A0.alloc o).cell 0;simp at pc HH;simp only[C0])
       |(refine oC _ (by rfl) _ _ _ (by rfl) (w.heap.size+2) 82 i0 _ 5 80 underlying74 LC KA L0 K8 rfl (by omega) (U r (Z b) u) (Z b) (b.flatMap Ce) (by rfl) ((Ad (FX m) I).alloc _) ⟨G.heap.size,0,Y⟩ 1 1 (C0 f (U W (Z f.head.args) S) (U P (Z x) N)) (by rfl) (by rfl) (lI (lP G _)) (by simp[Value.oneCell',C0]) (by omega) (by unfold maxLen;omega) (by omega) (by simp;have:=I.size;simp at this;omega) (G.heap.size+1) (by simp) ?_;intro v cap w5 Go AO HW K9;have BT:=(A0.alloc _).grown AO (Bg m (w.heap.size+1) (by omega));have H9:=BT.cell 0;have K4:=BT.frozen 0;simp at H9))
     all_goals
      have M1:=I.size;have Nd:=(Go.lt v rfl).1;have H4:A4.erase ⟨f.head,U W (Z f.head.args) S,U P (Z x) N,x,f.at_⟩=f:=by
       unfold A4.erase;simp only[FP]
      obtain⟨H,BA⟩:∃H:A4,H=⟨f.head,U W (Z f.head.args) S,U P (Z x) N,x,f.at_⟩:=⟨_,rfl⟩;rw[<-BA]at H4;(have HN:C0 f (U W (Z f.head.args) S) (U P (Z x) N)=Ce H:=by rw[BA];rfl);have H8:=Ab (A.out.step HP (by rw[Aa H5,H4]));have HO:P3 G (w.heap.size+2) (U r (Z b) u) H:=by
       (have FO:w.heap.size+2<=wr.heap.size:=by omega);have e1:B6 (U W (Z f.head.args) S) (U r (Z b) u):=λk q he=>by
        have h1:wr.heap.size<=k:=(hH.lt k q).1;have d:=(m.lt k he).2;omega
       have e2:B6 (U P (Z x) N) (U r (Z b) u):=λk q he=>by
        have h1:wr.heap.size<=k:=(B2.lt k q).1;have d:=(m.lt k he).2;omega
       have e3:∀p∈x,B6 p.2 (U r (Z b) u):=λp hp k q he=>by
        have h1:wr.heap.size<=k:=(World.ownsRow.lt (FT p hp) k q).1;have d:=(m.lt k he).2;omega
       rw[BA];exact⟨Am hH FO,Am B2 FO,λp hp=>Am (FT p hp) FO,e1,e2,e3⟩
      have H2:p7 (∀c∈b++[H],P3 (w5.setCell ⟨w.heap.size+1,0,Y⟩ (U (V ⟨v,0,Y⟩) (Z b+1) cap)) (w.heap.size+2) (U (V ⟨v,0,Y⟩) (Z b+1) cap) c):=by
       intro c g;have h0:P3 G (w.heap.size+2) (U r (Z b) u) c:=by
        rcases lw.1 g with g|g
        .exact((FW.out c g).kept (w':=wr.drew) (M:=[]) (pO [] wr).drew (by simp)).kept I
        .simp only[kY]at g;subst g;exact HO
       (have h1:∀o,P3 (G.alloc o) (w.heap.size+2) (U r (Z b) u) c:=λo=>h0.kept ((pO [] G).alloc o));have d:=P3.grown (n:=Z b+1) (cap:=cap) (h1 _) AO HW (by simp);exact d.kept ((pO [w.heap.size+1] w5).setCell (p:=⟨w.heap.size+1,0,Y⟩) (by simp) _)
      have H3:=((DT.alloc _).grown AO (Bg m w.heap.size (by omega))).zB ⟨w.heap.size+1,0,Y⟩ (by simp) (U (V ⟨v,0,Y⟩) (Z b+1) cap);have HX:=BT.set 0 (U (V ⟨v,0,Y⟩) (Z b+1) cap);have HL:=(((hK.drew.trans' I (by simp)).alloc _).grown AO (λk q=>oj (by have:=(m.lt k q).1;omega))).setCell (p:=⟨w.heap.size+1,0,Y⟩) (by simp) (U (V ⟨v,0,Y⟩) (Z b+1) cap);have CC:=Ag Go (p:=⟨w.heap.size+1,0,Y⟩) (by simp[pI];omega) (U (V ⟨v,0,Y⟩) (Z b+1) cap);rw[HN]at CC;have IJ:=HK;clear Go BT H9 K4 AO HW K9 A0 pc K6 HH hH B2 FT DT I HO m i l hK FW c0 c1 c2 p0 pf HN BA FP;(go_wp2_with fail);refine(DO w.heap.size s Q F _ EX MY H3).mono ?_;rintro e w6 ⟨rfl,K5,Ax⟩;have JA:=HX.kept Ax;have IS:=Ad CC Ax;(have LB:p7 (∀c∈b++[H],P3 w6 (w.heap.size+2) (U (V ⟨v,0,Y⟩) (Z b+1) cap) c):=λc g=>(H2.out c g).kept Ax);have K1:=HL.trans' Ax (by simp);clear H3 HX HL CC H2 Ax;go_wp2_with fail
      go_roundg (2*(s.size-AQ s Q F)+(if F then 0 else 1))
      case measure=>have h1:=H8.2.1;have d:=Aa IJ;simp at d;omega
      case rel=>
       obtain⟨t1,_,t3⟩:=H8;refine⟨AQ s Q F,F,b++[H],U (V ⟨v,0,Y⟩) (Z b+1) cap,t1,rfl,t3,K5,JA,?_,LB,K1⟩;simpa using IS
    ·(have FC:p7 ((b.map A4.erase,a,K)=(D,E,B)):=by have h:=A.out.rest;show _=_;simpa[Fj,Nh HP] using h);(have hd:decide ((a:Int)<(s.size:Int))=K:=by simp;omega);have FL:Cl wr (U r (Z b) u) b:=⟨Am m (lz _),λc g=>(FW.out c g).cvIn⟩;have EM:QV b:=gQ hs (by have:=A.out.len2 rfl;omega) A.out.lens (A.out.zK rfl);obtain⟨SP,FB⟩:=pN (CJ b);have ES:=Ab FB;have T:=bK (w.heap.size+1) _ b wr l FL EM;rw[FB]at T;have HT:=Ab T;have LM:=Ab FL;have K2:=Ab EM;clear T FB FL EM;(go_wp2_with fail);refine HT.mono ?_;rintro e w3 ⟨rfl,B0⟩;have HR:=hK.trans B0;have MB:=Ab (l.kept B0);have LE:=Ab (LM.kept B0);clear HT B0 hK c0 c1 c2 p0 pf i l m;have d:=FC.out;simp only[lZ]at d;obtain⟨L,sa⟩:=SP;simp only;by_cases C:L=0
     .have HZ:p7 (CI s 0 0):=HI.out 0 0 (by rw[<-d.2.2];exact⟨b,d.1,by rw[IL (by rw[Aa ES];exact C)]⟩);have KD:p7 (WT s (m2 (V ⟨w.heap.size+1,0,Y⟩)) 0 w3):=by
       intro _;refine⟨_,r,u,b,rfl,MB,LE,K2,hs,?_,?_,IL (by rw[Aa ES];exact C)⟩
       .rw[show Ae s 0=j from R.out.1,R.out.2];exact d.2.2.symm
       .rw[show Ae s 0=j from R.out.1,R.out.2];exact d.1
      (have Ix:(L !=0)=K:=by simp[C]);clear d C;(go_wp2_with fail);go_ret3;exact⟨_,0,0,rfl,HZ.out,KD.out,HR⟩
     .have HZ:p7 (CI s L sa):=HI.out L sa (by rw[<-d.2.2];exact⟨b,d.1,ES.symm⟩);(have Ix:(L !=0)=jj:=by simp[C]);have IA:=Ab C;clear d C;(go_wp2_with fail);go_ret3;exact⟨_,L,sa,rfl,HZ.out,(λh=>absurd h IA),HR⟩
structure Af where
 name:zA
 args:pM zA
structure Bv where
 f:Af
 av:p5
def Be(p:Bv):pM p5:=[O p.f.name,p.av]
def Dx(w:py)(p:Bv):Prop:=p9 w 0 9 1 p.av (Z p.f.args) (p.f.args.flatMap Ah)
def Dx.kept{w w':py}{p:Bv}(h:Dx w p)(k:Ac [] w w'):Dx w' p:=Ad h k
structure JP(f:Af):Prop where
 len:Z f.args<=1000
 each:∀x∈f.args,0<x.size/\x.size<=1000000
def Hz:pM zA->pM zA->Bool
 |[],[]=>jj
 |x::l,y::m=>(x.toList==y.toList)&&Hz l m
 |_,_=>K
def DJ(a b:Af):Bool:=(a.name.toList==b.name.toList)&&Hz a.args b.args
def Yc:∀(l m:pM zA) (k:Nat) (a:k<Z l) (b:k<Z m),Hz (l.drop k) (m.drop k)=((l[k].toList==m[k].toList)&&Hz (l.drop (k+1)) (m.drop (k+1)))
 |l,m,k,a,b=>by
  rw[lD a,lD b,Hz]
def Uc:∀{l m:pM zA},Hz l m=jj->Z l=Z m
 |[],[],_=>rfl
 |[],_::_,h=>by cases h
 |_::_,[],h=>by cases h
 |_::l,_::m,h=>by
  rw[Hz,lJ]at h;simp[Uc h.2]
def G0(h:p9 w n 9 1 z (Z e) (e.flatMap Ah))(k:Nat)(d:k<Z e):∃g a,z=U (V ⟨g,0,Y⟩) (Z e) a/\p8 w ⟨g,k,Y⟩=V (O e[k]):=by
 obtain⟨g,a,f,_,i⟩:=AC h (λc _=>rfl) k d;have b:=i k d 0 (by omega);simp[Ah]at b;exact⟨g,a,f,b⟩
theorem O4(a b:Bv)(w:py)(v:Dx w a)(t:Dx w b)(A1:Z a.f.args<=1000000)(Bx:Z b.f.args<=1000000):
  Calls prog 49 #[pC (ml (Be a)),pC (ml (Be b))] w λe w'=>e=oa (pE (DJ a.f b.f))/\Ac [] w w':=by
 obtain⟨⟨j,c⟩,av⟩:=a;obtain⟨⟨g,d⟩,bv⟩:=b;unfold Dx at v t;simp only at v t A1 Bx;obtain⟨p,o,rfl⟩:=Ak v;obtain⟨m,q,rfl⟩:=Ak t;obtain⟨S,D⟩:=pN (DJ ⟨j,c⟩ ⟨g,d⟩);rw[D];have s:p7 (((j.toList==g.toList)&&Hz c d)=S):=D;have HA:=Ab v;have HB:=Ab t;simp only[Be];have l:=Ab (((pO [] w).alloc (j3 [O j,U p (Z c) o].toArray 43)).alloc (j3 [O g,U m (Z d) q].toArray 43));have F:=(pP w [O j,U p (Z c) o] 43).alloc (j3 [O g,U m (Z d) q].toArray 43);have L:AF ((w.alloc (j3 [O j,U p (Z c) o].toArray 43)).alloc (j3 [O g,U m (Z d) q].toArray 43)) (w.heap.size+1) [O g,U m (Z d) q] 43:=by
  have M:=pP (w.alloc (j3 [O j,U p (Z c) o].toArray 43)) [O g,U m (Z d) q] 43;rw[show(w.alloc (j3 [O j,U p (Z c) o].toArray 43)).heap.size=w.heap.size+1 from by simp]at M
  exact M
 have B:=Ab F;have C:=Ab L;clear D v t F L;cases hn:(j.toList==g.toList)with
 |false=>
  have r:p7 (S=K):=by show _=_;rw[<-Aa s,hn];rfl
  have R:(j.toList !=g.toList)=jj:=by simp[bne,hn]
  clear s;go_enter func49,ntmps49;go_wp2;go_ret;rw[Aa r];exact⟨rfl,l⟩
 |true=>
  have R:(j.toList !=g.toList)=K:=by simp[bne,hn]
  by_cases u:Z c=Z d
  ·(have r:p7 (Hz (c.drop 0) (d.drop 0)=S):=by show _=_;rw[<-Aa s,hn];rfl);(have G:((Z c:Int) !=(Z d:Int))=K:=by simp[u]);(have Q:((Z c:Int)==(Z d:Int))=jj:=by simp[u]);have H:=Ab u;clear u s;go_enter func49,ntmps49;go_wp2;change Code.wp _ _ _ _ ((w.alloc (j3 [O j,U p (Z c) o].toArray 43)).alloc (j3 [O g,U m (Z d) q].toArray 43));generalize(w.alloc (j3 [O j,U p (Z c) o].toArray 43)).alloc (j3 [O g,U m (Z d) q].toArray 43)=w1 at l B C⊢;generalize w.heap.size=N at B C⊢;clear hn R G Q
   go_loopg [5] (Z c) (λgk i wr=>∃(k:Nat),i=X J k/\k<=Z c/\gk=Z c-k/\p7 (Hz (c.drop k) (d.drop k)=S)/\p7 (Ac [] w wr)/\p7 (Ac [] w1 wr))
   case atStart=>exact⟨0,rfl,by omega,rfl,r,l,pO _ _⟩
   case round=>
    clear r l;obtain⟨k,rfl,hk,I,z,l,y⟩:=hrel;have HG:=Ab I;clear I;have e1:=(B.kept y).cell 1;have e2:=(C.kept y).cell 1;simp at e1 e2;by_cases E:k<Z c
    ·(have W:k<Z d:=by have:=Aa H;omega);obtain⟨g1,q1,T,d1⟩:=G0 (Ad HA l) k E;obtain⟨g2,q2,P,d2⟩:=G0 (Ad HB l) k W;simp only[kS]at T P;obtain⟨rfl,_,rfl⟩:=T;obtain⟨rfl,_,rfl⟩:=P;have Dk:=Ab (Yc c d k E W);(have A:p7 (∀n,Ac [] w (wr.drewN n)/\Ac [] w1 (wr.drewN n)):=λn=>⟨l.drewN n,y.drewN n⟩);cases hx:(c[k].toList==d[k].toList)with
     |true=>
      (have Ax:(c[k].toList !=d[k].toList)=K:=by simp[bne,hx]);have x:p7 (Hz (c.drop (k+1)) (d.drop (k+1))=S):=by
       have h:=Aa z;rw[Aa Dk,hx]at h;exact h
      go_wp2_with fail
      go_quiet (fail)
      go_wp2
      go_roundg (Z c-(k+1))
      case measure=>have:=Aa HG;omega
      case rel=>exact⟨k+1,by go_num,by omega,rfl,x,(A _).1,(A _).2⟩
     |false=>
      (have Ax:(c[k].toList !=d[k].toList)=jj:=by simp[bne,hx]);have x:p7 (S=K):=by
       have h:=Aa z;rw[Aa Dk,hx]at h;exact h.symm
      go_wp2_with fail
      go_quiet (fail)
      go_wp2;go_ret;rw[Aa x];exact⟨rfl,(A _).1⟩
    .have x:p7 (S=jj):=by
      have h:=Aa z;rw[lS (by omega),lS (by have:=Aa H;omega)]at h;exact h.symm
     go_wp2;go_ret;rw[Aa x];exact⟨rfl,l⟩
  ·(have G:((Z c:Int) !=(Z d:Int))=jj:=by simp[bne];omega);(have Q:((Z c:Int)==(Z d:Int))=K:=by rw[lQ];omega);have r:p7 (S=K):=by
    show _=_;rw[<-Aa s,hn];cases h:Hz c d with
    |false=>rfl
    |true=>exact absurd (Uc h) u
   clear s;go_enter func49,ntmps49;go_wp2;go_ret;rw[Aa r];exact⟨rfl,l⟩
def Ei:pM zA->pM zA->Bool
 |[],m=>decide (0<Z m)
 |_::_,[]=>K
 |x::l,y::m=>if x.toList==y.toList then Ei l m else Gb x y
def CW(a b:Af):Bool:=if a.name.toList==b.name.toList then Ei a.args b.args else pK a.name.toList b.name.toList
def Wj(l m:pM zA)(k:Nat)(a:k<Z l)(b:k<Z m):Ei (l.drop k) (m.drop k)=if l[k].toList==m[k].toList then Ei (l.drop (k+1)) (m.drop (k+1))else Gb l[k] m[k]:=by
 rw[lD a,lD b,Ei]
def Q1(l m:pM zA)(k:Nat)(h:k<=Z l)(d:¬(k<Z l/\k<Z m))(c:k<=Z m):Ei (l.drop k) (m.drop k)=decide (Z l<Z m):=by
 by_cases b:k<Z l
 .have a:Z m<=k:=by omega
  rw[lD b,lS a,Ei];simp;omega
 .rw[lS (show Z l<=k by omega),Ei,mf];have:Z l=k:=by omega
  rw[this];by_cases a:k<Z m
  ·(have:0<Z m-k:=by omega);simp[a,this]
  ·(have:¬0<Z m-k:=by omega);simp[a,this]
theorem Tc(a b:Bv)(w:py)(t:Dx w a)(s:Dx w b)(G:JP a.f)(B:JP b.f):
  Calls prog 46 #[pC (ml (Be a)),pC (ml (Be b))] w λe w'=>e=oa (pE (CW a.f b.f))/\Ac [] w w':=by
 obtain⟨⟨j,c⟩,av⟩:=a;obtain⟨⟨g,d⟩,bv⟩:=b;unfold Dx at t s;have ES:=G.len;have BT:=B.len;have AB:=Ab G.each;have P:=Ab B.each;simp only at t s ES BT AB P;clear G B;obtain⟨q,m,rfl⟩:=Ak t;obtain⟨p,o,rfl⟩:=Ak s;obtain⟨S,I⟩:=pN (CW ⟨j,c⟩ ⟨g,d⟩);rw[I];have z:p7 ((if j.toList==g.toList then Ei c d else pK j.toList g.toList)=S):=I;have HA:=Ab t;have HB:=Ab s;simp only[Be];have l:=Ab (((pO [] w).alloc (j3 [O j,U q (Z c) m].toArray 43)).alloc (j3 [O g,U p (Z d) o].toArray 43));have M:=(pP w [O j,U q (Z c) m] 43).alloc (j3 [O g,U p (Z d) o].toArray 43);have AT:AF ((w.alloc (j3 [O j,U q (Z c) m].toArray 43)).alloc (j3 [O g,U p (Z d) o].toArray 43)) (w.heap.size+1) [O g,U p (Z d) o] 43:=by
  have hh:=pP (w.alloc (j3 [O j,U q (Z c) m].toArray 43)) [O g,U p (Z d) o] 43;rw[show(w.alloc (j3 [O j,U q (Z c) m].toArray 43)).heap.size=w.heap.size+1 from by simp]at hh
  exact hh
 have D:=Ab M;have E:=Ab AT;clear I t s M AT;cases hn:(j.toList==g.toList)with
 |false=>
  have v:p7 (pK j.toList g.toList=S):=by show _=_;rw[<-Aa z,hn];rfl
  have BA:(j.toList !=g.toList)=jj:=by simp[bne,hn]
  clear z;go_enter func46,ntmps46;go_wp2;go_ret;exact⟨Bs v.out,l⟩
 |true=>
  have BA:(j.toList !=g.toList)=K:=by simp[bne,hn]
  have v:p7 (Ei (c.drop 0) (d.drop 0)=S):=by show _=_;rw[<-Aa z,hn];rfl
  clear z;go_enter func46,ntmps46;go_wp2;change Code.wp _ _ _ _ ((w.alloc (j3 [O j,U q (Z c) m].toArray 43)).alloc (j3 [O g,U p (Z d) o].toArray 43));generalize(w.alloc (j3 [O j,U q (Z c) m].toArray 43)).alloc (j3 [O g,U p (Z d) o].toArray 43)=w1 at l D E⊢;generalize w.heap.size=N at D E⊢;clear hn BA
  go_loopg [5] (Z c) (λgk i wr=>∃(k:Nat),i=X J k/\k<=Z c/\k<=Z d/\gk=Z c-k/\p7 (Ei (c.drop k) (d.drop k)=S)/\p7 (Ac [] w wr)/\p7 (Ac [] w1 wr))
  case atStart=>exact⟨0,rfl,by omega,by omega,rfl,v,l,pO _ _⟩
  case round=>
   clear v l;obtain⟨k,rfl,R,A2,Ax,x,l,u⟩:=hrel;have HG:=Ab Ax;clear Ax;have H:=(D.kept u).cell 1;have C:=(E.kept u).cell 1;simp at H C;by_cases A:k<Z c
   .by_cases F:k<Z d
    .obtain⟨g1,q1,Bx,W⟩:=G0 (Ad HA l) k A;obtain⟨T,q2,A1,L⟩:=G0 (Ad HB l) k F;simp only[kS]at Bx A1;obtain⟨rfl,_,rfl⟩:=Bx;obtain⟨rfl,_,rfl⟩:=A1;have Dk:=Ab (Wj c d k A F);(have y:p7 (∀n,Ac [] w (wr.drewN n)/\Ac [] w1 (wr.drewN n)):=λn=>⟨l.drewN n,u.drewN n⟩);cases hx:(c[k].toList==d[k].toList)with
     |true=>
      (have B2:(c[k].toList !=d[k].toList)=K:=by simp[bne,hx]);have r:p7 (Ei (c.drop (k+1)) (d.drop (k+1))=S):=by
       have h:=Aa x;rw[Aa Dk,hx]at h;exact h
      go_wp2_with fail
      go_quiet (fail)
      go_wp2
      go_roundg (Z c-(k+1))
      case measure=>have:=Aa HG;omega
      case rel=>exact⟨k+1,by go_num,by omega,by omega,rfl,r,(y _).1,(y _).2⟩
     |false=>
      (have B2:(c[k].toList !=d[k].toList)=jj:=by simp[bne,hx]);have r:p7 (Gb c[k] d[k]=S):=by
       have h:=Aa x;rw[Aa Dk,hx]at h;exact h
      have AO:=Aa AB c[k] (kV A);have BS:=Aa P d[k] (kV F);go_wp2_with fail
      go_quiet (fail)
      (go_wp2_with fail);have EX:p8 (wr.drewN nq) ⟨N,1,Y⟩=V (U (V ⟨g1,0,Y⟩) (Z c) m):=H;have B0:p8 (wr.drewN nq) ⟨N+1,1,Y⟩=V (U (V ⟨T,0,Y⟩) (Z d) o):=C;have B9:p8 (wr.drewN nq) ⟨g1,k,Y⟩=V (O c[k]):=W;have CL:p8 (wr.drewN nq) ⟨T,k,Y⟩=V (O d[k]):=L;have Q:=Ab (y nq).1;clear y H C W L u l;generalize wr.drewN nq=wq at EX B0 B9 CL Q⊢
      go_quiet ((go_at_call 86;exact ol (NU _ _ _ AO.1 BS.1 AO.2 BS.2)))
      go_wp2;go_ret;exact⟨Bs r.out,Q.drewN _⟩
    ·(have EY:¬(k:Int)<(Z d:Int):=by omega);have r:p7 (decide (Z c<Z d)=S):=by
      show _=_;rw[<-Aa x,Q1 c d k R (by omega) A2]
     go_wp2;go_ret;exact⟨Bs r.out,l⟩
   .have r:p7 (decide (Z c<Z d)=S):=by
     show _=_;rw[<-Aa x,Q1 c d k R (by omega) A2]
    go_wp2;go_ret;exact⟨Bs r.out,l⟩
