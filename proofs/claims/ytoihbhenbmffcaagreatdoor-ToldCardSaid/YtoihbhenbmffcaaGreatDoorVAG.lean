import Derived.Deep.AppendSrc
import Derived.Test.YtoihbhenbmffcaaGreatDoorVAF
set_option linter.all false
set_option maxHeartbeats 0
open List renaming length->Z,toArray->D6
open Option renaming none->Y,some->V
open Go.Value renaming slice->U,int->X,string->O,pointer->Gi,agg->Ms,bool->No,ownBlock->OC
open Bool renaming false->K,true->Cm
open Go.IntKind renaming i64->J
open Go.Obj renaming cells->Dj
open Go.Ending renaming returned->G3
open Or renaming inl->Hd,inr->Hf
open Go renaming World->Hq,Value->Hs
open Go.RowKit renaming Hid->JR
open Go.World renaming cell?->Lc,ownsRow->Mi
open Prod renaming fst->O0
open Go.Op renaming bytesLess->Pf
namespace Go.Proofs.YtoihbhenbmffcaaGreatDoor
open Go.RowKit Go.Proofs.Tryz
variable{w:Hq}{i j m b:Nat}{T:TypeId}{y:QC Hs}
def Cc(v lv:Hs):Prop:=∀k,v.ownBlock=V k->lv.ownBlock≠V k
def Cc.zA{v f:Hs}{g n cap:Nat}(h:Cc v f)(l:Mi w i T j v m y)(a:f.ownBlock=V g\/g=b)(o:w.heap.size<=b):Cc v (U (V ⟨g,0,Y⟩) n cap):=by
 intro k c d;simp only[OC,lL]at d;subst d;rcases a with a|a
 .exact h g c a
 .have:=(l.lt g c).2;omega
section
variable {P:Program} (w:Hq)
def PP(t o e:TypeId)(i:TypeInfo)(k:P.underlying t=V (.slice e))(m:P.info? e=V i)(d:Option Addr)(n b:Nat)(l:n<=b)(f:Option Addr)(c:Nat):
  (Builtin.append_ #[t,t] o #[U d n b,U f 0 c]).run P w=.ok (U d n b) w:=by
 have g:(Builtin.firstCells i.size 0 (U f 0 c)).run P w=.ok #[] w:=by
  cases f with
  |none=>exact run_firstCells_none w i.size 0 0 c
  |some a=>exact run_firstCells_some w i.size 0 a 0 c [] (by simp) (λj u h=>by simp at h)
 cases d with
 |none=>simp[Builtin.append_,run_underlying k,sizeOf,typeInfo,m,Builtin.lenOf,l,g]
 |some a=>simp[Builtin.append_,run_underlying k,sizeOf,typeInfo,m,Builtin.lenOf,l,g,storeCells]
def Qc(t y:TypeId)(l:Nat)(e:TypeId)(i:TypeInfo)(z:Hs)(b B:Nat)(C:P.underlying t=V (.slice e))(D:P.info? e=V i)(W:i.zero=V z)
  (F:i.size=b) (Ax:i.bytes=B) (AR:z.cells.size=b) (S:0<b)
  (f:Option Addr) (n a:Nat) (x:QC Hs) (s:Mi w l e b (U f n a) n x)
  (b2:Nat) (p:Option Addr) (m c:Nat) (k:QC Hs) (r:Mi w b2 e b (U p m c) m k) (M:∀u∈k,u.oneCell'=Cm)
  (Q:n+m<=maxLen) (AT:(n+m)*B<=140737488355328) (L:l<=w.heap.size):
  ∃v d j,(Builtin.append_ #[t,t] y #[U f n a,U p m c]).run P w=.ok (U v (n+m) d) j/\
   Mi j l e b (U v (n+m) d) (n+m) (x++k)/\w.grownBy j (U f n a).ownBlock/\(∀q,(U v (n+m) d).ownBlock=V q->(U f n a).ownBlock=V q\/q=w.heap.size):=by
 rcases Nat.eq_zero_or_pos m with A|A
 .subst A;have T:k=[]:=oZ (by have:=r.1;omega);subst T;have N:n<=a:=by
   rcases s.2 with⟨h,H⟩|⟨g,d,R,h,_,_,hc,_⟩
   .omega
   .simp only[lB]at h;omega
  refine⟨f,a,w,PP w t y e i C D f n a N p c,by simpa using s,⟨rfl,rfl,rfl,lX _,λ_ _ _=>rfl⟩,λq o=>Hd o⟩
 .have hx:∃g,p=V ⟨g,0,Y⟩:=by
   rcases r.2 with⟨h,H⟩|⟨g,d,R,h,_⟩
   .omega
   .simp only[lB]at h;exact⟨g,h.1⟩
  obtain⟨g,rfl⟩:=hx;obtain⟨g1,d,j,G,r2,E,I,r5⟩:=run_append_lies (P:=P) w t y l e i z b B C D W F Ax AR S (U f n a) n x s ⟨g,0,Y⟩ m c k r.1 (r.cells rfl) M A Q AT L _ rfl;refine⟨_,d,j,G,r2,E,λq o=>?_⟩;simp only[OC,lL]at o;subst o;exact I
def L3{o:Oper}{a:Act}{A:Act->Hq->Prop}{Q:Exit->Act->Hq->Prop}(s x:Operand)(t:TypeId)
  (R:o.op=.call {callee:=.builtin .append,args:=#[s,x],argTypes:=#[t,t]})
  (l:Nat) (e:TypeId) (i:TypeInfo) (z:Hs) (b y:Nat) (F:P.underlying t=V (.slice e)) (hi:P.info? e=V i) (M:i.zero=V z)
  (D:i.size=b) (S:i.bytes=y) (AO:z.cells.size=b) (N:0<b)
  (g:Option Addr) (n k:Nat) (v:QC Hs) (hs:a.eval s=U g n k) (C:Mi w l e b (U g n k) n v)
  (B:Nat) (r:Option Addr) (m c:Nat) (p:QC Hs) (hx:a.eval x=U r m c) (AT:Mi w B e b (U r m c) m p) (I:∀u∈p,u.oneCell'=Cm)
  (L:n+m<=maxLen) (AR:(n+m)*y<=140737488355328) (G:l<=w.heap.size)
  (h:∀j f d,Mi d l e b (U j (n+m) f) (n+m) (v++p)->w.grownBy d (U g n k).ownBlock->(∀q,(U j (n+m) f).ownBlock=V q->(U g n k).ownBlock=V q\/q=w.heap.size)->A (a.put o.dst (U j (n+m) f)) d):o.wp P a w A Q:=by
 obtain⟨j,f,d,T,E,W,H⟩:=Qc (P:=P) w t o.type l e i z b y F hi M D S AO N g n k v C B r m c p AT I L AR G;unfold Oper.wp execOp;simp only[R,resolve,invoke,builtin,pD,Sem.run_pure,Result.andThen_ok,List.map_toArray,l9,nE,hs,hx,T];exact h j f d E W H
def IB{A:Array Oper}{C:QC Oper}{o:Oper}{a:Act}{Q:Exit->Act->Hq->Prop}(D:o.guard=Y)(s x:Operand)(t:TypeId)
  (W:o.op=.call {callee:=.builtin .append,args:=#[s,x],argTypes:=#[t,t]})
  (l:Nat) (e:TypeId) (i:TypeInfo) (z:Hs) (b y:Nat) (H:P.underlying t=V (.slice e)) (hi:P.info? e=V i) (S:i.zero=V z)
  (F:i.size=b) (Ax:i.bytes=y) (AT:z.cells.size=b) (T:0<b)
  (g:Option Addr) (n k:Nat) (v:QC Hs) (hs:a.eval s=U g n k) (E:Mi w l e b (U g n k) n v)
  (B:Nat) (r:Option Addr) (m c:Nat) (p:QC Hs) (hx:a.eval x=U r m c) (A1:Mi w B e b (U r m c) m p) (N:∀u∈p,u.oneCell'=Cm)
  (R:n+m<=maxLen) (A0:(n+m)*y<=140737488355328) (I:l<=w.heap.size)
  (h:∀j f d,Mi d l e b (U j (n+m) f) (n+m) (v++p)->w.grownBy d (U g n k).ownBlock->(∀q,(U j (n+m) f).ownBlock=V q->(U g n k).ownBlock=V q\/q=w.heap.size)->wpList P A Q C (a.put o.dst (U j (n+m) f)) d):wpList P A Q (o::C) a w:=
 wpList_plain D λ_ M=>L3 w s x t W l e i z b y H hi S F Ax AT T g n k v hs E B r m c p hx A1 N R A0 I λj f d G h3 L=>M _ _ (h j f d G h3 L)
def J1{R:Array Oper}{o:Oper}{a:Act}{A:Act->Hq->Prop}{Q:Exit->Act->Hq->Prop}{E:Prop}(C:o.guard=Y)(s x:Operand)(t:TypeId)
  (S:o.op=.call {callee:=.builtin .append,args:=#[s,x],argTypes:=#[t,t]})
  (g:Nat) (e:TypeId) (i:TypeInfo) (z:Hs) (b y:Nat) (G:P.underlying t=V (.slice e)) (hi:P.info? e=V i) (M:i.zero=V z)
  (F:i.size=b) (T:i.bytes=y) (AH:z.cells.size=b) (N:0<b)
  (d:Option Addr) (n f:Nat) (v:QC Hs) (W:a.eval s=U d n f) (D:Mi w g e b (U d n f) n v)
  (B:Nat) (p:Option Addr) (m c:Nat) (j:QC Hs) (hx:a.eval x=U p m c) (AR:Mi w B e b (U p m c) m j) (I:∀u∈j,u.oneCell'=Cm)
  (L:n+m<=maxLen) (AO:(n+m)*y<=140737488355328) (H:g<=w.heap.size)
  (h:∀r l k,Mi k g e b (U r (n+m) l) (n+m) (v++j)->w.grownBy k (U d n f).ownBlock->(∀q,(U r (n+m) l).ownBlock=V q->(U d n f).ownBlock=V q\/q=w.heap.size)->A (a.put o.dst (U r (n+m) l)) k):
  if Region.wanted o (yielded R a.tmps)=Cm then Oper.wp P o a w A Q else E:=by
 rw[lS (by unfold Region.wanted;simp[C])];exact L3 w s x t S g e i z b y G hi M F T AH N d n f v W D B p m c j hx AR I L AO H h
end
end Go.Proofs.YtoihbhenbmffcaaGreatDoor
namespace Go.Proofs.YtoihbhenbmffcaaGreatDoor
open Go.RowKit Go.Proofs.Tryz
variable{M:QC Nat}{n k i m:Nat}{w u v:Hq}{z:Hs}{s:bC}{e:QC bC}{P:Program}{Q:Exit->Act->Hq->Prop}{a:Act}{B:Bool}{g:UInt8}{T:TypeId}{y:QC Hs}
theorem Tryz.info95:(Tryz.prog.info? 95).map (λi=>(i.zero,i.size,i.bytes))=V (V (Ms #[X .u8 0,O ⟨#[]⟩,U Y 0 0,X J 0,X .u8 0,O ⟨#[]⟩,X .u8 0,O ⟨#[]⟩,X J 0]),9,112):=by kernel_rfl
abbrev Be:=Bp×Hs
def DH(l:QC Be):QC Hs:=l.flatMap λp=>Cn p.1 p.2
def Ca(w:Hq)(base:Nat)(p:Be):Prop:=Mi w base 93 2 p.2 (Z p.1.A.args) (p.1.A.args.flatMap AX)
def Ca.kept{w w':Hq}{p:Be}(h:Ca w n p)(k:Ac M w w')(a:∀i,i∈M->i<n:=by simp):Ca w' n p:=Ad h k a
def Ca.grown{p:Be}(h:Ca w n p)(k:w.grownBy u z.ownBlock)(a:Cc p.2 z):Ca u n p:=
 m0 (v:=p.2) h k (by
  cases hv:p.2.ownBlock with
  |none=>exact Hd rfl
  |some k=>exact Hf (λe=>a k hv e.symm))
def Ca.alloc{w:Hq}{a:Nat}{p:Be}(h:Ca w a p)(o:Obj):Ca (w.alloc o) a p:=lM h o
set_option maxRecDepth 100000
theorem Xs(b:Nat)(s:bC)(h:Nat)(w:Hq)(hs:s.size<=1000000)(HG:h<=s.size)(hB:AI w b (B1 s h K) 73):
  Calls prog 81 #[Gi (V ⟨b,0,Y⟩)] w λe S=>∃(bv:Hs) (T:QC Be),e=G3 bv/\T.map O0=(A4 s h).1/\
   Mi S w.heap.size 95 9 bv (Z T) (DH T)/\(∀p∈T,Ca S w.heap.size p)/\AI S b (B1 s (A4 s h).2.1 (A4 s h).2.2) 73/\Ac [b] w S:=by
 obtain⟨i0,HF,FL,HI,HA⟩:=mH Tryz.info95;have HO:=hB.lt;obtain⟨L,v,o,hL⟩:∃L v o,A4 s h=(L,v,o):=⟨_,_,_,rfl⟩;rw[hL];have HL:JR (A4 s h=(L,v,o)):=hL;clear hL;go_enter func81,ntmps81;go_wp2_with fail
 go_loopg [3,4] (2*(s.size-h)+1) (λk l Ha wr=>∃(r j:Bool) (a:Nat) (c:QC Be),Ha=No r/\a<=s.size/\Z c<=a+1/\((r&& !j)=Cm->Z c<=a)/\
  k=2*(s.size-a)+(if(r&& !j)=Cm then 1 else 0)/\JR (ET s r j a (c.map O0) (L,v,o))/\AI wr b (B1 s a j) 73/\
  Mi wr w.heap.size 95 9 l (Z c) (DH c)/\JR (∀p∈c,Ca wr w.heap.size p/\Cc p.2 l)/\Ac [b] w wr)
 case atStart=>
  refine⟨Cm,K,h,[],rfl,HG,by simp,by simp,by simp,?_,hB,mf _ _ _ _,λp f=>by simp at f,SF _ _⟩;show ET _ _ _ _ _ _;unfold ET;simp[HL.out]
 case round=>
  obtain⟨r,j,a,c,rfl,ha,A0,R,B,z,y,n,Ax,D⟩:=hrel;have M:JR (gk=2*(s.size-a)+(if(r&& !j)=Cm then 1 else 0)):=B;clear B;obtain⟨ad,cp,rfl⟩:=Cy n;cases r with
  |false=>
   have E:=z.out.done rfl;have HD:JR (c.map O0=L/\a=v/\j=o):=E;clear A0 R M z E;go_wp2;go_ret;obtain⟨d1,d2,d3⟩:=HD.out;subst d2 d3;exact⟨_,c,rfl,d1,n,λp f=>(Ax.out p f).1,y,D⟩
  |true=>
   cases j with
   |true=>
    have E:=z.out.done rfl;have HD:JR (c.map O0=L/\a=v/\Cm=o):=E;have A1:=y.cell 2;simp[B1]at A1;clear A0 R M z E;go_wp2;go_ret;obtain⟨d1,d2,d3⟩:=HD.out;subst d2 d3;exact⟨_,c,rfl,d1,n,λp f=>(Ax.out p f).1,y,D⟩
   |false=>
    have A1:=y.cell 2;simp[B1]at A1;have HT:=y.lt;have FT:Z c<=a:=R rfl;clear A0 R;obtain⟨t,i,d,I⟩:∃t i d,Dd s a=(t,i,d):=⟨_,_,_,rfl⟩;(have HM:i<=s.size:=by have:=L7 s a ha;rw[I]at this;exact this);have HS:=z.out.step I ha (by simpa using FT);obtain⟨m,hm⟩:=QP (!d&&Ej s (AQ s i d) 44);obtain⟨g,B9⟩:=QP (B7 s i d 44);rw[hm,B9]at HS;obtain⟨W,q2,q3,q4,P⟩:=HS;have C:JR (Dd s a=(t,i,d)/\(!d&&Ej s (AQ s i d) 44)=m/\B7 s i d 44=g/\g<=s.size/\Z (c.map O0++[t])<=g+1/\((m&& !d)=Cm->Z (c.map O0++[t])<=g)/\2*(s.size-g)+(if(m&& !d)=Cm then 1 else 0)<gk/\ET s m d g (c.map O0++[t]) (L,v,o)):=
     ⟨I,hm,B9,W,q2,q3,by have:=M.out;simp at this;omega,P⟩
    clear I hm B9 W q2 q3 q4 P M z;(go_wp2_with fail);refine(gX b s a _ hs ha y).mono ?_;rintro e Q ⟨av,rfl,u,AO,H⟩;rw[C.out.1]at AO u⊢;obtain⟨x,q,rfl⟩:=Cy u;have FB:=Ad n H (by simp;omega);have FP:=H.size;have FC:=D.size;simp only[Cn];simp only at u;go_wp2_with (at_builtin;refine me _ rfl _ _ _ rfl w.heap.size 95 i0 _ 9 112 underlying80 HF FL HI HA rfl (by omega) (U ad (Z c) cp) (Z c) (DH c) rfl (FB.alloc _) ⟨Q.heap.size,0,Y⟩ 1 1 (Cn t (U x (Z t.A.args) q)) rfl rfl (mg (mo Q _)) (by simp[Value.oneCell',Cn]) (by omega) (by unfold maxLen;omega) (by omega) (by simp;omega) (Q.heap.size+1) (by simp) ?_;intro gg E0 w5 BT F B0 HR)
    have HP:=(BT.lt gg rfl).1;have FA:=(AO.alloc _).grown F (by have:=Bh n b (by omega);simpa using this);have CC:=((D.trans H).alloc _).grown F (λk B=>Hf ((n.lt k B).1));have BB:JR (∀p∈c++[(t,(U x (Z t.A.args) q:Hs))],Ca w5 w.heap.size p/\Cc p.2 (U (V ⟨gg,0,Y⟩) (Z c+1) E0)):=by
     intro p f;rcases lV.1 f with f|f
     .obtain⟨h1,G⟩:=Ax.out p f;have AB:=h1.kept H (by simp;omega);exact⟨(AB.alloc _).grown F G,Cc.zA G AB B0 (by omega)⟩
     .simp only[lG]at f;subst f;have G:Cc (U x (Z t.A.args) q) (U ad (Z c) cp):=by
       intro k B he;have:=(u.lt k B).1;have:=(n.lt k he).2;omega
      have AB:Ca Q w.heap.size (t,U x (Z t.A.args) q):=Al u (by omega);exact⟨(AB.alloc _).grown F G,Cc.zA G u B0 (by omega)⟩
    clear Ax u AO H FB F B0 n y D FP FC;(go_wp2_with fail);refine(NF b s i d 44 44 _ rfl hs HM FA).mono ?_;rintro e w6 ⟨rfl,ES,N⟩;have FF:=Ad BT N (by simp;omega);have Go:=CC.trans N;have HC:JR (∀p∈c++[(t,(U x (Z t.A.args) q:Hs))],Ca w6 w.heap.size p/\Cc p.2 (U (V ⟨gg,0,Y⟩) (Z c+1) E0)):=
     λp f=>⟨(BB.out p f).1.kept N (by simp;omega),(BB.out p f).2⟩
    rw[C.out.2.2.1]at ES;rw[C.out.2.1];clear FA CC N BT BB;go_wp2_with fail
    go_roundg (2*(s.size-g)+(if(m&& !d)=Cm then 1 else 0))
    case measure=>exact C.out.2.2.2.2.2.2.1
    case rel=>
     obtain⟨_,_,_,W,q2,q3,_,P⟩:=C.out;refine⟨m,d,g,c++[(t,U x (Z t.A.args) q)],rfl,W,by simpa using q2,by simpa using q3,rfl,?_,ES,?_,HC,Go⟩
     .show ET _ _ _ _ _ _;simpa using P
     .simpa[DH] using FF
structure CG where
 head:C8
 body:QC Bp
 at_:Nat
def DI(c:CG)(hv bv:Hs):QC Hs:=[O c.head.name,hv,X J c.head.at_,bv,X J c.at_]
def DL(s:bC)(a1:Nat)(b1:Bool):QC Bp×Nat×Bool:=
 if !b1&&Ej s (AQ s a1 b1) 58 then(if Ej s (B7 s a1 b1 58) 45 then A4 s (B7 s a1 b1 58+1)else([],B7 s a1 b1 58,Cm))else([],B7 s a1 b1 58,b1)
def Ao(s:bC)(at_:Nat):CG×Nat×Bool:=
 let A:=A3 s (Ae s at_) K
 let B:=DL s A.2.1 A.2.2
 (⟨A.1,B.1,Ae s at_⟩,Bz s B.2.1 B.2.2 46)
theorem Zn(b:Nat)(s:bC)(E j:Nat)(w:Hq)(A:C8)(n g a3:Nat)(f b3:Bool)(L:QC Bp)(a4:Nat)(b4:Bool)(hs:s.size<=1000000)(HV:E<=s.size)
  (k:JR (Ae s E=j/\A3 s j K=(A,n,f)/\B7 s n f 58=g/\DL s n f=(L,a3,b3)/\Bz s a3 b3 46=(a4,b4))) (hB:AI w b (B1 s E K) 73):
  Calls prog 44 #[Gi (V ⟨b,0,Y⟩)] w λe w'=>∃(hv bv:Hs) (a:QC Be),e=G3 (Ms (D6 (DI ⟨A,L,j⟩ hv bv)))/\Mi w' w.heap.size 93 2 hv (Z A.args) (A.args.flatMap AX)/\
   a.map O0=L/\Mi w' w.heap.size 95 9 bv (Z a) (DH a)/\(∀p∈a,Ca w' w.heap.size p)/\AI w' b (B1 s a4 b4) 73/\Ac [b] w w':=by
 have K7:=hB.lt;have HW:j<=s.size:=by have:=BD s E HV;have:=k.out.1;omega
 have HD:n<=s.size:=by have:=Jv s j K HW;rw[k.out.2.1]at this;exact this
 have Ha:g<=s.size:=by have:=Eb s n f 58 HD;rw[k.out.2.2.1]at this;exact this
 go_enter func44,ntmps44;go_wp2_with fail
 refine(DR b s E K _ hs HV (hB.alloc _)).mono ?_;rintro e w1 ⟨rfl,T,hK⟩;rw[show AQ s E K=j from k.out.1]at T
 have hn:=(Tc w _ _).kept hK (by simp;omega);have HG:=((SF [b] w).alloc _).trans hK;clear hB hK;have K2:=T.lt;have H6:=hn.lt;have u:=T.cell 1;simp[B1]at u;go_wp2_with fail
 refine(Rx b s j K _ hs HW (T.alloc _)).mono ?_;rintro e w2 ⟨hv,rfl,o,FF,BA⟩;rw[k.out.2.1]at FF o⊢;have B:=(Tc w1 _ _).kept BA (by simp;omega);have H2:=(hn.alloc _).kept BA (by simp;omega);have HO:=(HG.alloc _).trans BA;have HM:=BA.size;simp only[mt]at o HM;obtain⟨N,hN⟩:=QP w1.heap.size;rw[hN]at B o HM⊢;have K5:b<N:=by omega
 have LE:w.heap.size<N:=by omega
 clear HG T hn K2 H6 u BA hN;obtain⟨S,P,rfl⟩:=Cy o
 try simp only at o
 have e0:=B.cell 0;have e1:=B.cell 1;have e2:=B.cell 2;have HN:=B.frozen;simp at e0 e1 e2;simp only[CB];go_wp2_with fail
 have HF:=((FF.bI ⟨N,0,Y⟩ (by simp;omega) (O A.name)).bI ⟨N,1,Y⟩ (by simp;omega) (U S (Z A.args) P)).bI ⟨N,2,Y⟩ (by simp;omega) (X J A.at_);have EY:=((B.set 0 (O A.name)).set 1 (U S (Z A.args) P)).set 2 (X J A.at_);have H3:=((H2.bI ⟨N,0,Y⟩ (by simp;omega) (O A.name)).bI ⟨N,1,Y⟩ (by simp;omega) (U S (Z A.args) P)).bI ⟨N,2,Y⟩ (by simp;omega) (X J A.at_);have HK:=((HO.setCell (p:=⟨N,0,Y⟩) (by simp;omega) (O A.name)).setCell (p:=⟨N,1,Y⟩) (by simp;omega) (U S (Z A.args) P)).setCell (p:=⟨N,2,Y⟩) (by simp;omega) (X J A.at_);have H4:=Ah (Ah (Ah o (p:=⟨N,0,Y⟩) (by simpa using Bh o N (by omega)) (O A.name)) (p:=⟨N,1,Y⟩) (by simpa using Bh o N (by omega)) (U S (Z A.args) P)) (p:=⟨N,2,Y⟩) (by simpa using Bh o N (by omega)) (X J A.at_);simp only[lC,lD]at EY;clear FF B H2 HO o e0 e1 e2 HN;refine(NF b s n f 58 58 _ rfl hs HD HF).mono ?_;rintro e C ⟨rfl,d,A0⟩;rw[k.out.2.2.1]at d;have t:=EY.kept A0 (by simp;omega);have r:=H3.kept A0 (by simp;omega);have v:=HK.trans A0;have m:=Ad H4 A0 (by simp;omega);clear HF EY H3 HK H4 A0;have K8:=t.lt;have LC:=d.lt;have K4:=r.lt;have hQ:(!f&&Ej s (AQ s n f) 58)=K\/((!f&&Ej s (AQ s n f) 58)=Cm/\¬g<s.size)\/((!f&&Ej s (AQ s n f) 58)=Cm/\g<s.size/\Ej s g 45=K)\/((!f&&Ej s (AQ s n f) 58)=Cm/\Ej s g 45=Cm):=by
  cases(!f&&Ej s (AQ s n f) 58)<;>cases Ej s g 45<;>simp
  omega
 rcases hQ with i|⟨i,BB⟩|⟨i,BB,q⟩|⟨i,q⟩
 case' inl=>
  rw[i];have c:=k.out.2.2.2.1;unfold DL at c;rw[i,k.out.2.2.1]at c;simp only[lJ,if_false,mA]at c;obtain⟨z,r2,r3⟩:=c;subst r2 r3;have B9:=Ha;obtain⟨a,h⟩:∃a:QC Be,JR (a.map O0=L)/\a=[]:=⟨[],by show _=_;rw[<-z];rfl,rfl⟩;have R:=d;have Q:=t;have AR:=r;have AH:=v;have AB:=m;have Ax:Mi C (N+1) 95 9 (U Y 0 0) (Z a) (DH a):=by rw[h.2];exact mf _ _ _ _
  have A1:JR (∀p∈a,Ca C (N+1) p):=by rw[h.2];intro p l;simp at l
  replace h:=h.1
  clear d t r v m z i
 case' inr.inl=>
  have A2:f=K:=by cases f<;>simp_all
  subst A2;rw[i];have c:=k.out.2.2.2.1;unfold DL at c;rw[i,k.out.2.2.1]at c;simp only[if_true]at c;have H:=d.cell 0;have u:=d.cell 1;have G:=d.cell 2;have FA:=d.frozen;simp[B1]at H u G;have q:Ej s g 45=K:=gc BB 45;rw[q]at c;simp only[lJ,if_false,mA]at c;obtain⟨z,r2,r3⟩:=c;subst r2 r3;have B9:=Ha;obtain⟨a,h⟩:∃a:QC Be,JR (a.map O0=L)/\a=[]:=⟨[],by show _=_;rw[<-z];rfl,rfl⟩;clear z i;have K6:decide ((g:Int)<(s.size:Int))=K:=by simp;omega
  have LL:decide (g<s.size)=K:=by simp;omega
  go_wp2_with fail
  go_quiet (fail)
  have R:=(d.drewN nq).set 2 (No Cm);have Q:=(t.drewN nq).bI ⟨b,2,Y⟩ (by simp;omega) (No Cm);have AR:=(r.drewN nq).bI ⟨b,2,Y⟩ (by simp;omega) (No Cm);have AH:=(v.drewN nq).setCell (p:=⟨b,2,Y⟩) (by simp) (No Cm);have AB:=Ah (DJ m nq) (p:=⟨b,2,Y⟩) (by simpa using Bh m b (by omega)) (No Cm);have Ax:Mi ((C.drewN nq).setCell ⟨b,2,Y⟩ (No Cm)) (N+1) 95 9 (U Y 0 0) (Z a) (DH a):=by rw[h.2];exact mf _ _ _ _
  have A1:JR (∀p∈a,Ca ((C.drewN nq).setCell ⟨b,2,Y⟩ (No Cm)) (N+1) p):=by rw[h.2];intro p l;simp at l
  replace h:=h.1
  clear d t r v m
 case' inr.inr.inl=>
  have A2:f=K:=by cases f<;>simp_all
  subst A2;rw[i];have c:=k.out.2.2.2.1;unfold DL at c;rw[i,k.out.2.2.1]at c;simp only[if_true]at c;have H:=d.cell 0;have u:=d.cell 1;have G:=d.cell 2;have FA:=d.frozen;simp[B1]at H u G;rw[q]at c;simp only[lJ,if_false,mA]at c;obtain⟨z,r2,r3⟩:=c;subst r2 r3;have B9:=Ha;obtain⟨a,h⟩:∃a:QC Be,JR (a.map O0=L)/\a=[]:=⟨[],by show _=_;rw[<-z];rfl,rfl⟩;clear z i;have H7:(g:Int)<(s.size:Int):=by omega
  have hq:((s[g].toNat:Int)==45)=K:=by rw[<-q];exact(Jc BB 45).symm
  go_wp2_with fail
  go_quiet (fail)
  have R:=(d.drewN nq).set 2 (No Cm);have Q:=(t.drewN nq).bI ⟨b,2,Y⟩ (by simp;omega) (No Cm);have AR:=(r.drewN nq).bI ⟨b,2,Y⟩ (by simp;omega) (No Cm);have AH:=(v.drewN nq).setCell (p:=⟨b,2,Y⟩) (by simp) (No Cm);have AB:=Ah (DJ m nq) (p:=⟨b,2,Y⟩) (by simpa using Bh m b (by omega)) (No Cm);have Ax:Mi ((C.drewN nq).setCell ⟨b,2,Y⟩ (No Cm)) (N+1) 95 9 (U Y 0 0) (Z a) (DH a):=by rw[h.2];exact mf _ _ _ _
  have A1:JR (∀p∈a,Ca ((C.drewN nq).setCell ⟨b,2,Y⟩ (No Cm)) (N+1) p):=by rw[h.2];intro p l;simp at l
  replace h:=h.1
  clear d t r v m
 case' inr.inr.inr=>
  have A2:f=K:=by cases f<;>simp_all
  subst A2;rw[i];have c:=k.out.2.2.2.1;unfold DL at c;rw[i,k.out.2.2.1]at c;simp only[if_true]at c;have H:=d.cell 0;have u:=d.cell 1;have G:=d.cell 2;have FA:=d.frozen;simp[B1]at H u G;rw[q]at c;simp only[if_true]at c;have BB:=F4 q;have H7:(g:Int)<(s.size:Int):=by omega
  have hq:((s[g].toNat:Int)==45)=Cm:=by rw[<-q];exact(Jc BB 45).symm
  have B9:a3<=s.size:=by have:=Sa s (g+1) (by omega);rw[c]at this;exact this
  have HR:JR (A4 s (g+1)=(L,a3,b3)):=c;clear c i q;go_wp2_with fail
  go_quiet (fail)
  clear hq;go_wp2_with fail
  refine(Xs b s (g+1) _ hs (by omega) ((d.drewN nq).set 1 _)).mono ?_;rintro e w4 ⟨bv,a,rfl,FB,H1,HY,HC,F⟩;rw[HR.out]at HC FB;have h:JR (a.map O0=L):=FB;have FW:=((t.drewN nq).bI ⟨b,1,Y⟩ (by simp;omega) _).kept F (by simp;omega);have HT:=((r.drewN nq).bI ⟨b,1,Y⟩ (by simp;omega) _).kept F (by simp;omega);have HZ:=((v.drewN nq).setCell (p:=⟨b,1,Y⟩) (by simp) _).trans F;have FP:=Ad (Ah (DJ m nq) (p:=⟨b,1,Y⟩) (by simpa using Bh m b (by omega)) _) F (by simp;omega);have B0:Mi w4 (N+1) 95 9 bv (Z a) (DH a):=Al H1 (by simp;omega);have EX:JR (∀p∈a,Ca w4 (N+1) p):=λp l=>Al (HY p l) (by simp;omega)
  have E0:=F.size;simp only[World.size_setCell]at E0;have K3:C.heap.size<=w4.heap.size:=E0;clear d t r v m F H1 HY FB H u G FA E0;obtain⟨x,y,rfl⟩:=Cy B0;have e3:=FW.cell 3;have HN:=FW.frozen 3;simp at e3;have R:=HC.bI ⟨N,3,Y⟩ (by simp;omega) (U x (Z a) y);have Q:=FW.set 3 (U x (Z a) y);have AR:=HT.bI ⟨N,3,Y⟩ (by simp;omega) (U x (Z a) y);have AH:=HZ.setCell (p:=⟨N,3,Y⟩) (by simp;omega) (U x (Z a) y);have AB:=Ah FP (p:=⟨N,3,Y⟩) (by simpa using Bh FP N (by omega)) (U x (Z a) y);have Ax:=Ah B0 (p:=⟨N,3,Y⟩) (by simpa using Bh B0 N (by omega)) (U x (Z a) y);have A1:JR (∀p∈a,Ca (w4.setCell ⟨N,3,Y⟩ (U x (Z a) y)) (N+1) p):=λp l=>Ah (EX.out p l) (by simpa using Bh (EX.out p l) N (by omega)) _
  clear HC HT HZ FP B0 EX
 all_goals
  have K9:=R.lt;have LM:=Q.lt;go_wp2_with fail
  refine(Oa b s _ _ 46 46 _ rfl hs B9 R).mono ?_;rintro e w6 ⟨rfl,HP,D⟩;have CC:=k.out.2.2.2.2;simp only[Bz,mA]at CC;rw[CC.1,CC.2]at HP;have IA:=Q.kept D (by simp;omega);have FO:=AR.kept D (by simp;omega);have IJ:=AH.trans D;have Jx:=Ad AB D (by simp;omega);have H8:=Ad Ax D (by simp;omega);have JA:JR (∀p∈a,Ca w6 (N+1) p):=λp l=>(A1.out p l).kept D (by simp;omega)
  clear R Q AR AH AB Ax D CC A1;have I:=IA.cell;have M:=FO.cell;have LB:=FO.frozen;have e0:=I 0;have e1:=I 1;have e2:=I 2;have e3:=I 3;have e4:=I 4;have f0:=M 0;have f1:=M 1;have f2:=M 2;have f3:=M 3;have f4:=M 4;simp at e0 e1 e2 e3 e4 f0 f1 f2 f3 f4;clear I M;go_wp2;have W:∀{v0 v1 v2 v3 v4:Hs},Ac [w.heap.size] w6 (((((w6.setCell ⟨w.heap.size,0,Y⟩ v0).setCell ⟨w.heap.size,1,Y⟩ v1).setCell ⟨w.heap.size,2,Y⟩ v2).setCell ⟨w.heap.size,3,Y⟩ v3).setCell ⟨w.heap.size,4,Y⟩ v4):=by
   intro v0 v1 v2 v3 v4
   repeat (refine Ac.setCell ?_ (by simp) _)
   exact SF _ _
  refine mj (Cg rfl rfl (((((FO.set 0 _).set 1 _).set 2 _).set 3 _).set 4 _) underlying82 rfl (by kernel_rfl)) rfl ⟨U S (Z A.args) P,by first|exact U x (Z a) y|exact U Y 0 0,a,?_,?_,?_,?_,?_,?_,?_⟩
  .simp[DI]
  .exact Al (Ad Jx W (by simp;omega)) (by omega)
  .exact h.out
  .exact Al (Ad H8 W (by simp;omega)) (by omega)
  .exact λp l=>Al ((JA.out p l).kept W (by simp;omega)) (by omega)
  .exact HP.kept W (by simp;omega)
  .exact IJ.trans' W (by simp)
def dU(s:bC)(a:Nat)(c:Bool)(h:a<=s.size):(DL s a c).2.1<=s.size:=by
 have b:=Eb s a c 58 h;unfold DL;split
 .split
  .rename_i d;exact Sa _ _ (by have:=F4 d;omega)
  .exact b
 .exact b
def XD(s:bC)(a:Nat)(b:Bool):a<=(DL s a b).2.1:=by
 have c:=EZ s a b 58;unfold DL;split
 .split
  .have:=W7 s (B7 s a b 58+1);omega
  .exact c
 .exact c
def JV(s:bC)(a:Nat)(h:a<=s.size):(Ao s a).2.1<=s.size:=by
 unfold Ao;simp only;exact Eb _ _ _ _ (dU _ _ _ (Jv _ _ _ (BD _ _ h)))
def QJ{at_:Nat}(h:(Ao s at_).2.2=K):at_<(Ao s at_).2.1:=by
 unfold Ao at h⊢;simp only at h⊢;have a:=Ch s at_;have b:=Lk s (Ae s at_) K;have d:=XD s (A3 s (Ae s at_) K).2.1 (A3 s (Ae s at_) K).2.2;have c:=TU h;omega
def QB(b:Nat)(s:bC)(a:Nat)(w:Hq)(y:s.size<=1000000)(x:a<=s.size)(B:AI w b (B1 s a K) 73):
  Calls prog 44 #[Gi (V ⟨b,0,Y⟩)] w λe h=>∃(t u:Hs) (l:QC Be),e=G3 (Ms (D6 (DI (Ao s a).1 t u)))/\Mi h w.heap.size 93 2 t (Z (Ao s a).1.head.args) ((Ao s a).1.head.args.flatMap AX)/\
   l.map O0=(Ao s a).1.body/\Mi h w.heap.size 95 9 u (Z l) (DH l)/\(∀p∈l,Ca h w.heap.size p)/\AI h b (B1 s (Ao s a).2.1 (Ao s a).2.2) 73/\Ac [b] w h:=by
 obtain⟨j,r⟩:=QP (Ae s a);obtain⟨A,d,c,n⟩:∃A d c,A3 s j K=(A,d,c):=⟨_,_,_,rfl⟩;obtain⟨m,z⟩:=QP (B7 s d c 58);obtain⟨L,g,f,o⟩:∃L g f,DL s d c=(L,g,f):=⟨_,_,_,rfl⟩;obtain⟨i,k,q⟩:∃i k,Bz s g f 46=(i,k):=⟨_,_,rfl⟩;have e:Ao s a=(⟨A,L,j⟩,i,k):=by unfold Ao;simp only[r,n,o,q]
 rw[e];have v:JR (Ae s a=j/\A3 s j K=(A,d,c)/\B7 s d c 58=m/\DL s d c=(L,g,f)/\Bz s g f 46=(i,k)):=⟨r,n,z,o,q⟩;exact Zn b s a j w A d m g c f L i k y x v B
def Ew(l:QC bC)(x:bC):Bool:=l.any λy=>y.toList==x.toList
def LJ(l:QC bC)(y x:bC):Ew (l++[y]) x=(Ew l x||(y.toList==x.toList)):=by simp[Ew,pK]
def dm(a:k<Z e)(x:bC):Ew (e.take (k+1)) x=(Ew (e.take k) x||(e[k].toList==x.toList)):=by
 rw[lF a,LJ]
def dW(a:k<Z e)(h:(e[k].toList==s.toList)=Cm):Ew e s=Cm:=by
 unfold Ew;rw[mZ];exact⟨e[k],lE a,h⟩
set_option maxRecDepth 512
theorem Ea(d:Hs)(l:QC bC)(x:bC)(q:Nat)(w:Hq)(b:Mi w q 9 1 d (Z l) (l.flatMap Ag))(y:Z l<=1000000):
  Calls prog 50 #[d,O x] w λe m=>e=G3 (No (Ew l x))/\m=w:=by
 obtain⟨z,t,rfl⟩:=Ak b;go_enter func50,ntmps50;go_wp2
 go_loop [5] (λi=>∃k:Nat,i=X J k/\k<=Z l/\JR (Ew (l.take k) x=K)) (λi=>Z l-(intOf i).toNat)
 case atStart=>exact⟨0,rfl,lW _,by show _=_;simp[Ew]⟩
 case round=>
  obtain⟨k,rfl,s,j⟩:=hrel;by_cases a:k<Z l
  .obtain⟨g,u,c,v,f⟩:=AC b (by simp[Ag]) k a;simp only[lB]at c;obtain⟨rfl,_,rfl⟩:=c;have n:=f k a 0 (by omega);simp[Ag]at n;clear f;have r:JR ((l[k].toList==x.toList)=Cm->Ew l x=Cm):=dW a;have o:JR ((l[k].toList==x.toList)=K->Ew (l.take (k+1)) x=K):=by
    intro h;rw[dm a,j.out,h];rfl
   go_wp2
   .go_ret;rw[r.out (by assumption)];exact⟨rfl,rfl⟩
   .go_round
    case rel=>exact⟨k+1,by go_num,by omega,o.out (by assumption)⟩
    case measure=>simp[intOf];omega
  ·(have p:JR (Ew l x=K):=by have:=j.out;rwa [lH (by omega)]at this);go_wp2;go_ret;rw[p.out];exact⟨rfl,rfl⟩
structure A7 where
 head:C8
 hv:Hs
 bv:Hs
 bl:QC Be
 at_:Nat
def Df(c:A7):QC Hs:=[O c.head.name,c.hv,X J c.head.at_,c.bv,X J c.at_]
def AZ(p:Be):QC Hs:=Cn p.1 p.2
def B6(c:A7):Z (Df c)=5:=rfl
def BR(p:Be):Z (AZ p)=9:=rfl
def FQ(t:AF):Z (AX t)=2:=rfl
structure YM(w:Hq)(c:A7):Prop where
 args:Mi w 0 93 2 c.hv (Z c.head.args) (c.head.args.flatMap AX)
 body:Mi w 0 95 9 c.bv (Z c.bl) (c.bl.flatMap AZ)
 lits:∀p∈c.bl,Ca w 0 p
structure CU(w:Hq)(lv:Hs)(cs:QC A7):Prop where
 row:Mi w 0 82 5 lv (Z cs) (cs.flatMap Df)
 each:∀c∈cs,YM w c
def YM.kept{w w':Hq}{c:A7}(h:YM w c)(k:Ac [] w w'):YM w' c:=
 ⟨Ad h.args k,Ad h.body k,λp a=>Ad (h.lits p a) k⟩
def CU.kept{w w':Hq}{a:Hs}{b:QC A7}(h:CU w a b)(k:Ac [] w w'):CU w' a b:=
 ⟨Ad h.row k,λc d=>(h.each c d).kept k⟩
def Nf(p:Be):Bool:=p.1.kind==97||p.1.kind==33
def Vu(bl:QC Be)(x:bC):Option Nat:=bl.findSome? λp=>if Nf p&&(p.1.A.name.toList==x.toList)then V (Z p.1.A.args) else Y
def Hu(c:A7)(x:bC):Option Nat:=if c.head.name.toList==x.toList then V (Z c.head.args) else Vu c.bl x
def BU(cs:QC A7)(x:bC):Int:=match cs.findSome? (Hu · x)with|some n=>n|none=> -1
def Gl{α β:Type}(f:α->Option β)(l:QC α)(k:Nat)(a:k<Z l)(b:(l.take k).findSome? f=Y):(l.take (k+1)).findSome? f=f l[k]:=by
 rw[lF a,pO,b];simp
def G9{α β:Type}(f:α->Option β)(l:QC α)(k:Nat)(a:k<Z l)(c:(l.take k).findSome? f=Y){b:β}(d:f l[k]=V b):l.findSome? f=V b:=by
 have h:=Gl f l k a c;rw[d]at h;have e:l=l.take (k+1)++l.drop (k+1):=(mU _ _).symm;rw[e,pO,h];rfl
def En(p:Be):(((p.1.kind.toNat:Int)==97)=Cm/\Nf p=Cm)\/(((p.1.kind.toNat:Int)==97)=K/\((p.1.kind.toNat:Int)==33)=Cm/\Nf p=Cm)\/
  (((p.1.kind.toNat:Int)==97)=K/\((p.1.kind.toNat:Int)==33)=K/\Nf p=K):=by
 have b:((p.1.kind.toNat:Int)==97)=(p.1.kind==97):=Cu _ 97;have a:((p.1.kind.toNat:Int)==33)=(p.1.kind==33):=Cu _ 33;rw[b,a];unfold Nf;cases(p.1.kind==97)<;>cases(p.1.kind==33)<;>simp
set_option maxRecDepth 100000
theorem Jh(pb:Nat)(lv:Hs)(a:QC A7)(x:bC)(w:Hq)(hP:AI w pb [lv] 76)(L:CU w lv a)(Ha:Z a<=1000000)(R:∀c∈a,Z c.bl<=1000000):
  Calls prog 23 #[Gi (V ⟨pb,0,Y⟩),O x] w λe w'=>e=G3 (X J (BU a x))/\Ac [] w w':=by
 obtain⟨ad,CL,rfl⟩:=Ak L.row;have G:JR (CU w (U ad (Z a) CL) a/\∀c∈a,Z c.bl<=1000000):=⟨L,R⟩;clear L R;go_enter func23,ntmps23;go_wp2
 go_loopw [5] (λi wr=>∃k:Nat,i=X J k/\k<=Z a/\JR ((a.take k).findSome? (Hu · x)=Y)/\Ac [] w wr) (λi _=>Z a-(intOf i).toNat)
 case atStart=>exact⟨0,rfl,lW _,by show _=_;simp,SF _ _⟩
 case round=>
  obtain⟨k,rfl,hk,y,q⟩:=hrel;have z:=(hP.kept q).cell 0;simp at z;by_cases f:k<Z a
  .have F:=G.out.1.kept q;obtain⟨g,FP,he,hc,v⟩:=AC F.row (λc _=>B6 c) k f;simp only[lB]at he;obtain⟨rfl,_,rfl⟩:=he;have S:=v k f 0 (by omega);have P:=v k f 1 (by omega);have t:=v k f 3 (by omega);simp[Df]at S P t;have n:=F.each a[k] (lE f);have HF:=G.out.2 a[k] (lE f);obtain⟨HD,FO,A2⟩:=Ak n.args;obtain⟨B0,B9,C⟩:=Ak n.body;rw[A2]at P;rw[C]at t;have BT:JR (YM wr a[k]):=n;have AR:JR (a[k].bv=U B0 a[k].bl.length B9):=C;clear v F n A2 C;cases hnm:(a[k].head.name.toList==x.toList)with
   |true=>
    have M:JR (BU a x=(a[k].head.args.length:Int)):=by
     show _=_;unfold BU;rw[G9 (Hu · x) a k f y.out (b:=a[k].head.args.length) (by simp[Hu,hnm])]
    go_wp2;go_ret;rw[M.out];exact⟨rfl,q⟩
   |false=>
    (have HA:JR (Hu a[k] x=Vu a[k].bl x):=by show _=_;simp[Hu,hnm]);go_wp2;clear S P
    go_loopw [6] (λi W=>∃m:Nat,i=X J m/\m<=a[k].bl.length/\JR ((a[k].bl.take m).findSome? (λp=>if Nf p&&(p.1.A.name.toList==x.toList)then V (Z p.1.A.args) else Y)=Y)/\Ac [] w W) (λi _=>a[k].bl.length-(intOf i).toNat)
    case atStart=>exact⟨0,rfl,lW _,by show _=_;simp,q⟩
    case round=>
     rename_i W _;obtain⟨m,rfl,hm,B,o⟩:=hrel;clear z t q BT;have z:=(hP.kept o).cell 0;simp at z;have E:=G.out.1.kept o;obtain⟨g2,HB,AT,_,Ax⟩:=AC E.row (λc _=>B6 c) k f;simp only[lB,lL,mu]at AT;obtain⟨⟨rfl,_,_⟩,_,rfl⟩:=AT;have t:=Ax k f 3 (by omega);simp[Df]at t;rw[AR.out]at t;have n:=E.each a[k] (lE f);clear Ax E;by_cases d:m<a[k].bl.length
     .obtain⟨gb,HH,N,FF,l⟩:=AC n.body (λc _=>BR c) m d;rw[AR.out]at N;simp only[lB]at N;obtain⟨rfl,_,rfl⟩:=N;have hl:=n.lits a[k].bl[m] (lE d);obtain⟨HG,FL,T⟩:=Ak hl;have d0:=l m d 0 (by omega);have d1:=l m d 1 (by omega);have Q:=l m d 2 (by omega);have d3:=l m d 3 (by omega);have d4:=l m d 4 (by omega);have d5:=l m d 5 (by omega);have d6:=l m d 6 (by omega);have d7:=l m d 7 (by omega);have d8:=l m d 8 (by omega);simp[AZ,Cn]at d0 d1 Q d3 d4 d5 d6 d7 d8;rw[T]at Q;clear l hl T n;have s:JR (Nf a[k].bl[m]=K\/(a[k].bl[m].1.A.name.toList==x.toList)=K->(a[k].bl.take (m+1)).findSome? (λp=>if Nf p&&(p.1.A.name.toList==x.toList)then V (Z p.1.A.args) else Y)=Y):=by
       intro h;rw[Gl _ _ m d B.out];rcases h with h|h<;>simp[h]
      have r:JR (Nf a[k].bl[m]=Cm->(a[k].bl[m].1.A.name.toList==x.toList)=Cm->BU a x=(a[k].bl[m].1.A.args.length:Int)):=by
       intro h1 h2;have h3:=G9 (λp:Be=>if Nf p&&(p.1.A.name.toList==x.toList)then V (Z p.1.A.args) else Y) a[k].bl m d B.out (b:=a[k].bl[m].1.A.args.length) (by simp[h1,h2]);(have h4:Hu a[k] x=V a[k].bl[m].1.A.args.length:=by rw[HA.out];exact h3);unfold BU;rw[G9 (Hu · x) a k f y.out h4]
      cases hnm2:(a[k].bl[m].1.A.name.toList==x.toList)with
      |true=>
       rcases En a[k].bl[m] with⟨u,j⟩|⟨u,H,j⟩|⟨u,H,j⟩
       .have D:=Ab (r.out j hnm2);clear r s j;go_wp2;go_ret;rw[Aa D];exact⟨rfl,o.alloc _⟩
       .have D:=Ab (r.out j hnm2);clear r s j;go_wp2;go_ret;rw[Aa D];exact⟨rfl,o.alloc _⟩
       .have I:=Ab (s.out (Hd j));clear r s j;go_wp2
        go_roundw
        case rel=>exact⟨m+1,by go_num,by omega,I,o.alloc _⟩
        case measure=>simp[intOf];omega
      |false=>
       have I:=Ab (s.out (Hf hnm2));rcases En a[k].bl[m] with⟨u,j⟩|⟨u,H,j⟩|⟨u,H,j⟩;all_goals
        clear r s j;go_wp2
        go_roundw
        case rel=>exact⟨m+1,by go_num,by omega,I,o.alloc _⟩
        case measure=>simp[intOf];omega
     .have HZ:JR ((a.take (k+1)).findSome? (Hu · x)=Y):=by
       show _=_;rw[Gl _ _ k f y.out];have h:=B.out;rw[lH (by omega)]at h;rw[HA.out];exact h
      go_wp2
      go_roundw
      case rel=>exact⟨k+1,by go_num,by omega,HZ,o⟩
      case measure=>simp[intOf];omega
  .have M:JR (BU a x= -1):=by
    have h:=y.out;rw[lH (by omega)]at h;show _=_;unfold BU;rw[h]
   go_wp2;go_ret;rw[M.out];exact⟨rfl,q⟩
def AE(p:Be):QC AF:=if Nf p then p.1.A.args else[p.1.L,p.1.R]
theorem Ty(p:Be)(w:Hq)(c:Ca w 0 p):
  Calls prog 131 #[Ms (D6 (AZ p))] w λe k=>∃j,e=G3 j/\Mi k 0 93 2 j (Z (AE p)) ((AE p).flatMap AX)/\Ac [] w k:=by
 obtain⟨g,f,d⟩:=Ak c;simp only[AZ,Cn,d];rcases En p with⟨i,b⟩|⟨i,l,b⟩|⟨i,l,b⟩
 .have a:JR (AE p=p.1.A.args/\p.2=U g (Z p.1.A.args) f/\Ca w 0 p):=⟨by unfold AE;simp[b],d,c⟩;clear b d c;go_enter func131,ntmps131;go_wp2;go_ret;refine⟨_,rfl,?_,(SF _ _).alloc _⟩;rw[a.out.1];have h:Mi w 0 93 2 _ _ _:=a.out.2.2;rw[a.out.2.1]at h;exact h.alloc _
 .have a:JR (AE p=p.1.A.args/\p.2=U g (Z p.1.A.args) f/\Ca w 0 p):=⟨by unfold AE;simp[b],d,c⟩;clear b d c;go_enter func131,ntmps131;go_wp2;go_ret;refine⟨_,rfl,?_,(SF _ _).alloc _⟩;rw[a.out.1];have h:Mi w 0 93 2 _ _ _:=a.out.2.2;rw[a.out.2.1]at h;exact h.alloc _
 .have a:JR (AE p=[p.1.L,p.1.R]):=by show _=_;unfold AE;simp[b]
  clear b d c;go_enter func131,ntmps131;go_wp2;go_ret;refine⟨_,rfl,?_,((SF _ _).alloc _).alloc _⟩;rw[a.out];refine⟨rfl,Hf ⟨_,2,#[X .u8 p.1.L.v.toNat,O p.1.L.s,X .u8 p.1.R.v.toNat,O p.1.R.s],rfl,lW _,by have h:=mo (w.alloc (Dj #[X .u8 p.1.kind.toNat,O p.1.A.name,U g (Z p.1.A.args) f,X J p.1.A.at_,X .u8 p.1.L.v.toNat,O p.1.L.s,X .u8 p.1.R.v.toNat,O p.1.R.s,X J p.1.at_] 95)) (Dj #[X .u8 p.1.L.v.toNat,O p.1.L.s,X .u8 p.1.R.v.toNat,O p.1.R.s] 93);rw[mt]at h;exact h,by simp,by unfold maxLen;omega,rfl,?_⟩⟩;simp[AX]
def SG(l:QC AF)(v:UInt8):Bool:=l.any λt=>t.v==v
def KC(v:UInt8)(p:Be):Bool:=p.1.kind==97&&SG p.1.A.args v
def Ky(bl:QC Be)(v:UInt8):Bool:=bl.any (KC v)
def C0{α:Type}(f:α->Bool)(l:QC α)(k:Nat)(a:k<Z l)(b:(l.take k).any f=K):(l.take (k+1)).any f=f l[k]:=by
 rw[lF a,pK,b];simp
def Jb{α:Type}(f:α->Bool)(l:QC α)(k:Nat)(a:k<Z l)(h:f l[k]=Cm):l.any f=Cm:=by
 rw[mZ];exact⟨_,lE a,h⟩
theorem Lq(I:Hs)(a:QC Be)(n:Int)(v:UInt8)(w:Hq)(W:n=v.toNat)(l:Mi w 0 95 9 I (Z a) (a.flatMap AZ))(D:∀p∈a,Ca w 0 p)(A1:Z a<=1000000)(H:∀p∈a,Z p.1.A.args<=1000000):
  Calls prog 132 #[I,X .u8 n] w λe L=>e=G3 (No (Ky a v))/\L=w:=by
 subst W;obtain⟨R,Q,rfl⟩:=Ak l;have o:JR (Mi w 0 95 9 (U R (Z a) Q) (Z a) (a.flatMap AZ)/\(∀p∈a,Ca w 0 p)/\(∀p∈a,Z p.1.A.args<=1000000)):=⟨l,D,H⟩;clear l D H;go_enter func132,ntmps132;go_wp2
 go_loop [5] (λi=>∃k:Nat,i=X J k/\k<=Z a/\JR ((a.take k).any (KC v)=K)) (λi=>Z a-(intOf i).toNat)
 case atStart=>exact⟨0,rfl,lW _,by show _=_;simp⟩
 case round=>
  obtain⟨k,rfl,hk,q⟩:=hrel;by_cases b:k<Z a
  .obtain⟨g,AT,G,hc,r⟩:=AC o.out.1 (λc _=>BR c) k b;simp only[lB]at G;obtain⟨rfl,_,rfl⟩:=G;have S:=r k b 0 (by omega);have y:=r k b 2 (by omega);simp[AZ,Cn]at S y;have s:=o.out.2.1 a[k] (lE b);have AO:=o.out.2.2 a[k] (lE b);obtain⟨T,M,j⟩:=Ak s;rw[j]at y;have HI:JR (Mi w 0 93 2 (U T a[k].1.A.args.length M) a[k].1.A.args.length (a[k].1.A.args.flatMap AX)):=by
    have h:Mi w 0 93 2 _ _ _:=s;rw[j]at h;exact h
   clear r s j;have F:((a[k].1.kind.toNat:Int)==97)=(a[k].1.kind==97):=Cu _ 97;cases hkd:(a[k].1.kind==97)with
   |false=>
    rw[hkd]at F;(have d:JR ((a.take (k+1)).any (KC v)=K):=by show _=_;rw[C0 _ _ k b q.out];simp[KC,hkd]);clear hkd;go_wp2
    go_loop [6] (λi=>i=X J 0) (λ_=>0)
    case atStart=>rfl
    case round=>
     subst hrel;go_wp2
     go_round
     case rel=>exact⟨k+1,by go_num,by omega,d⟩
     case measure=>simp[intOf];omega
   |true=>
    rw[hkd]at F;(have d:JR (SG a[k].1.A.args v=K->(a.take (k+1)).any (KC v)=K):=by intro h;rw[C0 _ _ k b q.out];simp[KC,h]);(have u:JR (SG a[k].1.A.args v=Cm->Ky a v=Cm):=by intro h;exact Jb _ _ k b (by simp[KC,hkd,h]));clear hkd;go_wp2
    go_loop [6] (λi=>∃m:Nat,i=X J m/\m<=a[k].1.A.args.length/\JR ((a[k].1.A.args.take m).any (λt=>t.v==v)=K)) (λi=>a[k].1.A.args.length-(intOf i).toNat)
    case atStart=>exact⟨0,rfl,lW _,by show _=_;simp⟩
    case round=>
     obtain⟨m,rfl,hm,z⟩:=hrel;by_cases f:m<a[k].1.A.args.length
     .obtain⟨ga,Bx,B,AR,E⟩:=AC HI.out (λc _=>FQ c) m f;simp only[lB]at B;obtain⟨rfl,_,rfl⟩:=B;have P:=E m f 0 (by omega);simp[AX]at P;clear E;have C:((a[k].1.A.args[m].v.toNat:Int)==(v.toNat:Int))=(a[k].1.A.args[m].v==v):=Cu _ v;cases hv:(a[k].1.A.args[m].v==v)with
      |true=>
       rw[hv]at C;have N:=Ab (u.out (Jb _ _ m f hv));clear hv u d;go_wp2;go_ret;rw[Aa N];exact⟨rfl,rfl⟩
      |false=>
       rw[hv]at C;(have x:JR ((a[k].1.A.args.take (m+1)).any (λt=>t.v==v)=K):=by show _=_;rw[C0 _ _ m f z.out];exact hv);clear hv u d;go_wp2
       go_round
       case rel=>exact⟨m+1,by go_num,by omega,x⟩
       case measure=>simp[intOf];omega
     .have x:=Ab (d.out (by have h:=z.out;rwa [lH (by omega)]at h));go_wp2
      go_round
      case rel=>exact⟨k+1,by go_num,by omega,x⟩
      case measure=>simp[intOf];omega
  ·(have HE:JR (Ky a v=K):=by have h:=q.out;rwa [lH (by omega)]at h);go_wp2;go_ret;rw[HE.out];exact⟨rfl,rfl⟩
def CR(bl:QC Be)(t:AF):Bool:= !(t.v==0||Ky bl t.v)
def IK(bl:QC Be)(p:Be):Bool:=(AE p).any (CR bl)
def DN(head:C8)(bl:QC Be):Int:=if head.args.any (CR bl)then head.at_ else match bl.find? (IK bl)with|some p=>p.1.at_|none=> -1
def FU{α:Type}(f:α->Bool)(l:QC α)(k:Nat)(a:k<Z l)(d:(l.take k).any f=K)(h:f l[k]=Cm):l.find? f=V l[k]:=by
 have e:l.find? f=(l.take k++l.drop k).find? f:=by rw[mU]
 rw[e,pM];have c:(l.take k).find? f=Y:=by
  rw[nB];intro x g b;have:(l.take k).any f=Cm:=by rw[mZ];exact⟨x,g,b⟩
  rw[d]at this;cases this
 rw[c,Option.none_or,lY a,List.find?_cons_of_pos h]
theorem Xz(b:C8)(hv bv:Hs)(a:QC Be)(w:Hq)(W:Mi w 0 93 2 hv (Z b.args) (b.args.flatMap AX))(Q:Mi w 0 95 9 bv (Z a) (a.flatMap AZ))(hl:∀p∈a,Ca w 0 p)(D:Z a<=1000000)(A2:∀p∈a,Z p.1.A.args<=1000000)(HD:Z b.args<=1000000):
  Calls prog 84 #[Ms (D6 (CB b.name hv b.at_)),bv] w λe w'=>e=G3 (X J (DN b a))/\Ac [] w w':=by
 obtain⟨N,L,rfl⟩:=Ak W;obtain⟨ad,ES,rfl⟩:=Ak Q;simp only[CB];have l:JR (Mi w 0 93 2 (U N (Z b.args) L) (Z b.args) (b.args.flatMap AX)/\Mi w 0 95 9 (U ad (Z a) ES) (Z a) (a.flatMap AZ)/\(∀p∈a,Ca w 0 p)/\(∀p∈a,Z p.1.A.args<=1000000)):=⟨W,Q,hl,A2⟩;clear W Q hl A2;have HU:∀(x:Bool) (w:Hq),(Op.unary .not (No x)).run prog w=.ok (No (!x)) w:=λ_ _=>rfl
 go_enter func84,ntmps84;go_wp2_with fail
 go_loopw [5] (λi wr=>∃k:Nat,i=X J k/\k<=Z b.args/\JR ((b.args.take k).any (CR a)=K)/\wr=w.alloc (Dj #[O b.name,U N (Z b.args) L,X J b.at_] 79)) (λi _=>Z b.args-(intOf i).toNat)
 case atStart=>exact⟨0,rfl,lW _,by show _=_;simp,rfl⟩
 case round=>
  obtain⟨k,rfl,hk,HC,rfl⟩:=hrel;by_cases F:k<Z b.args
  .obtain⟨g,BA,r,hc,f⟩:=AC (l.out.1.alloc (Dj #[O b.name,U N (Z b.args) L,X J b.at_] 79)) (λc _=>FQ c) k F;simp only[lB]at r;obtain⟨rfl,_,rfl⟩:=r;have E:=f k F 0 (by omega);simp[AX]at E;clear f;have y:((b.args[k].v.toNat:Int)==0)=(b.args[k].v==0):=Cu _ 0;(have n:JR (CR a b.args[k]=K->(b.args.take (k+1)).any (CR a)=K):=by intro h;rw[C0 _ _ k F HC.out];exact h);(have o:JR (CR a b.args[k]=Cm->DN b a=(b.at_:Int)):=by intro h;unfold DN;rw[lS (Jb _ _ k F h)]);cases hz:(b.args[k].v==0)with
   |true=>
    rw[hz]at y;have C:=Ab (n.out (by simp[CR,hz]));clear hz n o;go_wp2_with fail
    go_roundw
    case rel=>exact⟨k+1,by go_num,by omega,C,by trivial⟩
    case measure=>simp[intOf];omega
   |false=>
    rw[hz]at y;cases hbd:Ky a b.args[k].v with
    |true=>
     have C:=Ab (n.out (by simp[CR,hbd]));clear hz n o;go_wp2_with (go_at_call 132;refine(Lq _ a _ b.args[k].v _ rfl (l.out.2.1.alloc _) (λp B=>(l.out.2.2.1 p B).alloc _) D l.out.2.2.2).mono ?_;rintro e t ⟨rfl,rfl⟩;rw[hbd])
     go_roundw
     case rel=>exact⟨k+1,by go_num,by omega,C,by trivial⟩
     case measure=>simp[intOf];omega
    |false=>
     have FW:=Ab (o.out (by simp[CR,hbd,hz]));clear hz n o;go_wp2_with (go_at_call 132;refine(Lq _ a _ b.args[k].v _ rfl (l.out.2.1.alloc _) (λp B=>(l.out.2.2.1 p B).alloc _) D l.out.2.2.2).mono ?_;rintro e t ⟨rfl,rfl⟩;rw[hbd])
     go_ret;rw[Aa FW];exact⟨rfl,(SF _ _).alloc _⟩
  ·(have HH:JR (b.args.any (CR a)=K):=by have h:=HC.out;rwa [lH (by omega)]at h);clear HC;have EM:=(SF [] w).alloc (Dj #[O b.name,U N (Z b.args) L,X J b.at_] 79);go_wp2_with fail
   go_loopw [7] (λi wr=>∃k:Nat,i=X J k/\k<=Z a/\JR ((a.take k).any (IK a)=K)/\Ac [] w wr) (λi _=>Z a-(intOf i).toNat)
   case atStart=>exact⟨0,rfl,lW _,by show _=_;simp,EM⟩
   case round=>
    rename_i wr _ _;obtain⟨q,rfl,hq,R,u⟩:=hrel;clear EM;by_cases d:q<Z a
    .have s:=Ad l.out.2.1 u;obtain⟨g,BA,r,hc,f⟩:=AC s (λc _=>BR c) q d;simp only[lB]at r;obtain⟨rfl,_,rfl⟩:=r;have AR:Ca _ 0 a[q]:=(l.out.2.2.1 a[q] (lE d)).kept u;obtain⟨HZ,HS,AH⟩:=Ak AR;have T:=Ty a[q] _ AR;simp only[AZ,Cn,AH]at T;have E:=f q d 0 (by omega);have d1:=f q d 1 (by omega);have P:=f q d 2 (by omega);have d3:=f q d 3 (by omega);have d4:=f q d 4 (by omega);have d5:=f q d 5 (by omega);have d6:=f q d 6 (by omega);have d7:=f q d 7 (by omega);have d8:=f q d 8 (by omega);simp[AZ,Cn]at E d1 P d3 d4 d5 d6 d7 d8;rw[AH]at P;have HT:=Ab T;clear f s AR AH T;(have n:JR (IK a a[q]=K->(a.take (q+1)).any (IK a)=K):=by intro h;rw[C0 _ _ q d R.out];exact h);have o:JR (IK a a[q]=Cm->DN b a=(a[q].1.at_:Int)):=by
      intro h;unfold DN;rw[lO (by rw[HH.out];exact nS),FU _ _ q d R.out h]
     have Go:Z (AE a[q])<=1000000:=by
      have:=l.out.2.2.2 a[q] (lE d);unfold AE;split<;>simp<;>omega
     (go_wp2_with fail);refine HT.mono ?_;rintro e t ⟨tv,rfl,AB,EX⟩;have I:=u.trans EX;have s:=Ad l.out.2.1 I;obtain⟨g',BA,r,_,f⟩:=AC s (λc _=>BR c) q d;simp only[lB,lL,mu]at r;obtain⟨⟨rfl,_,_⟩,_,rfl⟩:=r;have e8:=f q d 8 (by omega);simp[AZ,Cn]at e8;have M:JR (Mi t 0 95 9 (U (V ⟨g,0,Y⟩) (Z a) ES) (Z a) (a.flatMap AZ)/\(∀p∈a,Ca t 0 p)):=⟨s,λp B=>(l.out.2.2.1 p B).kept I⟩;clear f s E d1 P d3 d4 d5 d6 d7 d8 HT EX u;obtain⟨HX,HW,rfl⟩:=Ak AB;have HO:=Ab AB;clear AB;obtain⟨j,Ax⟩:=QP (AE a[q]);rw[Ax]at HO Go⊢;have EK:=Ab Ax;clear Ax;go_wp2_with fail
     go_loop [9] (λi=>∃m:Nat,i=X J m/\m<=Z j/\JR ((j.take m).any (CR a)=K)) (λi=>Z j-(intOf i).toNat)
     case atStart=>exact⟨0,rfl,lW _,by show _=_;simp⟩
     case round=>
      obtain⟨m,rfl,hm,HM⟩:=hrel;by_cases H:m<Z j
      .obtain⟨ga,HJ,B2,HF,E0⟩:=AC HO (λc _=>FQ c) m H;simp only[lB]at B2;obtain⟨rfl,_,rfl⟩:=B2;have f0:=E0 m H 0 (by omega);simp[AX]at f0;clear E0;have y:((j[m].v.toNat:Int)==0)=(j[m].v==0):=Cu _ 0;(have z:JR (CR a j[m]=K->(j.take (m+1)).any (CR a)=K):=by intro h;rw[C0 _ _ m H HM.out];exact h);(have G:JR (CR a j[m]=Cm->DN b a=(a[q].1.at_:Int)):=by intro h;exact o.out (by unfold IK;rw[Aa EK];exact Jb _ _ m H h));cases hz:(j[m].v==0)with
       |true=>
        rw[hz]at y;have S:=Ab (z.out (by simp[CR,hz]));clear hz z G n o;go_wp2_with fail
        go_round
        case rel=>exact⟨m+1,by go_num,by omega,S⟩
        case measure=>simp[intOf];omega
       |false=>
        rw[hz]at y;cases hbd:Ky a j[m].v with
        |true=>
         have S:=Ab (z.out (by simp[CR,hbd]));clear hz z G n o;go_wp2_with (go_at_call 132;refine(Lq _ a _ j[m].v _ rfl M.out.1 M.out.2 D l.out.2.2.2).mono ?_;rintro e t ⟨rfl,rfl⟩;rw[hbd])
         go_round
         case rel=>exact⟨m+1,by go_num,by omega,S⟩
         case measure=>simp[intOf];omega
        |false=>
         have FB:=Ab (G.out (by simp[CR,hbd,hz]));clear hz z G n o;go_wp2_with (go_at_call 132;refine(Lq _ a _ j[m].v _ rfl M.out.1 M.out.2 D l.out.2.2.2).mono ?_;rintro e t ⟨rfl,rfl⟩;rw[hbd])
         go_ret;rw[Aa FB];exact⟨rfl,I⟩
      .have C:=Ab (n.out (by unfold IK;rw[Aa EK];have h:=HM.out;rwa [lH (by omega)]at h));clear n o;go_wp2_with fail
       go_roundw
       case rel=>exact⟨q+1,by go_num,by omega,C,I⟩
       case measure=>simp[intOf];omega
    .have HE:JR (DN b a= -1):=by
      have h:=R.out;rw[lH (by omega)]at h;show _=_;unfold DN;rw[lO (by rw[HH.out];exact nS)];have:a.find? (IK a)=Y:=by
       rw[nB];intro x hx hf;(have:a.any (IK a)=Cm:=by rw[mZ];exact⟨x,hx,hf⟩);rw[h]at this;cases this
      rw[this]
     (go_wp2_with fail);go_ret;rw[HE.out];exact⟨rfl,u⟩
def Gd(a b:bC):Bool:=
 if Ap (CT a 0) !=Ap (CT b 0)then Ap (CT a 0)
 else if Ap (CT a 0)&&a.size !=b.size then decide (a.size<b.size)else Pf a.toList b.toList
set_option maxRecDepth 512
theorem NZ(a b:bC)(w:Hq)(l:0<a.size)(n:0<b.size)(p:a.size<=1000000)(q:b.size<=1000000):
  Calls prog 86 #[O a,O b] w λe k=>e=G3 (No (Gd a b))/\k=w:=by
 have j:CT a 0=a[0]:=by simp[CT,l]
 have i:CT b 0=b[0]:=by simp[CT,n]
 obtain⟨R,c⟩:=QP (Gd a b);rw[c];unfold Gd at c;rw[j,i]at c;have r:(0:Int)<(a.size:Int):=by omega
 have o:(0:Int)<(b.size:Int):=by omega
 clear j i;cases hx:Ap a[0] with
 |true=>
  cases hy:Ap b[0] with
  |true=>
   rw[hx,hy]at c;by_cases h:a.size=b.size
   ·(have g:(a.size !=b.size)=K:=by simp[h]);(have m:((a.size:Int) !=(b.size:Int))=K:=by simp[h]);(have f:JR (Pf a.toList b.toList=R):=by show _=_;rw[<-c,g];rfl);clear c g h;go_enter func86,ntmps86;(go_wp2_with fail);refine(CD _ a[0] _ rfl).mono ?_;rintro e d ⟨rfl,rfl⟩;rw[hx];(go_wp2_with fail);refine(CD _ b[0] _ rfl).mono ?_;rintro e d ⟨rfl,rfl⟩;rw[hy];go_wp2;go_ret;exact⟨Bv f.out,rfl⟩
   ·(have g:(a.size !=b.size)=Cm:=by simp[h]);(have m:((a.size:Int) !=(b.size:Int))=Cm:=by simp;omega);(have f:JR (decide (a.size<b.size)=R):=by show _=_;rw[<-c,g];rfl);clear c g h;go_enter func86,ntmps86;(go_wp2_with fail);refine(CD _ a[0] _ rfl).mono ?_;rintro e d ⟨rfl,rfl⟩;rw[hx];(go_wp2_with fail);refine(CD _ b[0] _ rfl).mono ?_;rintro e d ⟨rfl,rfl⟩;rw[hy];go_wp2;go_ret;exact⟨Bv f.out,rfl⟩
  |false=>
   rw[hx,hy]at c;(have f:JR (Cm=R):=by show _=_;rw[<-c];rfl);clear c;go_enter func86,ntmps86;(go_wp2_with fail);refine(CD _ a[0] _ rfl).mono ?_;rintro e d ⟨rfl,rfl⟩;rw[hx];(go_wp2_with fail);refine(CD _ b[0] _ rfl).mono ?_;rintro e d ⟨rfl,rfl⟩;rw[hy];go_wp2;go_ret;exact⟨Bv f.out,rfl⟩
 |false=>
  cases hy:Ap b[0] with
  |true=>
   rw[hx,hy]at c;(have f:JR (K=R):=by show _=_;rw[<-c];rfl);clear c;go_enter func86,ntmps86;(go_wp2_with fail);refine(CD _ a[0] _ rfl).mono ?_;rintro e d ⟨rfl,rfl⟩;rw[hx];(go_wp2_with fail);refine(CD _ b[0] _ rfl).mono ?_;rintro e d ⟨rfl,rfl⟩;rw[hy];go_wp2;go_ret;exact⟨Bv f.out,rfl⟩
  |false=>
   rw[hx,hy]at c;(have f:JR (Pf a.toList b.toList=R):=by show _=_;rw[<-c];rfl);clear c;go_enter func86,ntmps86;(go_wp2_with fail);refine(CD _ a[0] _ rfl).mono ?_;rintro e d ⟨rfl,rfl⟩;rw[hx];(go_wp2_with fail);refine(CD _ b[0] _ rfl).mono ?_;rintro e d ⟨rfl,rfl⟩;rw[hy];go_wp2;go_ret;exact⟨Bv f.out,rfl⟩
def Dq(x:bC)(a:QC bC×Bool)(y:bC):QC bC×Bool:=if !a.2&&Gd x y then(a.1++[x]++[y],Cm)else(a.1++[y],a.2)
def NC(l:QC bC)(x:bC):QC bC×Bool:=l.foldl (Dq x) ([],K)
def IQ(l:QC bC)(x:bC):QC bC:=if(NC l x).2 then(NC l x).1 else(NC l x).1++[x]
def bE(a:k<Z e)(x:bC):NC (e.take (k+1)) x=Dq x (NC (e.take k) x) e[k]:=by
 unfold NC;rw[lF a,mL];rfl
def Wm(x:bC)(a:QC bC×Bool)(y:bC):Z (Dq x a y).1+a.2.toNat=Z a.1+1+(Dq x a y).2.toNat:=by
 obtain⟨o,d⟩:=a;unfold Dq;cases d<;>cases Gd x y<;>simp
def Pu(x:bC):∀(l:QC bC) (a:QC bC×Bool),Z (l.foldl (Dq x) a).1+a.2.toNat=Z a.1+Z l+(l.foldl (Dq x) a).2.toNat
 |[],a=>by simp only[List.foldl_nil,mn,pF]
 |y::l,a=>by
  have h:=Pu x l (Dq x a y);have b:=Wm x a y;simp only[mr,lQ];omega
def N7(l:QC bC)(x:bC):Z (NC l x).1=Z l+(NC l x).2.toNat:=by
 have h:=Pu x l ([],K);simp only[mn,pw]at h;unfold NC;omega
def OR(l:QC bC)(x:bC):Z (IQ l x)=Z l+1:=by
 have h:=N7 l x;unfold IQ;cases hd:(NC l x).2<;>simp[hd]at h⊢<;>omega
set_option maxRecDepth 100000
theorem el(lv:Hs)(l:QC bC)(x:bC)(BT:Nat)(w:Hq)(hl:Mi w BT 9 1 lv (Z l) (l.flatMap Ag))(FT:Z l<=1000000)(hx:0<x.size/\x.size<=1000000)(u:∀y∈l,0<y.size/\y.size<=1000000):
  Calls prog 171 #[lv,O x] w λe w'=>∃v,e=G3 v/\Mi w' w.heap.size 9 1 v (Z (IQ l x)) ((IQ l x).flatMap Ag)/\Ac [] w w':=by
 obtain⟨F,D,B,E,G⟩:=mH Tryz.zM;obtain⟨ad,EY,rfl⟩:=Ak hl;have HR:JR (Mi w BT 9 1 (U ad (Z l) EY) (Z l) (l.flatMap Ag)/\(∀y∈l,0<y.size/\y.size<=1000000)):=⟨hl,u⟩;clear hl u;have FL:∀(x:Bool) (w:Hq),(Op.unary .not (No x)).run prog w=.ok (No (!x)) w:=λ_ _=>rfl
 go_enter func171,ntmps171;go_wp2
 go_loopw [5,6,7] (λo d i wr=>∃(k:Nat) (a:QC bC) (j:Bool),i=X J k/\k<=Z l/\d=No j/\JR (NC (l.take k) x=(a,j))/\Z a<=k+1/\Mi wr w.heap.size 9 1 o (Z a) (a.flatMap Ag)/\Ac [] w wr) (λ_ _ i _=>Z l-(intOf i).toNat)
 case atStart=>exact⟨0,[],K,rfl,lW _,rfl,by show _=_;simp[NC],by simp,mf _ _ _ _,SF _ _⟩
 case round=>
  obtain⟨k,a,j,rfl,hk,rfl,S,FB,f,m⟩:=hrel;obtain⟨L,H,rfl⟩:=Ak f;have W:=m.size;by_cases z:k<Z l
  .obtain⟨g,EM,N,hc,T⟩:=AC (Ad HR.out.1 m) (λc _=>rfl) k z;simp only[lB]at N;obtain⟨rfl,_,rfl⟩:=N;have A:=T k z 0 (by omega);simp[Ag]at A;clear T;have AB:=HR.out.2 l[k] (lE z);(have HS:JR (NC (l.take (k+1)) x=Dq x (a,j) l[k]):=by show _=_;rw[bE z,S.out]);cases b:(!j&&Gd x l[k])with
   |true=>
    (have ES:j=K:=by cases j<;>simp_all);subst ES;(have u:Gd x l[k]=Cm:=by simpa using b);have FC:Z a<=k:=by
     have h:=N7 (l.take k) x;rw[S.out]at h;simp only[mB,pw]at h;omega
    (have AO:JR (NC (l.take (k+1)) x=(a++[x]++[l[k]],Cm)):=by show _=_;rw[HS.out];simp[Dq,u]);have CL:∀{n:Hq} {o:Obj},(wr.alloc o).grownBy n (U L (Z a) H).ownBlock->Lc n ⟨g,k,Y⟩=V (O l[k]):=by
     intro n o FA;have EK:=(m.alloc o).grown FA (λq b=>Hf (f.lt q b).1);obtain⟨g',EM,N,_,T⟩:=AC (Ad HR.out.1 EK) (λc _=>rfl) k z;simp only[lB,lL,mu]at N;obtain⟨⟨rfl,_,_⟩,_,rfl⟩:=N;have A:=T k z 0 (by omega);simpa[Ag] using A
    clear HS b;(go_wp2_with fail);refine(NZ x l[k] _ hx.1 AB.1 hx.2 AB.2).mono ?_;rintro e w0 ⟨rfl,P⟩;rw[u,P];clear P w0;go_wp2_with (first|(at_builtin;refine me _ rfl (.tmp 24) (.tmp 26) _ rfl w.heap.size 9 F _ 1 16 underlying41 D B E G rfl (by omega) (U L (Z a) H) (Z a) (a.flatMap Ag) rfl (f.alloc _) ⟨wr.heap.size,0,Y⟩ 1 1 [O x] rfl rfl (mg (mo wr _)) (by simp[Value.oneCell']) (by omega) (by unfold maxLen;omega) (by omega) (by simp;omega) (wr.heap.size+1) (by simp) ?_;intro g1 B2 n I r AR Bx;have d1:=CL r;have FW:wr.heap.size<=n.heap.size:=by have:=r.size;simp at this;omega)|(at_builtin;refine me _ rfl (.tmp 28) (.tmp 33) _ rfl w.heap.size 9 F _ 1 16 underlying41 D B E G rfl (by omega) (U (V ⟨g1,0,Y⟩) (Z a+1) B2) (Z a+1) (a.flatMap Ag++[O x]) rfl (I.alloc _) ⟨n.heap.size,0,Y⟩ 1 1 [O l[k]] rfl rfl (mg (mo n _)) (by simp[Value.oneCell']) (by omega) (by unfold maxLen;omega) (by omega) (by simp;omega) (n.heap.size+1) (by simp) ?_;intro g2 B9 R Q p M C))
    have s:Ac [] w R:=(((m.alloc _).grown r (λq b=>Hf (f.lt q b).1)).alloc _).grown p (λq b=>Hf (I.lt q b).1);clear CL r AR Bx p M C I d1 A f m W;go_wp2
    go_roundw
    case rel=>
     refine⟨k+1,a++[x]++[l[k]],Cm,by go_num,by omega,rfl,AO,by simp;omega,?_,s⟩;simpa[Ag] using Q
    case measure=>simp[intOf];omega
   |false=>
    (have AO:JR (NC (l.take (k+1)) x=(a++[l[k]],j)):=by show _=_;rw[HS.out];simp[Dq,b]);clear HS;have BS:Z a<=k+j.toNat:=by
     have h:=N7 (l.take k) x;rw[S.out]at h;simp only[mB]at h;omega
    cases j with
    |true=>
     clear b;go_wp2_with (at_builtin;refine me _ rfl (.tmp 28) (.tmp 33) _ rfl w.heap.size 9 F _ 1 16 underlying41 D B E G rfl (by omega) (U L (Z a) H) (Z a) (a.flatMap Ag) rfl (f.alloc _) ⟨wr.heap.size,0,Y⟩ 1 1 [O l[k]] rfl rfl (mg (mo wr _)) (by simp[Value.oneCell']) (by omega) (by unfold maxLen;omega) (by omega) (by simp;omega) (wr.heap.size+1) (by simp) ?_;intro g2 B9 R Q p M C)
     have s:Ac [] w R:=(m.alloc _).grown p (λq b=>Hf (f.lt q b).1);clear p M C A f m W;go_wp2
     go_roundw
     case rel=>
      refine⟨k+1,a++[l[k]],Cm,by go_num,by omega,rfl,AO,by simp;omega,?_,s⟩;simpa[Ag] using Q
     case measure=>simp[intOf];omega
    |false=>
     (have u:Gd x l[k]=K:=by simpa using b);clear b;(go_wp2_with fail);refine(NZ x l[k] _ hx.1 AB.1 hx.2 AB.2).mono ?_;rintro e w0 ⟨rfl,P⟩;rw[u,P];clear P w0;go_wp2_with (at_builtin;refine me _ rfl (.tmp 28) (.tmp 33) _ rfl w.heap.size 9 F _ 1 16 underlying41 D B E G rfl (by omega) (U L (Z a) H) (Z a) (a.flatMap Ag) rfl (f.alloc _) ⟨wr.heap.size,0,Y⟩ 1 1 [O l[k]] rfl rfl (mg (mo wr _)) (by simp[Value.oneCell']) (by omega) (by unfold maxLen;omega) (by omega) (by simp;omega) (wr.heap.size+1) (by simp) ?_;intro g2 B9 R Q p M C)
     have s:Ac [] w R:=(m.alloc _).grown p (λq b=>Hf (f.lt q b).1);clear p M C A f m W;go_wp2
     go_roundw
     case rel=>
      refine⟨k+1,a++[l[k]],K,by go_num,by omega,rfl,AO,by simp;omega,?_,s⟩;simpa[Ag] using Q
     case measure=>simp[intOf];omega
  ·(have HE:JR (NC l x=(a,j)):=by have h:=S.out;rwa [lH (by omega)]at h);have BS:Z a<=Z l+j.toNat:=by
    have h:=N7 l x;rw[HE.out]at h;simp only at h;omega
   cases j with
   |true=>
    (have HW:JR (IQ l x=a):=by show _=_;unfold IQ;rw[HE.out];rfl);go_wp2;go_ret;rw[HW.out];exact⟨_,rfl,f,m⟩
   |false=>
    (have HW:JR (IQ l x=a++[x]):=by show _=_;unfold IQ;rw[HE.out];rfl);(have FO:Z a<=Z l:=by simpa using BS);go_wp2_with (at_builtin;refine me _ rfl (.tmp 37) (.tmp 39) _ rfl w.heap.size 9 F _ 1 16 underlying41 D B E G rfl (by omega) (U L (Z a) H) (Z a) (a.flatMap Ag) rfl (f.alloc _) ⟨wr.heap.size,0,Y⟩ 1 1 [O x] rfl rfl (mg (mo wr _)) (by simp[Value.oneCell']) (by omega) (by unfold maxLen;omega) (by omega) (by simp;omega) (wr.heap.size+1) (by simp) ?_;intro g1 B2 n I r AR Bx)
    have s:Ac [] w n:=(m.alloc _).grown r (λq b=>Hf (f.lt q b).1);clear r AR Bx f m W;go_wp2;go_ret;rw[HW.out];refine⟨_,rfl,?_,s⟩;simpa[Ag] using I
def gI(l:QC bC)(t:AF):QC bC:=if t.v==0&& !Ew l t.s then IQ l t.s else l
def dj(l:QC bC)(ts:QC AF):QC bC:=ts.foldl gI l
def KL(l:QC bC):Prop:=∀y∈l,0<y.size/\y.size<=1000000
def Ym(ts:QC AF):Prop:=∀t∈ts,t.v=0->0<t.s.size/\t.s.size<=1000000
def Nm(x:bC)(d:0<x.size/\x.size<=1000000):∀(l:QC bC) (a:QC bC×Bool),KL l->KL a.1->KL (l.foldl (Dq x) a).1
 |[],_,_,ha=>ha
 |y::l,a,hl,ha=>by
  refine Nm x d l _ (λz b=>hl z (by simp[b])) ?_;have c:=hl y (by simp);unfold Dq;split
  .intro z b;simp only[lV,lG]at b;rcases b with(b|b)|b
   .exact ha z b
   .rw[b];exact d
   .rw[b];exact c
  .intro z b;simp only[lV,lG]at b;rcases b with b|b
   .exact ha z b
   .rw[b];exact c
def Zi(c:KL e)(b:0<s.size/\s.size<=1000000):KL (IQ e s):=by
 have h:KL (NC e s).1:=Nm s b e ([],K) c (by intro y d;simp at d);unfold IQ;split
 .exact h
 .intro z a;simp only[lV,lG]at a;rcases a with a|a
  .exact h z a
  .rw[a];exact b
def Tk{t:AF}(a:KL e)(b:t.v=0->0<t.s.size/\t.s.size<=1000000):KL (gI e t):=by
 unfold gI;split
 .rename_i h;simp only[mi,nu]at h;exact Zi a (b h.1)
 .exact a
def eo(l:QC bC)(t:AF):Z (gI l t)<=Z l+1:=by
 unfold gI;split
 .rw[OR];omega
 .omega
def aZ(l:QC bC){a:QC AF}(b:k<Z a):dj l (a.take (k+1))=gI (dj l (a.take k)) a[k]:=by
 unfold dj;rw[lF b,mL];rfl
def Xc(l:QC bC)(a:QC AF):Z (dj l a)<=Z l+Z a:=by
 unfold dj
 induction a generalizing l with
 |nil=>simp
 |cons t a ih=>
  have b:=ih (gI l t);have c:=eo l t;simp only[mr,lQ];omega
def TB{a:QC AF}(b:KL e)(c:Ym a):KL (dj e a):=by
 unfold dj
 induction a generalizing e with
 |nil=>exact b
 |cons t a ih=>exact ih (Tk b (c t (by simp))) (λu d=>c u (by simp[d]))
theorem aF(L D:Hs)(l:QC bC)(a:QC AF)(d:Nat)(w:Hq)(z:Mi w d 9 1 L (Z l) (l.flatMap Ag))(u:Mi w 0 93 2 D (Z a) (a.flatMap AX))(A0:d<=w.heap.size)
  (Bx:Z l+Z a<=1000000) (G:KL l) (M:Ym a):
  Calls prog 130 #[L,D] w λe B=>∃v,e=G3 v/\Mi B d 9 1 v (Z (dj l a)) ((dj l a).flatMap Ag)/\Ac [] w B:=by
 obtain⟨ad,A2,rfl⟩:=Ak z;obtain⟨T,R,rfl⟩:=Ak u;have t:JR (Mi w 0 93 2 (U T (Z a) R) (Z a) (a.flatMap AX)/\KL l/\Ym a):=⟨u,G,M⟩;clear u G M;have A1:∀(x:Bool) (w:Hq),(Op.unary .not (No x)).run prog w=.ok (No (!x)) w:=λ_ _=>rfl
 go_enter func130,ntmps130;go_wp2
 go_loopw [0,5] (λo i wr=>∃(k:Nat) (b:QC bC),i=X J k/\k<=Z a/\JR (dj l (a.take k)=b/\KL b)/\Z b<=Z l+k/\Mi wr d 9 1 o (Z b) (b.flatMap Ag)/\Ac [] w wr) (λ_ i _=>Z a-(intOf i).toNat)
 case atStart=>exact⟨0,l,rfl,lW _,⟨by simp[dj],t.out.2.1⟩,by omega,z,SF _ _⟩
 case round=>
  clear z;obtain⟨k,b,rfl,hk,r,AO,f,m⟩:=hrel;obtain⟨BT,BS,rfl⟩:=Ak f;have BB:=m.size;by_cases j:k<Z a
  .obtain⟨g,AR,I,hc,y⟩:=AC (Ad t.out.1 m) (λc _=>FQ c) k j;simp only[lB]at I;obtain⟨rfl,_,rfl⟩:=I;have S:=y k j 0 (by omega);have Q:=y k j 1 (by omega);simp[AX]at S Q;clear y;have H:((a[k].v.toNat:Int)==0)=(a[k].v==0):=Cu _ 0;have n:JR (dj l (a.take (k+1))=gI b a[k]/\KL (gI b a[k])):=⟨by rw[aZ l j,r.out.1],Tk r.out.2 (t.out.2.2 a[k] (lE j))⟩;cases hz:(a[k].v==0)with
   |false=>
    rw[hz]at H;(have p:JR (dj l (a.take (k+1))=b/\KL b):=by have h:=n.out;simp only[gI,hz,oH,lJ,if_false]at h;exact h);clear n hz;go_wp2
    go_roundw
    case rel=>exact⟨k+1,b,by go_num,by omega,p,by omega,f,m⟩
    case measure=>simp[intOf];omega
   |true=>
    rw[hz]at H;have Ax:=t.out.2.2 a[k] (lE j) (by simpa using hz);cases hh:Ew b a[k].s with
    |true=>
     (have p:JR (dj l (a.take (k+1))=b/\KL b):=by have h:=n.out;simp only[gI,hz,hh,oh,oG,lJ,if_false]at h;exact h);clear n hz;(go_wp2_with fail);refine(Ea _ b a[k].s d _ f (by omega)).mono ?_;rintro e A ⟨rfl,q⟩;rw[hh,q];clear q A;go_wp2
     go_roundw
     case rel=>exact⟨k+1,b,by go_num,by omega,p,by omega,f,m⟩
     case measure=>simp[intOf];omega
    |false=>
     (have p:JR (dj l (a.take (k+1))=IQ b a[k].s/\KL (IQ b a[k].s)):=by have h:=n.out;simp only[gI,hz,hh,m4,Bool.and_true,if_true]at h;exact h);have W:=Ab r.out.2;clear n hz;(go_wp2_with fail);refine(Ea _ b a[k].s d _ f (by omega)).mono ?_;rintro e A ⟨rfl,q⟩;rw[hh,q];clear q A;(go_wp2_with fail);refine(el _ b a[k].s d _ f (by omega) Ax W).mono ?_;rintro e w2 ⟨v2,rfl,E,F⟩;have N:=m.trans F;have AB:=Al (base':=d) E (by omega);have C:=OR b a[k].s;have P:=Ab C;clear E F C;go_wp2
     go_roundw
     case rel=>exact⟨k+1,IQ b a[k].s,by go_num,by omega,p,by rw[Aa P];omega,AB,N⟩
     case measure=>simp[intOf];omega
  ·(have HE:JR (dj l a=b):=by have h:=r.out.1;rwa [lH (by omega)]at h);go_wp2;go_ret;rw[HE.out];exact⟨_,rfl,f,m⟩
structure KH(c:A7):Prop where
 body:Z c.bl<=3
 args:Z c.head.args<=2
 lits:∀p∈c.bl,Z p.1.A.args<=2
structure du(c:A7):Prop where
 head:Ym c.head.args
 body:∀p∈c.bl,Ym (AE p)
def CY(l:QC bC)(x:bC):QC bC:=if Ew l x then l else l++[x]
def be(l:QC bC)(p:Be):QC bC:=if Nf p then CY l p.1.A.name else l
def Mk(l:QC bC)(c:A7):QC bC:=c.bl.foldl be (CY l c.head.name)
def C2(cs:QC A7):QC bC:=cs.foldl Mk []
def U9(l:QC bC)(p:Be):QC bC:=dj l (AE p)
def Km(l:QC bC)(c:A7):QC bC:=c.bl.foldl U9 (dj l c.head.args)
def D9(cs:QC A7):QC bC:=cs.foldl Km []
def DO{α β:Type}(f:β->α->β)(b:β){l:QC α}(a:k<Z l):(l.take (k+1)).foldl f b=f ((l.take k).foldl f b) l[k]:=by
 rw[lF a,mL];rfl
theorem Zd(pb:Nat)(lv:Hs)(a:QC A7)(w:Hq)(hP:AI w pb [lv] 76)(hR:CU w lv a)(HS:Z a<=12)(n:∀c∈a,KH c)(s:∀c∈a,du c):
  Calls prog 83 #[Gi (V ⟨pb,0,Y⟩)] w λe w'=>∃v,e=G3 v/\Mi w' w.heap.size 9 1 v (Z (D9 a)) ((D9 a).flatMap Ag)/\Ac [] w w':=by
 obtain⟨ad,HL,rfl⟩:=Ak hR.row;have H:JR (CU w (U ad (Z a) HL) a/\(∀c∈a,KH c)/\(∀c∈a,du c)):=⟨hR,n,s⟩;clear hR n s;go_enter func83,ntmps83;go_wp2
 go_loopw [3,4] (λo i wr=>∃(k:Nat) (f:QC bC),i=X J k/\k<=Z a/\JR ((a.take k).foldl Km []=f/\KL f)/\Z f<=8*k/\Mi wr w.heap.size 9 1 o (Z f) (f.flatMap Ag)/\Ac [] w wr) (λ_ i _=>Z a-(intOf i).toNat)
 case atStart=>exact⟨0,[],rfl,lW _,⟨by simp,by intro y hy;simp at hy⟩,by simp,mf _ _ _ _,SF _ _⟩
 case round=>
  obtain⟨k,f,rfl,hk,D,H0,G,t⟩:=hrel;obtain⟨JJ,JA,rfl⟩:=Ak G;have x:=(hP.kept t).cell 0;simp at x;have BA:=t.size;by_cases l:k<Z a
  .have L:=H.out.1.kept t;obtain⟨g,H1,he,hc,CC⟩:=AC L.row (λc _=>B6 c) k l;simp only[lB]at he;obtain⟨rfl,_,rfl⟩:=he;have AT:=CC k l 1 (by omega);simp[Df]at AT;have q:=L.each a[k] (lE l);have n:=H.out.2.1 a[k] (lE l);have s:=H.out.2.2 a[k] (lE l);obtain⟨KA,IJ,AO⟩:=Ak q.args;obtain⟨HJ,HC,ES⟩:=Ak q.body;rw[AO]at AT;have FT:JR (a[k].bv=U HJ a[k].bl.length HC):=ES;have A:=aF _ _ f a[k].head.args w.heap.size _ G q.args BA (by have:=n.args;omega) D.out.2 s.head;rw[AO]at A;have HA:=Ab A;have H9:=n.args;have HU:=n.body;have z:JR (KH a[k]/\du a[k]):=⟨n,s⟩;clear CC L q AO ES A n s;(go_wp2_with fail);refine HA.mono ?_;rintro e w1 ⟨v1,rfl,E,BT⟩;have A0:=t.trans BT;have M:=Ab (Xc f a[k].head.args);obtain⟨p,F⟩:=QP (dj f a[k].head.args);rw[F]at E M;have BS:JR (dj f a[k].head.args=p/\KL p):=⟨F,by rw[<-F];exact TB D.out.2 z.out.2.head⟩;(have HO:Z p<=8*k+2:=by have:=Aa M;omega);obtain⟨KD,H8,rfl⟩:=Ak E;clear AT x G t BA BT F M HA;go_wp2
   go_loopw [3,5] (λo i R=>∃(m:Nat) (d:QC bC),i=X J m/\m<=a[k].bl.length/\JR ((a[k].bl.take m).foldl U9 p=d/\KL d)/\Z d<=8*k+2+2*m/\Mi R w.heap.size 9 1 o (Z d) (d.flatMap Ag)/\Ac [] w R) (λ_ i _=>a[k].bl.length-(intOf i).toNat)
   case atStart=>exact⟨0,p,rfl,lW _,⟨by simp,BS.out.2⟩,by omega,E,A0⟩
   case round=>
    rename_i R _;clear E A0;obtain⟨m,d,rfl,hm,u,H5,B,r⟩:=hrel;obtain⟨H7,HN,rfl⟩:=Ak B;have x:=(hP.kept r).cell 0;simp at x;have KS:=r.size;have AB:=H.out.1.kept r;obtain⟨g2,HN,FW,_,EY⟩:=AC AB.row (λc _=>B6 c) k l;simp only[lB,lL,mu]at FW;obtain⟨⟨rfl,_,_⟩,_,rfl⟩:=FW;have P:=EY k l 3 (by omega);simp[Df]at P;rw[FT.out]at P;have q:=AB.each a[k] (lE l);clear EY AB;by_cases b:m<a[k].bl.length
    .obtain⟨gb,HV,N,Ix,j⟩:=AC q.body (λc _=>BR c) m b;rw[FT.out]at N;simp only[lB]at N;obtain⟨rfl,_,rfl⟩:=N;have S:=q.lits a[k].bl[m] (lE b);obtain⟨KK,H6,Ax⟩:=Ak S;have T:=Ty a[k].bl[m] _ S;simp only[AZ,Cn,Ax]at T;have d0:=j m b 0 (by omega);have d1:=j m b 1 (by omega);have I:=j m b 2 (by omega);have d3:=j m b 3 (by omega);have d4:=j m b 4 (by omega);have d5:=j m b 5 (by omega);have d6:=j m b 6 (by omega);have d7:=j m b 7 (by omega);have d8:=j m b 8 (by omega);simp[AZ,Cn]at d0 d1 I d3 d4 d5 d6 d7 d8;rw[Ax]at I;have HT:=Ab T;clear j S Ax q T;have IS:Z (AE a[k].bl[m])<=2:=by
      have:=z.out.1.lits a[k].bl[m] (lE b);unfold AE;split
      .exact this
      .simp
     (go_wp2_with fail);refine HT.mono ?_;rintro e w2 ⟨tv,rfl,EX,AH⟩;have Q:=r.trans AH;have CL:=Ad B AH;have HH:=Q.size;clear d0 d1 I d3 d4 d5 d6 d7 d8 HT x P;(go_wp2_with fail);refine(aF _ _ d (AE a[k].bl[m]) w.heap.size _ CL EX HH (by omega) u.out.2 (z.out.2.body _ (lE b))).mono ?_;rintro e w3 ⟨v3,rfl,B2,EM⟩;have HD:=Q.trans EM;have W:=Ab (Xc d (AE a[k].bl[m]));have FP:JR ((a[k].bl.take (m+1)).foldl U9 p=dj d (AE a[k].bl[m])/\KL (dj d (AE a[k].bl[m]))):=
      ⟨by rw[DO _ _ b,u.out.1];rfl,TB u.out.2 (z.out.2.body _ (lE b))⟩
     obtain⟨C,FO⟩:=QP (dj d (AE a[k].bl[m]));rw[FO]at B2 W FP;(have Ha:Z C<=8*k+2+2*(m+1):=by have:=Aa W;omega);clear r B CL EX AH EM Q FO W;go_wp2
     go_roundw
     case rel=>exact⟨m+1,C,by go_num,by omega,FP,Ha,B2,HD⟩
     case measure=>simp[intOf];omega
    .have HZ:JR ((a.take (k+1)).foldl Km []=d/\KL d):=by
      have h:=u.out.1;rw[lH (by omega)]at h;refine⟨?_,u.out.2⟩;rw[DO _ _ l,D.out.1,<-h];unfold Km;rw[BS.out.1]
     go_wp2
     go_roundw
     case rel=>exact⟨k+1,d,by go_num,by omega,HZ,by omega,B,r⟩
     case measure=>simp[intOf];omega
  ·(have HE:JR (D9 a=f):=by have h:=D.out.1;rwa [lH (by omega)]at h);go_wp2;go_ret;rw[HE.out];exact⟨_,rfl,G,t⟩
def Ju(w:Hq)(o:Obj)(a:Array Hs)(t:TypeId)(l:QC Hs)(b:l=a.toList):∀j u,l[j]?=V u->Lc ((w.alloc o).alloc (Dj a t)) ((⟨w.heap.size+1,0,Y⟩:Addr).add j)=V u:=by
 subst b;have h:=mo (w.alloc o) (Dj a t);rw[mt]at h;exact mg h
theorem Ut(pb:Nat)(lv:Hs)(cs:QC A7)(w:Hq)(hP:AI w pb [lv] 76)(hR:CU w lv cs)(JJ:Z cs<=12)(A1:∀c∈cs,KH c):
  Calls prog 22 #[Gi (V ⟨pb,0,Y⟩)] w λe w'=>∃v,e=G3 v/\Mi w' w.heap.size 9 1 v (Z (C2 cs)) ((C2 cs).flatMap Ag)/\Ac [] w w':=by
 obtain⟨i0,B9,A2,DT,B0⟩:=mH Tryz.zM;obtain⟨ad,IS,rfl⟩:=Ak hR.row;have HR:JR (CU w (U ad (Z cs) IS) cs/\(∀c∈cs,KH c)):=⟨hR,A1⟩;clear hR A1;have K2:∀(x:Bool) (w:Hq),(Op.unary .not (No x)).run prog w=.ok (No (!x)) w:=λ_ _=>rfl
 go_enter func22,ntmps22;go_wp2
 go_loopw [3,4] (λo i wr=>∃(k:Nat) (f:QC bC),i=X J k/\k<=Z cs/\JR ((cs.take k).foldl Mk []=f)/\Z f<=4*k/\Mi wr w.heap.size 9 1 o (Z f) (f.flatMap Ag)/\Ac [] w wr) (λ_ i _=>Z cs-(intOf i).toNat)
 case atStart=>exact⟨0,[],rfl,lW _,by show _=_;simp,by simp,mf _ _ _ _,SF _ _⟩
 case round=>
  obtain⟨k,f,rfl,hk,HF,KK,G,I⟩:=hrel;obtain⟨HX,HV,rfl⟩:=Ak G;have S:=(hP.kept I).cell 0;simp at S;have HI:=I.size;by_cases B:k<Z cs
  .have FA:=HR.out.1.kept I;obtain⟨g,KS,he,hc,HK⟩:=AC FA.row (λc _=>B6 c) k B;simp only[lB]at he;obtain⟨rfl,_,rfl⟩:=he;have Ha:=HK k B 0 (by omega);simp[Df]at Ha;have E:=FA.each cs[k] (lE B);have A1:=HR.out.2 cs[k] (lE B);obtain⟨H9,H4,HO⟩:=Ak E.body;have EX:JR (cs[k].bv=U H9 cs[k].bl.length H4):=HO;have KA:=A1.body;clear HK FA E HO A1;(have Jx:∀(b:QC bC) (v1:Hs) (w1:Hq),JR (CY f cs[k].head.name=b)->Z b<=4*k+1->Mi w1 w.heap.size 9 1 v1 (Z b) (b.flatMap Ag)->Ac [] w w1->True:=λ_ _ _ _ _ _ _=>trivial);clear Jx;cases hh:Ew f cs[k].head.name with
   |true=>
    (have P:JR (CY f cs[k].head.name=f):=by show _=_;simp[CY,hh]);(go_wp2_with fail);refine(Ea _ f cs[k].head.name w.heap.size _ G (by omega)).mono ?_;rintro e z ⟨rfl,d⟩;rw[hh,d];clear d z hh;have F:=G;have A0:=I;(have AT:Z f<=4*k+1:=by omega);go_wp2;obtain⟨b,P,F,AT⟩:∃b,JR (CY f cs[k].head.name=b)/\Mi wr w.heap.size 9 1 (U HX (Z f) HV) (Z b) (b.flatMap Ag)/\Z b<=4*k+1:=⟨f,P,F,AT⟩;clear Ha S G I HI
    go_loopw [3,5] (λo i wq=>∃(m:Nat) (a:QC bC),i=X J m/\m<=cs[k].bl.length/\JR ((cs[k].bl.take m).foldl be b=a)/\Z a<=4*k+1+m/\Mi wq w.heap.size 9 1 o (Z a) (a.flatMap Ag)/\Ac [] w wq) (λ_ i _=>cs[k].bl.length-(intOf i).toNat)
    case atStart=>exact⟨0,b,rfl,lW _,by show _=_;simp,by omega,F,A0⟩
    case round=>
     clear F A0;obtain⟨m,a,rfl,hm,HM,H8,C,u⟩:=hrel;obtain⟨BB,EK,rfl⟩:=Ak C;have S:=(hP.kept u).cell 0;simp at S;have JA:=u.size;have W:=HR.out.1.kept u;obtain⟨g2,H5,EM,_,BT⟩:=AC W.row (λc _=>B6 c) k B;simp only[lB,lL,mu]at EM;obtain⟨⟨rfl,_,_⟩,_,rfl⟩:=EM;have BA:=BT k B 3 (by omega);simp[Df]at BA;rw[EX.out]at BA;have E:=W.each cs[k] (lE B);clear BT W;by_cases j:m<cs[k].bl.length
     .obtain⟨gb,H1,Q,IA,p⟩:=AC E.body (λc _=>BR c) m j;rw[EX.out]at Q;simp only[lB]at Q;obtain⟨rfl,_,rfl⟩:=Q;have hl:=E.lits cs[k].bl[m] (lE j);obtain⟨HG,Go,CL⟩:=Ak hl;have d0:=p m j 0 (by omega);have d1:=p m j 1 (by omega);have d2:=p m j 2 (by omega);have d3:=p m j 3 (by omega);have d4:=p m j 4 (by omega);have d5:=p m j 5 (by omega);have d6:=p m j 6 (by omega);have d7:=p m j 7 (by omega);have d8:=p m j 8 (by omega);simp[AZ,Cn]at d0 d1 d2 d3 d4 d5 d6 d7 d8;rw[CL]at d2;clear p hl CL E;(have n:JR ((cs[k].bl.take (m+1)).foldl be b=be a cs[k].bl[m]):=by show _=_;rw[DO _ _ j,HM.out]);have r:=C.alloc (Dj #[X .u8 cs[k].bl[m].1.kind.toNat,O cs[k].bl[m].1.A.name,U HG cs[k].bl[m].1.A.args.length Go,X J cs[k].bl[m].1.A.at_,X .u8 cs[k].bl[m].1.L.v.toNat,O cs[k].bl[m].1.L.s,X .u8 cs[k].bl[m].1.R.v.toNat,O cs[k].bl[m].1.R.s,X J cs[k].bl[m].1.at_] 95);rcases En cs[k].bl[m] with⟨k1,l⟩|⟨k1,k2,l⟩|⟨k1,k2,l⟩
      .cases hh2:Ew a cs[k].bl[m].1.A.name with
       |true=>
        (have y:JR ((cs[k].bl.take (m+1)).foldl be b=a):=by show _=_;rw[n.out];simp[be,CY,l,hh2]);clear n l;(go_wp2_with fail);refine(Ea _ a cs[k].bl[m].1.A.name w.heap.size _ r (by omega)).mono ?_;rintro e z ⟨rfl,d⟩;rw[hh2,d];clear d z hh2;go_wp2
        go_roundw
        case rel=>exact⟨m+1,a,by go_num,by omega,y,by omega,r,u.alloc _⟩
        case measure=>simp[intOf];omega
       |false=>
        (have y:JR ((cs[k].bl.take (m+1)).foldl be b=a++[cs[k].bl[m].1.A.name]):=by show _=_;rw[n.out];simp[be,CY,l,hh2]);clear n l;(go_wp2_with fail);refine(Ea _ a cs[k].bl[m].1.A.name w.heap.size _ r (by omega)).mono ?_;rintro e z ⟨rfl,d⟩;rw[hh2,d];clear d z hh2;go_wp2_with (at_builtin;refine me _ rfl (.tmp 80) (.tmp 84) _ rfl w.heap.size 9 i0 _ 1 16 underlying41 B9 A2 DT B0 rfl (by omega) (U BB (Z a) EK) (Z a) (a.flatMap Ag) rfl (r.alloc _) ⟨wr.heap.size+1,0,Y⟩ 1 1 [O cs[k].bl[m].1.A.name] rfl rfl (Ju wr _ _ _ _ rfl) (by simp[Value.oneCell']) (by omega) (by unfold maxLen;omega) (by omega) (by simp;omega) (wr.heap.size+2) (by simp) ?_;intro g5 HA w5 M D N T)
        have Ax:Ac [] w w5:=((u.alloc _).alloc _).grown D (λq H=>Hf (C.lt q H).1);clear D N T;go_wp2
        go_roundw
        case rel=>
         refine⟨m+1,a++[cs[k].bl[m].1.A.name],by go_num,by omega,y,by simp;omega,?_,Ax⟩;simpa[Ag] using M
        case measure=>simp[intOf];omega
      .cases hh2:Ew a cs[k].bl[m].1.A.name with
       |true=>
        (have y:JR ((cs[k].bl.take (m+1)).foldl be b=a):=by show _=_;rw[n.out];simp[be,CY,l,hh2]);clear n l;(go_wp2_with fail);refine(Ea _ a cs[k].bl[m].1.A.name w.heap.size _ r (by omega)).mono ?_;rintro e z ⟨rfl,d⟩;rw[hh2,d];clear d z hh2;go_wp2
        go_roundw
        case rel=>exact⟨m+1,a,by go_num,by omega,y,by omega,r,u.alloc _⟩
        case measure=>simp[intOf];omega
       |false=>
        (have y:JR ((cs[k].bl.take (m+1)).foldl be b=a++[cs[k].bl[m].1.A.name]):=by show _=_;rw[n.out];simp[be,CY,l,hh2]);clear n l;(go_wp2_with fail);refine(Ea _ a cs[k].bl[m].1.A.name w.heap.size _ r (by omega)).mono ?_;rintro e z ⟨rfl,d⟩;rw[hh2,d];clear d z hh2;go_wp2_with (at_builtin;refine me _ rfl (.tmp 80) (.tmp 84) _ rfl w.heap.size 9 i0 _ 1 16 underlying41 B9 A2 DT B0 rfl (by omega) (U BB (Z a) EK) (Z a) (a.flatMap Ag) rfl (r.alloc _) ⟨wr.heap.size+1,0,Y⟩ 1 1 [O cs[k].bl[m].1.A.name] rfl rfl (Ju wr _ _ _ _ rfl) (by simp[Value.oneCell']) (by omega) (by unfold maxLen;omega) (by omega) (by simp;omega) (wr.heap.size+2) (by simp) ?_;intro g5 HA w5 M D N T)
        have Ax:Ac [] w w5:=((u.alloc _).alloc _).grown D (λq H=>Hf (C.lt q H).1);clear D N T;go_wp2
        go_roundw
        case rel=>
         refine⟨m+1,a++[cs[k].bl[m].1.A.name],by go_num,by omega,y,by simp;omega,?_,Ax⟩;simpa[Ag] using M
        case measure=>simp[intOf];omega
      ·(have y:JR ((cs[k].bl.take (m+1)).foldl be b=a):=by show _=_;rw[n.out];simp[be,l]);clear n l;go_wp2
       go_roundw
       case rel=>exact⟨m+1,a,by go_num,by omega,y,by omega,r,u.alloc _⟩
       case measure=>simp[intOf];omega
     .have HZ:JR ((cs.take (k+1)).foldl Mk []=a):=by
       have h:=HM.out;rw[lH (by omega)]at h;show _=_;rw[DO _ _ B,HF.out,<-h];unfold Mk;rw[P.out]
      go_wp2
      go_roundw
      case rel=>exact⟨k+1,a,by go_num,by omega,HZ,by omega,C,u⟩
      case measure=>simp[intOf];omega
   |false=>
    (have P:JR (CY f cs[k].head.name=f++[cs[k].head.name]):=by show _=_;simp[CY,hh]);(go_wp2_with fail);refine(Ea _ f cs[k].head.name w.heap.size _ G (by omega)).mono ?_;rintro e z ⟨rfl,d⟩;rw[hh,d];clear d z hh;go_wp2_with (at_builtin;refine me _ rfl (.tmp 28) (.tmp 38) _ rfl w.heap.size 9 i0 _ 1 16 underlying41 B9 A2 DT B0 rfl (by omega) (U HX (Z f) HV) (Z f) (f.flatMap Ag) rfl (G.alloc _) ⟨wr.heap.size,0,Y⟩ 1 1 [O cs[k].head.name] rfl rfl (mg (mo wr _)) (by simp[Value.oneCell']) (by omega) (by unfold maxLen;omega) (by omega) (by simp;omega) (wr.heap.size+1) (by simp) ?_;intro g1 HJ w1 HQ HL HY H2)
    have A0:Ac [] w w1:=(I.alloc _).grown HL (λq H=>Hf (G.lt q H).1);(have F:Mi w1 w.heap.size 9 1 (U (V ⟨g1,0,Y⟩) (Z f+1) HJ) (Z (f++[cs[k].head.name])) ((f++[cs[k].head.name]).flatMap Ag):=by simpa[Ag] using HQ);(have AT:Z (f++[cs[k].head.name])<=4*k+1:=by simp;omega);clear HL HY H2 HQ;go_wp2;obtain⟨b,P,F,AT⟩:∃b,JR (CY f cs[k].head.name=b)/\Mi w1 w.heap.size 9 1 (U (V ⟨g1,0,Y⟩) (Z f+1) HJ) (Z b) (b.flatMap Ag)/\Z b<=4*k+1:=⟨_,P,F,AT⟩;clear Ha S G I HI
    go_loopw [3,5] (λo i wq=>∃(m:Nat) (a:QC bC),i=X J m/\m<=cs[k].bl.length/\JR ((cs[k].bl.take m).foldl be b=a)/\Z a<=4*k+1+m/\Mi wq w.heap.size 9 1 o (Z a) (a.flatMap Ag)/\Ac [] w wq) (λ_ i _=>cs[k].bl.length-(intOf i).toNat)
    case atStart=>exact⟨0,b,rfl,lW _,by show _=_;simp,by omega,F,A0⟩
    case round=>
     clear F A0;obtain⟨m,a,rfl,hm,HM,H8,C,u⟩:=hrel;obtain⟨BB,EK,rfl⟩:=Ak C;have S:=(hP.kept u).cell 0;simp at S;have JA:=u.size;have W:=HR.out.1.kept u;obtain⟨g2,H5,EM,_,BT⟩:=AC W.row (λc _=>B6 c) k B;simp only[lB,lL,mu]at EM;obtain⟨⟨rfl,_,_⟩,_,rfl⟩:=EM;have BA:=BT k B 3 (by omega);simp[Df]at BA;rw[EX.out]at BA;have E:=W.each cs[k] (lE B);clear BT W;by_cases j:m<cs[k].bl.length
     .obtain⟨gb,H1,Q,IA,p⟩:=AC E.body (λc _=>BR c) m j;rw[EX.out]at Q;simp only[lB]at Q;obtain⟨rfl,_,rfl⟩:=Q;have hl:=E.lits cs[k].bl[m] (lE j);obtain⟨HG,Go,CL⟩:=Ak hl;have d0:=p m j 0 (by omega);have d1:=p m j 1 (by omega);have d2:=p m j 2 (by omega);have d3:=p m j 3 (by omega);have d4:=p m j 4 (by omega);have d5:=p m j 5 (by omega);have d6:=p m j 6 (by omega);have d7:=p m j 7 (by omega);have d8:=p m j 8 (by omega);simp[AZ,Cn]at d0 d1 d2 d3 d4 d5 d6 d7 d8;rw[CL]at d2;clear p hl CL E;(have n:JR ((cs[k].bl.take (m+1)).foldl be b=be a cs[k].bl[m]):=by show _=_;rw[DO _ _ j,HM.out]);have r:=C.alloc (Dj #[X .u8 cs[k].bl[m].1.kind.toNat,O cs[k].bl[m].1.A.name,U HG cs[k].bl[m].1.A.args.length Go,X J cs[k].bl[m].1.A.at_,X .u8 cs[k].bl[m].1.L.v.toNat,O cs[k].bl[m].1.L.s,X .u8 cs[k].bl[m].1.R.v.toNat,O cs[k].bl[m].1.R.s,X J cs[k].bl[m].1.at_] 95);rcases En cs[k].bl[m] with⟨k1,l⟩|⟨k1,k2,l⟩|⟨k1,k2,l⟩
      .cases hh2:Ew a cs[k].bl[m].1.A.name with
       |true=>
        (have y:JR ((cs[k].bl.take (m+1)).foldl be b=a):=by show _=_;rw[n.out];simp[be,CY,l,hh2]);clear n l;(go_wp2_with fail);refine(Ea _ a cs[k].bl[m].1.A.name w.heap.size _ r (by omega)).mono ?_;rintro e z ⟨rfl,d⟩;rw[hh2,d];clear d z hh2;go_wp2
        go_roundw
        case rel=>exact⟨m+1,a,by go_num,by omega,y,by omega,r,u.alloc _⟩
        case measure=>simp[intOf];omega
       |false=>
        (have y:JR ((cs[k].bl.take (m+1)).foldl be b=a++[cs[k].bl[m].1.A.name]):=by show _=_;rw[n.out];simp[be,CY,l,hh2]);clear n l;(go_wp2_with fail);refine(Ea _ a cs[k].bl[m].1.A.name w.heap.size _ r (by omega)).mono ?_;rintro e z ⟨rfl,d⟩;rw[hh2,d];clear d z hh2;go_wp2_with (at_builtin;refine me _ rfl (.tmp 80) (.tmp 84) _ rfl w.heap.size 9 i0 _ 1 16 underlying41 B9 A2 DT B0 rfl (by omega) (U BB (Z a) EK) (Z a) (a.flatMap Ag) rfl (r.alloc _) ⟨wr.heap.size+1,0,Y⟩ 1 1 [O cs[k].bl[m].1.A.name] rfl rfl (Ju wr _ _ _ _ rfl) (by simp[Value.oneCell']) (by omega) (by unfold maxLen;omega) (by omega) (by simp;omega) (wr.heap.size+2) (by simp) ?_;intro g5 HA w5 M D N T)
        have Ax:Ac [] w w5:=((u.alloc _).alloc _).grown D (λq H=>Hf (C.lt q H).1);clear D N T;go_wp2
        go_roundw
        case rel=>
         refine⟨m+1,a++[cs[k].bl[m].1.A.name],by go_num,by omega,y,by simp;omega,?_,Ax⟩;simpa[Ag] using M
        case measure=>simp[intOf];omega
      .cases hh2:Ew a cs[k].bl[m].1.A.name with
       |true=>
        (have y:JR ((cs[k].bl.take (m+1)).foldl be b=a):=by show _=_;rw[n.out];simp[be,CY,l,hh2]);clear n l;(go_wp2_with fail);refine(Ea _ a cs[k].bl[m].1.A.name w.heap.size _ r (by omega)).mono ?_;rintro e z ⟨rfl,d⟩;rw[hh2,d];clear d z hh2;go_wp2
        go_roundw
        case rel=>exact⟨m+1,a,by go_num,by omega,y,by omega,r,u.alloc _⟩
        case measure=>simp[intOf];omega
       |false=>
        (have y:JR ((cs[k].bl.take (m+1)).foldl be b=a++[cs[k].bl[m].1.A.name]):=by show _=_;rw[n.out];simp[be,CY,l,hh2]);clear n l;(go_wp2_with fail);refine(Ea _ a cs[k].bl[m].1.A.name w.heap.size _ r (by omega)).mono ?_;rintro e z ⟨rfl,d⟩;rw[hh2,d];clear d z hh2;go_wp2_with (at_builtin;refine me _ rfl (.tmp 80) (.tmp 84) _ rfl w.heap.size 9 i0 _ 1 16 underlying41 B9 A2 DT B0 rfl (by omega) (U BB (Z a) EK) (Z a) (a.flatMap Ag) rfl (r.alloc _) ⟨wr.heap.size+1,0,Y⟩ 1 1 [O cs[k].bl[m].1.A.name] rfl rfl (Ju wr _ _ _ _ rfl) (by simp[Value.oneCell']) (by omega) (by unfold maxLen;omega) (by omega) (by simp;omega) (wr.heap.size+2) (by simp) ?_;intro g5 HA w5 M D N T)
        have Ax:Ac [] w w5:=((u.alloc _).alloc _).grown D (λq H=>Hf (C.lt q H).1);clear D N T;go_wp2
        go_roundw
        case rel=>
         refine⟨m+1,a++[cs[k].bl[m].1.A.name],by go_num,by omega,y,by simp;omega,?_,Ax⟩;simpa[Ag] using M
        case measure=>simp[intOf];omega
      ·(have y:JR ((cs[k].bl.take (m+1)).foldl be b=a):=by show _=_;rw[n.out];simp[be,l]);clear n l;go_wp2
       go_roundw
       case rel=>exact⟨m+1,a,by go_num,by omega,y,by omega,r,u.alloc _⟩
       case measure=>simp[intOf];omega
     .have HZ:JR ((cs.take (k+1)).foldl Mk []=a):=by
       have h:=HM.out;rw[lH (by omega)]at h;show _=_;rw[DO _ _ B,HF.out,<-h];unfold Mk;rw[P.out]
      go_wp2
      go_roundw
      case rel=>exact⟨k+1,a,by go_num,by omega,HZ,by omega,C,u⟩
      case measure=>simp[intOf];omega
  ·(have HE:JR (C2 cs=f):=by have h:=HF.out;rwa [lH (by omega)]at h);go_wp2;go_ret;rw[HE.out];exact⟨_,rfl,G,I⟩
def N3(x:bC)(l:QC bC)(c:A7):QC bC:=if c.head.name.toList==x.toList then c.bl.foldl be l else l
def NK(cs:QC A7)(l:QC bC)(x:bC):QC bC:=cs.foldl (N3 x) l
def Ec(cs:QC A7):QC bC:=cs.flatMap λc=>(c.bl.filter Nf).map λp=>p.1.A.name
def Qw(cs:QC A7)(l:QC bC):Nat:=(Ec cs).countP λx=> !Ew l x
def Bd(cs:QC A7)(l:QC bC):Prop:=Z l+Qw cs l<=1+Z (Ec cs)
def Kv:Nat->QC A7->bC->QC bC->Nat->Bool
 |0,_,_,_,_=>K
 |f+1,cs,to,l,n=>if h:n<Z l then(if l[n].toList==to.toList then Cm else Kv f cs to (NK cs l l[n]) (n+1))else K
def Ht(cs:QC A7)(frm to:bC):Bool:=Kv (2+Z (Ec cs)) cs to [frm] 0
def PM(l:QC bC)(x:bC):∀(m:QC bC),(m.countP λy=> !Ew (l++[x]) y)<=m.countP λy=> !Ew l y
 |[]=>by simp
 |y::m=>by
  have ih:=PM l x m;simp only[List.countP_cons];have:(!Ew (l++[x]) y)=Cm->(!Ew l y)=Cm:=by
   rw[LJ];cases Ew l y<;>simp
  cases h1:(!Ew (l++[x]) y)with
  |true=>simp only[this h1,if_true];omega
  |false=>simp only[lJ,if_false];omega
def JW(l:QC bC)(x:bC)(b:Ew l x=K):∀(m:QC bC),x∈m->(m.countP λy=> !Ew (l++[x]) y)+1<=m.countP λy=> !Ew l y
 |[],h=>by simp at h
 |y::m,h=>by
  simp only[List.countP_cons];by_cases c:y=x
  .subst c;have a:=PM l y m;(have d:Ew (l++[y]) y=Cm:=by rw[LJ];simp);simp only[d,b,oh,m4,if_true,lJ,if_false];omega
  .have ih:=JW l x b m (by rcases lI.1 h with h|h;exact absurd h.symm c;exact h);have:(!Ew (l++[x]) y)=Cm->(!Ew l y)=Cm:=by
    rw[LJ];cases Ew l y<;>simp
   cases a:(!Ew (l++[x]) y)with
   |true=>simp only[this a,if_true];omega
   |false=>simp only[lJ,if_false];omega
def fh{a:QC A7}{c:A7}{p:Be}(i:c∈a)(b:p∈c.bl)(h:Bd a e):Bd a (be e p):=by
 unfold be CY;split
 .rename_i g;split
  .exact h
  .rename_i j;(have f:Ew e p.1.A.name=K:=by simpa using j);have d:p.1.A.name∈Ec a:=by
    unfold Ec;rw[mD];exact⟨c,i,lP.2 ⟨p,mh.2 ⟨b,g⟩,rfl⟩⟩
   have:=JW e p.1.A.name f (Ec a) d;unfold Bd Qw at h⊢;simp only[lU,lQ,mn];omega
 .exact h
def dg(l:QC bC)(p:Be):∃a,be l p=l++a:=by
 unfold be CY;split
 .split
  .exact⟨[],by simp⟩
  .exact⟨[_],rfl⟩
 .exact⟨[],by simp⟩
structure Fb(cs:QC A7)(l l2:QC bC):Prop where
 pre:∃suf,l2=l++suf
 bd:Bd cs l2
def Fb.be{a:QC A7}{l d:QC bC}(h:Fb a l d){c:A7}{p:Be}(i:c∈a)(e:p∈c.bl):Fb a l (be d p):=by
 obtain⟨⟨b,rfl⟩,g⟩:=h;obtain⟨s2,f⟩:=dg (l++b) p;exact⟨⟨b++s2,by rw[f,mO]⟩,fh i e g⟩
variable{c:QC A7}
def Fb.at{l a:QC bC}(h:Fb c l a)(b:n<Z l):∃d:n<Z a,a[n]=l[n]:=by
 obtain⟨⟨e,rfl⟩,_⟩:=h;exact⟨by simp;omega,mT b⟩
def Fb.len{l a:QC bC}(h:Fb c l a):Z l<=Z a/\Z a<=1+Z (Ec c):=by
 obtain⟨⟨d,rfl⟩,b⟩:=h;unfold Bd at b;exact⟨by simp,by omega⟩
theorem VD(pb:Nat)(lv:Hs)(a:QC A7)(P H:bC)(w:Hq)(hP:AI w pb [lv] 76)(hR:CU w lv a)(M3:Z a<=1000000)(H3:∀c∈a,Z c.bl<=1000000)(MN:Z (Ec a)<=900000):
  Calls prog 85 #[Gi (V ⟨pb,0,Y⟩),O P,O H] w λe w'=>e=G3 (No (Ht a P H))/\Ac [] w w':=by
 obtain⟨i0,IJ,HW,E0,ES⟩:=mH Tryz.zM;obtain⟨ad,HK,rfl⟩:=Ak hR.row;obtain⟨R,FW⟩:=QP (Ht a P H);rw[FW];have HR:JR (CU w (U ad (Z a) HK) a/\(∀c∈a,Z c.bl<=1000000)/\Ht a P H=R):=⟨hR,H3,FW⟩;obtain⟨A,hA⟩:=QP (Z (Ec a));rw[hA]at MN;have HA:=Ab hA;clear hR H3 FW hA;have NX:∀(x:Bool) (w:Hq),(Op.unary .not (No x)).run prog w=.ok (No (!x)) w:=λ_ _=>rfl
 go_enter func85,ntmps85;go_wp2
 go_loopg [7,8] (1+A) (λgk o i wr=>∃(n:Nat) (l:QC bC),i=X J n/\n<=Z l/\Z l<=1+A/\gk=1+A-n/\JR (Bd a l/\Kv (2+A-n) a H l n=R)/\Mi wr w.heap.size 9 1 o (Z l) (l.flatMap Ag)/\Ac [] w wr)
 case atStart=>
  refine⟨0,[P],rfl,by simp,by simp,by simp,⟨?_,?_⟩,?_,(SF _ _).alloc _⟩
  .unfold Bd Qw;have:=pR (p:=λx=> !Ew [P] x) (l:=Ec a);simp only[lQ,mn];omega
  .have h:=HR.out.2.2;unfold Ht at h;rw[Aa HA]at h;exact h
  .exact⟨rfl,Hf ⟨_,1,#[O P],rfl,lX _,mo w _,by simp,by unfold maxLen;omega,rfl,by simp[Ag]⟩⟩
 case round=>
  obtain⟨n,l,rfl,hn,hl,JJ,HB,EY,hK⟩:=hrel;have HG:JR (gk=1+A-n):=JJ;clear JJ;obtain⟨N4,N2,rfl⟩:=Ak EY;by_cases AH:n<Z l
  .obtain⟨g,Nx,he,hc,HY⟩:=AC EY (λc _=>rfl) n AH;simp only[lB]at he;obtain⟨rfl,_,rfl⟩:=he;have G:=HY n AH 0 (by omega);simp[Ag]at G;clear HY;obtain⟨x,hx⟩:=QP (l[n]);rw[hx]at G;cases hto:(x.toList==H.toList)with
   |true=>
    have MB:JR (R=Cm):=by
     have h:=HB.out.2;rw[show 2+A-n=(1+A-n)+1 by omega,Kv,dif_pos AH,hx,hto]at h;exact h.symm
    clear hx;go_wp2;go_ret;rw[MB.out];exact⟨rfl,hK⟩
   |false=>
    have KA:JR (Kv (2+A-(n+1)) a H (NK a l x) (n+1)=R/\l[n]=x):=by
     have h:=HB.out.2;rw[show 2+A-n=(2+A-(n+1))+1 by omega,Kv,dif_pos AH,hx,hto]at h;exact⟨h,hx⟩
    have HV:JR (Fb a l l):=⟨⟨[],by simp⟩,HB.out.1⟩;clear hx HB;go_wp2;clear G hto
    go_loopw [7,9] (λo i Q=>∃(k:Nat) (d:QC bC),i=X J k/\k<=Z a/\JR ((a.take k).foldl (N3 x) l=d/\Fb a l d)/\Mi Q w.heap.size 9 1 o (Z d) (d.flatMap Ag)/\Ac [] w Q) (λ_ i _=>Z a-(intOf i).toNat)
    case atStart=>exact⟨0,l,rfl,lW _,⟨by simp,HV.out⟩,EY,hK⟩
    case round=>
     clear EY hK HV;obtain⟨k,d,rfl,hk,HM,I,C⟩:=hrel;obtain⟨NV,M0,rfl⟩:=Ak I;have H8:=(hP.kept C).cell 0;simp at H8;by_cases u:k<Z a
     .have HJ:=HR.out.1.kept C;obtain⟨gp,NS,H9,_,Mo⟩:=AC HJ.row (λc _=>B6 c) k u;simp only[lB]at H9;obtain⟨rfl,_,rfl⟩:=H9;have AT:=HJ.each a[k] (lE u);have Os:=HR.out.2.1 a[k] (lE u);obtain⟨LB,HX,H5⟩:=Ak AT.body;have KK:=Ab H5;clear Mo HJ AT H5 H8;have Ax:JR (∀(N:Hq) (o:Hs) (b:QC bC),Ac [] w N->Mi N w.heap.size 9 1 o (Z b) (b.flatMap Ag)->Fb a l b->
        Lc N ⟨pb,0,Y⟩=V (U (V ⟨gp,0,Y⟩) (Z a) HK)/\Lc N ⟨gp,k*5,Y⟩=V (O a[k].head.name)/\Lc N ⟨gp,k*5+3,Y⟩=V (U LB a[k].bl.length HX)/\
        ∃F S,o=U (V ⟨F,0,Y⟩) (Z b) S/\n<Z b/\Lc N ⟨F,n,Y⟩=V (O x)):=by
       intro N o b KD K3 M1;have h1:=(hP.kept KD).cell 0;have K2:=HR.out.1.kept KD;obtain⟨g2,c2,KS,_,H6⟩:=AC K2.row (λc _=>B6 c) k u;simp only[lB,lL,mu]at KS;obtain⟨⟨rfl,_,_⟩,_,rfl⟩:=KS;have h2:=H6 k u 0 (by omega);have h3:=H6 k u 3 (by omega);simp[Df]at h1 h2 h3;rw[Aa KK]at h3;obtain⟨A2,K6⟩:=M1.at AH;obtain⟨F,S,W,_,MY⟩:=AC K3 (λc _=>rfl) n A2;have h4:=MY n A2 0 (by omega);simp[Ag]at h4;rw[K6,KA.out.2]at h4;exact⟨h1,h2,h3,F,S,W,A2,h4⟩
      cases hnm:(a[k].head.name.toList==x.toList)with
      |false=>
       have E:JR ((a.take (k+1)).foldl (N3 x) l=d/\Fb a l d):=⟨by rw[DO _ _ u,HM.out.1];simp[N3,hnm],HM.out.2⟩;obtain⟨f1,f2,f3,F,S,W,A2,f4⟩:=Ax.out _ _ _ C I E.out.2;simp only[lB]at W;obtain⟨rfl,_,rfl⟩:=W;clear Ax;(have K7:(k:Int)<(Z a:Int):=by omega);(have K8:(n:Int)<(Z d:Int):=by omega);go_wp2
       go_loopw [7,10] (λo i Q=>o=U (V ⟨F,0,Y⟩) (Z d) M0/\i=X J 0/\∃q,Q=wr.drewN q) (λ_ _ _=>0)
       case atStart=>exact⟨rfl,rfl,0,rfl⟩
       case round=>
        obtain⟨rfl,rfl,q,rfl⟩:=hrel;go_wp2_with fail
        go_quiet (fail)
        go_wp2_with fail
        go_roundw
        case rel=>exact⟨k+1,d,by go_num,by omega,E,DJ I _,C.drewN _⟩
        case measure=>simp[intOf];omega
      |true=>
       (have M2:JR ((a.take (k+1)).foldl (N3 x) l=a[k].bl.foldl be d):=by show _=_;rw[DO _ _ u,HM.out.1];simp[N3,hnm]);have H7:=Ab HM.out.2;(have K7:(k:Int)<(Z a:Int):=by omega);obtain⟨f1,_⟩:=Ax.out _ _ _ C I H7;go_wp2;clear f1
       go_loopw [7,10] (λo i Q=>∃(m:Nat) (b:QC bC),i=X J m/\m<=a[k].bl.length/\JR ((a[k].bl.take m).foldl be d=b/\Fb a l b)/\Mi Q w.heap.size 9 1 o (Z b) (b.flatMap Ag)/\Ac [] w Q) (λ_ i _=>a[k].bl.length-(intOf i).toNat)
       case atStart=>exact⟨0,d,rfl,lW _,⟨by simp,H7⟩,I,C⟩
       case round=>
        clear I;have NA:=Ab C;clear C;obtain⟨m,b,rfl,hm,HN,CL,AO⟩:=hrel;obtain⟨f1,f2,f3,F,S,W,A2,f4⟩:=Ax.out _ _ _ AO CL HN.out.2;subst W;(have K8:(n:Int)<(Z b:Int):=by omega);(have NM:Z b<=1+A:=by have:=HN.out.2.len.2;rw[Aa HA]at this;exact this);have LC:=AO.size;by_cases j:m<a[k].bl.length
        ·(have NL:(m:Int)<(a[k].bl.length:Int):=by omega);(have LE:decide ((m:Int)<(a[k].bl.length:Int))=Cm:=by simp;omega);have AT:=(HR.out.1.kept AO).each a[k] (lE u);obtain⟨f,Nd,Ha,NY,z⟩:=AC AT.body (λc _=>BR c) m j;rw[Aa KK]at Ha;simp only[lB]at Ha;obtain⟨rfl,_,rfl⟩:=Ha;have hl:=AT.lits a[k].bl[m] (lE j);obtain⟨HL,HC,Jx⟩:=Ak hl;have G:=z m j 0 (by omega);have d1:=z m j 1 (by omega);have d2:=z m j 2 (by omega);have d3:=z m j 3 (by omega);have d4:=z m j 4 (by omega);have d5:=z m j 5 (by omega);have d6:=z m j 6 (by omega);have d7:=z m j 7 (by omega);have d8:=z m j 8 (by omega);simp[AZ,Cn]at G d1 d2 d3 d4 d5 d6 d7 d8;rw[Jx]at d2;have HD:JR (Lc wr ⟨f,m*9,Y⟩=V (X .u8 a[k].bl[m].1.kind.toNat)/\Lc wr ⟨f,m*9+1,Y⟩=V (O a[k].bl[m].1.A.name)/\Lc wr ⟨f,m*9+2,Y⟩=V (U HL a[k].bl[m].1.A.args.length HC)/\Lc wr ⟨f,m*9+3,Y⟩=V (X J a[k].bl[m].1.A.at_)/\Lc wr ⟨f,m*9+4,Y⟩=V (X .u8 a[k].bl[m].1.L.v.toNat)/\Lc wr ⟨f,m*9+5,Y⟩=V (O a[k].bl[m].1.L.s)/\Lc wr ⟨f,m*9+6,Y⟩=V (X .u8 a[k].bl[m].1.R.v.toNat)/\Lc wr ⟨f,m*9+7,Y⟩=V (O a[k].bl[m].1.R.s)/\Lc wr ⟨f,m*9+8,Y⟩=V (X J a[k].bl[m].1.at_)):=⟨G,d1,d2,d3,d4,d5,d6,d7,d8⟩;have y:JR ((a[k].bl.take (m+1)).foldl be d=be b a[k].bl[m]/\Fb a l (be b a[k].bl[m])):=⟨by rw[DO _ _ j,HN.out.1],HN.out.2.be (lE u) (lE j)⟩;clear z hl Jx AT G d1 d2 d3 d4 d5 d6 d7 d8 Ax;go_wp2_with fail
         go_quiet (fail)
         have B9:=DJ CL nq;have M:=AO.drewN nq;have FF:Lc (wr.drewN nq) ⟨pb,0,Y⟩=V (U (V ⟨gp,0,Y⟩) (Z a) HK)/\Lc (wr.drewN nq) ⟨gp,k*5+3,Y⟩=V (U (V ⟨f,0,Y⟩) a[k].bl.length HX)/\Lc (wr.drewN nq) ⟨f,m*9,Y⟩=V (X .u8 a[k].bl[m].1.kind.toNat)/\Lc (wr.drewN nq) ⟨f,m*9+1,Y⟩=V (O a[k].bl[m].1.A.name)/\Lc (wr.drewN nq) ⟨f,m*9+2,Y⟩=V (U HL a[k].bl[m].1.A.args.length HC)/\Lc (wr.drewN nq) ⟨f,m*9+3,Y⟩=V (X J a[k].bl[m].1.A.at_)/\Lc (wr.drewN nq) ⟨f,m*9+4,Y⟩=V (X .u8 a[k].bl[m].1.L.v.toNat)/\Lc (wr.drewN nq) ⟨f,m*9+5,Y⟩=V (O a[k].bl[m].1.L.s)/\Lc (wr.drewN nq) ⟨f,m*9+6,Y⟩=V (X .u8 a[k].bl[m].1.R.v.toNat)/\Lc (wr.drewN nq) ⟨f,m*9+7,Y⟩=V (O a[k].bl[m].1.R.s)/\Lc (wr.drewN nq) ⟨f,m*9+8,Y⟩=V (X J a[k].bl[m].1.at_):=⟨f1,f3,HD.out⟩;clear HD f1 f2 f3 f4 CL AO LC;generalize wr.drewN nq=wd at FF B9 M⊢;obtain⟨f1,f3,G,d1,d2,d3,d4,d5,d6,d7,d8⟩:=FF;have Nq:=M.size;have B:=B9.alloc (Dj #[X .u8 a[k].bl[m].1.kind.toNat,O a[k].bl[m].1.A.name,U HL a[k].bl[m].1.A.args.length HC,X J a[k].bl[m].1.A.at_,X .u8 a[k].bl[m].1.L.v.toNat,O a[k].bl[m].1.L.s,X .u8 a[k].bl[m].1.R.v.toNat,O a[k].bl[m].1.R.s,X J a[k].bl[m].1.at_] 95);rcases En a[k].bl[m] with⟨k1,r⟩|⟨k1,k2,r⟩|⟨k1,k2,r⟩
         .cases hh2:Ew b a[k].bl[m].1.A.name with
          |true=>
           (have e:be b a[k].bl[m]=b:=by simp[be,CY,r,hh2]);(have D:JR ((a[k].bl.take (m+1)).foldl be d=b/\Fb a l b):=by have h:=y.out;rw[e]at h;exact h);clear e;clear y r;(go_wp2_with fail);refine(Ea _ b a[k].bl[m].1.A.name w.heap.size _ B (by omega)).mono ?_;rintro e T ⟨rfl,t⟩;rw[hh2,t];clear t T hh2;go_wp2
           go_roundw
           case rel=>exact⟨m+1,b,by go_num,by omega,D,B,M.alloc _⟩
           case measure=>simp[intOf];omega
          |false=>
           (have e:be b a[k].bl[m]=b++[a[k].bl[m].1.A.name]:=by simp[be,CY,r,hh2]);(have D:JR ((a[k].bl.take (m+1)).foldl be d=b++[a[k].bl[m].1.A.name]/\Fb a l (b++[a[k].bl[m].1.A.name])):=by have h:=y.out;rw[e]at h;exact h);clear e;clear y r;(go_wp2_with fail);refine(Ea _ b a[k].bl[m].1.A.name w.heap.size _ B (by omega)).mono ?_;rintro e T ⟨rfl,t⟩;rw[hh2,t];clear t T hh2;go_wp2_with (at_builtin;refine me _ rfl (.tmp 91) (.tmp 95) _ rfl w.heap.size 9 i0 _ 1 16 underlying41 IJ HW E0 ES rfl (by omega) (U (V ⟨F,0,Y⟩) (Z b) S) (Z b) (b.flatMap Ag) rfl (B.alloc _) ⟨wd.heap.size+1,0,Y⟩ 1 1 [O a[k].bl[m].1.A.name] rfl rfl (Ju wd _ _ _ _ rfl) (by simp[Value.oneCell']) (by omega) (by unfold maxLen;omega) (by omega) (by simp;omega) (wd.heap.size+2) (by simp) ?_;intro g5 LS w5 FL BT FP HH)
           have HO:Ac [] w w5:=((M.alloc _).alloc _).grown BT (λq hq=>Hf (B9.lt q hq).1);clear BT FP HH;go_wp2
           go_roundw
           case rel=>
            refine⟨m+1,b++[a[k].bl[m].1.A.name],by go_num,by omega,D,?_,HO⟩;simpa[Ag] using FL
           case measure=>simp[intOf];omega
         .cases hh2:Ew b a[k].bl[m].1.A.name with
          |true=>
           (have e:be b a[k].bl[m]=b:=by simp[be,CY,r,hh2]);(have D:JR ((a[k].bl.take (m+1)).foldl be d=b/\Fb a l b):=by have h:=y.out;rw[e]at h;exact h);clear e;clear y r;(go_wp2_with fail);refine(Ea _ b a[k].bl[m].1.A.name w.heap.size _ B (by omega)).mono ?_;rintro e T ⟨rfl,t⟩;rw[hh2,t];clear t T hh2;go_wp2
           go_roundw
           case rel=>exact⟨m+1,b,by go_num,by omega,D,B,M.alloc _⟩
           case measure=>simp[intOf];omega
          |false=>
           (have e:be b a[k].bl[m]=b++[a[k].bl[m].1.A.name]:=by simp[be,CY,r,hh2]);(have D:JR ((a[k].bl.take (m+1)).foldl be d=b++[a[k].bl[m].1.A.name]/\Fb a l (b++[a[k].bl[m].1.A.name])):=by have h:=y.out;rw[e]at h;exact h);clear e;clear y r;(go_wp2_with fail);refine(Ea _ b a[k].bl[m].1.A.name w.heap.size _ B (by omega)).mono ?_;rintro e T ⟨rfl,t⟩;rw[hh2,t];clear t T hh2;go_wp2_with (at_builtin;refine me _ rfl (.tmp 91) (.tmp 95) _ rfl w.heap.size 9 i0 _ 1 16 underlying41 IJ HW E0 ES rfl (by omega) (U (V ⟨F,0,Y⟩) (Z b) S) (Z b) (b.flatMap Ag) rfl (B.alloc _) ⟨wd.heap.size+1,0,Y⟩ 1 1 [O a[k].bl[m].1.A.name] rfl rfl (Ju wd _ _ _ _ rfl) (by simp[Value.oneCell']) (by omega) (by unfold maxLen;omega) (by omega) (by simp;omega) (wd.heap.size+2) (by simp) ?_;intro g5 LS w5 FL BT FP HH)
           have HO:Ac [] w w5:=((M.alloc _).alloc _).grown BT (λq hq=>Hf (B9.lt q hq).1);clear BT FP HH;go_wp2
           go_roundw
           case rel=>
            refine⟨m+1,b++[a[k].bl[m].1.A.name],by go_num,by omega,D,?_,HO⟩;simpa[Ag] using FL
           case measure=>simp[intOf];omega
         ·(have e:be b a[k].bl[m]=b:=by simp[be,r]);(have D:JR ((a[k].bl.take (m+1)).foldl be d=b/\Fb a l b):=by have h:=y.out;rw[e]at h;exact h);clear e;clear y r;go_wp2
          go_roundw
          case rel=>exact⟨m+1,b,by go_num,by omega,D,B,M.alloc _⟩
          case measure=>simp[intOf];omega
        ·(have LE:decide ((m:Int)<(a[k].bl.length:Int))=K:=by simp;omega);(have OB:decide (m<a[k].bl.length)=K:=by simp;omega);have E:JR ((a.take (k+1)).foldl (N3 x) l=b/\Fb a l b):=by
          have h:=HN.out;rw[lH (by omega)]at h;exact⟨by rw[Aa M2];exact h.1,h.2⟩
         clear Ax;go_wp2_with fail
         go_quiet (fail)
         go_wp2_with fail
         go_roundw
         case rel=>exact⟨k+1,b,by go_num,by omega,E,DJ CL _,AO.drewN _⟩
         case measure=>simp[intOf];omega
     ·(have E:JR (NK a l x=d/\Fb a l d):=by have h:=HM.out;rw[lH (by omega)]at h;exact h);(have E0:n+1<=Z d:=by have:=E.out.2.len.1;omega);(have ES:Z d<=1+A:=by have:=E.out.2.len.2;rw[Aa HA]at this;exact this);go_wp2
      go_roundg (1+A-(n+1))
      case measure=>have:=HG.out;omega
      case rel=>exact⟨n+1,d,by go_num,E0,ES,rfl,⟨E.out.2.bd,by rw[<-E.out.1];exact KA.out.1⟩,I,C⟩
  .have K4:JR (R=K):=by
    have h:=HB.out.2;rw[show 2+A-n=(1+A-n)+1 by omega,Kv,dif_neg AH]at h;exact h.symm
   go_wp2;go_ret;rw[K4.out];exact⟨rfl,hK⟩
def BI(p:Be):Bool:=decide (2<Z p.1.A.args)
def BN(cs:QC A7)(p:Be):Bool:=Nf p&&(BU cs p.1.A.name !=(Z p.1.A.args:Int))
def Cq(cs:QC A7)(i:Nat)(c:A7):Option (Int×Int):=
 if 12<=i\/3<Z c.bl then V (3,c.at_)
 else if 2<Z c.head.args then V (3,c.at_)
 else if c.bl.any BI then V (3,c.at_)
 else if 6<Z (C2 (cs.take (i+1)))\/6<Z (D9 (cs.take (i+1))) then V (3,c.at_)
 else if BU cs c.head.name≠(Z c.head.args:Int)then V (4,c.head.at_)
 else match c.bl.find? (BN cs)with
  |some p=>V (4,p.1.A.at_)
  |none=>if 0<=DN c.head c.bl then V (5,DN c.head c.bl)else Y
def EL(cs:QC A7):Nat->QC A7->Option (Int×Int)
 |_,[]=>Y
 |i,c::l=>match Cq cs i c with
  |some r=>V r
  |none=>EL cs (i+1) l
def Ff(cs:QC A7)(c:A7)(p:Be):Bool:=p.1.kind==33&&Ht cs p.1.A.name c.head.name
def DQ(cs:QC A7)(c:A7):Option (Int×Int):=(c.bl.find? (Ff cs c)).map λp=>(6,(p.1.at_:Int))
def CK(cs:QC A7):Int×Int:=match EL cs 0 cs with
 |some r=>r
 |none=>match cs.findSome? (DQ cs)with
  |some r=>r
  |none=>(0,0)
def K0{a:QC A7}:∀(l:QC A7) (i k:Nat),(∀j (d:j<Z l),j<k->Cq a (i+j) l[j]=Y)->k<=Z l->EL a i l=EL a (i+k) (l.drop k)
 |l,i,0,_,_=>by simp
 |[],i,k+1,_,hk=>by simp at hk
 |c::l,i,k+1,h,hk=>by
  have b:=h 0 (by simp) (by omega);simp only[pF,ox]at b;rw[EL,b];simp only[oM];rw[K0 l (i+1) k (λj d e=>by
   have:=h (j+1) (by simp;omega) (by omega)
   simp only[List.getElem_cons_succ]at this
   rw[show i+1+j=i+(j+1) by omega];exact this) (by simpa using hk)]
  rw[show i+1+k=i+(k+1) by omega]
def Zf(b:k<Z c)(e:∀j (a:j<Z c),j<k->Cq c j c[j]=Y){r:Int×Int}(d:Cq c k c[k]=V r):CK c=r:=by
 unfold CK;rw[K0 c 0 k (λj a f=>by rw[mC];exact e j a f) (by omega),lY b,mC,EL,d]
def VW(b:∀j (a:j<Z c),Cq c j c[j]=Y):CK c=match c.findSome? (DQ c)with|some r=>r|none=>(0,0):=by
 unfold CK;rw[K0 c 0 (Z c) (λj a _=>by rw[mC];exact b j a) (lX _),List.drop_length,EL]
def Ns{b:QC A7}{c:A7}(h:Cq b i c=Y):i<12/\KH c:=by
 unfold Cq at h;split at h
 .cases h
 .rename_i f;split at h
  .cases h
  .rename_i e;split at h
   .cases h
   .rename_i d;refine⟨by omega,⟨by omega,by omega,λp a=>?_⟩⟩;have:BI p=K:=by
     cases hm:BI p with
     |false=>rfl
     |true=>exact absurd (by rw[mZ];exact⟨p,a,hm⟩) d
    simpa[BI] using this
def CU.take{w:Hq}{g:Nat}{m:Nat}{b:QC A7}(h:CU w (U (V ⟨g,0,Y⟩) (Z b) m) b)(k:Nat)(t:k<=Z b):CU w (U (V ⟨g,0,Y⟩) k m) (b.take k):=by
 refine⟨?_,λc n=>h.each c (nk n)⟩;have f:Z (b.take k)=k:=by simp;omega
 rw[f];have j:∀(l:QC A7),Z (l.flatMap Df)=Z l*5:=by
  intro l
  induction l with
  |nil=>rfl
  |cons a l ih=>rw[mc,lU,ih,B6,lQ];omega
 rcases h.row.2 with⟨d,_⟩|⟨v,u,i,d,_,s,n,o,p,r⟩
 .cases d
 .simp only[lB,lL,mu]at d;obtain⟨⟨rfl,_,_⟩,_,rfl⟩:=d;refine⟨by rw[j,f],Hf ⟨g,m,i,rfl,lW _,s,by omega,o,p,?_⟩⟩;have e:b.flatMap Df=(b.take k).flatMap Df++(b.drop k).flatMap Df:=by rw[<-mm,mU]
  have q:i.toList.take (k*5)=(i.toList.take (Z b*5)).take (k*5):=by rw[o9,oB (by omega)]
  rw[q,r,e,mN (by rw[j,f];omega),lH (by rw[j,f];omega)]
structure Xd(cs:QC A7):Prop where
 len:Z cs<=1000
 body:∀c∈cs,Z c.bl<=1000
 head:∀c∈cs,Z c.head.args<=1000000
 lits:∀c∈cs,∀p∈c.bl,Z p.1.A.args<=1000000
 atoms:Z (Ec cs)<=900000
 full:∀c∈cs,du c
def Vo{a:QC A7}(h:CU w (U (V ⟨n,0,Y⟩) (Z a) m) a)(q:Ac [] w v)(b:k<Z a):
  Lc v ⟨n,k*5,Y⟩=V (O a[k].head.name)/\Lc v ⟨n,k*5+1,Y⟩=V a[k].hv/\Lc v ⟨n,k*5+2,Y⟩=V (X J a[k].head.at_)/\Lc v ⟨n,k*5+3,Y⟩=V a[k].bv/\Lc v ⟨n,k*5+4,Y⟩=V (X J a[k].at_):=by
 have p:=h.kept q;obtain⟨s,r,j,_,d⟩:=AC p.row (λc _=>B6 c) k b;simp only[lB,lL,mu]at j;obtain⟨⟨rfl,_,_⟩,_,rfl⟩:=j;have l:=d k b 0 (by omega);have i:=d k b 1 (by omega);have e:=d k b 2 (by omega);have o:=d k b 3 (by omega);have f:=d k b 4 (by omega);simp[Df]at l i e o f;exact⟨l,i,e,o,f⟩
def Vp{c:A7}(h:YM w c)(b:m<Z c.bl):∃a e,c.bv=U (V ⟨a,0,Y⟩) (Z c.bl) e/\
  Lc w ⟨a,m*9,Y⟩=V (X .u8 c.bl[m].1.kind.toNat)/\Lc w ⟨a,m*9+1,Y⟩=V (O c.bl[m].1.A.name)/\Lc w ⟨a,m*9+2,Y⟩=V c.bl[m].2/\Lc w ⟨a,m*9+3,Y⟩=V (X J c.bl[m].1.A.at_)/\
  Lc w ⟨a,m*9+4,Y⟩=V (X .u8 c.bl[m].1.L.v.toNat)/\Lc w ⟨a,m*9+5,Y⟩=V (O c.bl[m].1.L.s)/\Lc w ⟨a,m*9+6,Y⟩=V (X .u8 c.bl[m].1.R.v.toNat)/\Lc w ⟨a,m*9+7,Y⟩=V (O c.bl[m].1.R.s)/\Lc w ⟨a,m*9+8,Y⟩=V (X J c.bl[m].1.at_):=by
 obtain⟨a,e,r,_,d⟩:=AC h.body (λp _=>BR p) m b;have j:=d m b 0 (by omega);have k:=d m b 1 (by omega);have f:=d m b 2 (by omega);have i:=d m b 3 (by omega);have g:=d m b 4 (by omega);have l:=d m b 5 (by omega);have o:=d m b 6 (by omega);have n:=d m b 7 (by omega);have q:=d m b 8 (by omega);simp[AZ,Cn]at j k f i g l o n q;exact⟨a,e,r,j,k,f,i,g,l,o,n,q⟩
def XR{a:QC A7}(g:k<Z a)(e:∀j (b:j<Z a),j<k->Cq a j a[j]=Y)(f:KH a[k]):∀c∈a.take (k+1),KH c:=by
 intro c d;obtain⟨j,b,rfl⟩:=List.mem_iff_getElem.1 d;simp only[mB]at b;rw[oJ];by_cases h:j<k
 .exact(Ns (e j (by omega) h)).2
 .have:j=k:=by omega
  subst this;exact f
structure KW(w0:Hq) where
 wk:Hq
 kept:Ac [] w0 wk
theorem KW.some(a:Hq):Nonempty (KW a):=⟨⟨a,SF _ _⟩⟩
def GQ{w w0:Hq}{l:QC Oper}(d:P.follows .mixedOrders=Cm)(f:Region.lexB .any (D6 l)=Cm)(c:Ac [] w0 w)
  (h:wpQuiet P (D6 l) (λb=>∃n:KW w0,b=n.wk) (λe=>∀b,(∃n:KW w0,b=n.wk)->Q .normal e b) l a):(Code.region m (D6 l) Cm).wp P Q a w:=
 wp_region_quiet (C:=λb=>∃n:KW w0,b=n.wk) d f ⟨⟨_,c.drew⟩,rfl⟩ (by simpa using h)
def Calls.zE{f:FuncId}{b:Array Hs}{n:KW w}
  (h:Calls P f b n.wk λe a=>e=G3 z/\Ac [] n.wk a):Calls P f b n.wk λe c=>e=G3 z/\∃m:KW w,c=m.wk:=
 h.mono λ_ a ⟨he,hk⟩=>⟨he,⟨⟨a,n.kept.trans hk⟩,rfl⟩⟩
theorem bT(pb:Nat)(lv:Hs)(b:QC A7)(w:Hq)(hP:AI w pb [lv] 76)(hR:CU w lv b)(hF:Xd b):
  Calls prog 45 #[Gi (V ⟨pb,0,Y⟩)] w λe w'=>e=G3 (.tuple #[X J (CK b).1,X J (CK b).2])/\Ac [] w w':=by
 obtain⟨ad,FW,rfl⟩:=Ak hR.row;obtain⟨R,LB⟩:=QP (CK b);rw[LB];have f:JR (CU w (U ad (Z b) FW) b/\Xd b/\CK b=R):=⟨hR,hF,LB⟩;have WB:=hF.len;clear hR hF LB;go_enter func45,ntmps45;go_wp2
 go_loopw [4] (λi wr=>∃k:Nat,i=X J k/\k<=Z b/\JR (∀j (hj:j<Z b),j<k->Cq b j b[j]=Y)/\Ac [] w wr) (λi _=>Z b-(intOf i).toNat)
 case atStart=>exact⟨0,rfl,lW _,λj hj h=>by omega,SF _ _⟩
 case round=>
  obtain⟨k,rfl,hk,HC,B⟩:=hrel;have M:=(hP.kept B).cell 0;simp at M;by_cases AR:k<Z b
  .obtain⟨g,TH,he,SK,Nd⟩:=AC f.out.1.row (λc _=>B6 c) k AR;clear Nd;simp only[lB]at he;obtain⟨rfl,_,rfl⟩:=he;obtain⟨c0,c1,c2,c3,c4⟩:=Vo f.out.1 B AR;have o:=(f.out.1.kept B).each b[k] (lE AR);obtain⟨HL,HK,IS⟩:=Ak o.args;obtain⟨FF,E0,B9⟩:=Ak o.body;rw[IS]at c1;rw[B9]at c3;obtain⟨c,Q⟩:=QP (b[k]);rw[Q]at c0 c1 c2 c3 c4 IS B9;have y:JR (b[k]=c/\c.hv=U HL (Z c.head.args) HK/\c.bv=U FF (Z c.bl) E0):=⟨Q,IS,B9⟩;(have TV:Z c.bl<=1000:=by have:=f.out.2.1.body b[k] (lE AR);rw[Q]at this;exact this);(have SB:Z c.head.args<=1000000:=by have:=f.out.2.1.head b[k] (lE AR);rw[Q]at this;exact this);have B2:JR (∀r,Cq b k c=V r->R=r):=by
    intro r hr;rw[<-f.out.2.2];exact Zf AR HC.out (by rw[Q];exact hr)
   clear o IS B9 Q;by_cases h1:12<=k\/3<Z c.bl
   .have t:JR (R=(3,(c.at_:Int))):=B2.out _ (by unfold Cq;rw[lS h1]);by_cases ZV:12<=k
    ·(have X1:(12:Int)<=(k:Int):=by omega);clear h1;go_wp2_with fail
     go_quiet (fail)
     (go_wp2_with fail);go_ret2;rw[t.out];exact⟨rfl,(B.alloc _).drewN _⟩
    ·(have h3:(3:Int)<(Z c.bl:Int):=by omega);clear h1;go_wp2_with fail
     go_quiet (fail)
     (go_wp2_with fail);go_ret2;rw[t.out];exact⟨rfl,(B.alloc _).drewN _⟩
   ·(have ag:k<12:=by omega);(have TL:Z c.bl<=3:=by omega);by_cases h2:2<Z c.head.args
    .have t:JR (R=(3,(c.at_:Int))):=B2.out _ (by unfold Cq;rw[lO h1,lS h2]);clear h1;go_wp2_with fail
     go_quiet (fail)
     (go_wp2_with fail);go_ret2;rw[t.out];exact⟨rfl,(B.alloc _).drewN _⟩
    ·(have VL:Z c.head.args<=2:=by omega);have E:JR (¬(12<=k\/3<Z c.bl)/\¬2<Z c.head.args):=⟨h1,h2⟩;clear h1 h2;(go_wp2_with fail);have AO:=Tc wr [O c.head.name,U HL (Z c.head.args) HK,X J c.head.at_,U FF (Z c.bl) E0,X J c.at_] 82;have HD:=B.alloc (Dj [O c.head.name,U HL (Z c.head.args) HK,X J c.head.at_,U FF (Z c.bl) E0,X J c.at_].toArray 82);have U0:=B.size;clear M c0 c1 c2 c3 c4 B;generalize wr.alloc (Dj [O c.head.name,U HL (Z c.head.args) HK,X J c.head.at_,U FF (Z c.bl) E0,X J c.at_].toArray 82)=w1 at AO HD⊢;generalize wr.heap.size=N at AO U0⊢;have q0:=AO.cell 0;have q1:=AO.cell 1;have q2:=AO.cell 2;have q3:=AO.cell 3;have q4:=AO.cell 4;simp at q0 q1 q2 q3 q4
     go_loop [6] (λi=>∃m:Nat,i=X J m/\m<=Z c.bl/\JR ((c.bl.take m).any BI=K)) (λi=>Z c.bl-(intOf i).toNat)
     case atStart=>exact⟨0,rfl,lW _,by show _=_;simp⟩
     case round=>
      obtain⟨m,rfl,hm,P⟩:=hrel;by_cases D:m<Z c.bl
      .have o:=(f.out.1.kept HD).each b[k] (lE AR);rw[y.out.1]at o;obtain⟨gb,NV,S,d0,d1,d2,d3,d4,d5,d6,d7,d8⟩:=Vp o D;rw[y.out.2.2]at S;simp only[lB]at S;obtain⟨rfl,_,rfl⟩:=S;obtain⟨AB,W,CL⟩:=Ak (o.lits c.bl[m] (lE D));rw[CL]at d2;clear d0 d1 d3 d4 d5 d6 d7 d8 o CL;by_cases RG:2<c.bl[m].1.A.args.length
       .have t:JR (R=(3,(c.at_:Int))):=B2.out _ (by unfold Cq;rw[lO E.out.1,lO E.out.2,lS (Jb _ _ m D (by simpa[BI] using RG))]);go_wp2_with fail
        go_quiet (fail)
        (go_wp2_with fail);go_ret2;rw[t.out];exact⟨rfl,HD.drewN _⟩
       ·(have z:JR ((c.bl.take (m+1)).any BI=K):=by show _=_;rw[C0 _ _ m D P.out];simpa[BI] using RG);go_wp2_with fail
        go_round
        case rel=>exact⟨m+1,by go_num,by omega,z⟩
        case measure=>simp[intOf];omega
      ·(have FP:JR (c.bl.any BI=K):=by have h:=P.out;rwa [lH (by omega)]at h);clear P;have M:=(hP.kept HD).cell 0;simp at M;(have aa:(k:Int)+1<=(FW:Int):=by omega);have Pl:JR (∀c'∈b.take (k+1),KH c'):=by
        refine XR AR HC.out ?_;rw[y.out.1];refine⟨TL,VL,λp hp=>?_⟩;cases hmm:BI p with
        |false=>simpa[BI] using hmm
        |true=>(have:c.bl.any BI=Cm:=by rw[mZ];exact⟨p,hp,hmm⟩);rw[FP.out]at this;cases this
       (go_wp2_with fail);clear D hm;have F:=Tc w1 [U (V ⟨g,0,Y⟩) (k+1) FW] 76;have IA:=HD.alloc (Dj [U (V ⟨g,0,Y⟩) (k+1) FW].toArray 76);have LM:=AO.alloc (Dj [U (V ⟨g,0,Y⟩) (k+1) FW].toArray 76);have T0:=AO.lt;clear M q0 q1 q2 q3 q4 AO HD;generalize w1.alloc (Dj [U (V ⟨g,0,Y⟩) (k+1) FW].toArray 76)=w2 at F IA LM⊢;generalize w1.heap.size=Nq at F T0⊢;(have ab:Z (b.take (k+1))=k+1:=by simp;omega);have K2:=(f.out.1.kept IA).take (k+1) (by omega);refine(Ut Nq _ (b.take (k+1)) _ F K2 (by omega) Pl).mono ?_;rintro e w3 ⟨v3,rfl,N0,HV⟩;obtain⟨Wa,WS,rfl⟩:=Ak N0;have LE:=IA.trans HV;have K5:=LM.kept HV;have Op:=F.kept HV;have OH:=K2.kept HV;obtain⟨nn,Nj⟩:=QP (Z (C2 (b.take (k+1))));have PT:=Ab Nj;rw[Nj];clear N0 HV LM F K2 IA Nj;have q4:=K5.cell 4;simp at q4;by_cases TX:6<nn
       .have t:JR (R=(3,(c.at_:Int))):=B2.out _ (by unfold Cq;rw[lO E.out.1,lO E.out.2,lO (by rw[FP.out];exact nS),lS (Hd (by rw[Aa PT];exact TX))]);go_wp2_with fail
        go_quiet (fail)
        (go_wp2_with fail);go_ret2;rw[t.out];exact⟨rfl,LE.drewN _⟩
       ·(go_wp2_with fail);refine(Zd Nq _ (b.take (k+1)) _ Op OH (by omega) Pl (λc' HS=>f.out.2.1.full c' (nk HS))).mono ?_;rintro e w4 ⟨v4,rfl,NX,KK⟩;obtain⟨X3,YP,rfl⟩:=Ak NX;have IJ:=LE.trans KK;have HF:=K5.kept KK;obtain⟨nt,MN⟩:=QP (Z (D9 (b.take (k+1))));have NS:=Ab MN;rw[MN];clear NX KK K5 Op OH LE MN q4;have q0:=HF.cell 0;have q1:=HF.cell 1;have q2:=HF.cell 2;have q4:=HF.cell 4;simp at q0 q1 q2 q4;by_cases SL:6<nt
        .have t:JR (R=(3,(c.at_:Int))):=B2.out _ (by unfold Cq;rw[lO E.out.1,lO E.out.2,lO (by rw[FP.out];exact nS),lS (Hf (by rw[Aa NS];exact SL))]);go_wp2_with fail
         go_quiet (fail)
         (go_wp2_with fail);go_ret2;rw[t.out];exact⟨rfl,IJ.drewN _⟩
        .have H9:JR (¬(6<Z (C2 (b.take (k+1)))\/6<Z (D9 (b.take (k+1))))):=by
          show¬_;rw[Aa PT,Aa NS];omega
         obtain⟨ar,NL⟩:=QP (BU b c.head.name);have K8:=Ab NL;have N4:=(hP.kept IJ).drew;have K9:=IJ.drew;have FL:JR (Z b<=1000000/\(∀c∈b,Z c.bl<=1000000)/\(∀c∈b,∀p∈c.bl,Z p.1.A.args<=1000000)):=⟨by omega,λc' HS=>by have:=f.out.2.1.body c' HS;omega,f.out.2.1.lits⟩;clear NL;go_wp2_with fail
         go_region_held3 (λw'=>Lc w' ⟨N,0,Y⟩=V (O c.head.name)/\Lc w' ⟨N,1,Y⟩=V (U HL (Z c.head.args) HK)) (go_keep) (first|(go_at_call 23;refine(Jh pb _ b c.head.name _ (by exact N4) (by exact f.out.1.kept K9) FL.out.1 FL.out.2.1).mono ?_;rintro e w5 ⟨rfl,K7⟩;rw[Aa K8];have HJ:=HF.drew.kept K7;have r0:=HJ.cell 0;have r1:=HJ.cell 1;simp at r0 r1))
         have Jx:=K9.trans K7;clear N4 K9 IJ HF q0 q1 q2 q4 K7 r0 r1;have q2:=HJ.cell 2;have q3:=HJ.cell 3;simp at q2 q3;by_cases C:ar=(Z c.head.args:Int)
         ·(have NB:(ar !=(Z c.head.args:Int))=K:=by simp[C]);(have K3:JR (¬BU b c.head.name≠(Z c.head.args:Int)):=by show¬_;rw[Aa K8];simp[C]);clear C;go_wp2_with fail
          go_loopw [8] (λi wq=>∃m:Nat,i=X J m/\m<=Z c.bl/\JR ((c.bl.take m).any (BN b)=K)/\Ac [] w wq/\AI wq N [O c.head.name,U HL (Z c.head.args) HK,X J c.head.at_,U FF (Z c.bl) E0,X J c.at_] 82) (λi _=>Z c.bl-(intOf i).toNat)
          case atStart=>exact⟨0,rfl,lW _,by show _=_;simp,Jx,HJ⟩
          case round=>
           clear q2 q3 HJ Jx NB;obtain⟨m,rfl,hm,P,G,F⟩:=hrel;have VS:=F.lt;have q0:=F.cell 0;have q1:=F.cell 1;have q2:=F.cell 2;have q3:=F.cell 3;simp at q0 q1 q2 q3;have o:=(f.out.1.kept G).each b[k] (lE AR);rw[y.out.1]at o;by_cases D:m<Z c.bl
           .obtain⟨gb,NV,S,d0,d1,d2,d3,d4,d5,d6,d7,d8⟩:=Vp o D;rw[y.out.2.2]at S;simp only[lB]at S;obtain⟨rfl,_,rfl⟩:=S;obtain⟨AB,W,CL⟩:=Ak (o.lits c.bl[m] (lE D));rw[CL]at d2;clear o CL;obtain⟨a,Ax⟩:=QP (c.bl[m]);rw[Ax]at d0 d1 d2 d3 d4 d5 d6 d7 d8;have I:JR (BN b a=Cm->R=(4,(a.1.A.at_:Int))):=by
             intro ho;refine B2.out _ ?_;unfold Cq;rw[lO E.out.1,lO E.out.2,lO (by rw[FP.out];exact nS),lO H9.out,lO K3.out,FU _ _ m D P.out (by rw[Ax];exact ho),Ax]
            have z:JR (BN b a=K->(c.bl.take (m+1)).any (BN b)=K):=by
             intro ho;rw[C0 _ _ m D P.out,Ax];exact ho
            clear Ax;(go_wp2_with fail);clear d0 d1 d2 d3 d4 d5 d6 d7 d8 q0 q1 q2 q3;have d:=Tc wr [X .u8 a.1.kind.toNat,O a.1.A.name,U AB (Z a.1.A.args) W,X J a.1.A.at_,X .u8 a.1.L.v.toNat,O a.1.L.s,X .u8 a.1.R.v.toNat,O a.1.R.s,X J a.1.at_] 95;have B0:=F.alloc (Dj [X .u8 a.1.kind.toNat,O a.1.A.name,U AB (Z a.1.A.args) W,X J a.1.A.at_,X .u8 a.1.L.v.toNat,O a.1.L.s,X .u8 a.1.R.v.toNat,O a.1.R.s,X J a.1.at_].toArray 95);have l:=G.alloc (Dj [X .u8 a.1.kind.toNat,O a.1.A.name,U AB (Z a.1.A.args) W,X J a.1.A.at_,X .u8 a.1.L.v.toNat,O a.1.L.s,X .u8 a.1.R.v.toNat,O a.1.R.s,X J a.1.at_].toArray 95);clear F G;generalize wr.alloc (Dj [X .u8 a.1.kind.toNat,O a.1.A.name,U AB (Z a.1.A.args) W,X J a.1.A.at_,X .u8 a.1.L.v.toNat,O a.1.L.s,X .u8 a.1.R.v.toNat,O a.1.R.s,X J a.1.at_].toArray 95)=w6 at d B0 l⊢;generalize wr.heap.size=Nx at d VS⊢;have x0:=d.cell 0;have x1:=d.cell 1;have x2:=d.cell 2;have x3:=d.cell 3;simp at x0 x1 x2 x3;obtain⟨A1,HA⟩:=QP (BU b a.1.A.name);have HG:=Ab HA;have HX:=(hP.kept l).drew;have H5:=l.drew;rcases En a with⟨k1,H⟩|⟨k1,k2,H⟩|⟨k1,k2,H⟩
            ·(have y0:∀n:KW w6,Lc n.wk ⟨Nx,0,Y⟩=V (X .u8 a.1.kind.toNat):=λn=>(d.kept n.kept).cell 0);(have y1:∀n:KW w6,Lc n.wk ⟨Nx,1,Y⟩=V (O a.1.A.name):=λn=>(d.kept n.kept).cell 1);(have y2:∀n:KW w6,Lc n.wk ⟨Nx,2,Y⟩=V (U AB (Z a.1.A.args) W):=λn=>(d.kept n.kept).cell 2);have CC:JR (∀n:KW w6,Calls prog 23 #[Gi (V ⟨pb,0,Y⟩),O a.1.A.name] n.wk λe H0=>e=G3 (X J A1)/\∃m:KW w6,H0=m.wk):=by
              intro n;have h:=Jh pb _ b a.1.A.name n.wk (hP.kept (l.trans n.kept)) (f.out.1.kept (l.trans n.kept)) FL.out.1 FL.out.2.1;rw[Aa HG]at h;exact Calls.zE h
             clear x0 x1 x2;have RB:=KW.some w6;refine GQ (w0:=w6) (by kernel_rfl) (by kernel_rfl) (SF _ _) ?_
             repeat (go_big_quiet_step ((go_at_call 23;exact CC _)))
             refine wpQuiet_nil ?_;intro _ HO;obtain⟨⟨w7,u⟩,H4⟩:=HO;subst H4
             try simp only
             clear y0 y1 y2 CC;have AH:=l.trans u;have M6:=B0.kept u;have MB:=(d.kept u).cell 3;simp at MB;by_cases C:A1=(Z a.1.A.args:Int)
             ·(have Go:(A1 !=(Z a.1.A.args:Int))=K:=by simp[C]);have BS:=Ab (z.out (by simp only[BN,H,Aa HG,Go,oG]));clear I z H HA HX H5 x3 d B0 l u C;go_wp2_with fail
              go_roundw
              case rel=>exact⟨m+1,by go_num,by omega,BS,AH,M6⟩
              case measure=>simp[intOf];omega
             ·(have Go:(A1 !=(Z a.1.A.args:Int))=Cm:=by simp[C]);have t:JR (R=(4,(a.1.A.at_:Int))):=I.out (by simp only[BN,H,Aa HG,Go,od]);clear I z H HA HX H5 x3 d B0 l u C;go_wp2_with fail
              go_quiet (fail)
              (go_wp2_with fail);go_ret2;rw[t.out];exact⟨rfl,AH.drewN _⟩
            ·(have y0:∀n:KW w6,Lc n.wk ⟨Nx,0,Y⟩=V (X .u8 a.1.kind.toNat):=λn=>(d.kept n.kept).cell 0);(have y1:∀n:KW w6,Lc n.wk ⟨Nx,1,Y⟩=V (O a.1.A.name):=λn=>(d.kept n.kept).cell 1);(have y2:∀n:KW w6,Lc n.wk ⟨Nx,2,Y⟩=V (U AB (Z a.1.A.args) W):=λn=>(d.kept n.kept).cell 2);have CC:JR (∀n:KW w6,Calls prog 23 #[Gi (V ⟨pb,0,Y⟩),O a.1.A.name] n.wk λe H0=>e=G3 (X J A1)/\∃m:KW w6,H0=m.wk):=by
              intro n;have h:=Jh pb _ b a.1.A.name n.wk (hP.kept (l.trans n.kept)) (f.out.1.kept (l.trans n.kept)) FL.out.1 FL.out.2.1;rw[Aa HG]at h;exact Calls.zE h
             clear x0 x1 x2;have RB:=KW.some w6;refine GQ (w0:=w6) (by kernel_rfl) (by kernel_rfl) (SF _ _) ?_
             repeat (go_big_quiet_step ((go_at_call 23;exact CC _)))
             refine wpQuiet_nil ?_;intro _ HO;obtain⟨⟨w7,u⟩,H4⟩:=HO;subst H4
             try simp only
             clear y0 y1 y2 CC;have AH:=l.trans u;have M6:=B0.kept u;have MB:=(d.kept u).cell 3;simp at MB;by_cases C:A1=(Z a.1.A.args:Int)
             ·(have Go:(A1 !=(Z a.1.A.args:Int))=K:=by simp[C]);have BS:=Ab (z.out (by simp only[BN,H,Aa HG,Go,oG]));clear I z H HA HX H5 x3 d B0 l u C;go_wp2_with fail
              go_roundw
              case rel=>exact⟨m+1,by go_num,by omega,BS,AH,M6⟩
              case measure=>simp[intOf];omega
             ·(have Go:(A1 !=(Z a.1.A.args:Int))=Cm:=by simp[C]);have t:JR (R=(4,(a.1.A.at_:Int))):=I.out (by simp only[BN,H,Aa HG,Go,od]);clear I z H HA HX H5 x3 d B0 l u C;go_wp2_with fail
              go_quiet (fail)
              (go_wp2_with fail);go_ret2;rw[t.out];exact⟨rfl,AH.drewN _⟩
            .have BS:=Ab (z.out (by simp[BN,H]));clear I z H HA HX H5
             go_quiet (fail)
             go_wp2_with fail
             go_roundw
             case rel=>exact⟨m+1,by go_num,by omega,BS,l.drewN _,B0.drewN _⟩
             case measure=>simp[intOf];omega
           .have RT:JR (c.bl.find? (BN b)=Y):=by
             have h:=P.out;rw[lH (by omega)]at h;show _=_;rw[nB];intro x hx hf;(have:c.bl.any (BN b)=Cm:=by rw[mZ];exact⟨x,hx,hf⟩);rw[h]at this;cases this
            have T:=Xz c.head c.hv c.bv c.bl _ o.args o.body o.lits (by omega) (λp hp=>by have:=FL.out.2.2 b[k] (lE AR) p (by rw[y.out.1];exact hp);exact this) SB;rw[y.out.2.1,y.out.2.2]at T;simp only[CB]at T;have HT:=Ab T;obtain⟨sf,RV⟩:=QP (DN c.head c.bl);have JA:=Ab RV;(have VR: -1<=sf/\sf<=9223372036854775806->True:=λ_=>trivial);clear VR T o RV;(go_wp2_with fail);refine HT.mono ?_;rintro e w7 ⟨rfl,u⟩;rw[Aa JA];have AH:=G.trans u;clear HT u G F q0 q1 q2 q3;by_cases N2:0<=sf
            .have t:JR (R=(5,sf)):=B2.out _ (by unfold Cq;rw[lO E.out.1,lO E.out.2,lO (by rw[FP.out];exact nS),lO H9.out,lO K3.out,RT.out];simp only;rw[Aa JA,lS N2]);(go_wp2_with fail);go_ret2;rw[t.out];exact⟨rfl,AH⟩
            .have S1:JR (∀j (hj:j<Z b),j<k+1->Cq b j b[j]=Y):=by
              intro j hj W3;by_cases TS:j<k
              .exact HC.out j hj TS
              ·(have:j=k:=by omega);subst this;rw[y.out.1];unfold Cq;rw[lO E.out.1,lO E.out.2,lO (by rw[FP.out];exact nS),lO H9.out,lO K3.out,RT.out];simp only;rw[Aa JA,lO N2]
             go_wp2_with fail
             go_roundw
             case rel=>exact⟨k+1,by go_num,by omega,S1,AH⟩
             case measure=>simp[intOf];omega
         ·(have NB:(ar !=(Z c.head.args:Int))=Cm:=by simp[C]);have t:JR (R=(4,(c.head.at_:Int))):=B2.out _ (by unfold Cq;rw[lO E.out.1,lO E.out.2,lO (by rw[FP.out];exact nS),lO H9.out,lS (by rw[Aa K8];exact C)]);clear C;go_wp2_with fail
          go_quiet (fail)
          (go_wp2_with fail);go_ret2;rw[t.out];exact⟨rfl,Jx.drewN _⟩
  .have RO:JR (R=match b.findSome? (DQ b)with|some r=>r|none=>(0,0)):=by
    rw[<-f.out.2.2];exact VW (λj hj=>HC.out j hj (by omega))
   have M0:JR (Z b<=1000000/\(∀c∈b,Z c.bl<=1000000)/\Z (Ec b)<=900000):=⟨by omega,λc' HS=>by have:=f.out.2.1.body c' HS;omega,f.out.2.1.atoms⟩;clear HC;(go_wp2_with fail);clear M
   go_loopw [11] (λi wr=>∃q:Nat,i=X J q/\q<=Z b/\JR ((b.take q).findSome? (DQ b)=Y)/\Ac [] w wr) (λi _=>Z b-(intOf i).toNat)
   case atStart=>exact⟨0,rfl,lW _,by show _=_;simp,B⟩
   case round=>
    clear B;obtain⟨q,rfl,hq,HQ,B⟩:=hrel;have M:=(hP.kept B).cell 0;simp at M;by_cases BT:q<Z b
    .obtain⟨g,TH,he,SK,Nd⟩:=AC f.out.1.row (λc _=>B6 c) q BT;clear Nd;simp only[lB]at he;obtain⟨rfl,_,rfl⟩:=he;have OB:=f.out.1.each b[q] (lE BT);obtain⟨FF,E0,B9⟩:=Ak OB.body;obtain⟨c,Q⟩:=QP (b[q]);rw[Q]at B9;have y:JR (b[q]=c/\c.bv=U FF (Z c.bl) E0):=⟨Q,B9⟩;(have TV:Z c.bl<=1000:=by have:=f.out.2.1.body b[q] (lE BT);rw[Q]at this;exact this);clear OB B9 Q;(go_wp2_with fail);clear M
     go_loopw [12] (λi wq=>∃m:Nat,i=X J m/\m<=Z c.bl/\JR ((c.bl.take m).any (Ff b c)=K)/\Ac [] w wq) (λi _=>Z c.bl-(intOf i).toNat)
     case atStart=>exact⟨0,rfl,lW _,by show _=_;simp,B⟩
     case round=>
      clear B;obtain⟨m,rfl,hm,P,G⟩:=hrel;have M:=(hP.kept G).cell 0;simp at M;obtain⟨c0,_,_,c3,_⟩:=Vo f.out.1 G BT;rw[y.out.1]at c0 c3;rw[y.out.2]at c3;have o:=(f.out.1.kept G).each b[q] (lE BT);rw[y.out.1]at o;by_cases D:m<Z c.bl
      .obtain⟨gb,NV,S,d0,d1,d2,d3,d4,d5,d6,d7,d8⟩:=Vp o D;rw[y.out.2]at S;simp only[lB]at S;obtain⟨rfl,_,rfl⟩:=S;obtain⟨AB,W,CL⟩:=Ak (o.lits c.bl[m] (lE D));rw[CL]at d2;clear o CL;obtain⟨a,Ax⟩:=QP (c.bl[m]);rw[Ax]at d0 d1 d2 d3 d4 d5 d6 d7 d8;have I:JR (Ff b c a=Cm->R=(6,(a.1.at_:Int))):=by
        intro ho;have h1:DQ b b[q]=V (6,(a.1.at_:Int)):=by
         unfold DQ;rw[y.out.1,FU _ _ m D P.out (by rw[Ax];exact ho),Ax];rfl
        rw[RO.out,G9 _ _ q BT HQ.out h1]
       have z:JR (Ff b c a=K->(c.bl.take (m+1)).any (Ff b c)=K):=by
        intro ho;rw[C0 _ _ m D P.out,Ax];exact ho
       clear Ax;have K4:((a.1.kind.toNat:Int)==33)=(a.1.kind==33):=Cu _ 33;cases hkd:(a.1.kind==33)with
       |false=>
        rw[hkd]at K4;have BS:=Ab (z.out (by simp[Ff,hkd]));clear I z hkd;go_wp2_with fail
        go_roundw
        case rel=>exact⟨m+1,by go_num,by omega,BS,G.alloc _⟩
        case measure=>simp[intOf];omega
       |true=>
        rw[hkd]at K4;(go_wp2_with fail);clear d0 d1 d2 d3 d4 d5 d6 d7 d8 M c0 c3 K4;have d:=Tc wr [X .u8 a.1.kind.toNat,O a.1.A.name,U AB (Z a.1.A.args) W,X J a.1.A.at_,X .u8 a.1.L.v.toNat,O a.1.L.s,X .u8 a.1.R.v.toNat,O a.1.R.s,X J a.1.at_] 95;have l:=G.alloc (Dj [X .u8 a.1.kind.toNat,O a.1.A.name,U AB (Z a.1.A.args) W,X J a.1.A.at_,X .u8 a.1.L.v.toNat,O a.1.L.s,X .u8 a.1.R.v.toNat,O a.1.R.s,X J a.1.at_].toArray 95);clear G;generalize wr.alloc (Dj [X .u8 a.1.kind.toNat,O a.1.A.name,U AB (Z a.1.A.args) W,X J a.1.A.at_,X .u8 a.1.L.v.toNat,O a.1.L.s,X .u8 a.1.R.v.toNat,O a.1.R.s,X J a.1.at_].toArray 95)=w6 at d l⊢;generalize wr.heap.size=Nx at d⊢;(have y1:∀n:KW w6,Lc n.wk ⟨Nx,1,Y⟩=V (O a.1.A.name):=λn=>(d.kept n.kept).cell 1);(have y2:∀n:KW w6,Lc n.wk ⟨pb,0,Y⟩=V (U (V ⟨g,0,Y⟩) (Z b) FW):=λn=>(hP.kept (l.trans n.kept)).cell 0);(have y3:∀n:KW w6,Lc n.wk ⟨g,q*5,Y⟩=V (O c.head.name):=λn=>by have h:=(Vo f.out.1 (l.trans n.kept) BT).1;rw[y.out.1]at h;exact h);obtain⟨rb,RI⟩:=QP (Ht b a.1.A.name c.head.name);have KD:=Ab RI;have CC:JR (∀n:KW w6,Calls prog 85 #[Gi (V ⟨pb,0,Y⟩),O a.1.A.name,O c.head.name] n.wk λe H0=>e=G3 (No rb)/\∃m:KW w6,H0=m.wk):=by
         intro n;have h:=VD pb _ b a.1.A.name c.head.name n.wk (hP.kept (l.trans n.kept)) (f.out.1.kept (l.trans n.kept)) M0.out.1 M0.out.2.1 M0.out.2.2;rw[Aa KD]at h;exact Calls.zE h
        (have W0:(q:Int)<(Z b:Int):=by omega);clear RI;have RB:=KW.some w6;refine GQ (w0:=w6) (by kernel_rfl) (by kernel_rfl) (SF _ _) ?_
        repeat (go_big_quiet_step ((go_at_call 85;exact CC _)))
        refine wpQuiet_nil ?_;intro _ HO;obtain⟨⟨w7,u⟩,H4⟩:=HO;subst H4
        try simp only
        clear y1 y2 y3 CC;have AH:=l.trans u;have x8:=(d.kept u).cell 8;simp at x8;cases rb with
        |true=>
         have t:JR (R=(6,(a.1.at_:Int))):=I.out (by simp only[Ff,hkd,Aa KD,od]);clear I z hkd d l u;go_wp2_with fail
         go_quiet (fail)
         (go_wp2_with fail);go_ret2;rw[t.out];exact⟨rfl,AH.drewN _⟩
        |false=>
         have BS:=Ab (z.out (by simp only[Ff,hkd,Aa KD,oG]));clear I z hkd d l u;go_wp2_with fail
         go_roundw
         case rel=>exact⟨m+1,by go_num,by omega,BS,AH⟩
         case measure=>simp[intOf];omega
      .have HZ:JR ((b.take (q+1)).findSome? (DQ b)=Y):=by
        have h:=P.out;rw[lH (by omega)]at h;show _=_;rw[Gl _ _ q BT HQ.out,y.out.1];unfold DQ;have:c.bl.find? (Ff b c)=Y:=by
         rw[nB];intro x hx hf;(have:c.bl.any (Ff b c)=Cm:=by rw[mZ];exact⟨x,hx,hf⟩);rw[h]at this;cases this
        rw[this];rfl
       go_wp2_with fail
       go_roundw
       case rel=>exact⟨q+1,by go_num,by omega,HZ,G⟩
       case measure=>simp[intOf];omega
    .have HE:JR (R=(0,0)):=by
      have h:=HQ.out;rw[lH (by omega)]at h;show _=_;rw[RO.out,h]
     (go_wp2_with fail);go_ret2;rw[HE.out];exact⟨rfl,B⟩
def An(s:bC)(at_:Nat):QC CG×Nat×Bool:=
 if h:at_<s.size then
  if h2:(Ao s at_).2.2=K/\at_<AQ s (Ao s at_).2.1 (Ao s at_).2.2 then
   ((Ao s at_).1::(An s (AQ s (Ao s at_).2.1 (Ao s at_).2.2)).1,(An s (AQ s (Ao s at_).2.1 (Ao s at_).2.2)).2)
  else([(Ao s at_).1],AQ s (Ao s at_).2.1 (Ao s at_).2.2,(Ao s at_).2.2)
 else([],at_,K)
def Fq(s:bC)(a:Nat)(bd:Bool):QC CG×Nat×Bool:=if bd then([],a,Cm)else An s a
def Mj{c:CG}(e:n<s.size)(b:Ao s n=(c,m,B)):
  An s n=(c::(Fq s (AQ s m B) B).1,(Fq s (AQ s m B) B).2):=by
 conv=>lhs;rw[An]
 rw[dif_pos e];cases B with
 |true=>rw[dif_neg (by rw[b];simp)];rw[b];rfl
 |false=>
  have d:=QJ (s:=s) (at_:=n) (by rw[b]);rw[b]at d;have f:=Kp s m K;rw[dif_pos (by rw[b];exact⟨rfl,by simp only at d⊢;omega⟩),b];rfl
def Ni(b:¬n<s.size):An s n=([],n,K):=by
 rw[An,dif_neg b]
def VA(s:bC)(t:AF):Prop:=t.v=0->0<t.s.size/\t.s.size<=s.size
def JT(s:bC)(i j:Nat)(h:j<=s.size):(s.extract i j).size=j-i:=by
 rw[mP,oB h]
def XN(h:(Bc s n K).2.2=K)(d:n<=s.size):0<(Bc s n K).1.size/\(Bc s n K).1.size<=s.size:=by
 have c:=BD s n d;have a:=CN AA s _ c;have e:=Cw AA s (Ae s n);unfold Bc at h⊢;simp only[lJ,if_false]at h⊢;split at h
 .cases h
 .rename_i b;simp only[b,if_false];rw[JT _ _ _ a];omega
def Ki(h:(AM s n K).2.2=K)(j:n<=s.size):VA s (AM s n K).1:=by
 have e:=BD s n j;intro a;unfold AM at h a⊢;simp only[lJ,if_false]at h a⊢;split at h
 .rename_i d;simp only[d,dite_true]at a⊢;split at h
  .rename_i b;simp only[b,if_true]at a;rw[a]at b;exact absurd b (by decide)
  .rename_i b;simp only[b,if_false,lJ]at a⊢;split at h
   .rename_i c;simp only[c,if_true];exact XN h e
   .rename_i c;simp only[c,if_false,lJ];split at h
    .cases h
    .rename_i i;simp only[i,if_false];have f:=CN Ap s _ e;(have g:Ap s[Ae s n]=Cm:=by simpa using c);have l:=Ct Ap s _ d g;have k:=Cw Ap s (Ae s n+1);show 0<(s.extract (Ae s n) (AG Ap s (Ae s n))).size/\_;rw[JT _ _ _ f];omega
 .cases h
def Ye(s:bC)(a:Nat)(d:a<=s.size):Z (Cb s a).1<=s.size-a+1/\((Cb s a).2.2=K->∀t∈(Cb s a).1,VA s t):=by
 fun_induction Cb s a with
 |case1 a hc _ _ ih=>
  have f:=Eb s _ (AM s a K).2.2 44 (F8 s a K d);obtain⟨h,g⟩:=ih f;have i:=hc.2.1;refine⟨by simp only[lQ];omega,λc t b=>?_⟩;rcases lI.1 b with rfl|b
  .have e:(AM s a K).2.2=K:=by
    have:=hc.1;simp only[mi,nW]at this;exact this.1
   exact Ki e d
  .exact g c t b
 |case2 a hc=>
  refine⟨by simp,λc t b=>?_⟩;simp only[lG]at b;subst b;exact Ki c d
def Rq(s:bC)(p:Nat×Bool)(a:p.1<=s.size):Z (Et s p).1<=s.size+1/\((Et s p).2.2=K->∀t∈(Et s p).1,VA s t):=by
 unfold Et;split
 .exact⟨by simp,λh=>by cases h⟩
 .have h:=Ye s p.1 a;exact⟨by omega,h.2⟩
def gH(s:bC)(a:C8):Prop:=∀t∈a.args,VA s t
def O6(s:bC)(a:Nat)(c:Bool)(b:a<=s.size):Z (A3 s a c).1.args<=s.size+1:=by
 unfold A3;exact(Rq s _ (Eb _ _ _ _ (Iv _ _ _ (GV _ _ _ b)))).1
def Tn(h:(Bz s n B g).2=K):B=K:=by
 unfold Bz at h;cases B<;>simp_all
def MD(h:(A3 s n B).2.2=K)(a:n<=s.size):gH s (A3 s n B).1:=by
 unfold A3 at h⊢;exact(Rq s _ (Eb _ _ _ _ (Iv _ _ _ (GV _ _ _ a)))).2 (Tn h)
structure dA(s:bC)(x:Bp):Prop where
 atom:gH s x.A
 left:(x.kind==97||x.kind==33)=K->VA s x.L
 right:(x.kind==97||x.kind==33)=K->VA s x.R
def W8(s:bC)(a:Nat)(c:a<=s.size):Z (Dd s a).1.A.args<=s.size+1:=by
 have b:=BD s a c;unfold Dd;simp only;split
 .rename_i d;have:=F4 d;exact O6 s _ _ (by omega)
 .split
  .exact O6 s _ _ b
  .unfold IF;split<;>simp[Gp]
def Tt(h:(Dd s n).2.2=K)(i:n<=s.size):dA s (Dd s n).1:=by
 have f:=BD s n i;unfold Dd at h⊢;simp only at h⊢;split at h
 .rename_i c;simp only[c,if_true];have:=F4 c;exact⟨MD h (by omega),λa=>by simp at a,λa=>by simp at a⟩
 .rename_i c;simp only[c,lJ,if_false];split at h
  .rename_i d;simp only[d,if_true];exact⟨MD h f,λa=>by simp at a,λa=>by simp at a⟩
  .rename_i d;simp only[d,lJ,if_false];unfold IF at h⊢;split at h
   .rename_i b;simp only[b,if_true];simp only[mi,nW,ni]at b;have j:AQ s (AM s (Ae s n) K).2.1 (AM s (Ae s n) K).2.2<s.size:=by
     rcases b.2 with(e|e)|e<;>exact F4 e
    exact⟨λt g=>by simp[Gp]at g,λ_=>Ki b.1 f,λ_=>Ki h (by omega)⟩
   .cases h
def Kg(s:bC)(a:Nat)(c:a<=s.size):Z (A4 s a).1<=s.size-a+1/\(∀x∈(A4 s a).1,Z x.A.args<=s.size+1)/\((A4 s a).2.2=K->∀x∈(A4 s a).1,dA s x):=by
 fun_induction A4 s a with
 |case1 a hc _ _ ih=>
  have g:=Eb s _ (Dd s a).2.2 44 (L7 s a c);obtain⟨i,h,f⟩:=ih g;have j:=hc.2.1;refine⟨by simp only[lQ];omega,λx b=>?_,λd x b=>?_⟩
  .rcases lI.1 b with rfl|b
   .exact W8 s a c
   .exact h x b
  .rcases lI.1 b with rfl|b
   .have e:(Dd s a).2.2=K:=by
     have:=hc.1;simp only[mi,nW]at this;exact this.1
    exact Tt e c
   .exact f d x b
 |case2 a hc=>
  refine⟨by simp,λx b=>?_,λd x b=>?_⟩
  .simp only[lG]at b;subst b;exact W8 s a c
  .simp only[lG]at b;subst b;exact Tt d c
structure dz(s:bC)(c:CG):Prop where
 head:gH s c.head
 body:∀x∈c.body,dA s x
structure jZ(s:bC)(c:CG):Prop where
 head:Z c.head.args<=s.size+1
 body:Z c.body<=s.size+1
 lits:∀x∈c.body,Z x.A.args<=s.size+1
def QG(s:bC)(c:Nat)(a:Bool)(j:c<=s.size):Z (DL s c a).1<=s.size+1/\(∀x∈(DL s c a).1,Z x.A.args<=s.size+1)/\((DL s c a).2.2=K->a=K/\∀x∈(DL s c a).1,dA s x):=by
 unfold DL;split
 .rename_i k;have e:a=K:=by cases a<;>simp_all
  split
  .rename_i b;have i:=F4 b;obtain⟨g,f,d⟩:=Kg s (B7 s c a 58+1) (by omega);exact⟨by omega,f,λh=>⟨e,d h⟩⟩
  .exact⟨by simp,λx b=>by simp at b,λh=>by cases h⟩
 .exact⟨by simp,λx b=>by simp at b,λh=>⟨h,λx b=>by simp at b⟩⟩
def Wu(s:bC)(a:Nat)(d:a<=s.size):jZ s (Ao s a).1:=by
 have b:=BD s a d;have c:=QG s (A3 s (Ae s a) K).2.1 (A3 s (Ae s a) K).2.2 (Jv _ _ _ b);unfold Ao;exact⟨O6 s _ _ b,c.1,c.2.1⟩
def UC{at_:Nat}(h:(Ao s at_).2.2=K)(c:at_<=s.size):dz s (Ao s at_).1:=by
 have a:=BD s at_ c;have d:=QG s (A3 s (Ae s at_) K).2.1 (A3 s (Ae s at_) K).2.2 (Jv _ _ _ a);unfold Ao at h⊢;have b:=d.2.2 (Tn h);exact⟨MD b.1 a,b.2⟩
theorem Tryz.info82:(Tryz.prog.info? 82).map (λi=>(i.zero,i.size,i.bytes))=V (V (Ms #[O ⟨#[]⟩,U Y 0 0,X J 0,U Y 0 0,X J 0]),5,80):=by kernel_rfl
def A7.erase(c:A7):CG:=⟨c.head,c.bl.map O0,c.at_⟩
structure P5(w:Hq)(base:Nat)(lv:Hs)(c:A7):Prop where
 args:Mi w base 93 2 c.hv (Z c.head.args) (c.head.args.flatMap AX)
 body:Mi w base 95 9 c.bv (Z c.bl) (c.bl.flatMap AZ)
 lits:∀p∈c.bl,Ca w base p
 zv:Cc c.hv lv
 zt:Cc c.bv lv
 zx:∀p∈c.bl,Cc p.2 lv
def P5.cvIn{c:A7}(h:P5 w n z c):YM w c:=
 ⟨Al h.args (lW _),Al h.body (lW _),λp a=>Al (h.lits p a) (lW _)⟩
def P5.kept{M:QC Nat}{w w':Hq}{b:Nat}{d:Hs}{c:A7}(h:P5 w b d c)(k:Ac M w w')(a:∀i,i∈M->i<b:=by simp):P5 w' b d c:=
 ⟨Ad h.args k a,Ad h.body k a,λp e=>(h.lits p e).kept k a,h.zv,h.zt,h.zx⟩
def Gx{v a:Hs}(h:Mi w m T i v n y)(k:w.grownBy u a.ownBlock)(b:Cc v a):Mi u m T i v n y:=
 h.kept k (by
  cases hv:v.ownBlock with
  |none=>exact Hd rfl
  |some k=>exact Hf (λT=>b k hv T.symm))
def P5.grown{c:A7}{g n cap H:Nat}(h:P5 w m z c)(k:w.grownBy v z.ownBlock)(b:z.ownBlock=V g\/g=H)(d:w.heap.size<=H):P5 v m (U (V ⟨g,0,Y⟩) n cap) c:=
 ⟨Gx h.args k h.zv,Gx h.body k h.zt,λp a=>Gx (h.lits p a) k (h.zx p a),Cc.zA h.zv h.args b d,Cc.zA h.zt h.body b d,λp a=>Cc.zA (h.zx p a) (h.lits p a) b d⟩
def CJ(s:bC)(e at_:Int):Prop:=
 if 300<s.size then e=1/\at_=0
 else if(An s (Ae s 0)).2.2 then e=2/\at_=(An s (Ae s 0)).2.1
 else∃cs:QC A7,cs.map A7.erase=(An s (Ae s 0)).1/\(e,at_)=CK cs
def VZ(a:QC A7)(N:Nat)(h:∀c∈a,Z c.bl<=N):Z (Ec a)<=Z a*N:=by
 unfold Ec
 induction a with
 |nil=>simp
 |cons c a ih=>
  have f:=ih (λd b=>h d (by simp[b]));have e:=h c (by simp);have g:=nr Nf c.bl;simp only[mc,lU,lR,lQ];rw[nR];omega
def ij(l:s.size<=300){d:QC A7}(k:Z d<=300)(g:∀c∈d,jZ s c.erase)(j:∀c∈d,dz s c.erase):Xd d:=by
 have i:∀c∈d,Z c.bl<=301:=λc a=>by have:=(g c a).body;simp only[A7.erase,lR]at this;omega
 refine⟨by omega,λc a=>by have:=i c a;omega,λc a=>by have:=(g c a).head;simp only[A7.erase]at this;omega,λc a p f=>?_,?_,λc a=>⟨?_,λp f=>?_⟩⟩
 .have:=(g c a).lits p.1 (by simp only[A7.erase];exact lZ f);omega
 .have:=VZ d 301 i;have:Z d*301<=300*301:=mF _ k;omega
 .intro t b e;have:=(j c a).head t b e;omega
 .have h:=(j c a).body p.1 (by simp only[A7.erase];exact lZ f);intro t b e;unfold AE at b;cases ha:Nf p with
  |true=>
   rw[ha]at b;have:=h.atom t (by simpa using b) e;omega
  |false=>
   rw[ha]at b;simp only[lJ,if_false,lI,mQ,or_false]at b;rcases b with rfl|rfl
   .have:=h.left ha e;omega
   .have:=h.right ha e;omega
def YJ{a:QC A7}{c:A7}{r:Int×Int}(h:Cq a i c=V r):r.1≠0:=by
 unfold Cq at h
 repeat (split at h;· first|cases h;done|(simp only[lL]at h;subst h;simp))
 all_goals first|cases h;done|(simp only[lL]at h;subst h;simp)|skip
def Qo{b:QC A7}:∀(l:QC A7) (i:Nat) {r:Int×Int},EL b i l=V r->r.1≠0
 |[],_,_,h=>by simp[EL]at h
 |c::l,i,r,h=>by
  rw[EL]at h;split at h
  .rename_i d a;simp only[lL]at h;subst h;exact YJ a
  .exact Qo l (i+1) h
def II{cs:QC A7}(h:(CK cs).1=0):CK cs=(0,0):=by
 unfold CK at h⊢;split
 .rename_i r b;rw[b]at h;exact absurd h (Qo _ _ b)
 .rename_i b;rw[b]at h;simp only at h;split
  .rename_i r d;rw[d]at h;obtain⟨e,c,f,_,a,_⟩:=List.findSome?_eq_some_iff.1 d;unfold DQ at a;cases hf:c.bl.find? (Ff cs c)with
   |none=>rw[hf]at a;simp at a
   |some p=>rw[hf]at a;simp only[nF,lL]at a;rw[<-a]at h;simp at h
  .rfl
structure Vy(s:bC)(acc:QC A7)(a:Nat)(bd:Bool)(R:QC CG×Nat×Bool):Prop where
 rest:(acc.map A7.erase++(Fq s a bd).1,(Fq s a bd).2)=R
 len:Z acc<=a+1
 len2:bd=K->Z acc<=a
 lens:∀c∈acc,jZ s c.erase
 cI:bd=K->∀c∈acc,dz s c.erase
def Vy.step{l:QC A7}{R:QC CG×Nat×Bool}{c:A7}(h:Vy s l n K R)(q:n<s.size)(f:Ao s n=(c.erase,m,B)):
  AQ s m B<=s.size/\2*(s.size-AQ s m B)+(if B then 0 else 1)<2*(s.size-n)+1/\Vy s (l++[c]) (AQ s m B) B R:=by
 have i:=JV s n (by omega);have v:=Kp s m B;have j:=Wu s n (by omega);have r:n<=m:=by
  have w:=Ch s n;have z:=Lk s (Ae s n) K;have t:=XD s (A3 s (Ae s n) K).2.1 (A3 s (Ae s n) K).2.2;have y:=EZ s (DL s (A3 s (Ae s n) K).2.1 (A3 s (Ae s n) K).2.2).2.1 (DL s (A3 s (Ae s n) K).2.1 (A3 s (Ae s n) K).2.2).2.2 46;have e:m=(Ao s n).2.1:=by rw[f]
  rw[e];show n<=B7 s _ _ 46;omega
 have k:B=K->n<m:=λd=>by
  have:=QJ (s:=s) (at_:=n) (by rw[f];exact d);rw[f]at this;exact this
 have o:B=K->dz s c.erase:=λd=>by
  have:=UC (s:=s) (at_:=n) (by rw[f];exact d) (by omega);rw[f]at this;exact this
 rw[f]at i j;simp only at i j;have p:=GV s m B i;have u:=h.len2 rfl;refine⟨p,?_,⟨?_,?_,?_,?_,?_⟩⟩
 .cases B with
  |true=>simp;omega
  |false=>have:=k rfl;simp;omega
 .have g:=h.rest;unfold Fq at g;simp only[lJ,if_false]at g;rw[Mj q f]at g;rw[<-g];simp
 .simp;omega
 .intro d;have:=k d;simp;omega
 .intro x b;rcases lV.1 b with b|b
  .exact h.lens x b
  .simp only[lG]at b;subst b;exact j
 .intro d x b;rcases lV.1 b with b|b
  .exact h.cI rfl x b
  .simp only[lG]at b;subst b;exact o d
def WV(s:bC)(pv:Hs)(er:Int)(w:Hq):Prop:=
 er=0->∃(pb:Nat) (lad:Option Addr) (lcp:Nat) (cs:QC A7),pv=Gi (V ⟨pb,0,Y⟩)/\AI w pb [U lad (Z cs) lcp] 76/\CU w (U lad (Z cs) lcp) cs/\Xd cs/\s.size<=300/\(An s (Ae s 0)).2.2=K/\cs.map A7.erase=(An s (Ae s 0)).1/\CK cs=(0,0)
theorem LG(s:bC)(w:Hq)(KD:s.size<=9223372036854775807):
  Calls prog 15 #[O s] w λe w'=>∃(pv:Hs) (y z:Int),e=G3 (.tuple #[pv,X J y,X J z])/\CJ s y z/\WV s pv y w'/\Ac [] w w':=by
 by_cases HC:300<s.size
 .have HI:JR (CJ s 1 0):=by show CJ _ _ _;unfold CJ;rw[lS HC];exact⟨rfl,rfl⟩
  go_enter func15,ntmps15;go_wp2;go_ret3;exact⟨_,1,0,rfl,HI.out,(λh=>by cases h),SF _ _⟩
 .have hs:s.size<=300:=by omega
  have EM:s.size<=1000000:=by omega
  obtain⟨i0,LB,JA,LS,K7⟩:=mH Tryz.info82;obtain⟨j,hj⟩:=QP (Ae s 0);have LM:j<=s.size:=by have:=BD s 0 (lW _);omega
  obtain⟨D,E,B,B0⟩:∃D E B,An s j=(D,E,B):=⟨_,_,_,rfl⟩;have HI:JR (∀y z:Int,(if B then y=2/\z=(E:Int)else∃cs:QC A7,cs.map A7.erase=D/\(y,z)=CK cs)->CJ s y z):=by
   intro y z h;unfold CJ;rw[lO HC,hj,B0];exact h
  have R:JR (AQ s 0 K=j/\An s j=(D,E,B)):=⟨hj,B0⟩;clear hj B0 HC KD;go_enter func15,ntmps15;go_wp2_with fail
  have HY:AI ((w.alloc (Dj #[O s,X J 0,No K] 73)).alloc (Dj #[U Y 0 0] 76)) w.heap.size (B1 s 0 K) 73:=(Tc w (B1 s 0 K) 73).alloc _;have HH:AI ((w.alloc (Dj #[O s,X J 0,No K] 73)).alloc (Dj #[U Y 0 0] 76)) (w.heap.size+1) [U Y 0 0] 76:=by
   have h:=Tc (w.alloc (Dj #[O s,X J 0,No K] 73)) [U Y 0 0] 76;rw[mt]at h;exact h
  refine(DR w.heap.size s 0 K _ EM (lW _) HY).mono ?_;rintro e w2 ⟨rfl,i,Go⟩;rw[R.out.1]at i;have l:=HH.kept Go;have HO:Ac [] w w2:=(((SF [] w).alloc _).alloc _).trans' Go (by simp);clear HY HH Go;go_wp2_with fail
  go_loopg [] (2*(s.size-j)+1) (λgk wr=>∃(a:Nat) (bd:Bool) (b:QC A7) (lv:Hs),a<=s.size/\gk=2*(s.size-a)+(if bd then 0 else 1)/\JR (Vy s b a bd (D,E,B))/\AI wr w.heap.size (B1 s a bd) 73/\AI wr (w.heap.size+1) [lv] 76/\
   Mi wr (w.heap.size+2) 82 5 lv (Z b) (b.flatMap Df)/\JR (∀c∈b,P5 wr (w.heap.size+2) lv c)/\Ac [] w wr)
  case atStart=>
   refine⟨j,K,[],U Y 0 0,LM,by simp,⟨?_,by simp,by simp,by simp,by simp⟩,i,l,mf _ _ _ _,λc g=>by simp at g,HO⟩;unfold Fq;simp[R.out.2]
  case round=>
   clear i l HO;obtain⟨a,bd,b,lv,ha,q,A,i,l,m,FP,hK⟩:=hrel;have HK:=Ab q;clear q;obtain⟨r,u,rfl⟩:=Ak m;have M1:=i.lt;have M3:=l.lt;have c0:=i.cell 0;have c1:=i.cell 1;have c2:=i.cell 2;have p0:=l.cell 0;have pf:=l.frozen 0;simp[B1]at c0 c1 c2 p0;cases bd with
   |true=>
    (have FA:JR ((b.map A7.erase,a,Cm)=(D,E,B)):=by have h:=A.out.rest;show _=_;simpa[Fq] using h);go_wp2_with fail
    go_quiet (fail)
    (go_wp2_with fail);go_ret3;have d:=FA.out;simp only[mA]at d;exact⟨_,2,a,rfl,HI.out 2 a (by rw[<-d.2.2,<-d.2.1];exact⟨rfl,rfl⟩),(λh=>by cases h),hK.drewN _⟩
   |false=>
    by_cases HN:a<s.size
    ·(have Nq:(a:Int)<(s.size:Int):=by omega);obtain⟨f,Q,F,HE⟩:∃f Q F,Ao s a=(f,Q,F):=⟨_,_,_,rfl⟩;(have MN:Q<=s.size:=by have:=JV s a ha;rw[HE]at this;exact this);have MY:Z b<=a:=A.out.len2 rfl;have H3:=Ab HE;clear HE;go_wp2_with fail
     go_region_law
      (first
       |(go_simp;go_at_call 44;refine(QB w.heap.size s a _ EM ha (by first|exact i|exact i.drew)).mono ?_;rintro e G ⟨hv,bv,x,rfl,hH,FL,BT,FO,B9,I⟩;rw[Aa H3]at hH FL B9⊢;obtain⟨W,S,rfl⟩:=Ak hH;obtain⟨P,N,rfl⟩:=Ak BT;have AT:=l.drew.kept I;have pc:=AT.cell 0;have K5:=AT.frozen 0;have HF:=λo=>(AT.alloc o).cell 0;simp at pc HF;simp only[DI])
       |(refine oY _ (by rfl) _ _ _ (by rfl) (w.heap.size+2) 82 i0 _ 5 80 underlying74 LB JA LS K7 rfl (by omega) (U r (Z b) u) (Z b) (b.flatMap Df) (by rfl) ((Ad (F0 m) I).alloc _) ⟨G.heap.size,0,Y⟩ 1 1 (DI f (U W (Z f.head.args) S) (U P (Z x) N)) (by rfl) (by rfl) (mg (mo G _)) (by simp[Value.oneCell',DI]) (by omega) (by unfold maxLen;omega) (by omega) (by simp;have:=I.size;simp at this;omega) (G.heap.size+1) (by simp) ?_;intro v cap w5 FT AO HU K8;have BB:=(AT.alloc _).grown AO (Bh m (w.heap.size+1) (by omega));have H7:=BB.cell 0;have K3:=BB.frozen 0;simp at H7))
     all_goals
      have M0:=I.size;have M6:=(FT.lt v rfl).1;have H2:A7.erase ⟨f.head,U W (Z f.head.args) S,U P (Z x) N,x,f.at_⟩=f:=by
       unfold A7.erase;simp only[FL]
      obtain⟨H,Bx⟩:∃H:A7,H=⟨f.head,U W (Z f.head.args) S,U P (Z x) N,x,f.at_⟩:=⟨_,rfl⟩;rw[<-Bx]at H2;(have HL:DI f (U W (Z f.head.args) S) (U P (Z x) N)=Df H:=by rw[Bx];rfl);have H6:=Ab (A.out.step HN (by rw[Aa H3,H2]));have HM:P5 G (w.heap.size+2) (U r (Z b) u) H:=by
       (have FF:w.heap.size+2<=wr.heap.size:=by omega);have e1:Cc (U W (Z f.head.args) S) (U r (Z b) u):=λk q he=>by
        have h1:wr.heap.size<=k:=(hH.lt k q).1;have d:=(m.lt k he).2;omega
       have e2:Cc (U P (Z x) N) (U r (Z b) u):=λk q he=>by
        have h1:wr.heap.size<=k:=(BT.lt k q).1;have d:=(m.lt k he).2;omega
       have e3:∀p∈x,Cc p.2 (U r (Z b) u):=λp hp k q he=>by
        have h1:wr.heap.size<=k:=(World.ownsRow.lt (FO p hp) k q).1;have d:=(m.lt k he).2;omega
       rw[Bx];exact⟨Al hH FF,Al BT FF,λp hp=>Al (FO p hp) FF,e1,e2,e3⟩
      have H0:JR (∀c∈b++[H],P5 (w5.setCell ⟨w.heap.size+1,0,Y⟩ (U (V ⟨v,0,Y⟩) (Z b+1) cap)) (w.heap.size+2) (U (V ⟨v,0,Y⟩) (Z b+1) cap) c):=by
       intro c g;have h0:P5 G (w.heap.size+2) (U r (Z b) u) c:=by
        rcases lV.1 g with g|g
        .exact((FP.out c g).kept (w':=wr.drew) (M:=[]) (SF [] wr).drew (by simp)).kept I
        .simp only[lG]at g;subst g;exact HM
       (have h1:∀o,P5 (G.alloc o) (w.heap.size+2) (U r (Z b) u) c:=λo=>h0.kept ((SF [] G).alloc o));have d:=P5.grown (n:=Z b+1) (cap:=cap) (h1 _) AO HU (by simp);exact d.kept ((SF [w.heap.size+1] w5).setCell (p:=⟨w.heap.size+1,0,Y⟩) (by simp) _)
      have H1:=((B9.alloc _).grown AO (Bh m w.heap.size (by omega))).bI ⟨w.heap.size+1,0,Y⟩ (by simp) (U (V ⟨v,0,Y⟩) (Z b+1) cap);have HV:=BB.set 0 (U (V ⟨v,0,Y⟩) (Z b+1) cap);have HG:=(((hK.drew.trans' I (by simp)).alloc _).grown AO (λk q=>Hf (by have:=(m.lt k q).1;omega))).setCell (p:=⟨w.heap.size+1,0,Y⟩) (by simp) (U (V ⟨v,0,Y⟩) (Z b+1) cap);have B2:=Ah FT (p:=⟨w.heap.size+1,0,Y⟩) (by simp[OC];omega) (U (V ⟨v,0,Y⟩) (Z b+1) cap);rw[HL]at B2;have Ix:=HK;clear FT BB H7 K3 AO HU K8 AT pc K5 HF hH BT FO B9 I HM m i l hK FP c0 c1 c2 p0 pf HL Bx FL;(go_wp2_with fail);refine(DR w.heap.size s Q F _ EM MN H1).mono ?_;rintro e w6 ⟨rfl,K4,Ax⟩;have IS:=HV.kept Ax;have IA:=Ad B2 Ax;(have K9:JR (∀c∈b++[H],P5 w6 (w.heap.size+2) (U (V ⟨v,0,Y⟩) (Z b+1) cap) c):=λc g=>(H0.out c g).kept Ax);have KS:=HG.trans' Ax (by simp);clear H1 HV HG B2 H0 Ax;go_wp2_with fail
      go_roundg (2*(s.size-AQ s Q F)+(if F then 0 else 1))
      case measure=>have h1:=H6.2.1;have d:=Aa Ix;simp at d;omega
      case rel=>
       obtain⟨t1,_,t3⟩:=H6;refine⟨AQ s Q F,F,b++[H],U (V ⟨v,0,Y⟩) (Z b+1) cap,t1,rfl,t3,K4,IS,?_,K9,KS⟩;simpa using IA
    ·(have FA:JR ((b.map A7.erase,a,K)=(D,E,B)):=by have h:=A.out.rest;show _=_;simpa[Fq,Ni HN] using h);(have hd:decide ((a:Int)<(s.size:Int))=K:=by simp;omega);have FC:CU wr (U r (Z b) u) b:=⟨Al m (lW _),λc g=>(FP.out c g).cvIn⟩;have DT:Xd b:=ij hs (by have:=A.out.len2 rfl;omega) A.out.lens (A.out.cI rfl);obtain⟨SP,E0⟩:=QP (CK b);have EK:=Ab E0;have T:=bT (w.heap.size+1) _ b wr l FC DT;rw[E0]at T;have HT:=Ab T;have LL:=Ab FC;have K1:=Ab DT;clear T E0 FC DT;(go_wp2_with fail);refine HT.mono ?_;rintro e w3 ⟨rfl,BS⟩;have HP:=hK.trans BS;have Mo:=Ab (l.kept BS);have LC:=Ab (LL.kept BS);clear HT BS hK c0 c1 c2 p0 pf i l m;have d:=FA.out;simp only[mA]at d;obtain⟨L,sa⟩:=SP;simp only;by_cases C:L=0
     .have HZ:JR (CJ s 0 0):=HI.out 0 0 (by rw[<-d.2.2];exact⟨b,d.1,by rw[II (by rw[Aa EK];exact C)]⟩);have KA:JR (WV s (Gi (V ⟨w.heap.size+1,0,Y⟩)) 0 w3):=by
       intro _;refine⟨_,r,u,b,rfl,Mo,LC,K1,hs,?_,?_,II (by rw[Aa EK];exact C)⟩
       .rw[show Ae s 0=j from R.out.1,R.out.2];exact d.2.2.symm
       .rw[show Ae s 0=j from R.out.1,R.out.2];exact d.1
      (have H8:(L !=0)=K:=by simp[C]);clear d C;(go_wp2_with fail);go_ret3;exact⟨_,0,0,rfl,HZ.out,KA.out,HP⟩
     .have HZ:JR (CJ s L sa):=HI.out L sa (by rw[<-d.2.2];exact⟨b,d.1,EK.symm⟩);(have H8:(L !=0)=Cm:=by simp[C]);have H9:=Ab C;clear d C;(go_wp2_with fail);go_ret3;exact⟨_,L,sa,rfl,HZ.out,(λh=>absurd h H9),HP⟩
structure Af where
 name:bC
 args:QC bC
structure BM where
 f:Af
 av:Hs
def Bw(p:BM):QC Hs:=[O p.f.name,p.av]
def D0(w:Hq)(p:BM):Prop:=Mi w 0 9 1 p.av (Z p.f.args) (p.f.args.flatMap Ag)
def D0.kept{w w':Hq}{p:BM}(h:D0 w p)(k:Ac [] w w'):D0 w' p:=Ad h k
structure LY(f:Af):Prop where
 len:Z f.args<=1000
 each:∀x∈f.args,0<x.size/\x.size<=1000000
def Hx:QC bC->QC bC->Bool
 |[],[]=>Cm
 |x::l,y::m=>(x.toList==y.toList)&&Hx l m
 |_,_=>K
def Em(a b:Af):Bool:=(a.name.toList==b.name.toList)&&Hx a.args b.args
def Yi:∀(l m:QC bC) (k:Nat) (a:k<Z l) (b:k<Z m),Hx (l.drop k) (m.drop k)=((l[k].toList==m[k].toList)&&Hx (l.drop (k+1)) (m.drop (k+1)))
 |l,m,k,a,b=>by
  rw[lY a,lY b,Hx]
def Ub:∀{l m:QC bC},Hx l m=Cm->Z l=Z m
 |[],[],_=>rfl
 |[],_::_,h=>by cases h
 |_::_,[],h=>by cases h
 |_::l,_::m,h=>by
  rw[Hx,mi]at h;simp[Ub h.2]
def G0(h:Mi w n 9 1 z (Z e) (e.flatMap Ag))(k:Nat)(d:k<Z e):∃g a,z=U (V ⟨g,0,Y⟩) (Z e) a/\Lc w ⟨g,k,Y⟩=V (O e[k]):=by
 obtain⟨g,a,f,_,i⟩:=AC h (λc _=>rfl) k d;have b:=i k d 0 (by omega);simp[Ag]at b;exact⟨g,a,f,b⟩
theorem T3(a b:BM)(w:Hq)(v:D0 w a)(t:D0 w b)(A0:Z a.f.args<=1000000)(A2:Z b.f.args<=1000000):
  Calls prog 49 #[Ms (D6 (Bw a)),Ms (D6 (Bw b))] w λe w'=>e=G3 (No (Em a.f b.f))/\Ac [] w w':=by
 obtain⟨⟨j,c⟩,av⟩:=a;obtain⟨⟨g,d⟩,bv⟩:=b;unfold D0 at v t;simp only at v t A0 A2;obtain⟨p,o,rfl⟩:=Ak v;obtain⟨m,q,rfl⟩:=Ak t;obtain⟨S,D⟩:=QP (Em ⟨j,c⟩ ⟨g,d⟩);rw[D];have s:JR (((j.toList==g.toList)&&Hx c d)=S):=D;have HA:=Ab v;have HB:=Ab t;simp only[Bw];have l:=Ab (((SF [] w).alloc (Dj [O j,U p (Z c) o].toArray 43)).alloc (Dj [O g,U m (Z d) q].toArray 43));have F:=(Tc w [O j,U p (Z c) o] 43).alloc (Dj [O g,U m (Z d) q].toArray 43);have L:AI ((w.alloc (Dj [O j,U p (Z c) o].toArray 43)).alloc (Dj [O g,U m (Z d) q].toArray 43)) (w.heap.size+1) [O g,U m (Z d) q] 43:=by
  have M:=Tc (w.alloc (Dj [O j,U p (Z c) o].toArray 43)) [O g,U m (Z d) q] 43;rw[show(w.alloc (Dj [O j,U p (Z c) o].toArray 43)).heap.size=w.heap.size+1 from by simp]at M
  exact M
 have B:=Ab F;have C:=Ab L;clear D v t F L;cases hn:(j.toList==g.toList)with
 |false=>
  have r:JR (S=K):=by show _=_;rw[<-Aa s,hn];rfl
  have R:(j.toList !=g.toList)=Cm:=by simp[bne,hn]
  clear s;go_enter func49,ntmps49;go_wp2;go_ret;rw[Aa r];exact⟨rfl,l⟩
 |true=>
  have R:(j.toList !=g.toList)=K:=by simp[bne,hn]
  by_cases u:Z c=Z d
  ·(have r:JR (Hx (c.drop 0) (d.drop 0)=S):=by show _=_;rw[<-Aa s,hn];rfl);(have G:((Z c:Int) !=(Z d:Int))=K:=by simp[u]);(have Q:((Z c:Int)==(Z d:Int))=Cm:=by simp[u]);have H:=Ab u;clear u s;go_enter func49,ntmps49;go_wp2;change Code.wp _ _ _ _ ((w.alloc (Dj [O j,U p (Z c) o].toArray 43)).alloc (Dj [O g,U m (Z d) q].toArray 43));generalize(w.alloc (Dj [O j,U p (Z c) o].toArray 43)).alloc (Dj [O g,U m (Z d) q].toArray 43)=w1 at l B C⊢;generalize w.heap.size=N at B C⊢;clear hn R G Q
   go_loopg [5] (Z c) (λgk i wr=>∃(k:Nat),i=X J k/\k<=Z c/\gk=Z c-k/\JR (Hx (c.drop k) (d.drop k)=S)/\JR (Ac [] w wr)/\JR (Ac [] w1 wr))
   case atStart=>exact⟨0,rfl,by omega,rfl,r,l,SF _ _⟩
   case round=>
    clear r l;obtain⟨k,rfl,hk,I,z,l,y⟩:=hrel;have HG:=Ab I;clear I;have e1:=(B.kept y).cell 1;have e2:=(C.kept y).cell 1;simp at e1 e2;by_cases E:k<Z c
    ·(have W:k<Z d:=by have:=Aa H;omega);obtain⟨g1,q1,T,d1⟩:=G0 (Ad HA l) k E;obtain⟨g2,q2,P,d2⟩:=G0 (Ad HB l) k W;simp only[lB]at T P;obtain⟨rfl,_,rfl⟩:=T;obtain⟨rfl,_,rfl⟩:=P;have DY:=Ab (Yi c d k E W);(have A:JR (∀n,Ac [] w (wr.drewN n)/\Ac [] w1 (wr.drewN n)):=λn=>⟨l.drewN n,y.drewN n⟩);cases hx:(c[k].toList==d[k].toList)with
     |true=>
      (have Ax:(c[k].toList !=d[k].toList)=K:=by simp[bne,hx]);have x:JR (Hx (c.drop (k+1)) (d.drop (k+1))=S):=by
       have h:=Aa z;rw[Aa DY,hx]at h;exact h
      go_wp2_with fail
      go_quiet (fail)
      go_wp2
      go_roundg (Z c-(k+1))
      case measure=>have:=Aa HG;omega
      case rel=>exact⟨k+1,by go_num,by omega,rfl,x,(A _).1,(A _).2⟩
     |false=>
      (have Ax:(c[k].toList !=d[k].toList)=Cm:=by simp[bne,hx]);have x:JR (S=K):=by
       have h:=Aa z;rw[Aa DY,hx]at h;exact h.symm
      go_wp2_with fail
      go_quiet (fail)
      go_wp2;go_ret;rw[Aa x];exact⟨rfl,(A _).1⟩
    .have x:JR (S=Cm):=by
      have h:=Aa z;rw[mp (by omega),mp (by have:=Aa H;omega)]at h;exact h.symm
     go_wp2;go_ret;rw[Aa x];exact⟨rfl,l⟩
  ·(have G:((Z c:Int) !=(Z d:Int))=Cm:=by simp[bne];omega);(have Q:((Z c:Int)==(Z d:Int))=K:=by rw[mq];omega);have r:JR (S=K):=by
    show _=_;rw[<-Aa s,hn];cases h:Hx c d with
    |false=>rfl
    |true=>exact absurd (Ub h) u
   clear s;go_enter func49,ntmps49;go_wp2;go_ret;rw[Aa r];exact⟨rfl,l⟩
def Er:QC bC->QC bC->Bool
 |[],m=>decide (0<Z m)
 |_::_,[]=>K
 |x::l,y::m=>if x.toList==y.toList then Er l m else Gd x y
def CS(a b:Af):Bool:=if a.name.toList==b.name.toList then Er a.args b.args else Pf a.name.toList b.name.toList
def Wh(l m:QC bC)(k:Nat)(a:k<Z l)(b:k<Z m):Er (l.drop k) (m.drop k)=if l[k].toList==m[k].toList then Er (l.drop (k+1)) (m.drop (k+1))else Gd l[k] m[k]:=by
 rw[lY a,lY b,Er]
def Q2(l m:QC bC)(k:Nat)(h:k<=Z l)(d:¬(k<Z l/\k<Z m))(c:k<=Z m):Er (l.drop k) (m.drop k)=decide (Z l<Z m):=by
 by_cases b:k<Z l
 .have a:Z m<=k:=by omega
  rw[lY b,mp a,Er];simp;omega
 .rw[mp (show Z l<=k by omega),Er,mG];have:Z l=k:=by omega
  rw[this];by_cases a:k<Z m
  ·(have:0<Z m-k:=by omega);simp[a,this]
  ·(have:¬0<Z m-k:=by omega);simp[a,this]
theorem Td(a b:BM)(w:Hq)(t:D0 w a)(s:D0 w b)(G:LY a.f)(B:LY b.f):
  Calls prog 46 #[Ms (D6 (Bw a)),Ms (D6 (Bw b))] w λe w'=>e=G3 (No (CS a.f b.f))/\Ac [] w w':=by
 obtain⟨⟨j,c⟩,av⟩:=a;obtain⟨⟨g,d⟩,bv⟩:=b;unfold D0 at t s;have EK:=G.len;have BB:=B.len;have AB:=Ab G.each;have P:=Ab B.each;simp only at t s EK BB AB P;clear G B;obtain⟨q,m,rfl⟩:=Ak t;obtain⟨p,o,rfl⟩:=Ak s;obtain⟨S,I⟩:=QP (CS ⟨j,c⟩ ⟨g,d⟩);rw[I];have z:JR ((if j.toList==g.toList then Er c d else Pf j.toList g.toList)=S):=I;have HA:=Ab t;have HB:=Ab s;simp only[Bw];have l:=Ab (((SF [] w).alloc (Dj [O j,U q (Z c) m].toArray 43)).alloc (Dj [O g,U p (Z d) o].toArray 43));have M:=(Tc w [O j,U q (Z c) m] 43).alloc (Dj [O g,U p (Z d) o].toArray 43);have AR:AI ((w.alloc (Dj [O j,U q (Z c) m].toArray 43)).alloc (Dj [O g,U p (Z d) o].toArray 43)) (w.heap.size+1) [O g,U p (Z d) o] 43:=by
  have hh:=Tc (w.alloc (Dj [O j,U q (Z c) m].toArray 43)) [O g,U p (Z d) o] 43;rw[show(w.alloc (Dj [O j,U q (Z c) m].toArray 43)).heap.size=w.heap.size+1 from by simp]at hh
  exact hh
 have D:=Ab M;have E:=Ab AR;clear I t s M AR;cases hn:(j.toList==g.toList)with
 |false=>
  have v:JR (Pf j.toList g.toList=S):=by show _=_;rw[<-Aa z,hn];rfl
  have Bx:(j.toList !=g.toList)=Cm:=by simp[bne,hn]
  clear z;go_enter func46,ntmps46;go_wp2;go_ret;exact⟨Bv v.out,l⟩
 |true=>
  have Bx:(j.toList !=g.toList)=K:=by simp[bne,hn]
  have v:JR (Er (c.drop 0) (d.drop 0)=S):=by show _=_;rw[<-Aa z,hn];rfl
  clear z;go_enter func46,ntmps46;go_wp2;change Code.wp _ _ _ _ ((w.alloc (Dj [O j,U q (Z c) m].toArray 43)).alloc (Dj [O g,U p (Z d) o].toArray 43));generalize(w.alloc (Dj [O j,U q (Z c) m].toArray 43)).alloc (Dj [O g,U p (Z d) o].toArray 43)=w1 at l D E⊢;generalize w.heap.size=N at D E⊢;clear hn Bx
  go_loopg [5] (Z c) (λgk i wr=>∃(k:Nat),i=X J k/\k<=Z c/\k<=Z d/\gk=Z c-k/\JR (Er (c.drop k) (d.drop k)=S)/\JR (Ac [] w wr)/\JR (Ac [] w1 wr))
  case atStart=>exact⟨0,rfl,by omega,by omega,rfl,v,l,SF _ _⟩
  case round=>
   clear v l;obtain⟨k,rfl,R,A1,Ax,x,l,u⟩:=hrel;have HG:=Ab Ax;clear Ax;have H:=(D.kept u).cell 1;have C:=(E.kept u).cell 1;simp at H C;by_cases A:k<Z c
   .by_cases F:k<Z d
    .obtain⟨g1,q1,A2,W⟩:=G0 (Ad HA l) k A;obtain⟨T,q2,A0,L⟩:=G0 (Ad HB l) k F;simp only[lB]at A2 A0;obtain⟨rfl,_,rfl⟩:=A2;obtain⟨rfl,_,rfl⟩:=A0;have DY:=Ab (Wh c d k A F);(have y:JR (∀n,Ac [] w (wr.drewN n)/\Ac [] w1 (wr.drewN n)):=λn=>⟨l.drewN n,u.drewN n⟩);cases hx:(c[k].toList==d[k].toList)with
     |true=>
      (have BT:(c[k].toList !=d[k].toList)=K:=by simp[bne,hx]);have r:JR (Er (c.drop (k+1)) (d.drop (k+1))=S):=by
       have h:=Aa x;rw[Aa DY,hx]at h;exact h
      go_wp2_with fail
      go_quiet (fail)
      go_wp2
      go_roundg (Z c-(k+1))
      case measure=>have:=Aa HG;omega
      case rel=>exact⟨k+1,by go_num,by omega,by omega,rfl,r,(y _).1,(y _).2⟩
     |false=>
      (have BT:(c[k].toList !=d[k].toList)=Cm:=by simp[bne,hx]);have r:JR (Gd c[k] d[k]=S):=by
       have h:=Aa x;rw[Aa DY,hx]at h;exact h
      have AO:=Aa AB c[k] (lE A);have BA:=Aa P d[k] (lE F);go_wp2_with fail
      go_quiet (fail)
      (go_wp2_with fail);have EM:Lc (wr.drewN nq) ⟨N,1,Y⟩=V (U (V ⟨g1,0,Y⟩) (Z c) m):=H;have BS:Lc (wr.drewN nq) ⟨N+1,1,Y⟩=V (U (V ⟨T,0,Y⟩) (Z d) o):=C;have B0:Lc (wr.drewN nq) ⟨g1,k,Y⟩=V (O c[k]):=W;have B9:Lc (wr.drewN nq) ⟨T,k,Y⟩=V (O d[k]):=L;have Q:=Ab (y nq).1;clear y H C W L u l;generalize wr.drewN nq=wq at EM BS B0 B9 Q⊢
      go_quiet ((go_at_call 86;exact oL (NZ _ _ _ AO.1 BA.1 AO.2 BA.2)))
      go_wp2;go_ret;exact⟨Bv r.out,Q.drewN _⟩
    ·(have ES:¬(k:Int)<(Z d:Int):=by omega);have r:JR (decide (Z c<Z d)=S):=by
      show _=_;rw[<-Aa x,Q2 c d k R (by omega) A1]
     go_wp2;go_ret;exact⟨Bv r.out,l⟩
   .have r:JR (decide (Z c<Z d)=S):=by
     show _=_;rw[<-Aa x,Q2 c d k R (by omega) A1]
    go_wp2;go_ret;exact⟨Bv r.out,l⟩
