import Derived.Deep.AppendSrc
import Derived.Test.YtoihbhenbmffcaaGreatDoorTAF
set_option linter.all false
set_option maxHeartbeats 0
open List renaming length->Z,toArray->j2
open Option renaming none->Y,some->V
open Go.Value renaming slice->U,int->X,string->O,pointer->j3,agg->oj,bool->q8,ownBlock->qX
open Bool renaming false->K,true->jj
open Go.IntKind renaming i64->J
open Go.Obj renaming cells->j1
open Go.Ending renaming returned->kt
open Or renaming inl->lo,inr->lx
open Go renaming World->ly,Value->ml
open Go.RowKit renaming Hid->nc
open Go.World renaming cell?->oa,ownsRow->oi
open Prod renaming fst->qW
open Go.Op renaming bytesLess->qZ
namespace Go.Proofs.YtoihbhenbmffcaaGreatDoor
open Go.RowKit Go.Proofs.Tryz
variable{w:ly}{i j m b:Nat}{T:TypeId}{y:rc ml}
def Ce(v lv:ml):Prop:=∀k,v.ownBlock=V k->lv.ownBlock≠V k
def Ce.zh{v f:ml}{g n cap:Nat}(h:Ce v f)(l:oi w i T j v m y)(a:f.ownBlock=V g\/g=b)(o:w.heap.size<=b):Ce v (U (V ⟨g,0,Y⟩) n cap):=by
 intro k c d;simp only[qX,mB]at d;subst d;rcases a with a|a
 .exact h g c a
 .have:=(l.lt g c).2;omega
section
variable {P:Program} (w:ly)
def Ql(t o e:TypeId)(i:TypeInfo)(k:P.underlying t=V (.slice e))(m:P.info? e=V i)(d:Option Addr)(n b:Nat)(l:n<=b)(f:Option Addr)(c:Nat):
  (Builtin.append_ #[t,t] o #[U d n b,U f 0 c]).run P w=.ok (U d n b) w:=by
 have g:(Builtin.firstCells i.size 0 (U f 0 c)).run P w=.ok #[] w:=by
  cases f with
  |none=>exact run_firstCells_none w i.size 0 0 c
  |some a=>exact run_firstCells_some w i.size 0 a 0 c [] (by simp) (λj u h=>by simp at h)
 cases d with
 |none=>simp[Builtin.append_,qL k,sizeOf,typeInfo,m,Builtin.lenOf,l,g]
 |some a=>simp[Builtin.append_,qL k,sizeOf,typeInfo,m,Builtin.lenOf,l,g,storeCells]
def QP(t y:TypeId)(l:Nat)(e:TypeId)(i:TypeInfo)(z:ml)(b B:Nat)(C:P.underlying t=V (.slice e))(D:P.info? e=V i)(W:i.zero=V z)
  (F:i.size=b) (Ax:i.bytes=B) (AR:z.cells.size=b) (S:0<b)
  (f:Option Addr) (n a:Nat) (x:rc ml) (s:oi w l e b (U f n a) n x)
  (b2:Nat) (p:Option Addr) (m c:Nat) (k:rc ml) (r:oi w b2 e b (U p m c) m k) (M:∀u∈k,u.oneCell'=jj)
  (Q:n+m<=maxLen) (AT:(n+m)*B<=140737488355328) (L:l<=w.heap.size):
  ∃v d j,(Builtin.append_ #[t,t] y #[U f n a,U p m c]).run P w=.ok (U v (n+m) d) j/\
   oi j l e b (U v (n+m) d) (n+m) (x++k)/\w.grownBy j (U f n a).ownBlock/\(∀q,(U v (n+m) d).ownBlock=V q->(U f n a).ownBlock=V q\/q=w.heap.size):=by
 rcases Nat.eq_zero_or_pos m with A|A
 .subst A;have T:k=[]:=oQ (by have:=r.1;omega);subst T;have N:n<=a:=by
   rcases s.2 with⟨h,H⟩|⟨g,d,R,h,_,_,hc,_⟩
   .omega
   .simp only[mu]at h;omega
  refine⟨f,a,w,Ql w t y e i C D f n a N p c,by simpa using s,⟨rfl,rfl,rfl,mP _,λ_ _ _=>rfl⟩,λq o=>lo o⟩
 .have hx:∃g,p=V ⟨g,0,Y⟩:=by
   rcases r.2 with⟨h,H⟩|⟨g,d,R,h,_⟩
   .omega
   .simp only[mu]at h;exact⟨g,h.1⟩
  obtain⟨g,rfl⟩:=hx;obtain⟨g1,d,j,G,r2,E,I,r5⟩:=run_append_lies (P:=P) w t y l e i z b B C D W F Ax AR S (U f n a) n x s ⟨g,0,Y⟩ m c k r.1 (r.cells rfl) M A Q AT L _ rfl;refine⟨_,d,j,G,r2,E,λq o=>?_⟩;simp only[qX,mB]at o;subst o;exact I
def ML{o:Oper}{a:Act}{A:Act->ly->Prop}{Q:Exit->Act->ly->Prop}(s x:Operand)(t:TypeId)
  (R:o.op=.call {callee:=.builtin .append,args:=#[s,x],argTypes:=#[t,t]})
  (l:Nat) (e:TypeId) (i:TypeInfo) (z:ml) (b y:Nat) (F:P.underlying t=V (.slice e)) (hi:P.info? e=V i) (M:i.zero=V z)
  (D:i.size=b) (S:i.bytes=y) (AO:z.cells.size=b) (N:0<b)
  (g:Option Addr) (n k:Nat) (v:rc ml) (hs:a.eval s=U g n k) (C:oi w l e b (U g n k) n v)
  (B:Nat) (r:Option Addr) (m c:Nat) (p:rc ml) (hx:a.eval x=U r m c) (AT:oi w B e b (U r m c) m p) (I:∀u∈p,u.oneCell'=jj)
  (L:n+m<=maxLen) (AR:(n+m)*y<=140737488355328) (G:l<=w.heap.size)
  (h:∀j f d,oi d l e b (U j (n+m) f) (n+m) (v++p)->w.grownBy d (U g n k).ownBlock->(∀q,(U j (n+m) f).ownBlock=V q->(U g n k).ownBlock=V q\/q=w.heap.size)->A (a.put o.dst (U j (n+m) f)) d):o.wp P a w A Q:=by
 obtain⟨j,f,d,T,E,W,H⟩:=QP (P:=P) w t o.type l e i z b y F hi M D S AO N g n k v C B r m c p AT I L AR G;unfold Oper.wp execOp;simp only[R,resolve,invoke,builtin,qi,Sem.run_pure,Result.andThen_ok,List.map_toArray,mU,oH,hs,hx,T];exact h j f d E W H
def Gd{A:Array Oper}{C:rc Oper}{o:Oper}{a:Act}{Q:Exit->Act->ly->Prop}(D:o.guard=Y)(s x:Operand)(t:TypeId)
  (W:o.op=.call {callee:=.builtin .append,args:=#[s,x],argTypes:=#[t,t]})
  (l:Nat) (e:TypeId) (i:TypeInfo) (z:ml) (b y:Nat) (H:P.underlying t=V (.slice e)) (hi:P.info? e=V i) (S:i.zero=V z)
  (F:i.size=b) (Ax:i.bytes=y) (AT:z.cells.size=b) (T:0<b)
  (g:Option Addr) (n k:Nat) (v:rc ml) (hs:a.eval s=U g n k) (E:oi w l e b (U g n k) n v)
  (B:Nat) (r:Option Addr) (m c:Nat) (p:rc ml) (hx:a.eval x=U r m c) (A1:oi w B e b (U r m c) m p) (N:∀u∈p,u.oneCell'=jj)
  (R:n+m<=maxLen) (A0:(n+m)*y<=140737488355328) (I:l<=w.heap.size)
  (h:∀j f d,oi d l e b (U j (n+m) f) (n+m) (v++p)->w.grownBy d (U g n k).ownBlock->(∀q,(U j (n+m) f).ownBlock=V q->(U g n k).ownBlock=V q\/q=w.heap.size)->wpList P A Q C (a.put o.dst (U j (n+m) f)) d):wpList P A Q (o::C) a w:=
 wpList_plain D λ_ M=>ML w s x t W l e i z b y H hi S F Ax AT T g n k v hs E B r m c p hx A1 N R A0 I λj f d G h3 L=>M _ _ (h j f d G h3 L)
def KB{R:Array Oper}{o:Oper}{a:Act}{A:Act->ly->Prop}{Q:Exit->Act->ly->Prop}{E:Prop}(C:o.guard=Y)(s x:Operand)(t:TypeId)
  (S:o.op=.call {callee:=.builtin .append,args:=#[s,x],argTypes:=#[t,t]})
  (g:Nat) (e:TypeId) (i:TypeInfo) (z:ml) (b y:Nat) (G:P.underlying t=V (.slice e)) (hi:P.info? e=V i) (M:i.zero=V z)
  (F:i.size=b) (T:i.bytes=y) (AH:z.cells.size=b) (N:0<b)
  (d:Option Addr) (n f:Nat) (v:rc ml) (W:a.eval s=U d n f) (D:oi w g e b (U d n f) n v)
  (B:Nat) (p:Option Addr) (m c:Nat) (j:rc ml) (hx:a.eval x=U p m c) (AR:oi w B e b (U p m c) m j) (I:∀u∈j,u.oneCell'=jj)
  (L:n+m<=maxLen) (AO:(n+m)*y<=140737488355328) (H:g<=w.heap.size)
  (h:∀r l k,oi k g e b (U r (n+m) l) (n+m) (v++j)->w.grownBy k (U d n f).ownBlock->(∀q,(U r (n+m) l).ownBlock=V q->(U d n f).ownBlock=V q\/q=w.heap.size)->A (a.put o.dst (U r (n+m) l)) k):
  if Region.wanted o (yielded R a.tmps)=jj then Oper.wp P o a w A Q else E:=by
 rw[mK (by unfold Region.wanted;simp[C])];exact ML w s x t S g e i z b y G hi M F T AH N d n f v W D B p m c j hx AR I L AO H h
end
end Go.Proofs.YtoihbhenbmffcaaGreatDoor
namespace Go.Proofs.YtoihbhenbmffcaaGreatDoor
open Go.RowKit Go.Proofs.Tryz
variable{M:rc Nat}{n k i m:Nat}{w u v:ly}{z:ml}{s:zA}{e:rc zA}{P:Program}{Q:Exit->Act->ly->Prop}{a:Act}{B:Bool}{g:UInt8}{T:TypeId}{y:rc ml}
theorem Tryz.info95:(Tryz.prog.info? 95).map (λi=>(i.zero,i.size,i.bytes))=V (V (oj #[X .u8 0,O ⟨#[]⟩,U Y 0 0,X J 0,X .u8 0,O ⟨#[]⟩,X .u8 0,O ⟨#[]⟩,X J 0]),9,112):=by kernel_rfl
abbrev Bb:=Bw×ml
def DU(l:rc Bb):rc ml:=l.flatMap λp=>CB p.1 p.2
def Cd(w:ly)(base:Nat)(p:Bb):Prop:=oi w base 93 2 p.2 (Z p.1.A.args) (p.1.A.args.flatMap AQ)
def Cd.kept{w w':ly}{p:Bb}(h:Cd w n p)(k:Ac M w w')(a:∀i,i∈M->i<n:=by simp):Cd w' n p:=Ad h k a
def Cd.grown{p:Bb}(h:Cd w n p)(k:w.grownBy u z.ownBlock)(a:Ce p.2 z):Cd u n p:=
 n5 (v:=p.2) h k (by
  cases hv:p.2.ownBlock with
  |none=>exact lo rfl
  |some k=>exact lx (λe=>a k hv e.symm))
def Cd.alloc{w:ly}{a:Nat}{p:Bb}(h:Cd w a p)(o:Obj):Cd (w.alloc o) a p:=mE h o
set_option maxRecDepth 100000
theorem XZ(b:Nat)(s:zA)(h:Nat)(w:ly)(hs:s.size<=1000000)(HG:h<=s.size)(hB:AI w b (B7 s h K) 73):
  Calls prog 81 #[j3 (V ⟨b,0,Y⟩)] w λe S=>∃(bv:ml) (T:rc Bb),e=kt bv/\T.map qW=(Bg s h).1/\
   oi S w.heap.size 95 9 bv (Z T) (DU T)/\(∀p∈T,Cd S w.heap.size p)/\AI S b (B7 s (Bg s h).2.1 (Bg s h).2.2) 73/\Ac [b] w S:=by
 obtain⟨i0,HF,FL,HI,HA⟩:=nC Tryz.info95;have HO:=hB.lt;obtain⟨L,v,o,hL⟩:∃L v o,Bg s h=(L,v,o):=⟨_,_,_,rfl⟩;rw[hL];have HL:nc (Bg s h=(L,v,o)):=hL;clear hL;go_enter func81,ntmps81;go_wp2_with fail
 go_loopg [3,4] (2*(s.size-h)+1) (λk l Ha wr=>∃(r j:Bool) (a:Nat) (c:rc Bb),Ha=q8 r/\a<=s.size/\Z c<=a+1/\((r&& !j)=jj->Z c<=a)/\
  k=2*(s.size-a)+(if(r&& !j)=jj then 1 else 0)/\nc (EZ s r j a (c.map qW) (L,v,o))/\AI wr b (B7 s a j) 73/\
  oi wr w.heap.size 95 9 l (Z c) (DU c)/\nc (∀p∈c,Cd wr w.heap.size p/\Ce p.2 l)/\Ac [b] w wr)
 case atStart=>
  refine⟨jj,K,h,[],rfl,HG,by simp,by simp,by simp,?_,hB,mS _ _ _ _,λp f=>by simp at f,re _ _⟩;show EZ _ _ _ _ _ _;unfold EZ;simp[HL.out]
 case round=>
  obtain⟨r,j,a,c,rfl,ha,A0,R,B,z,y,n,Ax,D⟩:=hrel;have M:nc (gk=2*(s.size-a)+(if(r&& !j)=jj then 1 else 0)):=B;clear B;obtain⟨ad,cp,rfl⟩:=C2 n;cases r with
  |false=>
   have E:=z.out.done rfl;have HD:nc (c.map qW=L/\a=v/\j=o):=E;clear A0 R M z E;go_wp2;go_ret;obtain⟨d1,d2,d3⟩:=HD.out;subst d2 d3;exact⟨_,c,rfl,d1,n,λp f=>(Ax.out p f).1,y,D⟩
  |true=>
   cases j with
   |true=>
    have E:=z.out.done rfl;have HD:nc (c.map qW=L/\a=v/\jj=o):=E;have A1:=y.cell 2;simp[B7]at A1;clear A0 R M z E;go_wp2;go_ret;obtain⟨d1,d2,d3⟩:=HD.out;subst d2 d3;exact⟨_,c,rfl,d1,n,λp f=>(Ax.out p f).1,y,D⟩
   |false=>
    have A1:=y.cell 2;simp[B7]at A1;have HT:=y.lt;have FT:Z c<=a:=R rfl;clear A0 R;obtain⟨t,i,d,I⟩:∃t i d,CI s a=(t,i,d):=⟨_,_,_,rfl⟩;(have HM:i<=s.size:=by have:=JC s a ha;rw[I]at this;exact this);have HS:=z.out.step I ha (by simpa using FT);obtain⟨m,hm⟩:=rd (!d&&DM s (AF s i d) 44);obtain⟨g,CC⟩:=rd (Cg s i d 44);rw[hm,CC]at HS;obtain⟨W,q2,q3,q4,P⟩:=HS;have C:nc (CI s a=(t,i,d)/\(!d&&DM s (AF s i d) 44)=m/\Cg s i d 44=g/\g<=s.size/\Z (c.map qW++[t])<=g+1/\((m&& !d)=jj->Z (c.map qW++[t])<=g)/\2*(s.size-g)+(if(m&& !d)=jj then 1 else 0)<gk/\EZ s m d g (c.map qW++[t]) (L,v,o)):=
     ⟨I,hm,CC,W,q2,q3,by have:=M.out;simp at this;omega,P⟩
    clear I hm CC W q2 q3 q4 P M z;(go_wp2_with fail);refine(iL b s a _ hs ha y).mono ?_;rintro e Q ⟨av,rfl,u,AO,H⟩;rw[C.out.1]at AO u⊢;obtain⟨x,q,rfl⟩:=C2 u;have FB:=Ad n H (by simp;omega);have FP:=H.size;have FC:=D.size;simp only[CB];simp only at u;go_wp2_with (at_builtin;refine mZ _ rfl _ _ _ rfl w.heap.size 95 i0 _ 9 112 underlying80 HF FL HI HA rfl (by omega) (U ad (Z c) cp) (Z c) (DU c) rfl (FB.alloc _) ⟨Q.heap.size,0,Y⟩ 1 1 (CB t (U x (Z t.A.args) q)) rfl rfl (mW (m7 Q _)) (by simp[Value.oneCell',CB]) (by omega) (by unfold maxLen;omega) (by omega) (by simp;omega) (Q.heap.size+1) (by simp) ?_;intro gg E0 w5 B0 F B2 HR)
    have HP:=(B0.lt gg rfl).1;have FA:=(AO.alloc _).grown F (by have:=Ba n b (by omega);simpa using this);have CL:=((D.trans H).alloc _).grown F (λk B=>lx ((n.lt k B).1));have BS:nc (∀p∈c++[(t,(U x (Z t.A.args) q:ml))],Cd w5 w.heap.size p/\Ce p.2 (U (V ⟨gg,0,Y⟩) (Z c+1) E0)):=by
     intro p f;rcases mF.1 f with f|f
     .obtain⟨h1,G⟩:=Ax.out p f;have AB:=h1.kept H (by simp;omega);exact⟨(AB.alloc _).grown F G,Ce.zh G AB B2 (by omega)⟩
     .simp only[my]at f;subst f;have G:Ce (U x (Z t.A.args) q) (U ad (Z c) cp):=by
       intro k B he;have:=(u.lt k B).1;have:=(n.lt k he).2;omega
      have AB:Cd Q w.heap.size (t,U x (Z t.A.args) q):=Ak u (by omega);exact⟨(AB.alloc _).grown F G,Ce.zh G u B2 (by omega)⟩
    clear Ax u AO H FB F B2 n y D FP FC;(go_wp2_with fail);refine(Ov b s i d 44 44 _ rfl hs HM FA).mono ?_;rintro e w6 ⟨rfl,ES,N⟩;have FF:=Ad B0 N (by simp;omega);have Go:=CL.trans N;have HC:nc (∀p∈c++[(t,(U x (Z t.A.args) q:ml))],Cd w6 w.heap.size p/\Ce p.2 (U (V ⟨gg,0,Y⟩) (Z c+1) E0)):=
     λp f=>⟨(BS.out p f).1.kept N (by simp;omega),(BS.out p f).2⟩
    rw[C.out.2.2.1]at ES;rw[C.out.2.1];clear FA CL N B0 BS;go_wp2_with fail
    go_roundg (2*(s.size-g)+(if(m&& !d)=jj then 1 else 0))
    case measure=>exact C.out.2.2.2.2.2.2.1
    case rel=>
     obtain⟨_,_,_,W,q2,q3,_,P⟩:=C.out;refine⟨m,d,g,c++[(t,U x (Z t.A.args) q)],rfl,W,by simpa using q2,by simpa using q3,rfl,?_,ES,?_,HC,Go⟩
     .show EZ _ _ _ _ _ _;simpa using P
     .simpa[DU] using FF
structure Ca where
 head:Dr
 body:rc Bw
 at_:Nat
def DV(c:Ca)(hv bv:ml):rc ml:=[O c.head.name,hv,X J c.head.at_,bv,X J c.at_]
def Df(s:zA)(a1:Nat)(b1:Bool):rc Bw×Nat×Bool:=
 if !b1&&DM s (AF s a1 b1) 58 then(if DM s (Cg s a1 b1 58) 45 then Bg s (Cg s a1 b1 58+1)else([],Cg s a1 b1 58,jj))else([],Cg s a1 b1 58,b1)
def Ao(s:zA)(at_:Nat):Ca×Nat×Bool:=
 let A:=A4 s (Ae s at_) K
 let B:=Df s A.2.1 A.2.2
 (⟨A.1,B.1,Ae s at_⟩,Bk s B.2.1 B.2.2 46)
theorem ZQ(b:Nat)(s:zA)(E j:Nat)(w:ly)(A:Dr)(n g a3:Nat)(f b3:Bool)(L:rc Bw)(a4:Nat)(b4:Bool)(hs:s.size<=1000000)(HV:E<=s.size)
  (k:nc (Ae s E=j/\A4 s j K=(A,n,f)/\Cg s n f 58=g/\Df s n f=(L,a3,b3)/\Bk s a3 b3 46=(a4,b4))) (hB:AI w b (B7 s E K) 73):
  Calls prog 44 #[j3 (V ⟨b,0,Y⟩)] w λe w'=>∃(hv bv:ml) (a:rc Bb),e=kt (oj (j2 (DV ⟨A,L,j⟩ hv bv)))/\oi w' w.heap.size 93 2 hv (Z A.args) (A.args.flatMap AQ)/\
   a.map qW=L/\oi w' w.heap.size 95 9 bv (Z a) (DU a)/\(∀p∈a,Cd w' w.heap.size p)/\AI w' b (B7 s a4 b4) 73/\Ac [b] w w':=by
 have K7:=hB.lt;have HW:j<=s.size:=by have:=Bp s E HV;have:=k.out.1;omega
 have HD:n<=s.size:=by have:=IZ s j K HW;rw[k.out.2.1]at this;exact this
 have Ha:g<=s.size:=by have:=Dm s n f 58 HD;rw[k.out.2.2.1]at this;exact this
 go_enter func44,ntmps44;go_wp2_with fail
 refine(D6 b s E K _ hs HV (hB.alloc _)).mono ?_;rintro e w1 ⟨rfl,T,hK⟩;rw[show AF s E K=j from k.out.1]at T
 have hn:=(rf w _ _).kept hK (by simp;omega);have HG:=((re [b] w).alloc _).trans hK;clear hB hK;have K2:=T.lt;have H6:=hn.lt;have u:=T.cell 1;simp[B7]at u;go_wp2_with fail
 refine(Sd b s j K _ hs HW (T.alloc _)).mono ?_;rintro e w2 ⟨hv,rfl,o,FF,BA⟩;rw[k.out.2.1]at FF o⊢;have B:=(rf w1 _ _).kept BA (by simp;omega);have H2:=(hn.alloc _).kept BA (by simp;omega);have HO:=(HG.alloc _).trans BA;have HM:=BA.size;simp only[m9]at o HM;obtain⟨N,hN⟩:=rd w1.heap.size;rw[hN]at B o HM⊢;have K5:b<N:=by omega
 have LD:w.heap.size<N:=by omega
 clear HG T hn K2 H6 u BA hN;obtain⟨S,P,rfl⟩:=C2 o
 try simp only at o
 have e0:=B.cell 0;have e1:=B.cell 1;have e2:=B.cell 2;have HN:=B.frozen;simp at e0 e1 e2;simp only[CS];go_wp2_with fail
 have HF:=((FF.zB ⟨N,0,Y⟩ (by simp;omega) (O A.name)).zB ⟨N,1,Y⟩ (by simp;omega) (U S (Z A.args) P)).zB ⟨N,2,Y⟩ (by simp;omega) (X J A.at_);have EY:=((B.set 0 (O A.name)).set 1 (U S (Z A.args) P)).set 2 (X J A.at_);have H3:=((H2.zB ⟨N,0,Y⟩ (by simp;omega) (O A.name)).zB ⟨N,1,Y⟩ (by simp;omega) (U S (Z A.args) P)).zB ⟨N,2,Y⟩ (by simp;omega) (X J A.at_);have HK:=((HO.setCell (p:=⟨N,0,Y⟩) (by simp;omega) (O A.name)).setCell (p:=⟨N,1,Y⟩) (by simp;omega) (U S (Z A.args) P)).setCell (p:=⟨N,2,Y⟩) (by simp;omega) (X J A.at_);have H4:=Ah (Ah (Ah o (p:=⟨N,0,Y⟩) (by simpa using Ba o N (by omega)) (O A.name)) (p:=⟨N,1,Y⟩) (by simpa using Ba o N (by omega)) (U S (Z A.args) P)) (p:=⟨N,2,Y⟩) (by simpa using Ba o N (by omega)) (X J A.at_);simp only[mr,mt]at EY;clear FF B H2 HO o e0 e1 e2 HN;refine(Ov b s n f 58 58 _ rfl hs HD HF).mono ?_;rintro e C ⟨rfl,d,A0⟩;rw[k.out.2.2.1]at d;have t:=EY.kept A0 (by simp;omega);have r:=H3.kept A0 (by simp;omega);have v:=HK.trans A0;have m:=Ad H4 A0 (by simp;omega);clear HF EY H3 HK H4 A0;have K8:=t.lt;have LC:=d.lt;have K4:=r.lt;have hQ:(!f&&DM s (AF s n f) 58)=K\/((!f&&DM s (AF s n f) 58)=jj/\¬g<s.size)\/((!f&&DM s (AF s n f) 58)=jj/\g<s.size/\DM s g 45=K)\/((!f&&DM s (AF s n f) 58)=jj/\DM s g 45=jj):=by
  cases(!f&&DM s (AF s n f) 58)<;>cases DM s g 45<;>simp
  omega
 rcases hQ with i|⟨i,BS⟩|⟨i,BS,q⟩|⟨i,q⟩
 case' inl=>
  rw[i];have c:=k.out.2.2.2.1;unfold Df at c;rw[i,k.out.2.2.1]at c;simp only[mC,if_false,ny]at c;obtain⟨z,r2,r3⟩:=c;subst r2 r3;have CC:=Ha;obtain⟨a,h⟩:∃a:rc Bb,nc (a.map qW=L)/\a=[]:=⟨[],by show _=_;rw[<-z];rfl,rfl⟩;have R:=d;have Q:=t;have AR:=r;have AH:=v;have AB:=m;have Ax:oi C (N+1) 95 9 (U Y 0 0) (Z a) (DU a):=by rw[h.2];exact mS _ _ _ _
  have A1:nc (∀p∈a,Cd C (N+1) p):=by rw[h.2];intro p l;simp at l
  replace h:=h.1
  clear d t r v m z i
 case' inr.inl=>
  have A2:f=K:=by cases f<;>simp_all
  subst A2;rw[i];have c:=k.out.2.2.2.1;unfold Df at c;rw[i,k.out.2.2.1]at c;simp only[if_true]at c;have H:=d.cell 0;have u:=d.cell 1;have G:=d.cell 2;have FA:=d.frozen;simp[B7]at H u G;have q:DM s g 45=K:=gW BS 45;rw[q]at c;simp only[mC,if_false,ny]at c;obtain⟨z,r2,r3⟩:=c;subst r2 r3;have CC:=Ha;obtain⟨a,h⟩:∃a:rc Bb,nc (a.map qW=L)/\a=[]:=⟨[],by show _=_;rw[<-z];rfl,rfl⟩;clear z i;have K6:decide ((g:Int)<(s.size:Int))=K:=by simp;omega
  have LE:decide (g<s.size)=K:=by simp;omega
  go_wp2_with fail
  go_quiet (fail)
  have R:=(d.drewN nq).set 2 (q8 jj);have Q:=(t.drewN nq).zB ⟨b,2,Y⟩ (by simp;omega) (q8 jj);have AR:=(r.drewN nq).zB ⟨b,2,Y⟩ (by simp;omega) (q8 jj);have AH:=(v.drewN nq).setCell (p:=⟨b,2,Y⟩) (by simp) (q8 jj);have AB:=Ah (DW m nq) (p:=⟨b,2,Y⟩) (by simpa using Ba m b (by omega)) (q8 jj);have Ax:oi ((C.drewN nq).setCell ⟨b,2,Y⟩ (q8 jj)) (N+1) 95 9 (U Y 0 0) (Z a) (DU a):=by rw[h.2];exact mS _ _ _ _
  have A1:nc (∀p∈a,Cd ((C.drewN nq).setCell ⟨b,2,Y⟩ (q8 jj)) (N+1) p):=by rw[h.2];intro p l;simp at l
  replace h:=h.1
  clear d t r v m
 case' inr.inr.inl=>
  have A2:f=K:=by cases f<;>simp_all
  subst A2;rw[i];have c:=k.out.2.2.2.1;unfold Df at c;rw[i,k.out.2.2.1]at c;simp only[if_true]at c;have H:=d.cell 0;have u:=d.cell 1;have G:=d.cell 2;have FA:=d.frozen;simp[B7]at H u G;rw[q]at c;simp only[mC,if_false,ny]at c;obtain⟨z,r2,r3⟩:=c;subst r2 r3;have CC:=Ha;obtain⟨a,h⟩:∃a:rc Bb,nc (a.map qW=L)/\a=[]:=⟨[],by show _=_;rw[<-z];rfl,rfl⟩;clear z i;have H7:(g:Int)<(s.size:Int):=by omega
  have hq:((s[g].toNat:Int)==45)=K:=by rw[<-q];exact(JE BS 45).symm
  go_wp2_with fail
  go_quiet (fail)
  have R:=(d.drewN nq).set 2 (q8 jj);have Q:=(t.drewN nq).zB ⟨b,2,Y⟩ (by simp;omega) (q8 jj);have AR:=(r.drewN nq).zB ⟨b,2,Y⟩ (by simp;omega) (q8 jj);have AH:=(v.drewN nq).setCell (p:=⟨b,2,Y⟩) (by simp) (q8 jj);have AB:=Ah (DW m nq) (p:=⟨b,2,Y⟩) (by simpa using Ba m b (by omega)) (q8 jj);have Ax:oi ((C.drewN nq).setCell ⟨b,2,Y⟩ (q8 jj)) (N+1) 95 9 (U Y 0 0) (Z a) (DU a):=by rw[h.2];exact mS _ _ _ _
  have A1:nc (∀p∈a,Cd ((C.drewN nq).setCell ⟨b,2,Y⟩ (q8 jj)) (N+1) p):=by rw[h.2];intro p l;simp at l
  replace h:=h.1
  clear d t r v m
 case' inr.inr.inr=>
  have A2:f=K:=by cases f<;>simp_all
  subst A2;rw[i];have c:=k.out.2.2.2.1;unfold Df at c;rw[i,k.out.2.2.1]at c;simp only[if_true]at c;have H:=d.cell 0;have u:=d.cell 1;have G:=d.cell 2;have FA:=d.frozen;simp[B7]at H u G;rw[q]at c;simp only[if_true]at c;have BS:=Fe q;have H7:(g:Int)<(s.size:Int):=by omega
  have hq:((s[g].toNat:Int)==45)=jj:=by rw[<-q];exact(JE BS 45).symm
  have CC:a3<=s.size:=by have:=SG s (g+1) (by omega);rw[c]at this;exact this
  have HR:nc (Bg s (g+1)=(L,a3,b3)):=c;clear c i q;go_wp2_with fail
  go_quiet (fail)
  clear hq;go_wp2_with fail
  refine(XZ b s (g+1) _ hs (by omega) ((d.drewN nq).set 1 _)).mono ?_;rintro e w4 ⟨bv,a,rfl,FB,H1,HY,HC,F⟩;rw[HR.out]at HC FB;have h:nc (a.map qW=L):=FB;have FW:=((t.drewN nq).zB ⟨b,1,Y⟩ (by simp;omega) _).kept F (by simp;omega);have HT:=((r.drewN nq).zB ⟨b,1,Y⟩ (by simp;omega) _).kept F (by simp;omega);have HZ:=((v.drewN nq).setCell (p:=⟨b,1,Y⟩) (by simp) _).trans F;have FP:=Ad (Ah (DW m nq) (p:=⟨b,1,Y⟩) (by simpa using Ba m b (by omega)) _) F (by simp;omega);have B2:oi w4 (N+1) 95 9 bv (Z a) (DU a):=Ak H1 (by simp;omega);have EX:nc (∀p∈a,Cd w4 (N+1) p):=λp l=>Ak (HY p l) (by simp;omega)
  have E0:=F.size;simp only[World.size_setCell]at E0;have K3:C.heap.size<=w4.heap.size:=E0;clear d t r v m F H1 HY FB H u G FA E0;obtain⟨x,y,rfl⟩:=C2 B2;have e3:=FW.cell 3;have HN:=FW.frozen 3;simp at e3;have R:=HC.zB ⟨N,3,Y⟩ (by simp;omega) (U x (Z a) y);have Q:=FW.set 3 (U x (Z a) y);have AR:=HT.zB ⟨N,3,Y⟩ (by simp;omega) (U x (Z a) y);have AH:=HZ.setCell (p:=⟨N,3,Y⟩) (by simp;omega) (U x (Z a) y);have AB:=Ah FP (p:=⟨N,3,Y⟩) (by simpa using Ba FP N (by omega)) (U x (Z a) y);have Ax:=Ah B2 (p:=⟨N,3,Y⟩) (by simpa using Ba B2 N (by omega)) (U x (Z a) y);have A1:nc (∀p∈a,Cd (w4.setCell ⟨N,3,Y⟩ (U x (Z a) y)) (N+1) p):=λp l=>Ah (EX.out p l) (by simpa using Ba (EX.out p l) N (by omega)) _
  clear HC HT HZ FP B2 EX
 all_goals
  have K9:=R.lt;have LL:=Q.lt;go_wp2_with fail
  refine(SD b s _ _ 46 46 _ rfl hs CC R).mono ?_;rintro e w6 ⟨rfl,HP,D⟩;have CL:=k.out.2.2.2.2;simp only[Bk,ny]at CL;rw[CL.1,CL.2]at HP;have IA:=Q.kept D (by simp;omega);have FO:=AR.kept D (by simp;omega);have IJ:=AH.trans D;have Jx:=Ad AB D (by simp;omega);have H8:=Ad Ax D (by simp;omega);have JA:nc (∀p∈a,Cd w6 (N+1) p):=λp l=>(A1.out p l).kept D (by simp;omega)
  clear R Q AR AH AB Ax D CL A1;have I:=IA.cell;have M:=FO.cell;have LB:=FO.frozen;have e0:=I 0;have e1:=I 1;have e2:=I 2;have e3:=I 3;have e4:=I 4;have f0:=M 0;have f1:=M 1;have f2:=M 2;have f3:=M 3;have f4:=M 4;simp at e0 e1 e2 e3 e4 f0 f1 f2 f3 f4;clear I M;go_wp2;have W:∀{v0 v1 v2 v3 v4:ml},Ac [w.heap.size] w6 (((((w6.setCell ⟨w.heap.size,0,Y⟩ v0).setCell ⟨w.heap.size,1,Y⟩ v1).setCell ⟨w.heap.size,2,Y⟩ v2).setCell ⟨w.heap.size,3,Y⟩ v3).setCell ⟨w.heap.size,4,Y⟩ v4):=by
   intro v0 v1 v2 v3 v4
   repeat (refine Ac.setCell ?_ (by simp) _)
   exact re _ _
  refine m5 (Cj rfl rfl (((((FO.set 0 _).set 1 _).set 2 _).set 3 _).set 4 _) underlying82 rfl (by kernel_rfl)) rfl ⟨U S (Z A.args) P,by first|exact U x (Z a) y|exact U Y 0 0,a,?_,?_,?_,?_,?_,?_,?_⟩
  .simp[DV]
  .exact Ak (Ad Jx W (by simp;omega)) (by omega)
  .exact h.out
  .exact Ak (Ad H8 W (by simp;omega)) (by omega)
  .exact λp l=>Ak ((JA.out p l).kept W (by simp;omega)) (by omega)
  .exact HP.kept W (by simp;omega)
  .exact IJ.trans' W (by simp)
def eJ(s:zA)(a:Nat)(c:Bool)(h:a<=s.size):(Df s a c).2.1<=s.size:=by
 have b:=Dm s a c 58 h;unfold Df;split
 .split
  .rename_i d;exact SG _ _ (by have:=Fe d;omega)
  .exact b
 .exact b
def Ye(s:zA)(a:Nat)(b:Bool):a<=(Df s a b).2.1:=by
 have c:=DE s a b 58;unfold Df;split
 .split
  .have:=XE s (Cg s a b 58+1);omega
  .exact c
 .exact c
def IH(s:zA)(a:Nat)(h:a<=s.size):(Ao s a).2.1<=s.size:=by
 unfold Ao;simp only;exact Dm _ _ _ _ (eJ _ _ _ (IZ _ _ _ (Bp _ _ h)))
def Kz{at_:Nat}(h:(Ao s at_).2.2=K):at_<(Ao s at_).2.1:=by
 unfold Ao at h⊢;simp only at h⊢;have a:=B1 s at_;have b:=L7 s (Ae s at_) K;have d:=Ye s (A4 s (Ae s at_) K).2.1 (A4 s (Ae s at_) K).2.2;have c:=Up h;omega
def Rf(b:Nat)(s:zA)(a:Nat)(w:ly)(y:s.size<=1000000)(x:a<=s.size)(B:AI w b (B7 s a K) 73):
  Calls prog 44 #[j3 (V ⟨b,0,Y⟩)] w λe h=>∃(t u:ml) (l:rc Bb),e=kt (oj (j2 (DV (Ao s a).1 t u)))/\oi h w.heap.size 93 2 t (Z (Ao s a).1.head.args) ((Ao s a).1.head.args.flatMap AQ)/\
   l.map qW=(Ao s a).1.body/\oi h w.heap.size 95 9 u (Z l) (DU l)/\(∀p∈l,Cd h w.heap.size p)/\AI h b (B7 s (Ao s a).2.1 (Ao s a).2.2) 73/\Ac [b] w h:=by
 obtain⟨j,r⟩:=rd (Ae s a);obtain⟨A,d,c,n⟩:∃A d c,A4 s j K=(A,d,c):=⟨_,_,_,rfl⟩;obtain⟨m,z⟩:=rd (Cg s d c 58);obtain⟨L,g,f,o⟩:∃L g f,Df s d c=(L,g,f):=⟨_,_,_,rfl⟩;obtain⟨i,k,q⟩:∃i k,Bk s g f 46=(i,k):=⟨_,_,rfl⟩;have e:Ao s a=(⟨A,L,j⟩,i,k):=by unfold Ao;simp only[r,n,o,q]
 rw[e];have v:nc (Ae s a=j/\A4 s j K=(A,d,c)/\Cg s d c 58=m/\Df s d c=(L,g,f)/\Bk s g f 46=(i,k)):=⟨r,n,z,o,q⟩;exact ZQ b s a j w A d m g c f L i k y x v B
def DY(l:rc zA)(x:zA):Bool:=l.any λy=>y.toList==x.toList
def Mv(l:rc zA)(y x:zA):DY (l++[y]) x=(DY l x||(y.toList==x.toList)):=by simp[DY,qF]
def dU(a:k<Z e)(x:zA):DY (e.take (k+1)) x=(DY (e.take k) x||(e[k].toList==x.toList)):=by
 rw[mx a,Mv]
def eL(a:k<Z e)(h:(e[k].toList==s.toList)=jj):DY e s=jj:=by
 unfold DY;rw[nX];exact⟨e[k],mw a,h⟩
set_option maxRecDepth 512
theorem IU(d:ml)(l:rc zA)(x:zA)(q:Nat)(w:ly)(b:oi w q 9 1 d (Z l) (l.flatMap Ai))(y:Z l<=1000000):
  Calls prog 50 #[d,O x] w λe m=>e=kt (q8 (DY l x))/\m=w:=by
 obtain⟨z,t,rfl⟩:=Al b;go_enter func50,ntmps50;go_wp2
 go_loop [5] (λi=>∃k:Nat,i=X J k/\k<=Z l/\nc (DY (l.take k) x=K)) (λi=>Z l-(intOf i).toNat)
 case atStart=>exact⟨0,rfl,mO _,by show _=_;simp[DY]⟩
 case round=>
  obtain⟨k,rfl,s,j⟩:=hrel;by_cases a:k<Z l
  .obtain⟨g,u,c,v,f⟩:=AC b (by simp[Ai]) k a;simp only[mu]at c;obtain⟨rfl,_,rfl⟩:=c;have n:=f k a 0 (by omega);simp[Ai]at n;clear f;have r:nc ((l[k].toList==x.toList)=jj->DY l x=jj):=eL a;have o:nc ((l[k].toList==x.toList)=K->DY (l.take (k+1)) x=K):=by
    intro h;rw[dU a,j.out,h];rfl
   go_wp2
   .go_ret;rw[r.out (by assumption)];exact⟨rfl,rfl⟩
   .go_round
    case rel=>exact⟨k+1,by go_num,by omega,o.out (by assumption)⟩
    case measure=>simp[intOf];omega
  ·(have p:nc (DY l x=K):=by have:=j.out;rwa [mz (by omega)]at this);go_wp2;go_ret;rw[p.out];exact⟨rfl,rfl⟩
structure AV where
 head:Dr
 hv:ml
 bv:ml
 bl:rc Bb
 at_:Nat
def Cb(c:AV):rc ml:=[O c.head.name,c.hv,X J c.head.at_,c.bv,X J c.at_]
def A6(p:Bb):rc ml:=CB p.1 p.2
def B8(c:AV):Z (Cb c)=5:=rfl
def B6(p:Bb):Z (A6 p)=9:=rfl
def F5(t:AJ):Z (AQ t)=2:=rfl
structure Ze(w:ly)(c:AV):Prop where
 args:oi w 0 93 2 c.hv (Z c.head.args) (c.head.args.flatMap AQ)
 body:oi w 0 95 9 c.bv (Z c.bl) (c.bl.flatMap A6)
 lits:∀p∈c.bl,Cd w 0 p
structure CF(w:ly)(lv:ml)(cs:rc AV):Prop where
 row:oi w 0 82 5 lv (Z cs) (cs.flatMap Cb)
 each:∀c∈cs,Ze w c
def Ze.kept{w w':ly}{c:AV}(h:Ze w c)(k:Ac [] w w'):Ze w' c:=
 ⟨Ad h.args k,Ad h.body k,λp a=>Ad (h.lits p a) k⟩
def CF.kept{w w':ly}{a:ml}{b:rc AV}(h:CF w a b)(k:Ac [] w w'):CF w' a b:=
 ⟨Ad h.row k,λc d=>(h.each c d).kept k⟩
def MP(p:Bb):Bool:=p.1.kind==97||p.1.kind==33
def S3(bl:rc Bb)(x:zA):Option Nat:=bl.findSome? λp=>if MP p&&(p.1.A.name.toList==x.toList)then V (Z p.1.A.args) else Y
def Gm(c:AV)(x:zA):Option Nat:=if c.head.name.toList==x.toList then V (Z c.head.args) else S3 c.bl x
def BQ(cs:rc AV)(x:zA):Int:=match cs.findSome? (Gm · x)with|some n=>n|none=> -1
def GE{α β:Type}(f:α->Option β)(l:rc α)(k:Nat)(a:k<Z l)(b:(l.take k).findSome? f=Y):(l.take (k+1)).findSome? f=f l[k]:=by
 rw[mx a,qj,b];simp
def Hz{α β:Type}(f:α->Option β)(l:rc α)(k:Nat)(a:k<Z l)(c:(l.take k).findSome? f=Y){b:β}(d:f l[k]=V b):l.findSome? f=V b:=by
 have h:=GE f l k a c;rw[d]at h;have e:l=l.take (k+1)++l.drop (k+1):=(nO _ _).symm;rw[e,qj,h];rfl
def E9(p:Bb):(((p.1.kind.toNat:Int)==97)=jj/\MP p=jj)\/(((p.1.kind.toNat:Int)==97)=K/\((p.1.kind.toNat:Int)==33)=jj/\MP p=jj)\/
  (((p.1.kind.toNat:Int)==97)=K/\((p.1.kind.toNat:Int)==33)=K/\MP p=K):=by
 have b:((p.1.kind.toNat:Int)==97)=(p.1.kind==97):=Cy _ 97;have a:((p.1.kind.toNat:Int)==33)=(p.1.kind==33):=Cy _ 33;rw[b,a];unfold MP;cases(p.1.kind==97)<;>cases(p.1.kind==33)<;>simp
set_option maxRecDepth 100000
theorem Mq(pb:Nat)(lv:ml)(a:rc AV)(x:zA)(w:ly)(hP:AI w pb [lv] 76)(L:CF w lv a)(Ha:Z a<=1000000)(R:∀c∈a,Z c.bl<=1000000):
  Calls prog 23 #[j3 (V ⟨pb,0,Y⟩),O x] w λe w'=>e=kt (X J (BQ a x))/\Ac [] w w':=by
 obtain⟨ad,CW,rfl⟩:=Al L.row;have G:nc (CF w (U ad (Z a) CW) a/\∀c∈a,Z c.bl<=1000000):=⟨L,R⟩;clear L R;go_enter func23,ntmps23;go_wp2
 go_loopw [5] (λi wr=>∃k:Nat,i=X J k/\k<=Z a/\nc ((a.take k).findSome? (Gm · x)=Y)/\Ac [] w wr) (λi _=>Z a-(intOf i).toNat)
 case atStart=>exact⟨0,rfl,mO _,by show _=_;simp,re _ _⟩
 case round=>
  obtain⟨k,rfl,hk,y,q⟩:=hrel;have z:=(hP.kept q).cell 0;simp at z;by_cases f:k<Z a
  .have F:=G.out.1.kept q;obtain⟨g,FP,he,hc,v⟩:=AC F.row (λc _=>B8 c) k f;simp only[mu]at he;obtain⟨rfl,_,rfl⟩:=he;have S:=v k f 0 (by omega);have P:=v k f 1 (by omega);have t:=v k f 3 (by omega);simp[Cb]at S P t;have n:=F.each a[k] (mw f);have HF:=G.out.2 a[k] (mw f);obtain⟨HD,FO,A2⟩:=Al n.args;obtain⟨B2,CC,C⟩:=Al n.body;rw[A2]at P;rw[C]at t;have B0:nc (Ze wr a[k]):=n;have AR:nc (a[k].bv=U B2 a[k].bl.length CC):=C;clear v F n A2 C;cases hnm:(a[k].head.name.toList==x.toList)with
   |true=>
    have M:nc (BQ a x=(a[k].head.args.length:Int)):=by
     show _=_;unfold BQ;rw[Hz (Gm · x) a k f y.out (b:=a[k].head.args.length) (by simp[Gm,hnm])]
    go_wp2;go_ret;rw[M.out];exact⟨rfl,q⟩
   |false=>
    (have HA:nc (Gm a[k] x=S3 a[k].bl x):=by show _=_;simp[Gm,hnm]);go_wp2;clear S P
    go_loopw [6] (λi W=>∃m:Nat,i=X J m/\m<=a[k].bl.length/\nc ((a[k].bl.take m).findSome? (λp=>if MP p&&(p.1.A.name.toList==x.toList)then V (Z p.1.A.args) else Y)=Y)/\Ac [] w W) (λi _=>a[k].bl.length-(intOf i).toNat)
    case atStart=>exact⟨0,rfl,mO _,by show _=_;simp,q⟩
    case round=>
     rename_i W _;obtain⟨m,rfl,hm,B,o⟩:=hrel;clear z t q B0;have z:=(hP.kept o).cell 0;simp at z;have E:=G.out.1.kept o;obtain⟨g2,HB,AT,_,Ax⟩:=AC E.row (λc _=>B8 c) k f;simp only[mu,mB,nr]at AT;obtain⟨⟨rfl,_,_⟩,_,rfl⟩:=AT;have t:=Ax k f 3 (by omega);simp[Cb]at t;rw[AR.out]at t;have n:=E.each a[k] (mw f);clear Ax E;by_cases d:m<a[k].bl.length
     .obtain⟨gb,HH,N,FF,l⟩:=AC n.body (λc _=>B6 c) m d;rw[AR.out]at N;simp only[mu]at N;obtain⟨rfl,_,rfl⟩:=N;have hl:=n.lits a[k].bl[m] (mw d);obtain⟨HG,FL,T⟩:=Al hl;have d0:=l m d 0 (by omega);have d1:=l m d 1 (by omega);have Q:=l m d 2 (by omega);have d3:=l m d 3 (by omega);have d4:=l m d 4 (by omega);have d5:=l m d 5 (by omega);have d6:=l m d 6 (by omega);have d7:=l m d 7 (by omega);have d8:=l m d 8 (by omega);simp[A6,CB]at d0 d1 Q d3 d4 d5 d6 d7 d8;rw[T]at Q;clear l hl T n;have s:nc (MP a[k].bl[m]=K\/(a[k].bl[m].1.A.name.toList==x.toList)=K->(a[k].bl.take (m+1)).findSome? (λp=>if MP p&&(p.1.A.name.toList==x.toList)then V (Z p.1.A.args) else Y)=Y):=by
       intro h;rw[GE _ _ m d B.out];rcases h with h|h<;>simp[h]
      have r:nc (MP a[k].bl[m]=jj->(a[k].bl[m].1.A.name.toList==x.toList)=jj->BQ a x=(a[k].bl[m].1.A.args.length:Int)):=by
       intro h1 h2;have h3:=Hz (λp:Bb=>if MP p&&(p.1.A.name.toList==x.toList)then V (Z p.1.A.args) else Y) a[k].bl m d B.out (b:=a[k].bl[m].1.A.args.length) (by simp[h1,h2]);(have h4:Gm a[k] x=V a[k].bl[m].1.A.args.length:=by rw[HA.out];exact h3);unfold BQ;rw[Hz (Gm · x) a k f y.out h4]
      cases hnm2:(a[k].bl[m].1.A.name.toList==x.toList)with
      |true=>
       rcases E9 a[k].bl[m] with⟨u,j⟩|⟨u,H,j⟩|⟨u,H,j⟩
       .have D:=Ab (r.out j hnm2);clear r s j;go_wp2;go_ret;rw[Aa D];exact⟨rfl,o.alloc _⟩
       .have D:=Ab (r.out j hnm2);clear r s j;go_wp2;go_ret;rw[Aa D];exact⟨rfl,o.alloc _⟩
       .have I:=Ab (s.out (lo j));clear r s j;go_wp2
        go_roundw
        case rel=>exact⟨m+1,by go_num,by omega,I,o.alloc _⟩
        case measure=>simp[intOf];omega
      |false=>
       have I:=Ab (s.out (lx hnm2));rcases E9 a[k].bl[m] with⟨u,j⟩|⟨u,H,j⟩|⟨u,H,j⟩;all_goals
        clear r s j;go_wp2
        go_roundw
        case rel=>exact⟨m+1,by go_num,by omega,I,o.alloc _⟩
        case measure=>simp[intOf];omega
     .have HZ:nc ((a.take (k+1)).findSome? (Gm · x)=Y):=by
       show _=_;rw[GE _ _ k f y.out];have h:=B.out;rw[mz (by omega)]at h;rw[HA.out];exact h
      go_wp2
      go_roundw
      case rel=>exact⟨k+1,by go_num,by omega,HZ,o⟩
      case measure=>simp[intOf];omega
  .have M:nc (BQ a x= -1):=by
    have h:=y.out;rw[mz (by omega)]at h;show _=_;unfold BQ;rw[h]
   go_wp2;go_ret;rw[M.out];exact⟨rfl,q⟩
def AG(p:Bb):rc AJ:=if MP p then p.1.A.args else[p.1.L,p.1.R]
theorem T8(p:Bb)(w:ly)(c:Cd w 0 p):
  Calls prog 131 #[oj (j2 (A6 p))] w λe k=>∃j,e=kt j/\oi k 0 93 2 j (Z (AG p)) ((AG p).flatMap AQ)/\Ac [] w k:=by
 obtain⟨g,f,d⟩:=Al c;simp only[A6,CB,d];rcases E9 p with⟨i,b⟩|⟨i,l,b⟩|⟨i,l,b⟩
 .have a:nc (AG p=p.1.A.args/\p.2=U g (Z p.1.A.args) f/\Cd w 0 p):=⟨by unfold AG;simp[b],d,c⟩;clear b d c;go_enter func131,ntmps131;go_wp2;go_ret;refine⟨_,rfl,?_,(re _ _).alloc _⟩;rw[a.out.1];have h:oi w 0 93 2 _ _ _:=a.out.2.2;rw[a.out.2.1]at h;exact h.alloc _
 .have a:nc (AG p=p.1.A.args/\p.2=U g (Z p.1.A.args) f/\Cd w 0 p):=⟨by unfold AG;simp[b],d,c⟩;clear b d c;go_enter func131,ntmps131;go_wp2;go_ret;refine⟨_,rfl,?_,(re _ _).alloc _⟩;rw[a.out.1];have h:oi w 0 93 2 _ _ _:=a.out.2.2;rw[a.out.2.1]at h;exact h.alloc _
 .have a:nc (AG p=[p.1.L,p.1.R]):=by show _=_;unfold AG;simp[b]
  clear b d c;go_enter func131,ntmps131;go_wp2;go_ret;refine⟨_,rfl,?_,((re _ _).alloc _).alloc _⟩;rw[a.out];refine⟨rfl,lx ⟨_,2,#[X .u8 p.1.L.v.toNat,O p.1.L.s,X .u8 p.1.R.v.toNat,O p.1.R.s],rfl,mO _,by have h:=m7 (w.alloc (j1 #[X .u8 p.1.kind.toNat,O p.1.A.name,U g (Z p.1.A.args) f,X J p.1.A.at_,X .u8 p.1.L.v.toNat,O p.1.L.s,X .u8 p.1.R.v.toNat,O p.1.R.s,X J p.1.at_] 95)) (j1 #[X .u8 p.1.L.v.toNat,O p.1.L.s,X .u8 p.1.R.v.toNat,O p.1.R.s] 93);rw[m9]at h;exact h,by simp,by unfold maxLen;omega,rfl,?_⟩⟩;simp[AQ]
def Tg(l:rc AJ)(v:UInt8):Bool:=l.any λt=>t.v==v
def Lv(v:UInt8)(p:Bb):Bool:=p.1.kind==97&&Tg p.1.A.args v
def Ls(bl:rc Bb)(v:UInt8):Bool:=bl.any (Lv v)
def Do{α:Type}(f:α->Bool)(l:rc α)(k:Nat)(a:k<Z l)(b:(l.take k).any f=K):(l.take (k+1)).any f=f l[k]:=by
 rw[mx a,qF,b];simp
def K0{α:Type}(f:α->Bool)(l:rc α)(k:Nat)(a:k<Z l)(h:f l[k]=jj):l.any f=jj:=by
 rw[nX];exact⟨_,mw a,h⟩
theorem Mc(I:ml)(a:rc Bb)(n:Int)(v:UInt8)(w:ly)(W:n=v.toNat)(l:oi w 0 95 9 I (Z a) (a.flatMap A6))(D:∀p∈a,Cd w 0 p)(A1:Z a<=1000000)(H:∀p∈a,Z p.1.A.args<=1000000):
  Calls prog 132 #[I,X .u8 n] w λe L=>e=kt (q8 (Ls a v))/\L=w:=by
 subst W;obtain⟨R,Q,rfl⟩:=Al l;have o:nc (oi w 0 95 9 (U R (Z a) Q) (Z a) (a.flatMap A6)/\(∀p∈a,Cd w 0 p)/\(∀p∈a,Z p.1.A.args<=1000000)):=⟨l,D,H⟩;clear l D H;go_enter func132,ntmps132;go_wp2
 go_loop [5] (λi=>∃k:Nat,i=X J k/\k<=Z a/\nc ((a.take k).any (Lv v)=K)) (λi=>Z a-(intOf i).toNat)
 case atStart=>exact⟨0,rfl,mO _,by show _=_;simp⟩
 case round=>
  obtain⟨k,rfl,hk,q⟩:=hrel;by_cases b:k<Z a
  .obtain⟨g,AT,G,hc,r⟩:=AC o.out.1 (λc _=>B6 c) k b;simp only[mu]at G;obtain⟨rfl,_,rfl⟩:=G;have S:=r k b 0 (by omega);have y:=r k b 2 (by omega);simp[A6,CB]at S y;have s:=o.out.2.1 a[k] (mw b);have AO:=o.out.2.2 a[k] (mw b);obtain⟨T,M,j⟩:=Al s;rw[j]at y;have HI:nc (oi w 0 93 2 (U T a[k].1.A.args.length M) a[k].1.A.args.length (a[k].1.A.args.flatMap AQ)):=by
    have h:oi w 0 93 2 _ _ _:=s;rw[j]at h;exact h
   clear r s j;have F:((a[k].1.kind.toNat:Int)==97)=(a[k].1.kind==97):=Cy _ 97;cases hkd:(a[k].1.kind==97)with
   |false=>
    rw[hkd]at F;(have d:nc ((a.take (k+1)).any (Lv v)=K):=by show _=_;rw[Do _ _ k b q.out];simp[Lv,hkd]);clear hkd;go_wp2
    go_loop [6] (λi=>i=X J 0) (λ_=>0)
    case atStart=>rfl
    case round=>
     subst hrel;go_wp2
     go_round
     case rel=>exact⟨k+1,by go_num,by omega,d⟩
     case measure=>simp[intOf];omega
   |true=>
    rw[hkd]at F;(have d:nc (Tg a[k].1.A.args v=K->(a.take (k+1)).any (Lv v)=K):=by intro h;rw[Do _ _ k b q.out];simp[Lv,h]);(have u:nc (Tg a[k].1.A.args v=jj->Ls a v=jj):=by intro h;exact K0 _ _ k b (by simp[Lv,hkd,h]));clear hkd;go_wp2
    go_loop [6] (λi=>∃m:Nat,i=X J m/\m<=a[k].1.A.args.length/\nc ((a[k].1.A.args.take m).any (λt=>t.v==v)=K)) (λi=>a[k].1.A.args.length-(intOf i).toNat)
    case atStart=>exact⟨0,rfl,mO _,by show _=_;simp⟩
    case round=>
     obtain⟨m,rfl,hm,z⟩:=hrel;by_cases f:m<a[k].1.A.args.length
     .obtain⟨ga,Bx,B,AR,E⟩:=AC HI.out (λc _=>F5 c) m f;simp only[mu]at B;obtain⟨rfl,_,rfl⟩:=B;have P:=E m f 0 (by omega);simp[AQ]at P;clear E;have C:((a[k].1.A.args[m].v.toNat:Int)==(v.toNat:Int))=(a[k].1.A.args[m].v==v):=Cy _ v;cases hv:(a[k].1.A.args[m].v==v)with
      |true=>
       rw[hv]at C;have N:=Ab (u.out (K0 _ _ m f hv));clear hv u d;go_wp2;go_ret;rw[Aa N];exact⟨rfl,rfl⟩
      |false=>
       rw[hv]at C;(have x:nc ((a[k].1.A.args.take (m+1)).any (λt=>t.v==v)=K):=by show _=_;rw[Do _ _ m f z.out];exact hv);clear hv u d;go_wp2
       go_round
       case rel=>exact⟨m+1,by go_num,by omega,x⟩
       case measure=>simp[intOf];omega
     .have x:=Ab (d.out (by have h:=z.out;rwa [mz (by omega)]at h));go_wp2
      go_round
      case rel=>exact⟨k+1,by go_num,by omega,x⟩
      case measure=>simp[intOf];omega
  ·(have HE:nc (Ls a v=K):=by have h:=q.out;rwa [mz (by omega)]at h);go_wp2;go_ret;rw[HE.out];exact⟨rfl,rfl⟩
def Db(bl:rc Bb)(t:AJ):Bool:= !(t.v==0||Ls bl t.v)
def Kw(bl:rc Bb)(p:Bb):Bool:=(AG p).any (Db bl)
def Ee(head:Dr)(bl:rc Bb):Int:=if head.args.any (Db bl)then head.at_ else match bl.find? (Kw bl)with|some p=>p.1.at_|none=> -1
def F8{α:Type}(f:α->Bool)(l:rc α)(k:Nat)(a:k<Z l)(d:(l.take k).any f=K)(h:f l[k]=jj):l.find? f=V l[k]:=by
 have e:l.find? f=(l.take k++l.drop k).find? f:=by rw[nO]
 rw[e,qI];have c:(l.take k).find? f=Y:=by
  rw[oM];intro x g b;have:(l.take k).any f=jj:=by rw[nX];exact⟨x,g,b⟩
  rw[d]at this;cases this
 rw[c,Option.none_or,mQ a,List.find?_cons_of_pos h]
theorem Ya(b:Dr)(hv bv:ml)(a:rc Bb)(w:ly)(W:oi w 0 93 2 hv (Z b.args) (b.args.flatMap AQ))(Q:oi w 0 95 9 bv (Z a) (a.flatMap A6))(hl:∀p∈a,Cd w 0 p)(D:Z a<=1000000)(A2:∀p∈a,Z p.1.A.args<=1000000)(HD:Z b.args<=1000000):
  Calls prog 84 #[oj (j2 (CS b.name hv b.at_)),bv] w λe w'=>e=kt (X J (Ee b a))/\Ac [] w w':=by
 obtain⟨N,L,rfl⟩:=Al W;obtain⟨ad,ES,rfl⟩:=Al Q;simp only[CS];have l:nc (oi w 0 93 2 (U N (Z b.args) L) (Z b.args) (b.args.flatMap AQ)/\oi w 0 95 9 (U ad (Z a) ES) (Z a) (a.flatMap A6)/\(∀p∈a,Cd w 0 p)/\(∀p∈a,Z p.1.A.args<=1000000)):=⟨W,Q,hl,A2⟩;clear W Q hl A2;have HU:∀(x:Bool) (w:ly),(Op.unary .not (q8 x)).run prog w=.ok (q8 (!x)) w:=λ_ _=>rfl
 go_enter func84,ntmps84;go_wp2_with fail
 go_loopw [5] (λi wr=>∃k:Nat,i=X J k/\k<=Z b.args/\nc ((b.args.take k).any (Db a)=K)/\wr=w.alloc (j1 #[O b.name,U N (Z b.args) L,X J b.at_] 79)) (λi _=>Z b.args-(intOf i).toNat)
 case atStart=>exact⟨0,rfl,mO _,by show _=_;simp,rfl⟩
 case round=>
  obtain⟨k,rfl,hk,HC,rfl⟩:=hrel;by_cases F:k<Z b.args
  .obtain⟨g,BA,r,hc,f⟩:=AC (l.out.1.alloc (j1 #[O b.name,U N (Z b.args) L,X J b.at_] 79)) (λc _=>F5 c) k F;simp only[mu]at r;obtain⟨rfl,_,rfl⟩:=r;have E:=f k F 0 (by omega);simp[AQ]at E;clear f;have y:((b.args[k].v.toNat:Int)==0)=(b.args[k].v==0):=Cy _ 0;(have n:nc (Db a b.args[k]=K->(b.args.take (k+1)).any (Db a)=K):=by intro h;rw[Do _ _ k F HC.out];exact h);(have o:nc (Db a b.args[k]=jj->Ee b a=(b.at_:Int)):=by intro h;unfold Ee;rw[mK (K0 _ _ k F h)]);cases hz:(b.args[k].v==0)with
   |true=>
    rw[hz]at y;have C:=Ab (n.out (by simp[Db,hz]));clear hz n o;go_wp2_with fail
    go_roundw
    case rel=>exact⟨k+1,by go_num,by omega,C,by trivial⟩
    case measure=>simp[intOf];omega
   |false=>
    rw[hz]at y;cases hbd:Ls a b.args[k].v with
    |true=>
     have C:=Ab (n.out (by simp[Db,hbd]));clear hz n o;go_wp2_with (go_at_call 132;refine(Mc _ a _ b.args[k].v _ rfl (l.out.2.1.alloc _) (λp B=>(l.out.2.2.1 p B).alloc _) D l.out.2.2.2).mono ?_;rintro e t ⟨rfl,rfl⟩;rw[hbd])
     go_roundw
     case rel=>exact⟨k+1,by go_num,by omega,C,by trivial⟩
     case measure=>simp[intOf];omega
    |false=>
     have FW:=Ab (o.out (by simp[Db,hbd,hz]));clear hz n o;go_wp2_with (go_at_call 132;refine(Mc _ a _ b.args[k].v _ rfl (l.out.2.1.alloc _) (λp B=>(l.out.2.2.1 p B).alloc _) D l.out.2.2.2).mono ?_;rintro e t ⟨rfl,rfl⟩;rw[hbd])
     go_ret;rw[Aa FW];exact⟨rfl,(re _ _).alloc _⟩
  ·(have HH:nc (b.args.any (Db a)=K):=by have h:=HC.out;rwa [mz (by omega)]at h);clear HC;have EM:=(re [] w).alloc (j1 #[O b.name,U N (Z b.args) L,X J b.at_] 79);go_wp2_with fail
   go_loopw [7] (λi wr=>∃k:Nat,i=X J k/\k<=Z a/\nc ((a.take k).any (Kw a)=K)/\Ac [] w wr) (λi _=>Z a-(intOf i).toNat)
   case atStart=>exact⟨0,rfl,mO _,by show _=_;simp,EM⟩
   case round=>
    rename_i wr _ _;obtain⟨q,rfl,hq,R,u⟩:=hrel;clear EM;by_cases d:q<Z a
    .have s:=Ad l.out.2.1 u;obtain⟨g,BA,r,hc,f⟩:=AC s (λc _=>B6 c) q d;simp only[mu]at r;obtain⟨rfl,_,rfl⟩:=r;have AR:Cd _ 0 a[q]:=(l.out.2.2.1 a[q] (mw d)).kept u;obtain⟨HZ,HS,AH⟩:=Al AR;have T:=T8 a[q] _ AR;simp only[A6,CB,AH]at T;have E:=f q d 0 (by omega);have d1:=f q d 1 (by omega);have P:=f q d 2 (by omega);have d3:=f q d 3 (by omega);have d4:=f q d 4 (by omega);have d5:=f q d 5 (by omega);have d6:=f q d 6 (by omega);have d7:=f q d 7 (by omega);have d8:=f q d 8 (by omega);simp[A6,CB]at E d1 P d3 d4 d5 d6 d7 d8;rw[AH]at P;have HT:=Ab T;clear f s AR AH T;(have n:nc (Kw a a[q]=K->(a.take (q+1)).any (Kw a)=K):=by intro h;rw[Do _ _ q d R.out];exact h);have o:nc (Kw a a[q]=jj->Ee b a=(a[q].1.at_:Int)):=by
      intro h;unfold Ee;rw[mJ (by rw[HH.out];exact oV),F8 _ _ q d R.out h]
     have Go:Z (AG a[q])<=1000000:=by
      have:=l.out.2.2.2 a[q] (mw d);unfold AG;split<;>simp<;>omega
     (go_wp2_with fail);refine HT.mono ?_;rintro e t ⟨tv,rfl,AB,EX⟩;have I:=u.trans EX;have s:=Ad l.out.2.1 I;obtain⟨g',BA,r,_,f⟩:=AC s (λc _=>B6 c) q d;simp only[mu,mB,nr]at r;obtain⟨⟨rfl,_,_⟩,_,rfl⟩:=r;have e8:=f q d 8 (by omega);simp[A6,CB]at e8;have M:nc (oi t 0 95 9 (U (V ⟨g,0,Y⟩) (Z a) ES) (Z a) (a.flatMap A6)/\(∀p∈a,Cd t 0 p)):=⟨s,λp B=>(l.out.2.2.1 p B).kept I⟩;clear f s E d1 P d3 d4 d5 d6 d7 d8 HT EX u;obtain⟨HX,HW,rfl⟩:=Al AB;have HO:=Ab AB;clear AB;obtain⟨j,Ax⟩:=rd (AG a[q]);rw[Ax]at HO Go⊢;have EK:=Ab Ax;clear Ax;go_wp2_with fail
     go_loop [9] (λi=>∃m:Nat,i=X J m/\m<=Z j/\nc ((j.take m).any (Db a)=K)) (λi=>Z j-(intOf i).toNat)
     case atStart=>exact⟨0,rfl,mO _,by show _=_;simp⟩
     case round=>
      obtain⟨m,rfl,hm,HM⟩:=hrel;by_cases H:m<Z j
      .obtain⟨ga,HJ,B9,HF,E0⟩:=AC HO (λc _=>F5 c) m H;simp only[mu]at B9;obtain⟨rfl,_,rfl⟩:=B9;have f0:=E0 m H 0 (by omega);simp[AQ]at f0;clear E0;have y:((j[m].v.toNat:Int)==0)=(j[m].v==0):=Cy _ 0;(have z:nc (Db a j[m]=K->(j.take (m+1)).any (Db a)=K):=by intro h;rw[Do _ _ m H HM.out];exact h);(have G:nc (Db a j[m]=jj->Ee b a=(a[q].1.at_:Int)):=by intro h;exact o.out (by unfold Kw;rw[Aa EK];exact K0 _ _ m H h));cases hz:(j[m].v==0)with
       |true=>
        rw[hz]at y;have S:=Ab (z.out (by simp[Db,hz]));clear hz z G n o;go_wp2_with fail
        go_round
        case rel=>exact⟨m+1,by go_num,by omega,S⟩
        case measure=>simp[intOf];omega
       |false=>
        rw[hz]at y;cases hbd:Ls a j[m].v with
        |true=>
         have S:=Ab (z.out (by simp[Db,hbd]));clear hz z G n o;go_wp2_with (go_at_call 132;refine(Mc _ a _ j[m].v _ rfl M.out.1 M.out.2 D l.out.2.2.2).mono ?_;rintro e t ⟨rfl,rfl⟩;rw[hbd])
         go_round
         case rel=>exact⟨m+1,by go_num,by omega,S⟩
         case measure=>simp[intOf];omega
        |false=>
         have FB:=Ab (G.out (by simp[Db,hbd,hz]));clear hz z G n o;go_wp2_with (go_at_call 132;refine(Mc _ a _ j[m].v _ rfl M.out.1 M.out.2 D l.out.2.2.2).mono ?_;rintro e t ⟨rfl,rfl⟩;rw[hbd])
         go_ret;rw[Aa FB];exact⟨rfl,I⟩
      .have C:=Ab (n.out (by unfold Kw;rw[Aa EK];have h:=HM.out;rwa [mz (by omega)]at h));clear n o;go_wp2_with fail
       go_roundw
       case rel=>exact⟨q+1,by go_num,by omega,C,I⟩
       case measure=>simp[intOf];omega
    .have HE:nc (Ee b a= -1):=by
      have h:=R.out;rw[mz (by omega)]at h;show _=_;unfold Ee;rw[mJ (by rw[HH.out];exact oV)];have:a.find? (Kw a)=Y:=by
       rw[oM];intro x hx hf;(have:a.any (Kw a)=jj:=by rw[nX];exact⟨x,hx,hf⟩);rw[h]at this;cases this
      rw[this]
     (go_wp2_with fail);go_ret;rw[HE.out];exact⟨rfl,u⟩
def Gv(a b:zA):Bool:=
 if Ap (CN a 0) !=Ap (CN b 0)then Ap (CN a 0)
 else if Ap (CN a 0)&&a.size !=b.size then decide (a.size<b.size)else qZ a.toList b.toList
set_option maxRecDepth 512
theorem OF(a b:zA)(w:ly)(l:0<a.size)(n:0<b.size)(p:a.size<=1000000)(q:b.size<=1000000):
  Calls prog 86 #[O a,O b] w λe k=>e=kt (q8 (Gv a b))/\k=w:=by
 have j:CN a 0=a[0]:=by simp[CN,l]
 have i:CN b 0=b[0]:=by simp[CN,n]
 obtain⟨R,c⟩:=rd (Gv a b);rw[c];unfold Gv at c;rw[j,i]at c;have r:(0:Int)<(a.size:Int):=by omega
 have o:(0:Int)<(b.size:Int):=by omega
 clear j i;cases hx:Ap a[0] with
 |true=>
  cases hy:Ap b[0] with
  |true=>
   rw[hx,hy]at c;by_cases h:a.size=b.size
   ·(have g:(a.size !=b.size)=K:=by simp[h]);(have m:((a.size:Int) !=(b.size:Int))=K:=by simp[h]);(have f:nc (qZ a.toList b.toList=R):=by show _=_;rw[<-c,g];rfl);clear c g h;go_enter func86,ntmps86;(go_wp2_with fail);refine(CO _ a[0] _ rfl).mono ?_;rintro e d ⟨rfl,rfl⟩;rw[hx];(go_wp2_with fail);refine(CO _ b[0] _ rfl).mono ?_;rintro e d ⟨rfl,rfl⟩;rw[hy];go_wp2;go_ret;exact⟨By f.out,rfl⟩
   ·(have g:(a.size !=b.size)=jj:=by simp[h]);(have m:((a.size:Int) !=(b.size:Int))=jj:=by simp;omega);(have f:nc (decide (a.size<b.size)=R):=by show _=_;rw[<-c,g];rfl);clear c g h;go_enter func86,ntmps86;(go_wp2_with fail);refine(CO _ a[0] _ rfl).mono ?_;rintro e d ⟨rfl,rfl⟩;rw[hx];(go_wp2_with fail);refine(CO _ b[0] _ rfl).mono ?_;rintro e d ⟨rfl,rfl⟩;rw[hy];go_wp2;go_ret;exact⟨By f.out,rfl⟩
  |false=>
   rw[hx,hy]at c;(have f:nc (jj=R):=by show _=_;rw[<-c];rfl);clear c;go_enter func86,ntmps86;(go_wp2_with fail);refine(CO _ a[0] _ rfl).mono ?_;rintro e d ⟨rfl,rfl⟩;rw[hx];(go_wp2_with fail);refine(CO _ b[0] _ rfl).mono ?_;rintro e d ⟨rfl,rfl⟩;rw[hy];go_wp2;go_ret;exact⟨By f.out,rfl⟩
 |false=>
  cases hy:Ap b[0] with
  |true=>
   rw[hx,hy]at c;(have f:nc (K=R):=by show _=_;rw[<-c];rfl);clear c;go_enter func86,ntmps86;(go_wp2_with fail);refine(CO _ a[0] _ rfl).mono ?_;rintro e d ⟨rfl,rfl⟩;rw[hx];(go_wp2_with fail);refine(CO _ b[0] _ rfl).mono ?_;rintro e d ⟨rfl,rfl⟩;rw[hy];go_wp2;go_ret;exact⟨By f.out,rfl⟩
  |false=>
   rw[hx,hy]at c;(have f:nc (qZ a.toList b.toList=R):=by show _=_;rw[<-c];rfl);clear c;go_enter func86,ntmps86;(go_wp2_with fail);refine(CO _ a[0] _ rfl).mono ?_;rintro e d ⟨rfl,rfl⟩;rw[hx];(go_wp2_with fail);refine(CO _ b[0] _ rfl).mono ?_;rintro e d ⟨rfl,rfl⟩;rw[hy];go_wp2;go_ret;exact⟨By f.out,rfl⟩
def DA(x:zA)(a:rc zA×Bool)(y:zA):rc zA×Bool:=if !a.2&&Gv x y then(a.1++[x]++[y],jj)else(a.1++[y],a.2)
def Oo(l:rc zA)(x:zA):rc zA×Bool:=l.foldl (DA x) ([],K)
def Jg(l:rc zA)(x:zA):rc zA:=if(Oo l x).2 then(Oo l x).1 else(Oo l x).1++[x]
def cn(a:k<Z e)(x:zA):Oo (e.take (k+1)) x=DA x (Oo (e.take k) x) e[k]:=by
 unfold Oo;rw[mx a,nH];rfl
def WQ(x:zA)(a:rc zA×Bool)(y:zA):Z (DA x a y).1+a.2.toNat=Z a.1+1+(DA x a y).2.toNat:=by
 obtain⟨o,d⟩:=a;unfold DA;cases d<;>cases Gv x y<;>simp
def P1(x:zA):∀(l:rc zA) (a:rc zA×Bool),Z (l.foldl (DA x) a).1+a.2.toNat=Z a.1+Z l+(l.foldl (DA x) a).2.toNat
 |[],a=>by simp only[List.foldl_nil,m8,qk]
 |y::l,a=>by
  have h:=P1 x l (DA x a y);have b:=WQ x a y;simp only[nh,mL];omega
def OL(l:rc zA)(x:zA):Z (Oo l x).1=Z l+(Oo l x).2.toNat:=by
 have h:=P1 x l ([],K);simp only[m8,qu]at h;unfold Oo;omega
def Pn(l:rc zA)(x:zA):Z (Jg l x)=Z l+1:=by
 have h:=OL l x;unfold Jg;cases hd:(Oo l x).2<;>simp[hd]at h⊢<;>omega
set_option maxRecDepth 100000
theorem eW(lv:ml)(l:rc zA)(x:zA)(B0:Nat)(w:ly)(hl:oi w B0 9 1 lv (Z l) (l.flatMap Ai))(FT:Z l<=1000000)(hx:0<x.size/\x.size<=1000000)(u:∀y∈l,0<y.size/\y.size<=1000000):
  Calls prog 171 #[lv,O x] w λe w'=>∃v,e=kt v/\oi w' w.heap.size 9 1 v (Z (Jg l x)) ((Jg l x).flatMap Ai)/\Ac [] w w':=by
 obtain⟨F,D,B,E,G⟩:=nC Tryz.zs;obtain⟨ad,EY,rfl⟩:=Al hl;have HR:nc (oi w B0 9 1 (U ad (Z l) EY) (Z l) (l.flatMap Ai)/\(∀y∈l,0<y.size/\y.size<=1000000)):=⟨hl,u⟩;clear hl u;have FL:∀(x:Bool) (w:ly),(Op.unary .not (q8 x)).run prog w=.ok (q8 (!x)) w:=λ_ _=>rfl
 go_enter func171,ntmps171;go_wp2
 go_loopw [5,6,7] (λo d i wr=>∃(k:Nat) (a:rc zA) (j:Bool),i=X J k/\k<=Z l/\d=q8 j/\nc (Oo (l.take k) x=(a,j))/\Z a<=k+1/\oi wr w.heap.size 9 1 o (Z a) (a.flatMap Ai)/\Ac [] w wr) (λ_ _ i _=>Z l-(intOf i).toNat)
 case atStart=>exact⟨0,[],K,rfl,mO _,rfl,by show _=_;simp[Oo],by simp,mS _ _ _ _,re _ _⟩
 case round=>
  obtain⟨k,a,j,rfl,hk,rfl,S,FB,f,m⟩:=hrel;obtain⟨L,H,rfl⟩:=Al f;have W:=m.size;by_cases z:k<Z l
  .obtain⟨g,EM,N,hc,T⟩:=AC (Ad HR.out.1 m) (λc _=>rfl) k z;simp only[mu]at N;obtain⟨rfl,_,rfl⟩:=N;have A:=T k z 0 (by omega);simp[Ai]at A;clear T;have AB:=HR.out.2 l[k] (mw z);(have HS:nc (Oo (l.take (k+1)) x=DA x (a,j) l[k]):=by show _=_;rw[cn z,S.out]);cases b:(!j&&Gv x l[k])with
   |true=>
    (have ES:j=K:=by cases j<;>simp_all);subst ES;(have u:Gv x l[k]=jj:=by simpa using b);have FC:Z a<=k:=by
     have h:=OL (l.take k) x;rw[S.out]at h;simp only[nu,qu]at h;omega
    (have AO:nc (Oo (l.take (k+1)) x=(a++[x]++[l[k]],jj)):=by show _=_;rw[HS.out];simp[DA,u]);have CW:∀{n:ly} {o:Obj},(wr.alloc o).grownBy n (U L (Z a) H).ownBlock->oa n ⟨g,k,Y⟩=V (O l[k]):=by
     intro n o FA;have EK:=(m.alloc o).grown FA (λq b=>lx (f.lt q b).1);obtain⟨g',EM,N,_,T⟩:=AC (Ad HR.out.1 EK) (λc _=>rfl) k z;simp only[mu,mB,nr]at N;obtain⟨⟨rfl,_,_⟩,_,rfl⟩:=N;have A:=T k z 0 (by omega);simpa[Ai] using A
    clear HS b;(go_wp2_with fail);refine(OF x l[k] _ hx.1 AB.1 hx.2 AB.2).mono ?_;rintro e w0 ⟨rfl,P⟩;rw[u,P];clear P w0;go_wp2_with (first|(at_builtin;refine mZ _ rfl (.tmp 24) (.tmp 26) _ rfl w.heap.size 9 F _ 1 16 underlying41 D B E G rfl (by omega) (U L (Z a) H) (Z a) (a.flatMap Ai) rfl (f.alloc _) ⟨wr.heap.size,0,Y⟩ 1 1 [O x] rfl rfl (mW (m7 wr _)) (by simp[Value.oneCell']) (by omega) (by unfold maxLen;omega) (by omega) (by simp;omega) (wr.heap.size+1) (by simp) ?_;intro g1 B9 n I r AR Bx;have d1:=CW r;have FW:wr.heap.size<=n.heap.size:=by have:=r.size;simp at this;omega)|(at_builtin;refine mZ _ rfl (.tmp 28) (.tmp 33) _ rfl w.heap.size 9 F _ 1 16 underlying41 D B E G rfl (by omega) (U (V ⟨g1,0,Y⟩) (Z a+1) B9) (Z a+1) (a.flatMap Ai++[O x]) rfl (I.alloc _) ⟨n.heap.size,0,Y⟩ 1 1 [O l[k]] rfl rfl (mW (m7 n _)) (by simp[Value.oneCell']) (by omega) (by unfold maxLen;omega) (by omega) (by simp;omega) (n.heap.size+1) (by simp) ?_;intro g2 CC R Q p M C))
    have s:Ac [] w R:=(((m.alloc _).grown r (λq b=>lx (f.lt q b).1)).alloc _).grown p (λq b=>lx (I.lt q b).1);clear CW r AR Bx p M C I d1 A f m W;go_wp2
    go_roundw
    case rel=>
     refine⟨k+1,a++[x]++[l[k]],jj,by go_num,by omega,rfl,AO,by simp;omega,?_,s⟩;simpa[Ai] using Q
    case measure=>simp[intOf];omega
   |false=>
    (have AO:nc (Oo (l.take (k+1)) x=(a++[l[k]],j)):=by show _=_;rw[HS.out];simp[DA,b]);clear HS;have BT:Z a<=k+j.toNat:=by
     have h:=OL (l.take k) x;rw[S.out]at h;simp only[nu]at h;omega
    cases j with
    |true=>
     clear b;go_wp2_with (at_builtin;refine mZ _ rfl (.tmp 28) (.tmp 33) _ rfl w.heap.size 9 F _ 1 16 underlying41 D B E G rfl (by omega) (U L (Z a) H) (Z a) (a.flatMap Ai) rfl (f.alloc _) ⟨wr.heap.size,0,Y⟩ 1 1 [O l[k]] rfl rfl (mW (m7 wr _)) (by simp[Value.oneCell']) (by omega) (by unfold maxLen;omega) (by omega) (by simp;omega) (wr.heap.size+1) (by simp) ?_;intro g2 CC R Q p M C)
     have s:Ac [] w R:=(m.alloc _).grown p (λq b=>lx (f.lt q b).1);clear p M C A f m W;go_wp2
     go_roundw
     case rel=>
      refine⟨k+1,a++[l[k]],jj,by go_num,by omega,rfl,AO,by simp;omega,?_,s⟩;simpa[Ai] using Q
     case measure=>simp[intOf];omega
    |false=>
     (have u:Gv x l[k]=K:=by simpa using b);clear b;(go_wp2_with fail);refine(OF x l[k] _ hx.1 AB.1 hx.2 AB.2).mono ?_;rintro e w0 ⟨rfl,P⟩;rw[u,P];clear P w0;go_wp2_with (at_builtin;refine mZ _ rfl (.tmp 28) (.tmp 33) _ rfl w.heap.size 9 F _ 1 16 underlying41 D B E G rfl (by omega) (U L (Z a) H) (Z a) (a.flatMap Ai) rfl (f.alloc _) ⟨wr.heap.size,0,Y⟩ 1 1 [O l[k]] rfl rfl (mW (m7 wr _)) (by simp[Value.oneCell']) (by omega) (by unfold maxLen;omega) (by omega) (by simp;omega) (wr.heap.size+1) (by simp) ?_;intro g2 CC R Q p M C)
     have s:Ac [] w R:=(m.alloc _).grown p (λq b=>lx (f.lt q b).1);clear p M C A f m W;go_wp2
     go_roundw
     case rel=>
      refine⟨k+1,a++[l[k]],K,by go_num,by omega,rfl,AO,by simp;omega,?_,s⟩;simpa[Ai] using Q
     case measure=>simp[intOf];omega
  ·(have HE:nc (Oo l x=(a,j)):=by have h:=S.out;rwa [mz (by omega)]at h);have BT:Z a<=Z l+j.toNat:=by
    have h:=OL l x;rw[HE.out]at h;simp only at h;omega
   cases j with
   |true=>
    (have HW:nc (Jg l x=a):=by show _=_;unfold Jg;rw[HE.out];rfl);go_wp2;go_ret;rw[HW.out];exact⟨_,rfl,f,m⟩
   |false=>
    (have HW:nc (Jg l x=a++[x]):=by show _=_;unfold Jg;rw[HE.out];rfl);(have FO:Z a<=Z l:=by simpa using BT);go_wp2_with (at_builtin;refine mZ _ rfl (.tmp 37) (.tmp 39) _ rfl w.heap.size 9 F _ 1 16 underlying41 D B E G rfl (by omega) (U L (Z a) H) (Z a) (a.flatMap Ai) rfl (f.alloc _) ⟨wr.heap.size,0,Y⟩ 1 1 [O x] rfl rfl (mW (m7 wr _)) (by simp[Value.oneCell']) (by omega) (by unfold maxLen;omega) (by omega) (by simp;omega) (wr.heap.size+1) (by simp) ?_;intro g1 B9 n I r AR Bx)
    have s:Ac [] w n:=(m.alloc _).grown r (λq b=>lx (f.lt q b).1);clear r AR Bx f m W;go_wp2;go_ret;rw[HW.out];refine⟨_,rfl,?_,s⟩;simpa[Ai] using I
def zb(l:rc zA)(t:AJ):rc zA:=if t.v==0&& !DY l t.s then Jg l t.s else l
def zT(l:rc zA)(ts:rc AJ):rc zA:=ts.foldl zb l
def LF(l:rc zA):Prop:=∀y∈l,0<y.size/\y.size<=1000000
def YS(ts:rc AJ):Prop:=∀t∈ts,t.v=0->0<t.s.size/\t.s.size<=1000000
def Oa(x:zA)(d:0<x.size/\x.size<=1000000):∀(l:rc zA) (a:rc zA×Bool),LF l->LF a.1->LF (l.foldl (DA x) a).1
 |[],_,_,ha=>ha
 |y::l,a,hl,ha=>by
  refine Oa x d l _ (λz b=>hl z (by simp[b])) ?_;have c:=hl y (by simp);unfold DA;split
  .intro z b;simp only[mF,my]at b;rcases b with(b|b)|b
   .exact ha z b
   .rw[b];exact d
   .rw[b];exact c
  .intro z b;simp only[mF,my]at b;rcases b with b|b
   .exact ha z b
   .rw[b];exact c
def ZK(c:LF e)(b:0<s.size/\s.size<=1000000):LF (Jg e s):=by
 have h:LF (Oo e s).1:=Oa s b e ([],K) c (by intro y d;simp at d);unfold Jg;split
 .exact h
 .intro z a;simp only[mF,my]at a;rcases a with a|a
  .exact h z a
  .rw[a];exact b
def TP{t:AJ}(a:LF e)(b:t.v=0->0<t.s.size/\t.s.size<=1000000):LF (zb e t):=by
 unfold zb;split
 .rename_i h;simp only[mV,oI]at h;exact ZK a (b h.1)
 .exact a
def eX(l:rc zA)(t:AJ):(zb l t).length<=l.length+1:=by
 unfold zb;split
 .rw[Pn];omega
 .omega
def bQ(l:rc zA){a:rc AJ}(b:k<Z a):zT l (a.take (k+1))=zb (zT l (a.take k)) a[k]:=by
 unfold zT;rw[mx b,nH];rfl
def XJ(l:rc zA)(a:rc AJ):Z (zT l a)<=Z l+Z a:=by
 unfold zT
 induction a generalizing l with
 |nil=>simp
 |cons t a ih=>
  have b:=ih (zb l t);have c:=eX l t;simp only[nh,mL];omega
def Ub{a:rc AJ}(b:LF e)(c:YS a):LF (zT e a):=by
 unfold zT
 induction a generalizing e with
 |nil=>exact b
 |cons t a ih=>exact ih (TP b (c t (by simp))) (λu d=>c u (by simp[d]))
theorem bm(L D:ml)(l:rc zA)(a:rc AJ)(d:Nat)(w:ly)(z:oi w d 9 1 L (Z l) (l.flatMap Ai))(u:oi w 0 93 2 D (Z a) (a.flatMap AQ))(A0:d<=w.heap.size)
  (Bx:Z l+Z a<=1000000) (G:LF l) (M:YS a):
  Calls prog 130 #[L,D] w λe B=>∃v,e=kt v/\oi B d 9 1 v (Z (zT l a)) ((zT l a).flatMap Ai)/\Ac [] w B:=by
 obtain⟨ad,A2,rfl⟩:=Al z;obtain⟨T,R,rfl⟩:=Al u;have t:nc (oi w 0 93 2 (U T (Z a) R) (Z a) (a.flatMap AQ)/\LF l/\YS a):=⟨u,G,M⟩;clear u G M;have A1:∀(x:Bool) (w:ly),(Op.unary .not (q8 x)).run prog w=.ok (q8 (!x)) w:=λ_ _=>rfl
 go_enter func130,ntmps130;go_wp2
 go_loopw [0,5] (λo i wr=>∃(k:Nat) (b:rc zA),i=X J k/\k<=Z a/\nc (zT l (a.take k)=b/\LF b)/\Z b<=Z l+k/\oi wr d 9 1 o (Z b) (b.flatMap Ai)/\Ac [] w wr) (λ_ i _=>Z a-(intOf i).toNat)
 case atStart=>exact⟨0,l,rfl,mO _,⟨by simp[zT],t.out.2.1⟩,by omega,z,re _ _⟩
 case round=>
  clear z;obtain⟨k,b,rfl,hk,r,AO,f,m⟩:=hrel;obtain⟨B0,BT,rfl⟩:=Al f;have BS:=m.size;by_cases j:k<Z a
  .obtain⟨g,AR,I,hc,y⟩:=AC (Ad t.out.1 m) (λc _=>F5 c) k j;simp only[mu]at I;obtain⟨rfl,_,rfl⟩:=I;have S:=y k j 0 (by omega);have Q:=y k j 1 (by omega);simp[AQ]at S Q;clear y;have H:((a[k].v.toNat:Int)==0)=(a[k].v==0):=Cy _ 0;have n:nc (zT l (a.take (k+1))=zb b a[k]/\LF (zb b a[k])):=⟨by rw[bQ l j,r.out.1],TP r.out.2 (t.out.2.2 a[k] (mw j))⟩;cases hz:(a[k].v==0)with
   |false=>
    rw[hz]at H;(have p:nc (zT l (a.take (k+1))=b/\LF b):=by have h:=n.out;simp only[zb,hz,pL,mC,if_false]at h;exact h);clear n hz;go_wp2
    go_roundw
    case rel=>exact⟨k+1,b,by go_num,by omega,p,by omega,f,m⟩
    case measure=>simp[intOf];omega
   |true=>
    rw[hz]at H;have Ax:=t.out.2.2 a[k] (mw j) (by simpa using hz);cases hh:DY b a[k].s with
    |true=>
     (have p:nc (zT l (a.take (k+1))=b/\LF b):=by have h:=n.out;simp only[zb,hz,hh,pj,pK,mC,if_false]at h;exact h);clear n hz;(go_wp2_with fail);refine(IU _ b a[k].s d _ f (by omega)).mono ?_;rintro e A ⟨rfl,q⟩;rw[hh,q];clear q A;go_wp2
     go_roundw
     case rel=>exact⟨k+1,b,by go_num,by omega,p,by omega,f,m⟩
     case measure=>simp[intOf];omega
    |false=>
     (have p:nc (zT l (a.take (k+1))=Jg b a[k].s/\LF (Jg b a[k].s)):=by have h:=n.out;simp only[zb,hz,hh,nZ,Bool.and_true,if_true]at h;exact h);have W:=Ab r.out.2;clear n hz;(go_wp2_with fail);refine(IU _ b a[k].s d _ f (by omega)).mono ?_;rintro e A ⟨rfl,q⟩;rw[hh,q];clear q A;(go_wp2_with fail);refine(eW _ b a[k].s d _ f (by omega) Ax W).mono ?_;rintro e w2 ⟨v2,rfl,E,F⟩;have N:=m.trans F;have AB:=Ak (base':=d) E (by omega);have C:=Pn b a[k].s;have P:=Ab C;clear E F C;go_wp2
     go_roundw
     case rel=>exact⟨k+1,Jg b a[k].s,by go_num,by omega,p,by rw[Aa P];omega,AB,N⟩
     case measure=>simp[intOf];omega
  ·(have HE:nc (zT l a=b):=by have h:=r.out.1;rwa [mz (by omega)]at h);go_wp2;go_ret;rw[HE.out];exact⟨_,rfl,f,m⟩
structure Hu(c:AV):Prop where
 body:Z c.bl<=3
 args:Z c.head.args<=2
 lits:∀p∈c.bl,Z p.1.A.args<=2
structure d9(c:AV):Prop where
 head:YS c.head.args
 body:∀p∈c.bl,YS (AG p)
def Ed(l:rc zA)(x:zA):rc zA:=if DY l x then l else l++[x]
def zF(l:rc zA)(p:Bb):rc zA:=if MP p then Ed l p.1.A.name else l
def Qz(l:rc zA)(c:AV):rc zA:=c.bl.foldl zF (Ed l c.head.name)
def EO(cs:rc AV):rc zA:=cs.foldl Qz []
def VG(l:rc zA)(p:Bb):rc zA:=zT l (AG p)
def La(l:rc zA)(c:AV):rc zA:=c.bl.foldl VG (zT l c.head.args)
def Bj(cs:rc AV):rc zA:=cs.foldl La []
def E6{α β:Type}(f:β->α->β)(b:β){l:rc α}(a:k<Z l):(l.take (k+1)).foldl f b=f ((l.take k).foldl f b) l[k]:=by
 rw[mx a,nH];rfl
theorem R6(pb:Nat)(lv:ml)(a:rc AV)(w:ly)(hP:AI w pb [lv] 76)(hR:CF w lv a)(HS:Z a<=12)(n:∀c∈a,Hu c)(s:∀c∈a,d9 c):
  Calls prog 83 #[j3 (V ⟨pb,0,Y⟩)] w λe w'=>∃v,e=kt v/\oi w' w.heap.size 9 1 v (Z (Bj a)) ((Bj a).flatMap Ai)/\Ac [] w w':=by
 obtain⟨ad,HL,rfl⟩:=Al hR.row;have H:nc (CF w (U ad (Z a) HL) a/\(∀c∈a,Hu c)/\(∀c∈a,d9 c)):=⟨hR,n,s⟩;clear hR n s;go_enter func83,ntmps83;go_wp2
 go_loopw [3,4] (λo i wr=>∃(k:Nat) (f:rc zA),i=X J k/\k<=Z a/\nc ((a.take k).foldl La []=f/\LF f)/\Z f<=8*k/\oi wr w.heap.size 9 1 o (Z f) (f.flatMap Ai)/\Ac [] w wr) (λ_ i _=>Z a-(intOf i).toNat)
 case atStart=>exact⟨0,[],rfl,mO _,⟨by simp,by intro y hy;simp at hy⟩,by simp,mS _ _ _ _,re _ _⟩
 case round=>
  obtain⟨k,f,rfl,hk,D,H0,G,t⟩:=hrel;obtain⟨JJ,JA,rfl⟩:=Al G;have x:=(hP.kept t).cell 0;simp at x;have BA:=t.size;by_cases l:k<Z a
  .have L:=H.out.1.kept t;obtain⟨g,H1,he,hc,CL⟩:=AC L.row (λc _=>B8 c) k l;simp only[mu]at he;obtain⟨rfl,_,rfl⟩:=he;have AT:=CL k l 1 (by omega);simp[Cb]at AT;have q:=L.each a[k] (mw l);have n:=H.out.2.1 a[k] (mw l);have s:=H.out.2.2 a[k] (mw l);obtain⟨KA,IJ,AO⟩:=Al q.args;obtain⟨HJ,HC,ES⟩:=Al q.body;rw[AO]at AT;have FT:nc (a[k].bv=U HJ a[k].bl.length HC):=ES;have A:=bm _ _ f a[k].head.args w.heap.size _ G q.args BA (by have:=n.args;omega) D.out.2 s.head;rw[AO]at A;have HA:=Ab A;have H9:=n.args;have HU:=n.body;have z:nc (Hu a[k]/\d9 a[k]):=⟨n,s⟩;clear CL L q AO ES A n s;(go_wp2_with fail);refine HA.mono ?_;rintro e w1 ⟨v1,rfl,E,B0⟩;have A0:=t.trans B0;have M:=Ab (XJ f a[k].head.args);obtain⟨p,F⟩:=rd (zT f a[k].head.args);rw[F]at E M;have BT:nc (zT f a[k].head.args=p/\LF p):=⟨F,by rw[<-F];exact Ub D.out.2 z.out.2.head⟩;(have HO:Z p<=8*k+2:=by have:=Aa M;omega);obtain⟨KD,H8,rfl⟩:=Al E;clear AT x G t BA B0 F M HA;go_wp2
   go_loopw [3,5] (λo i R=>∃(m:Nat) (d:rc zA),i=X J m/\m<=a[k].bl.length/\nc ((a[k].bl.take m).foldl VG p=d/\LF d)/\Z d<=8*k+2+2*m/\oi R w.heap.size 9 1 o (Z d) (d.flatMap Ai)/\Ac [] w R) (λ_ i _=>a[k].bl.length-(intOf i).toNat)
   case atStart=>exact⟨0,p,rfl,mO _,⟨by simp,BT.out.2⟩,by omega,E,A0⟩
   case round=>
    rename_i R _;clear E A0;obtain⟨m,d,rfl,hm,u,H5,B,r⟩:=hrel;obtain⟨H7,HN,rfl⟩:=Al B;have x:=(hP.kept r).cell 0;simp at x;have KS:=r.size;have AB:=H.out.1.kept r;obtain⟨g2,HN,FW,_,EY⟩:=AC AB.row (λc _=>B8 c) k l;simp only[mu,mB,nr]at FW;obtain⟨⟨rfl,_,_⟩,_,rfl⟩:=FW;have P:=EY k l 3 (by omega);simp[Cb]at P;rw[FT.out]at P;have q:=AB.each a[k] (mw l);clear EY AB;by_cases b:m<a[k].bl.length
    .obtain⟨gb,HV,N,Ix,j⟩:=AC q.body (λc _=>B6 c) m b;rw[FT.out]at N;simp only[mu]at N;obtain⟨rfl,_,rfl⟩:=N;have S:=q.lits a[k].bl[m] (mw b);obtain⟨KK,H6,Ax⟩:=Al S;have T:=T8 a[k].bl[m] _ S;simp only[A6,CB,Ax]at T;have d0:=j m b 0 (by omega);have d1:=j m b 1 (by omega);have I:=j m b 2 (by omega);have d3:=j m b 3 (by omega);have d4:=j m b 4 (by omega);have d5:=j m b 5 (by omega);have d6:=j m b 6 (by omega);have d7:=j m b 7 (by omega);have d8:=j m b 8 (by omega);simp[A6,CB]at d0 d1 I d3 d4 d5 d6 d7 d8;rw[Ax]at I;have HT:=Ab T;clear j S Ax q T;have IS:Z (AG a[k].bl[m])<=2:=by
      have:=z.out.1.lits a[k].bl[m] (mw b);unfold AG;split
      .exact this
      .simp
     (go_wp2_with fail);refine HT.mono ?_;rintro e w2 ⟨tv,rfl,EX,AH⟩;have Q:=r.trans AH;have CW:=Ad B AH;have HH:=Q.size;clear d0 d1 I d3 d4 d5 d6 d7 d8 HT x P;(go_wp2_with fail);refine(bm _ _ d (AG a[k].bl[m]) w.heap.size _ CW EX HH (by omega) u.out.2 (z.out.2.body _ (mw b))).mono ?_;rintro e w3 ⟨v3,rfl,B9,EM⟩;have HD:=Q.trans EM;have W:=Ab (XJ d (AG a[k].bl[m]));have FP:nc ((a[k].bl.take (m+1)).foldl VG p=zT d (AG a[k].bl[m])/\LF (zT d (AG a[k].bl[m]))):=
      ⟨by rw[E6 _ _ b,u.out.1];rfl,Ub u.out.2 (z.out.2.body _ (mw b))⟩
     obtain⟨C,FO⟩:=rd (zT d (AG a[k].bl[m]));rw[FO]at B9 W FP;(have Ha:Z C<=8*k+2+2*(m+1):=by have:=Aa W;omega);clear r B CW EX AH EM Q FO W;go_wp2
     go_roundw
     case rel=>exact⟨m+1,C,by go_num,by omega,FP,Ha,B9,HD⟩
     case measure=>simp[intOf];omega
    .have HZ:nc ((a.take (k+1)).foldl La []=d/\LF d):=by
      have h:=u.out.1;rw[mz (by omega)]at h;refine⟨?_,u.out.2⟩;rw[E6 _ _ l,D.out.1,<-h];unfold La;rw[BT.out.1]
     go_wp2
     go_roundw
     case rel=>exact⟨k+1,d,by go_num,by omega,HZ,by omega,B,r⟩
     case measure=>simp[intOf];omega
  ·(have HE:nc (Bj a=f):=by have h:=D.out.1;rwa [mz (by omega)]at h);go_wp2;go_ret;rw[HE.out];exact⟨_,rfl,G,t⟩
def Xa(w:ly)(o:Obj)(a:Array ml)(t:TypeId)(l:rc ml)(b:l=a.toList):∀j u,l[j]?=V u->oa ((w.alloc o).alloc (j1 a t)) ((⟨w.heap.size+1,0,Y⟩:Addr).add j)=V u:=by
 subst b;have h:=m7 (w.alloc o) (j1 a t);rw[m9]at h;exact mW h
theorem dM(pb:Nat)(lv:ml)(cs:rc AV)(w:ly)(hP:AI w pb [lv] 76)(hR:CF w lv cs)(H6:Z cs<=12)(I:∀c∈cs,Hu c):
  Calls prog 22 #[j3 (V ⟨pb,0,Y⟩)] w λe w'=>∃v,e=kt v/\oi w' w.heap.size 9 1 v (Z (EO cs)) ((EO cs).flatMap Ai)/\Ac [] w w':=by
 obtain⟨i0,EX,AT,FB,CW⟩:=nC Tryz.zs;obtain⟨ad,HY,rfl⟩:=Al hR.row;have HR:nc (CF w (U ad (Z cs) HY) cs/\(∀c∈cs,Hu c)):=⟨hR,I⟩;clear hR I;have KD:∀(x:Bool) (w:ly),(Op.unary .not (q8 x)).run prog w=.ok (q8 (!x)) w:=λ_ _=>rfl
 go_enter func22,ntmps22;go_wp2
 go_loopw [3,4] (λo i wr=>∃(k:Nat) (a:rc zA),i=X J k/\k<=Z cs/\nc ((cs.take k).foldl Qz []=a)/\Z a<=4*k/\oi wr w.heap.size 9 1 o (Z a) (a.flatMap Ai)/\Ac [] w wr) (λ_ i _=>Z cs-(intOf i).toNat)
 case atStart=>exact⟨0,[],rfl,mO _,by show _=_;simp,by simp,mS _ _ _ _,re _ _⟩
 case round=>
  obtain⟨k,a,rfl,hk,HF,Ix,r,z⟩:=hrel;obtain⟨FO,FC,rfl⟩:=Al r;have P:=(hP.kept z).cell 0;simp at P;have HD:=z.size;by_cases n:k<Z cs
  .have S:=HR.out.1.kept z;obtain⟨g,IA,he,hc,A2⟩:=AC S.row (λc _=>B8 c) k n;simp only[mu]at he;obtain⟨rfl,_,rfl⟩:=he;have B0:=A2 k n 0 (by omega);simp[Cb]at B0;have F:=S.each cs[k] (mw n);have I:=HR.out.2 cs[k] (mw n);obtain⟨HU,HL,B2⟩:=Al F.body;have FL:nc (cs[k].bv=U HU cs[k].bl.length HL):=B2;have H7:=I.body;clear A2 S F B2 I;(have H1:∀(b:rc zA) (v1:ml) (E:ly),nc (Ed a cs[k].head.name=b)->Z b<=4*k+1->oi E w.heap.size 9 1 v1 (Z b) (b.flatMap Ai)->Ac [] w E->True:=λ_ _ _ _ _ _ _=>trivial);clear H1;cases hh:DY a cs[k].head.name
   case' true=>
    (have C:nc (Ed a cs[k].head.name=a):=by show _=_;simp[Ed,hh]);(go_wp2_with fail);refine(IU _ a cs[k].head.name w.heap.size _ r (by omega)).mono ?_;rintro e B ⟨rfl,j⟩;rw[hh,j];clear j B hh;have y:=r;have Q:=z;(have H:Z a<=4*k+1:=by omega);go_wp2;obtain⟨b,C,y,H⟩:∃b,nc (Ed a cs[k].head.name=b)/\oi wr w.heap.size 9 1 (U FO (Z a) FC) (Z b) (b.flatMap Ai)/\Z b<=4*k+1:=⟨a,C,y,H⟩
   case' false=>
    (have C:nc (Ed a cs[k].head.name=a++[cs[k].head.name]):=by show _=_;simp[Ed,hh]);(go_wp2_with fail);refine(IU _ a cs[k].head.name w.heap.size _ r (by omega)).mono ?_;rintro e B ⟨rfl,j⟩;rw[hh,j];clear j B hh;go_wp2_with (at_builtin;refine mZ _ rfl (.tmp 28) (.tmp 38) _ rfl w.heap.size 9 i0 _ 1 16 underlying41 EX AT FB CW rfl (by omega) (U FO (Z a) FC) (Z a) (a.flatMap Ai) rfl (r.alloc _) ⟨wr.heap.size,0,Y⟩ 1 1 [O cs[k].head.name] rfl rfl (mW (m7 wr _)) (by simp[Value.oneCell']) (by omega) (by unfold maxLen;omega) (by omega) (by simp;omega) (wr.heap.size+1) (by simp) ?_;intro g1 A1 E DT Bx FW HI)
    have Q:Ac [] w E:=(z.alloc _).grown Bx (λq W=>lx (r.lt q W).1);(have y:oi E w.heap.size 9 1 (U (V ⟨g1,0,Y⟩) (Z a+1) A1) (Z (a++[cs[k].head.name])) ((a++[cs[k].head.name]).flatMap Ai):=by simpa[Ai] using DT);(have H:Z (a++[cs[k].head.name])<=4*k+1:=by simp;omega);clear Bx FW HI DT;go_wp2;obtain⟨b,C,y,H⟩:∃b,nc (Ed a cs[k].head.name=b)/\oi E w.heap.size 9 1 (U (V ⟨g1,0,Y⟩) (Z a+1) A1) (Z b) (b.flatMap Ai)/\Z b<=4*k+1:=⟨_,C,y,H⟩
   all_goals
    clear B0 P r z HD
    go_loopw [3,5] (λo i wq=>∃(m:Nat) (d:rc zA),i=X J m/\m<=cs[k].bl.length/\nc ((cs[k].bl.take m).foldl zF b=d)/\Z d<=4*k+1+m/\oi wq w.heap.size 9 1 o (Z d) (d.flatMap Ai)/\Ac [] w wq) (λ_ i _=>cs[k].bl.length-(intOf i).toNat)
    case atStart=>exact⟨0,b,rfl,mO _,by show _=_;simp,by omega,y,Q⟩
    case round=>
     clear y Q;obtain⟨m,d,rfl,hm,HM,KA,N,u⟩:=hrel;obtain⟨HT,H0,rfl⟩:=Al N;have P:=(hP.kept u).cell 0;simp at P;have K2:=u.size;have Ax:=HR.out.1.kept u;obtain⟨g2,Jx,FP,_,CC⟩:=AC Ax.row (λc _=>B8 c) k n;simp only[mu,mB,nr]at FP;obtain⟨⟨rfl,_,_⟩,_,rfl⟩:=FP;have BT:=CC k n 3 (by omega);simp[Cb]at BT;rw[FL.out]at BT;have F:=Ax.each cs[k] (mw n);clear CC Ax;by_cases f:m<cs[k].bl.length
     .obtain⟨gb,H8,T,KS,l⟩:=AC F.body (λc _=>B6 c) m f;rw[FL.out]at T;simp only[mu]at T;obtain⟨rfl,_,rfl⟩:=T;have hl:=F.lits cs[k].bl[m] (mw f);obtain⟨H3,HQ,FA⟩:=Al hl;have d0:=l m f 0 (by omega);have d1:=l m f 1 (by omega);have d2:=l m f 2 (by omega);have d3:=l m f 3 (by omega);have d4:=l m f 4 (by omega);have d5:=l m f 5 (by omega);have d6:=l m f 6 (by omega);have d7:=l m f 7 (by omega);have d8:=l m f 8 (by omega);simp[A6,CB]at d0 d1 d2 d3 d4 d5 d6 d7 d8;rw[FA]at d2;clear l hl FA F;(have D:nc ((cs[k].bl.take (m+1)).foldl zF b=zF d cs[k].bl[m]):=by show _=_;rw[E6 _ _ f,HM.out]);have G:=N.alloc (j1 #[X .u8 cs[k].bl[m].1.kind.toNat,O cs[k].bl[m].1.A.name,U H3 cs[k].bl[m].1.A.args.length HQ,X J cs[k].bl[m].1.A.at_,X .u8 cs[k].bl[m].1.L.v.toNat,O cs[k].bl[m].1.L.s,X .u8 cs[k].bl[m].1.R.v.toNat,O cs[k].bl[m].1.R.s,X J cs[k].bl[m].1.at_] 95);rcases E9 cs[k].bl[m] with⟨k1,p⟩|⟨k1,k2,p⟩|⟨k1,k2,p⟩
      rotate_right 1
      ·(have M:nc ((cs[k].bl.take (m+1)).foldl zF b=d):=by show _=_;rw[D.out];simp[zF,p]);clear D p;go_wp2
       go_roundw
       case rel=>exact⟨m+1,d,by go_num,by omega,M,by omega,G,u.alloc _⟩
       case measure=>simp[intOf];omega
      all_goals
       cases hh2:DY d cs[k].bl[m].1.A.name with
       |true=>
        (have M:nc ((cs[k].bl.take (m+1)).foldl zF b=d):=by show _=_;rw[D.out];simp[zF,Ed,p,hh2]);clear D p;(go_wp2_with fail);refine(IU _ d cs[k].bl[m].1.A.name w.heap.size _ G (by omega)).mono ?_;rintro e B ⟨rfl,j⟩;rw[hh2,j];clear j B hh2;go_wp2
        go_roundw
        case rel=>exact⟨m+1,d,by go_num,by omega,M,by omega,G,u.alloc _⟩
        case measure=>simp[intOf];omega
       |false=>
        (have M:nc ((cs[k].bl.take (m+1)).foldl zF b=d++[cs[k].bl[m].1.A.name]):=by show _=_;rw[D.out];simp[zF,Ed,p,hh2]);clear D p;(go_wp2_with fail);refine(IU _ d cs[k].bl[m].1.A.name w.heap.size _ G (by omega)).mono ?_;rintro e B ⟨rfl,j⟩;rw[hh2,j];clear j B hh2;go_wp2_with (at_builtin;refine mZ _ rfl (.tmp 80) (.tmp 84) _ rfl w.heap.size 9 i0 _ 1 16 underlying41 EX AT FB CW rfl (by omega) (U HT (Z d) H0) (Z d) (d.flatMap Ai) rfl (G.alloc _) ⟨wr.heap.size+1,0,Y⟩ 1 1 [O cs[k].bl[m].1.A.name] rfl rfl (Xa wr _ _ _ _ rfl) (by simp[Value.oneCell']) (by omega) (by unfold maxLen;omega) (by omega) (by simp;omega) (wr.heap.size+2) (by simp) ?_;intro g5 KK w5 Go FT HC HX)
        have H4:Ac [] w w5:=((u.alloc _).alloc _).grown FT (λq W=>lx (N.lt q W).1);clear FT HC HX;go_wp2
        go_roundw
        case rel=>
         refine⟨m+1,d++[cs[k].bl[m].1.A.name],by go_num,by omega,M,by simp;omega,?_,H4⟩;simpa[Ai] using Go
        case measure=>simp[intOf];omega
     .have HZ:nc ((cs.take (k+1)).foldl Qz []=d):=by
       have h:=HM.out;rw[mz (by omega)]at h;show _=_;rw[E6 _ _ n,HF.out,<-h];unfold Qz;rw[C.out]
      go_wp2
      go_roundw
      case rel=>exact⟨k+1,d,by go_num,by omega,HZ,by omega,N,u⟩
      case measure=>simp[intOf];omega
  ·(have HE:nc (EO cs=a):=by have h:=HF.out;rwa [mz (by omega)]at h);go_wp2;go_ret;rw[HE.out];exact⟨_,rfl,r,z⟩
def OI(x:zA)(l:rc zA)(c:AV):rc zA:=if c.head.name.toList==x.toList then c.bl.foldl zF l else l
def Oz(cs:rc AV)(l:rc zA)(x:zA):rc zA:=cs.foldl (OI x) l
def DD(cs:rc AV):rc zA:=cs.flatMap λc=>(c.bl.filter MP).map λp=>p.1.A.name
def Rb(cs:rc AV)(l:rc zA):Nat:=(DD cs).countP λx=> !DY l x
def Bd(cs:rc AV)(l:rc zA):Prop:=Z l+Rb cs l<=1+Z (DD cs)
def Lp:Nat->rc AV->zA->rc zA->Nat->Bool
 |0,_,_,_,_=>K
 |f+1,cs,to,l,n=>if h:n<Z l then(if l[n].toList==to.toList then jj else Lp f cs to (Oz cs l l[n]) (n+1))else K
def IC(cs:rc AV)(frm to:zA):Bool:=Lp (2+Z (DD cs)) cs to [frm] 0
def Qg(l:rc zA)(x:zA):∀(m:rc zA),(m.countP λy=> !DY (l++[x]) y)<=m.countP λy=> !DY l y
 |[]=>by simp
 |y::m=>by
  have ih:=Qg l x m;simp only[List.countP_cons];have:(!DY (l++[x]) y)=jj->(!DY l y)=jj:=by
   rw[Mv];cases DY l y<;>simp
  cases h1:(!DY (l++[x]) y)with
  |true=>simp only[this h1,if_true];omega
  |false=>simp only[mC,if_false];omega
def Ks(l:rc zA)(x:zA)(b:DY l x=K):∀(m:rc zA),x∈m->(m.countP λy=> !DY (l++[x]) y)+1<=m.countP λy=> !DY l y
 |[],h=>by simp at h
 |y::m,h=>by
  simp only[List.countP_cons];by_cases c:y=x
  .subst c;have a:=Qg l y m;(have d:DY (l++[y]) y=jj:=by rw[Mv];simp);simp only[d,b,pj,nZ,if_true,mC,if_false];omega
  .have ih:=Ks l x b m (by rcases mA.1 h with h|h;exact absurd h.symm c;exact h);have:(!DY (l++[x]) y)=jj->(!DY l y)=jj:=by
    rw[Mv];cases DY l y<;>simp
   cases a:(!DY (l++[x]) y)with
   |true=>simp only[this a,if_true];omega
   |false=>simp only[mC,if_false];omega
def fT{a:rc AV}{c:AV}{p:Bb}(i:c∈a)(b:p∈c.bl)(h:Bd a e):Bd a (zF e p):=by
 unfold zF Ed;split
 .rename_i g;split
  .exact h
  .rename_i j;(have f:DY e p.1.A.name=K:=by simpa using j);have d:p.1.A.name∈DD a:=by
    unfold DD;rw[m6];exact⟨c,i,mD.2 ⟨p,mT.2 ⟨b,g⟩,rfl⟩⟩
   have:=Ks e p.1.A.name f (DD a) d;unfold Bd Rb at h⊢;simp only[mM,mL,m8];omega
 .exact h
def dN(l:rc zA)(p:Bb):∃a,zF l p=l++a:=by
 unfold zF Ed;split
 .split
  .exact⟨[],by simp⟩
  .exact⟨[_],rfl⟩
 .exact⟨[],by simp⟩
structure FR(cs:rc AV)(l l2:rc zA):Prop where
 pre:∃suf,l2=l++suf
 bd:Bd cs l2
def FR.zF{a:rc AV}{l d:rc zA}(h:FR a l d){c:AV}{p:Bb}(i:c∈a)(e:p∈c.bl):FR a l (zF d p):=by
 obtain⟨⟨b,rfl⟩,g⟩:=h;obtain⟨s2,f⟩:=dN (l++b) p;exact⟨⟨b++s2,by rw[f,nA]⟩,fT i e g⟩
variable{c:rc AV}
def FR.at{l a:rc zA}(h:FR c l a)(b:n<Z l):∃d:n<Z a,a[n]=l[n]:=by
 obtain⟨⟨e,rfl⟩,_⟩:=h;exact⟨by simp;omega,nV b⟩
def FR.len{l a:rc zA}(h:FR c l a):Z l<=Z a/\Z a<=1+Z (DD c):=by
 obtain⟨⟨d,rfl⟩,b⟩:=h;unfold Bd at b;exact⟨by simp,by omega⟩
theorem Wd(pb:Nat)(lv:ml)(a:rc AV)(G D:zA)(w:ly)(hP:AI w pb [lv] 76)(hR:CF w lv a)(M0:Z a<=1000000)(HT:∀c∈a,Z c.bl<=1000000)(LE:Z (DD a)<=900000):
  Calls prog 85 #[j3 (V ⟨pb,0,Y⟩),O G,O D] w λe w'=>e=kt (q8 (IC a G D))/\Ac [] w w':=by
 obtain⟨i0,K9,KS,HC,FT⟩:=nC Tryz.zs;obtain⟨ad,Ha,rfl⟩:=Al hR.row;obtain⟨R,FB⟩:=rd (IC a G D);rw[FB];have HR:nc (CF w (U ad (Z a) Ha) a/\(∀c∈a,Z c.bl<=1000000)/\IC a G D=R):=⟨hR,HT,FB⟩;obtain⟨A,hA⟩:=rd (Z (DD a));rw[hA]at LE;have HA:=Ab hA;clear hR HT FB hA;have NN:∀(x:Bool) (w:ly),(Op.unary .not (q8 x)).run prog w=.ok (q8 (!x)) w:=λ_ _=>rfl
 go_enter func85,ntmps85;go_wp2
 go_loopg [7,8] (1+A) (λgk o i wr=>∃(n:Nat) (l:rc zA),i=X J n/\n<=Z l/\Z l<=1+A/\gk=1+A-n/\nc (Bd a l/\Lp (2+A-n) a D l n=R)/\oi wr w.heap.size 9 1 o (Z l) (l.flatMap Ai)/\Ac [] w wr)
 case atStart=>
  refine⟨0,[G],rfl,by simp,by simp,by simp,⟨?_,?_⟩,?_,(re _ _).alloc _⟩
  .unfold Bd Rb;have:=qO (p:=λx=> !DY [G] x) (l:=DD a);simp only[mL,m8];omega
  .have h:=HR.out.2.2;unfold IC at h;rw[Aa HA]at h;exact h
  .exact⟨rfl,lx ⟨_,1,#[O G],rfl,mP _,m7 w _,by simp,by unfold maxLen;omega,rfl,by simp[Ai]⟩⟩
 case round=>
  obtain⟨n,l,rfl,hn,hl,H6,HB,EK,hK⟩:=hrel;have HG:nc (gk=1+A-n):=H6;clear H6;obtain⟨N0,NY,rfl⟩:=Al EK;by_cases P:n<Z l
  .obtain⟨g,Nd,he,hc,HO⟩:=AC EK (λc _=>rfl) n P;simp only[mu]at he;obtain⟨rfl,_,rfl⟩:=he;have z:=HO n P 0 (by omega);simp[Ai]at z;clear HO;obtain⟨x,N⟩:=rd (l[n]);rw[N]at z;cases hto:(x.toList==D.toList)with
   |true=>
    have LD:nc (R=jj):=by
     have h:=HB.out.2;rw[show 2+A-n=(1+A-n)+1 by omega,Lp,dif_pos P,N,hto]at h;exact h.symm
    clear N;go_wp2;go_ret;rw[LD.out];exact⟨rfl,hK⟩
   |false=>
    have H7:nc (Lp (2+A-(n+1)) a D (Oz a l x) (n+1)=R/\l[n]=x):=by
     have h:=HB.out.2;rw[show 2+A-n=(2+A-(n+1))+1 by omega,Lp,dif_pos P,N,hto]at h;exact⟨h,N⟩
    have HK:nc (FR a l l):=⟨⟨[],by simp⟩,HB.out.1⟩;clear N HB;go_wp2;clear z hto
    go_loopw [7,9] (λo i H=>∃(k:Nat) (d:rc zA),i=X J k/\k<=Z a/\nc ((a.take k).foldl (OI x) l=d/\FR a l d)/\oi H w.heap.size 9 1 o (Z d) (d.flatMap Ai)/\Ac [] w H) (λ_ i _=>Z a-(intOf i).toNat)
    case atStart=>exact⟨0,l,rfl,mO _,⟨by simp,HK.out⟩,EK,hK⟩
    case round=>
     clear EK hK HK;obtain⟨k,d,rfl,hk,HM,E,u⟩:=hrel;obtain⟨NM,L0,rfl⟩:=Al E;have HY:=(hP.kept u).cell 0;simp at HY;by_cases r:k<Z a
     .have Go:=HR.out.1.kept u;obtain⟨gp,NL,H0,_,LC⟩:=AC Go.row (λc _=>B8 c) k r;simp only[mu]at H0;obtain⟨rfl,_,rfl⟩:=H0;have Ax:=Go.each a[k] (mw r);have N2:=HR.out.2.1 a[k] (mw r);obtain⟨K4,HL,HV⟩:=Al Ax.body;have H9:=Ab HV;clear LC Go Ax HV HY;have M:nc (∀(F:ly) (o:ml) (b:rc zA),Ac [] w F->oi F w.heap.size 9 1 o (Z b) (b.flatMap Ai)->FR a l b->
        oa F ⟨pb,0,Y⟩=V (U (V ⟨gp,0,Y⟩) (Z a) Ha)/\oa F ⟨gp,k*5,Y⟩=V (O a[k].head.name)/\oa F ⟨gp,k*5+3,Y⟩=V (U K4 a[k].bl.length HL)/\
        ∃B W,o=U (V ⟨B,0,Y⟩) (Z b) W/\n<Z b/\oa F ⟨B,n,Y⟩=V (O x)):=by
       intro F o b H8 JJ Mo;have h1:=(hP.kept H8).cell 0;have Jx:=HR.out.1.kept H8;obtain⟨g2,c2,Ix,_,HW⟩:=AC Jx.row (λc _=>B8 c) k r;simp only[mu,mB,nr]at Ix;obtain⟨⟨rfl,_,_⟩,_,rfl⟩:=Ix;have h2:=HW k r 0 (by omega);have h3:=HW k r 3 (by omega);simp[Cb]at h1 h2 h3;rw[Aa H9]at h3;obtain⟨A0,KK⟩:=Mo.at P;obtain⟨B,W,I,_,LS⟩:=AC JJ (λc _=>rfl) n A0;have h4:=LS n A0 0 (by omega);simp[Ai]at h4;rw[KK,H7.out.2]at h4;exact⟨h1,h2,h3,B,W,I,A0,h4⟩
      cases hnm:(a[k].head.name.toList==x.toList)with
      |false=>
       have y:nc ((a.take (k+1)).foldl (OI x) l=d/\FR a l d):=⟨by rw[E6 _ _ r,HM.out.1];simp[OI,hnm],HM.out.2⟩;obtain⟨T,f2,f3,B,W,I,A0,f4⟩:=M.out _ _ _ u E y.out.2;simp only[mu]at I;obtain⟨rfl,_,rfl⟩:=I;clear M;(have K1:(k:Int)<(Z a:Int):=by omega);(have K3:(n:Int)<(Z d:Int):=by omega);go_wp2
       go_loopw [7,10] (λo i H=>o=U (V ⟨B,0,Y⟩) (Z d) L0/\i=X J 0/\∃q,H=wr.drewN q) (λ_ _ _=>0)
       case atStart=>exact⟨rfl,rfl,0,rfl⟩
       case round=>
        obtain⟨rfl,rfl,q,rfl⟩:=hrel;go_wp2_with fail
        go_quiet (fail)
        go_wp2_with fail
        go_roundw
        case rel=>exact⟨k+1,d,by go_num,by omega,y,DW E _,u.drewN _⟩
        case measure=>simp[intOf];omega
      |true=>
       (have MB:nc ((a.take (k+1)).foldl (OI x) l=a[k].bl.foldl zF d):=by show _=_;rw[E6 _ _ r,HM.out.1];simp[OI,hnm]);have HX:=Ab HM.out.2;(have K1:(k:Int)<(Z a:Int):=by omega);obtain⟨T,_⟩:=M.out _ _ _ u E HX;go_wp2;clear T
       go_loopw [7,10] (λo i H=>∃(m:Nat) (b:rc zA),i=X J m/\m<=a[k].bl.length/\nc ((a[k].bl.take m).foldl zF d=b/\FR a l b)/\oi H w.heap.size 9 1 o (Z b) (b.flatMap Ai)/\Ac [] w H) (λ_ i _=>a[k].bl.length-(intOf i).toNat)
       case atStart=>exact⟨0,d,rfl,mO _,⟨by simp,HX⟩,E,u⟩
       case round=>
        clear E;have Nj:=Ab u;clear u;obtain⟨m,b,rfl,hm,HN,B9,S⟩:=hrel;obtain⟨T,f2,f3,B,W,I,A0,f4⟩:=M.out _ _ _ S B9 HN.out.2;subst I;(have K3:(n:Int)<(Z b:Int):=by omega);(have NA:Z b<=1+A:=by have:=HN.out.2.len.2;rw[Aa HA]at this;exact this);have K5:=S.size;by_cases j:m<a[k].bl.length
        ·(have Nx:(m:Int)<(a[k].bl.length:Int):=by omega);(have K6:decide ((m:Int)<(a[k].bl.length:Int))=jj:=by simp;omega);have Ax:=(HR.out.1.kept S).each a[k] (mw r);obtain⟨f,M2,FL,NV,t⟩:=AC Ax.body (λc _=>B6 c) m j;rw[Aa H9]at FL;simp only[mu]at FL;obtain⟨rfl,_,rfl⟩:=FL;have hl:=Ax.lits a[k].bl[m] (mw j);obtain⟨HF,FO,H4⟩:=Al hl;have z:=t m j 0 (by omega);have d1:=t m j 1 (by omega);have d2:=t m j 2 (by omega);have d3:=t m j 3 (by omega);have d4:=t m j 4 (by omega);have d5:=t m j 5 (by omega);have d6:=t m j 6 (by omega);have d7:=t m j 7 (by omega);have d8:=t m j 8 (by omega);simp[A6,CB]at z d1 d2 d3 d4 d5 d6 d7 d8;rw[H4]at d2;have HD:nc (oa wr ⟨f,m*9,Y⟩=V (X .u8 a[k].bl[m].1.kind.toNat)/\oa wr ⟨f,m*9+1,Y⟩=V (O a[k].bl[m].1.A.name)/\oa wr ⟨f,m*9+2,Y⟩=V (U HF a[k].bl[m].1.A.args.length FO)/\oa wr ⟨f,m*9+3,Y⟩=V (X J a[k].bl[m].1.A.at_)/\oa wr ⟨f,m*9+4,Y⟩=V (X .u8 a[k].bl[m].1.L.v.toNat)/\oa wr ⟨f,m*9+5,Y⟩=V (O a[k].bl[m].1.L.s)/\oa wr ⟨f,m*9+6,Y⟩=V (X .u8 a[k].bl[m].1.R.v.toNat)/\oa wr ⟨f,m*9+7,Y⟩=V (O a[k].bl[m].1.R.s)/\oa wr ⟨f,m*9+8,Y⟩=V (X J a[k].bl[m].1.at_)):=⟨z,d1,d2,d3,d4,d5,d6,d7,d8⟩;have Q:nc ((a[k].bl.take (m+1)).foldl zF d=zF b a[k].bl[m]/\FR a l (zF b a[k].bl[m])):=⟨by rw[E6 _ _ j,HN.out.1],HN.out.2.zF (mw r) (mw j)⟩;clear t hl H4 Ax z d1 d2 d3 d4 d5 d6 d7 d8 M;go_wp2_with fail
         go_quiet (fail)
         have FA:=DW B9 nq;have AR:=S.drewN nq;have FF:oa (wr.drewN nq) ⟨pb,0,Y⟩=V (U (V ⟨gp,0,Y⟩) (Z a) Ha)/\oa (wr.drewN nq) ⟨gp,k*5+3,Y⟩=V (U (V ⟨f,0,Y⟩) a[k].bl.length HL)/\oa (wr.drewN nq) ⟨f,m*9,Y⟩=V (X .u8 a[k].bl[m].1.kind.toNat)/\oa (wr.drewN nq) ⟨f,m*9+1,Y⟩=V (O a[k].bl[m].1.A.name)/\oa (wr.drewN nq) ⟨f,m*9+2,Y⟩=V (U HF a[k].bl[m].1.A.args.length FO)/\oa (wr.drewN nq) ⟨f,m*9+3,Y⟩=V (X J a[k].bl[m].1.A.at_)/\oa (wr.drewN nq) ⟨f,m*9+4,Y⟩=V (X .u8 a[k].bl[m].1.L.v.toNat)/\oa (wr.drewN nq) ⟨f,m*9+5,Y⟩=V (O a[k].bl[m].1.L.s)/\oa (wr.drewN nq) ⟨f,m*9+6,Y⟩=V (X .u8 a[k].bl[m].1.R.v.toNat)/\oa (wr.drewN nq) ⟨f,m*9+7,Y⟩=V (O a[k].bl[m].1.R.s)/\oa (wr.drewN nq) ⟨f,m*9+8,Y⟩=V (X J a[k].bl[m].1.at_):=⟨T,f3,HD.out⟩;clear HD T f2 f3 f4 B9 S K5;generalize wr.drewN nq=wd at FF FA AR⊢;obtain⟨T,f3,z,d1,d2,d3,d4,d5,d6,d7,d8⟩:=FF;have M6:=AR.size;have AB:=FA.alloc (j1 #[X .u8 a[k].bl[m].1.kind.toNat,O a[k].bl[m].1.A.name,U HF a[k].bl[m].1.A.args.length FO,X J a[k].bl[m].1.A.at_,X .u8 a[k].bl[m].1.L.v.toNat,O a[k].bl[m].1.L.s,X .u8 a[k].bl[m].1.R.v.toNat,O a[k].bl[m].1.R.s,X J a[k].bl[m].1.at_] 95);rcases E9 a[k].bl[m] with⟨k1,C⟩|⟨k1,k2,C⟩|⟨k1,k2,C⟩
         rotate_right 1
         ·(have e:zF b a[k].bl[m]=b:=by simp[zF,C]);(have AT:nc ((a[k].bl.take (m+1)).foldl zF d=b/\FR a l b):=by have h:=Q.out;rw[e]at h;exact h);clear e;clear Q C;go_wp2
          go_roundw
          case rel=>exact⟨m+1,b,by go_num,by omega,AT,AB,AR.alloc _⟩
          case measure=>simp[intOf];omega
         all_goals
          cases hh2:DY b a[k].bl[m].1.A.name with
          |true=>
           (have e:zF b a[k].bl[m]=b:=by simp[zF,Ed,C,hh2]);(have AT:nc ((a[k].bl.take (m+1)).foldl zF d=b/\FR a l b):=by have h:=Q.out;rw[e]at h;exact h);clear e;clear Q C;(go_wp2_with fail);refine(IU _ b a[k].bl[m].1.A.name w.heap.size _ AB (by omega)).mono ?_;rintro e w0 ⟨rfl,A2⟩;rw[hh2,A2];clear A2 w0 hh2;go_wp2
           go_roundw
           case rel=>exact⟨m+1,b,by go_num,by omega,AT,AB,AR.alloc _⟩
           case measure=>simp[intOf];omega
          |false=>
           (have e:zF b a[k].bl[m]=b++[a[k].bl[m].1.A.name]:=by simp[zF,Ed,C,hh2]);(have AT:nc ((a[k].bl.take (m+1)).foldl zF d=b++[a[k].bl[m].1.A.name]/\FR a l (b++[a[k].bl[m].1.A.name])):=by have h:=Q.out;rw[e]at h;exact h);clear e;clear Q C;(go_wp2_with fail);refine(IU _ b a[k].bl[m].1.A.name w.heap.size _ AB (by omega)).mono ?_;rintro e w0 ⟨rfl,A2⟩;rw[hh2,A2];clear A2 w0 hh2;go_wp2_with (at_builtin;refine mZ _ rfl (.tmp 91) (.tmp 95) _ rfl w.heap.size 9 i0 _ 1 16 underlying41 K9 KS HC FT rfl (by omega) (U (V ⟨B,0,Y⟩) (Z b) W) (Z b) (b.flatMap Ai) rfl (AB.alloc _) ⟨wd.heap.size+1,0,Y⟩ 1 1 [O a[k].bl[m].1.A.name] rfl rfl (Xa wd _ _ _ _ rfl) (by simp[Value.oneCell']) (by omega) (by unfold maxLen;omega) (by omega) (by simp;omega) (wd.heap.size+2) (by simp) ?_;intro g5 NS w5 IS IJ JA LL)
           have MN:Ac [] w w5:=((AR.alloc _).alloc _).grown IJ (λq hq=>lx (FA.lt q hq).1);clear IJ JA LL;go_wp2
           go_roundw
           case rel=>
            refine⟨m+1,b++[a[k].bl[m].1.A.name],by go_num,by omega,AT,?_,MN⟩;simpa[Ai] using IS
           case measure=>simp[intOf];omega
        ·(have K6:decide ((m:Int)<(a[k].bl.length:Int))=K:=by simp;omega);(have N4:decide (m<a[k].bl.length)=K:=by simp;omega);have y:nc ((a.take (k+1)).foldl (OI x) l=b/\FR a l b):=by
          have h:=HN.out;rw[mz (by omega)]at h;exact⟨by rw[Aa MB];exact h.1,h.2⟩
         clear M;go_wp2_with fail
         go_quiet (fail)
         go_wp2_with fail
         go_roundw
         case rel=>exact⟨k+1,b,by go_num,by omega,y,DW B9 _,S.drewN _⟩
         case measure=>simp[intOf];omega
     ·(have y:nc (Oz a l x=d/\FR a l d):=by have h:=HM.out;rw[mz (by omega)]at h;exact h);(have HC:n+1<=Z d:=by have:=y.out.2.len.1;omega);(have FT:Z d<=1+A:=by have:=y.out.2.len.2;rw[Aa HA]at this;exact this);go_wp2
      go_roundg (1+A-(n+1))
      case measure=>have:=HG.out;omega
      case rel=>exact⟨n+1,d,by go_num,HC,FT,rfl,⟨y.out.2.bd,by rw[<-y.out.1];exact H7.out.1⟩,E,u⟩
  .have KA:nc (R=K):=by
    have h:=HB.out.2;rw[show 2+A-n=(1+A-n)+1 by omega,Lp,dif_neg P]at h;exact h.symm
   go_wp2;go_ret;rw[KA.out];exact⟨rfl,hK⟩
def BM(p:Bb):Bool:=decide (2<Z p.1.A.args)
def Ci(cs:rc AV)(p:Bb):Bool:=MP p&&(BQ cs p.1.A.name !=(Z p.1.A.args:Int))
def Cv(cs:rc AV)(i:Nat)(c:AV):Option (Int×Int):=
 if 12<=i\/3<Z c.bl then V (3,c.at_)
 else if 2<Z c.head.args then V (3,c.at_)
 else if c.bl.any BM then V (3,c.at_)
 else if 6<Z (EO (cs.take (i+1)))\/6<Z (Bj (cs.take (i+1))) then V (3,c.at_)
 else if BQ cs c.head.name≠(Z c.head.args:Int)then V (4,c.head.at_)
 else match c.bl.find? (Ci cs)with
  |some p=>V (4,p.1.A.at_)
  |none=>if 0<=Ee c.head c.bl then V (5,Ee c.head c.bl)else Y
def ER(cs:rc AV):Nat->rc AV->Option (Int×Int)
 |_,[]=>Y
 |i,c::l=>match Cv cs i c with
  |some r=>V r
  |none=>ER cs (i+1) l
def Fq(cs:rc AV)(c:AV)(p:Bb):Bool:=p.1.kind==33&&IC cs p.1.A.name c.head.name
def D4(cs:rc AV)(c:AV):Option (Int×Int):=(c.bl.find? (Fq cs c)).map λp=>(6,(p.1.at_:Int))
def CQ(cs:rc AV):Int×Int:=match ER cs 0 cs with
 |some r=>r
 |none=>match cs.findSome? (D4 cs)with
  |some r=>r
  |none=>(0,0)
def LY{a:rc AV}:∀(l:rc AV) (i k:Nat),(∀j (d:j<Z l),j<k->Cv a (i+j) l[j]=Y)->k<=Z l->ER a i l=ER a (i+k) (l.drop k)
 |l,i,0,_,_=>by simp
 |[],i,k+1,_,hk=>by simp at hk
 |c::l,i,k+1,h,hk=>by
  have b:=h 0 (by simp) (by omega);simp only[qk,pS]at b;rw[ER,b];simp only[pC];rw[LY l (i+1) k (λj d e=>by
   have:=h (j+1) (by simp;omega) (by omega)
   simp only[List.getElem_cons_succ]at this
   rw[show i+1+j=i+(j+1) by omega];exact this) (by simpa using hk)]
  rw[show i+1+k=i+(k+1) by omega]
def ZG(b:k<Z c)(e:∀j (a:j<Z c),j<k->Cv c j c[j]=Y){r:Int×Int}(d:Cv c k c[k]=V r):CQ c=r:=by
 unfold CQ;rw[LY c 0 k (λj a f=>by rw[nE];exact e j a f) (by omega),mQ b,nE,ER,d]
def Wt(b:∀j (a:j<Z c),Cv c j c[j]=Y):CQ c=match c.findSome? (D4 c)with|some r=>r|none=>(0,0):=by
 unfold CQ;rw[LY c 0 (Z c) (λj a _=>by rw[nE];exact b j a) (mP _),List.drop_length,ER]
def Vp{b:rc AV}{c:AV}(h:Cv b i c=Y):i<12/\Hu c:=by
 unfold Cv at h;split at h
 .cases h
 .rename_i f;split at h
  .cases h
  .rename_i e;split at h
   .cases h
   .rename_i d;refine⟨by omega,⟨by omega,by omega,λp a=>?_⟩⟩;have:BM p=K:=by
     cases hm:BM p with
     |false=>rfl
     |true=>exact absurd (by rw[nX];exact⟨p,a,hm⟩) d
    simpa[BM] using this
def CF.take{w:ly}{g:Nat}{m:Nat}{b:rc AV}(h:CF w (U (V ⟨g,0,Y⟩) (Z b) m) b)(k:Nat)(t:k<=Z b):CF w (U (V ⟨g,0,Y⟩) k m) (b.take k):=by
 refine⟨?_,λc n=>h.each c (ow n)⟩;have f:Z (b.take k)=k:=by simp;omega
 rw[f];have j:∀(l:rc AV),Z (l.flatMap Cb)=Z l*5:=by
  intro l
  induction l with
  |nil=>rfl
  |cons a l ih=>rw[mX,mM,ih,B8,mL];omega
 rcases h.row.2 with⟨d,_⟩|⟨v,u,i,d,_,s,n,o,p,r⟩
 .cases d
 .simp only[mu,mB,nr]at d;obtain⟨⟨rfl,_,_⟩,_,rfl⟩:=d;refine⟨by rw[j,f],lx ⟨g,m,i,rfl,mO _,s,by omega,o,p,?_⟩⟩;have e:b.flatMap Cb=(b.take k).flatMap Cb++(b.drop k).flatMap Cb:=by rw[<-mY,nO]
  have q:i.toList.take (k*5)=(i.toList.take (Z b*5)).take (k*5):=by rw[pM,pr (by omega)]
  rw[q,r,e,nG (by rw[j,f];omega),mz (by rw[j,f];omega)]
structure Og(cs:rc AV):Prop where
 len:Z cs<=1000
 body:∀c∈cs,Z c.bl<=1000
 head:∀c∈cs,Z c.head.args<=1000000
 lits:∀c∈cs,∀p∈c.bl,Z p.1.A.args<=1000000
 atoms:Z (DD cs)<=900000
 full:∀c∈cs,d9 c
def VZ{a:rc AV}(h:CF w (U (V ⟨n,0,Y⟩) (Z a) m) a)(q:Ac [] w v)(b:k<Z a):
  oa v ⟨n,k*5,Y⟩=V (O a[k].head.name)/\oa v ⟨n,k*5+1,Y⟩=V a[k].hv/\oa v ⟨n,k*5+2,Y⟩=V (X J a[k].head.at_)/\oa v ⟨n,k*5+3,Y⟩=V a[k].bv/\oa v ⟨n,k*5+4,Y⟩=V (X J a[k].at_):=by
 have p:=h.kept q;obtain⟨s,r,j,_,d⟩:=AC p.row (λc _=>B8 c) k b;simp only[mu,mB,nr]at j;obtain⟨⟨rfl,_,_⟩,_,rfl⟩:=j;have l:=d k b 0 (by omega);have i:=d k b 1 (by omega);have e:=d k b 2 (by omega);have o:=d k b 3 (by omega);have f:=d k b 4 (by omega);simp[Cb]at l i e o f;exact⟨l,i,e,o,f⟩
def V0{c:AV}(h:Ze w c)(b:m<Z c.bl):∃a e,c.bv=U (V ⟨a,0,Y⟩) (Z c.bl) e/\
  oa w ⟨a,m*9,Y⟩=V (X .u8 c.bl[m].1.kind.toNat)/\oa w ⟨a,m*9+1,Y⟩=V (O c.bl[m].1.A.name)/\oa w ⟨a,m*9+2,Y⟩=V c.bl[m].2/\oa w ⟨a,m*9+3,Y⟩=V (X J c.bl[m].1.A.at_)/\
  oa w ⟨a,m*9+4,Y⟩=V (X .u8 c.bl[m].1.L.v.toNat)/\oa w ⟨a,m*9+5,Y⟩=V (O c.bl[m].1.L.s)/\oa w ⟨a,m*9+6,Y⟩=V (X .u8 c.bl[m].1.R.v.toNat)/\oa w ⟨a,m*9+7,Y⟩=V (O c.bl[m].1.R.s)/\oa w ⟨a,m*9+8,Y⟩=V (X J c.bl[m].1.at_):=by
 obtain⟨a,e,r,_,d⟩:=AC h.body (λp _=>B6 p) m b;have j:=d m b 0 (by omega);have k:=d m b 1 (by omega);have f:=d m b 2 (by omega);have i:=d m b 3 (by omega);have g:=d m b 4 (by omega);have l:=d m b 5 (by omega);have o:=d m b 6 (by omega);have n:=d m b 7 (by omega);have q:=d m b 8 (by omega);simp[A6,CB]at j k f i g l o n q;exact⟨a,e,r,j,k,f,i,g,l,o,n,q⟩
def Ys{a:rc AV}(g:k<Z a)(e:∀j (b:j<Z a),j<k->Cv a j a[j]=Y)(f:Hu a[k]):∀c∈a.take (k+1),Hu c:=by
 intro c d;obtain⟨j,b,rfl⟩:=List.mem_iff_getElem.1 d;simp only[nu]at b;rw[pP];by_cases h:j<k
 .exact(Vp (e j (by omega) h)).2
 .have:j=k:=by omega
  subst this;exact f
structure KW(w0:ly) where
 wk:ly
 kept:Ac [] w0 wk
theorem KW.some(a:ly):Nonempty (KW a):=⟨⟨a,re _ _⟩⟩
def KV{w w0:ly}{l:rc Oper}(d:P.follows .mixedOrders=jj)(f:Region.lexB .any (j2 l)=jj)(c:Ac [] w0 w)
  (h:wpQuiet P (j2 l) (λb=>∃n:KW w0,b=n.wk) (λe=>∀b,(∃n:KW w0,b=n.wk)->Q .normal e b) l a):(Code.region m (j2 l) jj).wp P Q a w:=
 wp_region_quiet (C:=λb=>∃n:KW w0,b=n.wk) d f ⟨⟨_,c.drew⟩,rfl⟩ (by simpa using h)
def Calls.zo{f:FuncId}{b:Array ml}{n:KW w}
  (h:Calls P f b n.wk λe a=>e=kt z/\Ac [] n.wk a):Calls P f b n.wk λe c=>e=kt z/\∃m:KW w,c=m.wk:=
 h.mono λ_ a ⟨he,hk⟩=>⟨he,⟨⟨a,n.kept.trans hk⟩,rfl⟩⟩
theorem cK(pb:Nat)(lv:ml)(b:rc AV)(w:ly)(hP:AI w pb [lv] 76)(hR:CF w lv b)(hF:Og b):
  Calls prog 45 #[j3 (V ⟨pb,0,Y⟩)] w λe w'=>e=kt (.tuple #[X J (CQ b).1,X J (CQ b).2])/\Ac [] w w':=by
 obtain⟨ad,FF,rfl⟩:=Al hR.row;obtain⟨R,KK⟩:=rd (CQ b);rw[KK];have d:nc (CF w (U ad (Z b) FF) b/\Og b/\CQ b=R):=⟨hR,hF,KK⟩;have WB:=hF.len;clear hR hF KK;go_enter func45,ntmps45;go_wp2
 go_loopw [4] (λi wr=>∃k:Nat,i=X J k/\k<=Z b/\nc (∀j (hj:j<Z b),j<k->Cv b j b[j]=Y)/\Ac [] w wr) (λi _=>Z b-(intOf i).toNat)
 case atStart=>exact⟨0,rfl,mO _,λj hj h=>by omega,re _ _⟩
 case round=>
  obtain⟨k,rfl,hk,HC,y⟩:=hrel;have G:=(hP.kept y).cell 0;simp at G;by_cases W:k<Z b
  .obtain⟨g,SS,he,RT,Mo⟩:=AC d.out.1.row (λc _=>B8 c) k W;clear Mo;simp only[mu]at he;obtain⟨rfl,_,rfl⟩:=he;obtain⟨c0,c1,c2,c3,c4⟩:=VZ d.out.1 y W;have f:=(d.out.1.kept y).each b[k] (mw W);obtain⟨HB,HA,H3⟩:=Al f.args;obtain⟨E0,EM,BA⟩:=Al f.body;rw[H3]at c1;rw[BA]at c3;obtain⟨c,I⟩:=rd (b[k]);rw[I]at c0 c1 c2 c3 c4 H3 BA;have u:nc (b[k]=c/\c.hv=U HB (Z c.head.args) HA/\c.bv=U E0 (Z c.bl) EM):=⟨I,H3,BA⟩;(have TH:Z c.bl<=1000:=by have:=d.out.2.1.body b[k] (mw W);rw[I]at this;exact this);(have RI:Z c.head.args<=1000000:=by have:=d.out.2.1.head b[k] (mw W);rw[I]at this;exact this);have Bx:nc (∀r,Cv b k c=V r->R=r):=by
    intro r hr;rw[<-d.out.2.2];exact ZG W HC.out (by rw[I];exact hr)
   clear f H3 BA I;by_cases h1:12<=k\/3<Z c.bl
   .have t:nc (R=(3,(c.at_:Int))):=Bx.out _ (by unfold Cv;rw[mK h1]);by_cases ZV:12<=k
    ·(have X1:(12:Int)<=(k:Int):=by omega);clear h1;go_wp2_with fail
     go_quiet (fail)
     (go_wp2_with fail);go_ret2;rw[t.out];exact⟨rfl,(y.alloc _).drewN _⟩
    ·(have h3:(3:Int)<(Z c.bl:Int):=by omega);clear h1;go_wp2_with fail
     go_quiet (fail)
     (go_wp2_with fail);go_ret2;rw[t.out];exact⟨rfl,(y.alloc _).drewN _⟩
   ·(have ag:k<12:=by omega);(have S0:Z c.bl<=3:=by omega);by_cases h2:2<Z c.head.args
    .have t:nc (R=(3,(c.at_:Int))):=Bx.out _ (by unfold Cv;rw[mJ h1,mK h2]);clear h1;go_wp2_with fail
     go_quiet (fail)
     (go_wp2_with fail);go_ret2;rw[t.out];exact⟨rfl,(y.alloc _).drewN _⟩
    ·(have VL:Z c.head.args<=2:=by omega);have B:nc (¬(12<=k\/3<Z c.bl)/\¬2<Z c.head.args):=⟨h1,h2⟩;clear h1 h2;(go_wp2_with fail);have S:=rf wr [O c.head.name,U HB (Z c.head.args) HA,X J c.head.at_,U E0 (Z c.bl) EM,X J c.at_] 82;have FT:=y.alloc (j1 [O c.head.name,U HB (Z c.head.args) HA,X J c.head.at_,U E0 (Z c.bl) EM,X J c.at_].toArray 82);have UO:=y.size;clear G c0 c1 c2 c3 c4 y;generalize wr.alloc (j1 [O c.head.name,U HB (Z c.head.args) HA,X J c.head.at_,U E0 (Z c.bl) EM,X J c.at_].toArray 82)=w1 at S FT⊢;generalize wr.heap.size=N at S UO⊢;have q0:=S.cell 0;have q1:=S.cell 1;have q2:=S.cell 2;have q3:=S.cell 3;have q4:=S.cell 4;simp at q0 q1 q2 q3 q4
     go_loop [6] (λi=>∃m:Nat,i=X J m/\m<=Z c.bl/\nc ((c.bl.take m).any BM=K)) (λi=>Z c.bl-(intOf i).toNat)
     case atStart=>exact⟨0,rfl,mO _,by show _=_;simp⟩
     case round=>
      obtain⟨m,rfl,hm,H⟩:=hrel;by_cases z:m<Z c.bl
      .have f:=(d.out.1.kept FT).each b[k] (mw W);rw[u.out.1]at f;obtain⟨gb,NA,M,d0,d1,d2,d3,d4,d5,d6,d7,d8⟩:=V0 f z;rw[u.out.2.2]at M;simp only[mu]at M;obtain⟨rfl,_,rfl⟩:=M;obtain⟨AB,Ax,B0⟩:=Al (f.lits c.bl[m] (mw z));rw[B0]at d2;clear d0 d1 d3 d4 d5 d6 d7 d8 f B0;by_cases P0:2<c.bl[m].1.A.args.length
       .have t:nc (R=(3,(c.at_:Int))):=Bx.out _ (by unfold Cv;rw[mJ B.out.1,mJ B.out.2,mK (K0 _ _ m z (by simpa[BM] using P0))]);go_wp2_with fail
        go_quiet (fail)
        (go_wp2_with fail);go_ret2;rw[t.out];exact⟨rfl,FT.drewN _⟩
       ·(have F:nc ((c.bl.take (m+1)).any BM=K):=by show _=_;rw[Do _ _ m z H.out];simpa[BM] using P0);go_wp2_with fail
        go_round
        case rel=>exact⟨m+1,by go_num,by omega,F⟩
        case measure=>simp[intOf];omega
      ·(have FB:nc (c.bl.any BM=K):=by have h:=H.out;rwa [mz (by omega)]at h);clear H;have G:=(hP.kept FT).cell 0;simp at G;(have aa:(k:Int)+1<=(FF:Int):=by omega);have N2:nc (∀c'∈b.take (k+1),Hu c'):=by
        refine Ys W HC.out ?_;rw[u.out.1];refine⟨S0,VL,λp hp=>?_⟩;cases hmm:BM p with
        |false=>simpa[BM] using hmm
        |true=>(have:c.bl.any BM=jj:=by rw[nX];exact⟨p,hp,hmm⟩);rw[FB.out]at this;cases this
       (go_wp2_with fail);clear z hm;have C:=rf w1 [U (V ⟨g,0,Y⟩) (k+1) FF] 76;have H1:=FT.alloc (j1 [U (V ⟨g,0,Y⟩) (k+1) FF].toArray 76);have K3:=S.alloc (j1 [U (V ⟨g,0,Y⟩) (k+1) FF].toArray 76);have TT:=S.lt;clear G q0 q1 q2 q3 q4 S FT;generalize w1.alloc (j1 [U (V ⟨g,0,Y⟩) (k+1) FF].toArray 76)=w2 at C H1 K3⊢;generalize w1.heap.size=Nq at C TT⊢;(have ab:Z (b.take (k+1))=k+1:=by simp;omega);have Ix:=(d.out.1.kept H1).take (k+1) (by omega);refine(dM Nq _ (b.take (k+1)) _ C Ix (by omega) N2).mono ?_;rintro e w3 ⟨v3,rfl,NM,HJ⟩;obtain⟨Wa,WS,rfl⟩:=Al NM;have K1:=H1.trans HJ;have IS:=K3.kept HJ;have NV:=C.kept HJ;have N0:=Ix.kept HJ;obtain⟨nn,MB⟩:=rd (Z (EO (b.take (k+1))));have N4:=Ab MB;rw[MB];clear NM HJ K3 C Ix H1 MB;have q4:=IS.cell 4;simp at q4;by_cases TS:6<nn
       .have t:nc (R=(3,(c.at_:Int))):=Bx.out _ (by unfold Cv;rw[mJ B.out.1,mJ B.out.2,mJ (by rw[FB.out];exact oV),mK (lo (by rw[Aa N4];exact TS))]);go_wp2_with fail
        go_quiet (fail)
        (go_wp2_with fail);go_ret2;rw[t.out];exact⟨rfl,K1.drewN _⟩
       ·(go_wp2_with fail);refine(R6 Nq _ (b.take (k+1)) _ NV N0 (by omega) N2 (λc' HG=>d.out.2.1.full c' (ow HG))).mono ?_;rintro e w4 ⟨v4,rfl,NB,H8⟩;obtain⟨X3,YP,rfl⟩:=Al NB;have H2:=K1.trans H8;have FW:=IS.kept H8;obtain⟨nt,K9⟩:=rd (Z (Bj (b.take (k+1))));have Nd:=Ab K9;rw[K9];clear NB H8 IS NV N0 K1 K9 q4;have q0:=FW.cell 0;have q1:=FW.cell 1;have q2:=FW.cell 2;have q4:=FW.cell 4;simp at q0 q1 q2 q4;by_cases RV:6<nt
        .have t:nc (R=(3,(c.at_:Int))):=Bx.out _ (by unfold Cv;rw[mJ B.out.1,mJ B.out.2,mJ (by rw[FB.out];exact oV),mK (lx (by rw[Aa Nd];exact RV))]);go_wp2_with fail
         go_quiet (fail)
         (go_wp2_with fail);go_ret2;rw[t.out];exact⟨rfl,H2.drewN _⟩
        .have HX:nc (¬(6<Z (EO (b.take (k+1)))\/6<Z (Bj (b.take (k+1))))):=by
          show¬_;rw[Aa N4,Aa Nd];omega
         obtain⟨ar,M1⟩:=rd (BQ b c.head.name);have KA:=Ab M1;have NS:=(hP.kept H2).drew;have KD:=H2.drew;have HK:nc (Z b<=1000000/\(∀c∈b,Z c.bl<=1000000)/\(∀c∈b,∀p∈c.bl,Z p.1.A.args<=1000000)):=⟨by omega,λc' HG=>by have:=d.out.2.1.body c' HG;omega,d.out.2.1.lits⟩;clear M1;go_wp2_with fail
         go_region_held3 (λw'=>oa w' ⟨N,0,Y⟩=V (O c.head.name)/\oa w' ⟨N,1,Y⟩=V (U HB (Z c.head.args) HA)) (go_keep) (first|(go_at_call 23;refine(Mq pb _ b c.head.name _ (by exact NS) (by exact d.out.1.kept KD) HK.out.1 HK.out.2.1).mono ?_;rintro e w5 ⟨rfl,JJ⟩;rw[Aa KA];have Ha:=FW.drew.kept JJ;have r0:=Ha.cell 0;have r1:=Ha.cell 1;simp at r0 r1))
         have H4:=KD.trans JJ;clear NS KD H2 FW q0 q1 q2 q4 JJ r0 r1;have q2:=Ha.cell 2;have q3:=Ha.cell 3;simp at q2 q3;by_cases Q:ar=(Z c.head.args:Int)
         ·(have M0:(ar !=(Z c.head.args:Int))=K:=by simp[Q]);(have IA:nc (¬BQ b c.head.name≠(Z c.head.args:Int)):=by show¬_;rw[Aa KA];simp[Q]);clear Q;go_wp2_with fail
          go_loopw [8] (λi wq=>∃m:Nat,i=X J m/\m<=Z c.bl/\nc ((c.bl.take m).any (Ci b)=K)/\Ac [] w wq/\AI wq N [O c.head.name,U HB (Z c.head.args) HA,X J c.head.at_,U E0 (Z c.bl) EM,X J c.at_] 82) (λi _=>Z c.bl-(intOf i).toNat)
          case atStart=>exact⟨0,rfl,mO _,by show _=_;simp,H4,Ha⟩
          case round=>
           clear q2 q3 Ha H4 M0;obtain⟨m,rfl,hm,H,D,C⟩:=hrel;have VS:=C.lt;have q0:=C.cell 0;have q1:=C.cell 1;have q2:=C.cell 2;have q3:=C.cell 3;simp at q0 q1 q2 q3;have f:=(d.out.1.kept D).each b[k] (mw W);rw[u.out.1]at f;by_cases z:m<Z c.bl
           .obtain⟨gb,NA,M,d0,d1,d2,d3,d4,d5,d6,d7,d8⟩:=V0 f z;rw[u.out.2.2]at M;simp only[mu]at M;obtain⟨rfl,_,rfl⟩:=M;obtain⟨AB,Ax,B0⟩:=Al (f.lits c.bl[m] (mw z));rw[B0]at d2;clear f B0;obtain⟨a,P⟩:=rd (c.bl[m]);rw[P]at d0 d1 d2 d3 d4 d5 d6 d7 d8;have HY:nc (Ci b a=jj->R=(4,(a.1.A.at_:Int))):=by
             intro ho;refine Bx.out _ ?_;unfold Cv;rw[mJ B.out.1,mJ B.out.2,mJ (by rw[FB.out];exact oV),mJ HX.out,mJ IA.out,F8 _ _ m z H.out (by rw[P];exact ho),P]
            have F:nc (Ci b a=K->(c.bl.take (m+1)).any (Ci b)=K):=by
             intro ho;rw[Do _ _ m z H.out,P];exact ho
            clear P;(go_wp2_with fail);clear d0 d1 d2 d3 d4 d5 d6 d7 d8 q0 q1 q2 q3;have l:=rf wr [X .u8 a.1.kind.toNat,O a.1.A.name,U AB (Z a.1.A.args) Ax,X J a.1.A.at_,X .u8 a.1.L.v.toNat,O a.1.L.s,X .u8 a.1.R.v.toNat,O a.1.R.s,X J a.1.at_] 95;have HF:=C.alloc (j1 [X .u8 a.1.kind.toNat,O a.1.A.name,U AB (Z a.1.A.args) Ax,X J a.1.A.at_,X .u8 a.1.L.v.toNat,O a.1.L.s,X .u8 a.1.R.v.toNat,O a.1.R.s,X J a.1.at_].toArray 95);have o:=D.alloc (j1 [X .u8 a.1.kind.toNat,O a.1.A.name,U AB (Z a.1.A.args) Ax,X J a.1.A.at_,X .u8 a.1.L.v.toNat,O a.1.L.s,X .u8 a.1.R.v.toNat,O a.1.R.s,X J a.1.at_].toArray 95);clear C D;generalize wr.alloc (j1 [X .u8 a.1.kind.toNat,O a.1.A.name,U AB (Z a.1.A.args) Ax,X J a.1.A.at_,X .u8 a.1.L.v.toNat,O a.1.L.s,X .u8 a.1.R.v.toNat,O a.1.R.s,X J a.1.at_].toArray 95)=w6 at l HF o⊢;generalize wr.heap.size=Nx at l VS⊢;have x0:=l.cell 0;have x1:=l.cell 1;have x2:=l.cell 2;have x3:=l.cell 3;simp at x0 x1 x2 x3;obtain⟨HD,HU⟩:=rd (BQ b a.1.A.name);have K6:=Ab HU;have LB:=(hP.kept o).drew;have LS:=o.drew;rcases E9 a with⟨k1,k3⟩|⟨k1,k2,k3⟩|⟨k1,k2,k3⟩
            rotate_right 1
            .have FO:=Ab (F.out (by simp[Ci,k3]));clear HY F k3 HU LB LS
             go_quiet (fail)
             go_wp2_with fail
             go_roundw
             case rel=>exact⟨m+1,by go_num,by omega,FO,o.drewN _,HF.drewN _⟩
             case measure=>simp[intOf];omega
            all_goals
             (have y0:∀n:KW w6,oa n.wk ⟨Nx,0,Y⟩=V (X .u8 a.1.kind.toNat):=λn=>(l.kept n.kept).cell 0);(have y1:∀n:KW w6,oa n.wk ⟨Nx,1,Y⟩=V (O a.1.A.name):=λn=>(l.kept n.kept).cell 1);(have y2:∀n:KW w6,oa n.wk ⟨Nx,2,Y⟩=V (U AB (Z a.1.A.args) Ax):=λn=>(l.kept n.kept).cell 2);have HO:nc (∀n:KW w6,Calls prog 23 #[j3 (V ⟨pb,0,Y⟩),O a.1.A.name] n.wk λe LE=>e=kt (X J HD)/\∃m:KW w6,LE=m.wk):=by
              intro n;have h:=Mq pb _ b a.1.A.name n.wk (hP.kept (o.trans n.kept)) (d.out.1.kept (o.trans n.kept)) HK.out.1 HK.out.2.1;rw[Aa K6]at h;exact Calls.zo h
             clear x0 x1 x2;have T0:=KW.some w6;refine KV (w0:=w6) (by kernel_rfl) (by kernel_rfl) (re _ _) ?_
             repeat (go_big_quiet_step ((go_at_call 23;exact HO _)))
             refine wpQuiet_nil ?_;intro _ Jx;obtain⟨⟨w7,E⟩,LM⟩:=Jx;subst LM
             try simp only
             clear y0 y1 y2 HO;have B9:=o.trans E;have U0:=HF.kept E;have TL:=(l.kept E).cell 3;simp at TL;by_cases Q:HD=(Z a.1.A.args:Int)
             ·(have L0:(HD !=(Z a.1.A.args:Int))=K:=by simp[Q]);have FO:=Ab (F.out (by simp only[Ci,k3,Aa K6,L0,pK]));clear HY F k3 HU LB LS x3 l HF o E Q;go_wp2_with fail
              go_roundw
              case rel=>exact⟨m+1,by go_num,by omega,FO,B9,U0⟩
              case measure=>simp[intOf];omega
             ·(have L0:(HD !=(Z a.1.A.args:Int))=jj:=by simp[Q]);have t:nc (R=(4,(a.1.A.at_:Int))):=HY.out (by simp only[Ci,k3,Aa K6,L0,pE]);clear HY F k3 HU LB LS x3 l HF o E Q;go_wp2_with fail
              go_quiet (fail)
              (go_wp2_with fail);go_ret2;rw[t.out];exact⟨rfl,B9.drewN _⟩
           .have RB:nc (c.bl.find? (Ci b)=Y):=by
             have h:=H.out;rw[mz (by omega)]at h;show _=_;rw[oM];intro x hx hf;(have:c.bl.any (Ci b)=jj:=by rw[nX];exact⟨x,hx,hf⟩);rw[h]at this;cases this
            have T:=Ya c.head c.hv c.bv c.bl _ f.args f.body f.lits (by omega) (λp hp=>by have:=HK.out.2.2 b[k] (mw W) p (by rw[u.out.1];exact hp);exact this) RI;rw[u.out.2.1,u.out.2.2]at T;simp only[CS]at T;have HT:=Ab T;obtain⟨sf,RE⟩:=rd (Ee c.head c.bl);have H5:=Ab RE;(have VR: -1<=sf/\sf<=9223372036854775806->True:=λ_=>trivial);clear VR T f RE;(go_wp2_with fail);refine HT.mono ?_;rintro e w7 ⟨rfl,E⟩;rw[Aa H5];have B9:=D.trans E;clear HT E D C q0 q1 q2 q3;by_cases NN:0<=sf
            .have t:nc (R=(5,sf)):=Bx.out _ (by unfold Cv;rw[mJ B.out.1,mJ B.out.2,mJ (by rw[FB.out];exact oV),mJ HX.out,mJ IA.out,RB.out];simp only;rw[Aa H5,mK NN]);(go_wp2_with fail);go_ret2;rw[t.out];exact⟨rfl,B9⟩
            .have SP:nc (∀j (hj:j<Z b),j<k+1->Cv b j b[j]=Y):=by
              intro j hj W3;by_cases S1:j<k
              .exact HC.out j hj S1
              ·(have:j=k:=by omega);subst this;rw[u.out.1];unfold Cv;rw[mJ B.out.1,mJ B.out.2,mJ (by rw[FB.out];exact oV),mJ HX.out,mJ IA.out,RB.out];simp only;rw[Aa H5,mJ NN]
             go_wp2_with fail
             go_roundw
             case rel=>exact⟨k+1,by go_num,by omega,SP,B9⟩
             case measure=>simp[intOf];omega
         ·(have M0:(ar !=(Z c.head.args:Int))=jj:=by simp[Q]);have t:nc (R=(4,(c.head.at_:Int))):=Bx.out _ (by unfold Cv;rw[mJ B.out.1,mJ B.out.2,mJ (by rw[FB.out];exact oV),mJ HX.out,mK (by rw[Aa KA];exact Q)]);clear Q;go_wp2_with fail
          go_quiet (fail)
          (go_wp2_with fail);go_ret2;rw[t.out];exact⟨rfl,H4.drewN _⟩
  .have QR:nc (R=match b.findSome? (D4 b)with|some r=>r|none=>(0,0)):=by
    rw[<-d.out.2.2];exact Wt (λj hj=>HC.out j hj (by omega))
   have LD:nc (Z b<=1000000/\(∀c∈b,Z c.bl<=1000000)/\Z (DD b)<=900000):=⟨by omega,λc' HG=>by have:=d.out.2.1.body c' HG;omega,d.out.2.1.atoms⟩;clear HC;(go_wp2_with fail);clear G
   go_loopw [11] (λi wr=>∃q:Nat,i=X J q/\q<=Z b/\nc ((b.take q).findSome? (D4 b)=Y)/\Ac [] w wr) (λi _=>Z b-(intOf i).toNat)
   case atStart=>exact⟨0,rfl,mO _,by show _=_;simp,y⟩
   case round=>
    clear y;obtain⟨q,rfl,hq,HQ,y⟩:=hrel;have G:=(hP.kept y).cell 0;simp at G;by_cases A2:q<Z b
    .obtain⟨g,SS,he,RT,Mo⟩:=AC d.out.1.row (λc _=>B8 c) q A2;clear Mo;simp only[mu]at he;obtain⟨rfl,_,rfl⟩:=he;have NY:=d.out.1.each b[q] (mw A2);obtain⟨E0,EM,BA⟩:=Al NY.body;obtain⟨c,I⟩:=rd (b[q]);rw[I]at BA;have u:nc (b[q]=c/\c.bv=U E0 (Z c.bl) EM):=⟨I,BA⟩;(have TH:Z c.bl<=1000:=by have:=d.out.2.1.body b[q] (mw A2);rw[I]at this;exact this);clear NY BA I;(go_wp2_with fail);clear G
     go_loopw [12] (λi wq=>∃m:Nat,i=X J m/\m<=Z c.bl/\nc ((c.bl.take m).any (Fq b c)=K)/\Ac [] w wq) (λi _=>Z c.bl-(intOf i).toNat)
     case atStart=>exact⟨0,rfl,mO _,by show _=_;simp,y⟩
     case round=>
      clear y;obtain⟨m,rfl,hm,H,D⟩:=hrel;have G:=(hP.kept D).cell 0;simp at G;obtain⟨c0,_,_,c3,_⟩:=VZ d.out.1 D A2;rw[u.out.1]at c0 c3;rw[u.out.2]at c3;have f:=(d.out.1.kept D).each b[q] (mw A2);rw[u.out.1]at f;by_cases z:m<Z c.bl
      .obtain⟨gb,NA,M,d0,d1,d2,d3,d4,d5,d6,d7,d8⟩:=V0 f z;rw[u.out.2]at M;simp only[mu]at M;obtain⟨rfl,_,rfl⟩:=M;obtain⟨AB,Ax,B0⟩:=Al (f.lits c.bl[m] (mw z));rw[B0]at d2;clear f B0;obtain⟨a,P⟩:=rd (c.bl[m]);rw[P]at d0 d1 d2 d3 d4 d5 d6 d7 d8;have HY:nc (Fq b c a=jj->R=(6,(a.1.at_:Int))):=by
        intro ho;have h1:D4 b b[q]=V (6,(a.1.at_:Int)):=by
         unfold D4;rw[u.out.1,F8 _ _ m z H.out (by rw[P];exact ho),P];rfl
        rw[QR.out,Hz _ _ q A2 HQ.out h1]
       have F:nc (Fq b c a=K->(c.bl.take (m+1)).any (Fq b c)=K):=by
        intro ho;rw[Do _ _ m z H.out,P];exact ho
       clear P;have IJ:((a.1.kind.toNat:Int)==33)=(a.1.kind==33):=Cy _ 33;cases hkd:(a.1.kind==33)with
       |false=>
        rw[hkd]at IJ;have FO:=Ab (F.out (by simp[Fq,hkd]));clear HY F hkd;go_wp2_with fail
        go_roundw
        case rel=>exact⟨m+1,by go_num,by omega,FO,D.alloc _⟩
        case measure=>simp[intOf];omega
       |true=>
        rw[hkd]at IJ;(go_wp2_with fail);clear d0 d1 d2 d3 d4 d5 d6 d7 d8 G c0 c3 IJ;have l:=rf wr [X .u8 a.1.kind.toNat,O a.1.A.name,U AB (Z a.1.A.args) Ax,X J a.1.A.at_,X .u8 a.1.L.v.toNat,O a.1.L.s,X .u8 a.1.R.v.toNat,O a.1.R.s,X J a.1.at_] 95;have o:=D.alloc (j1 [X .u8 a.1.kind.toNat,O a.1.A.name,U AB (Z a.1.A.args) Ax,X J a.1.A.at_,X .u8 a.1.L.v.toNat,O a.1.L.s,X .u8 a.1.R.v.toNat,O a.1.R.s,X J a.1.at_].toArray 95);clear D;generalize wr.alloc (j1 [X .u8 a.1.kind.toNat,O a.1.A.name,U AB (Z a.1.A.args) Ax,X J a.1.A.at_,X .u8 a.1.L.v.toNat,O a.1.L.s,X .u8 a.1.R.v.toNat,O a.1.R.s,X J a.1.at_].toArray 95)=w6 at l o⊢;generalize wr.heap.size=Nx at l⊢;(have y1:∀n:KW w6,oa n.wk ⟨Nx,1,Y⟩=V (O a.1.A.name):=λn=>(l.kept n.kept).cell 1);(have y2:∀n:KW w6,oa n.wk ⟨pb,0,Y⟩=V (U (V ⟨g,0,Y⟩) (Z b) FF):=λn=>(hP.kept (o.trans n.kept)).cell 0);(have y3:∀n:KW w6,oa n.wk ⟨g,q*5,Y⟩=V (O c.head.name):=λn=>by have h:=(VZ d.out.1 (o.trans n.kept) A2).1;rw[u.out.1]at h;exact h);obtain⟨rb,QQ⟩:=rd (IC b a.1.A.name c.head.name);have H7:=Ab QQ;have HO:nc (∀n:KW w6,Calls prog 85 #[j3 (V ⟨pb,0,Y⟩),O a.1.A.name,O c.head.name] n.wk λe LE=>e=kt (q8 rb)/\∃m:KW w6,LE=m.wk):=by
         intro n;have h:=Wd pb _ b a.1.A.name c.head.name n.wk (hP.kept (o.trans n.kept)) (d.out.1.kept (o.trans n.kept)) LD.out.1 LD.out.2.1 LD.out.2.2;rw[Aa H7]at h;exact Calls.zo h
        (have W0:(q:Int)<(Z b:Int):=by omega);clear QQ;have T0:=KW.some w6;refine KV (w0:=w6) (by kernel_rfl) (by kernel_rfl) (re _ _) ?_
        repeat (go_big_quiet_step ((go_at_call 85;exact HO _)))
        refine wpQuiet_nil ?_;intro _ Jx;obtain⟨⟨w7,E⟩,LM⟩:=Jx;subst LM
        try simp only
        clear y1 y2 y3 HO;have B9:=o.trans E;have x8:=(l.kept E).cell 8;simp at x8;cases rb with
        |true=>
         have t:nc (R=(6,(a.1.at_:Int))):=HY.out (by simp only[Fq,hkd,Aa H7,pE]);clear HY F hkd l o E;go_wp2_with fail
         go_quiet (fail)
         (go_wp2_with fail);go_ret2;rw[t.out];exact⟨rfl,B9.drewN _⟩
        |false=>
         have FO:=Ab (F.out (by simp only[Fq,hkd,Aa H7,pK]));clear HY F hkd l o E;go_wp2_with fail
         go_roundw
         case rel=>exact⟨m+1,by go_num,by omega,FO,B9⟩
         case measure=>simp[intOf];omega
      .have HZ:nc ((b.take (q+1)).findSome? (D4 b)=Y):=by
        have h:=H.out;rw[mz (by omega)]at h;show _=_;rw[GE _ _ q A2 HQ.out,u.out.1];unfold D4;have:c.bl.find? (Fq b c)=Y:=by
         rw[oM];intro x hx hf;(have:c.bl.any (Fq b c)=jj:=by rw[nX];exact⟨x,hx,hf⟩);rw[h]at this;cases this
        rw[this];rfl
       go_wp2_with fail
       go_roundw
       case rel=>exact⟨q+1,by go_num,by omega,HZ,D⟩
       case measure=>simp[intOf];omega
    .have HE:nc (R=(0,0)):=by
      have h:=HQ.out;rw[mz (by omega)]at h;show _=_;rw[QR.out,h]
     (go_wp2_with fail);go_ret2;rw[HE.out];exact⟨rfl,y⟩
def Aj(s:zA)(at_:Nat):rc Ca×Nat×Bool:=
 if h:at_<s.size then
  if h2:(Ao s at_).2.2=K/\at_<AF s (Ao s at_).2.1 (Ao s at_).2.2 then
   ((Ao s at_).1::(Aj s (AF s (Ao s at_).2.1 (Ao s at_).2.2)).1,(Aj s (AF s (Ao s at_).2.1 (Ao s at_).2.2)).2)
  else([(Ao s at_).1],AF s (Ao s at_).2.1 (Ao s at_).2.2,(Ao s at_).2.2)
 else([],at_,K)
def FD(s:zA)(a:Nat)(bd:Bool):rc Ca×Nat×Bool:=if bd then([],a,jj)else Aj s a
def M7{c:Ca}(e:n<s.size)(b:Ao s n=(c,m,B)):
  Aj s n=(c::(FD s (AF s m B) B).1,(FD s (AF s m B) B).2):=by
 conv=>lhs;rw[Aj]
 rw[dif_pos e];cases B with
 |true=>rw[dif_neg (by rw[b];simp)];rw[b];rfl
 |false=>
  have d:=Kz (s:=s) (at_:=n) (by rw[b]);rw[b]at d;have f:=Lf s m K;rw[dif_pos (by rw[b];exact⟨rfl,by simp only at d⊢;omega⟩),b];rfl
def Gh{a:Nat}(b:¬a<s.size):Aj s a=([],a,K):=by
 rw[Aj,dif_neg b]
def Wb(s:zA)(t:AJ):Prop:=t.v=0->0<t.s.size/\t.s.size<=s.size
def Kp(s:zA)(i j:Nat)(h:j<=s.size):(s.extract i j).size=j-i:=by
 rw[n7,pr h]
def Yn(h:(AY s n K).2.2=K)(d:n<=s.size):0<(AY s n K).1.size/\(AY s n K).1.size<=s.size:=by
 have c:=Bp s n d;have a:=C0 AA s _ c;have e:=CD AA s (Ae s n);unfold AY at h⊢;simp only[mC,if_false]at h⊢;split at h
 .cases h
 .rename_i b;simp only[b,if_false];rw[Kp _ _ _ a];omega
def KU(h:(Az s n K).2.2=K)(j:n<=s.size):Wb s (Az s n K).1:=by
 have e:=Bp s n j;intro a;unfold Az at h a⊢;simp only[mC,if_false]at h a⊢;split at h
 .rename_i d;simp only[d,dite_true]at a⊢;split at h
  .rename_i b;simp only[b,if_true]at a;rw[a]at b;exact absurd b (by decide)
  .rename_i b;simp only[b,if_false,mC]at a⊢;split at h
   .rename_i c;simp only[c,if_true];exact Yn h e
   .rename_i c;simp only[c,if_false,mC];split at h
    .cases h
    .rename_i i;simp only[i,if_false];have f:=C0 Ap s _ e;(have g:Ap s[Ae s n]=jj:=by simpa using c);have l:=Co Ap s _ d g;have k:=CD Ap s (Ae s n+1);show 0<(s.extract (Ae s n) (AK Ap s (Ae s n))).size/\_;rw[Kp _ _ _ f];omega
 .cases h
def YK(s:zA)(a:Nat)(d:a<=s.size):Z (Cq s a).1<=s.size-a+1/\((Cq s a).2.2=K->∀t∈(Cq s a).1,Wb s t):=by
 fun_induction Cq s a with
 |case1 a hc _ _ ih=>
  have f:=Dm s _ (Az s a K).2.2 44 (Fh s a K d);obtain⟨h,g⟩:=ih f;have i:=hc.2.1;refine⟨by simp only[mL];omega,λc t b=>?_⟩;rcases mA.1 b with rfl|b
  .have e:(Az s a K).2.2=K:=by
    have:=hc.1;simp only[mV,oJ]at this;exact this.1
   exact KU e d
  .exact g c t b
 |case2 a hc=>
  refine⟨by simp,λc t b=>?_⟩;simp only[my]at b;subst b;exact KU c d
def R4(s:zA)(p:Nat×Bool)(a:p.1<=s.size):Z (DZ s p).1<=s.size+1/\((DZ s p).2.2=K->∀t∈(DZ s p).1,Wb s t):=by
 unfold DZ;split
 .exact⟨by simp,λh=>by cases h⟩
 .have h:=YK s p.1 a;exact⟨by omega,h.2⟩
def ip(s:zA)(a:Dr):Prop:=∀t∈a.args,Wb s t
def PB(s:zA)(a:Nat)(c:Bool)(b:a<=s.size):Z (A4 s a c).1.args<=s.size+1:=by
 unfold A4;exact(R4 s _ (Dm _ _ _ _ (Hk _ _ _ (Gx _ _ _ b)))).1
def TU(h:(Bk s n B g).2=K):B=K:=by
 unfold Bk at h;cases B<;>simp_all
def Nu(h:(A4 s n B).2.2=K)(a:n<=s.size):ip s (A4 s n B).1:=by
 unfold A4 at h⊢;exact(R4 s _ (Dm _ _ _ _ (Hk _ _ _ (Gx _ _ _ a)))).2 (TU h)
structure ej(s:zA)(x:Bw):Prop where
 atom:ip s x.A
 left:(x.kind==97||x.kind==33)=K->Wb s x.L
 right:(x.kind==97||x.kind==33)=K->Wb s x.R
def XF(s:zA)(a:Nat)(c:a<=s.size):Z (CI s a).1.A.args<=s.size+1:=by
 have b:=Bp s a c;unfold CI;simp only;split
 .rename_i d;have:=Fe d;exact PB s _ _ (by omega)
 .split
  .exact PB s _ _ b
  .unfold In;split<;>simp[Hr]
def T4(h:(CI s n).2.2=K)(i:n<=s.size):ej s (CI s n).1:=by
 have f:=Bp s n i;unfold CI at h⊢;simp only at h⊢;split at h
 .rename_i c;simp only[c,if_true];have:=Fe c;exact⟨Nu h (by omega),λa=>by simp at a,λa=>by simp at a⟩
 .rename_i c;simp only[c,mC,if_false];split at h
  .rename_i d;simp only[d,if_true];exact⟨Nu h f,λa=>by simp at a,λa=>by simp at a⟩
  .rename_i d;simp only[d,mC,if_false];unfold In at h⊢;split at h
   .rename_i b;simp only[b,if_true];simp only[mV,oJ,om]at b;have j:AF s (Az s (Ae s n) K).2.1 (Az s (Ae s n) K).2.2<s.size:=by
     rcases b.2 with(e|e)|e<;>exact Fe e
    exact⟨λt g=>by simp[Hr]at g,λ_=>KU b.1 f,λ_=>KU h (by omega)⟩
   .cases h
def KR(s:zA)(a:Nat)(c:a<=s.size):Z (Bg s a).1<=s.size-a+1/\(∀x∈(Bg s a).1,Z x.A.args<=s.size+1)/\((Bg s a).2.2=K->∀x∈(Bg s a).1,ej s x):=by
 fun_induction Bg s a with
 |case1 a hc _ _ ih=>
  have g:=Dm s _ (CI s a).2.2 44 (JC s a c);obtain⟨i,h,f⟩:=ih g;have j:=hc.2.1;refine⟨by simp only[mL];omega,λx b=>?_,λd x b=>?_⟩
  .rcases mA.1 b with rfl|b
   .exact XF s a c
   .exact h x b
  .rcases mA.1 b with rfl|b
   .have e:(CI s a).2.2=K:=by
     have:=hc.1;simp only[mV,oJ]at this;exact this.1
    exact T4 e c
   .exact f d x b
 |case2 a hc=>
  refine⟨by simp,λx b=>?_,λd x b=>?_⟩
  .simp only[my]at b;subst b;exact XF s a c
  .simp only[my]at b;subst b;exact T4 d c
structure ei(s:zA)(c:Ca):Prop where
 head:ip s c.head
 body:∀x∈c.body,ej s x
structure kQ(s:zA)(c:Ca):Prop where
 head:Z c.head.args<=s.size+1
 body:Z c.body<=s.size+1
 lits:∀x∈c.body,Z x.A.args<=s.size+1
def Rl(s:zA)(c:Nat)(a:Bool)(j:c<=s.size):Z (Df s c a).1<=s.size+1/\(∀x∈(Df s c a).1,Z x.A.args<=s.size+1)/\((Df s c a).2.2=K->a=K/\∀x∈(Df s c a).1,ej s x):=by
 unfold Df;split
 .rename_i k;have e:a=K:=by cases a<;>simp_all
  split
  .rename_i b;have i:=Fe b;obtain⟨g,f,d⟩:=KR s (Cg s c a 58+1) (by omega);exact⟨by omega,f,λh=>⟨e,d h⟩⟩
  .exact⟨by simp,λx b=>by simp at b,λh=>by cases h⟩
 .exact⟨by simp,λx b=>by simp at b,λh=>⟨h,λx b=>by simp at b⟩⟩
def WY(s:zA)(a:Nat)(d:a<=s.size):kQ s (Ao s a).1:=by
 have b:=Bp s a d;have c:=Rl s (A4 s (Ae s a) K).2.1 (A4 s (Ae s a) K).2.2 (IZ _ _ _ b);unfold Ao;exact⟨PB s _ _ b,c.1,c.2.1⟩
def Va{at_:Nat}(h:(Ao s at_).2.2=K)(c:at_<=s.size):ei s (Ao s at_).1:=by
 have a:=Bp s at_ c;have d:=Rl s (A4 s (Ae s at_) K).2.1 (A4 s (Ae s at_) K).2.2 (IZ _ _ _ a);unfold Ao at h⊢;have b:=d.2.2 (TU h);exact⟨Nu b.1 a,b.2⟩
theorem Tryz.yP:(Tryz.prog.info? 82).map (λi=>(i.zero,i.size,i.bytes))=V (V (oj #[O ⟨#[]⟩,U Y 0 0,X J 0,U Y 0 0,X J 0]),5,80):=by kernel_rfl
def AV.erase(c:AV):Ca:=⟨c.head,c.bl.map qW,c.at_⟩
structure Np(w:ly)(base:Nat)(lv:ml)(c:AV):Prop where
 args:oi w base 93 2 c.hv (Z c.head.args) (c.head.args.flatMap AQ)
 body:oi w base 95 9 c.bv (Z c.bl) (c.bl.flatMap A6)
 lits:∀p∈c.bl,Cd w base p
 yj:Ce c.hv lv
 yh:Ce c.bv lv
 yl:∀p∈c.bl,Ce p.2 lv
def Np.cvIn{c:AV}(h:Np w n z c):Ze w c:=
 ⟨Ak h.args (mO _),Ak h.body (mO _),λp a=>Ak (h.lits p a) (mO _)⟩
def Np.kept{M:rc Nat}{w w':ly}{b:Nat}{d:ml}{c:AV}(h:Np w b d c)(k:Ac M w w')(a:∀i,i∈M->i<b:=by simp):Np w' b d c:=
 ⟨Ad h.args k a,Ad h.body k a,λp e=>(h.lits p e).kept k a,h.yj,h.yh,h.yl⟩
def GQ{v a:ml}(h:oi w m T i v n y)(k:w.grownBy u a.ownBlock)(b:Ce v a):oi u m T i v n y:=
 h.kept k (by
  cases hv:v.ownBlock with
  |none=>exact lo rfl
  |some k=>exact lx (λT=>b k hv T.symm))
def Np.grown{c:AV}{g n cap H:Nat}(h:Np w m z c)(k:w.grownBy v z.ownBlock)(b:z.ownBlock=V g\/g=H)(d:w.heap.size<=H):Np v m (U (V ⟨g,0,Y⟩) n cap) c:=
 ⟨GQ h.args k h.yj,GQ h.body k h.yh,λp a=>GQ (h.lits p a) k (h.yl p a),Ce.zh h.yj h.args b d,Ce.zh h.yh h.body b d,λp a=>Ce.zh (h.yl p a) (h.lits p a) b d⟩
def DK(s:zA)(e at_:Int):Prop:=
 if 300<s.size then e=1/\at_=0
 else if(Aj s (Ae s 0)).2.2 then e=2/\at_=(Aj s (Ae s 0)).2.1
 else∃cs:rc AV,cs.map AV.erase=(Aj s (Ae s 0)).1/\(e,at_)=CQ cs
def Ww(a:rc AV)(N:Nat)(h:∀c∈a,Z c.bl<=N):Z (DD a)<=Z a*N:=by
 unfold DD
 induction a with
 |nil=>simp
 |cons c a ih=>
  have f:=ih (λd b=>h d (by simp[b]));have e:=h c (by simp);have g:=oo MP c.bl;simp only[mX,mM,mI,mL];rw[oZ];omega
def iT(l:s.size<=300){d:rc AV}(k:Z d<=300)(g:∀c∈d,kQ s c.erase)(j:∀c∈d,ei s c.erase):Og d:=by
 have i:∀c∈d,Z c.bl<=301:=λc a=>by have:=(g c a).body;simp only[AV.erase,mI]at this;omega
 refine⟨by omega,λc a=>by have:=i c a;omega,λc a=>by have:=(g c a).head;simp only[AV.erase]at this;omega,λc a p f=>?_,?_,λc a=>⟨?_,λp f=>?_⟩⟩
 .have:=(g c a).lits p.1 (by simp only[AV.erase];exact mR f);omega
 .have:=Ww d 301 i;have:Z d*301<=300*301:=nB _ k;omega
 .intro t b e;have:=(j c a).head t b e;omega
 .have h:=(j c a).body p.1 (by simp only[AV.erase];exact mR f);intro t b e;unfold AG at b;cases ha:MP p with
  |true=>
   rw[ha]at b;have:=h.atom t (by simpa using b) e;omega
  |false=>
   rw[ha]at b;simp only[mC,if_false,mA,nI,or_false]at b;rcases b with rfl|rfl
   .have:=h.left ha e;omega
   .have:=h.right ha e;omega
def Zb{a:rc AV}{c:AV}{r:Int×Int}(h:Cv a i c=V r):r.1≠0:=by
 unfold Cv at h
 repeat (split at h;· first|cases h;done|(simp only[mB]at h;subst h;simp))
 all_goals first|cases h;done|(simp only[mB]at h;subst h;simp)|skip
def Q2{b:rc AV}:∀(l:rc AV) (i:Nat) {r:Int×Int},ER b i l=V r->r.1≠0
 |[],_,_,h=>by simp[ER]at h
 |c::l,i,r,h=>by
  rw[ER]at h;split at h
  .rename_i d a;simp only[mB]at h;subst h;exact Zb a
  .exact Q2 l (i+1) h
def Jb{cs:rc AV}(h:(CQ cs).1=0):CQ cs=(0,0):=by
 unfold CQ at h⊢;split
 .rename_i r b;rw[b]at h;exact absurd h (Q2 _ _ b)
 .rename_i b;rw[b]at h;simp only at h;split
  .rename_i r d;rw[d]at h;obtain⟨e,c,f,_,a,_⟩:=List.findSome?_eq_some_iff.1 d;unfold D4 at a;cases hf:c.bl.find? (Fq cs c)with
   |none=>rw[hf]at a;simp at a
   |some p=>rw[hf]at a;simp only[ox,mB]at a;rw[<-a]at h;simp at h
  .rfl
structure V9(s:zA)(acc:rc AV)(a:Nat)(bd:Bool)(R:rc Ca×Nat×Bool):Prop where
 rest:(acc.map AV.erase++(FD s a bd).1,(FD s a bd).2)=R
 len:Z acc<=a+1
 len2:bd=K->Z acc<=a
 lens:∀c∈acc,kQ s c.erase
 zM:bd=K->∀c∈acc,ei s c.erase
def V9.step{l:rc AV}{R:rc Ca×Nat×Bool}{c:AV}(h:V9 s l n K R)(q:n<s.size)(f:Ao s n=(c.erase,m,B)):
  AF s m B<=s.size/\2*(s.size-AF s m B)+(if B then 0 else 1)<2*(s.size-n)+1/\V9 s (l++[c]) (AF s m B) B R:=by
 have i:=IH s n (by omega);have v:=Lf s m B;have j:=WY s n (by omega);have r:n<=m:=by
  have w:=B1 s n;have z:=L7 s (Ae s n) K;have t:=Ye s (A4 s (Ae s n) K).2.1 (A4 s (Ae s n) K).2.2;have y:=DE s (Df s (A4 s (Ae s n) K).2.1 (A4 s (Ae s n) K).2.2).2.1 (Df s (A4 s (Ae s n) K).2.1 (A4 s (Ae s n) K).2.2).2.2 46;have e:m=(Ao s n).2.1:=by rw[f]
  rw[e];show n<=Cg s _ _ 46;omega
 have k:B=K->n<m:=λd=>by
  have:=Kz (s:=s) (at_:=n) (by rw[f];exact d);rw[f]at this;exact this
 have o:B=K->ei s c.erase:=λd=>by
  have:=Va (s:=s) (at_:=n) (by rw[f];exact d) (by omega);rw[f]at this;exact this
 rw[f]at i j;simp only at i j;have p:=Gx s m B i;have u:=h.len2 rfl;refine⟨p,?_,⟨?_,?_,?_,?_,?_⟩⟩
 .cases B with
  |true=>simp;omega
  |false=>have:=k rfl;simp;omega
 .have g:=h.rest;unfold FD at g;simp only[mC,if_false]at g;rw[M7 q f]at g;rw[<-g];simp
 .simp;omega
 .intro d;have:=k d;simp;omega
 .intro x b;rcases mF.1 b with b|b
  .exact h.lens x b
  .simp only[my]at b;subst b;exact j
 .intro d x b;rcases mF.1 b with b|b
  .exact h.zM rfl x b
  .simp only[my]at b;subst b;exact o d
def Sr(s:zA)(pv:ml)(er:Int)(w:ly):Prop:=
 er=0->∃(pb:Nat) (lad:Option Addr) (lcp:Nat) (cs:rc AV),pv=j3 (V ⟨pb,0,Y⟩)/\AI w pb [U lad (Z cs) lcp] 76/\CF w (U lad (Z cs) lcp) cs/\Og cs/\s.size<=300/\(Aj s (Ae s 0)).2.2=K/\cs.map AV.erase=(Aj s (Ae s 0)).1/\CQ cs=(0,0)
theorem JP(s:zA)(w:ly)(KD:s.size<=9223372036854775807):
  Calls prog 15 #[O s] w λe w'=>∃(pv:ml) (y z:Int),e=kt (.tuple #[pv,X J y,X J z])/\DK s y z/\Sr s pv y w'/\Ac [] w w':=by
 by_cases HC:300<s.size
 .have HI:nc (DK s 1 0):=by show DK _ _ _;unfold DK;rw[mK HC];exact⟨rfl,rfl⟩
  go_enter func15,ntmps15;go_wp2;go_ret3;exact⟨_,1,0,rfl,HI.out,(λh=>by cases h),re _ _⟩
 .have hs:s.size<=300:=by omega
  have EM:s.size<=1000000:=by omega
  obtain⟨i0,LB,JA,LM,K7⟩:=nC Tryz.yP;obtain⟨j,hj⟩:=rd (Ae s 0);have LL:j<=s.size:=by have:=Bp s 0 (mO _);omega
  obtain⟨D,E,B,B2⟩:∃D E B,Aj s j=(D,E,B):=⟨_,_,_,rfl⟩;have HI:nc (∀y z:Int,(if B then y=2/\z=(E:Int)else∃cs:rc AV,cs.map AV.erase=D/\(y,z)=CQ cs)->DK s y z):=by
   intro y z h;unfold DK;rw[mJ HC,hj,B2];exact h
  have R:nc (AF s 0 K=j/\Aj s j=(D,E,B)):=⟨hj,B2⟩;clear hj B2 HC KD;go_enter func15,ntmps15;go_wp2_with fail
  have HY:AI ((w.alloc (j1 #[O s,X J 0,q8 K] 73)).alloc (j1 #[U Y 0 0] 76)) w.heap.size (B7 s 0 K) 73:=(rf w (B7 s 0 K) 73).alloc _;have HH:AI ((w.alloc (j1 #[O s,X J 0,q8 K] 73)).alloc (j1 #[U Y 0 0] 76)) (w.heap.size+1) [U Y 0 0] 76:=by
   have h:=rf (w.alloc (j1 #[O s,X J 0,q8 K] 73)) [U Y 0 0] 76;rw[m9]at h;exact h
  refine(D6 w.heap.size s 0 K _ EM (mO _) HY).mono ?_;rintro e w2 ⟨rfl,i,Go⟩;rw[R.out.1]at i;have l:=HH.kept Go;have HO:Ac [] w w2:=(((re [] w).alloc _).alloc _).trans' Go (by simp);clear HY HH Go;go_wp2_with fail
  go_loopg [] (2*(s.size-j)+1) (λgk wr=>∃(a:Nat) (bd:Bool) (b:rc AV) (lv:ml),a<=s.size/\gk=2*(s.size-a)+(if bd then 0 else 1)/\nc (V9 s b a bd (D,E,B))/\AI wr w.heap.size (B7 s a bd) 73/\AI wr (w.heap.size+1) [lv] 76/\
   oi wr (w.heap.size+2) 82 5 lv (Z b) (b.flatMap Cb)/\nc (∀c∈b,Np wr (w.heap.size+2) lv c)/\Ac [] w wr)
  case atStart=>
   refine⟨j,K,[],U Y 0 0,LL,by simp,⟨?_,by simp,by simp,by simp,by simp⟩,i,l,mS _ _ _ _,λc g=>by simp at g,HO⟩;unfold FD;simp[R.out.2]
  case round=>
   clear i l HO;obtain⟨a,bd,b,lv,ha,q,A,i,l,m,FP,hK⟩:=hrel;have HK:=Ab q;clear q;obtain⟨r,u,rfl⟩:=Al m;have M0:=i.lt;have M2:=l.lt;have c0:=i.cell 0;have c1:=i.cell 1;have c2:=i.cell 2;have p0:=l.cell 0;have pf:=l.frozen 0;simp[B7]at c0 c1 c2 p0;cases bd with
   |true=>
    (have FA:nc ((b.map AV.erase,a,jj)=(D,E,B)):=by have h:=A.out.rest;show _=_;simpa[FD] using h);go_wp2_with fail
    go_quiet (fail)
    (go_wp2_with fail);go_ret3;have d:=FA.out;simp only[ny]at d;exact⟨_,2,a,rfl,HI.out 2 a (by rw[<-d.2.2,<-d.2.1];exact⟨rfl,rfl⟩),(λh=>by cases h),hK.drewN _⟩
   |false=>
    by_cases HN:a<s.size
    ·(have Nj:(a:Int)<(s.size:Int):=by omega);obtain⟨f,Q,F,HE⟩:∃f Q F,Ao s a=(f,Q,F):=⟨_,_,_,rfl⟩;(have MB:Q<=s.size:=by have:=IH s a ha;rw[HE]at this;exact this);have MN:Z b<=a:=A.out.len2 rfl;have H3:=Ab HE;clear HE;go_wp2_with fail
     go_region_law
      (first
       |(go_simp;go_at_call 44;refine(Rf w.heap.size s a _ EM ha (by first|exact i|exact i.drew)).mono ?_;rintro e G ⟨hv,bv,x,rfl,hH,FL,B0,FO,CC,I⟩;rw[Aa H3]at hH FL CC⊢;obtain⟨W,S,rfl⟩:=Al hH;obtain⟨P,N,rfl⟩:=Al B0;have AT:=l.drew.kept I;have pc:=AT.cell 0;have K5:=AT.frozen 0;have HF:=λo=>(AT.alloc o).cell 0;simp at pc HF;simp only[DV])
       |(refine pi _ (by rfl) _ _ _ (by rfl) (w.heap.size+2) 82 i0 _ 5 80 underlying74 LB JA LM K7 rfl (by omega) (U r (Z b) u) (Z b) (b.flatMap Cb) (by rfl) ((Ad (C1 m) I).alloc _) ⟨G.heap.size,0,Y⟩ 1 1 (DV f (U W (Z f.head.args) S) (U P (Z x) N)) (by rfl) (by rfl) (mW (m7 G _)) (by simp[Value.oneCell',DV]) (by omega) (by unfold maxLen;omega) (by omega) (by simp;have:=I.size;simp at this;omega) (G.heap.size+1) (by simp) ?_;intro v cap w5 FT AO HU K8;have BS:=(AT.alloc _).grown AO (Ba m (w.heap.size+1) (by omega));have H7:=BS.cell 0;have K3:=BS.frozen 0;simp at H7))
     all_goals
      have MY:=I.size;have M3:=(FT.lt v rfl).1;have H2:AV.erase ⟨f.head,U W (Z f.head.args) S,U P (Z x) N,x,f.at_⟩=f:=by
       unfold AV.erase;simp only[FL]
      obtain⟨H,Bx⟩:∃H:AV,H=⟨f.head,U W (Z f.head.args) S,U P (Z x) N,x,f.at_⟩:=⟨_,rfl⟩;rw[<-Bx]at H2;(have HL:DV f (U W (Z f.head.args) S) (U P (Z x) N)=Cb H:=by rw[Bx];rfl);have H6:=Ab (A.out.step HN (by rw[Aa H3,H2]));have HM:Np G (w.heap.size+2) (U r (Z b) u) H:=by
       (have FF:w.heap.size+2<=wr.heap.size:=by omega);have e1:Ce (U W (Z f.head.args) S) (U r (Z b) u):=λk q he=>by
        have h1:wr.heap.size<=k:=(hH.lt k q).1;have d:=(m.lt k he).2;omega
       have e2:Ce (U P (Z x) N) (U r (Z b) u):=λk q he=>by
        have h1:wr.heap.size<=k:=(B0.lt k q).1;have d:=(m.lt k he).2;omega
       have e3:∀p∈x,Ce p.2 (U r (Z b) u):=λp hp k q he=>by
        have h1:wr.heap.size<=k:=(World.ownsRow.lt (FO p hp) k q).1;have d:=(m.lt k he).2;omega
       rw[Bx];exact⟨Ak hH FF,Ak B0 FF,λp hp=>Ak (FO p hp) FF,e1,e2,e3⟩
      have H0:nc (∀c∈b++[H],Np (w5.setCell ⟨w.heap.size+1,0,Y⟩ (U (V ⟨v,0,Y⟩) (Z b+1) cap)) (w.heap.size+2) (U (V ⟨v,0,Y⟩) (Z b+1) cap) c):=by
       intro c g;have h0:Np G (w.heap.size+2) (U r (Z b) u) c:=by
        rcases mF.1 g with g|g
        .exact((FP.out c g).kept (w':=wr.drew) (M:=[]) (re [] wr).drew (by simp)).kept I
        .simp only[my]at g;subst g;exact HM
       (have h1:∀o,Np (G.alloc o) (w.heap.size+2) (U r (Z b) u) c:=λo=>h0.kept ((re [] G).alloc o));have d:=Np.grown (n:=Z b+1) (cap:=cap) (h1 _) AO HU (by simp);exact d.kept ((re [w.heap.size+1] w5).setCell (p:=⟨w.heap.size+1,0,Y⟩) (by simp) _)
      have H1:=((CC.alloc _).grown AO (Ba m w.heap.size (by omega))).zB ⟨w.heap.size+1,0,Y⟩ (by simp) (U (V ⟨v,0,Y⟩) (Z b+1) cap);have HV:=BS.set 0 (U (V ⟨v,0,Y⟩) (Z b+1) cap);have HG:=(((hK.drew.trans' I (by simp)).alloc _).grown AO (λk q=>lx (by have:=(m.lt k q).1;omega))).setCell (p:=⟨w.heap.size+1,0,Y⟩) (by simp) (U (V ⟨v,0,Y⟩) (Z b+1) cap);have B9:=Ah FT (p:=⟨w.heap.size+1,0,Y⟩) (by simp[qX];omega) (U (V ⟨v,0,Y⟩) (Z b+1) cap);rw[HL]at B9;have Ix:=HK;clear FT BS H7 K3 AO HU K8 AT pc K5 HF hH B0 FO CC I HM m i l hK FP c0 c1 c2 p0 pf HL Bx FL;(go_wp2_with fail);refine(D6 w.heap.size s Q F _ EM MB H1).mono ?_;rintro e w6 ⟨rfl,K4,Ax⟩;have IS:=HV.kept Ax;have IA:=Ad B9 Ax;(have K9:nc (∀c∈b++[H],Np w6 (w.heap.size+2) (U (V ⟨v,0,Y⟩) (Z b+1) cap) c):=λc g=>(H0.out c g).kept Ax);have KS:=HG.trans' Ax (by simp);clear H1 HV HG B9 H0 Ax;go_wp2_with fail
      go_roundg (2*(s.size-AF s Q F)+(if F then 0 else 1))
      case measure=>have h1:=H6.2.1;have d:=Aa Ix;simp at d;omega
      case rel=>
       obtain⟨t1,_,t3⟩:=H6;refine⟨AF s Q F,F,b++[H],U (V ⟨v,0,Y⟩) (Z b+1) cap,t1,rfl,t3,K4,IS,?_,K9,KS⟩;simpa using IA
    ·(have FA:nc ((b.map AV.erase,a,K)=(D,E,B)):=by have h:=A.out.rest;show _=_;simpa[FD,Gh HN] using h);(have hd:decide ((a:Int)<(s.size:Int))=K:=by simp;omega);have FC:CF wr (U r (Z b) u) b:=⟨Ak m (mO _),λc g=>(FP.out c g).cvIn⟩;have DT:Og b:=iT hs (by have:=A.out.len2 rfl;omega) A.out.lens (A.out.zM rfl);obtain⟨SP,E0⟩:=rd (CQ b);have EK:=Ab E0;have T:=cK (w.heap.size+1) _ b wr l FC DT;rw[E0]at T;have HT:=Ab T;have LE:=Ab FC;have K1:=Ab DT;clear T E0 FC DT;(go_wp2_with fail);refine HT.mono ?_;rintro e w3 ⟨rfl,BT⟩;have HP:=hK.trans BT;have L0:=Ab (l.kept BT);have LC:=Ab (LE.kept BT);clear HT BT hK c0 c1 c2 p0 pf i l m;have d:=FA.out;simp only[ny]at d;obtain⟨L,sa⟩:=SP;simp only;by_cases C:L=0
     .have HZ:nc (DK s 0 0):=HI.out 0 0 (by rw[<-d.2.2];exact⟨b,d.1,by rw[Jb (by rw[Aa EK];exact C)]⟩);have KA:nc (Sr s (j3 (V ⟨w.heap.size+1,0,Y⟩)) 0 w3):=by
       intro _;refine⟨_,r,u,b,rfl,L0,LC,K1,hs,?_,?_,Jb (by rw[Aa EK];exact C)⟩
       .rw[show Ae s 0=j from R.out.1,R.out.2];exact d.2.2.symm
       .rw[show Ae s 0=j from R.out.1,R.out.2];exact d.1
      (have H8:(L !=0)=K:=by simp[C]);clear d C;(go_wp2_with fail);go_ret3;exact⟨_,0,0,rfl,HZ.out,KA.out,HP⟩
     .have HZ:nc (DK s L sa):=HI.out L sa (by rw[<-d.2.2];exact⟨b,d.1,EK.symm⟩);(have H8:(L !=0)=jj:=by simp[C]);have H9:=Ab C;clear d C;(go_wp2_with fail);go_ret3;exact⟨_,L,sa,rfl,HZ.out,(λh=>absurd h H9),HP⟩
structure Af where
 name:zA
 args:rc zA
structure BP where
 f:Af
 av:ml
def BL(p:BP):rc ml:=[O p.f.name,p.av]
def Ev(w:ly)(p:BP):Prop:=oi w 0 9 1 p.av (Z p.f.args) (p.f.args.flatMap Ai)
def Ev.kept{w w':ly}{p:BP}(h:Ev w p)(k:Ac [] w w'):Ev w' p:=Ad h k
structure QE(f:Af):Prop where
 len:Z f.args<=1000
 each:∀x∈f.args,0<x.size/\x.size<=1000000
def ID:rc zA->rc zA->Bool
 |[],[]=>jj
 |x::l,y::m=>(x.toList==y.toList)&&ID l m
 |_,_=>K
def CV(a b:Af):Bool:=(a.name.toList==b.name.toList)&&ID a.args b.args
def YO:∀(l m:rc zA) (k:Nat) (a:k<Z l) (b:k<Z m),ID (l.drop k) (m.drop k)=((l[k].toList==m[k].toList)&&ID (l.drop (k+1)) (m.drop (k+1)))
 |l,m,k,a,b=>by
  rw[mQ a,mQ b,ID]
def UF:∀{l m:rc zA},ID l m=jj->Z l=Z m
 |[],[],_=>rfl
 |[],_::_,h=>by cases h
 |_::_,[],h=>by cases h
 |_::l,_::m,h=>by
  rw[ID,mV]at h;simp[UF h.2]
def Hn(h:oi w n 9 1 z (Z e) (e.flatMap Ai))(k:Nat)(d:k<Z e):∃g a,z=U (V ⟨g,0,Y⟩) (Z e) a/\oa w ⟨g,k,Y⟩=V (O e[k]):=by
 obtain⟨g,a,f,_,i⟩:=AC h (λc _=>rfl) k d;have b:=i k d 0 (by omega);simp[Ai]at b;exact⟨g,a,f,b⟩
theorem Ux(a b:BP)(w:ly)(v:Ev w a)(t:Ev w b)(A0:Z a.f.args<=1000000)(A2:Z b.f.args<=1000000):
  Calls prog 49 #[oj (j2 (BL a)),oj (j2 (BL b))] w λe w'=>e=kt (q8 (CV a.f b.f))/\Ac [] w w':=by
 obtain⟨⟨j,c⟩,av⟩:=a;obtain⟨⟨g,d⟩,bv⟩:=b;unfold Ev at v t;simp only at v t A0 A2;obtain⟨p,o,rfl⟩:=Al v;obtain⟨m,q,rfl⟩:=Al t;obtain⟨S,D⟩:=rd (CV ⟨j,c⟩ ⟨g,d⟩);rw[D];have s:nc (((j.toList==g.toList)&&ID c d)=S):=D;have HA:=Ab v;have HB:=Ab t;simp only[BL];have l:=Ab (((re [] w).alloc (j1 [O j,U p (Z c) o].toArray 43)).alloc (j1 [O g,U m (Z d) q].toArray 43));have F:=(rf w [O j,U p (Z c) o] 43).alloc (j1 [O g,U m (Z d) q].toArray 43);have L:AI ((w.alloc (j1 [O j,U p (Z c) o].toArray 43)).alloc (j1 [O g,U m (Z d) q].toArray 43)) (w.heap.size+1) [O g,U m (Z d) q] 43:=by
  have M:=rf (w.alloc (j1 [O j,U p (Z c) o].toArray 43)) [O g,U m (Z d) q] 43;rw[show(w.alloc (j1 [O j,U p (Z c) o].toArray 43)).heap.size=w.heap.size+1 from by simp]at M
  exact M
 have B:=Ab F;have C:=Ab L;clear D v t F L;cases hn:(j.toList==g.toList)with
 |false=>
  have r:nc (S=K):=by show _=_;rw[<-Aa s,hn];rfl
  have R:(j.toList !=g.toList)=jj:=by simp[bne,hn]
  clear s;go_enter func49,ntmps49;go_wp2;go_ret;rw[Aa r];exact⟨rfl,l⟩
 |true=>
  have R:(j.toList !=g.toList)=K:=by simp[bne,hn]
  by_cases u:Z c=Z d
  ·(have r:nc (ID (c.drop 0) (d.drop 0)=S):=by show _=_;rw[<-Aa s,hn];rfl);(have G:((Z c:Int) !=(Z d:Int))=K:=by simp[u]);(have Q:((Z c:Int)==(Z d:Int))=jj:=by simp[u]);have H:=Ab u;clear u s;go_enter func49,ntmps49;go_wp2;change Code.wp _ _ _ _ ((w.alloc (j1 [O j,U p (Z c) o].toArray 43)).alloc (j1 [O g,U m (Z d) q].toArray 43));generalize(w.alloc (j1 [O j,U p (Z c) o].toArray 43)).alloc (j1 [O g,U m (Z d) q].toArray 43)=w1 at l B C⊢;generalize w.heap.size=N at B C⊢;clear hn R G Q
   go_loopg [5] (Z c) (λgk i wr=>∃(k:Nat),i=X J k/\k<=Z c/\gk=Z c-k/\nc (ID (c.drop k) (d.drop k)=S)/\nc (Ac [] w wr)/\nc (Ac [] w1 wr))
   case atStart=>exact⟨0,rfl,by omega,rfl,r,l,re _ _⟩
   case round=>
    clear r l;obtain⟨k,rfl,hk,I,z,l,y⟩:=hrel;have HG:=Ab I;clear I;have e1:=(B.kept y).cell 1;have e2:=(C.kept y).cell 1;simp at e1 e2;by_cases E:k<Z c
    ·(have W:k<Z d:=by have:=Aa H;omega);obtain⟨g1,q1,T,d1⟩:=Hn (Ad HA l) k E;obtain⟨g2,q2,P,d2⟩:=Hn (Ad HB l) k W;simp only[mu]at T P;obtain⟨rfl,_,rfl⟩:=T;obtain⟨rfl,_,rfl⟩:=P;have DG:=Ab (YO c d k E W);(have A:nc (∀n,Ac [] w (wr.drewN n)/\Ac [] w1 (wr.drewN n)):=λn=>⟨l.drewN n,y.drewN n⟩);cases hx:(c[k].toList==d[k].toList)with
     |true=>
      (have Ax:(c[k].toList !=d[k].toList)=K:=by simp[bne,hx]);have x:nc (ID (c.drop (k+1)) (d.drop (k+1))=S):=by
       have h:=Aa z;rw[Aa DG,hx]at h;exact h
      go_wp2_with fail
      go_quiet (fail)
      go_wp2
      go_roundg (Z c-(k+1))
      case measure=>have:=Aa HG;omega
      case rel=>exact⟨k+1,by go_num,by omega,rfl,x,(A _).1,(A _).2⟩
     |false=>
      (have Ax:(c[k].toList !=d[k].toList)=jj:=by simp[bne,hx]);have x:nc (S=K):=by
       have h:=Aa z;rw[Aa DG,hx]at h;exact h.symm
      go_wp2_with fail
      go_quiet (fail)
      go_wp2;go_ret;rw[Aa x];exact⟨rfl,(A _).1⟩
    .have x:nc (S=jj):=by
      have h:=Aa z;rw[ni (by omega),ni (by have:=Aa H;omega)]at h;exact h.symm
     go_wp2;go_ret;rw[Aa x];exact⟨rfl,l⟩
  ·(have G:((Z c:Int) !=(Z d:Int))=jj:=by simp[bne];omega);(have Q:((Z c:Int)==(Z d:Int))=K:=by rw[nj];omega);have r:nc (S=K):=by
    show _=_;rw[<-Aa s,hn];cases h:ID c d with
    |false=>rfl
    |true=>exact absurd (UF h) u
   clear s;go_enter func49,ntmps49;go_wp2;go_ret;rw[Aa r];exact⟨rfl,l⟩
def Ey:rc zA->rc zA->Bool
 |[],m=>decide (0<Z m)
 |_::_,[]=>K
 |x::l,y::m=>if x.toList==y.toList then Ey l m else Gv x y
def Ea(a b:Af):Bool:=if a.name.toList==b.name.toList then Ey a.args b.args else qZ a.name.toList b.name.toList
def WM(l m:rc zA)(k:Nat)(a:k<Z l)(b:k<Z m):Ey (l.drop k) (m.drop k)=if l[k].toList==m[k].toList then Ey (l.drop (k+1)) (m.drop (k+1))else Gv l[k] m[k]:=by
 rw[mQ a,mQ b,Ey]
def RF(l m:rc zA)(k:Nat)(h:k<=Z l)(d:¬(k<Z l/\k<Z m))(c:k<=Z m):Ey (l.drop k) (m.drop k)=decide (Z l<Z m):=by
 by_cases b:k<Z l
 .have a:Z m<=k:=by omega
  rw[mQ b,ni a,Ey];simp;omega
 .rw[ni (show Z l<=k by omega),Ey,nF];have:Z l=k:=by omega
  rw[this];by_cases a:k<Z m
  ·(have:0<Z m-k:=by omega);simp[a,this]
  ·(have:¬0<Z m-k:=by omega);simp[a,this]
theorem bO(a b:BP)(w:ly)(t:Ev w a)(s:Ev w b)(G:QE a.f)(B:QE b.f):
  Calls prog 46 #[oj (j2 (BL a)),oj (j2 (BL b))] w λe w'=>e=kt (q8 (Ea a.f b.f))/\Ac [] w w':=by
 obtain⟨⟨j,c⟩,av⟩:=a;obtain⟨⟨g,d⟩,bv⟩:=b;unfold Ev at t s;have EK:=G.len;have BS:=B.len;have AB:=Ab G.each;have P:=Ab B.each;simp only at t s EK BS AB P;clear G B;obtain⟨q,m,rfl⟩:=Al t;obtain⟨p,o,rfl⟩:=Al s;obtain⟨S,I⟩:=rd (Ea ⟨j,c⟩ ⟨g,d⟩);rw[I];have z:nc ((if j.toList==g.toList then Ey c d else qZ j.toList g.toList)=S):=I;have HA:=Ab t;have HB:=Ab s;simp only[BL];have l:=Ab (((re [] w).alloc (j1 [O j,U q (Z c) m].toArray 43)).alloc (j1 [O g,U p (Z d) o].toArray 43));have M:=(rf w [O j,U q (Z c) m] 43).alloc (j1 [O g,U p (Z d) o].toArray 43);have AR:AI ((w.alloc (j1 [O j,U q (Z c) m].toArray 43)).alloc (j1 [O g,U p (Z d) o].toArray 43)) (w.heap.size+1) [O g,U p (Z d) o] 43:=by
  have hh:=rf (w.alloc (j1 [O j,U q (Z c) m].toArray 43)) [O g,U p (Z d) o] 43;rw[show(w.alloc (j1 [O j,U q (Z c) m].toArray 43)).heap.size=w.heap.size+1 from by simp]at hh
  exact hh
 have D:=Ab M;have E:=Ab AR;clear I t s M AR;cases hn:(j.toList==g.toList)with
 |false=>
  have v:nc (qZ j.toList g.toList=S):=by show _=_;rw[<-Aa z,hn];rfl
  have Bx:(j.toList !=g.toList)=jj:=by simp[bne,hn]
  clear z;go_enter func46,ntmps46;go_wp2;go_ret;exact⟨By v.out,l⟩
 |true=>
  have Bx:(j.toList !=g.toList)=K:=by simp[bne,hn]
  have v:nc (Ey (c.drop 0) (d.drop 0)=S):=by show _=_;rw[<-Aa z,hn];rfl
  clear z;go_enter func46,ntmps46;go_wp2;change Code.wp _ _ _ _ ((w.alloc (j1 [O j,U q (Z c) m].toArray 43)).alloc (j1 [O g,U p (Z d) o].toArray 43));generalize(w.alloc (j1 [O j,U q (Z c) m].toArray 43)).alloc (j1 [O g,U p (Z d) o].toArray 43)=w1 at l D E⊢;generalize w.heap.size=N at D E⊢;clear hn Bx
  go_loopg [5] (Z c) (λgk i wr=>∃(k:Nat),i=X J k/\k<=Z c/\k<=Z d/\gk=Z c-k/\nc (Ey (c.drop k) (d.drop k)=S)/\nc (Ac [] w wr)/\nc (Ac [] w1 wr))
  case atStart=>exact⟨0,rfl,by omega,by omega,rfl,v,l,re _ _⟩
  case round=>
   clear v l;obtain⟨k,rfl,R,A1,Ax,x,l,u⟩:=hrel;have HG:=Ab Ax;clear Ax;have H:=(D.kept u).cell 1;have C:=(E.kept u).cell 1;simp at H C;by_cases A:k<Z c
   .by_cases F:k<Z d
    .obtain⟨g1,q1,A2,W⟩:=Hn (Ad HA l) k A;obtain⟨T,q2,A0,L⟩:=Hn (Ad HB l) k F;simp only[mu]at A2 A0;obtain⟨rfl,_,rfl⟩:=A2;obtain⟨rfl,_,rfl⟩:=A0;have DG:=Ab (WM c d k A F);(have y:nc (∀n,Ac [] w (wr.drewN n)/\Ac [] w1 (wr.drewN n)):=λn=>⟨l.drewN n,u.drewN n⟩);cases hx:(c[k].toList==d[k].toList)with
     |true=>
      (have B0:(c[k].toList !=d[k].toList)=K:=by simp[bne,hx]);have r:nc (Ey (c.drop (k+1)) (d.drop (k+1))=S):=by
       have h:=Aa x;rw[Aa DG,hx]at h;exact h
      go_wp2_with fail
      go_quiet (fail)
      go_wp2
      go_roundg (Z c-(k+1))
      case measure=>have:=Aa HG;omega
      case rel=>exact⟨k+1,by go_num,by omega,by omega,rfl,r,(y _).1,(y _).2⟩
     |false=>
      (have B0:(c[k].toList !=d[k].toList)=jj:=by simp[bne,hx]);have r:nc (Gv c[k] d[k]=S):=by
       have h:=Aa x;rw[Aa DG,hx]at h;exact h
      have AO:=Aa AB c[k] (mw A);have BA:=Aa P d[k] (mw F);go_wp2_with fail
      go_quiet (fail)
      (go_wp2_with fail);have EM:oa (wr.drewN nq) ⟨N,1,Y⟩=V (U (V ⟨g1,0,Y⟩) (Z c) m):=H;have BT:oa (wr.drewN nq) ⟨N+1,1,Y⟩=V (U (V ⟨T,0,Y⟩) (Z d) o):=C;have B2:oa (wr.drewN nq) ⟨g1,k,Y⟩=V (O c[k]):=W;have CC:oa (wr.drewN nq) ⟨T,k,Y⟩=V (O d[k]):=L;have Q:=Ab (y nq).1;clear y H C W L u l;generalize wr.drewN nq=wq at EM BT B2 CC Q⊢
      go_quiet ((go_at_call 86;exact pQ (OF _ _ _ AO.1 BA.1 AO.2 BA.2)))
      go_wp2;go_ret;exact⟨By r.out,Q.drewN _⟩
    ·(have ES:¬(k:Int)<(Z d:Int):=by omega);have r:nc (decide (Z c<Z d)=S):=by
      show _=_;rw[<-Aa x,RF c d k R (by omega) A1]
     go_wp2;go_ret;exact⟨By r.out,l⟩
   .have r:nc (decide (Z c<Z d)=S):=by
     show _=_;rw[<-Aa x,RF c d k R (by omega) A1]
    go_wp2;go_ret;exact⟨By r.out,l⟩
structure Ei(w:ly)(sv:ml)(fs:rc BP):Prop where
 row:oi w 0 43 2 sv (Z fs) (fs.flatMap BL)
 each:∀p∈fs,Ev w p/\QE p.f
def Ei.kept{w w':ly}{c:ml}{b:rc BP}(h:Ei w c b)(k:Ac [] w w'):Ei w' c b:=⟨Ad h.row k,λp a=>⟨(h.each p a).1.kept k,(h.each p a).2⟩⟩
def CZ{b:rc BP}(h:Ei w z b)(k:Nat)(d:k<Z b):
  ∃g m n a i f,z=U (V ⟨g,0,Y⟩) (Z b) m/\b[k]=⟨⟨n,a⟩,U i (Z a) f⟩/\oa w ⟨g,k*2,Y⟩=V (O n)/\oa w ⟨g,k*2+1,Y⟩=V (U i (Z a) f):=by
 obtain⟨g,m,s,_,r⟩:=AC h.row (λc _=>rfl) k d;have j:=r k d 0 (by omega);have l:=r k d 1 (by omega);obtain⟨⟨⟨n,a⟩,t⟩,o⟩:∃p,b[k]=p:=⟨_,rfl⟩;have q:=(h.each _ (mw d)).1;rw[o]at j l q;obtain⟨i,f,e⟩:=Al q;simp only at e;subst e;simp[BL]at j l;exact⟨g,m,n,a,i,f,s,o,j,l⟩
theorem L5(G:Option Addr)(P:Nat)(a:rc BP)(x:BP)(w:ly)(h:Ei w (U G (Z a) P) a)(z:Ev w x)(BA:Z a<=1000000)(D:QE x.f):
  Calls prog 21 #[U G (Z a) P,oj (j2 (BL x))] w λe t=>e=kt (q8 (a.any λp=>CV p.f x.f))/\Ac [] w t:=by
 have T:nc (∀(p:BP) wr,p∈a->Ac [] w wr->Calls prog 49 #[oj (j2 (BL p)),oj (j2 (BL x))] wr λe t=>e=kt (q8 (CV p.f x.f))/\Ac [] wr t):=λp wr I u=>Ux p x wr ((h.each p I).1.kept u) (z.kept u) (by have:=(h.each p I).2.len;omega) (by have:=D.len;omega)
 have HS:=Ab h;obtain⟨⟨c,b⟩,xv⟩:=x;obtain⟨m,l,L⟩:=Al z;simp only at L;subst L;obtain⟨R,A⟩:=rd (a.any λp=>CV p.f ⟨c,b⟩);rw[show(a.any λp=>CV p.f (⟨⟨c,b⟩,U m (Z b) l⟩:BP).f)=R from A]
 have Q:=Ab A;have d:=Ab (rf w [O c,U m (Z b) l] 43);have j:=Ab ((re [] w).alloc (j1 [O c,U m (Z b) l].toArray 43));clear h z D A;simp only[BL]at T⊢;go_enter func21,ntmps21;go_wp2;change Code.wp _ _ _ _ (w.alloc (j1 [O c,U m (Z b) l].toArray 43));generalize w.alloc (j1 [O c,U m (Z b) l].toArray 43)=w1 at d j⊢;generalize w.heap.size=N at d⊢
 go_loopg [5,6] (Z a) (λgk i q wr=>∃(k:Nat),i=X J k/\k<=Z a/\gk=Z a-k/\nc ((a.take k).any (λp=>CV p.f ⟨c,b⟩)=K)/\nc (Ac [] w wr)/\nc (AI wr N [O c,U m (Z b) l] 43))
 case atStart=>exact⟨0,rfl,by omega,rfl,by show _=_;simp,j,d⟩
 case round=>
  clear d j;obtain⟨k,rfl,u,F,H,j,d⟩:=hrel;have HG:=Ab F;clear F;by_cases r:k<Z a
  .obtain⟨g,Bx,n,B,ad,cp,S,s,d0,d1⟩:=CZ (HS.kept j) k r;simp only[mu]at S;obtain⟨rfl,_,rfl⟩:=S;have c0:=d.cell 0;have c1:=d.cell 1;simp at c0 c1;have o:=Ab (T a[k] wr.drew (mw r) j.drew);have M:nc (CV ⟨n,B⟩ ⟨c,b⟩=jj->R=jj):=by
    intro y;rw[<-Aa Q];exact K0 _ _ k r (by rw[s];exact y)
   have E:nc (CV ⟨n,B⟩ ⟨c,b⟩=K->(a.take (k+1)).any (λp=>CV p.f ⟨c,b⟩)=K):=by
    intro y;rw[Do _ _ k r (Aa H),s];exact y
   rw[s]at o;simp only at o;generalize CV ⟨n,B⟩ ⟨c,b⟩=SB at o M E;clear s;go_wp2_with fail
   go_region_law (go_simp;go_at_call 49;refine o.mono ?_;rintro e w3 ⟨rfl,v⟩;have W:=Ab (j.drew.trans v);have AH:=Ab (d.drew.kept v);clear v)
   all_goals
    clear o;cases SB with
    |true=>
     have C:=Ab (M rfl);go_wp2;go_ret;rw[Aa C];exact⟨rfl,W⟩
    |false=>
     have C:=Ab (E rfl);go_wp2
     go_roundg (Z a-(k+1))
     case measure=>have:=Aa HG;omega
     case rel=>exact⟨k+1,by go_num,by omega,rfl,C,W,AH⟩
  .have HE:nc (R=K):=by
    have h:=Aa H;rw[mz (by omega)]at h;show _=_;rw[<-Aa Q];exact h
   go_wp2;go_ret;rw[HE.out];exact⟨rfl,j⟩
