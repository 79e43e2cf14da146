import Derived.Deep.AppendSrc
import Derived.Test.YtoihbhenbmffcaaGreatDoorYAA
set_option linter.all false
set_option maxHeartbeats 0
open Go.Value renaming slice->U
open Option renaming some->V
open Go renaming World->l9,Value->lN
open Go.World renaming ownsRow->lQ
namespace Go.Proofs.YtoihbhenbmffcaaGreatDoor
open Go.RowKit Go.Proofs.Tryz
def Cd(v lv:lN):Prop:=∀k,v.ownBlock=V k->lv.ownBlock≠V k
def Cd.ze{v d:lN}{g n cap:Nat}{w:l9}{base:Nat}{e:TypeId}{f m:Nat}{j:mc lN}{H:Nat}(h:Cd v d)(i:lQ w base e f v m j)(a:d.ownBlock=V g\/g=H)(l:w.heap.size<=H):Cd v (U (V ⟨g,0,none⟩) n cap):=by
 intro k b c;simp only[Value.ownBlock,gT]at c;subst c;rcases a with a|a
 .exact h g b a
 .have:=(i.lt g b).2;omega
section
variable {P:Program} (w:l9)
def Oi(t l e:TypeId)(i:TypeInfo)(f:P.underlying t=V (.slice e))(k:P.info? e=V i)(base:Option Addr)(n cap:Nat)(g:n<=cap)(b:Option Addr)(c:Nat):
  (Builtin.append_ #[t,t] l #[U base n cap,U b 0 c]).run P w=.ok (U base n cap) w:=by
 have d:(Builtin.firstCells i.size 0 (U b 0 c)).run P w=.ok #[] w:=by
  cases b with
  |none=>exact run_firstCells_none w i.size 0 0 c
  |some a=>exact run_firstCells_some w i.size 0 a 0 c [] (by simp) (λj u h=>by simp at h)
 cases base with
 |none=>simp[Builtin.append_,run_underlying f,sizeOf,typeInfo,k,Builtin.lenOf,g,d]
 |some a=>simp[Builtin.append_,run_underlying f,sizeOf,typeInfo,k,Builtin.lenOf,g,d,storeCells]
def OO(t v:TypeId)(base:Nat)(e:TypeId)(i:TypeInfo)(z:lN)(size y:Nat)(A:P.underlying t=V (.slice e))(B:P.info? e=V i)(S:i.zero=V z)
  (D:i.size=size) (T:i.bytes=y) (AT:z.cells.size=size) (Q:0<size)
  (d:Option Addr) (n a:Nat) (s:mc lN) (p:lQ w base e size (U d n a) n s)
  (W:Nat) (l:Option Addr) (m c:Nat) (j:mc lN) (o:lQ w W e size (U l m c) m j) (I:∀u∈j,u.oneCell'=true)
  (M:n+m<=maxLen) (A0:(n+m)*y<=140737488355328) (H:base<=w.heap.size):
  ∃r b h,(Builtin.append_ #[t,t] v #[U d n a,U l m c]).run P w=.ok (U r (n+m) b) h/\
   lQ h base e size (U r (n+m) b) (n+m) (s++j)/\w.grownBy h (U d n a).ownBlock/\(∀q,(U r (n+m) b).ownBlock=V q->(U d n a).ownBlock=V q\/q=w.heap.size):=by
 rcases Nat.eq_zero_or_pos m with x|x
 .subst x;have R:j=[]:=kQ (by have:=o.1;omega);subst R;have L:n<=a:=by
   rcases p.2 with⟨f,F⟩|⟨g,b,N,f,_,_,hc,_⟩
   .omega
   .simp only[gM]at f;omega
  refine⟨d,a,w,Oi w t v e i A B d n a L l c,by simpa using p,⟨rfl,rfl,rfl,ig _,λ_ _ _=>rfl⟩,λq k=>Or.inl k⟩
 .have hx:∃g,l=V ⟨g,0,none⟩:=by
   rcases o.2 with⟨f,F⟩|⟨g,b,N,f,_⟩
   .omega
   .simp only[gM]at f;exact⟨g,f.1⟩
  obtain⟨g,rfl⟩:=hx;obtain⟨g1,b,h,E,r2,C,G,r5⟩:=run_append_lies (P:=P) w t v base e i z size y A B S D T AT Q (U d n a) n s p ⟨g,0,none⟩ m c j o.1 (o.cells rfl) I x M A0 H _ rfl;refine⟨_,b,h,E,r2,C,λq k=>?_⟩;simp only[Value.ownBlock,gT]at k;subst k;exact G
def KO{o:Oper}{a:Act}{v:Act->l9->Prop}{Q:Exit->Act->l9->Prop}(s x:Operand)(t:TypeId)
  (M:o.op=.call {callee:=.builtin .append,args:=#[s,x],argTypes:=#[t,t]})
  (base:Nat) (e:TypeId) (i:TypeInfo) (z:lN) (size r:Nat) (D:P.underlying t=V (.slice e)) (W:P.info? e=V i) (L:i.zero=V z)
  (B:i.size=size) (N:i.bytes=r) (AO:z.cells.size=size) (I:0<size)
  (f:Option Addr) (n j:Nat) (p:mc lN) (T:a.eval s=U f n j) (A:lQ w base e size (U f n j) n p)
  (y:Nat) (l:Option Addr) (m c:Nat) (k:mc lN) (hx:a.eval x=U l m c) (A0:lQ w y e size (U l m c) m k) (G:∀u∈k,u.oneCell'=true)
  (H:n+m<=maxLen) (AT:(n+m)*r<=140737488355328) (E:base<=w.heap.size)
  (h:∀g d b,lQ b base e size (U g (n+m) d) (n+m) (p++k)->w.grownBy b (U f n j).ownBlock->(∀q,(U g (n+m) d).ownBlock=V q->(U f n j).ownBlock=V q\/q=w.heap.size)->v (a.put o.dst (U g (n+m) d)) b):o.wp P a w v Q:=by
 obtain⟨g,d,b,R,C,S,F⟩:=OO (P:=P) w t o.type base e i z size r D W L B N AO I f n j p A y l m c k A0 G H AT E;unfold Oper.wp execOp;simp only[M,resolve,invoke,builtin,lh,Sem.run_pure,Result.andThen_ok,List.map_toArray,ii,jM,T,hx,R];exact h g d b C S F
def Hj{ops:Array Oper}{y:mc Oper}{o:Oper}{a:Act}{Q:Exit->Act->l9->Prop}(A:o.guard=none)(s x:Operand)(t:TypeId)
  (R:o.op=.call {callee:=.builtin .append,args:=#[s,x],argTypes:=#[t,t]})
  (base:Nat) (e:TypeId) (i:TypeInfo) (z:lN) (size r:Nat) (E:P.underlying t=V (.slice e)) (hi:P.info? e=V i) (N:i.zero=V z)
  (C:i.size=size) (S:i.bytes=r) (AT:z.cells.size=size) (M:0<size)
  (f:Option Addr) (n j:Nat) (p:mc lN) (W:a.eval s=U f n j) (B:lQ w base e size (U f n j) n p)
  (v:Nat) (l:Option Addr) (m c:Nat) (k:mc lN) (hx:a.eval x=U l m c) (A1:lQ w v e size (U l m c) m k) (I:∀u∈k,u.oneCell'=true)
  (L:n+m<=maxLen) (A0:(n+m)*r<=140737488355328) (F:base<=w.heap.size)
  (h:∀g d b,lQ b base e size (U g (n+m) d) (n+m) (p++k)->w.grownBy b (U f n j).ownBlock->(∀q,(U g (n+m) d).ownBlock=V q->(U f n j).ownBlock=V q\/q=w.heap.size)->wpList P ops Q y (a.put o.dst (U g (n+m) d)) b):wpList P ops Q (o::y) a w:=
 wpList_plain A λ_ H=>KO w s x t R base e i z size r E hi N C S AT M f n j p W B v l m c k hx A1 I L A0 F λg d b D T G=>H _ _ (h g d b D T G)
def Jc{ops:Array Oper}{o:Oper}{a:Act}{v:Act->l9->Prop}{Q:Exit->Act->l9->Prop}{E:Prop}(A:o.guard=none)(s x:Operand)(t:TypeId)
  (M:o.op=.call {callee:=.builtin .append,args:=#[s,x],argTypes:=#[t,t]})
  (base:Nat) (e:TypeId) (i:TypeInfo) (z:lN) (size r:Nat) (D:P.underlying t=V (.slice e)) (S:P.info? e=V i) (L:i.zero=V z)
  (C:i.size=size) (N:i.bytes=r) (W:z.cells.size=size) (I:0<size)
  (b:Option Addr) (n d:Nat) (p:mc lN) (R:a.eval s=U b n d) (B:lQ w base e size (U b n d) n p)
  (y:Nat) (k:Option Addr) (m c:Nat) (f:mc lN) (T:a.eval x=U k m c) (AO:lQ w y e size (U k m c) m f) (G:∀u∈f,u.oneCell'=true)
  (H:n+m<=maxLen) (Ax:(n+m)*r<=140737488355328) (F:base<=w.heap.size)
  (h:∀l j g,lQ g base e size (U l (n+m) j) (n+m) (p++f)->w.grownBy g (U b n d).ownBlock->(∀q,(U l (n+m) j).ownBlock=V q->(U b n d).ownBlock=V q\/q=w.heap.size)->v (a.put o.dst (U l (n+m) j)) g):
  if Region.wanted o (yielded ops a.tmps)=true then Oper.wp P o a w v Q else E:=by
 rw[gY (by unfold Region.wanted;simp[A])];exact KO w s x t M base e i z size r D S L C N W I b n d p R B y k m c f T AO G H Ax F h
end
