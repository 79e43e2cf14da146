import Derived.Deep.AppendSrc
import Derived.Test.YtoihbhenbmffcaaGreatDoorYAA
set_option linter.all false
set_option maxHeartbeats 0
namespace Go.Proofs.YtoihbhenbmffcaaGreatDoor
open Go.RowKit Go.Proofs.Tryz
def BP(v lv:Value):Prop:=∀k,v.ownBlock=some k->lv.ownBlock≠some k
theorem BP.gO{v d:Value}{g n cap:Nat}{w:World}{base:Nat}{e:TypeId}{f m:Nat}{j:List Value}{H:Nat}(h:BP v d)(i:w.ownsRow base e f v m j)(a:d.ownBlock=some g\/g=H)(l:w.heap.size<=H):BP v (.slice (some ⟨g,0,none⟩) n cap):=by
 intro k b c;simp only[Value.ownBlock,bR]at c;subst c;rcases a with a|a
 .exact h g b a
 .have:=(i.lt g b).2;omega
section
variable {P:Program} (w:World)
theorem MX(t l e:TypeId)(i:TypeInfo)(f:P.underlying t=some (.slice e))(k:P.info? e=some i)(base:Option Addr)(n cap:Nat)(g:n<=cap)(b:Option Addr)(c:Nat):
  (Builtin.append_ #[t,t] l #[.slice base n cap,.slice b 0 c]).run P w=.ok (.slice base n cap) w:=by
 have d:(Builtin.firstCells i.size 0 (.slice b 0 c)).run P w=.ok #[] w:=by
  cases b with
  |none=>exact run_firstCells_none w i.size 0 0 c
  |some a=>exact run_firstCells_some w i.size 0 a 0 c [] (by simp) (λj u h=>by simp at h)
 cases base with
 |none=>simp[Builtin.append_,run_underlying f,sizeOf,typeInfo,k,Builtin.lenOf,g,d]
 |some a=>simp[Builtin.append_,run_underlying f,sizeOf,typeInfo,k,Builtin.lenOf,g,d,storeCells]
theorem Nv(t v:TypeId)(base:Nat)(e:TypeId)(i:TypeInfo)(z:Value)(size y:Nat)(A:P.underlying t=some (.slice e))(B:P.info? e=some i)(O:i.zero=some z)
  (D:i.size=size) (Q:i.bytes=y) (U:z.cells.size=size) (M:0<size)
  (d:Option Addr) (n a:Nat) (s:List Value) (p:w.ownsRow base e size (.slice d n a) n s)
  (R:Nat) (l:Option Addr) (m c:Nat) (j:List Value) (o:w.ownsRow R e size (.slice l m c) m j) (I:∀u∈j,u.oneCell'=true)
  (K:n+m<=maxLen) (V:(n+m)*y<=140737488355328) (H:base<=w.heap.size):
  ∃r b h,(Builtin.append_ #[t,t] v #[.slice d n a,.slice l m c]).run P w=.ok (.slice r (n+m) b) h/\
   h.ownsRow base e size (.slice r (n+m) b) (n+m) (s++j)/\w.grownBy h (Value.slice d n a).ownBlock/\(∀q,(Value.slice r (n+m) b).ownBlock=some q->(Value.slice d n a).ownBlock=some q\/q=w.heap.size):=by
 rcases Nat.eq_zero_or_pos m with x|x
 .subst x;have N:j=[]:=List.eq_nil_of_length_eq_zero (by have:=o.1;omega);subst N;have J:n<=a:=by
   rcases p.2 with⟨f,F⟩|⟨g,b,L,f,_,_,Y,_⟩
   .omega
   .simp only[bK]at f;omega
  refine⟨d,a,w,MX w t v e i A B d n a J l c,by simpa using p,⟨rfl,rfl,rfl,bZ _,λ_ _ _=>rfl⟩,λq k=>Or.inl k⟩
 .have S:∃g,l=some ⟨g,0,none⟩:=by
   rcases o.2 with⟨f,F⟩|⟨g,b,L,f,_⟩
   .omega
   .simp only[bK]at f;exact⟨g,f.1⟩
  obtain⟨g,rfl⟩:=S;obtain⟨X,b,h,E,T,C,G,W⟩:=run_append_lies (P:=P) w t v base e i z size y A B O D Q U M (.slice d n a) n s p ⟨g,0,none⟩ m c j o.1 (o.cells rfl) I x K V H _ rfl;refine⟨_,b,h,E,T,C,λq k=>?_⟩;simp only[Value.ownBlock,bR]at k;subst k;exact G
theorem J0{o:Oper}{a:Act}{K:Act->World->Prop}{Q:Exit->Act->World->Prop}(s x:Operand)(t:TypeId)
  (J:o.op=.call {callee:=.builtin .append,args:=#[s,x],argTypes:=#[t,t]})
  (base:Nat) (e:TypeId) (i:TypeInfo) (z:Value) (size r:Nat) (C:P.underlying t=some (.slice e)) (R:P.info? e=some i) (I:i.zero=some z)
  (A:i.size=size) (L:i.bytes=r) (T:z.cells.size=size) (H:0<size)
  (f:Option Addr) (n j:Nat) (p:List Value) (O:a.eval s=.slice f n j) (y:w.ownsRow base e size (.slice f n j) n p)
  (v:Nat) (l:Option Addr) (m c:Nat) (k:List Value) (S:a.eval x=.slice l m c) (V:w.ownsRow v e size (.slice l m c) m k) (F:∀u∈k,u.oneCell'=true)
  (G:n+m<=maxLen) (U:(n+m)*r<=140737488355328) (D:base<=w.heap.size)
  (h:∀g d b,b.ownsRow base e size (.slice g (n+m) d) (n+m) (p++k)->w.grownBy b (Value.slice f n j).ownBlock->(∀q,(Value.slice g (n+m) d).ownBlock=some q->(Value.slice f n j).ownBlock=some q\/q=w.heap.size)->K (a.put o.dst (.slice g (n+m) d)) b):o.wp P a w K Q:=by
 obtain⟨g,d,b,M,B,N,E⟩:=Nv (P:=P) w t o.type base e i z size r C R I A L T H f n j p y v l m c k V F G U D;unfold Oper.wp execOp;simp only[J,resolve,invoke,builtin,fx,Sem.run_pure,Result.andThen_ok,List.map_toArray,cu,eW,O,S,M];exact h g d b B N E
theorem GS{ops:Array Oper}{y:List Oper}{o:Oper}{a:Act}{Q:Exit->Act->World->Prop}(A:o.guard=none)(s x:Operand)(t:TypeId)
  (M:o.op=.call {callee:=.builtin .append,args:=#[s,x],argTypes:=#[t,t]})
  (base:Nat) (e:TypeId) (i:TypeInfo) (z:Value) (size r:Nat) (E:P.underlying t=some (.slice e)) (S:P.info? e=some i) (L:i.zero=some z)
  (C:i.size=size) (N:i.bytes=r) (U:z.cells.size=size) (K:0<size)
  (f:Option Addr) (n j:Nat) (p:List Value) (R:a.eval s=.slice f n j) (B:w.ownsRow base e size (.slice f n j) n p)
  (v:Nat) (l:Option Addr) (m c:Nat) (k:List Value) (T:a.eval x=.slice l m c) (W:w.ownsRow v e size (.slice l m c) m k) (I:∀u∈k,u.oneCell'=true)
  (J:n+m<=maxLen) (V:(n+m)*r<=140737488355328) (F:base<=w.heap.size)
  (h:∀g d b,b.ownsRow base e size (.slice g (n+m) d) (n+m) (p++k)->w.grownBy b (Value.slice f n j).ownBlock->(∀q,(Value.slice g (n+m) d).ownBlock=some q->(Value.slice f n j).ownBlock=some q\/q=w.heap.size)->wpList P ops Q y (a.put o.dst (.slice g (n+m) d)) b):wpList P ops Q (o::y) a w:=
 wpList_plain A λ_ H=>J0 w s x t M base e i z size r E S L C N U K f n j p R B v l m c k T W I J V F λg d b D O G=>H _ _ (h g d b D O G)
theorem Iz{ops:Array Oper}{o:Oper}{a:Act}{K:Act->World->Prop}{Q:Exit->Act->World->Prop}{E:Prop}(y:o.guard=none)(s x:Operand)(t:TypeId)
  (J:o.op=.call {callee:=.builtin .append,args:=#[s,x],argTypes:=#[t,t]})
  (base:Nat) (e:TypeId) (i:TypeInfo) (z:Value) (size r:Nat) (C:P.underlying t=some (.slice e)) (N:P.info? e=some i) (I:i.zero=some z)
  (B:i.size=size) (L:i.bytes=r) (R:z.cells.size=size) (H:0<size)
  (b:Option Addr) (n d:Nat) (p:List Value) (M:a.eval s=.slice b n d) (A:w.ownsRow base e size (.slice b n d) n p)
  (v:Nat) (k:Option Addr) (m c:Nat) (f:List Value) (O:a.eval x=.slice k m c) (T:w.ownsRow v e size (.slice k m c) m f) (F:∀u∈f,u.oneCell'=true)
  (G:n+m<=maxLen) (S:(n+m)*r<=140737488355328) (D:base<=w.heap.size)
  (h:∀l j g,g.ownsRow base e size (.slice l (n+m) j) (n+m) (p++f)->w.grownBy g (Value.slice b n d).ownBlock->(∀q,(Value.slice l (n+m) j).ownBlock=some q->(Value.slice b n d).ownBlock=some q\/q=w.heap.size)->K (a.put o.dst (.slice l (n+m) j)) g):
  if Region.wanted o (yielded ops a.tmps)=true then Oper.wp P o a w K Q else E:=by
 rw[if_pos (by unfold Region.wanted;simp[y])];exact J0 w s x t J base e i z size r C N I B L R H b n d p M A v k m c f O T F G S D h
end
