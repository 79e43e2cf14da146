import Derived.Deep.AppendSrc
import Derived.Test.YtoihbhenbmffcaaGreatDoorYAA
set_option linter.all false
set_option maxHeartbeats 0
namespace Go.Proofs.YtoihbhenbmffcaaGreatDoor
open Go.RowKit Go.Proofs.Tryz
def B1(v lv:Value):Prop:=∀k,v.ownBlock=some k->lv.ownBlock≠some k
def B1.zd{v d:Value}{g n cap:Nat}{w:World}{base:Nat}{e:TypeId}{f m:Nat}{j:List Value}{H:Nat}(h:B1 v d)(i:w.ownsRow base e f v m j)(a:d.ownBlock=some g\/g=H)(l:w.heap.size<=H):B1 v (.slice (some ⟨g,0,none⟩) n cap):=by
 intro k b c;simp only[Value.ownBlock,eD]at c;subst c;rcases a with a|a
 .exact h g b a
 .have:=(i.lt g b).2;omega
section
variable {P:Program} (w:World)
def NP(t ty e:TypeId)(i:TypeInfo)(ht:P.underlying t=some (.slice e))(hi:P.info? e=some i)(base:Option Addr)(n cap:Nat)(hcap:n<=cap)(sad:Option Addr)(c:Nat):
  (Builtin.append_ #[t,t] ty #[.slice base n cap,.slice sad 0 c]).run P w=.ok (.slice base n cap) w:=by
 have hf:(Builtin.firstCells i.size 0 (.slice sad 0 c)).run P w=.ok #[] w:=by
  cases sad with
  |none=>exact run_firstCells_none w i.size 0 0 c
  |some a=>exact run_firstCells_some w i.size 0 a 0 c [] (by simp) (λj u h=>by simp at h)
 cases base with
 |none=>simp[Builtin.append_,run_underlying ht,sizeOf,typeInfo,hi,Builtin.lenOf,hcap,hf]
 |some a=>simp[Builtin.append_,run_underlying ht,sizeOf,typeInfo,hi,Builtin.lenOf,hcap,hf,storeCells]
def Ol(t ty:TypeId)(base:Nat)(e:TypeId)(i:TypeInfo)(z:Value)(size bytes:Nat)(ht:P.underlying t=some (.slice e))(hi:P.info? e=some i)(hz:i.zero=some z)
  (hsize:i.size=size) (hby:i.bytes=bytes) (hzs:z.cells.size=size) (hsz:0<size)
  (vad:Option Addr) (n vcp:Nat) (xs:List Value) (hown:w.ownsRow base e size (.slice vad n vcp) n xs)
  (b2:Nat) (sad:Option Addr) (m c:Nat) (news:List Value) (hsrc:w.ownsRow b2 e size (.slice sad m c) m news) (h1:∀u∈news,u.oneCell'=true)
  (h63:n+m<=maxLen) (hbytes:(n+m)*bytes<=140737488355328) (hbase:base<=w.heap.size):
  ∃ad cap w',(Builtin.append_ #[t,t] ty #[.slice vad n vcp,.slice sad m c]).run P w=.ok (.slice ad (n+m) cap) w'/\
   w'.ownsRow base e size (.slice ad (n+m) cap) (n+m) (xs++news)/\w.grownBy w' (Value.slice vad n vcp).ownBlock/\(∀q,(Value.slice ad (n+m) cap).ownBlock=some q->(Value.slice vad n vcp).ownBlock=some q\/q=w.heap.size):=by
 rcases Nat.eq_zero_or_pos m with hm|hm
 .subst hm;have hnil:news=[]:=List.eq_nil_of_length_eq_zero (by have:=hsrc.1;omega);subst hnil;have hcap:n<=vcp:=by
   rcases hown.2 with⟨he,h0⟩|⟨g,cap,cur,he,_,_,hc,_⟩
   .omega
   .simp only[ei]at he;omega
  refine⟨vad,vcp,w,NP w t ty e i ht hi vad n vcp hcap sad c,by simpa using hown,⟨rfl,rfl,rfl,eM _,λ_ _ _=>rfl⟩,λq hq=>Or.inl hq⟩
 .have hx:∃g,sad=some ⟨g,0,none⟩:=by
   rcases hsrc.2 with⟨he,h0⟩|⟨g,cap,cur,he,_⟩
   .omega
   .simp only[ei]at he;exact⟨g,he.1⟩
  obtain⟨g,rfl⟩:=hx;obtain⟨g1,cap,w',r1,r2,r3,r4,r5⟩:=run_append_lies (P:=P) w t ty base e i z size bytes ht hi hz hsize hby hzs hsz (.slice vad n vcp) n xs hown ⟨g,0,none⟩ m c news hsrc.1 (hsrc.cells rfl) h1 hm h63 hbytes hbase _ rfl;refine⟨_,cap,w',r1,r2,r3,λq hq=>?_⟩;simp only[Value.ownBlock,eD]at hq;subst hq;exact r4
def Ky{o:Oper}{a:Act}{K:Act->World->Prop}{Q:Exit->Act->World->Prop}(s x:Operand)(t:TypeId)
  (ho:o.op=.call {callee:=.builtin .append,args:=#[s,x],argTypes:=#[t,t]})
  (base:Nat) (e:TypeId) (i:TypeInfo) (z:Value) (size bytes:Nat) (ht:P.underlying t=some (.slice e)) (hi:P.info? e=some i) (hz:i.zero=some z)
  (hsize:i.size=size) (hby:i.bytes=bytes) (hzs:z.cells.size=size) (hsz:0<size)
  (vad:Option Addr) (n vcp:Nat) (xs:List Value) (hs:a.eval s=.slice vad n vcp) (hown:w.ownsRow base e size (.slice vad n vcp) n xs)
  (b2:Nat) (sad:Option Addr) (m c:Nat) (news:List Value) (hx:a.eval x=.slice sad m c) (hsrc:w.ownsRow b2 e size (.slice sad m c) m news) (h1:∀u∈news,u.oneCell'=true)
  (h63:n+m<=maxLen) (hbytes:(n+m)*bytes<=140737488355328) (hbase:base<=w.heap.size)
  (h:∀ad cap w',w'.ownsRow base e size (.slice ad (n+m) cap) (n+m) (xs++news)->w.grownBy w' (Value.slice vad n vcp).ownBlock->(∀q,(Value.slice ad (n+m) cap).ownBlock=some q->(Value.slice vad n vcp).ownBlock=some q\/q=w.heap.size)->K (a.put o.dst (.slice ad (n+m) cap)) w'):o.wp P a w K Q:=by
 obtain⟨ad,cap,w',hr,h2,h3,h4⟩:=Ol (P:=P) w t o.type base e i z size bytes ht hi hz hsize hby hzs hsz vad n vcp xs hown b2 sad m c news hsrc h1 h63 hbytes hbase;unfold Oper.wp execOp;simp only[ho,resolve,invoke,builtin,je,Sem.run_pure,Result.andThen_ok,List.map_toArray,eR,gU,hs,hx,hr];exact h ad cap w' h2 h3 h4
def G5{ops:Array Oper}{rest:List Oper}{o:Oper}{a:Act}{Q:Exit->Act->World->Prop}(hgd:o.guard=none)(s x:Operand)(t:TypeId)
  (ho:o.op=.call {callee:=.builtin .append,args:=#[s,x],argTypes:=#[t,t]})
  (base:Nat) (e:TypeId) (i:TypeInfo) (z:Value) (size bytes:Nat) (ht:P.underlying t=some (.slice e)) (hi:P.info? e=some i) (hz:i.zero=some z)
  (hsize:i.size=size) (hby:i.bytes=bytes) (hzs:z.cells.size=size) (hsz:0<size)
  (vad:Option Addr) (n vcp:Nat) (xs:List Value) (hs:a.eval s=.slice vad n vcp) (hown:w.ownsRow base e size (.slice vad n vcp) n xs)
  (b2:Nat) (sad:Option Addr) (m c:Nat) (news:List Value) (hx:a.eval x=.slice sad m c) (hsrc:w.ownsRow b2 e size (.slice sad m c) m news) (h1:∀u∈news,u.oneCell'=true)
  (h63:n+m<=maxLen) (hbytes:(n+m)*bytes<=140737488355328) (hbase:base<=w.heap.size)
  (h:∀ad cap w',w'.ownsRow base e size (.slice ad (n+m) cap) (n+m) (xs++news)->w.grownBy w' (Value.slice vad n vcp).ownBlock->(∀q,(Value.slice ad (n+m) cap).ownBlock=some q->(Value.slice vad n vcp).ownBlock=some q\/q=w.heap.size)->wpList P ops Q rest (a.put o.dst (.slice ad (n+m) cap)) w'):wpList P ops Q (o::rest) a w:=
 wpList_plain hgd λ_ hK=>Ky w s x t ho base e i z size bytes ht hi hz hsize hby hzs hsz vad n vcp xs hs hown b2 sad m c news hx hsrc h1 h63 hbytes hbase λad cap w' h2 h3 h4=>hK _ _ (h ad cap w' h2 h3 h4)
def IU{ops:Array Oper}{o:Oper}{a:Act}{K:Act->World->Prop}{Q:Exit->Act->World->Prop}{E:Prop}(hgd:o.guard=none)(s x:Operand)(t:TypeId)
  (ho:o.op=.call {callee:=.builtin .append,args:=#[s,x],argTypes:=#[t,t]})
  (base:Nat) (e:TypeId) (i:TypeInfo) (z:Value) (size bytes:Nat) (ht:P.underlying t=some (.slice e)) (hi:P.info? e=some i) (hz:i.zero=some z)
  (hsize:i.size=size) (hby:i.bytes=bytes) (hzs:z.cells.size=size) (hsz:0<size)
  (vad:Option Addr) (n vcp:Nat) (xs:List Value) (hs:a.eval s=.slice vad n vcp) (hown:w.ownsRow base e size (.slice vad n vcp) n xs)
  (b2:Nat) (sad:Option Addr) (m c:Nat) (news:List Value) (hx:a.eval x=.slice sad m c) (hsrc:w.ownsRow b2 e size (.slice sad m c) m news) (h1:∀u∈news,u.oneCell'=true)
  (h63:n+m<=maxLen) (hbytes:(n+m)*bytes<=140737488355328) (hbase:base<=w.heap.size)
  (h:∀ad cap w',w'.ownsRow base e size (.slice ad (n+m) cap) (n+m) (xs++news)->w.grownBy w' (Value.slice vad n vcp).ownBlock->(∀q,(Value.slice ad (n+m) cap).ownBlock=some q->(Value.slice vad n vcp).ownBlock=some q\/q=w.heap.size)->K (a.put o.dst (.slice ad (n+m) cap)) w'):
  if Region.wanted o (yielded ops a.tmps)=true then Oper.wp P o a w K Q else E:=by
 rw[eI (by unfold Region.wanted;simp[hgd])];exact Ky w s x t ho base e i z size bytes ht hi hz hsize hby hzs hsz vad n vcp xs hs hown b2 sad m c news hx hsrc h1 h63 hbytes hbase h
end
