import Derived.WalkKit
import Derived.Deep.AppendLies
import Derived.Deep.QuietTactic
import Derived.BigQuiet
import Derived.Deep.LoopGhost
import Derived.Deep.MidRow
import Derived.Handy
import Derived.Test.YtoihbhenbmffcaaGreatDoorProg
set_option linter.all false
set_option maxHeartbeats 0
open List renaming length->Z,toArray->D6
open Option renaming none->Y,some->V
open Go.Value renaming slice->U,int->X,string->O,pointer->Gi,agg->Ms,bool->No
open Bool renaming false->K,true->Cm
open Go.IntKind renaming i64->J
open Go.Ending renaming returned->G3
open Or renaming inl->Hd,inr->Hf
open Go renaming World->Hq,Value->Hs
open Go.RowKit renaming Hid->JR
open Go.World renaming ownsRow->Mi
open ByteArray renaming empty->ND
open Go.Op renaming bytesLess->Pf
namespace Go.Proofs.YtoihbhenbmffcaaGreatDoor
open Go.RowKit Go.Proofs.Tryz
abbrev QC:=@List
abbrev bC:=ByteArray
abbrev lz:=@List.setIfInBounds_toArray
abbrev lB:=@Go.Value.slice.injEq
abbrev lC:=@List.set_cons_zero
abbrev lD:=@List.set_cons_succ
abbrev lE:=@List.getElem_mem
abbrev lF:=@List.take_succ_eq_append_getElem
abbrev lG:=@List.mem_singleton
abbrev lH:=@List.take_of_length_le
abbrev lI:=@List.mem_cons
abbrev lJ:=@Bool.false_eq_true
abbrev lK:=@ByteArray.size_append
abbrev lL:=@Option.some.injEq
abbrev lM:=@Go.World.ownsRow.alloc
abbrev lN:=@List.getElem?_eq_getElem
abbrev lO:=@if_neg
abbrev lP:=@List.mem_map
abbrev lQ:=@List.length_cons
abbrev lR:=@List.length_map
abbrev lS:=@if_pos
abbrev lT:=@List.getD_eq_getElem?_getD
abbrev lU:=@List.length_append
abbrev lV:=@List.mem_append
abbrev lW:=@Nat.zero_le
abbrev lX:=@Nat.le_refl
abbrev lY:=@List.drop_eq_getElem_cons
abbrev lZ:=@List.mem_map_of_mem
abbrev l9:=@List.map_cons
abbrev ma:=@Go.ByteArray.toList_eq
abbrev mc:=@List.flatMap_cons
abbrev me:=@Go.wpList_append_lies
abbrev mf:=@Go.World.ownsRow_nil
abbrev mg:=@Go.World.news_of_block
abbrev mh:=@List.mem_filter
abbrev mi:=@Bool.and_eq_true
abbrev mj:=@Go.bodyPost_ret
abbrev mm:=@List.flatMap_append
abbrev mn:=@List.length_nil
abbrev mo:=@Go.heap_alloc_new
abbrev mp:=@List.drop_eq_nil_of_le
abbrev mq:=@beq_eq_false_iff_ne
abbrev mr:=@List.foldl_cons
abbrev mt:=@Go.World.size_alloc
abbrev mu:=@Go.Addr.mk.injEq
abbrev mw:=@List.getElem_of_mem
abbrev mx:=@List.map_append
abbrev my:=@List.mem_cons_of_mem
abbrev mz:=@List.append_nil
abbrev mA:=@Prod.mk.injEq
abbrev mB:=@List.length_take
abbrev mC:=@Nat.zero_add
abbrev mD:=@List.mem_flatMap
abbrev mE:=@Array.getElem?_eq_some_iff
abbrev mF:=@Nat.mul_le_mul_right
abbrev mG:=@List.length_drop
abbrev mH:=@Go.info_parts
abbrev mI:=@List.map_congr_left
abbrev mJ:=@List.map_map
abbrev mK:=@List.getElem?_set_ne
abbrev mL:=@List.foldl_append
abbrev mM:=@Nat.le_trans
abbrev mN:=@List.take_append_of_le_length
abbrev mO:=@List.append_assoc
abbrev mP:=@ByteArray.size_extract
abbrev mQ:=@List.not_mem_nil
abbrev mR:=@List.nil_append
abbrev mS:=@List.flatMap_nil
abbrev mT:=@List.getElem_append_left
abbrev mU:=@List.take_append_drop
abbrev mV:=@List.mem_cons_self
abbrev mW:=@List.size_toArray
abbrev mX:=@Except.ok.injEq
abbrev mY:=@decide_eq_false
abbrev mZ:=@List.any_eq_true
abbrev m0:=@Go.World.ownsRow.kept
abbrev m3:=@List.all_eq_true
abbrev m4:=@Bool.not_false
abbrev m5:=@List.getElem?_set_self
abbrev m6:=@List.getElem?_map
abbrev m7:=@Go.all_oneCell_toArray
abbrev m8:=@Go.wpIn_seq_k
abbrev m9:=@Bool.eq_iff_iff
abbrev ng:=@List.any_eq_false
abbrev nh:=@UInt8.toNat_inj
abbrev ni:=@Bool.or_eq_true
abbrev nj:=@List.length_set
abbrev nk:=@List.mem_of_mem_take
abbrev np:=@Bool.true_and
abbrev nr:=@List.length_filter_le
abbrev nu:=@beq_iff_eq
abbrev nw:=@List.filter_cons
abbrev ny:=@List.cons_append
abbrev nz:=@Nat.lt_of_lt_of_le
abbrev nA:=@List.pairwise_cons
abbrev nB:=@List.find?_eq_none
abbrev nC:=@List.cons.injEq
abbrev nD:=@List.mem_filterMap
abbrev nE:=@List.map_nil
abbrev nF:=@Option.map_some
abbrev nG:=@List.Pairwise.imp_of_mem
abbrev nH:=@Go.wpList_load_mid
abbrev nI:=@List.getElem?_take
abbrev nJ:=@List.length_replicate
abbrev nK:=@List.length_eq_zero_iff
abbrev nL:=@List.nodup_cons
abbrev nM:=@List.take_length
abbrev nN:=@Go.wpList_store_mid
abbrev nO:=@List.pairwise_iff_getElem
abbrev nP:=@decide_eq_true
abbrev nQ:=@List.pairwise_map
abbrev nR:=@Nat.add_mul
abbrev nS:=@Bool.false_ne_true
abbrev nT:=@List.findIdx?_eq_some_iff_getElem
abbrev nU:=@Go.IntKind.wrap_i64
abbrev nV:=@decide_eq_false_iff_not
abbrev nW:=@Bool.not_eq_true'
abbrev nX:=@Option.mem_toList
abbrev nY:=@Int.tdiv_eq_ediv_of_nonneg
abbrev nZ:=@List.filter_append
abbrev n5:=@List.find?_cons
abbrev n6:=@List.nodup_nil
abbrev n7:=@decide_eq_true_eq
abbrev od:=@Bool.and_self
abbrev oe:=@Bool.false_or
abbrev oh:=@Bool.not_true
abbrev ol:=@Bool.or_eq_false_iff
abbrev om:=@Array.replicate_succ
abbrev oo:=@Array.replicate_zero
abbrev ot:=@Go.decode_ascii
abbrev ou:=@Go.Addr.add_lit
abbrev ow:=@List.getElem?_append_right
abbrev ox:=@List.getElem_cons_zero
abbrev oy:=@List.take_succ_cons
abbrev oz:=@List.append_toArray
abbrev oA:=@UInt8.le_iff_toNat_le
abbrev oB:=@Nat.min_eq_left
abbrev oC:=@Go.wpIn_cond_false
abbrev oD:=@List.mem_of_mem_drop
abbrev oE:=@List.mem_append_left
abbrev oF:=@List.any_cons
abbrev oG:=@Bool.and_false
abbrev oH:=@Bool.false_and
abbrev oI:=@Go.wpIn_cond_true
abbrev oJ:=@List.getElem_take
abbrev oK:=@List.push_toArray
abbrev oL:=@Go.Calls.quiet_of_same
abbrev oM:=@List.drop_succ_cons
abbrev oN:=@List.toList_toArray
abbrev oO:=@Option.map_eq_some_iff
abbrev oP:=@Array.getElem?_eq_none
abbrev oQ:=@Nat.lt_or_eq_of_le
abbrev oR:=@Bool.true_or
abbrev oS:=@List.all_cons
abbrev oT:=@List.take_zero
abbrev oU:=@Option.some.inj
abbrev oV:=@List.nodup_append
abbrev oW:=@List.any_map
abbrev oX:=@List.findSome?_cons
abbrev oY:=@Go.step_append_lies
abbrev oZ:=@List.eq_nil_of_length_eq_zero
abbrev o9:=@List.take_take
abbrev pd:=@List.drop_zero
abbrev pg:=@List.filter_eq_nil_iff
abbrev ph:=@List.getElem?_drop
abbrev pi:=@List.contains_iff_mem
abbrev pj:=@Go.results_none
abbrev pk:=@List.getElem_drop
abbrev pm:=@Go.World.ownsRow_lit
abbrev po:=@List.findSome?_eq_none_iff
abbrev pq:=@List.pairwise_append
abbrev pr:=@List.getElem?_eq_some_iff
abbrev pu:=@List.mem_range
abbrev pw:=@Bool.toNat_false
abbrev px:=@List.map_flatMap
abbrev py:=@Go.run_callFunc_extern
abbrev pC:=@List.filterMap_cons
abbrev pD:=@Go.Sem.run_bind
abbrev pE:=@decide_false
abbrev pF:=@Nat.add_zero
abbrev pG:=@Bool.or_true
abbrev pH:=@Go.ready_mono
abbrev pI:=@Array.setIfInBounds_comm
abbrev pJ:=@Go.RowKit.Below.heap_setCell
abbrev pK:=@List.any_append
abbrev pL:=@List.zip_cons_cons
abbrev pM:=@List.find?_append
abbrev pN:=@Nat.min_def
abbrev pO:=@List.findSome?_append
abbrev pP:=@List.set_append_right
abbrev pQ:=@ByteArray.data_append
abbrev pR:=@List.countP_le_length
abbrev pS:=@List.singleton_append
abbrev pT:=@Go.decode_high
abbrev pU:=@Bool.or_self
abbrev pV:=@List.map_set
variable{w v u:Hq}{M:QC Nat}{b m j n k i:Nat}{y:QC Hs}{T:TypeId}{z:Hs}{P:Program}{s:bC}{g:UInt8}
structure Ac(M:QC Nat)(w w':Hq):Prop where
 os:w'.os=w.os
 tape:w'.tape=w.tape
 output:w'.output=w.output
 size:w.heap.size<=w'.heap.size
 block:∀k,k<w.heap.size->k∉M->w'.heap[k]?=w.heap[k]?
def QP{α:Sort _}(a:α):∃b,a=b:=⟨_,rfl⟩
def Ac.refl(M:QC Nat)(w:Hq):Ac M w w:=⟨rfl,rfl,rfl,lX _,λ_ _ _=>rfl⟩
abbrev SF:=@Ac.refl
def Ac.trans{M:QC Nat}{a b c:Hq}(h:Ac M a b)(k:Ac M b c):Ac M a c:=
 ⟨k.os.trans h.os,k.tape.trans h.tape,k.output.trans h.output,mM h.size k.size,
  λi e d=>(k.block i (nz e h.size) d).trans (h.block i e d)⟩
def Ac.trans'{M N:QC Nat}(h:Ac M w v)(k:Ac N v u)(j:∀i,i∈N->i∈M\/w.heap.size<=i):Ac M w u:=
 ⟨k.os.trans h.os,k.tape.trans h.tape,k.output.trans h.output,mM h.size k.size,
  λi f d=>(k.block i (nz f h.size) (λg=>by rcases j i g with e|e;exact d e;omega)).trans (h.block i f d)⟩
def Ac.mono{M N:QC Nat}(h:Ac M w v)(a:∀i,i∈M->i∈N):Ac N w v:=
 ⟨h.os,h.tape,h.output,h.size,λk c b=>h.block k c (λd=>b (a k d))⟩
def Ac.drew{M:QC Nat}{a w:Hq}(h:Ac M a w):Ac M a w.drew:=⟨h.os,h.tape,h.output,h.size,h.block⟩
def Ac.drewN{M:QC Nat}{a w:Hq}(h:Ac M a w)(n:Nat):Ac M a (w.drewN n):=⟨h.os,h.tape,h.output,h.size,h.block⟩
def Ac.alloc{M:QC Nat}{a w:Hq}(h:Ac M a w)(o:Obj):Ac M a (w.alloc o):=
 h.trans ⟨rfl,rfl,rfl,by simp,λk b _=>Below.heap_alloc _ _ _ b⟩
def Ac.setCell{M:QC Nat}{a w:Hq}(h:Ac M a w){p:Addr}(b:p.block∈M\/a.heap.size<=p.block)(u:Hs):Ac M a (w.setCell p u):=
 h.trans' (N:=[p.block]) ⟨rfl,rfl,rfl,by simp[World.setCell],λk _ c=>pJ _ _ _ _ (by simpa using c)⟩ (by simpa using b)
def Ac.grown{d:Option Nat}(h:Ac M v w)(b:w.grownBy u d)(j:∀k,d=V k->k∈M\/v.heap.size<=k):Ac M v u:=
 ⟨b.os.trans h.os,b.tape.trans h.tape,b.output.trans h.output,mM h.size b.size,
  λi g c=>(b.block i (nz g h.size) (λe=>by rcases j i e.symm with f|f;exact c f;omega)).trans (h.block i g c)⟩
def Ac.below(h:Ac [] w v):Below w.heap.size w v:=⟨h.os,h.tape,h.output,h.size,λk a=>h.block k a (by simp)⟩
def AI(w:Hq)(b:Nat)(cs:QC Hs)(t:TypeId):Prop:=w.heap[b]?=V (.cells (D6 cs) t (0,0))
def AI.lt(h:AI w b y T):b<w.heap.size:=(mE.1 h).1
def AI.cell{w:Hq}{b:Nat}{a:QC Hs}{t:TypeId}(h:AI w b a t)(i:Nat):w.cell? ⟨b,i,Y⟩=a[i]?:=by
 unfold AI at h;simp[World.cell?,h]
def AI.frozen{w:Hq}{b:Nat}{a:QC Hs}{t:TypeId}(h:AI w b a t)(i:Nat):w.frozen? ⟨b,i,Y⟩=K:=by
 unfold AI at h;simp[World.frozen?,h]
def AI.set{w:Hq}{b:Nat}{a:QC Hs}{t:TypeId}(h:AI w b a t)(i:Nat)(u:Hs):AI (w.setCell ⟨b,i,Y⟩ u) b (a.set i u) t:=by
 unfold AI at*;simp[World.setCell,Array.getElem?_modify,h]
def AI.bI(h:AI w b y T)(p:Addr)(a:p.block≠b)(u:Hs):AI (w.setCell p u) b y T:=by
 unfold AI at*;rw[pJ _ _ _ _ (λe=>a e.symm)];exact h
def AI.alloc{w:Hq}{b:Nat}{a:QC Hs}{t:TypeId}(h:AI w b a t)(o:Obj):AI (w.alloc o) b a t:=by
 have:=h.lt;unfold AI at*;rw[Below.heap_alloc _ _ _ this];exact h
def AI.new(w:Hq)(a:QC Hs)(t:TypeId):AI (w.alloc (.cells (D6 a) t)) w.heap.size a t:=by
 exact mo w _
abbrev Tc:=@AI.new
def AI.kept{w w':Hq}(h:AI w b y T)(k:Ac M w w')(a:b∉M:=by simp):AI w' b y T:=by
 have:=h.lt;unfold AI at*;rw[k.block b this a];exact h
def AI.drew{w:Hq}{b:Nat}{a:QC Hs}{t:TypeId}(h:AI w b a t):AI w.drew b a t:=h
def AI.drewN{w:Hq}{b:Nat}{a:QC Hs}{t:TypeId}(h:AI w b a t)(n:Nat):AI (w.drewN n) b a t:=h
def AI.range(h:AI w b y T):w.rangeAt b 0 y:=λj v a=>by rw[mC,h.cell];exact a
def AI.there{w:Hq}{b:Nat}{a:QC Hs}{t:TypeId}(h:AI w b a t):w.there b 0 (Z a):=λj c=>by
 rw[mC,h.cell,h.frozen];simp[c]
def Ad(h:Mi w m T j z n y)(k:Ac M w u)(c:∀i,i∈M->i<m:=by simp):Mi u m T j z n y:=by
 refine⟨h.1,?_⟩;rcases h.2 with p|⟨g,d,b,rfl,f,a,l⟩
 .exact .inl p
 .refine .inr ⟨g,d,b,rfl,f,?_,l⟩;rw[k.block g (mE.1 a).1 (λo=>by have:=c g o;omega)];exact a
def Ai{v:Hs}(h:Mi w m T j v n y)(k:Ac M w u)(c:∀i,v.ownBlock=V i->i∉M:=by simp):Mi u m T j v n y:=by
 refine⟨h.1,?_⟩;rcases h.2 with o|⟨g,d,b,rfl,f,a,l⟩
 .exact .inl o
 .refine .inr ⟨g,d,b,rfl,f,?_,l⟩;rw[k.block g (mE.1 a).1 (c g rfl)];exact a
def Al{a base':Nat}(h:Mi w a T m z n y)(i:base'<=a):Mi w base' T m z n y:=by
 refine⟨h.1,?_⟩;rcases h.2 with f|⟨g,c,b,rfl,j,d⟩
 .exact .inl f
 .exact .inr ⟨g,c,b,rfl,by omega,d⟩
def F0(h:Mi w m T k z n y):Mi w.drew m T k z n y:=h
def DJ(h:Mi w m T i z n y)(k:Nat):Mi (w.drewN k) m T i z n y:=h
def Ah(h:Mi w m T k z n y){p:Addr}(b:z.ownBlock≠V p.block)(u:Hs):Mi (w.setCell p u) m T k z n y:=
 Ai h ((SF [p.block] w).setCell (by simp) u) (λi c a=>b (by simp at a;rw[c,a]))
def Bh(h:Mi w m T i z n y)(k:Nat)(a:k<m):z.ownBlock≠V k:=λT=>by
 have:=(h.lt k T).1;omega
def AI.grown{a:Option Nat}(h:AI w b y T)(k:w.grownBy v a)(c:a≠V b):AI v b y T:=by
 have:=h.lt;unfold AI at*;rw[k.block b this (λe=>c e.symm)];exact h
def Cg{c:Func}{p:Tmp}(h:c.results=#[.cell p T]){a:Array Hs}{t:TypeId}{d:TypeDesc}
  (f:a.getD p undef=Gi (V ⟨b,0,Y⟩)) (k:AI w b y t) (j:P.underlying T=V d) (e:d.isRow=Cm) (l:(P.info? T).map (·.size)=V (Z y)):
  (results c a).run P w=.ok (Ms (D6 y)) w:=by
 have i:=run_loadVar_mid (P:=P) w b 0 T y d k.range j e l;have g:a[p]?.getD undef=Gi (V ⟨b,0,Y⟩):=by simpa using f
 simp only[results,h];simp[pD,Result.andThen,g,i,asAddr]
def Aw{fn:Func}{p u:Tmp}(h:fn.results=#[.cell p T,.tmp u]){a:Array Hs}{t:TypeId}{d:TypeDesc}
  (e:a.getD p undef=Gi (V ⟨b,0,Y⟩)) (i:AI w b y t) (g:P.underlying T=V d) (c:d.isRow=Cm) (j:(P.info? T).map (·.size)=V (Z y)):
  (results fn a).run P w=.ok (.tuple #[Ms (D6 y),a.getD u undef]) w:=by
 have f:=run_loadVar_mid (P:=P) w b 0 T y d i.range g c j;rw[results_cell_tmp h];simp[pD,Result.andThen,e,f,asAddr]
def Cy(h:Mi w m T k z n y):∃b a,z=U b n a:=by
 rcases h.2 with⟨rfl,rfl⟩|⟨g,a,c,rfl,_⟩
 .exact⟨Y,0,rfl⟩
 .exact⟨_,a,rfl⟩
def Xu{α:Type}(f:α->QC Hs)(a:Nat):∀(l:QC α),(∀x∈l,Z (f x)=a)->∀(i:Nat) (b:i<Z l) (k:Nat),k<a->(l.flatMap f)[i*a+k]?=(f l[i])[k]?
 |[],_,i,b,_,_=>by simp at b
 |x::l,h,0,_,k,hk=>by
  have c:=h x (by simp);simp only[mc,Nat.zero_mul,mC,ox];rw[List.getElem?_append_left (by omega)]
 |x::l,h,i+1,b,k,hk=>by
  have c:=h x (by simp);have ih:=Xu f a l (λy d=>h y (by simp[d])) i (by simpa using b) k hk;simp only[mc,List.getElem_cons_succ];rw[ow (by rw[c,nR];omega),c,nR,Nat.one_mul,show i*a+a+k-a=i*a+k by omega];exact ih
def AC{α:Type}{f:α->QC Hs}{l:QC α}(h:Mi w m T n z (Z l) (l.flatMap f))(d:∀x∈l,Z (f x)=n)(i:Nat)(u:i<Z l):
  ∃g a,z=U (V ⟨g,0,Y⟩) (Z l) a/\Z l<=a/\∀j (b:j<Z l) k,k<n->w.cell? ⟨g,j*n+k,Y⟩=(f l[j])[k]?:=by
 rcases h.2 with⟨_,s⟩|⟨g,a,r,rfl,_,p,q,_,t,o⟩
 .omega
 .refine⟨g,a,rfl,q,λj b k c=>?_⟩;rw[<-Xu f n l d j b k c,<-o,nI,lS (by have:(j+1)*n<=Z l*n:=mF _ b;rw[nR]at this;omega)];simp[World.cell?,p]
def Ak(h:Mi w m T k z n y):∃b a,z=U b n a:=Cy h
def Ag(x:bC):QC Hs:=[O x]
def Ab{p:Prop}(h:p):JR p:=h
def Q0{P:Program}{Q:Exit->Act->Hq->Prop}{a:Act}{w:Hq}{x y:Code}(h:∀K:Act->Hq->Prop,JR (∀a w,y.wp P Q a w->K a w)->x.wp P (Exit.then K Q) a w):(Code.seq x y).wp P Q a w:=wp_seq_k λK k=>h K (Ab k)
def Aa{p:Prop}(h:JR p):p:=h
theorem Tryz.zM:(Tryz.prog.info? 9).map (λi=>(i.zero,i.size,i.bytes))=V (V (O ⟨#[]⟩),1,16):=by kernel_rfl
def B1(s:bC)(at_:Nat)(bad:Bool):QC Hs:=[O s,X J at_,No bad]
def AA(c:UInt8):Bool:=97<=c&&c<=122
def Do(c:UInt8):Bool:=65<=c&&c<=90
def Ap(c:UInt8):Bool:=48<=c&&c<=57
def Dx(c:UInt8):Bool:=c==32||c==10
def Bv{a b:Bool}(h:a=b):G3 (No a)=G3 (No b):=by rw[h]
def iv{k:IntKind}{a b:Int}(h:a=b):G3 (X k a)=G3 (X k b):=by rw[h]
theorem Jp(n:Int)(c:UInt8)(w:Hq)(h:n=c.toNat):Calls prog 169 #[X .u8 n] w λe a=>e=G3 (No (AA c))/\a=w:=by
 subst h;go_enter func169,ntmps169;go_wp2;all_goals go_ret
 all_goals refine⟨Bv ?_,rfl⟩
 all_goals (rw[m9];simp[AA,oA];try omega)
theorem OJ(n:Int)(c:UInt8)(w:Hq)(h:n=c.toNat):Calls prog 170 #[X .u8 n] w λe a=>e=G3 (No (Do c))/\a=w:=by
 subst h;go_enter func170,ntmps170;go_wp2;all_goals go_ret
 all_goals refine⟨Bv ?_,rfl⟩
 all_goals (rw[m9];simp[Do,oA];try omega)
theorem CD(n:Int)(c:UInt8)(w:Hq)(h:n=c.toNat):Calls prog 55 #[X .u8 n] w λe a=>e=G3 (No (Ap c))/\a=w:=by
 subst h;go_enter func55,ntmps55;go_wp2;all_goals go_ret
 all_goals refine⟨Bv ?_,rfl⟩
 all_goals (rw[m9];simp[Ap,oA];try omega)
def Ae(s:bC)(at_:Nat):Nat:=
 if h:at_<s.size then(if Dx s[at_] then Ae s (at_+1)else at_)else at_
def AQ(s:bC)(at_:Nat)(bad:Bool):Nat:=if bad then at_ else Ae s at_
def BD(s:bC)(a:Nat)(h:a<=s.size):Ae s a<=s.size:=by
 fun_induction Ae s a<;>omega
def Ch(s:bC)(a:Nat):a<=Ae s a:=by
 fun_induction Ae s a<;>omega
def Lr(s:bC)(a:Nat):AQ s a Cm=a:=rfl
def RA(s:bC)(a:Nat)(h:¬a<s.size)(b:Bool):AQ s a b=a:=by
 unfold AQ;rw[Ae];simp[h]
def Zp(s:bC)(a:Nat)(h:a<s.size)(b:Dx s[a]=Cm):AQ s a K=AQ s (a+1) K:=by
 unfold AQ;rw[Ae];simp[h,b]
def XM(s:bC)(a:Nat)(h:a<s.size)(b:Dx s[a]=K):AQ s a K=a:=by
 unfold AQ;rw[Ae];simp[h,b]
def Cu(c k:UInt8):((c.toNat:Int)==(k.toNat:Int))=(c==k):=by
 rw[m9];simp only[nu];constructor
 .intro h;exact nh.1 (by omega)
 .intro h;rw[h]
def VP(c:UInt8):(((c.toNat:Int)==32)=Cm/\Dx c=Cm)\/(((c.toNat:Int)==32)=K/\((c.toNat:Int)==10)=Cm/\Dx c=Cm)\/
  (((c.toNat:Int)==32)=K/\((c.toNat:Int)==10)=K/\Dx c=K):=by
 have b:((c.toNat:Int)==32)=(c==32):=Cu c 32;have a:((c.toNat:Int)==10)=(c==10):=Cu c 10;rw[b,a];unfold Dx;cases(c==32)<;>cases(c==10)<;>simp
theorem DR(b:Nat)(s:bC)(c:Nat)(a:Bool)(w:Hq)(M:s.size<=1000000)(D:c<=s.size)(G:AI w b (B1 s c a) 73):
  Calls prog 43 #[Gi (V ⟨b,0,Y⟩)] w λe u=>e=G3 (.tuple #[])/\AI u b (B1 s (AQ s c a) a) 73/\Ac [b] w u:=by
 go_enter func43,ntmps43;go_wp2
 go_loopg [] (s.size-c) (λk wr=>∃j:Nat,j<=s.size/\k=s.size-j/\AQ s j a=AQ s c a/\AI wr b (B1 s j a) 73/\Ac [b] w wr)
 case atStart=>exact⟨c,D,rfl,rfl,G,SF _ _⟩
 case round=>
  obtain⟨j,N,y,x,f,g⟩:=hrel;have B:=f.cell 0;have H:=f.cell 1;have F:=f.cell 2;have P:=f.frozen 1;simp[B1]at B H F;have m:JR (gk=s.size-j/\AQ s j a=AQ s c a):=⟨y,x⟩;clear y x;have A:AQ s j a=j->AI wr b (B1 s (AQ s c a) a) 73:=λh=>by rw[<-m.out.2,h];exact f
  have p:JR (AQ s j a=j->AI wr b (B1 s (AQ s c a) a) 73):=A;clear A;cases a with
  |true=>
   go_wp2
   go_quiet (fail)
   go_wp2;go_end0;exact⟨rfl,p.out rfl,g.drewN _⟩
  |false=>
   by_cases o:j<s.size
   ·(have L:(j:Int)<(s.size:Int):=by omega);have v:JR (Dx s[j]=Cm->∃d:Nat,d<=s.size/\s.size-(j+1)=s.size-d/\AQ s d K=AQ s c K/\∀n,AI ((wr.drewN n).setCell ⟨b,1,Y⟩ (X J (j+1))) b (B1 s d K) 73/\Ac [b] w ((wr.drewN n).setCell ⟨b,1,Y⟩ (X J (j+1)))):=by
     intro h;refine⟨j+1,by omega,rfl,?_,λn=>⟨?_,?_⟩⟩
     .rw[<-m.out.2,Zp s j o h]
     .exact(f.drewN n).set 1 _
     .exact(g.drewN n).setCell (by simp) _
    rcases VP s[j] with⟨z,i⟩|⟨z,C,i⟩|⟨z,C,i⟩
    .clear f g;go_wp2
     go_quiet (fail)
     go_wp2
     go_roundg (s.size-(j+1))
     case measure=>have:=m.out.1;omega
     case rel=>
      obtain⟨d,r,t,q,l⟩:=v.out i;exact⟨d,r,t,q,(l _).1,(l _).2⟩
    .clear f g;go_wp2
     go_quiet (fail)
     go_wp2
     go_roundg (s.size-(j+1))
     case measure=>have:=m.out.1;omega
     case rel=>
      obtain⟨d,r,t,q,l⟩:=v.out i;exact⟨d,r,t,q,(l _).1,(l _).2⟩
    .have E:JR (Dx s[j]=K):=i;clear i;go_wp2
     go_quiet (fail)
     go_wp2;go_end0;exact⟨rfl,p.out (XM s j o E.out),g.drewN _⟩
   ·(have I:decide ((j:Int)<(s.size:Int))=K:=by simp;omega);go_wp2
    go_quiet (fail)
    go_wp2;go_end0;exact⟨rfl,p.out (RA s j o _),g.drewN _⟩
def Ej(s:bC)(j:Nat)(c:UInt8):Bool:=if h:j<s.size then s[j]==c else K
def GV(s:bC)(a:Nat)(b:Bool)(h:a<=s.size):AQ s a b<=s.size:=by
 unfold AQ;split
 .exact h
 .exact BD s a h
theorem RS(b:Nat)(s:bC)(d:Nat)(a:Bool)(n:Int)(c:UInt8)(w:Hq)(u:n=c.toNat)(t:s.size<=1000000)(m:d<=s.size)(o:AI w b (B1 s d a) 73):
  Calls prog 128 #[Gi (V ⟨b,0,Y⟩),X .u8 n] w λe k=>e=G3 (No (!a&&Ej s (AQ s d a) c))/\AI k b (B1 s (AQ s d a) a) 73/\Ac [b] w k:=by
 have v:=GV s d a m;subst u;obtain⟨j,h⟩:=QP (AQ s d a);rw[h]at v⊢;have l:JR (AQ s d a=j):=h;clear h;go_enter func128,ntmps128;go_wp2_with fail
 refine(DR b s d a _ t m o).mono ?_;rintro e z ⟨rfl,f,g⟩;rw[l.out]at f;clear o l;have p:=f.cell 0;have x:=f.cell 1;have q:=f.cell 2;simp[B1]at p x q;cases a with
 |true=>
  go_wp2
  go_quiet (fail)
  go_wp2;go_ret;exact⟨Bv (by simp),f.drewN _,g.drewN _⟩
 |false=>
  by_cases i:j<s.size
  ·(have A:(j:Int)<(s.size:Int):=by omega);have r:JR (((s[j].toNat:Int)==(c.toNat:Int))=(!false&&Ej s j c)):=by
    show _=_;rw[Cu];unfold Ej;simp[i]
   go_wp2
   go_quiet (fail)
   go_wp2;go_ret;exact⟨Bv r.out,f.drewN _,g.drewN _⟩
  ·(have y:decide ((j:Int)<(s.size:Int))=K:=by simp;omega);go_wp2
   go_quiet (fail)
   go_wp2;go_ret;exact⟨Bv (by unfold Ej;simp[i]),f.drewN _,g.drewN _⟩
def B7(s:bC)(j:Nat)(bad:Bool)(c:UInt8):Nat:=if !bad&&Ej s (AQ s j bad) c then AQ s j bad+1 else AQ s j bad
def F4(h:Ej s j g=Cm):j<s.size:=by
 unfold Ej at h;split at h
 .assumption
 .cases h
def Eb(s:bC)(a:Nat)(d:Bool)(c:UInt8)(h:a<=s.size):B7 s a d c<=s.size:=by
 unfold B7;have:=GV s a d h;split
 .rename_i b;simp only[mi]at b;have:=F4 b.2;omega
 .exact this
theorem NF(b:Nat)(s:bC)(d:Nat)(a:Bool)(n:Int)(c:UInt8)(w:Hq)(o:n=c.toNat)(u:s.size<=1000000)(q:d<=s.size)(p:AI w b (B1 s d a) 73):
  Calls prog 80 #[Gi (V ⟨b,0,Y⟩),X .u8 n] w λe l=>e=G3 (No (!a&&Ej s (AQ s d a) c))/\AI l b (B1 s (B7 s d a c) a) 73/\Ac [b] w l:=by
 have t:=GV s d a q;unfold B7;obtain⟨j,k⟩:=QP (AQ s d a);rw[k]at t⊢;obtain⟨h,i⟩:=QP (!a&&Ej s j c);rw[i];have g:JR (AQ s d a=j/\(!a&&Ej s j c)=h/\n=c.toNat):=⟨k,i,o⟩;clear k i o;go_enter func80,ntmps80;go_wp2_with fail
 refine(RS b s d a n c _ g.out.2.2 u q p).mono ?_;rintro e x ⟨rfl,f,m⟩;rw[g.out.1,g.out.2.1];rw[g.out.1]at f;clear p g;have r:=f.cell 0;have v:=f.cell 1;have y:=f.frozen 1;simp[B1]at r v;cases h with
 |true=>
  go_wp2;go_ret;exact⟨Bv rfl,f.set 1 _,m.setCell (by simp) _⟩
 |false=>
  go_wp2;go_ret;exact⟨Bv rfl,f,m⟩
theorem Oa(b:Nat)(s:bC)(d:Nat)(a:Bool)(n:Int)(c:UInt8)(w:Hq)(p:n=c.toNat)(x:s.size<=1000000)(y:d<=s.size)(q:AI w b (B1 s d a) 73):
  Calls prog 82 #[Gi (V ⟨b,0,Y⟩),X .u8 n] w λe m=>e=G3 (.tuple #[])/\AI m b (B1 s (B7 s d a c) (!(!a&&Ej s (AQ s d a) c))) 73/\Ac [b] w m:=by
 have r:JR ((!a&&Ej s (AQ s d a) c)=Cm->a=K):=by intro h;cases a<;>simp_all
 obtain⟨j,l⟩:=QP (B7 s d a c);obtain⟨k,g⟩:=QP (!a&&Ej s (AQ s d a) c);rw[l,g];rw[g]at r;have i:JR (B7 s d a c=j/\(!a&&Ej s (AQ s d a) c)=k/\n=c.toNat):=⟨l,g,p⟩;clear l g p;go_enter func82,ntmps82;go_wp2_with fail
 refine(NF b s d a n c _ i.out.2.2 x y q).mono ?_;rintro e t ⟨rfl,f,o⟩;rw[i.out.2.1];rw[i.out.1]at f;clear q i;have v:=f.cell 2;have z:=f.frozen 2;simp[B1]at v;cases k with
 |true=>
  have u:JR (AI t b (B1 s j (!true)) 73):=by have e:=r.out rfl;rw[e]at f;exact f
  go_wp2;go_end0;exact⟨rfl,u.out,o⟩
 |false=>
  go_wp2;go_end0;exact⟨rfl,f.set 2 _,o.setCell (by simp) _⟩
def AG(p:UInt8->Bool)(s:bC)(i:Nat):Nat:=
 if h:i<s.size then(if p s[i] then AG p s (i+1)else i)else i
def CN(p:UInt8->Bool)(s:bC)(i:Nat)(h:i<=s.size):AG p s i<=s.size:=by
 fun_induction AG p s i<;>omega
def Cw(p:UInt8->Bool)(s:bC)(i:Nat):i<=AG p s i:=by
 fun_induction AG p s i<;>omega
def Ct(p:UInt8->Bool)(s:bC)(i:Nat)(h:i<s.size)(a:p s[i]=Cm):AG p s i=AG p s (i+1):=by
 rw[AG];simp[h,a]
def Ft(p:UInt8->Bool)(s:bC)(i:Nat)(h:i<s.size)(a:p s[i]=K):AG p s i=i:=by
 rw[AG];simp[h,a]
def GA(p:UInt8->Bool)(s:bC)(i:Nat)(h:¬i<s.size):AG p s i=i:=by
 rw[AG];simp[h]
def Bc(s:bC)(at_:Nat)(bad:Bool):bC×Nat×Bool:=
 if bad then(ND,at_,Cm)else
  if AG AA s (Ae s at_)=Ae s at_\/4<AG AA s (Ae s at_)-Ae s at_ then(ND,Ae s at_,Cm)
  else(s.extract (Ae s at_) (AG AA s (Ae s at_)),AG AA s (Ae s at_),K)
def EC(a:Ae s n=j)(b:AG AA s j=k)(h:k=j\/4<k-j):Bc s n K=(ND,j,Cm):=by
 unfold Bc;rw[a,b,lO (by simp),lS h]
def Li(a:Ae s n=j)(b:AG AA s j=k)(h:¬(k=j\/4<k-j)):Bc s n K=(s.extract j k,k,K):=by
 unfold Bc;rw[a,b,lO (by simp),lO h]
theorem NT(b:Nat)(s:bC)(c:Nat)(g:Bool)(w:Hq)(G:s.size<=1000000)(r:c<=s.size)(n:AI w b (B1 s c g) 73):
  Calls prog 126 #[Gi (V ⟨b,0,Y⟩)] w λe y=>e=G3 (O (Bc s c g).1)/\AI y b (B1 s (Bc s c g).2.1 (Bc s c g).2.2) 73/\Ac [b] w y:=by
 cases g with
 |true=>
  go_enter func126,ntmps126;go_wp2_with fail
  refine(DR b s c Cm _ G r n).mono ?_;rintro e H ⟨rfl,a,d⟩;rw[Lr]at a;clear n;have q:=a.cell 0;have x:=a.cell 1;have t:=a.cell 2;have L:=a.frozen 2;simp[B1]at q x t;go_wp2
  go_loop [4] (λi=>i=X J c) (λ_=>0)
  case atStart=>rfl
  case round=>
   subst hrel;go_wp2;go_ret;exact⟨rfl,a.set 2 _,d.setCell (by simp) _⟩
 |false=>
  obtain⟨j,u⟩:=QP (Ae s c);have B:=BD s c r;rw[u]at B;obtain⟨R,v⟩:=QP (Bc s c K);rw[v];have p:JR (Ae s c=j):=u;have A:JR (Bc s c K=R):=v;clear u v;go_enter func126,ntmps126;go_wp2_with fail
  refine(DR b s c K _ G r n).mono ?_;rintro e H ⟨rfl,a,d⟩;rw[show AQ s c K=j from p.out]at a
  clear n;have q:=a.cell 0;have x:=a.cell 1;have t:=a.cell 2;have T:=a.frozen 1;have L:=a.frozen 2;simp[B1]at q x t;go_wp2
  go_loop [4] (λi=>∃k:Nat,i=X J k/\j<=k/\k<=s.size/\AG AA s k=AG AA s j) (λi=>s.size-(intOf i).toNat)
  case atStart=>exact⟨j,rfl,lX _,B,rfl⟩
  case round=>
   obtain⟨k,rfl,P,S,E⟩:=hrel;have D:JR (AG AA s k=AG AA s j):=E;clear E;have z:JR (AG AA s k=k->(((k:Int)=j\/4<(k:Int)-j)->R=(ND,j,Cm))/\(¬((k:Int)=j\/4<(k:Int)-j)->R=(s.extract j k,k,K))):=by
    intro M;(have C:AG AA s j=k:=by rw[<-D.out];exact M);exact⟨λh=>by rw[<-A.out];exact EC p.out C (by omega),λh=>by rw[<-A.out];exact Li p.out C (by omega)⟩
   by_cases o:k<s.size
   ·(have Q:(k:Int)<(s.size:Int):=by omega);by_cases m:AA s[k]=Cm
    ·(have I:JR (AG AA s (k+1)=AG AA s j):=by show _=_;rw[<-Ct AA s k o m];exact D.out);go_wp2_with (go_at_call 169;refine(Jp _ s[k] _ rfl).mono ?_;rintro e N ⟨rfl,rfl⟩;rw[m])
     go_round
     case rel=>exact⟨k+1,by go_num,by omega,by omega,I.out⟩
     case measure=>simp[intOf];omega
    ·(have F:AA s[k]=K:=by simpa using m);have l:=z.out (Ft AA s k o F);have f:JR ((((k:Int)=j\/4<(k:Int)-j)->R=(ND,j,Cm))/\(¬((k:Int)=j\/4<(k:Int)-j)->R=(s.extract j k,k,K))):=l;clear l m;go_wp2_with (go_at_call 169;refine(Jp _ s[k] _ rfl).mono ?_;rintro e N ⟨rfl,rfl⟩;rw[F])
     all_goals go_ret
     .rw[f.out.1 (by omega)];exact⟨rfl,a.set 2 _,d.setCell (by simp) _⟩
     .rw[f.out.1 (by simp_all)];exact⟨rfl,a.set 2 _,d.setCell (by simp) _⟩
     .rw[f.out.2 (by simp_all)];exact⟨rfl,a.set 1 _,d.setCell (by simp) _⟩
   .have l:=z.out (GA AA s k o);have f:JR ((((k:Int)=j\/4<(k:Int)-j)->R=(ND,j,Cm))/\(¬((k:Int)=j\/4<(k:Int)-j)->R=(s.extract j k,k,K))):=l;clear l;go_wp2;all_goals go_ret
    .rw[f.out.1 (by omega)];exact⟨rfl,a.set 2 _,d.setCell (by simp) _⟩
    .rw[f.out.1 (by simp_all)];exact⟨rfl,a.set 2 _,d.setCell (by simp) _⟩
    .rw[f.out.2 (by simp_all)];exact⟨rfl,a.set 1 _,d.setCell (by simp) _⟩
end Go.Proofs.YtoihbhenbmffcaaGreatDoor
namespace Go.Proofs.YtoihbhenbmffcaaGreatDoor
open Go.RowKit Go.Proofs.Tryz
structure PD{α:Type}(lt:α->α->Bool)(eq:α->α->Bool):Prop where
 trans:∀a b c,lt a b=Cm->lt b c=Cm->lt a c=Cm
 irr:∀a,lt a a=K
 tot:∀a b,lt a b=K->eq a b=K->lt b a=Cm
 eqv:∀a b,eq a b=Cm↔a=b
def Di{α:Type}(lt:α->α->Bool)(l:QC α):Prop:=∀i j (hi:i<Z l) (hj:j<Z l),i<j->lt l[i] l[j]=Cm
structure DA{α:Type}(lt:α->α->Bool)(l:QC α)(k:Nat)(x:α)(at_:Nat):Prop where
 ge:k<=at_
 le:at_<=Z l
 below:∀i (h:i<Z l),k<=i->i<at_->lt l[i] x=Cm
 zF:∀i (h:i<Z l),at_<=i->lt l[i] x=K
section
variable {α:Type} {lt eq:α->α->Bool} {l:QC α}
def Di.down(o:PD lt eq)(d:Di lt l){i j:Nat}(b:j<Z l)(c:i<=j){x:α}(h:lt l[j] x=Cm):lt (l[i]'(by omega)) x=Cm:=by
 rcases oQ c with a|a
 .exact o.trans _ _ _ (d i j (by omega) b a) h
 .subst a;exact h
def Di.up(o:PD lt eq)(c:Di lt l){i j:Nat}(a:j<Z l)(b:i<=j){x:α}(h:lt (l[i]'(by omega)) x=K):lt l[j] x=K:=by
 cases hh:lt l[j] x with
 |false=>rfl
 |true=>rw[c.down o a b hh]at h;cases h
def E6(eq:α->α->Bool)(l:QC α)(at_:Nat)(x:α):Bool:=if h:at_<Z l then eq l[at_] x else K
def DA.has(o:PD lt eq)(j:Di lt l){x:α}{a:Nat}(h:DA lt l 0 x a):E6 eq l a x=Cm↔x∈l:=by
 unfold E6;constructor
 .intro e;split at e
  .rename_i b;have:=(o.eqv _ _).1 e;rw[<-this];exact lE b
  .cases e
 .intro m;obtain⟨i,f,c⟩:=mw m;have k:a<=i:=by
   by_cases g:i<a
   .have:=h.below i f (by omega) g;rw[c,o.irr]at this;cases this
   .omega
  have b:a<Z l:=by omega
  rw[dif_pos b];rcases oQ k with d|d
  .have:=j a i b f d;rw[c]at this;rw[h.zF a b (lX _)]at this;cases this
  .subst d;rw[c];exact(o.eqv _ _).2 rfl
def Ga(l:QC α)(at_:Nat)(x:α):QC α:=l.take at_++x::l.drop at_
def LD{at_:Nat}(h:at_<=Z l)(x:α):Z (Ga l at_ x)=Z l+1:=by
 simp[Ga];omega
def Pa{a:Nat}(x y:α):y∈Ga l a x↔y=x\/y∈l:=by
 unfold Ga;rw[lV,lI];have:y∈l↔y∈l.take a\/y∈l.drop a:=by rw[<-lV,mU]
 rw[this];constructor
 .rintro (h|h|h)
  .exact Hf (Hd h)
  .exact Hd h
  .exact Hf (Hf h)
 .rintro (h|h|h)
  .exact Hf (Hd h)
  .exact Hd h
  .exact Hf (Hf h)
def Se:Di lt l↔l.Pairwise (λa b=>lt a b=Cm):=by
 unfold Di;rw[nO]
def DA.cE(o:PD lt eq)(g:Di lt l){x:α}{c:Nat}(h:DA lt l 0 x c)(m:E6 eq l c x=K):Di lt (Ga l c x):=by
 rw[Se]at g⊢;have n:∀a∈l.take c,lt a x=Cm:=by
  intro a f;obtain⟨i,k,d⟩:=mw f;simp only[mB]at k;rw[oJ]at d;rw[<-d];exact h.below i (by omega) (by omega) (by omega)
 have q:∀b∈l.drop c,lt x b=Cm:=by
  intro b e;obtain⟨i,k,d⟩:=mw e;simp only[mG]at k;rw[pk]at d;have j:c<Z l:=by omega
  have p:lt x l[c]=Cm:=by
   apply o.tot _ _ (h.zF c j (lX _));unfold E6 at m;rw[dif_pos j]at m;exact m
  rw[<-d];by_cases r:i=0
  .subst r;simpa using p
  .exact o.trans _ _ _ p ((Se.2 g) c (c+i) j (by omega) (by omega))
 unfold Ga;rw[pq];refine⟨g.sublist (List.take_sublist _ _),?_,?_⟩
 .rw[nA];exact⟨q,g.sublist (List.drop_sublist _ _)⟩
 .intro a f b e;rcases lI.1 e with rfl|e
  .exact n a f
  .exact o.trans _ _ _ (n a f) (q b e)
def Di.nodup(o:PD lt eq)(c:Di lt l):l.Nodup:=by
 rw[Se]at c;exact c.imp (fun{a b} h e=>by subst e;rw[o.irr]at h;cases h)
end
def FY(a b:bC):Bool:=Pf a.toList b.toList
def i6(a b:bC):Bool:=a.toList==b.toList
def Pv(a b:Int):Bool:=decide (a<b)
def jy(a b:Int):Bool:=a==b
def NQ:∀a b c:QC UInt8,Pf a b=Cm->Pf b c=Cm->Pf a c=Cm
 |a,b,[],_,h=>by cases b<;>simp[Pf]at h
 |[],b,_::_,_,_=>rfl
 |_::_,[],_::_,h,_=>by simp[Pf]at h
 |x::a,y::b,z::c,e,d=>by
  simp only[Pf,ni,n7,mi,nu]at e d⊢;rcases e with e|⟨rfl,e⟩
  .rcases d with d|⟨rfl,d⟩
   .exact Hd (UInt8.lt_trans e d)
   .exact Hd e
  .rcases d with d|⟨rfl,d⟩
   .exact Hd d
   .exact Hf ⟨rfl,NQ a b c e d⟩
def PW:∀a:QC UInt8,Pf a a=K
 |[]=>rfl
 |x::a=>by simp[Pf,PW a]
def St:∀a b:QC UInt8,Pf a b=K->(a==b)=K->Pf b a=Cm
 |[],[],_,h=>by simp at h
 |[],_::_,h,_=>by simp[Pf]at h
 |_::_,[],_,_=>rfl
 |x::a,y::b,h,h2=>by
  simp only[Pf,ni,n7,mi,nu,ol,nV,Bool.and_eq_false_imp]at h⊢;by_cases c:x=y
  .subst c;refine Hf ⟨rfl,St a b (h.2 rfl) ?_⟩;simpa using h2
  .left;have d:=h.1;rw[UInt8.lt_iff_toNat_lt]at d⊢;(have:x.toNat≠y.toNat:=λe=>c (nh.1 e));omega
def Gh:PD FY i6:=
 ⟨λa b c=>NQ _ _ _,λa=>PW _,λa b=>St _ _,λa b=>by
  unfold i6
  simp only[nu]
  exact⟨λh=>by
   rw[ma,ma]at h
   exact ByteArray.ext (Array.toList_inj.1 h),λh=>by rw[h]⟩⟩
def Sr:PD Pv jy:=
 ⟨λa b c d e=>by simp[Pv]at*;omega,λa=>by simp[Pv],λa b d e=>by simp[Pv,jy]at*;omega,λa b=>by simp[jy]⟩
end Go.Proofs.YtoihbhenbmffcaaGreatDoor
namespace Go.Proofs.YtoihbhenbmffcaaGreatDoor
open Go.RowKit Go.Proofs.Tryz
variable{n j k m b:Nat}{s:bC}{w:Hq}{T:TypeId}{y:QC Hs}{I:Int}
theorem Tb(hT:(n=9/\j=165)\/(n=170/\j=149))(lv:Hs)(l:QC bC)(k:Nat)(x:bC)(A1:Nat)(w:Hq)(T:Mi w A1 n 1 lv (Z l) (l.flatMap Ag))(DT:Z l<=1000000)(hk:k<=Z l)(W:Di FY l):
  Calls prog j #[lv,X J k,O x] w λe w'=>∃I:Nat,e=G3 (X J I)/\DA FY l k x I/\w'=w:=by
 obtain⟨ad,BA,rfl⟩:=Ak T;have u:=Ab W;have F:JR (∀i (h:i<Z l),∃g,ad=V ⟨g,0,Y⟩/\Z l<=BA/\w.cell? ⟨g,i,Y⟩=V (O l[i])):=by
  intro i hi;obtain⟨g,B9,he,N,BB⟩:=AC T (by simp[Ag]) i hi;simp only[lB]at he;obtain⟨rfl,_,rfl⟩:=he;have L:=BB i hi 0 (by omega);simp[Ag]at L;exact⟨g,rfl,N,L⟩
 clear W;rcases hT with⟨rfl,rfl⟩|⟨rfl,rfl⟩
 case' inl=>go_enter func165,ntmps165
 case' inr=>go_enter func149,ntmps149
 all_goals
  go_wp2
  go_loop [7,8] (λa s=>∃(f q:Nat),a=X J f/\s=X J q/\k<=f/\f<=Z l/\1<=q/\q<=2*Z l+1/\JR (∀i (h:i<Z l),k<=i->i<f->FY l[i] x=Cm)) (λa s=>Z l-(intOf a).toNat)
  case atStart=>exact⟨k,1,by go_num,rfl,lX _,hk,lX _,by omega,λi h o y=>by omega⟩
  case round=>
   obtain⟨f,q,rfl,rfl,G,CC,EK,ES,r⟩:=hrel;by_cases EM:f+q<=Z l
   .obtain⟨g,AT,CL,N⟩:=F (f+q-1) (by omega);(have B2:((f+q-1:Nat):Int)=(f:Int)+(q:Int)-1:=by omega);(have EX:((f:Int)+(q:Int)-1).toNat=f+q-1:=by omega);subst AT;have B0:JR (FY l[f+q-1] x=Cm->∀i (h:i<Z l),k<=i->i<f+q->FY l[i] x=Cm):=by
     intro p i h o y;exact u.down Gh (by omega) (by omega) p
    have BT:JR (FY l[f+q-1] x=K->∀i (h:i<Z l),f+q-1<=i->FY l[i] x=K):=by
     intro p i h o;exact u.up Gh h o p
    go_wp2
    .refine⟨⟨f+q,q*2,by go_num,by go_num,by omega,by omega,by omega,by omega,B0 (by first|assumption|(simp[FY];omega))⟩,?_⟩;simp[intOf];omega
    ·
     have v:JR (∀i (h:i<Z l),(f+q-1)<=i->FY l[i] x=K):=BT (by first|assumption|(simp[FY];omega))
     go_loop [7,9,10] (λa h m=>∃(b d:Nat),a=X J b/\h=X J d/\k<=b/\b<=d/\d<=Z l/\JR (∀i (h:i<Z l),k<=i->i<b->FY l[i] x=Cm)/\JR (∀i (h:i<Z l),d<=i->FY l[i] x=K)) (λa h m=>(intOf h).toNat-(intOf a).toNat)
     case atStart=>exact⟨f,(f+q-1),rfl,by go_num,G,by omega,by omega,r,v⟩
     case round=>
      clear r v;obtain⟨b,d,rfl,rfl,o,y,D,r,t⟩:=hrel;by_cases H:b<d
      .obtain⟨c,AO⟩:=QP (b+(d-b)/2);(have P:b<=c:=by omega);(have Q:c<d:=by omega);(have C:(b:Int)+((d:Int)-(b:Int))/2=(c:Int):=by omega);(have R:(b:Int)+((d:Int)-(b:Int)).tdiv 2=(c:Int):=by rw[nY (by omega)];exact C);obtain⟨M,z,Ax,S⟩:=F c (by omega);have A:JR (FY l[c] x=Cm->∀i (h:i<Z l),k<=i->i<c+1->FY l[i] x=Cm):=by
        intro p i h o y;exact u.down Gh (by omega) (by omega) p
       have B:JR (FY l[c] x=K->∀i (h:i<Z l),c<=i->FY l[i] x=K):=by
        intro p i h o;exact u.up Gh h o p
       simp only[lL,mu,and_true]at z;subst z;go_wp2
       .refine⟨⟨c+1,d,by go_num,rfl,by omega,by omega,D,A (by first|assumption|(simp[FY];omega)),t⟩,?_⟩;simp[intOf];omega
       .refine⟨⟨b,c,rfl,by go_num,o,by omega,by omega,r,B (by first|assumption|(simp[FY];omega))⟩,?_⟩;simp[intOf];omega
      .have E:JR (DA FY l k x b):=⟨o,by omega,r,λi h p=>t i h (by omega)⟩;go_wp2;go_ret;exact⟨b,rfl,E,rfl⟩
   .go_wp2
    ·
     have v:JR (∀i (h:i<Z l),Z l<=i->FY l[i] x=K):=λi h p=>by omega
     go_loop [7,9,10] (λa h m=>∃(b d:Nat),a=X J b/\h=X J d/\k<=b/\b<=d/\d<=Z l/\JR (∀i (h:i<Z l),k<=i->i<b->FY l[i] x=Cm)/\JR (∀i (h:i<Z l),d<=i->FY l[i] x=K)) (λa h m=>(intOf h).toNat-(intOf a).toNat)
     case atStart=>exact⟨f,Z l,rfl,by go_num,G,by omega,by omega,r,v⟩
     case round=>
      clear r v;obtain⟨b,d,rfl,rfl,o,y,D,r,t⟩:=hrel;by_cases H:b<d
      .obtain⟨c,AO⟩:=QP (b+(d-b)/2);(have P:b<=c:=by omega);(have Q:c<d:=by omega);(have C:(b:Int)+((d:Int)-(b:Int))/2=(c:Int):=by omega);(have R:(b:Int)+((d:Int)-(b:Int)).tdiv 2=(c:Int):=by rw[nY (by omega)];exact C);obtain⟨M,z,Ax,S⟩:=F c (by omega);have A:JR (FY l[c] x=Cm->∀i (h:i<Z l),k<=i->i<c+1->FY l[i] x=Cm):=by
        intro p i h o y;exact u.down Gh (by omega) (by omega) p
       have B:JR (FY l[c] x=K->∀i (h:i<Z l),c<=i->FY l[i] x=K):=by
        intro p i h o;exact u.up Gh h o p
       subst z;go_wp2
       .refine⟨⟨c+1,d,by go_num,rfl,by omega,by omega,D,A (by first|assumption|(simp[FY];omega)),t⟩,?_⟩;simp[intOf];omega
       .refine⟨⟨b,c,rfl,by go_num,o,by omega,by omega,r,B (by first|assumption|(simp[FY];omega))⟩,?_⟩;simp[intOf];omega
      .have E:JR (DA FY l k x b):=⟨o,by omega,r,λi h p=>t i h (by omega)⟩;go_wp2;go_ret;exact⟨b,rfl,E,rfl⟩
    all_goals
     have v:JR (∀i (h:i<Z l),(f+q-1)<=i->FY l[i] x=K):=λi h p=>by omega
     go_loop [7,9,10] (λa h m=>∃(b d:Nat),a=X J b/\h=X J d/\k<=b/\b<=d/\d<=Z l/\JR (∀i (h:i<Z l),k<=i->i<b->FY l[i] x=Cm)/\JR (∀i (h:i<Z l),d<=i->FY l[i] x=K)) (λa h m=>(intOf h).toNat-(intOf a).toNat)
     case atStart=>exact⟨f,(f+q-1),rfl,by go_num,G,by omega,by omega,r,v⟩
     case round=>
      clear r v;obtain⟨b,d,rfl,rfl,o,y,D,r,t⟩:=hrel;by_cases H:b<d
      .obtain⟨c,AO⟩:=QP (b+(d-b)/2);(have P:b<=c:=by omega);(have Q:c<d:=by omega);(have C:(b:Int)+((d:Int)-(b:Int))/2=(c:Int):=by omega);(have R:(b:Int)+((d:Int)-(b:Int)).tdiv 2=(c:Int):=by rw[nY (by omega)];exact C);obtain⟨M,z,Ax,S⟩:=F c (by omega);have A:JR (FY l[c] x=Cm->∀i (h:i<Z l),k<=i->i<c+1->FY l[i] x=Cm):=by
        intro p i h o y;exact u.down Gh (by omega) (by omega) p
       have B:JR (FY l[c] x=K->∀i (h:i<Z l),c<=i->FY l[i] x=K):=by
        intro p i h o;exact u.up Gh h o p
       subst z;go_wp2
       .refine⟨⟨c+1,d,by go_num,rfl,by omega,by omega,D,A (by first|assumption|(simp[FY];omega)),t⟩,?_⟩;simp[intOf];omega
       .refine⟨⟨b,c,rfl,by go_num,o,by omega,by omega,r,B (by first|assumption|(simp[FY];omega))⟩,?_⟩;simp[intOf];omega
      .have E:JR (DA FY l k x b):=⟨o,by omega,r,λi h p=>t i h (by omega)⟩;go_wp2;go_ret;exact⟨b,rfl,E,rfl⟩
def Th(a:Hs)(l:QC bC)(k:Nat)(x:bC)(c:Nat)(w:Hq)(g:Mi w c 9 1 a (Z l) (l.flatMap Ag))(i:Z l<=1000000)(d:k<=Z l)(h:Di FY l):
  Calls prog 165 #[a,X J k,O x] w λe f=>∃b:Nat,e=G3 (X J b)/\DA FY l k x b/\f=w:=
 Tb (Hd ⟨rfl,rfl⟩) a l k x c w g i d h
def AW(x:Int):QC Hs:=[X .i32 x]
theorem Tj(lv:Hs)(l:QC Int)(k:Nat)(x:Int)(AT:Nat)(w:Hq)(R:Mi w AT 21 1 lv (Z l) (l.flatMap AW))(B9:Z l<=1000000)(hk:k<=Z l)(S:Di Pv l):
  Calls prog 219 #[lv,X J k,X .i32 x] w λe w'=>∃G:Nat,e=G3 (X J G)/\DA Pv l k x G/\w'=w:=by
 obtain⟨ad,A1,rfl⟩:=Ak R;have r:=Ab S;have D:JR (∀i (h:i<Z l),∃g,ad=V ⟨g,0,Y⟩/\Z l<=A1/\w.cell? ⟨g,i,Y⟩=V (X .i32 l[i])):=by
  intro i W;obtain⟨g,BT,he,L,A2⟩:=AC R (by simp[AW]) i W;simp only[lB]at he;obtain⟨rfl,_,rfl⟩:=he;have H:=A2 i W 0 (by omega);simp[AW]at H;exact⟨g,rfl,L,H⟩
 clear S;go_enter func219,ntmps219;go_wp2
 go_loop [7,8] (λa s=>∃(f o:Nat),a=X J f/\s=X J o/\k<=f/\f<=Z l/\1<=o/\o<=2*Z l+1/\JR (∀i (h:i<Z l),k<=i->i<f->Pv l[i] x=Cm)) (λa s=>Z l-(intOf a).toNat)
 case atStart=>exact⟨k,1,by go_num,rfl,lX _,hk,lX _,by omega,λi h j u=>by omega⟩
 case round=>
  obtain⟨f,o,rfl,rfl,E,B0,CC,DT,p⟩:=hrel;by_cases CL:f+o<=Z l
  .obtain⟨g,AO,B2,L⟩:=D (f+o-1) (by omega);(have BS:((f+o-1:Nat):Int)=(f:Int)+(o:Int)-1:=by omega);(have EK:((f:Int)+(o:Int)-1).toNat=f+o-1:=by omega);subst AO;have BB:JR (Pv l[f+o-1] x=Cm->∀i (h:i<Z l),k<=i->i<f+o->Pv l[i] x=Cm):=by
    intro n i h j u;exact r.down Sr (by omega) (by omega) n
   have BA:JR (Pv l[f+o-1] x=K->∀i (h:i<Z l),f+o-1<=i->Pv l[i] x=K):=by
    intro n i h j;exact r.up Sr h j n
   go_wp2
   .refine⟨⟨f+o,o*2,by go_num,by go_num,by omega,by omega,by omega,by omega,BB (by first|assumption|(simp[Pv];omega))⟩,?_⟩;simp[intOf];omega
   ·
    have t:JR (∀i (h:i<Z l),(f+o-1)<=i->Pv l[i] x=K):=BA (by first|assumption|(simp[Pv];omega))
    go_loop [7,9,10] (λa h m=>∃(b d:Nat),a=X J b/\h=X J d/\k<=b/\b<=d/\d<=Z l/\JR (∀i (h:i<Z l),k<=i->i<b->Pv l[i] x=Cm)/\JR (∀i (h:i<Z l),d<=i->Pv l[i] x=K)) (λa h m=>(intOf h).toNat-(intOf a).toNat)
    case atStart=>exact⟨f,(f+o-1),rfl,by go_num,E,by omega,by omega,p,t⟩
    case round=>
     clear p t;obtain⟨b,d,rfl,rfl,j,u,B,p,q⟩:=hrel;by_cases F:b<d
     .obtain⟨c,AB⟩:=QP (b+(d-b)/2);(have M:b<=c:=by omega);(have N:c<d:=by omega);(have A:(b:Int)+((d:Int)-(b:Int))/2=(c:Int):=by omega);(have P:(b:Int)+((d:Int)-(b:Int)).tdiv 2=(c:Int):=by rw[nY (by omega)];exact A);obtain⟨I,v,T,Q⟩:=D c (by omega);have y:JR (Pv l[c] x=Cm->∀i (h:i<Z l),k<=i->i<c+1->Pv l[i] x=Cm):=by
       intro n i h j u;exact r.down Sr (by omega) (by omega) n
      have z:JR (Pv l[c] x=K->∀i (h:i<Z l),c<=i->Pv l[i] x=K):=by
       intro n i h j;exact r.up Sr h j n
      simp only[lL,mu,and_true]at v;subst v;go_wp2
      .refine⟨⟨c+1,d,by go_num,rfl,by omega,by omega,B,y (by first|assumption|(simp[Pv];omega)),q⟩,?_⟩;simp[intOf];omega
      .refine⟨⟨b,c,rfl,by go_num,j,by omega,by omega,p,z (by first|assumption|(simp[Pv];omega))⟩,?_⟩;simp[intOf];omega
     .have C:JR (DA Pv l k x b):=⟨j,by omega,p,λi h n=>q i h (by omega)⟩;go_wp2;go_ret;exact⟨b,rfl,C,rfl⟩
  .go_wp2
   ·
    have t:JR (∀i (h:i<Z l),Z l<=i->Pv l[i] x=K):=λi h n=>by omega
    go_loop [7,9,10] (λa h m=>∃(b d:Nat),a=X J b/\h=X J d/\k<=b/\b<=d/\d<=Z l/\JR (∀i (h:i<Z l),k<=i->i<b->Pv l[i] x=Cm)/\JR (∀i (h:i<Z l),d<=i->Pv l[i] x=K)) (λa h m=>(intOf h).toNat-(intOf a).toNat)
    case atStart=>exact⟨f,Z l,rfl,by go_num,E,by omega,by omega,p,t⟩
    case round=>
     clear p t;obtain⟨b,d,rfl,rfl,j,u,B,p,q⟩:=hrel;by_cases F:b<d
     .obtain⟨c,AB⟩:=QP (b+(d-b)/2);(have M:b<=c:=by omega);(have N:c<d:=by omega);(have A:(b:Int)+((d:Int)-(b:Int))/2=(c:Int):=by omega);(have P:(b:Int)+((d:Int)-(b:Int)).tdiv 2=(c:Int):=by rw[nY (by omega)];exact A);obtain⟨I,v,T,Q⟩:=D c (by omega);have y:JR (Pv l[c] x=Cm->∀i (h:i<Z l),k<=i->i<c+1->Pv l[i] x=Cm):=by
       intro n i h j u;exact r.down Sr (by omega) (by omega) n
      have z:JR (Pv l[c] x=K->∀i (h:i<Z l),c<=i->Pv l[i] x=K):=by
       intro n i h j;exact r.up Sr h j n
      subst v;go_wp2
      .refine⟨⟨c+1,d,by go_num,rfl,by omega,by omega,B,y (by first|assumption|(simp[Pv];omega)),q⟩,?_⟩;simp[intOf];omega
      .refine⟨⟨b,c,rfl,by go_num,j,by omega,by omega,p,z (by first|assumption|(simp[Pv];omega))⟩,?_⟩;simp[intOf];omega
     .have C:JR (DA Pv l k x b):=⟨j,by omega,p,λi h n=>q i h (by omega)⟩;go_wp2;go_ret;exact⟨b,rfl,C,rfl⟩
   ·
    have t:JR (∀i (h:i<Z l),(f+o-1)<=i->Pv l[i] x=K):=λi h n=>by omega
    go_loop [7,9,10] (λa h m=>∃(b d:Nat),a=X J b/\h=X J d/\k<=b/\b<=d/\d<=Z l/\JR (∀i (h:i<Z l),k<=i->i<b->Pv l[i] x=Cm)/\JR (∀i (h:i<Z l),d<=i->Pv l[i] x=K)) (λa h m=>(intOf h).toNat-(intOf a).toNat)
    case atStart=>exact⟨f,(f+o-1),rfl,by go_num,E,by omega,by omega,p,t⟩
    case round=>
     clear p t;obtain⟨b,d,rfl,rfl,j,u,B,p,q⟩:=hrel;by_cases F:b<d
     .obtain⟨c,AB⟩:=QP (b+(d-b)/2);(have M:b<=c:=by omega);(have N:c<d:=by omega);(have A:(b:Int)+((d:Int)-(b:Int))/2=(c:Int):=by omega);(have P:(b:Int)+((d:Int)-(b:Int)).tdiv 2=(c:Int):=by rw[nY (by omega)];exact A);obtain⟨I,v,T,Q⟩:=D c (by omega);have y:JR (Pv l[c] x=Cm->∀i (h:i<Z l),k<=i->i<c+1->Pv l[i] x=Cm):=by
       intro n i h j u;exact r.down Sr (by omega) (by omega) n
      have z:JR (Pv l[c] x=K->∀i (h:i<Z l),c<=i->Pv l[i] x=K):=by
       intro n i h j;exact r.up Sr h j n
      subst v;go_wp2
      .refine⟨⟨c+1,d,by go_num,rfl,by omega,by omega,B,y (by first|assumption|(simp[Pv];omega)),q⟩,?_⟩;simp[intOf];omega
      .refine⟨⟨b,c,rfl,by go_num,j,by omega,by omega,p,z (by first|assumption|(simp[Pv];omega))⟩,?_⟩;simp[intOf];omega
     .have C:JR (DA Pv l k x b):=⟨j,by omega,p,λi h n=>q i h (by omega)⟩;go_wp2;go_ret;exact⟨b,rfl,C,rfl⟩
structure AF where
 v:UInt8
 s:bC
def AX(t:AF):QC Hs:=[X .u8 t.v.toNat,O t.s]
def AM(s:bC)(at_:Nat)(bad:Bool):AF×Nat×Bool:=
 if bad then(⟨0,ND⟩,at_,Cm)else
 if h:Ae s at_<s.size then
  if Do s[Ae s at_] then(⟨s[Ae s at_],ND⟩,Ae s at_+1,K)
  else if !Ap s[Ae s at_] then(⟨0,(Bc s (Ae s at_) K).1⟩,(Bc s (Ae s at_) K).2)
  else if 3<AG Ap s (Ae s at_)-Ae s at_\/(s[Ae s at_]=48/\1<AG Ap s (Ae s at_)-Ae s at_)then(⟨0,ND⟩,Ae s at_,Cm)
  else(⟨0,s.extract (Ae s at_) (AG Ap s (Ae s at_))⟩,AG Ap s (Ae s at_),K)
 else(⟨0,ND⟩,Ae s at_,Cm)
theorem dM(b:Nat)(s:bC)(c:Nat)(w:Hq)(m:s.size<=1000000)(n:c<=s.size)(f:AI w b (B1 s c Cm) 73):
  Calls prog 127 #[Gi (V ⟨b,0,Y⟩)] w λe g=>e=G3 (Ms #[X .u8 0,O ND])/\AI g b (B1 s c Cm) 73/\Ac [b] w g:=by
 have q:=f.lt;go_enter func127,ntmps127;go_wp2_with fail
 refine(DR b s c Cm _ m n (f.alloc _)).mono ?_;rintro e p ⟨rfl,a,h⟩;rw[Lr]at a;clear f;have d:=(Tc w _ _).kept h (by simp;omega);have k:=d.cell 0;have l:=d.cell 1;have t:=d.frozen;have i:=a.cell 0;have o:=a.cell 1;have j:=a.cell 2;have r:=a.frozen 2;simp[B1]at i o j k l;go_wp2
 go_quiet (fail)
 go_wp2;refine mj (Cg rfl rfl ((((d.drewN _).bI _ (by simp;omega) _).set 0 _).set 1 _) underlying93 rfl (by kernel_rfl)) rfl ⟨rfl,?_,?_⟩
 .exact(((a.drewN _).set 2 _).bI _ (by simp;omega) _).bI _ (by simp;omega) _
 .exact(((((SF _ _).alloc _).trans h).drewN _).setCell (by simp) _|>.setCell (by simp) _).setCell (by simp) _
theorem ed(b:Nat)(s:bC)(a j:Nat)(w:Hq)(r:s.size<=1000000)(k:a<=s.size)(f:Ae s a=j)(x:¬j<s.size)(g:AI w b (B1 s a K) 73):
  Calls prog 127 #[Gi (V ⟨b,0,Y⟩)] w λe h=>e=G3 (Ms #[X .u8 0,O ND])/\AI h b (B1 s j Cm) 73/\Ac [b] w h:=by
 have z:=g.lt;have o:=BD s a k;rw[f]at o;have i:JR (Ae s a=j):=f;clear f;go_enter func127,ntmps127;go_wp2_with fail
 refine(DR b s a K _ r k (g.alloc _)).mono ?_;rintro e v ⟨rfl,c,l⟩;rw[show AQ s a K=j from i.out]at c
 clear g i;have d:=(Tc w _ _).kept l (by simp;omega);have n:=d.cell 0;have q:=d.cell 1;have y:=d.frozen;have m:=c.cell 0;have t:=c.cell 1;have p:=c.cell 2;have B:=c.frozen 1;have A:=c.frozen 2;simp[B1]at m t p n q;have u:decide ((s.size:Int)<=(j:Int))=Cm:=by simp;omega
 go_wp2
 go_quiet (fail)
 go_wp2;refine mj (Cg rfl rfl ((((d.drewN _).bI _ (by simp;omega) _).set 0 _).set 1 _) underlying93 rfl (by kernel_rfl)) rfl ⟨rfl,?_,?_⟩
 .exact(((c.drewN _).set 2 _).bI _ (by simp;omega) _).bI _ (by simp;omega) _
 .exact(((((SF _ _).alloc _).trans l).drewN _).setCell (by simp) _|>.setCell (by simp) _).setCell (by simp) _
theorem Ya(b:Nat)(s:bC)(a j:Nat)(w:Hq)(t:s.size<=1000000)(k:a<=s.size)(f:Ae s a=j)(y:j<s.size)(q:Do s[j]=Cm)(g:AI w b (B1 s a K) 73):
  Calls prog 127 #[Gi (V ⟨b,0,Y⟩)] w λe h=>e=G3 (Ms #[X .u8 s[j].toNat,O ND])/\AI h b (B1 s (j+1) K) 73/\Ac [b] w h:=by
 have B:=g.lt;have o:=BD s a k;rw[f]at o;have i:JR (Ae s a=j):=f;clear f;go_enter func127,ntmps127;go_wp2_with fail
 refine(DR b s a K _ t k (g.alloc _)).mono ?_;rintro e x ⟨rfl,c,l⟩;rw[show AQ s a K=j from i.out]at c
 clear g i;have d:=(Tc w _ _).kept l (by simp;omega);have n:=d.cell 0;have r:=d.cell 1;have A:=d.frozen;have m:=c.cell 0;have u:=c.cell 1;have p:=c.cell 2;have D:=c.frozen 1;have C:=c.frozen 2;simp[B1]at m u p n r;have v:decide ((s.size:Int)<=(j:Int))=K:=by simp;omega
 have z:(j:Int)<(s.size:Int):=by omega
 go_wp2
 go_quiet (fail)
 go_wp2
 go_quiet (fail)
 go_wp2_with (go_at_call 170;refine(OJ _ s[j] _ rfl).mono ?_;rintro e E ⟨rfl,rfl⟩;rw[q])
 refine mj (Cg rfl rfl ((((d.drewN _).bI _ (by simp;omega) _).set 0 _).set 1 _) underlying93 rfl (by kernel_rfl)) rfl ⟨rfl,?_,?_⟩
 .exact(((c.drewN _).set 1 _).bI _ (by simp;omega) _).bI _ (by simp;omega) _
 .exact(((((SF _ _).alloc _).trans l).drewN _).setCell (by simp) _|>.setCell (by simp) _).setCell (by simp) _
theorem cM(b:Nat)(s:bC)(a j:Nat)(w:Hq)(t:s.size<=1000000)(n:a<=s.size)(g:Ae s a=j)(L:j<s.size)(D:Do s[j]=K)(y:Ap s[j]=K)(h:AI w b (B1 s a K) 73):
  Calls prog 127 #[Gi (V ⟨b,0,Y⟩)] w λe i=>e=G3 (Ms #[X .u8 0,O (Bc s j K).1])/\AI i b (B1 s (Bc s j K).2.1 (Bc s j K).2.2) 73/\Ac [b] w i:=by
 have P:=h.lt;have A:=BD s a n;rw[g]at A;have k:JR (Ae s a=j):=g;clear g;go_enter func127,ntmps127;go_wp2_with fail
 refine(DR b s a K _ t n (h.alloc _)).mono ?_;rintro e I ⟨rfl,c,o⟩;rw[show AQ s a K=j from k.out]at c
 clear h k;have f:=(Tc w _ _).kept o (by simp;omega);have m:=f.cell 0;have r:=f.cell 1;have z:=f.frozen;have l:=c.cell 0;have v:=c.cell 1;have q:=c.cell 2;have G:=c.frozen 1;have F:=c.frozen 2;simp[B1]at l v q m r;have H:decide ((s.size:Int)<=(j:Int))=K:=by simp;omega
 have N:(j:Int)<(s.size:Int):=by omega
 have Q:∀(x:Bool) (w:Hq),(Op.unary .not (No x)).run prog w=.ok (No (!x)) w:=λ_ _=>rfl
 go_wp2
 go_quiet (fail)
 go_wp2
 go_quiet (fail)
 go_wp2_with (first|(go_at_call 170;refine(OJ _ s[j] _ rfl).mono ?_;rintro e u ⟨rfl,rfl⟩;rw[D])|(go_at_call 55;refine(CD _ s[j] _ rfl).mono ?_;rintro e u ⟨rfl,rfl⟩;rw[y]))
 refine(NT b s j K _ t (by omega) (c.drewN _)).mono ?_;rintro e u ⟨rfl,E,p⟩;have d:=(f.drewN _).kept p (by simp;omega);have B:=d.cell 0;have C:=d.cell 1;have M:=d.frozen;simp at B C;clear z m r G F l v q;go_wp2;refine mj (Cg rfl rfl ((d.set 0 _).set 1 _) underlying93 rfl (by kernel_rfl)) rfl ⟨rfl,?_,?_⟩
 .exact(E.bI _ (by simp;omega) _).bI _ (by simp;omega) _
 .exact(((((SF _ _).alloc _).trans o).drewN _).trans p|>.setCell (by simp) _).setCell (by simp) _
def G2(s:bC)(j k:Nat):AF×Nat×Bool:=
 if 3<k-j\/(Ej s j 48=Cm/\1<k-j)then(⟨0,ND⟩,j,Cm)else(⟨0,s.extract j k⟩,k,K)
def PB(h:(3:Int)<((k-j:Nat):Int)):G2 s j k=(⟨0,ND⟩,j,Cm):=by
 unfold G2;rw[lS (by omega)]
def Z3(a:j<s.size)(c:UInt8):Ej s j c=Cm↔(s[j].toNat:Int)=c.toNat:=by
 unfold Ej;simp only[a,dite_true,nu];constructor
 .intro h;rw[h]
 .intro h;exact nh.1 (by omega)
def Pj(b:j<s.size)(h:(s[j].toNat:Int)=48)(a:(3:Int)<((k-j:Nat):Int)\/(1:Int)<((k-j:Nat):Int)):G2 s j k=(⟨0,ND⟩,j,Cm):=by
 unfold G2;rw[lS (by rcases a with a|a;exact Hd (by omega);exact Hf ⟨(Z3 b 48).2 h,by omega⟩)]
def Rm(h:((k-j:Nat):Int)<=3)(a:((k-j:Nat):Int)<=1):G2 s j k=(⟨0,s.extract j k⟩,k,K):=by
 unfold G2;rw[lO (by omega)]
def Qx(b:j<s.size)(h:¬(s[j].toNat:Int)=48)(c:((k-j:Nat):Int)<=3):G2 s j k=(⟨0,s.extract j k⟩,k,K):=by
 unfold G2;rw[lO (by rintro (a|⟨a,_⟩);omega;exact h ((Z3 b 48).1 a))]
theorem V6(b:Nat)(s:bC)(g j:Nat)(w:Hq)(R:AF×Nat×Bool)(N:s.size<=1000000)(z:g<=s.size)(q:Ae s g=j)(h:j<s.size)(I:Do s[j]=K)(y:Ap s[j]=Cm)
  (p:JR (R=G2 s j (AG Ap s j)))
  (r:AI w b (B1 s g K) 73):
  Calls prog 127 #[Gi (V ⟨b,0,Y⟩)] w λe u=>e=G3 (Ms (D6 (AX R.1)))/\AI u b (B1 s R.2.1 R.2.2) 73/\Ac [b] w u:=by
 have AO:=r.lt;have A:=BD s g z;rw[q]at A;have v:JR (Ae s g=j):=q;clear q;go_enter func127,ntmps127;go_wp2_with fail
 refine(DR b s g K _ N z (r.alloc _)).mono ?_;rintro e S ⟨rfl,a,d⟩;rw[show AQ s g K=j from v.out]at a
 clear r v;have c:=(Tc w _ _).kept d (by simp;omega);have E:=c.cell 0;have M:=c.cell 1;have AB:=c.frozen;have D:=a.cell 0;have G:=a.cell 1;have H:=a.cell 2;have A1:=a.frozen 1;have A0:=a.frozen 2;simp[B1]at D G H E M;have Q:decide ((s.size:Int)<=(j:Int))=K:=by simp;omega
 have Ax:(j:Int)<(s.size:Int):=by omega
 have AR:∀(x:Bool) (w:Hq),(Op.unary .not (No x)).run prog w=.ok (No (!x)) w:=λ_ _=>rfl
 go_wp2
 go_quiet (fail)
 go_wp2
 go_quiet (fail)
 go_wp2_with (first|(go_at_call 170;refine(OJ _ s[j] _ rfl).mono ?_;rintro e t ⟨rfl,rfl⟩;rw[I])|(go_at_call 55;refine(CD _ s[j] _ rfl).mono ?_;rintro e t ⟨rfl,rfl⟩;rw[y]))
 go_loop [4] (λi=>∃k:Nat,i=X J k/\j<=k/\k<=s.size/\AG Ap s k=AG Ap s j) (λi=>s.size-(intOf i).toNat)
 case atStart=>exact⟨j,rfl,lX _,A,rfl⟩
 case round=>
  obtain⟨k,rfl,W,AH,B⟩:=hrel;have m:JR (AG Ap s k=AG Ap s j):=B;clear B;have A2:(j:Int)<=(k:Int):=by omega
  have T:(k:Int)<=(s.size:Int):=by omega
  have l:JR (AG Ap s k=k->R=G2 s j k):=by
   intro P;(have F:AG Ap s j=k:=by rw[<-m.out];exact P);rw[p.out,F]
  by_cases o:k<s.size
  ·(have AT:(k:Int)<(s.size:Int):=by omega);by_cases n:Ap s[k]=Cm
   ·(have L:JR (AG Ap s (k+1)=AG Ap s j):=by show _=_;rw[<-Ct Ap s k o n];exact m.out);clear y;go_wp2_with (go_at_call 55;refine(CD _ s[k] _ rfl).mono ?_;rintro e t ⟨rfl,rfl⟩;rw[n])
    go_round
    case rel=>exact⟨k+1,by go_num,by omega,by omega,L.out⟩
    case measure=>simp[intOf];omega
   ·(have C:Ap s[k]=K:=by simpa using n);have f:JR (R=G2 s j k):=l.out (Ft Ap s k o C);clear n l p m;go_wp2_with (go_at_call 55;refine(CD _ s[k] _ rfl).mono ?_;rintro e t ⟨rfl,rfl⟩;rw[C])
    go_quiet (fail)
    go_wp2
    .rw[f.out,Pj h (by assumption) (by assumption)];refine mj (Cg rfl rfl ((((c.drewN _).bI _ (by simp;omega) _).set 0 _).set 1 _) underlying93 rfl (by kernel_rfl)) rfl ⟨rfl,?_,?_⟩
     .exact(((a.drewN _).set 2 _).bI _ (by simp;omega) _).bI _ (by simp;omega) _
     .exact(((((SF _ _).alloc _).trans d).drewN _).setCell (by simp) _|>.setCell (by simp) _).setCell (by simp) _
    .rw[f.out,Rm (by omega) (by omega)];refine mj (Cg rfl rfl ((((c.drewN _).bI _ (by simp;omega) _).set 0 _).set 1 _) underlying93 rfl (by kernel_rfl)) rfl ⟨rfl,?_,?_⟩
     .exact(((a.drewN _).set 1 _).bI _ (by simp;omega) _).bI _ (by simp;omega) _
     .exact(((((SF _ _).alloc _).trans d).drewN _).setCell (by simp) _|>.setCell (by simp) _).setCell (by simp) _
    .rw[f.out,Qx h (by assumption) (by omega)];refine mj (Cg rfl rfl ((((c.drewN _).bI _ (by simp;omega) _).set 0 _).set 1 _) underlying93 rfl (by kernel_rfl)) rfl ⟨rfl,?_,?_⟩
     .exact(((a.drewN _).set 1 _).bI _ (by simp;omega) _).bI _ (by simp;omega) _
     .exact(((((SF _ _).alloc _).trans d).drewN _).setCell (by simp) _|>.setCell (by simp) _).setCell (by simp) _
    .rw[f.out,PB (by omega)];refine mj (Cg rfl rfl ((((c.drewN _).bI _ (by simp;omega) _).set 0 _).set 1 _) underlying93 rfl (by kernel_rfl)) rfl ⟨rfl,?_,?_⟩
     .exact(((a.drewN _).set 2 _).bI _ (by simp;omega) _).bI _ (by simp;omega) _
     .exact(((((SF _ _).alloc _).trans d).drewN _).setCell (by simp) _|>.setCell (by simp) _).setCell (by simp) _
  .have f:JR (R=G2 s j k):=l.out (GA Ap s k o);clear l p m;go_wp2
   go_quiet (fail)
   go_wp2
   .rw[f.out,Pj h (by assumption) (by assumption)];refine mj (Cg rfl rfl ((((c.drewN _).bI _ (by simp;omega) _).set 0 _).set 1 _) underlying93 rfl (by kernel_rfl)) rfl ⟨rfl,?_,?_⟩
    .exact(((a.drewN _).set 2 _).bI _ (by simp;omega) _).bI _ (by simp;omega) _
    .exact(((((SF _ _).alloc _).trans d).drewN _).setCell (by simp) _|>.setCell (by simp) _).setCell (by simp) _
   .rw[f.out,Rm (by omega) (by omega)];refine mj (Cg rfl rfl ((((c.drewN _).bI _ (by simp;omega) _).set 0 _).set 1 _) underlying93 rfl (by kernel_rfl)) rfl ⟨rfl,?_,?_⟩
    .exact(((a.drewN _).set 1 _).bI _ (by simp;omega) _).bI _ (by simp;omega) _
    .exact(((((SF _ _).alloc _).trans d).drewN _).setCell (by simp) _|>.setCell (by simp) _).setCell (by simp) _
   .rw[f.out,Qx h (by assumption) (by omega)];refine mj (Cg rfl rfl ((((c.drewN _).bI _ (by simp;omega) _).set 0 _).set 1 _) underlying93 rfl (by kernel_rfl)) rfl ⟨rfl,?_,?_⟩
    .exact(((a.drewN _).set 1 _).bI _ (by simp;omega) _).bI _ (by simp;omega) _
    .exact(((((SF _ _).alloc _).trans d).drewN _).setCell (by simp) _|>.setCell (by simp) _).setCell (by simp) _
   .rw[f.out,PB (by omega)];refine mj (Cg rfl rfl ((((c.drewN _).bI _ (by simp;omega) _).set 0 _).set 1 _) underlying93 rfl (by kernel_rfl)) rfl ⟨rfl,?_,?_⟩
    .exact(((a.drewN _).set 2 _).bI _ (by simp;omega) _).bI _ (by simp;omega) _
    .exact(((((SF _ _).alloc _).trans d).drewN _).setCell (by simp) _|>.setCell (by simp) _).setCell (by simp) _
def R2(b:Nat)(s:bC)(a:Nat)(i:Bool)(w:Hq)(g:s.size<=1000000)(h:a<=s.size)(f:AI w b (B1 s a i) 73):
  Calls prog 127 #[Gi (V ⟨b,0,Y⟩)] w λe k=>e=G3 (Ms (D6 (AX (AM s a i).1)))/\AI k b (B1 s (AM s a i).2.1 (AM s a i).2.2) 73/\Ac [b] w k:=by
 cases i with
 |true=>exact dM b s a w g h f
 |false=>
  obtain⟨j,d⟩:=QP (Ae s a);by_cases c:j<s.size
  .cases hu:Do s[j] with
   |true=>
    (have e:AM s a K=(⟨s[j],ND⟩,j+1,K):=by unfold AM;subst d;simp[c,hu]);rw[e];exact Ya b s a j w g h d c hu f
   |false=>
    cases hd:Ap s[j] with
    |false=>
     (have e:AM s a K=(⟨0,(Bc s j K).1⟩,(Bc s j K).2):=by unfold AM;subst d;simp[c,hu,hd]);rw[e];exact cM b s a j w g h d c hu hd f
    |true=>
     refine V6 b s a j w _ g h d c hu hd ?_ f;show _=_;unfold AM G2 Ej;subst d;simp[c,hu,hd]
  ·(have e:AM s a K=(⟨0,ND⟩,j,Cm):=by unfold AM;subst d;simp[c]);rw[e];exact ed b s a j w g h d c f
def EV(r:Int):Int:=
 if 97<=r/\r<=122 then 2 else if 48<=r/\r<=57 then 3 else if 65<=r/\r<=90 then 4
 else if r=58\/r=46\/r=44\/r=33\/r=61\/r=35\/r=60\/r=40\/r=41 then 5 else 0
theorem Kh(r:Int)(w:Hq):Calls prog 192 #[X .i32 r] w λe a=>e=G3 (X J (EV r))/\a=w:=by
 go_enter func192,ntmps192;go_wp2;all_goals
  go_ret;refine⟨iv ?_,rfl⟩
  try simp only[mq,nu,ne_eq]at*
  unfold EV
  (repeat' split)<;>omega
structure Bf where
 kind:Int
 place:Nat
 text:bC
def Bu(m:Bf):QC Hs:=[X J m.kind,X J m.place,O m.text]
def CZ(m:Bf)(place:Nat)(r:Int):Bool:=
 if m.place+m.text.size≠place then K
 else if m.kind=2\/m.kind=3 then EV r==m.kind
 else if m.kind=5 then(m.text.toList==[58])&&r==45
 else K
theorem Yc(m:Bf)(d:Nat)(r:Int)(w:Hq)(q:m.place<=1000000)(t:m.text.size<=1000000)(s:d<=1000000):
  Calls prog 191 #[Ms (D6 (Bu m)),X J d,X .i32 r] w λe p=>e=G3 (No (CZ m d r))/\Ac [] w p:=by
 simp only[Bu];obtain⟨G,h⟩:=QP (CZ m d r);rw[h];have a:=h;unfold CZ at a;clear h;by_cases g:m.place+m.text.size=d
 .have o:((m.place:Int)+(m.text.size:Int) !=(d:Int))=K:=by simp;omega
  rw[lO (by omega)]at a;by_cases b:m.kind=2\/m.kind=3
  .rw[lS b]at a;have c:JR ((EV r==m.kind)=G):=a;clear a g;(have j:∀n:Nat,True:=λ_=>trivial);clear j;rcases b with b|b
   ·(have i:(m.kind==2)=Cm:=by simp[b]);clear b;go_enter func191,ntmps191;go_wp2_with fail
    go_quiet ((go_at_call 192;exact oL (Kh _ _)))
    go_wp2;go_ret;exact⟨Bv c.out,((SF _ _).alloc _).drewN _⟩
   ·(have i:(m.kind==2)=K:=by simp[b]);(have l:(m.kind==3)=Cm:=by simp[b]);clear b;go_enter func191,ntmps191;go_wp2_with fail
    go_quiet ((go_at_call 192;exact oL (Kh _ _)))
    go_wp2;go_ret;exact⟨Bv c.out,((SF _ _).alloc _).drewN _⟩
  .rw[lO b]at a;(have i:(m.kind==2)=K:=by simp;omega);(have l:(m.kind==3)=K:=by simp;omega);by_cases f:m.kind=5
   .rw[lS f]at a;(have k:(m.kind==5)=Cm:=by simp[f]);have c:JR (((m.text.toList==[58])&&r==45)=G):=a;clear a g b f;go_enter func191,ntmps191;go_wp2;all_goals
     go_ret;refine⟨Bv ?_,(SF _ _).alloc _⟩;rw[<-c.out]
     simp_all
   .rw[lO f]at a;(have k:(m.kind==5)=K:=by simp[f]);have c:JR (K=G):=a;clear a g b f;go_enter func191,ntmps191;go_wp2;go_ret;exact⟨Bv c.out,(SF _ _).alloc _⟩
 .have o:((m.place:Int)+(m.text.size:Int) !=(d:Int))=Cm:=by simp;omega
  rw[lS (by omega)]at a;have c:JR (K=G):=a;clear a g;go_enter func191,ntmps191;go_wp2;go_ret;exact⟨Bv c.out,(SF _ _).alloc _⟩
def eM(h:0<s.size):Ej s 0 48=((s[0].toNat:Int)==48):=by
 have e:((s[0].toNat:Int)==48)=(s[0]==48):=Cu s[0] 48;rw[e];simp[Ej,h]
def JC(m:Bf):Bool:=
 if m.kind=2 then decide (m.text.size<=4)
 else if m.kind=3 then decide (m.text.size=1)||(decide (m.text.size<=3)&& !(Ej m.text 0 48))
 else Cm
theorem V3(m:Bf)(w:Hq)(o:m.text.size<=1000000)(g:m.kind=3->0<m.text.size):
  Calls prog 157 #[Ms (D6 (Bu m))] w λe j=>e=G3 (No (JC m))/\Ac [] w j:=by
 simp only[Bu];obtain⟨G,h⟩:=QP (JC m);rw[h];have a:=h;unfold JC at a;clear h;by_cases b:m.kind=2
 .have l:(m.kind==2)=Cm:=by simp[b]
  rw[lS b]at a;have c:JR (decide (m.text.size<=4)=G):=a;clear a b g;go_enter func157,ntmps157;go_wp2;go_ret;refine⟨Bv ?_,(SF _ _).alloc _⟩;rw[<-c.out];simp
  try omega
 .have l:(m.kind==2)=K:=by simp[b]
  rw[lO b]at a;by_cases d:m.kind=3
  ·(have i:(m.kind==3)=Cm:=by simp[d]);have k:=g d;(have n:(0:Int)<(m.text.size:Int):=by omega);rw[lS d,eM k]at a;have c:JR ((decide (m.text.size=1)||(decide (m.text.size<=3)&& !((m.text[0].toNat:Int)==48)))=G):=a;clear a b d g;go_enter func157,ntmps157;go_wp2
   .go_ret;refine⟨Bv ?_,(SF _ _).alloc _⟩;(have f:m.text.size=1:=by omega);rw[<-c.out];simp[f]
   .go_ret;refine⟨Bv ?_,(SF _ _).alloc _⟩;(have f:¬m.text.size=1:=by omega);(have b:m.text.size<=3:=by omega);rw[<-c.out];simp only[f,b,pE,decide_true,oe,np];simp[bne];omega
   .go_ret;refine⟨Bv ?_,(SF _ _).alloc _⟩;(have f:¬m.text.size=1:=by omega);(have b:¬m.text.size<=3:=by omega);rw[<-c.out];simp[f,b];omega
  ·(have i:(m.kind==3)=K:=by simp[d]);rw[lO d]at a;have c:JR (Cm=G):=a;clear a b d g;go_enter func157,ntmps157;go_wp2;go_ret;exact⟨Bv c.out,(SF _ _).alloc _⟩
theorem Tryz.zR:(Tryz.prog.info? 206).map (λi=>(i.zero,i.size,i.bytes))=V (V (Ms #[X J 0,X J 0,O ⟨#[]⟩]),3,32):=by kernel_rfl
def GL(m:Bf):Z (Bu m)=3:=rfl
def BG(h:Mi w m T k (U (V ⟨j,0,Y⟩) n b) n y)(i:Nat)(u:Hs):
  Mi (w.setCell ⟨j,i,Y⟩ u) m T k (U (V ⟨j,0,Y⟩) n b) n (y.set i u):=by
 refine⟨by rw[nj];exact h.1,?_⟩;rcases h.2 with⟨a,_⟩|⟨s,r,c,a,l,p,q,d,o,f⟩
 .cases a
 .simp only[lB,lL,mu]at a;obtain⟨⟨rfl,_,_⟩,_,rfl⟩:=a;refine Hf ⟨j,b,c.setIfInBounds i u,rfl,l,?_,q,d,by simpa using o,?_⟩
  .simp[World.setCell,Array.getElem?_modify,p]
  .rw[Array.toList_setIfInBounds,List.take_set,f]
def Hk(h:Mi w m T k (U (V ⟨j,0,Y⟩) n b) n y)(i:Nat):w.frozen? ⟨j,i,Y⟩=K:=by
 rcases h.2 with⟨a,_⟩|⟨o,f,d,a,l,c,_⟩
 .cases a
 .simp only[lB,lL,mu]at a;obtain⟨⟨rfl,_,_⟩,_,rfl⟩:=a;simp[World.frozen?,c]
def Zs(r:Int):(Utf8.encode r).size<=4:=by
 unfold Utf8.encode;simp only;generalize(if Utf8.valid r=Cm then r.toNat else Utf8.runeError)=c
 repeat' split
 all_goals simp[ByteArray.size]
def CF(place:Nat)(r:Int):Bf:=⟨EV r,place,Utf8.encode r⟩
def Mt(ms:QC Bf)(place:Nat)(r:Int):QC Bf:=
 if r=32\/r=10 then ms
 else match ms.getLast? with
  |some m=>if CZ m place r then ms.dropLast++[{m with text:=m.text++Utf8.encode r}] else ms++[CF place r]
  |none=>ms++[CF place r]
def Pg{pre:QC Bf}{m:Bf}{place:Nat}(h:¬(I=32\/I=10)):Mt (pre++[m]) place I=if CZ m place I then pre++[{m with text:=m.text++Utf8.encode I}] else pre++[m]++[CF place I]:=by
 unfold Mt;rw[lO h];simp
def dG(b:QC Bf)(m:Bf)(u:bC):((b++[m]).flatMap Bu).set (Z b*3+2) (O u)=(b++[{m with text:=u}]).flatMap Bu:=by
 have c:Z (b.flatMap Bu)=Z b*3:=by
  induction b with
  |nil=>rfl
  |cons a l ih=>rw[mc,lU,ih,GL,lQ];omega
 simp only[mm,mc,mS,mz];rw[pP _ _ (by omega),c];simp[Bu]
set_option maxRecDepth 100000
theorem ia(mv:Hs)(i:QC Bf)(place:Nat)(r:Int)(B:Nat)(w:Hq)(hB:B<=w.heap.size)(f:Mi w B 206 3 mv (Z i) (i.flatMap Bu))(ES:Z i<=1000000)(BA:place<=1000000)
  (y:∀m∈i,m.place<=1000000/\m.text.size<=1000000):
  Calls prog 156 #[mv,X J place,X .i32 r] w λe L=>∃v,e=G3 v/\Mi L B 206 3 v (Z (Mt i place r)) ((Mt i place r).flatMap Bu)/\Below B w L:=by
 obtain⟨i0,A0,N,Ax,AH⟩:=mH Tryz.zR;obtain⟨ad,W,rfl⟩:=Ak f;by_cases b:r=32\/r=10
 .have j:JR (Mt i place r=i):=by show _=_;unfold Mt;rw[lS b]
  rcases b with b|b
  ·(have T:(r==32)=Cm:=by simp[b]);clear b;go_enter func156,ntmps156;go_wp2;go_ret;rw[j.out];exact⟨_,rfl,f,Below.refl _ _⟩
  ·(have T:(r==32)=K:=by simp[b]);(have h2:(r==10)=Cm:=by simp[b]);clear b;go_enter func156,ntmps156;go_wp2;go_ret;rw[j.out];exact⟨_,rfl,f,Below.refl _ _⟩
 .have T:(r==32)=K:=by simp;omega
  have h2:(r==10)=K:=by simp;omega
  rcases List.eq_nil_or_concat i with rfl|⟨pre,m,P⟩
  ·(have j:JR (Mt [] place r=[CF place r]):=by show _=_;unfold Mt;rw[lO b];rfl);have Q:=Kh r w;clear b y;have Bx:=Ab Q;clear Q;go_enter func156,ntmps156;(go_wp2_with fail);refine Bx.mono ?_;rintro e d ⟨rfl,AO⟩;rw[AO];clear AO d;go_wp2_with (at_builtin;refine me _ rfl (.tmp 40) (.tmp 47) _ rfl B 206 i0 _ 3 32 underlying200 A0 N Ax AH rfl (by omega) (U ad 0 W) 0 [] rfl (lM f _) ⟨w.heap.size,0,Y⟩ 1 1 (Bu (CF place r)) rfl rfl (mg (mo w _)) (by simp[Value.oneCell',Bu]) (by omega) (by unfold maxLen;omega) (by omega) (by simp;omega) (w.heap.size+1) (by simp) ?_;intro g1 BS d F n x o)
   have H:Below B w d:=((Below.refl B w).alloc hB _).grown n (by simp;omega) (λq A=>(f.lt q A).1);clear n x o;go_wp2;go_ret;rw[j.out];refine⟨_,rfl,?_,H⟩;simpa using F
  .rw[List.concat_eq_append]at P;subst P;have j:=Ab (Pg (pre:=pre) (m:=m) (place:=place) b);(have p:Z pre<Z (pre++[m]):=by simp);obtain⟨g,EK,he,hc,s⟩:=AC f (λc _=>GL c) (Z pre) p;simp only[lB]at he;obtain⟨rfl,_,rfl⟩:=he;have I:=s (Z pre) p 0 (by omega);have C:=s (Z pre) p 1 (by omega);have u:=s (Z pre) p 2 (by omega);simp[Bu]at I C u;have E:=y m (by simp);have M:=Hk f (Z pre*3+2);(have o:Z (pre++[m])=Z pre+1:=by simp);(have E0:Z pre<=1000000:=by omega);have z:=Yc m place r w E.1 E.2 BA;simp only[Bu]at z;have S:=Ab z;clear s b z y;rw[o]at f⊢;cases hgo:CZ m place r with
   |true=>
    have G:=Ab hgo;go_enter func156,ntmps156;(go_wp2_with fail);refine S.mono ?_;rintro e d ⟨rfl,a⟩;rw[hgo];have l:=Ad f a;have DT:=Hk l (Z pre*3+2);have FA:d.cell? ⟨g,Z pre*3+2,Y⟩=V (O m.text):=by
     have CC:=(f.lt g rfl).2;rw[World.cell?_of_block (w:=w) (a.block g CC (by simp))];exact u
    have D:Below B w d:=⟨a.os,a.tape,a.output,a.size,λk hk=>a.block k (by omega) (by simp)⟩;clear I C u M a hgo;have CL:=Zs r;have EX:=E.2;go_wp2;go_ret;rw[Aa j,Aa G,lS rfl];refine⟨_,rfl,?_,D.setCell (f.lt g rfl).1 _⟩;have h:=BG l (Z pre*3+2) (O (m.text++Utf8.encode r));rw[dG]at h;simpa using h
   |false=>
    have G:=Ab hgo;go_enter func156,ntmps156;(go_wp2_with fail);refine S.mono ?_;rintro e d ⟨rfl,a⟩;rw[hgo];have l:=Ad f a;have D:Below B w d:=⟨a.os,a.tape,a.output,a.size,λk hk=>a.block k (by omega) (by simp)⟩;have EY:=a.size;clear I C u M a hgo;(go_wp2_with fail);refine(Kh r d).mono ?_;rintro e w2 ⟨rfl,R⟩;rw[R];clear R w2;go_wp2_with (at_builtin;refine me _ rfl (.tmp 40) (.tmp 47) _ rfl B 206 i0 _ 3 32 underlying200 A0 N Ax AH rfl (by omega) (U (V ⟨g,0,Y⟩) (Z pre+1) W) (Z pre+1) ((pre++[m]).flatMap Bu) rfl (lM l _) ⟨d.heap.size,0,Y⟩ 1 1 (Bu (CF place r)) rfl rfl (mg (mo d _)) (by simp[Value.oneCell',Bu]) (by omega) (by unfold maxLen;omega) (by omega) (by simp;omega) (d.heap.size+1) (by simp) ?_;intro g1 BS w3 F n x o)
    have H:Below B w w3:=(D.alloc (by omega) _).grown n (by simp;omega) (λq A=>(l.lt q A).1);clear n x o;go_wp2;go_ret;rw[Aa j,Aa G,lO (by simp)];refine⟨_,rfl,?_,H⟩;simpa using F
end Go.Proofs.YtoihbhenbmffcaaGreatDoor
namespace Go.Proofs.YtoihbhenbmffcaaGreatDoor
open Go.RowKit Go.Proofs.Tryz
structure GZ(F:Type) where
 pos:QC F
 neg:QC F
 head:F
section
variable {F:Type} (I:GZ F->Prop) (dp:F->Nat)
structure Mc:Prop where
 pos:∀i,I i->∀g∈i.pos,dp g<=dp i.head
 neg:∀i,I i->∀g∈i.neg,dp g<dp i.head
def Ko(i:GZ F)(P N:F->Prop):Prop:=(∀g∈i.pos,P g)/\∀g∈i.neg,¬N g
def Mm(M:F->Prop):Prop:=∀i,I i->Ko i M M->M i.head
def Kk(M:F->Prop)(n:Nat):Prop:=∀S:F->Prop,(∀f,M f->dp f<n->S f)->(∀i,I i->dp i.head=n->Ko i S M->S i.head)->∀f,M f->dp f=n->S f
def OP(l:Mc I dp){M N:F->Prop}(d:Mm I N)(k:∀n,Kk I dp M n):∀n,(∀f,dp f<n->(M f↔N f))->∀f,M f->dp f=n->N f:=by
 intro n ih f e m;refine k n N (λg a j=>(ih g j).1 a) (λi c o b=>?_) f e m;refine d i c ⟨b.1,λg a h=>b.2 g a ?_⟩;exact(ih g (by have:=l.neg i c g a;omega)).2 h
structure D3(n:Nat)(s:F->Prop):Prop where
 top:∀f,s f->dp f<=n
 closed:∀i,I i->dp i.head<n->Ko i s s->s i.head
 least:∀m,m<=n->Kk I dp s m
def D3.start:D3 I dp 0 (λ_=>False):=
 ⟨λf h=>h.elim,λi _ h=>by omega,λm _ S _ _ f h=>h.elim⟩
def D3.step(p:Mc I dp){n:Nat}{s:F->Prop}(h:D3 I dp n s){i:GZ F}(q:I i)(k:dp i.head=n)(l:Ko i s s):D3 I dp n (λf=>s f\/f=i.head):=by
 have r:∀j,I j->dp j.head<=n->((∀g∈j.neg,¬(s g\/g=i.head))↔∀g∈j.neg,¬s g):=by
  intro j d v;constructor
  .intro o g a c;exact o g a (Hd c)
  .intro o g a c;rcases c with c|c
   .exact o g a c
   .have:=p.neg j d g a;rw[c,k]at this;omega
 refine⟨λf b=>?_,λj d v e=>?_,λm D S t w f b y=>?_⟩
 .rcases b with b|b
  .exact h.top f b
  .rw[b,k];omega
 .refine Hd (h.closed j d v ⟨λg a=>?_,(r j d (by omega)).1 e.2⟩);rcases e.1 g a with c|c
  .exact c
  .have:=p.pos j d g a;rw[c,k]at this;omega
 .have u:∀g,s g->dp g=m->S g:=λg a E=>h.least m D S (λx C z=>t x (Hd C) z) (λj d B e=>w j d B ⟨e.1,(r j d (by omega)).2 e.2⟩) g a E
  rcases b with b|b
  .exact u f b y
  .subst b;(have A:m=n:=by omega);subst A;refine w i q k ⟨λg a=>?_,(r i q (by omega)).2 l.2⟩;by_cases G:dp g<dp i.head
   .exact t g (Hd (l.1 g a)) (by omega)
   .exact u g (l.1 g a) (by have:=p.pos i q g a;omega)
def D3.next{n:Nat}{s:F->Prop}(h:D3 I dp n s)(g:∀i,I i->dp i.head=n->Ko i s s->s i.head):D3 I dp (n+1) s:=by
 refine⟨λf a=>by have:=h.top f a;omega,λi c l b=>?_,λm k=>?_⟩
 .by_cases d:dp i.head=n
  .exact g i c d b
  .exact h.closed i c (by omega) b
 .by_cases e:m<=n
  .exact h.least m e
  .intro S _ _ f a j;have:=h.top f a;omega
def D3.done{n:Nat}{s:F->Prop}(h:D3 I dp n s)(e:∀i,I i->dp i.head<n):Mm I s/\∀m,Kk I dp s m:=by
 refine⟨λi a d=>h.closed i a (e i a) d,λm=>?_⟩;by_cases b:m<=n
 .exact h.least m b
 .intro S _ _ f c g;have:=h.top f c;omega
def D3.cong{n:Nat}{s t:F->Prop}(h:D3 I dp n s)(e:∀f,s f↔t f):D3 I dp n t:=by
 have:s=t:=funext λf=>propext (e f)
 rw[<-this];exact h
end
def ci{F:Type}(I:GZ F->Prop)(a c:F->Nat)(e:Mc I a)(A:Mc I c){M N:F->Prop}(r:Mm I M)(w:∀n,Kk I a M n)(t:Mm I N)(q:∀n,Kk I c N n):∀f,M f↔N f:=by
 have s:∀n f,a f<n->(M f↔N f):=by
  intro n
  induction n with
  |zero=>intro f h;omega
  |succ n ih=>
   have y:∀k g,c g<k->N g->a g<=n->M g:=by
    intro k
    induction k with
    |zero=>intro g h;omega
    |succ k ihk=>
     intro g B p o;by_cases d:c g<k
     .exact ihk g d p o
     .refine q k (λx=>a x<=n->M x) (λf u v=>ihk f v u) (λi j C m D=>?_) g p (by omega) o;refine r i j ⟨λx b=>m.1 x b (by have:=e.pos i j x b;omega),λx b z=>m.2 x b ?_⟩;exact(ih x (by have:=e.neg i j x b;omega)).1 z
   intro f h;by_cases d:a f<n
   .exact ih f d
   .exact⟨λl=>OP I a e t w n ih f l (by omega),λl=>y (c f+1) f (by omega) l (by omega)⟩
 intro f;exact s (a f+1) f (by omega)
end Go.Proofs.YtoihbhenbmffcaaGreatDoor
namespace Go.Proofs.YtoihbhenbmffcaaGreatDoor
open Go.RowKit Go.Proofs.Tryz
variable{w:Hq}{b:Nat}{y:QC Hs}{T:TypeId}
theorem Tryz.bi:(Tryz.prog.info? 243).map (·.size)=V 26:=by kernel_rfl
theorem Tryz.zh:(Tryz.prog.info? 90).map (·.size)=V 26:=by kernel_rfl
def World.gq(b:Nat)(t:TypeId):∀(a:QC Hs) (o:Nat) (w:Hq) (c:QC Hs),AI w b c t->o+Z a<=Z c->AI (w.setCells b o a) b (c.take o++a++c.drop (o+Z a)) t
 |[],o,w,c,h,hl=>by
  simp only[mn,pF,mz,mU];exact h
 |v::a,o,w,c,h,hl=>by
  simp only[lQ]at hl;have ih:=World.gq b t a (o+1) (w.setCell ⟨b,o,Y⟩ v) (c.set o v) (h.set o v) (by simp;omega);have e:(c.set o v).take (o+1)++a++(c.set o v).drop (o+1+Z a)=c.take o++v::a++c.drop (o+Z (v::a)):=by
   rw[List.drop_set,lS (by omega),lF (by simp;omega),List.getElem_set_self,List.take_set,List.set_eq_of_length_le (by simp;omega)];simp only[lQ,mO,pS,ny,mR];rw[show o+1+Z a=o+(Z a+1) by omega]
  rw[e]at ih;exact ih
def AI.fo(h:AI w b y T)(a:QC Hs)(c:Z a=Z y):AI (w.setCells b 0 a) b a T:=by
 have:=World.gq b T a 0 w y h (by omega);rw[mC,c,List.drop_length]at this;simpa using this
def Ac.di{M:QC Nat}{a w:Hq}(h:Ac M a w){b:Nat}(d:b∈M\/a.heap.size<=b):∀(c:QC Hs) (o:Nat),Ac M a (w.setCells b o c)
 |[],_=>h
 |v::c,o=>(h.setCell (p:=⟨b,o,Y⟩) d v).di d c (o+1)
end Go.Proofs.YtoihbhenbmffcaaGreatDoor
namespace Go.Proofs.YtoihbhenbmffcaaGreatDoor
open Go.RowKit Go.Proofs.Tryz
section
variable {α:Type} {lt eq:α->α->Bool}
def BZ(ls:QC (QC α))(i:Nat):QC α:=ls.getD i []
def Fp{a:QC (QC α)}{i:Nat}(h:i<Z a):BZ a i∈a:=by
 unfold BZ;rw[lT,lN h];exact lE h
def dO{a:QC (QC α)}{l:QC α}(h:l∈a):∃i,i<Z a/\BZ a i=l:=by
 obtain⟨i,b,e⟩:=mw h;refine⟨i,b,?_⟩;unfold BZ;rw[lT,lN b];exact e
def Kw(ls:QC (QC α))(y:α):Prop:=∀l∈ls,y∈l
def FI(k t:Nat):Nat:=if t+1=k then 0 else t+1
def dQ{k t:Nat}(h:t<k):(t+1)%k=FI k t:=by
 unfold FI;split
 .rename_i e;rw[e,Nat.mod_self]
 .exact Nat.mod_eq_of_lt (by omega)
def Vb{k t:Nat}(h:t<k):FI k t<k:=by
 unfold FI;split<;>omega
def N6(k t ag i:Nat):Prop:=(ag<=t/\t-ag<=i/\i<t)\/(t<ag/\(i<t\/t+k-ag<=i))
def fg{k t a i:Nat}(c:t<k)(b:a<k)(d:i<k)(h:N6 k (FI k t) (a+1) i):N6 k t a i\/i=t:=by
 unfold N6 FI at h;unfold N6;split at h<;>omega
def gO{k t a i:Nat}(d:t<k)(b:a+1=k)(c:i<k):N6 k t a i\/i=t:=by
 unfold N6;omega
def RU{k t i:Nat}:¬N6 k t 0 i:=by
 unfold N6;omega
def ju(lt:α->α->Bool)(s:α)(l:QC α):Nat:=l.countP λy=> !lt y s
def Vh(lt:α->α->Bool)(s:α)(ls:QC (QC α)):Nat:=(ls.map (ju lt s)).sum
def ZF(o:PD lt eq){s a:α}(h:lt s a=Cm)(l:QC α):ju lt a l<=ju lt s l:=by
 unfold ju;refine List.countP_mono_left (λy _ b=>?_);cases hh:lt y s with
 |false=>rfl
 |true=>rw[o.trans _ _ _ hh h]at b;cases b
def gm(o:PD lt eq){s a:α}(h:lt s a=Cm):∀{l:QC α},s∈l->ju lt a l<ju lt s l
 |x::l,b=>by
  have e:∀z,ju lt z (x::l)=ju lt z l+(if(!lt x z)=Cm then 1 else 0):=λz=>by unfold ju;rw[List.countP_cons]
  rw[e,e];have d:=ZF o h l;rcases lI.1 b with rfl|b
  .rw[h,o.irr];simp;omega
  .have c:=gm o h b;cases hx:lt x s with
   |true=>rw[o.trans _ _ _ hx h];simp;omega
   |false=>
    cases lt x a<;>simp<;>omega
def gA(o:PD lt eq){s b:α}(h:lt s b=Cm):∀(a:QC (QC α)),Vh lt b a<=Vh lt s a
 |[]=>lX _
 |l::a=>by
  have e:∀z,Vh lt z (l::a)=ju lt z l+Vh lt z a:=λz=>by unfold Vh;simp
  rw[e,e];have:=ZF o h l;have:=gA o h a;omega
def ZG(o:PD lt eq){s d:α}(h:lt s d=Cm):∀{a:QC (QC α)},(∃l∈a,s∈l)->Vh lt d a<Vh lt s a
 |l::a,b=>by
  have e:∀z,Vh lt z (l::a)=ju lt z l+Vh lt z a:=λz=>by unfold Vh;simp
  rw[e,e];obtain⟨q,c,b⟩:=b;have g:=gA o h a;have f:=ZF o h l;rcases lI.1 c with rfl|c
  .have:=gm o h b;omega
  .have:=ZG o h ⟨q,c,b⟩;omega
def ZW(p:Nat->Nat)(t v:Nat):Nat->Nat:=λi=>if i=t then v else p i
structure P2(lt:α->α->Bool)(ls:QC (QC α))(t:Nat)(s:α)(ag:Nat)(p:Nat->Nat)(m:QC α):Prop where
 tk:t<Z ls
 agk:ag<Z ls
 win:∀i,i<Z ls->N6 (Z ls) t ag i->s∈BZ ls i
 ple:∀i,i<Z ls->p i<=Z (BZ ls i)
 below:∀i,i<Z ls->∀j (h:j<Z (BZ ls i)),j<p i->lt (BZ ls i)[j] s=Cm
 src:∃l∈ls,s∈l
 sound:∀y∈m,Kw ls y
 low:∀y∈m,lt y s=Cm
 cE:m.Pairwise λa b=>lt a b=Cm
 zG:∀y,Kw ls y->y∈m\/lt y s=K
structure Tq(lt:α->α->Bool)(ls:QC (QC α))(t:Nat)(s:α)(ag at_:Nat)(p:Nat->Nat)(m:QC α):Prop where
 tk:t<Z ls
 agk:ag<Z ls
 hlt:at_<Z (BZ ls t)
 zW:(BZ ls t)[at_]=s
 win:∀i,i<Z ls->N6 (Z ls) t ag i\/i=t->s∈BZ ls i
 ple:∀i,i<Z ls->p i<=Z (BZ ls i)
 below:∀i,i<Z ls->∀j (h:j<Z (BZ ls i)),j<p i->lt (BZ ls i)[j] s=Cm
 here:∀j (h:j<Z (BZ ls t)),j<at_->lt (BZ ls t)[j] s=Cm
 sound:∀y∈m,Kw ls y
 low:∀y∈m,lt y s=Cm
 cE:m.Pairwise λa b=>lt a b=Cm
 zG:∀y,Kw ls y->y∈m\/lt y s=K
variable {ls:QC (QC α)} {t:Nat} {s:α} {ag:Nat} {p:Nat->Nat} {m:QC α}
def Di.zP(o:PD lt eq){l:QC α}(d:Di lt l){i:Nat}(g:i<Z l){y:α}(b:y∈l)(h:∀j (a:j<Z l),j<i->l[j]≠y):lt y l[i]=K:=by
 obtain⟨j,a,e⟩:=mw b;have f:i<=j:=by
  by_cases c:j<i
  .exact absurd e (h j a c)
  .omega
 rw[<-e];exact d.up o a f (o.irr _)
def P2.start(o:PD lt eq)(b:0<Z ls)(f:Di lt (BZ ls 0))(c:0<Z (BZ ls 0)):P2 lt ls 0 (BZ ls 0)[0] 0 (λ_=>0) []:=by
 refine⟨b,b,λi k d=>absurd d RU,λi _=>lW _,λi _ j h e=>by omega,⟨_,Fp b,lE c⟩,λy a=>by simp at a,λy a=>by simp at a,List.Pairwise.nil,λy a=>Hf ?_⟩;exact f.zP o c (a _ (Fp b)) (λj e g=>by omega)
def P2.before(h:P2 lt ls t s ag p m){b:Nat}(e:DA lt (BZ ls t) (p t) s b):∀j (a:j<Z (BZ ls t)),j<b->lt (BZ ls t)[j] s=Cm:=by
 intro j a d;by_cases c:j<p t
 .exact h.below t h.tk j a c
 .exact e.below j a (by omega) d
def P2.done(h:P2 lt ls t s ag p m){b:Nat}(f:DA lt (BZ ls t) (p t) s b)(g:b=Z (BZ ls t)):∀y,y∈m↔Kw ls y:=by
 intro y;refine⟨h.sound y,λc=>?_⟩;rcases h.zG y c with a|a
 .exact a
 .obtain⟨j,d,e⟩:=mw (c _ (Fp h.tk));have:=h.before f j d (by omega);rw[e,a]at this;cases this
def P2.same(h:P2 lt ls t s ag p m){a:Nat}(e:DA lt (BZ ls t) (p t) s a)(c:a<Z (BZ ls t))(d:(BZ ls t)[a]=s):Tq lt ls t s ag a p m:=by
 refine⟨h.tk,h.agk,c,d,λi f b=>?_,h.ple,h.below,h.before e,h.sound,h.low,h.cE,h.zG⟩;rcases b with b|rfl
 .exact h.win i f b
 .rw[<-d];exact lE c
def P2.past(o:PD lt eq)(u:Di lt (BZ ls t))(h:P2 lt ls t s ag p m){a:Nat}(l:DA lt (BZ ls t) (p t) s a)(f:a<Z (BZ ls t))(r:(BZ ls t)[a]≠s):Tq lt ls t (BZ ls t)[a] 0 a p m/\Vh lt (BZ ls t)[a] ls<Vh lt s ls:=by
 have d:lt s (BZ ls t)[a]=Cm:=by
  refine o.tot _ _ (l.zF a f (lX _)) ?_;cases hq:eq (BZ ls t)[a] s with
  |false=>rfl
  |true=>exact absurd ((o.eqv _ _).1 hq) r
 refine⟨⟨h.tk,by have:=h.tk;omega,f,rfl,λi q k=>?_,h.ple,λi q j c b=>o.trans _ _ _ (h.below i q j c b) d,λj c b=>o.trans _ _ _ (h.before l j c b) d,h.sound,λy g=>o.trans _ _ _ (h.low y g) d,h.cE,λy g=>?_⟩,ZG o d h.src⟩
 .rcases k with k|rfl
  .exact absurd k RU
  .exact lE f
 .rcases h.zG y g with n|n
  .exact Hd n
  .right;refine u.zP o f (g _ (Fp h.tk)) (λj c b e=>?_);have:=h.before l j c b;rw[e,n]at this;cases this
def Uf(a:∀i,i<Z ls->p i<=Z (BZ ls i)){v:Nat}(b:v<=Z (BZ ls t)):∀i,i<Z ls->ZW p t v i<=Z (BZ ls i):=by
 intro i c;unfold ZW;split
 .rename_i e;rw[e];exact b
 .exact a i c
variable {at_:Nat}
def Tq.next(h:Tq lt ls t s ag at_ p m)(f:ag+1<Z ls):P2 lt ls (FI (Z ls) t) s (ag+1) (ZW p t at_) m:=by
 refine⟨Vb h.tk,f,λi b d=>h.win i b (fg h.tk h.agk b d),Uf h.ple (Nat.le_of_lt h.hlt),λi b j c a=>?_,⟨_,Fp h.tk,h.win t h.tk (Hf rfl)⟩,h.sound,h.low,h.cE,h.zG⟩;unfold ZW at a;split at a
 .rename_i e;subst e;exact h.here j c a
 .exact h.below i b j c a
def Tq.common(h:Tq lt ls t s ag at_ p m)(b:ag+1=Z ls):Kw ls s:=by
 intro l c;obtain⟨i,a,rfl⟩:=dO c;exact h.win i a (gO h.tk b a)
def Tq.zi(h:Tq lt ls t s ag at_ p m)(e:ag+1=Z ls):(∀y∈m++[s],Kw ls y)/\(m++[s]).Pairwise (λa b=>lt a b=Cm):=by
 refine⟨λy c=>?_,?_⟩
 .rcases lV.1 c with c|c
  .exact h.sound y c
  .rw[lG]at c;subst c;exact h.common e
 .rw[pq];refine⟨h.cE,by simp,λa f b d=>?_⟩;rw[lG]at d;subst d;exact h.low a f
def Tq.last(o:PD lt eq)(k:Di lt (BZ ls t))(h:Tq lt ls t s ag at_ p m)(g:ag+1=Z ls)(i:at_+1=Z (BZ ls t)):∀y,y∈m++[s]↔Kw ls y:=by
 intro y;refine⟨(h.zi g).1 y,λb=>?_⟩;rw[lV,lG];rcases h.zG y b with a|a
 .exact Hd a
 .right;obtain⟨j,f,e⟩:=mw (b _ (Fp h.tk));by_cases d:j<at_
  .have:=h.here j f d;rw[e,a]at this;cases this
  ·(have c:j=at_:=by omega);subst c;rw[<-e];exact h.zW
def Tq.more(o:PD lt eq)(q:Di lt (BZ ls t))(h:Tq lt ls t s ag at_ p m)(n:ag+1=Z ls)(f:at_+1<Z (BZ ls t)):P2 lt ls (FI (Z ls) t) (BZ ls t)[at_+1] 0 (ZW p t (at_+1)) (m++[s])/\Vh lt (BZ ls t)[at_+1] ls<Vh lt s ls:=by
 have b:lt s (BZ ls t)[at_+1]=Cm:=by
  have:=q at_ (at_+1) h.hlt f (by omega);rw[h.zW]at this;exact this
 have w:0<Z ls:=by have:=h.tk;omega
 refine⟨⟨Vb h.tk,w,λi r v=>absurd v RU,Uf h.ple (Nat.le_of_lt f),λi r j d c=>?_,⟨_,Fp h.tk,lE f⟩,(h.zi n).1,λy a=>?_,(h.zi n).2,λy a=>?_⟩,ZG o b ⟨_,Fp h.tk,h.win t h.tk (Hf rfl)⟩⟩
 .unfold ZW at c;split at c
  .rename_i e;subst e;by_cases g:j<at_
   .exact o.trans _ _ _ (h.here j d g) b
   ·(have l:j=at_:=by omega);subst l;rw[h.zW];exact b
  .exact o.trans _ _ _ (h.below i r j d c) b
 .rcases lV.1 a with a|a
  .exact o.trans _ _ _ (h.low y a) b
  .rw[lG]at a;subst a;exact b
 .rw[lV,lG];rcases h.zG y a with k|k
  .exact Hd (Hd k)
  .by_cases u:y=s
   .exact Hd (Hf u)
   .right;refine q.zP o f (a _ (Fp h.tk)) (λj d c e=>?_);by_cases g:j<at_
    .have:=h.here j d g;rw[e,k]at this;cases this
    ·(have l:j=at_:=by omega);subst l;rw[h.zW]at e;exact u e.symm
end
