import Derived.WalkKit
import Derived.Deep.AppendLies
import Derived.Deep.QuietTactic
import Derived.BigQuiet
import Derived.Deep.LoopGhost
import Derived.Deep.MidRow
import Derived.Handy
import Derived.Test.YtoihbhenbmffcaaGreatDoorProg
set_option linter.all false
set_option maxHeartbeats 0
open List renaming length->Z,toArray->j2
open Option renaming none->Y,some->V
open Go.Value renaming slice->U,int->X,string->O,pointer->j3,agg->oj,bool->q8
open Bool renaming false->K,true->jj
open Go.IntKind renaming i64->J
open Go.Ending renaming returned->kt
open Or renaming inl->lo,inr->lx
open Go renaming World->ly,Value->ml
open Go.RowKit renaming Hid->nc
open Go.World renaming ownsRow->oi
open ByteArray renaming empty->q9
open Go.Op renaming bytesLess->qZ
namespace Go.Proofs.YtoihbhenbmffcaaGreatDoor
open Go.RowKit Go.Proofs.Tryz
abbrev rc:=@List
abbrev zA:=ByteArray
abbrev mq:=@List.setIfInBounds_toArray
abbrev mr:=@List.set_cons_zero
abbrev mt:=@List.set_cons_succ
abbrev mu:=@Go.Value.slice.injEq
abbrev mw:=@List.getElem_mem
abbrev mx:=@List.take_succ_eq_append_getElem
abbrev my:=@List.mem_singleton
abbrev mz:=@List.take_of_length_le
abbrev mA:=@List.mem_cons
abbrev mB:=@Option.some.injEq
abbrev mC:=@Bool.false_eq_true
abbrev mD:=@List.mem_map
abbrev mE:=@Go.World.ownsRow.alloc
abbrev mF:=@List.mem_append
abbrev mG:=@List.getElem?_eq_getElem
abbrev mH:=@ByteArray.size_append
abbrev mI:=@List.length_map
abbrev mJ:=@if_neg
abbrev mK:=@if_pos
abbrev mL:=@List.length_cons
abbrev mM:=@List.length_append
abbrev mN:=@List.getD_eq_getElem?_getD
abbrev mO:=@Nat.zero_le
abbrev mP:=@Nat.le_refl
abbrev mQ:=@List.drop_eq_getElem_cons
abbrev mR:=@List.mem_map_of_mem
abbrev mS:=@Go.World.ownsRow_nil
abbrev mT:=@List.mem_filter
abbrev mU:=@List.map_cons
abbrev mV:=@Bool.and_eq_true
abbrev mW:=@Go.World.news_of_block
abbrev mX:=@List.flatMap_cons
abbrev mY:=@List.flatMap_append
abbrev mZ:=@Go.wpList_append_lies
abbrev m5:=@Go.bodyPost_ret
abbrev m6:=@List.mem_flatMap
abbrev m7:=@Go.heap_alloc_new
abbrev m8:=@List.length_nil
abbrev m9:=@Go.World.size_alloc
abbrev ng:=@Go.ByteArray.toList_eq
abbrev nh:=@List.foldl_cons
abbrev ni:=@List.drop_eq_nil_of_le
abbrev nj:=@beq_eq_false_iff_ne
abbrev nk:=@List.map_append
abbrev no:=@List.mem_cons_of_mem
abbrev np:=@List.append_nil
abbrev nr:=@Go.Addr.mk.injEq
abbrev nu:=@List.length_take
abbrev nw:=@List.getElem_of_mem
abbrev ny:=@Prod.mk.injEq
abbrev nz:=@Array.getElem?_eq_some_iff
abbrev nA:=@List.append_assoc
abbrev nB:=@Nat.mul_le_mul_right
abbrev nC:=@Go.info_parts
abbrev nD:=@Nat.le_trans
abbrev nE:=@Nat.zero_add
abbrev nF:=@List.length_drop
abbrev nG:=@List.take_append_of_le_length
abbrev nH:=@List.foldl_append
abbrev nI:=@List.not_mem_nil
abbrev nJ:=@List.getElem?_set_ne
abbrev nK:=@List.mem_cons_self
abbrev nL:=@List.map_congr_left
abbrev nM:=@List.nil_append
abbrev nN:=@List.map_map
abbrev nO:=@List.take_append_drop
abbrev nP:=@List.flatMap_nil
abbrev nQ:=@List.size_toArray
abbrev nR:=@List.take_length
abbrev nS:=@List.mem_append_left
abbrev nT:=@Bool.eq_iff_iff
abbrev nU:=@Except.ok.injEq
abbrev nV:=@List.getElem_append_left
abbrev nW:=@decide_eq_false
abbrev nX:=@List.any_eq_true
abbrev nY:=@List.all_eq_true
abbrev nZ:=@Bool.not_false
abbrev n5:=@Go.World.ownsRow.kept
abbrev n6:=@List.getElem?_map
abbrev n7:=@ByteArray.size_extract
abbrev od:=@List.getElem?_set_self
abbrev oe:=@Go.all_oneCell_toArray
abbrev oh:=@List.filter_cons
abbrev ol:=@Go.wpIn_seq_k
abbrev om:=@Bool.or_eq_true
abbrev oo:=@List.length_filter_le
abbrev ot:=@List.cons_append
abbrev ou:=@List.length_set
abbrev ow:=@List.mem_of_mem_take
abbrev ox:=@Option.map_some
abbrev oy:=@Bool.true_and
abbrev oz:=@Nat.lt_of_lt_of_le
abbrev oA:=@List.cons.injEq
abbrev oB:=@List.nodup_cons
abbrev oC:=@List.any_eq_false
abbrev oD:=@List.getElem?_take
abbrev oE:=@UInt8.toNat_inj
abbrev oF:=@decide_eq_false_iff_not
abbrev oG:=@List.mem_filterMap
abbrev oH:=@List.map_nil
abbrev oI:=@beq_iff_eq
abbrev oJ:=@Bool.not_eq_true'
abbrev oK:=@Option.mem_toList
abbrev oL:=@Go.wpList_load_mid
abbrev oM:=@List.find?_eq_none
abbrev oN:=@List.pairwise_cons
abbrev oO:=@List.length_replicate
abbrev oP:=@List.length_eq_zero_iff
abbrev oQ:=@List.eq_nil_of_length_eq_zero
abbrev oR:=@Go.wpList_store_mid
abbrev oS:=@decide_eq_true
abbrev oT:=@List.pairwise_iff_getElem
abbrev oU:=@List.mem_of_mem_drop
abbrev oV:=@Bool.false_ne_true
abbrev oW:=@List.filter_append
abbrev oX:=@List.findIdx?_eq_some_iff_getElem
abbrev oY:=@List.Pairwise.imp_of_mem
abbrev oZ:=@Nat.add_mul
abbrev o9:=@List.pairwise_map
abbrev pd:=@Array.replicate_succ
abbrev pg:=@Array.replicate_zero
abbrev ph:=@List.nodup_nil
abbrev pi:=@Go.step_append_lies
abbrev pj:=@Bool.not_true
abbrev pk:=@List.take_succ_cons
abbrev pm:=@List.append_toArray
abbrev po:=@Go.Addr.add_lit
abbrev pq:=@Bool.false_or
abbrev pr:=@Nat.min_eq_left
abbrev pu:=@Bool.or_eq_false_iff
abbrev pw:=@Go.decode_ascii
abbrev px:=@List.getElem?_append_right
abbrev py:=@decide_eq_true_eq
abbrev pC:=@List.drop_succ_cons
abbrev pD:=@List.push_toArray
abbrev pE:=@Bool.and_self
abbrev pF:=@List.drop_zero
abbrev pG:=@UInt8.le_iff_toNat_le
abbrev pH:=@Option.some.inj
abbrev pI:=@List.find?_cons
abbrev pJ:=@Go.wpIn_cond_false
abbrev pK:=@Bool.and_false
abbrev pL:=@Bool.false_and
abbrev pM:=@List.take_take
abbrev pN:=@List.take_zero
abbrev pO:=@Go.wpIn_cond_true
abbrev pP:=@List.getElem_take
abbrev pQ:=@Go.Calls.quiet_of_same
abbrev pR:=@List.toList_toArray
abbrev pS:=@List.getElem_cons_zero
abbrev pT:=@Option.map_eq_some_iff
abbrev pU:=@Array.getElem?_eq_none
abbrev pV:=@Go.IntKind.wrap_i64
abbrev pW:=@Bool.true_or
abbrev pX:=@Nat.lt_or_eq_of_le
abbrev pY:=@List.getElem?_drop
abbrev pZ:=@List.any_cons
abbrev p5:=@List.all_cons
abbrev p7:=@ByteArray.getElem_extract
abbrev p8:=@List.getElem?_eq_some_iff
abbrev p9:=@List.nodup_append
abbrev qd:=@List.any_map
abbrev qe:=@Go.results_none
abbrev qg:=@List.findSome?_cons
abbrev qh:=@List.filter_eq_nil_iff
abbrev qi:=@Go.Sem.run_bind
abbrev qj:=@List.findSome?_append
abbrev qk:=@Nat.add_zero
abbrev ql:=@List.contains_iff_mem
abbrev qm:=@List.getElem_drop
abbrev qo:=@Go.World.ownsRow_lit
abbrev qp:=@List.findSome?_eq_none_iff
abbrev qq:=@List.pairwise_append
abbrev qr:=@List.mem_range
abbrev qu:=@Bool.toNat_false
abbrev qw:=@List.map_flatMap
abbrev qx:=@Go.run_callFunc_extern
abbrev qy:=@List.filterMap_cons
abbrev qz:=@decide_false
abbrev qB:=@Bool.or_true
abbrev qC:=@Go.ready_mono
abbrev qD:=@Array.setIfInBounds_comm
abbrev qE:=@Go.RowKit.Below.heap_setCell
abbrev qF:=@List.any_append
abbrev qG:=@List.zip_cons_cons
abbrev qH:=@of_decide_eq_false
abbrev qI:=@List.find?_append
abbrev qJ:=@Nat.min_def
abbrev qK:=@of_decide_eq_true
abbrev qL:=@Go.run_underlying
abbrev qM:=@List.set_append_right
abbrev qN:=@ByteArray.data_append
abbrev qO:=@List.countP_le_length
abbrev qP:=@List.singleton_append
abbrev qQ:=@Go.decode_high
abbrev qS:=@Bool.or_self
abbrev qT:=@List.map_set
variable{w v u:ly}{M:rc Nat}{b m j n k i:Nat}{y:rc ml}{T:TypeId}{z:ml}{P:Program}{s:zA}{g:UInt8}{I:Int}
structure Ac(M:rc Nat)(w w':ly):Prop where
 os:w'.os=w.os
 tape:w'.tape=w.tape
 output:w'.output=w.output
 size:w.heap.size<=w'.heap.size
 block:∀k,k<w.heap.size->k∉M->w'.heap[k]?=w.heap[k]?
def rd{α:Sort _}(a:α):∃b,a=b:=⟨_,rfl⟩
def Ac.refl(M:rc Nat)(w:ly):Ac M w w:=⟨rfl,rfl,rfl,mP _,λ_ _ _=>rfl⟩
abbrev re:=@Ac.refl
def Ac.trans{M:rc Nat}{a b c:ly}(h:Ac M a b)(k:Ac M b c):Ac M a c:=
 ⟨k.os.trans h.os,k.tape.trans h.tape,k.output.trans h.output,nD h.size k.size,
  λi e d=>(k.block i (oz e h.size) d).trans (h.block i e d)⟩
def Ac.trans'{M N:rc Nat}(h:Ac M w v)(k:Ac N v u)(j:∀i,i∈N->i∈M\/w.heap.size<=i):Ac M w u:=
 ⟨k.os.trans h.os,k.tape.trans h.tape,k.output.trans h.output,nD h.size k.size,
  λi f d=>(k.block i (oz f h.size) (λg=>by rcases j i g with e|e;exact d e;omega)).trans (h.block i f d)⟩
def Ac.mono{M N:rc Nat}(h:Ac M w v)(a:∀i,i∈M->i∈N):Ac N w v:=
 ⟨h.os,h.tape,h.output,h.size,λk c b=>h.block k c (λd=>b (a k d))⟩
def Ac.drew{M:rc Nat}{a w:ly}(h:Ac M a w):Ac M a w.drew:=⟨h.os,h.tape,h.output,h.size,h.block⟩
def Ac.drewN{M:rc Nat}{a w:ly}(h:Ac M a w)(n:Nat):Ac M a (w.drewN n):=⟨h.os,h.tape,h.output,h.size,h.block⟩
def Ac.alloc{M:rc Nat}{a w:ly}(h:Ac M a w)(o:Obj):Ac M a (w.alloc o):=
 h.trans ⟨rfl,rfl,rfl,by simp,λk b _=>Below.heap_alloc _ _ _ b⟩
def Ac.setCell{M:rc Nat}{a w:ly}(h:Ac M a w){p:Addr}(b:p.block∈M\/a.heap.size<=p.block)(u:ml):Ac M a (w.setCell p u):=
 h.trans' (N:=[p.block]) ⟨rfl,rfl,rfl,by simp[World.setCell],λk _ c=>qE _ _ _ _ (by simpa using c)⟩ (by simpa using b)
def Ac.grown{d:Option Nat}(h:Ac M v w)(b:w.grownBy u d)(j:∀k,d=V k->k∈M\/v.heap.size<=k):Ac M v u:=
 ⟨b.os.trans h.os,b.tape.trans h.tape,b.output.trans h.output,nD h.size b.size,
  λi g c=>(b.block i (oz g h.size) (λe=>by rcases j i e.symm with f|f;exact c f;omega)).trans (h.block i g c)⟩
def Ac.below(h:Ac [] w v):Below w.heap.size w v:=⟨h.os,h.tape,h.output,h.size,λk a=>h.block k a (by simp)⟩
def AI(w:ly)(b:Nat)(cs:rc ml)(t:TypeId):Prop:=w.heap[b]?=V (.cells (j2 cs) t (0,0))
def AI.lt(h:AI w b y T):b<w.heap.size:=(nz.1 h).1
def AI.cell{w:ly}{b:Nat}{a:rc ml}{t:TypeId}(h:AI w b a t)(i:Nat):w.cell? ⟨b,i,Y⟩=a[i]?:=by
 unfold AI at h;simp[World.cell?,h]
def AI.frozen{w:ly}{b:Nat}{a:rc ml}{t:TypeId}(h:AI w b a t)(i:Nat):w.frozen? ⟨b,i,Y⟩=K:=by
 unfold AI at h;simp[World.frozen?,h]
def AI.set{w:ly}{b:Nat}{a:rc ml}{t:TypeId}(h:AI w b a t)(i:Nat)(u:ml):AI (w.setCell ⟨b,i,Y⟩ u) b (a.set i u) t:=by
 unfold AI at*;simp[World.setCell,Array.getElem?_modify,h]
def AI.zB(h:AI w b y T)(p:Addr)(a:p.block≠b)(u:ml):AI (w.setCell p u) b y T:=by
 unfold AI at*;rw[qE _ _ _ _ (λe=>a e.symm)];exact h
def AI.alloc{w:ly}{b:Nat}{a:rc ml}{t:TypeId}(h:AI w b a t)(o:Obj):AI (w.alloc o) b a t:=by
 have:=h.lt;unfold AI at*;rw[Below.heap_alloc _ _ _ this];exact h
def AI.new(w:ly)(a:rc ml)(t:TypeId):AI (w.alloc (.cells (j2 a) t)) w.heap.size a t:=by
 exact m7 w _
abbrev rf:=@AI.new
def AI.kept{w w':ly}(h:AI w b y T)(k:Ac M w w')(a:b∉M:=by simp):AI w' b y T:=by
 have:=h.lt;unfold AI at*;rw[k.block b this a];exact h
def AI.drew{w:ly}{b:Nat}{a:rc ml}{t:TypeId}(h:AI w b a t):AI w.drew b a t:=h
def AI.drewN{w:ly}{b:Nat}{a:rc ml}{t:TypeId}(h:AI w b a t)(n:Nat):AI (w.drewN n) b a t:=h
def AI.range(h:AI w b y T):w.rangeAt b 0 y:=λj v a=>by rw[nE,h.cell];exact a
def AI.there{w:ly}{b:Nat}{a:rc ml}{t:TypeId}(h:AI w b a t):w.there b 0 (Z a):=λj c=>by
 rw[nE,h.cell,h.frozen];simp[c]
def Ad(h:oi w m T j z n y)(k:Ac M w u)(c:∀i,i∈M->i<m:=by simp):oi u m T j z n y:=by
 refine⟨h.1,?_⟩;rcases h.2 with p|⟨g,d,b,rfl,f,a,l⟩
 .exact .inl p
 .refine .inr ⟨g,d,b,rfl,f,?_,l⟩;rw[k.block g (nz.1 a).1 (λo=>by have:=c g o;omega)];exact a
def Ag{v:ml}(h:oi w m T j v n y)(k:Ac M w u)(c:∀i,v.ownBlock=V i->i∉M):oi u m T j v n y:=by
 refine⟨h.1,?_⟩;rcases h.2 with o|⟨g,d,b,rfl,f,a,l⟩
 .exact .inl o
 .refine .inr ⟨g,d,b,rfl,f,?_,l⟩;rw[k.block g (nz.1 a).1 (c g rfl)];exact a
def Ak{a base':Nat}(h:oi w a T m z n y)(i:base'<=a):oi w base' T m z n y:=by
 refine⟨h.1,?_⟩;rcases h.2 with f|⟨g,c,b,rfl,j,d⟩
 .exact .inl f
 .exact .inr ⟨g,c,b,rfl,by omega,d⟩
def C1(h:oi w m T k z n y):oi w.drew m T k z n y:=h
def DW(h:oi w m T i z n y)(k:Nat):oi (w.drewN k) m T i z n y:=h
def Ah(h:oi w m T k z n y){p:Addr}(b:z.ownBlock≠V p.block)(u:ml):oi (w.setCell p u) m T k z n y:=
 Ag h ((re [p.block] w).setCell (by simp) u) (λi c a=>b (by simp at a;rw[c,a]))
def Ba(h:oi w m T i z n y)(k:Nat)(a:k<m):z.ownBlock≠V k:=λT=>by
 have:=(h.lt k T).1;omega
def AI.grown{a:Option Nat}(h:AI w b y T)(k:w.grownBy v a)(c:a≠V b):AI v b y T:=by
 have:=h.lt;unfold AI at*;rw[k.block b this (λe=>c e.symm)];exact h
def Cj{c:Func}{p:Tmp}(h:c.results=#[.cell p T]){a:Array ml}{t:TypeId}{d:TypeDesc}
  (f:a.getD p undef=j3 (V ⟨b,0,Y⟩)) (k:AI w b y t) (j:P.underlying T=V d) (e:d.isRow=jj) (l:(P.info? T).map (·.size)=V (Z y)):
  (results c a).run P w=.ok (oj (j2 y)) w:=by
 have i:=run_loadVar_mid (P:=P) w b 0 T y d k.range j e l;have g:a[p]?.getD undef=j3 (V ⟨b,0,Y⟩):=by simpa using f
 simp only[results,h];simp[qi,Result.andThen,g,i,asAddr]
def As{fn:Func}{p u:Tmp}(h:fn.results=#[.cell p T,.tmp u]){a:Array ml}{t:TypeId}{d:TypeDesc}
  (e:a.getD p undef=j3 (V ⟨b,0,Y⟩)) (i:AI w b y t) (g:P.underlying T=V d) (c:d.isRow=jj) (j:(P.info? T).map (·.size)=V (Z y)):
  (results fn a).run P w=.ok (.tuple #[oj (j2 y),a.getD u undef]) w:=by
 have f:=run_loadVar_mid (P:=P) w b 0 T y d i.range g c j;rw[results_cell_tmp h];simp[qi,Result.andThen,e,f,asAddr]
def C2(h:oi w m T k z n y):∃b a,z=U b n a:=by
 rcases h.2 with⟨rfl,rfl⟩|⟨g,a,c,rfl,_⟩
 .exact⟨Y,0,rfl⟩
 .exact⟨_,a,rfl⟩
def X5{α:Type}(f:α->rc ml)(a:Nat):∀(l:rc α),(∀x∈l,Z (f x)=a)->∀(i:Nat) (b:i<Z l) (k:Nat),k<a->(l.flatMap f)[i*a+k]?=(f l[i])[k]?
 |[],_,i,b,_,_=>by simp at b
 |x::l,h,0,_,k,hk=>by
  have c:=h x (by simp);simp only[mX,Nat.zero_mul,nE,pS];rw[List.getElem?_append_left (by omega)]
 |x::l,h,i+1,b,k,hk=>by
  have c:=h x (by simp);have ih:=X5 f a l (λy d=>h y (by simp[d])) i (by simpa using b) k hk;simp only[mX,List.getElem_cons_succ];rw[px (by rw[c,oZ];omega),c,oZ,Nat.one_mul,show i*a+a+k-a=i*a+k by omega];exact ih
def AC{α:Type}{f:α->rc ml}{l:rc α}(h:oi w m T n z (Z l) (l.flatMap f))(d:∀x∈l,Z (f x)=n)(i:Nat)(u:i<Z l):
  ∃g a,z=U (V ⟨g,0,Y⟩) (Z l) a/\Z l<=a/\∀j (b:j<Z l) k,k<n->w.cell? ⟨g,j*n+k,Y⟩=(f l[j])[k]?:=by
 rcases h.2 with⟨_,s⟩|⟨g,a,r,rfl,_,p,q,_,t,o⟩
 .omega
 .refine⟨g,a,rfl,q,λj b k c=>?_⟩;rw[<-X5 f n l d j b k c,<-o,oD,mK (by have:(j+1)*n<=Z l*n:=nB _ b;rw[oZ]at this;omega)];simp[World.cell?,p]
def Al(h:oi w m T k z n y):∃b a,z=U b n a:=C2 h
def Ai(x:zA):rc ml:=[O x]
def Ab{p:Prop}(h:p):nc p:=h
def ra{P:Program}{Q:Exit->Act->ly->Prop}{a:Act}{w:ly}{x y:Code}(h:∀K:Act->ly->Prop,nc (∀a w,y.wp P Q a w->K a w)->x.wp P (Exit.then K Q) a w):(Code.seq x y).wp P Q a w:=wp_seq_k λK k=>h K (Ab k)
def Aa{p:Prop}(h:nc p):p:=h
theorem Tryz.zs:(Tryz.prog.info? 9).map (λi=>(i.zero,i.size,i.bytes))=V (V (O ⟨#[]⟩),1,16):=by kernel_rfl
def B7(s:zA)(at_:Nat)(bad:Bool):rc ml:=[O s,X J at_,q8 bad]
def AA(c:UInt8):Bool:=97<=c&&c<=122
def Dx(c:UInt8):Bool:=65<=c&&c<=90
def Ap(c:UInt8):Bool:=48<=c&&c<=57
def DX(c:UInt8):Bool:=c==32||c==10
def By{a b:Bool}(h:a=b):kt (q8 a)=kt (q8 b):=by rw[h]
def jb{k:IntKind}{a b:Int}(h:a=b):kt (X k a)=kt (X k b):=by rw[h]
theorem JW(n:Int)(c:UInt8)(w:ly)(h:n=c.toNat):Calls prog 169 #[X .u8 n] w λe a=>e=kt (q8 (AA c))/\a=w:=by
 subst h;go_enter func169,ntmps169;go_wp2;all_goals go_ret
 all_goals refine⟨By ?_,rfl⟩
 all_goals (rw[nT];simp[AA,pG];try omega)
theorem Pf(n:Int)(c:UInt8)(w:ly)(h:n=c.toNat):Calls prog 170 #[X .u8 n] w λe a=>e=kt (q8 (Dx c))/\a=w:=by
 subst h;go_enter func170,ntmps170;go_wp2;all_goals go_ret
 all_goals refine⟨By ?_,rfl⟩
 all_goals (rw[nT];simp[Dx,pG];try omega)
theorem CO(n:Int)(c:UInt8)(w:ly)(h:n=c.toNat):Calls prog 55 #[X .u8 n] w λe a=>e=kt (q8 (Ap c))/\a=w:=by
 subst h;go_enter func55,ntmps55;go_wp2;all_goals go_ret
 all_goals refine⟨By ?_,rfl⟩
 all_goals (rw[nT];simp[Ap,pG];try omega)
def Ae(s:zA)(at_:Nat):Nat:=
 if h:at_<s.size then(if DX s[at_] then Ae s (at_+1)else at_)else at_
def AF(s:zA)(at_:Nat)(bad:Bool):Nat:=if bad then at_ else Ae s at_
def Bp(s:zA)(a:Nat)(h:a<=s.size):Ae s a<=s.size:=by
 fun_induction Ae s a<;>omega
def B1(s:zA)(a:Nat):a<=Ae s a:=by
 fun_induction Ae s a<;>omega
def Md(s:zA)(a:Nat):AF s a jj=a:=rfl
def Sg(s:zA)(a:Nat)(h:¬a<s.size)(b:Bool):AF s a b=a:=by
 unfold AF;rw[Ae];simp[h]
def ZS(s:zA)(a:Nat)(h:a<s.size)(b:DX s[a]=jj):AF s a K=AF s (a+1) K:=by
 unfold AF;rw[Ae];simp[h,b]
def Ym(s:zA)(a:Nat)(h:a<s.size)(b:DX s[a]=K):AF s a K=a:=by
 unfold AF;rw[Ae];simp[h,b]
def Cy(c k:UInt8):((c.toNat:Int)==(k.toNat:Int))=(c==k):=by
 rw[nT];simp only[oI];constructor
 .intro h;exact oE.1 (by omega)
 .intro h;rw[h]
def Wo(c:UInt8):(((c.toNat:Int)==32)=jj/\DX c=jj)\/(((c.toNat:Int)==32)=K/\((c.toNat:Int)==10)=jj/\DX c=jj)\/
  (((c.toNat:Int)==32)=K/\((c.toNat:Int)==10)=K/\DX c=K):=by
 have b:((c.toNat:Int)==32)=(c==32):=Cy c 32;have a:((c.toNat:Int)==10)=(c==10):=Cy c 10;rw[b,a];unfold DX;cases(c==32)<;>cases(c==10)<;>simp
theorem D6(b:Nat)(s:zA)(c:Nat)(a:Bool)(w:ly)(M:s.size<=1000000)(D:c<=s.size)(G:AI w b (B7 s c a) 73):
  Calls prog 43 #[j3 (V ⟨b,0,Y⟩)] w λe u=>e=kt (.tuple #[])/\AI u b (B7 s (AF s c a) a) 73/\Ac [b] w u:=by
 go_enter func43,ntmps43;go_wp2
 go_loopg [] (s.size-c) (λk wr=>∃j:Nat,j<=s.size/\k=s.size-j/\AF s j a=AF s c a/\AI wr b (B7 s j a) 73/\Ac [b] w wr)
 case atStart=>exact⟨c,D,rfl,rfl,G,re _ _⟩
 case round=>
  obtain⟨j,N,y,x,f,g⟩:=hrel;have B:=f.cell 0;have H:=f.cell 1;have F:=f.cell 2;have P:=f.frozen 1;simp[B7]at B H F;have m:nc (gk=s.size-j/\AF s j a=AF s c a):=⟨y,x⟩;clear y x;have A:AF s j a=j->AI wr b (B7 s (AF s c a) a) 73:=λh=>by rw[<-m.out.2,h];exact f
  have p:nc (AF s j a=j->AI wr b (B7 s (AF s c a) a) 73):=A;clear A;cases a with
  |true=>
   go_wp2
   go_quiet (fail)
   go_wp2;go_end0;exact⟨rfl,p.out rfl,g.drewN _⟩
  |false=>
   by_cases o:j<s.size
   ·(have L:(j:Int)<(s.size:Int):=by omega);have v:nc (DX s[j]=jj->∃d:Nat,d<=s.size/\s.size-(j+1)=s.size-d/\AF s d K=AF s c K/\∀n,AI ((wr.drewN n).setCell ⟨b,1,Y⟩ (X J (j+1))) b (B7 s d K) 73/\Ac [b] w ((wr.drewN n).setCell ⟨b,1,Y⟩ (X J (j+1)))):=by
     intro h;refine⟨j+1,by omega,rfl,?_,λn=>⟨?_,?_⟩⟩
     .rw[<-m.out.2,ZS s j o h]
     .exact(f.drewN n).set 1 _
     .exact(g.drewN n).setCell (by simp) _
    rcases Wo s[j] with⟨z,i⟩|⟨z,C,i⟩|⟨z,C,i⟩
    .clear f g;go_wp2
     go_quiet (fail)
     go_wp2
     go_roundg (s.size-(j+1))
     case measure=>have:=m.out.1;omega
     case rel=>
      obtain⟨d,r,t,q,l⟩:=v.out i;exact⟨d,r,t,q,(l _).1,(l _).2⟩
    .clear f g;go_wp2
     go_quiet (fail)
     go_wp2
     go_roundg (s.size-(j+1))
     case measure=>have:=m.out.1;omega
     case rel=>
      obtain⟨d,r,t,q,l⟩:=v.out i;exact⟨d,r,t,q,(l _).1,(l _).2⟩
    .have E:nc (DX s[j]=K):=i;clear i;go_wp2
     go_quiet (fail)
     go_wp2;go_end0;exact⟨rfl,p.out (Ym s j o E.out),g.drewN _⟩
   ·(have I:decide ((j:Int)<(s.size:Int))=K:=by simp;omega);go_wp2
    go_quiet (fail)
    go_wp2;go_end0;exact⟨rfl,p.out (Sg s j o _),g.drewN _⟩
def DM(s:zA)(j:Nat)(c:UInt8):Bool:=if h:j<s.size then s[j]==c else K
def Gx(s:zA)(a:Nat)(b:Bool)(h:a<=s.size):AF s a b<=s.size:=by
 unfold AF;split
 .exact h
 .exact Bp s a h
theorem Sp(b:Nat)(s:zA)(d:Nat)(a:Bool)(n:Int)(c:UInt8)(w:ly)(u:n=c.toNat)(t:s.size<=1000000)(m:d<=s.size)(o:AI w b (B7 s d a) 73):
  Calls prog 128 #[j3 (V ⟨b,0,Y⟩),X .u8 n] w λe k=>e=kt (q8 (!a&&DM s (AF s d a) c))/\AI k b (B7 s (AF s d a) a) 73/\Ac [b] w k:=by
 have v:=Gx s d a m;subst u;obtain⟨j,h⟩:=rd (AF s d a);rw[h]at v⊢;have l:nc (AF s d a=j):=h;clear h;go_enter func128,ntmps128;go_wp2_with fail
 refine(D6 b s d a _ t m o).mono ?_;rintro e z ⟨rfl,f,g⟩;rw[l.out]at f;clear o l;have p:=f.cell 0;have x:=f.cell 1;have q:=f.cell 2;simp[B7]at p x q;cases a with
 |true=>
  go_wp2
  go_quiet (fail)
  go_wp2;go_ret;exact⟨By (by simp),f.drewN _,g.drewN _⟩
 |false=>
  by_cases i:j<s.size
  ·(have A:(j:Int)<(s.size:Int):=by omega);have r:nc (((s[j].toNat:Int)==(c.toNat:Int))=(!false&&DM s j c)):=by
    show _=_;rw[Cy];unfold DM;simp[i]
   go_wp2
   go_quiet (fail)
   go_wp2;go_ret;exact⟨By r.out,f.drewN _,g.drewN _⟩
  ·(have y:decide ((j:Int)<(s.size:Int))=K:=by simp;omega);go_wp2
   go_quiet (fail)
   go_wp2;go_ret;exact⟨By (by unfold DM;simp[i]),f.drewN _,g.drewN _⟩
def Cg(s:zA)(j:Nat)(bad:Bool)(c:UInt8):Nat:=if !bad&&DM s (AF s j bad) c then AF s j bad+1 else AF s j bad
def Fe(h:DM s j g=jj):j<s.size:=by
 unfold DM at h;split at h
 .assumption
 .cases h
def Dm(s:zA)(a:Nat)(d:Bool)(c:UInt8)(h:a<=s.size):Cg s a d c<=s.size:=by
 unfold Cg;have:=Gx s a d h;split
 .rename_i b;simp only[mV]at b;have:=Fe b.2;omega
 .exact this
theorem Ov(b:Nat)(s:zA)(d:Nat)(a:Bool)(n:Int)(c:UInt8)(w:ly)(o:n=c.toNat)(u:s.size<=1000000)(q:d<=s.size)(p:AI w b (B7 s d a) 73):
  Calls prog 80 #[j3 (V ⟨b,0,Y⟩),X .u8 n] w λe l=>e=kt (q8 (!a&&DM s (AF s d a) c))/\AI l b (B7 s (Cg s d a c) a) 73/\Ac [b] w l:=by
 have t:=Gx s d a q;unfold Cg;obtain⟨j,k⟩:=rd (AF s d a);rw[k]at t⊢;obtain⟨h,i⟩:=rd (!a&&DM s j c);rw[i];have g:nc (AF s d a=j/\(!a&&DM s j c)=h/\n=c.toNat):=⟨k,i,o⟩;clear k i o;go_enter func80,ntmps80;go_wp2_with fail
 refine(Sp b s d a n c _ g.out.2.2 u q p).mono ?_;rintro e x ⟨rfl,f,m⟩;rw[g.out.1,g.out.2.1];rw[g.out.1]at f;clear p g;have r:=f.cell 0;have v:=f.cell 1;have y:=f.frozen 1;simp[B7]at r v;cases h with
 |true=>
  go_wp2;go_ret;exact⟨By rfl,f.set 1 _,m.setCell (by simp) _⟩
 |false=>
  go_wp2;go_ret;exact⟨By rfl,f,m⟩
theorem SD(b:Nat)(s:zA)(d:Nat)(a:Bool)(n:Int)(c:UInt8)(w:ly)(p:n=c.toNat)(x:s.size<=1000000)(y:d<=s.size)(q:AI w b (B7 s d a) 73):
  Calls prog 82 #[j3 (V ⟨b,0,Y⟩),X .u8 n] w λe m=>e=kt (.tuple #[])/\AI m b (B7 s (Cg s d a c) (!(!a&&DM s (AF s d a) c))) 73/\Ac [b] w m:=by
 have r:nc ((!a&&DM s (AF s d a) c)=jj->a=K):=by intro h;cases a<;>simp_all
 obtain⟨j,l⟩:=rd (Cg s d a c);obtain⟨k,g⟩:=rd (!a&&DM s (AF s d a) c);rw[l,g];rw[g]at r;have i:nc (Cg s d a c=j/\(!a&&DM s (AF s d a) c)=k/\n=c.toNat):=⟨l,g,p⟩;clear l g p;go_enter func82,ntmps82;go_wp2_with fail
 refine(Ov b s d a n c _ i.out.2.2 x y q).mono ?_;rintro e t ⟨rfl,f,o⟩;rw[i.out.2.1];rw[i.out.1]at f;clear q i;have v:=f.cell 2;have z:=f.frozen 2;simp[B7]at v;cases k with
 |true=>
  have u:nc (AI t b (B7 s j (!true)) 73):=by have e:=r.out rfl;rw[e]at f;exact f
  go_wp2;go_end0;exact⟨rfl,u.out,o⟩
 |false=>
  go_wp2;go_end0;exact⟨rfl,f.set 2 _,o.setCell (by simp) _⟩
def AK(p:UInt8->Bool)(s:zA)(i:Nat):Nat:=
 if h:i<s.size then(if p s[i] then AK p s (i+1)else i)else i
def C0(p:UInt8->Bool)(s:zA)(i:Nat)(h:i<=s.size):AK p s i<=s.size:=by
 fun_induction AK p s i<;>omega
def CD(p:UInt8->Bool)(s:zA)(i:Nat):i<=AK p s i:=by
 fun_induction AK p s i<;>omega
def Co(p:UInt8->Bool)(s:zA)(i:Nat)(h:i<s.size)(a:p s[i]=jj):AK p s i=AK p s (i+1):=by
 rw[AK];simp[h,a]
def EN(p:UInt8->Bool)(s:zA)(i:Nat)(h:i<s.size)(a:p s[i]=K):AK p s i=i:=by
 rw[AK];simp[h,a]
def GU(p:UInt8->Bool)(s:zA)(i:Nat)(h:¬i<s.size):AK p s i=i:=by
 rw[AK];simp[h]
def AY(s:zA)(at_:Nat)(bad:Bool):zA×Nat×Bool:=
 if bad then(q9,at_,jj)else
  if AK AA s (Ae s at_)=Ae s at_\/4<AK AA s (Ae s at_)-Ae s at_ then(q9,Ae s at_,jj)
  else(s.extract (Ae s at_) (AK AA s (Ae s at_)),AK AA s (Ae s at_),K)
def Eh(a:Ae s n=j)(b:AK AA s j=k)(h:k=j\/4<k-j):AY s n K=(q9,j,jj):=by
 unfold AY;rw[a,b,mJ (by simp),mK h]
def I0(a:Ae s n=j)(b:AK AA s j=k)(h:¬(k=j\/4<k-j)):AY s n K=(s.extract j k,k,K):=by
 unfold AY;rw[a,b,mJ (by simp),mJ h]
theorem OD(b:Nat)(s:zA)(c:Nat)(g:Bool)(w:ly)(G:s.size<=1000000)(r:c<=s.size)(n:AI w b (B7 s c g) 73):
  Calls prog 126 #[j3 (V ⟨b,0,Y⟩)] w λe y=>e=kt (O (AY s c g).1)/\AI y b (B7 s (AY s c g).2.1 (AY s c g).2.2) 73/\Ac [b] w y:=by
 cases g with
 |true=>
  go_enter func126,ntmps126;go_wp2_with fail
  refine(D6 b s c jj _ G r n).mono ?_;rintro e H ⟨rfl,a,d⟩;rw[Md]at a;clear n;have q:=a.cell 0;have x:=a.cell 1;have t:=a.cell 2;have L:=a.frozen 2;simp[B7]at q x t;go_wp2
  go_loop [4] (λi=>i=X J c) (λ_=>0)
  case atStart=>rfl
  case round=>
   subst hrel;go_wp2;go_ret;exact⟨rfl,a.set 2 _,d.setCell (by simp) _⟩
 |false=>
  obtain⟨j,u⟩:=rd (Ae s c);have B:=Bp s c r;rw[u]at B;obtain⟨R,v⟩:=rd (AY s c K);rw[v];have p:nc (Ae s c=j):=u;have A:nc (AY s c K=R):=v;clear u v;go_enter func126,ntmps126;go_wp2_with fail
  refine(D6 b s c K _ G r n).mono ?_;rintro e H ⟨rfl,a,d⟩;rw[show AF s c K=j from p.out]at a
  clear n;have q:=a.cell 0;have x:=a.cell 1;have t:=a.cell 2;have T:=a.frozen 1;have L:=a.frozen 2;simp[B7]at q x t;go_wp2
  go_loop [4] (λi=>∃k:Nat,i=X J k/\j<=k/\k<=s.size/\AK AA s k=AK AA s j) (λi=>s.size-(intOf i).toNat)
  case atStart=>exact⟨j,rfl,mP _,B,rfl⟩
  case round=>
   obtain⟨k,rfl,P,S,E⟩:=hrel;have D:nc (AK AA s k=AK AA s j):=E;clear E;have z:nc (AK AA s k=k->(((k:Int)=j\/4<(k:Int)-j)->R=(q9,j,jj))/\(¬((k:Int)=j\/4<(k:Int)-j)->R=(s.extract j k,k,K))):=by
    intro M;(have C:AK AA s j=k:=by rw[<-D.out];exact M);exact⟨λh=>by rw[<-A.out];exact Eh p.out C (by omega),λh=>by rw[<-A.out];exact I0 p.out C (by omega)⟩
   by_cases o:k<s.size
   ·(have Q:(k:Int)<(s.size:Int):=by omega);by_cases m:AA s[k]=jj
    ·(have I:nc (AK AA s (k+1)=AK AA s j):=by show _=_;rw[<-Co AA s k o m];exact D.out);go_wp2_with (go_at_call 169;refine(JW _ s[k] _ rfl).mono ?_;rintro e N ⟨rfl,rfl⟩;rw[m])
     go_round
     case rel=>exact⟨k+1,by go_num,by omega,by omega,I.out⟩
     case measure=>simp[intOf];omega
    ·(have F:AA s[k]=K:=by simpa using m);have l:=z.out (EN AA s k o F);have f:nc ((((k:Int)=j\/4<(k:Int)-j)->R=(q9,j,jj))/\(¬((k:Int)=j\/4<(k:Int)-j)->R=(s.extract j k,k,K))):=l;clear l m;go_wp2_with (go_at_call 169;refine(JW _ s[k] _ rfl).mono ?_;rintro e N ⟨rfl,rfl⟩;rw[F])
     all_goals go_ret
     .rw[f.out.1 (by omega)];exact⟨rfl,a.set 2 _,d.setCell (by simp) _⟩
     .rw[f.out.1 (by simp_all)];exact⟨rfl,a.set 2 _,d.setCell (by simp) _⟩
     .rw[f.out.2 (by simp_all)];exact⟨rfl,a.set 1 _,d.setCell (by simp) _⟩
   .have l:=z.out (GU AA s k o);have f:nc ((((k:Int)=j\/4<(k:Int)-j)->R=(q9,j,jj))/\(¬((k:Int)=j\/4<(k:Int)-j)->R=(s.extract j k,k,K))):=l;clear l;go_wp2;all_goals go_ret
    .rw[f.out.1 (by omega)];exact⟨rfl,a.set 2 _,d.setCell (by simp) _⟩
    .rw[f.out.1 (by simp_all)];exact⟨rfl,a.set 2 _,d.setCell (by simp) _⟩
    .rw[f.out.2 (by simp_all)];exact⟨rfl,a.set 1 _,d.setCell (by simp) _⟩
def E4(r:Int):Int:=
 if 97<=r/\r<=122 then 2 else if 48<=r/\r<=57 then 3 else if 65<=r/\r<=90 then 4
 else if r=58\/r=46\/r=44\/r=33\/r=61\/r=35\/r=60\/r=40\/r=41 then 5 else 0
theorem KT(r:Int)(w:ly):Calls prog 192 #[X .i32 r] w λe a=>e=kt (X J (E4 r))/\a=w:=by
 go_enter func192,ntmps192;go_wp2;all_goals
  go_ret;refine⟨jb ?_,rfl⟩
  try simp only[nj,oI,ne_eq]at*
  unfold E4
  (repeat' split)<;>omega
structure Be where
 kind:Int
 place:Nat
 text:zA
def Bu(m:Be):rc ml:=[X J m.kind,X J m.place,O m.text]
def C7(m:Be)(place:Nat)(r:Int):Bool:=
 if m.place+m.text.size≠place then K
 else if m.kind=2\/m.kind=3 then E4 r==m.kind
 else if m.kind=5 then(m.text.toList==[58])&&r==45
 else K
theorem YI(m:Be)(d:Nat)(r:Int)(w:ly)(q:m.place<=1000000)(t:m.text.size<=1000000)(s:d<=1000000):
  Calls prog 191 #[oj (j2 (Bu m)),X J d,X .i32 r] w λe p=>e=kt (q8 (C7 m d r))/\Ac [] w p:=by
 simp only[Bu];obtain⟨G,h⟩:=rd (C7 m d r);rw[h];have a:=h;unfold C7 at a;clear h;by_cases g:m.place+m.text.size=d
 .have o:((m.place:Int)+(m.text.size:Int) !=(d:Int))=K:=by simp;omega
  rw[mJ (by omega)]at a;by_cases b:m.kind=2\/m.kind=3
  .rw[mK b]at a;have c:nc ((E4 r==m.kind)=G):=a;clear a g;(have j:∀n:Nat,True:=λ_=>trivial);clear j;rcases b with b|b
   ·(have i:(m.kind==2)=jj:=by simp[b]);clear b;go_enter func191,ntmps191;go_wp2_with fail
    go_quiet ((go_at_call 192;exact pQ (KT _ _)))
    go_wp2;go_ret;exact⟨By c.out,((re _ _).alloc _).drewN _⟩
   ·(have i:(m.kind==2)=K:=by simp[b]);(have l:(m.kind==3)=jj:=by simp[b]);clear b;go_enter func191,ntmps191;go_wp2_with fail
    go_quiet ((go_at_call 192;exact pQ (KT _ _)))
    go_wp2;go_ret;exact⟨By c.out,((re _ _).alloc _).drewN _⟩
  .rw[mJ b]at a;(have i:(m.kind==2)=K:=by simp;omega);(have l:(m.kind==3)=K:=by simp;omega);by_cases f:m.kind=5
   .rw[mK f]at a;(have k:(m.kind==5)=jj:=by simp[f]);have c:nc (((m.text.toList==[58])&&r==45)=G):=a;clear a g b f;go_enter func191,ntmps191;go_wp2;all_goals
     go_ret;refine⟨By ?_,(re _ _).alloc _⟩;rw[<-c.out]
     simp_all
   .rw[mJ f]at a;(have k:(m.kind==5)=K:=by simp[f]);have c:nc (K=G):=a;clear a g b f;go_enter func191,ntmps191;go_wp2;go_ret;exact⟨By c.out,(re _ _).alloc _⟩
 .have o:((m.place:Int)+(m.text.size:Int) !=(d:Int))=jj:=by simp;omega
  rw[mK (by omega)]at a;have c:nc (K=G):=a;clear a g;go_enter func191,ntmps191;go_wp2;go_ret;exact⟨By c.out,(re _ _).alloc _⟩
def fq(h:0<s.size):DM s 0 48=((s[0].toNat:Int)==48):=by
 have e:((s[0].toNat:Int)==48)=(s[0]==48):=Cy s[0] 48;rw[e];simp[DM,h]
def J9(m:Be):Bool:=
 if m.kind=2 then decide (m.text.size<=4)
 else if m.kind=3 then decide (m.text.size=1)||(decide (m.text.size<=3)&& !(DM m.text 0 48))
 else jj
theorem WA(m:Be)(w:ly)(o:m.text.size<=1000000)(g:m.kind=3->0<m.text.size):
  Calls prog 157 #[oj (j2 (Bu m))] w λe j=>e=kt (q8 (J9 m))/\Ac [] w j:=by
 simp only[Bu];obtain⟨G,h⟩:=rd (J9 m);rw[h];have a:=h;unfold J9 at a;clear h;by_cases b:m.kind=2
 .have l:(m.kind==2)=jj:=by simp[b]
  rw[mK b]at a;have c:nc (decide (m.text.size<=4)=G):=a;clear a b g;go_enter func157,ntmps157;go_wp2;go_ret;refine⟨By ?_,(re _ _).alloc _⟩;rw[<-c.out];simp
  try omega
 .have l:(m.kind==2)=K:=by simp[b]
  rw[mJ b]at a;by_cases d:m.kind=3
  ·(have i:(m.kind==3)=jj:=by simp[d]);have k:=g d;(have n:(0:Int)<(m.text.size:Int):=by omega);rw[mK d,fq k]at a;have c:nc ((decide (m.text.size=1)||(decide (m.text.size<=3)&& !((m.text[0].toNat:Int)==48)))=G):=a;clear a b d g;go_enter func157,ntmps157;go_wp2
   .go_ret;refine⟨By ?_,(re _ _).alloc _⟩;(have f:m.text.size=1:=by omega);rw[<-c.out];simp[f]
   .go_ret;refine⟨By ?_,(re _ _).alloc _⟩;(have f:¬m.text.size=1:=by omega);(have b:m.text.size<=3:=by omega);rw[<-c.out];simp only[f,b,qz,decide_true,pq,oy];simp[bne];omega
   .go_ret;refine⟨By ?_,(re _ _).alloc _⟩;(have f:¬m.text.size=1:=by omega);(have b:¬m.text.size<=3:=by omega);rw[<-c.out];simp[f,b];omega
  ·(have i:(m.kind==3)=K:=by simp[d]);rw[mJ d]at a;have c:nc (jj=G):=a;clear a b d g;go_enter func157,ntmps157;go_wp2;go_ret;exact⟨By c.out,(re _ _).alloc _⟩
theorem Tryz.yD:(Tryz.prog.info? 206).map (λi=>(i.zero,i.size,i.bytes))=V (V (oj #[X J 0,X J 0,O ⟨#[]⟩]),3,32):=by kernel_rfl
def G3(m:Be):Z (Bu m)=3:=rfl
def BN(h:oi w m T k (U (V ⟨j,0,Y⟩) n b) n y)(i:Nat)(u:ml):
  oi (w.setCell ⟨j,i,Y⟩ u) m T k (U (V ⟨j,0,Y⟩) n b) n (y.set i u):=by
 refine⟨by rw[ou];exact h.1,?_⟩;rcases h.2 with⟨a,_⟩|⟨s,r,c,a,l,p,q,d,o,f⟩
 .cases a
 .simp only[mu,mB,nr]at a;obtain⟨⟨rfl,_,_⟩,_,rfl⟩:=a;refine lx ⟨j,b,c.setIfInBounds i u,rfl,l,?_,q,d,by simpa using o,?_⟩
  .simp[World.setCell,Array.getElem?_modify,p]
  .rw[Array.toList_setIfInBounds,List.take_set,f]
def Ip(h:oi w m T k (U (V ⟨j,0,Y⟩) n b) n y)(i:Nat):w.frozen? ⟨j,i,Y⟩=K:=by
 rcases h.2 with⟨a,_⟩|⟨o,f,d,a,l,c,_⟩
 .cases a
 .simp only[mu,mB,nr]at a;obtain⟨⟨rfl,_,_⟩,_,rfl⟩:=a;simp[World.frozen?,c]
def ZX(r:Int):(Utf8.encode r).size<=4:=by
 unfold Utf8.encode;simp only;generalize(if Utf8.valid r=jj then r.toNat else Utf8.runeError)=c
 repeat' split
 all_goals simp[ByteArray.size]
def CR(place:Nat)(r:Int):Be:=⟨E4 r,place,Utf8.encode r⟩
def Ni(ms:rc Be)(place:Nat)(r:Int):rc Be:=
 if r=32\/r=10 then ms
 else match ms.getLast? with
  |some m=>if C7 m place r then ms.dropLast++[{m with text:=m.text++Utf8.encode r}] else ms++[CR place r]
  |none=>ms++[CR place r]
def PK{pre:rc Be}{m:Be}{place:Nat}(h:¬(I=32\/I=10)):Ni (pre++[m]) place I=if C7 m place I then pre++[{m with text:=m.text++Utf8.encode I}] else pre++[m]++[CR place I]:=by
 unfold Ni;rw[mJ h];simp
def ev(b:rc Be)(m:Be)(u:zA):((b++[m]).flatMap Bu).set (Z b*3+2) (O u)=(b++[{m with text:=u}]).flatMap Bu:=by
 have c:Z (b.flatMap Bu)=Z b*3:=by
  induction b with
  |nil=>rfl
  |cons a l ih=>rw[mX,mM,ih,G3,mL];omega
 simp only[mY,mX,nP,np];rw[qM _ _ (by omega),c];simp[Bu]
set_option maxRecDepth 100000
theorem iO(mv:ml)(i:rc Be)(place:Nat)(r:Int)(B:Nat)(w:ly)(hB:B<=w.heap.size)(f:oi w B 206 3 mv (Z i) (i.flatMap Bu))(ES:Z i<=1000000)(BA:place<=1000000)
  (y:∀m∈i,m.place<=1000000/\m.text.size<=1000000):
  Calls prog 156 #[mv,X J place,X .i32 r] w λe L=>∃v,e=kt v/\oi L B 206 3 v (Z (Ni i place r)) ((Ni i place r).flatMap Bu)/\Below B w L:=by
 obtain⟨i0,A0,N,Ax,AH⟩:=nC Tryz.yD;obtain⟨ad,W,rfl⟩:=Al f;by_cases b:r=32\/r=10
 .have j:nc (Ni i place r=i):=by show _=_;unfold Ni;rw[mK b]
  rcases b with b|b
  ·(have T:(r==32)=jj:=by simp[b]);clear b;go_enter func156,ntmps156;go_wp2;go_ret;rw[j.out];exact⟨_,rfl,f,Below.refl _ _⟩
  ·(have T:(r==32)=K:=by simp[b]);(have h2:(r==10)=jj:=by simp[b]);clear b;go_enter func156,ntmps156;go_wp2;go_ret;rw[j.out];exact⟨_,rfl,f,Below.refl _ _⟩
 .have T:(r==32)=K:=by simp;omega
  have h2:(r==10)=K:=by simp;omega
  rcases List.eq_nil_or_concat i with rfl|⟨pre,m,P⟩
  ·(have j:nc (Ni [] place r=[CR place r]):=by show _=_;unfold Ni;rw[mJ b];rfl);have Q:=KT r w;clear b y;have Bx:=Ab Q;clear Q;go_enter func156,ntmps156;(go_wp2_with fail);refine Bx.mono ?_;rintro e d ⟨rfl,AO⟩;rw[AO];clear AO d;go_wp2_with (at_builtin;refine mZ _ rfl (.tmp 40) (.tmp 47) _ rfl B 206 i0 _ 3 32 underlying200 A0 N Ax AH rfl (by omega) (U ad 0 W) 0 [] rfl (mE f _) ⟨w.heap.size,0,Y⟩ 1 1 (Bu (CR place r)) rfl rfl (mW (m7 w _)) (by simp[Value.oneCell',Bu]) (by omega) (by unfold maxLen;omega) (by omega) (by simp;omega) (w.heap.size+1) (by simp) ?_;intro g1 BT d F n x o)
   have H:Below B w d:=((Below.refl B w).alloc hB _).grown n (by simp;omega) (λq A=>(f.lt q A).1);clear n x o;go_wp2;go_ret;rw[j.out];refine⟨_,rfl,?_,H⟩;simpa using F
  .rw[List.concat_eq_append]at P;subst P;have j:=Ab (PK (pre:=pre) (m:=m) (place:=place) b);(have p:Z pre<Z (pre++[m]):=by simp);obtain⟨g,EK,he,hc,s⟩:=AC f (λc _=>G3 c) (Z pre) p;simp only[mu]at he;obtain⟨rfl,_,rfl⟩:=he;have I:=s (Z pre) p 0 (by omega);have C:=s (Z pre) p 1 (by omega);have u:=s (Z pre) p 2 (by omega);simp[Bu]at I C u;have E:=y m (by simp);have M:=Ip f (Z pre*3+2);(have o:Z (pre++[m])=Z pre+1:=by simp);(have E0:Z pre<=1000000:=by omega);have z:=YI m place r w E.1 E.2 BA;simp only[Bu]at z;have S:=Ab z;clear s b z y;rw[o]at f⊢;cases hgo:C7 m place r with
   |true=>
    have G:=Ab hgo;go_enter func156,ntmps156;(go_wp2_with fail);refine S.mono ?_;rintro e d ⟨rfl,a⟩;rw[hgo];have l:=Ad f a;have DT:=Ip l (Z pre*3+2);have FA:d.cell? ⟨g,Z pre*3+2,Y⟩=V (O m.text):=by
     have CL:=(f.lt g rfl).2;rw[World.cell?_of_block (w:=w) (a.block g CL (by simp))];exact u
    have D:Below B w d:=⟨a.os,a.tape,a.output,a.size,λk hk=>a.block k (by omega) (by simp)⟩;clear I C u M a hgo;have CW:=ZX r;have EX:=E.2;go_wp2;go_ret;rw[Aa j,Aa G,mK rfl];refine⟨_,rfl,?_,D.setCell (f.lt g rfl).1 _⟩;have h:=BN l (Z pre*3+2) (O (m.text++Utf8.encode r));rw[ev]at h;simpa using h
   |false=>
    have G:=Ab hgo;go_enter func156,ntmps156;(go_wp2_with fail);refine S.mono ?_;rintro e d ⟨rfl,a⟩;rw[hgo];have l:=Ad f a;have D:Below B w d:=⟨a.os,a.tape,a.output,a.size,λk hk=>a.block k (by omega) (by simp)⟩;have EY:=a.size;clear I C u M a hgo;(go_wp2_with fail);refine(KT r d).mono ?_;rintro e w2 ⟨rfl,R⟩;rw[R];clear R w2;go_wp2_with (at_builtin;refine mZ _ rfl (.tmp 40) (.tmp 47) _ rfl B 206 i0 _ 3 32 underlying200 A0 N Ax AH rfl (by omega) (U (V ⟨g,0,Y⟩) (Z pre+1) W) (Z pre+1) ((pre++[m]).flatMap Bu) rfl (mE l _) ⟨d.heap.size,0,Y⟩ 1 1 (Bu (CR place r)) rfl rfl (mW (m7 d _)) (by simp[Value.oneCell',Bu]) (by omega) (by unfold maxLen;omega) (by omega) (by simp;omega) (d.heap.size+1) (by simp) ?_;intro g1 BT w3 F n x o)
    have H:Below B w w3:=(D.alloc (by omega) _).grown n (by simp;omega) (λq A=>(l.lt q A).1);clear n x o;go_wp2;go_ret;rw[Aa j,Aa G,mJ (by simp)];refine⟨_,rfl,?_,H⟩;simpa using F
structure AJ where
 v:UInt8
 s:zA
def AQ(t:AJ):rc ml:=[X .u8 t.v.toNat,O t.s]
def Az(s:zA)(at_:Nat)(bad:Bool):AJ×Nat×Bool:=
 if bad then(⟨0,q9⟩,at_,jj)else
 if h:Ae s at_<s.size then
  if Dx s[Ae s at_] then(⟨s[Ae s at_],q9⟩,Ae s at_+1,K)
  else if !Ap s[Ae s at_] then(⟨0,(AY s (Ae s at_) K).1⟩,(AY s (Ae s at_) K).2)
  else if 3<AK Ap s (Ae s at_)-Ae s at_\/(s[Ae s at_]=48/\1<AK Ap s (Ae s at_)-Ae s at_)then(⟨0,q9⟩,Ae s at_,jj)
  else(⟨0,s.extract (Ae s at_) (AK Ap s (Ae s at_))⟩,AK Ap s (Ae s at_),K)
 else(⟨0,q9⟩,Ae s at_,jj)
set_option maxRecDepth 512
theorem eD(b:Nat)(s:zA)(c:Nat)(w:ly)(m:s.size<=1000000)(n:c<=s.size)(f:AI w b (B7 s c jj) 73):
  Calls prog 127 #[j3 (V ⟨b,0,Y⟩)] w λe g=>e=kt (oj #[X .u8 0,O q9])/\AI g b (B7 s c jj) 73/\Ac [b] w g:=by
 have q:=f.lt;go_enter func127,ntmps127;go_wp2_with fail
 refine(D6 b s c jj _ m n (f.alloc _)).mono ?_;rintro e p ⟨rfl,a,h⟩;rw[Md]at a;clear f;have d:=(rf w _ _).kept h (by simp;omega);have k:=d.cell 0;have l:=d.cell 1;have t:=d.frozen;have i:=a.cell 0;have o:=a.cell 1;have j:=a.cell 2;have r:=a.frozen 2;simp[B7]at i o j k l;go_wp2
 go_quiet (fail)
 go_wp2;refine m5 (Cj rfl rfl ((((d.drewN _).zB _ (by simp;omega) _).set 0 _).set 1 _) underlying93 rfl (by kernel_rfl)) rfl ⟨rfl,?_,?_⟩
 .exact(((a.drewN _).set 2 _).zB _ (by simp;omega) _).zB _ (by simp;omega) _
 .exact(((((re _ _).alloc _).trans h).drewN _).setCell (by simp) _|>.setCell (by simp) _).setCell (by simp) _
theorem eP(b:Nat)(s:zA)(a j:Nat)(w:ly)(r:s.size<=1000000)(k:a<=s.size)(f:Ae s a=j)(x:¬j<s.size)(g:AI w b (B7 s a K) 73):
  Calls prog 127 #[j3 (V ⟨b,0,Y⟩)] w λe h=>e=kt (oj #[X .u8 0,O q9])/\AI h b (B7 s j jj) 73/\Ac [b] w h:=by
 have z:=g.lt;have o:=Bp s a k;rw[f]at o;have i:nc (Ae s a=j):=f;clear f;go_enter func127,ntmps127;go_wp2_with fail
 refine(D6 b s a K _ r k (g.alloc _)).mono ?_;rintro e v ⟨rfl,c,l⟩;rw[show AF s a K=j from i.out]at c
 clear g i;have d:=(rf w _ _).kept l (by simp;omega);have n:=d.cell 0;have q:=d.cell 1;have y:=d.frozen;have m:=c.cell 0;have t:=c.cell 1;have p:=c.cell 2;have B:=c.frozen 1;have A:=c.frozen 2;simp[B7]at m t p n q;have u:decide ((s.size:Int)<=(j:Int))=jj:=by simp;omega
 go_wp2
 go_quiet (fail)
 go_wp2;refine m5 (Cj rfl rfl ((((d.drewN _).zB _ (by simp;omega) _).set 0 _).set 1 _) underlying93 rfl (by kernel_rfl)) rfl ⟨rfl,?_,?_⟩
 .exact(((c.drewN _).set 2 _).zB _ (by simp;omega) _).zB _ (by simp;omega) _
 .exact(((((re _ _).alloc _).trans l).drewN _).setCell (by simp) _|>.setCell (by simp) _).setCell (by simp) _
theorem YH(b:Nat)(s:zA)(a j:Nat)(w:ly)(t:s.size<=1000000)(k:a<=s.size)(f:Ae s a=j)(y:j<s.size)(q:Dx s[j]=jj)(g:AI w b (B7 s a K) 73):
  Calls prog 127 #[j3 (V ⟨b,0,Y⟩)] w λe h=>e=kt (oj #[X .u8 s[j].toNat,O q9])/\AI h b (B7 s (j+1) K) 73/\Ac [b] w h:=by
 have B:=g.lt;have o:=Bp s a k;rw[f]at o;have i:nc (Ae s a=j):=f;clear f;go_enter func127,ntmps127;go_wp2_with fail
 refine(D6 b s a K _ t k (g.alloc _)).mono ?_;rintro e x ⟨rfl,c,l⟩;rw[show AF s a K=j from i.out]at c
 clear g i;have d:=(rf w _ _).kept l (by simp;omega);have n:=d.cell 0;have r:=d.cell 1;have A:=d.frozen;have m:=c.cell 0;have u:=c.cell 1;have p:=c.cell 2;have D:=c.frozen 1;have C:=c.frozen 2;simp[B7]at m u p n r;have v:decide ((s.size:Int)<=(j:Int))=K:=by simp;omega
 have z:(j:Int)<(s.size:Int):=by omega
 go_wp2
 go_quiet (fail)
 go_wp2
 go_quiet (fail)
 go_wp2_with (go_at_call 170;refine(Pf _ s[j] _ rfl).mono ?_;rintro e E ⟨rfl,rfl⟩;rw[q])
 refine m5 (Cj rfl rfl ((((d.drewN _).zB _ (by simp;omega) _).set 0 _).set 1 _) underlying93 rfl (by kernel_rfl)) rfl ⟨rfl,?_,?_⟩
 .exact(((c.drewN _).set 1 _).zB _ (by simp;omega) _).zB _ (by simp;omega) _
 .exact(((((re _ _).alloc _).trans l).drewN _).setCell (by simp) _|>.setCell (by simp) _).setCell (by simp) _
theorem dx(b:Nat)(s:zA)(a j:Nat)(w:ly)(t:s.size<=1000000)(n:a<=s.size)(g:Ae s a=j)(L:j<s.size)(D:Dx s[j]=K)(y:Ap s[j]=K)(h:AI w b (B7 s a K) 73):
  Calls prog 127 #[j3 (V ⟨b,0,Y⟩)] w λe i=>e=kt (oj #[X .u8 0,O (AY s j K).1])/\AI i b (B7 s (AY s j K).2.1 (AY s j K).2.2) 73/\Ac [b] w i:=by
 have P:=h.lt;have A:=Bp s a n;rw[g]at A;have k:nc (Ae s a=j):=g;clear g;go_enter func127,ntmps127;go_wp2_with fail
 refine(D6 b s a K _ t n (h.alloc _)).mono ?_;rintro e I ⟨rfl,c,o⟩;rw[show AF s a K=j from k.out]at c
 clear h k;have f:=(rf w _ _).kept o (by simp;omega);have m:=f.cell 0;have r:=f.cell 1;have z:=f.frozen;have l:=c.cell 0;have v:=c.cell 1;have q:=c.cell 2;have G:=c.frozen 1;have F:=c.frozen 2;simp[B7]at l v q m r;have H:decide ((s.size:Int)<=(j:Int))=K:=by simp;omega
 have N:(j:Int)<(s.size:Int):=by omega
 have Q:∀(x:Bool) (w:ly),(Op.unary .not (q8 x)).run prog w=.ok (q8 (!x)) w:=λ_ _=>rfl
 go_wp2
 go_quiet (fail)
 go_wp2
 go_quiet (fail)
 go_wp2_with (first|(go_at_call 170;refine(Pf _ s[j] _ rfl).mono ?_;rintro e u ⟨rfl,rfl⟩;rw[D])|(go_at_call 55;refine(CO _ s[j] _ rfl).mono ?_;rintro e u ⟨rfl,rfl⟩;rw[y]))
 refine(OD b s j K _ t (by omega) (c.drewN _)).mono ?_;rintro e u ⟨rfl,E,p⟩;have d:=(f.drewN _).kept p (by simp;omega);have B:=d.cell 0;have C:=d.cell 1;have M:=d.frozen;simp at B C;clear z m r G F l v q;go_wp2;refine m5 (Cj rfl rfl ((d.set 0 _).set 1 _) underlying93 rfl (by kernel_rfl)) rfl ⟨rfl,?_,?_⟩
 .exact(E.zB _ (by simp;omega) _).zB _ (by simp;omega) _
 .exact(((((re _ _).alloc _).trans o).drewN _).trans p|>.setCell (by simp) _).setCell (by simp) _
def Hp(s:zA)(j k:Nat):AJ×Nat×Bool:=
 if 3<k-j\/(DM s j 48=jj/\1<k-j)then(⟨0,q9⟩,j,jj)else(⟨0,s.extract j k⟩,k,K)
def P4(h:(3:Int)<((k-j:Nat):Int)):Hp s j k=(⟨0,q9⟩,j,jj):=by
 unfold Hp;rw[mK (by omega)]
def aM(a:j<s.size)(c:UInt8):DM s j c=jj↔(s[j].toNat:Int)=c.toNat:=by
 unfold DM;simp only[a,dite_true,oI];constructor
 .intro h;rw[h]
 .intro h;exact oE.1 (by omega)
def PP(b:j<s.size)(h:(s[j].toNat:Int)=48)(a:(3:Int)<((k-j:Nat):Int)\/(1:Int)<((k-j:Nat):Int)):Hp s j k=(⟨0,q9⟩,j,jj):=by
 unfold Hp;rw[mK (by rcases a with a|a;exact lo (by omega);exact lx ⟨(aM b 48).2 h,by omega⟩)]
def R0(h:((k-j:Nat):Int)<=3)(a:((k-j:Nat):Int)<=1):Hp s j k=(⟨0,s.extract j k⟩,k,K):=by
 unfold Hp;rw[mJ (by omega)]
def Rc(b:j<s.size)(h:¬(s[j].toNat:Int)=48)(c:((k-j:Nat):Int)<=3):Hp s j k=(⟨0,s.extract j k⟩,k,K):=by
 unfold Hp;rw[mJ (by rintro (a|⟨a,_⟩);omega;exact h ((aM b 48).1 a))]
theorem WE(b:Nat)(s:zA)(g j:Nat)(w:ly)(R:AJ×Nat×Bool)(N:s.size<=1000000)(z:g<=s.size)(q:Ae s g=j)(h:j<s.size)(I:Dx s[j]=K)(y:Ap s[j]=jj)
  (p:nc (R=Hp s j (AK Ap s j)))
  (r:AI w b (B7 s g K) 73):
  Calls prog 127 #[j3 (V ⟨b,0,Y⟩)] w λe u=>e=kt (oj (j2 (AQ R.1)))/\AI u b (B7 s R.2.1 R.2.2) 73/\Ac [b] w u:=by
 have AO:=r.lt;have A:=Bp s g z;rw[q]at A;have v:nc (Ae s g=j):=q;clear q;go_enter func127,ntmps127;go_wp2_with fail
 refine(D6 b s g K _ N z (r.alloc _)).mono ?_;rintro e S ⟨rfl,a,d⟩;rw[show AF s g K=j from v.out]at a
 clear r v;have c:=(rf w _ _).kept d (by simp;omega);have E:=c.cell 0;have M:=c.cell 1;have AB:=c.frozen;have D:=a.cell 0;have G:=a.cell 1;have H:=a.cell 2;have A1:=a.frozen 1;have A0:=a.frozen 2;simp[B7]at D G H E M;have Q:decide ((s.size:Int)<=(j:Int))=K:=by simp;omega
 have Ax:(j:Int)<(s.size:Int):=by omega
 have AR:∀(x:Bool) (w:ly),(Op.unary .not (q8 x)).run prog w=.ok (q8 (!x)) w:=λ_ _=>rfl
 go_wp2
 go_quiet (fail)
 go_wp2
 go_quiet (fail)
 go_wp2_with (first|(go_at_call 170;refine(Pf _ s[j] _ rfl).mono ?_;rintro e t ⟨rfl,rfl⟩;rw[I])|(go_at_call 55;refine(CO _ s[j] _ rfl).mono ?_;rintro e t ⟨rfl,rfl⟩;rw[y]))
 go_loop [4] (λi=>∃k:Nat,i=X J k/\j<=k/\k<=s.size/\AK Ap s k=AK Ap s j) (λi=>s.size-(intOf i).toNat)
 case atStart=>exact⟨j,rfl,mP _,A,rfl⟩
 case round=>
  obtain⟨k,rfl,W,AH,B⟩:=hrel;have m:nc (AK Ap s k=AK Ap s j):=B;clear B;have A2:(j:Int)<=(k:Int):=by omega
  have T:(k:Int)<=(s.size:Int):=by omega
  have l:nc (AK Ap s k=k->R=Hp s j k):=by
   intro P;(have F:AK Ap s j=k:=by rw[<-m.out];exact P);rw[p.out,F]
  by_cases o:k<s.size
  ·(have AT:(k:Int)<(s.size:Int):=by omega);by_cases n:Ap s[k]=jj
   ·(have L:nc (AK Ap s (k+1)=AK Ap s j):=by show _=_;rw[<-Co Ap s k o n];exact m.out);clear y;go_wp2_with (go_at_call 55;refine(CO _ s[k] _ rfl).mono ?_;rintro e t ⟨rfl,rfl⟩;rw[n])
    go_round
    case rel=>exact⟨k+1,by go_num,by omega,by omega,L.out⟩
    case measure=>simp[intOf];omega
   ·(have C:Ap s[k]=K:=by simpa using n);have f:nc (R=Hp s j k):=l.out (EN Ap s k o C);clear n l p m;go_wp2_with (go_at_call 55;refine(CO _ s[k] _ rfl).mono ?_;rintro e t ⟨rfl,rfl⟩;rw[C])
    go_quiet (fail)
    go_wp2
    .rw[f.out,PP h (by assumption) (by assumption)];refine m5 (Cj rfl rfl ((((c.drewN _).zB _ (by simp;omega) _).set 0 _).set 1 _) underlying93 rfl (by kernel_rfl)) rfl ⟨rfl,?_,?_⟩
     .exact(((a.drewN _).set 2 _).zB _ (by simp;omega) _).zB _ (by simp;omega) _
     .exact(((((re _ _).alloc _).trans d).drewN _).setCell (by simp) _|>.setCell (by simp) _).setCell (by simp) _
    .rw[f.out,R0 (by omega) (by omega)];refine m5 (Cj rfl rfl ((((c.drewN _).zB _ (by simp;omega) _).set 0 _).set 1 _) underlying93 rfl (by kernel_rfl)) rfl ⟨rfl,?_,?_⟩
     .exact(((a.drewN _).set 1 _).zB _ (by simp;omega) _).zB _ (by simp;omega) _
     .exact(((((re _ _).alloc _).trans d).drewN _).setCell (by simp) _|>.setCell (by simp) _).setCell (by simp) _
    .rw[f.out,Rc h (by assumption) (by omega)];refine m5 (Cj rfl rfl ((((c.drewN _).zB _ (by simp;omega) _).set 0 _).set 1 _) underlying93 rfl (by kernel_rfl)) rfl ⟨rfl,?_,?_⟩
     .exact(((a.drewN _).set 1 _).zB _ (by simp;omega) _).zB _ (by simp;omega) _
     .exact(((((re _ _).alloc _).trans d).drewN _).setCell (by simp) _|>.setCell (by simp) _).setCell (by simp) _
    .rw[f.out,P4 (by omega)];refine m5 (Cj rfl rfl ((((c.drewN _).zB _ (by simp;omega) _).set 0 _).set 1 _) underlying93 rfl (by kernel_rfl)) rfl ⟨rfl,?_,?_⟩
     .exact(((a.drewN _).set 2 _).zB _ (by simp;omega) _).zB _ (by simp;omega) _
     .exact(((((re _ _).alloc _).trans d).drewN _).setCell (by simp) _|>.setCell (by simp) _).setCell (by simp) _
  .have f:nc (R=Hp s j k):=l.out (GU Ap s k o);clear l p m;go_wp2
   go_quiet (fail)
   go_wp2
   .rw[f.out,PP h (by assumption) (by assumption)];refine m5 (Cj rfl rfl ((((c.drewN _).zB _ (by simp;omega) _).set 0 _).set 1 _) underlying93 rfl (by kernel_rfl)) rfl ⟨rfl,?_,?_⟩
    .exact(((a.drewN _).set 2 _).zB _ (by simp;omega) _).zB _ (by simp;omega) _
    .exact(((((re _ _).alloc _).trans d).drewN _).setCell (by simp) _|>.setCell (by simp) _).setCell (by simp) _
   .rw[f.out,R0 (by omega) (by omega)];refine m5 (Cj rfl rfl ((((c.drewN _).zB _ (by simp;omega) _).set 0 _).set 1 _) underlying93 rfl (by kernel_rfl)) rfl ⟨rfl,?_,?_⟩
    .exact(((a.drewN _).set 1 _).zB _ (by simp;omega) _).zB _ (by simp;omega) _
    .exact(((((re _ _).alloc _).trans d).drewN _).setCell (by simp) _|>.setCell (by simp) _).setCell (by simp) _
   .rw[f.out,Rc h (by assumption) (by omega)];refine m5 (Cj rfl rfl ((((c.drewN _).zB _ (by simp;omega) _).set 0 _).set 1 _) underlying93 rfl (by kernel_rfl)) rfl ⟨rfl,?_,?_⟩
    .exact(((a.drewN _).set 1 _).zB _ (by simp;omega) _).zB _ (by simp;omega) _
    .exact(((((re _ _).alloc _).trans d).drewN _).setCell (by simp) _|>.setCell (by simp) _).setCell (by simp) _
   .rw[f.out,P4 (by omega)];refine m5 (Cj rfl rfl ((((c.drewN _).zB _ (by simp;omega) _).set 0 _).set 1 _) underlying93 rfl (by kernel_rfl)) rfl ⟨rfl,?_,?_⟩
    .exact(((a.drewN _).set 2 _).zB _ (by simp;omega) _).zB _ (by simp;omega) _
    .exact(((((re _ _).alloc _).trans d).drewN _).setCell (by simp) _|>.setCell (by simp) _).setCell (by simp) _
def Sy(b:Nat)(s:zA)(a:Nat)(i:Bool)(w:ly)(g:s.size<=1000000)(h:a<=s.size)(f:AI w b (B7 s a i) 73):
  Calls prog 127 #[j3 (V ⟨b,0,Y⟩)] w λe k=>e=kt (oj (j2 (AQ (Az s a i).1)))/\AI k b (B7 s (Az s a i).2.1 (Az s a i).2.2) 73/\Ac [b] w k:=by
 cases i with
 |true=>exact eD b s a w g h f
 |false=>
  obtain⟨j,d⟩:=rd (Ae s a);by_cases c:j<s.size
  .cases hu:Dx s[j] with
   |true=>
    (have e:Az s a K=(⟨s[j],q9⟩,j+1,K):=by unfold Az;subst d;simp[c,hu]);rw[e];exact YH b s a j w g h d c hu f
   |false=>
    cases hd:Ap s[j] with
    |false=>
     (have e:Az s a K=(⟨0,(AY s j K).1⟩,(AY s j K).2):=by unfold Az;subst d;simp[c,hu,hd]);rw[e];exact dx b s a j w g h d c hu hd f
    |true=>
     refine WE b s a j w _ g h d c hu hd ?_ f;show _=_;unfold Az Hp DM;subst d;simp[c,hu,hd]
  ·(have e:Az s a K=(⟨0,q9⟩,j,jj):=by unfold Az;subst d;simp[c]);rw[e];exact eP b s a j w g h d c f
end Go.Proofs.YtoihbhenbmffcaaGreatDoor
namespace Go.Proofs.YtoihbhenbmffcaaGreatDoor
open Go.RowKit Go.Proofs.Tryz
structure G1(F:Type) where
 pos:rc F
 neg:rc F
 head:F
section
variable {F:Type} (I:G1 F->Prop) (zS:F->Nat)
structure MV:Prop where
 pos:∀i,I i->∀g∈i.pos,zS g<=zS i.head
 neg:∀i,I i->∀g∈i.neg,zS g<zS i.head
def Ld(i:G1 F)(P N:F->Prop):Prop:=(∀g∈i.pos,P g)/\∀g∈i.neg,¬N g
def Na(M:F->Prop):Prop:=∀i,I i->Ld i M M->M i.head
def KZ(M:F->Prop)(n:Nat):Prop:=∀S:F->Prop,(∀f,M f->zS f<n->S f)->(∀i,I i->zS i.head=n->Ld i S M->S i.head)->∀f,M f->zS f=n->S f
def Pm(l:MV I zS){M N:F->Prop}(d:Na I N)(k:∀n,KZ I zS M n):∀n,(∀f,zS f<n->(M f↔N f))->∀f,M f->zS f=n->N f:=by
 intro n ih f e m;refine k n N (λg a j=>(ih g j).1 a) (λi c o b=>?_) f e m;refine d i c ⟨b.1,λg a h=>b.2 g a ?_⟩;exact(ih g (by have:=l.neg i c g a;omega)).2 h
structure Ej(n:Nat)(s:F->Prop):Prop where
 top:∀f,s f->zS f<=n
 closed:∀i,I i->zS i.head<n->Ld i s s->s i.head
 least:∀m,m<=n->KZ I zS s m
def Ej.start:Ej I zS 0 (λ_=>False):=
 ⟨λf h=>h.elim,λi _ h=>by omega,λm _ S _ _ f h=>h.elim⟩
def Ej.step(p:MV I zS){n:Nat}{s:F->Prop}(h:Ej I zS n s){i:G1 F}(q:I i)(k:zS i.head=n)(l:Ld i s s):Ej I zS n (λf=>s f\/f=i.head):=by
 have r:∀j,I j->zS j.head<=n->((∀g∈j.neg,¬(s g\/g=i.head))↔∀g∈j.neg,¬s g):=by
  intro j d v;constructor
  .intro o g a c;exact o g a (lo c)
  .intro o g a c;rcases c with c|c
   .exact o g a c
   .have:=p.neg j d g a;rw[c,k]at this;omega
 refine⟨λf b=>?_,λj d v e=>?_,λm D S t w f b y=>?_⟩
 .rcases b with b|b
  .exact h.top f b
  .rw[b,k];omega
 .refine lo (h.closed j d v ⟨λg a=>?_,(r j d (by omega)).1 e.2⟩);rcases e.1 g a with c|c
  .exact c
  .have:=p.pos j d g a;rw[c,k]at this;omega
 .have u:∀g,s g->zS g=m->S g:=λg a E=>h.least m D S (λx C z=>t x (lo C) z) (λj d B e=>w j d B ⟨e.1,(r j d (by omega)).2 e.2⟩) g a E
  rcases b with b|b
  .exact u f b y
  .subst b;(have A:m=n:=by omega);subst A;refine w i q k ⟨λg a=>?_,(r i q (by omega)).2 l.2⟩;by_cases G:zS g<zS i.head
   .exact t g (lo (l.1 g a)) (by omega)
   .exact u g (l.1 g a) (by have:=p.pos i q g a;omega)
def Ej.next{n:Nat}{s:F->Prop}(h:Ej I zS n s)(g:∀i,I i->zS i.head=n->Ld i s s->s i.head):Ej I zS (n+1) s:=by
 refine⟨λf a=>by have:=h.top f a;omega,λi c l b=>?_,λm k=>?_⟩
 .by_cases d:zS i.head=n
  .exact g i c d b
  .exact h.closed i c (by omega) b
 .by_cases e:m<=n
  .exact h.least m e
  .intro S _ _ f a j;have:=h.top f a;omega
def Ej.done{n:Nat}{s:F->Prop}(h:Ej I zS n s)(e:∀i,I i->zS i.head<n):Na I s/\∀m,KZ I zS s m:=by
 refine⟨λi a d=>h.closed i a (e i a) d,λm=>?_⟩;by_cases b:m<=n
 .exact h.least m b
 .intro S _ _ f c g;have:=h.top f c;omega
def Ej.cong{n:Nat}{s t:F->Prop}(h:Ej I zS n s)(e:∀f,s f↔t f):Ej I zS n t:=by
 have:s=t:=funext λf=>propext (e f)
 rw[<-this];exact h
end
def cY{F:Type}(I:G1 F->Prop)(a c:F->Nat)(e:MV I a)(A:MV I c){M N:F->Prop}(r:Na I M)(w:∀n,KZ I a M n)(t:Na I N)(q:∀n,KZ I c N n):∀f,M f↔N f:=by
 have s:∀n f,a f<n->(M f↔N f):=by
  intro n
  induction n with
  |zero=>intro f h;omega
  |succ n ih=>
   have y:∀k g,c g<k->N g->a g<=n->M g:=by
    intro k
    induction k with
    |zero=>intro g h;omega
    |succ k ihk=>
     intro g B p o;by_cases d:c g<k
     .exact ihk g d p o
     .refine q k (λx=>a x<=n->M x) (λf u v=>ihk f v u) (λi j C m D=>?_) g p (by omega) o;refine r i j ⟨λx b=>m.1 x b (by have:=e.pos i j x b;omega),λx b z=>m.2 x b ?_⟩;exact(ih x (by have:=e.neg i j x b;omega)).1 z
   intro f h;by_cases d:a f<n
   .exact ih f d
   .exact⟨λl=>Pm I a e t w n ih f l (by omega),λl=>y (c f+1) f (by omega) l (by omega)⟩
 intro f;exact s (a f+1) f (by omega)
end Go.Proofs.YtoihbhenbmffcaaGreatDoor
namespace Go.Proofs.YtoihbhenbmffcaaGreatDoor
open Go.RowKit Go.Proofs.Tryz
structure P6{α:Type}(lt:α->α->Bool)(eq:α->α->Bool):Prop where
 trans:∀a b c,lt a b=jj->lt b c=jj->lt a c=jj
 irr:∀a,lt a a=K
 tot:∀a b,lt a b=K->eq a b=K->lt b a=jj
 eqv:∀a b,eq a b=jj↔a=b
def C6{α:Type}(lt:α->α->Bool)(l:rc α):Prop:=∀i j (hi:i<Z l) (hj:j<Z l),i<j->lt l[i] l[j]=jj
structure Ez{α:Type}(lt:α->α->Bool)(l:rc α)(k:Nat)(x:α)(at_:Nat):Prop where
 ge:k<=at_
 le:at_<=Z l
 below:∀i (h:i<Z l),k<=i->i<at_->lt l[i] x=jj
 zj:∀i (h:i<Z l),at_<=i->lt l[i] x=K
section
variable {α:Type} {lt eq:α->α->Bool} {l:rc α}
def C6.down(o:P6 lt eq)(d:C6 lt l){i j:Nat}(b:j<Z l)(c:i<=j){x:α}(h:lt l[j] x=jj):lt (l[i]'(by omega)) x=jj:=by
 rcases pX c with a|a
 .exact o.trans _ _ _ (d i j (by omega) b a) h
 .subst a;exact h
def C6.up(o:P6 lt eq)(c:C6 lt l){i j:Nat}(a:j<Z l)(b:i<=j){x:α}(h:lt (l[i]'(by omega)) x=K):lt l[j] x=K:=by
 cases hh:lt l[j] x with
 |false=>rfl
 |true=>rw[c.down o a b hh]at h;cases h
def EQ(eq:α->α->Bool)(l:rc α)(at_:Nat)(x:α):Bool:=if h:at_<Z l then eq l[at_] x else K
def Ez.has(o:P6 lt eq)(j:C6 lt l){x:α}{a:Nat}(h:Ez lt l 0 x a):EQ eq l a x=jj↔x∈l:=by
 unfold EQ;constructor
 .intro e;split at e
  .rename_i b;have:=(o.eqv _ _).1 e;rw[<-this];exact mw b
  .cases e
 .intro m;obtain⟨i,f,c⟩:=nw m;have k:a<=i:=by
   by_cases g:i<a
   .have:=h.below i f (by omega) g;rw[c,o.irr]at this;cases this
   .omega
  have b:a<Z l:=by omega
  rw[dif_pos b];rcases pX k with d|d
  .have:=j a i b f d;rw[c]at this;rw[h.zj a b (mP _)]at this;cases this
  .subst d;rw[c];exact(o.eqv _ _).2 rfl
def Gt(l:rc α)(at_:Nat)(x:α):rc α:=l.take at_++x::l.drop at_
def Mp{at_:Nat}(h:at_<=Z l)(x:α):Z (Gt l at_ x)=Z l+1:=by
 simp[Gt];omega
def PF{a:Nat}(x y:α):y∈Gt l a x↔y=x\/y∈l:=by
 unfold Gt;rw[mF,mA];have:y∈l↔y∈l.take a\/y∈l.drop a:=by rw[<-mF,nO]
 rw[this];constructor
 .rintro (h|h|h)
  .exact lx (lo h)
  .exact lo h
  .exact lx (lx h)
 .rintro (h|h|h)
  .exact lx (lo h)
  .exact lo h
  .exact lx (lx h)
def SM:C6 lt l↔l.Pairwise (λa b=>lt a b=jj):=by
 unfold C6;rw[oT]
def Ez.zG(o:P6 lt eq)(g:C6 lt l){x:α}{c:Nat}(h:Ez lt l 0 x c)(m:EQ eq l c x=K):C6 lt (Gt l c x):=by
 rw[SM]at g⊢;have n:∀a∈l.take c,lt a x=jj:=by
  intro a f;obtain⟨i,k,d⟩:=nw f;simp only[nu]at k;rw[pP]at d;rw[<-d];exact h.below i (by omega) (by omega) (by omega)
 have q:∀b∈l.drop c,lt x b=jj:=by
  intro b e;obtain⟨i,k,d⟩:=nw e;simp only[nF]at k;rw[qm]at d;have j:c<Z l:=by omega
  have p:lt x l[c]=jj:=by
   apply o.tot _ _ (h.zj c j (mP _));unfold EQ at m;rw[dif_pos j]at m;exact m
  rw[<-d];by_cases r:i=0
  .subst r;simpa using p
  .exact o.trans _ _ _ p ((SM.2 g) c (c+i) j (by omega) (by omega))
 unfold Gt;rw[qq];refine⟨g.sublist (List.take_sublist _ _),?_,?_⟩
 .rw[oN];exact⟨q,g.sublist (List.drop_sublist _ _)⟩
 .intro a f b e;rcases mA.1 e with rfl|e
  .exact n a f
  .exact o.trans _ _ _ (n a f) (q b e)
def C6.nodup(o:P6 lt eq)(c:C6 lt l):l.Nodup:=by
 rw[SM]at c;exact c.imp (fun{a b} h e=>by subst e;rw[o.irr]at h;cases h)
end
def Hx(a b:zA):Bool:=qZ a.toList b.toList
def jF(a b:zA):Bool:=a.toList==b.toList
def Xk(a b:Int):Bool:=decide (a<b)
def kl(a b:Int):Bool:=a==b
def OB:∀a b c:rc UInt8,qZ a b=jj->qZ b c=jj->qZ a c=jj
 |a,b,[],_,h=>by cases b<;>simp[qZ]at h
 |[],b,_::_,_,_=>rfl
 |_::_,[],_::_,h,_=>by simp[qZ]at h
 |x::a,y::b,z::c,e,d=>by
  simp only[qZ,om,py,mV,oI]at e d⊢;rcases e with e|⟨rfl,e⟩
  .rcases d with d|⟨rfl,d⟩
   .exact lo (UInt8.lt_trans e d)
   .exact lo e
  .rcases d with d|⟨rfl,d⟩
   .exact lo d
   .exact lx ⟨rfl,OB a b c e d⟩
def Qu:∀a:rc UInt8,qZ a a=K
 |[]=>rfl
 |x::a=>by simp[qZ,Qu a]
def S5:∀a b:rc UInt8,qZ a b=K->(a==b)=K->qZ b a=jj
 |[],[],_,h=>by simp at h
 |[],_::_,h,_=>by simp[qZ]at h
 |_::_,[],_,_=>rfl
 |x::a,y::b,h,h2=>by
  simp only[qZ,om,py,mV,oI,pu,oF,Bool.and_eq_false_imp]at h⊢;by_cases c:x=y
  .subst c;refine lx ⟨rfl,S5 a b (h.2 rfl) ?_⟩;simpa using h2
  .left;have d:=h.1;rw[UInt8.lt_iff_toNat_lt]at d⊢;(have:x.toNat≠y.toNat:=λe=>c (oE.1 e));omega
def I7:P6 Hx jF:=
 ⟨λa b c=>OB _ _ _,λa=>Qu _,λa b=>S5 _ _,λa b=>by
  unfold jF
  simp only[oI]
  exact⟨λh=>by
   rw[ng,ng]at h
   exact ByteArray.ext (Array.toList_inj.1 h),λh=>by rw[h]⟩⟩
def YY:P6 Xk kl:=
 ⟨λa b c d e=>by simp[Xk]at*;omega,λa=>by simp[Xk],λa b d e=>by simp[Xk,kl]at*;omega,λa b=>by simp[kl]⟩
end Go.Proofs.YtoihbhenbmffcaaGreatDoor
namespace Go.Proofs.YtoihbhenbmffcaaGreatDoor
open Go.RowKit Go.Proofs.Tryz
variable{n j b:Nat}{w:ly}{y:rc ml}{T:TypeId}
theorem TK(S:(n=9/\j=165)\/(n=170/\j=149))(L:ml)(l:rc zA)(k:Nat)(x:zA)(P:Nat)(w:ly)(E:oi w P n 1 L (Z l) (l.flatMap Ai))(CC:Z l<=1000000)(Q:k<=Z l)(F:C6 Hx l):
  Calls prog j #[L,X J k,O x] w λe N=>∃z:Nat,e=kt (X J z)/\Ez Hx l k x z/\N=w:=by
 obtain⟨ad,T,rfl⟩:=Al E;have t:=Ab F;have D:nc (∀i (h:i<Z l),∃g,ad=V ⟨g,0,Y⟩/\Z l<=T/\w.cell? ⟨g,i,Y⟩=V (O l[i])):=by
  intro i H;obtain⟨g,BS,I,B,W⟩:=AC E (by simp[Ai]) i H;simp only[mu]at I;obtain⟨rfl,_,rfl⟩:=I;have A:=W i H 0 (by omega);simp[Ai]at A;exact⟨g,rfl,B,A⟩
 clear F;rcases S with⟨rfl,rfl⟩|⟨rfl,rfl⟩
 case' inl=>go_enter func165,ntmps165
 case' inr=>go_enter func149,ntmps149
 all_goals
  go_wp2
  go_loop [7,8] (λa s=>∃(b c:Nat),a=X J b/\s=X J c/\k<=b/\b<=Z l/\1<=c/\c<=2*Z l+1/\nc (∀i (h:i<Z l),k<=i->i<b->Hx l[i] x=jj)) (λa s=>Z l-(intOf a).toNat)
  case atStart=>exact⟨k,1,by go_num,rfl,mP _,Q,mP _,by omega,λi h q u=>by omega⟩
  case round=>
   obtain⟨b,c,rfl,rfl,C,BT,CL,ES,r⟩:=hrel;by_cases DT:b+c<=Z l
   case' pos=>
    obtain⟨g,M,B0,B⟩:=D (b+c-1) (by omega);(have A2:((b+c-1:Nat):Int)=(b:Int)+(c:Int)-1:=by omega);(have EX:((b:Int)+(c:Int)-1).toNat=b+c-1:=by omega);subst M;have A0:nc (Hx l[b+c-1] x=jj->∀i (h:i<Z l),k<=i->i<b+c->Hx l[i] x=jj):=by
     intro p i h q u;exact t.down I7 (by omega) (by omega) p
    have AR:nc (Hx l[b+c-1] x=K->∀i (h:i<Z l),b+c-1<=i->Hx l[i] x=K):=by
     intro p i h q;exact t.up I7 h q p
    go_wp2
    .refine⟨⟨b+c,c*2,by go_num,by go_num,by omega,by omega,by omega,by omega,A0 (by first|assumption|(simp[Hx];omega))⟩,?_⟩;simp[intOf];omega
    have y:nc (∀i (h:i<Z l),(b+c-1)<=i->Hx l[i] x=K):=AR (by first|assumption|(simp[Hx];omega))
   case' neg=>
    go_wp2;all_goals have AT:nc (∀i (h:i<Z l),Z l<=i->Hx l[i] x=K):=λi h p=>by omega
    all_goals have y:nc (∀i (h:i<Z l),(b+c-1)<=i->Hx l[i] x=K):=λi h p=>by omega
   all_goals
    go_loop [7,9,10] (λa h m=>∃(d o:Nat),a=X J d/\h=X J o/\k<=d/\d<=o/\o<=Z l/\nc (∀i (h:i<Z l),k<=i->i<d->Hx l[i] x=jj)/\nc (∀i (h:i<Z l),o<=i->Hx l[i] x=K)) (λa h m=>(intOf h).toNat-(intOf a).toNat)
    case atStart=>first|exact⟨b,(b+c-1),rfl,by go_num,C,by omega,by omega,r,y⟩|exact⟨b,Z l,rfl,by go_num,C,by omega,by omega,r,AT⟩
    case round=>
     clear r y;obtain⟨d,o,rfl,rfl,q,u,h3,r,G⟩:=hrel;by_cases Bx:d<o
     .obtain⟨f,EY⟩:=rd (d+(o-d)/2);(have B2:d<=f:=by omega);(have B9:f<o:=by omega);(have AH:(d:Int)+((o:Int)-(d:Int))/2=(f:Int):=by omega);(have CW:(d:Int)+((o:Int)-(d:Int)).tdiv 2=(f:Int):=by rw[Int.tdiv_eq_ediv_of_nonneg (by omega)];exact AH);obtain⟨g9,v,EM,EK⟩:=D f (by omega);have R:nc (Hx l[f] x=jj->∀i (h:i<Z l),k<=i->i<f+1->Hx l[i] x=jj):=by
       intro p i h q u;exact t.down I7 (by omega) (by omega) p
      have AB:nc (Hx l[f] x=K->∀i (h:i<Z l),f<=i->Hx l[i] x=K):=by
       intro p i h q;exact t.up I7 h q p
      first|subst v|(simp only[mB,nr,and_true]at v;subst v)
      go_wp2
      .refine⟨⟨f+1,o,by go_num,rfl,by omega,by omega,h3,R (by first|assumption|(simp[Hx];omega)),G⟩,?_⟩;simp[intOf];omega
      .refine⟨⟨d,f,rfl,by go_num,q,by omega,by omega,r,AB (by first|assumption|(simp[Hx];omega))⟩,?_⟩;simp[intOf];omega
     .have HE:nc (Ez Hx l k x d):=⟨q,by omega,r,λi h p=>G i h (by omega)⟩;go_wp2;go_ret;exact⟨d,rfl,HE,rfl⟩
def TN(a:ml)(l:rc zA)(k:Nat)(x:zA)(c:Nat)(w:ly)(g:oi w c 9 1 a (Z l) (l.flatMap Ai))(i:Z l<=1000000)(d:k<=Z l)(h:C6 Hx l):
  Calls prog 165 #[a,X J k,O x] w λe f=>∃b:Nat,e=kt (X J b)/\Ez Hx l k x b/\f=w:=
 TK (lo ⟨rfl,rfl⟩) a l k x c w g i d h
def AX(x:Int):rc ml:=[X .i32 x]
theorem TO(H:ml)(l:rc Int)(k:Nat)(x:Int)(M:Nat)(w:ly)(C:oi w M 21 1 H (Z l) (l.flatMap AX))(B0:Z l<=1000000)(N:k<=Z l)(D:C6 Xk l):
  Calls prog 219 #[H,X J k,X .i32 x] w λe L=>∃v:Nat,e=kt (X J v)/\Ez Xk l k x v/\L=w:=by
 obtain⟨S,Q,rfl⟩:=Al C;have q:=Ab D;have B:nc (∀i (h:i<Z l),∃g,S=V ⟨g,0,Y⟩/\Z l<=Q/\w.cell? ⟨g,i,Y⟩=V (X .i32 l[i])):=by
  intro i F;obtain⟨g,A2,G,z,R⟩:=AC C (by simp[AX]) i F;simp only[mu]at G;obtain⟨rfl,_,rfl⟩:=G;have y:=R i F 0 (by omega);simp[AX]at y;exact⟨g,rfl,z,y⟩
 clear D;go_enter func219,ntmps219;go_wp2
 go_loop [7,8] (λa s=>∃(b c:Nat),a=X J b/\s=X J c/\k<=b/\b<=Z l/\1<=c/\c<=2*Z l+1/\nc (∀i (h:i<Z l),k<=i->i<b->Xk l[i] x=jj)) (λa s=>Z l-(intOf a).toNat)
 case atStart=>exact⟨k,1,by go_num,rfl,mP _,N,mP _,by omega,λi h o r=>by omega⟩
 case round=>
  obtain⟨b,c,rfl,rfl,A,Bx,B2,DT,p⟩:=hrel;by_cases CC:b+c<=Z l
  case' pos=>
   obtain⟨g,I,BA,z⟩:=B (b+c-1) (by omega);(have AT:((b+c-1:Nat):Int)=(b:Int)+(c:Int)-1:=by omega);(have EK:((b:Int)+(c:Int)-1).toNat=b+c-1:=by omega);subst I;have AO:nc (Xk l[b+c-1] x=jj->∀i (h:i<Z l),k<=i->i<b+c->Xk l[i] x=jj):=by
    intro n i h o r;exact q.down YY (by omega) (by omega) n
   have AB:nc (Xk l[b+c-1] x=K->∀i (h:i<Z l),b+c-1<=i->Xk l[i] x=K):=by
    intro n i h o;exact q.up YY h o n
   go_wp2
   .refine⟨⟨b+c,c*2,by go_num,by go_num,by omega,by omega,by omega,by omega,AO (by first|assumption|(simp[Xk];omega))⟩,?_⟩;simp[intOf];omega
   have u:nc (∀i (h:i<Z l),(b+c-1)<=i->Xk l[i] x=K):=AB (by first|assumption|(simp[Xk];omega))
  case' neg=>
   go_wp2;all_goals have AH:nc (∀i (h:i<Z l),Z l<=i->Xk l[i] x=K):=λi h n=>by omega
   all_goals have u:nc (∀i (h:i<Z l),(b+c-1)<=i->Xk l[i] x=K):=λi h n=>by omega
  all_goals
   go_loop [7,9,10] (λa h m=>∃(d j:Nat),a=X J d/\h=X J j/\k<=d/\d<=j/\j<=Z l/\nc (∀i (h:i<Z l),k<=i->i<d->Xk l[i] x=jj)/\nc (∀i (h:i<Z l),j<=i->Xk l[i] x=K)) (λa h m=>(intOf h).toNat-(intOf a).toNat)
   case atStart=>first|exact⟨b,(b+c-1),rfl,by go_num,A,by omega,by omega,p,u⟩|exact⟨b,Z l,rfl,by go_num,A,by omega,by omega,p,AH⟩
   case round=>
    clear p u;obtain⟨d,j,rfl,rfl,o,r,h3,p,E⟩:=hrel;by_cases A0:d<j
    .obtain⟨f,EM⟩:=rd (d+(j-d)/2);(have BS:d<=f:=by omega);(have BT:f<j:=by omega);(have W:(d:Int)+((j:Int)-(d:Int))/2=(f:Int):=by omega);(have B9:(d:Int)+((j:Int)-(d:Int)).tdiv 2=(f:Int):=by rw[Int.tdiv_eq_ediv_of_nonneg (by omega)];exact W);obtain⟨g9,t,CW,CL⟩:=B f (by omega);have P:nc (Xk l[f] x=jj->∀i (h:i<Z l),k<=i->i<f+1->Xk l[i] x=jj):=by
      intro n i h o r;exact q.down YY (by omega) (by omega) n
     have T:nc (Xk l[f] x=K->∀i (h:i<Z l),f<=i->Xk l[i] x=K):=by
      intro n i h o;exact q.up YY h o n
     first|subst t|(simp only[mB,nr,and_true]at t;subst t)
     go_wp2
     .refine⟨⟨f+1,j,by go_num,rfl,by omega,by omega,h3,P (by first|assumption|(simp[Xk];omega)),E⟩,?_⟩;simp[intOf];omega
     .refine⟨⟨d,f,rfl,by go_num,o,by omega,by omega,p,T (by first|assumption|(simp[Xk];omega))⟩,?_⟩;simp[intOf];omega
    .have HE:nc (Ez Xk l k x d):=⟨o,by omega,p,λi h n=>E i h (by omega)⟩;go_wp2;go_ret;exact⟨d,rfl,HE,rfl⟩
theorem Tryz.zI:(Tryz.prog.info? 243).map (·.size)=V 26:=by kernel_rfl
theorem Tryz.zJ:(Tryz.prog.info? 90).map (·.size)=V 26:=by kernel_rfl
def World.zc(b:Nat)(t:TypeId):∀(a:rc ml) (o:Nat) (w:ly) (c:rc ml),AI w b c t->o+Z a<=Z c->AI (w.setCells b o a) b (c.take o++a++c.drop (o+Z a)) t
 |[],o,w,c,h,hl=>by
  simp only[m8,qk,np,nO];exact h
 |v::a,o,w,c,h,hl=>by
  simp only[mL]at hl;have ih:=World.zc b t a (o+1) (w.setCell ⟨b,o,Y⟩ v) (c.set o v) (h.set o v) (by simp;omega);have e:(c.set o v).take (o+1)++a++(c.set o v).drop (o+1+Z a)=c.take o++v::a++c.drop (o+Z (v::a)):=by
   rw[List.drop_set,mK (by omega),mx (by simp;omega),List.getElem_set_self,List.take_set,List.set_eq_of_length_le (by simp;omega)];simp only[mL,nA,qP,ot,nM];rw[show o+1+Z a=o+(Z a+1) by omega]
  rw[e]at ih;exact ih
def AI.zQ(h:AI w b y T)(a:rc ml)(c:Z a=Z y):AI (w.setCells b 0 a) b a T:=by
 have:=World.zc b T a 0 w y h (by omega);rw[nE,c,List.drop_length]at this;simpa using this
def Ac.zK{M:rc Nat}{a w:ly}(h:Ac M a w){b:Nat}(d:b∈M\/a.heap.size<=b):∀(c:rc ml) (o:Nat),Ac M a (w.setCells b o c)
 |[],_=>h
 |v::c,o=>(h.setCell (p:=⟨b,o,Y⟩) d v).zK d c (o+1)
end Go.Proofs.YtoihbhenbmffcaaGreatDoor
namespace Go.Proofs.YtoihbhenbmffcaaGreatDoor
open Go.RowKit Go.Proofs.Tryz
section
variable {α:Type} {lt eq:α->α->Bool}
def Ch(ls:rc (rc α))(i:Nat):rc α:=ls.getD i []
def Fz{a:rc (rc α)}{i:Nat}(h:i<Z a):Ch a i∈a:=by
 unfold Ch;rw[mN,mG h];exact mw h
def eF{a:rc (rc α)}{l:rc α}(h:l∈a):∃i,i<Z a/\Ch a i=l:=by
 obtain⟨i,b,e⟩:=nw h;refine⟨i,b,?_⟩;unfold Ch;rw[mN,mG b];exact e
def Lr(ls:rc (rc α))(y:α):Prop:=∀l∈ls,y∈l
def Gk(k t:Nat):Nat:=if t+1=k then 0 else t+1
def eH{k t:Nat}(h:t<k):(t+1)%k=Gk k t:=by
 unfold Gk;split
 .rename_i e;rw[e,Nat.mod_self]
 .exact Nat.mod_eq_of_lt (by omega)
def VK{k t:Nat}(h:t<k):Gk k t<k:=by
 unfold Gk;split<;>omega
def OK(k t ag i:Nat):Prop:=(ag<=t/\t-ag<=i/\i<t)\/(t<ag/\(i<t\/t+k-ag<=i))
def fS{k t a i:Nat}(c:t<k)(b:a<k)(d:i<k)(h:OK k (Gk k t) (a+1) i):OK k t a i\/i=t:=by
 unfold OK Gk at h;unfold OK;split at h<;>omega
def iz{k t a i:Nat}(d:t<k)(b:a+1=k)(c:i<k):OK k t a i\/i=t:=by
 unfold OK;omega
def Sq{k t i:Nat}:¬OK k t 0 i:=by
 unfold OK;omega
def ki(lt:α->α->Bool)(s:α)(l:rc α):Nat:=l.countP λy=> !lt y s
def Yj(lt:α->α->Bool)(s:α)(ls:rc (rc α)):Nat:=(ls.map (ki lt s)).sum
def ac(o:P6 lt eq){s a:α}(h:lt s a=jj)(l:rc α):ki lt a l<=ki lt s l:=by
 unfold ki;refine List.countP_mono_left (λy _ b=>?_);cases hh:lt y s with
 |false=>rfl
 |true=>rw[o.trans _ _ _ hh h]at b;cases b
def gZ(o:P6 lt eq){s a:α}(h:lt s a=jj):∀{l:rc α},s∈l->ki lt a l<ki lt s l
 |x::l,b=>by
  have e:∀z,ki lt z (x::l)=ki lt z l+(if(!lt x z)=jj then 1 else 0):=λz=>by unfold ki;rw[List.countP_cons]
  rw[e,e];have d:=ac o h l;rcases mA.1 b with rfl|b
  .rw[h,o.irr];simp;omega
  .have c:=gZ o h b;cases hx:lt x s with
   |true=>rw[o.trans _ _ _ hx h];simp;omega
   |false=>
    cases lt x a<;>simp<;>omega
def ig(o:P6 lt eq){s b:α}(h:lt s b=jj):∀(a:rc (rc α)),Yj lt b a<=Yj lt s a
 |[]=>mP _
 |l::a=>by
  have e:∀z,Yj lt z (l::a)=ki lt z l+Yj lt z a:=λz=>by unfold Yj;simp
  rw[e,e];have:=ac o h l;have:=ig o h a;omega
def ae(o:P6 lt eq){s d:α}(h:lt s d=jj):∀{a:rc (rc α)},(∃l∈a,s∈l)->Yj lt d a<Yj lt s a
 |l::a,b=>by
  have e:∀z,Yj lt z (l::a)=ki lt z l+Yj lt z a:=λz=>by unfold Yj;simp
  rw[e,e];obtain⟨q,c,b⟩:=b;have g:=ig o h a;have f:=ac o h l;rcases mA.1 c with rfl|c
  .have:=gZ o h b;omega
  .have:=ae o h ⟨q,c,b⟩;omega
def aD(p:Nat->Nat)(t v:Nat):Nat->Nat:=λi=>if i=t then v else p i
structure QF(lt:α->α->Bool)(ls:rc (rc α))(t:Nat)(s:α)(ag:Nat)(p:Nat->Nat)(m:rc α):Prop where
 tk:t<Z ls
 agk:ag<Z ls
 win:∀i,i<Z ls->OK (Z ls) t ag i->s∈Ch ls i
 ple:∀i,i<Z ls->p i<=Z (Ch ls i)
 below:∀i,i<Z ls->∀j (h:j<Z (Ch ls i)),j<p i->lt (Ch ls i)[j] s=jj
 src:∃l∈ls,s∈l
 sound:∀y∈m,Lr ls y
 low:∀y∈m,lt y s=jj
 zG:m.Pairwise λa b=>lt a b=jj
 zq:∀y,Lr ls y->y∈m\/lt y s=K
structure T1(lt:α->α->Bool)(ls:rc (rc α))(t:Nat)(s:α)(ag at_:Nat)(p:Nat->Nat)(m:rc α):Prop where
 tk:t<Z ls
 agk:ag<Z ls
 hlt:at_<Z (Ch ls t)
 zk:(Ch ls t)[at_]=s
 win:∀i,i<Z ls->OK (Z ls) t ag i\/i=t->s∈Ch ls i
 ple:∀i,i<Z ls->p i<=Z (Ch ls i)
 below:∀i,i<Z ls->∀j (h:j<Z (Ch ls i)),j<p i->lt (Ch ls i)[j] s=jj
 here:∀j (h:j<Z (Ch ls t)),j<at_->lt (Ch ls t)[j] s=jj
 sound:∀y∈m,Lr ls y
 low:∀y∈m,lt y s=jj
 zG:m.Pairwise λa b=>lt a b=jj
 zq:∀y,Lr ls y->y∈m\/lt y s=K
variable {ls:rc (rc α)} {t:Nat} {s:α} {ag:Nat} {p:Nat->Nat} {m:rc α}
def C6.yA(o:P6 lt eq){l:rc α}(d:C6 lt l){i:Nat}(g:i<Z l){y:α}(b:y∈l)(h:∀j (a:j<Z l),j<i->l[j]≠y):lt y l[i]=K:=by
 obtain⟨j,a,e⟩:=nw b;have f:i<=j:=by
  by_cases c:j<i
  .exact absurd e (h j a c)
  .omega
 rw[<-e];exact d.up o a f (o.irr _)
def QF.start(o:P6 lt eq)(b:0<Z ls)(f:C6 lt (Ch ls 0))(c:0<Z (Ch ls 0)):QF lt ls 0 (Ch ls 0)[0] 0 (λ_=>0) []:=by
 refine⟨b,b,λi k d=>absurd d Sq,λi _=>mO _,λi _ j h e=>by omega,⟨_,Fz b,mw c⟩,λy a=>by simp at a,λy a=>by simp at a,List.Pairwise.nil,λy a=>lx ?_⟩;exact f.yA o c (a _ (Fz b)) (λj e g=>by omega)
def QF.before(h:QF lt ls t s ag p m){b:Nat}(e:Ez lt (Ch ls t) (p t) s b):∀j (a:j<Z (Ch ls t)),j<b->lt (Ch ls t)[j] s=jj:=by
 intro j a d;by_cases c:j<p t
 .exact h.below t h.tk j a c
 .exact e.below j a (by omega) d
def QF.done(h:QF lt ls t s ag p m){b:Nat}(f:Ez lt (Ch ls t) (p t) s b)(g:b=Z (Ch ls t)):∀y,y∈m↔Lr ls y:=by
 intro y;refine⟨h.sound y,λc=>?_⟩;rcases h.zq y c with a|a
 .exact a
 .obtain⟨j,d,e⟩:=nw (c _ (Fz h.tk));have:=h.before f j d (by omega);rw[e,a]at this;cases this
def QF.same(h:QF lt ls t s ag p m){a:Nat}(e:Ez lt (Ch ls t) (p t) s a)(c:a<Z (Ch ls t))(d:(Ch ls t)[a]=s):T1 lt ls t s ag a p m:=by
 refine⟨h.tk,h.agk,c,d,λi f b=>?_,h.ple,h.below,h.before e,h.sound,h.low,h.zG,h.zq⟩;rcases b with b|rfl
 .exact h.win i f b
 .rw[<-d];exact mw c
def QF.past(o:P6 lt eq)(u:C6 lt (Ch ls t))(h:QF lt ls t s ag p m){a:Nat}(l:Ez lt (Ch ls t) (p t) s a)(f:a<Z (Ch ls t))(r:(Ch ls t)[a]≠s):T1 lt ls t (Ch ls t)[a] 0 a p m/\Yj lt (Ch ls t)[a] ls<Yj lt s ls:=by
 have d:lt s (Ch ls t)[a]=jj:=by
  refine o.tot _ _ (l.zj a f (mP _)) ?_;cases hq:eq (Ch ls t)[a] s with
  |false=>rfl
  |true=>exact absurd ((o.eqv _ _).1 hq) r
 refine⟨⟨h.tk,by have:=h.tk;omega,f,rfl,λi q k=>?_,h.ple,λi q j c b=>o.trans _ _ _ (h.below i q j c b) d,λj c b=>o.trans _ _ _ (h.before l j c b) d,h.sound,λy g=>o.trans _ _ _ (h.low y g) d,h.zG,λy g=>?_⟩,ae o d h.src⟩
 .rcases k with k|rfl
  .exact absurd k Sq
  .exact mw f
 .rcases h.zq y g with n|n
  .exact lo n
  .right;refine u.yA o f (g _ (Fz h.tk)) (λj c b e=>?_);have:=h.before l j c b;rw[e,n]at this;cases this
def UJ(a:∀i,i<Z ls->p i<=Z (Ch ls i)){v:Nat}(b:v<=Z (Ch ls t)):∀i,i<Z ls->aD p t v i<=Z (Ch ls i):=by
 intro i c;unfold aD;split
 .rename_i e;rw[e];exact b
 .exact a i c
variable {at_:Nat}
def T1.next(h:T1 lt ls t s ag at_ p m)(f:ag+1<Z ls):QF lt ls (Gk (Z ls) t) s (ag+1) (aD p t at_) m:=by
 refine⟨VK h.tk,f,λi b d=>h.win i b (fS h.tk h.agk b d),UJ h.ple (Nat.le_of_lt h.hlt),λi b j c a=>?_,⟨_,Fz h.tk,h.win t h.tk (lx rfl)⟩,h.sound,h.low,h.zG,h.zq⟩;unfold aD at a;split at a
 .rename_i e;subst e;exact h.here j c a
 .exact h.below i b j c a
def T1.common(h:T1 lt ls t s ag at_ p m)(b:ag+1=Z ls):Lr ls s:=by
 intro l c;obtain⟨i,a,rfl⟩:=eF c;exact h.win i a (iz h.tk b a)
def T1.yV(h:T1 lt ls t s ag at_ p m)(e:ag+1=Z ls):(∀y∈m++[s],Lr ls y)/\(m++[s]).Pairwise (λa b=>lt a b=jj):=by
 refine⟨λy c=>?_,?_⟩
 .rcases mF.1 c with c|c
  .exact h.sound y c
  .rw[my]at c;subst c;exact h.common e
 .rw[qq];refine⟨h.zG,by simp,λa f b d=>?_⟩;rw[my]at d;subst d;exact h.low a f
def T1.last(o:P6 lt eq)(k:C6 lt (Ch ls t))(h:T1 lt ls t s ag at_ p m)(g:ag+1=Z ls)(i:at_+1=Z (Ch ls t)):∀y,y∈m++[s]↔Lr ls y:=by
 intro y;refine⟨(h.yV g).1 y,λb=>?_⟩;rw[mF,my];rcases h.zq y b with a|a
 .exact lo a
 .right;obtain⟨j,f,e⟩:=nw (b _ (Fz h.tk));by_cases d:j<at_
  .have:=h.here j f d;rw[e,a]at this;cases this
  ·(have c:j=at_:=by omega);subst c;rw[<-e];exact h.zk
def T1.more(o:P6 lt eq)(q:C6 lt (Ch ls t))(h:T1 lt ls t s ag at_ p m)(n:ag+1=Z ls)(f:at_+1<Z (Ch ls t)):QF lt ls (Gk (Z ls) t) (Ch ls t)[at_+1] 0 (aD p t (at_+1)) (m++[s])/\Yj lt (Ch ls t)[at_+1] ls<Yj lt s ls:=by
 have b:lt s (Ch ls t)[at_+1]=jj:=by
  have:=q at_ (at_+1) h.hlt f (by omega);rw[h.zk]at this;exact this
 have w:0<Z ls:=by have:=h.tk;omega
 refine⟨⟨VK h.tk,w,λi r v=>absurd v Sq,UJ h.ple (Nat.le_of_lt f),λi r j d c=>?_,⟨_,Fz h.tk,mw f⟩,(h.yV n).1,λy a=>?_,(h.yV n).2,λy a=>?_⟩,ae o b ⟨_,Fz h.tk,h.win t h.tk (lx rfl)⟩⟩
 .unfold aD at c;split at c
  .rename_i e;subst e;by_cases g:j<at_
   .exact o.trans _ _ _ (h.here j d g) b
   ·(have l:j=at_:=by omega);subst l;rw[h.zk];exact b
  .exact o.trans _ _ _ (h.below i r j d c) b
 .rcases mF.1 a with a|a
  .exact o.trans _ _ _ (h.low y a) b
  .rw[my]at a;subst a;exact b
 .rw[mF,my];rcases h.zq y a with k|k
  .exact lo (lo k)
  .by_cases u:y=s
   .exact lo (lx u)
   .right;refine q.yA o f (a _ (Fz h.tk)) (λj d c e=>?_);by_cases g:j<at_
    .have:=h.here j d g;rw[e,k]at this;cases this
    ·(have l:j=at_:=by omega);subst l;rw[h.zk]at e;exact u e.symm
end
