import Derived.WalkKit
import Derived.Deep.AppendLies
import Derived.Deep.QuietTactic
import Derived.BigQuiet
import Derived.Deep.LoopGhost
import Derived.Deep.MidRow
import Derived.Handy
import Derived.Test.YtoihbhenbmffcaaGreatDoorProg
set_option linter.all false
set_option maxHeartbeats 0
open List renaming length->Z,toArray->ml
open Option renaming none->Y,some->V
open Go.Value renaming slice->U,int->X,string->O,pointer->m2,agg->pC,bool->pE
open Bool renaming false->K,true->jj
open Go.IntKind renaming i64->J
open Go.Ending renaming returned->oa
open Or renaming inl->oi,inr->oj
open Go renaming World->py,Value->p5
open Go.RowKit renaming Hid->p7
open Go.World renaming ownsRow->p9
open ByteArray renaming empty->pF
open Go.Op renaming bytesLess->pK
namespace Go.Proofs.YtoihbhenbmffcaaGreatDoor
open Go.RowKit Go.Proofs.Tryz
abbrev pM:=@List
abbrev zA:=ByteArray
abbrev kR:=@List.setIfInBounds_toArray
abbrev kS:=@Go.Value.slice.injEq
abbrev kT:=@List.set_cons_zero
abbrev kU:=@List.set_cons_succ
abbrev kV:=@List.getElem_mem
abbrev kW:=@List.take_succ_eq_append_getElem
abbrev kX:=@List.take_of_length_le
abbrev kY:=@List.mem_singleton
abbrev kZ:=@List.mem_cons
abbrev k0:=@Bool.false_eq_true
abbrev lc:=@List.getElem?_eq_getElem
abbrev ld:=@Option.some.injEq
abbrev lg:=@Go.World.ownsRow.alloc
abbrev lh:=@ByteArray.size_append
abbrev li:=@if_neg
abbrev lj:=@List.length_cons
abbrev lk:=@List.mem_map
abbrev lm:=@List.length_map
abbrev ln:=@if_pos
abbrev lq:=@List.getD_eq_getElem?_getD
abbrev lu:=@List.length_append
abbrev lw:=@List.mem_append
abbrev lz:=@Nat.zero_le
abbrev lB:=@List.mem_map_of_mem
abbrev lC:=@Nat.le_refl
abbrev lD:=@List.drop_eq_getElem_cons
abbrev lE:=@List.map_cons
abbrev lF:=@List.flatMap_cons
abbrev lG:=@Go.wpList_append_lies
abbrev lH:=@Go.World.ownsRow_nil
abbrev lI:=@Go.World.news_of_block
abbrev lJ:=@Bool.and_eq_true
abbrev lK:=@List.mem_filter
abbrev lL:=@Go.bodyPost_ret
abbrev lM:=@List.flatMap_append
abbrev lN:=@Go.ByteArray.toList_eq
abbrev lO:=@List.length_nil
abbrev lP:=@Go.heap_alloc_new
abbrev lQ:=@beq_eq_false_iff_ne
abbrev lR:=@List.foldl_cons
abbrev lS:=@List.drop_eq_nil_of_le
abbrev lT:=@Go.World.size_alloc
abbrev lU:=@List.append_nil
abbrev lV:=@List.map_append
abbrev lW:=@Go.Addr.mk.injEq
abbrev lX:=@List.getElem_of_mem
abbrev lY:=@List.mem_cons_of_mem
abbrev lZ:=@Prod.mk.injEq
abbrev l9:=@List.length_take
abbrev ma:=@List.mem_flatMap
abbrev mc:=@Array.getElem?_eq_some_iff
abbrev me:=@Nat.zero_add
abbrev mf:=@List.length_drop
abbrev mg:=@Go.info_parts
abbrev mh:=@Nat.mul_le_mul_right
abbrev mi:=@List.foldl_append
abbrev mj:=@List.cons.injEq
abbrev mm:=@List.getElem?_set_ne
abbrev mn:=@List.take_append_of_le_length
abbrev mo:=@List.append_assoc
abbrev mp:=@Nat.le_trans
abbrev mq:=@List.map_map
abbrev mr:=@List.not_mem_nil
abbrev mt:=@List.take_append_drop
abbrev mu:=@List.map_congr_left
abbrev mw:=@List.nil_append
abbrev mx:=@List.flatMap_nil
abbrev my:=@ByteArray.size_extract
abbrev mz:=@List.mem_cons_self
abbrev mA:=@List.getElem?_map
abbrev mB:=@List.getElem_append_left
abbrev mC:=@List.all_eq_true
abbrev mD:=@List.mem_of_mem_take
abbrev mE:=@List.size_toArray
abbrev mF:=@Except.ok.injEq
abbrev mG:=@decide_eq_false
abbrev mH:=@List.any_eq_true
abbrev mI:=@Go.World.ownsRow.kept
abbrev mJ:=@Bool.not_false
abbrev mK:=@List.getElem?_set_self
abbrev mL:=@Go.all_oneCell_toArray
abbrev mM:=@Go.wpIn_seq_k
abbrev mN:=@Bool.eq_iff_iff
abbrev mO:=@UInt8.toNat_inj
abbrev mP:=@Bool.or_eq_true
abbrev mQ:=@List.length_set
abbrev mR:=@Bool.true_and
abbrev mS:=@List.length_filter_le
abbrev mT:=@beq_iff_eq
abbrev mU:=@List.any_eq_false
abbrev mV:=@List.cons_append
abbrev mW:=@List.filter_cons
abbrev mX:=@Nat.lt_of_lt_of_le
abbrev mY:=@List.pairwise_cons
abbrev mZ:=@Option.some.inj
abbrev m0:=@Option.map_some
abbrev m3:=@List.mem_filterMap
abbrev m4:=@List.length_eq_zero_iff
abbrev m5:=@Go.wpList_load_mid
abbrev m6:=@List.getElem?_take
abbrev m7:=@List.find?_eq_none
abbrev m8:=@List.map_nil
abbrev m9:=@List.length_replicate
abbrev ng:=@decide_eq_false_iff_not
abbrev nh:=@List.nodup_cons
abbrev ni:=@List.take_length
abbrev nj:=@Go.wpList_store_mid
abbrev nk:=@List.pairwise_iff_getElem
abbrev no:=@Bool.not_eq_true'
abbrev np:=@decide_eq_true
abbrev nr:=@of_decide_eq_true
abbrev nu:=@Go.Addr.add_lit
abbrev nw:=@Bool.false_ne_true
abbrev ny:=@List.findIdx?_eq_some_iff_getElem
abbrev nz:=@List.Pairwise.imp_of_mem
abbrev nA:=@Nat.add_mul
abbrev nB:=@Go.IntKind.wrap_i64
abbrev nC:=@Option.mem_toList
abbrev nD:=@List.pairwise_map
abbrev nE:=@Int.tdiv_eq_ediv_of_nonneg
abbrev nF:=@List.filter_append
abbrev nG:=@List.nodup_nil
abbrev nH:=@Bool.and_self
abbrev nI:=@Bool.false_or
abbrev nJ:=@Bool.not_true
abbrev nK:=@Bool.or_eq_false_iff
abbrev nL:=@Array.replicate_succ
abbrev nM:=@Array.replicate_zero
abbrev nN:=@Go.decode_ascii
abbrev nO:=@List.getElem?_append_right
abbrev nP:=@decide_eq_true_eq
abbrev nQ:=@List.take_succ_cons
abbrev nR:=@List.append_toArray
abbrev nS:=@List.getElem?_eq_some_iff
abbrev nT:=@UInt8.le_iff_toNat_le
abbrev nU:=@Nat.min_eq_left
abbrev nV:=@List.find?_cons
abbrev nW:=@Go.wpIn_cond_false
abbrev nX:=@List.mem_of_mem_drop
abbrev nY:=@List.mem_append_left
abbrev nZ:=@Bool.and_false
abbrev n5:=@Bool.false_and
abbrev n6:=@List.any_map
abbrev n7:=@Go.wpIn_cond_true
abbrev od:=@List.getElem_take
abbrev oe:=@List.nodup_append
abbrev oh:=@List.push_toArray
abbrev ol:=@Go.Calls.quiet_of_same
abbrev om:=@List.drop_succ_cons
abbrev oo:=@List.toList_toArray
abbrev ot:=@Option.map_eq_some_iff
abbrev ou:=@Array.getElem?_eq_none
abbrev ow:=@Nat.lt_or_eq_of_le
abbrev ox:=@Bool.true_or
abbrev oy:=@List.any_cons
abbrev oz:=@List.all_cons
abbrev oA:=@List.take_zero
abbrev oB:=@List.findSome?_cons
abbrev oC:=@Go.step_append_lies
abbrev oD:=@List.eq_nil_of_length_eq_zero
abbrev oE:=@List.take_take
abbrev oF:=@List.drop_zero
abbrev oG:=@List.getElem_cons_zero
abbrev oH:=@List.filter_eq_nil_iff
abbrev oI:=@List.getElem?_drop
abbrev oJ:=@of_decide_eq_false
abbrev oK:=@List.contains_iff_mem
abbrev oL:=@Go.results_none
abbrev oM:=@List.getElem_drop
abbrev oN:=@Go.World.ownsRow_lit
abbrev oO:=@List.findSome?_eq_none_iff
abbrev oP:=@List.pairwise_append
abbrev oQ:=@List.mem_range
abbrev oR:=@Bool.toNat_false
abbrev oS:=@List.map_flatMap
abbrev oT:=@Go.run_callFunc_extern
abbrev oU:=@List.filterMap_cons
abbrev oV:=@Go.Sem.run_bind
abbrev oW:=@decide_false
abbrev oX:=@Nat.add_zero
abbrev oY:=@Bool.or_true
abbrev oZ:=@Go.ready_mono
abbrev o9:=@Array.setIfInBounds_comm
abbrev pd:=@Go.RowKit.Below.heap_setCell
abbrev pg:=@List.any_append
abbrev ph:=@List.zip_cons_cons
abbrev pi:=@List.find?_append
abbrev pj:=@Nat.min_def
abbrev pk:=@List.findSome?_append
abbrev pm:=@List.set_append_right
abbrev po:=@ByteArray.data_append
abbrev pq:=@List.countP_le_length
abbrev pr:=@List.singleton_append
abbrev pu:=@Go.decode_high
abbrev pw:=@Bool.or_self
abbrev px:=@List.map_set
variable{w v u:py}{M:pM Nat}{b m j n k i:Nat}{y:pM p5}{T:TypeId}{z:p5}{P:Program}{s:zA}{g:UInt8}
structure Ac(M:pM Nat)(w w':py):Prop where
 os:w'.os=w.os
 tape:w'.tape=w.tape
 output:w'.output=w.output
 size:w.heap.size<=w'.heap.size
 block:∀k,k<w.heap.size->k∉M->w'.heap[k]?=w.heap[k]?
def pN{α:Sort _}(a:α):∃b,a=b:=⟨_,rfl⟩
def Ac.refl(M:pM Nat)(w:py):Ac M w w:=⟨rfl,rfl,rfl,lC _,λ_ _ _=>rfl⟩
abbrev pO:=@Ac.refl
def Ac.trans{M:pM Nat}{a b c:py}(h:Ac M a b)(k:Ac M b c):Ac M a c:=
 ⟨k.os.trans h.os,k.tape.trans h.tape,k.output.trans h.output,mp h.size k.size,
  λi e d=>(k.block i (mX e h.size) d).trans (h.block i e d)⟩
def Ac.trans'{M N:pM Nat}(h:Ac M w v)(k:Ac N v u)(j:∀i,i∈N->i∈M\/w.heap.size<=i):Ac M w u:=
 ⟨k.os.trans h.os,k.tape.trans h.tape,k.output.trans h.output,mp h.size k.size,
  λi f d=>(k.block i (mX f h.size) (λg=>by rcases j i g with e|e;exact d e;omega)).trans (h.block i f d)⟩
def Ac.mono{M N:pM Nat}(h:Ac M w v)(a:∀i,i∈M->i∈N):Ac N w v:=
 ⟨h.os,h.tape,h.output,h.size,λk c b=>h.block k c (λd=>b (a k d))⟩
def Ac.drew{M:pM Nat}{a w:py}(h:Ac M a w):Ac M a w.drew:=⟨h.os,h.tape,h.output,h.size,h.block⟩
def Ac.drewN{M:pM Nat}{a w:py}(h:Ac M a w)(n:Nat):Ac M a (w.drewN n):=⟨h.os,h.tape,h.output,h.size,h.block⟩
def Ac.alloc{M:pM Nat}{a w:py}(h:Ac M a w)(o:Obj):Ac M a (w.alloc o):=
 h.trans ⟨rfl,rfl,rfl,by simp,λk b _=>Below.heap_alloc _ _ _ b⟩
def Ac.setCell{M:pM Nat}{a w:py}(h:Ac M a w){p:Addr}(b:p.block∈M\/a.heap.size<=p.block)(u:p5):Ac M a (w.setCell p u):=
 h.trans' (N:=[p.block]) ⟨rfl,rfl,rfl,by simp[World.setCell],λk _ c=>pd _ _ _ _ (by simpa using c)⟩ (by simpa using b)
def Ac.grown{d:Option Nat}(h:Ac M v w)(b:w.grownBy u d)(j:∀k,d=V k->k∈M\/v.heap.size<=k):Ac M v u:=
 ⟨b.os.trans h.os,b.tape.trans h.tape,b.output.trans h.output,mp h.size b.size,
  λi g c=>(b.block i (mX g h.size) (λe=>by rcases j i e.symm with f|f;exact c f;omega)).trans (h.block i g c)⟩
def Ac.below(h:Ac [] w v):Below w.heap.size w v:=⟨h.os,h.tape,h.output,h.size,λk a=>h.block k a (by simp)⟩
def AF(w:py)(b:Nat)(cs:pM p5)(t:TypeId):Prop:=w.heap[b]?=V (.cells (ml cs) t (0,0))
def AF.lt(h:AF w b y T):b<w.heap.size:=(mc.1 h).1
def AF.cell{w:py}{b:Nat}{a:pM p5}{t:TypeId}(h:AF w b a t)(i:Nat):w.cell? ⟨b,i,Y⟩=a[i]?:=by
 unfold AF at h;simp[World.cell?,h]
def AF.frozen{w:py}{b:Nat}{a:pM p5}{t:TypeId}(h:AF w b a t)(i:Nat):w.frozen? ⟨b,i,Y⟩=K:=by
 unfold AF at h;simp[World.frozen?,h]
def AF.set{w:py}{b:Nat}{a:pM p5}{t:TypeId}(h:AF w b a t)(i:Nat)(u:p5):AF (w.setCell ⟨b,i,Y⟩ u) b (a.set i u) t:=by
 unfold AF at*;simp[World.setCell,Array.getElem?_modify,h]
def AF.zB(h:AF w b y T)(p:Addr)(a:p.block≠b)(u:p5):AF (w.setCell p u) b y T:=by
 unfold AF at*;rw[pd _ _ _ _ (λe=>a e.symm)];exact h
def AF.alloc{w:py}{b:Nat}{a:pM p5}{t:TypeId}(h:AF w b a t)(o:Obj):AF (w.alloc o) b a t:=by
 have:=h.lt;unfold AF at*;rw[Below.heap_alloc _ _ _ this];exact h
def AF.new(w:py)(a:pM p5)(t:TypeId):AF (w.alloc (.cells (ml a) t)) w.heap.size a t:=by
 exact lP w _
abbrev pP:=@AF.new
def AF.kept{w w':py}(h:AF w b y T)(k:Ac M w w')(a:b∉M:=by simp):AF w' b y T:=by
 have:=h.lt;unfold AF at*;rw[k.block b this a];exact h
def AF.drew{w:py}{b:Nat}{a:pM p5}{t:TypeId}(h:AF w b a t):AF w.drew b a t:=h
def AF.drewN{w:py}{b:Nat}{a:pM p5}{t:TypeId}(h:AF w b a t)(n:Nat):AF (w.drewN n) b a t:=h
def AF.range(h:AF w b y T):w.rangeAt b 0 y:=λj v a=>by rw[me,h.cell];exact a
def AF.there{w:py}{b:Nat}{a:pM p5}{t:TypeId}(h:AF w b a t):w.there b 0 (Z a):=λj c=>by
 rw[me,h.cell,h.frozen];simp[c]
def Ad(h:p9 w m T j z n y)(k:Ac M w u)(c:∀i,i∈M->i<m:=by simp):p9 u m T j z n y:=by
 refine⟨h.1,?_⟩;rcases h.2 with p|⟨g,d,b,rfl,f,a,l⟩
 .exact .inl p
 .refine .inr ⟨g,d,b,rfl,f,?_,l⟩;rw[k.block g (mc.1 a).1 (λo=>by have:=c g o;omega)];exact a
def Ai{v:p5}(h:p9 w m T j v n y)(k:Ac M w u)(c:∀i,v.ownBlock=V i->i∉M:=by simp):p9 u m T j v n y:=by
 refine⟨h.1,?_⟩;rcases h.2 with o|⟨g,d,b,rfl,f,a,l⟩
 .exact .inl o
 .refine .inr ⟨g,d,b,rfl,f,?_,l⟩;rw[k.block g (mc.1 a).1 (c g rfl)];exact a
def Am{a base':Nat}(h:p9 w a T m z n y)(i:base'<=a):p9 w base' T m z n y:=by
 refine⟨h.1,?_⟩;rcases h.2 with f|⟨g,c,b,rfl,j,d⟩
 .exact .inl f
 .exact .inr ⟨g,c,b,rfl,by omega,d⟩
def FX(h:p9 w m T k z n y):p9 w.drew m T k z n y:=h
def DC(h:p9 w m T i z n y)(k:Nat):p9 (w.drewN k) m T i z n y:=h
def Ag(h:p9 w m T k z n y){p:Addr}(b:z.ownBlock≠V p.block)(u:p5):p9 (w.setCell p u) m T k z n y:=
 Ai h ((pO [p.block] w).setCell (by simp) u) (λi c a=>b (by simp at a;rw[c,a]))
def Bg(h:p9 w m T i z n y)(k:Nat)(a:k<m):z.ownBlock≠V k:=λT=>by
 have:=(h.lt k T).1;omega
def AF.grown{a:Option Nat}(h:AF w b y T)(k:w.grownBy v a)(c:a≠V b):AF v b y T:=by
 have:=h.lt;unfold AF at*;rw[k.block b this (λe=>c e.symm)];exact h
def Ca{c:Func}{p:Tmp}(h:c.results=#[.cell p T]){a:Array p5}{t:TypeId}{d:TypeDesc}
  (f:a.getD p undef=m2 (V ⟨b,0,Y⟩)) (k:AF w b y t) (j:P.underlying T=V d) (e:d.isRow=jj) (l:(P.info? T).map (·.size)=V (Z y)):
  (results c a).run P w=.ok (pC (ml y)) w:=by
 have i:=run_loadVar_mid (P:=P) w b 0 T y d k.range j e l;have g:a[p]?.getD undef=m2 (V ⟨b,0,Y⟩):=by simpa using f
 simp only[results,h];simp[oV,Result.andThen,g,i,asAddr]
def Av{fn:Func}{p u:Tmp}(h:fn.results=#[.cell p T,.tmp u]){a:Array p5}{t:TypeId}{d:TypeDesc}
  (e:a.getD p undef=m2 (V ⟨b,0,Y⟩)) (i:AF w b y t) (g:P.underlying T=V d) (c:d.isRow=jj) (j:(P.info? T).map (·.size)=V (Z y)):
  (results fn a).run P w=.ok (.tuple #[pC (ml y),a.getD u undef]) w:=by
 have f:=run_loadVar_mid (P:=P) w b 0 T y d i.range g c j;rw[results_cell_tmp h];simp[oV,Result.andThen,e,f,asAddr]
def Ct(h:p9 w m T k z n y):∃b a,z=U b n a:=by
 rcases h.2 with⟨rfl,rfl⟩|⟨g,a,c,rfl,_⟩
 .exact⟨Y,0,rfl⟩
 .exact⟨_,a,rfl⟩
def Xq{α:Type}(f:α->pM p5)(a:Nat):∀(l:pM α),(∀x∈l,Z (f x)=a)->∀(i:Nat) (b:i<Z l) (k:Nat),k<a->(l.flatMap f)[i*a+k]?=(f l[i])[k]?
 |[],_,i,b,_,_=>by simp at b
 |x::l,h,0,_,k,hk=>by
  have c:=h x (by simp);simp only[lF,Nat.zero_mul,me,oG];rw[List.getElem?_append_left (by omega)]
 |x::l,h,i+1,b,k,hk=>by
  have c:=h x (by simp);have ih:=Xq f a l (λy d=>h y (by simp[d])) i (by simpa using b) k hk;simp only[lF,List.getElem_cons_succ];rw[nO (by rw[c,nA];omega),c,nA,Nat.one_mul,show i*a+a+k-a=i*a+k by omega];exact ih
def AC{α:Type}{f:α->pM p5}{l:pM α}(h:p9 w m T n z (Z l) (l.flatMap f))(d:∀x∈l,Z (f x)=n)(i:Nat)(u:i<Z l):
  ∃g a,z=U (V ⟨g,0,Y⟩) (Z l) a/\Z l<=a/\∀j (b:j<Z l) k,k<n->w.cell? ⟨g,j*n+k,Y⟩=(f l[j])[k]?:=by
 rcases h.2 with⟨_,s⟩|⟨g,a,r,rfl,_,p,q,_,t,o⟩
 .omega
 .refine⟨g,a,rfl,q,λj b k c=>?_⟩;rw[<-Xq f n l d j b k c,<-o,m6,ln (by have:(j+1)*n<=Z l*n:=mh _ b;rw[nA]at this;omega)];simp[World.cell?,p]
def Ak(h:p9 w m T k z n y):∃b a,z=U b n a:=Ct h
def Ah(x:zA):pM p5:=[O x]
def Ab{p:Prop}(h:p):p7 p:=h
def pL{P:Program}{Q:Exit->Act->py->Prop}{a:Act}{w:py}{x y:Code}(h:∀K:Act->py->Prop,p7 (∀a w,y.wp P Q a w->K a w)->x.wp P (Exit.then K Q) a w):(Code.seq x y).wp P Q a w:=wp_seq_k λK k=>h K (Ab k)
def Aa{p:Prop}(h:p7 p):p:=h
theorem Tryz.zo:(Tryz.prog.info? 9).map (λi=>(i.zero,i.size,i.bytes))=V (V (O ⟨#[]⟩),1,16):=by kernel_rfl
def BY(s:zA)(at_:Nat)(bad:Bool):pM p5:=[O s,X J at_,pE bad]
def AD(c:UInt8):Bool:=97<=c&&c<=122
def Ds(c:UInt8):Bool:=65<=c&&c<=90
def Ap(c:UInt8):Bool:=48<=c&&c<=57
def DD(c:UInt8):Bool:=c==32||c==10
def Bs{a b:Bool}(h:a=b):oa (pE a)=oa (pE b):=by rw[h]
def ib{k:IntKind}{a b:Int}(h:a=b):oa (X k a)=oa (X k b):=by rw[h]
theorem Jk(n:Int)(c:UInt8)(w:py)(h:n=c.toNat):Calls prog 169 #[X .u8 n] w λe a=>e=oa (pE (AD c))/\a=w:=by
 subst h;go_enter func169,ntmps169;go_wp2;all_goals go_ret
 all_goals refine⟨Bs ?_,rfl⟩
 all_goals (rw[mN];simp[AD,nT];try omega)
theorem OG(n:Int)(c:UInt8)(w:py)(h:n=c.toNat):Calls prog 170 #[X .u8 n] w λe a=>e=oa (pE (Ds c))/\a=w:=by
 subst h;go_enter func170,ntmps170;go_wp2;all_goals go_ret
 all_goals refine⟨Bs ?_,rfl⟩
 all_goals (rw[mN];simp[Ds,nT];try omega)
theorem Cz(n:Int)(c:UInt8)(w:py)(h:n=c.toNat):Calls prog 55 #[X .u8 n] w λe a=>e=oa (pE (Ap c))/\a=w:=by
 subst h;go_enter func55,ntmps55;go_wp2;all_goals go_ret
 all_goals refine⟨Bs ?_,rfl⟩
 all_goals (rw[mN];simp[Ap,nT];try omega)
def Ae(s:zA)(at_:Nat):Nat:=
 if h:at_<s.size then(if DD s[at_] then Ae s (at_+1)else at_)else at_
def AQ(s:zA)(at_:Nat)(bad:Bool):Nat:=if bad then at_ else Ae s at_
def BB(s:zA)(a:Nat)(h:a<=s.size):Ae s a<=s.size:=by
 fun_induction Ae s a<;>omega
def Cb(s:zA)(a:Nat):a<=Ae s a:=by
 fun_induction Ae s a<;>omega
def Ls(s:zA)(a:Nat):AQ s a jj=a:=rfl
def RA(s:zA)(a:Nat)(h:¬a<s.size)(b:Bool):AQ s a b=a:=by
 unfold AQ;rw[Ae];simp[h]
def Zj(s:zA)(a:Nat)(h:a<s.size)(b:DD s[a]=jj):AQ s a K=AQ s (a+1) K:=by
 unfold AQ;rw[Ae];simp[h,b]
def XH(s:zA)(a:Nat)(h:a<s.size)(b:DD s[a]=K):AQ s a K=a:=by
 unfold AQ;rw[Ae];simp[h,b]
def Cq(c k:UInt8):((c.toNat:Int)==(k.toNat:Int))=(c==k):=by
 rw[mN];simp only[mT];constructor
 .intro h;exact mO.1 (by omega)
 .intro h;rw[h]
def VQ(c:UInt8):(((c.toNat:Int)==32)=jj/\DD c=jj)\/(((c.toNat:Int)==32)=K/\((c.toNat:Int)==10)=jj/\DD c=jj)\/
  (((c.toNat:Int)==32)=K/\((c.toNat:Int)==10)=K/\DD c=K):=by
 have b:((c.toNat:Int)==32)=(c==32):=Cq c 32;have a:((c.toNat:Int)==10)=(c==10):=Cq c 10;rw[b,a];unfold DD;cases(c==32)<;>cases(c==10)<;>simp
theorem DO(b:Nat)(s:zA)(c:Nat)(a:Bool)(w:py)(M:s.size<=1000000)(D:c<=s.size)(G:AF w b (BY s c a) 73):
  Calls prog 43 #[m2 (V ⟨b,0,Y⟩)] w λe u=>e=oa (.tuple #[])/\AF u b (BY s (AQ s c a) a) 73/\Ac [b] w u:=by
 go_enter func43,ntmps43;go_wp2
 go_loopg [] (s.size-c) (λk wr=>∃j:Nat,j<=s.size/\k=s.size-j/\AQ s j a=AQ s c a/\AF wr b (BY s j a) 73/\Ac [b] w wr)
 case atStart=>exact⟨c,D,rfl,rfl,G,pO _ _⟩
 case round=>
  obtain⟨j,N,y,x,f,g⟩:=hrel;have B:=f.cell 0;have H:=f.cell 1;have F:=f.cell 2;have P:=f.frozen 1;simp[BY]at B H F;have m:p7 (gk=s.size-j/\AQ s j a=AQ s c a):=⟨y,x⟩;clear y x;have A:AQ s j a=j->AF wr b (BY s (AQ s c a) a) 73:=λh=>by rw[<-m.out.2,h];exact f
  have p:p7 (AQ s j a=j->AF wr b (BY s (AQ s c a) a) 73):=A;clear A;cases a with
  |true=>
   go_wp2
   go_quiet (fail)
   go_wp2;go_end0;exact⟨rfl,p.out rfl,g.drewN _⟩
  |false=>
   by_cases o:j<s.size
   ·(have L:(j:Int)<(s.size:Int):=by omega);have v:p7 (DD s[j]=jj->∃d:Nat,d<=s.size/\s.size-(j+1)=s.size-d/\AQ s d K=AQ s c K/\∀n,AF ((wr.drewN n).setCell ⟨b,1,Y⟩ (X J (j+1))) b (BY s d K) 73/\Ac [b] w ((wr.drewN n).setCell ⟨b,1,Y⟩ (X J (j+1)))):=by
     intro h;refine⟨j+1,by omega,rfl,?_,λn=>⟨?_,?_⟩⟩
     .rw[<-m.out.2,Zj s j o h]
     .exact(f.drewN n).set 1 _
     .exact(g.drewN n).setCell (by simp) _
    rcases VQ s[j] with⟨z,i⟩|⟨z,C,i⟩|⟨z,C,i⟩
    .clear f g;go_wp2
     go_quiet (fail)
     go_wp2
     go_roundg (s.size-(j+1))
     case measure=>have:=m.out.1;omega
     case rel=>
      obtain⟨d,r,t,q,l⟩:=v.out i;exact⟨d,r,t,q,(l _).1,(l _).2⟩
    .clear f g;go_wp2
     go_quiet (fail)
     go_wp2
     go_roundg (s.size-(j+1))
     case measure=>have:=m.out.1;omega
     case rel=>
      obtain⟨d,r,t,q,l⟩:=v.out i;exact⟨d,r,t,q,(l _).1,(l _).2⟩
    .have E:p7 (DD s[j]=K):=i;clear i;go_wp2
     go_quiet (fail)
     go_wp2;go_end0;exact⟨rfl,p.out (XH s j o E.out),g.drewN _⟩
   ·(have I:decide ((j:Int)<(s.size:Int))=K:=by simp;omega);go_wp2
    go_quiet (fail)
    go_wp2;go_end0;exact⟨rfl,p.out (RA s j o _),g.drewN _⟩
def Et(s:zA)(j:Nat)(c:UInt8):Bool:=if h:j<s.size then s[j]==c else K
def GV(s:zA)(a:Nat)(b:Bool)(h:a<=s.size):AQ s a b<=s.size:=by
 unfold AQ;split
 .exact h
 .exact BB s a h
theorem RR(b:Nat)(s:zA)(d:Nat)(a:Bool)(n:Int)(c:UInt8)(w:py)(u:n=c.toNat)(t:s.size<=1000000)(m:d<=s.size)(o:AF w b (BY s d a) 73):
  Calls prog 128 #[m2 (V ⟨b,0,Y⟩),X .u8 n] w λe k=>e=oa (pE (!a&&Et s (AQ s d a) c))/\AF k b (BY s (AQ s d a) a) 73/\Ac [b] w k:=by
 have v:=GV s d a m;subst u;obtain⟨j,h⟩:=pN (AQ s d a);rw[h]at v⊢;have l:p7 (AQ s d a=j):=h;clear h;go_enter func128,ntmps128;go_wp2_with fail
 refine(DO b s d a _ t m o).mono ?_;rintro e z ⟨rfl,f,g⟩;rw[l.out]at f;clear o l;have p:=f.cell 0;have x:=f.cell 1;have q:=f.cell 2;simp[BY]at p x q;cases a with
 |true=>
  go_wp2
  go_quiet (fail)
  go_wp2;go_ret;exact⟨Bs (by simp),f.drewN _,g.drewN _⟩
 |false=>
  by_cases i:j<s.size
  ·(have A:(j:Int)<(s.size:Int):=by omega);have r:p7 (((s[j].toNat:Int)==(c.toNat:Int))=(!false&&Et s j c)):=by
    show _=_;rw[Cq];unfold Et;simp[i]
   go_wp2
   go_quiet (fail)
   go_wp2;go_ret;exact⟨Bs r.out,f.drewN _,g.drewN _⟩
  ·(have y:decide ((j:Int)<(s.size:Int))=K:=by simp;omega);go_wp2
   go_quiet (fail)
   go_wp2;go_ret;exact⟨Bs (by unfold Et;simp[i]),f.drewN _,g.drewN _⟩
def Ch(s:zA)(j:Nat)(bad:Bool)(c:UInt8):Nat:=if !bad&&Et s (AQ s j bad) c then AQ s j bad+1 else AQ s j bad
def F1(h:Et s j g=jj):j<s.size:=by
 unfold Et at h;split at h
 .assumption
 .cases h
def D3(s:zA)(a:Nat)(d:Bool)(c:UInt8)(h:a<=s.size):Ch s a d c<=s.size:=by
 unfold Ch;have:=GV s a d h;split
 .rename_i b;simp only[lJ]at b;have:=F1 b.2;omega
 .exact this
theorem NF(b:Nat)(s:zA)(d:Nat)(a:Bool)(n:Int)(c:UInt8)(w:py)(o:n=c.toNat)(u:s.size<=1000000)(q:d<=s.size)(p:AF w b (BY s d a) 73):
  Calls prog 80 #[m2 (V ⟨b,0,Y⟩),X .u8 n] w λe l=>e=oa (pE (!a&&Et s (AQ s d a) c))/\AF l b (BY s (Ch s d a c) a) 73/\Ac [b] w l:=by
 have t:=GV s d a q;unfold Ch;obtain⟨j,k⟩:=pN (AQ s d a);rw[k]at t⊢;obtain⟨h,i⟩:=pN (!a&&Et s j c);rw[i];have g:p7 (AQ s d a=j/\(!a&&Et s j c)=h/\n=c.toNat):=⟨k,i,o⟩;clear k i o;go_enter func80,ntmps80;go_wp2_with fail
 refine(RR b s d a n c _ g.out.2.2 u q p).mono ?_;rintro e x ⟨rfl,f,m⟩;rw[g.out.1,g.out.2.1];rw[g.out.1]at f;clear p g;have r:=f.cell 0;have v:=f.cell 1;have y:=f.frozen 1;simp[BY]at r v;cases h with
 |true=>
  go_wp2;go_ret;exact⟨Bs rfl,f.set 1 _,m.setCell (by simp) _⟩
 |false=>
  go_wp2;go_ret;exact⟨Bs rfl,f,m⟩
theorem Ob(b:Nat)(s:zA)(d:Nat)(a:Bool)(n:Int)(c:UInt8)(w:py)(p:n=c.toNat)(x:s.size<=1000000)(y:d<=s.size)(q:AF w b (BY s d a) 73):
  Calls prog 82 #[m2 (V ⟨b,0,Y⟩),X .u8 n] w λe m=>e=oa (.tuple #[])/\AF m b (BY s (Ch s d a c) (!(!a&&Et s (AQ s d a) c))) 73/\Ac [b] w m:=by
 have r:p7 ((!a&&Et s (AQ s d a) c)=jj->a=K):=by intro h;cases a<;>simp_all
 obtain⟨j,l⟩:=pN (Ch s d a c);obtain⟨k,g⟩:=pN (!a&&Et s (AQ s d a) c);rw[l,g];rw[g]at r;have i:p7 (Ch s d a c=j/\(!a&&Et s (AQ s d a) c)=k/\n=c.toNat):=⟨l,g,p⟩;clear l g p;go_enter func82,ntmps82;go_wp2_with fail
 refine(NF b s d a n c _ i.out.2.2 x y q).mono ?_;rintro e t ⟨rfl,f,o⟩;rw[i.out.2.1];rw[i.out.1]at f;clear q i;have v:=f.cell 2;have z:=f.frozen 2;simp[BY]at v;cases k with
 |true=>
  have u:p7 (AF t b (BY s j (!true)) 73):=by have e:=r.out rfl;rw[e]at f;exact f
  go_wp2;go_end0;exact⟨rfl,u.out,o⟩
 |false=>
  go_wp2;go_end0;exact⟨rfl,f.set 2 _,o.setCell (by simp) _⟩
def AG(p:UInt8->Bool)(s:zA)(i:Nat):Nat:=
 if h:i<s.size then(if p s[i] then AG p s (i+1)else i)else i
def CM(p:UInt8->Bool)(s:zA)(i:Nat)(h:i<=s.size):AG p s i<=s.size:=by
 fun_induction AG p s i<;>omega
def Cr(p:UInt8->Bool)(s:zA)(i:Nat):i<=AG p s i:=by
 fun_induction AG p s i<;>omega
def Cp(p:UInt8->Bool)(s:zA)(i:Nat)(h:i<s.size)(a:p s[i]=jj):AG p s i=AG p s (i+1):=by
 rw[AG];simp[h,a]
def Fm(p:UInt8->Bool)(s:zA)(i:Nat)(h:i<s.size)(a:p s[i]=K):AG p s i=i:=by
 rw[AG];simp[h,a]
def Gx(p:UInt8->Bool)(s:zA)(i:Nat)(h:¬i<s.size):AG p s i=i:=by
 rw[AG];simp[h]
def A9(s:zA)(at_:Nat)(bad:Bool):zA×Nat×Bool:=
 if bad then(pF,at_,jj)else
  if AG AD s (Ae s at_)=Ae s at_\/4<AG AD s (Ae s at_)-Ae s at_ then(pF,Ae s at_,jj)
  else(s.extract (Ae s at_) (AG AD s (Ae s at_)),AG AD s (Ae s at_),K)
def Ep(a:Ae s n=j)(b:AG AD s j=k)(h:k=j\/4<k-j):A9 s n K=(pF,j,jj):=by
 unfold A9;rw[a,b,li (by simp),ln h]
def Li(a:Ae s n=j)(b:AG AD s j=k)(h:¬(k=j\/4<k-j)):A9 s n K=(s.extract j k,k,K):=by
 unfold A9;rw[a,b,li (by simp),li h]
theorem NQ(b:Nat)(s:zA)(c:Nat)(g:Bool)(w:py)(G:s.size<=1000000)(r:c<=s.size)(n:AF w b (BY s c g) 73):
  Calls prog 126 #[m2 (V ⟨b,0,Y⟩)] w λe y=>e=oa (O (A9 s c g).1)/\AF y b (BY s (A9 s c g).2.1 (A9 s c g).2.2) 73/\Ac [b] w y:=by
 cases g with
 |true=>
  go_enter func126,ntmps126;go_wp2_with fail
  refine(DO b s c jj _ G r n).mono ?_;rintro e H ⟨rfl,a,d⟩;rw[Ls]at a;clear n;have q:=a.cell 0;have x:=a.cell 1;have t:=a.cell 2;have L:=a.frozen 2;simp[BY]at q x t;go_wp2
  go_loop [4] (λi=>i=X J c) (λ_=>0)
  case atStart=>rfl
  case round=>
   subst hrel;go_wp2;go_ret;exact⟨rfl,a.set 2 _,d.setCell (by simp) _⟩
 |false=>
  obtain⟨j,u⟩:=pN (Ae s c);have B:=BB s c r;rw[u]at B;obtain⟨R,v⟩:=pN (A9 s c K);rw[v];have p:p7 (Ae s c=j):=u;have A:p7 (A9 s c K=R):=v;clear u v;go_enter func126,ntmps126;go_wp2_with fail
  refine(DO b s c K _ G r n).mono ?_;rintro e H ⟨rfl,a,d⟩;rw[show AQ s c K=j from p.out]at a
  clear n;have q:=a.cell 0;have x:=a.cell 1;have t:=a.cell 2;have T:=a.frozen 1;have L:=a.frozen 2;simp[BY]at q x t;go_wp2
  go_loop [4] (λi=>∃k:Nat,i=X J k/\j<=k/\k<=s.size/\AG AD s k=AG AD s j) (λi=>s.size-(intOf i).toNat)
  case atStart=>exact⟨j,rfl,lC _,B,rfl⟩
  case round=>
   obtain⟨k,rfl,P,S,E⟩:=hrel;have D:p7 (AG AD s k=AG AD s j):=E;clear E;have z:p7 (AG AD s k=k->(((k:Int)=j\/4<(k:Int)-j)->R=(pF,j,jj))/\(¬((k:Int)=j\/4<(k:Int)-j)->R=(s.extract j k,k,K))):=by
    intro M;(have C:AG AD s j=k:=by rw[<-D.out];exact M);exact⟨λh=>by rw[<-A.out];exact Ep p.out C (by omega),λh=>by rw[<-A.out];exact Li p.out C (by omega)⟩
   by_cases o:k<s.size
   ·(have Q:(k:Int)<(s.size:Int):=by omega);by_cases m:AD s[k]=jj
    ·(have I:p7 (AG AD s (k+1)=AG AD s j):=by show _=_;rw[<-Cp AD s k o m];exact D.out);go_wp2_with (go_at_call 169;refine(Jk _ s[k] _ rfl).mono ?_;rintro e N ⟨rfl,rfl⟩;rw[m])
     go_round
     case rel=>exact⟨k+1,by go_num,by omega,by omega,I.out⟩
     case measure=>simp[intOf];omega
    ·(have F:AD s[k]=K:=by simpa using m);have l:=z.out (Fm AD s k o F);have f:p7 ((((k:Int)=j\/4<(k:Int)-j)->R=(pF,j,jj))/\(¬((k:Int)=j\/4<(k:Int)-j)->R=(s.extract j k,k,K))):=l;clear l m;go_wp2_with (go_at_call 169;refine(Jk _ s[k] _ rfl).mono ?_;rintro e N ⟨rfl,rfl⟩;rw[F])
     all_goals go_ret
     .rw[f.out.1 (by omega)];exact⟨rfl,a.set 2 _,d.setCell (by simp) _⟩
     .rw[f.out.1 (by simp_all)];exact⟨rfl,a.set 2 _,d.setCell (by simp) _⟩
     .rw[f.out.2 (by simp_all)];exact⟨rfl,a.set 1 _,d.setCell (by simp) _⟩
   .have l:=z.out (Gx AD s k o);have f:p7 ((((k:Int)=j\/4<(k:Int)-j)->R=(pF,j,jj))/\(¬((k:Int)=j\/4<(k:Int)-j)->R=(s.extract j k,k,K))):=l;clear l;go_wp2;all_goals go_ret
    .rw[f.out.1 (by omega)];exact⟨rfl,a.set 2 _,d.setCell (by simp) _⟩
    .rw[f.out.1 (by simp_all)];exact⟨rfl,a.set 2 _,d.setCell (by simp) _⟩
    .rw[f.out.2 (by simp_all)];exact⟨rfl,a.set 1 _,d.setCell (by simp) _⟩
end Go.Proofs.YtoihbhenbmffcaaGreatDoor
namespace Go.Proofs.YtoihbhenbmffcaaGreatDoor
open Go.RowKit Go.Proofs.Tryz
structure Pu{α:Type}(lt:α->α->Bool)(eq:α->α->Bool):Prop where
 trans:∀a b c,lt a b=jj->lt b c=jj->lt a c=jj
 irr:∀a,lt a a=K
 tot:∀a b,lt a b=K->eq a b=K->lt b a=jj
 eqv:∀a b,eq a b=jj↔a=b
def C9{α:Type}(lt:α->α->Bool)(l:pM α):Prop:=∀i j (hi:i<Z l) (hj:j<Z l),i<j->lt l[i] l[j]=jj
structure Dr{α:Type}(lt:α->α->Bool)(l:pM α)(k:Nat)(x:α)(at_:Nat):Prop where
 ge:k<=at_
 le:at_<=Z l
 below:∀i (h:i<Z l),k<=i->i<at_->lt l[i] x=jj
 zh:∀i (h:i<Z l),at_<=i->lt l[i] x=K
section
variable {α:Type} {lt eq:α->α->Bool} {l:pM α}
def C9.down(o:Pu lt eq)(d:C9 lt l){i j:Nat}(b:j<Z l)(c:i<=j){x:α}(h:lt l[j] x=jj):lt (l[i]'(by omega)) x=jj:=by
 rcases ow c with a|a
 .exact o.trans _ _ _ (d i j (by omega) b a) h
 .subst a;exact h
def C9.up(o:Pu lt eq)(c:C9 lt l){i j:Nat}(a:j<Z l)(b:i<=j){x:α}(h:lt (l[i]'(by omega)) x=K):lt l[j] x=K:=by
 cases hh:lt l[j] x with
 |false=>rfl
 |true=>rw[c.down o a b hh]at h;cases h
def ET(eq:α->α->Bool)(l:pM α)(at_:Nat)(x:α):Bool:=if h:at_<Z l then eq l[at_] x else K
def Dr.has(o:Pu lt eq)(j:C9 lt l){x:α}{a:Nat}(h:Dr lt l 0 x a):ET eq l a x=jj↔x∈l:=by
 unfold ET;constructor
 .intro e;split at e
  .rename_i b;have:=(o.eqv _ _).1 e;rw[<-this];exact kV b
  .cases e
 .intro m;obtain⟨i,f,c⟩:=lX m;have k:a<=i:=by
   by_cases g:i<a
   .have:=h.below i f (by omega) g;rw[c,o.irr]at this;cases this
   .omega
  have b:a<Z l:=by omega
  rw[dif_pos b];rcases ow k with d|d
  .have:=j a i b f d;rw[c]at this;rw[h.zh a b (lC _)]at this;cases this
  .subst d;rw[c];exact(o.eqv _ _).2 rfl
def F7(l:pM α)(at_:Nat)(x:α):pM α:=l.take at_++x::l.drop at_
def LG{at_:Nat}(h:at_<=Z l)(x:α):Z (F7 l at_ x)=Z l+1:=by
 simp[F7];omega
def O3{a:Nat}(x y:α):y∈F7 l a x↔y=x\/y∈l:=by
 unfold F7;rw[lw,kZ];have:y∈l↔y∈l.take a\/y∈l.drop a:=by rw[<-lw,mt]
 rw[this];constructor
 .rintro (h|h|h)
  .exact oj (oi h)
  .exact oi h
  .exact oj (oj h)
 .rintro (h|h|h)
  .exact oj (oi h)
  .exact oi h
  .exact oj (oj h)
def Sc:C9 lt l↔l.Pairwise (λa b=>lt a b=jj):=by
 unfold C9;rw[nk]
def Dr.zM(o:Pu lt eq)(g:C9 lt l){x:α}{c:Nat}(h:Dr lt l 0 x c)(m:ET eq l c x=K):C9 lt (F7 l c x):=by
 rw[Sc]at g⊢;have n:∀a∈l.take c,lt a x=jj:=by
  intro a f;obtain⟨i,k,d⟩:=lX f;simp only[l9]at k;rw[od]at d;rw[<-d];exact h.below i (by omega) (by omega) (by omega)
 have q:∀b∈l.drop c,lt x b=jj:=by
  intro b e;obtain⟨i,k,d⟩:=lX e;simp only[mf]at k;rw[oM]at d;have j:c<Z l:=by omega
  have p:lt x l[c]=jj:=by
   apply o.tot _ _ (h.zh c j (lC _));unfold ET at m;rw[dif_pos j]at m;exact m
  rw[<-d];by_cases r:i=0
  .subst r;simpa using p
  .exact o.trans _ _ _ p ((Sc.2 g) c (c+i) j (by omega) (by omega))
 unfold F7;rw[oP];refine⟨g.sublist (List.take_sublist _ _),?_,?_⟩
 .rw[mY];exact⟨q,g.sublist (List.drop_sublist _ _)⟩
 .intro a f b e;rcases kZ.1 e with rfl|e
  .exact n a f
  .exact o.trans _ _ _ (n a f) (q b e)
def C9.nodup(o:Pu lt eq)(c:C9 lt l):l.Nodup:=by
 rw[Sc]at c;exact c.imp (fun{a b} h e=>by subst e;rw[o.irr]at h;cases h)
end
def FQ(a b:zA):Bool:=pK a.toList b.toList
def iK(a b:zA):Bool:=a.toList==b.toList
def Pn(a b:Int):Bool:=decide (a<b)
def jh(a b:Int):Bool:=a==b
def NO:∀a b c:pM UInt8,pK a b=jj->pK b c=jj->pK a c=jj
 |a,b,[],_,h=>by cases b<;>simp[pK]at h
 |[],b,_::_,_,_=>rfl
 |_::_,[],_::_,h,_=>by simp[pK]at h
 |x::a,y::b,z::c,e,d=>by
  simp only[pK,mP,nP,lJ,mT]at e d⊢;rcases e with e|⟨rfl,e⟩
  .rcases d with d|⟨rfl,d⟩
   .exact oi (UInt8.lt_trans e d)
   .exact oi e
  .rcases d with d|⟨rfl,d⟩
   .exact oi d
   .exact oj ⟨rfl,NO a b c e d⟩
def PU:∀a:pM UInt8,pK a a=K
 |[]=>rfl
 |x::a=>by simp[pK,PU a]
def St:∀a b:pM UInt8,pK a b=K->(a==b)=K->pK b a=jj
 |[],[],_,h=>by simp at h
 |[],_::_,h,_=>by simp[pK]at h
 |_::_,[],_,_=>rfl
 |x::a,y::b,h,h2=>by
  simp only[pK,mP,nP,lJ,mT,nK,ng,Bool.and_eq_false_imp]at h⊢;by_cases c:x=y
  .subst c;refine oj ⟨rfl,St a b (h.2 rfl) ?_⟩;simpa using h2
  .left;have d:=h.1;rw[UInt8.lt_iff_toNat_lt]at d⊢;(have:x.toNat≠y.toNat:=λe=>c (mO.1 e));omega
def Gg:Pu FQ iK:=
 ⟨λa b c=>NO _ _ _,λa=>PU _,λa b=>St _ _,λa b=>by
  unfold iK
  simp only[mT]
  exact⟨λh=>by
   rw[lN,lN]at h
   exact ByteArray.ext (Array.toList_inj.1 h),λh=>by rw[h]⟩⟩
def Sq:Pu Pn jh:=
 ⟨λa b c d e=>by simp[Pn]at*;omega,λa=>by simp[Pn],λa b d e=>by simp[Pn,jh]at*;omega,λa b=>by simp[jh]⟩
end Go.Proofs.YtoihbhenbmffcaaGreatDoor
namespace Go.Proofs.YtoihbhenbmffcaaGreatDoor
open Go.RowKit Go.Proofs.Tryz
variable{n j k m b:Nat}{s:zA}{w:py}{T:TypeId}{y:pM p5}{I:Int}
theorem Ta(hT:(n=9/\j=165)\/(n=170/\j=149))(lv:p5)(l:pM zA)(k:Nat)(x:zA)(A2:Nat)(w:py)(T:p9 w A2 n 1 lv (Z l) (l.flatMap Ah))(EM:Z l<=1000000)(hk:k<=Z l)(W:C9 FQ l):
  Calls prog j #[lv,X J k,O x] w λe w'=>∃I:Nat,e=oa (X J I)/\Dr FQ l k x I/\w'=w:=by
 obtain⟨ad,BS,rfl⟩:=Ak T;have u:=Ab W;have F:p7 (∀i (h:i<Z l),∃g,ad=V ⟨g,0,Y⟩/\Z l<=BS/\w.cell? ⟨g,i,Y⟩=V (O l[i])):=by
  intro i hi;obtain⟨g,CL,he,N,BT⟩:=AC T (by simp[Ah]) i hi;simp only[kS]at he;obtain⟨rfl,_,rfl⟩:=he;have L:=BT i hi 0 (by omega);simp[Ah]at L;exact⟨g,rfl,N,L⟩
 clear W;rcases hT with⟨rfl,rfl⟩|⟨rfl,rfl⟩
 case' inl=>go_enter func165,ntmps165
 case' inr=>go_enter func149,ntmps149
 all_goals
  go_wp2
  go_loop [7,8] (λa s=>∃(f q:Nat),a=X J f/\s=X J q/\k<=f/\f<=Z l/\1<=q/\q<=2*Z l+1/\p7 (∀i (h:i<Z l),k<=i->i<f->FQ l[i] x=jj)) (λa s=>Z l-(intOf a).toNat)
  case atStart=>exact⟨k,1,by go_num,rfl,lC _,hk,lC _,by omega,λi h o y=>by omega⟩
  case round=>
   obtain⟨f,q,rfl,rfl,G,DT,ES,EY,r⟩:=hrel;by_cases EX:f+q<=Z l
   .obtain⟨g,A0,EK,N⟩:=F (f+q-1) (by omega);(have CC:((f+q-1:Nat):Int)=(f:Int)+(q:Int)-1:=by omega);(have E0:((f:Int)+(q:Int)-1).toNat=f+q-1:=by omega);subst A0;have B9:p7 (FQ l[f+q-1] x=jj->∀i (h:i<Z l),k<=i->i<f+q->FQ l[i] x=jj):=by
     intro p i h o y;exact u.down Gg (by omega) (by omega) p
    have B2:p7 (FQ l[f+q-1] x=K->∀i (h:i<Z l),f+q-1<=i->FQ l[i] x=K):=by
     intro p i h o;exact u.up Gg h o p
    go_wp2
    .refine⟨⟨f+q,q*2,by go_num,by go_num,by omega,by omega,by omega,by omega,B9 (by first|assumption|(simp[FQ];omega))⟩,?_⟩;simp[intOf];omega
    ·
     have v:p7 (∀i (h:i<Z l),(f+q-1)<=i->FQ l[i] x=K):=B2 (by first|assumption|(simp[FQ];omega))
     go_loop [7,9,10] (λa h m=>∃(b d:Nat),a=X J b/\h=X J d/\k<=b/\b<=d/\d<=Z l/\p7 (∀i (h:i<Z l),k<=i->i<b->FQ l[i] x=jj)/\p7 (∀i (h:i<Z l),d<=i->FQ l[i] x=K)) (λa h m=>(intOf h).toNat-(intOf a).toNat)
     case atStart=>exact⟨f,(f+q-1),rfl,by go_num,G,by omega,by omega,r,v⟩
     case round=>
      clear r v;obtain⟨b,d,rfl,rfl,o,y,D,r,t⟩:=hrel;by_cases H:b<d
      .obtain⟨c,AO⟩:=pN (b+(d-b)/2);(have P:b<=c:=by omega);(have Q:c<d:=by omega);(have C:(b:Int)+((d:Int)-(b:Int))/2=(c:Int):=by omega);(have R:(b:Int)+((d:Int)-(b:Int)).tdiv 2=(c:Int):=by rw[nE (by omega)];exact C);obtain⟨M,z,Ax,S⟩:=F c (by omega);have A:p7 (FQ l[c] x=jj->∀i (h:i<Z l),k<=i->i<c+1->FQ l[i] x=jj):=by
        intro p i h o y;exact u.down Gg (by omega) (by omega) p
       have B:p7 (FQ l[c] x=K->∀i (h:i<Z l),c<=i->FQ l[i] x=K):=by
        intro p i h o;exact u.up Gg h o p
       simp only[ld,lW,and_true]at z;subst z;go_wp2
       .refine⟨⟨c+1,d,by go_num,rfl,by omega,by omega,D,A (by first|assumption|(simp[FQ];omega)),t⟩,?_⟩;simp[intOf];omega
       .refine⟨⟨b,c,rfl,by go_num,o,by omega,by omega,r,B (by first|assumption|(simp[FQ];omega))⟩,?_⟩;simp[intOf];omega
      .have E:p7 (Dr FQ l k x b):=⟨o,by omega,r,λi h p=>t i h (by omega)⟩;go_wp2;go_ret;exact⟨b,rfl,E,rfl⟩
   .go_wp2
    ·
     have v:p7 (∀i (h:i<Z l),Z l<=i->FQ l[i] x=K):=λi h p=>by omega
     go_loop [7,9,10] (λa h m=>∃(b d:Nat),a=X J b/\h=X J d/\k<=b/\b<=d/\d<=Z l/\p7 (∀i (h:i<Z l),k<=i->i<b->FQ l[i] x=jj)/\p7 (∀i (h:i<Z l),d<=i->FQ l[i] x=K)) (λa h m=>(intOf h).toNat-(intOf a).toNat)
     case atStart=>exact⟨f,Z l,rfl,by go_num,G,by omega,by omega,r,v⟩
     case round=>
      clear r v;obtain⟨b,d,rfl,rfl,o,y,D,r,t⟩:=hrel;by_cases H:b<d
      .obtain⟨c,AO⟩:=pN (b+(d-b)/2);(have P:b<=c:=by omega);(have Q:c<d:=by omega);(have C:(b:Int)+((d:Int)-(b:Int))/2=(c:Int):=by omega);(have R:(b:Int)+((d:Int)-(b:Int)).tdiv 2=(c:Int):=by rw[nE (by omega)];exact C);obtain⟨M,z,Ax,S⟩:=F c (by omega);have A:p7 (FQ l[c] x=jj->∀i (h:i<Z l),k<=i->i<c+1->FQ l[i] x=jj):=by
        intro p i h o y;exact u.down Gg (by omega) (by omega) p
       have B:p7 (FQ l[c] x=K->∀i (h:i<Z l),c<=i->FQ l[i] x=K):=by
        intro p i h o;exact u.up Gg h o p
       subst z;go_wp2
       .refine⟨⟨c+1,d,by go_num,rfl,by omega,by omega,D,A (by first|assumption|(simp[FQ];omega)),t⟩,?_⟩;simp[intOf];omega
       .refine⟨⟨b,c,rfl,by go_num,o,by omega,by omega,r,B (by first|assumption|(simp[FQ];omega))⟩,?_⟩;simp[intOf];omega
      .have E:p7 (Dr FQ l k x b):=⟨o,by omega,r,λi h p=>t i h (by omega)⟩;go_wp2;go_ret;exact⟨b,rfl,E,rfl⟩
    all_goals
     have v:p7 (∀i (h:i<Z l),(f+q-1)<=i->FQ l[i] x=K):=λi h p=>by omega
     go_loop [7,9,10] (λa h m=>∃(b d:Nat),a=X J b/\h=X J d/\k<=b/\b<=d/\d<=Z l/\p7 (∀i (h:i<Z l),k<=i->i<b->FQ l[i] x=jj)/\p7 (∀i (h:i<Z l),d<=i->FQ l[i] x=K)) (λa h m=>(intOf h).toNat-(intOf a).toNat)
     case atStart=>exact⟨f,(f+q-1),rfl,by go_num,G,by omega,by omega,r,v⟩
     case round=>
      clear r v;obtain⟨b,d,rfl,rfl,o,y,D,r,t⟩:=hrel;by_cases H:b<d
      .obtain⟨c,AO⟩:=pN (b+(d-b)/2);(have P:b<=c:=by omega);(have Q:c<d:=by omega);(have C:(b:Int)+((d:Int)-(b:Int))/2=(c:Int):=by omega);(have R:(b:Int)+((d:Int)-(b:Int)).tdiv 2=(c:Int):=by rw[nE (by omega)];exact C);obtain⟨M,z,Ax,S⟩:=F c (by omega);have A:p7 (FQ l[c] x=jj->∀i (h:i<Z l),k<=i->i<c+1->FQ l[i] x=jj):=by
        intro p i h o y;exact u.down Gg (by omega) (by omega) p
       have B:p7 (FQ l[c] x=K->∀i (h:i<Z l),c<=i->FQ l[i] x=K):=by
        intro p i h o;exact u.up Gg h o p
       subst z;go_wp2
       .refine⟨⟨c+1,d,by go_num,rfl,by omega,by omega,D,A (by first|assumption|(simp[FQ];omega)),t⟩,?_⟩;simp[intOf];omega
       .refine⟨⟨b,c,rfl,by go_num,o,by omega,by omega,r,B (by first|assumption|(simp[FQ];omega))⟩,?_⟩;simp[intOf];omega
      .have E:p7 (Dr FQ l k x b):=⟨o,by omega,r,λi h p=>t i h (by omega)⟩;go_wp2;go_ret;exact⟨b,rfl,E,rfl⟩
def Tf(a:p5)(l:pM zA)(k:Nat)(x:zA)(c:Nat)(w:py)(g:p9 w c 9 1 a (Z l) (l.flatMap Ah))(i:Z l<=1000000)(d:k<=Z l)(h:C9 FQ l):
  Calls prog 165 #[a,X J k,O x] w λe f=>∃b:Nat,e=oa (X J b)/\Dr FQ l k x b/\f=w:=
 Ta (oi ⟨rfl,rfl⟩) a l k x c w g i d h
def AU(x:Int):pM p5:=[X .i32 x]
theorem Tg(lv:p5)(l:pM Int)(k:Nat)(x:Int)(A0:Nat)(w:py)(R:p9 w A0 21 1 lv (Z l) (l.flatMap AU))(CL:Z l<=1000000)(hk:k<=Z l)(S:C9 Pn l):
  Calls prog 219 #[lv,X J k,X .i32 x] w λe w'=>∃G:Nat,e=oa (X J G)/\Dr Pn l k x G/\w'=w:=by
 obtain⟨ad,A2,rfl⟩:=Ak R;have r:=Ab S;have D:p7 (∀i (h:i<Z l),∃g,ad=V ⟨g,0,Y⟩/\Z l<=A2/\w.cell? ⟨g,i,Y⟩=V (X .i32 l[i])):=by
  intro i W;obtain⟨g,B2,he,L,Bx⟩:=AC R (by simp[AU]) i W;simp only[kS]at he;obtain⟨rfl,_,rfl⟩:=he;have H:=Bx i W 0 (by omega);simp[AU]at H;exact⟨g,rfl,L,H⟩
 clear S;go_enter func219,ntmps219;go_wp2
 go_loop [7,8] (λa s=>∃(f o:Nat),a=X J f/\s=X J o/\k<=f/\f<=Z l/\1<=o/\o<=2*Z l+1/\p7 (∀i (h:i<Z l),k<=i->i<f->Pn l[i] x=jj)) (λa s=>Z l-(intOf a).toNat)
 case atStart=>exact⟨k,1,by go_num,rfl,lC _,hk,lC _,by omega,λi h j u=>by omega⟩
 case round=>
  obtain⟨f,o,rfl,rfl,E,B9,DT,EM,p⟩:=hrel;by_cases EK:f+o<=Z l
  .obtain⟨g,AO,CC,L⟩:=D (f+o-1) (by omega);(have B0:((f+o-1:Nat):Int)=(f:Int)+(o:Int)-1:=by omega);(have ES:((f:Int)+(o:Int)-1).toNat=f+o-1:=by omega);subst AO;have BT:p7 (Pn l[f+o-1] x=jj->∀i (h:i<Z l),k<=i->i<f+o->Pn l[i] x=jj):=by
    intro n i h j u;exact r.down Sq (by omega) (by omega) n
   have BS:p7 (Pn l[f+o-1] x=K->∀i (h:i<Z l),f+o-1<=i->Pn l[i] x=K):=by
    intro n i h j;exact r.up Sq h j n
   go_wp2
   .refine⟨⟨f+o,o*2,by go_num,by go_num,by omega,by omega,by omega,by omega,BT (by first|assumption|(simp[Pn];omega))⟩,?_⟩;simp[intOf];omega
   ·
    have t:p7 (∀i (h:i<Z l),(f+o-1)<=i->Pn l[i] x=K):=BS (by first|assumption|(simp[Pn];omega))
    go_loop [7,9,10] (λa h m=>∃(b d:Nat),a=X J b/\h=X J d/\k<=b/\b<=d/\d<=Z l/\p7 (∀i (h:i<Z l),k<=i->i<b->Pn l[i] x=jj)/\p7 (∀i (h:i<Z l),d<=i->Pn l[i] x=K)) (λa h m=>(intOf h).toNat-(intOf a).toNat)
    case atStart=>exact⟨f,(f+o-1),rfl,by go_num,E,by omega,by omega,p,t⟩
    case round=>
     clear p t;obtain⟨b,d,rfl,rfl,j,u,B,p,q⟩:=hrel;by_cases F:b<d
     .obtain⟨c,AB⟩:=pN (b+(d-b)/2);(have M:b<=c:=by omega);(have N:c<d:=by omega);(have A:(b:Int)+((d:Int)-(b:Int))/2=(c:Int):=by omega);(have P:(b:Int)+((d:Int)-(b:Int)).tdiv 2=(c:Int):=by rw[nE (by omega)];exact A);obtain⟨I,v,T,Q⟩:=D c (by omega);have y:p7 (Pn l[c] x=jj->∀i (h:i<Z l),k<=i->i<c+1->Pn l[i] x=jj):=by
       intro n i h j u;exact r.down Sq (by omega) (by omega) n
      have z:p7 (Pn l[c] x=K->∀i (h:i<Z l),c<=i->Pn l[i] x=K):=by
       intro n i h j;exact r.up Sq h j n
      simp only[ld,lW,and_true]at v;subst v;go_wp2
      .refine⟨⟨c+1,d,by go_num,rfl,by omega,by omega,B,y (by first|assumption|(simp[Pn];omega)),q⟩,?_⟩;simp[intOf];omega
      .refine⟨⟨b,c,rfl,by go_num,j,by omega,by omega,p,z (by first|assumption|(simp[Pn];omega))⟩,?_⟩;simp[intOf];omega
     .have C:p7 (Dr Pn l k x b):=⟨j,by omega,p,λi h n=>q i h (by omega)⟩;go_wp2;go_ret;exact⟨b,rfl,C,rfl⟩
  .go_wp2
   ·
    have t:p7 (∀i (h:i<Z l),Z l<=i->Pn l[i] x=K):=λi h n=>by omega
    go_loop [7,9,10] (λa h m=>∃(b d:Nat),a=X J b/\h=X J d/\k<=b/\b<=d/\d<=Z l/\p7 (∀i (h:i<Z l),k<=i->i<b->Pn l[i] x=jj)/\p7 (∀i (h:i<Z l),d<=i->Pn l[i] x=K)) (λa h m=>(intOf h).toNat-(intOf a).toNat)
    case atStart=>exact⟨f,Z l,rfl,by go_num,E,by omega,by omega,p,t⟩
    case round=>
     clear p t;obtain⟨b,d,rfl,rfl,j,u,B,p,q⟩:=hrel;by_cases F:b<d
     .obtain⟨c,AB⟩:=pN (b+(d-b)/2);(have M:b<=c:=by omega);(have N:c<d:=by omega);(have A:(b:Int)+((d:Int)-(b:Int))/2=(c:Int):=by omega);(have P:(b:Int)+((d:Int)-(b:Int)).tdiv 2=(c:Int):=by rw[nE (by omega)];exact A);obtain⟨I,v,T,Q⟩:=D c (by omega);have y:p7 (Pn l[c] x=jj->∀i (h:i<Z l),k<=i->i<c+1->Pn l[i] x=jj):=by
       intro n i h j u;exact r.down Sq (by omega) (by omega) n
      have z:p7 (Pn l[c] x=K->∀i (h:i<Z l),c<=i->Pn l[i] x=K):=by
       intro n i h j;exact r.up Sq h j n
      subst v;go_wp2
      .refine⟨⟨c+1,d,by go_num,rfl,by omega,by omega,B,y (by first|assumption|(simp[Pn];omega)),q⟩,?_⟩;simp[intOf];omega
      .refine⟨⟨b,c,rfl,by go_num,j,by omega,by omega,p,z (by first|assumption|(simp[Pn];omega))⟩,?_⟩;simp[intOf];omega
     .have C:p7 (Dr Pn l k x b):=⟨j,by omega,p,λi h n=>q i h (by omega)⟩;go_wp2;go_ret;exact⟨b,rfl,C,rfl⟩
   ·
    have t:p7 (∀i (h:i<Z l),(f+o-1)<=i->Pn l[i] x=K):=λi h n=>by omega
    go_loop [7,9,10] (λa h m=>∃(b d:Nat),a=X J b/\h=X J d/\k<=b/\b<=d/\d<=Z l/\p7 (∀i (h:i<Z l),k<=i->i<b->Pn l[i] x=jj)/\p7 (∀i (h:i<Z l),d<=i->Pn l[i] x=K)) (λa h m=>(intOf h).toNat-(intOf a).toNat)
    case atStart=>exact⟨f,(f+o-1),rfl,by go_num,E,by omega,by omega,p,t⟩
    case round=>
     clear p t;obtain⟨b,d,rfl,rfl,j,u,B,p,q⟩:=hrel;by_cases F:b<d
     .obtain⟨c,AB⟩:=pN (b+(d-b)/2);(have M:b<=c:=by omega);(have N:c<d:=by omega);(have A:(b:Int)+((d:Int)-(b:Int))/2=(c:Int):=by omega);(have P:(b:Int)+((d:Int)-(b:Int)).tdiv 2=(c:Int):=by rw[nE (by omega)];exact A);obtain⟨I,v,T,Q⟩:=D c (by omega);have y:p7 (Pn l[c] x=jj->∀i (h:i<Z l),k<=i->i<c+1->Pn l[i] x=jj):=by
       intro n i h j u;exact r.down Sq (by omega) (by omega) n
      have z:p7 (Pn l[c] x=K->∀i (h:i<Z l),c<=i->Pn l[i] x=K):=by
       intro n i h j;exact r.up Sq h j n
      subst v;go_wp2
      .refine⟨⟨c+1,d,by go_num,rfl,by omega,by omega,B,y (by first|assumption|(simp[Pn];omega)),q⟩,?_⟩;simp[intOf];omega
      .refine⟨⟨b,c,rfl,by go_num,j,by omega,by omega,p,z (by first|assumption|(simp[Pn];omega))⟩,?_⟩;simp[intOf];omega
     .have C:p7 (Dr Pn l k x b):=⟨j,by omega,p,λi h n=>q i h (by omega)⟩;go_wp2;go_ret;exact⟨b,rfl,C,rfl⟩
structure AK where
 v:UInt8
 s:zA
def AV(t:AK):pM p5:=[X .u8 t.v.toNat,O t.s]
def AN(s:zA)(at_:Nat)(bad:Bool):AK×Nat×Bool:=
 if bad then(⟨0,pF⟩,at_,jj)else
 if h:Ae s at_<s.size then
  if Ds s[Ae s at_] then(⟨s[Ae s at_],pF⟩,Ae s at_+1,K)
  else if !Ap s[Ae s at_] then(⟨0,(A9 s (Ae s at_) K).1⟩,(A9 s (Ae s at_) K).2)
  else if 3<AG Ap s (Ae s at_)-Ae s at_\/(s[Ae s at_]=48/\1<AG Ap s (Ae s at_)-Ae s at_)then(⟨0,pF⟩,Ae s at_,jj)
  else(⟨0,s.extract (Ae s at_) (AG Ap s (Ae s at_))⟩,AG Ap s (Ae s at_),K)
 else(⟨0,pF⟩,Ae s at_,jj)
theorem dD(b:Nat)(s:zA)(c:Nat)(w:py)(m:s.size<=1000000)(n:c<=s.size)(f:AF w b (BY s c jj) 73):
  Calls prog 127 #[m2 (V ⟨b,0,Y⟩)] w λe g=>e=oa (pC #[X .u8 0,O pF])/\AF g b (BY s c jj) 73/\Ac [b] w g:=by
 have q:=f.lt;go_enter func127,ntmps127;go_wp2_with fail
 refine(DO b s c jj _ m n (f.alloc _)).mono ?_;rintro e p ⟨rfl,a,h⟩;rw[Ls]at a;clear f;have d:=(pP w _ _).kept h (by simp;omega);have k:=d.cell 0;have l:=d.cell 1;have t:=d.frozen;have i:=a.cell 0;have o:=a.cell 1;have j:=a.cell 2;have r:=a.frozen 2;simp[BY]at i o j k l;go_wp2
 go_quiet (fail)
 go_wp2;refine lL (Ca rfl rfl ((((d.drewN _).zB _ (by simp;omega) _).set 0 _).set 1 _) underlying93 rfl (by kernel_rfl)) rfl ⟨rfl,?_,?_⟩
 .exact(((a.drewN _).set 2 _).zB _ (by simp;omega) _).zB _ (by simp;omega) _
 .exact(((((pO _ _).alloc _).trans h).drewN _).setCell (by simp) _|>.setCell (by simp) _).setCell (by simp) _
theorem dR(b:Nat)(s:zA)(a j:Nat)(w:py)(r:s.size<=1000000)(k:a<=s.size)(f:Ae s a=j)(x:¬j<s.size)(g:AF w b (BY s a K) 73):
  Calls prog 127 #[m2 (V ⟨b,0,Y⟩)] w λe h=>e=oa (pC #[X .u8 0,O pF])/\AF h b (BY s j jj) 73/\Ac [b] w h:=by
 have z:=g.lt;have o:=BB s a k;rw[f]at o;have i:p7 (Ae s a=j):=f;clear f;go_enter func127,ntmps127;go_wp2_with fail
 refine(DO b s a K _ r k (g.alloc _)).mono ?_;rintro e v ⟨rfl,c,l⟩;rw[show AQ s a K=j from i.out]at c
 clear g i;have d:=(pP w _ _).kept l (by simp;omega);have n:=d.cell 0;have q:=d.cell 1;have y:=d.frozen;have m:=c.cell 0;have t:=c.cell 1;have p:=c.cell 2;have B:=c.frozen 1;have A:=c.frozen 2;simp[BY]at m t p n q;have u:decide ((s.size:Int)<=(j:Int))=jj:=by simp;omega
 go_wp2
 go_quiet (fail)
 go_wp2;refine lL (Ca rfl rfl ((((d.drewN _).zB _ (by simp;omega) _).set 0 _).set 1 _) underlying93 rfl (by kernel_rfl)) rfl ⟨rfl,?_,?_⟩
 .exact(((c.drewN _).set 2 _).zB _ (by simp;omega) _).zB _ (by simp;omega) _
 .exact(((((pO _ _).alloc _).trans l).drewN _).setCell (by simp) _|>.setCell (by simp) _).setCell (by simp) _
theorem X5(b:Nat)(s:zA)(a j:Nat)(w:py)(t:s.size<=1000000)(k:a<=s.size)(f:Ae s a=j)(y:j<s.size)(q:Ds s[j]=jj)(g:AF w b (BY s a K) 73):
  Calls prog 127 #[m2 (V ⟨b,0,Y⟩)] w λe h=>e=oa (pC #[X .u8 s[j].toNat,O pF])/\AF h b (BY s (j+1) K) 73/\Ac [b] w h:=by
 have B:=g.lt;have o:=BB s a k;rw[f]at o;have i:p7 (Ae s a=j):=f;clear f;go_enter func127,ntmps127;go_wp2_with fail
 refine(DO b s a K _ t k (g.alloc _)).mono ?_;rintro e x ⟨rfl,c,l⟩;rw[show AQ s a K=j from i.out]at c
 clear g i;have d:=(pP w _ _).kept l (by simp;omega);have n:=d.cell 0;have r:=d.cell 1;have A:=d.frozen;have m:=c.cell 0;have u:=c.cell 1;have p:=c.cell 2;have D:=c.frozen 1;have C:=c.frozen 2;simp[BY]at m u p n r;have v:decide ((s.size:Int)<=(j:Int))=K:=by simp;omega
 have z:(j:Int)<(s.size:Int):=by omega
 go_wp2
 go_quiet (fail)
 go_wp2
 go_quiet (fail)
 go_wp2_with (go_at_call 170;refine(OG _ s[j] _ rfl).mono ?_;rintro e E ⟨rfl,rfl⟩;rw[q])
 refine lL (Ca rfl rfl ((((d.drewN _).zB _ (by simp;omega) _).set 0 _).set 1 _) underlying93 rfl (by kernel_rfl)) rfl ⟨rfl,?_,?_⟩
 .exact(((c.drewN _).set 1 _).zB _ (by simp;omega) _).zB _ (by simp;omega) _
 .exact(((((pO _ _).alloc _).trans l).drewN _).setCell (by simp) _|>.setCell (by simp) _).setCell (by simp) _
theorem cD(b:Nat)(s:zA)(a j:Nat)(w:py)(t:s.size<=1000000)(n:a<=s.size)(g:Ae s a=j)(L:j<s.size)(D:Ds s[j]=K)(y:Ap s[j]=K)(h:AF w b (BY s a K) 73):
  Calls prog 127 #[m2 (V ⟨b,0,Y⟩)] w λe i=>e=oa (pC #[X .u8 0,O (A9 s j K).1])/\AF i b (BY s (A9 s j K).2.1 (A9 s j K).2.2) 73/\Ac [b] w i:=by
 have P:=h.lt;have A:=BB s a n;rw[g]at A;have k:p7 (Ae s a=j):=g;clear g;go_enter func127,ntmps127;go_wp2_with fail
 refine(DO b s a K _ t n (h.alloc _)).mono ?_;rintro e I ⟨rfl,c,o⟩;rw[show AQ s a K=j from k.out]at c
 clear h k;have f:=(pP w _ _).kept o (by simp;omega);have m:=f.cell 0;have r:=f.cell 1;have z:=f.frozen;have l:=c.cell 0;have v:=c.cell 1;have q:=c.cell 2;have G:=c.frozen 1;have F:=c.frozen 2;simp[BY]at l v q m r;have H:decide ((s.size:Int)<=(j:Int))=K:=by simp;omega
 have N:(j:Int)<(s.size:Int):=by omega
 have Q:∀(x:Bool) (w:py),(Op.unary .not (pE x)).run prog w=.ok (pE (!x)) w:=λ_ _=>rfl
 go_wp2
 go_quiet (fail)
 go_wp2
 go_quiet (fail)
 go_wp2_with (first|(go_at_call 170;refine(OG _ s[j] _ rfl).mono ?_;rintro e u ⟨rfl,rfl⟩;rw[D])|(go_at_call 55;refine(Cz _ s[j] _ rfl).mono ?_;rintro e u ⟨rfl,rfl⟩;rw[y]))
 refine(NQ b s j K _ t (by omega) (c.drewN _)).mono ?_;rintro e u ⟨rfl,E,p⟩;have d:=(f.drewN _).kept p (by simp;omega);have B:=d.cell 0;have C:=d.cell 1;have M:=d.frozen;simp at B C;clear z m r G F l v q;go_wp2;refine lL (Ca rfl rfl ((d.set 0 _).set 1 _) underlying93 rfl (by kernel_rfl)) rfl ⟨rfl,?_,?_⟩
 .exact(E.zB _ (by simp;omega) _).zB _ (by simp;omega) _
 .exact(((((pO _ _).alloc _).trans o).drewN _).trans p|>.setCell (by simp) _).setCell (by simp) _
def G3(s:zA)(j k:Nat):AK×Nat×Bool:=
 if 3<k-j\/(Et s j 48=jj/\1<k-j)then(⟨0,pF⟩,j,jj)else(⟨0,s.extract j k⟩,k,K)
def Pt(h:(3:Int)<((k-j:Nat):Int)):G3 s j k=(⟨0,pF⟩,j,jj):=by
 unfold G3;rw[ln (by omega)]
def ZZ(a:j<s.size)(c:UInt8):Et s j c=jj↔(s[j].toNat:Int)=c.toNat:=by
 unfold Et;simp only[a,dite_true,mT];constructor
 .intro h;rw[h]
 .intro h;exact mO.1 (by omega)
def Pc(b:j<s.size)(h:(s[j].toNat:Int)=48)(a:(3:Int)<((k-j:Nat):Int)\/(1:Int)<((k-j:Nat):Int)):G3 s j k=(⟨0,pF⟩,j,jj):=by
 unfold G3;rw[ln (by rcases a with a|a;exact oi (by omega);exact oj ⟨(ZZ b 48).2 h,by omega⟩)]
def Rl(h:((k-j:Nat):Int)<=3)(a:((k-j:Nat):Int)<=1):G3 s j k=(⟨0,s.extract j k⟩,k,K):=by
 unfold G3;rw[li (by omega)]
def Qx(b:j<s.size)(h:¬(s[j].toNat:Int)=48)(c:((k-j:Nat):Int)<=3):G3 s j k=(⟨0,s.extract j k⟩,k,K):=by
 unfold G3;rw[li (by rintro (a|⟨a,_⟩);omega;exact h ((ZZ b 48).1 a))]
theorem V8(b:Nat)(s:zA)(g j:Nat)(w:py)(R:AK×Nat×Bool)(N:s.size<=1000000)(z:g<=s.size)(q:Ae s g=j)(h:j<s.size)(I:Ds s[j]=K)(y:Ap s[j]=jj)
  (p:p7 (R=G3 s j (AG Ap s j)))
  (r:AF w b (BY s g K) 73):
  Calls prog 127 #[m2 (V ⟨b,0,Y⟩)] w λe u=>e=oa (pC (ml (AV R.1)))/\AF u b (BY s R.2.1 R.2.2) 73/\Ac [b] w u:=by
 have AO:=r.lt;have A:=BB s g z;rw[q]at A;have v:p7 (Ae s g=j):=q;clear q;go_enter func127,ntmps127;go_wp2_with fail
 refine(DO b s g K _ N z (r.alloc _)).mono ?_;rintro e S ⟨rfl,a,d⟩;rw[show AQ s g K=j from v.out]at a
 clear r v;have c:=(pP w _ _).kept d (by simp;omega);have E:=c.cell 0;have M:=c.cell 1;have AB:=c.frozen;have D:=a.cell 0;have G:=a.cell 1;have H:=a.cell 2;have A2:=a.frozen 1;have A1:=a.frozen 2;simp[BY]at D G H E M;have Q:decide ((s.size:Int)<=(j:Int))=K:=by simp;omega
 have Ax:(j:Int)<(s.size:Int):=by omega
 have AT:∀(x:Bool) (w:py),(Op.unary .not (pE x)).run prog w=.ok (pE (!x)) w:=λ_ _=>rfl
 go_wp2
 go_quiet (fail)
 go_wp2
 go_quiet (fail)
 go_wp2_with (first|(go_at_call 170;refine(OG _ s[j] _ rfl).mono ?_;rintro e t ⟨rfl,rfl⟩;rw[I])|(go_at_call 55;refine(Cz _ s[j] _ rfl).mono ?_;rintro e t ⟨rfl,rfl⟩;rw[y]))
 go_loop [4] (λi=>∃k:Nat,i=X J k/\j<=k/\k<=s.size/\AG Ap s k=AG Ap s j) (λi=>s.size-(intOf i).toNat)
 case atStart=>exact⟨j,rfl,lC _,A,rfl⟩
 case round=>
  obtain⟨k,rfl,W,AH,B⟩:=hrel;have m:p7 (AG Ap s k=AG Ap s j):=B;clear B;have Bx:(j:Int)<=(k:Int):=by omega
  have T:(k:Int)<=(s.size:Int):=by omega
  have l:p7 (AG Ap s k=k->R=G3 s j k):=by
   intro P;(have F:AG Ap s j=k:=by rw[<-m.out];exact P);rw[p.out,F]
  by_cases o:k<s.size
  ·(have A0:(k:Int)<(s.size:Int):=by omega);by_cases n:Ap s[k]=jj
   ·(have L:p7 (AG Ap s (k+1)=AG Ap s j):=by show _=_;rw[<-Cp Ap s k o n];exact m.out);clear y;go_wp2_with (go_at_call 55;refine(Cz _ s[k] _ rfl).mono ?_;rintro e t ⟨rfl,rfl⟩;rw[n])
    go_round
    case rel=>exact⟨k+1,by go_num,by omega,by omega,L.out⟩
    case measure=>simp[intOf];omega
   ·(have C:Ap s[k]=K:=by simpa using n);have f:p7 (R=G3 s j k):=l.out (Fm Ap s k o C);clear n l p m;go_wp2_with (go_at_call 55;refine(Cz _ s[k] _ rfl).mono ?_;rintro e t ⟨rfl,rfl⟩;rw[C])
    go_quiet (fail)
    go_wp2
    .rw[f.out,Pc h (by assumption) (by assumption)];refine lL (Ca rfl rfl ((((c.drewN _).zB _ (by simp;omega) _).set 0 _).set 1 _) underlying93 rfl (by kernel_rfl)) rfl ⟨rfl,?_,?_⟩
     .exact(((a.drewN _).set 2 _).zB _ (by simp;omega) _).zB _ (by simp;omega) _
     .exact(((((pO _ _).alloc _).trans d).drewN _).setCell (by simp) _|>.setCell (by simp) _).setCell (by simp) _
    .rw[f.out,Rl (by omega) (by omega)];refine lL (Ca rfl rfl ((((c.drewN _).zB _ (by simp;omega) _).set 0 _).set 1 _) underlying93 rfl (by kernel_rfl)) rfl ⟨rfl,?_,?_⟩
     .exact(((a.drewN _).set 1 _).zB _ (by simp;omega) _).zB _ (by simp;omega) _
     .exact(((((pO _ _).alloc _).trans d).drewN _).setCell (by simp) _|>.setCell (by simp) _).setCell (by simp) _
    .rw[f.out,Qx h (by assumption) (by omega)];refine lL (Ca rfl rfl ((((c.drewN _).zB _ (by simp;omega) _).set 0 _).set 1 _) underlying93 rfl (by kernel_rfl)) rfl ⟨rfl,?_,?_⟩
     .exact(((a.drewN _).set 1 _).zB _ (by simp;omega) _).zB _ (by simp;omega) _
     .exact(((((pO _ _).alloc _).trans d).drewN _).setCell (by simp) _|>.setCell (by simp) _).setCell (by simp) _
    .rw[f.out,Pt (by omega)];refine lL (Ca rfl rfl ((((c.drewN _).zB _ (by simp;omega) _).set 0 _).set 1 _) underlying93 rfl (by kernel_rfl)) rfl ⟨rfl,?_,?_⟩
     .exact(((a.drewN _).set 2 _).zB _ (by simp;omega) _).zB _ (by simp;omega) _
     .exact(((((pO _ _).alloc _).trans d).drewN _).setCell (by simp) _|>.setCell (by simp) _).setCell (by simp) _
  .have f:p7 (R=G3 s j k):=l.out (Gx Ap s k o);clear l p m;go_wp2
   go_quiet (fail)
   go_wp2
   .rw[f.out,Pc h (by assumption) (by assumption)];refine lL (Ca rfl rfl ((((c.drewN _).zB _ (by simp;omega) _).set 0 _).set 1 _) underlying93 rfl (by kernel_rfl)) rfl ⟨rfl,?_,?_⟩
    .exact(((a.drewN _).set 2 _).zB _ (by simp;omega) _).zB _ (by simp;omega) _
    .exact(((((pO _ _).alloc _).trans d).drewN _).setCell (by simp) _|>.setCell (by simp) _).setCell (by simp) _
   .rw[f.out,Rl (by omega) (by omega)];refine lL (Ca rfl rfl ((((c.drewN _).zB _ (by simp;omega) _).set 0 _).set 1 _) underlying93 rfl (by kernel_rfl)) rfl ⟨rfl,?_,?_⟩
    .exact(((a.drewN _).set 1 _).zB _ (by simp;omega) _).zB _ (by simp;omega) _
    .exact(((((pO _ _).alloc _).trans d).drewN _).setCell (by simp) _|>.setCell (by simp) _).setCell (by simp) _
   .rw[f.out,Qx h (by assumption) (by omega)];refine lL (Ca rfl rfl ((((c.drewN _).zB _ (by simp;omega) _).set 0 _).set 1 _) underlying93 rfl (by kernel_rfl)) rfl ⟨rfl,?_,?_⟩
    .exact(((a.drewN _).set 1 _).zB _ (by simp;omega) _).zB _ (by simp;omega) _
    .exact(((((pO _ _).alloc _).trans d).drewN _).setCell (by simp) _|>.setCell (by simp) _).setCell (by simp) _
   .rw[f.out,Pt (by omega)];refine lL (Ca rfl rfl ((((c.drewN _).zB _ (by simp;omega) _).set 0 _).set 1 _) underlying93 rfl (by kernel_rfl)) rfl ⟨rfl,?_,?_⟩
    .exact(((a.drewN _).set 2 _).zB _ (by simp;omega) _).zB _ (by simp;omega) _
    .exact(((((pO _ _).alloc _).trans d).drewN _).setCell (by simp) _|>.setCell (by simp) _).setCell (by simp) _
def R1(b:Nat)(s:zA)(a:Nat)(i:Bool)(w:py)(g:s.size<=1000000)(h:a<=s.size)(f:AF w b (BY s a i) 73):
  Calls prog 127 #[m2 (V ⟨b,0,Y⟩)] w λe k=>e=oa (pC (ml (AV (AN s a i).1)))/\AF k b (BY s (AN s a i).2.1 (AN s a i).2.2) 73/\Ac [b] w k:=by
 cases i with
 |true=>exact dD b s a w g h f
 |false=>
  obtain⟨j,d⟩:=pN (Ae s a);by_cases c:j<s.size
  .cases hu:Ds s[j] with
   |true=>
    (have e:AN s a K=(⟨s[j],pF⟩,j+1,K):=by unfold AN;subst d;simp[c,hu]);rw[e];exact X5 b s a j w g h d c hu f
   |false=>
    cases hd:Ap s[j] with
    |false=>
     (have e:AN s a K=(⟨0,(A9 s j K).1⟩,(A9 s j K).2):=by unfold AN;subst d;simp[c,hu,hd]);rw[e];exact cD b s a j w g h d c hu hd f
    |true=>
     refine V8 b s a j w _ g h d c hu hd ?_ f;show _=_;unfold AN G3 Et;subst d;simp[c,hu,hd]
  ·(have e:AN s a K=(⟨0,pF⟩,j,jj):=by unfold AN;subst d;simp[c]);rw[e];exact dR b s a j w g h d c f
def EG(r:Int):Int:=
 if 97<=r/\r<=122 then 2 else if 48<=r/\r<=57 then 3 else if 65<=r/\r<=90 then 4
 else if r=58\/r=46\/r=44\/r=33\/r=61\/r=35\/r=60\/r=40\/r=41 then 5 else 0
theorem Kg(r:Int)(w:py):Calls prog 192 #[X .i32 r] w λe a=>e=oa (X J (EG r))/\a=w:=by
 go_enter func192,ntmps192;go_wp2;all_goals
  go_ret;refine⟨ib ?_,rfl⟩
  try simp only[lQ,mT,ne_eq]at*
  unfold EG
  (repeat' split)<;>omega
structure Bb where
 kind:Int
 place:Nat
 text:zA
def Bq(m:Bb):pM p5:=[X J m.kind,X J m.place,O m.text]
def CT(m:Bb)(place:Nat)(r:Int):Bool:=
 if m.place+m.text.size≠place then K
 else if m.kind=2\/m.kind=3 then EG r==m.kind
 else if m.kind=5 then(m.text.toList==[58])&&r==45
 else K
theorem X6(m:Bb)(d:Nat)(r:Int)(w:py)(q:m.place<=1000000)(t:m.text.size<=1000000)(s:d<=1000000):
  Calls prog 191 #[pC (ml (Bq m)),X J d,X .i32 r] w λe p=>e=oa (pE (CT m d r))/\Ac [] w p:=by
 simp only[Bq];obtain⟨G,h⟩:=pN (CT m d r);rw[h];have a:=h;unfold CT at a;clear h;by_cases g:m.place+m.text.size=d
 .have o:((m.place:Int)+(m.text.size:Int) !=(d:Int))=K:=by simp;omega
  rw[li (by omega)]at a;by_cases b:m.kind=2\/m.kind=3
  .rw[ln b]at a;have c:p7 ((EG r==m.kind)=G):=a;clear a g;(have j:∀n:Nat,True:=λ_=>trivial);clear j;rcases b with b|b
   ·(have i:(m.kind==2)=jj:=by simp[b]);clear b;go_enter func191,ntmps191;go_wp2_with fail
    go_quiet ((go_at_call 192;exact ol (Kg _ _)))
    go_wp2;go_ret;exact⟨Bs c.out,((pO _ _).alloc _).drewN _⟩
   ·(have i:(m.kind==2)=K:=by simp[b]);(have l:(m.kind==3)=jj:=by simp[b]);clear b;go_enter func191,ntmps191;go_wp2_with fail
    go_quiet ((go_at_call 192;exact ol (Kg _ _)))
    go_wp2;go_ret;exact⟨Bs c.out,((pO _ _).alloc _).drewN _⟩
  .rw[li b]at a;(have i:(m.kind==2)=K:=by simp;omega);(have l:(m.kind==3)=K:=by simp;omega);by_cases f:m.kind=5
   .rw[ln f]at a;(have k:(m.kind==5)=jj:=by simp[f]);have c:p7 (((m.text.toList==[58])&&r==45)=G):=a;clear a g b f;go_enter func191,ntmps191;go_wp2;all_goals
     go_ret;refine⟨Bs ?_,(pO _ _).alloc _⟩;rw[<-c.out]
     simp_all
   .rw[li f]at a;(have k:(m.kind==5)=K:=by simp[f]);have c:p7 (K=G):=a;clear a g b f;go_enter func191,ntmps191;go_wp2;go_ret;exact⟨Bs c.out,(pO _ _).alloc _⟩
 .have o:((m.place:Int)+(m.text.size:Int) !=(d:Int))=jj:=by simp;omega
  rw[ln (by omega)]at a;have c:p7 (K=G):=a;clear a g;go_enter func191,ntmps191;go_wp2;go_ret;exact⟨Bs c.out,(pO _ _).alloc _⟩
def ey(h:0<s.size):Et s 0 48=((s[0].toNat:Int)==48):=by
 have e:((s[0].toNat:Int)==48)=(s[0]==48):=Cq s[0] 48;rw[e];simp[Et,h]
def Jy(m:Bb):Bool:=
 if m.kind=2 then decide (m.text.size<=4)
 else if m.kind=3 then decide (m.text.size=1)||(decide (m.text.size<=3)&& !(Et m.text 0 48))
 else jj
theorem V5(m:Bb)(w:py)(o:m.text.size<=1000000)(g:m.kind=3->0<m.text.size):
  Calls prog 157 #[pC (ml (Bq m))] w λe j=>e=oa (pE (Jy m))/\Ac [] w j:=by
 simp only[Bq];obtain⟨G,h⟩:=pN (Jy m);rw[h];have a:=h;unfold Jy at a;clear h;by_cases b:m.kind=2
 .have l:(m.kind==2)=jj:=by simp[b]
  rw[ln b]at a;have c:p7 (decide (m.text.size<=4)=G):=a;clear a b g;go_enter func157,ntmps157;go_wp2;go_ret;refine⟨Bs ?_,(pO _ _).alloc _⟩;rw[<-c.out];simp
  try omega
 .have l:(m.kind==2)=K:=by simp[b]
  rw[li b]at a;by_cases d:m.kind=3
  ·(have i:(m.kind==3)=jj:=by simp[d]);have k:=g d;(have n:(0:Int)<(m.text.size:Int):=by omega);rw[ln d,ey k]at a;have c:p7 ((decide (m.text.size=1)||(decide (m.text.size<=3)&& !((m.text[0].toNat:Int)==48)))=G):=a;clear a b d g;go_enter func157,ntmps157;go_wp2
   .go_ret;refine⟨Bs ?_,(pO _ _).alloc _⟩;(have f:m.text.size=1:=by omega);rw[<-c.out];simp[f]
   .go_ret;refine⟨Bs ?_,(pO _ _).alloc _⟩;(have f:¬m.text.size=1:=by omega);(have b:m.text.size<=3:=by omega);rw[<-c.out];simp only[f,b,oW,decide_true,nI,mR];simp[bne];omega
   .go_ret;refine⟨Bs ?_,(pO _ _).alloc _⟩;(have f:¬m.text.size=1:=by omega);(have b:¬m.text.size<=3:=by omega);rw[<-c.out];simp[f,b];omega
  ·(have i:(m.kind==3)=K:=by simp[d]);rw[li d]at a;have c:p7 (jj=G):=a;clear a b d g;go_enter func157,ntmps157;go_wp2;go_ret;exact⟨Bs c.out,(pO _ _).alloc _⟩
theorem Tryz.z8:(Tryz.prog.info? 206).map (λi=>(i.zero,i.size,i.bytes))=V (V (pC #[X J 0,X J 0,O ⟨#[]⟩]),3,32):=by kernel_rfl
def GL(m:Bb):Z (Bq m)=3:=rfl
def BG(h:p9 w m T k (U (V ⟨j,0,Y⟩) n b) n y)(i:Nat)(u:p5):
  p9 (w.setCell ⟨j,i,Y⟩ u) m T k (U (V ⟨j,0,Y⟩) n b) n (y.set i u):=by
 refine⟨by rw[mQ];exact h.1,?_⟩;rcases h.2 with⟨a,_⟩|⟨s,r,c,a,l,p,q,d,o,f⟩
 .cases a
 .simp only[kS,ld,lW]at a;obtain⟨⟨rfl,_,_⟩,_,rfl⟩:=a;refine oj ⟨j,b,c.setIfInBounds i u,rfl,l,?_,q,d,by simpa using o,?_⟩
  .simp[World.setCell,Array.getElem?_modify,p]
  .rw[Array.toList_setIfInBounds,List.take_set,f]
def Hn(h:p9 w m T k (U (V ⟨j,0,Y⟩) n b) n y)(i:Nat):w.frozen? ⟨j,i,Y⟩=K:=by
 rcases h.2 with⟨a,_⟩|⟨o,f,d,a,l,c,_⟩
 .cases a
 .simp only[kS,ld,lW]at a;obtain⟨⟨rfl,_,_⟩,_,rfl⟩:=a;simp[World.frozen?,c]
def Zn(r:Int):(Utf8.encode r).size<=4:=by
 unfold Utf8.encode;simp only;generalize(if Utf8.valid r=jj then r.toNat else Utf8.runeError)=c
 repeat' split
 all_goals simp[ByteArray.size]
def CB(place:Nat)(r:Int):Bb:=⟨EG r,place,Utf8.encode r⟩
def Mu(ms:pM Bb)(place:Nat)(r:Int):pM Bb:=
 if r=32\/r=10 then ms
 else match ms.getLast? with
  |some m=>if CT m place r then ms.dropLast++[{m with text:=m.text++Utf8.encode r}] else ms++[CB place r]
  |none=>ms++[CB place r]
def O9{pre:pM Bb}{m:Bb}{place:Nat}(h:¬(I=32\/I=10)):Mu (pre++[m]) place I=if CT m place I then pre++[{m with text:=m.text++Utf8.encode I}] else pre++[m]++[CB place I]:=by
 unfold Mu;rw[li h];simp
def dy(b:pM Bb)(m:Bb)(u:zA):((b++[m]).flatMap Bq).set (Z b*3+2) (O u)=(b++[{m with text:=u}]).flatMap Bq:=by
 have c:Z (b.flatMap Bq)=Z b*3:=by
  induction b with
  |nil=>rfl
  |cons a l ih=>rw[lF,lu,ih,GL,lj];omega
 simp only[lM,lF,mx,lU];rw[pm _ _ (by omega),c];simp[Bq]
set_option maxRecDepth 100000
theorem gK(mv:p5)(i:pM Bb)(place:Nat)(r:Int)(B:Nat)(w:py)(hB:B<=w.heap.size)(f:p9 w B 206 3 mv (Z i) (i.flatMap Bq))(EY:Z i<=1000000)(BS:place<=1000000)
  (y:∀m∈i,m.place<=1000000/\m.text.size<=1000000):
  Calls prog 156 #[mv,X J place,X .i32 r] w λe L=>∃v,e=oa v/\p9 L B 206 3 v (Z (Mu i place r)) ((Mu i place r).flatMap Bq)/\Below B w L:=by
 obtain⟨i0,A1,N,Ax,AH⟩:=mg Tryz.z8;obtain⟨ad,W,rfl⟩:=Ak f;by_cases b:r=32\/r=10
 .have j:p7 (Mu i place r=i):=by show _=_;unfold Mu;rw[ln b]
  rcases b with b|b
  ·(have T:(r==32)=jj:=by simp[b]);clear b;go_enter func156,ntmps156;go_wp2;go_ret;rw[j.out];exact⟨_,rfl,f,Below.refl _ _⟩
  ·(have T:(r==32)=K:=by simp[b]);(have h2:(r==10)=jj:=by simp[b]);clear b;go_enter func156,ntmps156;go_wp2;go_ret;rw[j.out];exact⟨_,rfl,f,Below.refl _ _⟩
 .have T:(r==32)=K:=by simp;omega
  have h2:(r==10)=K:=by simp;omega
  rcases List.eq_nil_or_concat i with rfl|⟨pre,m,P⟩
  ·(have j:p7 (Mu [] place r=[CB place r]):=by show _=_;unfold Mu;rw[li b];rfl);have Q:=Kg r w;clear b y;have BA:=Ab Q;clear Q;go_enter func156,ntmps156;(go_wp2_with fail);refine BA.mono ?_;rintro e d ⟨rfl,AO⟩;rw[AO];clear AO d;go_wp2_with (at_builtin;refine lG _ rfl (.tmp 40) (.tmp 47) _ rfl B 206 i0 _ 3 32 underlying200 A1 N Ax AH rfl (by omega) (U ad 0 W) 0 [] rfl (lg f _) ⟨w.heap.size,0,Y⟩ 1 1 (Bq (CB place r)) rfl rfl (lI (lP w _)) (by simp[Value.oneCell',Bq]) (by omega) (by unfold maxLen;omega) (by omega) (by simp;omega) (w.heap.size+1) (by simp) ?_;intro g1 B0 d F n x o)
   have H:Below B w d:=((Below.refl B w).alloc hB _).grown n (by simp;omega) (λq A=>(f.lt q A).1);clear n x o;go_wp2;go_ret;rw[j.out];refine⟨_,rfl,?_,H⟩;simpa using F
  .rw[List.concat_eq_append]at P;subst P;have j:=Ab (O9 (pre:=pre) (m:=m) (place:=place) b);(have p:Z pre<Z (pre++[m]):=by simp);obtain⟨g,ES,he,hc,s⟩:=AC f (λc _=>GL c) (Z pre) p;simp only[kS]at he;obtain⟨rfl,_,rfl⟩:=he;have I:=s (Z pre) p 0 (by omega);have C:=s (Z pre) p 1 (by omega);have u:=s (Z pre) p 2 (by omega);simp[Bq]at I C u;have E:=y m (by simp);have M:=Hn f (Z pre*3+2);(have o:Z (pre++[m])=Z pre+1:=by simp);(have FB:Z pre<=1000000:=by omega);have z:=X6 m place r w E.1 E.2 BS;simp only[Bq]at z;have S:=Ab z;clear s b z y;rw[o]at f⊢;cases hgo:CT m place r with
   |true=>
    have G:=Ab hgo;go_enter func156,ntmps156;(go_wp2_with fail);refine S.mono ?_;rintro e d ⟨rfl,a⟩;rw[hgo];have l:=Ad f a;have EM:=Hn l (Z pre*3+2);have FC:d.cell? ⟨g,Z pre*3+2,Y⟩=V (O m.text):=by
     have DT:=(f.lt g rfl).2;rw[World.cell?_of_block (w:=w) (a.block g DT (by simp))];exact u
    have D:Below B w d:=⟨a.os,a.tape,a.output,a.size,λk hk=>a.block k (by omega) (by simp)⟩;clear I C u M a hgo;have EK:=Zn r;have E0:=E.2;go_wp2;go_ret;rw[Aa j,Aa G,ln rfl];refine⟨_,rfl,?_,D.setCell (f.lt g rfl).1 _⟩;have h:=BG l (Z pre*3+2) (O (m.text++Utf8.encode r));rw[dy]at h;simpa using h
   |false=>
    have G:=Ab hgo;go_enter func156,ntmps156;(go_wp2_with fail);refine S.mono ?_;rintro e d ⟨rfl,a⟩;rw[hgo];have l:=Ad f a;have D:Below B w d:=⟨a.os,a.tape,a.output,a.size,λk hk=>a.block k (by omega) (by simp)⟩;have FA:=a.size;clear I C u M a hgo;(go_wp2_with fail);refine(Kg r d).mono ?_;rintro e w2 ⟨rfl,R⟩;rw[R];clear R w2;go_wp2_with (at_builtin;refine lG _ rfl (.tmp 40) (.tmp 47) _ rfl B 206 i0 _ 3 32 underlying200 A1 N Ax AH rfl (by omega) (U (V ⟨g,0,Y⟩) (Z pre+1) W) (Z pre+1) ((pre++[m]).flatMap Bq) rfl (lg l _) ⟨d.heap.size,0,Y⟩ 1 1 (Bq (CB place r)) rfl rfl (lI (lP d _)) (by simp[Value.oneCell',Bq]) (by omega) (by unfold maxLen;omega) (by omega) (by simp;omega) (d.heap.size+1) (by simp) ?_;intro g1 B0 w3 F n x o)
    have H:Below B w w3:=(D.alloc (by omega) _).grown n (by simp;omega) (λq A=>(l.lt q A).1);clear n x o;go_wp2;go_ret;rw[Aa j,Aa G,li (by simp)];refine⟨_,rfl,?_,H⟩;simpa using F
end Go.Proofs.YtoihbhenbmffcaaGreatDoor
namespace Go.Proofs.YtoihbhenbmffcaaGreatDoor
open Go.RowKit Go.Proofs.Tryz
structure GZ(F:Type) where
 pos:pM F
 neg:pM F
 head:F
section
variable {F:Type} (I:GZ F->Prop) (zR:F->Nat)
structure Mc:Prop where
 pos:∀i,I i->∀g∈i.pos,zR g<=zR i.head
 neg:∀i,I i->∀g∈i.neg,zR g<zR i.head
def Kn(i:GZ F)(P N:F->Prop):Prop:=(∀g∈i.pos,P g)/\∀g∈i.neg,¬N g
def Mn(M:F->Prop):Prop:=∀i,I i->Kn i M M->M i.head
def Kj(M:F->Prop)(n:Nat):Prop:=∀S:F->Prop,(∀f,M f->zR f<n->S f)->(∀i,I i->zR i.head=n->Kn i S M->S i.head)->∀f,M f->zR f=n->S f
def OO(l:Mc I zR){M N:F->Prop}(d:Mn I N)(k:∀n,Kj I zR M n):∀n,(∀f,zR f<n->(M f↔N f))->∀f,M f->zR f=n->N f:=by
 intro n ih f e m;refine k n N (λg a j=>(ih g j).1 a) (λi c o b=>?_) f e m;refine d i c ⟨b.1,λg a h=>b.2 g a ?_⟩;exact(ih g (by have:=l.neg i c g a;omega)).2 h
def jG(c:Mc I zR){M N:F->Prop}(m:Mn I M)(j:∀n,Kj I zR M n)(e:Mn I N)(k:∀n,Kj I zR N n):∀f,M f↔N f:=by
 have d:∀n f,zR f<n->(M f↔N f):=by
  intro n
  induction n with
  |zero=>intro f h;omega
  |succ n ih=>
   intro f h;by_cases i:zR f<n
   .exact ih f i
   ·(have b:zR f=n:=by omega);exact⟨λa=>OO I zR c e j n ih f a b,λa=>OO I zR c m k n (λg l=>(ih g l).symm) f a b⟩
 intro f;exact d (zR f+1) f (by omega)
structure DW(n:Nat)(s:F->Prop):Prop where
 top:∀f,s f->zR f<=n
 closed:∀i,I i->zR i.head<n->Kn i s s->s i.head
 least:∀m,m<=n->Kj I zR s m
def DW.start:DW I zR 0 (λ_=>False):=
 ⟨λf h=>h.elim,λi _ h=>by omega,λm _ S _ _ f h=>h.elim⟩
def DW.step(p:Mc I zR){n:Nat}{s:F->Prop}(h:DW I zR n s){i:GZ F}(q:I i)(k:zR i.head=n)(l:Kn i s s):DW I zR n (λf=>s f\/f=i.head):=by
 have r:∀j,I j->zR j.head<=n->((∀g∈j.neg,¬(s g\/g=i.head))↔∀g∈j.neg,¬s g):=by
  intro j d v;constructor
  .intro o g a c;exact o g a (oi c)
  .intro o g a c;rcases c with c|c
   .exact o g a c
   .have:=p.neg j d g a;rw[c,k]at this;omega
 refine⟨λf b=>?_,λj d v e=>?_,λm D S t w f b y=>?_⟩
 .rcases b with b|b
  .exact h.top f b
  .rw[b,k];omega
 .refine oi (h.closed j d v ⟨λg a=>?_,(r j d (by omega)).1 e.2⟩);rcases e.1 g a with c|c
  .exact c
  .have:=p.pos j d g a;rw[c,k]at this;omega
 .have u:∀g,s g->zR g=m->S g:=λg a E=>h.least m D S (λx C z=>t x (oi C) z) (λj d B e=>w j d B ⟨e.1,(r j d (by omega)).2 e.2⟩) g a E
  rcases b with b|b
  .exact u f b y
  .subst b;(have A:m=n:=by omega);subst A;refine w i q k ⟨λg a=>?_,(r i q (by omega)).2 l.2⟩;by_cases G:zR g<zR i.head
   .exact t g (oi (l.1 g a)) (by omega)
   .exact u g (l.1 g a) (by have:=p.pos i q g a;omega)
def DW.next{n:Nat}{s:F->Prop}(h:DW I zR n s)(g:∀i,I i->zR i.head=n->Kn i s s->s i.head):DW I zR (n+1) s:=by
 refine⟨λf a=>by have:=h.top f a;omega,λi c l b=>?_,λm k=>?_⟩
 .by_cases d:zR i.head=n
  .exact g i c d b
  .exact h.closed i c (by omega) b
 .by_cases e:m<=n
  .exact h.least m e
  .intro S _ _ f a j;have:=h.top f a;omega
def DW.done{n:Nat}{s:F->Prop}(h:DW I zR n s)(e:∀i,I i->zR i.head<n):Mn I s/\∀m,Kj I zR s m:=by
 refine⟨λi a d=>h.closed i a (e i a) d,λm=>?_⟩;by_cases b:m<=n
 .exact h.least m b
 .intro S _ _ f c g;have:=h.top f c;omega
def DW.cong{n:Nat}{s t:F->Prop}(h:DW I zR n s)(e:∀f,s f↔t f):DW I zR n t:=by
 have:s=t:=funext λf=>propext (e f)
 rw[<-this];exact h
end
def bX{F:Type}(I:GZ F->Prop)(a c:F->Nat)(e:Mc I a)(A:Mc I c){M N:F->Prop}(r:Mn I M)(w:∀n,Kj I a M n)(t:Mn I N)(q:∀n,Kj I c N n):∀f,M f↔N f:=by
 have s:∀n f,a f<n->(M f↔N f):=by
  intro n
  induction n with
  |zero=>intro f h;omega
  |succ n ih=>
   have y:∀k g,c g<k->N g->a g<=n->M g:=by
    intro k
    induction k with
    |zero=>intro g h;omega
    |succ k ihk=>
     intro g B p o;by_cases d:c g<k
     .exact ihk g d p o
     .refine q k (λx=>a x<=n->M x) (λf u v=>ihk f v u) (λi j C m D=>?_) g p (by omega) o;refine r i j ⟨λx b=>m.1 x b (by have:=e.pos i j x b;omega),λx b z=>m.2 x b ?_⟩;exact(ih x (by have:=e.neg i j x b;omega)).1 z
   intro f h;by_cases d:a f<n
   .exact ih f d
   .exact⟨λl=>OO I a e t w n ih f l (by omega),λl=>y (c f+1) f (by omega) l (by omega)⟩
 intro f;exact s (a f+1) f (by omega)
end Go.Proofs.YtoihbhenbmffcaaGreatDoor
namespace Go.Proofs.YtoihbhenbmffcaaGreatDoor
open Go.RowKit Go.Proofs.Tryz
variable{w:py}{b:Nat}{y:pM p5}{T:TypeId}
theorem Tryz.zG:(Tryz.prog.info? 243).map (·.size)=V 26:=by kernel_rfl
theorem Tryz.zF:(Tryz.prog.info? 90).map (·.size)=V 26:=by kernel_rfl
def World.zd(b:Nat)(t:TypeId):∀(a:pM p5) (o:Nat) (w:py) (c:pM p5),AF w b c t->o+Z a<=Z c->AF (w.setCells b o a) b (c.take o++a++c.drop (o+Z a)) t
 |[],o,w,c,h,hl=>by
  simp only[lO,oX,lU,mt];exact h
 |v::a,o,w,c,h,hl=>by
  simp only[lj]at hl;have ih:=World.zd b t a (o+1) (w.setCell ⟨b,o,Y⟩ v) (c.set o v) (h.set o v) (by simp;omega);have e:(c.set o v).take (o+1)++a++(c.set o v).drop (o+1+Z a)=c.take o++v::a++c.drop (o+Z (v::a)):=by
   rw[List.drop_set,ln (by omega),kW (by simp;omega),List.getElem_set_self,List.take_set,List.set_eq_of_length_le (by simp;omega)];simp only[lj,mo,pr,mV,mw];rw[show o+1+Z a=o+(Z a+1) by omega]
  rw[e]at ih;exact ih
def AF.zP(h:AF w b y T)(a:pM p5)(c:Z a=Z y):AF (w.setCells b 0 a) b a T:=by
 have:=World.zd b T a 0 w y h (by omega);rw[me,c,List.drop_length]at this;simpa using this
def Ac.zI{M:pM Nat}{a w:py}(h:Ac M a w){b:Nat}(d:b∈M\/a.heap.size<=b):∀(c:pM p5) (o:Nat),Ac M a (w.setCells b o c)
 |[],_=>h
 |v::c,o=>(h.setCell (p:=⟨b,o,Y⟩) d v).zI d c (o+1)
end Go.Proofs.YtoihbhenbmffcaaGreatDoor
namespace Go.Proofs.YtoihbhenbmffcaaGreatDoor
open Go.RowKit Go.Proofs.Tryz
section
variable {α:Type} {lt eq:α->α->Bool}
def BX(ls:pM (pM α))(i:Nat):pM α:=ls.getD i []
def Fi{a:pM (pM α)}{i:Nat}(h:i<Z a):BX a i∈a:=by
 unfold BX;rw[lq,lc h];exact kV h
def dG{a:pM (pM α)}{l:pM α}(h:l∈a):∃i,i<Z a/\BX a i=l:=by
 obtain⟨i,b,e⟩:=lX h;refine⟨i,b,?_⟩;unfold BX;rw[lq,lc b];exact e
def Kw(ls:pM (pM α))(y:α):Prop:=∀l∈ls,y∈l
def Fv(k t:Nat):Nat:=if t+1=k then 0 else t+1
def dI{k t:Nat}(h:t<k):(t+1)%k=Fv k t:=by
 unfold Fv;split
 .rename_i e;rw[e,Nat.mod_self]
 .exact Nat.mod_eq_of_lt (by omega)
def Vd{k t:Nat}(h:t<k):Fv k t<k:=by
 unfold Fv;split<;>omega
def N3(k t ag i:Nat):Prop:=(ag<=t/\t-ag<=i/\i<t)\/(t<ag/\(i<t\/t+k-ag<=i))
def eS{k t a i:Nat}(c:t<k)(b:a<k)(d:i<k)(h:N3 k (Fv k t) (a+1) i):N3 k t a i\/i=t:=by
 unfold N3 Fv at h;unfold N3;split at h<;>omega
def gq{k t a i:Nat}(d:t<k)(b:a+1=k)(c:i<k):N3 k t a i\/i=t:=by
 unfold N3;omega
def RS{k t i:Nat}:¬N3 k t 0 i:=by
 unfold N3;omega
def jb(lt:α->α->Bool)(s:α)(l:pM α):Nat:=l.countP λy=> !lt y s
def Vi(lt:α->α->Bool)(s:α)(ls:pM (pM α)):Nat:=(ls.map (jb lt s)).sum
def Zz(o:Pu lt eq){s a:α}(h:lt s a=jj)(l:pM α):jb lt a l<=jb lt s l:=by
 unfold jb;refine List.countP_mono_left (λy _ b=>?_);cases hh:lt y s with
 |false=>rfl
 |true=>rw[o.trans _ _ _ hh h]at b;cases b
def fL(o:Pu lt eq){s a:α}(h:lt s a=jj):∀{l:pM α},s∈l->jb lt a l<jb lt s l
 |x::l,b=>by
  have e:∀z,jb lt z (x::l)=jb lt z l+(if(!lt x z)=jj then 1 else 0):=λz=>by unfold jb;rw[List.countP_cons]
  rw[e,e];have d:=Zz o h l;rcases kZ.1 b with rfl|b
  .rw[h,o.irr];simp;omega
  .have c:=fL o h b;cases hx:lt x s with
   |true=>rw[o.trans _ _ _ hx h];simp;omega
   |false=>
    cases lt x a<;>simp<;>omega
def fQ(o:Pu lt eq){s b:α}(h:lt s b=jj):∀(a:pM (pM α)),Vi lt b a<=Vi lt s a
 |[]=>lC _
 |l::a=>by
  have e:∀z,Vi lt z (l::a)=jb lt z l+Vi lt z a:=λz=>by unfold Vi;simp
  rw[e,e];have:=Zz o h l;have:=fQ o h a;omega
def ZA(o:Pu lt eq){s d:α}(h:lt s d=jj):∀{a:pM (pM α)},(∃l∈a,s∈l)->Vi lt d a<Vi lt s a
 |l::a,b=>by
  have e:∀z,Vi lt z (l::a)=jb lt z l+Vi lt z a:=λz=>by unfold Vi;simp
  rw[e,e];obtain⟨q,c,b⟩:=b;have g:=fQ o h a;have f:=Zz o h l;rcases kZ.1 c with rfl|c
  .have:=fL o h b;omega
  .have:=ZA o h ⟨q,c,b⟩;omega
def ZQ(p:Nat->Nat)(t v:Nat):Nat->Nat:=λi=>if i=t then v else p i
structure PZ(lt:α->α->Bool)(ls:pM (pM α))(t:Nat)(s:α)(ag:Nat)(p:Nat->Nat)(m:pM α):Prop where
 tk:t<Z ls
 agk:ag<Z ls
 win:∀i,i<Z ls->N3 (Z ls) t ag i->s∈BX ls i
 ple:∀i,i<Z ls->p i<=Z (BX ls i)
 below:∀i,i<Z ls->∀j (h:j<Z (BX ls i)),j<p i->lt (BX ls i)[j] s=jj
 src:∃l∈ls,s∈l
 sound:∀y∈m,Kw ls y
 low:∀y∈m,lt y s=jj
 zM:m.Pairwise λa b=>lt a b=jj
 zm:∀y,Kw ls y->y∈m\/lt y s=K
structure To(lt:α->α->Bool)(ls:pM (pM α))(t:Nat)(s:α)(ag at_:Nat)(p:Nat->Nat)(m:pM α):Prop where
 tk:t<Z ls
 agk:ag<Z ls
 hlt:at_<Z (BX ls t)
 yD:(BX ls t)[at_]=s
 win:∀i,i<Z ls->N3 (Z ls) t ag i\/i=t->s∈BX ls i
 ple:∀i,i<Z ls->p i<=Z (BX ls i)
 below:∀i,i<Z ls->∀j (h:j<Z (BX ls i)),j<p i->lt (BX ls i)[j] s=jj
 here:∀j (h:j<Z (BX ls t)),j<at_->lt (BX ls t)[j] s=jj
 sound:∀y∈m,Kw ls y
 low:∀y∈m,lt y s=jj
 zM:m.Pairwise λa b=>lt a b=jj
 zm:∀y,Kw ls y->y∈m\/lt y s=K
variable {ls:pM (pM α)} {t:Nat} {s:α} {ag:Nat} {p:Nat->Nat} {m:pM α}
def C9.zz(o:Pu lt eq){l:pM α}(d:C9 lt l){i:Nat}(g:i<Z l){y:α}(b:y∈l)(h:∀j (a:j<Z l),j<i->l[j]≠y):lt y l[i]=K:=by
 obtain⟨j,a,e⟩:=lX b;have f:i<=j:=by
  by_cases c:j<i
  .exact absurd e (h j a c)
  .omega
 rw[<-e];exact d.up o a f (o.irr _)
def PZ.start(o:Pu lt eq)(b:0<Z ls)(f:C9 lt (BX ls 0))(c:0<Z (BX ls 0)):PZ lt ls 0 (BX ls 0)[0] 0 (λ_=>0) []:=by
 refine⟨b,b,λi k d=>absurd d RS,λi _=>lz _,λi _ j h e=>by omega,⟨_,Fi b,kV c⟩,λy a=>by simp at a,λy a=>by simp at a,List.Pairwise.nil,λy a=>oj ?_⟩;exact f.zz o c (a _ (Fi b)) (λj e g=>by omega)
def PZ.before(h:PZ lt ls t s ag p m){b:Nat}(e:Dr lt (BX ls t) (p t) s b):∀j (a:j<Z (BX ls t)),j<b->lt (BX ls t)[j] s=jj:=by
 intro j a d;by_cases c:j<p t
 .exact h.below t h.tk j a c
 .exact e.below j a (by omega) d
def PZ.done(h:PZ lt ls t s ag p m){b:Nat}(f:Dr lt (BX ls t) (p t) s b)(g:b=Z (BX ls t)):∀y,y∈m↔Kw ls y:=by
 intro y;refine⟨h.sound y,λc=>?_⟩;rcases h.zm y c with a|a
 .exact a
 .obtain⟨j,d,e⟩:=lX (c _ (Fi h.tk));have:=h.before f j d (by omega);rw[e,a]at this;cases this
def PZ.same(h:PZ lt ls t s ag p m){a:Nat}(e:Dr lt (BX ls t) (p t) s a)(c:a<Z (BX ls t))(d:(BX ls t)[a]=s):To lt ls t s ag a p m:=by
 refine⟨h.tk,h.agk,c,d,λi f b=>?_,h.ple,h.below,h.before e,h.sound,h.low,h.zM,h.zm⟩;rcases b with b|rfl
 .exact h.win i f b
 .rw[<-d];exact kV c
def PZ.past(o:Pu lt eq)(u:C9 lt (BX ls t))(h:PZ lt ls t s ag p m){a:Nat}(l:Dr lt (BX ls t) (p t) s a)(f:a<Z (BX ls t))(r:(BX ls t)[a]≠s):To lt ls t (BX ls t)[a] 0 a p m/\Vi lt (BX ls t)[a] ls<Vi lt s ls:=by
 have d:lt s (BX ls t)[a]=jj:=by
  refine o.tot _ _ (l.zh a f (lC _)) ?_;cases hq:eq (BX ls t)[a] s with
  |false=>rfl
  |true=>exact absurd ((o.eqv _ _).1 hq) r
 refine⟨⟨h.tk,by have:=h.tk;omega,f,rfl,λi q k=>?_,h.ple,λi q j c b=>o.trans _ _ _ (h.below i q j c b) d,λj c b=>o.trans _ _ _ (h.before l j c b) d,h.sound,λy g=>o.trans _ _ _ (h.low y g) d,h.zM,λy g=>?_⟩,ZA o d h.src⟩
 .rcases k with k|rfl
  .exact absurd k RS
  .exact kV f
 .rcases h.zm y g with n|n
  .exact oi n
  .right;refine u.zz o f (g _ (Fi h.tk)) (λj c b e=>?_);have:=h.before l j c b;rw[e,n]at this;cases this
def Ug(a:∀i,i<Z ls->p i<=Z (BX ls i)){v:Nat}(b:v<=Z (BX ls t)):∀i,i<Z ls->ZQ p t v i<=Z (BX ls i):=by
 intro i c;unfold ZQ;split
 .rename_i e;rw[e];exact b
 .exact a i c
variable {at_:Nat}
def To.next(h:To lt ls t s ag at_ p m)(f:ag+1<Z ls):PZ lt ls (Fv (Z ls) t) s (ag+1) (ZQ p t at_) m:=by
 refine⟨Vd h.tk,f,λi b d=>h.win i b (eS h.tk h.agk b d),Ug h.ple (Nat.le_of_lt h.hlt),λi b j c a=>?_,⟨_,Fi h.tk,h.win t h.tk (oj rfl)⟩,h.sound,h.low,h.zM,h.zm⟩;unfold ZQ at a;split at a
 .rename_i e;subst e;exact h.here j c a
 .exact h.below i b j c a
def To.common(h:To lt ls t s ag at_ p m)(b:ag+1=Z ls):Kw ls s:=by
 intro l c;obtain⟨i,a,rfl⟩:=dG c;exact h.win i a (gq h.tk b a)
def To.yP(h:To lt ls t s ag at_ p m)(e:ag+1=Z ls):(∀y∈m++[s],Kw ls y)/\(m++[s]).Pairwise (λa b=>lt a b=jj):=by
 refine⟨λy c=>?_,?_⟩
 .rcases lw.1 c with c|c
  .exact h.sound y c
  .rw[kY]at c;subst c;exact h.common e
 .rw[oP];refine⟨h.zM,by simp,λa f b d=>?_⟩;rw[kY]at d;subst d;exact h.low a f
def To.last(o:Pu lt eq)(k:C9 lt (BX ls t))(h:To lt ls t s ag at_ p m)(g:ag+1=Z ls)(i:at_+1=Z (BX ls t)):∀y,y∈m++[s]↔Kw ls y:=by
 intro y;refine⟨(h.yP g).1 y,λb=>?_⟩;rw[lw,kY];rcases h.zm y b with a|a
 .exact oi a
 .right;obtain⟨j,f,e⟩:=lX (b _ (Fi h.tk));by_cases d:j<at_
  .have:=h.here j f d;rw[e,a]at this;cases this
  ·(have c:j=at_:=by omega);subst c;rw[<-e];exact h.yD
def To.more(o:Pu lt eq)(q:C9 lt (BX ls t))(h:To lt ls t s ag at_ p m)(n:ag+1=Z ls)(f:at_+1<Z (BX ls t)):PZ lt ls (Fv (Z ls) t) (BX ls t)[at_+1] 0 (ZQ p t (at_+1)) (m++[s])/\Vi lt (BX ls t)[at_+1] ls<Vi lt s ls:=by
 have b:lt s (BX ls t)[at_+1]=jj:=by
  have:=q at_ (at_+1) h.hlt f (by omega);rw[h.yD]at this;exact this
 have w:0<Z ls:=by have:=h.tk;omega
 refine⟨⟨Vd h.tk,w,λi r v=>absurd v RS,Ug h.ple (Nat.le_of_lt f),λi r j d c=>?_,⟨_,Fi h.tk,kV f⟩,(h.yP n).1,λy a=>?_,(h.yP n).2,λy a=>?_⟩,ZA o b ⟨_,Fi h.tk,h.win t h.tk (oj rfl)⟩⟩
 .unfold ZQ at c;split at c
  .rename_i e;subst e;by_cases g:j<at_
   .exact o.trans _ _ _ (h.here j d g) b
   ·(have l:j=at_:=by omega);subst l;rw[h.yD];exact b
  .exact o.trans _ _ _ (h.below i r j d c) b
 .rcases lw.1 a with a|a
  .exact o.trans _ _ _ (h.low y a) b
  .rw[kY]at a;subst a;exact b
 .rw[lw,kY];rcases h.zm y a with k|k
  .exact oi (oi k)
  .by_cases u:y=s
   .exact oi (oj u)
   .right;refine q.zz o f (a _ (Fi h.tk)) (λj d c e=>?_);by_cases g:j<at_
    .have:=h.here j d g;rw[e,k]at this;cases this
    ·(have l:j=at_:=by omega);subst l;rw[h.yD]at e;exact u e.symm
end
