import Derived.WalkKit
import Derived.Deep.AppendLies
import Derived.Deep.QuietTactic
import Derived.BigQuiet
import Derived.Deep.LoopGhost
import Derived.Deep.MidRow
import Derived.Handy
import Derived.Test.YtoihbhenbmffcaaGreatProg
set_option linter.all false
set_option maxHeartbeats 0
open List renaming length->Z,toArray->j1
open Option renaming none->Y,some->V
open Go.Value renaming slice->U,int->X,string->O,pointer->j2,agg->kx,bool->k0
open Bool renaming false->K,true->hG
open Go.IntKind renaming i64->J
open Go.Ending renaming returned->j3
open Or renaming inl->kn,inr->kp
open Go renaming World->kq,Value->ks
open Go.RowKit renaming Hid->kt
open Go.World renaming ownsRow->kw
open ByteArray renaming empty->kB
open Go.Op renaming bytesLess->kH
namespace Go.Proofs.YtoihbhenbmffcaaGreat
open Go.RowKit Go.Proofs.Tryz
abbrev kJ:=@List
abbrev zA:=ByteArray
abbrev ff:=@List.setIfInBounds_toArray
abbrev fg:=@Go.Value.slice.injEq
abbrev fh:=@List.set_cons_zero
abbrev fi:=@List.set_cons_succ
abbrev fj:=@List.getElem_mem
abbrev fm:=@List.take_succ_eq_append_getElem
abbrev fo:=@List.take_of_length_le
abbrev fq:=@Bool.false_eq_true
abbrev ft:=@List.mem_singleton
abbrev fu:=@Option.some.injEq
abbrev fw:=@Go.World.ownsRow.alloc
abbrev fx:=@List.mem_cons
abbrev fA:=@List.mem_append
abbrev fB:=@if_neg
abbrev fC:=@List.mem_map
abbrev fD:=@List.length_cons
abbrev fE:=@List.length_append
abbrev fF:=@if_pos
abbrev fG:=@List.getD_eq_getElem?_getD
abbrev fH:=@List.length_map
abbrev fI:=@List.getElem?_eq_getElem
abbrev fJ:=@Nat.le_refl
abbrev fK:=@Go.World.ownsRow_nil
abbrev fL:=@Go.bodyPost_ret
abbrev fM:=@Go.World.news_of_block
abbrev fN:=@List.flatMap_cons
abbrev fO:=@Go.wpList_append_lies
abbrev fP:=@Nat.zero_le
abbrev fQ:=@List.drop_eq_getElem_cons
abbrev fR:=@List.flatMap_append
abbrev fS:=@List.map_cons
abbrev fT:=@List.mem_filter
abbrev fU:=@Bool.and_eq_true
abbrev fV:=@ByteArray.size_append
abbrev fW:=@List.mem_map_of_mem
abbrev fX:=@Go.heap_alloc_new
abbrev fY:=@Go.World.size_alloc
abbrev fZ:=@List.foldl_cons
abbrev gc:=@List.mem_flatMap
abbrev gd:=@List.append_nil
abbrev gh:=@List.length_nil
abbrev gi:=@Go.Addr.mk.injEq
abbrev gm:=@beq_eq_false_iff_ne
abbrev gn:=@List.map_append
abbrev gq:=@List.length_take
abbrev gr:=@List.drop_eq_nil_of_le
abbrev gu:=@List.mem_cons_of_mem
abbrev gv:=@List.getElem_of_mem
abbrev gA:=@Prod.mk.injEq
abbrev gB:=@Array.getElem?_eq_some_iff
abbrev gC:=@Go.ByteArray.toList_eq
abbrev gD:=@List.length_drop
abbrev gE:=@Nat.zero_add
abbrev gF:=@List.append_assoc
abbrev gG:=@List.take_append_of_le_length
abbrev gH:=@Go.info_parts
abbrev gI:=@List.flatMap_nil
abbrev gJ:=@List.mem_cons_self
abbrev gK:=@Nat.mul_le_mul_right
abbrev gL:=@List.take_append_drop
abbrev gM:=@List.foldl_append
abbrev gN:=@List.map_congr_left
abbrev gO:=@Except.ok.injEq
abbrev gP:=@List.not_mem_nil
abbrev gQ:=@Nat.le_trans
abbrev gR:=@List.map_map
abbrev gS:=@List.size_toArray
abbrev gT:=@List.take_length
abbrev gU:=@Bool.eq_iff_iff
abbrev gV:=@List.any_eq_true
abbrev gW:=@List.filter_cons
abbrev gX:=@Bool.not_false
abbrev gY:=@Go.World.ownsRow.kept
abbrev gZ:=@Go.all_oneCell_toArray
abbrev ia:=@List.nil_append
abbrev ib:=@List.length_filter_le
abbrev ic:=@decide_eq_false
abbrev ie:=@Bool.or_eq_true
abbrev ig:=@List.mem_filterMap
abbrev ii:=@Bool.true_and
abbrev ij:=@List.mem_append_left
abbrev ik:=@List.all_eq_true
abbrev il:=@UInt8.toNat_inj
abbrev im:=@Option.map_some
abbrev io:=@List.getElem?_map
abbrev ip:=@List.any_eq_false
abbrev iq:=@Go.wpList_load_mid
abbrev ir:=@List.pairwise_cons
abbrev it:=@decide_eq_false_iff_not
abbrev iu:=@List.eq_nil_of_length_eq_zero
abbrev iv:=@List.nodup_cons
abbrev iw:=@List.pairwise_iff_getElem
abbrev ix:=@decide_eq_true
abbrev iy:=@List.mem_of_mem_take
abbrev iz:=@Nat.add_mul
abbrev iA:=@ByteArray.size_extract
abbrev iB:=@List.getElem?_take
abbrev iC:=@Bool.false_ne_true
abbrev iD:=@List.filter_append
abbrev iE:=@List.findIdx?_eq_some_iff_getElem
abbrev iF:=@beq_iff_eq
abbrev iG:=@List.Pairwise.imp_of_mem
abbrev iH:=@List.cons.injEq
abbrev iI:=@List.length_replicate
abbrev iJ:=@Go.wpList_store_mid
abbrev iK:=@Bool.not_eq_true'
abbrev iL:=@Int.tdiv_eq_ediv_of_nonneg
abbrev iM:=@Nat.lt_of_lt_of_le
abbrev iN:=@List.find?_eq_none
abbrev iO:=@List.cons_append
abbrev iP:=@Go.Addr.add_lit
abbrev iQ:=@List.pairwise_map
abbrev iR:=@List.length_set
abbrev iS:=@Nat.min_eq_left
abbrev iT:=@List.mem_of_mem_drop
abbrev iU:=@Go.step_append_lies
abbrev iV:=@List.map_nil
abbrev iW:=@Go.decode_ascii
abbrev iX:=@List.take_succ_cons
abbrev iY:=@Bool.and_self
abbrev iZ:=@Bool.false_or
abbrev i6:=@Bool.not_true
abbrev i7:=@List.nodup_nil
abbrev i8:=@UInt8.le_iff_toNat_le
abbrev i9:=@List.find?_cons
abbrev jb:=@Bool.or_eq_false_iff
abbrev jc:=@Bool.and_false
abbrev jd:=@Bool.false_and
abbrev je:=@List.take_take
abbrev jf:=@List.getElem_take
abbrev jg:=@decide_eq_true_eq
abbrev jh:=@Go.Calls.quiet_of_same
abbrev ji:=@List.drop_succ_cons
abbrev jk:=@List.toList_toArray
abbrev jl:=@List.getElem_cons_zero
abbrev jm:=@Option.map_eq_some_iff
abbrev jn:=@Go.IntKind.wrap_i64
abbrev jo:=@Nat.lt_or_eq_of_le
abbrev jp:=@Bool.true_or
abbrev jq:=@List.getElem?_drop
abbrev jr:=@List.any_cons
abbrev js:=@List.all_cons
abbrev jt:=@List.getElem?_eq_some_iff
abbrev ju:=@Array.replicate_succ
abbrev jv:=@Array.replicate_zero
abbrev jw:=@List.getElem_append_left
abbrev jx:=@Option.mem_toList
abbrev jy:=@List.any_map
abbrev jz:=@List.length_eq_zero_iff
abbrev jA:=@List.findSome?_cons
abbrev jB:=@List.append_toArray
abbrev jC:=@List.filter_eq_nil_iff
abbrev jD:=@Option.some.inj
abbrev jE:=@List.getElem_drop
abbrev jF:=@List.nodup_append
abbrev jG:=@List.push_toArray
abbrev jH:=@List.findSome?_eq_none_iff
abbrev jI:=@List.pairwise_append
abbrev jJ:=@List.take_zero
abbrev jK:=@List.drop_zero
abbrev jL:=@Bool.toNat_false
abbrev jM:=@Go.run_callFunc_extern
abbrev jN:=@List.filterMap_cons
abbrev jO:=@Go.Sem.run_bind
abbrev jP:=@Nat.add_zero
abbrev jQ:=@Bool.or_true
abbrev jR:=@Go.results_none
abbrev jS:=@Go.RowKit.Below.heap_setCell
abbrev jT:=@List.any_append
abbrev jU:=@List.zip_cons_cons
abbrev jV:=@of_decide_eq_false
abbrev jW:=@List.getElem?_set_self
abbrev jX:=@Array.getElem?_eq_none
abbrev jY:=@List.find?_append
abbrev jZ:=@Nat.min_def
abbrev j4:=@Go.World.ownsRow_lit
abbrev j5:=@Go.wpIn_seq_k
abbrev j6:=@of_decide_eq_true
abbrev j7:=@Go.run_underlying
abbrev j8:=@List.findSome?_append
abbrev j9:=@decide_false
abbrev kc:=@List.set_append_right
abbrev ke:=@ByteArray.data_append
abbrev kf:=@List.countP_le_length
abbrev kg:=@List.singleton_append
abbrev kh:=@List.contains_iff_mem
abbrev ki:=@List.map_flatMap
abbrev kj:=@Go.decode_high
abbrev kl:=@Bool.or_self
abbrev km:=@List.map_set
variable{w v u:kq}{M:kJ Nat}{b m j n k i:Nat}{y:kJ ks}{T:TypeId}{z:ks}{P:Program}{s:zA}{g:UInt8}
structure Ac(M:kJ Nat)(w w':kq):Prop where
 os:w'.os=w.os
 tape:w'.tape=w.tape
 output:w'.output=w.output
 size:w.heap.size<=w'.heap.size
 block:∀k,k<w.heap.size->k∉M->w'.heap[k]?=w.heap[k]?
def kK{α:Sort _}(a:α):∃b,a=b:=⟨_,rfl⟩
def Ac.refl(M:kJ Nat)(w:kq):Ac M w w:=⟨rfl,rfl,rfl,fJ _,λ_ _ _=>rfl⟩
abbrev kL:=@Ac.refl
def Ac.trans{M:kJ Nat}{a b c:kq}(h:Ac M a b)(k:Ac M b c):Ac M a c:=
 ⟨k.os.trans h.os,k.tape.trans h.tape,k.output.trans h.output,gQ h.size k.size,
  λi e d=>(k.block i (iM e h.size) d).trans (h.block i e d)⟩
def Ac.trans'{M N:kJ Nat}(h:Ac M w v)(k:Ac N v u)(j:∀i,i∈N->i∈M\/w.heap.size<=i):Ac M w u:=
 ⟨k.os.trans h.os,k.tape.trans h.tape,k.output.trans h.output,gQ h.size k.size,
  λi f d=>(k.block i (iM f h.size) (λg=>by rcases j i g with e|e;exact d e;omega)).trans (h.block i f d)⟩
def Ac.mono{M N:kJ Nat}(h:Ac M w v)(a:∀i,i∈M->i∈N):Ac N w v:=
 ⟨h.os,h.tape,h.output,h.size,λk c b=>h.block k c (λd=>b (a k d))⟩
def Ac.drew{M:kJ Nat}{a w:kq}(h:Ac M a w):Ac M a w.drew:=⟨h.os,h.tape,h.output,h.size,h.block⟩
def Ac.drewN{M:kJ Nat}{a w:kq}(h:Ac M a w)(n:Nat):Ac M a (w.drewN n):=⟨h.os,h.tape,h.output,h.size,h.block⟩
def Ac.alloc{M:kJ Nat}{a w:kq}(h:Ac M a w)(o:Obj):Ac M a (w.alloc o):=
 h.trans ⟨rfl,rfl,rfl,by simp,λk b _=>Below.heap_alloc _ _ _ b⟩
def Ac.setCell{M:kJ Nat}{a w:kq}(h:Ac M a w){p:Addr}(b:p.block∈M\/a.heap.size<=p.block)(u:ks):Ac M a (w.setCell p u):=
 h.trans' (N:=[p.block]) ⟨rfl,rfl,rfl,by simp[World.setCell],λk _ c=>jS _ _ _ _ (by simpa using c)⟩ (by simpa using b)
def Ac.grown{d:Option Nat}(h:Ac M v w)(b:w.grownBy u d)(j:∀k,d=V k->k∈M\/v.heap.size<=k):Ac M v u:=
 ⟨b.os.trans h.os,b.tape.trans h.tape,b.output.trans h.output,gQ h.size b.size,
  λi g c=>(b.block i (iM g h.size) (λe=>by rcases j i e.symm with f|f;exact c f;omega)).trans (h.block i g c)⟩
def Ac.below(h:Ac [] w v):Below w.heap.size w v:=⟨h.os,h.tape,h.output,h.size,λk a=>h.block k a (by simp)⟩
def AF(w:kq)(b:Nat)(cs:kJ ks)(t:TypeId):Prop:=w.heap[b]?=V (.cells (j1 cs) t (0,0))
def AF.lt(h:AF w b y T):b<w.heap.size:=(gB.1 h).1
def AF.cell{w:kq}{b:Nat}{a:kJ ks}{t:TypeId}(h:AF w b a t)(i:Nat):w.cell? ⟨b,i,Y⟩=a[i]?:=by
 unfold AF at h;simp[World.cell?,h]
def AF.frozen{w:kq}{b:Nat}{a:kJ ks}{t:TypeId}(h:AF w b a t)(i:Nat):w.frozen? ⟨b,i,Y⟩=K:=by
 unfold AF at h;simp[World.frozen?,h]
def AF.set{w:kq}{b:Nat}{a:kJ ks}{t:TypeId}(h:AF w b a t)(i:Nat)(u:ks):AF (w.setCell ⟨b,i,Y⟩ u) b (a.set i u) t:=by
 unfold AF at*;simp[World.setCell,Array.getElem?_modify,h]
def AF.zB(h:AF w b y T)(p:Addr)(a:p.block≠b)(u:ks):AF (w.setCell p u) b y T:=by
 unfold AF at*;rw[jS _ _ _ _ (λe=>a e.symm)];exact h
def AF.alloc{w:kq}{b:Nat}{a:kJ ks}{t:TypeId}(h:AF w b a t)(o:Obj):AF (w.alloc o) b a t:=by
 have:=h.lt;unfold AF at*;rw[Below.heap_alloc _ _ _ this];exact h
def AF.new(w:kq)(a:kJ ks)(t:TypeId):AF (w.alloc (.cells (j1 a) t)) w.heap.size a t:=by
 exact fX w _
abbrev kN:=@AF.new
def AF.kept{w w':kq}(h:AF w b y T)(k:Ac M w w')(a:b∉M:=by simp):AF w' b y T:=by
 have:=h.lt;unfold AF at*;rw[k.block b this a];exact h
def AF.drew{w:kq}{b:Nat}{a:kJ ks}{t:TypeId}(h:AF w b a t):AF w.drew b a t:=h
def AF.drewN{w:kq}{b:Nat}{a:kJ ks}{t:TypeId}(h:AF w b a t)(n:Nat):AF (w.drewN n) b a t:=h
def AF.range(h:AF w b y T):w.rangeAt b 0 y:=λj v a=>by rw[gE,h.cell];exact a
def AF.there{w:kq}{b:Nat}{a:kJ ks}{t:TypeId}(h:AF w b a t):w.there b 0 (Z a):=λj c=>by
 rw[gE,h.cell,h.frozen];simp[c]
def Ad(h:kw w m T j z n y)(k:Ac M w u)(c:∀i,i∈M->i<m:=by simp):kw u m T j z n y:=by
 refine⟨h.1,?_⟩;rcases h.2 with p|⟨g,d,b,rfl,f,a,l⟩
 .exact .inl p
 .refine .inr ⟨g,d,b,rfl,f,?_,l⟩;rw[k.block g (gB.1 a).1 (λo=>by have:=c g o;omega)];exact a
def Am{v:ks}(h:kw w m T j v n y)(k:Ac M w u)(c:∀i,v.ownBlock=V i->i∉M:=by simp):kw u m T j v n y:=by
 refine⟨h.1,?_⟩;rcases h.2 with o|⟨g,d,b,rfl,f,a,l⟩
 .exact .inl o
 .refine .inr ⟨g,d,b,rfl,f,?_,l⟩;rw[k.block g (gB.1 a).1 (c g rfl)];exact a
def Al{a base':Nat}(h:kw w a T m z n y)(i:base'<=a):kw w base' T m z n y:=by
 refine⟨h.1,?_⟩;rcases h.2 with f|⟨g,c,b,rfl,j,d⟩
 .exact .inl f
 .exact .inr ⟨g,c,b,rfl,by omega,d⟩
def CN(h:kw w m T k z n y):kw w.drew m T k z n y:=h
def Dh(h:kw w m T i z n y)(k:Nat):kw (w.drewN k) m T i z n y:=h
def Af(h:kw w m T k z n y){p:Addr}(b:z.ownBlock≠V p.block)(u:ks):kw (w.setCell p u) m T k z n y:=
 Am h ((kL [p.block] w).setCell (by simp) u) (λi c a=>b (by simp at a;rw[c,a]))
def AS(h:kw w m T i z n y)(k:Nat)(a:k<m):z.ownBlock≠V k:=λT=>by
 have:=(h.lt k T).1;omega
def AF.grown{a:Option Nat}(h:AF w b y T)(k:w.grownBy v a)(c:a≠V b):AF v b y T:=by
 have:=h.lt;unfold AF at*;rw[k.block b this (λe=>c e.symm)];exact h
def BK{c:Func}{p:Tmp}(h:c.results=#[.cell p T]){a:Array ks}{t:TypeId}{d:TypeDesc}
  (f:a.getD p undef=j2 (V ⟨b,0,Y⟩)) (k:AF w b y t) (j:P.underlying T=V d) (e:d.isRow=hG) (l:(P.info? T).map (·.size)=V (Z y)):
  (results c a).run P w=.ok (kx (j1 y)) w:=by
 have i:=run_loadVar_mid (P:=P) w b 0 T y d k.range j e l;have g:a[p]?.getD undef=j2 (V ⟨b,0,Y⟩):=by simpa using f
 simp only[results,h];simp[jO,Result.andThen,g,i,asAddr]
def An{fn:Func}{p u:Tmp}(h:fn.results=#[.cell p T,.tmp u]){a:Array ks}{t:TypeId}{d:TypeDesc}
  (e:a.getD p undef=j2 (V ⟨b,0,Y⟩)) (i:AF w b y t) (g:P.underlying T=V d) (c:d.isRow=hG) (j:(P.info? T).map (·.size)=V (Z y)):
  (results fn a).run P w=.ok (.tuple #[kx (j1 y),a.getD u undef]) w:=by
 have f:=run_loadVar_mid (P:=P) w b 0 T y d i.range g c j;rw[results_cell_tmp h];simp[jO,Result.andThen,e,f,asAddr]
def B5(h:kw w m T k z n y):∃b a,z=U b n a:=by
 rcases h.2 with⟨rfl,rfl⟩|⟨g,a,c,rfl,_⟩
 .exact⟨Y,0,rfl⟩
 .exact⟨_,a,rfl⟩
def US{α:Type}(f:α->kJ ks)(a:Nat):∀(l:kJ α),(∀x∈l,Z (f x)=a)->∀(i:Nat) (b:i<Z l) (k:Nat),k<a->(l.flatMap f)[i*a+k]?=(f l[i])[k]?
 |[],_,i,b,_,_=>by simp at b
 |x::l,h,0,_,k,hk=>by
  have c:=h x (by simp);simp only[fN,Nat.zero_mul,gE,jl];rw[List.getElem?_append_left (by omega)]
 |x::l,h,i+1,b,k,hk=>by
  have c:=h x (by simp);have ih:=US f a l (λy d=>h y (by simp[d])) i (by simpa using b) k hk;simp only[fN,List.getElem_cons_succ];rw[List.getElem?_append_right (by rw[c,iz];omega),c,iz,Nat.one_mul,show i*a+a+k-a=i*a+k by omega];exact ih
def AC{α:Type}{f:α->kJ ks}{l:kJ α}(h:kw w m T n z (Z l) (l.flatMap f))(d:∀x∈l,Z (f x)=n)(i:Nat)(u:i<Z l):
  ∃g a,z=U (V ⟨g,0,Y⟩) (Z l) a/\Z l<=a/\∀j (b:j<Z l) k,k<n->w.cell? ⟨g,j*n+k,Y⟩=(f l[j])[k]?:=by
 rcases h.2 with⟨_,s⟩|⟨g,a,r,rfl,_,p,q,_,t,o⟩
 .omega
 .refine⟨g,a,rfl,q,λj b k c=>?_⟩;rw[<-US f n l d j b k c,<-o,iB,fF (by have:(j+1)*n<=Z l*n:=gK _ b;rw[iz]at this;omega)];simp[World.cell?,p]
def Aj(h:kw w m T k z n y):∃b a,z=U b n a:=B5 h
def Ah(x:zA):kJ ks:=[O x]
def Ab{p:Prop}(h:p):kt p:=h
def kI{P:Program}{Q:Exit->Act->kq->Prop}{a:Act}{w:kq}{x y:Code}(h:∀K:Act->kq->Prop,kt (∀a w,y.wp P Q a w->K a w)->x.wp P (Exit.then K Q) a w):(Code.seq x y).wp P Q a w:=wp_seq_k λK k=>h K (Ab k)
def Aa{p:Prop}(h:kt p):p:=h
theorem Tryz.zk:(Tryz.prog.info? 9).map (λi=>(i.zero,i.size,i.bytes))=V (V (O ⟨#[]⟩),1,16):=by kernel_rfl
def BL(s:zA)(at_:Nat)(bad:Bool):kJ ks:=[O s,X J at_,k0 bad]
def Az(c:UInt8):Bool:=97<=c&&c<=122
def Dk(c:UInt8):Bool:=65<=c&&c<=90
def Aq(c:UInt8):Bool:=48<=c&&c<=57
def Di(c:UInt8):Bool:=c==32||c==10
def Bb{a b:Bool}(h:a=b):j3 (k0 a)=j3 (k0 b):=by rw[h]
def cH{k:IntKind}{a b:Int}(h:a=b):j3 (X k a)=j3 (X k b):=by rw[h]
theorem It(n:Int)(c:UInt8)(w:kq)(h:n=c.toNat):Calls prog 137 #[X .u8 n] w λe a=>e=j3 (k0 (Az c))/\a=w:=by
 subst h;go_enter func137,ntmps137;go_wp2;all_goals go_ret
 all_goals refine⟨Bb ?_,rfl⟩
 all_goals (rw[gU];simp[Az,i8];try omega)
theorem MZ(n:Int)(c:UInt8)(w:kq)(h:n=c.toNat):Calls prog 138 #[X .u8 n] w λe a=>e=j3 (k0 (Dk c))/\a=w:=by
 subst h;go_enter func138,ntmps138;go_wp2;all_goals go_ret
 all_goals refine⟨Bb ?_,rfl⟩
 all_goals (rw[gU];simp[Dk,i8];try omega)
theorem CJ(n:Int)(c:UInt8)(w:kq)(h:n=c.toNat):Calls prog 122 #[X .u8 n] w λe a=>e=j3 (k0 (Aq c))/\a=w:=by
 subst h;go_enter func122,ntmps122;go_wp2;all_goals go_ret
 all_goals refine⟨Bb ?_,rfl⟩
 all_goals (rw[gU];simp[Aq,i8];try omega)
def Ae(s:zA)(at_:Nat):Nat:=
 if h:at_<s.size then(if Di s[at_] then Ae s (at_+1)else at_)else at_
def AN(s:zA)(at_:Nat)(bad:Bool):Nat:=if bad then at_ else Ae s at_
def Bj(s:zA)(a:Nat)(h:a<=s.size):Ae s a<=s.size:=by
 fun_induction Ae s a<;>omega
def BR(s:zA)(a:Nat):a<=Ae s a:=by
 fun_induction Ae s a<;>omega
def J7(s:zA)(a:Nat):AN s a hG=a:=rfl
def P9(s:zA)(a:Nat)(h:¬a<s.size)(b:Bool):AN s a b=a:=by
 unfold AN;rw[Ae];simp[h]
def WF(s:zA)(a:Nat)(h:a<s.size)(b:Di s[a]=hG):AN s a K=AN s (a+1) K:=by
 unfold AN;rw[Ae];simp[h,b]
def U9(s:zA)(a:Nat)(h:a<s.size)(b:Di s[a]=K):AN s a K=a:=by
 unfold AN;rw[Ae];simp[h,b]
def Ck(c k:UInt8):((c.toNat:Int)==(k.toNat:Int))=(c==k):=by
 rw[gU];simp only[iF];constructor
 .intro h;exact il.1 (by omega)
 .intro h;rw[h]
def Tw(c:UInt8):(((c.toNat:Int)==32)=hG/\Di c=hG)\/(((c.toNat:Int)==32)=K/\((c.toNat:Int)==10)=hG/\Di c=hG)\/
  (((c.toNat:Int)==32)=K/\((c.toNat:Int)==10)=K/\Di c=K):=by
 have b:((c.toNat:Int)==32)=(c==32):=Ck c 32;have a:((c.toNat:Int)==10)=(c==10):=Ck c 10;rw[b,a];unfold Di;cases(c==32)<;>cases(c==10)<;>simp
theorem DA(b:Nat)(s:zA)(c:Nat)(a:Bool)(w:kq)(M:s.size<=1000000)(D:c<=s.size)(G:AF w b (BL s c a) 81):
  Calls prog 34 #[j2 (V ⟨b,0,Y⟩)] w λe u=>e=j3 (.tuple #[])/\AF u b (BL s (AN s c a) a) 81/\Ac [b] w u:=by
 go_enter func34,ntmps34;go_wp2
 go_loopg [] (s.size-c) (λk wr=>∃j:Nat,j<=s.size/\k=s.size-j/\AN s j a=AN s c a/\AF wr b (BL s j a) 81/\Ac [b] w wr)
 case atStart=>exact⟨c,D,rfl,rfl,G,kL _ _⟩
 case round=>
  obtain⟨j,N,y,x,f,g⟩:=hrel;have B:=f.cell 0;have H:=f.cell 1;have F:=f.cell 2;have P:=f.frozen 1;simp[BL]at B H F;have m:kt (gk=s.size-j/\AN s j a=AN s c a):=⟨y,x⟩;clear y x;have A:AN s j a=j->AF wr b (BL s (AN s c a) a) 81:=λh=>by rw[<-m.out.2,h];exact f
  have p:kt (AN s j a=j->AF wr b (BL s (AN s c a) a) 81):=A;clear A;cases a with
  |true=>
   go_wp2
   go_quiet (fail)
   go_wp2;go_end0;exact⟨rfl,p.out rfl,g.drewN _⟩
  |false=>
   by_cases o:j<s.size
   ·(have L:(j:Int)<(s.size:Int):=by omega);have v:kt (Di s[j]=hG->∃d:Nat,d<=s.size/\s.size-(j+1)=s.size-d/\AN s d K=AN s c K/\∀n,AF ((wr.drewN n).setCell ⟨b,1,Y⟩ (X J (j+1))) b (BL s d K) 81/\Ac [b] w ((wr.drewN n).setCell ⟨b,1,Y⟩ (X J (j+1)))):=by
     intro h;refine⟨j+1,by omega,rfl,?_,λn=>⟨?_,?_⟩⟩
     .rw[<-m.out.2,WF s j o h]
     .exact(f.drewN n).set 1 _
     .exact(g.drewN n).setCell (by simp) _
    rcases Tw s[j] with⟨z,i⟩|⟨z,C,i⟩|⟨z,C,i⟩
    .clear f g;go_wp2
     go_quiet (fail)
     go_wp2
     go_roundg (s.size-(j+1))
     case measure=>have:=m.out.1;omega
     case rel=>
      obtain⟨d,r,t,q,l⟩:=v.out i;exact⟨d,r,t,q,(l _).1,(l _).2⟩
    .clear f g;go_wp2
     go_quiet (fail)
     go_wp2
     go_roundg (s.size-(j+1))
     case measure=>have:=m.out.1;omega
     case rel=>
      obtain⟨d,r,t,q,l⟩:=v.out i;exact⟨d,r,t,q,(l _).1,(l _).2⟩
    .have E:kt (Di s[j]=K):=i;clear i;go_wp2
     go_quiet (fail)
     go_wp2;go_end0;exact⟨rfl,p.out (U9 s j o E.out),g.drewN _⟩
   ·(have I:decide ((j:Int)<(s.size:Int))=K:=by simp;omega);go_wp2
    go_quiet (fail)
    go_wp2;go_end0;exact⟨rfl,p.out (P9 s j o _),g.drewN _⟩
def DV(s:zA)(j:Nat)(c:UInt8):Bool:=if h:j<s.size then s[j]==c else K
def Gq(s:zA)(a:Nat)(b:Bool)(h:a<=s.size):AN s a b<=s.size:=by
 unfold AN;split
 .exact h
 .exact Bj s a h
theorem Qh(b:Nat)(s:zA)(d:Nat)(a:Bool)(n:Int)(c:UInt8)(w:kq)(u:n=c.toNat)(t:s.size<=1000000)(m:d<=s.size)(o:AF w b (BL s d a) 81):
  Calls prog 113 #[j2 (V ⟨b,0,Y⟩),X .u8 n] w λe k=>e=j3 (k0 (!a&&DV s (AN s d a) c))/\AF k b (BL s (AN s d a) a) 81/\Ac [b] w k:=by
 have v:=Gq s d a m;subst u;obtain⟨j,h⟩:=kK (AN s d a);rw[h]at v⊢;have l:kt (AN s d a=j):=h;clear h;go_enter func113,ntmps113;go_wp2_with fail
 refine(DA b s d a _ t m o).mono ?_;rintro e z ⟨rfl,f,g⟩;rw[l.out]at f;clear o l;have p:=f.cell 0;have x:=f.cell 1;have q:=f.cell 2;simp[BL]at p x q;cases a with
 |true=>
  go_wp2
  go_quiet (fail)
  go_wp2;go_ret;exact⟨Bb (by simp),f.drewN _,g.drewN _⟩
 |false=>
  by_cases i:j<s.size
  ·(have A:(j:Int)<(s.size:Int):=by omega);have r:kt (((s[j].toNat:Int)==(c.toNat:Int))=(!false&&DV s j c)):=by
    show _=_;rw[Ck];unfold DV;simp[i]
   go_wp2
   go_quiet (fail)
   go_wp2;go_ret;exact⟨Bb r.out,f.drewN _,g.drewN _⟩
  ·(have y:decide ((j:Int)<(s.size:Int))=K:=by simp;omega);go_wp2
   go_quiet (fail)
   go_wp2;go_ret;exact⟨Bb (by unfold DV;simp[i]),f.drewN _,g.drewN _⟩
def BW(s:zA)(j:Nat)(bad:Bool)(c:UInt8):Nat:=if !bad&&DV s (AN s j bad) c then AN s j bad+1 else AN s j bad
def Fm(h:DV s j g=hG):j<s.size:=by
 unfold DV at h;split at h
 .assumption
 .cases h
def DB(s:zA)(a:Nat)(d:Bool)(c:UInt8)(h:a<=s.size):BW s a d c<=s.size:=by
 unfold BW;have:=Gq s a d h;split
 .rename_i b;simp only[fU]at b;have:=Fm b.2;omega
 .exact this
theorem Mb(b:Nat)(s:zA)(d:Nat)(a:Bool)(n:Int)(c:UInt8)(w:kq)(o:n=c.toNat)(u:s.size<=1000000)(q:d<=s.size)(p:AF w b (BL s d a) 81):
  Calls prog 72 #[j2 (V ⟨b,0,Y⟩),X .u8 n] w λe l=>e=j3 (k0 (!a&&DV s (AN s d a) c))/\AF l b (BL s (BW s d a c) a) 81/\Ac [b] w l:=by
 have t:=Gq s d a q;unfold BW;obtain⟨j,k⟩:=kK (AN s d a);rw[k]at t⊢;obtain⟨h,i⟩:=kK (!a&&DV s j c);rw[i];have g:kt (AN s d a=j/\(!a&&DV s j c)=h/\n=c.toNat):=⟨k,i,o⟩;clear k i o;go_enter func72,ntmps72;go_wp2_with fail
 refine(Qh b s d a n c _ g.out.2.2 u q p).mono ?_;rintro e x ⟨rfl,f,m⟩;rw[g.out.1,g.out.2.1];rw[g.out.1]at f;clear p g;have r:=f.cell 0;have v:=f.cell 1;have y:=f.frozen 1;simp[BL]at r v;cases h with
 |true=>
  go_wp2;go_ret;exact⟨Bb rfl,f.set 1 _,m.setCell (by simp) _⟩
 |false=>
  go_wp2;go_ret;exact⟨Bb rfl,f,m⟩
theorem Mw(b:Nat)(s:zA)(d:Nat)(a:Bool)(n:Int)(c:UInt8)(w:kq)(p:n=c.toNat)(x:s.size<=1000000)(y:d<=s.size)(q:AF w b (BL s d a) 81):
  Calls prog 74 #[j2 (V ⟨b,0,Y⟩),X .u8 n] w λe m=>e=j3 (.tuple #[])/\AF m b (BL s (BW s d a c) (!(!a&&DV s (AN s d a) c))) 81/\Ac [b] w m:=by
 have r:kt ((!a&&DV s (AN s d a) c)=hG->a=K):=by intro h;cases a<;>simp_all
 obtain⟨j,l⟩:=kK (BW s d a c);obtain⟨k,g⟩:=kK (!a&&DV s (AN s d a) c);rw[l,g];rw[g]at r;have i:kt (BW s d a c=j/\(!a&&DV s (AN s d a) c)=k/\n=c.toNat):=⟨l,g,p⟩;clear l g p;go_enter func74,ntmps74;go_wp2_with fail
 refine(Mb b s d a n c _ i.out.2.2 x y q).mono ?_;rintro e t ⟨rfl,f,o⟩;rw[i.out.2.1];rw[i.out.1]at f;clear q i;have v:=f.cell 2;have z:=f.frozen 2;simp[BL]at v;cases k with
 |true=>
  have u:kt (AF t b (BL s j (!true)) 81):=by have e:=r.out rfl;rw[e]at f;exact f
  go_wp2;go_end0;exact⟨rfl,u.out,o⟩
 |false=>
  go_wp2;go_end0;exact⟨rfl,f.set 2 _,o.setCell (by simp) _⟩
def AM(p:UInt8->Bool)(s:zA)(i:Nat):Nat:=
 if h:i<s.size then(if p s[i] then AM p s (i+1)else i)else i
def C3(p:UInt8->Bool)(s:zA)(i:Nat)(h:i<=s.size):AM p s i<=s.size:=by
 fun_induction AM p s i<;>omega
def Cr(p:UInt8->Bool)(s:zA)(i:Nat):i<=AM p s i:=by
 fun_induction AM p s i<;>omega
def Ce(p:UInt8->Bool)(s:zA)(i:Nat)(h:i<s.size)(a:p s[i]=hG):AM p s i=AM p s (i+1):=by
 rw[AM];simp[h,a]
def ER(p:UInt8->Bool)(s:zA)(i:Nat)(h:i<s.size)(a:p s[i]=K):AM p s i=i:=by
 rw[AM];simp[h,a]
def FY(p:UInt8->Bool)(s:zA)(i:Nat)(h:¬i<s.size):AM p s i=i:=by
 rw[AM];simp[h]
def A3(s:zA)(at_:Nat)(bad:Bool):zA×Nat×Bool:=
 if bad then(kB,at_,hG)else
  if AM Az s (Ae s at_)=Ae s at_\/4<AM Az s (Ae s at_)-Ae s at_ then(kB,Ae s at_,hG)
  else(s.extract (Ae s at_) (AM Az s (Ae s at_)),AM Az s (Ae s at_),K)
def DT(a:Ae s n=j)(b:AM Az s j=k)(h:k=j\/4<k-j):A3 s n K=(kB,j,hG):=by
 unfold A3;rw[a,b,fB (by simp),fF h]
def JX(a:Ae s n=j)(b:AM Az s j=k)(h:¬(k=j\/4<k-j)):A3 s n K=(s.extract j k,k,K):=by
 unfold A3;rw[a,b,fB (by simp),fB h]
theorem Mj(b:Nat)(s:zA)(c:Nat)(g:Bool)(w:kq)(G:s.size<=1000000)(r:c<=s.size)(n:AF w b (BL s c g) 81):
  Calls prog 111 #[j2 (V ⟨b,0,Y⟩)] w λe y=>e=j3 (O (A3 s c g).1)/\AF y b (BL s (A3 s c g).2.1 (A3 s c g).2.2) 81/\Ac [b] w y:=by
 cases g with
 |true=>
  go_enter func111,ntmps111;go_wp2_with fail
  refine(DA b s c hG _ G r n).mono ?_;rintro e H ⟨rfl,a,d⟩;rw[J7]at a;clear n;have q:=a.cell 0;have x:=a.cell 1;have t:=a.cell 2;have L:=a.frozen 2;simp[BL]at q x t;go_wp2
  go_loop [4] (λi=>i=X J c) (λ_=>0)
  case atStart=>rfl
  case round=>
   subst hrel;go_wp2;go_ret;exact⟨rfl,a.set 2 _,d.setCell (by simp) _⟩
 |false=>
  obtain⟨j,u⟩:=kK (Ae s c);have B:=Bj s c r;rw[u]at B;obtain⟨R,v⟩:=kK (A3 s c K);rw[v];have p:kt (Ae s c=j):=u;have A:kt (A3 s c K=R):=v;clear u v;go_enter func111,ntmps111;go_wp2_with fail
  refine(DA b s c K _ G r n).mono ?_;rintro e H ⟨rfl,a,d⟩;rw[show AN s c K=j from p.out]at a
  clear n;have q:=a.cell 0;have x:=a.cell 1;have t:=a.cell 2;have T:=a.frozen 1;have L:=a.frozen 2;simp[BL]at q x t;go_wp2
  go_loop [4] (λi=>∃k:Nat,i=X J k/\j<=k/\k<=s.size/\AM Az s k=AM Az s j) (λi=>s.size-(intOf i).toNat)
  case atStart=>exact⟨j,rfl,fJ _,B,rfl⟩
  case round=>
   obtain⟨k,rfl,P,S,E⟩:=hrel;have D:kt (AM Az s k=AM Az s j):=E;clear E;have z:kt (AM Az s k=k->(((k:Int)=j\/4<(k:Int)-j)->R=(kB,j,hG))/\(¬((k:Int)=j\/4<(k:Int)-j)->R=(s.extract j k,k,K))):=by
    intro M;(have C:AM Az s j=k:=by rw[<-D.out];exact M);exact⟨λh=>by rw[<-A.out];exact DT p.out C (by omega),λh=>by rw[<-A.out];exact JX p.out C (by omega)⟩
   by_cases o:k<s.size
   ·(have Q:(k:Int)<(s.size:Int):=by omega);by_cases m:Az s[k]=hG
    ·(have I:kt (AM Az s (k+1)=AM Az s j):=by show _=_;rw[<-Ce Az s k o m];exact D.out);go_wp2_with (go_at_call 137;refine(It _ s[k] _ rfl).mono ?_;rintro e N ⟨rfl,rfl⟩;rw[m])
     go_round
     case rel=>exact⟨k+1,by go_num,by omega,by omega,I.out⟩
     case measure=>simp[intOf];omega
    ·(have F:Az s[k]=K:=by simpa using m);have l:=z.out (ER Az s k o F);have f:kt ((((k:Int)=j\/4<(k:Int)-j)->R=(kB,j,hG))/\(¬((k:Int)=j\/4<(k:Int)-j)->R=(s.extract j k,k,K))):=l;clear l m;go_wp2_with (go_at_call 137;refine(It _ s[k] _ rfl).mono ?_;rintro e N ⟨rfl,rfl⟩;rw[F])
     all_goals go_ret
     .rw[f.out.1 (by omega)];exact⟨rfl,a.set 2 _,d.setCell (by simp) _⟩
     .rw[f.out.1 (by simp_all)];exact⟨rfl,a.set 2 _,d.setCell (by simp) _⟩
     .rw[f.out.2 (by simp_all)];exact⟨rfl,a.set 1 _,d.setCell (by simp) _⟩
   .have l:=z.out (FY Az s k o);have f:kt ((((k:Int)=j\/4<(k:Int)-j)->R=(kB,j,hG))/\(¬((k:Int)=j\/4<(k:Int)-j)->R=(s.extract j k,k,K))):=l;clear l;go_wp2;all_goals go_ret
    .rw[f.out.1 (by omega)];exact⟨rfl,a.set 2 _,d.setCell (by simp) _⟩
    .rw[f.out.1 (by simp_all)];exact⟨rfl,a.set 2 _,d.setCell (by simp) _⟩
    .rw[f.out.2 (by simp_all)];exact⟨rfl,a.set 1 _,d.setCell (by simp) _⟩
end Go.Proofs.YtoihbhenbmffcaaGreat
namespace Go.Proofs.YtoihbhenbmffcaaGreat
open Go.RowKit Go.Proofs.Tryz
structure N5{α:Type}(lt:α->α->Bool)(eq:α->α->Bool):Prop where
 trans:∀a b c,lt a b=hG->lt b c=hG->lt a c=hG
 irr:∀a,lt a a=K
 tot:∀a b,lt a b=K->eq a b=K->lt b a=hG
 eqv:∀a b,eq a b=hG↔a=b
def Cz{α:Type}(lt:α->α->Bool)(l:kJ α):Prop:=∀i j (hi:i<Z l) (hj:j<Z l),i<j->lt l[i] l[j]=hG
structure C9{α:Type}(lt:α->α->Bool)(l:kJ α)(k:Nat)(x:α)(at_:Nat):Prop where
 ge:k<=at_
 le:at_<=Z l
 below:∀i (h:i<Z l),k<=i->i<at_->lt l[i] x=hG
 zZ:∀i (h:i<Z l),at_<=i->lt l[i] x=K
section
variable {α:Type} {lt eq:α->α->Bool} {l:kJ α}
def Cz.down(o:N5 lt eq)(d:Cz lt l){i j:Nat}(b:j<Z l)(c:i<=j){x:α}(h:lt l[j] x=hG):lt (l[i]'(by omega)) x=hG:=by
 rcases jo c with a|a
 .exact o.trans _ _ _ (d i j (by omega) b a) h
 .subst a;exact h
def Cz.up(o:N5 lt eq)(c:Cz lt l){i j:Nat}(a:j<Z l)(b:i<=j){x:α}(h:lt (l[i]'(by omega)) x=K):lt l[j] x=K:=by
 cases hh:lt l[j] x with
 |false=>rfl
 |true=>rw[c.down o a b hh]at h;cases h
def DY(eq:α->α->Bool)(l:kJ α)(at_:Nat)(x:α):Bool:=if h:at_<Z l then eq l[at_] x else K
def C9.has(o:N5 lt eq)(j:Cz lt l){x:α}{a:Nat}(h:C9 lt l 0 x a):DY eq l a x=hG↔x∈l:=by
 unfold DY;constructor
 .intro e;split at e
  .rename_i b;have:=(o.eqv _ _).1 e;rw[<-this];exact fj b
  .cases e
 .intro m;obtain⟨i,f,c⟩:=gv m;have k:a<=i:=by
   by_cases g:i<a
   .have:=h.below i f (by omega) g;rw[c,o.irr]at this;cases this
   .omega
  have b:a<Z l:=by omega
  rw[dif_pos b];rcases jo k with d|d
  .have:=j a i b f d;rw[c]at this;rw[h.zZ a b (fJ _)]at this;cases this
  .subst d;rw[c];exact(o.eqv _ _).2 rfl
def Fq(l:kJ α)(at_:Nat)(x:α):kJ α:=l.take at_++x::l.drop at_
def Kf{at_:Nat}(h:at_<=Z l)(x:α):Z (Fq l at_ x)=Z l+1:=by
 simp[Fq];omega
def Nt{a:Nat}(x y:α):y∈Fq l a x↔y=x\/y∈l:=by
 unfold Fq;rw[fA,fx];have:y∈l↔y∈l.take a\/y∈l.drop a:=by rw[<-fA,gL]
 rw[this];constructor
 .rintro (h|h|h)
  .exact kp (kn h)
  .exact kn h
  .exact kp (kp h)
 .rintro (h|h|h)
  .exact kp (kn h)
  .exact kn h
  .exact kp (kp h)
def Qs:Cz lt l↔l.Pairwise (λa b=>lt a b=hG):=by
 unfold Cz;rw[iw]
def C9.zH(o:N5 lt eq)(g:Cz lt l){x:α}{c:Nat}(h:C9 lt l 0 x c)(m:DY eq l c x=K):Cz lt (Fq l c x):=by
 rw[Qs]at g⊢;have n:∀a∈l.take c,lt a x=hG:=by
  intro a f;obtain⟨i,k,d⟩:=gv f;simp only[gq]at k;rw[jf]at d;rw[<-d];exact h.below i (by omega) (by omega) (by omega)
 have q:∀b∈l.drop c,lt x b=hG:=by
  intro b e;obtain⟨i,k,d⟩:=gv e;simp only[gD]at k;rw[jE]at d;have j:c<Z l:=by omega
  have p:lt x l[c]=hG:=by
   apply o.tot _ _ (h.zZ c j (fJ _));unfold DY at m;rw[dif_pos j]at m;exact m
  rw[<-d];by_cases r:i=0
  .subst r;simpa using p
  .exact o.trans _ _ _ p ((Qs.2 g) c (c+i) j (by omega) (by omega))
 unfold Fq;rw[jI];refine⟨g.sublist (List.take_sublist _ _),?_,?_⟩
 .rw[ir];exact⟨q,g.sublist (List.drop_sublist _ _)⟩
 .intro a f b e;rcases fx.1 e with rfl|e
  .exact n a f
  .exact o.trans _ _ _ (n a f) (q b e)
def Cz.nodup(o:N5 lt eq)(c:Cz lt l):l.Nodup:=by
 rw[Qs]at c;exact c.imp (fun{a b} h e=>by subst e;rw[o.irr]at h;cases h)
end
def Fe(a b:zA):Bool:=kH a.toList b.toList
def dn(a b:zA):Bool:=a.toList==b.toList
def NW(a b:Int):Bool:=decide (a<b)
def dO(a b:Int):Bool:=a==b
def Mh:∀a b c:kJ UInt8,kH a b=hG->kH b c=hG->kH a c=hG
 |a,b,[],_,h=>by cases b<;>simp[kH]at h
 |[],b,_::_,_,_=>rfl
 |_::_,[],_::_,h,_=>by simp[kH]at h
 |x::a,y::b,z::c,e,d=>by
  simp only[kH,ie,jg,fU,iF]at e d⊢;rcases e with e|⟨rfl,e⟩
  .rcases d with d|⟨rfl,d⟩
   .exact kn (UInt8.lt_trans e d)
   .exact kn e
  .rcases d with d|⟨rfl,d⟩
   .exact kn d
   .exact kp ⟨rfl,Mh a b c e d⟩
def Oz:∀a:kJ UInt8,kH a a=K
 |[]=>rfl
 |x::a=>by simp[kH,Oz a]
def QG:∀a b:kJ UInt8,kH a b=K->(a==b)=K->kH b a=hG
 |[],[],_,h=>by simp at h
 |[],_::_,h,_=>by simp[kH]at h
 |_::_,[],_,_=>rfl
 |x::a,y::b,h,h2=>by
  simp only[kH,ie,jg,fU,iF,jb,it,Bool.and_eq_false_imp]at h⊢;by_cases c:x=y
  .subst c;refine kp ⟨rfl,QG a b (h.2 rfl) ?_⟩;simpa using h2
  .left;have d:=h.1;rw[UInt8.lt_iff_toNat_lt]at d⊢;(have:x.toNat≠y.toNat:=λe=>c (il.1 e));omega
def Gp:N5 Fe dn:=
 ⟨λa b c=>Mh _ _ _,λa=>Oz _,λa b=>QG _ _,λa b=>by
  unfold dn
  simp only[iF]
  exact⟨λh=>by
   rw[gC,gC]at h
   exact ByteArray.ext (Array.toList_inj.1 h),λh=>by rw[h]⟩⟩
def QC:N5 NW dO:=
 ⟨λa b c d e=>by simp[NW]at*;omega,λa=>by simp[NW],λa b d e=>by simp[NW,dO]at*;omega,λa b=>by simp[dO]⟩
end Go.Proofs.YtoihbhenbmffcaaGreat
namespace Go.Proofs.YtoihbhenbmffcaaGreat
open Go.RowKit Go.Proofs.Tryz
variable{n j k m b:Nat}{s:zA}{w:kq}{T:TypeId}{y:kJ ks}{I:Int}
theorem Rd(hT:(n=9/\j=110)\/(n=98/\j=80))(lv:ks)(l:kJ zA)(k:Nat)(x:zA)(BT:Nat)(w:kq)(T:kw w BT n 1 lv (Z l) (l.flatMap Ah))(FC:Z l<=1000000)(hk:k<=Z l)(W:Cz Fe l):
  Calls prog j #[lv,X J k,O x] w λe w'=>∃I:Nat,e=j3 (X J I)/\C9 Fe l k x I/\w'=w:=by
 obtain⟨ad,CL,rfl⟩:=Aj T;have u:=Ab W;have F:kt (∀i (h:i<Z l),∃g,ad=V ⟨g,0,Y⟩/\Z l<=CL/\w.cell? ⟨g,i,Y⟩=V (O l[i])):=by
  intro i hi;obtain⟨g,E0,he,N,CW⟩:=AC T (by simp[Ah]) i hi;simp only[fg]at he;obtain⟨rfl,_,rfl⟩:=he;have L:=CW i hi 0 (by omega);simp[Ah]at L;exact⟨g,rfl,N,L⟩
 clear W;rcases hT with⟨rfl,rfl⟩|⟨rfl,rfl⟩
 case' inl=>go_enter func110,ntmps110
 case' inr=>go_enter func80,ntmps80
 all_goals
  go_wp2
  go_loop [7,8] (λa s=>∃(f q:Nat),a=X J f/\s=X J q/\k<=f/\f<=Z l/\1<=q/\q<=2*Z l+1/\kt (∀i (h:i<Z l),k<=i->i<f->Fe l[i] x=hG)) (λa s=>Z l-(intOf a).toNat)
  case atStart=>exact⟨k,1,by go_num,rfl,fJ _,hk,fJ _,by omega,λi h o y=>by omega⟩
  case round=>
   obtain⟨f,q,rfl,rfl,G,FA,FF,FO,r⟩:=hrel;by_cases FL:f+q<=Z l
   .obtain⟨g,Bx,FB,N⟩:=F (f+q-1) (by omega);(have EY:((f+q-1:Nat):Int)=(f:Int)+(q:Int)-1:=by omega);(have FP:((f:Int)+(q:Int)-1).toNat=f+q-1:=by omega);subst Bx;have EX:kt (Fe l[f+q-1] x=hG->∀i (h:i<Z l),k<=i->i<f+q->Fe l[i] x=hG):=by
     intro p i h o y;exact u.down Gp (by omega) (by omega) p
    have EM:kt (Fe l[f+q-1] x=K->∀i (h:i<Z l),f+q-1<=i->Fe l[i] x=K):=by
     intro p i h o;exact u.up Gp h o p
    go_wp2
    .refine⟨⟨f+q,q*2,by go_num,by go_num,by omega,by omega,by omega,by omega,EX (by first|assumption|(simp[Fe];omega))⟩,?_⟩;simp[intOf];omega
    ·
     have v:kt (∀i (h:i<Z l),(f+q-1)<=i->Fe l[i] x=K):=EM (by first|assumption|(simp[Fe];omega))
     go_loop [7,9,10] (λa h m=>∃(b d:Nat),a=X J b/\h=X J d/\k<=b/\b<=d/\d<=Z l/\kt (∀i (h:i<Z l),k<=i->i<b->Fe l[i] x=hG)/\kt (∀i (h:i<Z l),d<=i->Fe l[i] x=K)) (λa h m=>(intOf h).toNat-(intOf a).toNat)
     case atStart=>exact⟨f,(f+q-1),rfl,by go_num,G,by omega,by omega,r,v⟩
     case round=>
      clear r v;obtain⟨b,d,rfl,rfl,o,y,D,r,t⟩:=hrel;by_cases H:b<d
      .obtain⟨c,AR⟩:=kK (b+(d-b)/2);(have P:b<=c:=by omega);(have Q:c<d:=by omega);(have C:(b:Int)+((d:Int)-(b:Int))/2=(c:Int):=by omega);(have R:(b:Int)+((d:Int)-(b:Int)).tdiv 2=(c:Int):=by rw[iL (by omega)];exact C);obtain⟨M,z,Ax,S⟩:=F c (by omega);have A:kt (Fe l[c] x=hG->∀i (h:i<Z l),k<=i->i<c+1->Fe l[i] x=hG):=by
        intro p i h o y;exact u.down Gp (by omega) (by omega) p
       have B:kt (Fe l[c] x=K->∀i (h:i<Z l),c<=i->Fe l[i] x=K):=by
        intro p i h o;exact u.up Gp h o p
       simp only[fu,gi,and_true]at z;subst z;go_wp2
       .refine⟨⟨c+1,d,by go_num,rfl,by omega,by omega,D,A (by first|assumption|(simp[Fe];omega)),t⟩,?_⟩;simp[intOf];omega
       .refine⟨⟨b,c,rfl,by go_num,o,by omega,by omega,r,B (by first|assumption|(simp[Fe];omega))⟩,?_⟩;simp[intOf];omega
      .have E:kt (C9 Fe l k x b):=⟨o,by omega,r,λi h p=>t i h (by omega)⟩;go_wp2;go_ret;exact⟨b,rfl,E,rfl⟩
   .go_wp2
    ·
     have v:kt (∀i (h:i<Z l),Z l<=i->Fe l[i] x=K):=λi h p=>by omega
     go_loop [7,9,10] (λa h m=>∃(b d:Nat),a=X J b/\h=X J d/\k<=b/\b<=d/\d<=Z l/\kt (∀i (h:i<Z l),k<=i->i<b->Fe l[i] x=hG)/\kt (∀i (h:i<Z l),d<=i->Fe l[i] x=K)) (λa h m=>(intOf h).toNat-(intOf a).toNat)
     case atStart=>exact⟨f,Z l,rfl,by go_num,G,by omega,by omega,r,v⟩
     case round=>
      clear r v;obtain⟨b,d,rfl,rfl,o,y,D,r,t⟩:=hrel;by_cases H:b<d
      .obtain⟨c,AR⟩:=kK (b+(d-b)/2);(have P:b<=c:=by omega);(have Q:c<d:=by omega);(have C:(b:Int)+((d:Int)-(b:Int))/2=(c:Int):=by omega);(have R:(b:Int)+((d:Int)-(b:Int)).tdiv 2=(c:Int):=by rw[iL (by omega)];exact C);obtain⟨M,z,Ax,S⟩:=F c (by omega);have A:kt (Fe l[c] x=hG->∀i (h:i<Z l),k<=i->i<c+1->Fe l[i] x=hG):=by
        intro p i h o y;exact u.down Gp (by omega) (by omega) p
       have B:kt (Fe l[c] x=K->∀i (h:i<Z l),c<=i->Fe l[i] x=K):=by
        intro p i h o;exact u.up Gp h o p
       subst z;go_wp2
       .refine⟨⟨c+1,d,by go_num,rfl,by omega,by omega,D,A (by first|assumption|(simp[Fe];omega)),t⟩,?_⟩;simp[intOf];omega
       .refine⟨⟨b,c,rfl,by go_num,o,by omega,by omega,r,B (by first|assumption|(simp[Fe];omega))⟩,?_⟩;simp[intOf];omega
      .have E:kt (C9 Fe l k x b):=⟨o,by omega,r,λi h p=>t i h (by omega)⟩;go_wp2;go_ret;exact⟨b,rfl,E,rfl⟩
    all_goals
     have v:kt (∀i (h:i<Z l),(f+q-1)<=i->Fe l[i] x=K):=λi h p=>by omega
     go_loop [7,9,10] (λa h m=>∃(b d:Nat),a=X J b/\h=X J d/\k<=b/\b<=d/\d<=Z l/\kt (∀i (h:i<Z l),k<=i->i<b->Fe l[i] x=hG)/\kt (∀i (h:i<Z l),d<=i->Fe l[i] x=K)) (λa h m=>(intOf h).toNat-(intOf a).toNat)
     case atStart=>exact⟨f,(f+q-1),rfl,by go_num,G,by omega,by omega,r,v⟩
     case round=>
      clear r v;obtain⟨b,d,rfl,rfl,o,y,D,r,t⟩:=hrel;by_cases H:b<d
      .obtain⟨c,AR⟩:=kK (b+(d-b)/2);(have P:b<=c:=by omega);(have Q:c<d:=by omega);(have C:(b:Int)+((d:Int)-(b:Int))/2=(c:Int):=by omega);(have R:(b:Int)+((d:Int)-(b:Int)).tdiv 2=(c:Int):=by rw[iL (by omega)];exact C);obtain⟨M,z,Ax,S⟩:=F c (by omega);have A:kt (Fe l[c] x=hG->∀i (h:i<Z l),k<=i->i<c+1->Fe l[i] x=hG):=by
        intro p i h o y;exact u.down Gp (by omega) (by omega) p
       have B:kt (Fe l[c] x=K->∀i (h:i<Z l),c<=i->Fe l[i] x=K):=by
        intro p i h o;exact u.up Gp h o p
       subst z;go_wp2
       .refine⟨⟨c+1,d,by go_num,rfl,by omega,by omega,D,A (by first|assumption|(simp[Fe];omega)),t⟩,?_⟩;simp[intOf];omega
       .refine⟨⟨b,c,rfl,by go_num,o,by omega,by omega,r,B (by first|assumption|(simp[Fe];omega))⟩,?_⟩;simp[intOf];omega
      .have E:kt (C9 Fe l k x b):=⟨o,by omega,r,λi h p=>t i h (by omega)⟩;go_wp2;go_ret;exact⟨b,rfl,E,rfl⟩
def Rf(a:ks)(l:kJ zA)(k:Nat)(x:zA)(c:Nat)(w:kq)(g:kw w c 9 1 a (Z l) (l.flatMap Ah))(i:Z l<=1000000)(d:k<=Z l)(h:Cz Fe l):
  Calls prog 110 #[a,X J k,O x] w λe f=>∃b:Nat,e=j3 (X J b)/\C9 Fe l k x b/\f=w:=
 Rd (kn ⟨rfl,rfl⟩) a l k x c w g i d h
def AU(x:Int):kJ ks:=[X .i32 x]
theorem Rg(lv:ks)(l:kJ Int)(k:Nat)(x:Int)(Bx:Nat)(w:kq)(R:kw w Bx 21 1 lv (Z l) (l.flatMap AU))(E0:Z l<=1000000)(hk:k<=Z l)(S:Cz NW l):
  Calls prog 167 #[lv,X J k,X .i32 x] w λe w'=>∃G:Nat,e=j3 (X J G)/\C9 NW l k x G/\w'=w:=by
 obtain⟨ad,BT,rfl⟩:=Aj R;have r:=Ab S;have D:kt (∀i (h:i<Z l),∃g,ad=V ⟨g,0,Y⟩/\Z l<=BT/\w.cell? ⟨g,i,Y⟩=V (X .i32 l[i])):=by
  intro i W;obtain⟨g,EM,he,L,B9⟩:=AC R (by simp[AU]) i W;simp only[fg]at he;obtain⟨rfl,_,rfl⟩:=he;have H:=B9 i W 0 (by omega);simp[AU]at H;exact⟨g,rfl,L,H⟩
 clear S;go_enter func167,ntmps167;go_wp2
 go_loop [7,8] (λa s=>∃(f o:Nat),a=X J f/\s=X J o/\k<=f/\f<=Z l/\1<=o/\o<=2*Z l+1/\kt (∀i (h:i<Z l),k<=i->i<f->NW l[i] x=hG)) (λa s=>Z l-(intOf a).toNat)
 case atStart=>exact⟨k,1,by go_num,rfl,fJ _,hk,fJ _,by omega,λi h j u=>by omega⟩
 case round=>
  obtain⟨f,o,rfl,rfl,E,EX,FA,FC,p⟩:=hrel;by_cases FB:f+o<=Z l
  .obtain⟨g,AR,EY,L⟩:=D (f+o-1) (by omega);(have EK:((f+o-1:Nat):Int)=(f:Int)+(o:Int)-1:=by omega);(have FF:((f:Int)+(o:Int)-1).toNat=f+o-1:=by omega);subst AR;have CW:kt (NW l[f+o-1] x=hG->∀i (h:i<Z l),k<=i->i<f+o->NW l[i] x=hG):=by
    intro n i h j u;exact r.down QC (by omega) (by omega) n
   have CL:kt (NW l[f+o-1] x=K->∀i (h:i<Z l),f+o-1<=i->NW l[i] x=K):=by
    intro n i h j;exact r.up QC h j n
   go_wp2
   .refine⟨⟨f+o,o*2,by go_num,by go_num,by omega,by omega,by omega,by omega,CW (by first|assumption|(simp[NW];omega))⟩,?_⟩;simp[intOf];omega
   ·
    have t:kt (∀i (h:i<Z l),(f+o-1)<=i->NW l[i] x=K):=CL (by first|assumption|(simp[NW];omega))
    go_loop [7,9,10] (λa h m=>∃(b d:Nat),a=X J b/\h=X J d/\k<=b/\b<=d/\d<=Z l/\kt (∀i (h:i<Z l),k<=i->i<b->NW l[i] x=hG)/\kt (∀i (h:i<Z l),d<=i->NW l[i] x=K)) (λa h m=>(intOf h).toNat-(intOf a).toNat)
    case atStart=>exact⟨f,(f+o-1),rfl,by go_num,E,by omega,by omega,p,t⟩
    case round=>
     clear p t;obtain⟨b,d,rfl,rfl,j,u,B,p,q⟩:=hrel;by_cases F:b<d
     .obtain⟨c,AB⟩:=kK (b+(d-b)/2);(have M:b<=c:=by omega);(have N:c<d:=by omega);(have A:(b:Int)+((d:Int)-(b:Int))/2=(c:Int):=by omega);(have P:(b:Int)+((d:Int)-(b:Int)).tdiv 2=(c:Int):=by rw[iL (by omega)];exact A);obtain⟨I,v,T,Q⟩:=D c (by omega);have y:kt (NW l[c] x=hG->∀i (h:i<Z l),k<=i->i<c+1->NW l[i] x=hG):=by
       intro n i h j u;exact r.down QC (by omega) (by omega) n
      have z:kt (NW l[c] x=K->∀i (h:i<Z l),c<=i->NW l[i] x=K):=by
       intro n i h j;exact r.up QC h j n
      simp only[fu,gi,and_true]at v;subst v;go_wp2
      .refine⟨⟨c+1,d,by go_num,rfl,by omega,by omega,B,y (by first|assumption|(simp[NW];omega)),q⟩,?_⟩;simp[intOf];omega
      .refine⟨⟨b,c,rfl,by go_num,j,by omega,by omega,p,z (by first|assumption|(simp[NW];omega))⟩,?_⟩;simp[intOf];omega
     .have C:kt (C9 NW l k x b):=⟨j,by omega,p,λi h n=>q i h (by omega)⟩;go_wp2;go_ret;exact⟨b,rfl,C,rfl⟩
  .go_wp2
   ·
    have t:kt (∀i (h:i<Z l),Z l<=i->NW l[i] x=K):=λi h n=>by omega
    go_loop [7,9,10] (λa h m=>∃(b d:Nat),a=X J b/\h=X J d/\k<=b/\b<=d/\d<=Z l/\kt (∀i (h:i<Z l),k<=i->i<b->NW l[i] x=hG)/\kt (∀i (h:i<Z l),d<=i->NW l[i] x=K)) (λa h m=>(intOf h).toNat-(intOf a).toNat)
    case atStart=>exact⟨f,Z l,rfl,by go_num,E,by omega,by omega,p,t⟩
    case round=>
     clear p t;obtain⟨b,d,rfl,rfl,j,u,B,p,q⟩:=hrel;by_cases F:b<d
     .obtain⟨c,AB⟩:=kK (b+(d-b)/2);(have M:b<=c:=by omega);(have N:c<d:=by omega);(have A:(b:Int)+((d:Int)-(b:Int))/2=(c:Int):=by omega);(have P:(b:Int)+((d:Int)-(b:Int)).tdiv 2=(c:Int):=by rw[iL (by omega)];exact A);obtain⟨I,v,T,Q⟩:=D c (by omega);have y:kt (NW l[c] x=hG->∀i (h:i<Z l),k<=i->i<c+1->NW l[i] x=hG):=by
       intro n i h j u;exact r.down QC (by omega) (by omega) n
      have z:kt (NW l[c] x=K->∀i (h:i<Z l),c<=i->NW l[i] x=K):=by
       intro n i h j;exact r.up QC h j n
      subst v;go_wp2
      .refine⟨⟨c+1,d,by go_num,rfl,by omega,by omega,B,y (by first|assumption|(simp[NW];omega)),q⟩,?_⟩;simp[intOf];omega
      .refine⟨⟨b,c,rfl,by go_num,j,by omega,by omega,p,z (by first|assumption|(simp[NW];omega))⟩,?_⟩;simp[intOf];omega
     .have C:kt (C9 NW l k x b):=⟨j,by omega,p,λi h n=>q i h (by omega)⟩;go_wp2;go_ret;exact⟨b,rfl,C,rfl⟩
   ·
    have t:kt (∀i (h:i<Z l),(f+o-1)<=i->NW l[i] x=K):=λi h n=>by omega
    go_loop [7,9,10] (λa h m=>∃(b d:Nat),a=X J b/\h=X J d/\k<=b/\b<=d/\d<=Z l/\kt (∀i (h:i<Z l),k<=i->i<b->NW l[i] x=hG)/\kt (∀i (h:i<Z l),d<=i->NW l[i] x=K)) (λa h m=>(intOf h).toNat-(intOf a).toNat)
    case atStart=>exact⟨f,(f+o-1),rfl,by go_num,E,by omega,by omega,p,t⟩
    case round=>
     clear p t;obtain⟨b,d,rfl,rfl,j,u,B,p,q⟩:=hrel;by_cases F:b<d
     .obtain⟨c,AB⟩:=kK (b+(d-b)/2);(have M:b<=c:=by omega);(have N:c<d:=by omega);(have A:(b:Int)+((d:Int)-(b:Int))/2=(c:Int):=by omega);(have P:(b:Int)+((d:Int)-(b:Int)).tdiv 2=(c:Int):=by rw[iL (by omega)];exact A);obtain⟨I,v,T,Q⟩:=D c (by omega);have y:kt (NW l[c] x=hG->∀i (h:i<Z l),k<=i->i<c+1->NW l[i] x=hG):=by
       intro n i h j u;exact r.down QC (by omega) (by omega) n
      have z:kt (NW l[c] x=K->∀i (h:i<Z l),c<=i->NW l[i] x=K):=by
       intro n i h j;exact r.up QC h j n
      subst v;go_wp2
      .refine⟨⟨c+1,d,by go_num,rfl,by omega,by omega,B,y (by first|assumption|(simp[NW];omega)),q⟩,?_⟩;simp[intOf];omega
      .refine⟨⟨b,c,rfl,by go_num,j,by omega,by omega,p,z (by first|assumption|(simp[NW];omega))⟩,?_⟩;simp[intOf];omega
     .have C:kt (C9 NW l k x b):=⟨j,by omega,p,λi h n=>q i h (by omega)⟩;go_wp2;go_ret;exact⟨b,rfl,C,rfl⟩
structure AG where
 v:UInt8
 s:zA
def AP(t:AG):kJ ks:=[X .u8 t.v.toNat,O t.s]
def AK(s:zA)(at_:Nat)(bad:Bool):AG×Nat×Bool:=
 if bad then(⟨0,kB⟩,at_,hG)else
 if h:Ae s at_<s.size then
  if Dk s[Ae s at_] then(⟨s[Ae s at_],kB⟩,Ae s at_+1,K)
  else if !Aq s[Ae s at_] then(⟨0,(A3 s (Ae s at_) K).1⟩,(A3 s (Ae s at_) K).2)
  else if 3<AM Aq s (Ae s at_)-Ae s at_\/(s[Ae s at_]=48/\1<AM Aq s (Ae s at_)-Ae s at_)then(⟨0,kB⟩,Ae s at_,hG)
  else(⟨0,s.extract (Ae s at_) (AM Aq s (Ae s at_))⟩,AM Aq s (Ae s at_),K)
 else(⟨0,kB⟩,Ae s at_,hG)
theorem ZA(b:Nat)(s:zA)(c:Nat)(w:kq)(m:s.size<=1000000)(n:c<=s.size)(f:AF w b (BL s c hG) 81):
  Calls prog 112 #[j2 (V ⟨b,0,Y⟩)] w λe g=>e=j3 (kx #[X .u8 0,O kB])/\AF g b (BL s c hG) 81/\Ac [b] w g:=by
 have q:=f.lt;go_enter func112,ntmps112;go_wp2_with fail
 refine(DA b s c hG _ m n (f.alloc _)).mono ?_;rintro e p ⟨rfl,a,h⟩;rw[J7]at a;clear f;have d:=(kN w _ _).kept h (by simp;omega);have k:=d.cell 0;have l:=d.cell 1;have t:=d.frozen;have i:=a.cell 0;have o:=a.cell 1;have j:=a.cell 2;have r:=a.frozen 2;simp[BL]at i o j k l;go_wp2
 go_quiet (fail)
 go_wp2;refine fL (BK rfl rfl ((((d.drewN _).zB _ (by simp;omega) _).set 0 _).set 1 _) underlying135 rfl (by kernel_rfl)) rfl ⟨rfl,?_,?_⟩
 .exact(((a.drewN _).set 2 _).zB _ (by simp;omega) _).zB _ (by simp;omega) _
 .exact(((((kL _ _).alloc _).trans h).drewN _).setCell (by simp) _|>.setCell (by simp) _).setCell (by simp) _
theorem ZM(b:Nat)(s:zA)(a j:Nat)(w:kq)(r:s.size<=1000000)(k:a<=s.size)(f:Ae s a=j)(x:¬j<s.size)(g:AF w b (BL s a K) 81):
  Calls prog 112 #[j2 (V ⟨b,0,Y⟩)] w λe h=>e=j3 (kx #[X .u8 0,O kB])/\AF h b (BL s j hG) 81/\Ac [b] w h:=by
 have z:=g.lt;have o:=Bj s a k;rw[f]at o;have i:kt (Ae s a=j):=f;clear f;go_enter func112,ntmps112;go_wp2_with fail
 refine(DA b s a K _ r k (g.alloc _)).mono ?_;rintro e v ⟨rfl,c,l⟩;rw[show AN s a K=j from i.out]at c
 clear g i;have d:=(kN w _ _).kept l (by simp;omega);have n:=d.cell 0;have q:=d.cell 1;have y:=d.frozen;have m:=c.cell 0;have t:=c.cell 1;have p:=c.cell 2;have B:=c.frozen 1;have A:=c.frozen 2;simp[BL]at m t p n q;have u:decide ((s.size:Int)<=(j:Int))=hG:=by simp;omega
 go_wp2
 go_quiet (fail)
 go_wp2;refine fL (BK rfl rfl ((((d.drewN _).zB _ (by simp;omega) _).set 0 _).set 1 _) underlying135 rfl (by kernel_rfl)) rfl ⟨rfl,?_,?_⟩
 .exact(((c.drewN _).set 2 _).zB _ (by simp;omega) _).zB _ (by simp;omega) _
 .exact(((((kL _ _).alloc _).trans l).drewN _).setCell (by simp) _|>.setCell (by simp) _).setCell (by simp) _
theorem Vw(b:Nat)(s:zA)(a j:Nat)(w:kq)(t:s.size<=1000000)(k:a<=s.size)(f:Ae s a=j)(y:j<s.size)(q:Dk s[j]=hG)(g:AF w b (BL s a K) 81):
  Calls prog 112 #[j2 (V ⟨b,0,Y⟩)] w λe h=>e=j3 (kx #[X .u8 s[j].toNat,O kB])/\AF h b (BL s (j+1) K) 81/\Ac [b] w h:=by
 have B:=g.lt;have o:=Bj s a k;rw[f]at o;have i:kt (Ae s a=j):=f;clear f;go_enter func112,ntmps112;go_wp2_with fail
 refine(DA b s a K _ t k (g.alloc _)).mono ?_;rintro e x ⟨rfl,c,l⟩;rw[show AN s a K=j from i.out]at c
 clear g i;have d:=(kN w _ _).kept l (by simp;omega);have n:=d.cell 0;have r:=d.cell 1;have A:=d.frozen;have m:=c.cell 0;have u:=c.cell 1;have p:=c.cell 2;have D:=c.frozen 1;have C:=c.frozen 2;simp[BL]at m u p n r;have v:decide ((s.size:Int)<=(j:Int))=K:=by simp;omega
 have z:(j:Int)<(s.size:Int):=by omega
 go_wp2
 go_quiet (fail)
 go_wp2
 go_quiet (fail)
 go_wp2_with (go_at_call 138;refine(MZ _ s[j] _ rfl).mono ?_;rintro e E ⟨rfl,rfl⟩;rw[q])
 refine fL (BK rfl rfl ((((d.drewN _).zB _ (by simp;omega) _).set 0 _).set 1 _) underlying135 rfl (by kernel_rfl)) rfl ⟨rfl,?_,?_⟩
 .exact(((c.drewN _).set 1 _).zB _ (by simp;omega) _).zB _ (by simp;omega) _
 .exact(((((kL _ _).alloc _).trans l).drewN _).setCell (by simp) _|>.setCell (by simp) _).setCell (by simp) _
theorem YO(b:Nat)(s:zA)(a j:Nat)(w:kq)(t:s.size<=1000000)(n:a<=s.size)(g:Ae s a=j)(L:j<s.size)(D:Dk s[j]=K)(y:Aq s[j]=K)(h:AF w b (BL s a K) 81):
  Calls prog 112 #[j2 (V ⟨b,0,Y⟩)] w λe i=>e=j3 (kx #[X .u8 0,O (A3 s j K).1])/\AF i b (BL s (A3 s j K).2.1 (A3 s j K).2.2) 81/\Ac [b] w i:=by
 have P:=h.lt;have A:=Bj s a n;rw[g]at A;have k:kt (Ae s a=j):=g;clear g;go_enter func112,ntmps112;go_wp2_with fail
 refine(DA b s a K _ t n (h.alloc _)).mono ?_;rintro e I ⟨rfl,c,o⟩;rw[show AN s a K=j from k.out]at c
 clear h k;have f:=(kN w _ _).kept o (by simp;omega);have m:=f.cell 0;have r:=f.cell 1;have z:=f.frozen;have l:=c.cell 0;have v:=c.cell 1;have q:=c.cell 2;have G:=c.frozen 1;have F:=c.frozen 2;simp[BL]at l v q m r;have H:decide ((s.size:Int)<=(j:Int))=K:=by simp;omega
 have N:(j:Int)<(s.size:Int):=by omega
 have Q:∀(x:Bool) (w:kq),(Op.unary .not (k0 x)).run prog w=.ok (k0 (!x)) w:=λ_ _=>rfl
 go_wp2
 go_quiet (fail)
 go_wp2
 go_quiet (fail)
 go_wp2_with (first|(go_at_call 138;refine(MZ _ s[j] _ rfl).mono ?_;rintro e u ⟨rfl,rfl⟩;rw[D])|(go_at_call 122;refine(CJ _ s[j] _ rfl).mono ?_;rintro e u ⟨rfl,rfl⟩;rw[y]))
 refine(Mj b s j K _ t (by omega) (c.drewN _)).mono ?_;rintro e u ⟨rfl,E,p⟩;have d:=(f.drewN _).kept p (by simp;omega);have B:=d.cell 0;have C:=d.cell 1;have M:=d.frozen;simp at B C;clear z m r G F l v q;go_wp2;refine fL (BK rfl rfl ((d.set 0 _).set 1 _) underlying135 rfl (by kernel_rfl)) rfl ⟨rfl,?_,?_⟩
 .exact(E.zB _ (by simp;omega) _).zB _ (by simp;omega) _
 .exact(((((kL _ _).alloc _).trans o).drewN _).trans p|>.setCell (by simp) _).setCell (by simp) _
def Gw(s:zA)(j k:Nat):AG×Nat×Bool:=
 if 3<k-j\/(DV s j 48=hG/\1<k-j)then(⟨0,kB⟩,j,hG)else(⟨0,s.extract j k⟩,k,K)
def N1(h:(3:Int)<((k-j:Nat):Int)):Gw s j k=(⟨0,kB⟩,j,hG):=by
 unfold Gw;rw[fF (by omega)]
def Xf(a:j<s.size)(c:UInt8):DV s j c=hG↔(s[j].toNat:Int)=c.toNat:=by
 unfold DV;simp only[a,dite_true,iF];constructor
 .intro h;rw[h]
 .intro h;exact il.1 (by omega)
def NI(b:j<s.size)(h:(s[j].toNat:Int)=48)(a:(3:Int)<((k-j:Nat):Int)\/(1:Int)<((k-j:Nat):Int)):Gw s j k=(⟨0,kB⟩,j,hG):=by
 unfold Gw;rw[fF (by rcases a with a|a;exact kn (by omega);exact kp ⟨(Xf b 48).2 h,by omega⟩)]
def PQ(h:((k-j:Nat):Int)<=3)(a:((k-j:Nat):Int)<=1):Gw s j k=(⟨0,s.extract j k⟩,k,K):=by
 unfold Gw;rw[fB (by omega)]
def Pc(b:j<s.size)(h:¬(s[j].toNat:Int)=48)(c:((k-j:Nat):Int)<=3):Gw s j k=(⟨0,s.extract j k⟩,k,K):=by
 unfold Gw;rw[fB (by rintro (a|⟨a,_⟩);omega;exact h ((Xf b 48).1 a))]
theorem TO(b:Nat)(s:zA)(g j:Nat)(w:kq)(R:AG×Nat×Bool)(N:s.size<=1000000)(z:g<=s.size)(q:Ae s g=j)(h:j<s.size)(I:Dk s[j]=K)(y:Aq s[j]=hG)
  (p:kt (R=Gw s j (AM Aq s j)))
  (r:AF w b (BL s g K) 81):
  Calls prog 112 #[j2 (V ⟨b,0,Y⟩)] w λe u=>e=j3 (kx (j1 (AP R.1)))/\AF u b (BL s R.2.1 R.2.2) 81/\Ac [b] w u:=by
 have AR:=r.lt;have A:=Bj s g z;rw[q]at A;have v:kt (Ae s g=j):=q;clear q;go_enter func112,ntmps112;go_wp2_with fail
 refine(DA b s g K _ N z (r.alloc _)).mono ?_;rintro e S ⟨rfl,a,d⟩;rw[show AN s g K=j from v.out]at a
 clear r v;have c:=(kN w _ _).kept d (by simp;omega);have E:=c.cell 0;have M:=c.cell 1;have AB:=c.frozen;have D:=a.cell 0;have G:=a.cell 1;have H:=a.cell 2;have BT:=a.frozen 1;have BA:=a.frozen 2;simp[BL]at D G H E M;have Q:decide ((s.size:Int)<=(j:Int))=K:=by simp;omega
 have Ax:(j:Int)<(s.size:Int):=by omega
 have AT:∀(x:Bool) (w:kq),(Op.unary .not (k0 x)).run prog w=.ok (k0 (!x)) w:=λ_ _=>rfl
 go_wp2
 go_quiet (fail)
 go_wp2
 go_quiet (fail)
 go_wp2_with (first|(go_at_call 138;refine(MZ _ s[j] _ rfl).mono ?_;rintro e t ⟨rfl,rfl⟩;rw[I])|(go_at_call 122;refine(CJ _ s[j] _ rfl).mono ?_;rintro e t ⟨rfl,rfl⟩;rw[y]))
 go_loop [4] (λi=>∃k:Nat,i=X J k/\j<=k/\k<=s.size/\AM Aq s k=AM Aq s j) (λi=>s.size-(intOf i).toNat)
 case atStart=>exact⟨j,rfl,fJ _,A,rfl⟩
 case round=>
  obtain⟨k,rfl,W,AH,B⟩:=hrel;have m:kt (AM Aq s k=AM Aq s j):=B;clear B;have B9:(j:Int)<=(k:Int):=by omega
  have T:(k:Int)<=(s.size:Int):=by omega
  have l:kt (AM Aq s k=k->R=Gw s j k):=by
   intro P;(have F:AM Aq s j=k:=by rw[<-m.out];exact P);rw[p.out,F]
  by_cases o:k<s.size
  ·(have Bx:(k:Int)<(s.size:Int):=by omega);by_cases n:Aq s[k]=hG
   ·(have L:kt (AM Aq s (k+1)=AM Aq s j):=by show _=_;rw[<-Ce Aq s k o n];exact m.out);clear y;go_wp2_with (go_at_call 122;refine(CJ _ s[k] _ rfl).mono ?_;rintro e t ⟨rfl,rfl⟩;rw[n])
    go_round
    case rel=>exact⟨k+1,by go_num,by omega,by omega,L.out⟩
    case measure=>simp[intOf];omega
   ·(have C:Aq s[k]=K:=by simpa using n);have f:kt (R=Gw s j k):=l.out (ER Aq s k o C);clear n l p m;go_wp2_with (go_at_call 122;refine(CJ _ s[k] _ rfl).mono ?_;rintro e t ⟨rfl,rfl⟩;rw[C])
    go_quiet (fail)
    go_wp2
    .rw[f.out,NI h (by assumption) (by assumption)];refine fL (BK rfl rfl ((((c.drewN _).zB _ (by simp;omega) _).set 0 _).set 1 _) underlying135 rfl (by kernel_rfl)) rfl ⟨rfl,?_,?_⟩
     .exact(((a.drewN _).set 2 _).zB _ (by simp;omega) _).zB _ (by simp;omega) _
     .exact(((((kL _ _).alloc _).trans d).drewN _).setCell (by simp) _|>.setCell (by simp) _).setCell (by simp) _
    .rw[f.out,PQ (by omega) (by omega)];refine fL (BK rfl rfl ((((c.drewN _).zB _ (by simp;omega) _).set 0 _).set 1 _) underlying135 rfl (by kernel_rfl)) rfl ⟨rfl,?_,?_⟩
     .exact(((a.drewN _).set 1 _).zB _ (by simp;omega) _).zB _ (by simp;omega) _
     .exact(((((kL _ _).alloc _).trans d).drewN _).setCell (by simp) _|>.setCell (by simp) _).setCell (by simp) _
    .rw[f.out,Pc h (by assumption) (by omega)];refine fL (BK rfl rfl ((((c.drewN _).zB _ (by simp;omega) _).set 0 _).set 1 _) underlying135 rfl (by kernel_rfl)) rfl ⟨rfl,?_,?_⟩
     .exact(((a.drewN _).set 1 _).zB _ (by simp;omega) _).zB _ (by simp;omega) _
     .exact(((((kL _ _).alloc _).trans d).drewN _).setCell (by simp) _|>.setCell (by simp) _).setCell (by simp) _
    .rw[f.out,N1 (by omega)];refine fL (BK rfl rfl ((((c.drewN _).zB _ (by simp;omega) _).set 0 _).set 1 _) underlying135 rfl (by kernel_rfl)) rfl ⟨rfl,?_,?_⟩
     .exact(((a.drewN _).set 2 _).zB _ (by simp;omega) _).zB _ (by simp;omega) _
     .exact(((((kL _ _).alloc _).trans d).drewN _).setCell (by simp) _|>.setCell (by simp) _).setCell (by simp) _
  .have f:kt (R=Gw s j k):=l.out (FY Aq s k o);clear l p m;go_wp2
   go_quiet (fail)
   go_wp2
   .rw[f.out,NI h (by assumption) (by assumption)];refine fL (BK rfl rfl ((((c.drewN _).zB _ (by simp;omega) _).set 0 _).set 1 _) underlying135 rfl (by kernel_rfl)) rfl ⟨rfl,?_,?_⟩
    .exact(((a.drewN _).set 2 _).zB _ (by simp;omega) _).zB _ (by simp;omega) _
    .exact(((((kL _ _).alloc _).trans d).drewN _).setCell (by simp) _|>.setCell (by simp) _).setCell (by simp) _
   .rw[f.out,PQ (by omega) (by omega)];refine fL (BK rfl rfl ((((c.drewN _).zB _ (by simp;omega) _).set 0 _).set 1 _) underlying135 rfl (by kernel_rfl)) rfl ⟨rfl,?_,?_⟩
    .exact(((a.drewN _).set 1 _).zB _ (by simp;omega) _).zB _ (by simp;omega) _
    .exact(((((kL _ _).alloc _).trans d).drewN _).setCell (by simp) _|>.setCell (by simp) _).setCell (by simp) _
   .rw[f.out,Pc h (by assumption) (by omega)];refine fL (BK rfl rfl ((((c.drewN _).zB _ (by simp;omega) _).set 0 _).set 1 _) underlying135 rfl (by kernel_rfl)) rfl ⟨rfl,?_,?_⟩
    .exact(((a.drewN _).set 1 _).zB _ (by simp;omega) _).zB _ (by simp;omega) _
    .exact(((((kL _ _).alloc _).trans d).drewN _).setCell (by simp) _|>.setCell (by simp) _).setCell (by simp) _
   .rw[f.out,N1 (by omega)];refine fL (BK rfl rfl ((((c.drewN _).zB _ (by simp;omega) _).set 0 _).set 1 _) underlying135 rfl (by kernel_rfl)) rfl ⟨rfl,?_,?_⟩
    .exact(((a.drewN _).set 2 _).zB _ (by simp;omega) _).zB _ (by simp;omega) _
    .exact(((((kL _ _).alloc _).trans d).drewN _).setCell (by simp) _|>.setCell (by simp) _).setCell (by simp) _
def Qn(b:Nat)(s:zA)(a:Nat)(i:Bool)(w:kq)(g:s.size<=1000000)(h:a<=s.size)(f:AF w b (BL s a i) 81):
  Calls prog 112 #[j2 (V ⟨b,0,Y⟩)] w λe k=>e=j3 (kx (j1 (AP (AK s a i).1)))/\AF k b (BL s (AK s a i).2.1 (AK s a i).2.2) 81/\Ac [b] w k:=by
 cases i with
 |true=>exact ZA b s a w g h f
 |false=>
  obtain⟨j,d⟩:=kK (Ae s a);by_cases c:j<s.size
  .cases hu:Dk s[j] with
   |true=>
    (have e:AK s a K=(⟨s[j],kB⟩,j+1,K):=by unfold AK;subst d;simp[c,hu]);rw[e];exact Vw b s a j w g h d c hu f
   |false=>
    cases hd:Aq s[j] with
    |false=>
     (have e:AK s a K=(⟨0,(A3 s j K).1⟩,(A3 s j K).2):=by unfold AK;subst d;simp[c,hu,hd]);rw[e];exact YO b s a j w g h d c hu hd f
    |true=>
     refine TO b s a j w _ g h d c hu hd ?_ f;show _=_;unfold AK Gw DV;subst d;simp[c,hu,hd]
  ·(have e:AK s a K=(⟨0,kB⟩,j,hG):=by unfold AK;subst d;simp[c]);rw[e];exact ZM b s a j w g h d c f
def D7(r:Int):Int:=
 if 97<=r/\r<=122 then 2 else if 48<=r/\r<=57 then 3 else if 65<=r/\r<=90 then 4
 else if r=58\/r=46\/r=44\/r=33\/r=61\/r=35\/r=60\/r=40\/r=41 then 5 else 0
theorem Jh(r:Int)(w:kq):Calls prog 129 #[X .i32 r] w λe a=>e=j3 (X J (D7 r))/\a=w:=by
 go_enter func129,ntmps129;go_wp2;all_goals
  go_ret;refine⟨cH ?_,rfl⟩
  try simp only[gm,iF,ne_eq]at*
  unfold D7
  (repeat' split)<;>omega
structure A0 where
 kind:Int
 place:Nat
 text:zA
def A9(m:A0):kJ ks:=[X J m.kind,X J m.place,O m.text]
def CA(m:A0)(place:Nat)(r:Int):Bool:=
 if m.place+m.text.size≠place then K
 else if m.kind=2\/m.kind=3 then D7 r==m.kind
 else if m.kind=5 then(m.text.toList==[58])&&r==45
 else K
theorem Vx(m:A0)(d:Nat)(r:Int)(w:kq)(q:m.place<=1000000)(t:m.text.size<=1000000)(s:d<=1000000):
  Calls prog 128 #[kx (j1 (A9 m)),X J d,X .i32 r] w λe p=>e=j3 (k0 (CA m d r))/\Ac [] w p:=by
 simp only[A9];obtain⟨G,h⟩:=kK (CA m d r);rw[h];have a:=h;unfold CA at a;clear h;by_cases g:m.place+m.text.size=d
 .have o:((m.place:Int)+(m.text.size:Int) !=(d:Int))=K:=by simp;omega
  rw[fB (by omega)]at a;by_cases b:m.kind=2\/m.kind=3
  .rw[fF b]at a;have c:kt ((D7 r==m.kind)=G):=a;clear a g;(have j:∀n:Nat,True:=λ_=>trivial);clear j;rcases b with b|b
   ·(have i:(m.kind==2)=hG:=by simp[b]);clear b;go_enter func128,ntmps128;go_wp2_with fail
    go_quiet ((go_at_call 129;exact jh (Jh _ _)))
    go_wp2;go_ret;exact⟨Bb c.out,((kL _ _).alloc _).drewN _⟩
   ·(have i:(m.kind==2)=K:=by simp[b]);(have l:(m.kind==3)=hG:=by simp[b]);clear b;go_enter func128,ntmps128;go_wp2_with fail
    go_quiet ((go_at_call 129;exact jh (Jh _ _)))
    go_wp2;go_ret;exact⟨Bb c.out,((kL _ _).alloc _).drewN _⟩
  .rw[fB b]at a;(have i:(m.kind==2)=K:=by simp;omega);(have l:(m.kind==3)=K:=by simp;omega);by_cases f:m.kind=5
   .rw[fF f]at a;(have k:(m.kind==5)=hG:=by simp[f]);have c:kt (((m.text.toList==[58])&&r==45)=G):=a;clear a g b f;go_enter func128,ntmps128;go_wp2;all_goals
     go_ret;refine⟨Bb ?_,(kL _ _).alloc _⟩;rw[<-c.out]
     simp_all
   .rw[fB f]at a;(have k:(m.kind==5)=K:=by simp[f]);have c:kt (K=G):=a;clear a g b f;go_enter func128,ntmps128;go_wp2;go_ret;exact⟨Bb c.out,(kL _ _).alloc _⟩
 .have o:((m.place:Int)+(m.text.size:Int) !=(d:Int))=hG:=by simp;omega
  rw[fF (by omega)]at a;have c:kt (K=G):=a;clear a g;go_enter func128,ntmps128;go_wp2;go_ret;exact⟨Bb c.out,(kL _ _).alloc _⟩
def Z7(h:0<s.size):DV s 0 48=((s[0].toNat:Int)==48):=by
 have e:((s[0].toNat:Int)==48)=(s[0]==48):=Ck s[0] 48;rw[e];simp[DV,h]
def IE(m:A0):Bool:=
 if m.kind=2 then decide (m.text.size<=4)
 else if m.kind=3 then decide (m.text.size=1)||(decide (m.text.size<=3)&& !(DV m.text 0 48))
 else hG
theorem TK(m:A0)(w:kq)(o:m.text.size<=1000000)(g:m.kind=3->0<m.text.size):
  Calls prog 98 #[kx (j1 (A9 m))] w λe j=>e=j3 (k0 (IE m))/\Ac [] w j:=by
 simp only[A9];obtain⟨G,h⟩:=kK (IE m);rw[h];have a:=h;unfold IE at a;clear h;by_cases b:m.kind=2
 .have l:(m.kind==2)=hG:=by simp[b]
  rw[fF b]at a;have c:kt (decide (m.text.size<=4)=G):=a;clear a b g;go_enter func98,ntmps98;go_wp2;go_ret;refine⟨Bb ?_,(kL _ _).alloc _⟩;rw[<-c.out];simp
  try omega
 .have l:(m.kind==2)=K:=by simp[b]
  rw[fB b]at a;by_cases d:m.kind=3
  ·(have i:(m.kind==3)=hG:=by simp[d]);have k:=g d;(have n:(0:Int)<(m.text.size:Int):=by omega);rw[fF d,Z7 k]at a;have c:kt ((decide (m.text.size=1)||(decide (m.text.size<=3)&& !((m.text[0].toNat:Int)==48)))=G):=a;clear a b d g;go_enter func98,ntmps98;go_wp2
   .go_ret;refine⟨Bb ?_,(kL _ _).alloc _⟩;(have f:m.text.size=1:=by omega);rw[<-c.out];simp[f]
   .go_ret;refine⟨Bb ?_,(kL _ _).alloc _⟩;(have f:¬m.text.size=1:=by omega);(have b:m.text.size<=3:=by omega);rw[<-c.out];simp only[f,b,j9,decide_true,iZ,ii];simp[bne];omega
   .go_ret;refine⟨Bb ?_,(kL _ _).alloc _⟩;(have f:¬m.text.size=1:=by omega);(have b:¬m.text.size<=3:=by omega);rw[<-c.out];simp[f,b];omega
  ·(have i:(m.kind==3)=K:=by simp[d]);rw[fB d]at a;have c:kt (hG=G):=a;clear a b d g;go_enter func98,ntmps98;go_wp2;go_ret;exact⟨Bb c.out,(kL _ _).alloc _⟩
theorem Tryz.info150:(Tryz.prog.info? 150).map (λi=>(i.zero,i.size,i.bytes))=V (V (kx #[X J 0,X J 0,O ⟨#[]⟩]),3,32):=by kernel_rfl
def Gf(m:A0):Z (A9 m)=3:=rfl
def FK(h:kw w m T k (U (V ⟨j,0,Y⟩) n b) n y)(i:Nat)(u:ks):
  kw (w.setCell ⟨j,i,Y⟩ u) m T k (U (V ⟨j,0,Y⟩) n b) n (y.set i u):=by
 refine⟨by rw[iR];exact h.1,?_⟩;rcases h.2 with⟨a,_⟩|⟨s,r,c,a,l,p,q,d,o,f⟩
 .cases a
 .simp only[fg,fu,gi]at a;obtain⟨⟨rfl,_,_⟩,_,rfl⟩:=a;refine kp ⟨j,b,c.setIfInBounds i u,rfl,l,?_,q,d,by simpa using o,?_⟩
  .simp[World.setCell,Array.getElem?_modify,p]
  .rw[Array.toList_setIfInBounds,List.take_set,f]
def GP(h:kw w m T k (U (V ⟨j,0,Y⟩) n b) n y)(i:Nat):w.frozen? ⟨j,i,Y⟩=K:=by
 rcases h.2 with⟨a,_⟩|⟨o,f,d,a,l,c,_⟩
 .cases a
 .simp only[fg,fu,gi]at a;obtain⟨⟨rfl,_,_⟩,_,rfl⟩:=a;simp[World.frozen?,c]
def WJ(r:Int):(Utf8.encode r).size<=4:=by
 unfold Utf8.encode;simp only;generalize(if Utf8.valid r=hG then r.toNat else Utf8.runeError)=c
 repeat' split
 all_goals simp[ByteArray.size]
def Cj(place:Nat)(r:Int):A0:=⟨D7 r,place,Utf8.encode r⟩
def KY(ms:kJ A0)(place:Nat)(r:Int):kJ A0:=
 if r=32\/r=10 then ms
 else match ms.getLast? with
  |some m=>if CA m place r then ms.dropLast++[{m with text:=m.text++Utf8.encode r}] else ms++[Cj place r]
  |none=>ms++[Cj place r]
def ND{pre:kJ A0}{m:A0}{place:Nat}(h:¬(I=32\/I=10)):KY (pre++[m]) place I=if CA m place I then pre++[{m with text:=m.text++Utf8.encode I}] else pre++[m]++[Cj place I]:=by
 unfold KY;rw[fB h];simp
def Zv(b:kJ A0)(m:A0)(u:zA):((b++[m]).flatMap A9).set (Z b*3+2) (O u)=(b++[{m with text:=u}]).flatMap A9:=by
 have c:Z (b.flatMap A9)=Z b*3:=by
  induction b with
  |nil=>rfl
  |cons a l ih=>rw[fN,fE,ih,Gf,fD];omega
 simp only[fR,fN,gI,gd];rw[kc _ _ (by omega),c];simp[A9]
set_option maxRecDepth 100000
theorem cg(mv:ks)(i:kJ A0)(place:Nat)(r:Int)(B:Nat)(w:kq)(hB:B<=w.heap.size)(f:kw w B 150 3 mv (Z i) (i.flatMap A9))(FO:Z i<=1000000)(CL:place<=1000000)
  (y:∀m∈i,m.place<=1000000/\m.text.size<=1000000):
  Calls prog 97 #[mv,X J place,X .i32 r] w λe L=>∃v,e=j3 v/\kw L B 150 3 v (Z (KY i place r)) ((KY i place r).flatMap A9)/\Below B w L:=by
 obtain⟨i0,BA,N,Ax,AH⟩:=gH Tryz.info150;obtain⟨ad,W,rfl⟩:=Aj f;by_cases b:r=32\/r=10
 .have j:kt (KY i place r=i):=by show _=_;unfold KY;rw[fF b]
  rcases b with b|b
  ·(have T:(r==32)=hG:=by simp[b]);clear b;go_enter func97,ntmps97;go_wp2;go_ret;rw[j.out];exact⟨_,rfl,f,Below.refl _ _⟩
  ·(have T:(r==32)=K:=by simp[b]);(have h2:(r==10)=hG:=by simp[b]);clear b;go_enter func97,ntmps97;go_wp2;go_ret;rw[j.out];exact⟨_,rfl,f,Below.refl _ _⟩
 .have T:(r==32)=K:=by simp;omega
  have h2:(r==10)=K:=by simp;omega
  rcases List.eq_nil_or_concat i with rfl|⟨pre,m,P⟩
  ·(have j:kt (KY [] place r=[Cj place r]):=by show _=_;unfold KY;rw[fB b];rfl);have Q:=Jh r w;clear b y;have CC:=Ab Q;clear Q;go_enter func97,ntmps97;(go_wp2_with fail);refine CC.mono ?_;rintro e d ⟨rfl,AR⟩;rw[AR];clear AR d;go_wp2_with (at_builtin;refine fO _ rfl (.tmp 40) (.tmp 47) _ rfl B 150 i0 _ 3 32 underlying144 BA N Ax AH rfl (by omega) (U ad 0 W) 0 [] rfl (fw f _) ⟨w.heap.size,0,Y⟩ 1 1 (A9 (Cj place r)) rfl rfl (fM (fX w _)) (by simp[Value.oneCell',A9]) (by omega) (by unfold maxLen;omega) (by omega) (by simp;omega) (w.heap.size+1) (by simp) ?_;intro g1 EK d F n x o)
   have H:Below B w d:=((Below.refl B w).alloc hB _).grown n (by simp;omega) (λq A=>(f.lt q A).1);clear n x o;go_wp2;go_ret;rw[j.out];refine⟨_,rfl,?_,H⟩;simpa using F
  .rw[List.concat_eq_append]at P;subst P;have j:=Ab (ND (pre:=pre) (m:=m) (place:=place) b);(have p:Z pre<Z (pre++[m]):=by simp);obtain⟨g,FF,he,hc,s⟩:=AC f (λc _=>Gf c) (Z pre) p;simp only[fg]at he;obtain⟨rfl,_,rfl⟩:=he;have I:=s (Z pre) p 0 (by omega);have C:=s (Z pre) p 1 (by omega);have u:=s (Z pre) p 2 (by omega);simp[A9]at I C u;have E:=y m (by simp);have M:=GP f (Z pre*3+2);(have o:Z (pre++[m])=Z pre+1:=by simp);(have FW:Z pre<=1000000:=by omega);have z:=Vx m place r w E.1 E.2 CL;simp only[A9]at z;have S:=Ab z;clear s b z y;rw[o]at f⊢;cases hgo:CA m place r with
   |true=>
    have G:=Ab hgo;go_enter func97,ntmps97;(go_wp2_with fail);refine S.mono ?_;rintro e d ⟨rfl,a⟩;rw[hgo];have l:=Ad f a;have FC:=GP l (Z pre*3+2);have Go:d.cell? ⟨g,Z pre*3+2,Y⟩=V (O m.text):=by
     have FA:=(f.lt g rfl).2;rw[World.cell?_of_block (w:=w) (a.block g FA (by simp))];exact u
    have D:Below B w d:=⟨a.os,a.tape,a.output,a.size,λk hk=>a.block k (by omega) (by simp)⟩;clear I C u M a hgo;have FB:=WJ r;have FP:=E.2;go_wp2;go_ret;rw[Aa j,Aa G,fF rfl];refine⟨_,rfl,?_,D.setCell (f.lt g rfl).1 _⟩;have h:=FK l (Z pre*3+2) (O (m.text++Utf8.encode r));rw[Zv]at h;simpa using h
   |false=>
    have G:=Ab hgo;go_enter func97,ntmps97;(go_wp2_with fail);refine S.mono ?_;rintro e d ⟨rfl,a⟩;rw[hgo];have l:=Ad f a;have D:Below B w d:=⟨a.os,a.tape,a.output,a.size,λk hk=>a.block k (by omega) (by simp)⟩;have FT:=a.size;clear I C u M a hgo;(go_wp2_with fail);refine(Jh r d).mono ?_;rintro e w2 ⟨rfl,R⟩;rw[R];clear R w2;go_wp2_with (at_builtin;refine fO _ rfl (.tmp 40) (.tmp 47) _ rfl B 150 i0 _ 3 32 underlying144 BA N Ax AH rfl (by omega) (U (V ⟨g,0,Y⟩) (Z pre+1) W) (Z pre+1) ((pre++[m]).flatMap A9) rfl (fw l _) ⟨d.heap.size,0,Y⟩ 1 1 (A9 (Cj place r)) rfl rfl (fM (fX d _)) (by simp[Value.oneCell',A9]) (by omega) (by unfold maxLen;omega) (by omega) (by simp;omega) (d.heap.size+1) (by simp) ?_;intro g1 EK w3 F n x o)
    have H:Below B w w3:=(D.alloc (by omega) _).grown n (by simp;omega) (λq A=>(l.lt q A).1);clear n x o;go_wp2;go_ret;rw[Aa j,Aa G,fB (by simp)];refine⟨_,rfl,?_,H⟩;simpa using F
end Go.Proofs.YtoihbhenbmffcaaGreat
namespace Go.Proofs.YtoihbhenbmffcaaGreat
open Go.RowKit Go.Proofs.Tryz
structure GE(F:Type) where
 pos:kJ F
 neg:kJ F
 head:F
section
variable {F:Type} (I:GE F->Prop) (zR:F->Nat)
structure KH:Prop where
 pos:∀i,I i->∀g∈i.pos,zR g<=zR i.head
 neg:∀i,I i->∀g∈i.neg,zR g<zR i.head
def Jn(i:GE F)(P N:F->Prop):Prop:=(∀g∈i.pos,P g)/\∀g∈i.neg,¬N g
def KQ(M:F->Prop):Prop:=∀i,I i->Jn i M M->M i.head
def Jk(M:F->Prop)(n:Nat):Prop:=∀S:F->Prop,(∀f,M f->zR f<n->S f)->(∀i,I i->zR i.head=n->Jn i S M->S i.head)->∀f,M f->zR f=n->S f
def Nb(l:KH I zR){M N:F->Prop}(d:KQ I N)(k:∀n,Jk I zR M n):∀n,(∀f,zR f<n->(M f↔N f))->∀f,M f->zR f=n->N f:=by
 intro n ih f e m;refine k n N (λg a j=>(ih g j).1 a) (λi c o b=>?_) f e m;refine d i c ⟨b.1,λg a h=>b.2 g a ?_⟩;exact(ih g (by have:=l.neg i c g a;omega)).2 h
structure Dw(n:Nat)(s:F->Prop):Prop where
 top:∀f,s f->zR f<=n
 closed:∀i,I i->zR i.head<n->Jn i s s->s i.head
 least:∀m,m<=n->Jk I zR s m
def Dw.start:Dw I zR 0 (λ_=>False):=
 ⟨λf h=>h.elim,λi _ h=>by omega,λm _ S _ _ f h=>h.elim⟩
def Dw.step(p:KH I zR){n:Nat}{s:F->Prop}(h:Dw I zR n s){i:GE F}(q:I i)(k:zR i.head=n)(l:Jn i s s):Dw I zR n (λf=>s f\/f=i.head):=by
 have r:∀j,I j->zR j.head<=n->((∀g∈j.neg,¬(s g\/g=i.head))↔∀g∈j.neg,¬s g):=by
  intro j d v;constructor
  .intro o g a c;exact o g a (kn c)
  .intro o g a c;rcases c with c|c
   .exact o g a c
   .have:=p.neg j d g a;rw[c,k]at this;omega
 refine⟨λf b=>?_,λj d v e=>?_,λm D S t w f b y=>?_⟩
 .rcases b with b|b
  .exact h.top f b
  .rw[b,k];omega
 .refine kn (h.closed j d v ⟨λg a=>?_,(r j d (by omega)).1 e.2⟩);rcases e.1 g a with c|c
  .exact c
  .have:=p.pos j d g a;rw[c,k]at this;omega
 .have u:∀g,s g->zR g=m->S g:=λg a E=>h.least m D S (λx C z=>t x (kn C) z) (λj d B e=>w j d B ⟨e.1,(r j d (by omega)).2 e.2⟩) g a E
  rcases b with b|b
  .exact u f b y
  .subst b;(have A:m=n:=by omega);subst A;refine w i q k ⟨λg a=>?_,(r i q (by omega)).2 l.2⟩;by_cases G:zR g<zR i.head
   .exact t g (kn (l.1 g a)) (by omega)
   .exact u g (l.1 g a) (by have:=p.pos i q g a;omega)
def Dw.next{n:Nat}{s:F->Prop}(h:Dw I zR n s)(g:∀i,I i->zR i.head=n->Jn i s s->s i.head):Dw I zR (n+1) s:=by
 refine⟨λf a=>by have:=h.top f a;omega,λi c l b=>?_,λm k=>?_⟩
 .by_cases d:zR i.head=n
  .exact g i c d b
  .exact h.closed i c (by omega) b
 .by_cases e:m<=n
  .exact h.least m e
  .intro S _ _ f a j;have:=h.top f a;omega
def Dw.done{n:Nat}{s:F->Prop}(h:Dw I zR n s)(e:∀i,I i->zR i.head<n):KQ I s/\∀m,Jk I zR s m:=by
 refine⟨λi a d=>h.closed i a (e i a) d,λm=>?_⟩;by_cases b:m<=n
 .exact h.least m b
 .intro S _ _ f c g;have:=h.top f c;omega
def Dw.cong{n:Nat}{s t:F->Prop}(h:Dw I zR n s)(e:∀f,s f↔t f):Dw I zR n t:=by
 have:s=t:=funext λf=>propext (e f)
 rw[<-this];exact h
end
def Yx{F:Type}(I:GE F->Prop)(a c:F->Nat)(e:KH I a)(A:KH I c){M N:F->Prop}(r:KQ I M)(w:∀n,Jk I a M n)(t:KQ I N)(q:∀n,Jk I c N n):∀f,M f↔N f:=by
 have s:∀n f,a f<n->(M f↔N f):=by
  intro n
  induction n with
  |zero=>intro f h;omega
  |succ n ih=>
   have y:∀k g,c g<k->N g->a g<=n->M g:=by
    intro k
    induction k with
    |zero=>intro g h;omega
    |succ k ihk=>
     intro g B p o;by_cases d:c g<k
     .exact ihk g d p o
     .refine q k (λx=>a x<=n->M x) (λf u v=>ihk f v u) (λi j C m D=>?_) g p (by omega) o;refine r i j ⟨λx b=>m.1 x b (by have:=e.pos i j x b;omega),λx b z=>m.2 x b ?_⟩;exact(ih x (by have:=e.neg i j x b;omega)).1 z
   intro f h;by_cases d:a f<n
   .exact ih f d
   .exact⟨λl=>Nb I a e t w n ih f l (by omega),λl=>y (c f+1) f (by omega) l (by omega)⟩
 intro f;exact s (a f+1) f (by omega)
end Go.Proofs.YtoihbhenbmffcaaGreat
namespace Go.Proofs.YtoihbhenbmffcaaGreat
open Go.RowKit Go.Proofs.Tryz
variable{w:kq}{b:Nat}{y:kJ ks}{T:TypeId}
theorem Tryz.size244:(Tryz.prog.info? 244).map (·.size)=V 26:=by kernel_rfl
theorem Tryz.size141:(Tryz.prog.info? 141).map (·.size)=V 26:=by kernel_rfl
def World.zW(b:Nat)(t:TypeId):∀(a:kJ ks) (o:Nat) (w:kq) (c:kJ ks),AF w b c t->o+Z a<=Z c->AF (w.setCells b o a) b (c.take o++a++c.drop (o+Z a)) t
 |[],o,w,c,h,hl=>by
  simp only[gh,jP,gd,gL];exact h
 |v::a,o,w,c,h,hl=>by
  simp only[fD]at hl;have ih:=World.zW b t a (o+1) (w.setCell ⟨b,o,Y⟩ v) (c.set o v) (h.set o v) (by simp;omega);have e:(c.set o v).take (o+1)++a++(c.set o v).drop (o+1+Z a)=c.take o++v::a++c.drop (o+Z (v::a)):=by
   rw[List.drop_set,fF (by omega),fm (by simp;omega),List.getElem_set_self,List.take_set,List.set_eq_of_length_le (by simp;omega)];simp only[fD,gF,kg,iO,ia];rw[show o+1+Z a=o+(Z a+1) by omega]
  rw[e]at ih;exact ih
def AF.zO(h:AF w b y T)(a:kJ ks)(c:Z a=Z y):AF (w.setCells b 0 a) b a T:=by
 have:=World.zW b T a 0 w y h (by omega);rw[gE,c,List.drop_length]at this;simpa using this
def Ac.zI{M:kJ Nat}{a w:kq}(h:Ac M a w){b:Nat}(d:b∈M\/a.heap.size<=b):∀(c:kJ ks) (o:Nat),Ac M a (w.setCells b o c)
 |[],_=>h
 |v::c,o=>(h.setCell (p:=⟨b,o,Y⟩) d v).zI d c (o+1)
end Go.Proofs.YtoihbhenbmffcaaGreat
namespace Go.Proofs.YtoihbhenbmffcaaGreat
open Go.RowKit Go.Proofs.Tryz
section
variable {α:Type} {lt eq:α->α->Bool}
def BF(ls:kJ (kJ α))(i:Nat):kJ α:=ls.getD i []
def EN{a:kJ (kJ α)}{i:Nat}(h:i<Z a):BF a i∈a:=by
 unfold BF;rw[fG,fI h];exact fj h
def ZC{a:kJ (kJ α)}{l:kJ α}(h:l∈a):∃i,i<Z a/\BF a i=l:=by
 obtain⟨i,b,e⟩:=gv h;refine⟨i,b,?_⟩;unfold BF;rw[fG,fI b];exact e
def Ju(ls:kJ (kJ α))(y:α):Prop:=∀l∈ls,y∈l
def E5(k t:Nat):Nat:=if t+1=k then 0 else t+1
def ZF{k t:Nat}(h:t<k):(t+1)%k=E5 k t:=by
 unfold E5;split
 .rename_i e;rw[e,Nat.mod_self]
 .exact Nat.mod_eq_of_lt (by omega)
def S2{k t:Nat}(h:t<k):E5 k t<k:=by
 unfold E5;split<;>omega
def Ms(k t ag i:Nat):Prop:=(ag<=t/\t-ag<=i/\i<t)\/(t<ag/\(i<t\/t+k-ag<=i))
def aC{k t a i:Nat}(c:t<k)(b:a<k)(d:i<k)(h:Ms k (E5 k t) (a+1) i):Ms k t a i\/i=t:=by
 unfold Ms E5 at h;unfold Ms;split at h<;>omega
def bP{k t a i:Nat}(d:t<k)(b:a+1=k)(c:i<k):Ms k t a i\/i=t:=by
 unfold Ms;omega
def Qi{k t i:Nat}:¬Ms k t 0 i:=by
 unfold Ms;omega
def dM(lt:α->α->Bool)(s:α)(l:kJ α):Nat:=l.countP λy=> !lt y s
def S5(lt:α->α->Bool)(s:α)(ls:kJ (kJ α)):Nat:=(ls.map (dM lt s)).sum
def WU(o:N5 lt eq){s a:α}(h:lt s a=hG)(l:kJ α):dM lt a l<=dM lt s l:=by
 unfold dM;refine List.countP_mono_left (λy _ b=>?_);cases hh:lt y s with
 |false=>rfl
 |true=>rw[o.trans _ _ _ hh h]at b;cases b
def bw(o:N5 lt eq){s a:α}(h:lt s a=hG):∀{l:kJ α},s∈l->dM lt a l<dM lt s l
 |x::l,b=>by
  have e:∀z,dM lt z (x::l)=dM lt z l+(if(!lt x z)=hG then 1 else 0):=λz=>by unfold dM;rw[List.countP_cons]
  rw[e,e];have d:=WU o h l;rcases fx.1 b with rfl|b
  .rw[h,o.irr];simp;omega
  .have c:=bw o h b;cases hx:lt x s with
   |true=>rw[o.trans _ _ _ hx h];simp;omega
   |false=>
    cases lt x a<;>simp<;>omega
def bD(o:N5 lt eq){s b:α}(h:lt s b=hG):∀(a:kJ (kJ α)),S5 lt b a<=S5 lt s a
 |[]=>fJ _
 |l::a=>by
  have e:∀z,S5 lt z (l::a)=dM lt z l+S5 lt z a:=λz=>by unfold S5;simp
  rw[e,e];have:=WU o h l;have:=bD o h a;omega
def WV(o:N5 lt eq){s d:α}(h:lt s d=hG):∀{a:kJ (kJ α)},(∃l∈a,s∈l)->S5 lt d a<S5 lt s a
 |l::a,b=>by
  have e:∀z,S5 lt z (l::a)=dM lt z l+S5 lt z a:=λz=>by unfold S5;simp
  rw[e,e];obtain⟨q,c,b⟩:=b;have g:=bD o h a;have f:=WU o h l;rcases fx.1 c with rfl|c
  .have:=bw o h b;omega
  .have:=WV o h ⟨q,c,b⟩;omega
def Xa(p:Nat->Nat)(t v:Nat):Nat->Nat:=λi=>if i=t then v else p i
structure OK(lt:α->α->Bool)(ls:kJ (kJ α))(t:Nat)(s:α)(ag:Nat)(p:Nat->Nat)(m:kJ α):Prop where
 tk:t<Z ls
 agk:ag<Z ls
 win:∀i,i<Z ls->Ms (Z ls) t ag i->s∈BF ls i
 ple:∀i,i<Z ls->p i<=Z (BF ls i)
 below:∀i,i<Z ls->∀j (h:j<Z (BF ls i)),j<p i->lt (BF ls i)[j] s=hG
 src:∃l∈ls,s∈l
 sound:∀y∈m,Ju ls y
 low:∀y∈m,lt y s=hG
 zH:m.Pairwise λa b=>lt a b=hG
 zd:∀y,Ju ls y->y∈m\/lt y s=K
structure Rm(lt:α->α->Bool)(ls:kJ (kJ α))(t:Nat)(s:α)(ag at_:Nat)(p:Nat->Nat)(m:kJ α):Prop where
 tk:t<Z ls
 agk:ag<Z ls
 hlt:at_<Z (BF ls t)
 zh:(BF ls t)[at_]=s
 win:∀i,i<Z ls->Ms (Z ls) t ag i\/i=t->s∈BF ls i
 ple:∀i,i<Z ls->p i<=Z (BF ls i)
 below:∀i,i<Z ls->∀j (h:j<Z (BF ls i)),j<p i->lt (BF ls i)[j] s=hG
 here:∀j (h:j<Z (BF ls t)),j<at_->lt (BF ls t)[j] s=hG
 sound:∀y∈m,Ju ls y
 low:∀y∈m,lt y s=hG
 zH:m.Pairwise λa b=>lt a b=hG
 zd:∀y,Ju ls y->y∈m\/lt y s=K
variable {ls:kJ (kJ α)} {t:Nat} {s:α} {ag:Nat} {p:Nat->Nat} {m:kJ α}
def Cz.zm(o:N5 lt eq){l:kJ α}(d:Cz lt l){i:Nat}(g:i<Z l){y:α}(b:y∈l)(h:∀j (a:j<Z l),j<i->l[j]≠y):lt y l[i]=K:=by
 obtain⟨j,a,e⟩:=gv b;have f:i<=j:=by
  by_cases c:j<i
  .exact absurd e (h j a c)
  .omega
 rw[<-e];exact d.up o a f (o.irr _)
def OK.start(o:N5 lt eq)(b:0<Z ls)(f:Cz lt (BF ls 0))(c:0<Z (BF ls 0)):OK lt ls 0 (BF ls 0)[0] 0 (λ_=>0) []:=by
 refine⟨b,b,λi k d=>absurd d Qi,λi _=>fP _,λi _ j h e=>by omega,⟨_,EN b,fj c⟩,λy a=>by simp at a,λy a=>by simp at a,List.Pairwise.nil,λy a=>kp ?_⟩;exact f.zm o c (a _ (EN b)) (λj e g=>by omega)
def OK.before(h:OK lt ls t s ag p m){b:Nat}(e:C9 lt (BF ls t) (p t) s b):∀j (a:j<Z (BF ls t)),j<b->lt (BF ls t)[j] s=hG:=by
 intro j a d;by_cases c:j<p t
 .exact h.below t h.tk j a c
 .exact e.below j a (by omega) d
def OK.done(h:OK lt ls t s ag p m){b:Nat}(f:C9 lt (BF ls t) (p t) s b)(g:b=Z (BF ls t)):∀y,y∈m↔Ju ls y:=by
 intro y;refine⟨h.sound y,λc=>?_⟩;rcases h.zd y c with a|a
 .exact a
 .obtain⟨j,d,e⟩:=gv (c _ (EN h.tk));have:=h.before f j d (by omega);rw[e,a]at this;cases this
def OK.same(h:OK lt ls t s ag p m){a:Nat}(e:C9 lt (BF ls t) (p t) s a)(c:a<Z (BF ls t))(d:(BF ls t)[a]=s):Rm lt ls t s ag a p m:=by
 refine⟨h.tk,h.agk,c,d,λi f b=>?_,h.ple,h.below,h.before e,h.sound,h.low,h.zH,h.zd⟩;rcases b with b|rfl
 .exact h.win i f b
 .rw[<-d];exact fj c
def OK.past(o:N5 lt eq)(u:Cz lt (BF ls t))(h:OK lt ls t s ag p m){a:Nat}(l:C9 lt (BF ls t) (p t) s a)(f:a<Z (BF ls t))(r:(BF ls t)[a]≠s):Rm lt ls t (BF ls t)[a] 0 a p m/\S5 lt (BF ls t)[a] ls<S5 lt s ls:=by
 have d:lt s (BF ls t)[a]=hG:=by
  refine o.tot _ _ (l.zZ a f (fJ _)) ?_;cases hq:eq (BF ls t)[a] s with
  |false=>rfl
  |true=>exact absurd ((o.eqv _ _).1 hq) r
 refine⟨⟨h.tk,by have:=h.tk;omega,f,rfl,λi q k=>?_,h.ple,λi q j c b=>o.trans _ _ _ (h.below i q j c b) d,λj c b=>o.trans _ _ _ (h.before l j c b) d,h.sound,λy g=>o.trans _ _ _ (h.low y g) d,h.zH,λy g=>?_⟩,WV o d h.src⟩
 .rcases k with k|rfl
  .exact absurd k Qi
  .exact fj f
 .rcases h.zd y g with n|n
  .exact kn n
  .right;refine u.zm o f (g _ (EN h.tk)) (λj c b e=>?_);have:=h.before l j c b;rw[e,n]at this;cases this
def R6(a:∀i,i<Z ls->p i<=Z (BF ls i)){v:Nat}(b:v<=Z (BF ls t)):∀i,i<Z ls->Xa p t v i<=Z (BF ls i):=by
 intro i c;unfold Xa;split
 .rename_i e;rw[e];exact b
 .exact a i c
variable {at_:Nat}
def Rm.next(h:Rm lt ls t s ag at_ p m)(f:ag+1<Z ls):OK lt ls (E5 (Z ls) t) s (ag+1) (Xa p t at_) m:=by
 refine⟨S2 h.tk,f,λi b d=>h.win i b (aC h.tk h.agk b d),R6 h.ple (Nat.le_of_lt h.hlt),λi b j c a=>?_,⟨_,EN h.tk,h.win t h.tk (kp rfl)⟩,h.sound,h.low,h.zH,h.zd⟩;unfold Xa at a;split at a
 .rename_i e;subst e;exact h.here j c a
 .exact h.below i b j c a
def Rm.common(h:Rm lt ls t s ag at_ p m)(b:ag+1=Z ls):Ju ls s:=by
 intro l c;obtain⟨i,a,rfl⟩:=ZC c;exact h.win i a (bP h.tk b a)
def Rm.zx(h:Rm lt ls t s ag at_ p m)(e:ag+1=Z ls):(∀y∈m++[s],Ju ls y)/\(m++[s]).Pairwise (λa b=>lt a b=hG):=by
 refine⟨λy c=>?_,?_⟩
 .rcases fA.1 c with c|c
  .exact h.sound y c
  .rw[ft]at c;subst c;exact h.common e
 .rw[jI];refine⟨h.zH,by simp,λa f b d=>?_⟩;rw[ft]at d;subst d;exact h.low a f
def Rm.last(o:N5 lt eq)(k:Cz lt (BF ls t))(h:Rm lt ls t s ag at_ p m)(g:ag+1=Z ls)(i:at_+1=Z (BF ls t)):∀y,y∈m++[s]↔Ju ls y:=by
 intro y;refine⟨(h.zx g).1 y,λb=>?_⟩;rw[fA,ft];rcases h.zd y b with a|a
 .exact kn a
 .right;obtain⟨j,f,e⟩:=gv (b _ (EN h.tk));by_cases d:j<at_
  .have:=h.here j f d;rw[e,a]at this;cases this
  ·(have c:j=at_:=by omega);subst c;rw[<-e];exact h.zh
def Rm.more(o:N5 lt eq)(q:Cz lt (BF ls t))(h:Rm lt ls t s ag at_ p m)(n:ag+1=Z ls)(f:at_+1<Z (BF ls t)):OK lt ls (E5 (Z ls) t) (BF ls t)[at_+1] 0 (Xa p t (at_+1)) (m++[s])/\S5 lt (BF ls t)[at_+1] ls<S5 lt s ls:=by
 have b:lt s (BF ls t)[at_+1]=hG:=by
  have:=q at_ (at_+1) h.hlt f (by omega);rw[h.zh]at this;exact this
 have w:0<Z ls:=by have:=h.tk;omega
 refine⟨⟨S2 h.tk,w,λi r v=>absurd v Qi,R6 h.ple (Nat.le_of_lt f),λi r j d c=>?_,⟨_,EN h.tk,fj f⟩,(h.zx n).1,λy a=>?_,(h.zx n).2,λy a=>?_⟩,WV o b ⟨_,EN h.tk,h.win t h.tk (kp rfl)⟩⟩
 .unfold Xa at c;split at c
  .rename_i e;subst e;by_cases g:j<at_
   .exact o.trans _ _ _ (h.here j d g) b
   ·(have l:j=at_:=by omega);subst l;rw[h.zh];exact b
  .exact o.trans _ _ _ (h.below i r j d c) b
 .rcases fA.1 a with a|a
  .exact o.trans _ _ _ (h.low y a) b
  .rw[ft]at a;subst a;exact b
 .rw[fA,ft];rcases h.zd y a with k|k
  .exact kn (kn k)
  .by_cases u:y=s
   .exact kn (kp u)
   .right;refine q.zm o f (a _ (EN h.tk)) (λj d c e=>?_);by_cases g:j<at_
    .have:=h.here j d g;rw[e,k]at this;cases this
    ·(have l:j=at_:=by omega);subst l;rw[h.zh]at e;exact u e.symm
end
