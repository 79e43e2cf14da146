import Derived.WalkKit
import Derived.Deep.AppendLies
import Derived.Deep.QuietTactic
import Derived.BigQuiet
import Derived.Deep.LoopGhost
import Derived.Deep.MidRow
import Derived.Handy
import Derived.Test.YtoihbhenbmffcaaGreatDoorProg
set_option linter.all false
set_option maxHeartbeats 0
open List renaming length->Z,toArray->j2
open Option renaming none->Y,some->V
open Go.Value renaming slice->U,int->X,string->O,pointer->j3,agg->jH,bool->jJ
open Bool renaming false->K,true->jj
open Go.IntKind renaming i64->J
open Go.Ending renaming returned->j4
open Or renaming inl->j5,inr->j6
open Go renaming World->j7,Value->j8
open Go.RowKit renaming Hid->j9
open Go.World renaming ownsRow->jG
open ByteArray renaming empty->jK
open Go.Op renaming bytesLess->jP
namespace Go.Proofs.YtoihbhenbmffcaaGreatDoor
open Go.RowKit Go.Proofs.Tryz
abbrev g0:=ByteArray
abbrev ee:=@List.setIfInBounds_toArray
abbrev ei:=@Go.Value.slice.injEq
abbrev ej:=@List.set_cons_zero
abbrev el:=@List.set_cons_succ
abbrev eo:=@List.getElem_mem
abbrev ep:=@List.take_succ_eq_append_getElem
abbrev eu:=@List.take_of_length_le
abbrev ev:=@Bool.false_eq_true
abbrev ex:=@List.mem_singleton
abbrev ey:=@List.mem_cons
abbrev ez:=@List.getElem?_eq_getElem
abbrev eC:=@Go.World.ownsRow.alloc
abbrev eD:=@Option.some.injEq
abbrev eE:=@if_neg
abbrev eF:=@List.length_cons
abbrev eG:=@List.mem_append
abbrev eH:=@List.mem_map
abbrev eI:=@if_pos
abbrev eJ:=@List.length_append
abbrev eK:=@List.getD_eq_getElem?_getD
abbrev eL:=@List.length_map
abbrev eM:=@Nat.le_refl
abbrev eN:=@List.flatMap_cons
abbrev eO:=@ByteArray.size_append
abbrev eP:=@Go.wpList_append_lies
abbrev eQ:=@List.drop_eq_getElem_cons
abbrev eR:=@List.map_cons
abbrev eS:=@Go.World.news_of_block
abbrev eU:=@Go.World.ownsRow_nil
abbrev eV:=@Nat.zero_le
abbrev eW:=@Bool.and_eq_true
abbrev eX:=@Go.bodyPost_ret
abbrev eY:=@List.flatMap_append
abbrev eZ:=@List.mem_map_of_mem
abbrev e9:=@List.mem_filter
abbrev fb:=@List.length_nil
abbrev fc:=@Go.ByteArray.toList_eq
abbrev fd:=@List.foldl_cons
abbrev fe:=@Go.heap_alloc_new
abbrev ff:=@beq_eq_false_iff_ne
abbrev fg:=@Go.World.size_alloc
abbrev fh:=@List.append_nil
abbrev fi:=@List.map_append
abbrev fj:=@List.getElem_of_mem
abbrev fm:=@Go.Addr.mk.injEq
abbrev fo:=@Prod.mk.injEq
abbrev fq:=@List.drop_eq_nil_of_le
abbrev ft:=@List.length_take
abbrev fu:=@List.mem_cons_of_mem
abbrev fw:=@Nat.zero_add
abbrev fx:=@Array.getElem?_eq_some_iff
abbrev fz:=@List.length_drop
abbrev fA:=@List.mem_flatMap
abbrev fB:=@List.take_append_of_le_length
abbrev fC:=@Go.info_parts
abbrev fD:=@List.append_assoc
abbrev fE:=@List.foldl_append
abbrev fF:=@List.flatMap_nil
abbrev fG:=@List.getElem?_set_ne
abbrev fH:=@List.take_append_drop
abbrev fI:=@List.mem_cons_self
abbrev fJ:=@Nat.le_trans
abbrev fK:=@Except.ok.injEq
abbrev fL:=@List.getElem_append_left
abbrev fM:=@List.getElem?_map
abbrev fN:=@List.map_map
abbrev fO:=@decide_eq_false
abbrev fP:=@List.not_mem_nil
abbrev fQ:=@List.map_congr_left
abbrev fR:=@List.mem_of_mem_take
abbrev fS:=@Bool.not_false
abbrev fT:=@Go.World.ownsRow.kept
abbrev fU:=@List.size_toArray
abbrev fV:=@Nat.mul_le_mul_right
abbrev fW:=@List.any_eq_true
abbrev fX:=@Go.all_oneCell_toArray
abbrev fY:=@List.length_set
abbrev fZ:=@List.length_filter_le
abbrev gc:=@Bool.eq_iff_iff
abbrev gd:=@List.nil_append
abbrev gh:=@ByteArray.size_extract
abbrev gi:=@List.getElem?_set_self
abbrev gm:=@List.filter_cons
abbrev gn:=@UInt8.toNat_inj
abbrev gq:=@Bool.true_and
abbrev gr:=@Bool.or_eq_true
abbrev gu:=@Option.map_some
abbrev gA:=@List.mem_filterMap
abbrev gB:=@List.length_eq_zero_iff
abbrev gC:=@List.any_eq_false
abbrev gD:=@Go.wpList_load_mid
abbrev gE:=@List.pairwise_cons
abbrev gF:=@beq_iff_eq
abbrev gG:=@decide_eq_true
abbrev gH:=@List.pairwise_iff_getElem
abbrev gI:=@Nat.lt_of_lt_of_le
abbrev gJ:=@Bool.false_ne_true
abbrev gK:=@List.findIdx?_eq_some_iff_getElem
abbrev gL:=@Nat.add_mul
abbrev gM:=@List.length_replicate
abbrev gN:=@List.all_eq_true
abbrev gO:=@List.cons_append
abbrev gP:=@List.take_length
abbrev gQ:=@Go.wpList_store_mid
abbrev gR:=@Option.mem_toList
abbrev gS:=@Int.tdiv_eq_ediv_of_nonneg
abbrev gT:=@List.getElem?_take
abbrev gU:=@List.map_nil
abbrev gV:=@List.find?_eq_none
abbrev gW:=@List.cons.injEq
abbrev gX:=@List.nodup_cons
abbrev gY:=@List.pairwise_map
abbrev gZ:=@List.Pairwise.imp_of_mem
abbrev ia:=@Go.wpIn_seq_k
abbrev ib:=@Bool.false_or
abbrev ic:=@Bool.and_self
abbrev ie:=@decide_eq_false_iff_not
abbrev ig:=@Bool.not_true
abbrev ii:=@List.filter_append
abbrev ij:=@Go.decode_ascii
abbrev ik:=@Go.IntKind.wrap_i64
abbrev il:=@Go.Addr.add_lit
abbrev im:=@decide_eq_true_eq
abbrev io:=@Bool.not_eq_true'
abbrev ip:=@List.take_succ_cons
abbrev iq:=@List.nodup_nil
abbrev ir:=@List.getElem?_eq_some_iff
abbrev it:=@UInt8.le_iff_toNat_le
abbrev iu:=@Nat.min_eq_left
abbrev iw:=@List.find?_cons
abbrev ix:=@Bool.or_eq_false_iff
abbrev iy:=@List.mem_of_mem_drop
abbrev iz:=@Bool.and_false
abbrev iA:=@Bool.false_and
abbrev iB:=@Go.Calls.quiet_of_same
abbrev iC:=@List.drop_succ_cons
abbrev iD:=@List.toList_toArray
abbrev iE:=@Option.map_eq_some_iff
abbrev iF:=@List.getElem?_append_right
abbrev iG:=@Bool.true_or
abbrev iH:=@Nat.lt_or_eq_of_le
abbrev iI:=@List.all_cons
abbrev iJ:=@List.take_zero
abbrev iK:=@Array.replicate_succ
abbrev iL:=@Array.replicate_zero
abbrev iM:=@Option.some.inj
abbrev iN:=@List.getElem_take
abbrev iO:=@List.nodup_append
abbrev iP:=@List.any_map
abbrev iQ:=@List.findSome?_cons
abbrev iR:=@List.append_toArray
abbrev iS:=@List.take_take
abbrev iT:=@List.getElem_cons_zero
abbrev iU:=@List.getElem?_drop
abbrev iV:=@of_decide_eq_false
abbrev iW:=@Go.wpIn_cond_false
abbrev iX:=@List.any_cons
abbrev iY:=@List.push_toArray
abbrev iZ:=@List.findSome?_eq_none_iff
abbrev i6:=@List.pairwise_append
abbrev i7:=@List.mem_append_left
abbrev i8:=@List.drop_zero
abbrev i9:=@Go.wpIn_cond_true
abbrev jb:=@Go.step_append_lies
abbrev jc:=@Go.run_callFunc_extern
abbrev jd:=@List.filterMap_cons
abbrev je:=@Go.Sem.run_bind
abbrev jf:=@Bool.or_true
abbrev jg:=@Go.results_none
abbrev jh:=@List.any_append
abbrev ji:=@List.zip_cons_cons
abbrev jk:=@List.filter_eq_nil_iff
abbrev jl:=@Array.getElem?_eq_none
abbrev jm:=@List.find?_append
abbrev jn:=@List.getElem_drop
abbrev jo:=@Nat.min_def
abbrev jp:=@Go.World.ownsRow_lit
abbrev jq:=@List.mem_range
abbrev jr:=@decide_false
abbrev js:=@List.set_append_right
abbrev jt:=@ByteArray.data_append
abbrev ju:=@List.findSome?_append
abbrev jw:=@List.countP_le_length
abbrev jx:=@List.singleton_append
abbrev jy:=@List.contains_iff_mem
abbrev jz:=@Bool.toNat_false
abbrev jA:=@List.map_flatMap
abbrev jB:=@Go.decode_high
abbrev jC:=@Nat.add_zero
abbrev jD:=@Bool.or_self
abbrev jE:=@List.map_set
structure Ac(M:List Nat)(w w':j7):Prop where
 os:w'.os=w.os
 tape:w'.tape=w.tape
 output:w'.output=w.output
 size:w.heap.size<=w'.heap.size
 block:∀k,k<w.heap.size->k∉M->w'.heap[k]?=w.heap[k]?
def Ac.refl(M:List Nat)(w:j7):Ac M w w:=⟨rfl,rfl,rfl,eM _,λ_ _ _=>rfl⟩
def Ac.trans{M:List Nat}{a b c:j7}(h:Ac M a b)(k:Ac M b c):Ac M a c:=
 ⟨k.os.trans h.os,k.tape.trans h.tape,k.output.trans h.output,fJ h.size k.size,
  λi e d=>(k.block i (gI e h.size) d).trans (h.block i e d)⟩
def Ac.trans'{M N:List Nat}{a b c:j7}(h:Ac M a b)(k:Ac N b c)(j:∀i,i∈N->i∈M\/a.heap.size<=i):Ac M a c:=
 ⟨k.os.trans h.os,k.tape.trans h.tape,k.output.trans h.output,fJ h.size k.size,
  λi f d=>(k.block i (gI f h.size) (λg=>by rcases j i g with e|e;exact d e;omega)).trans (h.block i f d)⟩
def Ac.mono{M N:List Nat}{w w':j7}(h:Ac M w w')(a:∀i,i∈M->i∈N):Ac N w w':=
 ⟨h.os,h.tape,h.output,h.size,λk c b=>h.block k c (λd=>b (a k d))⟩
def Ac.drew{M:List Nat}{a w:j7}(h:Ac M a w):Ac M a w.drew:=⟨h.os,h.tape,h.output,h.size,h.block⟩
def Ac.drewN{M:List Nat}{a w:j7}(h:Ac M a w)(n:Nat):Ac M a (w.drewN n):=⟨h.os,h.tape,h.output,h.size,h.block⟩
def Ac.alloc{M:List Nat}{a w:j7}(h:Ac M a w)(o:Obj):Ac M a (w.alloc o):=
 h.trans ⟨rfl,rfl,rfl,by simp,λk b _=>Below.heap_alloc _ _ _ b⟩
def Ac.setCell{M:List Nat}{a w:j7}(h:Ac M a w){p:Addr}(b:p.block∈M\/a.heap.size<=p.block)(u:j8):Ac M a (w.setCell p u):=
 h.trans' (N:=[p.block]) ⟨rfl,rfl,rfl,by simp[World.setCell],λk _ c=>Below.heap_setCell _ _ _ _ (by simpa using c)⟩ (by simpa using b)
def Ac.grown{M:List Nat}{a w w':j7}{d:Option Nat}(h:Ac M a w)(b:w.grownBy w' d)(j:∀k,d=V k->k∈M\/a.heap.size<=k):Ac M a w':=
 ⟨b.os.trans h.os,b.tape.trans h.tape,b.output.trans h.output,fJ h.size b.size,
  λi g c=>(b.block i (gI g h.size) (λe=>by rcases j i e.symm with f|f;exact c f;omega)).trans (h.block i g c)⟩
def Ac.below{w w':j7}(h:Ac [] w w'):Below w.heap.size w w':=⟨h.os,h.tape,h.output,h.size,λk a=>h.block k a (by simp)⟩
def AI(w:j7)(b:Nat)(cs:List j8)(t:TypeId):Prop:=w.heap[b]?=V (.cells (j2 cs) t (0,0))
def AI.lt{w:j7}{b:Nat}{cs:List j8}{t:TypeId}(h:AI w b cs t):b<w.heap.size:=(fx.1 h).1
def AI.cell{w:j7}{b:Nat}{cs:List j8}{t:TypeId}(h:AI w b cs t)(i:Nat):w.cell? ⟨b,i,Y⟩=cs[i]?:=by
 unfold AI at h;simp[World.cell?,h]
def AI.frozen{w:j7}{b:Nat}{cs:List j8}{t:TypeId}(h:AI w b cs t)(i:Nat):w.frozen? ⟨b,i,Y⟩=K:=by
 unfold AI at h;simp[World.frozen?,h]
def AI.set{w:j7}{b:Nat}{cs:List j8}{t:TypeId}(h:AI w b cs t)(i:Nat)(u:j8):AI (w.setCell ⟨b,i,Y⟩ u) b (cs.set i u) t:=by
 unfold AI at*;simp[World.setCell,Array.getElem?_modify,h]
def AI.zA{w:j7}{b:Nat}{cs:List j8}{t:TypeId}(h:AI w b cs t)(p:Addr)(a:p.block≠b)(u:j8):AI (w.setCell p u) b cs t:=by
 unfold AI at*;rw[Below.heap_setCell _ _ _ _ (λe=>a e.symm)];exact h
def AI.alloc{w:j7}{b:Nat}{cs:List j8}{t:TypeId}(h:AI w b cs t)(o:Obj):AI (w.alloc o) b cs t:=by
 have:=h.lt;unfold AI at*;rw[Below.heap_alloc _ _ _ this];exact h
def AI.new(w:j7)(cs:List j8)(t:TypeId):AI (w.alloc (.cells (j2 cs) t)) w.heap.size cs t:=by
 exact fe w _
def AI.kept{M:List Nat}{w w':j7}{b:Nat}{cs:List j8}{t:TypeId}(h:AI w b cs t)(k:Ac M w w')(a:b∉M):AI w' b cs t:=by
 have:=h.lt;unfold AI at*;rw[k.block b this a];exact h
def AI.drew{w:j7}{b:Nat}{cs:List j8}{t:TypeId}(h:AI w b cs t):AI w.drew b cs t:=h
def AI.drewN{w:j7}{b:Nat}{cs:List j8}{t:TypeId}(h:AI w b cs t)(n:Nat):AI (w.drewN n) b cs t:=h
def AI.range{w:j7}{b:Nat}{cs:List j8}{t:TypeId}(h:AI w b cs t):w.rangeAt b 0 cs:=λj v a=>by rw[fw,h.cell];exact a
def AI.there{w:j7}{b:Nat}{cs:List j8}{t:TypeId}(h:AI w b cs t):w.there b 0 (Z cs):=λj a=>by
 rw[fw,h.cell,h.frozen];simp[a]
def Ad{M:List Nat}{w w':j7}{base:Nat}{e:TypeId}{size:Nat}{v:j8}{n:Nat}{a:List j8}(h:jG w base e size v n a)(k:Ac M w w')(d:∀i,i∈M->i<base):jG w' base e size v n a:=by
 refine⟨h.1,?_⟩;rcases h.2 with o|⟨g,f,c,rfl,j,b,l⟩
 .exact .inl o
 .refine .inr ⟨g,f,c,rfl,j,?_,l⟩;rw[k.block g (fx.1 b).1 (λm=>by have:=d g m;omega)];exact b
def Al{M:List Nat}{w w':j7}{base:Nat}{e:TypeId}{size:Nat}{v:j8}{n:Nat}{a:List j8}(h:jG w base e size v n a)(k:Ac M w w')(d:∀i,v.ownBlock=V i->i∉M):jG w' base e size v n a:=by
 refine⟨h.1,?_⟩;rcases h.2 with m|⟨g,f,c,rfl,j,b,l⟩
 .exact .inl m
 .refine .inr ⟨g,f,c,rfl,j,?_,l⟩;rw[k.block g (fx.1 b).1 (d g rfl)];exact b
def Am{w:j7}{base base':Nat}{e:TypeId}{size:Nat}{v:j8}{n:Nat}{a:List j8}(h:jG w base e size v n a)(i:base'<=base):jG w base' e size v n a:=by
 refine⟨h.1,?_⟩;rcases h.2 with f|⟨g,c,b,rfl,j,d⟩
 .exact .inl f
 .exact .inr ⟨g,c,b,rfl,by omega,d⟩
def Gw{w:j7}{base:Nat}{e:TypeId}{size:Nat}{v:j8}{n:Nat}{a:List j8}(h:jG w base e size v n a):jG w.drew base e size v n a:=h
def Db{w:j7}{base:Nat}{e:TypeId}{size:Nat}{v:j8}{n:Nat}{a:List j8}(h:jG w base e size v n a)(k:Nat):jG (w.drewN k) base e size v n a:=h
def Ag{w:j7}{base:Nat}{e:TypeId}{size:Nat}{v:j8}{n:Nat}{b:List j8}(h:jG w base e size v n b){p:Addr}(c:v.ownBlock≠V p.block)(u:j8):jG (w.setCell p u) base e size v n b:=
 Al h ((Ac.refl [p.block] w).setCell (by simp) u) (λi d a=>c (by simp at a;rw[d,a]))
def A4{w:j7}{base:Nat}{e:TypeId}{size:Nat}{v:j8}{n:Nat}{a:List j8}(h:jG w base e size v n a)(k:Nat)(b:k<base):v.ownBlock≠V k:=λe=>by
 have:=(h.lt k e).1;omega
def AI.grown{w w':j7}{b:Nat}{cs:List j8}{t:TypeId}{a:Option Nat}(h:AI w b cs t)(k:w.grownBy w' a)(c:a≠V b):AI w' b cs t:=by
 have:=h.lt;unfold AI at*;rw[k.block b this (λe=>c e.symm)];exact h
def BQ{P:Program}{fn:Func}{p:Tmp}{a:TypeId}(h:fn.results=#[.cell p a]){tmps:Array j8}{w:j7}{b:Nat}{cs:List j8}{t:TypeId}{d:TypeDesc}
  (e:tmps.getD p undef=j3 (V ⟨b,0,Y⟩)) (j:AI w b cs t) (i:P.underlying a=V d) (c:d.isRow=jj) (k:(P.info? a).map (·.size)=V (Z cs)):
  (results fn tmps).run P w=.ok (jH (j2 cs)) w:=by
 have g:=run_loadVar_mid (P:=P) w b 0 a cs d j.range i c k;have f:tmps[p]?.getD undef=j3 (V ⟨b,0,Y⟩):=by simpa using e
 simp only[results,h];simp[je,Result.andThen,f,g,asAddr]
def Ar{P:Program}{fn:Func}{p u:Tmp}{a:TypeId}(h:fn.results=#[.cell p a,.tmp u]){tmps:Array j8}{w:j7}{b:Nat}{cs:List j8}{t:TypeId}{d:TypeDesc}
  (e:tmps.getD p undef=j3 (V ⟨b,0,Y⟩)) (i:AI w b cs t) (g:P.underlying a=V d) (c:d.isRow=jj) (j:(P.info? a).map (·.size)=V (Z cs)):
  (results fn tmps).run P w=.ok (.tuple #[jH (j2 cs),tmps.getD u undef]) w:=by
 have f:=run_loadVar_mid (P:=P) w b 0 a cs d i.range g c j;rw[results_cell_tmp h];simp[je,Result.andThen,e,f,asAddr]
def Ce{w:j7}{base:Nat}{e:TypeId}{size:Nat}{v:j8}{n:Nat}{b:List j8}(h:jG w base e size v n b):∃c a,v=U c n a:=by
 rcases h.2 with⟨rfl,rfl⟩|⟨g,a,d,rfl,_⟩
 .exact⟨Y,0,rfl⟩
 .exact⟨_,a,rfl⟩
def Uq{α:Type}(f:α->List j8)(a:Nat):∀(l:List α),(∀x∈l,Z (f x)=a)->∀(i:Nat) (b:i<Z l) (k:Nat),k<a->(l.flatMap f)[i*a+k]?=(f l[i])[k]?
 |[],_,i,b,_,_=>by simp at b
 |x::l,h,0,_,k,hk=>by
  have c:=h x (by simp);simp only[eN,Nat.zero_mul,fw,iT];rw[List.getElem?_append_left (by omega)]
 |x::l,h,i+1,b,k,hk=>by
  have c:=h x (by simp);have ih:=Uq f a l (λy d=>h y (by simp[d])) i (by simpa using b) k hk;simp only[eN,List.getElem_cons_succ];rw[iF (by rw[c,gL];omega),c,gL,Nat.one_mul,show i*a+a+k-a=i*a+k by omega];exact ih
def AC{α:Type}{f:α->List j8}{a:Nat}{w:j7}{base:Nat}{e:TypeId}{v:j8}{l:List α}(h:jG w base e a v (Z l) (l.flatMap f))(m:∀x∈l,Z (f x)=a)(i:Nat)(t:i<Z l):
  ∃g b,v=U (V ⟨g,0,Y⟩) (Z l) b/\Z l<=b/\∀j (c:j<Z l) k,k<a->w.cell? ⟨g,j*a+k,Y⟩=(f l[j])[k]?:=by
 rcases h.2 with⟨_,r⟩|⟨g,b,q,rfl,_,o,p,_,s,n⟩
 .omega
 .refine⟨g,b,rfl,p,λj c k d=>?_⟩;rw[<-Uq f a l m j c k d,<-n,gT,eI (by have:(j+1)*a<=Z l*a:=fV _ c;rw[gL]at this;omega)];simp[World.cell?,o]
def Ak{w:j7}{base:Nat}{e:TypeId}{c n:Nat}{v:j8}{b:List j8}(h:jG w base e c v n b):∃d a,v=U d n a:=Ce h
def Ah(x:g0):List j8:=[O x]
def Ab{p:Prop}(h:p):j9 p:=h
def jT{P:Program}{Q:Exit->Act->j7->Prop}{a:Act}{w:j7}{x y:Code}(h:∀K:Act->j7->Prop,j9 (∀a w,y.wp P Q a w->K a w)->x.wp P (Exit.then K Q) a w):(Code.seq x y).wp P Q a w:=wp_seq_k λK k=>h K (Ab k)
def Aa{p:Prop}(h:j9 p):p:=h
theorem Tryz.zs:(Tryz.prog.info? 9).map (λi=>(i.zero,i.size,i.bytes))=V (V (O ⟨#[]⟩),1,16):=by kernel_rfl
def BK(s:g0)(at_:Nat)(bad:Bool):List j8:=[O s,X J at_,jJ bad]
def Az(c:UInt8):Bool:=97<=c&&c<=122
def C6(c:UInt8):Bool:=65<=c&&c<=90
def An(c:UInt8):Bool:=48<=c&&c<=57
def Dc(c:UInt8):Bool:=c==32||c==10
def Bf{a b:Bool}(h:a=b):j4 (jJ a)=j4 (jJ b):=by rw[h]
def cg{k:IntKind}{a b:Int}(h:a=b):j4 (X k a)=j4 (X k b):=by rw[h]
theorem Ij(n:Int)(c:UInt8)(w:j7)(h:n=c.toNat):Calls prog 169 #[X .u8 n] w λe a=>e=j4 (jJ (Az c))/\a=w:=by
 subst h;go_enter func169,ntmps169;go_wp2;all_goals go_ret
 all_goals refine⟨Bf ?_,rfl⟩
 all_goals (rw[gc];simp[Az,it];try omega)
theorem MF(n:Int)(c:UInt8)(w:j7)(h:n=c.toNat):Calls prog 170 #[X .u8 n] w λe a=>e=j4 (jJ (C6 c))/\a=w:=by
 subst h;go_enter func170,ntmps170;go_wp2;all_goals go_ret
 all_goals refine⟨Bf ?_,rfl⟩
 all_goals (rw[gc];simp[C6,it];try omega)
theorem Ck(n:Int)(c:UInt8)(w:j7)(h:n=c.toNat):Calls prog 55 #[X .u8 n] w λe a=>e=j4 (jJ (An c))/\a=w:=by
 subst h;go_enter func55,ntmps55;go_wp2;all_goals go_ret
 all_goals refine⟨Bf ?_,rfl⟩
 all_goals (rw[gc];simp[An,it];try omega)
def Ae(s:g0)(at_:Nat):Nat:=
 if h:at_<s.size then(if Dc s[at_] then Ae s (at_+1)else at_)else at_
def AN(s:g0)(at_:Nat)(bad:Bool):Nat:=if bad then at_ else Ae s at_
def Bn(s:g0)(at_:Nat)(h:at_<=s.size):Ae s at_<=s.size:=by
 fun_induction Ae s at_<;>omega
def BR(s:g0)(at_:Nat):at_<=Ae s at_:=by
 fun_induction Ae s at_<;>omega
def J8(s:g0)(at_:Nat):AN s at_ jj=at_:=rfl
def Pz(s:g0)(at_:Nat)(h:¬at_<s.size)(a:Bool):AN s at_ a=at_:=by
 unfold AN;rw[Ae];simp[h]
def Wd(s:g0)(at_:Nat)(h:at_<s.size)(a:Dc s[at_]=jj):AN s at_ K=AN s (at_+1) K:=by
 unfold AN;rw[Ae];simp[h,a]
def UF(s:g0)(at_:Nat)(h:at_<s.size)(a:Dc s[at_]=K):AN s at_ K=at_:=by
 unfold AN;rw[Ae];simp[h,a]
def Cp(c k:UInt8):((c.toNat:Int)==(k.toNat:Int))=(c==k):=by
 rw[gc];simp only[gF];constructor
 .intro h;exact gn.1 (by omega)
 .intro h;rw[h]
def S6(c:UInt8):(((c.toNat:Int)==32)=jj/\Dc c=jj)\/(((c.toNat:Int)==32)=K/\((c.toNat:Int)==10)=jj/\Dc c=jj)\/
  (((c.toNat:Int)==32)=K/\((c.toNat:Int)==10)=K/\Dc c=K):=by
 have b:((c.toNat:Int)==32)=(c==32):=Cp c 32;have a:((c.toNat:Int)==10)=(c==10):=Cp c 10;rw[b,a];unfold Dc;cases(c==32)<;>cases(c==10)<;>simp
theorem Ds(b:Nat)(s:g0)(at_:Nat)(a:Bool)(w:j7)(L:s.size<=1000000)(C:at_<=s.size)(F:AI w b (BK s at_ a) 73):
  Calls prog 43 #[j3 (V ⟨b,0,Y⟩)] w λe t=>e=j4 (.tuple #[])/\AI t b (BK s (AN s at_ a) a) 73/\Ac [b] w t:=by
 go_enter func43,ntmps43;go_wp2
 go_loopg [] (s.size-at_) (λk wr=>∃j:Nat,j<=s.size/\k=s.size-j/\AN s j a=AN s at_ a/\AI wr b (BK s j a) 73/\Ac [b] w wr)
 case atStart=>exact⟨at_,C,rfl,rfl,F,Ac.refl _ _⟩
 case round=>
  obtain⟨j,M,x,v,d,f⟩:=hrel;have A:=d.cell 0;have G:=d.cell 1;have E:=d.cell 2;have N:=d.frozen 1;simp[BK]at A G E;have l:j9 (gk=s.size-j/\AN s j a=AN s at_ a):=⟨x,v⟩;clear x v;have z:AN s j a=j->AI wr b (BK s (AN s at_ a) a) 73:=λh=>by rw[<-l.out.2,h];exact d
  have o:j9 (AN s j a=j->AI wr b (BK s (AN s at_ a) a) 73):=z;clear z;cases a with
  |true=>
   go_wp2
   go_quiet (fail)
   go_wp2;go_end0;exact⟨rfl,o.out rfl,f.drewN _⟩
  |false=>
   by_cases m:j<s.size
   ·(have I:(j:Int)<(s.size:Int):=by omega);have u:j9 (Dc s[j]=jj->∃c:Nat,c<=s.size/\s.size-(j+1)=s.size-c/\AN s c K=AN s at_ K/\∀n,AI ((wr.drewN n).setCell ⟨b,1,Y⟩ (X J (j+1))) b (BK s c K) 73/\Ac [b] w ((wr.drewN n).setCell ⟨b,1,Y⟩ (X J (j+1)))):=by
     intro h;refine⟨j+1,by omega,rfl,?_,λn=>⟨?_,?_⟩⟩
     .rw[<-l.out.2,Wd s j m h]
     .exact(d.drewN n).set 1 _
     .exact(f.drewN n).setCell (by simp) _
    rcases S6 s[j] with⟨y,g⟩|⟨y,B,g⟩|⟨y,B,g⟩
    .clear d f;go_wp2
     go_quiet (fail)
     go_wp2
     go_roundg (s.size-(j+1))
     case measure=>have:=l.out.1;omega
     case rel=>
      obtain⟨c,q,r,p,i⟩:=u.out g;exact⟨c,q,r,p,(i _).1,(i _).2⟩
    .clear d f;go_wp2
     go_quiet (fail)
     go_wp2
     go_roundg (s.size-(j+1))
     case measure=>have:=l.out.1;omega
     case rel=>
      obtain⟨c,q,r,p,i⟩:=u.out g;exact⟨c,q,r,p,(i _).1,(i _).2⟩
    .have D:j9 (Dc s[j]=K):=g;clear g;go_wp2
     go_quiet (fail)
     go_wp2;go_end0;exact⟨rfl,o.out (UF s j m D.out),f.drewN _⟩
   ·(have H:decide ((j:Int)<(s.size:Int))=K:=by simp;omega);go_wp2
    go_quiet (fail)
    go_wp2;go_end0;exact⟨rfl,o.out (Pz s j m _),f.drewN _⟩
def DS(s:g0)(j:Nat)(c:UInt8):Bool:=if h:j<s.size then s[j]==c else K
def Gc(s:g0)(at_:Nat)(a:Bool)(h:at_<=s.size):AN s at_ a<=s.size:=by
 unfold AN;split
 .exact h
 .exact Bn s at_ h
theorem PK(b:Nat)(s:g0)(at_:Nat)(a:Bool)(n:Int)(c:UInt8)(w:j7)(t:n=c.toNat)(r:s.size<=1000000)(l:at_<=s.size)(m:AI w b (BK s at_ a) 73):
  Calls prog 128 #[j3 (V ⟨b,0,Y⟩),X .u8 n] w λe i=>e=j4 (jJ (!a&&DS s (AN s at_ a) c))/\AI i b (BK s (AN s at_ a) a) 73/\Ac [b] w i:=by
 have u:=Gc s at_ a l;subst t;obtain⟨j,g⟩:∃j,AN s at_ a=j:=⟨_,rfl⟩;rw[g]at u⊢;have k:j9 (AN s at_ a=j):=g;clear g;go_enter func128,ntmps128;go_wp2_with fail
 refine(Ds b s at_ a _ r l m).mono ?_;rintro e y ⟨rfl,d,f⟩;rw[k.out]at d;clear m k;have o:=d.cell 0;have v:=d.cell 1;have p:=d.cell 2;simp[BK]at o v p;cases a with
 |true=>
  go_wp2
  go_quiet (fail)
  go_wp2;go_ret;exact⟨Bf (by simp),d.drewN _,f.drewN _⟩
 |false=>
  by_cases h:j<s.size
  ·(have z:(j:Int)<(s.size:Int):=by omega);have q:j9 (((s[j].toNat:Int)==(c.toNat:Int))=(!false&&DS s j c)):=by
    show _=_;rw[Cp];unfold DS;simp[h]
   go_wp2
   go_quiet (fail)
   go_wp2;go_ret;exact⟨Bf q.out,d.drewN _,f.drewN _⟩
  ·(have x:decide ((j:Int)<(s.size:Int))=K:=by simp;omega);go_wp2
   go_quiet (fail)
   go_wp2;go_ret;exact⟨Bf (by unfold DS;simp[h]),d.drewN _,f.drewN _⟩
def BZ(s:g0)(j:Nat)(bad:Bool)(c:UInt8):Nat:=if !bad&&DS s (AN s j bad) c then AN s j bad+1 else AN s j bad
def Fa{s:g0}{j:Nat}{c:UInt8}(h:DS s j c=jj):j<s.size:=by
 unfold DS at h;split at h
 .assumption
 .cases h
def Du(s:g0)(at_:Nat)(b:Bool)(c:UInt8)(h:at_<=s.size):BZ s at_ b c<=s.size:=by
 unfold BZ;have:=Gc s at_ b h;split
 .rename_i a;simp only[eW]at a;have:=Fa a.2;omega
 .exact this
theorem LW(b:Nat)(s:g0)(at_:Nat)(a:Bool)(n:Int)(c:UInt8)(w:j7)(m:n=c.toNat)(t:s.size<=1000000)(p:at_<=s.size)(o:AI w b (BK s at_ a) 73):
  Calls prog 80 #[j3 (V ⟨b,0,Y⟩),X .u8 n] w λe k=>e=j4 (jJ (!a&&DS s (AN s at_ a) c))/\AI k b (BK s (BZ s at_ a c) a) 73/\Ac [b] w k:=by
 have r:=Gc s at_ a p;unfold BZ;obtain⟨j,i⟩:∃j,AN s at_ a=j:=⟨_,rfl⟩;rw[i]at r⊢;obtain⟨g,h⟩:∃g,(!a&&DS s j c)=g:=⟨_,rfl⟩;rw[h];have f:j9 (AN s at_ a=j/\(!a&&DS s j c)=g/\n=c.toNat):=⟨i,h,m⟩;clear i h m;go_enter func80,ntmps80;go_wp2_with fail
 refine(PK b s at_ a n c _ f.out.2.2 t p o).mono ?_;rintro e v ⟨rfl,d,l⟩;rw[f.out.1,f.out.2.1];rw[f.out.1]at d;clear o f;have q:=d.cell 0;have u:=d.cell 1;have x:=d.frozen 1;simp[BK]at q u;cases g with
 |true=>
  go_wp2;go_ret;exact⟨Bf rfl,d.set 1 _,l.setCell (by simp) _⟩
 |false=>
  go_wp2;go_ret;exact⟨Bf rfl,d,l⟩
theorem Mi(b:Nat)(s:g0)(at_:Nat)(a:Bool)(n:Int)(c:UInt8)(w:j7)(o:n=c.toNat)(v:s.size<=1000000)(x:at_<=s.size)(p:AI w b (BK s at_ a) 73):
  Calls prog 82 #[j3 (V ⟨b,0,Y⟩),X .u8 n] w λe l=>e=j4 (.tuple #[])/\AI l b (BK s (BZ s at_ a c) (!(!a&&DS s (AN s at_ a) c))) 73/\Ac [b] w l:=by
 have q:j9 ((!a&&DS s (AN s at_ a) c)=jj->a=K):=by intro h;cases a<;>simp_all
 obtain⟨j,k⟩:∃j,BZ s at_ a c=j:=⟨_,rfl⟩;obtain⟨i,f⟩:∃i,(!a&&DS s (AN s at_ a) c)=i:=⟨_,rfl⟩;rw[k,f];rw[f]at q;have g:j9 (BZ s at_ a c=j/\(!a&&DS s (AN s at_ a) c)=i/\n=c.toNat):=⟨k,f,o⟩;clear k f o;go_enter func82,ntmps82;go_wp2_with fail
 refine(LW b s at_ a n c _ g.out.2.2 v x p).mono ?_;rintro e r ⟨rfl,d,m⟩;rw[g.out.2.1];rw[g.out.1]at d;clear p g;have u:=d.cell 2;have y:=d.frozen 2;simp[BK]at u;cases i with
 |true=>
  have t:j9 (AI r b (BK s j (!true)) 73):=by have e:=q.out rfl;rw[e]at d;exact d
  go_wp2;go_end0;exact⟨rfl,t.out,m⟩
 |false=>
  go_wp2;go_end0;exact⟨rfl,d.set 2 _,m.setCell (by simp) _⟩
def AF(p:UInt8->Bool)(s:g0)(i:Nat):Nat:=
 if h:i<s.size then(if p s[i] then AF p s (i+1)else i)else i
def Cz(p:UInt8->Bool)(s:g0)(i:Nat)(h:i<=s.size):AF p s i<=s.size:=by
 fun_induction AF p s i<;>omega
def B8(p:UInt8->Bool)(s:g0)(i:Nat):i<=AF p s i:=by
 fun_induction AF p s i<;>omega
def B6(p:UInt8->Bool)(s:g0)(i:Nat)(h:i<s.size)(a:p s[i]=jj):AF p s i=AF p s (i+1):=by
 rw[AF];simp[h,a]
def ED(p:UInt8->Bool)(s:g0)(i:Nat)(h:i<s.size)(a:p s[i]=K):AF p s i=i:=by
 rw[AF];simp[h,a]
def FI(p:UInt8->Bool)(s:g0)(i:Nat)(h:¬i<s.size):AF p s i=i:=by
 rw[AF];simp[h]
def AX(s:g0)(at_:Nat)(bad:Bool):g0×Nat×Bool:=
 if bad then(jK,at_,jj)else
  if AF Az s (Ae s at_)=Ae s at_\/4<AF Az s (Ae s at_)-Ae s at_ then(jK,Ae s at_,jj)
  else(s.extract (Ae s at_) (AF Az s (Ae s at_)),AF Az s (Ae s at_),K)
def DR{s:g0}{at_ j k:Nat}(a:Ae s at_=j)(b:AF Az s j=k)(h:k=j\/4<k-j):AX s at_ K=(jK,j,jj):=by
 unfold AX;rw[a,b,eE (by simp),eI h]
def JX{s:g0}{at_ j k:Nat}(a:Ae s at_=j)(b:AF Az s j=k)(h:¬(k=j\/4<k-j)):AX s at_ K=(s.extract j k,k,K):=by
 unfold AX;rw[a,b,eE (by simp),eE h]
theorem L4(b:Nat)(s:g0)(at_:Nat)(f:Bool)(w:j7)(F:s.size<=1000000)(q:at_<=s.size)(m:AI w b (BK s at_ f) 73):
  Calls prog 126 #[j3 (V ⟨b,0,Y⟩)] w λe x=>e=j4 (O (AX s at_ f).1)/\AI x b (BK s (AX s at_ f).2.1 (AX s at_ f).2.2) 73/\Ac [b] w x:=by
 cases f with
 |true=>
  go_enter func126,ntmps126;go_wp2_with fail
  refine(Ds b s at_ jj _ F q m).mono ?_;rintro e G ⟨rfl,a,c⟩;rw[J8]at a;clear m;have p:=a.cell 0;have v:=a.cell 1;have r:=a.cell 2;have I:=a.frozen 2;simp[BK]at p v r;go_wp2
  go_loop [4] (λi=>i=X J at_) (λ_=>0)
  case atStart=>rfl
  case round=>
   subst hrel;go_wp2;go_ret;exact⟨rfl,a.set 2 _,c.setCell (by simp) _⟩
 |false=>
  obtain⟨j,t⟩:∃j,Ae s at_=j:=⟨_,rfl⟩;have A:=Bn s at_ q;rw[t]at A;obtain⟨R,u⟩:∃R,AX s at_ K=R:=⟨_,rfl⟩;rw[u];have o:j9 (Ae s at_=j):=t;have z:j9 (AX s at_ K=R):=u;clear t u;go_enter func126,ntmps126;go_wp2_with fail
  refine(Ds b s at_ K _ F q m).mono ?_;rintro e G ⟨rfl,a,c⟩;rw[show AN s at_ K=j from o.out]at a
  clear m;have p:=a.cell 0;have v:=a.cell 1;have r:=a.cell 2;have S:=a.frozen 1;have I:=a.frozen 2;simp[BK]at p v r;go_wp2
  go_loop [4] (λi=>∃k:Nat,i=X J k/\j<=k/\k<=s.size/\AF Az s k=AF Az s j) (λi=>s.size-(intOf i).toNat)
  case atStart=>exact⟨j,rfl,eM _,A,rfl⟩
  case round=>
   obtain⟨k,rfl,N,Q,D⟩:=hrel;have C:j9 (AF Az s k=AF Az s j):=D;clear D;have y:j9 (AF Az s k=k->(((k:Int)=j\/4<(k:Int)-j)->R=(jK,j,jj))/\(¬((k:Int)=j\/4<(k:Int)-j)->R=(s.extract j k,k,K))):=by
    intro L;(have B:AF Az s j=k:=by rw[<-C.out];exact L);exact⟨λh=>by rw[<-z.out];exact DR o.out B (by omega),λh=>by rw[<-z.out];exact JX o.out B (by omega)⟩
   by_cases n:k<s.size
   ·(have P:(k:Int)<(s.size:Int):=by omega);by_cases l:Az s[k]=jj
    ·(have H:j9 (AF Az s (k+1)=AF Az s j):=by show _=_;rw[<-B6 Az s k n l];exact C.out);go_wp2_with (go_at_call 169;refine(Ij _ s[k] _ rfl).mono ?_;rintro e M ⟨rfl,rfl⟩;rw[l])
     go_round
     case rel=>exact⟨k+1,by go_num,by omega,by omega,H.out⟩
     case measure=>simp[intOf];omega
    ·(have E:Az s[k]=K:=by simpa using l);have g:=y.out (ED Az s k n E);have d:j9 ((((k:Int)=j\/4<(k:Int)-j)->R=(jK,j,jj))/\(¬((k:Int)=j\/4<(k:Int)-j)->R=(s.extract j k,k,K))):=g;clear g l;go_wp2_with (go_at_call 169;refine(Ij _ s[k] _ rfl).mono ?_;rintro e M ⟨rfl,rfl⟩;rw[E])
     all_goals go_ret
     .rw[d.out.1 (by omega)];exact⟨rfl,a.set 2 _,c.setCell (by simp) _⟩
     .rw[d.out.1 (by simp_all)];exact⟨rfl,a.set 2 _,c.setCell (by simp) _⟩
     .rw[d.out.2 (by simp_all)];exact⟨rfl,a.set 1 _,c.setCell (by simp) _⟩
   .have g:=y.out (FI Az s k n);have d:j9 ((((k:Int)=j\/4<(k:Int)-j)->R=(jK,j,jj))/\(¬((k:Int)=j\/4<(k:Int)-j)->R=(s.extract j k,k,K))):=g;clear g;go_wp2;all_goals go_ret
    .rw[d.out.1 (by omega)];exact⟨rfl,a.set 2 _,c.setCell (by simp) _⟩
    .rw[d.out.1 (by simp_all)];exact⟨rfl,a.set 2 _,c.setCell (by simp) _⟩
    .rw[d.out.2 (by simp_all)];exact⟨rfl,a.set 1 _,c.setCell (by simp) _⟩
def D4(r:Int):Int:=
 if 97<=r/\r<=122 then 2 else if 48<=r/\r<=57 then 3 else if 65<=r/\r<=90 then 4
 else if r=58\/r=46\/r=44\/r=33\/r=61\/r=35\/r=60\/r=40\/r=41 then 5 else 0
theorem I8(r:Int)(w:j7):Calls prog 192 #[X .i32 r] w λe a=>e=j4 (X J (D4 r))/\a=w:=by
 go_enter func192,ntmps192;go_wp2;all_goals
  go_ret;refine⟨cg ?_,rfl⟩
  try simp only[ff,gF,ne_eq]at*
  unfold D4
  (repeat' split)<;>omega
structure AZ where
 kind:Int
 place:Nat
 text:g0
def Be(m:AZ):List j8:=[X J m.kind,X J m.place,O m.text]
def Cy(m:AZ)(place:Nat)(r:Int):Bool:=
 if m.place+m.text.size≠place then K
 else if m.kind=2\/m.kind=3 then D4 r==m.kind
 else if m.kind=5 then(m.text.toList==[58])&&r==45
 else K
theorem U1(m:AZ)(place:Nat)(r:Int)(w:j7)(p:m.place<=1000000)(s:m.text.size<=1000000)(q:place<=1000000):
  Calls prog 191 #[jH (j2 (Be m)),X J place,X .i32 r] w λe l=>e=j4 (jJ (Cy m place r))/\Ac [] w l:=by
 simp only[Be];obtain⟨G,g⟩:∃G,Cy m place r=G:=⟨_,rfl⟩;rw[g];have a:=g;unfold Cy at a;clear g;by_cases f:m.place+m.text.size=place
 .have o:((m.place:Int)+(m.text.size:Int) !=(place:Int))=K:=by simp;omega
  rw[eE (by omega)]at a;by_cases b:m.kind=2\/m.kind=3
  .rw[eI b]at a;have c:j9 ((D4 r==m.kind)=G):=a;clear a f;(have i:∀n:Nat,True:=λ_=>trivial);clear i;rcases b with b|b
   ·(have h:(m.kind==2)=jj:=by simp[b]);clear b;go_enter func191,ntmps191;go_wp2_with fail
    go_quiet ((go_at_call 192;exact iB (I8 _ _)))
    go_wp2;go_ret;exact⟨Bf c.out,((Ac.refl _ _).alloc _).drewN _⟩
   ·(have h:(m.kind==2)=K:=by simp[b]);(have k:(m.kind==3)=jj:=by simp[b]);clear b;go_enter func191,ntmps191;go_wp2_with fail
    go_quiet ((go_at_call 192;exact iB (I8 _ _)))
    go_wp2;go_ret;exact⟨Bf c.out,((Ac.refl _ _).alloc _).drewN _⟩
  .rw[eE b]at a;(have h:(m.kind==2)=K:=by simp;omega);(have k:(m.kind==3)=K:=by simp;omega);by_cases d:m.kind=5
   .rw[eI d]at a;(have j:(m.kind==5)=jj:=by simp[d]);have c:j9 (((m.text.toList==[58])&&r==45)=G):=a;clear a f b d;go_enter func191,ntmps191;go_wp2;all_goals
     go_ret;refine⟨Bf ?_,(Ac.refl _ _).alloc _⟩;rw[<-c.out]
     simp_all
   .rw[eE d]at a;(have j:(m.kind==5)=K:=by simp[d]);have c:j9 (K=G):=a;clear a f b d;go_enter func191,ntmps191;go_wp2;go_ret;exact⟨Bf c.out,(Ac.refl _ _).alloc _⟩
 .have o:((m.place:Int)+(m.text.size:Int) !=(place:Int))=jj:=by simp;omega
  rw[eI (by omega)]at a;have c:j9 (K=G):=a;clear a f;go_enter func191,ntmps191;go_wp2;go_ret;exact⟨Bf c.out,(Ac.refl _ _).alloc _⟩
def ZW{s:g0}(h:0<s.size):DS s 0 48=((s[0].toNat:Int)==48):=by
 have e:((s[0].toNat:Int)==48)=(s[0]==48):=Cp s[0] 48;rw[e];simp[DS,h]
def Iq(m:AZ):Bool:=
 if m.kind=2 then decide (m.text.size<=4)
 else if m.kind=3 then decide (m.text.size=1)||(decide (m.text.size<=3)&& !(DS m.text 0 48))
 else jj
theorem Th(m:AZ)(w:j7)(o:m.text.size<=1000000)(g:m.kind=3->0<m.text.size):
  Calls prog 157 #[jH (j2 (Be m))] w λe j=>e=j4 (jJ (Iq m))/\Ac [] w j:=by
 simp only[Be];obtain⟨G,h⟩:∃G,Iq m=G:=⟨_,rfl⟩;rw[h];have a:=h;unfold Iq at a;clear h;by_cases b:m.kind=2
 .have l:(m.kind==2)=jj:=by simp[b]
  rw[eI b]at a;have c:j9 (decide (m.text.size<=4)=G):=a;clear a b g;go_enter func157,ntmps157;go_wp2;go_ret;refine⟨Bf ?_,(Ac.refl _ _).alloc _⟩;rw[<-c.out];simp
  try omega
 .have l:(m.kind==2)=K:=by simp[b]
  rw[eE b]at a;by_cases d:m.kind=3
  ·(have i:(m.kind==3)=jj:=by simp[d]);have k:=g d;(have n:(0:Int)<(m.text.size:Int):=by omega);rw[eI d,ZW k]at a;have c:j9 ((decide (m.text.size=1)||(decide (m.text.size<=3)&& !((m.text[0].toNat:Int)==48)))=G):=a;clear a b d g;go_enter func157,ntmps157;go_wp2
   .go_ret;refine⟨Bf ?_,(Ac.refl _ _).alloc _⟩;(have f:m.text.size=1:=by omega);rw[<-c.out];simp[f]
   .go_ret;refine⟨Bf ?_,(Ac.refl _ _).alloc _⟩;(have f:¬m.text.size=1:=by omega);(have b:m.text.size<=3:=by omega);rw[<-c.out];simp only[f,b,jr,decide_true,ib,gq];simp[bne];omega
   .go_ret;refine⟨Bf ?_,(Ac.refl _ _).alloc _⟩;(have f:¬m.text.size=1:=by omega);(have b:¬m.text.size<=3:=by omega);rw[<-c.out];simp[f,b];omega
  ·(have i:(m.kind==3)=K:=by simp[d]);rw[eE d]at a;have c:j9 (jj=G):=a;clear a b d g;go_enter func157,ntmps157;go_wp2;go_ret;exact⟨Bf c.out,(Ac.refl _ _).alloc _⟩
theorem Tryz.zy:(Tryz.prog.info? 206).map (λi=>(i.zero,i.size,i.bytes))=V (V (jH #[X J 0,X J 0,O ⟨#[]⟩]),3,32):=by kernel_rfl
def F0(m:AZ):Z (Be m)=3:=rfl
def BE{w:j7}{base:Nat}{e:TypeId}{size:Nat}{g n cap:Nat}{b:List j8}(h:jG w base e size (U (V ⟨g,0,Y⟩) n cap) n b)(i:Nat)(u:j8):
  jG (w.setCell ⟨g,i,Y⟩ u) base e size (U (V ⟨g,0,Y⟩) n cap) n (b.set i u):=by
 refine⟨by rw[fY];exact h.1,?_⟩;rcases h.2 with⟨a,_⟩|⟨p,o,c,a,j,l,m,d,k,f⟩
 .cases a
 .simp only[ei,eD,fm]at a;obtain⟨⟨rfl,_,_⟩,_,rfl⟩:=a;refine j6 ⟨g,cap,c.setIfInBounds i u,rfl,j,?_,m,d,by simpa using k,?_⟩
  .simp[World.setCell,Array.getElem?_modify,l]
  .rw[Array.toList_setIfInBounds,List.take_set,f]
def GD{w:j7}{base:Nat}{e:TypeId}{size:Nat}{g n cap:Nat}{b:List j8}(h:jG w base e size (U (V ⟨g,0,Y⟩) n cap) n b)(i:Nat):w.frozen? ⟨g,i,Y⟩=K:=by
 rcases h.2 with⟨a,_⟩|⟨k,f,d,a,j,c,_⟩
 .cases a
 .simp only[ei,eD,fm]at a;obtain⟨⟨rfl,_,_⟩,_,rfl⟩:=a;simp[World.frozen?,c]
def Wi(r:Int):(Utf8.encode r).size<=4:=by
 unfold Utf8.encode;simp only;generalize(if Utf8.valid r=jj then r.toNat else Utf8.runeError)=c
 repeat' split
 all_goals simp[ByteArray.size]
def Co(place:Nat)(r:Int):AZ:=⟨D4 r,place,Utf8.encode r⟩
def KU(ms:List AZ)(place:Nat)(r:Int):List AZ:=
 if r=32\/r=10 then ms
 else match ms.getLast? with
  |some m=>if Cy m place r then ms.dropLast++[{m with text:=m.text++Utf8.encode r}] else ms++[Co place r]
  |none=>ms++[Co place r]
def Nb{pre:List AZ}{m:AZ}{place:Nat}{r:Int}(h:¬(r=32\/r=10)):KU (pre++[m]) place r=if Cy m place r then pre++[{m with text:=m.text++Utf8.encode r}] else pre++[m]++[Co place r]:=by
 unfold KU;rw[eE h];simp
def Zi(pre:List AZ)(m:AZ)(u:g0):((pre++[m]).flatMap Be).set (Z pre*3+2) (O u)=(pre++[{m with text:=u}]).flatMap Be:=by
 have b:Z (pre.flatMap Be)=Z pre*3:=by
  induction pre with
  |nil=>rfl
  |cons a l ih=>rw[eN,eJ,ih,F0,eF];omega
 simp only[eY,eN,fF,fh];rw[js _ _ (by omega),b];simp[Be]
set_option maxRecDepth 100000
theorem bP(mv:j8)(i:List AZ)(place:Nat)(r:Int)(B:Nat)(w:j7)(hB:B<=w.heap.size)(f:jG w B 206 3 mv (Z i) (i.flatMap Be))(FA:Z i<=1000000)(BT:place<=1000000)
  (y:∀m∈i,m.place<=1000000/\m.text.size<=1000000):
  Calls prog 156 #[mv,X J place,X .i32 r] w λe L=>∃v,e=j4 v/\jG L B 206 3 v (Z (KU i place r)) ((KU i place r).flatMap Be)/\Below B w L:=by
 obtain⟨i0,A2,N,Ax,AH⟩:=fC Tryz.zy;obtain⟨ad,W,rfl⟩:=Ak f;by_cases b:r=32\/r=10
 .have j:j9 (KU i place r=i):=by show _=_;unfold KU;rw[eI b]
  rcases b with b|b
  ·(have T:(r==32)=jj:=by simp[b]);clear b;go_enter func156,ntmps156;go_wp2;go_ret;rw[j.out];exact⟨_,rfl,f,Below.refl _ _⟩
  ·(have T:(r==32)=K:=by simp[b]);(have h2:(r==10)=jj:=by simp[b]);clear b;go_enter func156,ntmps156;go_wp2;go_ret;rw[j.out];exact⟨_,rfl,f,Below.refl _ _⟩
 .have T:(r==32)=K:=by simp;omega
  have h2:(r==10)=K:=by simp;omega
  rcases List.eq_nil_or_concat i with rfl|⟨pre,m,P⟩
  ·(have j:j9 (KU [] place r=[Co place r]):=by show _=_;unfold KU;rw[eE b];rfl);have Q:=I8 r w;clear b y;have BS:=Ab Q;clear Q;go_enter func156,ntmps156;(go_wp2_with fail);refine BS.mono ?_;rintro e d ⟨rfl,AT⟩;rw[AT];clear AT d;go_wp2_with (at_builtin;refine eP _ rfl (.tmp 40) (.tmp 47) _ rfl B 206 i0 _ 3 32 underlying200 A2 N Ax AH rfl (by omega) (U ad 0 W) 0 [] rfl (eC f _) ⟨w.heap.size,0,Y⟩ 1 1 (Be (Co place r)) rfl rfl (eS (cs:=j2 (Be (Co place r))) (t:=206) (fr:=(0,0)) (fe w _)) (by simp[Value.oneCell',Be]) (by omega) (by unfold maxLen;omega) (by omega) (by simp;omega) (w.heap.size+1) (by simp) ?_;intro g1 B2 d F n x o)
   have H:Below B w d:=((Below.refl B w).alloc hB _).grown n (by simp;omega) (λq A=>(f.lt q A).1);clear n x o;go_wp2;go_ret;rw[j.out];refine⟨_,rfl,?_,H⟩;simpa using F
  .rw[List.concat_eq_append]at P;subst P;have j:=Ab (Nb (pre:=pre) (m:=m) (place:=place) b);(have p:Z pre<Z (pre++[m]):=by simp);obtain⟨g,EY,he,hc,s⟩:=AC f (λc _=>F0 c) (Z pre) p;simp only[ei]at he;obtain⟨rfl,_,rfl⟩:=he;have I:=s (Z pre) p 0 (by omega);have C:=s (Z pre) p 1 (by omega);have u:=s (Z pre) p 2 (by omega);simp[Be]at I C u;have E:=y m (by simp);have M:=GD f (Z pre*3+2);(have o:Z (pre++[m])=Z pre+1:=by simp);(have FF:Z pre<=1000000:=by omega);have z:=U1 m place r w E.1 E.2 BT;simp only[Be]at z;have S:=Ab z;clear s b z y;rw[o]at f⊢;cases hgo:Cy m place r with
   |true=>
    have G:=Ab hgo;go_enter func156,ntmps156;(go_wp2_with fail);refine S.mono ?_;rintro e d ⟨rfl,a⟩;rw[hgo];have l:=Ad f a (by simp);have EX:=GD l (Z pre*3+2);have FL:d.cell? ⟨g,Z pre*3+2,Y⟩=V (O m.text):=by
     have EK:=(f.lt g rfl).2;rw[World.cell?_of_block (w:=w) (a.block g EK (by simp))];exact u
    have D:Below B w d:=⟨a.os,a.tape,a.output,a.size,λk hk=>a.block k (by omega) (by simp)⟩;clear I C u M a hgo;have EM:=Wi r;have FB:=E.2;go_wp2;go_ret;rw[Aa j,Aa G,eI rfl];refine⟨_,rfl,?_,D.setCell (f.lt g rfl).1 _⟩;have h:=BE l (Z pre*3+2) (O (m.text++Utf8.encode r));rw[Zi]at h;simpa using h
   |false=>
    have G:=Ab hgo;go_enter func156,ntmps156;(go_wp2_with fail);refine S.mono ?_;rintro e d ⟨rfl,a⟩;rw[hgo];have l:=Ad f a (by simp);have D:Below B w d:=⟨a.os,a.tape,a.output,a.size,λk hk=>a.block k (by omega) (by simp)⟩;have FC:=a.size;clear I C u M a hgo;(go_wp2_with fail);refine(I8 r d).mono ?_;rintro e w2 ⟨rfl,R⟩;rw[R];clear R w2;go_wp2_with (at_builtin;refine eP _ rfl (.tmp 40) (.tmp 47) _ rfl B 206 i0 _ 3 32 underlying200 A2 N Ax AH rfl (by omega) (U (V ⟨g,0,Y⟩) (Z pre+1) W) (Z pre+1) ((pre++[m]).flatMap Be) rfl (eC l _) ⟨d.heap.size,0,Y⟩ 1 1 (Be (Co place r)) rfl rfl (eS (cs:=j2 (Be (Co place r))) (t:=206) (fr:=(0,0)) (fe d _)) (by simp[Value.oneCell',Be]) (by omega) (by unfold maxLen;omega) (by omega) (by simp;omega) (d.heap.size+1) (by simp) ?_;intro g1 B2 w3 F n x o)
    have H:Below B w w3:=(D.alloc (by omega) _).grown n (by simp;omega) (λq A=>(l.lt q A).1);clear n x o;go_wp2;go_ret;rw[Aa j,Aa G,eE (by simp)];refine⟨_,rfl,?_,H⟩;simpa using F
structure AG where
 v:UInt8
 s:g0
def AQ(t:AG):List j8:=[X .u8 t.v.toNat,O t.s]
def AK(s:g0)(at_:Nat)(bad:Bool):AG×Nat×Bool:=
 if bad then(⟨0,jK⟩,at_,jj)else
 if h:Ae s at_<s.size then
  if C6 s[Ae s at_] then(⟨s[Ae s at_],jK⟩,Ae s at_+1,K)
  else if !An s[Ae s at_] then(⟨0,(AX s (Ae s at_) K).1⟩,(AX s (Ae s at_) K).2)
  else if 3<AF An s (Ae s at_)-Ae s at_\/(s[Ae s at_]=48/\1<AF An s (Ae s at_)-Ae s at_)then(⟨0,jK⟩,Ae s at_,jj)
  else(⟨0,s.extract (Ae s at_) (AF An s (Ae s at_))⟩,AF An s (Ae s at_),K)
 else(⟨0,jK⟩,Ae s at_,jj)
set_option maxRecDepth 512
theorem Zl(b:Nat)(s:g0)(at_:Nat)(w:j7)(l:s.size<=1000000)(m:at_<=s.size)(d:AI w b (BK s at_ jj) 73):
  Calls prog 127 #[j3 (V ⟨b,0,Y⟩)] w λe f=>e=j4 (jH #[X .u8 0,O jK])/\AI f b (BK s at_ jj) 73/\Ac [b] w f:=by
 have p:=d.lt;go_enter func127,ntmps127;go_wp2_with fail
 refine(Ds b s at_ jj _ l m (d.alloc _)).mono ?_;rintro e o ⟨rfl,a,g⟩;rw[J8]at a;clear d;have c:=(AI.new w _ _).kept g (by simp;omega);have j:=c.cell 0;have k:=c.cell 1;have r:=c.frozen;have h:=a.cell 0;have n:=a.cell 1;have i:=a.cell 2;have q:=a.frozen 2;simp[BK]at h n i j k;go_wp2
 go_quiet (fail)
 go_wp2;refine eX (BQ rfl rfl ((((c.drewN _).zA _ (by simp;omega) _).set 0 _).set 1 _) underlying93 rfl (by kernel_rfl)) rfl ⟨rfl,?_,?_⟩
 .exact(((a.drewN _).set 2 _).zA _ (by simp;omega) _).zA _ (by simp;omega) _
 .exact(((((Ac.refl _ _).alloc _).trans g).drewN _).setCell (by simp) _|>.setCell (by simp) _).setCell (by simp) _
theorem ZA(b:Nat)(s:g0)(at_ j:Nat)(w:j7)(q:s.size<=1000000)(i:at_<=s.size)(d:Ae s at_=j)(v:¬j<s.size)(f:AI w b (BK s at_ K) 73):
  Calls prog 127 #[j3 (V ⟨b,0,Y⟩)] w λe g=>e=j4 (jH #[X .u8 0,O jK])/\AI g b (BK s j jj) 73/\Ac [b] w g:=by
 have y:=f.lt;have n:=Bn s at_ i;rw[d]at n;have h:j9 (Ae s at_=j):=d;clear d;go_enter func127,ntmps127;go_wp2_with fail
 refine(Ds b s at_ K _ q i (f.alloc _)).mono ?_;rintro e u ⟨rfl,a,k⟩;rw[show AN s at_ K=j from h.out]at a
 clear f h;have c:=(AI.new w _ _).kept k (by simp;omega);have m:=c.cell 0;have p:=c.cell 1;have x:=c.frozen;have l:=a.cell 0;have r:=a.cell 1;have o:=a.cell 2;have A:=a.frozen 1;have z:=a.frozen 2;simp[BK]at l r o m p;have t:decide ((s.size:Int)<=(j:Int))=jj:=by simp;omega
 go_wp2
 go_quiet (fail)
 go_wp2;refine eX (BQ rfl rfl ((((c.drewN _).zA _ (by simp;omega) _).set 0 _).set 1 _) underlying93 rfl (by kernel_rfl)) rfl ⟨rfl,?_,?_⟩
 .exact(((a.drewN _).set 2 _).zA _ (by simp;omega) _).zA _ (by simp;omega) _
 .exact(((((Ac.refl _ _).alloc _).trans k).drewN _).setCell (by simp) _|>.setCell (by simp) _).setCell (by simp) _
theorem U0(b:Nat)(s:g0)(at_ j:Nat)(w:j7)(r:s.size<=1000000)(i:at_<=s.size)(d:Ae s at_=j)(x:j<s.size)(p:C6 s[j]=jj)(f:AI w b (BK s at_ K) 73):
  Calls prog 127 #[j3 (V ⟨b,0,Y⟩)] w λe g=>e=j4 (jH #[X .u8 s[j].toNat,O jK])/\AI g b (BK s (j+1) K) 73/\Ac [b] w g:=by
 have A:=f.lt;have n:=Bn s at_ i;rw[d]at n;have h:j9 (Ae s at_=j):=d;clear d;go_enter func127,ntmps127;go_wp2_with fail
 refine(Ds b s at_ K _ r i (f.alloc _)).mono ?_;rintro e v ⟨rfl,a,k⟩;rw[show AN s at_ K=j from h.out]at a
 clear f h;have c:=(AI.new w _ _).kept k (by simp;omega);have m:=c.cell 0;have q:=c.cell 1;have z:=c.frozen;have l:=a.cell 0;have t:=a.cell 1;have o:=a.cell 2;have C:=a.frozen 1;have B:=a.frozen 2;simp[BK]at l t o m q;have u:decide ((s.size:Int)<=(j:Int))=K:=by simp;omega
 have y:(j:Int)<(s.size:Int):=by omega
 go_wp2
 go_quiet (fail)
 go_wp2
 go_quiet (fail)
 go_wp2_with (go_at_call 170;refine(MF _ s[j] _ rfl).mono ?_;rintro e D ⟨rfl,rfl⟩;rw[p])
 refine eX (BQ rfl rfl ((((c.drewN _).zA _ (by simp;omega) _).set 0 _).set 1 _) underlying93 rfl (by kernel_rfl)) rfl ⟨rfl,?_,?_⟩
 .exact(((a.drewN _).set 1 _).zA _ (by simp;omega) _).zA _ (by simp;omega) _
 .exact(((((Ac.refl _ _).alloc _).trans k).drewN _).setCell (by simp) _|>.setCell (by simp) _).setCell (by simp) _
theorem Yz(b:Nat)(s:g0)(at_ j:Nat)(w:j7)(r:s.size<=1000000)(m:at_<=s.size)(f:Ae s at_=j)(I:j<s.size)(C:C6 s[j]=K)(v:An s[j]=K)(g:AI w b (BK s at_ K) 73):
  Calls prog 127 #[j3 (V ⟨b,0,Y⟩)] w λe h=>e=j4 (jH #[X .u8 0,O (AX s j K).1])/\AI h b (BK s (AX s j K).2.1 (AX s j K).2.2) 73/\Ac [b] w h:=by
 have N:=g.lt;have z:=Bn s at_ m;rw[f]at z;have i:j9 (Ae s at_=j):=f;clear f;go_enter func127,ntmps127;go_wp2_with fail
 refine(Ds b s at_ K _ r m (g.alloc _)).mono ?_;rintro e H ⟨rfl,a,n⟩;rw[show AN s at_ K=j from i.out]at a
 clear g i;have d:=(AI.new w _ _).kept n (by simp;omega);have l:=d.cell 0;have q:=d.cell 1;have y:=d.frozen;have k:=a.cell 0;have u:=a.cell 1;have p:=a.cell 2;have F:=a.frozen 1;have E:=a.frozen 2;simp[BK]at k u p l q;have G:decide ((s.size:Int)<=(j:Int))=K:=by simp;omega
 have M:(j:Int)<(s.size:Int):=by omega
 have P:∀(x:Bool) (w:j7),(Op.unary .not (jJ x)).run prog w=.ok (jJ (!x)) w:=λ_ _=>rfl
 go_wp2
 go_quiet (fail)
 go_wp2
 go_quiet (fail)
 go_wp2_with (first|(go_at_call 170;refine(MF _ s[j] _ rfl).mono ?_;rintro e t ⟨rfl,rfl⟩;rw[C])|(go_at_call 55;refine(Ck _ s[j] _ rfl).mono ?_;rintro e t ⟨rfl,rfl⟩;rw[v]))
 refine(L4 b s j K _ r (by omega) (a.drewN _)).mono ?_;rintro e t ⟨rfl,D,o⟩;have c:=(d.drewN _).kept o (by simp;omega);have A:=c.cell 0;have B:=c.cell 1;have L:=c.frozen;simp at A B;clear y l q F E k u p;go_wp2;refine eX (BQ rfl rfl ((c.set 0 _).set 1 _) underlying93 rfl (by kernel_rfl)) rfl ⟨rfl,?_,?_⟩
 .exact(D.zA _ (by simp;omega) _).zA _ (by simp;omega) _
 .exact(((((Ac.refl _ _).alloc _).trans n).drewN _).trans o|>.setCell (by simp) _).setCell (by simp) _
def Gi(s:g0)(j k:Nat):AG×Nat×Bool:=
 if 3<k-j\/(DS s j 48=jj/\1<k-j)then(⟨0,jK⟩,j,jj)else(⟨0,s.extract j k⟩,k,K)
def Nu{s:g0}{j k:Nat}(h:(3:Int)<((k-j:Nat):Int)):Gi s j k=(⟨0,jK⟩,j,jj):=by
 unfold Gi;rw[eI (by omega)]
def WP{s:g0}{j:Nat}(a:j<s.size)(c:UInt8):DS s j c=jj↔(s[j].toNat:Int)=c.toNat:=by
 unfold DS;simp only[a,dite_true,gF];constructor
 .intro h;rw[h]
 .intro h;exact gn.1 (by omega)
def Ng{s:g0}{j k:Nat}(b:j<s.size)(h:(s[j].toNat:Int)=48)(a:(3:Int)<((k-j:Nat):Int)\/(1:Int)<((k-j:Nat):Int)):Gi s j k=(⟨0,jK⟩,j,jj):=by
 unfold Gi;rw[eI (by rcases a with a|a;exact j5 (by omega);exact j6 ⟨(WP b 48).2 h,by omega⟩)]
def Pk{s:g0}{j k:Nat}(h:((k-j:Nat):Int)<=3)(a:((k-j:Nat):Int)<=1):Gi s j k=(⟨0,s.extract j k⟩,k,K):=by
 unfold Gi;rw[eE (by omega)]
def OI{s:g0}{j k:Nat}(b:j<s.size)(h:¬(s[j].toNat:Int)=48)(c:((k-j:Nat):Int)<=3):Gi s j k=(⟨0,s.extract j k⟩,k,K):=by
 unfold Gi;rw[eE (by rintro (a|⟨a,_⟩);omega;exact h ((WP b 48).1 a))]
theorem Tk(b:Nat)(s:g0)(at_ j:Nat)(w:j7)(R:AG×Nat×Bool)(M:s.size<=1000000)(y:at_<=s.size)(p:Ae s at_=j)(g:j<s.size)(H:C6 s[j]=K)(v:An s[j]=jj)
  (o:j9 (R=Gi s j (AF An s j)))
  (q:AI w b (BK s at_ K) 73):
  Calls prog 127 #[j3 (V ⟨b,0,Y⟩)] w λe t=>e=j4 (jH (j2 (AQ R.1)))/\AI t b (BK s R.2.1 R.2.2) 73/\Ac [b] w t:=by
 have AH:=q.lt;have z:=Bn s at_ y;rw[p]at z;have u:j9 (Ae s at_=j):=p;clear p;go_enter func127,ntmps127;go_wp2_with fail
 refine(Ds b s at_ K _ M y (q.alloc _)).mono ?_;rintro e Q ⟨rfl,a,d⟩;rw[show AN s at_ K=j from u.out]at a
 clear q u;have c:=(AI.new w _ _).kept d (by simp;omega);have D:=c.cell 0;have L:=c.cell 1;have Ax:=c.frozen;have C:=a.cell 0;have F:=a.cell 1;have G:=a.cell 2;have A2:=a.frozen 1;have A1:=a.frozen 2;simp[BK]at C F G D L;have P:decide ((s.size:Int)<=(j:Int))=K:=by simp;omega
 have W:(j:Int)<(s.size:Int):=by omega
 have AT:∀(x:Bool) (w:j7),(Op.unary .not (jJ x)).run prog w=.ok (jJ (!x)) w:=λ_ _=>rfl
 go_wp2
 go_quiet (fail)
 go_wp2
 go_quiet (fail)
 go_wp2_with (first|(go_at_call 170;refine(MF _ s[j] _ rfl).mono ?_;rintro e r ⟨rfl,rfl⟩;rw[H])|(go_at_call 55;refine(Ck _ s[j] _ rfl).mono ?_;rintro e r ⟨rfl,rfl⟩;rw[v]))
 go_loop [4] (λi=>∃k:Nat,i=X J k/\j<=k/\k<=s.size/\AF An s k=AF An s j) (λi=>s.size-(intOf i).toNat)
 case atStart=>exact⟨j,rfl,eM _,z,rfl⟩
 case round=>
  obtain⟨k,rfl,T,AB,A⟩:=hrel;have l:j9 (AF An s k=AF An s j):=A;clear A;have Bx:(j:Int)<=(k:Int):=by omega
  have S:(k:Int)<=(s.size:Int):=by omega
  have h:j9 (AF An s k=k->R=Gi s j k):=by
   intro N;(have E:AF An s j=k:=by rw[<-l.out];exact N);rw[o.out,E]
  by_cases n:k<s.size
  ·(have A0:(k:Int)<(s.size:Int):=by omega);by_cases m:An s[k]=jj
   ·(have I:j9 (AF An s (k+1)=AF An s j):=by show _=_;rw[<-B6 An s k n m];exact l.out);clear v;go_wp2_with (go_at_call 55;refine(Ck _ s[k] _ rfl).mono ?_;rintro e r ⟨rfl,rfl⟩;rw[m])
    go_round
    case rel=>exact⟨k+1,by go_num,by omega,by omega,I.out⟩
    case measure=>simp[intOf];omega
   ·(have B:An s[k]=K:=by simpa using m);have f:j9 (R=Gi s j k):=h.out (ED An s k n B);clear m h o l;go_wp2_with (go_at_call 55;refine(Ck _ s[k] _ rfl).mono ?_;rintro e r ⟨rfl,rfl⟩;rw[B])
    go_quiet (fail)
    go_wp2
    .rw[f.out,Ng g (by assumption) (by assumption)];refine eX (BQ rfl rfl ((((c.drewN _).zA _ (by simp;omega) _).set 0 _).set 1 _) underlying93 rfl (by kernel_rfl)) rfl ⟨rfl,?_,?_⟩
     .exact(((a.drewN _).set 2 _).zA _ (by simp;omega) _).zA _ (by simp;omega) _
     .exact(((((Ac.refl _ _).alloc _).trans d).drewN _).setCell (by simp) _|>.setCell (by simp) _).setCell (by simp) _
    .rw[f.out,Pk (by omega) (by omega)];refine eX (BQ rfl rfl ((((c.drewN _).zA _ (by simp;omega) _).set 0 _).set 1 _) underlying93 rfl (by kernel_rfl)) rfl ⟨rfl,?_,?_⟩
     .exact(((a.drewN _).set 1 _).zA _ (by simp;omega) _).zA _ (by simp;omega) _
     .exact(((((Ac.refl _ _).alloc _).trans d).drewN _).setCell (by simp) _|>.setCell (by simp) _).setCell (by simp) _
    .rw[f.out,OI g (by assumption) (by omega)];refine eX (BQ rfl rfl ((((c.drewN _).zA _ (by simp;omega) _).set 0 _).set 1 _) underlying93 rfl (by kernel_rfl)) rfl ⟨rfl,?_,?_⟩
     .exact(((a.drewN _).set 1 _).zA _ (by simp;omega) _).zA _ (by simp;omega) _
     .exact(((((Ac.refl _ _).alloc _).trans d).drewN _).setCell (by simp) _|>.setCell (by simp) _).setCell (by simp) _
    .rw[f.out,Nu (by omega)];refine eX (BQ rfl rfl ((((c.drewN _).zA _ (by simp;omega) _).set 0 _).set 1 _) underlying93 rfl (by kernel_rfl)) rfl ⟨rfl,?_,?_⟩
     .exact(((a.drewN _).set 2 _).zA _ (by simp;omega) _).zA _ (by simp;omega) _
     .exact(((((Ac.refl _ _).alloc _).trans d).drewN _).setCell (by simp) _|>.setCell (by simp) _).setCell (by simp) _
  .have f:j9 (R=Gi s j k):=h.out (FI An s k n);clear h o l;go_wp2
   go_quiet (fail)
   go_wp2
   .rw[f.out,Ng g (by assumption) (by assumption)];refine eX (BQ rfl rfl ((((c.drewN _).zA _ (by simp;omega) _).set 0 _).set 1 _) underlying93 rfl (by kernel_rfl)) rfl ⟨rfl,?_,?_⟩
    .exact(((a.drewN _).set 2 _).zA _ (by simp;omega) _).zA _ (by simp;omega) _
    .exact(((((Ac.refl _ _).alloc _).trans d).drewN _).setCell (by simp) _|>.setCell (by simp) _).setCell (by simp) _
   .rw[f.out,Pk (by omega) (by omega)];refine eX (BQ rfl rfl ((((c.drewN _).zA _ (by simp;omega) _).set 0 _).set 1 _) underlying93 rfl (by kernel_rfl)) rfl ⟨rfl,?_,?_⟩
    .exact(((a.drewN _).set 1 _).zA _ (by simp;omega) _).zA _ (by simp;omega) _
    .exact(((((Ac.refl _ _).alloc _).trans d).drewN _).setCell (by simp) _|>.setCell (by simp) _).setCell (by simp) _
   .rw[f.out,OI g (by assumption) (by omega)];refine eX (BQ rfl rfl ((((c.drewN _).zA _ (by simp;omega) _).set 0 _).set 1 _) underlying93 rfl (by kernel_rfl)) rfl ⟨rfl,?_,?_⟩
    .exact(((a.drewN _).set 1 _).zA _ (by simp;omega) _).zA _ (by simp;omega) _
    .exact(((((Ac.refl _ _).alloc _).trans d).drewN _).setCell (by simp) _|>.setCell (by simp) _).setCell (by simp) _
   .rw[f.out,Nu (by omega)];refine eX (BQ rfl rfl ((((c.drewN _).zA _ (by simp;omega) _).set 0 _).set 1 _) underlying93 rfl (by kernel_rfl)) rfl ⟨rfl,?_,?_⟩
    .exact(((a.drewN _).set 2 _).zA _ (by simp;omega) _).zA _ (by simp;omega) _
    .exact(((((Ac.refl _ _).alloc _).trans d).drewN _).setCell (by simp) _|>.setCell (by simp) _).setCell (by simp) _
def PP(b:Nat)(s:g0)(at_:Nat)(h:Bool)(w:j7)(f:s.size<=1000000)(g:at_<=s.size)(d:AI w b (BK s at_ h) 73):
  Calls prog 127 #[j3 (V ⟨b,0,Y⟩)] w λe i=>e=j4 (jH (j2 (AQ (AK s at_ h).1)))/\AI i b (BK s (AK s at_ h).2.1 (AK s at_ h).2.2) 73/\Ac [b] w i:=by
 cases h with
 |true=>exact Zl b s at_ w f g d
 |false=>
  obtain⟨j,c⟩:∃j,Ae s at_=j:=⟨_,rfl⟩;by_cases a:j<s.size
  .cases hu:C6 s[j] with
   |true=>
    (have e:AK s at_ K=(⟨s[j],jK⟩,j+1,K):=by unfold AK;subst c;simp[a,hu]);rw[e];exact U0 b s at_ j w f g c a hu d
   |false=>
    cases hd:An s[j] with
    |false=>
     (have e:AK s at_ K=(⟨0,(AX s j K).1⟩,(AX s j K).2):=by unfold AK;subst c;simp[a,hu,hd]);rw[e];exact Yz b s at_ j w f g c a hu hd d
    |true=>
     refine Tk b s at_ j w _ f g c a hu hd ?_ d;show _=_;unfold AK Gi DS;subst c;simp[a,hu,hd]
  ·(have e:AK s at_ K=(⟨0,jK⟩,j,jj):=by unfold AK;subst c;simp[a]);rw[e];exact ZA b s at_ j w f g c a d
end Go.Proofs.YtoihbhenbmffcaaGreatDoor
namespace Go.Proofs.YtoihbhenbmffcaaGreatDoor
open Go.RowKit Go.Proofs.Tryz
structure Gp(F:Type) where
 pos:List F
 neg:List F
 head:F
section
variable {F:Type} (I:Gp F->Prop) (zM:F->Nat)
structure KE:Prop where
 pos:∀i,I i->∀g∈i.pos,zM g<=zM i.head
 neg:∀i,I i->∀g∈i.neg,zM g<zM i.head
def Jh(i:Gp F)(P N:F->Prop):Prop:=(∀g∈i.pos,P g)/\∀g∈i.neg,¬N g
def KO(M:F->Prop):Prop:=∀i,I i->Jh i M M->M i.head
def Je(M:F->Prop)(n:Nat):Prop:=∀S:F->Prop,(∀f,M f->zM f<n->S f)->(∀i,I i->zM i.head=n->Jh i S M->S i.head)->∀f,M f->zM f=n->S f
def MM(l:KE I zM){M N:F->Prop}(d:KO I N)(k:∀n,Je I zM M n):∀n,(∀f,zM f<n->(M f↔N f))->∀f,M f->zM f=n->N f:=by
 intro n ih f e m;refine k n N (λg a j=>(ih g j).1 a) (λi c o b=>?_) f e m;refine d i c ⟨b.1,λg a h=>b.2 g a ?_⟩;exact(ih g (by have:=l.neg i c g a;omega)).2 h
def dy(c:KE I zM){M N:F->Prop}(m:KO I M)(j:∀n,Je I zM M n)(e:KO I N)(k:∀n,Je I zM N n):∀f,M f↔N f:=by
 have d:∀n f,zM f<n->(M f↔N f):=by
  intro n
  induction n with
  |zero=>intro f h;omega
  |succ n ih=>
   intro f h;by_cases i:zM f<n
   .exact ih f i
   ·(have b:zM f=n:=by omega);exact⟨λa=>MM I zM c e j n ih f a b,λa=>MM I zM c m k n (λg l=>(ih g l).symm) f a b⟩
 intro f;exact d (zM f+1) f (by omega)
structure Do(n:Nat)(s:F->Prop):Prop where
 top:∀f,s f->zM f<=n
 closed:∀i,I i->zM i.head<n->Jh i s s->s i.head
 least:∀m,m<=n->Je I zM s m
def Do.start:Do I zM 0 (λ_=>False):=
 ⟨λf h=>h.elim,λi _ h=>by omega,λm _ S _ _ f h=>h.elim⟩
def Do.step(p:KE I zM){n:Nat}{s:F->Prop}(h:Do I zM n s){i:Gp F}(q:I i)(k:zM i.head=n)(l:Jh i s s):Do I zM n (λf=>s f\/f=i.head):=by
 have r:∀j,I j->zM j.head<=n->((∀g∈j.neg,¬(s g\/g=i.head))↔∀g∈j.neg,¬s g):=by
  intro j d v;constructor
  .intro o g a c;exact o g a (j5 c)
  .intro o g a c;rcases c with c|c
   .exact o g a c
   .have:=p.neg j d g a;rw[c,k]at this;omega
 refine⟨λf b=>?_,λj d v e=>?_,λm D S t w f b y=>?_⟩
 .rcases b with b|b
  .exact h.top f b
  .rw[b,k];omega
 .refine j5 (h.closed j d v ⟨λg a=>?_,(r j d (by omega)).1 e.2⟩);rcases e.1 g a with c|c
  .exact c
  .have:=p.pos j d g a;rw[c,k]at this;omega
 .have u:∀g,s g->zM g=m->S g:=λg a E=>h.least m D S (λx C z=>t x (j5 C) z) (λj d B e=>w j d B ⟨e.1,(r j d (by omega)).2 e.2⟩) g a E
  rcases b with b|b
  .exact u f b y
  .subst b;(have A:m=n:=by omega);subst A;refine w i q k ⟨λg a=>?_,(r i q (by omega)).2 l.2⟩;by_cases G:zM g<zM i.head
   .exact t g (j5 (l.1 g a)) (by omega)
   .exact u g (l.1 g a) (by have:=p.pos i q g a;omega)
def Do.next{n:Nat}{s:F->Prop}(h:Do I zM n s)(g:∀i,I i->zM i.head=n->Jh i s s->s i.head):Do I zM (n+1) s:=by
 refine⟨λf a=>by have:=h.top f a;omega,λi c l b=>?_,λm k=>?_⟩
 .by_cases d:zM i.head=n
  .exact g i c d b
  .exact h.closed i c (by omega) b
 .by_cases e:m<=n
  .exact h.least m e
  .intro S _ _ f a j;have:=h.top f a;omega
def Do.done{n:Nat}{s:F->Prop}(h:Do I zM n s)(e:∀i,I i->zM i.head<n):KO I s/\∀m,Je I zM s m:=by
 refine⟨λi a d=>h.closed i a (e i a) d,λm=>?_⟩;by_cases b:m<=n
 .exact h.least m b
 .intro S _ _ f c g;have:=h.top f c;omega
def Do.cong{n:Nat}{s t:F->Prop}(h:Do I zM n s)(e:∀f,s f↔t f):Do I zM n t:=by
 have:s=t:=funext λf=>propext (e f)
 rw[<-this];exact h
end
def Yi{F:Type}(I:Gp F->Prop)(a c:F->Nat)(e:KE I a)(A:KE I c){M N:F->Prop}(r:KO I M)(w:∀n,Je I a M n)(t:KO I N)(q:∀n,Je I c N n):∀f,M f↔N f:=by
 have s:∀n f,a f<n->(M f↔N f):=by
  intro n
  induction n with
  |zero=>intro f h;omega
  |succ n ih=>
   have y:∀k g,c g<k->N g->a g<=n->M g:=by
    intro k
    induction k with
    |zero=>intro g h;omega
    |succ k ihk=>
     intro g B p o;by_cases d:c g<k
     .exact ihk g d p o
     .refine q k (λx=>a x<=n->M x) (λf u v=>ihk f v u) (λi j C m D=>?_) g p (by omega) o;refine r i j ⟨λx b=>m.1 x b (by have:=e.pos i j x b;omega),λx b z=>m.2 x b ?_⟩;exact(ih x (by have:=e.neg i j x b;omega)).1 z
   intro f h;by_cases d:a f<n
   .exact ih f d
   .exact⟨λl=>MM I a e t w n ih f l (by omega),λl=>y (c f+1) f (by omega) l (by omega)⟩
 intro f;exact s (a f+1) f (by omega)
end Go.Proofs.YtoihbhenbmffcaaGreatDoor
namespace Go.Proofs.YtoihbhenbmffcaaGreatDoor
open Go.RowKit Go.Proofs.Tryz
structure Nv{α:Type}(lt:α->α->Bool)(eq:α->α->Bool):Prop where
 trans:∀a b c,lt a b=jj->lt b c=jj->lt a c=jj
 irr:∀a,lt a a=K
 tot:∀a b,lt a b=K->eq a b=K->lt b a=jj
 eqv:∀a b,eq a b=jj↔a=b
def CP{α:Type}(lt:α->α->Bool)(l:List α):Prop:=∀i j (hi:i<Z l) (hj:j<Z l),i<j->lt l[i] l[j]=jj
structure C3{α:Type}(lt:α->α->Bool)(l:List α)(k:Nat)(x:α)(at_:Nat):Prop where
 ge:k<=at_
 le:at_<=Z l
 below:∀i (h:i<Z l),k<=i->i<at_->lt l[i] x=jj
 zk:∀i (h:i<Z l),at_<=i->lt l[i] x=K
section
variable {α:Type} {lt eq:α->α->Bool} {l:List α}
def CP.down(o:Nv lt eq)(d:CP lt l){i j:Nat}(b:j<Z l)(c:i<=j){x:α}(h:lt l[j] x=jj):lt (l[i]'(by omega)) x=jj:=by
 rcases iH c with a|a
 .exact o.trans _ _ _ (d i j (by omega) b a) h
 .subst a;exact h
def CP.up(o:Nv lt eq)(c:CP lt l){i j:Nat}(a:j<Z l)(b:i<=j){x:α}(h:lt (l[i]'(by omega)) x=K):lt l[j] x=K:=by
 cases hh:lt l[j] x with
 |false=>rfl
 |true=>rw[c.down o a b hh]at h;cases h
def Ei(eq:α->α->Bool)(l:List α)(at_:Nat)(x:α):Bool:=if h:at_<Z l then eq l[at_] x else K
def C3.has(o:Nv lt eq)(g:CP lt l){x:α}{at_:Nat}(h:C3 lt l 0 x at_):Ei eq l at_ x=jj↔x∈l:=by
 unfold Ei;constructor
 .intro d;split at d
  .rename_i a;have:=(o.eqv _ _).1 d;rw[<-this];exact eo a
  .cases d
 .intro k;obtain⟨i,e,b⟩:=fj k;have j:at_<=i:=by
   by_cases f:i<at_
   .have:=h.below i e (by omega) f;rw[b,o.irr]at this;cases this
   .omega
  have a:at_<Z l:=by omega
  rw[dif_pos a];rcases iH j with c|c
  .have:=g at_ i a e c;rw[b]at this;rw[h.zk at_ a (eM _)]at this;cases this
  .subst c;rw[b];exact(o.eqv _ _).2 rfl
def Fi(l:List α)(at_:Nat)(x:α):List α:=l.take at_++x::l.drop at_
def Kg{at_:Nat}(h:at_<=Z l)(x:α):Z (Fi l at_ x)=Z l+1:=by
 simp[Fi];omega
def M5{at_:Nat}(x y:α):y∈Fi l at_ x↔y=x\/y∈l:=by
 unfold Fi;rw[eG,ey];have:y∈l↔y∈l.take at_\/y∈l.drop at_:=by rw[<-eG,fH]
 rw[this];constructor
 .rintro (h|h|h)
  .exact j6 (j5 h)
  .exact j5 h
  .exact j6 (j6 h)
 .rintro (h|h|h)
  .exact j6 (j5 h)
  .exact j5 h
  .exact j6 (j6 h)
def PW:CP lt l↔l.Pairwise (λa b=>lt a b=jj):=by
 unfold CP;rw[gH]
def C3.zK(o:Nv lt eq)(f:CP lt l){x:α}{at_:Nat}(h:C3 lt l 0 x at_)(k:Ei eq l at_ x=K):CP lt (Fi l at_ x):=by
 rw[PW]at f⊢;have n:∀a∈l.take at_,lt a x=jj:=by
  intro a e;obtain⟨i,j,c⟩:=fj e;simp only[ft]at j;rw[iN]at c;rw[<-c];exact h.below i (by omega) (by omega) (by omega)
 have m:∀b∈l.drop at_,lt x b=jj:=by
  intro b d;obtain⟨i,j,c⟩:=fj d;simp only[fz]at j;rw[jn]at c;have g:at_<Z l:=by omega
  have p:lt x l[at_]=jj:=by
   apply o.tot _ _ (h.zk at_ g (eM _));unfold Ei at k;rw[dif_pos g]at k;exact k
  rw[<-c];by_cases q:i=0
  .subst q;simpa using p
  .exact o.trans _ _ _ p ((PW.2 f) at_ (at_+i) g (by omega) (by omega))
 unfold Fi;rw[i6];refine⟨f.sublist (List.take_sublist _ _),?_,?_⟩
 .rw[gE];exact⟨m,f.sublist (List.drop_sublist _ _)⟩
 .intro a e b d;rcases ey.1 d with rfl|d
  .exact n a e
  .exact o.trans _ _ _ (n a e) (m b d)
def CP.nodup(o:Nv lt eq)(c:CP lt l):l.Nodup:=by
 rw[PW]at c;exact c.imp (fun{a b} h e=>by subst e;rw[o.irr]at h;cases h)
end
def E8(a b:g0):Bool:=jP a.toList b.toList
def cX(a b:g0):Bool:=a.toList==b.toList
def Nr(a b:Int):Bool:=decide (a<b)
def dp(a b:Int):Bool:=a==b
def L2:∀a b c:List UInt8,jP a b=jj->jP b c=jj->jP a c=jj
 |a,b,[],_,h=>by cases b<;>simp[jP]at h
 |[],b,_::_,_,_=>rfl
 |_::_,[],_::_,h,_=>by simp[jP]at h
 |x::a,y::b,z::c,e,d=>by
  simp only[jP,gr,im,eW,gF]at e d⊢;rcases e with e|⟨rfl,e⟩
  .rcases d with d|⟨rfl,d⟩
   .exact j5 (UInt8.lt_trans e d)
   .exact j5 e
  .rcases d with d|⟨rfl,d⟩
   .exact j5 d
   .exact j6 ⟨rfl,L2 a b c e d⟩
def N0:∀a:List UInt8,jP a a=K
 |[]=>rfl
 |x::a=>by simp[jP,N0 a]
def Qd:∀a b:List UInt8,jP a b=K->(a==b)=K->jP b a=jj
 |[],[],_,h=>by simp at h
 |[],_::_,h,_=>by simp[jP]at h
 |_::_,[],_,_=>rfl
 |x::a,y::b,h,h2=>by
  simp only[jP,gr,im,eW,gF,ix,ie,Bool.and_eq_false_imp]at h⊢;by_cases c:x=y
  .subst c;refine j6 ⟨rfl,Qd a b (h.2 rfl) ?_⟩;simpa using h2
  .left;have d:=h.1;rw[UInt8.lt_iff_toNat_lt]at d⊢;(have:x.toNat≠y.toNat:=λe=>c (gn.1 e));omega
def Gb:Nv E8 cX:=
 ⟨λa b c=>L2 _ _ _,λa=>N0 _,λa b=>Qd _ _,λa b=>by
  unfold cX
  simp only[gF]
  exact⟨λh=>by
   rw[fc,fc]at h
   exact ByteArray.ext (Array.toList_inj.1 h),λh=>by rw[h]⟩⟩
def Qa:Nv Nr dp:=
 ⟨λa b c d e=>by simp[Nr]at*;omega,λa=>by simp[Nr],λa b d e=>by simp[Nr,dp]at*;omega,λa b=>by simp[dp]⟩
end Go.Proofs.YtoihbhenbmffcaaGreatDoor
namespace Go.Proofs.YtoihbhenbmffcaaGreatDoor
open Go.RowKit Go.Proofs.Tryz
theorem QF{F fn:Nat}(hT:(F=9/\fn=165)\/(F=170/\fn=149))(lv:j8)(l:List g0)(k:Nat)(x:g0)(base:Nat)(w:j7)(S:jG w base F 1 lv (Z l) (l.flatMap Ah))(EK:Z l<=1000000)(hk:k<=Z l)(T:CP E8 l):
  Calls prog fn #[lv,X J k,O x] w λe w'=>∃H:Nat,e=j4 (X J H)/\C3 E8 l k x H/\w'=w:=by
 obtain⟨ad,BA,rfl⟩:=Ak S;have r:=Ab T;have D:j9 (∀i (h:i<Z l),∃g,ad=V ⟨g,0,Y⟩/\Z l<=BA/\w.cell? ⟨g,i,Y⟩=V (O l[i])):=by
  intro i hi;obtain⟨g,CC,he,M,BS⟩:=AC S (by simp[Ah]) i hi;simp only[ei]at he;obtain⟨rfl,_,rfl⟩:=he;have I:=BS i hi 0 (by omega);simp[Ah]at I;exact⟨g,rfl,M,I⟩
 clear T;rcases hT with⟨rfl,rfl⟩|⟨rfl,rfl⟩
 case' inl=>go_enter func165,ntmps165
 case' inr=>go_enter func149,ntmps149
 all_goals
  go_wp2
  go_loop [7,8] (λa s=>∃(f o:Nat),a=X J f/\s=X J o/\k<=f/\f<=Z l/\1<=o/\o<=2*Z l+1/\j9 (∀i (h:i<Z l),k<=i->i<f->E8 l[i] x=jj)) (λa s=>Z l-(intOf a).toNat)
  case atStart=>exact⟨k,1,by go_num,rfl,eM _,hk,eM _,by omega,λi h j u=>by omega⟩
  case round=>
   obtain⟨f,o,rfl,rfl,E,CL,EM,EY,p⟩:=hrel;by_cases EX:f+o<=Z l
   .obtain⟨g,A0,DT,M⟩:=D (f+o-1) (by omega);(have B9:((f+o-1:Nat):Int)=(f:Int)+(o:Int)-1:=by omega);(have E0:((f:Int)+(o:Int)-1).toNat=f+o-1:=by omega);subst A0;have B2:j9 (E8 l[f+o-1] x=jj->∀i (h:i<Z l),k<=i->i<f+o->E8 l[i] x=jj):=by
     intro n i h j u;exact r.down Gb (by omega) (by omega) n
    have B0:j9 (E8 l[f+o-1] x=K->∀i (h:i<Z l),f+o-1<=i->E8 l[i] x=K):=by
     intro n i h j;exact r.up Gb h j n
    go_wp2
    .refine⟨⟨f+o,o*2,by go_num,by go_num,by omega,by omega,by omega,by omega,B2 (by first|assumption|(simp[E8];omega))⟩,?_⟩;simp[intOf];omega
    ·
     have t:j9 (∀i (h:i<Z l),(f+o-1)<=i->E8 l[i] x=K):=B0 (by first|assumption|(simp[E8];omega))
     go_loop [7,9,10] (λa h m=>∃(b d:Nat),a=X J b/\h=X J d/\k<=b/\b<=d/\d<=Z l/\j9 (∀i (h:i<Z l),k<=i->i<b->E8 l[i] x=jj)/\j9 (∀i (h:i<Z l),d<=i->E8 l[i] x=K)) (λa h m=>(intOf h).toNat-(intOf a).toNat)
     case atStart=>exact⟨f,(f+o-1),rfl,by go_num,E,by omega,by omega,p,t⟩
     case round=>
      clear p t;obtain⟨b,d,rfl,rfl,j,u,B,p,q⟩:=hrel;by_cases G:b<d
      .obtain⟨c,AH⟩:∃c,b+(d-b)/2=c:=⟨_,rfl⟩;(have N:b<=c:=by omega);(have P:c<d:=by omega);(have A:(b:Int)+((d:Int)-(b:Int))/2=(c:Int):=by omega);(have Q:(b:Int)+((d:Int)-(b:Int)).tdiv 2=(c:Int):=by rw[gS (by omega)];exact A);obtain⟨L,v,W,R⟩:=D c (by omega);have y:j9 (E8 l[c] x=jj->∀i (h:i<Z l),k<=i->i<c+1->E8 l[i] x=jj):=by
        intro n i h j u;exact r.down Gb (by omega) (by omega) n
       have z:j9 (E8 l[c] x=K->∀i (h:i<Z l),c<=i->E8 l[i] x=K):=by
        intro n i h j;exact r.up Gb h j n
       simp only[eD,fm,and_true]at v;subst v;go_wp2
       .refine⟨⟨c+1,d,by go_num,rfl,by omega,by omega,B,y (by first|assumption|(simp[E8];omega)),q⟩,?_⟩;simp[intOf];omega
       .refine⟨⟨b,c,rfl,by go_num,j,by omega,by omega,p,z (by first|assumption|(simp[E8];omega))⟩,?_⟩;simp[intOf];omega
      .have C:j9 (C3 E8 l k x b):=⟨j,by omega,p,λi h n=>q i h (by omega)⟩;go_wp2;go_ret;exact⟨b,rfl,C,rfl⟩
   .go_wp2
    ·
     have t:j9 (∀i (h:i<Z l),Z l<=i->E8 l[i] x=K):=λi h n=>by omega
     go_loop [7,9,10] (λa h m=>∃(b d:Nat),a=X J b/\h=X J d/\k<=b/\b<=d/\d<=Z l/\j9 (∀i (h:i<Z l),k<=i->i<b->E8 l[i] x=jj)/\j9 (∀i (h:i<Z l),d<=i->E8 l[i] x=K)) (λa h m=>(intOf h).toNat-(intOf a).toNat)
     case atStart=>exact⟨f,Z l,rfl,by go_num,E,by omega,by omega,p,t⟩
     case round=>
      clear p t;obtain⟨b,d,rfl,rfl,j,u,B,p,q⟩:=hrel;by_cases G:b<d
      .obtain⟨c,AH⟩:∃c,b+(d-b)/2=c:=⟨_,rfl⟩;(have N:b<=c:=by omega);(have P:c<d:=by omega);(have A:(b:Int)+((d:Int)-(b:Int))/2=(c:Int):=by omega);(have Q:(b:Int)+((d:Int)-(b:Int)).tdiv 2=(c:Int):=by rw[gS (by omega)];exact A);obtain⟨L,v,W,R⟩:=D c (by omega);have y:j9 (E8 l[c] x=jj->∀i (h:i<Z l),k<=i->i<c+1->E8 l[i] x=jj):=by
        intro n i h j u;exact r.down Gb (by omega) (by omega) n
       have z:j9 (E8 l[c] x=K->∀i (h:i<Z l),c<=i->E8 l[i] x=K):=by
        intro n i h j;exact r.up Gb h j n
       subst v;go_wp2
       .refine⟨⟨c+1,d,by go_num,rfl,by omega,by omega,B,y (by first|assumption|(simp[E8];omega)),q⟩,?_⟩;simp[intOf];omega
       .refine⟨⟨b,c,rfl,by go_num,j,by omega,by omega,p,z (by first|assumption|(simp[E8];omega))⟩,?_⟩;simp[intOf];omega
      .have C:j9 (C3 E8 l k x b):=⟨j,by omega,p,λi h n=>q i h (by omega)⟩;go_wp2;go_ret;exact⟨b,rfl,C,rfl⟩
    all_goals
     have t:j9 (∀i (h:i<Z l),(f+o-1)<=i->E8 l[i] x=K):=λi h n=>by omega
     go_loop [7,9,10] (λa h m=>∃(b d:Nat),a=X J b/\h=X J d/\k<=b/\b<=d/\d<=Z l/\j9 (∀i (h:i<Z l),k<=i->i<b->E8 l[i] x=jj)/\j9 (∀i (h:i<Z l),d<=i->E8 l[i] x=K)) (λa h m=>(intOf h).toNat-(intOf a).toNat)
     case atStart=>exact⟨f,(f+o-1),rfl,by go_num,E,by omega,by omega,p,t⟩
     case round=>
      clear p t;obtain⟨b,d,rfl,rfl,j,u,B,p,q⟩:=hrel;by_cases G:b<d
      .obtain⟨c,AH⟩:∃c,b+(d-b)/2=c:=⟨_,rfl⟩;(have N:b<=c:=by omega);(have P:c<d:=by omega);(have A:(b:Int)+((d:Int)-(b:Int))/2=(c:Int):=by omega);(have Q:(b:Int)+((d:Int)-(b:Int)).tdiv 2=(c:Int):=by rw[gS (by omega)];exact A);obtain⟨L,v,W,R⟩:=D c (by omega);have y:j9 (E8 l[c] x=jj->∀i (h:i<Z l),k<=i->i<c+1->E8 l[i] x=jj):=by
        intro n i h j u;exact r.down Gb (by omega) (by omega) n
       have z:j9 (E8 l[c] x=K->∀i (h:i<Z l),c<=i->E8 l[i] x=K):=by
        intro n i h j;exact r.up Gb h j n
       subst v;go_wp2
       .refine⟨⟨c+1,d,by go_num,rfl,by omega,by omega,B,y (by first|assumption|(simp[E8];omega)),q⟩,?_⟩;simp[intOf];omega
       .refine⟨⟨b,c,rfl,by go_num,j,by omega,by omega,p,z (by first|assumption|(simp[E8];omega))⟩,?_⟩;simp[intOf];omega
      .have C:j9 (C3 E8 l k x b):=⟨j,by omega,p,λi h n=>q i h (by omega)⟩;go_wp2;go_ret;exact⟨b,rfl,C,rfl⟩
def QJ(a:j8)(l:List g0)(k:Nat)(x:g0)(base:Nat)(w:j7)(f:jG w base 9 1 a (Z l) (l.flatMap Ah))(h:Z l<=1000000)(c:k<=Z l)(g:CP E8 l):
  Calls prog 165 #[a,X J k,O x] w λe d=>∃b:Nat,e=j4 (X J b)/\C3 E8 l k x b/\d=w:=
 QF (j5 ⟨rfl,rfl⟩) a l k x base w f h c g
def AP(x:Int):List j8:=[X .i32 x]
theorem QK(lv:j8)(l:List Int)(k:Nat)(x:Int)(base:Nat)(w:j7)(Q:jG w base 21 1 lv (Z l) (l.flatMap AP))(CL:Z l<=1000000)(hk:k<=Z l)(R:CP Nr l):
  Calls prog 219 #[lv,X J k,X .i32 x] w λe w'=>∃G:Nat,e=j4 (X J G)/\C3 Nr l k x G/\w'=w:=by
 obtain⟨ad,A2,rfl⟩:=Ak Q;have r:=Ab R;have D:j9 (∀i (h:i<Z l),∃g,ad=V ⟨g,0,Y⟩/\Z l<=A2/\w.cell? ⟨g,i,Y⟩=V (X .i32 l[i])):=by
  intro i T;obtain⟨g,B2,W,hc,Bx⟩:=AC Q (by simp[AP]) i T;simp only[ei]at W;obtain⟨rfl,_,rfl⟩:=W;have H:=Bx i T 0 (by omega);simp[AP]at H;exact⟨g,rfl,hc,H⟩
 clear R;go_enter func219,ntmps219;go_wp2
 go_loop [7,8] (λa s=>∃(f o:Nat),a=X J f/\s=X J o/\k<=f/\f<=Z l/\1<=o/\o<=2*Z l+1/\j9 (∀i (h:i<Z l),k<=i->i<f->Nr l[i] x=jj)) (λa s=>Z l-(intOf a).toNat)
 case atStart=>exact⟨k,1,by go_num,rfl,eM _,hk,eM _,by omega,λi h j u=>by omega⟩
 case round=>
  obtain⟨f,o,rfl,rfl,E,B9,DT,EM,p⟩:=hrel;by_cases EK:f+o<=Z l
  .obtain⟨g,AT,CC,hc⟩:=D (f+o-1) (by omega);(have B0:((f+o-1:Nat):Int)=(f:Int)+(o:Int)-1:=by omega);(have EX:((f:Int)+(o:Int)-1).toNat=f+o-1:=by omega);subst AT;have BT:j9 (Nr l[f+o-1] x=jj->∀i (h:i<Z l),k<=i->i<f+o->Nr l[i] x=jj):=by
    intro n i h j u;exact r.down Qa (by omega) (by omega) n
   have BS:j9 (Nr l[f+o-1] x=K->∀i (h:i<Z l),f+o-1<=i->Nr l[i] x=K):=by
    intro n i h j;exact r.up Qa h j n
   go_wp2
   .refine⟨⟨f+o,o*2,by go_num,by go_num,by omega,by omega,by omega,by omega,BT (by first|assumption|(simp[Nr];omega))⟩,?_⟩;simp[intOf];omega
   ·
    have t:j9 (∀i (h:i<Z l),(f+o-1)<=i->Nr l[i] x=K):=BS (by first|assumption|(simp[Nr];omega))
    go_loop [7,9,10] (λa h m=>∃(b d:Nat),a=X J b/\h=X J d/\k<=b/\b<=d/\d<=Z l/\j9 (∀i (h:i<Z l),k<=i->i<b->Nr l[i] x=jj)/\j9 (∀i (h:i<Z l),d<=i->Nr l[i] x=K)) (λa h m=>(intOf h).toNat-(intOf a).toNat)
    case atStart=>exact⟨f,(f+o-1),rfl,by go_num,E,by omega,by omega,p,t⟩
    case round=>
     clear p t;obtain⟨b,d,rfl,rfl,j,u,B,p,q⟩:=hrel;by_cases F:b<d
     .obtain⟨c,Ax⟩:∃c,b+(d-b)/2=c:=⟨_,rfl⟩;(have L:b<=c:=by omega);(have M:c<d:=by omega);(have A:(b:Int)+((d:Int)-(b:Int))/2=(c:Int):=by omega);(have N:(b:Int)+((d:Int)-(b:Int)).tdiv 2=(c:Int):=by rw[gS (by omega)];exact A);obtain⟨I,v,S,P⟩:=D c (by omega);have y:j9 (Nr l[c] x=jj->∀i (h:i<Z l),k<=i->i<c+1->Nr l[i] x=jj):=by
       intro n i h j u;exact r.down Qa (by omega) (by omega) n
      have z:j9 (Nr l[c] x=K->∀i (h:i<Z l),c<=i->Nr l[i] x=K):=by
       intro n i h j;exact r.up Qa h j n
      simp only[eD,fm,and_true]at v;subst v;go_wp2
      .refine⟨⟨c+1,d,by go_num,rfl,by omega,by omega,B,y (by first|assumption|(simp[Nr];omega)),q⟩,?_⟩;simp[intOf];omega
      .refine⟨⟨b,c,rfl,by go_num,j,by omega,by omega,p,z (by first|assumption|(simp[Nr];omega))⟩,?_⟩;simp[intOf];omega
     .have C:j9 (C3 Nr l k x b):=⟨j,by omega,p,λi h n=>q i h (by omega)⟩;go_wp2;go_ret;exact⟨b,rfl,C,rfl⟩
  .go_wp2
   ·
    have t:j9 (∀i (h:i<Z l),Z l<=i->Nr l[i] x=K):=λi h n=>by omega
    go_loop [7,9,10] (λa h m=>∃(b d:Nat),a=X J b/\h=X J d/\k<=b/\b<=d/\d<=Z l/\j9 (∀i (h:i<Z l),k<=i->i<b->Nr l[i] x=jj)/\j9 (∀i (h:i<Z l),d<=i->Nr l[i] x=K)) (λa h m=>(intOf h).toNat-(intOf a).toNat)
    case atStart=>exact⟨f,Z l,rfl,by go_num,E,by omega,by omega,p,t⟩
    case round=>
     clear p t;obtain⟨b,d,rfl,rfl,j,u,B,p,q⟩:=hrel;by_cases F:b<d
     .obtain⟨c,Ax⟩:∃c,b+(d-b)/2=c:=⟨_,rfl⟩;(have L:b<=c:=by omega);(have M:c<d:=by omega);(have A:(b:Int)+((d:Int)-(b:Int))/2=(c:Int):=by omega);(have N:(b:Int)+((d:Int)-(b:Int)).tdiv 2=(c:Int):=by rw[gS (by omega)];exact A);obtain⟨I,v,S,P⟩:=D c (by omega);have y:j9 (Nr l[c] x=jj->∀i (h:i<Z l),k<=i->i<c+1->Nr l[i] x=jj):=by
       intro n i h j u;exact r.down Qa (by omega) (by omega) n
      have z:j9 (Nr l[c] x=K->∀i (h:i<Z l),c<=i->Nr l[i] x=K):=by
       intro n i h j;exact r.up Qa h j n
      subst v;go_wp2
      .refine⟨⟨c+1,d,by go_num,rfl,by omega,by omega,B,y (by first|assumption|(simp[Nr];omega)),q⟩,?_⟩;simp[intOf];omega
      .refine⟨⟨b,c,rfl,by go_num,j,by omega,by omega,p,z (by first|assumption|(simp[Nr];omega))⟩,?_⟩;simp[intOf];omega
     .have C:j9 (C3 Nr l k x b):=⟨j,by omega,p,λi h n=>q i h (by omega)⟩;go_wp2;go_ret;exact⟨b,rfl,C,rfl⟩
   ·
    have t:j9 (∀i (h:i<Z l),(f+o-1)<=i->Nr l[i] x=K):=λi h n=>by omega
    go_loop [7,9,10] (λa h m=>∃(b d:Nat),a=X J b/\h=X J d/\k<=b/\b<=d/\d<=Z l/\j9 (∀i (h:i<Z l),k<=i->i<b->Nr l[i] x=jj)/\j9 (∀i (h:i<Z l),d<=i->Nr l[i] x=K)) (λa h m=>(intOf h).toNat-(intOf a).toNat)
    case atStart=>exact⟨f,(f+o-1),rfl,by go_num,E,by omega,by omega,p,t⟩
    case round=>
     clear p t;obtain⟨b,d,rfl,rfl,j,u,B,p,q⟩:=hrel;by_cases F:b<d
     .obtain⟨c,Ax⟩:∃c,b+(d-b)/2=c:=⟨_,rfl⟩;(have L:b<=c:=by omega);(have M:c<d:=by omega);(have A:(b:Int)+((d:Int)-(b:Int))/2=(c:Int):=by omega);(have N:(b:Int)+((d:Int)-(b:Int)).tdiv 2=(c:Int):=by rw[gS (by omega)];exact A);obtain⟨I,v,S,P⟩:=D c (by omega);have y:j9 (Nr l[c] x=jj->∀i (h:i<Z l),k<=i->i<c+1->Nr l[i] x=jj):=by
       intro n i h j u;exact r.down Qa (by omega) (by omega) n
      have z:j9 (Nr l[c] x=K->∀i (h:i<Z l),c<=i->Nr l[i] x=K):=by
       intro n i h j;exact r.up Qa h j n
      subst v;go_wp2
      .refine⟨⟨c+1,d,by go_num,rfl,by omega,by omega,B,y (by first|assumption|(simp[Nr];omega)),q⟩,?_⟩;simp[intOf];omega
      .refine⟨⟨b,c,rfl,by go_num,j,by omega,by omega,p,z (by first|assumption|(simp[Nr];omega))⟩,?_⟩;simp[intOf];omega
     .have C:j9 (C3 Nr l k x b):=⟨j,by omega,p,λi h n=>q i h (by omega)⟩;go_wp2;go_ret;exact⟨b,rfl,C,rfl⟩
theorem Tryz.zH:(Tryz.prog.info? 243).map (·.size)=V 26:=by kernel_rfl
theorem Tryz.zG:(Tryz.prog.info? 90).map (·.size)=V 26:=by kernel_rfl
def World.zb(b:Nat)(t:TypeId):∀(a:List j8) (o:Nat) (w:j7) (c:List j8),AI w b c t->o+Z a<=Z c->AI (w.setCells b o a) b (c.take o++a++c.drop (o+Z a)) t
 |[],o,w,c,h,hl=>by
  simp only[fb,jC,fh,fH];exact h
 |v::a,o,w,c,h,hl=>by
  simp only[eF]at hl;have ih:=World.zb b t a (o+1) (w.setCell ⟨b,o,Y⟩ v) (c.set o v) (h.set o v) (by simp;omega);have e:(c.set o v).take (o+1)++a++(c.set o v).drop (o+1+Z a)=c.take o++v::a++c.drop (o+Z (v::a)):=by
   rw[List.drop_set,eI (by omega),ep (by simp;omega),List.getElem_set_self,List.take_set,List.set_eq_of_length_le (by simp;omega)];simp only[eF,fD,jx,gO,gd];rw[show o+1+Z a=o+(Z a+1) by omega]
  rw[e]at ih;exact ih
def AI.zQ{w:j7}{b:Nat}{cs:List j8}{t:TypeId}(h:AI w b cs t)(a:List j8)(c:Z a=Z cs):AI (w.setCells b 0 a) b a t:=by
 have:=World.zb b t a 0 w cs h (by omega);rw[fw,c,List.drop_length]at this;simpa using this
def Ac.zI{M:List Nat}{a w:j7}(h:Ac M a w){b:Nat}(d:b∈M\/a.heap.size<=b):∀(c:List j8) (o:Nat),Ac M a (w.setCells b o c)
 |[],_=>h
 |v::c,o=>(h.setCell (p:=⟨b,o,Y⟩) d v).zI d c (o+1)
end Go.Proofs.YtoihbhenbmffcaaGreatDoor
namespace Go.Proofs.YtoihbhenbmffcaaGreatDoor
open Go.RowKit Go.Proofs.Tryz
section
variable {α:Type} {lt eq:α->α->Bool}
def BC(ls:List (List α))(i:Nat):List α:=ls.getD i []
def Ez{ls:List (List α)}{i:Nat}(h:i<Z ls):BC ls i∈ls:=by
 unfold BC;rw[eK,ez h];exact eo h
def Zp{ls:List (List α)}{l:List α}(h:l∈ls):∃i,i<Z ls/\BC ls i=l:=by
 obtain⟨i,a,e⟩:=fj h;refine⟨i,a,?_⟩;unfold BC;rw[eK,ez a];exact e
def Jo(ls:List (List α))(y:α):Prop:=∀l∈ls,y∈l
def ER(k t:Nat):Nat:=if t+1=k then 0 else t+1
def Zq{k t:Nat}(h:t<k):(t+1)%k=ER k t:=by
 unfold ER;split
 .rename_i e;rw[e,Nat.mod_self]
 .exact Nat.mod_eq_of_lt (by omega)
def Sq{k t:Nat}(h:t<k):ER k t<k:=by
 unfold ER;split<;>omega
def Mb(k t ag i:Nat):Prop:=(ag<=t/\t-ag<=i/\i<t)\/(t<ag/\(i<t\/t+k-ag<=i))
def aq{k t a i:Nat}(c:t<k)(b:a<k)(d:i<k)(h:Mb k (ER k t) (a+1) i):Mb k t a i\/i=t:=by
 unfold Mb ER at h;unfold Mb;split at h<;>omega
def bD{k t a i:Nat}(c:t<k)(b:a+1=k)(d:i<k):Mb k t a i\/i=t:=by
 unfold Mb;omega
def PM{k t i:Nat}:¬Mb k t 0 i:=by
 unfold Mb;omega
def dl(lt:α->α->Bool)(s:α)(l:List α):Nat:=l.countP λy=> !lt y s
def Sw(lt:α->α->Bool)(s:α)(ls:List (List α)):Nat:=(ls.map (dl lt s)).sum
def Ws(o:Nv lt eq){s a:α}(h:lt s a=jj)(l:List α):dl lt a l<=dl lt s l:=by
 unfold dl;refine List.countP_mono_left (λy _ b=>?_);cases hh:lt y s with
 |false=>rfl
 |true=>rw[o.trans _ _ _ hh h]at b;cases b
def bc(o:Nv lt eq){s a:α}(h:lt s a=jj):∀{l:List α},s∈l->dl lt a l<dl lt s l
 |x::l,b=>by
  have e:∀z,dl lt z (x::l)=dl lt z l+(if(!lt x z)=jj then 1 else 0):=λz=>by unfold dl;rw[List.countP_cons]
  rw[e,e];have d:=Ws o h l;rcases ey.1 b with rfl|b
  .rw[h,o.irr];simp;omega
  .have c:=bc o h b;cases hx:lt x s with
   |true=>rw[o.trans _ _ _ hx h];simp;omega
   |false=>
    cases lt x a<;>simp<;>omega
def bh(o:Nv lt eq){s b:α}(h:lt s b=jj):∀(a:List (List α)),Sw lt b a<=Sw lt s a
 |[]=>eM _
 |l::a=>by
  have e:∀z,Sw lt z (l::a)=dl lt z l+Sw lt z a:=λz=>by unfold Sw;simp
  rw[e,e];have:=Ws o h l;have:=bh o h a;omega
def Wt(o:Nv lt eq){s d:α}(h:lt s d=jj):∀{a:List (List α)},(∃l∈a,s∈l)->Sw lt d a<Sw lt s a
 |l::a,b=>by
  have e:∀z,Sw lt z (l::a)=dl lt z l+Sw lt z a:=λz=>by unfold Sw;simp
  rw[e,e];obtain⟨q,c,b⟩:=b;have g:=bh o h a;have f:=Ws o h l;rcases ey.1 c with rfl|c
  .have:=bc o h b;omega
  .have:=Wt o h ⟨q,c,b⟩;omega
def WI(p:Nat->Nat)(t v:Nat):Nat->Nat:=λi=>if i=t then v else p i
structure N9(lt:α->α->Bool)(ls:List (List α))(t:Nat)(s:α)(ag:Nat)(p:Nat->Nat)(m:List α):Prop where
 tk:t<Z ls
 agk:ag<Z ls
 win:∀i,i<Z ls->Mb (Z ls) t ag i->s∈BC ls i
 ple:∀i,i<Z ls->p i<=Z (BC ls i)
 below:∀i,i<Z ls->∀j (h:j<Z (BC ls i)),j<p i->lt (BC ls i)[j] s=jj
 src:∃l∈ls,s∈l
 sound:∀y∈m,Jo ls y
 low:∀y∈m,lt y s=jj
 zK:m.Pairwise λa b=>lt a b=jj
 zl:∀y,Jo ls y->y∈m\/lt y s=K
structure QS(lt:α->α->Bool)(ls:List (List α))(t:Nat)(s:α)(ag at_:Nat)(p:Nat->Nat)(m:List α):Prop where
 tk:t<Z ls
 agk:ag<Z ls
 zX:at_<Z (BC ls t)
 zm:(BC ls t)[at_]=s
 win:∀i,i<Z ls->Mb (Z ls) t ag i\/i=t->s∈BC ls i
 ple:∀i,i<Z ls->p i<=Z (BC ls i)
 below:∀i,i<Z ls->∀j (h:j<Z (BC ls i)),j<p i->lt (BC ls i)[j] s=jj
 here:∀j (h:j<Z (BC ls t)),j<at_->lt (BC ls t)[j] s=jj
 sound:∀y∈m,Jo ls y
 low:∀y∈m,lt y s=jj
 zK:m.Pairwise λa b=>lt a b=jj
 zl:∀y,Jo ls y->y∈m\/lt y s=K
variable {ls:List (List α)} {t:Nat} {s:α} {ag:Nat} {p:Nat->Nat} {m:List α}
def CP.zw(o:Nv lt eq){l:List α}(d:CP lt l){i:Nat}(g:i<Z l){y:α}(b:y∈l)(h:∀j (a:j<Z l),j<i->l[j]≠y):lt y l[i]=K:=by
 obtain⟨j,a,e⟩:=fj b;have f:i<=j:=by
  by_cases c:j<i
  .exact absurd e (h j a c)
  .omega
 rw[<-e];exact d.up o a f (o.irr _)
def N9.start(o:Nv lt eq)(b:0<Z ls)(f:CP lt (BC ls 0))(c:0<Z (BC ls 0)):N9 lt ls 0 (BC ls 0)[0] 0 (λ_=>0) []:=by
 refine⟨b,b,λi k d=>absurd d PM,λi _=>eV _,λi _ j h e=>by omega,⟨_,Ez b,eo c⟩,λy a=>by simp at a,λy a=>by simp at a,List.Pairwise.nil,λy a=>j6 ?_⟩;exact f.zw o c (a _ (Ez b)) (λj e g=>by omega)
def N9.before(h:N9 lt ls t s ag p m){at_:Nat}(c:C3 lt (BC ls t) (p t) s at_):∀j (a:j<Z (BC ls t)),j<at_->lt (BC ls t)[j] s=jj:=by
 intro j a d;by_cases b:j<p t
 .exact h.below t h.tk j a b
 .exact c.below j a (by omega) d
def N9.done(h:N9 lt ls t s ag p m){at_:Nat}(d:C3 lt (BC ls t) (p t) s at_)(f:at_=Z (BC ls t)):∀y,y∈m↔Jo ls y:=by
 intro y;refine⟨h.sound y,λb=>?_⟩;rcases h.zl y b with a|a
 .exact a
 .obtain⟨j,c,e⟩:=fj (b _ (Ez h.tk));have:=h.before d j c (by omega);rw[e,a]at this;cases this
def N9.same(h:N9 lt ls t s ag p m){at_:Nat}(d:C3 lt (BC ls t) (p t) s at_)(b:at_<Z (BC ls t))(c:(BC ls t)[at_]=s):QS lt ls t s ag at_ p m:=by
 refine⟨h.tk,h.agk,b,c,λi e a=>?_,h.ple,h.below,h.before d,h.sound,h.low,h.zK,h.zl⟩;rcases a with a|rfl
 .exact h.win i e a
 .rw[<-c];exact eo b
def N9.past(o:Nv lt eq)(r:CP lt (BC ls t))(h:N9 lt ls t s ag p m){at_:Nat}(k:C3 lt (BC ls t) (p t) s at_)(d:at_<Z (BC ls t))(q:(BC ls t)[at_]≠s):QS lt ls t (BC ls t)[at_] 0 at_ p m/\Sw lt (BC ls t)[at_] ls<Sw lt s ls:=by
 have c:lt s (BC ls t)[at_]=jj:=by
  refine o.tot _ _ (k.zk at_ d (eM _)) ?_;cases hq:eq (BC ls t)[at_] s with
  |false=>rfl
  |true=>exact absurd ((o.eqv _ _).1 hq) q
 refine⟨⟨h.tk,by have:=h.tk;omega,d,rfl,λi n g=>?_,h.ple,λi n j b a=>o.trans _ _ _ (h.below i n j b a) c,λj b a=>o.trans _ _ _ (h.before k j b a) c,h.sound,λy f=>o.trans _ _ _ (h.low y f) c,h.zK,λy f=>?_⟩,Wt o c h.src⟩
 .rcases g with g|rfl
  .exact absurd g PM
  .exact eo d
 .rcases h.zl y f with l|l
  .exact j5 l
  .right;refine r.zw o d (f _ (Ez h.tk)) (λj b a e=>?_);have:=h.before k j b a;rw[e,l]at this;cases this
def Rw(a:∀i,i<Z ls->p i<=Z (BC ls i)){v:Nat}(b:v<=Z (BC ls t)):∀i,i<Z ls->WI p t v i<=Z (BC ls i):=by
 intro i c;unfold WI;split
 .rename_i e;rw[e];exact b
 .exact a i c
variable {at_:Nat}
def QS.next(h:QS lt ls t s ag at_ p m)(f:ag+1<Z ls):N9 lt ls (ER (Z ls) t) s (ag+1) (WI p t at_) m:=by
 refine⟨Sq h.tk,f,λi b d=>h.win i b (aq h.tk h.agk b d),Rw h.ple (Nat.le_of_lt h.zX),λi b j c a=>?_,⟨_,Ez h.tk,h.win t h.tk (j6 rfl)⟩,h.sound,h.low,h.zK,h.zl⟩;unfold WI at a;split at a
 .rename_i e;subst e;exact h.here j c a
 .exact h.below i b j c a
def QS.common(h:QS lt ls t s ag at_ p m)(b:ag+1=Z ls):Jo ls s:=by
 intro l c;obtain⟨i,a,rfl⟩:=Zp c;exact h.win i a (bD h.tk b a)
def QS.yJ(h:QS lt ls t s ag at_ p m)(e:ag+1=Z ls):(∀y∈m++[s],Jo ls y)/\(m++[s]).Pairwise (λa b=>lt a b=jj):=by
 refine⟨λy c=>?_,?_⟩
 .rcases eG.1 c with c|c
  .exact h.sound y c
  .rw[ex]at c;subst c;exact h.common e
 .rw[i6];refine⟨h.zK,by simp,λa f b d=>?_⟩;rw[ex]at d;subst d;exact h.low a f
def QS.last(o:Nv lt eq)(k:CP lt (BC ls t))(h:QS lt ls t s ag at_ p m)(g:ag+1=Z ls)(i:at_+1=Z (BC ls t)):∀y,y∈m++[s]↔Jo ls y:=by
 intro y;refine⟨(h.yJ g).1 y,λb=>?_⟩;rw[eG,ex];rcases h.zl y b with a|a
 .exact j5 a
 .right;obtain⟨j,f,e⟩:=fj (b _ (Ez h.tk));by_cases d:j<at_
  .have:=h.here j f d;rw[e,a]at this;cases this
  ·(have c:j=at_:=by omega);subst c;rw[<-e];exact h.zm
def QS.more(o:Nv lt eq)(q:CP lt (BC ls t))(h:QS lt ls t s ag at_ p m)(n:ag+1=Z ls)(f:at_+1<Z (BC ls t)):N9 lt ls (ER (Z ls) t) (BC ls t)[at_+1] 0 (WI p t (at_+1)) (m++[s])/\Sw lt (BC ls t)[at_+1] ls<Sw lt s ls:=by
 have b:lt s (BC ls t)[at_+1]=jj:=by
  have:=q at_ (at_+1) h.zX f (by omega);rw[h.zm]at this;exact this
 have w:0<Z ls:=by have:=h.tk;omega
 refine⟨⟨Sq h.tk,w,λi r v=>absurd v PM,Rw h.ple (Nat.le_of_lt f),λi r j d c=>?_,⟨_,Ez h.tk,eo f⟩,(h.yJ n).1,λy a=>?_,(h.yJ n).2,λy a=>?_⟩,Wt o b ⟨_,Ez h.tk,h.win t h.tk (j6 rfl)⟩⟩
 .unfold WI at c;split at c
  .rename_i e;subst e;by_cases g:j<at_
   .exact o.trans _ _ _ (h.here j d g) b
   ·(have l:j=at_:=by omega);subst l;rw[h.zm];exact b
  .exact o.trans _ _ _ (h.below i r j d c) b
 .rcases eG.1 a with a|a
  .exact o.trans _ _ _ (h.low y a) b
  .rw[ex]at a;subst a;exact b
 .rw[eG,ex];rcases h.zl y a with k|k
  .exact j5 (j5 k)
  .by_cases u:y=s
   .exact j5 (j6 u)
   .right;refine q.zw o f (a _ (Ez h.tk)) (λj d c e=>?_);by_cases g:j<at_
    .have:=h.here j d g;rw[e,k]at this;cases this
    ·(have l:j=at_:=by omega);subst l;rw[h.zm]at e;exact u e.symm
end
