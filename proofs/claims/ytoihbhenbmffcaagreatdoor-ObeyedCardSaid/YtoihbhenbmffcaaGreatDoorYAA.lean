import Derived.WalkKit
import Derived.Deep.AppendLies
import Derived.Deep.QuietTactic
import Derived.BigQuiet
import Derived.Deep.LoopGhost
import Derived.Deep.MidRow
import Derived.Handy
import Derived.Test.YtoihbhenbmffcaaGreatDoorProg
set_option linter.all false
set_option maxHeartbeats 0
open List renaming length->Z,toArray->j3
open Option renaming none->Y,some->V
open Go.Value renaming slice->U,int->X,string->O,pointer->kt,agg->lR,bool->lT
open Bool renaming false->K,true->j1
open Go.IntKind renaming i64->J
open Go.Ending renaming returned->lo
open Or renaming inl->lx,inr->ly
open Go renaming World->l9,Value->lN
open Go.RowKit renaming Hid->lO
open Go.World renaming ownsRow->lQ
open ByteArray renaming empty->lU
open Go.Op renaming bytesLess->lZ
namespace Go.Proofs.YtoihbhenbmffcaaGreatDoor
open Go.RowKit Go.Proofs.Tryz
abbrev mc:=@List
abbrev zA:=ByteArray
abbrev gI:=@List.setIfInBounds_toArray
abbrev gJ:=@List.set_cons_zero
abbrev gK:=@List.set_cons_succ
abbrev gL:=@List.getElem_mem
abbrev gM:=@Go.Value.slice.injEq
abbrev gN:=@List.mem_singleton
abbrev gO:=@Bool.false_eq_true
abbrev gP:=@List.mem_cons
abbrev gQ:=@List.take_succ_eq_append_getElem
abbrev gR:=@List.take_of_length_le
abbrev gS:=@List.getElem?_eq_getElem
abbrev gT:=@Option.some.injEq
abbrev gU:=@Go.World.ownsRow.alloc
abbrev gV:=@if_neg
abbrev gW:=@List.length_cons
abbrev gX:=@List.mem_map
abbrev gY:=@if_pos
abbrev gZ:=@ByteArray.size_append
abbrev ia:=@List.getD_eq_getElem?_getD
abbrev ib:=@List.length_append
abbrev ic:=@List.mem_append
abbrev ie:=@List.length_map
abbrev ig:=@Nat.le_refl
abbrev ii:=@List.map_cons
abbrev ij:=@List.drop_eq_getElem_cons
abbrev ik:=@Nat.zero_le
abbrev il:=@List.flatMap_cons
abbrev im:=@Go.bodyPost_ret
abbrev io:=@Go.wpList_append_lies
abbrev ip:=@Go.World.ownsRow_nil
abbrev iq:=@Bool.and_eq_true
abbrev ir:=@List.mem_filter
abbrev it:=@List.mem_map_of_mem
abbrev iu:=@Go.World.news_of_block
abbrev iv:=@List.length_nil
abbrev iw:=@beq_eq_false_iff_ne
abbrev ix:=@List.flatMap_append
abbrev iy:=@Go.ByteArray.toList_eq
abbrev iz:=@Go.World.size_alloc
abbrev iA:=@List.foldl_cons
abbrev iB:=@List.mem_cons_of_mem
abbrev iC:=@List.drop_eq_nil_of_le
abbrev iD:=@Go.heap_alloc_new
abbrev iE:=@Prod.mk.injEq
abbrev iF:=@List.getElem_of_mem
abbrev iG:=@List.map_append
abbrev iH:=@List.length_take
abbrev iI:=@List.mem_flatMap
abbrev iJ:=@List.append_nil
abbrev iK:=@Array.getElem?_eq_some_iff
abbrev iL:=@Go.Addr.mk.injEq
abbrev iM:=@Nat.zero_add
abbrev iN:=@List.length_drop
abbrev iO:=@List.getElem?_set_ne
abbrev iP:=@List.take_append_of_le_length
abbrev iQ:=@Nat.le_trans
abbrev iR:=@Go.info_parts
abbrev iS:=@Nat.mul_le_mul_right
abbrev iT:=@List.append_assoc
abbrev iU:=@List.not_mem_nil
abbrev iV:=@List.mem_cons_self
abbrev iW:=@ByteArray.size_extract
abbrev iX:=@List.map_map
abbrev iY:=@List.map_congr_left
abbrev iZ:=@List.take_append_drop
abbrev i6:=@List.nil_append
abbrev i7:=@List.size_toArray
abbrev i8:=@Except.ok.injEq
abbrev i9:=@decide_eq_false
abbrev jb:=@Bool.not_false
abbrev jc:=@List.getElem?_set_self
abbrev jd:=@Go.wpIn_seq_k
abbrev je:=@Go.World.ownsRow.kept
abbrev jf:=@List.getElem?_map
abbrev jg:=@List.any_eq_true
abbrev jh:=@List.flatMap_nil
abbrev ji:=@List.all_eq_true
abbrev jk:=@Go.all_oneCell_toArray
abbrev jl:=@Bool.eq_iff_iff
abbrev jm:=@List.length_set
abbrev jn:=@List.length_filter_le
abbrev jo:=@List.foldl_append
abbrev jp:=@UInt8.toNat_inj
abbrev jq:=@Bool.true_and
abbrev jr:=@List.mem_of_mem_take
abbrev js:=@List.cons_append
abbrev jt:=@List.filter_cons
abbrev ju:=@List.any_eq_false
abbrev jw:=@Nat.lt_of_lt_of_le
abbrev jx:=@Bool.or_eq_true
abbrev jy:=@List.mem_filterMap
abbrev jz:=@List.pairwise_cons
abbrev jA:=@beq_iff_eq
abbrev jB:=@List.cons.injEq
abbrev jC:=@Option.map_some
abbrev jD:=@List.getElem?_take
abbrev jE:=@List.length_replicate
abbrev jF:=@List.length_eq_zero_iff
abbrev jG:=@List.nodup_cons
abbrev jH:=@decide_eq_true
abbrev jI:=@List.pairwise_iff_getElem
abbrev jJ:=@Bool.false_ne_true
abbrev jK:=@List.find?_eq_none
abbrev jL:=@List.findIdx?_eq_some_iff_getElem
abbrev jM:=@List.map_nil
abbrev jN:=@Go.wpList_load_mid
abbrev jO:=@Go.wpList_store_mid
abbrev jP:=@Option.mem_toList
abbrev jQ:=@List.pairwise_map
abbrev jR:=@Int.tdiv_eq_ediv_of_nonneg
abbrev jS:=@Nat.add_mul
abbrev jT:=@List.nodup_nil
abbrev jU:=@Bool.not_eq_true'
abbrev jV:=@List.Pairwise.imp_of_mem
abbrev jW:=@Bool.not_true
abbrev jX:=@List.filter_append
abbrev jY:=@decide_eq_false_iff_not
abbrev jZ:=@Array.replicate_succ
abbrev j4:=@Array.replicate_zero
abbrev j5:=@Go.decode_ascii
abbrev j6:=@List.take_length
abbrev j7:=@Go.IntKind.wrap_i64
abbrev j8:=@Go.Addr.add_lit
abbrev j9:=@List.getElem?_append_right
abbrev kc:=@List.take_succ_cons
abbrev ke:=@List.append_toArray
abbrev kf:=@Bool.and_self
abbrev kg:=@UInt8.le_iff_toNat_le
abbrev kh:=@List.find?_cons
abbrev ki:=@Go.wpIn_cond_false
abbrev kj:=@List.getElem_append_left
abbrev kl:=@Bool.or_eq_false_iff
abbrev km:=@List.mem_of_mem_drop
abbrev kn:=@List.mem_append_left
abbrev kp:=@Bool.false_or
abbrev kq:=@Bool.false_and
abbrev ks:=@Bool.and_false
abbrev ku:=@Go.wpIn_cond_true
abbrev kw:=@decide_eq_true_eq
abbrev kx:=@List.push_toArray
abbrev ky:=@Go.Calls.quiet_of_same
abbrev kB:=@List.drop_succ_cons
abbrev kD:=@Nat.min_eq_left
abbrev kE:=@Array.getElem?_eq_none
abbrev kF:=@Option.map_eq_some_iff
abbrev kG:=@Nat.lt_or_eq_of_le
abbrev kH:=@List.all_cons
abbrev kI:=@List.take_zero
abbrev kJ:=@Option.some.inj
abbrev kK:=@List.getElem_take
abbrev kL:=@List.nodup_append
abbrev kN:=@Bool.true_or
abbrev kO:=@List.toList_toArray
abbrev kP:=@List.findSome?_cons
abbrev kQ:=@List.eq_nil_of_length_eq_zero
abbrev kR:=@List.take_take
abbrev kS:=@List.drop_zero
abbrev kT:=@List.getElem_cons_zero
abbrev kU:=@List.getElem?_drop
abbrev kV:=@Go.results_none
abbrev kW:=@List.any_cons
abbrev kX:=@List.findSome?_eq_none_iff
abbrev kY:=@List.pairwise_append
abbrev kZ:=@List.getElem?_eq_some_iff
abbrev k0:=@List.mem_range
abbrev lc:=@Go.step_append_lies
abbrev ld:=@List.map_flatMap
abbrev lg:=@Go.run_callFunc_extern
abbrev lh:=@Go.Sem.run_bind
abbrev li:=@Go.ready_mono
abbrev lj:=@Array.setIfInBounds_comm
abbrev lk:=@List.any_map
abbrev lm:=@Bool.or_true
abbrev ln:=@List.zip_cons_cons
abbrev lq:=@List.filter_eq_nil_iff
abbrev lu:=@List.find?_append
abbrev lw:=@Go.World.ownsRow_lit
abbrev lz:=@List.getElem_drop
abbrev lB:=@Nat.min_def
abbrev lC:=@List.findSome?_append
abbrev lD:=@decide_false
abbrev lE:=@List.set_append_right
abbrev lF:=@ByteArray.data_append
abbrev lG:=@List.singleton_append
abbrev lH:=@List.countP_le_length
abbrev lI:=@List.contains_iff_mem
abbrev lJ:=@List.any_append
abbrev lK:=@Go.decode_high
abbrev lL:=@List.map_set
abbrev lM:=@Bool.or_self
structure Ac(M:mc Nat)(w w':l9):Prop where
 os:w'.os=w.os
 tape:w'.tape=w.tape
 output:w'.output=w.output
 size:w.heap.size<=w'.heap.size
 block:∀k,k<w.heap.size->k∉M->w'.heap[k]?=w.heap[k]?
def Ac.refl(M:mc Nat)(w:l9):Ac M w w:=⟨rfl,rfl,rfl,ig _,λ_ _ _=>rfl⟩
abbrev me:=@Ac.refl
def Ac.trans{M:mc Nat}{a b c:l9}(h:Ac M a b)(k:Ac M b c):Ac M a c:=
 ⟨k.os.trans h.os,k.tape.trans h.tape,k.output.trans h.output,iQ h.size k.size,
  λi e d=>(k.block i (jw e h.size) d).trans (h.block i e d)⟩
def Ac.trans'{M N:mc Nat}{a b c:l9}(h:Ac M a b)(k:Ac N b c)(j:∀i,i∈N->i∈M\/a.heap.size<=i):Ac M a c:=
 ⟨k.os.trans h.os,k.tape.trans h.tape,k.output.trans h.output,iQ h.size k.size,
  λi f d=>(k.block i (jw f h.size) (λg=>by rcases j i g with e|e;exact d e;omega)).trans (h.block i f d)⟩
def Ac.mono{M N:mc Nat}{w w':l9}(h:Ac M w w')(a:∀i,i∈M->i∈N):Ac N w w':=
 ⟨h.os,h.tape,h.output,h.size,λk c b=>h.block k c (λd=>b (a k d))⟩
def Ac.drew{M:mc Nat}{a w:l9}(h:Ac M a w):Ac M a w.drew:=⟨h.os,h.tape,h.output,h.size,h.block⟩
def Ac.drewN{M:mc Nat}{a w:l9}(h:Ac M a w)(n:Nat):Ac M a (w.drewN n):=⟨h.os,h.tape,h.output,h.size,h.block⟩
def Ac.alloc{M:mc Nat}{a w:l9}(h:Ac M a w)(o:Obj):Ac M a (w.alloc o):=
 h.trans ⟨rfl,rfl,rfl,by simp,λk b _=>Below.heap_alloc _ _ _ b⟩
def Ac.setCell{M:mc Nat}{a w:l9}(h:Ac M a w){p:Addr}(b:p.block∈M\/a.heap.size<=p.block)(u:lN):Ac M a (w.setCell p u):=
 h.trans' (N:=[p.block]) ⟨rfl,rfl,rfl,by simp[World.setCell],λk _ c=>Below.heap_setCell _ _ _ _ (by simpa using c)⟩ (by simpa using b)
def Ac.grown{M:mc Nat}{a w w':l9}{d:Option Nat}(h:Ac M a w)(b:w.grownBy w' d)(j:∀k,d=V k->k∈M\/a.heap.size<=k):Ac M a w':=
 ⟨b.os.trans h.os,b.tape.trans h.tape,b.output.trans h.output,iQ h.size b.size,
  λi g c=>(b.block i (jw g h.size) (λe=>by rcases j i e.symm with f|f;exact c f;omega)).trans (h.block i g c)⟩
def AH(w:l9)(b:Nat)(cs:mc lN)(t:TypeId):Prop:=w.heap[b]?=V (.cells (j3 cs) t (0,0))
def AH.lt{w:l9}{b:Nat}{cs:mc lN}{t:TypeId}(h:AH w b cs t):b<w.heap.size:=(iK.1 h).1
def AH.cell{w:l9}{b:Nat}{cs:mc lN}{t:TypeId}(h:AH w b cs t)(i:Nat):w.cell? ⟨b,i,Y⟩=cs[i]?:=by
 unfold AH at h;simp[World.cell?,h]
def AH.frozen{w:l9}{b:Nat}{cs:mc lN}{t:TypeId}(h:AH w b cs t)(i:Nat):w.frozen? ⟨b,i,Y⟩=K:=by
 unfold AH at h;simp[World.frozen?,h]
def AH.set{w:l9}{b:Nat}{cs:mc lN}{t:TypeId}(h:AH w b cs t)(i:Nat)(u:lN):AH (w.setCell ⟨b,i,Y⟩ u) b (cs.set i u) t:=by
 unfold AH at*;simp[World.setCell,Array.getElem?_modify,h]
def AH.zB{w:l9}{b:Nat}{cs:mc lN}{t:TypeId}(h:AH w b cs t)(p:Addr)(a:p.block≠b)(u:lN):AH (w.setCell p u) b cs t:=by
 unfold AH at*;rw[Below.heap_setCell _ _ _ _ (λe=>a e.symm)];exact h
def AH.alloc{w:l9}{b:Nat}{cs:mc lN}{t:TypeId}(h:AH w b cs t)(o:Obj):AH (w.alloc o) b cs t:=by
 have:=h.lt;unfold AH at*;rw[Below.heap_alloc _ _ _ this];exact h
def AH.new(w:l9)(cs:mc lN)(t:TypeId):AH (w.alloc (.cells (j3 cs) t)) w.heap.size cs t:=by
 exact iD w _
abbrev mf:=@AH.new
def AH.kept{M:mc Nat}{w w':l9}{b:Nat}{cs:mc lN}{t:TypeId}(h:AH w b cs t)(k:Ac M w w')(a:b∉M):AH w' b cs t:=by
 have:=h.lt;unfold AH at*;rw[k.block b this a];exact h
def AH.drew{w:l9}{b:Nat}{cs:mc lN}{t:TypeId}(h:AH w b cs t):AH w.drew b cs t:=h
def AH.drewN{w:l9}{b:Nat}{cs:mc lN}{t:TypeId}(h:AH w b cs t)(n:Nat):AH (w.drewN n) b cs t:=h
def AH.range{w:l9}{b:Nat}{cs:mc lN}{t:TypeId}(h:AH w b cs t):w.rangeAt b 0 cs:=λj v a=>by rw[iM,h.cell];exact a
def AH.there{w:l9}{b:Nat}{cs:mc lN}{t:TypeId}(h:AH w b cs t):w.there b 0 (Z cs):=λj a=>by
 rw[iM,h.cell,h.frozen];simp[a]
def Ad{M:mc Nat}{w w':l9}{base:Nat}{e:TypeId}{size:Nat}{v:lN}{n:Nat}{a:mc lN}(h:lQ w base e size v n a)(k:Ac M w w')(d:∀i,i∈M->i<base):lQ w' base e size v n a:=by
 refine⟨h.1,?_⟩;rcases h.2 with o|⟨g,f,c,rfl,j,b,l⟩
 .exact .inl o
 .refine .inr ⟨g,f,c,rfl,j,?_,l⟩;rw[k.block g (iK.1 b).1 (λm=>by have:=d g m;omega)];exact b
def Ai{M:mc Nat}{w w':l9}{base:Nat}{e:TypeId}{size:Nat}{v:lN}{n:Nat}{a:mc lN}(h:lQ w base e size v n a)(k:Ac M w w')(d:∀i,v.ownBlock=V i->i∉M):lQ w' base e size v n a:=by
 refine⟨h.1,?_⟩;rcases h.2 with m|⟨g,f,c,rfl,j,b,l⟩
 .exact .inl m
 .refine .inr ⟨g,f,c,rfl,j,?_,l⟩;rw[k.block g (iK.1 b).1 (d g rfl)];exact b
def Am{w:l9}{base base':Nat}{e:TypeId}{size:Nat}{v:lN}{n:Nat}{a:mc lN}(h:lQ w base e size v n a)(i:base'<=base):lQ w base' e size v n a:=by
 refine⟨h.1,?_⟩;rcases h.2 with f|⟨g,c,b,rfl,j,d⟩
 .exact .inl f
 .exact .inr ⟨g,c,b,rfl,by omega,d⟩
def IY{w:l9}{base:Nat}{e:TypeId}{size:Nat}{v:lN}{n:Nat}{a:mc lN}(h:lQ w base e size v n a):lQ w.drew base e size v n a:=h
def DK{w:l9}{base:Nat}{e:TypeId}{size:Nat}{v:lN}{n:Nat}{a:mc lN}(h:lQ w base e size v n a)(k:Nat):lQ (w.drewN k) base e size v n a:=h
def Ag{w:l9}{base:Nat}{e:TypeId}{size:Nat}{v:lN}{n:Nat}{b:mc lN}(h:lQ w base e size v n b){p:Addr}(c:v.ownBlock≠V p.block)(u:lN):lQ (w.setCell p u) base e size v n b:=
 Ai h ((me [p.block] w).setCell (by simp) u) (λi d a=>c (by simp at a;rw[d,a]))
def A5{w:l9}{base:Nat}{e:TypeId}{size:Nat}{v:lN}{n:Nat}{a:mc lN}(h:lQ w base e size v n a)(k:Nat)(b:k<base):v.ownBlock≠V k:=λe=>by
 have:=(h.lt k e).1;omega
def AH.grown{w w':l9}{b:Nat}{cs:mc lN}{t:TypeId}{a:Option Nat}(h:AH w b cs t)(k:w.grownBy w' a)(c:a≠V b):AH w' b cs t:=by
 have:=h.lt;unfold AH at*;rw[k.block b this (λe=>c e.symm)];exact h
def BR{P:Program}{fn:Func}{p:Tmp}{a:TypeId}(h:fn.results=#[.cell p a]){tmps:Array lN}{w:l9}{b:Nat}{cs:mc lN}{t:TypeId}{d:TypeDesc}
  (e:tmps.getD p undef=kt (V ⟨b,0,Y⟩)) (j:AH w b cs t) (i:P.underlying a=V d) (c:d.isRow=j1) (k:(P.info? a).map (·.size)=V (Z cs)):
  (results fn tmps).run P w=.ok (lR (j3 cs)) w:=by
 have g:=run_loadVar_mid (P:=P) w b 0 a cs d j.range i c k;have f:tmps[p]?.getD undef=kt (V ⟨b,0,Y⟩):=by simpa using e
 simp only[results,h];simp[lh,Result.andThen,f,g,asAddr]
def Au{P:Program}{fn:Func}{p u:Tmp}{a:TypeId}(h:fn.results=#[.cell p a,.tmp u]){tmps:Array lN}{w:l9}{b:Nat}{cs:mc lN}{t:TypeId}{d:TypeDesc}
  (e:tmps.getD p undef=kt (V ⟨b,0,Y⟩)) (i:AH w b cs t) (g:P.underlying a=V d) (c:d.isRow=j1) (j:(P.info? a).map (·.size)=V (Z cs)):
  (results fn tmps).run P w=.ok (.tuple #[lR (j3 cs),tmps.getD u undef]) w:=by
 have f:=run_loadVar_mid (P:=P) w b 0 a cs d i.range g c j;rw[results_cell_tmp h];simp[lh,Result.andThen,e,f,asAddr]
def Ca{w:l9}{base:Nat}{e:TypeId}{size:Nat}{v:lN}{n:Nat}{b:mc lN}(h:lQ w base e size v n b):∃c a,v=U c n a:=by
 rcases h.2 with⟨rfl,rfl⟩|⟨g,a,d,rfl,_⟩
 .exact⟨Y,0,rfl⟩
 .exact⟨_,a,rfl⟩
def Vz{α:Type}(f:α->mc lN)(a:Nat):∀(l:mc α),(∀x∈l,Z (f x)=a)->∀(i:Nat) (b:i<Z l) (k:Nat),k<a->(l.flatMap f)[i*a+k]?=(f l[i])[k]?
 |[],_,i,b,_,_=>by simp at b
 |x::l,h,0,_,k,hk=>by
  have c:=h x (by simp);simp only[il,Nat.zero_mul,iM,kT];rw[List.getElem?_append_left (by omega)]
 |x::l,h,i+1,b,k,hk=>by
  have c:=h x (by simp);have ih:=Vz f a l (λy d=>h y (by simp[d])) i (by simpa using b) k hk;simp only[il,List.getElem_cons_succ];rw[j9 (by rw[c,jS];omega),c,jS,Nat.one_mul,show i*a+a+k-a=i*a+k by omega];exact ih
def AF{α:Type}{f:α->mc lN}{a:Nat}{w:l9}{base:Nat}{e:TypeId}{v:lN}{l:mc α}(h:lQ w base e a v (Z l) (l.flatMap f))(m:∀x∈l,Z (f x)=a)(i:Nat)(t:i<Z l):
  ∃g b,v=U (V ⟨g,0,Y⟩) (Z l) b/\Z l<=b/\∀j (c:j<Z l) k,k<a->w.cell? ⟨g,j*a+k,Y⟩=(f l[j])[k]?:=by
 rcases h.2 with⟨_,r⟩|⟨g,b,q,rfl,_,o,p,_,s,n⟩
 .omega
 .refine⟨g,b,rfl,p,λj c k d=>?_⟩;rw[<-Vz f a l m j c k d,<-n,jD,gY (by have:(j+1)*a<=Z l*a:=iS _ c;rw[jS]at this;omega)];simp[World.cell?,o]
def Al{w:l9}{base:Nat}{e:TypeId}{c n:Nat}{v:lN}{b:mc lN}(h:lQ w base e c v n b):∃d a,v=U d n a:=Ca h
def Ah(x:zA):mc lN:=[O x]
def Ab{p:Prop}(h:p):lO p:=h
def ma{P:Program}{Q:Exit->Act->l9->Prop}{a:Act}{w:l9}{x y:Code}(h:∀K:Act->l9->Prop,lO (∀a w,y.wp P Q a w->K a w)->x.wp P (Exit.then K Q) a w):(Code.seq x y).wp P Q a w:=wp_seq_k λK k=>h K (Ab k)
def Aa{p:Prop}(h:lO p):p:=h
theorem Tryz.zt:(Tryz.prog.info? 9).map (λi=>(i.zero,i.size,i.bytes))=V (V (O ⟨#[]⟩),1,16):=by kernel_rfl
def BO(s:zA)(at_:Nat)(bad:Bool):mc lN:=[O s,X J at_,lT bad]
def Az(c:UInt8):Bool:=97<=c&&c<=122
def C2(c:UInt8):Bool:=65<=c&&c<=90
def Ao(c:UInt8):Bool:=48<=c&&c<=57
def C8(c:UInt8):Bool:=c==32||c==10
def Bh{a b:Bool}(h:a=b):lo (lT a)=lo (lT b):=by rw[h]
def dM{k:IntKind}{a b:Int}(h:a=b):lo (X k a)=lo (X k b):=by rw[h]
theorem Iu(n:Int)(c:UInt8)(w:l9)(h:n=c.toNat):Calls prog 169 #[X .u8 n] w λe a=>e=lo (lT (Az c))/\a=w:=by
 subst h;go_enter func169,ntmps169;go_wp2;all_goals go_ret
 all_goals refine⟨Bh ?_,rfl⟩
 all_goals (rw[jl];simp[Az,kg];try omega)
theorem MX(n:Int)(c:UInt8)(w:l9)(h:n=c.toNat):Calls prog 170 #[X .u8 n] w λe a=>e=lo (lT (C2 c))/\a=w:=by
 subst h;go_enter func170,ntmps170;go_wp2;all_goals go_ret
 all_goals refine⟨Bh ?_,rfl⟩
 all_goals (rw[jl];simp[C2,kg];try omega)
theorem Cu(n:Int)(c:UInt8)(w:l9)(h:n=c.toNat):Calls prog 55 #[X .u8 n] w λe a=>e=lo (lT (Ao c))/\a=w:=by
 subst h;go_enter func55,ntmps55;go_wp2;all_goals go_ret
 all_goals refine⟨Bh ?_,rfl⟩
 all_goals (rw[jl];simp[Ao,kg];try omega)
def Ae(s:zA)(at_:Nat):Nat:=
 if h:at_<s.size then(if C8 s[at_] then Ae s (at_+1)else at_)else at_
def AM(s:zA)(at_:Nat)(bad:Bool):Nat:=if bad then at_ else Ae s at_
def Bp(s:zA)(at_:Nat)(h:at_<=s.size):Ae s at_<=s.size:=by
 fun_induction Ae s at_<;>omega
def BU(s:zA)(at_:Nat):at_<=Ae s at_:=by
 fun_induction Ae s at_<;>omega
def Km(s:zA)(at_:Nat):AM s at_ j1=at_:=rfl
def Qe(s:zA)(at_:Nat)(h:¬at_<s.size)(a:Bool):AM s at_ a=at_:=by
 unfold AM;rw[Ae];simp[h]
def Xl(s:zA)(at_:Nat)(h:at_<s.size)(a:C8 s[at_]=j1):AM s at_ K=AM s (at_+1) K:=by
 unfold AM;rw[Ae];simp[h,a]
def VP(s:zA)(at_:Nat)(h:at_<s.size)(a:C8 s[at_]=K):AM s at_ K=at_:=by
 unfold AM;rw[Ae];simp[h,a]
def CP(c k:UInt8):((c.toNat:Int)==(k.toNat:Int))=(c==k):=by
 rw[jl];simp only[jA];constructor
 .intro h;exact jp.1 (by omega)
 .intro h;rw[h]
def T9(c:UInt8):(((c.toNat:Int)==32)=j1/\C8 c=j1)\/(((c.toNat:Int)==32)=K/\((c.toNat:Int)==10)=j1/\C8 c=j1)\/
  (((c.toNat:Int)==32)=K/\((c.toNat:Int)==10)=K/\C8 c=K):=by
 have b:((c.toNat:Int)==32)=(c==32):=CP c 32;have a:((c.toNat:Int)==10)=(c==10):=CP c 10;rw[b,a];unfold C8;cases(c==32)<;>cases(c==10)<;>simp
theorem Dx(b:Nat)(s:zA)(at_:Nat)(a:Bool)(w:l9)(L:s.size<=1000000)(C:at_<=s.size)(F:AH w b (BO s at_ a) 73):
  Calls prog 43 #[kt (V ⟨b,0,Y⟩)] w λe t=>e=lo (.tuple #[])/\AH t b (BO s (AM s at_ a) a) 73/\Ac [b] w t:=by
 go_enter func43,ntmps43;go_wp2
 go_loopg [] (s.size-at_) (λk wr=>∃j:Nat,j<=s.size/\k=s.size-j/\AM s j a=AM s at_ a/\AH wr b (BO s j a) 73/\Ac [b] w wr)
 case atStart=>exact⟨at_,C,rfl,rfl,F,me _ _⟩
 case round=>
  obtain⟨j,M,x,v,d,f⟩:=hrel;have A:=d.cell 0;have G:=d.cell 1;have E:=d.cell 2;have N:=d.frozen 1;simp[BO]at A G E;have l:lO (gk=s.size-j/\AM s j a=AM s at_ a):=⟨x,v⟩;clear x v;have z:AM s j a=j->AH wr b (BO s (AM s at_ a) a) 73:=λh=>by rw[<-l.out.2,h];exact d
  have o:lO (AM s j a=j->AH wr b (BO s (AM s at_ a) a) 73):=z;clear z;cases a with
  |true=>
   go_wp2
   go_quiet (fail)
   go_wp2;go_end0;exact⟨rfl,o.out rfl,f.drewN _⟩
  |false=>
   by_cases m:j<s.size
   ·(have I:(j:Int)<(s.size:Int):=by omega);have u:lO (C8 s[j]=j1->∃c:Nat,c<=s.size/\s.size-(j+1)=s.size-c/\AM s c K=AM s at_ K/\∀n,AH ((wr.drewN n).setCell ⟨b,1,Y⟩ (X J (j+1))) b (BO s c K) 73/\Ac [b] w ((wr.drewN n).setCell ⟨b,1,Y⟩ (X J (j+1)))):=by
     intro h;refine⟨j+1,by omega,rfl,?_,λn=>⟨?_,?_⟩⟩
     .rw[<-l.out.2,Xl s j m h]
     .exact(d.drewN n).set 1 _
     .exact(f.drewN n).setCell (by simp) _
    rcases T9 s[j] with⟨y,g⟩|⟨y,B,g⟩|⟨y,B,g⟩
    .clear d f;go_wp2
     go_quiet (fail)
     go_wp2
     go_roundg (s.size-(j+1))
     case measure=>have:=l.out.1;omega
     case rel=>
      obtain⟨c,q,r,p,i⟩:=u.out g;exact⟨c,q,r,p,(i _).1,(i _).2⟩
    .clear d f;go_wp2
     go_quiet (fail)
     go_wp2
     go_roundg (s.size-(j+1))
     case measure=>have:=l.out.1;omega
     case rel=>
      obtain⟨c,q,r,p,i⟩:=u.out g;exact⟨c,q,r,p,(i _).1,(i _).2⟩
    .have D:lO (C8 s[j]=K):=g;clear g;go_wp2
     go_quiet (fail)
     go_wp2;go_end0;exact⟨rfl,o.out (VP s j m D.out),f.drewN _⟩
   ·(have H:decide ((j:Int)<(s.size:Int))=K:=by simp;omega);go_wp2
    go_quiet (fail)
    go_wp2;go_end0;exact⟨rfl,o.out (Qe s j m _),f.drewN _⟩
def D1(s:zA)(j:Nat)(c:UInt8):Bool:=if h:j<s.size then s[j]==c else K
def Gm(s:zA)(at_:Nat)(a:Bool)(h:at_<=s.size):AM s at_ a<=s.size:=by
 unfold AM;split
 .exact h
 .exact Bp s at_ h
theorem Qo(b:Nat)(s:zA)(at_:Nat)(a:Bool)(n:Int)(c:UInt8)(w:l9)(t:n=c.toNat)(r:s.size<=1000000)(l:at_<=s.size)(m:AH w b (BO s at_ a) 73):
  Calls prog 128 #[kt (V ⟨b,0,Y⟩),X .u8 n] w λe i=>e=lo (lT (!a&&D1 s (AM s at_ a) c))/\AH i b (BO s (AM s at_ a) a) 73/\Ac [b] w i:=by
 have u:=Gm s at_ a l;subst t;obtain⟨j,g⟩:∃j,AM s at_ a=j:=⟨_,rfl⟩;rw[g]at u⊢;have k:lO (AM s at_ a=j):=g;clear g;go_enter func128,ntmps128;go_wp2_with fail
 refine(Dx b s at_ a _ r l m).mono ?_;rintro e y ⟨rfl,d,f⟩;rw[k.out]at d;clear m k;have o:=d.cell 0;have v:=d.cell 1;have p:=d.cell 2;simp[BO]at o v p;cases a with
 |true=>
  go_wp2
  go_quiet (fail)
  go_wp2;go_ret;exact⟨Bh (by simp),d.drewN _,f.drewN _⟩
 |false=>
  by_cases h:j<s.size
  ·(have z:(j:Int)<(s.size:Int):=by omega);have q:lO (((s[j].toNat:Int)==(c.toNat:Int))=(!false&&D1 s j c)):=by
    show _=_;rw[CP];unfold D1;simp[h]
   go_wp2
   go_quiet (fail)
   go_wp2;go_ret;exact⟨Bh q.out,d.drewN _,f.drewN _⟩
  ·(have x:decide ((j:Int)<(s.size:Int))=K:=by simp;omega);go_wp2
   go_quiet (fail)
   go_wp2;go_ret;exact⟨Bh (by unfold D1;simp[h]),d.drewN _,f.drewN _⟩
def BX(s:zA)(j:Nat)(bad:Bool)(c:UInt8):Nat:=if !bad&&D1 s (AM s j bad) c then AM s j bad+1 else AM s j bad
def Fl{s:zA}{j:Nat}{c:UInt8}(h:D1 s j c=j1):j<s.size:=by
 unfold D1 at h;split at h
 .assumption
 .cases h
def DA(s:zA)(at_:Nat)(b:Bool)(c:UInt8)(h:at_<=s.size):BX s at_ b c<=s.size:=by
 unfold BX;have:=Gm s at_ b h;split
 .rename_i a;simp only[iq]at a;have:=Fl a.2;omega
 .exact this
theorem Mi(b:Nat)(s:zA)(at_:Nat)(a:Bool)(n:Int)(c:UInt8)(w:l9)(m:n=c.toNat)(t:s.size<=1000000)(p:at_<=s.size)(o:AH w b (BO s at_ a) 73):
  Calls prog 80 #[kt (V ⟨b,0,Y⟩),X .u8 n] w λe k=>e=lo (lT (!a&&D1 s (AM s at_ a) c))/\AH k b (BO s (BX s at_ a c) a) 73/\Ac [b] w k:=by
 have r:=Gm s at_ a p;unfold BX;obtain⟨j,i⟩:∃j,AM s at_ a=j:=⟨_,rfl⟩;rw[i]at r⊢;obtain⟨g,h⟩:∃g,(!a&&D1 s j c)=g:=⟨_,rfl⟩;rw[h];have f:lO (AM s at_ a=j/\(!a&&D1 s j c)=g/\n=c.toNat):=⟨i,h,m⟩;clear i h m;go_enter func80,ntmps80;go_wp2_with fail
 refine(Qo b s at_ a n c _ f.out.2.2 t p o).mono ?_;rintro e v ⟨rfl,d,l⟩;rw[f.out.1,f.out.2.1];rw[f.out.1]at d;clear o f;have q:=d.cell 0;have u:=d.cell 1;have x:=d.frozen 1;simp[BO]at q u;cases g with
 |true=>
  go_wp2;go_ret;exact⟨Bh rfl,d.set 1 _,l.setCell (by simp) _⟩
 |false=>
  go_wp2;go_ret;exact⟨Bh rfl,d,l⟩
theorem MA(b:Nat)(s:zA)(at_:Nat)(a:Bool)(n:Int)(c:UInt8)(w:l9)(o:n=c.toNat)(v:s.size<=1000000)(x:at_<=s.size)(p:AH w b (BO s at_ a) 73):
  Calls prog 82 #[kt (V ⟨b,0,Y⟩),X .u8 n] w λe l=>e=lo (.tuple #[])/\AH l b (BO s (BX s at_ a c) (!(!a&&D1 s (AM s at_ a) c))) 73/\Ac [b] w l:=by
 have q:lO ((!a&&D1 s (AM s at_ a) c)=j1->a=K):=by intro h;cases a<;>simp_all
 obtain⟨j,k⟩:∃j,BX s at_ a c=j:=⟨_,rfl⟩;obtain⟨i,f⟩:∃i,(!a&&D1 s (AM s at_ a) c)=i:=⟨_,rfl⟩;rw[k,f];rw[f]at q;have g:lO (BX s at_ a c=j/\(!a&&D1 s (AM s at_ a) c)=i/\n=c.toNat):=⟨k,f,o⟩;clear k f o;go_enter func82,ntmps82;go_wp2_with fail
 refine(Mi b s at_ a n c _ g.out.2.2 v x p).mono ?_;rintro e r ⟨rfl,d,m⟩;rw[g.out.2.1];rw[g.out.1]at d;clear p g;have u:=d.cell 2;have y:=d.frozen 2;simp[BO]at u;cases i with
 |true=>
  have t:lO (AH r b (BO s j (!true)) 73):=by have e:=q.out rfl;rw[e]at d;exact d
  go_wp2;go_end0;exact⟨rfl,t.out,m⟩
 |false=>
  go_wp2;go_end0;exact⟨rfl,d.set 2 _,m.setCell (by simp) _⟩
def AC(p:UInt8->Bool)(s:zA)(i:Nat):Nat:=
 if h:i<s.size then(if p s[i] then AC p s (i+1)else i)else i
def Ci(p:UInt8->Bool)(s:zA)(i:Nat)(h:i<=s.size):AC p s i<=s.size:=by
 fun_induction AC p s i<;>omega
def B7(p:UInt8->Bool)(s:zA)(i:Nat):i<=AC p s i:=by
 fun_induction AC p s i<;>omega
def B5(p:UInt8->Bool)(s:zA)(i:Nat)(h:i<s.size)(a:p s[i]=j1):AC p s i=AC p s (i+1):=by
 rw[AC];simp[h,a]
def ET(p:UInt8->Bool)(s:zA)(i:Nat)(h:i<s.size)(a:p s[i]=K):AC p s i=i:=by
 rw[AC];simp[h,a]
def FX(p:UInt8->Bool)(s:zA)(i:Nat)(h:¬i<s.size):AC p s i=i:=by
 rw[AC];simp[h]
def AY(s:zA)(at_:Nat)(bad:Bool):zA×Nat×Bool:=
 if bad then(lU,at_,j1)else
  if AC Az s (Ae s at_)=Ae s at_\/4<AC Az s (Ae s at_)-Ae s at_ then(lU,Ae s at_,j1)
  else(s.extract (Ae s at_) (AC Az s (Ae s at_)),AC Az s (Ae s at_),K)
def DY{s:zA}{at_ j k:Nat}(a:Ae s at_=j)(b:AC Az s j=k)(h:k=j\/4<k-j):AY s at_ K=(lU,j,j1):=by
 unfold AY;rw[a,b,gV (by simp),gY h]
def Kf{s:zA}{at_ j k:Nat}(a:Ae s at_=j)(b:AC Az s j=k)(h:¬(k=j\/4<k-j)):AY s at_ K=(s.extract j k,k,K):=by
 unfold AY;rw[a,b,gV (by simp),gV h]
theorem Mq(b:Nat)(s:zA)(at_:Nat)(f:Bool)(w:l9)(F:s.size<=1000000)(q:at_<=s.size)(m:AH w b (BO s at_ f) 73):
  Calls prog 126 #[kt (V ⟨b,0,Y⟩)] w λe x=>e=lo (O (AY s at_ f).1)/\AH x b (BO s (AY s at_ f).2.1 (AY s at_ f).2.2) 73/\Ac [b] w x:=by
 cases f with
 |true=>
  go_enter func126,ntmps126;go_wp2_with fail
  refine(Dx b s at_ j1 _ F q m).mono ?_;rintro e G ⟨rfl,a,c⟩;rw[Km]at a;clear m;have p:=a.cell 0;have v:=a.cell 1;have r:=a.cell 2;have I:=a.frozen 2;simp[BO]at p v r;go_wp2
  go_loop [4] (λi=>i=X J at_) (λ_=>0)
  case atStart=>rfl
  case round=>
   subst hrel;go_wp2;go_ret;exact⟨rfl,a.set 2 _,c.setCell (by simp) _⟩
 |false=>
  obtain⟨j,t⟩:∃j,Ae s at_=j:=⟨_,rfl⟩;have A:=Bp s at_ q;rw[t]at A;obtain⟨R,u⟩:∃R,AY s at_ K=R:=⟨_,rfl⟩;rw[u];have o:lO (Ae s at_=j):=t;have z:lO (AY s at_ K=R):=u;clear t u;go_enter func126,ntmps126;go_wp2_with fail
  refine(Dx b s at_ K _ F q m).mono ?_;rintro e G ⟨rfl,a,c⟩;rw[show AM s at_ K=j from o.out]at a
  clear m;have p:=a.cell 0;have v:=a.cell 1;have r:=a.cell 2;have S:=a.frozen 1;have I:=a.frozen 2;simp[BO]at p v r;go_wp2
  go_loop [4] (λi=>∃k:Nat,i=X J k/\j<=k/\k<=s.size/\AC Az s k=AC Az s j) (λi=>s.size-(intOf i).toNat)
  case atStart=>exact⟨j,rfl,ig _,A,rfl⟩
  case round=>
   obtain⟨k,rfl,N,Q,D⟩:=hrel;have C:lO (AC Az s k=AC Az s j):=D;clear D;have y:lO (AC Az s k=k->(((k:Int)=j\/4<(k:Int)-j)->R=(lU,j,j1))/\(¬((k:Int)=j\/4<(k:Int)-j)->R=(s.extract j k,k,K))):=by
    intro L;(have B:AC Az s j=k:=by rw[<-C.out];exact L);exact⟨λh=>by rw[<-z.out];exact DY o.out B (by omega),λh=>by rw[<-z.out];exact Kf o.out B (by omega)⟩
   by_cases n:k<s.size
   ·(have P:(k:Int)<(s.size:Int):=by omega);by_cases l:Az s[k]=j1
    ·(have H:lO (AC Az s (k+1)=AC Az s j):=by show _=_;rw[<-B5 Az s k n l];exact C.out);go_wp2_with (go_at_call 169;refine(Iu _ s[k] _ rfl).mono ?_;rintro e M ⟨rfl,rfl⟩;rw[l])
     go_round
     case rel=>exact⟨k+1,by go_num,by omega,by omega,H.out⟩
     case measure=>simp[intOf];omega
    ·(have E:Az s[k]=K:=by simpa using l);have g:=y.out (ET Az s k n E);have d:lO ((((k:Int)=j\/4<(k:Int)-j)->R=(lU,j,j1))/\(¬((k:Int)=j\/4<(k:Int)-j)->R=(s.extract j k,k,K))):=g;clear g l;go_wp2_with (go_at_call 169;refine(Iu _ s[k] _ rfl).mono ?_;rintro e M ⟨rfl,rfl⟩;rw[E])
     all_goals go_ret
     .rw[d.out.1 (by omega)];exact⟨rfl,a.set 2 _,c.setCell (by simp) _⟩
     .rw[d.out.1 (by simp_all)];exact⟨rfl,a.set 2 _,c.setCell (by simp) _⟩
     .rw[d.out.2 (by simp_all)];exact⟨rfl,a.set 1 _,c.setCell (by simp) _⟩
   .have g:=y.out (FX Az s k n);have d:lO ((((k:Int)=j\/4<(k:Int)-j)->R=(lU,j,j1))/\(¬((k:Int)=j\/4<(k:Int)-j)->R=(s.extract j k,k,K))):=g;clear g;go_wp2;all_goals go_ret
    .rw[d.out.1 (by omega)];exact⟨rfl,a.set 2 _,c.setCell (by simp) _⟩
    .rw[d.out.1 (by simp_all)];exact⟨rfl,a.set 2 _,c.setCell (by simp) _⟩
    .rw[d.out.2 (by simp_all)];exact⟨rfl,a.set 1 _,c.setCell (by simp) _⟩
structure AE where
 v:UInt8
 s:zA
def AU(t:AE):mc lN:=[X .u8 t.v.toNat,O t.s]
def AI(s:zA)(at_:Nat)(bad:Bool):AE×Nat×Bool:=
 if bad then(⟨0,lU⟩,at_,j1)else
 if h:Ae s at_<s.size then
  if C2 s[Ae s at_] then(⟨s[Ae s at_],lU⟩,Ae s at_+1,K)
  else if !Ao s[Ae s at_] then(⟨0,(AY s (Ae s at_) K).1⟩,(AY s (Ae s at_) K).2)
  else if 3<AC Ao s (Ae s at_)-Ae s at_\/(s[Ae s at_]=48/\1<AC Ao s (Ae s at_)-Ae s at_)then(⟨0,lU⟩,Ae s at_,j1)
  else(⟨0,s.extract (Ae s at_) (AC Ao s (Ae s at_))⟩,AC Ao s (Ae s at_),K)
 else(⟨0,lU⟩,Ae s at_,j1)
theorem az(b:Nat)(s:zA)(at_:Nat)(w:l9)(l:s.size<=1000000)(m:at_<=s.size)(d:AH w b (BO s at_ j1) 73):
  Calls prog 127 #[kt (V ⟨b,0,Y⟩)] w λe f=>e=lo (lR #[X .u8 0,O lU])/\AH f b (BO s at_ j1) 73/\Ac [b] w f:=by
 have p:=d.lt;go_enter func127,ntmps127;go_wp2_with fail
 refine(Dx b s at_ j1 _ l m (d.alloc _)).mono ?_;rintro e o ⟨rfl,a,g⟩;rw[Km]at a;clear d;have c:=(mf w _ _).kept g (by simp;omega);have j:=c.cell 0;have k:=c.cell 1;have r:=c.frozen;have h:=a.cell 0;have n:=a.cell 1;have i:=a.cell 2;have q:=a.frozen 2;simp[BO]at h n i j k;go_wp2
 go_quiet (fail)
 go_wp2;refine im (BR rfl rfl ((((c.drewN _).zB _ (by simp;omega) _).set 0 _).set 1 _) underlying93 rfl (by kernel_rfl)) rfl ⟨rfl,?_,?_⟩
 .exact(((a.drewN _).set 2 _).zB _ (by simp;omega) _).zB _ (by simp;omega) _
 .exact(((((me _ _).alloc _).trans g).drewN _).setCell (by simp) _|>.setCell (by simp) _).setCell (by simp) _
theorem aO(b:Nat)(s:zA)(at_ j:Nat)(w:l9)(q:s.size<=1000000)(i:at_<=s.size)(d:Ae s at_=j)(v:¬j<s.size)(f:AH w b (BO s at_ K) 73):
  Calls prog 127 #[kt (V ⟨b,0,Y⟩)] w λe g=>e=lo (lR #[X .u8 0,O lU])/\AH g b (BO s j j1) 73/\Ac [b] w g:=by
 have y:=f.lt;have n:=Bp s at_ i;rw[d]at n;have h:lO (Ae s at_=j):=d;clear d;go_enter func127,ntmps127;go_wp2_with fail
 refine(Dx b s at_ K _ q i (f.alloc _)).mono ?_;rintro e u ⟨rfl,a,k⟩;rw[show AM s at_ K=j from h.out]at a
 clear f h;have c:=(mf w _ _).kept k (by simp;omega);have m:=c.cell 0;have p:=c.cell 1;have x:=c.frozen;have l:=a.cell 0;have r:=a.cell 1;have o:=a.cell 2;have A:=a.frozen 1;have z:=a.frozen 2;simp[BO]at l r o m p;have t:decide ((s.size:Int)<=(j:Int))=j1:=by simp;omega
 go_wp2
 go_quiet (fail)
 go_wp2;refine im (BR rfl rfl ((((c.drewN _).zB _ (by simp;omega) _).set 0 _).set 1 _) underlying93 rfl (by kernel_rfl)) rfl ⟨rfl,?_,?_⟩
 .exact(((a.drewN _).set 2 _).zB _ (by simp;omega) _).zB _ (by simp;omega) _
 .exact(((((me _ _).alloc _).trans k).drewN _).setCell (by simp) _|>.setCell (by simp) _).setCell (by simp) _
theorem V8(b:Nat)(s:zA)(at_ j:Nat)(w:l9)(r:s.size<=1000000)(i:at_<=s.size)(d:Ae s at_=j)(x:j<s.size)(p:C2 s[j]=j1)(f:AH w b (BO s at_ K) 73):
  Calls prog 127 #[kt (V ⟨b,0,Y⟩)] w λe g=>e=lo (lR #[X .u8 s[j].toNat,O lU])/\AH g b (BO s (j+1) K) 73/\Ac [b] w g:=by
 have A:=f.lt;have n:=Bp s at_ i;rw[d]at n;have h:lO (Ae s at_=j):=d;clear d;go_enter func127,ntmps127;go_wp2_with fail
 refine(Dx b s at_ K _ r i (f.alloc _)).mono ?_;rintro e v ⟨rfl,a,k⟩;rw[show AM s at_ K=j from h.out]at a
 clear f h;have c:=(mf w _ _).kept k (by simp;omega);have m:=c.cell 0;have q:=c.cell 1;have z:=c.frozen;have l:=a.cell 0;have t:=a.cell 1;have o:=a.cell 2;have C:=a.frozen 1;have B:=a.frozen 2;simp[BO]at l t o m q;have u:decide ((s.size:Int)<=(j:Int))=K:=by simp;omega
 have y:(j:Int)<(s.size:Int):=by omega
 go_wp2
 go_quiet (fail)
 go_wp2
 go_quiet (fail)
 go_wp2_with (go_at_call 170;refine(MX _ s[j] _ rfl).mono ?_;rintro e D ⟨rfl,rfl⟩;rw[p])
 refine im (BR rfl rfl ((((c.drewN _).zB _ (by simp;omega) _).set 0 _).set 1 _) underlying93 rfl (by kernel_rfl)) rfl ⟨rfl,?_,?_⟩
 .exact(((a.drewN _).set 1 _).zB _ (by simp;omega) _).zB _ (by simp;omega) _
 .exact(((((me _ _).alloc _).trans k).drewN _).setCell (by simp) _|>.setCell (by simp) _).setCell (by simp) _
theorem ZE(b:Nat)(s:zA)(at_ j:Nat)(w:l9)(r:s.size<=1000000)(m:at_<=s.size)(f:Ae s at_=j)(I:j<s.size)(C:C2 s[j]=K)(v:Ao s[j]=K)(g:AH w b (BO s at_ K) 73):
  Calls prog 127 #[kt (V ⟨b,0,Y⟩)] w λe h=>e=lo (lR #[X .u8 0,O (AY s j K).1])/\AH h b (BO s (AY s j K).2.1 (AY s j K).2.2) 73/\Ac [b] w h:=by
 have N:=g.lt;have z:=Bp s at_ m;rw[f]at z;have i:lO (Ae s at_=j):=f;clear f;go_enter func127,ntmps127;go_wp2_with fail
 refine(Dx b s at_ K _ r m (g.alloc _)).mono ?_;rintro e H ⟨rfl,a,n⟩;rw[show AM s at_ K=j from i.out]at a
 clear g i;have d:=(mf w _ _).kept n (by simp;omega);have l:=d.cell 0;have q:=d.cell 1;have y:=d.frozen;have k:=a.cell 0;have u:=a.cell 1;have p:=a.cell 2;have F:=a.frozen 1;have E:=a.frozen 2;simp[BO]at k u p l q;have G:decide ((s.size:Int)<=(j:Int))=K:=by simp;omega
 have M:(j:Int)<(s.size:Int):=by omega
 have P:∀(x:Bool) (w:l9),(Op.unary .not (lT x)).run prog w=.ok (lT (!x)) w:=λ_ _=>rfl
 go_wp2
 go_quiet (fail)
 go_wp2
 go_quiet (fail)
 go_wp2_with (first|(go_at_call 170;refine(MX _ s[j] _ rfl).mono ?_;rintro e t ⟨rfl,rfl⟩;rw[C])|(go_at_call 55;refine(Cu _ s[j] _ rfl).mono ?_;rintro e t ⟨rfl,rfl⟩;rw[v]))
 refine(Mq b s j K _ r (by omega) (a.drewN _)).mono ?_;rintro e t ⟨rfl,D,o⟩;have c:=(d.drewN _).kept o (by simp;omega);have A:=c.cell 0;have B:=c.cell 1;have L:=c.frozen;simp at A B;clear y l q F E k u p;go_wp2;refine im (BR rfl rfl ((c.set 0 _).set 1 _) underlying93 rfl (by kernel_rfl)) rfl ⟨rfl,?_,?_⟩
 .exact(D.zB _ (by simp;omega) _).zB _ (by simp;omega) _
 .exact(((((me _ _).alloc _).trans n).drewN _).trans o|>.setCell (by simp) _).setCell (by simp) _
def Gw(s:zA)(j k:Nat):AE×Nat×Bool:=
 if 3<k-j\/(D1 s j 48=j1/\1<k-j)then(⟨0,lU⟩,j,j1)else(⟨0,s.extract j k⟩,k,K)
def N3{s:zA}{j k:Nat}(h:(3:Int)<((k-j:Nat):Int)):Gw s j k=(⟨0,lU⟩,j,j1):=by
 unfold Gw;rw[gY (by omega)]
def XY{s:zA}{j:Nat}(a:j<s.size)(c:UInt8):D1 s j c=j1↔(s[j].toNat:Int)=c.toNat:=by
 unfold D1;simp only[a,dite_true,jA];constructor
 .intro h;rw[h]
 .intro h;exact jp.1 (by omega)
def NE{s:zA}{j k:Nat}(b:j<s.size)(h:(s[j].toNat:Int)=48)(a:(3:Int)<((k-j:Nat):Int)\/(1:Int)<((k-j:Nat):Int)):Gw s j k=(⟨0,lU⟩,j,j1):=by
 unfold Gw;rw[gY (by rcases a with a|a;exact lx (by omega);exact ly ⟨(XY b 48).2 h,by omega⟩)]
def PZ{s:zA}{j k:Nat}(h:((k-j:Nat):Int)<=3)(a:((k-j:Nat):Int)<=1):Gw s j k=(⟨0,s.extract j k⟩,k,K):=by
 unfold Gw;rw[gV (by omega)]
def Pb{s:zA}{j k:Nat}(b:j<s.size)(h:¬(s[j].toNat:Int)=48)(c:((k-j:Nat):Int)<=3):Gw s j k=(⟨0,s.extract j k⟩,k,K):=by
 unfold Gw;rw[gV (by rintro (a|⟨a,_⟩);omega;exact h ((XY b 48).1 a))]
theorem Uo(b:Nat)(s:zA)(at_ j:Nat)(w:l9)(R:AE×Nat×Bool)(M:s.size<=1000000)(y:at_<=s.size)(p:Ae s at_=j)(g:j<s.size)(H:C2 s[j]=K)(v:Ao s[j]=j1)
  (o:lO (R=Gw s j (AC Ao s j)))
  (q:AH w b (BO s at_ K) 73):
  Calls prog 127 #[kt (V ⟨b,0,Y⟩)] w λe t=>e=lo (lR (j3 (AU R.1)))/\AH t b (BO s R.2.1 R.2.2) 73/\Ac [b] w t:=by
 have AT:=q.lt;have z:=Bp s at_ y;rw[p]at z;have u:lO (Ae s at_=j):=p;clear p;go_enter func127,ntmps127;go_wp2_with fail
 refine(Dx b s at_ K _ M y (q.alloc _)).mono ?_;rintro e Q ⟨rfl,a,d⟩;rw[show AM s at_ K=j from u.out]at a
 clear q u;have c:=(mf w _ _).kept d (by simp;omega);have D:=c.cell 0;have L:=c.cell 1;have Ax:=c.frozen;have C:=a.cell 0;have F:=a.cell 1;have G:=a.cell 2;have Bx:=a.frozen 1;have A2:=a.frozen 2;simp[BO]at C F G D L;have P:decide ((s.size:Int)<=(j:Int))=K:=by simp;omega
 have W:(j:Int)<(s.size:Int):=by omega
 have A0:∀(x:Bool) (w:l9),(Op.unary .not (lT x)).run prog w=.ok (lT (!x)) w:=λ_ _=>rfl
 go_wp2
 go_quiet (fail)
 go_wp2
 go_quiet (fail)
 go_wp2_with (first|(go_at_call 170;refine(MX _ s[j] _ rfl).mono ?_;rintro e r ⟨rfl,rfl⟩;rw[H])|(go_at_call 55;refine(Cu _ s[j] _ rfl).mono ?_;rintro e r ⟨rfl,rfl⟩;rw[v]))
 go_loop [4] (λi=>∃k:Nat,i=X J k/\j<=k/\k<=s.size/\AC Ao s k=AC Ao s j) (λi=>s.size-(intOf i).toNat)
 case atStart=>exact⟨j,rfl,ig _,z,rfl⟩
 case round=>
  obtain⟨k,rfl,T,AO,A⟩:=hrel;have l:lO (AC Ao s k=AC Ao s j):=A;clear A;have BA:(j:Int)<=(k:Int):=by omega
  have S:(k:Int)<=(s.size:Int):=by omega
  have h:lO (AC Ao s k=k->R=Gw s j k):=by
   intro N;(have E:AC Ao s j=k:=by rw[<-l.out];exact N);rw[o.out,E]
  by_cases n:k<s.size
  ·(have A1:(k:Int)<(s.size:Int):=by omega);by_cases m:Ao s[k]=j1
   ·(have I:lO (AC Ao s (k+1)=AC Ao s j):=by show _=_;rw[<-B5 Ao s k n m];exact l.out);clear v;go_wp2_with (go_at_call 55;refine(Cu _ s[k] _ rfl).mono ?_;rintro e r ⟨rfl,rfl⟩;rw[m])
    go_round
    case rel=>exact⟨k+1,by go_num,by omega,by omega,I.out⟩
    case measure=>simp[intOf];omega
   ·(have B:Ao s[k]=K:=by simpa using m);have f:lO (R=Gw s j k):=h.out (ET Ao s k n B);clear m h o l;go_wp2_with (go_at_call 55;refine(Cu _ s[k] _ rfl).mono ?_;rintro e r ⟨rfl,rfl⟩;rw[B])
    go_quiet (fail)
    go_wp2
    .rw[f.out,NE g (by assumption) (by assumption)];refine im (BR rfl rfl ((((c.drewN _).zB _ (by simp;omega) _).set 0 _).set 1 _) underlying93 rfl (by kernel_rfl)) rfl ⟨rfl,?_,?_⟩
     .exact(((a.drewN _).set 2 _).zB _ (by simp;omega) _).zB _ (by simp;omega) _
     .exact(((((me _ _).alloc _).trans d).drewN _).setCell (by simp) _|>.setCell (by simp) _).setCell (by simp) _
    .rw[f.out,PZ (by omega) (by omega)];refine im (BR rfl rfl ((((c.drewN _).zB _ (by simp;omega) _).set 0 _).set 1 _) underlying93 rfl (by kernel_rfl)) rfl ⟨rfl,?_,?_⟩
     .exact(((a.drewN _).set 1 _).zB _ (by simp;omega) _).zB _ (by simp;omega) _
     .exact(((((me _ _).alloc _).trans d).drewN _).setCell (by simp) _|>.setCell (by simp) _).setCell (by simp) _
    .rw[f.out,Pb g (by assumption) (by omega)];refine im (BR rfl rfl ((((c.drewN _).zB _ (by simp;omega) _).set 0 _).set 1 _) underlying93 rfl (by kernel_rfl)) rfl ⟨rfl,?_,?_⟩
     .exact(((a.drewN _).set 1 _).zB _ (by simp;omega) _).zB _ (by simp;omega) _
     .exact(((((me _ _).alloc _).trans d).drewN _).setCell (by simp) _|>.setCell (by simp) _).setCell (by simp) _
    .rw[f.out,N3 (by omega)];refine im (BR rfl rfl ((((c.drewN _).zB _ (by simp;omega) _).set 0 _).set 1 _) underlying93 rfl (by kernel_rfl)) rfl ⟨rfl,?_,?_⟩
     .exact(((a.drewN _).set 2 _).zB _ (by simp;omega) _).zB _ (by simp;omega) _
     .exact(((((me _ _).alloc _).trans d).drewN _).setCell (by simp) _|>.setCell (by simp) _).setCell (by simp) _
  .have f:lO (R=Gw s j k):=h.out (FX Ao s k n);clear h o l;go_wp2
   go_quiet (fail)
   go_wp2
   .rw[f.out,NE g (by assumption) (by assumption)];refine im (BR rfl rfl ((((c.drewN _).zB _ (by simp;omega) _).set 0 _).set 1 _) underlying93 rfl (by kernel_rfl)) rfl ⟨rfl,?_,?_⟩
    .exact(((a.drewN _).set 2 _).zB _ (by simp;omega) _).zB _ (by simp;omega) _
    .exact(((((me _ _).alloc _).trans d).drewN _).setCell (by simp) _|>.setCell (by simp) _).setCell (by simp) _
   .rw[f.out,PZ (by omega) (by omega)];refine im (BR rfl rfl ((((c.drewN _).zB _ (by simp;omega) _).set 0 _).set 1 _) underlying93 rfl (by kernel_rfl)) rfl ⟨rfl,?_,?_⟩
    .exact(((a.drewN _).set 1 _).zB _ (by simp;omega) _).zB _ (by simp;omega) _
    .exact(((((me _ _).alloc _).trans d).drewN _).setCell (by simp) _|>.setCell (by simp) _).setCell (by simp) _
   .rw[f.out,Pb g (by assumption) (by omega)];refine im (BR rfl rfl ((((c.drewN _).zB _ (by simp;omega) _).set 0 _).set 1 _) underlying93 rfl (by kernel_rfl)) rfl ⟨rfl,?_,?_⟩
    .exact(((a.drewN _).set 1 _).zB _ (by simp;omega) _).zB _ (by simp;omega) _
    .exact(((((me _ _).alloc _).trans d).drewN _).setCell (by simp) _|>.setCell (by simp) _).setCell (by simp) _
   .rw[f.out,N3 (by omega)];refine im (BR rfl rfl ((((c.drewN _).zB _ (by simp;omega) _).set 0 _).set 1 _) underlying93 rfl (by kernel_rfl)) rfl ⟨rfl,?_,?_⟩
    .exact(((a.drewN _).set 2 _).zB _ (by simp;omega) _).zB _ (by simp;omega) _
    .exact(((((me _ _).alloc _).trans d).drewN _).setCell (by simp) _|>.setCell (by simp) _).setCell (by simp) _
def Qv(b:Nat)(s:zA)(at_:Nat)(h:Bool)(w:l9)(f:s.size<=1000000)(g:at_<=s.size)(d:AH w b (BO s at_ h) 73):
  Calls prog 127 #[kt (V ⟨b,0,Y⟩)] w λe i=>e=lo (lR (j3 (AU (AI s at_ h).1)))/\AH i b (BO s (AI s at_ h).2.1 (AI s at_ h).2.2) 73/\Ac [b] w i:=by
 cases h with
 |true=>exact az b s at_ w f g d
 |false=>
  obtain⟨j,c⟩:∃j,Ae s at_=j:=⟨_,rfl⟩;by_cases a:j<s.size
  .cases hu:C2 s[j] with
   |true=>
    (have e:AI s at_ K=(⟨s[j],lU⟩,j+1,K):=by unfold AI;subst c;simp[a,hu]);rw[e];exact V8 b s at_ j w f g c a hu d
   |false=>
    cases hd:Ao s[j] with
    |false=>
     (have e:AI s at_ K=(⟨0,(AY s j K).1⟩,(AY s j K).2):=by unfold AI;subst c;simp[a,hu,hd]);rw[e];exact ZE b s at_ j w f g c a hu hd d
    |true=>
     refine Uo b s at_ j w _ f g c a hu hd ?_ d;show _=_;unfold AI Gw D1;subst c;simp[a,hu,hd]
  ·(have e:AI s at_ K=(⟨0,lU⟩,j,j1):=by unfold AI;subst c;simp[a]);rw[e];exact aO b s at_ j w f g c a d
def Ei(r:Int):Int:=
 if 97<=r/\r<=122 then 2 else if 48<=r/\r<=57 then 3 else if 65<=r/\r<=90 then 4
 else if r=58\/r=46\/r=44\/r=33\/r=61\/r=35\/r=60\/r=40\/r=41 then 5 else 0
theorem Jq(r:Int)(w:l9):Calls prog 192 #[X .i32 r] w λe a=>e=lo (X J (Ei r))/\a=w:=by
 go_enter func192,ntmps192;go_wp2;all_goals
  go_ret;refine⟨dM ?_,rfl⟩
  try simp only[iw,jA,ne_eq]at*
  unfold Ei
  (repeat' split)<;>omega
structure AZ where
 kind:Int
 place:Nat
 text:zA
def Bf(m:AZ):mc lN:=[X J m.kind,X J m.place,O m.text]
def Co(m:AZ)(place:Nat)(r:Int):Bool:=
 if m.place+m.text.size≠place then K
 else if m.kind=2\/m.kind=3 then Ei r==m.kind
 else if m.kind=5 then(m.text.toList==[58])&&r==45
 else K
theorem V9(m:AZ)(place:Nat)(r:Int)(w:l9)(p:m.place<=1000000)(s:m.text.size<=1000000)(q:place<=1000000):
  Calls prog 191 #[lR (j3 (Bf m)),X J place,X .i32 r] w λe o=>e=lo (lT (Co m place r))/\Ac [] w o:=by
 simp only[Bf];obtain⟨G,g⟩:∃G,Co m place r=G:=⟨_,rfl⟩;rw[g];have a:=g;unfold Co at a;clear g;by_cases f:m.place+m.text.size=place
 .have l:((m.place:Int)+(m.text.size:Int) !=(place:Int))=K:=by simp;omega
  rw[gV (by omega)]at a;by_cases b:m.kind=2\/m.kind=3
  .rw[gY b]at a;have c:lO ((Ei r==m.kind)=G):=a;clear a f;(have i:∀n:Nat,True:=λ_=>trivial);clear i;rcases b with b|b
   ·(have h:(m.kind==2)=j1:=by simp[b]);clear b;go_enter func191,ntmps191;go_wp2_with fail
    go_quiet ((go_at_call 192;exact ky (Jq _ _)))
    go_wp2;go_ret;exact⟨Bh c.out,((me _ _).alloc _).drewN _⟩
   ·(have h:(m.kind==2)=K:=by simp[b]);(have k:(m.kind==3)=j1:=by simp[b]);clear b;go_enter func191,ntmps191;go_wp2_with fail
    go_quiet ((go_at_call 192;exact ky (Jq _ _)))
    go_wp2;go_ret;exact⟨Bh c.out,((me _ _).alloc _).drewN _⟩
  .rw[gV b]at a;(have h:(m.kind==2)=K:=by simp;omega);(have k:(m.kind==3)=K:=by simp;omega);by_cases d:m.kind=5
   .rw[gY d]at a;(have j:(m.kind==5)=j1:=by simp[d]);have c:lO (((m.text.toList==[58])&&r==45)=G):=a;clear a f b d;go_enter func191,ntmps191;go_wp2;all_goals
     go_ret;refine⟨Bh ?_,(me _ _).alloc _⟩;rw[<-c.out]
     simp_all
   .rw[gV d]at a;(have j:(m.kind==5)=K:=by simp[d]);have c:lO (K=G):=a;clear a f b d;go_enter func191,ntmps191;go_wp2;go_ret;exact⟨Bh c.out,(me _ _).alloc _⟩
 .have l:((m.place:Int)+(m.text.size:Int) !=(place:Int))=j1:=by simp;omega
  rw[gY (by omega)]at a;have c:lO (K=G):=a;clear a f;go_enter func191,ntmps191;go_wp2;go_ret;exact⟨Bh c.out,(me _ _).alloc _⟩
def bo{s:zA}(h:0<s.size):D1 s 0 48=((s[0].toNat:Int)==48):=by
 have e:((s[0].toNat:Int)==48)=(s[0]==48):=CP s[0] 48;rw[e];simp[D1,h]
def IH(m:AZ):Bool:=
 if m.kind=2 then decide (m.text.size<=4)
 else if m.kind=3 then decide (m.text.size=1)||(decide (m.text.size<=3)&& !(D1 m.text 0 48))
 else j1
theorem Ul(m:AZ)(w:l9)(o:m.text.size<=1000000)(g:m.kind=3->0<m.text.size):
  Calls prog 157 #[lR (j3 (Bf m))] w λe j=>e=lo (lT (IH m))/\Ac [] w j:=by
 simp only[Bf];obtain⟨G,h⟩:∃G,IH m=G:=⟨_,rfl⟩;rw[h];have a:=h;unfold IH at a;clear h;by_cases b:m.kind=2
 .have l:(m.kind==2)=j1:=by simp[b]
  rw[gY b]at a;have c:lO (decide (m.text.size<=4)=G):=a;clear a b g;go_enter func157,ntmps157;go_wp2;go_ret;refine⟨Bh ?_,(me _ _).alloc _⟩;rw[<-c.out];simp
  try omega
 .have l:(m.kind==2)=K:=by simp[b]
  rw[gV b]at a;by_cases d:m.kind=3
  ·(have i:(m.kind==3)=j1:=by simp[d]);have k:=g d;(have n:(0:Int)<(m.text.size:Int):=by omega);rw[gY d,bo k]at a;have c:lO ((decide (m.text.size=1)||(decide (m.text.size<=3)&& !((m.text[0].toNat:Int)==48)))=G):=a;clear a b d g;go_enter func157,ntmps157;go_wp2
   .go_ret;refine⟨Bh ?_,(me _ _).alloc _⟩;(have f:m.text.size=1:=by omega);rw[<-c.out];simp[f]
   .go_ret;refine⟨Bh ?_,(me _ _).alloc _⟩;(have f:¬m.text.size=1:=by omega);(have b:m.text.size<=3:=by omega);rw[<-c.out];simp only[f,b,lD,decide_true,kp,jq];simp[bne];omega
   .go_ret;refine⟨Bh ?_,(me _ _).alloc _⟩;(have f:¬m.text.size=1:=by omega);(have b:¬m.text.size<=3:=by omega);rw[<-c.out];simp[f,b];omega
  ·(have i:(m.kind==3)=K:=by simp[d]);rw[gV d]at a;have c:lO (j1=G):=a;clear a b d g;go_enter func157,ntmps157;go_wp2;go_ret;exact⟨Bh c.out,(me _ _).alloc _⟩
theorem Tryz.zy:(Tryz.prog.info? 206).map (λi=>(i.zero,i.size,i.bytes))=V (V (lR #[X J 0,X J 0,O ⟨#[]⟩]),3,32):=by kernel_rfl
def Gc(m:AZ):Z (Bf m)=3:=rfl
def Bw{w:l9}{base:Nat}{e:TypeId}{size:Nat}{g n cap:Nat}{b:mc lN}(h:lQ w base e size (U (V ⟨g,0,Y⟩) n cap) n b)(i:Nat)(u:lN):
  lQ (w.setCell ⟨g,i,Y⟩ u) base e size (U (V ⟨g,0,Y⟩) n cap) n (b.set i u):=by
 refine⟨by rw[jm];exact h.1,?_⟩;rcases h.2 with⟨a,_⟩|⟨p,o,c,a,j,l,m,d,k,f⟩
 .cases a
 .simp only[gM,gT,iL]at a;obtain⟨⟨rfl,_,_⟩,_,rfl⟩:=a;refine ly ⟨g,cap,c.setIfInBounds i u,rfl,j,?_,m,d,by simpa using k,?_⟩
  .simp[World.setCell,Array.getElem?_modify,l]
  .rw[Array.toList_setIfInBounds,List.take_set,f]
def GP{w:l9}{base:Nat}{e:TypeId}{size:Nat}{g n cap:Nat}{b:mc lN}(h:lQ w base e size (U (V ⟨g,0,Y⟩) n cap) n b)(i:Nat):w.frozen? ⟨g,i,Y⟩=K:=by
 rcases h.2 with⟨a,_⟩|⟨k,f,d,a,j,c,_⟩
 .cases a
 .simp only[gM,gT,iL]at a;obtain⟨⟨rfl,_,_⟩,_,rfl⟩:=a;simp[World.frozen?,c]
def Xp(r:Int):(Utf8.encode r).size<=4:=by
 unfold Utf8.encode;simp only;generalize(if Utf8.valid r=j1 then r.toNat else Utf8.runeError)=c
 repeat' split
 all_goals simp[ByteArray.size]
def Cf(place:Nat)(r:Int):AZ:=⟨Ei r,place,Utf8.encode r⟩
def Lm(ms:mc AZ)(place:Nat)(r:Int):mc AZ:=
 if r=32\/r=10 then ms
 else match ms.getLast? with
  |some m=>if Co m place r then ms.dropLast++[{m with text:=m.text++Utf8.encode r}] else ms++[Cf place r]
  |none=>ms++[Cf place r]
def NA{pre:mc AZ}{m:AZ}{place:Nat}{r:Int}(h:¬(r=32\/r=10)):Lm (pre++[m]) place r=if Co m place r then pre++[{m with text:=m.text++Utf8.encode r}] else pre++[m]++[Cf place r]:=by
 unfold Lm;rw[gV h];simp
def aw(pre:mc AZ)(m:AZ)(u:zA):((pre++[m]).flatMap Bf).set (Z pre*3+2) (O u)=(pre++[{m with text:=u}]).flatMap Bf:=by
 have b:Z (pre.flatMap Bf)=Z pre*3:=by
  induction pre with
  |nil=>rfl
  |cons a l ih=>rw[il,ib,ih,Gc,gW];omega
 simp only[ix,il,jh,iJ];rw[lE _ _ (by omega),b];simp[Bf]
set_option maxRecDepth 100000
theorem dy(mv:lN)(ms:mc AZ)(place:Nat)(r:Int)(B:Nat)(w:l9)(hB:B<=w.heap.size)(f:lQ w B 206 3 mv (Z ms) (ms.flatMap Bf))(FB:Z ms<=1000000)(BT:place<=1000000)
  (x:∀m∈ms,m.place<=1000000/\m.text.size<=1000000):
  Calls prog 156 #[mv,X J place,X .i32 r] w λe I=>∃v,e=lo v/\lQ I B 206 3 v (Z (Lm ms place r)) ((Lm ms place r).flatMap Bf)/\Below B w I:=by
 obtain⟨i0,A2,M,W,AO⟩:=iR Tryz.zy;obtain⟨ad,T,rfl⟩:=Al f;by_cases b:r=32\/r=10
 .have i:lO (Lm ms place r=ms):=by show _=_;unfold Lm;rw[gY b]
  rcases b with b|b
  ·(have S:(r==32)=j1:=by simp[b]);clear b;go_enter func156,ntmps156;go_wp2;go_ret;rw[i.out];exact⟨_,rfl,f,Below.refl _ _⟩
  ·(have S:(r==32)=K:=by simp[b]);(have h2:(r==10)=j1:=by simp[b]);clear b;go_enter func156,ntmps156;go_wp2;go_ret;rw[i.out];exact⟨_,rfl,f,Below.refl _ _⟩
 .have S:(r==32)=K:=by simp;omega
  have h2:(r==10)=K:=by simp;omega
  rcases List.eq_nil_or_concat ms with rfl|⟨pre,m,N⟩
  ·(have i:lO (Lm [] place r=[Cf place r]):=by show _=_;unfold Lm;rw[gV b];rfl);have P:=Jq r w;clear b x;have BS:=Ab P;clear P;go_enter func156,ntmps156;(go_wp2_with fail);refine BS.mono ?_;rintro e d ⟨rfl,AT⟩;rw[AT];clear AT d;go_wp2_with (at_builtin;refine io _ rfl (.tmp 40) (.tmp 47) _ rfl B 206 i0 _ 3 32 underlying200 A2 M W AO rfl (by omega) (U ad 0 T) 0 [] rfl (gU f _) ⟨w.heap.size,0,Y⟩ 1 1 (Bf (Cf place r)) rfl rfl (iu (cs:=j3 (Bf (Cf place r))) (t:=206) (fr:=(0,0)) (iD w _)) (by simp[Value.oneCell',Bf]) (by omega) (by unfold maxLen;omega) (by omega) (by simp;omega) (w.heap.size+1) (by simp) ?_;intro g1 B2 d E l u n)
   have G:Below B w d:=((Below.refl B w).alloc hB _).grown l (by simp;omega) (λq z=>(f.lt q z).1);clear l u n;go_wp2;go_ret;rw[i.out];refine⟨_,rfl,?_,G⟩;simpa using E
  .rw[List.concat_eq_append]at N;subst N;have i:=Ab (NA (pre:=pre) (m:=m) (place:=place) b);(have o:Z pre<Z (pre++[m]):=by simp);obtain⟨g,EY,he,hc,p⟩:=AF f (λc _=>Gc c) (Z pre) o;simp only[gM]at he;obtain⟨rfl,_,rfl⟩:=he;have H:=p (Z pre) o 0 (by omega);have A:=p (Z pre) o 1 (by omega);have s:=p (Z pre) o 2 (by omega);simp[Bf]at H A s;have D:=x m (by simp);have L:=GP f (Z pre*3+2);(have n:Z (pre++[m])=Z pre+1:=by simp);(have FL:Z pre<=1000000:=by omega);have y:=V9 m place r w D.1 D.2 BT;simp only[Bf]at y;have R:=Ab y;clear p b y x;rw[n]at f⊢;cases hgo:Co m place r with
   |true=>
    have F:=Ab hgo;go_enter func156,ntmps156;(go_wp2_with fail);refine R.mono ?_;rintro e d ⟨rfl,a⟩;rw[hgo];have j:=Ad f a (by simp);have EX:=GP j (Z pre*3+2);have FO:d.cell? ⟨g,Z pre*3+2,Y⟩=V (O m.text):=by
     have EK:=(f.lt g rfl).2;rw[World.cell?_of_block (w:=w) (a.block g EK (by simp))];exact s
    have C:Below B w d:=⟨a.os,a.tape,a.output,a.size,λk hk=>a.block k (by omega) (by simp)⟩;clear H A s L a hgo;have EM:=Xp r;have FC:=D.2;go_wp2;go_ret;rw[Aa i,Aa F,gY rfl];refine⟨_,rfl,?_,C.setCell (f.lt g rfl).1 _⟩;have h:=Bw j (Z pre*3+2) (O (m.text++Utf8.encode r));rw[aw]at h;simpa using h
   |false=>
    have F:=Ab hgo;go_enter func156,ntmps156;(go_wp2_with fail);refine R.mono ?_;rintro e d ⟨rfl,a⟩;rw[hgo];have j:=Ad f a (by simp);have C:Below B w d:=⟨a.os,a.tape,a.output,a.size,λk hk=>a.block k (by omega) (by simp)⟩;have FF:=a.size;clear H A s L a hgo;(go_wp2_with fail);refine(Jq r d).mono ?_;rintro e w2 ⟨rfl,Q⟩;rw[Q];clear Q w2;go_wp2_with (at_builtin;refine io _ rfl (.tmp 40) (.tmp 47) _ rfl B 206 i0 _ 3 32 underlying200 A2 M W AO rfl (by omega) (U (V ⟨g,0,Y⟩) (Z pre+1) T) (Z pre+1) ((pre++[m]).flatMap Bf) rfl (gU j _) ⟨d.heap.size,0,Y⟩ 1 1 (Bf (Cf place r)) rfl rfl (iu (cs:=j3 (Bf (Cf place r))) (t:=206) (fr:=(0,0)) (iD d _)) (by simp[Value.oneCell',Bf]) (by omega) (by unfold maxLen;omega) (by omega) (by simp;omega) (d.heap.size+1) (by simp) ?_;intro g1 B2 w3 E l u n)
    have G:Below B w w3:=(C.alloc (by omega) _).grown l (by simp;omega) (λq z=>(j.lt q z).1);clear l u n;go_wp2;go_ret;rw[Aa i,Aa F,gV (by simp)];refine⟨_,rfl,?_,G⟩;simpa using E
theorem Tryz.zH:(Tryz.prog.info? 243).map (·.size)=V 26:=by kernel_rfl
theorem Tryz.zK:(Tryz.prog.info? 90).map (·.size)=V 26:=by kernel_rfl
def World.zc(b:Nat)(t:TypeId):∀(a:mc lN) (o:Nat) (w:l9) (c:mc lN),AH w b c t->o+Z a<=Z c->AH (w.setCells b o a) b (c.take o++a++c.drop (o+Z a)) t
 |[],o,w,c,h,hl=>by
  simp only[iv,Nat.add_zero,iJ,iZ];exact h
 |v::a,o,w,c,h,hl=>by
  simp only[gW]at hl;have ih:=World.zc b t a (o+1) (w.setCell ⟨b,o,Y⟩ v) (c.set o v) (h.set o v) (by simp;omega);have e:(c.set o v).take (o+1)++a++(c.set o v).drop (o+1+Z a)=c.take o++v::a++c.drop (o+Z (v::a)):=by
   rw[List.drop_set,gY (by omega),gQ (by simp;omega),List.getElem_set_self,List.take_set,List.set_eq_of_length_le (by simp;omega)];simp only[gW,iT,lG,js,i6];rw[show o+1+Z a=o+(Z a+1) by omega]
  rw[e]at ih;exact ih
def AH.zU{w:l9}{b:Nat}{cs:mc lN}{t:TypeId}(h:AH w b cs t)(a:mc lN)(c:Z a=Z cs):AH (w.setCells b 0 a) b a t:=by
 have:=World.zc b t a 0 w cs h (by omega);rw[iM,c,List.drop_length]at this;simpa using this
def Ac.zJ{M:mc Nat}{a w:l9}(h:Ac M a w){b:Nat}(d:b∈M\/a.heap.size<=b):∀(c:mc lN) (o:Nat),Ac M a (w.setCells b o c)
 |[],_=>h
 |v::c,o=>(h.setCell (p:=⟨b,o,Y⟩) d v).zJ d c (o+1)
end Go.Proofs.YtoihbhenbmffcaaGreatDoor
namespace Go.Proofs.YtoihbhenbmffcaaGreatDoor
open Go.RowKit Go.Proofs.Tryz
structure Gr(F:Type) where
 pos:mc F
 neg:mc F
 head:F
section
variable {F:Type} (I:Gr F->Prop) (zS:F->Nat)
structure KX:Prop where
 pos:∀i,I i->∀g∈i.pos,zS g<=zS i.head
 neg:∀i,I i->∀g∈i.neg,zS g<zS i.head
def Jz(i:Gr F)(P N:F->Prop):Prop:=(∀g∈i.pos,P g)/\∀g∈i.neg,¬N g
def Lf(M:F->Prop):Prop:=∀i,I i->Jz i M M->M i.head
def Jt(M:F->Prop)(n:Nat):Prop:=∀S:F->Prop,(∀f,M f->zS f<n->S f)->(∀i,I i->zS i.head=n->Jz i S M->S i.head)->∀f,M f->zS f=n->S f
def Nb(l:KX I zS){M N:F->Prop}(d:Lf I N)(k:∀n,Jt I zS M n):∀n,(∀f,zS f<n->(M f↔N f))->∀f,M f->zS f=n->N f:=by
 intro n ih f e m;refine k n N (λg a j=>(ih g j).1 a) (λi c o b=>?_) f e m;refine d i c ⟨b.1,λg a h=>b.2 g a ?_⟩;exact(ih g (by have:=l.neg i c g a;omega)).2 h
def fq(c:KX I zS){M N:F->Prop}(m:Lf I M)(j:∀n,Jt I zS M n)(e:Lf I N)(k:∀n,Jt I zS N n):∀f,M f↔N f:=by
 have d:∀n f,zS f<n->(M f↔N f):=by
  intro n
  induction n with
  |zero=>intro f h;omega
  |succ n ih=>
   intro f h;by_cases i:zS f<n
   .exact ih f i
   ·(have b:zS f=n:=by omega);exact⟨λa=>Nb I zS c e j n ih f a b,λa=>Nb I zS c m k n (λg l=>(ih g l).symm) f a b⟩
 intro f;exact d (zS f+1) f (by omega)
structure Ds(n:Nat)(s:F->Prop):Prop where
 top:∀f,s f->zS f<=n
 closed:∀i,I i->zS i.head<n->Jz i s s->s i.head
 least:∀m,m<=n->Jt I zS s m
def Ds.start:Ds I zS 0 (λ_=>False):=
 ⟨λf h=>h.elim,λi _ h=>by omega,λm _ S _ _ f h=>h.elim⟩
def Ds.step(p:KX I zS){n:Nat}{s:F->Prop}(h:Ds I zS n s){i:Gr F}(q:I i)(k:zS i.head=n)(l:Jz i s s):Ds I zS n (λf=>s f\/f=i.head):=by
 have r:∀j,I j->zS j.head<=n->((∀g∈j.neg,¬(s g\/g=i.head))↔∀g∈j.neg,¬s g):=by
  intro j d v;constructor
  .intro o g a c;exact o g a (lx c)
  .intro o g a c;rcases c with c|c
   .exact o g a c
   .have:=p.neg j d g a;rw[c,k]at this;omega
 refine⟨λf b=>?_,λj d v e=>?_,λm D S t w f b y=>?_⟩
 .rcases b with b|b
  .exact h.top f b
  .rw[b,k];omega
 .refine lx (h.closed j d v ⟨λg a=>?_,(r j d (by omega)).1 e.2⟩);rcases e.1 g a with c|c
  .exact c
  .have:=p.pos j d g a;rw[c,k]at this;omega
 .have u:∀g,s g->zS g=m->S g:=λg a E=>h.least m D S (λx C z=>t x (lx C) z) (λj d B e=>w j d B ⟨e.1,(r j d (by omega)).2 e.2⟩) g a E
  rcases b with b|b
  .exact u f b y
  .subst b;(have A:m=n:=by omega);subst A;refine w i q k ⟨λg a=>?_,(r i q (by omega)).2 l.2⟩;by_cases G:zS g<zS i.head
   .exact t g (lx (l.1 g a)) (by omega)
   .exact u g (l.1 g a) (by have:=p.pos i q g a;omega)
def Ds.next{n:Nat}{s:F->Prop}(h:Ds I zS n s)(g:∀i,I i->zS i.head=n->Jz i s s->s i.head):Ds I zS (n+1) s:=by
 refine⟨λf a=>by have:=h.top f a;omega,λi c l b=>?_,λm k=>?_⟩
 .by_cases d:zS i.head=n
  .exact g i c d b
  .exact h.closed i c (by omega) b
 .by_cases e:m<=n
  .exact h.least m e
  .intro S _ _ f a j;have:=h.top f a;omega
def Ds.done{n:Nat}{s:F->Prop}(h:Ds I zS n s)(e:∀i,I i->zS i.head<n):Lf I s/\∀m,Jt I zS s m:=by
 refine⟨λi a d=>h.closed i a (e i a) d,λm=>?_⟩;by_cases b:m<=n
 .exact h.least m b
 .intro S _ _ f c g;have:=h.top f c;omega
def Ds.cong{n:Nat}{s t:F->Prop}(h:Ds I zS n s)(e:∀f,s f↔t f):Ds I zS n t:=by
 have:s=t:=funext λf=>propext (e f)
 rw[<-this];exact h
end
def Zn{F:Type}(I:Gr F->Prop)(a c:F->Nat)(e:KX I a)(A:KX I c){M N:F->Prop}(r:Lf I M)(w:∀n,Jt I a M n)(t:Lf I N)(q:∀n,Jt I c N n):∀f,M f↔N f:=by
 have s:∀n f,a f<n->(M f↔N f):=by
  intro n
  induction n with
  |zero=>intro f h;omega
  |succ n ih=>
   have y:∀k g,c g<k->N g->a g<=n->M g:=by
    intro k
    induction k with
    |zero=>intro g h;omega
    |succ k ihk=>
     intro g B p o;by_cases d:c g<k
     .exact ihk g d p o
     .refine q k (λx=>a x<=n->M x) (λf u v=>ihk f v u) (λi j C m D=>?_) g p (by omega) o;refine r i j ⟨λx b=>m.1 x b (by have:=e.pos i j x b;omega),λx b z=>m.2 x b ?_⟩;exact(ih x (by have:=e.neg i j x b;omega)).1 z
   intro f h;by_cases d:a f<n
   .exact ih f d
   .exact⟨λl=>Nb I a e t w n ih f l (by omega),λl=>y (c f+1) f (by omega) l (by omega)⟩
 intro f;exact s (a f+1) f (by omega)
end Go.Proofs.YtoihbhenbmffcaaGreatDoor
namespace Go.Proofs.YtoihbhenbmffcaaGreatDoor
open Go.RowKit Go.Proofs.Tryz
structure N5{α:Type}(lt:α->α->Bool)(eq:α->α->Bool):Prop where
 trans:∀a b c,lt a b=j1->lt b c=j1->lt a c=j1
 irr:∀a,lt a a=K
 tot:∀a b,lt a b=K->eq a b=K->lt b a=j1
 eqv:∀a b,eq a b=j1↔a=b
def CE{α:Type}(lt:α->α->Bool)(l:mc α):Prop:=∀i j (hi:i<Z l) (hj:j<Z l),i<j->lt l[i] l[j]=j1
structure C0{α:Type}(lt:α->α->Bool)(l:mc α)(k:Nat)(x:α)(at_:Nat):Prop where
 ge:k<=at_
 le:at_<=Z l
 below:∀i (h:i<Z l),k<=i->i<at_->lt l[i] x=j1
 zl:∀i (h:i<Z l),at_<=i->lt l[i] x=K
section
variable {α:Type} {lt eq:α->α->Bool} {l:mc α}
def CE.down(o:N5 lt eq)(d:CE lt l){i j:Nat}(b:j<Z l)(c:i<=j){x:α}(h:lt l[j] x=j1):lt (l[i]'(by omega)) x=j1:=by
 rcases kG c with a|a
 .exact o.trans _ _ _ (d i j (by omega) b a) h
 .subst a;exact h
def CE.up(o:N5 lt eq)(c:CE lt l){i j:Nat}(a:j<Z l)(b:i<=j){x:α}(h:lt (l[i]'(by omega)) x=K):lt l[j] x=K:=by
 cases hh:lt l[j] x with
 |false=>rfl
 |true=>rw[c.down o a b hh]at h;cases h
def Ew(eq:α->α->Bool)(l:mc α)(at_:Nat)(x:α):Bool:=if h:at_<Z l then eq l[at_] x else K
def C0.has(o:N5 lt eq)(g:CE lt l){x:α}{at_:Nat}(h:C0 lt l 0 x at_):Ew eq l at_ x=j1↔x∈l:=by
 unfold Ew;constructor
 .intro d;split at d
  .rename_i a;have:=(o.eqv _ _).1 d;rw[<-this];exact gL a
  .cases d
 .intro k;obtain⟨i,e,b⟩:=iF k;have j:at_<=i:=by
   by_cases f:i<at_
   .have:=h.below i e (by omega) f;rw[b,o.irr]at this;cases this
   .omega
  have a:at_<Z l:=by omega
  rw[dif_pos a];rcases kG j with c|c
  .have:=g at_ i a e c;rw[b]at this;rw[h.zl at_ a (ig _)]at this;cases this
  .subst c;rw[b];exact(o.eqv _ _).2 rfl
def Fr(l:mc α)(at_:Nat)(x:α):mc α:=l.take at_++x::l.drop at_
def Kw{at_:Nat}(h:at_<=Z l)(x:α):Z (Fr l at_ x)=Z l+1:=by
 simp[Fr];omega
def Nu{at_:Nat}(x y:α):y∈Fr l at_ x↔y=x\/y∈l:=by
 unfold Fr;rw[ic,gP];have:y∈l↔y∈l.take at_\/y∈l.drop at_:=by rw[<-ic,iZ]
 rw[this];constructor
 .rintro (h|h|h)
  .exact ly (lx h)
  .exact lx h
  .exact ly (ly h)
 .rintro (h|h|h)
  .exact ly (lx h)
  .exact lx h
  .exact ly (ly h)
def QE:CE lt l↔l.Pairwise (λa b=>lt a b=j1):=by
 unfold CE;rw[jI]
def C0.zL(o:N5 lt eq)(f:CE lt l){x:α}{at_:Nat}(h:C0 lt l 0 x at_)(k:Ew eq l at_ x=K):CE lt (Fr l at_ x):=by
 rw[QE]at f⊢;have n:∀a∈l.take at_,lt a x=j1:=by
  intro a e;obtain⟨i,j,c⟩:=iF e;simp only[iH]at j;rw[kK]at c;rw[<-c];exact h.below i (by omega) (by omega) (by omega)
 have m:∀b∈l.drop at_,lt x b=j1:=by
  intro b d;obtain⟨i,j,c⟩:=iF d;simp only[iN]at j;rw[lz]at c;have g:at_<Z l:=by omega
  have p:lt x l[at_]=j1:=by
   apply o.tot _ _ (h.zl at_ g (ig _));unfold Ew at k;rw[dif_pos g]at k;exact k
  rw[<-c];by_cases q:i=0
  .subst q;simpa using p
  .exact o.trans _ _ _ p ((QE.2 f) at_ (at_+i) g (by omega) (by omega))
 unfold Fr;rw[kY];refine⟨f.sublist (List.take_sublist _ _),?_,?_⟩
 .rw[jz];exact⟨m,f.sublist (List.drop_sublist _ _)⟩
 .intro a e b d;rcases gP.1 d with rfl|d
  .exact n a e
  .exact o.trans _ _ _ (n a e) (m b d)
def CE.nodup(o:N5 lt eq)(c:CE lt l):l.Nodup:=by
 rw[QE]at c;exact c.imp (fun{a b} h e=>by subst e;rw[o.irr]at h;cases h)
end
def Fh(a b:zA):Bool:=lZ a.toList b.toList
def eE(a b:zA):Bool:=a.toList==b.toList
def NT(a b:Int):Bool:=decide (a<b)
def e9(a b:Int):Bool:=a==b
def Mn:∀a b c:mc UInt8,lZ a b=j1->lZ b c=j1->lZ a c=j1
 |a,b,[],_,h=>by cases b<;>simp[lZ]at h
 |[],b,_::_,_,_=>rfl
 |_::_,[],_::_,h,_=>by simp[lZ]at h
 |x::a,y::b,z::c,e,d=>by
  simp only[lZ,jx,kw,iq,jA]at e d⊢;rcases e with e|⟨rfl,e⟩
  .rcases d with d|⟨rfl,d⟩
   .exact lx (UInt8.lt_trans e d)
   .exact lx e
  .rcases d with d|⟨rfl,d⟩
   .exact lx d
   .exact ly ⟨rfl,Mn a b c e d⟩
def Ou:∀a:mc UInt8,lZ a a=K
 |[]=>rfl
 |x::a=>by simp[lZ,Ou a]
def QU:∀a b:mc UInt8,lZ a b=K->(a==b)=K->lZ b a=j1
 |[],[],_,h=>by simp at h
 |[],_::_,h,_=>by simp[lZ]at h
 |_::_,[],_,_=>rfl
 |x::a,y::b,h,h2=>by
  simp only[lZ,jx,kw,iq,jA,kl,jY,Bool.and_eq_false_imp]at h⊢;by_cases c:x=y
  .subst c;refine ly ⟨rfl,QU a b (h.2 rfl) ?_⟩;simpa using h2
  .left;have d:=h.1;rw[UInt8.lt_iff_toNat_lt]at d⊢;(have:x.toNat≠y.toNat:=λe=>c (jp.1 e));omega
def FE:N5 Fh eE:=
 ⟨λa b c=>Mn _ _ _,λa=>Ou _,λa b=>QU _ _,λa b=>by
  unfold eE
  simp only[jA]
  exact⟨λh=>by
   rw[iy,iy]at h
   exact ByteArray.ext (Array.toList_inj.1 h),λh=>by rw[h]⟩⟩
def QS:N5 NT e9:=
 ⟨λa b c d e=>by simp[NT]at*;omega,λa=>by simp[NT],λa b d e=>by simp[NT,e9]at*;omega,λa b=>by simp[e9]⟩
end Go.Proofs.YtoihbhenbmffcaaGreatDoor
namespace Go.Proofs.YtoihbhenbmffcaaGreatDoor
open Go.RowKit Go.Proofs.Tryz
theorem Ru{F fn:Nat}(hT:(F=9/\fn=165)\/(F=170/\fn=149))(lv:lN)(l:mc zA)(k:Nat)(x:zA)(base:Nat)(w:l9)(S:lQ w base F 1 lv (Z l) (l.flatMap Ah))(EM:Z l<=1000000)(hk:k<=Z l)(T:CE Fh l):
  Calls prog fn #[lv,X J k,O x] w λe w'=>∃H:Nat,e=lo (X J H)/\C0 Fh l k x H/\w'=w:=by
 obtain⟨ad,BS,rfl⟩:=Al S;have r:=Ab T;have D:lO (∀i (h:i<Z l),∃g,ad=V ⟨g,0,Y⟩/\Z l<=BS/\w.cell? ⟨g,i,Y⟩=V (O l[i])):=by
  intro i hi;obtain⟨g,CL,he,M,BT⟩:=AF S (by simp[Ah]) i hi;simp only[gM]at he;obtain⟨rfl,_,rfl⟩:=he;have I:=BT i hi 0 (by omega);simp[Ah]at I;exact⟨g,rfl,M,I⟩
 clear T;rcases hT with⟨rfl,rfl⟩|⟨rfl,rfl⟩
 case' inl=>go_enter func165,ntmps165
 case' inr=>go_enter func149,ntmps149
 all_goals
  go_wp2
  go_loop [7,8] (λa s=>∃(f o:Nat),a=X J f/\s=X J o/\k<=f/\f<=Z l/\1<=o/\o<=2*Z l+1/\lO (∀i (h:i<Z l),k<=i->i<f->Fh l[i] x=j1)) (λa s=>Z l-(intOf a).toNat)
  case atStart=>exact⟨k,1,by go_num,rfl,ig _,hk,ig _,by omega,λi h j u=>by omega⟩
  case round=>
   obtain⟨f,o,rfl,rfl,E,DT,EX,FA,p⟩:=hrel;by_cases EY:f+o<=Z l
   .obtain⟨g,A1,EK,M⟩:=D (f+o-1) (by omega);(have CC:((f+o-1:Nat):Int)=(f:Int)+(o:Int)-1:=by omega);(have FB:((f:Int)+(o:Int)-1).toNat=f+o-1:=by omega);subst A1;have B9:lO (Fh l[f+o-1] x=j1->∀i (h:i<Z l),k<=i->i<f+o->Fh l[i] x=j1):=by
     intro n i h j u;exact r.down FE (by omega) (by omega) n
    have B2:lO (Fh l[f+o-1] x=K->∀i (h:i<Z l),f+o-1<=i->Fh l[i] x=K):=by
     intro n i h j;exact r.up FE h j n
    go_wp2
    .refine⟨⟨f+o,o*2,by go_num,by go_num,by omega,by omega,by omega,by omega,B9 (by first|assumption|(simp[Fh];omega))⟩,?_⟩;simp[intOf];omega
    ·
     have t:lO (∀i (h:i<Z l),(f+o-1)<=i->Fh l[i] x=K):=B2 (by first|assumption|(simp[Fh];omega))
     go_loop [7,9,10] (λa h m=>∃(b d:Nat),a=X J b/\h=X J d/\k<=b/\b<=d/\d<=Z l/\lO (∀i (h:i<Z l),k<=i->i<b->Fh l[i] x=j1)/\lO (∀i (h:i<Z l),d<=i->Fh l[i] x=K)) (λa h m=>(intOf h).toNat-(intOf a).toNat)
     case atStart=>exact⟨f,(f+o-1),rfl,by go_num,E,by omega,by omega,p,t⟩
     case round=>
      clear p t;obtain⟨b,d,rfl,rfl,j,u,B,p,q⟩:=hrel;by_cases G:b<d
      .obtain⟨c,AT⟩:∃c,b+(d-b)/2=c:=⟨_,rfl⟩;(have N:b<=c:=by omega);(have P:c<d:=by omega);(have A:(b:Int)+((d:Int)-(b:Int))/2=(c:Int):=by omega);(have Q:(b:Int)+((d:Int)-(b:Int)).tdiv 2=(c:Int):=by rw[jR (by omega)];exact A);obtain⟨L,v,W,R⟩:=D c (by omega);have y:lO (Fh l[c] x=j1->∀i (h:i<Z l),k<=i->i<c+1->Fh l[i] x=j1):=by
        intro n i h j u;exact r.down FE (by omega) (by omega) n
       have z:lO (Fh l[c] x=K->∀i (h:i<Z l),c<=i->Fh l[i] x=K):=by
        intro n i h j;exact r.up FE h j n
       simp only[gT,iL,and_true]at v;subst v;go_wp2
       .refine⟨⟨c+1,d,by go_num,rfl,by omega,by omega,B,y (by first|assumption|(simp[Fh];omega)),q⟩,?_⟩;simp[intOf];omega
       .refine⟨⟨b,c,rfl,by go_num,j,by omega,by omega,p,z (by first|assumption|(simp[Fh];omega))⟩,?_⟩;simp[intOf];omega
      .have C:lO (C0 Fh l k x b):=⟨j,by omega,p,λi h n=>q i h (by omega)⟩;go_wp2;go_ret;exact⟨b,rfl,C,rfl⟩
   .go_wp2
    ·
     have t:lO (∀i (h:i<Z l),Z l<=i->Fh l[i] x=K):=λi h n=>by omega
     go_loop [7,9,10] (λa h m=>∃(b d:Nat),a=X J b/\h=X J d/\k<=b/\b<=d/\d<=Z l/\lO (∀i (h:i<Z l),k<=i->i<b->Fh l[i] x=j1)/\lO (∀i (h:i<Z l),d<=i->Fh l[i] x=K)) (λa h m=>(intOf h).toNat-(intOf a).toNat)
     case atStart=>exact⟨f,Z l,rfl,by go_num,E,by omega,by omega,p,t⟩
     case round=>
      clear p t;obtain⟨b,d,rfl,rfl,j,u,B,p,q⟩:=hrel;by_cases G:b<d
      .obtain⟨c,AT⟩:∃c,b+(d-b)/2=c:=⟨_,rfl⟩;(have N:b<=c:=by omega);(have P:c<d:=by omega);(have A:(b:Int)+((d:Int)-(b:Int))/2=(c:Int):=by omega);(have Q:(b:Int)+((d:Int)-(b:Int)).tdiv 2=(c:Int):=by rw[jR (by omega)];exact A);obtain⟨L,v,W,R⟩:=D c (by omega);have y:lO (Fh l[c] x=j1->∀i (h:i<Z l),k<=i->i<c+1->Fh l[i] x=j1):=by
        intro n i h j u;exact r.down FE (by omega) (by omega) n
       have z:lO (Fh l[c] x=K->∀i (h:i<Z l),c<=i->Fh l[i] x=K):=by
        intro n i h j;exact r.up FE h j n
       subst v;go_wp2
       .refine⟨⟨c+1,d,by go_num,rfl,by omega,by omega,B,y (by first|assumption|(simp[Fh];omega)),q⟩,?_⟩;simp[intOf];omega
       .refine⟨⟨b,c,rfl,by go_num,j,by omega,by omega,p,z (by first|assumption|(simp[Fh];omega))⟩,?_⟩;simp[intOf];omega
      .have C:lO (C0 Fh l k x b):=⟨j,by omega,p,λi h n=>q i h (by omega)⟩;go_wp2;go_ret;exact⟨b,rfl,C,rfl⟩
    all_goals
     have t:lO (∀i (h:i<Z l),(f+o-1)<=i->Fh l[i] x=K):=λi h n=>by omega
     go_loop [7,9,10] (λa h m=>∃(b d:Nat),a=X J b/\h=X J d/\k<=b/\b<=d/\d<=Z l/\lO (∀i (h:i<Z l),k<=i->i<b->Fh l[i] x=j1)/\lO (∀i (h:i<Z l),d<=i->Fh l[i] x=K)) (λa h m=>(intOf h).toNat-(intOf a).toNat)
     case atStart=>exact⟨f,(f+o-1),rfl,by go_num,E,by omega,by omega,p,t⟩
     case round=>
      clear p t;obtain⟨b,d,rfl,rfl,j,u,B,p,q⟩:=hrel;by_cases G:b<d
      .obtain⟨c,AT⟩:∃c,b+(d-b)/2=c:=⟨_,rfl⟩;(have N:b<=c:=by omega);(have P:c<d:=by omega);(have A:(b:Int)+((d:Int)-(b:Int))/2=(c:Int):=by omega);(have Q:(b:Int)+((d:Int)-(b:Int)).tdiv 2=(c:Int):=by rw[jR (by omega)];exact A);obtain⟨L,v,W,R⟩:=D c (by omega);have y:lO (Fh l[c] x=j1->∀i (h:i<Z l),k<=i->i<c+1->Fh l[i] x=j1):=by
        intro n i h j u;exact r.down FE (by omega) (by omega) n
       have z:lO (Fh l[c] x=K->∀i (h:i<Z l),c<=i->Fh l[i] x=K):=by
        intro n i h j;exact r.up FE h j n
       subst v;go_wp2
       .refine⟨⟨c+1,d,by go_num,rfl,by omega,by omega,B,y (by first|assumption|(simp[Fh];omega)),q⟩,?_⟩;simp[intOf];omega
       .refine⟨⟨b,c,rfl,by go_num,j,by omega,by omega,p,z (by first|assumption|(simp[Fh];omega))⟩,?_⟩;simp[intOf];omega
      .have C:lO (C0 Fh l k x b):=⟨j,by omega,p,λi h n=>q i h (by omega)⟩;go_wp2;go_ret;exact⟨b,rfl,C,rfl⟩
def Rx(a:lN)(l:mc zA)(k:Nat)(x:zA)(base:Nat)(w:l9)(f:lQ w base 9 1 a (Z l) (l.flatMap Ah))(h:Z l<=1000000)(c:k<=Z l)(g:CE Fh l):
  Calls prog 165 #[a,X J k,O x] w λe d=>∃b:Nat,e=lo (X J b)/\C0 Fh l k x b/\d=w:=
 Ru (lx ⟨rfl,rfl⟩) a l k x base w f h c g
def AP(x:Int):mc lN:=[X .i32 x]
theorem Ry(lv:lN)(l:mc Int)(k:Nat)(x:Int)(base:Nat)(w:l9)(Q:lQ w base 21 1 lv (Z l) (l.flatMap AP))(DT:Z l<=1000000)(hk:k<=Z l)(R:CE NT l):
  Calls prog 219 #[lv,X J k,X .i32 x] w λe w'=>∃G:Nat,e=lo (X J G)/\C0 NT l k x G/\w'=w:=by
 obtain⟨ad,Bx,rfl⟩:=Al Q;have r:=Ab R;have D:lO (∀i (h:i<Z l),∃g,ad=V ⟨g,0,Y⟩/\Z l<=Bx/\w.cell? ⟨g,i,Y⟩=V (X .i32 l[i])):=by
  intro i T;obtain⟨g,B9,W,hc,BA⟩:=AF Q (by simp[AP]) i T;simp only[gM]at W;obtain⟨rfl,_,rfl⟩:=W;have H:=BA i T 0 (by omega);simp[AP]at H;exact⟨g,rfl,hc,H⟩
 clear R;go_enter func219,ntmps219;go_wp2
 go_loop [7,8] (λa s=>∃(f o:Nat),a=X J f/\s=X J o/\k<=f/\f<=Z l/\1<=o/\o<=2*Z l+1/\lO (∀i (h:i<Z l),k<=i->i<f->NT l[i] x=j1)) (λa s=>Z l-(intOf a).toNat)
 case atStart=>exact⟨k,1,by go_num,rfl,ig _,hk,ig _,by omega,λi h j u=>by omega⟩
 case round=>
  obtain⟨f,o,rfl,rfl,E,CC,EK,EX,p⟩:=hrel;by_cases EM:f+o<=Z l
  .obtain⟨g,A0,CL,hc⟩:=D (f+o-1) (by omega);(have B2:((f+o-1:Nat):Int)=(f:Int)+(o:Int)-1:=by omega);(have EY:((f:Int)+(o:Int)-1).toNat=f+o-1:=by omega);subst A0;have B0:lO (NT l[f+o-1] x=j1->∀i (h:i<Z l),k<=i->i<f+o->NT l[i] x=j1):=by
    intro n i h j u;exact r.down QS (by omega) (by omega) n
   have BT:lO (NT l[f+o-1] x=K->∀i (h:i<Z l),f+o-1<=i->NT l[i] x=K):=by
    intro n i h j;exact r.up QS h j n
   go_wp2
   .refine⟨⟨f+o,o*2,by go_num,by go_num,by omega,by omega,by omega,by omega,B0 (by first|assumption|(simp[NT];omega))⟩,?_⟩;simp[intOf];omega
   ·
    have t:lO (∀i (h:i<Z l),(f+o-1)<=i->NT l[i] x=K):=BT (by first|assumption|(simp[NT];omega))
    go_loop [7,9,10] (λa h m=>∃(b d:Nat),a=X J b/\h=X J d/\k<=b/\b<=d/\d<=Z l/\lO (∀i (h:i<Z l),k<=i->i<b->NT l[i] x=j1)/\lO (∀i (h:i<Z l),d<=i->NT l[i] x=K)) (λa h m=>(intOf h).toNat-(intOf a).toNat)
    case atStart=>exact⟨f,(f+o-1),rfl,by go_num,E,by omega,by omega,p,t⟩
    case round=>
     clear p t;obtain⟨b,d,rfl,rfl,j,u,B,p,q⟩:=hrel;by_cases F:b<d
     .obtain⟨c,Ax⟩:∃c,b+(d-b)/2=c:=⟨_,rfl⟩;(have L:b<=c:=by omega);(have M:c<d:=by omega);(have A:(b:Int)+((d:Int)-(b:Int))/2=(c:Int):=by omega);(have N:(b:Int)+((d:Int)-(b:Int)).tdiv 2=(c:Int):=by rw[jR (by omega)];exact A);obtain⟨I,v,S,P⟩:=D c (by omega);have y:lO (NT l[c] x=j1->∀i (h:i<Z l),k<=i->i<c+1->NT l[i] x=j1):=by
       intro n i h j u;exact r.down QS (by omega) (by omega) n
      have z:lO (NT l[c] x=K->∀i (h:i<Z l),c<=i->NT l[i] x=K):=by
       intro n i h j;exact r.up QS h j n
      simp only[gT,iL,and_true]at v;subst v;go_wp2
      .refine⟨⟨c+1,d,by go_num,rfl,by omega,by omega,B,y (by first|assumption|(simp[NT];omega)),q⟩,?_⟩;simp[intOf];omega
      .refine⟨⟨b,c,rfl,by go_num,j,by omega,by omega,p,z (by first|assumption|(simp[NT];omega))⟩,?_⟩;simp[intOf];omega
     .have C:lO (C0 NT l k x b):=⟨j,by omega,p,λi h n=>q i h (by omega)⟩;go_wp2;go_ret;exact⟨b,rfl,C,rfl⟩
  .go_wp2
   ·
    have t:lO (∀i (h:i<Z l),Z l<=i->NT l[i] x=K):=λi h n=>by omega
    go_loop [7,9,10] (λa h m=>∃(b d:Nat),a=X J b/\h=X J d/\k<=b/\b<=d/\d<=Z l/\lO (∀i (h:i<Z l),k<=i->i<b->NT l[i] x=j1)/\lO (∀i (h:i<Z l),d<=i->NT l[i] x=K)) (λa h m=>(intOf h).toNat-(intOf a).toNat)
    case atStart=>exact⟨f,Z l,rfl,by go_num,E,by omega,by omega,p,t⟩
    case round=>
     clear p t;obtain⟨b,d,rfl,rfl,j,u,B,p,q⟩:=hrel;by_cases F:b<d
     .obtain⟨c,Ax⟩:∃c,b+(d-b)/2=c:=⟨_,rfl⟩;(have L:b<=c:=by omega);(have M:c<d:=by omega);(have A:(b:Int)+((d:Int)-(b:Int))/2=(c:Int):=by omega);(have N:(b:Int)+((d:Int)-(b:Int)).tdiv 2=(c:Int):=by rw[jR (by omega)];exact A);obtain⟨I,v,S,P⟩:=D c (by omega);have y:lO (NT l[c] x=j1->∀i (h:i<Z l),k<=i->i<c+1->NT l[i] x=j1):=by
       intro n i h j u;exact r.down QS (by omega) (by omega) n
      have z:lO (NT l[c] x=K->∀i (h:i<Z l),c<=i->NT l[i] x=K):=by
       intro n i h j;exact r.up QS h j n
      subst v;go_wp2
      .refine⟨⟨c+1,d,by go_num,rfl,by omega,by omega,B,y (by first|assumption|(simp[NT];omega)),q⟩,?_⟩;simp[intOf];omega
      .refine⟨⟨b,c,rfl,by go_num,j,by omega,by omega,p,z (by first|assumption|(simp[NT];omega))⟩,?_⟩;simp[intOf];omega
     .have C:lO (C0 NT l k x b):=⟨j,by omega,p,λi h n=>q i h (by omega)⟩;go_wp2;go_ret;exact⟨b,rfl,C,rfl⟩
   ·
    have t:lO (∀i (h:i<Z l),(f+o-1)<=i->NT l[i] x=K):=λi h n=>by omega
    go_loop [7,9,10] (λa h m=>∃(b d:Nat),a=X J b/\h=X J d/\k<=b/\b<=d/\d<=Z l/\lO (∀i (h:i<Z l),k<=i->i<b->NT l[i] x=j1)/\lO (∀i (h:i<Z l),d<=i->NT l[i] x=K)) (λa h m=>(intOf h).toNat-(intOf a).toNat)
    case atStart=>exact⟨f,(f+o-1),rfl,by go_num,E,by omega,by omega,p,t⟩
    case round=>
     clear p t;obtain⟨b,d,rfl,rfl,j,u,B,p,q⟩:=hrel;by_cases F:b<d
     .obtain⟨c,Ax⟩:∃c,b+(d-b)/2=c:=⟨_,rfl⟩;(have L:b<=c:=by omega);(have M:c<d:=by omega);(have A:(b:Int)+((d:Int)-(b:Int))/2=(c:Int):=by omega);(have N:(b:Int)+((d:Int)-(b:Int)).tdiv 2=(c:Int):=by rw[jR (by omega)];exact A);obtain⟨I,v,S,P⟩:=D c (by omega);have y:lO (NT l[c] x=j1->∀i (h:i<Z l),k<=i->i<c+1->NT l[i] x=j1):=by
       intro n i h j u;exact r.down QS (by omega) (by omega) n
      have z:lO (NT l[c] x=K->∀i (h:i<Z l),c<=i->NT l[i] x=K):=by
       intro n i h j;exact r.up QS h j n
      subst v;go_wp2
      .refine⟨⟨c+1,d,by go_num,rfl,by omega,by omega,B,y (by first|assumption|(simp[NT];omega)),q⟩,?_⟩;simp[intOf];omega
      .refine⟨⟨b,c,rfl,by go_num,j,by omega,by omega,p,z (by first|assumption|(simp[NT];omega))⟩,?_⟩;simp[intOf];omega
     .have C:lO (C0 NT l k x b):=⟨j,by omega,p,λi h n=>q i h (by omega)⟩;go_wp2;go_ret;exact⟨b,rfl,C,rfl⟩
end Go.Proofs.YtoihbhenbmffcaaGreatDoor
namespace Go.Proofs.YtoihbhenbmffcaaGreatDoor
open Go.RowKit Go.Proofs.Tryz
section
variable {α:Type} {lt eq:α->α->Bool}
def BJ(ls:mc (mc α))(i:Nat):mc α:=ls.getD i []
def EP{ls:mc (mc α)}{i:Nat}(h:i<Z ls):BJ ls i∈ls:=by
 unfold BJ;rw[ia,gS h];exact gL h
def aC{ls:mc (mc α)}{l:mc α}(h:l∈ls):∃i,i<Z ls/\BJ ls i=l:=by
 obtain⟨i,a,e⟩:=iF h;refine⟨i,a,?_⟩;unfold BJ;rw[ia,gS a];exact e
def JI(ls:mc (mc α))(y:α):Prop:=∀l∈ls,y∈l
def E7(k t:Nat):Nat:=if t+1=k then 0 else t+1
def aD{k t:Nat}(h:t<k):(t+1)%k=E7 k t:=by
 unfold E7;split
 .rename_i e;rw[e,Nat.mod_self]
 .exact Nat.mod_eq_of_lt (by omega)
def Tt{k t:Nat}(h:t<k):E7 k t<k:=by
 unfold E7;split<;>omega
def Mw(k t ag i:Nat):Prop:=(ag<=t/\t-ag<=i/\i<t)\/(t<ag/\(i<t\/t+k-ag<=i))
def bR{k t a i:Nat}(c:t<k)(b:a<k)(d:i<k)(h:Mw k (E7 k t) (a+1) i):Mw k t a i\/i=t:=by
 unfold Mw E7 at h;unfold Mw;split at h<;>omega
def dl{k t a i:Nat}(c:t<k)(b:a+1=k)(d:i<k):Mw k t a i\/i=t:=by
 unfold Mw;omega
def Qp{k t i:Nat}:¬Mw k t 0 i:=by
 unfold Mw;omega
def eX(lt:α->α->Bool)(s:α)(l:mc α):Nat:=l.countP λy=> !lt y s
def Tx(lt:α->α->Bool)(s:α)(ls:mc (mc α)):Nat:=(ls.map (eX lt s)).sum
def XA(o:N5 lt eq){s a:α}(h:lt s a=j1)(l:mc α):eX lt a l<=eX lt s l:=by
 unfold eX;refine List.countP_mono_left (λy _ b=>?_);cases hh:lt y s with
 |false=>rfl
 |true=>rw[o.trans _ _ _ hh h]at b;cases b
def cQ(o:N5 lt eq){s a:α}(h:lt s a=j1):∀{l:mc α},s∈l->eX lt a l<eX lt s l
 |x::l,b=>by
  have e:∀z,eX lt z (x::l)=eX lt z l+(if(!lt x z)=j1 then 1 else 0):=λz=>by unfold eX;rw[List.countP_cons]
  rw[e,e];have d:=XA o h l;rcases gP.1 b with rfl|b
  .rw[h,o.irr];simp;omega
  .have c:=cQ o h b;cases hx:lt x s with
   |true=>rw[o.trans _ _ _ hx h];simp;omega
   |false=>
    cases lt x a<;>simp<;>omega
def cU(o:N5 lt eq){s b:α}(h:lt s b=j1):∀(a:mc (mc α)),Tx lt b a<=Tx lt s a
 |[]=>ig _
 |l::a=>by
  have e:∀z,Tx lt z (l::a)=eX lt z l+Tx lt z a:=λz=>by unfold Tx;simp
  rw[e,e];have:=XA o h l;have:=cU o h a;omega
def XB(o:N5 lt eq){s d:α}(h:lt s d=j1):∀{a:mc (mc α)},(∃l∈a,s∈l)->Tx lt d a<Tx lt s a
 |l::a,b=>by
  have e:∀z,Tx lt z (l::a)=eX lt z l+Tx lt z a:=λz=>by unfold Tx;simp
  rw[e,e];obtain⟨q,c,b⟩:=b;have g:=cU o h a;have f:=XA o h l;rcases gP.1 c with rfl|c
  .have:=cQ o h b;omega
  .have:=XB o h ⟨q,c,b⟩;omega
def XQ(p:Nat->Nat)(t v:Nat):Nat->Nat:=λi=>if i=t then v else p i
structure OC(lt:α->α->Bool)(ls:mc (mc α))(t:Nat)(s:α)(ag:Nat)(p:Nat->Nat)(m:mc α):Prop where
 tk:t<Z ls
 agk:ag<Z ls
 win:∀i,i<Z ls->Mw (Z ls) t ag i->s∈BJ ls i
 ple:∀i,i<Z ls->p i<=Z (BJ ls i)
 below:∀i,i<Z ls->∀j (h:j<Z (BJ ls i)),j<p i->lt (BJ ls i)[j] s=j1
 src:∃l∈ls,s∈l
 sound:∀y∈m,JI ls y
 low:∀y∈m,lt y s=j1
 zL:m.Pairwise λa b=>lt a b=j1
 zm:∀y,JI ls y->y∈m\/lt y s=K
structure RJ(lt:α->α->Bool)(ls:mc (mc α))(t:Nat)(s:α)(ag at_:Nat)(p:Nat->Nat)(m:mc α):Prop where
 tk:t<Z ls
 agk:ag<Z ls
 zY:at_<Z (BJ ls t)
 zn:(BJ ls t)[at_]=s
 win:∀i,i<Z ls->Mw (Z ls) t ag i\/i=t->s∈BJ ls i
 ple:∀i,i<Z ls->p i<=Z (BJ ls i)
 below:∀i,i<Z ls->∀j (h:j<Z (BJ ls i)),j<p i->lt (BJ ls i)[j] s=j1
 here:∀j (h:j<Z (BJ ls t)),j<at_->lt (BJ ls t)[j] s=j1
 sound:∀y∈m,JI ls y
 low:∀y∈m,lt y s=j1
 zL:m.Pairwise λa b=>lt a b=j1
 zm:∀y,JI ls y->y∈m\/lt y s=K
variable {ls:mc (mc α)} {t:Nat} {s:α} {ag:Nat} {p:Nat->Nat} {m:mc α}
def CE.zw(o:N5 lt eq){l:mc α}(d:CE lt l){i:Nat}(g:i<Z l){y:α}(b:y∈l)(h:∀j (a:j<Z l),j<i->l[j]≠y):lt y l[i]=K:=by
 obtain⟨j,a,e⟩:=iF b;have f:i<=j:=by
  by_cases c:j<i
  .exact absurd e (h j a c)
  .omega
 rw[<-e];exact d.up o a f (o.irr _)
def OC.start(o:N5 lt eq)(b:0<Z ls)(f:CE lt (BJ ls 0))(c:0<Z (BJ ls 0)):OC lt ls 0 (BJ ls 0)[0] 0 (λ_=>0) []:=by
 refine⟨b,b,λi k d=>absurd d Qp,λi _=>ik _,λi _ j h e=>by omega,⟨_,EP b,gL c⟩,λy a=>by simp at a,λy a=>by simp at a,List.Pairwise.nil,λy a=>ly ?_⟩;exact f.zw o c (a _ (EP b)) (λj e g=>by omega)
def OC.before(h:OC lt ls t s ag p m){at_:Nat}(c:C0 lt (BJ ls t) (p t) s at_):∀j (a:j<Z (BJ ls t)),j<at_->lt (BJ ls t)[j] s=j1:=by
 intro j a d;by_cases b:j<p t
 .exact h.below t h.tk j a b
 .exact c.below j a (by omega) d
def OC.done(h:OC lt ls t s ag p m){at_:Nat}(d:C0 lt (BJ ls t) (p t) s at_)(f:at_=Z (BJ ls t)):∀y,y∈m↔JI ls y:=by
 intro y;refine⟨h.sound y,λb=>?_⟩;rcases h.zm y b with a|a
 .exact a
 .obtain⟨j,c,e⟩:=iF (b _ (EP h.tk));have:=h.before d j c (by omega);rw[e,a]at this;cases this
def OC.same(h:OC lt ls t s ag p m){at_:Nat}(d:C0 lt (BJ ls t) (p t) s at_)(b:at_<Z (BJ ls t))(c:(BJ ls t)[at_]=s):RJ lt ls t s ag at_ p m:=by
 refine⟨h.tk,h.agk,b,c,λi e a=>?_,h.ple,h.below,h.before d,h.sound,h.low,h.zL,h.zm⟩;rcases a with a|rfl
 .exact h.win i e a
 .rw[<-c];exact gL b
def OC.past(o:N5 lt eq)(r:CE lt (BJ ls t))(h:OC lt ls t s ag p m){at_:Nat}(k:C0 lt (BJ ls t) (p t) s at_)(d:at_<Z (BJ ls t))(q:(BJ ls t)[at_]≠s):RJ lt ls t (BJ ls t)[at_] 0 at_ p m/\Tx lt (BJ ls t)[at_] ls<Tx lt s ls:=by
 have c:lt s (BJ ls t)[at_]=j1:=by
  refine o.tot _ _ (k.zl at_ d (ig _)) ?_;cases hq:eq (BJ ls t)[at_] s with
  |false=>rfl
  |true=>exact absurd ((o.eqv _ _).1 hq) q
 refine⟨⟨h.tk,by have:=h.tk;omega,d,rfl,λi n g=>?_,h.ple,λi n j b a=>o.trans _ _ _ (h.below i n j b a) c,λj b a=>o.trans _ _ _ (h.before k j b a) c,h.sound,λy f=>o.trans _ _ _ (h.low y f) c,h.zL,λy f=>?_⟩,XB o c h.src⟩
 .rcases g with g|rfl
  .exact absurd g Qp
  .exact gL d
 .rcases h.zm y f with l|l
  .exact lx l
  .right;refine r.zw o d (f _ (EP h.tk)) (λj b a e=>?_);have:=h.before k j b a;rw[e,l]at this;cases this
def Ss(a:∀i,i<Z ls->p i<=Z (BJ ls i)){v:Nat}(b:v<=Z (BJ ls t)):∀i,i<Z ls->XQ p t v i<=Z (BJ ls i):=by
 intro i c;unfold XQ;split
 .rename_i e;rw[e];exact b
 .exact a i c
variable {at_:Nat}
def RJ.next(h:RJ lt ls t s ag at_ p m)(f:ag+1<Z ls):OC lt ls (E7 (Z ls) t) s (ag+1) (XQ p t at_) m:=by
 refine⟨Tt h.tk,f,λi b d=>h.win i b (bR h.tk h.agk b d),Ss h.ple (Nat.le_of_lt h.zY),λi b j c a=>?_,⟨_,EP h.tk,h.win t h.tk (ly rfl)⟩,h.sound,h.low,h.zL,h.zm⟩;unfold XQ at a;split at a
 .rename_i e;subst e;exact h.here j c a
 .exact h.below i b j c a
def RJ.common(h:RJ lt ls t s ag at_ p m)(b:ag+1=Z ls):JI ls s:=by
 intro l c;obtain⟨i,a,rfl⟩:=aC c;exact h.win i a (dl h.tk b a)
def RJ.yO(h:RJ lt ls t s ag at_ p m)(e:ag+1=Z ls):(∀y∈m++[s],JI ls y)/\(m++[s]).Pairwise (λa b=>lt a b=j1):=by
 refine⟨λy c=>?_,?_⟩
 .rcases ic.1 c with c|c
  .exact h.sound y c
  .rw[gN]at c;subst c;exact h.common e
 .rw[kY];refine⟨h.zL,by simp,λa f b d=>?_⟩;rw[gN]at d;subst d;exact h.low a f
def RJ.last(o:N5 lt eq)(k:CE lt (BJ ls t))(h:RJ lt ls t s ag at_ p m)(g:ag+1=Z ls)(i:at_+1=Z (BJ ls t)):∀y,y∈m++[s]↔JI ls y:=by
 intro y;refine⟨(h.yO g).1 y,λb=>?_⟩;rw[ic,gN];rcases h.zm y b with a|a
 .exact lx a
 .right;obtain⟨j,f,e⟩:=iF (b _ (EP h.tk));by_cases d:j<at_
  .have:=h.here j f d;rw[e,a]at this;cases this
  ·(have c:j=at_:=by omega);subst c;rw[<-e];exact h.zn
def RJ.more(o:N5 lt eq)(q:CE lt (BJ ls t))(h:RJ lt ls t s ag at_ p m)(n:ag+1=Z ls)(f:at_+1<Z (BJ ls t)):OC lt ls (E7 (Z ls) t) (BJ ls t)[at_+1] 0 (XQ p t (at_+1)) (m++[s])/\Tx lt (BJ ls t)[at_+1] ls<Tx lt s ls:=by
 have b:lt s (BJ ls t)[at_+1]=j1:=by
  have:=q at_ (at_+1) h.zY f (by omega);rw[h.zn]at this;exact this
 have w:0<Z ls:=by have:=h.tk;omega
 refine⟨⟨Tt h.tk,w,λi r v=>absurd v Qp,Ss h.ple (Nat.le_of_lt f),λi r j d c=>?_,⟨_,EP h.tk,gL f⟩,(h.yO n).1,λy a=>?_,(h.yO n).2,λy a=>?_⟩,XB o b ⟨_,EP h.tk,h.win t h.tk (ly rfl)⟩⟩
 .unfold XQ at c;split at c
  .rename_i e;subst e;by_cases g:j<at_
   .exact o.trans _ _ _ (h.here j d g) b
   ·(have l:j=at_:=by omega);subst l;rw[h.zn];exact b
  .exact o.trans _ _ _ (h.below i r j d c) b
 .rcases ic.1 a with a|a
  .exact o.trans _ _ _ (h.low y a) b
  .rw[gN]at a;subst a;exact b
 .rw[ic,gN];rcases h.zm y a with k|k
  .exact lx (lx k)
  .by_cases u:y=s
   .exact lx (ly u)
   .right;refine q.zw o f (a _ (EP h.tk)) (λj d c e=>?_);by_cases g:j<at_
    .have:=h.here j d g;rw[e,k]at this;cases this
    ·(have l:j=at_:=by omega);subst l;rw[h.zn]at e;exact u e.symm
end
end Go.Proofs.YtoihbhenbmffcaaGreatDoor
namespace Go.Proofs.YtoihbhenbmffcaaGreatDoor
open Go.RowKit Go.Proofs.Tryz
def RG(n:Nat):zA:=if n<10 then⟨#[UInt8.ofNat (48+n)]⟩else⟨#[49,UInt8.ofNat (38+n)]⟩
set_option maxRecDepth 100000
theorem YY(n:Nat)(c:n<12)(w:l9):Calls prog 209 #[X J n] w λe a=>e=lo (O (RG n))/\a=w:=by
 have b:n=0\/n=1\/n=2\/n=3\/n=4\/n=5\/n=6\/n=7\/n=8\/n=9\/n=10\/n=11:=by omega
 rcases b with rfl|rfl|rfl|rfl|rfl|rfl|rfl|rfl|rfl|rfl|rfl|rfl;all_goals
  go_enter func209,ntmps209;go_wp2;go_ret;exact⟨by first|rfl|decide|(simp[RG];trace_state),rfl⟩
set_option maxRecDepth 512
theorem QN(n:Nat)(d:n<12)(w:l9):Calls prog 183 #[X J n,X J 10] w λe b=>e=lo (O (RG n))/\b=w:=by
 have c:=Ab (YY n d w);have h:(0:Int)<=(n:Int):=by omega
 have g:(n:Int)<100:=by omega
 go_enter func183,ntmps183;go_wp2_with fail
 refine c.mono ?_;rintro e f ⟨rfl,a⟩;subst a;go_wp2;go_ret;exact⟨rfl,rfl⟩
theorem Y5(n:Nat)(d:n<12)(w:l9):Calls prog 147 #[X J n] w λe b=>e=lo (O (RG n))/\b=w:=by
 have c:=Ab (QN n d w);go_enter func147,ntmps147;go_wp2_with fail
 refine c.mono ?_;rintro e f ⟨rfl,a⟩;subst a;go_wp2;go_ret;exact⟨rfl,rfl⟩
theorem bL(n:Nat)(d:n<12)(w:l9):Calls prog 99 #[X J n] w λe b=>e=lo (O (RG n))/\b=w:=by
 have c:=Ab (Y5 n d w);go_enter func99,ntmps99;go_wp2_with fail
 refine c.mono ?_;rintro e f ⟨rfl,a⟩;subst a;go_wp2;go_ret;exact⟨rfl,rfl⟩
