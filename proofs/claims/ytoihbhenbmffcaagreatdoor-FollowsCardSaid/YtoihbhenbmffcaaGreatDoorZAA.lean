import Derived.WalkKit
import Derived.Deep.AppendLies
import Derived.Deep.QuietTactic
import Derived.BigQuiet
import Derived.Deep.LoopGhost
import Derived.Deep.MidRow
import Derived.Handy
import Derived.Test.YtoihbhenbmffcaaGreatDoorProg
set_option linter.unusedVariables false
set_option linter.unusedSimpArgs false
set_option maxHeartbeats 6400000
namespace Go.Proofs.YtoihbhenbmffcaaGreatDoor
open Go.RowKit
open Go.Proofs.Tryz
abbrev cL:=ByteArray
abbrev Z3:=@List.setIfInBounds_toArray
abbrev Z4:=@List.set_cons_zero
abbrev Z5:=@List.set_cons_succ
abbrev Z6:=@Go.Value.slice.injEq
abbrev Z7:=@List.getElem_mem
abbrev Z8:=@Bool.false_eq_true
abbrev Z9:=@List.take_of_length_le
abbrev ac:=@List.take_succ_eq_append_getElem
abbrev ae:=@List.mem_singleton
abbrev ah:=@Go.World.ownsRow.alloc
abbrev ai:=@Option.some.injEq
abbrev aj:=@List.mem_cons
abbrev ak:=@List.length_cons
abbrev am:=@List.length_append
abbrev aq:=@List.getD_eq_getElem?_getD
abbrev au:=@Nat.le_refl
abbrev aw:=@List.mem_append
abbrev ax:=@Go.World.ownsRow_nil
abbrev ay:=@Go.wpList_append_lies
abbrev az:=@List.mem_map
abbrev aA:=@List.getElem?_eq_getElem
abbrev aB:=@List.flatMap_cons
abbrev aC:=@List.drop_eq_getElem_cons
abbrev aD:=@List.length_map
abbrev aE:=@Go.bodyPost_ret
abbrev aF:=@Go.World.news_of_block
abbrev aG:=@Nat.zero_le
abbrev aH:=@List.length_nil
abbrev aI:=@List.map_cons
abbrev aJ:=@List.mem_filter
abbrev aK:=@List.length_take
abbrev aL:=@List.length_drop
abbrev aM:=@List.mem_map_of_mem
abbrev aN:=@List.flatMap_append
abbrev aO:=@Bool.and_eq_true
abbrev aP:=@Go.World.size_alloc
abbrev aQ:=@List.drop_eq_nil_of_le
abbrev aR:=@List.foldl_cons
abbrev aS:=@Go.heap_alloc_new
abbrev aU:=@ByteArray.size_append
abbrev aV:=@List.take_append_of_le_length
abbrev aW:=@Go.Addr.mk.injEq
abbrev aX:=@List.append_nil
abbrev aY:=@Prod.mk.injEq
abbrev aZ:=@List.getElem_of_mem
abbrev bc:=@beq_eq_false_iff_ne
abbrev be:=@List.mem_cons_of_mem
abbrev bf:=@Nat.zero_add
abbrev bg:=@Array.getElem?_eq_some_iff
abbrev bh:=@List.mem_flatMap
abbrev bi:=@Go.ByteArray.toList_eq
abbrev bj:=@Go.info_parts
abbrev bk:=@List.append_assoc
abbrev bm:=@List.map_append
abbrev bo:=@List.size_toArray
abbrev bq:=@List.flatMap_nil
abbrev bu:=@Go.Calls.quiet_of_same
abbrev bw:=@List.getElem?_take
abbrev bz:=@Except.ok.injEq
abbrev bA:=@Nat.mul_le_mul_right
abbrev bB:=@Go.Addr.add_lit
abbrev bC:=@List.mem_cons_self
abbrev bD:=@List.foldl_append
abbrev bE:=@List.not_mem_nil
abbrev bF:=@List.take_append_drop
abbrev bG:=@Bool.not_false
abbrev bH:=@Int.tdiv_eq_ediv_of_nonneg
abbrev bI:=@List.any_eq_true
abbrev bJ:=@Bool.eq_iff_iff
abbrev bK:=@Go.all_oneCell_toArray
abbrev bL:=@List.filter_cons
abbrev bM:=@Nat.le_trans
abbrev bN:=@Bool.or_eq_true
abbrev bO:=@List.length_filter_le
abbrev bP:=@List.mem_of_mem_drop
abbrev bQ:=@UInt8.toNat_inj
abbrev bR:=@List.pairwise_cons
abbrev bS:=@Go.World.ownsRow.kept
abbrev bT:=@List.map_congr_left
abbrev bU:=@List.nil_append
abbrev bV:=@List.pairwise_iff_getElem
abbrev bW:=@List.any_eq_false
abbrev bX:=@List.map_map
abbrev bY:=@Bool.false_ne_true
abbrev bZ:=@List.findIdx?_eq_some_iff_getElem
abbrev b8:=@beq_iff_eq
abbrev cc:=@List.length_replicate
abbrev cd:=@Go.IntKind.wrap_i64
abbrev ce:=@Nat.add_mul
abbrev cg:=@List.find?_eq_none
abbrev ci:=@List.getElem?_drop
abbrev cj:=@Go.run_copy_cells
abbrev ck:=@List.nodup_cons
abbrev cm:=@Go.wpList_load_mid
abbrev cn:=@Bool.true_and
abbrev cq:=@Go.wpList_store_mid
abbrev cu:=@List.getElem?_map
abbrev cw:=@List.pairwise_map
abbrev cA:=@List.Pairwise.imp_of_mem
abbrev cB:=@Nat.lt_of_lt_of_le
abbrev cC:=@List.length_set
abbrev cD:=@List.mem_filterMap
abbrev cE:=@List.filter_append
abbrev cF:=@Nat.min_def
abbrev cG:=@List.length_eq_zero_iff
abbrev cH:=@Go.decode_ascii
abbrev cI:=@List.all_eq_true
abbrev cJ:=@List.cons_append
abbrev cK:=@ByteArray.size_extract
abbrev cM:=@Option.mem_toList
abbrev cN:=@Bool.and_self
abbrev cO:=@decide_eq_true
abbrev cP:=@UInt8.le_iff_toNat_le
abbrev cQ:=@Option.map_some
abbrev cS:=@List.find?_cons
abbrev cT:=@List.mem_of_mem_take
abbrev cU:=@Bool.false_or
abbrev cV:=@Bool.not_true
abbrev cW:=@Bool.and_false
abbrev cX:=@Bool.false_and
abbrev cY:=@List.take_take
abbrev cZ:=@List.nodup_nil
abbrev da:=@Nat.min_eq_left
abbrev dd:=@List.take_succ_cons
abbrev de:=@Option.map_eq_some_iff
abbrev dg:=@Nat.lt_or_eq_of_le
abbrev dh:=@List.all_cons
abbrev di:=@List.getElem_take
abbrev dj:=@List.cons.injEq
abbrev dk:=@Bool.not_eq_true'
abbrev dl:=@Bool.true_or
abbrev dm:=@decide_eq_false_iff_not
abbrev dn:=@Go.run_firstCells_some
abbrev dp:=@Array.toList_append
abbrev dq:=@List.drop_succ_cons
abbrev dr:=@List.findSome?_cons
abbrev dt:=@List.toList_toArray
abbrev du:=@List.eq_nil_of_length_eq_zero
abbrev dv:=@List.take_length
abbrev dw:=@Go.grownCap_le_maxLen
abbrev dx:=@List.any_cons
abbrev dy:=@List.findSome?_eq_none_iff
abbrev dz:=@List.pairwise_append
abbrev dA:=@Bool.or_eq_false_iff
abbrev dB:=@Array.toArray_toList
abbrev dC:=@List.mem_append_left
abbrev dD:=@Array.replicate_succ
abbrev dE:=@Array.replicate_zero
abbrev dF:=@List.getElem?_eq_some_iff
abbrev dG:=@Go.step_append_lies
abbrev dH:=@Go.run_callFunc_extern
abbrev dI:=@List.append_toArray
abbrev dJ:=@Bool.or_true
abbrev dK:=@List.any_map
abbrev dL:=@List.zip_cons_cons
abbrev dM:=@decide_eq_false
abbrev dN:=@List.getElem_cons_zero
abbrev dO:=@List.getElem?_set_self
abbrev dP:=@List.filter_eq_nil_iff
abbrev dQ:=@Array.getElem?_eq_none
abbrev dR:=@List.getElem_drop
abbrev dS:=@decide_eq_true_eq
abbrev dU:=@List.find?_append
abbrev dV:=@List.push_toArray
abbrev dW:=@Go.wpIn_seq_k
abbrev dX:=@Go.growslice_fits
abbrev dY:=@List.take_zero
abbrev dZ:=@List.drop_zero
abbrev d9:=@Go.Sem.run_bind
abbrev ec:=@List.map_nil
abbrev ed:=@List.findSome?_append
abbrev ee:=@decide_false
abbrev eh:=@List.set_append_right
abbrev ei:=@ByteArray.data_append
abbrev ej:=@List.countP_le_length
abbrev el:=@List.singleton_append
abbrev eo:=@List.contains_iff_mem
abbrev ep:=@Go.results_none
abbrev eu:=@Bool.toNat_false
abbrev ev:=@List.map_flatMap
abbrev ex:=@List.any_append
abbrev ey:=@Go.decode_high
abbrev ez:=@Option.some.inj
abbrev eC:=@Nat.mul_one
abbrev eD:=@Nat.add_zero
abbrev eE:=@Bool.or_self
abbrev eF:=@List.map_set
structure Ac(M:List Nat)(w w':World):Prop where
 os:w'.os=w.os
 tape:w'.tape=w.tape
 output:w'.output=w.output
 size:w.heap.size<=w'.heap.size
 block:∀k,k<w.heap.size->k∉M->w'.heap[k]?=w.heap[k]?
theorem Ac.refl(M:List Nat)(w:World):Ac M w w:=⟨rfl,rfl,rfl,au _,λ_ _ _=>rfl⟩
theorem Ac.trans{M:List Nat}{a b c:World}(h:Ac M a b)(k:Ac M b c):Ac M a c:=
 ⟨k.os.trans h.os,k.tape.trans h.tape,k.output.trans h.output,bM h.size k.size,
  λi e d=>(k.block i (cB e h.size) d).trans (h.block i e d)⟩
theorem Ac.trans'{M N:List Nat}{a b c:World}(h:Ac M a b)(k:Ac N b c)(j:∀i,i∈N->i∈M\/a.heap.size<=i):Ac M a c:=
 ⟨k.os.trans h.os,k.tape.trans h.tape,k.output.trans h.output,bM h.size k.size,
  λi f d=>(k.block i (cB f h.size) (λg=>by rcases j i g with e|e;exact d e;omega)).trans (h.block i f d)⟩
theorem Ac.mono{M N:List Nat}{w w':World}(h:Ac M w w')(a:∀i,i∈M->i∈N):Ac N w w':=
 ⟨h.os,h.tape,h.output,h.size,λk c b=>h.block k c (λd=>b (a k d))⟩
theorem Ac.drew{M:List Nat}{a w:World}(h:Ac M a w):Ac M a w.drew:=⟨h.os,h.tape,h.output,h.size,h.block⟩
theorem Ac.drewN{M:List Nat}{a w:World}(h:Ac M a w)(n:Nat):Ac M a (w.drewN n):=⟨h.os,h.tape,h.output,h.size,h.block⟩
theorem Ac.alloc{M:List Nat}{a w:World}(h:Ac M a w)(o:Obj):Ac M a (w.alloc o):=
 h.trans ⟨rfl,rfl,rfl,by simp,λk b _=>Below.heap_alloc _ _ _ b⟩
theorem Ac.setCell{M:List Nat}{a w:World}(h:Ac M a w){p:Addr}(b:p.block∈M\/a.heap.size<=p.block)(u:Value):Ac M a (w.setCell p u):=
 h.trans' (N:=[p.block]) ⟨rfl,rfl,rfl,by simp[World.setCell],λk _ c=>Below.heap_setCell _ _ _ _ (by simpa using c)⟩ (by simpa using b)
theorem Ac.grown{M:List Nat}{a w w':World}{d:Option Nat}(h:Ac M a w)(b:w.grownBy w' d)(j:∀k,d=some k->k∈M\/a.heap.size<=k):Ac M a w':=
 ⟨b.os.trans h.os,b.tape.trans h.tape,b.output.trans h.output,bM h.size b.size,
  λi g c=>(b.block i (cB g h.size) (λe=>by rcases j i e.symm with f|f;exact c f;omega)).trans (h.block i g c)⟩
theorem Ac.below{w w':World}(h:Ac [] w w'):Below w.heap.size w w':=⟨h.os,h.tape,h.output,h.size,λk a=>h.block k a (by simp)⟩
def Aw(w:World)(b:Nat)(cs:List Value)(t:TypeId):Prop:=w.heap[b]?=some (.cells cs.toArray t (0,0))
theorem Aw.lt{w:World}{b:Nat}{cs:List Value}{t:TypeId}(h:Aw w b cs t):b<w.heap.size:=(bg.1 h).1
theorem Aw.cell{w:World}{b:Nat}{cs:List Value}{t:TypeId}(h:Aw w b cs t)(i:Nat):w.cell? ⟨b,i,none⟩=cs[i]?:=by
 unfold Aw at h;simp[World.cell?,h]
theorem Aw.frozen{w:World}{b:Nat}{cs:List Value}{t:TypeId}(h:Aw w b cs t)(i:Nat):w.frozen? ⟨b,i,none⟩=false:=by
 unfold Aw at h;simp[World.frozen?,h]
theorem Aw.set{w:World}{b:Nat}{cs:List Value}{t:TypeId}(h:Aw w b cs t)(i:Nat)(u:Value):Aw (w.setCell ⟨b,i,none⟩ u) b (cs.set i u) t:=by
 unfold Aw at*;simp[World.setCell,Array.getElem?_modify,h]
theorem Aw.set_other{w:World}{b:Nat}{cs:List Value}{t:TypeId}(h:Aw w b cs t)(p:Addr)(a:p.block≠b)(u:Value):Aw (w.setCell p u) b cs t:=by
 unfold Aw at*;rw[Below.heap_setCell _ _ _ _ (λe=>a e.symm)];exact h
theorem Aw.alloc{w:World}{b:Nat}{cs:List Value}{t:TypeId}(h:Aw w b cs t)(o:Obj):Aw (w.alloc o) b cs t:=by
 have:=h.lt;unfold Aw at*;rw[Below.heap_alloc _ _ _ this];exact h
theorem Aw.new(w:World)(cs:List Value)(t:TypeId):Aw (w.alloc (.cells cs.toArray t)) w.heap.size cs t:=by
 exact aS w _
theorem Aw.kept{M:List Nat}{w w':World}{b:Nat}{cs:List Value}{t:TypeId}(h:Aw w b cs t)(k:Ac M w w')(a:b∉M):Aw w' b cs t:=by
 have:=h.lt;unfold Aw at*;rw[k.block b this a];exact h
theorem Aw.drew{w:World}{b:Nat}{cs:List Value}{t:TypeId}(h:Aw w b cs t):Aw w.drew b cs t:=h
theorem Aw.drewN{w:World}{b:Nat}{cs:List Value}{t:TypeId}(h:Aw w b cs t)(n:Nat):Aw (w.drewN n) b cs t:=h
theorem Aw.range{w:World}{b:Nat}{cs:List Value}{t:TypeId}(h:Aw w b cs t):w.rangeAt b 0 cs:=λj v a=>by rw[bf,h.cell];exact a
theorem Aw.there{w:World}{b:Nat}{cs:List Value}{t:TypeId}(h:Aw w b cs t):w.there b 0 cs.length:=λj a=>by
 rw[bf,h.cell,h.frozen];simp[a]
theorem Ad{M:List Nat}{w w':World}{base:Nat}{e:TypeId}{size:Nat}{v:Value}{n:Nat}{a:List Value}(h:w.ownsRow base e size v n a)(k:Ac M w w')(d:∀i,i∈M->i<base):w'.ownsRow base e size v n a:=by
 refine⟨h.1,?_⟩;rcases h.2 with o|⟨g,f,c,rfl,j,b,l⟩
 ·exact .inl o
 ·refine .inr ⟨g,f,c,rfl,j,?_,l⟩;rw[k.block g (bg.1 b).1 (λm=>by have:=d g m;omega)];exact b
theorem Ar{M:List Nat}{w w':World}{base:Nat}{e:TypeId}{size:Nat}{v:Value}{n:Nat}{a:List Value}(h:w.ownsRow base e size v n a)(k:Ac M w w')(d:∀i,v.ownBlock=some i->i∉M):w'.ownsRow base e size v n a:=by
 refine⟨h.1,?_⟩;rcases h.2 with m|⟨g,f,c,rfl,j,b,l⟩
 ·exact .inl m
 ·refine .inr ⟨g,f,c,rfl,j,?_,l⟩;rw[k.block g (bg.1 b).1 (d g rfl)];exact b
theorem Ai{w:World}{base base':Nat}{e:TypeId}{size:Nat}{v:Value}{n:Nat}{a:List Value}(h:w.ownsRow base e size v n a)(i:base'<=base):w.ownsRow base' e size v n a:=by
 refine⟨h.1,?_⟩;rcases h.2 with f|⟨g,c,b,rfl,j,d⟩
 ·exact .inl f
 ·exact .inr ⟨g,c,b,rfl,by omega,d⟩
theorem F3{w:World}{base:Nat}{e:TypeId}{size:Nat}{v:Value}{n:Nat}{a:List Value}(h:w.ownsRow base e size v n a):w.drew.ownsRow base e size v n a:=h
theorem CT{w:World}{base:Nat}{e:TypeId}{size:Nat}{v:Value}{n:Nat}{a:List Value}(h:w.ownsRow base e size v n a)(k:Nat):(w.drewN k).ownsRow base e size v n a:=h
theorem Ag{w:World}{base:Nat}{e:TypeId}{size:Nat}{v:Value}{n:Nat}{b:List Value}(h:w.ownsRow base e size v n b){p:Addr}(c:v.ownBlock≠some p.block)(u:Value):(w.setCell p u).ownsRow base e size v n b:=
 Ar h ((Ac.refl [p.block] w).setCell (by simp) u) (λi d a=>c (by simp at a;rw[d,a]))
theorem AJ{w:World}{base:Nat}{e:TypeId}{size:Nat}{v:Value}{n:Nat}{a:List Value}(h:w.ownsRow base e size v n a)(k:Nat)(b:k<base):v.ownBlock≠some k:=λe=>by
 have:=(h.lt k e).1;omega
theorem Aw.grown{w w':World}{b:Nat}{cs:List Value}{t:TypeId}{a:Option Nat}(h:Aw w b cs t)(k:w.grownBy w' a)(c:a≠some b):Aw w' b cs t:=by
 have:=h.lt;unfold Aw at*;rw[k.block b this (λe=>c e.symm)];exact h
theorem AY{P:Program}{fn:Func}{p:Tmp}{a:TypeId}(h:fn.results=#[.cell p a]){tmps:Array Value}{w:World}{b:Nat}{cs:List Value}{t:TypeId}{d:TypeDesc}
  (e:tmps.getD p undef= .pointer (some ⟨b,0,none⟩)) (j:Aw w b cs t) (i:P.underlying a=some d) (c:d.isRow=true) (k:(P.info? a).map (·.size)=some cs.length):
  (results fn tmps).run P w= .ok (.agg cs.toArray) w:=by
 have g:=run_loadVar_mid (P:=P) w b 0 a cs d j.range i c k;have f:tmps[p]?.getD undef= .pointer (some ⟨b,0,none⟩):=by simpa using e
 simp only[results,h];simp[d9,Result.andThen,f,g,asAddr]
theorem AF{P:Program}{fn:Func}{p u:Tmp}{a:TypeId}(h:fn.results=#[.cell p a, .tmp u]){tmps:Array Value}{w:World}{b:Nat}{cs:List Value}{t:TypeId}{d:TypeDesc}
  (e:tmps.getD p undef= .pointer (some ⟨b,0,none⟩)) (i:Aw w b cs t) (g:P.underlying a=some d) (c:d.isRow=true) (j:(P.info? a).map (·.size)=some cs.length):
  (results fn tmps).run P w= .ok (.tuple #[.agg cs.toArray,tmps.getD u undef]) w:=by
 have f:=run_loadVar_mid (P:=P) w b 0 a cs d i.range g c j;rw[results_cell_tmp h];simp[d9,Result.andThen,e,f,asAddr]
theorem BI{w:World}{base:Nat}{e:TypeId}{size:Nat}{v:Value}{n:Nat}{b:List Value}(h:w.ownsRow base e size v n b):∃c a,v= .slice c n a:=by
 rcases h.2 with⟨rfl,rfl⟩|⟨g,a,d,rfl,_⟩
 ·exact⟨none,0,rfl⟩
 ·exact⟨_,a,rfl⟩
theorem Sv{α:Type}(f:α->List Value)(a:Nat):∀(l:List α),(∀x∈l,(f x).length=a)->∀(i:Nat) (b:i<l.length) (k:Nat),k<a->(l.flatMap f)[i*a+k]?=(f l[i])[k]?
 |[],_,i,b,_,_=>by simp at b
 |x::l,h,0,_,k,hk=>by
  have c:=h x (by simp);simp only[aB,Nat.zero_mul,bf,dN];rw[List.getElem?_append_left (by omega)]
 |x::l,h,i+1,b,k,hk=>by
  have c:=h x (by simp);have ih:=Sv f a l (λy d=>h y (by simp[d])) i (by simpa using b) k hk;simp only[aB,List.getElem_cons_succ];rw[List.getElem?_append_right (by rw[c,ce];omega),c,ce,Nat.one_mul,show i*a+a+k-a=i*a+k by omega];exact ih
theorem AE{α:Type}{f:α->List Value}{a:Nat}{w:World}{base:Nat}{e:TypeId}{v:Value}{l:List α}(h:w.ownsRow base e a v l.length (l.flatMap f))(m:∀x∈l,(f x).length=a)(i:Nat)(t:i<l.length):
  ∃g b,v= .slice (some ⟨g,0,none⟩) l.length b/\l.length<=b/\∀j (c:j<l.length) k,k<a->w.cell? ⟨g,j*a+k,none⟩=(f l[j])[k]?:=by
 rcases h.2 with⟨_,r⟩|⟨g,b,q,rfl,_,o,p,_,s,n⟩
 ·omega
 ·refine⟨g,b,rfl,p,λj c k d=>?_⟩;rw[<-Sv f a l m j c k d,<-n,bw,if_pos (by have:(j+1)*a<=l.length*a:=bA _ c;rw[ce]at this;omega)];simp[World.cell?,o]
theorem Ak{w:World}{base:Nat}{e:TypeId}{c n:Nat}{v:Value}{b:List Value}(h:w.ownsRow base e c v n b):∃d a,v= .slice d n a:=BI h
def Ae(x:cL):List Value:=[.string x]
theorem Ab{p:Prop}(h:p):Hid p:=h
theorem Aa{p:Prop}(h:Hid p):p:=h
theorem Tryz.info9:(Tryz.prog.info? 9).map (λi=>(i.zero,i.size,i.bytes))=some (some (.string ⟨#[]⟩),1,16):=by kernel_rfl
def AP(s:cL)(at_:Nat)(bad:Bool):List Value:=[.string s, .int .i64 at_, .bool bad]
def Av(c:UInt8):Bool:=97<=c&&c<=122
def D8(c:UInt8):Bool:=65<=c&&c<=90
def An(c:UInt8):Bool:=48<=c&&c<=57
def EJ(c:UInt8):Bool:=c==32||c==10
theorem Bb{a b:Bool}(h:a=b):Ending.returned (.bool a)= .returned (.bool b):=by rw[h]
theorem Y1{k:IntKind}{a b:Int}(h:a=b):Ending.returned (.int k a)= .returned (.int k b):=by rw[h]
theorem B1(n:Int)(c:UInt8)(w:World)(h:n=c.toNat):Calls prog 169 #[.int .u8 n] w λe a=>e= .returned (.bool (Av c))/\a=w:=by
 subst h;go_enter func169,ntmps169;go_wp2;all_goals go_ret
 all_goals refine⟨Bb ?_,rfl⟩
 all_goals (rw[bJ];simp[Av,cP];try omega)
theorem Lm(n:Int)(c:UInt8)(w:World)(h:n=c.toNat):Calls prog 170 #[.int .u8 n] w λe a=>e= .returned (.bool (D8 c))/\a=w:=by
 subst h;go_enter func170,ntmps170;go_wp2;all_goals go_ret
 all_goals refine⟨Bb ?_,rfl⟩
 all_goals (rw[bJ];simp[D8,cP];try omega)
theorem Cg(n:Int)(c:UInt8)(w:World)(h:n=c.toNat):Calls prog 55 #[.int .u8 n] w λe a=>e= .returned (.bool (An c))/\a=w:=by
 subst h;go_enter func55,ntmps55;go_wp2;all_goals go_ret
 all_goals refine⟨Bb ?_,rfl⟩
 all_goals (rw[bJ];simp[An,cP];try omega)
def Af(s:cL)(at_:Nat):Nat:=
 if h:at_<s.size then(if EJ s[at_] then Af s (at_+1)else at_)else at_
def As(s:cL)(at_:Nat)(bad:Bool):Nat:=if bad then at_ else Af s at_
theorem AN(s:cL)(at_:Nat)(h:at_<=s.size):Af s at_<=s.size:=by
 fun_induction Af s at_<;>omega
theorem Cr(s:cL)(at_:Nat):at_<=Af s at_:=by
 fun_induction Af s at_<;>omega
theorem I5(s:cL)(at_:Nat):As s at_ true=at_:=rfl
theorem Xf(s:cL)(at_:Nat)(h:¬at_<s.size)(a:Bool):As s at_ a=at_:=by
 unfold As;rw[Af];simp[h]
theorem Uk(s:cL)(at_:Nat)(h:at_<s.size)(a:EJ s[at_]=true):As s at_ false=As s (at_+1) false:=by
 unfold As;rw[Af];simp[h,a]
theorem SQ(s:cL)(at_:Nat)(h:at_<s.size)(a:EJ s[at_]=false):As s at_ false=at_:=by
 unfold As;rw[Af];simp[h,a]
theorem B8(c k:UInt8):((c.toNat:Int)==(k.toNat:Int))=(c==k):=by
 rw[bJ];simp only[b8];constructor
 ·intro h;exact bQ.1 (by omega)
 ·intro h;rw[h]
theorem Rc(c:UInt8):(((c.toNat:Int)==32)=true/\EJ c=true)\/(((c.toNat:Int)==32)=false/\((c.toNat:Int)==10)=true/\EJ c=true)\/
  (((c.toNat:Int)==32)=false/\((c.toNat:Int)==10)=false/\EJ c=false):=by
 have b:((c.toNat:Int)==32)=(c==32):=B8 c 32;have a:((c.toNat:Int)==10)=(c==10):=B8 c 10;rw[b,a];unfold EJ;cases(c==32)<;>cases(c==10)<;>simp
theorem A1(b:Nat)(s:cL)(at_:Nat)(a:Bool)(w:World)(J:s.size<=1000000)(C:at_<=s.size)(F:Aw w b (AP s at_ a) 73):
  Calls prog 43 #[.pointer (some ⟨b,0,none⟩)] w λe t=>e= .returned (.tuple #[])/\Aw t b (AP s (As s at_ a) a) 73/\Ac [b] w t:=by
 go_enter func43,ntmps43;go_wp2
 go_loopg [] (s.size-at_) (λk wr=>∃j:Nat,j<=s.size/\k=s.size-j/\As s j a=As s at_ a/\Aw wr b (AP s j a) 73/\Ac [b] w wr)
 case atStart=>exact⟨at_,C,rfl,rfl,F,Ac.refl _ _⟩
 case round=>
  obtain⟨j,K,x,v,d,f⟩:=hrel;have A:=d.cell 0;have G:=d.cell 1;have E:=d.cell 2;have L:=d.frozen 1;simp[AP]at A G E;have l:Hid (gk=s.size-j/\As s j a=As s at_ a):=⟨x,v⟩;clear x v;have z:As s j a=j->Aw wr b (AP s (As s at_ a) a) 73:=λh=>by rw[<-l.out.2,h];exact d
  have o:Hid (As s j a=j->Aw wr b (AP s (As s at_ a) a) 73):=z;clear z;cases a with
  |true=>
   go_wp2
   go_quiet (fail)
   go_wp2;go_end0;exact⟨rfl,o.out rfl,f.drewN _⟩
  |false=>
   by_cases m:j<s.size
   ·(have I:(j:Int)<(s.size:Int):=by omega);have u:Hid (EJ s[j]=true->∃c:Nat,c<=s.size/\s.size-(j+1)=s.size-c/\As s c false=As s at_ false/\∀n,Aw ((wr.drewN n).setCell ⟨b,1,none⟩ (.int .i64 (j+1))) b (AP s c false) 73/\Ac [b] w ((wr.drewN n).setCell ⟨b,1,none⟩ (.int .i64 (j+1)))):=by
     intro h;refine⟨j+1,by omega,rfl,?_,λn=>⟨?_,?_⟩⟩
     ·rw[<-l.out.2,Uk s j m h]
     ·exact(d.drewN n).set 1 _
     ·exact(f.drewN n).setCell (by simp) _
    rcases Rc s[j] with⟨y,g⟩|⟨y,B,g⟩|⟨y,B,g⟩
    ·clear d f;go_wp2
     go_quiet (fail)
     go_wp2
     go_roundg (s.size-(j+1))
     case measure=>have:=l.out.1;omega
     case rel=>
      obtain⟨c,q,r,p,i⟩:=u.out g;exact⟨c,q,r,p,(i _).1,(i _).2⟩
    ·clear d f;go_wp2
     go_quiet (fail)
     go_wp2
     go_roundg (s.size-(j+1))
     case measure=>have:=l.out.1;omega
     case rel=>
      obtain⟨c,q,r,p,i⟩:=u.out g;exact⟨c,q,r,p,(i _).1,(i _).2⟩
    ·have D:Hid (EJ s[j]=false):=g;clear g;go_wp2
     go_quiet (fail)
     go_wp2;go_end0;exact⟨rfl,o.out (SQ s j m D.out),f.drewN _⟩
   ·(have H:decide ((j:Int)<(s.size:Int))=false:=by simp;omega);go_wp2
    go_quiet (fail)
    go_wp2;go_end0;exact⟨rfl,o.out (Xf s j m _),f.drewN _⟩
def Cz(s:cL)(j:Nat)(c:UInt8):Bool:=if h:j<s.size then s[j]==c else false
theorem B2(s:cL)(at_:Nat)(a:Bool)(h:at_<=s.size):As s at_ a<=s.size:=by
 unfold As;split
 ·exact h
 ·exact AN s at_ h
theorem FG(b:Nat)(s:cL)(at_:Nat)(a:Bool)(n:Int)(c:UInt8)(w:World)(t:n=c.toNat)(r:s.size<=1000000)(l:at_<=s.size)(m:Aw w b (AP s at_ a) 73):
  Calls prog 128 #[.pointer (some ⟨b,0,none⟩), .int .u8 n] w λe i=>e= .returned (.bool (!a&&Cz s (As s at_ a) c))/\Aw i b (AP s (As s at_ a) a) 73/\Ac [b] w i:=by
 have u:=B2 s at_ a l;subst t;obtain⟨j,g⟩:∃j,As s at_ a=j:=⟨_,rfl⟩;rw[g]at u⊢;have k:Hid (As s at_ a=j):=g;clear g;go_enter func128,ntmps128;go_wp2_with fail
 refine(A1 b s at_ a _ r l m).mono ?_;rintro e y ⟨rfl,d,f⟩;rw[k.out]at d;clear m k;have o:=d.cell 0;have v:=d.cell 1;have p:=d.cell 2;simp[AP]at o v p;cases a with
 |true=>
  go_wp2
  go_quiet (fail)
  go_wp2;go_ret;exact⟨Bb (by simp),d.drewN _,f.drewN _⟩
 |false=>
  by_cases h:j<s.size
  ·(have z:(j:Int)<(s.size:Int):=by omega);have q:Hid (((s[j].toNat:Int)==(c.toNat:Int))=(!false&&Cz s j c)):=by
    show _=_;rw[B8];unfold Cz;simp[h]
   go_wp2
   go_quiet (fail)
   go_wp2;go_ret;exact⟨Bb q.out,d.drewN _,f.drewN _⟩
  ·(have x:decide ((j:Int)<(s.size:Int))=false:=by simp;omega);go_wp2
   go_quiet (fail)
   go_wp2;go_ret;exact⟨Bb (by unfold Cz;simp[h]),d.drewN _,f.drewN _⟩
def Bi(s:cL)(j:Nat)(bad:Bool)(c:UInt8):Nat:=if !bad&&Cz s (As s j bad) c then As s j bad+1 else As s j bad
theorem EL{s:cL}{j:Nat}{c:UInt8}(h:Cz s j c=true):j<s.size:=by
 unfold Cz at h;split at h
 ·assumption
 ·cases h
theorem Cy(s:cL)(at_:Nat)(b:Bool)(c:UInt8)(h:at_<=s.size):Bi s at_ b c<=s.size:=by
 unfold Bi;have:=B2 s at_ b h;split
 ·rename_i a;simp only[aO]at a;have:=EL a.2;omega
 ·exact this
theorem C0(b:Nat)(s:cL)(at_:Nat)(a:Bool)(n:Int)(c:UInt8)(w:World)(m:n=c.toNat)(t:s.size<=1000000)(p:at_<=s.size)(o:Aw w b (AP s at_ a) 73):
  Calls prog 80 #[.pointer (some ⟨b,0,none⟩), .int .u8 n] w λe k=>e= .returned (.bool (!a&&Cz s (As s at_ a) c))/\Aw k b (AP s (Bi s at_ a c) a) 73/\Ac [b] w k:=by
 have r:=B2 s at_ a p;unfold Bi;obtain⟨j,i⟩:∃j,As s at_ a=j:=⟨_,rfl⟩;rw[i]at r⊢;obtain⟨g,h⟩:∃g,(!a&&Cz s j c)=g:=⟨_,rfl⟩;rw[h];have f:Hid (As s at_ a=j/\(!a&&Cz s j c)=g/\n=c.toNat):=⟨i,h,m⟩;clear i h m;go_enter func80,ntmps80;go_wp2_with fail
 refine(FG b s at_ a n c _ f.out.2.2 t p o).mono ?_;rintro e v ⟨rfl,d,l⟩;rw[f.out.1,f.out.2.1];rw[f.out.1]at d;clear o f;have q:=d.cell 0;have u:=d.cell 1;have x:=d.frozen 1;simp[AP]at q u;cases g with
 |true=>
  go_wp2;go_ret;exact⟨Bb rfl,d.set 1 _,l.setCell (by simp) _⟩
 |false=>
  go_wp2;go_ret;exact⟨Bb rfl,d,l⟩
theorem Gx(b:Nat)(s:cL)(at_:Nat)(a:Bool)(n:Int)(c:UInt8)(w:World)(o:n=c.toNat)(v:s.size<=1000000)(x:at_<=s.size)(p:Aw w b (AP s at_ a) 73):
  Calls prog 82 #[.pointer (some ⟨b,0,none⟩), .int .u8 n] w λe l=>e= .returned (.tuple #[])/\Aw l b (AP s (Bi s at_ a c) (!(!a&&Cz s (As s at_ a) c))) 73/\Ac [b] w l:=by
 have q:Hid ((!a&&Cz s (As s at_ a) c)=true->a=false):=by intro h;cases a<;>simp_all
 obtain⟨j,k⟩:∃j,Bi s at_ a c=j:=⟨_,rfl⟩;obtain⟨i,f⟩:∃i,(!a&&Cz s (As s at_ a) c)=i:=⟨_,rfl⟩;rw[k,f];rw[f]at q;have g:Hid (Bi s at_ a c=j/\(!a&&Cz s (As s at_ a) c)=i/\n=c.toNat):=⟨k,f,o⟩;clear k f o;go_enter func82,ntmps82;go_wp2_with fail
 refine(C0 b s at_ a n c _ g.out.2.2 v x p).mono ?_;rintro e r ⟨rfl,d,m⟩;rw[g.out.2.1];rw[g.out.1]at d;clear p g;have u:=d.cell 2;have y:=d.frozen 2;simp[AP]at u;cases i with
 |true=>
  have t:Hid (Aw r b (AP s j (!true)) 73):=by have e:=q.out rfl;rw[e]at d;exact d
  go_wp2;go_end0;exact⟨rfl,t.out,m⟩
 |false=>
  go_wp2;go_end0;exact⟨rfl,d.set 2 _,m.setCell (by simp) _⟩
def AM(p:UInt8->Bool)(s:cL)(i:Nat):Nat:=
 if h:i<s.size then(if p s[i] then AM p s (i+1)else i)else i
theorem CA(p:UInt8->Bool)(s:cL)(i:Nat)(h:i<=s.size):AM p s i<=s.size:=by
 fun_induction AM p s i<;>omega
theorem Cq(p:UInt8->Bool)(s:cL)(i:Nat):i<=AM p s i:=by
 fun_induction AM p s i<;>omega
theorem B0(p:UInt8->Bool)(s:cL)(i:Nat)(h:i<s.size)(a:p s[i]=true):AM p s i=AM p s (i+1):=by
 rw[AM];simp[h,a]
theorem ET(p:UInt8->Bool)(s:cL)(i:Nat)(h:i<s.size)(a:p s[i]=false):AM p s i=i:=by
 rw[AM];simp[h,a]
theorem Fg(p:UInt8->Bool)(s:cL)(i:Nat)(h:¬i<s.size):AM p s i=i:=by
 rw[AM];simp[h]
def AW(s:cL)(at_:Nat)(bad:Bool):cL×Nat×Bool:=
 if bad then(ByteArray.empty,at_,true)else
  if AM Av s (Af s at_)=Af s at_\/4<AM Av s (Af s at_)-Af s at_ then(ByteArray.empty,Af s at_,true)
  else(s.extract (Af s at_) (AM Av s (Af s at_)),AM Av s (Af s at_),false)
theorem DV{s:cL}{at_ j k:Nat}(a:Af s at_=j)(b:AM Av s j=k)(h:k=j\/4<k-j):AW s at_ false=(ByteArray.empty,j,true):=by
 unfold AW;rw[a,b,if_neg (by simp),if_pos h]
theorem Oa{s:cL}{at_ j k:Nat}(a:Af s at_=j)(b:AM Av s j=k)(h:¬(k=j\/4<k-j)):AW s at_ false=(s.extract j k,k,false):=by
 unfold AW;rw[a,b,if_neg (by simp),if_neg h]
theorem EP(b:Nat)(s:cL)(at_:Nat)(f:Bool)(w:World)(F:s.size<=1000000)(q:at_<=s.size)(m:Aw w b (AP s at_ f) 73):
  Calls prog 126 #[.pointer (some ⟨b,0,none⟩)] w λe x=>e= .returned (.string (AW s at_ f).1)/\Aw x b (AP s (AW s at_ f).2.1 (AW s at_ f).2.2) 73/\Ac [b] w x:=by
 cases f with
 |true=>
  go_enter func126,ntmps126;go_wp2_with fail
  refine(A1 b s at_ true _ F q m).mono ?_;rintro e G ⟨rfl,a,c⟩;rw[I5]at a;clear m;have p:=a.cell 0;have v:=a.cell 1;have r:=a.cell 2;have I:=a.frozen 2;simp[AP]at p v r;go_wp2
  go_loop [4] (λi=>i= .int .i64 at_) (λ_=>0)
  case atStart=>rfl
  case round=>
   subst hrel;go_wp2;go_ret;exact⟨rfl,a.set 2 _,c.setCell (by simp) _⟩
 |false=>
  obtain⟨j,t⟩:∃j,Af s at_=j:=⟨_,rfl⟩;have A:=AN s at_ q;rw[t]at A;obtain⟨R,u⟩:∃R,AW s at_ false=R:=⟨_,rfl⟩;rw[u];have o:Hid (Af s at_=j):=t;have z:Hid (AW s at_ false=R):=u;clear t u;go_enter func126,ntmps126;go_wp2_with fail
  refine(A1 b s at_ false _ F q m).mono ?_;rintro e G ⟨rfl,a,c⟩;rw[show As s at_ false=j from o.out]at a
  clear m;have p:=a.cell 0;have v:=a.cell 1;have r:=a.cell 2;have O:=a.frozen 1;have I:=a.frozen 2;simp[AP]at p v r;go_wp2
  go_loop [4] (λi=>∃k:Nat,i= .int .i64 k/\j<=k/\k<=s.size/\AM Av s k=AM Av s j) (λi=>s.size-(intOf i).toNat)
  case atStart=>exact⟨j,rfl,au _,A,rfl⟩
  case round=>
   obtain⟨k,rfl,L,N,D⟩:=hrel;have C:Hid (AM Av s k=AM Av s j):=D;clear D;have y:Hid (AM Av s k=k->(((k:Int)=j\/4<(k:Int)-j)->R=(ByteArray.empty,j,true))/\(¬((k:Int)=j\/4<(k:Int)-j)->R=(s.extract j k,k,false))):=by
    intro J;(have B:AM Av s j=k:=by rw[<-C.out];exact J);exact⟨λh=>by rw[<-z.out];exact DV o.out B (by omega),λh=>by rw[<-z.out];exact Oa o.out B (by omega)⟩
   by_cases n:k<s.size
   ·(have M:(k:Int)<(s.size:Int):=by omega);by_cases l:Av s[k]=true
    ·(have H:Hid (AM Av s (k+1)=AM Av s j):=by show _=_;rw[<-B0 Av s k n l];exact C.out);go_wp2_with (go_at_call 169;refine(B1 _ s[k] _ rfl).mono ?_;rintro e K ⟨rfl,rfl⟩;rw[l])
     go_round
     case rel=>exact⟨k+1,by go_num,by omega,by omega,H.out⟩
     case measure=>simp[intOf];omega
    ·(have E:Av s[k]=false:=by simpa using l);have g:=y.out (ET Av s k n E);have d:Hid ((((k:Int)=j\/4<(k:Int)-j)->R=(ByteArray.empty,j,true))/\(¬((k:Int)=j\/4<(k:Int)-j)->R=(s.extract j k,k,false))):=g;clear g l;go_wp2_with (go_at_call 169;refine(B1 _ s[k] _ rfl).mono ?_;rintro e K ⟨rfl,rfl⟩;rw[E])
     all_goals go_ret
     ·rw[d.out.1 (by omega)];exact⟨rfl,a.set 2 _,c.setCell (by simp) _⟩
     ·rw[d.out.1 (by simp_all)];exact⟨rfl,a.set 2 _,c.setCell (by simp) _⟩
     ·rw[d.out.2 (by simp_all)];exact⟨rfl,a.set 1 _,c.setCell (by simp) _⟩
   ·have g:=y.out (Fg Av s k n);have d:Hid ((((k:Int)=j\/4<(k:Int)-j)->R=(ByteArray.empty,j,true))/\(¬((k:Int)=j\/4<(k:Int)-j)->R=(s.extract j k,k,false))):=g;clear g;go_wp2;all_goals go_ret
    ·rw[d.out.1 (by omega)];exact⟨rfl,a.set 2 _,c.setCell (by simp) _⟩
    ·rw[d.out.1 (by simp_all)];exact⟨rfl,a.set 2 _,c.setCell (by simp) _⟩
    ·rw[d.out.2 (by simp_all)];exact⟨rfl,a.set 1 _,c.setCell (by simp) _⟩
end Go.Proofs.YtoihbhenbmffcaaGreatDoor
namespace Go.Proofs.YtoihbhenbmffcaaGreatDoor
open Go.RowKit
open Go.Proofs.Tryz
structure L2{α:Type}(lt:α->α->Bool)(eq:α->α->Bool):Prop where
 trans:∀a b c,lt a b=true->lt b c=true->lt a c=true
 irr:∀a,lt a a=false
 tot:∀a b,lt a b=false->eq a b=false->lt b a=true
 eqv:∀a b,eq a b=true↔a=b
def Ct{α:Type}(lt:α->α->Bool)(l:List α):Prop:=∀i j (hi:i<l.length) (hj:j<l.length),i<j->lt l[i] l[j]=true
structure Ck{α:Type}(lt:α->α->Bool)(l:List α)(k:Nat)(x:α)(at_:Nat):Prop where
 ge:k<=at_
 le:at_<=l.length
 below:∀i (h:i<l.length),k<=i->i<at_->lt l[i] x=true
 above:∀i (h:i<l.length),at_<=i->lt l[i] x=false
section
variable {α:Type} {lt eq:α->α->Bool} {l:List α}
theorem Ct.down(o:L2 lt eq)(d:Ct lt l){i j:Nat}(b:j<l.length)(c:i<=j){x:α}(h:lt l[j] x=true):lt (l[i]'(by omega)) x=true:=by
 rcases dg c with a|a
 ·exact o.trans _ _ _ (d i j (by omega) b a) h
 ·subst a;exact h
theorem Ct.up(o:L2 lt eq)(c:Ct lt l){i j:Nat}(a:j<l.length)(b:i<=j){x:α}(h:lt (l[i]'(by omega)) x=false):lt l[j] x=false:=by
 cases hh:lt l[j] x with
 |false=>rfl
 |true=>rw[c.down o a b hh]at h;cases h
def DR(eq:α->α->Bool)(l:List α)(at_:Nat)(x:α):Bool:=if h:at_<l.length then eq l[at_] x else false
theorem Ck.has(o:L2 lt eq)(g:Ct lt l){x:α}{at_:Nat}(h:Ck lt l 0 x at_):DR eq l at_ x=true↔x∈l:=by
 unfold DR;constructor
 ·intro d;split at d
  ·rename_i a;have:=(o.eqv _ _).1 d;rw[<-this];exact Z7 a
  ·cases d
 ·intro k;obtain⟨i,e,b⟩:=aZ k;have j:at_<=i:=by
   by_cases f:i<at_
   ·have:=h.below i e (by omega) f;rw[b,o.irr]at this;cases this
   ·omega
  have a:at_<l.length:=by omega
  rw[dif_pos a];rcases dg j with c|c
  ·have:=g at_ i a e c;rw[b]at this;rw[h.above at_ a (au _)]at this;cases this
  ·subst c;rw[b];exact(o.eqv _ _).2 rfl
def Fy(l:List α)(at_:Nat)(x:α):List α:=l.take at_++x::l.drop at_
theorem DQ{at_:Nat}(h:at_<=l.length)(x:α):(Fy l at_ x).length=l.length+1:=by
 simp[Fy];omega
theorem LH{at_:Nat}(x y:α):y∈Fy l at_ x↔y=x\/y∈l:=by
 unfold Fy;rw[aw,aj];have:y∈l↔y∈l.take at_\/y∈l.drop at_:=by rw[<-aw,bF]
 rw[this];constructor
 ·rintro (h|h|h)
  ·exact Or.inr (Or.inl h)
  ·exact Or.inl h
  ·exact Or.inr (Or.inr h)
 ·rintro (h|h|h)
  ·exact Or.inr (Or.inl h)
  ·exact Or.inl h
  ·exact Or.inr (Or.inr h)
theorem Ov:Ct lt l↔l.Pairwise (λa b=>lt a b=true):=by
 unfold Ct;rw[bV]
theorem Ck.rise(o:L2 lt eq)(f:Ct lt l){x:α}{at_:Nat}(h:Ck lt l 0 x at_)(k:DR eq l at_ x=false):Ct lt (Fy l at_ x):=by
 rw[Ov]at f⊢;have n:∀a∈l.take at_,lt a x=true:=by
  intro a e;obtain⟨i,j,c⟩:=aZ e;simp only[aK]at j;rw[di]at c;rw[<-c];exact h.below i (by omega) (by omega) (by omega)
 have m:∀b∈l.drop at_,lt x b=true:=by
  intro b d;obtain⟨i,j,c⟩:=aZ d;simp only[aL]at j;rw[dR]at c;have g:at_<l.length:=by omega
  have p:lt x l[at_]=true:=by
   apply o.tot _ _ (h.above at_ g (au _));unfold DR at k;rw[dif_pos g]at k;exact k
  rw[<-c];by_cases q:i=0
  ·subst q;simpa using p
  ·exact o.trans _ _ _ p ((Ov.2 f) at_ (at_+i) g (by omega) (by omega))
 unfold Fy;rw[dz];refine⟨f.sublist (List.take_sublist _ _),?_,?_⟩
 ·rw[bR];exact⟨m,f.sublist (List.drop_sublist _ _)⟩
 ·intro a e b d;rcases aj.1 d with rfl|d
  ·exact n a e
  ·exact o.trans _ _ _ (n a e) (m b d)
theorem Ct.nodup(o:L2 lt eq)(c:Ct lt l):l.Nodup:=by
 rw[Ov]at c;exact c.imp (fun{a b} h e=>by subst e;rw[o.irr]at h;cases h)
end
def Dg(a b:cL):Bool:=Op.bytesLess a.toList b.toList
def Zk(a b:cL):Bool:=a.toList==b.toList
def LZ(a b:Int):Bool:=decide (a<b)
def ZB(a b:Int):Bool:=a==b
theorem KD:∀a b c:List UInt8,Op.bytesLess a b=true->Op.bytesLess b c=true->Op.bytesLess a c=true
 |a,b,[],_,h=>by cases b<;>simp[Op.bytesLess]at h
 |[],b,_::_,_,_=>rfl
 |_::_,[],_::_,h,_=>by simp[Op.bytesLess]at h
 |x::a,y::b,z::c,e,d=>by
  simp only[Op.bytesLess,bN,dS,aO,b8]at e d⊢;rcases e with e|⟨rfl,e⟩
  ·rcases d with d|⟨rfl,d⟩
   ·exact Or.inl (UInt8.lt_trans e d)
   ·exact Or.inl e
  ·rcases d with d|⟨rfl,d⟩
   ·exact Or.inl d
   ·exact Or.inr ⟨rfl,KD a b c e d⟩
theorem Ms:∀a:List UInt8,Op.bytesLess a a=false
 |[]=>rfl
 |x::a=>by simp[Op.bytesLess,Ms a]
theorem OJ:∀a b:List UInt8,Op.bytesLess a b=false->(a==b)=false->Op.bytesLess b a=true
 |[],[],_,h=>by simp at h
 |[],_::_,h,_=>by simp[Op.bytesLess]at h
 |_::_,[],_,_=>rfl
 |x::a,y::b,h,h2=>by
  simp only[Op.bytesLess,bN,dS,aO,b8,dA,dm,Bool.and_eq_false_imp]at h⊢;by_cases c:x=y
  ·subst c;refine Or.inr ⟨rfl,OJ a b (h.2 rfl) ?_⟩;simpa using h2
  ·left;have d:=h.1;rw[UInt8.lt_iff_toNat_lt]at d⊢;(have:x.toNat≠y.toNat:=λe=>c (bQ.1 e));omega
theorem Eb:L2 Dg Zk:=
 ⟨λa b c=>KD _ _ _,λa=>Ms _,λa b=>OJ _ _,λa b=>by
  unfold Zk
  simp only[b8]
  exact⟨λh=>by
   rw[bi,bi]at h
   exact ByteArray.ext (Array.toList_inj.1 h),λh=>by rw[h]⟩⟩
theorem OE:L2 LZ ZB:=
 ⟨λa b c d e=>by simp[LZ]at*;omega,λa=>by simp[LZ],λa b d e=>by simp[LZ,ZB]at*;omega,λa b=>by simp[ZB]⟩
end Go.Proofs.YtoihbhenbmffcaaGreatDoor
namespace Go.Proofs.YtoihbhenbmffcaaGreatDoor
open Go.RowKit
open Go.Proofs.Tryz
theorem O9(T:Value)(l:List cL)(k:Nat)(x:cL)(base:Nat)(w:World)(N:w.ownsRow base 9 1 T l.length (l.flatMap Ae))(B9:l.length<=1000000)(X:k<=l.length)(O:Ct Dg l):
  Calls prog 165 #[T, .int .i64 k, .string x] w λe W=>∃G:Nat,e= .returned (.int .i64 G)/\Ck Dg l k x G/\W=w:=by
 obtain⟨ad,Y,rfl⟩:=Ak N;have r:=Ab O;have D:Hid (∀i (h:i<l.length),∃g,ad=some ⟨g,0,none⟩/\l.length<=Y/\w.cell? ⟨g,i,none⟩=some (.string l[i])):=by
  intro i Q;obtain⟨g,Bx,R,U,Z⟩:=AE N (by simp[Ae]) i Q;simp only[Z6]at R;obtain⟨rfl,_,rfl⟩:=R;have H:=Z i Q 0 (by omega);simp[Ae]at H;exact⟨g,rfl,U,H⟩
 clear O;go_enter func165,ntmps165;go_wp2
 go_loop [7,8] (λa s=>∃(f o:Nat),a= .int .i64 f/\s= .int .i64 o/\k<=f/\f<=l.length/\1<=o/\o<=2*l.length+1/\Hid (∀i (h:i<l.length),k<=i->i<f->Dg l[i] x=true)) (λa s=>l.length-(intOf a).toNat)
 case atStart=>exact⟨k,1,by go_num,rfl,au _,X,au _,by omega,λi h j u=>by omega⟩
 case round=>
  obtain⟨f,o,rfl,rfl,E,BA,CC,EK,p⟩:=hrel;by_cases CL:f+o<=l.length
  ·obtain⟨g,V,BT,U⟩:=(Aa D) (f+o-1) (by omega);(have AT:((f+o-1:Nat):Int)=(f:Int)+(o:Int)-1:=by omega);(have EX:((f:Int)+(o:Int)-1).toNat=f+o-1:=by omega);subst V;have AH:Hid (Dg l[f+o-1] x=true->∀i (h:i<l.length),k<=i->i<f+o->Dg l[i] x=true):=by
    intro n i h j u;exact(Aa r).down Eb (by omega) (by omega) n
   have AB:Hid (Dg l[f+o-1] x=false->∀i (h:i<l.length),f+o-1<=i->Dg l[i] x=false):=by
    intro n i h j;exact(Aa r).up Eb h j n
   go_wp2
   ·refine⟨⟨f+o,o*2,by go_num,by go_num,by omega,by omega,by omega,by omega,(Aa AH) (by first|assumption|(simp[Dg];omega))⟩,?_⟩;simp[intOf];omega
   ·
    have t:Hid (∀i (h:i<l.length),(f+o-1)<=i->Dg l[i] x=false):=(Aa AB) (by first|assumption|(simp[Dg];omega))
    go_loop [7,9,10] (λa h m=>∃(b d:Nat),a= .int .i64 b/\h= .int .i64 d/\k<=b/\b<=d/\d<=l.length/\Hid (∀i (h:i<l.length),k<=i->i<b->Dg l[i] x=true)/\Hid (∀i (h:i<l.length),d<=i->Dg l[i] x=false)) (λa h m=>(intOf h).toNat-(intOf a).toNat)
    case atStart=>exact⟨f,(f+o-1),rfl,by go_num,E,by omega,by omega,p,t⟩
    case round=>
     clear p t;obtain⟨b,d,rfl,rfl,j,u,B,p,q⟩:=hrel;by_cases F:b<d
     ·obtain⟨c,S⟩:∃c,b+(d-b)/2=c:=⟨_,rfl⟩;(have J:b<=c:=by omega);(have K:c<d:=by omega);(have A:(b:Int)+((d:Int)-(b:Int))/2=(c:Int):=by omega);(have L:(b:Int)+((d:Int)-(b:Int)).tdiv 2=(c:Int):=by rw[bH (by omega)];exact A);obtain⟨I,v,P,M⟩:=(Aa D) c (by omega);have y:Hid (Dg l[c] x=true->∀i (h:i<l.length),k<=i->i<c+1->Dg l[i] x=true):=by
       intro n i h j u;exact(Aa r).down Eb (by omega) (by omega) n
      have z:Hid (Dg l[c] x=false->∀i (h:i<l.length),c<=i->Dg l[i] x=false):=by
       intro n i h j;exact(Aa r).up Eb h j n
      simp only[ai,aW,and_true]at v;subst v;go_wp2
      ·refine⟨⟨c+1,d,by go_num,rfl,by omega,by omega,B,(Aa y) (by first|assumption|(simp[Dg];omega)),q⟩,?_⟩;simp[intOf];omega
      ·refine⟨⟨b,c,rfl,by go_num,j,by omega,by omega,p,(Aa z) (by first|assumption|(simp[Dg];omega))⟩,?_⟩;simp[intOf];omega
     ·have C:Hid (Ck Dg l k x b):=⟨j,by omega,Aa p,λi h n=>(Aa q) i h (by omega)⟩;go_wp2;go_ret;exact⟨b,rfl,Aa C,rfl⟩
  ·go_wp2
   ·
    have t:Hid (∀i (h:i<l.length),l.length<=i->Dg l[i] x=false):=λi h n=>by omega
    go_loop [7,9,10] (λa h m=>∃(b d:Nat),a= .int .i64 b/\h= .int .i64 d/\k<=b/\b<=d/\d<=l.length/\Hid (∀i (h:i<l.length),k<=i->i<b->Dg l[i] x=true)/\Hid (∀i (h:i<l.length),d<=i->Dg l[i] x=false)) (λa h m=>(intOf h).toNat-(intOf a).toNat)
    case atStart=>exact⟨f,l.length,rfl,by go_num,E,by omega,by omega,p,t⟩
    case round=>
     clear p t;obtain⟨b,d,rfl,rfl,j,u,B,p,q⟩:=hrel;by_cases F:b<d
     ·obtain⟨c,S⟩:∃c,b+(d-b)/2=c:=⟨_,rfl⟩;(have J:b<=c:=by omega);(have K:c<d:=by omega);(have A:(b:Int)+((d:Int)-(b:Int))/2=(c:Int):=by omega);(have L:(b:Int)+((d:Int)-(b:Int)).tdiv 2=(c:Int):=by rw[bH (by omega)];exact A);obtain⟨I,v,P,M⟩:=(Aa D) c (by omega);have y:Hid (Dg l[c] x=true->∀i (h:i<l.length),k<=i->i<c+1->Dg l[i] x=true):=by
       intro n i h j u;exact(Aa r).down Eb (by omega) (by omega) n
      have z:Hid (Dg l[c] x=false->∀i (h:i<l.length),c<=i->Dg l[i] x=false):=by
       intro n i h j;exact(Aa r).up Eb h j n
      subst v;go_wp2
      ·refine⟨⟨c+1,d,by go_num,rfl,by omega,by omega,B,(Aa y) (by first|assumption|(simp[Dg];omega)),q⟩,?_⟩;simp[intOf];omega
      ·refine⟨⟨b,c,rfl,by go_num,j,by omega,by omega,p,(Aa z) (by first|assumption|(simp[Dg];omega))⟩,?_⟩;simp[intOf];omega
     ·have C:Hid (Ck Dg l k x b):=⟨j,by omega,Aa p,λi h n=>(Aa q) i h (by omega)⟩;go_wp2;go_ret;exact⟨b,rfl,Aa C,rfl⟩
   ·
    have t:Hid (∀i (h:i<l.length),(f+o-1)<=i->Dg l[i] x=false):=λi h n=>by omega
    go_loop [7,9,10] (λa h m=>∃(b d:Nat),a= .int .i64 b/\h= .int .i64 d/\k<=b/\b<=d/\d<=l.length/\Hid (∀i (h:i<l.length),k<=i->i<b->Dg l[i] x=true)/\Hid (∀i (h:i<l.length),d<=i->Dg l[i] x=false)) (λa h m=>(intOf h).toNat-(intOf a).toNat)
    case atStart=>exact⟨f,(f+o-1),rfl,by go_num,E,by omega,by omega,p,t⟩
    case round=>
     clear p t;obtain⟨b,d,rfl,rfl,j,u,B,p,q⟩:=hrel;by_cases F:b<d
     ·obtain⟨c,S⟩:∃c,b+(d-b)/2=c:=⟨_,rfl⟩;(have J:b<=c:=by omega);(have K:c<d:=by omega);(have A:(b:Int)+((d:Int)-(b:Int))/2=(c:Int):=by omega);(have L:(b:Int)+((d:Int)-(b:Int)).tdiv 2=(c:Int):=by rw[bH (by omega)];exact A);obtain⟨I,v,P,M⟩:=(Aa D) c (by omega);have y:Hid (Dg l[c] x=true->∀i (h:i<l.length),k<=i->i<c+1->Dg l[i] x=true):=by
       intro n i h j u;exact(Aa r).down Eb (by omega) (by omega) n
      have z:Hid (Dg l[c] x=false->∀i (h:i<l.length),c<=i->Dg l[i] x=false):=by
       intro n i h j;exact(Aa r).up Eb h j n
      subst v;go_wp2
      ·refine⟨⟨c+1,d,by go_num,rfl,by omega,by omega,B,(Aa y) (by first|assumption|(simp[Dg];omega)),q⟩,?_⟩;simp[intOf];omega
      ·refine⟨⟨b,c,rfl,by go_num,j,by omega,by omega,p,(Aa z) (by first|assumption|(simp[Dg];omega))⟩,?_⟩;simp[intOf];omega
     ·have C:Hid (Ck Dg l k x b):=⟨j,by omega,Aa p,λi h n=>(Aa q) i h (by omega)⟩;go_wp2;go_ret;exact⟨b,rfl,Aa C,rfl⟩
def AD(x:Int):List Value:=[.int .i32 x]
theorem Pa(T:Value)(l:List Int)(k:Nat)(x:Int)(base:Nat)(w:World)(N:w.ownsRow base 21 1 T l.length (l.flatMap AD))(B9:l.length<=1000000)(X:k<=l.length)(O:Ct LZ l):
  Calls prog 219 #[T, .int .i64 k, .int .i32 x] w λe W=>∃G:Nat,e= .returned (.int .i64 G)/\Ck LZ l k x G/\W=w:=by
 obtain⟨ad,Y,rfl⟩:=Ak N;have r:=Ab O;have D:Hid (∀i (h:i<l.length),∃g,ad=some ⟨g,0,none⟩/\l.length<=Y/\w.cell? ⟨g,i,none⟩=some (.int .i32 l[i])):=by
  intro i Q;obtain⟨g,Bx,R,U,Z⟩:=AE N (by simp[AD]) i Q;simp only[Z6]at R;obtain⟨rfl,_,rfl⟩:=R;have H:=Z i Q 0 (by omega);simp[AD]at H;exact⟨g,rfl,U,H⟩
 clear O;go_enter func219,ntmps219;go_wp2
 go_loop [7,8] (λa s=>∃(f o:Nat),a= .int .i64 f/\s= .int .i64 o/\k<=f/\f<=l.length/\1<=o/\o<=2*l.length+1/\Hid (∀i (h:i<l.length),k<=i->i<f->LZ l[i] x=true)) (λa s=>l.length-(intOf a).toNat)
 case atStart=>exact⟨k,1,by go_num,rfl,au _,X,au _,by omega,λi h j u=>by omega⟩
 case round=>
  obtain⟨f,o,rfl,rfl,E,BA,CC,EK,p⟩:=hrel;by_cases CL:f+o<=l.length
  ·obtain⟨g,V,BT,U⟩:=(Aa D) (f+o-1) (by omega);(have AT:((f+o-1:Nat):Int)=(f:Int)+(o:Int)-1:=by omega);(have EX:((f:Int)+(o:Int)-1).toNat=f+o-1:=by omega);subst V;have AH:Hid (LZ l[f+o-1] x=true->∀i (h:i<l.length),k<=i->i<f+o->LZ l[i] x=true):=by
    intro n i h j u;exact(Aa r).down OE (by omega) (by omega) n
   have AB:Hid (LZ l[f+o-1] x=false->∀i (h:i<l.length),f+o-1<=i->LZ l[i] x=false):=by
    intro n i h j;exact(Aa r).up OE h j n
   go_wp2
   ·refine⟨⟨f+o,o*2,by go_num,by go_num,by omega,by omega,by omega,by omega,(Aa AH) (by first|assumption|(simp[LZ];omega))⟩,?_⟩;simp[intOf];omega
   ·
    have t:Hid (∀i (h:i<l.length),(f+o-1)<=i->LZ l[i] x=false):=(Aa AB) (by first|assumption|(simp[LZ];omega))
    go_loop [7,9,10] (λa h m=>∃(b d:Nat),a= .int .i64 b/\h= .int .i64 d/\k<=b/\b<=d/\d<=l.length/\Hid (∀i (h:i<l.length),k<=i->i<b->LZ l[i] x=true)/\Hid (∀i (h:i<l.length),d<=i->LZ l[i] x=false)) (λa h m=>(intOf h).toNat-(intOf a).toNat)
    case atStart=>exact⟨f,(f+o-1),rfl,by go_num,E,by omega,by omega,p,t⟩
    case round=>
     clear p t;obtain⟨b,d,rfl,rfl,j,u,B,p,q⟩:=hrel;by_cases F:b<d
     ·obtain⟨c,S⟩:∃c,b+(d-b)/2=c:=⟨_,rfl⟩;(have J:b<=c:=by omega);(have K:c<d:=by omega);(have A:(b:Int)+((d:Int)-(b:Int))/2=(c:Int):=by omega);(have L:(b:Int)+((d:Int)-(b:Int)).tdiv 2=(c:Int):=by rw[bH (by omega)];exact A);obtain⟨I,v,P,M⟩:=(Aa D) c (by omega);have y:Hid (LZ l[c] x=true->∀i (h:i<l.length),k<=i->i<c+1->LZ l[i] x=true):=by
       intro n i h j u;exact(Aa r).down OE (by omega) (by omega) n
      have z:Hid (LZ l[c] x=false->∀i (h:i<l.length),c<=i->LZ l[i] x=false):=by
       intro n i h j;exact(Aa r).up OE h j n
      simp only[ai,aW,and_true]at v;subst v;go_wp2
      ·refine⟨⟨c+1,d,by go_num,rfl,by omega,by omega,B,(Aa y) (by first|assumption|(simp[LZ];omega)),q⟩,?_⟩;simp[intOf];omega
      ·refine⟨⟨b,c,rfl,by go_num,j,by omega,by omega,p,(Aa z) (by first|assumption|(simp[LZ];omega))⟩,?_⟩;simp[intOf];omega
     ·have C:Hid (Ck LZ l k x b):=⟨j,by omega,Aa p,λi h n=>(Aa q) i h (by omega)⟩;go_wp2;go_ret;exact⟨b,rfl,Aa C,rfl⟩
  ·go_wp2
   ·
    have t:Hid (∀i (h:i<l.length),l.length<=i->LZ l[i] x=false):=λi h n=>by omega
    go_loop [7,9,10] (λa h m=>∃(b d:Nat),a= .int .i64 b/\h= .int .i64 d/\k<=b/\b<=d/\d<=l.length/\Hid (∀i (h:i<l.length),k<=i->i<b->LZ l[i] x=true)/\Hid (∀i (h:i<l.length),d<=i->LZ l[i] x=false)) (λa h m=>(intOf h).toNat-(intOf a).toNat)
    case atStart=>exact⟨f,l.length,rfl,by go_num,E,by omega,by omega,p,t⟩
    case round=>
     clear p t;obtain⟨b,d,rfl,rfl,j,u,B,p,q⟩:=hrel;by_cases F:b<d
     ·obtain⟨c,S⟩:∃c,b+(d-b)/2=c:=⟨_,rfl⟩;(have J:b<=c:=by omega);(have K:c<d:=by omega);(have A:(b:Int)+((d:Int)-(b:Int))/2=(c:Int):=by omega);(have L:(b:Int)+((d:Int)-(b:Int)).tdiv 2=(c:Int):=by rw[bH (by omega)];exact A);obtain⟨I,v,P,M⟩:=(Aa D) c (by omega);have y:Hid (LZ l[c] x=true->∀i (h:i<l.length),k<=i->i<c+1->LZ l[i] x=true):=by
       intro n i h j u;exact(Aa r).down OE (by omega) (by omega) n
      have z:Hid (LZ l[c] x=false->∀i (h:i<l.length),c<=i->LZ l[i] x=false):=by
       intro n i h j;exact(Aa r).up OE h j n
      subst v;go_wp2
      ·refine⟨⟨c+1,d,by go_num,rfl,by omega,by omega,B,(Aa y) (by first|assumption|(simp[LZ];omega)),q⟩,?_⟩;simp[intOf];omega
      ·refine⟨⟨b,c,rfl,by go_num,j,by omega,by omega,p,(Aa z) (by first|assumption|(simp[LZ];omega))⟩,?_⟩;simp[intOf];omega
     ·have C:Hid (Ck LZ l k x b):=⟨j,by omega,Aa p,λi h n=>(Aa q) i h (by omega)⟩;go_wp2;go_ret;exact⟨b,rfl,Aa C,rfl⟩
   ·
    have t:Hid (∀i (h:i<l.length),(f+o-1)<=i->LZ l[i] x=false):=λi h n=>by omega
    go_loop [7,9,10] (λa h m=>∃(b d:Nat),a= .int .i64 b/\h= .int .i64 d/\k<=b/\b<=d/\d<=l.length/\Hid (∀i (h:i<l.length),k<=i->i<b->LZ l[i] x=true)/\Hid (∀i (h:i<l.length),d<=i->LZ l[i] x=false)) (λa h m=>(intOf h).toNat-(intOf a).toNat)
    case atStart=>exact⟨f,(f+o-1),rfl,by go_num,E,by omega,by omega,p,t⟩
    case round=>
     clear p t;obtain⟨b,d,rfl,rfl,j,u,B,p,q⟩:=hrel;by_cases F:b<d
     ·obtain⟨c,S⟩:∃c,b+(d-b)/2=c:=⟨_,rfl⟩;(have J:b<=c:=by omega);(have K:c<d:=by omega);(have A:(b:Int)+((d:Int)-(b:Int))/2=(c:Int):=by omega);(have L:(b:Int)+((d:Int)-(b:Int)).tdiv 2=(c:Int):=by rw[bH (by omega)];exact A);obtain⟨I,v,P,M⟩:=(Aa D) c (by omega);have y:Hid (LZ l[c] x=true->∀i (h:i<l.length),k<=i->i<c+1->LZ l[i] x=true):=by
       intro n i h j u;exact(Aa r).down OE (by omega) (by omega) n
      have z:Hid (LZ l[c] x=false->∀i (h:i<l.length),c<=i->LZ l[i] x=false):=by
       intro n i h j;exact(Aa r).up OE h j n
      subst v;go_wp2
      ·refine⟨⟨c+1,d,by go_num,rfl,by omega,by omega,B,(Aa y) (by first|assumption|(simp[LZ];omega)),q⟩,?_⟩;simp[intOf];omega
      ·refine⟨⟨b,c,rfl,by go_num,j,by omega,by omega,p,(Aa z) (by first|assumption|(simp[LZ];omega))⟩,?_⟩;simp[intOf];omega
     ·have C:Hid (Ck LZ l k x b):=⟨j,by omega,Aa p,λi h n=>(Aa q) i h (by omega)⟩;go_wp2;go_ret;exact⟨b,rfl,Aa C,rfl⟩
structure AG where
 v:UInt8
 s:cL
def Az(t:AG):List Value:=[.int .u8 t.v.toNat, .string t.s]
def AA(s:cL)(at_:Nat)(bad:Bool):AG×Nat×Bool:=
 if bad then(⟨0,ByteArray.empty⟩,at_,true)else
 if h:Af s at_<s.size then
  if D8 s[Af s at_] then(⟨s[Af s at_],ByteArray.empty⟩,Af s at_+1,false)
  else if !An s[Af s at_] then(⟨0,(AW s (Af s at_) false).1⟩,(AW s (Af s at_) false).2)
  else if 3<AM An s (Af s at_)-Af s at_\/(s[Af s at_]=48/\1<AM An s (Af s at_)-Af s at_)then(⟨0,ByteArray.empty⟩,Af s at_,true)
  else(⟨0,s.extract (Af s at_) (AM An s (Af s at_))⟩,AM An s (Af s at_),false)
 else(⟨0,ByteArray.empty⟩,Af s at_,true)
theorem Xe(b:Nat)(s:cL)(at_:Nat)(w:World)(l:s.size<=1000000)(m:at_<=s.size)(d:Aw w b (AP s at_ true) 73):
  Calls prog 127 #[.pointer (some ⟨b,0,none⟩)] w λe f=>e= .returned (.agg #[.int .u8 0, .string ByteArray.empty])/\Aw f b (AP s at_ true) 73/\Ac [b] w f:=by
 have p:=d.lt;go_enter func127,ntmps127;go_wp2_with fail
 refine(A1 b s at_ true _ l m (d.alloc _)).mono ?_;rintro e o ⟨rfl,a,g⟩;rw[I5]at a;clear d;have c:=(Aw.new w _ _).kept g (by simp;omega);have j:=c.cell 0;have k:=c.cell 1;have r:=c.frozen;have h:=a.cell 0;have n:=a.cell 1;have i:=a.cell 2;have q:=a.frozen 2;simp[AP]at h n i j k;go_wp2
 go_quiet (fail)
 go_wp2;refine aE (AY rfl rfl ((((c.drewN _).set_other _ (by simp;omega) _).set 0 _).set 1 _) underlying93 rfl (by kernel_rfl)) rfl ⟨rfl,?_,?_⟩
 ·exact(((a.drewN _).set 2 _).set_other _ (by simp;omega) _).set_other _ (by simp;omega) _
 ·exact(((((Ac.refl _ _).alloc _).trans g).drewN _).setCell (by simp) _|>.setCell (by simp) _).setCell (by simp) _
theorem Xr(b:Nat)(s:cL)(at_ j:Nat)(w:World)(q:s.size<=1000000)(i:at_<=s.size)(d:Af s at_=j)(v:¬j<s.size)(f:Aw w b (AP s at_ false) 73):
  Calls prog 127 #[.pointer (some ⟨b,0,none⟩)] w λe g=>e= .returned (.agg #[.int .u8 0, .string ByteArray.empty])/\Aw g b (AP s j true) 73/\Ac [b] w g:=by
 have y:=f.lt;have n:=AN s at_ i;rw[d]at n;have h:Hid (Af s at_=j):=d;clear d;go_enter func127,ntmps127;go_wp2_with fail
 refine(A1 b s at_ false _ q i (f.alloc _)).mono ?_;rintro e u ⟨rfl,a,k⟩;rw[show As s at_ false=j from h.out]at a
 clear f h;have c:=(Aw.new w _ _).kept k (by simp;omega);have m:=c.cell 0;have p:=c.cell 1;have x:=c.frozen;have l:=a.cell 0;have r:=a.cell 1;have o:=a.cell 2;have A:=a.frozen 1;have z:=a.frozen 2;simp[AP]at l r o m p;have t:decide ((s.size:Int)<=(j:Int))=true:=by simp;omega
 go_wp2
 go_quiet (fail)
 go_wp2;refine aE (AY rfl rfl ((((c.drewN _).set_other _ (by simp;omega) _).set 0 _).set 1 _) underlying93 rfl (by kernel_rfl)) rfl ⟨rfl,?_,?_⟩
 ·exact(((a.drewN _).set 2 _).set_other _ (by simp;omega) _).set_other _ (by simp;omega) _
 ·exact(((((Ac.refl _ _).alloc _).trans k).drewN _).setCell (by simp) _|>.setCell (by simp) _).setCell (by simp) _
theorem Tb(b:Nat)(s:cL)(at_ j:Nat)(w:World)(r:s.size<=1000000)(i:at_<=s.size)(d:Af s at_=j)(x:j<s.size)(p:D8 s[j]=true)(f:Aw w b (AP s at_ false) 73):
  Calls prog 127 #[.pointer (some ⟨b,0,none⟩)] w λe g=>e= .returned (.agg #[.int .u8 s[j].toNat, .string ByteArray.empty])/\Aw g b (AP s (j+1) false) 73/\Ac [b] w g:=by
 have A:=f.lt;have n:=AN s at_ i;rw[d]at n;have h:Hid (Af s at_=j):=d;clear d;go_enter func127,ntmps127;go_wp2_with fail
 refine(A1 b s at_ false _ r i (f.alloc _)).mono ?_;rintro e v ⟨rfl,a,k⟩;rw[show As s at_ false=j from h.out]at a
 clear f h;have c:=(Aw.new w _ _).kept k (by simp;omega);have m:=c.cell 0;have q:=c.cell 1;have z:=c.frozen;have l:=a.cell 0;have t:=a.cell 1;have o:=a.cell 2;have C:=a.frozen 1;have B:=a.frozen 2;simp[AP]at l t o m q;have u:decide ((s.size:Int)<=(j:Int))=false:=by simp;omega
 have y:(j:Int)<(s.size:Int):=by omega
 go_wp2
 go_quiet (fail)
 go_wp2
 go_quiet (fail)
 go_wp2_with (go_at_call 170;refine(Lm _ s[j] _ rfl).mono ?_;rintro e D ⟨rfl,rfl⟩;rw[p])
 refine aE (AY rfl rfl ((((c.drewN _).set_other _ (by simp;omega) _).set 0 _).set 1 _) underlying93 rfl (by kernel_rfl)) rfl ⟨rfl,?_,?_⟩
 ·exact(((a.drewN _).set 1 _).set_other _ (by simp;omega) _).set_other _ (by simp;omega) _
 ·exact(((((Ac.refl _ _).alloc _).trans k).drewN _).setCell (by simp) _|>.setCell (by simp) _).setCell (by simp) _
theorem Wm(b:Nat)(s:cL)(at_ j:Nat)(w:World)(r:s.size<=1000000)(m:at_<=s.size)(f:Af s at_=j)(I:j<s.size)(C:D8 s[j]=false)(v:An s[j]=false)(g:Aw w b (AP s at_ false) 73):
  Calls prog 127 #[.pointer (some ⟨b,0,none⟩)] w λe h=>e= .returned (.agg #[.int .u8 0, .string (AW s j false).1])/\Aw h b (AP s (AW s j false).2.1 (AW s j false).2.2) 73/\Ac [b] w h:=by
 have L:=g.lt;have z:=AN s at_ m;rw[f]at z;have i:Hid (Af s at_=j):=f;clear f;go_enter func127,ntmps127;go_wp2_with fail
 refine(A1 b s at_ false _ r m (g.alloc _)).mono ?_;rintro e H ⟨rfl,a,n⟩;rw[show As s at_ false=j from i.out]at a
 clear g i;have d:=(Aw.new w _ _).kept n (by simp;omega);have l:=d.cell 0;have q:=d.cell 1;have y:=d.frozen;have k:=a.cell 0;have u:=a.cell 1;have p:=a.cell 2;have F:=a.frozen 1;have E:=a.frozen 2;simp[AP]at k u p l q;have G:decide ((s.size:Int)<=(j:Int))=false:=by simp;omega
 have K:(j:Int)<(s.size:Int):=by omega
 have M:∀(x:Bool) (w:World),(Op.unary .not (.bool x)).run prog w= .ok (.bool (!x)) w:=λ_ _=>rfl
 go_wp2
 go_quiet (fail)
 go_wp2
 go_quiet (fail)
 go_wp2_with (first|(go_at_call 170;refine(Lm _ s[j] _ rfl).mono ?_;rintro e t ⟨rfl,rfl⟩;rw[C])|(go_at_call 55;refine(Cg _ s[j] _ rfl).mono ?_;rintro e t ⟨rfl,rfl⟩;rw[v]))
 refine(EP b s j false _ r (by omega) (a.drewN _)).mono ?_;rintro e t ⟨rfl,D,o⟩;have c:=(d.drewN _).kept o (by simp;omega);have A:=c.cell 0;have B:=c.cell 1;have J:=c.frozen;simp at A B;clear y l q F E k u p;go_wp2;refine aE (AY rfl rfl ((c.set 0 _).set 1 _) underlying93 rfl (by kernel_rfl)) rfl ⟨rfl,?_,?_⟩
 ·exact(D.set_other _ (by simp;omega) _).set_other _ (by simp;omega) _
 ·exact(((((Ac.refl _ _).alloc _).trans n).drewN _).trans o|>.setCell (by simp) _).setCell (by simp) _
def FN(s:cL)(j k:Nat):AG×Nat×Bool:=
 if 3<k-j\/(Cz s j 48=true/\1<k-j)then(⟨0,ByteArray.empty⟩,j,true)else(⟨0,s.extract j k⟩,k,false)
theorem L1{s:cL}{j k:Nat}(h:(3:Int)<((k-j:Nat):Int)):FN s j k=(⟨0,ByteArray.empty⟩,j,true):=by
 unfold FN;rw[if_pos (by omega)]
theorem UK{s:cL}{j:Nat}(a:j<s.size)(c:UInt8):Cz s j c=true↔(s[j].toNat:Int)=c.toNat:=by
 unfold Cz;simp only[a,dite_true,b8];constructor
 ·intro h;rw[h]
 ·intro h;exact bQ.1 (by omega)
theorem LQ{s:cL}{j k:Nat}(b:j<s.size)(h:(s[j].toNat:Int)=48)(a:(3:Int)<((k-j:Nat):Int)\/(1:Int)<((k-j:Nat):Int)):FN s j k=(⟨0,ByteArray.empty⟩,j,true):=by
 unfold FN;rw[if_pos (by rcases a with a|a;exact Or.inl (by omega);exact Or.inr ⟨(UK b 48).2 h,by omega⟩)]
theorem NQ{s:cL}{j k:Nat}(h:((k-j:Nat):Int)<=3)(a:((k-j:Nat):Int)<=1):FN s j k=(⟨0,s.extract j k⟩,k,false):=by
 unfold FN;rw[if_neg (by omega)]
theorem Nb{s:cL}{j k:Nat}(b:j<s.size)(h:¬(s[j].toNat:Int)=48)(c:((k-j:Nat):Int)<=3):FN s j k=(⟨0,s.extract j k⟩,k,false):=by
 unfold FN;rw[if_neg (by rintro (a|⟨a,_⟩);omega;exact h ((UK b 48).1 a))]
theorem Rv(b:Nat)(s:cL)(at_ j:Nat)(w:World)(R:AG×Nat×Bool)(K:s.size<=1000000)(y:at_<=s.size)(p:Af s at_=j)(g:j<s.size)(H:D8 s[j]=false)(v:An s[j]=true)
  (o:Hid (R=FN s j (AM An s j)))
  (q:Aw w b (AP s at_ false) 73):
  Calls prog 127 #[.pointer (some ⟨b,0,none⟩)] w λe t=>e= .returned (.agg (Az R.1).toArray)/\Aw t b (AP s R.2.1 R.2.2) 73/\Ac [b] w t:=by
 have U:=q.lt;have z:=AN s at_ y;rw[p]at z;have u:Hid (Af s at_=j):=p;clear p;go_enter func127,ntmps127;go_wp2_with fail
 refine(A1 b s at_ false _ K y (q.alloc _)).mono ?_;rintro e N ⟨rfl,a,d⟩;rw[show As s at_ false=j from u.out]at a
 clear q u;have c:=(Aw.new w _ _).kept d (by simp;omega);have D:=c.cell 0;have J:=c.cell 1;have S:=c.frozen;have C:=a.cell 0;have F:=a.cell 1;have G:=a.cell 2;have Y:=a.frozen 1;have X:=a.frozen 2;simp[AP]at C F G D J;have M:decide ((s.size:Int)<=(j:Int))=false:=by simp;omega
 have Q:(j:Int)<(s.size:Int):=by omega
 have V:∀(x:Bool) (w:World),(Op.unary .not (.bool x)).run prog w= .ok (.bool (!x)) w:=λ_ _=>rfl
 go_wp2
 go_quiet (fail)
 go_wp2
 go_quiet (fail)
 go_wp2_with (first|(go_at_call 170;refine(Lm _ s[j] _ rfl).mono ?_;rintro e r ⟨rfl,rfl⟩;rw[H])|(go_at_call 55;refine(Cg _ s[j] _ rfl).mono ?_;rintro e r ⟨rfl,rfl⟩;rw[v]))
 go_loop [4] (λi=>∃k:Nat,i= .int .i64 k/\j<=k/\k<=s.size/\AM An s k=AM An s j) (λi=>s.size-(intOf i).toNat)
 case atStart=>exact⟨j,rfl,au _,z,rfl⟩
 case round=>
  obtain⟨k,rfl,P,T,A⟩:=hrel;have l:Hid (AM An s k=AM An s j):=A;clear A;have Z:(j:Int)<=(k:Int):=by omega
  have O:(k:Int)<=(s.size:Int):=by omega
  have h:Hid (AM An s k=k->R=FN s j k):=by
   intro L;(have E:AM An s j=k:=by rw[<-l.out];exact L);rw[o.out,E]
  by_cases n:k<s.size
  ·(have W:(k:Int)<(s.size:Int):=by omega);by_cases m:An s[k]=true
   ·(have I:Hid (AM An s (k+1)=AM An s j):=by show _=_;rw[<-B0 An s k n m];exact l.out);clear v;go_wp2_with (go_at_call 55;refine(Cg _ s[k] _ rfl).mono ?_;rintro e r ⟨rfl,rfl⟩;rw[m])
    go_round
    case rel=>exact⟨k+1,by go_num,by omega,by omega,I.out⟩
    case measure=>simp[intOf];omega
   ·(have B:An s[k]=false:=by simpa using m);have f:Hid (R=FN s j k):=h.out (ET An s k n B);clear m h o l;go_wp2_with (go_at_call 55;refine(Cg _ s[k] _ rfl).mono ?_;rintro e r ⟨rfl,rfl⟩;rw[B])
    go_quiet (fail)
    go_wp2
    ·rw[f.out,LQ g (by assumption) (by assumption)];refine aE (AY rfl rfl ((((c.drewN _).set_other _ (by simp;omega) _).set 0 _).set 1 _) underlying93 rfl (by kernel_rfl)) rfl ⟨rfl,?_,?_⟩
     ·exact(((a.drewN _).set 2 _).set_other _ (by simp;omega) _).set_other _ (by simp;omega) _
     ·exact(((((Ac.refl _ _).alloc _).trans d).drewN _).setCell (by simp) _|>.setCell (by simp) _).setCell (by simp) _
    ·rw[f.out,NQ (by omega) (by omega)];refine aE (AY rfl rfl ((((c.drewN _).set_other _ (by simp;omega) _).set 0 _).set 1 _) underlying93 rfl (by kernel_rfl)) rfl ⟨rfl,?_,?_⟩
     ·exact(((a.drewN _).set 1 _).set_other _ (by simp;omega) _).set_other _ (by simp;omega) _
     ·exact(((((Ac.refl _ _).alloc _).trans d).drewN _).setCell (by simp) _|>.setCell (by simp) _).setCell (by simp) _
    ·rw[f.out,Nb g (by assumption) (by omega)];refine aE (AY rfl rfl ((((c.drewN _).set_other _ (by simp;omega) _).set 0 _).set 1 _) underlying93 rfl (by kernel_rfl)) rfl ⟨rfl,?_,?_⟩
     ·exact(((a.drewN _).set 1 _).set_other _ (by simp;omega) _).set_other _ (by simp;omega) _
     ·exact(((((Ac.refl _ _).alloc _).trans d).drewN _).setCell (by simp) _|>.setCell (by simp) _).setCell (by simp) _
    ·rw[f.out,L1 (by omega)];refine aE (AY rfl rfl ((((c.drewN _).set_other _ (by simp;omega) _).set 0 _).set 1 _) underlying93 rfl (by kernel_rfl)) rfl ⟨rfl,?_,?_⟩
     ·exact(((a.drewN _).set 2 _).set_other _ (by simp;omega) _).set_other _ (by simp;omega) _
     ·exact(((((Ac.refl _ _).alloc _).trans d).drewN _).setCell (by simp) _|>.setCell (by simp) _).setCell (by simp) _
  ·have f:Hid (R=FN s j k):=h.out (Fg An s k n);clear h o l;go_wp2
   go_quiet (fail)
   go_wp2
   ·rw[f.out,LQ g (by assumption) (by assumption)];refine aE (AY rfl rfl ((((c.drewN _).set_other _ (by simp;omega) _).set 0 _).set 1 _) underlying93 rfl (by kernel_rfl)) rfl ⟨rfl,?_,?_⟩
    ·exact(((a.drewN _).set 2 _).set_other _ (by simp;omega) _).set_other _ (by simp;omega) _
    ·exact(((((Ac.refl _ _).alloc _).trans d).drewN _).setCell (by simp) _|>.setCell (by simp) _).setCell (by simp) _
   ·rw[f.out,NQ (by omega) (by omega)];refine aE (AY rfl rfl ((((c.drewN _).set_other _ (by simp;omega) _).set 0 _).set 1 _) underlying93 rfl (by kernel_rfl)) rfl ⟨rfl,?_,?_⟩
    ·exact(((a.drewN _).set 1 _).set_other _ (by simp;omega) _).set_other _ (by simp;omega) _
    ·exact(((((Ac.refl _ _).alloc _).trans d).drewN _).setCell (by simp) _|>.setCell (by simp) _).setCell (by simp) _
   ·rw[f.out,Nb g (by assumption) (by omega)];refine aE (AY rfl rfl ((((c.drewN _).set_other _ (by simp;omega) _).set 0 _).set 1 _) underlying93 rfl (by kernel_rfl)) rfl ⟨rfl,?_,?_⟩
    ·exact(((a.drewN _).set 1 _).set_other _ (by simp;omega) _).set_other _ (by simp;omega) _
    ·exact(((((Ac.refl _ _).alloc _).trans d).drewN _).setCell (by simp) _|>.setCell (by simp) _).setCell (by simp) _
   ·rw[f.out,L1 (by omega)];refine aE (AY rfl rfl ((((c.drewN _).set_other _ (by simp;omega) _).set 0 _).set 1 _) underlying93 rfl (by kernel_rfl)) rfl ⟨rfl,?_,?_⟩
    ·exact(((a.drewN _).set 2 _).set_other _ (by simp;omega) _).set_other _ (by simp;omega) _
    ·exact(((((Ac.refl _ _).alloc _).trans d).drewN _).setCell (by simp) _|>.setCell (by simp) _).setCell (by simp) _
theorem BQ(b:Nat)(s:cL)(at_:Nat)(h:Bool)(w:World)(f:s.size<=1000000)(g:at_<=s.size)(d:Aw w b (AP s at_ h) 73):
  Calls prog 127 #[.pointer (some ⟨b,0,none⟩)] w λe i=>e= .returned (.agg (Az (AA s at_ h).1).toArray)/\Aw i b (AP s (AA s at_ h).2.1 (AA s at_ h).2.2) 73/\Ac [b] w i:=by
 cases h with
 |true=>exact Xe b s at_ w f g d
 |false=>
  obtain⟨j,c⟩:∃j,Af s at_=j:=⟨_,rfl⟩;by_cases a:j<s.size
  ·cases hu:D8 s[j] with
   |true=>
    (have e:AA s at_ false=(⟨s[j],ByteArray.empty⟩,j+1,false):=by unfold AA;subst c;simp[a,hu]);rw[e];exact Tb b s at_ j w f g c a hu d
   |false=>
    cases hd:An s[j] with
    |false=>
     (have e:AA s at_ false=(⟨0,(AW s j false).1⟩,(AW s j false).2):=by unfold AA;subst c;simp[a,hu,hd]);rw[e];exact Wm b s at_ j w f g c a hu hd d
    |true=>
     refine Rv b s at_ j w _ f g c a hu hd ?_ d;show _=_;unfold AA FN Cz;subst c;simp[a,hu,hd]
  ·(have e:AA s at_ false=(⟨0,ByteArray.empty⟩,j,true):=by unfold AA;subst c;simp[a]);rw[e];exact Xr b s at_ j w f g c a d
def DF(r:Int):Int:=
 if 97<=r/\r<=122 then 2 else if 48<=r/\r<=57 then 3 else if 65<=r/\r<=90 then 4
 else if r=58\/r=46\/r=44\/r=33\/r=61\/r=35\/r=60\/r=40\/r=41 then 5 else 0
theorem Ik(r:Int)(w:World):Calls prog 192 #[.int .i32 r] w λe a=>e= .returned (.int .i64 (DF r))/\a=w:=by
 go_enter func192,ntmps192;go_wp2;all_goals
  go_ret;refine⟨Y1 ?_,rfl⟩
  try simp only[bc,b8,ne_eq]at*
  unfold DF
  (repeat' split)<;>omega
structure AV where
 kind:Int
 place:Nat
 text:cL
def Ba(m:AV):List Value:=[.int .i64 m.kind, .int .i64 m.place, .string m.text]
def B7(m:AV)(place:Nat)(r:Int):Bool:=
 if m.place+m.text.size≠place then false
 else if m.kind=2\/m.kind=3 then DF r==m.kind
 else if m.kind=5 then(m.text.toList==[58])&&r==45
 else false
theorem Tc(m:AV)(place:Nat)(r:Int)(w:World)(p:m.place<=1000000)(s:m.text.size<=1000000)(q:place<=1000000):
  Calls prog 191 #[.agg (Ba m).toArray, .int .i64 place, .int .i32 r] w λe o=>e= .returned (.bool (B7 m place r))/\Ac [] w o:=by
 simp only[Ba];obtain⟨G,g⟩:∃G,B7 m place r=G:=⟨_,rfl⟩;rw[g];have a:=g;unfold B7 at a;clear g;by_cases f:m.place+m.text.size=place
 ·have l:((m.place:Int)+(m.text.size:Int) !=(place:Int))=false:=by simp;omega
  rw[if_neg (by omega)]at a;by_cases b:m.kind=2\/m.kind=3
  ·rw[if_pos b]at a;have c:Hid ((DF r==m.kind)=G):=a;clear a f;(have i:∀n:Nat,True:=λ_=>trivial);clear i;rcases b with b|b
   ·(have h:(m.kind==2)=true:=by simp[b]);clear b;go_enter func191,ntmps191;go_wp2_with fail
    go_quiet ((go_at_call 192;exact bu (Ik _ _)))
    go_wp2;go_ret;exact⟨Bb c.out,((Ac.refl _ _).alloc _).drewN _⟩
   ·(have h:(m.kind==2)=false:=by simp[b]);(have k:(m.kind==3)=true:=by simp[b]);clear b;go_enter func191,ntmps191;go_wp2_with fail
    go_quiet ((go_at_call 192;exact bu (Ik _ _)))
    go_wp2;go_ret;exact⟨Bb c.out,((Ac.refl _ _).alloc _).drewN _⟩
  ·rw[if_neg b]at a;(have h:(m.kind==2)=false:=by simp;omega);(have k:(m.kind==3)=false:=by simp;omega);by_cases d:m.kind=5
   ·rw[if_pos d]at a;(have j:(m.kind==5)=true:=by simp[d]);have c:Hid (((m.text.toList==[58])&&r==45)=G):=a;clear a f b d;go_enter func191,ntmps191;go_wp2;all_goals
     go_ret;refine⟨Bb ?_,(Ac.refl _ _).alloc _⟩;rw[<-c.out]
     simp_all
   ·rw[if_neg d]at a;(have j:(m.kind==5)=false:=by simp[d]);have c:Hid (false=G):=a;clear a f b d;go_enter func191,ntmps191;go_wp2;go_ret;exact⟨Bb c.out,(Ac.refl _ _).alloc _⟩
 ·have l:((m.place:Int)+(m.text.size:Int) !=(place:Int))=true:=by simp;omega
  rw[if_pos (by omega)]at a;have c:Hid (false=G):=a;clear a f;go_enter func191,ntmps191;go_wp2;go_ret;exact⟨Bb c.out,(Ac.refl _ _).alloc _⟩
theorem XK{s:cL}(h:0<s.size):Cz s 0 48=((s[0].toNat:Int)==48):=by
 have e:((s[0].toNat:Int)==48)=(s[0]==48):=B8 s[0] 48;rw[e];simp[Cz,h]
def He(m:AV):Bool:=
 if m.kind=2 then decide (m.text.size<=4)
 else if m.kind=3 then decide (m.text.size=1)||(decide (m.text.size<=3)&& !(Cz m.text 0 48))
 else true
theorem Rs(m:AV)(w:World)(o:m.text.size<=1000000)(g:m.kind=3->0<m.text.size):
  Calls prog 157 #[.agg (Ba m).toArray] w λe j=>e= .returned (.bool (He m))/\Ac [] w j:=by
 simp only[Ba];obtain⟨G,h⟩:∃G,He m=G:=⟨_,rfl⟩;rw[h];have a:=h;unfold He at a;clear h;by_cases b:m.kind=2
 ·have l:(m.kind==2)=true:=by simp[b]
  rw[if_pos b]at a;have c:Hid (decide (m.text.size<=4)=G):=a;clear a b g;go_enter func157,ntmps157;go_wp2;go_ret;refine⟨Bb ?_,(Ac.refl _ _).alloc _⟩;rw[<-c.out];simp
  try omega
 ·have l:(m.kind==2)=false:=by simp[b]
  rw[if_neg b]at a;by_cases d:m.kind=3
  ·(have i:(m.kind==3)=true:=by simp[d]);have k:=g d;(have n:(0:Int)<(m.text.size:Int):=by omega);rw[if_pos d,XK k]at a;have c:Hid ((decide (m.text.size=1)||(decide (m.text.size<=3)&& !((m.text[0].toNat:Int)==48)))=G):=a;clear a b d g;go_enter func157,ntmps157;go_wp2
   ·go_ret;refine⟨Bb ?_,(Ac.refl _ _).alloc _⟩;(have f:m.text.size=1:=by omega);rw[<-c.out];simp[f]
   ·go_ret;refine⟨Bb ?_,(Ac.refl _ _).alloc _⟩;(have f:¬m.text.size=1:=by omega);(have b:m.text.size<=3:=by omega);rw[<-c.out];simp only[f,b,ee,decide_true,cU,cn];simp[bne];omega
   ·go_ret;refine⟨Bb ?_,(Ac.refl _ _).alloc _⟩;(have f:¬m.text.size=1:=by omega);(have b:¬m.text.size<=3:=by omega);rw[<-c.out];simp[f,b];omega
  ·(have i:(m.kind==3)=false:=by simp[d]);rw[if_neg d]at a;have c:Hid (true=G):=a;clear a b d g;go_enter func157,ntmps157;go_wp2;go_ret;exact⟨Bb c.out,(Ac.refl _ _).alloc _⟩
theorem Tryz.info206:(Tryz.prog.info? 206).map (λi=>(i.zero,i.size,i.bytes))=some (some (.agg #[.int .i64 0, .int .i64 0, .string ⟨#[]⟩]),3,32):=by kernel_rfl
theorem Fs(m:AV):(Ba m).length=3:=rfl
theorem Fb{w:World}{base:Nat}{e:TypeId}{size:Nat}{g n cap:Nat}{b:List Value}(h:w.ownsRow base e size (.slice (some ⟨g,0,none⟩) n cap) n b)(i:Nat)(u:Value):
  (w.setCell ⟨g,i,none⟩ u).ownsRow base e size (.slice (some ⟨g,0,none⟩) n cap) n (b.set i u):=by
 refine⟨by rw[cC];exact h.1,?_⟩;rcases h.2 with⟨a,_⟩|⟨p,o,c,a,j,l,m,d,k,f⟩
 ·cases a
 ·simp only[Z6,ai,aW]at a;obtain⟨⟨rfl,_,_⟩,_,rfl⟩:=a;refine Or.inr ⟨g,cap,c.setIfInBounds i u,rfl,j,?_,m,d,by simpa using k,?_⟩
  ·simp[World.setCell,Array.getElem?_modify,l]
  ·rw[Array.toList_setIfInBounds,List.take_set,f]
theorem F8{w:World}{base:Nat}{e:TypeId}{size:Nat}{g n cap:Nat}{b:List Value}(h:w.ownsRow base e size (.slice (some ⟨g,0,none⟩) n cap) n b)(i:Nat):w.frozen? ⟨g,i,none⟩=false:=by
 rcases h.2 with⟨a,_⟩|⟨k,f,d,a,j,c,_⟩
 ·cases a
 ·simp only[Z6,ai,aW]at a;obtain⟨⟨rfl,_,_⟩,_,rfl⟩:=a;simp[World.frozen?,c]
theorem Un(r:Int):(Utf8.encode r).size<=4:=by
 unfold Utf8.encode;simp only;generalize(if Utf8.valid r=true then r.toNat else Utf8.runeError)=c
 repeat' split
 all_goals simp[ByteArray.size]
def BZ(place:Nat)(r:Int):AV:=⟨DF r,place,Utf8.encode r⟩
def JO(ms:List AV)(place:Nat)(r:Int):List AV:=
 if r=32\/r=10 then ms
 else match ms.getLast? with
  |some m=>if B7 m place r then ms.dropLast++[{m with text:=m.text++Utf8.encode r}] else ms++[BZ place r]
  |none=>ms++[BZ place r]
theorem LN{pre:List AV}{m:AV}{place:Nat}{r:Int}(h:¬(r=32\/r=10)):JO (pre++[m]) place r=if B7 m place r then pre++[{m with text:=m.text++Utf8.encode r}] else pre++[m]++[BZ place r]:=by
 unfold JO;rw[if_neg h];simp
theorem Xa(pre:List AV)(m:AV)(u:cL):((pre++[m]).flatMap Ba).set (pre.length*3+2) (.string u)=(pre++[{m with text:=u}]).flatMap Ba:=by
 have b:(pre.flatMap Ba).length=pre.length*3:=by
  induction pre with
  |nil=>rfl
  |cons a l ih=>rw[aB,am,ih,Fs,ak];omega
 simp only[aN,aB,bq,aX];rw[eh _ _ (by omega),b];simp[Ba]
set_option maxRecDepth 100000
theorem YQ(W:Value)(i:List AV)(place:Nat)(r:Int)(B:Nat)(w:World)(hB:B<=w.heap.size)(f:w.ownsRow B 206 3 W i.length (i.flatMap Ba))(FC:i.length<=1000000)(AH:place<=1000000)
  (y:∀m∈i,m.place<=1000000/\m.text.size<=1000000):
  Calls prog 156 #[W, .int .i64 place, .int .i32 r] w λe J=>∃v,e= .returned v/\J.ownsRow B 206 3 v (JO i place r).length ((JO i place r).flatMap Ba)/\Below B w J:=by
 obtain⟨T,Y,L,S,U⟩:=bj Tryz.info206;obtain⟨ad,R,rfl⟩:=Ak f;by_cases b:r=32\/r=10
 ·have j:Hid (JO i place r=i):=by show _=_;unfold JO;rw[if_pos b]
  rcases b with b|b
  ·(have Q:(r==32)=true:=by simp[b]);clear b;go_enter func156,ntmps156;go_wp2;go_ret;rw[j.out];exact⟨_,rfl,f,Below.refl _ _⟩
  ·(have Q:(r==32)=false:=by simp[b]);(have Z:(r==10)=true:=by simp[b]);clear b;go_enter func156,ntmps156;go_wp2;go_ret;rw[j.out];exact⟨_,rfl,f,Below.refl _ _⟩
 ·have Q:(r==32)=false:=by simp;omega
  have Z:(r==10)=false:=by simp;omega
  rcases List.eq_nil_or_concat i with rfl|⟨pre,m,M⟩
  ·(have j:Hid (JO [] place r=[BZ place r]):=by show _=_;unfold JO;rw[if_neg b];rfl);have N:=Ik r w;clear b y;have AB:=Ab N;clear N;go_enter func156,ntmps156;(go_wp2_with fail);refine(Aa AB).mono ?_;rintro e d ⟨rfl,V⟩;rw[V];clear V d;go_wp2_with (at_builtin;refine ay _ rfl (.tmp 40) (.tmp 47) _ rfl B 206 T _ 3 32 underlying200 Y L S U rfl (by omega) (.slice ad 0 R) 0 [] rfl (ah f _) ⟨w.heap.size,0,none⟩ 1 1 (Ba (BZ place r)) rfl rfl (aF (cs:=(Ba (BZ place r)).toArray) (t:=206) (fr:=(0,0)) (aS w _)) (by simp[Value.oneCell',Ba]) (by omega) (by unfold maxLen;omega) (by omega) (by simp;omega) (w.heap.size+1) (by simp) ?_;intro g1 Bx d F n x o)
   have H:Below B w d:=((Below.refl B w).alloc hB _).grown n (by simp;omega) (λq A=>(f.lt q A).1);clear n x o;go_wp2;go_ret;rw[j.out];refine⟨_,rfl,?_,H⟩;simpa using F
  ·rw[List.concat_eq_append]at M;subst M;have j:=Ab (LN (pre:=pre) (m:=m) (place:=place) b);(have p:pre.length<(pre++[m]).length:=by simp);obtain⟨g,EY,X,hc,s⟩:=AE f (λc _=>Fs c) pre.length p;simp only[Z6]at X;obtain⟨rfl,_,rfl⟩:=X;have I:=s pre.length p 0 (by omega);have C:=s pre.length p 1 (by omega);have u:=s pre.length p 2 (by omega);simp[Ba]at I C u;have E:=y m (by simp);have K:=F8 f (pre.length*3+2);(have o:(pre++[m]).length=pre.length+1:=by simp);(have FO:pre.length<=1000000:=by omega);have z:=Tc m place r w E.1 E.2 AH;simp only[Ba]at z;have P:=Ab z;clear s b z y;rw[o]at f⊢;cases hgo:B7 m place r with
   |true=>
    have G:=Ab hgo;go_enter func156,ntmps156;(go_wp2_with fail);refine(Aa P).mono ?_;rintro e d ⟨rfl,a⟩;rw[hgo];have l:=Ad f a (by simp);have EX:=F8 l (pre.length*3+2);have FP:d.cell? ⟨g,pre.length*3+2,none⟩=some (.string m.text):=by
     have CL:=(f.lt g rfl).2;rw[World.cell?_of_block (w:=w) (a.block g CL (by simp))];exact u
    have D:Below B w d:=⟨a.os,a.tape,a.output,a.size,λk hk=>a.block k (by omega) (by simp)⟩;clear I C u K a hgo;have EK:=Un r;have FF:=E.2;go_wp2;go_ret;rw[Aa j,Aa G,if_pos rfl];refine⟨_,rfl,?_,D.setCell (f.lt g rfl).1 _⟩;have h:=Fb l (pre.length*3+2) (.string (m.text++Utf8.encode r));rw[Xa]at h;simpa using h
   |false=>
    have G:=Ab hgo;go_enter func156,ntmps156;(go_wp2_with fail);refine(Aa P).mono ?_;rintro e d ⟨rfl,a⟩;rw[hgo];have l:=Ad f a (by simp);have D:Below B w d:=⟨a.os,a.tape,a.output,a.size,λk hk=>a.block k (by omega) (by simp)⟩;have FL:=a.size;clear I C u K a hgo;(go_wp2_with fail);refine(Ik r d).mono ?_;rintro e w2 ⟨rfl,O⟩;rw[O];clear O w2;go_wp2_with (at_builtin;refine ay _ rfl (.tmp 40) (.tmp 47) _ rfl B 206 T _ 3 32 underlying200 Y L S U rfl (by omega) (.slice (some ⟨g,0,none⟩) (pre.length+1) R) (pre.length+1) ((pre++[m]).flatMap Ba) rfl (ah l _) ⟨d.heap.size,0,none⟩ 1 1 (Ba (BZ place r)) rfl rfl (aF (cs:=(Ba (BZ place r)).toArray) (t:=206) (fr:=(0,0)) (aS d _)) (by simp[Value.oneCell',Ba]) (by omega) (by unfold maxLen;omega) (by omega) (by simp;omega) (d.heap.size+1) (by simp) ?_;intro g1 Bx w3 F n x o)
    have H:Below B w w3:=(D.alloc (by omega) _).grown n (by simp;omega) (λq A=>(l.lt q A).1);clear n x o;go_wp2;go_ret;rw[Aa j,Aa G,if_neg (by simp)];refine⟨_,rfl,?_,H⟩;simpa using F
end Go.Proofs.YtoihbhenbmffcaaGreatDoor
namespace Go.Proofs.YtoihbhenbmffcaaGreatDoor
open Go.RowKit
open Go.Proofs.Tryz
structure W6(F:Type) where
 pos:List F
 neg:List F
 head:F
section
variable {F:Type} (I:W6 F->Prop) (lev:F->Nat)
structure Jz:Prop where
 pos:∀i,I i->∀g∈i.pos,lev g<=lev i.head
 neg:∀i,I i->∀g∈i.neg,lev g<lev i.head
def Ir(i:W6 F)(P N:F->Prop):Prop:=(∀g∈i.pos,P g)/\∀g∈i.neg,¬N g
def JG(M:F->Prop):Prop:=∀i,I i->Ir i M M->M i.head
def Io(M:F->Prop)(n:Nat):Prop:=∀S:F->Prop,(∀f,M f->lev f<n->S f)->(∀i,I i->lev i.head=n->Ir i S M->S i.head)->∀f,M f->lev f=n->S f
theorem Lr(l:Jz I lev){M N:F->Prop}(d:JG I N)(k:∀n,Io I lev M n):∀n,(∀f,lev f<n->(M f↔N f))->∀f,M f->lev f=n->N f:=by
 intro n ih f e m;refine k n N (λg a j=>(ih g j).1 a) (λi c o b=>?_) f e m;refine d i c ⟨b.1,λg a h=>b.2 g a ?_⟩;exact(ih g (by have:=l.neg i c g a;omega)).2 h
theorem ZE(c:Jz I lev){M N:F->Prop}(m:JG I M)(j:∀n,Io I lev M n)(e:JG I N)(k:∀n,Io I lev N n):∀f,M f↔N f:=by
 have d:∀n f,lev f<n->(M f↔N f):=by
  intro n
  induction n with
  |zero=>intro f h;omega
  |succ n ih=>
   intro f h;by_cases i:lev f<n
   ·exact ih f i
   ·(have b:lev f=n:=by omega);exact⟨λa=>Lr I lev c e j n ih f a b,λa=>Lr I lev c m k n (λg l=>(ih g l).symm) f a b⟩
 intro f;exact d (lev f+1) f (by omega)
structure C5(n:Nat)(s:F->Prop):Prop where
 top:∀f,s f->lev f<=n
 closed:∀i,I i->lev i.head<n->Ir i s s->s i.head
 least:∀m,m<=n->Io I lev s m
theorem C5.start:C5 I lev 0 (λ_=>False):=
 ⟨λf h=>h.elim,λi _ h=>by omega,λm _ S _ _ f h=>h.elim⟩
theorem C5.step(p:Jz I lev){n:Nat}{s:F->Prop}(h:C5 I lev n s){i:W6 F}(q:I i)(k:lev i.head=n)(l:Ir i s s):C5 I lev n (λf=>s f\/f=i.head):=by
 have r:∀j,I j->lev j.head<=n->((∀g∈j.neg,¬(s g\/g=i.head))↔∀g∈j.neg,¬s g):=by
  intro j d v;constructor
  ·intro o g a c;exact o g a (Or.inl c)
  ·intro o g a c;rcases c with c|c
   ·exact o g a c
   ·have:=p.neg j d g a;rw[c,k]at this;omega
 refine⟨λf b=>?_,λj d v e=>?_,λm D S t w f b y=>?_⟩
 ·rcases b with b|b
  ·exact h.top f b
  ·rw[b,k];omega
 ·refine Or.inl (h.closed j d v ⟨λg a=>?_,(r j d (by omega)).1 e.2⟩);rcases e.1 g a with c|c
  ·exact c
  ·have:=p.pos j d g a;rw[c,k]at this;omega
 ·have u:∀g,s g->lev g=m->S g:=λg a E=>h.least m D S (λx C z=>t x (Or.inl C) z) (λj d B e=>w j d B ⟨e.1,(r j d (by omega)).2 e.2⟩) g a E
  rcases b with b|b
  ·exact u f b y
  ·subst b;(have A:m=n:=by omega);subst A;refine w i q k ⟨λg a=>?_,(r i q (by omega)).2 l.2⟩;by_cases G:lev g<lev i.head
   ·exact t g (Or.inl (l.1 g a)) (by omega)
   ·exact u g (l.1 g a) (by have:=p.pos i q g a;omega)
theorem C5.next{n:Nat}{s:F->Prop}(h:C5 I lev n s)(g:∀i,I i->lev i.head=n->Ir i s s->s i.head):C5 I lev (n+1) s:=by
 refine⟨λf a=>by have:=h.top f a;omega,λi c l b=>?_,λm k=>?_⟩
 ·by_cases d:lev i.head=n
  ·exact g i c d b
  ·exact h.closed i c (by omega) b
 ·by_cases e:m<=n
  ·exact h.least m e
  ·intro S _ _ f a j;have:=h.top f a;omega
theorem C5.done{n:Nat}{s:F->Prop}(h:C5 I lev n s)(e:∀i,I i->lev i.head<n):JG I s/\∀m,Io I lev s m:=by
 refine⟨λi a d=>h.closed i a (e i a) d,λm=>?_⟩;by_cases b:m<=n
 ·exact h.least m b
 ·intro S _ _ f c g;have:=h.top f c;omega
theorem C5.cong{n:Nat}{s t:F->Prop}(h:C5 I lev n s)(e:∀f,s f↔t f):C5 I lev n t:=by
 have:s=t:=funext λf=>propext (e f)
 rw[<-this];exact h
end
theorem V3{F:Type}(I:W6 F->Prop)(a c:F->Nat)(e:Jz I a)(A:Jz I c){M N:F->Prop}(r:JG I M)(w:∀n,Io I a M n)(t:JG I N)(q:∀n,Io I c N n):∀f,M f↔N f:=by
 have s:∀n f,a f<n->(M f↔N f):=by
  intro n
  induction n with
  |zero=>intro f h;omega
  |succ n ih=>
   have y:∀k g,c g<k->N g->a g<=n->M g:=by
    intro k
    induction k with
    |zero=>intro g h;omega
    |succ k ihk=>
     intro g B p o;by_cases d:c g<k
     ·exact ihk g d p o
     ·refine q k (λx=>a x<=n->M x) (λf u v=>ihk f v u) (λi j C m D=>?_) g p (by omega) o;refine r i j ⟨λx b=>m.1 x b (by have:=e.pos i j x b;omega),λx b z=>m.2 x b ?_⟩;exact(ih x (by have:=e.neg i j x b;omega)).1 z
   intro f h;by_cases d:a f<n
   ·exact ih f d
   ·exact⟨λl=>Lr I a e t w n ih f l (by omega),λl=>y (c f+1) f (by omega) l (by omega)⟩
 intro f;exact s (a f+1) f (by omega)
