import Derived.WalkKit
import Derived.Deep.AppendLies
import Derived.Deep.QuietTactic
import Derived.BigQuiet
import Derived.Deep.LoopGhost
import Derived.Deep.MidRow
import Derived.Handy
import Derived.Test.YtoihbhenbmffcaaGreatDoorProg
set_option linter.all false
set_option maxHeartbeats 0
namespace Go.Proofs.YtoihbhenbmffcaaGreatDoor
open Go.RowKit Go.Proofs.Tryz
abbrev cR:=ByteArray
abbrev bH:=@List.setIfInBounds_toArray
abbrev bI:=@List.set_cons_zero
abbrev bJ:=@List.set_cons_succ
abbrev bK:=@Go.Value.slice.injEq
abbrev bL:=@List.getElem_mem
abbrev bM:=@List.take_succ_eq_append_getElem
abbrev bN:=@Bool.false_eq_true
abbrev bO:=@List.mem_singleton
abbrev bP:=@List.take_of_length_le
abbrev bQ:=@Go.World.ownsRow.alloc
abbrev bR:=@Option.some.injEq
abbrev bS:=@List.mem_cons
abbrev bT:=@List.getD_eq_getElem?_getD
abbrev bU:=@List.length_cons
abbrev bV:=@List.mem_map
abbrev bW:=@List.getElem?_eq_getElem
abbrev bX:=@List.length_map
abbrev bY:=@List.mem_append
abbrev bZ:=@Nat.le_refl
abbrev b8:=@Nat.zero_le
abbrev cc:=@List.length_append
abbrev cd:=@Go.wpList_append_lies
abbrev cg:=@List.flatMap_cons
abbrev ci:=@List.drop_eq_getElem_cons
abbrev cj:=@Go.World.news_of_block
abbrev ck:=@Go.World.ownsRow_nil
abbrev cm:=@List.mem_map_of_mem
abbrev cn:=@List.mem_filter
abbrev cq:=@Bool.and_eq_true
abbrev cu:=@List.map_cons
abbrev cw:=@List.flatMap_append
abbrev cA:=@Go.heap_alloc_new
abbrev cB:=@Go.bodyPost_ret
abbrev cC:=@List.foldl_cons
abbrev cD:=@Go.World.size_alloc
abbrev cE:=@List.length_nil
abbrev cF:=@List.mem_cons_of_mem
abbrev cG:=@List.drop_eq_nil_of_le
abbrev cH:=@ByteArray.size_append
abbrev cI:=@Go.Addr.mk.injEq
abbrev cJ:=@beq_eq_false_iff_ne
abbrev cK:=@List.append_nil
abbrev cM:=@List.length_take
abbrev cN:=@List.getElem_of_mem
abbrev cO:=@List.mem_flatMap
abbrev cP:=@Prod.mk.injEq
abbrev cQ:=@List.length_drop
abbrev cS:=@Array.getElem?_eq_some_iff
abbrev cT:=@Go.ByteArray.toList_eq
abbrev cU:=@Go.info_parts
abbrev cV:=@Nat.zero_add
abbrev cW:=@List.map_append
abbrev cX:=@List.take_append_of_le_length
abbrev cY:=@List.foldl_append
abbrev cZ:=@List.flatMap_nil
abbrev da:=@Nat.le_trans
abbrev dd:=@List.append_assoc
abbrev de:=@Except.ok.injEq
abbrev dg:=@List.mem_cons_self
abbrev dh:=@List.size_toArray
abbrev di:=@List.not_mem_nil
abbrev dj:=@Nat.mul_le_mul_right
abbrev dk:=@Bool.eq_iff_iff
abbrev dl:=@List.take_append_drop
abbrev dm:=@List.nil_append
abbrev dn:=@Bool.not_false
abbrev dp:=@List.any_eq_true
abbrev dq:=@Go.all_oneCell_toArray
abbrev dr:=@Bool.or_eq_true
abbrev dt:=@List.map_map
abbrev du:=@List.map_congr_left
abbrev dv:=@List.filter_cons
abbrev dw:=@List.length_filter_le
abbrev dx:=@UInt8.toNat_inj
abbrev dy:=@List.any_eq_false
abbrev dz:=@List.getElem?_take
abbrev dA:=@List.pairwise_cons
abbrev dB:=@Go.World.ownsRow.kept
abbrev dC:=@List.find?_eq_none
abbrev dD:=@List.length_replicate
abbrev dE:=@beq_iff_eq
abbrev dF:=@Bool.true_and
abbrev dG:=@List.cons_append
abbrev dH:=@List.pairwise_iff_getElem
abbrev dI:=@List.getElem?_map
abbrev dJ:=@Nat.lt_of_lt_of_le
abbrev dK:=@Bool.false_ne_true
abbrev dL:=@List.findIdx?_eq_some_iff_getElem
abbrev dM:=@Go.wpIn_seq_k
abbrev dN:=@List.nodup_cons
abbrev dO:=@List.all_eq_true
abbrev dP:=@Go.wpList_store_mid
abbrev dQ:=@List.pairwise_map
abbrev dR:=@Int.tdiv_eq_ediv_of_nonneg
abbrev dS:=@Nat.add_mul
abbrev dU:=@Go.wpList_load_mid
abbrev dV:=@List.Pairwise.imp_of_mem
abbrev dW:=@List.nodup_nil
abbrev dX:=@List.length_set
abbrev dY:=@List.mem_filterMap
abbrev dZ:=@List.filter_append
abbrev d9:=@List.mem_of_mem_take
abbrev ec:=@Go.decode_ascii
abbrev ed:=@Go.Addr.add_lit
abbrev ee:=@Bool.and_self
abbrev eh:=@UInt8.le_iff_toNat_le
abbrev ei:=@Option.map_some
abbrev ej:=@List.find?_cons
abbrev el:=@List.getElem?_set_ne
abbrev eo:=@List.mem_of_mem_drop
abbrev ep:=@List.mem_append_left
abbrev eu:=@Array.replicate_succ
abbrev ev:=@Array.replicate_zero
abbrev ex:=@Bool.false_or
abbrev ey:=@Bool.not_true
abbrev ez:=@Bool.and_false
abbrev eC:=@Bool.false_and
abbrev eD:=@Bool.not_eq_true'
abbrev eE:=@Go.Calls.quiet_of_same
abbrev eF:=@Nat.min_eq_left
abbrev eG:=@List.take_succ_cons
abbrev eH:=@List.append_toArray
abbrev eI:=@ByteArray.size_extract
abbrev eJ:=@List.getElem?_set_self
abbrev eK:=@Option.map_eq_some_iff
abbrev eL:=@Array.getElem?_eq_none
abbrev eM:=@Go.IntKind.wrap_i64
abbrev eN:=@List.take_length
abbrev eO:=@Nat.lt_or_eq_of_le
abbrev eP:=@List.all_cons
abbrev eQ:=@Bool.or_eq_false_iff
abbrev eR:=@List.getElem_take
abbrev eS:=@List.cons.injEq
abbrev eU:=@List.push_toArray
abbrev eV:=@Go.wpIn_cond_false
abbrev eW:=@List.map_nil
abbrev eX:=@Bool.true_or
abbrev eY:=@decide_eq_false_iff_not
abbrev eZ:=@List.drop_succ_cons
abbrev e9:=@List.length_eq_zero_iff
abbrev fa:=@List.findSome?_cons
abbrev fb:=@List.toList_toArray
abbrev fc:=@Go.step_append_lies
abbrev fd:=@List.take_take
abbrev fe:=@decide_eq_true
abbrev ff:=@Go.wpIn_cond_true
abbrev fg:=@List.getElem?_drop
abbrev fh:=@List.contains_iff_mem
abbrev fi:=@decide_eq_true_eq
abbrev fj:=@List.any_cons
abbrev fm:=@List.getElem?_append_right
abbrev fo:=@List.findSome?_eq_none_iff
abbrev fp:=@List.pairwise_append
abbrev fq:=@List.getElem?_eq_some_iff
abbrev ft:=@List.drop_zero
abbrev fu:=@List.map_flatMap
abbrev fw:=@Go.run_callFunc_extern
abbrev fx:=@Go.Sem.run_bind
abbrev fA:=@Bool.or_true
abbrev fB:=@List.any_map
abbrev fC:=@Go.ready_mono
abbrev fD:=@Array.setIfInBounds_comm
abbrev fE:=@Go.results_none
abbrev fF:=@List.zip_cons_cons
abbrev fG:=@List.getElem_cons_zero
abbrev fH:=@List.filter_eq_nil_iff
abbrev fI:=@List.getElem_drop
abbrev fJ:=@List.find?_append
abbrev fK:=@Nat.min_def
abbrev fL:=@Option.mem_toList
abbrev fM:=@Go.World.ownsRow_lit
abbrev fN:=@List.take_zero
abbrev fO:=@List.findSome?_append
abbrev fP:=@decide_false
abbrev fQ:=@List.set_append_right
abbrev fR:=@ByteArray.data_append
abbrev fS:=@Nat.add_zero
abbrev fT:=@List.countP_le_length
abbrev fU:=@List.singleton_append
abbrev fV:=@Bool.toNat_false
abbrev fW:=@List.any_append
abbrev fX:=@Go.decode_high
abbrev fY:=@Option.some.inj
abbrev fZ:=@decide_eq_false
abbrev gc:=@Bool.or_self
abbrev gd:=@List.map_set
structure Ac(M:List Nat)(w w':World):Prop where
 os:w'.os=w.os
 tape:w'.tape=w.tape
 output:w'.output=w.output
 size:w.heap.size<=w'.heap.size
 block:∀k,k<w.heap.size->k∉M->w'.heap[k]?=w.heap[k]?
theorem Ac.refl(M:List Nat)(w:World):Ac M w w:=⟨rfl,rfl,rfl,bZ _,λ_ _ _=>rfl⟩
theorem Ac.trans{M:List Nat}{a b c:World}(h:Ac M a b)(k:Ac M b c):Ac M a c:=
 ⟨k.os.trans h.os,k.tape.trans h.tape,k.output.trans h.output,da h.size k.size,
  λi e d=>(k.block i (dJ e h.size) d).trans (h.block i e d)⟩
theorem Ac.trans'{M N:List Nat}{a b c:World}(h:Ac M a b)(k:Ac N b c)(j:∀i,i∈N->i∈M\/a.heap.size<=i):Ac M a c:=
 ⟨k.os.trans h.os,k.tape.trans h.tape,k.output.trans h.output,da h.size k.size,
  λi f d=>(k.block i (dJ f h.size) (λg=>by rcases j i g with e|e;exact d e;omega)).trans (h.block i f d)⟩
theorem Ac.mono{M N:List Nat}{w w':World}(h:Ac M w w')(a:∀i,i∈M->i∈N):Ac N w w':=
 ⟨h.os,h.tape,h.output,h.size,λk c b=>h.block k c (λd=>b (a k d))⟩
theorem Ac.drew{M:List Nat}{a w:World}(h:Ac M a w):Ac M a w.drew:=⟨h.os,h.tape,h.output,h.size,h.block⟩
theorem Ac.drewN{M:List Nat}{a w:World}(h:Ac M a w)(n:Nat):Ac M a (w.drewN n):=⟨h.os,h.tape,h.output,h.size,h.block⟩
theorem Ac.alloc{M:List Nat}{a w:World}(h:Ac M a w)(o:Obj):Ac M a (w.alloc o):=
 h.trans ⟨rfl,rfl,rfl,by simp,λk b _=>Below.heap_alloc _ _ _ b⟩
theorem Ac.setCell{M:List Nat}{a w:World}(h:Ac M a w){p:Addr}(b:p.block∈M\/a.heap.size<=p.block)(u:Value):Ac M a (w.setCell p u):=
 h.trans' (N:=[p.block]) ⟨rfl,rfl,rfl,by simp[World.setCell],λk _ c=>Below.heap_setCell _ _ _ _ (by simpa using c)⟩ (by simpa using b)
theorem Ac.grown{M:List Nat}{a w w':World}{d:Option Nat}(h:Ac M a w)(b:w.grownBy w' d)(j:∀k,d=some k->k∈M\/a.heap.size<=k):Ac M a w':=
 ⟨b.os.trans h.os,b.tape.trans h.tape,b.output.trans h.output,da h.size b.size,
  λi g c=>(b.block i (dJ g h.size) (λe=>by rcases j i e.symm with f|f;exact c f;omega)).trans (h.block i g c)⟩
theorem Ac.below{w w':World}(h:Ac [] w w'):Below w.heap.size w w':=⟨h.os,h.tape,h.output,h.size,λk a=>h.block k a (by simp)⟩
def AE(w:World)(b:Nat)(cs:List Value)(t:TypeId):Prop:=w.heap[b]?=some (.cells cs.toArray t (0,0))
theorem AE.lt{w:World}{b:Nat}{cs:List Value}{t:TypeId}(h:AE w b cs t):b<w.heap.size:=(cS.1 h).1
theorem AE.cell{w:World}{b:Nat}{cs:List Value}{t:TypeId}(h:AE w b cs t)(i:Nat):w.cell? ⟨b,i,none⟩=cs[i]?:=by
 unfold AE at h;simp[World.cell?,h]
theorem AE.frozen{w:World}{b:Nat}{cs:List Value}{t:TypeId}(h:AE w b cs t)(i:Nat):w.frozen? ⟨b,i,none⟩=false:=by
 unfold AE at h;simp[World.frozen?,h]
theorem AE.set{w:World}{b:Nat}{cs:List Value}{t:TypeId}(h:AE w b cs t)(i:Nat)(u:Value):AE (w.setCell ⟨b,i,none⟩ u) b (cs.set i u) t:=by
 unfold AE at*;simp[World.setCell,Array.getElem?_modify,h]
theorem AE.dT{w:World}{b:Nat}{cs:List Value}{t:TypeId}(h:AE w b cs t)(p:Addr)(a:p.block≠b)(u:Value):AE (w.setCell p u) b cs t:=by
 unfold AE at*;rw[Below.heap_setCell _ _ _ _ (λe=>a e.symm)];exact h
theorem AE.alloc{w:World}{b:Nat}{cs:List Value}{t:TypeId}(h:AE w b cs t)(o:Obj):AE (w.alloc o) b cs t:=by
 have:=h.lt;unfold AE at*;rw[Below.heap_alloc _ _ _ this];exact h
theorem AE.new(w:World)(cs:List Value)(t:TypeId):AE (w.alloc (.cells cs.toArray t)) w.heap.size cs t:=by
 exact cA w _
theorem AE.kept{M:List Nat}{w w':World}{b:Nat}{cs:List Value}{t:TypeId}(h:AE w b cs t)(k:Ac M w w')(a:b∉M):AE w' b cs t:=by
 have:=h.lt;unfold AE at*;rw[k.block b this a];exact h
theorem AE.drew{w:World}{b:Nat}{cs:List Value}{t:TypeId}(h:AE w b cs t):AE w.drew b cs t:=h
theorem AE.drewN{w:World}{b:Nat}{cs:List Value}{t:TypeId}(h:AE w b cs t)(n:Nat):AE (w.drewN n) b cs t:=h
theorem AE.range{w:World}{b:Nat}{cs:List Value}{t:TypeId}(h:AE w b cs t):w.rangeAt b 0 cs:=λj v a=>by rw[cV,h.cell];exact a
theorem AE.there{w:World}{b:Nat}{cs:List Value}{t:TypeId}(h:AE w b cs t):w.there b 0 cs.length:=λj a=>by
 rw[cV,h.cell,h.frozen];simp[a]
theorem Ad{M:List Nat}{w w':World}{base:Nat}{e:TypeId}{size:Nat}{v:Value}{n:Nat}{a:List Value}(h:w.ownsRow base e size v n a)(k:Ac M w w')(d:∀i,i∈M->i<base):w'.ownsRow base e size v n a:=by
 refine⟨h.1,?_⟩;rcases h.2 with o|⟨g,f,c,rfl,j,b,l⟩
 .exact .inl o
 .refine .inr ⟨g,f,c,rfl,j,?_,l⟩;rw[k.block g (cS.1 b).1 (λm=>by have:=d g m;omega)];exact b
theorem Al{M:List Nat}{w w':World}{base:Nat}{e:TypeId}{size:Nat}{v:Value}{n:Nat}{a:List Value}(h:w.ownsRow base e size v n a)(k:Ac M w w')(d:∀i,v.ownBlock=some i->i∉M):w'.ownsRow base e size v n a:=by
 refine⟨h.1,?_⟩;rcases h.2 with m|⟨g,f,c,rfl,j,b,l⟩
 .exact .inl m
 .refine .inr ⟨g,f,c,rfl,j,?_,l⟩;rw[k.block g (cS.1 b).1 (d g rfl)];exact b
theorem Ak{w:World}{base base':Nat}{e:TypeId}{size:Nat}{v:Value}{n:Nat}{a:List Value}(h:w.ownsRow base e size v n a)(i:base'<=base):w.ownsRow base' e size v n a:=by
 refine⟨h.1,?_⟩;rcases h.2 with f|⟨g,c,b,rfl,j,d⟩
 .exact .inl f
 .exact .inr ⟨g,c,b,rfl,by omega,d⟩
theorem E0{w:World}{base:Nat}{e:TypeId}{size:Nat}{v:Value}{n:Nat}{a:List Value}(h:w.ownsRow base e size v n a):w.drew.ownsRow base e size v n a:=h
theorem CQ{w:World}{base:Nat}{e:TypeId}{size:Nat}{v:Value}{n:Nat}{a:List Value}(h:w.ownsRow base e size v n a)(k:Nat):(w.drewN k).ownsRow base e size v n a:=h
theorem Ag{w:World}{base:Nat}{e:TypeId}{size:Nat}{v:Value}{n:Nat}{b:List Value}(h:w.ownsRow base e size v n b){p:Addr}(c:v.ownBlock≠some p.block)(u:Value):(w.setCell p u).ownsRow base e size v n b:=
 Al h ((Ac.refl [p.block] w).setCell (by simp) u) (λi d a=>c (by simp at a;rw[d,a]))
theorem A0{w:World}{base:Nat}{e:TypeId}{size:Nat}{v:Value}{n:Nat}{a:List Value}(h:w.ownsRow base e size v n a)(k:Nat)(b:k<base):v.ownBlock≠some k:=λe=>by
 have:=(h.lt k e).1;omega
theorem AE.grown{w w':World}{b:Nat}{cs:List Value}{t:TypeId}{a:Option Nat}(h:AE w b cs t)(k:w.grownBy w' a)(c:a≠some b):AE w' b cs t:=by
 have:=h.lt;unfold AE at*;rw[k.block b this (λe=>c e.symm)];exact h
theorem BL{P:Program}{fn:Func}{p:Tmp}{a:TypeId}(h:fn.results=#[.cell p a]){tmps:Array Value}{w:World}{b:Nat}{cs:List Value}{t:TypeId}{d:TypeDesc}
  (e:tmps.getD p undef=.pointer (some ⟨b,0,none⟩)) (j:AE w b cs t) (i:P.underlying a=some d) (c:d.isRow=true) (k:(P.info? a).map (·.size)=some cs.length):
  (results fn tmps).run P w=.ok (.agg cs.toArray) w:=by
 have g:=run_loadVar_mid (P:=P) w b 0 a cs d j.range i c k;have f:tmps[p]?.getD undef=.pointer (some ⟨b,0,none⟩):=by simpa using e
 simp only[results,h];simp[fx,Result.andThen,f,g,asAddr]
theorem AC{P:Program}{fn:Func}{p u:Tmp}{a:TypeId}(h:fn.results=#[.cell p a,.tmp u]){tmps:Array Value}{w:World}{b:Nat}{cs:List Value}{t:TypeId}{d:TypeDesc}
  (e:tmps.getD p undef=.pointer (some ⟨b,0,none⟩)) (i:AE w b cs t) (g:P.underlying a=some d) (c:d.isRow=true) (j:(P.info? a).map (·.size)=some cs.length):
  (results fn tmps).run P w=.ok (.tuple #[.agg cs.toArray,tmps.getD u undef]) w:=by
 have f:=run_loadVar_mid (P:=P) w b 0 a cs d i.range g c j;rw[results_cell_tmp h];simp[fx,Result.andThen,e,f,asAddr]
theorem Co{w:World}{base:Nat}{e:TypeId}{size:Nat}{v:Value}{n:Nat}{b:List Value}(h:w.ownsRow base e size v n b):∃c a,v=.slice c n a:=by
 rcases h.2 with⟨rfl,rfl⟩|⟨g,a,d,rfl,_⟩
 .exact⟨none,0,rfl⟩
 .exact⟨_,a,rfl⟩
theorem Tt{α:Type}(f:α->List Value)(a:Nat):∀(l:List α),(∀x∈l,(f x).length=a)->∀(i:Nat) (b:i<l.length) (k:Nat),k<a->(l.flatMap f)[i*a+k]?=(f l[i])[k]?
 |[],_,i,b,_,_=>by simp at b
 |x::l,h,0,_,k,hk=>by
  have c:=h x (by simp);simp only[cg,Nat.zero_mul,cV,fG];rw[List.getElem?_append_left (by omega)]
 |x::l,h,i+1,b,k,hk=>by
  have c:=h x (by simp);have ih:=Tt f a l (λy d=>h y (by simp[d])) i (by simpa using b) k hk;simp only[cg,List.getElem_cons_succ];rw[fm (by rw[c,dS];omega),c,dS,Nat.one_mul,show i*a+a+k-a=i*a+k by omega];exact ih
theorem Av{α:Type}{f:α->List Value}{a:Nat}{w:World}{base:Nat}{e:TypeId}{v:Value}{l:List α}(h:w.ownsRow base e a v l.length (l.flatMap f))(m:∀x∈l,(f x).length=a)(i:Nat)(t:i<l.length):
  ∃g b,v=.slice (some ⟨g,0,none⟩) l.length b/\l.length<=b/\∀j (c:j<l.length) k,k<a->w.cell? ⟨g,j*a+k,none⟩=(f l[j])[k]?:=by
 rcases h.2 with⟨_,r⟩|⟨g,b,q,rfl,_,o,p,_,s,n⟩
 .omega
 .refine⟨g,b,rfl,p,λj c k d=>?_⟩;rw[<-Tt f a l m j c k d,<-n,dz,if_pos (by have:(j+1)*a<=l.length*a:=dj _ c;rw[dS]at this;omega)];simp[World.cell?,o]
theorem Aj{w:World}{base:Nat}{e:TypeId}{c n:Nat}{v:Value}{b:List Value}(h:w.ownsRow base e c v n b):∃d a,v=.slice d n a:=Co h
def Ae(x:cR):List Value:=[.string x]
theorem Ab{p:Prop}(h:p):Hid p:=h
theorem Aa{p:Prop}(h:Hid p):p:=h
theorem Tryz.gW:(Tryz.prog.info? 9).map (λi=>(i.zero,i.size,i.bytes))=some (some (.string ⟨#[]⟩),1,16):=by kernel_rfl
def BO(s:cR)(at_:Nat)(bad:Bool):List Value:=[.string s,.int .i64 at_,.bool bad]
def Az(c:UInt8):Bool:=97<=c&&c<=122
def Eh(c:UInt8):Bool:=65<=c&&c<=90
def Ap(c:UInt8):Bool:=48<=c&&c<=57
def E4(c:UInt8):Bool:=c==32||c==10
theorem Bc{a b:Bool}(h:a=b):Ending.returned (.bool a)=.returned (.bool b):=by rw[h]
theorem ZW{k:IntKind}{a b:Int}(h:a=b):Ending.returned (.int k a)=.returned (.int k b):=by rw[h]
theorem Hs(n:Int)(c:UInt8)(w:World)(h:n=c.toNat):Calls prog 169 #[.int .u8 n] w λe a=>e=.returned (.bool (Az c))/\a=w:=by
 subst h;go_enter func169,ntmps169;go_wp2;all_goals go_ret
 all_goals refine⟨Bc ?_,rfl⟩
 all_goals (rw[dk];simp[Az,eh];try omega)
theorem L8(n:Int)(c:UInt8)(w:World)(h:n=c.toNat):Calls prog 170 #[.int .u8 n] w λe a=>e=.returned (.bool (Eh c))/\a=w:=by
 subst h;go_enter func170,ntmps170;go_wp2;all_goals go_ret
 all_goals refine⟨Bc ?_,rfl⟩
 all_goals (rw[dk];simp[Eh,eh];try omega)
theorem Cl(n:Int)(c:UInt8)(w:World)(h:n=c.toNat):Calls prog 55 #[.int .u8 n] w λe a=>e=.returned (.bool (Ap c))/\a=w:=by
 subst h;go_enter func55,ntmps55;go_wp2;all_goals go_ret
 all_goals refine⟨Bc ?_,rfl⟩
 all_goals (rw[dk];simp[Ap,eh];try omega)
def Af(s:cR)(at_:Nat):Nat:=
 if h:at_<s.size then(if E4 s[at_] then Af s (at_+1)else at_)else at_
def AQ(s:cR)(at_:Nat)(bad:Bool):Nat:=if bad then at_ else Af s at_
theorem Bk(s:cR)(at_:Nat)(h:at_<=s.size):Af s at_<=s.size:=by
 fun_induction Af s at_<;>omega
theorem Cv(s:cR)(at_:Nat):at_<=Af s at_:=by
 fun_induction Af s at_<;>omega
theorem Jz(s:cR)(at_:Nat):AQ s at_ true=at_:=rfl
theorem X7(s:cR)(at_:Nat)(h:¬at_<s.size)(a:Bool):AQ s at_ a=at_:=by
 unfold AQ;rw[Af];simp[h]
theorem Vf(s:cR)(at_:Nat)(h:at_<s.size)(a:E4 s[at_]=true):AQ s at_ false=AQ s (at_+1) false:=by
 unfold AQ;rw[Af];simp[h,a]
theorem TM(s:cR)(at_:Nat)(h:at_<s.size)(a:E4 s[at_]=false):AQ s at_ false=at_:=by
 unfold AQ;rw[Af];simp[h,a]
theorem B2(c k:UInt8):((c.toNat:Int)==(k.toNat:Int))=(c==k):=by
 rw[dk];simp only[dE];constructor
 .intro h;exact dx.1 (by omega)
 .intro h;rw[h]
theorem Sb(c:UInt8):(((c.toNat:Int)==32)=true/\E4 c=true)\/(((c.toNat:Int)==32)=false/\((c.toNat:Int)==10)=true/\E4 c=true)\/
  (((c.toNat:Int)==32)=false/\((c.toNat:Int)==10)=false/\E4 c=false):=by
 have b:((c.toNat:Int)==32)=(c==32):=B2 c 32;have a:((c.toNat:Int)==10)=(c==10):=B2 c 10;rw[b,a];unfold E4;cases(c==32)<;>cases(c==10)<;>simp
theorem CZ(b:Nat)(s:cR)(at_:Nat)(a:Bool)(w:World)(J:s.size<=1000000)(C:at_<=s.size)(F:AE w b (BO s at_ a) 73):
  Calls prog 43 #[.pointer (some ⟨b,0,none⟩)] w λe t=>e=.returned (.tuple #[])/\AE t b (BO s (AQ s at_ a) a) 73/\Ac [b] w t:=by
 go_enter func43,ntmps43;go_wp2
 go_loopg [] (s.size-at_) (λk wr=>∃j:Nat,j<=s.size/\k=s.size-j/\AQ s j a=AQ s at_ a/\AE wr b (BO s j a) 73/\Ac [b] w wr)
 case atStart=>exact⟨at_,C,rfl,rfl,F,Ac.refl _ _⟩
 case round=>
  obtain⟨j,K,x,v,d,f⟩:=hrel;have A:=d.cell 0;have G:=d.cell 1;have E:=d.cell 2;have L:=d.frozen 1;simp[BO]at A G E;have l:Hid (gk=s.size-j/\AQ s j a=AQ s at_ a):=⟨x,v⟩;clear x v;have z:AQ s j a=j->AE wr b (BO s (AQ s at_ a) a) 73:=λh=>by rw[<-l.out.2,h];exact d
  have o:Hid (AQ s j a=j->AE wr b (BO s (AQ s at_ a) a) 73):=z;clear z;cases a with
  |true=>
   go_wp2
   go_quiet (fail)
   go_wp2;go_end0;exact⟨rfl,o.out rfl,f.drewN _⟩
  |false=>
   by_cases m:j<s.size
   ·(have I:(j:Int)<(s.size:Int):=by omega);have u:Hid (E4 s[j]=true->∃c:Nat,c<=s.size/\s.size-(j+1)=s.size-c/\AQ s c false=AQ s at_ false/\∀n,AE ((wr.drewN n).setCell ⟨b,1,none⟩ (.int .i64 (j+1))) b (BO s c false) 73/\Ac [b] w ((wr.drewN n).setCell ⟨b,1,none⟩ (.int .i64 (j+1)))):=by
     intro h;refine⟨j+1,by omega,rfl,?_,λn=>⟨?_,?_⟩⟩
     .rw[<-l.out.2,Vf s j m h]
     .exact(d.drewN n).set 1 _
     .exact(f.drewN n).setCell (by simp) _
    rcases Sb s[j] with⟨y,g⟩|⟨y,B,g⟩|⟨y,B,g⟩
    .clear d f;go_wp2
     go_quiet (fail)
     go_wp2
     go_roundg (s.size-(j+1))
     case measure=>have:=l.out.1;omega
     case rel=>
      obtain⟨c,q,r,p,i⟩:=u.out g;exact⟨c,q,r,p,(i _).1,(i _).2⟩
    .clear d f;go_wp2
     go_quiet (fail)
     go_wp2
     go_roundg (s.size-(j+1))
     case measure=>have:=l.out.1;omega
     case rel=>
      obtain⟨c,q,r,p,i⟩:=u.out g;exact⟨c,q,r,p,(i _).1,(i _).2⟩
    .have D:Hid (E4 s[j]=false):=g;clear g;go_wp2
     go_quiet (fail)
     go_wp2;go_end0;exact⟨rfl,o.out (TM s j m D.out),f.drewN _⟩
   ·(have H:decide ((j:Int)<(s.size:Int))=false:=by simp;omega);go_wp2
    go_quiet (fail)
    go_wp2;go_end0;exact⟨rfl,o.out (X7 s j m _),f.drewN _⟩
def DW(s:cR)(j:Nat)(c:UInt8):Bool:=if h:j<s.size then s[j]==c else false
theorem F1(s:cR)(at_:Nat)(a:Bool)(h:at_<=s.size):AQ s at_ a<=s.size:=by
 unfold AQ;split
 .exact h
 .exact Bk s at_ h
theorem O3(b:Nat)(s:cR)(at_:Nat)(a:Bool)(n:Int)(c:UInt8)(w:World)(t:n=c.toNat)(r:s.size<=1000000)(l:at_<=s.size)(m:AE w b (BO s at_ a) 73):
  Calls prog 128 #[.pointer (some ⟨b,0,none⟩),.int .u8 n] w λe i=>e=.returned (.bool (!a&&DW s (AQ s at_ a) c))/\AE i b (BO s (AQ s at_ a) a) 73/\Ac [b] w i:=by
 have u:=F1 s at_ a l;subst t;obtain⟨j,g⟩:∃j,AQ s at_ a=j:=⟨_,rfl⟩;rw[g]at u⊢;have k:Hid (AQ s at_ a=j):=g;clear g;go_enter func128,ntmps128;go_wp2_with fail
 refine(CZ b s at_ a _ r l m).mono ?_;rintro e y ⟨rfl,d,f⟩;rw[k.out]at d;clear m k;have o:=d.cell 0;have v:=d.cell 1;have p:=d.cell 2;simp[BO]at o v p;cases a with
 |true=>
  go_wp2
  go_quiet (fail)
  go_wp2;go_ret;exact⟨Bc (by simp),d.drewN _,f.drewN _⟩
 |false=>
  by_cases h:j<s.size
  ·(have z:(j:Int)<(s.size:Int):=by omega);have q:Hid (((s[j].toNat:Int)==(c.toNat:Int))=(!false&&DW s j c)):=by
    show _=_;rw[B2];unfold DW;simp[h]
   go_wp2
   go_quiet (fail)
   go_wp2;go_ret;exact⟨Bc q.out,d.drewN _,f.drewN _⟩
  ·(have x:decide ((j:Int)<(s.size:Int))=false:=by simp;omega);go_wp2
   go_quiet (fail)
   go_wp2;go_ret;exact⟨Bc (by unfold DW;simp[h]),d.drewN _,f.drewN _⟩
def B3(s:cR)(j:Nat)(bad:Bool)(c:UInt8):Nat:=if !bad&&DW s (AQ s j bad) c then AQ s j bad+1 else AQ s j bad
theorem E5{s:cR}{j:Nat}{c:UInt8}(h:DW s j c=true):j<s.size:=by
 unfold DW at h;split at h
 .assumption
 .cases h
theorem Dh(s:cR)(at_:Nat)(b:Bool)(c:UInt8)(h:at_<=s.size):B3 s at_ b c<=s.size:=by
 unfold B3;have:=F1 s at_ b h;split
 .rename_i a;simp only[cq]at a;have:=E5 a.2;omega
 .exact this
theorem Lp(b:Nat)(s:cR)(at_:Nat)(a:Bool)(n:Int)(c:UInt8)(w:World)(m:n=c.toNat)(t:s.size<=1000000)(p:at_<=s.size)(o:AE w b (BO s at_ a) 73):
  Calls prog 80 #[.pointer (some ⟨b,0,none⟩),.int .u8 n] w λe k=>e=.returned (.bool (!a&&DW s (AQ s at_ a) c))/\AE k b (BO s (B3 s at_ a c) a) 73/\Ac [b] w k:=by
 have r:=F1 s at_ a p;unfold B3;obtain⟨j,i⟩:∃j,AQ s at_ a=j:=⟨_,rfl⟩;rw[i]at r⊢;obtain⟨g,h⟩:∃g,(!a&&DW s j c)=g:=⟨_,rfl⟩;rw[h];have f:Hid (AQ s at_ a=j/\(!a&&DW s j c)=g/\n=c.toNat):=⟨i,h,m⟩;clear i h m;go_enter func80,ntmps80;go_wp2_with fail
 refine(O3 b s at_ a n c _ f.out.2.2 t p o).mono ?_;rintro e v ⟨rfl,d,l⟩;rw[f.out.1,f.out.2.1];rw[f.out.1]at d;clear o f;have q:=d.cell 0;have u:=d.cell 1;have x:=d.frozen 1;simp[BO]at q u;cases g with
 |true=>
  go_wp2;go_ret;exact⟨Bc rfl,d.set 1 _,l.setCell (by simp) _⟩
 |false=>
  go_wp2;go_ret;exact⟨Bc rfl,d,l⟩
theorem LI(b:Nat)(s:cR)(at_:Nat)(a:Bool)(n:Int)(c:UInt8)(w:World)(o:n=c.toNat)(v:s.size<=1000000)(x:at_<=s.size)(p:AE w b (BO s at_ a) 73):
  Calls prog 82 #[.pointer (some ⟨b,0,none⟩),.int .u8 n] w λe l=>e=.returned (.tuple #[])/\AE l b (BO s (B3 s at_ a c) (!(!a&&DW s (AQ s at_ a) c))) 73/\Ac [b] w l:=by
 have q:Hid ((!a&&DW s (AQ s at_ a) c)=true->a=false):=by intro h;cases a<;>simp_all
 obtain⟨j,k⟩:∃j,B3 s at_ a c=j:=⟨_,rfl⟩;obtain⟨i,f⟩:∃i,(!a&&DW s (AQ s at_ a) c)=i:=⟨_,rfl⟩;rw[k,f];rw[f]at q;have g:Hid (B3 s at_ a c=j/\(!a&&DW s (AQ s at_ a) c)=i/\n=c.toNat):=⟨k,f,o⟩;clear k f o;go_enter func82,ntmps82;go_wp2_with fail
 refine(Lp b s at_ a n c _ g.out.2.2 v x p).mono ?_;rintro e r ⟨rfl,d,m⟩;rw[g.out.2.1];rw[g.out.1]at d;clear p g;have u:=d.cell 2;have y:=d.frozen 2;simp[BO]at u;cases i with
 |true=>
  have t:Hid (AE r b (BO s j (!true)) 73):=by have e:=q.out rfl;rw[e]at d;exact d
  go_wp2;go_end0;exact⟨rfl,t.out,m⟩
 |false=>
  go_wp2;go_end0;exact⟨rfl,d.set 2 _,m.setCell (by simp) _⟩
def AL(p:UInt8->Bool)(s:cR)(i:Nat):Nat:=
 if h:i<s.size then(if p s[i] then AL p s (i+1)else i)else i
theorem CG(p:UInt8->Bool)(s:cR)(i:Nat)(h:i<=s.size):AL p s i<=s.size:=by
 fun_induction AL p s i<;>omega
theorem Cu(p:UInt8->Bool)(s:cR)(i:Nat):i<=AL p s i:=by
 fun_induction AL p s i<;>omega
theorem B4(p:UInt8->Bool)(s:cR)(i:Nat)(h:i<s.size)(a:p s[i]=true):AL p s i=AL p s (i+1):=by
 rw[AL];simp[h,a]
theorem Fg(p:UInt8->Bool)(s:cR)(i:Nat)(h:i<s.size)(a:p s[i]=false):AL p s i=i:=by
 rw[AL];simp[h,a]
theorem FB(p:UInt8->Bool)(s:cR)(i:Nat)(h:¬i<s.size):AL p s i=i:=by
 rw[AL];simp[h]
def Ba(s:cR)(at_:Nat)(bad:Bool):cR×Nat×Bool:=
 if bad then(ByteArray.empty,at_,true)else
  if AL Az s (Af s at_)=Af s at_\/4<AL Az s (Af s at_)-Af s at_ then(ByteArray.empty,Af s at_,true)
  else(s.extract (Af s at_) (AL Az s (Af s at_)),AL Az s (Af s at_),false)
theorem D8{s:cR}{at_ j k:Nat}(a:Af s at_=j)(b:AL Az s j=k)(h:k=j\/4<k-j):Ba s at_ false=(ByteArray.empty,j,true):=by
 unfold Ba;rw[a,b,if_neg (by simp),if_pos h]
theorem OU{s:cR}{at_ j k:Nat}(a:Af s at_=j)(b:AL Az s j=k)(h:¬(k=j\/4<k-j)):Ba s at_ false=(s.extract j k,k,false):=by
 unfold Ba;rw[a,b,if_neg (by simp),if_neg h]
theorem Lw(b:Nat)(s:cR)(at_:Nat)(f:Bool)(w:World)(F:s.size<=1000000)(q:at_<=s.size)(m:AE w b (BO s at_ f) 73):
  Calls prog 126 #[.pointer (some ⟨b,0,none⟩)] w λe x=>e=.returned (.string (Ba s at_ f).1)/\AE x b (BO s (Ba s at_ f).2.1 (Ba s at_ f).2.2) 73/\Ac [b] w x:=by
 cases f with
 |true=>
  go_enter func126,ntmps126;go_wp2_with fail
  refine(CZ b s at_ true _ F q m).mono ?_;rintro e G ⟨rfl,a,c⟩;rw[Jz]at a;clear m;have p:=a.cell 0;have v:=a.cell 1;have r:=a.cell 2;have I:=a.frozen 2;simp[BO]at p v r;go_wp2
  go_loop [4] (λi=>i=.int .i64 at_) (λ_=>0)
  case atStart=>rfl
  case round=>
   subst hrel;go_wp2;go_ret;exact⟨rfl,a.set 2 _,c.setCell (by simp) _⟩
 |false=>
  obtain⟨j,t⟩:∃j,Af s at_=j:=⟨_,rfl⟩;have A:=Bk s at_ q;rw[t]at A;obtain⟨R,u⟩:∃R,Ba s at_ false=R:=⟨_,rfl⟩;rw[u];have o:Hid (Af s at_=j):=t;have z:Hid (Ba s at_ false=R):=u;clear t u;go_enter func126,ntmps126;go_wp2_with fail
  refine(CZ b s at_ false _ F q m).mono ?_;rintro e G ⟨rfl,a,c⟩;rw[show AQ s at_ false=j from o.out]at a
  clear m;have p:=a.cell 0;have v:=a.cell 1;have r:=a.cell 2;have O:=a.frozen 1;have I:=a.frozen 2;simp[BO]at p v r;go_wp2
  go_loop [4] (λi=>∃k:Nat,i=.int .i64 k/\j<=k/\k<=s.size/\AL Az s k=AL Az s j) (λi=>s.size-(intOf i).toNat)
  case atStart=>exact⟨j,rfl,bZ _,A,rfl⟩
  case round=>
   obtain⟨k,rfl,L,N,D⟩:=hrel;have C:Hid (AL Az s k=AL Az s j):=D;clear D;have y:Hid (AL Az s k=k->(((k:Int)=j\/4<(k:Int)-j)->R=(ByteArray.empty,j,true))/\(¬((k:Int)=j\/4<(k:Int)-j)->R=(s.extract j k,k,false))):=by
    intro J;(have B:AL Az s j=k:=by rw[<-C.out];exact J);exact⟨λh=>by rw[<-z.out];exact D8 o.out B (by omega),λh=>by rw[<-z.out];exact OU o.out B (by omega)⟩
   by_cases n:k<s.size
   ·(have M:(k:Int)<(s.size:Int):=by omega);by_cases l:Az s[k]=true
    ·(have H:Hid (AL Az s (k+1)=AL Az s j):=by show _=_;rw[<-B4 Az s k n l];exact C.out);go_wp2_with (go_at_call 169;refine(Hs _ s[k] _ rfl).mono ?_;rintro e K ⟨rfl,rfl⟩;rw[l])
     go_round
     case rel=>exact⟨k+1,by go_num,by omega,by omega,H.out⟩
     case measure=>simp[intOf];omega
    ·(have E:Az s[k]=false:=by simpa using l);have g:=y.out (Fg Az s k n E);have d:Hid ((((k:Int)=j\/4<(k:Int)-j)->R=(ByteArray.empty,j,true))/\(¬((k:Int)=j\/4<(k:Int)-j)->R=(s.extract j k,k,false))):=g;clear g l;go_wp2_with (go_at_call 169;refine(Hs _ s[k] _ rfl).mono ?_;rintro e K ⟨rfl,rfl⟩;rw[E])
     all_goals go_ret
     .rw[d.out.1 (by omega)];exact⟨rfl,a.set 2 _,c.setCell (by simp) _⟩
     .rw[d.out.1 (by simp_all)];exact⟨rfl,a.set 2 _,c.setCell (by simp) _⟩
     .rw[d.out.2 (by simp_all)];exact⟨rfl,a.set 1 _,c.setCell (by simp) _⟩
   .have g:=y.out (FB Az s k n);have d:Hid ((((k:Int)=j\/4<(k:Int)-j)->R=(ByteArray.empty,j,true))/\(¬((k:Int)=j\/4<(k:Int)-j)->R=(s.extract j k,k,false))):=g;clear g;go_wp2;all_goals go_ret
    .rw[d.out.1 (by omega)];exact⟨rfl,a.set 2 _,c.setCell (by simp) _⟩
    .rw[d.out.1 (by simp_all)];exact⟨rfl,a.set 2 _,c.setCell (by simp) _⟩
    .rw[d.out.2 (by simp_all)];exact⟨rfl,a.set 1 _,c.setCell (by simp) _⟩
end Go.Proofs.YtoihbhenbmffcaaGreatDoor
namespace Go.Proofs.YtoihbhenbmffcaaGreatDoor
open Go.RowKit Go.Proofs.Tryz
structure MI{α:Type}(lt:α->α->Bool)(eq:α->α->Bool):Prop where
 trans:∀a b c,lt a b=true->lt b c=true->lt a c=true
 irr:∀a,lt a a=false
 tot:∀a b,lt a b=false->eq a b=false->lt b a=true
 eqv:∀a b,eq a b=true↔a=b
def Cy{α:Type}(lt:α->α->Bool)(l:List α):Prop:=∀i j (hi:i<l.length) (hj:j<l.length),i<j->lt l[i] l[j]=true
structure CK{α:Type}(lt:α->α->Bool)(l:List α)(k:Nat)(x:α)(at_:Nat):Prop where
 ge:k<=at_
 le:at_<=l.length
 below:∀i (h:i<l.length),k<=i->i<at_->lt l[i] x=true
 gU:∀i (h:i<l.length),at_<=i->lt l[i] x=false
section
variable {α:Type} {lt eq:α->α->Bool} {l:List α}
theorem Cy.down(o:MI lt eq)(d:Cy lt l){i j:Nat}(b:j<l.length)(c:i<=j){x:α}(h:lt l[j] x=true):lt (l[i]'(by omega)) x=true:=by
 rcases eO c with a|a
 .exact o.trans _ _ _ (d i j (by omega) b a) h
 .subst a;exact h
theorem Cy.up(o:MI lt eq)(c:Cy lt l){i j:Nat}(a:j<l.length)(b:i<=j){x:α}(h:lt (l[i]'(by omega)) x=false):lt l[j] x=false:=by
 cases hh:lt l[j] x with
 |false=>rfl
 |true=>rw[c.down o a b hh]at h;cases h
def D3(eq:α->α->Bool)(l:List α)(at_:Nat)(x:α):Bool:=if h:at_<l.length then eq l[at_] x else false
theorem CK.has(o:MI lt eq)(g:Cy lt l){x:α}{at_:Nat}(h:CK lt l 0 x at_):D3 eq l at_ x=true↔x∈l:=by
 unfold D3;constructor
 .intro d;split at d
  .rename_i a;have:=(o.eqv _ _).1 d;rw[<-this];exact bL a
  .cases d
 .intro k;obtain⟨i,e,b⟩:=cN k;have j:at_<=i:=by
   by_cases f:i<at_
   .have:=h.below i e (by omega) f;rw[b,o.irr]at this;cases this
   .omega
  have a:at_<l.length:=by omega
  rw[dif_pos a];rcases eO j with c|c
  .have:=g at_ i a e c;rw[b]at this;rw[h.gU at_ a (bZ _)]at this;cases this
  .subst c;rw[b];exact(o.eqv _ _).2 rfl
def Fc(l:List α)(at_:Nat)(x:α):List α:=l.take at_++x::l.drop at_
theorem JK{at_:Nat}(h:at_<=l.length)(x:α):(Fc l at_ x).length=l.length+1:=by
 simp[Fc];omega
theorem Mq{at_:Nat}(x y:α):y∈Fc l at_ x↔y=x\/y∈l:=by
 unfold Fc;rw[bY,bS];have:y∈l↔y∈l.take at_\/y∈l.drop at_:=by rw[<-bY,dl]
 rw[this];constructor
 .rintro (h|h|h)
  .exact Or.inr (Or.inl h)
  .exact Or.inl h
  .exact Or.inr (Or.inr h)
 .rintro (h|h|h)
  .exact Or.inr (Or.inl h)
  .exact Or.inl h
  .exact Or.inr (Or.inr h)
theorem Ph:Cy lt l↔l.Pairwise (λa b=>lt a b=true):=by
 unfold Cy;rw[dH]
theorem CK.en(o:MI lt eq)(f:Cy lt l){x:α}{at_:Nat}(h:CK lt l 0 x at_)(k:D3 eq l at_ x=false):Cy lt (Fc l at_ x):=by
 rw[Ph]at f⊢;have n:∀a∈l.take at_,lt a x=true:=by
  intro a e;obtain⟨i,j,c⟩:=cN e;simp only[cM]at j;rw[eR]at c;rw[<-c];exact h.below i (by omega) (by omega) (by omega)
 have m:∀b∈l.drop at_,lt x b=true:=by
  intro b d;obtain⟨i,j,c⟩:=cN d;simp only[cQ]at j;rw[fI]at c;have g:at_<l.length:=by omega
  have p:lt x l[at_]=true:=by
   apply o.tot _ _ (h.gU at_ g (bZ _));unfold D3 at k;rw[dif_pos g]at k;exact k
  rw[<-c];by_cases q:i=0
  .subst q;simpa using p
  .exact o.trans _ _ _ p ((Ph.2 f) at_ (at_+i) g (by omega) (by omega))
 unfold Fc;rw[fp];refine⟨f.sublist (List.take_sublist _ _),?_,?_⟩
 .rw[dA];exact⟨m,f.sublist (List.drop_sublist _ _)⟩
 .intro a e b d;rcases bS.1 d with rfl|d
  .exact n a e
  .exact o.trans _ _ _ (n a e) (m b d)
theorem Cy.nodup(o:MI lt eq)(c:Cy lt l):l.Nodup:=by
 rw[Ph]at c;exact c.imp (fun{a b} h e=>by subst e;rw[o.irr]at h;cases h)
end
def E2(a b:cR):Bool:=Op.bytesLess a.toList b.toList
def am(a b:cR):Bool:=a.toList==b.toList
def ME(a b:Int):Bool:=decide (a<b)
def aL(a b:Int):Bool:=a==b
theorem Lu:∀a b c:List UInt8,Op.bytesLess a b=true->Op.bytesLess b c=true->Op.bytesLess a c=true
 |a,b,[],_,h=>by cases b<;>simp[Op.bytesLess]at h
 |[],b,_::_,_,_=>rfl
 |_::_,[],_::_,h,_=>by simp[Op.bytesLess]at h
 |x::a,y::b,z::c,e,d=>by
  simp only[Op.bytesLess,dr,fi,cq,dE]at e d⊢;rcases e with e|⟨rfl,e⟩
  .rcases d with d|⟨rfl,d⟩
   .exact Or.inl (UInt8.lt_trans e d)
   .exact Or.inl e
  .rcases d with d|⟨rfl,d⟩
   .exact Or.inl d
   .exact Or.inr ⟨rfl,Lu a b c e d⟩
theorem Nc:∀a:List UInt8,Op.bytesLess a a=false
 |[]=>rfl
 |x::a=>by simp[Op.bytesLess,Nc a]
theorem Pv:∀a b:List UInt8,Op.bytesLess a b=false->(a==b)=false->Op.bytesLess b a=true
 |[],[],_,h=>by simp at h
 |[],_::_,h,_=>by simp[Op.bytesLess]at h
 |_::_,[],_,_=>rfl
 |x::a,y::b,h,h2=>by
  simp only[Op.bytesLess,dr,fi,cq,dE,eQ,eY,Bool.and_eq_false_imp]at h⊢;by_cases c:x=y
  .subst c;refine Or.inr ⟨rfl,Pv a b (h.2 rfl) ?_⟩;simpa using h2
  .left;have d:=h.1;rw[UInt8.lt_iff_toNat_lt]at d⊢;(have:x.toNat≠y.toNat:=λe=>c (dx.1 e));omega
theorem F0:MI E2 am:=
 ⟨λa b c=>Lu _ _ _,λa=>Nc _,λa b=>Pv _ _,λa b=>by
  unfold am
  simp only[dE]
  exact⟨λh=>by
   rw[cT,cT]at h
   exact ByteArray.ext (Array.toList_inj.1 h),λh=>by rw[h]⟩⟩
theorem Pr:MI ME aL:=
 ⟨λa b c d e=>by simp[ME]at*;omega,λa=>by simp[ME],λa b d e=>by simp[ME,aL]at*;omega,λa b=>by simp[aL]⟩
end Go.Proofs.YtoihbhenbmffcaaGreatDoor
namespace Go.Proofs.YtoihbhenbmffcaaGreatDoor
open Go.RowKit Go.Proofs.Tryz
theorem P1{F fn:Nat}(Z:(F=9/\fn=165)\/(F=170/\fn=149))(V:Value)(l:List cR)(k:Nat)(x:cR)(base:Nat)(w:World)(P:w.ownsRow base F 1 V l.length (l.flatMap Ae))(CC:l.length<=1000000)(Y:k<=l.length)(Q:Cy E2 l):
  Calls prog fn #[V,.int .i64 k,.string x] w λe X=>∃H:Nat,e=.returned (.int .i64 H)/\CK E2 l k x H/\X=w:=by
 obtain⟨ad,Ax,rfl⟩:=Aj P;have r:=Ab Q;have D:Hid (∀i (h:i<l.length),∃g,ad=some ⟨g,0,none⟩/\l.length<=Ax/\w.cell? ⟨g,i,none⟩=some (.string l[i])):=by
  intro i S;obtain⟨g,BA,T,K,AB⟩:=Av P (by simp[Ae]) i S;simp only[bK]at T;obtain⟨rfl,_,rfl⟩:=T;have I:=AB i S 0 (by omega);simp[Ae]at I;exact⟨g,rfl,K,I⟩
 clear Q;rcases Z with⟨rfl,rfl⟩|⟨rfl,rfl⟩
 case' inl=>go_enter func165,ntmps165
 case' inr=>go_enter func149,ntmps149
 all_goals
  go_wp2
  go_loop [7,8] (λa s=>∃(f o:Nat),a=.int .i64 f/\s=.int .i64 o/\k<=f/\f<=l.length/\1<=o/\o<=2*l.length+1/\Hid (∀i (h:i<l.length),k<=i->i<f->E2 l[i] x=true)) (λa s=>l.length-(intOf a).toNat)
  case atStart=>exact⟨k,1,by go_num,rfl,bZ _,Y,bZ _,by omega,λi h j u=>by omega⟩
  case round=>
   obtain⟨f,o,rfl,rfl,E,BT,CL,ES,p⟩:=hrel;by_cases EK:f+o<=l.length
   .obtain⟨g,W,B9,K⟩:=(Aa D) (f+o-1) (by omega);(have Bx:((f+o-1:Nat):Int)=(f:Int)+(o:Int)-1:=by omega);(have EX:((f:Int)+(o:Int)-1).toNat=f+o-1:=by omega);subst W;have AT:Hid (E2 l[f+o-1] x=true->∀i (h:i<l.length),k<=i->i<f+o->E2 l[i] x=true):=by
     intro n i h j u;exact(Aa r).down F0 (by omega) (by omega) n
    have AO:Hid (E2 l[f+o-1] x=false->∀i (h:i<l.length),f+o-1<=i->E2 l[i] x=false):=by
     intro n i h j;exact(Aa r).up F0 h j n
    go_wp2
    .refine⟨⟨f+o,o*2,by go_num,by go_num,by omega,by omega,by omega,by omega,(Aa AT) (by first|assumption|(simp[E2];omega))⟩,?_⟩;simp[intOf];omega
    ·
     have t:Hid (∀i (h:i<l.length),(f+o-1)<=i->E2 l[i] x=false):=(Aa AO) (by first|assumption|(simp[E2];omega))
     go_loop [7,9,10] (λa h m=>∃(b d:Nat),a=.int .i64 b/\h=.int .i64 d/\k<=b/\b<=d/\d<=l.length/\Hid (∀i (h:i<l.length),k<=i->i<b->E2 l[i] x=true)/\Hid (∀i (h:i<l.length),d<=i->E2 l[i] x=false)) (λa h m=>(intOf h).toNat-(intOf a).toNat)
     case atStart=>exact⟨f,(f+o-1),rfl,by go_num,E,by omega,by omega,p,t⟩
     case round=>
      clear p t;obtain⟨b,d,rfl,rfl,j,u,B,p,q⟩:=hrel;by_cases G:b<d
      .obtain⟨c,U⟩:∃c,b+(d-b)/2=c:=⟨_,rfl⟩;(have L:b<=c:=by omega);(have M:c<d:=by omega);(have A:(b:Int)+((d:Int)-(b:Int))/2=(c:Int):=by omega);(have N:(b:Int)+((d:Int)-(b:Int)).tdiv 2=(c:Int):=by rw[dR (by omega)];exact A);obtain⟨J,v,R,O⟩:=(Aa D) c (by omega);have y:Hid (E2 l[c] x=true->∀i (h:i<l.length),k<=i->i<c+1->E2 l[i] x=true):=by
        intro n i h j u;exact(Aa r).down F0 (by omega) (by omega) n
       have z:Hid (E2 l[c] x=false->∀i (h:i<l.length),c<=i->E2 l[i] x=false):=by
        intro n i h j;exact(Aa r).up F0 h j n
       simp only[bR,cI,and_true]at v;subst v;go_wp2
       .refine⟨⟨c+1,d,by go_num,rfl,by omega,by omega,B,(Aa y) (by first|assumption|(simp[E2];omega)),q⟩,?_⟩;simp[intOf];omega
       .refine⟨⟨b,c,rfl,by go_num,j,by omega,by omega,p,(Aa z) (by first|assumption|(simp[E2];omega))⟩,?_⟩;simp[intOf];omega
      .have C:Hid (CK E2 l k x b):=⟨j,by omega,Aa p,λi h n=>(Aa q) i h (by omega)⟩;go_wp2;go_ret;exact⟨b,rfl,Aa C,rfl⟩
   .go_wp2
    ·
     have t:Hid (∀i (h:i<l.length),l.length<=i->E2 l[i] x=false):=λi h n=>by omega
     go_loop [7,9,10] (λa h m=>∃(b d:Nat),a=.int .i64 b/\h=.int .i64 d/\k<=b/\b<=d/\d<=l.length/\Hid (∀i (h:i<l.length),k<=i->i<b->E2 l[i] x=true)/\Hid (∀i (h:i<l.length),d<=i->E2 l[i] x=false)) (λa h m=>(intOf h).toNat-(intOf a).toNat)
     case atStart=>exact⟨f,l.length,rfl,by go_num,E,by omega,by omega,p,t⟩
     case round=>
      clear p t;obtain⟨b,d,rfl,rfl,j,u,B,p,q⟩:=hrel;by_cases G:b<d
      .obtain⟨c,U⟩:∃c,b+(d-b)/2=c:=⟨_,rfl⟩;(have L:b<=c:=by omega);(have M:c<d:=by omega);(have A:(b:Int)+((d:Int)-(b:Int))/2=(c:Int):=by omega);(have N:(b:Int)+((d:Int)-(b:Int)).tdiv 2=(c:Int):=by rw[dR (by omega)];exact A);obtain⟨J,v,R,O⟩:=(Aa D) c (by omega);have y:Hid (E2 l[c] x=true->∀i (h:i<l.length),k<=i->i<c+1->E2 l[i] x=true):=by
        intro n i h j u;exact(Aa r).down F0 (by omega) (by omega) n
       have z:Hid (E2 l[c] x=false->∀i (h:i<l.length),c<=i->E2 l[i] x=false):=by
        intro n i h j;exact(Aa r).up F0 h j n
       subst v;go_wp2
       .refine⟨⟨c+1,d,by go_num,rfl,by omega,by omega,B,(Aa y) (by first|assumption|(simp[E2];omega)),q⟩,?_⟩;simp[intOf];omega
       .refine⟨⟨b,c,rfl,by go_num,j,by omega,by omega,p,(Aa z) (by first|assumption|(simp[E2];omega))⟩,?_⟩;simp[intOf];omega
      .have C:Hid (CK E2 l k x b):=⟨j,by omega,Aa p,λi h n=>(Aa q) i h (by omega)⟩;go_wp2;go_ret;exact⟨b,rfl,Aa C,rfl⟩
    all_goals
     have t:Hid (∀i (h:i<l.length),(f+o-1)<=i->E2 l[i] x=false):=λi h n=>by omega
     go_loop [7,9,10] (λa h m=>∃(b d:Nat),a=.int .i64 b/\h=.int .i64 d/\k<=b/\b<=d/\d<=l.length/\Hid (∀i (h:i<l.length),k<=i->i<b->E2 l[i] x=true)/\Hid (∀i (h:i<l.length),d<=i->E2 l[i] x=false)) (λa h m=>(intOf h).toNat-(intOf a).toNat)
     case atStart=>exact⟨f,(f+o-1),rfl,by go_num,E,by omega,by omega,p,t⟩
     case round=>
      clear p t;obtain⟨b,d,rfl,rfl,j,u,B,p,q⟩:=hrel;by_cases G:b<d
      .obtain⟨c,U⟩:∃c,b+(d-b)/2=c:=⟨_,rfl⟩;(have L:b<=c:=by omega);(have M:c<d:=by omega);(have A:(b:Int)+((d:Int)-(b:Int))/2=(c:Int):=by omega);(have N:(b:Int)+((d:Int)-(b:Int)).tdiv 2=(c:Int):=by rw[dR (by omega)];exact A);obtain⟨J,v,R,O⟩:=(Aa D) c (by omega);have y:Hid (E2 l[c] x=true->∀i (h:i<l.length),k<=i->i<c+1->E2 l[i] x=true):=by
        intro n i h j u;exact(Aa r).down F0 (by omega) (by omega) n
       have z:Hid (E2 l[c] x=false->∀i (h:i<l.length),c<=i->E2 l[i] x=false):=by
        intro n i h j;exact(Aa r).up F0 h j n
       subst v;go_wp2
       .refine⟨⟨c+1,d,by go_num,rfl,by omega,by omega,B,(Aa y) (by first|assumption|(simp[E2];omega)),q⟩,?_⟩;simp[intOf];omega
       .refine⟨⟨b,c,rfl,by go_num,j,by omega,by omega,p,(Aa z) (by first|assumption|(simp[E2];omega))⟩,?_⟩;simp[intOf];omega
      .have C:Hid (CK E2 l k x b):=⟨j,by omega,Aa p,λi h n=>(Aa q) i h (by omega)⟩;go_wp2;go_ret;exact⟨b,rfl,Aa C,rfl⟩
theorem P5(a:Value)(l:List cR)(k:Nat)(x:cR)(base:Nat)(w:World)(f:w.ownsRow base 9 1 a l.length (l.flatMap Ae))(h:l.length<=1000000)(c:k<=l.length)(g:Cy E2 l):
  Calls prog 165 #[a,.int .i64 k,.string x] w λe d=>∃b:Nat,e=.returned (.int .i64 b)/\CK E2 l k x b/\d=w:=
 P1 (Or.inl ⟨rfl,rfl⟩) a l k x base w f h c g
def AK(x:Int):List Value:=[.int .i32 x]
theorem P6(T:Value)(l:List Int)(k:Nat)(x:Int)(base:Nat)(w:World)(N:w.ownsRow base 21 1 T l.length (l.flatMap AK))(BT:l.length<=1000000)(X:k<=l.length)(O:Cy ME l):
  Calls prog 219 #[T,.int .i64 k,.int .i32 x] w λe W=>∃G:Nat,e=.returned (.int .i64 G)/\CK ME l k x G/\W=w:=by
 obtain⟨ad,Y,rfl⟩:=Aj N;have r:=Ab O;have D:Hid (∀i (h:i<l.length),∃g,ad=some ⟨g,0,none⟩/\l.length<=Y/\w.cell? ⟨g,i,none⟩=some (.int .i32 l[i])):=by
  intro i Q;obtain⟨g,AT,R,U,Z⟩:=Av N (by simp[AK]) i Q;simp only[bK]at R;obtain⟨rfl,_,rfl⟩:=R;have H:=Z i Q 0 (by omega);simp[AK]at H;exact⟨g,rfl,U,H⟩
 clear O;go_enter func219,ntmps219;go_wp2
 go_loop [7,8] (λa s=>∃(f o:Nat),a=.int .i64 f/\s=.int .i64 o/\k<=f/\f<=l.length/\1<=o/\o<=2*l.length+1/\Hid (∀i (h:i<l.length),k<=i->i<f->ME l[i] x=true)) (λa s=>l.length-(intOf a).toNat)
 case atStart=>exact⟨k,1,by go_num,rfl,bZ _,X,bZ _,by omega,λi h j u=>by omega⟩
 case round=>
  obtain⟨f,o,rfl,rfl,E,Bx,B9,CL,p⟩:=hrel;by_cases CC:f+o<=l.length
  .obtain⟨g,V,BA,U⟩:=(Aa D) (f+o-1) (by omega);(have AO:((f+o-1:Nat):Int)=(f:Int)+(o:Int)-1:=by omega);(have EK:((f:Int)+(o:Int)-1).toNat=f+o-1:=by omega);subst V;have AH:Hid (ME l[f+o-1] x=true->∀i (h:i<l.length),k<=i->i<f+o->ME l[i] x=true):=by
    intro n i h j u;exact(Aa r).down Pr (by omega) (by omega) n
   have AB:Hid (ME l[f+o-1] x=false->∀i (h:i<l.length),f+o-1<=i->ME l[i] x=false):=by
    intro n i h j;exact(Aa r).up Pr h j n
   go_wp2
   .refine⟨⟨f+o,o*2,by go_num,by go_num,by omega,by omega,by omega,by omega,(Aa AH) (by first|assumption|(simp[ME];omega))⟩,?_⟩;simp[intOf];omega
   ·
    have t:Hid (∀i (h:i<l.length),(f+o-1)<=i->ME l[i] x=false):=(Aa AB) (by first|assumption|(simp[ME];omega))
    go_loop [7,9,10] (λa h m=>∃(b d:Nat),a=.int .i64 b/\h=.int .i64 d/\k<=b/\b<=d/\d<=l.length/\Hid (∀i (h:i<l.length),k<=i->i<b->ME l[i] x=true)/\Hid (∀i (h:i<l.length),d<=i->ME l[i] x=false)) (λa h m=>(intOf h).toNat-(intOf a).toNat)
    case atStart=>exact⟨f,(f+o-1),rfl,by go_num,E,by omega,by omega,p,t⟩
    case round=>
     clear p t;obtain⟨b,d,rfl,rfl,j,u,B,p,q⟩:=hrel;by_cases F:b<d
     .obtain⟨c,S⟩:∃c,b+(d-b)/2=c:=⟨_,rfl⟩;(have J:b<=c:=by omega);(have K:c<d:=by omega);(have A:(b:Int)+((d:Int)-(b:Int))/2=(c:Int):=by omega);(have L:(b:Int)+((d:Int)-(b:Int)).tdiv 2=(c:Int):=by rw[dR (by omega)];exact A);obtain⟨I,v,P,M⟩:=(Aa D) c (by omega);have y:Hid (ME l[c] x=true->∀i (h:i<l.length),k<=i->i<c+1->ME l[i] x=true):=by
       intro n i h j u;exact(Aa r).down Pr (by omega) (by omega) n
      have z:Hid (ME l[c] x=false->∀i (h:i<l.length),c<=i->ME l[i] x=false):=by
       intro n i h j;exact(Aa r).up Pr h j n
      simp only[bR,cI,and_true]at v;subst v;go_wp2
      .refine⟨⟨c+1,d,by go_num,rfl,by omega,by omega,B,(Aa y) (by first|assumption|(simp[ME];omega)),q⟩,?_⟩;simp[intOf];omega
      .refine⟨⟨b,c,rfl,by go_num,j,by omega,by omega,p,(Aa z) (by first|assumption|(simp[ME];omega))⟩,?_⟩;simp[intOf];omega
     .have C:Hid (CK ME l k x b):=⟨j,by omega,Aa p,λi h n=>(Aa q) i h (by omega)⟩;go_wp2;go_ret;exact⟨b,rfl,Aa C,rfl⟩
  .go_wp2
   ·
    have t:Hid (∀i (h:i<l.length),l.length<=i->ME l[i] x=false):=λi h n=>by omega
    go_loop [7,9,10] (λa h m=>∃(b d:Nat),a=.int .i64 b/\h=.int .i64 d/\k<=b/\b<=d/\d<=l.length/\Hid (∀i (h:i<l.length),k<=i->i<b->ME l[i] x=true)/\Hid (∀i (h:i<l.length),d<=i->ME l[i] x=false)) (λa h m=>(intOf h).toNat-(intOf a).toNat)
    case atStart=>exact⟨f,l.length,rfl,by go_num,E,by omega,by omega,p,t⟩
    case round=>
     clear p t;obtain⟨b,d,rfl,rfl,j,u,B,p,q⟩:=hrel;by_cases F:b<d
     .obtain⟨c,S⟩:∃c,b+(d-b)/2=c:=⟨_,rfl⟩;(have J:b<=c:=by omega);(have K:c<d:=by omega);(have A:(b:Int)+((d:Int)-(b:Int))/2=(c:Int):=by omega);(have L:(b:Int)+((d:Int)-(b:Int)).tdiv 2=(c:Int):=by rw[dR (by omega)];exact A);obtain⟨I,v,P,M⟩:=(Aa D) c (by omega);have y:Hid (ME l[c] x=true->∀i (h:i<l.length),k<=i->i<c+1->ME l[i] x=true):=by
       intro n i h j u;exact(Aa r).down Pr (by omega) (by omega) n
      have z:Hid (ME l[c] x=false->∀i (h:i<l.length),c<=i->ME l[i] x=false):=by
       intro n i h j;exact(Aa r).up Pr h j n
      subst v;go_wp2
      .refine⟨⟨c+1,d,by go_num,rfl,by omega,by omega,B,(Aa y) (by first|assumption|(simp[ME];omega)),q⟩,?_⟩;simp[intOf];omega
      .refine⟨⟨b,c,rfl,by go_num,j,by omega,by omega,p,(Aa z) (by first|assumption|(simp[ME];omega))⟩,?_⟩;simp[intOf];omega
     .have C:Hid (CK ME l k x b):=⟨j,by omega,Aa p,λi h n=>(Aa q) i h (by omega)⟩;go_wp2;go_ret;exact⟨b,rfl,Aa C,rfl⟩
   ·
    have t:Hid (∀i (h:i<l.length),(f+o-1)<=i->ME l[i] x=false):=λi h n=>by omega
    go_loop [7,9,10] (λa h m=>∃(b d:Nat),a=.int .i64 b/\h=.int .i64 d/\k<=b/\b<=d/\d<=l.length/\Hid (∀i (h:i<l.length),k<=i->i<b->ME l[i] x=true)/\Hid (∀i (h:i<l.length),d<=i->ME l[i] x=false)) (λa h m=>(intOf h).toNat-(intOf a).toNat)
    case atStart=>exact⟨f,(f+o-1),rfl,by go_num,E,by omega,by omega,p,t⟩
    case round=>
     clear p t;obtain⟨b,d,rfl,rfl,j,u,B,p,q⟩:=hrel;by_cases F:b<d
     .obtain⟨c,S⟩:∃c,b+(d-b)/2=c:=⟨_,rfl⟩;(have J:b<=c:=by omega);(have K:c<d:=by omega);(have A:(b:Int)+((d:Int)-(b:Int))/2=(c:Int):=by omega);(have L:(b:Int)+((d:Int)-(b:Int)).tdiv 2=(c:Int):=by rw[dR (by omega)];exact A);obtain⟨I,v,P,M⟩:=(Aa D) c (by omega);have y:Hid (ME l[c] x=true->∀i (h:i<l.length),k<=i->i<c+1->ME l[i] x=true):=by
       intro n i h j u;exact(Aa r).down Pr (by omega) (by omega) n
      have z:Hid (ME l[c] x=false->∀i (h:i<l.length),c<=i->ME l[i] x=false):=by
       intro n i h j;exact(Aa r).up Pr h j n
      subst v;go_wp2
      .refine⟨⟨c+1,d,by go_num,rfl,by omega,by omega,B,(Aa y) (by first|assumption|(simp[ME];omega)),q⟩,?_⟩;simp[intOf];omega
      .refine⟨⟨b,c,rfl,by go_num,j,by omega,by omega,p,(Aa z) (by first|assumption|(simp[ME];omega))⟩,?_⟩;simp[intOf];omega
     .have C:Hid (CK ME l k x b):=⟨j,by omega,Aa p,λi h n=>(Aa q) i h (by omega)⟩;go_wp2;go_ret;exact⟨b,rfl,Aa C,rfl⟩
structure AG where
 v:UInt8
 s:cR
def AM(t:AG):List Value:=[.int .u8 t.v.toNat,.string t.s]
def AP(s:cR)(at_:Nat)(bad:Bool):AG×Nat×Bool:=
 if bad then(⟨0,ByteArray.empty⟩,at_,true)else
 if h:Af s at_<s.size then
  if Eh s[Af s at_] then(⟨s[Af s at_],ByteArray.empty⟩,Af s at_+1,false)
  else if !Ap s[Af s at_] then(⟨0,(Ba s (Af s at_) false).1⟩,(Ba s (Af s at_) false).2)
  else if 3<AL Ap s (Af s at_)-Af s at_\/(s[Af s at_]=48/\1<AL Ap s (Af s at_)-Af s at_)then(⟨0,ByteArray.empty⟩,Af s at_,true)
  else(⟨0,s.extract (Af s at_) (AL Ap s (Af s at_))⟩,AL Ap s (Af s at_),false)
 else(⟨0,ByteArray.empty⟩,Af s at_,true)
theorem X6(b:Nat)(s:cR)(at_:Nat)(w:World)(l:s.size<=1000000)(m:at_<=s.size)(d:AE w b (BO s at_ true) 73):
  Calls prog 127 #[.pointer (some ⟨b,0,none⟩)] w λe f=>e=.returned (.agg #[.int .u8 0,.string ByteArray.empty])/\AE f b (BO s at_ true) 73/\Ac [b] w f:=by
 have p:=d.lt;go_enter func127,ntmps127;go_wp2_with fail
 refine(CZ b s at_ true _ l m (d.alloc _)).mono ?_;rintro e o ⟨rfl,a,g⟩;rw[Jz]at a;clear d;have c:=(AE.new w _ _).kept g (by simp;omega);have j:=c.cell 0;have k:=c.cell 1;have r:=c.frozen;have h:=a.cell 0;have n:=a.cell 1;have i:=a.cell 2;have q:=a.frozen 2;simp[BO]at h n i j k;go_wp2
 go_quiet (fail)
 go_wp2;refine cB (BL rfl rfl ((((c.drewN _).dT _ (by simp;omega) _).set 0 _).set 1 _) underlying93 rfl (by kernel_rfl)) rfl ⟨rfl,?_,?_⟩
 .exact(((a.drewN _).set 2 _).dT _ (by simp;omega) _).dT _ (by simp;omega) _
 .exact(((((Ac.refl _ _).alloc _).trans g).drewN _).setCell (by simp) _|>.setCell (by simp) _).setCell (by simp) _
theorem Yj(b:Nat)(s:cR)(at_ j:Nat)(w:World)(q:s.size<=1000000)(i:at_<=s.size)(d:Af s at_=j)(v:¬j<s.size)(f:AE w b (BO s at_ false) 73):
  Calls prog 127 #[.pointer (some ⟨b,0,none⟩)] w λe g=>e=.returned (.agg #[.int .u8 0,.string ByteArray.empty])/\AE g b (BO s j true) 73/\Ac [b] w g:=by
 have y:=f.lt;have n:=Bk s at_ i;rw[d]at n;have h:Hid (Af s at_=j):=d;clear d;go_enter func127,ntmps127;go_wp2_with fail
 refine(CZ b s at_ false _ q i (f.alloc _)).mono ?_;rintro e u ⟨rfl,a,k⟩;rw[show AQ s at_ false=j from h.out]at a
 clear f h;have c:=(AE.new w _ _).kept k (by simp;omega);have m:=c.cell 0;have p:=c.cell 1;have x:=c.frozen;have l:=a.cell 0;have r:=a.cell 1;have o:=a.cell 2;have A:=a.frozen 1;have z:=a.frozen 2;simp[BO]at l r o m p;have t:decide ((s.size:Int)<=(j:Int))=true:=by simp;omega
 go_wp2
 go_quiet (fail)
 go_wp2;refine cB (BL rfl rfl ((((c.drewN _).dT _ (by simp;omega) _).set 0 _).set 1 _) underlying93 rfl (by kernel_rfl)) rfl ⟨rfl,?_,?_⟩
 .exact(((a.drewN _).set 2 _).dT _ (by simp;omega) _).dT _ (by simp;omega) _
 .exact(((((Ac.refl _ _).alloc _).trans k).drewN _).setCell (by simp) _|>.setCell (by simp) _).setCell (by simp) _
theorem Ua(b:Nat)(s:cR)(at_ j:Nat)(w:World)(r:s.size<=1000000)(i:at_<=s.size)(d:Af s at_=j)(x:j<s.size)(p:Eh s[j]=true)(f:AE w b (BO s at_ false) 73):
  Calls prog 127 #[.pointer (some ⟨b,0,none⟩)] w λe g=>e=.returned (.agg #[.int .u8 s[j].toNat,.string ByteArray.empty])/\AE g b (BO s (j+1) false) 73/\Ac [b] w g:=by
 have A:=f.lt;have n:=Bk s at_ i;rw[d]at n;have h:Hid (Af s at_=j):=d;clear d;go_enter func127,ntmps127;go_wp2_with fail
 refine(CZ b s at_ false _ r i (f.alloc _)).mono ?_;rintro e v ⟨rfl,a,k⟩;rw[show AQ s at_ false=j from h.out]at a
 clear f h;have c:=(AE.new w _ _).kept k (by simp;omega);have m:=c.cell 0;have q:=c.cell 1;have z:=c.frozen;have l:=a.cell 0;have t:=a.cell 1;have o:=a.cell 2;have C:=a.frozen 1;have B:=a.frozen 2;simp[BO]at l t o m q;have u:decide ((s.size:Int)<=(j:Int))=false:=by simp;omega
 have y:(j:Int)<(s.size:Int):=by omega
 go_wp2
 go_quiet (fail)
 go_wp2
 go_quiet (fail)
 go_wp2_with (go_at_call 170;refine(L8 _ s[j] _ rfl).mono ?_;rintro e D ⟨rfl,rfl⟩;rw[p])
 refine cB (BL rfl rfl ((((c.drewN _).dT _ (by simp;omega) _).set 0 _).set 1 _) underlying93 rfl (by kernel_rfl)) rfl ⟨rfl,?_,?_⟩
 .exact(((a.drewN _).set 1 _).dT _ (by simp;omega) _).dT _ (by simp;omega) _
 .exact(((((Ac.refl _ _).alloc _).trans k).drewN _).setCell (by simp) _|>.setCell (by simp) _).setCell (by simp) _
theorem Xo(b:Nat)(s:cR)(at_ j:Nat)(w:World)(r:s.size<=1000000)(m:at_<=s.size)(f:Af s at_=j)(I:j<s.size)(C:Eh s[j]=false)(v:Ap s[j]=false)(g:AE w b (BO s at_ false) 73):
  Calls prog 127 #[.pointer (some ⟨b,0,none⟩)] w λe h=>e=.returned (.agg #[.int .u8 0,.string (Ba s j false).1])/\AE h b (BO s (Ba s j false).2.1 (Ba s j false).2.2) 73/\Ac [b] w h:=by
 have L:=g.lt;have z:=Bk s at_ m;rw[f]at z;have i:Hid (Af s at_=j):=f;clear f;go_enter func127,ntmps127;go_wp2_with fail
 refine(CZ b s at_ false _ r m (g.alloc _)).mono ?_;rintro e H ⟨rfl,a,n⟩;rw[show AQ s at_ false=j from i.out]at a
 clear g i;have d:=(AE.new w _ _).kept n (by simp;omega);have l:=d.cell 0;have q:=d.cell 1;have y:=d.frozen;have k:=a.cell 0;have u:=a.cell 1;have p:=a.cell 2;have F:=a.frozen 1;have E:=a.frozen 2;simp[BO]at k u p l q;have G:decide ((s.size:Int)<=(j:Int))=false:=by simp;omega
 have K:(j:Int)<(s.size:Int):=by omega
 have M:∀(x:Bool) (w:World),(Op.unary .not (.bool x)).run prog w=.ok (.bool (!x)) w:=λ_ _=>rfl
 go_wp2
 go_quiet (fail)
 go_wp2
 go_quiet (fail)
 go_wp2_with (first|(go_at_call 170;refine(L8 _ s[j] _ rfl).mono ?_;rintro e t ⟨rfl,rfl⟩;rw[C])|(go_at_call 55;refine(Cl _ s[j] _ rfl).mono ?_;rintro e t ⟨rfl,rfl⟩;rw[v]))
 refine(Lw b s j false _ r (by omega) (a.drewN _)).mono ?_;rintro e t ⟨rfl,D,o⟩;have c:=(d.drewN _).kept o (by simp;omega);have A:=c.cell 0;have B:=c.cell 1;have J:=c.frozen;simp at A B;clear y l q F E k u p;go_wp2;refine cB (BL rfl rfl ((c.set 0 _).set 1 _) underlying93 rfl (by kernel_rfl)) rfl ⟨rfl,?_,?_⟩
 .exact(D.dT _ (by simp;omega) _).dT _ (by simp;omega) _
 .exact(((((Ac.refl _ _).alloc _).trans n).drewN _).trans o|>.setCell (by simp) _).setCell (by simp) _
def Ga(s:cR)(j k:Nat):AG×Nat×Bool:=
 if 3<k-j\/(DW s j 48=true/\1<k-j)then(⟨0,ByteArray.empty⟩,j,true)else(⟨0,s.extract j k⟩,k,false)
theorem MH{s:cR}{j k:Nat}(h:(3:Int)<((k-j:Nat):Int)):Ga s j k=(⟨0,ByteArray.empty⟩,j,true):=by
 unfold Ga;rw[if_pos (by omega)]
theorem VK{s:cR}{j:Nat}(a:j<s.size)(c:UInt8):DW s j c=true↔(s[j].toNat:Int)=c.toNat:=by
 unfold DW;simp only[a,dite_true,dE];constructor
 .intro h;rw[h]
 .intro h;exact dx.1 (by omega)
theorem Mv{s:cR}{j k:Nat}(b:j<s.size)(h:(s[j].toNat:Int)=48)(a:(3:Int)<((k-j:Nat):Int)\/(1:Int)<((k-j:Nat):Int)):Ga s j k=(⟨0,ByteArray.empty⟩,j,true):=by
 unfold Ga;rw[if_pos (by rcases a with a|a;exact Or.inl (by omega);exact Or.inr ⟨(VK b 48).2 h,by omega⟩)]
theorem OD{s:cR}{j k:Nat}(h:((k-j:Nat):Int)<=3)(a:((k-j:Nat):Int)<=1):Ga s j k=(⟨0,s.extract j k⟩,k,false):=by
 unfold Ga;rw[if_neg (by omega)]
theorem NW{s:cR}{j k:Nat}(b:j<s.size)(h:¬(s[j].toNat:Int)=48)(c:((k-j:Nat):Int)<=3):Ga s j k=(⟨0,s.extract j k⟩,k,false):=by
 unfold Ga;rw[if_neg (by rintro (a|⟨a,_⟩);omega;exact h ((VK b 48).1 a))]
theorem Sq(b:Nat)(s:cR)(at_ j:Nat)(w:World)(R:AG×Nat×Bool)(K:s.size<=1000000)(y:at_<=s.size)(p:Af s at_=j)(g:j<s.size)(H:Eh s[j]=false)(v:Ap s[j]=true)
  (o:Hid (R=Ga s j (AL Ap s j)))
  (q:AE w b (BO s at_ false) 73):
  Calls prog 127 #[.pointer (some ⟨b,0,none⟩)] w λe t=>e=.returned (.agg (AM R.1).toArray)/\AE t b (BO s R.2.1 R.2.2) 73/\Ac [b] w t:=by
 have U:=q.lt;have z:=Bk s at_ y;rw[p]at z;have u:Hid (Af s at_=j):=p;clear p;go_enter func127,ntmps127;go_wp2_with fail
 refine(CZ b s at_ false _ K y (q.alloc _)).mono ?_;rintro e N ⟨rfl,a,d⟩;rw[show AQ s at_ false=j from u.out]at a
 clear q u;have c:=(AE.new w _ _).kept d (by simp;omega);have D:=c.cell 0;have J:=c.cell 1;have S:=c.frozen;have C:=a.cell 0;have F:=a.cell 1;have G:=a.cell 2;have Y:=a.frozen 1;have X:=a.frozen 2;simp[BO]at C F G D J;have M:decide ((s.size:Int)<=(j:Int))=false:=by simp;omega
 have Q:(j:Int)<(s.size:Int):=by omega
 have V:∀(x:Bool) (w:World),(Op.unary .not (.bool x)).run prog w=.ok (.bool (!x)) w:=λ_ _=>rfl
 go_wp2
 go_quiet (fail)
 go_wp2
 go_quiet (fail)
 go_wp2_with (first|(go_at_call 170;refine(L8 _ s[j] _ rfl).mono ?_;rintro e r ⟨rfl,rfl⟩;rw[H])|(go_at_call 55;refine(Cl _ s[j] _ rfl).mono ?_;rintro e r ⟨rfl,rfl⟩;rw[v]))
 go_loop [4] (λi=>∃k:Nat,i=.int .i64 k/\j<=k/\k<=s.size/\AL Ap s k=AL Ap s j) (λi=>s.size-(intOf i).toNat)
 case atStart=>exact⟨j,rfl,bZ _,z,rfl⟩
 case round=>
  obtain⟨k,rfl,P,T,A⟩:=hrel;have l:Hid (AL Ap s k=AL Ap s j):=A;clear A;have Z:(j:Int)<=(k:Int):=by omega
  have O:(k:Int)<=(s.size:Int):=by omega
  have h:Hid (AL Ap s k=k->R=Ga s j k):=by
   intro L;(have E:AL Ap s j=k:=by rw[<-l.out];exact L);rw[o.out,E]
  by_cases n:k<s.size
  ·(have W:(k:Int)<(s.size:Int):=by omega);by_cases m:Ap s[k]=true
   ·(have I:Hid (AL Ap s (k+1)=AL Ap s j):=by show _=_;rw[<-B4 Ap s k n m];exact l.out);clear v;go_wp2_with (go_at_call 55;refine(Cl _ s[k] _ rfl).mono ?_;rintro e r ⟨rfl,rfl⟩;rw[m])
    go_round
    case rel=>exact⟨k+1,by go_num,by omega,by omega,I.out⟩
    case measure=>simp[intOf];omega
   ·(have B:Ap s[k]=false:=by simpa using m);have f:Hid (R=Ga s j k):=h.out (Fg Ap s k n B);clear m h o l;go_wp2_with (go_at_call 55;refine(Cl _ s[k] _ rfl).mono ?_;rintro e r ⟨rfl,rfl⟩;rw[B])
    go_quiet (fail)
    go_wp2
    .rw[f.out,Mv g (by assumption) (by assumption)];refine cB (BL rfl rfl ((((c.drewN _).dT _ (by simp;omega) _).set 0 _).set 1 _) underlying93 rfl (by kernel_rfl)) rfl ⟨rfl,?_,?_⟩
     .exact(((a.drewN _).set 2 _).dT _ (by simp;omega) _).dT _ (by simp;omega) _
     .exact(((((Ac.refl _ _).alloc _).trans d).drewN _).setCell (by simp) _|>.setCell (by simp) _).setCell (by simp) _
    .rw[f.out,OD (by omega) (by omega)];refine cB (BL rfl rfl ((((c.drewN _).dT _ (by simp;omega) _).set 0 _).set 1 _) underlying93 rfl (by kernel_rfl)) rfl ⟨rfl,?_,?_⟩
     .exact(((a.drewN _).set 1 _).dT _ (by simp;omega) _).dT _ (by simp;omega) _
     .exact(((((Ac.refl _ _).alloc _).trans d).drewN _).setCell (by simp) _|>.setCell (by simp) _).setCell (by simp) _
    .rw[f.out,NW g (by assumption) (by omega)];refine cB (BL rfl rfl ((((c.drewN _).dT _ (by simp;omega) _).set 0 _).set 1 _) underlying93 rfl (by kernel_rfl)) rfl ⟨rfl,?_,?_⟩
     .exact(((a.drewN _).set 1 _).dT _ (by simp;omega) _).dT _ (by simp;omega) _
     .exact(((((Ac.refl _ _).alloc _).trans d).drewN _).setCell (by simp) _|>.setCell (by simp) _).setCell (by simp) _
    .rw[f.out,MH (by omega)];refine cB (BL rfl rfl ((((c.drewN _).dT _ (by simp;omega) _).set 0 _).set 1 _) underlying93 rfl (by kernel_rfl)) rfl ⟨rfl,?_,?_⟩
     .exact(((a.drewN _).set 2 _).dT _ (by simp;omega) _).dT _ (by simp;omega) _
     .exact(((((Ac.refl _ _).alloc _).trans d).drewN _).setCell (by simp) _|>.setCell (by simp) _).setCell (by simp) _
  .have f:Hid (R=Ga s j k):=h.out (FB Ap s k n);clear h o l;go_wp2
   go_quiet (fail)
   go_wp2
   .rw[f.out,Mv g (by assumption) (by assumption)];refine cB (BL rfl rfl ((((c.drewN _).dT _ (by simp;omega) _).set 0 _).set 1 _) underlying93 rfl (by kernel_rfl)) rfl ⟨rfl,?_,?_⟩
    .exact(((a.drewN _).set 2 _).dT _ (by simp;omega) _).dT _ (by simp;omega) _
    .exact(((((Ac.refl _ _).alloc _).trans d).drewN _).setCell (by simp) _|>.setCell (by simp) _).setCell (by simp) _
   .rw[f.out,OD (by omega) (by omega)];refine cB (BL rfl rfl ((((c.drewN _).dT _ (by simp;omega) _).set 0 _).set 1 _) underlying93 rfl (by kernel_rfl)) rfl ⟨rfl,?_,?_⟩
    .exact(((a.drewN _).set 1 _).dT _ (by simp;omega) _).dT _ (by simp;omega) _
    .exact(((((Ac.refl _ _).alloc _).trans d).drewN _).setCell (by simp) _|>.setCell (by simp) _).setCell (by simp) _
   .rw[f.out,NW g (by assumption) (by omega)];refine cB (BL rfl rfl ((((c.drewN _).dT _ (by simp;omega) _).set 0 _).set 1 _) underlying93 rfl (by kernel_rfl)) rfl ⟨rfl,?_,?_⟩
    .exact(((a.drewN _).set 1 _).dT _ (by simp;omega) _).dT _ (by simp;omega) _
    .exact(((((Ac.refl _ _).alloc _).trans d).drewN _).setCell (by simp) _|>.setCell (by simp) _).setCell (by simp) _
   .rw[f.out,MH (by omega)];refine cB (BL rfl rfl ((((c.drewN _).dT _ (by simp;omega) _).set 0 _).set 1 _) underlying93 rfl (by kernel_rfl)) rfl ⟨rfl,?_,?_⟩
    .exact(((a.drewN _).set 2 _).dT _ (by simp;omega) _).dT _ (by simp;omega) _
    .exact(((((Ac.refl _ _).alloc _).trans d).drewN _).setCell (by simp) _|>.setCell (by simp) _).setCell (by simp) _
theorem O7(b:Nat)(s:cR)(at_:Nat)(h:Bool)(w:World)(f:s.size<=1000000)(g:at_<=s.size)(d:AE w b (BO s at_ h) 73):
  Calls prog 127 #[.pointer (some ⟨b,0,none⟩)] w λe i=>e=.returned (.agg (AM (AP s at_ h).1).toArray)/\AE i b (BO s (AP s at_ h).2.1 (AP s at_ h).2.2) 73/\Ac [b] w i:=by
 cases h with
 |true=>exact X6 b s at_ w f g d
 |false=>
  obtain⟨j,c⟩:∃j,Af s at_=j:=⟨_,rfl⟩;by_cases a:j<s.size
  .cases hu:Eh s[j] with
   |true=>
    (have e:AP s at_ false=(⟨s[j],ByteArray.empty⟩,j+1,false):=by unfold AP;subst c;simp[a,hu]);rw[e];exact Ua b s at_ j w f g c a hu d
   |false=>
    cases hd:Ap s[j] with
    |false=>
     (have e:AP s at_ false=(⟨0,(Ba s j false).1⟩,(Ba s j false).2):=by unfold AP;subst c;simp[a,hu,hd]);rw[e];exact Xo b s at_ j w f g c a hu hd d
    |true=>
     refine Sq b s at_ j w _ f g c a hu hd ?_ d;show _=_;unfold AP Ga DW;subst c;simp[a,hu,hd]
  ·(have e:AP s at_ false=(⟨0,ByteArray.empty⟩,j,true):=by unfold AP;subst c;simp[a]);rw[e];exact Yj b s at_ j w f g c a d
def DQ(r:Int):Int:=
 if 97<=r/\r<=122 then 2 else if 48<=r/\r<=57 then 3 else if 65<=r/\r<=90 then 4
 else if r=58\/r=46\/r=44\/r=33\/r=61\/r=35\/r=60\/r=40\/r=41 then 5 else 0
theorem IM(r:Int)(w:World):Calls prog 192 #[.int .i32 r] w λe a=>e=.returned (.int .i64 (DQ r))/\a=w:=by
 go_enter func192,ntmps192;go_wp2;all_goals
  go_ret;refine⟨ZW ?_,rfl⟩
  try simp only[cJ,dE,ne_eq]at*
  unfold DQ
  (repeat' split)<;>omega
structure AW where
 kind:Int
 place:Nat
 text:cR
def Bb(m:AW):List Value:=[.int .i64 m.kind,.int .i64 m.place,.string m.text]
def Cd(m:AW)(place:Nat)(r:Int):Bool:=
 if m.place+m.text.size≠place then false
 else if m.kind=2\/m.kind=3 then DQ r==m.kind
 else if m.kind=5 then(m.text.toList==[58])&&r==45
 else false
theorem Ub(m:AW)(place:Nat)(r:Int)(w:World)(p:m.place<=1000000)(s:m.text.size<=1000000)(q:place<=1000000):
  Calls prog 191 #[.agg (Bb m).toArray,.int .i64 place,.int .i32 r] w λe o=>e=.returned (.bool (Cd m place r))/\Ac [] w o:=by
 simp only[Bb];obtain⟨G,g⟩:∃G,Cd m place r=G:=⟨_,rfl⟩;rw[g];have a:=g;unfold Cd at a;clear g;by_cases f:m.place+m.text.size=place
 .have l:((m.place:Int)+(m.text.size:Int) !=(place:Int))=false:=by simp;omega
  rw[if_neg (by omega)]at a;by_cases b:m.kind=2\/m.kind=3
  .rw[if_pos b]at a;have c:Hid ((DQ r==m.kind)=G):=a;clear a f;(have i:∀n:Nat,True:=λ_=>trivial);clear i;rcases b with b|b
   ·(have h:(m.kind==2)=true:=by simp[b]);clear b;go_enter func191,ntmps191;go_wp2_with fail
    go_quiet ((go_at_call 192;exact eE (IM _ _)))
    go_wp2;go_ret;exact⟨Bc c.out,((Ac.refl _ _).alloc _).drewN _⟩
   ·(have h:(m.kind==2)=false:=by simp[b]);(have k:(m.kind==3)=true:=by simp[b]);clear b;go_enter func191,ntmps191;go_wp2_with fail
    go_quiet ((go_at_call 192;exact eE (IM _ _)))
    go_wp2;go_ret;exact⟨Bc c.out,((Ac.refl _ _).alloc _).drewN _⟩
  .rw[if_neg b]at a;(have h:(m.kind==2)=false:=by simp;omega);(have k:(m.kind==3)=false:=by simp;omega);by_cases d:m.kind=5
   .rw[if_pos d]at a;(have j:(m.kind==5)=true:=by simp[d]);have c:Hid (((m.text.toList==[58])&&r==45)=G):=a;clear a f b d;go_enter func191,ntmps191;go_wp2;all_goals
     go_ret;refine⟨Bc ?_,(Ac.refl _ _).alloc _⟩;rw[<-c.out]
     simp_all
   .rw[if_neg d]at a;(have j:(m.kind==5)=false:=by simp[d]);have c:Hid (false=G):=a;clear a f b d;go_enter func191,ntmps191;go_wp2;go_ret;exact⟨Bc c.out,(Ac.refl _ _).alloc _⟩
 .have l:((m.place:Int)+(m.text.size:Int) !=(place:Int))=true:=by simp;omega
  rw[if_pos (by omega)]at a;have c:Hid (false=G):=a;clear a f;go_enter func191,ntmps191;go_wp2;go_ret;exact⟨Bc c.out,(Ac.refl _ _).alloc _⟩
theorem YF{s:cR}(h:0<s.size):DW s 0 48=((s[0].toNat:Int)==48):=by
 have e:((s[0].toNat:Int)==48)=(s[0]==48):=B2 s[0] 48;rw[e];simp[DW,h]
def Ib(m:AW):Bool:=
 if m.kind=2 then decide (m.text.size<=4)
 else if m.kind=3 then decide (m.text.size=1)||(decide (m.text.size<=3)&& !(DW m.text 0 48))
 else true
theorem So(m:AW)(w:World)(o:m.text.size<=1000000)(g:m.kind=3->0<m.text.size):
  Calls prog 157 #[.agg (Bb m).toArray] w λe j=>e=.returned (.bool (Ib m))/\Ac [] w j:=by
 simp only[Bb];obtain⟨G,h⟩:∃G,Ib m=G:=⟨_,rfl⟩;rw[h];have a:=h;unfold Ib at a;clear h;by_cases b:m.kind=2
 .have l:(m.kind==2)=true:=by simp[b]
  rw[if_pos b]at a;have c:Hid (decide (m.text.size<=4)=G):=a;clear a b g;go_enter func157,ntmps157;go_wp2;go_ret;refine⟨Bc ?_,(Ac.refl _ _).alloc _⟩;rw[<-c.out];simp
  try omega
 .have l:(m.kind==2)=false:=by simp[b]
  rw[if_neg b]at a;by_cases d:m.kind=3
  ·(have i:(m.kind==3)=true:=by simp[d]);have k:=g d;(have n:(0:Int)<(m.text.size:Int):=by omega);rw[if_pos d,YF k]at a;have c:Hid ((decide (m.text.size=1)||(decide (m.text.size<=3)&& !((m.text[0].toNat:Int)==48)))=G):=a;clear a b d g;go_enter func157,ntmps157;go_wp2
   .go_ret;refine⟨Bc ?_,(Ac.refl _ _).alloc _⟩;(have f:m.text.size=1:=by omega);rw[<-c.out];simp[f]
   .go_ret;refine⟨Bc ?_,(Ac.refl _ _).alloc _⟩;(have f:¬m.text.size=1:=by omega);(have b:m.text.size<=3:=by omega);rw[<-c.out];simp only[f,b,fP,decide_true,ex,dF];simp[bne];omega
   .go_ret;refine⟨Bc ?_,(Ac.refl _ _).alloc _⟩;(have f:¬m.text.size=1:=by omega);(have b:¬m.text.size<=3:=by omega);rw[<-c.out];simp[f,b];omega
  ·(have i:(m.kind==3)=false:=by simp[d]);rw[if_neg d]at a;have c:Hid (true=G):=a;clear a b d g;go_enter func157,ntmps157;go_wp2;go_ret;exact⟨Bc c.out,(Ac.refl _ _).alloc _⟩
theorem Tryz.zA:(Tryz.prog.info? 206).map (λi=>(i.zero,i.size,i.bytes))=some (some (.agg #[.int .i64 0,.int .i64 0,.string ⟨#[]⟩]),3,32):=by kernel_rfl
theorem FN(m:AW):(Bb m).length=3:=rfl
theorem Ds{w:World}{base:Nat}{e:TypeId}{size:Nat}{g n cap:Nat}{b:List Value}(h:w.ownsRow base e size (.slice (some ⟨g,0,none⟩) n cap) n b)(i:Nat)(u:Value):
  (w.setCell ⟨g,i,none⟩ u).ownsRow base e size (.slice (some ⟨g,0,none⟩) n cap) n (b.set i u):=by
 refine⟨by rw[dX];exact h.1,?_⟩;rcases h.2 with⟨a,_⟩|⟨p,o,c,a,j,l,m,d,k,f⟩
 .cases a
 .simp only[bK,bR,cI]at a;obtain⟨⟨rfl,_,_⟩,_,rfl⟩:=a;refine Or.inr ⟨g,cap,c.setIfInBounds i u,rfl,j,?_,m,d,by simpa using k,?_⟩
  .simp[World.setCell,Array.getElem?_modify,l]
  .rw[Array.toList_setIfInBounds,List.take_set,f]
theorem Gr{w:World}{base:Nat}{e:TypeId}{size:Nat}{g n cap:Nat}{b:List Value}(h:w.ownsRow base e size (.slice (some ⟨g,0,none⟩) n cap) n b)(i:Nat):w.frozen? ⟨g,i,none⟩=false:=by
 rcases h.2 with⟨a,_⟩|⟨k,f,d,a,j,c,_⟩
 .cases a
 .simp only[bK,bR,cI]at a;obtain⟨⟨rfl,_,_⟩,_,rfl⟩:=a;simp[World.frozen?,c]
theorem Vi(r:Int):(Utf8.encode r).size<=4:=by
 unfold Utf8.encode;simp only;generalize(if Utf8.valid r=true then r.toNat else Utf8.runeError)=c
 repeat' split
 all_goals simp[ByteArray.size]
def B1(place:Nat)(r:Int):AW:=⟨DQ r,place,Utf8.encode r⟩
def Kk(ms:List AW)(place:Nat)(r:Int):List AW:=
 if r=32\/r=10 then ms
 else match ms.getLast? with
  |some m=>if Cd m place r then ms.dropLast++[{m with text:=m.text++Utf8.encode r}] else ms++[B1 place r]
  |none=>ms++[B1 place r]
theorem Mt{pre:List AW}{m:AW}{place:Nat}{r:Int}(h:¬(r=32\/r=10)):Kk (pre++[m]) place r=if Cd m place r then pre++[{m with text:=m.text++Utf8.encode r}] else pre++[m]++[B1 place r]:=by
 unfold Kk;rw[if_neg h];simp
theorem X3(pre:List AW)(m:AW)(u:cR):((pre++[m]).flatMap Bb).set (pre.length*3+2) (.string u)=(pre++[{m with text:=u}]).flatMap Bb:=by
 have b:(pre.flatMap Bb).length=pre.length*3:=by
  induction pre with
  |nil=>rfl
  |cons a l ih=>rw[cg,cc,ih,FN,bU];omega
 simp only[cw,cg,cZ,cK];rw[fQ _ _ (by omega),b];simp[Bb]
set_option maxRecDepth 100000
theorem ZJ(V:Value)(ms:List AW)(place:Nat)(r:Int)(B:Nat)(w:World)(hB:B<=w.heap.size)(f:w.ownsRow B 206 3 V ms.length (ms.flatMap Bb))(EX:ms.length<=1000000)(AB:place<=1000000)
  (x:∀m∈ms,m.place<=1000000/\m.text.size<=1000000):
  Calls prog 156 #[V,.int .i64 place,.int .i32 r] w λe I=>∃v,e=.returned v/\I.ownsRow B 206 3 v (Kk ms place r).length ((Kk ms place r).flatMap Bb)/\Below B w I:=by
 obtain⟨S,X,K,R,T⟩:=cU Tryz.zA;obtain⟨ad,Q,rfl⟩:=Aj f;by_cases b:r=32\/r=10
 .have i:Hid (Kk ms place r=ms):=by show _=_;unfold Kk;rw[if_pos b]
  rcases b with b|b
  ·(have P:(r==32)=true:=by simp[b]);clear b;go_enter func156,ntmps156;go_wp2;go_ret;rw[i.out];exact⟨_,rfl,f,Below.refl _ _⟩
  ·(have P:(r==32)=false:=by simp[b]);(have Y:(r==10)=true:=by simp[b]);clear b;go_enter func156,ntmps156;go_wp2;go_ret;rw[i.out];exact⟨_,rfl,f,Below.refl _ _⟩
 .have P:(r==32)=false:=by simp;omega
  have Y:(r==10)=false:=by simp;omega
  rcases List.eq_nil_or_concat ms with rfl|⟨pre,m,L⟩
  ·(have i:Hid (Kk [] place r=[B1 place r]):=by show _=_;unfold Kk;rw[if_neg b];rfl);have M:=IM r w;clear b x;have Ax:=Ab M;clear M;go_enter func156,ntmps156;(go_wp2_with fail);refine(Aa Ax).mono ?_;rintro e d ⟨rfl,U⟩;rw[U];clear U d;go_wp2_with (at_builtin;refine cd _ rfl (.tmp 40) (.tmp 47) _ rfl B 206 S _ 3 32 underlying200 X K R T rfl (by omega) (.slice ad 0 Q) 0 [] rfl (bQ f _) ⟨w.heap.size,0,none⟩ 1 1 (Bb (B1 place r)) rfl rfl (cj (cs:=(Bb (B1 place r)).toArray) (t:=206) (fr:=(0,0)) (cA w _)) (by simp[Value.oneCell',Bb]) (by omega) (by unfold maxLen;omega) (by omega) (by simp;omega) (w.heap.size+1) (by simp) ?_;intro g1 AO d E l u n)
   have G:Below B w d:=((Below.refl B w).alloc hB _).grown l (by simp;omega) (λq z=>(f.lt q z).1);clear l u n;go_wp2;go_ret;rw[i.out];refine⟨_,rfl,?_,G⟩;simpa using E
  .rw[List.concat_eq_append]at L;subst L;have i:=Ab (Mt (pre:=pre) (m:=m) (place:=place) b);(have o:pre.length<(pre++[m]).length:=by simp);obtain⟨g,EK,W,hc,p⟩:=Av f (λc _=>FN c) pre.length o;simp only[bK]at W;obtain⟨rfl,_,rfl⟩:=W;have H:=p pre.length o 0 (by omega);have A:=p pre.length o 1 (by omega);have s:=p pre.length o 2 (by omega);simp[Bb]at H A s;have D:=x m (by simp);have J:=Gr f (pre.length*3+2);(have n:(pre++[m]).length=pre.length+1:=by simp);(have FC:pre.length<=1000000:=by omega);have y:=Ub m place r w D.1 D.2 AB;simp only[Bb]at y;have O:=Ab y;clear p b y x;rw[n]at f⊢;cases hgo:Cd m place r with
   |true=>
    have F:=Ab hgo;go_enter func156,ntmps156;(go_wp2_with fail);refine(Aa O).mono ?_;rintro e d ⟨rfl,a⟩;rw[hgo];have j:=Ad f a (by simp);have CL:=Gr j (pre.length*3+2);have FF:d.cell? ⟨g,pre.length*3+2,none⟩=some (.string m.text):=by
     have B9:=(f.lt g rfl).2;rw[World.cell?_of_block (w:=w) (a.block g B9 (by simp))];exact s
    have C:Below B w d:=⟨a.os,a.tape,a.output,a.size,λk hk=>a.block k (by omega) (by simp)⟩;clear H A s J a hgo;have CC:=Vi r;have EY:=D.2;go_wp2;go_ret;rw[Aa i,Aa F,if_pos rfl];refine⟨_,rfl,?_,C.setCell (f.lt g rfl).1 _⟩;have h:=Ds j (pre.length*3+2) (.string (m.text++Utf8.encode r));rw[X3]at h;simpa using h
   |false=>
    have F:=Ab hgo;go_enter func156,ntmps156;(go_wp2_with fail);refine(Aa O).mono ?_;rintro e d ⟨rfl,a⟩;rw[hgo];have j:=Ad f a (by simp);have C:Below B w d:=⟨a.os,a.tape,a.output,a.size,λk hk=>a.block k (by omega) (by simp)⟩;have FA:=a.size;clear H A s J a hgo;(go_wp2_with fail);refine(IM r d).mono ?_;rintro e w2 ⟨rfl,N⟩;rw[N];clear N w2;go_wp2_with (at_builtin;refine cd _ rfl (.tmp 40) (.tmp 47) _ rfl B 206 S _ 3 32 underlying200 X K R T rfl (by omega) (.slice (some ⟨g,0,none⟩) (pre.length+1) Q) (pre.length+1) ((pre++[m]).flatMap Bb) rfl (bQ j _) ⟨d.heap.size,0,none⟩ 1 1 (Bb (B1 place r)) rfl rfl (cj (cs:=(Bb (B1 place r)).toArray) (t:=206) (fr:=(0,0)) (cA d _)) (by simp[Value.oneCell',Bb]) (by omega) (by unfold maxLen;omega) (by omega) (by simp;omega) (d.heap.size+1) (by simp) ?_;intro g1 AO Z E l u n)
    have G:Below B w Z:=(C.alloc (by omega) _).grown l (by simp;omega) (λq z=>(j.lt q z).1);clear l u n;go_wp2;go_ret;rw[Aa i,Aa F,if_neg (by simp)];refine⟨_,rfl,?_,G⟩;simpa using E
end Go.Proofs.YtoihbhenbmffcaaGreatDoor
namespace Go.Proofs.YtoihbhenbmffcaaGreatDoor
open Go.RowKit Go.Proofs.Tryz
structure X0(F:Type) where
 pos:List F
 neg:List F
 head:F
section
variable {F:Type} (I:X0 F->Prop) (gD:F->Nat)
structure LV:Prop where
 pos:∀i,I i->∀g∈i.pos,gD g<=gD i.head
 neg:∀i,I i->∀g∈i.neg,gD g<gD i.head
def IV(i:X0 F)(P N:F->Prop):Prop:=(∀g∈i.pos,P g)/\∀g∈i.neg,¬N g
def OG(M:F->Prop):Prop:=∀i,I i->IV i M M->M i.head
def LP(M:F->Prop)(n:Nat):Prop:=∀S:F->Prop,(∀f,M f->gD f<n->S f)->(∀i,I i->gD i.head=n->IV i S M->S i.head)->∀f,M f->gD f=n->S f
theorem Wz(l:LV I gD){M N:F->Prop}(d:OG I N)(k:∀n,LP I gD M n):∀n,(∀f,gD f<n->(M f↔N f))->∀f,M f->gD f=n->N f:=by
 intro n ih f e m;refine k n N (λg a j=>(ih g j).1 a) (λi c o b=>?_) f e m;refine d i c ⟨b.1,λg a h=>b.2 g a ?_⟩;exact(ih g (by have:=l.neg i c g a;omega)).2 h
structure C8(n:Nat)(s:F->Prop):Prop where
 top:∀f,s f->gD f<=n
 closed:∀i,I i->gD i.head<n->IV i s s->s i.head
 least:∀m,m<=n->LP I gD s m
theorem C8.start:C8 I gD 0 (λ_=>False):=
 ⟨λf h=>h.elim,λi _ h=>by omega,λm _ S _ _ f h=>h.elim⟩
theorem C8.step(p:LV I gD){n:Nat}{s:F->Prop}(h:C8 I gD n s){i:X0 F}(q:I i)(k:gD i.head=n)(l:IV i s s):C8 I gD n (λf=>s f\/f=i.head):=by
 have r:∀j,I j->gD j.head<=n->((∀g∈j.neg,¬(s g\/g=i.head))↔∀g∈j.neg,¬s g):=by
  intro j d v;constructor
  .intro o g a c;exact o g a (Or.inl c)
  .intro o g a c;rcases c with c|c
   .exact o g a c
   .have:=p.neg j d g a;rw[c,k]at this;omega
 refine⟨λf b=>?_,λj d v e=>?_,λm D S t w f b y=>?_⟩
 .rcases b with b|b
  .exact h.top f b
  .rw[b,k];omega
 .refine Or.inl (h.closed j d v ⟨λg a=>?_,(r j d (by omega)).1 e.2⟩);rcases e.1 g a with c|c
  .exact c
  .have:=p.pos j d g a;rw[c,k]at this;omega
 .have u:∀g,s g->gD g=m->S g:=λg a E=>h.least m D S (λx C z=>t x (Or.inl C) z) (λj d B e=>w j d B ⟨e.1,(r j d (by omega)).2 e.2⟩) g a E
  rcases b with b|b
  .exact u f b y
  .subst b;(have A:m=n:=by omega);subst A;refine w i q k ⟨λg a=>?_,(r i q (by omega)).2 l.2⟩;by_cases G:gD g<gD i.head
   .exact t g (Or.inl (l.1 g a)) (by omega)
   .exact u g (l.1 g a) (by have:=p.pos i q g a;omega)
theorem C8.next{n:Nat}{s:F->Prop}(h:C8 I gD n s)(g:∀i,I i->gD i.head=n->IV i s s->s i.head):C8 I gD (n+1) s:=by
 refine⟨λf a=>by have:=h.top f a;omega,λi c l b=>?_,λm k=>?_⟩
 .by_cases d:gD i.head=n
  .exact g i c d b
  .exact h.closed i c (by omega) b
 .by_cases e:m<=n
  .exact h.least m e
  .intro S _ _ f a j;have:=h.top f a;omega
theorem C8.done{n:Nat}{s:F->Prop}(h:C8 I gD n s)(e:∀i,I i->gD i.head<n):OG I s/\∀m,LP I gD s m:=by
 refine⟨λi a d=>h.closed i a (e i a) d,λm=>?_⟩;by_cases b:m<=n
 .exact h.least m b
 .intro S _ _ f c g;have:=h.top f c;omega
theorem C8.cong{n:Nat}{s t:F->Prop}(h:C8 I gD n s)(e:∀f,s f↔t f):C8 I gD n t:=by
 have:s=t:=funext λf=>propext (e f)
 rw[<-this];exact h
end
theorem W7{F:Type}(I:X0 F->Prop)(a c:F->Nat)(e:LV I a)(A:LV I c){M N:F->Prop}(r:OG I M)(w:∀n,LP I a M n)(t:OG I N)(q:∀n,LP I c N n):∀f,M f↔N f:=by
 have s:∀n f,a f<n->(M f↔N f):=by
  intro n
  induction n with
  |zero=>intro f h;omega
  |succ n ih=>
   have y:∀k g,c g<k->N g->a g<=n->M g:=by
    intro k
    induction k with
    |zero=>intro g h;omega
    |succ k ihk=>
     intro g B p o;by_cases d:c g<k
     .exact ihk g d p o
     .refine q k (λx=>a x<=n->M x) (λf u v=>ihk f v u) (λi j C m D=>?_) g p (by omega) o;refine r i j ⟨λx b=>m.1 x b (by have:=e.pos i j x b;omega),λx b z=>m.2 x b ?_⟩;exact(ih x (by have:=e.neg i j x b;omega)).1 z
   intro f h;by_cases d:a f<n
   .exact ih f d
   .exact⟨λl=>Wz I a e t w n ih f l (by omega),λl=>y (c f+1) f (by omega) l (by omega)⟩
 intro f;exact s (a f+1) f (by omega)
end Go.Proofs.YtoihbhenbmffcaaGreatDoor
namespace Go.Proofs.YtoihbhenbmffcaaGreatDoor
open Go.RowKit Go.Proofs.Tryz
theorem Tryz.ea:(Tryz.prog.info? 243).map (·.size)=some 26:=by kernel_rfl
theorem Tryz.em:(Tryz.prog.info? 90).map (·.size)=some 26:=by kernel_rfl
theorem World.gN(b:Nat)(t:TypeId):∀(a:List Value) (o:Nat) (w:World) (c:List Value),AE w b c t->o+a.length<=c.length->AE (w.setCells b o a) b (c.take o++a++c.drop (o+a.length)) t
 |[],o,w,c,h,hl=>by
  simp only[cE,fS,cK,dl];exact h
 |v::a,o,w,c,h,hl=>by
  simp only[bU]at hl;have ih:=World.gN b t a (o+1) (w.setCell ⟨b,o,none⟩ v) (c.set o v) (h.set o v) (by simp;omega);have e:(c.set o v).take (o+1)++a++(c.set o v).drop (o+1+a.length)=c.take o++v::a++c.drop (o+(v::a).length):=by
   rw[List.drop_set,if_pos (by omega),bM (by simp;omega),List.getElem_set_self,List.take_set,List.set_eq_of_length_le (by simp;omega)];simp only[bU,dd,fU,dG,dm];rw[show o+1+a.length=o+(a.length+1) by omega]
  rw[e]at ih;exact ih
theorem AE.gH{w:World}{b:Nat}{cs:List Value}{t:TypeId}(h:AE w b cs t)(a:List Value)(c:a.length=cs.length):AE (w.setCells b 0 a) b a t:=by
 have:=World.gN b t a 0 w cs h (by omega);rw[cV,c,List.drop_length]at this;simpa using this
theorem Ac.ek{M:List Nat}{a w:World}(h:Ac M a w){b:Nat}(d:b∈M\/a.heap.size<=b):∀(c:List Value) (o:Nat),Ac M a (w.setCells b o c)
 |[],_=>h
 |v::c,o=>(h.setCell (p:=⟨b,o,none⟩) d v).ek d c (o+1)
end Go.Proofs.YtoihbhenbmffcaaGreatDoor
namespace Go.Proofs.YtoihbhenbmffcaaGreatDoor
open Go.RowKit Go.Proofs.Tryz
section
variable {α:Type} {lt eq:α->α->Bool}
def BE(ls:List (List α))(i:Nat):List α:=ls.getD i []
theorem Eo{ls:List (List α)}{i:Nat}(h:i<ls.length):BE ls i∈ls:=by
 unfold BE;rw[bT,bW h];exact bL h
theorem Ya{ls:List (List α)}{l:List α}(h:l∈ls):∃i,i<ls.length/\BE ls i=l:=by
 obtain⟨i,a,e⟩:=cN h;refine⟨i,a,?_⟩;unfold BE;rw[bT,bW a];exact e
def I1(ls:List (List α))(y:α):Prop:=∀l∈ls,y∈l
def ED(k t:Nat):Nat:=if t+1=k then 0 else t+1
theorem Yb{k t:Nat}(h:t<k):(t+1)%k=ED k t:=by
 unfold ED;split
 .rename_i e;rw[e,Nat.mod_self]
 .exact Nat.mod_eq_of_lt (by omega)
theorem Rw{k t:Nat}(h:t<k):ED k t<k:=by
 unfold ED;split<;>omega
def LF(k t ag i:Nat):Prop:=(ag<=t/\t-ag<=i/\i<t)\/(t<ag/\(i<t\/t+k-ag<=i))
theorem YR{k t a i:Nat}(c:t<k)(b:a<k)(d:i<k)(h:LF k (ED k t) (a+1) i):LF k t a i\/i=t:=by
 unfold LF ED at h;unfold LF;split at h<;>omega
theorem Zz{k t a i:Nat}(d:t<k)(b:a+1=k)(c:i<k):LF k t a i\/i=t:=by
 unfold LF;omega
theorem O4{k t i:Nat}:¬LF k t 0 i:=by
 unfold LF;omega
def aI(lt:α->α->Bool)(s:α)(l:List α):Nat:=l.countP λy=> !lt y s
def RD(lt:α->α->Bool)(s:α)(ls:List (List α)):Nat:=(ls.map (aI lt s)).sum
theorem Vs(o:MI lt eq){s a:α}(h:lt s a=true)(l:List α):aI lt a l<=aI lt s l:=by
 unfold aI;refine List.countP_mono_left (λy _ b=>?_);cases hh:lt y s with
 |false=>rfl
 |true=>rw[o.trans _ _ _ hh h]at b;cases b
theorem Zk(o:MI lt eq){s a:α}(h:lt s a=true):∀{l:List α},s∈l->aI lt a l<aI lt s l
 |x::l,b=>by
  have e:∀z,aI lt z (x::l)=aI lt z l+(if(!lt x z)=true then 1 else 0):=λz=>by unfold aI;rw[List.countP_cons]
  rw[e,e];have d:=Vs o h l;rcases bS.1 b with rfl|b
  .rw[h,o.irr];simp;omega
  .have c:=Zk o h b;cases hx:lt x s with
   |true=>rw[o.trans _ _ _ hx h];simp;omega
   |false=>
    cases lt x a<;>simp<;>omega
theorem Zo(o:MI lt eq){s b:α}(h:lt s b=true):∀(a:List (List α)),RD lt b a<=RD lt s a
 |[]=>bZ _
 |l::a=>by
  have e:∀z,RD lt z (l::a)=aI lt z l+RD lt z a:=λz=>by unfold RD;simp
  rw[e,e];have:=Vs o h l;have:=Zo o h a;omega
theorem Vt(o:MI lt eq){s d:α}(h:lt s d=true):∀{a:List (List α)},(∃l∈a,s∈l)->RD lt d a<RD lt s a
 |l::a,b=>by
  have e:∀z,RD lt z (l::a)=aI lt z l+RD lt z a:=λz=>by unfold RD;simp
  rw[e,e];obtain⟨q,c,b⟩:=b;have g:=Zo o h a;have f:=Vs o h l;rcases bS.1 c with rfl|c
  .have:=Zk o h b;omega
  .have:=Vt o h ⟨q,c,b⟩;omega
def VE(p:Nat->Nat)(t v:Nat):Nat->Nat:=λi=>if i=t then v else p i
structure Nj(lt:α->α->Bool)(ls:List (List α))(t:Nat)(s:α)(ag:Nat)(p:Nat->Nat)(m:List α):Prop where
 tk:t<ls.length
 agk:ag<ls.length
 win:∀i,i<ls.length->LF ls.length t ag i->s∈BE ls i
 ple:∀i,i<ls.length->p i<=(BE ls i).length
 below:∀i,i<ls.length->∀j (h:j<(BE ls i).length),j<p i->lt (BE ls i)[j] s=true
 src:∃l∈ls,s∈l
 sound:∀y∈m,I1 ls y
 low:∀y∈m,lt y s=true
 en:m.Pairwise λa b=>lt a b=true
 gV:∀y,I1 ls y->y∈m\/lt y s=false
structure Qb(lt:α->α->Bool)(ls:List (List α))(t:Nat)(s:α)(ag at_:Nat)(p:Nat->Nat)(m:List α):Prop where
 tk:t<ls.length
 agk:ag<ls.length
 gK:at_<(BE ls t).length
 gX:(BE ls t)[at_]=s
 win:∀i,i<ls.length->LF ls.length t ag i\/i=t->s∈BE ls i
 ple:∀i,i<ls.length->p i<=(BE ls i).length
 below:∀i,i<ls.length->∀j (h:j<(BE ls i).length),j<p i->lt (BE ls i)[j] s=true
 here:∀j (h:j<(BE ls t).length),j<at_->lt (BE ls t)[j] s=true
 sound:∀y∈m,I1 ls y
 low:∀y∈m,lt y s=true
 en:m.Pairwise λa b=>lt a b=true
 gV:∀y,I1 ls y->y∈m\/lt y s=false
variable {ls:List (List α)} {t:Nat} {s:α} {ag:Nat} {p:Nat->Nat} {m:List α}
theorem Cy.gu(o:MI lt eq){l:List α}(d:Cy lt l){i:Nat}(g:i<l.length){y:α}(b:y∈l)(h:∀j (a:j<l.length),j<i->l[j]≠y):lt y l[i]=false:=by
 obtain⟨j,a,e⟩:=cN b;have f:i<=j:=by
  by_cases c:j<i
  .exact absurd e (h j a c)
  .omega
 rw[<-e];exact d.up o a f (o.irr _)
theorem Nj.start(o:MI lt eq)(b:0<ls.length)(f:Cy lt (BE ls 0))(c:0<(BE ls 0).length):Nj lt ls 0 (BE ls 0)[0] 0 (λ_=>0) []:=by
 refine⟨b,b,λi k d=>absurd d O4,λi _=>b8 _,λi _ j h e=>by omega,⟨_,Eo b,bL c⟩,λy a=>by simp at a,λy a=>by simp at a,List.Pairwise.nil,λy a=>Or.inr ?_⟩;exact f.gu o c (a _ (Eo b)) (λj e g=>by omega)
theorem Nj.before(h:Nj lt ls t s ag p m){at_:Nat}(c:CK lt (BE ls t) (p t) s at_):∀j (a:j<(BE ls t).length),j<at_->lt (BE ls t)[j] s=true:=by
 intro j a d;by_cases b:j<p t
 .exact h.below t h.tk j a b
 .exact c.below j a (by omega) d
theorem Nj.done(h:Nj lt ls t s ag p m){at_:Nat}(d:CK lt (BE ls t) (p t) s at_)(f:at_=(BE ls t).length):∀y,y∈m↔I1 ls y:=by
 intro y;refine⟨h.sound y,λb=>?_⟩;rcases h.gV y b with a|a
 .exact a
 .obtain⟨j,c,e⟩:=cN (b _ (Eo h.tk));have:=h.before d j c (by omega);rw[e,a]at this;cases this
theorem Nj.same(h:Nj lt ls t s ag p m){at_:Nat}(d:CK lt (BE ls t) (p t) s at_)(b:at_<(BE ls t).length)(c:(BE ls t)[at_]=s):Qb lt ls t s ag at_ p m:=by
 refine⟨h.tk,h.agk,b,c,λi e a=>?_,h.ple,h.below,h.before d,h.sound,h.low,h.en,h.gV⟩;rcases a with a|rfl
 .exact h.win i e a
 .rw[<-c];exact bL b
theorem Nj.past(o:MI lt eq)(r:Cy lt (BE ls t))(h:Nj lt ls t s ag p m){at_:Nat}(k:CK lt (BE ls t) (p t) s at_)(d:at_<(BE ls t).length)(q:(BE ls t)[at_]≠s):Qb lt ls t (BE ls t)[at_] 0 at_ p m/\RD lt (BE ls t)[at_] ls<RD lt s ls:=by
 have c:lt s (BE ls t)[at_]=true:=by
  refine o.tot _ _ (k.gU at_ d (bZ _)) ?_;cases hq:eq (BE ls t)[at_] s with
  |false=>rfl
  |true=>exact absurd ((o.eqv _ _).1 hq) q
 refine⟨⟨h.tk,by have:=h.tk;omega,d,rfl,λi n g=>?_,h.ple,λi n j b a=>o.trans _ _ _ (h.below i n j b a) c,λj b a=>o.trans _ _ _ (h.before k j b a) c,h.sound,λy f=>o.trans _ _ _ (h.low y f) c,h.en,λy f=>?_⟩,Vt o c h.src⟩
 .rcases g with g|rfl
  .exact absurd g O4
  .exact bL d
 .rcases h.gV y f with l|l
  .exact Or.inl l
  .right;refine r.gu o d (f _ (Eo h.tk)) (λj b a e=>?_);have:=h.before k j b a;rw[e,l]at this;cases this
theorem QK(a:∀i,i<ls.length->p i<=(BE ls i).length){v:Nat}(b:v<=(BE ls t).length):∀i,i<ls.length->VE p t v i<=(BE ls i).length:=by
 intro i c;unfold VE;split
 .rename_i e;rw[e];exact b
 .exact a i c
variable {at_:Nat}
theorem Qb.next(h:Qb lt ls t s ag at_ p m)(f:ag+1<ls.length):Nj lt ls (ED ls.length t) s (ag+1) (VE p t at_) m:=by
 refine⟨Rw h.tk,f,λi b d=>h.win i b (YR h.tk h.agk b d),QK h.ple (Nat.le_of_lt h.gK),λi b j c a=>?_,⟨_,Eo h.tk,h.win t h.tk (Or.inr rfl)⟩,h.sound,h.low,h.en,h.gV⟩;unfold VE at a;split at a
 .rename_i e;subst e;exact h.here j c a
 .exact h.below i b j c a
theorem Qb.common(h:Qb lt ls t s ag at_ p m)(b:ag+1=ls.length):I1 ls s:=by
 intro l c;obtain⟨i,a,rfl⟩:=Ya c;exact h.win i a (Zz h.tk b a)
theorem Qb.zL(h:Qb lt ls t s ag at_ p m)(e:ag+1=ls.length):(∀y∈m++[s],I1 ls y)/\(m++[s]).Pairwise (λa b=>lt a b=true):=by
 refine⟨λy c=>?_,?_⟩
 .rcases bY.1 c with c|c
  .exact h.sound y c
  .rw[bO]at c;subst c;exact h.common e
 .rw[fp];refine⟨h.en,by simp,λa f b d=>?_⟩;rw[bO]at d;subst d;exact h.low a f
theorem Qb.last(o:MI lt eq)(k:Cy lt (BE ls t))(h:Qb lt ls t s ag at_ p m)(g:ag+1=ls.length)(i:at_+1=(BE ls t).length):∀y,y∈m++[s]↔I1 ls y:=by
 intro y;refine⟨(h.zL g).1 y,λb=>?_⟩;rw[bY,bO];rcases h.gV y b with a|a
 .exact Or.inl a
 .right;obtain⟨j,f,e⟩:=cN (b _ (Eo h.tk));by_cases d:j<at_
  .have:=h.here j f d;rw[e,a]at this;cases this
  ·(have c:j=at_:=by omega);subst c;rw[<-e];exact h.gX
theorem Qb.more(o:MI lt eq)(q:Cy lt (BE ls t))(h:Qb lt ls t s ag at_ p m)(n:ag+1=ls.length)(f:at_+1<(BE ls t).length):Nj lt ls (ED ls.length t) (BE ls t)[at_+1] 0 (VE p t (at_+1)) (m++[s])/\RD lt (BE ls t)[at_+1] ls<RD lt s ls:=by
 have b:lt s (BE ls t)[at_+1]=true:=by
  have:=q at_ (at_+1) h.gK f (by omega);rw[h.gX]at this;exact this
 have w:0<ls.length:=by have:=h.tk;omega
 refine⟨⟨Rw h.tk,w,λi r v=>absurd v O4,QK h.ple (Nat.le_of_lt f),λi r j d c=>?_,⟨_,Eo h.tk,bL f⟩,(h.zL n).1,λy a=>?_,(h.zL n).2,λy a=>?_⟩,Vt o b ⟨_,Eo h.tk,h.win t h.tk (Or.inr rfl)⟩⟩
 .unfold VE at c;split at c
  .rename_i e;subst e;by_cases g:j<at_
   .exact o.trans _ _ _ (h.here j d g) b
   ·(have l:j=at_:=by omega);subst l;rw[h.gX];exact b
  .exact o.trans _ _ _ (h.below i r j d c) b
 .rcases bY.1 a with a|a
  .exact o.trans _ _ _ (h.low y a) b
  .rw[bO]at a;subst a;exact b
 .rw[bY,bO];rcases h.gV y a with k|k
  .exact Or.inl (Or.inl k)
  .by_cases u:y=s
   .exact Or.inl (Or.inr u)
   .right;refine q.gu o f (a _ (Eo h.tk)) (λj d c e=>?_);by_cases g:j<at_
    .have:=h.here j d g;rw[e,k]at this;cases this
    ·(have l:j=at_:=by omega);subst l;rw[h.gX]at e;exact u e.symm
end
