import Derived.WalkKit
import Derived.Deep.AppendLies
import Derived.Deep.QuietTactic
import Derived.BigQuiet
import Derived.Deep.LoopGhost
import Derived.Deep.MidRow
import Derived.Handy
import Derived.Test.YtoihbhenbmffcaaGreatDoorProg
import Derived.Deep.RegionHeld3
import Derived.Shelf.Spec.SlicesInsertGrow
set_option linter.all false
set_option maxHeartbeats 0
open List renaming length->Z,toArray->Za,flatMap->qS,take->qT,replicate->kB
open Option renaming none->Y,some->V,toList->qV
open Go.Value renaming slice->U,int->X,string->O,pointer->jj,agg->ku,bool->kx,ownBlock->kE,ownBlock->qW
open Bool renaming false->K,true->T6
open Go.IntKind renaming i64->J,i32->kw
open Go.Ending renaming returned->j1
open Or renaming inl->j2,inr->j3
open Go renaming World->jH,Value->jR,Calls->rE,undef->rH
open Go.RowKit renaming Hid->jV,intOf->rG
open Go.World renaming ownsRow->kt,cell?->jY
open ByteArray renaming empty->ky
open Go.Op renaming bytesLess->kG
open Go.Proofs.Tryz renaming prog->rF
open Go.Obj renaming cells->Y6
abbrev Go.World.ownsRow.C:=@Go.World.ownsRow.kept
abbrev Go.Calls.G:=@Go.Calls.mono
abbrev Eq.H:=@Eq.trans
abbrev Go.RowKit.Hid.o:=@Go.RowKit.Hid.out
abbrev List.Sublist.H:=@List.Sublist.trans
abbrev Iff.H:=@Iff.trans
namespace Go.Proofs.YtoihbhenbmffcaaGreatDoor
open Go.RowKit Go.Proofs.Tryz
section
abbrev rk:=@congrArg
abbrev rl:=@absurd
abbrev rm:=@if_false
abbrev ro:=@if_true
abbrev rp:=@List.Pairwise.nil
abbrev rq:=@List.getElem_append_right
abbrev ru:=@List.mem_of_getElem?
abbrev rx:=@Go.World.ownsRow.lt
abbrev ry:=@List.getElem?_replicate
abbrev rz:=@List.mem_append_right
abbrev rA:=@List.length_reverse
abbrev rB:=Option Addr
abbrev rC:=UInt8
abbrev rD:=Bool
theorem qr{p:Prop}(h:p:=by simp_all):p:=h
theorem qu{p:Prop}(h:p:=by simp only[_root_.Go.RowKit.Hid]at *<;>omega):p:=h
theorem qw{p:Prop}(h:p:=by simp only[_root_.Go.RowKit.Hid]at *<;>simp_all):p:=h
theorem qy{p:Prop}(h:p:=by simp_all<;>omega):p:=h
theorem se{p:Prop}(h:p:=by show _=_;simp):p:=h
theorem sg{p:Prop}(h:p:=by rcases h with h|h;exact Or.inr h;exact Or.inl h):p:=h
theorem sh{p:Prop}(h:p:=by go_split_ands;exact Ac.H oa k3):p:=h
theorem si{p:Prop}(h:p:=by go_split_ands;exact Ac.H oa k5):p:=h
theorem sj{p:Prop}(h:p:=by simp[Fm]):p:=h
theorem sk{p:Prop}(h:p:=by simp[Act.eval,Act.put]):p:=h
theorem sm{p:Prop}(h:p:=by rw[Aa n];exact Tryz.zE):p:=h
theorem sn{p:Prop}(h:p:=by simp[d]):p:=h
theorem sq{p:Prop}(h:p:=by simp[b]):p:=h
theorem sr{p:Prop}(h:p:=by simp[a]):p:=h
theorem ss{p:Prop}(h:p:=by simp[c]):p:=h
theorem su{p:Prop}(h:p:=by simp[_root_.Go.Value.ownBlock]<;>omega):p:=h
theorem sw{p:Prop}(h:p:=by simp[_root_.Go.Value.ownBlock]):p:=h
theorem sx{p:Prop}(h:p:=by have:=Aa HN;omega):p:=h
theorem sy{p:Prop}(h:p:=by rw[mM];omega):p:=h
theorem sA{p:Prop}(h:p:=by simpa using a):p:=h
theorem sB{p:Prop}(h:p:=by simpa using b):p:=h
theorem sC{p:Prop}(h:p:=by simpa using hm):p:=h
theorem sD{p:Prop}(h:p:=by simpa using I):p:=h
theorem sE{p:Prop}(h:p:=by simpa using h):p:=h
theorem sF{p:Prop}(h:p:=by simp at a):p:=h
theorem sG{p:Prop}(h:p:=by first|(simp[go_sem,Oper.semAt];done)|(simp[go_sem,Oper.semAt,execOp,resolve,invoke];done)):p:=h
theorem lc{p:Prop}(h:p:=by omega):p:=h
theorem rI{k n:Nat}(h:k<n):(0:Int)<=(k:Int)/\(k:Int)<(n:Int):=⟨lc,lc⟩
theorem rJ(k:Nat):(0:Int)<=(k:Int):=lc
theorem li{p:Prop}(h:p:=by simp<;>omega):p:=h
theorem ln{p:Prop}(h:p:=by simp):p:=h
theorem lo{p:Prop}(h:p:=by kernel_rfl):p:=h
theorem lu{p:Prop}(h:p:=by decide):p:=h
theorem lw{p:Prop}(h:p:=by unfold maxLen;omega):p:=h
theorem lx{p:Prop}(h:p:=by rfl):p:=h
theorem ly{p:Prop}(h:p:=by go_num):p:=h
theorem lB{p:Prop}(h:p:=by rintro ⟨_,_,h⟩;exact h):p:=h
theorem lC{p:Prop}(h:p:=by simp[Value.oneCell']):p:=h
theorem lM{p:Prop}(h:p:=by rintro ⟨_,_,h⟩;obtain⟨⟨v,e⟩,_⟩:=h;cases e):p:=h
theorem ml{p:Prop}(h:p:=by go_split_ands;assumption):p:=h
theorem nc{p:Prop}(h:p:=by right;simp<;>omega):p:=h
theorem oa{p:Prop}(h:p:=by assumption):p:=h
theorem oi{p:Prop}(h:p:=by right;omega):p:=h
theorem oj{p:Prop}(h:p:=by cases h):p:=h
theorem pp{p:Prop}(h:p:=by simp at h):p:=h
abbrev kN:=@List
abbrev bN:=ByteArray
abbrev lR:=@List.setIfInBounds_toArray
abbrev lS:=@List.set_cons_zero
abbrev lT:=@List.set_cons_succ
abbrev lU:=@Go.Value.slice.injEq
abbrev lV:=@List.getElem_mem
abbrev lW:=@List.take_succ_eq_append_getElem
abbrev lX:=@List.mem_singleton
abbrev lY:=@List.take_of_length_le
abbrev lZ:=@Option.some.injEq
abbrev l9:=@List.mem_cons
abbrev ma:=@Bool.false_eq_true
abbrev mc:=@List.getElem?_eq_getElem
abbrev me:=@List.mem_map
abbrev mg:=@Go.World.ownsRow.alloc
abbrev mh:=@List.length_map
abbrev mi:=@List.mem_append
abbrev mj:=@ByteArray.size_append
abbrev mm:=@if_neg
abbrev mn:=@List.length_cons
abbrev mo:=@if_pos
abbrev mp:=@List.length_append
abbrev mq:=@List.getD_eq_getElem?_getD
abbrev mr:=@Nat.zero_le
abbrev mt:=@Nat.le_refl
abbrev mu:=@List.drop_eq_getElem_cons
abbrev mw:=@Go.World.ownsRow_nil
abbrev mx:=@List.mem_map_of_mem
abbrev my:=@List.mem_filter
abbrev mz:=@Go.World.news_of_block
abbrev mA:=@List.map_cons
abbrev mB:=@List.flatMap_cons
abbrev mC:=@Bool.and_eq_true
abbrev mD:=@List.flatMap_append
abbrev mE:=@Go.wpList_append_lies
abbrev mF:=@Go.bodyPost_ret
abbrev mG:=@Go.heap_alloc_new
abbrev mH:=@List.mem_flatMap
abbrev mI:=@List.length_nil
abbrev mJ:=@Go.World.size_alloc
abbrev mK:=@List.foldl_cons
abbrev mL:=@Go.ByteArray.toList_eq
abbrev mM:=@beq_eq_false_iff_ne
abbrev mN:=@List.drop_eq_nil_of_le
abbrev mO:=@List.map_append
abbrev mP:=@List.mem_cons_of_mem
abbrev mQ:=@List.append_nil
abbrev mR:=@Go.Addr.mk.injEq
abbrev mS:=@List.getElem_of_mem
abbrev mT:=@List.length_take
abbrev mU:=@Prod.mk.injEq
abbrev mV:=@Array.getElem?_eq_some_iff
abbrev mW:=@Go.info_parts
abbrev mX:=@List.length_drop
abbrev mY:=@List.append_assoc
abbrev mZ:=@Nat.le_trans
abbrev m5:=@Nat.mul_le_mul_right
abbrev m6:=@List.foldl_append
abbrev m7:=@Nat.zero_add
abbrev m8:=@List.take_append_of_le_length
abbrev m9:=@List.mem_cons_self
abbrev ng:=@List.getElem?_set_ne
abbrev nh:=@List.map_map
abbrev ni:=@List.take_append_drop
abbrev nj:=@List.map_congr_left
abbrev nk:=@List.nil_append
abbrev no:=@List.getElem?_map
abbrev np:=@List.flatMap_nil
abbrev nr:=@List.not_mem_nil
abbrev nu:=@List.size_toArray
abbrev nw:=@List.take_length
abbrev ny:=@List.mem_of_mem_take
abbrev nz:=@Bool.eq_iff_iff
abbrev nA:=@Except.ok.injEq
abbrev nB:=@List.getElem_append_left
abbrev nC:=@decide_eq_false
abbrev nD:=@List.any_eq_true
abbrev nE:=@Bool.not_false
abbrev nF:=@Go.World.ownsRow.kept
abbrev nG:=@List.getElem?_set_self
abbrev nH:=@Go.all_oneCell_toArray
abbrev nI:=@List.all_eq_true
abbrev nJ:=@List.filter_cons
abbrev nK:=@Go.wpIn_seq_k
abbrev nL:=@List.length_filter_le
abbrev nM:=@Option.map_some
abbrev nN:=@Bool.or_eq_true
abbrev nO:=@List.length_set
abbrev nP:=@List.mem_append_left
abbrev nQ:=@Bool.true_and
abbrev nR:=@Nat.lt_of_lt_of_le
abbrev nS:=@List.cons_append
abbrev nT:=@ByteArray.size_extract
abbrev nU:=@List.any_eq_false
abbrev nV:=@List.getElem?_take
abbrev nW:=@UInt8.toNat_inj
abbrev nX:=@decide_eq_false_iff_not
abbrev nY:=@List.mem_filterMap
abbrev nZ:=@List.length_eq_zero_iff
abbrev n5:=@beq_iff_eq
abbrev n6:=@Bool.not_eq_true'
abbrev n7:=@Option.mem_toList
abbrev od:=@List.nodup_cons
abbrev oe:=@Go.wpList_load_mid
abbrev oh:=@List.pairwise_cons
abbrev ol:=@List.find?_eq_none
abbrev om:=@List.map_nil
abbrev oo:=@List.length_replicate
abbrev ot:=@List.eq_nil_of_length_eq_zero
abbrev ou:=@List.cons.injEq
abbrev ow:=@Go.wpList_store_mid
abbrev ox:=@List.pairwise_iff_getElem
abbrev oy:=@decide_eq_true
abbrev oz:=@Bool.false_ne_true
abbrev oA:=@List.filter_append
abbrev oB:=@List.findIdx?_eq_some_iff_getElem
abbrev oC:=@List.Pairwise.imp_of_mem
abbrev oD:=@Nat.add_mul
abbrev oE:=@List.pairwise_map
abbrev oF:=@Array.replicate_succ
abbrev oG:=@Array.replicate_zero
abbrev oH:=@List.nodup_nil
abbrev oI:=@List.getElem?_eq_some_iff
abbrev oJ:=@Go.step_append_lies
abbrev oK:=@Bool.not_true
abbrev oL:=@List.take_succ_cons
abbrev oM:=@List.append_toArray
abbrev oN:=@Go.Addr.add_lit
abbrev oO:=@Bool.false_or
abbrev oP:=@Nat.min_eq_left
abbrev oQ:=@Bool.or_eq_false_iff
abbrev oR:=@List.mem_of_mem_drop
abbrev oS:=@Go.decode_ascii
abbrev oT:=@Go.IntKind.wrap_i64
abbrev oU:=@List.getElem?_append_right
abbrev oV:=@decide_eq_true_eq
abbrev oW:=@List.drop_succ_cons
abbrev oX:=@List.push_toArray
abbrev oY:=@Bool.and_self
abbrev oZ:=@UInt8.le_iff_toNat_le
abbrev o9:=@Option.some.inj
abbrev pd:=@List.find?_cons
abbrev pg:=@Go.wpIn_cond_false
abbrev ph:=@Bool.false_and
abbrev pi:=@List.take_take
abbrev pj:=@List.any_map
abbrev pk:=@List.take_zero
abbrev pm:=@Go.wpIn_cond_true
abbrev po:=@List.getElem_take
abbrev pq:=@Go.Calls.quiet_of_same
abbrev pr:=@List.toList_toArray
abbrev pu:=@List.getElem_cons_zero
abbrev pw:=@Option.map_eq_some_iff
abbrev px:=@Array.getElem?_eq_none
abbrev py:=@Nat.lt_or_eq_of_le
abbrev pA:=@Bool.true_or
abbrev pB:=@List.getElem?_drop
abbrev pC:=@List.any_cons
abbrev pD:=@List.all_cons
abbrev pE:=@of_decide_eq_false
abbrev pF:=@Bool.and_false
abbrev pG:=@List.drop_zero
abbrev pH:=@List.nodup_append
abbrev pI:=@Go.results_none
abbrev pJ:=@List.findSome?_cons
abbrev pK:=@List.filter_eq_nil_iff
abbrev pL:=@Go.Sem.run_bind
abbrev pM:=@List.findSome?_append
abbrev pN:=@Nat.add_zero
abbrev pO:=@List.contains_iff_mem
abbrev pP:=@List.getElem_drop
abbrev pQ:=@Go.World.ownsRow_lit
abbrev pR:=@List.findSome?_eq_none_iff
abbrev pS:=@List.pairwise_append
abbrev pT:=@Bool.toNat_false
abbrev pU:=@List.map_flatMap
abbrev pV:=@Go.run_callFunc_extern
abbrev pW:=@List.filterMap_cons
abbrev pX:=@decide_false
abbrev pY:=@Bool.or_true
abbrev pZ:=@Go.ready_mono
abbrev p5:=@Array.setIfInBounds_comm
abbrev p7:=@Go.RowKit.Below.heap_setCell
abbrev p8:=@List.any_append
abbrev p9:=@List.zip_cons_cons
abbrev qd:=@List.find?_append
abbrev qe:=@Nat.min_def
abbrev qg:=@of_decide_eq_true
abbrev qh:=@Go.run_underlying
abbrev qi:=@List.mem_range
abbrev qj:=@List.set_append_right
abbrev qk:=@ByteArray.data_append
abbrev ql:=@List.countP_le_length
abbrev qm:=@List.singleton_append
abbrev qo:=@Go.decode_high
abbrev qp:=@Bool.or_self
abbrev qq:=@List.map_set
variable{w v u:jH}{M:kN Nat}{b m j n k i:Nat}{y:kN jR}{T:TypeId}{z:jR}{P:Program}{s:bN}{g:rC}
structure Ac(M:kN Nat)(w w':jH):Prop where
 os:w'.os=w.os
 tape:w'.tape=w.tape
 output:w'.output=w.output
 size:w.heap.size<=w'.heap.size
 block:∀k,k<w.heap.size->k∉M->w'.heap[k]?=w.heap[k]?
def kQ{α}(a:α):∃b,a=b:=⟨_,rfl⟩
def Ac.refl(M w):Ac M w w:=⟨rfl,rfl,rfl,mt _,λ_ _ _=>rfl⟩
abbrev kR:=@Ac.refl
def Ac.H{M}{a b c}(h:Ac M a b)(k:Ac M b c):Ac M a c:=
 ⟨k.os.H h.os,k.tape.H h.tape,k.output.H h.output,mZ h.size k.size,
  λi e d=>(k.block i (nR e h.size) d).H (h.block i e d)⟩
def Ac.trans'{M N}(h:Ac M w v)(k:Ac N v u)(j:∀i,i∈N->i∈M\/w.heap.size<=i):Ac M w u:=
 ⟨k.os.H h.os,k.tape.H h.tape,k.output.H h.output,mZ h.size k.size,
  λi f d=>(k.block i (nR f h.size) (λg=>by rcases j i g with e|e;exact d e;omega)).H (h.block i f d)⟩
def Ac.G{M N}(h:Ac M w v)(a:∀i,i∈M->i∈N):Ac N w v:=
 ⟨h.os,h.tape,h.output,h.size,λk c b=>h.block k c (λd=>b (a k d))⟩
def Ac.drew{M}{a w}(h:Ac M a w):Ac M a w.drew:=⟨h.os,h.tape,h.output,h.size,h.block⟩
def Ac.drewN{M}{a w}(h:Ac M a w)(n):Ac M a (w.drewN n):=⟨h.os,h.tape,h.output,h.size,h.block⟩
def Ac.alloc{M}{a w}(h:Ac M a w)(o):Ac M a (w.alloc o):=
 h.H ⟨rfl,rfl,rfl,ln,λk b _=>Below.heap_alloc _ _ _ b⟩
def Ac.setCell{M}{a w}(h:Ac M a w){p}(b:p.block∈M\/a.heap.size<=p.block)(u):Ac M a (w.setCell p u):=
 h.trans' (N:=[p.block]) ⟨rfl,rfl,rfl,ln,λk _ c=>p7 _ _ _ _ (by simpa using c)⟩ li
def Ac.grown{d}(h:Ac M v w)(b:w.grownBy u d)(j:∀k,d=V k->k∈M\/v.heap.size<=k):Ac M v u:=
 ⟨b.os.H h.os,b.tape.H h.tape,b.output.H h.output,mZ h.size b.size,
  λi g c=>(b.block i (nR g h.size) (λe=>by rcases j i e.symm with f|f;exact c f;omega)).H (h.block i g c)⟩
def Ac.below(h:Ac [] w v):Below w.heap.size w v:=⟨h.os,h.tape,h.output,h.size,λk a=>h.block k a ln⟩
def AF(w:jH)(b:Nat)(cs:kN jR)(t:TypeId):Prop:=w.heap[b]?=V (.cells (Za cs) t (0,0))
def AF.lt(h:AF w b y T):b<w.heap.size:=(mV.1 h).1
def AF.D{w}{b}{a}{t}(h:AF w b a t)(i):w.cell? ⟨b,i,Y⟩=a[i]?:=by
 unfold AF at h;simp[World.cell?,h]
def AF.c2{w}{b}{a}{t}(h:AF w b a t):w.cell? ⟨b,0,Y⟩=a[0]?/\w.cell? ⟨b,1,Y⟩=a[1]?:=⟨h.D 0,h.D 1⟩
def AF.c3{w}{b}{a}{t}(h:AF w b a t):w.cell? ⟨b,0,Y⟩=a[0]?/\w.cell? ⟨b,1,Y⟩=a[1]?/\w.cell? ⟨b,2,Y⟩=a[2]?:=⟨h.D 0,h.D 1,h.D 2⟩
def AF.c4{w}{b}{a}{t}(h:AF w b a t):w.cell? ⟨b,0,Y⟩=a[0]?/\w.cell? ⟨b,1,Y⟩=a[1]?/\w.cell? ⟨b,2,Y⟩=a[2]?/\w.cell? ⟨b,3,Y⟩=a[3]?:=⟨h.D 0,h.D 1,h.D 2,h.D 3⟩
def AF.c5{w}{b}{a}{t}(h:AF w b a t):w.cell? ⟨b,0,Y⟩=a[0]?/\w.cell? ⟨b,1,Y⟩=a[1]?/\w.cell? ⟨b,2,Y⟩=a[2]?/\w.cell? ⟨b,3,Y⟩=a[3]?/\w.cell? ⟨b,4,Y⟩=a[4]?:=⟨h.D 0,h.D 1,h.D 2,h.D 3,h.D 4⟩
def AF.c8{w}{b}{a}{t}(h:AF w b a t):w.cell? ⟨b,0,Y⟩=a[0]?/\w.cell? ⟨b,1,Y⟩=a[1]?/\w.cell? ⟨b,2,Y⟩=a[2]?/\w.cell? ⟨b,3,Y⟩=a[3]?/\w.cell? ⟨b,4,Y⟩=a[4]?/\w.cell? ⟨b,5,Y⟩=a[5]?/\w.cell? ⟨b,6,Y⟩=a[6]?/\w.cell? ⟨b,7,Y⟩=a[7]?:=⟨h.D 0,h.D 1,h.D 2,h.D 3,h.D 4,h.D 5,h.D 6,h.D 7⟩
def AF.c9{w}{b}{a}{t}(h:AF w b a t):w.cell? ⟨b,0,Y⟩=a[0]?/\w.cell? ⟨b,1,Y⟩=a[1]?/\w.cell? ⟨b,2,Y⟩=a[2]?/\w.cell? ⟨b,3,Y⟩=a[3]?/\w.cell? ⟨b,4,Y⟩=a[4]?/\w.cell? ⟨b,5,Y⟩=a[5]?/\w.cell? ⟨b,6,Y⟩=a[6]?/\w.cell? ⟨b,7,Y⟩=a[7]?/\w.cell? ⟨b,8,Y⟩=a[8]?:=⟨h.D 0,h.D 1,h.D 2,h.D 3,h.D 4,h.D 5,h.D 6,h.D 7,h.D 8⟩
theorem qX{a b c d e f}(h:U a b c=U d e f):a=d/\b=e/\c=f:=by simpa using h
theorem qY(t){A B C d o y p f g l D E}(h:wpList A B C ({dst:=d,op:=Op.load t o,type:=y,pos:=p,after:=f,guard:=g}::l) D E):wpList A B C ({dst:=d,op:=Op.load t o,type:=y,pos:=p,after:=f,guard:=g}::l) D E:=h
theorem qZ(t){A B C d o q y p f g l D E}(h:wpList A B C ({dst:=d,op:=Op.store t o q,type:=y,pos:=p,after:=f,guard:=g}::l) D E):wpList A B C ({dst:=d,op:=Op.store t o q,type:=y,pos:=p,after:=f,guard:=g}::l) D E:=h
theorem q7(t){A B C d o y p f g l D E}(h:wpList A B C ({dst:=d,op:=Op.buildSlice t 1 o,type:=y,pos:=p,after:=f,guard:=g}::l) D E):wpList A B C ({dst:=d,op:=Op.buildSlice t 1 o,type:=y,pos:=p,after:=f,guard:=g}::l) D E:=h
def AF.qI{w}{b}{a}{t}(h:AF w b a t)(i):w.frozen? ⟨b,i,Y⟩=K:=by
 unfold AF at h;simp[World.frozen?,h]
def AF.set{w}{b}{a}{t}(h:AF w b a t)(i u):AF (w.setCell ⟨b,i,Y⟩ u) b (a.set i u) t:=by
 unfold AF at*;simp[World.setCell,Array.getElem?_modify,h]
def AF.bW(h:AF w b y T)(p)(a:p.block≠b)(u):AF (w.setCell p u) b y T:=by
 unfold AF at*;rw[p7 _ _ _ _ (λe=>a e.symm)];exact h
def AF.alloc{w}{b}{a}{t}(h:AF w b a t)(o):AF (w.alloc o) b a t:=by
 have:=h.lt;unfold AF at*;rw[Below.heap_alloc _ _ _ this];exact h
def AF.new(w:jH)(a:kN jR)(t):AF (w.alloc (.cells (Za a) t)) w.heap.size a t:=by
 exact mG w _
abbrev kS:=@AF.new
def AF.C{w w':jH}(h:AF w b y T)(k:Ac M w w')(a:b∉M:=by simp):AF w' b y T:=by
 have:=h.lt;unfold AF at*;rw[k.block b this a];exact h
def AF.drew{w}{b}{a}{t}(h:AF w b a t):AF w.drew b a t:=h
def AF.drewN{w}{b}{a}{t}(h:AF w b a t)(n):AF (w.drewN n) b a t:=h
def AF.range(h:AF w b y T):w.rangeAt b 0 y:=λj v a=>by rw[m7,h.D];exact a
def AF.there{w}{b}{a}{t}(h:AF w b a t):w.there b 0 (Z a):=λj c=>by
 rw[m7,h.D,h.qI];simp[c]
def Ad(h:kt w m T j z n y)(k:Ac M w u)(c:∀i,i∈M->i<m:=by simp):kt u m T j z n y:=by
 refine⟨h.1,?_⟩;rcases h.2 with p|⟨g,d,b,rfl,f,a,l⟩
 .exact .inl p
 .refine .inr ⟨g,d,b,rfl,f,?_,l⟩;rw[k.block g (mV.1 a).1 (λo=>by have:=c g o;omega)];exact a
def Ag{v:jR}(h:kt w m T j v n y)(k:Ac M w u)(c:∀i,v.ownBlock=V i->i∉M:=by simp):kt u m T j v n y:=by
 refine⟨h.1,?_⟩;rcases h.2 with o|⟨g,d,b,rfl,f,a,l⟩
 .exact .inl o
 .refine .inr ⟨g,d,b,rfl,f,?_,l⟩;rw[k.block g (mV.1 a).1 (c g rfl)];exact a
def Ak{a base'}(h:kt w a T m z n y)(i:base'<=a):kt w base' T m z n y:=by
 refine⟨h.1,?_⟩;rcases h.2 with f|⟨g,c,b,rfl,j,d⟩
 .exact .inl f
 .exact .inr ⟨g,c,b,rfl,lc,d⟩
def CV(h:kt w m T k z n y):kt w.drew m T k z n y:=h
def DM(h:kt w m T i z n y)(k):kt (w.drewN k) m T i z n y:=h
def Ah(h:kt w m T k z n y){p}(b:z.ownBlock≠V p.block)(u):kt (w.setCell p u) m T k z n y:=
 Ag h ((kR [p.block] w).setCell ln u) (λi c a=>b (by simp at a;rw[c,a]))
def A8(h:kt w m T i z n y)(k)(a:k<m):z.ownBlock≠V k:=λT=>by
 have:=(h.lt k T).1;omega
def AF.grown{a}(h:AF w b y T)(k:w.grownBy v a)(c:a≠V b):AF v b y T:=by
 have:=h.lt;unfold AF at*;rw[k.block b this (λe=>c e.symm)];exact h
def Cj{c}{p}(h:c.results=#[.cell p T]){a}{t}{d}(f:a.getD p rH=jj (V ⟨b,0,Y⟩))(k:AF w b y t)(j:P.underlying T=V d)(e:d.isRow=T6)(l:(P.info? T).map (·.size)=V (Z y)):
  (results c a).run P w=.ok (ku (Za y)) w:=by
 have i:=run_loadVar_mid (P:=P) w b 0 T y d k.range j e l;have g:a[p]?.getD rH=jj (V ⟨b,0,Y⟩):=by simpa using f
 simp only[results,h];simp[pL,Result.andThen,g,i,asAddr]
def As{fn}{p u:Tmp}(h:fn.results=#[.cell p T,.tmp u]){a}{t}{d}(e:a.getD p rH=jj (V ⟨b,0,Y⟩))(i:AF w b y t)(g:P.underlying T=V d)(c:d.isRow=T6)(j:(P.info? T).map (·.size)=V (Z y)):
  (results fn a).run P w=.ok (.tuple #[ku (Za y),a.getD u rH]) w:=by
 have f:=run_loadVar_mid (P:=P) w b 0 T y d i.range g c j;rw[results_cell_tmp h];simp[pL,Result.andThen,e,f,asAddr]
def CX(h:kt w m T k z n y):∃b a,z=U b n a:=by
 rcases h.2 with⟨rfl,rfl⟩|⟨g,a,c,rfl,_⟩
 .exact ln
 exact ln
def XQ{α:Type}(f:α->kN jR)(a):∀(l:kN α),(∀x∈l,Z (f x)=a)->∀i b k,k<a->(qS f l)[i*a+k]?=(f l[i])[k]?
 |[],_,i,b,_,_=>by simp at b
 |x::l,h,0,_,k,hk=>by
  have c:=h x ln;simp;rw[List.getElem?_append_left lc]
 |x::l,h,i+1,b,k,hk=>by
  have c:=h x ln;have ih:=XQ f a l (λy d=>h y sn) i sB k hk;simp;rw[oU (by rw[c,oD];omega),c,oD,Nat.one_mul,show i*a+a+k-a=i*a+k by omega];exact ih
def Az{α:Type}{f:α->kN jR}{l:kN α}(h:kt w m T n z (Z l) (qS f l))(d:∀x∈l,Z (f x)=n)(i)(u:i<Z l):
  ∃g a,z=U (V ⟨g,0,Y⟩) (Z l) a/\Z l<=a/\∀j b k,k<n->w.cell? ⟨g,j*n+k,Y⟩=(f l[j])[k]?:=by
 rcases h.2 with⟨_,s⟩|⟨g,a,r,rfl,_,p,q,_,t,o⟩
 .omega
 .refine⟨g,a,rfl,q,λj b k c=>?_⟩;rw[<-XQ f n l d j b k c,<-o,nV,mo (by have:(j+1)*n<=Z l*n:=m5 _ b;rw[oD]at this;omega)];simp[World.cell?,p]
def Aj(h:kt w m T k z n y):∃b a,z=U b n a:=CX h
def Ai(x:bN):kN jR:=[O x]
def Ab{p}(h:p):jV p:=h
def kI{P}{Q}{a}{w}{x y}(h:∀K:Act->jH->Prop,jV (∀a w,y.wp P Q a w->K a w)->x.wp P (Exit.then K Q) a w):(Code.seq x y).wp P Q a w:=wp_seq_k λK k=>h K (Ab k)
def Aa{p}(h:jV p):p:=h
theorem Tryz.zk:(Tryz.prog.info? 9).map (λi=>(i.zero,i.size,i.bytes))=V (V (O ⟨#[]⟩),1,16):=lo
def B5(s:bN)(at_:Nat)(bad:rD):kN jR:=[O s,X J at_,kx bad]
def AC(c:rC):rD:=97<=c&&c<=122
def DF(c:rC):rD:=65<=c&&c<=90
def Aq(c:rC):rD:=48<=c&&c<=57
def DN(c:rC):rD:=c==32||c==10
def Bu{a b}(h:a=b):j1 (kx a)=j1 (kx b):=by rw[h]
def ji{k}{a b}(h:a=b):j1 (X k a)=j1 (X k b):=by rw[h]
theorem JD(n:Int)(c w)(h:n=c.toNat):rE rF 169 #[X .u8 n] w λe a=>e=j1 (kx (AC c))/\a=w:=by
 subst h;go_enter func169,ntmps169;go_wp2;all_goals go_ret
 all_goals refine⟨Bu ?_,rfl⟩
 all_goals (rw[nz];simp[AC,oZ];try omega)
theorem O0(n:Int)(c w)(h:n=c.toNat):rE rF 170 #[X .u8 n] w λe a=>e=j1 (kx (DF c))/\a=w:=by
 subst h;go_enter func170,ntmps170;go_wp2;all_goals go_ret
 all_goals refine⟨Bu ?_,rfl⟩
 all_goals (rw[nz];simp[DF,oZ];try omega)
theorem CI(n:Int)(c w)(h:n=c.toNat):rE rF 55 #[X .u8 n] w λe a=>e=j1 (kx (Aq c))/\a=w:=by
 subst h;go_enter func55,ntmps55;go_wp2;all_goals go_ret
 all_goals refine⟨Bu ?_,rfl⟩
 all_goals (rw[nz];simp[Aq,oZ];try omega)
def Af(s:bN)(at_:Nat):Nat:=
 if h:at_<s.size then(if DN s[at_] then Af s (at_+1)else at_)else at_
def AS(s:bN)(at_:Nat)(bad:rD):Nat:=if bad then at_ else Af s at_
def BI(s a)(h:a<=s.size):Af s a<=s.size:=by
 fun_induction Af s a<;>omega
def Ck(s a):a<=Af s a:=by
 fun_induction Af s a<;>omega
def LX(s a):AS s a T6=a:=rfl
def R6(s a)(h:¬a<s.size)(b):AS s a b=a:=by
 unfold AS;rw[Af];simp[h]
def ZO(s a h)(b:DN s[a]=T6):AS s a K=AS s (a+1) K:=by
 unfold AS;rw[Af];simp[h,b]
def Yc(s a h)(b:DN s[a]=K):AS s a K=a:=by
 unfold AS;rw[Af];simp[h,b]
def Cu(c k:rC):((c.toNat:Int)==(k.toNat:Int))=(c==k):=by
 rw[nz];simp;constructor
 .intro h;exact nW.1 lc
 .intro h;rw[h]
def We(c):(((c.toNat:Int)==32)=T6/\DN c=T6)\/(((c.toNat:Int)==32)=K/\((c.toNat:Int)==10)=T6/\DN c=T6)\/
  (((c.toNat:Int)==32)=K/\((c.toNat:Int)==10)=K/\DN c=K):=by
 have b:((c.toNat:Int)==32)=(c==32):=Cu c 32;have a:((c.toNat:Int)==10)=(c==10):=Cu c 10;rw[b,a];unfold DN;cases(c==32)<;>cases(c==10)<;>simp
theorem DY(b s c a w)(M:s.size<=1000000)(D:c<=s.size)(G:AF w b (B5 s c a) 73):rE rF 43 #[jj (V ⟨b,0,Y⟩)] w λe u=>e=j1 (.tuple #[])/\AF u b (B5 s (AS s c a) a) 73/\Ac [b] w u:=by
 go_enter func43,ntmps43;go_wp2
 go_loopg [] (s.size-c) (λk wr=>∃j:Nat,j<=s.size/\k=s.size-j/\AS s j a=AS s c a/\AF wr b (B5 s j a) 73/\Ac [b] w wr)
 case atStart=>exact⟨c,D,rfl,rfl,G,kR _ _⟩
 case round=>
  obtain⟨j,N,y,x,f,g⟩:=hrel;obtain⟨B,H,F⟩:=f.c3;have P:=f.qI 1;simp[B5]at B H F;have m:jV (gk=s.size-j/\AS s j a=AS s c a):=⟨y,x⟩;clear y x;have A:AS s j a=j->AF wr b (B5 s (AS s c a) a) 73:=λh=>by rw[<-m.o.2,h];exact f
  have p:jV (AS s j a=j->AF wr b (B5 s (AS s c a) a) 73):=A;clear A;cases a with
  |true=>
   go_wp2
   go_quiet (fail)
   go_wp2;go_end0;exact⟨rfl,p.o rfl,g.drewN _⟩
  |false=>
   by_cases o:j<s.size
   ·have L:(j:Int)<(s.size:Int):=lc;have v:jV (DN s[j]=T6->∃d:Nat,d<=s.size/\s.size-(j+1)=s.size-d/\AS s d K=AS s c K/\∀n,AF ((wr.drewN n).setCell ⟨b,1,Y⟩ (X J (j+1))) b (B5 s d K) 73/\Ac [b] w ((wr.drewN n).setCell ⟨b,1,Y⟩ (X J (j+1)))):=by
     intro h;refine⟨j+1,lc,rfl,?_,λn=>⟨?_,?_⟩⟩
     .rw[<-m.o.2,ZO s j o h]
     .exact(f.drewN n).set 1 _
     .exact(g.drewN n).setCell ln _
    rcases We s[j] with⟨z,i⟩|⟨z,C,i⟩|⟨z,C,i⟩
    .clear f g;go_wp2
     go_quiet (fail)
     go_wp2
     go_roundg (s.size-(j+1))
     case measure=>have:=m.o.1;omega
     case rel=>
      obtain⟨d,r,t,q,l⟩:=v.o i;exact⟨d,r,t,q,(l _).1,(l _).2⟩
    .clear f g;go_wp2
     go_quiet (fail)
     go_wp2
     go_roundg (s.size-(j+1))
     case measure=>have:=m.o.1;omega
     case rel=>
      obtain⟨d,r,t,q,l⟩:=v.o i;exact⟨d,r,t,q,(l _).1,(l _).2⟩
    .have E:jV (DN s[j]=K):=i;clear i;go_wp2
     go_quiet (fail)
     go_wp2;go_end0;exact⟨rfl,p.o (Yc s j o E.o),g.drewN _⟩
   ·have I:decide ((j:Int)<(s.size:Int))=K:=li;go_wp2
    go_quiet (fail)
    go_wp2;go_end0;exact⟨rfl,p.o (R6 s j o _),g.drewN _⟩
def Ey(s:bN)(j:Nat)(c:rC):rD:=if h:j<s.size then s[j]==c else K
def G3(s a b)(h:a<=s.size):AS s a b<=s.size:=by
 unfold AS;split
 .exact h
 .exact BI s a h
theorem Sf(b s d a)(n:Int)(c w)(u:n=c.toNat)(t:s.size<=1000000)(m:d<=s.size)(o:AF w b (B5 s d a) 73):rE rF 128 #[jj (V ⟨b,0,Y⟩),X .u8 n] w λe k=>e=j1 (kx (!a&&Ey s (AS s d a) c))/\AF k b (B5 s (AS s d a) a) 73/\Ac [b] w k:=by
 have v:=G3 s d a m;subst u;obtain⟨j,h⟩:=kQ (AS s d a);rw[h]at v|-;have l:jV (AS s d a=j):=h;clear h;go_enter func128,ntmps128;go_wp2_with fail
 refine(DY b s d a _ t m o).G ?_;rintro e z ⟨rfl,f,g⟩;rw[l.o]at f;clear o l;obtain⟨p,x,q⟩:=f.c3;simp[B5]at p x q;cases a with
 |true=>
  go_wp2
  go_quiet (fail)
  go_wp2;go_ret;exact⟨Bu ln,f.drewN _,g.drewN _⟩
 |false=>
  by_cases i:j<s.size
  ·have A:(j:Int)<(s.size:Int):=lc;have r:jV (((s[j].toNat:Int)==(c.toNat:Int))=(!false&&Ey s j c)):=by
    show _=_;rw[Cu];unfold Ey;simp[i]
   go_wp2
   go_quiet (fail)
   go_wp2;go_ret;exact⟨Bu r.o,f.drewN _,g.drewN _⟩
  ·have y:decide ((j:Int)<(s.size:Int))=K:=li;go_wp2
   go_quiet (fail)
   go_wp2;go_ret;exact⟨Bu (by unfold Ey;simp[i]),f.drewN _,g.drewN _⟩
def Cn(s:bN)(j:Nat)(bad:rD)(c:rC):Nat:=if !bad&&Ey s (AS s j bad) c then AS s j bad+1 else AS s j bad
def Gc(h:Ey s j g=T6):j<s.size:=by
 unfold Ey at h;split at h
 .assumption
 .cases h
def Ec(s a d c)(h:a<=s.size):Cn s a d c<=s.size:=by
 unfold Cn;have:=G3 s a d h;split
 .rename_i b;simp only[mC]at b;have:=Gc b.2;omega
 exact lc
theorem Og(b s d a)(n:Int)(c w)(o:n=c.toNat)(u:s.size<=1000000)(q:d<=s.size)(p:AF w b (B5 s d a) 73):rE rF 80 #[jj (V ⟨b,0,Y⟩),X .u8 n] w λe l=>e=j1 (kx (!a&&Ey s (AS s d a) c))/\AF l b (B5 s (Cn s d a c) a) 73/\Ac [b] w l:=by
 have t:=G3 s d a q;unfold Cn;obtain⟨j,k⟩:=kQ (AS s d a);rw[k]at t|-;obtain⟨h,i⟩:=kQ (!a&&Ey s j c);rw[i];have g:jV (AS s d a=j/\(!a&&Ey s j c)=h/\n=c.toNat):=⟨k,i,o⟩;clear k i o;go_enter func80,ntmps80;go_wp2_with fail
 refine(Sf b s d a n c _ g.o.2.2 u q p).G ?_;rintro e x ⟨rfl,f,m⟩;rw[g.o.1,g.o.2.1];rw[g.o.1]at f;clear p g;obtain⟨r,v⟩:=f.c2;have y:=f.qI 1;simp[B5]at r v;cases h with
 |true=>
  go_wp2;go_ret;exact⟨Bu rfl,f.set 1 _,m.setCell ln _⟩
 |false=>
  go_wp2;go_ret;exact⟨Bu rfl,f,m⟩
theorem Sp(b s d a)(n:Int)(c w)(p:n=c.toNat)(x:s.size<=1000000)(y:d<=s.size)(q:AF w b (B5 s d a) 73):rE rF 82 #[jj (V ⟨b,0,Y⟩),X .u8 n] w λe m=>e=j1 (.tuple #[])/\AF m b (B5 s (Cn s d a c) (!(!a&&Ey s (AS s d a) c))) 73/\Ac [b] w m:=by
 have r:jV ((!a&&Ey s (AS s d a) c)=T6->a=K):=by intro h;cases a<;>simp_all
 obtain⟨j,l⟩:=kQ (Cn s d a c);obtain⟨k,g⟩:=kQ (!a&&Ey s (AS s d a) c);rw[l,g];rw[g]at r;have i:jV (Cn s d a c=j/\(!a&&Ey s (AS s d a) c)=k/\n=c.toNat):=⟨l,g,p⟩;clear l g p;go_enter func82,ntmps82;go_wp2_with fail
 refine(Og b s d a n c _ i.o.2.2 x y q).G ?_;rintro e t ⟨rfl,f,o⟩;rw[i.o.2.1];rw[i.o.1]at f;clear q i;have v:=f.D 2;have z:=f.qI 2;simp[B5]at v;cases k with
 |true=>
  have u:jV (AF t b (B5 s j (!true)) 73):=by have e:=r.o rfl;rw[e]at f;exact f
  go_wp2;go_end0;exact⟨rfl,u.o,o⟩
 |false=>
  go_wp2;go_end0;exact⟨rfl,f.set 2 _,o.setCell ln _⟩
def AL(p:rC->rD)(s:bN)(i:Nat):Nat:=
 if h:i<s.size then(if p s[i] then AL p s (i+1)else i)else i
def C5(p s i)(h:i<=s.size):AL p s i<=s.size:=by
 fun_induction AL p s i<;>omega
def Cz(p s i):i<=AL p s i:=by
 fun_induction AL p s i<;>omega
def Ct(p s i h)(a:p s[i]=T6):AL p s i=AL p s (i+1):=by
 rw[AL];simp[h,a]
def Fu(p s i h)(a:p s[i]=K):AL p s i=i:=by
 rw[AL];simp[h,a]
def GI(p s i)(h:¬i<s.size):AL p s i=i:=by
 rw[AL];simp[h]
def A9(s:bN)(at_:Nat)(bad:rD):bN×Nat×rD:=
 if bad then(ky,at_,T6)else
  if AL AC s (Af s at_)=Af s at_\/4<AL AC s (Af s at_)-Af s at_ then(ky,Af s at_,T6)
  else(s.extract (Af s at_) (AL AC s (Af s at_)),AL AC s (Af s at_),K)
def Ev(a:Af s n=j)(b:AL AC s j=k)(h:k=j\/4<k-j):A9 s n K=(ky,j,T6):=by
 unfold A9;rw[a,b,mm ln,mo h]
def LI(a:Af s n=j)(b:AL AC s j=k)(h:¬(k=j\/4<k-j)):A9 s n K=(s.extract j k,k,K):=by
 unfold A9;rw[a,b,mm ln,mm h]
theorem Om(b s c g w)(G:s.size<=1000000)(r:c<=s.size)(n:AF w b (B5 s c g) 73):rE rF 126 #[jj (V ⟨b,0,Y⟩)] w λe y=>e=j1 (O (A9 s c g).1)/\AF y b (B5 s (A9 s c g).2.1 (A9 s c g).2.2) 73/\Ac [b] w y:=by
 cases g with
 |true=>
  go_enter func126,ntmps126;go_wp2_with fail
  refine(DY b s c T6 _ G r n).G ?_;rintro e H ⟨rfl,a,d⟩;rw[LX]at a;clear n;obtain⟨q,x,t⟩:=a.c3;have L:=a.qI 2;simp[B5]at q x t;go_wp2
  go_loop [4] (λi=>i=X J c) (λ_=>0)
  case atStart=>rfl
  case round=>
   subst hrel;go_wp2;go_ret;exact⟨rfl,a.set 2 _,d.setCell ln _⟩
 |false=>
  obtain⟨j,u⟩:=kQ (Af s c);have B:=BI s c r;rw[u]at B;obtain⟨R,v⟩:=kQ (A9 s c K);rw[v];have p:jV (Af s c=j):=u;have A:jV (A9 s c K=R):=v;clear u v;go_enter func126,ntmps126;go_wp2_with fail
  refine(DY b s c K _ G r n).G ?_;rintro e H ⟨rfl,a,d⟩;rw[show AS s c K=j from p.o]at a
  clear n;obtain⟨q,x,t⟩:=a.c3;have T:=a.qI 1;have L:=a.qI 2;simp[B5]at q x t;go_wp2
  go_loop [4] (λi=>∃k:Nat,i=X J k/\j<=k/\k<=s.size/\AL AC s k=AL AC s j) (λi=>s.size-(rG i).toNat)
  case atStart=>exact⟨j,rfl,mt _,B,rfl⟩
  case round=>
   obtain⟨k,rfl,P,S,E⟩:=hrel;have D:jV (AL AC s k=AL AC s j):=E;clear E;have z:jV (AL AC s k=k->(((k:Int)=j\/4<(k:Int)-j)->R=(ky,j,T6))/\(¬((k:Int)=j\/4<(k:Int)-j)->R=(s.extract j k,k,K))):=by
    intro M;(have C:AL AC s j=k:=by rw[<-D.o];exact M);exact⟨λh=>by rw[<-A.o];exact Ev p.o C lc,λh=>by rw[<-A.o];exact LI p.o C lc⟩
   by_cases o:k<s.size
   ·have Q:(k:Int)<(s.size:Int):=lc;by_cases m:AC s[k]=T6
    ·(have I:jV (AL AC s (k+1)=AL AC s j):=by show _=_;rw[<-Ct AC s k o m];exact D.o);go_wp2_with (go_at_call 169;refine(JD _ s[k] _ rfl).G ?_;rintro e N ⟨rfl,rfl⟩;rw[m])
     go_round
     case rel=>exact⟨k+1,ly,lc,lc,I.o⟩
     case measure=>simp[rG];omega
    ·(have F:AC s[k]=K:=by simpa using m);have l:=z.o (Fu AC s k o F);have f:jV ((((k:Int)=j\/4<(k:Int)-j)->R=(ky,j,T6))/\(¬((k:Int)=j\/4<(k:Int)-j)->R=(s.extract j k,k,K))):=l;clear l m;go_wp2_with (go_at_call 169;refine(JD _ s[k] _ rfl).G ?_;rintro e N ⟨rfl,rfl⟩;rw[F])
     all_goals go_ret
     .rw[f.o.1 lc];exact⟨rfl,a.set 2 _,d.setCell ln _⟩
     .rw[f.o.1 (by simp_all)];exact⟨rfl,a.set 2 _,d.setCell ln _⟩
     .rw[f.o.2 (by simp_all)];exact⟨rfl,a.set 1 _,d.setCell ln _⟩
   .have l:=z.o (GI AC s k o);have f:jV ((((k:Int)=j\/4<(k:Int)-j)->R=(ky,j,T6))/\(¬((k:Int)=j\/4<(k:Int)-j)->R=(s.extract j k,k,K))):=l;clear l;go_wp2;all_goals go_ret
    .rw[f.o.1 lc];exact⟨rfl,a.set 2 _,d.setCell ln _⟩
    .rw[f.o.1 (by simp_all)];exact⟨rfl,a.set 2 _,d.setCell ln _⟩
    .rw[f.o.2 (by simp_all)];exact⟨rfl,a.set 1 _,d.setCell ln _⟩
end
section
structure PN{α:Type}(lt:α->α->rD)(eq:α->α->rD):Prop where
 H:∀a b c,lt a b=T6->lt b c=T6->lt a c=T6
 irr:∀a,lt a a=K
 tot:∀a b,lt a b=K->eq a b=K->lt b a=T6
 eqv:∀a b,eq a b=T6↔a=b
def C3{α:Type}(lt:α->α->rD)(l:kN α):Prop:=∀i j (hi:i<Z l) (hj:j<Z l),i<j->lt l[i] l[j]=T6
structure El{α:Type}(lt:α->α->rD)(l:kN α)(k:Nat)(x:α)(at_:Nat):Prop where
 ge:k<=at_
 le:at_<=Z l
 below:∀i (h:i<Z l),k<=i->i<at_->lt l[i] x=T6
 zd:∀i (h:i<Z l),at_<=i->lt l[i] x=K
section
variable {α:Type} {lt eq:α->α->rD} {l:kN α}
def C3.down(o:PN lt eq)(d:C3 lt l){i j:Nat}(b:j<Z l)(c:i<=j){x:α}(h:lt l[j] x=T6):lt (l[i]' lc) x=T6:=by
 rcases py c with a|a
 .exact o.H _ _ _ (d i j lc b a) h
 .subst a;exact h
def C3.up(o:PN lt eq)(c:C3 lt l){i j:Nat}(a:j<Z l)(b:i<=j){x:α}(h:lt (l[i]' lc) x=K):lt l[j] x=K:=by
 cases hh:lt l[j] x with
 |false=>rfl
 |true=>rw[c.down o a b hh]at h;cases h
def EE(eq:α->α->rD)(l:kN α)(at_:Nat)(x:α):rD:=if h:at_<Z l then eq l[at_] x else K
def El.has(o:PN lt eq)(j:C3 lt l){x}{a}(h:El lt l 0 x a):EE eq l a x=T6↔x∈l:=by
 unfold EE;constructor
 .intro e;split at e
  .rename_i b;have:=(o.eqv _ _).1 e;rw[<-this];exact lV b
  .cases e
 .intro m;obtain⟨i,f,c⟩:=mS m;have k:a<=i:=by
   by_cases g:i<a
   .have:=h.below i f lc g;rw[c,o.irr]at this;cases this
   .omega
  have b:a<Z l:=lc
  rw[dif_pos b];rcases py k with d|d
  .have:=j a i b f d;rw[c]at this;rw[h.zd a b (mt _)]at this;cases this
  .subst d;rw[c];exact(o.eqv _ _).2 rfl
def Gi(l:kN α)(at_:Nat)(x:α):kN α:=qT at_ l++x::l.drop at_
def Ma{at_}(h:at_<=Z l)(x):Z (Gi l at_ x)=Z l+1:=by
 simp[Gi];omega
def Po{a}(x y):y∈Gi l a x↔y=x\/y∈l:=by
 unfold Gi;rw[mi,l9];have:y∈l↔y∈qT a l\/y∈l.drop a:=by rw[<-mi,ni]
 rw[this];constructor
 .rintro (h|h|h)
  .exact j3 (j2 h)
  .exact j2 h
  .exact j3 (j3 h)
 .rintro (h|h|h)
  .exact j3 (j2 h)
  .exact j2 h
  .exact j3 (j3 h)
def Sw:C3 lt l↔l.Pairwise (λa b=>lt a b=T6):=by
 unfold C3;rw[ox]
def El.zB(o:PN lt eq)(g:C3 lt l){x}{c}(h:El lt l 0 x c)(m:EE eq l c x=K):C3 lt (Gi l c x):=by
 rw[Sw]at g|-;have n:∀a∈qT c l,lt a x=T6:=by
  intro a f;obtain⟨i,k,d⟩:=mS f;simp at k;rw[po]at d;rw[<-d];exact h.below i lc lc lc
 have q:∀b∈l.drop c,lt x b=T6:=by
  intro b e;obtain⟨i,k,d⟩:=mS e;simp at k;rw[pP]at d;have j:c<Z l:=lc
  have p:lt x l[c]=T6:=by
   apply o.tot _ _ (h.zd c j (mt _));unfold EE at m;rw[dif_pos j]at m;exact m
  rw[<-d];by_cases r:i=0
  .subst r;exact lc
  .exact o.H _ _ _ p ((Sw.2 g) c (c+i) j lc lc)
 unfold Gi;rw[pS];refine⟨g.sublist (List.take_sublist _ _),?_,?_⟩
 .rw[oh];exact⟨q,g.sublist (List.drop_sublist _ _)⟩
 .intro a f b e;rcases l9.1 e with rfl|e
  .exact n a f
  .exact o.H _ _ _ (n a f) (q b e)
def C3.nodup(o:PN lt eq)(c:C3 lt l):l.Nodup:=by
 rw[Sw]at c;exact c.imp (fun{a b} h e=>by subst e;rw[o.irr]at h;cases h)
end
def Hn(a b:bN):rD:=kG a.toList b.toList
def jI(a b:bN):rD:=a.toList==b.toList
def W9(a b:Int):rD:=decide (a<b)
def kl(a b:Int):rD:=a==b
def Ok:∀a b c:kN rC,kG a b=T6->kG b c=T6->kG a c=T6
 |a,b,[],_,h=>by cases b<;>simp[kG]at h
 |[],b,_::_,_,_=>rfl
 |_::_,[],_::_,h,_=>by simp[kG]at h
 |x::a,y::b,z::c,e,d=>by
  simp only[kG,nN,oV,mC,n5]at e d|-;rcases e with e|⟨rfl,e⟩
  .rcases d with d|⟨rfl,d⟩
   .exact j2 (UInt8.lt_trans e d)
   .exact j2 e
  .rcases d with d|⟨rfl,d⟩
   .exact j2 d
   .exact j3 ⟨rfl,Ok a b c e d⟩
def Qe:∀a:kN rC,kG a a=K
 |[]=>rfl
 |x::a=>by simp[kG,Qe a]
def SO:∀a b:kN rC,kG a b=K->(a==b)=K->kG b a=T6
 |[],[],_,h=>pp
 |[],_::_,h,_=>by simp[kG]at h
 |_::_,[],_,_=>rfl
 |x::a,y::b,h,h2=>by
  simp only[kG,nN,oV,mC,n5,oQ,nX,Bool.and_eq_false_imp]at h|-;by_cases c:x=y
  .subst c;refine j3 ⟨rfl,SO a b (h.2 rfl) ?_⟩;simpa using h2
  .have d:=h.1;rw[UInt8.lt_iff_toNat_lt]at d|-;(have:x.toNat≠y.toNat:=λe=>c (nW.1 e));omega
def Jj:PN Hn jI:=
 ⟨λa b c=>Ok _ _ _,λa=>Qe _,λa b=>SO _ _,λa b=>by
  unfold jI
  simp
  exact⟨λh=>by
   rw[mL,mL]at h
   exact ByteArray.ext (Array.toList_inj.1 h),λh=>by rw[h]⟩⟩
def YT:PN W9 kl:=
 ⟨λa b c d e=>by simp[W9]at*;omega,λa=>by simp[W9],λa b d e=>by simp[W9,kl]at*;omega,λa b=>by simp[kl]⟩
end
section
variable{n j k m b:Nat}{s:bN}{w:jH}{T:TypeId}{y:kN jR}{I:Int}
theorem Tt(S:(n=9/\j=165)\/(n=170/\j=149))(L)(l:kN bN)(k)(x:bN)(P w)(E:kt w P n 1 L (Z l) (qS Ai l))(CC:Z l<=1000000)(Q:k<=Z l)(F:C3 Hn l):rE rF j #[L,X J k,O x] w λe N=>∃z:Nat,e=j1 (X J z)/\El Hn l k x z/\N=w:=by
 obtain⟨ad,T,rfl⟩:=Aj E;have t:=Ab F;have D:jV (∀i (h:i<Z l),∃g,ad=V ⟨g,0,Y⟩/\Z l<=T/\w.cell? ⟨g,i,Y⟩=V (O l[i])):=by
  intro i H;obtain⟨g,BS,I,B,W⟩:=Az E (by simp[Ai]) i H;obtain⟨rfl,_,rfl⟩:=qX I;have A:=W i H 0 lc;simp[Ai]at A;exact⟨g,rfl,B,A⟩
 clear F;rcases S with⟨rfl,rfl⟩|⟨rfl,rfl⟩
 case' inl=>go_enter func165,ntmps165
 case' inr=>go_enter func149,ntmps149
 all_goals
  go_wp2
  go_loop [7,8] (λa s=>∃(b c:Nat),a=X J b/\s=X J c/\k<=b/\b<=Z l/\1<=c/\c<=2*Z l+1/\jV (∀i (h:i<Z l),k<=i->i<b->Hn l[i] x=T6)) (λa s=>Z l-(rG a).toNat)
  case atStart=>exact⟨k,1,ly,rfl,mt _,Q,mt _,lc,λi h q u=>lc⟩
  case round=>
   obtain⟨b,c,rfl,rfl,C,BT,CL,ES,r⟩:=hrel;by_cases DT:b+c<=Z l
   case' pos=>
    obtain⟨g,M,B0,B⟩:=D (b+c-1) lc;have A2:((b+c-1:Nat):Int)=(b:Int)+(c:Int)-1:=lc;have EX:((b:Int)+(c:Int)-1).toNat=b+c-1:=lc;subst M;have A0:jV (Hn l[b+c-1] x=T6->∀i (h:i<Z l),k<=i->i<b+c->Hn l[i] x=T6):=by
     intro p i h q u;exact t.down Jj lc lc p
    have AR:jV (Hn l[b+c-1] x=K->∀i (h:i<Z l),b+c-1<=i->Hn l[i] x=K):=by
     intro p i h q;exact t.up Jj h q p
    go_wp2
    .refine⟨⟨b+c,c*2,ly,ly,lc,lc,lc,lc,A0 (by first|assumption|(simp[Hn];omega))⟩,?_⟩;simp[rG];omega
    have y:jV (∀i (h:i<Z l),(b+c-1)<=i->Hn l[i] x=K):=AR (by first|assumption|(simp[Hn];omega))
   case' neg=>
    go_wp2;all_goals have AT:jV (∀i (h:i<Z l),Z l<=i->Hn l[i] x=K):=λi h p=>lc
    all_goals have y:jV (∀i (h:i<Z l),(b+c-1)<=i->Hn l[i] x=K):=λi h p=>lc
   all_goals
    go_loop [7,9,10] (λa h m=>∃(d o:Nat),a=X J d/\h=X J o/\k<=d/\d<=o/\o<=Z l/\jV (∀i (h:i<Z l),k<=i->i<d->Hn l[i] x=T6)/\jV (∀i (h:i<Z l),o<=i->Hn l[i] x=K)) (λa h m=>(rG h).toNat-(rG a).toNat)
    case atStart=>first|exact⟨b,(b+c-1),rfl,ly,C,lc,lc,r,y⟩|exact⟨b,Z l,rfl,ly,C,lc,lc,r,AT⟩
    case round=>
     clear r y;obtain⟨d,o,rfl,rfl,q,u,h3,r,G⟩:=hrel;by_cases Bx:d<o
     .obtain⟨f,EY⟩:=kQ (d+(o-d)/2);have B2:d<=f:=lc;have B9:f<o:=lc;have AH:(d:Int)+((o:Int)-(d:Int))/2=(f:Int):=lc;(have CW:(d:Int)+((o:Int)-(d:Int)).tdiv 2=(f:Int):=by rw[Int.tdiv_eq_ediv_of_nonneg lc];exact AH);obtain⟨g9,v,EM,EK⟩:=D f lc;have R:jV (Hn l[f] x=T6->∀i (h:i<Z l),k<=i->i<f+1->Hn l[i] x=T6):=by
       intro p i h q u;exact t.down Jj lc lc p
      have AB:jV (Hn l[f] x=K->∀i (h:i<Z l),f<=i->Hn l[i] x=K):=by
       intro p i h q;exact t.up Jj h q p
      first|subst v|(simp only[lZ,mR,and_true]at v;subst v)
      go_wp2
      .refine⟨⟨f+1,o,ly,rfl,lc,lc,h3,R (by first|assumption|(simp[Hn];omega)),G⟩,?_⟩;simp[rG];omega
      .refine⟨⟨d,f,rfl,ly,q,lc,lc,r,AB (by first|assumption|(simp[Hn];omega))⟩,?_⟩;simp[rG];omega
     .have HE:jV (El Hn l k x d):=⟨q,lc,r,λi h p=>G i h lc⟩;go_wp2;go_ret;exact⟨d,rfl,HE,rfl⟩
def Tx(a)(l:kN bN)(k)(x:bN)(c w)(g:kt w c 9 1 a (Z l) (qS Ai l))(i:Z l<=1000000)(d:k<=Z l)(h:C3 Hn l):
  rE rF 165 #[a,X J k,O x] w λe f=>∃b:Nat,e=j1 (X J b)/\El Hn l k x b/\f=w:=
 Tt (j2 ⟨rfl,rfl⟩) a l k x c w g i d h
def AX(x:Int):kN jR:=[X .i32 x]
theorem Ty(H)(l:kN Int)(k x M w)(C:kt w M 21 1 H (Z l) (qS AX l))(B0:Z l<=1000000)(N:k<=Z l)(D:C3 W9 l):rE rF 219 #[H,X J k,X .i32 x] w λe L=>∃v:Nat,e=j1 (X J v)/\El W9 l k x v/\L=w:=by
 obtain⟨S,Q,rfl⟩:=Aj C;have q:=Ab D;have B:jV (∀i (h:i<Z l),∃g,S=V ⟨g,0,Y⟩/\Z l<=Q/\w.cell? ⟨g,i,Y⟩=V (X .i32 l[i])):=by
  intro i F;obtain⟨g,A2,G,z,R⟩:=Az C (by simp[AX]) i F;obtain⟨rfl,_,rfl⟩:=qX G;have y:=R i F 0 lc;simp[AX]at y;exact⟨g,rfl,z,y⟩
 clear D;go_enter func219,ntmps219;go_wp2
 go_loop [7,8] (λa s=>∃(b c:Nat),a=X J b/\s=X J c/\k<=b/\b<=Z l/\1<=c/\c<=2*Z l+1/\jV (∀i (h:i<Z l),k<=i->i<b->W9 l[i] x=T6)) (λa s=>Z l-(rG a).toNat)
 case atStart=>exact⟨k,1,ly,rfl,mt _,N,mt _,lc,λi h o r=>lc⟩
 case round=>
  obtain⟨b,c,rfl,rfl,A,Bx,B2,DT,p⟩:=hrel;by_cases CC:b+c<=Z l
  case' pos=>
   obtain⟨g,I,BA,z⟩:=B (b+c-1) lc;have AT:((b+c-1:Nat):Int)=(b:Int)+(c:Int)-1:=lc;have EK:((b:Int)+(c:Int)-1).toNat=b+c-1:=lc;subst I;have AO:jV (W9 l[b+c-1] x=T6->∀i (h:i<Z l),k<=i->i<b+c->W9 l[i] x=T6):=by
    intro n i h o r;exact q.down YT lc lc n
   have AB:jV (W9 l[b+c-1] x=K->∀i (h:i<Z l),b+c-1<=i->W9 l[i] x=K):=by
    intro n i h o;exact q.up YT h o n
   go_wp2
   .refine⟨⟨b+c,c*2,ly,ly,lc,lc,lc,lc,AO (by first|assumption|(simp[W9];omega))⟩,?_⟩;simp[rG];omega
   have u:jV (∀i (h:i<Z l),(b+c-1)<=i->W9 l[i] x=K):=AB (by first|assumption|(simp[W9];omega))
  case' neg=>
   go_wp2;all_goals have AH:jV (∀i (h:i<Z l),Z l<=i->W9 l[i] x=K):=λi h n=>lc
   all_goals have u:jV (∀i (h:i<Z l),(b+c-1)<=i->W9 l[i] x=K):=λi h n=>lc
  all_goals
   go_loop [7,9,10] (λa h m=>∃(d j:Nat),a=X J d/\h=X J j/\k<=d/\d<=j/\j<=Z l/\jV (∀i (h:i<Z l),k<=i->i<d->W9 l[i] x=T6)/\jV (∀i (h:i<Z l),j<=i->W9 l[i] x=K)) (λa h m=>(rG h).toNat-(rG a).toNat)
   case atStart=>first|exact⟨b,(b+c-1),rfl,ly,A,lc,lc,p,u⟩|exact⟨b,Z l,rfl,ly,A,lc,lc,p,AH⟩
   case round=>
    clear p u;obtain⟨d,j,rfl,rfl,o,r,h3,p,E⟩:=hrel;by_cases A0:d<j
    .obtain⟨f,EM⟩:=kQ (d+(j-d)/2);have BS:d<=f:=lc;have BT:f<j:=lc;have W:(d:Int)+((j:Int)-(d:Int))/2=(f:Int):=lc;(have B9:(d:Int)+((j:Int)-(d:Int)).tdiv 2=(f:Int):=by rw[Int.tdiv_eq_ediv_of_nonneg lc];exact W);obtain⟨g9,t,CW,CL⟩:=B f lc;have P:jV (W9 l[f] x=T6->∀i (h:i<Z l),k<=i->i<f+1->W9 l[i] x=T6):=by
      intro n i h o r;exact q.down YT lc lc n
     have T:jV (W9 l[f] x=K->∀i (h:i<Z l),f<=i->W9 l[i] x=K):=by
      intro n i h o;exact q.up YT h o n
     first|subst t|(simp only[lZ,mR,and_true]at t;subst t)
     go_wp2
     .refine⟨⟨f+1,j,ly,rfl,lc,lc,h3,P (by first|assumption|(simp[W9];omega)),E⟩,?_⟩;simp[rG];omega
     .refine⟨⟨d,f,rfl,ly,o,lc,lc,p,T (by first|assumption|(simp[W9];omega))⟩,?_⟩;simp[rG];omega
    .have HE:jV (El W9 l k x d):=⟨o,lc,p,λi h n=>E i h lc⟩;go_wp2;go_ret;exact⟨d,rfl,HE,rfl⟩
structure AK where
 v:rC
 s:bN
def AP(t:AK):kN jR:=[X .u8 t.v.toNat,O t.s]
def AN(s:bN)(at_:Nat)(bad:rD):AK×Nat×rD:=
 if bad then(⟨0,ky⟩,at_,T6)else
 if h:Af s at_<s.size then
  if DF s[Af s at_] then(⟨s[Af s at_],ky⟩,Af s at_+1,K)
  else if !Aq s[Af s at_] then(⟨0,(A9 s (Af s at_) K).1⟩,(A9 s (Af s at_) K).2)
  else if 3<AL Aq s (Af s at_)-Af s at_\/(s[Af s at_]=48/\1<AL Aq s (Af s at_)-Af s at_)then(⟨0,ky⟩,Af s at_,T6)
  else(⟨0,s.extract (Af s at_) (AL Aq s (Af s at_))⟩,AL Aq s (Af s at_),K)
 else(⟨0,ky⟩,Af s at_,T6)
theorem ez(b s c w)(m:s.size<=1000000)(n:c<=s.size)(f:AF w b (B5 s c T6) 73):rE rF 127 #[jj (V ⟨b,0,Y⟩)] w λe g=>e=j1 (ku #[X .u8 0,O ky])/\AF g b (B5 s c T6) 73/\Ac [b] w g:=by
 have q:=f.lt;go_enter func127,ntmps127;go_wp2_with fail
 refine(DY b s c T6 _ m n (f.alloc _)).G ?_;rintro e p ⟨rfl,a,h⟩;rw[LX]at a;clear f;have d:=(kS w _ _).C h li;obtain⟨k,l⟩:=d.c2;have t:=d.qI;obtain⟨i,o,j⟩:=a.c3;have r:=a.qI 2;simp[B5]at i o j k l;go_wp2
 go_quiet (fail)
 go_wp2;refine mF (Cj rfl rfl ((((d.drewN _).bW _ li _).set 0 _).set 1 _) underlying93 rfl lo) rfl ⟨rfl,?_,?_⟩
 .exact(((a.drewN _).set 2 _).bW _ li _).bW _ li _
 .exact(((((kR _ _).alloc _).H h).drewN _).setCell ln _|>.setCell ln _).setCell ln _
theorem eS(b s a j w)(r:s.size<=1000000)(k:a<=s.size)(f:Af s a=j)(x:¬j<s.size)(g:AF w b (B5 s a K) 73):rE rF 127 #[jj (V ⟨b,0,Y⟩)] w λe h=>e=j1 (ku #[X .u8 0,O ky])/\AF h b (B5 s j T6) 73/\Ac [b] w h:=by
 have z:=g.lt;have o:=BI s a k;rw[f]at o;have i:jV (Af s a=j):=f;clear f;go_enter func127,ntmps127;go_wp2_with fail
 refine(DY b s a K _ r k (g.alloc _)).G ?_;rintro e v ⟨rfl,c,l⟩;rw[show AS s a K=j from i.o]at c
 clear g i;have d:=(kS w _ _).C l li;obtain⟨n,q⟩:=d.c2;have y:=d.qI;obtain⟨m,t,p⟩:=c.c3;have B:=c.qI 1;have A:=c.qI 2;simp[B5]at m t p n q;have u:decide ((s.size:Int)<=(j:Int))=T6:=li
 go_wp2
 go_quiet (fail)
 go_wp2;refine mF (Cj rfl rfl ((((d.drewN _).bW _ li _).set 0 _).set 1 _) underlying93 rfl lo) rfl ⟨rfl,?_,?_⟩
 .exact(((c.drewN _).set 2 _).bW _ li _).bW _ li _
 .exact(((((kR _ _).alloc _).H l).drewN _).setCell ln _|>.setCell ln _).setCell ln _
theorem Yy(b s a j w)(t:s.size<=1000000)(k:a<=s.size)(f:Af s a=j)(y)(q:DF s[j]=T6)(g:AF w b (B5 s a K) 73):rE rF 127 #[jj (V ⟨b,0,Y⟩)] w λe h=>e=j1 (ku #[X .u8 s[j].toNat,O ky])/\AF h b (B5 s (j+1) K) 73/\Ac [b] w h:=by
 have B:=g.lt;have o:=BI s a k;rw[f]at o;have i:jV (Af s a=j):=f;clear f;go_enter func127,ntmps127;go_wp2_with fail
 refine(DY b s a K _ t k (g.alloc _)).G ?_;rintro e x ⟨rfl,c,l⟩;rw[show AS s a K=j from i.o]at c
 clear g i;have d:=(kS w _ _).C l li;obtain⟨n,r⟩:=d.c2;have A:=d.qI;obtain⟨m,u,p⟩:=c.c3;have D:=c.qI 1;have C:=c.qI 2;simp[B5]at m u p n r;have v:decide ((s.size:Int)<=(j:Int))=K:=li
 have z:(j:Int)<(s.size:Int):=lc
 go_wp2
 go_quiet (fail)
 go_wp2
 go_quiet (fail)
 go_wp2_with (go_at_call 170;refine(O0 _ s[j] _ rfl).G ?_;rintro e E ⟨rfl,rfl⟩;rw[q])
 refine mF (Cj rfl rfl ((((d.drewN _).bW _ li _).set 0 _).set 1 _) underlying93 rfl lo) rfl ⟨rfl,?_,?_⟩
 .exact(((c.drewN _).set 1 _).bW _ li _).bW _ li _
 .exact(((((kR _ _).alloc _).H l).drewN _).setCell ln _|>.setCell ln _).setCell ln _
theorem dr(b s a j w)(t:s.size<=1000000)(n:a<=s.size)(g:Af s a=j)(L)(D:DF s[j]=K)(y:Aq s[j]=K)(h:AF w b (B5 s a K) 73):rE rF 127 #[jj (V ⟨b,0,Y⟩)] w λe i=>e=j1 (ku #[X .u8 0,O (A9 s j K).1])/\AF i b (B5 s (A9 s j K).2.1 (A9 s j K).2.2) 73/\Ac [b] w i:=by
 have P:=h.lt;have A:=BI s a n;rw[g]at A;have k:jV (Af s a=j):=g;clear g;go_enter func127,ntmps127;go_wp2_with fail
 refine(DY b s a K _ t n (h.alloc _)).G ?_;rintro e I ⟨rfl,c,o⟩;rw[show AS s a K=j from k.o]at c
 clear h k;have f:=(kS w _ _).C o li;obtain⟨m,r⟩:=f.c2;have z:=f.qI;obtain⟨l,v,q⟩:=c.c3;have G:=c.qI 1;have F:=c.qI 2;simp[B5]at l v q m r;have H:decide ((s.size:Int)<=(j:Int))=K:=li
 have N:(j:Int)<(s.size:Int):=lc
 have Q:∀(x:rD) (w:jH),(Op.unary .not (kx x)).run rF w=.ok (kx (!x)) w:=λ_ _=>rfl
 go_wp2
 go_quiet (fail)
 go_wp2
 go_quiet (fail)
 go_wp2_with (first|(go_at_call 170;refine(O0 _ s[j] _ rfl).G ?_;rintro e u ⟨rfl,rfl⟩;rw[D])|(go_at_call 55;refine(CI _ s[j] _ rfl).G ?_;rintro e u ⟨rfl,rfl⟩;rw[y]))
 refine(Om b s j K _ t lc (c.drewN _)).G ?_;rintro e u ⟨rfl,E,p⟩;have d:=(f.drewN _).C p li;obtain⟨B,C⟩:=d.c2;have M:=d.qI;simp at B C;clear z m r G F l v q;go_wp2;refine mF (Cj rfl rfl ((d.set 0 _).set 1 _) underlying93 rfl lo) rfl ⟨rfl,?_,?_⟩
 .exact(E.bW _ li _).bW _ li _
 .exact(((((kR _ _).alloc _).H o).drewN _).H p|>.setCell ln _).setCell ln _
def He(s:bN)(j k:Nat):AK×Nat×rD:=
 if 3<k-j\/(Ey s j 48=T6/\1<k-j)then(⟨0,ky⟩,j,T6)else(⟨0,s.extract j k⟩,k,K)
def PK(h:(3:Int)<((k-j:Nat):Int)):He s j k=(⟨0,ky⟩,j,T6):=by
 unfold He;rw[mo lc]
def aH(a c):Ey s j c=T6↔(s[j].toNat:Int)=c.toNat:=by
 unfold Ey;simp only[a,dite_true,n5];constructor
 .intro h;rw[h]
 .intro h;exact nW.1 lc
def Px(b)(h:(s[j].toNat:Int)=48)(a:(3:Int)<((k-j:Nat):Int)\/(1:Int)<((k-j:Nat):Int)):He s j k=(⟨0,ky⟩,j,T6):=by
 unfold He;rw[mo (by rcases a with a|a;exact j2 lc;exact j3 ⟨(aH b 48).2 h,lc⟩)]
def RJ(h:((k-j:Nat):Int)<=3)(a:((k-j:Nat):Int)<=1):He s j k=(⟨0,s.extract j k⟩,k,K):=by
 unfold He;rw[mm lc]
def QU(b)(h:¬(s[j].toNat:Int)=48)(c:((k-j:Nat):Int)<=3):He s j k=(⟨0,s.extract j k⟩,k,K):=by
 unfold He;rw[mm (by rintro (a|⟨a,_⟩);omega;exact h ((aH b 48).1 a))]
theorem Wu(b s g j w R)(N:s.size<=1000000)(z:g<=s.size)(q:Af s g=j)(h)(I:DF s[j]=K)(y:Aq s[j]=T6)(p:jV (R=He s j (AL Aq s j)))(r:AF w b (B5 s g K) 73):rE rF 127 #[jj (V ⟨b,0,Y⟩)] w λe u=>e=j1 (ku (Za (AP R.1)))/\AF u b (B5 s R.2.1 R.2.2) 73/\Ac [b] w u:=by
 have AO:=r.lt;have A:=BI s g z;rw[q]at A;have v:jV (Af s g=j):=q;clear q;go_enter func127,ntmps127;go_wp2_with fail
 refine(DY b s g K _ N z (r.alloc _)).G ?_;rintro e S ⟨rfl,a,d⟩;rw[show AS s g K=j from v.o]at a
 clear r v;have c:=(kS w _ _).C d li;obtain⟨E,M⟩:=c.c2;have AB:=c.qI;obtain⟨D,G,H⟩:=a.c3;have A1:=a.qI 1;have A0:=a.qI 2;simp[B5]at D G H E M;have Q:decide ((s.size:Int)<=(j:Int))=K:=li
 have Ax:(j:Int)<(s.size:Int):=lc
 have AR:∀(x:rD) (w:jH),(Op.unary .not (kx x)).run rF w=.ok (kx (!x)) w:=λ_ _=>rfl
 go_wp2
 go_quiet (fail)
 go_wp2
 go_quiet (fail)
 go_wp2_with (first|(go_at_call 170;refine(O0 _ s[j] _ rfl).G ?_;rintro e t ⟨rfl,rfl⟩;rw[I])|(go_at_call 55;refine(CI _ s[j] _ rfl).G ?_;rintro e t ⟨rfl,rfl⟩;rw[y]))
 go_loop [4] (λi=>∃k:Nat,i=X J k/\j<=k/\k<=s.size/\AL Aq s k=AL Aq s j) (λi=>s.size-(rG i).toNat)
 case atStart=>exact⟨j,rfl,mt _,A,rfl⟩
 case round=>
  obtain⟨k,rfl,W,AH,B⟩:=hrel;have m:jV (AL Aq s k=AL Aq s j):=B;clear B;have A2:(j:Int)<=(k:Int):=lc
  have T:(k:Int)<=(s.size:Int):=lc
  have l:jV (AL Aq s k=k->R=He s j k):=by
   intro P;(have F:AL Aq s j=k:=by rw[<-m.o];exact P);rw[p.o,F]
  by_cases o:k<s.size
  ·have AT:(k:Int)<(s.size:Int):=lc;by_cases n:Aq s[k]=T6
   ·(have L:jV (AL Aq s (k+1)=AL Aq s j):=by show _=_;rw[<-Ct Aq s k o n];exact m.o);clear y;go_wp2_with (go_at_call 55;refine(CI _ s[k] _ rfl).G ?_;rintro e t ⟨rfl,rfl⟩;rw[n])
    go_round
    case rel=>exact⟨k+1,ly,lc,lc,L.o⟩
    case measure=>simp[rG];omega
   ·(have C:Aq s[k]=K:=by simpa using n);have f:jV (R=He s j k):=l.o (Fu Aq s k o C);clear n l p m;go_wp2_with (go_at_call 55;refine(CI _ s[k] _ rfl).G ?_;rintro e t ⟨rfl,rfl⟩;rw[C])
    go_quiet (fail)
    go_wp2
    .rw[f.o,Px h oa oa];refine mF (Cj rfl rfl ((((c.drewN _).bW _ li _).set 0 _).set 1 _) underlying93 rfl lo) rfl ⟨rfl,?_,?_⟩
     .exact(((a.drewN _).set 2 _).bW _ li _).bW _ li _
     .exact(((((kR _ _).alloc _).H d).drewN _).setCell ln _|>.setCell ln _).setCell ln _
    .rw[f.o,RJ lc lc];refine mF (Cj rfl rfl ((((c.drewN _).bW _ li _).set 0 _).set 1 _) underlying93 rfl lo) rfl ⟨rfl,?_,?_⟩
     .exact(((a.drewN _).set 1 _).bW _ li _).bW _ li _
     .exact(((((kR _ _).alloc _).H d).drewN _).setCell ln _|>.setCell ln _).setCell ln _
    .rw[f.o,QU h oa lc];refine mF (Cj rfl rfl ((((c.drewN _).bW _ li _).set 0 _).set 1 _) underlying93 rfl lo) rfl ⟨rfl,?_,?_⟩
     .exact(((a.drewN _).set 1 _).bW _ li _).bW _ li _
     .exact(((((kR _ _).alloc _).H d).drewN _).setCell ln _|>.setCell ln _).setCell ln _
    .rw[f.o,PK lc];refine mF (Cj rfl rfl ((((c.drewN _).bW _ li _).set 0 _).set 1 _) underlying93 rfl lo) rfl ⟨rfl,?_,?_⟩
     .exact(((a.drewN _).set 2 _).bW _ li _).bW _ li _
     .exact(((((kR _ _).alloc _).H d).drewN _).setCell ln _|>.setCell ln _).setCell ln _
  .have f:jV (R=He s j k):=l.o (GI Aq s k o);clear l p m;go_wp2
   go_quiet (fail)
   go_wp2
   .rw[f.o,Px h oa oa];refine mF (Cj rfl rfl ((((c.drewN _).bW _ li _).set 0 _).set 1 _) underlying93 rfl lo) rfl ⟨rfl,?_,?_⟩
    .exact(((a.drewN _).set 2 _).bW _ li _).bW _ li _
    .exact(((((kR _ _).alloc _).H d).drewN _).setCell ln _|>.setCell ln _).setCell ln _
   .rw[f.o,RJ lc lc];refine mF (Cj rfl rfl ((((c.drewN _).bW _ li _).set 0 _).set 1 _) underlying93 rfl lo) rfl ⟨rfl,?_,?_⟩
    .exact(((a.drewN _).set 1 _).bW _ li _).bW _ li _
    .exact(((((kR _ _).alloc _).H d).drewN _).setCell ln _|>.setCell ln _).setCell ln _
   .rw[f.o,QU h oa lc];refine mF (Cj rfl rfl ((((c.drewN _).bW _ li _).set 0 _).set 1 _) underlying93 rfl lo) rfl ⟨rfl,?_,?_⟩
    .exact(((a.drewN _).set 1 _).bW _ li _).bW _ li _
    .exact(((((kR _ _).alloc _).H d).drewN _).setCell ln _|>.setCell ln _).setCell ln _
   .rw[f.o,PK lc];refine mF (Cj rfl rfl ((((c.drewN _).bW _ li _).set 0 _).set 1 _) underlying93 rfl lo) rfl ⟨rfl,?_,?_⟩
    .exact(((a.drewN _).set 2 _).bW _ li _).bW _ li _
    .exact(((((kR _ _).alloc _).H d).drewN _).setCell ln _|>.setCell ln _).setCell ln _
def Sm(b s a i w)(g:s.size<=1000000)(h:a<=s.size)(f:AF w b (B5 s a i) 73):
  rE rF 127 #[jj (V ⟨b,0,Y⟩)] w λe k=>e=j1 (ku (Za (AP (AN s a i).1)))/\AF k b (B5 s (AN s a i).2.1 (AN s a i).2.2) 73/\Ac [b] w k:=by
 cases i with
 |true=>exact ez b s a w g h f
 |false=>
  obtain⟨j,d⟩:=kQ (Af s a);by_cases c:j<s.size
  .cases hu:DF s[j] with
   |true=>
    (have e:AN s a K=(⟨s[j],ky⟩,j+1,K):=by unfold AN;subst d;simp[c,hu]);rw[e];exact Yy b s a j w g h d c hu f
   |false=>
    cases hd:Aq s[j] with
    |false=>
     (have e:AN s a K=(⟨0,(A9 s j K).1⟩,(A9 s j K).2):=by unfold AN;subst d;simp[c,hu,hd]);rw[e];exact dr b s a j w g h d c hu hd f
    |true=>
     refine Wu b s a j w _ g h d c hu hd ?_ f;show _=_;unfold AN He Ey;subst d;simp[c,hu,hd]
  ·(have e:AN s a K=(⟨0,ky⟩,j,T6):=by unfold AN;subst d;simp[c]);rw[e];exact eS b s a j w g h d c f
def EQ(r:Int):Int:=
 if 97<=r/\r<=122 then 2 else if 48<=r/\r<=57 then 3 else if 65<=r/\r<=90 then 4
 else if r=58\/r=46\/r=44\/r=33\/r=61\/r=35\/r=60\/r=40\/r=41 then 5 else 0
theorem Ky(r w):rE rF 192 #[X .i32 r] w λe a=>e=j1 (X J (EQ r))/\a=w:=by
 go_enter func192,ntmps192;go_wp2;all_goals
  go_ret;refine⟨ji ?_,rfl⟩
  try simp only[mM,n5,ne_eq]at*
  unfold EQ
  (repeat' split)<;>omega
structure Bb where
 b:Int
 c:Nat
 qJ:bN
def Bs(m:Bb):kN jR:=[X J m.b,X J m.c,O m.qJ]
def C4(m:Bb)(place:Nat)(r:Int):rD:=
 if m.c+m.qJ.size≠place then K
 else if m.b=2\/m.b=3 then EQ r==m.b
 else if m.b=5 then(m.qJ.toList==[58])&&r==45
 else K
theorem Yz(m)(d:Nat)(r w)(q:m.c<=1000000)(t:m.qJ.size<=1000000)(s:d<=1000000):rE rF 191 #[ku (Za (Bs m)),X J d,X .i32 r] w λe p=>e=j1 (kx (C4 m d r))/\Ac [] w p:=by
 simp only[Bs];obtain⟨G,h⟩:=kQ (C4 m d r);rw[h];have a:=h;unfold C4 at a;clear h;by_cases g:m.c+m.qJ.size=d
 .have o:((m.c:Int)+(m.qJ.size:Int) !=(d:Int))=K:=by simp;omega
  rw[mm lc]at a;by_cases b:m.b=2\/m.b=3
  .rw[mo b]at a;have c:jV ((EQ r==m.b)=G):=a;clear a g;(have j:∀n:Nat,True:=λ_=>trivial);clear j;rcases b with b|b
   ·have i:(m.b==2)=T6:=sq;clear b;go_enter func191,ntmps191;go_wp2_with fail
    go_quiet ((go_at_call 192;exact pq (Ky _ _)))
    go_wp2;go_ret;exact⟨Bu c.o,((kR _ _).alloc _).drewN _⟩
   ·have i:(m.b==2)=K:=sq;have l:(m.b==3)=T6:=sq;clear b;go_enter func191,ntmps191;go_wp2_with fail
    go_quiet ((go_at_call 192;exact pq (Ky _ _)))
    go_wp2;go_ret;exact⟨Bu c.o,((kR _ _).alloc _).drewN _⟩
  .rw[mm b]at a;have i:(m.b==2)=K:=li;have l:(m.b==3)=K:=li;by_cases f:m.b=5
   .rw[mo f]at a;(have k:(m.b==5)=T6:=by simp[f]);have c:jV (((m.qJ.toList==[58])&&r==45)=G):=a;clear a g b f;go_enter func191,ntmps191;go_wp2;all_goals
     go_ret;refine⟨Bu ?_,(kR _ _).alloc _⟩;rw[<-c.o]
     simp_all
   .rw[mm f]at a;(have k:(m.b==5)=K:=by simp[f]);have c:jV (K=G):=a;clear a g b f;go_enter func191,ntmps191;go_wp2;go_ret;exact⟨Bu c.o,(kR _ _).alloc _⟩
 .have o:((m.c:Int)+(m.qJ.size:Int) !=(d:Int))=T6:=by simp;omega
  rw[mo lc]at a;have c:jV (K=G):=a;clear a g;go_enter func191,ntmps191;go_wp2;go_ret;exact⟨Bu c.o,(kR _ _).alloc _⟩
def fx(h):Ey s 0 48=((s[0].toNat:Int)==48):=by
 have e:((s[0].toNat:Int)==48)=(s[0]==48):=Cu s[0] 48;rw[e];simp[Ey,h]
def JS(m:Bb):rD:=
 if m.b=2 then decide (m.qJ.size<=4)
 else if m.b=3 then decide (m.qJ.size=1)||(decide (m.qJ.size<=3)&& !(Ey m.qJ 0 48))
 else T6
theorem Wr(m w)(o:m.qJ.size<=1000000)(g:m.b=3->0<m.qJ.size):rE rF 157 #[ku (Za (Bs m))] w λe j=>e=j1 (kx (JS m))/\Ac [] w j:=by
 simp only[Bs];obtain⟨G,h⟩:=kQ (JS m);rw[h];have a:=h;unfold JS at a;clear h;by_cases b:m.b=2
 .have l:(m.b==2)=T6:=by simp[b]
  rw[mo b]at a;have c:jV (decide (m.qJ.size<=4)=G):=a;clear a b g;go_enter func157,ntmps157;go_wp2;go_ret;refine⟨Bu ?_,(kR _ _).alloc _⟩;rw[<-c.o];simp
  try omega
 .have l:(m.b==2)=K:=by simp[b]
  rw[mm b]at a;by_cases d:m.b=3
  ·have i:(m.b==3)=T6:=sn;have k:=g d;have n:(0:Int)<(m.qJ.size:Int):=lc;rw[mo d,fx k]at a;have c:jV ((decide (m.qJ.size=1)||(decide (m.qJ.size<=3)&& !((m.qJ[0].toNat:Int)==48)))=G):=a;clear a b d g;go_enter func157,ntmps157;go_wp2
   .go_ret;refine⟨Bu ?_,(kR _ _).alloc _⟩;have f:m.qJ.size=1:=lc;rw[<-c.o];simp[f]
   .go_ret;refine⟨Bu ?_,(kR _ _).alloc _⟩;have f:¬m.qJ.size=1:=lc;have b:m.qJ.size<=3:=lc;rw[<-c.o];simp only[f,b,pX,decide_true,oO,nQ];simp[bne];omega
   .go_ret;refine⟨Bu ?_,(kR _ _).alloc _⟩;have f:¬m.qJ.size=1:=lc;have b:¬m.qJ.size<=3:=lc;rw[<-c.o];simp[f,b];omega
  ·have i:(m.b==3)=K:=sn;rw[mm d]at a;have c:jV (T6=G):=a;clear a b d g;go_enter func157,ntmps157;go_wp2;go_ret;exact⟨Bu c.o,(kR _ _).alloc _⟩
theorem Tryz.zy:(Tryz.prog.info? 206).map (λi=>(i.zero,i.size,i.bytes))=V (V (ku #[X J 0,X J 0,O ⟨#[]⟩]),3,32):=lo
def GR(m):Z (Bs m)=3:=rfl
def BO(h:kt w m T k (U (V ⟨j,0,Y⟩) n b) n y)(i u):
  kt (w.setCell ⟨j,i,Y⟩ u) m T k (U (V ⟨j,0,Y⟩) n b) n (y.set i u):=by
 refine⟨by rw[nO];exact h.1,?_⟩;rcases h.2 with⟨a,_⟩|⟨s,r,c,a,l,p,q,d,o,f⟩
 .cases a
 .obtain⟨⟨rfl,_,_⟩,_,rfl⟩:=a;refine j3 ⟨j,b,c.setIfInBounds i u,rfl,l,?_,q,d,li,?_⟩
  .simp[World.setCell,Array.getElem?_modify,p]
  .rw[Array.toList_setIfInBounds,List.take_set,f]
def Ie(h:kt w m T k (U (V ⟨j,0,Y⟩) n b) n y)(i):w.frozen? ⟨j,i,Y⟩=K:=by
 rcases h.2 with⟨a,_⟩|⟨o,f,d,a,l,c,_⟩
 .cases a
 .obtain⟨⟨rfl,_,_⟩,_,rfl⟩:=a;simp[World.frozen?,c]
def ZS(r):(Utf8.encode r).size<=4:=by
 unfold Utf8.encode;simp only;generalize(if Utf8.valid r=T6 then r.toNat else Utf8.runeError)=c
 repeat' split
 all_goals simp[ByteArray.size]
def CM(place:Nat)(r:Int):Bb:=⟨EQ r,place,Utf8.encode r⟩
def MX(ms:kN Bb)(place:Nat)(r:Int):kN Bb:=
 if r=32\/r=10 then ms
 else match ms.getLast? with
  |some m=>if C4 m place r then ms.dropLast++[{m with qJ:=m.qJ++Utf8.encode r}] else ms++[CM place r]
  |none=>ms++[CM place r]
def Pt{pre}{m:Bb}{place}(h:¬(I=32\/I=10)):MX (pre++[m]) place I=if C4 m place I then pre++[{m with qJ:=m.qJ++Utf8.encode I}] else pre++[m]++[CM place I]:=by
 unfold MX;exact li
def eo(b:kN Bb)(m)(u:bN):(qS Bs (b++[m])).set (Z b*3+2) (O u)=qS Bs (b++[{m with qJ:=u}]):=by
 have c:Z (qS Bs b)=Z b*3:=by
  induction b with
  |nil=>rfl
  |cons a l ih=>rw[mB,mp,ih,GR,mn];omega
 simp;rw[qj _ _ lc,c];simp[Bs]
set_option maxRecDepth 100000
theorem iR(mv)(i:kN Bb)(place:Nat)(r B w)(hB:B<=w.heap.size)(f:kt w B 206 3 mv (Z i) (qS Bs i))(ES:Z i<=1000000)(BA:place<=1000000)(y:∀m∈i,m.c<=1000000/\m.qJ.size<=1000000):rE rF 156 #[mv,X J place,X .i32 r] w λe L=>∃v,e=j1 v/\kt L B 206 3 v (Z (MX i place r)) (qS Bs (MX i place r))/\Below B w L:=by
 obtain⟨i0,A0,N,Ax,AH⟩:=mW Tryz.zy;obtain⟨ad,W,rfl⟩:=Aj f;by_cases b:r=32\/r=10
 .have j:jV (MX i place r=i):=by show _=_;unfold MX;rw[mo b]
  rcases b with b|b
  ·have T:(r==32)=T6:=sq;clear b;go_enter func156,ntmps156;go_wp2;go_ret;rw[j.o];exact⟨_,rfl,f,Below.refl _ _⟩
  ·have T:(r==32)=K:=sq;have h2:(r==10)=T6:=sq;clear b;go_enter func156,ntmps156;go_wp2;go_ret;rw[j.o];exact⟨_,rfl,f,Below.refl _ _⟩
 .have T:(r==32)=K:=by simp;omega
  have h2:(r==10)=K:=li
  rcases List.eq_nil_or_concat i with rfl|⟨pre,m,P⟩
  ·(have j:jV (MX [] place r=[CM place r]):=by show _=_;unfold MX;rw[mm b];rfl);have Q:=Ky r w;clear b y;have Bx:=Ab Q;clear Q;go_enter func156,ntmps156;(go_wp2_with fail);refine Bx.G ?_;rintro e d ⟨rfl,AO⟩;rw[AO];clear AO d;go_wp2_with (at_builtin;refine mE _ rfl (.tmp 40) (.tmp 47) _ rfl B 206 i0 _ 3 32 underlying200 A0 N Ax AH rfl lc (U ad 0 W) 0 [] rfl (mg f _) ⟨w.heap.size,0,Y⟩ 1 1 (Bs (CM place r)) rfl rfl (mz (mG w _)) (by simp[Value.oneCell',Bs]) lc lw lc li (w.heap.size+1) ln ?_;intro g1 BT d F n x o)
   have H:Below B w d:=((Below.refl B w).alloc hB _).grown n li (λq A=>(f.lt q A).1);clear n x o;go_wp2;go_ret;rw[j.o];refine⟨_,rfl,?_,H⟩;simpa using F
  .rw[List.concat_eq_append]at P;subst P;have j:=Ab (Pt (pre:=pre) (m:=m) (place:=place) b);have p:Z pre<Z (pre++[m]):=ln;obtain⟨g,EK,he,hc,s⟩:=Az f (λc _=>GR c) (Z pre) p;obtain⟨rfl,_,rfl⟩:=qX he;have I:=s (Z pre) p 0 lc;have C:=s (Z pre) p 1 lc;have u:=s (Z pre) p 2 lc;simp[Bs]at I C u;have E:=y m ln;have M:=Ie f (Z pre*3+2);have o:Z (pre++[m])=Z pre+1:=ln;have E0:Z pre<=1000000:=lc;have z:=Yz m place r w E.1 E.2 BA;simp only[Bs]at z;have S:=Ab z;clear s b z y;rw[o]at f|-;cases hgo:C4 m place r with
   |true=>
    have G:=Ab hgo;go_enter func156,ntmps156;(go_wp2_with fail);refine S.G ?_;rintro e d ⟨rfl,a⟩;rw[hgo];have l:=Ad f a;have DT:=Ie l (Z pre*3+2);have FA:d.cell? ⟨g,Z pre*3+2,Y⟩=V (O m.qJ):=by
     have CL:=(f.lt g rfl).2;rw[World.cell?_of_block (w:=w) (a.block g CL ln)];exact u
    have D:Below B w d:=⟨a.os,a.tape,a.output,a.size,λk hk=>a.block k lc ln⟩;clear I C u M a hgo;have CW:=ZS r;have EX:=E.2;go_wp2;go_ret;rw[Aa j,Aa G,mo rfl];refine⟨_,rfl,?_,D.setCell (f.lt g rfl).1 _⟩;have h:=BO l (Z pre*3+2) (O (m.qJ++Utf8.encode r));rw[eo]at h;simpa using h
   |false=>
    have G:=Ab hgo;go_enter func156,ntmps156;(go_wp2_with fail);refine S.G ?_;rintro e d ⟨rfl,a⟩;rw[hgo];have l:=Ad f a;have D:Below B w d:=⟨a.os,a.tape,a.output,a.size,λk hk=>a.block k lc ln⟩;have EY:=a.size;clear I C u M a hgo;(go_wp2_with fail);refine(Ky r d).G ?_;rintro e w2 ⟨rfl,R⟩;rw[R];clear R w2;go_wp2_with (at_builtin;refine mE _ rfl (.tmp 40) (.tmp 47) _ rfl B 206 i0 _ 3 32 underlying200 A0 N Ax AH rfl lc (U (V ⟨g,0,Y⟩) (Z pre+1) W) (Z pre+1) (qS Bs (pre++[m])) rfl (mg l _) ⟨d.heap.size,0,Y⟩ 1 1 (Bs (CM place r)) rfl rfl (mz (mG d _)) (by simp[Value.oneCell',Bs]) lc lw lc li (d.heap.size+1) ln ?_;intro g1 BT w3 F n x o)
    have H:Below B w w3:=(D.alloc lc _).grown n li (λq A=>(l.lt q A).1);clear n x o;go_wp2;go_ret;rw[Aa j,Aa G,mm ln];refine⟨_,rfl,?_,H⟩;simpa using F
end
section
structure G9(F:Type) where
 pos:kN F
 neg:kN F
 E:F
section
variable {F:Type} (I:G9 F->Prop) (zQ:F->Nat)
structure MH:Prop where
 pos:∀i,I i->∀g∈i.pos,zQ g<=zQ i.E
 neg:∀i,I i->∀g∈i.neg,zQ g<zQ i.E
def KL(i:G9 F)(P N:F->Prop):Prop:=(∀g∈i.pos,P g)/\∀g∈i.neg,¬N g
def MS(M:F->Prop):Prop:=∀i,I i->KL i M M->M i.E
def KF(M:F->Prop)(n:Nat):Prop:=∀S:F->Prop,(∀f,M f->zQ f<n->S f)->(∀i,I i->zQ i.E=n->KL i S M->S i.E)->∀f,M f->zQ f=n->S f
def O8(l:MH I zQ){M N}(d:MS I N)(k:∀n,KF I zQ M n):∀n,(∀f,zQ f<n->(M f↔N f))->∀f,M f->zQ f=n->N f:=by
 intro n ih f e m;refine k n N (λg a j=>(ih g j).1 a) (λi c o b=>?_) f e m;refine d i c ⟨b.1,λg a h=>b.2 g a ?_⟩;exact(ih g (by have:=l.neg i c g a;omega)).2 h
structure D8(n:Nat)(s:F->Prop):Prop where
 top:∀f,s f->zQ f<=n
 closed:∀i,I i->zQ i.E<n->KL i s s->s i.E
 least:∀m,m<=n->KF I zQ s m
def D8.start:D8 I zQ 0 (λ_=>False):=
 ⟨λf h=>h.elim,λi _ h=>lc,λm _ S _ _ f h=>h.elim⟩
def D8.step(p:MH I zQ){n}{s}(h:D8 I zQ n s){i}(q:I i)(k:zQ i.E=n)(l:KL i s s):D8 I zQ n (λf=>s f\/f=i.E):=by
 have r:∀j,I j->zQ j.E<=n->((∀g∈j.neg,¬(s g\/g=i.E))↔∀g∈j.neg,¬s g):=by
  intro j d v;constructor
  .exact qr
  .intro o g a c;rcases c with c|c
   .exact o g a c
   .have:=p.neg j d g a;rw[c,k]at this;omega
 refine⟨λf b=>?_,λj d v e=>?_,λm D S t w f b y=>?_⟩
 .rcases b with b|b
  .exact h.top f b
  .rw[b,k];omega
 .refine j2 (h.closed j d v ⟨λg a=>?_,(r j d lc).1 e.2⟩);rcases e.1 g a with c|c
  .exact c
  .have:=p.pos j d g a;rw[c,k]at this;omega
 .have u:=λg a E=>h.least m D S (λx C z=>t x (j2 C) z) (λj d B e=>w j d B ⟨e.1,(r j d lc).2 e.2⟩) g a E
  rcases b with b|b
  .exact u f b y
  .subst b;have A:m=n:=lc;subst A;refine w i q k ⟨λg a=>?_,(r i q lc).2 l.2⟩;by_cases G:zQ g<zQ i.E
   .exact t g (j2 (l.1 g a)) lc
   .exact u g (l.1 g a) (by have:=p.pos i q g a;omega)
def D8.next{n}{s}(h:D8 I zQ n s)(g:∀i,I i->zQ i.E=n->KL i s s->s i.E):D8 I zQ (n+1) s:=by
 refine⟨λf a=>by have:=h.top f a;omega,λi c l b=>?_,λm k=>?_⟩
 .by_cases d:zQ i.E=n
  .exact g i c d b
  .exact h.closed i c lc b
 .by_cases e:m<=n
  .exact h.least m e
  .intro S _ _ f a j;have:=h.top f a;omega
def D8.done{n}{s}(h:D8 I zQ n s)(e:∀i,I i->zQ i.E<n):MS I s/\∀m,KF I zQ s m:=by
 refine⟨λi a d=>h.closed i a (e i a) d,λm=>?_⟩;by_cases b:m<=n
 .exact h.least m b
 .intro S _ _ f c g;have:=h.top f c;omega
def D8.cong{n}{s t}(h:D8 I zQ n s)(e:∀f,s f↔t f):D8 I zQ n t:=by
 have:=funext λf=>propext (e f)
 rw[<-this];exact h
end
def cU{F}(I a c)(e:MH I a)(A:MH I c){M N:F->Prop}(r:MS I M)(w:∀n,KF I a M n)(t:MS I N)(q:∀n,KF I c N n):∀f,M f↔N f:=by
 have s:∀n f,a f<n->(M f↔N f):=by
  intro n
  induction n with
  |zero=>exact lc
  |succ n ih=>
   have y:∀k g,c g<k->N g->a g<=n->M g:=by
    intro k
    induction k with
    |zero=>exact lc
    |succ k ihk=>
     intro g B p o;by_cases d:c g<k
     .exact ihk g d p o
     .refine q k _ (λf u v=>ihk f v u) (λi j C m D=>?_) g p lc o;refine r i j ⟨λx b=>m.1 x b (by have:=e.pos i j x b;omega),λx b z=>m.2 x b ?_⟩;exact(ih x (by have:=e.neg i j x b;omega)).1 z
   intro f h;by_cases d:a f<n
   .exact ih f d
   .exact⟨λl=>O8 I a e t w n ih f l lc,λl=>y (c f+1) f lc l lc⟩
 intro f;exact s (a f+1) f lc
end
section
variable{w:jH}{b:Nat}{y:kN jR}{T:TypeId}
theorem Tryz.zC:(Tryz.prog.info? 243).map (·.size)=V 26:=lo
theorem Tryz.zE:(Tryz.prog.info? 90).map (·.size)=V 26:=lo
def World.zY(b t):∀(a:kN jR) (o) (w) (c),AF w b c t->o+Z a<=Z c->AF (w.setCells b o a) b (qT o c++a++c.drop (o+Z a)) t
 |[],o,w,c,h,hl=>by
  simp;exact h
 |v::a,o,w,c,h,hl=>by
  simp at hl;have ih:=World.zY b t a (o+1) _ _ (h.set o v) li;have e:qT (o+1) (c.set o v)++a++(c.set o v).drop (o+1+Z a)=qT o c++v::a++c.drop (o+Z (v::a)):=by
   rw[List.drop_set,mo lc,lW li,List.getElem_set_self,List.take_set,List.set_eq_of_length_le li];exact li
  rw[e]at ih;exact ih
def AF.zM(h:AF w b y T)(a:kN jR)(c:Z a=Z y):AF (w.setCells b 0 a) b a T:=by
 have:=World.zY b T a 0 w y h lc;exact qr
def Ac.zG{M}{a w}(h:Ac M a w){b}(d:b∈M\/a.heap.size<=b):∀(c:kN jR) (o),Ac M a (w.setCells b o c)
 |[],_=>h
 |v::c,o=>(h.setCell (p:=⟨b,o,Y⟩) d v).zG d c (o+1)
end
section
section
variable {α:Type} {lt eq:α->α->rD}
def Ch(ls:kN (kN α))(i:Nat):kN α:=ls.getD i []
def Fq{a:kN (kN α)}{i}(h:i<Z a):Ch a i∈a:=by
 unfold Ch;rw[mq,mc h];exact lV h
def eF{a:kN (kN α)}{l}(h:l∈a):∃i,i<Z a/\Ch a i=l:=by
 obtain⟨i,b,e⟩:=mS h;refine⟨i,b,?_⟩;unfold Ch;rw[mq,mc b];exact e
def La(ls:kN (kN α))(y:α):Prop:=∀l∈ls,y∈l
def Gb(k t:Nat):Nat:=if t+1=k then 0 else t+1
def eI{k t}(h:t<k):(t+1)%k=Gb k t:=by
 unfold Gb;split
 .exact qr
 .exact Nat.mod_eq_of_lt lc
def VA{k t}(h:t<k):Gb k t<k:=by
 unfold Gb;split<;>omega
def Ov(k t ag i:Nat):Prop:=(ag<=t/\t-ag<=i/\i<t)\/(t<ag/\(i<t\/t+k-ag<=i))
def fU{k t a i}(c:t<k)(b:a<k)(d:i<k)(h:Ov k (Gb k t) (a+1) i):Ov k t a i\/i=t:=by
 unfold Ov Gb at h;unfold Ov;split at h<;>omega
def iD{k t a i}(d:t<k)(b:a+1=k)(c:i<k):Ov k t a i\/i=t:=by
 unfold Ov;omega
def Sg{k t i}:¬Ov k t 0 i:=by
 unfold Ov;omega
def kh(lt:α->α->rD)(s:α)(l:kN α):Nat:=l.countP λy=> !lt y s
def X9(lt:α->α->rD)(s:α)(ls:kN (kN α)):Nat:=(ls.map (kh lt s)).sum
def Z5(o:PN lt eq){s a}(h:lt s a=T6)(l):kh lt a l<=kh lt s l:=by
 refine List.countP_mono_left (λy _ b=>?_);cases hh:lt y s with
 |false=>rfl
 |true=>rw[o.H _ _ _ hh h]at b;cases b
def ie(o:PN lt eq){s a}(h:lt s a=T6):∀{l:kN α},s∈l->kh lt a l<kh lt s l
 |x::l,b=>by
  have e:∀z,kh lt z _=kh lt z l+(if(!lt x z)=T6 then 1 else 0):=λz=>by unfold kh;rw[List.countP_cons]
  rw[e,e];have d:=Z5 o h l;rcases l9.1 b with rfl|b
  .rw[h,o.irr];simp;omega
  .have c:=ie o h b;cases hx:lt x s with
   |true=>rw[o.H _ _ _ hx h];omega
   |false=>
    cases lt x a<;>simp<;>omega
def ik(o:PN lt eq){s b}(h:lt s b=T6):∀a,X9 lt b a<=X9 lt s a
 |[]=>mt _
 |l::a=>by
  have e:∀z,X9 lt z (l::a)=kh lt z l+X9 lt z a:=λz=>lx
  rw[e,e];have:=Z5 o h l;have:=ik o h a;omega
def Z6(o:PN lt eq){s d}(h:lt s d=T6):∀{a:kN (kN α)},(∃l∈a,s∈l)->X9 lt d a<X9 lt s a
 |l::a,b=>by
  have e:∀z,X9 lt z (l::a)=kh lt z l+X9 lt z a:=λz=>lx
  rw[e,e];obtain⟨q,c,b⟩:=b;have g:=ik o h a;have f:=Z5 o h l;rcases l9.1 c with rfl|c
  .have:=ie o h b;omega
  .have:=Z6 o h ⟨q,c,b⟩;omega
def az(p:Nat->Nat)(t v:Nat):Nat->Nat:=λi=>if i=t then v else p i
structure Qp(lt:α->α->rD)(ls:kN (kN α))(t:Nat)(s:α)(ag:Nat)(p:Nat->Nat)(m:kN α):Prop where
 tk:t<Z ls
 agk:ag<Z ls
 win:∀i,i<Z ls->Ov (Z ls) t ag i->s∈Ch ls i
 ple:∀i,i<Z ls->p i<=Z (Ch ls i)
 below:∀i,i<Z ls->∀j (h:j<Z (Ch ls i)),j<p i->lt (Ch ls i)[j] s=T6
 src:∃l∈ls,s∈l
 sound:∀y∈m,La ls y
 low:∀y∈m,lt y s=T6
 zB:m.Pairwise λa b=>lt a b=T6
 zi:∀y,La ls y->y∈m\/lt y s=K
structure TE(lt:α->α->rD)(ls:kN (kN α))(t:Nat)(s:α)(ag at_:Nat)(p:Nat->Nat)(m:kN α):Prop where
 tk:t<Z ls
 agk:ag<Z ls
 hlt:at_<Z (Ch ls t)
 ze:(Ch ls t)[at_]=s
 win:∀i,i<Z ls->Ov (Z ls) t ag i\/i=t->s∈Ch ls i
 ple:∀i,i<Z ls->p i<=Z (Ch ls i)
 below:∀i,i<Z ls->∀j (h:j<Z (Ch ls i)),j<p i->lt (Ch ls i)[j] s=T6
 here:∀j (h:j<Z (Ch ls t)),j<at_->lt (Ch ls t)[j] s=T6
 sound:∀y∈m,La ls y
 low:∀y∈m,lt y s=T6
 zB:m.Pairwise λa b=>lt a b=T6
 zi:∀y,La ls y->y∈m\/lt y s=K
variable {ls:kN (kN α)} {t:Nat} {s:α} {ag:Nat} {p:Nat->Nat} {m:kN α}
def C3.zw(o:PN lt eq){l}(d:C3 lt l){i}(g){y}(b:y∈l)(h:∀j (a:j<Z l),j<i->l[j]≠y):lt y l[i]=K:=by
 obtain⟨j,a,e⟩:=mS b;have f:i<=j:=by
  by_cases c:j<i
  .exact rl e (h j a c)
  .omega
 rw[<-e];exact d.up o a f (o.irr _)
def Qp.start(o:PN lt eq)(b:0<Z ls)(f:C3 lt (Ch ls 0))(c):Qp lt ls 0 (Ch ls 0)[0] 0 (λ_=>0) []:=by
 refine⟨b,b,λi k d=>rl d Sg,λi _=>mr _,λi _ j h e=>lc,⟨_,Fq b,lV c⟩,λy a=>sF,λy a=>sF,rp,λy a=>j3 ?_⟩;exact f.zw o c (a _ (Fq b)) (λj e g=>lc)
def Qp.before(h:Qp lt ls t s ag p m){b}(e:El lt (Ch ls t) (p t) s b):∀j a,j<b->lt (Ch ls t)[j] s=T6:=by
 intro j a d;by_cases c:j<p t
 .exact h.below t h.tk j a c
 .exact e.below j a lc d
def Qp.done(h:Qp lt ls t s ag p m){b}(f:El lt (Ch ls t) (p t) s b)(g:b=Z (Ch ls t)):∀y,y∈m↔La ls y:=by
 intro y;refine⟨h.sound y,λc=>?_⟩;rcases h.zi y c with a|a
 .exact a
 .obtain⟨j,d,e⟩:=mS (c _ (Fq h.tk));have:=h.before f j d lc;rw[e,a]at this;cases this
def Qp.same(h:Qp lt ls t s ag p m){a}(e:El lt (Ch ls t) (p t) s a)(c)(d:(Ch ls t)[a]=s):TE lt ls t s ag a p m:=by
 refine⟨h.tk,h.agk,c,d,λi f b=>?_,h.ple,h.below,h.before e,h.sound,h.low,h.zB,h.zi⟩;rcases b with b|rfl
 .exact h.win i f b
 .rw[<-d];exact lV c
def Qp.past(o:PN lt eq)(u:C3 lt (Ch ls t))(h:Qp lt ls t s ag p m){a}(l:El lt (Ch ls t) (p t) s a)(f)(r:(Ch ls t)[a]≠s):TE lt ls t (Ch ls t)[a] 0 a p m/\X9 lt (Ch ls t)[a] ls<X9 lt s ls:=by
 have d:lt s (Ch ls t)[a]=T6:=by
  refine o.tot _ _ (l.zd a f (mt _)) ?_;cases hq:eq (Ch ls t)[a] s with
  |false=>rfl
  |true=>exact rl ((o.eqv _ _).1 hq) r
 refine⟨⟨h.tk,by have:=h.tk;omega,f,rfl,λi q k=>?_,h.ple,λi q j c b=>o.H _ _ _ (h.below i q j c b) d,λj c b=>o.H _ _ _ (h.before l j c b) d,h.sound,λy g=>o.H _ _ _ (h.low y g) d,h.zB,λy g=>?_⟩,Z6 o d h.src⟩
 .rcases k with k|rfl
  .exact rl k Sg
  exact ln
 .rcases h.zi y g with n|n
  .exact j2 n
  .right;refine u.zw o f (g _ (Fq h.tk)) (λj c b e=>?_);have:=h.before l j c b;rw[e,n]at this;cases this
def Ux(a:∀i,i<Z ls->p i<=Z (Ch ls i)){v}(b:v<=Z (Ch ls t)):∀i,i<Z ls->az p t v i<=Z (Ch ls i):=by
 intro i c;unfold az;split
 .rename_i e;rw[e];exact b
 .exact a i c
variable {at_:Nat}
def TE.next(h:TE lt ls t s ag at_ p m)(f:ag+1<Z ls):Qp lt ls (Gb (Z ls) t) s (ag+1) (az p t at_) m:=by
 refine⟨VA h.tk,f,λi b d=>h.win i b (fU h.tk h.agk b d),Ux h.ple (Nat.le_of_lt h.hlt),λi b j c a=>?_,⟨_,Fq h.tk,h.win t h.tk (j3 rfl)⟩,h.sound,h.low,h.zB,h.zi⟩;unfold az at a;split at a
 .rename_i e;subst e;exact h.here j c a
 .exact h.below i b j c a
def TE.common(h:TE lt ls t s ag at_ p m)(b:ag+1=Z ls):La ls s:=by
 intro l c;obtain⟨i,a,rfl⟩:=eF c;exact h.win i a (iD h.tk b a)
def TE.yU(h:TE lt ls t s ag at_ p m)(e:ag+1=Z ls):(∀y∈m++[s],La ls y)/\(m++[s]).Pairwise (λa b=>lt a b=T6):=by
 refine⟨λy c=>?_,?_⟩
 .rcases mi.1 c with c|c
  .exact h.sound y c
  .rw[lX]at c;subst c;exact h.common e
 .rw[pS];refine⟨h.zB,ln,λa f b d=>?_⟩;rw[lX]at d;subst d;exact h.low a f
def TE.last(o:PN lt eq)(k:C3 lt (Ch ls t))(h:TE lt ls t s ag at_ p m)(g:ag+1=Z ls)(i:at_+1=Z (Ch ls t)):∀y,y∈m++[s]↔La ls y:=by
 intro y;refine⟨(h.yU g).1 y,λb=>?_⟩;rw[mi,lX];rcases h.zi y b with a|a
 .exact j2 a
 .right;obtain⟨j,f,e⟩:=mS (b _ (Fq h.tk));by_cases d:j<at_
  .have:=h.here j f d;rw[e,a]at this;cases this
  ·have c:j=at_:=lc;subst c;rw[<-e];exact h.ze
def TE.more(o:PN lt eq)(q:C3 lt (Ch ls t))(h:TE lt ls t s ag at_ p m)(n:ag+1=Z ls)(f):Qp lt ls (Gb (Z ls) t) (Ch ls t)[at_+1] 0 (az p t (at_+1)) (m++[s])/\X9 lt (Ch ls t)[at_+1] ls<X9 lt s ls:=by
 have b:lt s (Ch ls t)[at_+1]=T6:=by
  have:=q at_ _ h.hlt f lc;rw[h.ze]at this;exact this
 have w:0<Z ls:=lc
 refine⟨⟨VA h.tk,w,λi r v=>rl v Sg,Ux h.ple (Nat.le_of_lt f),λi r j d c=>?_,⟨_,Fq h.tk,lV f⟩,(h.yU n).1,λy a=>?_,(h.yU n).2,λy a=>?_⟩,Z6 o b ⟨_,Fq h.tk,h.win t h.tk (j3 rfl)⟩⟩
 .unfold az at c;split at c
  .rename_i e;subst e;by_cases g:j<at_
   .exact o.H _ _ _ (h.here j d g) b
   ·have l:j=at_:=lc;subst l;rw[h.ze];exact b
  .exact o.H _ _ _ (h.below i r j d c) b
 .rcases mi.1 a with a|a
  .exact o.H _ _ _ (h.low y a) b
  .exact qr
 .rw[mi,lX];rcases h.zi y a with k|k
  .exact j2 (j2 k)
  .by_cases u:y=s
   .exact j2 (j3 u)
   .right;refine q.zw o f (a _ (Fq h.tk)) (λj d c e=>?_);by_cases g:j<at_
    .have:=h.here j d g;rw[e,k]at this;cases this
    ·have l:j=at_:=lc;subst l;rw[h.ze]at e;exact u e.symm
end
end
section
variable{w v:jH}{s t:bN}{n k m b i:Nat}{P:Program}{I:Int}{z:jR}{y:kN jR}{T:TypeId}{M:kN Nat}
def DG(w:jH)(N:Nat)(s:bN)(pos:Nat):jH:={w with heap:=w.heap.setIfInBounds N (.stringIter s pos)}
def RA{N}{pos}(h:N<w.heap.size):(DG w N s pos).heap[N]?=V (.stringIter s pos):=by
 simp[DG,h]
def SQ(h:k≠n):(DG w n s m).heap[k]?=w.heap[k]?:=by
 have a:¬n=k:=λe=>h e.symm
 simp[DG,Array.getElem?_setIfInBounds,a]
def J2(w N s a):(DG w N s a).heap.size=w.heap.size:=by simp[DG]
def Ef(w N s a):Ac [N] w (DG w N s a):=
 ⟨rfl,rfl,rfl,by rw[J2];exact mt _,λk _ b=>SQ sB⟩
def XV(a:w.heap[n]?=V (.stringIter s m))(b)(h:m<s.size):
  (Instr.next (jj (V ⟨n,0,Y⟩)) T6 b).run P w=.ok (.tuple #[kx T6,X J m,X kw (Utf8.decode s m).1]) (DG w n s (m+(Utf8.decode s m).2)):=by
 simp only[Instr.next,getObj,setObj,pL,Sem.run,a,Result.andThen,h,ro];exact lx
def XF(a:w.heap[n]?=V (.stringIter s m))(b)(h:¬m<s.size):
  (Instr.next (jj (V ⟨n,0,Y⟩)) T6 b).run P w=.ok (.tuple #[kx K]) w:=by
 simp[Instr.next,getObj,Sem.run,a,h]
def JB(s:bN)(a)(h:a<s.size):1<=(Utf8.decode s a).2:=by
 by_cases b:(s[a]'h).toNat<128
 .rw[oS s a h b];exact mt _
 .exact(qo s a h lc).2
def Xi(s:bN)(a):(Utf8.decode s a).2<=4:=by
 unfold Utf8.decode;simp only
 repeat' split
 all_goals simp
def iQ(r):0<(Utf8.encode r).size:=by
 unfold Utf8.encode;simp only;generalize(if Utf8.valid r=T6 then r.toNat else Utf8.runeError)=c
 repeat' split
 all_goals simp[ByteArray.size]
def Fk(s:bN)(pos:Nat)(ms:kN Bb):kN Bb:=
 if h:pos<s.size/\1<=(Utf8.decode s pos).2 then have _h1:pos<s.size:=h.1;have _h2:=h.2;Fk s (pos+(Utf8.decode s pos).2) (MX ms pos (Utf8.decode s pos).1)else ms
def F9(a)(h:n<s.size):Fk s n a=Fk s (n+(Utf8.decode s n).2) (MX a n (Utf8.decode s n).1):=by
 conv=>lhs;rw[Fk]
 rw[dif_pos ⟨h,JB s n h⟩]
def PX(a)(h:¬n<s.size):Fk s n a=a:=by
 rw[Fk,dif_neg lc]
def Jw(m:Bb):Bb:=if JS m then m else{m with b:=0}
def Ff(s:bN):Bb:=⟨1,s.size,ky⟩
def DB(s:bN):kN Bb:=(Fk s 0 []).map Jw++[Ff s]
structure Mx(s:bN)(pos:Nat)(ms:kN Bb):Prop where
 len:Z ms<=pos
 j:∀m∈ms,m.c<pos/\0<m.qJ.size/\m.qJ.size<=4*pos
def Mx.lay{b}(h:Mx s n b)(g:n<k):Mx s k (MX b n I):=by
 have l:=ZS I;have o:=iQ I;have d:∀m∈b,m.c<k/\0<m.qJ.size/\m.qJ.size<=4*k:=λm c=>by have:=h.j m c;omega
 have j:=h.len;unfold MX;split
 .exact⟨lc,d⟩
 .split
  .rename_i m c;have f:=List.mem_of_getLast? c;have i:=h.j m f;split
   .refine⟨?_,λx a=>?_⟩
    ·exact li
    .rcases mi.1 a with a|a
     .exact d x (List.dropLast_subset b a)
     exact qy
   .refine⟨li,λx a=>?_⟩;rcases mi.1 a with a|a
    .exact d x a
    .simp at a;subst a;simp only[CM];omega
  .refine⟨li,λx a=>?_⟩;rcases mi.1 a with a|a
   .exact d x a
   .simp at a;subst a;simp only[CM];omega
def GA(T:kN Bb)(k:Nat):kN Bb:=(qT k T).map Jw++T.drop k
def Jy(T:kN Bb)(k)(a:k<=Z T):Z (GA T k)=Z T:=by simp[GA];omega
def PD{T}(a):GA T k=(qT k T).map Jw++T[k]::T.drop (k+1):=by
 unfold GA;rw[mu a]
def YE{T}(a):GA T (k+1)=(qT k T).map Jw++Jw T[k]::T.drop (k+1):=by
 unfold GA;rw[lW a,mO,mY];rfl
def bP(b c:kN Bb)(m n)(d:Z b=n):(qS Bs (b++m::c)).set (n*3) (X J 0)=qS Bs (b++{m with b:=0}::c):=by
 subst d;have e:Z (qS Bs b)=Z b*3:=by
  induction b with
  |nil=>rfl
  |cons a l ih=>rw[mB,mp,ih,GR,mn];omega
 simp;rw[qj _ _ lc,e];simp[Bs]
set_option maxRecDepth 100000
theorem ak(s:bN)(w)(hs:s.size<=300):rE rF 114 #[O s] w λe w'=>∃v,e=j1 v/\kt w' (w.heap.size+1) 206 3 v (Z (DB s)) (qS Bs (DB s))/\Ac [] w w':=by
 obtain⟨i0,HH,FF,HK,HA⟩:=mW Tryz.zy;have H1:∀(x:rD) (w:jH),(Op.unary .not (kx x)).run rF w=.ok _ w:=λ_ _=>rfl
 go_enter func114,ntmps114;go_wp2;obtain⟨T,hT⟩:=kQ (Fk s 0 []);have HT:=Ab hT;clear hT
 go_loopg [3] s.size (λgk o wr=>∃(pos:Nat) (b:kN Bb),gk=s.size-pos/\pos<=s.size+4/\jV (Fk s pos b=T/\Mx s pos b)/\wr.heap[w.heap.size]?=V (.stringIter s pos)/\kt wr (w.heap.size+1) 206 3 o (Z b) (qS Bs b)/\Ac [] w wr/\w.heap.size+1<=wr.heap.size)
 case atStart=>
  exact⟨0,[],ln,lc,⟨HT,⟨ln,ln⟩⟩,World.iter_heap w s 0,mw _ _ _ _,(kR _ _).alloc _,by simp[World.iter]⟩
 case round=>
  obtain⟨pos,b,EK,HR,p,BT,d,j,r⟩:=hrel;have HG:=Ab EK;have S:=Ab BT;clear EK BT;obtain⟨ad,AR,rfl⟩:=Aj d;by_cases F:pos<s.size
  .obtain⟨u,a,E⟩:∃u a,Utf8.decode s pos=(u,a):=⟨_,_,rfl⟩;(have H2:a<=4:=by have:=Xi s pos;rw[E]at this;exact this);(have H0:1<=a:=by have:=JB s pos F;rw[E]at this;exact this);have AB:∀z,(Instr.next (jj (V ⟨w.heap.size,0,Y⟩)) T6 z).run rF wr=.ok (.tuple #[kx T6,X J pos,X kw u]) (DG wr w.heap.size s (pos+a)):=by
    intro z;have h:=XV (P:=rF) S z F;rw[E]at h;exact h
   have B:=Ad d (Ef wr w.heap.size s (pos+a));have A1:=Ab (RA (w:=wr) (N:=w.heap.size) (s:=s) (pos:=pos+a) lc);(have AH:w.heap.size+1<=(DG wr w.heap.size s (pos+a)).heap.size:=by rw[J2];exact r);have A:=j.trans' (Ef wr w.heap.size s (pos+a)) ln;have HL:jV (Fk s (pos+a) (MX b pos u)=T/\Mx s (pos+a) (MX b pos u)):=by
    refine⟨?_,p.o.2.lay lc⟩;have h:=p.o.1;rw[F9 b F,E]at h;exact h
   (have FW:Z b<=1000000:=by have:=p.o.2.len;omega);(have EX:jV (∀m∈b,m.c<=1000000/\m.qJ.size<=1000000):=λm f=>by have:=p.o.2.j m f;omega);clear E d j S;generalize DG wr w.heap.size s (pos+a)=w2 at AB B A1 AH A;(go_wp2_with fail);clear AB;refine(iR _ b pos u _ _ AH B FW lc EX).G ?_;rintro e M ⟨v3,rfl,FL,n⟩;have E0:=Ab ((n.block _ lc).H A1);have Go:Ac [] w M:=⟨n.os.H A.os,n.tape.H A.tape,n.output.H A.output,mZ A.size n.size,λk y _=>(n.block k lc).H (A.block k y ln)⟩;have Ha:=mZ AH n.size;clear n A A1 B AH;go_wp2_with fail
   go_roundg (s.size-(pos+a))
   case measure=>exact qu
   case rel=>exact⟨pos+a,_,rfl,lc,HL,E0,FL,Go,Ha⟩
  ·(have AB:=λz=>XF (P:=rF) S z F);have L:jV (b=T/\Mx s pos b):=⟨by have h:=p.o.1;rwa [PX b F]at h,p.o.2⟩;clear S p;have I:=L.o.1;(have HB:jV (∀m∈T,m.qJ.size<=1000000/\0<m.qJ.size):=λm f=>by have:=L.o.2.j m (by rw[I];exact f);omega);(have HQ:Z T<=400:=by have:=L.o.2.len;rw[I]at this;omega);rw[I]at d|-;clear L I;(have HC:jV (DB s=T.map Jw++[Ff s]):=by show _=_;unfold DB;rw[Aa HT]);clear HT HG;go_wp2;clear AB
   go_loopw [19] (λi wq=>∃k:Nat,i=X J k/\k<=Z T/\kt wq (w.heap.size+1) 206 3 (U ad (Z T) AR) (Z T) (qS Bs (GA T k))/\Ac [] w wq/\w.heap.size+1<=wq.heap.size) (λi _=>Z T-(rG i).toNat)
   case atStart=>exact⟨0,rfl,mr _,oa,j,r⟩
   case round=>
    clear d j r;obtain⟨k,rfl,y,d,j,r⟩:=hrel;by_cases l:k<Z T
    ·(have ES:kt wr (w.heap.size+1) 206 3 (U ad (Z T) AR) (Z (GA T k)) (qS Bs (GA T k)):=by rw[Jy T k y];exact d);obtain⟨g,HX,he,hc,Q⟩:=Az ES (λc _=>GR c) k (by rw[Jy T k y];exact l);simp at he;obtain⟨rfl,FT,rfl⟩:=he;clear FT;obtain⟨m,f⟩:=kQ (T[k]);have BS:∀h,(GA T k)[k]'h=m:=by
      intro h;have e:(GA T k)[k]?=V m:=by
       have hl:Z ((qT k T).map Jw)=k:=li;rw[PD l,oU lc,hl,Nat.sub_self,f];rfl
      rw[mc h]at e;exact o9 e
     have G:=Q k (by rw[Jy T k y];exact l) 0 lc;have R:=Q k (by rw[Jy T k y];exact l) 1 lc;have H:=Q k (by rw[Jy T k y];exact l) 2 lc;rw[BS]at G R H;simp[Bs]at G R H;have EM:=HB.o m (by rw[<-f];exact lV l);have W:=Wr m wr EM.1 (λ_=>EM.2);simp only[Bs]at W;have HW:=Ab W;have D:jV (GA T k=(qT k T).map Jw++m::T.drop (k+1)/\GA T (k+1)=(qT k T).map Jw++Jw m::T.drop (k+1)):=⟨by rw[PD l,f],by rw[YE l,f]⟩;clear Q BS ES W f hc;(go_wp2_with fail);refine HW.G ?_;rintro e w1 ⟨rfl,C⟩;have Ax:=Ad d C;have BA:=j.H C;have B9:=mZ r C.size;cases hwh:JS m with
     |true=>
      (have HN:jV (GA T (k+1)=GA T k):=by show _=_;rw[D.o.1,D.o.2];simp[Jw,hwh]);go_wp2
      go_roundw
      case rel=>exact⟨k+1,ly,lc,by rw[HN.o];exact Ax,BA,B9⟩
      case measure=>simp[rG];omega
     |false=>
      have FB:=Ax.lt g rfl;have HV:jY w1 ⟨g,k*3,Y⟩=V (X J m.b):=by
       rw[World.cell?_of_block (w:=wr) (C.block g (d.lt g rfl).2 ln)];exact G
      have H3:=Ie Ax (k*3);have HN:jV ((qS Bs (GA T k)).set (k*3) (X J 0)=qS Bs (GA T (k+1))):=by
       show _=_;rw[D.o.1,D.o.2,bP _ _ _ k li];simp[Jw,hwh]
      clear D HW C G R H d j r;go_wp2
      go_roundw
      case rel=>
       refine⟨k+1,ly,lc,?_,BA.setCell (j3 li) _,li⟩;rw[<-HN.o];exact BO Ax (k*3) _
      case measure=>simp[rG];omega
    ·have FO:k=Z T:=lc;have B:kt wr (w.heap.size+1) 206 3 (U ad (Z T) AR) (Z T) (qS Bs (T.map Jw)):=by
      (have e:GA T k=T.map Jw:=by unfold GA;rw[lY lc,mN lc,mQ]);rw[e]at d;exact d
     clear FO d;go_wp2_with (at_builtin;refine mE _ rfl (.tmp 33) (.tmp 37) _ rfl (w.heap.size+1) 206 i0 _ 3 32 underlying200 HH FF HK HA rfl lc (U ad (Z T) AR) (Z T) (qS Bs (T.map Jw)) rfl (mg B _) ⟨wr.heap.size,0,Y⟩ 1 1 (Bs (Ff s)) rfl rfl (mz (mG wr _)) (by simp[Value.oneCell',Bs]) lc lw lc li (wr.heap.size+1) ln ?_;intro g1 HY M HD B2 EY FA)
     have HP:=(j.alloc _).grown B2 (λq hq=>j3 (by have:=(B.lt q hq).1;omega));clear B2 EY FA;go_wp2;go_ret;rw[HC.o];refine⟨_,rfl,?_,HP⟩;simpa using HD
structure Cs(w:jH)(b:Nat)(mv:jR)(ms:kN Bb)(nx:Nat)(br:Int):Prop where
 zJ:AF w b [mv,X J nx,X J br] 203
 row:kt w 0 206 3 mv (Z ms) (qS Bs ms)
 ap:mv.ownBlock≠V b
 lt:nx<Z ms
 len:Z ms<=1000
def Cs.C{w w'}{a}{j nx':Nat}{d br'}(h:Cs w b z a j d)(k:Ac [b] w w')(f:AF w' b [z,X J nx',X J br'] 203)(e:nx'<Z a):Cs w' b z a nx' br':=
 ⟨f,Ag h.row k (λi g c=>by simp at c;subst c;exact h.ap g),h.ap,e,h.len⟩
def Cs.zH{a}(h:Cs w b z a n I)(k:Ac [] w v):Cs v b z a n I:=
 ⟨h.zJ.C k,Ad h.row k,h.ap,h.lt,h.len⟩
def Cs.cells{a}(h:Cs w b z a n I):∃g e,z=U (V ⟨g,0,Y⟩) (Z a) e/\jY w ⟨b,0,Y⟩=V z/\jY w ⟨b,1,Y⟩=V (X J n)/\jY w ⟨b,2,Y⟩=V (X J I)/\
  ∀j d,jY w ⟨g,j*3,Y⟩=V (X J a[j].b)/\jY w ⟨g,j*3+1,Y⟩=V (X J a[j].c)/\jY w ⟨g,j*3+2,Y⟩=V (O a[j].qJ):=by
 obtain⟨g,e,m,_,f⟩:=Az h.row (λc _=>GR c) n h.lt;refine⟨g,e,m,h.zJ.D 0,h.zJ.D 1,h.zJ.D 2,λj d=>?_⟩;have k:=f j d 0 lc;have l:=f j d 1 lc;have i:=f j d 2 lc;exact⟨k,l,i⟩
set_option maxRecDepth 512
theorem JP(b j c a k w)(h:Cs w b j c a k)(m)(d:c[a]'h.lt=m):rE rF 161 #[jj (V ⟨b,0,Y⟩)] w λe l=>e=j1 (X J m.c)/\Ac [] w l:=by
 obtain⟨g,s,rfl,r,q,_,f⟩:=h.cells;obtain⟨n,o,i⟩:=f a h.lt;rw[d]at o;have p:(a:Int)<(Z c:Int):=by have:=h.lt;omega
 clear n i f d h;go_enter func161,ntmps161;go_wp2
 go_quiet (fail)
 go_wp2;go_ret;exact⟨rfl,(kR _ _).drewN _⟩
theorem FM(b c a f i p w)(h:Cs w b c a f i):rE rF 160 #[jj (V ⟨b,0,Y⟩),X J p] w λe j=>e=j1 (kx K)/\Cs j b c a f p/\Ac [b] w j:=by
 have k:=h.zJ.D 2;have m:=h.zJ.qI 2;simp at k;have l:=h;have d:jV (Cs w b c a f i):=h;clear h l;go_enter func160,ntmps160;go_wp2;go_ret;have g:Ac [b] w (w.setCell ⟨b,2,Y⟩ (X J p)):=(kR _ _).setCell ln _;exact⟨rfl,d.o.C g (d.o.zJ.set 2 _) d.o.lt,g⟩
def BZ(m:Bb)(t:bN):rD:=m.b==5&&(m.qJ.toList==t.toList)
set_option maxRecDepth 100000
theorem Us(b s d a p)(t:bN)(w)(h:Cs w b s d a p)(m)(k:d[a]'h.lt=m):rE rF 159 #[jj (V ⟨b,0,Y⟩),O t] w λe c=>e=j1 (kx (BZ m t))/\Ac [] w c:=by
 obtain⟨g,r,rfl,q,o,_,n⟩:=h.cells;obtain⟨l,i,j⟩:=n a h.lt;rw[k]at l i j;have u:(a:Int)<(Z d:Int):=by have:=h.lt;omega
 have y:=rJ a
 clear n k h;have z:=World.new_ne w _ q;have A:=World.new_ne w _ o;have B:=World.new_ne w _ l;have v:=World.new_ne w _ i;have x:=World.new_ne w _ j;go_enter func159,ntmps159;go_wp2_with fail
 go_region_held3 (λc=>jY c ⟨b,0,Y⟩=V (U (V ⟨g,0,Y⟩) (Z d) r)/\jY c ⟨b,1,Y⟩=V (X J a)/\jY c ⟨g,a*3,Y⟩=V (X J m.b)/\jY c ⟨g,a*3+1,Y⟩=V (X J m.c)/\jY c ⟨g,a*3+2,Y⟩=V (O m.qJ)) (go_keep) (fail)
 cases hk:(m.b==5)with
 |true=>
  have f:jV (BZ m t=(m.qJ.toList==t.toList)):=by show _=_;simp[BZ,hk]
  go_wp2;all_goals
   go_ret;refine⟨Bu ?_,?_⟩
   .rw[f.o]
   .repeat (first|refine Ac.drew ?_|refine Ac.setCell ?_ ln _|refine Ac.alloc ?_ _|refine Ac.drewN ?_ _)
    exact kR _ _
 |false=>
  have f:jV (BZ m t=K):=by show _=_;simp[BZ,hk]
  go_wp2;all_goals
   go_ret;refine⟨Bu ?_,?_⟩
   .rw[f.o]
   .repeat (first|refine Ac.drew ?_|refine Ac.setCell ?_ ln _|refine Ac.alloc ?_ _|refine Ac.drewN ?_ _)
    exact kR _ _
set_option maxRecDepth 512
theorem Hd(b o f c l t w)(h:Cs w b o f c l)(m)(s:f[c]'h.lt=m)(p:BZ m t=T6->c+1<Z f):rE rF 162 #[jj (V ⟨b,0,Y⟩),O t] w λe q=>e=j1 (kx (BZ m t))/\Cs q b o f (if BZ m t then c+1 else c) l/\Ac [b] w q:=by
 have d:=Ab (Us b o f c l t w h m s);have j:=Ab h;have B:=h.len;have y:=h.lt;clear s h;have A:∀(x:rD) (w:jH),(Op.unary .not (kx x)).run rF w=.ok (kx (!x)) w:=λ_ _=>rfl
 cases hs:BZ m t with
 |true=>
  have u:=Ab (p hs);rw[hs]at d;clear hs p;simp only[ro];go_enter func162,ntmps162;go_wp2_with fail
  refine d.G ?_;rintro e k ⟨rfl,a⟩;have g:=j.zH a;have i:=Ab g;have v:=g.zJ.D 1;have z:=g.zJ.qI 1;simp at v;have n:=a.G (N:=[b]) ln;clear g a d j;go_wp2;go_ret;have r:Ac [b] k (k.setCell ⟨b,1,Y⟩ (X J ((c:Int)+1))):=(kR _ _).setCell ln _;exact⟨rfl,i.C r (i.zJ.set 1 _) u,n.H r⟩
 |false=>
  rw[hs]at d;clear hs p;simp only[ma,rm];go_enter func162,ntmps162;go_wp2_with fail
  refine d.G ?_;rintro e k ⟨rfl,a⟩;have i:=Ab (j.zH a);have n:=a.G (N:=[b]) ln;clear a d j;go_wp2;go_ret;exact⟨rfl,i,n⟩
theorem OE(b g c a f t w)(h:Cs w b g c a f)(m)(j:c[a]'h.lt=m)(r:BZ m t=T6->a+1<Z c):rE rF 163 #[jj (V ⟨b,0,Y⟩),O t] w λe n=>e=j1 (kx (BZ m t))/\Cs n b g c (if BZ m t then a+1 else a) (if BZ m t then f else m.c)/\Ac [b] w n:=by
 have i:=Ab (Hd b g c a f t w h m j r);have v:jV (∀h:a<Z c,c[a]=m):=λ_=>j
 clear j r h;cases hs:BZ m t with
 |true=>
  rw[hs]at i;have z:=Ab hs;clear hs;go_enter func163,ntmps163;go_wp2_with fail
  refine i.G ?_;rintro e s ⟨rfl,d,l⟩;have k:=Ab d;clear d;go_wp2;go_ret;exact⟨rfl,k,l⟩
 |false=>
  rw[hs]at i;clear hs;go_enter func163,ntmps163;go_wp2_with fail
  refine i.G ?_;rintro e s ⟨rfl,d,l⟩;simp only[ma,rm]at d|-;go_wp2_with fail
  refine(JP b g c a f _ d m (v _)).G ?_;rintro e A ⟨rfl,p⟩;have o:=d.zH p;go_wp2_with fail
  refine(FM b g c a f m.c _ o).G ?_;rintro e y ⟨rfl,q,u⟩;have k:=Ab q;have x:=(l.H (p.G ln)).H u;clear d o q;go_wp2;go_ret;exact⟨rfl,k,x⟩
def Je(s:bN):rD:=kG s.toList [97]
theorem NW(s:bN)(w):rE rF 144 #[O s] w λe a=>e=j1 (kx (Je s))/\a=w:=by
 go_wp2;all_goals go_ret
 all_goals exact⟨rfl,rfl⟩
def Q6:bN:=⟨#[48]⟩
def Mj:Nat->bN->bN
 |0,s=>s
 |k+1,s=>if s.size<3 then Mj k (Q6++s)else s
def AE(s:bN):bN:=if Je s then Mj 3 s else s
set_option maxRecDepth 100000
theorem V6(s:bN)(w):rE rF 217 #[O s] w λe b=>e=j1 (O (AE s))/\b=w:=by
 have f:=NW s w;by_cases d:Je s=T6
 .rw[d]at f;have c:AE s=Mj 3 s:=by unfold AE;simp[d]
  rw[c];generalize hTe:Mj 3 s=T;have j:=Ab hTe;clear hTe c d;go_enter func217,ntmps217;go_wp2_with (go_at_call 144;refine f.G ?_;rintro e b ⟨rfl,rfl⟩)
  rename_i b _ _
  go_loopg [0] 3 (λgk o wr=>∃(t:bN),o=O t/\jV (Mj gk t=T)/\3<=t.size+gk/\wr=b)
  case atStart=>exact⟨s,rfl,j,lc,rfl⟩
  case round=>
   obtain⟨t,rfl,g,m,rfl⟩:=hrel;by_cases i:t.size<3
   ·have l:(t.size:Int)<3:=lc;go_wp2;(have n:(Q6++t).size=t.size+1:=by rw[mj];show 1+t.size=_;omega);obtain⟨k,rfl⟩:∃k,gk=k+1:=⟨gk-1,lc⟩;have a:=Aa g;rw[Mj,mo i]at a
    go_roundg k
    case measure=>omega
    case rel=>exact⟨Q6++t,rfl,a,lc,rfl⟩
   ·have l:¬(t.size:Int)<3:=lc;have c:jV (t=T):=by
     show t=T;have a:=Aa g;cases gk with
     |zero=>exact a
     |succ k=>rw[Mj,mm i]at a;exact a
    go_wp2;go_ret;exact⟨by rw[<-Aa c];rfl,rfl⟩
 .have h:Je s=K:=by simpa using d
  rw[h]at f;go_enter func217,ntmps217;go_wp2_with (go_at_call 144;refine f.G ?_;rintro e b ⟨rfl,rfl⟩)
  all_goals go_ret
  all_goals refine⟨?_,rfl⟩
  all_goals simp[AE,h]
def fP:kN rC->rD
 |[]=>K
 |[c]=>decide (48<=c.toNat/\c.toNat<=57)
 |[c,_]=>decide (49<=c.toNat/\c.toNat<=57)
 |[c,_,_]=>decide (49<=c.toNat/\c.toNat<=57)
 |_=>K
def D9(s:bN):bN:=if s.size=0 then s else if Je s then(if fP s.toList then Mj 3 s else⟨#[0]⟩++s)else s
def Ja:kN rC->kN rC
 |[]=>[]
 |c::r=>if c.toNat<97 then(if fP (c::r)then kB (3-Z (c::r)) 48++(c::r)else 0::c::r)else c::r
def Db(a b:bN):(a++b).toList=a.toList++b.toList:=by
 rw[mL,mL,mL,qk,Array.toList_append]
def Bi(a:bN):a.size=Z a.toList:=by
 rw[mL];rfl
def toList_inj{a b:bN}(h:a.toList=b.toList):a=b:=by
 rw[mL,mL]at h;exact ByteArray.ext (Array.toList_inj.1 h)
def QO:Q6.toList=[48]:=by rw[mL];rfl
def M7:∀k s,s.size<=3->3<=s.size+k->(Mj k s).toList=kB (3-s.size) 48++s.toList
 |0,s,h,hk=>by
  rw[show 3-s.size=0 by omega];rfl
 |k+1,s,h,hk=>by
  rw[Mj];split
  .rename_i b;(have a:(Q6++s).size=s.size+1:=lx);rw[M7 k _ lc lc,a,Db,QO,show 3-s.size=(3-(s.size+1))+1 by omega,List.replicate_succ'];simp
  .exact li
def Fp(c)(r:kN rC):kG (c::r) [97]=decide (c.toNat<97):=by
 have e:kG r []=K:=by cases r<;>rfl
 simp only[kG,e];by_cases h:c.toNat<97
 .have:c<97:=h;simp[h,this]
 .have:¬c<97:=h;simp[h,this]
def PB(s):(D9 s).toList=Ja s.toList:=by
 unfold D9 Je;cases hs:s.toList with
 |nil=>
  have:s.size=0:=by rw[Bi,hs];rfl
  rw[mo this,hs];rfl
 |cons c r=>
  have a:s.size=Z (c::r):=by rw[Bi,hs]
  rw[mm (by rw[a];simp),Fp];unfold Ja;by_cases h:c.toNat<97
  .simp only[h,decide_true,ro];cases ho:fP (c::r)with
   |true=>
    simp only[ro];have b:Z (c::r)<=3:=by
     match r,ho with
     |[],_=>simp
     |[_],_=>simp
     |[_,_],_=>simp
     |_::_::_::_,ho=>simp[fP]at ho
    rw[M7 3 s lc lc,hs,a]
   |false=>
    simp;rw[Db,hs];exact ln
  .simp only[h,pX,ma,rm];exact hs
def Ft{l}(h:fP l=T6):(∃c,l=[c]/\48<=c.toNat/\c.toNat<=57)\/(∃c d,l=[c,d]/\49<=c.toNat/\c.toNat<=57)\/(∃c d e,l=[c,d,e]/\49<=c.toNat/\c.toNat<=57):=by
 match l,h with
 |[],h=>simp[fP]at h
 |[c],h=>exact j2 ⟨c,rfl,by simpa[fP] using h⟩
 |[c,d],h=>exact j3 (j2 ⟨c,d,rfl,by simpa[fP] using h⟩)
 |[c,d,e],h=>exact j3 (j3 ⟨c,d,e,rfl,by simpa[fP] using h⟩)
 |_::_::_::_::_,h=>simp[fP]at h
def N7(l:kN rC):(l=[]/\Ja l=[])\/(∃c r,l=c::r/\97<=c.toNat/\Ja l=c::r)\/(∃c r,l=c::r/\Ja l=0::c::r)\/
  (∃c,l=[c]/\48<=c.toNat/\c.toNat<=57/\Ja l=[48,48,c])\/(∃c d,l=[c,d]/\49<=c.toNat/\c.toNat<=57/\Ja l=[48,c,d])\/(∃c d e,l=[c,d,e]/\49<=c.toNat/\c.toNat<=57/\Ja l=[c,d,e]):=by
 cases l with
 |nil=>exact j2 ⟨rfl,rfl⟩
 |cons c r=>
  rw[show Ja _=if c.toNat<97 then(if fP _ then kB _ 48++(c::r)else 0::c::r)else c::r from rfl]
  by_cases h:c.toNat<97
  .rw[mo h];cases ho:fP (c::r)with
   |true=>
    refine j3 (j3 (j3 ?_));rcases Ft ho with⟨f,e,a,b⟩|⟨f,d,e,a,b⟩|⟨f,d,g,e,a,b⟩
    .exact qr
    .rw[e];exact j3 (j2 ⟨f,d,rfl,a,b,rfl⟩)
    .rw[e];exact j3 (j3 ⟨f,d,g,rfl,a,b,rfl⟩)
   |false=>
    exact ln
  .rw[mm h];exact j3 (j2 ⟨c,r,rfl,lc,rfl⟩)
def YZ{a b}(h:Ja a=Ja b):a=b:=by
 have z:(48:rC).toNat=48:=rfl;have o:(0:rC).toNat=0:=rfl;rcases N7 a with⟨rfl,e⟩|⟨c,r,rfl,j,e⟩|⟨c,r,rfl,e⟩|⟨c,rfl,j,m,e⟩|⟨c,d,rfl,j,m,e⟩|⟨c,d,f,rfl,j,m,e⟩<;>
  rcases N7 b with⟨rfl,g⟩|⟨i,n,rfl,k,g⟩|⟨i,n,rfl,g⟩|⟨i,rfl,k,l,g⟩|⟨i,p,rfl,k,l,g⟩|⟨i,p,s,rfl,k,l,g⟩<;>
  rw[e]at h<;>(try rw[g]at h)<;>simp at h|-
 all_goals first
  |exact h
  |exact h.2
  |exact h.2.2
  |exact qr
  |(exfalso;have q:=rk UInt8.toNat h.2.1;clear e g;omega)
def Zv(h:D9 s=D9 t):s=t:=
 toList_inj (YZ (by rw[<-PB,<-PB,h]))
def I3(t:bN)(h):∃r,t.toList=t[0]::r/\Z t.toList=t.size:=by
 rw[mL];obtain⟨⟨l⟩⟩:=t;cases l with
 |nil=>exact rl h (by show¬(0<0);omega)
 |cons c r=>exact⟨r,rfl,rfl⟩
def ZE(h)(c:97<=t[0].toNat):AE t=D9 t:=by
 obtain⟨r,a,d⟩:=I3 t h;have b:Je t=K:=by
  unfold Je;rw[a,Fp];simp;omega
 unfold AE D9;exact qr
def cP(h)(i:48<=t[0].toNat)(f:t[0].toNat<=57)(j:t.size<=3)(g:t[0].toNat=48->t.size=1):AE t=D9 t:=by
 obtain⟨r,b,a⟩:=I3 t h;have e:Je t=T6:=by
  unfold Je;rw[b,Fp];simp;omega
 have d:fP t.toList=T6:=by
  rw[b]at a|-;match r,a with
  |[],_=>simp[fP];omega
  |[_],a=>simp at a;simp[fP];omega
  |[_,_],a=>simp at a;simp[fP];omega
  |_::_::_::_,a=>simp at a;omega
 unfold AE D9;rw[e,d,mm (show¬t.size=0 by omega)];simp
structure AY where
 v:Int
 s:bN
def Ar(t:AY):kN jR:=[X kw t.v,O t.s]
def AZ:AY:=⟨0,ky⟩
theorem Pw(b B c a t w)(h:Cs w b B c a t)(m)(P:c[a]'h.lt=m)(A:(m.b==2)=T6\/(m.b==2)=K/\(m.b==3)=T6)(T:a+1<Z c):rE rF 193 #[jj (V ⟨b,0,Y⟩)] w λe d=>e=j1 (.tuple #[ku (Za (Ar ⟨0,AE m.qJ⟩)),kx T6])/\Cs d b B c (a+1) t/\Ac [b] w d:=by
 have HN:=Ab T;clear T;have HM:jV (∀h:a<Z c,c[a]=m):=λ_=>P
 have W:=h.lt;have FO:(a:Int)<(Z c:Int):=lc
 have FW:=rJ a
 have hl:=h.len;have B9:=h.zJ.lt;have E:∀k,B.ownBlock=V k->k<w.heap.size:=λk hk=>(h.row.lt k hk).2
 have u:=h.zH ((kR [] w).alloc (Y6 #[X kw 0,O ⟨#[]⟩] 215));have q:=kS w [X kw 0,O ⟨#[]⟩] 215;have x:=(kR [b] w).alloc (Y6 #[X kw 0,O ⟨#[]⟩] 215);clear P h;go_enter func193,ntmps193;go_wp2_with fail
 generalize w.alloc (Y6 #[X kw 0,O ⟨#[]⟩] 215)=w1 at u q x|-;obtain⟨f,z⟩:=kQ w.heap.size;rw[z]at q B9 E|-;have N:=Ab z;clear z;obtain⟨g,D,rfl,G,M,b2,L⟩:=u.cells;have FB:g<f:=E g rfl;clear E;obtain⟨C,y,v⟩:=L a W;rw[(Aa HM) W]at C y v;clear L b2;have n0:=World.new_ne w1 _ G;have n1:=World.new_ne w1 _ M;have n2:=World.new_ne w1 _ C;have n3:=World.new_ne w1 _ y;have n4:=World.new_ne w1 _ v;have HH:=Ab u;have n:=Ab q;clear u q
 go_region_held3 (λd=>jY d ⟨b,0,Y⟩=V (U (V ⟨g,0,Y⟩) (Z c) D)/\jY d ⟨b,1,Y⟩=V (X J a)/\jY d ⟨g,a*3,Y⟩=V (X J m.b)/\jY d ⟨g,a*3+1,Y⟩=V (X J m.c)/\jY d ⟨g,a*3+2,Y⟩=V (O m.qJ)) (go_keep) (fail)
 rename_i CL;clear CL n0 n1 n2 n3 n4 G M C y v;have AR:=n.lt;have j:=HH.zH (((kR [] w1).alloc (Y6 #[X J m.b,X J m.c,O m.qJ] 206)).drew);have l:=(kS w1 [X J m.b,X J m.c,O m.qJ] 206).drew;have i:=(n.alloc (Y6 #[X J m.b,X J m.c,O m.qJ] 206)).drew;have S:=(x.alloc (Y6 #[X J m.b,X J m.c,O m.qJ] 206)).drew;have I:(w1.alloc (Y6 #[X J m.b,X J m.c,O m.qJ] 206)).drew.heap.size=w1.heap.size+1:=ln
 clear HH n x;generalize(w1.alloc (Y6 #[X J m.b,X J m.c,O m.qJ] 206)).drew=w2 at j l i S I|-;generalize w1.heap.size=N4 at l AR I|-;obtain⟨x0,x1,x2⟩:=l.c3;obtain⟨y0,y1⟩:=i.c2;have yf:=i.qI;have z1:=j.zJ.D 1;have zf:=j.zJ.qI 1;simp at x0 x1 x2 y0 y1 z1;have Go:=l.lt;have FL:=j.zJ.lt;have Ha:=i.lt;have za:=λo=>(j.zJ.alloc o).D 1
 have FF:=λo=>(j.zJ.alloc o).qI 1
 have BT:=λo=>(i.alloc o).D 0
 have B0:=λo=>(i.alloc o).D 1
 have HD:=λo=>(i.alloc o).qI
 simp at za BT B0;have q1:¬b=f:=lc
 have q2:¬f=b:=lc
 have q3:¬b=w2.heap.size:=lc
 have q4:¬w2.heap.size=b:=lc
 have q5:¬f=w2.heap.size:=lc
 have q6:¬w2.heap.size=f:=lc
 have R:=Ab j;have n:=Ab i;clear j l i;have A1:jV (∀r H Q:jR,r=X J ((a:Int)+1)->Cs ((((w2.alloc (Y6 #[X kw 0,O (AE m.qJ)] 215)).setCell ⟨b,1,Y⟩ r).setCell ⟨f,0,Y⟩ H).setCell ⟨f,1,Y⟩ Q) b (U (V ⟨g,0,Y⟩) (Z c) D) c (a+1) t):=by
  intro r H Q hv;have k1:Ac [b] w2 ((((w2.alloc (Y6 #[X kw 0,O (AE m.qJ)] 215)).setCell ⟨b,1,Y⟩ r))):=((kR [b] w2).alloc _).setCell ln _;have p:=R.C (nx':=a+1) (br':=t) k1 (by rw[hv];exact(R.zJ.alloc _).set 1 _) HN;have F:(U (V ⟨g,0,Y⟩) (Z c) D).ownBlock≠V f:=su
  exact⟨(p.zJ.bW _ li _).bW _ li _,Ah (Ah p.row F _) F _,p.ap,p.lt,p.len⟩
 have AO:jV (∀s w,rE rF 217 #[O s] w λe d=>e=j1 (O (AE s))/\d=w):=V6;rcases A with A|⟨A,e3⟩;all_goals
  go_wp2_with (go_at_call 217;refine(AO _ _).G ?_;rintro e d ⟨rfl,rfl⟩)
  refine mF (As rfl rfl ((((n.alloc _).bW ⟨b,1,Y⟩ li _).set 0 _).set 1 _) underlying215 rfl lo) rfl ⟨rfl,?_,?_⟩
  .exact A1.o _ _ _ rfl
  .refine Ac.setCell (Ac.setCell (Ac.setCell (S.alloc _) ln _) (by right;have:=Aa N;simp;omega) _) (by right;have:=Aa N;simp;omega) _
theorem Zc(b z d a T w)(h:Cs w b z d a T)(m)(Q:d[a]'h.lt=m)(e2:(m.b==2)=K)(e3:(m.b==3)=K)(e4:(m.b==4)=K):rE rF 193 #[jj (V ⟨b,0,Y⟩)] w λe j=>e=j1 (.tuple #[ku (Za (Ar AZ)),kx K])/\Cs j b z d a m.c/\Ac [b] w j:=by
 have HM:jV (∀h:a<Z d,d[a]=m):=λ_=>Q
 have A0:=h.lt;have FL:(a:Int)<(Z d:Int):=lc
 have FP:=rJ a
 have hl:=h.len;have EM:=h.zJ.lt;have C:∀k,z.ownBlock=V k->k<w.heap.size:=λk hk=>(h.row.lt k hk).2
 have s:=h.zH ((kR [] w).alloc (Y6 #[X kw 0,O ⟨#[]⟩] 215));have q:=kS w [X kw 0,O ⟨#[]⟩] 215;have v:=(kR [b] w).alloc (Y6 #[X kw 0,O ⟨#[]⟩] 215);clear Q h;go_enter func193,ntmps193;go_wp2_with fail
 generalize w.alloc (Y6 #[X kw 0,O ⟨#[]⟩] 215)=w1 at s q v|-;obtain⟨f,y⟩:=kQ w.heap.size;rw[y]at q EM C|-;have N:=Ab y;clear y;obtain⟨g,AR,rfl,E,M,b2,I⟩:=s.cells;have FC:g<f:=C g rfl;clear C;obtain⟨A,x,t⟩:=I a A0;rw[(Aa HM) A0]at A x t;clear I b2;have n0:=World.new_ne w1 _ E;have n1:=World.new_ne w1 _ M;have n2:=World.new_ne w1 _ A;have n3:=World.new_ne w1 _ x;have n4:=World.new_ne w1 _ t;have HH:=Ab s;have n:=Ab q;clear s q
 go_region_held3 (λj=>jY j ⟨b,0,Y⟩=V (U (V ⟨g,0,Y⟩) (Z d) AR)/\jY j ⟨b,1,Y⟩=V (X J a)/\jY j ⟨g,a*3,Y⟩=V (X J m.b)/\jY j ⟨g,a*3+1,Y⟩=V (X J m.c)/\jY j ⟨g,a*3+2,Y⟩=V (O m.qJ)) (go_keep) (fail)
 rename_i ES;clear ES n0 n1 n2 n3 n4 E M A x t;have B0:=n.lt;have i:=HH.zH (((kR [] w1).alloc (Y6 #[X J m.b,X J m.c,O m.qJ] 206)).drew);have l:=(kS w1 [X J m.b,X J m.c,O m.qJ] 206).drew;have c:=(n.alloc (Y6 #[X J m.b,X J m.c,O m.qJ] 206)).drew;have B:=(v.alloc (Y6 #[X J m.b,X J m.c,O m.qJ] 206)).drew;have F:(w1.alloc (Y6 #[X J m.b,X J m.c,O m.qJ] 206)).drew.heap.size=w1.heap.size+1:=ln
 clear HH n v;generalize(w1.alloc (Y6 #[X J m.b,X J m.c,O m.qJ] 206)).drew=w2 at i l c B F|-;generalize w1.heap.size=N4 at l B0 F|-;obtain⟨L,x1,H⟩:=l.c3;obtain⟨y0,P⟩:=c.c2;have yf:=c.qI;have z1:=i.zJ.D 1;have zf:=i.zJ.qI 1;simp at L x1 H y0 P z1;have FT:=l.lt;have FF:=i.zJ.lt;have FW:=c.lt;have za:=λo=>(i.zJ.alloc o).D 1
 have BT:=λo=>(i.zJ.alloc o).qI 1
 have R:=λo=>(c.alloc o).D 0
 have S:=λo=>(c.alloc o).D 1
 have EX:=λo=>(c.alloc o).qI
 simp at za R S;have q1:¬b=f:=lc
 have q2:¬f=b:=lc
 have q3:¬b=w2.heap.size:=lc
 have q4:¬w2.heap.size=b:=lc
 have q5:¬f=w2.heap.size:=lc
 have q6:¬w2.heap.size=f:=lc
 have AO:=Ab i;have n:=Ab c;clear i l c;go_wp2_with fail
 have G:=AO.zH ((kR [] w2).alloc (Y6 #[X kw 0,O ⟨#[]⟩] 215));refine(FM b _ d a T m.c _ G).G ?_;rintro e w4 ⟨rfl,W,u⟩;have r:=(n.alloc _).C u li;have E0:=(B.alloc _).H u;obtain⟨v0,v1⟩:=r.c2;have vf:=r.qI;simp at v0 v1;have CL:=Ab W;clear G W u L x1 H y0 P yf z1 zf za BT R S EX AO n B;go_wp2;refine mF (As rfl rfl ((r.set 0 _).set 1 _) underlying215 rfl lo) rfl ⟨rfl,?_,?_⟩
 .have D:(U (V ⟨g,0,Y⟩) (Z d) AR).ownBlock≠V f:=by simp[kE];omega
  have p:=Aa CL;exact⟨(p.zJ.bW _ li _).bW _ li _,Ah (Ah p.row D _) D _,p.ap,p.lt,p.len⟩
 .refine Ac.setCell (Ac.setCell E0 (by right;have:=Aa N;simp;omega) _) (by right;have:=Aa N;simp;omega) _
def DC(s:bN)(pos:Nat)(v:Int):Int:=
 if h:pos<s.size/\1<=(Utf8.decode s pos).2 then have _h1:pos<s.size:=h.1;have _h2:=h.2;DC s (pos+(Utf8.decode s pos).2) (Utf8.decode s pos).1 else v
def MC(v)(h:n<s.size):DC s n v=DC s (n+(Utf8.decode s n).2) (Utf8.decode s n).1:=by
 conv=>lhs;rw[DC]
 rw[dif_pos ⟨h,JB s n h⟩]
def Vc(v)(h:¬n<s.size):DC s n v=v:=by
 rw[DC,dif_neg lc]
theorem cQ(b mv d c A w)(h:Cs w b mv d c A)(m)(F:d[c]'h.lt=m)(e2:(m.b==2)=K)(e3:(m.b==3)=K)(e4:(m.b==4)=T6)(hn:c+1<Z d)(K5:m.qJ.size<=2000):rE rF 193 #[jj (V ⟨b,0,Y⟩)] w λe r=>e=j1 (.tuple #[ku (Za (Ar ⟨DC m.qJ 0 0,ky⟩)),kx T6])/\Cs r b mv d (c+1) A/\Ac [b] w r:=by
 have HN:=Ab hn;clear hn;have HM:jV (∀h:c<Z d,d[c]=m):=λ_=>F
 have HK:=h.lt;have z:(c:Int)<Z d:=lc
 have KK:=rJ c
 have hl:=h.len;have H9:=h.zJ.lt;have DT:=λk hk=>(h.row.lt k hk).2
 have h1:=h.zH ((kR [] w).alloc (Y6 #[X kw 0,O ⟨#[]⟩] 215));have I:=kS w [X kw 0,O ⟨#[]⟩] 215;have A2:=(kR [b] w).alloc (Y6 #[X kw 0,O ⟨#[]⟩] 215);clear F h;go_enter func193,ntmps193;go_wp2_with fail
 generalize w.alloc (Y6 #[X kw 0,O ⟨#[]⟩] 215)=w1 at h1 I A2|-;obtain⟨f,B2⟩:=kQ w.heap.size;rw[B2]at I H9 DT|-;have H0:=Ab B2;clear B2;obtain⟨g,x,rfl,b0,b1,b2,hc⟩:=h1.cells;have KB:=DT g rfl;clear DT;obtain⟨c0,c1,c2⟩:=hc c HK;rw[(Aa HM) HK]at c0 c1 c2;clear hc b2;have n0:=World.new_ne w1 _ b0;have n1:=World.new_ne w1 _ b1;have n2:=World.new_ne w1 _ c0;have n3:=World.new_ne w1 _ c1;have n4:=World.new_ne w1 _ c2;have HH:=Ab h1;have p:=Ab I;clear h1 I
 go_region_held3 (λr=>jY r ⟨b,0,Y⟩=V (U (V ⟨g,0,Y⟩) (Z d) x)/\jY r ⟨b,1,Y⟩=V (X J c)/\jY r ⟨g,c*3,Y⟩=V (X J m.b)/\jY r ⟨g,c*3+1,Y⟩=V (X J m.c)/\jY r ⟨g,c*3+2,Y⟩=V (O m.qJ)) (go_keep) (fail)
 rename_i IA;clear IA n0 n1 n2 n3 n4 b0 b1 c0 c1 c2;have HW:=p.lt;have q:=HH.zH (((kR [] w1).alloc (Y6 #[X J m.b,X J m.c,O m.qJ] 206)).drew);have t:=(kS w1 [X J m.b,X J m.c,O m.qJ] 206).drew;have l:=(p.alloc (Y6 #[X J m.b,X J m.c,O m.qJ] 206)).drew;have C:=(A2.alloc (Y6 #[X J m.b,X J m.c,O m.qJ] 206)).drew;have y:(w1.alloc (Y6 #[X J m.b,X J m.c,O m.qJ] 206)).drew.heap.size=w1.heap.size+1:=ln
 clear HH p A2;generalize(w1.alloc (Y6 #[X J m.b,X J m.c,O m.qJ] 206)).drew=w2 at q t l C y|-;generalize w1.heap.size=N4 at t HW y|-;obtain⟨L,x1,x2⟩:=t.c3;obtain⟨W,M⟩:=l.c2;have yf:=l.qI;have S:=q.zJ.D 1;have zf:=q.zJ.qI 1;simp at L x1 x2 W M S;have H3:=t.lt;have HX:=q.zJ.lt;have H4:=l.lt;have za:=λo=>(q.zJ.alloc o).D 1
 have HU:=λo=>(q.zJ.alloc o).qI 1
 have FL:=λo=>(l.alloc o).D 0
 have FP:=λo=>(l.alloc o).D 1
 have IS:=λo=>(l.alloc o).qI
 simp at za FL FP;have q1:¬b=f:=lc
 have q2:¬f=b:=lc
 have q3:¬b=w2.heap.size:=lc
 have q4:¬w2.heap.size=b:=lc
 have q5:¬f=w2.heap.size:=lc
 have q6:¬w2.heap.size=f:=lc
 have HA:=Ab q;have p:=Ab l;clear q t l;go_wp2;have EK:(w2.alloc (Y6 #[X kw 0,O ⟨#[]⟩] 215)).heap.size=N4+1+1:=by simp[y]
 have B0:Ac [b] w ((w2.alloc (Y6 #[X kw 0,O ⟨#[]⟩] 215)).iter m.qJ 0):=(C.alloc _).alloc _;have h3:Cs ((w2.alloc (Y6 #[X kw 0,O ⟨#[]⟩] 215)).iter m.qJ 0) b _ d c A:=HA.zH (((kR [] w2).alloc _).alloc _);have Bx:AF ((w2.alloc (Y6 #[X kw 0,O ⟨#[]⟩] 215)).iter m.qJ 0) f _ 215:=(p.alloc _).alloc _;have A0:AF ((w2.alloc (Y6 #[X kw 0,O ⟨#[]⟩] 215)).iter m.qJ 0) (N4+1) [X kw 0,O ⟨#[]⟩] 215:=by rw[<-y];exact(kS w2 _ 215).alloc _
 have Q:=World.iter_heap (w2.alloc (Y6 #[X kw 0,O ⟨#[]⟩] 215)) m.qJ 0;rw[EK]at Q;have A1:N4+1+1<((w2.alloc (Y6 #[X kw 0,O ⟨#[]⟩] 215)).iter m.qJ 0).heap.size:=by simp[World.iter,y]
 have K7:w.heap.size<=f:=by have:=Aa H0;omega
 clear L x1 x2 W M yf S zf za HU FL FP IS HA p C EK q1 q2 q3 q4 q5 q6 H3 HX H4 y;generalize(w2.alloc (Y6 #[X kw 0,O ⟨#[]⟩] 215)).iter m.qJ 0=w3 at B0 h3 Bx A0 Q A1|-
 go_loopg [] m.qJ.size (λgk wr=>∃(pos:Nat) (v:Int),gk=m.qJ.size-pos/\pos<=m.qJ.size+4/\jV (DC m.qJ pos v=DC m.qJ 0 0)/\jV (wr.heap[N4+1+1]?=V (.stringIter m.qJ pos))/\jV (Cs wr b (U (V ⟨g,0,Y⟩) (Z d) x) d c A)/\jV (AF wr f [X kw 0,O ⟨#[]⟩] 215)/\jV (AF wr (N4+1) [X kw v,O ⟨#[]⟩] 215)/\Ac [b] w wr/\N4+1+1<wr.heap.size)
 case atStart=>exact⟨0,0,ln,lc,rfl,Q,h3,Bx,A0,B0,A1⟩
 case round=>
  clear Q h3 Bx A0 B0 A1;obtain⟨pos,v,HD,KD,T,R,n,B,HT,hK,hz⟩:=hrel;have HG:=Ab HD;clear HD;by_cases z:pos<m.qJ.size
  .obtain⟨E,a,D⟩:∃E a,Utf8.decode m.qJ pos=(E,a):=⟨_,_,rfl⟩;(have K4:a<=4:=by have:=Xi m.qJ pos;rw[D]at this;exact this);(have KS:1<=a:=by have:=JB m.qJ pos z;rw[D]at this;exact this);have FF:∀u,(Instr.next (jj (V ⟨N4+1+1,0,Y⟩)) T6 u).run rF wr=.ok (.tuple #[kx T6,X J pos,X kw E]) (DG wr (N4+1+1) m.qJ (pos+a)):=by
    intro u;have h:=XV (P:=rF) R u z;rw[D]at h;exact h
   have FO:=Ab (RA (w:=wr) (N:=N4+1+1) (s:=m.qJ) (pos:=pos+a) hz);have BS:=B.C (Ef wr (N4+1+1) m.qJ (pos+a)) li;have G:=HT.C (Ef wr (N4+1+1) m.qJ (pos+a));have H:(U (V ⟨g,0,Y⟩) (Z d) x).ownBlock≠V (N4+1+1):=su;have BT:Cs _ b _ d c A:=
    ⟨n.zJ.C (Ef wr _ m.qJ (pos+a)) li,Ag n.row (Ef wr (N4+1+1) m.qJ _) (λi hi F=>by simp at F;subst F;exact H hi),n.ap,n.lt,n.len⟩
   have C:=hK.trans' (Ef wr (N4+1+1) m.qJ (pos+a)) li;(have FW:N4+1+1<(DG wr (N4+1+1) m.qJ (pos+a)).heap.size:=by rw[J2];exact hz);have H8:jV (DC m.qJ (pos+a) E=DC m.qJ 0 0):=by
    have h:=T.o;rw[MC v z,D]at h;exact h
   clear D R n B HT T hK hz;generalize DG wr (N4+1+1) m.qJ (pos+a)=w4 at FF FO BS G BT C FW;have v0:=G.D 0;have vf:=G.qI 0;simp at v0;have p:=Ab BS;have HZ:=Ab G;have H2:=Ab BT;clear BS G BT;go_wp2_with fail
   go_roundg (m.qJ.size-(pos+a))
   case measure=>exact qu
   case rel=>
    refine⟨pos+a,E,rfl,lc,H8,?_,?_,p.bW _ li _,HZ.set 0 _,C.setCell nc _,li⟩
    .rw[p7 _ _ _ _ ln];exact FO
    .have j:=Aa H2;have JJ:(U (V ⟨g,0,Y⟩) (Z d) x).ownBlock≠V (N4+1):=su;exact⟨j.zJ.bW _ li _,Ah j.row JJ _,j.ap,j.lt,j.len⟩
  ·(have FF:=λu=>XF (P:=rF) R u z);(have HV:jV (v=DC m.qJ 0 0):=by have h:=T.o;rwa [Vc v z]at h);have S:=n.zJ.D 1;have zf:=n.zJ.qI 1;obtain⟨W,M⟩:=B.c2;have yf:=B.qI;obtain⟨L,x1⟩:=HT.c2;simp at S W M L x1;have q1:¬b=f:=lc;have q2:¬f=b:=lc;have q3:¬b=N4+1:=lc;have q4:¬N4+1=b:=lc;have q5:¬f=N4+1:=lc;have q6:¬N4+1=f:=lc;clear T R;go_wp2;have hR:=Aa n;have k1:Ac [b] wr (wr.setCell ⟨b,1,Y⟩ (X J (c+1))):=(kR [b] wr).setCell ln _;have j:=hR.C (nx':=c+1) (br':=A) k1 (hR.zJ.set 1 _) HN;have H:(U (V ⟨g,0,Y⟩) (Z d) x).ownBlock≠V f:=su;refine mF (As rfl rfl (((B.bW _ li _).set 0 _).set 1 _) underlying215 rfl lo) rfl ⟨?_,?_,?_⟩
   .rw[<-HV.o];rfl
   .exact⟨(j.zJ.bW _ li _).bW _ li _,Ah (Ah j.row H _) H _,j.ap,j.lt,j.len⟩
   .exact((hK.H k1).setCell nc _).setCell nc _
structure XT(ms:kN Bb):Prop where
 ends:∀i (h:i<Z ms),(ms[i].b==1)=K->i+1<Z ms
 qJ:∀i (h:i<Z ms),ms[i].qJ.size<=2000
def GX(m:Bb)(nx:Nat):Except Int (AY×Nat):=
 if m.b==2||m.b==3 then .ok (⟨0,AE m.qJ⟩,nx+1)
 else if m.b==4 then .ok (⟨DC m.qJ 0 0,ky⟩,nx+1)
 else .error m.c
def jq(b:Nat)(mv:jR)(ms:kN Bb)(br:Int)(w:jH)(e:Ending)(w':jH):Except Int (AY×Nat)->Prop
 | .ok (t,nx)=>e=j1 (.tuple #[ku (Za (Ar t)),kx T6])/\Cs w' b mv ms nx br/\Ac [b] w w'
 | .error p=>∃nx,e=j1 (.tuple #[ku (Za (Ar AZ)),kx K])/\Cs w' b mv ms nx p/\Ac [b] w w'
def Ph(b g c a i w)(h:Cs w b g c a i)(o:XT c)(m)(f:c[a]'h.lt=m):
  rE rF 193 #[jj (V ⟨b,0,Y⟩)] w λe j=>jq b g c i w e j (GX m a):=by
 have n:(m.b==1)=K->a+1<Z c:=by rw[<-f];exact o.ends a h.lt
 have r:m.qJ.size<=2000:=by rw[<-f];exact o.qJ a h.lt
 have l:∀k:Int,(m.b==k)=T6->k≠1->(m.b==1)=K:=λk p q=>qr
 cases e2:(m.b==2)with
 |true=>
  refine(Pw b g c a i w h m f (j2 e2) (n (l 2 e2 lu))).G ?_;intro e j d;simp only[GX,e2,pA,ro];exact d
 |false=>
  cases e3:(m.b==3)with
  |true=>
   refine(Pw b g c a i w h m f (j3 ⟨e2,e3⟩) (n (l 3 e3 lu))).G ?_;intro e j d;simp only[GX,e3,pY,ro];exact d
  |false=>
   cases e4:(m.b==4)with
   |true=>
    refine(cQ b g c a i w h m f e2 e3 e4 (n (l 4 e4 lu)) r).G ?_;intro e j d;simp only[GX,e2,e3,e4,qp,ma,rm,ro];exact d
   |false=>
    refine(Zc b g c a i w h m f e2 e3 e4).G ?_;intro e j d;simp only[GX,e2,e3,e4,qp,ma,rm];exact⟨a,d⟩
def T7:bN:=⟨#[40]⟩
theorem cZ:T7.toList=[40]:=lo
def Fb(ms:kN Bb)(nx:Nat):rD:=
 match ms[nx]?,ms[nx+1]? with
 |some m,V m'=>m.b==2&&BZ m' T7
 |_,_=>K
theorem U4(b L d a H w)(h:Cs w b L d a H)(C:XT d):rE rF 199 #[jj (V ⟨b,0,Y⟩)] w λe f=>e=j1 (kx (Fb d a))/\Ac [] w f:=by
 obtain⟨g,A,rfl,z,v,_,r⟩:=h.cells;have q:=h.lt;have hl:=h.len;obtain⟨D,_,_⟩:=r a q;obtain⟨m,i⟩:=kQ (d[a]);have l:=C.ends a q;rw[i]at D l;have P:(a:Int)<(Z d:Int):=lc
 have W:=rJ a
 clear h C;cases hk:(m.b==2)with
 |false=>
  have n:jV (Fb d a=K):=by
   show _=_;unfold Fb;rw[mc q,i];split
   .rename_i x _;simp only[lZ]at x;subst x;simp[hk]
   .rfl
  have E:(m.b !=2)=T6:=by simp[bne,hk]
  clear r l i;go_enter func199,ntmps199;go_wp2
  go_quiet (fail)
  go_wp2;go_ret;exact⟨by rw[n.o];rfl,(kR _ _).drewN _⟩
 |true=>
  have u:=l (by have:m.b=2:=(by simpa using hk);rw[this];decide);obtain⟨c,s⟩:=kQ (d[a+1]);obtain⟨p,o,j⟩:=r (a+1) u;rw[s]at p o j;have n:jV (Fb d a=BZ c T7):=by
   show _=_;unfold Fb;rw[mc q,i,mc u,s];simp[hk]
  have E:(m.b !=2)=K:=by simp[bne,hk]
  obtain⟨k,y⟩:=kQ (a+1);have hw:IntKind.i64.wrap ((a:Int)+1)=(k:Int):=by
   rw[oT];omega
  have T:=rJ k
  have Q:(k:Int)<(Z d:Int):=lc
  rw[y]at p o j;clear r l i s u y;go_enter func199,ntmps199;go_wp2
  go_quiet (fail)
  have B:Ac [] w (w.drewN nq):=(kR _ _).drewN _;have M:jY (w.drewN nq) ⟨b,0,Y⟩=V (U (V ⟨g,0,Y⟩) (Z d) A):=z;have N:jY (w.drewN nq) ⟨b,1,Y⟩=V (X J a):=v;have I:jY (w.drewN nq) ⟨g,k*3,Y⟩=V (X J c.b):=p;have F:jY (w.drewN nq) ⟨g,k*3+1,Y⟩=V (X J c.c):=o;have G:jY (w.drewN nq) ⟨g,k*3+2,Y⟩=V (O c.qJ):=j;clear z v D p o j;generalize w.drewN nq=w1 at*;have n0:=World.new_ne w1 _ M;have n1:=World.new_ne w1 _ N;have n2:=World.new_ne w1 _ I;have R:=World.new_ne w1 _ F;have S:=World.new_ne w1 _ G;go_wp2_with fail
  go_region_held3 (λf=>jY f ⟨b,0,Y⟩=V (U (V ⟨g,0,Y⟩) (Z d) A)/\jY f ⟨b,1,Y⟩=V (X J a)/\jY f ⟨g,k*3,Y⟩=V (X J c.b)/\jY f ⟨g,k*3+1,Y⟩=V (X J c.c)/\jY f ⟨g,k*3+2,Y⟩=V (O c.qJ)) (go_keep) (fail)
  cases hs:(c.b==5)with
  |true=>
   (have t:jV (BZ c T7=(c.qJ.toList==T7.toList)):=by show _=_;simp[BZ,hs]);go_wp2;all_goals
    go_ret;refine⟨Bu ?_,?_⟩
    .rw[n.o,t.o,cZ]
    .repeat (first|refine Ac.drew ?_|refine Ac.setCell ?_ ln _|refine Ac.alloc ?_ _|refine Ac.drewN ?_ _)
     exact B
  |false=>
   (have t:jV (BZ c T7=K):=by show _=_;simp[BZ,hs]);go_wp2;all_goals
    go_ret;refine⟨Bu ?_,?_⟩
    .rw[n.o,t.o]
    .repeat (first|refine Ac.drew ?_|refine Ac.setCell ?_ ln _|refine Ac.alloc ?_ _|refine Ac.drewN ?_ _)
     exact B
structure Hx where
 c:Int
 a:bN
 tv:jR
def AV(a:Hx):kN jR:=[X J a.c,O a.a,a.tv]
def Br:Hx:=⟨0,ky,U Y 0 0⟩
structure ei where
 c:Int
 sort:Int
 atom:Hx
 left:AY
 right:AY
def AD(l:ei):kN jR:=[X J l.c,X J l.sort,X J l.atom.c,O l.atom.a,l.atom.tv,X kw l.left.v,O l.left.s,X kw l.right.v,O l.right.s]
def Dk:ei:=⟨0,0,Br,AZ,AZ⟩
def Au(ms:kN Bb)(i:Nat):Bb:=ms.getD i ⟨1,0,ky⟩
def Bv{a}(h):a[i]=Au a i:=by simp[Au,h]
def XT.seen{a}(c:XT a)(h:i<Z a)(t)(b:BZ (Au a i) t=T6):i+1<Z a:=by
 refine c.ends i h ?_;rw[Bv h];unfold BZ at b;exact qr
def Zb(a:kN jR)(k:Z a=9)(g f d c h i e j b):(((((((((a.set 0 g).set 1 f).set 2 d).set 3 c).set 4 h).set 5 i).set 6 e).set 7 j).set 8 b)=[g,f,d,c,h,i,e,j,b]:=by
 match a,k with
 |[a0,a1,a2,a3,a4,a5,a6,a7,a8],_=>rfl
def AF.zK(h:AF w n y T)(l:Z y=9)(f e c b g i d j a):AF (((((((((w.setCell ⟨n,0,Y⟩ f).setCell ⟨n,1,Y⟩ e).setCell ⟨n,2,Y⟩ c).setCell ⟨n,3,Y⟩ b).setCell ⟨n,4,Y⟩ g).setCell ⟨n,5,Y⟩ i).setCell ⟨n,6,Y⟩ d).setCell ⟨n,7,Y⟩ j).setCell ⟨n,8,Y⟩ a) n [f,e,c,b,g,i,d,j,a] T:=by
 have k:=(((((((((h.set 0 f).set 1 e).set 2 c).set 3 b).set 4 g).set 5 i).set 6 d).set 7 j).set 8 a);rw[Zb y l]at k;exact k
def lH:bN:=⟨#[61]⟩
def lF:bN:=⟨#[35]⟩
def lE:bN:=⟨#[60]⟩
def OD(m:Bb):Option Int:=if BZ m lH then V 2 else if BZ m lF then V 3 else if BZ m lE then V 4 else Y
def Mv(ms:kN Bb)(nx:Nat):Except Int (ei×Nat):=
 match GX (Au ms nx) nx with
 | .error p=> .error p
 | .ok (l,n1)=>
  match OD (Au ms n1)with
  |none=> .error (Au ms n1).c
  |some s=>
   match GX (Au ms (n1+1)) (n1+1)with
   | .error p=> .error p
   | .ok (r,n2)=> .ok (⟨(Au ms nx).c,s,Br,l,r⟩,n2)
def Uq{a}{l}(h:Mv a m=.ok (l,n)):l.atom=Br:=by
 unfold Mv at h;split at h
 .cases h
 .split at h
  .cases h
  .split at h
   .cases h
   .simp at h;rw[<-h.1]
def Cs.other{a}(h:Cs w b z a n I){p}(c:p.block≠b)(d:z.ownBlock≠V p.block)(u):Cs (w.setCell p u) b z a n I:=
 ⟨h.zJ.bW _ c _,Ah h.row d _,h.ap,h.lt,h.len⟩
def Cs.zK{d}(h:Cs w b z d n I)(a:m≠b)(c:z.ownBlock≠V m)(k j i f l o g q e):Cs (((((((((w.setCell ⟨m,0,Y⟩ k).setCell ⟨m,1,Y⟩ j).setCell ⟨m,2,Y⟩ i).setCell ⟨m,3,Y⟩ f).setCell ⟨m,4,Y⟩ l).setCell ⟨m,5,Y⟩ o).setCell ⟨m,6,Y⟩ g).setCell ⟨m,7,Y⟩ q).setCell ⟨m,8,Y⟩ e) b z d n I:=
 (((((((((h.other (p:=⟨m,0,Y⟩) a c k).other (p:=⟨m,1,Y⟩) a c j).other (p:=⟨m,2,Y⟩) a c i).other (p:=⟨m,3,Y⟩) a c f).other (p:=⟨m,4,Y⟩) a c l).other (p:=⟨m,5,Y⟩) a c o).other (p:=⟨m,6,Y⟩) a c g).other (p:=⟨m,7,Y⟩) a c q).other (p:=⟨m,8,Y⟩) a c e)
def Ac.zK(h:Ac M v w)(b:n∈M\/v.heap.size<=n)(i f d c j g e l k):Ac M v (((((((((w.setCell ⟨n,0,Y⟩ i).setCell ⟨n,1,Y⟩ f).setCell ⟨n,2,Y⟩ d).setCell ⟨n,3,Y⟩ c).setCell ⟨n,4,Y⟩ j).setCell ⟨n,5,Y⟩ g).setCell ⟨n,6,Y⟩ e).setCell ⟨n,7,Y⟩ l).setCell ⟨n,8,Y⟩ k):=
 (((((((((h.setCell (p:=⟨n,0,Y⟩) b i).setCell (p:=⟨n,1,Y⟩) b f).setCell (p:=⟨n,2,Y⟩) b d).setCell (p:=⟨n,3,Y⟩) b c).setCell (p:=⟨n,4,Y⟩) b j).setCell (p:=⟨n,5,Y⟩) b g).setCell (p:=⟨n,6,Y⟩) b e).setCell (p:=⟨n,7,Y⟩) b l).setCell (p:=⟨n,8,Y⟩) b k)
def ks(b:Nat)(mv:jR)(ms:kN Bb)(br:Int)(w:jH)(e:Ending)(w':jH):Except Int (ei×Nat)->Prop
 | .ok (l,nx)=>e=j1 (.tuple #[ku (Za (AD l)),kx T6])/\Cs w' b mv ms nx br/\Ac [b] w w'
 | .error p=>∃nx l,l.atom=Br/\e=j1 (.tuple #[ku (Za (AD l)),kx K])/\Cs w' b mv ms nx p/\Ac [b] w w'
theorem jk(b g a n m w)(h:Cs w b g a n m)(ok:XT a):rE rF 200 #[jj (V ⟨b,0,Y⟩)] w λe w'=>ks b g a m w e w' (Mv a n):=by
 have HO:=Ab ok;have LD:=h.zJ.lt;have JJ:∀k,g.ownBlock=V k->k<w.heap.size:=λk hk=>(h.row.lt k hk).2
 have h1:=Ab (h.zH ((kR [] w).alloc (Y6 (Za (AD Dk)) 217)));have hN:=Ab (kS w (AD Dk) 217);have HY:=Ab ((kR [b] w).alloc (Y6 (Za (AD Dk)) 217));have IS:(w.alloc (Y6 (Za (AD Dk)) 217)).heap.size=w.heap.size+1:=ln
 clear h ok;go_enter func200,ntmps200;go_wp2_with fail
 change rE _ _ _ (w.alloc (Y6 (Za (AD Dk)) 217)) _;generalize w.alloc (Y6 (Za (AD Dk)) 217)=w1 at h1 hN HY IS|-;obtain⟨N,Jx⟩:=kQ w.heap.size;rw[Jx]at hN LD IS JJ|-;have j:jV (∀k,N<=k->g.ownBlock≠V k):=λk hk e=>by have:=JJ k e;omega
 clear JJ;have W:=Ab Jx;clear Jx;refine(JP b g a n m _ h1 (Au a n) (Bv h1.lt)).G ?_;rintro e w2 ⟨rfl,k2⟩;have h2:=Ab (h1.zH k2);have KD:=Ab (hN.C k2);have K7:=Ab (HY.H (k2.G ln));have LB:N+1<=w2.heap.size:=by have:=k2.size;omega
 clear h1 hN HY IS k2;obtain⟨p,hp⟩:=kQ (Au a n).c;have HP:=Ab hp;rw[hp];clear hp;go_wp2_with fail
 change rE _ _ _ (w2.alloc (Y6 (Za (AD ⟨p,0,Br,AZ,AZ⟩)) 217)) _;have h3:=Ab (h2.zH ((kR [] w2).alloc (Y6 (Za (AD ⟨p,0,Br,AZ,AZ⟩)) 217)));have EM:=Ab (KD.alloc (Y6 (Za (AD ⟨p,0,Br,AZ,AZ⟩)) 217));have CW:=Ab (kS w2 (AD ⟨p,0,Br,AZ,AZ⟩) 217);have FA:=Ab (K7.alloc (Y6 (Za (AD ⟨p,0,Br,AZ,AZ⟩)) 217));clear h2 KD K7;generalize w2.alloc (Y6 (Za (AD ⟨p,0,Br,AZ,AZ⟩)) 217)=w3 at h3 EM CW FA|-;obtain⟨L,K9⟩:=kQ w2.heap.size;rw[K9]at CW LB|-;clear K9;refine(Ph b g a n m _ h3 HO (Au a n) (Bv h3.lt)).G ?_;intro e w4 E;cases ht:GX (Au a n) n with
 |error q=>
  rw[ht]at E;obtain⟨n9,rfl,h4,H⟩:=E;have Q:jV (Mv a n=.error q):=by show _=_;unfold Mv;rw[ht]
  have i:=EM.C H li;have B:=CW.C H li;have FW:=Ab (FA.H H);clear h3 EM CW FA ht H;have M:=B.D 5;have S:=B.D 6;have C:=B.qI;have nf:=i.qI;obtain⟨c0,c1,c2,c3,c4,c5,c6,c7,c8⟩:=i.c9;simp[AD,Dk,Br,AZ]at M S c0 c1 c2 c3 c4 c5 c6 c7 c8;have q1:¬L=N:=lc
  have q2:¬N=L:=lc
  have HB:=Ab i;have D:=Ab h4;clear i B h4;simp only[Ar,AZ];go_wp2;rw[Q.o];have BS:=((HB.bW ⟨L,5,Y⟩ li (X kw 0)).bW ⟨L,6,Y⟩ li (O ky)).zK rfl (X J 0) (X J 0) (X J 0) (O ⟨#[]⟩) (U Y 0 0) (X kw 0) (O ⟨#[]⟩) (X kw 0) (O ⟨#[]⟩);refine mF (As (P:=rF) (fn:=Tryz.f200) (p:=2) (u:=3) rfl rfl BS underlying217 rfl lo) rfl ?_;refine⟨n9,Dk,rfl,rfl,?_,?_⟩
  .exact((D.other (p:=⟨L,5,Y⟩) li (j L lc) _).other (p:=⟨L,6,Y⟩) li (j L lc) _).zK lc (j N lc) _ _ _ _ _ _ _ _ _
  .have A:=Aa W;exact((FW.setCell (p:=⟨L,5,Y⟩) nc _).setCell (p:=⟨L,6,Y⟩) nc _).zK oi _ _ _ _ _ _ _ _ _
 |ok r=>
  obtain⟨l,c⟩:=r;rw[ht]at E;obtain⟨rfl,h4,H⟩:=E;have i:=EM.C H li;have B:=CW.C H li;have FW:=Ab (FA.H H);have HT:=Ab ht;clear h3 EM CW FA H ht;have M:=B.D 5;have S:=B.D 6;have C:=B.qI;simp[AD,Dk,Br,AZ]at M S;have KK:=Ab i;have KB:=Ab B;have D:=Ab h4;clear i B h4;simp only[Ar];go_wp2_with fail
  have t:=Aa j;have A:=Aa W;have h5:Cs ((w4.setCell ⟨L,5,Y⟩ (X kw l.v)).setCell ⟨L,6,Y⟩ (O l.s)) b g a c m:=by
   exact(D.other (p:=⟨L,5,Y⟩) li (t L lc) _).other (p:=⟨L,6,Y⟩) li (t L lc) _
  have HV:=Ab ((KK.bW ⟨L,5,Y⟩ li (X kw l.v)).bW ⟨L,6,Y⟩ li (O l.s));have H3:jV (AF ((w4.setCell ⟨L,5,Y⟩ (X kw l.v)).setCell ⟨L,6,Y⟩ (O l.s)) L (AD ⟨p,0,Br,l,AZ⟩) 217):=(KB.set 5 _).set 6 _;have H0:=Ab ((FW.setCell (p:=⟨L,5,Y⟩) nc (X kw l.v)).setCell (p:=⟨L,6,Y⟩) nc (O l.s));clear M S C KK KB D FW t A;generalize(w4.setCell ⟨L,5,Y⟩ (X kw l.v)).setCell ⟨L,6,Y⟩ (O l.s)=w5 at h5 HV H3 H0|-;have H5:=Ab h5;clear h5;refine(Hd b g a c m lH _ H5 (Au a c) (Bv H5.lt) (HO.seen H5.lt lH)).G ?_;rintro e w6 ⟨rfl,h6,k6⟩;have HD:=Ab (HV.C k6 li);have CL:=Ab (H3.C k6 li);have HC:=Ab (H0.H k6);clear H5 HV H3 H0 k6;cases s1:BZ (Au a c) lH
  case' true=>
   rw[s1]at h6;simp only[ro]at h6;(have F:jV (OD (Au a c)=V 2):=by show _=_;simp[OD,s1]);clear s1;have z:=CL.D 1;have C:=CL.qI;simp[AD]at z;have H6:=Ab h6;clear h6;(go_wp2_with fail);have t:=Aa j;have A:=Aa W;have hR:Cs (w6.setCell ⟨L,1,Y⟩ (X J 2)) b g a (c+1) m:=H6.other (p:=⟨L,1,Y⟩) li (t L lc) _;have G:jV (AF (w6.setCell ⟨L,1,Y⟩ (X J 2)) N (AD Dk) 217):=HD.bW ⟨L,1,Y⟩ li _;have y:jV (AF (w6.setCell ⟨L,1,Y⟩ (X J 2)) L (AD ⟨p,2,Br,l,AZ⟩) 217):=CL.set 1 _;have I:=Ab (HC.setCell (p:=⟨L,1,Y⟩) nc (X J 2));clear z C HD CL HC t A H6;generalize w6.setCell ⟨L,1,Y⟩ (X J 2)=w9 at hR G y I|-;generalize(2:Int)=SS at F y
  case' false=>
   rw[s1]at h6;simp only[ma,rm]at h6;have H6:=Ab h6;clear h6;(go_wp2_with fail);refine(Hd b g a c m lF _ H6 (Au a c) (Bv H6.lt) (HO.seen H6.lt lF)).G ?_;rintro e w7 ⟨rfl,h7,k7⟩;have HH:=Ab (HD.C k7 li);have DT:=Ab (CL.C k7 li);have HG:=Ab (HC.H k7);clear H6 HD CL HC k7;cases s2:BZ (Au a c) lF
   case' true=>
    rw[s2]at h7;simp only[ro]at h7;(have F:jV (OD (Au a c)=V 3):=by show _=_;simp[OD,s1,s2]);clear s1 s2;have z:=DT.D 1;have C:=DT.qI;simp[AD]at z;have H7:=Ab h7;clear h7;(go_wp2_with fail);have t:=Aa j;have A:=Aa W;have hR:Cs (w7.setCell ⟨L,1,Y⟩ (X J 3)) b g a (c+1) m:=H7.other (p:=⟨L,1,Y⟩) li (t L lc) _;have G:jV (AF (w7.setCell ⟨L,1,Y⟩ (X J 3)) N (AD Dk) 217):=HH.bW ⟨L,1,Y⟩ li _;have y:jV (AF (w7.setCell ⟨L,1,Y⟩ (X J 3)) L (AD ⟨p,3,Br,l,AZ⟩) 217):=DT.set 1 _;have I:=Ab (HG.setCell (p:=⟨L,1,Y⟩) nc (X J 3));clear z C HH DT HG t A H7;generalize w7.setCell ⟨L,1,Y⟩ (X J 3)=w9 at hR G y I|-;generalize(3:Int)=SS at F y
   case' false=>
    rw[s2]at h7;simp only[ma,rm]at h7;have H7:=Ab h7;clear h7;(go_wp2_with fail);refine(Hd b g a c m lE _ H7 (Au a c) (Bv H7.lt) (HO.seen H7.lt lE)).G ?_;rintro e w8 ⟨rfl,T,k8⟩;have HE:=Ab (HH.C k8 li);have FF:=Ab (DT.C k8 li);have Go:=Ab (HG.H k8);clear H7 HH DT HG k8;cases s3:BZ (Au a c) lE
    case' true=>
     rw[s3]at T;simp only[ro]at T;(have F:jV (OD (Au a c)=V 4):=by show _=_;simp[OD,s1,s2,s3]);clear s1 s2 s3;have z:=FF.D 1;have C:=FF.qI;simp[AD]at z;have H8:=Ab T;clear T;(go_wp2_with fail);have t:=Aa j;have A:=Aa W;have hR:Cs (w8.setCell ⟨L,1,Y⟩ (X J 4)) b g a (c+1) m:=H8.other (p:=⟨L,1,Y⟩) li (t L lc) _;have G:jV (AF (w8.setCell ⟨L,1,Y⟩ (X J 4)) N (AD Dk) 217):=HE.bW ⟨L,1,Y⟩ li _;have y:jV (AF (w8.setCell ⟨L,1,Y⟩ (X J 4)) L (AD ⟨p,4,Br,l,AZ⟩) 217):=FF.set 1 _;have I:=Ab (Go.setCell (p:=⟨L,1,Y⟩) nc (X J 4));clear z C HE FF Go t A H8;generalize w8.setCell ⟨L,1,Y⟩ (X J 4)=w9 at hR G y I|-;generalize(4:Int)=SS at F y
    case' false=>
     rw[s3]at T;simp only[ma,rm]at T;have H8:=Ab T;clear T;(go_wp2_with fail);(have Q:jV (Mv a n=.error (Au a c).c):=by show _=_;unfold Mv;simp[HT.o,OD,s1,s2,s3]);clear s1 s2 s3;refine(JP b g a c m _ H8 (Au a c) (Bv H8.lt)).G ?_;rintro e w9 ⟨rfl,k9⟩;have h9:=H8.zH k9;have K4:=Ab (HE.C k9);have K1:=Ab (Go.H (k9.G ln));clear H8 HE FF Go k9;obtain⟨q,hq⟩:=kQ (Au a c).c;rw[hq]at Q|-;clear hq;have H9:=Ab h9;clear h9;(go_wp2_with fail);refine(FM b g a c m q _ H9).G ?_;rintro e LE ⟨rfl,R,o⟩;have x:=K4.C o li;have EY:=Ab (K1.H o);clear K4 K1 H9 o;have nf:=x.qI;obtain⟨c0,c1,c2,c3,c4,c5,c6,c7,c8⟩:=x.c9;simp[AD,Dk,Br,AZ]at c0 c1 c2 c3 c4 c5 c6 c7 c8;have HB:=Ab x;have D:=Ab R;clear x R;go_wp2;rw[Q.o];have BS:=HB.zK rfl (X J 0) (X J 0) (X J 0) (O ⟨#[]⟩) (U Y 0 0) (X kw 0) (O ⟨#[]⟩) (X kw 0) (O ⟨#[]⟩);refine mF (As (P:=rF) (fn:=Tryz.f200) (p:=2) (u:=3) rfl rfl BS underlying217 rfl lo) rfl ?_;refine⟨c,Dk,rfl,rfl,?_,?_⟩
     .exact D.zK lc (j N lc) _ _ _ _ _ _ _ _ _
     .have A:=Aa W;exact EY.zK oi _ _ _ _ _ _ _ _ _
  all_goals
   refine(Ph b g a (c+1) m _ hR HO (Au a (c+1)) (Bv hR.lt)).G ?_;intro e LE E;clear hR;cases ht2:GX (Au a (c+1)) (c+1)with
   |error q=>
    rw[ht2]at E;obtain⟨n9,rfl,R,o⟩:=E;(have Q:jV (Mv a n=.error q):=by show _=_;unfold Mv;simp only[HT.o,F.o,ht2]);have d:=G.C o li;have f:=y.C o li;have EY:=Ab (I.H o);clear G y I o ht2 HT F;obtain⟨l0,z,l2,l3,l4,M,S,l7,l8⟩:=f.c9;have C:=f.qI;have nf:=d.qI;obtain⟨c0,c1,c2,c3,c4,c5,c6,c7,c8⟩:=d.c9;simp[AD,Dk,Br,AZ]at l0 c0 z c1 l2 c2 l3 c3 l4 c4 M c5 S c6 l7 c7 l8 c8;have q1:¬L=N:=lc;have q2:¬N=L:=lc;have HB:=Ab d;have D:=Ab R;clear d f R;simp only[Ar,AZ];go_wp2;rw[Q.o];have BS:=((HB.bW ⟨L,7,Y⟩ li (X kw 0)).bW ⟨L,8,Y⟩ li (O ky)).zK rfl (X J p) (X J SS) (X J 0) (O ky) (U Y 0 0) (X kw l.v) (O l.s) (X kw 0) (O ky);refine mF (As (P:=rF) (fn:=Tryz.f200) (p:=2) (u:=3) rfl rfl BS underlying217 rfl lo) rfl ?_;refine⟨n9,⟨p,SS,Br,l,AZ⟩,rfl,rfl,?_,?_⟩
    .exact((D.other (p:=⟨L,7,Y⟩) li (j L lc) _).other (p:=⟨L,8,Y⟩) li (j L lc) _).zK lc (j N lc) _ _ _ _ _ _ _ _ _
    .have A:=Aa W;exact((EY.setCell (p:=⟨L,7,Y⟩) nc _).setCell (p:=⟨L,8,Y⟩) nc _).zK oi _ _ _ _ _ _ _ _ _
   |ok r=>
    obtain⟨r,n2⟩:=r;rw[ht2]at E;obtain⟨rfl,R,o⟩:=E;(have Q:jV (Mv a n=.ok (⟨p,SS,Br,l,r⟩,n2)):=by show _=_;unfold Mv;simp only[HT.o,F.o,ht2,HP.o]);have d:=G.C o li;have f:=y.C o li;have EY:=Ab (I.H o);clear G y I o ht2 HT F;obtain⟨l0,z,l2,l3,l4,M,S,l7,l8⟩:=f.c9;have C:=f.qI;have nf:=d.qI;obtain⟨c0,c1,c2,c3,c4,c5,c6,c7,c8⟩:=d.c9;simp[AD,Dk,Br,AZ]at l0 c0 z c1 l2 c2 l3 c3 l4 c4 M c5 S c6 l7 c7 l8 c8;have q1:¬L=N:=lc;have q2:¬N=L:=lc;have HB:=Ab d;have D:=Ab R;clear d f R;simp only[Ar];go_wp2;rw[Q.o];have BS:=((HB.bW ⟨L,7,Y⟩ li (X kw r.v)).bW ⟨L,8,Y⟩ li (O r.s)).zK rfl (X J p) (X J SS) (X J 0) (O ky) (U Y 0 0) (X kw l.v) (O l.s) (X kw r.v) (O r.s);refine mF (As (P:=rF) (fn:=Tryz.f200) (p:=2) (u:=3) rfl rfl BS underlying217 rfl lo) rfl ?_;refine⟨rfl,?_,?_⟩
    .exact((D.other (p:=⟨L,7,Y⟩) li (j L lc) _).other (p:=⟨L,8,Y⟩) li (j L lc) _).zK lc (j N lc) _ _ _ _ _ _ _ _ _
    .have A:=Aa W;exact((EY.setCell (p:=⟨L,7,Y⟩) nc _).setCell (p:=⟨L,8,Y⟩) nc _).zK oi _ _ _ _ _ _ _ _ _
theorem Tryz.zW:(Tryz.prog.info? 215).map (λi=>(i.zero,i.size,i.bytes))=V (V (ku #[X kw 0,O ⟨#[]⟩]),2,24):=lo
def I8:bN:=⟨#[44]⟩
def Qg:bN:=⟨#[41]⟩
def GW(ms:kN Bb)(nx:Nat)(acc:kN AY):Except Int (kN AY×Nat):=
 if h:nx<Z ms then
  match GX (Au ms nx) nx with
  | .error p=> .error p
  | .ok (t,_)=>
   if BZ (Au ms (nx+1)) I8 then GW ms (nx+2) (acc++[t])
   else if BZ (Au ms (nx+1)) Qg then .ok (acc++[t],nx+2)
   else .error (Au ms (nx+1)).c
 else .error 0
def Gu{m}{t}(h:GX m k=.ok (t,n)):n=k+1:=by
 unfold GX at h;split at h
 .exact qr
 .split at h
  .exact qr
  .cases h
def Ep(ms:kN Bb)(nx:Nat):Except Int ((Nat×bN×kN AY)×Nat):=
 if(Au ms nx).b==2 then
  if BZ (Au ms (nx+1)) T7 then
   match GW ms (nx+2) [] with
   | .error p=> .error p
   | .ok (ts,n)=> .ok (((Au ms nx).c,(Au ms nx).qJ,ts),n)
  else .error (Au ms (nx+1)).c
 else .error (Au ms nx).c
def AF.zT(h:AF w n y T)(f:Z y=3)(c b a):AF (((w.setCell ⟨n,0,Y⟩ c).setCell ⟨n,1,Y⟩ b).setCell ⟨n,2,Y⟩ a) n [c,b,a] T:=by
 have d:=((h.set 0 c).set 1 b).set 2 a;have e:((y.set 0 c).set 1 b).set 2 a=[c,b,a]:=by
  match y,f with
  |[_,_,_],_=>rfl
 rw[e]at d;exact d
def Cs.zT{d}(h:Cs w b z d n I)(a:m≠b)(c:z.ownBlock≠V m)(g f e):Cs (((w.setCell ⟨m,0,Y⟩ g).setCell ⟨m,1,Y⟩ f).setCell ⟨m,2,Y⟩ e) b z d n I:=
 ((h.other (p:=⟨m,0,Y⟩) a c g).other (p:=⟨m,1,Y⟩) a c f).other (p:=⟨m,2,Y⟩) a c e
def Ac.zT(h:Ac M v w)(b:n∈M\/v.heap.size<=n)(e d c):Ac M v (((w.setCell ⟨n,0,Y⟩ e).setCell ⟨n,1,Y⟩ d).setCell ⟨n,2,Y⟩ c):=
 ((h.setCell (p:=⟨n,0,Y⟩) b e).setCell (p:=⟨n,1,Y⟩) b d).setCell (p:=⟨n,2,Y⟩) b c
def iF(b:Nat)(mv:jR)(ms:kN Bb)(br:Int)(w:jH)(e:Ending)(w':jH):Except Int ((Nat×bN×kN AY)×Nat)->Prop
 | .ok ((p,s,ts),nx)=>∃tv base,e=j1 (.tuple #[ku (Za (AV ⟨p,s,tv⟩)),kx T6])/\w.heap.size<=base/\kt w' base 215 2 tv (Z ts) (qS Ar ts)/\Cs w' b mv ms nx br/\Ac [b] w w'
 | .error p=>∃nx pl s ad n cp,e=j1 (.tuple #[ku (Za (AV ⟨pl,s,U ad n cp⟩)),kx K])/\Cs w' b mv ms nx p/\Ac [b] w w'
theorem Pn(b mv a c D w)(h:Cs w b mv a c D)(ok:XT a):rE rF 158 #[jj (V ⟨b,0,Y⟩)] w λe F=>iF b mv a D w e F (Ep a c):=by
 obtain⟨m,f⟩:=kQ (Au a c);obtain⟨i0,VS,RT,WW,VL⟩:=mW Tryz.zW;have HM:=Ab f;have HO:=Ab ok;have H0:=h.lt;have X3:(c:Int)<(Z a:Int):=lc
 have YP:=rJ c
 have hl:=h.len;have TT:=h.zJ.lt;have HZ:∀k,mv.ownBlock=V k->k<w.heap.size:=λk B=>(h.row.lt k B).2
 have h1:=h.zH ((kR [] w).alloc (Y6 #[X J 0,O ⟨#[]⟩,U Y 0 0] 187));have FW:=kS w [X J 0,O ⟨#[]⟩,U Y 0 0] 187;have IJ:=(kR [b] w).alloc (Y6 #[X J 0,O ⟨#[]⟩,U Y 0 0] 187);clear f h ok;go_enter func158,ntmps158;go_wp2_with fail
 generalize w.alloc (Y6 #[X J 0,O ⟨#[]⟩,U Y 0 0] 187)=w1 at h1 FW IJ|-;obtain⟨l,K5⟩:=kQ w.heap.size;rw[K5]at FW TT HZ|-;have Go:=Ab K5;clear K5;have B0:jV (∀k,l<=k->mv.ownBlock≠V k):=λk B e=>by have:=HZ k e;omega
 obtain⟨g,W,rfl,b0,b1,b2,hc⟩:=h1.cells;have X1:g<l:=HZ g rfl;clear HZ;obtain⟨T,M,L⟩:=hc c H0;rw[Bv H0,Aa HM]at T M L;clear hc b2;have n0:=World.new_ne w1 _ b0;have n1:=World.new_ne w1 _ b1;have n2:=World.new_ne w1 _ T;have n3:=World.new_ne w1 _ M;have n4:=World.new_ne w1 _ L;have HH:=Ab h1;have AO:=Ab FW;clear h1 FW
 go_region_held3 (λF=>jY F ⟨b,0,Y⟩=V (U (V ⟨g,0,Y⟩) (Z a) W)/\jY F ⟨b,1,Y⟩=V (X J c)/\jY F ⟨g,c*3,Y⟩=V (X J m.b)/\jY F ⟨g,c*3+1,Y⟩=V (X J m.c)/\jY F ⟨g,c*3+2,Y⟩=V (O m.qJ)) (go_keep) (fail)
 rename_i UO;clear UO n0 n1 n2 n3 n4 b0 b1 T M L;have PT:=AO.lt;have h2:=HH.zH (((kR [] w1).alloc (Y6 #[X J m.b,X J m.c,O m.qJ] 206)).drew);have A0:=(kS w1 [X J m.b,X J m.c,O m.qJ] 206).drew;have Ix:=(AO.alloc (Y6 #[X J m.b,X J m.c,O m.qJ] 206)).drew;have LL:=(IJ.alloc (Y6 #[X J m.b,X J m.c,O m.qJ] 206)).drew;clear HH AO IJ;generalize(w1.alloc (Y6 #[X J m.b,X J m.c,O m.qJ] 206)).drew=w2 at h2 A0 Ix LL|-;generalize w1.heap.size=N4 at A0 PT|-;obtain⟨x0,x1,x2⟩:=A0.c3;have z1:=h2.zJ.D 1;have zf:=h2.zJ.qI 1;simp at x0 x1 x2 z1;have FF:=Ab h2;have AO:=Ab Ix;have K9:=Ab A0;have HJ:=Ab LL;clear h2 A0 Ix LL;cases B:(m.b==2)with
 |false=>
  have RI:(m.b !=2)=T6:=by simp[bne,B]
  have HF:jV (Ep a c=.error m.c):=by show _=_;unfold Ep;rw[Aa HM,B];rfl
  clear B;go_wp2_with fail
  refine(FM b (U (V ⟨g,0,Y⟩) (Z a) W) a c D m.c _ FF).G ?_;rintro e w3 ⟨rfl,h3,N⟩;have B9:=AO.C N li;have VR:=Ab (HJ.H N);obtain⟨T,M,L⟩:=B9.c3;have nf:=B9.qI;simp at T M L;have TS:=Ab B9;have G:=Ab h3;clear B9 h3 N x0 x1 x2 z1 zf FF AO K9 HJ;go_wp2;rw[HF.o];have BA:=TS.zT rfl (X J 0) (O ⟨#[]⟩) (U Y 0 0);refine mF (As (P:=rF) (fn:=Tryz.f158) (p:=2) (u:=3) rfl rfl BA underlying187 rfl lo) rfl ?_;refine⟨c,0,ky,Y,0,0,rfl,?_,?_⟩
  .exact G.zT lc (B0 l lc) _ _ _
  .have:=Aa Go;exact VR.zT oi _ _ _
 |true=>
  have RI:(m.b !=2)=K:=by simp[bne,B]
  have ST:c+1<Z a:=by
   refine HO.ends c H0 ?_;rw[Bv H0,Aa HM];(have:m.b=2:=by simpa using B);rw[this];decide
  have HK:=Ab B;clear B;go_wp2_with fail
  have N:Ac [b] w2 (w2.setCell ⟨b,1,Y⟩ (X J ((c:Int)+1))):=(kR [b] w2).setCell ln _;have h3:Cs (w2.setCell ⟨b,1,Y⟩ (X J ((c:Int)+1))) b (U (V ⟨g,0,Y⟩) (Z a) W) a (c+1) D:=FF.C (nx':=c+1) (br':=D) N (FF.zJ.set 1 _) ST;have IS:=Ab (AO.C N li);have KB:=Ab (K9.C N li);have K4:=Ab (HJ.H N);clear x0 x1 x2 z1 zf FF AO K9 HJ N;generalize w2.setCell ⟨b,1,Y⟩ (X J ((c:Int)+1))=w3 at h3 IS KB K4|-;refine(OE b (U (V ⟨g,0,Y⟩) (Z a) W) a (c+1) D T7 _ h3 (Au a (c+1)) (Bv h3.lt) (HO.seen h3.lt T7)).G ?_;rintro e w4 ⟨rfl,h4,k4⟩;clear h3;have A1:=Ab (IS.C k4 li);have EY:=Ab (KB.C k4 li);have H9:=Ab (K4.H k4);clear IS KB K4 k4;cases hs:BZ (Au a (c+1)) T7 with
  |false=>
   rw[hs]at h4;simp only[ma,rm]at h4;(have HF:jV (Ep a c=.error (Au a (c+1)).c):=by show _=_;unfold Ep;rw[Aa HM,Aa HK,hs];rfl);obtain⟨T,M,L⟩:=A1.c3;have nf:=A1.qI;simp at T M L;have G:=Ab h4;clear h4 hs EY;go_wp2;rw[HF.o];have BA:=A1.zT rfl (X J 0) (O ⟨#[]⟩) (U Y 0 0);refine mF (As (P:=rF) (fn:=Tryz.f158) (p:=2) (u:=3) rfl rfl BA underlying187 rfl lo) rfl ?_;refine⟨c+1,0,ky,Y,0,0,rfl,?_,?_⟩
   .exact G.zT lc (B0 l lc) _ _ _
   .have:=Aa Go;exact H9.zT oi _ _ _
  |true=>
   rw[hs]at h4;simp only[ro]at h4;have HS:=Ab hs;have x1:=EY.D 1;have x2:=EY.D 2;simp at x1 x2;have G:=Ab h4;clear h4 hs;go_wp2;have H4:jV (∀r,GW a (c+2) []=r->Ep a c=(match r with| .error p=> .error p| .ok (ts,n)=> .ok ((m.c,m.qJ,ts),n))):=by
    intro r hr;unfold Ep;rw[Aa HM,Aa HK,Aa HS,hr];rfl
   have HV:=Ab (kS w4 [X J m.c,O m.qJ,U Y 0 0] 187);have K7:=Ab (A1.alloc (Y6 #[X J m.c,O m.qJ,U Y 0 0] 187));have LC:=Ab (G.zH ((kR [] w4).alloc (Y6 #[X J m.c,O m.qJ,U Y 0 0] 187)));have KK:=Ab (H9.alloc (Y6 #[X J m.c,O m.qJ,U Y 0 0] 187));have JJ:(w4.alloc (Y6 #[X J m.c,O m.qJ,U Y 0 0] 187)).heap.size=w4.heap.size+1:=ln;have U0:=EY.lt;clear x1 x2 EY A1 H9 G HS HK HM;change Code.wp _ _ _ _ (w4.alloc (Y6 #[X J m.c,O m.qJ,U Y 0 0] 187));generalize w4.alloc (Y6 #[X J m.c,O m.qJ,U Y 0 0] 187)=w5 at HV K7 LC KK JJ|-;obtain⟨A,LS⟩:=kQ w4.heap.size;rw[LS]at HV JJ U0|-;clear LS
   go_loopg [] (Z a-(c+2)) (λgk wr=>∃(j:Nat) (d:kN AY) (R:rB) (S:Nat),gk=Z a-j/\jV (GW a j d=GW a (c+2) [])/\jV (Cs wr b (U (V ⟨g,0,Y⟩) (Z a) W) a j D)/\jV (AF wr l [X J 0,O ⟨#[]⟩,U Y 0 0] 187)/\jV (AF wr A [X J m.c,O m.qJ,U R (Z d) S] 187)/\kt wr (A+1) 215 2 (U R (Z d) S) (Z d) (qS Ar d)/\jV (Ac [b] w wr)/\A+1<=wr.heap.size/\Z d<=j)
   case atStart=>exact⟨c+2,[],Y,0,rfl,rfl,LC,K7,HV,mw _ _ _ _,KK,lc,ln⟩
   case round=>
    clear HV K7 LC KK JJ;obtain⟨j,d,R,S,NE,HL,G,HB,HA,HU,hK,hz,X2⟩:=hrel;have HG:=Ab NE;clear NE;have FP:=G.lt;(go_wp2_with fail);refine(Ph b (U (V ⟨g,0,Y⟩) (Z a) W) a j D _ G HO (Au a j) (Bv FP)).G ?_;intro e x FT;cases ht:GX (Au a j) j with
    |error q=>
     rw[ht]at FT;obtain⟨n9,rfl,h6,I⟩:=FT;have HF:jV (Ep a c=.error q):=H4 (.error q) (by rw[<-Aa HL];unfold GW;rw[dif_pos FP,ht]);have z:=HB.C I li;have HD:=Ab (hK.H I);clear I ht G HB HA hK HL HU;obtain⟨T,M,L⟩:=z.c3;have nf:=z.qI;(have d0:=λo=>(z.alloc o).D 0);(have d1:=λo=>(z.alloc o).D 1);(have d2:=λo=>(z.alloc o).D 2);(have df:=λo=>(z.alloc o).qI);simp at T M L d0 d1 d2;have Nj:=z.lt;have ag:=h6.zJ.lt;have q1:¬l=x.heap.size:=lc;have q2:¬x.heap.size=l:=lc;have Ax:=Ab h6;have RE:=Ab z;clear h6 z;simp only[Ar,AZ];go_wp2;rw[HF.o];have BA:=(RE.zT rfl (X J 0) (O ⟨#[]⟩) (U Y 0 0)).alloc (Y6 #[X kw 0,O ky] 215);refine mF (As (P:=rF) (fn:=Tryz.f158) (p:=2) (u:=3) rfl rfl BA underlying187 rfl lo) rfl ?_;refine⟨n9,0,ky,Y,0,0,rfl,?_,?_⟩
     .exact(Ax.zT lc (B0 l lc) _ _ _).zH ((kR [] _).alloc _)
     .have:=Aa Go;exact(HD.zT oi _ _ _).alloc _
    |ok r=>
     obtain⟨t,n1⟩:=r;rw[ht]at FT;have N0:=Gu ht;subst N0;obtain⟨rfl,h6,I⟩:=FT;have z:=Ab (HB.C I li);have AH:=Ab (HA.C I li);have HD:=Ab (hK.H I);have H7:=Ag HU I (λi E f=>by simp at f;subst f;have:=(HU.lt _ E).1;omega);have RV:A+1<=x.heap.size:=mZ hz I.size;have HT:=Ab ht;clear I ht G HB HA hK HU hz;have a2:=AH.D 2;have af:=AH.qI;(have d2:=λo=>(AH.alloc o).D 2);(have df:=λo=>(AH.alloc o).qI);simp at a2 d2;have Nj:=AH.lt;have q1:¬A=x.heap.size:=lc;have q2:¬x.heap.size=A:=lc;have Ax:=Ab h6;clear h6;have NL:((x.alloc (Y6 (Za (Ar t)) 215)).alloc (Y6 (Za (Ar t)) 215)).heap[x.heap.size+1]?=V (Y6 (Za (Ar t)) 215 (0,0)):=by
      have C:=mG (x.alloc (Y6 (Za (Ar t)) 215)) (Y6 (Za (Ar t)) 215);rw[show(x.alloc (Y6 (Za (Ar t)) 215)).heap.size=x.heap.size+1 from ln]at C
      exact C
     have Nq:=mg (mg H7 (Y6 (Za (Ar t)) 215)) (Y6 (Za (Ar t)) 215);have ab:Z d<=1000:=lc;have KA:jV (∀s,((x.alloc (Y6 (Za (Ar t)) 215)).alloc (Y6 (Za (Ar t)) 215)).grownBy s (U R (Z d) S).ownBlock->Ac (qV (qW (U R (Z d) S))) x s):=by
      intro s hg;exact(((kR _ x).alloc _).alloc _).grown hg (λk B=>j2 (by simp[B]))
     (have H2:jV (∀i∈qV (qW (U R (Z d) S)),A+1<=i):=λi E=>(H7.lt i (by simpa using E)).1);have KS:jV (∀s,((x.alloc (Y6 (Za (Ar t)) 215)).alloc (Y6 (Za (Ar t)) 215)).grownBy s (U R (Z d) S).ownBlock->jY s ⟨A,2,Y⟩=V (U R (Z d) S)/\s.frozen? ⟨A,2,Y⟩=K):=by
      intro s hg;have hb:=AH.C (KA s hg) (λf=>by have:=Aa H2 A f;omega);exact⟨hb.D 2,hb.qI 2⟩
     simp only[Ar];go_wp2_with (at_builtin;refine mE _ rfl (.tmp 51) (.tmp 53) _ rfl (A+1) 215 i0 _ 2 24 underlying185 VS RT WW VL rfl lc (U R (Z d) S) (Z d) (qS Ar d) rfl Nq ⟨x.heap.size+1,0,Y⟩ 1 1 (Ar t) rfl rfl (mz (cs:=Za (Ar t)) (t:=215) (fr:=(0,0)) NL) (by simp[Value.oneCell',Ar]) lc lw lc li (x.heap.size+1+1) ln ?_;intro v y s K8 HE NV RB;have SS:=(KS s HE).1;have NY:=(KS s HE).2)
     have kr:=Aa KA s HE;have CL:=Aa H2;have X0:=Aa Go;have ZV:A+1<=v:=(K8.lt v rfl).1;have M3:Cs s b (U (V ⟨g,0,Y⟩) (Z a) W) a (j+1) D:=⟨Ax.zJ.C kr (λf=>by have:=CL b f;omega),Ag Ax.row kr (λi E f=>by have:=CL i f;simp[kE]at E;omega),Ax.ap,Ax.lt,Ax.len⟩;have H1:=Ab (M3.other (p:=⟨A,2,Y⟩) li (B0 A lc) (U (V ⟨v,0,Y⟩) (Z d+1) y));have JA:=Ab ((z.C kr (λf=>by have:=CL l f;omega)).bW ⟨A,2,Y⟩ li (U (V ⟨v,0,Y⟩) (Z d+1) y));have K1:jV (AF (s.setCell ⟨A,2,Y⟩ (U (V ⟨v,0,Y⟩) (Z d+1) y)) A [X J m.c,O m.qJ,U (V ⟨v,0,Y⟩) (Z d+1) y] 187):=(AH.C kr (λf=>by have:=CL A f;omega)).set 2 _;have M6:Ac [b] w s:=HD.trans' kr (λi E=>j3 (by have:=CL i E;omega));have IA:=Ab (M6.setCell (p:=⟨A,2,Y⟩) nc (U (V ⟨v,0,Y⟩) (Z d+1) y));have HI:=Ah K8 (p:=⟨A,2,Y⟩) su (U (V ⟨v,0,Y⟩) (Z d+1) y);(have LD:A+1<=(s.setCell ⟨A,2,Y⟩ (U (V ⟨v,0,Y⟩) (Z d+1) y)).heap.size:=by have:=kr.size;simp;omega);clear kr CL M3 M6 HE NV RB K8 SS NY KA H2 KS NL Nq H7 AH z HD Ax a2 d2 af df q1 q2 Nj RV;generalize s.setCell ⟨A,2,Y⟩ (U (V ⟨v,0,Y⟩) (Z d+1) y)=w10 at H1 JA K1 IA HI LD|-;have Ha:=H1.lt;refine(Hd b (U (V ⟨g,0,Y⟩) (Z a) W) a (j+1) D I8 _ H1 (Au a (j+1)) (Bv Ha) (HO.seen Ha I8)).G ?_;rintro e K3 ⟨rfl,AT,DT⟩;have MB:=Ab (JA.C DT li);have EX:=Ab (K1.C DT li);have NM:=Ab (IA.H DT);have H5:=Ag HI DT (λi E f=>by simp at f;subst f;have:=(HI.lt _ E).1;omega);have S1:A+1<=K3.heap.size:=mZ LD DT.size;clear DT H1 JA K1 IA HI LD;cases hs:BZ (Au a (j+1)) I8 with
     |true=>
      rw[hs]at AT;simp only[ro]at AT;have TL:jV (GW a (j+2) (d++[t])=GW a (c+2) []):=by
       have C:=Aa HL
       conv at C=>lhs;unfold GW
       rw[dif_pos FP,Aa HT]at C;simp only[hs,ro]at C;exact C
      have FO:=Ab AT;clear AT hs HL HT;go_wp2_with fail
      go_roundg (Z a-(j+2))
      case measure=>exact qu
      case rel=>exact⟨j+2,d++[t],V ⟨v,0,Y⟩,y,rfl,TL,FO,MB,by simpa using EX,by simpa using H5,NM,S1,li⟩
     |false=>
      rw[hs]at AT;simp only[ma,rm]at AT;have HS:=Ab hs;have FO:=Ab AT;clear AT hs;have M2:jV (GW a (c+2) []=if BZ (Au a (j+1)) Qg then .ok (d++[t],j+2)else .error (Au a (j+1)).c):=by
       have C:=Aa HL
       conv at C=>lhs;unfold GW
       rw[dif_pos FP,Aa HT]at C;simp only[Aa HS,ma,rm]at C;exact C.symm
      have Wa:=Ab (OE b (U (V ⟨g,0,Y⟩) (Z a) W) a (j+1) D Qg _ (FO.zH (kR [] K3).drew) (Au a (j+1)) (Bv Ha) (HO.seen Ha Qg));obtain⟨e0,e1,e2⟩:=EX.c3;simp at e0 e1 e2;have q1:¬A=l:=lc;have q2:¬l=A:=lc;(have HC:jV (∀BT,Ac [b] K3.drew BT->AF BT l [X J 0,O ⟨#[]⟩,U Y 0 0] 187/\AF BT A [X J m.c,O m.qJ,U (V ⟨v,0,Y⟩) (Z d+1) y] 187):=λBT k=>⟨MB.drew.C k li,EX.drew.C k li⟩);clear HL HT HS FO;go_wp2_with fail
      go_region_held3 (λF=>jY F ⟨A,0,Y⟩=V (X J m.c)/\jY F ⟨A,1,Y⟩=V (O m.qJ)/\jY F ⟨A,2,Y⟩=V (U (V ⟨v,0,Y⟩) (Z d+1) y)) (go_keep) ((go_at_call 163;refine Wa.G ?_;rintro e BT ⟨rfl,Q,EM⟩;have H:=Aa HC BT EM;have f0:=H.2.D 0;have f1:=H.2.D 1;have f2:=H.2.D 2;have p0:=H.1.D 0;have p1:=H.1.D 1;have p2:=H.1.D 2;have pf:=H.1.qI;simp at f0 f1 f2 p0 p1 p2;have SJ:=Ab (And.intro Q (And.intro EM H));clear Q EM H))
      rename_i Os;clear Os;go_wp2;obtain⟨Q,EM,H,_⟩:=SJ;have BA:=H.zT rfl (X J m.c) (O m.qJ) (U (V ⟨v,0,Y⟩) (Z d+1) y);have NB:Ac [b] w BT:=NM.drew.H EM;refine mF (As (P:=rF) (fn:=Tryz.f158) (p:=2) (u:=3) rfl rfl BA underlying187 rfl lo) rfl ?_;cases hcl:BZ (Au a (j+1)) Qg with
      |true=>
       rw[hcl]at Q;have hA:=Aa M2;rw[hcl]at hA;simp only[ro]at Q hA;rw[Aa H4 _ hA];have SL:=Ag (CV H5) EM (λi E f=>by simp at f;subst f;have:=(H5.lt _ E).1;omega);have H3:(U (V ⟨v,0,Y⟩) (Z d+1) y).ownBlock≠V l:=su;refine⟨U (V ⟨v,0,Y⟩) (Z d+1) y,A+1,rfl,lc,?_,?_,?_⟩
       .have ho:=Ah (Ah (Ah SL (p:=⟨l,0,Y⟩) H3 (X J m.c)) (p:=⟨l,1,Y⟩) H3 (O m.qJ)) (p:=⟨l,2,Y⟩) H3 (U (V ⟨v,0,Y⟩) (Z d+1) y);simpa using ho
       .exact Q.zT lc (B0 l lc) _ _ _
       .exact NB.zT oi _ _ _
      |false=>
       rw[hcl]at Q;have hA:=Aa M2;rw[hcl]at hA;simp only[ma,rm]at Q hA;rw[Aa H4 _ hA];refine⟨j+1,m.c,m.qJ,V ⟨v,0,Y⟩,Z d+1,y,rfl,?_,?_⟩
       .exact Q.zT lc (B0 l lc) _ _ _
       .exact NB.zT oi _ _ _
def ZN:bN:=⟨#[33]⟩
abbrev el:Type:=(Int×Int×Nat×bN×kN AY)⊕ei
def G5(ms:kN Bb)(nx:Nat):Except Int (el×Nat):=
 if BZ (Au ms nx) ZN then
  match Ep ms (nx+1)with
  | .error p=> .error p
  | .ok (a,n)=> .ok (.inl ((Au ms nx).c,1,a),n)
 else if Fb ms nx then
  match Ep ms nx with
  | .error p=> .error p
  | .ok (a,n)=> .ok (.inl ((Au ms nx).c,0,a),n)
 else
  match Mv ms nx with
  | .error p=> .error p
  | .ok (l,n)=> .ok (.inr l,n)
def S9(h:kt w m T k z n y)(a:z.ownBlock≠V i)(g f e c j l d o b):kt (((((((((w.setCell ⟨i,0,Y⟩ g).setCell ⟨i,1,Y⟩ f).setCell ⟨i,2,Y⟩ e).setCell ⟨i,3,Y⟩ c).setCell ⟨i,4,Y⟩ j).setCell ⟨i,5,Y⟩ l).setCell ⟨i,6,Y⟩ d).setCell ⟨i,7,Y⟩ o).setCell ⟨i,8,Y⟩ b) m T k z n y:=
 (Ah (Ah (Ah (Ah (Ah (Ah (Ah (Ah (Ah h (p:=⟨i,0,Y⟩) a g) (p:=⟨i,1,Y⟩) a f) (p:=⟨i,2,Y⟩) a e) (p:=⟨i,3,Y⟩) a c) (p:=⟨i,4,Y⟩) a j) (p:=⟨i,5,Y⟩) a l) (p:=⟨i,6,Y⟩) a d) (p:=⟨i,7,Y⟩) a o) (p:=⟨i,8,Y⟩) a b)
def ZR(b:Nat)(mv:jR)(ms:kN Bb)(br:Int)(w:jH)(e:Ending)(w':jH):Except Int (el×Nat)->Prop
 | .ok (.inl (pl,so,p,s,ts),nx)=>∃tv base,e=j1 (.tuple #[ku (Za (AD ⟨pl,so,⟨p,s,tv⟩,AZ,AZ⟩)),kx T6])/\w.heap.size<=base/\kt w' base 215 2 tv (Z ts) (qS Ar ts)/\Cs w' b mv ms nx br/\Ac [b] w w'
 | .ok (.inr l,nx)=>e=j1 (.tuple #[ku (Za (AD l)),kx T6])/\Cs w' b mv ms nx br/\Ac [b] w w'
 | .error p=>∃nx l,(∃ad n cp,l.atom.tv=U ad n cp)/\e=j1 (.tuple #[ku (Za (AD l)),kx K])/\Cs w' b mv ms nx p/\Ac [b] w w'
theorem gm(b A c d B w)(h:Cs w b A c d B)(ok:XT c):rE rF 172 #[jj (V ⟨b,0,Y⟩)] w λe w'=>ZR b A c B w e w' (G5 c d):=by
 have HO:=Ab ok;have K3:=h.zJ.lt;have Ix:∀k,A.ownBlock=V k->k<w.heap.size:=λk hk=>(h.row.lt k hk).2
 have h1:=Ab (h.zH ((kR [] w).alloc (Y6 (Za (AD Dk)) 217)));have hN:=Ab (kS w (AD Dk) 217);have HU:=Ab ((kR [b] w).alloc (Y6 (Za (AD Dk)) 217));have H3:(w.alloc (Y6 (Za (AD Dk)) 217)).heap.size=w.heap.size+1:=ln
 clear h ok;go_enter func172,ntmps172;go_wp2_with fail
 change rE _ _ _ (w.alloc (Y6 (Za (AD Dk)) 217)) _;generalize w.alloc (Y6 (Za (AD Dk)) 217)=w1 at h1 hN HU H3|-;obtain⟨N,H8⟩:=kQ w.heap.size;rw[H8]at hN K3 H3 Ix|-;have x:jV (∀k,N<=k->A.ownBlock≠V k):=λk hk e=>by have:=Ix k e;omega
 clear Ix;have HN:=Ab H8;clear H8;refine(JP b A c d B _ h1 (Au c d) (Bv h1.lt)).G ?_;rintro e w2 ⟨rfl,k2⟩;have h2:=Ab (h1.zH k2);have Jx:=Ab (hN.C k2);have KK:=Ab (HU.H (k2.G ln));have K2:N+1<=w2.heap.size:=by have:=k2.size;omega
 clear h1 hN HU H3 k2;obtain⟨p,hp⟩:=kQ (Au c d).c;have HP:=Ab hp;rw[hp];clear hp;go_wp2_with fail
 change rE _ _ _ (w2.alloc (Y6 (Za (AD ⟨p,0,Br,AZ,AZ⟩)) 217)) _;have h3:=Ab (h2.zH ((kR [] w2).alloc (Y6 (Za (AD ⟨p,0,Br,AZ,AZ⟩)) 217)));have HL:=Ab (Jx.alloc (Y6 (Za (AD ⟨p,0,Br,AZ,AZ⟩)) 217));have FO:=Ab (kS w2 (AD ⟨p,0,Br,AZ,AZ⟩) 217);have H1:=Ab (KK.alloc (Y6 (Za (AD ⟨p,0,Br,AZ,AZ⟩)) 217));clear h2 Jx KK;generalize w2.alloc (Y6 (Za (AD ⟨p,0,Br,AZ,AZ⟩)) 217)=w3 at h3 HL FO H1|-;obtain⟨L,KS⟩:=kQ w2.heap.size;rw[KS]at FO K2|-;clear KS;refine(Hd b A c d B ZN _ h3 (Au c d) (Bv h3.lt) (HO.seen h3.lt ZN)).G ?_;rintro e w4 ⟨rfl,C,k4⟩;have FW:=Ab (HL.C k4 li);have Bx:=Ab (FO.C k4 li);have FT:=Ab (H1.H k4);clear h3 HL FO H1 k4;cases hs:BZ (Au c d) ZN
 case' true=>
  rw[hs]at C;simp only[ro]at C;have S:=Ab hs;have l1:=Bx.D 1;have lf:=Bx.qI;simp[AD]at l1;have H4:=Ab C;clear C hs;go_wp2_with fail
  have JJ:=Aa x;have EM:=Aa HN;have Ha:=Ab (H4.other (p:=⟨L,1,Y⟩) li (JJ L lc) (X J 1));have F:=Ab (FW.bW ⟨L,1,Y⟩ li (X J 1));have z:jV (AF (w4.setCell ⟨L,1,Y⟩ (X J 1)) L (AD ⟨p,1,Br,AZ,AZ⟩) 217):=Bx.set 1 _;have B2:=Ab (FT.setCell (p:=⟨L,1,Y⟩) nc (X J 1));clear l1 lf FW Bx FT JJ EM H4;generalize w4.setCell ⟨L,1,Y⟩ (X J 1)=wa at Ha F z B2|-;have K4:=F.lt;have K7:=z.lt;refine(Pn b A c (d+1) B _ Ha HO).G ?_;intro e w6 t;clear Ha;have HE:jV (∀q,Ep c (d+1)=.error q->G5 c d=.error q):=λq g=>by unfold G5;simp[S.o,g]
  have HG:jV (∀o m j n,Ep c (d+1)=.ok ((o,m,j),n)->G5 c d=.ok (.inl (p,1,o,m,j),n)):=λo m j n g=>by unfold G5;simp[S.o,g,HP.o]
  generalize(1:Int)=SS at z HG;generalize d+1=NA at t HE HG
 case' false=>
  rw[hs]at C;simp only[ma,rm]at C;have S:=Ab hs;have H4:=Ab C;clear C hs;go_wp2_with fail
  refine(U4 b A c d B _ H4 HO).G ?_;rintro e w5 ⟨rfl,k5⟩;have H5:=Ab (H4.zH k5);have BS:=Ab (FW.C k5);have HC:=Ab (Bx.C k5);have B0:=Ab (FT.H (k5.G ln));clear H4 FW Bx FT k5;cases ha:Fb c d
  case' true=>
   have HA:=Ab ha;clear ha;(go_wp2_with fail);have Ha:=H5;have F:=BS;have z:=HC;have B2:=B0;clear H5 BS HC B0;have K4:=F.lt;have K7:=z.lt;refine(Pn b A c d B _ Ha HO).G ?_;intro e w6 t;clear Ha;(have HE:jV (∀q,Ep c d=.error q->G5 c d=.error q):=λq g=>by unfold G5;simp[S.o,HA.o,g]);(have HG:jV (∀o m j n,Ep c d=.ok ((o,m,j),n)->G5 c d=.ok (.inl (p,0,o,m,j),n)):=λo m j n g=>by unfold G5;simp[S.o,HA.o,g,HP.o]);generalize(0:Int)=SS at z HG;obtain⟨NA,Go⟩:∃NA,NA=d:=⟨_,rfl⟩;(have HE:jV (∀q,Ep c NA=.error q->G5 c d=.error q):=by rw[Go];exact HE);(have HG:jV (∀o m j n,Ep c NA=.ok ((o,m,j),n)->G5 c d=.ok (.inl (p,SS,o,m,j),n)):=by rw[Go];exact HG);rw[<-Go]at t;clear Go
  case' false=>
   have HA:=Ab ha;clear ha;(go_wp2_with fail);refine(jk b A c d B _ H5 HO).G ?_;intro e w6 t;clear H5;cases g:Mv c d with
   |error q=>
    rw[g]at t;obtain⟨n9,l,FC,rfl,y,i⟩:=t;obtain⟨lp,ls,la,T,W⟩:=l;simp only at FC;subst FC;(have I:jV (G5 c d=.error q):=by show _=_;unfold G5;simp[S.o,HA.o,g]);clear g;have a:=BS.C i li;have M:=Ab (B0.H i);have nf:=a.qI;obtain⟨c0,Q,G,R,c4,c5,c6,c7,H⟩:=a.c9;simp[AD,Dk,Br,AZ]at c0 Q G R c4 c5 c6 c7 H;have HB:=Ab a;have HR:=Ab y;clear a y i BS HC B0;simp only[AD,Br];go_wp2;rw[I.o];have AH:=HB.zK rfl (X J lp) (X J ls) (X J 0) (O ky) (U Y 0 0) (X kw T.v) (O T.s) (X kw W.v) (O W.s);refine mF (As (P:=rF) (fn:=Tryz.f172) (p:=2) (u:=3) rfl rfl AH underlying217 rfl lo) rfl ?_;refine⟨n9,⟨lp,ls,Br,T,W⟩,⟨_,_,_,rfl⟩,rfl,?_,?_⟩
    .exact HR.zK lc (x N lc) _ _ _ _ _ _ _ _ _
    .have EM:=Aa HN;exact M.zK oi _ _ _ _ _ _ _ _ _
   |ok r=>
    obtain⟨l,n⟩:=r;rw[g]at t;have FC:=Uq g;obtain⟨lp,ls,la,T,W⟩:=l;simp only at FC;subst FC;obtain⟨rfl,y,i⟩:=t;(have I:jV (G5 c d=.ok (.inr ⟨lp,ls,Br,T,W⟩,n)):=by show _=_;unfold G5;simp[S.o,HA.o,g]);clear g;have a:=BS.C i li;have M:=Ab (B0.H i);have nf:=a.qI;obtain⟨c0,Q,G,R,c4,c5,c6,c7,H⟩:=a.c9;simp[AD,Dk,Br,AZ]at c0 Q G R c4 c5 c6 c7 H;have HB:=Ab a;have HR:=Ab y;clear a y i BS HC B0;simp only[AD,Br];go_wp2;rw[I.o];have AH:=HB.zK rfl (X J lp) (X J ls) (X J 0) (O ky) (U Y 0 0) (X kw T.v) (O T.s) (X kw W.v) (O W.s);refine mF (As (P:=rF) (fn:=Tryz.f172) (p:=2) (u:=3) rfl rfl AH underlying217 rfl lo) rfl ?_;refine⟨rfl,?_,?_⟩
    .exact HR.zK lc (x N lc) _ _ _ _ _ _ _ _ _
    .have EM:=Aa HN;exact M.zK oi _ _ _ _ _ _ _ _ _
 all_goals
  cases g:Ep c NA with
  |error q=>
   rw[g]at t;obtain⟨n9,ap,an,D,HJ,E,rfl,y,i⟩:=t;have I:jV (G5 c d=.error q):=HE q g;clear g;have a:=F.C i li;have f:=z.C i li;have M:=Ab (B2.H i);obtain⟨l0,l1,l2,l3,l4,l5,l6,l7,l8⟩:=f.c9;have lf:=f.qI;have nf:=a.qI;obtain⟨c0,Q,G,R,c4,c5,c6,c7,H⟩:=a.c9;simp[AD,Dk,Br,AZ]at l0 c0 l1 Q l2 G l3 R l4 c4 l5 c5 l6 c6 l7 c7 l8 H;have q1:¬L=N:=lc;have q2:¬N=L:=lc;have HB:=Ab a;have HR:=Ab y;clear a f y i F z B2;simp only[AV];go_wp2;rw[I.o];have AH:=(((HB.bW ⟨L,2,Y⟩ li (X J ap)).bW ⟨L,3,Y⟩ li (O an)).bW ⟨L,4,Y⟩ li (U D HJ E)).zK rfl (X J p) (X J SS) (X J ap) (O an) (U D HJ E) (X kw 0) (O ky) (X kw 0) (O ky);refine mF (As (P:=rF) (fn:=Tryz.f172) (p:=2) (u:=3) rfl rfl AH underlying217 rfl lo) rfl ?_;refine⟨n9,⟨p,SS,⟨ap,an,U D HJ E⟩,AZ,AZ⟩,⟨_,_,_,rfl⟩,rfl,?_,?_⟩
   .exact(((HR.other (p:=⟨L,2,Y⟩) li (x L lc) _).other (p:=⟨L,3,Y⟩) li (x L lc) _).other (p:=⟨L,4,Y⟩) li (x L lc) _).zK lc (x N lc) _ _ _ _ _ _ _ _ _
   .have EM:=Aa HN;exact(((M.setCell (p:=⟨L,2,Y⟩) nc _).setCell (p:=⟨L,3,Y⟩) nc _).setCell (p:=⟨L,4,Y⟩) nc _).zK oi _ _ _ _ _ _ _ _ _
  |ok r=>
   obtain⟨⟨o,m,j⟩,n⟩:=r;rw[g]at t;obtain⟨tv,KD,rfl,LD,HH,y,i⟩:=t;obtain⟨D,E,rfl⟩:=Aj HH;have I:jV (G5 c d=.ok (.inl (p,SS,o,m,j),n)):=HG _ _ _ _ g;have H7:jV (_/\(∀k,k<KD->(U D (Z j) E).ownBlock≠V k)):=⟨HH,λk hk e=>by have:=(HH.lt k e).1;omega⟩;clear g HH;have a:=F.C i li;have f:=z.C i li;have M:=Ab (B2.H i);obtain⟨l0,l1,l2,l3,l4,l5,l6,l7,l8⟩:=f.c9;have lf:=f.qI;have nf:=a.qI;obtain⟨c0,Q,G,R,c4,c5,c6,c7,H⟩:=a.c9;simp[AD,Dk,Br,AZ]at l0 c0 l1 Q l2 G l3 R l4 c4 l5 c5 l6 c6 l7 c7 l8 H;have q1:¬L=N:=lc;have q2:¬N=L:=lc;have HB:=Ab a;have HR:=Ab y;clear a f y i F z B2;simp only[AV];go_wp2;rw[I.o];have AH:=(((HB.bW ⟨L,2,Y⟩ li (X J o)).bW ⟨L,3,Y⟩ li (O m)).bW ⟨L,4,Y⟩ li (U D (Z j) E)).zK rfl (X J p) (X J SS) (X J o) (O m) (U D (Z j) E) (X kw 0) (O ky) (X kw 0) (O ky);refine mF (As (P:=rF) (fn:=Tryz.f172) (p:=2) (u:=3) rfl rfl AH underlying217 rfl lo) rfl ?_;have IJ:=H7.o.2 L lc;have LB:=H7.o.2 N lc;refine⟨U D (Z j) E,KD,rfl,sx,?_,?_,?_⟩
   .exact S9 (Ah (Ah (Ah H7.o.1 (p:=⟨L,2,Y⟩) IJ _) (p:=⟨L,3,Y⟩) IJ _) (p:=⟨L,4,Y⟩) IJ _) LB _ _ _ _ _ _ _ _ _
   .exact(((HR.other (p:=⟨L,2,Y⟩) li (x L lc) _).other (p:=⟨L,3,Y⟩) li (x L lc) _).other (p:=⟨L,4,Y⟩) li (x L lc) _).zK lc (x N lc) _ _ _ _ _ _ _ _ _
   .have EM:=Aa HN;exact(((M.setCell (p:=⟨L,2,Y⟩) nc _).setCell (p:=⟨L,3,Y⟩) nc _).setCell (p:=⟨L,4,Y⟩) nc _).zK oi _ _ _ _ _ _ _ _ _
end
section
section
variable {P:Program} {ops:Array Oper} {Q:Exit->Act->jH->Prop} {md:Region.Mode} {S:jH->Prop} {k:Nat}
def Cw(P:Program)(md:Region.Mode)(ops:Array Oper)(Q:Exit->Act->jH->Prop)(S:jH->Prop)(k:Nat):Nat->Array rD->Act->jH->Prop
 |0,listed,a,w=>Region.ready md ops listed=[]/\Q .normal a w
 |fuel+1,listed,a,w=>(Region.ready md ops listed=[]->Q .normal a w)/\
  ∀i∈Region.ready md ops listed,wpOp P ops Q i (λa' w'=>(i≠k->S w')/\Cw P md ops Q S k fuel (listed.setIfInBounds i T6) a' w') a w
def Cw.any:∀b c a w,Cw P md ops Q S k b c a w->wpAny P md ops Q b c a w
 |0,_,_,_,h=>h
 |b+1,_,_,_,h=>⟨h.1,λi g=>wpOp_mono (λf e d=>Cw.any b _ f e d.2) (h.2 i g)⟩
def Rs(md:Region.Mode)(ops:Array Oper)(k i:Nat):rD:=match ops[k]? with|some o=>o.after.any λe=>Region.binds md e&&e.on==i|none=>K
def Un{i}{b}(h:Rs md ops k i=T6)(f:b.getD i T6=K):k∉Region.ready md ops b:=λg=>by
 obtain⟨_,o,l,j⟩:=mem_ready.1 g;unfold Rs at h;rw[l]at h;obtain⟨e,m,d⟩:=Array.any_eq_true'.1 h;simp at d;have a:=j e m d.1;rw[d.2]at a;rcases Nat.lt_or_ge i b.size with c|c
 .exact qr
 .simp[px c]at a
def Cw.first{i}{n}{v}(B:ops[i]?=V n)(G:∀(j:Nat) (o:Oper) p b,ops[j]?=V o->o.op≠ .select p b)(T:∀c a w,Q (.panic c) (a.put n.dst v) w->Q (.panic c) a w)(W:Rs md ops k i=T6):
  ∀r f a w,
   (∀j m,ops[j]?=V m->j≠i->f.getD j T6=K->(∀e∈m.after,Region.binds md e=T6->e.on≠i)->n.apart ops m=T6)->
   i∈Region.ready md ops f->YieldsIf P ops S n v a->S w->
   Cw P md ops Q S k r (f.setIfInBounds i T6) (a.put n.dst v) w->Cw P md ops Q S k (r+1) f a w:=by
 intro r
 induction r with
 |zero=>
  intro f a w _ l u t H;refine⟨λh=>(by rw[h]at l;cases l),λj s=>?_⟩;by_cases d:j=i
  .subst d;exact u.wpOp B t ⟨λ_=>t,H⟩
  .have:=pZ s d;rw[H.1]at this;cases this
 |succ r ih=>
  intro f a w E l u t H;have A:=(mem_ready.1 l).1;refine⟨λh=>(by rw[h]at l;cases l),λj s=>?_⟩;by_cases d:j=i
  .subst d;exact u.wpOp B t ⟨λ_=>t,H⟩
  ·(have D:j≠k:=λe=>Un W A (e▸s));have h1:=H.2 j (pZ s d);obtain⟨C,m,y,AT⟩:=mem_ready.1 s;have AB:∀e∈m.after,Region.binds md e=T6->e.on≠i:=λe he N R=>by
    have g:=AT e he N;rw[R]at g;rcases Nat.lt_or_ge i f.size with z|z
    .simp[z]at A g;rw[A]at g;cases g
    .simp[px z]at g
   have g:=wpOp_putIf y (E j m y d C AB) (λp b=>G i n p b B) (λp b=>G j m p b y) T u h1;refine wpOp_mono (λa' M x=>⟨λ_=>x.2.1 D,ih (f.setIfInBounds j T6) a' M (λq oq hq AR I L=>E q oq hq AR ?_ L) (pZ l (Ne.symm d)) x.1 (x.2.1 D) ?_⟩) g
   .by_cases F:j=q
    .subst F;exact C
    .rw[getD_set_ne T6 F]at I;exact I
   .rw[p5 _ _ d];exact x.2.2
def Cw.take{i}{d}{v}{e}{b}{a}{w}(f:ops[i]?=V d)(o:Region.noSelect ops=T6)(g:Region.free md ops b i=T6)(n:(Region.ready md ops b).contains i=T6)(j:Rs md ops k i=T6)(p:∀c a w,Q (.panic c) (a.put d.dst v) w->Q (.panic c) a w)(m:S w)(l:YieldsIf P ops S d v a)(h:Cw P md ops Q S k e (b.setIfInBounds i T6) (a.put d.dst v) w):Cw P md ops Q S k (e+1) b a w:=
 Cw.first f (Region.noSelect_spec o) p j e b a w (Region.free_spec f g) (by simpa using n) l m h
def lz(md:Region.Mode)(ops:Array Oper)(listed:Array rD)(i:Nat)(b:rD):rD:=Region.noSelect ops&&Region.free md ops listed i&&(Region.ready md ops listed).contains i&&b
def Cw.tk{i}{d}{v}{f}{e}{a}{w}(n:ops[i]?=V d)(b:lz md ops e i (Rs md ops k i)=T6)(m:∀c a w,Q (.panic c) (a.put d.dst v) w->Q (.panic c) a w)(l:jV (S w))(g:Region.wanted d (yielded ops a.tmps)=T6)(j:∀w,S w->(execOp a.eval d).run P w=.ok (.value v) w)(h:Cw P md ops Q S k f (e.setIfInBounds i T6) (a.put d.dst v) w):Cw P md ops Q S k (f+1) e a w:=by
 unfold lz at b;simp only[mC]at b;exact Cw.take n b.1.1.1 b.1.1.2 b.1.2 b.2 m l (j2 ⟨g,j⟩) h
theorem Cw.tq{i:Nat}{b:Oper}{v:jR}{e:Nat}{d:Array rD}{a:Act}{w:jH}(n:ops[i]?=V b)(g:∀c a w,Q (.panic c) (a.put b.dst v) w->Q (.panic c) a w)(l:jV (S w))(h:Cw P md ops Q S k e (d.setIfInBounds i T6) (a.put b.dst v) w)(m:lz md ops d i (Rs md ops k i)=T6:=by kernel_rfl)(f:Region.wanted b (yielded ops a.tmps)=T6:=by rfl)
  (j:∀w,S w->(execOp a.eval b).run P w=.ok (.value v) w:=by(intro o p;(try go_split_ands);go_simp)):Cw P md ops Q S k (e+1) d a w:=Cw.tk n m g l f j h
def BK{Q:Exit->Act->jH->Prop}(h:jV (∀c a w,¬Q (.panic c) a w)){d}{v}:∀c a w,Q (.panic c) (Act.put a d v) w->Q (.panic c) a w:=λ_ _ _ b=>rl b (h _ _ _)
def Cw.one{i}{o}{m}{e}{a}{w}(n:Region.ready md ops e=[i])(q:ops[i]?=V o)(h:∀f:Act->jH->Prop,jV (∀l c,(i≠k->S c)->Cw P md ops Q S k m (e.setIfInBounds i T6) l c->f l c)->
   if Region.wanted o (yielded ops a.tmps)=T6 then o.wp P a w f Q else f (a.put o.dst rH) w):Cw P md ops Q S k (m+1) e a w:=by
 refine⟨λp=>(by rw[n]at p;cases p),λj g=>?_⟩;rw[n]at g;simp at g;subst g;have b:=h _ (λl c r b=>And.intro r b);unfold wpOp;simp only[q];split
 .exact qr
 exact qr
def Cw.done{b}{a}{w}(c:Region.ready md ops b=[])(h:Q .normal a w):∀d,Cw P md ops Q S k d b a w
 |0=>⟨c,h⟩
 |_+1=>⟨λ_=>h,by rw[c];simp⟩
def Cx{b}{a}{w}(k S)(c:P.follows .mixedOrders=T6)(h:Cw P .any ops Q S k ops.size (Array.replicate ops.size K) a w.drew):(Code.region b ops T6).wp P Q a w:=
 wp_region_any c (Cw.any _ _ _ _ h)
end
end
section
set_option maxRecDepth 100000
theorem cC(E:kN jR)(j:Nat)(x:bN)(w)(c:Z E=26)(p:j<26)(q:(ku (Za E)).cells=Za E)(g:∀v∈E,v.oneCell'=T6):rE rF 179 #[ku (Za E),X kw ((j:Int)+65),O x] w λr k=>r=j1 (ku (Za (E.set j (O x))))/\Ac [] w k:=by
 have m:IntKind.i32.wrap (j:Int)=j:=by rw[IntKind.wrap_i32];omega
 have s:IntKind.i32.wrap ((j:Int)+65-65)=j:=by rw[show(j:Int)+65-65=j by omega];exact m
 have n:=rJ j
 have o:(j:Int)<26:=lc
 have i:jV (∀v∈E.set j (O x),v.oneCell'=T6):=by
  intro v l;rcases List.mem_or_eq_of_mem_set l with h|rfl
  .exact g v h
  .rfl
 have a:jV (Z (E.set j (O x))=26):=by show _=_;simp[c]
 have d:jV ((E.set j (O x)).toArray.size=26):=by show _=_;simp[c]
 go_enter func179,ntmps179;go_wp2_with (first|(refine oe rfl 243 _ rfl w.heap.size 0 lx (E.set j (O x)) _ ?_ underlying243 rfl ?_ ?_)|(refine ow rfl 243 _ _ rfl (w.heap.size+1) 0 (Za (E.set j (O x))) lx lx ?_ ?_ ?_ ?_))
 .exact((kS w (E.set j (O x)) 243).alloc _).range
 .rw[Aa a];exact Tryz.zC
 .have h:=(kS (w.alloc (Y6 (Za (E.set j (O x))) 243)) (kB 26 (O ⟨#[]⟩)) 243).there;simp only[oo,mJ]at h;rw[Aa d];exact h
 .rw[Aa d];exact Tryz.zC
 .exact nH i
 .have e:=(kS (w.alloc (Y6 (Za (E.set j (O x))) 243)) (kB 26 (O ⟨#[]⟩)) 243).zM (E.set j (O x)) (by rw[Aa a];simp);have f:=((((kR [] w).alloc (Y6 (Za (E.set j (O x))) 243)).alloc (Y6 (Za (kB 26 (O ⟨#[]⟩))) 243)).zG (b:=w.heap.size+1) (j3 lc) (E.set j (O x)) 0);simp only[mJ]at e;refine mF (Cj (b:=w.heap.size+1) rfl lx e underlying243 rfl (by rw[Aa a];exact Tryz.zC)) rfl ⟨rfl,f⟩
end
variable{w:jH}{b n i m k j:Nat}{y:kN jR}{T:TypeId}{z:jR}{e:kN bN}{s:bN}{I:Int}
theorem Tryz.zt:(Tryz.prog.info? 21).map (λi=>(i.zero,i.size,i.bytes))=V (V (X kw 0),1,4):=lo
def NZ:kN jR->Nat->kN jR->kN jR
 |cs,_,[]=>cs
 |cs,o,v::r=>NZ (cs.set o v) (o+1) r
def Hb:∀(b a:kN jR) (o),o+Z b<=Z a->NZ a o b=qT o a++b++a.drop (o+Z b)
 |[],a,o,h=>by simp[NZ]
 |v::r,a,o,h=>by
  simp at h;rw[NZ,Hb r _ (o+1) li];have c:qT (o+1) (a.set o v)=qT o a++[v]:=by
   rw[lW li,List.take_set_of_le lc];simp
  have d:(a.set o v).drop (o+1+Z r)=a.drop (o+(Z r+1)):=by
   rw[List.drop_set_of_lt lc]
   exact li
  rw[c,d];simp
def DU:∀b a o,Z (NZ a o b)=Z a
 |[],a,o=>rfl
 |v::r,a,o=>by rw[NZ,DU r];simp
def AF.setCells{b}{t}:∀(c:kN jR) {w:jH} {a:kN jR} (o:Nat),AF w b a t->AF (w.setCells b o c) b (NZ a o c) t
 |[],_,_,_,h=>h
 |v::r,w,a,o,h=>by
  exact AF.setCells r (o+1) (h.set o v)
def Ac.setCells{M}{a}{b}(c:b∈M\/a.heap.size<=b):∀(d:kN jR) {w:jH} (o:Nat),Ac M a w->Ac M a (w.setCells b o d)
 |[],_,_,h=>h
 |v::r,w,o,h=>by
  exact Ac.setCells c r (o+1) (h.setCell (p:=⟨b,o,Y⟩) c v)
def AF.shape{w}{b}{a}{t}(h:AF w b a t):w.shape? b=V (t,Z a):=by
 unfold AF at h;simp[World.shape?,h]
def AF.some(h:AF w b y T)(k)(a:k<Z y):(jY w ⟨b,k,Y⟩).isSome=T6:=by
 rw[h.D,mc a];rfl
def ff{b a:kN jR}(j:qT n b=a)(f:Z a=n)(h:i<=n)(k:n+1<=Z b)(x):
  qT (n+1) (NZ (NZ b (i+1) (a.drop i)) i [x])=qT i a++x::a.drop i:=by
 rw[Hb [x] _ i (by rw[DU];simp;omega),Hb _ b (i+1) li];have d:qT i (qT (i+1) b++a.drop i++b.drop (i+1+Z (a.drop i)))=qT i a:=by
  rw[mY,m8 li,pi,oP lc,<-j,pi,oP h]
 have g:(qT (i+1) b++a.drop i++b.drop (i+1+Z (a.drop i))).drop (i+[x].length)=a.drop i++b.drop (i+1+Z (a.drop i)):=by
  rw[mY,List.drop_left' li]
 rw[d,g,mY,List.take_append,lY li]
 have e:n+1-Z (qT i a)=(n-i)+1:=li
 exact qr
theorem Tryz.zh:(Tryz.prog.info? 170).map (λi=>(i.zero,i.size,i.bytes))=V (V (O ⟨#[]⟩),1,16):=lo
def S2(te sl fn ov bz:Nat)(z:jR):Prop:=
 (te=9/\sl=41/\fn=218/\ov=231/\bz=16/\z=O ⟨#[]⟩)\/(te=21/\sl=234/\fn=220/\ov=233/\bz=4/\z=X kw 0)\/(te=170/\sl=102/\fn=214/\ov=229/\bz=16/\z=O ⟨#[]⟩)
def S2.info{a c d e b}{z}(h:S2 a c d e b z):(rF.info? a).map (λi=>(i.zero,i.size,i.bytes))=V (V z,1,b):=by
 rcases h with⟨rfl,rfl,rfl,rfl,rfl,rfl⟩|⟨rfl,rfl,rfl,rfl,rfl,rfl⟩|⟨rfl,rfl,rfl,rfl,rfl,rfl⟩
 .exact Tryz.zk
 .exact Tryz.zt
 .exact Tryz.zh
def S2.ul(h:S2 n m k i j z):rF.underlying m=V (.slice n):=by
 rcases h with⟨rfl,rfl,rfl,rfl,rfl,rfl⟩|⟨rfl,rfl,rfl,rfl,rfl,rfl⟩|⟨rfl,rfl,rfl,rfl,rfl,rfl⟩
 .exact ln
 .exact ln
 exact ln
theorem S2.over(h:S2 n m k i j z)(a w):(callFunc i a).run rF w=((Extern.SlicesOverlaps.overlaps #[m,m] #[4] a).run rF w).andThen λv b=> .ok (.value v) b:=by
 rcases h with⟨rfl,rfl,rfl,rfl,rfl,rfl⟩|⟨rfl,rfl,rfl,rfl,rfl,rfl⟩|⟨rfl,rfl,rfl,rfl,rfl,rfl⟩
 .exact pV func231 lo lo lo lo _ _
 .exact pV func233 lo lo lo lo _ _
 .exact pV func229 lo lo lo lo _ _
def S2.one(h:S2 n m k i j z):z.cells=#[z]:=by
 rcases h with⟨_,_,_,_,_,rfl⟩|⟨_,_,_,_,_,rfl⟩|⟨_,_,_,_,_,rfl⟩<;>rfl
def S2.small(h:S2 n m k i j z):j<=16:=by rcases h with h|h|h<;>omega
set_option maxRecDepth 100000
theorem dH{b o F H bz}(p:S2 b o F H bz z)(g n c i f)(d t:kN jR)(k w)(hi:i<n)(BA:n+1<=c)(Bx:c<=9223372036854775807)(D:f≠g)(A0:Z d=n)(q:AF w g t b)(AH:Z t=c)(S:qT n t=d)(s:AF w f [k] b)(AB:∀v∈d,v.oneCell'=T6)(T:k.oneCell'=T6):rE rF F #[U (V ⟨g,0,Y⟩) n c,X J i,U (V ⟨f,0,Y⟩) 1 1] w λe Q=>
   e=j1 (U (V ⟨g,0,Y⟩) (n+1) c)/\Q=(w.drew.setCells g (i+1) (d.drop i)).setCells g i [k]:=by
 obtain⟨i0,P,A2,I,EK⟩:=mW p.info;have E:(rF.info? b).map (·.size)=V 1:=by rw[P];simp[I]
 have A1:∀w,(Go.sizeOf b).run rF w=.ok 1 w:=λw=>by simp[sizeOf,typeInfo,P,I]
 have L:∀j,j<n+1->(jY w ⟨g,j,Y⟩).isSome=T6:=λj a=>q.some j lc
 have N:∀j,w.frozen? ⟨g,j,Y⟩=K:=λj=>q.qI j
 have G:∀j v,d[j]?=V v->jY w ⟨g,j,Y⟩=V v:=λj v a=>by
  rw[q.D];rw[<-S,nV]at a;split at a
  .exact a
  .cases a
 have W:∀y x,(callFunc H #[U (V ⟨f,0,Y⟩) 1 1,U (V ⟨g,i+1,Y⟩) y x]).run rF w=.ok (.value (.bool K)) w:=λy x=>by
  rw[p.over,Lib.run_overlaps_apart w o 4 b p.ul 1 A1 ⟨f,0,Y⟩ ⟨g,i+1,Y⟩ 1 1 y x D b b 1 c (by simpa using s.shape) (by rw[<-AH];exact q.shape) lc (s.qI 0) (s.qI 1)];rfl
 have AR:Z (d.drop i)=n-i:=by rw[mX,A0]
 have C:∀m h A,(Builtin.copy_ #[o,o] m #[U (V ⟨g,i+1,Y⟩) (n-i) h,U (V ⟨g,i,Y⟩) (n+1-i) A]).run rF w.drew=.ok (goInt (Z (d.drop i))) (w.drew.setCells g (i+1) (d.drop i)):=λm h A=>
  run_copy_cells w.drew _ _ m b g (i+1) (n-i) h ⟨g,i,Y⟩ (n+1-i) A (d.drop i) p.ul E (by rw[AR];simp only[qe];split<;>omega)
   (λj v a=>by rw[oN];exact G (i+j) v (by rwa [pB]at a))
   (λj a=>L _ lc) (λj a=>N _) (λv hv=>AB v (oR hv))
 obtain⟨l,r⟩:∃l,l=w.drew.setCells g (i+1) (d.drop i):=⟨_,rfl⟩;have u:AF l g (NZ t (i+1) (d.drop i)) b:=by rw[r];exact q.drew.setCells _ _
 have B:AF l f [k] b:=by rw[r];exact s.drew.C (Ac.setCells (M:=[g]) ln _ _ (kR _ _)) (by simpa using D)
 have R:∀m h,(Builtin.copy_ #[o,o] m #[U (V ⟨g,i,Y⟩) (n+1-i) h,U (V ⟨f,0,Y⟩) 1 1]).run rF l=.ok (goInt [k].length) (l.setCells g i [k]):=λm h=>
  run_copy_cells l _ _ m b g i (n+1-i) h ⟨f,0,Y⟩ 1 1 [k] p.ul E (by simp only[qe];split<;>simp<;>omega)
   (λj v a=>by rw[oN,m7,B.D];exact a)
   (λj a=>u.some _ (by rw[DU];simp at a;omega)) (λj a=>u.qI _) (by simpa using T)
 rw[<-r]at C;have B9:IntKind.i64.wrap ((i:Int)+1)=(i:Int)+1:=by rw[oT];omega
 have BT:¬((i:Int)=(n:Int)):=lc
 have DT:(0:Int)<=(i:Int)+1:=lc
 have B2:i<=n:=lc
 have BS:((i:Int)+1).toNat=i+1:=lc
 have CC:¬(c=i+1):=lc
 have EM:(i:Int)<=(n:Int)+1:=lc
 have CW:¬(c=i):=lc
 have mixed:rF.follows Departure.mixedOrders=T6:=lo
 have AO:=Ab r;clear q s u B G L N r;rcases p with⟨rfl,rfl,rfl,rfl,rfl,rfl⟩|⟨rfl,rfl,rfl,rfl,rfl,rfl⟩|⟨rfl,rfl,rfl,rfl,rfl,rfl⟩
 case' inl=>go_enter func218,ntmps218
 case' inr.inl=>go_enter func220,ntmps220
 case' inr.inr=>go_enter func214,ntmps214
 all_goals
  go_wp2_with (simp only[W])
  go_region_law_o (refine step_copy_runI rfl _ _ _ _ rfl _ _ sk sk (C _ _ _) ?_)
  go_wp2_with (at_builtin;refine wpList_copy_runI _ rfl _ _ _ _ rfl _ _ rfl rfl (R _ _) ?_)
  go_ret;exact⟨rfl,by rw[Aa AO]⟩
theorem eW{a p fn ov bz}(m:S2 a p fn ov bz z)(g n c i q)(k y:kN jR)(f w)(hi:i<n)(Ha:n<=c)(CC:c<n+1)(HD:n<=1000000)(FB:Z k=n)(B:AF w g y a)(FW:Z y=c)(P:qT n y=k)(I:AF w q [f] a)(EM:∀v∈k,v.oneCell'=T6)(B2:f.oneCell'=T6):rE rF fn #[U (V ⟨g,0,Y⟩) n c,X J i,U (V ⟨q,0,Y⟩) 1 1] w λe w'=>
   ∃(b:kN jR) (G:Nat),Z b=G/\n+1<=G/\G<=maxLen/\qT i b=qT i k/\e=j1 (U (V ⟨w.heap.size,0,Y⟩) (n+1) G)/\
   w'=(((w.alloc (Y6 (Za b) a)).drew.setCells w.heap.size i [f]).drew).setCells w.heap.size (i+1) (k.drop i):=by
 obtain⟨i0,A2,BT,AT,A0⟩:=mW m.info;have mixed:rF.follows Departure.mixedOrders=T6:=lo
 have Ax:(rF.info? a).map (·.size)=V 1:=by rw[A2];simp[AT]
 have FL:=B.lt;have FF:=I.lt;have R:(n:Int)+1-(i:Int)=((n+1-i:Nat):Int):=lc
 have E:i+(n+1-i)=n+1:=lc
 have AR:∀j v,k[j]?=V v->jY w ⟨g,j,Y⟩=V v:=λj v d=>by
  rw[B.D];rw[<-P,nV]at d;split at d
  .exact d
  .cases d
 have T:(Builtin.firstCells i0.size i (U (V ⟨g,0,Y⟩) i c)).run rF w.drew=.ok (Za (qT i k)) w.drew:=by
  rw[AT];exact run_firstCells_some w.drew 1 i ⟨g,0,Y⟩ i c (qT i k) (by rw[mT];omega) (λj v d=>by
   rw[oN,m7]
   rw[nV]at d
   split at d
   .exact AR j v d
   .cases d)
 have u:∀l,(Builtin.append_ #[p,3] l #[U (V ⟨g,0,Y⟩) i c,X J ((n:Int)+1-(i:Int))]).run rF w=
   .ok (U (V ⟨w.heap.size,0,Y⟩) (n+1) (grownCap w (n+1) c a)) (w.drew.alloc (Y6 (Za (qT i k)++Builtin.zeroCells z.cells (n+1-i)++Builtin.zeroCells z.cells (grownCap w (n+1) c a-(n+1))) a)):=λl=>by
  have h:=Lib.run_append_grow_zeros w p 3 l a i0 _ J J m.ul underlying3 A2 BT (V ⟨g,0,Y⟩) i c (qT i k) T (n+1-i) lc lc lc lc (by have:=m.small;rw[A0];exact mZ (Nat.mul_le_mul_left _ this) lc) (by have:=m.small;rw[A0,E];exact growslice_fits CC (mZ (Nat.mul_le_mul_left _ this) lc));rw[E]at h;rw[R];exact h
 obtain⟨G,A⟩:∃G,G=grownCap w (n+1) c a:=⟨_,rfl⟩;obtain⟨b,t⟩:∃b:kN jR,Za b=Za (qT i k)++Builtin.zeroCells z.cells (n+1-i)++Builtin.zeroCells z.cells (G-(n+1)):=⟨_,Array.toArray_toList⟩;rw[<-A]at u;rw[<-t]at u;have ES:n+1<=G:=by rw[A];exact grownCap_ge w _ _ _
 have D:G<=maxLen:=by rw[A];exact grownCap_le_maxLen w (n+1) c a lw
 have Bx:Z b=G:=by
  have:=rk Array.size t;simp[Builtin.zeroCells,m.one]at this;omega
 have AO:qT i b=qT i k:=by
  have h:=rk Array.toList t;simp only[Array.toList_append,mY]at h;rw[h,m8 li];simp[pi]
 obtain⟨N,hN⟩:=kQ w.heap.size;have s:AF (w.drew.alloc (Y6 (Za b) a)) N b a:=by rw[<-hN];exact kS w.drew b a
 have S:AF (w.drew.alloc (Y6 (Za b) a)) q [f] a:=I.drew.alloc _;have CW:∀(W:jH),(∀x,jY W x=jY (w.drew.alloc (Y6 (Za b) a)) x)->(∀x,W.frozen? x=(w.drew.alloc (Y6 (Za b) a)).frozen? x)->∀l o,(Builtin.copy_ #[p,p] l #[U (V ⟨N,i,Y⟩) (n+1-i) o,U (V ⟨q,0,Y⟩) 1 1]).run rF W=.ok (goInt [f].length) (W.setCells N i [f]):=λW r F l o=>
  run_copy_cells W _ _ l a N i (n+1-i) o ⟨q,0,Y⟩ 1 1 [f] m.ul Ax (by simp only[qe];split<;>simp<;>omega)
   (λj v d=>by rw[oN,m7,r,S.D];exact d)
   (λj d=>by rw[r];exact s.some _ (by simp at d;omega)) (λj d=>by rw[F];exact s.qI _) (by simpa using B2)
 have C:AF ((w.drew.alloc (Y6 (Za b) a)).setCells N i [f]) N (NZ b i [f]) a:=s.setCells _ _;have Q:AF ((w.drew.alloc (Y6 (Za b) a)).setCells N i [f]) g y a:=(B.drew.alloc _).C (Ac.setCells (M:=[N]) ln _ _ (kR _ _)) li;have EY:Z (k.drop i)=n-i:=by rw[mX,FB]
 have L:∀(W:jH),(∀x,jY W x=jY ((w.drew.alloc (Y6 (Za b) a)).setCells N i [f]) x)->(∀x,W.frozen? x=((w.drew.alloc (Y6 (Za b) a)).setCells N i [f]).frozen? x)->∀l o H,(Builtin.copy_ #[p,p] l #[U (V ⟨N,i+1,Y⟩) (n-i) o,U (V ⟨g,i,Y⟩) (n-i) H]).run rF W=.ok (goInt (Z (k.drop i))) (W.setCells N (i+1) (k.drop i)):=λW r F l o H=>
  run_copy_cells W _ _ l a N (i+1) (n-i) o ⟨g,i,Y⟩ (n-i) H (k.drop i) m.ul Ax (by rw[EY];simp only[qe];split<;>omega)
   (λj v d=>by
    rw[oN,r,Q.D]
    rw[pB,<-P,nV]at d
    split at d
    .exact d
    .cases d)
   (λj d=>by rw[r];exact C.some _ (by rw[DU];omega))
   (λj d=>by rw[F];exact C.qI _) (λv hv=>EM v (oR hv))
 have B9:∀x,jY ((w.alloc (Y6 (Za b) a)).drew) x=jY (w.drew.alloc (Y6 (Za b) a)) x:=λx=>rfl
 have E0:∀x,((w.alloc (Y6 (Za b) a)).drew).frozen? x=(w.drew.alloc (Y6 (Za b) a)).frozen? x:=λx=>rfl
 have EK:∀x,jY (((w.alloc (Y6 (Za b) a)).drew.setCells N i [f]).drew) x=jY ((w.drew.alloc (Y6 (Za b) a)).setCells N i [f]) x:=λx=>rfl
 have FC:∀x,(((w.alloc (Y6 (Za b) a)).drew.setCells N i [f]).drew).frozen? x=((w.drew.alloc (Y6 (Za b) a)).setCells N i [f]).frozen? x:=λx=>rfl
 have HB:IntKind.i64.wrap ((i:Int)+1)=(i:Int)+1:=by rw[oT];omega
 have FT:¬((i:Int)=(n:Int)):=lc
 have HF:(c:Int)<(n:Int)+1:=lc
 have HH:(0:Int)<=(i:Int)+1:=lc
 have Go:i<=n:=lc
 have FO:((i:Int)+1).toNat=i+1:=lc
 have HI:(i:Int)<=(n:Int):=lc
 have HG:¬(G=i):=lc
 have FP:¬(G=i+1):=lc
 have HC:¬(c=i):=lc
 have HA:G<=9223372036854775807:=by unfold maxLen at D;omega
 have BA:=Ab Bx;have B0:=Ab AO;have DT:=Ab D;rw[hN]at u|-;clear R E T t A Bx AO D B I s S C Q AR;rcases m with⟨rfl,rfl,rfl,rfl,rfl,rfl⟩|⟨rfl,rfl,rfl,rfl,rfl,rfl⟩|⟨rfl,rfl,rfl,rfl,rfl,rfl⟩
 case' inl=>go_enter func218,ntmps218
 case' inr.inl=>go_enter func220,ntmps220
 case' inr.inr=>go_enter func214,ntmps214
 all_goals
  go_wp2_with (first
   |(at_builtin;refine Lib.wpList_append_run _ rfl _ _ _ _ rfl _ _ rfl rfl _ _ (u _) ?_)
   |(at_builtin;refine wpList_copy_runI _ rfl _ _ _ _ rfl _ _ rfl rfl (CW _ B9 E0 _ _) ?_)
   |(at_builtin;refine wpList_copy_runI _ rfl _ _ _ _ rfl _ _ rfl rfl (L _ (λ_=>rfl) (λ_=>rfl) _ _ _) ?_))
  go_region_law_o (refine step_copy_runI rfl _ _ _ _ rfl (U (V ⟨N,i+1,Y⟩) (n-i) (G-(i+1))) (U (V ⟨g,i,Y⟩) (n-i) (c-i)) sk sk (L _ EK FC 3 (G-(i+1)) (c-i)) ?_)
  go_wp2;go_ret;exact⟨b,G,BA,ES,DT,B0,rfl,rfl⟩
theorem Ns{s sl fn ov bz}(p:S2 s sl fn ov bz z)(r d n)(l:kN jR)(i x t m w)(q:kt w t s 1 (U r n d) n l)(f:Z l=n)(EM:n<=1000000)(hi:i<=n)(B:AF w m [x] s)(N:∀v∈l,v.oneCell'=T6)(y:x.oneCell'=T6)(T:(U r n d).ownBlock≠V m)(H:t<=w.heap.size):rE rF fn #[U r n d,X J i,U (V ⟨m,0,Y⟩) 1 1] w λe C=>∃g cp,e=j1 (U (V ⟨g,0,Y⟩) (n+1) cp)/\kt C t s 1 (U (V ⟨g,0,Y⟩) (n+1) cp) (n+1) (Gi l i x)/\Ac (qV (qW (U r n d))) w C/\((U r n d).ownBlock=V g\/w.heap.size<=g):=by
 have HB:=Ma (l:=l) lc x (at_:=i);by_cases HJ:i=n
 .subst HJ;obtain⟨i0,A0,W,A2,AH⟩:=mW p.info;have HI:Hid (Gi l i x=l++[x]):=by
   show Gi l i x=l++[x];rw[Gi,lY lc,mN lc]
  have HV:Hid (∀j u,[x][j]?=V u->jY w ((⟨m,0,Y⟩:Addr).add j)=V u):=λj u hu=>by rw[oN,m7,B.D];exact hu
  have HL:=Ab q;have A1:=p.ul;have HN:=p.small;have H1:=Ab y;have Bx:∀v∈[x],v.oneCell'=T6:=λv hv=>by rw[lX.1 hv];exact y
  have HX:=Ab Bx;clear B HB N y Bx T;cases r with
  |none=>
   have FC:i=0/\d=0:=by
    rcases q.2 with⟨b,D⟩|⟨g,c,o,b,_⟩
    .exact qr
    .simp at b
   obtain⟨rfl,rfl⟩:=FC;have CC:l=[]:=nZ.1 f;subst CC;clear q f;rcases p with⟨rfl,rfl,rfl,rfl,rfl,rfl⟩|⟨rfl,rfl,rfl,rfl,rfl,rfl⟩|⟨rfl,rfl,rfl,rfl,rfl,rfl⟩
   case' inl=>go_enter func218,ntmps218
   case' inr.inl=>go_enter func220,ntmps220
   case' inr.inr=>go_enter func214,ntmps214
   all_goals
    go_wp2_with (at_builtin;refine mE _ rfl _ _ _ rfl t _ i0 _ 1 _ A1 A0 W A2 AH rfl lc (U Y 0 0) 0 [] rfl HL ⟨m,0,Y⟩ 1 1 [x] rfl rfl HV HX lc lw lc H _ rfl ?_;intro R I w9 P L E E0)
    go_ret;refine⟨R,I,rfl,P,(kR _ w).grown L (λk F=>j2 li),?_⟩;rcases E with h|h
    .exact j2 h
    .exact j3 lc
  |some a=>
   obtain⟨ab,ao,EX⟩:=a;have HH:ao=0/\EX=Y:=by
    rcases q.2 with⟨b,D⟩|⟨g,c,o,b,_⟩
    .simp at b
    exact qr
   obtain⟨rfl,rfl⟩:=HH;have DT:i<=d/\d<=maxLen:=by
    rcases q.2 with⟨b,D⟩|⟨g,c,o,b,_,_,h1,h2,_⟩
    .simp at b
    exact qr
   obtain⟨B2,A⟩:=DT;unfold maxLen at A;clear q;rcases p with⟨rfl,rfl,rfl,rfl,rfl,rfl⟩|⟨rfl,rfl,rfl,rfl,rfl,rfl⟩|⟨rfl,rfl,rfl,rfl,rfl,rfl⟩
   case' inl=>go_enter func218,ntmps218
   case' inr.inl=>go_enter func220,ntmps220
   case' inr.inr=>go_enter func214,ntmps214
   all_goals
    go_wp2_with (at_builtin;refine mE _ rfl _ _ _ rfl t _ i0 _ 1 _ A1 A0 W A2 AH rfl lc (U (V ⟨ab,0,Y⟩) i d) i l rfl HL ⟨m,0,Y⟩ 1 1 [x] rfl rfl HV HX lc lw lc H _ rfl ?_;intro R I w9 P L E E0)
    all_goals
     go_ret;rw[Aa HI];refine⟨R,I,rfl,P,(kR _ w).grown L (λk F=>j2 (by rw[n7];exact F)),?_⟩;rcases E with h|h
     .exact j2 h
     exact lc
 .have BT:i<n:=by omega
  rcases q.2 with⟨b,D⟩|⟨g,c,o,b,hb,FL,B2,A,FA,HD⟩
  .omega
  .obtain⟨rfl,_,rfl⟩:=qX b;(have HE:m≠g:=λe=>T (by simp[kE,e]));(have M:AF w g o.toList s:=oa);(have BA:Z o.toList=d:=li);(have S:o.toList.take n=l:=by simpa using HD);by_cases Ax:n+1<=d
   .refine(dH p g n d i m l _ x w BT Ax oa HE f M BA S B N y).G ?_;rintro e C ⟨rfl,rfl⟩;have Q:=(M.drew.setCells (l.drop i) (i+1)).setCells [x] i;refine⟨g,d,rfl,⟨?_,j3 ⟨g,d,_,rfl,hb,Q,Ax,A,?_,?_⟩⟩,?_,j2 rfl⟩
    .omega
    .simp only[nu,DU];omega
    .simp;exact ff S f hi lc _
    .exact Ac.setCells sw _ _ (Ac.setCells sw _ _ (kR _ w).drew)
   .refine(eW p g n d i m l _ x w BT B2 lc EM f M BA S B N y).G ?_;rintro e C ⟨AR,G,HO,FB,FP,ES,rfl,rfl⟩;have Q:=((kS w AR s).drew.setCells [x] i).drew.setCells (l.drop i) (i+1);(have hd:Z (l.drop i)=n-i:=by rw[mX,f]);refine⟨_,G,rfl,⟨?_,j3 ⟨_,G,_,rfl,H,Q,FB,FP,?_,?_⟩⟩,?_,j3 (mt _)⟩
    .omega
    .simp only[nu,DU];omega
    .simp;rw[Hb _ _ _ (by rw[DU,hd];omega),Hb _ _ _ li,ES];have e1:qT (i+1) (List.take i l++[x]++List.drop (i+[x].length) AR)=List.take i l++[x]:=by
      rw[m8 li,lY li]
     rw[e1,m8 li,lY li];simp[Gi]
    .exact Ac.setCells (j3 (mt _)) _ _ (Ac.setCells (j3 (mt _)) _ _ ((kR _ w).alloc _).drew).drew
def Ym(l:kN bN):qS Ai l=l.map (O):=by
 induction l with
 |nil=>rfl
 |cons a l ih=>rw[mB,mA,ih];rfl
def ld(l:kN bN):∀v∈qS Ai l,v.oneCell'=T6:=by
 intro v b;rw[Ym]at b;obtain⟨a,_,rfl⟩:=me.1 b;rfl
def UC(l i x):qS Ai (Gi l i x)=qT i (qS Ai l)++ O x::(qS Ai l).drop i:=by
 rw[Ym,Ym,Gi,mO,mA,List.map_take,List.map_drop]
def Wj(b a)(l:kN bN)(i)(x:bN)(d c w)(k:kt w d 9 1 (U b (Z l) a) (Z l) (qS Ai l))(o:Z l<=1000000)(p:i<=Z l)(n:AF w c [O x] 9)(m:(U b (Z l) a).ownBlock≠V c)(j:d<=w.heap.size):
  rE rF 218 #[U b (Z l) a,X J i,U (V ⟨c,0,Y⟩) 1 1] w λe f=>∃g h,e=j1 (U (V ⟨g,0,Y⟩) (Z l+1) h)/\kt f d 9 1 (U (V ⟨g,0,Y⟩) (Z l+1) h) (Z l+1) (qS Ai (Gi l i x))/\Ac (qV (qW (U b (Z l) a))) w f/\((U b (Z l) a).ownBlock=V g\/w.heap.size<=g):=by
 rw[UC];exact Ns (j2 ⟨rfl,rfl,rfl,rfl,rfl,rfl⟩) b a (Z l) _ i (O x) d c w k (by rw[Ym];simp) o p n (ld l) rfl m j
def Jo(l:kN bN)(x:bN):rD:=l.any λy=>jI y x
def G4(l x):Jo l x=T6↔x∈l:=by
 unfold Jo;rw[nD];constructor
 .rintro ⟨y,a,h⟩;rw[<-(Jj.eqv y x).1 h];exact a
 .intro h;exact⟨x,h,(Jj.eqv x x).2 rfl⟩
def El.inS(a:C3 Hn e)(h:El Hn e 0 s n):EE jI e n s=Jo e s:=by
 rw[nz,h.has Jj a,G4]
theorem Ul(h f)(l:kN bN)(x:bN)(m w)(i:kt w m 9 1 (U h (Z l) f) (Z l) (qS Ai l))(s:Z l<=1000000)(j:C3 Hn l):rE rF 121 #[U h (Z l) f,O x] w λe k=>e=j1 (.bool (Jo l x))/\k=w:=by
 have o:=Ab (Tx (U h (Z l) f) l 0 x m w i s (mr _) j);have t:=Ab j;have u:=Ab i;clear i j;go_enter func121,ntmps121;go_wp2_with fail
 refine o.G ?_;rintro e k ⟨b,rfl,c,rfl⟩;have q:=Ab (c.inS t);have y:=c.le;clear o c;by_cases a:b<Z l
 .obtain⟨g,v,p,z,n⟩:=Az u (by simp[Ai]) b a;obtain⟨rfl,_,rfl⟩:=qX p;have r:=n b a 0 lc;simp[Ai]at r;clear n;have d:Hid (Jo l x=jI l[b] x):=by show _=_;rw[<-Aa q];unfold EE;rw[dif_pos a]
  go_wp2;go_ret;rw[d.o];exact⟨rfl,rfl⟩
 .have d:Hid (Jo l x=K):=by show _=_;rw[<-Aa q];unfold EE;rw[dif_neg a]
  go_wp2;go_ret;rw[d.o];exact⟨rfl,rfl⟩
def OK(base:Nat)(lv:jR)(l:kN bN)(x:bN)(w:jH)(e:Ending)(w':jH):Prop:=
 ∃(l':kN bN) (ad':rB) (cp':Nat),e=j1 (U ad' (Z l') cp')/\C3 Hn l'/\(∀y,y∈l'↔y=x\/y∈l)/\Z l<=Z l'/\Z l'<=Z l+1/\
  kt w' base 9 1 (U ad' (Z l') cp') (Z l') (qS Ai l')/\Ac (qV (qW lv)) w w'/\(∀k,(U ad' (Z l') cp').ownBlock=V k->lv.ownBlock=V k\/w.heap.size<=k)
theorem fC(d b)(l:kN bN)(x:bN)(f w)(B:kt w f 9 1 (U d (Z l) b) (Z l) (qS Ai l))(I:Z l<=1000000)(C:C3 Hn l)(A2:f<=w.heap.size):rE rF 194 #[U d (Z l) b,O x] w λe a=>OK f (U d (Z l) b) l x w e a:=by
 have N:=Ab (Tx (U d (Z l) b) l 0 x f w B I (mr _) C);have v:=Ab C;have p:=Ab B;clear B C;go_enter func194,ntmps194;go_wp2_with fail
 refine N.G ?_;rintro e a ⟨c,rfl,n,rfl⟩;have G:=Ab (n.has Jj v);have u:=Ab n;have Q:=n.le;clear N n;have o:Hid (EE jI l c x=K->rE rF 218 #[U d (Z l) b,X J c,U (V ⟨a.heap.size,0,Y⟩) 1 1] (a.alloc (Y6 #[O x] 9)) λe i=>OK f (U d (Z l) b) l x a e i):=by
  intro R;have hn:AF (a.alloc (Y6 #[O x] 9)) a.heap.size [O x] 9:=kS a [O x] 9;refine(Wj d b l c x f a.heap.size _ (mg p _) I Q hn (λe=>by have:=(p.lt _ e).2;omega) li).G ?_;rintro e i ⟨g,cp,rfl,T,s,ha⟩;have M:=Ma (x:=x) Q;refine⟨Gi l c x,V ⟨g,0,Y⟩,cp,by rw[M],u.zB Jj v R,λy=>Po x y,lc,lc,by rw[M];exact T,((kR _ a).alloc _).H s,?_⟩;intro k H;simp only[kE,lZ]at H;subst H;rcases ha with h|h
  .exact j2 h
  .exact j3 (by simp at h;omega)
 have q:Hid (EE jI l c x=T6->OK f (U d (Z l) b) l x a (j1 (U d (Z l) b)) a):=by
  intro AH;have hx:=G.1 AH;exact⟨l,d,b,rfl,v,λy=>⟨j3,λh=>by rcases h with rfl|h;exact hx;exact h⟩,lc,lc,p,kR _ _,λk s=>j2 s⟩
 by_cases m:c<Z l
 .obtain⟨g,A1,P,hc,L⟩:=Az p (by simp[Ai]) c m;obtain⟨rfl,_,rfl⟩:=qX P;have S:=L c m 0 lc;simp[Ai]at S;clear L;have r:Hid (EE jI l c x=jI l[c] x):=by show _=_;unfold EE;rw[dif_pos m]
  have A0:Hid ((l[c].toList==x.toList)=T6->OK f (U (V ⟨g,0,Y⟩) (Z l) b) l x a (j1 (U (V ⟨g,0,Y⟩) (Z l) b)) a):=λt=>q (by rw[r.o];exact t)
  have AR:Hid ((l[c].toList==x.toList)=K->rE rF 218 #[U (V ⟨g,0,Y⟩) (Z l) b,X J c,U (V ⟨a.heap.size,0,Y⟩) 1 1] (a.alloc (Y6 #[O x] 9)) λe i=>OK f (U (V ⟨g,0,Y⟩) (Z l) b) l x a e i):=λt=>o (by rw[r.o];exact t)
  clear r G u o q;go_wp2_with fail
  .go_ret;exact A0 oa
  .refine(AR oa).G ?_;intro e i D;obtain⟨E,z,A,rfl,j⟩:=D;have F:=Ab j;clear j;go_wp2;go_ret;exact⟨E,z,A,rfl,F⟩
 .have W:=Ab (o (by unfold EE;rw[dif_neg m]));clear G u o q;go_wp2_with fail
  refine W.G ?_;intro e i D;obtain⟨E,z,A,rfl,j⟩:=D;have F:=Ab j;clear j;go_wp2;go_ret;exact⟨E,z,A,rfl,F⟩
def dU(l:kN Int):qS AX l=l.map (X kw):=by
 induction l with
 |nil=>rfl
 |cons a l ih=>rw[mB,mA,ih];rfl
def lK(l:kN Int):∀v∈qS AX l,v.oneCell'=T6:=by
 intro v b;rw[dU]at b;obtain⟨a,_,rfl⟩:=me.1 b;rfl
def dC(l i x):qS AX (Gi l i x)=qT i (qS AX l)++ X kw x::(qS AX l).drop i:=by
 rw[dU,dU,Gi,mO,mA,List.map_take,List.map_drop]
def Wb(b a)(l:kN Int)(i x d c w)(k:kt w d 21 1 (U b (Z l) a) (Z l) (qS AX l))(o:Z l<=1000000)(p:i<=Z l)(n:AF w c [X kw x] 21)(m:(U b (Z l) a).ownBlock≠V c)(j:d<=w.heap.size):
  rE rF 220 #[U b (Z l) a,X J i,U (V ⟨c,0,Y⟩) 1 1] w λe f=>∃g h,e=j1 (U (V ⟨g,0,Y⟩) (Z l+1) h)/\kt f d 21 1 (U (V ⟨g,0,Y⟩) (Z l+1) h) (Z l+1) (qS AX (Gi l i x))/\Ac (qV (qW (U b (Z l) a))) w f/\((U b (Z l) a).ownBlock=V g\/w.heap.size<=g):=by
 rw[dC];exact Ns (j3 (j2 ⟨rfl,rfl,rfl,rfl,rfl,rfl⟩)) b a (Z l) _ i _ d c w k (by rw[dU];simp) o p n (lK l) rfl m j
def Ln(l:kN Int)(x:Int):rD:=l.any λy=>kl y x
def R7(l x):Ln l x=T6↔x∈l:=by
 unfold Ln;rw[nD];constructor
 .rintro ⟨y,a,h⟩;rw[<-(YT.eqv y x).1 h];exact a
 .intro h;exact⟨x,h,(YT.eqv x x).2 rfl⟩
def El.inI{l}(a:C3 W9 l)(h:El W9 l 0 I n):EE kl l n I=Ln l I:=by
 rw[nz,h.has YT a,R7]
theorem dw(h f)(l:kN Int)(x m w)(i:kt w m 21 1 (U h (Z l) f) (Z l) (qS AX l))(s:Z l<=1000000)(j:C3 W9 l):rE rF 201 #[U h (Z l) f,X kw x] w λe k=>e=j1 (.bool (Ln l x))/\k=w:=by
 have o:=Ab (Ty (U h (Z l) f) l 0 x m w i s (mr _) j);have t:=Ab j;have u:=Ab i;clear i j;go_enter func201,ntmps201;go_wp2_with fail
 refine o.G ?_;rintro e k ⟨b,rfl,c,rfl⟩;have q:=Ab (c.inI t);have y:=c.le;clear o c;by_cases a:b<Z l
 .obtain⟨g,v,p,z,n⟩:=Az u (by simp[AX]) b a;obtain⟨rfl,_,rfl⟩:=qX p;have r:=n b a 0 lc;simp[AX]at r;clear n;have d:Hid (Ln l x=kl l[b] x):=by show _=_;rw[<-Aa q];unfold EE;rw[dif_pos a]
  go_wp2;go_ret;rw[d.o];exact⟨rfl,rfl⟩
 .have d:Hid (Ln l x=K):=by show _=_;rw[<-Aa q];unfold EE;rw[dif_neg a]
  go_wp2;go_ret;rw[d.o];exact⟨rfl,rfl⟩
def Vq(base:Nat)(lv:jR)(l:kN Int)(x:Int)(w:jH)(e:Ending)(w':jH):Prop:=
 ∃(l':kN Int) (ad':rB) (cp':Nat),e=j1 (U ad' (Z l') cp')/\C3 W9 l'/\(∀y,y∈l'↔y=x\/y∈l)/\Z l<=Z l'/\Z l'<=Z l+1/\
  kt w' base 21 1 (U ad' (Z l') cp') (Z l') (qS AX l')/\Ac (qV (qW lv)) w w'/\(∀k,(U ad' (Z l') cp').ownBlock=V k->lv.ownBlock=V k\/w.heap.size<=k)
theorem eD(d c)(l:kN Int)(x f w)(C:kt w f 21 1 (U d (Z l) c) (Z l) (qS AX l))(I:Z l<=1000000)(D:C3 W9 l)(A0:f<=w.heap.size):rE rF 202 #[U d (Z l) c,X kw x] w λe a=>Vq f (U d (Z l) c) l x w e a:=by
 have N:=Ab (Ty (U d (Z l) c) l 0 x f w C I (mr _) D);have z:=Ab D;have s:=Ab C;clear C D;go_enter func202,ntmps202;go_wp2_with fail
 refine N.G ?_;rintro e a ⟨b,rfl,o,rfl⟩;have u:=Ab (o.has YT z);have r:=Ab o;have Q:=o.le;clear N o;have j:Hid (EE kl l b x=K->rE rF 220 #[U d (Z l) c,X J b,U (V ⟨a.heap.size,0,Y⟩) 1 1] (a.alloc (Y6 #[X kw x] 21)) λe t=>Vq f (U d (Z l) c) l x a e t):=by
  intro R;have hn:AF (a.alloc (Y6 #[X kw x] 21)) a.heap.size [X kw x] 21:=kS a [X kw x] 21;refine(Wb d c l b x f a.heap.size _ (mg s _) I Q hn (λe=>by have:=(s.lt _ e).2;omega) li).G ?_;rintro e t ⟨g,cp,rfl,T,v,ha⟩;have M:=Ma (x:=x) Q;refine⟨Gi l b x,V ⟨g,0,Y⟩,cp,by rw[M],r.zB YT z R,λy=>Po x y,lc,lc,by rw[M];exact T,((kR _ a).alloc _).H v,?_⟩;intro k H;simp only[kE,lZ]at H;subst H;rcases ha with h|h
  .exact j2 h
  .exact j3 (by simp at h;omega)
 have p:Hid (EE kl l b x=T6->Vq f (U d (Z l) c) l x a (j1 (U d (Z l) c)) a):=by
  intro AB;have W:=u.1 AB;exact⟨l,d,c,rfl,z,λy=>⟨j3,λh=>by rcases h with rfl|h;exact W;exact h⟩,lc,lc,s,kR _ _,λk v=>j2 v⟩
 by_cases i:b<Z l
 .obtain⟨g,AR,P,hc,L⟩:=Az s (by simp[AX]) b i;obtain⟨rfl,_,rfl⟩:=qX P;have S:=L b i 0 lc;simp[AX]at S;clear L;have q:Hid (EE kl l b x=kl l[b] x):=by show _=_;unfold EE;rw[dif_pos i]
  have AT:=Ab i;cases hq:kl l[b] x with
  |true=>
   have m:=Ab (p (by rw[q.o];exact hq));simp only[kl]at hq;clear q u r j p;go_wp2;go_ret;exact m
  |false=>
   have m:=Ab (j (by rw[q.o];exact hq));simp only[kl]at hq;clear q u r j p;(go_wp2_with fail);refine m.G ?_;intro e t E;obtain⟨F,A,B,rfl,n⟩:=E;have G:=Ab n;clear n;go_wp2;go_ret;exact⟨F,A,B,rfl,G⟩
 .have m:=Ab (j (by unfold EE;rw[dif_neg i]));clear u r j p;go_wp2_with fail
  refine m.G ?_;intro e t E;obtain⟨F,A,B,rfl,n⟩:=E;have G:=Ab n;clear n;go_wp2;go_ret;exact⟨F,A,B,rfl,G⟩
def O1(a)(l:kN bN)(k)(x:bN)(c w)(g:kt w c 170 1 a (Z l) (qS Ai l))(i:Z l<=1000000)(d:k<=Z l)(h:C3 Hn l):
  rE rF 149 #[a,X J k,O x] w λe f=>∃b:Nat,e=j1 (X J b)/\El Hn l k x b/\f=w:=
 Tt (j3 ⟨rfl,rfl⟩) a l k x c w g i d h
def V8(b a)(l:kN bN)(i)(x:bN)(d c w)(k:kt w d 170 1 (U b (Z l) a) (Z l) (qS Ai l))(o:Z l<=1000000)(p:i<=Z l)(n:AF w c [O x] 170)(m:(U b (Z l) a).ownBlock≠V c)(j:d<=w.heap.size):
  rE rF 214 #[U b (Z l) a,X J i,U (V ⟨c,0,Y⟩) 1 1] w λe f=>∃g h,e=j1 (U (V ⟨g,0,Y⟩) (Z l+1) h)/\kt f d 170 1 (U (V ⟨g,0,Y⟩) (Z l+1) h) (Z l+1) (qS Ai (Gi l i x))/\Ac (qV (qW (U b (Z l) a))) w f/\((U b (Z l) a).ownBlock=V g\/w.heap.size<=g):=by
 rw[UC];exact Ns (j3 (j3 ⟨rfl,rfl,rfl,rfl,rfl,rfl⟩)) b a (Z l) _ i (O x) d c w k (by rw[Ym];simp) o p n (ld l) rfl m j
def OG(base:Nat)(lv:jR)(l:kN bN)(x:bN)(w:jH)(e:Ending)(w':jH):Prop:=
 ∃(l':kN bN) (ad':rB) (cp':Nat),e=j1 (U ad' (Z l') cp')/\C3 Hn l'/\(∀y,y∈l'↔y=x\/y∈l)/\Z l<=Z l'/\Z l'<=Z l+1/\
  kt w' base 170 1 (U ad' (Z l') cp') (Z l') (qS Ai l')/\Ac (qV (qW lv)) w w'/\(∀k,(U ad' (Z l') cp').ownBlock=V k->lv.ownBlock=V k\/w.heap.size<=k)
theorem XJ(d b)(l:kN bN)(x:bN)(f w)(B:kt w f 170 1 (U d (Z l) b) (Z l) (qS Ai l))(I:Z l<=1000000)(C:C3 Hn l)(A2:f<=w.heap.size):rE rF 185 #[U d (Z l) b,O x] w λe a=>OG f (U d (Z l) b) l x w e a:=by
 have N:=Ab (O1 (U d (Z l) b) l 0 x f w B I (mr _) C);have v:=Ab C;have p:=Ab B;clear B C;go_enter func185,ntmps185;go_wp2_with fail
 refine N.G ?_;rintro e a ⟨c,rfl,n,rfl⟩;have G:=Ab (n.has Jj v);have u:=Ab n;have Q:=n.le;clear N n;have o:Hid (EE jI l c x=K->rE rF 214 #[U d (Z l) b,X J c,U (V ⟨a.heap.size,0,Y⟩) 1 1] (a.alloc (Y6 #[O x] 170)) λe i=>OG f (U d (Z l) b) l x a e i):=by
  intro R;have hn:AF (a.alloc (Y6 #[O x] 170)) a.heap.size [O x] 170:=kS a [O x] 170;refine(V8 d b l c x f a.heap.size _ (mg p _) I Q hn (λe=>by have:=(p.lt _ e).2;omega) li).G ?_;rintro e i ⟨g,cp,rfl,T,s,ha⟩;have M:=Ma (x:=x) Q;refine⟨Gi l c x,V ⟨g,0,Y⟩,cp,by rw[M],u.zB Jj v R,λy=>Po x y,lc,lc,by rw[M];exact T,((kR _ a).alloc _).H s,?_⟩;intro k H;simp only[kE,lZ]at H;subst H;rcases ha with h|h
  .exact j2 h
  .exact j3 (by simp at h;omega)
 have q:Hid (EE jI l c x=T6->OG f (U d (Z l) b) l x a (j1 (U d (Z l) b)) a):=by
  intro AH;have hx:=G.1 AH;exact⟨l,d,b,rfl,v,λy=>⟨j3,λh=>by rcases h with rfl|h;exact hx;exact h⟩,lc,lc,p,kR _ _,λk s=>j2 s⟩
 by_cases m:c<Z l
 .obtain⟨g,A1,P,hc,L⟩:=Az p (by simp[Ai]) c m;obtain⟨rfl,_,rfl⟩:=qX P;have S:=L c m 0 lc;simp[Ai]at S;clear L;have r:Hid (EE jI l c x=jI l[c] x):=by show _=_;unfold EE;rw[dif_pos m]
  have A0:Hid ((l[c].toList==x.toList)=T6->OG f (U (V ⟨g,0,Y⟩) (Z l) b) l x a (j1 (U (V ⟨g,0,Y⟩) (Z l) b)) a):=λt=>q (by rw[r.o];exact t)
  have AR:Hid ((l[c].toList==x.toList)=K->rE rF 214 #[U (V ⟨g,0,Y⟩) (Z l) b,X J c,U (V ⟨a.heap.size,0,Y⟩) 1 1] (a.alloc (Y6 #[O x] 170)) λe i=>OG f (U (V ⟨g,0,Y⟩) (Z l) b) l x a e i):=λt=>o (by rw[r.o];exact t)
  clear r G u o q;go_wp2_with fail
  .go_ret;exact A0 oa
  .refine(AR oa).G ?_;intro e i D;obtain⟨E,z,A,rfl,j⟩:=D;have F:=Ab j;clear j;go_wp2;go_ret;exact⟨E,z,A,rfl,F⟩
 .have W:=Ab (o (by unfold EE;rw[dif_neg m]));clear G u o q;go_wp2_with fail
  refine W.G ?_;intro e i D;obtain⟨E,z,A,rfl,j⟩:=D;have F:=Ab j;clear j;go_wp2;go_ret;exact⟨E,z,A,rfl,F⟩
