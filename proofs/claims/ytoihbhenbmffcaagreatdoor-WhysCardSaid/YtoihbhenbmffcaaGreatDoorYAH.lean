import Derived.Shelf.Spec.SlicesInsertGrow
import Derived.Test.YtoihbhenbmffcaaGreatDoorYAA
set_option linter.all false
set_option maxHeartbeats 0
open List renaming length->Z
open Option renaming none->Y,some->V
open Go.Value renaming slice->U,int->X,string->O,ownBlock->jN
open Bool renaming false->K,true->jj
open Go.IntKind renaming i64->J,i32->jI
open Go.Obj renaming cells->j1
open Go.Ending renaming returned->j4
open Or renaming inl->j5,inr->j6
open Go renaming World->j7,Value->j8
open Go.World renaming ownsRow->jG
namespace Go.Proofs.YtoihbhenbmffcaaGreatDoor
open Go.RowKit Go.Proofs.Tryz
theorem Tryz.zu:(Tryz.prog.info? 21).map (λi=>(i.zero,i.size,i.bytes))=V (V (X jI 0),1,4):=by kernel_rfl
def Nt:List j8->Nat->List j8->List j8
 |cs,_,[]=>cs
 |cs,o,v::r=>Nt (cs.set o v) (o+1) r
def GW:∀(b a:List j8) (o:Nat),o+Z b<=Z a->Nt a o b=a.take o++b++a.drop (o+Z b)
 |[],a,o,h=>by simp[Nt]
 |v::r,a,o,h=>by
  simp only[eF]at h;rw[Nt,GW r (a.set o v) (o+1) (by simp;omega)];have c:(a.set o v).take (o+1)=a.take o++[v]:=by
   rw[ep (by simp;omega),List.take_set_of_le (by omega)];simp
  have d:(a.set o v).drop (o+1+Z r)=a.drop (o+(Z r+1)):=by
   rw[List.drop_set_of_lt (by omega)]
   congr 1
   omega
  rw[c,d];simp
def Dr:∀(b a:List j8) (o:Nat),Z (Nt a o b)=Z a
 |[],a,o=>rfl
 |v::r,a,o=>by rw[Nt,Dr r];simp
def AI.setCells{b:Nat}{t:TypeId}:∀(c:List j8) {w:j7} {a:List j8} (o:Nat),AI w b a t->AI (w.setCells b o c) b (Nt a o c) t
 |[],_,_,_,h=>h
 |v::r,w,a,o,h=>by
  rw[World.setCells,Nt];exact AI.setCells r (o+1) (h.set o v)
def Ac.setCells{M:List Nat}{a:j7}{b:Nat}(c:b∈M\/a.heap.size<=b):∀(d:List j8) {w:j7} (o:Nat),Ac M a w->Ac M a (w.setCells b o d)
 |[],_,_,h=>h
 |v::r,w,o,h=>by
  rw[World.setCells];exact Ac.setCells c r (o+1) (h.setCell (p:=⟨b,o,Y⟩) c v)
def AI.shape{w:j7}{b:Nat}{cs:List j8}{t:TypeId}(h:AI w b cs t):w.shape? b=V (t,Z cs):=by
 unfold AI at h;simp[World.shape?,h]
def AI.some{w:j7}{b:Nat}{cs:List j8}{t:TypeId}(h:AI w b cs t)(k:Nat)(a:k<Z cs):(w.cell? ⟨b,k,Y⟩).isSome=jj:=by
 rw[h.cell,ez a];rfl
def ZK{a cs:List j8}{n i:Nat}(h:a.take n=cs)(e:Z cs=n)(f:i<=n)(j:n+1<=Z a)(x:j8):
  (Nt (Nt a (i+1) (cs.drop i)) i [x]).take (n+1)=cs.take i++x::cs.drop i:=by
 have b:Z (cs.drop i)=n-i:=by rw[fz,e]
 rw[GW [x] _ i (by rw[Dr];simp;omega),GW (cs.drop i) a (i+1) (by rw[b];omega)];have c:(a.take (i+1)++cs.drop i++a.drop (i+1+Z (cs.drop i))).take i=cs.take i:=by
  rw[fD,fB (by simp;omega),iS,iu (by omega),<-h,iS,iu f]
 have g:(a.take (i+1)++cs.drop i++a.drop (i+1+Z (cs.drop i))).drop (i+[x].length)=cs.drop i++a.drop (i+1+Z (cs.drop i)):=by
  rw[fD,List.drop_left' (by simp;omega)]
 rw[c,g,fD,List.take_append,eu (by simp;omega)]
 congr 1
 have d:n+1-Z (cs.take i)=(n-i)+1:=by simp;omega
 rw[d];simp only[jx,gO,gd,ip];rw[fB (by omega),eu (by omega)]
end Go.Proofs.YtoihbhenbmffcaaGreatDoor
namespace Go.Proofs.YtoihbhenbmffcaaGreatDoor
open Go.RowKit Go.Proofs.Tryz
theorem Tryz.zh:(Tryz.prog.info? 170).map (λi=>(i.zero,i.size,i.bytes))=V (V (O ⟨#[]⟩),1,16):=by kernel_rfl
def Vz(te sl fn ov bz:Nat)(z:j8):Prop:=
 (te=9/\sl=41/\fn=218/\ov=231/\bz=16/\z=O ⟨#[]⟩)\/(te=21/\sl=234/\fn=220/\ov=233/\bz=4/\z=X jI 0)\/(te=170/\sl=102/\fn=214/\ov=229/\bz=16/\z=O ⟨#[]⟩)
section
variable {te sl fn ov bz:Nat} {z:j8} (h:Vz te sl fn ov bz z)
include h
def Vz.info:(prog.info? te).map (λi=>(i.zero,i.size,i.bytes))=V (V z,1,bz):=by
 rcases h with⟨rfl,rfl,rfl,rfl,rfl,rfl⟩|⟨rfl,rfl,rfl,rfl,rfl,rfl⟩|⟨rfl,rfl,rfl,rfl,rfl,rfl⟩
 .exact Tryz.zs
 .exact Tryz.zu
 .exact Tryz.zh
def Vz.ul:prog.underlying sl=some (.slice te):=by
 rcases h with⟨rfl,rfl,rfl,rfl,rfl,rfl⟩|⟨rfl,rfl,rfl,rfl,rfl,rfl⟩|⟨rfl,rfl,rfl,rfl,rfl,rfl⟩
 .exact underlying41
 .exact underlying234
 .exact underlying102
theorem Vz.over(args:Array j8)(w:j7):(callFunc ov args).run prog w=((Extern.SlicesOverlaps.overlaps #[sl,sl] #[4] args).run prog w).andThen λv a=> .ok (.value v) a:=by
 rcases h with⟨rfl,rfl,rfl,rfl,rfl,rfl⟩|⟨rfl,rfl,rfl,rfl,rfl,rfl⟩|⟨rfl,rfl,rfl,rfl,rfl,rfl⟩
 .exact jc func231 (by kernel_rfl) (by kernel_rfl) (by kernel_rfl) (by kernel_rfl) _ _
 .exact jc func233 (by kernel_rfl) (by kernel_rfl) (by kernel_rfl) (by kernel_rfl) _ _
 .exact jc func229 (by kernel_rfl) (by kernel_rfl) (by kernel_rfl) (by kernel_rfl) _ _
def Vz.one:z.cells=#[z]:=by
 rcases h with⟨_,_,_,_,_,rfl⟩|⟨_,_,_,_,_,rfl⟩|⟨_,_,_,_,_,rfl⟩<;>rfl
def Vz.small:bz<=16:=by rcases h with h|h|h<;>omega
end
set_option maxRecDepth 100000
theorem YO{te sl fn ov bz:Nat}{z:Value}(hT:Vz te sl fn ov bz z)(g n c i vb:Nat)(cs cur:List Value)(xv:Value)(w:World)(hi:i<n)(hroom:n+1<=c)(hc63:c<=9223372036854775807)(hvb:vb≠g)
  (hcl:cs.length=n) (hB:AI w g cur te) (hcur:cur.length=c) (htk:cur.take n=cs) (hV:AI w vb [xv] te) (h1c:∀v∈cs,v.oneCell'=true) (h1v:xv.oneCell'=true):
  Calls prog fn #[.slice (some ⟨g,0,none⟩) n c,.int .i64 i,.slice (some ⟨vb,0,none⟩) 1 1] w λe w'=>
   e=.returned (.slice (some ⟨g,0,none⟩) (n+1) c)/\w'=(w.drew.setCells g (i+1) (cs.drop i)).setCells g i [xv]:=by
 obtain⟨i0,hi0,hz0,hzs,hzb⟩:=fC hT.info;have hsz:(prog.info? te).map (·.size)=some 1:=by rw[hi0];simp[hzs]
 have hzo:∀w,(Go.sizeOf te).run prog w=.ok 1 w:=λw=>by simp[sizeOf,typeInfo,hi0,hzs]
 have hsp:∀j,j<n+1->(w.cell? ⟨g,j,none⟩).isSome=true:=λj hj=>hB.some j (by omega)
 have hfz:∀j,w.frozen? ⟨g,j,none⟩=false:=λj=>hB.frozen j
 have hcs:∀j v,cs[j]?=some v->w.cell? ⟨g,j,none⟩=some v:=λj v hj=>by
  rw[hB.cell];rw[<-htk,gT]at hj;split at hj
  .exact hj
  .cases hj
 have hov:∀lb cb,(callFunc ov #[.slice (some ⟨vb,0,none⟩) 1 1,.slice (some ⟨g,i+1,none⟩) lb cb]).run prog w=.ok (.value (.bool false)) w:=λlb cb=>by
  rw[hT.over,Lib.run_overlaps_apart w sl 4 te hT.ul 1 hzo ⟨vb,0,none⟩ ⟨g,i+1,none⟩ 1 1 lb cb hvb te te 1 c (by simpa using hV.shape) (by rw[<-hcur];exact hB.shape) (by omega) (hV.frozen 0) (hV.frozen 1)];rfl
 have hdl:(cs.drop i).length=n-i:=by rw[fz,hcl]
 have hcp1:∀ty dc sc,(Builtin.copy_ #[sl,sl] ty #[.slice (some ⟨g,i+1,none⟩) (n-i) dc,.slice (some ⟨g,i,none⟩) (n+1-i) sc]).run prog w.drew=.ok (goInt (cs.drop i).length) (w.drew.setCells g (i+1) (cs.drop i)):=λty dc sc=>
  run_copy_cells w.drew _ _ ty te g (i+1) (n-i) dc ⟨g,i,none⟩ (n+1-i) sc (cs.drop i) hT.ul hsz (by rw[hdl];simp only[jo];split<;>omega)
   (λj v hj=>by rw[il];exact hcs (i+j) v (by rwa [iU]at hj))
   (λj hj=>hsp _ (by omega)) (λj hj=>hfz _) (λv hv=>h1c v (iy hv))
 obtain⟨W1,hW1⟩:∃W1,W1=w.drew.setCells g (i+1) (cs.drop i):=⟨_,rfl⟩;have hB1:AI W1 g (Nt cur (i+1) (cs.drop i)) te:=by rw[hW1];exact hB.drew.setCells _ _
 have hV1:AI W1 vb [xv] te:=by rw[hW1];exact hV.drew.kept (Ac.setCells (M:=[g]) (by simp) _ _ (Ac.refl _ _)) (by simpa using hvb)
 have hcp2:∀ty dc,(Builtin.copy_ #[sl,sl] ty #[.slice (some ⟨g,i,none⟩) (n+1-i) dc,.slice (some ⟨vb,0,none⟩) 1 1]).run prog W1=.ok (goInt [xv].length) (W1.setCells g i [xv]):=λty dc=>
  run_copy_cells W1 _ _ ty te g i (n+1-i) dc ⟨vb,0,none⟩ 1 1 [xv] hT.ul hsz (by simp only[jo];split<;>simp<;>omega)
   (λj v hj=>by rw[il,fw,hV1.cell];exact hj)
   (λj hj=>hB1.some _ (by rw[Dr];simp at hj;omega)) (λj hj=>hB1.frozen _) (by simpa using h1v)
 rw[<-hW1]at hcp1;have hw1:IntKind.i64.wrap ((i:Int)+1)=(i:Int)+1:=by rw[ik];omega
 have hz2:¬((i:Int)=(n:Int)):=by omega
 have hb1:(0:Int)<=(i:Int)+1:=by omega
 have hin:i<=n:=by omega
 have htn:((i:Int)+1).toNat=i+1:=by omega
 have hb2:¬(c=i+1):=by omega
 have hb3:(i:Int)<=(n:Int)+1:=by omega
 have hb4:¬(c=i):=by omega
 have mixed:prog.follows Departure.mixedOrders=true:=by kernel_rfl
 have HW1:=Ab hW1;clear hB hV hB1 hV1 hcs hsp hfz hW1;rcases hT with⟨rfl,rfl,rfl,rfl,rfl,rfl⟩|⟨rfl,rfl,rfl,rfl,rfl,rfl⟩|⟨rfl,rfl,rfl,rfl,rfl,rfl⟩
 case' inl=>go_enter func218,ntmps218
 case' inr.inl=>go_enter func220,ntmps220
 case' inr.inr=>go_enter func214,ntmps214
 all_goals
  go_wp2_with (simp only[hov])
  go_region_law_o (refine step_copy_runI rfl _ _ _ _ rfl _ _ (by simp[Act.eval,Act.put]) (by simp[Act.eval,Act.put]) (hcp1 _ _ _) ?_)
  go_wp2_with (at_builtin;refine wpList_copy_runI _ rfl _ _ _ _ rfl _ _ rfl rfl (hcp2 _ _) ?_)
  go_ret;exact⟨rfl,by rw[Aa HW1]⟩
theorem ZC{te sl fn ov bz:Nat}{z:Value}(hT:Vz te sl fn ov bz z)(g n c i vb:Nat)(cs cur:List Value)(xv:Value)(w:World)(hi:i<n)(hnc:n<=c)(hroom:c<n+1)(hbig:n<=1000000)
  (hcl:cs.length=n) (hB:AI w g cur te) (hcur:cur.length=c) (htk:cur.take n=cs) (hV:AI w vb [xv] te) (h1c:∀v∈cs,v.oneCell'=true) (h1v:xv.oneCell'=true):
  Calls prog fn #[.slice (some ⟨g,0,none⟩) n c,.int .i64 i,.slice (some ⟨vb,0,none⟩) 1 1] w λe w'=>
   ∃(ROW:List Value) (G:Nat),ROW.length=G/\n+1<=G/\G<=maxLen/\ROW.take i=cs.take i/\e=.returned (.slice (some ⟨w.heap.size,0,none⟩) (n+1) G)/\
   w'=(((w.alloc (.cells ROW.toArray te)).drew.setCells w.heap.size i [xv]).drew).setCells w.heap.size (i+1) (cs.drop i):=by
 obtain⟨i0,hi0,hz0,hzs,hzb⟩:=fC hT.info;have mixed:prog.follows Departure.mixedOrders=true:=by kernel_rfl
 have hsz:(prog.info? te).map (·.size)=some 1:=by rw[hi0];simp[hzs]
 have hbw:=hB.lt;have hvw:=hV.lt;have hkk:(n:Int)+1-(i:Int)=((n+1-i:Nat):Int):=by omega
 have hik:i+(n+1-i)=n+1:=by omega
 have hcs:∀j v,cs[j]?=some v->w.cell? ⟨g,j,none⟩=some v:=λj v hj=>by
  rw[hB.cell];rw[<-htk,gT]at hj;split at hj
  .exact hj
  .cases hj
 have hold:(Builtin.firstCells i0.size i (.slice (some ⟨g,0,none⟩) i c)).run prog w.drew=.ok (cs.take i).toArray w.drew:=by
  rw[hzs];exact run_firstCells_some w.drew 1 i ⟨g,0,none⟩ i c (cs.take i) (by rw[ft];omega) (λj v hj=>by
   rw[il,fw]
   rw[gT]at hj
   split at hj
   .exact hcs j v hj
   .cases hj)
 have hrz:∀ty,(Builtin.append_ #[sl,3] ty #[.slice (some ⟨g,0,none⟩) i c,.int .i64 ((n:Int)+1-(i:Int))]).run prog w=
   .ok (.slice (some ⟨w.heap.size,0,none⟩) (n+1) (grownCap w (n+1) c te)) (w.drew.alloc (.cells ((cs.take i).toArray++Builtin.zeroCells z.cells (n+1-i)++Builtin.zeroCells z.cells (grownCap w (n+1) c te-(n+1))) te)):=λty=>by
  have h:=Lib.run_append_grow_zeros w sl 3 ty te i0 _ .i64 .i64 hT.ul underlying3 hi0 hz0 (some ⟨g,0,none⟩) i c (cs.take i) hold (n+1-i) (by omega) (by omega) (by omega) (by omega) (by have:=hT.small;rw[hzb];exact fJ (Nat.mul_le_mul_left _ this) (by omega)) (by have:=hT.small;rw[hzb,hik];exact growslice_fits hroom (fJ (Nat.mul_le_mul_left _ this) (by omega)));rw[hik]at h;rw[hkk];exact h
 obtain⟨G,hG⟩:∃G,G=grownCap w (n+1) c te:=⟨_,rfl⟩;obtain⟨ROW,hROW⟩:∃ROW:List Value,ROW.toArray=(cs.take i).toArray++Builtin.zeroCells z.cells (n+1-i)++Builtin.zeroCells z.cells (G-(n+1)):=⟨_,Array.toArray_toList⟩;rw[<-hG]at hrz;rw[<-hROW]at hrz;have hGn:n+1<=G:=by rw[hG];exact grownCap_ge w _ _ _
 have hGm:G<=maxLen:=by rw[hG];exact grownCap_le_maxLen w (n+1) c te (by unfold maxLen;omega)
 have hRG:ROW.length=G:=by
  have:=congrArg Array.size hROW;simp[Builtin.zeroCells,hT.one]at this;omega
 have hRT:ROW.take i=cs.take i:=by
  have h:=congrArg Array.toList hROW;simp only[Array.toList_append,fD]at h;rw[h,fB (by simp;omega)];simp[iS]
 obtain⟨N,hN⟩:∃N,w.heap.size=N:=⟨_,rfl⟩;have hW1:AI (w.drew.alloc (.cells ROW.toArray te)) N ROW te:=by rw[<-hN];exact AI.new w.drew ROW te
 have hVa:AI (w.drew.alloc (.cells ROW.toArray te)) vb [xv] te:=hV.drew.alloc _;have hcpA:∀(W:World),(∀x,W.cell? x=(w.drew.alloc (.cells ROW.toArray te)).cell? x)->(∀x,W.frozen? x=(w.drew.alloc (.cells ROW.toArray te)).frozen? x)->∀ty dc,(Builtin.copy_ #[sl,sl] ty #[.slice (some ⟨N,i,none⟩) (n+1-i) dc,.slice (some ⟨vb,0,none⟩) 1 1]).run prog W=.ok (goInt [xv].length) (W.setCells N i [xv]):=λW hWc hWf ty dc=>
  run_copy_cells W _ _ ty te N i (n+1-i) dc ⟨vb,0,none⟩ 1 1 [xv] hT.ul hsz (by simp only[jo];split<;>simp<;>omega)
   (λj v hj=>by rw[il,fw,hWc,hVa.cell];exact hj)
   (λj hj=>by rw[hWc];exact hW1.some _ (by simp at hj;omega)) (λj hj=>by rw[hWf];exact hW1.frozen _) (by simpa using h1v)
 have hW2:AI ((w.drew.alloc (.cells ROW.toArray te)).setCells N i [xv]) N (Nt ROW i [xv]) te:=hW1.setCells _ _;have hBa:AI ((w.drew.alloc (.cells ROW.toArray te)).setCells N i [xv]) g cur te:=(hB.drew.alloc _).kept (Ac.setCells (M:=[N]) (by simp) _ _ (Ac.refl _ _)) (by simp;omega);have hdl:(cs.drop i).length=n-i:=by rw[fz,hcl]
 have hcpB:∀(W:World),(∀x,W.cell? x=((w.drew.alloc (.cells ROW.toArray te)).setCells N i [xv]).cell? x)->(∀x,W.frozen? x=((w.drew.alloc (.cells ROW.toArray te)).setCells N i [xv]).frozen? x)->∀ty dc sc,(Builtin.copy_ #[sl,sl] ty #[.slice (some ⟨N,i+1,none⟩) (n-i) dc,.slice (some ⟨g,i,none⟩) (n-i) sc]).run prog W=.ok (goInt (cs.drop i).length) (W.setCells N (i+1) (cs.drop i)):=λW hWc hWf ty dc sc=>
  run_copy_cells W _ _ ty te N (i+1) (n-i) dc ⟨g,i,none⟩ (n-i) sc (cs.drop i) hT.ul hsz (by rw[hdl];simp only[jo];split<;>omega)
   (λj v hj=>by
    rw[il,hWc,hBa.cell]
    rw[iU,<-htk,gT]at hj
    split at hj
    .exact hj
    .cases hj)
   (λj hj=>by rw[hWc];exact hW2.some _ (by rw[Dr];omega))
   (λj hj=>by rw[hWf];exact hW2.frozen _) (λv hv=>h1c v (iy hv))
 have hE1:∀x,((w.alloc (.cells ROW.toArray te)).drew).cell? x=(w.drew.alloc (.cells ROW.toArray te)).cell? x:=λx=>rfl
 have hE2:∀x,((w.alloc (.cells ROW.toArray te)).drew).frozen? x=(w.drew.alloc (.cells ROW.toArray te)).frozen? x:=λx=>rfl
 have hF1:∀x,(((w.alloc (.cells ROW.toArray te)).drew.setCells N i [xv]).drew).cell? x=((w.drew.alloc (.cells ROW.toArray te)).setCells N i [xv]).cell? x:=λx=>rfl
 have hF2:∀x,(((w.alloc (.cells ROW.toArray te)).drew.setCells N i [xv]).drew).frozen? x=((w.drew.alloc (.cells ROW.toArray te)).setCells N i [xv]).frozen? x:=λx=>rfl
 have hw1:IntKind.i64.wrap ((i:Int)+1)=(i:Int)+1:=by rw[ik];omega
 have hz2:¬((i:Int)=(n:Int)):=by omega
 have hz3:(c:Int)<(n:Int)+1:=by omega
 have hb1:(0:Int)<=(i:Int)+1:=by omega
 have hin:i<=n:=by omega
 have htn:((i:Int)+1).toNat=i+1:=by omega
 have hb3:(i:Int)<=(n:Int):=by omega
 have hGi:¬(G=i):=by omega
 have hGim:¬(G=i+1):=by omega
 have hci:¬(c=i):=by omega
 have hG63:G<=9223372036854775807:=by unfold maxLen at hGm;omega
 have HRG:=Ab hRG;have HRT:=Ab hRT;have HGm:=Ab hGm;rw[hN]at hrz⊢;clear hkk hik hold hROW hG hRG hRT hGm hB hV hW1 hVa hW2 hBa hcs;rcases hT with⟨rfl,rfl,rfl,rfl,rfl,rfl⟩|⟨rfl,rfl,rfl,rfl,rfl,rfl⟩|⟨rfl,rfl,rfl,rfl,rfl,rfl⟩
 case' inl=>go_enter func218,ntmps218
 case' inr.inl=>go_enter func220,ntmps220
 case' inr.inr=>go_enter func214,ntmps214
 all_goals
  go_wp2_with (first
   |(at_builtin;refine Lib.wpList_append_run _ rfl _ _ _ _ rfl _ _ rfl rfl _ _ (hrz _) ?_)
   |(at_builtin;refine wpList_copy_runI _ rfl _ _ _ _ rfl _ _ rfl rfl (hcpA _ hE1 hE2 _ _) ?_)
   |(at_builtin;refine wpList_copy_runI _ rfl _ _ _ _ rfl _ _ rfl rfl (hcpB _ (λ_=>rfl) (λ_=>rfl) _ _ _) ?_))
  go_region_law_o (refine step_copy_runI rfl _ _ _ _ rfl (.slice (some ⟨N,i+1,none⟩) (n-i) (G-(i+1))) (.slice (some ⟨g,i,none⟩) (n-i) (c-i)) (by simp[Act.eval,Act.put]) (by simp[Act.eval,Act.put]) (hcpB _ hF1 hF2 3 (G-(i+1)) (c-i)) ?_)
  go_wp2;go_ret;exact⟨ROW,G,HRG,hGn,HGm,HRT,rfl,rfl⟩
theorem Lj{te sl fn ov bz:Nat}{z:Value}(hT:Vz te sl fn ov bz z)(ad:Option Addr)(cap n:Nat)(l:List Value)(i:Nat)(x:Value)(base vb:Nat)(w:World)(hl:w.ownsRow base te 1 (.slice ad n cap) n l)(hml:l.length=n)(hlen:n<=1000000)(hi:i<=n)(hV:AI w vb [x] te)(h1c:∀v∈l,v.oneCell'=true)(h1v:x.oneCell'=true)(hne:(Value.slice ad n cap).ownBlock≠some vb)(hbase:base<=w.heap.size):
  Calls prog fn #[.slice ad n cap,.int .i64 i,.slice (some ⟨vb,0,none⟩) 1 1] w λe w'=>∃g cp,e=.returned (.slice (some ⟨g,0,none⟩) (n+1) cp)/\w'.ownsRow base te 1 (.slice (some ⟨g,0,none⟩) (n+1) cp) (n+1) (Fi l i x)/\Ac (Value.slice ad n cap).ownBlock.toList w w'/\((Value.slice ad n cap).ownBlock=some g\/w.heap.size<=g):=by
 have hli:=Kg (l:=l) (by omega) x (at_:=i);by_cases hin:i=n
 .subst hin;obtain⟨i0,hi0,hz0,hz1,hz2⟩:=fC hT.info;have HI:Hid (Fi l i x=l++[x]):=by
   show Fi l i x=l++[x];rw[Fi,eu (by omega),fq (by omega)]
  have HV:Hid (∀j u,[x][j]?=some u->w.cell? ((⟨vb,0,none⟩:Addr).add j)=some u):=λj u hu=>by rw[il,fw,hV.cell];exact hu
  have HL:=Ab hl;have hul:=hT.ul;have hsm:=hT.small;have H1:=Ab h1v;have hx1:∀v∈[x],v.oneCell'=true:=λv hv=>by rw[ex.1 hv];exact h1v
  have HX:=Ab hx1;clear hV hli h1c h1v hx1 hne;cases ad with
  |none=>
   have hn0:i=0/\cap=0:=by
    rcases hl.2 with⟨he,h0⟩|⟨g,c,cur,he,_⟩
    .simp only[ei]at he;exact⟨h0,he.2.2⟩
    .simp at he
   obtain⟨rfl,rfl⟩:=hn0;have hl0:l=[]:=gB.1 hml;subst hl0;clear hl hml;rcases hT with⟨rfl,rfl,rfl,rfl,rfl,rfl⟩|⟨rfl,rfl,rfl,rfl,rfl,rfl⟩|⟨rfl,rfl,rfl,rfl,rfl,rfl⟩
   case' inl=>go_enter func218,ntmps218
   case' inr.inl=>go_enter func220,ntmps220
   case' inr.inr=>go_enter func214,ntmps214
   all_goals
    go_wp2_with (at_builtin;refine eP _ rfl _ _ _ rfl base _ i0 _ 1 _ hul hi0 hz0 hz1 hz2 rfl (by omega) (.slice none 0 0) 0 [] rfl HL ⟨vb,0,none⟩ 1 1 [x] rfl rfl HV HX (by omega) (by unfold maxLen;omega) (by omega) hbase _ rfl ?_;intro g1 cp1 w9 ho1 hg1 ha1 hl1)
    go_ret;refine⟨g1,cp1,rfl,ho1,(Ac.refl _ w).grown hg1 (λk hk=>Or.inl (by rw[gR];exact hk)),?_⟩;rcases ha1 with h|h
    .exact Or.inl h
    .exact Or.inr (by omega)
  |some a=>
   obtain⟨ab,ao,asp⟩:=a;have hao:ao=0/\asp=none:=by
    rcases hl.2 with⟨he,h0⟩|⟨g,c,cur,he,_⟩
    .simp at he
    .simp only[ei,eD,fm]at he;exact he.1.2
   obtain⟨rfl,rfl⟩:=hao;have hcap:i<=cap/\cap<=maxLen:=by
    rcases hl.2 with⟨he,h0⟩|⟨g,c,cur,he,_,_,h1,h2,_⟩
    .simp at he
    .simp only[ei]at he;rw[he.2.2];exact⟨h1,h2⟩
   obtain⟨hc1,hc2⟩:=hcap;unfold maxLen at hc2;clear hl;rcases hT with⟨rfl,rfl,rfl,rfl,rfl,rfl⟩|⟨rfl,rfl,rfl,rfl,rfl,rfl⟩|⟨rfl,rfl,rfl,rfl,rfl,rfl⟩
   case' inl=>go_enter func218,ntmps218
   case' inr.inl=>go_enter func220,ntmps220
   case' inr.inr=>go_enter func214,ntmps214
   all_goals
    go_wp2_with (at_builtin;refine eP _ rfl _ _ _ rfl base _ i0 _ 1 _ hul hi0 hz0 hz1 hz2 rfl (by omega) (.slice (some ⟨ab,0,none⟩) i cap) i l rfl HL ⟨vb,0,none⟩ 1 1 [x] rfl rfl HV HX (by omega) (by unfold maxLen;omega) (by omega) hbase _ rfl ?_;intro g1 cp1 w9 ho1 hg1 ha1 hl1)
    all_goals
     go_ret;rw[Aa HI];refine⟨g1,cp1,rfl,ho1,(Ac.refl _ w).grown hg1 (λk hk=>Or.inl (by rw[gR];exact hk)),?_⟩;rcases ha1 with h|h
     .exact Or.inl h
     .exact Or.inr (by omega)
 .have hil:i<n:=by omega
  rcases hl.2 with⟨he,h0⟩|⟨g,c,cur,he,hb,hblk,hc1,hc2,hcs,htk⟩
  .omega
  .simp only[ei]at he;obtain⟨rfl,_,rfl⟩:=he;(have hvb:vb≠g:=λe=>hne (by simp[Value.ownBlock,e]));(have hB:AI w g cur.toList te:=by unfold AI;simpa using hblk);(have hcur:cur.toList.length=cap:=by simpa using hcs);(have htk':cur.toList.take n=l:=by simpa using htk);by_cases hroom:n+1<=cap
   .refine(YO hT g n cap i vb l cur.toList x w hil hroom (by unfold maxLen at hc2;omega) hvb hml hB hcur htk' hV h1c h1v).mono ?_;rintro e w' ⟨rfl,rfl⟩;have hfin:=(hB.drew.setCells (l.drop i) (i+1)).setCells [x] i;refine⟨g,cap,rfl,⟨?_,Or.inr ⟨g,cap,_,rfl,hb,hfin,hroom,hc2,?_,?_⟩⟩,?_,Or.inl rfl⟩
    .omega
    .simp only[fU,Dr];omega
    .simp only[Nat.mul_one];exact ZK htk' hml hi (by omega) _
    .exact Ac.setCells (by simp[Value.ownBlock]) _ _ (Ac.setCells (by simp[Value.ownBlock]) _ _ (Ac.refl _ w).drew)
   .refine(ZC hT g n cap i vb l cur.toList x w hil hc1 (by omega) hlen hml hB hcur htk' hV h1c h1v).mono ?_;rintro e w' ⟨ROW,G,hG1,hG2,hG3,hRT,rfl,rfl⟩;have hfin:=((AI.new w ROW te).drew.setCells [x] i).drew.setCells (l.drop i) (i+1);(have hd:(l.drop i).length=n-i:=by rw[fz,hml]);refine⟨w.heap.size,G,rfl,⟨?_,Or.inr ⟨w.heap.size,G,_,rfl,hbase,hfin,hG2,hG3,?_,?_⟩⟩,?_,Or.inr (eM _)⟩
    .omega
    .simp only[fU,Dr];omega
    .simp only[Nat.mul_one];rw[GW _ _ _ (by rw[Dr,hd];omega),GW _ _ _ (by simp;omega),hRT];have e1:(List.take i l++[x]++List.drop (i+[x].length) ROW).take (i+1)=List.take i l++[x]:=by
      rw[fB (by simp only[eJ,ft,eF,fb,fz,hml];omega),eu (by simp only[eJ,ft,eF,fb,fz,hml];omega)]
     rw[e1,fB (by simp only[eJ,ft,eF,fb,fz,hml];omega),eu (by simp only[eJ,ft,eF,fb,fz,hml];omega)];simp[Fi]
    .exact Ac.setCells (Or.inr (eM _)) _ _ (Ac.setCells (Or.inr (eM _)) _ _ ((Ac.refl _ w).alloc _).drew).drew
end Go.Proofs.YtoihbhenbmffcaaGreatDoor
namespace Go.Proofs.YtoihbhenbmffcaaGreatDoor
open Go.RowKit Go.Proofs.Tryz
def UN(l:List g0):l.flatMap Ah=l.map (O):=by
 induction l with
 |nil=>rfl
 |cons a l ih=>rw[eN,eR,ih];rfl
def dK(l:List g0):∀v∈l.flatMap Ah,v.oneCell'=jj:=by
 intro v b;rw[UN]at b;obtain⟨a,_,rfl⟩:=eH.1 b;rfl
def Rz(l:List g0)(i:Nat)(x:g0):(Fi l i x).flatMap Ah=(l.flatMap Ah).take i++ O x::(l.flatMap Ah).drop i:=by
 rw[UN,UN,Fi,fi,eR,List.map_take,List.map_drop]
def Tb(a:Option Addr)(cap:Nat)(l:List g0)(i:Nat)(x:g0)(base b:Nat)(w:j7)(h:jG w base 9 1 (U a (Z l) cap) (Z l) (l.flatMap Ah))(m:Z l<=1000000)(n:i<=Z l)(k:AI w b [O x] 9)(j:(U a (Z l) cap).ownBlock≠V b)(f:base<=w.heap.size):
  Calls prog 218 #[U a (Z l) cap,X J i,U (V ⟨b,0,Y⟩) 1 1] w λe c=>∃g d,e=j4 (U (V ⟨g,0,Y⟩) (Z l+1) d)/\jG c base 9 1 (U (V ⟨g,0,Y⟩) (Z l+1) d) (Z l+1) ((Fi l i x).flatMap Ah)/\Ac (U a (Z l) cap).ownBlock.toList w c/\((U a (Z l) cap).ownBlock=V g\/w.heap.size<=g):=by
 rw[Rz];exact Lj (j5 ⟨rfl,rfl,rfl,rfl,rfl,rfl⟩) a cap (Z l) (l.flatMap Ah) i (O x) base b w h (by rw[UN];simp) m n k (dK l) rfl j f
def Xa(l:List g0)(x:g0):Bool:=l.any λy=>cX y x
def J4(l:List g0)(x:g0):Xa l x=jj↔x∈l:=by
 unfold Xa;rw[fW];constructor
 .rintro ⟨y,a,h⟩;rw[<-(Gb.eqv y x).1 h];exact a
 .intro h;exact⟨x,h,(Gb.eqv x x).2 rfl⟩
def C3.inS{l:List g0}(a:CP E8 l){x:g0}{at_:Nat}(h:C3 E8 l 0 x at_):Ei cX l at_ x=Xa l x:=by
 rw[gc,h.has Gb a,J4]
set_option maxRecDepth 100000
theorem Rn(f:Option Addr)(cap:Nat)(l:List g0)(x:g0)(base:Nat)(w:j7)(h:jG w base 9 1 (U f (Z l) cap) (Z l) (l.flatMap Ah))(q:Z l<=1000000)(i:CP E8 l):
  Calls prog 121 #[U f (Z l) cap,O x] w λe j=>e=j4 (.bool (Xa l x))/\j=w:=by
 have m:=Ab (QJ (U f (Z l) cap) l 0 x base w h q (eV _) i);have r:=Ab i;have s:=Ab h;clear h i;go_enter func121,ntmps121;go_wp2_with fail
 refine m.mono ?_;rintro e j ⟨b,rfl,c,rfl⟩;have o:=Ab (c.inS r);have u:=c.le;clear m c;by_cases a:b<Z l
 .obtain⟨g,t,n,v,k⟩:=AC s (by simp[Ah]) b a;simp only[ei]at n;obtain⟨rfl,_,rfl⟩:=n;have p:=k b a 0 (by omega);simp[Ah]at p;clear k;have d:Hid (Xa l x=cX l[b] x):=by show _=_;rw[<-Aa o];unfold Ei;rw[dif_pos a]
  go_wp2;go_ret;rw[d.out];exact⟨rfl,rfl⟩
 .have d:Hid (Xa l x=K):=by show _=_;rw[<-Aa o];unfold Ei;rw[dif_neg a]
  go_wp2;go_ret;rw[d.out];exact⟨rfl,rfl⟩
def Mu(base:Nat)(lv:j8)(l:List g0)(x:g0)(w:j7)(e:Ending)(w':j7):Prop:=
 ∃(l':List g0) (ad':Option Addr) (cp':Nat),e=j4 (U ad' (Z l') cp')/\CP E8 l'/\(∀y,y∈l'↔y=x\/y∈l)/\Z l<=Z l'/\Z l'<=Z l+1/\
  jG w' base 9 1 (U ad' (Z l') cp') (Z l') (l'.flatMap Ah)/\Ac lv.ownBlock.toList w w'/\(∀k,(U ad' (Z l') cp').ownBlock=V k->lv.ownBlock=V k\/w.heap.size<=k)
theorem ZZ(c:Option Addr)(cap:Nat)(l:List g0)(x:g0)(base:Nat)(w:j7)(z:jG w base 9 1 (U c (Z l) cap) (Z l) (l.flatMap Ah))(G:Z l<=1000000)(A:CP E8 l)(A2:base<=w.heap.size):
  Calls prog 194 #[U c (Z l) cap,O x] w λe a=>Mu base (U c (Z l) cap) l x w e a:=by
 have L:=Ab (QJ (U c (Z l) cap) l 0 x base w z G (eV _) A);have t:=Ab A;have n:=Ab z;clear z A;go_enter func194,ntmps194;go_wp2_with fail
 refine L.mono ?_;rintro e a ⟨b,rfl,j,rfl⟩;have E:=Ab (j.has Gb t);have s:=Ab j;have N:=j.le;clear L j;have m:Hid (Ei cX l b x=K->Calls prog 218 #[U c (Z l) cap,X J b,U (V ⟨a.heap.size,0,Y⟩) 1 1] (a.alloc (j1 #[O x] 9)) λe d=>Mu base (U c (Z l) cap) l x a e d):=by
  intro P;have W:AI (a.alloc (j1 [O x].toArray 9)) a.heap.size [O x] 9:=AI.new a [O x] 9;refine(Tb c cap l b x base a.heap.size _ (eC n _) G N W (λe=>by have:=(n.lt _ e).2;omega) (by simp;omega)).mono ?_;rintro e d ⟨g,cp,rfl,R,q,ha⟩;have I:=Kg (x:=x) N;refine⟨Fi l b x,V ⟨g,0,Y⟩,cp,by rw[I],s.zK Gb t P,λy=>M5 x y,by omega,by omega,by rw[I];exact R,((Ac.refl _ a).alloc _).trans q,?_⟩;intro k F;simp only[jN,eD]at F;subst F;rcases ha with h|h
  .exact j5 h
  .exact j6 (by simp at h;omega)
 have o:Hid (Ei cX l b x=jj->Mu base (U c (Z l) cap) l x a (j4 (U c (Z l) cap)) a):=by
  intro Ax;have T:=E.1 Ax;exact⟨l,c,cap,rfl,t,λy=>⟨j6,λh=>by rcases h with rfl|h;exact T;exact h⟩,by omega,by omega,n,Ac.refl _ _,λk q=>j5 q⟩
 by_cases i:b<Z l
 .obtain⟨g,A1,M,hc,H⟩:=AC n (by simp[Ah]) b i;simp only[ei]at M;obtain⟨rfl,_,rfl⟩:=M;have Q:=H b i 0 (by omega);simp[Ah]at Q;clear H;have p:Hid (Ei cX l b x=cX l[b] x):=by show _=_;unfold Ei;rw[dif_pos i]
  have A0:Hid ((l[b].toList==x.toList)=jj->Mu base (U (V ⟨g,0,Y⟩) (Z l) cap) l x a (j4 (U (V ⟨g,0,Y⟩) (Z l) cap)) a):=λr=>o (by rw[p.out];exact r)
  have AH:Hid ((l[b].toList==x.toList)=K->Calls prog 218 #[U (V ⟨g,0,Y⟩) (Z l) cap,X J b,U (V ⟨a.heap.size,0,Y⟩) 1 1] (a.alloc (j1 #[O x] 9)) λe d=>Mu base (U (V ⟨g,0,Y⟩) (Z l) cap) l x a e d):=λr=>m (by rw[p.out];exact r)
  clear p E s m o;go_wp2_with fail
  .go_ret;exact A0 (by assumption)
  .refine(AH (by assumption)).mono ?_;intro e d B;obtain⟨C,u,v,rfl,f⟩:=B;have D:=Ab f;clear f;go_wp2;go_ret;exact⟨C,u,v,rfl,D⟩
 .have S:=Ab (m (by unfold Ei;rw[dif_neg i]));clear E s m o;go_wp2_with fail
  refine S.mono ?_;intro e d B;obtain⟨C,u,v,rfl,f⟩:=B;have D:=Ab f;clear f;go_wp2;go_ret;exact⟨C,u,v,rfl,D⟩
def Y3(l:List Int):l.flatMap AP=l.map (X jI):=by
 induction l with
 |nil=>rfl
 |cons a l ih=>rw[eN,eR,ih];rfl
def dY(l:List Int):∀v∈l.flatMap AP,v.oneCell'=jj:=by
 intro v b;rw[Y3]at b;obtain⟨a,_,rfl⟩:=eH.1 b;rfl
def YJ(l:List Int)(i:Nat)(x:Int):(Fi l i x).flatMap AP=(l.flatMap AP).take i++ X jI x::(l.flatMap AP).drop i:=by
 rw[Y3,Y3,Fi,fi,eR,List.map_take,List.map_drop]
def S3(a:Option Addr)(cap:Nat)(l:List Int)(i:Nat)(x:Int)(base b:Nat)(w:j7)(h:jG w base 21 1 (U a (Z l) cap) (Z l) (l.flatMap AP))(m:Z l<=1000000)(n:i<=Z l)(k:AI w b [X jI x] 21)(j:(U a (Z l) cap).ownBlock≠V b)(f:base<=w.heap.size):
  Calls prog 220 #[U a (Z l) cap,X J i,U (V ⟨b,0,Y⟩) 1 1] w λe c=>∃g d,e=j4 (U (V ⟨g,0,Y⟩) (Z l+1) d)/\jG c base 21 1 (U (V ⟨g,0,Y⟩) (Z l+1) d) (Z l+1) ((Fi l i x).flatMap AP)/\Ac (U a (Z l) cap).ownBlock.toList w c/\((U a (Z l) cap).ownBlock=V g\/w.heap.size<=g):=by
 rw[YJ];exact Lj (j6 (j5 ⟨rfl,rfl,rfl,rfl,rfl,rfl⟩)) a cap (Z l) (l.flatMap AP) i (X jI x) base b w h (by rw[Y3];simp) m n k (dY l) rfl j f
def JE(l:List Int)(x:Int):Bool:=l.any λy=>dp y x
def PA(l:List Int)(x:Int):JE l x=jj↔x∈l:=by
 unfold JE;rw[fW];constructor
 .rintro ⟨y,a,h⟩;rw[<-(Qa.eqv y x).1 h];exact a
 .intro h;exact⟨x,h,(Qa.eqv x x).2 rfl⟩
def C3.inI{l:List Int}(a:CP Nr l){x:Int}{at_:Nat}(h:C3 Nr l 0 x at_):Ei dp l at_ x=JE l x:=by
 rw[gc,h.has Qa a,PA]
theorem YD(f:Option Addr)(cap:Nat)(l:List Int)(x:Int)(base:Nat)(w:j7)(h:jG w base 21 1 (U f (Z l) cap) (Z l) (l.flatMap AP))(q:Z l<=1000000)(i:CP Nr l):
  Calls prog 201 #[U f (Z l) cap,X jI x] w λe j=>e=j4 (.bool (JE l x))/\j=w:=by
 have m:=Ab (QK (U f (Z l) cap) l 0 x base w h q (eV _) i);have r:=Ab i;have s:=Ab h;clear h i;go_enter func201,ntmps201;go_wp2_with fail
 refine m.mono ?_;rintro e j ⟨b,rfl,c,rfl⟩;have o:=Ab (c.inI r);have u:=c.le;clear m c;by_cases a:b<Z l
 .obtain⟨g,t,n,v,k⟩:=AC s (by simp[AP]) b a;simp only[ei]at n;obtain⟨rfl,_,rfl⟩:=n;have p:=k b a 0 (by omega);simp[AP]at p;clear k;have d:Hid (JE l x=dp l[b] x):=by show _=_;rw[<-Aa o];unfold Ei;rw[dif_pos a]
  go_wp2;go_ret;rw[d.out];exact⟨rfl,rfl⟩
 .have d:Hid (JE l x=K):=by show _=_;rw[<-Aa o];unfold Ei;rw[dif_neg a]
  go_wp2;go_ret;rw[d.out];exact⟨rfl,rfl⟩
def Sk(base:Nat)(lv:j8)(l:List Int)(x:Int)(w:j7)(e:Ending)(w':j7):Prop:=
 ∃(l':List Int) (ad':Option Addr) (cp':Nat),e=j4 (U ad' (Z l') cp')/\CP Nr l'/\(∀y,y∈l'↔y=x\/y∈l)/\Z l<=Z l'/\Z l'<=Z l+1/\
  jG w' base 21 1 (U ad' (Z l') cp') (Z l') (l'.flatMap AP)/\Ac lv.ownBlock.toList w w'/\(∀k,(U ad' (Z l') cp').ownBlock=V k->lv.ownBlock=V k\/w.heap.size<=k)
theorem Zn(c:Option Addr)(cap:Nat)(l:List Int)(x:Int)(base:Nat)(w:j7)(A:jG w base 21 1 (U c (Z l) cap) (Z l) (l.flatMap AP))(G:Z l<=1000000)(B:CP Nr l)(A0:base<=w.heap.size):
  Calls prog 202 #[U c (Z l) cap,X jI x] w λe a=>Sk base (U c (Z l) cap) l x w e a:=by
 have L:=Ab (QK (U c (Z l) cap) l 0 x base w A G (eV _) B);have u:=Ab B;have q:=Ab A;clear A B;go_enter func202,ntmps202;go_wp2_with fail
 refine L.mono ?_;rintro e a ⟨b,rfl,m,rfl⟩;have s:=Ab (m.has Qa u);have p:=Ab m;have N:=m.le;clear L m;have f:Hid (Ei dp l b x=K->Calls prog 220 #[U c (Z l) cap,X J b,U (V ⟨a.heap.size,0,Y⟩) 1 1] (a.alloc (j1 #[X jI x] 21)) λe r=>Sk base (U c (Z l) cap) l x a e r):=by
  intro P;have T:AI (a.alloc (j1 [X jI x].toArray 21)) a.heap.size [X jI x] 21:=AI.new a [X jI x] 21;refine(S3 c cap l b x base a.heap.size _ (eC q _) G N T (λe=>by have:=(q.lt _ e).2;omega) (by simp;omega)).mono ?_;rintro e r ⟨g,cp,rfl,R,t,ha⟩;have I:=Kg (x:=x) N;refine⟨Fi l b x,V ⟨g,0,Y⟩,cp,by rw[I],p.zK Qa u P,λy=>M5 x y,by omega,by omega,by rw[I];exact R,((Ac.refl _ a).alloc _).trans t,?_⟩;intro k F;simp only[jN,eD]at F;subst F;rcases ha with h|h
  .exact j5 h
  .exact j6 (by simp at h;omega)
 have n:Hid (Ei dp l b x=jj->Sk base (U c (Z l) cap) l x a (j4 (U c (Z l) cap)) a):=by
  intro W;have S:=s.1 W;exact⟨l,c,cap,rfl,u,λy=>⟨j6,λh=>by rcases h with rfl|h;exact S;exact h⟩,by omega,by omega,q,Ac.refl _ _,λk t=>j5 t⟩
 by_cases d:b<Z l
 .obtain⟨g,AH,M,hc,H⟩:=AC q (by simp[AP]) b d;simp only[ei]at M;obtain⟨rfl,_,rfl⟩:=M;have Q:=H b d 0 (by omega);simp[AP]at Q;clear H;have o:Hid (Ei dp l b x=dp l[b] x):=by show _=_;unfold Ei;rw[dif_pos d]
  have AT:=Ab d;cases hq:dp l[b] x with
  |true=>
   have i:=Ab (n (by rw[o.out];exact hq));simp only[dp]at hq;clear o s p f n;go_wp2;go_ret;exact i
  |false=>
   have i:=Ab (f (by rw[o.out];exact hq));simp only[dp]at hq;clear o s p f n;(go_wp2_with fail);refine i.mono ?_;intro e r C;obtain⟨D,v,z,rfl,j⟩:=C;have E:=Ab j;clear j;go_wp2;go_ret;exact⟨D,v,z,rfl,E⟩
 .have i:=Ab (f (by unfold Ei;rw[dif_neg d]));clear s p f n;go_wp2_with fail
  refine i.mono ?_;intro e r C;obtain⟨D,v,z,rfl,j⟩:=C;have E:=Ab j;clear j;go_wp2;go_ret;exact⟨D,v,z,rfl,E⟩
def QI(a:j8)(l:List g0)(k:Nat)(x:g0)(base:Nat)(w:j7)(f:jG w base 170 1 a (Z l) (l.flatMap Ah))(h:Z l<=1000000)(c:k<=Z l)(g:CP E8 l):
  Calls prog 149 #[a,X J k,O x] w λe d=>∃b:Nat,e=j4 (X J b)/\C3 E8 l k x b/\d=w:=
 QF (j6 ⟨rfl,rfl⟩) a l k x base w f h c g
def SZ(a:Option Addr)(cap:Nat)(l:List g0)(i:Nat)(x:g0)(base b:Nat)(w:j7)(h:jG w base 170 1 (U a (Z l) cap) (Z l) (l.flatMap Ah))(m:Z l<=1000000)(n:i<=Z l)(k:AI w b [O x] 170)(j:(U a (Z l) cap).ownBlock≠V b)(f:base<=w.heap.size):
  Calls prog 214 #[U a (Z l) cap,X J i,U (V ⟨b,0,Y⟩) 1 1] w λe c=>∃g d,e=j4 (U (V ⟨g,0,Y⟩) (Z l+1) d)/\jG c base 170 1 (U (V ⟨g,0,Y⟩) (Z l+1) d) (Z l+1) ((Fi l i x).flatMap Ah)/\Ac (U a (Z l) cap).ownBlock.toList w c/\((U a (Z l) cap).ownBlock=V g\/w.heap.size<=g):=by
 rw[Rz];exact Lj (j6 (j6 ⟨rfl,rfl,rfl,rfl,rfl,rfl⟩)) a cap (Z l) (l.flatMap Ah) i (O x) base b w h (by rw[UN];simp) m n k (dK l) rfl j f
def Ms(base:Nat)(lv:j8)(l:List g0)(x:g0)(w:j7)(e:Ending)(w':j7):Prop:=
 ∃(l':List g0) (ad':Option Addr) (cp':Nat),e=j4 (U ad' (Z l') cp')/\CP E8 l'/\(∀y,y∈l'↔y=x\/y∈l)/\Z l<=Z l'/\Z l'<=Z l+1/\
  jG w' base 170 1 (U ad' (Z l') cp') (Z l') (l'.flatMap Ah)/\Ac lv.ownBlock.toList w w'/\(∀k,(U ad' (Z l') cp').ownBlock=V k->lv.ownBlock=V k\/w.heap.size<=k)
theorem Ul(c:Option Addr)(cap:Nat)(l:List g0)(x:g0)(base:Nat)(w:j7)(z:jG w base 170 1 (U c (Z l) cap) (Z l) (l.flatMap Ah))(G:Z l<=1000000)(A:CP E8 l)(A2:base<=w.heap.size):
  Calls prog 185 #[U c (Z l) cap,O x] w λe a=>Ms base (U c (Z l) cap) l x w e a:=by
 have L:=Ab (QI (U c (Z l) cap) l 0 x base w z G (eV _) A);have t:=Ab A;have n:=Ab z;clear z A;go_enter func185,ntmps185;go_wp2_with fail
 refine L.mono ?_;rintro e a ⟨b,rfl,j,rfl⟩;have E:=Ab (j.has Gb t);have s:=Ab j;have N:=j.le;clear L j;have m:Hid (Ei cX l b x=K->Calls prog 214 #[U c (Z l) cap,X J b,U (V ⟨a.heap.size,0,Y⟩) 1 1] (a.alloc (j1 #[O x] 170)) λe d=>Ms base (U c (Z l) cap) l x a e d):=by
  intro P;have W:AI (a.alloc (j1 [O x].toArray 170)) a.heap.size [O x] 170:=AI.new a [O x] 170;refine(SZ c cap l b x base a.heap.size _ (eC n _) G N W (λe=>by have:=(n.lt _ e).2;omega) (by simp;omega)).mono ?_;rintro e d ⟨g,cp,rfl,R,q,ha⟩;have I:=Kg (x:=x) N;refine⟨Fi l b x,V ⟨g,0,Y⟩,cp,by rw[I],s.zK Gb t P,λy=>M5 x y,by omega,by omega,by rw[I];exact R,((Ac.refl _ a).alloc _).trans q,?_⟩;intro k F;simp only[jN,eD]at F;subst F;rcases ha with h|h
  .exact j5 h
  .exact j6 (by simp at h;omega)
 have o:Hid (Ei cX l b x=jj->Ms base (U c (Z l) cap) l x a (j4 (U c (Z l) cap)) a):=by
  intro Ax;have T:=E.1 Ax;exact⟨l,c,cap,rfl,t,λy=>⟨j6,λh=>by rcases h with rfl|h;exact T;exact h⟩,by omega,by omega,n,Ac.refl _ _,λk q=>j5 q⟩
 by_cases i:b<Z l
 .obtain⟨g,A1,M,hc,H⟩:=AC n (by simp[Ah]) b i;simp only[ei]at M;obtain⟨rfl,_,rfl⟩:=M;have Q:=H b i 0 (by omega);simp[Ah]at Q;clear H;have p:Hid (Ei cX l b x=cX l[b] x):=by show _=_;unfold Ei;rw[dif_pos i]
  have A0:Hid ((l[b].toList==x.toList)=jj->Ms base (U (V ⟨g,0,Y⟩) (Z l) cap) l x a (j4 (U (V ⟨g,0,Y⟩) (Z l) cap)) a):=λr=>o (by rw[p.out];exact r)
  have AH:Hid ((l[b].toList==x.toList)=K->Calls prog 214 #[U (V ⟨g,0,Y⟩) (Z l) cap,X J b,U (V ⟨a.heap.size,0,Y⟩) 1 1] (a.alloc (j1 #[O x] 170)) λe d=>Ms base (U (V ⟨g,0,Y⟩) (Z l) cap) l x a e d):=λr=>m (by rw[p.out];exact r)
  clear p E s m o;go_wp2_with fail
  .go_ret;exact A0 (by assumption)
  .refine(AH (by assumption)).mono ?_;intro e d B;obtain⟨C,u,v,rfl,f⟩:=B;have D:=Ab f;clear f;go_wp2;go_ret;exact⟨C,u,v,rfl,D⟩
 .have S:=Ab (m (by unfold Ei;rw[dif_neg i]));clear E s m o;go_wp2_with fail
  refine S.mono ?_;intro e d B;obtain⟨C,u,v,rfl,f⟩:=B;have D:=Ab f;clear f;go_wp2;go_ret;exact⟨C,u,v,rfl,D⟩
