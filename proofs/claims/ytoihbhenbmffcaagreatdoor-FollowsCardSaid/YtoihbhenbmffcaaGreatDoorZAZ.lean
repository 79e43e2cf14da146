import Derived.Test.YtoihbhenbmffcaaGreatDoorZAY
set_option linter.unusedVariables false
set_option linter.unusedSimpArgs false
set_option maxHeartbeats 6400000
namespace Go.Proofs.YtoihbhenbmffcaaGreatDoor
open Go.RowKit
open Go.Proofs.Tryz
theorem D9.setN{w:World}{b:Nat}{n m:Int}{a tv:Value}{d f:List cL}(h:D9 w b n a tv d f):D9 (w.setCell ⟨b,0,none⟩ (.int .i64 m)) b m a tv d f:=by
 have c:∀{e:TypeId} {g:Nat} {v:Value} {k:Nat} {i:List Value},w.ownsRow (b+1) e g v k i->v.ownBlock≠some b:=λh e=>by have:=(h.lt b e).1;omega
 exact⟨h.blk.set 0 _,Ag h.rn (p:=⟨b,0,none⟩) (c h.rn) _,Ag h.rt (p:=⟨b,0,none⟩) (c h.rt) _,h.ant,h.rin,h.rit⟩
theorem Ph{w:World}{v b u:Value}{base:Nat}{e:TypeId}{c k:Nat}{g:List Value}(i:w.ownsRow base e c u k g)(f:BX v u)(j:∀q,b.ownBlock=some q->v.ownBlock=some q\/w.heap.size<=q):BX b u:=λq d a=>by
 rcases j q d with h|h
 ·exact f q h a
 ·have:=(i.lt q a).2;omega
theorem D9.names{w w':World}{b:Nat}{n:Int}{a tv:Value}{t r:List cL}(h:D9 w b n a tv t r){d:Value}{c:List cL}
  (l:Ac a.ownBlock.toList w w') (m:w'.ownsRow (b+1) 9 1 d c.length (c.flatMap Ae)) (z:∀q,d.ownBlock=some q->a.ownBlock=some q\/w.heap.size<=q) (u:Ct Dg c):
  D9 (w'.setCell ⟨b,1,none⟩ d) b n d tv c r/\w'.cell? ⟨b,1,none⟩=some a/\w'.frozen? ⟨b,1,none⟩=false:=by
 have g:∀{w:World} {e:TypeId} {s:Nat} {v:Value} {k:Nat} {x:List Value},w.ownsRow (b+1) e s v k x->v.ownBlock≠some b:=λh e=>by have:=(h.lt b e).1;omega
 have j:Aw w' b [.int .i64 n,a,tv] 210:=h.blk.kept l (λf=>g h.rn (by simpa using f));have o:=Ar h.rt l (λi y f=>h.ant i (by simpa using f) y);exact⟨⟨j.set 1 _,Ag m (p:=⟨b,1,none⟩) (g m) _,Ag o (p:=⟨b,1,none⟩) (g o) _,Ph h.rt h.ant z,u,h.rit⟩,j.cell 1,j.frozen 1⟩
theorem D9.things{w w':World}{b:Nat}{n:Int}{d tv:Value}{o y:List cL}(h:D9 w b n d tv o y){a:Value}{c:List cL}
  (l:Ac tv.ownBlock.toList w w') (m:w'.ownsRow (b+1) 170 1 a c.length (c.flatMap Ae)) (u:∀q,a.ownBlock=some q->tv.ownBlock=some q\/w.heap.size<=q) (t:Ct Dg c):
  D9 (w'.setCell ⟨b,2,none⟩ a) b n d a o c/\w'.cell? ⟨b,2,none⟩=some tv/\w'.frozen? ⟨b,2,none⟩=false:=by
 have g:∀{w:World} {e:TypeId} {s:Nat} {v:Value} {k:Nat} {x:List Value},w.ownsRow (b+1) e s v k x->v.ownBlock≠some b:=λh e=>by have:=(h.lt b e).1;omega
 have j:Aw w' b [.int .i64 n,d,tv] 210:=h.blk.kept l (λf=>g h.rt (by simpa using f));have r:=Ar h.rn l (λi z f=>h.ant i z (by simpa using f));exact⟨⟨j.set 2 _,Ag r (p:=⟨b,2,none⟩) (g r) _,Ag m (p:=⟨b,2,none⟩) (g m) _,(Ph h.rn h.ant.symm u).symm,h.rin,t⟩,j.cell 2,j.frozen 2⟩
theorem D9.lows{w:World}{b:Nat}{n:Int}{c tv:Value}{e d:List cL}(h:D9 w b n c tv e d):(∀i,i∈c.ownBlock.toList->b<=i)/\(∀i,i∈tv.ownBlock.toList->b<=i):=
 ⟨λi a=>by have:=(h.rn.lt i (by simpa using a)).1;omega,λi a=>by have:=(h.rt.lt i (by simpa using a)).1;omega⟩
theorem Ul.drew{b:Nat}{u w:World}(h:Ul b u w):Ul b u w.drew:=⟨h.os,h.tape,h.output,h.size,h.block⟩
theorem D9.drew{w:World}{b:Nat}{n:Int}{a tv:Value}{d c:List cL}(h:D9 w b n a tv d c):D9 w.drew b n a tv d c:=h.kept (Ac.refl [] w).drew
structure Y0(M:List Nat)(b N:Nat)(cs:List Value)(u w':World)(i:Nat)(old new:Value)(n:Int)(nv tv:Value)(names things:List cL):Prop where
 cell:w'.cell? ⟨b,i,none⟩=some old
 frozen:w'.frozen? ⟨b,i,none⟩=false
 cen:D9 (w'.setCell ⟨b,i,none⟩ new) b n nv tv names things
 low:Ac M u (w'.setCell ⟨b,i,none⟩ new)
 box:Aw (w'.setCell ⟨b,i,none⟩ new) N cs 189
def Ec(ts:List A3)(l l':List cL):Prop:=∀y,y∈l'↔(∃t∈ts,t.v=0/\t.s=y)\/y∈l
structure Hf(base:Nat)(lv:Value)(l:List cL)(ts:List A3)(w:World)(l':List cL)(ad':Option Addr)(cp':Nat)(w':World):Prop where
 rise:Ct Dg l'
 mem:Ec ts l l'
 le:l'.length<=l.length+ts.length
 own:w'.ownsRow base 170 1 (.slice ad' l'.length cp') l'.length (l'.flatMap Ae)
 kept:Ac lv.ownBlock.toList w w'
 new:∀k,(Value.slice ad' l'.length cp').ownBlock=some k->lv.ownBlock=some k\/w.heap.size<=k
theorem Ec.skip{l d:List cL}{c:List A3}{k:Nat}(e:k<c.length)(f:c[k].v≠0)(h:Ec (c.take k) l d):Ec (c.take (k+1)) l d:=by
 intro y;rw[h y,ac e];constructor
 ·rintro (⟨t,a,b⟩|a)
  ·exact Or.inl ⟨t,dC _ a,b⟩
  ·exact Or.inr a
 ·rintro (⟨t,a,b⟩|a)
  ·rcases aw.1 a with a|a
   ·exact Or.inl ⟨t,a,b⟩
   ·simp only[ae]at a;subst a;exact absurd b.1 f
  ·exact Or.inr a
theorem Ec.take{l d e:List cL}{b:List A3}{k:Nat}(f:k<b.length)(i:b[k].v=0)(h:Ec (b.take k) l d)(g:∀y,y∈e↔y=b[k].s\/y∈d):Ec (b.take (k+1)) l e:=by
 intro y;rw[g,h y,ac f];constructor
 ·rintro (a|⟨t,a,c⟩|a)
  ·exact Or.inl ⟨b[k],List.mem_append_right _ (ae.2 rfl),i,a.symm⟩
  ·exact Or.inl ⟨t,dC _ a,c⟩
  ·exact Or.inr a
 ·rintro (⟨t,a,c⟩|a)
  ·rcases aw.1 a with a|a
   ·exact Or.inr (Or.inl ⟨t,a,c⟩)
   ·simp only[ae]at a;subst a;exact Or.inl c.2.symm
  ·exact Or.inr (Or.inr a)
set_option maxRecDepth 100000
theorem Oz(c:Da)(d:Option Addr)(cap:Nat)(l:List cL)(base:Nat)(w:World)(h:Im w 0 c.hv c.bv c.hts c.lvs)(V:MV c)(hT:(Bj c).length<=90000)
  (Z:w.ownsRow base 170 1 (.slice d l.length cap) l.length (l.flatMap Ae)) (FW:l.length<=900000) (hr:Ct Dg l) (Ha:base<=w.heap.size):
  Calls prog 148 #[.slice d l.length cap, .agg (A8 c).toArray] w λe w'=>∃l' Ax X,e= .returned (.slice Ax l'.length X)/\Hf base (.slice d l.length cap) l (Bj c) w l' Ax X w':=by
 have z:=Ab (NG c (w.alloc (.cells (A8 c).toArray 189)) (h.kept ((Ac.refl [] w).alloc _) (by simp)) V);generalize Bj c=TV at z hT⊢;obtain⟨hp,hn,HN,M,bv,HP⟩:=c;simp only at h;obtain⟨HH,HB,rfl⟩:=Ak h.head;obtain⟨Go,HQ,rfl⟩:=Ak h.body.row;have HL:=Ab Z;have FL:=Ab hr;clear h Z hr V;simp only[A8]at z⊢;go_enter func148,ntmps148;go_wp2_with fail
 refine(Aa z).mono ?_;rintro e n ⟨CC,S,rfl,N,L⟩;have F:Hid (Ac [] w n):=((Ac.refl [] w).alloc _).trans L;have HJ:w.heap.size+1<=n.heap.size:=by have:=L.size;simpa using this
 have Y:=Ab (Ai N (show w.heap.size<=_ by simp));clear z N L;go_wp2
 go_loopg [0,10] TV.length (λgk o i wr=>∃(k:Nat) (m:List cL) (b:Option Addr) (f:Nat),o= .slice b m.length f/\i= .int .i64 k/\k<=TV.length/\gk=TV.length-k/\m.length<=l.length+k/\Hid (Hf base (.slice d l.length cap) l (TV.take k) w m b f wr)/\Hid (wr.ownsRow w.heap.size 215 2 (.slice CC TV.length S) TV.length (TV.flatMap Am))/\Hid (∀q,(Value.slice b m.length f).ownBlock=some q->(Value.slice d l.length cap).ownBlock=some q\/n.heap.size<=q)/\n.heap.size<=wr.heap.size)
 case atStart=>exact⟨0,l,d,cap,rfl,rfl,by omega,rfl,by omega,⟨Aa FL,λy=>by simp,by omega,Ad (Aa HL) (Aa F) (by simp),(Aa F).mono (by simp),λk O=>Or.inl O⟩,Y,λq p=>Or.inl p,by omega⟩
 case round=>
  clear F;obtain⟨k,m,b,f,rfl,rfl,O,T,HK,j,r,x,FT⟩:=hrel;have P:=Ab T;clear T;by_cases A:k<TV.length
  ·obtain⟨g,HI,he,d0,d1⟩:=En (Aa r) k A;simp only[Z6]at he;obtain⟨rfl,_,rfl⟩:=he;have K:Ac [] wr (wr.alloc (.cells [.int .i32 TV[k].v, .string TV[k].s].toArray 215)):=(Ac.refl [] wr).alloc _;have W:=Ab (Ad (Aa r) K (by simp));(have Q:n.heap.size<=(wr.alloc (.cells [.int .i32 TV[k].v, .string TV[k].s].toArray 215)).heap.size:=by simp;omega);cases M:(TV[k].v==0)with
   |false=>
    (have t:TV[k].v≠0:=by simpa using M);have J:Hid (Hf base (.slice d l.length cap) l (TV.take (k+1)) w m b f (wr.alloc (.cells [.int .i32 TV[k].v, .string TV[k].s].toArray 215))):=by
     have a:=Aa j;refine⟨a.rise,a.mem.skip A t,?_,ah a.own _,a.kept.alloc _,a.new⟩;have:=a.le;simp only[aK]at this⊢;omega
    clear j r K t;go_wp2
    go_roundg (TV.length-(k+1))
    case measure=>have:=Aa P;omega
    case rel=>exact⟨k+1,m,b,f,rfl,by go_num,by omega,rfl,by omega,J,W,x,Q⟩
   |true=>
    (have t:TV[k].v=0:=by simpa using M);have HZ:=Ab t;have BA:=Ab (Sr b f m TV[k].s base (wr.alloc (.cells [.int .i32 TV[k].v, .string TV[k].s].toArray 215)) (ah (Aa j).own _) (by omega) (Aa j).rise (by simp;omega));clear t K;(go_wp2_with fail);refine(Aa BA).mono ?_;rintro e u ⟨I,C,E,rfl,R,q2,q3,q4,U,D,B⟩;have G:Ac (Value.slice b m.length f).ownBlock.toList wr u:=((Ac.refl _ wr).alloc _).trans D;(have HC:wr.heap.size+1<=u.heap.size:=by have:=D.size;simpa using this);have J:Hid (Hf base (.slice d l.length cap) l (TV.take (k+1)) w I C E u):=by
     have a:=Aa j;refine⟨R,a.mem.take A (Aa HZ) q2,?_,U,a.kept.trans' G (λi H=>?_),λq p=>?_⟩
     ·have:=a.le;simp only[aK]at this⊢;omega
     ·rcases a.new i (by simpa using H)with h|h
      ·exact Or.inl (by simp[h])
      ·exact Or.inr h
     ·rcases B q p with h|h
      ·exact a.new q h
      ·exact Or.inr (by have:=a.kept.size;simp at h;omega)
    have FF:Hid (u.ownsRow w.heap.size 215 2 (.slice (some ⟨g,0,none⟩) TV.length S) TV.length (TV.flatMap Am)):=by
     refine Ar (Aa r) G (λi H hm=>?_);have h1:=((Aa Y).lt i H);rcases Aa x i (by simpa using hm)with h|h
     ·have:=((Aa HL).lt i h).2;omega
     ·omega
    have EY:Hid (∀q,(Value.slice C I.length E).ownBlock=some q->(Value.slice d l.length cap).ownBlock=some q\/n.heap.size<=q):=by
     intro q p;rcases B q p with h|h
     ·exact Aa x q h
     ·exact Or.inr (by simp at h;omega)
    clear BA R q2 q3 U D B G j r W Q x d0 d1;go_wp2
    go_roundg (TV.length-(k+1))
    case measure=>have:=Aa P;omega
    case rel=>exact⟨k+1,I,C,E,rfl,by go_num,by omega,rfl,by omega,J,FF,EY,by omega⟩
  ·have HE:Hid (Hf base (.slice d l.length cap) l TV w m b f wr):=by
    have h:=Aa j;rw[Z9 (by omega)]at h;exact h
   go_wp2;go_ret;exact⟨m,b,f,rfl,Aa HE⟩
theorem VT(b:Nat)(n:Nat)(nv tv:Value)(r q:List cL)(c:Da)(w:World)(h:D9 w b n nv tv r q)(X:Yk w b c)(hf:MV c)(hT:(Bj c).length<=90000)(hn:n<=1000)(H5:r.length<=800000)(JJ:q.length<=800000):
  Calls prog 116 #[.pointer (some ⟨b,0,none⟩), .agg (A8 c).toArray] w λe g=>e= .returned (.tuple #[])/\∃HT HW FT FC,D9 g b ((n+1:Nat):Int) HT HW FT FC/\(∀y,y∈FT↔y∈BL c\/y∈r)/\Ec (Bj c) q FC/\FT.length<=r.length+1001/\FC.length<=q.length+90000/\Ac (b::(nv.ownBlock.toList++tv.ownBlock.toList)) w g:=by
 have H8:=h.blk.lt;obtain⟨P,O,rfl⟩:=Ak h.rn;obtain⟨I,G,rfl⟩:=Ak h.rt;obtain⟨M,Bx⟩:∃M,b::((Value.slice P r.length O).ownBlock.toList++(Value.slice I q.length G).ownBlock.toList)=M:=⟨_,rfl⟩;rw[Bx];have Q:Hid (b∈M/\(∀i,i∈(Value.slice P r.length O).ownBlock.toList->i∈M)/\(∀i,i∈(Value.slice I q.length G).ownBlock.toList->i∈M)):=by
  rw[<-Bx];exact⟨by simp,λi f=>by simp only[aj,aw];exact Or.inr (Or.inl f),λi f=>by simp only[aj,aw];exact Or.inr (Or.inr f)⟩
 have HK:Hid (∀wr,Ac M w wr->Ul b w wr):=by
  intro wr R;refine Ul.of R (by omega) (λi f=>?_);rw[<-Bx]at f;simp only[aj,aw]at f;rcases f with f|f|f
  ·omega
  ·exact h.lows.1 i f
  ·exact h.lows.2 i f
 clear Bx;have W:Hid (∀wr A C l,Ul b w wr->wr.ownsRow (b+1) 170 1 (.slice A l.length C) l.length (l.flatMap Ae)->l.length<=900000->Ct Dg l->b+1<=wr.heap.size->Calls prog 148 #[.slice A l.length C, .agg (A8 c).toArray] wr λe g=>∃a k j,e= .returned (.slice k a.length j)/\Hf (b+1) (.slice A l.length C) l (Bj c) wr a k j g):=λwr A C l R h1 S h3 h4=>Oz c A C l (b+1) wr (X.low R).at_ hf hT h1 S h3 h4
 have EX:Hid (∀wr A C l,Ul b w wr->wr.ownsRow (b+1) 9 1 (.slice A l.length C) l.length (l.flatMap Ae)->l.length<=900000->Ct Dg l->b+1<=wr.heap.size->Calls prog 164 #[.slice A l.length C, .agg (A8 c).toArray] wr λe g=>∃a k j,e= .returned (.slice k a.length j)/\Lk (b+1) (.slice A l.length C) l (BL c) wr a k j g):=λwr A C l R h1 S h3 h4=>Kl c A C l (b+1) wr (X.low R).at_ hf.lits h1 S h3 h4
 have HG:Hid ((BL c).length<=1001):=by
  show _<=_;have:=hf.lits;have S:=bO (λp=>A5 p.1) c.lvs;simp only[BL,Ff,ak,aD];omega
 generalize Bj c=TV at W hT⊢;generalize BL c=NV at EX HG⊢;obtain⟨D,v,B,hv,bv,t⟩:=c;have CC:=X.at_;clear X hf;simp only at CC;obtain⟨E,s,rfl⟩:=Ak CC.head;obtain⟨z,x,rfl⟩:=Ak CC.body.row;clear CC;simp only[A8]at W EX⊢;have c0:=h.blk.cell 0;have cf:=h.blk.frozen;have d0:=λo=>(h.blk.alloc o).cell 0
 have df:=λo=>(h.blk.alloc o).frozen
 simp at c0 d0;have q1:¬b=w.heap.size:=by omega
 have q2:¬w.heap.size=b:=by omega
 have Z:=Ab h;clear h;go_enter func116,ntmps116;go_wp2_with fail
 obtain⟨N,T⟩:∃N,w.heap.size=N:=⟨_,rfl⟩;have H7:b<N:=by omega
 have H:Hid (Aw ((w.setCell ⟨b,0,none⟩ (.int .i64 ((n:Int)+1))).alloc (.cells [.int .i64 D, .string v, .slice E B.length s, .slice z t.length x].toArray 189)) N [.int .i64 D, .string v, .slice E B.length s, .slice z t.length x] 189):=by
  have hh:=Aw.new (w.setCell ⟨b,0,none⟩ (.int .i64 ((n:Int)+1))) [.int .i64 D, .string v, .slice E B.length s, .slice z t.length x] 189;rw[show(w.setCell ⟨b,0,none⟩ (.int .i64 ((n:Int)+1))).heap.size=N from by simp[T]]at hh
  exact hh
 have F:=Ab (((Aa Z).setN (m:=(n:Int)+1)).kept ((Ac.refl [] _).alloc (.cells [.int .i64 D, .string v, .slice E B.length s, .slice z t.length x].toArray 189)));have AT:Hid (Ac M w ((w.setCell ⟨b,0,none⟩ (.int .i64 ((n:Int)+1))).alloc (.cells [.int .i64 D, .string v, .slice E B.length s, .slice z t.length x].toArray 189))):=((Ac.refl M w).setCell (p:=⟨b,0,none⟩) (Or.inl (Aa Q).1) _).alloc _;have HU:Hid ((Value.slice P r.length O).ownBlock≠some N/\(Value.slice I q.length G).ownBlock≠some N):=⟨λe=>by have:=((Aa Z).rn.lt _ e).2;omega,λe=>by have:=((Aa Z).rt.lt _ e).2;omega⟩;have HZ:N+1<=((w.setCell ⟨b,0,none⟩ (.int .i64 ((n:Int)+1))).alloc (.cells [.int .i64 D, .string v, .slice E B.length s, .slice z t.length x].toArray 189)).heap.size:=by simp[T]
 clear c0 cf d0 df q1 q2 Z;change Code.wp _ _ _ _ ((w.setCell ⟨b,0,none⟩ (.int .i64 ((n:Int)+1))).alloc (.cells [.int .i64 D, .string v, .slice E B.length s, .slice z t.length x].toArray 189));generalize(w.setCell ⟨b,0,none⟩ (.int .i64 ((n:Int)+1))).alloc (.cells [.int .i64 D, .string v, .slice E B.length s, .slice z t.length x].toArray 189)=w1 at H F AT HZ⊢;rw[T];have Ix:=Ab T;clear T;have HN:Hid (Calls prog 164 #[.slice P r.length O, .agg #[.int .i64 D, .string v, .slice E B.length s, .slice z t.length x]] w1.drew λe g=>∃a k j,e= .returned (.slice k a.length j)/\Y0 M b N [.int .i64 D, .string v, .slice E B.length s, .slice z t.length x] w g 1 (.slice P r.length O) (.slice k a.length j) ((n:Int)+1) (.slice k a.length j) (.slice I q.length G) a q/\(∀y,y∈a↔y∈NV\/y∈r)/\a.length<=r.length+1001/\N+1<=g.heap.size):=by
  refine(Aa EX w1.drew P O r (Aa HK _ (Aa AT).drew) (Aa F).drew.rn (by omega) (Aa F).rin (by show b+1<=w1.heap.size;omega)).mono ?_;rintro e g ⟨a,k,j,rfl,d⟩;obtain⟨FL,FO,Go⟩:=(Aa F).drew.names d.kept d.own d.new d.rise;have H4:=(Aa F).drew.lows.1;refine⟨a,k,j,rfl,⟨FO,Go,FL,?_,?_⟩,d.mem,by have:=d.le;have:=Aa HG;omega,by have:=d.kept.size;have S:w1.drew.heap.size=w1.heap.size:=rfl;omega⟩
  ·exact((Aa AT).drew.trans' d.kept (λi f=>Or.inl ((Aa Q).2.1 i f))).setCell (p:=⟨b,1,none⟩) (Or.inl (Aa Q).1) _
  ·exact((Aa H).drew.kept d.kept (λhm=>(Aa HU).1 (by simpa using hm))).set_other ⟨b,1,none⟩ (by simp;omega) _
 have e1:=(Aa F).blk.cell 1;have V:=(Aa H).cell 0;have Y:=(Aa H).cell 1;have b2:=(Aa H).cell 2;have U:=(Aa H).cell 3;simp at e1 V Y b2 U;clear EX F AT H
 go_region_law
  (go_simp;go_at_call 164;refine(Aa HN).mono ?_;rintro e wt ⟨a,k,j,rfl,Ax,HH,HO,HP⟩;have HI:=Ax.cell;have HD:=Ax.frozen;have FA:=Ab Ax;clear Ax)
 all_goals
  have AH:=Ab (Aa FA).cen;have BT:=Ab (Aa FA).low;have L:=Ab (Aa FA).box;have HS:N+1<=(wt.setCell ⟨b,1,none⟩ (.slice k a.length j)).heap.size:=by simp;omega
  have HQ:=Ab HH;clear FA HI HD HN HH e1 V Y b2 U HP;generalize wt.setCell ⟨b,1,none⟩ (.slice k a.length j)=w2 at AH BT L HS⊢;have V:=(Aa L).cell 0;have Y:=(Aa L).cell 1;have b2:=(Aa L).cell 2;have U:=(Aa L).cell 3;simp at V Y b2 U;have e2:=(Aa AH).blk.cell 2;simp at e2;have HJ:Hid (Calls prog 148 #[.slice I q.length G, .agg #[.int .i64 D, .string v, .slice E B.length s, .slice z t.length x]] w2.drew λe g=>∃u K J,e= .returned (.slice K u.length J)/\g.cell? ⟨b,2,none⟩=some (.slice I q.length G)/\g.frozen? ⟨b,2,none⟩=false/\D9 (g.setCell ⟨b,2,none⟩ (.slice K u.length J)) b ((n:Int)+1) (.slice k a.length j) (.slice K u.length J) a u/\Ec TV q u/\u.length<=q.length+90000/\Ac M w (g.setCell ⟨b,2,none⟩ (.slice K u.length J))):=by
   have FP:=(Aa AH).drew;refine(Aa W w2.drew I G q (Aa HK _ (Aa BT).drew) FP.rt (by omega) FP.rit (by show b+1<=w2.heap.size;omega)).mono ?_;rintro e g ⟨u,K,J,rfl,d⟩;obtain⟨FL,FO,Go⟩:=FP.things d.kept d.own d.new d.rise;refine⟨u,K,J,rfl,FO,Go,FL,d.mem,by have:=d.le;omega,?_⟩;exact((Aa BT).drew.trans' d.kept (λi f=>Or.inl ((Aa Q).2.2 i f))).setCell (p:=⟨b,2,none⟩) (Or.inl (Aa Q).1) _
  clear W AH BT L;go_wp2_with fail
  go_region_law
   (go_simp;go_at_call 148;refine(Aa HJ).mono ?_;rintro e Jx ⟨u,K,J,rfl,HI,HD,r1,r2,r3,r4⟩;have HR:=Ab (And.intro r1 (And.intro r2 (And.intro r3 r4)));clear r1 r2 r3 r4)
  all_goals
   clear HJ;(go_wp2_with fail);go_end0;obtain⟨r1,r2,r3,r4⟩:=Aa HR;exact⟨rfl,_,_,a,u,r1,Aa HQ,r2,HO,r3,r4⟩
def Y4(cs:List Da)(S:cL->Prop):Prop:=∀c∈cs,S c.hn->∀y∈BL c,S y
def GW(cs:List Da)(x y:cL):Prop:=∀S:cL->Prop,S x->Y4 cs S->S y
structure Up(cs:List Da)(x:cL)(l:List cL):Prop where
 rise:Ct Dg l
 iff:∀y,y∈l↔GW cs x y
theorem Kz{α:Type} [DecidableEq α]:∀(l b:List α),l.Nodup->(∀y∈l,y∈b)->l.length<=b.length
 |[],_,_,_=>aG _
 |a::t,b,hn,hs=>by
  rw[ck]at hn;have c:a∈b:=hs a (by simp);have ih:=Kz t (b.erase a) hn.2 (λy d=>(List.mem_erase_of_ne (λe=>hn.1 (by rw[<-e];exact d))).2 (hs y (by simp[d])));have g:=List.length_erase_of_mem c;have f:0<b.length:=List.length_pos_of_mem c;simp only[ak];omega
theorem RR{l a:List cL}(d:Ct Dg l)(e:∀y∈l,y∈a)(f:a.length=l.length):∀y∈a,y∈l:=by
 intro y c;by_cases h:y∈l
 ·exact h
 ·have:=Kz (y::l) a (ck.2 ⟨h,d.nodup Eb⟩) (λz b=>by
   rcases aj.1 b with rfl|b
   ·exact c
   ·exact e z b)
  simp only[ak]at this;omega
theorem RH(Ha:Option Addr)(FF:Nat)(cs:List Da)(x:cL)(w:World)(h:Dv w (.slice Ha cs.length FF) cs)(JJ:cs.length<=1000)(hf:∀c∈cs,c.lvs.length<=1000)(hU:(cs.flatMap BL).length<=800000):
  Calls prog 122 #[.slice Ha cs.length FF, .string x] w λe w'=>∃l t u,e= .returned (.slice t l.length u)/\Up cs x l/\l.length<=800001/\w'.ownsRow w.heap.size 9 1 (.slice t l.length u) l.length (l.flatMap Ae)/\Ac [] w w':=by
 have HP:=Ab h;have H8:=Ab hf;clear h hf;have FW:Hid (∀l:List cL,Ct Dg l->(∀y∈l,GW cs x y)->l.length<=1+(cs.flatMap BL).length):=by
  intro l hr hs;have:=Kz l (x::cs.flatMap BL) (hr.nodup Eb) (λy b=>by
   refine hs y b (λz=>z∈x::cs.flatMap BL) (by simp) (λc a _ z R=>?_)
   exact be _ (bh.2 ⟨c,a,R⟩))
  simp only[ak]at this;omega
 obtain⟨U,FL⟩:∃U,(cs.flatMap BL).length=U:=⟨_,rfl⟩;rw[FL]at hU FW;clear FL;have EY:(w.alloc (.cells [.string x].toArray 9)).ownsRow w.heap.size 9 1 (.slice (some ⟨w.heap.size,0,none⟩) 1 1) 1 ([x].flatMap Ae):=⟨rfl,Or.inr ⟨w.heap.size,1,_,rfl,au _,Aw.new w [.string x] 9,au _,by unfold maxLen;omega,rfl,rfl⟩⟩;have BT:=(Ac.refl [] w).alloc (.cells [.string x].toArray 9);have Q:=Ab EY;have Y:=Ab BT;clear EY BT;go_enter func122,ntmps122;go_wp2;change Code.wp _ _ _ _ (w.alloc (.cells [.string x].toArray 9));generalize w.alloc (.cells [.string x].toArray 9)=w1 at Q Y⊢
 go_loopg [5] (U+2-1) (λgk o wr=>∃(l:List cL) (t:Option Addr) (u:Nat),o= .slice t l.length u/\gk=U+2-l.length/\l.length<=U+1/\Hid (Ct Dg l)/\Hid (x∈l)/\Hid (∀y∈l,GW cs x y)/\Hid (wr.ownsRow w.heap.size 9 1 (.slice t l.length u) l.length (l.flatMap Ae))/\Hid (Ac [] w wr))
 case atStart=>exact⟨[x],_,_,rfl,rfl,by simp,λi j X hj K2=>by simp at X hj;omega,by simp[Hid],λy b S K h2=>by simp at b;subst b;exact K,Q,Y⟩
 case round=>
  clear Q Y;obtain⟨l,t,u,rfl,FT,HD,HZ,HX,H0,HB,HK⟩:=hrel;have HG:=Ab FT;clear FT;go_wp2
  go_loopg [5,15] cs.length (λH6 o i AH=>∃(k:Nat) (m:List cL) (s:Option Addr) (r:Nat),o= .slice s m.length r/\i= .int .i64 k/\k<=cs.length/\H6=cs.length-k/\l.length<=m.length/\m.length<=U+1/\Hid (Ct Dg m)/\Hid (∀y∈l,y∈m)/\Hid (∀y∈m,GW cs x y)/\Hid (m.length=l.length->∀c∈cs.take k,c.hn∈m->∀y∈BL c,y∈m)/\Hid (AH.ownsRow w.heap.size 9 1 (.slice s m.length r) m.length (m.flatMap Ae))/\Hid (Ac [] w AH))
  case atStart=>exact⟨0,l,t,u,rfl,rfl,by omega,rfl,by omega,HD,HZ,λy b=>b,H0,λ_ c a=>by simp at a,HB,HK⟩
  case round=>
   obtain⟨k,m,s,r,rfl,rfl,hk,B9,HM,EK,A,I,C,L,O,J⟩:=hrel;have EX:=Ab B9;clear B9;by_cases H:k<cs.length
   ·have V:=(Aa HP).kept (Aa J);obtain⟨g,K9,F,d,p,G,B,E,D,n,he,N,d0,d1,d2,d3⟩:=FI V k H;simp only[Z6]at he;obtain⟨rfl,_,rfl⟩:=he;have K5:=(Aa J).size;have Bx:=Ab (V.each _ (Z7 H));have Z:=Aa H8 _ (Z7 H);have AT:Hid (∀c,c∈cs.take (k+1)↔c∈cs.take k\/c=⟨F,d,p, .slice G p.length B, .slice E n.length D,n⟩):=by
     intro c;rw[ac H,N,aw,ae]
    (have H5:Hid ((⟨F,d,p, .slice G p.length B, .slice E n.length D,n⟩:Da)∈cs):=by rw[<-N];exact Z7 H);rw[N]at Bx Z;simp only at Z;clear V N;have W:=Ab ((Aa J).alloc (.cells [.int .i64 F, .string d, .slice G p.length B, .slice E n.length D].toArray 189));have M:=Ab (ah (Aa O) (.cells [.int .i64 F, .string d, .slice G p.length B, .slice E n.length D].toArray 189));have Go:=Ab (PG s r m d w.heap.size _ (Aa M) (by omega) (Aa A));(go_wp2_with fail);refine(Aa Go).mono ?_;rintro e w4 ⟨rfl,HC⟩;subst HC;clear Go;cases hh:UZ m d with
    |false=>
     have Ax:Hid (m.length=l.length->∀c∈cs.take (k+1),c.hn∈m->∀y∈BL c,y∈m):=by
      intro hl c a v;rcases(Aa AT c).1 a with a|a
      ·exact Aa L hl c a v
      ·subst a;simp only at v;rw[(I2 m d).2 v]at hh;cases hh
     clear hh L;go_wp2
     go_roundg (cs.length-(k+1))
     case measure=>have:=Aa EX;omega
     case rel=>exact⟨k+1,m,s,r,rfl,by go_num,by omega,rfl,HM,EK,A,I,C,Ax,M,W⟩
    |true=>
     have CL:Hid (d∈m):=(I2 m d).1 hh;have AB:=Ab (Kl ⟨F,d,p, .slice G p.length B, .slice E n.length D,n⟩ s r m w.heap.size (wr.alloc (.cells [.int .i64 F, .string d, .slice G p.length B, .slice E n.length D].toArray 189)) ((Aa Bx).kept ((Ac.refl [] wr).alloc _) (by simp)) Z (Aa M) (by omega) (Aa A) (by simp;omega));simp only[A8]at AB;clear hh;(go_wp2_with fail);refine(Aa AB).mono ?_;rintro e w5 ⟨q,H1,HV,rfl,f⟩;have BA:Ac [] w w5:=(Aa W).trans' f.kept (λi X=>Or.inr (((Aa M).lt i (by simpa using X)).1));have T:∀y∈q,GW cs x y:=by
      intro y b;rcases(f.mem y).1 b with K|K
      ·intro S hS hC;exact hC _ (Aa H5) (Aa C _ (Aa CL) S hS hC) y K
      ·exact Aa C y K
     (have P:∀y∈m,y∈q:=λy b=>(f.mem y).2 (Or.inr b));have Ax:Hid (q.length=l.length->∀c∈cs.take (k+1),c.hn∈q->∀y∈BL c,y∈q):=by
      intro hl c a v y b;have K8:=f.ge;have HW:=RR (Aa A) P (by omega);rcases(Aa AT c).1 a with a|a
      ·exact P y (Aa L (by omega) c a (HW _ v) y b)
      ·subst a;exact(f.mem y).2 (Or.inl b)
     (have HF:l.length<=q.length:=by have:=f.ge;omega);have KS:=Aa FW q f.rise T;have HN:=Ab T;(have HJ:Hid (∀y∈l,y∈q):=λy b=>P y (Aa I y b));have H3:=Ab f.rise;have HI:=Ab f.own;have HY:=Ab BA;clear AB f BA T P L C I A O M W CL;go_wp2
     go_roundg (cs.length-(k+1))
     case measure=>have:=Aa EX;omega
     case rel=>exact⟨k+1,q,H1,HV,rfl,by go_num,by omega,rfl,HF,by omega,H3,HJ,HN,Ax,HI,HY⟩
   ·by_cases HO:m.length=l.length
    ·have HE:Hid (Up cs x m):=by
      refine⟨Aa A,λy=>⟨Aa C y,λb=>?_⟩⟩;refine b (λz=>z∈m) (Aa I x (Aa HX)) (λc a v z R=>?_);have h:=Aa L HO;rw[Z9 (by omega)]at h;exact h c a v z R
     (have HU:(m.length:Int)=(l.length:Int):=by omega);go_wp2;go_ret;exact⟨m,s,r,rfl,Aa HE,by omega,Aa O,Aa J⟩
    ·(have HU:¬(m.length:Int)=(l.length:Int):=by omega);have H2:Hid (x∈m):=Aa I x (Aa HX);go_wp2
     go_roundg (U+2-m.length)
     case measure=>have:=Aa HG;omega
     case rel=>exact⟨m,s,r,rfl,rfl,EK,A,H2,C,O,J⟩
def JY(f:cL->cL->Bool)(hn:cL)(p:MH):Bool:=p.1.sort==1&&f p.1.an hn
def I9(f:cL->cL->Bool)(c:Da):Option Int:=(c.lvs.find? (JY f c.hn)).map λp=>p.1.place
def Mk(f:cL->cL->Bool)(cs:List Da):Option Int:=cs.findSome? (I9 f)
theorem OD{α β:Type}(f:α->Option β)(l:List α)(k:Nat)(a:k<l.length)(h:∀c∈l.take k,f c=none){b:β}(d:f l[k]=some b):l.findSome? f=some b:=by
 conv=>lhs;rw[<-bF k l]
 rw[ed];have:(l.take k).findSome? f=none:=by rw[dy];exact h
 rw[this,aC a,dr,d];rfl
theorem Qh(f:cL->cL->Bool)(HN:Option Addr)(HA:Nat)(cs:List Da)(FA:∀x y,f x y=true↔GW cs x y)(w:World)(h:Dv w (.slice HN cs.length HA) cs)(HS:cs.length<=1000)(hf:∀c∈cs,c.lvs.length<=1000)(hU:(cs.flatMap BL).length<=800000):
  Calls prog 73 #[.slice HN cs.length HA] w λe d=>e= .returned (BR (Mk f cs))/\Ac [] w d:=by
 have HP:=Ab h;have HM:=Ab hf;have FT:=Ab FA;clear h hf FA;obtain⟨R,hR⟩:∃R,Mk f cs=R:=⟨_,rfl⟩;rw[hR];have HL:=Ab hR;clear hR;go_enter func73,ntmps73;go_wp2
 go_loopg [10] cs.length (λgk i wr=>∃(k:Nat),i= .int .i64 k/\k<=cs.length/\gk=cs.length-k/\Hid (∀c∈cs.take k,I9 f c=none)/\Hid (Ac [] w wr))
 case atStart=>exact⟨0,rfl,by omega,rfl,λc t=>by simp at t,Ac.refl _ _⟩
 case round=>
  obtain⟨k,rfl,hk,HH,HC,D⟩:=hrel;have HG:=Ab HH;clear HH;by_cases J:k<cs.length
  ·have Y:=(Aa HP).kept (Aa D);obtain⟨g,L0,A,a,n,B,o,z,u,b,he,O,d0,d1,d2,d3⟩:=FI Y k J;simp only[Z6]at he;obtain⟨rfl,_,rfl⟩:=he;have Q:=Ab (Y.each _ (Z7 J)).body;have Go:=Aa HM _ (Z7 J);have KK:Hid (∀p,I9 f ⟨A,a,n, .slice B n.length o, .slice z b.length u,b⟩=some p->R=some p):=by
    intro p HR;rw[<-Aa HL];exact OD _ _ k J (Aa HC) (by rw[O];exact HR)
   have H3:Hid (I9 f ⟨A,a,n, .slice B n.length o, .slice z b.length u,b⟩=none->∀c∈cs.take (k+1),I9 f c=none):=by
    intro HW c t;rw[ac J,O,aw,ae]at t;rcases t with t|t
    ·exact Aa HC c t
    ·rw[t];exact HW
   rw[O]at Q Go;simp only at Go Q;clear Y O;have W:=Ab ((Aa D).alloc (.cells [.int .i64 A, .string a, .slice B n.length o, .slice z b.length u].toArray 189));have HI:=Ab ((Ac.refl [] wr).alloc (.cells [.int .i64 A, .string a, .slice B n.length o, .slice z b.length u].toArray 189));have P:=Ab (Aw.new wr [.int .i64 A, .string a, .slice B n.length o, .slice z b.length u] 189);go_wp2;change Code.wp _ _ _ _ (wr.alloc (.cells [.int .i64 A, .string a, .slice B n.length o, .slice z b.length u].toArray 189));have FW:=Ab ((Aa Q).kept (Aa HI) (by simp));generalize wr.alloc (.cells [.int .i64 A, .string a, .slice B n.length o, .slice z b.length u].toArray 189)=w1 at W P FW⊢;generalize wr.heap.size=N at P⊢;clear HI Q D d0 d1 d2 d3
   go_loopg [17] b.length (λgk i wr=>∃(j:Nat),i= .int .i64 j/\j<=b.length/\gk=b.length-j/\Hid ((b.take j).any (JY f a)=false)/\Hid (Ac [] w wr)/\Hid (Ac [] w1 wr))
   case atStart=>exact⟨0,rfl,by omega,rfl,by show _=_;simp,W,Ac.refl _ _⟩
   case round=>
    clear W;obtain⟨j,rfl,hj,EX,HJ,D,FC⟩:=hrel;have FP:=Ab EX;clear EX;by_cases AB:j<b.length
    ·obtain⟨g2,Mo,q,C,G,FO,M,K2,e0,e1,e2,e3,e4,e5,e6,e7,e8⟩:=G7 ((Aa FW).kept (Aa FC) (by simp)) j AB;simp only[Z6]at FO;obtain⟨rfl,_,rfl⟩:=FO;have HY:Hid (JY f a (q, .slice C q.ts.length G)=true->R=some q.place):=by
      intro m;refine Aa KK _ ?_;unfold I9;simp only;rw[Fh _ _ j AB (Aa HJ) (by rw[M];exact m),M];rfl
     have V:Hid (JY f a (q, .slice C q.ts.length G)=false->(b.take (j+1)).any (JY f a)=false):=by
      intro m;rw[CB _ _ j AB (Aa HJ),M];exact m
     clear M K2;have H:=Ab ((Aa D).alloc (.cells (Ap (q, .slice C q.ts.length G)).toArray 217));have E:=Ab ((Aa FC).alloc (.cells (Ap (q, .slice C q.ts.length G)).toArray 217));have F:=Ab (Aw.new wr (Ap (q, .slice C q.ts.length G)) 217);simp only[Ap]at H E F;cases hs:(q.sort==1)with
     |false=>
      (have HV:(q.sort !=1)=true:=by simp[bne,hs]);have X:=Ab (Aa V (by unfold JY;simp only;rw[hs];rfl));clear HY V hs;go_wp2
      go_roundg (b.length-(j+1))
      case measure=>have:=Aa FP;omega
      case rel=>exact⟨j+1,by go_num,by omega,rfl,X,H,E⟩
     |true=>
      (have HV:(q.sort !=1)=false:=by simp[bne,hs]);(have Ax:Hid (f q.an a=true->R=some q.place):=λm=>Aa HY (by unfold JY;simp only;rw[hs,m];rfl));(have BA:Hid (f q.an a=false->(b.take (j+1)).any (JY f a)=false):=λm=>Aa V (by unfold JY;simp only;rw[hs,m];rfl));clear HY V hs;(go_wp2_with fail);change Code.wp _ _ _ _ (wr.alloc (.cells [.int .i64 q.place, .int .i64 q.sort, .int .i64 q.ap, .string q.an, .slice C q.ts.length G, .int .i32 q.l.v, .string q.l.s, .int .i32 q.r.v, .string q.r.s].toArray 217));generalize wr.alloc (.cells [.int .i64 q.place, .int .i64 q.sort, .int .i64 q.ap, .string q.an, .slice C q.ts.length G, .int .i32 q.l.v, .string q.l.s, .int .i32 q.r.v, .string q.r.s].toArray 217)=w3 at H E F⊢;generalize wr.heap.size=T at F⊢;have t3:=(Aa F).cell 3;have n1:=((Aa P).kept (Aa E) (by simp)).cell 1;simp at t3 n1;have H0:=Ab (RH _ _ cs q.an w3.drew ((Aa HP).kept (Aa H).drew) HS (Aa HM) hU);have K1:Hid (∀d,Ac [] w3.drew d->d.cell? ⟨T,3,none⟩=some (.string q.an)/\d.cell? ⟨N,1,none⟩=some (.string a)/\d.cell? ⟨T,0,none⟩=some (.int .i64 q.place)/\Ac [] w d/\Ac [] w1 d):=by
       intro d I;exact⟨((Aa F).drew.kept I (by simp)).cell 3,(((Aa P).kept (Aa E) (by simp)).drew.kept I (by simp)).cell 1,((Aa F).drew.kept I (by simp)).cell 0,(Aa H).drew.trans I,(Aa E).drew.trans I⟩
      have JJ:Hid (∀(l:List cL) S U AT d,Up cs q.an l->l.length<=800001->d.ownsRow AT 9 1 (.slice S l.length U) l.length (l.flatMap Ae)->Calls prog 121 #[.slice S l.length U, .string a] d λe w9=>e= .returned (.bool (f q.an a))/\w9=d):=by
       intro l S U AT d L h1 h2;(have H8:UZ l a=f q.an a:=by rw[bJ,I2,L.iff,Aa FT]);have m:=PG S U l a AT d h2 (by omega) L.rise;rw[H8]at m;exact m
      clear H E F HP FT
      go_region_held3 (λd=>d.cell? ⟨T,3,none⟩=some (.string q.an)/\d.cell? ⟨N,1,none⟩=some (.string a)) (go_keep) ((first|(go_at_call 122;refine(Aa H0).mono ?_;rintro e w4 ⟨l,H9,H2,rfl,L,HF,HB,k4⟩;have K:=Aa K1 w4 k4;have f3:=K.1;have f1:=K.2.1;have f0:=K.2.2.1;have Z:=Ab K;have HZ:=Ab (Aa JJ l H9 H2 _ w4 L HF HB);clear L HF HB k4 K)|(go_at_call 121;refine(Aa HZ).mono ?_;rintro e w9 ⟨rfl,HQ⟩;subst HQ)))
      rename_i Jx;clear Jx;cases m:f q.an a with
      |true=>
       have HT:=Ab (Aa Ax m);clear Ax BA m;go_wp2;go_ret2;rw[Aa HT];exact⟨rfl,(Aa Z).2.2.2.1⟩
      |false=>
       have HT:=Ab (Aa BA m);clear Ax BA m;go_wp2
       go_roundg (b.length-(j+1))
       case measure=>have:=Aa FP;omega
       case rel=>exact⟨j+1,by go_num,by omega,rfl,HT,(Aa Z).2.2.2.1,(Aa Z).2.2.2.2⟩
    ·have HE:Hid (I9 f ⟨A,a,n, .slice B n.length o, .slice z b.length u,b⟩=none):=by
      have h:=Aa HJ;rw[Z9 (by omega)]at h;show _=_;unfold I9;simp only;have:b.find? (JY f a)=none:=by
       rw[cg];intro y hy m;rw[bW]at h;exact h y hy m
      rw[this];rfl
     have X:=Ab (Aa H3 (Aa HE));go_wp2
     go_roundg (cs.length-(k+1))
     case measure=>have:=Aa HG;omega
     case rel=>exact⟨k+1,by go_num,by omega,rfl,X,D⟩
  ·have HE:Hid (R=none):=by
    have h:=Aa HC;rw[Z9 (by omega)]at h;show _=_;rw[<-Aa HL];unfold Mk;rw[dy];exact h
   go_wp2;go_ret2;rw[HE.out];exact⟨rfl,Aa D⟩
def QN(cs:List Bf)(x y:cL)(b:Nat):Prop:=∃c∈cs,c.head.name=x/\∃l∈Al c,l.A.name=y/\(((l.kind==97)=true/\b=0)\/((l.kind==33)=true/\b=1))
def FX(cs:List Bf)(x y:cL):Prop:=∀S:cL->Prop,S x->(∀u v b,QN cs u v b->S u->S v)->S y
theorem FX.refl(cs:List Bf)(x:cL):FX cs x x:=λS h _=>h
theorem FX.trans{cs:List Bf}{x y z:cL}(h:FX cs x y)(k:FX cs y z):FX cs x z:=λS b a=>k S (h S b a) a
theorem FX.edge{cs:List Bf}{x y:cL}{b:Nat}(h:QN cs x y b):FX cs x y:=λS c a=>a x y b h c
def WP(cs:List Bf):Prop:=∀x y,QN cs x y 1->¬FX cs y x
theorem QA(f:cL->Nat):∀(a:List Bm) (n:Nat),n<=G6 f n a/\∀p∈a,Lc f p<=G6 f n a
 |[],n=>⟨au _,λp b=>by simp at b⟩
 |q::a,n=>by
  have ih:=QA f a (max n (Lc f q));have e:G6 f n (q::a)=G6 f (max n (Lc f q)) a:=rfl;rw[e];refine⟨by have:=ih.1;omega,λp b=>?_⟩;rcases aj.1 b with rfl|b
  ·have:=ih.1;omega
  ·exact ih.2 p b
theorem UM(f:cL->Nat):∀(a:List Bm) (n:Nat),G6 f n a=n\/∃p∈a,G6 f n a=Lc f p
 |[],n=>Or.inl rfl
 |q::a,n=>by
  have e:G6 f n (q::a)=G6 f (max n (Lc f q)) a:=rfl;rw[e];rcases UM f a (max n (Lc f q))with h|⟨p,hp,h⟩
  ·by_cases b:n<=Lc f q
   ·exact Or.inr ⟨q,by simp,by rw[h];omega⟩
   ·exact Or.inl (by rw[h];omega)
  ·exact Or.inr ⟨p,by simp[hp],h⟩
theorem Uz(f:cL->Nat)(x:cL):∀(a:List Bf) (n:Nat),n<=a.foldl (IG f x) n/\∀c∈a,c.head.name=x->∀p∈c.bl,Lc f p<=a.foldl (IG f x) n
 |[],n=>⟨au _,λc h=>by simp at h⟩
 |c::a,n=>by
  rw[aR];have ih:=Uz f x a (IG f x n c);have j:n<=IG f x n c:=by
   unfold IG;split
   ·exact(QA f c.bl n).1
   ·exact au _
  refine⟨by have:=ih.1;omega,λd b g p e=>?_⟩;rcases aj.1 b with rfl|b
  ·have i:Lc f p<=IG f x n d:=by
    unfold IG;rw[if_pos ((D4 _ _).2 g)];exact(QA f d.bl n).2 p e
   have:=ih.1;omega
  ·exact ih.2 d b g p e
theorem Ux(f:cL->Nat)(x:cL):∀(a:List Bf) (n:Nat),a.foldl (IG f x) n=n\/∃c∈a,c.head.name=x/\∃p∈c.bl,a.foldl (IG f x) n=Lc f p
 |[],n=>Or.inl rfl
 |c::a,n=>by
  rw[aR];rcases Ux f x a (IG f x n c)with h|⟨d,hd,hx,p,b,h⟩
  ·rw[h];unfold IG;by_cases e:(c.head.name.toList==x.toList)=true
   ·rw[if_pos e];rcases UM f c.bl n with g|⟨p,b,g⟩
    ·exact Or.inl g
    ·exact Or.inr ⟨c,by simp,(D4 _ _).1 e,p,b,g⟩
   ·rw[if_neg e];exact Or.inl rfl
  ·exact Or.inr ⟨d,by simp[hd],hx,p,b,h⟩
theorem Jq{cs:List Bf}{x y:cL}{b:Nat}(h:QN cs x y b)(d:Nat):BV cs d y+b<=BV cs (d+1) x:=by
 obtain⟨c,k,m,l,i,e,j⟩:=h;obtain⟨p,f,rfl⟩:=az.1 i;rw[BV];have o:=(Uz (BV cs d) x cs 0).2 c k m p f;have n:Lc (BV cs d) p=BV cs d y+b:=by
  unfold Lc;rcases j with⟨a,rfl⟩|⟨a,rfl⟩
  ·rw[if_pos a,e];rfl
  ·have g:(p.1.kind==97)=false:=by
    (have:p.1.kind=33:=by simpa using a);rw[this];rfl
   rw[if_neg (by rw[g];simp),if_pos a,e]
 omega
theorem N7(cs:List Bf)(d:Nat)(x:cL)(h:0<BV cs (d+1) x):∃y b,QN cs x y b/\BV cs (d+1) x=BV cs d y+b:=by
 rw[BV]at h⊢;rcases Ux (BV cs d) x cs 0 with a|⟨c,i,j,p,g,a⟩
 ·omega
 ·unfold Lc at a;by_cases e:(p.1.kind==97)=true
  ·rw[if_pos e]at a;exact⟨p.1.A.name,0,⟨c,i,j,p.1,aM g,rfl,Or.inl ⟨e,rfl⟩⟩,a⟩
  ·rw[if_neg e]at a;by_cases f:(p.1.kind==33)=true
   ·rw[if_pos f]at a;exact⟨p.1.A.name,1,⟨c,i,j,p.1,aM g,rfl,Or.inr ⟨f,rfl⟩⟩,a⟩
   ·rw[if_neg f]at a;omega
theorem Ll(cs:List Bf):∀(d:Nat) (x:cL),BV cs d x<=BV cs (d+1) x
 |0,x=>by rw[show BV cs 0 x=0 from rfl];omega
 |d+1,x=>by
  by_cases h:0<BV cs (d+1) x
  ·obtain⟨y,b,a,e⟩:=N7 cs d x h;have c:=Ll cs d y;have f:=Jq a (d+1);omega
  ·omega
theorem Tk(cs:List Bf)(x:cL){d e:Nat}(h:d<=e):BV cs d x<=BV cs e x:=by
 induction h with
 |refl=>exact au _
 |step _ ih=>exact bM ih (Ll cs _ x)
structure Z1(cs:List Bf)(d:Nat)(x v:cL):Prop where
 way:∃D B:Nat,d<D/\BV cs D v<BV cs (D+1) v/\BV cs (D+1) v=B+BV cs (d+1) x/\FX cs v x/\(0<B->∃u t,QN cs u t 1/\FX cs v u/\FX cs t x)
theorem UI{cs:List Bf}(g:WP cs){d:Nat}{x:cL}(h:Z1 cs d x x):False:=by
 obtain⟨D,B,k,i,j,_,e⟩:=h.way;by_cases f:0<B
 ·obtain⟨u,t,a,c,b⟩:=e f;exact g u t a (b.trans c)
 ·have:=Tk cs x (show d+1<=D by omega);omega
theorem XE{cs:List Bf}(A:WP cs)(g:List cL)(C:∀c∈cs,c.head.name∈g)(R:g.length<=6):∀(d:Nat) (x:cL) (a:List cL),6<=a.length+d->a.Nodup->(∀v∈a,v∈g)->(∀v∈a,Z1 cs d x v)->BV cs d x<BV cs (d+1) x->False:=by
 intro d
 induction d with
 |zero=>
  intro x a H o p i s;obtain⟨y,b,e,_⟩:=N7 cs 0 x (by omega);obtain⟨c,r,n,_⟩:=e;have m:x∈g:=by rw[<-n];exact C c r
  have j:x∉a:=λh=>UI A (i x h)
  have:=Kz (x::a) g (ck.2 ⟨j,o⟩) (λz f=>by
   rcases aj.1 f with rfl|f
   ·exact m
   ·exact p z f)
  simp only[ak]at this;omega
 |succ d ih=>
  intro x a H o p i s;obtain⟨y,b,e,Q⟩:=N7 cs (d+1) x (by omega);have m:x∈g:=by
   obtain⟨c,r,n,_⟩:=e;rw[<-n];exact C c r
  have j:x∉a:=λh=>UI A (i x h)
  have O:=Jq e d;have M:b<=1:=by
   obtain⟨c,_,_,l,_,_,h|h⟩:=e<;>omega
  refine ih y (x::a) (by simp only[ak];omega) (ck.2 ⟨j,o⟩) (λz f=>?_) (λv k=>?_) (by omega)
  ·rcases aj.1 f with rfl|f
   ·exact m
   ·exact p z f
  ·rcases aj.1 k with rfl|k
   ·refine⟨d+1,b,by omega,s,by omega,FX.edge e,λG=>?_⟩;(have q:b=1:=by omega);subst q;exact⟨v,y,e,FX.refl cs v,FX.refl cs y⟩
   ·obtain⟨D,B,N,K,P,w,L⟩:=(i v k).way;refine⟨D,B+b,by omega,K,by omega,w.trans (FX.edge e),λG=>?_⟩;by_cases I:0<B
    ·obtain⟨u,t,F,E,J⟩:=L I;exact⟨u,t,F,E,J.trans (FX.edge e)⟩
    ·(have q:b=1:=by omega);subst q;exact⟨x,y,e,w,FX.refl cs y⟩
theorem YC{cs:List Bf}(k:WP cs)(a:List cL)(j:∀c∈cs,c.head.name∈a)(l:a.length<=6):Dt cs (BV cs 6):=by
 have i:∀x,BV cs 7 x=BV cs 6 x:=by
  intro x;have m:BV cs 6 x<=BV cs 7 x:=Ll cs 6 x;by_cases h:BV cs 6 x<BV cs 7 x
  ·exact(XE k a j l 6 x [] (by simp) cZ (λv e=>by simp at e) (λv e=>by simp at e) h).elim
  ·omega
 refine⟨λc f x g d=>?_,λc f x g d=>?_⟩
 ·have h:=Jq (cs:=cs) (x:=c.head.name) (y:=x.A.name) (b:=0) ⟨c,f,rfl,x,g,rfl,Or.inl ⟨d,rfl⟩⟩ 6;rw[i]at h;omega
 ·have h:=Jq (cs:=cs) (x:=c.head.name) (y:=x.A.name) (b:=1) ⟨c,f,rfl,x,g,rfl,Or.inr ⟨d,rfl⟩⟩ 6;rw[i]at h;omega
def Zi(l:List cL):List cL:=l.foldl Ci []
def Gu(c:Da):List cL:=((Bj c).filter λt=>t.v==0).map λt=>t.s
theorem KY(l:List cL)(x:cL):Dn l x=true↔x∈l:=I2 l x
theorem Pv(l:List cL)(x y:cL):y∈Ci l x↔y=x\/y∈l:=by
 unfold Ci;cases h:Dn l x with
 |true=>
  simp only[if_true];have b:=(KY l x).1 h;exact⟨Or.inr,λa=>by rcases a with rfl|a;exact b;exact a⟩
 |false=>
  simp only[Z8,if_false,aw,ae];exact⟨λa=>by rcases a with a|a;exact Or.inr a;exact Or.inl a,λa=>by rcases a with a|a;exact Or.inr a;exact Or.inl a⟩
theorem RC{l:List cL}(h:l.Nodup)(x:cL):(Ci l x).Nodup:=by
 unfold Ci;cases hb:Dn l x with
 |true=>simpa using h
 |false=>
  simp only[Z8,if_false];rw[List.nodup_append];refine⟨h,by simp,λa d b c e=>?_⟩;simp only[ae]at c;subst e c;rw[(KY l a).2 d]at hb;cases hb
theorem Ng:∀(a l:List cL),l.Nodup->(a.foldl Ci l).Nodup/\∀y,y∈a.foldl Ci l↔y∈a\/y∈l
 |[],l,h=>⟨h,λy=>by simp⟩
 |x::a,l,h=>by
  obtain⟨b,c⟩:=Ng a (Ci l x) (RC h x);refine⟨b,λy=>?_⟩;rw[aR,c,Pv,aj];exact⟨λh=>by rcases h with h|h|h;exact Or.inl (Or.inr h);exact Or.inl (Or.inl h);exact Or.inr h,λh=>by rcases h with(h|h)|h;exact Or.inr (Or.inl h);exact Or.inl h;exact Or.inr (Or.inr h)⟩
theorem Ei(l:List cL):(Zi l).Nodup/\∀y,y∈Zi l↔y∈l:=by
 obtain⟨a,b⟩:=Ng l [] cZ;exact⟨a,λy=>by rw[Zi,b];simp⟩
theorem JS{a b:List cL}(d:a.Nodup)(e:b.Nodup)(h:∀y,y∈a↔y∈b):a.length=b.length:=
 Nat.le_antisymm (Kz a b d (λy c=>(h y).1 c)) (Kz b a e (λy c=>(h y).2 c))
def SW(cs:List Da)(k:Nat):Bool:=decide (12<k+1)||decide (6<(Zi ((cs.take (k+1)).flatMap BL)).length)||decide (6<(Zi ((cs.take (k+1)).flatMap Gu)).length)
def S3(cs:List Da)(k:Nat)(c:Da):Option (Int×Int):=
 if SW cs k||IE c then some (3,c.hp)
 else match ZQ cs (Bh c)with
  |some p=>some (4,p)
  |none=>match GY c with
   |some p=>some (5,p)
   |none=>none
def L3(cs:List Da):Nat->List Da->Option (Int×Int)
 |_,[]=>none
 |k,c::l=>match S3 cs k c with
  |some r=>some r
  |none=>L3 cs (k+1) l
def Uq:Option (Int×Int)->Value
 |some r=> .tuple #[.int .i64 r.1, .int .i64 r.2]
 |none=> .tuple #[.int .i64 0, .int .i64 0]
structure ZR(c:Da):Prop where
 pc:MV c
 terms:(Bj c).length<=90000
theorem ZR.atoms{c:Da}(h:ZR c){w:World}(d:Im w 0 c.hv c.bv c.hts c.lvs):∀a∈Bh c,lenOf a.tv<=1000:=by
 intro a b;rcases aj.1 b with rfl|b
 ·obtain⟨j,i,e⟩:=Ak d.head;simp only;rw[e];exact h.pc.head.2
 ·unfold A7 at b;obtain⟨p,g,rfl⟩:=az.1 b;have f:=(aJ.1 g).1;obtain⟨j,i,e⟩:=Ak (d.body.each p f).1;simp only;rw[e];exact(h.pc.each p f).2
theorem Rt{cs:List Da}{k:Nat}(e:k<cs.length){d th':List cL}(h:∀y,y∈d↔y∈(cs.take k).flatMap Gu)(a:Ec (Bj cs[k]) d th'):∀y,y∈th'↔y∈(cs.take (k+1)).flatMap Gu:=by
 intro y;rw[a y,h y,ac e,aN,aw];simp only[aB,bq,aX];have:(∃t∈Bj cs[k],t.v=0/\t.s=y)↔y∈Gu cs[k]:=by
  unfold Gu;rw[az];constructor
  ·rintro ⟨t,b,a,c⟩;exact⟨t,aJ.2 ⟨b,by simpa using a⟩,c⟩
  ·rintro ⟨t,b,c⟩;obtain⟨f,g⟩:=aJ.1 b;exact⟨t,f,by simpa using g,c⟩
 rw[this];exact⟨λh=>by rcases h with h|h;exact Or.inr h;exact Or.inl h,λh=>by rcases h with h|h;exact Or.inr h;exact Or.inl h⟩
theorem T6{cs:List Da}{k:Nat}(b:k<cs.length){nm nm':List cL}(h:∀y,y∈nm↔y∈(cs.take k).flatMap BL)(a:∀y,y∈nm'↔y∈BL cs[k]\/y∈nm):∀y,y∈nm'↔y∈(cs.take (k+1)).flatMap BL:=by
 intro y;rw[a y,h y,ac b,aN,aw];simp only[aB,bq,aX];exact⟨λh=>by rcases h with h|h;exact Or.inr h;exact Or.inl h,λh=>by rcases h with h|h;exact Or.inr h;exact Or.inl h⟩
theorem Lj(LC:Option Addr)(K4:Nat)(cs:List Da)(w:World)(h:Dv w (.slice LC cs.length K4) cs)(z:∀c∈cs,Yk w w.heap.size c)(Mo:cs.length<=1000)(hf:∀c∈cs,ZR c):
  Calls prog 72 #[.slice LC cs.length K4] w λe X=>e= .returned (Uq (L3 cs 0 cs))/\Ac [] w X:=by
 have HP:=Ab h;have K7:=Ab hf;have K2:=Ab z;obtain⟨R,hR⟩:∃R,L3 cs 0 cs=R:=⟨_,rfl⟩;rw[hR];have LB:=Ab hR;clear h hf z hR;have AT:Hid (D9 (w.alloc (.cells [.int .i64 0, .slice none 0 0, .slice none 0 0].toArray 210)) w.heap.size ((0:Nat):Int) (.slice none 0 0) (.slice none 0 0) [] []):=
  ⟨Aw.new w _ 210,ax _ _ _ _,ax _ _ _ _,λk hk=>by simp[Value.ownBlock]at hk,λi j t=>by simp at t,λi j t=>by simp at t⟩
 have AH:=Ab (Ul.of ((Ac.refl [] w).alloc (.cells [.int .i64 0, .slice none 0 0, .slice none 0 0].toArray 210)) (au _) (by simp));have B:Hid (∀wr,Ul w.heap.size w wr->Ac [] w wr):=λwr hl=>hl.kept (au _)
 go_enter func72,ntmps72;go_wp2;change Code.wp _ _ _ _ (w.alloc (.cells [.int .i64 0, .slice none 0 0, .slice none 0 0].toArray 210));generalize w.alloc (.cells [.int .i64 0, .slice none 0 0, .slice none 0 0].toArray 210)=w1 at AT AH⊢;obtain⟨b,HW⟩:∃b,w.heap.size=b:=⟨_,rfl⟩;rw[HW]at AT AH K2 B⊢;have QQ:=Ab HW;clear HW
 go_loopg [13] cs.length (λgk i wr=>∃(k:Nat) (U Q:Value) (N S:List cL),i= .int .i64 k/\k<=cs.length/\k<=12/\gk=cs.length-k/\N.length<=6/\S.length<=6/\Hid (D9 wr b (k:Int) U Q N S)/\Hid (∀y,y∈N↔y∈(cs.take k).flatMap BL)/\Hid (∀y,y∈S↔y∈(cs.take k).flatMap Gu)/\Hid (L3 cs k (cs.drop k)=R)/\Hid (Ul b w wr))
 case atStart=>exact⟨0,_,_,[],[],rfl,by omega,by omega,rfl,by simp,by simp,AT,λy=>by simp,λy=>by simp,LB,AH⟩
 case round=>
  clear AT AH LB;obtain⟨k,U,Q,N,S,rfl,hk,SB,K8,SL,RE,Z,KK,H0,HR,W⟩:=hrel;have HG:=Ab K8;clear K8;by_cases z:k<cs.length
  ·have H3:=Aa B wr (Aa W);have H8:=(Aa HP).kept H3;obtain⟨g,RV,f,q,d,o,l,n,m,a,he,H2,d0,d1,d2,d3⟩:=FI H8 k z;simp only[Z6]at he;obtain⟨rfl,_,rfl⟩:=he;have FO:=Ab ((Aa K2 _ (Z7 z)).low (Aa W));have x:=Ab (Aa K7 _ (Z7 z));have H:Hid ((match S3 cs k cs[k] with|some r=>some r|none=>L3 cs (k+1) (cs.drop (k+1)))=R):=by
    have h:=Aa HR;rw[aC z,L3]at h;exact h
   have HO:=Ab (λnm'=>T6 (nm':=nm') z (Aa KK));have Go:=Ab (λth'=>Rt (th':=th') z (Aa H0));rw[H2]at FO x H HO Go;clear H8 H2 HR KK H0 H3;have PT:=(Aa Z).blk.lt;have kA:=(Ac.refl [] wr).alloc (.cells [.int .i64 f, .string q, .slice o d.length l, .slice n a.length m].toArray 189);have E:=Ab ((Aa Z).kept kA);have O:=Ab (Aw.new wr [.int .i64 f, .string q, .slice o d.length l, .slice n a.length m] 189);have lA:=Ul.of kA (b:=b) (by omega) (by simp);have K:=Ab ((Aa W).trans lA);have M:=Ab ((Aa FO).low lA);have HK:Hid (∀v:Value,(v=U\/v=Q)->v.ownBlock≠some wr.heap.size):=by
    intro v hv e;rcases hv with rfl|rfl
    ·have:=((Aa Z).rn.lt _ e).2;omega
    ·have:=((Aa Z).rt.lt _ e).2;omega
   have FP:=Ab (VT b k U Q N S ⟨f,q,d, .slice o d.length l, .slice n a.length m,a⟩ _ (Aa E) (Aa M) (Aa x).pc (Aa x).terms (by omega) (by omega) (by omega));(have NV:b+1<=(wr.alloc (.cells [.int .i64 f, .string q, .slice o d.length l, .slice n a.length m].toArray 189)).heap.size:=by simp;omega);clear kA lA;simp only[A8]at FP;(go_wp2_with fail);refine(Aa FP).mono ?_;rintro e w5 ⟨rfl,K9,H1,CC,BT,Y,Ix,Jx,SJ,RI,k5⟩;have HI:=(Aa O).kept k5 (by
    intro s
    simp only[aj,aw]at s
    rcases s with s|s|s
    ·omega
    ·exact Aa HK U (Or.inl rfl) (by simpa using s)
    ·exact Aa HK Q (Or.inr rfl) (by simpa using s))
   have l5:Ul b (wr.alloc (.cells [.int .i64 f, .string q, .slice o d.length l, .slice n a.length m].toArray 189)) w5:=Ul.of k5 (by omega) (λi t=>by
    simp only[aj,aw]at t
    rcases t with t|t|t
    ·omega
    ·exact(Aa E).lows.1 i t
    ·exact(Aa E).lows.2 i t)
   have HF:=Ab ((Aa K).trans l5);have HN:=Ab ((Aa M).low l5);have K6:=Ab (Aa HO CC Ix);have H7:=Ab (Aa Go BT Jx);have B9:Hid ((decide (12<k+1)||decide (6<CC.length)||decide (6<BT.length))=SW cs k):=by
    show _=_;unfold SW;rw[JS (Y.rin.nodup Eb) (Ei _).1 (λy=>(Aa K6 y).trans ((Ei _).2 y).symm),JS (Y.rit.nodup Eb) (Ei _).1 (λy=>(Aa H7 y).trans ((Ei _).2 y).symm)]
   have FC:=Ab (OV b (k+1) K9 H1 CC BT w5 Y);rw[Aa B9]at FC;have Nq:wr.heap.size<w5.heap.size:=HI.lt;have I:=Ab HI;have HD:=Ab Y;(have LM:wr.heap.size≠b:=by omega);clear FP Y Ix Jx k5 l5 E O K M HK HO Go HI d0 d1 d2 d3 NV W FO Z;generalize wr.heap.size=T at I Nq LM⊢;(go_wp2_with fail);refine(Aa FC).mono ?_;rintro e w6 ⟨rfl,LS⟩;subst LS;clear FC;have C:=(Aa I).cell 0;have D:=(Aa I).cell 1;have F:=(Aa I).cell 2;have G:=(Aa I).cell 3;simp at C D F G;cases s:SW cs k with
   |true=>
    have A:Hid (R=some (3,f)):=by
     show _=_;rw[<-Aa H];unfold S3;rw[s];rfl
    clear s B9 H;go_wp2_with fail
    go_region_held3 (λX=>X.cell? ⟨T,0,none⟩=some (.int .i64 f)) (go_keep) (fail)
    rename_i HB;clear HB;go_wp2;go_ret2;rw[Aa A];exact⟨rfl,Aa B _ (Aa HF).drew⟩
   |false=>
    have L:=Aa B9;rw[s]at L;simp only[dA,dm]at L;have FF:=Ab (MO ⟨f,q,d, .slice o d.length l, .slice n a.length m,a⟩ w6 (Aa HN).at_ (Aa x).pc.lits);simp only[A8]at FF;have K1:=Ab s;have OH:=L.1.1;have SP:=L.1.2;have Pl:=L.2;clear s B9 L;(go_wp2_with fail);refine(Aa FF).mono ?_;rintro e w7 ⟨rfl,k7⟩;have J:=Ab ((Aa I).kept k7 (by simp));have EX:=Ab ((Aa HD).kept k7);have l7:=Ul.of k7 (b:=b) (by have:=(Aa HD).blk.lt;omega) (by simp);have HS:=Ab ((Aa HF).trans l7);have P:=Ab ((Aa HN).low l7);have RB:T<w7.heap.size:=(Aa J).lt;(have Os:b<=w7.heap.size:=by have:=(Aa EX).blk.lt;omega);clear C D F G FF k7 l7 I HD HF HN;have C:=(Aa J).cell 0;have D:=(Aa J).cell 1;have F:=(Aa J).cell 2;have G:=(Aa J).cell 3;simp at C D F G;cases hg:IE ⟨f,q,d, .slice o d.length l, .slice n a.length m,a⟩with
    |true=>
     have A:Hid (R=some (3,f)):=by
      show _=_;rw[<-Aa H];unfold S3;rw[hg,dJ];rfl
     clear hg H;go_wp2_with fail
     go_region_held3 (λX=>X.cell? ⟨T,0,none⟩=some (.int .i64 f)) (go_keep) (fail)
     rename_i HB;clear HB;go_wp2;go_ret2;rw[Aa A];exact⟨rfl,Aa B _ (Aa HS).drew⟩
    |false=>
     have u:Hid ((match(match ZQ cs (Bh ⟨f,q,d, .slice o d.length l, .slice n a.length m,a⟩)with|some p=>some ((4:Int),p)|none=>match GY ⟨f,q,d, .slice o d.length l, .slice n a.length m,a⟩with|some p=>some ((5:Int),p)|none=>none)with|some r=>some r|none=>L3 cs (k+1) (cs.drop (k+1)))=R):=by
      have h:=Aa H;unfold S3 at h;rw[Aa K1,hg]at h;exact h
     clear hg H K1;have Bx:=Ab (Jl ⟨f,q,d, .slice o d.length l, .slice n a.length m,a⟩ w7 (Aa P).at_ (Aa x).pc.lits);have JJ:=Ab (GD (Aa P).at_);have H6:(Bh ⟨f,q,d, .slice o d.length l, .slice n a.length m,a⟩).length<=1001:=by
      have:=D5 a;have h2:=(Aa x).pc.lits;simp only at h2;simp[Bh];omega
     have KS:=Ab ((Aa x).atoms (Aa P).at_);simp only[A8]at Bx;generalize Bh ⟨f,q,d, .slice o d.length l, .slice n a.length m,a⟩=aT at Bx u JJ H6 KS;(go_wp2_with fail);refine(Aa Bx).mono ?_;rintro e wa ⟨Op,NL,rfl,K5,ka⟩;have O:=Ab ((Aa J).kept ka (by simp));have E:=Ab ((Aa EX).kept ka);have la:=Ul.of ka (b:=b) Os (by simp);have K:=Ab ((Aa HS).trans la);have M:=Ab ((Aa P).low la);(have N2:b<=wa.heap.size:=by have:=(Aa E).blk.lt;omega);have FT:=Ab (OL Op NL aT _ _ _ cs wa K5 (Aa JJ) H6 (Aa KS) ((Aa HP).kept (Aa B wa (Aa K))) (λc hc=>(Aa K7 c hc).pc.lits) Mo);clear Bx K5 ka la J EX HS P C D F G;generalize ZQ cs aT=RO at FT u;(go_wp2_with fail);refine(Aa FT).mono ?_;rintro e w8 ⟨rfl,k8⟩;have V:=Ab ((Aa O).kept k8 (by simp));have HM:=Ab ((Aa E).kept k8);have l8:Ul b wa w8:=Ul.of k8 N2 (by simp);have HH:=Ab ((Aa K).trans l8);have HZ:=Ab ((Aa M).low l8);(have MN:b<=w8.heap.size:=by have:=(Aa HM).blk.lt;omega);clear FT k8 l8 O E K M;have C:=(Aa V).cell 0;have D:=(Aa V).cell 1;have F:=(Aa V).cell 2;have G:=(Aa V).cell 3;simp at C D F G;cases RO with
     |some p=>
      have A:Hid (R=some (4,p)):=(Aa u).symm;clear u;simp only[BR];go_wp2;go_ret2;rw[Aa A];exact⟨rfl,Aa B _ (Aa HH)⟩
     |none=>
      have AB:=Ab (MI ⟨f,q,d, .slice o d.length l, .slice n a.length m,a⟩ w8 (Aa HZ).at_ (Aa x).pc (by have:=(Aa x).terms;omega));simp only[A8]at AB;simp only at u;generalize GY ⟨f,q,d, .slice o d.length l, .slice n a.length m,a⟩=UO at AB u;simp only[BR];(go_wp2_with fail);refine(Aa AB).mono ?_;rintro e w9 ⟨rfl,k9⟩;have L0:=Ab ((Aa HM).kept k9);have H4:=Ab ((Aa HH).trans (Ul.of k9 MN (by simp)));clear AB k9 HM HH HZ V C D F G;cases UO with
      |some p=>
       have A:Hid (R=some (5,p)):=(Aa u).symm;clear u;simp only[BR];go_wp2;go_ret2;rw[Aa A];exact⟨rfl,Aa B _ (Aa H4)⟩
      |none=>
       have N4:Hid (L3 cs (k+1) (cs.drop (k+1))=R):=Aa u;clear u;simp only[BR];go_wp2
       go_roundg (cs.length-(k+1))
       case measure=>have:=Aa HG;omega
       case rel=>exact⟨k+1,K9,H1,CC,BT,by go_num,by omega,by omega,rfl,by omega,by omega,L0,K6,H7,N4,H4⟩
  ·have A:Hid (R=none):=by
    have h:=Aa HR;rw[aQ (by omega),L3]at h;exact h.symm
   go_wp2;go_ret2;rw[A.out];exact⟨rfl,Aa B wr (Aa W)⟩
def OY(f:cL->cL->Bool)(pcs:List Da):Int×Int:=match L3 pcs 0 pcs with
 |some r=>r
 |none=>match Mk f pcs with
  |some p=>(6,p)
  |none=>(0,0)
structure Wf(c:Da):Prop where
 head:lenOf c.hv=c.hts.length
 lits:∀p∈c.lvs,lenOf p.2=p.1.ts.length
theorem Im.wf{w:World}{c:Da}(h:Im w 0 c.hv c.bv c.hts c.lvs):Wf c:=by
 refine⟨?_,λp a=>?_⟩
 ·obtain⟨d,b,e⟩:=Ak h.head;rw[e];rfl
 ·obtain⟨d,b,e⟩:=Ak (h.body.each p a).1;rw[e];rfl
def E3(s:cL)(f:cL->cL->Bool)(r:Int×Int):Prop:=
 if 300<s.size then r=(1,0)
 else match Dj (Fo s) 0 [] with
  | .error p=>r=(2,p)
  | .ok cs=>∃pcs:List Da,pcs.map Da.pc=cs/\(∀c∈pcs,Wf c)/\r=OY f pcs
structure Ym(f:cL->cL->Bool)(pcs:List Da):Prop where
 leans:∀x y,f x y=true↔GW pcs x y
 fit:∀c∈pcs,ZR c
 len:pcs.length<=1000
 names:(pcs.flatMap BL).length<=800000
theorem Fc.into{w:World}{base:Nat}{e:Value}{cs:List Da}(h:Fc w base e cs):Dv w e cs/\∀c∈cs,Yk w w.heap.size c:=by
 refine⟨⟨Ai h.row (aG _),λc d=>(h.each c d).at_.base (aG _)⟩,λc d=>?_⟩;have b:=(h.each c d).at_;exact⟨b.base (aG _),λk a=>(b.head.lt k a).2,λk a=>(b.body.row.lt k a).2,λp f k a=>(World.ownsRow.lt (b.body.each p f).1 k a).2⟩
theorem YJ{cs:List Da}{k:Nat}{c:Da}{r:Int×Int}(h:S3 cs k c=some r):r.1≠0:=by
 unfold S3 at h;split at h
 ·simp only[ai]at h;subst h;simp
 ·split at h
  ·simp only[ai]at h;subst h;simp
  ·split at h
   ·simp only[ai]at h;subst h;simp
   ·cases h
theorem U4{cs:List Da}:∀(l:List Da) (k:Nat) {r:Int×Int},L3 cs k l=some r->r.1≠0
 |[],k,r,h=>by simp[L3]at h
 |c::l,k,r,h=>by
  rw[L3]at h;split at h
  ·rename_i b a;simp only[ai]at h;subst h;exact YJ a
  ·exact U4 l (k+1) h
def XG(s:cL)(w:World)(lv:Value)(n:Nat)(r:Int×Int):Prop:=r.1=0->s.size<=300/\∃cs pcs,Dj (Fo s) 0 []= .ok cs/\pcs.map Da.pc=cs/\n=pcs.length/\Dv w lv pcs
theorem WE(s:cL)(f:cL->cL->Bool)(w:World)(AH:s.size<=9223372036854775807)(B:s.size<=300->∀b,Dj (Fo s) 0 []= .ok b->∀a,a.map Da.pc=b->Ym f a):
  Calls prog 40 #[.string s] w λe K=>∃(j:Option Addr) (n k:Nat) (r:Int×Int),e= .returned (.tuple #[.slice j n k, .int .i64 r.1, .int .i64 r.2])/\E3 s f r/\XG s K (.slice j n k) n r/\Ac [] w K:=by
 by_cases P:300<s.size
 ·have X:(300:Int)<(s.size:Int):=by omega
  have i:Hid (E3 s f (1,0)):=by
   show E3 _ _ _;unfold E3;rw[if_pos P]
  clear B;go_enter func40,ntmps40;go_wp2;go_ret3;exact⟨none,0,0,(1,0),rfl,Aa i,λh=>absurd h (by decide),Ac.refl _ _⟩
 ·have X:¬(300:Int)<(s.size:Int):=by omega
  have R:=Ab (Mm s w (by omega));have y:=Ab (B (by omega));have u:Hid (∀r,E3 s f r↔(match Dj (Fo s) 0 [] with| .error p=>r=(2,p)| .ok b=>∃a:List Da,a.map Da.pc=b/\(∀c∈a,Wf c)/\r=OY f a)):=by
   intro r;unfold E3;rw[if_neg P]
  clear B;go_enter func40,ntmps40;go_wp2_with fail
  refine(Aa R).mono ?_;intro e w2 x;clear R;cases hp:Dj (Fo s) 0 [] with
  |error p=>
   rw[hp]at x;obtain⟨rfl,m⟩:=x;have i:Hid (E3 s f (2,p)):=by
    show E3 _ _ _;rw[Aa u,hp]
   have v:=Ab m;clear hp u y m;go_wp2;go_ret3;exact⟨none,0,0,(2,p),rfl,Aa i,λh=>absurd h (by simp),Aa v⟩
  |ok b=>
   rw[hp]at x;obtain⟨j,k,a,rfl,o,G,m⟩:=x;have q:=Aa y b hp a o;(have V:b.length=a.length:=by rw[<-o];simp);rw[V]at G⊢;obtain⟨t,O⟩:=G.into;have i:Hid (∀r,r=OY f a->E3 s f r):=by
    intro r E;rw[Aa u,hp];exact⟨a,o,λc d=>(t.each c d).wf,E⟩
   have J:=Ab (Lj j k a w2 t O q.len q.fit);have Q:=Ab t;have M:Hid (Dj (Fo s) 0 []= .ok b/\a.map Da.pc=b):=⟨hp,o⟩;have l:=Ab q;have v:=Ab m;clear hp u y m o G t O q;(go_wp2_with fail);refine(Aa J).mono ?_;rintro e W ⟨rfl,C⟩;have z:=Ab ((Aa Q).kept C);have H:=Ab ((Aa v).trans C);clear J Q v C;cases d:L3 a 0 a with
   |some r=>
    have F:=U4 _ _ d;(have U:(r.1 !=0)=true:=by simp[bne,F]);have g:=Ab (Aa i r (by unfold OY;rw[d]));obtain⟨L,r2⟩:=r;simp only at U F;have Z:Hid (L≠0):=F;clear d i;simp only[Uq];go_wp2;go_ret3;exact⟨none,0,0,(L,r2),rfl,Aa g,λh=>absurd h (Aa Z),Aa H⟩
   |none=>
    have S:=Ab (Qh f j k a (Aa l).leans W (Aa z) (Aa l).len (λc d=>((Aa l).fit c d).pc.lits) (Aa l).names);have g:Hid (∀r,r=(match Mk f a with|some p=>((6:Int),p)|none=>(0,0))->E3 s f r):=by
     intro r E;refine Aa i r ?_;unfold OY;rw[d];exact E
    clear d i l;simp only[Uq];(go_wp2_with fail);refine(Aa S).mono ?_;rintro e T ⟨rfl,I⟩;have N:=Ab ((Aa H).trans I);have Y:Hid (s.size<=300/\∃b A,Dj (Fo s) 0 []= .ok b/\A.map Da.pc=b/\a.length=A.length/\Dv T (.slice j a.length k) A):=⟨by omega,b,a,(Aa M).1,(Aa M).2,rfl,(Aa z).kept I⟩;clear S I H z;cases hl:Mk f a with
    |some p=>
     rw[hl]at g;have D:=Ab (Aa g (6,p) rfl);clear hl g;simp only[BR];go_wp2;go_ret3;exact⟨none,0,0,(6,p),rfl,Aa D,λh=>absurd h (by simp),Aa N⟩
    |none=>
     rw[hl]at g;have D:=Ab (Aa g (0,0) rfl);clear hl g;simp only[BR];go_wp2;go_ret3;exact⟨j,a.length,k,(0,0),rfl,Aa D,λ_=>Aa Y,Aa N⟩
