import Derived.Test.YtoihbhenbmffcaaGreatDoorYAY
set_option linter.all false
set_option maxHeartbeats 0
open List renaming length->Z,toArray->j2
open Option renaming none->Y,some->V
open Go.Value renaming slice->U,int->X,string->O
open Bool renaming false->K,true->jj
open Go.IntKind renaming i64->J
open Go.Obj renaming cells->j1
open Go.Ending renaming returned->j4
open Or renaming inl->j5,inr->j6
open Go renaming World->j7,Value->j8
open Go.RowKit renaming Hid->j9
open Go.World renaming cell?->jF,ownsRow->jG
namespace Go.Proofs.YtoihbhenbmffcaaGreatDoor
open Go.RowKit Go.Proofs.Tryz
def Eu.setN{w:j7}{b:Nat}{n m:Int}{a tv:j8}{d f:List g0}(h:Eu w b n a tv d f):Eu (w.setCell ⟨b,0,Y⟩ (X J m)) b m a tv d f:=by
 have c:∀{e:TypeId} {g:Nat} {v:j8} {k:Nat} {i:List j8},jG w (b+1) e g v k i->v.ownBlock≠V b:=λh e=>by have:=(h.lt b e).1;omega
 exact⟨h.zO.set 0 _,Ag h.rn (p:=⟨b,0,Y⟩) (c h.rn) _,Ag h.rt (p:=⟨b,0,Y⟩) (c h.rt) _,h.ant,h.rin,h.rit⟩
def QT{w:j7}{v b u:j8}{base:Nat}{e:TypeId}{c k:Nat}{g:List j8}(i:jG w base e c u k g)(f:B1 v u)(j:∀q,b.ownBlock=V q->v.ownBlock=V q\/w.heap.size<=q):B1 b u:=λq d a=>by
 rcases j q d with h|h
 .exact f q h a
 .have:=(i.lt q a).2;omega
def Eu.names{w w':j7}{b:Nat}{n:Int}{a tv:j8}{t r:List g0}(h:Eu w b n a tv t r){d:j8}{c:List g0}
  (l:Ac a.ownBlock.toList w w') (m:jG w' (b+1) 9 1 d (Z c) (c.flatMap Ah)) (z:∀q,d.ownBlock=V q->a.ownBlock=V q\/w.heap.size<=q) (u:CP E8 c):
  Eu (w'.setCell ⟨b,1,Y⟩ d) b n d tv c r/\jF w' ⟨b,1,Y⟩=V a/\w'.frozen? ⟨b,1,Y⟩=K:=by
 have g:∀{w:j7} {e:TypeId} {s:Nat} {v:j8} {k:Nat} {x:List j8},jG w (b+1) e s v k x->v.ownBlock≠V b:=λh e=>by have:=(h.lt b e).1;omega
 have j:AI w' b [X J n,a,tv] 210:=h.zO.kept l (λf=>g h.rn (by simpa using f));have o:=Al h.rt l (λi y f=>h.ant i (by simpa using f) y);exact⟨⟨j.set 1 _,Ag m (p:=⟨b,1,Y⟩) (g m) _,Ag o (p:=⟨b,1,Y⟩) (g o) _,QT h.rt h.ant z,u,h.rit⟩,j.cell 1,j.frozen 1⟩
def Eu.zB{w w':j7}{b:Nat}{n:Int}{d tv:j8}{o y:List g0}(h:Eu w b n d tv o y){a:j8}{c:List g0}
  (l:Ac tv.ownBlock.toList w w') (m:jG w' (b+1) 170 1 a (Z c) (c.flatMap Ah)) (u:∀q,a.ownBlock=V q->tv.ownBlock=V q\/w.heap.size<=q) (t:CP E8 c):
  Eu (w'.setCell ⟨b,2,Y⟩ a) b n d a o c/\jF w' ⟨b,2,Y⟩=V tv/\w'.frozen? ⟨b,2,Y⟩=K:=by
 have g:∀{w:j7} {e:TypeId} {s:Nat} {v:j8} {k:Nat} {x:List j8},jG w (b+1) e s v k x->v.ownBlock≠V b:=λh e=>by have:=(h.lt b e).1;omega
 have j:AI w' b [X J n,d,tv] 210:=h.zO.kept l (λf=>g h.rt (by simpa using f));have r:=Al h.rn l (λi z f=>h.ant i z (by simpa using f));exact⟨⟨j.set 2 _,Ag r (p:=⟨b,2,Y⟩) (g r) _,Ag m (p:=⟨b,2,Y⟩) (g m) _,(QT h.rn h.ant.symm u).symm,h.rin,t⟩,j.cell 2,j.frozen 2⟩
def Eu.yD{w:j7}{b:Nat}{n:Int}{c tv:j8}{e d:List g0}(h:Eu w b n c tv e d):(∀i,i∈c.ownBlock.toList->b<=i)/\(∀i,i∈tv.ownBlock.toList->b<=i):=
 ⟨λi a=>by have:=(h.rn.lt i (by simpa using a)).1;omega,λi a=>by have:=(h.rt.lt i (by simpa using a)).1;omega⟩
def Wg.drew{b:Nat}{u w:j7}(h:Wg b u w):Wg b u w.drew:=⟨h.os,h.tape,h.output,h.size,h.block⟩
def Eu.drew{w:j7}{b:Nat}{n:Int}{a tv:j8}{d c:List g0}(h:Eu w b n a tv d c):Eu w.drew b n a tv d c:=h.kept (Ac.refl [] w).drew
structure cc(M:List Nat)(b N:Nat)(cs:List j8)(u w':j7)(i:Nat)(old new:j8)(n:Int)(nv tv:j8)(names zB:List g0):Prop where
 cell:jF w' ⟨b,i,Y⟩=V old
 frozen:w'.frozen? ⟨b,i,Y⟩=K
 cen:Eu (w'.setCell ⟨b,i,Y⟩ new) b n nv tv names zB
 low:Ac M u (w'.setCell ⟨b,i,Y⟩ new)
 box:AI (w'.setCell ⟨b,i,Y⟩ new) N cs 189
def Ex(ts:List AO)(l l':List g0):Prop:=∀y,y∈l'↔(∃t∈ts,t.v=0/\t.s=y)\/y∈l
structure Is(base:Nat)(lv:j8)(l:List g0)(ts:List AO)(w:j7)(l':List g0)(ad':Option Addr)(cp':Nat)(w':j7):Prop where
 zK:CP E8 l'
 mem:Ex ts l l'
 le:Z l'<=Z l+Z ts
 own:jG w' base 170 1 (U ad' (Z l') cp') (Z l') (l'.flatMap Ah)
 kept:Ac lv.ownBlock.toList w w'
 new:∀k,(U ad' (Z l') cp').ownBlock=V k->lv.ownBlock=V k\/w.heap.size<=k
def Ex.skip{l d:List g0}{c:List AO}{k:Nat}(e:k<Z c)(f:c[k].v≠0)(h:Ex (c.take k) l d):Ex (c.take (k+1)) l d:=by
 intro y;rw[h y,ep e];constructor
 .rintro (⟨t,a,b⟩|a)
  .exact j5 ⟨t,i7 _ a,b⟩
  .exact j6 a
 .rintro (⟨t,a,b⟩|a)
  .rcases eG.1 a with a|a
   .exact j5 ⟨t,a,b⟩
   .simp only[ex]at a;subst a;exact absurd b.1 f
  .exact j6 a
def Ex.take{l d e:List g0}{b:List AO}{k:Nat}(f:k<Z b)(i:b[k].v=0)(h:Ex (b.take k) l d)(g:∀y,y∈e↔y=b[k].s\/y∈d):Ex (b.take (k+1)) l e:=by
 intro y;rw[g,h y,ep f];constructor
 .rintro (a|⟨t,a,c⟩|a)
  .exact j5 ⟨b[k],List.mem_append_right _ (ex.2 rfl),i,a.symm⟩
  .exact j5 ⟨t,i7 _ a,c⟩
  .exact j6 a
 .rintro (⟨t,a,c⟩|a)
  .rcases eG.1 a with a|a
   .exact j6 (j5 ⟨t,a,c⟩)
   .simp only[ex]at a;subst a;exact j5 c.2.symm
  .exact j6 (j6 a)
set_option maxRecDepth 100000
theorem P3(c:Dq)(d:Option Addr)(cap:Nat)(l:List g0)(base:Nat)(w:j7)(h:Jb w 0 c.hv c.bv c.zD c.zC)(hf:Ov c)(hT:Z (Bp c)<=90000)
  (hl:jG w base 170 1 (U d (Z l) cap) (Z l) (l.flatMap Ah)) (FP:Z l<=900000) (hr:CP E8 l) (FW:base<=w.heap.size):
  Calls prog 148 #[U d (Z l) cap,.agg (j2 (Bc c))] w λe w'=>∃l' BA A1,e=j4 (U BA (Z l') A1)/\Is base (U d (Z l) cap) l (Bp c) w l' BA A1 w':=by
 have z:=Ab (Pd c (w.alloc (j1 (j2 (Bc c)) 189)) (h.kept ((Ac.refl [] w).alloc _) (by simp)) hf);generalize Bp c=TV at z hT⊢;obtain⟨hp,hn,HK,P,bv,HM⟩:=c;simp only at h;obtain⟨HD,Ha,rfl⟩:=Ak h.head;obtain⟨FT,HN,rfl⟩:=Ak h.body.row;have HL:=Ab hl;have FC:=Ab hr;clear h hl hr hf;simp only[Bc]at z⊢;go_enter func148,ntmps148;go_wp2_with fail
 refine z.mono ?_;rintro e n ⟨DT,Ax,rfl,Q,N⟩;have F:j9 (Ac [] w n):=((Ac.refl [] w).alloc _).trans N;have HH:w.heap.size+1<=n.heap.size:=by have:=N.size;simpa using this
 have HO:=Ab (Am Q (show w.heap.size<=_ by simp));clear z Q N;go_wp2
 go_loopg [0,10] (Z TV) (λgk o i wr=>∃(k:Nat) (m:List g0) (b:Option Addr) (f:Nat),o=U b (Z m) f/\i=X J k/\k<=Z TV/\gk=Z TV-k/\Z m<=Z l+k/\j9 (Is base (U d (Z l) cap) l (TV.take k) w m b f wr)/\j9 (jG wr w.heap.size 215 2 (U DT (Z TV) Ax) (Z TV) (TV.flatMap Aq))/\j9 (∀q,(U b (Z m) f).ownBlock=V q->(U d (Z l) cap).ownBlock=V q\/n.heap.size<=q)/\n.heap.size<=wr.heap.size)
 case atStart=>exact⟨0,l,d,cap,rfl,rfl,by omega,rfl,by omega,⟨FC,λy=>by simp,by omega,Ad HL F (by simp),F.mono (by simp),λk R=>j5 R⟩,HO,λq p=>j5 p,by omega⟩
 case round=>
  clear F;obtain⟨k,m,b,f,rfl,rfl,R,AB,HI,j,r,x,FO⟩:=hrel;have S:=Ab AB;clear AB;by_cases A:k<Z TV
  .obtain⟨g,HF,he,d0,d1⟩:=EG r k A;simp only[ei]at he;obtain⟨rfl,_,rfl⟩:=he;have M:Ac [] wr (wr.alloc (j1 [X .i32 TV[k].v,O TV[k].s].toArray 215)):=(Ac.refl [] wr).alloc _;have A0:=Ab (Ad r M (by simp));(have T:n.heap.size<=(wr.alloc (j1 [X .i32 TV[k].v,O TV[k].s].toArray 215)).heap.size:=by simp;omega);cases P:(TV[k].v==0)with
   |false=>
    (have t:TV[k].v≠0:=by simpa using P);have L:j9 (Is base (U d (Z l) cap) l (TV.take (k+1)) w m b f (wr.alloc (j1 [X .i32 TV[k].v,O TV[k].s].toArray 215))):=by
     have a:=Aa j;refine⟨a.zK,a.mem.skip A t,?_,eC a.own _,a.kept.alloc _,a.new⟩;have:=a.le;simp only[ft]at this⊢;omega
    clear j r M t;go_wp2
    go_roundg (Z TV-(k+1))
    case measure=>have:=Aa S;omega
    case rel=>exact⟨k+1,m,b,f,rfl,by go_num,by omega,rfl,by omega,L,A0,x,T⟩
   |true=>
    (have t:TV[k].v=0:=by simpa using P);have HZ:=Ab t;have B9:=Ab (Ul b f m TV[k].s base (wr.alloc (j1 [X .i32 TV[k].v,O TV[k].s].toArray 215)) (eC j.own _) (by omega) j.zK (by simp;omega));clear t M;(go_wp2_with fail);refine B9.mono ?_;rintro e u ⟨I,C,E,rfl,W,q2,q3,q4,q5,D,B⟩;have G:Ac (U b (Z m) f).ownBlock.toList wr u:=((Ac.refl _ wr).alloc _).trans D;(have HA:wr.heap.size+1<=u.heap.size:=by have:=D.size;simpa using this);have L:j9 (Is base (U d (Z l) cap) l (TV.take (k+1)) w I C E u):=by
     have a:=Aa j;refine⟨W,a.mem.take A HZ q2,?_,q5,a.kept.trans' G (λi H=>?_),λq p=>?_⟩
     .have:=a.le;simp only[ft]at this⊢;omega
     .rcases a.new i (by simpa using H)with h|h
      .exact j5 (by simp[h])
      .exact j6 h
     .rcases B q p with h|h
      .exact a.new q h
      .exact j6 (by have:=a.kept.size;simp at h;omega)
    have FB:j9 (jG u w.heap.size 215 2 (U (V ⟨g,0,Y⟩) (Z TV) Ax) (Z TV) (TV.flatMap Aq)):=by
     refine Al r G (λi H hm=>?_);have h1:=(HO.lt i H);rcases x i (by simpa using hm)with h|h
     .have:=(HL.lt i h).2;omega
     .omega
    have EY:j9 (∀q,(U C (Z I) E).ownBlock=V q->(U d (Z l) cap).ownBlock=V q\/n.heap.size<=q):=by
     intro q p;rcases B q p with h|h
     .exact x q h
     .exact j6 (by simp at h;omega)
    clear B9 W q2 q3 q5 D B G j r A0 T x d0 d1;go_wp2
    go_roundg (Z TV-(k+1))
    case measure=>have:=Aa S;omega
    case rel=>exact⟨k+1,I,C,E,rfl,by go_num,by omega,rfl,by omega,L,FB,EY,by omega⟩
  .have HE:j9 (Is base (U d (Z l) cap) l TV w m b f wr):=by
    have h:=Aa j;rw[eu (by omega)]at h;exact h
   go_wp2;go_ret;exact⟨m,b,f,rfl,HE⟩
theorem X6(b:Nat)(n:Nat)(nv tv:j8)(r q:List g0)(c:Dq)(w:j7)(h:Eu w b n nv tv r q)(hc:aU w b c)(hf:Ov c)(hT:Z (Bp c)<=90000)(hn:n<=1000)(H2:Z r<=800000)(H9:Z q<=800000):
  Calls prog 116 #[.pointer (V ⟨b,0,Y⟩),.agg (j2 (Bc c))] w λe g=>e=j4 (.tuple #[])/\∃HQ HT FO FA,Eu g b ((n+1:Nat):Int) HQ HT FO FA/\(∀y,y∈FO↔y∈B3 c\/y∈r)/\Ex (Bp c) q FA/\Z FO<=Z r+1001/\Z FA<=Z q+90000/\Ac (b::(nv.ownBlock.toList++tv.ownBlock.toList)) w g:=by
 have H5:=h.zO.lt;obtain⟨S,R,rfl⟩:=Ak h.rn;obtain⟨I,G,rfl⟩:=Ak h.rt;obtain⟨M,B2⟩:∃M,b::((U S (Z r) R).ownBlock.toList++(U I (Z q) G).ownBlock.toList)=M:=⟨_,rfl⟩;rw[B2];have T:j9 (b∈M/\(∀i,i∈(U S (Z r) R).ownBlock.toList->i∈M)/\(∀i,i∈(U I (Z q) G).ownBlock.toList->i∈M)):=by
  rw[<-B2];exact⟨by simp,λi f=>by simp only[ey,eG];exact j6 (j5 f),λi f=>by simp only[ey,eG];exact j6 (j6 f)⟩
 have HI:j9 (∀wr,Ac M w wr->Wg b w wr):=by
  intro wr W;refine Wg.of W (by omega) (λi f=>?_);rw[<-B2]at f;simp only[ey,eG]at f;rcases f with f|f|f
  .omega
  .exact h.yD.1 i f
  .exact h.yD.2 i f
 clear B2;have A0:j9 (∀wr A C l,Wg b w wr->jG wr (b+1) 170 1 (U A (Z l) C) (Z l) (l.flatMap Ah)->Z l<=900000->CP E8 l->b+1<=wr.heap.size->Calls prog 148 #[U A (Z l) C,.agg (j2 (Bc c))] wr λe g=>∃a k j,e=j4 (U k (Z a) j)/\Is (b+1) (U A (Z l) C) l (Bp c) wr a k j g):=λwr A C l W h1 h2 h3 h4=>P3 c A C l (b+1) wr (hc.low W).at_ hf hT h1 h2 h3 h4
 have EX:j9 (∀wr A C l,Wg b w wr->jG wr (b+1) 9 1 (U A (Z l) C) (Z l) (l.flatMap Ah)->Z l<=900000->CP E8 l->b+1<=wr.heap.size->Calls prog 164 #[U A (Z l) C,.agg (j2 (Bc c))] wr λe g=>∃a k j,e=j4 (U k (Z a) j)/\MA (b+1) (U A (Z l) C) l (B3 c) wr a k j g):=λwr A C l W h1 h2 h3 h4=>LH c A C l (b+1) wr (hc.low W).at_ hf.lits h1 h2 h3 h4
 have HE:j9 (Z (B3 c)<=1001):=by
  show _<=_;have:=hf.lits;have h2:=fZ (λp=>A9 p.1) c.zC;simp only[B3,FH,eF,eL];omega
 generalize Bp c=TV at A0 hT⊢;generalize B3 c=NV at EX HE⊢;obtain⟨D,v,B,hv,bv,t⟩:=c;have DT:=hc.at_;clear hc hf;simp only at DT;obtain⟨E,s,rfl⟩:=Ak DT.head;obtain⟨z,x,rfl⟩:=Ak DT.body.row;clear DT;simp only[Bc]at A0 EX⊢;have c0:=h.zO.cell 0;have cf:=h.zO.frozen;have d0:=λo=>(h.zO.alloc o).cell 0
 have df:=λo=>(h.zO.alloc o).frozen
 simp at c0 d0;have q1:¬b=w.heap.size:=by omega
 have q2:¬w.heap.size=b:=by omega
 have H0:=Ab h;clear h;go_enter func116,ntmps116;go_wp2_with fail
 obtain⟨N,AB⟩:∃N,w.heap.size=N:=⟨_,rfl⟩;have H4:b<N:=by omega
 have H:j9 (AI ((w.setCell ⟨b,0,Y⟩ (X J ((n:Int)+1))).alloc (j1 [X J D,O v,U E (Z B) s,U z (Z t) x].toArray 189)) N [X J D,O v,U E (Z B) s,U z (Z t) x] 189):=by
  have hh:=AI.new (w.setCell ⟨b,0,Y⟩ (X J ((n:Int)+1))) [X J D,O v,U E (Z B) s,U z (Z t) x] 189;rw[show(w.setCell ⟨b,0,Y⟩ (X J ((n:Int)+1))).heap.size=N from by simp[AB]]at hh
  exact hh
 have F:=Ab ((H0.setN (m:=(n:Int)+1)).kept ((Ac.refl [] _).alloc (j1 [X J D,O v,U E (Z B) s,U z (Z t) x].toArray 189)));have B0:j9 (Ac M w ((w.setCell ⟨b,0,Y⟩ (X J ((n:Int)+1))).alloc (j1 [X J D,O v,U E (Z B) s,U z (Z t) x].toArray 189))):=((Ac.refl M w).setCell (p:=⟨b,0,Y⟩) (j5 T.1) _).alloc _;have HR:j9 ((U S (Z r) R).ownBlock≠V N/\(U I (Z q) G).ownBlock≠V N):=⟨λe=>by have:=(H0.rn.lt _ e).2;omega,λe=>by have:=(H0.rt.lt _ e).2;omega⟩;have HW:N+1<=((w.setCell ⟨b,0,Y⟩ (X J ((n:Int)+1))).alloc (j1 [X J D,O v,U E (Z B) s,U z (Z t) x].toArray 189)).heap.size:=by simp[AB]
 clear c0 cf d0 df q1 q2 H0;change Code.wp _ _ _ _ ((w.setCell ⟨b,0,Y⟩ (X J ((n:Int)+1))).alloc (j1 [X J D,O v,U E (Z B) s,U z (Z t) x].toArray 189));generalize(w.setCell ⟨b,0,Y⟩ (X J ((n:Int)+1))).alloc (j1 [X J D,O v,U E (Z B) s,U z (Z t) x].toArray 189)=w1 at H F B0 HW⊢;rw[AB];have H7:=Ab AB;clear AB;have De:j9 (Calls prog 164 #[U S (Z r) R,.agg #[X J D,O v,U E (Z B) s,U z (Z t) x]] w1.drew λe g=>∃a k j,e=j4 (U k (Z a) j)/\cc M b N [X J D,O v,U E (Z B) s,U z (Z t) x] w g 1 (U S (Z r) R) (U k (Z a) j) ((n:Int)+1) (U k (Z a) j) (U I (Z q) G) a q/\(∀y,y∈a↔y∈NV\/y∈r)/\Z a<=Z r+1001/\N+1<=g.heap.size):=by
  refine(EX w1.drew S R r (HI _ B0.drew) F.drew.rn (by omega) F.rin (by show b+1<=w1.heap.size;omega)).mono ?_;rintro e g ⟨a,k,j,rfl,d⟩;obtain⟨FC,FF,FT⟩:=F.drew.names d.kept d.own d.new d.zK;have H1:=F.drew.yD.1;refine⟨a,k,j,rfl,⟨FF,FT,FC,?_,?_⟩,d.mem,by have:=d.le;have:=Aa HE;omega,by have:=d.kept.size;have h2:w1.drew.heap.size=w1.heap.size:=rfl;omega⟩
  .exact(B0.drew.trans' d.kept (λi f=>j5 (T.2.1 i f))).setCell (p:=⟨b,1,Y⟩) (j5 T.1) _
  .exact(H.drew.kept d.kept (λhm=>HR.1 (by simpa using hm))).zA ⟨b,1,Y⟩ (by simp;omega) _
 have e1:=F.zO.cell 1;have b0:=H.cell 0;have b1:=H.cell 1;have b2:=H.cell 2;have b3:=H.cell 3;simp at e1 b0 b1 b2 b3;clear EX F B0 H
 go_region_law
  (go_simp;go_at_call 164;refine De.mono ?_;rintro e wt ⟨a,k,j,rfl,BA,HF,HL,HM⟩;have HG:=BA.cell;have HB:=BA.frozen;have E0:=Ab BA;clear BA)
 all_goals
  have BT:=Ab E0.cen;have CC:=Ab E0.low;have Q:=Ab E0.box;have HP:N+1<=(wt.setCell ⟨b,1,Y⟩ (U k (Z a) j)).heap.size:=by simp;omega
  have HN:=Ab HF;clear E0 HG HB De HF e1 b0 b1 b2 b3 HM;generalize wt.setCell ⟨b,1,Y⟩ (U k (Z a) j)=w2 at BT CC Q HP⊢;have b0:=Q.cell 0;have b1:=Q.cell 1;have b2:=Q.cell 2;have b3:=Q.cell 3;simp at b0 b1 b2 b3;have e2:=BT.zO.cell 2;simp at e2;have HH:j9 (Calls prog 148 #[U I (Z q) G,.agg #[X J D,O v,U E (Z B) s,U z (Z t) x]] w2.drew λe g=>∃u P L,e=j4 (U P (Z u) L)/\jF g ⟨b,2,Y⟩=V (U I (Z q) G)/\g.frozen? ⟨b,2,Y⟩=K/\Eu (g.setCell ⟨b,2,Y⟩ (U P (Z u) L)) b ((n:Int)+1) (U k (Z a) j) (U P (Z u) L) a u/\Ex TV q u/\Z u<=Z q+90000/\Ac M w (g.setCell ⟨b,2,Y⟩ (U P (Z u) L))):=by
   have FL:=BT.drew;refine(A0 w2.drew I G q (HI _ CC.drew) FL.rt (by omega) FL.rit (by show b+1<=w2.heap.size;omega)).mono ?_;rintro e g ⟨u,P,L,rfl,d⟩;obtain⟨FC,FF,FT⟩:=FL.zB d.kept d.own d.new d.zK;refine⟨u,P,L,rfl,FF,FT,FC,d.mem,by have:=d.le;omega,?_⟩;exact(CC.drew.trans' d.kept (λi f=>j5 (T.2.2 i f))).setCell (p:=⟨b,2,Y⟩) (j5 T.1) _
  clear A0 BT CC Q;go_wp2_with fail
  go_region_law
   (go_simp;go_at_call 148;refine HH.mono ?_;rintro e H8 ⟨u,P,L,rfl,HG,HB,r1,r2,r3,r4⟩;have HO:=Ab (And.intro r1 (And.intro r2 (And.intro r3 r4)));clear r1 r2 r3 r4)
  all_goals
   clear HH;(go_wp2_with fail);go_end0;obtain⟨r1,r2,r3,r4⟩:=HO;exact⟨rfl,_,_,a,u,r1,HN,r2,HL,r3,r4⟩
def cm(cs:List Dq)(S:g0->Prop):Prop:=∀c∈cs,S c.hn->∀y∈B3 c,S y
def Hv(cs:List Dq)(x y:g0):Prop:=∀S:g0->Prop,S x->cm cs S->S y
structure Wk(cs:List Dq)(x:g0)(l:List g0):Prop where
 zK:CP E8 l
 iff:∀y,y∈l↔Hv cs x y
def LY{α:Type} [DecidableEq α]:∀(l b:List α),l.Nodup->(∀y∈l,y∈b)->Z l<=Z b
 |[],_,_,_=>eV _
 |a::t,b,hn,hs=>by
  rw[gX]at hn;have c:a∈b:=hs a (by simp);have ih:=LY t (b.erase a) hn.2 (λy d=>(List.mem_erase_of_ne (λe=>hn.1 (by rw[<-e];exact d))).2 (hs y (by simp[d])));have g:=List.length_erase_of_mem c;have f:0<Z b:=List.length_pos_of_mem c;simp only[eF];omega
def TC{l a:List g0}(d:CP E8 l)(e:∀y∈l,y∈a)(f:Z a=Z l):∀y∈a,y∈l:=by
 intro y c;by_cases h:y∈l
 .exact h
 .have:=LY (y::l) a (gX.2 ⟨h,d.nodup Gb⟩) (λz b=>by
   rcases ey.1 b with rfl|b
   .exact c
   .exact e z b)
  simp only[eF]at this;omega
theorem Tt(FW:Option Addr)(FB:Nat)(cs:List Dq)(x:g0)(w:j7)(h:DG w (U FW (Z cs) FB) cs)(Ix:Z cs<=1000)(hf:∀c∈cs,Z c.zC<=1000)(hU:Z (cs.flatMap B3)<=800000):
  Calls prog 122 #[U FW (Z cs) FB,O x] w λe w'=>∃l u v,e=j4 (U u (Z l) v)/\Wk cs x l/\Z l<=800001/\jG w' w.heap.size 9 1 (U u (Z l) v) (Z l) (l.flatMap Ah)/\Ac [] w w':=by
 have HP:=Ab h;have H6:=Ab hf;clear h hf;have FP:j9 (∀l:List g0,CP E8 l->(∀y∈l,Hv cs x y)->Z l<=1+Z (cs.flatMap B3)):=by
  intro l hr hs;have:=LY l (x::cs.flatMap B3) (hr.nodup Gb) (λy b=>by
   refine hs y b (λz=>z∈x::cs.flatMap B3) (by simp) (λc a _ z hz=>?_)
   exact fu _ (fA.2 ⟨c,a,hz⟩))
  simp only[eF]at this;omega
 obtain⟨t,FC⟩:∃t,Z (cs.flatMap B3)=t:=⟨_,rfl⟩;rw[FC]at hU FP;clear FC;have EY:jG (w.alloc (j1 [O x].toArray 9)) w.heap.size 9 1 (U (V ⟨w.heap.size,0,Y⟩) 1 1) 1 ([x].flatMap Ah):=⟨rfl,j6 ⟨w.heap.size,1,_,rfl,eM _,AI.new w [O x] 9,eM _,by unfold maxLen;omega,rfl,rfl⟩⟩;have CC:=(Ac.refl [] w).alloc (j1 [O x].toArray 9);have Ax:=Ab EY;have A2:=Ab CC;clear EY CC;go_enter func122,ntmps122;go_wp2;change Code.wp _ _ _ _ (w.alloc (j1 [O x].toArray 9));generalize w.alloc (j1 [O x].toArray 9)=w1 at Ax A2⊢
 go_loopg [5] (t+2-1) (λgk o wr=>∃(l:List g0) (u:Option Addr) (v:Nat),o=U u (Z l) v/\gk=t+2-Z l/\Z l<=t+1/\j9 (CP E8 l)/\j9 (x∈l)/\j9 (∀y∈l,Hv cs x y)/\j9 (jG wr w.heap.size 9 1 (U u (Z l) v) (Z l) (l.flatMap Ah))/\j9 (Ac [] w wr))
 case atStart=>exact⟨[x],_,_,rfl,rfl,by simp,λi j hi hj JJ=>by simp at hi hj;omega,by simp[j9],λy b S N h2=>by simp at b;subst b;exact N,Ax,A2⟩
 case round=>
  clear Ax A2;obtain⟨l,u,v,rfl,FO,HB,HW,HX,HY,Ha,HK⟩:=hrel;have HG:=Ab FO;clear FO;go_wp2
  go_loopg [5,15] (Z cs) (λH4 o i BT=>∃(k:Nat) (m:List g0) (s:Option Addr) (r:Nat),o=U s (Z m) r/\i=X J k/\k<=Z cs/\H4=Z cs-k/\Z l<=Z m/\Z m<=t+1/\j9 (CP E8 m)/\j9 (∀y∈l,y∈m)/\j9 (∀y∈m,Hv cs x y)/\j9 (Z m=Z l->∀c∈cs.take k,c.hn∈m->∀y∈B3 c,y∈m)/\j9 (jG BT w.heap.size 9 1 (U s (Z m) r) (Z m) (m.flatMap Ah))/\j9 (Ac [] w BT))
  case atStart=>exact⟨0,l,u,v,rfl,rfl,by omega,rfl,by omega,HB,HW,λy b=>b,HY,λ_ c a=>by simp at a,Ha,HK⟩
  case round=>
   obtain⟨k,m,s,r,rfl,rfl,hk,CL,HJ,EM,B,L,D,P,T,M⟩:=hrel;have EX:=Ab CL;clear CL;by_cases I:k<Z cs
   .have AT:=HP.kept M;obtain⟨g,K3,G,d,p,H,C,F,E,n,he,R,d0,d1,d2,d3⟩:=Fh AT k I;simp only[ei]at he;obtain⟨rfl,_,rfl⟩:=he;have KK:=M.size;have B2:=Ab (AT.each _ (eo I));have Bx:=Aa H6 _ (eo I);have B0:j9 (∀c,c∈cs.take (k+1)↔c∈cs.take k\/c=⟨G,d,p,U H (Z p) C,U F (Z n) E,n⟩):=by
     intro c;rw[ep I,R,eG,ex]
    (have H3:j9 ((⟨G,d,p,U H (Z p) C,U F (Z n) E,n⟩:Dq)∈cs):=by rw[<-R];exact eo I);rw[R]at B2 Bx;simp only at Bx;clear AT R;have A0:=Ab (M.alloc (j1 [X J G,O d,U H (Z p) C,U F (Z n) E].toArray 189));have Q:=Ab (eC T (j1 [X J G,O d,U H (Z p) C,U F (Z n) E].toArray 189));have FT:=Ab (Rn s r m d w.heap.size _ Q (by omega) B);(go_wp2_with fail);refine FT.mono ?_;rintro e w4 ⟨rfl,HA⟩;subst HA;clear FT;cases hh:Xa m d with
    |false=>
     have BA:j9 (Z m=Z l->∀c∈cs.take (k+1),c.hn∈m->∀y∈B3 c,y∈m):=by
      intro hl c a A;rcases(B0 c).1 a with a|a
      .exact P hl c a A
      .subst a;simp only at A;rw[(J4 m d).2 A]at hh;cases hh
     clear hh P;go_wp2
     go_roundg (Z cs-(k+1))
     case measure=>have:=Aa EX;omega
     case rel=>exact⟨k+1,m,s,r,rfl,by go_num,by omega,rfl,HJ,EM,B,L,D,BA,Q,A0⟩
    |true=>
     have EK:j9 (d∈m):=(J4 m d).1 hh;have BS:=Ab (LH ⟨G,d,p,U H (Z p) C,U F (Z n) E,n⟩ s r m w.heap.size (wr.alloc (j1 [X J G,O d,U H (Z p) C,U F (Z n) E].toArray 189)) ((Aa B2).kept ((Ac.refl [] wr).alloc _) (by simp)) Bx (Aa Q) (by omega) (Aa B) (by simp;omega));simp only[Bc]at BS;clear hh;(go_wp2_with fail);refine BS.mono ?_;rintro e w5 ⟨q,HZ,HT,rfl,f⟩;have B9:Ac [] w w5:=A0.trans' f.kept (λi hi=>j6 ((Q.lt i (by simpa using hi)).1));have AH:∀y∈q,Hv cs x y:=by
      intro y b;rcases(f.mem y).1 b with N|N
      .intro S hS hC;exact hC _ H3 (D _ EK S hS hC) y N
      .exact D y N
     (have W:∀y∈m,y∈q:=λy b=>(f.mem y).2 (j6 b));have BA:j9 (Z q=Z l->∀c∈cs.take (k+1),c.hn∈q->∀y∈B3 c,y∈q):=by
      intro hl c a A y b;have K2:=f.ge;have HU:=TC B W (by omega);rcases(B0 c).1 a with a|a
      .exact W y (P (by omega) c a (HU _ A) y b)
      .subst a;exact(f.mem y).2 (j5 b)
     (have HC:Z l<=Z q:=by have:=f.ge;omega);have IS:=Aa FP q f.zK AH;have HL:=Ab AH;(have HH:j9 (∀y∈l,y∈q):=λy b=>W y (L y b));have H1:=Ab f.zK;have HF:=Ab f.own;have HV:=Ab B9;clear BS f B9 AH W P D L B T Q A0 EK;go_wp2
     go_roundg (Z cs-(k+1))
     case measure=>have:=Aa EX;omega
     case rel=>exact⟨k+1,q,HZ,HT,rfl,by go_num,by omega,rfl,HC,by omega,H1,HH,HL,BA,HF,HV⟩
   .by_cases HM:Z m=Z l
    .have HE:j9 (Wk cs x m):=by
      refine⟨B,λy=>⟨D y,λb=>?_⟩⟩;refine b (λz=>z∈m) (L x HX) (λc a A z hz=>?_);have h:=Aa P HM;rw[eu (by omega)]at h;exact h c a A z hz
     (have HS:(Z m:Int)=(Z l:Int):=by omega);go_wp2;go_ret;exact⟨m,s,r,rfl,HE,by omega,T,M⟩
    ·(have HS:¬(Z m:Int)=(Z l:Int):=by omega);have H0:j9 (x∈m):=L x HX;go_wp2
     go_roundg (t+2-Z m)
     case measure=>have:=Aa HG;omega
     case rel=>exact⟨m,s,r,rfl,rfl,EM,B,H0,D,T,M⟩
def Le(f:g0->g0->Bool)(hn:g0)(p:Oi):Bool:=p.1.sort==1&&f p.1.an hn
def Kc(f:g0->g0->Bool)(c:Dq):Option Int:=(c.zC.find? (Le f c.hn)).map λp=>p.1.place
def NQ(f:g0->g0->Bool)(cs:List Dq):Option Int:=cs.findSome? (Kc f)
def P9{α β:Type}(f:α->Option β)(l:List α)(k:Nat)(a:k<Z l)(h:∀c∈l.take k,f c=Y){b:β}(d:f l[k]=V b):l.findSome? f=V b:=by
 conv=>lhs;rw[<-fH k l]
 rw[ju];have:(l.take k).findSome? f=Y:=by rw[iZ];exact h
 rw[this,eQ a,iQ,d];rfl
theorem R4(f:g0->g0->Bool)(HL:Option Addr)(Go:Nat)(cs:List Dq)(E0:∀x y,f x y=jj↔Hv cs x y)(w:j7)(h:DG w (U HL (Z cs) Go) cs)(HQ:Z cs<=1000)(hf:∀c∈cs,Z c.zC<=1000)(hU:Z (cs.flatMap B3)<=800000):
  Calls prog 73 #[U HL (Z cs) Go] w λe d=>e=j4 (Cc (NQ f cs))/\Ac [] w d:=by
 have HP:=Ab h;have HI:=Ab hf;have FO:=Ab E0;clear h hf E0;obtain⟨R,hR⟩:∃R,NQ f cs=R:=⟨_,rfl⟩;rw[hR];have HH:=Ab hR;clear hR;go_enter func73,ntmps73;go_wp2
 go_loopg [10] (Z cs) (λgk i wr=>∃(k:Nat),i=X J k/\k<=Z cs/\gk=Z cs-k/\j9 (∀c∈cs.take k,Kc f c=Y)/\j9 (Ac [] w wr))
 case atStart=>exact⟨0,rfl,by omega,rfl,λc t=>by simp at t,Ac.refl _ _⟩
 case round=>
  obtain⟨k,rfl,hk,HD,HC,D⟩:=hrel;have HG:=Ab HD;clear HD;by_cases L:k<Z cs
  .have A2:=HP.kept D;obtain⟨g,LB,A,a,n,B,o,z,u,b,he,S,d0,d1,d2,d3⟩:=Fh A2 k L;simp only[ei]at he;obtain⟨rfl,_,rfl⟩:=he;have Ax:=Ab (A2.each _ (eo L)).body;have FT:=Aa HI _ (eo L);have IJ:j9 (∀p,Kc f ⟨A,a,n,U B (Z n) o,U z (Z b) u,b⟩=V p->R=V p):=by
    intro p HO;rw[<-Aa HH];exact P9 _ _ k L HC (by rw[S];exact HO)
   have H1:j9 (Kc f ⟨A,a,n,U B (Z n) o,U z (Z b) u,b⟩=Y->∀c∈cs.take (k+1),Kc f c=Y):=by
    intro HU c t;rw[ep L,S,eG,ex]at t;rcases t with t|t
    .exact HC c t
    .rw[t];exact HU
   rw[S]at Ax FT;simp only at FT Ax;clear A2 S;have A0:=Ab (D.alloc (j1 [X J A,O a,U B (Z n) o,U z (Z b) u].toArray 189));have HF:=Ab ((Ac.refl [] wr).alloc (j1 [X J A,O a,U B (Z n) o,U z (Z b) u].toArray 189));have W:=Ab (AI.new wr [X J A,O a,U B (Z n) o,U z (Z b) u] 189);go_wp2;change Code.wp _ _ _ _ (wr.alloc (j1 [X J A,O a,U B (Z n) o,U z (Z b) u].toArray 189));have FP:=Ab (Ax.kept HF (by simp));generalize wr.alloc (j1 [X J A,O a,U B (Z n) o,U z (Z b) u].toArray 189)=w1 at A0 W FP⊢;generalize wr.heap.size=N at W⊢;clear HF Ax D d0 d1 d2 d3
   go_loopg [17] (Z b) (λgk i wr=>∃(j:Nat),i=X J j/\j<=Z b/\gk=Z b-j/\j9 ((b.take j).any (Le f a)=K)/\j9 (Ac [] w wr)/\j9 (Ac [] w1 wr))
   case atStart=>exact⟨0,rfl,by omega,rfl,by show _=_;simp,A0,Ac.refl _ _⟩
   case round=>
    clear A0;obtain⟨j,rfl,hj,EX,HJ,D,FA⟩:=hrel;have FL:=Ab EX;clear EX;by_cases BS:j<Z b
    .obtain⟨g2,LC,q,C,G,FF,Q,JJ,e0,e1,e2,e3,e4,e5,e6,e7,e8⟩:=Il (FP.kept FA (by simp)) j BS;simp only[ei]at FF;obtain⟨rfl,_,rfl⟩:=FF;have HY:j9 (Le f a (q,U C (Z q.ts) G)=jj->R=V q.place):=by
      intro m;refine IJ _ ?_;unfold Kc;simp only;rw[FJ _ _ j BS (Aa HJ) (by rw[Q];exact m),Q];rfl
     have AT:j9 (Le f a (q,U C (Z q.ts) G)=K->(b.take (j+1)).any (Le f a)=K):=by
      intro m;rw[CY _ _ j BS (Aa HJ),Q];exact m
     clear Q JJ;have H:=Ab (D.alloc (j1 (j2 (Aw (q,U C (Z q.ts) G))) 217));have E:=Ab (FA.alloc (j1 (j2 (Aw (q,U C (Z q.ts) G))) 217));have F:=Ab (AI.new wr (Aw (q,U C (Z q.ts) G)) 217);simp only[Aw]at H E F;cases hs:(q.sort==1)with
     |false=>
      (have HS:(q.sort !=1)=jj:=by simp[bne,hs]);have A1:=Ab (AT (by unfold Le;simp only;rw[hs];rfl));clear HY AT hs;go_wp2
      go_roundg (Z b-(j+1))
      case measure=>have:=Aa FL;omega
      case rel=>exact⟨j+1,by go_num,by omega,rfl,A1,H,E⟩
     |true=>
      (have HS:(q.sort !=1)=K:=by simp[bne,hs]);(have BA:j9 (f q.an a=jj->R=V q.place):=λm=>HY (by unfold Le;simp only;rw[hs,m];rfl));(have B9:j9 (f q.an a=K->(b.take (j+1)).any (Le f a)=K):=λm=>AT (by unfold Le;simp only;rw[hs,m];rfl));clear HY AT hs;(go_wp2_with fail);change Code.wp _ _ _ _ (wr.alloc (j1 [X J q.place,X J q.sort,X J q.ap,O q.an,U C (Z q.ts) G,X .i32 q.l.v,O q.l.s,X .i32 q.r.v,O q.r.s].toArray 217));generalize wr.alloc (j1 [X J q.place,X J q.sort,X J q.ap,O q.an,U C (Z q.ts) G,X .i32 q.l.v,O q.l.s,X .i32 q.r.v,O q.r.s].toArray 217)=w3 at H E F⊢;generalize wr.heap.size=T at F⊢;have t3:=F.cell 3;have n1:=(W.kept E (by simp)).cell 1;simp at t3 n1;have HX:=Ab (Tt _ _ cs q.an w3.drew (HP.kept H.drew) HQ HI hU);have Jx:j9 (∀d,Ac [] w3.drew d->jF d ⟨T,3,Y⟩=V (O q.an)/\jF d ⟨N,1,Y⟩=V (O a)/\jF d ⟨T,0,Y⟩=V (X J q.place)/\Ac [] w d/\Ac [] w1 d):=by
       intro d I;exact⟨(F.drew.kept I (by simp)).cell 3,((W.kept E (by simp)).drew.kept I (by simp)).cell 1,(F.drew.kept I (by simp)).cell 0,H.drew.trans I,E.drew.trans I⟩
      have Ix:j9 (∀(l:List g0) ad cp B0 d,Wk cs q.an l->Z l<=800001->jG d B0 9 1 (U ad (Z l) cp) (Z l) (l.flatMap Ah)->Calls prog 121 #[U ad (Z l) cp,O a] d λe w9=>e=j4 (.bool (f q.an a))/\w9=d):=by
       intro l ad cp B0 d P h1 h2;(have H6:Xa l a=f q.an a:=by rw[gc,J4,P.iff,Aa FO]);have m:=Rn ad cp l a B0 d h2 (by omega) P.zK;rw[H6]at m;exact m
      clear H E F HP FO
      go_region_held3 (λd=>jF d ⟨T,3,Y⟩=V (O q.an)/\jF d ⟨N,1,Y⟩=V (O a)) (go_keep) ((first|(go_at_call 122;refine HX.mono ?_;rintro e w4 ⟨l,H7,H0,rfl,P,HB,Ha,k4⟩;have M:=Aa Jx w4 k4;have f3:=M.1;have f1:=M.2.1;have f0:=M.2.2.1;have Bx:=Ab M;have HW:=Ab (Ix l H7 H0 _ w4 P HB Ha);clear P HB Ha k4 M)|(go_at_call 121;refine HW.mono ?_;rintro e w9 ⟨rfl,HN⟩;subst HN)))
      rename_i H9;clear H9;cases m:f q.an a with
      |true=>
       have HT:=Ab (BA m);clear BA B9 m;go_wp2;go_ret2;rw[Aa HT];exact⟨rfl,Bx.2.2.2.1⟩
      |false=>
       have HT:=Ab (B9 m);clear BA B9 m;go_wp2
       go_roundg (Z b-(j+1))
       case measure=>have:=Aa FL;omega
       case rel=>exact⟨j+1,by go_num,by omega,rfl,HT,Bx.2.2.2.1,Bx.2.2.2.2⟩
    .have HE:j9 (Kc f ⟨A,a,n,U B (Z n) o,U z (Z b) u,b⟩=Y):=by
      have h:=Aa HJ;rw[eu (by omega)]at h;show _=_;unfold Kc;simp only;have:b.find? (Le f a)=Y:=by
       rw[gV];intro y hy m;rw[gC]at h;exact h y hy m
      rw[this];rfl
     have A1:=Ab (H1 HE);go_wp2
     go_roundg (Z cs-(k+1))
     case measure=>have:=Aa HG;omega
     case rel=>exact⟨k+1,by go_num,by omega,rfl,A1,D⟩
  .have HE:j9 (R=Y):=by
    have h:=Aa HC;rw[eu (by omega)]at h;show _=_;rw[<-Aa HH];unfold NQ;rw[iZ];exact h
   go_wp2;go_ret2;rw[HE.out];exact⟨rfl,D⟩
def SH(cs:List A8)(x y:g0)(b:Nat):Prop:=∃c∈cs,c.head.name=x/\∃l∈Aj c,l.A.name=y/\(((l.kind==97)=jj/\b=0)\/((l.kind==33)=jj/\b=1))
def Gr(cs:List A8)(x y:g0):Prop:=∀S:g0->Prop,S x->(∀u v b,SH cs u v b->S u->S v)->S y
def Gr.refl(cs:List A8)(x:g0):Gr cs x x:=λS h _=>h
def Gr.trans{cs:List A8}{x y z:g0}(h:Gr cs x y)(k:Gr cs y z):Gr cs x z:=λS b a=>k S (h S b a) a
def Gr.edge{cs:List A8}{x y:g0}{b:Nat}(h:SH cs x y b):Gr cs x y:=λS c a=>a x y b h c
def Y2(cs:List A8):Prop:=∀x y,SH cs x y 1->¬Gr cs y x
def Ss(f:g0->Nat):∀(a:List Bw) (n:Nat),n<=Ii f n a/\∀p∈a,Mt f p<=Ii f n a
 |[],n=>⟨eM _,λp b=>by simp at b⟩
 |q::a,n=>by
  have ih:=Ss f a (max n (Mt f q));have e:Ii f n (q::a)=Ii f (max n (Mt f q)) a:=rfl;rw[e];refine⟨by have:=ih.1;omega,λp b=>?_⟩;rcases ey.1 b with rfl|b
  .have:=ih.1;omega
  .exact ih.2 p b
def WR(f:g0->Nat):∀(a:List Bw) (n:Nat),Ii f n a=n\/∃p∈a,Ii f n a=Mt f p
 |[],n=>j5 rfl
 |q::a,n=>by
  have e:Ii f n (q::a)=Ii f (max n (Mt f q)) a:=rfl;rw[e];rcases WR f a (max n (Mt f q))with h|⟨p,hp,h⟩
  .by_cases b:n<=Mt f q
   .exact j6 ⟨q,by simp,by rw[h];omega⟩
   .exact j5 (by rw[h];omega)
  .exact j6 ⟨p,by simp[hp],h⟩
def Wx(f:g0->Nat)(x:g0):∀(a:List A8) (n:Nat),n<=a.foldl (JA f x) n/\∀c∈a,c.head.name=x->∀p∈c.bl,Mt f p<=a.foldl (JA f x) n
 |[],n=>⟨eM _,λc h=>by simp at h⟩
 |c::a,n=>by
  rw[fd];have ih:=Wx f x a (JA f x n c);have j:n<=JA f x n c:=by
   unfold JA;split
   .exact(Ss f c.bl n).1
   .exact eM _
  refine⟨by have:=ih.1;omega,λd b g p e=>?_⟩;rcases ey.1 b with rfl|b
  .have i:Mt f p<=JA f x n d:=by
    unfold JA;rw[eI ((Er _ _).2 g)];exact(Ss f d.bl n).2 p e
   have:=ih.1;omega
  .exact ih.2 d b g p e
def Wu(f:g0->Nat)(x:g0):∀(a:List A8) (n:Nat),a.foldl (JA f x) n=n\/∃c∈a,c.head.name=x/\∃p∈c.bl,a.foldl (JA f x) n=Mt f p
 |[],n=>j5 rfl
 |c::a,n=>by
  rw[fd];rcases Wu f x a (JA f x n c)with h|⟨d,hd,hx,p,b,h⟩
  .rw[h];unfold JA;by_cases e:(c.head.name.toList==x.toList)=jj
   .rw[eI e];rcases WR f c.bl n with g|⟨p,b,g⟩
    .exact j5 g
    .exact j6 ⟨c,by simp,(Er _ _).1 e,p,b,g⟩
   .rw[eE e];exact j5 rfl
  .exact j6 ⟨d,by simp[hd],hx,p,b,h⟩
def Kt{cs:List A8}{x y:g0}{b:Nat}(h:SH cs x y b)(d:Nat):Cd cs d y+b<=Cd cs (d+1) x:=by
 obtain⟨c,k,m,l,i,e,j⟩:=h;obtain⟨p,f,rfl⟩:=eH.1 i;rw[Cd];have o:=(Wx (Cd cs d) x cs 0).2 c k m p f;have n:Mt (Cd cs d) p=Cd cs d y+b:=by
  unfold Mt;rcases j with⟨a,rfl⟩|⟨a,rfl⟩
  .rw[eI a,e];rfl
  .have g:(p.1.kind==97)=K:=by
    (have:p.1.kind=33:=by simpa using a);rw[this];rfl
   rw[eE (by rw[g];simp),eI a,e]
 omega
def Pv(cs:List A8)(d:Nat)(x:g0)(h:0<Cd cs (d+1) x):∃y b,SH cs x y b/\Cd cs (d+1) x=Cd cs d y+b:=by
 rw[Cd]at h⊢;rcases Wu (Cd cs d) x cs 0 with a|⟨c,i,j,p,g,a⟩
 .omega
 .unfold Mt at a;by_cases e:(p.1.kind==97)=jj
  .rw[eI e]at a;exact⟨p.1.A.name,0,⟨c,i,j,p.1,eZ g,rfl,j5 ⟨e,rfl⟩⟩,a⟩
  .rw[eE e]at a;by_cases f:(p.1.kind==33)=jj
   .rw[eI f]at a;exact⟨p.1.A.name,1,⟨c,i,j,p.1,eZ g,rfl,j6 ⟨f,rfl⟩⟩,a⟩
   .rw[eE f]at a;omega
def ME(cs:List A8):∀(d:Nat) (x:g0),Cd cs d x<=Cd cs (d+1) x
 |0,x=>by rw[show Cd cs 0 x=0 from rfl];omega
 |d+1,x=>by
  by_cases h:0<Cd cs (d+1) x
  .obtain⟨y,b,a,e⟩:=Pv cs d x h;have c:=ME cs d y;have f:=Kt a (d+1);omega
  .omega
def Va(cs:List A8)(x:g0){d e:Nat}(h:d<=e):Cd cs d x<=Cd cs e x:=by
 induction h with
 |refl=>exact eM _
 |step _ ih=>exact fJ ih (ME cs _ x)
structure ec(cs:List A8)(d:Nat)(x v:g0):Prop where
 zg:∃D B:Nat,d<D/\Cd cs D v<Cd cs (D+1) v/\Cd cs (D+1) v=B+Cd cs (d+1) x/\Gr cs v x/\(0<B->∃u t,SH cs u t 1/\Gr cs v u/\Gr cs t x)
def WN{cs:List A8}(g:Y2 cs){d:Nat}{x:g0}(h:ec cs d x x):False:=by
 obtain⟨D,B,k,i,j,_,e⟩:=h.zg;by_cases f:0<B
 .obtain⟨u,t,a,c,b⟩:=e f;exact g u t a (b.trans c)
 .have:=Va cs x (show d+1<=D by omega);omega
def ZQ{cs:List A8}(A:Y2 cs)(g:List g0)(C:∀c∈cs,c.head.name∈g)(W:Z g<=6):∀(d:Nat) (x:g0) (a:List g0),6<=Z a+d->a.Nodup->(∀v∈a,v∈g)->(∀v∈a,ec cs d x v)->Cd cs d x<Cd cs (d+1) x->False:=by
 intro d
 induction d with
 |zero=>
  intro x a H o p i s;obtain⟨y,b,e,_⟩:=Pv cs 0 x (by omega);obtain⟨c,r,n,_⟩:=e;have m:x∈g:=by rw[<-n];exact C c r
  have j:x∉a:=λh=>WN A (i x h)
  have:=LY (x::a) g (gX.2 ⟨j,o⟩) (λz f=>by
   rcases ey.1 f with rfl|f
   .exact m
   .exact p z f)
  simp only[eF]at this;omega
 |succ d ih=>
  intro x a H o p i s;obtain⟨y,b,e,T⟩:=Pv cs (d+1) x (by omega);have m:x∈g:=by
   obtain⟨c,r,n,_⟩:=e;rw[<-n];exact C c r
  have j:x∉a:=λh=>WN A (i x h)
  have R:=Kt e d;have P:b<=1:=by
   obtain⟨c,_,_,l,_,_,h|h⟩:=e<;>omega
  refine ih y (x::a) (by simp only[eF];omega) (gX.2 ⟨j,o⟩) (λz f=>?_) (λv k=>?_) (by omega)
  .rcases ey.1 f with rfl|f
   .exact m
   .exact p z f
  .rcases ey.1 k with rfl|k
   .refine⟨d+1,b,by omega,s,by omega,Gr.edge e,λG=>?_⟩;(have q:b=1:=by omega);subst q;exact⟨v,y,e,Gr.refl cs v,Gr.refl cs y⟩
   .obtain⟨D,B,Q,M,S,w,N⟩:=(i v k).zg;refine⟨D,B+b,by omega,M,by omega,w.trans (Gr.edge e),λG=>?_⟩;by_cases I:0<B
    .obtain⟨u,t,F,E,L⟩:=N I;exact⟨u,t,F,E,L.trans (Gr.edge e)⟩
    ·(have q:b=1:=by omega);subst q;exact⟨x,y,e,w,Gr.refl cs y⟩
def bB{cs:List A8}(k:Y2 cs)(a:List g0)(j:∀c∈cs,c.head.name∈a)(l:Z a<=6):Di cs (Cd cs 6):=by
 have i:∀x,Cd cs 7 x=Cd cs 6 x:=by
  intro x;have m:Cd cs 6 x<=Cd cs 7 x:=ME cs 6 x;by_cases h:Cd cs 6 x<Cd cs 7 x
  .exact(ZQ k a j l 6 x [] (by simp) iq (λv e=>by simp at e) (λv e=>by simp at e) h).elim
  .omega
 refine⟨λc f x g d=>?_,λc f x g d=>?_⟩
 .have h:=Kt (cs:=cs) (x:=c.head.name) (y:=x.A.name) (b:=0) ⟨c,f,rfl,x,g,rfl,j5 ⟨d,rfl⟩⟩ 6;rw[i]at h;omega
 .have h:=Kt (cs:=cs) (x:=c.head.name) (y:=x.A.name) (b:=1) ⟨c,f,rfl,x,g,rfl,j6 ⟨d,rfl⟩⟩ 6;rw[i]at h;omega
def cQ(l:List g0):List g0:=l.foldl CJ []
def GX(c:Dq):List g0:=((Bp c).filter λt=>t.v==0).map λt=>t.s
def Mn(l:List g0)(x:g0):DN l x=jj↔x∈l:=J4 l x
def Q9(l:List g0)(x y:g0):y∈CJ l x↔y=x\/y∈l:=by
 unfold CJ;cases h:DN l x with
 |true=>
  simp only[if_true];have b:=(Mn l x).1 h;exact⟨j6,λa=>by rcases a with rfl|a;exact b;exact a⟩
 |false=>
  simp only[ev,if_false,eG,ex];exact⟨λa=>by rcases a with a|a;exact j6 a;exact j5 a,λa=>by rcases a with a|a;exact j6 a;exact j5 a⟩
def Tp{l:List g0}(h:l.Nodup)(x:g0):(CJ l x).Nodup:=by
 unfold CJ;cases hb:DN l x with
 |true=>simpa using h
 |false=>
  simp only[ev,if_false];rw[iO];refine⟨h,by simp,λa d b c e=>?_⟩;simp only[ex]at c;subst e c;rw[(Mn l a).2 d]at hb;cases hb
def OL:∀(a l:List g0),l.Nodup->(a.foldl CJ l).Nodup/\∀y,y∈a.foldl CJ l↔y∈a\/y∈l
 |[],l,h=>⟨h,λy=>by simp⟩
 |x::a,l,h=>by
  obtain⟨b,c⟩:=OL a (CJ l x) (Tp h x);refine⟨b,λy=>?_⟩;rw[fd,c,Q9,ey];exact⟨λh=>by rcases h with h|h|h;exact j5 (j6 h);exact j5 (j5 h);exact j6 h,λh=>by rcases h with(h|h)|h;exact j6 (j5 h);exact j5 h;exact j6 (j6 h)⟩
def EC(l:List g0):(cQ l).Nodup/\∀y,y∈cQ l↔y∈l:=by
 obtain⟨a,b⟩:=OL l [] iq;exact⟨a,λy=>by rw[cQ,b];simp⟩
def KZ{a b:List g0}(d:a.Nodup)(e:b.Nodup)(h:∀y,y∈a↔y∈b):Z a=Z b:=
 Nat.le_antisymm (LY a b d (λy c=>(h y).1 c)) (LY b a e (λy c=>(h y).2 c))
def UJ(cs:List Dq)(k:Nat):Bool:=decide (12<k+1)||decide (6<Z (cQ ((cs.take (k+1)).flatMap B3)))||decide (6<Z (cQ ((cs.take (k+1)).flatMap GX)))
def UR(cs:List Dq)(k:Nat)(c:Dq):Option (Int×Int):=
 if UJ cs k||Jw c then V (3,c.hp)
 else match dO cs (Bm c)with
  |some p=>V (4,p)
  |none=>match Hx c with
   |some p=>V (5,p)
   |none=>Y
def Ny(cs:List Dq):Nat->List Dq->Option (Int×Int)
 |_,[]=>Y
 |k,c::l=>match UR cs k c with
  |some r=>V r
  |none=>Ny cs (k+1) l
def Wl:Option (Int×Int)->j8
 |some r=> .tuple #[X J r.1,X J r.2]
 |none=> .tuple #[X J 0,X J 0]
structure dQ(c:Dq):Prop where
 pc:Ov c
 zS:Z (Bp c)<=90000
def dQ.atoms{c:Dq}(h:dQ c){w:j7}(d:Jb w 0 c.hv c.bv c.zD c.zC):∀a∈Bm c,lenOf a.tv<=1000:=by
 intro a b;rcases ey.1 b with rfl|b
 .obtain⟨j,i,e⟩:=Ak d.head;simp only;rw[e];exact h.pc.head.2
 .unfold Ba at b;obtain⟨p,g,rfl⟩:=eH.1 b;have f:=(e9.1 g).1;obtain⟨j,i,e⟩:=Ak (d.body.each p f).1;simp only;rw[e];exact(h.pc.each p f).2
def Ti{cs:List Dq}{k:Nat}(e:k<Z cs){d th':List g0}(h:∀y,y∈d↔y∈(cs.take k).flatMap GX)(a:Ex (Bp cs[k]) d th'):∀y,y∈th'↔y∈(cs.take (k+1)).flatMap GX:=by
 intro y;rw[a y,h y,ep e,eY,eG];simp only[eN,fF,fh];have:(∃t∈Bp cs[k],t.v=0/\t.s=y)↔y∈GX cs[k]:=by
  unfold GX;rw[eH];constructor
  .rintro ⟨t,b,a,c⟩;exact⟨t,e9.2 ⟨b,by simpa using a⟩,c⟩
  .rintro ⟨t,b,c⟩;obtain⟨f,g⟩:=e9.1 b;exact⟨t,f,by simpa using g,c⟩
 rw[this];exact⟨λh=>by rcases h with h|h;exact j6 h;exact j5 h,λh=>by rcases h with h|h;exact j6 h;exact j5 h⟩
def VX{cs:List Dq}{k:Nat}(b:k<Z cs){nm nm':List g0}(h:∀y,y∈nm↔y∈(cs.take k).flatMap B3)(a:∀y,y∈nm'↔y∈B3 cs[k]\/y∈nm):∀y,y∈nm'↔y∈(cs.take (k+1)).flatMap B3:=by
 intro y;rw[a y,h y,ep b,eY,eG];simp only[eN,fF,fh];exact⟨λh=>by rcases h with h|h;exact j6 h;exact j5 h,λh=>by rcases h with h|h;exact j6 h;exact j5 h⟩
theorem Mz(K5:Option Addr)(KB:Nat)(cs:List Dq)(w:j7)(h:DG w (U K5 (Z cs) KB) cs)(z:∀c∈cs,aU w w.heap.size c)(LC:Z cs<=1000)(hf:∀c∈cs,dQ c):
  Calls prog 72 #[U K5 (Z cs) KB] w λe w'=>e=j4 (Wl (Ny cs 0 cs))/\Ac [] w w':=by
 have HP:=Ab h;have K1:=Ab hf;have JJ:=Ab z;obtain⟨R,hR⟩:∃R,Ny cs 0 cs=R:=⟨_,rfl⟩;rw[hR];have K4:=Ab hR;clear h hf z hR;have B0:j9 (Eu (w.alloc (j1 [X J 0,U Y 0 0,U Y 0 0].toArray 210)) w.heap.size ((0:Nat):Int) (U Y 0 0) (U Y 0 0) [] []):=
  ⟨AI.new w _ 210,eU _ _ _ _,eU _ _ _ _,λk hk=>by simp[Value.ownBlock]at hk,λi j t=>by simp at t,λi j t=>by simp at t⟩
 have BT:=Ab (Wg.of ((Ac.refl [] w).alloc (j1 [X J 0,U Y 0 0,U Y 0 0].toArray 210)) (eM _) (by simp));have B:j9 (∀wr,Wg w.heap.size w wr->Ac [] w wr):=λwr hl=>hl.kept (eM _)
 go_enter func72,ntmps72;go_wp2;change Code.wp _ _ _ _ (w.alloc (j1 [X J 0,U Y 0 0,U Y 0 0].toArray 210));generalize w.alloc (j1 [X J 0,U Y 0 0,U Y 0 0].toArray 210)=w1 at B0 BT⊢;obtain⟨b,HU⟩:∃b,w.heap.size=b:=⟨_,rfl⟩;rw[HU]at B0 BT JJ B⊢;have NM:=Ab HU;clear HU
 go_loopg [13] (Z cs) (λgk i wr=>∃(k:Nat) (nv tv:j8) (Q th:List g0),i=X J k/\k<=Z cs/\k<=12/\gk=Z cs-k/\Z Q<=6/\Z th<=6/\j9 (Eu wr b (k:Int) nv tv Q th)/\j9 (∀y,y∈Q↔y∈(cs.take k).flatMap B3)/\j9 (∀y,y∈th↔y∈(cs.take k).flatMap GX)/\j9 (Ny cs k (cs.drop k)=R)/\j9 (Wg b w wr))
 case atStart=>exact⟨0,_,_,[],[],rfl,by omega,by omega,rfl,by simp,by simp,B0,λy=>by simp,λy=>by simp,K4,BT⟩
 case round=>
  clear B0 BT K4;obtain⟨k,nv,tv,Q,th,rfl,hk,NY,K2,N4,NS,HC,IJ,HY,HR,HL⟩:=hrel;have HG:=Ab K2;clear K2;by_cases z:k<Z cs
  .have H1:=Aa B wr HL;have H6:=HP.kept H1;obtain⟨g,NX,f,q,d,o,l,n,m,a,he,H0,d0,d1,d2,d3⟩:=Fh H6 k z;simp only[ei]at he;obtain⟨rfl,_,rfl⟩:=he;have FF:=Ab ((JJ _ (eo z)).low HL);have x:=Ab (K1 _ (eo z));have H:j9 ((match UR cs k cs[k] with|some r=>V r|none=>Ny cs (k+1) (cs.drop (k+1)))=R):=by
    have h:=Aa HR;rw[eQ z,Ny]at h;exact h
   have HM:=Ab (λnm'=>VX (nm':=nm') z IJ);have FT:=Ab (λth'=>Ti (th':=th') z HY);rw[H0]at FF x H HM FT;clear H6 H0 HR IJ HY H1;have NB:=HC.zO.lt;have kA:=(Ac.refl [] wr).alloc (j1 [X J f,O q,U o (Z d) l,U n (Z a) m].toArray 189);have E:=Ab (HC.kept kA);have S:=Ab (AI.new wr [X J f,O q,U o (Z d) l,U n (Z a) m] 189);have lA:=Wg.of kA (b:=b) (by omega) (by simp);have M:=Ab (HL.trans lA);have P:=Ab (FF.low lA);have HI:j9 (∀v:j8,(v=nv\/v=tv)->v.ownBlock≠V wr.heap.size):=by
    intro v hv e;rcases hv with rfl|rfl
    .have:=(HC.rn.lt _ e).2;omega
    .have:=(HC.rt.lt _ e).2;omega
   have FL:=Ab (X6 b k nv tv Q th ⟨f,q,d,U o (Z d) l,U n (Z a) m,a⟩ _ E P x.pc x.zS (by omega) (by omega) (by omega));(have M1:b+1<=(wr.alloc (j1 [X J f,O q,U o (Z d) l,U n (Z a) m].toArray 189)).heap.size:=by simp;omega);clear kA lA;simp only[Bc]at FL;(go_wp2_with fail);refine FL.mono ?_;rintro e w5 ⟨rfl,K3,HZ,DT,CC,A2,H8,H9,N2,NV,k5⟩;have HF:=S.kept k5 (by
    intro s
    simp only[ey,eG]at s
    rcases s with s|s|s
    .omega
    .exact HI nv (j5 rfl) (by simpa using s)
    .exact HI tv (j6 rfl) (by simpa using s))
   have l5:Wg b (wr.alloc (j1 [X J f,O q,U o (Z d) l,U n (Z a) m].toArray 189)) w5:=Wg.of k5 (by omega) (λi t=>by
    simp only[ey,eG]at t
    rcases t with t|t|t
    .omega
    .exact E.yD.1 i t
    .exact E.yD.2 i t)
   have HB:=Ab (M.trans l5);have HK:=Ab (P.low l5);have KS:=Ab (HM DT H8);have H5:=Ab (FT CC H9);have CL:j9 ((decide (12<k+1)||decide (6<Z DT)||decide (6<Z CC))=UJ cs k):=by
    show _=_;unfold UJ;rw[KZ (A2.rin.nodup Gb) (EC _).1 (λy=>(Aa KS y).trans ((EC _).2 y).symm),KZ (A2.rit.nodup Gb) (EC _).1 (λy=>(Aa H5 y).trans ((EC _).2 y).symm)]
   have FA:=Ab (Qo b (k+1) K3 HZ DT CC w5 A2);rw[Aa CL]at FA;have Mo:wr.heap.size<w5.heap.size:=HF.lt;have I:=Ab HF;have HA:=Ab A2;(have K8:wr.heap.size≠b:=by omega);clear FL A2 H8 H9 k5 l5 E S M P HI HM FT HF d0 d1 d2 d3 M1 HL FF HC;generalize wr.heap.size=T at I Mo K8⊢;(go_wp2_with fail);refine FA.mono ?_;rintro e w6 ⟨rfl,K9⟩;subst K9;clear FA;have C:=I.cell 0;have D:=I.cell 1;have F:=I.cell 2;have G:=I.cell 3;simp at C D F G;cases s:UJ cs k with
   |true=>
    have A:j9 (R=V (3,f)):=by
     show _=_;rw[<-Aa H];unfold UR;rw[s];rfl
    clear s CL H;go_wp2_with fail
    go_region_held3 (λw'=>jF w' ⟨T,0,Y⟩=V (X J f)) (go_keep) (fail)
    rename_i Ha;clear Ha;go_wp2;go_ret2;rw[Aa A];exact⟨rfl,B _ HB.drew⟩
   |false=>
    have N:=Aa CL;rw[s]at N;simp only[ix,ie]at N;have FB:=Ab (On ⟨f,q,d,U o (Z d) l,U n (Z a) m,a⟩ w6 HK.at_ x.pc.lits);simp only[Bc]at FB;have Jx:=Ab s;have Nx:=N.1.1;have Op:=N.1.2;have NA:=N.2;clear s CL N;(go_wp2_with fail);refine FB.mono ?_;rintro e w7 ⟨rfl,k7⟩;have L:=Ab (I.kept k7 (by simp));have EX:=Ab (HA.kept k7);have l7:=Wg.of k7 (b:=b) (by have:=HA.zO.lt;omega) (by simp);have HO:=Ab (HB.trans l7);have W:=Ab (HK.low l7);have NN:T<w7.heap.size:=L.lt;(have Nq:b<=w7.heap.size:=by have:=EX.zO.lt;omega);clear C D F G FB k7 l7 I HA HB HK;have C:=L.cell 0;have D:=L.cell 1;have F:=L.cell 2;have G:=L.cell 3;simp at C D F G;cases hg:Jw ⟨f,q,d,U o (Z d) l,U n (Z a) m,a⟩with
    |true=>
     have A:j9 (R=V (3,f)):=by
      show _=_;rw[<-Aa H];unfold UR;rw[hg,jf];rfl
     clear hg H;go_wp2_with fail
     go_region_held3 (λw'=>jF w' ⟨T,0,Y⟩=V (X J f)) (go_keep) (fail)
     rename_i Ha;clear Ha;go_wp2;go_ret2;rw[Aa A];exact⟨rfl,B _ HO.drew⟩
    |false=>
     have u:j9 ((match(match dO cs (Bm ⟨f,q,d,U o (Z d) l,U n (Z a) m,a⟩)with|some p=>V ((4:Int),p)|none=>match Hx ⟨f,q,d,U o (Z d) l,U n (Z a) m,a⟩with|some p=>V ((5:Int),p)|none=>Y)with|some r=>V r|none=>Ny cs (k+1) (cs.drop (k+1)))=R):=by
      have h:=Aa H;unfold UR at h;rw[Aa Jx,hg]at h;exact h
     clear hg H Jx;have B2:=Ab (Kq ⟨f,q,d,U o (Z d) l,U n (Z a) m,a⟩ w7 W.at_ x.pc.lits);have Ix:=Ab (G9 W.at_);have H4:Z (Bm ⟨f,q,d,U o (Z d) l,U n (Z a) m,a⟩)<=1001:=by
      have:=Es a;have h2:=x.pc.lits;simp only at h2;simp[Bm];omega
     have IS:=Ab (x.atoms W.at_);simp only[Bc]at B2;generalize Bm ⟨f,q,d,U o (Z d) l,U n (Z a) m,a⟩=aT at B2 u Ix H4 IS;(go_wp2_with fail);refine B2.mono ?_;rintro e wa ⟨Nj,MN,rfl,KK,ka⟩;have S:=Ab (L.kept ka (by simp));have E:=Ab (EX.kept ka);have la:=Wg.of ka (b:=b) Nq (by simp);have M:=Ab (HO.trans la);have P:=Ab (W.low la);(have M6:b<=wa.heap.size:=by have:=E.zO.lt;omega);have FO:=Ab (Qf Nj MN aT _ _ _ cs wa KK Ix H4 IS (HP.kept (B wa M)) (λc hc=>(K1 c hc).pc.lits) LC);clear B2 KK ka la L EX HO W C D F G;generalize dO cs aT=RO at FO u;(go_wp2_with fail);refine FO.mono ?_;rintro e w8 ⟨rfl,k8⟩;have AT:=Ab (S.kept k8 (by simp));have HJ:=Ab (E.kept k8);have l8:Wg b wa w8:=Wg.of k8 M6 (by simp);have HD:=Ab (M.trans l8);have HX:=Ab (P.low l8);(have LL:b<=w8.heap.size:=by have:=HJ.zO.lt;omega);clear FO k8 l8 S E M P;have C:=AT.cell 0;have D:=AT.cell 1;have F:=AT.cell 2;have G:=AT.cell 3;simp at C D F G;cases RO with
     |some p=>
      have A:j9 (R=V (4,p)):=u.symm;clear u;simp only[Cc];go_wp2;go_ret2;rw[Aa A];exact⟨rfl,B _ HD⟩
     |none=>
      have BS:=Ab (Oj ⟨f,q,d,U o (Z d) l,U n (Z a) m,a⟩ w8 HX.at_ x.pc (by have:=x.zS;omega));simp only[Bc]at BS;simp only at u;generalize Hx ⟨f,q,d,U o (Z d) l,U n (Z a) m,a⟩=UO at BS u;simp only[Cc];(go_wp2_with fail);refine BS.mono ?_;rintro e w9 ⟨rfl,k9⟩;have LB:=Ab (HJ.kept k9);have H2:=Ab (HD.trans (Wg.of k9 LL (by simp)));clear BS k9 HJ HD HX AT C D F G;cases UO with
      |some p=>
       have A:j9 (R=V (5,p)):=u.symm;clear u;simp only[Cc];go_wp2;go_ret2;rw[Aa A];exact⟨rfl,B _ H2⟩
      |none=>
       have Nd:j9 (Ny cs (k+1) (cs.drop (k+1))=R):=u;clear u;simp only[Cc];go_wp2
       go_roundg (Z cs-(k+1))
       case measure=>have:=Aa HG;omega
       case rel=>exact⟨k+1,K3,HZ,DT,CC,by go_num,by omega,by omega,rfl,by omega,by omega,LB,KS,H5,Nd,H2⟩
  .have A:j9 (R=Y):=by
    have h:=Aa HR;rw[fq (by omega),Ny]at h;exact h.symm
   go_wp2;go_ret2;rw[A.out];exact⟨rfl,B wr HL⟩
def Qr(f:g0->g0->Bool)(pcs:List Dq):Int×Int:=match Ny pcs 0 pcs with
 |some r=>r
 |none=>match NQ f pcs with
  |some p=>(6,p)
  |none=>(0,0)
structure Wf(c:Dq):Prop where
 head:lenOf c.hv=Z c.zD
 lits:∀p∈c.zC,lenOf p.2=Z p.1.ts
def Jb.wf{w:j7}{c:Dq}(h:Jb w 0 c.hv c.bv c.zD c.zC):Wf c:=by
 refine⟨?_,λp a=>?_⟩
 .obtain⟨d,b,e⟩:=Ak h.head;rw[e];rfl
 .obtain⟨d,b,e⟩:=Ak (h.body.each p a).1;rw[e];rfl
def Fv(s:g0)(f:g0->g0->Bool)(r:Int×Int):Prop:=
 if 300<s.size then r=(1,0)
 else match C4 (EH s) 0 [] with
  | .error p=>r=(2,p)
  | .ok cs=>∃pcs:List Dq,pcs.map Dq.pc=cs/\(∀c∈pcs,Wf c)/\r=Qr f pcs
structure aW(f:g0->g0->Bool)(pcs:List Dq):Prop where
 yV:∀x y,f x y=jj↔Hv pcs x y
 fit:∀c∈pcs,dQ c
 len:Z pcs<=1000
 names:Z (pcs.flatMap B3)<=800000
def FG.into{w:j7}{base:Nat}{e:j8}{cs:List Dq}(h:FG w base e cs):DG w e cs/\∀c∈cs,aU w w.heap.size c:=by
 refine⟨⟨Am h.row (eV _),λc d=>(h.each c d).at_.base (eV _)⟩,λc d=>?_⟩;have b:=(h.each c d).at_;exact⟨b.base (eV _),λk a=>(b.head.lt k a).2,λk a=>(b.body.row.lt k a).2,λp f k a=>(World.ownsRow.lt (b.body.each p f).1 k a).2⟩
def bJ{cs:List Dq}{k:Nat}{c:Dq}{r:Int×Int}(h:UR cs k c=V r):r.1≠0:=by
 unfold UR at h;split at h
 .simp only[eD]at h;subst h;simp
 .split at h
  .simp only[eD]at h;subst h;simp
  .split at h
   .simp only[eD]at h;subst h;simp
   .cases h
def Xh{cs:List Dq}:∀(l:List Dq) (k:Nat) {r:Int×Int},Ny cs k l=V r->r.1≠0
 |[],k,r,h=>by simp[Ny]at h
 |c::l,k,r,h=>by
  rw[Ny]at h;split at h
  .rename_i b a;simp only[eD]at h;subst h;exact bJ a
  .exact Xh l (k+1) h
def ZS(s:g0)(w:j7)(lv:j8)(n:Nat)(r:Int×Int):Prop:=r.1=0->s.size<=300/\∃cs pcs,C4 (EH s) 0 []=.ok cs/\pcs.map Dq.pc=cs/\n=Z pcs/\DG w lv pcs
theorem YS(s:g0)(f:g0->g0->Bool)(w:j7)(BT:s.size<=9223372036854775807)(B:s.size<=300->∀b,C4 (EH s) 0 []=.ok b->∀a,a.map Dq.pc=b->aW f a):
  Calls prog 40 #[O s] w λe M=>∃(j:Option Addr) (n k:Nat) (r:Int×Int),e=j4 (.tuple #[U j n k,X J r.1,X J r.2])/\Fv s f r/\ZS s M (U j n k) n r/\Ac [] w M:=by
 by_cases S:300<s.size
 .have A1:(300:Int)<(s.size:Int):=by omega
  have i:j9 (Fv s f (1,0)):=by
   show Fv _ _ _;unfold Fv;rw[eI S]
  clear B;go_enter func40,ntmps40;go_wp2;go_ret3;exact⟨Y,0,0,(1,0),rfl,i,λh=>absurd h (by decide),Ac.refl _ _⟩
 .have A1:¬(300:Int)<(s.size:Int):=by omega
  have W:=Ab (I5 s w (by omega));have y:=Ab (B (by omega));have u:j9 (∀r,Fv s f r↔(match C4 (EH s) 0 [] with| .error p=>r=(2,p)| .ok b=>∃a:List Dq,a.map Dq.pc=b/\(∀c∈a,Wf c)/\r=Qr f a)):=by
   intro r;unfold Fv;rw[eE S]
  clear B;go_enter func40,ntmps40;go_wp2_with fail
  refine W.mono ?_;intro e w2 x;clear W;cases hp:C4 (EH s) 0 [] with
  |error p=>
   rw[hp]at x;obtain⟨rfl,m⟩:=x;have i:j9 (Fv s f (2,p)):=by
    show Fv _ _ _;rw[Aa u,hp]
   have v:=Ab m;clear hp u y m;go_wp2;go_ret3;exact⟨Y,0,0,(2,p),rfl,i,λh=>absurd h (by simp),v⟩
  |ok b=>
   rw[hp]at x;obtain⟨j,k,a,rfl,o,G,m⟩:=x;have q:=Aa y b hp a o;(have AT:Z b=Z a:=by rw[<-o];simp);rw[AT]at G⊢;obtain⟨t,R⟩:=G.into;have i:j9 (∀r,r=Qr f a->Fv s f r):=by
    intro r E;rw[Aa u,hp];exact⟨a,o,λc d=>(t.each c d).wf,E⟩
   have L:=Ab (Mz j k a w2 t R q.len q.fit);have T:=Ab t;have P:j9 (C4 (EH s) 0 []=.ok b/\a.map Dq.pc=b):=⟨hp,o⟩;have l:=Ab q;have v:=Ab m;clear hp u y m o G t R q;(go_wp2_with fail);refine L.mono ?_;rintro e w3 ⟨rfl,C⟩;have z:=Ab (T.kept C);have H:=Ab (v.trans C);clear L T v C;cases d:Ny a 0 a with
   |some r=>
    have F:=Xh _ _ d;(have AH:(r.1 !=0)=jj:=by simp[bne,F]);have g:=Ab (i r (by unfold Qr;rw[d]));obtain⟨N,r2⟩:=r;simp only at AH F;have Bx:j9 (N≠0):=F;clear d i;simp only[Wl];go_wp2;go_ret3;exact⟨Y,0,0,(N,r2),rfl,g,λh=>absurd h Bx,H⟩
   |none=>
    have Ax:=Ab (R4 f j k a l.yV w3 z l.len (λc d=>(l.fit c d).pc.lits) l.names);have g:j9 (∀r,r=(match NQ f a with|some p=>((6:Int),p)|none=>(0,0))->Fv s f r):=by
     intro r E;refine i r ?_;unfold Qr;rw[d];exact E
    clear d i l;simp only[Wl];(go_wp2_with fail);refine Ax.mono ?_;rintro e w4 ⟨rfl,I⟩;have Q:=Ab (H.trans I);have A2:j9 (s.size<=300/\∃b A,C4 (EH s) 0 []=.ok b/\A.map Dq.pc=b/\Z a=Z A/\DG w4 (U j (Z a) k) A):=⟨by omega,b,a,P.1,P.2,rfl,z.kept I⟩;clear Ax I H z;cases hl:NQ f a with
    |some p=>
     rw[hl]at g;have D:=Ab (g (6,p) rfl);clear hl g;simp only[Cc];go_wp2;go_ret3;exact⟨Y,0,0,(6,p),rfl,D,λh=>absurd h (by simp),Q⟩
    |none=>
     rw[hl]at g;have D:=Ab (g (0,0) rfl);clear hl g;simp only[Cc];go_wp2;go_ret3;exact⟨j,Z a,k,(0,0),rfl,D,λ_=>A2,Q⟩
def F2{α β:Type}(R:α->β->Prop):List α->List β->Prop
 |[],[]=>True
 |a::l,b::m=>R a b/\F2 R l m
 |_,_=>False
def F2.nil{α β:Type}{R:α->β->Prop}:F2 R ([]:List α) ([]:List β):=trivial
def F2.cons{α β:Type}{R:α->β->Prop}{a:α}{b:β}{l:List α}{m:List β}(h:R a b)(t:F2 R l m):F2 R (a::l) (b::m):=⟨h,t⟩
def F2.ind{α β:Type}{R:α->β->Prop}{motive:(l:List α)->(m:List β)->F2 R l m->Prop}(nil:motive [] [] F2.nil)(cons:∀{a:α} {b:β} {l:List α} {m:List β} (h:R a b) (t:F2 R l m),motive l m t->motive (a::l) (b::m) (F2.cons h t)):∀{l:List α} {m:List β} (h:F2 R l m),motive l m h
 |[],[],_=>nil
 |[],_::_,h=>h.elim
 |_::_,[],h=>h.elim
 |_::_,_::_,h=>cons h.1 h.2 (F2.ind nil cons h.2)
def F2.of_map{α β γ:Type}{f:α->γ}{g:β->γ}:∀{l:List α} {m:List β},l.map f=m.map g->F2 (λa b=>f a=g b) l m
 |[],[],_=>F2.nil
 |[],_::_,h=>by simp at h
 |_::_,[],h=>by simp at h
 |a::l,b::m,h=>by
  simp only[eR,gW]at h;exact F2.cons h.1 (F2.of_map h.2)
def F2.lenX{α β:Type}{R:α->β->Prop}{l:List α}{m:List β}(h:F2 R l m):Z l=Z m:=by
 induction h using F2.ind with
 |nil=>rfl
 |cons _ _ ih=>simp[ih]
def F2.take{α β:Type}{R:α->β->Prop}{l:List α}{m:List β}(h:F2 R l m)(k:Nat):F2 R (l.take k) (m.take k):=by
 induction h using F2.ind generalizing k with
 |nil=>simp;exact F2.nil
 |cons h1 _ ih=>
  cases k with
  |zero=>simp;exact F2.nil
  |succ k=>simp only[ip];exact F2.cons h1 (ih k)
def F2.flatMap{α β γ:Type}{R:α->β->Prop}{f:α->List γ}{g:β->List γ}(c:∀a b,R a b->f a=g b){l:List α}{m:List β}(h:F2 R l m):l.flatMap f=m.flatMap g:=by
 induction h using F2.ind with
 |nil=>rfl
 |cons h1 _ ih=>rw[eN,eN,c _ _ h1,ih]
def F2.find{α β γ:Type}{R:α->β->Prop}{f:α->Bool}{g:β->Bool}{u:α->γ}{v:β->γ}(d:∀a b,R a b->f a=g b/\u a=v b){l:List α}{m:List β}(h:F2 R l m):(l.find? f).map u=(m.find? g).map v:=by
 induction h using F2.ind with
 |nil=>rfl
 |cons h1 _ ih=>
  obtain⟨e,c⟩:=d _ _ h1;rw[iw,iw,e];split
  .simp[c]
  .exact ih
def F2.mem{α β:Type}{R:α->β->Prop}{l:List α}{m:List β}(h:F2 R l m):∀b∈m,∃a∈l,R a b:=by
 induction h using F2.ind with
 |nil=>intro b c;simp at c
 |cons h1 _ ih=>
  intro b c;rcases ey.1 c with rfl|c
  .exact⟨_,by simp,h1⟩
  .obtain⟨a,d,e⟩:=ih b c;exact⟨a,by simp[d],e⟩
def F2.yO{α β:Type}{R:α->β->Prop}{l:List α}{m:List β}(h:F2 R l m):∀a∈l,∃b∈m,R a b:=by
 induction h using F2.ind with
 |nil=>intro b c;simp at c
 |cons h1 _ ih=>
  intro b c;rcases ey.1 c with rfl|c
  .exact⟨_,by simp,h1⟩
  .obtain⟨a,d,e⟩:=ih b c;exact⟨a,by simp[d],e⟩
def F2.mono{α β:Type}{R S:α->β->Prop}{l:List α}{m:List β}(h:F2 R l m)(c:∀a∈l,∀b∈m,R a b->S a b):F2 S l m:=by
 induction h using F2.ind with
 |nil=>exact F2.nil
 |cons h1 _ ih=>exact F2.cons (c _ (by simp) _ (by simp) h1) (ih (λa d b e=>c a (by simp[d]) b (by simp[e])))
structure W8(p:Oi)(q:Bw):Prop where
 eq:p.1=LP q.1
 len:lenOf p.2=Z q.1.A.args
 plain:Oh q=K->q.1.A.args=[]
def Wj(t:AG):((ct t).v==0)=(t.v==0):=by
 unfold ct;simp only;rw[gc];simp only[gF];constructor
 .intro h;apply gn.1;rw[show(0:UInt8).toNat=0 from rfl]
  omega
 .intro h;rw[h];rfl
def cU(t:AG)(v:UInt8):((ct t).v==(v.toNat:Int))=(t.v==v):=by
 unfold ct;simp only;rw[gc];simp only[gF];constructor
 .intro h;apply gn.1;omega
 .intro h;rw[h]
def Qv(k:UInt8):(Fj k==0)=(k==97):=by
 unfold Fj;by_cases h:k=97
 .simp[h]
 .by_cases a:k=33
  .simp[a]
  .by_cases b:k=61
   .simp[b]
   .by_cases c:k=35
    .simp[c]
    .simp[h,a,b,c]
def Y7(k:UInt8):(Fj k==1)=(k==33):=by
 unfold Fj;by_cases h:k=97
 .simp[h]
 .by_cases a:k=33
  .simp[a]
  .by_cases b:k=61
   .simp[b]
   .by_cases c:k=35
    .simp[c]
    .simp[h,a,b,c]
def W8.atom{p:Oi}{q:Bw}(h:W8 p q):A9 p.1=Oh q:=by
 unfold A9 Oh;rw[h.eq];simp only[LP,Qv,Y7]
def W8.zS{p:Oi}{q:Bw}(h:W8 p q):AV p.1=(AS q).map ct:=by
 unfold AV AS;rw[h.atom,h.eq];split<;>simp[LP]
structure R3(c:Dq)(r:A8):Prop where
 hp:c.hp=r.head.at_
 hn:c.hn=r.head.name
 zD:c.zD=r.head.args.map ct
 lits:F2 W8 c.zC r.bl
 len:lenOf c.hv=Z r.head.args
 at_:r.at_=r.head.at_
def GJ(r:A8):List g0:=r.head.name::(r.bl.filter Oh).map λq=>q.1.A.name
def GU(r:A8):List AG:=r.head.args++r.bl.flatMap AS
def Vs{a:List Oi}{b:List Bw}(h:F2 W8 a b):FH a=(b.filter Oh).map λq=>q.1.A.name:=by
 unfold FH
 induction h using F2.ind with
 |nil=>rfl
 |cons h1 _ ih=>
  rw[gm,gm,h1.atom];split
  .rw[eR,eR,ih,h1.eq];rfl
  .exact ih
def R3.names{c:Dq}{r:A8}(h:R3 c r):B3 c=GJ r:=by
 unfold B3 GJ;rw[h.hn,Vs h.lits]
def R3.zS{c:Dq}{r:A8}(h:R3 c r):Bp c=(GU r).map ct:=by
 unfold Bp GU Bk;rw[h.zD,fi,jA,F2.flatMap (λa b d=>d.zS) h.lits]
def Mp(r:A8):List g0:=((GU r).filter λt=>t.v==0).map λt=>t.s
def R3.zB{c:Dq}{r:A8}(h:R3 c r):GX c=(Mp r).map Dp:=by
 unfold GX Mp;rw[h.zS,List.filter_map,fN,fN];have e:(GU r).filter ((λt=>t.v==0)∘ct)=(GU r).filter λt=>t.v==0:=by
  apply List.filter_congr;intro t _;exact Wj t
 rw[e];rfl
def S9(f:g0->g0)(hf:∀a b,f a=f b->a=b)(l:List g0):(cQ (l.map f)).length=(cQ l).length:=by
 rw[show(cQ l).length=((cQ l).map f).length from by simp]
 refine KZ (EC _).1 (List.Pairwise.map f (λa b hab e=>hab (hf a b e)) (EC l).1) (λy=>?_);rw[(EC _).2,eH,eH];constructor
 .rintro ⟨x,h1,h2⟩;exact⟨x,((EC l).2 x).2 h1,h2⟩
 .rintro ⟨x,h1,h2⟩;exact⟨x,((EC l).2 x).1 h1,h2⟩
def Tf(l:List g0)(r:A8):KL l r=(GJ r).foldl CJ l:=by
 unfold KL GJ;rw[fd];generalize CJ l r.head.name=l0
 induction r.bl generalizing l0 with
 |nil=>rfl
 |cons q bl ih=>
  rw[fd,gm];unfold zE;cases hq:Oh q with
  |true=>
   simp only[if_true,eR,fd];exact ih _
  |false=>
   simp only[ev,if_false];exact ih _
def Lo{α β γ:Type}(f:γ->β->γ)(g:α->List β):∀(l:List α) (c:γ),(l.flatMap g).foldl f c=l.foldl (λc a=>(g a).foldl f c) c
 |[],c=>rfl
 |a::l,c=>by rw[eN,fE,fd,Lo f g l]
def Pu(cs:List A8):Gh cs=cQ (cs.flatMap GJ):=by
 unfold Gh cQ;rw[Lo]
 congr 1
 funext l r
 exact Tf l r
def NC(x y:g0):∀(l:List g0) (a:List g0×Bool),(y∈(l.foldl (CW x) a).1↔y∈a.1\/y∈l\/(y=x/\a.2=K/\(l.foldl (CW x) a).2=jj))/\(a.2=jj->(l.foldl (CW x) a).2=jj)
 |[],a=>by
  refine⟨?_,λh=>h⟩;simp only[List.foldl_nil,fP,false_or];constructor
  .exact j5
  .rintro (h|⟨_,f,e⟩)
   .exact h
   .rw[f]at e;cases e
 |z::l,a=>by
  obtain⟨b,c⟩:=NC x y l (CW x a z);rw[fd];unfold CW at b c⊢;cases hb:(!a.2&&Fm x z)with
  |true=>
   have d:a.2=K:=by
    cases h:a.2 with
    |false=>rfl
    |true=>rw[h]at hb;simp at hb
   rw[hb]at b c;simp only[if_true]at b c⊢;have g:=c trivial;refine⟨?_,λh=>by rw[d]at h;cases h⟩;rw[b,g,d];simp only[eG,ey,fP,Bool.true_eq_false,false_and,and_false,or_false,true_and,and_true,and_self];constructor
   .rintro ((h|h)|h)
    .rcases h with h|h
     .exact j5 h
     .exact j6 (j6 h)
    .exact j6 (j5 (j5 h))
    .exact j6 (j5 (j6 h))
   .rintro (h|(h|h)|h)
    .exact j5 (j5 (j5 h))
    .exact j5 (j6 h)
    .exact j6 h
    .exact j5 (j5 (j6 h))
  |false=>
   rw[hb]at b c;simp only[ev,if_false]at b c⊢;refine⟨?_,c⟩;rw[b];simp only[eG,ey,fP,or_false];constructor
   .rintro ((h|h)|h|h)
    .exact j5 h
    .exact j6 (j5 (j5 h))
    .exact j6 (j5 (j6 h))
    .exact j6 (j6 h)
   .rintro (h|(h|h)|h)
    .exact j5 (j5 h)
    .exact j5 (j6 h)
    .exact j6 (j5 h)
    .exact j6 (j6 h)
def XM(l:List g0)(x y:g0):y∈Hf l x↔y=x\/y∈l:=by
 have h:=(NC x y l ([],K)).1;unfold Hf;unfold LU;cases hf:(l.foldl (CW x) ([],K)).2 with
 |true=>
  rw[hf]at h;simp only[if_true];rw[h];simp only[fP,false_or,true_and,and_true,and_self];exact⟨λh=>by rcases h with h|h;exact j6 h;exact j5 h,λh=>by rcases h with h|h;exact j6 h;exact j5 h⟩
 |false=>
  rw[hf]at h;simp only[ev,if_false,eG,ex];rw[h];simp only[fP,false_or,ev,and_false,or_false];exact⟨λh=>by rcases h with h|h;exact j6 h;exact j5 h,λh=>by rcases h with h|h;exact j6 h;exact j5 h⟩
structure NZ(a b:List g0):Prop where
 mem:∀y,y∈a↔y∈b
 len:Z a=Z b
def NZ.zZ{a b:List g0}(h:NZ a b)(t:AG):NZ (zZ a t) (if t.v==0 then CJ b t.s else b):=by
 unfold Go.Proofs.YtoihbhenbmffcaaGreatDoor.zZ CJ;cases hv:(t.v==0)with
 |false=>simpa using h
 |true=>
  have e:DN a t.s=DN b t.s:=by rw[gc,Mn,Mn,h.mem]
  rw[e];cases hh:DN b t.s with
  |true=>simpa using h
  |false=>
   simp only[fS,ic,if_true,ev,if_false];refine⟨λy=>?_,by rw[MO,h.len];simp⟩;rw[XM,h.mem];simp only[eG,ex];exact⟨λh=>by rcases h with h|h;exact j6 h;exact j5 h,λh=>by rcases h with h|h;exact j6 h;exact j5 h⟩
def NZ.zR{a b:List g0}(h:NZ a b):∀d:List AG,NZ (zR a d) (((d.filter λt=>t.v==0).map λt=>t.s).foldl CJ b):=by
 intro d;unfold Go.Proofs.YtoihbhenbmffcaaGreatDoor.zR
 induction d generalizing a b with
 |nil=>exact h
 |cons t d ih=>
  rw[fd,gm];have c:=h.zZ t;cases hv:(t.v==0)with
  |true=>
   rw[hv]at c;simp only[if_true]at c⊢;rw[eR,fd];exact ih c
  |false=>
   rw[hv]at c;simp only[ev,if_false]at c⊢;exact ih c
def TM(l:List g0)(a b:List AG):zR l (a++b)=zR (zR l a) b:=by
 unfold zR;rw[fE]
def Vf(l:List g0)(r:A8):Jg l r=zR l (GU r):=by
 unfold Jg GU;rw[TM];generalize zR l r.head.args=l0
 induction r.bl generalizing l0 with
 |nil=>rfl
 |cons q bl ih=>
  rw[fd,eN,TM];exact ih _
def RZ(cs:List A8):NZ (EV cs) (cQ (cs.flatMap Mp)):=by
 unfold EV cQ;rw[Lo];have:∀(l:List A8) (a b:List g0),NZ a b->NZ (l.foldl Jg a) (l.foldl (λc r=>(Mp r).foldl CJ c) b):=by
  intro l
  induction l with
  |nil=>intro a b h;exact h
  |cons r l ih=>
   intro a b h;rw[fd,fd];refine ih _ _ ?_;rw[Vf];exact h.zR _
 exact this cs [] [] ⟨λy=>Iff.rfl,rfl⟩
abbrev d9:=Int×g0×Nat
def Sx(a:GA):d9:=(a.place,a.name,lenOf a.tv)
def Fb(r:A8):List d9:=((r.head.at_:Int),r.head.name,Z r.head.args)::(r.bl.filter Oh).map λq=>((q.1.A.at_:Int),q.1.A.name,Z q.1.A.args)
def U8{a:List Oi}{b:List Bw}(h:F2 W8 a b):(Ba a).map Sx=(b.filter Oh).map λq=>((q.1.A.at_:Int),q.1.A.name,Z q.1.A.args):=by
 unfold Ba
 induction h using F2.ind with
 |nil=>rfl
 |cons h1 _ ih=>
  rw[gm,gm,h1.atom];split
  .rw[eR,eR,eR,ih]
   congr 1
   unfold Sx;simp only;rw[h1.eq,h1.len];rfl
  .exact ih
def R3.atoms{c:Dq}{r:A8}(h:R3 c r):(Bm c).map Sx=Fb r:=by
 unfold Bm Fb;rw[eR,U8 h.lits]
 congr 1
 unfold Sx;simp only;rw[h.hp,h.hn,h.len]
def dz(x:g0)(p:g0×Nat):Bool:=p.1.toList==x.toList
def Ox(L:List (g0×Nat))(x:g0):Int:=match L.find? (dz x)with|some p=>p.2|none=> -1
def aQ(L:List (g0×Nat))(a:d9):Bool:=Ox L a.2.1 !=(a.2.2:Int)
def GR(cs:List A8):List (g0×Nat):=cs.flatMap λr=>(Fb r).map λa=>a.2
def SW(a:List Bw)(x:g0):SM a x=(((a.filter Oh).map λq=>(q.1.A.name,Z q.1.A.args)).find? (dz x)).map λp=>p.2:=by
 unfold SM
 induction a with
 |nil=>rfl
 |cons q a ih=>
  rw[iQ,gm];cases hq:Oh q with
  |false=>
   simp only[iA,ev,if_false];exact ih
  |true=>
   simp only[gq,if_true,eR];rw[iw];unfold dz;simp only;cases hn:(q.1.A.name.toList==x.toList)with
   |true=>rfl
   |false=>exact ih
def SU(r:A8)(x:g0):GL r x=(((Fb r).map λa=>a.2).find? (dz x)).map λp=>p.2:=by
 unfold GL Fb;rw[eR,iw,SW,fN];unfold dz;simp only;cases h:(r.head.name.toList==x.toList)with
 |true=>rfl
 |false=>rfl
def QM(cs:List A8)(x:g0):Eb cs x=Ox (GR cs) x:=by
 have:cs.findSome? (GL · x)=((GR cs).find? (dz x)).map λp=>p.2:=by
  unfold GR
  induction cs with
  |nil=>rfl
  |cons r cs ih=>
   rw[iQ,eN,jm,SU,ih];cases((Fb r).map λa=>a.2).find? (dz x)<;>rfl
 unfold Eb Ox;rw[this];cases(GR cs).find? (dz x)<;>rfl
def TE(L:List (g0×Nat))(r:A8):((Fb r).find? (aQ L)).map (λa=>a.1)=
  if Ox L r.head.name≠(Z r.head.args:Int)then V (r.head.at_:Int)else(r.bl.find? λq=>Oh q&&(Ox L q.1.A.name !=(Z q.1.A.args:Int))).map λq=>(q.1.A.at_:Int):=by
 unfold Fb;rw[iw];have e:aQ L ((r.head.at_:Int),r.head.name,Z r.head.args)=(Ox L r.head.name !=(Z r.head.args:Int)):=rfl;rw[e];cases hh:(Ox L r.head.name !=(Z r.head.args:Int))with
 |true=>
  have:Ox L r.head.name≠(Z r.head.args:Int):=by simpa using hh
  rw[eI this];rfl
 |false=>
  have:¬Ox L r.head.name≠(Z r.head.args:Int):=by simpa using hh
  rw[eE this];simp only
  induction r.bl with
  |nil=>rfl
  |cons q bl ih=>
   rw[gm,iw];cases hq:Oh q with
   |false=>
    simp only[iA,ev,if_false];exact ih
   |true=>
    simp only[gq,if_true,eR];rw[iw];have b:aQ L ((q.1.A.at_:Int),q.1.A.name,Z q.1.A.args)=(Ox L q.1.A.name !=(Z q.1.A.args:Int)):=rfl;rw[b];cases(Ox L q.1.A.name !=(Z q.1.A.args:Int))with
    |true=>rfl
    |false=>exact ih
def R3.bound{c:Dq}{r:A8}(h:R3 c r)(v:UInt8):N1 c.zC (v.toNat:Int)=Jr r.bl v:=by
 unfold N1 Jr F3;have b:=h.lits;generalize c.zC=zC at b;generalize r.bl=bl at b
 induction b using F2.ind with
 |nil=>rfl
 |cons h1 _ ih=>
  rw[eN,jh,iX,ih]
  congr 1
  unfold Ju Ql;rw[h1.eq];simp only[LP,Qv];split
  .rename_i a;rw[a,iP];simp only[gq];apply Ma;intro t _;exact cU t v
  .rename_i a;simp only[Bool.not_eq_true]at a;rw[a];rfl
def R3.loose{c:Dq}{r:A8}(h:R3 c r)(t:AG):N5 c (ct t)=CB r.bl t:=by
 unfold N5 CB;have e:((ct t).v !=0)= !(t.v==0):=by rw[bne,Wj]
 rw[e];have:(ct t).v=(t.v.toNat:Int):=rfl;rw[this,h.bound];cases(t.v==0)<;>simp
def R3.unsaf{c:Dq}{r:A8}(h:R3 c r):Hx c=if 0<=Fz r.head r.bl then V (Fz r.head r.bl)else Y:=by
 unfold Hx Fz;have d:c.zD.any (N5 c)=r.head.args.any (CB r.bl):=by
  rw[h.zD,iP];apply Ma;intro t _;exact h.loose t
 have b:(c.zC.find? λp=>(AV p.1).any (N5 c)).map (λp=>p.1.place)=(r.bl.find? (IQ r.bl)).map λq=>(q.1.at_:Int):=by
  refine F2.find (λp q a=>⟨?_,?_⟩) h.lits
  .unfold IQ;rw[a.zS,iP];apply Ma;intro t _;exact h.loose t
  .rw[a.eq];rfl
 rw[d,b,h.hp];cases r.head.args.any (CB r.bl)with
 |true=>
  simp only[if_true];rw[eI (by omega)]
 |false=>
  simp only[ev,if_false];cases r.bl.find? (IQ r.bl)with
  |none=>rfl
  |some q=>
   simp only[gu];rw[eI (by omega)]
def R3.yS{c:Dq}{r:A8}(h:R3 c r):Jw c=(decide (2<Z r.head.args)||r.bl.any Br||decide (3<Z r.bl)):=by
 unfold Jw;rw[h.lits.lenX]
 congr 1
 have e:(Bm c).any (λa=>decide (2<lenOf a.tv))=(Fb r).any λa=>decide (2<a.2.2):=by
  rw[<-h.atoms,iP];rfl
 rw[e];unfold Fb;rw[iX]
 congr 1
 have d:∀q∈r.bl,Oh q=K->q.1.A.args=[]:=λq b=>by
  obtain⟨p,_,f⟩:=h.lits.mem q b;exact f.plain
 generalize r.bl=bl at d
 induction bl with
 |nil=>rfl
 |cons q bl ih=>
  rw[gm,iX];have ih:=ih (λq b=>d q (by simp[b]));cases b:Oh q with
  |true=>
   simp only[if_true,eR,iX];rw[ih];rfl
  |false=>
   have:=d q (by simp) b;simp only[ev,if_false];rw[ih];unfold Br;rw[this];rfl
def Xx{d:List Dq}{e:List A8}(h:F2 R3 d e):GR e=((d.flatMap Bm).map Sx).map λa=>a.2:=by
 unfold GR;rw[jA,<-F2.flatMap (f:=λc=>(Bm c).map Sx) (g:=Fb) (λa b i=>i.atoms) h|>.symm,jA]
def ak{a:List Dq}{b:List A8}(h:F2 R3 a b)(x:g0):dC a x=((GR b).find? (dz x)).map λp=>p.2:=by
 rw[Xx h,fN,List.find?_map,Option.map_map];rfl
def ZP{d:List Dq}{b:List A8}(h:F2 R3 d b){c:Dq}{r:A8}(j:R3 c r)(k:∀a∈Fb r,a.2∈GR b)(f:Jw c=K):
  dO d (Bm c)=((Fb r).find? (aQ (GR b))).map λa=>a.1:=by
 unfold dO;rw[<-j.atoms,List.find?_map,Option.map_map];have e:(Bm c).find? (Rf d)=(Bm c).find? (aQ (GR b)∘Sx):=by
  apply MJ;intro a i;have m:¬2<lenOf a.tv:=by
   unfold Jw at f;simp only[ix]at f;have:=(gC.1 f.1) a i;simpa using this
  have l:(Sx a).2∈GR b:=k _ (by rw[<-j.atoms];exact eZ i);have g:((GR b).find? (dz a.name)).isSome=jj:=by
   rw[List.find?_isSome];exact⟨_,l,by simp[dz,Sx]⟩
  unfold Rf aQ Ox;simp only[Function.comp];rw[ak h];rw[show(Sx a).2.1=a.name from rfl,show(Sx a).2.2=lenOf a.tv from rfl]
  cases hq:(GR b).find? (dz a.name)with
  |none=>rw[hq]at g;cases g
  |some p=>
   simp only[gu,m,jr,ib];rw[gc];simp only[io,ff,bne_iff_ne,ne_eq];omega
 rw[e];rfl
def X7{pcs:List Dq}{rcs:List A8}(h:F2 R3 pcs rcs){k:Nat}{c:Dq}{r:A8}(hc:R3 c r)(hm:∀a∈Fb r,a.2∈GR rcs):
  UR pcs k c=B4 rcs k r:=by
 have e1:=ZP h hc hm;have en:(cQ ((pcs.take (k+1)).flatMap B3)).length=(Gh (rcs.take (k+1))).length:=by
  rw[Pu,F2.flatMap (λa b hab=>hab.names) (h.take (k+1))]
 have et:(cQ ((pcs.take (k+1)).flatMap GX)).length=(EV (rcs.take (k+1))).length:=by
  rw[(RZ _).len,F2.flatMap (g:=λr=>(Mp r).map Dp) (λa b hab=>hab.zB) (h.take (k+1)),<-jA,S9 _ (λa b=>VU)]
 unfold UR B4 UJ;rw[hc.yS]at e1;rw[en,et,hc.yS,hc.unsaf,QM,hc.hp,hc.at_];generalize(Gh (rcs.take (k+1))).length=N;generalize(EV (rcs.take (k+1))).length=T;cases hcond:((decide (12<k+1)||decide (6<N)||decide (6<T))||(decide (2<r.head.args.length)||r.bl.any Br||decide (3<r.bl.length)))with
 |true=>
  rw[eI rfl];by_cases h1:12<=k\/3<r.bl.length
  .rw[eI h1]
  .rw[eE h1];by_cases h2:2<r.head.args.length
   .rw[eI h2]
   .rw[eE h2];by_cases h3:r.bl.any Br=true
    .rw[eI h3]
    .rw[eE h3];by_cases h4:6<N\/6<T
     .rw[eI h4]
     .exfalso
      simp only[gr,im]at hcond;simp only[not_or]at h1 h4;rcases hcond with((h|h)|h)|((h|h)|h)
      .omega
      .exact h4.1 h
      .exact h4.2 h
      .exact h2 h
      .exact h3 h
      .exact h1.2 h
 |false=>
  simp only[ix,ie]at hcond;obtain⟨⟨⟨c1,c2⟩,c3⟩,⟨c4,c5⟩,c6⟩:=hcond;rw[e1 (by simp only[c4,c5,c6,jr,jD]),TE];rw[eE (show¬(false=true) by simp),eE (show¬(12<=k\/3<r.bl.length) by omega),eE c4,eE (show¬(r.bl.any Br=true) by rw[c5];simp),eE (show¬(6<N\/6<T) by omega)];by_cases h5:Ox (GR rcs) r.head.name≠(r.head.args.length:Int)
  .rw[eI h5,eI h5]
  .rw[eE h5,eE h5];have e5:(r.bl.find? λq=>Oh q&&(Ox (GR rcs) q.1.A.name !=(q.1.A.args.length:Int)))=r.bl.find? (BB rcs):=by
    apply MJ;intro q _;unfold BB;rw[QM]
   rw[e5];cases r.bl.find? (BB rcs)with
   |some q=>rfl
   |none=>
    simp only[Option.map_none];by_cases h6:0<=Fz r.head r.bl<;>simp[h6]
def Vv{f:List Dq}{b:List A8}(h:F2 R3 f b):∀{l:List Dq} {m:List A8},F2 R3 l m->∀(k:Nat),(∀r∈m,r∈b)->Ny f k l=DZ b k m:=by
 intro l m i
 induction i using F2.ind with
 |nil=>intro k _;rfl
 |cons hc _ ih=>
  rename_i c r l m _;intro k e;have d:∀a∈Fb r,a.2∈GR b:=λa g=>fA.2 ⟨r,e r (by simp),eZ g⟩
  rw[Ny,DZ,X7 h hc d];cases hs:B4 b k r with
  |some x=>rfl
  |none=>exact ih (k+1) (λr d=>e r (by simp[d]))
def Vh{d:List Dq}{a:List A8}(h:F2 R3 d a){f:g0->g0->Bool}(i:∀x y,f x y=GK a x y):(NQ f d).map (λp=>((6:Int),p))=a.findSome? (Df a):=by
 unfold NQ;have g:∀{l:List Dq} {m:List A8},F2 R3 l m->(l.findSome? (Kc f)).map (λp=>((6:Int),p))=m.findSome? (Df a):=by
  intro l m j
  induction j using F2.ind with
  |nil=>rfl
  |cons hc _ ih=>
   rename_i c r l m _;rw[iQ,iQ];have e:(Kc f c).map (λp=>((6:Int),p))=Df a r:=by
    unfold Kc Df;rw[Option.map_map];refine F2.find (λp q b=>⟨?_,?_⟩) hc.lits
    .unfold Le En;rw[b.eq,i,hc.hn];simp only[LP,Y7]
    .simp only[Function.comp];rw[b.eq];rfl
   rw[<-e];cases Kc f c with
   |some p=>rfl
   |none=>exact ih
 exact g h
def VB{b:List Dq}{a:List A8}(h:F2 R3 b a){f:g0->g0->Bool}(c:∀x y,f x y=GK a x y):Qr f b=CM a:=by
 unfold Qr CM;rw[Vv h h 0 (λr d=>d),<-Vh h c];cases DZ a 0 a with
 |some r=>rfl
 |none=>
  simp only;cases NQ f b<;>rfl
