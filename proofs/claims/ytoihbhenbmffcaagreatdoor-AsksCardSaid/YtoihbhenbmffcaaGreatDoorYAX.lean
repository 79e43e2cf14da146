import Derived.Test.YtoihbhenbmffcaaGreatDoorYAW
set_option linter.all false
set_option maxHeartbeats 0
namespace Go.Proofs.YtoihbhenbmffcaaGreatDoor
open Go.RowKit Go.Proofs.Tryz
theorem Ej.setN{w:World}{b:Nat}{n m:Int}{a tv:Value}{d f:List cR}(h:Ej w b n a tv d f):Ej (w.setCell ⟨b,0,none⟩ (.int .i64 m)) b m a tv d f:=by
 have c:∀{e:TypeId} {g:Nat} {v:Value} {k:Nat} {i:List Value},w.ownsRow (b+1) e g v k i->v.ownBlock≠some b:=λh e=>by have:=(h.lt b e).1;omega
 exact⟨h.gA.set 0 _,Ag h.rn (p:=⟨b,0,none⟩) (c h.rn) _,Ag h.rt (p:=⟨b,0,none⟩) (c h.rt) _,h.ant,h.rin,h.rit⟩
theorem Qc{w:World}{v b u:Value}{base:Nat}{e:TypeId}{c k:Nat}{g:List Value}(i:w.ownsRow base e c u k g)(f:BP v u)(j:∀q,b.ownBlock=some q->v.ownBlock=some q\/w.heap.size<=q):BP b u:=λq d a=>by
 rcases j q d with h|h
 .exact f q h a
 .have:=(i.lt q a).2;omega
theorem Ej.names{w w':World}{b:Nat}{n:Int}{a tv:Value}{t r:List cR}(h:Ej w b n a tv t r){d:Value}{c:List cR}
  (l:Ac a.ownBlock.toList w w') (m:w'.ownsRow (b+1) 9 1 d c.length (c.flatMap Ae)) (z:∀q,d.ownBlock=some q->a.ownBlock=some q\/w.heap.size<=q) (u:Cy E2 c):
  Ej (w'.setCell ⟨b,1,none⟩ d) b n d tv c r/\w'.cell? ⟨b,1,none⟩=some a/\w'.frozen? ⟨b,1,none⟩=false:=by
 have g:∀{w:World} {e:TypeId} {s:Nat} {v:Value} {k:Nat} {x:List Value},w.ownsRow (b+1) e s v k x->v.ownBlock≠some b:=λh e=>by have:=(h.lt b e).1;omega
 have j:AE w' b [.int .i64 n,a,tv] 210:=h.gA.kept l (λf=>g h.rn (by simpa using f));have o:=Al h.rt l (λi y f=>h.ant i (by simpa using f) y);exact⟨⟨j.set 1 _,Ag m (p:=⟨b,1,none⟩) (g m) _,Ag o (p:=⟨b,1,none⟩) (g o) _,Qc h.rt h.ant z,u,h.rit⟩,j.cell 1,j.frozen 1⟩
theorem Ej.dc{w w':World}{b:Nat}{n:Int}{d tv:Value}{o y:List cR}(h:Ej w b n d tv o y){a:Value}{c:List cR}
  (l:Ac tv.ownBlock.toList w w') (m:w'.ownsRow (b+1) 170 1 a c.length (c.flatMap Ae)) (u:∀q,a.ownBlock=some q->tv.ownBlock=some q\/w.heap.size<=q) (t:Cy E2 c):
  Ej (w'.setCell ⟨b,2,none⟩ a) b n d a o c/\w'.cell? ⟨b,2,none⟩=some tv/\w'.frozen? ⟨b,2,none⟩=false:=by
 have g:∀{w:World} {e:TypeId} {s:Nat} {v:Value} {k:Nat} {x:List Value},w.ownsRow (b+1) e s v k x->v.ownBlock≠some b:=λh e=>by have:=(h.lt b e).1;omega
 have j:AE w' b [.int .i64 n,d,tv] 210:=h.gA.kept l (λf=>g h.rt (by simpa using f));have r:=Al h.rn l (λi z f=>h.ant i z (by simpa using f));exact⟨⟨j.set 2 _,Ag r (p:=⟨b,2,none⟩) (g r) _,Ag m (p:=⟨b,2,none⟩) (g m) _,(Qc h.rn h.ant.symm u).symm,h.rin,t⟩,j.cell 2,j.frozen 2⟩
theorem Ej.zG{w:World}{b:Nat}{n:Int}{c tv:Value}{e d:List cR}(h:Ej w b n c tv e d):(∀i,i∈c.ownBlock.toList->b<=i)/\(∀i,i∈tv.ownBlock.toList->b<=i):=
 ⟨λi a=>by have:=(h.rn.lt i (by simpa using a)).1;omega,λi a=>by have:=(h.rt.lt i (by simpa using a)).1;omega⟩
theorem Vg.drew{b:Nat}{u w:World}(h:Vg b u w):Vg b u w.drew:=⟨h.os,h.tape,h.output,h.size,h.block⟩
theorem Ej.drew{w:World}{b:Nat}{n:Int}{a tv:Value}{d c:List cR}(h:Ej w b n a tv d c):Ej w.drew b n a tv d c:=h.kept (Ac.refl [] w).drew
structure ZU(M:List Nat)(b N:Nat)(cs:List Value)(u w':World)(i:Nat)(old new:Value)(n:Int)(nv tv:Value)(names dc:List cR):Prop where
 cell:w'.cell? ⟨b,i,none⟩=some old
 frozen:w'.frozen? ⟨b,i,none⟩=false
 cen:Ej (w'.setCell ⟨b,i,none⟩ new) b n nv tv names dc
 low:Ac M u (w'.setCell ⟨b,i,none⟩ new)
 box:AE (w'.setCell ⟨b,i,none⟩ new) N cs 189
def Em(ts:List A3)(l l':List cR):Prop:=∀y,y∈l'↔(∃t∈ts,t.v=0/\t.s=y)\/y∈l
structure Ic(base:Nat)(lv:Value)(l:List cR)(ts:List A3)(w:World)(l':List cR)(ad':Option Addr)(cp':Nat)(w':World):Prop where
 en:Cy E2 l'
 mem:Em ts l l'
 le:l'.length<=l.length+ts.length
 own:w'.ownsRow base 170 1 (.slice ad' l'.length cp') l'.length (l'.flatMap Ae)
 kept:Ac lv.ownBlock.toList w w'
 new:∀k,(Value.slice ad' l'.length cp').ownBlock=some k->lv.ownBlock=some k\/w.heap.size<=k
theorem Em.skip{l d:List cR}{c:List A3}{k:Nat}(e:k<c.length)(f:c[k].v≠0)(h:Em (c.take k) l d):Em (c.take (k+1)) l d:=by
 intro y;rw[h y,bM e];constructor
 .rintro (⟨t,a,b⟩|a)
  .exact Or.inl ⟨t,ep _ a,b⟩
  .exact Or.inr a
 .rintro (⟨t,a,b⟩|a)
  .rcases bY.1 a with a|a
   .exact Or.inl ⟨t,a,b⟩
   .simp only[bO]at a;subst a;exact absurd b.1 f
  .exact Or.inr a
theorem Em.take{l d e:List cR}{b:List A3}{k:Nat}(f:k<b.length)(i:b[k].v=0)(h:Em (b.take k) l d)(g:∀y,y∈e↔y=b[k].s\/y∈d):Em (b.take (k+1)) l e:=by
 intro y;rw[g,h y,bM f];constructor
 .rintro (a|⟨t,a,c⟩|a)
  .exact Or.inl ⟨b[k],List.mem_append_right _ (bO.2 rfl),i,a.symm⟩
  .exact Or.inl ⟨t,ep _ a,c⟩
  .exact Or.inr a
 .rintro (⟨t,a,c⟩|a)
  .rcases bY.1 a with a|a
   .exact Or.inr (Or.inl ⟨t,a,c⟩)
   .simp only[bO]at a;subst a;exact Or.inl c.2.symm
  .exact Or.inr (Or.inr a)
set_option maxRecDepth 100000
theorem Pm(c:C0)(d:Option Addr)(cap:Nat)(l:List cR)(base:Nat)(w:World)(h:IP w 0 c.hv c.bv c.eB c.db)(V:NF c)(hT:(Bn c).length<=90000)
  (Z:w.ownsRow base 170 1 (.slice d l.length cap) l.length (l.flatMap Ae)) (FP:l.length<=900000) (hr:Cy E2 l) (Go:base<=w.heap.size):
  Calls prog 148 #[.slice d l.length cap,.agg (A9 c).toArray] w λe w'=>∃l' Ax X,e=.returned (.slice Ax l'.length X)/\Ic base (.slice d l.length cap) l (Bn c) w l' Ax X w':=by
 have z:=Ab (Ow c (w.alloc (.cells (A9 c).toArray 189)) (h.kept ((Ac.refl [] w).alloc _) (by simp)) V);generalize Bn c=TV at z hT⊢;obtain⟨hp,hn,HM,M,bv,HN⟩:=c;simp only at h;obtain⟨HF,HA,rfl⟩:=Aj h.head;obtain⟨FW,HP,rfl⟩:=Aj h.body.row;have HL:=Ab Z;have FC:=Ab hr;clear h Z hr V;simp only[A9]at z⊢;go_enter func148,ntmps148;go_wp2_with fail
 refine(Aa z).mono ?_;rintro e n ⟨B9,S,rfl,N,L⟩;have F:Hid (Ac [] w n):=((Ac.refl [] w).alloc _).trans L;have HI:w.heap.size+1<=n.heap.size:=by have:=L.size;simpa using this
 have Y:=Ab (Ak N (show w.heap.size<=_ by simp));clear z N L;go_wp2
 go_loopg [0,10] TV.length (λgk o i wr=>∃(k:Nat) (m:List cR) (b:Option Addr) (f:Nat),o=.slice b m.length f/\i=.int .i64 k/\k<=TV.length/\gk=TV.length-k/\m.length<=l.length+k/\Hid (Ic base (.slice d l.length cap) l (TV.take k) w m b f wr)/\Hid (wr.ownsRow w.heap.size 215 2 (.slice B9 TV.length S) TV.length (TV.flatMap Ao))/\Hid (∀q,(Value.slice b m.length f).ownBlock=some q->(Value.slice d l.length cap).ownBlock=some q\/n.heap.size<=q)/\n.heap.size<=wr.heap.size)
 case atStart=>exact⟨0,l,d,cap,rfl,rfl,by omega,rfl,by omega,⟨Aa FC,λy=>by simp,by omega,Ad (Aa HL) (Aa F) (by simp),(Aa F).mono (by simp),λk O=>Or.inl O⟩,Y,λq p=>Or.inl p,by omega⟩
 case round=>
  clear F;obtain⟨k,m,b,f,rfl,rfl,O,T,HJ,j,r,x,FO⟩:=hrel;have P:=Ab T;clear T;by_cases A:k<TV.length
  .obtain⟨g,HH,he,d0,d1⟩:=Eu (Aa r) k A;simp only[bK]at he;obtain⟨rfl,_,rfl⟩:=he;have K:Ac [] wr (wr.alloc (.cells [.int .i32 TV[k].v,.string TV[k].s].toArray 215)):=(Ac.refl [] wr).alloc _;have W:=Ab (Ad (Aa r) K (by simp));(have Q:n.heap.size<=(wr.alloc (.cells [.int .i32 TV[k].v,.string TV[k].s].toArray 215)).heap.size:=by simp;omega);cases M:(TV[k].v==0)with
   |false=>
    (have t:TV[k].v≠0:=by simpa using M);have J:Hid (Ic base (.slice d l.length cap) l (TV.take (k+1)) w m b f (wr.alloc (.cells [.int .i32 TV[k].v,.string TV[k].s].toArray 215))):=by
     have a:=Aa j;refine⟨a.en,a.mem.skip A t,?_,bQ a.own _,a.kept.alloc _,a.new⟩;have:=a.le;simp only[cM]at this⊢;omega
    clear j r K t;go_wp2
    go_roundg (TV.length-(k+1))
    case measure=>have:=Aa P;omega
    case rel=>exact⟨k+1,m,b,f,rfl,by go_num,by omega,rfl,by omega,J,W,x,Q⟩
   |true=>
    (have t:TV[k].v=0:=by simpa using M);have HZ:=Ab t;have Bx:=Ab (Tn b f m TV[k].s base (wr.alloc (.cells [.int .i32 TV[k].v,.string TV[k].s].toArray 215)) (bQ (Aa j).own _) (by omega) (Aa j).en (by simp;omega));clear t K;(go_wp2_with fail);refine(Aa Bx).mono ?_;rintro e u ⟨I,C,E,rfl,R,q2,q3,q4,U,D,B⟩;have G:Ac (Value.slice b m.length f).ownBlock.toList wr u:=((Ac.refl _ wr).alloc _).trans D;(have HB:wr.heap.size+1<=u.heap.size:=by have:=D.size;simpa using this);have J:Hid (Ic base (.slice d l.length cap) l (TV.take (k+1)) w I C E u):=by
     have a:=Aa j;refine⟨R,a.mem.take A (Aa HZ) q2,?_,U,a.kept.trans' G (λi H=>?_),λq p=>?_⟩
     .have:=a.le;simp only[cM]at this⊢;omega
     .rcases a.new i (by simpa using H)with h|h
      .exact Or.inl (by simp[h])
      .exact Or.inr h
     .rcases B q p with h|h
      .exact a.new q h
      .exact Or.inr (by have:=a.kept.size;simp at h;omega)
    have FA:Hid (u.ownsRow w.heap.size 215 2 (.slice (some ⟨g,0,none⟩) TV.length S) TV.length (TV.flatMap Ao)):=by
     refine Al (Aa r) G (λi H hm=>?_);have h1:=((Aa Y).lt i H);rcases Aa x i (by simpa using hm)with h|h
     .have:=((Aa HL).lt i h).2;omega
     .omega
    have ES:Hid (∀q,(Value.slice C I.length E).ownBlock=some q->(Value.slice d l.length cap).ownBlock=some q\/n.heap.size<=q):=by
     intro q p;rcases B q p with h|h
     .exact Aa x q h
     .exact Or.inr (by simp at h;omega)
    clear Bx R q2 q3 U D B G j r W Q x d0 d1;go_wp2
    go_roundg (TV.length-(k+1))
    case measure=>have:=Aa P;omega
    case rel=>exact⟨k+1,I,C,E,rfl,by go_num,by omega,rfl,by omega,J,FA,ES,by omega⟩
  .have HE:Hid (Ic base (.slice d l.length cap) l TV w m b f wr):=by
    have h:=Aa j;rw[bP (by omega)]at h;exact h
   go_wp2;go_ret;exact⟨m,b,f,rfl,Aa HE⟩
theorem WQ(b:Nat)(n:Nat)(nv tv:Value)(r q:List cR)(c:C0)(w:World)(h:Ej w b n nv tv r q)(X:Zd w b c)(hf:NF c)(hT:(Bn c).length<=90000)(hn:n<=1000)(H4:r.length<=800000)(IA:q.length<=800000):
  Calls prog 116 #[.pointer (some ⟨b,0,none⟩),.agg (A9 c).toArray] w λe g=>e=.returned (.tuple #[])/\∃HS HV FO EY,Ej g b ((n+1:Nat):Int) HS HV FO EY/\(∀y,y∈FO↔y∈BR c\/y∈r)/\Em (Bn c) q EY/\FO.length<=r.length+1001/\EY.length<=q.length+90000/\Ac (b::(nv.ownBlock.toList++tv.ownBlock.toList)) w g:=by
 have H7:=h.gA.lt;obtain⟨P,O,rfl⟩:=Aj h.rn;obtain⟨I,G,rfl⟩:=Aj h.rt;obtain⟨M,AT⟩:∃M,b::((Value.slice P r.length O).ownBlock.toList++(Value.slice I q.length G).ownBlock.toList)=M:=⟨_,rfl⟩;rw[AT];have Q:Hid (b∈M/\(∀i,i∈(Value.slice P r.length O).ownBlock.toList->i∈M)/\(∀i,i∈(Value.slice I q.length G).ownBlock.toList->i∈M)):=by
  rw[<-AT];exact⟨by simp,λi f=>by simp only[bS,bY];exact Or.inr (Or.inl f),λi f=>by simp only[bS,bY];exact Or.inr (Or.inr f)⟩
 have HJ:Hid (∀wr,Ac M w wr->Vg b w wr):=by
  intro wr R;refine Vg.of R (by omega) (λi f=>?_);rw[<-AT]at f;simp only[bS,bY]at f;rcases f with f|f|f
  .omega
  .exact h.zG.1 i f
  .exact h.zG.2 i f
 clear AT;have W:Hid (∀wr A C l,Vg b w wr->wr.ownsRow (b+1) 170 1 (.slice A l.length C) l.length (l.flatMap Ae)->l.length<=900000->Cy E2 l->b+1<=wr.heap.size->Calls prog 148 #[.slice A l.length C,.agg (A9 c).toArray] wr λe g=>∃a k j,e=.returned (.slice k a.length j)/\Ic (b+1) (.slice A l.length C) l (Bn c) wr a k j g):=λwr A C l R h1 S h3 h4=>Pm c A C l (b+1) wr (X.low R).at_ hf hT h1 S h3 h4
 have EK:Hid (∀wr A C l,Vg b w wr->wr.ownsRow (b+1) 9 1 (.slice A l.length C) l.length (l.flatMap Ae)->l.length<=900000->Cy E2 l->b+1<=wr.heap.size->Calls prog 164 #[.slice A l.length C,.agg (A9 c).toArray] wr λe g=>∃a k j,e=.returned (.slice k a.length j)/\L4 (b+1) (.slice A l.length C) l (BR c) wr a k j g):=λwr A C l R h1 S h3 h4=>KZ c A C l (b+1) wr (X.low R).at_ hf.lits h1 S h3 h4
 have HF:Hid ((BR c).length<=1001):=by
  show _<=_;have:=hf.lits;have S:=dw (λp=>A6 p.1) c.db;simp only[BR,Fz,bU,bX];omega
 generalize Bn c=TV at W hT⊢;generalize BR c=NV at EK HF⊢;obtain⟨D,v,B,hv,bv,t⟩:=c;have B9:=X.at_;clear X hf;simp only at B9;obtain⟨E,s,rfl⟩:=Aj B9.head;obtain⟨z,x,rfl⟩:=Aj B9.body.row;clear B9;simp only[A9]at W EK⊢;have c0:=h.gA.cell 0;have cf:=h.gA.frozen;have d0:=λo=>(h.gA.alloc o).cell 0
 have df:=λo=>(h.gA.alloc o).frozen
 simp at c0 d0;have q1:¬b=w.heap.size:=by omega
 have q2:¬w.heap.size=b:=by omega
 have Z:=Ab h;clear h;go_enter func116,ntmps116;go_wp2_with fail
 obtain⟨N,T⟩:∃N,w.heap.size=N:=⟨_,rfl⟩;have H6:b<N:=by omega
 have H:Hid (AE ((w.setCell ⟨b,0,none⟩ (.int .i64 ((n:Int)+1))).alloc (.cells [.int .i64 D,.string v,.slice E B.length s,.slice z t.length x].toArray 189)) N [.int .i64 D,.string v,.slice E B.length s,.slice z t.length x] 189):=by
  have hh:=AE.new (w.setCell ⟨b,0,none⟩ (.int .i64 ((n:Int)+1))) [.int .i64 D,.string v,.slice E B.length s,.slice z t.length x] 189;rw[show(w.setCell ⟨b,0,none⟩ (.int .i64 ((n:Int)+1))).heap.size=N from by simp[T]]at hh
  exact hh
 have F:=Ab (((Aa Z).setN (m:=(n:Int)+1)).kept ((Ac.refl [] _).alloc (.cells [.int .i64 D,.string v,.slice E B.length s,.slice z t.length x].toArray 189)));have AO:Hid (Ac M w ((w.setCell ⟨b,0,none⟩ (.int .i64 ((n:Int)+1))).alloc (.cells [.int .i64 D,.string v,.slice E B.length s,.slice z t.length x].toArray 189))):=((Ac.refl M w).setCell (p:=⟨b,0,none⟩) (Or.inl (Aa Q).1) _).alloc _;have HT:Hid ((Value.slice P r.length O).ownBlock≠some N/\(Value.slice I q.length G).ownBlock≠some N):=⟨λe=>by have:=((Aa Z).rn.lt _ e).2;omega,λe=>by have:=((Aa Z).rt.lt _ e).2;omega⟩;have HY:N+1<=((w.setCell ⟨b,0,none⟩ (.int .i64 ((n:Int)+1))).alloc (.cells [.int .i64 D,.string v,.slice E B.length s,.slice z t.length x].toArray 189)).heap.size:=by simp[T]
 clear c0 cf d0 df q1 q2 Z;change Code.wp _ _ _ _ ((w.setCell ⟨b,0,none⟩ (.int .i64 ((n:Int)+1))).alloc (.cells [.int .i64 D,.string v,.slice E B.length s,.slice z t.length x].toArray 189));generalize(w.setCell ⟨b,0,none⟩ (.int .i64 ((n:Int)+1))).alloc (.cells [.int .i64 D,.string v,.slice E B.length s,.slice z t.length x].toArray 189)=w1 at H F AO HY⊢;rw[T];have H9:=Ab T;clear T;have HM:Hid (Calls prog 164 #[.slice P r.length O,.agg #[.int .i64 D,.string v,.slice E B.length s,.slice z t.length x]] w1.drew λe g=>∃a k j,e=.returned (.slice k a.length j)/\ZU M b N [.int .i64 D,.string v,.slice E B.length s,.slice z t.length x] w g 1 (.slice P r.length O) (.slice k a.length j) ((n:Int)+1) (.slice k a.length j) (.slice I q.length G) a q/\(∀y,y∈a↔y∈NV\/y∈r)/\a.length<=r.length+1001/\N+1<=g.heap.size):=by
  refine(Aa EK w1.drew P O r (Aa HJ _ (Aa AO).drew) (Aa F).drew.rn (by omega) (Aa F).rin (by show b+1<=w1.heap.size;omega)).mono ?_;rintro e g ⟨a,k,j,rfl,d⟩;obtain⟨FC,FF,FW⟩:=(Aa F).drew.names d.kept d.own d.new d.en;have H3:=(Aa F).drew.zG.1;refine⟨a,k,j,rfl,⟨FF,FW,FC,?_,?_⟩,d.mem,by have:=d.le;have:=Aa HF;omega,by have:=d.kept.size;have S:w1.drew.heap.size=w1.heap.size:=rfl;omega⟩
  .exact((Aa AO).drew.trans' d.kept (λi f=>Or.inl ((Aa Q).2.1 i f))).setCell (p:=⟨b,1,none⟩) (Or.inl (Aa Q).1) _
  .exact((Aa H).drew.kept d.kept (λhm=>(Aa HT).1 (by simpa using hm))).dT ⟨b,1,none⟩ (by simp;omega) _
 have e1:=(Aa F).gA.cell 1;have V:=(Aa H).cell 0;have Y:=(Aa H).cell 1;have b2:=(Aa H).cell 2;have U:=(Aa H).cell 3;simp at e1 V Y b2 U;clear EK F AO H
 go_region_law
  (go_simp;go_at_call 164;refine(Aa HM).mono ?_;rintro e wt ⟨a,k,j,rfl,Ax,HG,HN,HO⟩;have HH:=Ax.cell;have HC:=Ax.frozen;have EX:=Ab Ax;clear Ax)
 all_goals
  have AH:=Ab (Aa EX).cen;have BA:=Ab (Aa EX).low;have L:=Ab (Aa EX).box;have HR:N+1<=(wt.setCell ⟨b,1,none⟩ (.slice k a.length j)).heap.size:=by simp;omega
  have HP:=Ab HG;clear EX HH HC HM HG e1 V Y b2 U HO;generalize wt.setCell ⟨b,1,none⟩ (.slice k a.length j)=w2 at AH BA L HR⊢;have V:=(Aa L).cell 0;have Y:=(Aa L).cell 1;have b2:=(Aa L).cell 2;have U:=(Aa L).cell 3;simp at V Y b2 U;have e2:=(Aa AH).gA.cell 2;simp at e2;have HI:Hid (Calls prog 148 #[.slice I q.length G,.agg #[.int .i64 D,.string v,.slice E B.length s,.slice z t.length x]] w2.drew λe g=>∃u K J,e=.returned (.slice K u.length J)/\g.cell? ⟨b,2,none⟩=some (.slice I q.length G)/\g.frozen? ⟨b,2,none⟩=false/\Ej (g.setCell ⟨b,2,none⟩ (.slice K u.length J)) b ((n:Int)+1) (.slice k a.length j) (.slice K u.length J) a u/\Em TV q u/\u.length<=q.length+90000/\Ac M w (g.setCell ⟨b,2,none⟩ (.slice K u.length J))):=by
   have FL:=(Aa AH).drew;refine(Aa W w2.drew I G q (Aa HJ _ (Aa BA).drew) FL.rt (by omega) FL.rit (by show b+1<=w2.heap.size;omega)).mono ?_;rintro e g ⟨u,K,J,rfl,d⟩;obtain⟨FC,FF,FW⟩:=FL.dc d.kept d.own d.new d.en;refine⟨u,K,J,rfl,FF,FW,FC,d.mem,by have:=d.le;omega,?_⟩;exact((Aa BA).drew.trans' d.kept (λi f=>Or.inl ((Aa Q).2.2 i f))).setCell (p:=⟨b,2,none⟩) (Or.inl (Aa Q).1) _
  clear W AH BA L;go_wp2_with fail
  go_region_law
   (go_simp;go_at_call 148;refine(Aa HI).mono ?_;rintro e Ix ⟨u,K,J,rfl,HH,HC,r1,r2,r3,r4⟩;have HQ:=Ab (And.intro r1 (And.intro r2 (And.intro r3 r4)));clear r1 r2 r3 r4)
  all_goals
   clear HI;(go_wp2_with fail);go_end0;obtain⟨r1,r2,r3,r4⟩:=Aa HQ;exact⟨rfl,_,_,a,u,r1,Aa HP,r2,HN,r3,r4⟩
def ZY(cs:List C0)(S:cR->Prop):Prop:=∀c∈cs,S c.hn->∀y∈BR c,S y
def Hh(cs:List C0)(x y:cR):Prop:=∀S:cR->Prop,S x->ZY cs S->S y
structure Vk(cs:List C0)(x:cR)(l:List cR):Prop where
 en:Cy E2 l
 iff:∀y,y∈l↔Hh cs x y
theorem Lq{α:Type} [DecidableEq α]:∀(l b:List α),l.Nodup->(∀y∈l,y∈b)->l.length<=b.length
 |[],_,_,_=>b8 _
 |a::t,b,hn,hs=>by
  rw[dN]at hn;have c:a∈b:=hs a (by simp);have ih:=Lq t (b.erase a) hn.2 (λy d=>(List.mem_erase_of_ne (λe=>hn.1 (by rw[<-e];exact d))).2 (hs y (by simp[d])));have g:=List.length_erase_of_mem c;have f:0<b.length:=List.length_pos_of_mem c;simp only[bU];omega
theorem SI{l a:List cR}(d:Cy E2 l)(e:∀y∈l,y∈a)(f:a.length=l.length):∀y∈a,y∈l:=by
 intro y c;by_cases h:y∈l
 .exact h
 .have:=Lq (y::l) a (dN.2 ⟨h,d.nodup F0⟩) (λz b=>by
   rcases bS.1 b with rfl|b
   .exact c
   .exact e z b)
  simp only[bU]at this;omega
theorem SA(Go:Option Addr)(FA:Nat)(cs:List C0)(x:cR)(w:World)(h:C9 w (.slice Go cs.length FA) cs)(IA:cs.length<=1000)(hf:∀c∈cs,c.db.length<=1000)(hU:(cs.flatMap BR).length<=800000):
  Calls prog 122 #[.slice Go cs.length FA,.string x] w λe w'=>∃l t u,e=.returned (.slice t l.length u)/\Vk cs x l/\l.length<=800001/\w'.ownsRow w.heap.size 9 1 (.slice t l.length u) l.length (l.flatMap Ae)/\Ac [] w w':=by
 have HP:=Ab h;have H7:=Ab hf;clear h hf;have FP:Hid (∀l:List cR,Cy E2 l->(∀y∈l,Hh cs x y)->l.length<=1+(cs.flatMap BR).length):=by
  intro l hr hs;have:=Lq l (x::cs.flatMap BR) (hr.nodup F0) (λy b=>by
   refine hs y b (λz=>z∈x::cs.flatMap BR) (by simp) (λc a _ z R=>?_)
   exact cF _ (cO.2 ⟨c,a,R⟩))
  simp only[bU]at this;omega
 obtain⟨U,FC⟩:∃U,(cs.flatMap BR).length=U:=⟨_,rfl⟩;rw[FC]at hU FP;clear FC;have ES:(w.alloc (.cells [.string x].toArray 9)).ownsRow w.heap.size 9 1 (.slice (some ⟨w.heap.size,0,none⟩) 1 1) 1 ([x].flatMap Ae):=⟨rfl,Or.inr ⟨w.heap.size,1,_,rfl,bZ _,AE.new w [.string x] 9,bZ _,by unfold maxLen;omega,rfl,rfl⟩⟩;have BA:=(Ac.refl [] w).alloc (.cells [.string x].toArray 9);have Q:=Ab ES;have Y:=Ab BA;clear ES BA;go_enter func122,ntmps122;go_wp2;change Code.wp _ _ _ _ (w.alloc (.cells [.string x].toArray 9));generalize w.alloc (.cells [.string x].toArray 9)=w1 at Q Y⊢
 go_loopg [5] (U+2-1) (λgk o wr=>∃(l:List cR) (t:Option Addr) (u:Nat),o=.slice t l.length u/\gk=U+2-l.length/\l.length<=U+1/\Hid (Cy E2 l)/\Hid (x∈l)/\Hid (∀y∈l,Hh cs x y)/\Hid (wr.ownsRow w.heap.size 9 1 (.slice t l.length u) l.length (l.flatMap Ae))/\Hid (Ac [] w wr))
 case atStart=>exact⟨[x],_,_,rfl,rfl,by simp,λi j X hj KD=>by simp at X hj;omega,by simp[Hid],λy b S K h2=>by simp at b;subst b;exact K,Q,Y⟩
 case round=>
  clear Q Y;obtain⟨l,t,u,rfl,FO,HC,HY,HX,HZ,HA,HK⟩:=hrel;have HG:=Ab FO;clear FO;go_wp2
  go_loopg [5,15] cs.length (λH5 o i AH=>∃(k:Nat) (m:List cR) (s:Option Addr) (r:Nat),o=.slice s m.length r/\i=.int .i64 k/\k<=cs.length/\H5=cs.length-k/\l.length<=m.length/\m.length<=U+1/\Hid (Cy E2 m)/\Hid (∀y∈l,y∈m)/\Hid (∀y∈m,Hh cs x y)/\Hid (m.length=l.length->∀c∈cs.take k,c.hn∈m->∀y∈BR c,y∈m)/\Hid (AH.ownsRow w.heap.size 9 1 (.slice s m.length r) m.length (m.flatMap Ae))/\Hid (Ac [] w AH))
  case atStart=>exact⟨0,l,t,u,rfl,rfl,by omega,rfl,by omega,HC,HY,λy b=>b,HZ,λ_ c a=>by simp at a,HA,HK⟩
  case round=>
   obtain⟨k,m,s,r,rfl,rfl,hk,BT,HL,CL,A,I,C,L,O,J⟩:=hrel;have EK:=Ab BT;clear BT;by_cases H:k<cs.length
   .have V:=(Aa HP).kept (Aa J);obtain⟨g,K5,F,d,p,G,B,E,D,n,he,N,d0,d1,d2,d3⟩:=F5 V k H;simp only[bK]at he;obtain⟨rfl,_,rfl⟩:=he;have K1:=(Aa J).size;have AT:=Ab (V.each _ (bL H));have Z:=Aa H7 _ (bL H);have AO:Hid (∀c,c∈cs.take (k+1)↔c∈cs.take k\/c=⟨F,d,p,.slice G p.length B,.slice E n.length D,n⟩):=by
     intro c;rw[bM H,N,bY,bO]
    (have H4:Hid ((⟨F,d,p,.slice G p.length B,.slice E n.length D,n⟩:C0)∈cs):=by rw[<-N];exact bL H);rw[N]at AT Z;simp only at Z;clear V N;have W:=Ab ((Aa J).alloc (.cells [.int .i64 F,.string d,.slice G p.length B,.slice E n.length D].toArray 189));have M:=Ab (bQ (Aa O) (.cells [.int .i64 F,.string d,.slice G p.length B,.slice E n.length D].toArray 189));have FW:=Ab (QB s r m d w.heap.size _ (Aa M) (by omega) (Aa A));(go_wp2_with fail);refine(Aa FW).mono ?_;rintro e w4 ⟨rfl,HB⟩;subst HB;clear FW;cases hh:V2 m d with
    |false=>
     have Ax:Hid (m.length=l.length->∀c∈cs.take (k+1),c.hn∈m->∀y∈BR c,y∈m):=by
      intro hl c a v;rcases(Aa AO c).1 a with a|a
      .exact Aa L hl c a v
      .subst a;simp only at v;rw[(Js m d).2 v]at hh;cases hh
     clear hh L;go_wp2
     go_roundg (cs.length-(k+1))
     case measure=>have:=Aa EK;omega
     case rel=>exact⟨k+1,m,s,r,rfl,by go_num,by omega,rfl,HL,CL,A,I,C,Ax,M,W⟩
    |true=>
     have CC:Hid (d∈m):=(Js m d).1 hh;have AB:=Ab (KZ ⟨F,d,p,.slice G p.length B,.slice E n.length D,n⟩ s r m w.heap.size (wr.alloc (.cells [.int .i64 F,.string d,.slice G p.length B,.slice E n.length D].toArray 189)) ((Aa AT).kept ((Ac.refl [] wr).alloc _) (by simp)) Z (Aa M) (by omega) (Aa A) (by simp;omega));simp only[A9]at AB;clear hh;(go_wp2_with fail);refine(Aa AB).mono ?_;rintro e w5 ⟨q,H0,HU,rfl,f⟩;have Bx:Ac [] w w5:=(Aa W).trans' f.kept (λi X=>Or.inr (((Aa M).lt i (by simpa using X)).1));have T:∀y∈q,Hh cs x y:=by
      intro y b;rcases(f.mem y).1 b with K|K
      .intro S hS hC;exact hC _ (Aa H4) (Aa C _ (Aa CC) S hS hC) y K
      .exact Aa C y K
     (have P:∀y∈m,y∈q:=λy b=>(f.mem y).2 (Or.inr b));have Ax:Hid (q.length=l.length->∀c∈cs.take (k+1),c.hn∈q->∀y∈BR c,y∈q):=by
      intro hl c a v y b;have K4:=f.ge;have HV:=SI (Aa A) P (by omega);rcases(Aa AO c).1 a with a|a
      .exact P y (Aa L (by omega) c a (HV _ v) y b)
      .subst a;exact(f.mem y).2 (Or.inl b)
     (have HD:l.length<=q.length:=by have:=f.ge;omega);have JA:=Aa FP q f.en T;have HM:=Ab T;(have HI:Hid (∀y∈l,y∈q):=λy b=>P y (Aa I y b));have H2:=Ab f.en;have HH:=Ab f.own;have HW:=Ab Bx;clear AB f Bx T P L C I A O M W CC;go_wp2
     go_roundg (cs.length-(k+1))
     case measure=>have:=Aa EK;omega
     case rel=>exact⟨k+1,q,H0,HU,rfl,by go_num,by omega,rfl,HD,by omega,H2,HI,HM,Ax,HH,HW⟩
   .by_cases HN:m.length=l.length
    .have HE:Hid (Vk cs x m):=by
      refine⟨Aa A,λy=>⟨Aa C y,λb=>?_⟩⟩;refine b (λz=>z∈m) (Aa I x (Aa HX)) (λc a v z R=>?_);have h:=Aa L HN;rw[bP (by omega)]at h;exact h c a v z R
     (have HT:(m.length:Int)=(l.length:Int):=by omega);go_wp2;go_ret;exact⟨m,s,r,rfl,Aa HE,by omega,Aa O,Aa J⟩
    ·(have HT:¬(m.length:Int)=(l.length:Int):=by omega);have H1:Hid (x∈m):=Aa I x (Aa HX);go_wp2
     go_roundg (U+2-m.length)
     case measure=>have:=Aa HG;omega
     case rel=>exact⟨m,s,r,rfl,rfl,CL,A,H1,C,O,J⟩
def Ky(f:cR->cR->Bool)(hn:cR)(p:JF):Bool:=p.1.sort==1&&f p.1.an hn
def JE(f:cR->cR->Bool)(c:C0):Option Int:=(c.db.find? (Ky f c.hn)).map λp=>p.1.place
def MZ(f:cR->cR->Bool)(cs:List C0):Option Int:=cs.findSome? (JE f)
theorem Pq{α β:Type}(f:α->Option β)(l:List α)(k:Nat)(a:k<l.length)(h:∀c∈l.take k,f c=none){b:β}(d:f l[k]=some b):l.findSome? f=some b:=by
 conv=>lhs;rw[<-dl k l]
 rw[fO];have:(l.take k).findSome? f=none:=by rw[fo];exact h
 rw[this,ci a,fa,d];rfl
theorem Rc(f:cR->cR->Bool)(HM:Option Addr)(Ha:Nat)(cs:List C0)(EX:∀x y,f x y=true↔Hh cs x y)(w:World)(h:C9 w (.slice HM cs.length Ha) cs)(HR:cs.length<=1000)(hf:∀c∈cs,c.db.length<=1000)(hU:(cs.flatMap BR).length<=800000):
  Calls prog 73 #[.slice HM cs.length Ha] w λe d=>e=.returned (Bv (MZ f cs))/\Ac [] w d:=by
 have HP:=Ab h;have HL:=Ab hf;have FO:=Ab EX;clear h hf EX;obtain⟨R,hR⟩:∃R,MZ f cs=R:=⟨_,rfl⟩;rw[hR];have HI:=Ab hR;clear hR;go_enter func73,ntmps73;go_wp2
 go_loopg [10] cs.length (λgk i wr=>∃(k:Nat),i=.int .i64 k/\k<=cs.length/\gk=cs.length-k/\Hid (∀c∈cs.take k,JE f c=none)/\Hid (Ac [] w wr))
 case atStart=>exact⟨0,rfl,by omega,rfl,λc t=>by simp at t,Ac.refl _ _⟩
 case round=>
  obtain⟨k,rfl,hk,HF,HC,D⟩:=hrel;have HG:=Ab HF;clear HF;by_cases J:k<cs.length
  .have Y:=(Aa HP).kept (Aa D);obtain⟨g,LE,A,a,n,B,o,z,u,b,he,O,d0,d1,d2,d3⟩:=F5 Y k J;simp only[bK]at he;obtain⟨rfl,_,rfl⟩:=he;have Q:=Ab (Y.each _ (bL J)).body;have FW:=Aa HL _ (bL J);have Jx:Hid (∀p,JE f ⟨A,a,n,.slice B n.length o,.slice z b.length u,b⟩=some p->R=some p):=by
    intro p HQ;rw[<-Aa HI];exact Pq _ _ k J (Aa HC) (by rw[O];exact HQ)
   have H2:Hid (JE f ⟨A,a,n,.slice B n.length o,.slice z b.length u,b⟩=none->∀c∈cs.take (k+1),JE f c=none):=by
    intro HV c t;rw[bM J,O,bY,bO]at t;rcases t with t|t
    .exact Aa HC c t
    .rw[t];exact HV
   rw[O]at Q FW;simp only at FW Q;clear Y O;have W:=Ab ((Aa D).alloc (.cells [.int .i64 A,.string a,.slice B n.length o,.slice z b.length u].toArray 189));have HH:=Ab ((Ac.refl [] wr).alloc (.cells [.int .i64 A,.string a,.slice B n.length o,.slice z b.length u].toArray 189));have P:=Ab (AE.new wr [.int .i64 A,.string a,.slice B n.length o,.slice z b.length u] 189);go_wp2;change Code.wp _ _ _ _ (wr.alloc (.cells [.int .i64 A,.string a,.slice B n.length o,.slice z b.length u].toArray 189));have FP:=Ab ((Aa Q).kept (Aa HH) (by simp));generalize wr.alloc (.cells [.int .i64 A,.string a,.slice B n.length o,.slice z b.length u].toArray 189)=w1 at W P FP⊢;generalize wr.heap.size=N at P⊢;clear HH Q D d0 d1 d2 d3
   go_loopg [17] b.length (λgk i wr=>∃(j:Nat),i=.int .i64 j/\j<=b.length/\gk=b.length-j/\Hid ((b.take j).any (Ky f a)=false)/\Hid (Ac [] w wr)/\Hid (Ac [] w1 wr))
   case atStart=>exact⟨0,rfl,by omega,rfl,by show _=_;simp,W,Ac.refl _ _⟩
   case round=>
    clear W;obtain⟨j,rfl,hj,EK,HJ,D,EY⟩:=hrel;have FL:=Ab EK;clear EK;by_cases AB:j<b.length
    .obtain⟨g2,LL,q,C,G,FF,M,KD,e0,e1,e2,e3,e4,e5,e6,e7,e8⟩:=Hu ((Aa FP).kept (Aa EY) (by simp)) j AB;simp only[bK]at FF;obtain⟨rfl,_,rfl⟩:=FF;have HY:Hid (Ky f a (q,.slice C q.ts.length G)=true->R=some q.place):=by
      intro m;refine Aa Jx _ ?_;unfold JE;simp only;rw[EJ _ _ j AB (Aa HJ) (by rw[M];exact m),M];rfl
     have V:Hid (Ky f a (q,.slice C q.ts.length G)=false->(b.take (j+1)).any (Ky f a)=false):=by
      intro m;rw[Ct _ _ j AB (Aa HJ),M];exact m
     clear M KD;have H:=Ab ((Aa D).alloc (.cells (Aq (q,.slice C q.ts.length G)).toArray 217));have E:=Ab ((Aa EY).alloc (.cells (Aq (q,.slice C q.ts.length G)).toArray 217));have F:=Ab (AE.new wr (Aq (q,.slice C q.ts.length G)) 217);simp only[Aq]at H E F;cases hs:(q.sort==1)with
     |false=>
      (have HU:(q.sort !=1)=true:=by simp[bne,hs]);have X:=Ab (Aa V (by unfold Ky;simp only;rw[hs];rfl));clear HY V hs;go_wp2
      go_roundg (b.length-(j+1))
      case measure=>have:=Aa FL;omega
      case rel=>exact⟨j+1,by go_num,by omega,rfl,X,H,E⟩
     |true=>
      (have HU:(q.sort !=1)=false:=by simp[bne,hs]);(have Ax:Hid (f q.an a=true->R=some q.place):=λm=>Aa HY (by unfold Ky;simp only;rw[hs,m];rfl));(have Bx:Hid (f q.an a=false->(b.take (j+1)).any (Ky f a)=false):=λm=>Aa V (by unfold Ky;simp only;rw[hs,m];rfl));clear HY V hs;(go_wp2_with fail);change Code.wp _ _ _ _ (wr.alloc (.cells [.int .i64 q.place,.int .i64 q.sort,.int .i64 q.ap,.string q.an,.slice C q.ts.length G,.int .i32 q.l.v,.string q.l.s,.int .i32 q.r.v,.string q.r.s].toArray 217));generalize wr.alloc (.cells [.int .i64 q.place,.int .i64 q.sort,.int .i64 q.ap,.string q.an,.slice C q.ts.length G,.int .i32 q.l.v,.string q.l.s,.int .i32 q.r.v,.string q.r.s].toArray 217)=w3 at H E F⊢;generalize wr.heap.size=T at F⊢;have t3:=(Aa F).cell 3;have n1:=((Aa P).kept (Aa E) (by simp)).cell 1;simp at t3 n1;have HZ:=Ab (SA _ _ cs q.an w3.drew ((Aa HP).kept (Aa H).drew) HR (Aa HL) hU);have JJ:Hid (∀d,Ac [] w3.drew d->d.cell? ⟨T,3,none⟩=some (.string q.an)/\d.cell? ⟨N,1,none⟩=some (.string a)/\d.cell? ⟨T,0,none⟩=some (.int .i64 q.place)/\Ac [] w d/\Ac [] w1 d):=by
       intro d I;exact⟨((Aa F).drew.kept I (by simp)).cell 3,(((Aa P).kept (Aa E) (by simp)).drew.kept I (by simp)).cell 1,((Aa F).drew.kept I (by simp)).cell 0,(Aa H).drew.trans I,(Aa E).drew.trans I⟩
      have IA:Hid (∀(l:List cR) S U AO d,Vk cs q.an l->l.length<=800001->d.ownsRow AO 9 1 (.slice S l.length U) l.length (l.flatMap Ae)->Calls prog 121 #[.slice S l.length U,.string a] d λe w9=>e=.returned (.bool (f q.an a))/\w9=d):=by
       intro l S U AO d L h1 h2;(have H7:V2 l a=f q.an a:=by rw[dk,Js,L.iff,Aa FO]);have m:=QB S U l a AO d h2 (by omega) L.en;rw[H7]at m;exact m
      clear H E F HP FO
      go_region_held3 (λd=>d.cell? ⟨T,3,none⟩=some (.string q.an)/\d.cell? ⟨N,1,none⟩=some (.string a)) (go_keep) ((first|(go_at_call 122;refine(Aa HZ).mono ?_;rintro e w4 ⟨l,H8,H1,rfl,L,HD,HA,k4⟩;have K:=Aa JJ w4 k4;have f3:=K.1;have f1:=K.2.1;have f0:=K.2.2.1;have Z:=Ab K;have HX:=Ab (Aa IA l H8 H1 _ w4 L HD HA);clear L HD HA k4 K)|(go_at_call 121;refine(Aa HX).mono ?_;rintro e w9 ⟨rfl,HO⟩;subst HO)))
      rename_i Ix;clear Ix;cases m:f q.an a with
      |true=>
       have HT:=Ab (Aa Ax m);clear Ax Bx m;go_wp2;go_ret2;rw[Aa HT];exact⟨rfl,(Aa Z).2.2.2.1⟩
      |false=>
       have HT:=Ab (Aa Bx m);clear Ax Bx m;go_wp2
       go_roundg (b.length-(j+1))
       case measure=>have:=Aa FL;omega
       case rel=>exact⟨j+1,by go_num,by omega,rfl,HT,(Aa Z).2.2.2.1,(Aa Z).2.2.2.2⟩
    .have HE:Hid (JE f ⟨A,a,n,.slice B n.length o,.slice z b.length u,b⟩=none):=by
      have h:=Aa HJ;rw[bP (by omega)]at h;show _=_;unfold JE;simp only;have:b.find? (Ky f a)=none:=by
       rw[dC];intro y hy m;rw[dy]at h;exact h y hy m
      rw[this];rfl
     have X:=Ab (Aa H2 (Aa HE));go_wp2
     go_roundg (cs.length-(k+1))
     case measure=>have:=Aa HG;omega
     case rel=>exact⟨k+1,by go_num,by omega,rfl,X,D⟩
  .have HE:Hid (R=none):=by
    have h:=Aa HC;rw[bP (by omega)]at h;show _=_;rw[<-Aa HI];unfold MZ;rw[fo];exact h
   go_wp2;go_ret2;rw[HE.out];exact⟨rfl,Aa D⟩
def RP(cs:List A7)(x y:cR)(b:Nat):Prop:=∃c∈cs,c.head.name=x/\∃l∈Am c,l.A.name=y/\(((l.kind==97)=true/\b=0)\/((l.kind==33)=true/\b=1))
def Gh(cs:List A7)(x y:cR):Prop:=∀S:cR->Prop,S x->(∀u v b,RP cs u v b->S u->S v)->S y
theorem Gh.refl(cs:List A7)(x:cR):Gh cs x x:=λS h _=>h
theorem Gh.trans{cs:List A7}{x y z:cR}(h:Gh cs x y)(k:Gh cs y z):Gh cs x z:=λS b a=>k S (h S b a) a
theorem Gh.edge{cs:List A7}{x y:cR}{b:Nat}(h:RP cs x y b):Gh cs x y:=λS c a=>a x y b h c
def XN(cs:List A7):Prop:=∀x y,RP cs x y 1->¬Gh cs y x
theorem Rx(f:cR->Nat):∀(a:List AY) (n:Nat),n<=Hr f n a/\∀p∈a,LW f p<=Hr f n a
 |[],n=>⟨bZ _,λp b=>by simp at b⟩
 |q::a,n=>by
  have ih:=Rx f a (max n (LW f q));have e:Hr f n (q::a)=Hr f (max n (LW f q)) a:=rfl;rw[e];refine⟨by have:=ih.1;omega,λp b=>?_⟩;rcases bS.1 b with rfl|b
  .have:=ih.1;omega
  .exact ih.2 p b
theorem VN(f:cR->Nat):∀(a:List AY) (n:Nat),Hr f n a=n\/∃p∈a,Hr f n a=LW f p
 |[],n=>Or.inl rfl
 |q::a,n=>by
  have e:Hr f n (q::a)=Hr f (max n (LW f q)) a:=rfl;rw[e];rcases VN f a (max n (LW f q))with h|⟨p,hp,h⟩
  .by_cases b:n<=LW f q
   .exact Or.inr ⟨q,by simp,by rw[h];omega⟩
   .exact Or.inl (by rw[h];omega)
  .exact Or.inr ⟨p,by simp[hp],h⟩
theorem Vw(f:cR->Nat)(x:cR):∀(a:List A7) (n:Nat),n<=a.foldl (Ja f x) n/\∀c∈a,c.head.name=x->∀p∈c.bl,LW f p<=a.foldl (Ja f x) n
 |[],n=>⟨bZ _,λc h=>by simp at h⟩
 |c::a,n=>by
  rw[cC];have ih:=Vw f x a (Ja f x n c);have j:n<=Ja f x n c:=by
   unfold Ja;split
   .exact(Rx f c.bl n).1
   .exact bZ _
  refine⟨by have:=ih.1;omega,λd b g p e=>?_⟩;rcases bS.1 b with rfl|b
  .have i:LW f p<=Ja f x n d:=by
    unfold Ja;rw[if_pos ((DR _ _).2 g)];exact(Rx f d.bl n).2 p e
   have:=ih.1;omega
  .exact ih.2 d b g p e
theorem Vu(f:cR->Nat)(x:cR):∀(a:List A7) (n:Nat),a.foldl (Ja f x) n=n\/∃c∈a,c.head.name=x/\∃p∈c.bl,a.foldl (Ja f x) n=LW f p
 |[],n=>Or.inl rfl
 |c::a,n=>by
  rw[cC];rcases Vu f x a (Ja f x n c)with h|⟨d,hd,hx,p,b,h⟩
  .rw[h];unfold Ja;by_cases e:(c.head.name.toList==x.toList)=true
   .rw[if_pos e];rcases VN f c.bl n with g|⟨p,b,g⟩
    .exact Or.inl g
    .exact Or.inr ⟨c,by simp,(DR _ _).1 e,p,b,g⟩
   .rw[if_neg e];exact Or.inl rfl
  .exact Or.inr ⟨d,by simp[hd],hx,p,b,h⟩
theorem JW{cs:List A7}{x y:cR}{b:Nat}(h:RP cs x y b)(d:Nat):B0 cs d y+b<=B0 cs (d+1) x:=by
 obtain⟨c,k,m,l,i,e,j⟩:=h;obtain⟨p,f,rfl⟩:=bV.1 i;rw[B0];have o:=(Vw (B0 cs d) x cs 0).2 c k m p f;have n:LW (B0 cs d) p=B0 cs d y+b:=by
  unfold LW;rcases j with⟨a,rfl⟩|⟨a,rfl⟩
  .rw[if_pos a,e];rfl
  .have g:(p.1.kind==97)=false:=by
    (have:p.1.kind=33:=by simpa using a);rw[this];rfl
   rw[if_neg (by rw[g];simp),if_pos a,e]
 omega
theorem OO(cs:List A7)(d:Nat)(x:cR)(h:0<B0 cs (d+1) x):∃y b,RP cs x y b/\B0 cs (d+1) x=B0 cs d y+b:=by
 rw[B0]at h⊢;rcases Vu (B0 cs d) x cs 0 with a|⟨c,i,j,p,g,a⟩
 .omega
 .unfold LW at a;by_cases e:(p.1.kind==97)=true
  .rw[if_pos e]at a;exact⟨p.1.A.name,0,⟨c,i,j,p.1,cm g,rfl,Or.inl ⟨e,rfl⟩⟩,a⟩
  .rw[if_neg e]at a;by_cases f:(p.1.kind==33)=true
   .rw[if_pos f]at a;exact⟨p.1.A.name,1,⟨c,i,j,p.1,cm g,rfl,Or.inr ⟨f,rfl⟩⟩,a⟩
   .rw[if_neg f]at a;omega
theorem L5(cs:List A7):∀(d:Nat) (x:cR),B0 cs d x<=B0 cs (d+1) x
 |0,x=>by rw[show B0 cs 0 x=0 from rfl];omega
 |d+1,x=>by
  by_cases h:0<B0 cs (d+1) x
  .obtain⟨y,b,a,e⟩:=OO cs d x h;have c:=L5 cs d y;have f:=JW a (d+1);omega
  .omega
theorem Uh(cs:List A7)(x:cR){d e:Nat}(h:d<=e):B0 cs d x<=B0 cs e x:=by
 induction h with
 |refl=>exact bZ _
 |step _ ih=>exact da ih (L5 cs _ x)
structure bE(cs:List A7)(d:Nat)(x v:cR):Prop where
 gi:∃D B:Nat,d<D/\B0 cs D v<B0 cs (D+1) v/\B0 cs (D+1) v=B+B0 cs (d+1) x/\Gh cs v x/\(0<B->∃u t,RP cs u t 1/\Gh cs v u/\Gh cs t x)
theorem VH{cs:List A7}(g:XN cs){d:Nat}{x:cR}(h:bE cs d x x):False:=by
 obtain⟨D,B,k,i,j,_,e⟩:=h.gi;by_cases f:0<B
 .obtain⟨u,t,a,c,b⟩:=e f;exact g u t a (b.trans c)
 .have:=Uh cs x (show d+1<=D by omega);omega
theorem YA{cs:List A7}(A:XN cs)(g:List cR)(C:∀c∈cs,c.head.name∈g)(R:g.length<=6):∀(d:Nat) (x:cR) (a:List cR),6<=a.length+d->a.Nodup->(∀v∈a,v∈g)->(∀v∈a,bE cs d x v)->B0 cs d x<B0 cs (d+1) x->False:=by
 intro d
 induction d with
 |zero=>
  intro x a H o p i s;obtain⟨y,b,e,_⟩:=OO cs 0 x (by omega);obtain⟨c,r,n,_⟩:=e;have m:x∈g:=by rw[<-n];exact C c r
  have j:x∉a:=λh=>VH A (i x h)
  have:=Lq (x::a) g (dN.2 ⟨j,o⟩) (λz f=>by
   rcases bS.1 f with rfl|f
   .exact m
   .exact p z f)
  simp only[bU]at this;omega
 |succ d ih=>
  intro x a H o p i s;obtain⟨y,b,e,Q⟩:=OO cs (d+1) x (by omega);have m:x∈g:=by
   obtain⟨c,r,n,_⟩:=e;rw[<-n];exact C c r
  have j:x∉a:=λh=>VH A (i x h)
  have O:=JW e d;have M:b<=1:=by
   obtain⟨c,_,_,l,_,_,h|h⟩:=e<;>omega
  refine ih y (x::a) (by simp only[bU];omega) (dN.2 ⟨j,o⟩) (λz f=>?_) (λv k=>?_) (by omega)
  .rcases bS.1 f with rfl|f
   .exact m
   .exact p z f
  .rcases bS.1 k with rfl|k
   .refine⟨d+1,b,by omega,s,by omega,Gh.edge e,λG=>?_⟩;(have q:b=1:=by omega);subst q;exact⟨v,y,e,Gh.refl cs v,Gh.refl cs y⟩
   .obtain⟨D,B,N,K,P,w,L⟩:=(i v k).gi;refine⟨D,B+b,by omega,K,by omega,w.trans (Gh.edge e),λG=>?_⟩;by_cases I:0<B
    .obtain⟨u,t,F,E,J⟩:=L I;exact⟨u,t,F,E,J.trans (Gh.edge e)⟩
    ·(have q:b=1:=by omega);subst q;exact⟨x,y,e,w,Gh.refl cs y⟩
theorem Zx{cs:List A7}(k:XN cs)(a:List cR)(j:∀c∈cs,c.head.name∈a)(l:a.length<=6):DE cs (B0 cs 6):=by
 have i:∀x,B0 cs 7 x=B0 cs 6 x:=by
  intro x;have m:B0 cs 6 x<=B0 cs 7 x:=L5 cs 6 x;by_cases h:B0 cs 6 x<B0 cs 7 x
  .exact(YA k a j l 6 x [] (by simp) dW (λv e=>by simp at e) (λv e=>by simp at e) h).elim
  .omega
 refine⟨λc f x g d=>?_,λc f x g d=>?_⟩
 .have h:=JW (cs:=cs) (x:=c.head.name) (y:=x.A.name) (b:=0) ⟨c,f,rfl,x,g,rfl,Or.inl ⟨d,rfl⟩⟩ 6;rw[i]at h;omega
 .have h:=JW (cs:=cs) (x:=c.head.name) (y:=x.A.name) (b:=1) ⟨c,f,rfl,x,g,rfl,Or.inr ⟨d,rfl⟩⟩ 6;rw[i]at h;omega
def ac(l:List cR):List cR:=l.foldl Cn []
def GK(c:C0):List cR:=((Bn c).filter λt=>t.v==0).map λt=>t.s
theorem LO(l:List cR)(x:cR):Dz l x=true↔x∈l:=Js l x
theorem Qq(l:List cR)(x y:cR):y∈Cn l x↔y=x\/y∈l:=by
 unfold Cn;cases h:Dz l x with
 |true=>
  simp only[if_true];have b:=(LO l x).1 h;exact⟨Or.inr,λa=>by rcases a with rfl|a;exact b;exact a⟩
 |false=>
  simp only[bN,if_false,bY,bO];exact⟨λa=>by rcases a with a|a;exact Or.inr a;exact Or.inl a,λa=>by rcases a with a|a;exact Or.inr a;exact Or.inl a⟩
theorem Sv{l:List cR}(h:l.Nodup)(x:cR):(Cn l x).Nodup:=by
 unfold Cn;cases hb:Dz l x with
 |true=>simpa using h
 |false=>
  simp only[bN,if_false];rw[List.nodup_append];refine⟨h,by simp,λa d b c e=>?_⟩;simp only[bO]at c;subst e c;rw[(LO l a).2 d]at hb;cases hb
theorem N5:∀(a l:List cR),l.Nodup->(a.foldl Cn l).Nodup/\∀y,y∈a.foldl Cn l↔y∈a\/y∈l
 |[],l,h=>⟨h,λy=>by simp⟩
 |x::a,l,h=>by
  obtain⟨b,c⟩:=N5 a (Cn l x) (Sv h x);refine⟨b,λy=>?_⟩;rw[cC,c,Qq,bS];exact⟨λh=>by rcases h with h|h|h;exact Or.inl (Or.inr h);exact Or.inl (Or.inl h);exact Or.inr h,λh=>by rcases h with(h|h)|h;exact Or.inr (Or.inl h);exact Or.inl h;exact Or.inr (Or.inr h)⟩
theorem D2(l:List cR):(ac l).Nodup/\∀y,y∈ac l↔y∈l:=by
 obtain⟨a,b⟩:=N5 l [] dW;exact⟨a,λy=>by rw[ac,b];simp⟩
theorem Ko{a b:List cR}(d:a.Nodup)(e:b.Nodup)(h:∀y,y∈a↔y∈b):a.length=b.length:=
 Nat.le_antisymm (Lq a b d (λy c=>(h y).1 c)) (Lq b a e (λy c=>(h y).2 c))
def TT(cs:List C0)(k:Nat):Bool:=decide (12<k+1)||decide (6<(ac ((cs.take (k+1)).flatMap BR)).length)||decide (6<(ac ((cs.take (k+1)).flatMap GK)).length)
def T3(cs:List C0)(k:Nat)(c:C0):Option (Int×Int):=
 if TT cs k||I8 c then some (3,c.hp)
 else match aN cs (Bi c)with
  |some p=>some (4,p)
  |none=>match GD c with
   |some p=>some (5,p)
   |none=>none
def MK(cs:List C0):Nat->List C0->Option (Int×Int)
 |_,[]=>none
 |k,c::l=>match T3 cs k c with
  |some r=>some r
  |none=>MK cs (k+1) l
def Vl:Option (Int×Int)->Value
 |some r=> .tuple #[.int .i64 r.1,.int .i64 r.2]
 |none=> .tuple #[.int .i64 0,.int .i64 0]
structure bi(c:C0):Prop where
 pc:NF c
 gC:(Bn c).length<=90000
theorem bi.atoms{c:C0}(h:bi c){w:World}(d:IP w 0 c.hv c.bv c.eB c.db):∀a∈Bi c,lenOf a.tv<=1000:=by
 intro a b;rcases bS.1 b with rfl|b
 .obtain⟨j,i,e⟩:=Aj d.head;simp only;rw[e];exact h.pc.head.2
 .unfold AJ at b;obtain⟨p,g,rfl⟩:=bV.1 b;have f:=(cn.1 g).1;obtain⟨j,i,e⟩:=Aj (d.body.each p f).1;simp only;rw[e];exact(h.pc.each p f).2
theorem Sp{cs:List C0}{k:Nat}(e:k<cs.length){d th':List cR}(h:∀y,y∈d↔y∈(cs.take k).flatMap GK)(a:Em (Bn cs[k]) d th'):∀y,y∈th'↔y∈(cs.take (k+1)).flatMap GK:=by
 intro y;rw[a y,h y,bM e,cw,bY];simp only[cg,cZ,cK];have:(∃t∈Bn cs[k],t.v=0/\t.s=y)↔y∈GK cs[k]:=by
  unfold GK;rw[bV];constructor
  .rintro ⟨t,b,a,c⟩;exact⟨t,cn.2 ⟨b,by simpa using a⟩,c⟩
  .rintro ⟨t,b,c⟩;obtain⟨f,g⟩:=cn.1 b;exact⟨t,f,by simpa using g,c⟩
 rw[this];exact⟨λh=>by rcases h with h|h;exact Or.inr h;exact Or.inl h,λh=>by rcases h with h|h;exact Or.inr h;exact Or.inl h⟩
theorem UY{cs:List C0}{k:Nat}(b:k<cs.length){nm nm':List cR}(h:∀y,y∈nm↔y∈(cs.take k).flatMap BR)(a:∀y,y∈nm'↔y∈BR cs[k]\/y∈nm):∀y,y∈nm'↔y∈(cs.take (k+1)).flatMap BR:=by
 intro y;rw[a y,h y,bM b,cw,bY];simp only[cg,cZ,cK];exact⟨λh=>by rcases h with h|h;exact Or.inr h;exact Or.inl h,λh=>by rcases h with h|h;exact Or.inr h;exact Or.inl h⟩
theorem L3(K7:Option Addr)(KS:Nat)(cs:List C0)(w:World)(h:C9 w (.slice K7 cs.length KS) cs)(z:∀c∈cs,Zd w w.heap.size c)(LL:cs.length<=1000)(hf:∀c∈cs,bi c):
  Calls prog 72 #[.slice K7 cs.length KS] w λe X=>e=.returned (Vl (MK cs 0 cs))/\Ac [] w X:=by
 have HP:=Ab h;have K3:=Ab hf;have KD:=Ab z;obtain⟨R,hR⟩:∃R,MK cs 0 cs=R:=⟨_,rfl⟩;rw[hR];have K6:=Ab hR;clear h hf z hR;have AO:Hid (Ej (w.alloc (.cells [.int .i64 0,.slice none 0 0,.slice none 0 0].toArray 210)) w.heap.size ((0:Nat):Int) (.slice none 0 0) (.slice none 0 0) [] []):=
  ⟨AE.new w _ 210,ck _ _ _ _,ck _ _ _ _,λk hk=>by simp[Value.ownBlock]at hk,λi j t=>by simp at t,λi j t=>by simp at t⟩
 have AH:=Ab (Vg.of ((Ac.refl [] w).alloc (.cells [.int .i64 0,.slice none 0 0,.slice none 0 0].toArray 210)) (bZ _) (by simp));have B:Hid (∀wr,Vg w.heap.size w wr->Ac [] w wr):=λwr hl=>hl.kept (bZ _)
 go_enter func72,ntmps72;go_wp2;change Code.wp _ _ _ _ (w.alloc (.cells [.int .i64 0,.slice none 0 0,.slice none 0 0].toArray 210));generalize w.alloc (.cells [.int .i64 0,.slice none 0 0,.slice none 0 0].toArray 210)=w1 at AO AH⊢;obtain⟨b,HV⟩:∃b,w.heap.size=b:=⟨_,rfl⟩;rw[HV]at AO AH KD B⊢;have N2:=Ab HV;clear HV
 go_loopg [13] cs.length (λgk i wr=>∃(k:Nat) (U Q:Value) (N S:List cR),i=.int .i64 k/\k<=cs.length/\k<=12/\gk=cs.length-k/\N.length<=6/\S.length<=6/\Hid (Ej wr b (k:Int) U Q N S)/\Hid (∀y,y∈N↔y∈(cs.take k).flatMap BR)/\Hid (∀y,y∈S↔y∈(cs.take k).flatMap GK)/\Hid (MK cs k (cs.drop k)=R)/\Hid (Vg b w wr))
 case atStart=>exact⟨0,_,_,[],[],rfl,by omega,by omega,rfl,by simp,by simp,AO,λy=>by simp,λy=>by simp,K6,AH⟩
 case round=>
  clear AO AH K6;obtain⟨k,U,Q,N,S,rfl,hk,Pl,K4,P0,Op,Z,Jx,HZ,HR,W⟩:=hrel;have HG:=Ab K4;clear K4;by_cases z:k<cs.length
  .have H2:=Aa B wr (Aa W);have H7:=(Aa HP).kept H2;obtain⟨g,OH,f,q,d,o,l,n,m,a,he,H1,d0,d1,d2,d3⟩:=F5 H7 k z;simp only[bK]at he;obtain⟨rfl,_,rfl⟩:=he;have FF:=Ab ((Aa KD _ (bL z)).low (Aa W));have x:=Ab (Aa K3 _ (bL z));have H:Hid ((match T3 cs k cs[k] with|some r=>some r|none=>MK cs (k+1) (cs.drop (k+1)))=R):=by
    have h:=Aa HR;rw[ci z,MK]at h;exact h
   have HN:=Ab (λnm'=>UY (nm':=nm') z (Aa Jx));have FW:=Ab (λth'=>Sp (th':=th') z (Aa HZ));rw[H1]at FF x H HN FW;clear H7 H1 HR Jx HZ H2;have NY:=(Aa Z).gA.lt;have kA:=(Ac.refl [] wr).alloc (.cells [.int .i64 f,.string q,.slice o d.length l,.slice n a.length m].toArray 189);have E:=Ab ((Aa Z).kept kA);have O:=Ab (AE.new wr [.int .i64 f,.string q,.slice o d.length l,.slice n a.length m] 189);have lA:=Vg.of kA (b:=b) (by omega) (by simp);have K:=Ab ((Aa W).trans lA);have M:=Ab ((Aa FF).low lA);have HJ:Hid (∀v:Value,(v=U\/v=Q)->v.ownBlock≠some wr.heap.size):=by
    intro v hv e;rcases hv with rfl|rfl
    .have:=((Aa Z).rn.lt _ e).2;omega
    .have:=((Aa Z).rt.lt _ e).2;omega
   have FL:=Ab (WQ b k U Q N S ⟨f,q,d,.slice o d.length l,.slice n a.length m,a⟩ _ (Aa E) (Aa M) (Aa x).pc (Aa x).gC (by omega) (by omega) (by omega));(have M3:b+1<=(wr.alloc (.cells [.int .i64 f,.string q,.slice o d.length l,.slice n a.length m].toArray 189)).heap.size:=by simp;omega);clear kA lA;simp only[A9]at FL;(go_wp2_with fail);refine(Aa FL).mono ?_;rintro e w5 ⟨rfl,K5,H0,B9,BA,Y,H9,Ix,PT,Os,k5⟩;have HH:=(Aa O).kept k5 (by
    intro s
    simp only[bS,bY]at s
    rcases s with s|s|s
    .omega
    .exact Aa HJ U (Or.inl rfl) (by simpa using s)
    .exact Aa HJ Q (Or.inr rfl) (by simpa using s))
   have l5:Vg b (wr.alloc (.cells [.int .i64 f,.string q,.slice o d.length l,.slice n a.length m].toArray 189)) w5:=Vg.of k5 (by omega) (λi t=>by
    simp only[bS,bY]at t
    rcases t with t|t|t
    .omega
    .exact(Aa E).zG.1 i t
    .exact(Aa E).zG.2 i t)
   have HD:=Ab ((Aa K).trans l5);have HM:=Ab ((Aa M).low l5);have K2:=Ab (Aa HN B9 H9);have H6:=Ab (Aa FW BA Ix);have BT:Hid ((decide (12<k+1)||decide (6<B9.length)||decide (6<BA.length))=TT cs k):=by
    show _=_;unfold TT;rw[Ko (Y.rin.nodup F0) (D2 _).1 (λy=>(Aa K2 y).trans ((D2 _).2 y).symm),Ko (Y.rit.nodup F0) (D2 _).1 (λy=>(Aa H6 y).trans ((D2 _).2 y).symm)]
   have EY:=Ab (PI b (k+1) K5 H0 B9 BA w5 Y);rw[Aa BT]at EY;have MN:wr.heap.size<w5.heap.size:=HH.lt;have I:=Ab HH;have HB:=Ab Y;(have LB:wr.heap.size≠b:=by omega);clear FL Y H9 Ix k5 l5 E O K M HJ HN FW HH d0 d1 d2 d3 M3 W FF Z;generalize wr.heap.size=T at I MN LB⊢;(go_wp2_with fail);refine(Aa EY).mono ?_;rintro e w6 ⟨rfl,LC⟩;subst LC;clear EY;have C:=(Aa I).cell 0;have D:=(Aa I).cell 1;have F:=(Aa I).cell 2;have G:=(Aa I).cell 3;simp at C D F G;cases s:TT cs k with
   |true=>
    have A:Hid (R=some (3,f)):=by
     show _=_;rw[<-Aa H];unfold T3;rw[s];rfl
    clear s BT H;go_wp2_with fail
    go_region_held3 (λX=>X.cell? ⟨T,0,none⟩=some (.int .i64 f)) (go_keep) (fail)
    rename_i HA;clear HA;go_wp2;go_ret2;rw[Aa A];exact⟨rfl,Aa B _ (Aa HD).drew⟩
   |false=>
    have L:=Aa BT;rw[s]at L;simp only[eQ,eY]at L;have FA:=Ab (Ny ⟨f,q,d,.slice o d.length l,.slice n a.length m,a⟩ w6 (Aa HM).at_ (Aa x).pc.lits);simp only[A9]at FA;have JJ:=Ab s;have NV:=L.1.1;have QQ:=L.1.2;have NX:=L.2;clear s BT L;(go_wp2_with fail);refine(Aa FA).mono ?_;rintro e w7 ⟨rfl,k7⟩;have J:=Ab ((Aa I).kept k7 (by simp));have EK:=Ab ((Aa HB).kept k7);have l7:=Vg.of k7 (b:=b) (by have:=(Aa HB).gA.lt;omega) (by simp);have HQ:=Ab ((Aa HD).trans l7);have P:=Ab ((Aa HM).low l7);have N4:T<w7.heap.size:=(Aa J).lt;(have NS:b<=w7.heap.size:=by have:=(Aa EK).gA.lt;omega);clear C D F G FA k7 l7 I HB HD HM;have C:=(Aa J).cell 0;have D:=(Aa J).cell 1;have F:=(Aa J).cell 2;have G:=(Aa J).cell 3;simp at C D F G;cases hg:I8 ⟨f,q,d,.slice o d.length l,.slice n a.length m,a⟩with
    |true=>
     have A:Hid (R=some (3,f)):=by
      show _=_;rw[<-Aa H];unfold T3;rw[hg,fA];rfl
     clear hg H;go_wp2_with fail
     go_region_held3 (λX=>X.cell? ⟨T,0,none⟩=some (.int .i64 f)) (go_keep) (fail)
     rename_i HA;clear HA;go_wp2;go_ret2;rw[Aa A];exact⟨rfl,Aa B _ (Aa HQ).drew⟩
    |false=>
     have u:Hid ((match(match aN cs (Bi ⟨f,q,d,.slice o d.length l,.slice n a.length m,a⟩)with|some p=>some ((4:Int),p)|none=>match GD ⟨f,q,d,.slice o d.length l,.slice n a.length m,a⟩with|some p=>some ((5:Int),p)|none=>none)with|some r=>some r|none=>MK cs (k+1) (cs.drop (k+1)))=R):=by
      have h:=Aa H;unfold T3 at h;rw[Aa JJ,hg]at h;exact h
     clear hg H JJ;have AT:=Ab (JS ⟨f,q,d,.slice o d.length l,.slice n a.length m,a⟩ w7 (Aa P).at_ (Aa x).pc.lits);have IA:=Ab (GV (Aa P).at_);have H5:(Bi ⟨f,q,d,.slice o d.length l,.slice n a.length m,a⟩).length<=1001:=by
      have:=Dt a;have h2:=(Aa x).pc.lits;simp only at h2;simp[Bi];omega
     have JA:=Ab ((Aa x).atoms (Aa P).at_);simp only[A9]at AT;generalize Bi ⟨f,q,d,.slice o d.length l,.slice n a.length m,a⟩=aT at AT u IA H5 JA;(go_wp2_with fail);refine(Aa AT).mono ?_;rintro e wa ⟨NM,M0,rfl,K1,ka⟩;have O:=Ab ((Aa J).kept ka (by simp));have E:=Ab ((Aa EK).kept ka);have la:=Vg.of ka (b:=b) NS (by simp);have K:=Ab ((Aa HQ).trans la);have M:=Ab ((Aa P).low la);(have Nx:b<=wa.heap.size:=by have:=(Aa E).gA.lt;omega);have FO:=Ab (J7 NM M0 aT _ _ _ cs wa K1 (Aa IA) H5 (Aa JA) ((Aa HP).kept (Aa B wa (Aa K))) (λc hc=>(Aa K3 c hc).pc.lits) LL);clear AT K1 ka la J EK HQ P C D F G;generalize aN cs aT=RO at FO u;(go_wp2_with fail);refine(Aa FO).mono ?_;rintro e w8 ⟨rfl,k8⟩;have V:=Ab ((Aa O).kept k8 (by simp));have HK:=Ab ((Aa E).kept k8);have l8:Vg b wa w8:=Vg.of k8 Nx (by simp);have HF:=Ab ((Aa K).trans l8);have HY:=Ab ((Aa M).low l8);(have LS:b<=w8.heap.size:=by have:=(Aa HK).gA.lt;omega);clear FO k8 l8 O E K M;have C:=(Aa V).cell 0;have D:=(Aa V).cell 1;have F:=(Aa V).cell 2;have G:=(Aa V).cell 3;simp at C D F G;cases RO with
     |some p=>
      have A:Hid (R=some (4,p)):=(Aa u).symm;clear u;simp only[Bv];go_wp2;go_ret2;rw[Aa A];exact⟨rfl,Aa B _ (Aa HF)⟩
     |none=>
      have AB:=Ab (Nt ⟨f,q,d,.slice o d.length l,.slice n a.length m,a⟩ w8 (Aa HY).at_ (Aa x).pc (by have:=(Aa x).gC;omega));simp only[A9]at AB;simp only at u;generalize GD ⟨f,q,d,.slice o d.length l,.slice n a.length m,a⟩=UO at AB u;simp only[Bv];(go_wp2_with fail);refine(Aa AB).mono ?_;rintro e w9 ⟨rfl,k9⟩;have LE:=Ab ((Aa HK).kept k9);have H3:=Ab ((Aa HF).trans (Vg.of k9 LS (by simp)));clear AB k9 HK HF HY V C D F G;cases UO with
      |some p=>
       have A:Hid (R=some (5,p)):=(Aa u).symm;clear u;simp only[Bv];go_wp2;go_ret2;rw[Aa A];exact⟨rfl,Aa B _ (Aa H3)⟩
      |none=>
       have NL:Hid (MK cs (k+1) (cs.drop (k+1))=R):=Aa u;clear u;simp only[Bv];go_wp2
       go_roundg (cs.length-(k+1))
       case measure=>have:=Aa HG;omega
       case rel=>exact⟨k+1,K5,H0,B9,BA,by go_num,by omega,by omega,rfl,by omega,by omega,LE,K2,H6,NL,H3⟩
  .have A:Hid (R=none):=by
    have h:=Aa HR;rw[cG (by omega),MK]at h;exact h.symm
   go_wp2;go_ret2;rw[A.out];exact⟨rfl,Aa B wr (Aa W)⟩
def PM(f:cR->cR->Bool)(pcs:List C0):Int×Int:=match MK pcs 0 pcs with
 |some r=>r
 |none=>match MZ f pcs with
  |some p=>(6,p)
  |none=>(0,0)
structure Wf(c:C0):Prop where
 head:lenOf c.hv=c.eB.length
 lits:∀p∈c.db,lenOf p.2=p.1.ts.length
theorem IP.wf{w:World}{c:C0}(h:IP w 0 c.hv c.bv c.eB c.db):Wf c:=by
 refine⟨?_,λp a=>?_⟩
 .obtain⟨d,b,e⟩:=Aj h.head;rw[e];rfl
 .obtain⟨d,b,e⟩:=Aj (h.body.each p a).1;rw[e];rfl
def Fo(s:cR)(f:cR->cR->Bool)(r:Int×Int):Prop:=
 if 300<s.size then r=(1,0)
 else match Du (De s) 0 [] with
  | .error p=>r=(2,p)
  | .ok cs=>∃pcs:List C0,pcs.map C0.pc=cs/\(∀c∈pcs,Wf c)/\r=PM f pcs
structure Zf(f:cR->cR->Bool)(pcs:List C0):Prop where
 zc:∀x y,f x y=true↔Hh pcs x y
 fit:∀c∈pcs,bi c
 len:pcs.length<=1000
 names:(pcs.flatMap BR).length<=800000
theorem Fw.into{w:World}{base:Nat}{e:Value}{cs:List C0}(h:Fw w base e cs):C9 w e cs/\∀c∈cs,Zd w w.heap.size c:=by
 refine⟨⟨Ak h.row (b8 _),λc d=>(h.each c d).at_.base (b8 _)⟩,λc d=>?_⟩;have b:=(h.each c d).at_;exact⟨b.base (b8 _),λk a=>(b.head.lt k a).2,λk a=>(b.body.row.lt k a).2,λp f k a=>(World.ownsRow.lt (b.body.each p f).1 k a).2⟩
theorem ZC{cs:List C0}{k:Nat}{c:C0}{r:Int×Int}(h:T3 cs k c=some r):r.1≠0:=by
 unfold T3 at h;split at h
 .simp only[bR]at h;subst h;simp
 .split at h
  .simp only[bR]at h;subst h;simp
  .split at h
   .simp only[bR]at h;subst h;simp
   .cases h
theorem V9{cs:List C0}:∀(l:List C0) (k:Nat) {r:Int×Int},MK cs k l=some r->r.1≠0
 |[],k,r,h=>by simp[MK]at h
 |c::l,k,r,h=>by
  rw[MK]at h;split at h
  .rename_i b a;simp only[bR]at h;subst h;exact ZC a
  .exact V9 l (k+1) h
def YC(s:cR)(w:World)(lv:Value)(n:Nat)(r:Int×Int):Prop:=r.1=0->s.size<=300/\∃cs pcs,Du (De s) 0 []=.ok cs/\pcs.map C0.pc=cs/\n=pcs.length/\C9 w lv pcs
theorem XE(s:cR)(f:cR->cR->Bool)(w:World)(AH:s.size<=9223372036854775807)(B:s.size<=300->∀b,Du (De s) 0 []=.ok b->∀a,a.map C0.pc=b->Zf f a):
  Calls prog 40 #[.string s] w λe K=>∃(j:Option Addr) (n k:Nat) (r:Int×Int),e=.returned (.tuple #[.slice j n k,.int .i64 r.1,.int .i64 r.2])/\Fo s f r/\YC s K (.slice j n k) n r/\Ac [] w K:=by
 by_cases P:300<s.size
 .have X:(300:Int)<(s.size:Int):=by omega
  have i:Hid (Fo s f (1,0)):=by
   show Fo _ _ _;unfold Fo;rw[if_pos P]
  clear B;go_enter func40,ntmps40;go_wp2;go_ret3;exact⟨none,0,0,(1,0),rfl,Aa i,λh=>absurd h (by decide),Ac.refl _ _⟩
 .have X:¬(300:Int)<(s.size:Int):=by omega
  have R:=Ab (M7 s w (by omega));have y:=Ab (B (by omega));have u:Hid (∀r,Fo s f r↔(match Du (De s) 0 [] with| .error p=>r=(2,p)| .ok b=>∃a:List C0,a.map C0.pc=b/\(∀c∈a,Wf c)/\r=PM f a)):=by
   intro r;unfold Fo;rw[if_neg P]
  clear B;go_enter func40,ntmps40;go_wp2_with fail
  refine(Aa R).mono ?_;intro e w2 x;clear R;cases hp:Du (De s) 0 [] with
  |error p=>
   rw[hp]at x;obtain⟨rfl,m⟩:=x;have i:Hid (Fo s f (2,p)):=by
    show Fo _ _ _;rw[Aa u,hp]
   have v:=Ab m;clear hp u y m;go_wp2;go_ret3;exact⟨none,0,0,(2,p),rfl,Aa i,λh=>absurd h (by simp),Aa v⟩
  |ok b=>
   rw[hp]at x;obtain⟨j,k,a,rfl,o,G,m⟩:=x;have q:=Aa y b hp a o;(have V:b.length=a.length:=by rw[<-o];simp);rw[V]at G⊢;obtain⟨t,O⟩:=G.into;have i:Hid (∀r,r=PM f a->Fo s f r):=by
    intro r E;rw[Aa u,hp];exact⟨a,o,λc d=>(t.each c d).wf,E⟩
   have J:=Ab (L3 j k a w2 t O q.len q.fit);have Q:=Ab t;have M:Hid (Du (De s) 0 []=.ok b/\a.map C0.pc=b):=⟨hp,o⟩;have l:=Ab q;have v:=Ab m;clear hp u y m o G t O q;(go_wp2_with fail);refine(Aa J).mono ?_;rintro e W ⟨rfl,C⟩;have z:=Ab ((Aa Q).kept C);have H:=Ab ((Aa v).trans C);clear J Q v C;cases d:MK a 0 a with
   |some r=>
    have F:=V9 _ _ d;(have U:(r.1 !=0)=true:=by simp[bne,F]);have g:=Ab (Aa i r (by unfold PM;rw[d]));obtain⟨L,r2⟩:=r;simp only at U F;have Z:Hid (L≠0):=F;clear d i;simp only[Vl];go_wp2;go_ret3;exact⟨none,0,0,(L,r2),rfl,Aa g,λh=>absurd h (Aa Z),Aa H⟩
   |none=>
    have S:=Ab (Rc f j k a (Aa l).zc W (Aa z) (Aa l).len (λc d=>((Aa l).fit c d).pc.lits) (Aa l).names);have g:Hid (∀r,r=(match MZ f a with|some p=>((6:Int),p)|none=>(0,0))->Fo s f r):=by
     intro r E;refine Aa i r ?_;unfold PM;rw[d];exact E
    clear d i l;simp only[Vl];(go_wp2_with fail);refine(Aa S).mono ?_;rintro e T ⟨rfl,I⟩;have N:=Ab ((Aa H).trans I);have Y:Hid (s.size<=300/\∃b A,Du (De s) 0 []=.ok b/\A.map C0.pc=b/\a.length=A.length/\C9 T (.slice j a.length k) A):=⟨by omega,b,a,(Aa M).1,(Aa M).2,rfl,(Aa z).kept I⟩;clear S I H z;cases hl:MZ f a with
    |some p=>
     rw[hl]at g;have D:=Ab (Aa g (6,p) rfl);clear hl g;simp only[Bv];go_wp2;go_ret3;exact⟨none,0,0,(6,p),rfl,Aa D,λh=>absurd h (by simp),Aa N⟩
    |none=>
     rw[hl]at g;have D:=Ab (Aa g (0,0) rfl);clear hl g;simp only[Bv];go_wp2;go_ret3;exact⟨j,a.length,k,(0,0),rfl,Aa D,λ_=>Aa Y,Aa N⟩
def F2{α β:Type}(R:α->β->Prop):List α->List β->Prop
 |[],[]=>True
 |a::l,b::m=>R a b/\F2 R l m
 |_,_=>False
theorem F2.nil{α β:Type}{R:α->β->Prop}:F2 R ([]:List α) ([]:List β):=trivial
theorem F2.cons{α β:Type}{R:α->β->Prop}{a:α}{b:β}{l:List α}{m:List β}(h:R a b)(t:F2 R l m):F2 R (a::l) (b::m):=⟨h,t⟩
theorem F2.ind{α β:Type}{R:α->β->Prop}{motive:(l:List α)->(m:List β)->F2 R l m->Prop}(nil:motive [] [] F2.nil)(cons:∀{a:α} {b:β} {l:List α} {m:List β} (h:R a b) (t:F2 R l m),motive l m t->motive (a::l) (b::m) (F2.cons h t)):∀{l:List α} {m:List β} (h:F2 R l m),motive l m h
 |[],[],_=>nil
 |[],_::_,h=>h.elim
 |_::_,[],h=>h.elim
 |_::_,_::_,h=>cons h.1 h.2 (F2.ind nil cons h.2)
theorem F2.of_map{α β γ:Type}{f:α->γ}{g:β->γ}:∀{l:List α} {m:List β},l.map f=m.map g->F2 (λa b=>f a=g b) l m
 |[],[],_=>F2.nil
 |[],_::_,h=>by simp at h
 |_::_,[],h=>by simp at h
 |a::l,b::m,h=>by
  simp only[cu,eS]at h;exact F2.cons h.1 (F2.of_map h.2)
theorem F2.length{α β:Type}{R:α->β->Prop}{l:List α}{m:List β}(h:F2 R l m):l.length=m.length:=by
 induction h using F2.ind with
 |nil=>rfl
 |cons _ _ ih=>simp[ih]
theorem F2.take{α β:Type}{R:α->β->Prop}{l:List α}{m:List β}(h:F2 R l m)(k:Nat):F2 R (l.take k) (m.take k):=by
 induction h using F2.ind generalizing k with
 |nil=>simp;exact F2.nil
 |cons h1 _ ih=>
  cases k with
  |zero=>simp;exact F2.nil
  |succ k=>simp only[eG];exact F2.cons h1 (ih k)
theorem F2.flatMap{α β γ:Type}{R:α->β->Prop}{f:α->List γ}{g:β->List γ}(c:∀a b,R a b->f a=g b){l:List α}{m:List β}(h:F2 R l m):l.flatMap f=m.flatMap g:=by
 induction h using F2.ind with
 |nil=>rfl
 |cons h1 _ ih=>rw[cg,cg,c _ _ h1,ih]
theorem F2.find{α β γ:Type}{R:α->β->Prop}{f:α->Bool}{g:β->Bool}{u:α->γ}{v:β->γ}(d:∀a b,R a b->f a=g b/\u a=v b){l:List α}{m:List β}(h:F2 R l m):(l.find? f).map u=(m.find? g).map v:=by
 induction h using F2.ind with
 |nil=>rfl
 |cons h1 _ ih=>
  obtain⟨e,c⟩:=d _ _ h1;rw[ej,ej,e];split
  .simp[c]
  .exact ih
theorem F2.mem{α β:Type}{R:α->β->Prop}{l:List α}{m:List β}(h:F2 R l m):∀b∈m,∃a∈l,R a b:=by
 induction h using F2.ind with
 |nil=>intro b c;simp at c
 |cons h1 _ ih=>
  intro b c;rcases bS.1 c with rfl|c
  .exact⟨_,by simp,h1⟩
  .obtain⟨a,d,e⟩:=ih b c;exact⟨a,by simp[d],e⟩
theorem F2.zR{α β:Type}{R:α->β->Prop}{l:List α}{m:List β}(h:F2 R l m):∀a∈l,∃b∈m,R a b:=by
 induction h using F2.ind with
 |nil=>intro b c;simp at c
 |cons h1 _ ih=>
  intro b c;rcases bS.1 c with rfl|c
  .exact⟨_,by simp,h1⟩
  .obtain⟨a,d,e⟩:=ih b c;exact⟨a,by simp[d],e⟩
theorem F2.mono{α β:Type}{R S:α->β->Prop}{l:List α}{m:List β}(h:F2 R l m)(c:∀a∈l,∀b∈m,R a b->S a b):F2 S l m:=by
 induction h using F2.ind with
 |nil=>exact F2.nil
 |cons h1 _ ih=>exact F2.cons (c _ (by simp) _ (by simp) h1) (ih (λa d b e=>c a (by simp[d]) b (by simp[e])))
structure QA(p:JF)(q:AY):Prop where
 eq:p.1=Kj q.1
 len:lenOf p.2=q.1.A.args.length
 plain:KT q=false->q.1.A.args=[]
theorem Vj(t:AG):((ct t).v==0)=(t.v==0):=by
 unfold ct;simp only;rw[dk];simp only[dE];constructor
 .intro h;apply dx.1;rw[show(0:UInt8).toNat=0 from rfl]
  omega
 .intro h;rw[h];rfl
theorem ai(t:AG)(v:UInt8):((ct t).v==(v.toNat:Int))=(t.v==v):=by
 unfold ct;simp only;rw[dk];simp only[dE];constructor
 .intro h;apply dx.1;omega
 .intro h;rw[h]
theorem RW(k:UInt8):(Fx k==0)=(k==97):=by
 unfold Fx;by_cases h:k=97
 .simp[h]
 .by_cases a:k=33
  .simp[a]
  .by_cases b:k=61
   .simp[b]
   .by_cases c:k=35
    .simp[c]
    .simp[h,a,b,c]
theorem XT(k:UInt8):(Fx k==1)=(k==33):=by
 unfold Fx;by_cases h:k=97
 .simp[h]
 .by_cases a:k=33
  .simp[a]
  .by_cases b:k=61
   .simp[b]
   .by_cases c:k=35
    .simp[c]
    .simp[h,a,b,c]
theorem QA.atom{p:JF}{q:AY}(h:QA p q):A6 p.1=KT q:=by
 unfold A6 KT;rw[h.eq];simp only[Kj,RW,XT]
theorem QA.gC{p:JF}{q:AY}(h:QA p q):AI p.1=(Au q).map ct:=by
 unfold AI Au;rw[h.atom,h.eq];split<;>simp[Kj]
structure Pj(c:C0)(r:A7):Prop where
 hp:c.hp=r.head.at_
 hn:c.hn=r.head.name
 eB:c.eB=r.head.args.map ct
 lits:F2 QA c.db r.bl
 len:lenOf c.hv=r.head.args.length
 at_:r.at_=r.head.at_
def Gy(r:A7):List cR:=r.head.name::(r.bl.filter KT).map λq=>q.1.A.name
def F4(r:A7):List AG:=r.head.args++r.bl.flatMap Au
theorem Uv{a:List JF}{bl:List AY}(h:F2 QA a bl):Fz a=(bl.filter KT).map λq=>q.1.A.name:=by
 unfold Fz
 induction h using F2.ind with
 |nil=>rfl
 |cons h1 _ ih=>
  rw[dv,dv,h1.atom];split
  .rw[cu,cu,ih,h1.eq];rfl
  .exact ih
theorem Pj.names{c:C0}{r:A7}(h:Pj c r):BR c=Gy r:=by
 unfold BR Gy;rw[h.hn,Uv h.lits]
theorem Pj.gC{c:C0}{r:A7}(h:Pj c r):Bn c=(F4 r).map ct:=by
 unfold Bn F4 AU;rw[h.eB,cW,fu,F2.flatMap (λa b d=>d.gC) h.lits]
def LT(r:A7):List cR:=((F4 r).filter λt=>t.v==0).map λt=>t.s
theorem Pj.dc{c:C0}{r:A7}(h:Pj c r):GK c=(LT r).map F9:=by
 unfold GK LT;rw[h.gC,List.filter_map,dt,dt];have e:(F4 r).filter ((λt=>t.v==0)∘ct)=(F4 r).filter λt=>t.v==0:=by
  apply List.filter_congr;intro t _;exact Vj t
 rw[e];rfl
theorem Sf(f:cR->cR)(h:∀a b,f a=f b->a=b)(l:List cR):(ac (l.map f)).length=(ac l).length:=by
 rw[show(ac l).length=((ac l).map f).length from by simp]
 refine Ko (D2 _).1 (List.Pairwise.map f (λa b g e=>g (h a b e)) (D2 l).1) (λy=>?_);rw[(D2 _).2,bV,bV];constructor
 .rintro ⟨x,d,c⟩;exact⟨x,((D2 l).2 x).2 d,c⟩
 .rintro ⟨x,d,c⟩;exact⟨x,((D2 l).2 x).1 d,c⟩
theorem Sk(l:List cR)(r:A7):Kb l r=(Gy r).foldl Cn l:=by
 unfold Kb Gy;rw[cC];generalize Cn l r.head.name=l0
 induction r.bl generalizing l0 with
 |nil=>rfl
 |cons q bl ih=>
  rw[cC,dv];unfold eA;cases hq:KT q with
  |true=>
   simp only[if_true,cu,cC];exact ih _
  |false=>
   simp only[bN,if_false];exact ih _
theorem KI{α β γ:Type}(f:γ->β->γ)(g:α->List β):∀(l:List α) (c:γ),(l.flatMap g).foldl f c=l.foldl (λc a=>(g a).foldl f c) c
 |[],c=>rfl
 |a::l,c=>by rw[cg,cY,cC,KI f g l]
theorem ON(cs:List A7):F8 cs=ac (cs.flatMap Gy):=by
 unfold F8 ac;rw[KI]
 congr 1
 funext l r
 exact Sk l r
theorem MM(x y:cR):∀(l:List cR) (a:List cR×Bool),(y∈(l.foldl (CB x) a).1↔y∈a.1\/y∈l\/(y=x/\a.2=false/\(l.foldl (CB x) a).2=true))/\(a.2=true->(l.foldl (CB x) a).2=true)
 |[],a=>by
  refine⟨?_,λh=>h⟩;simp only[List.foldl_nil,di,false_or];constructor
  .exact Or.inl
  .rintro (h|⟨_,f,e⟩)
   .exact h
   .rw[f]at e;cases e
 |z::l,a=>by
  obtain⟨b,c⟩:=MM x y l (CB x a z);rw[cC];unfold CB at b c⊢;cases hb:(!a.2&&Ff x z)with
  |true=>
   have d:a.2=false:=by
    cases h:a.2 with
    |false=>rfl
    |true=>rw[h]at hb;simp at hb
   rw[hb]at b c;simp only[if_true]at b c⊢;have g:=c trivial;refine⟨?_,λh=>by rw[d]at h;cases h⟩;rw[b,g,d];simp only[bY,bS,di,Bool.true_eq_false,false_and,and_false,or_false,true_and,and_true,and_self];constructor
   .rintro ((h|h)|h)
    .rcases h with h|h
     .exact Or.inl h
     .exact Or.inr (Or.inr h)
    .exact Or.inr (Or.inl (Or.inl h))
    .exact Or.inr (Or.inl (Or.inr h))
   .rintro (h|(h|h)|h)
    .exact Or.inl (Or.inl (Or.inl h))
    .exact Or.inl (Or.inr h)
    .exact Or.inr h
    .exact Or.inl (Or.inl (Or.inr h))
  |false=>
   rw[hb]at b c;simp only[bN,if_false]at b c⊢;refine⟨?_,c⟩;rw[b];simp only[bY,bS,di,or_false];constructor
   .rintro ((h|h)|h|h)
    .exact Or.inl h
    .exact Or.inr (Or.inl (Or.inl h))
    .exact Or.inr (Or.inl (Or.inr h))
    .exact Or.inr (Or.inr h)
   .rintro (h|(h|h)|h)
    .exact Or.inl (Or.inl h)
    .exact Or.inl (Or.inr h)
    .exact Or.inr (Or.inl h)
    .exact Or.inr (Or.inr h)
theorem WG(l:List cR)(x y:cR):y∈G0 l x↔y=x\/y∈l:=by
 have h:=(MM x y l ([],false)).1;unfold G0;unfold Ll;cases hf:(l.foldl (CB x) ([],false)).2 with
 |true=>
  rw[hf]at h;simp only[if_true];rw[h];simp only[di,false_or,true_and,and_true,and_self];exact⟨λh=>by rcases h with h|h;exact Or.inr h;exact Or.inl h,λh=>by rcases h with h|h;exact Or.inr h;exact Or.inl h⟩
 |false=>
  rw[hf]at h;simp only[bN,if_false,bY,bO];rw[h];simp only[di,false_or,bN,and_false,or_false];exact⟨λh=>by rcases h with h|h;exact Or.inr h;exact Or.inl h,λh=>by rcases h with h|h;exact Or.inr h;exact Or.inl h⟩
structure Na(a b:List cR):Prop where
 mem:∀y,y∈a↔y∈b
 len:a.length=b.length
theorem Na.gM{a b:List cR}(h:Na a b)(t:AG):Na (gM a t) (if t.v==0 then Cn b t.s else b):=by
 unfold Go.Proofs.YtoihbhenbmffcaaGreatDoor.gM Cn;cases hv:(t.v==0)with
 |false=>simpa using h
 |true=>
  have e:Dz a t.s=Dz b t.s:=by rw[dk,LO,LO,h.mem]
  rw[e];cases hh:Dz b t.s with
  |true=>simpa using h
  |false=>
   simp only[dn,ee,if_true,bN,if_false];refine⟨λy=>?_,by rw[Me,h.len];simp⟩;rw[WG,h.mem];simp only[bY,bO];exact⟨λh=>by rcases h with h|h;exact Or.inr h;exact Or.inl h,λh=>by rcases h with h|h;exact Or.inr h;exact Or.inl h⟩
theorem Na.gF{a b:List cR}(h:Na a b):∀d:List AG,Na (gF a d) (((d.filter λt=>t.v==0).map λt=>t.s).foldl Cn b):=by
 intro d;unfold Go.Proofs.YtoihbhenbmffcaaGreatDoor.gF
 induction d generalizing a b with
 |nil=>exact h
 |cons t d ih=>
  rw[cC,dv];have c:=h.gM t;cases hv:(t.v==0)with
  |true=>
   rw[hv]at c;simp only[if_true]at c⊢;rw[cu,cC];exact ih c
  |false=>
   rw[hv]at c;simp only[bN,if_false]at c⊢;exact ih c
theorem SQ(l:List cR)(a b:List AG):gF l (a++b)=gF (gF l a) b:=by
 unfold gF;rw[cY]
theorem Uk(l:List cR)(r:A7):IS l r=gF l (F4 r):=by
 unfold IS F4;rw[SQ];generalize gF l r.head.args=l0
 induction r.bl generalizing l0 with
 |nil=>rfl
 |cons q bl ih=>
  rw[cC,cg,SQ];exact ih _
theorem K0(cs:List A7):Na (Dd cs) (ac (cs.flatMap LT)):=by
 unfold Dd ac;rw[KI];have:∀(l:List A7) (a b:List cR),Na a b->Na (l.foldl IS a) (l.foldl (λc r=>(LT r).foldl Cn c) b):=by
  intro l
  induction l with
  |nil=>intro a b h;exact h
  |cons r l ih=>
   intro a b h;rw[cC,cC];refine ih _ _ ?_;rw[Uk];exact h.gF _
 exact this cs [] [] ⟨λy=>Iff.rfl,rfl⟩
abbrev bD:=Int×cR×Nat
def RF(a:Gp):bD:=(a.place,a.name,lenOf a.tv)
def Ee(r:A7):List bD:=((r.head.at_:Int),r.head.name,r.head.args.length)::(r.bl.filter KT).map λq=>((q.1.A.at_:Int),q.1.A.name,q.1.A.args.length)
theorem Ug{a:List JF}{bl:List AY}(h:F2 QA a bl):(AJ a).map RF=(bl.filter KT).map λq=>((q.1.A.at_:Int),q.1.A.name,q.1.A.args.length):=by
 unfold AJ
 induction h using F2.ind with
 |nil=>rfl
 |cons h1 _ ih=>
  rw[dv,dv,h1.atom];split
  .rw[cu,cu,cu,ih]
   congr 1
   unfold RF;simp only;rw[h1.eq,h1.len];rfl
  .exact ih
theorem Pj.atoms{c:C0}{r:A7}(h:Pj c r):(Bi c).map RF=Ee r:=by
 unfold Bi Ee;rw[cu,Ug h.lits]
 congr 1
 unfold RF;simp only;rw[h.hp,h.hn,h.len]
def aP(x:cR)(p:cR×Nat):Bool:=p.1.toList==x.toList
def Nk(L:List (cR×Nat))(x:cR):Int:=match L.find? (aP x)with|some p=>p.2|none=> -1
def Zb(L:List (cR×Nat))(a:bD):Bool:=Nk L a.2.1 !=(a.2.2:Int)
def EV(cs:List A7):List (cR×Nat):=cs.flatMap λr=>(Ee r).map λa=>a.2
theorem R5(bl:List AY)(x:cR):RR bl x=(((bl.filter KT).map λq=>(q.1.A.name,q.1.A.args.length)).find? (aP x)).map λp=>p.2:=by
 unfold RR
 induction bl with
 |nil=>rfl
 |cons q bl ih=>
  rw[fa,dv];cases hq:KT q with
  |false=>
   simp only[eC,bN,if_false];exact ih
  |true=>
   simp only[dF,if_true,cu];rw[ej];unfold aP;simp only;cases hn:(q.1.A.name.toList==x.toList)with
   |true=>rfl
   |false=>exact ih
theorem R2(r:A7)(x:cR):GA r x=(((Ee r).map λa=>a.2).find? (aP x)).map λp=>p.2:=by
 unfold GA Ee;rw[cu,ej,R5,dt];unfold aP;simp only;cases h:(r.head.name.toList==x.toList)with
 |true=>rfl
 |false=>rfl
theorem Ma(cs:List A7)(x:cR):CT cs x=Nk (EV cs) x:=by
 have:cs.findSome? (GA · x)=((EV cs).find? (aP x)).map λp=>p.2:=by
  unfold EV
  induction cs with
  |nil=>rfl
  |cons r cs ih=>
   rw[fa,cg,fJ,R2,ih];cases((Ee r).map λa=>a.2).find? (aP x)<;>rfl
 unfold CT Nk;rw[this];cases(EV cs).find? (aP x)<;>rfl
theorem SK(L:List (cR×Nat))(r:A7):((Ee r).find? (Zb L)).map (λa=>a.1)=
  if Nk L r.head.name≠(r.head.args.length:Int)then some (r.head.at_:Int)else(r.bl.find? λq=>KT q&&(Nk L q.1.A.name !=(q.1.A.args.length:Int))).map λq=>(q.1.A.at_:Int):=by
 unfold Ee;rw[ej];have e:Zb L ((r.head.at_:Int),r.head.name,r.head.args.length)=(Nk L r.head.name !=(r.head.args.length:Int)):=rfl;rw[e];cases hh:(Nk L r.head.name !=(r.head.args.length:Int))with
 |true=>
  have:Nk L r.head.name≠(r.head.args.length:Int):=by simpa using hh
  rw[if_pos this];rfl
 |false=>
  have:¬Nk L r.head.name≠(r.head.args.length:Int):=by simpa using hh
  rw[if_neg this];simp only
  induction r.bl with
  |nil=>rfl
  |cons q bl ih=>
   rw[dv,ej];cases hq:KT q with
   |false=>
    simp only[eC,bN,if_false];exact ih
   |true=>
    simp only[dF,if_true,cu];rw[ej];have b:Zb L ((q.1.A.at_:Int),q.1.A.name,q.1.A.args.length)=(Nk L q.1.A.name !=(q.1.A.args.length:Int)):=rfl;rw[b];cases(Nk L q.1.A.name !=(q.1.A.args.length:Int))with
    |true=>rfl
    |false=>exact ih
theorem Pj.bound{c:C0}{r:A7}(h:Pj c r)(v:UInt8):Nd c.db (v.toNat:Int)=I3 r.bl v:=by
 unfold Nd I3 FS;have b:=h.lits;generalize c.db=db at b;generalize r.bl=bl at b
 induction b using F2.ind with
 |nil=>rfl
 |cons h1 _ ih=>
  rw[cg,fW,fj,ih]
  congr 1
  unfold I5 PG;rw[h1.eq];simp only[Kj,RW];split
  .rename_i a;rw[a,fB];simp only[dF];apply LD;intro t _;exact ai t v
  .rename_i a;simp only[Bool.not_eq_true]at a;rw[a];rfl
theorem Pj.loose{c:C0}{r:A7}(h:Pj c r)(t:AG):Ng c (ct t)=Ch r.bl t:=by
 unfold Ng Ch;have e:((ct t).v !=0)= !(t.v==0):=by rw[bne,Vj]
 rw[e];have:(ct t).v=(t.v.toNat:Int):=rfl;rw[this,h.bound];cases(t.v==0)<;>simp
theorem Pj.zZ{c:C0}{r:A7}(h:Pj c r):GD c=if 0<=C3 r.head r.bl then some (C3 r.head r.bl)else none:=by
 unfold GD C3;have d:c.eB.any (Ng c)=r.head.args.any (Ch r.bl):=by
  rw[h.eB,fB];apply LD;intro t _;exact h.loose t
 have b:(c.db.find? λp=>(AI p.1).any (Ng c)).map (λp=>p.1.place)=(r.bl.find? (Iu r.bl)).map λq=>(q.1.at_:Int):=by
  refine F2.find (λp q a=>⟨?_,?_⟩) h.lits
  .unfold Iu;rw[a.gC,fB];apply LD;intro t _;exact h.loose t
  .rw[a.eq];rfl
 rw[d,b,h.hp];cases r.head.args.any (Ch r.bl)with
 |true=>
  simp only[if_true];rw[if_pos (by omega)]
 |false=>
  simp only[bN,if_false];cases r.bl.find? (Iu r.bl)with
  |none=>rfl
  |some q=>
   simp only[ei];rw[if_pos (by omega)]
theorem Pj.zX{c:C0}{r:A7}(h:Pj c r):I8 c=(decide (2<r.head.args.length)||r.bl.any Bt||decide (3<r.bl.length)):=by
 unfold I8;rw[h.lits.length]
 congr 1
 have e:(Bi c).any (λa=>decide (2<lenOf a.tv))=(Ee r).any λa=>decide (2<a.2.2):=by
  rw[<-h.atoms,fB];rfl
 rw[e];unfold Ee;rw[fj]
 congr 1
 have d:∀q∈r.bl,KT q=false->q.1.A.args=[]:=λq b=>by
  obtain⟨p,_,f⟩:=h.lits.mem q b;exact f.plain
 generalize r.bl=bl at d
 induction bl with
 |nil=>rfl
 |cons q bl ih=>
  rw[dv,fj];have ih:=ih (λq b=>d q (by simp[b]));cases b:KT q with
  |true=>
   simp only[if_true,cu,fj];rw[ih];rfl
  |false=>
   have:=d q (by simp) b;simp only[bN,if_false];rw[ih];unfold Bt;rw[this];rfl
theorem Wm{d:List C0}{e:List A7}(h:F2 Pj d e):EV e=((d.flatMap Bi).map RF).map λa=>a.2:=by
 unfold EV;rw[fu,<-F2.flatMap (f:=λc=>(Bi c).map RF) (g:=Ee) (λa b i=>i.atoms) h|>.symm,fu]
theorem Ts{a:List C0}{b:List A7}(h:F2 Pj a b)(x:cR):aW a x=((EV b).find? (aP x)).map λp=>p.2:=by
 rw[Wm h,dt,List.find?_map,Option.map_map];rfl
theorem Yz{d:List C0}{b:List A7}(h:F2 Pj d b){c:C0}{r:A7}(j:Pj c r)(k:∀a∈Ee r,a.2∈EV b)(f:I8 c=false):
  aN d (Bi c)=((Ee r).find? (Zb (EV b))).map λa=>a.1:=by
 unfold aN;rw[<-j.atoms,List.find?_map,Option.map_map];have e:(Bi c).find? (Pz d)=(Bi c).find? (Zb (EV b)∘RF):=by
  apply Mb;intro a i;have m:¬2<lenOf a.tv:=by
   unfold I8 at f;simp only[eQ]at f;have:=(dy.1 f.1) a i;simpa using this
  have l:(RF a).2∈EV b:=k _ (by rw[<-j.atoms];exact cm i);have g:((EV b).find? (aP a.name)).isSome=true:=by
   rw[List.find?_isSome];exact⟨_,l,by simp[aP,RF]⟩
  unfold Pz Zb Nk;simp only[Function.comp];rw[Ts h];rw[show(RF a).2.1=a.name from rfl,show(RF a).2.2=lenOf a.tv from rfl]
  cases hq:(EV b).find? (aP a.name)with
  |none=>rw[hq]at g;cases g
  |some p=>
   simp only[ei,m,fP,ex];rw[dk];simp only[eD,cJ,bne_iff_ne,ne_eq];omega
 rw[e];rfl
theorem WR{f:List C0}{d:List A7}(h:F2 Pj f d){k:Nat}{c:C0}{r:A7}(e:Pj c r)(x:∀a∈Ee r,a.2∈EV d):
  T3 f k c=BS d k r:=by
 have s:=Yz h e x;have w:(ac ((f.take (k+1)).flatMap BR)).length=(F8 (d.take (k+1))).length:=by
  rw[ON,F2.flatMap (λa b n=>n.names) (h.take (k+1))]
 have v:(ac ((f.take (k+1)).flatMap GK)).length=(Dd (d.take (k+1))).length:=by
  rw[(K0 _).len,F2.flatMap (g:=λr=>(LT r).map F9) (λa b n=>n.dc) (h.take (k+1)),<-fu,Sf _ (λa b=>UT)]
 unfold T3 BS TT;rw[e.zX]at s;rw[w,v,e.zX,e.zZ,Ma,e.hp,e.at_];generalize(F8 (d.take (k+1))).length=N;generalize(Dd (d.take (k+1))).length=T;cases hcond:((decide (12<k+1)||decide (6<N)||decide (6<T))||(decide (2<r.head.args.length)||r.bl.any Bt||decide (3<r.bl.length)))with
 |true=>
  rw[if_pos rfl];by_cases j:12<=k\/3<r.bl.length
  .rw[if_pos j]
  .rw[if_neg j];by_cases m:2<r.head.args.length
   .rw[if_pos m]
   .rw[if_neg m];by_cases o:r.bl.any Bt=true
    .rw[if_pos o]
    .rw[if_neg o];by_cases i:6<N\/6<T
     .rw[if_pos i]
     .exfalso
      simp only[dr,fi]at hcond;simp only[not_or]at j i;rcases hcond with((h|h)|h)|((h|h)|h)
      .omega
      .exact i.1 h
      .exact i.2 h
      .exact m h
      .exact o h
      .exact j.2 h
 |false=>
  simp only[eQ,eY]at hcond;obtain⟨⟨⟨B,C⟩,D⟩,⟨t,p⟩,z⟩:=hcond;rw[s (by simp only[t,p,z,fP,gc]),SK];rw[if_neg (show¬(false=true) by simp),if_neg (show¬(12<=k\/3<r.bl.length) by omega),if_neg t,if_neg (show¬(r.bl.any Bt=true) by rw[p];simp),if_neg (show¬(6<N\/6<T) by omega)];by_cases l:Nk (EV d) r.head.name≠(r.head.args.length:Int)
  .rw[if_pos l,if_pos l]
  .rw[if_neg l,if_neg l];have u:(r.bl.find? λq=>KT q&&(Nk (EV d) q.1.A.name !=(q.1.A.args.length:Int)))=r.bl.find? (BD d):=by
    apply Mb;intro q _;unfold BD;rw[Ma]
   rw[u];cases r.bl.find? (BD d)with
   |some q=>rfl
   |none=>
    simp only[Option.map_none];by_cases y:0<=C3 r.head r.bl<;>simp[y]
theorem Uz{f:List C0}{b:List A7}(h:F2 Pj f b):∀{l:List C0} {m:List A7},F2 Pj l m->∀(k:Nat),(∀r∈m,r∈b)->MK f k l=DJ b k m:=by
 intro l m i
 induction i using F2.ind with
 |nil=>intro k _;rfl
 |cons hc _ ih=>
  rename_i c r l m _;intro k e;have d:∀a∈Ee r,a.2∈EV b:=λa g=>cO.2 ⟨r,e r (by simp),cm g⟩
  rw[MK,DJ,WR h hc d];cases hs:BS b k r with
  |some x=>rfl
  |none=>exact ih (k+1) (λr d=>e r (by simp[d]))
theorem Um{d:List C0}{a:List A7}(h:F2 Pj d a){f:cR->cR->Bool}(i:∀x y,f x y=Gz a x y):(MZ f d).map (λp=>((6:Int),p))=a.findSome? (CY a):=by
 unfold MZ;have g:∀{l:List C0} {m:List A7},F2 Pj l m->(l.findSome? (JE f)).map (λp=>((6:Int),p))=m.findSome? (CY a):=by
  intro l m j
  induction j using F2.ind with
  |nil=>rfl
  |cons hc _ ih=>
   rename_i c r l m _;rw[fa,fa];have e:(JE f c).map (λp=>((6:Int),p))=CY a r:=by
    unfold JE CY;rw[Option.map_map];refine F2.find (λp q b=>⟨?_,?_⟩) hc.lits
    .unfold Ky Eb;rw[b.eq,i,hc.hn];simp only[Kj,XT]
    .simp only[Function.comp];rw[b.eq];rfl
   rw[<-e];cases JE f c with
   |some p=>rfl
   |none=>exact ih
 exact g h
theorem UF{b:List C0}{a:List A7}(h:F2 Pj b a){f:cR->cR->Bool}(c:∀x y,f x y=Gz a x y):PM f b=Cg a:=by
 unfold PM Cg;rw[Uz h h 0 (λr d=>d),<-Um h c];cases DJ a 0 a with
 |some r=>rfl
 |none=>
  simp only;cases MZ f b<;>rfl
