import Derived.OwnWalk
import Derived.Test.YtoihbhenbmffcaaGreatDoorTBA
set_option linter.all false
set_option maxHeartbeats 0
open List renaming length->Z
open Option renaming none->Y,some->V
open Go.Value renaming slice->U,int->X,string->O,pointer->j3,agg->oj,ownBlock->qX
open Go.Obj renaming cells->j1
open Go.Ending renaming returned->kt
open Go renaming World->ly,Value->ml
open Go.World renaming ownsRow->oi
namespace Go.Proofs.YtoihbhenbmffcaaGreatDoor
open Go.RowKit Go.Proofs.Tryz
variable{P:Program}{a:Act}{Q:Exit->Act->ly->Prop}{w:ly}{m i n k j b:Nat}{T:TypeId}{y:rc ml}{p:rc CU}{c:rc AV}{s:zA}
def JD(w:ly){G:Array Oper}{o:Oper}{q:Act->ly->Prop}{E:Prop}(r:o.guard=Y)(s x:Operand)(t:TypeId)
  (H:o.op=.call {callee:=.builtin .append,args:=#[s,x],argTypes:=#[t,t]})
  (l:Nat) (e:TypeId) (i:TypeInfo) (f:Nat) (C:P.underlying t=V (.slice e)) (z:P.info? e=V i) (B:i.size=f)
  (g k b:Nat) (p:rc ml) (L:a.eval s=U (V ⟨g,0,Y⟩) k b) (v:oi w l e f (U (V ⟨g,0,Y⟩) k b) k p) (n:Addr) (m c:Nat) (h:rc ml) (M:a.eval x=U (V n) m c) (N:Z h=m*f)
  (S:∀j u,h[j]?=V u->w.cell? (n.add j)=V u) (F:∀u∈h,u.oneCell'=true) (y:k+m<=b)
  (D:∀d,oi d l e f (U (V ⟨g,0,Y⟩) (k+m) b) (k+m) (p++h)->w.grownBy d (V g)->q (a.put o.dst (U (V ⟨g,0,Y⟩) (k+m) b)) d):
  if Region.wanted o (yielded G a.tmps)=true then Oper.wp P o a w q Q else E:=by
 rw[mK (by unfold Region.wanted;simp[r])];obtain⟨d,I,A,R⟩:=run_append_fits (P:=P) w l t o.type e i f C z B g k b p v n m c h N S F y;unfold Oper.wp execOp;simp only[H,resolve,invoke,builtin,qi,Sem.run_pure,Result.andThen_ok,List.map_toArray,mU,oH,L,M,I];exact D d A R
def Vd(h:oi w m T i (U (V ⟨j,0,Y⟩) n b) n y)(d:k<=n):oi w m T i (U (V ⟨j,0,Y⟩) k b) k (y.take (k*i)):=by
 have c:k*i<=n*i:=nB _ d;refine⟨by rw[nu,h.1];omega,?_⟩;rcases h.2 with⟨T,_⟩|⟨t,s,a,T,q,o,r,f,l,p⟩
 .simp at T
 .simp only[mu,mB,nr,and_true,true_and]at T;obtain⟨rfl,rfl⟩:=T;refine Or.inr ⟨j,b,a,rfl,q,o,by omega,f,l,?_⟩;rw[<-p,pM,pr c]
def iV{a:rc Eb}(h:oi w n 104 2 (U (V ⟨m,0,Y⟩) (Z a) i) (Z a) (a.flatMap AM))(k:Nat)(d:k<=Z a):∀j u,((a.drop k).flatMap AM)[j]?=V u->w.cell? ((⟨m,k*2,Y⟩:Addr).add j)=V u:=by
 intro j u b;have c:(a.drop k).flatMap AM=(a.flatMap AM).drop (k*2):=(JQ AM 2 a k (λ_ _=>rfl) d).2;rw[c,pY]at b;rcases h.2 with⟨e,_⟩|⟨s,p,o,e,_,l,r,_,q,f⟩
 .simp at e
 .simp only[mu,mB,nr,and_true,true_and]at e;obtain⟨rfl,rfl⟩:=e;rw[<-f,oD]at b;split at b
  .rw[Array.getElem?_toList]at b;rw[po];simp[World.cell?,l,b]
  .cases b
set_option maxRecDepth 100000
theorem Wz(g f:Nat)(d:rc Eb)(i:Nat)(n:Nat)(w:ly)(h:oi w n 104 2 (U (V ⟨g,0,Y⟩) (Z d) f) (Z d) (d.flatMap AM))(FL:Z d<=900000)(hi:i<Z d)(BS:∀u∈(d.drop (i+1)).flatMap AM,u.oneCell'=true):
  Calls prog 109 #[U (V ⟨g,0,Y⟩) (Z d) f,X .i64 i,X .i64 ((i:Int)+1)] w λe w'=>e=kt (U (V ⟨g,0,Y⟩) (Z (d.eraseIdx i)) f)/\oi w' n 104 2 (U (V ⟨g,0,Y⟩) (Z (d.eraseIdx i)) f) (Z (d.eraseIdx i)) ((d.eraseIdx i).flatMap AM)/\Ac [g] w w':=by
 have C:=Ab h;have FF:Z d<=f:=by
  rcases h.2 with⟨e,_⟩|⟨z,N,l,e,_,_,hc,_⟩
  .simp at e
  .simp only[mu]at e;omega
 have h1:(i:Int)<=(i:Int)+1:=by omega
 have h2:(i:Int)+1<=(Z d:Int):=by omega
 have h3:(0:Int)<=(i:Int):=by omega
 have HG:f<=9223372036854775807:=by
  rcases h.2 with⟨e,_⟩|⟨z,N,l,e,_,_,hc,hm,_⟩
  .simp at e
  .simp only[mu]at e;unfold maxLen at hm;omega
 have FC:((i:Int)==(i:Int)+1)=false:=by simp only[nj,ne_eq];omega
 clear h;go_enter func109,ntmps109;have HC:i<=f:=by omega
 have HE:i+1<=f:=by omega
 have Go:i+1<=Z d:=by omega
 obtain⟨W,AR,HA,A1,HJ⟩:=nC Tryz.zi;have h4:(0:Int)<=(i:Int)+1:=by omega
 have T:Hid (oi w n 104 2 (U (V ⟨g,0,Y⟩) i f) i ((d.take i).flatMap AM)):=by
  have h:=Vd (k:=i) (Aa C) (by omega);rw[<-(JQ AM 2 d i (λ_ _=>rfl) (by omega)).1]at h;exact h
 have A2:=Ab (iV (Aa C) (i+1) (by omega));have G:∀u∈(d.drop (i+1)).flatMap AM,u.oneCell'=true:=BS;have y:Z ((d.drop (i+1)).flatMap AM)=(Z d-(i+1))*2:=by
  rw[(JQ AM 2 d (i+1) (λ_ _=>rfl) (by omega)).2,nF,(Aa C).1];omega
 have r:Hid ((d.take i).flatMap AM++(d.drop (i+1)).flatMap AM=(d.eraseIdx i).flatMap AM/\i+(Z d-(i+1))=Z (d.eraseIdx i)):=by
  refine⟨?_,?_⟩
  .rw[<-mY,List.eraseIdx_eq_take_drop_succ]
  .rw[List.length_eraseIdx,mK hi];omega
 obtain⟨p,R⟩:=rd ((d.drop (i+1)).flatMap AM);rw[R]at A2 G y r;clear R;go_wp2_with fail
 by_cases x:f=i+1
 case' pos=>
  have HB:=Ab x;have v:(f=i+1)=True:=eq_true x;have Ax:p=[]:=oQ (by rw[y];omega);clear x
  go_region_law (refine JD _ (by rfl) _ _ _ (by rfl) n 104 W 2 underlying113 AR A1 g i f ((d.take i).flatMap AM) (by rfl) (C1 (Aa T)) ⟨g,0,Y⟩ (Z d-(i+1)) (f-(i+1)) p (by rfl) y (λj u s=>by rw[Ax]at s;simp at s) G (by omega) ?_;intro m H D)
  clear v Ax
 case' neg=>
  go_region_law (refine JD _ (by rfl) _ _ _ (by rfl) n 104 W 2 underlying113 AR A1 g i f ((d.take i).flatMap AM) (by rfl) (C1 (Aa T)) ⟨g,(i+1)*2,Y⟩ (Z d-(i+1)) (f-(i+1)) p (by rfl) y (λj u s=>Aa A2 j u s) G (by omega) ?_;intro m H D)
  clear x
 all_goals
  obtain⟨L,F⟩:=rd (Z (d.eraseIdx i));have HD:Z d=L+1:=by have:=(Aa r).2;omega
  have t:=H;rw[(Aa r).1,(Aa r).2,F]at t;rw[(Aa r).2,F];have A0:=Ab t;have AO:=Ab (((re [g] w).drew).grown D (λq v=>Or.inl (by simp at v;simp[v])));obtain⟨l,I,CL⟩:∃l:Array ml,m.heap[g]?=V (j1 l 104 (0,0))/\l.size=f*2:=by
   rcases t.2 with⟨e,_⟩|⟨z,N,l,e,_,hg,_,_,hs,_⟩
   .simp at e
   .simp only[mu,mB,nr,and_true,true_and]at e;obtain⟨rfl,rfl⟩:=e;exact⟨l,hg,hs⟩
  have o:AI m g l.toList 104:=by unfold AI;rw[I]
  have A:=o.cell (L*2);have E:=o.cell (L*2+1);have Bx:=o.frozen (L*2);have AH:=o.frozen (L*2+1);rw[Array.getElem?_toList,Array.getElem?_eq_getElem (by omega)]at A E;have HH:(L:Int)<=(Z d:Int):=by omega
  have Ha:L<=Z d:=by omega
  have FP:Z d<=f:=by omega
  have HL:¬f=L:=by omega
  have FW:(0:Int)<=(L:Int):=by omega
  have HK:Z d-L=1:=by omega
  clear H D t;have HN:∀ty c,(Builtin.clear_ #[113] ty #[U (V ⟨g,L*2,Y⟩) 1 c]).run prog m=.ok (.tuple #[]) (m.setCells g (L*2) [O ⟨#[]⟩,U Y 0 0]):=by
   intro ty c;have S:=run_storeCells_cells (P:=prog) g (L*2) [O ⟨#[]⟩,U Y 0 0] 0 m (λj B=>by
    rcases j with _|_|j
    .simp[A]
    .simp[E]
    .simp at B;omega) (λj B=>by
    rcases j with _|_|j
    .simpa using Bx
    .simpa using AH
    .simp at B;omega) (by simp[Value.oneCell'])
   simp only[qk]at S;(have EY:(Builtin.zeroCells (oj #[O ⟨#[]⟩,U Y 0 0]).cells 1).toList=[O ⟨#[]⟩,U Y 0 0]:=by first|kernel_rfl|(simp[Builtin.zeroCells,Value.cells];done)|decide);simp[Builtin.clear_,qL underlying113,zeroValue104,EY,S]
  have B9:Hid (World.ownsRow (m.setCells g (L*2) [O ⟨#[]⟩,U Y 0 0]) n 104 2 (U (V ⟨g,0,Y⟩) L f) L ((d.eraseIdx i).flatMap AM)):=by
   have hr:=Aa A0;have EK:=o.setCells [O ⟨#[]⟩,U Y 0 0] (L*2);refine⟨hr.1,?_⟩;rcases hr.2 with⟨e,_⟩|⟨z,N,FT,e,e2,Q,e4,e5,e6,e7⟩
   .simp at e
   .simp only[mu,mB,nr,and_true,true_and]at e;obtain⟨rfl,rfl⟩:=e;rw[I]at Q;simp only[mB,Obj.cells.injEq,and_true]at Q;subst Q;have EM:Z (Oc l.toList (L*2) [O ⟨#[]⟩,U Y 0 0])=Z l.toList:=D1 _ _ _;refine Or.inr ⟨g,f,(Oc l.toList (L*2) [O ⟨#[]⟩,U Y 0 0]).toArray,rfl,e2,EK,e4,e5,by simp only[nQ];rw[EM,Array.length_toList];exact e6,?_⟩;rw[<-e7,Hl _ _ _ (by simp;omega),nA,nG (by simp;omega),pM,Nat.min_self]
  have FB:=Ab (Ac.setCells (M:=[g]) (a:=w) (b:=g) (by simp) [O ⟨#[]⟩,U Y 0 0] (L*2) (Aa AO));clear A E Bx AH I CL o A0 AO;go_wp2_with fail
  go_ret;rw[F];exact⟨rfl,B9,FB⟩
def VC(fs:rc Eb)(x:CJ)(p:Nat):rc Eb:=if De fs x p then fs.eraseIdx p else fs
structure gK(sb so:Nat)(cells:rc ml)(ty:TypeId)(sv:ml)(fs:rc Eb)(x:CJ)(w w':ly):Prop where
 out:∃(p:Nat) (ad:Option Addr) (cp:Nat),E8 fs x p/\AI w' sb (cells.set so (U ad (Z (VC fs x p)) cp)) ty/\Io w' (U ad (Z (VC fs x p)) cp) (VC fs x p)/\∀q,(U ad (Z (VC fs x p)) cp).ownBlock=V q->sv.ownBlock=V q
 kept:Ac (sb::sv.ownBlock.toList) w w'
def gT{a:rc Eb}{x:CJ}(h:De a x n=true):n<Z a:=by
 unfold De at h;by_cases b:n<Z a
 .exact b
 .simp[b]at h
theorem gD(l d:Nat)(y:rc ml)(A:TypeId)(r:Option Addr)(k:Nat)(a:rc Eb)(c:zA)(b:rc zA)(o:Option Addr)(n:Nat)(w:ly)(H:AI w l y A)(I:y[d]?=V (U r (Z a) k))(FB:104≠A)(E0:170≠A)(h:Io w (U r (Z a) k) a)(hx:C8 w ⟨⟨c,b⟩,U o (Z b) n⟩)(EK:Z b<=1000)(HD:Z a<=900000)(DT:∀i j (x:i<Z a) (hj:j<Z a),i<=j->CX a[j].f ⟨c,b⟩<0->CX a[i].f ⟨c,b⟩<0):
  Calls prog 64 #[j3 (V ⟨l,d,Y⟩),oj #[O c,U o (Z b) n]] w λe m=>e=kt (.tuple #[])/\gK l d y A (U r (Z a) k) a ⟨c,b⟩ w m:=by
 have HC:=H.lt;have AH:Hid (∀wr,Ac [] w wr->Calls prog 103 #[U r (Z a) k,oj #[O c,U o (Z b) n],.func (.func 104) #[] #[]] wr λe m=>∃p:Nat,e=kt (.tuple #[X .i64 p,.bool (De a ⟨c,b⟩ p)])/\E8 a ⟨c,b⟩ p/\Ac [] wr m):=λwr hk=>Jc r k a ⟨⟨c,b⟩,U o (Z b) n⟩ wr (h.kept hk) (C8.kept hx hk) EK (by omega) DT
 have HB:=Ab H;have HP:=Ab h;have hK:=(re [] w).alloc (j1 [O c,U o (Z b) n].toArray 104);have T:=(H.alloc (j1 [O c,U o (Z b) n].toArray 104)).cell d;rw[I]at T;have CL:=Ab I;have ES:Hid (y.set d (U r (Z a) k)=y):=by
  show _=_;obtain⟨AO,e⟩:=p8.1 I;rw[<-e,List.set_getElem_self]
 clear I;have B:=rf w [O c,U o (Z b) n] 104;have S:=Ab hK;clear h hx DT hK H;go_enter func64,ntmps64;go_wp2_with fail
 change Code.wp _ _ _ _ (w.alloc (j1 [O c,U o (Z b) n].toArray 104));generalize w.alloc (j1 [O c,U o (Z b) n].toArray 104)=w1 at S T B⊢;obtain⟨N,A0⟩:=rd w.heap.size;rw[A0]at B⊢;clear A0;have x0:=B.cell 0;have x1:=B.cell 1;simp at x0 x1;have A1:=Ab (AH w1.drew S.drew);clear AH B
 go_region_law (go_simp;go_at_call 103;refine A1.mono ?_;rintro e L ⟨p,rfl,hcut,k3⟩;have BS:=Ab hcut;have D:=Ab (S.drew.trans k3);clear hcut k3)
 all_goals
  clear A1 T x0 x1;have z:=Ab (HP.kept D);have E:=Ab (HB.kept D);obtain⟨HT,M⟩:=rd (De a ⟨c,b⟩ p);have W:=Ab M;rw[M];clear M;have FW:=D.size;cases HT with
  |false=>
   (have v:Hid (VC a ⟨c,b⟩ p=a):=by show _=_;unfold VC;rw[Aa W,mJ (by simp)]);go_wp2;go_end0;refine⟨rfl,⟨p,r,k,BS,?_,?_,?_⟩,D.mono (by simp)⟩
   .rw[Aa v,Aa ES];exact E
   .rw[Aa v];exact z
   .rw[Aa v];exact λq t=>t
  |true=>
   have AO:=gT (Aa W);(have v:Hid (VC a ⟨c,b⟩ p=a.eraseIdx p):=by show _=_;unfold VC;rw[Aa W,mK rfl]);obtain⟨g,rfl⟩:∃g,r=V ⟨g,0,Y⟩:=by
    rcases(z.row).2 with⟨e,h0⟩|⟨g,Ha,HE,e,_⟩
    .omega
    .simp only[mu]at e;exact⟨g,e.1⟩
   have CC:g≠l:=λe=>by
    subst e;exact Aq z.row E FB (by simp[qX])
   have B0:Hid (∀F,Ac [] L F->Calls prog 109 #[U (V ⟨g,0,Y⟩) (Z a) k,X .i64 p,X .i64 ((p:Int)+1)] F λe m=>e=kt (U (V ⟨g,0,Y⟩) (Z (a.eraseIdx p)) k)/\m.cell? ⟨l,d,Y⟩=V (U (V ⟨g,0,Y⟩) (Z a) k)/\m.frozen? ⟨l,d,Y⟩=false/\gK l d y A (U (V ⟨g,0,Y⟩) (Z a) k) a ⟨c,b⟩ w (m.setCell ⟨l,d,Y⟩ (U (V ⟨g,0,Y⟩) (Z (a.eraseIdx p)) k))):=by
    intro F Q;have s:=z.kept Q;have AT:=E.kept Q;refine(Wz g k a p 0 F s.row (by omega) AO (λu hu=>by
     obtain⟨q,t,h2⟩:=m6.1 hu
     exact ZU (s.each q (oU t)).1 u h2)).mono ?_
    rintro _ m ⟨rfl,FF,P⟩;have R:=AT.kept P (by simpa using CC.symm);have AR:=R.cell d;rw[Aa CL]at AR;refine⟨rfl,AR,R.frozen d,⟨p,V ⟨g,0,Y⟩,k,BS,?_,?_,?_⟩,?_⟩
    .rw[Aa v];exact R.set d _
    .rw[Aa v];have EX:Ac [l] m (m.setCell ⟨l,d,Y⟩ (U (V ⟨g,0,Y⟩) (Z (a.eraseIdx p)) k)):=(re [l] m).setCell (p:=⟨l,d,Y⟩) (by simp) _;refine⟨Ah FF (p:=⟨l,d,Y⟩) (by simpa[qX] using CC) _,λq t=>?_⟩;have G:=List.mem_of_mem_eraseIdx t;refine⟨Ag (Ag (s.each q G).1 P (λi x C=>?_)) EX (λi x C=>?_),(s.each q G).2⟩
     .simp only[my]at C;subst C;exact Bh (s.each q G).1 s.row (by decide) i x (by simp[qX])
     .simp only[my]at C;subst C;exact Aq (s.each q G).1 AT E0 x
    .rw[Aa v];intro q t;simpa[qX] using t
    .exact((D.trans Q).mono (by simp)).trans' (N:=[g]) P (λi x=>Or.inl (by simp at x;simp[x,qX]))|>.setCell (p:=⟨l,d,Y⟩) (by simp) _
   have c3:=E.cell d;rw[Aa CL]at c3;(have FO:(p:Int)+1<=9223372036854775807:=by omega);clear z;(go_wp2_with fail);refine(B0 L (re [] L)).mono ?_;rintro _ w5 ⟨rfl,q0,q1,B9⟩;have FC:=Ab B9;clear B0 B9 c3;(go_wp2_with fail);go_end0;exact⟨rfl,FC⟩
def Ok:∀{l:rc Af},l.Nodup->∀p (b:p<Z l),l.filter (λg=> !CV g l[p])=l.eraseIdx p
 |[],_,p,b=>by simp at b
 |a::l,hn,0,b=>by
  obtain⟨c,f⟩:=oB.1 hn;have e:CV a a=true:=(GY a a).2 rfl;simp only[pS,oh,e,pj,mC,if_false,List.eraseIdx_cons_zero];refine List.filter_eq_self.2 λg h=>?_
  cases hb:CV g a with
  |false=>rfl
  |true=>rw[(GY g a).1 hb]at h;exact absurd h c
 |a::l,hn,p+1,b=>by
  obtain⟨c,f⟩:=oB.1 hn;have d:p<Z l:=by simpa using b
  have e:CV a l[p]=false:=by
   cases hb:CV a l[p] with
   |false=>rfl
   |true=>rw[(GY _ _).1 hb]at c;exact absurd (mw d) c
  simp only[List.getElem_cons_succ,oh,e,nZ,if_true,List.eraseIdx_cons_succ,Ok f p d]
def Pd{α β:Type}(f:α->β):∀(l:rc α) (i:Nat),(l.eraseIdx i).map f=(l.map f).eraseIdx i
 |[],i=>by simp
 |a::l,0=>by simp
 |a::l,i+1=>by simp[Pd f l i]
def Cx.rem{a:rc Eb}{s:rc Af}(h:Cx a s){f:Af}(k:AL f)(b:De a (Bq f) n=true):Cx (a.eraseIdx n) (s.filter λg=> !CV g f):=by
 have d:=gT b;have r:Z a=Z s:=by have:=congrArg List.length h.same;simpa using this
 have c:n<Z s:=by omega
 have l:a[n].f=Bq s[n]:=by
  have i:(a.map Eb.f)[n]?=(s.map Bq)[n]?:=by rw[h.same]
  simp only[n6,mG d,mG c,ox,mB]at i;exact i
 have j:a[n].f=Bq f:=by
  unfold De at b;rw[dif_pos d]at b;exact(Gb _ _).1 (by simpa using b)
 have m:s[n]=f:=Ma (h.canon _ (mw c)) k (l.symm.trans j);have q:=h.zG.nodup h.canon;have e:=Ok q n c;rw[m]at e;refine⟨?_,h.zG.sublist (List.filter_sublist ..),λg o=>h.canon g (mT.1 o).1⟩;rw[e,Pd,Pd,h.same]
theorem Xb(m:Nat)(y:Option Addr)(x:Nat)(n:rc CU)(v:Option Addr)(r:Nat)(f:rc Eb)(l:rc AV)(u:rc Af)(s:zA)(w:ly)(h:Gg w m y x n v r f)(E0:Cx f u)(FF:il n l s)(FO:Z n<=12)(hf:∀c∈n,Lo c/\Z (Bn c)<=70000)(DT:∀c∈n,Z c.zD<=1000)(FW:s.size<=9223372036854775807)(HL:Z f<=1000):
  Calls prog 36 #[j3 (V ⟨m,0,Y⟩),O s] w (EF m y x n (U v (Z f) r) (Ft l u s) w):=by
 have FB:=Ab (LA y x n s w h.prog FO hf DT FW);have HB:=Ab h;have A:=Ab E0;have S:=Ab FF;have c0:=h.base.cell 0;simp at c0;have CC:=Ab (LW m w);clear h E0 FF hf DT;go_enter func36,ntmps36;go_wp2_with fail
 refine CC.mono ?_;rintro _ Q ⟨rfl,FP⟩;subst FP;go_wp2_with fail
 refine FB.mono ?_;rintro _ z ⟨⟨⟨d,b⟩,xv⟩,rfl,N,AT,AB,T⟩;obtain⟨i,j,e⟩:=Al AT;simp only at e N AB;subst e;simp only[AM];rw[(Aa S).same]at N⊢;have AR:=Ab (HB.kept T);have EM:=Ab T;have A2:=Ab N;have B2:=Ab AT;clear FB N AT T CC c0;by_cases D:E3 l s=0
 .have FL:(E3 l s !=0)=false:=by simp[D]
  obtain⟨BT,R⟩:=(Aa S).fact D;have F:(⟨d,b⟩:CJ)=Bq (Cs s):=by
   have:=(Aa A2 D).symm.trans BT;exact pH this
  have C:Hid (Ft l u s=if DB u (Cs s)=true then(0,u.filter λg=> !CV g (Cs s))else(7,u)):=by show _=_;unfold Ft;rw[mK D]
  have M:=Ab (rf z [O d,U i (Z b) j] 104);have G:=Ab (AR.kept ((re [] z).alloc (j1 [O d,U i (Z b) j].toArray 104)));have A1:=Ab (EM.alloc (j1 [O d,U i (Z b) j].toArray 104));have A0:=Ab (C8.kept (Aa B2) ((re [] z).alloc (j1 [O d,U i (Z b) j].toArray 104)));go_wp2_with fail
  change Code.wp _ _ _ _ (z.alloc (j1 [O d,U i (Z b) j].toArray 104));generalize z.alloc (j1 [O d,U i (Z b) j].toArray 104)=w3 at M G A1 A0⊢;obtain⟨E,hX⟩:=rd z.heap.size;rw[hX]at M⊢;clear hX;have EY:Hid (∀a,Ac [] w3 a->a.cell? ⟨E,0,Y⟩=V (O d)/\a.cell? ⟨E,1,Y⟩=V (U i (Z b) j)):=λa o=>⟨o.cellAt (by have:=M.cell 0;simpa using this),o.cellAt (by have:=M.cell 1;simpa using this)⟩
  have ES:Hid (∀a,Ac [] w3 a->Calls prog 60 #[j3 (V ⟨m,1,Y⟩),oj #[O d,U i (Z b) j]] a λe B=>e=kt (.bool (DB u (Cs s)))/\Ac [] a B):=λa o=>by
   refine(JO m 1 v r f ⟨⟨d,b⟩,U i (Z b) j⟩ a (by have:=(G.kept o).base.cell 1;simpa using this) (G.kept o).facts (C8.kept (Aa A0) o) AB (by omega) ((Aa A).mono ⟨d,b⟩)).mono ?_;rintro _ B ⟨p,rfl,W,k⟩;refine⟨?_,k⟩;(have AO:E8 f (Bq (Cs s)) p:=by rw[<-F];exact W);show kt (.bool (De f ⟨d,b⟩ p))=_;rw[F,(Aa A).zk R AO]
  have FC:Hid (∀a,Ac [] w3 a->DB u (Cs s)=true->Calls prog 64 #[j3 (V ⟨m,1,Y⟩),oj #[O d,U i (Z b) j]] a λe B=>e=kt (.tuple #[])/\EF m y x n (U v (Z f) r) (Ft l u s) Q (kt (X .i64 0)) B):=λa o Ax=>by
   have L:=G.kept o;refine(gD m 1 [U y (Z n) x,U v (Z f) r] 117 v r f d b i j a L.base rfl (by decide) (by decide) L.facts (C8.kept (Aa A0) o) AB (by omega) ((Aa A).mono ⟨d,b⟩)).mono ?_;rintro _ B ⟨rfl,⟨p,ad,cp,W,HH,HF,HG⟩,B9⟩;(have AO:E8 f (Bq (Cs s)) p:=by rw[<-F];exact W);(have hh:De f (Bq (Cs s)) p=true:=by rw[(Aa A).zk R AO];exact Ax);have he:VC f ⟨d,b⟩ p=f.eraseIdx p:=by
    unfold VC;rw[F,hh];rfl
   have FT:=L.rstT B9;refine⟨rfl,ad,cp,VC f ⟨d,b⟩ p,by rw[Aa C,Ax];rfl,⟨HH,L.prog.rst FT (λt ht=>by simp at ht;rcases ht with h|h<;>simp[h]),HF⟩,?_,(Ac.mono (A1.trans o) (by simp)).trans B9,λq H=>Or.inl (HG q H)⟩;rw[Aa C,Ax,he];exact(Aa A).rem R hh
  clear F BT R AR B2 A2 S
  go_region_held3 (λa=>Ac [] w3 a/\a.cell? ⟨E,0,Y⟩=V (O d)/\a.cell? ⟨E,1,Y⟩=V (U i (Z b) j)) ((go_split_ands;refine(fun(FA:Ac [] w3 _)=>And.intro FA (EY _ FA)) ?_;repeat (first|assumption|exact re [] _|refine Ac.drew ?_|refine Ac.alloc ?_ _))) ((go_at_call 60;refine(ES _ (by go_split_ands;assumption)).mono ?_;rintro _ I ⟨rfl,k5⟩;have P:Ac [] w3 I:=(by go_split_ands;exact Ac.trans (by assumption) k5);clear k5))
  rename_i Go;clear Go ES;cases HS:DB u (Cs s)with
  |false=>
   have HO:Hid (EF m y x n (U v (Z f) r) (Ft l u s) Q (kt (X .i64 7)) I):=⟨v,r,f,by rw[Aa C,HS];rfl,G.kept P,by rw[Aa C,HS];exact A,Ac.mono (A1.trans P) (by simp),λq H=>Or.inl H⟩;(go_wp2_with fail);go_ret;exact HO
  |true=>
   obtain⟨d1,d2⟩:=EY I P;(have BS:Hid (∀a,Ac [] I a->Calls prog 64 #[j3 (V ⟨m,1,Y⟩),oj #[O d,U i (Z b) j]] a λe B=>e=kt (.tuple #[])/\EF m y x n (U v (Z f) r) (Ft l u s) Q (kt (X .i64 0)) B):=λa o=>FC a (P.trans o) HS);clear FC;go_wp2_with fail
   go_region_law (go_simp;go_at_call 64;refine(BS _ ((re [] I).drew)).mono ?_;rintro _ w6 ⟨rfl,B0⟩;have HA:=Ab B0;clear B0)
   all_goals
    clear BS;(go_wp2_with fail);go_ret;exact HA
 .have FL:(E3 l s !=0)=true:=by simp[D]
  have C:Hid (Ft l u s=(E3 l s,u)):=by show _=_;unfold Ft;rw[mJ D]
  have HO:Hid (EF m y x n (U v (Z f) r) (Ft l u s) Q (kt (X .i64 (E3 l s))) (z.alloc (j1 #[O d,U i (Z b) j] 104))):=⟨v,r,f,by rw[Aa C],AR.kept ((re [] z).alloc _),by rw[Aa C];exact A,(Ac.mono (Aa EM) (by simp)).alloc _,λq H=>Or.inl H⟩;go_wp2_with fail
  go_ret;exact HO
def F2.via{α β γ:Type}{R:α->β->Prop}{f:β->γ}(g:∀a b c,R a b->f b=f c->R a c):∀{l:rc α} {m d:rc β},F2 R l m->m.map f=d.map f->F2 R l d
 |[],[],[],_,_=>F2.nil
 |[],[],_::_,_,h=>by simp at h
 |[],_::_,_,h,_=>h.elim
 |_::_,[],_,h,_=>h.elim
 |_::_,_::_,[],_,h=>by simp at h
 |a::l,b::m,c::d,h,e=>by
  simp only[mU,oA]at e;exact F2.cons (g a b c h.1 e.1) (F2.via g h.2 e.2)
def dt{c:CU}{r d:AV}(h:Qy c r)(e:r.erase=d.erase):Qy c d:=by
 have a:r.head=d.head:=congrArg Ca.head e;have i:r.bl.map Prod.fst=d.bl.map Prod.fst:=congrArg Ca.body e;have g:r.at_=d.at_:=congrArg Ca.at_ e;refine⟨by rw[<-a];exact h.hp,by rw[<-a];exact h.hn,by rw[<-a];exact h.zE,h.lits.via (λp q j b e=>?_) i,by rw[<-a];exact h.len,by rw[<-a,<-g];exact h.at_⟩;refine⟨by rw[<-e];exact b.eq,by rw[<-e];exact b.len,λf=>?_⟩;rw[<-e];refine b.plain ?_;unfold MP at f⊢;rw[e];exact f
def Im.other{d c:rc AV}(h:Im p d)(e:d.map AV.erase=c.map AV.erase)(g:Cn c):Im p c:=
 ⟨F2.via (R:=Qy) (f:=AV.erase) (λa b i h e=>dt h e) h.zl e,g,h.zM,h.names⟩
def gI(b:Cn c){r:AV}(e:r∈c):∀t∈E5 r,Dt t:=by
 intro t a;unfold E5 at a;rcases mF.1 a with a|a
 .exact(b.zN r e).args t a
 .obtain⟨q,f,a⟩:=m6.1 a;have h:=b.lits r e q.1 (mR f);unfold Dz at h;unfold AG MP at a;by_cases d:(q.1.kind==97||q.1.kind==33)=true
  .rw[mK d]at h a;exact h.args t a
  .rw[mJ d]at h a;simp only[mA,nI,or_false]at a;rcases a with rfl|rfl
   .exact h.1
   .exact h.2.1
def ck(a:Cn c){r:AV}(e:r∈c):∀y∈JB r,A8 y:=by
 intro y d;obtain⟨t,g,rfl⟩:=mD.1 d;obtain⟨f,b⟩:=mT.1 g;have i:t.v=0:=by simpa using b
 rcases gI a e t f with h|h
 .exact h.2
 .have:=h.1;rw[i]at this;exact absurd this (by decide)
def Qf(h:Im p c)(j:A8 s):JG (p.flatMap C5) (AD s)=DY (Bj c) s:=by
 rw[nT,He,I5,(Fc c).mem,(C9 _).2,F2.flatMap (λa b h=>h.zC) h.zl];constructor
 .intro d;obtain⟨r,g,d⟩:=m6.1 d;obtain⟨y,f,e⟩:=mD.1 d;have i:=ck h.pass g y f;rw[J8 i]at e;rw[<-FQ i j e];exact m6.2 ⟨r,g,f⟩
 .intro d;obtain⟨r,g,f⟩:=m6.1 d;exact m6.2 ⟨r,g,mD.2 ⟨s,f,J8 j⟩⟩
def Yy{a:rc CU}(h:Im a c)(x:zA)(n:Nat):iq a x=V n↔BQ c x=(n:Int):=by
 rw[SA h.zl,Mh];unfold PS;cases(FN c).find? (jX x)with
 |none=>simp
 |some p=>
  simp only[ox,mB];constructor<;>intro h<;>omega
def V5(h:Im p c)(s:zA):il p c s:=by
 refine⟨?_,λj=>?_⟩
 .unfold Xg E3;rw[ib];cases ho:Il s with
  |false=>rfl
  |true=>
   obtain⟨_,i,_⟩:=GS ho;simp only[if_true];have d:iq p (Bq (Cs s)).name=V (Z (Bq (Cs s)).zC)↔BQ c (Cs s).name=(Z (Cs s).args:Int):=by
    rw[Yy h];simp only[Bq,mI]
   have f:(Bq (Cs s)).zC.all (JG (p.flatMap C5))=(Cs s).args.all (DY (Bj c)):=by
    simp only[Bq,List.all_map];rw[nT,nY,nY];constructor
    .intro g x a;rw[<-Qf h (i x a)];exact g x a
    .intro g x a;show JG _ (AD x)=true;rw[Qf h (i x a)];exact g x a
   by_cases b:BQ c (Cs s).name=(Z (Cs s).args:Int)
   .rw[mK b,mK (d.2 b),f]
   .rw[mJ b,mJ (λe=>b (d.1 e))]
 .obtain⟨d,f,_⟩:=GS (Kc j);exact⟨d,f⟩
def PI(h:E3 c s=0):Dk c (Cs s):=by
 have a:=Kc h;obtain⟨_,g,e⟩:=GS a;have f:=(Z5 a).2;unfold E3 at h;rw[mK a]at h;by_cases d:BQ c (Cs s).name=(Z (Cs s).args:Int)
 .rw[mK d]at h;cases ht:(Cs s).args.all (DY (Bj c))with
  |false=>rw[ht]at h;cases h
  |true=>
   refine⟨g,?_,e,f,d,λx i=>(I5 _ _).1 (nY.1 ht x i)⟩;unfold Il at a;rw[mV]at a;have b:=a.1;(have hF:Cs s=Av Bl (Ao s 0).1.head:=by unfold Cs;rw[mK b]);unfold Li at b;simp only[mV,oJ,oF]at b;rw[hF];exact(DO b.2.1).head.name
 .rw[mJ d]at h;cases h
