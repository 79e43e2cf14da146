import Derived.OwnWalk
import Derived.Test.YtoihbhenbmffcaaGreatZBB
set_option linter.all false
set_option maxHeartbeats 0
open List renaming length->Z
open Option renaming none->Y,some->V
open Go.Value renaming slice->U,int->X,string->O,pointer->j2,agg->kx,ownBlock->kF
open Go.Obj renaming cells->jj
open Go.Ending renaming returned->j3
open Go renaming World->kq,Value->ks
open Go.World renaming ownsRow->kw
namespace Go.Proofs.YtoihbhenbmffcaaGreat
open Go.RowKit Go.Proofs.Tryz
variable{P:Program}{a:Act}{Q:Exit->Act->kq->Prop}{w:kq}{m i n k j b:Nat}{T:TypeId}{y:kJ ks}{p:kJ CB}{c:kJ AY}{s:zA}
def Ib(w:kq){G:Array Oper}{o:Oper}{q:Act->kq->Prop}{E:Prop}(r:o.guard=Y)(s x:Operand)(t:TypeId)
  (H:o.op=.call {callee:=.builtin .append,args:=#[s,x],argTypes:=#[t,t]})
  (l:Nat) (e:TypeId) (i:TypeInfo) (f:Nat) (C:P.underlying t=V (.slice e)) (z:P.info? e=V i) (B:i.size=f)
  (g k b:Nat) (p:kJ ks) (L:a.eval s=U (V ⟨g,0,Y⟩) k b) (v:kw w l e f (U (V ⟨g,0,Y⟩) k b) k p) (n:Addr) (m c:Nat) (h:kJ ks) (M:a.eval x=U (V n) m c) (N:Z h=m*f)
  (S:∀j u,h[j]?=V u->w.cell? (n.add j)=V u) (F:∀u∈h,u.oneCell'=true) (y:k+m<=b)
  (D:∀d,kw d l e f (U (V ⟨g,0,Y⟩) (k+m) b) (k+m) (p++h)->w.grownBy d (V g)->q (a.put o.dst (U (V ⟨g,0,Y⟩) (k+m) b)) d):
  if Region.wanted o (yielded G a.tmps)=true then Oper.wp P o a w q Q else E:=by
 rw[fF (by unfold Region.wanted;simp[r])];obtain⟨d,I,A,R⟩:=run_append_fits (P:=P) w l t o.type e i f C z B g k b p v n m c h N S F y;unfold Oper.wp execOp;simp only[H,resolve,invoke,builtin,jO,Sem.run_pure,Result.andThen_ok,List.map_toArray,fS,iV,L,M,I];exact D d A R
def Sq(h:kw w m T i (U (V ⟨j,0,Y⟩) n b) n y)(d:k<=n):kw w m T i (U (V ⟨j,0,Y⟩) k b) k (y.take (k*i)):=by
 have c:k*i<=n*i:=gK _ d;refine⟨by rw[gq,h.1];omega,?_⟩;rcases h.2 with⟨T,_⟩|⟨t,s,a,T,q,o,r,f,l,p⟩
 .simp at T
 .simp only[fg,fu,gi,and_true,true_and]at T;obtain⟨rfl,rfl⟩:=T;refine Or.inr ⟨j,b,a,rfl,q,o,by omega,f,l,?_⟩;rw[<-p,je,iS c]
def cu{a:kJ DF}(h:kw w n 56 2 (U (V ⟨m,0,Y⟩) (Z a) i) (Z a) (a.flatMap AI))(k:Nat)(d:k<=Z a):∀j u,((a.drop k).flatMap AI)[j]?=V u->w.cell? ((⟨m,k*2,Y⟩:Addr).add j)=V u:=by
 intro j u b;have c:(a.drop k).flatMap AI=(a.flatMap AI).drop (k*2):=(Il AI 2 a k (λ_ _=>rfl) d).2;rw[c,jq]at b;rcases h.2 with⟨e,_⟩|⟨s,p,o,e,_,l,r,_,q,f⟩
 .simp at e
 .simp only[fg,fu,gi,and_true,true_and]at e;obtain⟨rfl,rfl⟩:=e;rw[<-f,iB]at b;split at b
  .rw[Array.getElem?_toList]at b;rw[iP];simp[World.cell?,l,b]
  .cases b
set_option maxRecDepth 100000
theorem TJ(g f:Nat)(d:kJ DF)(i:Nat)(n:Nat)(w:kq)(h:kw w n 56 2 (U (V ⟨g,0,Y⟩) (Z d) f) (Z d) (d.flatMap AI))(HC:Z d<=900000)(hi:i<Z d)(CW:∀u∈(d.drop (i+1)).flatMap AI,u.oneCell'=true):
  Calls prog 49 #[U (V ⟨g,0,Y⟩) (Z d) f,X .i64 i,X .i64 ((i:Int)+1)] w λe w'=>e=j3 (U (V ⟨g,0,Y⟩) (Z (d.eraseIdx i)) f)/\kw w' n 56 2 (U (V ⟨g,0,Y⟩) (Z (d.eraseIdx i)) f) (Z (d.eraseIdx i)) ((d.eraseIdx i).flatMap AI)/\Ac [g] w w':=by
 have C:=Ab h;have HB:Z d<=f:=by
  rcases h.2 with⟨e,_⟩|⟨z,N,l,e,_,_,hc,_⟩
  .simp at e
  .simp only[fg]at e;omega
 have h1:(i:Int)<=(i:Int)+1:=by omega
 have h2:(i:Int)+1<=(Z d:Int):=by omega
 have h3:(0:Int)<=(i:Int):=by omega
 have HQ:f<=9223372036854775807:=by
  rcases h.2 with⟨e,_⟩|⟨z,N,l,e,_,_,hc,hm,_⟩
  .simp at e
  .simp only[fg]at e;unfold maxLen at hm;omega
 have HA:((i:Int)==(i:Int)+1)=false:=by simp only[gm,ne_eq];omega
 clear h;go_enter func49,ntmps49;have HL:i<=f:=by omega
 have HN:i+1<=f:=by omega
 have HH:i+1<=Z d:=by omega
 obtain⟨W,AT,HJ,BT,HT⟩:=gH Tryz.info56;have h4:(0:Int)<=(i:Int)+1:=by omega
 have T:Hid (kw w n 56 2 (U (V ⟨g,0,Y⟩) i f) i ((d.take i).flatMap AI)):=by
  have h:=Sq (k:=i) (Aa C) (by omega);rw[<-(Il AI 2 d i (λ_ _=>rfl) (by omega)).1]at h;exact h
 have B9:=Ab (cu (Aa C) (i+1) (by omega));have G:∀u∈(d.drop (i+1)).flatMap AI,u.oneCell'=true:=CW;have y:Z ((d.drop (i+1)).flatMap AI)=(Z d-(i+1))*2:=by
  rw[(Il AI 2 d (i+1) (λ_ _=>rfl) (by omega)).2,gD,(Aa C).1];omega
 have r:Hid ((d.take i).flatMap AI++(d.drop (i+1)).flatMap AI=(d.eraseIdx i).flatMap AI/\i+(Z d-(i+1))=Z (d.eraseIdx i)):=by
  refine⟨?_,?_⟩
  .rw[<-fR,List.eraseIdx_eq_take_drop_succ]
  .rw[List.length_eraseIdx,fF hi];omega
 obtain⟨p,R⟩:=kK ((d.drop (i+1)).flatMap AI);rw[R]at B9 G y r;clear R;go_wp2_with fail
 by_cases x:f=i+1
 case' pos=>
  have HK:=Ab x;have v:(f=i+1)=True:=eq_true x;have Ax:p=[]:=iu (by rw[y];omega);clear x
  go_region_law (refine Ib _ (by rfl) _ _ _ (by rfl) n 56 W 2 underlying43 AT BT g i f ((d.take i).flatMap AI) (by rfl) (CN (Aa T)) ⟨g,0,Y⟩ (Z d-(i+1)) (f-(i+1)) p (by rfl) y (λj u s=>by rw[Ax]at s;simp at s) G (by omega) ?_;intro m H D)
  clear v Ax
 case' neg=>
  go_region_law (refine Ib _ (by rfl) _ _ _ (by rfl) n 56 W 2 underlying43 AT BT g i f ((d.take i).flatMap AI) (by rfl) (CN (Aa T)) ⟨g,(i+1)*2,Y⟩ (Z d-(i+1)) (f-(i+1)) p (by rfl) y (λj u s=>Aa B9 j u s) G (by omega) ?_;intro m H D)
  clear x
 all_goals
  obtain⟨L,F⟩:=kK (Z (d.eraseIdx i));have HM:Z d=L+1:=by have:=(Aa r).2;omega
  have t:=H;rw[(Aa r).1,(Aa r).2,F]at t;rw[(Aa r).2,F];have BA:=Ab t;have AR:=Ab (((kL [g] w).drew).grown D (λq v=>Or.inl (by simp at v;simp[v])));obtain⟨l,I,FA⟩:∃l:Array ks,m.heap[g]?=V (jj l 56 (0,0))/\l.size=f*2:=by
   rcases t.2 with⟨e,_⟩|⟨z,N,l,e,_,hg,_,_,hs,_⟩
   .simp at e
   .simp only[fg,fu,gi,and_true,true_and]at e;obtain⟨rfl,rfl⟩:=e;exact⟨l,hg,hs⟩
  have o:AF m g l.toList 56:=by unfold AF;rw[I]
  have A:=o.cell (L*2);have E:=o.cell (L*2+1);have CC:=o.frozen (L*2);have AH:=o.frozen (L*2+1);rw[Array.getElem?_toList,Array.getElem?_eq_getElem (by omega)]at A E;have HR:(L:Int)<=(Z d:Int):=by omega
  have HI:L<=Z d:=by omega
  have HE:Z d<=f:=by omega
  have HV:¬f=L:=by omega
  have HG:(0:Int)<=(L:Int):=by omega
  have HU:Z d-L=1:=by omega
  clear H D t;have HX:∀ty c,(Builtin.clear_ #[43] ty #[U (V ⟨g,L*2,Y⟩) 1 c]).run prog m=.ok (.tuple #[]) (m.setCells g (L*2) [O ⟨#[]⟩,U Y 0 0]):=by
   intro ty c;have S:=run_storeCells_cells (P:=prog) g (L*2) [O ⟨#[]⟩,U Y 0 0] 0 m (λj B=>by
    rcases j with _|_|j
    .simp[A]
    .simp[E]
    .simp at B;omega) (λj B=>by
    rcases j with _|_|j
    .simpa using CC
    .simpa using AH
    .simp at B;omega) (by simp[Value.oneCell'])
   simp only[jP]at S;(have FT:(Builtin.zeroCells (kx #[O ⟨#[]⟩,U Y 0 0]).cells 1).toList=[O ⟨#[]⟩,U Y 0 0]:=by first|kernel_rfl|(simp[Builtin.zeroCells,Value.cells];done)|decide);simp[Builtin.clear_,j7 underlying43,zeroValue56,FT,S]
  have EY:Hid (World.ownsRow (m.setCells g (L*2) [O ⟨#[]⟩,U Y 0 0]) n 56 2 (U (V ⟨g,0,Y⟩) L f) L ((d.eraseIdx i).flatMap AI)):=by
   have hr:=Aa BA;have FF:=o.setCells [O ⟨#[]⟩,U Y 0 0] (L*2);refine⟨hr.1,?_⟩;rcases hr.2 with⟨e,_⟩|⟨z,N,HF,e,e2,Q,e4,e5,e6,e7⟩
   .simp at e
   .simp only[fg,fu,gi,and_true,true_and]at e;obtain⟨rfl,rfl⟩:=e;rw[I]at Q;simp only[fu,Obj.cells.injEq,and_true]at Q;subst Q;have FL:Z (LV l.toList (L*2) [O ⟨#[]⟩,U Y 0 0])=Z l.toList:=Dm _ _ _;refine Or.inr ⟨g,f,(LV l.toList (L*2) [O ⟨#[]⟩,U Y 0 0]).toArray,rfl,e2,FF,e4,e5,by simp only[gS];rw[FL,Array.length_toList];exact e6,?_⟩;rw[<-e7,Gu _ _ _ (by simp;omega),gF,gG (by simp;omega),je,Nat.min_self]
  have Ha:=Ab (Ac.setCells (M:=[g]) (a:=w) (b:=g) (by simp) [O ⟨#[]⟩,U Y 0 0] (L*2) (Aa AR));clear A E CC AH I FA o BA AR;go_wp2_with fail
  go_ret;rw[F];exact⟨rfl,EY,Ha⟩
def SR(fs:kJ DF)(x:Cg)(p:Nat):kJ DF:=if CY fs x p then fs.eraseIdx p else fs
structure aX(sb so:Nat)(cells:kJ ks)(ty:TypeId)(sv:ks)(fs:kJ DF)(x:Cg)(w w':kq):Prop where
 out:∃(p:Nat) (ad:Option Addr) (cp:Nat),Eu fs x p/\AF w' sb (cells.set so (U ad (Z (SR fs x p)) cp)) ty/\Iw w' (U ad (Z (SR fs x p)) cp) (SR fs x p)/\∀q,(U ad (Z (SR fs x p)) cp).ownBlock=V q->sv.ownBlock=V q
 kept:Ac (sb::sv.ownBlock.toList) w w'
def bj{a:kJ DF}{x:Cg}(h:CY a x n=true):n<Z a:=by
 unfold CY at h;by_cases b:n<Z a
 .exact b
 .simp[b]at h
theorem aP(l d:Nat)(y:kJ ks)(A:TypeId)(r:Option Addr)(k:Nat)(a:kJ DF)(c:zA)(b:kJ zA)(o:Option Addr)(n:Nat)(w:kq)(H:AF w l y A)(I:y[d]?=V (U r (Z a) k))(Ha:56≠A)(FW:98≠A)(h:Iw w (U r (Z a) k) a)(hx:Dc w ⟨⟨c,b⟩,U o (Z b) n⟩)(FF:Z b<=1000)(HO:Z a<=900000)(FC:∀i j (x:i<Z a) (hj:j<Z a),i<=j->Cq a[j].f ⟨c,b⟩<0->Cq a[i].f ⟨c,b⟩<0):
  Calls prog 23 #[j2 (V ⟨l,d,Y⟩),kx #[O c,U o (Z b) n]] w λe m=>e=j3 (.tuple #[])/\aX l d y A (U r (Z a) k) a ⟨c,b⟩ w m:=by
 have HN:=H.lt;have AH:Hid (∀wr,Ac [] w wr->Calls prog 41 #[U r (Z a) k,kx #[O c,U o (Z b) n],.func (.func 42) #[] #[]] wr λe m=>∃p:Nat,e=j3 (.tuple #[X .i64 p,.bool (CY a ⟨c,b⟩ p)])/\Eu a ⟨c,b⟩ p/\Ac [] wr m):=λwr hk=>Hl r k a ⟨⟨c,b⟩,U o (Z b) n⟩ wr (h.kept hk) (Dc.kept hx hk) FF (by omega) FC
 have HB:=Ab H;have HP:=Ab h;have hK:=(kL [] w).alloc (jj [O c,U o (Z b) n].toArray 56);have T:=(H.alloc (jj [O c,U o (Z b) n].toArray 56)).cell d;rw[I]at T;have FA:=Ab I;have FO:Hid (y.set d (U r (Z a) k)=y):=by
  show _=_;obtain⟨AR,e⟩:=jt.1 I;rw[<-e,List.set_getElem_self]
 clear I;have B:=kN w [O c,U o (Z b) n] 56;have S:=Ab hK;clear h hx FC hK H;go_enter func23,ntmps23;go_wp2_with fail
 change Code.wp _ _ _ _ (w.alloc (jj [O c,U o (Z b) n].toArray 56));generalize w.alloc (jj [O c,U o (Z b) n].toArray 56)=w1 at S T B⊢;obtain⟨N,BA⟩:=kK w.heap.size;rw[BA]at B⊢;clear BA;have x0:=B.cell 0;have x1:=B.cell 1;simp at x0 x1;have BT:=Ab (AH w1.drew S.drew);clear AH B
 go_region_law (go_simp;go_at_call 41;refine BT.mono ?_;rintro e L ⟨p,rfl,hcut,k3⟩;have CW:=Ab hcut;have D:=Ab (S.drew.trans k3);clear hcut k3)
 all_goals
  clear BT T x0 x1;have z:=Ab (HP.kept D);have E:=Ab (HB.kept D);obtain⟨HT,M⟩:=kK (CY a ⟨c,b⟩ p);have W:=Ab M;rw[M];clear M;have HH:=D.size;cases HT with
  |false=>
   (have v:Hid (SR a ⟨c,b⟩ p=a):=by show _=_;unfold SR;rw[Aa W,fB (by simp)]);go_wp2;go_end0;refine⟨rfl,⟨p,r,k,CW,?_,?_,?_⟩,D.mono (by simp)⟩
   .rw[Aa v,Aa FO];exact E
   .rw[Aa v];exact z
   .rw[Aa v];exact λq t=>t
  |true=>
   have AR:=bj (Aa W);(have v:Hid (SR a ⟨c,b⟩ p=a.eraseIdx p):=by show _=_;unfold SR;rw[Aa W,fF rfl]);obtain⟨g,rfl⟩:∃g,r=V ⟨g,0,Y⟩:=by
    rcases(z.row).2 with⟨e,h0⟩|⟨g,HJ,HQ,e,_⟩
    .omega
    .simp only[fg]at e;exact⟨g,e.1⟩
   have E0:g≠l:=λe=>by
    subst e;exact As z.row E Ha (by simp[kF])
   have EM:Hid (∀F,Ac [] L F->Calls prog 49 #[U (V ⟨g,0,Y⟩) (Z a) k,X .i64 p,X .i64 ((p:Int)+1)] F λe m=>e=j3 (U (V ⟨g,0,Y⟩) (Z (a.eraseIdx p)) k)/\m.cell? ⟨l,d,Y⟩=V (U (V ⟨g,0,Y⟩) (Z a) k)/\m.frozen? ⟨l,d,Y⟩=false/\aX l d y A (U (V ⟨g,0,Y⟩) (Z a) k) a ⟨c,b⟩ w (m.setCell ⟨l,d,Y⟩ (U (V ⟨g,0,Y⟩) (Z (a.eraseIdx p)) k))):=by
    intro F Q;have s:=z.kept Q;have Bx:=E.kept Q;refine(TJ g k a p 0 F s.row (by omega) AR (λu hu=>by
     obtain⟨q,t,h2⟩:=gc.1 hu
     exact WH (s.each q (iT t)).1 u h2)).mono ?_
    rintro _ m ⟨rfl,HC,P⟩;have R:=Bx.kept P (by simpa using E0.symm);have AT:=R.cell d;rw[Aa FA]at AT;refine⟨rfl,AT,R.frozen d,⟨p,V ⟨g,0,Y⟩,k,CW,?_,?_,?_⟩,?_⟩
    .rw[Aa v];exact R.set d _
    .rw[Aa v];have FP:Ac [l] m (m.setCell ⟨l,d,Y⟩ (U (V ⟨g,0,Y⟩) (Z (a.eraseIdx p)) k)):=(kL [l] m).setCell (p:=⟨l,d,Y⟩) (by simp) _;refine⟨Af HC (p:=⟨l,d,Y⟩) (by simpa[kF] using E0) _,λq t=>?_⟩;have G:=List.mem_of_mem_eraseIdx t;refine⟨Am (Am (s.each q G).1 P (λi x C=>?_)) FP (λi x C=>?_),(s.each q G).2⟩
     .simp only[ft]at C;subst C;exact Bg (s.each q G).1 s.row (by decide) i x (by simp[kF])
     .simp only[ft]at C;subst C;exact As (s.each q G).1 Bx FW x
    .rw[Aa v];intro q t;simpa[kF] using t
    .exact((D.trans Q).mono (by simp)).trans' (N:=[g]) P (λi x=>Or.inl (by simp at x;simp[x,kF]))|>.setCell (p:=⟨l,d,Y⟩) (by simp) _
   have c3:=E.cell d;rw[Aa FA]at c3;(have HE:(p:Int)+1<=9223372036854775807:=by omega);clear z;(go_wp2_with fail);refine(EM L (kL [] L)).mono ?_;rintro _ w5 ⟨rfl,q0,q1,EY⟩;have HA:=Ab EY;clear EM EY c3;(go_wp2_with fail);go_end0;exact⟨rfl,HA⟩
def L4:∀{l:kJ Ag},l.Nodup->∀p (b:p<Z l),l.filter (λg=> !Cl g l[p])=l.eraseIdx p
 |[],_,p,b=>by simp at b
 |a::l,hn,0,b=>by
  obtain⟨c,f⟩:=iv.1 hn;have e:Cl a a=true:=(F5 a a).2 rfl;simp only[jl,gW,e,i6,fq,if_false,List.eraseIdx_cons_zero];refine List.filter_eq_self.2 λg h=>?_
  cases hb:Cl g a with
  |false=>rfl
  |true=>rw[(F5 g a).1 hb]at h;exact absurd h c
 |a::l,hn,p+1,b=>by
  obtain⟨c,f⟩:=iv.1 hn;have d:p<Z l:=by simpa using b
  have e:Cl a l[p]=false:=by
   cases hb:Cl a l[p] with
   |false=>rfl
   |true=>rw[(F5 _ _).1 hb]at c;exact absurd (fj d) c
  simp only[List.getElem_cons_succ,gW,e,gX,if_true,List.eraseIdx_cons_succ,L4 f p d]
def MX{α β:Type}(f:α->β):∀(l:kJ α) (i:Nat),(l.eraseIdx i).map f=(l.map f).eraseIdx i
 |[],i=>by simp
 |a::l,0=>by simp
 |a::l,i+1=>by simp[MX f l i]
def CG.rem{a:kJ DF}{s:kJ Ag}(h:CG a s){f:Ag}(k:AQ f)(b:CY a (Bn f) n=true):CG (a.eraseIdx n) (s.filter λg=> !Cl g f):=by
 have d:=bj b;have r:Z a=Z s:=by have:=congrArg List.length h.same;simpa using this
 have c:n<Z s:=by omega
 have l:a[n].f=Bn s[n]:=by
  have i:(a.map DF.f)[n]?=(s.map Bn)[n]?:=by rw[h.same]
  simp only[io,fI d,fI c,im,fu]at i;exact i
 have j:a[n].f=Bn f:=by
  unfold CY at b;rw[dif_pos d]at b;exact(Fc _ _).1 (by simpa using b)
 have m:s[n]=f:=J3 (h.canon _ (fj c)) k (l.symm.trans j);have q:=h.zH.nodup h.canon;have e:=L4 q n c;rw[m]at e;refine⟨?_,h.zH.sublist (List.filter_sublist ..),λg o=>h.canon g (fT.1 o).1⟩;rw[e,MX,MX,h.same]
theorem Zw(m:Nat)(y:Option Addr)(x:Nat)(n:kJ CB)(v:Option Addr)(r:Nat)(f:kJ DF)(l:kJ AY)(u:kJ Ag)(s:zA)(w:kq)(h:Ij w m y x n v r f)(FW:CG f u)(HC:bG n l s)(HE:Z n<=12)(hf:∀c∈n,Js c/\Z (A5 c)<=70000)(FC:∀c∈n,Z c.zE<=1000)(HH:s.size<=9223372036854775807)(HX:Z f<=1000):
  Calls prog 9 #[j2 (V ⟨m,0,Y⟩),O s] w (Em m y x n (U v (Z f) r) (GN l u s) w):=by
 have Ha:=Ab (JD y x n s w h.prog HE hf FC HH);have HB:=Ab h;have A:=Ab FW;have S:=Ab HC;have c0:=h.base.cell 0;simp at c0;have E0:=Ab (JM m w);clear h FW HC hf FC;go_enter func9,ntmps9;go_wp2_with fail
 refine E0.mono ?_;rintro _ Q ⟨rfl,HF⟩;subst HF;go_wp2_with fail
 refine Ha.mono ?_;rintro _ z ⟨⟨⟨d,b⟩,xv⟩,rfl,N,Bx,AB,T⟩;obtain⟨i,j,e⟩:=Aj Bx;simp only at e N AB;subst e;simp only[AI];rw[(Aa S).same]at N⊢;have AT:=Ab (HB.kept T);have FL:=Ab T;have B9:=Ab N;have EX:=Ab Bx;clear Ha N Bx T E0 c0;by_cases D:EI l s=0
 .have HD:(EI l s !=0)=false:=by simp[D]
  obtain⟨EK,R⟩:=(Aa S).fact D;have F:(⟨d,b⟩:Cg)=Bn (CI s):=by
   have:=(Aa B9 D).symm.trans EK;exact jD this
  have C:Hid (GN l u s=if DI u (CI s)=true then(0,u.filter λg=> !Cl g (CI s))else(7,u)):=by show _=_;unfold GN;rw[fF D]
  have M:=Ab (kN z [O d,U i (Z b) j] 56);have G:=Ab (AT.kept ((kL [] z).alloc (jj [O d,U i (Z b) j].toArray 56)));have BT:=Ab (FL.alloc (jj [O d,U i (Z b) j].toArray 56));have BA:=Ab (Dc.kept (Aa EX) ((kL [] z).alloc (jj [O d,U i (Z b) j].toArray 56)));go_wp2_with fail
  change Code.wp _ _ _ _ (z.alloc (jj [O d,U i (Z b) j].toArray 56));generalize z.alloc (jj [O d,U i (Z b) j].toArray 56)=w3 at M G BT BA⊢;obtain⟨E,hX⟩:=kK z.heap.size;rw[hX]at M⊢;clear hX;have FT:Hid (∀a,Ac [] w3 a->a.cell? ⟨E,0,Y⟩=V (O d)/\a.cell? ⟨E,1,Y⟩=V (U i (Z b) j)):=λa o=>⟨o.cellAt (by have:=M.cell 0;simpa using this),o.cellAt (by have:=M.cell 1;simpa using this)⟩
  have FO:Hid (∀a,Ac [] w3 a->Calls prog 18 #[j2 (V ⟨m,1,Y⟩),kx #[O d,U i (Z b) j]] a λe B=>e=j3 (.bool (DI u (CI s)))/\Ac [] a B):=λa o=>by
   refine(Ki m 1 v r f ⟨⟨d,b⟩,U i (Z b) j⟩ a (by have:=(G.kept o).base.cell 1;simpa using this) (G.kept o).facts (Dc.kept (Aa BA) o) AB (by omega) ((Aa A).mono ⟨d,b⟩)).mono ?_;rintro _ B ⟨p,rfl,W,k⟩;refine⟨?_,k⟩;(have AR:Eu f (Bn (CI s)) p:=by rw[<-F];exact W);show j3 (.bool (CY f ⟨d,b⟩ p))=_;rw[F,(Aa A).zh R AR]
  have HA:Hid (∀a,Ac [] w3 a->DI u (CI s)=true->Calls prog 23 #[j2 (V ⟨m,1,Y⟩),kx #[O d,U i (Z b) j]] a λe B=>e=j3 (.tuple #[])/\Em m y x n (U v (Z f) r) (GN l u s) Q (j3 (X .i64 0)) B):=λa o Ax=>by
   have L:=G.kept o;refine(aP m 1 [U y (Z n) x,U v (Z f) r] 47 v r f d b i j a L.base rfl (by decide) (by decide) L.facts (Dc.kept (Aa BA) o) AB (by omega) ((Aa A).mono ⟨d,b⟩)).mono ?_;rintro _ B ⟨rfl,⟨p,ad,cp,W,HT,HP,HQ⟩,EY⟩;(have AR:Eu f (Bn (CI s)) p:=by rw[<-F];exact W);(have hh:CY f (Bn (CI s)) p=true:=by rw[(Aa A).zh R AR];exact Ax);have he:SR f ⟨d,b⟩ p=f.eraseIdx p:=by
    unfold SR;rw[F,hh];rfl
   have HG:=L.rstT EY;refine⟨rfl,ad,cp,SR f ⟨d,b⟩ p,by rw[Aa C,Ax];rfl,⟨HT,L.prog.rst HG (λt ht=>by simp at ht;rcases ht with h|h<;>simp[h]),HP⟩,?_,(Ac.mono (BT.trans o) (by simp)).trans EY,λq H=>Or.inl (HQ q H)⟩;rw[Aa C,Ax,he];exact(Aa A).rem R hh
  clear F EK R AT EX B9 S
  go_region_held3 (λa=>Ac [] w3 a/\a.cell? ⟨E,0,Y⟩=V (O d)/\a.cell? ⟨E,1,Y⟩=V (U i (Z b) j)) ((go_split_ands;refine(fun(Go:Ac [] w3 _)=>And.intro Go (FT _ Go)) ?_;repeat (first|assumption|exact kL [] _|refine Ac.drew ?_|refine Ac.alloc ?_ _))) ((go_at_call 18;refine(FO _ (by go_split_ands;assumption)).mono ?_;rintro _ I ⟨rfl,k5⟩;have P:Ac [] w3 I:=(by go_split_ands;exact Ac.trans (by assumption) k5);clear k5))
  rename_i HI;clear HI FO;cases HS:DI u (CI s)with
  |false=>
   have HO:Hid (Em m y x n (U v (Z f) r) (GN l u s) Q (j3 (X .i64 7)) I):=⟨v,r,f,by rw[Aa C,HS];rfl,G.kept P,by rw[Aa C,HS];exact A,Ac.mono (BT.trans P) (by simp),λq H=>Or.inl H⟩;(go_wp2_with fail);go_ret;exact HO
  |true=>
   obtain⟨d1,d2⟩:=FT I P;(have CW:Hid (∀a,Ac [] I a->Calls prog 23 #[j2 (V ⟨m,1,Y⟩),kx #[O d,U i (Z b) j]] a λe B=>e=j3 (.tuple #[])/\Em m y x n (U v (Z f) r) (GN l u s) Q (j3 (X .i64 0)) B):=λa o=>HA a (P.trans o) HS);clear HA;go_wp2_with fail
   go_region_law (go_simp;go_at_call 23;refine(CW _ ((kL [] I).drew)).mono ?_;rintro _ w6 ⟨rfl,EM⟩;have HK:=Ab EM;clear EM)
   all_goals
    clear CW;(go_wp2_with fail);go_ret;exact HK
 .have HD:(EI l s !=0)=true:=by simp[D]
  have C:Hid (GN l u s=(EI l s,u)):=by show _=_;unfold GN;rw[fB D]
  have HO:Hid (Em m y x n (U v (Z f) r) (GN l u s) Q (j3 (X .i64 (EI l s))) (z.alloc (jj #[O d,U i (Z b) j] 56))):=⟨v,r,f,by rw[Aa C],AT.kept ((kL [] z).alloc _),by rw[Aa C];exact A,(Ac.mono (Aa FL) (by simp)).alloc _,λq H=>Or.inl H⟩;go_wp2_with fail
  go_ret;exact HO
def F2.via{α β γ:Type}{R:α->β->Prop}{f:β->γ}(g:∀a b c,R a b->f b=f c->R a c):∀{l:kJ α} {m d:kJ β},F2 R l m->m.map f=d.map f->F2 R l d
 |[],[],[],_,_=>F2.nil
 |[],[],_::_,_,h=>by simp at h
 |[],_::_,_,h,_=>h.elim
 |_::_,[],_,h,_=>h.elim
 |_::_,_::_,[],_,h=>by simp at h
 |a::l,b::m,c::d,h,e=>by
  simp only[fS,iH]at e;exact F2.cons (g a b c h.1 e.1) (F2.via g h.2 e.2)
def YJ{c:CB}{r d:AY}(h:Qj c r)(e:r.erase=d.erase):Qj c d:=by
 have a:r.head=d.head:=congrArg Cb.head e;have i:r.bl.map Prod.fst=d.bl.map Prod.fst:=congrArg Cb.body e;have g:r.at_=d.at_:=congrArg Cb.at_ e;refine⟨by rw[<-a];exact h.hp,by rw[<-a];exact h.hn,by rw[<-a];exact h.zD,h.lits.via (λp q j b e=>?_) i,by rw[<-a];exact h.len,by rw[<-a,<-g];exact h.at_⟩;refine⟨by rw[<-e];exact b.eq,by rw[<-e];exact b.len,λf=>?_⟩;rw[<-e];refine b.plain ?_;unfold On at f⊢;rw[e];exact f
def Ih.other{d c:kJ AY}(h:Ih p d)(e:d.map AY.erase=c.map AY.erase)(g:CX c):Ih p c:=
 ⟨F2.via (R:=Qj) (f:=AY.erase) (λa b i h e=>YJ h e) h.zg e,g,h.zN,h.names⟩
def aV(b:CX c){r:AY}(e:r∈c):∀t∈Fb r,CS t:=by
 intro t a;unfold Fb at a;rcases fA.1 a with a|a
 .exact(b.zL r e).args t a
 .obtain⟨q,f,a⟩:=gc.1 a;have h:=b.lits r e q.1 (fW f);unfold DN at h;unfold A2 On at a;by_cases d:(q.1.kind==97||q.1.kind==33)=true
  .rw[fF d]at h a;exact h.args t a
  .rw[fB d]at h a;simp only[fx,gP,or_false]at a;rcases a with rfl|rfl
   .exact h.1
   .exact h.2.1
def X6(a:CX c){r:AY}(e:r∈c):∀y∈Kz r,A1 y:=by
 intro y d;obtain⟨t,g,rfl⟩:=fC.1 d;obtain⟨f,b⟩:=fT.1 g;have i:t.v=0:=by simpa using b
 rcases aV a e t f with h|h
 .exact h.2
 .have:=h.1;rw[i]at this;exact absurd this (by decide)
def Of(h:Ih p c)(j:A1 s):Ig (p.flatMap Ct) (AA s)=C1 (Bc c) s:=by
 rw[gU,Gr,IH,(IR c).mem,(Dz _).2,F2.flatMap (λa b h=>h.zC) h.zg];constructor
 .intro d;obtain⟨r,g,d⟩:=gc.1 d;obtain⟨y,f,e⟩:=fC.1 d;have i:=X6 h.pass g y f;rw[ID i]at e;rw[<-EW i j e];exact gc.2 ⟨r,g,f⟩
 .intro d;obtain⟨r,g,f⟩:=gc.1 d;exact gc.2 ⟨r,g,fC.2 ⟨s,f,ID j⟩⟩
def Vm{a:kJ CB}(h:Ih a c)(x:zA)(n:Nat):bJ a x=V n↔B3 c x=(n:Int):=by
 rw[UP h.zg,M4];unfold OL;cases(GI c).find? (dS x)with
 |none=>simp
 |some p=>
  simp only[im,fu];constructor<;>intro h<;>omega
def bi(h:Ih p c)(s:zA):bG p c s:=by
 refine⟨?_,λj=>?_⟩
 .unfold Ug EI;rw[dR];cases ho:KG s with
  |false=>rfl
  |true=>
   obtain⟨_,i,_⟩:=Ik ho;simp only[if_true];have d:bJ p (Bn (CI s)).name=V (Z (Bn (CI s)).zC)↔B3 c (CI s).name=(Z (CI s).args:Int):=by
    rw[Vm h];simp only[Bn,fH]
   have f:(Bn (CI s)).zC.all (Ig (p.flatMap Ct))=(CI s).args.all (C1 (Bc c)):=by
    simp only[Bn,List.all_map];rw[gU,ik,ik];constructor
    .intro g x a;rw[<-Of h (i x a)];exact g x a
    .intro g x a;show Ig _ (AA x)=true;rw[Of h (i x a)];exact g x a
   by_cases b:B3 c (CI s).name=(Z (CI s).args:Int)
   .rw[fF b,fF (d.2 b),f]
   .rw[fB b,fB (λe=>b (d.1 e))]
 .obtain⟨d,f,_⟩:=Ik (J5 j);exact⟨d,f⟩
def R8(h:EI c s=0):D0 c (CI s):=by
 have a:=J5 h;obtain⟨_,g,e⟩:=Ik a;have f:=(WP a).2;unfold EI at h;rw[fF a]at h;by_cases d:B3 c (CI s).name=(Z (CI s).args:Int)
 .rw[fF d]at h;cases ht:(CI s).args.all (C1 (Bc c))with
  |false=>rw[ht]at h;cases h
  |true=>
   refine⟨g,?_,e,f,d,λx i=>(IH _ _).1 (ik.1 ht x i)⟩;unfold KG at a;rw[fU]at a;have b:=a.1;(have hF:CI s=Av BM (Ao s 0).1.head:=by unfold CI;rw[fF b]);unfold KP at b;simp only[fU,iK,it]at b;rw[hF];exact(Dd b.2.1).head.name
 .rw[fB d]at h;cases h
