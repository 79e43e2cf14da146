import Derived.Test.YtoihbhenbmffcaaGreatZBF
set_option linter.all false
set_option maxHeartbeats 0
open List renaming length->Z
open Option renaming none->Y,some->V
open Go.Value renaming slice->U,int->X,string->O,pointer->j2
open Go.IntKind renaming i64->J
open Go.Ending renaming returned->j3
open Go renaming World->kq
namespace Go.Proofs.YtoihbhenbmffcaaGreat
open Go.RowKit Go.Proofs.Tryz
variable{n m i j b:Nat}{o:Option Addr}{p:kJ CB}{c:kJ AY}{w v:kq}
structure Ou(s:zA)(pcs:kJ CB)(cs:kJ AY):Prop where
 both:Ih pcs cs
 order:BI cs
 fits:N6 cs
 size:s.size<=300
 read:(Ar s (Ae s 0)).2.2=false
 eq:cs.map AY.erase=(Ar s (Ae s 0)).1
structure BB(w0 w:kq)(bb rb pb:Nat)(lad:Option Addr)(lcp:Nat)(pcs:kJ CB)(rad:Option Addr)(rcp:Nat)(cs:kJ AY)(u v:kJ Ag):Prop where
 kept:Ac [] w0 w
 bb_:w0.heap.size<=bb
 rb_:w0.heap.size<=rb
 prog:∃sad scp fs,Ij w bb lad lcp pcs sad scp fs/\CG fs u/\∀q,(U sad (Z fs) scp).ownBlock=V q->w0.heap.size<=q
 ref:∃fad fcp rs,G5 w rb pb rad rcp cs fad fcp rs/\rs.map BD.f=v
 fitU:∀f∈u,D0 cs f/\GT f
 fitV:∀f∈v,D0 cs f/\GT f
 zH:D5 v
def BB.to{d w a:kq}{e:Option Addr}{u v:kJ Ag}(h:BB d w n m i o j p e b c u v)(k:Ac [] w a):BB d a n m i o j p e b c u v:=by
 obtain⟨A,s,y,x,q,z⟩:=h.prog;obtain⟨t,r,f,l,g⟩:=h.ref;exact⟨h.kept.trans k,h.bb_,h.rb_,⟨A,s,y,x.kept k,q,z⟩,⟨t,r,f,l.kept k,g⟩,h.fitU,h.fitV,h.zH⟩
def OD(d:BI c){u:kJ Ag}(e:D5 u)(b:∀f∈u,D0 c f/\GT f):Z u<=258:=Ve d (e.nodup λf a=>(b f a).1.canon) λf a=>(b f a).1
def Ij.beside{s:kJ CB}{l:Option Addr}{f:kJ DF}(h:Ij w n o m s l i f){x:Option Addr}{y:Nat}{A:Option Addr}{z:Nat}{u:kJ BD}(B:G5 w j b x y c A z u)(k:Ac [j] w v):Ij v n o m s l i f:=by
 have r:IZ [52] w v:=IZ.of k (λq e c t C a=>by
  simp only[ft]at e
  subst e
  have g:=B.base
  unfold AF at g
  rw[g]at a
  simp only[fu,Obj.cells.injEq]at a
  rw[<-a.2.1]
  simp)
 exact⟨r.zK h.base (by decide),h.prog.rst r (by simp),⟨r.row h.facts.row (by decide),λp d=>⟨r.row (h.facts.each p d).1 (by decide),(h.facts.each p d).2⟩⟩⟩
def Ou.small{s:zA}{d:kJ CB}{b:kJ AY}(h:Ou s d b):Z d<=12/\(∀c∈d,Js c/\Z (A5 c)<=70000)/\(∀c∈d,Z c.zE<=1000)/\Z b<=12/\(∀c∈b,GC c)/\Z (Bc b)<=6:=by
 have f:=h.order.small;refine⟨by rw[h.both.zg.lenX];exact f.1,λc a=>?_,λc a=>(h.both.fit a).pc.lits,f.1,λc a=>?_,P5 h.order⟩
 .have i:=h.both.zN c a;refine⟨(h.both.fit a).pc,?_⟩;have k:Z c.zE<=151:=by have:=i.body;simpa[CB.pc] using this
  have n:Z (Bf c.zE)<=Z c.zE*151:=PA _ 151 _ (λp e=>by
   have l:=i.lits p.1 (by simp only[CB.pc];exact fC.2 ⟨p,e,rfl⟩)
   unfold AX
   split
   .exact l.le
   .simp)
  have m:Z c.zD<=151:=i.head.2;unfold A5;rw[fE];have:Z c.zE*151<=151*151:=gK _ k;omega
 .have g:=f.2 c a;refine⟨g.1,g.2.1,λp e=>?_⟩;have j:=g.2.2 p e;unfold Bo at j;have:=jV j;omega
section
variable {s:zA} {w0 w:kq} {bb rb pb:Nat} {lad:Option Addr} {lcp:Nat} {pcs:kJ CB} {rad:Option Addr} {rcp:Nat} {cs:kJ AY} {u v:kJ Ag}
def BB.turnP(h:BB w0 w bb rb pb lad lcp pcs rad rcp cs u v){c:kJ Ag}(E:∀f∈c,D0 cs f/\GT f){b:Option Addr}{d:Nat}{g:kJ DF}(l:Ij w bb lad lcp pcs b d g)(m:∀q,(U b (Z g) d).ownBlock=V q->w0.heap.size<=q)
  {r:Int} {e:Ending} {a:kq} (C:Em bb lad lcp pcs (U b (Z g) d) (r,c) w e a):e=j3 (X J r)/\BB w0 a bb rb pb lad lcp pcs rad rcp cs c v/\IZ [47,56] w a:=by
 obtain⟨p,x,s,rfl,D,t,k,B⟩:=C;obtain⟨o,n,A,z,F⟩:=h.ref;refine⟨rfl,⟨h.kept.trans' k (λi j=>Or.inr ?_),h.bb_,h.rb_,⟨p,x,s,D,t,λq y=>?_⟩,⟨o,n,A,z.rst (l.rstT k) (by simp),F⟩,E,h.fitV,h.zH⟩,l.rstT k⟩
 .rcases fx.1 j with rfl|j
  .exact h.bb_
  .exact m i (by simpa using j)
 .rcases B q y with h|G
  .exact m q h
  .have:=h.kept.size;omega
def BB.turnR(h:BB w0 w bb rb pb lad lcp pcs rad rcp cs u v){r:Int}{e:Ending}{a:kq}(n:G2 rb pb rad rcp cs (r,u) w e a):e=j3 (X J r)/\BB w0 a bb rb pb lad lcp pcs rad rcp cs u u:=by
 obtain⟨m,t,q,rfl,o,g,d⟩:=n;obtain⟨y,x,z,j,A⟩:=h.ref;obtain⟨l,p,f,k,b,s⟩:=h.prog;exact⟨rfl,h.kept.trans' d (λi c=>Or.inr (by simp only[ft]at c;rw[c];exact h.rb_)),h.bb_,h.rb_,⟨l,p,f,k.beside j d,b,s⟩,⟨m,t,q,g,o⟩,h.fitU,h.fitU,b.zH⟩
def bV(b:Ou s pcs cs)(h:BB w0 w bb rb pb lad lcp pcs rad rcp cs u v)(S:zA)(m:S.size<=9223372036854775807):Calls prog 7 #[j2 (V ⟨bb,0,Y⟩),O S] w λe c=>e=j3 (X J (GO cs u S).1)/\BB w0 c bb rb pb lad lcp pcs rad rcp cs (GO cs u S).2 v/\IZ [47,56] w c:=by
 obtain⟨o,l,f,d,a,n⟩:=h.prog;obtain⟨g,i,k,_⟩:=b.small;have p:=OD b.order a.zH h.fitU;have q:Z f=Z u:=by have:=congrArg List.length a.same;simpa using this
 exact(ZU bb lad lcp pcs o l f cs u S w d a (bi b.both S) g i k m (by omega)).mono λe c j=>h.turnP (YZ a.zH h.fitU S) d n j
def cE(a:Ou s pcs cs)(h:BB w0 w bb rb pb lad lcp pcs rad rcp cs u v)(S:zA)(m:S.size<=9223372036854775807):Calls prog 9 #[j2 (V ⟨bb,0,Y⟩),O S] w λe b=>e=j3 (X J (GN cs u S).1)/\BB w0 b bb rb pb lad lcp pcs rad rcp cs (GN cs u S).2 v/\IZ [47,56] w b:=by
 obtain⟨o,l,f,d,c,n⟩:=h.prog;obtain⟨g,i,k,_⟩:=a.small;have p:=OD a.order c.zH h.fitU;have q:Z f=Z u:=by have:=congrArg List.length c.same;simpa using this
 exact(Zw bb lad lcp pcs o l f cs u S w d c (bi a.both S) g i k m (by omega)).mono λe b j=>h.turnP (XN h.fitU S) d n j
def bY(a:Ou s pcs cs)(S:zA)(h:BB w0 w bb rb pb lad lcp pcs rad rcp cs (GO cs v S).2 v)(g:S.size<=9223372036854775807):Calls prog 8 #[j2 (V ⟨rb,0,Y⟩),O S] w λe b=>e=j3 (X J (GO cs v S).1)/\BB w0 b bb rb pb lad lcp pcs rad rcp cs (GO cs v S).2 (GO cs v S).2:=by
 obtain⟨k,i,c,j,rfl⟩:=h.ref;obtain⟨_,_,_,n,m,l⟩:=a.small;have f:=OD a.order h.zH h.fitV;rw[fH]at f;exact(aR rb pb rad rcp cs k i c S w j a.fits n m l g (by omega)).mono λe b d=>h.turnR d
def cS(a:Ou s pcs cs)(S:zA)(h:BB w0 w bb rb pb lad lcp pcs rad rcp cs (GN cs v S).2 v)(g:S.size<=9223372036854775807):Calls prog 10 #[j2 (V ⟨rb,0,Y⟩),O S] w λe b=>e=j3 (X J (GN cs v S).1)/\BB w0 b bb rb pb lad lcp pcs rad rcp cs (GN cs v S).2 (GN cs v S).2:=by
 obtain⟨k,i,c,j,rfl⟩:=h.ref;obtain⟨_,_,_,n,m,l⟩:=a.small;have f:=OD a.order h.zH h.fitV;rw[fH]at f;exact(ZD rb pb rad rcp cs k i c S w j a.fits n m l g (by omega)).mono λe b d=>h.turnR d
def eH(a:Ou s pcs cs)(h:BB w0 w bb rb pb lad lcp pcs rad rcp cs u v):Calls prog 11 #[j2 (V ⟨bb,0,Y⟩)] w (MS cs u w):=by
 obtain⟨f,c,e,d,b,i⟩:=h.prog;have g:=OD a.order b.zH h.fitU;exact VT bb lad lcp pcs f c e s cs u w d b a.both a.order a.size a.eq h.fitU (by omega)
def UQ(cs:kJ AY)(v:kJ Ag)(w:kq)(e:Ending)(w':kq):Prop:=∃x,e=j3 x/\Calls prog 13 #[x] w' λe w''=>∃t,e=j3 (O t)/\(∀t',ej cs v t'->t'=t)/\Ac [] w w''
def eD(a:Ou s pcs cs)(h:BB w0 w bb rb pb lad lcp pcs rad rcp cs u v):Calls prog 12 #[j2 (V ⟨rb,0,Y⟩)] w (UQ cs v w):=by
 obtain⟨j,i,o,m,rfl⟩:=h.ref;have t:=OD a.order h.zH h.fitV;rw[fH]at t;refine(V6 rb pb rad rcp cs j i o w m a.fits a.small.2.2.2.1 a.order a.both.pass (λf c=>(h.fitV f c).1) (by omega)).mono ?_;rintro _ A ⟨n,z,e,D,rfl,r,g,d,b,y⟩;have x:=d.order.few (e.map BD.f) (b.zH.nodup λf c=>(b.zX f c).canon d.prog.zL) b.zX;rw[fH]at x;refine⟨_,rfl,(NZ n z e A r (by omega) (λp q=>?_)).mono ?_⟩
 .have:=(N3 a.size a.eq g h.fitV b.zX p.f (fW q)).1;omega
 .rintro _ B ⟨rfl,l⟩;exact⟨_,rfl,λC k=>mod_one k (UM a.read a.eq) (λf c=>(h.fitV f c).1) g d b,y.trans l⟩
end
set_option maxRecDepth 100000
theorem Ry(P:zA)(sa:Option Addr)(c EM:Nat)(CL:Nat->Int)(S T:Nat->zA)(w:kq)(hP:P.size<=9223372036854775807)(h:c=0\/∃ab W,sa=V ⟨ab,W,Y⟩/\Q6 w ab W c CL S T/\c<=EM/\EM<=9223372036854775807)(hS:∀i,i<c->(S i).size<=9223372036854775807):
  Calls prog 3 #[O P,U sa c EM] w λe w'=>e=j3 (.bool true)/\Ac [] w w':=by
 have LD:=Ab h;have K5:=Ab hS;have K1:=Ab (Ws P w hP);have H6:Hid (∀a,Calls prog 5 #[O P] a (Kr P a)):=λa=>VE P a hP
 clear h hS hP;go_enter func3,ntmps3;go_wp2_with fail
 refine K1.mono ?_;rintro _ w1 ⟨bv,er,LL,rfl,HQ,HW,H0,k1⟩;have Jx:=Ab HQ;have HF:=Ab HW;have HH:=Ab H0;have AH:=Ab k1;have H2:=Ab (H6 w1);clear K1 H6 HQ HW H0 k1;go_wp2_with fail
 refine H2.mono ?_;rintro _ w2 ⟨rv,LS,Nq,rfl,H1,JJ,H5,k2⟩;obtain⟨rfl,rfl⟩:=Prod.mk.inj (Nn H1 Jx);have HA:=Ab JJ;have HL:=Ab H5;have BT:=Ab k2;clear H2 H1 JJ H5 k2 Jx;by_cases h0:er=0
 .obtain⟨A,F,E,z,L0,e1,HY,HX,hs,K2,hB⟩:=HH h0;obtain⟨o,D,C,B,b,e2,IS,H9,hF,_,HR,FA,FW⟩:=HL h0;subst e1 e2;have AB:Hid (Ou P z b):=⟨hB.other (K2.trans FA.symm) (F8 HR FA FW),Nz FW,hF,hs,HR,FA⟩;have IJ:Hid (BB w w2 A o D F E z C B b [] []):=⟨AH.trans BT,HY,gQ AH.size IS,⟨Y,0,[],HX.kept BT,⟨rfl,List.Pairwise.nil,λf hf=>by cases hf⟩,(λq hq=>by cases hq)⟩,⟨Y,0,[],H9,rfl⟩,(λf hf=>by cases hf),(λf hf=>by cases hf),List.Pairwise.nil⟩;have HC:Hid (∀u a,BB w a A o D F E z C B b u u->Calls prog 11 #[j2 (V ⟨A,0,Y⟩)] a (MS b u a)):=λu a G=>eH AB G
  have FB:Hid (∀u a,BB w a A o D F E z C B b u u->Calls prog 12 #[j2 (V ⟨o,0,Y⟩)] a (UQ b u a)):=λu a G=>eD AB G
  clear HY HX hs K2 hB IS H9 hF HR FA FW HF HA HH HL AH BT;go_wp2_with fail
  refine(MF 0 w2).mono ?_;rintro _ w3 ⟨rfl,HK⟩;subst HK;go_wp2_with fail
  go_loopg [11] c (λgk i wr=>∃(k:Nat) (u:kJ Ag),i=X J k/\k<=c/\k<=1152921504606846976/\gk=c-k/\Hid (BB w wr A o D F E z C B b u u))
  case atStart=>exact⟨0,[],rfl,by omega,by omega,rfl,IJ⟩
  case round=>
   clear IJ;obtain⟨k,u,rfl,hk,NE,Ix,M⟩:=hrel;have HG:=Ab Ix;clear Ix;by_cases FF:k<c/\k<1152921504606846976
   .obtain⟨E0,MB⟩:=FF;(have HQ:(k:Int)<(c:Int):=by omega);(have K7:(k:Int)<1152921504606846976:=by omega);obtain⟨ab,W,rfl,K4,hl,hc⟩:∃ab W,sa=V ⟨ab,W,Y⟩/\Q6 w ab W c CL S T/\c<=EM/\EM<=9223372036854775807:=by
     rcases Aa LD with h|h
     .omega
     .exact h
    obtain⟨d0,d1,d2⟩:=K4.kept M.kept k E0;have FL:=Aa K5 k E0;have HN:=Ab (M.to ((kL [] wr).alloc (.cells [X J (CL k),O (S k),O (T k)].toArray 32)));have FT:=Ab (kN wr [X J (CL k),O (S k),O (T k)] 32);have M0:=FT.lt;generalize CL k=KK at*;generalize S k=SS at*;generalize T k=TT at*;by_cases h5:KK=5
    .subst h5;have I:=Ab (bV AB HN SS FL);(have L:Hid (∀a,BB w a A o D F E z C B b (GO b u SS).2 u->Calls prog 8 #[j2 (V ⟨o,0,Y⟩),O SS] a λe w'=>e=j3 (X J (GO b u SS).1)/\BB w w' A o D F E z C B b (GO b u SS).2 (GO b u SS).2):=λa G=>bY AB SS G FL);generalize GO b u SS=R at I L;obtain⟨r,Q⟩:=R;(go_wp2_with fail);refine I.mono ?_;rintro _ w4 ⟨rfl,EY,CC⟩;have BA:=Ab (CC.zK FT (by decide));have B9:=Ab (L w4 EY);have o1:=BA.cell 1;simp at o1;clear I L EY CC;(go_wp2_with fail);refine B9.mono ?_;rintro _ w5 ⟨rfl,N⟩;have y:=Ab (HC Q w5 N);have EK:=Ab N;clear B9 N o1 BA;(go_wp2_with fail);refine(MF r w5).mono ?_;rintro _ w6 ⟨rfl,FO⟩;subst FO;(go_wp2_with fail);refine y.mono ?_;rintro _ H ⟨t,rfl,g,j⟩;have p:=Ab g;have d:=Ab (EK.to j);have m:=Ab (FB Q H d);clear y g j EK;(go_wp2_with fail);refine m.mono ?_;rintro _ w8 ⟨x,rfl,n⟩;have l:=Ab n;clear m n;(go_wp2_with fail);refine l.mono ?_;rintro _ w9 ⟨t',rfl,v,s⟩;obtain rfl:=v t p;have HE:=Ab (d.to s);clear l v p s d;go_wp2_with fail
     go_roundg (c-(k+1))
     case measure=>have:=Aa HG;omega
     case rel=>exact⟨k+1,Q,by go_num,by omega,by omega,rfl,HE⟩
    .by_cases h6:KK=6
     .subst h6;have I:=Ab (cE AB HN SS FL);(have L:Hid (∀a,BB w a A o D F E z C B b (GN b u SS).2 u->Calls prog 10 #[j2 (V ⟨o,0,Y⟩),O SS] a λe w'=>e=j3 (X J (GN b u SS).1)/\BB w w' A o D F E z C B b (GN b u SS).2 (GN b u SS).2):=λa G=>cS AB SS G FL);generalize GN b u SS=R at I L;obtain⟨r,Q⟩:=R;(go_wp2_with fail);refine I.mono ?_;rintro _ w4 ⟨rfl,EY,CC⟩;have BA:=Ab (CC.zK FT (by decide));have B9:=Ab (L w4 EY);have o1:=BA.cell 1;simp at o1;clear I L EY CC;(go_wp2_with fail);refine B9.mono ?_;rintro _ w5 ⟨rfl,N⟩;have y:=Ab (HC Q w5 N);have EK:=Ab N;clear B9 N o1 BA;(go_wp2_with fail);refine(MF r w5).mono ?_;rintro _ w6 ⟨rfl,FO⟩;subst FO;(go_wp2_with fail);refine y.mono ?_;rintro _ H ⟨t,rfl,g,j⟩;have p:=Ab g;have d:=Ab (EK.to j);have m:=Ab (FB Q H d);clear y g j EK;(go_wp2_with fail);refine m.mono ?_;rintro _ w8 ⟨x,rfl,n⟩;have l:=Ab n;clear m n;(go_wp2_with fail);refine l.mono ?_;rintro _ w9 ⟨t',rfl,v,s⟩;obtain rfl:=v t p;have HE:=Ab (d.to s);clear l v p s d;go_wp2_with fail
      go_roundg (c-(k+1))
      case measure=>have:=Aa HG;omega
      case rel=>exact⟨k+1,Q,by go_num,by omega,by omega,rfl,HE⟩
     ·(have MY:(KK==5)=false:=by simp[h5]);(have NL:(KK==6)=false:=by simp[h6]);clear h5 h6;go_wp2
      go_roundg (c-(k+1))
      case measure=>have:=Aa HG;omega
      case rel=>exact⟨k+1,u,by go_num,by omega,by omega,rfl,HN⟩
   .have y:=Ab (HC u wr M);(have Ha:(k:Int)<(c:Int)->¬(k:Int)<1152921504606846976:=λh1 h2=>FF ⟨by omega,by omega⟩);by_cases E0:(k:Int)<(c:Int)
    .have K7:=Ha E0;clear FF Ha;(go_wp2_with fail);refine y.mono ?_;rintro _ H ⟨t,rfl,g,j⟩;have p:=Ab g;have d:=Ab (M.to j);have m:=Ab (FB u H d);clear y g j M;(go_wp2_with fail);refine m.mono ?_;rintro _ w8 ⟨x,rfl,n⟩;have l:=Ab n;clear m n;(go_wp2_with fail);refine l.mono ?_;rintro _ w9 ⟨t',rfl,v,s⟩;obtain rfl:=v t p;have AR:=Ab (d.to s).kept;clear l v p s d;(go_wp2_with fail);go_ret;exact⟨by simp,AR⟩
    .clear FF Ha;(go_wp2_with fail);refine y.mono ?_;rintro _ H ⟨t,rfl,g,j⟩;have p:=Ab g;have d:=Ab (M.to j);have m:=Ab (FB u H d);clear y g j M;(go_wp2_with fail);refine m.mono ?_;rintro _ w8 ⟨x,rfl,n⟩;have l:=Ab n;clear m n;(go_wp2_with fail);refine l.mono ?_;rintro _ w9 ⟨t',rfl,v,s⟩;obtain rfl:=v t p;have AR:=Ab (d.to s).kept;clear l v p s d;(go_wp2_with fail);go_ret;exact⟨by simp,AR⟩
 .obtain rfl:=HF h0;obtain rfl:=HA h0;have AR:=Ab (AH.trans BT);clear HH HL HF HA AH BT;go_wp2_with fail
  refine(MF er w2).mono ?_;rintro _ w3 ⟨rfl,HK⟩;subst HK;go_wp2_with fail
  go_ret;exact⟨rfl,AR⟩
