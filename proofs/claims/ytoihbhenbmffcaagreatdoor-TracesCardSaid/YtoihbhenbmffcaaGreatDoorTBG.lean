import Derived.Test.YtoihbhenbmffcaaGreatDoorTBB
import Derived.Test.YtoihbhenbmffcaaGreatDoorTBE
set_option linter.all false
set_option maxHeartbeats 0
open List renaming length->Z
open Option renaming none->Y,some->V
open Go.Value renaming slice->U,pointer->j3
open Go.Act renaming put->qY
namespace Go.Proofs.YtoihbhenbmffcaaGreatDoor
open Go.RowKit Go.Proofs.Tryz
variable{s:zA}{c:rc AV}
def FZ(f:Af):Prop:=f.name.size<=300/\∀x∈f.args,x.size<=300
def fQ(h:Il s=true):FZ (Cs s):=by
 unfold Il at h;rw[mV]at h;obtain⟨a,_⟩:=h;have hF:Cs s=Av Bl (Ao s 0).1.head:=by unfold Cs;rw[mK a]
 unfold Li at a;simp only[mV,oJ,oF]at a;have g:=a.1;have b:=(Ky s 0).1;rw[hF];refine⟨by have:=b.1;show(Ao s 0).1.head.name.size<=300;omega,λx d=>?_⟩;obtain⟨t,c,rfl⟩:=mD.1 d;have e:=b.2 t c;have f:(AP Bl t).size<=t.s.size:=by
  unfold AP Bl;split
  .exact mP _
  .rw[mN,List.getElem?_replicate];split<;>exact mO _
 omega
def UR{u:rc Af}(g:Dy u)(b:∀f∈u,Dk c f/\FZ f)(s:zA):∀f∈(Fj c u s).2,Dk c f/\FZ f:=by
 unfold Fj;by_cases a:E3 c s=0
 .rw[mK a];split
  .exact b
  .intro f e;rcases((Ct (PI a).canon g (λp d=>(b p d).1.canon)).2.2 f).1 e with h|h
   .exact b f h
   .rw[h];exact⟨PI a,fQ (Kc a)⟩
 .rw[mJ a];exact b
def TJ{u:rc Af}(a:∀f∈u,Dk c f/\FZ f)(s:zA):∀f∈(Ft c u s).2,Dk c f/\FZ f:=by
 unfold Ft;by_cases b:E3 c s=0
 .rw[mK b];split
  .exact λf d=>a f (mT.1 d).1
  .exact a
 .rw[mJ b];exact a
def F2.app{α β:Type}{R:α->β->Prop}:∀{l b:rc α} {m a:rc β},F2 R l m->F2 R b a->F2 R (l++b) (m++a)
 |[],_,[],_,_,h=>h
 |[],_,_::_,_,h,_=>h.elim
 |_::_,_,[],_,h,_=>h.elim
 |_::_,_,_::_,_,h,k=>⟨h.1,F2.app h.2 k⟩
def lc(f:Af):AV:=⟨V6 f,U Y 0 0,U Y 0 0,[],0⟩
def aZ:∀u:rc Af,F2 Gq u (u.map lc)
 |[]=>F2.nil
 |_::u=>F2.cons ⟨rfl,rfl,rfl⟩ (aZ u)
def gG{f:Af}{q:CU}{c:AV}(g:Tx (Bq f) q)(l:Gq f c)(d:AL f)(h:lenOf q.hv=Z q.zE):Qy q c:=by
 obtain⟨j,q2,q3,n,i⟩:=g;obtain⟨a,b,k⟩:=l;have e:q.zE=c.head.args.map ct:=by
  rw[q3,a];simp only[Bq,V6,nN];refine nL (λx m=>?_);show Kq (AD x)=ct (Lz x);unfold ct Lz Kq;simp only;rw[J8 (d x m)];rfl
 refine⟨by rw[j,a];rfl,by rw[q2,a];rfl,e,by rw[i,b];exact F2.nil,by rw[h,e,mI],by rw[k,a];rfl⟩
def US:∀{u:rc Af} {a:rc CU} {b:rc AV},F2 Tx (u.map Bq) a->F2 Gq u b->(∀f∈u,AL f)->(∀q∈a,lenOf q.hv=Z q.zE)->F2 Qy a b
 |[],[],[],_,_,_,_=>F2.nil
 |[],[],_::_,_,h,_,_=>h.elim
 |[],_::_,_,h,_,_,_=>h.elim
 |_::_,[],_,h,_,_,_=>h.elim
 |_::_,_::_,[],_,h,_,_=>h.elim
 |f::u,q::a,c::b,hq,hc,hf,hv=>F2.cons (gG hq.1 hc.1 (hf f (by simp)) (hv q (by simp))) (US hq.2 hc.2 (λg e=>hf g (by simp[e])) (λp d=>hv p (by simp[d])))
def Yz{s k:rc CU}{g v:rc AV}{u:rc Af}(n:Im s g)(B:BY g)(t:F2 Tx (u.map Bq) k)(w:F2 Gq u v)(m:∀f∈u,Dk g f/\FZ f)(d:Z u<=900)(D:∀q∈k,lenOf q.hv=Z q.zE):Im (s++k) (g++v):=by
 have y:∀q∈k,∃f∈u,Tx (Bq f) q:=λq C=>by
  obtain⟨p,j,h⟩:=t.mem q C;obtain⟨f,b,rfl⟩:=mD.1 j;exact⟨f,b,h⟩
 refine⟨n.zl.app (US t w (λf b=>(m f b).1.canon) D),Ia B n.pass w (λf b=>(m f b).1) d,λc a=>?_,λc a=>?_⟩
 .rcases mF.1 a with a|a
  .exact n.zM c a
  .obtain⟨f,b,A,o,x,z,i⟩:=y c a;have r:=(m f b).1;(have F:Z c.zE=Z f.args:=by rw[x];simp[Bq]);(have E:Z f.args≠0:=λe=>r.ne (oQ e));refine⟨⟨by show 0<Z c.zE;omega,by show Z c.zE<=151;have:=r.two;omega⟩,?_,λl d=>?_⟩
   .show Z (c.zD.map Prod.fst)<=151;rw[i];simp
   .have d:l∈c.zD.map Prod.fst:=d;rw[i]at d;cases d
 .rcases mF.1 a with a|a
  .exact n.names c a
  .obtain⟨f,b,A,o,x,z,i⟩:=y c a;refine⟨?_,λp j=>by rw[i]at j;cases j⟩;rw[o];have:=(m f b).2.1;show f.name.size<=_;omega
def Y2(cs:rc AV)(u:rc Af)(t:zA):Prop:=∃(ws:rc AV) (L:zA->Nat) (N:Nat) (m:rc Af),F2 Gq u ws/\CG (cs++ws) L/\Hm (cs++ws) L N m/\(∀c∈cs++ws,L c.head.name<N)/\t=TI ByteArray.empty (m.map Bq)
def P5(A:s.size<=300){e o:rc AV}{u:rc Af}(w:e.map AV.erase=(Aj s (Ae s 0)).1)(k:F2 Gq u o)(n:∀f∈u,Dk e f/\FZ f){m:rc Af}(i:∀f∈m,Dw (e++o) f):
  ∀f∈m,f.name.size<=300/\∀x∈f.args,x.size<=300:=by
 intro f q;have l:=i f q;have p:∀c∈e,lz s c.head:=λc a=>(FY s (Ae s 0) c.erase (by rw[<-w];exact mR a)).1
 refine⟨?_,λx z=>?_⟩
 .obtain⟨c,a,v,_⟩:=l.zd;rw[v];rcases mF.1 a with a|a
  .have:=(p c a).1;omega
  .obtain⟨g,j,h⟩:=k.mem c a;rw[h.1];exact(n g j).2.1
 .have a:=l.args x z;unfold consts at a;obtain⟨c,b,i⟩:=m6.1 a;obtain⟨t,d,rfl⟩:=mD.1 i;have d:=(mT.1 d).1;rcases mF.1 b with b|b
  .have:=(p c b).2 t d;omega
  .obtain⟨g,j,h⟩:=k.mem c b;rw[h.1]at d;obtain⟨y,r,rfl⟩:=mD.1 d;exact(n g j).2.2 y r
def JH(cs:rc AV)(u:rc Af)(w:World)(e:Ending)(w':World):Prop:=∃t,e=.returned (.string t)/\Y2 cs u t/\Ac [] w w'
set_option maxRecDepth 100000
theorem Rv(d:Nat)(E:Option Addr)(D:Nat)(g:rc CU)(CC:Option Addr)(CL:Nat)(C:rc Eb)(s:zA)(r:rc AV)(u:rc Af)(w:World)(h:Gg w d E D g CC CL C)(S:Cx C u)(hB:Im g r)(ho:BY r)(hs:s.size<=300)(BA:r.map AV.erase=(Aj s (Ae s 0)).1)(hu:∀f∈u,Dk r f/\FZ f)(HI:Z u<=300):
  Calls prog 35 #[j3 (V ⟨d,0,Y⟩)] w (JH r u w):=by
 have HL:Z C=Z u:=by have:=congrArg List.length S.same;simpa using this
 have c0:=h.base.cell 0;have W:=h.base.cell 1;simp at c0 W;have A2:=Ab (LW d w);have A1:Hid (∀c,Ac [] w c->Calls prog 63 #[U E (Z g) D,j3 (V ⟨d,1,Y⟩)] c (R8 g C c)):=λc n=>SY d 1 E D g CC CL C c (h.prog.kept n) (n.cellAt W) (h.facts.kept n) (by rw[hB.zl.lenX];exact ho.small.1) (by omega)
 have EK:Hid (∀A F k c,Ac [] w c->CE c (U A (Z (g++k)) F) (g++k)->F2 Tx (C.map Eb.f) k->Calls prog 41 #[U A (Z (g++k)) F] c λe Q=>∃B,e=.returned (j3 (V ⟨B,1,Y⟩))/\Ac [] w Q/\Calls prog 42 #[j3 (V ⟨B,1,Y⟩)] Q λe HB=>JH r u w e HB):=by
  intro A F k c n hP hq;rw[S.same]at hq;have hw:=aZ u;have hb:=Yz hB ho hq hw hu (by omega) (λq hm=>by
   obtain⟨a,b,e⟩:=Al (hP.each q (List.mem_append_right _ hm)).head
   rw[e]
   rfl)
  refine(LX A F (g++k) _ c hP hb).mono ?_;rintro _ M ⟨B,m,L,N,rfl,g1,g2,g3,g4⟩;refine⟨B,rfl,n.trans g1.kept,?_⟩;obtain⟨E0,FB,B0,HJ,HH,xs,k1,I,G,_⟩:=g1.out;have hc:=k1.cell 1;have HK:=(hb.zd g3).2.2;have HG:Z B0=Z m:=by have:=congrArg List.length G.same;simpa using this
  refine(PN B 1 E0 FB B0 M (by simpa using hc) I (by omega) ?_).mono ?_
  .intro p hp;(have FT:p.f∈m.map Bq:=by rw[<-G.same];exact mR hp);obtain⟨f,hf,e⟩:=mD.1 FT;have hz:=P5 hs BA hw hu g3.zX f hf;rw[<-e];refine⟨by show f.name.size<=_;omega,λx hx=>?_⟩;obtain⟨y,hy,rfl⟩:=mD.1 hx;have T:=hz.2 y hy;have R:=LU y;omega
  .rintro _ Q ⟨rfl,FA⟩;exact⟨_,rfl,⟨_,L,N,m,hw,g2,g3,g4,by rw[G.same]⟩,(n.trans g1.kept).trans FA⟩
 clear h S hB ho BA hu W;go_enter func35,ntmps35;go_wp2_with fail
 refine A2.mono ?_;rintro _ l ⟨rfl,Ha⟩;subst Ha;clear A2;have H:Hid (∀c,Ac [] l c->c.cell? ⟨d,0,Y⟩=V (U E (Z g) D)):=λc n=>n.cellAt c0
 have z:=Ab (H l.drew (re [] l).drew);have DT:=Ab (A1 l.drew (re [] l).drew);clear A1 c0;go_wp2_with fail
 refine CA 10 (λc=>c.cell? ⟨d,0,Y⟩=V (U E (Z g) D)) (by kernel_rfl) ?_;refine Cz.tq (i:=0) (v:=j3 (V ⟨d,0,Y⟩)) rfl (λ_ _ _ h=>h) z ?_;simp only[qY,mq,mr,mt];refine Cz.tq (i:=1) (v:=j3 (V ⟨d,0,Y⟩)) rfl (λ_ _ _ h=>h) z ?_;simp only[qY,mq,mr,mt];refine Cz.tq (i:=2) (v:=j3 (V ⟨d,0,Y⟩)) rfl (λ_ _ _ h=>h) z ?_;simp only[qY,mq,mr,mt];refine Cz.tq (i:=3) (v:=U E (Z g) D) rfl (λ_ _ _ h=>h) z ?_;simp only[qY,mq,mr,mt];refine Cz.tq (i:=4) (v:=j3 (V ⟨d,0,Y⟩)) rfl (λ_ _ _ h=>h) z ?_;simp only[qY,mq,mr,mt];refine Cz.tq (i:=5) (v:=j3 (V ⟨d,0,Y⟩)) rfl (λ_ _ _ h=>h) z ?_;simp only[qY,mq,mr,mt];refine Cz.tq (i:=6) (v:=j3 (V ⟨d,1,Y⟩)) rfl (λ_ _ _ h=>h) z ?_;simp only[qY,mq,mr,mt];refine Cz.one (i:=7) (by kernel_rfl) rfl (λo j=>?_)
 go_simp
 refine DT.mono ?_;rintro _ M ⟨A,F,k,rfl,T,R,Bx⟩;have I:Ac [] l M:=(re [] l).drew.trans Bx;have P:=Ab (EK A F k M I T R);generalize Z (g++k)=L at P⊢;refine j.out _ _ (λ_=>H _ I) ?_;clear j o DT EK T R Bx
 try simp only[qY,mq,mr,mt]
 refine Cz.one (i:=8) (by kernel_rfl) rfl (λo j=>?_)
 go_simp
 refine P.mono ?_;rintro _ w3 ⟨B,rfl,G,h3⟩;have H3:=Ab h3;refine j.out _ _ (λ_=>H _ G) ?_;clear j o P h3
 try simp only[qY,mq,mr,mt]
 refine Cz.one (i:=9) (by kernel_rfl) rfl (λo j=>?_)
 go_simp
 refine H3.mono ?_;rintro _ w4 ⟨t,rfl,ht,k4⟩;have HO:Hid (JH r u l (.returned (.string t)) w4):=⟨t,rfl,ht,k4⟩;refine j.out _ _ (λ_=>H _ k4) ?_;clear j o H3 ht
 try simp only[qY,mq,mr,mt]
 refine Cz.one (i:=10) (by kernel_rfl) rfl (λo j=>?_)
 go_simp
 refine j.out _ _ (λh=>absurd rfl h) ?_;clear j o;refine Cz.done (by kernel_rfl) ?_ _;go_wp2;go_ret;exact HO
end Go.Proofs.YtoihbhenbmffcaaGreatDoor
namespace Go.Proofs.YtoihbhenbmffcaaGreatDoor
open Go.RowKit Go.Proofs.Tryz
variable{c:rc AV}{w v:World}{n m i j b:Nat}{o:Option Addr}
structure Jd(s:zA)(pcs:rc CU)(cs:rc AV):Prop where
 both:Im pcs cs
 order:BY cs
 fits:Og cs
 size:s.size<=300
 read:(Aj s (Ae s 0)).2.2=false
 eq:cs.map AV.erase=(Aj s (Ae s 0)).1
def Iw(d:BY c){u:rc Af}(e:Dy u)(b:∀f∈u,Dk c f/\FZ f):Z u<=258:=Yq d (e.nodup λf a=>(b f a).1.canon) λf a=>(b f a).1
def Gg.beside{s:rc CU}{l:Option Addr}{f:rc Eb}(h:Gg w n o m s l i f){x:Option Addr}{y:Nat}{A:Option Addr}{z:Nat}{u:rc BP}(B:GN w j b x y c A z u)(k:Ac [j] w v):Gg v n o m s l i f:=by
 have r:Gz [63] w v:=Gz.of k (λq e c t C a=>by
  simp only[my]at e
  subst e
  have g:=B.base
  unfold AI at g
  rw[g]at a
  simp only[mB,Obj.cells.injEq]at a
  rw[<-a.2.1]
  simp)
 exact⟨r.zO h.base (by decide),h.prog.rst r (by simp),⟨r.row h.facts.row (by decide),λp d=>⟨r.row (h.facts.each p d).1 (by decide),(h.facts.each p d).2⟩⟩⟩
def Jd.small{s:zA}{d:rc CU}{b:rc AV}(h:Jd s d b):Z d<=12/\(∀c∈d,Lo c/\Z (Bn c)<=70000)/\(∀c∈d,Z c.zD<=1000)/\Z b<=12/\(∀c∈b,Hu c)/\Z (Bj b)<=6:=by
 have f:=h.order.small;refine⟨by rw[h.both.zl.lenX];exact f.1,λc a=>?_,λc a=>(h.both.fit a).pc.lits,f.1,λc a=>?_,KY h.order⟩
 .have i:=h.both.zM c a;refine⟨(h.both.fit a).pc,?_⟩;have k:Z c.zD<=151:=by have:=i.body;simpa[CU.pc] using this
  have n:Z (A7 c.zD)<=Z c.zD*151:=O0 _ 151 _ (λp e=>by
   have l:=i.lits p.1 (by simp only[CU.pc];exact mD.2 ⟨p,e,rfl⟩)
   unfold AS
   split
   .exact l.le
   .simp)
  have m:Z c.zE<=151:=i.head.2;unfold Bn;rw[mM];have:Z c.zD*151<=151*151:=nB _ k;omega
 .have g:=f.2 c a;refine⟨g.1,g.2.1,λp e=>?_⟩;have j:=g.2.2 p e;unfold BM at j;have:=qH j;omega
section
variable {s:zA} {w0 w:World} {bb rb pb:Nat} {lad:Option Addr} {lcp:Nat} {pcs:rc CU} {rad:Option Addr} {rcp:Nat} {cs:rc AV} {u v:rc Af}
end
