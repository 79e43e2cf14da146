import Derived.Test.YtoihbhenbmffcaaGreatDoorZAN
set_option linter.unusedVariables false
set_option linter.unusedSimpArgs false
set_option maxHeartbeats 6400000
namespace Go.Proofs.YtoihbhenbmffcaaGreatDoor
open Go.RowKit
open Go.Proofs.Tryz
def addT(l:List cL)(t:AG):List cL:=if t.v==0&& !Dn l t.s then GK l t.s else l
def addP(l:List cL)(ts:List AG):List cL:=ts.foldl addT l
def IH(l:List cL):Prop:=∀y∈l,0<y.size/\y.size<=1000000
def Tl(ts:List AG):Prop:=∀t∈ts,t.v=0->0<t.s.size/\t.s.size<=1000000
theorem Km(x:cL)(d:0<x.size/\x.size<=1000000):∀(l:List cL) (a:List cL×Bool),IH l->IH a.1->IH (l.foldl (Cx x) a).1
 |[],_,_,ha=>ha
 |y::l,a,hl,ha=>by
  refine Km x d l _ (λz b=>hl z (by simp[b])) ?_;have c:=hl y (by simp);unfold Cx;split
  ·intro z b;simp only[aw,ae]at b;rcases b with(b|b)|b
   ·exact ha z b
   ·rw[b];exact d
   ·rw[b];exact c
  ·intro z b;simp only[aw,ae]at b;rcases b with b|b
   ·exact ha z b
   ·rw[b];exact c
theorem Ue{l:List cL}{x:cL}(c:IH l)(b:0<x.size/\x.size<=1000000):IH (GK l x):=by
 have h:IH (Kv l x).1:=Km x b l ([],false) c (by intro y d;simp at d);unfold GK;split
 ·exact h
 ·intro z a;simp only[aw,ae]at a;rcases a with a|a
  ·exact h z a
  ·rw[a];exact b
theorem Pb{l:List cL}{t:AG}(a:IH l)(b:t.v=0->0<t.s.size/\t.s.size<=1000000):IH (addT l t):=by
 unfold addT;split
 ·rename_i h;simp only[aO,b8]at h;exact Ue a (b h.1)
 ·exact a
theorem Xx(l:List cL)(t:AG):(addT l t).length<=l.length+1:=by
 unfold addT;split
 ·rw[Ls];omega
 ·omega
theorem Vl(l:List cL){ts:List AG}{k:Nat}(a:k<ts.length):addP l (ts.take (k+1))=addT (addP l (ts.take k)) ts[k]:=by
 unfold addP;rw[ac a,bD];rfl
theorem Sk(l:List cL)(ts:List AG):(addP l ts).length<=l.length+ts.length:=by
 unfold addP
 induction ts generalizing l with
 |nil=>simp
 |cons t ts ih=>
  have a:=ih (addT l t);have b:=Xx l t;simp only[aR,ak];omega
theorem Pr{l:List cL}{ts:List AG}(a:IH l)(b:Tl ts):IH (addP l ts):=by
 unfold addP
 induction ts generalizing l with
 |nil=>exact a
 |cons t ts ih=>exact ih (Pb a (b t (by simp))) (λu c=>b u (by simp[c]))
set_option maxRecDepth 100000
theorem U2(G tv:Value)(l:List cL)(ts:List AG)(base:Nat)(w:World)(u:w.ownsRow base 9 1 G l.length (l.flatMap Ae))(r:w.ownsRow 0 93 2 tv ts.length (ts.flatMap Az))(V:base<=w.heap.size)
  (Y:l.length+ts.length<=1000000) (D:IH l) (H:Tl ts):
  Calls prog 130 #[G,tv] w λe z=>∃v,e= .returned v/\z.ownsRow base 9 1 v (addP l ts).length ((addP l ts).flatMap Ae)/\Ac [] w z:=by
 obtain⟨Z,X,rfl⟩:=Ak u;obtain⟨N,L,rfl⟩:=Ak r;have q:Hid (w.ownsRow 0 93 2 (.slice N ts.length L) ts.length (ts.flatMap Az)/\IH l/\Tl ts):=⟨r,D,H⟩;clear r D H;have W:∀(x:Bool) (w:World),(Op.unary .not (.bool x)).run prog w= .ok (.bool (!x)) w:=λ_ _=>rfl
 go_enter func130,ntmps130;go_wp2
 go_loopw [0,5] (λo i wr=>∃(k:Nat) (a:List cL),i= .int .i64 k/\k<=ts.length/\Hid (addP l (ts.take k)=a/\IH a)/\a.length<=l.length+k/\wr.ownsRow base 9 1 o a.length (a.flatMap Ae)/\Ac [] w wr) (λ_ i _=>ts.length-(intOf i).toNat)
 case atStart=>exact⟨0,l,rfl,aG _,⟨by simp[addP],q.out.2.1⟩,by omega,u,Ac.refl _ _⟩
 case round=>
  clear u;obtain⟨k,a,rfl,U,p,S,b,f⟩:=hrel;obtain⟨AH,AB,rfl⟩:=Ak b;have Ax:=f.size;by_cases d:k<ts.length
  ·obtain⟨g,T,F,hc,t⟩:=AE (Ad q.out.1 f (by simp)) (λc _=>Fr c) k d;simp only[Z6]at F;obtain⟨rfl,_,rfl⟩:=F;have M:=t k d 0 (by omega);have K:=t k d 1 (by omega);simp[Az]at M K;clear t;have E:((ts[k].v.toNat:Int)==0)=(ts[k].v==0):=B8 _ 0;have j:Hid (addP l (ts.take (k+1))=addT a ts[k]/\IH (addT a ts[k])):=⟨by rw[Vl l d,p.out.1],Pb p.out.2 (q.out.2.2 ts[k] (Z7 d))⟩;cases hz:(ts[k].v==0)with
   |false=>
    rw[hz]at E;(have m:Hid (addP l (ts.take (k+1))=a/\IH a):=by have h:=j.out;simp only[addT,hz,cX,Z8,if_false]at h;exact h);clear j hz;go_wp2
    go_roundw
    case rel=>exact⟨k+1,a,by go_num,by omega,m,by omega,b,f⟩
    case measure=>simp[intOf];omega
   |true=>
    rw[hz]at E;have P:=q.out.2.2 ts[k] (Z7 d) (by simpa using hz);cases hh:Dn a ts[k].s with
    |true=>
     (have m:Hid (addP l (ts.take (k+1))=a/\IH a):=by have h:=j.out;simp only[addT,hz,hh,cV,cW,Z8,if_false]at h;exact h);clear j hz;(go_wp2_with fail);refine(C6 _ a ts[k].s base _ b (by omega)).mono ?_;rintro e y ⟨rfl,n⟩;rw[hh,n];clear n y;go_wp2
     go_roundw
     case rel=>exact⟨k+1,a,by go_num,by omega,m,by omega,b,f⟩
     case measure=>simp[intOf];omega
    |false=>
     (have m:Hid (addP l (ts.take (k+1))=GK a ts[k].s/\IH (GK a ts[k].s)):=by have h:=j.out;simp only[addT,hz,hh,bG,Bool.and_true,if_true]at h;exact h);have O:=Ab p.out.2;clear j hz;(go_wp2_with fail);refine(C6 _ a ts[k].s base _ b (by omega)).mono ?_;rintro e y ⟨rfl,n⟩;rw[hh,n];clear n y;(go_wp2_with fail);refine(Xw _ a ts[k].s base _ b (by omega) P (Aa O)).mono ?_;rintro e w2 ⟨v2,rfl,B,C⟩;have I:=f.trans C;have Q:=Ai (base':=base) B (by omega);have A:=Ls a ts[k].s;have J:=Ab A;clear B C A;go_wp2
     go_roundw
     case rel=>exact⟨k+1,GK a ts[k].s,by go_num,by omega,m,by rw[Aa J];omega,Q,I⟩
     case measure=>simp[intOf];omega
  ·(have R:Hid (addP l ts=a):=by have h:=p.out.1;rwa [Z9 (by omega)]at h);go_wp2;go_ret;rw[R.out];exact⟨_,rfl,b,f⟩
structure IF(c:Bf):Prop where
 body:c.bl.length<=3
 args:c.head.args.length<=2
 lits:∀p∈c.bl,p.1.A.args.length<=2
structure WR(c:Bf):Prop where
 head:Tl c.head.args
 body:∀p∈c.bl,Tl (A2 p)
def Ci(l:List cL)(x:cL):List cL:=if Dn l x then l else l++[x]
def nameL(l:List cL)(p:Bm):List cL:=if Nf p then Ci l p.1.A.name else l
def JE(l:List cL)(c:Bf):List cL:=c.bl.foldl nameL (Ci l c.head.name)
def FK(cs:List Bf):List cL:=cs.foldl JE []
def Qw(l:List cL)(p:Bm):List cL:=addP l (A2 p)
def Iq(l:List cL)(c:Bf):List cL:=c.bl.foldl Qw (addP l c.head.args)
def Ey(cs:List Bf):List cL:=cs.foldl Iq []
theorem Dd{α β:Type}(f:β->α->β)(b:β){l:List α}{k:Nat}(a:k<l.length):(l.take (k+1)).foldl f b=f ((l.take k).foldl f b) l[k]:=by
 rw[ac a,bD];rfl
theorem Ua(pb:Nat)(lv:Value)(cs:List Bf)(w:World)(hP:Aw w pb [lv] 76)(V:Cl w lv cs)(HY:cs.length<=12)(l:∀c∈cs,IF c)(r:∀c∈cs,WR c):
  Calls prog 83 #[.pointer (some ⟨pb,0,none⟩)] w λe w'=>∃v,e= .returned v/\w'.ownsRow w.heap.size 9 1 v (Ey cs).length ((Ey cs).flatMap Ae)/\Ac [] w w':=by
 obtain⟨ad,HS,rfl⟩:=Ak V.row;have G:Hid (Cl w (.slice ad cs.length HS) cs/\(∀c∈cs,IF c)/\(∀c∈cs,WR c)):=⟨V,l,r⟩;clear V l r;go_enter func83,ntmps83;go_wp2
 go_loopw [3,4] (λo i wr=>∃(k:Nat) (d:List cL),i= .int .i64 k/\k<=cs.length/\Hid ((cs.take k).foldl Iq []=d/\IH d)/\d.length<=8*k/\wr.ownsRow w.heap.size 9 1 o d.length (d.flatMap Ae)/\Ac [] w wr) (λ_ i _=>cs.length-(intOf i).toNat)
 case atStart=>exact⟨0,[],rfl,aG _,⟨by simp,by intro y hy;simp at hy⟩,by simp,ax _ _ _ _,Ac.refl _ _⟩
 case round=>
  obtain⟨k,d,rfl,hk,C,H5,F,s⟩:=hrel;obtain⟨K7,K6,rfl⟩:=Ak F;have u:=(hP.kept s (by simp)).cell 0;simp at u;have AB:=s.size;by_cases j:k<cs.length
  ·have I:=G.out.1.kept s;obtain⟨g,H6,he,hc,CC⟩:=AE I.row (λc _=>BB c) k j;simp only[Z6]at he;obtain⟨rfl,_,rfl⟩:=he;have W:=CC k j 1 (by omega);simp[Co]at W;have p:=I.each cs[k] (Z7 j);have l:=G.out.2.1 cs[k] (Z7 j);have r:=G.out.2.2 cs[k] (Z7 j);obtain⟨K8,K3,U⟩:=Ak p.args;obtain⟨HP,HJ,FA⟩:=Ak p.body;rw[U]at W;have HC:Hid (cs[k].bv= .slice HP cs[k].bl.length HJ):=FA;have A:=U2 _ _ d cs[k].head.args w.heap.size _ F p.args AB (by have:=l.args;omega) C.out.2 r.head;rw[U]at A;have Y:=Ab A;have KS:=l.args;have H0:=l.body;have x:Hid (IF cs[k]/\WR cs[k]):=⟨l,r⟩;clear CC I p U FA A l r;(go_wp2_with fail);refine(Aa Y).mono ?_;rintro e w1 ⟨v1,rfl,D,Bx⟩;have X:=s.trans Bx;have J:=Ab (Sk d cs[k].head.args);obtain⟨n,E⟩:∃n,addP d cs[k].head.args=n:=⟨_,rfl⟩;rw[E]at D J;have AT:Hid (addP d cs[k].head.args=n/\IH n):=⟨E,by rw[<-E];exact Pr C.out.2 x.out.2.head⟩;(have HV:n.length<=8*k+2:=by have:=Aa J;omega);obtain⟨K9,KK,rfl⟩:=Ak D;clear W u F s AB Bx E J Y;go_wp2
   go_loopw [3,5] (λo i N=>∃(m:Nat) (b:List cL),i= .int .i64 m/\m<=cs[k].bl.length/\Hid ((cs[k].bl.take m).foldl Qw n=b/\IH b)/\b.length<=8*k+2+2*m/\N.ownsRow w.heap.size 9 1 o b.length (b.flatMap Ae)/\Ac [] w N) (λ_ i _=>cs[k].bl.length-(intOf i).toNat)
   case atStart=>exact⟨0,n,rfl,aG _,⟨by simp,AT.out.2⟩,by omega,D,X⟩
   case round=>
    rename_i N _;clear D X;obtain⟨m,b,rfl,hm,t,Ix,z,q⟩:=hrel;obtain⟨JJ,HU,rfl⟩:=Ak z;have u:=(hP.kept q (by simp)).cell 0;simp at u;have LC:=q.size;have R:=G.out.1.kept q;obtain⟨g2,HU,HD,_,FF⟩:=AE R.row (λc _=>BB c) k j;simp only[Z6,ai,aW]at HD;obtain⟨⟨rfl,_,_⟩,_,rfl⟩:=HD;have L:=FF k j 3 (by omega);simp[Co]at L;rw[HC.out]at L;have p:=R.each cs[k] (Z7 j);clear FF R;by_cases a:m<cs[k].bl.length
    ·obtain⟨gb,H1,K,K1,f⟩:=AE p.body (λc _=>BF c) m a;rw[HC.out]at K;simp only[Z6]at K;obtain⟨rfl,_,rfl⟩:=K;have O:=p.lits cs[k].bl[m] (Z7 a);obtain⟨LB,Jx,Q⟩:=Ak O;have T:=Po cs[k].bl[m] _ O;simp only[Bc,Bq,Q]at T;have d0:=f m a 0 (by omega);have d1:=f m a 1 (by omega);have H:=f m a 2 (by omega);have d3:=f m a 3 (by omega);have d4:=f m a 4 (by omega);have d5:=f m a 5 (by omega);have d6:=f m a 6 (by omega);have Z:=f m a 7 (by omega);have d8:=f m a 8 (by omega);simp[Bc,Bq]at d0 d1 H d3 d4 d5 d6 Z d8;rw[Q]at H;have HT:=Ab T;clear f O Q p T;have K4:(A2 cs[k].bl[m]).length<=2:=by
      have:=x.out.1.lits cs[k].bl[m] (Z7 a);unfold A2;split
      ·exact this
      ·simp
     (go_wp2_with fail);refine(Aa HT).mono ?_;rintro e w2 ⟨tv,rfl,FC,S⟩;have M:=q.trans S;have CL:=Ad z S (by simp);have HN:=M.size;clear d0 d1 H d3 d4 d5 d6 Z d8 HT u L;(go_wp2_with fail);refine(U2 _ _ b (A2 cs[k].bl[m]) w.heap.size _ CL FC HN (by omega) t.out.2 (x.out.2.body _ (Z7 a))).mono ?_;rintro e w3 ⟨v3,rfl,BT,EY⟩;have HK:=M.trans EY;have P:=Ab (Sk b (A2 cs[k].bl[m]));have HB:Hid ((cs[k].bl.take (m+1)).foldl Qw n=addP b (A2 cs[k].bl[m])/\IH (addP b (A2 cs[k].bl[m]))):=
      ⟨by rw[Dd _ _ a,t.out.1];rfl,Pr t.out.2 (x.out.2.body _ (Z7 a))⟩
     obtain⟨B,Ha⟩:∃B,addP b (A2 cs[k].bl[m])=B:=⟨_,rfl⟩;rw[Ha]at BT P HB;(have HH:B.length<=8*k+2+2*(m+1):=by have:=Aa P;omega);clear q z CL FC S EY M Ha P;go_wp2
     go_roundw
     case rel=>exact⟨m+1,B,by go_num,by omega,HB,HH,BT,HK⟩
     case measure=>simp[intOf];omega
    ·have HZ:Hid ((cs.take (k+1)).foldl Iq []=b/\IH b):=by
      have h:=t.out.1;rw[Z9 (by omega)]at h;refine⟨?_,t.out.2⟩;rw[Dd _ _ j,C.out.1,<-h];unfold Iq;rw[AT.out.1]
     go_wp2
     go_roundw
     case rel=>exact⟨k+1,b,by go_num,by omega,HZ,by omega,z,q⟩
     case measure=>simp[intOf];omega
  ·(have HE:Hid (Ey cs=d):=by have h:=C.out.1;rwa [Z9 (by omega)]at h);go_wp2;go_ret;rw[HE.out];exact⟨_,rfl,F,s⟩
theorem Hb(w:World)(o:Obj)(cs:Array Value)(t:TypeId)(l:List Value)(a:l=cs.toList):∀j u,l[j]?=some u->((w.alloc o).alloc (.cells cs t)).cell? ((⟨w.heap.size+1,0,none⟩:Addr).add j)=some u:=by
 subst a;have h:=aS (w.alloc o) (.cells cs t);rw[aP]at h;exact aF h
theorem WD(pb:Nat)(lv:Value)(cs:List Bf)(w:World)(hP:Aw w pb [lv] 76)(hR:Cl w lv cs)(K8:cs.length<=12)(Z:∀c∈cs,IF c):
  Calls prog 22 #[.pointer (some ⟨pb,0,none⟩)] w λe w'=>∃v,e= .returned v/\w'.ownsRow w.heap.size 9 1 v (FK cs).length ((FK cs).flatMap Ae)/\Ac [] w w':=by
 obtain⟨i0,CC,Ax,EX,BT⟩:=bj Tryz.info9;obtain⟨ad,K5,rfl⟩:=Ak hR.row;have HR:Hid (Cl w (.slice ad cs.length K5) cs/\(∀c∈cs,IF c)):=⟨hR,Z⟩;clear hR Z;have LM:∀(x:Bool) (w:World),(Op.unary .not (.bool x)).run prog w= .ok (.bool (!x)) w:=λ_ _=>rfl
 go_enter func22,ntmps22;go_wp2
 go_loopw [3,4] (λo i wr=>∃(k:Nat) (f:List cL),i= .int .i64 k/\k<=cs.length/\Hid ((cs.take k).foldl JE []=f)/\f.length<=4*k/\wr.ownsRow w.heap.size 9 1 o f.length (f.flatMap Ae)/\Ac [] w wr) (λ_ i _=>cs.length-(intOf i).toNat)
 case atStart=>exact⟨0,[],rfl,aG _,by show _=_;simp,by simp,ax _ _ _ _,Ac.refl _ _⟩
 case round=>
  obtain⟨k,f,rfl,hk,HF,LC,G,I⟩:=hrel;obtain⟨H4,H2,rfl⟩:=Ak G;have O:=(hP.kept I (by simp)).cell 0;simp at O;have HP:=I.size;by_cases B:k<cs.length
  ·have FP:=HR.out.1.kept I;obtain⟨g,LE,he,hc,HT⟩:=AE FP.row (λc _=>BB c) k B;simp only[Z6]at he;obtain⟨rfl,_,rfl⟩:=he;have HH:=HT k B 0 (by omega);simp[Co]at HH;have E:=FP.each cs[k] (Z7 B);have Z:=HR.out.2 cs[k] (Z7 B);obtain⟨K1,Ix,HW⟩:=Ak E.body;have FF:Hid (cs[k].bv= .slice K1 cs[k].bl.length Ix):=HW;have K9:=Z.body;clear HT FP E HW Z;(have K6:∀(b:List cL) (v1:Value) (U:World),Hid (Ci f cs[k].head.name=b)->b.length<=4*k+1->U.ownsRow w.heap.size 9 1 v1 b.length (b.flatMap Ae)->Ac [] w U->True:=λ_ _ _ _ _ _ _=>trivial);clear K6;cases hh:Dn f cs[k].head.name with
   |true=>
    (have M:Hid (Ci f cs[k].head.name=f):=by show _=_;simp[Ci,hh]);(go_wp2_with fail);refine(C6 _ f cs[k].head.name w.heap.size _ G (by omega)).mono ?_;rintro e z ⟨rfl,d⟩;rw[hh,d];clear d z hh;have F:=G;have Y:=I;(have X:f.length<=4*k+1:=by omega);go_wp2;obtain⟨b,M,F,X⟩:∃b,Hid (Ci f cs[k].head.name=b)/\wr.ownsRow w.heap.size 9 1 (.slice H4 f.length H2) b.length (b.flatMap Ae)/\b.length<=4*k+1:=⟨f,M,F,X⟩;clear HH O G I HP
    go_loopw [3,5] (λo i wq=>∃(m:Nat) (a:List cL),i= .int .i64 m/\m<=cs[k].bl.length/\Hid ((cs[k].bl.take m).foldl nameL b=a)/\a.length<=4*k+1+m/\wq.ownsRow w.heap.size 9 1 o a.length (a.flatMap Ae)/\Ac [] w wq) (λ_ i _=>cs[k].bl.length-(intOf i).toNat)
    case atStart=>exact⟨0,b,rfl,aG _,by show _=_;simp,by omega,F,Y⟩
    case round=>
     clear F Y;obtain⟨m,a,rfl,hm,W,KS,C,u⟩:=hrel;obtain⟨AT,EY,rfl⟩:=Ak C;have O:=(hP.kept u (by simp)).cell 0;simp at O;have K7:=u.size;have Q:=HR.out.1.kept u;obtain⟨g2,Jx,FA,_,BA⟩:=AE Q.row (λc _=>BB c) k B;simp only[Z6,ai,aW]at FA;obtain⟨⟨rfl,_,_⟩,_,rfl⟩:=FA;have AH:=BA k B 3 (by omega);simp[Co]at AH;rw[FF.out]at AH;have E:=Q.each cs[k] (Z7 B);clear BA Q;by_cases j:m<cs[k].bl.length
     ·obtain⟨gb,H7,N,K3,p⟩:=AE E.body (λc _=>BF c) m j;rw[FF.out]at N;simp only[Z6]at N;obtain⟨rfl,_,rfl⟩:=N;have hl:=E.lits cs[k].bl[m] (Z7 j);obtain⟨HN,HG,EK⟩:=Ak hl;have d0:=p m j 0 (by omega);have d1:=p m j 1 (by omega);have V:=p m j 2 (by omega);have d3:=p m j 3 (by omega);have d4:=p m j 4 (by omega);have d5:=p m j 5 (by omega);have d6:=p m j 6 (by omega);have d7:=p m j 7 (by omega);have d8:=p m j 8 (by omega);simp[Bc,Bq]at d0 d1 V d3 d4 d5 d6 d7 d8;rw[EK]at V;clear p hl EK E;(have n:Hid ((cs[k].bl.take (m+1)).foldl nameL b=nameL a cs[k].bl[m]):=by show _=_;rw[Dd _ _ j,W.out]);have r:=C.alloc (.cells #[.int .u8 cs[k].bl[m].1.kind.toNat, .string cs[k].bl[m].1.A.name, .slice HN cs[k].bl[m].1.A.args.length HG, .int .i64 cs[k].bl[m].1.A.at_, .int .u8 cs[k].bl[m].1.L.v.toNat, .string cs[k].bl[m].1.L.s, .int .u8 cs[k].bl[m].1.R.v.toNat, .string cs[k].bl[m].1.R.s, .int .i64 cs[k].bl[m].1.at_] 95);rcases Ep cs[k].bl[m] with⟨k1,l⟩|⟨k1,k2,l⟩|⟨k1,k2,l⟩
      ·cases hh2:Dn a cs[k].bl[m].1.A.name with
       |true=>
        (have y:Hid ((cs[k].bl.take (m+1)).foldl nameL b=a):=by show _=_;rw[n.out];simp[nameL,Ci,l,hh2]);clear n l;(go_wp2_with fail);refine(C6 _ a cs[k].bl[m].1.A.name w.heap.size _ r (by omega)).mono ?_;rintro e z ⟨rfl,d⟩;rw[hh2,d];clear d z hh2;go_wp2
        go_roundw
        case rel=>exact⟨m+1,a,by go_num,by omega,y,by omega,r,u.alloc _⟩
        case measure=>simp[intOf];omega
       |false=>
        (have y:Hid ((cs[k].bl.take (m+1)).foldl nameL b=a++[cs[k].bl[m].1.A.name]):=by show _=_;rw[n.out];simp[nameL,Ci,l,hh2]);clear n l;(go_wp2_with fail);refine(C6 _ a cs[k].bl[m].1.A.name w.heap.size _ r (by omega)).mono ?_;rintro e z ⟨rfl,d⟩;rw[hh2,d];clear d z hh2;go_wp2_with (at_builtin;refine ay _ rfl (.tmp 80) (.tmp 84) _ rfl w.heap.size 9 i0 _ 1 16 underlying41 CC Ax EX BT rfl (by omega) (.slice AT a.length EY) a.length (a.flatMap Ae) rfl (r.alloc _) ⟨wr.heap.size+1,0,none⟩ 1 1 [.string cs[k].bl[m].1.A.name] rfl rfl (Hb wr _ _ _ _ rfl) (by simp[Value.oneCell']) (by omega) (by unfold maxLen;omega) (by omega) (by simp;omega) (wr.heap.size+2) (by simp) ?_;intro g5 HI T J D K P)
        have S:Ac [] w T:=((u.alloc _).alloc _).grown D (λq H=>Or.inr (C.lt q H).1);clear D K P;go_wp2
        go_roundw
        case rel=>
         refine⟨m+1,a++[cs[k].bl[m].1.A.name],by go_num,by omega,y,by simp;omega,?_,S⟩;simpa[Ae] using J
        case measure=>simp[intOf];omega
      ·cases hh2:Dn a cs[k].bl[m].1.A.name with
       |true=>
        (have y:Hid ((cs[k].bl.take (m+1)).foldl nameL b=a):=by show _=_;rw[n.out];simp[nameL,Ci,l,hh2]);clear n l;(go_wp2_with fail);refine(C6 _ a cs[k].bl[m].1.A.name w.heap.size _ r (by omega)).mono ?_;rintro e z ⟨rfl,d⟩;rw[hh2,d];clear d z hh2;go_wp2
        go_roundw
        case rel=>exact⟨m+1,a,by go_num,by omega,y,by omega,r,u.alloc _⟩
        case measure=>simp[intOf];omega
       |false=>
        (have y:Hid ((cs[k].bl.take (m+1)).foldl nameL b=a++[cs[k].bl[m].1.A.name]):=by show _=_;rw[n.out];simp[nameL,Ci,l,hh2]);clear n l;(go_wp2_with fail);refine(C6 _ a cs[k].bl[m].1.A.name w.heap.size _ r (by omega)).mono ?_;rintro e z ⟨rfl,d⟩;rw[hh2,d];clear d z hh2;go_wp2_with (at_builtin;refine ay _ rfl (.tmp 80) (.tmp 84) _ rfl w.heap.size 9 i0 _ 1 16 underlying41 CC Ax EX BT rfl (by omega) (.slice AT a.length EY) a.length (a.flatMap Ae) rfl (r.alloc _) ⟨wr.heap.size+1,0,none⟩ 1 1 [.string cs[k].bl[m].1.A.name] rfl rfl (Hb wr _ _ _ _ rfl) (by simp[Value.oneCell']) (by omega) (by unfold maxLen;omega) (by omega) (by simp;omega) (wr.heap.size+2) (by simp) ?_;intro g5 HI T J D K P)
        have S:Ac [] w T:=((u.alloc _).alloc _).grown D (λq H=>Or.inr (C.lt q H).1);clear D K P;go_wp2
        go_roundw
        case rel=>
         refine⟨m+1,a++[cs[k].bl[m].1.A.name],by go_num,by omega,y,by simp;omega,?_,S⟩;simpa[Ae] using J
        case measure=>simp[intOf];omega
      ·(have y:Hid ((cs[k].bl.take (m+1)).foldl nameL b=a):=by show _=_;rw[n.out];simp[nameL,l]);clear n l;go_wp2
       go_roundw
       case rel=>exact⟨m+1,a,by go_num,by omega,y,by omega,r,u.alloc _⟩
       case measure=>simp[intOf];omega
     ·have HZ:Hid ((cs.take (k+1)).foldl JE []=a):=by
       have h:=W.out;rw[Z9 (by omega)]at h;show _=_;rw[Dd _ _ B,HF.out,<-h];unfold JE;rw[M.out]
      go_wp2
      go_roundw
      case rel=>exact⟨k+1,a,by go_num,by omega,HZ,by omega,C,u⟩
      case measure=>simp[intOf];omega
   |false=>
    (have M:Hid (Ci f cs[k].head.name=f++[cs[k].head.name]):=by show _=_;simp[Ci,hh]);(go_wp2_with fail);refine(C6 _ f cs[k].head.name w.heap.size _ G (by omega)).mono ?_;rintro e z ⟨rfl,d⟩;rw[hh,d];clear d z hh;go_wp2_with (at_builtin;refine ay _ rfl (.tmp 28) (.tmp 38) _ rfl w.heap.size 9 i0 _ 1 16 underlying41 CC Ax EX BT rfl (by omega) (.slice H4 f.length H2) f.length (f.flatMap Ae) rfl (G.alloc _) ⟨wr.heap.size,0,none⟩ 1 1 [.string cs[k].head.name] rfl rfl (aF (cs:=#[.string cs[k].head.name]) (t:=9) (fr:=(0,0)) (aS wr _)) (by simp[Value.oneCell']) (by omega) (by unfold maxLen;omega) (by omega) (by simp;omega) (wr.heap.size+1) (by simp) ?_;intro g1 HQ U HY HU H5 H8)
    have Y:Ac [] w U:=(I.alloc _).grown HU (λq H=>Or.inr (G.lt q H).1);(have F:U.ownsRow w.heap.size 9 1 (.slice (some ⟨g1,0,none⟩) (f.length+1) HQ) (f++[cs[k].head.name]).length ((f++[cs[k].head.name]).flatMap Ae):=by simpa[Ae] using HY);(have X:(f++[cs[k].head.name]).length<=4*k+1:=by simp;omega);clear HU H5 H8 HY;go_wp2;obtain⟨b,M,F,X⟩:∃b,Hid (Ci f cs[k].head.name=b)/\U.ownsRow w.heap.size 9 1 (.slice (some ⟨g1,0,none⟩) (f.length+1) HQ) b.length (b.flatMap Ae)/\b.length<=4*k+1:=⟨_,M,F,X⟩;clear HH O G I HP
    go_loopw [3,5] (λo i wq=>∃(m:Nat) (a:List cL),i= .int .i64 m/\m<=cs[k].bl.length/\Hid ((cs[k].bl.take m).foldl nameL b=a)/\a.length<=4*k+1+m/\wq.ownsRow w.heap.size 9 1 o a.length (a.flatMap Ae)/\Ac [] w wq) (λ_ i _=>cs[k].bl.length-(intOf i).toNat)
    case atStart=>exact⟨0,b,rfl,aG _,by show _=_;simp,by omega,F,Y⟩
    case round=>
     clear F Y;obtain⟨m,a,rfl,hm,W,KS,C,u⟩:=hrel;obtain⟨AT,EY,rfl⟩:=Ak C;have O:=(hP.kept u (by simp)).cell 0;simp at O;have K7:=u.size;have Q:=HR.out.1.kept u;obtain⟨g2,Jx,FA,_,BA⟩:=AE Q.row (λc _=>BB c) k B;simp only[Z6,ai,aW]at FA;obtain⟨⟨rfl,_,_⟩,_,rfl⟩:=FA;have AH:=BA k B 3 (by omega);simp[Co]at AH;rw[FF.out]at AH;have E:=Q.each cs[k] (Z7 B);clear BA Q;by_cases j:m<cs[k].bl.length
     ·obtain⟨gb,H7,N,K3,p⟩:=AE E.body (λc _=>BF c) m j;rw[FF.out]at N;simp only[Z6]at N;obtain⟨rfl,_,rfl⟩:=N;have hl:=E.lits cs[k].bl[m] (Z7 j);obtain⟨HN,HG,EK⟩:=Ak hl;have d0:=p m j 0 (by omega);have d1:=p m j 1 (by omega);have V:=p m j 2 (by omega);have d3:=p m j 3 (by omega);have d4:=p m j 4 (by omega);have d5:=p m j 5 (by omega);have d6:=p m j 6 (by omega);have d7:=p m j 7 (by omega);have d8:=p m j 8 (by omega);simp[Bc,Bq]at d0 d1 V d3 d4 d5 d6 d7 d8;rw[EK]at V;clear p hl EK E;(have n:Hid ((cs[k].bl.take (m+1)).foldl nameL b=nameL a cs[k].bl[m]):=by show _=_;rw[Dd _ _ j,W.out]);have r:=C.alloc (.cells #[.int .u8 cs[k].bl[m].1.kind.toNat, .string cs[k].bl[m].1.A.name, .slice HN cs[k].bl[m].1.A.args.length HG, .int .i64 cs[k].bl[m].1.A.at_, .int .u8 cs[k].bl[m].1.L.v.toNat, .string cs[k].bl[m].1.L.s, .int .u8 cs[k].bl[m].1.R.v.toNat, .string cs[k].bl[m].1.R.s, .int .i64 cs[k].bl[m].1.at_] 95);rcases Ep cs[k].bl[m] with⟨k1,l⟩|⟨k1,k2,l⟩|⟨k1,k2,l⟩
      ·cases hh2:Dn a cs[k].bl[m].1.A.name with
       |true=>
        (have y:Hid ((cs[k].bl.take (m+1)).foldl nameL b=a):=by show _=_;rw[n.out];simp[nameL,Ci,l,hh2]);clear n l;(go_wp2_with fail);refine(C6 _ a cs[k].bl[m].1.A.name w.heap.size _ r (by omega)).mono ?_;rintro e z ⟨rfl,d⟩;rw[hh2,d];clear d z hh2;go_wp2
        go_roundw
        case rel=>exact⟨m+1,a,by go_num,by omega,y,by omega,r,u.alloc _⟩
        case measure=>simp[intOf];omega
       |false=>
        (have y:Hid ((cs[k].bl.take (m+1)).foldl nameL b=a++[cs[k].bl[m].1.A.name]):=by show _=_;rw[n.out];simp[nameL,Ci,l,hh2]);clear n l;(go_wp2_with fail);refine(C6 _ a cs[k].bl[m].1.A.name w.heap.size _ r (by omega)).mono ?_;rintro e z ⟨rfl,d⟩;rw[hh2,d];clear d z hh2;go_wp2_with (at_builtin;refine ay _ rfl (.tmp 80) (.tmp 84) _ rfl w.heap.size 9 i0 _ 1 16 underlying41 CC Ax EX BT rfl (by omega) (.slice AT a.length EY) a.length (a.flatMap Ae) rfl (r.alloc _) ⟨wr.heap.size+1,0,none⟩ 1 1 [.string cs[k].bl[m].1.A.name] rfl rfl (Hb wr _ _ _ _ rfl) (by simp[Value.oneCell']) (by omega) (by unfold maxLen;omega) (by omega) (by simp;omega) (wr.heap.size+2) (by simp) ?_;intro g5 HI T J D K P)
        have S:Ac [] w T:=((u.alloc _).alloc _).grown D (λq H=>Or.inr (C.lt q H).1);clear D K P;go_wp2
        go_roundw
        case rel=>
         refine⟨m+1,a++[cs[k].bl[m].1.A.name],by go_num,by omega,y,by simp;omega,?_,S⟩;simpa[Ae] using J
        case measure=>simp[intOf];omega
      ·cases hh2:Dn a cs[k].bl[m].1.A.name with
       |true=>
        (have y:Hid ((cs[k].bl.take (m+1)).foldl nameL b=a):=by show _=_;rw[n.out];simp[nameL,Ci,l,hh2]);clear n l;(go_wp2_with fail);refine(C6 _ a cs[k].bl[m].1.A.name w.heap.size _ r (by omega)).mono ?_;rintro e z ⟨rfl,d⟩;rw[hh2,d];clear d z hh2;go_wp2
        go_roundw
        case rel=>exact⟨m+1,a,by go_num,by omega,y,by omega,r,u.alloc _⟩
        case measure=>simp[intOf];omega
       |false=>
        (have y:Hid ((cs[k].bl.take (m+1)).foldl nameL b=a++[cs[k].bl[m].1.A.name]):=by show _=_;rw[n.out];simp[nameL,Ci,l,hh2]);clear n l;(go_wp2_with fail);refine(C6 _ a cs[k].bl[m].1.A.name w.heap.size _ r (by omega)).mono ?_;rintro e z ⟨rfl,d⟩;rw[hh2,d];clear d z hh2;go_wp2_with (at_builtin;refine ay _ rfl (.tmp 80) (.tmp 84) _ rfl w.heap.size 9 i0 _ 1 16 underlying41 CC Ax EX BT rfl (by omega) (.slice AT a.length EY) a.length (a.flatMap Ae) rfl (r.alloc _) ⟨wr.heap.size+1,0,none⟩ 1 1 [.string cs[k].bl[m].1.A.name] rfl rfl (Hb wr _ _ _ _ rfl) (by simp[Value.oneCell']) (by omega) (by unfold maxLen;omega) (by omega) (by simp;omega) (wr.heap.size+2) (by simp) ?_;intro g5 HI T J D K P)
        have S:Ac [] w T:=((u.alloc _).alloc _).grown D (λq H=>Or.inr (C.lt q H).1);clear D K P;go_wp2
        go_roundw
        case rel=>
         refine⟨m+1,a++[cs[k].bl[m].1.A.name],by go_num,by omega,y,by simp;omega,?_,S⟩;simpa[Ae] using J
        case measure=>simp[intOf];omega
      ·(have y:Hid ((cs[k].bl.take (m+1)).foldl nameL b=a):=by show _=_;rw[n.out];simp[nameL,l]);clear n l;go_wp2
       go_roundw
       case rel=>exact⟨m+1,a,by go_num,by omega,y,by omega,r,u.alloc _⟩
       case measure=>simp[intOf];omega
     ·have HZ:Hid ((cs.take (k+1)).foldl JE []=a):=by
       have h:=W.out;rw[Z9 (by omega)]at h;show _=_;rw[Dd _ _ B,HF.out,<-h];unfold JE;rw[M.out]
      go_wp2
      go_roundw
      case rel=>exact⟨k+1,a,by go_num,by omega,HZ,by omega,C,u⟩
      case measure=>simp[intOf];omega
  ·(have HE:Hid (FK cs=f):=by have h:=HF.out;rwa [Z9 (by omega)]at h);go_wp2;go_ret;rw[HE.out];exact⟨_,rfl,G,I⟩
def KJ(x:cL)(l:List cL)(c:Bf):List cL:=if c.head.name.toList==x.toList then c.bl.foldl nameL l else l
def KC(cs:List Bf)(l:List cL)(x:cL):List cL:=cs.foldl (KJ x) l
def C7(cs:List Bf):List cL:=cs.flatMap λc=>(c.bl.filter Nf).map λp=>p.1.A.name
def Na(cs:List Bf)(l:List cL):Nat:=(C7 cs).countP λx=> !Dn l x
def Bd(cs:List Bf)(l:List cL):Prop:=l.length+Na cs l<=1+(C7 cs).length
def Iw:Nat->List Bf->cL->List cL->Nat->Bool
 |0,_,_,_,_=>false
 |f+1,cs,to,l,n=>if h:n<l.length then(if l[n].toList==to.toList then true else Iw f cs to (KC cs l l[n]) (n+1))else false
def Gh(cs:List Bf)(frm to:cL):Bool:=Iw (2+(C7 cs).length) cs to [frm] 0
theorem L9(l:List cL)(x:cL):∀(m:List cL),(m.countP λy=> !Dn (l++[x]) y)<=m.countP λy=> !Dn l y
 |[]=>by simp
 |y::m=>by
  have ih:=L9 l x m;simp only[List.countP_cons];have:(!Dn (l++[x]) y)=true->(!Dn l y)=true:=by
   rw[Jg];cases Dn l y<;>simp
  cases h1:(!Dn (l++[x]) y)with
  |true=>simp only[this h1,if_true];omega
  |false=>simp only[Z8,if_false];omega
theorem Ht(l:List cL)(x:cL)(b:Dn l x=false):∀(m:List cL),x∈m->(m.countP λy=> !Dn (l++[x]) y)+1<=m.countP λy=> !Dn l y
 |[],h=>by simp at h
 |y::m,h=>by
  simp only[List.countP_cons];by_cases c:y=x
  ·subst c;have a:=L9 l y m;(have d:Dn (l++[y]) y=true:=by rw[Jg];simp);simp only[d,b,cV,bG,if_true,Z8,if_false];omega
  ·have ih:=Ht l x b m (by rcases aj.1 h with h|h;exact absurd h.symm c;exact h);have:(!Dn (l++[x]) y)=true->(!Dn l y)=true:=by
    rw[Jg];cases Dn l y<;>simp
   cases a:(!Dn (l++[x]) y)with
   |true=>simp only[this a,if_true];omega
   |false=>simp only[Z8,if_false];omega
theorem X1{cs:List Bf}{c:Bf}{p:Bm}{l:List cL}(f:c∈cs)(a:p∈c.bl)(h:Bd cs l):Bd cs (nameL l p):=by
 unfold nameL Ci;split
 ·rename_i e;split
  ·exact h
  ·rename_i g;(have d:Dn l p.1.A.name=false:=by simpa using g);have b:p.1.A.name∈C7 cs:=by
    unfold C7;rw[bh];exact⟨c,f,az.2 ⟨p,aJ.2 ⟨a,e⟩,rfl⟩⟩
   have:=Ht l p.1.A.name d (C7 cs) b;unfold Bd Na at h⊢;simp only[am,ak,aH];omega
 ·exact h
theorem WG(l:List cL)(p:Bm):∃a,nameL l p=l++a:=by
 unfold nameL Ci;split
 ·split
  ·exact⟨[],by simp⟩
  ·exact⟨[_],rfl⟩
 ·exact⟨[],by simp⟩
structure DU(cs:List Bf)(l l2:List cL):Prop where
 pre:∃suf,l2=l++suf
 bd:Bd cs l2
theorem DU.nameL{cs:List Bf}{l b:List cL}(h:DU cs l b){c:Bf}{p:Bm}(i:c∈cs)(d:p∈c.bl):DU cs l (nameL b p):=by
 obtain⟨⟨a,rfl⟩,g⟩:=h;obtain⟨e,f⟩:=WG (l++a) p;exact⟨⟨a++e,by rw[f,bk]⟩,X1 i d g⟩
theorem DU.at{cs:List Bf}{l a:List cL}(h:DU cs l a){n:Nat}(b:n<l.length):∃c:n<a.length,a[n]=l[n]:=by
 obtain⟨⟨d,rfl⟩,_⟩:=h;exact⟨by simp;omega,List.getElem_append_left b⟩
theorem DU.len{cs:List Bf}{l a:List cL}(h:DU cs l a):l.length<=a.length/\a.length<=1+(C7 cs).length:=by
 obtain⟨⟨c,rfl⟩,b⟩:=h;unfold Bd at b;exact⟨by simp,by omega⟩
theorem Q2(pb:Nat)(lv:Value)(cs:List Bf)(K G:cL)(w:World)(hP:Aw w pb [lv] 76)(hR:Cl w lv cs)(Pl:cs.length<=1000000)(H8:∀c∈cs,c.bl.length<=1000000)(NY:(C7 cs).length<=900000):
  Calls prog 85 #[.pointer (some ⟨pb,0,none⟩), .string K, .string G] w λe w'=>e= .returned (.bool (Gh cs K G))/\Ac [] w w':=by
 obtain⟨i0,K3,H2,FO,FA⟩:=bj Tryz.info9;obtain⟨ad,HT,rfl⟩:=Ak hR.row;obtain⟨R,HF⟩:∃R,Gh cs K G=R:=⟨_,rfl⟩;rw[HF];have HR:Hid (Cl w (.slice ad cs.length HT) cs/\(∀c∈cs,c.bl.length<=1000000)/\Gh cs K G=R):=⟨hR,H8,HF⟩;obtain⟨A,hA⟩:∃A,(C7 cs).length=A:=⟨_,rfl⟩;rw[hA]at NY;have HA:=Ab hA;clear hR H8 HF hA;have ST:∀(x:Bool) (w:World),(Op.unary .not (.bool x)).run prog w= .ok (.bool (!x)) w:=λ_ _=>rfl
 go_enter func85,ntmps85;go_wp2
 go_loopg [7,8] (1+A) (λgk o i wr=>∃(n:Nat) (l:List cL),i= .int .i64 n/\n<=l.length/\l.length<=1+A/\gk=1+A-n/\Hid (Bd cs l/\Iw (2+A-n) cs G l n=R)/\wr.ownsRow w.heap.size 9 1 o l.length (l.flatMap Ae)/\Ac [] w wr)
 case atStart=>
  refine⟨0,[K],rfl,by simp,by simp,by simp,⟨?_,?_⟩,?_,(Ac.refl _ _).alloc _⟩
  ·unfold Bd Na;have:=ej (p:=λx=> !Dn [K] x) (l:=C7 cs);simp only[ak,aH];omega
  ·have h:=HR.out.2.2;unfold Gh at h;rw[Aa HA]at h;exact h
  ·exact⟨rfl,Or.inr ⟨_,1,#[.string K],rfl,au _,aS w _,by simp,by unfold maxLen;omega,rfl,by simp[Ae]⟩⟩
 case round=>
  obtain⟨n,l,rfl,hn,hl,K7,HB,FL,hK⟩:=hrel;have HG:Hid (gk=1+A-n):=K7;clear K7;obtain⟨TL,TH,rfl⟩:=Ak FL;by_cases T:n<l.length
  ·obtain⟨g,RE,he,hc,H4⟩:=AE FL (λc _=>rfl) n T;simp only[Z6]at he;obtain⟨rfl,_,rfl⟩:=he;have F:=H4 n T 0 (by omega);simp[Ae]at F;clear H4;obtain⟨x,S⟩:∃x,l[n]=x:=⟨_,rfl⟩;rw[S]at F;cases hto:(x.toList==G.toList)with
   |true=>
    have NX:Hid (R=true):=by
     have h:=HB.out.2;rw[show 2+A-n=(1+A-n)+1 by omega,Iw,dif_pos T,S,hto]at h;exact h.symm
    clear S;go_wp2;go_ret;rw[NX.out];exact⟨rfl,hK⟩
   |false=>
    have K8:Hid (Iw (2+A-(n+1)) cs G (KC cs l x) (n+1)=R/\l[n]=x):=by
     have h:=HB.out.2;rw[show 2+A-n=(2+A-(n+1))+1 by omega,Iw,dif_pos T,S,hto]at h;exact⟨h,S⟩
    have H1:Hid (DU cs l l):=⟨⟨[],by simp⟩,HB.out.1⟩;clear S HB;go_wp2;clear F hto
    go_loopw [7,9] (λo i M=>∃(k:Nat) (b:List cL),i= .int .i64 k/\k<=cs.length/\Hid ((cs.take k).foldl (KJ x) l=b/\DU cs l b)/\M.ownsRow w.heap.size 9 1 o b.length (b.flatMap Ae)/\Ac [] w M) (λ_ i _=>cs.length-(intOf i).toNat)
    case atStart=>exact⟨0,l,rfl,aG _,⟨by simp,H1.out⟩,FL,hK⟩
    case round=>
     clear FL hK H1;obtain⟨k,b,rfl,hk,Y,H,B⟩:=hrel;obtain⟨SP,N4,rfl⟩:=Ak H;have KK:=(hP.kept B (by simp)).cell 0;simp at KK;by_cases t:k<cs.length
     ·have HQ:=HR.out.1.kept B;obtain⟨gp,SL,KS,_,NV⟩:=AE HQ.row (λc _=>BB c) k t;simp only[Z6]at KS;obtain⟨rfl,_,rfl⟩:=KS;have W:=HQ.each cs[k] (Z7 t);have TS:=HR.out.2.1 cs[k] (Z7 t);obtain⟨M0,H3,Ix⟩:=Ak W.body;have LB:=Ab Ix;clear NV HQ W Ix KK;have Q:Hid (∀(J:World) (o:Value) (a:List cL),Ac [] w J->J.ownsRow w.heap.size 9 1 o a.length (a.flatMap Ae)->DU cs l a->
        J.cell? ⟨pb,0,none⟩=some (.slice (some ⟨gp,0,none⟩) cs.length HT)/\J.cell? ⟨gp,k*5,none⟩=some (.string cs[k].head.name)/\J.cell? ⟨gp,k*5+3,none⟩=some (.slice M0 cs[k].bl.length H3)/\
        ∃E N,o= .slice (some ⟨E,0,none⟩) a.length N/\n<a.length/\J.cell? ⟨E,n,none⟩=some (.string x)):=by
       intro J o a K9 LM Os;have h1:=(hP.kept K9 (by simp)).cell 0;have LL:=HR.out.1.kept K9;obtain⟨g2,c2,LC,_,Jx⟩:=AE LL.row (λc _=>BB c) k t;simp only[Z6,ai,aW]at LC;obtain⟨⟨rfl,_,_⟩,_,rfl⟩:=LC;have h2:=Jx k t 0 (by omega);have h3:=Jx k t 3 (by omega);simp[Co]at h1 h2 h3;rw[Aa LB]at h3;obtain⟨Z,Mo⟩:=Os.at T;obtain⟨E,N,P,_,N2⟩:=AE LM (λc _=>rfl) n Z;have h4:=N2 n Z 0 (by omega);simp[Ae]at h4;rw[Mo,K8.out.2]at h4;exact⟨h1,h2,h3,E,N,P,Z,h4⟩
      cases hnm:(cs[k].head.name.toList==x.toList)with
      |false=>
       have D:Hid ((cs.take (k+1)).foldl (KJ x) l=b/\DU cs l b):=⟨by rw[Dd _ _ t,Y.out.1];simp[KJ,hnm],Y.out.2⟩;obtain⟨V,f2,f3,E,N,P,Z,f4⟩:=Q.out _ _ _ B H D.out.2;simp only[Z6]at P;obtain⟨rfl,_,rfl⟩:=P;clear Q;(have MB:(k:Int)<(cs.length:Int):=by omega);(have MN:(n:Int)<(b.length:Int):=by omega);go_wp2
       go_loopw [7,10] (λo i M=>o= .slice (some ⟨E,0,none⟩) b.length N4/\i= .int .i64 0/\∃q,M=wr.drewN q) (λ_ _ _=>0)
       case atStart=>exact⟨rfl,rfl,0,rfl⟩
       case round=>
        obtain⟨rfl,rfl,q,rfl⟩:=hrel;go_wp2_with fail
        go_quiet (fail)
        go_wp2_with fail
        go_roundw
        case rel=>exact⟨k+1,b,by go_num,by omega,D,CT H _,B.drewN _⟩
        case measure=>simp[intOf];omega
      |true=>
       (have OH:Hid ((cs.take (k+1)).foldl (KJ x) l=cs[k].bl.foldl nameL b):=by show _=_;rw[Dd _ _ t,Y.out.1];simp[KJ,hnm]);have JJ:=Ab Y.out.2;(have MB:(k:Int)<(cs.length:Int):=by omega);obtain⟨V,_⟩:=Q.out _ _ _ B H (Aa JJ);go_wp2;clear V
       go_loopw [7,10] (λo i M=>∃(m:Nat) (a:List cL),i= .int .i64 m/\m<=cs[k].bl.length/\Hid ((cs[k].bl.take m).foldl nameL b=a/\DU cs l a)/\M.ownsRow w.heap.size 9 1 o a.length (a.flatMap Ae)/\Ac [] w M) (λ_ i _=>cs[k].bl.length-(intOf i).toNat)
       case atStart=>exact⟨0,b,rfl,aG _,⟨by simp,Aa JJ⟩,H,B⟩
       case round=>
        clear H;have RI:=Ab B;clear B;obtain⟨m,a,rfl,hm,HN,CL,U⟩:=hrel;obtain⟨V,f2,f3,E,N,P,Z,f4⟩:=Q.out _ _ _ U CL HN.out.2;subst P;(have MN:(n:Int)<(a.length:Int):=by omega);(have SB:a.length<=1+A:=by have:=HN.out.2.len.2;rw[Aa HA]at this;exact this);have M6:=U.size;by_cases f:m<cs[k].bl.length
        ·(have RV:(m:Int)<(cs[k].bl.length:Int):=by omega);(have Nq:decide ((m:Int)<(cs[k].bl.length:Int))=true:=by simp;omega);have W:=(HR.out.1.kept U).each cs[k] (Z7 t);obtain⟨d,P0,HI,S0,y⟩:=AE W.body (λc _=>BF c) m f;rw[Aa LB]at HI;simp only[Z6]at HI;obtain⟨rfl,_,rfl⟩:=HI;have hl:=W.lits cs[k].bl[m] (Z7 f);obtain⟨HU,HJ,K5⟩:=Ak hl;have F:=y m f 0 (by omega);have d1:=y m f 1 (by omega);have X:=y m f 2 (by omega);have d3:=y m f 3 (by omega);have d4:=y m f 4 (by omega);have d5:=y m f 5 (by omega);have d6:=y m f 6 (by omega);have d7:=y m f 7 (by omega);have d8:=y m f 8 (by omega);simp[Bc,Bq]at F d1 X d3 d4 d5 d6 d7 d8;rw[K5]at X;have HD:Hid (wr.cell? ⟨d,m*9,none⟩=some (.int .u8 cs[k].bl[m].1.kind.toNat)/\wr.cell? ⟨d,m*9+1,none⟩=some (.string cs[k].bl[m].1.A.name)/\wr.cell? ⟨d,m*9+2,none⟩=some (.slice HU cs[k].bl[m].1.A.args.length HJ)/\wr.cell? ⟨d,m*9+3,none⟩=some (.int .i64 cs[k].bl[m].1.A.at_)/\wr.cell? ⟨d,m*9+4,none⟩=some (.int .u8 cs[k].bl[m].1.L.v.toNat)/\wr.cell? ⟨d,m*9+5,none⟩=some (.string cs[k].bl[m].1.L.s)/\wr.cell? ⟨d,m*9+6,none⟩=some (.int .u8 cs[k].bl[m].1.R.v.toNat)/\wr.cell? ⟨d,m*9+7,none⟩=some (.string cs[k].bl[m].1.R.s)/\wr.cell? ⟨d,m*9+8,none⟩=some (.int .i64 cs[k].bl[m].1.at_)):=⟨F,d1,X,d3,d4,d5,d6,d7,d8⟩;have u:Hid ((cs[k].bl.take (m+1)).foldl nameL b=nameL a cs[k].bl[m]/\DU cs l (nameL a cs[k].bl[m])):=⟨by rw[Dd _ _ f,HN.out.1],HN.out.2.nameL (Z7 t) (Z7 f)⟩;clear y hl K5 W F d1 X d3 d4 d5 d6 d7 d8 Q;go_wp2_with fail
         go_quiet (fail)
         have B9:=CT CL nq;have I:=U.drewN nq;have FF:(wr.drewN nq).cell? ⟨pb,0,none⟩=some (.slice (some ⟨gp,0,none⟩) cs.length HT)/\(wr.drewN nq).cell? ⟨gp,k*5+3,none⟩=some (.slice (some ⟨d,0,none⟩) cs[k].bl.length H3)/\(wr.drewN nq).cell? ⟨d,m*9,none⟩=some (.int .u8 cs[k].bl[m].1.kind.toNat)/\(wr.drewN nq).cell? ⟨d,m*9+1,none⟩=some (.string cs[k].bl[m].1.A.name)/\(wr.drewN nq).cell? ⟨d,m*9+2,none⟩=some (.slice HU cs[k].bl[m].1.A.args.length HJ)/\(wr.drewN nq).cell? ⟨d,m*9+3,none⟩=some (.int .i64 cs[k].bl[m].1.A.at_)/\(wr.drewN nq).cell? ⟨d,m*9+4,none⟩=some (.int .u8 cs[k].bl[m].1.L.v.toNat)/\(wr.drewN nq).cell? ⟨d,m*9+5,none⟩=some (.string cs[k].bl[m].1.L.s)/\(wr.drewN nq).cell? ⟨d,m*9+6,none⟩=some (.int .u8 cs[k].bl[m].1.R.v.toNat)/\(wr.drewN nq).cell? ⟨d,m*9+7,none⟩=some (.string cs[k].bl[m].1.R.s)/\(wr.drewN nq).cell? ⟨d,m*9+8,none⟩=some (.int .i64 cs[k].bl[m].1.at_):=⟨V,f3,HD.out⟩;clear HD V f2 f3 f4 CL U M6;generalize wr.drewN nq=wd at FF B9 I⊢;obtain⟨V,f3,F,d1,X,d3,d4,d5,d6,d7,d8⟩:=FF;have RB:=I.size;have z:=B9.alloc (.cells #[.int .u8 cs[k].bl[m].1.kind.toNat, .string cs[k].bl[m].1.A.name, .slice HU cs[k].bl[m].1.A.args.length HJ, .int .i64 cs[k].bl[m].1.A.at_, .int .u8 cs[k].bl[m].1.L.v.toNat, .string cs[k].bl[m].1.L.s, .int .u8 cs[k].bl[m].1.R.v.toNat, .string cs[k].bl[m].1.R.s, .int .i64 cs[k].bl[m].1.at_] 95);rcases Ep cs[k].bl[m] with⟨k1,j⟩|⟨k1,k2,j⟩|⟨k1,k2,j⟩
         ·cases hh2:Dn a cs[k].bl[m].1.A.name with
          |true=>
           (have e:nameL a cs[k].bl[m]=a:=by simp[nameL,Ci,j,hh2]);(have C:Hid ((cs[k].bl.take (m+1)).foldl nameL b=a/\DU cs l a):=by have h:=u.out;rw[e]at h;exact h);clear e;clear u j;(go_wp2_with fail);refine(C6 _ a cs[k].bl[m].1.A.name w.heap.size _ z (by omega)).mono ?_;rintro e O ⟨rfl,r⟩;rw[hh2,r];clear r O hh2;go_wp2
           go_roundw
           case rel=>exact⟨m+1,a,by go_num,by omega,C,z,I.alloc _⟩
           case measure=>simp[intOf];omega
          |false=>
           (have e:nameL a cs[k].bl[m]=a++[cs[k].bl[m].1.A.name]:=by simp[nameL,Ci,j,hh2]);(have C:Hid ((cs[k].bl.take (m+1)).foldl nameL b=a++[cs[k].bl[m].1.A.name]/\DU cs l (a++[cs[k].bl[m].1.A.name])):=by have h:=u.out;rw[e]at h;exact h);clear e;clear u j;(go_wp2_with fail);refine(C6 _ a cs[k].bl[m].1.A.name w.heap.size _ z (by omega)).mono ?_;rintro e O ⟨rfl,r⟩;rw[hh2,r];clear r O hh2;go_wp2_with (at_builtin;refine ay _ rfl (.tmp 91) (.tmp 95) _ rfl w.heap.size 9 i0 _ 1 16 underlying41 K3 H2 FO FA rfl (by omega) (.slice (some ⟨E,0,none⟩) a.length N) a.length (a.flatMap Ae) rfl (z.alloc _) ⟨wd.heap.size+1,0,none⟩ 1 1 [.string cs[k].bl[m].1.A.name] rfl rfl (Hb wd _ _ _ _ rfl) (by simp[Value.oneCell']) (by omega) (by unfold maxLen;omega) (by omega) (by simp;omega) (wd.heap.size+2) (by simp) ?_;intro g5 NM w5 Go Bx HC HO)
           have HV:Ac [] w w5:=((I.alloc _).alloc _).grown Bx (λq hq=>Or.inr (B9.lt q hq).1);clear Bx HC HO;go_wp2
           go_roundw
           case rel=>
            refine⟨m+1,a++[cs[k].bl[m].1.A.name],by go_num,by omega,C,?_,HV⟩;simpa[Ae] using Go
           case measure=>simp[intOf];omega
         ·cases hh2:Dn a cs[k].bl[m].1.A.name with
          |true=>
           (have e:nameL a cs[k].bl[m]=a:=by simp[nameL,Ci,j,hh2]);(have C:Hid ((cs[k].bl.take (m+1)).foldl nameL b=a/\DU cs l a):=by have h:=u.out;rw[e]at h;exact h);clear e;clear u j;(go_wp2_with fail);refine(C6 _ a cs[k].bl[m].1.A.name w.heap.size _ z (by omega)).mono ?_;rintro e O ⟨rfl,r⟩;rw[hh2,r];clear r O hh2;go_wp2
           go_roundw
           case rel=>exact⟨m+1,a,by go_num,by omega,C,z,I.alloc _⟩
           case measure=>simp[intOf];omega
          |false=>
           (have e:nameL a cs[k].bl[m]=a++[cs[k].bl[m].1.A.name]:=by simp[nameL,Ci,j,hh2]);(have C:Hid ((cs[k].bl.take (m+1)).foldl nameL b=a++[cs[k].bl[m].1.A.name]/\DU cs l (a++[cs[k].bl[m].1.A.name])):=by have h:=u.out;rw[e]at h;exact h);clear e;clear u j;(go_wp2_with fail);refine(C6 _ a cs[k].bl[m].1.A.name w.heap.size _ z (by omega)).mono ?_;rintro e O ⟨rfl,r⟩;rw[hh2,r];clear r O hh2;go_wp2_with (at_builtin;refine ay _ rfl (.tmp 91) (.tmp 95) _ rfl w.heap.size 9 i0 _ 1 16 underlying41 K3 H2 FO FA rfl (by omega) (.slice (some ⟨E,0,none⟩) a.length N) a.length (a.flatMap Ae) rfl (z.alloc _) ⟨wd.heap.size+1,0,none⟩ 1 1 [.string cs[k].bl[m].1.A.name] rfl rfl (Hb wd _ _ _ _ rfl) (by simp[Value.oneCell']) (by omega) (by unfold maxLen;omega) (by omega) (by simp;omega) (wd.heap.size+2) (by simp) ?_;intro g5 NM w5 Go Bx HC HO)
           have HV:Ac [] w w5:=((I.alloc _).alloc _).grown Bx (λq hq=>Or.inr (B9.lt q hq).1);clear Bx HC HO;go_wp2
           go_roundw
           case rel=>
            refine⟨m+1,a++[cs[k].bl[m].1.A.name],by go_num,by omega,C,?_,HV⟩;simpa[Ae] using Go
           case measure=>simp[intOf];omega
         ·(have e:nameL a cs[k].bl[m]=a:=by simp[nameL,j]);(have C:Hid ((cs[k].bl.take (m+1)).foldl nameL b=a/\DU cs l a):=by have h:=u.out;rw[e]at h;exact h);clear e;clear u j;go_wp2
          go_roundw
          case rel=>exact⟨m+1,a,by go_num,by omega,C,z,I.alloc _⟩
          case measure=>simp[intOf];omega
        ·(have Nq:decide ((m:Int)<(cs[k].bl.length:Int))=false:=by simp;omega);(have TV:decide (m<cs[k].bl.length)=false:=by simp;omega);have D:Hid ((cs.take (k+1)).foldl (KJ x) l=a/\DU cs l a):=by
          have h:=HN.out;rw[Z9 (by omega)]at h;exact⟨by rw[Aa OH];exact h.1,h.2⟩
         clear Q;go_wp2_with fail
         go_quiet (fail)
         go_wp2_with fail
         go_roundw
         case rel=>exact⟨k+1,a,by go_num,by omega,D,CT CL _,U.drewN _⟩
         case measure=>simp[intOf];omega
     ·(have D:Hid (KC cs l x=b/\DU cs l b):=by have h:=Y.out;rw[Z9 (by omega)]at h;exact h);(have FO:n+1<=b.length:=by have:=D.out.2.len.1;omega);(have FA:b.length<=1+A:=by have:=D.out.2.len.2;rw[Aa HA]at this;exact this);go_wp2
      go_roundg (1+A-(n+1))
      case measure=>have:=HG.out;omega
      case rel=>exact⟨n+1,b,by go_num,FO,FA,rfl,⟨D.out.2.bd,by rw[<-D.out.1];exact K8.out.1⟩,H,B⟩
  ·have LS:Hid (R=false):=by
    have h:=HB.out.2;rw[show 2+A-n=(1+A-n)+1 by omega,Iw,dif_neg T]at h;exact h.symm
   go_wp2;go_ret;rw[LS.out];exact⟨rfl,hK⟩
def Bp(p:Bm):Bool:=decide (2<p.1.A.args.length)
def Bu(cs:List Bf)(p:Bm):Bool:=Nf p&&(DL cs p.1.A.name !=(p.1.A.args.length:Int))
def BN(cs:List Bf)(i:Nat)(c:Bf):Option (Int×Int):=
 if 12<=i\/3<c.bl.length then some (3,c.at_)
 else if 2<c.head.args.length then some (3,c.at_)
 else if c.bl.any Bp then some (3,c.at_)
 else if 6<(FK (cs.take (i+1))).length\/6<(Ey (cs.take (i+1))).length then some (3,c.at_)
 else if DL cs c.head.name≠(c.head.args.length:Int)then some (4,c.head.at_)
 else match c.bl.find? (Bu cs)with
  |some p=>some (4,p.1.A.at_)
  |none=>if 0<=E7 c.head c.bl then some (5,E7 c.head c.bl)else none
def Dx(cs:List Bf):Nat->List Bf->Option (Int×Int)
 |_,[]=>none
 |i,c::l=>match BN cs i c with
  |some r=>some r
  |none=>Dx cs (i+1) l
def DZ(cs:List Bf)(c:Bf)(p:Bm):Bool:=p.1.kind==33&&Gh cs p.1.A.name c.head.name
def CZ(cs:List Bf)(c:Bf):Option (Int×Int):=(c.bl.find? (DZ cs c)).map λp=>(6,(p.1.at_:Int))
def Cj(cs:List Bf):Int×Int:=match Dx cs 0 cs with
 |some r=>r
 |none=>match cs.findSome? (CZ cs)with
  |some r=>r
  |none=>(0,0)
theorem IR{cs:List Bf}:∀(l:List Bf) (i k:Nat),(∀j (b:j<l.length),j<k->BN cs (i+j) l[j]=none)->k<=l.length->Dx cs i l=Dx cs (i+k) (l.drop k)
 |l,i,0,_,_=>by simp
 |[],i,k+1,_,hk=>by simp at hk
 |c::l,i,k+1,h,hk=>by
  have a:=h 0 (by simp) (by omega);simp only[eD,dN]at a;rw[Dx,a];simp only[dq];rw[IR l (i+1) k (λj b d=>by
   have:=h (j+1) (by simp;omega) (by omega)
   simp only[List.getElem_cons_succ]at this
   rw[show i+1+j=i+(j+1) by omega];exact this) (by simpa using hk)]
  rw[show i+1+k=i+(k+1) by omega]
theorem Ub{cs:List Bf}{k:Nat}(b:k<cs.length)(d:∀j (a:j<cs.length),j<k->BN cs j cs[j]=none){r:Int×Int}(c:BN cs k cs[k]=some r):Cj cs=r:=by
 unfold Cj;rw[IR cs 0 k (λj a e=>by rw[bf];exact d j a e) (by omega),aC b,bf,Dx,c]
theorem Rj{cs:List Bf}(b:∀j (a:j<cs.length),BN cs j cs[j]=none):Cj cs=match cs.findSome? (CZ cs)with|some r=>r|none=>(0,0):=by
 unfold Cj;rw[IR cs 0 cs.length (λj a _=>by rw[bf];exact b j a) (au _),List.drop_length,Dx]
theorem Qj{cs:List Bf}{i:Nat}{c:Bf}(h:BN cs i c=none):i<12/\IF c:=by
 unfold BN at h;split at h
 ·cases h
 ·rename_i d;split at h
  ·cases h
  ·rename_i e;split at h
   ·cases h
   ·rename_i b;refine⟨by omega,⟨by omega,by omega,λp a=>?_⟩⟩;have:Bp p=false:=by
     cases hm:Bp p with
     |false=>rfl
     |true=>exact absurd (by rw[bI];exact⟨p,a,hm⟩) b
    simpa[Bp] using this
theorem Cl.take{w:World}{g:Nat}{cap:Nat}{cs:List Bf}(h:Cl w (.slice (some ⟨g,0,none⟩) cs.length cap) cs)(k:Nat)(r:k<=cs.length):Cl w (.slice (some ⟨g,0,none⟩) k cap) (cs.take k):=by
 refine⟨?_,λc j=>h.each c (cT j)⟩;have d:(cs.take k).length=k:=by simp;omega
 rw[d];have i:∀(l:List Bf),(l.flatMap Co).length=l.length*5:=by
  intro l
  induction l with
  |nil=>rfl
  |cons a l ih=>rw[aB,am,ih,BB,ak];omega
 rcases h.row.2 with⟨b,_⟩|⟨t,s,f,b,_,q,j,m,n,p⟩
 ·cases b
 ·simp only[Z6,ai,aW]at b;obtain⟨⟨rfl,_,_⟩,_,rfl⟩:=b;refine⟨by rw[i,d],Or.inr ⟨g,cap,f,rfl,aG _,q,by omega,m,n,?_⟩⟩;have e:cs.flatMap Co=(cs.take k).flatMap Co++(cs.drop k).flatMap Co:=by rw[<-aN,bF]
  have o:f.toList.take (k*5)=(f.toList.take (cs.length*5)).take (k*5):=by rw[cY,da (by omega)]
  rw[o,p,e,aV (by rw[i,d];omega),Z9 (by rw[i,d];omega)]
structure UR(cs:List Bf):Prop where
 len:cs.length<=1000
 body:∀c∈cs,c.bl.length<=1000
 head:∀c∈cs,c.head.args.length<=1000000
 lits:∀c∈cs,∀p∈c.bl,p.1.A.args.length<=1000000
 atoms:(C7 cs).length<=900000
 full:∀c∈cs,WR c
theorem QJ{w b:World}{g cap:Nat}{cs:List Bf}(h:Cl w (.slice (some ⟨g,0,none⟩) cs.length cap) cs)(o:Ac [] w b){k:Nat}(a:k<cs.length):
  b.cell? ⟨g,k*5,none⟩=some (.string cs[k].head.name)/\b.cell? ⟨g,k*5+1,none⟩=some cs[k].hv/\b.cell? ⟨g,k*5+2,none⟩=some (.int .i64 cs[k].head.at_)/\b.cell? ⟨g,k*5+3,none⟩=some cs[k].bv/\b.cell? ⟨g,k*5+4,none⟩=some (.int .i64 cs[k].at_):=by
 have n:=h.kept o;obtain⟨q,p,j,_,d⟩:=AE n.row (λc _=>BB c) k a;simp only[Z6,ai,aW]at j;obtain⟨⟨rfl,_,_⟩,_,rfl⟩:=j;have l:=d k a 0 (by omega);have i:=d k a 1 (by omega);have e:=d k a 2 (by omega);have m:=d k a 3 (by omega);have f:=d k a 4 (by omega);simp[Co]at l i e m f;exact⟨l,i,e,m,f⟩
theorem QK{w:World}{c:Bf}(h:TF w c){m:Nat}(b:m<c.bl.length):∃a e,c.bv= .slice (some ⟨a,0,none⟩) c.bl.length e/\
  w.cell? ⟨a,m*9,none⟩=some (.int .u8 c.bl[m].1.kind.toNat)/\w.cell? ⟨a,m*9+1,none⟩=some (.string c.bl[m].1.A.name)/\w.cell? ⟨a,m*9+2,none⟩=some c.bl[m].2/\w.cell? ⟨a,m*9+3,none⟩=some (.int .i64 c.bl[m].1.A.at_)/\
  w.cell? ⟨a,m*9+4,none⟩=some (.int .u8 c.bl[m].1.L.v.toNat)/\w.cell? ⟨a,m*9+5,none⟩=some (.string c.bl[m].1.L.s)/\w.cell? ⟨a,m*9+6,none⟩=some (.int .u8 c.bl[m].1.R.v.toNat)/\w.cell? ⟨a,m*9+7,none⟩=some (.string c.bl[m].1.R.s)/\w.cell? ⟨a,m*9+8,none⟩=some (.int .i64 c.bl[m].1.at_):=by
 obtain⟨a,e,r,_,d⟩:=AE h.body (λp _=>BF p) m b;have j:=d m b 0 (by omega);have k:=d m b 1 (by omega);have f:=d m b 2 (by omega);have i:=d m b 3 (by omega);have g:=d m b 4 (by omega);have l:=d m b 5 (by omega);have o:=d m b 6 (by omega);have n:=d m b 7 (by omega);have q:=d m b 8 (by omega);simp[Bc,Bq]at j k f i g l o n q;exact⟨a,e,r,j,k,f,i,g,l,o,n,q⟩
