import Derived.Test.YtoihbhenbmffcaaGreatDoorZAM
import Derived.Test.YtoihbhenbmffcaaGreatDoorZAC
set_option linter.unusedVariables false
set_option linter.unusedSimpArgs false
set_option maxHeartbeats 6400000
namespace Go.Proofs.YtoihbhenbmffcaaGreatDoor
open Go.RowKit
open Go.Proofs.Tryz
theorem Tryz.info95:(Tryz.prog.info? 95).map (λi=>(i.zero,i.size,i.bytes))=some (some (.agg #[.int .u8 0, .string ⟨#[]⟩, .slice none 0 0, .int .i64 0, .int .u8 0, .string ⟨#[]⟩, .int .u8 0, .string ⟨#[]⟩, .int .i64 0]),9,112):=by kernel_rfl
abbrev Bm:=By×Value
def Cw(l:List Bm):List Value:=l.flatMap λp=>Bq p.1 p.2
def BS(w:World)(base:Nat)(p:Bm):Prop:=w.ownsRow base 93 2 p.2 p.1.A.args.length (p.1.A.args.flatMap Az)
theorem BS.kept{M:List Nat}{w w':World}{base:Nat}{p:Bm}(h:BS w base p)(k:Ac M w w')(a:∀i,i∈M->i<base):BS w' base p:=Ad h k a
theorem BS.grown{w w':World}{base:Nat}{p:Bm}{a:Value}(h:BS w base p)(k:w.grownBy w' a.ownBlock)(b:BX p.2 a):BS w' base p:=
 bS (v:=p.2) h k (by
  cases hv:p.2.ownBlock with
  |none=>exact Or.inl rfl
  |some k=>exact Or.inr (λe=>b k hv e.symm))
theorem BS.alloc{w:World}{base:Nat}{p:Bm}(h:BS w base p)(o:Obj):BS (w.alloc o) base p:=ah h o
set_option maxRecDepth 100000
theorem XX(b:Nat)(s:cL)(at_:Nat)(w:World)(hs:s.size<=1000000)(HO:at_<=s.size)(hB:Aw w b (AP s at_ false) 73):
  Calls prog 81 #[.pointer (some ⟨b,0,none⟩)] w λe Q=>∃(bv:Value) (R:List Bm),e= .returned bv/\R.map Prod.fst=(CJ s at_).1/\
   Q.ownsRow w.heap.size 95 9 bv R.length (Cw R)/\(∀p∈R,BS Q w.heap.size p)/\Aw Q b (AP s (CJ s at_).2.1 (CJ s at_).2.2) 73/\Ac [b] w Q:=by
 obtain⟨i0,HN,HA,HR,HI⟩:=bj Tryz.info95;have HX:=hB.lt;obtain⟨L,u,n,hL⟩:∃L u n,CJ s at_=(L,u,n):=⟨_,_,_,rfl⟩;rw[hL];have HL:Hid (CJ s at_=(L,u,n)):=hL;clear hL;go_enter func81,ntmps81;go_wp2_with fail
 go_loopg [3,4] (2*(s.size-at_)+1) (λk l HH wr=>∃(q i:Bool) (a:Nat) (c:List Bm),HH= .bool q/\a<=s.size/\c.length<=a+1/\((q&& !i)=true->c.length<=a)/\
  k=2*(s.size-a)+(if(q&& !i)=true then 1 else 0)/\Hid (DE s q i a (c.map Prod.fst) (L,u,n))/\Aw wr b (AP s a i) 73/\
  wr.ownsRow w.heap.size 95 9 l c.length (Cw c)/\Hid (∀p∈c,BS wr w.heap.size p/\BX p.2 l)/\Ac [b] w wr)
 case atStart=>
  refine⟨true,false,at_,[],rfl,HO,by simp,by simp,by simp,?_,hB,ax _ _ _ _,λp f=>by simp at f,Ac.refl _ _⟩;show DE _ _ _ _ _ _;unfold DE;simp[HL.out]
 case round=>
  obtain⟨q,i,a,c,rfl,ha,Z,P,z,y,x,j,T,C⟩:=hrel;have I:Hid (gk=2*(s.size-a)+(if(q&& !i)=true then 1 else 0)):=z;clear z;obtain⟨ad,cp,rfl⟩:=BI j;cases q with
  |false=>
   have D:=y.out.done rfl;have HD:Hid (c.map Prod.fst=L/\a=u/\i=n):=D;clear Z P I y D;go_wp2;go_ret;obtain⟨Y,V,X⟩:=HD.out;subst V X;exact⟨_,c,rfl,Y,j,λp f=>(T.out p f).1,x,C⟩
  |true=>
   cases i with
   |true=>
    have D:=y.out.done rfl;have HD:Hid (c.map Prod.fst=L/\a=u/\true=n):=D;have Ax:=x.cell 2;simp[AP]at Ax;clear Z P I y D;go_wp2;go_ret;obtain⟨Y,V,X⟩:=HD.out;subst V X;exact⟨_,c,rfl,Y,j,λp f=>(T.out p f).1,x,C⟩
   |false=>
    have Ax:=x.cell 2;simp[AP]at Ax;have H0:=x.lt;have HE:c.length<=a:=P rfl;clear Z P;obtain⟨t,h,d,H⟩:∃t h d,CU s a=(t,h,d):=⟨_,_,_,rfl⟩;(have HV:h<=s.size:=by have:=Jy s a ha;rw[H]at this;exact this);have HS:=y.out.step H ha (by simpa using HE);obtain⟨m,hm⟩:∃m,(!d&&Cz s (As s h d) 44)=m:=⟨_,rfl⟩;obtain⟨g,CL⟩:∃g,Bi s h d 44=g:=⟨_,rfl⟩;rw[hm,CL]at HS;obtain⟨S,O,J,q4,M⟩:=HS;have B:Hid (CU s a=(t,h,d)/\(!d&&Cz s (As s h d) 44)=m/\Bi s h d 44=g/\g<=s.size/\(c.map Prod.fst++[t]).length<=g+1/\((m&& !d)=true->(c.map Prod.fst++[t]).length<=g)/\2*(s.size-g)+(if(m&& !d)=true then 1 else 0)<gk/\DE s m d g (c.map Prod.fst++[t]) (L,u,n)):=
     ⟨H,hm,CL,S,O,J,by have:=I.out;simp at this;omega,M⟩
    clear H hm CL S O J q4 M I y;(go_wp2_with fail);refine(YM b s a _ hs ha x).mono ?_;rintro e N ⟨av,rfl,r,W,G⟩;rw[B.out.1]at W r⊢;obtain⟨v,o,rfl⟩:=BI r;have FW:=Ad j G (by simp;omega);have HC:=G.size;have Go:=C.size;simp only[Bq];simp only at r;go_wp2_with (at_builtin;refine ay _ rfl _ _ _ rfl w.heap.size 95 i0 _ 9 112 underlying80 HN HA HR HI rfl (by omega) (.slice ad c.length cp) c.length (Cw c) rfl (FW.alloc _) ⟨N.heap.size,0,none⟩ 1 1 (Bq t (.slice v t.A.args.length o)) rfl rfl (aF (cs:=(Bq t (.slice v t.A.args.length o)).toArray) (t:=95) (fr:=(0,0)) (aS N _)) (by simp[Value.oneCell',Bq]) (by omega) (by unfold maxLen;omega) (by omega) (by simp;omega) (N.heap.size+1) (by simp) ?_;intro gg FP w5 BT E B9 HZ)
    have HY:=(BT.lt gg rfl).1;have FT:=(W.alloc _).grown E (by have:=AJ j b (by omega);simpa using this);have EK:=((C.trans G).alloc _).grown E (λk z=>Or.inr ((j.lt k z).1));have Bx:Hid (∀p∈c++[(t,(.slice v t.A.args.length o:Value))],BS w5 w.heap.size p/\BX p.2 (.slice (some ⟨gg,0,none⟩) (c.length+1) FP)):=by
     intro p f;rcases aw.1 f with f|f
     ·obtain⟨h1,F⟩:=T.out p f;have U:=h1.kept G (by simp;omega);exact⟨(U.alloc _).grown E F,BX.lies F U B9 (by omega)⟩
     ·simp only[ae]at f;subst f;have F:BX (.slice v t.A.args.length o) (.slice ad c.length cp):=by
       intro k z he;have:=(r.lt k z).1;have:=(j.lt k he).2;omega
      have U:BS N w.heap.size (t, .slice v t.A.args.length o):=Ai r (by omega);exact⟨(U.alloc _).grown E F,BX.lies F r B9 (by omega)⟩
    clear T r W G FW E B9 j x C HC Go;(go_wp2_with fail);refine(C0 b s h d 44 44 _ rfl hs HV FT).mono ?_;rintro e w6 ⟨rfl,FF,K⟩;have Ha:=Ad BT K (by simp;omega);have HG:=EK.trans K;have HK:Hid (∀p∈c++[(t,(.slice v t.A.args.length o:Value))],BS w6 w.heap.size p/\BX p.2 (.slice (some ⟨gg,0,none⟩) (c.length+1) FP)):=
     λp f=>⟨(Bx.out p f).1.kept K (by simp;omega),(Bx.out p f).2⟩
    rw[B.out.2.2.1]at FF;rw[B.out.2.1];clear FT EK K BT Bx;go_wp2_with fail
    go_roundg (2*(s.size-g)+(if(m&& !d)=true then 1 else 0))
    case measure=>exact B.out.2.2.2.2.2.2.1
    case rel=>
     obtain⟨_,_,_,S,O,J,_,M⟩:=B.out;refine⟨m,d,g,c++[(t, .slice v t.A.args.length o)],rfl,S,by simpa using O,by simpa using J,rfl,?_,FF,?_,HK,HG⟩
     ·show DE _ _ _ _ _ _;simpa using M
     ·simpa[Cw] using Ha
structure Cm where
 head:CQ
 body:List By
 at_:Nat
def Ch(c:Cm)(hv bv:Value):List Value:=[.string c.head.name,hv, .int .i64 c.head.at_,bv, .int .i64 c.at_]
def Db(s:cL)(a1:Nat)(b1:Bool):List By×Nat×Bool:=
 if !b1&&Cz s (As s a1 b1) 58 then(if Cz s (Bi s a1 b1 58) 45 then CJ s (Bi s a1 b1 58+1)else([],Bi s a1 b1 58,true))else([],Bi s a1 b1 58,b1)
def AQ(s:cL)(at_:Nat):Cm×Nat×Bool:=
 let A:=A4 s (Af s at_) false
 let B:=Db s A.2.1 A.2.2
 (⟨A.1,B.1,Af s at_⟩,Bk s B.2.1 B.2.2 46)
theorem RU(b:Nat)(s:cL)(at_ j:Nat)(w:World)(A:CQ)(i a2 a3:Nat)(f W:Bool)(L:List By)(a4:Nat)(b4:Bool)(C:s.size<=1000000)(Go:at_<=s.size)
  (d:Hid (Af s at_=j/\A4 s j false=(A,i,f)/\Bi s i f 58=a2/\Db s i f=(L,a3,W)/\Bk s a3 W 46=(a4,b4))) (H:(!f&&Cz s (As s i f) 58)=false) (M:Aw w b (AP s at_ false) 73):
  Calls prog 44 #[.pointer (some ⟨b,0,none⟩)] w λe u=>∃(Q bv:Value) (a:List Bm),e= .returned (.agg (Ch ⟨A,L,j⟩ Q bv).toArray)/\u.ownsRow w.heap.size 93 2 Q A.args.length (A.args.flatMap Az)/\
   a.map Prod.fst=L/\u.ownsRow w.heap.size 95 9 bv a.length (Cw a)/\(∀p∈a,BS u w.heap.size p)/\Aw u b (AP s a4 b4) 73/\Ac [b] w u:=by
 have H3:=M.lt;have Ha:j<=s.size:=by have:=AN s at_ Go;have:=d.out.1;omega
 have V:i<=s.size:=by have:=EO s j false Ha;rw[d.out.2.1]at this;exact this
 have HW:a2<=s.size:=by have:=Cy s i f 58 V;rw[d.out.2.2.1]at this;exact this
 go_enter func44,ntmps44;go_wp2_with fail
 refine(A1 b s at_ false _ C Go (M.alloc _)).mono ?_;rintro e w1 ⟨rfl,o,S⟩;rw[show As s at_ false=j from d.out.1]at o
 have U:=(Aw.new w _ _).kept S (by simp;omega);have AB:=((Ac.refl [b] w).alloc _).trans S;clear M S;have H0:=o.lt;have HH:=U.lt;have HG:=o.cell 1;simp[AP]at HG;go_wp2_with fail
 refine(Hc b s j false _ C Ha (o.alloc _)).mono ?_;rintro e w2 ⟨Q,rfl,c,K,v⟩;rw[d.out.2.1]at K c⊢;have g:=(Aw.new w1 _ _).kept v (by simp;omega);have HC:=(U.alloc _).kept v (by simp;omega);have FA:=(AB.alloc _).trans v;have EK:=v.size;simp only[aP]at c EK;obtain⟨N,hN⟩:∃N,w1.heap.size=N:=⟨_,rfl⟩;rw[hN]at g c EK⊢;have H2:b<N:=by omega
 have H8:w.heap.size<N:=by omega
 clear AB o U H0 HH HG v hN;obtain⟨n,m,rfl⟩:=BI c
 try simp only at c
 have y:=g.cell 0;have z:=g.cell 1;have E:=g.cell 2;have HQ:=g.frozen;simp at y z E;simp only[BO];go_wp2_with fail
 have Ax:=((K.set_other ⟨N,0,none⟩ (by simp;omega) (.string A.name)).set_other ⟨N,1,none⟩ (by simp;omega) (.slice n A.args.length m)).set_other ⟨N,2,none⟩ (by simp;omega) (.int .i64 A.at_);have G:=((g.set 0 (.string A.name)).set 1 (.slice n A.args.length m)).set 2 (.int .i64 A.at_);have HD:=((HC.set_other ⟨N,0,none⟩ (by simp;omega) (.string A.name)).set_other ⟨N,1,none⟩ (by simp;omega) (.slice n A.args.length m)).set_other ⟨N,2,none⟩ (by simp;omega) (.int .i64 A.at_);have B9:=((FA.setCell (p:=⟨N,0,none⟩) (by simp;omega) (.string A.name)).setCell (p:=⟨N,1,none⟩) (by simp;omega) (.slice n A.args.length m)).setCell (p:=⟨N,2,none⟩) (by simp;omega) (.int .i64 A.at_);have HE:=Ag (Ag (Ag c (p:=⟨N,0,none⟩) (by simpa using AJ c N (by omega)) (.string A.name)) (p:=⟨N,1,none⟩) (by simpa using AJ c N (by omega)) (.slice n A.args.length m)) (p:=⟨N,2,none⟩) (by simpa using AJ c N (by omega)) (.int .i64 A.at_);simp only[Z4,Z5]at G;clear K g HC FA c y z E HQ;refine(C0 b s i f 58 58 _ rfl C V Ax).mono ?_;rintro e w3 ⟨rfl,D,t⟩;rw[d.out.2.2.1]at D;have P:=G.kept t (by simp;omega);have J:=HD.kept t (by simp;omega);have BT:=B9.trans t;have CL:=Ad HE t (by simp;omega);clear Ax G HD B9 HE t;have H4:=P.lt;have H7:=D.lt;have H1:=J.lt;rw[H];have F:=d.out.2.2.2.1;unfold Db at F;rw[H,d.out.2.2.1]at F;simp only[Z8,if_false,aY]at F;obtain⟨r1,r2,r3⟩:=F;subst r2 r3;have HN:=HW;obtain⟨a,r⟩:∃a:List Bm,Hid (a.map Prod.fst=L)/\a=[]:=⟨[],by show _=_;rw[<-r1];rfl,rfl⟩;have T:=D;have R:=P;have EY:=J;have BA:=BT;have Z:=CL;have Y:w3.ownsRow (N+1) 95 9 (.slice none 0 0) a.length (Cw a):=by rw[r.2];exact ax _ _ _ _
 have FF:Hid (∀p∈a,BS w3 (N+1) p):=by rw[r.2];intro p x;simp at x
 replace r:=r.1
 clear D P J BT CL r1 H;have H5:=T.lt;have H9:=R.lt;go_wp2_with fail
 refine(Gx b s _ f 46 46 _ rfl C HN T).mono ?_;rintro e I ⟨rfl,FC,h⟩;have B:=d.out.2.2.2.2;simp only[Bk,aY]at B;rw[B.1,B.2]at FC;have HM:=R.kept h (by simp;omega);have O:=EY.kept h (by simp;omega);have HO:=BA.trans h;have HS:=Ad Z h (by simp;omega);have HI:=Ad Y h (by simp;omega);have HT:Hid (∀p∈a,BS I (N+1) p):=λp x=>(FF.out p x).kept h (by simp;omega)
 clear T R EY BA Z Y h B FF;have k:=HM.cell;have l:=O.cell;have H6:=O.frozen;have y:=k 0;have z:=k 1;have E:=k 2;have e3:=k 3;have e4:=k 4;have f0:=l 0;have f1:=l 1;have f2:=l 2;have f3:=l 3;have f4:=l 4;simp at y z E e3 e4 f0 f1 f2 f3 f4;clear k l;go_wp2;have q:∀{v0 X v2 v3 v4:Value},Ac [w.heap.size] I (((((I.setCell ⟨w.heap.size,0,none⟩ v0).setCell ⟨w.heap.size,1,none⟩ X).setCell ⟨w.heap.size,2,none⟩ v2).setCell ⟨w.heap.size,3,none⟩ v3).setCell ⟨w.heap.size,4,none⟩ v4):=by
  intro v0 X v2 v3 v4
  repeat (refine Ac.setCell ?_ (by simp) _)
  exact Ac.refl _ _
 refine aE (AY rfl rfl (((((O.set 0 _).set 1 _).set 2 _).set 3 _).set 4 _) underlying82 rfl (by kernel_rfl)) rfl ⟨.slice n A.args.length m, .slice none 0 0,a,?_,?_,?_,?_,?_,?_,?_⟩
 ·simp[Ch]
 ·exact Ai (Ad HS q (by simp;omega)) (by omega)
 ·exact r.out
 ·exact Ai (Ad HI q (by simp;omega)) (by omega)
 ·exact λp x=>Ai ((HT.out p x).kept q (by simp;omega)) (by omega)
 ·exact FC.kept q (by simp;omega)
 ·exact HO.trans' q (by simp)
theorem RK(b:Nat)(s:cL)(at_ j:Nat)(w:World)(A:CQ)(k l a3:Nat)(d Z:Bool)(L:List By)(a4:Nat)(b4:Bool)(F:s.size<=1000000)(Ha:at_<=s.size)
  (f:Hid (Af s at_=j/\A4 s j false=(A,k,d)/\Bi s k d 58=l/\Db s k d=(L,a3,Z)/\Bk s a3 Z 46=(a4,b4))) (J:(!d&&Cz s (As s k d) 58)=true) (H1:¬l<s.size) (Q:Aw w b (AP s at_ false) 73):
  Calls prog 44 #[.pointer (some ⟨b,0,none⟩)] w λe y=>∃(T bv:Value) (a:List Bm),e= .returned (.agg (Ch ⟨A,L,j⟩ T bv).toArray)/\y.ownsRow w.heap.size 93 2 T A.args.length (A.args.flatMap Az)/\
   a.map Prod.fst=L/\y.ownsRow w.heap.size 95 9 bv a.length (Cw a)/\(∀p∈a,BS y w.heap.size p)/\Aw y b (AP s a4 b4) 73/\Ac [b] w y:=by
 have Ix:=Q.lt;have HA:j<=s.size:=by have:=AN s at_ Ha;have:=f.out.1;omega
 have Y:k<=s.size:=by have:=EO s j false HA;rw[f.out.2.1]at this;exact this
 have H0:l<=s.size:=by have:=Cy s k d 58 Y;rw[f.out.2.2.1]at this;exact this
 go_enter func44,ntmps44;go_wp2_with fail
 refine(A1 b s at_ false _ F Ha (Q.alloc _)).mono ?_;rintro e w1 ⟨rfl,t,V⟩;rw[show As s at_ false=j from f.out.1]at t
 have X:=(Aw.new w _ _).kept V (by simp;omega);have Bx:=((Ac.refl [b] w).alloc _).trans V;clear Q V;have H5:=t.lt;have HH:=X.lt;have H:=t.cell 1;simp[AP]at H;go_wp2_with fail
 refine(Hc b s j false _ F HA (t.alloc _)).mono ?_;rintro e w2 ⟨T,rfl,c,P,z⟩;rw[f.out.2.1]at P c⊢;have h:=(Aw.new w1 _ _).kept z (by simp;omega);have HD:=(X.alloc _).kept z (by simp;omega);have FF:=(Bx.alloc _).trans z;have EY:=z.size;simp only[aP]at c EY;obtain⟨N,hN⟩:∃N,w1.heap.size=N:=⟨_,rfl⟩;rw[hN]at h c EY⊢;have H8:b<N:=by omega
 have K2:w.heap.size<N:=by omega
 clear Bx t X H5 HH H z hN;obtain⟨q,o,rfl⟩:=BI c
 try simp only at c
 have C:=h.cell 0;have D:=h.cell 1;have G:=h.cell 2;have HT:=h.frozen;simp at C D G;simp only[BO];go_wp2_with fail
 have AT:=((P.set_other ⟨N,0,none⟩ (by simp;omega) (.string A.name)).set_other ⟨N,1,none⟩ (by simp;omega) (.slice q A.args.length o)).set_other ⟨N,2,none⟩ (by simp;omega) (.int .i64 A.at_);have I:=((h.set 0 (.string A.name)).set 1 (.slice q A.args.length o)).set 2 (.int .i64 A.at_);have HE:=((HD.set_other ⟨N,0,none⟩ (by simp;omega) (.string A.name)).set_other ⟨N,1,none⟩ (by simp;omega) (.slice q A.args.length o)).set_other ⟨N,2,none⟩ (by simp;omega) (.int .i64 A.at_);have EK:=((FF.setCell (p:=⟨N,0,none⟩) (by simp;omega) (.string A.name)).setCell (p:=⟨N,1,none⟩) (by simp;omega) (.slice q A.args.length o)).setCell (p:=⟨N,2,none⟩) (by simp;omega) (.int .i64 A.at_);have HF:=Ag (Ag (Ag c (p:=⟨N,0,none⟩) (by simpa using AJ c N (by omega)) (.string A.name)) (p:=⟨N,1,none⟩) (by simpa using AJ c N (by omega)) (.slice q A.args.length o)) (p:=⟨N,2,none⟩) (by simpa using AJ c N (by omega)) (.int .i64 A.at_);simp only[Z4,Z5]at I;clear P h HD FF c C D G HT;refine(C0 b s k d 58 58 _ rfl F Y AT).mono ?_;rintro e w3 ⟨rfl,g,x⟩;rw[f.out.2.2.1]at g;have S:=I.kept x (by simp;omega);have M:=HE.kept x (by simp;omega);have CL:=EK.trans x;have O:=Ad HF x (by simp;omega);clear AT I HE EK HF x;have Jx:=S.lt;have K1:=g.lt;have H7:=M.lt;have HY:d=false:=by cases d<;>simp_all
 subst HY;rw[J];have r:=f.out.2.2.2.1;unfold Db at r;rw[J,f.out.2.2.1]at r;simp only[if_true]at r;have HS:=g.cell 0;have H:=g.cell 1;have HQ:=g.cell 2;have H6:=g.frozen;simp[AP]at HS H HQ;have HN:Cz s l 45=false:=Yn H1 45;rw[HN]at r;simp only[Z8,if_false,aY]at r;obtain⟨r1,r2,r3⟩:=r;subst r2 r3;have HO:=H0;obtain⟨a,v⟩:∃a:List Bm,Hid (a.map Prod.fst=L)/\a=[]:=⟨[],by show _=_;rw[<-r1];rfl,rfl⟩;clear r1 J;have H9:decide ((l:Int)<(s.size:Int))=false:=by simp;omega
 have K3:decide (l<s.size)=false:=by simp;omega
 go_wp2_with fail
 go_quiet (fail)
 have W:=(g.drewN nq).set 2 (.bool true);have U:=(S.drewN nq).set_other ⟨b,2,none⟩ (by simp;omega) (.bool true);have FC:=(M.drewN nq).set_other ⟨b,2,none⟩ (by simp;omega) (.bool true);have CC:=(CL.drewN nq).setCell (p:=⟨b,2,none⟩) (by simp) (.bool true);have AH:=Ag (CT O nq) (p:=⟨b,2,none⟩) (by simpa using AJ O b (by omega)) (.bool true);have AB:((w3.drewN nq).setCell ⟨b,2,none⟩ (.bool true)).ownsRow (N+1) 95 9 (.slice none 0 0) a.length (Cw a):=by rw[v.2];exact ax _ _ _ _
 have FO:Hid (∀p∈a,BS ((w3.drewN nq).setCell ⟨b,2,none⟩ (.bool true)) (N+1) p):=by rw[v.2];intro p B;simp at B
 replace v:=v.1
 clear g S M CL O;have JJ:=W.lt;have K4:=U.lt;go_wp2_with fail
 refine(Gx b s _ true 46 46 _ rfl F HO W).mono ?_;rintro e K ⟨rfl,FL,i⟩;have E:=f.out.2.2.2.2;simp only[Bk,aY]at E;rw[E.1,E.2]at FL;have HM:=U.kept i (by simp;omega);have R:=FC.kept i (by simp;omega);have HP:=CC.trans i;have HV:=Ad AH i (by simp;omega);have HI:=Ad AB i (by simp;omega);have HW:Hid (∀p∈a,BS K (N+1) p):=λp B=>(FO.out p B).kept i (by simp;omega)
 clear W U FC CC AH AB i E FO;have m:=HM.cell;have n:=R.cell;have KK:=R.frozen;have C:=m 0;have D:=m 1;have G:=m 2;have e3:=m 3;have e4:=m 4;have f0:=n 0;have f1:=n 1;have f2:=n 2;have f3:=n 3;have f4:=n 4;simp at C D G e3 e4 f0 f1 f2 f3 f4;clear m n;go_wp2;have u:∀{v0 v1 v2 v3 v4:Value},Ac [w.heap.size] K (((((K.setCell ⟨w.heap.size,0,none⟩ v0).setCell ⟨w.heap.size,1,none⟩ v1).setCell ⟨w.heap.size,2,none⟩ v2).setCell ⟨w.heap.size,3,none⟩ v3).setCell ⟨w.heap.size,4,none⟩ v4):=by
  intro v0 v1 v2 v3 v4
  repeat (refine Ac.setCell ?_ (by simp) _)
  exact Ac.refl _ _
 refine aE (AY rfl rfl (((((R.set 0 _).set 1 _).set 2 _).set 3 _).set 4 _) underlying82 rfl (by kernel_rfl)) rfl ⟨.slice q A.args.length o, .slice none 0 0,a,?_,?_,?_,?_,?_,?_,?_⟩
 ·simp[Ch]
 ·exact Ai (Ad HV u (by simp;omega)) (by omega)
 ·exact v.out
 ·exact Ai (Ad HI u (by simp;omega)) (by omega)
 ·exact λp B=>Ai ((HW.out p B).kept u (by simp;omega)) (by omega)
 ·exact FL.kept u (by simp;omega)
 ·exact HP.trans' u (by simp)
theorem Rm(b:Nat)(s:cL)(at_ j:Nat)(w:World)(A:CQ)(k l a3:Nat)(d Z:Bool)(L:List By)(a4:Nat)(b4:Bool)(F:s.size<=1000000)(HA:at_<=s.size)
  (f:Hid (Af s at_=j/\A4 s j false=(A,k,d)/\Bi s k d 58=l/\Db s k d=(L,a3,Z)/\Bk s a3 Z 46=(a4,b4))) (J:(!d&&Cz s (As s k d) 58)=true) (H1:l<s.size) (BT:Cz s l 45=false) (Q:Aw w b (AP s at_ false) 73):
  Calls prog 44 #[.pointer (some ⟨b,0,none⟩)] w λe y=>∃(T bv:Value) (a:List Bm),e= .returned (.agg (Ch ⟨A,L,j⟩ T bv).toArray)/\y.ownsRow w.heap.size 93 2 T A.args.length (A.args.flatMap Az)/\
   a.map Prod.fst=L/\y.ownsRow w.heap.size 95 9 bv a.length (Cw a)/\(∀p∈a,BS y w.heap.size p)/\Aw y b (AP s a4 b4) 73/\Ac [b] w y:=by
 have Ix:=Q.lt;have HB:j<=s.size:=by have:=AN s at_ HA;have:=f.out.1;omega
 have Y:k<=s.size:=by have:=EO s j false HB;rw[f.out.2.1]at this;exact this
 have H0:l<=s.size:=by have:=Cy s k d 58 Y;rw[f.out.2.2.1]at this;exact this
 go_enter func44,ntmps44;go_wp2_with fail
 refine(A1 b s at_ false _ F HA (Q.alloc _)).mono ?_;rintro e w1 ⟨rfl,t,V⟩;rw[show As s at_ false=j from f.out.1]at t
 have X:=(Aw.new w _ _).kept V (by simp;omega);have Bx:=((Ac.refl [b] w).alloc _).trans V;clear Q V;have H5:=t.lt;have HI:=X.lt;have H:=t.cell 1;simp[AP]at H;go_wp2_with fail
 refine(Hc b s j false _ F HB (t.alloc _)).mono ?_;rintro e w2 ⟨T,rfl,c,P,z⟩;rw[f.out.2.1]at P c⊢;have h:=(Aw.new w1 _ _).kept z (by simp;omega);have HE:=(X.alloc _).kept z (by simp;omega);have FL:=(Bx.alloc _).trans z;have FA:=z.size;simp only[aP]at c FA;obtain⟨N,hN⟩:∃N,w1.heap.size=N:=⟨_,rfl⟩;rw[hN]at h c FA⊢;have H9:b<N:=by omega
 have K3:w.heap.size<N:=by omega
 clear Bx t X H5 HI H z hN;obtain⟨q,o,rfl⟩:=BI c
 try simp only at c
 have C:=h.cell 0;have D:=h.cell 1;have G:=h.cell 2;have HT:=h.frozen;simp at C D G;simp only[BO];go_wp2_with fail
 have AT:=((P.set_other ⟨N,0,none⟩ (by simp;omega) (.string A.name)).set_other ⟨N,1,none⟩ (by simp;omega) (.slice q A.args.length o)).set_other ⟨N,2,none⟩ (by simp;omega) (.int .i64 A.at_);have I:=((h.set 0 (.string A.name)).set 1 (.slice q A.args.length o)).set 2 (.int .i64 A.at_);have HF:=((HE.set_other ⟨N,0,none⟩ (by simp;omega) (.string A.name)).set_other ⟨N,1,none⟩ (by simp;omega) (.slice q A.args.length o)).set_other ⟨N,2,none⟩ (by simp;omega) (.int .i64 A.at_);have EX:=((FL.setCell (p:=⟨N,0,none⟩) (by simp;omega) (.string A.name)).setCell (p:=⟨N,1,none⟩) (by simp;omega) (.slice q A.args.length o)).setCell (p:=⟨N,2,none⟩) (by simp;omega) (.int .i64 A.at_);have HG:=Ag (Ag (Ag c (p:=⟨N,0,none⟩) (by simpa using AJ c N (by omega)) (.string A.name)) (p:=⟨N,1,none⟩) (by simpa using AJ c N (by omega)) (.slice q A.args.length o)) (p:=⟨N,2,none⟩) (by simpa using AJ c N (by omega)) (.int .i64 A.at_);simp only[Z4,Z5]at I;clear P h HE FL c C D G HT;refine(C0 b s k d 58 58 _ rfl F Y AT).mono ?_;rintro e w3 ⟨rfl,g,x⟩;rw[f.out.2.2.1]at g;have S:=I.kept x (by simp;omega);have M:=HF.kept x (by simp;omega);have EK:=EX.trans x;have O:=Ad HG x (by simp;omega);clear AT I HF EX HG x;have Jx:=S.lt;have K1:=g.lt;have H8:=M.lt;have HY:d=false:=by cases d<;>simp_all
 subst HY;rw[J];have r:=f.out.2.2.2.1;unfold Db at r;rw[J,f.out.2.2.1]at r;simp only[if_true]at r;have HS:=g.cell 0;have H:=g.cell 1;have HQ:=g.cell 2;have H7:=g.frozen;simp[AP]at HS H HQ;rw[BT]at r;simp only[Z8,if_false,aY]at r;obtain⟨r1,r2,r3⟩:=r;subst r2 r3;have HO:=H0;obtain⟨a,v⟩:∃a:List Bm,Hid (a.map Prod.fst=L)/\a=[]:=⟨[],by show _=_;rw[<-r1];rfl,rfl⟩;clear r1 J;have H6:(l:Int)<(s.size:Int):=by omega
 have hq:((s[l].toNat:Int)==45)=false:=by rw[<-BT];exact(G0 H1 45).symm
 go_wp2_with fail
 go_quiet (fail)
 have W:=(g.drewN nq).set 2 (.bool true);have U:=(S.drewN nq).set_other ⟨b,2,none⟩ (by simp;omega) (.bool true);have FF:=(M.drewN nq).set_other ⟨b,2,none⟩ (by simp;omega) (.bool true);have CL:=(EK.drewN nq).setCell (p:=⟨b,2,none⟩) (by simp) (.bool true);have AH:=Ag (CT O nq) (p:=⟨b,2,none⟩) (by simpa using AJ O b (by omega)) (.bool true);have AB:((w3.drewN nq).setCell ⟨b,2,none⟩ (.bool true)).ownsRow (N+1) 95 9 (.slice none 0 0) a.length (Cw a):=by rw[v.2];exact ax _ _ _ _
 have FP:Hid (∀p∈a,BS ((w3.drewN nq).setCell ⟨b,2,none⟩ (.bool true)) (N+1) p):=by rw[v.2];intro p B;simp at B
 replace v:=v.1
 clear g S M EK O;have JJ:=W.lt;have K4:=U.lt;go_wp2_with fail
 refine(Gx b s _ true 46 46 _ rfl F HO W).mono ?_;rintro e K ⟨rfl,FO,i⟩;have E:=f.out.2.2.2.2;simp only[Bk,aY]at E;rw[E.1,E.2]at FO;have HN:=U.kept i (by simp;omega);have R:=FF.kept i (by simp;omega);have HP:=CL.trans i;have HV:=Ad AH i (by simp;omega);have HK:=Ad AB i (by simp;omega);have HW:Hid (∀p∈a,BS K (N+1) p):=λp B=>(FP.out p B).kept i (by simp;omega)
 clear W U FF CL AH AB i E FP;have m:=HN.cell;have n:=R.cell;have KK:=R.frozen;have C:=m 0;have D:=m 1;have G:=m 2;have e3:=m 3;have e4:=m 4;have f0:=n 0;have f1:=n 1;have f2:=n 2;have f3:=n 3;have f4:=n 4;simp at C D G e3 e4 f0 f1 f2 f3 f4;clear m n;go_wp2;have u:∀{v0 v1 v2 v3 v4:Value},Ac [w.heap.size] K (((((K.setCell ⟨w.heap.size,0,none⟩ v0).setCell ⟨w.heap.size,1,none⟩ v1).setCell ⟨w.heap.size,2,none⟩ v2).setCell ⟨w.heap.size,3,none⟩ v3).setCell ⟨w.heap.size,4,none⟩ v4):=by
  intro v0 v1 v2 v3 v4
  repeat (refine Ac.setCell ?_ (by simp) _)
  exact Ac.refl _ _
 refine aE (AY rfl rfl (((((R.set 0 _).set 1 _).set 2 _).set 3 _).set 4 _) underlying82 rfl (by kernel_rfl)) rfl ⟨.slice q A.args.length o, .slice none 0 0,a,?_,?_,?_,?_,?_,?_,?_⟩
 ·simp[Ch]
 ·exact Ai (Ad HV u (by simp;omega)) (by omega)
 ·exact v.out
 ·exact Ai (Ad HK u (by simp;omega)) (by omega)
 ·exact λp B=>Ai ((HW.out p B).kept u (by simp;omega)) (by omega)
 ·exact FO.kept u (by simp;omega)
 ·exact HP.trans' u (by simp)
theorem Ru(b:Nat)(s:cL)(at_ j:Nat)(w:World)(A:CQ)(q i R:Nat)(d H:Bool)(L:List By)(a4:Nat)(b4:Bool)(B:s.size<=1000000)(HP:at_<=s.size)
  (f:Hid (Af s at_=j/\A4 s j false=(A,q,d)/\Bi s q d 58=i/\Db s q d=(L,R,H)/\Bk s R H 46=(a4,b4))) (U:(!d&&Cz s (As s q d) 58)=true) (K:Cz s i 45=true) (hB:Aw w b (AP s at_ false) 73):
  Calls prog 44 #[.pointer (some ⟨b,0,none⟩)] w λe D=>∃(hv O:Value) (a:List Bm),e= .returned (.agg (Ch ⟨A,L,j⟩ hv O).toArray)/\D.ownsRow w.heap.size 93 2 hv A.args.length (A.args.flatMap Az)/\
   a.map Prod.fst=L/\D.ownsRow w.heap.size 95 9 O a.length (Cw a)/\(∀p∈a,BS D w.heap.size p)/\Aw D b (AP s a4 b4) 73/\Ac [b] w D:=by
 have LE:=hB.lt;have HQ:j<=s.size:=by have:=AN s at_ HP;have:=f.out.1;omega
 have FA:q<=s.size:=by have:=EO s j false HQ;rw[f.out.2.1]at this;exact this
 have MB:i<=s.size:=by have:=Cy s q d 58 FA;rw[f.out.2.2.1]at this;exact this
 go_enter func44,ntmps44;go_wp2_with fail
 refine(A1 b s at_ false _ B HP (hB.alloc _)).mono ?_;rintro e w1 ⟨rfl,y,hK⟩;rw[show As s at_ false=j from f.out.1]at y
 have hn:=(Aw.new w _ _).kept hK (by simp;omega);have FP:=((Ac.refl [b] w).alloc _).trans hK;clear hB hK;have K7:=y.lt;have H0:=hn.lt;have F:=y.cell 1;simp[AP]at F;go_wp2_with fail
 refine(Hc b s j false _ B HQ (y.alloc _)).mono ?_;rintro e w2 ⟨hv,rfl,c,Ax,E⟩;rw[f.out.2.1]at Ax c⊢;have n:=(Aw.new w1 _ _).kept E (by simp;omega);have HW:=(hn.alloc _).kept E (by simp;omega);have HH:=(FP.alloc _).trans E;have HD:=E.size;simp only[aP]at c HD;obtain⟨N,hN⟩:∃N,w1.heap.size=N:=⟨_,rfl⟩;rw[hN]at n c HD⊢;have LC:b<N:=by omega
 have Mo:w.heap.size<N:=by omega
 clear FP y hn K7 H0 F E hN;obtain⟨x,v,rfl⟩:=BI c
 try simp only at c
 have G:=n.cell 0;have J:=n.cell 1;have Q:=n.cell 2;have HG:=n.frozen;simp at G J Q;simp only[BO];go_wp2_with fail
 have FO:=((Ax.set_other ⟨N,0,none⟩ (by simp;omega) (.string A.name)).set_other ⟨N,1,none⟩ (by simp;omega) (.slice x A.args.length v)).set_other ⟨N,2,none⟩ (by simp;omega) (.int .i64 A.at_);have T:=((n.set 0 (.string A.name)).set 1 (.slice x A.args.length v)).set 2 (.int .i64 A.at_);have HX:=((HW.set_other ⟨N,0,none⟩ (by simp;omega) (.string A.name)).set_other ⟨N,1,none⟩ (by simp;omega) (.slice x A.args.length v)).set_other ⟨N,2,none⟩ (by simp;omega) (.int .i64 A.at_);have HA:=((HH.setCell (p:=⟨N,0,none⟩) (by simp;omega) (.string A.name)).setCell (p:=⟨N,1,none⟩) (by simp;omega) (.slice x A.args.length v)).setCell (p:=⟨N,2,none⟩) (by simp;omega) (.int .i64 A.at_);have HY:=Ag (Ag (Ag c (p:=⟨N,0,none⟩) (by simpa using AJ c N (by omega)) (.string A.name)) (p:=⟨N,1,none⟩) (by simpa using AJ c N (by omega)) (.slice x A.args.length v)) (p:=⟨N,2,none⟩) (by simpa using AJ c N (by omega)) (.int .i64 A.at_);simp only[Z4,Z5]at T;clear Ax n HW HH c G J Q HG;refine(C0 b s q d 58 58 _ rfl B FA FO).mono ?_;rintro e w3 ⟨rfl,g,C⟩;rw[f.out.2.2.1]at g;have AT:=T.kept C (by simp;omega);have Y:=HX.kept C (by simp;omega);have Ha:=HA.trans C;have Z:=Ad HY C (by simp;omega);clear FO T HX HA HY C;have LL:=AT.lt;have L0:=g.lt;have LB:=Y.lt;have K1:d=false:=by cases d<;>simp_all
 subst K1;rw[U];have m:=f.out.2.2.2.1;unfold Db at m;rw[U,f.out.2.2.1]at m;simp only[if_true]at m;have HF:=g.cell 0;have F:=g.cell 1;have HB:=g.cell 2;have H5:=g.frozen;simp[AP]at HF F HB;rw[K]at m;simp only[if_true]at m;have K5:=EL K;have K9:(i:Int)<(s.size:Int):=by omega
 have hq:((s[i].toNat:Int)==45)=true:=by rw[<-K];exact(G0 K5 45).symm
 have H6:R<=s.size:=by have:=SD s (i+1) (by omega);rw[m]at this;exact this
 have HR:Hid (CJ s (i+1)=(L,R,H)):=m;clear m U K;go_wp2_with fail
 go_quiet (fail)
 clear hq;go_wp2_with fail
 refine(XX b s (i+1) _ B (by omega) ((g.drewN nq).set 1 _)).mono ?_;rintro e P ⟨O,a,rfl,W,HV,HS,EY,r⟩;rw[HR.out]at EY W;have H9:Hid (a.map Prod.fst=L):=W;have BT:=((AT.drewN nq).set_other ⟨b,1,none⟩ (by simp;omega) _).kept r (by simp;omega);have HN:=((Y.drewN nq).set_other ⟨b,1,none⟩ (by simp;omega) _).kept r (by simp;omega);have HT:=((Ha.drewN nq).setCell (p:=⟨b,1,none⟩) (by simp) _).trans r;have Bx:=Ad (Ag (CT Z nq) (p:=⟨b,1,none⟩) (by simpa using AJ Z b (by omega)) _) r (by simp;omega);have I:P.ownsRow (N+1) 95 9 O a.length (Cw a):=Ai HV (by simp;omega);have S:Hid (∀p∈a,BS P (N+1) p):=λp l=>Ai (HS p l) (by simp;omega)
 have V:=r.size;simp only[World.size_setCell]at V;have K8:w3.heap.size<=P.heap.size:=V;clear g AT Y Ha Z r HV HS W HF F HB H5 V;obtain⟨h,k,rfl⟩:=BI I;have e3:=BT.cell 3;have HG:=BT.frozen 3;simp at e3;have CL:=EY.set_other ⟨N,3,none⟩ (by simp;omega) (.slice h a.length k);have B9:=BT.set 3 (.slice h a.length k);have HE:=HN.set_other ⟨N,3,none⟩ (by simp;omega) (.slice h a.length k);have Go:=HT.setCell (p:=⟨N,3,none⟩) (by simp;omega) (.slice h a.length k);have FL:=Ag Bx (p:=⟨N,3,none⟩) (by simpa using AJ Bx N (by omega)) (.slice h a.length k);have FF:=Ag I (p:=⟨N,3,none⟩) (by simpa using AJ I N (by omega)) (.slice h a.length k);have HK:Hid (∀p∈a,BS (P.setCell ⟨N,3,none⟩ (.slice h a.length k)) (N+1) p):=λp l=>Ag (S.out p l) (by simpa using AJ (S.out p l) N (by omega)) _
 clear EY HN HT Bx I S;have LM:=CL.lt;have MN:=B9.lt;go_wp2_with fail
 refine(Gx b s _ H 46 46 _ rfl B H6 CL).mono ?_;rintro e X ⟨rfl,HI,o⟩;have M:=f.out.2.2.2.2;simp only[Bk,aY]at M;rw[M.1,M.2]at HI;have H4:=B9.kept o (by simp;omega);have AH:=HE.kept o (by simp;omega);have H8:=Go.trans o;have Jx:=Ad FL o (by simp;omega);have H1:=Ad FF o (by simp;omega);have JJ:Hid (∀p∈a,BS X (N+1) p):=λp l=>(HK.out p l).kept o (by simp;omega)
 clear CL B9 HE Go FL FF o M HK;have t:=H4.cell;have u:=AH.cell;have LS:=AH.frozen;have G:=t 0;have J:=t 1;have Q:=t 2;have e3:=t 3;have e4:=t 4;have f0:=u 0;have f1:=u 1;have f2:=u 2;have f3:=u 3;have f4:=u 4;simp at G J Q e3 e4 f0 f1 f2 f3 f4;clear t u;go_wp2;have z:∀{v0 v1 v2 v3 v4:Value},Ac [w.heap.size] X (((((X.setCell ⟨w.heap.size,0,none⟩ v0).setCell ⟨w.heap.size,1,none⟩ v1).setCell ⟨w.heap.size,2,none⟩ v2).setCell ⟨w.heap.size,3,none⟩ v3).setCell ⟨w.heap.size,4,none⟩ v4):=by
  intro v0 v1 v2 v3 v4
  repeat (refine Ac.setCell ?_ (by simp) _)
  exact Ac.refl _ _
 refine aE (AY rfl rfl (((((AH.set 0 _).set 1 _).set 2 _).set 3 _).set 4 _) underlying82 rfl (by kernel_rfl)) rfl ⟨.slice x A.args.length v, .slice h a.length k,a,?_,?_,?_,?_,?_,?_,?_⟩
 ·simp[Ch]
 ·exact Ai (Ad Jx z (by simp;omega)) (by omega)
 ·exact H9.out
 ·exact Ai (Ad H1 z (by simp;omega)) (by omega)
 ·exact λp l=>Ai ((JJ.out p l).kept z (by simp;omega)) (by omega)
 ·exact HI.kept z (by simp;omega)
 ·exact H8.trans' z (by simp)
theorem Xl(s:cL)(a:Nat)(c:Bool)(h:a<=s.size):(Db s a c).2.1<=s.size:=by
 have b:=Cy s a c 58 h;unfold Db;split
 ·split
  ·rename_i d;exact SD _ _ (by have:=EL d;omega)
  ·exact b
 ·exact b
theorem SG(s:cL)(a:Nat)(b:Bool):a<=(Db s a b).2.1:=by
 have c:=EV s a b 58;unfold Db;split
 ·split
  ·have:=XI s (Bi s a b 58+1);omega
  ·exact c
 ·exact c
theorem M2(s:cL)(at_:Nat)(h:at_<=s.size):(AQ s at_).2.1<=s.size:=by
 unfold AQ;simp only;exact Cy _ _ _ _ (Xl _ _ _ (EO _ _ _ (AN _ _ h)))
theorem Nn{s:cL}{at_:Nat}(h:(AQ s at_).2.2=false):at_<(AQ s at_).2.1:=by
 unfold AQ at h⊢;simp only at h⊢;have a:=Cr s at_;have b:=I1 s (Af s at_) false;have d:=SG s (A4 s (Af s at_) false).2.1 (A4 s (Af s at_) false).2.2;have c:=PB h;omega
theorem S9(b:Nat)(s:cL)(at_:Nat)(w:World)(o:s.size<=1000000)(m:at_<=s.size)(q:Aw w b (AP s at_ false) 73):
  Calls prog 44 #[.pointer (some ⟨b,0,none⟩)] w λe k=>∃(y z:Value) (n:List Bm),e= .returned (.agg (Ch (AQ s at_).1 y z).toArray)/\k.ownsRow w.heap.size 93 2 y (AQ s at_).1.head.args.length ((AQ s at_).1.head.args.flatMap Az)/\
   n.map Prod.fst=(AQ s at_).1.body/\k.ownsRow w.heap.size 95 9 z n.length (Cw n)/\(∀p∈n,BS k w.heap.size p)/\Aw k b (AP s (AQ s at_).2.1 (AQ s at_).2.2) 73/\Ac [b] w k:=by
 obtain⟨j,x⟩:∃j,Af s at_=j:=⟨_,rfl⟩;obtain⟨A,c,a,t⟩:∃A c a,A4 s j false=(A,c,a):=⟨_,_,_,rfl⟩;obtain⟨g,B⟩:∃g,Bi s c a 58=g:=⟨_,rfl⟩;obtain⟨L,f,d,u⟩:∃L f d,Db s c a=(L,f,d):=⟨_,_,_,rfl⟩;obtain⟨h,i,v⟩:∃h i,Bk s f d 46=(h,i):=⟨_,_,rfl⟩;have e:AQ s at_=(⟨A,L,j⟩,h,i):=by unfold AQ;simp only[x,t,u,v]
 rw[e];have l:Hid (Af s at_=j/\A4 s j false=(A,c,a)/\Bi s c a 58=g/\Db s c a=(L,f,d)/\Bk s f d 46=(h,i)):=⟨x,t,B,u,v⟩;cases hc:(!a&&Cz s (As s c a) 58)with
 |false=>exact RU b s at_ j w A c g f a d L h i o m l hc q
 |true=>
  cases hd:Cz s g 45 with
  |true=>exact Ru b s at_ j w A c g f a d L h i o m l hc hd q
  |false=>
   by_cases r:g<s.size
   ·exact Rm b s at_ j w A c g f a d L h i o m l hc r hd q
   ·exact RK b s at_ j w A c g f a d L h i o m l hc r q
def Dn(l:List cL)(x:cL):Bool:=l.any λy=>y.toList==x.toList
theorem Jg(l:List cL)(y x:cL):Dn (l++[y]) x=(Dn l x||(y.toList==x.toList)):=by simp[Dn,ex]
theorem WL{l:List cL}{k:Nat}(a:k<l.length)(x:cL):Dn (l.take (k+1)) x=(Dn (l.take k) x||(l[k].toList==x.toList)):=by
 rw[ac a,Jg]
theorem Xn{l:List cL}{k:Nat}(a:k<l.length){x:cL}(h:(l[k].toList==x.toList)=true):Dn l x=true:=by
 unfold Dn;rw[bI];exact⟨l[k],Z7 a,h⟩
set_option maxRecDepth 512
theorem C6(d:Value)(l:List cL)(x:cL)(base:Nat)(w:World)(b:w.ownsRow base 9 1 d l.length (l.flatMap Ae))(v:l.length<=1000000):
  Calls prog 50 #[d, .string x] w λe m=>e= .returned (.bool (Dn l x))/\m=w:=by
 obtain⟨y,s,rfl⟩:=Ak b;go_enter func50,ntmps50;go_wp2
 go_loop [5] (λi=>∃k:Nat,i= .int .i64 k/\k<=l.length/\Hid (Dn (l.take k) x=false)) (λi=>l.length-(intOf i).toNat)
 case atStart=>exact⟨0,rfl,aG _,by show _=_;simp[Dn]⟩
 case round=>
  obtain⟨k,rfl,r,j⟩:=hrel;by_cases a:k<l.length
  ·obtain⟨g,t,c,u,f⟩:=AE b (by simp[Ae]) k a;simp only[Z6]at c;obtain⟨rfl,_,rfl⟩:=c;have n:=f k a 0 (by omega);simp[Ae]at n;clear f;have q:Hid ((l[k].toList==x.toList)=true->Dn l x=true):=Xn a;have o:Hid ((l[k].toList==x.toList)=false->Dn (l.take (k+1)) x=false):=by
    intro h;rw[WL a,j.out,h];rfl
   go_wp2
   ·go_ret;rw[q.out (by assumption)];exact⟨rfl,rfl⟩
   ·go_round
    case rel=>exact⟨k+1,by go_num,by omega,o.out (by assumption)⟩
    case measure=>simp[intOf];omega
  ·(have p:Hid (Dn l x=false):=by have:=j.out;rwa [Z9 (by omega)]at this);go_wp2;go_ret;rw[p.out];exact⟨rfl,rfl⟩
structure Bf where
 head:CQ
 hv:Value
 bv:Value
 bl:List Bm
 at_:Nat
def Co(c:Bf):List Value:=[.string c.head.name,c.hv, .int .i64 c.head.at_,c.bv, .int .i64 c.at_]
def Bc(p:Bm):List Value:=Bq p.1 p.2
theorem BB(c:Bf):(Co c).length=5:=rfl
theorem BF(p:Bm):(Bc p).length=9:=rfl
theorem Fr(t:AG):(Az t).length=2:=rfl
structure TF(w:World)(c:Bf):Prop where
 args:w.ownsRow 0 93 2 c.hv c.head.args.length (c.head.args.flatMap Az)
 body:w.ownsRow 0 95 9 c.bv c.bl.length (c.bl.flatMap Bc)
 lits:∀p∈c.bl,BS w 0 p
structure Cl(w:World)(lv:Value)(cs:List Bf):Prop where
 row:w.ownsRow 0 82 5 lv cs.length (cs.flatMap Co)
 each:∀c∈cs,TF w c
theorem TF.kept{w w':World}{c:Bf}(h:TF w c)(k:Ac [] w w'):TF w' c:=
 ⟨Ad h.args k (by simp),Ad h.body k (by simp),λp a=>Ad (h.lits p a) k (by simp)⟩
theorem Cl.kept{w w':World}{a:Value}{cs:List Bf}(h:Cl w a cs)(k:Ac [] w w'):Cl w' a cs:=
 ⟨Ad h.row k (by simp),λc b=>(h.each c b).kept k⟩
def Nf(p:Bm):Bool:=p.1.kind==97||p.1.kind==33
def QS(bl:List Bm)(x:cL):Option Nat:=bl.findSome? λp=>if Nf p&&(p.1.A.name.toList==x.toList)then some p.1.A.args.length else none
def Gj(c:Bf)(x:cL):Option Nat:=if c.head.name.toList==x.toList then some c.head.args.length else QS c.bl x
def DL(cs:List Bf)(x:cL):Int:=match cs.findSome? (Gj · x)with|some n=>n|none=> -1
theorem E4{α β:Type}(f:α->Option β)(l:List α)(k:Nat)(a:k<l.length)(b:(l.take k).findSome? f=none):(l.take (k+1)).findSome? f=f l[k]:=by
 rw[ac a,ed,b];simp
theorem FY{α β:Type}(f:α->Option β)(l:List α)(k:Nat)(a:k<l.length)(c:(l.take k).findSome? f=none){b:β}(d:f l[k]=some b):l.findSome? f=some b:=by
 have h:=E4 f l k a c;rw[d]at h;have e:l=l.take (k+1)++l.drop (k+1):=(bF _ _).symm;rw[e,ed,h];rfl
theorem Ep(p:Bm):(((p.1.kind.toNat:Int)==97)=true/\Nf p=true)\/(((p.1.kind.toNat:Int)==97)=false/\((p.1.kind.toNat:Int)==33)=true/\Nf p=true)\/
  (((p.1.kind.toNat:Int)==97)=false/\((p.1.kind.toNat:Int)==33)=false/\Nf p=false):=by
 have b:((p.1.kind.toNat:Int)==97)=(p.1.kind==97):=B8 _ 97;have a:((p.1.kind.toNat:Int)==33)=(p.1.kind==33):=B8 _ 33;rw[b,a];unfold Nf;cases(p.1.kind==97)<;>cases(p.1.kind==33)<;>simp
set_option maxRecDepth 100000
theorem Lt(T:Nat)(lv:Value)(cs:List Bf)(x:cL)(w:World)(Y:Aw w T [lv] 76)(I:Cl w lv cs)(HH:cs.length<=1000000)(N:∀c∈cs,c.bl.length<=1000000):
  Calls prog 23 #[.pointer (some ⟨T,0,none⟩), .string x] w λe w'=>e= .returned (.int .i64 (DL cs x))/\Ac [] w w':=by
 obtain⟨ad,CL,rfl⟩:=Ak I.row;have F:Hid (Cl w (.slice ad cs.length CL) cs/\∀c∈cs,c.bl.length<=1000000):=⟨I,N⟩;clear I N;go_enter func23,ntmps23;go_wp2
 go_loopw [5] (λi wr=>∃k:Nat,i= .int .i64 k/\k<=cs.length/\Hid ((cs.take k).findSome? (Gj · x)=none)/\Ac [] w wr) (λi _=>cs.length-(intOf i).toNat)
 case atStart=>exact⟨0,rfl,aG _,by show _=_;simp,Ac.refl _ _⟩
 case round=>
  obtain⟨k,rfl,hk,v,o⟩:=hrel;have y:=(Y.kept o (by simp)).cell 0;simp at y;by_cases d:k<cs.length
  ·have E:=F.out.1.kept o;obtain⟨g,HB,X,hc,u⟩:=AE E.row (λc _=>BB c) k d;simp only[Z6]at X;obtain⟨rfl,_,rfl⟩:=X;have O:=u k d 0 (by omega);have L:=u k d 1 (by omega);have s:=u k d 3 (by omega);simp[Co]at O L s;have l:=E.each cs[k] (Z7 d);have HK:=F.out.2 cs[k] (Z7 d);obtain⟨HJ,Ha,Z⟩:=Ak l.args;obtain⟨BA,B9,B⟩:=Ak l.body;rw[Z]at L;rw[B]at s;have Bx:Hid (TF wr cs[k]):=l;have V:Hid (cs[k].bv= .slice BA cs[k].bl.length B9):=B;clear u E l Z B;cases hnm:(cs[k].head.name.toList==x.toList)with
   |true=>
    have J:Hid (DL cs x=(cs[k].head.args.length:Int)):=by
     show _=_;unfold DL;rw[FY (Gj · x) cs k d v.out (b:=cs[k].head.args.length) (by simp[Gj,hnm])]
    go_wp2;go_ret;rw[J.out];exact⟨rfl,o⟩
   |false=>
    (have S:Hid (Gj cs[k] x=QS cs[k].bl x):=by show _=_;simp[Gj,hnm]);go_wp2;clear O L
    go_loopw [6] (λi Q=>∃m:Nat,i= .int .i64 m/\m<=cs[k].bl.length/\Hid ((cs[k].bl.take m).findSome? (λp=>if Nf p&&(p.1.A.name.toList==x.toList)then some p.1.A.args.length else none)=none)/\Ac [] w Q) (λi _=>cs[k].bl.length-(intOf i).toNat)
    case atStart=>exact⟨0,rfl,aG _,by show _=_;simp,o⟩
    case round=>
     rename_i Q _;obtain⟨m,rfl,hm,z,n⟩:=hrel;clear y s o Bx;have y:=(Y.kept n (by simp)).cell 0;simp at y;have D:=F.out.1.kept n;obtain⟨g2,HI,W,_,R⟩:=AE D.row (λc _=>BB c) k d;simp only[Z6,ai,aW]at W;obtain⟨⟨rfl,_,_⟩,_,rfl⟩:=W;have s:=R k d 3 (by omega);simp[Co]at s;rw[V.out]at s;have l:=D.each cs[k] (Z7 d);clear R D;by_cases a:m<cs[k].bl.length
     ·obtain⟨gb,HO,K,FW,j⟩:=AE l.body (λc _=>BF c) m a;rw[V.out]at K;simp only[Z6]at K;obtain⟨rfl,_,rfl⟩:=K;have U:=l.lits cs[k].bl[m] (Z7 a);obtain⟨HL,Go,P⟩:=Ak U;have d0:=j m a 0 (by omega);have d1:=j m a 1 (by omega);have M:=j m a 2 (by omega);have d3:=j m a 3 (by omega);have d4:=j m a 4 (by omega);have d5:=j m a 5 (by omega);have d6:=j m a 6 (by omega);have d7:=j m a 7 (by omega);have d8:=j m a 8 (by omega);simp[Bc,Bq]at d0 d1 M d3 d4 d5 d6 d7 d8;rw[P]at M;clear j U P l;have r:Hid (Nf cs[k].bl[m]=false\/(cs[k].bl[m].1.A.name.toList==x.toList)=false->(cs[k].bl.take (m+1)).findSome? (λp=>if Nf p&&(p.1.A.name.toList==x.toList)then some p.1.A.args.length else none)=none):=by
       intro h;rw[E4 _ _ m a z.out];rcases h with h|h<;>simp[h]
      have q:Hid (Nf cs[k].bl[m]=true->(cs[k].bl[m].1.A.name.toList==x.toList)=true->DL cs x=(cs[k].bl[m].1.A.args.length:Int)):=by
       intro h1 h2;have h3:=FY (λp:Bm=>if Nf p&&(p.1.A.name.toList==x.toList)then some p.1.A.args.length else none) cs[k].bl m a z.out (b:=cs[k].bl[m].1.A.args.length) (by simp[h1,h2]);(have h4:Gj cs[k] x=some cs[k].bl[m].1.A.args.length:=by rw[S.out];exact h3);unfold DL;rw[FY (Gj · x) cs k d v.out h4]
      cases hnm2:(cs[k].bl[m].1.A.name.toList==x.toList)with
      |true=>
       rcases Ep cs[k].bl[m] with⟨t,f⟩|⟨t,G,f⟩|⟨t,G,f⟩
       ·have C:=Ab (q.out f hnm2);clear q r f;go_wp2;go_ret;rw[Aa C];exact⟨rfl,n.alloc _⟩
       ·have C:=Ab (q.out f hnm2);clear q r f;go_wp2;go_ret;rw[Aa C];exact⟨rfl,n.alloc _⟩
       ·have H:=Ab (r.out (Or.inl f));clear q r f;go_wp2
        go_roundw
        case rel=>exact⟨m+1,by go_num,by omega,Aa H,n.alloc _⟩
        case measure=>simp[intOf];omega
      |false=>
       have H:=Ab (r.out (Or.inr hnm2));rcases Ep cs[k].bl[m] with⟨t,f⟩|⟨t,G,f⟩|⟨t,G,f⟩;all_goals
        clear q r f;go_wp2
        go_roundw
        case rel=>exact⟨m+1,by go_num,by omega,Aa H,n.alloc _⟩
        case measure=>simp[intOf];omega
     ·have HZ:Hid ((cs.take (k+1)).findSome? (Gj · x)=none):=by
       show _=_;rw[E4 _ _ k d v.out];have h:=z.out;rw[Z9 (by omega)]at h;rw[S.out];exact h
      go_wp2
      go_roundw
      case rel=>exact⟨k+1,by go_num,by omega,HZ,n⟩
      case measure=>simp[intOf];omega
  ·have J:Hid (DL cs x= -1):=by
    have h:=v.out;rw[Z9 (by omega)]at h;show _=_;unfold DL;rw[h]
   go_wp2;go_ret;rw[J.out];exact⟨rfl,o⟩
def A2(p:Bm):List AG:=if Nf p then p.1.A.args else[p.1.L,p.1.R]
theorem Po(p:Bm)(w:World)(c:BS w 0 p):
  Calls prog 131 #[.agg (Bc p).toArray] w λe k=>∃j,e= .returned j/\k.ownsRow 0 93 2 j (A2 p).length ((A2 p).flatMap Az)/\Ac [] w k:=by
 obtain⟨g,f,d⟩:=Ak c;simp only[Bc,Bq,d];rcases Ep p with⟨i,b⟩|⟨i,l,b⟩|⟨i,l,b⟩
 ·have a:Hid (A2 p=p.1.A.args/\p.2= .slice g p.1.A.args.length f/\BS w 0 p):=⟨by unfold A2;simp[b],d,c⟩;clear b d c;go_enter func131,ntmps131;go_wp2;go_ret;refine⟨_,rfl,?_,(Ac.refl _ _).alloc _⟩;rw[a.out.1];have h:w.ownsRow 0 93 2 _ _ _:=a.out.2.2;rw[a.out.2.1]at h;exact h.alloc _
 ·have a:Hid (A2 p=p.1.A.args/\p.2= .slice g p.1.A.args.length f/\BS w 0 p):=⟨by unfold A2;simp[b],d,c⟩;clear b d c;go_enter func131,ntmps131;go_wp2;go_ret;refine⟨_,rfl,?_,(Ac.refl _ _).alloc _⟩;rw[a.out.1];have h:w.ownsRow 0 93 2 _ _ _:=a.out.2.2;rw[a.out.2.1]at h;exact h.alloc _
 ·have a:Hid (A2 p=[p.1.L,p.1.R]):=by show _=_;unfold A2;simp[b]
  clear b d c;go_enter func131,ntmps131;go_wp2;go_ret;refine⟨_,rfl,?_,((Ac.refl _ _).alloc _).alloc _⟩;rw[a.out];refine⟨rfl,Or.inr ⟨_,2,#[.int .u8 p.1.L.v.toNat, .string p.1.L.s, .int .u8 p.1.R.v.toNat, .string p.1.R.s],rfl,aG _,by have h:=aS (w.alloc (.cells #[.int .u8 p.1.kind.toNat, .string p.1.A.name, .slice g p.1.A.args.length f, .int .i64 p.1.A.at_, .int .u8 p.1.L.v.toNat, .string p.1.L.s, .int .u8 p.1.R.v.toNat, .string p.1.R.s, .int .i64 p.1.at_] 95)) (.cells #[.int .u8 p.1.L.v.toNat, .string p.1.L.s, .int .u8 p.1.R.v.toNat, .string p.1.R.s] 93);rw[aP]at h;exact h,by simp,by unfold maxLen;omega,rfl,?_⟩⟩;simp[Az]
def OR(l:List AG)(v:UInt8):Bool:=l.any λt=>t.v==v
def IC(v:UInt8)(p:Bm):Bool:=p.1.kind==97&&OR p.1.A.args v
def IA(bl:List Bm)(v:UInt8):Bool:=bl.any (IC v)
theorem CB{α:Type}(f:α->Bool)(l:List α)(k:Nat)(a:k<l.length)(b:(l.take k).any f=false):(l.take (k+1)).any f=f l[k]:=by
 rw[ac a,ex,b];simp
theorem Ip{α:Type}(f:α->Bool)(l:List α)(k:Nat)(a:k<l.length)(h:f l[k]=true):l.any f=true:=by
 rw[bI];exact⟨_,Z7 a,h⟩
theorem I4(I:Value)(a:List Bm)(n:Int)(v:UInt8)(w:World)(R:n=v.toNat)(l:w.ownsRow 0 95 9 I a.length (a.flatMap Bc))(D:∀p∈a,BS w 0 p)(Z:a.length<=1000000)(H:∀p∈a,p.1.A.args.length<=1000000):
  Calls prog 132 #[I, .int .u8 n] w λe J=>e= .returned (.bool (IA a v))/\J=w:=by
 subst R;obtain⟨O,N,rfl⟩:=Ak l;have o:Hid (w.ownsRow 0 95 9 (.slice O a.length N) a.length (a.flatMap Bc)/\(∀p∈a,BS w 0 p)/\(∀p∈a,p.1.A.args.length<=1000000)):=⟨l,D,H⟩;clear l D H;go_enter func132,ntmps132;go_wp2
 go_loop [5] (λi=>∃k:Nat,i= .int .i64 k/\k<=a.length/\Hid ((a.take k).any (IC v)=false)) (λi=>a.length-(intOf i).toNat)
 case atStart=>exact⟨0,rfl,aG _,by show _=_;simp⟩
 case round=>
  obtain⟨k,rfl,Y,q⟩:=hrel;by_cases b:k<a.length
  ·obtain⟨g,X,G,hc,r⟩:=AE o.out.1 (λc _=>BF c) k b;simp only[Z6]at G;obtain⟨rfl,_,rfl⟩:=G;have P:=r k b 0 (by omega);have y:=r k b 2 (by omega);simp[Bc,Bq]at P y;have s:=o.out.2.1 a[k] (Z7 b);have V:=o.out.2.2 a[k] (Z7 b);obtain⟨Q,K,j⟩:=Ak s;rw[j]at y;have T:Hid (w.ownsRow 0 93 2 (.slice Q a[k].1.A.args.length K) a[k].1.A.args.length (a[k].1.A.args.flatMap Az)):=by
    have h:w.ownsRow 0 93 2 _ _ _:=s;rw[j]at h;exact h
   clear r s j;have F:((a[k].1.kind.toNat:Int)==97)=(a[k].1.kind==97):=B8 _ 97;cases hkd:(a[k].1.kind==97)with
   |false=>
    rw[hkd]at F;(have d:Hid ((a.take (k+1)).any (IC v)=false):=by show _=_;rw[CB _ _ k b q.out];simp[IC,hkd]);clear hkd;go_wp2
    go_loop [6] (λi=>i= .int .i64 0) (λ_=>0)
    case atStart=>rfl
    case round=>
     subst hrel;go_wp2
     go_round
     case rel=>exact⟨k+1,by go_num,by omega,d⟩
     case measure=>simp[intOf];omega
   |true=>
    rw[hkd]at F;(have d:Hid (OR a[k].1.A.args v=false->(a.take (k+1)).any (IC v)=false):=by intro h;rw[CB _ _ k b q.out];simp[IC,h]);(have u:Hid (OR a[k].1.A.args v=true->IA a v=true):=by intro h;exact Ip _ _ k b (by simp[IC,hkd,h]));clear hkd;go_wp2
    go_loop [6] (λi=>∃m:Nat,i= .int .i64 m/\m<=a[k].1.A.args.length/\Hid ((a[k].1.A.args.take m).any (λt=>t.v==v)=false)) (λi=>a[k].1.A.args.length-(intOf i).toNat)
    case atStart=>exact⟨0,rfl,aG _,by show _=_;simp⟩
    case round=>
     obtain⟨m,rfl,hm,z⟩:=hrel;by_cases f:m<a[k].1.A.args.length
     ·obtain⟨U,AB,B,W,E⟩:=AE T.out (λc _=>Fr c) m f;simp only[Z6]at B;obtain⟨rfl,_,rfl⟩:=B;have M:=E m f 0 (by omega);simp[Az]at M;clear E;have C:((a[k].1.A.args[m].v.toNat:Int)==(v.toNat:Int))=(a[k].1.A.args[m].v==v):=B8 _ v;cases hv:(a[k].1.A.args[m].v==v)with
      |true=>
       rw[hv]at C;have L:=Ab (u.out (Ip _ _ m f hv));clear hv u d;go_wp2;go_ret;rw[Aa L];exact⟨rfl,rfl⟩
      |false=>
       rw[hv]at C;(have x:Hid ((a[k].1.A.args.take (m+1)).any (λt=>t.v==v)=false):=by show _=_;rw[CB _ _ m f z.out];exact hv);clear hv u d;go_wp2
       go_round
       case rel=>exact⟨m+1,by go_num,by omega,x⟩
       case measure=>simp[intOf];omega
     ·have x:=Ab (d.out (by have h:=z.out;rwa [Z9 (by omega)]at h));go_wp2
      go_round
      case rel=>exact⟨k+1,by go_num,by omega,x⟩
      case measure=>simp[intOf];omega
  ·(have S:Hid (IA a v=false):=by have h:=q.out;rwa [Z9 (by omega)]at h);go_wp2;go_ret;rw[S.out];exact⟨rfl,rfl⟩
def Ca(bl:List Bm)(t:AG):Bool:= !(t.v==0||IA bl t.v)
def Hw(bl:List Bm)(p:Bm):Bool:=(A2 p).any (Ca bl)
def E7(head:CQ)(bl:List Bm):Int:=if head.args.any (Ca bl)then head.at_ else match bl.find? (Hw bl)with|some p=>p.1.at_|none=> -1
theorem Fh{α:Type}(f:α->Bool)(l:List α)(k:Nat)(a:k<l.length)(d:(l.take k).any f=false)(h:f l[k]=true):l.find? f=some l[k]:=by
 have e:l.find? f=(l.take k++l.drop k).find? f:=by rw[bF]
 rw[e,dU];have c:(l.take k).find? f=none:=by
  rw[cg];intro x g b;have:(l.take k).any f=true:=by rw[bI];exact⟨x,g,b⟩
  rw[d]at this;cases this
 rw[c,Option.none_or,aC a,List.find?_cons_of_pos h]
theorem X9(b:CQ)(hv bv:Value)(a:List Bm)(w:World)(Q:w.ownsRow 0 93 2 hv b.args.length (b.args.flatMap Az))(N:w.ownsRow 0 95 9 bv a.length (a.flatMap Bc))(hl:∀p∈a,BS w 0 p)(D:a.length<=1000000)(Ax:∀p∈a,p.1.A.args.length<=1000000)(HL:b.args.length<=1000000):
  Calls prog 84 #[.agg (BO b.name hv b.at_).toArray,bv] w λe w'=>e= .returned (.int .i64 (E7 b a))/\Ac [] w w':=by
 obtain⟨L,J,rfl⟩:=Ak Q;obtain⟨ad,FC,rfl⟩:=Ak N;simp only[BO];have l:Hid (w.ownsRow 0 93 2 (.slice L b.args.length J) b.args.length (b.args.flatMap Az)/\w.ownsRow 0 95 9 (.slice ad a.length FC) a.length (a.flatMap Bc)/\(∀p∈a,BS w 0 p)/\(∀p∈a,p.1.A.args.length<=1000000)):=⟨Q,N,hl,Ax⟩;clear Q N hl Ax;have H1:∀(x:Bool) (w:World),(Op.unary .not (.bool x)).run prog w= .ok (.bool (!x)) w:=λ_ _=>rfl
 go_enter func84,ntmps84;go_wp2_with fail
 go_loopw [5] (λi wr=>∃k:Nat,i= .int .i64 k/\k<=b.args.length/\Hid ((b.args.take k).any (Ca a)=false)/\wr=w.alloc (.cells #[.string b.name, .slice L b.args.length J, .int .i64 b.at_] 79)) (λi _=>b.args.length-(intOf i).toNat)
 case atStart=>exact⟨0,rfl,aG _,by show _=_;simp,rfl⟩
 case round=>
  obtain⟨k,rfl,hk,V,rfl⟩:=hrel;by_cases F:k<b.args.length
  ·obtain⟨g,AH,r,hc,f⟩:=AE (l.out.1.alloc (.cells #[.string b.name, .slice L b.args.length J, .int .i64 b.at_] 79)) (λc _=>Fr c) k F;simp only[Z6]at r;obtain⟨rfl,_,rfl⟩:=r;have E:=f k F 0 (by omega);simp[Az]at E;clear f;have y:((b.args[k].v.toNat:Int)==0)=(b.args[k].v==0):=B8 _ 0;(have n:Hid (Ca a b.args[k]=false->(b.args.take (k+1)).any (Ca a)=false):=by intro h;rw[CB _ _ k F V.out];exact h);(have o:Hid (Ca a b.args[k]=true->E7 b a=(b.at_:Int)):=by intro h;unfold E7;rw[if_pos (Ip _ _ k F h)]);cases hz:(b.args[k].v==0)with
   |true=>
    rw[hz]at y;have C:=Ab (n.out (by simp[Ca,hz]));clear hz n o;go_wp2_with fail
    go_roundw
    case rel=>exact⟨k+1,by go_num,by omega,C,by trivial⟩
    case measure=>simp[intOf];omega
   |false=>
    rw[hz]at y;cases hbd:IA a b.args[k].v with
    |true=>
     have C:=Ab (n.out (by simp[Ca,hbd]));clear hz n o;go_wp2_with (go_at_call 132;refine(I4 _ a _ b.args[k].v _ rfl (l.out.2.1.alloc _) (λp B=>(l.out.2.2.1 p B).alloc _) D l.out.2.2.2).mono ?_;rintro e t ⟨rfl,rfl⟩;rw[hbd])
     go_roundw
     case rel=>exact⟨k+1,by go_num,by omega,C,by trivial⟩
     case measure=>simp[intOf];omega
    |false=>
     have HG:=Ab (o.out (by simp[Ca,hbd,hz]));clear hz n o;go_wp2_with (go_at_call 132;refine(I4 _ a _ b.args[k].v _ rfl (l.out.2.1.alloc _) (λp B=>(l.out.2.2.1 p B).alloc _) D l.out.2.2.2).mono ?_;rintro e t ⟨rfl,rfl⟩;rw[hbd])
     go_ret;rw[Aa HG];exact⟨rfl,(Ac.refl _ _).alloc _⟩
  ·(have HH:Hid (b.args.any (Ca a)=false):=by have h:=V.out;rwa [Z9 (by omega)]at h);clear V;have FA:=(Ac.refl [] w).alloc (.cells #[.string b.name, .slice L b.args.length J, .int .i64 b.at_] 79);go_wp2_with fail
   go_loopw [7] (λi wr=>∃k:Nat,i= .int .i64 k/\k<=a.length/\Hid ((a.take k).any (Hw a)=false)/\Ac [] w wr) (λi _=>a.length-(intOf i).toNat)
   case atStart=>exact⟨0,rfl,aG _,by show _=_;simp,FA⟩
   case round=>
    rename_i wr _ _;obtain⟨q,rfl,hq,O,u⟩:=hrel;clear FA;by_cases d:q<a.length
    ·have s:=Ad l.out.2.1 u (by simp);obtain⟨g,AH,r,hc,f⟩:=AE s (λc _=>BF c) q d;simp only[Z6]at r;obtain⟨rfl,_,rfl⟩:=r;have W:BS _ 0 a[q]:=(l.out.2.2.1 a[q] (Z7 d)).kept u (by simp);obtain⟨H5,H0,U⟩:=Ak W;have T:=Po a[q] _ W;simp only[Bc,Bq,U]at T;have E:=f q d 0 (by omega);have d1:=f q d 1 (by omega);have M:=f q d 2 (by omega);have d3:=f q d 3 (by omega);have d4:=f q d 4 (by omega);have d5:=f q d 5 (by omega);have Z:=f q d 6 (by omega);have Y:=f q d 7 (by omega);have d8:=f q d 8 (by omega);simp[Bc,Bq]at E d1 M d3 d4 d5 Z Y d8;rw[U]at M;have HT:=Ab T;clear f s W U T;(have n:Hid (Hw a a[q]=false->(a.take (q+1)).any (Hw a)=false):=by intro h;rw[CB _ _ q d O.out];exact h);have o:Hid (Hw a a[q]=true->E7 b a=(a[q].1.at_:Int)):=by
      intro h;unfold E7;rw[if_neg (by rw[HH.out];exact bY),Fh _ _ q d O.out h]
     have HI:(A2 a[q]).length<=1000000:=by
      have:=l.out.2.2.2 a[q] (Z7 d);unfold A2;split<;>simp<;>omega
     (go_wp2_with fail);refine(Aa HT).mono ?_;rintro e t ⟨tv,rfl,S,FF⟩;have I:=u.trans FF;have s:=Ad l.out.2.1 I (by simp);obtain⟨g',AH,r,_,f⟩:=AE s (λc _=>BF c) q d;simp only[Z6,ai,aW]at r;obtain⟨⟨rfl,_,_⟩,_,rfl⟩:=r;have e8:=f q d 8 (by omega);simp[Bc,Bq]at e8;have K:Hid (t.ownsRow 0 95 9 (.slice (some ⟨g,0,none⟩) a.length FC) a.length (a.flatMap Bc)/\(∀p∈a,BS t 0 p)):=⟨s,λp B=>(l.out.2.2.1 p B).kept I (by simp)⟩;clear f s E d1 M d3 d4 d5 Z Y d8 HT FF u;obtain⟨H4,H3,rfl⟩:=Ak S;have HO:=Ab S;clear S;obtain⟨j,R⟩:∃j,A2 a[q]=j:=⟨_,rfl⟩;rw[R]at HO HI⊢;have EY:=Ab R;clear R;go_wp2_with fail
     go_loop [9] (λi=>∃m:Nat,i= .int .i64 m/\m<=j.length/\Hid ((j.take m).any (Ca a)=false)) (λi=>j.length-(intOf i).toNat)
     case atStart=>exact⟨0,rfl,aG _,by show _=_;simp⟩
     case round=>
      obtain⟨m,rfl,hm,X⟩:=hrel;by_cases H:m<j.length
      ·obtain⟨ga,HV,B9,HP,FO⟩:=AE (Aa HO) (λc _=>Fr c) m H;simp only[Z6]at B9;obtain⟨rfl,_,rfl⟩:=B9;have f0:=FO m H 0 (by omega);simp[Az]at f0;clear FO;have y:((j[m].v.toNat:Int)==0)=(j[m].v==0):=B8 _ 0;(have z:Hid (Ca a j[m]=false->(j.take (m+1)).any (Ca a)=false):=by intro h;rw[CB _ _ m H X.out];exact h);(have G:Hid (Ca a j[m]=true->E7 b a=(a[q].1.at_:Int)):=by intro h;exact o.out (by unfold Hw;rw[Aa EY];exact Ip _ _ m H h));cases hz:(j[m].v==0)with
       |true=>
        rw[hz]at y;have P:=Ab (z.out (by simp[Ca,hz]));clear hz z G n o;go_wp2_with fail
        go_round
        case rel=>exact⟨m+1,by go_num,by omega,P⟩
        case measure=>simp[intOf];omega
       |false=>
        rw[hz]at y;cases hbd:IA a j[m].v with
        |true=>
         have P:=Ab (z.out (by simp[Ca,hbd]));clear hz z G n o;go_wp2_with (go_at_call 132;refine(I4 _ a _ j[m].v _ rfl K.out.1 K.out.2 D l.out.2.2.2).mono ?_;rintro e t ⟨rfl,rfl⟩;rw[hbd])
         go_round
         case rel=>exact⟨m+1,by go_num,by omega,P⟩
         case measure=>simp[intOf];omega
        |false=>
         have FT:=Ab (G.out (by simp[Ca,hbd,hz]));clear hz z G n o;go_wp2_with (go_at_call 132;refine(I4 _ a _ j[m].v _ rfl K.out.1 K.out.2 D l.out.2.2.2).mono ?_;rintro e t ⟨rfl,rfl⟩;rw[hbd])
         go_ret;rw[Aa FT];exact⟨rfl,I⟩
      ·have C:=Ab (n.out (by unfold Hw;rw[Aa EY];have h:=X.out;rwa [Z9 (by omega)]at h));clear n o;go_wp2_with fail
       go_roundw
       case rel=>exact⟨q+1,by go_num,by omega,C,I⟩
       case measure=>simp[intOf];omega
    ·have HE:Hid (E7 b a= -1):=by
      have h:=O.out;rw[Z9 (by omega)]at h;show _=_;unfold E7;rw[if_neg (by rw[HH.out];exact bY)];have:a.find? (Hw a)=none:=by
       rw[cg];intro x hx hf;(have:a.any (Hw a)=true:=by rw[bI];exact⟨x,hx,hf⟩);rw[h]at this;cases this
      rw[this]
     (go_wp2_with fail);go_ret;rw[HE.out];exact⟨rfl,u⟩
def ES(a b:cL):Bool:=
 if An (B5 a 0) !=An (B5 b 0)then An (B5 a 0)
 else if An (B5 a 0)&&a.size !=b.size then decide (a.size<b.size)else Op.bytesLess a.toList b.toList
set_option maxRecDepth 512
theorem KG(a b:cL)(w:World)(l:0<a.size)(n:0<b.size)(p:a.size<=1000000)(q:b.size<=1000000):
  Calls prog 86 #[.string a, .string b] w λe k=>e= .returned (.bool (ES a b))/\k=w:=by
 have j:B5 a 0=a[0]:=by simp[B5,l]
 have i:B5 b 0=b[0]:=by simp[B5,n]
 obtain⟨R,c⟩:∃R,ES a b=R:=⟨_,rfl⟩;rw[c];unfold ES at c;rw[j,i]at c;have r:(0:Int)<(a.size:Int):=by omega
 have o:(0:Int)<(b.size:Int):=by omega
 clear j i;cases hx:An a[0] with
 |true=>
  cases hy:An b[0] with
  |true=>
   rw[hx,hy]at c;by_cases h:a.size=b.size
   ·(have g:(a.size !=b.size)=false:=by simp[h]);(have m:((a.size:Int) !=(b.size:Int))=false:=by simp[h]);(have f:Hid (Op.bytesLess a.toList b.toList=R):=by show _=_;rw[<-c,g];rfl);clear c g h;go_enter func86,ntmps86;(go_wp2_with fail);refine(Cg _ a[0] _ rfl).mono ?_;rintro e d ⟨rfl,rfl⟩;rw[hx];(go_wp2_with fail);refine(Cg _ b[0] _ rfl).mono ?_;rintro e d ⟨rfl,rfl⟩;rw[hy];go_wp2;go_ret;exact⟨Bb f.out,rfl⟩
   ·(have g:(a.size !=b.size)=true:=by simp[h]);(have m:((a.size:Int) !=(b.size:Int))=true:=by simp;omega);(have f:Hid (decide (a.size<b.size)=R):=by show _=_;rw[<-c,g];rfl);clear c g h;go_enter func86,ntmps86;(go_wp2_with fail);refine(Cg _ a[0] _ rfl).mono ?_;rintro e d ⟨rfl,rfl⟩;rw[hx];(go_wp2_with fail);refine(Cg _ b[0] _ rfl).mono ?_;rintro e d ⟨rfl,rfl⟩;rw[hy];go_wp2;go_ret;exact⟨Bb f.out,rfl⟩
  |false=>
   rw[hx,hy]at c;(have f:Hid (true=R):=by show _=_;rw[<-c];rfl);clear c;go_enter func86,ntmps86;(go_wp2_with fail);refine(Cg _ a[0] _ rfl).mono ?_;rintro e d ⟨rfl,rfl⟩;rw[hx];(go_wp2_with fail);refine(Cg _ b[0] _ rfl).mono ?_;rintro e d ⟨rfl,rfl⟩;rw[hy];go_wp2;go_ret;exact⟨Bb f.out,rfl⟩
 |false=>
  cases hy:An b[0] with
  |true=>
   rw[hx,hy]at c;(have f:Hid (false=R):=by show _=_;rw[<-c];rfl);clear c;go_enter func86,ntmps86;(go_wp2_with fail);refine(Cg _ a[0] _ rfl).mono ?_;rintro e d ⟨rfl,rfl⟩;rw[hx];(go_wp2_with fail);refine(Cg _ b[0] _ rfl).mono ?_;rintro e d ⟨rfl,rfl⟩;rw[hy];go_wp2;go_ret;exact⟨Bb f.out,rfl⟩
  |false=>
   rw[hx,hy]at c;(have f:Hid (Op.bytesLess a.toList b.toList=R):=by show _=_;rw[<-c];rfl);clear c;go_enter func86,ntmps86;(go_wp2_with fail);refine(Cg _ a[0] _ rfl).mono ?_;rintro e d ⟨rfl,rfl⟩;rw[hx];(go_wp2_with fail);refine(Cg _ b[0] _ rfl).mono ?_;rintro e d ⟨rfl,rfl⟩;rw[hy];go_wp2;go_ret;exact⟨Bb f.out,rfl⟩
def Cx(x:cL)(a:List cL×Bool)(y:cL):List cL×Bool:=if !a.2&&ES x y then(a.1++[x]++[y],true)else(a.1++[y],a.2)
def Kv(l:List cL)(x:cL):List cL×Bool:=l.foldl (Cx x) ([],false)
def GK(l:List cL)(x:cL):List cL:=if(Kv l x).2 then(Kv l x).1 else(Kv l x).1++[x]
theorem Vz{l:List cL}{k:Nat}(a:k<l.length)(x:cL):Kv (l.take (k+1)) x=Cx x (Kv (l.take k) x) l[k]:=by
 unfold Kv;rw[ac a,bD];rfl
theorem RJ(x:cL)(a:List cL×Bool)(y:cL):(Cx x a y).1.length+a.2.toNat=a.1.length+1+(Cx x a y).2.toNat:=by
 obtain⟨o,d⟩:=a;unfold Cx;cases d<;>cases ES x y<;>simp
theorem LY(x:cL):∀(l:List cL) (a:List cL×Bool),(l.foldl (Cx x) a).1.length+a.2.toNat=a.1.length+l.length+(l.foldl (Cx x) a).2.toNat
 |[],a=>by simp only[List.foldl_nil,aH,eD]
 |y::l,a=>by
  have h:=LY x l (Cx x a y);have b:=RJ x a y;simp only[aR,ak];omega
theorem KP(l:List cL)(x:cL):(Kv l x).1.length=l.length+(Kv l x).2.toNat:=by
 have h:=LY x l ([],false);simp only[aH,eu]at h;unfold Kv;omega
theorem Ls(l:List cL)(x:cL):(GK l x).length=l.length+1:=by
 have h:=KP l x;unfold GK;cases hd:(Kv l x).2<;>simp[hd]at h⊢<;>omega
set_option maxRecDepth 100000
theorem Xw(lv:Value)(l:List cL)(x:cL)(base:Nat)(w:World)(Y:w.ownsRow base 9 1 lv l.length (l.flatMap Ae))(HB:l.length<=1000000)(U:0<x.size/\x.size<=1000000)(u:∀y∈l,0<y.size/\y.size<=1000000):
  Calls prog 171 #[lv, .string x] w λe w'=>∃v,e= .returned v/\w'.ownsRow w.heap.size 9 1 v (GK l x).length ((GK l x).flatMap Ae)/\Ac [] w w':=by
 obtain⟨F,D,B,E,G⟩:=bj Tryz.info9;obtain⟨ad,FF,rfl⟩:=Ak Y;have X:Hid (w.ownsRow base 9 1 (.slice ad l.length FF) l.length (l.flatMap Ae)/\(∀y∈l,0<y.size/\y.size<=1000000)):=⟨Y,u⟩;clear Y u;have Go:∀(x:Bool) (w:World),(Op.unary .not (.bool x)).run prog w= .ok (.bool (!x)) w:=λ_ _=>rfl
 go_enter func171,ntmps171;go_wp2
 go_loopw [5,6,7] (λo d i wr=>∃(k:Nat) (a:List cL) (j:Bool),i= .int .i64 k/\k<=l.length/\d= .bool j/\Hid (Kv (l.take k) x=(a,j))/\a.length<=k+1/\wr.ownsRow w.heap.size 9 1 o a.length (a.flatMap Ae)/\Ac [] w wr) (λ_ _ i _=>l.length-(intOf i).toNat)
 case atStart=>exact⟨0,[],false,rfl,aG _,rfl,by show _=_;simp[Kv],by simp,ax _ _ _ _,Ac.refl _ _⟩
 case round=>
  obtain⟨k,a,j,rfl,hk,rfl,P,FP,f,m⟩:=hrel;obtain⟨J,H,rfl⟩:=Ak f;have R:=m.size;by_cases z:k<l.length
  ·obtain⟨g,EY,L,hc,Q⟩:=AE (Ad X.out.1 m (by simp)) (λc _=>rfl) k z;simp only[Z6]at L;obtain⟨rfl,_,rfl⟩:=L;have A:=Q k z 0 (by omega);simp[Ae]at A;clear Q;have T:=X.out.2 l[k] (Z7 z);(have S:Hid (Kv (l.take (k+1)) x=Cx x (a,j) l[k]):=by show _=_;rw[Vz z,P.out]);cases b:(!j&&ES x l[k])with
   |true=>
    (have FA:j=false:=by cases j<;>simp_all);subst FA;(have u:ES x l[k]=true:=by simpa using b);have FT:a.length<=k:=by
     have h:=KP (l.take k) x;rw[P.out]at h;simp only[aK,eu]at h;omega
    (have V:Hid (Kv (l.take (k+1)) x=(a++[x]++[l[k]],true)):=by show _=_;rw[S.out];simp[Cx,u]);have CL:∀{n:World} {o:Obj},(wr.alloc o).grownBy n (Value.slice J a.length H).ownBlock->n.cell? ⟨g,k,none⟩=some (.string l[k]):=by
     intro n o FO;have EX:=(m.alloc o).grown FO (λq b=>Or.inr (f.lt q b).1);obtain⟨g',EY,L,_,Q⟩:=AE (Ad X.out.1 EX (by simp)) (λc _=>rfl) k z;simp only[Z6,ai,aW]at L;obtain⟨⟨rfl,_,_⟩,_,rfl⟩:=L;have A:=Q k z 0 (by omega);simpa[Ae] using A
    clear S b;(go_wp2_with fail);refine(KG x l[k] _ U.1 T.1 U.2 T.2).mono ?_;rintro e Z ⟨rfl,M⟩;rw[u,M];clear M Z;go_wp2_with (first|(at_builtin;refine ay _ rfl (.tmp 24) (.tmp 26) _ rfl w.heap.size 9 F _ 1 16 underlying41 D B E G rfl (by omega) (.slice J a.length H) a.length (a.flatMap Ae) rfl (f.alloc _) ⟨wr.heap.size,0,none⟩ 1 1 [.string x] rfl rfl (aF (cs:=#[.string x]) (t:=9) (fr:=(0,0)) (aS wr _)) (by simp[Value.oneCell']) (by omega) (by unfold maxLen;omega) (by omega) (by simp;omega) (wr.heap.size+1) (by simp) ?_;intro g1 BT n I r W AB;have d1:=CL r;have HC:wr.heap.size<=n.heap.size:=by have:=r.size;simp at this;omega)|(at_builtin;refine ay _ rfl (.tmp 28) (.tmp 33) _ rfl w.heap.size 9 F _ 1 16 underlying41 D B E G rfl (by omega) (.slice (some ⟨g1,0,none⟩) (a.length+1) BT) (a.length+1) (a.flatMap Ae++[.string x]) rfl (I.alloc _) ⟨n.heap.size,0,none⟩ 1 1 [.string l[k]] rfl rfl (aF (cs:=#[.string l[k]]) (t:=9) (fr:=(0,0)) (aS n _)) (by simp[Value.oneCell']) (by omega) (by unfold maxLen;omega) (by omega) (by simp;omega) (n.heap.size+1) (by simp) ?_;intro g2 B9 O N p K C))
    have s:Ac [] w O:=(((m.alloc _).grown r (λq b=>Or.inr (f.lt q b).1)).alloc _).grown p (λq b=>Or.inr (I.lt q b).1);clear CL r W AB p K C I d1 A f m R;go_wp2
    go_roundw
    case rel=>
     refine⟨k+1,a++[x]++[l[k]],true,by go_num,by omega,rfl,V,by simp;omega,?_,s⟩;simpa[Ae] using N
    case measure=>simp[intOf];omega
   |false=>
    (have V:Hid (Kv (l.take (k+1)) x=(a++[l[k]],j)):=by show _=_;rw[S.out];simp[Cx,b]);clear S;have Bx:a.length<=k+j.toNat:=by
     have h:=KP (l.take k) x;rw[P.out]at h;simp only[aK]at h;omega
    cases j with
    |true=>
     clear b;go_wp2_with (at_builtin;refine ay _ rfl (.tmp 28) (.tmp 33) _ rfl w.heap.size 9 F _ 1 16 underlying41 D B E G rfl (by omega) (.slice J a.length H) a.length (a.flatMap Ae) rfl (f.alloc _) ⟨wr.heap.size,0,none⟩ 1 1 [.string l[k]] rfl rfl (aF (cs:=#[.string l[k]]) (t:=9) (fr:=(0,0)) (aS wr _)) (by simp[Value.oneCell']) (by omega) (by unfold maxLen;omega) (by omega) (by simp;omega) (wr.heap.size+1) (by simp) ?_;intro g2 B9 O N p K C)
     have s:Ac [] w O:=(m.alloc _).grown p (λq b=>Or.inr (f.lt q b).1);clear p K C A f m R;go_wp2
     go_roundw
     case rel=>
      refine⟨k+1,a++[l[k]],true,by go_num,by omega,rfl,V,by simp;omega,?_,s⟩;simpa[Ae] using N
     case measure=>simp[intOf];omega
    |false=>
     (have u:ES x l[k]=false:=by simpa using b);clear b;(go_wp2_with fail);refine(KG x l[k] _ U.1 T.1 U.2 T.2).mono ?_;rintro e Z ⟨rfl,M⟩;rw[u,M];clear M Z;go_wp2_with (at_builtin;refine ay _ rfl (.tmp 28) (.tmp 33) _ rfl w.heap.size 9 F _ 1 16 underlying41 D B E G rfl (by omega) (.slice J a.length H) a.length (a.flatMap Ae) rfl (f.alloc _) ⟨wr.heap.size,0,none⟩ 1 1 [.string l[k]] rfl rfl (aF (cs:=#[.string l[k]]) (t:=9) (fr:=(0,0)) (aS wr _)) (by simp[Value.oneCell']) (by omega) (by unfold maxLen;omega) (by omega) (by simp;omega) (wr.heap.size+1) (by simp) ?_;intro g2 B9 O N p K C)
     have s:Ac [] w O:=(m.alloc _).grown p (λq b=>Or.inr (f.lt q b).1);clear p K C A f m R;go_wp2
     go_roundw
     case rel=>
      refine⟨k+1,a++[l[k]],false,by go_num,by omega,rfl,V,by simp;omega,?_,s⟩;simpa[Ae] using N
     case measure=>simp[intOf];omega
  ·(have HE:Hid (Kv l x=(a,j)):=by have h:=P.out;rwa [Z9 (by omega)]at h);have Bx:a.length<=l.length+j.toNat:=by
    have h:=KP l x;rw[HE.out]at h;simp only at h;omega
   cases j with
   |true=>
    (have HW:Hid (GK l x=a):=by show _=_;unfold GK;rw[HE.out];rfl);go_wp2;go_ret;rw[HW.out];exact⟨_,rfl,f,m⟩
   |false=>
    (have HW:Hid (GK l x=a++[x]):=by show _=_;unfold GK;rw[HE.out];rfl);(have Ha:a.length<=l.length:=by simpa using Bx);go_wp2_with (at_builtin;refine ay _ rfl (.tmp 37) (.tmp 39) _ rfl w.heap.size 9 F _ 1 16 underlying41 D B E G rfl (by omega) (.slice J a.length H) a.length (a.flatMap Ae) rfl (f.alloc _) ⟨wr.heap.size,0,none⟩ 1 1 [.string x] rfl rfl (aF (cs:=#[.string x]) (t:=9) (fr:=(0,0)) (aS wr _)) (by simp[Value.oneCell']) (by omega) (by unfold maxLen;omega) (by omega) (by simp;omega) (wr.heap.size+1) (by simp) ?_;intro g1 BT n I r W AB)
    have s:Ac [] w n:=(m.alloc _).grown r (λq b=>Or.inr (f.lt q b).1);clear r W AB f m R;go_wp2;go_ret;rw[HW.out];refine⟨_,rfl,?_,s⟩;simpa[Ae] using I
