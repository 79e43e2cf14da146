import Derived.Test.YtoihbhenbmffcaaGreatDoorYAL
import Derived.Test.YtoihbhenbmffcaaGreatDoorYAB
set_option linter.all false
set_option maxHeartbeats 0
namespace Go.Proofs.YtoihbhenbmffcaaGreatDoor
open Go.RowKit Go.Proofs.Tryz
theorem Tryz.info95:(Tryz.prog.info? 95).map (λi=>(i.zero,i.size,i.bytes))=some (some (.agg #[.int .u8 0,.string ⟨#[]⟩,.slice none 0 0,.int .i64 0,.int .u8 0,.string ⟨#[]⟩,.int .u8 0,.string ⟨#[]⟩,.int .i64 0]),9,112):=by kernel_rfl
abbrev AY:=Bg×Value
def C6(l:List AY):List Value:=l.flatMap λp=>BQ p.1 p.2
def BJ(w:World)(base:Nat)(p:AY):Prop:=w.ownsRow base 93 2 p.2 p.1.A.args.length (p.1.A.args.flatMap AM)
theorem BJ.kept{M:List Nat}{w w':World}{base:Nat}{p:AY}(h:BJ w base p)(k:Ac M w w')(a:∀i,i∈M->i<base):BJ w' base p:=Ad h k a
theorem BJ.grown{w w':World}{base:Nat}{p:AY}{a:Value}(h:BJ w base p)(k:w.grownBy w' a.ownBlock)(b:BP p.2 a):BJ w' base p:=
 dB (v:=p.2) h k (by
  cases hv:p.2.ownBlock with
  |none=>exact Or.inl rfl
  |some k=>exact Or.inr (λe=>b k hv e.symm))
theorem BJ.alloc{w:World}{base:Nat}{p:AY}(h:BJ w base p)(o:Obj):BJ (w.alloc o) base p:=bQ h o
set_option maxRecDepth 100000
theorem Tr(b:Nat)(s:cR)(at_:Nat)(w:World)(hs:s.size<=1000000)(HN:at_<=s.size)(hB:AE w b (BO s at_ false) 73):
  Calls prog 81 #[.pointer (some ⟨b,0,none⟩)] w λe Q=>∃(bv:Value) (R:List AY),e=.returned bv/\R.map Prod.fst=(Be s at_).1/\
   Q.ownsRow w.heap.size 95 9 bv R.length (C6 R)/\(∀p∈R,BJ Q w.heap.size p)/\AE Q b (BO s (Be s at_).2.1 (Be s at_).2.2) 73/\Ac [b] w Q:=by
 obtain⟨i0,HM,Ha,HP,HH⟩:=cU Tryz.info95;have HW:=hB.lt;obtain⟨L,u,n,hL⟩:∃L u n,Be s at_=(L,u,n):=⟨_,_,_,rfl⟩;rw[hL];have HL:Hid (Be s at_=(L,u,n)):=hL;clear hL;go_enter func81,ntmps81;go_wp2_with fail
 go_loopg [3,4] (2*(s.size-at_)+1) (λk l HG wr=>∃(q i:Bool) (a:Nat) (c:List AY),HG=.bool q/\a<=s.size/\c.length<=a+1/\((q&& !i)=true->c.length<=a)/\
  k=2*(s.size-a)+(if(q&& !i)=true then 1 else 0)/\Hid (DP s q i a (c.map Prod.fst) (L,u,n))/\AE wr b (BO s a i) 73/\
  wr.ownsRow w.heap.size 95 9 l c.length (C6 c)/\Hid (∀p∈c,BJ wr w.heap.size p/\BP p.2 l)/\Ac [b] w wr)
 case atStart=>
  refine⟨true,false,at_,[],rfl,HN,by simp,by simp,by simp,?_,hB,ck _ _ _ _,λp f=>by simp at f,Ac.refl _ _⟩;show DP _ _ _ _ _ _;unfold DP;simp[HL.out]
 case round=>
  obtain⟨q,i,a,c,rfl,ha,Z,P,z,y,x,j,T,C⟩:=hrel;have I:Hid (gk=2*(s.size-a)+(if(q&& !i)=true then 1 else 0)):=z;clear z;obtain⟨ad,cp,rfl⟩:=Co j;cases q with
  |false=>
   have D:=y.out.done rfl;have HD:Hid (c.map Prod.fst=L/\a=u/\i=n):=D;clear Z P I y D;go_wp2;go_ret;obtain⟨Y,V,X⟩:=HD.out;subst V X;exact⟨_,c,rfl,Y,j,λp f=>(T.out p f).1,x,C⟩
  |true=>
   cases i with
   |true=>
    have D:=y.out.done rfl;have HD:Hid (c.map Prod.fst=L/\a=u/\true=n):=D;have Ax:=x.cell 2;simp[BO]at Ax;clear Z P I y D;go_wp2;go_ret;obtain⟨Y,V,X⟩:=HD.out;subst V X;exact⟨_,c,rfl,Y,j,λp f=>(T.out p f).1,x,C⟩
   |false=>
    have Ax:=x.cell 2;simp[BO]at Ax;have HZ:=x.lt;have HC:c.length<=a:=P rfl;clear Z P;obtain⟨t,h,d,H⟩:∃t h d,CR s a=(t,h,d):=⟨_,_,_,rfl⟩;(have HU:h<=s.size:=by have:=J4 s a ha;rw[H]at this;exact this);have HS:=y.out.step H ha (by simpa using HC);obtain⟨m,hm⟩:∃m,(!d&&DW s (AQ s h d) 44)=m:=⟨_,rfl⟩;obtain⟨g,CC⟩:∃g,B3 s h d 44=g:=⟨_,rfl⟩;rw[hm,CC]at HS;obtain⟨S,O,J,q4,M⟩:=HS;have B:Hid (CR s a=(t,h,d)/\(!d&&DW s (AQ s h d) 44)=m/\B3 s h d 44=g/\g<=s.size/\(c.map Prod.fst++[t]).length<=g+1/\((m&& !d)=true->(c.map Prod.fst++[t]).length<=g)/\2*(s.size-g)+(if(m&& !d)=true then 1 else 0)<gk/\DP s m d g (c.map Prod.fst++[t]) (L,u,n)):=
     ⟨H,hm,CC,S,O,J,by have:=I.out;simp at this;omega,M⟩
    clear H hm CC S O J q4 M I y;(go_wp2_with fail);refine(ZF b s a _ hs ha x).mono ?_;rintro e N ⟨av,rfl,r,W,G⟩;rw[B.out.1]at W r⊢;obtain⟨v,o,rfl⟩:=Co r;have FP:=Ad j G (by simp;omega);have HB:=G.size;have FW:=C.size;simp only[BQ];simp only at r;go_wp2_with (at_builtin;refine cd _ rfl _ _ _ rfl w.heap.size 95 i0 _ 9 112 underlying80 HM Ha HP HH rfl (by omega) (.slice ad c.length cp) c.length (C6 c) rfl (FP.alloc _) ⟨N.heap.size,0,none⟩ 1 1 (BQ t (.slice v t.A.args.length o)) rfl rfl (cj (cs:=(BQ t (.slice v t.A.args.length o)).toArray) (t:=95) (fr:=(0,0)) (cA N _)) (by simp[Value.oneCell',BQ]) (by omega) (by unfold maxLen;omega) (by omega) (by simp;omega) (N.heap.size+1) (by simp) ?_;intro gg FL w5 BA E BT HY)
    have HX:=(BA.lt gg rfl).1;have FO:=(W.alloc _).grown E (by have:=A0 j b (by omega);simpa using this);have CL:=((C.trans G).alloc _).grown E (λk z=>Or.inr ((j.lt k z).1));have AT:Hid (∀p∈c++[(t,(.slice v t.A.args.length o:Value))],BJ w5 w.heap.size p/\BP p.2 (.slice (some ⟨gg,0,none⟩) (c.length+1) FL)):=by
     intro p f;rcases bY.1 f with f|f
     .obtain⟨h1,F⟩:=T.out p f;have U:=h1.kept G (by simp;omega);exact⟨(U.alloc _).grown E F,BP.gO F U BT (by omega)⟩
     .simp only[bO]at f;subst f;have F:BP (.slice v t.A.args.length o) (.slice ad c.length cp):=by
       intro k z he;have:=(r.lt k z).1;have:=(j.lt k he).2;omega
      have U:BJ N w.heap.size (t,.slice v t.A.args.length o):=Ak r (by omega);exact⟨(U.alloc _).grown E F,BP.gO F r BT (by omega)⟩
    clear T r W G FP E BT j x C HB FW;(go_wp2_with fail);refine(Lp b s h d 44 44 _ rfl hs HU FO).mono ?_;rintro e w6 ⟨rfl,FA,K⟩;have Go:=Ad BA K (by simp;omega);have HF:=CL.trans K;have HJ:Hid (∀p∈c++[(t,(.slice v t.A.args.length o:Value))],BJ w6 w.heap.size p/\BP p.2 (.slice (some ⟨gg,0,none⟩) (c.length+1) FL)):=
     λp f=>⟨(AT.out p f).1.kept K (by simp;omega),(AT.out p f).2⟩
    rw[B.out.2.2.1]at FA;rw[B.out.2.1];clear FO CL K BA AT;go_wp2_with fail
    go_roundg (2*(s.size-g)+(if(m&& !d)=true then 1 else 0))
    case measure=>exact B.out.2.2.2.2.2.2.1
    case rel=>
     obtain⟨_,_,_,S,O,J,_,M⟩:=B.out;refine⟨m,d,g,c++[(t,.slice v t.A.args.length o)],rfl,S,by simpa using O,by simpa using J,rfl,?_,FA,?_,HJ,HF⟩
     .show DP _ _ _ _ _ _;simpa using M
     .simpa[C6] using Go
structure Cf where
 head:C2
 body:List Bg
 at_:Nat
def EN(c:Cf)(hv bv:Value):List Value:=[.string c.head.name,hv,.int .i64 c.head.at_,bv,.int .i64 c.at_]
def DN(s:cR)(a1:Nat)(b1:Bool):List Bg×Nat×Bool:=
 if !b1&&DW s (AQ s a1 b1) 58 then(if DW s (B3 s a1 b1 58) 45 then Be s (B3 s a1 b1 58+1)else([],B3 s a1 b1 58,true))else([],B3 s a1 b1 58,b1)
def A5(s:cR)(at_:Nat):Cf×Nat×Bool:=
 let A:=Bj s (Af s at_) false
 let B:=DN s A.2.1 A.2.2
 (⟨A.1,B.1,Af s at_⟩,BG s B.2.1 B.2.2 46)
theorem Vd(b:Nat)(s:cR)(at_ j:Nat)(w:World)(A:C2)(n g a3:Nat)(f b3:Bool)(L:List Bg)(a4:Nat)(b4:Bool)(U:s.size<=1000000)(HZ:at_<=s.size)
  (k:Hid (Af s at_=j/\Bj s j false=(A,n,f)/\B3 s n f 58=g/\DN s n f=(L,a3,b3)/\BG s a3 b3 46=(a4,b4))) (hB:AE w b (BO s at_ false) 73):
  Calls prog 44 #[.pointer (some ⟨b,0,none⟩)] w λe w'=>∃(hv bv:Value) (a:List AY),e=.returned (.agg (EN ⟨A,L,j⟩ hv bv).toArray)/\w'.ownsRow w.heap.size 93 2 hv A.args.length (A.args.flatMap AM)/\
   a.map Prod.fst=L/\w'.ownsRow w.heap.size 95 9 bv a.length (C6 a)/\(∀p∈a,BJ w' w.heap.size p)/\AE w' b (BO s a4 b4) 73/\Ac [b] w w':=by
 have LM:=hB.lt;have H0:j<=s.size:=by have:=Bk s at_ HZ;have:=k.out.1;omega
 have HH:n<=s.size:=by have:=Hy s j false H0;rw[k.out.2.1]at this;exact this
 have HD:g<=s.size:=by have:=Dh s n f 58 HH;rw[k.out.2.2.1]at this;exact this
 go_enter func44,ntmps44;go_wp2_with fail
 refine(CZ b s at_ false _ U HZ (hB.alloc _)).mono ?_;rintro e w1 ⟨rfl,P,hK⟩;rw[show AQ s at_ false=j from k.out.1]at P
 have hn:=(AE.new w _ _).kept hK (by simp;omega);have HL:=((Ac.refl [b] w).alloc _).trans hK;clear hB hK;have K9:=P.lt;have Ix:=hn.lt;have u:=P.cell 1;simp[BO]at u;go_wp2_with fail
 refine(OQ b s j false _ U H0 (P.alloc _)).mono ?_;rintro e w2 ⟨hv,rfl,o,FP,AB⟩;rw[k.out.2.1]at FP o⊢;have B:=(AE.new w1 _ _).kept AB (by simp;omega);have H6:=(hn.alloc _).kept AB (by simp;omega);have HT:=(HL.alloc _).trans AB;have HQ:=AB.size;simp only[cD]at o HQ;obtain⟨N,hN⟩:∃N,w1.heap.size=N:=⟨_,rfl⟩;rw[hN]at B o HQ⊢;have LE:b<N:=by omega
 have MN:w.heap.size<N:=by omega
 clear HL P hn K9 Ix u AB hN;obtain⟨O,J,rfl⟩:=Co o
 try simp only at o
 have e0:=B.cell 0;have e1:=B.cell 1;have e2:=B.cell 2;have HS:=B.frozen;simp at e0 e1 e2;simp only[B6];go_wp2_with fail
 have HK:=((FP.dT ⟨N,0,none⟩ (by simp;omega) (.string A.name)).dT ⟨N,1,none⟩ (by simp;omega) (.slice O A.args.length J)).dT ⟨N,2,none⟩ (by simp;omega) (.int .i64 A.at_);have FA:=((B.set 0 (.string A.name)).set 1 (.slice O A.args.length J)).set 2 (.int .i64 A.at_);have H7:=((H6.dT ⟨N,0,none⟩ (by simp;omega) (.string A.name)).dT ⟨N,1,none⟩ (by simp;omega) (.slice O A.args.length J)).dT ⟨N,2,none⟩ (by simp;omega) (.int .i64 A.at_);have HO:=((HT.setCell (p:=⟨N,0,none⟩) (by simp;omega) (.string A.name)).setCell (p:=⟨N,1,none⟩) (by simp;omega) (.slice O A.args.length J)).setCell (p:=⟨N,2,none⟩) (by simp;omega) (.int .i64 A.at_);have H8:=Ag (Ag (Ag o (p:=⟨N,0,none⟩) (by simpa using A0 o N (by omega)) (.string A.name)) (p:=⟨N,1,none⟩) (by simpa using A0 o N (by omega)) (.slice O A.args.length J)) (p:=⟨N,2,none⟩) (by simpa using A0 o N (by omega)) (.int .i64 A.at_);simp only[bI,bJ]at FA;clear FP B H6 HT o e0 e1 e2 HS;refine(Lp b s n f 58 58 _ rfl U HH HK).mono ?_;rintro e C ⟨rfl,d,X⟩;rw[k.out.2.2.1]at d;have t:=FA.kept X (by simp;omega);have r:=H7.kept X (by simp;omega);have v:=HO.trans X;have m:=Ad H8 X (by simp;omega);clear HK FA H7 HO H8 X;have LS:=t.lt;have MB:=d.lt;have LC:=r.lt;have hQ:(!f&&DW s (AQ s n f) 58)=false\/((!f&&DW s (AQ s n f) 58)=true/\¬g<s.size)\/((!f&&DW s (AQ s n f) 58)=true/\g<s.size/\DW s g 45=false)\/((!f&&DW s (AQ s n f) 58)=true/\DW s g 45=true):=by
  cases(!f&&DW s (AQ s n f) 58)<;>cases DW s g 45<;>simp
  omega
 rcases hQ with i|⟨i,AH⟩|⟨i,AH,q⟩|⟨i,q⟩
 case' inl=>
  rw[i];have c:=k.out.2.2.2.1;unfold DN at c;rw[i,k.out.2.2.1]at c;simp only[bN,if_false,cP]at c;obtain⟨z,r2,W⟩:=c;subst r2 W;have BT:=HD;obtain⟨a,h⟩:∃a:List AY,Hid (a.map Prod.fst=L)/\a=[]:=⟨[],by show _=_;rw[<-z];rfl,rfl⟩;have M:=d;have K:=t;have V:=r;have T:=v;have S:=m;have R:C.ownsRow (N+1) 95 9 (.slice none 0 0) a.length (C6 a):=by rw[h.2];exact ck _ _ _ _
  have Y:Hid (∀p∈a,BJ C (N+1) p):=by rw[h.2];intro p l;simp at l
  replace h:=h.1
  clear d t r v m z i
 case' inr.inl=>
  have Z:f=false:=by cases f<;>simp_all
  subst Z;rw[i];have c:=k.out.2.2.2.1;unfold DN at c;rw[i,k.out.2.2.1]at c;simp only[if_true]at c;have G:=d.cell 0;have u:=d.cell 1;have F:=d.cell 2;have FF:=d.frozen;simp[BO]at G u F;have q:DW s g 45=false:=Zg AH 45;rw[q]at c;simp only[bN,if_false,cP]at c;obtain⟨z,r2,W⟩:=c;subst r2 W;have BT:=HD;obtain⟨a,h⟩:∃a:List AY,Hid (a.map Prod.fst=L)/\a=[]:=⟨[],by show _=_;rw[<-z];rfl,rfl⟩;clear z i;have LL:decide ((g:Int)<(s.size:Int))=false:=by simp;omega
  have MY:decide (g<s.size)=false:=by simp;omega
  go_wp2_with fail
  go_quiet (fail)
  have M:=(d.drewN nq).set 2 (.bool true);have K:=(t.drewN nq).dT ⟨b,2,none⟩ (by simp;omega) (.bool true);have V:=(r.drewN nq).dT ⟨b,2,none⟩ (by simp;omega) (.bool true);have T:=(v.drewN nq).setCell (p:=⟨b,2,none⟩) (by simp) (.bool true);have S:=Ag (CQ m nq) (p:=⟨b,2,none⟩) (by simpa using A0 m b (by omega)) (.bool true);have R:((C.drewN nq).setCell ⟨b,2,none⟩ (.bool true)).ownsRow (N+1) 95 9 (.slice none 0 0) a.length (C6 a):=by rw[h.2];exact ck _ _ _ _
  have Y:Hid (∀p∈a,BJ ((C.drewN nq).setCell ⟨b,2,none⟩ (.bool true)) (N+1) p):=by rw[h.2];intro p l;simp at l
  replace h:=h.1
  clear d t r v m
 case' inr.inr.inl=>
  have Z:f=false:=by cases f<;>simp_all
  subst Z;rw[i];have c:=k.out.2.2.2.1;unfold DN at c;rw[i,k.out.2.2.1]at c;simp only[if_true]at c;have G:=d.cell 0;have u:=d.cell 1;have F:=d.cell 2;have FF:=d.frozen;simp[BO]at G u F;rw[q]at c;simp only[bN,if_false,cP]at c;obtain⟨z,r2,W⟩:=c;subst r2 W;have BT:=HD;obtain⟨a,h⟩:∃a:List AY,Hid (a.map Prod.fst=L)/\a=[]:=⟨[],by show _=_;rw[<-z];rfl,rfl⟩;clear z i;have IA:(g:Int)<(s.size:Int):=by omega
  have hq:((s[g].toNat:Int)==45)=false:=by rw[<-q];exact(Hk AH 45).symm
  go_wp2_with fail
  go_quiet (fail)
  have M:=(d.drewN nq).set 2 (.bool true);have K:=(t.drewN nq).dT ⟨b,2,none⟩ (by simp;omega) (.bool true);have V:=(r.drewN nq).dT ⟨b,2,none⟩ (by simp;omega) (.bool true);have T:=(v.drewN nq).setCell (p:=⟨b,2,none⟩) (by simp) (.bool true);have S:=Ag (CQ m nq) (p:=⟨b,2,none⟩) (by simpa using A0 m b (by omega)) (.bool true);have R:((C.drewN nq).setCell ⟨b,2,none⟩ (.bool true)).ownsRow (N+1) 95 9 (.slice none 0 0) a.length (C6 a):=by rw[h.2];exact ck _ _ _ _
  have Y:Hid (∀p∈a,BJ ((C.drewN nq).setCell ⟨b,2,none⟩ (.bool true)) (N+1) p):=by rw[h.2];intro p l;simp at l
  replace h:=h.1
  clear d t r v m
 case' inr.inr.inr=>
  have Z:f=false:=by cases f<;>simp_all
  subst Z;rw[i];have c:=k.out.2.2.2.1;unfold DN at c;rw[i,k.out.2.2.1]at c;simp only[if_true]at c;have G:=d.cell 0;have u:=d.cell 1;have F:=d.cell 2;have FF:=d.frozen;simp[BO]at G u F;rw[q]at c;simp only[if_true]at c;have AH:=E5 q;have IA:(g:Int)<(s.size:Int):=by omega
  have hq:((s[g].toNat:Int)==45)=true:=by rw[<-q];exact(Hk AH 45).symm
  have BT:a3<=s.size:=by have:=Pd s (g+1) (by omega);rw[c]at this;exact this
  have HR:Hid (Be s (g+1)=(L,a3,b3)):=c;clear c i q;go_wp2_with fail
  go_quiet (fail)
  clear hq;go_wp2_with fail
  refine(Tr b s (g+1) _ U (by omega) ((d.drewN nq).set 1 _)).mono ?_;rintro e w4 ⟨bv,a,rfl,FL,H5,H2,HG,E⟩;rw[HR.out]at HG FL;have h:Hid (a.map Prod.fst=L):=FL;have HB:=((t.drewN nq).dT ⟨b,1,none⟩ (by simp;omega) _).kept E (by simp;omega);have HX:=((r.drewN nq).dT ⟨b,1,none⟩ (by simp;omega) _).kept E (by simp;omega);have H3:=((v.drewN nq).setCell (p:=⟨b,1,none⟩) (by simp) _).trans E;have Ha:=Ad (Ag (CQ m nq) (p:=⟨b,1,none⟩) (by simpa using A0 m b (by omega)) _) E (by simp;omega);have Bx:w4.ownsRow (N+1) 95 9 bv a.length (C6 a):=Ak H5 (by simp;omega);have EY:Hid (∀p∈a,BJ w4 (N+1) p):=λp l=>Ak (H2 p l) (by simp;omega)
  have FC:=E.size;simp only[World.size_setCell]at FC;have LB:C.heap.size<=w4.heap.size:=FC;clear d t r v m E H5 H2 FL G u F FF FC;obtain⟨x,y,rfl⟩:=Co Bx;have e3:=HB.cell 3;have HS:=HB.frozen 3;simp at e3;have M:=HG.dT ⟨N,3,none⟩ (by simp;omega) (.slice x a.length y);have K:=HB.set 3 (.slice x a.length y);have V:=HX.dT ⟨N,3,none⟩ (by simp;omega) (.slice x a.length y);have T:=H3.setCell (p:=⟨N,3,none⟩) (by simp;omega) (.slice x a.length y);have S:=Ag Ha (p:=⟨N,3,none⟩) (by simpa using A0 Ha N (by omega)) (.slice x a.length y);have R:=Ag Bx (p:=⟨N,3,none⟩) (by simpa using A0 Bx N (by omega)) (.slice x a.length y);have Y:Hid (∀p∈a,BJ (w4.setCell ⟨N,3,none⟩ (.slice x a.length y)) (N+1) p):=λp l=>Ag (EY.out p l) (by simpa using A0 (EY.out p l) N (by omega)) _
  clear HG HX H3 Ha Bx EY
 all_goals
  have L0:=M.lt;have M0:=K.lt;go_wp2_with fail
  refine(LI b s _ _ 46 46 _ rfl U BT M).mono ?_;rintro e w6 ⟨rfl,HU,D⟩;have B9:=k.out.2.2.2.2;simp only[BG,cP]at B9;rw[B9.1,B9.2]at HU;have KD:=K.kept D (by simp;omega);have Go:=V.kept D (by simp;omega);have KK:=T.trans D;have K2:=Ad S D (by simp;omega);have Jx:=Ad R D (by simp;omega);have K3:Hid (∀p∈a,BJ w6 (N+1) p):=λp l=>(Y.out p l).kept D (by simp;omega)
  clear M K V T S R D B9 Y;have H:=KD.cell;have I:=Go.cell;have Mo:=Go.frozen;have e0:=H 0;have e1:=H 1;have e2:=H 2;have e3:=H 3;have e4:=H 4;have f0:=I 0;have f1:=I 1;have f2:=I 2;have f3:=I 3;have f4:=I 4;simp at e0 e1 e2 e3 e4 f0 f1 f2 f3 f4;clear H I;go_wp2;have Q:∀{v0 v1 v2 v3 v4:Value},Ac [w.heap.size] w6 (((((w6.setCell ⟨w.heap.size,0,none⟩ v0).setCell ⟨w.heap.size,1,none⟩ v1).setCell ⟨w.heap.size,2,none⟩ v2).setCell ⟨w.heap.size,3,none⟩ v3).setCell ⟨w.heap.size,4,none⟩ v4):=by
   intro v0 v1 v2 v3 v4
   repeat (refine Ac.setCell ?_ (by simp) _)
   exact Ac.refl _ _
  refine cB (BL rfl rfl (((((Go.set 0 _).set 1 _).set 2 _).set 3 _).set 4 _) underlying82 rfl (by kernel_rfl)) rfl ⟨.slice O A.args.length J,by first|exact .slice x a.length y|exact .slice none 0 0,a,?_,?_,?_,?_,?_,?_,?_⟩
  .simp[EN]
  .exact Ak (Ad K2 Q (by simp;omega)) (by omega)
  .exact h.out
  .exact Ak (Ad Jx Q (by simp;omega)) (by omega)
  .exact λp l=>Ak ((K3.out p l).kept Q (by simp;omega)) (by omega)
  .exact HU.kept Q (by simp;omega)
  .exact KK.trans' Q (by simp)
theorem Yd(s:cR)(a:Nat)(c:Bool)(h:a<=s.size):(DN s a c).2.1<=s.size:=by
 have b:=Dh s a c 58 h;unfold DN;split
 .split
  .rename_i d;exact Pd _ _ (by have:=E5 d;omega)
  .exact b
 .exact b
theorem TD(s:cR)(a:Nat)(b:Bool):a<=(DN s a b).2.1:=by
 have c:=Fj s a b 58;unfold DN;split
 .split
  .have:=YD s (B3 s a b 58+1);omega
  .exact c
 .exact c
theorem NK(s:cR)(at_:Nat)(h:at_<=s.size):(A5 s at_).2.1<=s.size:=by
 unfold A5;simp only;exact Dh _ _ _ _ (Yd _ _ _ (Hy _ _ _ (Bk _ _ h)))
theorem Oc{s:cR}{at_:Nat}(h:(A5 s at_).2.2=false):at_<(A5 s at_).2.1:=by
 unfold A5 at h⊢;simp only at h⊢;have a:=Cv s at_;have b:=Jq s (Af s at_) false;have d:=TD s (Bj s (Af s at_) false).2.1 (Bj s (Af s at_) false).2.2;have c:=Qv h;omega
theorem T7(b:Nat)(s:cR)(at_:Nat)(w:World)(x:s.size<=1000000)(v:at_<=s.size)(z:AE w b (BO s at_ false) 73):
  Calls prog 44 #[.pointer (some ⟨b,0,none⟩)] w λe g=>∃(r t:Value) (k:List AY),e=.returned (.agg (EN (A5 s at_).1 r t).toArray)/\g.ownsRow w.heap.size 93 2 r (A5 s at_).1.head.args.length ((A5 s at_).1.head.args.flatMap AM)/\
   k.map Prod.fst=(A5 s at_).1.body/\g.ownsRow w.heap.size 95 9 t k.length (C6 k)/\(∀p∈k,BJ g w.heap.size p)/\AE g b (BO s (A5 s at_).2.1 (A5 s at_).2.2) 73/\Ac [b] w g:=by
 obtain⟨j,q⟩:∃j,Af s at_=j:=⟨_,rfl⟩;obtain⟨A,c,a,m⟩:∃A c a,Bj s j false=(A,c,a):=⟨_,_,_,rfl⟩;obtain⟨l,y⟩:∃l,B3 s c a 58=l:=⟨_,rfl⟩;obtain⟨L,f,d,n⟩:∃L f d,DN s c a=(L,f,d):=⟨_,_,_,rfl⟩;obtain⟨h,i,o⟩:∃h i,BG s f d 46=(h,i):=⟨_,_,rfl⟩;have e:A5 s at_=(⟨A,L,j⟩,h,i):=by unfold A5;simp only[q,m,n,o]
 rw[e];have u:Hid (Af s at_=j/\Bj s j false=(A,c,a)/\B3 s c a 58=l/\DN s c a=(L,f,d)/\BG s f d 46=(h,i)):=⟨q,m,y,n,o⟩;exact Vd b s at_ j w A c l f a d L h i x v u z
def Dz(l:List cR)(x:cR):Bool:=l.any λy=>y.toList==x.toList
theorem JP(l:List cR)(y x:cR):Dz (l++[y]) x=(Dz l x||(y.toList==x.toList)):=by simp[Dz,fW]
theorem XL{l:List cR}{k:Nat}(a:k<l.length)(x:cR):Dz (l.take (k+1)) x=(Dz (l.take k) x||(l[k].toList==x.toList)):=by
 rw[bM a,JP]
theorem Yf{l:List cR}{k:Nat}(a:k<l.length){x:cR}(h:(l[k].toList==x.toList)=true):Dz l x=true:=by
 unfold Dz;rw[dp];exact⟨l[k],bL a,h⟩
set_option maxRecDepth 512
theorem Dg(d:Value)(l:List cR)(x:cR)(base:Nat)(w:World)(b:w.ownsRow base 9 1 d l.length (l.flatMap Ae))(v:l.length<=1000000):
  Calls prog 50 #[d,.string x] w λe m=>e=.returned (.bool (Dz l x))/\m=w:=by
 obtain⟨y,s,rfl⟩:=Aj b;go_enter func50,ntmps50;go_wp2
 go_loop [5] (λi=>∃k:Nat,i=.int .i64 k/\k<=l.length/\Hid (Dz (l.take k) x=false)) (λi=>l.length-(intOf i).toNat)
 case atStart=>exact⟨0,rfl,b8 _,by show _=_;simp[Dz]⟩
 case round=>
  obtain⟨k,rfl,r,j⟩:=hrel;by_cases a:k<l.length
  .obtain⟨g,t,c,u,f⟩:=Av b (by simp[Ae]) k a;simp only[bK]at c;obtain⟨rfl,_,rfl⟩:=c;have n:=f k a 0 (by omega);simp[Ae]at n;clear f;have q:Hid ((l[k].toList==x.toList)=true->Dz l x=true):=Yf a;have o:Hid ((l[k].toList==x.toList)=false->Dz (l.take (k+1)) x=false):=by
    intro h;rw[XL a,j.out,h];rfl
   go_wp2
   .go_ret;rw[q.out (by assumption)];exact⟨rfl,rfl⟩
   .go_round
    case rel=>exact⟨k+1,by go_num,by omega,o.out (by assumption)⟩
    case measure=>simp[intOf];omega
  ·(have p:Hid (Dz l x=false):=by have:=j.out;rwa [bP (by omega)]at this);go_wp2;go_ret;rw[p.out];exact⟨rfl,rfl⟩
structure A7 where
 head:C2
 hv:Value
 bv:Value
 bl:List AY
 at_:Nat
def Cs(c:A7):List Value:=[.string c.head.name,c.hv,.int .i64 c.head.at_,c.bv,.int .i64 c.at_]
def AN(p:AY):List Value:=BQ p.1 p.2
theorem BH(c:A7):(Cs c).length=5:=rfl
theorem Bw(p:AY):(AN p).length=9:=rfl
theorem EG(t:AG):(AM t).length=2:=rfl
structure UC(w:World)(c:A7):Prop where
 args:w.ownsRow 0 93 2 c.hv c.head.args.length (c.head.args.flatMap AM)
 body:w.ownsRow 0 95 9 c.bv c.bl.length (c.bl.flatMap AN)
 lits:∀p∈c.bl,BJ w 0 p
structure Ci(w:World)(lv:Value)(cs:List A7):Prop where
 row:w.ownsRow 0 82 5 lv cs.length (cs.flatMap Cs)
 each:∀c∈cs,UC w c
theorem UC.kept{w w':World}{c:A7}(h:UC w c)(k:Ac [] w w'):UC w' c:=
 ⟨Ad h.args k (by simp),Ad h.body k (by simp),λp a=>Ad (h.lits p a) k (by simp)⟩
theorem Ci.kept{w w':World}{a:Value}{cs:List A7}(h:Ci w a cs)(k:Ac [] w w'):Ci w' a cs:=
 ⟨Ad h.row k (by simp),λc b=>(h.each c b).kept k⟩
def KT(p:AY):Bool:=p.1.kind==97||p.1.kind==33
def RR(bl:List AY)(x:cR):Option Nat:=bl.findSome? λp=>if KT p&&(p.1.A.name.toList==x.toList)then some p.1.A.args.length else none
def GA(c:A7)(x:cR):Option Nat:=if c.head.name.toList==x.toList then some c.head.args.length else RR c.bl x
def CT(cs:List A7)(x:cR):Int:=match cs.findSome? (GA · x)with|some n=>n|none=> -1
theorem Fp{α β:Type}(f:α->Option β)(l:List α)(k:Nat)(a:k<l.length)(b:(l.take k).findSome? f=none):(l.take (k+1)).findSome? f=f l[k]:=by
 rw[bM a,fO,b];simp
theorem Gi{α β:Type}(f:α->Option β)(l:List α)(k:Nat)(a:k<l.length)(c:(l.take k).findSome? f=none){b:β}(d:f l[k]=some b):l.findSome? f=some b:=by
 have h:=Fp f l k a c;rw[d]at h;have e:l=l.take (k+1)++l.drop (k+1):=(dl _ _).symm;rw[e,fO,h];rfl
theorem Dp(p:AY):(((p.1.kind.toNat:Int)==97)=true/\KT p=true)\/(((p.1.kind.toNat:Int)==97)=false/\((p.1.kind.toNat:Int)==33)=true/\KT p=true)\/
  (((p.1.kind.toNat:Int)==97)=false/\((p.1.kind.toNat:Int)==33)=false/\KT p=false):=by
 have b:((p.1.kind.toNat:Int)==97)=(p.1.kind==97):=B2 _ 97;have a:((p.1.kind.toNat:Int)==33)=(p.1.kind==33):=B2 _ 33;rw[b,a];unfold KT;cases(p.1.kind==97)<;>cases(p.1.kind==33)<;>simp
set_option maxRecDepth 100000
theorem JL(T:Nat)(lv:Value)(cs:List A7)(x:cR)(w:World)(Y:AE w T [lv] 76)(I:Ci w lv cs)(HG:cs.length<=1000000)(N:∀c∈cs,c.bl.length<=1000000):
  Calls prog 23 #[.pointer (some ⟨T,0,none⟩),.string x] w λe w'=>e=.returned (.int .i64 (CT cs x))/\Ac [] w w':=by
 obtain⟨ad,CC,rfl⟩:=Aj I.row;have F:Hid (Ci w (.slice ad cs.length CC) cs/\∀c∈cs,c.bl.length<=1000000):=⟨I,N⟩;clear I N;go_enter func23,ntmps23;go_wp2
 go_loopw [5] (λi wr=>∃k:Nat,i=.int .i64 k/\k<=cs.length/\Hid ((cs.take k).findSome? (GA · x)=none)/\Ac [] w wr) (λi _=>cs.length-(intOf i).toNat)
 case atStart=>exact⟨0,rfl,b8 _,by show _=_;simp,Ac.refl _ _⟩
 case round=>
  obtain⟨k,rfl,hk,v,o⟩:=hrel;have y:=(Y.kept o (by simp)).cell 0;simp at y;by_cases d:k<cs.length
  .have E:=F.out.1.kept o;obtain⟨g,Ha,X,hc,u⟩:=Av E.row (λc _=>BH c) k d;simp only[bK]at X;obtain⟨rfl,_,rfl⟩:=X;have O:=u k d 0 (by omega);have L:=u k d 1 (by omega);have s:=u k d 3 (by omega);simp[Cs]at O L s;have l:=E.each cs[k] (bL d);have HJ:=F.out.2 cs[k] (bL d);obtain⟨HI,Go,Z⟩:=Aj l.args;obtain⟨Bx,BT,B⟩:=Aj l.body;rw[Z]at L;rw[B]at s;have AT:Hid (UC wr cs[k]):=l;have V:Hid (cs[k].bv=.slice Bx cs[k].bl.length BT):=B;clear u E l Z B;cases hnm:(cs[k].head.name.toList==x.toList)with
   |true=>
    have J:Hid (CT cs x=(cs[k].head.args.length:Int)):=by
     show _=_;unfold CT;rw[Gi (GA · x) cs k d v.out (b:=cs[k].head.args.length) (by simp[GA,hnm])]
    go_wp2;go_ret;rw[J.out];exact⟨rfl,o⟩
   |false=>
    (have S:Hid (GA cs[k] x=RR cs[k].bl x):=by show _=_;simp[GA,hnm]);go_wp2;clear O L
    go_loopw [6] (λi Q=>∃m:Nat,i=.int .i64 m/\m<=cs[k].bl.length/\Hid ((cs[k].bl.take m).findSome? (λp=>if KT p&&(p.1.A.name.toList==x.toList)then some p.1.A.args.length else none)=none)/\Ac [] w Q) (λi _=>cs[k].bl.length-(intOf i).toNat)
    case atStart=>exact⟨0,rfl,b8 _,by show _=_;simp,o⟩
    case round=>
     rename_i Q _;obtain⟨m,rfl,hm,z,n⟩:=hrel;clear y s o AT;have y:=(Y.kept n (by simp)).cell 0;simp at y;have D:=F.out.1.kept n;obtain⟨g2,HH,W,_,R⟩:=Av D.row (λc _=>BH c) k d;simp only[bK,bR,cI]at W;obtain⟨⟨rfl,_,_⟩,_,rfl⟩:=W;have s:=R k d 3 (by omega);simp[Cs]at s;rw[V.out]at s;have l:=D.each cs[k] (bL d);clear R D;by_cases a:m<cs[k].bl.length
     .obtain⟨gb,HL,K,FP,j⟩:=Av l.body (λc _=>Bw c) m a;rw[V.out]at K;simp only[bK]at K;obtain⟨rfl,_,rfl⟩:=K;have U:=l.lits cs[k].bl[m] (bL a);obtain⟨HK,FW,P⟩:=Aj U;have d0:=j m a 0 (by omega);have d1:=j m a 1 (by omega);have M:=j m a 2 (by omega);have d3:=j m a 3 (by omega);have d4:=j m a 4 (by omega);have d5:=j m a 5 (by omega);have d6:=j m a 6 (by omega);have d7:=j m a 7 (by omega);have d8:=j m a 8 (by omega);simp[AN,BQ]at d0 d1 M d3 d4 d5 d6 d7 d8;rw[P]at M;clear j U P l;have r:Hid (KT cs[k].bl[m]=false\/(cs[k].bl[m].1.A.name.toList==x.toList)=false->(cs[k].bl.take (m+1)).findSome? (λp=>if KT p&&(p.1.A.name.toList==x.toList)then some p.1.A.args.length else none)=none):=by
       intro h;rw[Fp _ _ m a z.out];rcases h with h|h<;>simp[h]
      have q:Hid (KT cs[k].bl[m]=true->(cs[k].bl[m].1.A.name.toList==x.toList)=true->CT cs x=(cs[k].bl[m].1.A.args.length:Int)):=by
       intro h1 h2;have h3:=Gi (λp:AY=>if KT p&&(p.1.A.name.toList==x.toList)then some p.1.A.args.length else none) cs[k].bl m a z.out (b:=cs[k].bl[m].1.A.args.length) (by simp[h1,h2]);(have h4:GA cs[k] x=some cs[k].bl[m].1.A.args.length:=by rw[S.out];exact h3);unfold CT;rw[Gi (GA · x) cs k d v.out h4]
      cases hnm2:(cs[k].bl[m].1.A.name.toList==x.toList)with
      |true=>
       rcases Dp cs[k].bl[m] with⟨t,f⟩|⟨t,G,f⟩|⟨t,G,f⟩
       .have C:=Ab (q.out f hnm2);clear q r f;go_wp2;go_ret;rw[Aa C];exact⟨rfl,n.alloc _⟩
       .have C:=Ab (q.out f hnm2);clear q r f;go_wp2;go_ret;rw[Aa C];exact⟨rfl,n.alloc _⟩
       .have H:=Ab (r.out (Or.inl f));clear q r f;go_wp2
        go_roundw
        case rel=>exact⟨m+1,by go_num,by omega,Aa H,n.alloc _⟩
        case measure=>simp[intOf];omega
      |false=>
       have H:=Ab (r.out (Or.inr hnm2));rcases Dp cs[k].bl[m] with⟨t,f⟩|⟨t,G,f⟩|⟨t,G,f⟩;all_goals
        clear q r f;go_wp2
        go_roundw
        case rel=>exact⟨m+1,by go_num,by omega,Aa H,n.alloc _⟩
        case measure=>simp[intOf];omega
     .have HZ:Hid ((cs.take (k+1)).findSome? (GA · x)=none):=by
       show _=_;rw[Fp _ _ k d v.out];have h:=z.out;rw[bP (by omega)]at h;rw[S.out];exact h
      go_wp2
      go_roundw
      case rel=>exact⟨k+1,by go_num,by omega,HZ,n⟩
      case measure=>simp[intOf];omega
  .have J:Hid (CT cs x= -1):=by
    have h:=v.out;rw[bP (by omega)]at h;show _=_;unfold CT;rw[h]
   go_wp2;go_ret;rw[J.out];exact⟨rfl,o⟩
def Au(p:AY):List AG:=if KT p then p.1.A.args else[p.1.L,p.1.R]
theorem Qj(p:AY)(w:World)(c:BJ w 0 p):
  Calls prog 131 #[.agg (AN p).toArray] w λe k=>∃j,e=.returned j/\k.ownsRow 0 93 2 j (Au p).length ((Au p).flatMap AM)/\Ac [] w k:=by
 obtain⟨g,f,d⟩:=Aj c;simp only[AN,BQ,d];rcases Dp p with⟨i,b⟩|⟨i,l,b⟩|⟨i,l,b⟩
 .have a:Hid (Au p=p.1.A.args/\p.2=.slice g p.1.A.args.length f/\BJ w 0 p):=⟨by unfold Au;simp[b],d,c⟩;clear b d c;go_enter func131,ntmps131;go_wp2;go_ret;refine⟨_,rfl,?_,(Ac.refl _ _).alloc _⟩;rw[a.out.1];have h:w.ownsRow 0 93 2 _ _ _:=a.out.2.2;rw[a.out.2.1]at h;exact h.alloc _
 .have a:Hid (Au p=p.1.A.args/\p.2=.slice g p.1.A.args.length f/\BJ w 0 p):=⟨by unfold Au;simp[b],d,c⟩;clear b d c;go_enter func131,ntmps131;go_wp2;go_ret;refine⟨_,rfl,?_,(Ac.refl _ _).alloc _⟩;rw[a.out.1];have h:w.ownsRow 0 93 2 _ _ _:=a.out.2.2;rw[a.out.2.1]at h;exact h.alloc _
 .have a:Hid (Au p=[p.1.L,p.1.R]):=by show _=_;unfold Au;simp[b]
  clear b d c;go_enter func131,ntmps131;go_wp2;go_ret;refine⟨_,rfl,?_,((Ac.refl _ _).alloc _).alloc _⟩;rw[a.out];refine⟨rfl,Or.inr ⟨_,2,#[.int .u8 p.1.L.v.toNat,.string p.1.L.s,.int .u8 p.1.R.v.toNat,.string p.1.R.s],rfl,b8 _,by have h:=cA (w.alloc (.cells #[.int .u8 p.1.kind.toNat,.string p.1.A.name,.slice g p.1.A.args.length f,.int .i64 p.1.A.at_,.int .u8 p.1.L.v.toNat,.string p.1.L.s,.int .u8 p.1.R.v.toNat,.string p.1.R.s,.int .i64 p.1.at_] 95)) (.cells #[.int .u8 p.1.L.v.toNat,.string p.1.L.s,.int .u8 p.1.R.v.toNat,.string p.1.R.s] 93);rw[cD]at h;exact h,by simp,by unfold maxLen;omega,rfl,?_⟩⟩;simp[AM]
def PG(l:List AG)(v:UInt8):Bool:=l.any λt=>t.v==v
def I5(v:UInt8)(p:AY):Bool:=p.1.kind==97&&PG p.1.A.args v
def I3(bl:List AY)(v:UInt8):Bool:=bl.any (I5 v)
theorem Ct{α:Type}(f:α->Bool)(l:List α)(k:Nat)(a:k<l.length)(b:(l.take k).any f=false):(l.take (k+1)).any f=f l[k]:=by
 rw[bM a,fW,b];simp
theorem IR{α:Type}(f:α->Bool)(l:List α)(k:Nat)(a:k<l.length)(h:f l[k]=true):l.any f=true:=by
 rw[dp];exact⟨_,bL a,h⟩
theorem Jy(H:Value)(bl:List AY)(n:Int)(v:UInt8)(w:World)(Q:n=v.toNat)(j:w.ownsRow 0 95 9 H bl.length (bl.flatMap AN))(C:∀p∈bl,BJ w 0 p)(Y:bl.length<=1000000)(G:∀p∈bl,p.1.A.args.length<=1000000):
  Calls prog 132 #[H,.int .u8 n] w λe I=>e=.returned (.bool (I3 bl v))/\I=w:=by
 subst Q;obtain⟨N,M,rfl⟩:=Aj j;have l:Hid (w.ownsRow 0 95 9 (.slice N bl.length M) bl.length (bl.flatMap AN)/\(∀p∈bl,BJ w 0 p)/\(∀p∈bl,p.1.A.args.length<=1000000)):=⟨j,C,G⟩;clear j C G;go_enter func132,ntmps132;go_wp2
 go_loop [5] (λi=>∃k:Nat,i=.int .i64 k/\k<=bl.length/\Hid ((bl.take k).any (I5 v)=false)) (λi=>bl.length-(intOf i).toNat)
 case atStart=>exact⟨0,rfl,b8 _,by show _=_;simp⟩
 case round=>
  obtain⟨k,rfl,X,o⟩:=hrel;by_cases a:k<bl.length
  .obtain⟨g,W,F,hc,q⟩:=Av l.out.1 (λc _=>Bw c) k a;simp only[bK]at F;obtain⟨rfl,_,rfl⟩:=F;have O:=q k a 0 (by omega);have x:=q k a 2 (by omega);simp[AN,BQ]at O x;have r:=l.out.2.1 bl[k] (bL a);have U:=l.out.2.2 bl[k] (bL a);obtain⟨P,J,f⟩:=Aj r;rw[f]at x;have S:Hid (w.ownsRow 0 93 2 (.slice P bl[k].1.A.args.length J) bl[k].1.A.args.length (bl[k].1.A.args.flatMap AM)):=by
    have h:w.ownsRow 0 93 2 _ _ _:=r;rw[f]at h;exact h
   clear q r f;have E:((bl[k].1.kind.toNat:Int)==97)=(bl[k].1.kind==97):=B2 _ 97;cases hkd:(bl[k].1.kind==97)with
   |false=>
    rw[hkd]at E;(have b:Hid ((bl.take (k+1)).any (I5 v)=false):=by show _=_;rw[Ct _ _ k a o.out];simp[I5,hkd]);clear hkd;go_wp2
    go_loop [6] (λi=>i=.int .i64 0) (λ_=>0)
    case atStart=>rfl
    case round=>
     subst hrel;go_wp2
     go_round
     case rel=>exact⟨k+1,by go_num,by omega,b⟩
     case measure=>simp[intOf];omega
   |true=>
    rw[hkd]at E;(have b:Hid (PG bl[k].1.A.args v=false->(bl.take (k+1)).any (I5 v)=false):=by intro h;rw[Ct _ _ k a o.out];simp[I5,h]);(have s:Hid (PG bl[k].1.A.args v=true->I3 bl v=true):=by intro h;exact IR _ _ k a (by simp[I5,hkd,h]));clear hkd;go_wp2
    go_loop [6] (λi=>∃m:Nat,i=.int .i64 m/\m<=bl[k].1.A.args.length/\Hid ((bl[k].1.A.args.take m).any (λt=>t.v==v)=false)) (λi=>bl[k].1.A.args.length-(intOf i).toNat)
    case atStart=>exact⟨0,rfl,b8 _,by show _=_;simp⟩
    case round=>
     obtain⟨m,rfl,Z,y⟩:=hrel;by_cases d:m<bl[k].1.A.args.length
     .obtain⟨T,Ax,z,V,D⟩:=Av S.out (λc _=>EG c) m d;simp only[bK]at z;obtain⟨rfl,_,rfl⟩:=z;have L:=D m d 0 (by omega);simp[AM]at L;clear D;have B:((bl[k].1.A.args[m].v.toNat:Int)==(v.toNat:Int))=(bl[k].1.A.args[m].v==v):=B2 _ v;cases hv:(bl[k].1.A.args[m].v==v)with
      |true=>
       rw[hv]at B;have K:=Ab (s.out (IR _ _ m d hv));clear hv s b;go_wp2;go_ret;rw[Aa K];exact⟨rfl,rfl⟩
      |false=>
       rw[hv]at B;(have u:Hid ((bl[k].1.A.args.take (m+1)).any (λt=>t.v==v)=false):=by show _=_;rw[Ct _ _ m d y.out];exact hv);clear hv s b;go_wp2
       go_round
       case rel=>exact⟨m+1,by go_num,by omega,u⟩
       case measure=>simp[intOf];omega
     .have u:=Ab (b.out (by have h:=y.out;rwa [bP (by omega)]at h));go_wp2
      go_round
      case rel=>exact⟨k+1,by go_num,by omega,u⟩
      case measure=>simp[intOf];omega
  ·(have R:Hid (I3 bl v=false):=by have h:=o.out;rwa [bP (by omega)]at h);go_wp2;go_ret;rw[R.out];exact⟨rfl,rfl⟩
def Ch(bl:List AY)(t:AG):Bool:= !(t.v==0||I3 bl t.v)
def Iu(bl:List AY)(p:AY):Bool:=(Au p).any (Ch bl)
def C3(head:C2)(bl:List AY):Int:=if head.args.any (Ch bl)then head.at_ else match bl.find? (Iu bl)with|some p=>p.1.at_|none=> -1
theorem EJ{α:Type}(f:α->Bool)(l:List α)(k:Nat)(a:k<l.length)(d:(l.take k).any f=false)(h:f l[k]=true):l.find? f=some l[k]:=by
 have e:l.find? f=(l.take k++l.drop k).find? f:=by rw[dl]
 rw[e,fJ];have c:(l.take k).find? f=none:=by
  rw[dC];intro x g b;have:(l.take k).any f=true:=by rw[dp];exact⟨x,g,b⟩
  rw[d]at this;cases this
 rw[c,Option.none_or,ci a,List.find?_cons_of_pos h]
theorem Ty(a:C2)(hv bv:Value)(bl:List AY)(w:World)(P:w.ownsRow 0 93 2 hv a.args.length (a.args.flatMap AM))(M:w.ownsRow 0 95 9 bv bl.length (bl.flatMap AN))(hl:∀p∈bl,BJ w 0 p)(C:bl.length<=1000000)(Z:∀p∈bl,p.1.A.args.length<=1000000)(HJ:a.args.length<=1000000):
  Calls prog 84 #[.agg (B6 a.name hv a.at_).toArray,bv] w λe w'=>e=.returned (.int .i64 (C3 a bl))/\Ac [] w w':=by
 obtain⟨K,I,rfl⟩:=Aj P;obtain⟨ad,EX,rfl⟩:=Aj M;simp only[B6];have j:Hid (w.ownsRow 0 93 2 (.slice K a.args.length I) a.args.length (a.args.flatMap AM)/\w.ownsRow 0 95 9 (.slice ad bl.length EX) bl.length (bl.flatMap AN)/\(∀p∈bl,BJ w 0 p)/\(∀p∈bl,p.1.A.args.length<=1000000)):=⟨P,M,hl,Z⟩;clear P M hl Z;have HZ:∀(x:Bool) (w:World),(Op.unary .not (.bool x)).run prog w=.ok (.bool (!x)) w:=λ_ _=>rfl
 go_enter func84,ntmps84;go_wp2_with fail
 go_loopw [5] (λi wr=>∃k:Nat,i=.int .i64 k/\k<=a.args.length/\Hid ((a.args.take k).any (Ch bl)=false)/\wr=w.alloc (.cells #[.string a.name,.slice K a.args.length I,.int .i64 a.at_] 79)) (λi _=>a.args.length-(intOf i).toNat)
 case atStart=>exact⟨0,rfl,b8 _,by show _=_;simp,rfl⟩
 case round=>
  obtain⟨k,rfl,hk,U,rfl⟩:=hrel;by_cases E:k<a.args.length
  .obtain⟨g,AB,o,hc,d⟩:=Av (j.out.1.alloc (.cells #[.string a.name,.slice K a.args.length I,.int .i64 a.at_] 79)) (λc _=>EG c) k E;simp only[bK]at o;obtain⟨rfl,_,rfl⟩:=o;have D:=d k E 0 (by omega);simp[AM]at D;clear d;have u:((a.args[k].v.toNat:Int)==0)=(a.args[k].v==0):=B2 _ 0;(have l:Hid (Ch bl a.args[k]=false->(a.args.take (k+1)).any (Ch bl)=false):=by intro h;rw[Ct _ _ k E U.out];exact h);(have n:Hid (Ch bl a.args[k]=true->C3 a bl=(a.at_:Int)):=by intro h;unfold C3;rw[if_pos (IR _ _ k E h)]);cases hz:(a.args[k].v==0)with
   |true=>
    rw[hz]at u;have B:=Ab (l.out (by simp[Ch,hz]));clear hz l n;go_wp2_with fail
    go_roundw
    case rel=>exact⟨k+1,by go_num,by omega,B,by trivial⟩
    case measure=>simp[intOf];omega
   |false=>
    rw[hz]at u;cases hbd:I3 bl a.args[k].v with
    |true=>
     have B:=Ab (l.out (by simp[Ch,hbd]));clear hz l n;go_wp2_with (go_at_call 132;refine(Jy _ bl _ a.args[k].v _ rfl (j.out.2.1.alloc _) (λp z=>(j.out.2.2.1 p z).alloc _) C j.out.2.2.2).mono ?_;rintro e s ⟨rfl,rfl⟩;rw[hbd])
     go_roundw
     case rel=>exact⟨k+1,by go_num,by omega,B,by trivial⟩
     case measure=>simp[intOf];omega
    |false=>
     have HD:=Ab (n.out (by simp[Ch,hbd,hz]));clear hz l n;go_wp2_with (go_at_call 132;refine(Jy _ bl _ a.args[k].v _ rfl (j.out.2.1.alloc _) (λp z=>(j.out.2.2.1 p z).alloc _) C j.out.2.2.2).mono ?_;rintro e s ⟨rfl,rfl⟩;rw[hbd])
     go_ret;rw[Aa HD];exact⟨rfl,(Ac.refl _ _).alloc _⟩
  ·(have HH:Hid (a.args.any (Ch bl)=false):=by have h:=U.out;rwa [bP (by omega)]at h);clear U;have ES:=(Ac.refl [] w).alloc (.cells #[.string a.name,.slice K a.args.length I,.int .i64 a.at_] 79);go_wp2_with fail
   go_loopw [7] (λi wr=>∃k:Nat,i=.int .i64 k/\k<=bl.length/\Hid ((bl.take k).any (Iu bl)=false)/\Ac [] w wr) (λi _=>bl.length-(intOf i).toNat)
   case atStart=>exact⟨0,rfl,b8 _,by show _=_;simp,ES⟩
   case round=>
    rename_i wr _ _;obtain⟨q,rfl,hq,N,t⟩:=hrel;clear ES;by_cases b:q<bl.length
    .have r:=Ad j.out.2.1 t (by simp);obtain⟨g,AB,o,hc,d⟩:=Av r (λc _=>Bw c) q b;simp only[bK]at o;obtain⟨rfl,_,rfl⟩:=o;have V:BJ _ 0 bl[q]:=(j.out.2.2.1 bl[q] (bL b)).kept t (by simp);obtain⟨H3,HX,S⟩:=Aj V;have T:=Qj bl[q] _ V;simp only[AN,BQ,S]at T;have D:=d q b 0 (by omega);have d1:=d q b 1 (by omega);have L:=d q b 2 (by omega);have d3:=d q b 3 (by omega);have d4:=d q b 4 (by omega);have d5:=d q b 5 (by omega);have Y:=d q b 6 (by omega);have X:=d q b 7 (by omega);have d8:=d q b 8 (by omega);simp[AN,BQ]at D d1 L d3 d4 d5 Y X d8;rw[S]at L;have HT:=Ab T;clear d r V S T;(have l:Hid (Iu bl bl[q]=false->(bl.take (q+1)).any (Iu bl)=false):=by intro h;rw[Ct _ _ q b N.out];exact h);have n:Hid (Iu bl bl[q]=true->C3 a bl=(bl[q].1.at_:Int)):=by
      intro h;unfold C3;rw[if_neg (by rw[HH.out];exact dK),EJ _ _ q b N.out h]
     have HF:(Au bl[q]).length<=1000000:=by
      have:=j.out.2.2.2 bl[q] (bL b);unfold Au;split<;>simp<;>omega
     (go_wp2_with fail);refine(Aa HT).mono ?_;rintro e s ⟨tv,rfl,R,EY⟩;have H:=t.trans EY;have r:=Ad j.out.2.1 H (by simp);obtain⟨g',AB,o,_,d⟩:=Av r (λc _=>Bw c) q b;simp only[bK,bR,cI]at o;obtain⟨⟨rfl,_,_⟩,_,rfl⟩:=o;have e8:=d q b 8 (by omega);simp[AN,BQ]at e8;have J:Hid (s.ownsRow 0 95 9 (.slice (some ⟨g,0,none⟩) bl.length EX) bl.length (bl.flatMap AN)/\(∀p∈bl,BJ s 0 p)):=⟨r,λp z=>(j.out.2.2.1 p z).kept H (by simp)⟩;clear d r D d1 L d3 d4 d5 Y X d8 HT EY t;obtain⟨H2,H1,rfl⟩:=Aj R;have HO:=Ab R;clear R;obtain⟨f,Q⟩:∃f,Au bl[q]=f:=⟨_,rfl⟩;rw[Q]at HO HF⊢;have EK:=Ab Q;clear Q;go_wp2_with fail
     go_loop [9] (λi=>∃m:Nat,i=.int .i64 m/\m<=f.length/\Hid ((f.take m).any (Ch bl)=false)) (λi=>f.length-(intOf i).toNat)
     case atStart=>exact⟨0,rfl,b8 _,by show _=_;simp⟩
     case round=>
      obtain⟨m,rfl,hm,W⟩:=hrel;by_cases G:m<f.length
      .obtain⟨ga,HS,BA,HK,FC⟩:=Av (Aa HO) (λc _=>EG c) m G;simp only[bK]at BA;obtain⟨rfl,_,rfl⟩:=BA;have f0:=FC m G 0 (by omega);simp[AM]at f0;clear FC;have u:((f[m].v.toNat:Int)==0)=(f[m].v==0):=B2 _ 0;(have y:Hid (Ch bl f[m]=false->(f.take (m+1)).any (Ch bl)=false):=by intro h;rw[Ct _ _ m G W.out];exact h);(have F:Hid (Ch bl f[m]=true->C3 a bl=(bl[q].1.at_:Int)):=by intro h;exact n.out (by unfold Iu;rw[Aa EK];exact IR _ _ m G h));cases hz:(f[m].v==0)with
       |true=>
        rw[hz]at u;have O:=Ab (y.out (by simp[Ch,hz]));clear hz y F l n;go_wp2_with fail
        go_round
        case rel=>exact⟨m+1,by go_num,by omega,O⟩
        case measure=>simp[intOf];omega
       |false=>
        rw[hz]at u;cases hbd:I3 bl f[m].v with
        |true=>
         have O:=Ab (y.out (by simp[Ch,hbd]));clear hz y F l n;go_wp2_with (go_at_call 132;refine(Jy _ bl _ f[m].v _ rfl J.out.1 J.out.2 C j.out.2.2.2).mono ?_;rintro e s ⟨rfl,rfl⟩;rw[hbd])
         go_round
         case rel=>exact⟨m+1,by go_num,by omega,O⟩
         case measure=>simp[intOf];omega
        |false=>
         have FL:=Ab (F.out (by simp[Ch,hbd,hz]));clear hz y F l n;go_wp2_with (go_at_call 132;refine(Jy _ bl _ f[m].v _ rfl J.out.1 J.out.2 C j.out.2.2.2).mono ?_;rintro e s ⟨rfl,rfl⟩;rw[hbd])
         go_ret;rw[Aa FL];exact⟨rfl,H⟩
      .have B:=Ab (l.out (by unfold Iu;rw[Aa EK];have h:=W.out;rwa [bP (by omega)]at h));clear l n;go_wp2_with fail
       go_roundw
       case rel=>exact⟨q+1,by go_num,by omega,B,H⟩
       case measure=>simp[intOf];omega
    .have HE:Hid (C3 a bl= -1):=by
      have h:=N.out;rw[bP (by omega)]at h;show _=_;unfold C3;rw[if_neg (by rw[HH.out];exact dK)];have:bl.find? (Iu bl)=none:=by
       rw[dC];intro x hx hf;(have:bl.any (Iu bl)=true:=by rw[dp];exact⟨x,hx,hf⟩);rw[h]at this;cases this
      rw[this]
     (go_wp2_with fail);go_ret;rw[HE.out];exact⟨rfl,t⟩
def Ff(a b:cR):Bool:=
 if Ap (Cb a 0) !=Ap (Cb b 0)then Ap (Cb a 0)
 else if Ap (Cb a 0)&&a.size !=b.size then decide (a.size<b.size)else Op.bytesLess a.toList b.toList
set_option maxRecDepth 512
theorem Ly(a b:cR)(w:World)(l:0<a.size)(n:0<b.size)(p:a.size<=1000000)(q:b.size<=1000000):
  Calls prog 86 #[.string a,.string b] w λe k=>e=.returned (.bool (Ff a b))/\k=w:=by
 have j:Cb a 0=a[0]:=by simp[Cb,l]
 have i:Cb b 0=b[0]:=by simp[Cb,n]
 obtain⟨R,c⟩:∃R,Ff a b=R:=⟨_,rfl⟩;rw[c];unfold Ff at c;rw[j,i]at c;have r:(0:Int)<(a.size:Int):=by omega
 have o:(0:Int)<(b.size:Int):=by omega
 clear j i;cases hx:Ap a[0] with
 |true=>
  cases hy:Ap b[0] with
  |true=>
   rw[hx,hy]at c;by_cases h:a.size=b.size
   ·(have g:(a.size !=b.size)=false:=by simp[h]);(have m:((a.size:Int) !=(b.size:Int))=false:=by simp[h]);(have f:Hid (Op.bytesLess a.toList b.toList=R):=by show _=_;rw[<-c,g];rfl);clear c g h;go_enter func86,ntmps86;(go_wp2_with fail);refine(Cl _ a[0] _ rfl).mono ?_;rintro e d ⟨rfl,rfl⟩;rw[hx];(go_wp2_with fail);refine(Cl _ b[0] _ rfl).mono ?_;rintro e d ⟨rfl,rfl⟩;rw[hy];go_wp2;go_ret;exact⟨Bc f.out,rfl⟩
   ·(have g:(a.size !=b.size)=true:=by simp[h]);(have m:((a.size:Int) !=(b.size:Int))=true:=by simp;omega);(have f:Hid (decide (a.size<b.size)=R):=by show _=_;rw[<-c,g];rfl);clear c g h;go_enter func86,ntmps86;(go_wp2_with fail);refine(Cl _ a[0] _ rfl).mono ?_;rintro e d ⟨rfl,rfl⟩;rw[hx];(go_wp2_with fail);refine(Cl _ b[0] _ rfl).mono ?_;rintro e d ⟨rfl,rfl⟩;rw[hy];go_wp2;go_ret;exact⟨Bc f.out,rfl⟩
  |false=>
   rw[hx,hy]at c;(have f:Hid (true=R):=by show _=_;rw[<-c];rfl);clear c;go_enter func86,ntmps86;(go_wp2_with fail);refine(Cl _ a[0] _ rfl).mono ?_;rintro e d ⟨rfl,rfl⟩;rw[hx];(go_wp2_with fail);refine(Cl _ b[0] _ rfl).mono ?_;rintro e d ⟨rfl,rfl⟩;rw[hy];go_wp2;go_ret;exact⟨Bc f.out,rfl⟩
 |false=>
  cases hy:Ap b[0] with
  |true=>
   rw[hx,hy]at c;(have f:Hid (false=R):=by show _=_;rw[<-c];rfl);clear c;go_enter func86,ntmps86;(go_wp2_with fail);refine(Cl _ a[0] _ rfl).mono ?_;rintro e d ⟨rfl,rfl⟩;rw[hx];(go_wp2_with fail);refine(Cl _ b[0] _ rfl).mono ?_;rintro e d ⟨rfl,rfl⟩;rw[hy];go_wp2;go_ret;exact⟨Bc f.out,rfl⟩
  |false=>
   rw[hx,hy]at c;(have f:Hid (Op.bytesLess a.toList b.toList=R):=by show _=_;rw[<-c];rfl);clear c;go_enter func86,ntmps86;(go_wp2_with fail);refine(Cl _ a[0] _ rfl).mono ?_;rintro e d ⟨rfl,rfl⟩;rw[hx];(go_wp2_with fail);refine(Cl _ b[0] _ rfl).mono ?_;rintro e d ⟨rfl,rfl⟩;rw[hy];go_wp2;go_ret;exact⟨Bc f.out,rfl⟩
def CB(x:cR)(a:List cR×Bool)(y:cR):List cR×Bool:=if !a.2&&Ff x y then(a.1++[x]++[y],true)else(a.1++[y],a.2)
def Ll(l:List cR)(x:cR):List cR×Bool:=l.foldl (CB x) ([],false)
def G0(l:List cR)(x:cR):List cR:=if(Ll l x).2 then(Ll l x).1 else(Ll l x).1++[x]
theorem WE{l:List cR}{k:Nat}(a:k<l.length)(x:cR):Ll (l.take (k+1)) x=CB x (Ll (l.take k) x) l[k]:=by
 unfold Ll;rw[bM a,cY];rfl
theorem SC(x:cR)(a:List cR×Bool)(y:cR):(CB x a y).1.length+a.2.toNat=a.1.length+1+(CB x a y).2.toNat:=by
 obtain⟨o,d⟩:=a;unfold CB;cases d<;>cases Ff x y<;>simp
theorem MD(x:cR):∀(l:List cR) (a:List cR×Bool),(l.foldl (CB x) a).1.length+a.2.toNat=a.1.length+l.length+(l.foldl (CB x) a).2.toNat
 |[],a=>by simp only[List.foldl_nil,cE,fS]
 |y::l,a=>by
  have h:=MD x l (CB x a y);have b:=SC x a y;simp only[cC,bU];omega
theorem LG(l:List cR)(x:cR):(Ll l x).1.length=l.length+(Ll l x).2.toNat:=by
 have h:=MD x l ([],false);simp only[cE,fV]at h;unfold Ll;omega
theorem Me(l:List cR)(x:cR):(G0 l x).length=l.length+1:=by
 have h:=LG l x;unfold G0;cases hd:(Ll l x).2<;>simp[hd]at h⊢<;>omega
set_option maxRecDepth 100000
theorem Yp(lv:Value)(l:List cR)(x:cR)(base:Nat)(w:World)(Y:w.ownsRow base 9 1 lv l.length (l.flatMap Ae))(HA:l.length<=1000000)(U:0<x.size/\x.size<=1000000)(u:∀y∈l,0<y.size/\y.size<=1000000):
  Calls prog 171 #[lv,.string x] w λe w'=>∃v,e=.returned v/\w'.ownsRow w.heap.size 9 1 v (G0 l x).length ((G0 l x).flatMap Ae)/\Ac [] w w':=by
 obtain⟨F,D,B,E,G⟩:=cU Tryz.gW;obtain⟨ad,FA,rfl⟩:=Aj Y;have X:Hid (w.ownsRow base 9 1 (.slice ad l.length FA) l.length (l.flatMap Ae)/\(∀y∈l,0<y.size/\y.size<=1000000)):=⟨Y,u⟩;clear Y u;have FW:∀(x:Bool) (w:World),(Op.unary .not (.bool x)).run prog w=.ok (.bool (!x)) w:=λ_ _=>rfl
 go_enter func171,ntmps171;go_wp2
 go_loopw [5,6,7] (λo d i wr=>∃(k:Nat) (a:List cR) (j:Bool),i=.int .i64 k/\k<=l.length/\d=.bool j/\Hid (Ll (l.take k) x=(a,j))/\a.length<=k+1/\wr.ownsRow w.heap.size 9 1 o a.length (a.flatMap Ae)/\Ac [] w wr) (λ_ _ i _=>l.length-(intOf i).toNat)
 case atStart=>exact⟨0,[],false,rfl,b8 _,rfl,by show _=_;simp[Ll],by simp,ck _ _ _ _,Ac.refl _ _⟩
 case round=>
  obtain⟨k,a,j,rfl,hk,rfl,P,FL,f,m⟩:=hrel;obtain⟨J,H,rfl⟩:=Aj f;have R:=m.size;by_cases z:k<l.length
  .obtain⟨g,ES,L,hc,Q⟩:=Av (Ad X.out.1 m (by simp)) (λc _=>rfl) k z;simp only[bK]at L;obtain⟨rfl,_,rfl⟩:=L;have A:=Q k z 0 (by omega);simp[Ae]at A;clear Q;have T:=X.out.2 l[k] (bL z);(have S:Hid (Ll (l.take (k+1)) x=CB x (a,j) l[k]):=by show _=_;rw[WE z,P.out]);cases b:(!j&&Ff x l[k])with
   |true=>
    (have EX:j=false:=by cases j<;>simp_all);subst EX;(have u:Ff x l[k]=true:=by simpa using b);have FO:a.length<=k:=by
     have h:=LG (l.take k) x;rw[P.out]at h;simp only[cM,fV]at h;omega
    (have V:Hid (Ll (l.take (k+1)) x=(a++[x]++[l[k]],true)):=by show _=_;rw[S.out];simp[CB,u]);have CC:∀{n:World} {o:Obj},(wr.alloc o).grownBy n (Value.slice J a.length H).ownBlock->n.cell? ⟨g,k,none⟩=some (.string l[k]):=by
     intro n o FF;have EK:=(m.alloc o).grown FF (λq b=>Or.inr (f.lt q b).1);obtain⟨g',ES,L,_,Q⟩:=Av (Ad X.out.1 EK (by simp)) (λc _=>rfl) k z;simp only[bK,bR,cI]at L;obtain⟨⟨rfl,_,_⟩,_,rfl⟩:=L;have A:=Q k z 0 (by omega);simpa[Ae] using A
    clear S b;(go_wp2_with fail);refine(Ly x l[k] _ U.1 T.1 U.2 T.2).mono ?_;rintro e Z ⟨rfl,M⟩;rw[u,M];clear M Z;go_wp2_with (first|(at_builtin;refine cd _ rfl (.tmp 24) (.tmp 26) _ rfl w.heap.size 9 F _ 1 16 underlying41 D B E G rfl (by omega) (.slice J a.length H) a.length (a.flatMap Ae) rfl (f.alloc _) ⟨wr.heap.size,0,none⟩ 1 1 [.string x] rfl rfl (cj (cs:=#[.string x]) (t:=9) (fr:=(0,0)) (cA wr _)) (by simp[Value.oneCell']) (by omega) (by unfold maxLen;omega) (by omega) (by simp;omega) (wr.heap.size+1) (by simp) ?_;intro g1 BA n I r W AB;have d1:=CC r;have HB:wr.heap.size<=n.heap.size:=by have:=r.size;simp at this;omega)|(at_builtin;refine cd _ rfl (.tmp 28) (.tmp 33) _ rfl w.heap.size 9 F _ 1 16 underlying41 D B E G rfl (by omega) (.slice (some ⟨g1,0,none⟩) (a.length+1) BA) (a.length+1) (a.flatMap Ae++[.string x]) rfl (I.alloc _) ⟨n.heap.size,0,none⟩ 1 1 [.string l[k]] rfl rfl (cj (cs:=#[.string l[k]]) (t:=9) (fr:=(0,0)) (cA n _)) (by simp[Value.oneCell']) (by omega) (by unfold maxLen;omega) (by omega) (by simp;omega) (n.heap.size+1) (by simp) ?_;intro g2 BT O N p K C))
    have s:Ac [] w O:=(((m.alloc _).grown r (λq b=>Or.inr (f.lt q b).1)).alloc _).grown p (λq b=>Or.inr (I.lt q b).1);clear CC r W AB p K C I d1 A f m R;go_wp2
    go_roundw
    case rel=>
     refine⟨k+1,a++[x]++[l[k]],true,by go_num,by omega,rfl,V,by simp;omega,?_,s⟩;simpa[Ae] using N
    case measure=>simp[intOf];omega
   |false=>
    (have V:Hid (Ll (l.take (k+1)) x=(a++[l[k]],j)):=by show _=_;rw[S.out];simp[CB,b]);clear S;have AT:a.length<=k+j.toNat:=by
     have h:=LG (l.take k) x;rw[P.out]at h;simp only[cM]at h;omega
    cases j with
    |true=>
     clear b;go_wp2_with (at_builtin;refine cd _ rfl (.tmp 28) (.tmp 33) _ rfl w.heap.size 9 F _ 1 16 underlying41 D B E G rfl (by omega) (.slice J a.length H) a.length (a.flatMap Ae) rfl (f.alloc _) ⟨wr.heap.size,0,none⟩ 1 1 [.string l[k]] rfl rfl (cj (cs:=#[.string l[k]]) (t:=9) (fr:=(0,0)) (cA wr _)) (by simp[Value.oneCell']) (by omega) (by unfold maxLen;omega) (by omega) (by simp;omega) (wr.heap.size+1) (by simp) ?_;intro g2 BT O N p K C)
     have s:Ac [] w O:=(m.alloc _).grown p (λq b=>Or.inr (f.lt q b).1);clear p K C A f m R;go_wp2
     go_roundw
     case rel=>
      refine⟨k+1,a++[l[k]],true,by go_num,by omega,rfl,V,by simp;omega,?_,s⟩;simpa[Ae] using N
     case measure=>simp[intOf];omega
    |false=>
     (have u:Ff x l[k]=false:=by simpa using b);clear b;(go_wp2_with fail);refine(Ly x l[k] _ U.1 T.1 U.2 T.2).mono ?_;rintro e Z ⟨rfl,M⟩;rw[u,M];clear M Z;go_wp2_with (at_builtin;refine cd _ rfl (.tmp 28) (.tmp 33) _ rfl w.heap.size 9 F _ 1 16 underlying41 D B E G rfl (by omega) (.slice J a.length H) a.length (a.flatMap Ae) rfl (f.alloc _) ⟨wr.heap.size,0,none⟩ 1 1 [.string l[k]] rfl rfl (cj (cs:=#[.string l[k]]) (t:=9) (fr:=(0,0)) (cA wr _)) (by simp[Value.oneCell']) (by omega) (by unfold maxLen;omega) (by omega) (by simp;omega) (wr.heap.size+1) (by simp) ?_;intro g2 BT O N p K C)
     have s:Ac [] w O:=(m.alloc _).grown p (λq b=>Or.inr (f.lt q b).1);clear p K C A f m R;go_wp2
     go_roundw
     case rel=>
      refine⟨k+1,a++[l[k]],false,by go_num,by omega,rfl,V,by simp;omega,?_,s⟩;simpa[Ae] using N
     case measure=>simp[intOf];omega
  ·(have HE:Hid (Ll l x=(a,j)):=by have h:=P.out;rwa [bP (by omega)]at h);have AT:a.length<=l.length+j.toNat:=by
    have h:=LG l x;rw[HE.out]at h;simp only at h;omega
   cases j with
   |true=>
    (have HW:Hid (G0 l x=a):=by show _=_;unfold G0;rw[HE.out];rfl);go_wp2;go_ret;rw[HW.out];exact⟨_,rfl,f,m⟩
   |false=>
    (have HW:Hid (G0 l x=a++[x]):=by show _=_;unfold G0;rw[HE.out];rfl);(have Go:a.length<=l.length:=by simpa using AT);go_wp2_with (at_builtin;refine cd _ rfl (.tmp 37) (.tmp 39) _ rfl w.heap.size 9 F _ 1 16 underlying41 D B E G rfl (by omega) (.slice J a.length H) a.length (a.flatMap Ae) rfl (f.alloc _) ⟨wr.heap.size,0,none⟩ 1 1 [.string x] rfl rfl (cj (cs:=#[.string x]) (t:=9) (fr:=(0,0)) (cA wr _)) (by simp[Value.oneCell']) (by omega) (by unfold maxLen;omega) (by omega) (by simp;omega) (wr.heap.size+1) (by simp) ?_;intro g1 BA n I r W AB)
    have s:Ac [] w n:=(m.alloc _).grown r (λq b=>Or.inr (f.lt q b).1);clear r W AB f m R;go_wp2;go_ret;rw[HW.out];refine⟨_,rfl,?_,s⟩;simpa[Ae] using I
def gM(l:List cR)(t:AG):List cR:=if t.v==0&& !Dz l t.s then G0 l t.s else l
def gF(l:List cR)(ts:List AG):List cR:=ts.foldl gM l
def Jb(l:List cR):Prop:=∀y∈l,0<y.size/\y.size<=1000000
def Ui(ts:List AG):Prop:=∀t∈ts,t.v=0->0<t.s.size/\t.s.size<=1000000
theorem La(x:cR)(d:0<x.size/\x.size<=1000000):∀(l:List cR) (a:List cR×Bool),Jb l->Jb a.1->Jb (l.foldl (CB x) a).1
 |[],_,_,ha=>ha
 |y::l,a,hl,ha=>by
  refine La x d l _ (λz b=>hl z (by simp[b])) ?_;have c:=hl y (by simp);unfold CB;split
  .intro z b;simp only[bY,bO]at b;rcases b with(b|b)|b
   .exact ha z b
   .rw[b];exact d
   .rw[b];exact c
  .intro z b;simp only[bY,bO]at b;rcases b with b|b
   .exact ha z b
   .rw[b];exact c
theorem U8{l:List cR}{x:cR}(c:Jb l)(b:0<x.size/\x.size<=1000000):Jb (G0 l x):=by
 have h:Jb (Ll l x).1:=La x b l ([],false) c (by intro y d;simp at d);unfold G0;split
 .exact h
 .intro z a;simp only[bY,bO]at a;rcases a with a|a
  .exact h z a
  .rw[a];exact b
theorem P7{l:List cR}{t:AG}(a:Jb l)(b:t.v=0->0<t.s.size/\t.s.size<=1000000):Jb (gM l t):=by
 unfold gM;split
 .rename_i h;simp only[cq,dE]at h;exact U8 a (b h.1)
 .exact a
theorem Yq(l:List cR)(t:AG):(gM l t).length<=l.length+1:=by
 unfold gM;split
 .rw[Me];omega
 .omega
theorem Wo(l:List cR){ts:List AG}{k:Nat}(a:k<ts.length):gF l (ts.take (k+1))=gM (gF l (ts.take k)) ts[k]:=by
 unfold gF;rw[bM a,cY];rfl
theorem Te(l:List cR)(ts:List AG):(gF l ts).length<=l.length+ts.length:=by
 unfold gF
 induction ts generalizing l with
 |nil=>simp
 |cons t ts ih=>
  have a:=ih (gM l t);have b:=Yq l t;simp only[cC,bU];omega
theorem Qm{l:List cR}{ts:List AG}(a:Jb l)(b:Ui ts):Jb (gF l ts):=by
 unfold gF
 induction ts generalizing l with
 |nil=>exact a
 |cons t ts ih=>exact ih (P7 a (b t (by simp))) (λu c=>b u (by simp[c]))
theorem V6(G tv:Value)(l:List cR)(ts:List AG)(base:Nat)(w:World)(u:w.ownsRow base 9 1 G l.length (l.flatMap Ae))(r:w.ownsRow 0 93 2 tv ts.length (ts.flatMap AM))(V:base<=w.heap.size)
  (Y:l.length+ts.length<=1000000) (D:Jb l) (H:Ui ts):
  Calls prog 130 #[G,tv] w λe z=>∃v,e=.returned v/\z.ownsRow base 9 1 v (gF l ts).length ((gF l ts).flatMap Ae)/\Ac [] w z:=by
 obtain⟨Z,X,rfl⟩:=Aj u;obtain⟨N,L,rfl⟩:=Aj r;have q:Hid (w.ownsRow 0 93 2 (.slice N ts.length L) ts.length (ts.flatMap AM)/\Jb l/\Ui ts):=⟨r,D,H⟩;clear r D H;have W:∀(x:Bool) (w:World),(Op.unary .not (.bool x)).run prog w=.ok (.bool (!x)) w:=λ_ _=>rfl
 go_enter func130,ntmps130;go_wp2
 go_loopw [0,5] (λo i wr=>∃(k:Nat) (a:List cR),i=.int .i64 k/\k<=ts.length/\Hid (gF l (ts.take k)=a/\Jb a)/\a.length<=l.length+k/\wr.ownsRow base 9 1 o a.length (a.flatMap Ae)/\Ac [] w wr) (λ_ i _=>ts.length-(intOf i).toNat)
 case atStart=>exact⟨0,l,rfl,b8 _,⟨by simp[gF],q.out.2.1⟩,by omega,u,Ac.refl _ _⟩
 case round=>
  clear u;obtain⟨k,a,rfl,U,p,S,b,f⟩:=hrel;obtain⟨AH,AB,rfl⟩:=Aj b;have Ax:=f.size;by_cases d:k<ts.length
  .obtain⟨g,T,F,hc,t⟩:=Av (Ad q.out.1 f (by simp)) (λc _=>EG c) k d;simp only[bK]at F;obtain⟨rfl,_,rfl⟩:=F;have M:=t k d 0 (by omega);have K:=t k d 1 (by omega);simp[AM]at M K;clear t;have E:((ts[k].v.toNat:Int)==0)=(ts[k].v==0):=B2 _ 0;have j:Hid (gF l (ts.take (k+1))=gM a ts[k]/\Jb (gM a ts[k])):=⟨by rw[Wo l d,p.out.1],P7 p.out.2 (q.out.2.2 ts[k] (bL d))⟩;cases hz:(ts[k].v==0)with
   |false=>
    rw[hz]at E;(have m:Hid (gF l (ts.take (k+1))=a/\Jb a):=by have h:=j.out;simp only[gM,hz,eC,bN,if_false]at h;exact h);clear j hz;go_wp2
    go_roundw
    case rel=>exact⟨k+1,a,by go_num,by omega,m,by omega,b,f⟩
    case measure=>simp[intOf];omega
   |true=>
    rw[hz]at E;have P:=q.out.2.2 ts[k] (bL d) (by simpa using hz);cases hh:Dz a ts[k].s with
    |true=>
     (have m:Hid (gF l (ts.take (k+1))=a/\Jb a):=by have h:=j.out;simp only[gM,hz,hh,ey,ez,bN,if_false]at h;exact h);clear j hz;(go_wp2_with fail);refine(Dg _ a ts[k].s base _ b (by omega)).mono ?_;rintro e y ⟨rfl,n⟩;rw[hh,n];clear n y;go_wp2
     go_roundw
     case rel=>exact⟨k+1,a,by go_num,by omega,m,by omega,b,f⟩
     case measure=>simp[intOf];omega
    |false=>
     (have m:Hid (gF l (ts.take (k+1))=G0 a ts[k].s/\Jb (G0 a ts[k].s)):=by have h:=j.out;simp only[gM,hz,hh,dn,Bool.and_true,if_true]at h;exact h);have O:=Ab p.out.2;clear j hz;(go_wp2_with fail);refine(Dg _ a ts[k].s base _ b (by omega)).mono ?_;rintro e y ⟨rfl,n⟩;rw[hh,n];clear n y;(go_wp2_with fail);refine(Yp _ a ts[k].s base _ b (by omega) P (Aa O)).mono ?_;rintro e w2 ⟨v2,rfl,B,C⟩;have I:=f.trans C;have Q:=Ak (base':=base) B (by omega);have A:=Me a ts[k].s;have J:=Ab A;clear B C A;go_wp2
     go_roundw
     case rel=>exact⟨k+1,G0 a ts[k].s,by go_num,by omega,m,by rw[Aa J];omega,Q,I⟩
     case measure=>simp[intOf];omega
  ·(have R:Hid (gF l ts=a):=by have h:=p.out.1;rwa [bP (by omega)]at h);go_wp2;go_ret;rw[R.out];exact⟨_,rfl,b,f⟩
structure I9(c:A7):Prop where
 body:c.bl.length<=3
 args:c.head.args.length<=2
 lits:∀p∈c.bl,p.1.A.args.length<=2
structure XQ(c:A7):Prop where
 head:Ui c.head.args
 body:∀p∈c.bl,Ui (Au p)
def Cn(l:List cR)(x:cR):List cR:=if Dz l x then l else l++[x]
def eA(l:List cR)(p:AY):List cR:=if KT p then Cn l p.1.A.name else l
def Kb(l:List cR)(c:A7):List cR:=c.bl.foldl eA (Cn l c.head.name)
def F8(cs:List A7):List cR:=cs.foldl Kb []
def Rs(l:List cR)(p:AY):List cR:=gF l (Au p)
def IS(l:List cR)(c:A7):List cR:=c.bl.foldl Rs (gF l c.head.args)
def Dd(cs:List A7):List cR:=cs.foldl IS []
theorem CW{α β:Type}(f:β->α->β)(b:β){l:List α}{k:Nat}(a:k<l.length):(l.take (k+1)).foldl f b=f ((l.take k).foldl f b) l[k]:=by
 rw[bM a,cY];rfl
theorem U3(pb:Nat)(lv:Value)(cs:List A7)(w:World)(hP:AE w pb [lv] 76)(V:Ci w lv cs)(HX:cs.length<=12)(l:∀c∈cs,I9 c)(r:∀c∈cs,XQ c):
  Calls prog 83 #[.pointer (some ⟨pb,0,none⟩)] w λe w'=>∃v,e=.returned v/\w'.ownsRow w.heap.size 9 1 v (Dd cs).length ((Dd cs).flatMap Ae)/\Ac [] w w':=by
 obtain⟨ad,HQ,rfl⟩:=Aj V.row;have G:Hid (Ci w (.slice ad cs.length HQ) cs/\(∀c∈cs,I9 c)/\(∀c∈cs,XQ c)):=⟨V,l,r⟩;clear V l r;go_enter func83,ntmps83;go_wp2
 go_loopw [3,4] (λo i wr=>∃(k:Nat) (d:List cR),i=.int .i64 k/\k<=cs.length/\Hid ((cs.take k).foldl IS []=d/\Jb d)/\d.length<=8*k/\wr.ownsRow w.heap.size 9 1 o d.length (d.flatMap Ae)/\Ac [] w wr) (λ_ i _=>cs.length-(intOf i).toNat)
 case atStart=>exact⟨0,[],rfl,b8 _,⟨by simp,by intro y hy;simp at hy⟩,by simp,ck _ _ _ _,Ac.refl _ _⟩
 case round=>
  obtain⟨k,d,rfl,hk,C,H4,F,s⟩:=hrel;obtain⟨K3,K2,rfl⟩:=Aj F;have u:=(hP.kept s (by simp)).cell 0;simp at u;have AB:=s.size;by_cases j:k<cs.length
  .have I:=G.out.1.kept s;obtain⟨g,H5,he,hc,B9⟩:=Av I.row (λc _=>BH c) k j;simp only[bK]at he;obtain⟨rfl,_,rfl⟩:=he;have W:=B9 k j 1 (by omega);simp[Cs]at W;have p:=I.each cs[k] (bL j);have l:=G.out.2.1 cs[k] (bL j);have r:=G.out.2.2 cs[k] (bL j);obtain⟨K4,KK,U⟩:=Aj p.args;obtain⟨HO,HI,EX⟩:=Aj p.body;rw[U]at W;have HB:Hid (cs[k].bv=.slice HO cs[k].bl.length HI):=EX;have A:=V6 _ _ d cs[k].head.args w.heap.size _ F p.args AB (by have:=l.args;omega) C.out.2 r.head;rw[U]at A;have Y:=Ab A;have JA:=l.args;have HY:=l.body;have x:Hid (I9 cs[k]/\XQ cs[k]):=⟨l,r⟩;clear B9 I p U EX A l r;(go_wp2_with fail);refine(Aa Y).mono ?_;rintro e w1 ⟨v1,rfl,D,AT⟩;have X:=s.trans AT;have J:=Ab (Te d cs[k].head.args);obtain⟨n,E⟩:∃n,gF d cs[k].head.args=n:=⟨_,rfl⟩;rw[E]at D J;have AO:Hid (gF d cs[k].head.args=n/\Jb n):=⟨E,by rw[<-E];exact Qm C.out.2 x.out.2.head⟩;(have HU:n.length<=8*k+2:=by have:=Aa J;omega);obtain⟨K5,Jx,rfl⟩:=Aj D;clear W u F s AB AT E J Y;go_wp2
   go_loopw [3,5] (λo i N=>∃(m:Nat) (b:List cR),i=.int .i64 m/\m<=cs[k].bl.length/\Hid ((cs[k].bl.take m).foldl Rs n=b/\Jb b)/\b.length<=8*k+2+2*m/\N.ownsRow w.heap.size 9 1 o b.length (b.flatMap Ae)/\Ac [] w N) (λ_ i _=>cs[k].bl.length-(intOf i).toNat)
   case atStart=>exact⟨0,n,rfl,b8 _,⟨by simp,AO.out.2⟩,by omega,D,X⟩
   case round=>
    rename_i N _;clear D X;obtain⟨m,b,rfl,hm,t,H9,z,q⟩:=hrel;obtain⟨IA,HS,rfl⟩:=Aj z;have u:=(hP.kept q (by simp)).cell 0;simp at u;have K7:=q.size;have R:=G.out.1.kept q;obtain⟨g2,HS,HC,_,FA⟩:=Av R.row (λc _=>BH c) k j;simp only[bK,bR,cI]at HC;obtain⟨⟨rfl,_,_⟩,_,rfl⟩:=HC;have L:=FA k j 3 (by omega);simp[Cs]at L;rw[HB.out]at L;have p:=R.each cs[k] (bL j);clear FA R;by_cases a:m<cs[k].bl.length
    .obtain⟨gb,H0,K,JJ,f⟩:=Av p.body (λc _=>Bw c) m a;rw[HB.out]at K;simp only[bK]at K;obtain⟨rfl,_,rfl⟩:=K;have O:=p.lits cs[k].bl[m] (bL a);obtain⟨K6,Ix,Q⟩:=Aj O;have T:=Qj cs[k].bl[m] _ O;simp only[AN,BQ,Q]at T;have d0:=f m a 0 (by omega);have d1:=f m a 1 (by omega);have H:=f m a 2 (by omega);have d3:=f m a 3 (by omega);have d4:=f m a 4 (by omega);have d5:=f m a 5 (by omega);have d6:=f m a 6 (by omega);have Z:=f m a 7 (by omega);have d8:=f m a 8 (by omega);simp[AN,BQ]at d0 d1 H d3 d4 d5 d6 Z d8;rw[Q]at H;have HT:=Ab T;clear f O Q p T;have KS:(Au cs[k].bl[m]).length<=2:=by
      have:=x.out.1.lits cs[k].bl[m] (bL a);unfold Au;split
      .exact this
      .simp
     (go_wp2_with fail);refine(Aa HT).mono ?_;rintro e w2 ⟨tv,rfl,EY,S⟩;have M:=q.trans S;have CC:=Ad z S (by simp);have HL:=M.size;clear d0 d1 H d3 d4 d5 d6 Z d8 HT u L;(go_wp2_with fail);refine(V6 _ _ b (Au cs[k].bl[m]) w.heap.size _ CC EY HL (by omega) t.out.2 (x.out.2.body _ (bL a))).mono ?_;rintro e w3 ⟨v3,rfl,BA,ES⟩;have HJ:=M.trans ES;have P:=Ab (Te b (Au cs[k].bl[m]));have Ha:Hid ((cs[k].bl.take (m+1)).foldl Rs n=gF b (Au cs[k].bl[m])/\Jb (gF b (Au cs[k].bl[m]))):=
      ⟨by rw[CW _ _ a,t.out.1];rfl,Qm t.out.2 (x.out.2.body _ (bL a))⟩
     obtain⟨B,Go⟩:∃B,gF b (Au cs[k].bl[m])=B:=⟨_,rfl⟩;rw[Go]at BA P Ha;(have HG:B.length<=8*k+2+2*(m+1):=by have:=Aa P;omega);clear q z CC EY S ES M Go P;go_wp2
     go_roundw
     case rel=>exact⟨m+1,B,by go_num,by omega,Ha,HG,BA,HJ⟩
     case measure=>simp[intOf];omega
    .have HZ:Hid ((cs.take (k+1)).foldl IS []=b/\Jb b):=by
      have h:=t.out.1;rw[bP (by omega)]at h;refine⟨?_,t.out.2⟩;rw[CW _ _ j,C.out.1,<-h];unfold IS;rw[AO.out.1]
     go_wp2
     go_roundw
     case rel=>exact⟨k+1,b,by go_num,by omega,HZ,by omega,z,q⟩
     case measure=>simp[intOf];omega
  ·(have HE:Hid (Dd cs=d):=by have h:=C.out.1;rwa [bP (by omega)]at h);go_wp2;go_ret;rw[HE.out];exact⟨_,rfl,F,s⟩
theorem Hx(w:World)(o:Obj)(cs:Array Value)(t:TypeId)(l:List Value)(a:l=cs.toList):∀j u,l[j]?=some u->((w.alloc o).alloc (.cells cs t)).cell? ((⟨w.heap.size+1,0,none⟩:Addr).add j)=some u:=by
 subst a;have h:=cA (w.alloc o) (.cells cs t);rw[cD]at h;exact cj h
theorem XD(pb:Nat)(lv:Value)(cs:List A7)(w:World)(hP:AE w pb [lv] 76)(hR:Ci w lv cs)(K4:cs.length<=12)(Z:∀c∈cs,I9 c):
  Calls prog 22 #[.pointer (some ⟨pb,0,none⟩)] w λe w'=>∃v,e=.returned v/\w'.ownsRow w.heap.size 9 1 v (F8 cs).length ((F8 cs).flatMap Ae)/\Ac [] w w':=by
 obtain⟨i0,B9,Ax,EK,BA⟩:=cU Tryz.gW;obtain⟨ad,K1,rfl⟩:=Aj hR.row;have HR:Hid (Ci w (.slice ad cs.length K1) cs/\(∀c∈cs,I9 c)):=⟨hR,Z⟩;clear hR Z;have LB:∀(x:Bool) (w:World),(Op.unary .not (.bool x)).run prog w=.ok (.bool (!x)) w:=λ_ _=>rfl
 go_enter func22,ntmps22;go_wp2
 go_loopw [3,4] (λo i wr=>∃(k:Nat) (f:List cR),i=.int .i64 k/\k<=cs.length/\Hid ((cs.take k).foldl Kb []=f)/\f.length<=4*k/\wr.ownsRow w.heap.size 9 1 o f.length (f.flatMap Ae)/\Ac [] w wr) (λ_ i _=>cs.length-(intOf i).toNat)
 case atStart=>exact⟨0,[],rfl,b8 _,by show _=_;simp,by simp,ck _ _ _ _,Ac.refl _ _⟩
 case round=>
  obtain⟨k,f,rfl,hk,HF,K7,G,I⟩:=hrel;obtain⟨H3,H1,rfl⟩:=Aj G;have O:=(hP.kept I (by simp)).cell 0;simp at O;have HO:=I.size;by_cases B:k<cs.length
  .have FL:=HR.out.1.kept I;obtain⟨g,K8,he,hc,HQ⟩:=Av FL.row (λc _=>BH c) k B;simp only[bK]at he;obtain⟨rfl,_,rfl⟩:=he;have HG:=HQ k B 0 (by omega);simp[Cs]at HG;have E:=FL.each cs[k] (bL B);have Z:=HR.out.2 cs[k] (bL B);obtain⟨JJ,H9,HV⟩:=Aj E.body;have FA:Hid (cs[k].bv=.slice JJ cs[k].bl.length H9):=HV;have K5:=Z.body;clear HQ FL E HV Z;(have K2:∀(b:List cR) (v1:Value) (U:World),Hid (Cn f cs[k].head.name=b)->b.length<=4*k+1->U.ownsRow w.heap.size 9 1 v1 b.length (b.flatMap Ae)->Ac [] w U->True:=λ_ _ _ _ _ _ _=>trivial);clear K2;cases hh:Dz f cs[k].head.name with
   |true=>
    (have M:Hid (Cn f cs[k].head.name=f):=by show _=_;simp[Cn,hh]);(go_wp2_with fail);refine(Dg _ f cs[k].head.name w.heap.size _ G (by omega)).mono ?_;rintro e z ⟨rfl,d⟩;rw[hh,d];clear d z hh;have F:=G;have Y:=I;(have X:f.length<=4*k+1:=by omega);go_wp2;obtain⟨b,M,F,X⟩:∃b,Hid (Cn f cs[k].head.name=b)/\wr.ownsRow w.heap.size 9 1 (.slice H3 f.length H1) b.length (b.flatMap Ae)/\b.length<=4*k+1:=⟨f,M,F,X⟩;clear HG O G I HO
    go_loopw [3,5] (λo i wq=>∃(m:Nat) (a:List cR),i=.int .i64 m/\m<=cs[k].bl.length/\Hid ((cs[k].bl.take m).foldl eA b=a)/\a.length<=4*k+1+m/\wq.ownsRow w.heap.size 9 1 o a.length (a.flatMap Ae)/\Ac [] w wq) (λ_ i _=>cs[k].bl.length-(intOf i).toNat)
    case atStart=>exact⟨0,b,rfl,b8 _,by show _=_;simp,by omega,F,Y⟩
    case round=>
     clear F Y;obtain⟨m,a,rfl,hm,W,JA,C,u⟩:=hrel;obtain⟨AO,ES,rfl⟩:=Aj C;have O:=(hP.kept u (by simp)).cell 0;simp at O;have K3:=u.size;have Q:=HR.out.1.kept u;obtain⟨g2,Ix,EX,_,Bx⟩:=Av Q.row (λc _=>BH c) k B;simp only[bK,bR,cI]at EX;obtain⟨⟨rfl,_,_⟩,_,rfl⟩:=EX;have AH:=Bx k B 3 (by omega);simp[Cs]at AH;rw[FA.out]at AH;have E:=Q.each cs[k] (bL B);clear Bx Q;by_cases j:m<cs[k].bl.length
     .obtain⟨gb,H6,N,KK,p⟩:=Av E.body (λc _=>Bw c) m j;rw[FA.out]at N;simp only[bK]at N;obtain⟨rfl,_,rfl⟩:=N;have hl:=E.lits cs[k].bl[m] (bL j);obtain⟨HL,HD,CL⟩:=Aj hl;have d0:=p m j 0 (by omega);have d1:=p m j 1 (by omega);have V:=p m j 2 (by omega);have d3:=p m j 3 (by omega);have d4:=p m j 4 (by omega);have d5:=p m j 5 (by omega);have d6:=p m j 6 (by omega);have d7:=p m j 7 (by omega);have d8:=p m j 8 (by omega);simp[AN,BQ]at d0 d1 V d3 d4 d5 d6 d7 d8;rw[CL]at V;clear p hl CL E;(have n:Hid ((cs[k].bl.take (m+1)).foldl eA b=eA a cs[k].bl[m]):=by show _=_;rw[CW _ _ j,W.out]);have r:=C.alloc (.cells #[.int .u8 cs[k].bl[m].1.kind.toNat,.string cs[k].bl[m].1.A.name,.slice HL cs[k].bl[m].1.A.args.length HD,.int .i64 cs[k].bl[m].1.A.at_,.int .u8 cs[k].bl[m].1.L.v.toNat,.string cs[k].bl[m].1.L.s,.int .u8 cs[k].bl[m].1.R.v.toNat,.string cs[k].bl[m].1.R.s,.int .i64 cs[k].bl[m].1.at_] 95);rcases Dp cs[k].bl[m] with⟨k1,l⟩|⟨k1,k2,l⟩|⟨k1,k2,l⟩
      .cases hh2:Dz a cs[k].bl[m].1.A.name with
       |true=>
        (have y:Hid ((cs[k].bl.take (m+1)).foldl eA b=a):=by show _=_;rw[n.out];simp[eA,Cn,l,hh2]);clear n l;(go_wp2_with fail);refine(Dg _ a cs[k].bl[m].1.A.name w.heap.size _ r (by omega)).mono ?_;rintro e z ⟨rfl,d⟩;rw[hh2,d];clear d z hh2;go_wp2
        go_roundw
        case rel=>exact⟨m+1,a,by go_num,by omega,y,by omega,r,u.alloc _⟩
        case measure=>simp[intOf];omega
       |false=>
        (have y:Hid ((cs[k].bl.take (m+1)).foldl eA b=a++[cs[k].bl[m].1.A.name]):=by show _=_;rw[n.out];simp[eA,Cn,l,hh2]);clear n l;(go_wp2_with fail);refine(Dg _ a cs[k].bl[m].1.A.name w.heap.size _ r (by omega)).mono ?_;rintro e z ⟨rfl,d⟩;rw[hh2,d];clear d z hh2;go_wp2_with (at_builtin;refine cd _ rfl (.tmp 80) (.tmp 84) _ rfl w.heap.size 9 i0 _ 1 16 underlying41 B9 Ax EK BA rfl (by omega) (.slice AO a.length ES) a.length (a.flatMap Ae) rfl (r.alloc _) ⟨wr.heap.size+1,0,none⟩ 1 1 [.string cs[k].bl[m].1.A.name] rfl rfl (Hx wr _ _ _ _ rfl) (by simp[Value.oneCell']) (by omega) (by unfold maxLen;omega) (by omega) (by simp;omega) (wr.heap.size+2) (by simp) ?_;intro g5 HH T J D K P)
        have S:Ac [] w T:=((u.alloc _).alloc _).grown D (λq H=>Or.inr (C.lt q H).1);clear D K P;go_wp2
        go_roundw
        case rel=>
         refine⟨m+1,a++[cs[k].bl[m].1.A.name],by go_num,by omega,y,by simp;omega,?_,S⟩;simpa[Ae] using J
        case measure=>simp[intOf];omega
      .cases hh2:Dz a cs[k].bl[m].1.A.name with
       |true=>
        (have y:Hid ((cs[k].bl.take (m+1)).foldl eA b=a):=by show _=_;rw[n.out];simp[eA,Cn,l,hh2]);clear n l;(go_wp2_with fail);refine(Dg _ a cs[k].bl[m].1.A.name w.heap.size _ r (by omega)).mono ?_;rintro e z ⟨rfl,d⟩;rw[hh2,d];clear d z hh2;go_wp2
        go_roundw
        case rel=>exact⟨m+1,a,by go_num,by omega,y,by omega,r,u.alloc _⟩
        case measure=>simp[intOf];omega
       |false=>
        (have y:Hid ((cs[k].bl.take (m+1)).foldl eA b=a++[cs[k].bl[m].1.A.name]):=by show _=_;rw[n.out];simp[eA,Cn,l,hh2]);clear n l;(go_wp2_with fail);refine(Dg _ a cs[k].bl[m].1.A.name w.heap.size _ r (by omega)).mono ?_;rintro e z ⟨rfl,d⟩;rw[hh2,d];clear d z hh2;go_wp2_with (at_builtin;refine cd _ rfl (.tmp 80) (.tmp 84) _ rfl w.heap.size 9 i0 _ 1 16 underlying41 B9 Ax EK BA rfl (by omega) (.slice AO a.length ES) a.length (a.flatMap Ae) rfl (r.alloc _) ⟨wr.heap.size+1,0,none⟩ 1 1 [.string cs[k].bl[m].1.A.name] rfl rfl (Hx wr _ _ _ _ rfl) (by simp[Value.oneCell']) (by omega) (by unfold maxLen;omega) (by omega) (by simp;omega) (wr.heap.size+2) (by simp) ?_;intro g5 HH T J D K P)
        have S:Ac [] w T:=((u.alloc _).alloc _).grown D (λq H=>Or.inr (C.lt q H).1);clear D K P;go_wp2
        go_roundw
        case rel=>
         refine⟨m+1,a++[cs[k].bl[m].1.A.name],by go_num,by omega,y,by simp;omega,?_,S⟩;simpa[Ae] using J
        case measure=>simp[intOf];omega
      ·(have y:Hid ((cs[k].bl.take (m+1)).foldl eA b=a):=by show _=_;rw[n.out];simp[eA,l]);clear n l;go_wp2
       go_roundw
       case rel=>exact⟨m+1,a,by go_num,by omega,y,by omega,r,u.alloc _⟩
       case measure=>simp[intOf];omega
     .have HZ:Hid ((cs.take (k+1)).foldl Kb []=a):=by
       have h:=W.out;rw[bP (by omega)]at h;show _=_;rw[CW _ _ B,HF.out,<-h];unfold Kb;rw[M.out]
      go_wp2
      go_roundw
      case rel=>exact⟨k+1,a,by go_num,by omega,HZ,by omega,C,u⟩
      case measure=>simp[intOf];omega
   |false=>
    (have M:Hid (Cn f cs[k].head.name=f++[cs[k].head.name]):=by show _=_;simp[Cn,hh]);(go_wp2_with fail);refine(Dg _ f cs[k].head.name w.heap.size _ G (by omega)).mono ?_;rintro e z ⟨rfl,d⟩;rw[hh,d];clear d z hh;go_wp2_with (at_builtin;refine cd _ rfl (.tmp 28) (.tmp 38) _ rfl w.heap.size 9 i0 _ 1 16 underlying41 B9 Ax EK BA rfl (by omega) (.slice H3 f.length H1) f.length (f.flatMap Ae) rfl (G.alloc _) ⟨wr.heap.size,0,none⟩ 1 1 [.string cs[k].head.name] rfl rfl (cj (cs:=#[.string cs[k].head.name]) (t:=9) (fr:=(0,0)) (cA wr _)) (by simp[Value.oneCell']) (by omega) (by unfold maxLen;omega) (by omega) (by simp;omega) (wr.heap.size+1) (by simp) ?_;intro g1 HP U HX HT H4 H7)
    have Y:Ac [] w U:=(I.alloc _).grown HT (λq H=>Or.inr (G.lt q H).1);(have F:U.ownsRow w.heap.size 9 1 (.slice (some ⟨g1,0,none⟩) (f.length+1) HP) (f++[cs[k].head.name]).length ((f++[cs[k].head.name]).flatMap Ae):=by simpa[Ae] using HX);(have X:(f++[cs[k].head.name]).length<=4*k+1:=by simp;omega);clear HT H4 H7 HX;go_wp2;obtain⟨b,M,F,X⟩:∃b,Hid (Cn f cs[k].head.name=b)/\U.ownsRow w.heap.size 9 1 (.slice (some ⟨g1,0,none⟩) (f.length+1) HP) b.length (b.flatMap Ae)/\b.length<=4*k+1:=⟨_,M,F,X⟩;clear HG O G I HO
    go_loopw [3,5] (λo i wq=>∃(m:Nat) (a:List cR),i=.int .i64 m/\m<=cs[k].bl.length/\Hid ((cs[k].bl.take m).foldl eA b=a)/\a.length<=4*k+1+m/\wq.ownsRow w.heap.size 9 1 o a.length (a.flatMap Ae)/\Ac [] w wq) (λ_ i _=>cs[k].bl.length-(intOf i).toNat)
    case atStart=>exact⟨0,b,rfl,b8 _,by show _=_;simp,by omega,F,Y⟩
    case round=>
     clear F Y;obtain⟨m,a,rfl,hm,W,JA,C,u⟩:=hrel;obtain⟨AO,ES,rfl⟩:=Aj C;have O:=(hP.kept u (by simp)).cell 0;simp at O;have K3:=u.size;have Q:=HR.out.1.kept u;obtain⟨g2,Ix,EX,_,Bx⟩:=Av Q.row (λc _=>BH c) k B;simp only[bK,bR,cI]at EX;obtain⟨⟨rfl,_,_⟩,_,rfl⟩:=EX;have AH:=Bx k B 3 (by omega);simp[Cs]at AH;rw[FA.out]at AH;have E:=Q.each cs[k] (bL B);clear Bx Q;by_cases j:m<cs[k].bl.length
     .obtain⟨gb,H6,N,KK,p⟩:=Av E.body (λc _=>Bw c) m j;rw[FA.out]at N;simp only[bK]at N;obtain⟨rfl,_,rfl⟩:=N;have hl:=E.lits cs[k].bl[m] (bL j);obtain⟨HL,HD,CL⟩:=Aj hl;have d0:=p m j 0 (by omega);have d1:=p m j 1 (by omega);have V:=p m j 2 (by omega);have d3:=p m j 3 (by omega);have d4:=p m j 4 (by omega);have d5:=p m j 5 (by omega);have d6:=p m j 6 (by omega);have d7:=p m j 7 (by omega);have d8:=p m j 8 (by omega);simp[AN,BQ]at d0 d1 V d3 d4 d5 d6 d7 d8;rw[CL]at V;clear p hl CL E;(have n:Hid ((cs[k].bl.take (m+1)).foldl eA b=eA a cs[k].bl[m]):=by show _=_;rw[CW _ _ j,W.out]);have r:=C.alloc (.cells #[.int .u8 cs[k].bl[m].1.kind.toNat,.string cs[k].bl[m].1.A.name,.slice HL cs[k].bl[m].1.A.args.length HD,.int .i64 cs[k].bl[m].1.A.at_,.int .u8 cs[k].bl[m].1.L.v.toNat,.string cs[k].bl[m].1.L.s,.int .u8 cs[k].bl[m].1.R.v.toNat,.string cs[k].bl[m].1.R.s,.int .i64 cs[k].bl[m].1.at_] 95);rcases Dp cs[k].bl[m] with⟨k1,l⟩|⟨k1,k2,l⟩|⟨k1,k2,l⟩
      .cases hh2:Dz a cs[k].bl[m].1.A.name with
       |true=>
        (have y:Hid ((cs[k].bl.take (m+1)).foldl eA b=a):=by show _=_;rw[n.out];simp[eA,Cn,l,hh2]);clear n l;(go_wp2_with fail);refine(Dg _ a cs[k].bl[m].1.A.name w.heap.size _ r (by omega)).mono ?_;rintro e z ⟨rfl,d⟩;rw[hh2,d];clear d z hh2;go_wp2
        go_roundw
        case rel=>exact⟨m+1,a,by go_num,by omega,y,by omega,r,u.alloc _⟩
        case measure=>simp[intOf];omega
       |false=>
        (have y:Hid ((cs[k].bl.take (m+1)).foldl eA b=a++[cs[k].bl[m].1.A.name]):=by show _=_;rw[n.out];simp[eA,Cn,l,hh2]);clear n l;(go_wp2_with fail);refine(Dg _ a cs[k].bl[m].1.A.name w.heap.size _ r (by omega)).mono ?_;rintro e z ⟨rfl,d⟩;rw[hh2,d];clear d z hh2;go_wp2_with (at_builtin;refine cd _ rfl (.tmp 80) (.tmp 84) _ rfl w.heap.size 9 i0 _ 1 16 underlying41 B9 Ax EK BA rfl (by omega) (.slice AO a.length ES) a.length (a.flatMap Ae) rfl (r.alloc _) ⟨wr.heap.size+1,0,none⟩ 1 1 [.string cs[k].bl[m].1.A.name] rfl rfl (Hx wr _ _ _ _ rfl) (by simp[Value.oneCell']) (by omega) (by unfold maxLen;omega) (by omega) (by simp;omega) (wr.heap.size+2) (by simp) ?_;intro g5 HH T J D K P)
        have S:Ac [] w T:=((u.alloc _).alloc _).grown D (λq H=>Or.inr (C.lt q H).1);clear D K P;go_wp2
        go_roundw
        case rel=>
         refine⟨m+1,a++[cs[k].bl[m].1.A.name],by go_num,by omega,y,by simp;omega,?_,S⟩;simpa[Ae] using J
        case measure=>simp[intOf];omega
      .cases hh2:Dz a cs[k].bl[m].1.A.name with
       |true=>
        (have y:Hid ((cs[k].bl.take (m+1)).foldl eA b=a):=by show _=_;rw[n.out];simp[eA,Cn,l,hh2]);clear n l;(go_wp2_with fail);refine(Dg _ a cs[k].bl[m].1.A.name w.heap.size _ r (by omega)).mono ?_;rintro e z ⟨rfl,d⟩;rw[hh2,d];clear d z hh2;go_wp2
        go_roundw
        case rel=>exact⟨m+1,a,by go_num,by omega,y,by omega,r,u.alloc _⟩
        case measure=>simp[intOf];omega
       |false=>
        (have y:Hid ((cs[k].bl.take (m+1)).foldl eA b=a++[cs[k].bl[m].1.A.name]):=by show _=_;rw[n.out];simp[eA,Cn,l,hh2]);clear n l;(go_wp2_with fail);refine(Dg _ a cs[k].bl[m].1.A.name w.heap.size _ r (by omega)).mono ?_;rintro e z ⟨rfl,d⟩;rw[hh2,d];clear d z hh2;go_wp2_with (at_builtin;refine cd _ rfl (.tmp 80) (.tmp 84) _ rfl w.heap.size 9 i0 _ 1 16 underlying41 B9 Ax EK BA rfl (by omega) (.slice AO a.length ES) a.length (a.flatMap Ae) rfl (r.alloc _) ⟨wr.heap.size+1,0,none⟩ 1 1 [.string cs[k].bl[m].1.A.name] rfl rfl (Hx wr _ _ _ _ rfl) (by simp[Value.oneCell']) (by omega) (by unfold maxLen;omega) (by omega) (by simp;omega) (wr.heap.size+2) (by simp) ?_;intro g5 HH T J D K P)
        have S:Ac [] w T:=((u.alloc _).alloc _).grown D (λq H=>Or.inr (C.lt q H).1);clear D K P;go_wp2
        go_roundw
        case rel=>
         refine⟨m+1,a++[cs[k].bl[m].1.A.name],by go_num,by omega,y,by simp;omega,?_,S⟩;simpa[Ae] using J
        case measure=>simp[intOf];omega
      ·(have y:Hid ((cs[k].bl.take (m+1)).foldl eA b=a):=by show _=_;rw[n.out];simp[eA,l]);clear n l;go_wp2
       go_roundw
       case rel=>exact⟨m+1,a,by go_num,by omega,y,by omega,r,u.alloc _⟩
       case measure=>simp[intOf];omega
     .have HZ:Hid ((cs.take (k+1)).foldl Kb []=a):=by
       have h:=W.out;rw[bP (by omega)]at h;show _=_;rw[CW _ _ B,HF.out,<-h];unfold Kb;rw[M.out]
      go_wp2
      go_roundw
      case rel=>exact⟨k+1,a,by go_num,by omega,HZ,by omega,C,u⟩
      case measure=>simp[intOf];omega
  ·(have HE:Hid (F8 cs=f):=by have h:=HF.out;rwa [bP (by omega)]at h);go_wp2;go_ret;rw[HE.out];exact⟨_,rfl,G,I⟩
