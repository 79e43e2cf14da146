import Derived.Test.YtoihbhenbmffcaaGreatDoorTBJ
set_option linter.all false
set_option maxHeartbeats 0
open List renaming length->Z
open Option renaming none->Y,some->V
open Go.Value renaming slice->U,int->X,string->O,pointer->j3
open Go.IntKind renaming i64->J
open Go.Ending renaming returned->kt
namespace Go.Proofs.YtoihbhenbmffcaaGreatDoor
open Go.RowKit Go.Proofs.Tryz
variable{w v:World}{n m i j:Nat}{o:Option Addr}{c:rc AV}
def Gg.past{A t:Option Addr}{B x:rc CU}{o c:Option Addr}{d b:Nat}{g f:rc Eb}(h:Gg w m t j x c b f)(l:Gg w n A i B o d g)(k:Ac (n::(U o (Z g) d).ownBlock.toList) w v)(y:n≠m)
  (z:∀q,(U o (Z g) d).ownBlock=V q->(U c (Z f) b).ownBlock≠V q):Gg v m t j x c b f:=by
 have r:=l.rstT k;refine⟨h.base.kept k ?_,h.prog.rst r (by simp),⟨Ag h.facts.row k (λq u a=>?_),λp s=>⟨r.row (h.facts.each p s).1 (by decide),(h.facts.each p s).2⟩⟩⟩
 .intro a;rcases mA.1 a with e|a
  .exact y e.symm
  .exact VO l.facts.row h.base (by decide) (by simpa using a)
 .rcases mA.1 a with rfl|a
  .exact VO h.facts.row l.base (by decide) u
  .exact z q (by simpa using a) u
def GN.rstT{f:Option Addr}{e:rc BP}(g:GN w n m o i c f j e)(k:Ac [n] w v):Gz [63] w v:=Gz.of k (λq b c t h a=>by
 simp only[my]at b
 subst b
 have d:=g.base
 unfold AI at d
 rw[d]at a
 simp only[mB,Obj.cells.injEq]at a
 rw[<-a.2.1]
 simp)
structure TB(w0 w:World)(bb cc rb pb:Nat)(lad:Option Addr)(lcp:Nat)(pcs:rc CU)(mad:Option Addr)(mcp:Nat)(qcs:rc CU)(rad:Option Addr)(rcp:Nat)(cs:rc AV)(u v x:rc Af):Prop where
 kept:Ac [] w0 w
 bb_:w0.heap.size<=bb
 cc_:w0.heap.size<=cc
 rb_:w0.heap.size<=rb
 ne:bb≠cc
 prog:∃sad scp fs tad tcp gs,Gg w bb lad lcp pcs sad scp fs/\Cx fs u/\Gg w cc mad mcp qcs tad tcp gs/\Cx gs v/\(∀q,(U sad (Z fs) scp).ownBlock=V q->w0.heap.size<=q)/\(∀q,(U tad (Z gs) tcp).ownBlock=V q->w0.heap.size<=q)/\∀q,(U sad (Z fs) scp).ownBlock=V q->(U tad (Z gs) tcp).ownBlock≠V q
 ref:∃fad fcp rs,GN w rb pb rad rcp cs fad fcp rs/\rs.map BP.f=x
 fitU:∀f∈u,Dk cs f/\FZ f
 fitV:∀f∈v,Dk cs f/\FZ f
 fitX:∀f∈x,Dk cs f/\FZ f
 full:∀f∈x,GL f
 zG:Dy x
section
variable {s:zA} {w0 w w':World} {bb cc rb pb:Nat} {lad:Option Addr} {lcp:Nat} {pcs:rc CU} {mad:Option Addr} {mcp:Nat} {qcs:rc CU} {rad:Option Addr} {rcp:Nat} {cs:rc AV} {u v x:rc Af}
def TB.to(h:TB w0 w bb cc rb pb lad lcp pcs mad mcp qcs rad rcp cs u v x)(k:Ac [] w w'):TB w0 w' bb cc rb pb lad lcp pcs mad mcp qcs rad rcp cs u v x:=by
 obtain⟨r,g,p,f,c,m,n,e,q,l,o⟩:=h.prog;obtain⟨j,i,a,d,b⟩:=h.ref;exact⟨h.kept.trans k,h.bb_,h.cc_,h.rb_,h.ne,⟨r,g,p,f,c,m,n.kept k,e,q.kept k,l,o⟩,⟨j,i,a,d.kept k,b⟩,h.fitU,h.fitV,h.fitX,h.full,h.zG⟩
def TB.swap(h:TB w0 w bb cc rb pb lad lcp pcs mad mcp qcs rad rcp cs u v x):TB w0 w cc bb rb pb mad mcp qcs lad lcp pcs rad rcp cs v u x:=by
 obtain⟨r,g,o,f,b,k,l,d,p,i,m,a,n⟩:=h.prog;exact⟨h.kept,h.cc_,h.bb_,h.rb_,λe=>h.ne e.symm,⟨f,b,k,r,g,o,p,i,l,d,a,m,λq c j=>n q j c⟩,h.ref,h.fitV,h.fitU,h.fitX,h.full,h.zG⟩
def TB.turn(h:TB w0 w bb cc rb pb lad lcp pcs mad mcp qcs rad rcp cs u v x){m:rc Af}(T:∀f∈m,Dk cs f/\FZ f){r:Int}{R:Ending->World->Prop}{y:Nat}{o:Array Value}
  (hc:∀d g b,Gg w bb lad lcp pcs d g b->Cx b u->Calls Tryz.prog y o w (EF bb lad lcp pcs (U d (Z b) g) (r,m) w)):
  Calls Tryz.prog y o w λe k=>e=kt (X J r)/\TB w0 k bb cc rb pb lad lcp pcs mad mcp qcs rad rcp cs m v x/\Gz [117,104] w k:=by
 obtain⟨d,g,b,L,H,P,c,B,z,M,p,W,s⟩:=h.prog;obtain⟨D,C,Q,N,q2⟩:=h.ref;refine(hc d g b c B).mono ?_;rintro _ k ⟨E,I,F,rfl,S,G,j,t⟩;refine⟨rfl,⟨h.kept.trans' j (λi n=>Or.inr ?_),h.bb_,h.cc_,h.rb_,h.ne,⟨E,I,F,L,H,P,S,G,z.past c j h.ne s,M,λq l=>?_,W,λq l A=>?_⟩,⟨D,C,Q,N.rst (c.rstT j) (by simp),q2⟩,T,h.fitV,h.fitX,h.full,h.zG⟩,c.rstT j⟩
 .rcases mA.1 n with rfl|n
  .exact h.bb_
  .exact p i (by simpa using n)
 .rcases t q l with a|a
  .exact p q a
  .have:=h.kept.size;omega
 .rcases t q l with a|a
  .exact s q a A
  .have:=(z.facts.row.lt q A).2;omega
def TB.ins(b:Jd s pcs cs)(h:TB w0 w bb cc rb pb lad lcp pcs mad mcp qcs rad rcp cs u v x)(S:zA)(j:S.size<=9223372036854775807):Calls Tryz.prog 33 #[j3 (V ⟨bb,0,Y⟩),O S] w λe c=>e=kt (X J (Fj cs u S).1)/\TB w0 c bb cc rb pb lad lcp pcs mad mcp qcs rad rcp cs (Fj cs u S).2 v x/\Gz [117,104] w c:=by
 have d:Dy u:=by obtain⟨_,_,_,_,_,_,_,a,_⟩:=h.prog;exact a.zG
 obtain⟨f,g,i,_⟩:=b.small;have o:=Iw b.order d h.fitU;exact h.turn (R:=λ_ _=>True) (UR d h.fitU S) λn k m l a=>Xu bb lad lcp pcs n k m cs u S w l a (V5 b.both S) f g i j (by have:=congrArg List.length a.same;simp at this;omega)
def TB.del(b:Jd s pcs cs)(h:TB w0 w bb cc rb pb lad lcp pcs mad mcp qcs rad rcp cs u v x)(S:zA)(i:S.size<=9223372036854775807):Calls Tryz.prog 36 #[j3 (V ⟨bb,0,Y⟩),O S] w λe c=>e=kt (X J (Ft cs u S).1)/\TB w0 c bb cc rb pb lad lcp pcs mad mcp qcs rad rcp cs (Ft cs u S).2 v x/\Gz [117,104] w c:=by
 have k:Dy u:=by obtain⟨_,_,_,_,_,_,_,a,_⟩:=h.prog;exact a.zG
 obtain⟨d,f,g,_⟩:=b.small;have o:=Iw b.order k h.fitU;exact h.turn (R:=λ_ _=>True) (TJ h.fitU S) λn j m l a=>Xb bb lad lcp pcs n j m cs u S w l a (V5 b.both S) d f g i (by have:=congrArg List.length a.same;simp at this;omega)
def TB.turnR(h:TB w0 w bb cc rb pb lad lcp pcs mad mcp qcs rad rcp cs u v x)(t:∀f∈u,GL f){r:Int}{e:Ending}(y:Hg rb pb rad rcp cs (r,u) w e w'):e=kt (X J r)/\TB w0 w' bb cc rb pb lad lcp pcs mad mcp qcs rad rcp cs u v u/\Gz [63] w w':=by
 obtain⟨s,D,B,rfl,z,j,a⟩:=y;obtain⟨F,E,G,b,q2⟩:=h.ref;obtain⟨q,A,g,l,k,n,o,c,C,m,p⟩:=h.prog;exact⟨rfl,⟨h.kept.trans' a (λi d=>Or.inr (by simp only[my]at d;rw[d];exact h.rb_)),h.bb_,h.cc_,h.rb_,h.ne,⟨q,A,g,l,k,n,o.beside b a,c,C.beside b a,m,p⟩,⟨s,D,B,j,z⟩,h.fitU,h.fitV,h.fitU,t,c.zG⟩,b.rstT a⟩
def TB.ze(a:Jd s pcs cs)(S:zA)(h:TB w0 w bb cc rb pb lad lcp pcs mad mcp qcs rad rcp cs (Fj cs x S).2 v x)(k:S.size<=9223372036854775807):Calls Tryz.prog 34 #[j3 (V ⟨rb,0,Y⟩),O S] w λe b=>(∃r:Int,e=kt (X J r))/\TB w0 b bb cc rb pb lad lcp pcs mad mcp qcs rad rcp cs (Fj cs x S).2 v (Fj cs x S).2/\Gz [63] w b:=by
 obtain⟨n,l,c,m,rfl⟩:=h.ref;obtain⟨_,_,_,q,p,o⟩:=a.small;have j:=Iw a.order h.zG h.fitX;rw[mI]at j;refine(Yg rb pb rad rcp cs n l c S w m a.fits q p o k (by omega)).mono λe b g=>?_
 obtain⟨i,t⟩:=h.turnR (gi h.zG (λf d=>(h.fitX f d).1.canon) h.full S) g;exact⟨⟨_,i⟩,t⟩
def TB.delR(a:Jd s pcs cs)(S:zA)(h:TB w0 w bb cc rb pb lad lcp pcs mad mcp qcs rad rcp cs (Ft cs x S).2 v x)(i:S.size<=9223372036854775807):Calls Tryz.prog 37 #[j3 (V ⟨rb,0,Y⟩),O S] w λe b=>(∃r:Int,e=kt (X J r))/\TB w0 b bb cc rb pb lad lcp pcs mad mcp qcs rad rcp cs (Ft cs x S).2 v (Ft cs x S).2/\Gz [63] w b:=by
 obtain⟨l,j,c,k,rfl⟩:=h.ref;obtain⟨_,_,_,o,n,m⟩:=a.small;have g:=Iw a.order h.zG h.fitX;rw[mI]at g;refine(Xh rb pb rad rcp cs l j c S w k a.fits o n m i (by omega)).mono λe b d=>?_
 obtain⟨f,p⟩:=h.turnR (fu h.full S) d;exact⟨⟨_,f⟩,p⟩
def TB.mod(a:Jd s pcs cs)(h:TB w0 w bb cc rb pb lad lcp pcs mad mcp qcs rad rcp cs u v x):Calls Tryz.prog 35 #[j3 (V ⟨bb,0,Y⟩)] w (JH cs u w):=by
 obtain⟨f,c,e,_,_,_,d,b,_⟩:=h.prog;have g:=Iw a.order b.zG h.fitU;exact Rv bb lad lcp pcs f c e s cs u w d b a.both a.order a.size a.eq h.fitU (by omega)
def TB.row(h:TB w0 w bb cc rb pb lad lcp pcs mad mcp qcs rad rcp cs u v x):∃b a,w.cell? ⟨rb,1,Y⟩=V (U b (Z x) a):=by
 obtain⟨b,a,d,c,rfl⟩:=h.ref;have:=c.base.cell 1;simp at this;exact⟨b,a,by rw[mI];exact this⟩
def TB.fact(h:TB w0 w bb cc rb pb lad lcp pcs mad mcp qcs rad rcp cs u v x)(i:Nat)(o:i<Z x):∃g a j l m p,w.cell? ⟨rb,1,Y⟩=V (U (V ⟨g,0,Y⟩) (Z x) a)/\w.cell? ⟨g,i*2,Y⟩=V (O j)/\w.cell? ⟨g,i*2+1,Y⟩=V (U l m p)/\
  Calls Tryz.prog 28 #[.agg #[O j,U l m p]] w λe s=>e=kt (O (Bv x[i]))/\Ac [] w s:=by
 obtain⟨D,a,d,b,rfl⟩:=h.ref;have c:i<Z d:=by rw[mI]at o;exact o
 obtain⟨g,E,n,t,z,B,r,A,C,y⟩:=CZ b.facts i c;simp only[mu]at r;obtain⟨rfl,-,rfl⟩:=r;have k:=b.base.cell 1;simp at k;have q:=b.facts.each _ (mw c);have F:=(h.fitX (d[i].f) (mR (mw c))).2.1;refine⟨g,a,n,z,Z t,B,by rw[mI];exact k,C,y,?_⟩;have:=N7 d[i] w q.1 q.2 (by omega);rw[List.getElem_map];rw[A]at this⊢;exact this
end
set_option maxRecDepth 100000
theorem Rh(M0:∀w,Calls prog 19 #[] w λe d=>e=kt (.bool true)/\Ac [] w d)(P:zA)(sa:Option Addr)(o FB:Nat)(EY:Nat->Int)(S T:Nat->zA)(w:World)(hP:P.size<=9223372036854775807)(h:o=0\/∃ab ao,sa=V ⟨ab,ao,Y⟩/\Qt w ab ao o EY S T/\o<=FB/\FB<=9223372036854775807)(hS:∀i,i<o->(S i).size<=9223372036854775807):
  Calls prog 11 #[O P,U sa o FB] w λe d=>e=kt (.bool true)/\Ac [] w d:=by
 have YP:=Ab h;have TV:=Ab hS;have X1:=Ab M0;have DG:Hid (∀a,Calls prog 31 #[O P] a (Mj P a)):=λa=>R7 P a hP
 have P0:Hid (∀a,Calls prog 32 #[O P] a (JZ P a)):=λa=>Rn P a hP
 have LS:=Ab (DG w);clear h hS hP M0;go_enter func11,ntmps11;go_wp2_with fail
 refine LS.mono ?_;rintro _ w1 ⟨bv,er,HO,rfl,BT,K8,MY,k1⟩;have FL:=Ab BT;have H2:=Ab K8;have H3:=Ab MY;have A0:=Ab k1;have LB:=Ab (DG w1);clear LS DG BT K8 MY k1;go_wp2_with fail
 refine LB.mono ?_;rintro _ w2 ⟨cv,HH,bd,rfl,NS,SL,N4,k2⟩;have N2:=Ab NS;have HY:=Ab SL;have Ix:=Ab N4;have BS:=Ab k2;have CW:=Ab (P0 w2);clear LB P0 NS SL N4 k2;go_wp2_with fail
 refine CW.mono ?_;rintro _ w3 ⟨rv,ap,ba,rfl,A2,Nx,NE,k3⟩;obtain⟨rfl,rfl⟩:=Prod.mk.inj (EH A2 FL);obtain⟨e1,e2⟩:=Prod.mk.inj (EH A2 N2);subst e1 e2;have NA:=Ab Nx;have KD:=Ab NE;have B0:=Ab k3;clear CW A2 Nx NE k3 FL N2;by_cases h0:HH=0
 .obtain⟨y,H,E,z,a2,e1,LM,HR,hs,TH,hB⟩:=H3 h0;obtain⟨p,F,G,A,b1,e2,RO,NL,_,LC,NB⟩:=Ix h0;obtain⟨s,D,C,B,b,e3,SB,RB,hF,_,HI,Bx,FW⟩:=KD h0;subst e1 e2 e3;have Jx:=DQ HI Bx FW;have I:Hid (Jd P z b):=⟨hB.other (TH.trans Bx.symm) Jx,J0 FW,hF,hs,HI,Bx⟩;have NM:Hid (Jd P A b):=⟨NB.other (LC.trans Bx.symm) Jx,J0 FW,hF,hs,HI,Bx⟩;have K7:y≠p:=by have:=HR.base.lt;omega
  have M6:Hid (TB w w3 y p s D H E z F G A C B b [] [] []):=⟨(A0.trans BS).trans B0,LM,nD A0.size RO,nD (A0.trans BS).size SB,K7,⟨Y,0,[],Y,0,[],HR.kept (BS.trans B0),⟨rfl,List.Pairwise.nil,λf m=>by cases m⟩,NL.kept B0,⟨rfl,List.Pairwise.nil,λf m=>by cases m⟩,(λq hq=>by cases hq),(λq hq=>by cases hq),(λq hq=>by cases hq)⟩,⟨Y,0,[],RB,rfl⟩,(λf m=>by cases m),(λf m=>by cases m),(λf m=>by cases m),(λf m=>by cases m),List.Pairwise.nil⟩;have LD:Hid (∀u v x a,TB w a y p s D H E z F G A C B b u v x->Calls prog 35 #[j3 (V ⟨y,0,Y⟩)] a (JH b u a)):=λu v x a n=>n.mod I
  have X0:Hid (∀u v x a,TB w a y p s D H E z F G A C B b u v x->Calls prog 35 #[j3 (V ⟨p,0,Y⟩)] a (JH b v a)):=λu v x a n=>n.swap.mod NM
  have bp:P.size<=300:=hs;clear LM HR hs TH hB RO NL LC NB SB RB hF HI Bx FW Jx K7 H2 HY NA H3 Ix KD A0 BS B0;go_wp2_with fail
  refine(F7 0 w3).mono ?_;rintro _ Q ⟨rfl,HQ⟩;subst HQ;go_wp2_with fail
  refine(F7 0 Q).mono ?_;rintro _ w5 ⟨rfl,H8⟩;subst H8;go_wp2_with fail
  go_loopg [14] o (λgk i wr=>∃(k:Nat) (u:rc Af),i=X J k/\k<=o/\k<=1152921504606846976/\gk=o-k/\Hid (TB w wr y p s D H E z F G A C B b u [] u))
  case atStart=>exact⟨0,[],rfl,by omega,by omega,rfl,M6⟩
  case round=>
   clear M6;obtain⟨k,u,rfl,hk,bt,FC,HB⟩:=hrel;have HG:=Ab FC;clear FC;by_cases K3:k<o/\k<1152921504606846976
   .obtain⟨Ha,a5⟩:=K3;(have BT:(k:Int)<(o:Int):=by omega);(have TX:(k:Int)<1152921504606846976:=by omega);obtain⟨ab,ao,rfl,TL,hl,hc⟩:∃ab ao,sa=V ⟨ab,ao,Y⟩/\Qt w ab ao o EY S T/\o<=FB/\FB<=9223372036854775807:=by
     rcases Aa YP with h|h
     .omega
     .exact h
    obtain⟨d0,d1,d2⟩:=TL.kept HB.kept k Ha;have HN:=Aa TV k Ha;have AB:=Ab (HB.to ((re [] wr).alloc (.cells [X J (EY k),O (S k),O (T k)].toArray 29)));have HT:=Ab (rf wr [X J (EY k),O (S k),O (T k)] 29);have a7:=HT.lt;generalize EY k=KK at*;generalize S k=SS at*;generalize T k=TT at*;by_cases h5:KK=5
    .subst h5;have M:=Ab (AB.ins I SS HN);(have W:Hid (∀a,TB w a y p s D H E z F G A C B b (Fj b u SS).2 [] u->Calls prog 34 #[j3 (V ⟨s,0,Y⟩),O SS] a λe d=>(∃r:Int,e=kt (X J r))/\TB w d y p s D H E z F G A C B b (Fj b u SS).2 [] (Fj b u SS).2/\Gz [63] a d):=λa n=>n.ze I SS HN);generalize Fj b u SS=R at M W;obtain⟨r,u'⟩:=R;(go_wp2_with fail);refine M.mono ?_;rintro _ Q ⟨rfl,FO,EX⟩;have BA:=Ab (EX.zO HT (by decide));have ES:=Ab (W Q FO);have o1:=BA.cell 1;simp at o1;clear M W FO EX;(go_wp2_with fail);refine ES.mono ?_;rintro _ w5 ⟨⟨r2,rfl⟩,B9,HD⟩;have M1:=Ab (HD.zO BA (by decide));have K9:=Ab (LD u' [] u' w5 B9);have HJ:=Ab B9;clear ES B9 HD o1 BA;(go_wp2_with fail);refine K9.mono ?_;rintro _ w7 ⟨t,rfl,_,k7⟩;have VL:=Ab (HJ.to k7);have o0:=(M1.kept k7).cell 0;simp at o0;clear K9 k7 HJ M1;go_wp2_with fail
     go_roundg (o-(k+1))
     case measure=>have:=Aa HG;omega
     case rel=>exact⟨k+1,u',by go_num,by omega,by omega,rfl,VL⟩
    ·(have a6:(KK==5)=false:=by simp[h5]);by_cases h6:KK=6
     .subst h6;have M:=Ab (AB.del I SS HN);(have W:Hid (∀a,TB w a y p s D H E z F G A C B b (Ft b u SS).2 [] u->Calls prog 37 #[j3 (V ⟨s,0,Y⟩),O SS] a λe d=>(∃r:Int,e=kt (X J r))/\TB w d y p s D H E z F G A C B b (Ft b u SS).2 [] (Ft b u SS).2/\Gz [63] a d):=λa n=>n.delR I SS HN);generalize Ft b u SS=R at M W;obtain⟨r,u'⟩:=R;clear h5;(go_wp2_with fail);refine M.mono ?_;rintro _ Q ⟨rfl,FO,EX⟩;have BA:=Ab (EX.zO HT (by decide));have ES:=Ab (W Q FO);have o1:=BA.cell 1;simp at o1;clear M W FO EX;(go_wp2_with fail);refine ES.mono ?_;rintro _ w5 ⟨⟨r2,rfl⟩,B9,HD⟩;have HJ:=Ab B9;clear ES B9 HD o1 BA;go_wp2_with fail
      go_roundg (o-(k+1))
      case measure=>have:=Aa HG;omega
      case rel=>exact⟨k+1,u',by go_num,by omega,by omega,rfl,HJ⟩
     ·(have bx:(KK==6)=false:=by simp[h6]);clear h5 h6;go_wp2
      go_roundg (o-(k+1))
      case measure=>have:=Aa HG;omega
      case rel=>exact⟨k+1,u,by go_num,by omega,by omega,rfl,AB⟩
   .obtain⟨b3,RI,WB⟩:=HB.row;(have Nd:(k:Int)<(o:Int)->¬(k:Int)<1152921504606846976:=λh1 h2=>K3 ⟨by omega,by omega⟩);have RT:Z u<=258:=Iw I.order HB.zG HB.fitX;(have NY:Hid (TB w wr y p s D H E z F G A C B b u (u.drop (Z u)) u):=by rw[List.drop_length];exact HB);(have Op:Hid (P=JM P (u.drop (Z u)).reverse):=by show _=_;rw[List.drop_length];rfl);have WW:(⟨#[32]⟩:zA).size=1:=rfl;clear K3 HB HG;by_cases Ha:(k:Int)<(o:Int)
    case' pos=>have TX:=Nd Ha
    all_goals
     clear Nd;go_wp2_with fail
     go_loopg [16,17] (Z u) (λgk tx i a=>∃(j:Nat) (l:zA),i=X J ((j:Int)-1)/\j<=Z u/\gk=j/\tx=O l/\l.size+j*301<=300+Z u*301/\Hid (l=JM P (u.drop j).reverse)/\Hid (TB w a y p s D H E z F G A C B b u (u.drop j) u))
     case atStart=>exact⟨Z u,P,by go_num,by omega,rfl,rfl,by omega,Op,NY⟩
     case round=>
      clear NY Op WB;obtain⟨j,l,rfl,hj,FC,rfl,bz,HX,N⟩:=hrel;have HG:=Ab FC;clear FC;by_cases MB:0<j
      .obtain⟨i,rfl⟩:∃i,j=i+1:=⟨j-1,by omega⟩;(have Nj:((i+1:Nat):Int)-1=(i:Int):=by omega);rw[Nj];(have hi:i<Z u:=by omega);have hm:=mw hi;(have X2:(Bv u[i]).size<=300:=by have:=NG (N.full _ hm) (N.fitX _ hm).1.two;rw[<-A5]at this;exact this);(have HL:Hid (∀v c,TB w c y p s D H E z F G A C B b u v u->∃g RI nm IJ al H4,c.cell? ⟨s,1,Y⟩=V (U (V ⟨g,0,Y⟩) (Z u) RI)/\c.cell? ⟨g,i*2,Y⟩=V (O nm)/\c.cell? ⟨g,i*2+1,Y⟩=V (U IJ al H4)/\Calls prog 28 #[.agg #[O nm,U IJ al H4]] c λe d=>e=kt (O (Bv u[i]))/\Ac [] c d):=λv c n=>n.fact i hi);have H7:Hid (∀c,TB w c y p s D H E z F G A C B b u (u.drop (i+1)) u->Calls prog 33 #[j3 (V ⟨p,0,Y⟩),O (Bv u[i])] c λe d=>e=kt (X J 0)/\TB w d y p s D H E z F G A C B b u (u.drop i) u):=λc n=>by
        have W0:=fL n.zG (λf m=>(n.fitX f m).1) n.full hi;refine(n.swap.ins NM (Bv u[i]) (by omega)).mono ?_;rintro _ d ⟨rfl,h1,_⟩;rw[W0]at h1⊢;exact⟨rfl,h1.swap⟩
       have RV:Hid (l++⟨#[32]⟩++Bv u[i]=JM P (u.drop i).reverse):=by
        show _=_;rw[mQ hi,List.reverse_cons,Q3,<-Aa HX];rfl
       generalize Bv u[i]=FT at X2 HL H7 RV;obtain⟨g,fc,nm,IJ,al,H4,c0,c1,c2,CL⟩:=HL _ wr N;have AH:=Ab CL;(have VR:(l++⟨#[32]⟩:zA).size=l.size+1:=by rw[mH,WW]);(have ar:(l++⟨#[32]⟩++FT:zA).size=l.size+1+FT.size:=by rw[mH,VR]);have U0:Z u*301<=258*301:=nB _ RT;(have VS:(0:Int)<=(i:Int):=by omega);(have av:(i:Int)<(Z u:Int):=by omega);clear CL hm Nj MB;(go_wp2_with fail);refine AH.mono ?_;rintro _ wa ⟨rfl,ka⟩;have M2:=Ab (H7 wa (N.to ka));clear AH H7 ka c0 c1 c2 N;(go_wp2_with fail);refine M2.mono ?_;rintro _ wb ⟨rfl,n⟩;obtain⟨g2,an,b7,cb,lY,b4,c0,c1,c2,CL⟩:=HL _ wb n;have M3:=Ab CL;have Mo:=Ab n;clear M2 HL CL n;(go_wp2_with fail);refine(F7 0 wb).mono ?_;rintro _ wc ⟨rfl,Wa⟩;subst Wa;(go_wp2_with fail);refine M3.mono ?_;rintro _ wd ⟨rfl,kd⟩;have W1:=Ab (Mo.to kd);clear M3 Mo kd c0 c1 c2;go_wp2_with fail
       go_roundg i
       case measure=>have:=Aa HG;omega
       case rel=>exact⟨i,l++⟨#[32]⟩++FT,by go_num,by omega,rfl,rfl,by omega,RV,W1⟩
      ·(obtain rfl:j=0:=by omega);(have AT:Hid (TB w wr y p s D H E z F G A C B b u u u):=by have h:=Aa N;rw[pF]at h;exact h);(have ZV:Hid (l=JM P u.reverse):=by have h:=Aa HX;rw[pF]at h;exact h);have U0:Z u*301<=258*301:=nB _ RT;have ST:=Ab (LD u u u wr AT);(have LE:Hid (∀c,Calls prog 14 #[O l] c λe d=>∃(t:zA) (r:Int×Int),e=kt (.tuple #[O t,X J r.1,X J r.2])/\El l (jw l) r/\JI l t r.1/\Ac [] c d):=λc=>PR l c (by omega));(have S0:Hid (∀c,Calls prog 15 #[O l] c λe d=>∃(pv:Value) (er HO:Int),e=kt (.tuple #[pv,X J er,X J HO])/\DK l er HO/\Sr l pv er d/\Ac [] c d):=λc=>JP l c (by omega));(have NN:Hid (∀t L,Y2 b u t->Y2 b u L->t=L):=λt L h h'=>iC I.order I.both.pass (λf m=>(AT.fitX f m).1) (by omega) h h');have K4:Hid (∀t L,JI l t 0->Y2 b u L->t=L):=λt L h h'=>by
        rw[Aa ZV]at h;exact W6 I.order I.both.pass I.eq I.read (λf m=>(AT.fitX f m).1) (by omega) (λf m=>AT.full f (List.mem_reverse.1 m)) (λf=>List.mem_reverse) h h'
       (have VS:¬(0:Int)<=((0:Nat):Int)-1:=by omega);clear N HX MB HG;(go_wp2_with fail);refine ST.mono ?_;rintro _ wa ⟨t1,rfl,OH,ka⟩;have AH:=Ab OH;have AB:=Ab (AT.to ka);have RE:=Ab (X0 u u u wa AB);clear ST OH ka AT;(go_wp2_with fail);refine RE.mono ?_;rintro _ wb ⟨t2,rfl,Pl,kb⟩;obtain rfl:=NN t1 t2 AH Pl;have PT:=Ab (AB.kept.trans kb);have SJ:=Ab (LE wb);clear RE Pl kb AB NN LE;(go_wp2_with fail);refine SJ.mono ?_;rintro _ wc ⟨t3,⟨h3,a3⟩,rfl,BT,NX,kc⟩;have FL:=Ab BT;have HU:=Ab NX;have N0:=Ab (PT.trans kc);have CW:=Ab (S0 wc);clear SJ BT NX kc PT S0;(go_wp2_with fail);refine CW.mono ?_;rintro _ wd ⟨pv,k4,a4,rfl,A2,_,kd⟩;obtain⟨rfl,rfl⟩:=Prod.mk.inj (EH A2 FL);have LL:=Ab (N0.trans kd);clear CW A2 kd FL N0;(have HM:Hid (∀c,Ac [] w c->Calls prog 19 #[] c λe d=>e=kt (.bool true)/\Ac [] w d):=λc hk=>(X1 c).mono λe d h=>⟨h.1,hk.trans h.2⟩);by_cases K1:h3=0
       .subst K1;obtain rfl:=K4 _ _ HU AH;have EM:=Ab (HM wd LL);clear K4 HU AH HM;(go_wp2_with fail);refine(F7 0 wd).mono ?_;rintro _ we ⟨rfl,T0⟩;subst T0;(go_wp2_with fail);refine EM.mono ?_;rintro _ wf ⟨rfl,kf⟩;have H6:=Ab kf;clear EM kf;(go_wp2_with fail);go_ret;exact⟨by simp,H6⟩
       ·(have b0:(h3==0)=false:=by simp[K1]);have EM:=Ab (HM wd LL);clear K4 HU AH HM K1;(go_wp2_with fail);refine EM.mono ?_;rintro _ wf ⟨rfl,kf⟩;have H6:=Ab kf;clear EM kf;(go_wp2_with fail);go_ret;exact⟨by simp,H6⟩
 .obtain rfl:=H2 h0;obtain rfl:=HY h0;have UO:=Ab ((A0.trans BS).trans B0);have ca:(HH !=0)=true:=by simp[h0]
  clear H3 Ix KD H2 HY NA A0 BS B0;go_wp2_with fail
  refine(F7 HH w3).mono ?_;rintro _ Q ⟨rfl,HQ⟩;subst HQ;go_wp2_with fail
  refine(F7 HH Q).mono ?_;rintro _ w5 ⟨rfl,H8⟩;subst H8;go_wp2_with fail
  go_ret;exact⟨by simp,UO⟩
