import Derived.Test.YtoihbhenbmffcaaGreatZAZ
set_option linter.all false
set_option maxHeartbeats 0
open List renaming length->Z
open Option renaming none->Y,some->V
open Go.Value renaming slice->U,int->X,string->O,pointer->j2,ownBlock->kF
open Go.IntKind renaming i64->J
namespace Go.Proofs.YtoihbhenbmffcaaGreat
open Go.RowKit Go.Proofs.Tryz
def F2.snoc{α β:Type}{R:α->β->Prop}{a:α}{b:β}:∀{l:kJ α} {m:kJ β},F2 R l m->R a b->F2 R (l++[a]) (m++[b])
 |[],[],_,h=>F2.cons h F2.nil
 |[],_::_,h,_=>h.elim
 |_::_,[],h,_=>h.elim
 |x::l,y::m,h,hr=>F2.cons h.1 (F2.snoc (l:=l) (m:=m) h.2 hr)
def Un(cs:kJ AY)(fs:kJ BD)(w:World)(e:Ending)(w':World):Prop:=∃(qb:Nat) (qad:Option Addr) (qcp:Nat) (ws:kJ AY),e=.returned (j2 (V ⟨qb,0,Y⟩))/\AF w' qb [U qad (Z (cs++ws)) qcp] 84/\Cd w' (U qad (Z (cs++ws)) qcp) (cs++ws)/\F2 Gi (fs.map BD.f) ws/\Ac [] w w'
set_option maxRecDepth 100000
theorem XM(bb pb:Nat)(Op:Option Addr)(M1:Nat)(a:kJ AY)(Nx:Option Addr)(Nq:Nat)(o:kJ BD)(w:World)
  (hB:AF w bb [j2 (V ⟨pb,0,Y⟩),U Nx (Z o) Nq] 52) (hP:AF w pb [U Op (Z a) M1] 84) (hR:Cd w (U Op (Z a) M1) a) (hS:D8 w (U Nx (Z o) Nq) o) (aa:Z a<=1000) (WW:Z o<=1000):
  Calls prog 28 #[j2 (V ⟨bb,0,Y⟩)] w (Un a o w):=by
 have HB:=Ab hB;have HP:=Ab hP;have HR:=Ab hR;have HS:=Ab hS;have HY:=Ab (kN w [U Y 0 0] 84);have MY:=Ab ((kL [] w).alloc (.cells [U Y 0 0].toArray 84));obtain⟨i0,M6,K9,NE,MB⟩:=gH Tryz.zr;clear hB hP hR hS;go_enter func28,ntmps28;obtain⟨N,hN⟩:=kK w.heap.size;rw[hN]at HY;have HN:=Ab hN;go_wp2_with fail
 clear hN
 go_loopg [4] (Z a) (λgk i wr=>∃(k:Nat) (Q:Value),i=X J k/\k<=Z a/\gk=Z a-k/\Hid (AF wr N [Q] 84)/\Hid (wr.ownsRow (N+1) 90 5 Q k ((a.take k).flatMap BG))/\Hid (Ac [] w wr))
 case atStart=>exact⟨0,U Y 0 0,rfl,by omega,rfl,HY,fK _ _ _ _,MY⟩
 case round=>
  clear HY MY;obtain⟨k,Q,rfl,B,NL,x,z,q⟩:=hrel;have HG:=Ab NL;clear NL;obtain⟨I,H,rfl⟩:=Aj z;have c0:=(HB.kept q).cell 0;have y:=(HB.kept q).cell 1;have p0:=(HP.kept q).cell 0;have q0:=x.cell 0;have qf:=x.frozen 0;simp at c0 y p0 q0;have ST:=x.lt;by_cases D:k<Z a
  ·(have SP:(k:Int)<(Z a:Int):=by omega);(have WS:(0:Int)<=(k:Int):=by omega);obtain⟨g,cap,hd,NM,K2,LM,LC,bl,a5,E,FW,EX,e0,e1,e2,e3⟩:=Iu (HR.kept q) k D;have e4:wr.cell? ⟨g,k*5+4,Y⟩=V (X J a5):=by
    obtain⟨g',WB,K3,_,RI⟩:=AC (HR.kept q).row (λc _=>Bw c) k D;have h4:=RI k D 4 (by omega);simp only[fg]at E K3;rw[FW]at h4;simp[BG]at h4;have:=E.1.symm.trans K3.1;simp only[fu,gi]at this;rw[this.1];exact h4
   simp only[fg]at E;obtain⟨rfl,-,rfl⟩:=E;have W:Hid ((a.take k).flatMap BG++[O hd.name,U NM (Z hd.args) K2,X J hd.at_,U LM (Z bl) LC,X J a5]=(a.take (k+1)).flatMap BG):=by
    show _=_;rw[fm D,fR,FW];rfl
   clear EX FW;go_wp2_with fail
   go_region_law (refine iU _ (by rfl) _ _ _ (by rfl) (N+1) 90 i0 _ 5 80 underlying82 M6 K9 NE MB rfl (by omega) (U I k H) k ((a.take k).flatMap BG) (by rfl) ((CN (Aa z)).alloc _) ⟨wr.heap.size,0,Y⟩ 1 1 [O hd.name,U NM (Z hd.args) K2,X J hd.at_,U LM (Z bl) LC,X J a5] (by rfl) (by rfl) (fM (fX wr.drew _)) (by simp[Value.oneCell']) (by omega) (by unfold maxLen;omega) (by omega) (by simp;omega) (wr.heap.size+1) (by simp) ?_;intro e m w5 C A AR CL;have u:=((Aa x).drew.alloc _).grown A (AS (Aa z) N (by omega));have P:=u.cell 0;have CC:=u.frozen 0;simp at P)
   all_goals
    have MN:=(C.lt e rfl).1;have HI:=Ab (u.set 0 (U (V ⟨e,0,Y⟩) (k+1) m));have S:=Af C (p:=⟨N,0,Y⟩) (by simp[kF];omega) (U (V ⟨e,0,Y⟩) (k+1) m);rw[Aa W]at S;have H2:=Ab S;have H8:=Ab ((((Aa q).drew.alloc _).grown A (λk B=>Or.inr (by have h1:=(World.ownsRow.lt (Aa z) k B).1;have L:=Aa HN;omega))).setCell (p:=⟨N,0,Y⟩) (Or.inr (by have L:=Aa HN;show w.heap.size<=N;omega)) (U (V ⟨e,0,Y⟩) (k+1) m));clear C A AR CL u CC P S z x q c0 y p0 q0 qf e0 e1 e2 e3 e4;go_wp2_with fail
    go_roundg (Z a-(k+1))
    case measure=>have:=Aa HG;omega
    case rel=>exact⟨k+1,U (V ⟨e,0,Y⟩) (k+1) m,by go_num,by omega,rfl,HI,H2,H8⟩
  ·(obtain rfl:k=Z a:=by omega);have K5:Hid (wr.ownsRow (N+1) 90 5 (U I (Z a) H) (Z a) (a.flatMap BG)):=by
    have h:=Aa z;rw[gT]at h;exact h
   clear z HG D B;(have IJ:¬(Z a:Int)<(Z a:Int):=by omega);(go_wp2_with fail);clear c0 y p0 q0 qf IJ
   go_loopg [5] (Z o) (λgk i wq=>∃(j:Nat) (Q:Value) (d:kJ AY),i=X J j/\j<=Z o/\gk=Z o-j/\Hid (F2 Gi ((o.take j).map BD.f) d)/\Hid (AF wq N [Q] 84)/\Hid (wq.ownsRow (N+1) 90 5 Q (Z (a++d)) ((a++d).flatMap BG))/\Hid (∀c∈d,Lc wq (N+1) Q c)/\Hid (Ac [] w wq))
   case atStart=>exact⟨0,_,[],rfl,by omega,rfl,F2.nil,x,by show World.ownsRow _ _ _ _ _ _ _;rw[gd];exact K5,λc r=>(by cases r),q⟩
   case round=>
    clear x K5 q;obtain⟨j,Q,d,rfl,hj,K4,HF,x,z,HC,q⟩:=hrel;have HG:=Ab K4;clear K4;obtain⟨I,H,rfl⟩:=Aj z;have y:=(HB.kept q).cell 1;simp at y;have ST:=x.lt;by_cases D:j<Z o
    ·(have SP:(j:Int)<(Z o:Int):=by omega);(have UO:(0:Int)<=(j:Int):=by omega);obtain⟨g,cap,T,b,W2,VR,E,H1,e0,e1⟩:=Dn (HS.kept q) j D;simp only[fg]at E;obtain⟨rfl,-,rfl⟩:=E;have EX:=((HS.kept q).each _ (fj D)).1;have K6:=((Aa HS).each _ (fj D)).2.len;rw[H1]at EX K6;simp only at K6;have NS:=Ab EX;have LE:=Ab H1;clear EX H1;(have XS:Z d=j:=by have:=(Aa HF).lenX;simp at this;omega);have v:=Ab (kN wr [O T,U Y 0 0,X J 0,U Y 0 0,X J 0] 90);have K1:=Ab ((kL [] wr).alloc (.cells [O T,U Y 0 0,X J 0,U Y 0 0,X J 0].toArray 90));obtain⟨M,hM⟩:=kK wr.heap.size;rw[hM]at v;have Ha:=Ab hM;clear y;have y:=(HB.kept q).cell 1;simp at y;(go_wp2_with fail);clear hM;obtain⟨j0,RV,RB,SS,P0⟩:=gH Tryz.info135
     go_loopg [7] (Z b) (λgk i wt=>∃(t:Nat) (av:Value),i=X J t/\t<=Z b/\gk=Z b-t/\Hid (AF wt M [O T,av,X J 0,U Y 0 0,X J 0] 90)/\Hid (wt.ownsRow (M+1) 135 2 av t (((b.take t).map Ku).flatMap AP))/\Hid (Ac [] wr wt))
     case atStart=>exact⟨0,U Y 0 0,rfl,by omega,rfl,v,fK _ _ _ _,K1⟩
     case round=>
      clear v K1 y e0;obtain⟨t,av,rfl,ht,L0,v,R,F⟩:=hrel;have NX:=Ab L0;clear L0;obtain⟨AB,Ax,rfl⟩:=Aj R;have m0:=v.cell 0;have m1:=v.cell 1;have m2:=v.cell 2;have m3:=v.cell 3;have m4:=v.cell 4;have mf:=v.frozen 1;simp at m0 m1 m2 m3 m4;have YP:=v.lt;have y:=((HB.kept q).kept F).cell 1;simp at y;have OH:=F.cellAt e1;by_cases FL:t<Z b
      ·(have ZV:(t:Int)<(Z b:Int):=by omega);(have W3:(0:Int)<=(t:Int):=by omega);obtain⟨ga,W0,LS,_,JJ⟩:=AC (f:=Ah) (l:=b) (Ew.kept (Aa NS) F) (λ_ _=>rfl) t FL;have a0:=JJ t FL 0 (by omega);simp only[fg]at LS;obtain⟨rfl,-,rfl⟩:=LS;simp[Ah]at a0;have W:Hid (((b.take t).map Ku).flatMap AP++[X .u8 0,O b[t]]=((b.take (t+1)).map Ku).flatMap AP):=by
        show _=_;rw[fm FL,gn,fR];rfl
       obtain⟨HH,hX⟩:=kK (b[t]);rw[hX]at a0 W;clear hX JJ;go_wp2_with fail
       go_region_law (refine iU _ (by rfl) _ _ _ (by rfl) (M+1) 135 j0 _ 2 24 underlying85 RV RB SS P0 rfl (by omega) (U AB t Ax) t (((b.take t).map Ku).flatMap AP) (by rfl) ((CN (Aa R)).alloc _) ⟨wr.heap.size,0,Y⟩ 1 1 [X .u8 0,O HH] (by rfl) (by rfl) (fM (fX wr.drew _)) (by simp[Value.oneCell']) (by omega) (by unfold maxLen;omega) (by omega) (by simp;omega) (wr.heap.size+1) (by simp) ?_;intro e m w5 C A AR CL;have u:=((Aa v).drew.alloc _).grown A (AS (Aa R) M (by omega));have P:=u.cell 1;have CC:=u.frozen 1;simp at P)
       all_goals
        have MN:=(C.lt e rfl).1;have SJ:=Ab (u.set 1 (U (V ⟨e,0,Y⟩) (t+1) m));have HD:=Af C (p:=⟨M,1,Y⟩) (by simp[kF];omega) (U (V ⟨e,0,Y⟩) (t+1) m);rw[Aa W]at HD;have S0:=Ab HD;have TH:=Ab ((((Aa F).drew.alloc _).grown A (λk B=>Or.inr (by have h1:=(World.ownsRow.lt (Aa R) k B).1;have L:=Aa Ha;omega))).setCell (p:=⟨M,1,Y⟩) (Or.inr (by have L:=Aa Ha;show _<=M;omega)) (U (V ⟨e,0,Y⟩) (t+1) m));clear C A AR CL u CC P HD R v F y OH a0 m0 m1 m2 m3 m4 mf;go_wp2_with fail
        go_roundg (Z b-(t+1))
        case measure=>have:=Aa NX;omega
        case rel=>exact⟨t+1,U (V ⟨e,0,Y⟩) (t+1) m,by go_num,by omega,rfl,SJ,S0,TH⟩
      ·(obtain rfl:t=Z b:=by omega);have FT:Hid (wr.ownsRow (M+1) 135 2 (U AB (Z b) Ax) (Z b) ((b.map Ku).flatMap AP)):=by
        have h:=Aa R;rw[gT]at h;exact h
       have AH:=Ab (x.kept F);have BT:=Ab (Ad (Aa z) (Aa F));(have IJ:¬(Z b:Int)<(Z b:Int):=by omega);have W1:N<wr.heap.size:=AH.lt;clear R NX ht FL;(have PT:Z (a++d)<=2000:=by rw[fE];omega);obtain⟨s,HE⟩:=kK (Z (a++d));have NV:=Ab HE;rw[HE]at BT AH PT;clear HE;have q0:=AH.cell 0;have qf:=AH.frozen 0;simp at q0;obtain⟨G,FB⟩:∃G:AY,G=⟨Tg ⟨T,b⟩,U AB (Z b) Ax,U Y 0 0,[],0⟩:=⟨_,rfl⟩;have W:Hid ([O T,U AB (Z b) Ax,X J 0,U Y 0 0,X J 0]=BG G):=by
        show _=_;rw[FB];rfl
       have KS:Hid (∀c∈d++[G],Lc wr (N+1) (U I s H) c):=by
        intro c r;(have N4:(U I (Z (a++d)) H:Value)=U I s H:=by rw[Aa NV]);rcases fA.1 r with r|r
        .rw[<-N4];exact(Aa HC c r).kept (Aa F)
        .rw[ft]at r;subst r;rw[FB];have hb:=x.lt;have ab:=Aa Ha;refine⟨Al (by show World.ownsRow _ _ _ _ _ _ _;simp only[Tg,fH];exact Aa FT) (by omega),fK _ _ _ _,λp hp=>(by cases hp),λk B E=>?_,λk B E=>(by simp[kF]at B),λp hp=>(by cases hp)⟩;have h1:=(World.ownsRow.lt (Aa FT) k B).1;have L:=(World.ownsRow.lt (Aa z) k (by rw[N4];exact E)).2;omega
       have TS:Hid (F2 Gi ((o.take (j+1)).map BD.f) (d++[G])):=by
        show F2 _ _ _;rw[fm D,gn,Aa LE];exact F2.snoc (Aa HF) (by rw[FB];exact⟨rfl,rfl,rfl⟩)
       have K7:=Ab (q.trans F);clear FB HC HF FT NS LE e1;(go_wp2_with fail);clear y OH
       go_region_law (refine iU _ (by rfl) _ _ _ (by rfl) (N+1) 90 i0 _ 5 80 underlying82 M6 K9 NE MB rfl (by omega) (U I s H) s ((a++d).flatMap BG) (by rfl) ((CN (Aa BT)).alloc _) ⟨wr.heap.size,0,Y⟩ 1 1 [O T,U AB (Z b) Ax,X J 0,U Y 0 0,X J 0] (by rfl) (by rfl) (fM (fX wr.drew _)) (by simp[Value.oneCell']) (by omega) (by unfold maxLen;omega) (by omega) (by simp;omega) (wr.heap.size+1) (by simp) ?_;intro e m w5 C A AR CL;have u:=((Aa AH).drew.alloc _).grown A (AS (Aa BT) N (by omega));have P:=u.cell 0;have CC:=u.frozen 0;simp at P)
       all_goals
        have MN:=(C.lt e rfl).1;have HI:=Ab (u.set 0 (U (V ⟨e,0,Y⟩) (s+1) m));have S:=Af C (p:=⟨N,0,Y⟩) (by simp[kF];omega) (U (V ⟨e,0,Y⟩) (s+1) m);have RE:Hid (Z (a++(d++[G]))=s+1):=by
         show _=_;rw[<-Aa NV];simp[Nat.add_assoc]
        have H2:Hid (World.ownsRow (w5.setCell ⟨N,0,Y⟩ (U (V ⟨e,0,Y⟩) (s+1) m)) (N+1) 90 5 (U (V ⟨e,0,Y⟩) (s+1) m) (Z (a++(d++[G]))) ((a++(d++[G])).flatMap BG)):=by
         show World.ownsRow _ _ _ _ _ _ _;rw[Aa RE,<-gF,fR];rw[Aa W]at S;simpa using S
        have QQ:Hid (∀c∈d++[G],Lc (w5.setCell ⟨N,0,Y⟩ (U (V ⟨e,0,Y⟩) (s+1) m)) (N+1) (U (V ⟨e,0,Y⟩) (s+1) m) c):=by
         intro c r;have h1:=(Aa KS c r).kept ((kL [] wr).drew.alloc (.cells #[O T,U AB (Z b) Ax,X J 0,U Y 0 0,X J 0] 90));have L:=Lc.grown (n:=s+1) (cap:=m) h1 A AR (by simp);exact L.kept ((kL [N] w5).setCell (p:=⟨N,0,Y⟩) (by simp) _)
        have H8:=Ab ((((Aa K7).drew.alloc _).grown A (λk B=>Or.inr (by have h1:=(World.ownsRow.lt (Aa BT) k B).1;have L:=Aa HN;omega))).setCell (p:=⟨N,0,Y⟩) (Or.inr (by have L:=Aa HN;show w.heap.size<=N;omega)) (U (V ⟨e,0,Y⟩) (s+1) m));clear C A AR CL u CC P S BT AH K7 F KS q0 qf m0 m1 m2 m3 m4 mf;go_wp2_with fail
        go_roundg (Z o-(j+1))
        case measure=>have:=Aa HG;omega
        case rel=>exact⟨j+1,U (V ⟨e,0,Y⟩) (s+1) m,d++[G],by go_num,by omega,rfl,TS,HI,H2,QQ,H8⟩
    ·(obtain rfl:j=Z o:=by omega);have K8:Hid (F2 Gi (o.map BD.f) d):=by
      have h:=Aa HF;rw[gT]at h;exact h
     have Os:Hid (Cd wr (U I (Z (a++d)) H) (a++d)):=by
      refine⟨Al (Aa z) (fP _),λc r=>?_⟩;rcases fA.1 r with r|r
      .exact((Aa HR).each c r).kept (Aa q)
      .exact(Aa HC c r).cvIn
     have HW:Hid (Un a o w (.returned (j2 (V ⟨N,0,Y⟩))) wr):=⟨N,I,H,d,rfl,x,Os,K8,q⟩;clear HF HC z HG K8 Os x;(have IJ:¬(Z o:Int)<(Z o:Int):=by omega);(go_wp2_with fail);go_ret;exact HW
