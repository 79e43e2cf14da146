import Derived.Test.YtoihbhenbmffcaaGreatDoorYBV
set_option linter.all false
set_option maxHeartbeats 0
open List renaming length->Z,toArray->j2
open Option renaming none->Y,some->V
open Go.Value renaming slice->U,int->X,string->O,agg->jH,bool->jJ
open Go.IntKind renaming i64->J
open Go.Ending renaming returned->j4
open Go.World renaming cell?->jF
namespace Go.Proofs.YtoihbhenbmffcaaGreatDoor
open Go.RowKit Go.Proofs.Tryz
def Jm(rs:List bu):List Af:=rs.foldl (λs r=>AY s r.f.f) []
def Ya{a:List bu}{k:Nat}(d:k<Z a){r:bu}(e:a[k]=r){fs:List B5}(hF:fs.map B5.f=Jm (a.take k))(h:Z fs<=k):(Fx fs r.f).map B5.f=Jm (a.take (k+1))/\Z (Fx fs r.f)<=k+1:=by
 have b:(Fx fs r.f).map B5.f=AY (fs.map B5.f) r.f.f:=M9 fs r.f;have g:Jm (a.take (k+1))=AY (Jm (a.take k)) r.f.f:=by
  unfold Jm;rw[ep d,fE,e,fd,List.foldl_nil]
 refine⟨by rw[b,g,hF],?_⟩;have c:=congrArg List.length b;rw[eL]at c;rw[c];unfold AY;cases DD (fs.map B5.f) r.f.f with
 |true=>rw[eI rfl,eL];omega
 |false=>rw[eE (by simp),Md,eL];omega
set_option maxRecDepth 100000
theorem Vk(pb:Nat)(HD:Option Addr)(Q:Nat)(cs:List A8)(HV:Option Addr)(HJ:Nat)(b:List bu)(x:B5)(HA:Option Addr)(HB:Nat)(ms:List B5)(w:World)
  (hP:AI w pb [U HD (Z cs) Q] 76) (hR:Cn w (U HD (Z cs) Q) cs)
  (hl:w.ownsRow 0 110 3 (U HV (Z b) HJ) (Z b) (b.flatMap NT)) (B:∀r∈b,Ew w r.f) (hx:Ew w x) (K6:QB x.f) (NN:Dm w (U HA (Z ms) HB) ms)
  (BS:∀r∈b,QB r.f.f/\r.n<Z cs) (TS:Z cs<=1000) (RB:Z b<=7000)
  (K7:∀(i:Nat) (r:bu),b[i]?=V r->DD (Jm (b.take i)) r.f.f=false)
  (M3:∀(i:Nat) (r:bu) (c:A8),b[i]?=V r->cs[r.n]?=V c->∀(m:Option Addr) (l:Nat) (d:List B5) (a:World),Ac [] w a->Dm a (U m (Z d) l) d->d.map B5.f=Jm (b.take i)->Calls prog 56 #[jH (j2 (BX c)),jH (j2 (Bq r.f)),U m (Z d) l,U HA (Z ms) HB] a λe t=>e=j4 (jJ true)/\Ac [] a t)
  (Bx:b≠[]) (MN:∀h:b≠[],Fg (b.getLast h).f.f x.f=true):
  Calls prog 30 #[.pointer (V ⟨pb,0,Y⟩),U HV (Z b) HJ,jH (j2 (Bq x)),U HA (Z ms) HB] w λe t=>e=j4 (jJ true)/\Ac [] w t:=by
 obtain⟨⟨F,C⟩,xv⟩:=x;obtain⟨G,I,LE⟩:=Ak hx;simp only at LE;subst LE;have HX:Hid (∀(i:Nat) (r:bu) (c:A8),b[i]?=V r->cs[r.n]?=V c->∀(m:Option Addr) (l:Nat) (d:List B5) (a:World),Ac [] w a->Dm a (U m (Z d) l) d->d.map B5.f=Jm (b.take i)->Calls prog 56 #[jH (j2 (BX c)),jH (j2 (Bq r.f)),U m (Z d) l,U HA (Z ms) HB] a λe t=>e=j4 (jJ true)/\Ac [] a t):=M3;have CC:∀(i:Nat) (r:bu),b[i]?=V r->r∈b:=λi r h=>List.mem_of_getElem? h
 have H6:Hid (∀(i:Nat) (r:bu),b[i]?=V r->∀(m:Option Addr) (l:Nat) (d:List B5) (a:World),Ac [] w a->Dm a (U m (Z d) l) d->d.map B5.f=Jm (b.take i)->Z d<=100000->Calls prog 21 #[U m (Z d) l,jH (j2 (Bq r.f))] a λe t=>e=j4 (jJ false)/\Ac [] a t):=λi r hi m l d a j hs M6 Ix=>by
  have h:=JZ m l d r.f a hs ((B _ (CC i r hi)).kept j) (by omega) (BS _ (CC i r hi)).1;have e:(d.any λp=>Fg p.f r.f.f)=false:=by
   have:=K7 i r hi;rw[<-M6]at this;unfold DD at this;rw[iP]at this;exact this
  rw[e]at h;exact h
 have HL:Hid (∀(i:Nat) (r:bu),b[i]?=V r->∀(m:Option Addr) (l:Nat) (d:List B5) (a:World),Ac [] w a->Dm a (U m (Z d) l) d->Z d<=100000->Calls prog 57 #[U m (Z d) l,jH (j2 (Bq r.f))] a λe t=>∃q s,e=j4 (U q (Z (Fx d r.f)) s)/\Dm t (U q (Z (Fx d r.f)) s) (Fx d r.f)/\Ac [] a t):=λi r hi m l d a j hs Ix=>QG m l d r.f a hs ((B _ (CC i r hi)).kept j) Ix (BS _ (CC i r hi)).1
 have H5:Hid (∀(h:b≠[]) (a:World),Ac [] w a->Calls prog 49 #[jH (j2 (Bq (b.getLast h).f)),jH (j2 (Bq ⟨⟨F,C⟩,U G (Z C) I⟩))] a λe t=>e=j4 (jJ true)/\Ac [] a t):=λh a j=>by
  have h1:=Rm (b.getLast h).f ⟨⟨F,C⟩,U G (Z C) I⟩ a ((B _ (List.getLast_mem h)).kept j) (hx.kept j) (by have:=(BS _ (List.getLast_mem h)).1.len;omega) (by have:=K6.len;omega);rw[MN h]at h1;exact h1
 have H1:Hid (∀r∈b,∃q s,r.f.av=U q (Z r.f.f.args) s):=λr D=>Ak (B r D)
 have LM:Hid (∀c∈cs,(∃q s,c.hv=U q (Z c.head.args) s)/\∃q s,c.bv=U q (Z c.bl) s):=λc hc=>⟨Ak (hR.each c hc).args,Ak (hR.each c hc).body⟩
 have KS:Hid (∀r∈b,r.n<Z cs):=λr D=>(BS r D).2
 have De:Hid (∀a,Ac [] w a->AI a pb [U HD (Z cs) Q] 76/\Cn a (U HD (Z cs) Q) cs/\a.ownsRow 0 110 3 (U HV (Z b) HJ) (Z b) (b.flatMap NT)):=λa j=>⟨hP.kept j (by simp),hR.kept j,Ad hl j (by simp)⟩
 have E:=Ab (AI.new w [O F,U G (Z C) I] 43);have A:=Ab ((Ac.refl [] w).alloc (.cells [O F,U G (Z C) I].toArray 43));clear hP hR hl B hx K6 NN BS K7 M3 MN;simp only[Bq]at H5 HX H6 HL⊢;go_enter func30,ntmps30;go_wp2;change Code.wp _ _ _ _ (w.alloc (.cells [O F,U G (Z C) I].toArray 43));generalize w.alloc (.cells [O F,U G (Z C) I].toArray 43)=w1 at E A⊢;generalize w.heap.size=N at E⊢
 go_loopg [9,10,11,12] (Z b) (λgk sv iv bv gv wr=>∃(k:Nat) (m:Option Addr) (l:Nat) (d:List B5),sv=U m (Z d) l/\iv=X J k/\k<=Z b/\gk=Z b-k/\Z d<=k/\Hid (Dm wr (U m (Z d) l) d)/\Hid (d.map B5.f=Jm (b.take k))/\Hid (Ac [] w wr)/\Hid (AI wr N [O F,U G (Z C) I] 43))
 case atStart=>exact⟨0,Y,0,[],rfl,rfl,by omega,rfl,by simp,⟨eU _ _ _ _,λp hp=>by simp at hp⟩,rfl,A,E⟩
 case round=>
  clear E A;obtain⟨k,m,l,d,rfl,rfl,j,M0,K4,HS,HF,A,E⟩:=hrel;have HG:=Ab M0;clear M0;by_cases W:k<Z b
  .obtain⟨hb,LS,DT⟩:=De _ A;obtain⟨g,NS,B,_,P⟩:=AC DT (λc _=>rfl) k W;obtain⟨r,D⟩:∃r,b[k]=r:=⟨_,rfl⟩;have v:=P k W 0 (by omega);have y:=P k W 1 (by omega);have d2:=P k W 2 (by omega);rw[D]at v y d2;(have BA:b[k]?=V r:=by rw[ez W,D]);have HT:r∈b:=List.mem_of_getElem? BA;have T:=Aa KS _ HT;obtain⟨c,hc⟩:∃c,cs[r.n]=c:=⟨_,rfl⟩;(have HY:cs[r.n]?=V c:=by rw[ez T,hc]);obtain⟨o,S0,M2,_,A1⟩:=AC LS.row (λc _=>rfl) r.n T;have c0:=A1 _ T 0 (by omega);have c1:=A1 _ T 1 (by omega);have c2:=A1 _ T 2 (by omega);have c3:=A1 _ T 3 (by omega);have c4:=A1 _ T 4 (by omega);rw[hc]at c0 c1 c2 c3 c4;have p0:=hb.cell 0;have FB:=Ab (HX k r c BA HY m l d);have H2:=Ab (H6 k r BA m l d);have H4:=Ab (HL k r BA m l d);have FP:Hid ((Fx d r.f).map B5.f=Jm (b.take (k+1))/\Z (Fx d r.f)<=k+1):=by
    exact Ya W D HF K4
   obtain⟨⟨HU,HE,H8⟩,⟨H0,HH,K2⟩⟩:=LM _ (List.mem_of_getElem? HY);obtain⟨q,s,A0⟩:=H1 _ HT;clear P A1 hc D BA HY HT;obtain⟨⟨⟨fn,S⟩,fv⟩,n⟩:=r;obtain⟨⟨HI,HQ,HW⟩,N4,SJ,HR,HP⟩:=c;simp only at A0 H8 K2;subst A0 H8 K2;simp only[ei]at B M2;obtain⟨rfl,_,rfl⟩:=B;obtain⟨rfl,_,rfl⟩:=M2;simp[NT,BX]at v y d2 c0 c1 c2 c3 c4 p0;simp only[BX]at FB;simp only at T FB H2 H4 FP;clear hb LS DT;(have RE:(0:Int)<=(n:Int):=by omega);(have S1:¬((Z cs:Int)<=(n:Int)):=by omega);(have TL:¬((n:Int)<0):=by omega);(have R:Hid (∀a,Ac [] wr a->jF a ⟨pb,0,Y⟩=V (U (V ⟨o,0,Y⟩) (Z cs) Q)/\jF a ⟨g,k*3,Y⟩=V (O fn)/\jF a ⟨g,k*3+1,Y⟩=V (U q (Z S) s)/\jF a ⟨g,k*3+2,Y⟩=V (X J n)/\jF a ⟨o,n*5,Y⟩=V (O HI)/\jF a ⟨o,n*5+1,Y⟩=V (U HU (Z HQ) HE)/\jF a ⟨o,n*5+2,Y⟩=V (X J HW)/\jF a ⟨o,n*5+3,Y⟩=V (U H0 (Z HR) HH)/\jF a ⟨o,n*5+4,Y⟩=V (X J HP)):=λa j=>⟨j.cellAt p0,j.cellAt v,j.cellAt y,j.cellAt d2,j.cellAt c0,j.cellAt c1,j.cellAt c2,j.cellAt c3,j.cellAt c4⟩);refine jT (λH u=>?_);go_wp2;refine u _ _ ?_;clear u H;refine jT (λKB K5=>?_);refine wp_block ?_;refine jT (λH u=>?_);(go_wp2_with fail);clear v y d2 c0 c1 c2 c3 c4 p0
   go_region_held3 (λa=>Ac [] wr a/\jF a ⟨pb,0,Y⟩=V (U (V ⟨o,0,Y⟩) (Z cs) Q)/\jF a ⟨g,k*3+2,Y⟩=V (X J n)) ((go_split_ands;refine(fun(L:Ac [] wr _)=>And.intro L (And.intro (R _ L).1 (R _ L).2.2.2.1)) ?_;repeat (first|assumption|exact Ac.refl [] _|refine Ac.drew ?_|refine Ac.alloc ?_ _))) (fail)
   rename_i EK;clear EK;have AH:=Ab ((Ac.refl [] wr).drew);generalize wr.drew=w2 at AH⊢;have LC:=Ab (A.trans AH);go_wp2;refine u _ _ ?_;clear u H;have KA:=Ab (HS.kept AH);obtain⟨_,v,y,_,_,_,_,_,_⟩:=R _ AH;have MB:=Ab (H2 w2 LC KA HF (by omega));refine jT (λH u=>?_);(go_wp2_with fail);refine MB.mono ?_;rintro _ w3 ⟨rfl,k3⟩;have B2:=Ab (AH.trans k3);have Mo:=Ab (A.trans B2);(have K1:Hid (∀a,Ac [] w3 a->jF a ⟨pb,0,Y⟩=V (U (V ⟨o,0,Y⟩) (Z cs) Q)/\jF a ⟨g,k*3,Y⟩=V (O fn)/\jF a ⟨g,k*3+1,Y⟩=V (U q (Z S) s)/\jF a ⟨g,k*3+2,Y⟩=V (X J n)/\jF a ⟨o,n*5,Y⟩=V (O HI)/\jF a ⟨o,n*5+1,Y⟩=V (U HU (Z HQ) HE)/\jF a ⟨o,n*5+2,Y⟩=V (X J HW)/\jF a ⟨o,n*5+3,Y⟩=V (U H0 (Z HR) HH)/\jF a ⟨o,n*5+4,Y⟩=V (X J HP)):=λa j=>R _ (B2.trans j));have K3:=Ab (HS.kept B2);(have M1:Hid (∀a,Ac [] w3 a->Calls prog 56 _ a λe t=>e=j4 (jJ true)/\Ac [] a t):=λa j=>FB a (Mo.trans j) (K3.kept j) HF);clear k3 MB AH LC KA v y H2 FB;go_wp2;refine u _ _ ?_;clear u H;refine jT (λH u=>?_)
   go_region_held3 (λa=>Ac [] w3 a/\jF a ⟨pb,0,Y⟩=V (U (V ⟨o,0,Y⟩) (Z cs) Q)/\jF a ⟨g,k*3,Y⟩=V (O fn)/\jF a ⟨g,k*3+1,Y⟩=V (U q (Z S) s)/\jF a ⟨g,k*3+2,Y⟩=V (X J n)/\jF a ⟨o,n*5,Y⟩=V (O HI)/\jF a ⟨o,n*5+1,Y⟩=V (U HU (Z HQ) HE)/\jF a ⟨o,n*5+2,Y⟩=V (X J HW)/\jF a ⟨o,n*5+3,Y⟩=V (U H0 (Z HR) HH)/\jF a ⟨o,n*5+4,Y⟩=V (X J HP)) ((go_split_ands;refine(fun(L:Ac [] w3 _)=>And.intro L (K1 _ L)) ?_;repeat (first|assumption|exact Ac.refl [] _|refine Ac.drew ?_|refine Ac.alloc ?_ _))) ((go_at_call 56;refine(M1 _ (by go_split_ands;assumption)).mono ?_;rintro _ w4 ⟨rfl,k4⟩;have EY:Ac [] w3 w4:=(by go_split_ands;exact Ac.trans (by assumption) k4);clear k4))
   rename_i EK;clear EK;have CL:=Ab (B2.trans EY);have EX:=Ab (A.trans CL);obtain⟨_,v,y,_,_,_,_,_,_⟩:=R _ CL;have K8:=Ab (HS.kept CL);have IS:=Ab (E.kept CL (by simp));have HO:=Ab (H4 w4 EX K8 (by omega));generalize Fx d ⟨⟨fn,S⟩,U q (Z S) s⟩=FW at HO FP;clear EY B2 Mo K1 K3 M1 H4 R HS E K8 CL;go_wp2;refine u _ _ ?_;clear u H;refine jT (λH u=>?_);go_wp2;refine u _ _ ?_;clear u H;(go_wp2_with fail);refine HO.mono ?_;rintro _ w5 ⟨Nq,NB,rfl,Jx,k5⟩;have Nx:=Ab Jx;have NL:=Ab (EX.trans k5);have Nd:=Ab (IS.kept k5 (by simp));clear Jx k5 HO EX IS v y A;go_wp2;refine K5 _ _ ?_;clear K5 KB;go_wp2
   go_roundg (Z b-(k+1))
   case measure=>have:=Aa HG;omega
   case rel=>exact⟨k+1,Nq,NB,FW,rfl,by go_num,by omega,rfl,FP.2,Nx,FP.1,NL,Nd⟩
  ·(obtain rfl:k=Z b:=by omega);have DT:=(De _ A).2.2;have Op:0<Z b:=List.length_pos_iff.2 Bx;obtain⟨M,hM⟩:∃M,Z b=M+1:=⟨Z b-1,by omega⟩;obtain⟨g,NS,B,_,P⟩:=AC DT (λc _=>rfl) M (by omega);have v:=P M (by omega) 0 (by omega);have y:=P M (by omega) 1 (by omega);have Ha:=Ab (H5 Bx);obtain⟨q,s,A0⟩:=H1 _ (List.getLast_mem Bx);have IJ:b[M]'(by omega)=b.getLast Bx:=by
    rw[List.getLast_eq_getElem]
    congr 1
    omega
   rw[IJ]at v y;obtain⟨r,D⟩:∃r,b.getLast Bx=r:=⟨_,rfl⟩;rw[D]at v y Ha A0;clear IJ D P;obtain⟨⟨⟨fn,S⟩,fv⟩,n⟩:=r;simp only at A0;subst A0;simp only[ei]at B;obtain⟨rfl,_,rfl⟩:=B;simp[NT]at v y;simp only at Ha;(have R:Hid (∀a,Ac [] wr a->jF a ⟨g,M*3,Y⟩=V (O fn)/\jF a ⟨g,M*3+1,Y⟩=V (U q (Z S) s)/\jF a ⟨N,0,Y⟩=V (O F)/\jF a ⟨N,1,Y⟩=V (U G (Z C) I)):=λa j=>⟨j.cellAt v,j.cellAt y,j.cellAt (by have:=E.cell 0;simpa using this),j.cellAt (by have:=E.cell 1;simpa using this)⟩);(have NX:Hid (∀a,Ac [] wr a->Calls prog 49 _ a λe t=>e=j4 (jJ true)/\Ac [] a t):=λa j=>Ha a (A.trans j));clear DT v y Ha HX H6 HL H5 H1 LM KS De HS HF E K4 j W HG CC;(have SP:((Z b:Int)==0)=false:=by simp only[ff,ne_eq];omega);(have Os:(Z b:Int)-1=(M:Int):=by omega);(have PT:(M:Int)<(Z b:Int):=by omega);(have P0:(0:Int)<=(M:Int):=by omega);(have Pl:IntKind.i64.wrap (M:Int)=(M:Int):=by rw[ik];omega);(have SB:M<Z b:=by omega);(have SL:(0:Int)<=(Z b:Int)-1:=by omega);(have OH:(Z b:Int)-1<(Z b:Int):=by omega);(have QQ:((Z b:Int)-1).toNat=M:=by omega);(have ST:Z b-1=M:=by omega);(have TH:1<=Z b:=by omega);(have RO:IntKind.i64.wrap ((Z b:Int)-1)=(M:Int):=by rw[ik];omega);clear hM;go_wp2_with fail
   go_region_held3 (λa=>Ac [] wr a/\jF a ⟨g,M*3,Y⟩=V (O fn)/\jF a ⟨g,M*3+1,Y⟩=V (U q (Z S) s)/\jF a ⟨N,0,Y⟩=V (O F)/\jF a ⟨N,1,Y⟩=V (U G (Z C) I)) ((go_split_ands;refine(fun(L:Ac [] wr _)=>And.intro L (R _ L)) ?_;repeat (first|assumption|exact Ac.refl [] _|refine Ac.drew ?_|refine Ac.alloc ?_ _))) ((go_at_call 49;refine(NX _ (by go_split_ands;assumption)).mono ?_;rintro _ w4 ⟨rfl,k4⟩;have EY:Ac [] wr w4:=(by go_split_ands;exact Ac.trans (by assumption) k4);clear k4))
   rename_i EK;clear EK;have EX:=Ab (A.trans EY);clear EY;go_wp2;go_ret;exact⟨rfl,EX⟩
