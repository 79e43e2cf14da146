import Derived.Test.YtoihbhenbmffcaaGreatDoorYAN
set_option linter.all false
set_option maxHeartbeats 0
open List renaming length->Z,toArray->j2
open Option renaming none->Y,some->V
open Go.Value renaming slice->U,int->X,string->O,pointer->j3,bool->jJ
open Bool renaming false->K,true->jj
open Go.IntKind renaming i64->J
open Go.Obj renaming cells->j1
open Go.Ending renaming returned->j4
open Or renaming inr->j6
open Go renaming World->j7,Value->j8
open Go.RowKit renaming Hid->j9
open Go.World renaming cell?->jF,ownsRow->jG
namespace Go.Proofs.YtoihbhenbmffcaaGreatDoor
open Go.RowKit Go.Proofs.Tryz
def L8(x:g0)(l:List g0)(c:A8):List g0:=if c.head.name.toList==x.toList then c.bl.foldl zE l else l
def L1(cs:List A8)(l:List g0)(x:g0):List g0:=cs.foldl (L8 x) l
def Dv(cs:List A8):List g0:=cs.flatMap λc=>(c.bl.filter Oh).map λp=>p.1.A.name
def OG(cs:List A8)(l:List g0):Nat:=(Dv cs).countP λx=> !DN l x
def Bd(cs:List A8)(l:List g0):Prop:=Z l+OG cs l<=1+Z (Dv cs)
def Jn:Nat->List A8->g0->List g0->Nat->Bool
 |0,_,_,_,_=>K
 |f+1,cs,to,l,n=>if h:n<Z l then(if l[n].toList==to.toList then jj else Jn f cs to (L1 cs l l[n]) (n+1))else K
def GK(cs:List A8)(frm to:g0):Bool:=Jn (2+Z (Dv cs)) cs to [frm] 0
def NI(l:List g0)(x:g0):∀(m:List g0),(m.countP λy=> !DN (l++[x]) y)<=m.countP λy=> !DN l y
 |[]=>by simp
 |y::m=>by
  have ih:=NI l x m;simp only[List.countP_cons];have:(!DN (l++[x]) y)=jj->(!DN l y)=jj:=by
   rw[Kl];cases DN l y<;>simp
  cases h1:(!DN (l++[x]) y)with
  |true=>simp only[this h1,if_true];omega
  |false=>simp only[ev,if_false];omega
def IM(l:List g0)(x:g0)(b:DN l x=K):∀(m:List g0),x∈m->(m.countP λy=> !DN (l++[x]) y)+1<=m.countP λy=> !DN l y
 |[],h=>by simp at h
 |y::m,h=>by
  simp only[List.countP_cons];by_cases c:y=x
  .subst c;have a:=NI l y m;(have d:DN (l++[y]) y=jj:=by rw[Kl];simp);simp only[d,b,ig,fS,if_true,ev,if_false];omega
  .have ih:=IM l x b m (by rcases ey.1 h with h|h;exact absurd h.symm c;exact h);have:(!DN (l++[x]) y)=jj->(!DN l y)=jj:=by
    rw[Kl];cases DN l y<;>simp
   cases a:(!DN (l++[x]) y)with
   |true=>simp only[this a,if_true];omega
   |false=>simp only[ev,if_false];omega
def au{cs:List A8}{c:A8}{p:Bw}{l:List g0}(f:c∈cs)(a:p∈c.bl)(h:Bd cs l):Bd cs (zE l p):=by
 unfold zE CJ;split
 .rename_i e;split
  .exact h
  .rename_i g;(have d:DN l p.1.A.name=K:=by simpa using g);have b:p.1.A.name∈Dv cs:=by
    unfold Dv;rw[fA];exact⟨c,f,eH.2 ⟨p,e9.2 ⟨a,e⟩,rfl⟩⟩
   have:=IM l p.1.A.name d (Dv cs) b;unfold Bd OG at h⊢;simp only[eJ,eF,fb];omega
 .exact h
def YT(l:List g0)(p:Bw):∃a,zE l p=l++a:=by
 unfold zE CJ;split
 .split
  .exact⟨[],by simp⟩
  .exact⟨[_],rfl⟩
 .exact⟨[],by simp⟩
structure El(cs:List A8)(l l2:List g0):Prop where
 pre:∃suf,l2=l++suf
 bd:Bd cs l2
def El.zE{cs:List A8}{l b:List g0}(h:El cs l b){c:A8}{p:Bw}(i:c∈cs)(d:p∈c.bl):El cs l (zE b p):=by
 obtain⟨⟨a,rfl⟩,g⟩:=h;obtain⟨e,f⟩:=YT (l++a) p;exact⟨⟨a++e,by rw[f,fD]⟩,au i d g⟩
def El.at{cs:List A8}{l a:List g0}(h:El cs l a){n:Nat}(b:n<Z l):∃c:n<Z a,a[n]=l[n]:=by
 obtain⟨⟨d,rfl⟩,_⟩:=h;exact⟨by simp;omega,fL b⟩
def El.len{cs:List A8}{l a:List g0}(h:El cs l a):Z l<=Z a/\Z a<=1+Z (Dv cs):=by
 obtain⟨⟨c,rfl⟩,b⟩:=h;unfold Bd at b;exact⟨by simp,by omega⟩
set_option maxRecDepth 100000
theorem SS(pb:Nat)(lv:j8)(cs:List A8)(N G:g0)(w:j7)(hP:AI w pb [lv] 76)(hR:Cn w lv cs)(Nx:Z cs<=1000000)(H6:∀c∈cs,Z c.bl<=1000000)(M3:Z (Dv cs)<=900000):
  Calls prog 85 #[j3 (V ⟨pb,0,Y⟩),O N,O G] w λe w'=>e=j4 (jJ (GK cs N G))/\Ac [] w w':=by
 obtain⟨i0,KA,H0,FC,E0⟩:=fC Tryz.zs;obtain⟨ad,HP,rfl⟩:=Ak hR.row;obtain⟨R,HC⟩:∃R,GK cs N G=R:=⟨_,rfl⟩;rw[HC];have HR:j9 (Cn w (U ad (Z cs) HP) cs/\(∀c∈cs,Z c.bl<=1000000)/\GK cs N G=R):=⟨hR,H6,HC⟩;obtain⟨A,hA⟩:∃A,Z (Dv cs)=A:=⟨_,rfl⟩;rw[hA]at M3;have HA:=Ab hA;clear hR H6 HC hA;have OH:∀(x:Bool) (w:j7),(Op.unary .not (jJ x)).run prog w=.ok (jJ (!x)) w:=λ_ _=>rfl
 go_enter func85,ntmps85;go_wp2
 go_loopg [7,8] (1+A) (λgk o i wr=>∃(n:Nat) (l:List g0),i=X J n/\n<=Z l/\Z l<=1+A/\gk=1+A-n/\j9 (Bd cs l/\Jn (2+A-n) cs G l n=R)/\jG wr w.heap.size 9 1 o (Z l) (l.flatMap Ah)/\Ac [] w wr)
 case atStart=>
  refine⟨0,[N],rfl,by simp,by simp,by simp,⟨?_,?_⟩,?_,(Ac.refl _ _).alloc _⟩
  .unfold Bd OG;have:=jw (p:=λx=> !DN [N] x) (l:=Dv cs);simp only[eF,fb];omega
  .have h:=HR.out.2.2;unfold GK at h;rw[Aa HA]at h;exact h
  .exact⟨rfl,j6 ⟨_,1,#[O N],rfl,eM _,fe w _,by simp,by unfold maxLen;omega,rfl,by simp[Ah]⟩⟩
 case round=>
  obtain⟨n,l,rfl,hn,hl,K1,HB,FB,hK⟩:=hrel;have HG:j9 (gk=1+A-n):=K1;clear K1;obtain⟨QQ,P0,rfl⟩:=Ak FB;by_cases AB:n<Z l
  .obtain⟨g,NN,he,hc,H2⟩:=AC FB (λc _=>rfl) n AB;simp only[ei]at he;obtain⟨rfl,_,rfl⟩:=he;have F:=H2 n AB 0 (by omega);simp[Ah]at F;clear H2;obtain⟨x,hx⟩:∃x,l[n]=x:=⟨_,rfl⟩;rw[hx]at F;cases hto:(x.toList==G.toList)with
   |true=>
    have M2:j9 (R=jj):=by
     have h:=HB.out.2;rw[show 2+A-n=(1+A-n)+1 by omega,Jn,dif_pos AB,hx,hto]at h;exact h.symm
    clear hx;go_wp2;go_ret;rw[M2.out];exact⟨rfl,hK⟩
   |false=>
    have K2:j9 (Jn (2+A-(n+1)) cs G (L1 cs l x) (n+1)=R/\l[n]=x):=by
     have h:=HB.out.2;rw[show 2+A-n=(2+A-(n+1))+1 by omega,Jn,dif_pos AB,hx,hto]at h;exact⟨h,hx⟩
    have HY:j9 (El cs l l):=⟨⟨[],by simp⟩,HB.out.1⟩;clear hx HB;go_wp2;clear F hto
    go_loopw [7,9] (λo i P=>∃(k:Nat) (b:List g0),i=X J k/\k<=Z cs/\j9 ((cs.take k).foldl (L8 x) l=b/\El cs l b)/\jG P w.heap.size 9 1 o (Z b) (b.flatMap Ah)/\Ac [] w P) (λ_ i _=>Z cs-(intOf i).toNat)
    case atStart=>exact⟨0,l,rfl,eV _,⟨by simp,HY.out⟩,FB,hK⟩
    case round=>
     clear FB hK HY;obtain⟨k,b,rfl,hk,HM,H,B⟩:=hrel;obtain⟨Os,Nd,rfl⟩:=Ak H;have IJ:=(hP.kept B (by simp)).cell 0;simp at IJ;by_cases t:k<Z cs
     .have HO:=HR.out.1.kept B;obtain⟨gp,N4,IS,_,M1⟩:=AC HO.row (λc _=>BG c) k t;simp only[ei]at IS;obtain⟨rfl,_,rfl⟩:=IS;have A0:=HO.each cs[k] (eo t);have RB:=HR.out.2.1 cs[k] (eo t);obtain⟨LS,H1,H8⟩:=Ak A0.body;have K4:=Ab H8;clear M1 HO A0 H8 IJ;have W:j9 (∀(M:j7) (o:j8) (a:List g0),Ac [] w M->jG M w.heap.size 9 1 o (Z a) (a.flatMap Ah)->El cs l a->
        jF M ⟨pb,0,Y⟩=V (U (V ⟨gp,0,Y⟩) (Z cs) HP)/\jF M ⟨gp,k*5,Y⟩=V (O cs[k].head.name)/\jF M ⟨gp,k*5+3,Y⟩=V (U LS cs[k].bl.length H1)/\
        ∃E Q,o=U (V ⟨E,0,Y⟩) (Z a) Q/\n<Z a/\jF M ⟨E,n,Y⟩=V (O x)):=by
       intro M o a K3 K8 Nj;have h1:=(hP.kept K3 (by simp)).cell 0;have K7:=HR.out.1.kept K3;obtain⟨g2,c2,K5,_,H9⟩:=AC K7.row (λc _=>BG c) k t;simp only[ei,eD,fm]at K5;obtain⟨⟨rfl,_,_⟩,_,rfl⟩:=K5;have h2:=H9 k t 0 (by omega);have h3:=H9 k t 3 (by omega);simp[BX]at h1 h2 h3;rw[Aa K4]at h3;obtain⟨Bx,LC⟩:=Nj.at AB;obtain⟨E,Q,T,_,M6⟩:=AC K8 (λc _=>rfl) n Bx;have h4:=M6 n Bx 0 (by omega);simp[Ah]at h4;rw[LC,K2.out.2]at h4;exact⟨h1,h2,h3,E,Q,T,Bx,h4⟩
      cases hnm:(cs[k].head.name.toList==x.toList)with
      |false=>
       have D:j9 ((cs.take (k+1)).foldl (L8 x) l=b/\El cs l b):=⟨by rw[DE _ _ t,HM.out.1];simp[L8,hnm],HM.out.2⟩;obtain⟨f1,f2,f3,E,Q,T,Bx,f4⟩:=W.out _ _ _ B H D.out.2;simp only[ei]at T;obtain⟨rfl,_,rfl⟩:=T;clear W;(have LE:(k:Int)<(Z cs:Int):=by omega);(have LL:(n:Int)<(Z b:Int):=by omega);go_wp2
       go_loopw [7,10] (λo i P=>o=U (V ⟨E,0,Y⟩) (Z b) Nd/\i=X J 0/\∃q,P=wr.drewN q) (λ_ _ _=>0)
       case atStart=>exact⟨rfl,rfl,0,rfl⟩
       case round=>
        obtain⟨rfl,rfl,q,rfl⟩:=hrel;go_wp2_with fail
        go_quiet (fail)
        go_wp2_with fail
        go_roundw
        case rel=>exact⟨k+1,b,by go_num,by omega,D,Db H _,B.drewN _⟩
        case measure=>simp[intOf];omega
      |true=>
       (have Nq:j9 ((cs.take (k+1)).foldl (L8 x) l=cs[k].bl.foldl zE b):=by show _=_;rw[DE _ _ t,HM.out.1];simp[L8,hnm]);have Ix:=Ab HM.out.2;(have LE:(k:Int)<(Z cs:Int):=by omega);obtain⟨f1,_⟩:=W.out _ _ _ B H Ix;go_wp2;clear f1
       go_loopw [7,10] (λo i P=>∃(m:Nat) (a:List g0),i=X J m/\m<=cs[k].bl.length/\j9 ((cs[k].bl.take m).foldl zE b=a/\El cs l a)/\jG P w.heap.size 9 1 o (Z a) (a.flatMap Ah)/\Ac [] w P) (λ_ i _=>cs[k].bl.length-(intOf i).toNat)
       case atStart=>exact⟨0,b,rfl,eV _,⟨by simp,Ix⟩,H,B⟩
       case round=>
        clear H;have NS:=Ab B;clear B;obtain⟨m,a,rfl,hm,HN,EK,AH⟩:=hrel;obtain⟨f1,f2,f3,E,Q,T,Bx,f4⟩:=W.out _ _ _ AH EK HN.out.2;subst T;(have LL:(n:Int)<(Z a:Int):=by omega);(have NY:Z a<=1+A:=by have:=HN.out.2.len.2;rw[Aa HA]at this;exact this);have L0:=AH.size;by_cases f:m<cs[k].bl.length
        ·(have NX:(m:Int)<(cs[k].bl.length:Int):=by omega);(have Mo:decide ((m:Int)<(cs[k].bl.length:Int))=jj:=by simp;omega);have A0:=(HR.out.1.kept AH).each cs[k] (eo t);obtain⟨d,NB,HF,Pl,y⟩:=AC A0.body (λc _=>BV c) m f;rw[Aa K4]at HF;simp only[ei]at HF;obtain⟨rfl,_,rfl⟩:=HF;have hl:=A0.lits cs[k].bl[m] (eo f);obtain⟨HQ,HH,KK⟩:=Ak hl;have F:=y m f 0 (by omega);have d1:=y m f 1 (by omega);have d2:=y m f 2 (by omega);have d3:=y m f 3 (by omega);have d4:=y m f 4 (by omega);have d5:=y m f 5 (by omega);have d6:=y m f 6 (by omega);have d7:=y m f 7 (by omega);have d8:=y m f 8 (by omega);simp[Bb,Cs]at F d1 d2 d3 d4 d5 d6 d7 d8;rw[KK]at d2;have HD:j9 (jF wr ⟨d,m*9,Y⟩=V (X .u8 cs[k].bl[m].1.kind.toNat)/\jF wr ⟨d,m*9+1,Y⟩=V (O cs[k].bl[m].1.A.name)/\jF wr ⟨d,m*9+2,Y⟩=V (U HQ cs[k].bl[m].1.A.args.length HH)/\jF wr ⟨d,m*9+3,Y⟩=V (X J cs[k].bl[m].1.A.at_)/\jF wr ⟨d,m*9+4,Y⟩=V (X .u8 cs[k].bl[m].1.L.v.toNat)/\jF wr ⟨d,m*9+5,Y⟩=V (O cs[k].bl[m].1.L.s)/\jF wr ⟨d,m*9+6,Y⟩=V (X .u8 cs[k].bl[m].1.R.v.toNat)/\jF wr ⟨d,m*9+7,Y⟩=V (O cs[k].bl[m].1.R.s)/\jF wr ⟨d,m*9+8,Y⟩=V (X J cs[k].bl[m].1.at_)):=⟨F,d1,d2,d3,d4,d5,d6,d7,d8⟩;have u:j9 ((cs[k].bl.take (m+1)).foldl zE b=zE a cs[k].bl[m]/\El cs l (zE a cs[k].bl[m])):=⟨by rw[DE _ _ f,HN.out.1],HN.out.2.zE (eo t) (eo f)⟩;clear y hl KK A0 F d1 d2 d3 d4 d5 d6 d7 d8 W;go_wp2_with fail
         go_quiet (fail)
         have CL:=Db EK nq;have I:=AH.drewN nq;have FF:jF (wr.drewN nq) ⟨pb,0,Y⟩=V (U (V ⟨gp,0,Y⟩) (Z cs) HP)/\jF (wr.drewN nq) ⟨gp,k*5+3,Y⟩=V (U (V ⟨d,0,Y⟩) cs[k].bl.length H1)/\jF (wr.drewN nq) ⟨d,m*9,Y⟩=V (X .u8 cs[k].bl[m].1.kind.toNat)/\jF (wr.drewN nq) ⟨d,m*9+1,Y⟩=V (O cs[k].bl[m].1.A.name)/\jF (wr.drewN nq) ⟨d,m*9+2,Y⟩=V (U HQ cs[k].bl[m].1.A.args.length HH)/\jF (wr.drewN nq) ⟨d,m*9+3,Y⟩=V (X J cs[k].bl[m].1.A.at_)/\jF (wr.drewN nq) ⟨d,m*9+4,Y⟩=V (X .u8 cs[k].bl[m].1.L.v.toNat)/\jF (wr.drewN nq) ⟨d,m*9+5,Y⟩=V (O cs[k].bl[m].1.L.s)/\jF (wr.drewN nq) ⟨d,m*9+6,Y⟩=V (X .u8 cs[k].bl[m].1.R.v.toNat)/\jF (wr.drewN nq) ⟨d,m*9+7,Y⟩=V (O cs[k].bl[m].1.R.s)/\jF (wr.drewN nq) ⟨d,m*9+8,Y⟩=V (X J cs[k].bl[m].1.at_):=⟨f1,f3,HD.out⟩;clear HD f1 f2 f3 f4 EK AH L0;generalize wr.drewN nq=wd at FF CL I⊢;obtain⟨f1,f3,F,d1,d2,d3,d4,d5,d6,d7,d8⟩:=FF;have NM:=I.size;have z:=CL.alloc (j1 #[X .u8 cs[k].bl[m].1.kind.toNat,O cs[k].bl[m].1.A.name,U HQ cs[k].bl[m].1.A.args.length HH,X J cs[k].bl[m].1.A.at_,X .u8 cs[k].bl[m].1.L.v.toNat,O cs[k].bl[m].1.L.s,X .u8 cs[k].bl[m].1.R.v.toNat,O cs[k].bl[m].1.R.s,X J cs[k].bl[m].1.at_] 95);rcases EN cs[k].bl[m] with⟨k1,j⟩|⟨k1,k2,j⟩|⟨k1,k2,j⟩
         .cases hh2:DN a cs[k].bl[m].1.A.name with
          |true=>
           (have e:zE a cs[k].bl[m]=a:=by simp[zE,CJ,j,hh2]);(have C:j9 ((cs[k].bl.take (m+1)).foldl zE b=a/\El cs l a):=by have h:=u.out;rw[e]at h;exact h);clear e;clear u j;(go_wp2_with fail);refine(Dt _ a cs[k].bl[m].1.A.name w.heap.size _ z (by omega)).mono ?_;rintro e S ⟨rfl,r⟩;rw[hh2,r];clear r S hh2;go_wp2
           go_roundw
           case rel=>exact⟨m+1,a,by go_num,by omega,C,z,I.alloc _⟩
           case measure=>simp[intOf];omega
          |false=>
           (have e:zE a cs[k].bl[m]=a++[cs[k].bl[m].1.A.name]:=by simp[zE,CJ,j,hh2]);(have C:j9 ((cs[k].bl.take (m+1)).foldl zE b=a++[cs[k].bl[m].1.A.name]/\El cs l (a++[cs[k].bl[m].1.A.name])):=by have h:=u.out;rw[e]at h;exact h);clear e;clear u j;(go_wp2_with fail);refine(Dt _ a cs[k].bl[m].1.A.name w.heap.size _ z (by omega)).mono ?_;rintro e S ⟨rfl,r⟩;rw[hh2,r];clear r S hh2;go_wp2_with (at_builtin;refine eP _ rfl (.tmp 91) (.tmp 95) _ rfl w.heap.size 9 i0 _ 1 16 underlying41 KA H0 FC E0 rfl (by omega) (U (V ⟨E,0,Y⟩) (Z a) Q) (Z a) (a.flatMap Ah) rfl (z.alloc _) ⟨wd.heap.size+1,0,Y⟩ 1 1 [O cs[k].bl[m].1.A.name] rfl rfl (In wd _ _ _ _ rfl) (by simp[Value.oneCell']) (by omega) (by unfold maxLen;omega) (by omega) (by simp;omega) (wd.heap.size+2) (by simp) ?_;intro g5 MY w5 FT B2 Go HK)
           have HT:Ac [] w w5:=((I.alloc _).alloc _).grown B2 (λq hq=>j6 (CL.lt q hq).1);clear B2 Go HK;go_wp2
           go_roundw
           case rel=>
            refine⟨m+1,a++[cs[k].bl[m].1.A.name],by go_num,by omega,C,?_,HT⟩;simpa[Ah] using FT
           case measure=>simp[intOf];omega
         .cases hh2:DN a cs[k].bl[m].1.A.name with
          |true=>
           (have e:zE a cs[k].bl[m]=a:=by simp[zE,CJ,j,hh2]);(have C:j9 ((cs[k].bl.take (m+1)).foldl zE b=a/\El cs l a):=by have h:=u.out;rw[e]at h;exact h);clear e;clear u j;(go_wp2_with fail);refine(Dt _ a cs[k].bl[m].1.A.name w.heap.size _ z (by omega)).mono ?_;rintro e S ⟨rfl,r⟩;rw[hh2,r];clear r S hh2;go_wp2
           go_roundw
           case rel=>exact⟨m+1,a,by go_num,by omega,C,z,I.alloc _⟩
           case measure=>simp[intOf];omega
          |false=>
           (have e:zE a cs[k].bl[m]=a++[cs[k].bl[m].1.A.name]:=by simp[zE,CJ,j,hh2]);(have C:j9 ((cs[k].bl.take (m+1)).foldl zE b=a++[cs[k].bl[m].1.A.name]/\El cs l (a++[cs[k].bl[m].1.A.name])):=by have h:=u.out;rw[e]at h;exact h);clear e;clear u j;(go_wp2_with fail);refine(Dt _ a cs[k].bl[m].1.A.name w.heap.size _ z (by omega)).mono ?_;rintro e S ⟨rfl,r⟩;rw[hh2,r];clear r S hh2;go_wp2_with (at_builtin;refine eP _ rfl (.tmp 91) (.tmp 95) _ rfl w.heap.size 9 i0 _ 1 16 underlying41 KA H0 FC E0 rfl (by omega) (U (V ⟨E,0,Y⟩) (Z a) Q) (Z a) (a.flatMap Ah) rfl (z.alloc _) ⟨wd.heap.size+1,0,Y⟩ 1 1 [O cs[k].bl[m].1.A.name] rfl rfl (In wd _ _ _ _ rfl) (by simp[Value.oneCell']) (by omega) (by unfold maxLen;omega) (by omega) (by simp;omega) (wd.heap.size+2) (by simp) ?_;intro g5 MY w5 FT B2 Go HK)
           have HT:Ac [] w w5:=((I.alloc _).alloc _).grown B2 (λq hq=>j6 (CL.lt q hq).1);clear B2 Go HK;go_wp2
           go_roundw
           case rel=>
            refine⟨m+1,a++[cs[k].bl[m].1.A.name],by go_num,by omega,C,?_,HT⟩;simpa[Ah] using FT
           case measure=>simp[intOf];omega
         ·(have e:zE a cs[k].bl[m]=a:=by simp[zE,j]);(have C:j9 ((cs[k].bl.take (m+1)).foldl zE b=a/\El cs l a):=by have h:=u.out;rw[e]at h;exact h);clear e;clear u j;go_wp2
          go_roundw
          case rel=>exact⟨m+1,a,by go_num,by omega,C,z,I.alloc _⟩
          case measure=>simp[intOf];omega
        ·(have Mo:decide ((m:Int)<(cs[k].bl.length:Int))=K:=by simp;omega);(have RE:decide (m<cs[k].bl.length)=K:=by simp;omega);have D:j9 ((cs.take (k+1)).foldl (L8 x) l=a/\El cs l a):=by
          have h:=HN.out;rw[eu (by omega)]at h;exact⟨by rw[Aa Nq];exact h.1,h.2⟩
         clear W;go_wp2_with fail
         go_quiet (fail)
         go_wp2_with fail
         go_roundw
         case rel=>exact⟨k+1,a,by go_num,by omega,D,Db EK _,AH.drewN _⟩
         case measure=>simp[intOf];omega
     ·(have D:j9 (L1 cs l x=b/\El cs l b):=by have h:=HM.out;rw[eu (by omega)]at h;exact h);(have FC:n+1<=Z b:=by have:=D.out.2.len.1;omega);(have E0:Z b<=1+A:=by have:=D.out.2.len.2;rw[Aa HA]at this;exact this);go_wp2
      go_roundg (1+A-(n+1))
      case measure=>have:=HG.out;omega
      case rel=>exact⟨n+1,b,by go_num,FC,E0,rfl,⟨D.out.2.bd,by rw[<-D.out.1];exact K2.out.1⟩,H,B⟩
  .have K9:j9 (R=K):=by
    have h:=HB.out.2;rw[show 2+A-n=(1+A-n)+1 by omega,Jn,dif_neg AB]at h;exact h.symm
   go_wp2;go_ret;rw[K9.out];exact⟨rfl,hK⟩
def Br(p:Bw):Bool:=decide (2<Z p.1.A.args)
def BB(cs:List A8)(p:Bw):Bool:=Oh p&&(Eb cs p.1.A.name !=(Z p.1.A.args:Int))
def B4(cs:List A8)(i:Nat)(c:A8):Option (Int×Int):=
 if 12<=i\/3<Z c.bl then V (3,c.at_)
 else if 2<Z c.head.args then V (3,c.at_)
 else if c.bl.any Br then V (3,c.at_)
 else if 6<Z (Gh (cs.take (i+1)))\/6<Z (EV (cs.take (i+1))) then V (3,c.at_)
 else if Eb cs c.head.name≠(Z c.head.args:Int)then V (4,c.head.at_)
 else match c.bl.find? (BB cs)with
  |some p=>V (4,p.1.A.at_)
  |none=>if 0<=Fz c.head c.bl then V (5,Fz c.head c.bl)else Y
def DZ(cs:List A8):Nat->List A8->Option (Int×Int)
 |_,[]=>Y
 |i,c::l=>match B4 cs i c with
  |some r=>V r
  |none=>DZ cs (i+1) l
def En(cs:List A8)(c:A8)(p:Bw):Bool:=p.1.kind==33&&GK cs p.1.A.name c.head.name
def Df(cs:List A8)(c:A8):Option (Int×Int):=(c.bl.find? (En cs c)).map λp=>(6,(p.1.at_:Int))
def CM(cs:List A8):Int×Int:=match DZ cs 0 cs with
 |some r=>r
 |none=>match cs.findSome? (Df cs)with
  |some r=>r
  |none=>(0,0)
def JN{cs:List A8}:∀(l:List A8) (i k:Nat),(∀j (b:j<Z l),j<k->B4 cs (i+j) l[j]=Y)->k<=Z l->DZ cs i l=DZ cs (i+k) (l.drop k)
 |l,i,0,_,_=>by simp
 |[],i,k+1,_,hk=>by simp at hk
 |c::l,i,k+1,h,hk=>by
  have a:=h 0 (by simp) (by omega);simp only[jC,iT]at a;rw[DZ,a];simp only[iC];rw[JN l (i+1) k (λj b d=>by
   have:=h (j+1) (by simp;omega) (by omega)
   simp only[List.getElem_cons_succ]at this
   rw[show i+1+j=i+(j+1) by omega];exact this) (by simpa using hk)]
  rw[show i+1+k=i+(k+1) by omega]
def V1{cs:List A8}{k:Nat}(b:k<Z cs)(d:∀j (a:j<Z cs),j<k->B4 cs j cs[j]=Y){r:Int×Int}(c:B4 cs k cs[k]=V r):CM cs=r:=by
 unfold CM;rw[JN cs 0 k (λj a e=>by rw[fw];exact d j a e) (by omega),eQ b,fw,DZ,c]
def Tc{cs:List A8}(b:∀j (a:j<Z cs),B4 cs j cs[j]=Y):CM cs=match cs.findSome? (Df cs)with|some r=>r|none=>(0,0):=by
 unfold CM;rw[JN cs 0 (Z cs) (λj a _=>by rw[fw];exact b j a) (eM _),List.drop_length,DZ]
def R6{cs:List A8}{i:Nat}{c:A8}(h:B4 cs i c=Y):i<12/\Jy c:=by
 unfold B4 at h;split at h
 .cases h
 .rename_i d;split at h
  .cases h
  .rename_i e;split at h
   .cases h
   .rename_i b;refine⟨by omega,⟨by omega,by omega,λp a=>?_⟩⟩;have:Br p=K:=by
     cases hm:Br p with
     |false=>rfl
     |true=>exact absurd (by rw[fW];exact⟨p,a,hm⟩) b
    simpa[Br] using this
def Cn.take{w:j7}{g:Nat}{cap:Nat}{cs:List A8}(h:Cn w (U (V ⟨g,0,Y⟩) (Z cs) cap) cs)(k:Nat)(r:k<=Z cs):Cn w (U (V ⟨g,0,Y⟩) k cap) (cs.take k):=by
 refine⟨?_,λc j=>h.each c (fR j)⟩;have d:Z (cs.take k)=k:=by simp;omega
 rw[d];have i:∀(l:List A8),Z (l.flatMap BX)=Z l*5:=by
  intro l
  induction l with
  |nil=>rfl
  |cons a l ih=>rw[eN,eJ,ih,BG,eF];omega
 rcases h.row.2 with⟨b,_⟩|⟨t,s,f,b,_,q,j,m,n,p⟩
 .cases b
 .simp only[ei,eD,fm]at b;obtain⟨⟨rfl,_,_⟩,_,rfl⟩:=b;refine⟨by rw[i,d],j6 ⟨g,cap,f,rfl,eV _,q,by omega,m,n,?_⟩⟩;have e:cs.flatMap BX=(cs.take k).flatMap BX++(cs.drop k).flatMap BX:=by rw[<-eY,fH]
  have o:f.toList.take (k*5)=(f.toList.take (Z cs*5)).take (k*5):=by rw[iS,iu (by omega)]
  rw[o,p,e,fB (by rw[i,d];omega),eu (by rw[i,d];omega)]
structure St(cs:List A8):Prop where
 len:Z cs<=1000
 body:∀c∈cs,Z c.bl<=1000
 head:∀c∈cs,Z c.head.args<=1000000
 lits:∀c∈cs,∀p∈c.bl,Z p.1.A.args<=1000000
 atoms:Z (Dv cs)<=900000
 full:∀c∈cs,Y5 c
def SD{w b:j7}{g cap:Nat}{cs:List A8}(h:Cn w (U (V ⟨g,0,Y⟩) (Z cs) cap) cs)(o:Ac [] w b){k:Nat}(a:k<Z cs):
  jF b ⟨g,k*5,Y⟩=V (O cs[k].head.name)/\jF b ⟨g,k*5+1,Y⟩=V cs[k].hv/\jF b ⟨g,k*5+2,Y⟩=V (X J cs[k].head.at_)/\jF b ⟨g,k*5+3,Y⟩=V cs[k].bv/\jF b ⟨g,k*5+4,Y⟩=V (X J cs[k].at_):=by
 have n:=h.kept o;obtain⟨q,p,j,_,d⟩:=AC n.row (λc _=>BG c) k a;simp only[ei,eD,fm]at j;obtain⟨⟨rfl,_,_⟩,_,rfl⟩:=j;have l:=d k a 0 (by omega);have i:=d k a 1 (by omega);have e:=d k a 2 (by omega);have m:=d k a 3 (by omega);have f:=d k a 4 (by omega);simp[BX]at l i e m f;exact⟨l,i,e,m,f⟩
def SE{w:j7}{c:A8}(h:Uj w c){m:Nat}(b:m<Z c.bl):∃a e,c.bv=U (V ⟨a,0,Y⟩) (Z c.bl) e/\
  jF w ⟨a,m*9,Y⟩=V (X .u8 c.bl[m].1.kind.toNat)/\jF w ⟨a,m*9+1,Y⟩=V (O c.bl[m].1.A.name)/\jF w ⟨a,m*9+2,Y⟩=V c.bl[m].2/\jF w ⟨a,m*9+3,Y⟩=V (X J c.bl[m].1.A.at_)/\
  jF w ⟨a,m*9+4,Y⟩=V (X .u8 c.bl[m].1.L.v.toNat)/\jF w ⟨a,m*9+5,Y⟩=V (O c.bl[m].1.L.s)/\jF w ⟨a,m*9+6,Y⟩=V (X .u8 c.bl[m].1.R.v.toNat)/\jF w ⟨a,m*9+7,Y⟩=V (O c.bl[m].1.R.s)/\jF w ⟨a,m*9+8,Y⟩=V (X J c.bl[m].1.at_):=by
 obtain⟨a,e,r,_,d⟩:=AC h.body (λp _=>BV p) m b;have j:=d m b 0 (by omega);have k:=d m b 1 (by omega);have f:=d m b 2 (by omega);have i:=d m b 3 (by omega);have g:=d m b 4 (by omega);have l:=d m b 5 (by omega);have o:=d m b 6 (by omega);have n:=d m b 7 (by omega);have q:=d m b 8 (by omega);simp[Bb,Cs]at j k f i g l o n q;exact⟨a,e,r,j,k,f,i,g,l,o,n,q⟩
def UK{cs:List A8}{k:Nat}(f:k<Z cs)(d:∀j (a:j<Z cs),j<k->B4 cs j cs[j]=Y)(e:Jy cs[k]):∀c∈cs.take (k+1),Jy c:=by
 intro c b;obtain⟨j,a,rfl⟩:=List.mem_iff_getElem.1 b;simp only[ft]at a;rw[iN];by_cases h:j<k
 .exact(R6 (d j (by omega) h)).2
 .have:j=k:=by omega
  subst this;exact e
structure KW(w0:j7) where
 wk:j7
 kept:Ac [] w0 wk
theorem KW.some(w0:j7):Nonempty (KW w0):=⟨⟨w0,Ac.refl _ _⟩⟩
def F7{P:Program}{d:Nat}{Q:Exit->Act->j7->Prop}{a:Act}{w w0:j7}{l:List Oper}(e:P.follows .mixedOrders=jj)(g:Region.lexB .any (j2 l)=jj)(c:Ac [] w0 w)
  (h:wpQuiet P (j2 l) (λb=>∃n:KW w0,b=n.wk) (λf=>∀b,(∃n:KW w0,b=n.wk)->Q .normal f b) l a):(Code.region d (j2 l) jj).wp P Q a w:=
 wp_region_quiet (C:=λb=>∃n:KW w0,b=n.wk) e g ⟨⟨_,c.drew⟩,rfl⟩ (by simpa using h)
def Calls.zj{P:Program}{f:FuncId}{args:Array j8}{w0:j7}{n:KW w0}{v:j8}
  (h:Calls P f args n.wk λe a=>e=j4 v/\Ac [] n.wk a):Calls P f args n.wk λe b=>e=j4 v/\∃m:KW w0,b=m.wk:=
 h.mono λ_ a ⟨he,hk⟩=>⟨he,⟨⟨a,n.kept.trans hk⟩,rfl⟩⟩
theorem X5(pb:Nat)(lv:j8)(cs:List A8)(w:j7)(hP:AI w pb [lv] 76)(hR:Cn w lv cs)(hF:St cs):
  Calls prog 45 #[j3 (V ⟨pb,0,Y⟩)] w λe w'=>e=j4 (.tuple #[X J (CM cs).1,X J (CM cs).2])/\Ac [] w w':=by
 obtain⟨ad,cap,rfl⟩:=Ak hR.row;obtain⟨R,hRR⟩:∃R,CM cs=R:=⟨_,rfl⟩;rw[hRR];have HR:j9 (Cn w (U ad (Z cs) cap) cs/\St cs/\CM cs=R):=⟨hR,hF,hRR⟩;have hlen:=hF.len;clear hR hF hRR;go_enter func45,ntmps45;go_wp2
 go_loopw [4] (λi wr=>∃k:Nat,i=X J k/\k<=Z cs/\j9 (∀j (hj:j<Z cs),j<k->B4 cs j cs[j]=Y)/\Ac [] w wr) (λi _=>Z cs-(intOf i).toNat)
 case atStart=>exact⟨0,rfl,eV _,λj hj h=>by omega,Ac.refl _ _⟩
 case round=>
  obtain⟨k,rfl,hk,HC,hK⟩:=hrel;have hpc:=(hP.kept hK (by simp)).cell 0;simp at hpc;by_cases zX:k<Z cs
  .obtain⟨g,cap',he,hcap,hcellx⟩:=AC HR.out.1.row (λc _=>BG c) k zX;clear hcellx;simp only[ei]at he;obtain⟨rfl,_,rfl⟩:=he;obtain⟨c0,c1,c2,c3,c4⟩:=SD HR.out.1 hK zX;have hin:=(HR.out.1.kept hK).each cs[k] (eo zX);obtain⟨adh,caph,hhv⟩:=Ak hin.args;obtain⟨adb,capb,hbv⟩:=Ak hin.body;rw[hhv]at c1;rw[hbv]at c3;obtain⟨c,hc⟩:∃c,cs[k]=c:=⟨_,rfl⟩;rw[hc]at c0 c1 c2 c3 c4 hhv hbv;have HH:j9 (cs[k]=c/\c.hv=U adh (Z c.head.args) caph/\c.bv=U adb (Z c.bl) capb):=⟨hc,hhv,hbv⟩;(have hbl:Z c.bl<=1000:=by have:=HR.out.2.1.body cs[k] (eo zX);rw[hc]at this;exact this);(have hhl:Z c.head.args<=1000000:=by have:=HR.out.2.1.head cs[k] (eo zX);rw[hc]at this;exact this);have HIT:j9 (∀r,B4 cs k c=V r->R=r):=by
    intro r hr;rw[<-HR.out.2.2];exact V1 zX HC.out (by rw[hc];exact hr)
   clear hin hhv hbv hc;by_cases h1:12<=k\/3<Z c.bl
   .have HRt:j9 (R=(3,(c.at_:Int))):=HIT.out _ (by unfold B4;rw[eI h1]);by_cases h12:12<=k
    ·(have h12':(12:Int)<=(k:Int):=by omega);clear h1;go_wp2_with fail
     go_quiet (fail)
     (go_wp2_with fail);go_ret2;rw[HRt.out];exact⟨rfl,(hK.alloc _).drewN _⟩
    ·(have h3:(3:Int)<(Z c.bl:Int):=by omega);clear h1;go_wp2_with fail
     go_quiet (fail)
     (go_wp2_with fail);go_ret2;rw[HRt.out];exact⟨rfl,(hK.alloc _).drewN _⟩
   ·(have hk12:k<12:=by omega);(have hb3:Z c.bl<=3:=by omega);by_cases h2:2<Z c.head.args
    .have HRt:j9 (R=(3,(c.at_:Int))):=HIT.out _ (by unfold B4;rw[eE h1,eI h2]);clear h1;go_wp2_with fail
     go_quiet (fail)
     (go_wp2_with fail);go_ret2;rw[HRt.out];exact⟨rfl,(hK.alloc _).drewN _⟩
    ·(have ha2:Z c.head.args<=2:=by omega);have H12:j9 (¬(12<=k\/3<Z c.bl)/\¬2<Z c.head.args):=⟨h1,h2⟩;clear h1 h2;(go_wp2_with fail);have hB1:=AI.new wr [O c.head.name,U adh (Z c.head.args) caph,X J c.head.at_,U adb (Z c.bl) capb,X J c.at_] 82;have hK1:=hK.alloc (j1 [O c.head.name,U adh (Z c.head.args) caph,X J c.head.at_,U adb (Z c.bl) capb,X J c.at_].toArray 82);have hwN:=hK.size;clear hpc c0 c1 c2 c3 c4 hK;generalize wr.alloc (j1 [O c.head.name,U adh (Z c.head.args) caph,X J c.head.at_,U adb (Z c.bl) capb,X J c.at_].toArray 82)=w1 at hB1 hK1⊢;generalize wr.heap.size=N at hB1 hwN⊢;have q0:=hB1.cell 0;have q1:=hB1.cell 1;have q2:=hB1.cell 2;have q3:=hB1.cell 3;have q4:=hB1.cell 4;simp at q0 q1 q2 q3 q4
     go_loop [6] (λi=>∃m:Nat,i=X J m/\m<=Z c.bl/\j9 ((c.bl.take m).any Br=K)) (λi=>Z c.bl-(intOf i).toNat)
     case atStart=>exact⟨0,rfl,eV _,by show _=_;simp⟩
     case round=>
      obtain⟨m,rfl,hm,HM⟩:=hrel;by_cases hlm:m<Z c.bl
      .have hin:=(HR.out.1.kept hK1).each cs[k] (eo zX);rw[HH.out.1]at hin;obtain⟨gb,capb',heb,d0,d1,d2,d3,d4,d5,d6,d7,d8⟩:=SE hin hlm;rw[HH.out.2.2]at heb;simp only[ei]at heb;obtain⟨rfl,_,rfl⟩:=heb;obtain⟨ada,capa,hav⟩:=Ak (hin.lits c.bl[m] (eo hlm));rw[hav]at d2;clear d0 d1 d3 d4 d5 d6 d7 d8 hin hav;by_cases hma:2<c.bl[m].1.A.args.length
       .have HRt:j9 (R=(3,(c.at_:Int))):=HIT.out _ (by unfold B4;rw[eE H12.out.1,eE H12.out.2,eI (Jf _ _ m hlm (by simpa[Br] using hma))]);go_wp2_with fail
        go_quiet (fail)
        (go_wp2_with fail);go_ret2;rw[HRt.out];exact⟨rfl,hK1.drewN _⟩
       ·(have HN:j9 ((c.bl.take (m+1)).any Br=K):=by show _=_;rw[CY _ _ m hlm HM.out];simpa[Br] using hma);go_wp2_with fail
        go_round
        case rel=>exact⟨m+1,by go_num,by omega,HN⟩
        case measure=>simp[intOf];omega
      ·(have HM2:j9 (c.bl.any Br=K):=by have h:=HM.out;rwa [eu (by omega)]at h);clear HM;have hpc:=(hP.kept hK1 (by simp)).cell 0;simp at hpc;(have hcap':(k:Int)+1<=(cap:Int):=by omega);have HSm:j9 (∀c'∈cs.take (k+1),Jy c'):=by
        refine UK zX HC.out ?_;rw[HH.out.1];refine⟨hb3,ha2,λp hp=>?_⟩;cases hmm:Br p with
        |false=>simpa[Br] using hmm
        |true=>(have:c.bl.any Br=jj:=by rw[fW];exact⟨p,hp,hmm⟩);rw[HM2.out]at this;cases this
       (go_wp2_with fail);clear hlm hm;have hBq:=AI.new w1 [U (V ⟨g,0,Y⟩) (k+1) cap] 76;have hK2:=hK1.alloc (j1 [U (V ⟨g,0,Y⟩) (k+1) cap].toArray 76);have hB2:=hB1.alloc (j1 [U (V ⟨g,0,Y⟩) (k+1) cap].toArray 76);have hNlt:=hB1.lt;clear hpc q0 q1 q2 q3 q4 hB1 hK1;generalize w1.alloc (j1 [U (V ⟨g,0,Y⟩) (k+1) cap].toArray 76)=w2 at hBq hK2 hB2⊢;generalize w1.heap.size=Nq at hBq hNlt⊢;(have htl:Z (cs.take (k+1))=k+1:=by simp;omega);have hRk:=(HR.out.1.kept hK2).take (k+1) (by omega);refine(YR Nq _ (cs.take (k+1)) _ hBq hRk (by omega) HSm).mono ?_;rintro e w3 ⟨v3,rfl,hown3,hK3⟩;obtain⟨ad3,cap3,rfl⟩:=Ak hown3;have hK3':=hK2.trans hK3;have hB3:=hB2.kept hK3 (by simp);have hBq3:=hBq.kept hK3 (by simp);have hRk3:=hRk.kept hK3;obtain⟨nn,hnn⟩:∃nn,Z (Gh (cs.take (k+1)))=nn:=⟨_,rfl⟩;have HNN:=Ab hnn;rw[hnn];clear hown3 hK3 hB2 hBq hRk hK2 hnn;have q4:=hB3.cell 4;simp at q4;by_cases hn6:6<nn
       .have HRt:j9 (R=(3,(c.at_:Int))):=HIT.out _ (by unfold B4;rw[eE H12.out.1,eE H12.out.2,eE (by rw[HM2.out];exact gJ),eI (Or.inl (by rw[Aa HNN];exact hn6))]);go_wp2_with fail
        go_quiet (fail)
        (go_wp2_with fail);go_ret2;rw[HRt.out];exact⟨rfl,hK3'.drewN _⟩
       ·(go_wp2_with fail);refine(V0 Nq _ (cs.take (k+1)) _ hBq3 hRk3 (by omega) HSm (λc' hc'=>HR.out.2.1.full c' (fR hc'))).mono ?_;rintro e w4 ⟨v4,rfl,hown4,hK4⟩;obtain⟨ad4,cap4,rfl⟩:=Ak hown4;have hK4':=hK3'.trans hK4;have hB4:=hB3.kept hK4 (by simp);obtain⟨nt,hnt⟩:∃nt,Z (EV (cs.take (k+1)))=nt:=⟨_,rfl⟩;have HNT:=Ab hnt;rw[hnt];clear hown4 hK4 hB3 hBq3 hRk3 hK3' hnt q4;have q0:=hB4.cell 0;have q1:=hB4.cell 1;have q2:=hB4.cell 2;have q4:=hB4.cell 4;simp at q0 q1 q2 q4;by_cases ht6:6<nt
        .have HRt:j9 (R=(3,(c.at_:Int))):=HIT.out _ (by unfold B4;rw[eE H12.out.1,eE H12.out.2,eE (by rw[HM2.out];exact gJ),eI (j6 (by rw[Aa HNT];exact ht6))]);go_wp2_with fail
         go_quiet (fail)
         (go_wp2_with fail);go_ret2;rw[HRt.out];exact⟨rfl,hK4'.drewN _⟩
        .have H34:j9 (¬(6<Z (Gh (cs.take (k+1)))\/6<Z (EV (cs.take (k+1))))):=by
          show¬_;rw[Aa HNN,Aa HNT];omega
         obtain⟨ar,har⟩:∃ar,Eb cs c.head.name=ar:=⟨_,rfl⟩;have HAr:=Ab har;have hP4:=(hP.kept hK4' (by simp)).drew;have hK4d:=hK4'.drew;have HF4:j9 (Z cs<=1000000/\(∀c∈cs,Z c.bl<=1000000)/\(∀c∈cs,∀p∈c.bl,Z p.1.A.args<=1000000)):=⟨by omega,λc' hc'=>by have:=HR.out.2.1.body c' hc';omega,HR.out.2.1.lits⟩;clear har;go_wp2_with fail
         go_region_held3 (λw'=>jF w' ⟨N,0,Y⟩=V (O c.head.name)/\jF w' ⟨N,1,Y⟩=V (U adh (Z c.head.args) caph)) (go_keep) (first|(go_at_call 23;refine(MP pb _ cs c.head.name _ (by exact hP4) (by exact HR.out.1.kept hK4d) HF4.out.1 HF4.out.2.1).mono ?_;rintro e w5 ⟨rfl,hK5⟩;rw[Aa HAr];have hB5:=hB4.drew.kept hK5 (by simp);have r0:=hB5.cell 0;have r1:=hB5.cell 1;simp at r0 r1))
         have hK5':=hK4d.trans hK5;clear hP4 hK4d hK4' hB4 q0 q1 q2 q4 hK5 r0 r1;have q2:=hB5.cell 2;have q3:=hB5.cell 3;simp at q2 q3;by_cases hae:ar=(Z c.head.args:Int)
         ·(have hne:(ar !=(Z c.head.args:Int))=K:=by simp[hae]);(have HAE:j9 (¬Eb cs c.head.name≠(Z c.head.args:Int)):=by show¬_;rw[Aa HAr];simp[hae]);clear hae;go_wp2_with fail
          go_loopw [8] (λi wq=>∃m:Nat,i=X J m/\m<=Z c.bl/\j9 ((c.bl.take m).any (BB cs)=K)/\Ac [] w wq/\AI wq N [O c.head.name,U adh (Z c.head.args) caph,X J c.head.at_,U adb (Z c.bl) capb,X J c.at_] 82) (λi _=>Z c.bl-(intOf i).toNat)
          case atStart=>exact⟨0,rfl,eV _,by show _=_;simp,hK5',hB5⟩
          case round=>
           clear q2 q3 hB5 hK5' hne;obtain⟨m,rfl,hm,HM,hKq,hBq⟩:=hrel;have hNq:=hBq.lt;have q0:=hBq.cell 0;have q1:=hBq.cell 1;have q2:=hBq.cell 2;have q3:=hBq.cell 3;simp at q0 q1 q2 q3;have hin:=(HR.out.1.kept hKq).each cs[k] (eo zX);rw[HH.out.1]at hin;by_cases hlm:m<Z c.bl
           .obtain⟨gb,capb',heb,d0,d1,d2,d3,d4,d5,d6,d7,d8⟩:=SE hin hlm;rw[HH.out.2.2]at heb;simp only[ei]at heb;obtain⟨rfl,_,rfl⟩:=heb;obtain⟨ada,capa,hav⟩:=Ak (hin.lits c.bl[m] (eo hlm));rw[hav]at d2;clear hin hav;obtain⟨pp,hpp⟩:∃pp,c.bl[m]=pp:=⟨_,rfl⟩;rw[hpp]at d0 d1 d2 d3 d4 d5 d6 d7 d8;have HY:j9 (BB cs pp=jj->R=(4,(pp.1.A.at_:Int))):=by
             intro ho;refine HIT.out _ ?_;unfold B4;rw[eE H12.out.1,eE H12.out.2,eE (by rw[HM2.out];exact gJ),eE H34.out,eE HAE.out,FJ _ _ m hlm HM.out (by rw[hpp];exact ho),hpp]
            have HN:j9 (BB cs pp=K->(c.bl.take (m+1)).any (BB cs)=K):=by
             intro ho;rw[CY _ _ m hlm HM.out,hpp];exact ho
            clear hpp;(go_wp2_with fail);clear d0 d1 d2 d3 d4 d5 d6 d7 d8 q0 q1 q2 q3;have hBx:=AI.new wr [X .u8 pp.1.kind.toNat,O pp.1.A.name,U ada (Z pp.1.A.args) capa,X J pp.1.A.at_,X .u8 pp.1.L.v.toNat,O pp.1.L.s,X .u8 pp.1.R.v.toNat,O pp.1.R.s,X J pp.1.at_] 95;have hBn:=hBq.alloc (j1 [X .u8 pp.1.kind.toNat,O pp.1.A.name,U ada (Z pp.1.A.args) capa,X J pp.1.A.at_,X .u8 pp.1.L.v.toNat,O pp.1.L.s,X .u8 pp.1.R.v.toNat,O pp.1.R.s,X J pp.1.at_].toArray 95);have hKx:=hKq.alloc (j1 [X .u8 pp.1.kind.toNat,O pp.1.A.name,U ada (Z pp.1.A.args) capa,X J pp.1.A.at_,X .u8 pp.1.L.v.toNat,O pp.1.L.s,X .u8 pp.1.R.v.toNat,O pp.1.R.s,X J pp.1.at_].toArray 95);clear hBq hKq;generalize wr.alloc (j1 [X .u8 pp.1.kind.toNat,O pp.1.A.name,U ada (Z pp.1.A.args) capa,X J pp.1.A.at_,X .u8 pp.1.L.v.toNat,O pp.1.L.s,X .u8 pp.1.R.v.toNat,O pp.1.R.s,X J pp.1.at_].toArray 95)=w6 at hBx hBn hKx⊢;generalize wr.heap.size=Nx at hBx hNq⊢;have x0:=hBx.cell 0;have x1:=hBx.cell 1;have x2:=hBx.cell 2;have x3:=hBx.cell 3;simp at x0 x1 x2 x3;obtain⟨z9,har2⟩:∃z9,Eb cs pp.1.A.name=z9:=⟨_,rfl⟩;have HA2:=Ab har2;have hP6:=(hP.kept hKx (by simp)).drew;have hK6d:=hKx.drew;rcases EN pp with⟨k1,k3⟩|⟨k1,k2,k3⟩|⟨k1,k2,k3⟩
            ·(have y0:∀n:KW w6,jF n.wk ⟨Nx,0,Y⟩=V (X .u8 pp.1.kind.toNat):=λn=>(hBx.kept n.kept (by simp)).cell 0);(have y1:∀n:KW w6,jF n.wk ⟨Nx,1,Y⟩=V (O pp.1.A.name):=λn=>(hBx.kept n.kept (by simp)).cell 1);(have y2:∀n:KW w6,jF n.wk ⟨Nx,2,Y⟩=V (U ada (Z pp.1.A.args) capa):=λn=>(hBx.kept n.kept (by simp)).cell 2);have ACALL:j9 (∀n:KW w6,Calls prog 23 #[j3 (V ⟨pb,0,Y⟩),O pp.1.A.name] n.wk λe w''=>e=j4 (X J z9)/\∃m:KW w6,w''=m.wk):=by
              intro n;have h:=MP pb _ cs pp.1.A.name n.wk (hP.kept (hKx.trans n.kept) (by simp)) (HR.out.1.kept (hKx.trans n.kept)) HF4.out.1 HF4.out.2.1;rw[Aa HA2]at h;exact Calls.zj h
             clear x0 x1 x2;have hsome:=KW.some w6;refine F7 (w0:=w6) (by kernel_rfl) (by kernel_rfl) (Ac.refl _ _) ?_
             repeat (go_big_quiet_step ((go_at_call 23;exact ACALL _)))
             refine wpQuiet_nil ?_;intro _ hw';obtain⟨⟨w7,hK7⟩,hw7⟩:=hw';subst hw7
             try simp only
             clear y0 y1 y2 ACALL;have hK7':=hKx.trans hK7;have hBn7:=hBn.kept hK7 (by simp);have x3':=(hBx.kept hK7 (by simp)).cell 3;simp at x3';by_cases hae:z9=(Z pp.1.A.args:Int)
             ·(have hne2:(z9 !=(Z pp.1.A.args:Int))=K:=by simp[hae]);have HN':=Ab (HN.out (by simp only[BB,k3,Aa HA2,hne2,iz]));clear HY HN k3 har2 hP6 hK6d x3 hBx hBn hKx hK7 hae;go_wp2_with fail
              go_roundw
              case rel=>exact⟨m+1,by go_num,by omega,HN',hK7',hBn7⟩
              case measure=>simp[intOf];omega
             ·(have hne2:(z9 !=(Z pp.1.A.args:Int))=jj:=by simp[hae]);have HRt:j9 (R=(4,(pp.1.A.at_:Int))):=HY.out (by simp only[BB,k3,Aa HA2,hne2,ic]);clear HY HN k3 har2 hP6 hK6d x3 hBx hBn hKx hK7 hae;go_wp2_with fail
              go_quiet (fail)
              (go_wp2_with fail);go_ret2;rw[HRt.out];exact⟨rfl,hK7'.drewN _⟩
            ·(have y0:∀n:KW w6,jF n.wk ⟨Nx,0,Y⟩=V (X .u8 pp.1.kind.toNat):=λn=>(hBx.kept n.kept (by simp)).cell 0);(have y1:∀n:KW w6,jF n.wk ⟨Nx,1,Y⟩=V (O pp.1.A.name):=λn=>(hBx.kept n.kept (by simp)).cell 1);(have y2:∀n:KW w6,jF n.wk ⟨Nx,2,Y⟩=V (U ada (Z pp.1.A.args) capa):=λn=>(hBx.kept n.kept (by simp)).cell 2);have ACALL:j9 (∀n:KW w6,Calls prog 23 #[j3 (V ⟨pb,0,Y⟩),O pp.1.A.name] n.wk λe w''=>e=j4 (X J z9)/\∃m:KW w6,w''=m.wk):=by
              intro n;have h:=MP pb _ cs pp.1.A.name n.wk (hP.kept (hKx.trans n.kept) (by simp)) (HR.out.1.kept (hKx.trans n.kept)) HF4.out.1 HF4.out.2.1;rw[Aa HA2]at h;exact Calls.zj h
             clear x0 x1 x2;have hsome:=KW.some w6;refine F7 (w0:=w6) (by kernel_rfl) (by kernel_rfl) (Ac.refl _ _) ?_
             repeat (go_big_quiet_step ((go_at_call 23;exact ACALL _)))
             refine wpQuiet_nil ?_;intro _ hw';obtain⟨⟨w7,hK7⟩,hw7⟩:=hw';subst hw7
             try simp only
             clear y0 y1 y2 ACALL;have hK7':=hKx.trans hK7;have hBn7:=hBn.kept hK7 (by simp);have x3':=(hBx.kept hK7 (by simp)).cell 3;simp at x3';by_cases hae:z9=(Z pp.1.A.args:Int)
             ·(have hne2:(z9 !=(Z pp.1.A.args:Int))=K:=by simp[hae]);have HN':=Ab (HN.out (by simp only[BB,k3,Aa HA2,hne2,iz]));clear HY HN k3 har2 hP6 hK6d x3 hBx hBn hKx hK7 hae;go_wp2_with fail
              go_roundw
              case rel=>exact⟨m+1,by go_num,by omega,HN',hK7',hBn7⟩
              case measure=>simp[intOf];omega
             ·(have hne2:(z9 !=(Z pp.1.A.args:Int))=jj:=by simp[hae]);have HRt:j9 (R=(4,(pp.1.A.at_:Int))):=HY.out (by simp only[BB,k3,Aa HA2,hne2,ic]);clear HY HN k3 har2 hP6 hK6d x3 hBx hBn hKx hK7 hae;go_wp2_with fail
              go_quiet (fail)
              (go_wp2_with fail);go_ret2;rw[HRt.out];exact⟨rfl,hK7'.drewN _⟩
            .have HN':=Ab (HN.out (by simp[BB,k3]));clear HY HN k3 har2 hP6 hK6d
             go_quiet (fail)
             go_wp2_with fail
             go_roundw
             case rel=>exact⟨m+1,by go_num,by omega,HN',hKx.drewN _,hBn.drewN _⟩
             case measure=>simp[intOf];omega
           .have HFN:j9 (c.bl.find? (BB cs)=Y):=by
             have h:=HM.out;rw[eu (by omega)]at h;show _=_;rw[gV];intro x hx hf;(have:c.bl.any (BB cs)=jj:=by rw[fW];exact⟨x,hx,hf⟩);rw[h]at this;cases this
            have T:=aD c.head c.hv c.bv c.bl _ hin.args hin.body hin.lits (by omega) (λp hp=>by have:=HF4.out.2.2 cs[k] (eo zX) p (by rw[HH.out.1];exact hp);exact this) hhl;rw[HH.out.2.1,HH.out.2.2]at T;simp only[Cj]at T;have HT:=Ab T;obtain⟨sf,hsf⟩:∃sf,Fz c.head c.bl=sf:=⟨_,rfl⟩;have HSF:=Ab hsf;(have hsfb: -1<=sf/\sf<=9223372036854775806->True:=λ_=>trivial);clear hsfb T hin hsf;(go_wp2_with fail);refine HT.mono ?_;rintro e w7 ⟨rfl,hK7⟩;rw[Aa HSF];have hK7':=hKq.trans hK7;clear HT hK7 hKq hBq q0 q1 q2 q3;by_cases hs0:0<=sf
            .have HRt:j9 (R=(5,sf)):=HIT.out _ (by unfold B4;rw[eE H12.out.1,eE H12.out.2,eE (by rw[HM2.out];exact gJ),eE H34.out,eE HAE.out,HFN.out];simp only;rw[Aa HSF,eI hs0]);(go_wp2_with fail);go_ret2;rw[HRt.out];exact⟨rfl,hK7'⟩
            .have HCn:j9 (∀j (hj:j<Z cs),j<k+1->B4 cs j cs[j]=Y):=by
              intro j hj hjk;by_cases hjk':j<k
              .exact HC.out j hj hjk'
              ·(have:j=k:=by omega);subst this;rw[HH.out.1];unfold B4;rw[eE H12.out.1,eE H12.out.2,eE (by rw[HM2.out];exact gJ),eE H34.out,eE HAE.out,HFN.out];simp only;rw[Aa HSF,eE hs0]
             go_wp2_with fail
             go_roundw
             case rel=>exact⟨k+1,by go_num,by omega,HCn,hK7'⟩
             case measure=>simp[intOf];omega
         ·(have hne:(ar !=(Z c.head.args:Int))=jj:=by simp[hae]);have HRt:j9 (R=(4,(c.head.at_:Int))):=HIT.out _ (by unfold B4;rw[eE H12.out.1,eE H12.out.2,eE (by rw[HM2.out];exact gJ),eE H34.out,eI (by rw[Aa HAr];exact hae)]);clear hae;go_wp2_with fail
          go_quiet (fail)
          (go_wp2_with fail);go_ret2;rw[HRt.out];exact⟨rfl,hK5'.drewN _⟩
  .have HRn:j9 (R=match cs.findSome? (Df cs)with|some r=>r|none=>(0,0)):=by
    rw[<-HR.out.2.2];exact Tc (λj hj=>HC.out j hj (by omega))
   have HF5:j9 (Z cs<=1000000/\(∀c∈cs,Z c.bl<=1000000)/\Z (Dv cs)<=900000):=⟨by omega,λc' hc'=>by have:=HR.out.2.1.body c' hc';omega,HR.out.2.1.atoms⟩;clear HC;(go_wp2_with fail);clear hpc
   go_loopw [11] (λi wr=>∃q:Nat,i=X J q/\q<=Z cs/\j9 ((cs.take q).findSome? (Df cs)=Y)/\Ac [] w wr) (λi _=>Z cs-(intOf i).toNat)
   case atStart=>exact⟨0,rfl,eV _,by show _=_;simp,hK⟩
   case round=>
    clear hK;obtain⟨q,rfl,hq,HQ,hK⟩:=hrel;have hpc:=(hP.kept hK (by simp)).cell 0;simp at hpc;by_cases hlq:q<Z cs
    .obtain⟨g,cap',he,hcap,hcellx⟩:=AC HR.out.1.row (λc _=>BG c) q hlq;clear hcellx;simp only[ei]at he;obtain⟨rfl,_,rfl⟩:=he;have hin0:=HR.out.1.each cs[q] (eo hlq);obtain⟨adb,capb,hbv⟩:=Ak hin0.body;obtain⟨c,hc⟩:∃c,cs[q]=c:=⟨_,rfl⟩;rw[hc]at hbv;have HH:j9 (cs[q]=c/\c.bv=U adb (Z c.bl) capb):=⟨hc,hbv⟩;(have hbl:Z c.bl<=1000:=by have:=HR.out.2.1.body cs[q] (eo hlq);rw[hc]at this;exact this);clear hin0 hbv hc;(go_wp2_with fail);clear hpc
     go_loopw [12] (λi wq=>∃m:Nat,i=X J m/\m<=Z c.bl/\j9 ((c.bl.take m).any (En cs c)=K)/\Ac [] w wq) (λi _=>Z c.bl-(intOf i).toNat)
     case atStart=>exact⟨0,rfl,eV _,by show _=_;simp,hK⟩
     case round=>
      clear hK;obtain⟨m,rfl,hm,HM,hKq⟩:=hrel;have hpc:=(hP.kept hKq (by simp)).cell 0;simp at hpc;obtain⟨c0,_,_,c3,_⟩:=SD HR.out.1 hKq hlq;rw[HH.out.1]at c0 c3;rw[HH.out.2]at c3;have hin:=(HR.out.1.kept hKq).each cs[q] (eo hlq);rw[HH.out.1]at hin;by_cases hlm:m<Z c.bl
      .obtain⟨gb,capb',heb,d0,d1,d2,d3,d4,d5,d6,d7,d8⟩:=SE hin hlm;rw[HH.out.2]at heb;simp only[ei]at heb;obtain⟨rfl,_,rfl⟩:=heb;obtain⟨ada,capa,hav⟩:=Ak (hin.lits c.bl[m] (eo hlm));rw[hav]at d2;clear hin hav;obtain⟨pp,hpp⟩:∃pp,c.bl[m]=pp:=⟨_,rfl⟩;rw[hpp]at d0 d1 d2 d3 d4 d5 d6 d7 d8;have HY:j9 (En cs c pp=jj->R=(6,(pp.1.at_:Int))):=by
        intro ho;have h1:Df cs cs[q]=V (6,(pp.1.at_:Int)):=by
         unfold Df;rw[HH.out.1,FJ _ _ m hlm HM.out (by rw[hpp];exact ho),hpp];rfl
        rw[HRn.out,Gs _ _ q hlq HQ.out h1]
       have HN:j9 (En cs c pp=K->(c.bl.take (m+1)).any (En cs c)=K):=by
        intro ho;rw[CY _ _ m hlm HM.out,hpp];exact ho
       clear hpp;have e33:((pp.1.kind.toNat:Int)==33)=(pp.1.kind==33):=Cp _ 33;cases hkd:(pp.1.kind==33)with
       |false=>
        rw[hkd]at e33;have HN':=Ab (HN.out (by simp[En,hkd]));clear HY HN hkd;go_wp2_with fail
        go_roundw
        case rel=>exact⟨m+1,by go_num,by omega,HN',hKq.alloc _⟩
        case measure=>simp[intOf];omega
       |true=>
        rw[hkd]at e33;(go_wp2_with fail);clear d0 d1 d2 d3 d4 d5 d6 d7 d8 hpc c0 c3 e33;have hBx:=AI.new wr [X .u8 pp.1.kind.toNat,O pp.1.A.name,U ada (Z pp.1.A.args) capa,X J pp.1.A.at_,X .u8 pp.1.L.v.toNat,O pp.1.L.s,X .u8 pp.1.R.v.toNat,O pp.1.R.s,X J pp.1.at_] 95;have hKx:=hKq.alloc (j1 [X .u8 pp.1.kind.toNat,O pp.1.A.name,U ada (Z pp.1.A.args) capa,X J pp.1.A.at_,X .u8 pp.1.L.v.toNat,O pp.1.L.s,X .u8 pp.1.R.v.toNat,O pp.1.R.s,X J pp.1.at_].toArray 95);clear hKq;generalize wr.alloc (j1 [X .u8 pp.1.kind.toNat,O pp.1.A.name,U ada (Z pp.1.A.args) capa,X J pp.1.A.at_,X .u8 pp.1.L.v.toNat,O pp.1.L.s,X .u8 pp.1.R.v.toNat,O pp.1.R.s,X J pp.1.at_].toArray 95)=w6 at hBx hKx⊢;generalize wr.heap.size=Nx at hBx⊢;(have y1:∀n:KW w6,jF n.wk ⟨Nx,1,Y⟩=V (O pp.1.A.name):=λn=>(hBx.kept n.kept (by simp)).cell 1);(have y2:∀n:KW w6,jF n.wk ⟨pb,0,Y⟩=V (U (V ⟨g,0,Y⟩) (Z cs) cap):=λn=>(hP.kept (hKx.trans n.kept) (by simp)).cell 0);(have y3:∀n:KW w6,jF n.wk ⟨g,q*5,Y⟩=V (O c.head.name):=λn=>by have h:=(SD HR.out.1 (hKx.trans n.kept) hlq).1;rw[HH.out.1]at h;exact h);obtain⟨rb,hrb⟩:∃rb,GK cs pp.1.A.name c.head.name=rb:=⟨_,rfl⟩;have HRB:=Ab hrb;have ACALL:j9 (∀n:KW w6,Calls prog 85 #[j3 (V ⟨pb,0,Y⟩),O pp.1.A.name,O c.head.name] n.wk λe w''=>e=j4 (jJ rb)/\∃m:KW w6,w''=m.wk):=by
         intro n;have h:=SS pb _ cs pp.1.A.name c.head.name n.wk (hP.kept (hKx.trans n.kept) (by simp)) (HR.out.1.kept (hKx.trans n.kept)) HF5.out.1 HF5.out.2.1 HF5.out.2.2;rw[Aa HRB]at h;exact Calls.zj h
        (have hlq':(q:Int)<(Z cs:Int):=by omega);clear hrb;have hsome:=KW.some w6;refine F7 (w0:=w6) (by kernel_rfl) (by kernel_rfl) (Ac.refl _ _) ?_
        repeat (go_big_quiet_step ((go_at_call 85;exact ACALL _)))
        refine wpQuiet_nil ?_;intro _ hw';obtain⟨⟨w7,hK7⟩,hw7⟩:=hw';subst hw7
        try simp only
        clear y1 y2 y3 ACALL;have hK7':=hKx.trans hK7;have x8:=(hBx.kept hK7 (by simp)).cell 8;simp at x8;cases rb with
        |true=>
         have HRt:j9 (R=(6,(pp.1.at_:Int))):=HY.out (by simp only[En,hkd,Aa HRB,ic]);clear HY HN hkd hBx hKx hK7;go_wp2_with fail
         go_quiet (fail)
         (go_wp2_with fail);go_ret2;rw[HRt.out];exact⟨rfl,hK7'.drewN _⟩
        |false=>
         have HN':=Ab (HN.out (by simp only[En,hkd,Aa HRB,iz]));clear HY HN hkd hBx hKx hK7;go_wp2_with fail
         go_roundw
         case rel=>exact⟨m+1,by go_num,by omega,HN',hK7'⟩
         case measure=>simp[intOf];omega
      .have HZ:j9 ((cs.take (q+1)).findSome? (Df cs)=Y):=by
        have h:=HM.out;rw[eu (by omega)]at h;show _=_;rw[Fw _ _ q hlq HQ.out,HH.out.1];unfold Df;have:c.bl.find? (En cs c)=Y:=by
         rw[gV];intro x hx hf;(have:c.bl.any (En cs c)=jj:=by rw[fW];exact⟨x,hx,hf⟩);rw[h]at this;cases this
        rw[this];rfl
       go_wp2_with fail
       go_roundw
       case rel=>exact⟨q+1,by go_num,by omega,HZ,hKq⟩
       case measure=>simp[intOf];omega
    .have HE:j9 (R=(0,0)):=by
      have h:=HQ.out;rw[eu (by omega)]at h;show _=_;rw[HRn.out,h]
     (go_wp2_with fail);go_ret2;rw[HE.out];exact⟨rfl,hK⟩
def As(s:g0)(at_:Nat):List CA×Nat×Bool:=
 if h:at_<s.size then
  if h2:(Ao s at_).2.2=K/\at_<AN s (Ao s at_).2.1 (Ao s at_).2.2 then
   ((Ao s at_).1::(As s (AN s (Ao s at_).2.1 (Ao s at_).2.2)).1,(As s (AN s (Ao s at_).2.1 (Ao s at_).2.2)).2)
  else([(Ao s at_).1],AN s (Ao s at_).2.1 (Ao s at_).2.2,(Ao s at_).2.2)
 else([],at_,K)
def EA(s:g0)(a:Nat)(bd:Bool):List CA×Nat×Bool:=if bd then([],a,jj)else As s a
def KJ{s:g0}{a e:Nat}{c:CA}{b:Bool}(g:a<s.size)(d:Ao s a=(c,e,b)):
  As s a=(c::(EA s (AN s e b) b).1,(EA s (AN s e b) b).2):=by
 conv=>lhs;rw[As]
 rw[dif_pos g];cases b with
 |true=>rw[dif_neg (by rw[d];simp)];rw[d];rfl
 |false=>
  have f:=OS (s:=s) (at_:=a) (by rw[d]);rw[d]at f;have h:=Ji s e K;rw[dif_pos (by rw[d];exact⟨rfl,by simp only at f⊢;omega⟩),d];rfl
def LF{s:g0}{a:Nat}(b:¬a<s.size):As s a=([],a,K):=by
 rw[As,dif_neg b]
def SR(s:g0)(t:AG):Prop:=t.v=0->0<t.s.size/\t.s.size<=s.size
def IH(s:g0)(i j:Nat)(h:j<=s.size):(s.extract i j).size=j-i:=by
 rw[gh,iu h]
def UH{s:g0}{at_:Nat}(h:(AX s at_ K).2.2=K)(d:at_<=s.size):0<(AX s at_ K).1.size/\(AX s at_ K).1.size<=s.size:=by
 have c:=Bn s at_ d;have a:=Cz Az s _ c;have e:=B8 Az s (Ae s at_);unfold AX at h⊢;simp only[ev,if_false]at h⊢;split at h
 .cases h
 .rename_i b;simp only[b,if_false];rw[IH _ _ _ a];omega
def I9{s:g0}{at_:Nat}(h:(AK s at_ K).2.2=K)(j:at_<=s.size):SR s (AK s at_ K).1:=by
 have e:=Bn s at_ j;intro a;unfold AK at h a⊢;simp only[ev,if_false]at h a⊢;split at h
 .rename_i d;simp only[d,dite_true]at a⊢;split at h
  .rename_i b;simp only[b,if_true]at a;rw[a]at b;exact absurd b (by decide)
  .rename_i b;simp only[b,if_false,ev]at a⊢;split at h
   .rename_i c;simp only[c,if_true];exact UH h e
   .rename_i c;simp only[c,if_false,ev];split at h
    .cases h
    .rename_i i;simp only[i,if_false];have f:=Cz An s _ e;(have g:An s[Ae s at_]=jj:=by simpa using c);have l:=B6 An s _ d g;have k:=B8 An s (Ae s at_+1);show 0<(s.extract (Ae s at_) (AF An s (Ae s at_))).size/\_;rw[IH _ _ _ f];omega
 .cases h
def U3(s:g0)(at_:Nat)(c:at_<=s.size):Z (Cr s at_).1<=s.size-at_+1/\((Cr s at_).2.2=K->∀t∈(Cr s at_).1,SR s t):=by
 fun_induction Cr s at_ with
 |case1 at_ hc _ _ ih=>
  have e:=Du s _ (AK s at_ K).2.2 44 (Ff s at_ K c);obtain⟨g,f⟩:=ih e;have h:=hc.2.1;refine⟨by simp only[eF];omega,λb t a=>?_⟩;rcases ey.1 a with rfl|a
  .have d:(AK s at_ K).2.2=K:=by
    have:=hc.1;simp only[eW,io]at this;exact this.1
   exact I9 d c
  .exact f b t a
 |case2 at_ hc=>
  refine⟨by simp,λb t a=>?_⟩;simp only[ex]at a;subst a;exact I9 b c
def Pq(s:g0)(p:Nat×Bool)(a:p.1<=s.size):Z (DW s p).1<=s.size+1/\((DW s p).2.2=K->∀t∈(DW s p).1,SR s t):=by
 unfold DW;split
 .exact⟨by simp,λh=>by cases h⟩
 .have h:=U3 s p.1 a;exact⟨by omega,h.2⟩
def bq(s:g0)(a:Dj):Prop:=∀t∈a.args,SR s t
def MX(s:g0)(at_:Nat)(b:Bool)(a:at_<=s.size):Z (AR s at_ b).1.args<=s.size+1:=by
 unfold AR;exact(Pq s _ (Du _ _ _ _ (G1 _ _ _ (Gc _ _ _ a)))).1
def QP{s:g0}{a:Nat}{b:Bool}{c:UInt8}(h:(Bl s a b c).2=K):b=K:=by
 unfold Bl at h;cases b<;>simp_all
def La{s:g0}{at_:Nat}{a:Bool}(h:(AR s at_ a).2.2=K)(b:at_<=s.size):bq s (AR s at_ a).1:=by
 unfold AR at h⊢;exact(Pq s _ (Du _ _ _ _ (G1 _ _ _ (Gc _ _ _ b)))).2 (QP h)
structure Zb(s:g0)(x:BF):Prop where
 atom:bq s x.A
 left:(x.kind==97||x.kind==33)=K->SR s x.L
 right:(x.kind==97||x.kind==33)=K->SR s x.R
def T8(s:g0)(at_:Nat)(b:at_<=s.size):Z (Dd s at_).1.A.args<=s.size+1:=by
 have a:=Bn s at_ b;unfold Dd;simp only;split
 .rename_i c;have:=Fa c;exact MX s _ _ (by omega)
 .split
  .exact MX s _ _ a
  .unfold Hr;split<;>simp[Gk]
def QX{s:g0}{at_:Nat}(h:(Dd s at_).2.2=K)(i:at_<=s.size):Zb s (Dd s at_).1:=by
 have f:=Bn s at_ i;unfold Dd at h⊢;simp only at h⊢;split at h
 .rename_i c;simp only[c,if_true];have:=Fa c;exact⟨La h (by omega),λa=>by simp at a,λa=>by simp at a⟩
 .rename_i c;simp only[c,ev,if_false];split at h
  .rename_i d;simp only[d,if_true];exact⟨La h f,λa=>by simp at a,λa=>by simp at a⟩
  .rename_i d;simp only[d,ev,if_false];unfold Hr at h⊢;split at h
   .rename_i b;simp only[b,if_true];simp only[eW,io,gr]at b;have j:AN s (AK s (Ae s at_) K).2.1 (AK s (Ae s at_) K).2.2<s.size:=by
     rcases b.2 with(e|e)|e<;>exact Fa e
    exact⟨λt g=>by simp[Gk]at g,λ_=>I9 b.1 f,λ_=>I9 h (by omega)⟩
   .cases h
def VS(s:g0)(at_:Nat)(b:at_<=s.size):Z (C5 s at_).1<=s.size-at_+1/\(∀x∈(C5 s at_).1,Z x.A.args<=s.size+1)/\((C5 s at_).2.2=K->∀x∈(C5 s at_).1,Zb s x):=by
 fun_induction C5 s at_ with
 |case1 at_ hc _ _ ih=>
  have f:=Du s _ (Dd s at_).2.2 44 (KD s at_ b);obtain⟨h,g,e⟩:=ih f;have i:=hc.2.1;refine⟨by simp only[eF];omega,λx a=>?_,λc x a=>?_⟩
  .rcases ey.1 a with rfl|a
   .exact T8 s at_ b
   .exact g x a
  .rcases ey.1 a with rfl|a
   .have d:(Dd s at_).2.2=K:=by
     have:=hc.1;simp only[eW,io]at this;exact this.1
    exact QX d b
   .exact e c x a
 |case2 at_ hc=>
  refine⟨by simp,λx a=>?_,λc x a=>?_⟩
  .simp only[ex]at a;subst a;exact T8 s at_ b
  .simp only[ex]at a;subst a;exact QX c b
structure Y9(s:g0)(c:CA):Prop where
 head:bq s c.head
 body:∀x∈c.body,Zb s x
structure dB(s:g0)(c:CA):Prop where
 head:Z c.head.args<=s.size+1
 body:Z c.body<=s.size+1
 lits:∀x∈c.body,Z x.A.args<=s.size+1
def OP(s:g0)(c:Nat)(a:Bool)(j:c<=s.size):Z (Dz s c a).1<=s.size+1/\(∀x∈(Dz s c a).1,Z x.A.args<=s.size+1)/\((Dz s c a).2.2=K->a=K/\∀x∈(Dz s c a).1,Zb s x):=by
 unfold Dz;split
 .rename_i k;have e:a=K:=by cases a<;>simp_all
  split
  .rename_i b;have i:=Fa b;obtain⟨g,f,d⟩:=VS s (BZ s c a 58+1) (by omega);exact⟨by omega,f,λh=>⟨e,d h⟩⟩
  .exact⟨by simp,λx b=>by simp at b,λh=>by cases h⟩
 .exact⟨by simp,λx b=>by simp at b,λh=>⟨h,λx b=>by simp at b⟩⟩
def TB(s:g0)(at_:Nat)(c:at_<=s.size):dB s (Ao s at_).1:=by
 have a:=Bn s at_ c;have b:=OP s (AR s (Ae s at_) K).2.1 (AR s (Ae s at_) K).2.2 (Io _ _ _ a);unfold Ao;exact⟨MX s _ _ a,b.1,b.2.1⟩
def RR{s:g0}{at_:Nat}(h:(Ao s at_).2.2=K)(c:at_<=s.size):Y9 s (Ao s at_).1:=by
 have a:=Bn s at_ c;have d:=OP s (AR s (Ae s at_) K).2.1 (AR s (Ae s at_) K).2.2 (Io _ _ _ a);unfold Ao at h⊢;have b:=d.2.2 (QP h);exact⟨La b.1 a,b.2⟩
theorem Tryz.info82:(Tryz.prog.info? 82).map (λi=>(i.zero,i.size,i.bytes))=V (V (.agg #[O ⟨#[]⟩,U Y 0 0,X J 0,U Y 0 0,X J 0]),5,80):=by kernel_rfl
def A8.erase(c:A8):CA:=⟨c.head,c.bl.map Prod.fst,c.at_⟩
structure Ob(w:j7)(base:Nat)(lv:j8)(c:A8):Prop where
 args:jG w base 93 2 c.hv (Z c.head.args) (c.head.args.flatMap AQ)
 body:jG w base 95 9 c.bv (Z c.bl) (c.bl.flatMap Bb)
 lits:∀p∈c.bl,Cv w base p
 yU:B1 c.hv lv
 yT:B1 c.bv lv
 yX:∀p∈c.bl,B1 p.2 lv
def Ob.cvIn{w:j7}{base:Nat}{b:j8}{c:A8}(h:Ob w base b c):Uj w c:=
 ⟨Am h.args (eV _),Am h.body (eV _),λp a=>Am (h.lits p a) (eV _)⟩
def Ob.kept{M:List Nat}{w w':j7}{base:Nat}{b:j8}{c:A8}(h:Ob w base b c)(k:Ac M w w')(a:∀i,i∈M->i<base):Ob w' base b c:=
 ⟨Ad h.args k a,Ad h.body k a,λp d=>(h.lits p d).kept k a,h.yU,h.yT,h.yX⟩
def Hs{w w':j7}{base:Nat}{e:TypeId}{size:Nat}{v b:j8}{n:Nat}{a:List j8}(h:jG w base e size v n a)(k:w.grownBy w' b.ownBlock)(c:B1 v b):jG w' base e size v n a:=
 h.kept k (by
  cases hv:v.ownBlock with
  |none=>exact Or.inl rfl
  |some k=>exact j6 (λe=>c k hv e.symm))
def Ob.grown{w w':j7}{base:Nat}{d:j8}{c:A8}{g n cap H:Nat}(h:Ob w base d c)(k:w.grownBy w' d.ownBlock)(b:d.ownBlock=V g\/g=H)(e:w.heap.size<=H):Ob w' base (U (V ⟨g,0,Y⟩) n cap) c:=
 ⟨Hs h.args k h.yU,Hs h.body k h.yT,λp a=>Hs (h.lits p a) k (h.yX p a),B1.zd h.yU h.args b e,B1.zd h.yT h.body b e,λp a=>B1.zd (h.yX p a) (h.lits p a) b e⟩
def E9(s:g0)(e at_:Int):Prop:=
 if 300<s.size then e=1/\at_=0
 else if(As s (Ae s 0)).2.2 then e=2/\at_=(As s (Ae s 0)).2.1
 else∃cs:List A8,cs.map A8.erase=(As s (Ae s 0)).1/\(e,at_)=CM cs
def Te(cs:List A8)(N:Nat)(h:∀c∈cs,Z c.bl<=N):Z (Dv cs)<=Z cs*N:=by
 unfold Dv
 induction cs with
 |nil=>simp
 |cons c cs ih=>
  have e:=ih (λb a=>h b (by simp[a]));have d:=h c (by simp);have f:=fZ Oh c.bl;simp only[eN,eJ,eL,eF];rw[gL];omega
def bV{s:g0}(k:s.size<=300){cs:List A8}(j:Z cs<=300)(f:∀c∈cs,dB s c.erase)(i:∀c∈cs,Y9 s c.erase):St cs:=by
 have h:∀c∈cs,Z c.bl<=301:=λc a=>by have:=(f c a).body;simp only[A8.erase,eL]at this;omega
 refine⟨by omega,λc a=>by have:=h c a;omega,λc a=>by have:=(f c a).head;simp only[A8.erase]at this;omega,λc a p e=>?_,?_,λc a=>⟨?_,λp e=>?_⟩⟩
 .have:=(f c a).lits p.1 (by simp only[A8.erase];exact eZ e);omega
 .have:=Te cs 301 h;have:Z cs*301<=300*301:=fV _ j;omega
 .intro t b d;have:=(i c a).head t b d;omega
 .have g:=(i c a).body p.1 (by simp only[A8.erase];exact eZ e);intro t b d;unfold AS at b;cases ha:Oh p with
  |true=>
   rw[ha]at b;have:=g.atom t (by simpa using b) d;omega
  |false=>
   rw[ha]at b;simp only[ev,if_false,ey,fP,or_false]at b;rcases b with rfl|rfl
   .have:=g.left ha d;omega
   .have:=g.right ha d;omega
def Vw{cs:List A8}{i:Nat}{c:A8}{r:Int×Int}(h:B4 cs i c=V r):r.1≠0:=by
 unfold B4 at h
 repeat (split at h;· first|cases h;done|(simp only[eD]at h;subst h;simp))
 all_goals first|cases h;done|(simp only[eD]at h;subst h;simp)|skip
def Oz{cs:List A8}:∀(l:List A8) (i:Nat) {r:Int×Int},DZ cs i l=V r->r.1≠0
 |[],_,_,h=>by simp[DZ]at h
 |c::l,i,r,h=>by
  rw[DZ]at h;split at h
  .rename_i b a;simp only[eD]at h;subst h;exact Vw a
  .exact Oz l (i+1) h
def JI{cs:List A8}(h:(CM cs).1=0):CM cs=(0,0):=by
 unfold CM at h⊢;split
 .rename_i r b;rw[b]at h;exact absurd h (Oz _ _ b)
 .rename_i b;rw[b]at h;simp only at h;split
  .rename_i r d;rw[d]at h;obtain⟨e,c,f,_,a,_⟩:=List.findSome?_eq_some_iff.1 d;unfold Df at a;cases hf:c.bl.find? (En cs c)with
   |none=>rw[hf]at a;simp at a
   |some p=>rw[hf]at a;simp only[gu,eD]at a;rw[<-a]at h;simp at h
  .rfl
structure SQ(s:g0)(acc:List A8)(a:Nat)(bd:Bool)(R:List CA×Nat×Bool):Prop where
 rest:(acc.map A8.erase++(EA s a bd).1,(EA s a bd).2)=R
 len:Z acc<=a+1
 len2:bd=K->Z acc<=a
 lens:∀c∈acc,dB s c.erase
 zL:bd=K->∀c∈acc,Y9 s c.erase
def SQ.step{s:g0}{acc:List A8}{a f:Nat}{d:Bool}{R:List CA×Nat×Bool}{c:A8}(h:SQ s acc a K R)(p:a<s.size)(i:Ao s a=(c.erase,f,d)):
  AN s f d<=s.size/\2*(s.size-AN s f d)+(if d then 0 else 1)<2*(s.size-a)+1/\SQ s (acc++[c]) (AN s f d) d R:=by
 have k:=IL s a (by omega);have r:=Ji s f d;have l:=TB s a (by omega);have q:a<=f:=by
  have t:=BR s a;have v:=J2 s (Ae s a) K;have y:=UA s (AR s (Ae s a) K).2.1 (AR s (Ae s a) K).2.2;have u:=D6 s (Dz s (AR s (Ae s a) K).2.1 (AR s (Ae s a) K).2.2).2.1 (Dz s (AR s (Ae s a) K).2.1 (AR s (Ae s a) K).2.2).2.2 46;have e:f=(Ao s a).2.1:=by rw[i]
  rw[e];show a<=BZ s _ _ 46;omega
 have m:d=K->a<f:=λg=>by
  have:=OS (s:=s) (at_:=a) (by rw[i];exact g);rw[i]at this;exact this
 have n:d=K->Y9 s c.erase:=λg=>by
  have:=RR (s:=s) (at_:=a) (by rw[i];exact g) (by omega);rw[i]at this;exact this
 rw[i]at k l;simp only at k l;have o:=Gc s f d k;have w:=h.len2 rfl;refine⟨o,?_,⟨?_,?_,?_,?_,?_⟩⟩
 .cases d with
  |true=>simp;omega
  |false=>have:=m rfl;simp;omega
 .have j:=h.rest;unfold EA at j;simp only[ev,if_false]at j;rw[KJ p i]at j;rw[<-j];simp
 .simp;omega
 .intro g;have:=m g;simp;omega
 .intro x b;rcases eG.1 b with b|b
  .exact h.lens x b
  .simp only[ex]at b;subst b;exact l
 .intro g x b;rcases eG.1 b with b|b
  .exact h.zL rfl x b
  .simp only[ex]at b;subst b;exact n g
def T2(s:g0)(pv:j8)(er:Int)(w:j7):Prop:=
 er=0->∃(pb:Nat) (lad:Option Addr) (lcp:Nat) (cs:List A8),pv=j3 (V ⟨pb,0,Y⟩)/\AI w pb [U lad (Z cs) lcp] 76/\Cn w (U lad (Z cs) lcp) cs/\St cs/\s.size<=300/\(As s (Ae s 0)).2.2=K/\cs.map A8.erase=(As s (Ae s 0)).1/\CM cs=(0,0)
theorem XP(s:g0)(w:j7)(K4:s.size<=9223372036854775807):
  Calls prog 15 #[O s] w λe w'=>∃(pv:j8) (y z:Int),e=j4 (.tuple #[pv,X J y,X J z])/\E9 s y z/\T2 s pv y w'/\Ac [] w w':=by
 by_cases HG:300<s.size
 .have HI:j9 (E9 s 1 0):=by show E9 _ _ _;unfold E9;rw[eI HG];exact⟨rfl,rfl⟩
  go_enter func15,ntmps15;go_wp2;go_ret3;exact⟨_,1,0,rfl,HI.out,(λh=>by cases h),Ac.refl _ _⟩
 .have hs:s.size<=300:=by omega
  have E0:s.size<=1000000:=by omega
  obtain⟨i0,Mo,K1,M2,LL⟩:=fC Tryz.info82;obtain⟨j,hj⟩:∃j,Ae s 0=j:=⟨_,rfl⟩;have M1:j<=s.size:=by have:=Bn s 0 (eV _);omega
  obtain⟨D,E,B,CC⟩:∃D E B,As s j=(D,E,B):=⟨_,_,_,rfl⟩;have HI:j9 (∀y z:Int,(if B then y=2/\z=(E:Int)else∃cs:List A8,cs.map A8.erase=D/\(y,z)=CM cs)->E9 s y z):=by
   intro y z h;unfold E9;rw[eE HG,hj,CC];exact h
  have R:j9 (AN s 0 K=j/\As s j=(D,E,B)):=⟨hj,CC⟩;clear hj CC HG K4;go_enter func15,ntmps15;go_wp2_with fail
  have H3:AI ((w.alloc (j1 #[O s,X J 0,jJ K] 73)).alloc (j1 #[U Y 0 0] 76)) w.heap.size (BK s 0 K) 73:=(AI.new w (BK s 0 K) 73).alloc _;have HO:AI ((w.alloc (j1 #[O s,X J 0,jJ K] 73)).alloc (j1 #[U Y 0 0] 76)) (w.heap.size+1) [U Y 0 0] 76:=by
   have h:=AI.new (w.alloc (j1 #[O s,X J 0,jJ K] 73)) [U Y 0 0] 76;rw[fg]at h;exact h
  refine(Ds w.heap.size s 0 K _ E0 (eV _) H3).mono ?_;rintro e w2 ⟨rfl,i,HD⟩;rw[R.out.1]at i;have l:=HO.kept HD (by simp);have HS:Ac [] w w2:=(((Ac.refl [] w).alloc _).alloc _).trans' HD (by simp);clear H3 HO HD;go_wp2_with fail
  go_loopg [] (2*(s.size-j)+1) (λgk wr=>∃(a:Nat) (bd:Bool) (b:List A8) (lv:j8),a<=s.size/\gk=2*(s.size-a)+(if bd then 0 else 1)/\j9 (SQ s b a bd (D,E,B))/\AI wr w.heap.size (BK s a bd) 73/\AI wr (w.heap.size+1) [lv] 76/\
   jG wr (w.heap.size+2) 82 5 lv (Z b) (b.flatMap BX)/\j9 (∀c∈b,Ob wr (w.heap.size+2) lv c)/\Ac [] w wr)
  case atStart=>
   refine⟨j,K,[],U Y 0 0,M1,by simp,⟨?_,by simp,by simp,by simp,by simp⟩,i,l,eU _ _ _ _,λc g=>by simp at g,HS⟩;unfold EA;simp[R.out.2]
  case round=>
   clear i l HS;obtain⟨a,bd,b,lv,ha,q,A,i,l,m,Ha,hK⟩:=hrel;have HK:=Ab q;clear q;obtain⟨r,u,rfl⟩:=Ak m;have NA:=i.lt;have NL:=l.lt;have c0:=i.cell 0;have c1:=i.cell 1;have c2:=i.cell 2;have p0:=l.cell 0;have pf:=l.frozen 0;simp[BK]at c0 c1 c2 p0;cases bd with
   |true=>
    (have FL:j9 ((b.map A8.erase,a,jj)=(D,E,B)):=by have h:=A.out.rest;show _=_;simpa[EA] using h);go_wp2_with fail
    go_quiet (fail)
    (go_wp2_with fail);go_ret3;have d:=FL.out;simp only[fo]at d;exact⟨_,2,a,rfl,HI.out 2 a (by rw[<-d.2.2,<-d.2.1];exact⟨rfl,rfl⟩),(λh=>by cases h),hK.drewN _⟩
   |false=>
    by_cases HR:a<s.size
    ·(have NV:(a:Int)<(s.size:Int):=by omega);obtain⟨f,Q,F,HL⟩:∃f Q F,Ao s a=(f,Q,F):=⟨_,_,_,rfl⟩;(have Nj:Q<=s.size:=by have:=IL s a ha;rw[HL]at this;exact this);have Nq:Z b<=a:=A.out.len2 rfl;have H7:=Ab HL;clear HL;go_wp2_with fail
     go_region_law
      (first
       |(go_simp;go_at_call 44;refine(OJ w.heap.size s a _ E0 ha (by first|exact i|exact i.drew)).mono ?_;rintro e G ⟨hv,bv,x,rfl,hH,FW,B9,Go,EK,I⟩;rw[Aa H7]at hH FW EK⊢;obtain⟨W,S,rfl⟩:=Ak hH;obtain⟨P,N,rfl⟩:=Ak B9;have A1:=l.drew.kept I (by simp);have pc:=A1.cell 0;have LC:=A1.frozen 0;have HM:=λo=>(A1.alloc o).cell 0;simp at pc HM;simp only[CH])
       |(refine jb _ (by rfl) _ _ _ (by rfl) (w.heap.size+2) 82 i0 _ 5 80 underlying74 Mo K1 M2 LL rfl (by omega) (U r (Z b) u) (Z b) (b.flatMap BX) (by rfl) ((Ad (Gw m) I (by simp)).alloc _) ⟨G.heap.size,0,Y⟩ 1 1 (CH f (U W (Z f.head.args) S) (U P (Z x) N)) (by rfl) (by rfl) (eS (cs:=j2 (CH f (U W (Z f.head.args) S) (U P (Z x) N))) (t:=82) (fr:=(0,0)) (fe G _)) (by simp[Value.oneCell',CH]) (by omega) (by unfold maxLen;omega) (by omega) (by simp;have:=I.size;simp at this;omega) (G.heap.size+1) (by simp) ?_;intro v cap w5 HB AT HY LS;have B0:=(A1.alloc _).grown AT (A4 m (w.heap.size+1) (by omega));have IJ:=B0.cell 0;have K9:=B0.frozen 0;simp at IJ))
     all_goals
      have Nx:=I.size;have NM:=(HB.lt v rfl).1;have H6:A8.erase ⟨f.head,U W (Z f.head.args) S,U P (Z x) N,x,f.at_⟩=f:=by
       unfold A8.erase;simp only[FW]
      obtain⟨H,BS⟩:∃H:A8,H=⟨f.head,U W (Z f.head.args) S,U P (Z x) N,x,f.at_⟩:=⟨_,rfl⟩;rw[<-BS]at H6;(have HP:CH f (U W (Z f.head.args) S) (U P (Z x) N)=BX H:=by rw[BS];rfl);have Ix:=Ab (A.out.step HR (by rw[Aa H7,H6]));have HQ:Ob G (w.heap.size+2) (U r (Z b) u) H:=by
       (have FT:w.heap.size+2<=wr.heap.size:=by omega);have e1:B1 (U W (Z f.head.args) S) (U r (Z b) u):=λk q he=>by
        have h1:wr.heap.size<=k:=(hH.lt k q).1;have d:=(m.lt k he).2;omega
       have e2:B1 (U P (Z x) N) (U r (Z b) u):=λk q he=>by
        have h1:wr.heap.size<=k:=(B9.lt k q).1;have d:=(m.lt k he).2;omega
       have e3:∀p∈x,B1 p.2 (U r (Z b) u):=λp hp k q he=>by
        have h1:wr.heap.size<=k:=(World.ownsRow.lt (Go p hp) k q).1;have d:=(m.lt k he).2;omega
       rw[BS];exact⟨Am hH FT,Am B9 FT,λp hp=>Am (Go p hp) FT,e1,e2,e3⟩
      have H4:j9 (∀c∈b++[H],Ob (w5.setCell ⟨w.heap.size+1,0,Y⟩ (U (V ⟨v,0,Y⟩) (Z b+1) cap)) (w.heap.size+2) (U (V ⟨v,0,Y⟩) (Z b+1) cap) c):=by
       intro c g;have h0:Ob G (w.heap.size+2) (U r (Z b) u) c:=by
        rcases eG.1 g with g|g
        .exact((Ha.out c g).kept (w':=wr.drew) (M:=[]) (Ac.refl [] wr).drew (by simp)).kept I (by simp)
        .simp only[ex]at g;subst g;exact HQ
       (have h1:∀o,Ob (G.alloc o) (w.heap.size+2) (U r (Z b) u) c:=λo=>h0.kept ((Ac.refl [] G).alloc o) (by simp));have d:=Ob.grown (n:=Z b+1) (cap:=cap) (h1 _) AT HY (by simp);exact d.kept ((Ac.refl [w.heap.size+1] w5).setCell (p:=⟨w.heap.size+1,0,Y⟩) (by simp) _) (by simp)
      have H5:=((EK.alloc _).grown AT (A4 m w.heap.size (by omega))).zA ⟨w.heap.size+1,0,Y⟩ (by simp) (U (V ⟨v,0,Y⟩) (Z b+1) cap);have H0:=B0.set 0 (U (V ⟨v,0,Y⟩) (Z b+1) cap);have HN:=(((hK.drew.trans' I (by simp)).alloc _).grown AT (λk q=>j6 (by have:=(m.lt k q).1;omega))).setCell (p:=⟨w.heap.size+1,0,Y⟩) (by simp) (U (V ⟨v,0,Y⟩) (Z b+1) cap);have DT:=Ag HB (p:=⟨w.heap.size+1,0,Y⟩) (by simp[Value.ownBlock];omega) (U (V ⟨v,0,Y⟩) (Z b+1) cap);rw[HP]at DT;have JJ:=HK;clear HB B0 IJ K9 AT HY LS A1 pc LC HM hH B9 Go EK I HQ m i l hK Ha c0 c1 c2 p0 pf HP BS FW;(go_wp2_with fail);refine(Ds w.heap.size s Q F _ E0 Nj H5).mono ?_;rintro e w6 ⟨rfl,LB,Ax⟩;have KK:=H0.kept Ax (by simp);have KA:=Ad DT Ax (by simp);(have L0:j9 (∀c∈b++[H],Ob w6 (w.heap.size+2) (U (V ⟨v,0,Y⟩) (Z b+1) cap) c):=λc g=>(H4.out c g).kept Ax (by simp));have K6:=HN.trans' Ax (by simp);clear H5 H0 HN DT H4 Ax;go_wp2_with fail
      go_roundg (2*(s.size-AN s Q F)+(if F then 0 else 1))
      case measure=>have h1:=Ix.2.1;have d:=Aa JJ;simp at d;omega
      case rel=>
       obtain⟨t1,_,t3⟩:=Ix;refine⟨AN s Q F,F,b++[H],U (V ⟨v,0,Y⟩) (Z b+1) cap,t1,rfl,t3,LB,KK,?_,L0,K6⟩;simpa using KA
    ·(have FL:j9 ((b.map A8.erase,a,K)=(D,E,B)):=by have h:=A.out.rest;show _=_;simpa[EA,LF HR] using h);(have hd:decide ((a:Int)<(s.size:Int))=K:=by simp;omega);have FP:Cn wr (U r (Z b) u) b:=⟨Am m (eV _),λc g=>(Ha.out c g).cvIn⟩;have EX:St b:=bV hs (by have:=A.out.len2 rfl;omega) A.out.lens (A.out.zL rfl);obtain⟨SP,FF⟩:∃SP,CM b=SP:=⟨_,rfl⟩;have EY:=Ab FF;have T:=X5 (w.heap.size+1) _ b wr l FP EX;rw[FF]at T;have HT:=Ab T;have M0:=Ab FP;have K7:=Ab EX;clear T FF FP EX;(go_wp2_with fail);refine HT.mono ?_;rintro e w3 ⟨rfl,B2⟩;have HU:=hK.trans B2;have M6:=Ab (l.kept B2 (by simp));have MB:=Ab (M0.kept B2);clear HT B2 hK c0 c1 c2 p0 pf i l m;have d:=FL.out;simp only[fo]at d;obtain⟨L,sa⟩:=SP;simp only;by_cases C:L=0
     .have HZ:j9 (E9 s 0 0):=HI.out 0 0 (by rw[<-d.2.2];exact⟨b,d.1,by rw[JI (by rw[Aa EY];exact C)]⟩);have K3:j9 (T2 s (j3 (V ⟨w.heap.size+1,0,Y⟩)) 0 w3):=by
       intro _;refine⟨_,r,u,b,rfl,M6,MB,K7,hs,?_,?_,JI (by rw[Aa EY];exact C)⟩
       .rw[show Ae s 0=j from R.out.1,R.out.2];exact d.2.2.symm
       .rw[show Ae s 0=j from R.out.1,R.out.2];exact d.1
      (have IS:(L !=0)=K:=by simp[C]);clear d C;(go_wp2_with fail);go_ret3;exact⟨_,0,0,rfl,HZ.out,K3.out,HU⟩
     .have HZ:j9 (E9 s L sa):=HI.out L sa (by rw[<-d.2.2];exact⟨b,d.1,EY.symm⟩);(have IS:(L !=0)=jj:=by simp[C]);have Jx:=Ab C;clear d C;(go_wp2_with fail);go_ret3;exact⟨_,L,sa,rfl,HZ.out,(λh=>absurd h Jx),HU⟩
structure Af where
 name:g0
 args:List g0
structure B5 where
 f:Af
 av:j8
def Bq(p:B5):List j8:=[O p.f.name,p.av]
def Ew(w:j7)(p:B5):Prop:=jG w 0 9 1 p.av (Z p.f.args) (p.f.args.flatMap Ah)
def Ew.kept{w w':j7}{p:B5}(h:Ew w p)(k:Ac [] w w'):Ew w' p:=Ad h k (by simp)
structure QB(f:Af):Prop where
 len:Z f.args<=1000
 each:∀x∈f.args,0<x.size/\x.size<=1000000
def GM:List g0->List g0->Bool
 |[],[]=>jj
 |x::l,y::m=>(x.toList==y.toList)&&GM l m
 |_,_=>K
def Fg(a b:Af):Bool:=(a.name.toList==b.name.toList)&&GM a.args b.args
def U6:∀(l m:List g0) (k:Nat) (a:k<Z l) (b:k<Z m),GM (l.drop k) (m.drop k)=((l[k].toList==m[k].toList)&&GM (l.drop (k+1)) (m.drop (k+1)))
 |l,m,k,a,b=>by
  rw[eQ a,eQ b,GM]
def Rr:∀{l m:List g0},GM l m=jj->Z l=Z m
 |[],[],_=>rfl
 |[],_::_,h=>by cases h
 |_::_,[],h=>by cases h
 |_::l,_::m,h=>by
  rw[GM,eW]at h;simp[Rr h.2]
def G3{w:j7}{base:Nat}{v:j8}{l:List g0}(h:jG w base 9 1 v (Z l) (l.flatMap Ah))(k:Nat)(d:k<Z l):∃g a,v=U (V ⟨g,0,Y⟩) (Z l) a/\jF w ⟨g,k,Y⟩=V (O l[k]):=by
 obtain⟨g,a,e,_,f⟩:=AC h (λc _=>rfl) k d;have b:=f k d 0 (by omega);simp[Ah]at b;exact⟨g,a,e,b⟩
theorem Rm(a b:B5)(w:j7)(v:Ew w a)(t:Ew w b)(A2:Z a.f.args<=1000000)(BA:Z b.f.args<=1000000):
  Calls prog 49 #[.agg (j2 (Bq a)),.agg (j2 (Bq b))] w λe w'=>e=j4 (jJ (Fg a.f b.f))/\Ac [] w w':=by
 obtain⟨⟨j,c⟩,av⟩:=a;obtain⟨⟨g,d⟩,bv⟩:=b;unfold Ew at v t;simp only at v t A2 BA;obtain⟨p,o,rfl⟩:=Ak v;obtain⟨m,q,rfl⟩:=Ak t;obtain⟨S,D⟩:∃S,Fg ⟨j,c⟩ ⟨g,d⟩=S:=⟨_,rfl⟩;rw[D];have s:j9 (((j.toList==g.toList)&&GM c d)=S):=D;have HA:=Ab v;have HB:=Ab t;simp only[Bq];have l:=Ab (((Ac.refl [] w).alloc (j1 [O j,U p (Z c) o].toArray 43)).alloc (j1 [O g,U m (Z d) q].toArray 43));have F:=(AI.new w [O j,U p (Z c) o] 43).alloc (j1 [O g,U m (Z d) q].toArray 43);have L:AI ((w.alloc (j1 [O j,U p (Z c) o].toArray 43)).alloc (j1 [O g,U m (Z d) q].toArray 43)) (w.heap.size+1) [O g,U m (Z d) q] 43:=by
  have M:=AI.new (w.alloc (j1 [O j,U p (Z c) o].toArray 43)) [O g,U m (Z d) q] 43;rw[show(w.alloc (j1 [O j,U p (Z c) o].toArray 43)).heap.size=w.heap.size+1 from by simp]at M
  exact M
 have B:=Ab F;have C:=Ab L;clear D v t F L;cases hn:(j.toList==g.toList)with
 |false=>
  have r:j9 (S=K):=by show _=_;rw[<-Aa s,hn];rfl
  have R:(j.toList !=g.toList)=jj:=by simp[bne,hn]
  clear s;go_enter func49,ntmps49;go_wp2;go_ret;rw[Aa r];exact⟨rfl,l⟩
 |true=>
  have R:(j.toList !=g.toList)=K:=by simp[bne,hn]
  by_cases u:Z c=Z d
  ·(have r:j9 (GM (c.drop 0) (d.drop 0)=S):=by show _=_;rw[<-Aa s,hn];rfl);(have G:((Z c:Int) !=(Z d:Int))=K:=by simp[u]);(have Q:((Z c:Int)==(Z d:Int))=jj:=by simp[u]);have H:=Ab u;clear u s;go_enter func49,ntmps49;go_wp2;change Code.wp _ _ _ _ ((w.alloc (j1 [O j,U p (Z c) o].toArray 43)).alloc (j1 [O g,U m (Z d) q].toArray 43));generalize(w.alloc (j1 [O j,U p (Z c) o].toArray 43)).alloc (j1 [O g,U m (Z d) q].toArray 43)=w1 at l B C⊢;generalize w.heap.size=N at B C⊢;clear hn R G Q
   go_loopg [5] (Z c) (λgk i wr=>∃(k:Nat),i=X J k/\k<=Z c/\gk=Z c-k/\j9 (GM (c.drop k) (d.drop k)=S)/\j9 (Ac [] w wr)/\j9 (Ac [] w1 wr))
   case atStart=>exact⟨0,rfl,by omega,rfl,r,l,Ac.refl _ _⟩
   case round=>
    clear r l;obtain⟨k,rfl,hk,I,z,l,y⟩:=hrel;have HG:=Ab I;clear I;have e1:=(B.kept y (by simp)).cell 1;have e2:=(C.kept y (by simp)).cell 1;simp at e1 e2;by_cases E:k<Z c
    ·(have W:k<Z d:=by have:=Aa H;omega);obtain⟨g1,q1,T,d1⟩:=G3 (Ad HA l (by simp)) k E;obtain⟨g2,q2,P,d2⟩:=G3 (Ad HB l (by simp)) k W;simp only[ei]at T P;obtain⟨rfl,_,rfl⟩:=T;obtain⟨rfl,_,rfl⟩:=P;have De:=Ab (U6 c d k E W);(have A:j9 (∀n,Ac [] w (wr.drewN n)/\Ac [] w1 (wr.drewN n)):=λn=>⟨l.drewN n,y.drewN n⟩);cases hx:(c[k].toList==d[k].toList)with
     |true=>
      (have Ax:(c[k].toList !=d[k].toList)=K:=by simp[bne,hx]);have x:j9 (GM (c.drop (k+1)) (d.drop (k+1))=S):=by
       have h:=Aa z;rw[Aa De,hx]at h;exact h
      go_wp2_with fail
      go_quiet (fail)
      go_wp2
      go_roundg (Z c-(k+1))
      case measure=>have:=Aa HG;omega
      case rel=>exact⟨k+1,by go_num,by omega,rfl,x,(A _).1,(A _).2⟩
     |false=>
      (have Ax:(c[k].toList !=d[k].toList)=jj:=by simp[bne,hx]);have x:j9 (S=K):=by
       have h:=Aa z;rw[Aa De,hx]at h;exact h.symm
      go_wp2_with fail
      go_quiet (fail)
      go_wp2;go_ret;rw[Aa x];exact⟨rfl,(A _).1⟩
    .have x:j9 (S=jj):=by
      have h:=Aa z;rw[fq (by omega),fq (by have:=Aa H;omega)]at h;exact h.symm
     go_wp2;go_ret;rw[Aa x];exact⟨rfl,l⟩
  ·(have G:((Z c:Int) !=(Z d:Int))=jj:=by simp[bne];omega);(have Q:((Z c:Int)==(Z d:Int))=K:=by rw[ff];omega);have r:j9 (S=K):=by
    show _=_;rw[<-Aa s,hn];cases h:GM c d with
    |false=>rfl
    |true=>exact absurd (Rr h) u
   clear s;go_enter func49,ntmps49;go_wp2;go_ret;rw[Aa r];exact⟨rfl,l⟩
def Ep:List g0->List g0->Bool
 |[],m=>decide (0<Z m)
 |_::_,[]=>K
 |x::l,y::m=>if x.toList==y.toList then Ep l m else Fm x y
def DI(a b:Af):Bool:=if a.name.toList==b.name.toList then Ep a.args b.args else Op.bytesLess a.name.toList b.name.toList
def Tr(l m:List g0)(k:Nat)(a:k<Z l)(b:k<Z m):Ep (l.drop k) (m.drop k)=if l[k].toList==m[k].toList then Ep (l.drop (k+1)) (m.drop (k+1))else Fm l[k] m[k]:=by
 rw[eQ a,eQ b,Ep]
def O7(l m:List g0)(k:Nat)(h:k<=Z l)(d:¬(k<Z l/\k<Z m))(c:k<=Z m):Ep (l.drop k) (m.drop k)=decide (Z l<Z m):=by
 by_cases b:k<Z l
 .have a:Z m<=k:=by omega
  rw[eQ b,fq a,Ep];simp;omega
 .rw[fq (show Z l<=k by omega),Ep,fz];have:Z l=k:=by omega
  rw[this];by_cases a:k<Z m
  ·(have:0<Z m-k:=by omega);simp[a,this]
  ·(have:¬0<Z m-k:=by omega);simp[a,this]
theorem Xy(a b:B5)(w:j7)(t:Ew w a)(s:Ew w b)(G:QB a.f)(B:QB b.f):
  Calls prog 46 #[.agg (j2 (Bq a)),.agg (j2 (Bq b))] w λe w'=>e=j4 (jJ (DI a.f b.f))/\Ac [] w w':=by
 obtain⟨⟨j,c⟩,av⟩:=a;obtain⟨⟨g,d⟩,bv⟩:=b;unfold Ew at t s;have EY:=G.len;have B0:=B.len;have AB:=Ab G.each;have P:=Ab B.each;simp only at t s EY B0 AB P;clear G B;obtain⟨q,m,rfl⟩:=Ak t;obtain⟨p,o,rfl⟩:=Ak s;obtain⟨S,I⟩:∃S,DI ⟨j,c⟩ ⟨g,d⟩=S:=⟨_,rfl⟩;rw[I];have z:j9 ((if j.toList==g.toList then Ep c d else Op.bytesLess j.toList g.toList)=S):=I;have HA:=Ab t;have HB:=Ab s;simp only[Bq];have l:=Ab (((Ac.refl [] w).alloc (j1 [O j,U q (Z c) m].toArray 43)).alloc (j1 [O g,U p (Z d) o].toArray 43));have M:=(AI.new w [O j,U q (Z c) m] 43).alloc (j1 [O g,U p (Z d) o].toArray 43);have A0:AI ((w.alloc (j1 [O j,U q (Z c) m].toArray 43)).alloc (j1 [O g,U p (Z d) o].toArray 43)) (w.heap.size+1) [O g,U p (Z d) o] 43:=by
  have hh:=AI.new (w.alloc (j1 [O j,U q (Z c) m].toArray 43)) [O g,U p (Z d) o] 43;rw[show(w.alloc (j1 [O j,U q (Z c) m].toArray 43)).heap.size=w.heap.size+1 from by simp]at hh
  exact hh
 have D:=Ab M;have E:=Ab A0;clear I t s M A0;cases hn:(j.toList==g.toList)with
 |false=>
  have v:j9 (Op.bytesLess j.toList g.toList=S):=by show _=_;rw[<-Aa z,hn];rfl
  have BS:(j.toList !=g.toList)=jj:=by simp[bne,hn]
  clear z;go_enter func46,ntmps46;go_wp2;go_ret;exact⟨Bf v.out,l⟩
 |true=>
  have BS:(j.toList !=g.toList)=K:=by simp[bne,hn]
  have v:j9 (Ep (c.drop 0) (d.drop 0)=S):=by show _=_;rw[<-Aa z,hn];rfl
  clear z;go_enter func46,ntmps46;go_wp2;change Code.wp _ _ _ _ ((w.alloc (j1 [O j,U q (Z c) m].toArray 43)).alloc (j1 [O g,U p (Z d) o].toArray 43));generalize(w.alloc (j1 [O j,U q (Z c) m].toArray 43)).alloc (j1 [O g,U p (Z d) o].toArray 43)=w1 at l D E⊢;generalize w.heap.size=N at D E⊢;clear hn BS
  go_loopg [5] (Z c) (λgk i wr=>∃(k:Nat),i=X J k/\k<=Z c/\k<=Z d/\gk=Z c-k/\j9 (Ep (c.drop k) (d.drop k)=S)/\j9 (Ac [] w wr)/\j9 (Ac [] w1 wr))
  case atStart=>exact⟨0,rfl,by omega,by omega,rfl,v,l,Ac.refl _ _⟩
  case round=>
   clear v l;obtain⟨k,rfl,R,Bx,Ax,x,l,u⟩:=hrel;have HG:=Ab Ax;clear Ax;have H:=(D.kept u (by simp)).cell 1;have C:=(E.kept u (by simp)).cell 1;simp at H C;by_cases A:k<Z c
   .by_cases F:k<Z d
    .obtain⟨g1,q1,BA,W⟩:=G3 (Ad HA l (by simp)) k A;obtain⟨T,q2,A2,L⟩:=G3 (Ad HB l (by simp)) k F;simp only[ei]at BA A2;obtain⟨rfl,_,rfl⟩:=BA;obtain⟨rfl,_,rfl⟩:=A2;have De:=Ab (Tr c d k A F);(have y:j9 (∀n,Ac [] w (wr.drewN n)/\Ac [] w1 (wr.drewN n)):=λn=>⟨l.drewN n,u.drewN n⟩);cases hx:(c[k].toList==d[k].toList)with
     |true=>
      (have B9:(c[k].toList !=d[k].toList)=K:=by simp[bne,hx]);have r:j9 (Ep (c.drop (k+1)) (d.drop (k+1))=S):=by
       have h:=Aa x;rw[Aa De,hx]at h;exact h
      go_wp2_with fail
      go_quiet (fail)
      go_wp2
      go_roundg (Z c-(k+1))
      case measure=>have:=Aa HG;omega
      case rel=>exact⟨k+1,by go_num,by omega,by omega,rfl,r,(y _).1,(y _).2⟩
     |false=>
      (have B9:(c[k].toList !=d[k].toList)=jj:=by simp[bne,hx]);have r:j9 (Fm c[k] d[k]=S):=by
       have h:=Aa x;rw[Aa De,hx]at h;exact h
      have AT:=Aa AB c[k] (eo A);have BT:=Aa P d[k] (eo F);go_wp2_with fail
      go_quiet (fail)
      (go_wp2_with fail);have E0:jF (wr.drewN nq) ⟨N,1,Y⟩=V (U (V ⟨g1,0,Y⟩) (Z c) m):=H;have B2:jF (wr.drewN nq) ⟨N+1,1,Y⟩=V (U (V ⟨T,0,Y⟩) (Z d) o):=C;have CC:jF (wr.drewN nq) ⟨g1,k,Y⟩=V (O c[k]):=W;have DT:jF (wr.drewN nq) ⟨T,k,Y⟩=V (O d[k]):=L;have Q:=Ab (y nq).1;clear y H C W L u l;generalize wr.drewN nq=wq at E0 B2 CC DT Q⊢
      go_quiet ((go_at_call 86;exact iB (L6 _ _ _ AT.1 BT.1 AT.2 BT.2)))
      go_wp2;go_ret;exact⟨Bf r.out,Q.drewN _⟩
    ·(have FA:¬(k:Int)<(Z d:Int):=by omega);have r:j9 (decide (Z c<Z d)=S):=by
      show _=_;rw[<-Aa x,O7 c d k R (by omega) Bx]
     go_wp2;go_ret;exact⟨Bf r.out,l⟩
   .have r:j9 (decide (Z c<Z d)=S):=by
     show _=_;rw[<-Aa x,O7 c d k R (by omega) Bx]
    go_wp2;go_ret;exact⟨Bf r.out,l⟩
