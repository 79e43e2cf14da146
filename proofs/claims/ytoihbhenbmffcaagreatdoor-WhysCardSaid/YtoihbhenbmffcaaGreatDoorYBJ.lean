import Derived.Test.YtoihbhenbmffcaaGreatDoorYBH
import Derived.Test.YtoihbhenbmffcaaGreatDoorYBC
set_option linter.all false
set_option maxHeartbeats 0
open List renaming length->Z
open Option renaming none->Y,some->V
open Go.Value renaming slice->U,string->O,pointer->j3
open Go.World renaming cell?->jF
namespace Go.Proofs.YtoihbhenbmffcaaGreatDoor
open Go.RowKit Go.Proofs.Tryz
def Yp{fs:List Fe}(l:fs.Pairwise λa b=>Cx a.f b.f<0)(n:g0){p:Nat}(k:F6 fs ⟨n,[]⟩ p):(fs.drop p).takeWhile (Sh n)=fs.filter (Sh n):=by
 have m:∀q∈fs.drop p,¬DM q.f.name n<0:=by
  intro q d;obtain⟨i,h,rfl⟩:=fj d;rw[fz]at h;rw[jn,<-T1];exact k.zk (p+i) (by omega) (by omega)
 have o:(fs.drop p).takeWhile (Sh n)=(fs.drop p).filter (Sh n):=by
  refine LT _ (gZ (fun{a b} ha hb hab hbn=>?_) (l.drop (i:=p)));have e:b.f.name=n:=toList_inj (by simpa[Sh] using hbn);have r:¬DM a.f.name n<0:=m a ha;have g:DM a.f.name b.f.name<=0:=by
   unfold Cx at hab;split at hab<;>omega
  rw[e]at g;have c:DM a.f.name n=0:=by omega
  unfold Sh;rw[(Bu _ _).1 c];simp
 have g:(fs.take p).filter (Sh n)=[]:=by
  refine jk.2 (λq d j=>?_);obtain⟨i,h,rfl⟩:=fj d;rw[ft]at h;rw[iN]at j;have c:=(T1 _ _).1 (k.below i (by omega) (by omega));have e:fs[i].f.name=n:=toList_inj (by simpa[Sh] using j);rw[e]at c;have:DM n n=0:=(Bu n n).2 rfl;omega
 have c:fs.filter (Sh n)=(fs.drop p).filter (Sh n):=by
  conv=>lhs;rw[<-fH p fs,ii,g,gd]
 rw[o,<-c]
def b8{α:Type}{q:α->Bool}{l:List α}{k:Nat}(a:k<Z l)(h:q l[k]=true):(l.drop k).takeWhile q=l[k]::(l.drop (k+1)).takeWhile q:=by
 rw[eQ a,List.takeWhile_cons,h,eI rfl]
def de{α:Type}{q:α->Bool}{l:List α}{k:Nat}(a:k<Z l)(h:q l[k]=false):(l.drop k).takeWhile q=[]:=by
 rw[eQ a,List.takeWhile_cons,h,eE (by simp)]
structure Sz(w0:World)(b2:Nat)(n:g0)(M:List Nat)(w:World):Prop where
 kept:Ac [] w0 w
 name:jF w ⟨b2,0,Y⟩=V (O n)
 apart:∀k∈M,w0.heap.size<=k/\k≠b2/\k<w.heap.size
def Sz.grow{w0 w w':World}{b:Nat}{n:g0}{M:List Nat}(h:Sz w0 b n M w)(k:Ac [] w w'):Sz w0 b n M w':=
 ⟨h.kept.trans k,k.cellAt h.name,λi a=>⟨(h.apart i a).1,(h.apart i a).2.1,gI (h.apart i a).2.2 k.size⟩⟩
def JT{M:List Nat}{w w':World}(k:Ac M w w'){b o:Nat}{v:Value}(h:jF w ⟨b,o,Y⟩=V v)(a:b∉M):jF w' ⟨b,o,Y⟩=V v:=by
 have e:=k.block b (MC h) a;simp only[World.cell?,e]at h⊢;exact h
def Sz.round{w0 w w':World}{d:Nat}{n:g0}{M e:List Nat}(h:Sz w0 d n M w)(k:Ac M w w')(c:∀i∈e,(i∈M\/w.heap.size<=i)/\i<w'.heap.size):Sz w0 d n e w':=by
 have j:=MC h.name;have g:=h.kept.size;refine⟨h.kept.trans' k (λi b=>Or.inr (h.apart i b).1),JT k h.name (λf=>(h.apart _ f).2.1 rfl),λi b=>⟨?_,?_,(c i b).2⟩⟩
 .rcases(c i b).1 with a|a
  .exact(h.apart i a).1
  .omega
 .rcases(c i b).1 with a|a
  .exact(h.apart i a).2.1
  .omega
set_option maxRecDepth 100000
theorem bC(b1 G R I:Nat)(C:Option Addr)(m:Nat)(fs:List Fe)(n:g0)(w0 w:World)(F:List Nat)(u:jF w ⟨b1,0,Y⟩=V (j3 (V ⟨R,I,Y⟩)))
  (hO:Sz w0 G n F w) (hs:jF w0 ⟨R,I,Y⟩=V (U C (Z fs) m)) (hP:Lx w0 (U C (Z fs) m) fs) (Nj:Z fs<=900000) (HK:fs.Pairwise λa b=>Cx a.f b.f<0)
  (H6:∀i j (hi:i<Z fs) (hj:j<Z fs),i<=j->Cx fs[j].f ⟨n,[]⟩<0->Cx fs[i].f ⟨n,[]⟩<0):
  K0 prog 235 #[j3 (V ⟨b1,0,Y⟩),j3 (V ⟨G,0,Y⟩)] (λq:Fe=>#[.agg (AW q).toArray]) (fs.filter (Sh n)) F w:=by
 intro l BA Jx W FO _ _ hJ N2 hR HH;have AH:=hO.grow FO;have c1:=FO.cellAt u;have cs:=AH.kept.cellAt hs;have T:=AH.name;have FT:Hid (∀wr,Ac [] W wr->Calls prog 103 #[U C (Z fs) m,.agg #[O n,U Y 0 0],.func (.func 104) #[] #[]] wr λe w'=>∃p:Nat,e=.returned (.tuple #[.int .i64 p,.bool (Eh fs ⟨n,[]⟩ p)])/\F6 fs ⟨n,[]⟩ p/\Ac [] wr w'):=λwr y=>JM C m fs ⟨⟨n,[]⟩,U Y 0 0⟩ wr (hP.kept (AH.kept.trans y)) (eU _ _ _ _) (by simp) (by omega) H6
 have HO:=Ab AH;have HP:=Ab hP;have HJ:=Ab hJ;have HR:=Ab hR;have Ha:=Ab HH;have HF:Hid (∀p,F6 fs ⟨n,[]⟩ p->fs.filter (Sh n)=(fs.drop p).take 0++((fs.drop p).drop 0).takeWhile (Sh n)):=λp hc=>by rw[iJ,gd,i8,Yp HK n hc]
 obtain⟨z,HT⟩:∃z,fs.filter (Sh n)=z:=⟨_,rfl⟩;rw[HT]at HF HR⊢;have FA:Hid (∀t,Ac [] W t->jF t ⟨b1,0,Y⟩=V (j3 (V ⟨R,I,Y⟩))/\jF t ⟨R,I,Y⟩=V (U C (Z fs) m)/\jF t ⟨G,0,Y⟩=V (O n)):=λt y=>⟨y.cellAt c1,y.cellAt cs,y.cellAt T⟩
 clear HT hO AH hs hP HK H6 hJ hR HH FO u;show Calls prog 235 #[.func (.yield l) #[] #[],j3 (V ⟨b1,0,Y⟩),j3 (V ⟨G,0,Y⟩)] W _;go_enter func235,ntmps235;go_wp2_with fail
 go_region_held3 (λt=>Ac [] W t/\jF t ⟨b1,0,Y⟩=V (j3 (V ⟨R,I,Y⟩))/\jF t ⟨R,I,Y⟩=V (U C (Z fs) m)/\jF t ⟨G,0,Y⟩=V (O n)) ((go_split_ands;refine(fun(IJ:Ac [] W _)=>And.intro IJ (FA _ IJ)) ?_;repeat (first|assumption|exact Ac.refl [] _|refine Ac.drew ?_|refine Ac.alloc ?_ _))) ((go_at_call 103;refine(FT _ (by go_split_ands;assumption)).mono ?_;rintro e w3 ⟨p,rfl,hcut,k3⟩;have FC:=Ab hcut;have H4:Ac [] W w3:=(by go_split_ands;exact Ac.trans (by assumption) k3);have BS:=Ab H4;clear hcut k3 H4))
 clear c1 cs T FT;have H9:=Ab (HO.grow BS);have BT:Hid (BA [] F w3):=BI HJ (s:=([],F)) Ha BS;obtain⟨d1,d2,d3⟩:=FA w3 BS;have LM:=FC.le;have N4:(0:Int)<=(p:Int):=by omega
 have MY:(p:Int)<=(Z fs:Int):=by omega
 have EK:=Ab (HF p FC);have H5:=BS.size;clear FA HO Ha HF FC;have Go:(C=Y/\m=0/\Z fs=0)\/∃g,C=V ⟨g,0,Y⟩/\Z fs<=m:=by
  rcases HP.row.2 with⟨u,h2⟩|⟨g,c,Nx,u,_,_,h3,_⟩
  .simp only[ei]at u;exact Or.inl ⟨u.1,u.2.2,h2⟩
  .simp only[ei]at u;exact Or.inr ⟨g,u.1,by omega⟩
 by_cases FB:p=Z fs
 .have D:Hid (z=[]):=by
   show _=_;rw[Aa EK,FB];simp
  have K8:Z fs-p=0:=by omega
  rcases Go with⟨rfl,rfl,hz⟩|⟨g,rfl,KK⟩
  .rw[hz]at K8 MY d2 LM;go_wp2_with fail
   go_loopg [25] 0 (λgk i wr=>i=.int .i64 0/\wr=w3)
   case atStart=>exact⟨rfl,rfl⟩
   case round=>
    obtain⟨rfl,rfl⟩:=hrel;go_wp2;go_end0;exact⟨⟨_,rfl⟩,Or.inl ⟨F,by rw[Aa D];exact BT⟩⟩
  ·(have M3:(Z fs:Int)<=(m:Int):=by omega);(have LC:(p:Int)<=(m:Int):=by omega);clear FB;(go_wp2_with fail);all_goals
    go_loopg [25] 0 (λgk i wr=>i=.int .i64 0/\wr=w3)
    case atStart=>exact⟨rfl,rfl⟩
    case round=>
     obtain⟨rfl,rfl⟩:=hrel;go_wp2;go_end0;exact⟨⟨_,rfl⟩,Or.inl ⟨F,by rw[Aa D];exact BT⟩⟩
 .rcases Go with⟨rfl,rfl,hz⟩|⟨g,rfl,KK⟩
  .omega
  have M3:(Z fs:Int)<=(m:Int):=by omega
  have LC:(p:Int)<=(m:Int):=by omega
  have NS:¬m=p:=by omega
  obtain⟨L,hL⟩:∃L,Z fs-p=L:=⟨_,rfl⟩;have HL:=Ab hL;have K9:Hid (∀k,k<L->∃(y:p+k<Z fs),(fs.drop p)[k]?=V fs[p+k]):=by
   intro k y;(have h:p+k<Z fs:=by omega);exact⟨h,by rw[iU,ez h]⟩
  go_wp2_with fail
  clear hL FB
  go_loopg [7,25] L (λgk bx i wr=>∃(k:Nat) (M:List Nat),i=.int .i64 k/\k<=L/\gk=L-k/\Hid (z=(fs.drop p).take k++((fs.drop p).drop k).takeWhile (Sh n))/\Hid (Sz w0 G n M wr)/\Hid (BA ((fs.drop p).take k) M wr)/\Hid (W.heap.size<=wr.heap.size))
  case atStart=>exact⟨0,F,rfl,by omega,rfl,EK,H9,BT,H5⟩
  case round=>
   clear EK H9 BT H5;obtain⟨k,M,rfl,y,H8,D,A0,DT,HD⟩:=hrel;have HG:=Ab H8;clear H8;by_cases K7:k<L
   .obtain⟨M2,K4⟩:=K9 k K7;obtain⟨g',NM,x,o,B,A,HB,hf,e0,e1⟩:=JW (HP.kept A0.kept) (p+k) M2;simp only[ei,eD,fm]at HB;obtain⟨⟨KB,-,-⟩,-,-⟩:=HB;subst KB;rw[show(p+k)*2=p*2+k*2 by omega]at e0 e1;(have EM:k<Z (fs.drop p):=by rw[fz];omega);(have S:(fs.drop p)[k]=⟨⟨x,o⟩,U B (Z o) A⟩:=by rw[jn,hf]);(have NV:(0:Int)<=(k:Int):=by omega);(have KS:(k:Int)<(L:Int):=by omega);have T:=A0.name;have P:=Ab (AI.new wr [O x,U B (Z o) A] 104);have Q:=Ab ((Ac.refl [] wr).alloc (.cells [O x,U B (Z o) A].toArray 104));have B0:=Q.cellAt T;refine jT (λH d=>?_);go_wp2;refine d _ _ ?_;clear d H;refine jT (λH d=>?_);go_wp2;refine d _ _ ?_;clear d H;refine jT (λK5 H3=>?_);refine wp_block ?_;refine jT (λH d=>?_);go_wp2;refine d _ _ ?_;clear d H;change Code.wp _ _ _ _ (wr.alloc (.cells [O x,U B (Z o) A].toArray 104));generalize hw2:wr.alloc (.cells [O x,U B (Z o) A].toArray 104)=w2 at P Q B0⊢;have IS:=P.lt;generalize wr.heap.size=N at P IS⊢;have CL:Hid (Sz w0 G n M w2):=A0.grow Q;have Bx:Hid (BA ((fs.drop p).take k) M w2):=BI HJ (s:=((fs.drop p).take k,M)) DT Q;have B2:Hid (W.heap.size<=w2.heap.size):=fJ HD Q.size;have x0:=P.cell 0;have x1:=P.cell 1;simp at x0 x1;clear hw2 e0 e1 T A0 DT HD K4 Q P IS;cases hnn:(x.toList==n.toList)with
    |false=>
     have E:Hid (z=(fs.drop p).take k):=by
      show _=_;rw[Aa D,de EM (by rw[S];exact hnn),fh]
     clear S;go_wp2;refine eX (jg rfl _ _ _) rfl ?_;exact⟨⟨_,rfl⟩,Or.inl ⟨M,by rw[Aa E];exact Bx⟩⟩
    |true=>
     have E:Hid (z=(fs.drop p).take k++⟨⟨x,o⟩,U B (Z o) A⟩::((fs.drop p).drop (k+1)).takeWhile (Sh n)):=by
      show _=_;rw[Aa D,b8 EM (by rw[S];exact hnn),S]
     have A2:Hid ((fs.drop p).take k++[⟨⟨x,o⟩,U B (Z o) A⟩]=(fs.drop p).take (k+1)):=by
      show _=_;rw[<-S,ep EM]
     have HY:=Ab (HR _ _ _ M w2 E Bx);clear S;refine jT (λH d=>?_);refine Ho (n:=0) 7 (by rintro ⟨_,_,h⟩;obtain⟨⟨v,e⟩,_⟩:=h;cases e) (λK2 H2=>?_);simp only[ip,iJ];go_wp2;refine H2 _ _ ?_;clear H2 K2;simp only[iC,i8];refine I1 (λ_=>trivial) rfl rfl (l:=l) (args:=#[.agg #[O x,U B (Z o) A]]) (by rfl) (by first|(simp[go_sem,Oper.semAt];done)|(simp[go_sem,Oper.semAt,execOp,resolve,invoke];done)) HY ?_;rintro e w4 (⟨rfl,M',AT,FF,FW⟩|⟨rfl,M',AT,-⟩)
     .refine⟨_,rfl,DH (by rintro ⟨_,_,h⟩;obtain⟨⟨v,e⟩,_⟩:=h;cases e) ?_⟩;simp only[Act.put,ee,ej,el];have LE:=Ab (CL.round FF FW);(have FL:Hid (BA ((fs.drop p).take (k+1)) M' w4):=by rw[<-Aa A2];exact AT);have K3:Hid (W.heap.size<=w4.heap.size):=fJ B2 FF.size;have MN:Hid (z=(fs.drop p).take (k+1)++((fs.drop p).drop (k+1)).takeWhile (Sh n)):=by
       show _=_;rw[Aa E,<-Aa A2,fD];rfl
      clear AT FF FW x0 x1 B0 HY CL Bx B2 D E A2;go_wp2;refine d _ _ ?_;clear d;go_wp2;refine H3 _ _ ?_;clear H3;go_wp2
      go_roundg (L-(k+1))
      case measure=>have:=Aa HG;omega
      case rel=>exact⟨k+1,M',by go_num,by omega,rfl,MN,LE,FL,K3⟩
     .refine⟨_,rfl,DH (by rintro ⟨_,_,h⟩;obtain⟨⟨v,e⟩,_⟩:=h;cases e) ?_⟩;simp only[Act.put,ee,ej,el];have FL:=Ab AT;clear AT x0 x1 B0 HY CL Bx B2 D E A2;go_wp2;refine d _ _ ?_;clear d;go_wp2;refine eX (jg rfl _ _ _) rfl ?_;exact⟨⟨_,rfl⟩,Or.inr ⟨_,M',FL⟩⟩
   .have E:Hid (z=(fs.drop p).take k):=by
     show _=_;(have hl:Z (fs.drop p)<=k:=by rw[fz,Aa HL];omega);rw[Aa D,fq hl];simp
    (have KS:¬(k:Int)<(L:Int):=by omega);go_wp2;go_end0;exact⟨⟨_,rfl⟩,Or.inl ⟨M,by rw[Aa E];exact DT⟩⟩
theorem XC(b a:Nat)(n:g0)(w:World):
  Calls prog 221 #[j3 (V ⟨b,a,Y⟩),O n] w λr d=>∃c e,r=.returned (.func (.func 235) #[] #[j3 (V ⟨c,0,Y⟩),j3 (V ⟨e,0,Y⟩)])/\AI d c [j3 (V ⟨b,a,Y⟩)] 69/\AI d e [O n] 9/\w.heap.size<=c/\w.heap.size<=e/\Ac [] w d:=by
 go_enter func221,ntmps221;go_wp2;go_ret;refine⟨w.heap.size,w.heap.size+1,rfl,(AI.new w [j3 (V ⟨b,a,Y⟩)] 69).alloc _,?_,eM _,by omega,((Ac.refl [] w).alloc _).alloc _⟩;have h:=AI.new (w.alloc (.cells #[j3 (V ⟨b,a,Y⟩)] 69)) [O n] 9;rw[fg]at h;exact h
