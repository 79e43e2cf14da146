import Derived.Test.YtoihbhenbmffcaaGreatDoorYBD
import Derived.Test.YtoihbhenbmffcaaGreatDoorYAZ
set_option linter.all false
set_option maxHeartbeats 0
open List renaming length->Z
open Option renaming none->Y,some->V
open Go.Value renaming slice->U,string->O,pointer->kt
open Go.World renaming cell?->lP
namespace Go.Proofs.YtoihbhenbmffcaaGreatDoor
open Go.RowKit Go.Proofs.Tryz
def Zu{fs:mc EN}(l:fs.Pairwise λa b=>Cm a.f b.f<0)(n:zA){p:Nat}(k:Gg fs ⟨n,[]⟩ p):(fs.drop p).takeWhile (Th n)=fs.filter (Th n):=by
 have m:∀q∈fs.drop p,¬DU q.f.name n<0:=by
  intro q d;obtain⟨i,h,rfl⟩:=iF d;rw[iN]at h;rw[lz,<-U6];exact k.zl (p+i) (by omega) (by omega)
 have o:(fs.drop p).takeWhile (Th n)=(fs.drop p).filter (Th n):=by
  refine Mf _ (jV (fun{a b} ha hb hab hbn=>?_) (l.drop (i:=p)));have e:b.f.name=n:=toList_inj (by simpa[Th] using hbn);have r:¬DU a.f.name n<0:=m a ha;have g:DU a.f.name b.f.name<=0:=by
   unfold Cm at hab;split at hab<;>omega
  rw[e]at g;have c:DU a.f.name n=0:=by omega
  unfold Th;rw[(By _ _).1 c];simp
 have g:(fs.take p).filter (Th n)=[]:=by
  refine lq.2 (λq d j=>?_);obtain⟨i,h,rfl⟩:=iF d;rw[iH]at h;rw[kK]at j;have c:=(U6 _ _).1 (k.below i (by omega) (by omega));have e:fs[i].f.name=n:=toList_inj (by simpa[Th] using j);rw[e]at c;have:DU n n=0:=(By n n).2 rfl;omega
 have c:fs.filter (Th n)=(fs.drop p).filter (Th n):=by
  conv=>lhs;rw[<-iZ p fs,jX,g,i6]
 rw[o,<-c]
def dI{α:Type}{q:α->Bool}{l:mc α}{k:Nat}(a:k<Z l)(h:q l[k]=true):(l.drop k).takeWhile q=l[k]::(l.drop (k+1)).takeWhile q:=by
 rw[ij a,List.takeWhile_cons,h,gY rfl]
def eN{α:Type}{q:α->Bool}{l:mc α}{k:Nat}(a:k<Z l)(h:q l[k]=false):(l.drop k).takeWhile q=[]:=by
 rw[ij a,List.takeWhile_cons,h,gV (by simp)]
structure Tz(w0:World)(b2:Nat)(n:zA)(M:mc Nat)(w:World):Prop where
 kept:Ac [] w0 w
 name:lP w ⟨b2,0,Y⟩=V (O n)
 apart:∀k∈M,w0.heap.size<=k/\k≠b2/\k<w.heap.size
def Tz.grow{w0 w w':World}{b:Nat}{n:zA}{M:mc Nat}(h:Tz w0 b n M w)(k:Ac [] w w'):Tz w0 b n M w':=
 ⟨h.kept.trans k,k.cellAt h.name,λi a=>⟨(h.apart i a).1,(h.apart i a).2.1,jw (h.apart i a).2.2 k.size⟩⟩
def Kc{M:mc Nat}{w w':World}(k:Ac M w w'){b o:Nat}{v:Value}(h:lP w ⟨b,o,Y⟩=V v)(a:b∉M):lP w' ⟨b,o,Y⟩=V v:=by
 have e:=k.block b (MS h) a;simp only[World.cell?,e]at h⊢;exact h
def Tz.round{w0 w w':World}{d:Nat}{n:zA}{M e:mc Nat}(h:Tz w0 d n M w)(k:Ac M w w')(c:∀i∈e,(i∈M\/w.heap.size<=i)/\i<w'.heap.size):Tz w0 d n e w':=by
 have j:=MS h.name;have g:=h.kept.size;refine⟨h.kept.trans' k (λi b=>Or.inr (h.apart i b).1),Kc k h.name (λf=>(h.apart _ f).2.1 rfl),λi b=>⟨?_,?_,(c i b).2⟩⟩
 .rcases(c i b).1 with a|a
  .exact(h.apart i a).1
  .omega
 .rcases(c i b).1 with a|a
  .exact(h.apart i a).2.1
  .omega
set_option maxRecDepth 100000
theorem dk(b1 G R I:Nat)(C:Option Addr)(m:Nat)(fs:mc EN)(n:zA)(w0 w:World)(F:mc Nat)(u:lP w ⟨b1,0,Y⟩=V (kt (V ⟨R,I,Y⟩)))
  (hO:Tz w0 G n F w) (hs:lP w0 ⟨R,I,Y⟩=V (U C (Z fs) m)) (hP:Iw w0 (U C (Z fs) m) fs) (NM:Z fs<=900000) (HS:fs.Pairwise λa b=>Cm a.f b.f<0)
  (H9:∀i j (hi:i<Z fs) (hj:j<Z fs),i<=j->Cm fs[j].f ⟨n,[]⟩<0->Cm fs[i].f ⟨n,[]⟩<0):
  Kq prog 235 #[kt (V ⟨b1,0,Y⟩),kt (V ⟨G,0,Y⟩)] (λq:EN=>#[.agg (AW q).toArray]) (fs.filter (Th n)) F w:=by
 intro l BS Jx W FT _ _ hJ Pl hR HM;have AT:=hO.grow FT;have c1:=FT.cellAt u;have cs:=AT.kept.cellAt hs;have T:=AT.name;have Ha:Hid (∀wr,Ac [] W wr->Calls prog 103 #[U C (Z fs) m,.agg #[O n,U Y 0 0],.func (.func 104) #[] #[]] wr λe w'=>∃p:Nat,e=.returned (.tuple #[.int .i64 p,.bool (Ev fs ⟨n,[]⟩ p)])/\Gg fs ⟨n,[]⟩ p/\Ac [] wr w'):=λwr y=>J6 C m fs ⟨⟨n,[]⟩,U Y 0 0⟩ wr (hP.kept (AT.kept.trans y)) (ip _ _ _ _) (by simp) (by omega) H9
 have HO:=Ab AT;have HP:=Ab hP;have HJ:=Ab hJ;have HR:=Ab hR;have HC:=Ab HM;have HF:Hid (∀p,Gg fs ⟨n,[]⟩ p->fs.filter (Th n)=(fs.drop p).take 0++((fs.drop p).drop 0).takeWhile (Th n)):=λp hc=>by rw[kI,i6,kS,Zu HS n hc]
 obtain⟨z,HW⟩:∃z,fs.filter (Th n)=z:=⟨_,rfl⟩;rw[HW]at HF HR⊢;have FC:Hid (∀t,Ac [] W t->lP t ⟨b1,0,Y⟩=V (kt (V ⟨R,I,Y⟩))/\lP t ⟨R,I,Y⟩=V (U C (Z fs) m)/\lP t ⟨G,0,Y⟩=V (O n)):=λt y=>⟨y.cellAt c1,y.cellAt cs,y.cellAt T⟩
 clear HW hO AT hs hP HS H9 hJ hR HM FT u;show Calls prog 235 #[.func (.yield l) #[] #[],kt (V ⟨b1,0,Y⟩),kt (V ⟨G,0,Y⟩)] W _;go_enter func235,ntmps235;go_wp2_with fail
 go_region_held3 (λt=>Ac [] W t/\lP t ⟨b1,0,Y⟩=V (kt (V ⟨R,I,Y⟩))/\lP t ⟨R,I,Y⟩=V (U C (Z fs) m)/\lP t ⟨G,0,Y⟩=V (O n)) ((go_split_ands;refine(fun(KK:Ac [] W _)=>And.intro KK (FC _ KK)) ?_;repeat (first|assumption|exact me [] _|refine Ac.drew ?_|refine Ac.alloc ?_ _))) ((go_at_call 103;refine(Ha _ (by go_split_ands;assumption)).mono ?_;rintro e w3 ⟨p,rfl,hcut,k3⟩;have FL:=Ab hcut;have H7:Ac [] W w3:=(by go_split_ands;exact Ac.trans (by assumption) k3);have BT:=Ab H7;clear hcut k3 H7))
 clear c1 cs T Ha;have IS:=Ab (HO.grow BT);have B0:Hid (BS [] F w3):=BB HJ (s:=([],F)) HC BT;obtain⟨d1,d2,d3⟩:=FC w3 BT;have MN:=FL.le;have PT:(0:Int)<=(p:Int):=by omega
 have Nd:(p:Int)<=(Z fs:Int):=by omega
 have EM:=Ab (HF p FL);have H8:=BT.size;clear FC HO HC HF FL;have HB:(C=Y/\m=0/\Z fs=0)\/∃g,C=V ⟨g,0,Y⟩/\Z fs<=m:=by
  rcases HP.row.2 with⟨u,h2⟩|⟨g,c,NS,u,_,_,h3,_⟩
  .simp only[gM]at u;exact Or.inl ⟨u.1,u.2.2,h2⟩
  .simp only[gM]at u;exact Or.inr ⟨g,u.1,by omega⟩
 by_cases FF:p=Z fs
 .have D:Hid (z=[]):=by
   show _=_;rw[Aa EM,FF];simp
  have LL:Z fs-p=0:=by omega
  rcases HB with⟨rfl,rfl,hz⟩|⟨g,rfl,K7⟩
  .rw[hz]at LL Nd d2 MN;go_wp2_with fail
   go_loopg [25] 0 (λgk i wr=>i=.int .i64 0/\wr=w3)
   case atStart=>exact⟨rfl,rfl⟩
   case round=>
    obtain⟨rfl,rfl⟩:=hrel;go_wp2;go_end0;exact⟨⟨_,rfl⟩,Or.inl ⟨F,by rw[Aa D];exact B0⟩⟩
  ·(have Nx:(Z fs:Int)<=(m:Int):=by omega);(have L0:(p:Int)<=(m:Int):=by omega);clear FF;(go_wp2_with fail);all_goals
    go_loopg [25] 0 (λgk i wr=>i=.int .i64 0/\wr=w3)
    case atStart=>exact⟨rfl,rfl⟩
    case round=>
     obtain⟨rfl,rfl⟩:=hrel;go_wp2;go_end0;exact⟨⟨_,rfl⟩,Or.inl ⟨F,by rw[Aa D];exact B0⟩⟩
 .rcases HB with⟨rfl,rfl,hz⟩|⟨g,rfl,K7⟩
  .omega
  have Nx:(Z fs:Int)<=(m:Int):=by omega
  have L0:(p:Int)<=(m:Int):=by omega
  have Op:¬m=p:=by omega
  obtain⟨L,hL⟩:∃L,Z fs-p=L:=⟨_,rfl⟩;have HL:=Ab hL;have LM:Hid (∀k,k<L->∃(y:p+k<Z fs),(fs.drop p)[k]?=V fs[p+k]):=by
   intro k y;(have h:p+k<Z fs:=by omega);exact⟨h,by rw[kU,gS h]⟩
  go_wp2_with fail
  clear hL FF
  go_loopg [7,25] L (λgk bx i wr=>∃(k:Nat) (M:mc Nat),i=.int .i64 k/\k<=L/\gk=L-k/\Hid (z=(fs.drop p).take k++((fs.drop p).drop k).takeWhile (Th n))/\Hid (Tz w0 G n M wr)/\Hid (BS ((fs.drop p).take k) M wr)/\Hid (W.heap.size<=wr.heap.size))
  case atStart=>exact⟨0,F,rfl,by omega,rfl,EM,IS,B0,H8⟩
  case round=>
   clear EM IS B0 H8;obtain⟨k,M,rfl,y,IJ,D,A1,EK,HI⟩:=hrel;have HG:=Ab IJ;clear IJ;by_cases LE:k<L
   .obtain⟨Nq,LB⟩:=LM k LE;obtain⟨g',N2,x,o,B,A,HE,hf,e0,e1⟩:=ID (HP.kept A1.kept) (p+k) Nq;simp only[gM,gT,iL]at HE;obtain⟨⟨K6,-,-⟩,-,-⟩:=HE;subst K6;rw[show(p+k)*2=p*2+k*2 by omega]at e0 e1;(have EX:k<Z (fs.drop p):=by rw[iN];omega);(have S:(fs.drop p)[k]=⟨⟨x,o⟩,U B (Z o) A⟩:=by rw[lz,hf]);(have Os:(0:Int)<=(k:Int):=by omega);(have K8:(k:Int)<(L:Int):=by omega);have T:=A1.name;have P:=Ab (mf wr [O x,U B (Z o) A] 104);have Q:=Ab ((me [] wr).alloc (.cells [O x,U B (Z o) A].toArray 104));have B2:=Q.cellAt T;refine ma (λH d=>?_);go_wp2;refine d _ _ ?_;clear d H;refine ma (λH d=>?_);go_wp2;refine d _ _ ?_;clear d H;refine ma (λK5 H6=>?_);refine wp_block ?_;refine ma (λH d=>?_);go_wp2;refine d _ _ ?_;clear d H;change Code.wp _ _ _ _ (wr.alloc (.cells [O x,U B (Z o) A].toArray 104));generalize hw2:wr.alloc (.cells [O x,U B (Z o) A].toArray 104)=w2 at P Q B2⊢;have KS:=P.lt;generalize wr.heap.size=N at P KS⊢;have DT:Hid (Tz w0 G n M w2):=A1.grow Q;have BA:Hid (BS ((fs.drop p).take k) M w2):=BB HJ (s:=((fs.drop p).take k,M)) EK Q;have B9:Hid (W.heap.size<=w2.heap.size):=iQ HI Q.size;have x0:=P.cell 0;have x1:=P.cell 1;simp at x0 x1;clear hw2 e0 e1 T A1 EK HI LB Q P KS;cases hnn:(x.toList==n.toList)with
    |false=>
     have E:Hid (z=(fs.drop p).take k):=by
      show _=_;rw[Aa D,eN EX (by rw[S];exact hnn),iJ]
     clear S;go_wp2;refine im (kV rfl _ _ _) rfl ?_;exact⟨⟨_,rfl⟩,Or.inl ⟨M,by rw[Aa E];exact BA⟩⟩
    |true=>
     have E:Hid (z=(fs.drop p).take k++⟨⟨x,o⟩,U B (Z o) A⟩::((fs.drop p).drop (k+1)).takeWhile (Th n)):=by
      show _=_;rw[Aa D,dI EX (by rw[S];exact hnn),S]
     have Bx:Hid ((fs.drop p).take k++[⟨⟨x,o⟩,U B (Z o) A⟩]=(fs.drop p).take (k+1)):=by
      show _=_;rw[<-S,gQ EX]
     have HY:=Ab (HR _ _ _ M w2 E BA);clear S;refine ma (λH d=>?_);refine Ia (n:=0) 7 (by rintro ⟨_,_,h⟩;obtain⟨⟨v,e⟩,_⟩:=h;cases e) (λK2 H5=>?_);simp only[kc,kI];go_wp2;refine H5 _ _ ?_;clear H5 K2;simp only[kB,kS];refine Jj (λ_=>trivial) rfl rfl (l:=l) (args:=#[.agg #[O x,U B (Z o) A]]) (by rfl) (by first|(simp[go_sem,Oper.semAt];done)|(simp[go_sem,Oper.semAt,execOp,resolve,invoke];done)) HY ?_;rintro e w4 (⟨rfl,M',A0,FO,HA⟩|⟨rfl,M',A0,-⟩)
     .refine⟨_,rfl,DM (by rintro ⟨_,_,h⟩;obtain⟨⟨v,e⟩,_⟩:=h;cases e) ?_⟩;simp only[Act.put,gI,gJ,gK];have Mo:=Ab (DT.round FO HA);(have FP:Hid (BS ((fs.drop p).take (k+1)) M' w4):=by rw[<-Aa Bx];exact A0);have K9:Hid (W.heap.size<=w4.heap.size):=iQ B9 FO.size;have M6:Hid (z=(fs.drop p).take (k+1)++((fs.drop p).drop (k+1)).takeWhile (Th n)):=by
       show _=_;rw[Aa E,<-Aa Bx,iT];rfl
      clear A0 FO HA x0 x1 B2 HY DT BA B9 D E Bx;go_wp2;refine d _ _ ?_;clear d;go_wp2;refine H6 _ _ ?_;clear H6;go_wp2
      go_roundg (L-(k+1))
      case measure=>have:=Aa HG;omega
      case rel=>exact⟨k+1,M',by go_num,by omega,rfl,M6,Mo,FP,K9⟩
     .refine⟨_,rfl,DM (by rintro ⟨_,_,h⟩;obtain⟨⟨v,e⟩,_⟩:=h;cases e) ?_⟩;simp only[Act.put,gI,gJ,gK];have FP:=Ab A0;clear A0 x0 x1 B2 HY DT BA B9 D E Bx;go_wp2;refine d _ _ ?_;clear d;go_wp2;refine im (kV rfl _ _ _) rfl ?_;exact⟨⟨_,rfl⟩,Or.inr ⟨_,M',FP⟩⟩
   .have E:Hid (z=(fs.drop p).take k):=by
     show _=_;(have hl:Z (fs.drop p)<=k:=by rw[iN,Aa HL];omega);rw[Aa D,iC hl];simp
    (have K8:¬(k:Int)<(L:Int):=by omega);go_wp2;go_end0;exact⟨⟨_,rfl⟩,Or.inl ⟨M,by rw[Aa E];exact EK⟩⟩
theorem YL(b a:Nat)(n:zA)(w:World):
  Calls prog 221 #[kt (V ⟨b,a,Y⟩),O n] w λr d=>∃c e,r=.returned (.func (.func 235) #[] #[kt (V ⟨c,0,Y⟩),kt (V ⟨e,0,Y⟩)])/\AH d c [kt (V ⟨b,a,Y⟩)] 69/\AH d e [O n] 9/\w.heap.size<=c/\w.heap.size<=e/\Ac [] w d:=by
 go_enter func221,ntmps221;go_wp2;go_ret;refine⟨w.heap.size,w.heap.size+1,rfl,(mf w [kt (V ⟨b,a,Y⟩)] 69).alloc _,?_,ig _,by omega,((me [] w).alloc _).alloc _⟩;have h:=mf (w.alloc (.cells #[kt (V ⟨b,a,Y⟩)] 69)) [O n] 9;rw[iz]at h;exact h
