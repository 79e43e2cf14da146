import Derived.Deep.RegionHeld3
import Derived.Test.YtoihbhenbmffcaaGreatDoorYAA
set_option linter.all false
set_option maxHeartbeats 0
open List renaming length->Z,toArray->j2,replicate->jL
open Option renaming none->Y,some->V
open Go.Value renaming slice->U,int->X,string->O,pointer->j3,agg->jH,bool->jJ,ownBlock->jN
open Bool renaming false->K,true->jj
open Go.IntKind renaming i64->J,i32->jI
open Go.Obj renaming cells->j1
open Go.Ending renaming returned->j4
open Or renaming inl->j5,inr->j6
open Go renaming World->j7,Value->j8
open Go.RowKit renaming Hid->j9
open Go.World renaming cell?->jF,ownsRow->jG
open ByteArray renaming empty->jK
open Go.Op renaming bytesLess->jP
namespace Go.Proofs.YtoihbhenbmffcaaGreatDoor
open Go.RowKit Go.Proofs.Tryz
def C7(w:j7)(N:Nat)(s:g0)(pos:Nat):j7:={w with heap:=w.heap.setIfInBounds N (.stringIter s pos)}
def Pf{w:j7}{N:Nat}{s:g0}{pos:Nat}(h:N<w.heap.size):(C7 w N s pos).heap[N]?=V (.stringIter s pos):=by
 simp[C7,h]
def Qe{w:j7}{N k:Nat}{s:g0}{pos:Nat}(h:k≠N):(C7 w N s pos).heap[k]?=w.heap[k]?:=by
 have a:¬N=k:=λe=>h e.symm
 simp[C7,Array.getElem?_setIfInBounds,a]
def IE(w:j7)(N:Nat)(s:g0)(pos:Nat):(C7 w N s pos).heap.size=w.heap.size:=by simp[C7]
def Dx(w:j7)(N:Nat)(s:g0)(pos:Nat):Ac [N] w (C7 w N s pos):=
 ⟨rfl,rfl,rfl,by rw[IE];exact eM _,λk _ a=>Qe (by simpa using a)⟩
def Uv{P:Program}{w:j7}{N:Nat}{s:g0}{pos:Nat}(a:w.heap[N]?=V (.stringIter s pos))(b:TypeId)(h:pos<s.size):
  (Instr.next (j3 (V ⟨N,0,Y⟩)) jj b).run P w=.ok (.tuple #[jJ jj,X J pos,X jI (Utf8.decode s pos).1]) (C7 w N s (pos+(Utf8.decode s pos).2)):=by
 simp only[Instr.next,getObj,setObj,je,Sem.run,a,Result.andThen,h,if_true];simp[goInt,C7]
def Ui{P:Program}{w:j7}{N:Nat}{s:g0}{pos:Nat}(a:w.heap[N]?=V (.stringIter s pos))(b:TypeId)(h:¬pos<s.size):
  (Instr.next (j3 (V ⟨N,0,Y⟩)) jj b).run P w=.ok (.tuple #[jJ K]) w:=by
 simp[Instr.next,getObj,Sem.run,a,h]
def If(s:g0)(pos:Nat)(h:pos<s.size):1<=(Utf8.decode s pos).2:=by
 by_cases a:(s[pos]'h).toNat<128
 .rw[ij s pos h a];exact eM _
 .exact(jB s pos h (by omega)).2
def TY(s:g0)(pos:Nat):(Utf8.decode s pos).2<=4:=by
 unfold Utf8.decode;simp only
 repeat' split
 all_goals simp
def bO(r:Int):0<(Utf8.encode r).size:=by
 unfold Utf8.encode;simp only;generalize(if Utf8.valid r=jj then r.toNat else Utf8.runeError)=c
 repeat' split
 all_goals simp[ByteArray.size]
def Et(s:g0)(pos:Nat)(ms:List AZ):List AZ:=
 if h:pos<s.size/\1<=(Utf8.decode s pos).2 then have _h1:pos<s.size:=h.1;have _h2:=h.2;Et s (pos+(Utf8.decode s pos).2) (KU ms pos (Utf8.decode s pos).1)else ms
def E7{s:g0}{pos:Nat}(a:List AZ)(h:pos<s.size):Et s pos a=Et s (pos+(Utf8.decode s pos).2) (KU a pos (Utf8.decode s pos).1):=by
 conv=>lhs;rw[Et]
 rw[dif_pos ⟨h,If s pos h⟩]
def NH{s:g0}{pos:Nat}(a:List AZ)(h:¬pos<s.size):Et s pos a=a:=by
 rw[Et,dif_neg (by omega)]
def Ic(m:AZ):AZ:=if Iq m then m else{m with kind:=0}
def Em(s:g0):AZ:=⟨1,s.size,jK⟩
def EH(s:g0):List AZ:=(Et s 0 []).map Ic++[Em s]
structure Kx(s:g0)(pos:Nat)(ms:List AZ):Prop where
 len:Z ms<=pos
 each:∀m∈ms,m.place<pos/\0<m.text.size/\m.text.size<=4*pos
def Kx.lay{s:g0}{pos f:Nat}{b:List AZ}{r:Int}(h:Kx s pos b)(i:pos<f):Kx s f (KU b pos r):=by
 have l:=Wi r;have n:=bO r;have d:∀m∈b,m.place<f/\0<m.text.size/\m.text.size<=4*f:=λm c=>by have:=h.each m c;omega
 have k:=h.len;unfold KU;split
 .exact⟨by omega,d⟩
 .split
  .rename_i m c;have g:=List.mem_of_getLast? c;have j:=h.each m g;split
   .refine⟨?_,λx a=>?_⟩
    ·(have:b≠[]:=by intro e;rw[e]at c;simp at c);have:0<Z b:=List.length_pos_iff.2 this;simp;omega
    .rcases eG.1 a with a|a
     .exact d x (List.dropLast_subset b a)
     .simp only[ex]at a;subst a;simp only[eO];omega
   .refine⟨by simp;omega,λx a=>?_⟩;rcases eG.1 a with a|a
    .exact d x a
    .simp only[ex]at a;subst a;simp only[Co];omega
  .refine⟨by simp;omega,λx a=>?_⟩;rcases eG.1 a with a|a
   .exact d x a
   .simp only[ex]at a;subst a;simp only[Co];omega
def FD(T:List AZ)(k:Nat):List AZ:=(T.take k).map Ic++T.drop k
def Ie(T:List AZ)(k:Nat)(a:k<=Z T):Z (FD T k)=Z T:=by simp[FD];omega
def Nk{T:List AZ}{k:Nat}(a:k<Z T):FD T k=(T.take k).map Ic++T[k]::T.drop (k+1):=by
 unfold FD;rw[eQ a]
def U5{T:List AZ}{k:Nat}(a:k<Z T):FD T (k+1)=(T.take k).map Ic++Ic T[k]::T.drop (k+1):=by
 unfold FD;rw[ep a,fi,fD];rfl
def XA(pre b:List AZ)(m:AZ)(n:Nat)(d:Z pre=n):((pre++m::b).flatMap Be).set (n*3) (X J 0)=(pre++{m with kind:=0}::b).flatMap Be:=by
 subst d;have c:Z (pre.flatMap Be)=Z pre*3:=by
  induction pre with
  |nil=>rfl
  |cons a l ih=>rw[eN,eJ,ih,F0,eF];omega
 simp only[eY,eN];rw[js _ _ (by omega),c];simp[Be]
set_option maxRecDepth 100000
theorem bE(s:g0)(w:j7)(hs:s.size<=300):
  Calls prog 114 #[O s] w λe w'=>∃v,e=j4 v/\jG w' (w.heap.size+1) 206 3 v (Z (EH s)) ((EH s).flatMap Be)/\Ac [] w w':=by
 obtain⟨i0,HO,FT,HR,HH⟩:=fC Tryz.zy;have H5:∀(x:Bool) (w:j7),(Op.unary .not (jJ x)).run prog w=.ok (jJ (!x)) w:=λ_ _=>rfl
 go_enter func114,ntmps114;go_wp2;obtain⟨T,hT⟩:∃T,Et s 0 []=T:=⟨_,rfl⟩;have HT:=Ab hT;clear hT
 go_loopg [3] s.size (λgk o wr=>∃(pos:Nat) (b:List AZ),gk=s.size-pos/\pos<=s.size+4/\j9 (Et s pos b=T/\Kx s pos b)/\wr.heap[w.heap.size]?=V (.stringIter s pos)/\jG wr (w.heap.size+1) 206 3 o (Z b) (b.flatMap Be)/\Ac [] w wr/\w.heap.size+1<=wr.heap.size)
 case atStart=>
  exact⟨0,[],by simp,by omega,⟨HT,⟨by simp,by simp⟩⟩,World.iter_heap w s 0,eU _ _ _ _,(Ac.refl _ _).alloc _,by simp[World.iter]⟩
 case round=>
  obtain⟨pos,b,EY,HY,p,B2,d,j,r⟩:=hrel;have HG:=Ab EY;have S:=Ab B2;clear EY B2;obtain⟨ad,A0,rfl⟩:=Ak d;by_cases F:pos<s.size
  .obtain⟨u,a,E⟩:∃u a,Utf8.decode s pos=(u,a):=⟨_,_,rfl⟩;(have H6:a<=4:=by have:=TY s pos;rw[E]at this;exact this);(have H4:1<=a:=by have:=If s pos F;rw[E]at this;exact this);have AB:∀z,(Instr.next (j3 (V ⟨w.heap.size,0,Y⟩)) jj z).run prog wr=.ok (.tuple #[jJ jj,X J pos,X jI u]) (C7 wr w.heap.size s (pos+a)):=by
    intro z;have h:=Uv (P:=prog) S z F;rw[E]at h;exact h
   have B:=Ad d (Dx wr w.heap.size s (pos+a)) (by simp);have Bx:=Ab (Pf (w:=wr) (N:=w.heap.size) (s:=s) (pos:=pos+a) (by omega));(have AH:w.heap.size+1<=(C7 wr w.heap.size s (pos+a)).heap.size:=by rw[IE];exact r);have A:Ac [] w (C7 wr w.heap.size s (pos+a)):=j.trans' (Dx wr w.heap.size s (pos+a)) (by simp);have HL:j9 (Et s (pos+a) (KU b pos u)=T/\Kx s (pos+a) (KU b pos u)):=by
    refine⟨?_,p.out.2.lay (by omega)⟩;have h:=p.out.1;rw[E7 b F,E]at h;exact h
   (have HD:Z b<=1000000:=by have:=p.out.2.len;omega);(have FB:j9 (∀m∈b,m.place<=1000000/\m.text.size<=1000000):=λm f=>by have:=p.out.2.each m f;omega);clear E d j S;generalize C7 wr w.heap.size s (pos+a)=w2 at AB B Bx AH A;(go_wp2_with fail);clear AB;refine(bP _ b pos u (w.heap.size+1) _ AH B HD (by omega) FB).mono ?_;rintro e M ⟨v3,rfl,FW,n⟩;have FF:=Ab ((n.block w.heap.size (by omega)).trans Bx);have HE:Ac [] w M:=⟨n.os.trans A.os,n.tape.trans A.tape,n.output.trans A.output,fJ A.size n.size,λk y _=>(n.block k (by omega)).trans (A.block k y (by simp))⟩;have HF:w.heap.size+1<=M.heap.size:=fJ AH n.size;clear n A Bx B AH;go_wp2_with fail
   go_roundg (s.size-(pos+a))
   case measure=>have:=Aa HG;omega
   case rel=>exact⟨pos+a,KU b pos u,rfl,by omega,HL,FF,FW,HE,HF⟩
  ·(have AB:∀z,(Instr.next (j3 (V ⟨w.heap.size,0,Y⟩)) jj z).run prog wr=.ok (.tuple #[jJ K]) wr:=λz=>Ui (P:=prog) S z F);have L:j9 (b=T/\Kx s pos b):=⟨by have h:=p.out.1;rwa [NH b F]at h,p.out.2⟩;clear S p;have I:=L.out.1;(have HB:j9 (∀m∈T,m.text.size<=1000000/\0<m.text.size):=λm f=>by have:=L.out.2.each m (by rw[I];exact f);omega);(have HX:Z T<=400:=by have:=L.out.2.len;rw[I]at this;omega);rw[I]at d⊢;clear L I;(have HC:j9 (EH s=T.map Ic++[Em s]):=by show _=_;unfold EH;rw[Aa HT]);clear HT HG;go_wp2;clear AB
   go_loopw [19] (λi wq=>∃k:Nat,i=X J k/\k<=Z T/\jG wq (w.heap.size+1) 206 3 (U ad (Z T) A0) (Z T) ((FD T k).flatMap Be)/\Ac [] w wq/\w.heap.size+1<=wq.heap.size) (λi _=>Z T-(intOf i).toNat)
   case atStart=>exact⟨0,rfl,eV _,by simpa[FD] using d,j,r⟩
   case round=>
    clear d j r;obtain⟨k,rfl,y,d,j,r⟩:=hrel;by_cases l:k<Z T
    ·(have FA:jG wr (w.heap.size+1) 206 3 (U ad (Z T) A0) (Z (FD T k)) ((FD T k).flatMap Be):=by rw[Ie T k y];exact d);obtain⟨g,H1,he,hc,Q⟩:=AC FA (λc _=>F0 c) k (by rw[Ie T k y];exact l);simp only[ei]at he;obtain⟨rfl,HA,rfl⟩:=he;clear HA;obtain⟨m,f⟩:∃m,T[k]=m:=⟨_,rfl⟩;have B0:∀h,(FD T k)[k]'h=m:=by
      intro h;have e:(FD T k)[k]?=V m:=by
       (have hl:Z ((T.take k).map Ic)=k:=by simp;omega);rw[Nk l,iF (by omega),hl,Nat.sub_self,f];rfl
      rw[ez h]at e;exact iM e
     have G:=Q k (by rw[Ie T k y];exact l) 0 (by omega);have R:=Q k (by rw[Ie T k y];exact l) 1 (by omega);have H:=Q k (by rw[Ie T k y];exact l) 2 (by omega);rw[B0]at G R H;simp[Be]at G R H;have E0:=HB.out m (by rw[<-f];exact eo l);have W:=Th m wr E0.1 (λ_=>E0.2);simp only[Be]at W;have HW:=Ab W;have D:j9 (FD T k=(T.take k).map Ic++m::T.drop (k+1)/\FD T (k+1)=(T.take k).map Ic++Ic m::T.drop (k+1)):=⟨by rw[Nk l,f],by rw[U5 l,f]⟩;clear Q B0 FA W f hc;(go_wp2_with fail);refine HW.mono ?_;rintro e w1 ⟨rfl,C⟩;have Ax:=Ad d C (by simp);have BT:=j.trans C;have CL:w.heap.size+1<=w1.heap.size:=fJ r C.size;cases hwh:Iq m with
     |true=>
      (have HN:j9 (FD T (k+1)=FD T k):=by show _=_;rw[D.out.1,D.out.2];simp[Ic,hwh]);clear D HW C G R H d j r;go_wp2
      go_roundw
      case rel=>exact⟨k+1,by go_num,by omega,by rw[HN.out];exact Ax,BT,CL⟩
      case measure=>simp[intOf];omega
     |false=>
      have FO:=Ax.lt g rfl;have H0:jF w1 ⟨g,k*3,Y⟩=V (X J m.kind):=by
       rw[World.cell?_of_block (w:=wr) (C.block g (d.lt g rfl).2 (by simp))];exact G
      have H7:=GD Ax (k*3);have HN:j9 (((FD T k).flatMap Be).set (k*3) (X J 0)=(FD T (k+1)).flatMap Be):=by
       show _=_;rw[D.out.1,D.out.2,XA _ _ _ k (by simp;omega)];simp[Ic,hwh]
      clear D HW C G R H d j r;go_wp2
      go_roundw
      case rel=>
       refine⟨k+1,by go_num,by omega,?_,BT.setCell (j6 (by have:=FO.1;simp;omega)) _,by simpa using CL⟩;rw[<-HN.out];exact BE Ax (k*3) _
      case measure=>simp[intOf];omega
    ·(have Go:k=Z T:=by omega);have B:jG wr (w.heap.size+1) 206 3 (U ad (Z T) A0) (Z T) ((T.map Ic).flatMap Be):=by
      (have e:FD T k=T.map Ic:=by unfold FD;rw[eu (by omega),fq (by omega),fh]);rw[e]at d;exact d
     clear Go d;go_wp2_with (at_builtin;refine eP _ rfl (.tmp 33) (.tmp 37) _ rfl (w.heap.size+1) 206 i0 _ 3 32 underlying200 HO FT HR HH rfl (by omega) (U ad (Z T) A0) (Z T) ((T.map Ic).flatMap Be) rfl (eC B _) ⟨wr.heap.size,0,Y⟩ 1 1 (Be (Em s)) rfl rfl (eS (cs:=j2 (Be (Em s))) (t:=206) (fr:=(0,0)) (fe wr _)) (by simp[Value.oneCell',Be]) (by omega) (by unfold maxLen;omega) (by omega) (by simp;omega) (wr.heap.size+1) (by simp) ?_;intro g1 H2 M HI CC FC FL)
     have HV:Ac [] w M:=(j.alloc _).grown CC (λq hq=>j6 (by have:=(B.lt q hq).1;omega));clear CC FC FL;go_wp2;go_ret;rw[HC.out];refine⟨_,rfl,?_,HV⟩;simpa using HI
structure Cm(w:j7)(b:Nat)(mv:j8)(ms:List AZ)(nx:Nat)(br:Int):Prop where
 zO:AI w b [mv,X J nx,X J br] 203
 row:jG w 0 206 3 mv (Z ms) (ms.flatMap Be)
 ap:mv.ownBlock≠V b
 lt:nx<Z ms
 len:Z ms<=1000
def Cm.kept{w w':j7}{b:Nat}{c:j8}{a:List AZ}{l nx':Nat}{e br':Int}(h:Cm w b c a l e)(k:Ac [b] w w')(g:AI w' b [c,X J nx',X J br'] 203)(f:nx'<Z a):Cm w' b c a nx' br':=
 ⟨g,Al h.row k (λi j d=>by simp at d;subst d;exact h.ap j),h.ap,f,h.len⟩
def Cm.zJ{w w':j7}{b:Nat}{c:j8}{a:List AZ}{d:Nat}{e:Int}(h:Cm w b c a d e)(k:Ac [] w w'):Cm w' b c a d e:=
 ⟨h.zO.kept k (by simp),Ad h.row k (by simp),h.ap,h.lt,h.len⟩
def Cm.cells{w:j7}{b:Nat}{e:j8}{a:List AZ}{k:Nat}{m:Int}(h:Cm w b e a k m):∃g f,e=U (V ⟨g,0,Y⟩) (Z a) f/\jF w ⟨b,0,Y⟩=V e/\jF w ⟨b,1,Y⟩=V (X J k)/\jF w ⟨b,2,Y⟩=V (X J m)/\
  ∀j (d:j<Z a),jF w ⟨g,j*3,Y⟩=V (X J a[j].kind)/\jF w ⟨g,j*3+1,Y⟩=V (X J a[j].place)/\jF w ⟨g,j*3+2,Y⟩=V (O a[j].text):=by
 obtain⟨g,f,p,_,i⟩:=AC h.row (λc _=>F0 c) k h.lt;refine⟨g,f,p,h.zO.cell 0,h.zO.cell 1,h.zO.cell 2,λj d=>?_⟩;have n:=i j d 0 (by omega);have o:=i j d 1 (by omega);have l:=i j d 2 (by omega);simp[Be]at n o l;exact⟨n,o,l⟩
set_option maxRecDepth 512
theorem JY(b:Nat)(j:j8)(c:List AZ)(a:Nat)(k:Int)(w:j7)(h:Cm w b j c a k)(m:AZ)(d:c[a]'h.lt=m):
  Calls prog 161 #[j3 (V ⟨b,0,Y⟩)] w λe l=>e=j4 (X J m.place)/\Ac [] w l:=by
 obtain⟨g,s,rfl,r,q,_,f⟩:=h.cells;obtain⟨n,o,i⟩:=f a h.lt;rw[d]at o;have p:(a:Int)<(Z c:Int):=by have:=h.lt;omega
 clear n i f d h;go_enter func161,ntmps161;go_wp2
 go_quiet (fail)
 go_wp2;go_ret;exact⟨rfl,(Ac.refl _ _).drewN _⟩
theorem FV(b:Nat)(c:j8)(a:List AZ)(f:Nat)(i p:Int)(w:j7)(h:Cm w b c a f i):
  Calls prog 160 #[j3 (V ⟨b,0,Y⟩),X J p] w λe j=>e=j4 (jJ K)/\Cm j b c a f p/\Ac [b] w j:=by
 have k:=h.zO.cell 2;have m:=h.zO.frozen 2;simp at k;have l:=h;have d:j9 (Cm w b c a f i):=h;clear h l;go_enter func160,ntmps160;go_wp2;go_ret;have g:Ac [b] w (w.setCell ⟨b,2,Y⟩ (X J p)):=(Ac.refl _ _).setCell (by simp) _;exact⟨rfl,d.out.kept g (d.out.zO.set 2 _) d.out.lt,g⟩
def BD(m:AZ)(t:g0):Bool:=m.kind==5&&(m.text.toList==t.toList)
set_option maxRecDepth 100000
theorem Rs(b:Nat)(s:j8)(d:List AZ)(a:Nat)(p:Int)(t:g0)(w:j7)(h:Cm w b s d a p)(m:AZ)(k:d[a]'h.lt=m):
  Calls prog 159 #[j3 (V ⟨b,0,Y⟩),O t] w λe c=>e=j4 (jJ (BD m t))/\Ac [] w c:=by
 obtain⟨g,r,rfl,q,o,_,n⟩:=h.cells;obtain⟨l,i,j⟩:=n a h.lt;rw[k]at l i j;have u:(a:Int)<(Z d:Int):=by have:=h.lt;omega
 have y:(0:Int)<=(a:Int):=by omega
 clear n k h;have z:=World.new_ne w _ q;have A:=World.new_ne w _ o;have B:=World.new_ne w _ l;have v:=World.new_ne w _ i;have x:=World.new_ne w _ j;go_enter func159,ntmps159;go_wp2_with fail
 go_region_held3 (λc=>jF c ⟨b,0,Y⟩=V (U (V ⟨g,0,Y⟩) (Z d) r)/\jF c ⟨b,1,Y⟩=V (X J a)/\jF c ⟨g,a*3,Y⟩=V (X J m.kind)/\jF c ⟨g,a*3+1,Y⟩=V (X J m.place)/\jF c ⟨g,a*3+2,Y⟩=V (O m.text)) (go_keep) (fail)
 cases hk:(m.kind==5)with
 |true=>
  have f:j9 (BD m t=(m.text.toList==t.toList)):=by show _=_;simp[BD,hk]
  go_wp2;all_goals
   go_ret;refine⟨Bf ?_,?_⟩
   .rw[f.out]
   .repeat (first|refine Ac.drew ?_|refine Ac.setCell ?_ (by simp) _|refine Ac.alloc ?_ _|refine Ac.drewN ?_ _)
    exact Ac.refl _ _
 |false=>
  have f:j9 (BD m t=K):=by show _=_;simp[BD,hk]
  go_wp2;all_goals
   go_ret;refine⟨Bf ?_,?_⟩
   .rw[f.out]
   .repeat (first|refine Ac.drew ?_|refine Ac.setCell ?_ (by simp) _|refine Ac.alloc ?_ _|refine Ac.drewN ?_ _)
    exact Ac.refl _ _
set_option maxRecDepth 512
theorem Gg(b:Nat)(o:j8)(f:List AZ)(c:Nat)(l:Int)(t:g0)(w:j7)(h:Cm w b o f c l)(m:AZ)(s:f[c]'h.lt=m)(p:BD m t=jj->c+1<Z f):
  Calls prog 162 #[j3 (V ⟨b,0,Y⟩),O t] w λe q=>e=j4 (jJ (BD m t))/\Cm q b o f (if BD m t then c+1 else c) l/\Ac [b] w q:=by
 have d:=Ab (Rs b o f c l t w h m s);have j:=Ab h;have B:=h.len;have y:=h.lt;clear s h;have A:∀(x:Bool) (w:j7),(Op.unary .not (jJ x)).run prog w=.ok (jJ (!x)) w:=λ_ _=>rfl
 cases hs:BD m t with
 |true=>
  have u:=Ab (p hs);rw[hs]at d;clear hs p;simp only[if_true];go_enter func162,ntmps162;go_wp2_with fail
  refine d.mono ?_;rintro e k ⟨rfl,a⟩;have g:=j.zJ a;have i:=Ab g;have v:=g.zO.cell 1;have z:=g.zO.frozen 1;simp at v;have n:=a.mono (N:=[b]) (by simp);clear g a d j;go_wp2;go_ret;have r:Ac [b] k (k.setCell ⟨b,1,Y⟩ (X J ((c:Int)+1))):=(Ac.refl _ _).setCell (by simp) _;exact⟨rfl,i.kept r (i.zO.set 1 _) u,n.trans r⟩
 |false=>
  rw[hs]at d;clear hs p;simp only[ev,if_false];go_enter func162,ntmps162;go_wp2_with fail
  refine d.mono ?_;rintro e k ⟨rfl,a⟩;have i:=Ab (j.zJ a);have n:=a.mono (N:=[b]) (by simp);clear a d j;go_wp2;go_ret;exact⟨rfl,i,n⟩
theorem Mm(b:Nat)(g:j8)(c:List AZ)(a:Nat)(f:Int)(t:g0)(w:j7)(h:Cm w b g c a f)(m:AZ)(j:c[a]'h.lt=m)(r:BD m t=jj->a+1<Z c):
  Calls prog 163 #[j3 (V ⟨b,0,Y⟩),O t] w λe n=>e=j4 (jJ (BD m t))/\Cm n b g c (if BD m t then a+1 else a) (if BD m t then f else m.place)/\Ac [b] w n:=by
 have i:=Ab (Gg b g c a f t w h m j r);have v:j9 (∀h:a<Z c,c[a]=m):=λ_=>j
 clear j r h;cases hs:BD m t with
 |true=>
  rw[hs]at i;have z:=Ab hs;clear hs;go_enter func163,ntmps163;go_wp2_with fail
  refine i.mono ?_;rintro e s ⟨rfl,d,l⟩;have k:=Ab d;clear d;go_wp2;go_ret;exact⟨rfl,k,l⟩
 |false=>
  rw[hs]at i;clear hs;go_enter func163,ntmps163;go_wp2_with fail
  refine i.mono ?_;rintro e s ⟨rfl,d,l⟩;simp only[ev,if_false]at d⊢;go_wp2_with fail
  refine(JY b g c a f _ d m (v _)).mono ?_;rintro e A ⟨rfl,p⟩;have o:=d.zJ p;go_wp2_with fail
  refine(FV b g c a f m.place _ o).mono ?_;rintro e y ⟨rfl,q,u⟩;have k:=Ab q;have x:=(l.trans (p.mono (by simp))).trans u;clear d o q;go_wp2;go_ret;exact⟨rfl,k,x⟩
def Hp(s:g0):Bool:=jP s.toList [97]
theorem LJ(s:g0)(w:j7):Calls prog 144 #[O s] w λe a=>e=j4 (jJ (Hp s))/\a=w:=by
 go_enter func144,ntmps144;go_wp2;all_goals go_ret
 all_goals exact⟨rfl,rfl⟩
def OR:g0:=⟨#[48]⟩
def Kp:Nat->g0->g0
 |0,s=>s
 |k+1,s=>if s.size<3 then Kp k (OR++s)else s
def AA(s:g0):g0:=if Hp s then Kp 3 s else s
set_option maxRecDepth 100000
theorem SX(s:g0)(w:j7):Calls prog 217 #[O s] w λe b=>e=j4 (O (AA s))/\b=w:=by
 have f:=LJ s w;by_cases d:Hp s=jj
 .rw[d]at f;have c:AA s=Kp 3 s:=by unfold AA;simp[d]
  rw[c];generalize hTe:Kp 3 s=T;have j:=Ab hTe;clear hTe c d;go_enter func217,ntmps217;go_wp2_with (go_at_call 144;refine f.mono ?_;rintro e b ⟨rfl,rfl⟩)
  rename_i b _ _
  go_loopg [0] 3 (λgk o wr=>∃(t:g0),o=O t/\j9 (Kp gk t=T)/\3<=t.size+gk/\wr=b)
  case atStart=>exact⟨s,rfl,j,by omega,rfl⟩
  case round=>
   obtain⟨t,rfl,g,m,rfl⟩:=hrel;by_cases i:t.size<3
   ·(have l:(t.size:Int)<3:=by omega);go_wp2;(have n:(OR++t).size=t.size+1:=by rw[eO];show 1+t.size=_;omega);obtain⟨k,rfl⟩:∃k,gk=k+1:=⟨gk-1,by omega⟩;have a:=Aa g;rw[Kp,eI i]at a
    go_roundg k
    case measure=>omega
    case rel=>exact⟨OR++t,rfl,a,by omega,rfl⟩
   ·(have l:¬(t.size:Int)<3:=by omega);have c:j9 (t=T):=by
     show t=T;have a:=Aa g;cases gk with
     |zero=>exact a
     |succ k=>rw[Kp,eE i]at a;exact a
    go_wp2;go_ret;exact⟨by rw[<-Aa c];rfl,rfl⟩
 .have h:Hp s=K:=by simpa using d
  rw[h]at f;go_enter func217,ntmps217;go_wp2_with (go_at_call 144;refine f.mono ?_;rintro e b ⟨rfl,rfl⟩)
  all_goals go_ret
  all_goals refine⟨?_,rfl⟩
  all_goals simp[AA,h]
def ah:List UInt8->Bool
 |[]=>K
 |[c]=>decide (48<=c.toNat/\c.toNat<=57)
 |[c,_]=>decide (49<=c.toNat/\c.toNat<=57)
 |[c,_,_]=>decide (49<=c.toNat/\c.toNat<=57)
 |_=>K
def Dp(s:g0):g0:=if s.size=0 then s else if Hp s then(if ah s.toList then Kp 3 s else⟨#[0]⟩++s)else s
def Hm:List UInt8->List UInt8
 |[]=>[]
 |c::r=>if c.toNat<97 then(if ah (c::r)then jL (3-Z (c::r)) 48++(c::r)else 0::c::r)else c::r
def CG(a b:g0):(a++b).toList=a.toList++b.toList:=by
 rw[fc,fc,fc,jt,Array.toList_append]
def A7(a:g0):a.size=Z a.toList:=by
 rw[fc];rfl
def toList_inj{a b:g0}(h:a.toList=b.toList):a=b:=by
 rw[fc,fc]at h;exact ByteArray.ext (Array.toList_inj.1 h)
def OE:OR.toList=[48]:=by rw[fc];rfl
def KY:∀(k:Nat) (s:g0),s.size<=3->3<=s.size+k->(Kp k s).toList=jL (3-s.size) 48++s.toList
 |0,s,h,hk=>by
  rw[show 3-s.size=0 by omega];rfl
 |k+1,s,h,hk=>by
  rw[Kp];split
  .rename_i b;(have a:(OR++s).size=s.size+1:=by rw[A7,CG,OE,A7];simp);rw[KY k (OR++s) (by omega) (by omega),a,CG,OE,show 3-s.size=(3-(s.size+1))+1 by omega,List.replicate_succ'];simp
  .rw[show 3-s.size=0 by omega];rfl
def Ey(c:UInt8)(r:List UInt8):jP (c::r) [97]=decide (c.toNat<97):=by
 have e:jP r []=K:=by cases r<;>rfl
 simp only[jP,e];by_cases h:c.toNat<97
 .have:c<97:=h;simp[h,this]
 .have:¬c<97:=h;simp[h,this]
def Ni(s:g0):(Dp s).toList=Hm s.toList:=by
 unfold Dp Hp;cases hs:s.toList with
 |nil=>
  have:s.size=0:=by rw[A7,hs];rfl
  rw[eI this,hs];rfl
 |cons c r=>
  have a:s.size=Z (c::r):=by rw[A7,hs]
  rw[eE (by rw[a];simp),Ey];unfold Hm;by_cases h:c.toNat<97
  .simp only[h,decide_true,if_true];cases ho:ah (c::r)with
   |true=>
    simp only[if_true];have b:Z (c::r)<=3:=by
     match r,ho with
     |[],_=>simp
     |[_],_=>simp
     |[_,_],_=>simp
     |_::_::_::_,ho=>simp[ah]at ho
    rw[KY 3 s (by omega) (by omega),hs,a]
   |false=>
    simp only[ev,if_false];rw[CG,hs];rw[show(⟨#[0]⟩:g0).toList=[0] from by rw[fc]]
    rfl
  .simp only[h,jr,ev,if_false];exact hs
def EB{l:List UInt8}(h:ah l=jj):(∃c:UInt8,l=[c]/\48<=c.toNat/\c.toNat<=57)\/(∃c d:UInt8,l=[c,d]/\49<=c.toNat/\c.toNat<=57)\/(∃c d e:UInt8,l=[c,d,e]/\49<=c.toNat/\c.toNat<=57):=by
 match l,h with
 |[],h=>simp[ah]at h
 |[c],h=>exact j5 ⟨c,rfl,by simpa[ah] using h⟩
 |[c,d],h=>exact j6 (j5 ⟨c,d,rfl,by simpa[ah] using h⟩)
 |[c,d,e],h=>exact j6 (j6 ⟨c,d,e,rfl,by simpa[ah] using h⟩)
 |_::_::_::_::_,h=>simp[ah]at h
def LQ(l:List UInt8):(l=[]/\Hm l=[])\/(∃c r,l=c::r/\97<=c.toNat/\Hm l=c::r)\/(∃c r,l=c::r/\Hm l=0::c::r)\/
  (∃c,l=[c]/\48<=c.toNat/\c.toNat<=57/\Hm l=[48,48,c])\/(∃c d,l=[c,d]/\49<=c.toNat/\c.toNat<=57/\Hm l=[48,c,d])\/(∃c d e,l=[c,d,e]/\49<=c.toNat/\c.toNat<=57/\Hm l=[c,d,e]):=by
 cases l with
 |nil=>exact j5 ⟨rfl,rfl⟩
 |cons c r=>
  rw[show Hm (c::r)=if c.toNat<97 then(if ah (c::r)then jL (3-Z (c::r)) 48++(c::r)else 0::c::r)else c::r from rfl]
  by_cases h:c.toNat<97
  .rw[eI h];cases ho:ah (c::r)with
   |true=>
    rw[eI rfl];refine j6 (j6 (j6 ?_));rcases EB ho with⟨f,e,a,b⟩|⟨f,d,e,a,b⟩|⟨f,d,g,e,a,b⟩
    .rw[e];exact j5 ⟨f,rfl,a,b,rfl⟩
    .rw[e];exact j6 (j5 ⟨f,d,rfl,a,b,rfl⟩)
    .rw[e];exact j6 (j6 ⟨f,d,g,rfl,a,b,rfl⟩)
   |false=>
    rw[eE (by simp)];exact j6 (j6 (j5 ⟨c,r,rfl,rfl⟩))
  .rw[eE h];exact j6 (j5 ⟨c,r,rfl,by omega,rfl⟩)
def Vm{a b:List UInt8}(h:Hm a=Hm b):a=b:=by
 have z:(48:UInt8).toNat=48:=rfl;have o:(0:UInt8).toNat=0:=rfl;rcases LQ a with⟨rfl,e⟩|⟨c,r,rfl,j,e⟩|⟨c,r,rfl,e⟩|⟨c,rfl,j,m,e⟩|⟨c,d,rfl,j,m,e⟩|⟨c,d,f,rfl,j,m,e⟩<;>
  rcases LQ b with⟨rfl,g⟩|⟨i,n,rfl,k,g⟩|⟨i,n,rfl,g⟩|⟨i,rfl,k,l,g⟩|⟨i,p,rfl,k,l,g⟩|⟨i,p,s,rfl,k,l,g⟩<;>
  rw[e]at h<;>(try rw[g]at h)<;>simp only[gW,reduceCtorEq,List.nil_eq,and_true]at h⊢
 all_goals first
  |exact h
  |exact h.2
  |exact h.2.2
  |(exfalso;have q:=congrArg UInt8.toNat h.1;clear e g;omega)
  |(exfalso;have q:=congrArg UInt8.toNat h.2.1;clear e g;omega)
def VU{a b:g0}(h:Dp a=Dp b):a=b:=
 toList_inj (Vm (by rw[<-Ni,<-Ni,h]))
def Hi(t:g0)(h:0<t.size):∃r,t.toList=t[0]::r/\Z t.toList=t.size:=by
 rw[fc];obtain⟨⟨l⟩⟩:=t;cases l with
 |nil=>exact absurd h (by show¬(0<0);omega)
 |cons c r=>exact⟨r,rfl,rfl⟩
def V3{t:g0}(h:0<t.size)(c:97<=t[0].toNat):AA t=Dp t:=by
 obtain⟨r,a,d⟩:=Hi t h;have b:Hp t=K:=by
  unfold Hp;rw[a,Ey];simp;omega
 unfold AA Dp;rw[b,eE (show¬t.size=0 by omega)];simp
def Yf{t:g0}(h:0<t.size)(i:48<=t[0].toNat)(f:t[0].toNat<=57)(j:t.size<=3)(g:t[0].toNat=48->t.size=1):AA t=Dp t:=by
 obtain⟨r,b,a⟩:=Hi t h;have e:Hp t=jj:=by
  unfold Hp;rw[b,Ey];simp;omega
 have d:ah t.toList=jj:=by
  rw[b]at a⊢;generalize t[0]=c at*
  match r,a with
  |[],_=>simp[ah];omega
  |[_],a=>simp at a;simp[ah];omega
  |[_,_],a=>simp at a;simp[ah];omega
  |_::_::_::_,a=>simp at a;omega
 unfold AA Dp;rw[e,d,eE (show¬t.size=0 by omega)];simp
structure AO where
 v:Int
 s:g0
def Aq(t:AO):List j8:=[X jI t.v,O t.s]
def AD:AO:=⟨0,jK⟩
theorem Nf(b:Nat)(B:j8)(c:List AZ)(a:Nat)(t:Int)(w:j7)(h:Cm w b B c a t)(m:AZ)(P:c[a]'h.lt=m)(A:(m.kind==2)=jj\/(m.kind==2)=K/\(m.kind==3)=jj)(T:a+1<Z c):
  Calls prog 193 #[j3 (V ⟨b,0,Y⟩)] w λe d=>e=j4 (.tuple #[jH (j2 (Aq ⟨0,AA m.text⟩)),jJ jj])/\Cm d b B c (a+1) t/\Ac [b] w d:=by
 have HN:=Ab T;clear T;have HM:j9 (∀h:a<Z c,c[a]=m):=λ_=>P
 have W:=h.lt;have Go:(a:Int)<(Z c:Int):=by omega
 have HB:(0:Int)<=(a:Int):=by omega
 have hl:=h.len;have CL:=h.zO.lt;have E:∀k,B.ownBlock=V k->k<w.heap.size:=λk hk=>(h.row.lt k hk).2
 have u:=h.zJ ((Ac.refl [] w).alloc (j1 #[X jI 0,O ⟨#[]⟩] 215));have q:=AI.new w [X jI 0,O ⟨#[]⟩] 215;have x:=(Ac.refl [b] w).alloc (j1 [X jI 0,O ⟨#[]⟩].toArray 215);clear P h;go_enter func193,ntmps193;go_wp2_with fail
 generalize w.alloc (j1 [X jI 0,O ⟨#[]⟩].toArray 215)=w1 at u q x⊢;obtain⟨f,z⟩:∃f,w.heap.size=f:=⟨_,rfl⟩;rw[z]at q CL E⊢;have N:=Ab z;clear z;obtain⟨g,D,rfl,G,M,b2,L⟩:=u.cells;have FO:g<f:=E g rfl;clear E;obtain⟨C,y,v⟩:=L a W;rw[(Aa HM) W]at C y v;clear L b2;have n0:=World.new_ne w1 _ G;have n1:=World.new_ne w1 _ M;have n2:=World.new_ne w1 _ C;have n3:=World.new_ne w1 _ y;have n4:=World.new_ne w1 _ v;have HH:=Ab u;have n:=Ab q;clear u q
 go_region_held3 (λd=>jF d ⟨b,0,Y⟩=V (U (V ⟨g,0,Y⟩) (Z c) D)/\jF d ⟨b,1,Y⟩=V (X J a)/\jF d ⟨g,a*3,Y⟩=V (X J m.kind)/\jF d ⟨g,a*3+1,Y⟩=V (X J m.place)/\jF d ⟨g,a*3+2,Y⟩=V (O m.text)) (go_keep) (fail)
 rename_i EK;clear EK n0 n1 n2 n3 n4 G M C y v;have A0:=n.lt;have j:=HH.zJ (((Ac.refl [] w1).alloc (j1 [X J m.kind,X J m.place,O m.text].toArray 206)).drew);have l:=(AI.new w1 [X J m.kind,X J m.place,O m.text] 206).drew;have i:=(n.alloc (j1 [X J m.kind,X J m.place,O m.text].toArray 206)).drew;have S:=(x.alloc (j1 [X J m.kind,X J m.place,O m.text].toArray 206)).drew;have I:(w1.alloc (j1 [X J m.kind,X J m.place,O m.text].toArray 206)).drew.heap.size=w1.heap.size+1:=by simp
 clear HH n x;generalize(w1.alloc (j1 [X J m.kind,X J m.place,O m.text].toArray 206)).drew=w2 at j l i S I⊢;generalize w1.heap.size=N4 at l A0 I⊢;have x0:=l.cell 0;have x1:=l.cell 1;have x2:=l.cell 2;have y0:=i.cell 0;have y1:=i.cell 1;have yf:=i.frozen;have z1:=j.zO.cell 1;have zf:=j.zO.frozen 1;simp at x0 x1 x2 y0 y1 z1;have HC:=l.lt;have FW:=j.zO.lt;have HD:=i.lt;have za:=λo=>(j.zO.alloc o).cell 1
 have FT:=λo=>(j.zO.alloc o).frozen 1
 have B2:=λo=>(i.alloc o).cell 0
 have B9:=λo=>(i.alloc o).cell 1
 have HI:=λo=>(i.alloc o).frozen
 simp at za B2 B9;have q1:¬b=f:=by omega
 have q2:¬f=b:=by omega
 have q3:¬b=w2.heap.size:=by omega
 have q4:¬w2.heap.size=b:=by omega
 have q5:¬f=w2.heap.size:=by omega
 have q6:¬w2.heap.size=f:=by omega
 have R:=Ab j;have n:=Ab i;clear j l i;have Bx:j9 (∀r H Q:j8,r=X J ((a:Int)+1)->Cm ((((w2.alloc (j1 #[X jI 0,O (AA m.text)] 215)).setCell ⟨b,1,Y⟩ r).setCell ⟨f,0,Y⟩ H).setCell ⟨f,1,Y⟩ Q) b (U (V ⟨g,0,Y⟩) (Z c) D) c (a+1) t):=by
  intro r H Q hv;have k1:Ac [b] w2 ((((w2.alloc (j1 #[X jI 0,O (AA m.text)] 215)).setCell ⟨b,1,Y⟩ r))):=((Ac.refl [b] w2).alloc _).setCell (by simp) _;have p:=R.kept (nx':=a+1) (br':=t) k1 (by rw[hv];exact(R.zO.alloc _).set 1 _) HN;have F:(U (V ⟨g,0,Y⟩) (Z c) D).ownBlock≠V f:=by simp[jN];omega
  exact⟨(p.zO.zA _ (by simp;omega) _).zA _ (by simp;omega) _,Ag (Ag p.row F _) F _,p.ap,p.lt,p.len⟩
 have AT:j9 (∀s w,Calls prog 217 #[O s] w λe d=>e=j4 (O (AA s))/\d=w):=SX;rcases A with A|⟨A,e3⟩;all_goals
  go_wp2_with (go_at_call 217;refine(AT _ _).mono ?_;rintro e d ⟨rfl,rfl⟩)
  refine eX (Ar rfl rfl ((((n.alloc _).zA ⟨b,1,Y⟩ (by simp;omega) _).set 0 _).set 1 _) underlying215 rfl (by kernel_rfl)) rfl ⟨rfl,?_,?_⟩
  .exact Bx.out _ _ _ rfl
  .refine Ac.setCell (Ac.setCell (Ac.setCell (S.alloc _) (by simp) _) (by right;have:=Aa N;simp;omega) _) (by right;have:=Aa N;simp;omega) _
theorem Vy(b:Nat)(z:j8)(d:List AZ)(a:Nat)(T:Int)(w:j7)(h:Cm w b z d a T)(m:AZ)(Q:d[a]'h.lt=m)(e2:(m.kind==2)=K)(e3:(m.kind==3)=K)(e4:(m.kind==4)=K):
  Calls prog 193 #[j3 (V ⟨b,0,Y⟩)] w λe j=>e=j4 (.tuple #[jH (j2 (Aq AD)),jJ K])/\Cm j b z d a m.place/\Ac [b] w j:=by
 have HM:j9 (∀h:a<Z d,d[a]=m):=λ_=>Q
 have A2:=h.lt;have FW:(a:Int)<(Z d:Int):=by omega
 have Ha:(0:Int)<=(a:Int):=by omega
 have hl:=h.len;have E0:=h.zO.lt;have C:∀k,z.ownBlock=V k->k<w.heap.size:=λk hk=>(h.row.lt k hk).2
 have s:=h.zJ ((Ac.refl [] w).alloc (j1 #[X jI 0,O ⟨#[]⟩] 215));have q:=AI.new w [X jI 0,O ⟨#[]⟩] 215;have v:=(Ac.refl [b] w).alloc (j1 [X jI 0,O ⟨#[]⟩].toArray 215);clear Q h;go_enter func193,ntmps193;go_wp2_with fail
 generalize w.alloc (j1 [X jI 0,O ⟨#[]⟩].toArray 215)=w1 at s q v⊢;obtain⟨f,y⟩:∃f,w.heap.size=f:=⟨_,rfl⟩;rw[y]at q E0 C⊢;have N:=Ab y;clear y;obtain⟨g,A0,rfl,E,M,b2,I⟩:=s.cells;have FP:g<f:=C g rfl;clear C;obtain⟨A,x,t⟩:=I a A2;rw[(Aa HM) A2]at A x t;clear I b2;have n0:=World.new_ne w1 _ E;have n1:=World.new_ne w1 _ M;have n2:=World.new_ne w1 _ A;have n3:=World.new_ne w1 _ x;have n4:=World.new_ne w1 _ t;have HH:=Ab s;have n:=Ab q;clear s q
 go_region_held3 (λj=>jF j ⟨b,0,Y⟩=V (U (V ⟨g,0,Y⟩) (Z d) A0)/\jF j ⟨b,1,Y⟩=V (X J a)/\jF j ⟨g,a*3,Y⟩=V (X J m.kind)/\jF j ⟨g,a*3+1,Y⟩=V (X J m.place)/\jF j ⟨g,a*3+2,Y⟩=V (O m.text)) (go_keep) (fail)
 rename_i FA;clear FA n0 n1 n2 n3 n4 E M A x t;have B9:=n.lt;have i:=HH.zJ (((Ac.refl [] w1).alloc (j1 [X J m.kind,X J m.place,O m.text].toArray 206)).drew);have l:=(AI.new w1 [X J m.kind,X J m.place,O m.text] 206).drew;have c:=(n.alloc (j1 [X J m.kind,X J m.place,O m.text].toArray 206)).drew;have B:=(v.alloc (j1 [X J m.kind,X J m.place,O m.text].toArray 206)).drew;have F:(w1.alloc (j1 [X J m.kind,X J m.place,O m.text].toArray 206)).drew.heap.size=w1.heap.size+1:=by simp
 clear HH n v;generalize(w1.alloc (j1 [X J m.kind,X J m.place,O m.text].toArray 206)).drew=w2 at i l c B F⊢;generalize w1.heap.size=N4 at l B9 F⊢;have L:=l.cell 0;have x1:=l.cell 1;have H:=l.cell 2;have y0:=c.cell 0;have P:=c.cell 1;have yf:=c.frozen;have z1:=i.zO.cell 1;have zf:=i.zO.frozen 1;simp at L x1 H y0 P z1;have HA:=l.lt;have FT:=i.zO.lt;have HB:=c.lt;have za:=λo=>(i.zO.alloc o).cell 1
 have B2:=λo=>(i.zO.alloc o).frozen 1
 have R:=λo=>(c.alloc o).cell 0
 have S:=λo=>(c.alloc o).cell 1
 have FB:=λo=>(c.alloc o).frozen
 simp at za R S;have q1:¬b=f:=by omega
 have q2:¬f=b:=by omega
 have q3:¬b=w2.heap.size:=by omega
 have q4:¬w2.heap.size=b:=by omega
 have q5:¬f=w2.heap.size:=by omega
 have q6:¬w2.heap.size=f:=by omega
 have AT:=Ab i;have n:=Ab c;clear i l c;go_wp2_with fail
 have G:=AT.zJ ((Ac.refl [] w2).alloc (j1 #[X jI 0,O ⟨#[]⟩] 215));refine(FV b _ d a T m.place _ G).mono ?_;rintro e w4 ⟨rfl,W,u⟩;have r:=(n.alloc _).kept u (by simp;omega);have FF:=(B.alloc _).trans u;have v0:=r.cell 0;have v1:=r.cell 1;have vf:=r.frozen;simp at v0 v1;have EK:=Ab W;clear G W u L x1 H y0 P yf z1 zf za B2 R S FB AT n B;go_wp2;refine eX (Ar rfl rfl ((r.set 0 _).set 1 _) underlying215 rfl (by kernel_rfl)) rfl ⟨rfl,?_,?_⟩
 .have D:(U (V ⟨g,0,Y⟩) (Z d) A0).ownBlock≠V f:=by simp[jN];omega
  have p:=Aa EK;exact⟨(p.zO.zA _ (by simp;omega) _).zA _ (by simp;omega) _,Ag (Ag p.row D _) D _,p.ap,p.lt,p.len⟩
 .refine Ac.setCell (Ac.setCell FF (by right;have:=Aa N;simp;omega) _) (by right;have:=Aa N;simp;omega) _
def CZ(s:g0)(pos:Nat)(v:Int):Int:=
 if h:pos<s.size/\1<=(Utf8.decode s pos).2 then have _h1:pos<s.size:=h.1;have _h2:=h.2;CZ s (pos+(Utf8.decode s pos).2) (Utf8.decode s pos).1 else v
def KC{s:g0}{pos:Nat}(v:Int)(h:pos<s.size):CZ s pos v=CZ s (pos+(Utf8.decode s pos).2) (Utf8.decode s pos).1:=by
 conv=>lhs;rw[CZ]
 rw[dif_pos ⟨h,If s pos h⟩]
def R5{s:g0}{pos:Nat}(v:Int)(h:¬pos<s.size):CZ s pos v=v:=by
 rw[CZ,dif_neg (by omega)]
theorem Yg(b:Nat)(mv:j8)(d:List AZ)(c:Nat)(A:Int)(w:j7)(h:Cm w b mv d c A)(m:AZ)(F:d[c]'h.lt=m)(e2:(m.kind==2)=K)(e3:(m.kind==3)=K)(e4:(m.kind==4)=jj)(hn:c+1<Z d)(LE:m.text.size<=2000):
  Calls prog 193 #[j3 (V ⟨b,0,Y⟩)] w λe r=>e=j4 (.tuple #[jH (j2 (Aq ⟨CZ m.text 0 0,jK⟩)),jJ jj])/\Cm r b mv d (c+1) A/\Ac [b] w r:=by
 have HN:=Ab hn;clear hn;have HM:j9 (∀h:c<Z d,d[c]=m):=λ_=>F
 have HS:=h.lt;have z:(c:Int)<(Z d:Int):=by omega
 have K6:(0:Int)<=(c:Int):=by omega
 have hl:=h.len;have Jx:=h.zO.lt;have EX:∀k,mv.ownBlock=V k->k<w.heap.size:=λk hk=>(h.row.lt k hk).2
 have h1:=h.zJ ((Ac.refl [] w).alloc (j1 #[X jI 0,O ⟨#[]⟩] 215));have I:=AI.new w [X jI 0,O ⟨#[]⟩] 215;have BA:=(Ac.refl [b] w).alloc (j1 [X jI 0,O ⟨#[]⟩].toArray 215);clear F h;go_enter func193,ntmps193;go_wp2_with fail
 generalize w.alloc (j1 [X jI 0,O ⟨#[]⟩].toArray 215)=w1 at h1 I BA⊢;obtain⟨f,CC⟩:∃f,w.heap.size=f:=⟨_,rfl⟩;rw[CC]at I Jx EX⊢;have H4:=Ab CC;clear CC;obtain⟨g,x,rfl,b0,b1,b2,hc⟩:=h1.cells;have K4:g<f:=EX g rfl;clear EX;obtain⟨c0,c1,c2⟩:=hc c HS;rw[(Aa HM) HS]at c0 c1 c2;clear hc b2;have n0:=World.new_ne w1 _ b0;have n1:=World.new_ne w1 _ b1;have n2:=World.new_ne w1 _ c0;have n3:=World.new_ne w1 _ c1;have n4:=World.new_ne w1 _ c2;have HH:=Ab h1;have p:=Ab I;clear h1 I
 go_region_held3 (λr=>jF r ⟨b,0,Y⟩=V (U (V ⟨g,0,Y⟩) (Z d) x)/\jF r ⟨b,1,Y⟩=V (X J c)/\jF r ⟨g,c*3,Y⟩=V (X J m.kind)/\jF r ⟨g,c*3+1,Y⟩=V (X J m.place)/\jF r ⟨g,c*3+2,Y⟩=V (O m.text)) (go_keep) (fail)
 rename_i KA;clear KA n0 n1 n2 n3 n4 b0 b1 c0 c1 c2;have H0:=p.lt;have q:=HH.zJ (((Ac.refl [] w1).alloc (j1 [X J m.kind,X J m.place,O m.text].toArray 206)).drew);have t:=(AI.new w1 [X J m.kind,X J m.place,O m.text] 206).drew;have l:=(p.alloc (j1 [X J m.kind,X J m.place,O m.text].toArray 206)).drew;have C:=(BA.alloc (j1 [X J m.kind,X J m.place,O m.text].toArray 206)).drew;have y:(w1.alloc (j1 [X J m.kind,X J m.place,O m.text].toArray 206)).drew.heap.size=w1.heap.size+1:=by simp
 clear HH p BA;generalize(w1.alloc (j1 [X J m.kind,X J m.place,O m.text].toArray 206)).drew=w2 at q t l C y⊢;generalize w1.heap.size=N4 at t H0 y⊢;have L:=t.cell 0;have x1:=t.cell 1;have x2:=t.cell 2;have W:=l.cell 0;have M:=l.cell 1;have yf:=l.frozen;have S:=q.zO.cell 1;have zf:=q.zO.frozen 1;simp at L x1 x2 W M S;have H7:=t.lt;have H1:=q.zO.lt;have H8:=l.lt;have za:=λo=>(q.zO.alloc o).cell 1
 have HZ:=λo=>(q.zO.alloc o).frozen 1
 have FW:=λo=>(l.alloc o).cell 0
 have Ha:=λo=>(l.alloc o).cell 1
 have KK:=λo=>(l.alloc o).frozen
 simp at za FW Ha;have q1:¬b=f:=by omega
 have q2:¬f=b:=by omega
 have q3:¬b=w2.heap.size:=by omega
 have q4:¬w2.heap.size=b:=by omega
 have q5:¬f=w2.heap.size:=by omega
 have q6:¬w2.heap.size=f:=by omega
 have HF:=Ab q;have p:=Ab l;clear q t l;go_wp2;have EY:(w2.alloc (j1 #[X jI 0,O ⟨#[]⟩] 215)).heap.size=N4+1+1:=by simp[y]
 have B9:Ac [b] w ((w2.alloc (j1 #[X jI 0,O ⟨#[]⟩] 215)).iter m.text 0):=(C.alloc _).alloc _;have h3:Cm ((w2.alloc (j1 #[X jI 0,O ⟨#[]⟩] 215)).iter m.text 0) b (U (V ⟨g,0,Y⟩) (Z d) x) d c A:=HF.zJ (((Ac.refl [] w2).alloc _).alloc _);have BS:AI ((w2.alloc (j1 #[X jI 0,O ⟨#[]⟩] 215)).iter m.text 0) f [X jI 0,O ⟨#[]⟩] 215:=(p.alloc _).alloc _;have A2:AI ((w2.alloc (j1 #[X jI 0,O ⟨#[]⟩] 215)).iter m.text 0) (N4+1) [X jI 0,O ⟨#[]⟩] 215:=by rw[<-y];exact(AI.new w2 [X jI 0,O ⟨#[]⟩] 215).alloc _
 have Q:=World.iter_heap (w2.alloc (j1 #[X jI 0,O ⟨#[]⟩] 215)) m.text 0;rw[EY]at Q;have Bx:N4+1+1<((w2.alloc (j1 #[X jI 0,O ⟨#[]⟩] 215)).iter m.text 0).heap.size:=by simp[World.iter,y]
 have LM:w.heap.size<=f:=by have:=Aa H4;omega
 clear L x1 x2 W M yf S zf za HZ FW Ha KK HF p C EY q1 q2 q3 q4 q5 q6 H7 H1 H8 y;generalize(w2.alloc (j1 #[X jI 0,O ⟨#[]⟩] 215)).iter m.text 0=w3 at B9 h3 BS A2 Q Bx⊢
 go_loopg [] m.text.size (λgk wr=>∃(pos:Nat) (v:Int),gk=m.text.size-pos/\pos<=m.text.size+4/\j9 (CZ m.text pos v=CZ m.text 0 0)/\j9 (wr.heap[N4+1+1]?=V (.stringIter m.text pos))/\j9 (Cm wr b (U (V ⟨g,0,Y⟩) (Z d) x) d c A)/\j9 (AI wr f [X jI 0,O ⟨#[]⟩] 215)/\j9 (AI wr (N4+1) [X jI v,O ⟨#[]⟩] 215)/\Ac [b] w wr/\N4+1+1<wr.heap.size)
 case atStart=>exact⟨0,0,by simp,by omega,rfl,Q,h3,BS,A2,B9,Bx⟩
 case round=>
  clear Q h3 BS A2 B9 Bx;obtain⟨pos,v,HK,K5,T,R,n,B,HT,hK,hz⟩:=hrel;have HG:=Ab HK;clear HK;by_cases z:pos<m.text.size
  .obtain⟨E,a,D⟩:∃E a,Utf8.decode m.text pos=(E,a):=⟨_,_,rfl⟩;(have LC:a<=4:=by have:=TY m.text pos;rw[D]at this;exact this);(have K7:1<=a:=by have:=If m.text pos z;rw[D]at this;exact this);have FT:∀u,(Instr.next (j3 (V ⟨N4+1+1,0,Y⟩)) jj u).run prog wr=.ok (.tuple #[jJ jj,X J pos,X jI E]) (C7 wr (N4+1+1) m.text (pos+a)):=by
    intro u;have h:=Uv (P:=prog) R u z;rw[D]at h;exact h
   have Go:=Ab (Pf (w:=wr) (N:=N4+1+1) (s:=m.text) (pos:=pos+a) hz);have B0:=B.kept (Dx wr (N4+1+1) m.text (pos+a)) (by simp;omega);have G:=HT.kept (Dx wr (N4+1+1) m.text (pos+a)) (by simp);(have H:(U (V ⟨g,0,Y⟩) (Z d) x).ownBlock≠V (N4+1+1):=by simp[jN];omega);have B2:Cm (C7 wr (N4+1+1) m.text (pos+a)) b (U (V ⟨g,0,Y⟩) (Z d) x) d c A:=
    ⟨n.zO.kept (Dx wr (N4+1+1) m.text (pos+a)) (by simp;omega),Al n.row (Dx wr (N4+1+1) m.text (pos+a)) (λi hi F=>by simp at F;subst F;exact H hi),n.ap,n.lt,n.len⟩
   have C:Ac [b] w (C7 wr (N4+1+1) m.text (pos+a)):=hK.trans' (Dx wr (N4+1+1) m.text (pos+a)) (by intro i hi;right;simp at hi;omega);(have HC:N4+1+1<(C7 wr (N4+1+1) m.text (pos+a)).heap.size:=by rw[IE];exact hz);have IS:j9 (CZ m.text (pos+a) E=CZ m.text 0 0):=by
    have h:=T.out;rw[KC v z,D]at h;exact h
   clear D R n B HT T hK hz;generalize C7 wr (N4+1+1) m.text (pos+a)=w4 at FT Go B0 G B2 C HC;have v0:=G.cell 0;have vf:=G.frozen 0;simp at v0;have p:=Ab B0;have H3:=Ab G;have H6:=Ab B2;clear B0 G B2;go_wp2_with fail
   go_roundg (m.text.size-(pos+a))
   case measure=>have:=Aa HG;omega
   case rel=>
    refine⟨pos+a,E,rfl,by omega,IS,?_,?_,p.zA _ (by simp;omega) _,H3.set 0 _,C.setCell (by right;simp;omega) _,by simpa using HC⟩
    .show _=_;rw[Below.heap_setCell _ _ _ _ (by simp)];exact Go
    .have j:=Aa H6;(have K2:(U (V ⟨g,0,Y⟩) (Z d) x).ownBlock≠V (N4+1):=by simp[jN];omega);exact⟨j.zO.zA _ (by simp;omega) _,Ag j.row K2 _,j.ap,j.lt,j.len⟩
  ·(have FT:∀u,(Instr.next (j3 (V ⟨N4+1+1,0,Y⟩)) jj u).run prog wr=.ok (.tuple #[jJ K]) wr:=λu=>Ui (P:=prog) R u z);(have HV:j9 (v=CZ m.text 0 0):=by have h:=T.out;rwa [R5 v z]at h);have S:=n.zO.cell 1;have zf:=n.zO.frozen 1;have W:=B.cell 0;have M:=B.cell 1;have yf:=B.frozen;have L:=HT.cell 0;have x1:=HT.cell 1;simp at S W M L x1;(have q1:¬b=f:=by omega);(have q2:¬f=b:=by omega);(have q3:¬b=N4+1:=by omega);(have q4:¬N4+1=b:=by omega);(have q5:¬f=N4+1:=by omega);(have q6:¬N4+1=f:=by omega);clear T R;go_wp2;have hR:=Aa n;have k1:Ac [b] wr (wr.setCell ⟨b,1,Y⟩ (X J ((c:Int)+1))):=(Ac.refl [b] wr).setCell (by simp) _;have j:=hR.kept (nx':=c+1) (br':=A) k1 (hR.zO.set 1 _) HN;(have H:(U (V ⟨g,0,Y⟩) (Z d) x).ownBlock≠V f:=by simp[jN];omega);refine eX (Ar rfl rfl (((B.zA ⟨b,1,Y⟩ (by simp;omega) _).set 0 _).set 1 _) underlying215 rfl (by kernel_rfl)) rfl ⟨?_,?_,?_⟩
   .rw[<-HV.out];rfl
   .exact⟨(j.zO.zA _ (by simp;omega) _).zA _ (by simp;omega) _,Ag (Ag j.row H _) H _,j.ap,j.lt,j.len⟩
   .exact((hK.trans k1).setCell (by right;simp;omega) _).setCell (by right;simp;omega) _
structure Us(ms:List AZ):Prop where
 ends:∀i (h:i<Z ms),(ms[i].kind==1)=K->i+1<Z ms
 text:∀i (h:i<Z ms),ms[i].text.size<=2000
def Fk(m:AZ)(nx:Nat):Except Int (AO×Nat):=
 if m.kind==2||m.kind==3 then .ok (⟨0,AA m.text⟩,nx+1)
 else if m.kind==4 then .ok (⟨CZ m.text 0 0,jK⟩,nx+1)
 else .error m.place
def cu(b:Nat)(mv:j8)(ms:List AZ)(br:Int)(w:j7)(e:Ending)(w':j7):Except Int (AO×Nat)->Prop
 | .ok (t,nx)=>e=j4 (.tuple #[jH (j2 (Aq t)),jJ jj])/\Cm w' b mv ms nx br/\Ac [b] w w'
 | .error p=>∃nx,e=j4 (.tuple #[jH (j2 (Aq AD)),jJ K])/\Cm w' b mv ms nx p/\Ac [b] w w'
def Ig(b:Nat)(g:j8)(c:List AZ)(a:Nat)(i:Int)(w:j7)(h:Cm w b g c a i)(o:Us c)(m:AZ)(f:c[a]'h.lt=m):
  Calls prog 193 #[j3 (V ⟨b,0,Y⟩)] w λe j=>cu b g c i w e j (Fk m a):=by
 have n:(m.kind==1)=K->a+1<Z c:=by rw[<-f];exact o.ends a h.lt
 have r:m.text.size<=2000:=by rw[<-f];exact o.text a h.lt
 have l:∀k:Int,(m.kind==k)=jj->k≠1->(m.kind==1)=K:=λk p q=>by
  have:m.kind=k:=by simpa using p
  rw[this];simpa using q
 cases e2:(m.kind==2)with
 |true=>
  refine(Nf b g c a i w h m f (j5 e2) (n (l 2 e2 (by decide)))).mono ?_;intro e j d;simp only[Fk,e2,iG,if_true];exact d
 |false=>
  cases e3:(m.kind==3)with
  |true=>
   refine(Nf b g c a i w h m f (j6 ⟨e2,e3⟩) (n (l 3 e3 (by decide)))).mono ?_;intro e j d;simp only[Fk,e3,jf,if_true];exact d
  |false=>
   cases e4:(m.kind==4)with
   |true=>
    refine(Yg b g c a i w h m f e2 e3 e4 (n (l 4 e4 (by decide))) r).mono ?_;intro e j d;simp only[Fk,e2,e3,e4,jD,ev,if_false,if_true];exact d
   |false=>
    refine(Vy b g c a i w h m f e2 e3 e4).mono ?_;intro e j d;simp only[Fk,e2,e3,e4,jD,ev,if_false];exact⟨a,d⟩
def Rd:g0:=⟨#[40]⟩
theorem Ym:Rd.toList=[40]:=by kernel_rfl
def Ek(ms:List AZ)(nx:Nat):Bool:=
 match ms[nx]?,ms[nx+1]? with
 |some m,V m'=>m.kind==2&&BD m' Rd
 |_,_=>K
theorem RX(b:Nat)(L:j8)(d:List AZ)(a:Nat)(H:Int)(w:j7)(h:Cm w b L d a H)(C:Us d):
  Calls prog 199 #[j3 (V ⟨b,0,Y⟩)] w λe f=>e=j4 (jJ (Ek d a))/\Ac [] w f:=by
 obtain⟨g,A,rfl,z,v,_,r⟩:=h.cells;have q:=h.lt;have hl:=h.len;obtain⟨D,_,_⟩:=r a q;obtain⟨m,i⟩:∃m,d[a]=m:=⟨_,rfl⟩;have l:=C.ends a q;rw[i]at D l;have P:(a:Int)<(Z d:Int):=by omega
 have W:(0:Int)<=(a:Int):=by omega
 clear h C;cases hk:(m.kind==2)with
 |false=>
  have n:j9 (Ek d a=K):=by
   show _=_;unfold Ek;rw[ez q,i];split
   .rename_i x _;simp only[eD]at x;subst x;simp[hk]
   .rfl
  have E:(m.kind !=2)=jj:=by simp[bne,hk]
  clear r l i;go_enter func199,ntmps199;go_wp2
  go_quiet (fail)
  go_wp2;go_ret;exact⟨by rw[n.out];rfl,(Ac.refl _ _).drewN _⟩
 |true=>
  have u:=l (by have:m.kind=2:=(by simpa using hk);rw[this];decide);obtain⟨c,s⟩:∃c,d[a+1]=c:=⟨_,rfl⟩;obtain⟨p,o,j⟩:=r (a+1) u;rw[s]at p o j;have n:j9 (Ek d a=BD c Rd):=by
   show _=_;unfold Ek;rw[ez q,i,ez u,s];simp[hk]
  have E:(m.kind !=2)=K:=by simp[bne,hk]
  obtain⟨k,y⟩:∃k,a+1=k:=⟨_,rfl⟩;have hw:IntKind.i64.wrap ((a:Int)+1)=(k:Int):=by
   rw[ik];omega
  have T:(0:Int)<=(k:Int):=by omega
  have Q:(k:Int)<(Z d:Int):=by omega
  rw[y]at p o j;clear r l i s u y;go_enter func199,ntmps199;go_wp2
  go_quiet (fail)
  have B:Ac [] w (w.drewN nq):=(Ac.refl _ _).drewN _;have M:jF (w.drewN nq) ⟨b,0,Y⟩=V (U (V ⟨g,0,Y⟩) (Z d) A):=z;have N:jF (w.drewN nq) ⟨b,1,Y⟩=V (X J a):=v;have I:jF (w.drewN nq) ⟨g,k*3,Y⟩=V (X J c.kind):=p;have F:jF (w.drewN nq) ⟨g,k*3+1,Y⟩=V (X J c.place):=o;have G:jF (w.drewN nq) ⟨g,k*3+2,Y⟩=V (O c.text):=j;clear z v D p o j;generalize w.drewN nq=w1 at*;have n0:=World.new_ne w1 _ M;have n1:=World.new_ne w1 _ N;have n2:=World.new_ne w1 _ I;have R:=World.new_ne w1 _ F;have S:=World.new_ne w1 _ G;go_wp2_with fail
  go_region_held3 (λf=>jF f ⟨b,0,Y⟩=V (U (V ⟨g,0,Y⟩) (Z d) A)/\jF f ⟨b,1,Y⟩=V (X J a)/\jF f ⟨g,k*3,Y⟩=V (X J c.kind)/\jF f ⟨g,k*3+1,Y⟩=V (X J c.place)/\jF f ⟨g,k*3+2,Y⟩=V (O c.text)) (go_keep) (fail)
  cases hs:(c.kind==5)with
  |true=>
   (have t:j9 (BD c Rd=(c.text.toList==Rd.toList)):=by show _=_;simp[BD,hs]);go_wp2;all_goals
    go_ret;refine⟨Bf ?_,?_⟩
    .rw[n.out,t.out,Ym]
    .repeat (first|refine Ac.drew ?_|refine Ac.setCell ?_ (by simp) _|refine Ac.alloc ?_ _|refine Ac.drewN ?_ _)
     exact B
  |false=>
   (have t:j9 (BD c Rd=K):=by show _=_;simp[BD,hs]);go_wp2;all_goals
    go_ret;refine⟨Bf ?_,?_⟩
    .rw[n.out,t.out]
    .repeat (first|refine Ac.drew ?_|refine Ac.setCell ?_ (by simp) _|refine Ac.alloc ?_ _|refine Ac.drewN ?_ _)
     exact B
structure GA where
 place:Int
 name:g0
 tv:j8
def AL(a:GA):List j8:=[X J a.place,O a.name,a.tv]
def AU:GA:=⟨0,jK,U Y 0 0⟩
structure Zd where
 place:Int
 sort:Int
 atom:GA
 left:AO
 right:AO
def Ay(l:Zd):List j8:=[X J l.place,X J l.sort,X J l.atom.place,O l.atom.name,l.atom.tv,X jI l.left.v,O l.left.s,X jI l.right.v,O l.right.s]
def Ca:Zd:=⟨0,0,AU,AD,AD⟩
def Au(ms:List AZ)(i:Nat):AZ:=ms.getD i ⟨1,0,jK⟩
def Bg{a:List AZ}{i:Nat}(h:i<Z a):a[i]=Au a i:=by simp[Au,h]
def Us.seen{a:List AZ}(c:Us a){i:Nat}(h:i<Z a)(t:g0)(b:BD (Au a i) t=jj):i+1<Z a:=by
 refine c.ends i h ?_;rw[Bg h];unfold BD at b;rw[eW]at b;have:(Au a i).kind=5:=by simpa using b.1
 rw[this];decide
def Vx(cs:List j8)(h:Z cs=9)(d v1 b a e v5 c g f:j8):(((((((((cs.set 0 d).set 1 v1).set 2 b).set 3 a).set 4 e).set 5 v5).set 6 c).set 7 g).set 8 f)=[d,v1,b,a,e,v5,c,g,f]:=by
 match cs,h with
 |[a0,a1,a2,a3,a4,a5,a6,a7,a8],_=>rfl
def AI.zF{w:j7}{N:Nat}{cs:List j8}{t:TypeId}(h:AI w N cs t)(j:Z cs=9)(d v1 b a e v5 c g f:j8):AI (((((((((w.setCell ⟨N,0,Y⟩ d).setCell ⟨N,1,Y⟩ v1).setCell ⟨N,2,Y⟩ b).setCell ⟨N,3,Y⟩ a).setCell ⟨N,4,Y⟩ e).setCell ⟨N,5,Y⟩ v5).setCell ⟨N,6,Y⟩ c).setCell ⟨N,7,Y⟩ g).setCell ⟨N,8,Y⟩ f) N [d,v1,b,a,e,v5,c,g,f] t:=by
 have i:=(((((((((h.set 0 d).set 1 v1).set 2 b).set 3 a).set 4 e).set 5 v5).set 6 c).set 7 g).set 8 f);rw[Vx cs j]at i;exact i
def dX:g0:=⟨#[61]⟩
def dV:g0:=⟨#[35]⟩
def dU:g0:=⟨#[60]⟩
def Mk(m:AZ):Option Int:=if BD m dX then V 2 else if BD m dV then V 3 else if BD m dU then V 4 else Y
def G4(ms:List AZ)(nx:Nat):Except Int (Zd×Nat):=
 match Fk (Au ms nx) nx with
 | .error p=> .error p
 | .ok (l,n1)=>
  match Mk (Au ms n1)with
  |none=> .error (Au ms n1).place
  |some s=>
   match Fk (Au ms (n1+1)) (n1+1)with
   | .error p=> .error p
   | .ok (r,n2)=> .ok (⟨(Au ms nx).place,s,AU,l,r⟩,n2)
def Rq{a:List AZ}{b:Nat}{l:Zd}{n:Nat}(h:G4 a b=.ok (l,n)):l.atom=AU:=by
 unfold G4 at h;split at h
 .cases h
 .split at h
  .cases h
  .split at h
   .cases h
   .simp only[fK,fo]at h;rw[<-h.1]
def Cm.other{w:j7}{b:Nat}{a:j8}{c:List AZ}{e:Nat}{d:Int}(h:Cm w b a c e d){p:Addr}(f:p.block≠b)(g:a.ownBlock≠V p.block)(u:j8):Cm (w.setCell p u) b a c e d:=
 ⟨h.zO.zA _ f _,Ag h.row g _,h.ap,h.lt,h.len⟩
def Cm.zF{w:j7}{b:Nat}{d:j8}{e:List AZ}{o:Nat}{f:Int}(h:Cm w b d e o f){N:Nat}(a:N≠b)(c:d.ownBlock≠V N)(k v1 j g l v5 i n m:j8):Cm (((((((((w.setCell ⟨N,0,Y⟩ k).setCell ⟨N,1,Y⟩ v1).setCell ⟨N,2,Y⟩ j).setCell ⟨N,3,Y⟩ g).setCell ⟨N,4,Y⟩ l).setCell ⟨N,5,Y⟩ v5).setCell ⟨N,6,Y⟩ i).setCell ⟨N,7,Y⟩ n).setCell ⟨N,8,Y⟩ m) b d e o f:=
 (((((((((h.other (p:=⟨N,0,Y⟩) a c k).other (p:=⟨N,1,Y⟩) a c v1).other (p:=⟨N,2,Y⟩) a c j).other (p:=⟨N,3,Y⟩) a c g).other (p:=⟨N,4,Y⟩) a c l).other (p:=⟨N,5,Y⟩) a c v5).other (p:=⟨N,6,Y⟩) a c i).other (p:=⟨N,7,Y⟩) a c n).other (p:=⟨N,8,Y⟩) a c m)
def Ac.zF{M:List Nat}{a w:j7}(h:Ac M a w){N:Nat}(b:N∈M\/a.heap.size<=N)(f v1 d c g v5 e j i:j8):Ac M a (((((((((w.setCell ⟨N,0,Y⟩ f).setCell ⟨N,1,Y⟩ v1).setCell ⟨N,2,Y⟩ d).setCell ⟨N,3,Y⟩ c).setCell ⟨N,4,Y⟩ g).setCell ⟨N,5,Y⟩ v5).setCell ⟨N,6,Y⟩ e).setCell ⟨N,7,Y⟩ j).setCell ⟨N,8,Y⟩ i):=
 (((((((((h.setCell (p:=⟨N,0,Y⟩) b f).setCell (p:=⟨N,1,Y⟩) b v1).setCell (p:=⟨N,2,Y⟩) b d).setCell (p:=⟨N,3,Y⟩) b c).setCell (p:=⟨N,4,Y⟩) b g).setCell (p:=⟨N,5,Y⟩) b v5).setCell (p:=⟨N,6,Y⟩) b e).setCell (p:=⟨N,7,Y⟩) b j).setCell (p:=⟨N,8,Y⟩) b i)
def dw(b:Nat)(mv:j8)(ms:List AZ)(br:Int)(w:j7)(e:Ending)(w':j7):Except Int (Zd×Nat)->Prop
 | .ok (l,nx)=>e=j4 (.tuple #[jH (j2 (Ay l)),jJ jj])/\Cm w' b mv ms nx br/\Ac [b] w w'
 | .error p=>∃nx l,l.atom=AU/\e=j4 (.tuple #[jH (j2 (Ay l)),jJ K])/\Cm w' b mv ms nx p/\Ac [b] w w'
theorem ci(b:Nat)(o:j8)(d:List AZ)(x:Nat)(E:Int)(w:j7)(h:Cm w b o d x E)(ok:Us d):
  Calls prog 200 #[j3 (V ⟨b,0,Y⟩)] w λe w'=>dw b o d E w e w' (G4 d x):=by
 have HO:=Ab ok;have M0:=h.zO.lt;have K6:∀k,o.ownBlock=V k->k<w.heap.size:=λk hk=>(h.row.lt k hk).2
 have h1:=Ab (h.zJ ((Ac.refl [] w).alloc (j1 (j2 (Ay Ca)) 217)));have hN:=Ab (AI.new w (Ay Ca) 217);have JJ:=Ab ((Ac.refl [b] w).alloc (j1 (j2 (Ay Ca)) 217));have K2:(w.alloc (j1 (j2 (Ay Ca)) 217)).heap.size=w.heap.size+1:=by simp
 clear h ok;go_enter func200,ntmps200;go_wp2_with fail
 change Calls _ _ _ (w.alloc (j1 (j2 (Ay Ca)) 217)) _;generalize w.alloc (j1 (j2 (Ay Ca)) 217)=w1 at h1 hN JJ K2⊢;obtain⟨N,K4⟩:∃N,w.heap.size=N:=⟨_,rfl⟩;rw[K4]at hN M0 K2 K6⊢;have i:j9 (∀k,N<=k->o.ownBlock≠V k):=λk hk e=>by have:=K6 k e;omega
 clear K6;have HN:=Ab K4;clear K4;refine(JY b o d x E _ h1 (Au d x) (Bg h1.lt)).mono ?_;rintro e w2 ⟨rfl,k2⟩;have h2:=Ab (h1.zJ k2);have LB:=Ab (hN.kept k2 (by simp));have Mo:=Ab (JJ.trans (k2.mono (by simp)));have MY:N+1<=w2.heap.size:=by have:=k2.size;omega
 clear h1 hN JJ K2 k2;obtain⟨p,hp⟩:∃p,(Au d x).place=p:=⟨_,rfl⟩;have HP:=Ab hp;rw[hp];clear hp;go_wp2_with fail
 change Calls _ _ _ (w2.alloc (j1 (j2 (Ay ⟨p,0,AU,AD,AD⟩)) 217)) _;have h3:=Ab (h2.zJ ((Ac.refl [] w2).alloc (j1 (j2 (Ay ⟨p,0,AU,AD,AD⟩)) 217)));have HD:=Ab (LB.alloc (j1 (j2 (Ay ⟨p,0,AU,AD,AD⟩)) 217));have FT:=Ab (AI.new w2 (Ay ⟨p,0,AU,AD,AD⟩) 217);have HI:=Ab (Mo.alloc (j1 (j2 (Ay ⟨p,0,AU,AD,AD⟩)) 217));clear h2 LB Mo;generalize w2.alloc (j1 (j2 (Ay ⟨p,0,AU,AD,AD⟩)) 217)=w3 at h3 HD FT HI⊢;obtain⟨L,MN⟩:∃L,w2.heap.size=L:=⟨_,rfl⟩;rw[MN]at FT MY⊢;clear MN;refine(Ig b o d x E _ h3 HO (Au d x) (Bg h3.lt)).mono ?_;intro e w4 n;cases ht:Fk (Au d x) x with
 |error q=>
  rw[ht]at n;obtain⟨n9,rfl,h4,k4⟩:=n;have C:j9 (G4 d x=.error q):=by show _=_;unfold G4;rw[ht]
  have H:=HD.kept k4 (by simp;omega);have EK:=FT.kept k4 (by simp;omega);have HU:=Ab (HI.trans k4);clear h3 HD FT HI ht k4;have B:=EK.cell 5;have D:=EK.cell 6;have lf:=EK.frozen;have nf:=H.frozen;have W:=H.cell 0;have M:=H.cell 1;have F:=H.cell 2;have Q:=H.cell 3;have T:=H.cell 4;have c5:=H.cell 5;have R:=H.cell 6;have c7:=H.cell 7;have I:=H.cell 8;simp[Ay,Ca,AU,AD]at B D W M F Q T c5 R c7 I;have q1:¬L=N:=by omega
  have q2:¬N=L:=by omega
  have HB:=Ab H;have t:=Ab h4;clear H EK h4;simp only[Aq,AD];go_wp2;rw[C.out];have S:=((HB.zA ⟨L,5,Y⟩ (by simp;omega) (X jI 0)).zA ⟨L,6,Y⟩ (by simp;omega) (O jK)).zF rfl (X J 0) (X J 0) (X J 0) (O ⟨#[]⟩) (U Y 0 0) (X jI 0) (O ⟨#[]⟩) (X jI 0) (O ⟨#[]⟩);refine eX (Ar (P:=prog) (fn:=Tryz.f200) (p:=2) (u:=3) rfl rfl S underlying217 rfl (by kernel_rfl)) rfl ?_;refine⟨n9,Ca,rfl,rfl,?_,?_⟩
  .exact((t.other (p:=⟨L,5,Y⟩) (by simp;omega) (i L (by omega)) _).other (p:=⟨L,6,Y⟩) (by simp;omega) (i L (by omega)) _).zF (by omega) (i N (by omega)) _ _ _ _ _ _ _ _ _
  .have G:=Aa HN;exact((HU.setCell (p:=⟨L,5,Y⟩) (by right;simp;omega) _).setCell (p:=⟨L,6,Y⟩) (by right;simp;omega) _).zF (by right;omega) _ _ _ _ _ _ _ _ _
 |ok r=>
  obtain⟨l,f⟩:=r;rw[ht]at n;obtain⟨rfl,h4,k4⟩:=n;have H:=HD.kept k4 (by simp;omega);have EK:=FT.kept k4 (by simp;omega);have HU:=Ab (HI.trans k4);have HT:=Ab ht;clear h3 HD FT HI k4 ht;have B:=EK.cell 5;have D:=EK.cell 6;have lf:=EK.frozen;simp[Ay,Ca,AU,AD]at B D;have LC:=Ab H;have K9:=Ab EK;have t:=Ab h4;clear H EK h4;simp only[Aq];go_wp2_with fail
  have BA:=Aa i;have G:=Aa HN;have h5:Cm ((w4.setCell ⟨L,5,Y⟩ (X jI l.v)).setCell ⟨L,6,Y⟩ (O l.s)) b o d f E:=by
   exact(t.other (p:=⟨L,5,Y⟩) (by simp;omega) (BA L (by omega)) _).other (p:=⟨L,6,Y⟩) (by simp;omega) (BA L (by omega)) _
  have Jx:=Ab ((LC.zA ⟨L,5,Y⟩ (by simp;omega) (X jI l.v)).zA ⟨L,6,Y⟩ (by simp;omega) (O l.s));have KK:j9 (AI ((w4.setCell ⟨L,5,Y⟩ (X jI l.v)).setCell ⟨L,6,Y⟩ (O l.s)) L (Ay ⟨p,0,AU,l,AD⟩) 217):=(K9.set 5 _).set 6 _;have KA:=Ab ((HU.setCell (p:=⟨L,5,Y⟩) (by right;simp;omega) (X jI l.v)).setCell (p:=⟨L,6,Y⟩) (by right;simp;omega) (O l.s));clear B D lf LC K9 t HU BA G;generalize(w4.setCell ⟨L,5,Y⟩ (X jI l.v)).setCell ⟨L,6,Y⟩ (O l.s)=w5 at h5 Jx KK KA⊢;have H5:=Ab h5;clear h5;refine(Gg b o d f E dX _ H5 (Au d f) (Bg H5.lt) (HO.seen H5.lt dX)).mono ?_;rintro e w6 ⟨rfl,h6,k6⟩;have HZ:=Ab (Jx.kept k6 (by simp;omega));have FP:=Ab (KK.kept k6 (by simp;omega));have HY:=Ab (KA.trans k6);clear H5 Jx KK KA k6;cases s1:BD (Au d f) dX with
  |true=>
   rw[s1]at h6;simp only[if_true]at h6;(have HS:j9 (Mk (Au d f)=V 2):=by show _=_;simp[Mk,s1]);clear s1;have m:=FP.cell 1;have lf:=FP.frozen;simp[Ay]at m;have H6:=Ab h6;clear h6;(go_wp2_with fail);have BA:=Aa i;have G:=Aa HN;have hR:Cm (w6.setCell ⟨L,1,Y⟩ (X J 2)) b o d (f+1) E:=H6.other (p:=⟨L,1,Y⟩) (by simp;omega) (BA L (by omega)) _;have y:j9 (AI (w6.setCell ⟨L,1,Y⟩ (X J 2)) N (Ay Ca) 217):=HZ.zA ⟨L,1,Y⟩ (by simp;omega) _;have z:j9 (AI (w6.setCell ⟨L,1,Y⟩ (X J 2)) L (Ay ⟨p,2,AU,l,AD⟩) 217):=FP.set 1 _;have A:=Ab (HY.setCell (p:=⟨L,1,Y⟩) (by right;simp;omega) (X J 2));clear m lf HZ FP HY BA G H6;generalize w6.setCell ⟨L,1,Y⟩ (X J 2)=w9 at hR y z A⊢;refine(Ig b o d (f+1) E _ hR HO (Au d (f+1)) (Bg hR.lt)).mono ?_;intro e K3 n;clear hR;cases ht2:Fk (Au d (f+1)) (f+1)with
   |error q=>
    rw[ht2]at n;obtain⟨n9,rfl,j,g⟩:=n;(have C:j9 (G4 d x=.error q):=by show _=_;unfold G4;simp only[HT.out,HS.out,ht2]);have a:=y.kept g (by simp;omega);have c:=z.kept g (by simp;omega);have A2:=Ab (A.trans g);clear y z A g ht2 HT HS;have l0:=c.cell 0;have m:=c.cell 1;have l2:=c.cell 2;have l3:=c.cell 3;have l4:=c.cell 4;have B:=c.cell 5;have D:=c.cell 6;have l7:=c.cell 7;have l8:=c.cell 8;have lf:=c.frozen;have nf:=a.frozen;have W:=a.cell 0;have M:=a.cell 1;have F:=a.cell 2;have Q:=a.cell 3;have T:=a.cell 4;have c5:=a.cell 5;have R:=a.cell 6;have c7:=a.cell 7;have I:=a.cell 8;simp[Ay,Ca,AU,AD]at l0 W m M l2 F l3 Q l4 T B c5 D R l7 c7 l8 I;(have q1:¬L=N:=by omega);(have q2:¬N=L:=by omega);have HB:=Ab a;have t:=Ab j;clear a c j;simp only[Aq,AD];go_wp2;rw[C.out];have S:=((HB.zA ⟨L,7,Y⟩ (by simp;omega) (X jI 0)).zA ⟨L,8,Y⟩ (by simp;omega) (O jK)).zF rfl (X J p) (X J 2) (X J 0) (O jK) (U Y 0 0) (X jI l.v) (O l.s) (X jI 0) (O jK);refine eX (Ar (P:=prog) (fn:=Tryz.f200) (p:=2) (u:=3) rfl rfl S underlying217 rfl (by kernel_rfl)) rfl ?_;refine⟨n9,⟨p,2,AU,l,AD⟩,rfl,rfl,?_,?_⟩
    .exact((t.other (p:=⟨L,7,Y⟩) (by simp;omega) (i L (by omega)) _).other (p:=⟨L,8,Y⟩) (by simp;omega) (i L (by omega)) _).zF (by omega) (i N (by omega)) _ _ _ _ _ _ _ _ _
    .have G:=Aa HN;exact((A2.setCell (p:=⟨L,7,Y⟩) (by right;simp;omega) _).setCell (p:=⟨L,8,Y⟩) (by right;simp;omega) _).zF (by right;omega) _ _ _ _ _ _ _ _ _
   |ok r=>
    obtain⟨r,n2⟩:=r;rw[ht2]at n;obtain⟨rfl,j,g⟩:=n;(have C:j9 (G4 d x=.ok (⟨p,2,AU,l,r⟩,n2)):=by show _=_;unfold G4;simp only[HT.out,HS.out,ht2,HP.out]);have a:=y.kept g (by simp;omega);have c:=z.kept g (by simp;omega);have A2:=Ab (A.trans g);clear y z A g ht2 HT HS;have l0:=c.cell 0;have m:=c.cell 1;have l2:=c.cell 2;have l3:=c.cell 3;have l4:=c.cell 4;have B:=c.cell 5;have D:=c.cell 6;have l7:=c.cell 7;have l8:=c.cell 8;have lf:=c.frozen;have nf:=a.frozen;have W:=a.cell 0;have M:=a.cell 1;have F:=a.cell 2;have Q:=a.cell 3;have T:=a.cell 4;have c5:=a.cell 5;have R:=a.cell 6;have c7:=a.cell 7;have I:=a.cell 8;simp[Ay,Ca,AU,AD]at l0 W m M l2 F l3 Q l4 T B c5 D R l7 c7 l8 I;(have q1:¬L=N:=by omega);(have q2:¬N=L:=by omega);have HB:=Ab a;have t:=Ab j;clear a c j;simp only[Aq];go_wp2;rw[C.out];have S:=((HB.zA ⟨L,7,Y⟩ (by simp;omega) (X jI r.v)).zA ⟨L,8,Y⟩ (by simp;omega) (O r.s)).zF rfl (X J p) (X J 2) (X J 0) (O jK) (U Y 0 0) (X jI l.v) (O l.s) (X jI r.v) (O r.s);refine eX (Ar (P:=prog) (fn:=Tryz.f200) (p:=2) (u:=3) rfl rfl S underlying217 rfl (by kernel_rfl)) rfl ?_;refine⟨rfl,?_,?_⟩
    .exact((t.other (p:=⟨L,7,Y⟩) (by simp;omega) (i L (by omega)) _).other (p:=⟨L,8,Y⟩) (by simp;omega) (i L (by omega)) _).zF (by omega) (i N (by omega)) _ _ _ _ _ _ _ _ _
    .have G:=Aa HN;exact((A2.setCell (p:=⟨L,7,Y⟩) (by right;simp;omega) _).setCell (p:=⟨L,8,Y⟩) (by right;simp;omega) _).zF (by right;omega) _ _ _ _ _ _ _ _ _
  |false=>
   rw[s1]at h6;simp only[ev,if_false]at h6;have H6:=Ab h6;clear h6;(go_wp2_with fail);refine(Gg b o d f E dV _ H6 (Au d f) (Bg H6.lt) (HO.seen H6.lt dV)).mono ?_;rintro e w7 ⟨rfl,h7,k7⟩;have H2:=Ab (HZ.kept k7 (by simp;omega));have Go:=Ab (FP.kept k7 (by simp;omega));have H1:=Ab (HY.trans k7);clear H6 HZ FP HY k7;cases s2:BD (Au d f) dV with
   |true=>
    rw[s2]at h7;simp only[if_true]at h7;(have HS:j9 (Mk (Au d f)=V 3):=by show _=_;simp[Mk,s1,s2]);clear s1 s2;have m:=Go.cell 1;have lf:=Go.frozen;simp[Ay]at m;have H7:=Ab h7;clear h7;(go_wp2_with fail);have BA:=Aa i;have G:=Aa HN;have hR:Cm (w7.setCell ⟨L,1,Y⟩ (X J 3)) b o d (f+1) E:=H7.other (p:=⟨L,1,Y⟩) (by simp;omega) (BA L (by omega)) _;have y:j9 (AI (w7.setCell ⟨L,1,Y⟩ (X J 3)) N (Ay Ca) 217):=H2.zA ⟨L,1,Y⟩ (by simp;omega) _;have z:j9 (AI (w7.setCell ⟨L,1,Y⟩ (X J 3)) L (Ay ⟨p,3,AU,l,AD⟩) 217):=Go.set 1 _;have A:=Ab (H1.setCell (p:=⟨L,1,Y⟩) (by right;simp;omega) (X J 3));clear m lf H2 Go H1 BA G H7;generalize w7.setCell ⟨L,1,Y⟩ (X J 3)=w9 at hR y z A⊢;refine(Ig b o d (f+1) E _ hR HO (Au d (f+1)) (Bg hR.lt)).mono ?_;intro e K3 n;clear hR;cases ht2:Fk (Au d (f+1)) (f+1)with
    |error q=>
     rw[ht2]at n;obtain⟨n9,rfl,j,g⟩:=n;(have C:j9 (G4 d x=.error q):=by show _=_;unfold G4;simp only[HT.out,HS.out,ht2]);have a:=y.kept g (by simp;omega);have c:=z.kept g (by simp;omega);have A2:=Ab (A.trans g);clear y z A g ht2 HT HS;have l0:=c.cell 0;have m:=c.cell 1;have l2:=c.cell 2;have l3:=c.cell 3;have l4:=c.cell 4;have B:=c.cell 5;have D:=c.cell 6;have l7:=c.cell 7;have l8:=c.cell 8;have lf:=c.frozen;have nf:=a.frozen;have W:=a.cell 0;have M:=a.cell 1;have F:=a.cell 2;have Q:=a.cell 3;have T:=a.cell 4;have c5:=a.cell 5;have R:=a.cell 6;have c7:=a.cell 7;have I:=a.cell 8;simp[Ay,Ca,AU,AD]at l0 W m M l2 F l3 Q l4 T B c5 D R l7 c7 l8 I;(have q1:¬L=N:=by omega);(have q2:¬N=L:=by omega);have HB:=Ab a;have t:=Ab j;clear a c j;simp only[Aq,AD];go_wp2;rw[C.out];have S:=((HB.zA ⟨L,7,Y⟩ (by simp;omega) (X jI 0)).zA ⟨L,8,Y⟩ (by simp;omega) (O jK)).zF rfl (X J p) (X J 3) (X J 0) (O jK) (U Y 0 0) (X jI l.v) (O l.s) (X jI 0) (O jK);refine eX (Ar (P:=prog) (fn:=Tryz.f200) (p:=2) (u:=3) rfl rfl S underlying217 rfl (by kernel_rfl)) rfl ?_;refine⟨n9,⟨p,3,AU,l,AD⟩,rfl,rfl,?_,?_⟩
     .exact((t.other (p:=⟨L,7,Y⟩) (by simp;omega) (i L (by omega)) _).other (p:=⟨L,8,Y⟩) (by simp;omega) (i L (by omega)) _).zF (by omega) (i N (by omega)) _ _ _ _ _ _ _ _ _
     .have G:=Aa HN;exact((A2.setCell (p:=⟨L,7,Y⟩) (by right;simp;omega) _).setCell (p:=⟨L,8,Y⟩) (by right;simp;omega) _).zF (by right;omega) _ _ _ _ _ _ _ _ _
    |ok r=>
     obtain⟨r,n2⟩:=r;rw[ht2]at n;obtain⟨rfl,j,g⟩:=n;(have C:j9 (G4 d x=.ok (⟨p,3,AU,l,r⟩,n2)):=by show _=_;unfold G4;simp only[HT.out,HS.out,ht2,HP.out]);have a:=y.kept g (by simp;omega);have c:=z.kept g (by simp;omega);have A2:=Ab (A.trans g);clear y z A g ht2 HT HS;have l0:=c.cell 0;have m:=c.cell 1;have l2:=c.cell 2;have l3:=c.cell 3;have l4:=c.cell 4;have B:=c.cell 5;have D:=c.cell 6;have l7:=c.cell 7;have l8:=c.cell 8;have lf:=c.frozen;have nf:=a.frozen;have W:=a.cell 0;have M:=a.cell 1;have F:=a.cell 2;have Q:=a.cell 3;have T:=a.cell 4;have c5:=a.cell 5;have R:=a.cell 6;have c7:=a.cell 7;have I:=a.cell 8;simp[Ay,Ca,AU,AD]at l0 W m M l2 F l3 Q l4 T B c5 D R l7 c7 l8 I;(have q1:¬L=N:=by omega);(have q2:¬N=L:=by omega);have HB:=Ab a;have t:=Ab j;clear a c j;simp only[Aq];go_wp2;rw[C.out];have S:=((HB.zA ⟨L,7,Y⟩ (by simp;omega) (X jI r.v)).zA ⟨L,8,Y⟩ (by simp;omega) (O r.s)).zF rfl (X J p) (X J 3) (X J 0) (O jK) (U Y 0 0) (X jI l.v) (O l.s) (X jI r.v) (O r.s);refine eX (Ar (P:=prog) (fn:=Tryz.f200) (p:=2) (u:=3) rfl rfl S underlying217 rfl (by kernel_rfl)) rfl ?_;refine⟨rfl,?_,?_⟩
     .exact((t.other (p:=⟨L,7,Y⟩) (by simp;omega) (i L (by omega)) _).other (p:=⟨L,8,Y⟩) (by simp;omega) (i L (by omega)) _).zF (by omega) (i N (by omega)) _ _ _ _ _ _ _ _ _
     .have G:=Aa HN;exact((A2.setCell (p:=⟨L,7,Y⟩) (by right;simp;omega) _).setCell (p:=⟨L,8,Y⟩) (by right;simp;omega) _).zF (by right;omega) _ _ _ _ _ _ _ _ _
   |false=>
    rw[s2]at h7;simp only[ev,if_false]at h7;have H7:=Ab h7;clear h7;(go_wp2_with fail);refine(Gg b o d f E dU _ H7 (Au d f) (Bg H7.lt) (HO.seen H7.lt dU)).mono ?_;rintro e w8 ⟨rfl,h8,k8⟩;have H0:=Ab (H2.kept k8 (by simp;omega));have HK:=Ab (Go.kept k8 (by simp;omega));have HV:=Ab (H1.trans k8);clear H7 H2 Go H1 k8;cases s3:BD (Au d f) dU with
    |true=>
     rw[s3]at h8;simp only[if_true]at h8;(have HS:j9 (Mk (Au d f)=V 4):=by show _=_;simp[Mk,s1,s2,s3]);clear s1 s2 s3;have m:=HK.cell 1;have lf:=HK.frozen;simp[Ay]at m;have H8:=Ab h8;clear h8;(go_wp2_with fail);have BA:=Aa i;have G:=Aa HN;have hR:Cm (w8.setCell ⟨L,1,Y⟩ (X J 4)) b o d (f+1) E:=H8.other (p:=⟨L,1,Y⟩) (by simp;omega) (BA L (by omega)) _;have y:j9 (AI (w8.setCell ⟨L,1,Y⟩ (X J 4)) N (Ay Ca) 217):=H0.zA ⟨L,1,Y⟩ (by simp;omega) _;have z:j9 (AI (w8.setCell ⟨L,1,Y⟩ (X J 4)) L (Ay ⟨p,4,AU,l,AD⟩) 217):=HK.set 1 _;have A:=Ab (HV.setCell (p:=⟨L,1,Y⟩) (by right;simp;omega) (X J 4));clear m lf H0 HK HV BA G H8;generalize w8.setCell ⟨L,1,Y⟩ (X J 4)=w9 at hR y z A⊢;refine(Ig b o d (f+1) E _ hR HO (Au d (f+1)) (Bg hR.lt)).mono ?_;intro e K3 n;clear hR;cases ht2:Fk (Au d (f+1)) (f+1)with
     |error q=>
      rw[ht2]at n;obtain⟨n9,rfl,j,g⟩:=n;(have C:j9 (G4 d x=.error q):=by show _=_;unfold G4;simp only[HT.out,HS.out,ht2]);have a:=y.kept g (by simp;omega);have c:=z.kept g (by simp;omega);have A2:=Ab (A.trans g);clear y z A g ht2 HT HS;have l0:=c.cell 0;have m:=c.cell 1;have l2:=c.cell 2;have l3:=c.cell 3;have l4:=c.cell 4;have B:=c.cell 5;have D:=c.cell 6;have l7:=c.cell 7;have l8:=c.cell 8;have lf:=c.frozen;have nf:=a.frozen;have W:=a.cell 0;have M:=a.cell 1;have F:=a.cell 2;have Q:=a.cell 3;have T:=a.cell 4;have c5:=a.cell 5;have R:=a.cell 6;have c7:=a.cell 7;have I:=a.cell 8;simp[Ay,Ca,AU,AD]at l0 W m M l2 F l3 Q l4 T B c5 D R l7 c7 l8 I;(have q1:¬L=N:=by omega);(have q2:¬N=L:=by omega);have HB:=Ab a;have t:=Ab j;clear a c j;simp only[Aq,AD];go_wp2;rw[C.out];have S:=((HB.zA ⟨L,7,Y⟩ (by simp;omega) (X jI 0)).zA ⟨L,8,Y⟩ (by simp;omega) (O jK)).zF rfl (X J p) (X J 4) (X J 0) (O jK) (U Y 0 0) (X jI l.v) (O l.s) (X jI 0) (O jK);refine eX (Ar (P:=prog) (fn:=Tryz.f200) (p:=2) (u:=3) rfl rfl S underlying217 rfl (by kernel_rfl)) rfl ?_;refine⟨n9,⟨p,4,AU,l,AD⟩,rfl,rfl,?_,?_⟩
      .exact((t.other (p:=⟨L,7,Y⟩) (by simp;omega) (i L (by omega)) _).other (p:=⟨L,8,Y⟩) (by simp;omega) (i L (by omega)) _).zF (by omega) (i N (by omega)) _ _ _ _ _ _ _ _ _
      .have G:=Aa HN;exact((A2.setCell (p:=⟨L,7,Y⟩) (by right;simp;omega) _).setCell (p:=⟨L,8,Y⟩) (by right;simp;omega) _).zF (by right;omega) _ _ _ _ _ _ _ _ _
     |ok r=>
      obtain⟨r,n2⟩:=r;rw[ht2]at n;obtain⟨rfl,j,g⟩:=n;(have C:j9 (G4 d x=.ok (⟨p,4,AU,l,r⟩,n2)):=by show _=_;unfold G4;simp only[HT.out,HS.out,ht2,HP.out]);have a:=y.kept g (by simp;omega);have c:=z.kept g (by simp;omega);have A2:=Ab (A.trans g);clear y z A g ht2 HT HS;have l0:=c.cell 0;have m:=c.cell 1;have l2:=c.cell 2;have l3:=c.cell 3;have l4:=c.cell 4;have B:=c.cell 5;have D:=c.cell 6;have l7:=c.cell 7;have l8:=c.cell 8;have lf:=c.frozen;have nf:=a.frozen;have W:=a.cell 0;have M:=a.cell 1;have F:=a.cell 2;have Q:=a.cell 3;have T:=a.cell 4;have c5:=a.cell 5;have R:=a.cell 6;have c7:=a.cell 7;have I:=a.cell 8;simp[Ay,Ca,AU,AD]at l0 W m M l2 F l3 Q l4 T B c5 D R l7 c7 l8 I;(have q1:¬L=N:=by omega);(have q2:¬N=L:=by omega);have HB:=Ab a;have t:=Ab j;clear a c j;simp only[Aq];go_wp2;rw[C.out];have S:=((HB.zA ⟨L,7,Y⟩ (by simp;omega) (X jI r.v)).zA ⟨L,8,Y⟩ (by simp;omega) (O r.s)).zF rfl (X J p) (X J 4) (X J 0) (O jK) (U Y 0 0) (X jI l.v) (O l.s) (X jI r.v) (O r.s);refine eX (Ar (P:=prog) (fn:=Tryz.f200) (p:=2) (u:=3) rfl rfl S underlying217 rfl (by kernel_rfl)) rfl ?_;refine⟨rfl,?_,?_⟩
      .exact((t.other (p:=⟨L,7,Y⟩) (by simp;omega) (i L (by omega)) _).other (p:=⟨L,8,Y⟩) (by simp;omega) (i L (by omega)) _).zF (by omega) (i N (by omega)) _ _ _ _ _ _ _ _ _
      .have G:=Aa HN;exact((A2.setCell (p:=⟨L,7,Y⟩) (by right;simp;omega) _).setCell (p:=⟨L,8,Y⟩) (by right;simp;omega) _).zF (by right;omega) _ _ _ _ _ _ _ _ _
    |false=>
     rw[s3]at h8;simp only[ev,if_false]at h8;have H8:=Ab h8;clear h8;(go_wp2_with fail);(have C:j9 (G4 d x=.error (Au d f).place):=by show _=_;unfold G4;simp[HT.out,Mk,s1,s2,s3]);clear s1 s2 s3;refine(JY b o d f E _ H8 (Au d f) (Bg H8.lt)).mono ?_;rintro e w9 ⟨rfl,k9⟩;have h9:=H8.zJ k9;have LS:=Ab (H0.kept k9 (by simp));have LL:=Ab (HV.trans (k9.mono (by simp)));clear H8 H0 HK HV k9;obtain⟨q,hq⟩:∃q,(Au d f).place=q:=⟨_,rfl⟩;rw[hq]at C⊢;clear hq;have H9:=Ab h9;clear h9;(go_wp2_with fail);refine(FV b o d f E q _ H9).mono ?_;rintro e K3 ⟨rfl,j,g⟩;have BS:=LS.kept g (by simp;omega);have A2:=Ab (LL.trans g);clear LS LL H9 g;have nf:=BS.frozen;have W:=BS.cell 0;have M:=BS.cell 1;have F:=BS.cell 2;have Q:=BS.cell 3;have T:=BS.cell 4;have c5:=BS.cell 5;have R:=BS.cell 6;have c7:=BS.cell 7;have I:=BS.cell 8;simp[Ay,Ca,AU,AD]at W M F Q T c5 R c7 I;have HB:=Ab BS;have t:=Ab j;clear BS j;go_wp2;rw[C.out];have S:=HB.zF rfl (X J 0) (X J 0) (X J 0) (O ⟨#[]⟩) (U Y 0 0) (X jI 0) (O ⟨#[]⟩) (X jI 0) (O ⟨#[]⟩);refine eX (Ar (P:=prog) (fn:=Tryz.f200) (p:=2) (u:=3) rfl rfl S underlying217 rfl (by kernel_rfl)) rfl ?_;refine⟨f,Ca,rfl,rfl,?_,?_⟩
     .exact t.zF (by omega) (i N (by omega)) _ _ _ _ _ _ _ _ _
     .have G:=Aa HN;exact A2.zF (by right;omega) _ _ _ _ _ _ _ _ _
