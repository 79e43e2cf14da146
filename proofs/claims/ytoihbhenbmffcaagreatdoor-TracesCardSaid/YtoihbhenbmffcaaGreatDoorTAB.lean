import Derived.Deep.RegionHeld3
import Derived.Test.YtoihbhenbmffcaaGreatDoorTAA
set_option linter.all false
set_option maxHeartbeats 0
open List renaming length->Z,toArray->j2,replicate->qV
open Option renaming none->Y,some->V
open Go.Value renaming slice->U,int->X,string->O,pointer->j3,agg->oj,bool->q8,ownBlock->qX
open Bool renaming false->K,true->jj
open Go.IntKind renaming i64->J,i32->q7
open Go.Obj renaming cells->j1
open Go.Ending renaming returned->kt
open Or renaming inl->lo,inr->lx
open Go renaming World->ly,Value->ml
open Go.RowKit renaming Hid->nc
open Go.World renaming cell?->oa,ownsRow->oi
open ByteArray renaming empty->q9
open Go.Op renaming bytesLess->qZ
namespace Go.Proofs.YtoihbhenbmffcaaGreatDoor
open Go.RowKit Go.Proofs.Tryz
variable{w v:ly}{s t:zA}{n k m b i:Nat}{P:Program}{I:Int}{z:ml}{y:rc ml}{T:TypeId}{M:rc Nat}
def DN(w:ly)(N:Nat)(s:zA)(pos:Nat):ly:={w with heap:=w.heap.setIfInBounds N (.stringIter s pos)}
def RS{N:Nat}{pos:Nat}(h:N<w.heap.size):(DN w N s pos).heap[N]?=V (.stringIter s pos):=by
 simp[DN,h]
def S6(h:k≠n):(DN w n s m).heap[k]?=w.heap[k]?:=by
 have a:¬n=k:=λe=>h e.symm
 simp[DN,Array.getElem?_setIfInBounds,a]
def Kk(w:ly)(N:Nat)(s:zA)(a:Nat):(DN w N s a).heap.size=w.heap.size:=by simp[DN]
def Es(w:ly)(N:Nat)(s:zA)(a:Nat):Ac [N] w (DN w N s a):=
 ⟨rfl,rfl,rfl,by rw[Kk];exact mP _,λk _ b=>S6 (by simpa using b)⟩
def X9(a:w.heap[n]?=V (.stringIter s m))(b:TypeId)(h:m<s.size):
  (Instr.next (j3 (V ⟨n,0,Y⟩)) jj b).run P w=.ok (.tuple #[q8 jj,X J m,X q7 (Utf8.decode s m).1]) (DN w n s (m+(Utf8.decode s m).2)):=by
 simp only[Instr.next,getObj,setObj,qi,Sem.run,a,Result.andThen,h,if_true];simp[goInt,DN]
def XQ(a:w.heap[n]?=V (.stringIter s m))(b:TypeId)(h:¬m<s.size):
  (Instr.next (j3 (V ⟨n,0,Y⟩)) jj b).run P w=.ok (.tuple #[q8 K]) w:=by
 simp[Instr.next,getObj,Sem.run,a,h]
def JU(s:zA)(a:Nat)(h:a<s.size):1<=(Utf8.decode s a).2:=by
 by_cases b:(s[a]'h).toNat<128
 .rw[pw s a h b];exact mP _
 .exact(qQ s a h (by omega)).2
def Xt(s:zA)(a:Nat):(Utf8.decode s a).2<=4:=by
 unfold Utf8.decode;simp only
 repeat' split
 all_goals simp
def iN(r:Int):0<(Utf8.encode r).size:=by
 unfold Utf8.encode;simp only;generalize(if Utf8.valid r=jj then r.toNat else Utf8.runeError)=c
 repeat' split
 all_goals simp[ByteArray.size]
def Fu(s:zA)(pos:Nat)(ms:rc Be):rc Be:=
 if h:pos<s.size/\1<=(Utf8.decode s pos).2 then have _h1:pos<s.size:=h.1;have _h2:=h.2;Fu s (pos+(Utf8.decode s pos).2) (Ni ms pos (Utf8.decode s pos).1)else ms
def Gi(a:rc Be)(h:n<s.size):Fu s n a=Fu s (n+(Utf8.decode s n).2) (Ni a n (Utf8.decode s n).1):=by
 conv=>lhs;rw[Fu]
 rw[dif_pos ⟨h,JU s n h⟩]
def Qe(a:rc Be)(h:¬n<s.size):Fu s n a=a:=by
 rw[Fu,dif_neg (by omega)]
def JR(m:Be):Be:=if J9 m then m else{m with kind:=0}
def Fp(s:zA):Be:=⟨1,s.size,q9⟩
def DH(s:zA):rc Be:=(Fu s 0 []).map JR++[Fp s]
structure MK(s:zA)(pos:Nat)(ms:rc Be):Prop where
 len:Z ms<=pos
 each:∀m∈ms,m.place<pos/\0<m.text.size/\m.text.size<=4*pos
def MK.lay{b:rc Be}(h:MK s n b)(g:n<k):MK s k (Ni b n I):=by
 have l:=ZX I;have o:=iN I;have d:∀m∈b,m.place<k/\0<m.text.size/\m.text.size<=4*k:=λm c=>by have:=h.each m c;omega
 have j:=h.len;unfold Ni;split
 .exact⟨by omega,d⟩
 .split
  .rename_i m c;have f:=List.mem_of_getLast? c;have i:=h.each m f;split
   .refine⟨?_,λx a=>?_⟩
    ·(have:b≠[]:=by intro e;rw[e]at c;simp at c);have:0<Z b:=List.length_pos_iff.2 this;simp;omega
    .rcases mF.1 a with a|a
     .exact d x (List.dropLast_subset b a)
     .simp only[my]at a;subst a;simp only[mH];omega
   .refine⟨by simp;omega,λx a=>?_⟩;rcases mF.1 a with a|a
    .exact d x a
    .simp only[my]at a;subst a;simp only[CR];omega
  .refine⟨by simp;omega,λx a=>?_⟩;rcases mF.1 a with a|a
   .exact d x a
   .simp only[my]at a;subst a;simp only[CR];omega
def GK(T:rc Be)(k:Nat):rc Be:=(T.take k).map JR++T.drop k
def JS(T:rc Be)(k:Nat)(a:k<=Z T):Z (GK T k)=Z T:=by simp[GK];omega
def PX{T:rc Be}(a:k<Z T):GK T k=(T.take k).map JR++T[k]::T.drop (k+1):=by
 unfold GK;rw[mQ a]
def YN{T:rc Be}(a:k<Z T):GK T (k+1)=(T.take k).map JR++JR T[k]::T.drop (k+1):=by
 unfold GK;rw[mx a,nk,nA];rfl
def bV(b c:rc Be)(m:Be)(n:Nat)(d:Z b=n):((b++m::c).flatMap Bu).set (n*3) (X J 0)=(b++{m with kind:=0}::c).flatMap Bu:=by
 subst d;have e:Z (b.flatMap Bu)=Z b*3:=by
  induction b with
  |nil=>rfl
  |cons a l ih=>rw[mX,mM,ih,G3,mL];omega
 simp only[mY,mX];rw[qM _ _ (by omega),e];simp[Bu]
set_option maxRecDepth 100000
theorem ax(s:zA)(w:ly)(hs:s.size<=300):
  Calls prog 114 #[O s] w λe w'=>∃v,e=kt v/\oi w' (w.heap.size+1) 206 3 v (Z (DH s)) ((DH s).flatMap Bu)/\Ac [] w w':=by
 obtain⟨i0,HH,FF,HK,HA⟩:=nC Tryz.yD;have H1:∀(x:Bool) (w:ly),(Op.unary .not (q8 x)).run prog w=.ok (q8 (!x)) w:=λ_ _=>rfl
 go_enter func114,ntmps114;go_wp2;obtain⟨T,hT⟩:=rd (Fu s 0 []);have HT:=Ab hT;clear hT
 go_loopg [3] s.size (λgk o wr=>∃(pos:Nat) (b:rc Be),gk=s.size-pos/\pos<=s.size+4/\nc (Fu s pos b=T/\MK s pos b)/\wr.heap[w.heap.size]?=V (.stringIter s pos)/\oi wr (w.heap.size+1) 206 3 o (Z b) (b.flatMap Bu)/\Ac [] w wr/\w.heap.size+1<=wr.heap.size)
 case atStart=>
  exact⟨0,[],by simp,by omega,⟨HT,⟨by simp,by simp⟩⟩,World.iter_heap w s 0,mS _ _ _ _,(re _ _).alloc _,by simp[World.iter]⟩
 case round=>
  obtain⟨pos,b,EK,HR,p,BT,d,j,r⟩:=hrel;have HG:=Ab EK;have S:=Ab BT;clear EK BT;obtain⟨ad,AR,rfl⟩:=Al d;by_cases F:pos<s.size
  .obtain⟨u,a,E⟩:∃u a,Utf8.decode s pos=(u,a):=⟨_,_,rfl⟩;(have H2:a<=4:=by have:=Xt s pos;rw[E]at this;exact this);(have H0:1<=a:=by have:=JU s pos F;rw[E]at this;exact this);have AB:∀z,(Instr.next (j3 (V ⟨w.heap.size,0,Y⟩)) jj z).run prog wr=.ok (.tuple #[q8 jj,X J pos,X q7 u]) (DN wr w.heap.size s (pos+a)):=by
    intro z;have h:=X9 (P:=prog) S z F;rw[E]at h;exact h
   have B:=Ad d (Es wr w.heap.size s (pos+a));have A1:=Ab (RS (w:=wr) (N:=w.heap.size) (s:=s) (pos:=pos+a) (by omega));(have AH:w.heap.size+1<=(DN wr w.heap.size s (pos+a)).heap.size:=by rw[Kk];exact r);have A:Ac [] w (DN wr w.heap.size s (pos+a)):=j.trans' (Es wr w.heap.size s (pos+a)) (by simp);have HL:nc (Fu s (pos+a) (Ni b pos u)=T/\MK s (pos+a) (Ni b pos u)):=by
    refine⟨?_,p.out.2.lay (by omega)⟩;have h:=p.out.1;rw[Gi b F,E]at h;exact h
   (have FW:Z b<=1000000:=by have:=p.out.2.len;omega);(have EX:nc (∀m∈b,m.place<=1000000/\m.text.size<=1000000):=λm f=>by have:=p.out.2.each m f;omega);clear E d j S;generalize DN wr w.heap.size s (pos+a)=w2 at AB B A1 AH A;(go_wp2_with fail);clear AB;refine(iO _ b pos u (w.heap.size+1) _ AH B FW (by omega) EX).mono ?_;rintro e M ⟨v3,rfl,FL,n⟩;have E0:=Ab ((n.block w.heap.size (by omega)).trans A1);have Go:Ac [] w M:=⟨n.os.trans A.os,n.tape.trans A.tape,n.output.trans A.output,nD A.size n.size,λk y _=>(n.block k (by omega)).trans (A.block k y (by simp))⟩;have Ha:w.heap.size+1<=M.heap.size:=nD AH n.size;clear n A A1 B AH;go_wp2_with fail
   go_roundg (s.size-(pos+a))
   case measure=>have:=Aa HG;omega
   case rel=>exact⟨pos+a,Ni b pos u,rfl,by omega,HL,E0,FL,Go,Ha⟩
  ·(have AB:∀z,(Instr.next (j3 (V ⟨w.heap.size,0,Y⟩)) jj z).run prog wr=.ok (.tuple #[q8 K]) wr:=λz=>XQ (P:=prog) S z F);have L:nc (b=T/\MK s pos b):=⟨by have h:=p.out.1;rwa [Qe b F]at h,p.out.2⟩;clear S p;have I:=L.out.1;(have HB:nc (∀m∈T,m.text.size<=1000000/\0<m.text.size):=λm f=>by have:=L.out.2.each m (by rw[I];exact f);omega);(have HQ:Z T<=400:=by have:=L.out.2.len;rw[I]at this;omega);rw[I]at d⊢;clear L I;(have HC:nc (DH s=T.map JR++[Fp s]):=by show _=_;unfold DH;rw[Aa HT]);clear HT HG;go_wp2;clear AB
   go_loopw [19] (λi wq=>∃k:Nat,i=X J k/\k<=Z T/\oi wq (w.heap.size+1) 206 3 (U ad (Z T) AR) (Z T) ((GK T k).flatMap Bu)/\Ac [] w wq/\w.heap.size+1<=wq.heap.size) (λi _=>Z T-(intOf i).toNat)
   case atStart=>exact⟨0,rfl,mO _,by simpa[GK] using d,j,r⟩
   case round=>
    clear d j r;obtain⟨k,rfl,y,d,j,r⟩:=hrel;by_cases l:k<Z T
    ·(have ES:oi wr (w.heap.size+1) 206 3 (U ad (Z T) AR) (Z (GK T k)) ((GK T k).flatMap Bu):=by rw[JS T k y];exact d);obtain⟨g,HX,he,hc,Q⟩:=AC ES (λc _=>G3 c) k (by rw[JS T k y];exact l);simp only[mu]at he;obtain⟨rfl,FT,rfl⟩:=he;clear FT;obtain⟨m,f⟩:=rd (T[k]);have BS:∀h,(GK T k)[k]'h=m:=by
      intro h;have e:(GK T k)[k]?=V m:=by
       (have hl:Z ((T.take k).map JR)=k:=by simp;omega);rw[PX l,px (by omega),hl,Nat.sub_self,f];rfl
      rw[mG h]at e;exact pH e
     have G:=Q k (by rw[JS T k y];exact l) 0 (by omega);have R:=Q k (by rw[JS T k y];exact l) 1 (by omega);have H:=Q k (by rw[JS T k y];exact l) 2 (by omega);rw[BS]at G R H;simp[Bu]at G R H;have EM:=HB.out m (by rw[<-f];exact mw l);have W:=WA m wr EM.1 (λ_=>EM.2);simp only[Bu]at W;have HW:=Ab W;have D:nc (GK T k=(T.take k).map JR++m::T.drop (k+1)/\GK T (k+1)=(T.take k).map JR++JR m::T.drop (k+1)):=⟨by rw[PX l,f],by rw[YN l,f]⟩;clear Q BS ES W f hc;(go_wp2_with fail);refine HW.mono ?_;rintro e w1 ⟨rfl,C⟩;have Ax:=Ad d C;have BA:=j.trans C;have B9:w.heap.size+1<=w1.heap.size:=nD r C.size;cases hwh:J9 m with
     |true=>
      (have HN:nc (GK T (k+1)=GK T k):=by show _=_;rw[D.out.1,D.out.2];simp[JR,hwh]);clear D HW C G R H d j r;go_wp2
      go_roundw
      case rel=>exact⟨k+1,by go_num,by omega,by rw[HN.out];exact Ax,BA,B9⟩
      case measure=>simp[intOf];omega
     |false=>
      have FB:=Ax.lt g rfl;have HV:oa w1 ⟨g,k*3,Y⟩=V (X J m.kind):=by
       rw[World.cell?_of_block (w:=wr) (C.block g (d.lt g rfl).2 (by simp))];exact G
      have H3:=Ip Ax (k*3);have HN:nc (((GK T k).flatMap Bu).set (k*3) (X J 0)=(GK T (k+1)).flatMap Bu):=by
       show _=_;rw[D.out.1,D.out.2,bV _ _ _ k (by simp;omega)];simp[JR,hwh]
      clear D HW C G R H d j r;go_wp2
      go_roundw
      case rel=>
       refine⟨k+1,by go_num,by omega,?_,BA.setCell (lx (by have:=FB.1;simp;omega)) _,by simpa using B9⟩;rw[<-HN.out];exact BN Ax (k*3) _
      case measure=>simp[intOf];omega
    ·(have FO:k=Z T:=by omega);have B:oi wr (w.heap.size+1) 206 3 (U ad (Z T) AR) (Z T) ((T.map JR).flatMap Bu):=by
      (have e:GK T k=T.map JR:=by unfold GK;rw[mz (by omega),ni (by omega),np]);rw[e]at d;exact d
     clear FO d;go_wp2_with (at_builtin;refine mZ _ rfl (.tmp 33) (.tmp 37) _ rfl (w.heap.size+1) 206 i0 _ 3 32 underlying200 HH FF HK HA rfl (by omega) (U ad (Z T) AR) (Z T) ((T.map JR).flatMap Bu) rfl (mE B _) ⟨wr.heap.size,0,Y⟩ 1 1 (Bu (Fp s)) rfl rfl (mW (m7 wr _)) (by simp[Value.oneCell',Bu]) (by omega) (by unfold maxLen;omega) (by omega) (by simp;omega) (wr.heap.size+1) (by simp) ?_;intro g1 HY M HD B2 EY FA)
     have HP:Ac [] w M:=(j.alloc _).grown B2 (λq hq=>lx (by have:=(B.lt q hq).1;omega));clear B2 EY FA;go_wp2;go_ret;rw[HC.out];refine⟨_,rfl,?_,HP⟩;simpa using HD
structure Cw(w:ly)(b:Nat)(mv:ml)(ms:rc Be)(nx:Nat)(br:Int):Prop where
 zO:AI w b [mv,X J nx,X J br] 203
 row:oi w 0 206 3 mv (Z ms) (ms.flatMap Bu)
 ap:mv.ownBlock≠V b
 lt:nx<Z ms
 len:Z ms<=1000
def Cw.kept{w w':ly}{a:rc Be}{j nx':Nat}{d br':Int}(h:Cw w b z a j d)(k:Ac [b] w w')(f:AI w' b [z,X J nx',X J br'] 203)(e:nx'<Z a):Cw w' b z a nx' br':=
 ⟨f,Ag h.row k (λi g c=>by simp at c;subst c;exact h.ap g),h.ap,e,h.len⟩
def Cw.zL{a:rc Be}(h:Cw w b z a n I)(k:Ac [] w v):Cw v b z a n I:=
 ⟨h.zO.kept k,Ad h.row k,h.ap,h.lt,h.len⟩
def Cw.cells{a:rc Be}(h:Cw w b z a n I):∃g e,z=U (V ⟨g,0,Y⟩) (Z a) e/\oa w ⟨b,0,Y⟩=V z/\oa w ⟨b,1,Y⟩=V (X J n)/\oa w ⟨b,2,Y⟩=V (X J I)/\
  ∀j (d:j<Z a),oa w ⟨g,j*3,Y⟩=V (X J a[j].kind)/\oa w ⟨g,j*3+1,Y⟩=V (X J a[j].place)/\oa w ⟨g,j*3+2,Y⟩=V (O a[j].text):=by
 obtain⟨g,e,m,_,f⟩:=AC h.row (λc _=>G3 c) n h.lt;refine⟨g,e,m,h.zO.cell 0,h.zO.cell 1,h.zO.cell 2,λj d=>?_⟩;have k:=f j d 0 (by omega);have l:=f j d 1 (by omega);have i:=f j d 2 (by omega);simp[Bu]at k l i;exact⟨k,l,i⟩
set_option maxRecDepth 512
theorem J6(b:Nat)(j:ml)(c:rc Be)(a:Nat)(k:Int)(w:ly)(h:Cw w b j c a k)(m:Be)(d:c[a]'h.lt=m):
  Calls prog 161 #[j3 (V ⟨b,0,Y⟩)] w λe l=>e=kt (X J m.place)/\Ac [] w l:=by
 obtain⟨g,s,rfl,r,q,_,f⟩:=h.cells;obtain⟨n,o,i⟩:=f a h.lt;rw[d]at o;have p:(a:Int)<(Z c:Int):=by have:=h.lt;omega
 clear n i f d h;go_enter func161,ntmps161;go_wp2
 go_quiet (fail)
 go_wp2;go_ret;exact⟨rfl,(re _ _).drewN _⟩
theorem F1(b:Nat)(c:ml)(a:rc Be)(f:Nat)(i p:Int)(w:ly)(h:Cw w b c a f i):
  Calls prog 160 #[j3 (V ⟨b,0,Y⟩),X J p] w λe j=>e=kt (q8 K)/\Cw j b c a f p/\Ac [b] w j:=by
 have k:=h.zO.cell 2;have m:=h.zO.frozen 2;simp at k;have l:=h;have d:nc (Cw w b c a f i):=h;clear h l;go_enter func160,ntmps160;go_wp2;go_ret;have g:Ac [b] w (w.setCell ⟨b,2,Y⟩ (X J p)):=(re _ _).setCell (by simp) _;exact⟨rfl,d.out.kept g (d.out.zO.set 2 _) d.out.lt,g⟩
def B4(m:Be)(t:zA):Bool:=m.kind==5&&(m.text.toList==t.toList)
set_option maxRecDepth 100000
theorem UG(b:Nat)(s:ml)(d:rc Be)(a:Nat)(p:Int)(t:zA)(w:ly)(h:Cw w b s d a p)(m:Be)(k:d[a]'h.lt=m):
  Calls prog 159 #[j3 (V ⟨b,0,Y⟩),O t] w λe c=>e=kt (q8 (B4 m t))/\Ac [] w c:=by
 obtain⟨g,r,rfl,q,o,_,n⟩:=h.cells;obtain⟨l,i,j⟩:=n a h.lt;rw[k]at l i j;have u:(a:Int)<(Z d:Int):=by have:=h.lt;omega
 have y:(0:Int)<=(a:Int):=by omega
 clear n k h;have z:=World.new_ne w _ q;have A:=World.new_ne w _ o;have B:=World.new_ne w _ l;have v:=World.new_ne w _ i;have x:=World.new_ne w _ j;go_enter func159,ntmps159;go_wp2_with fail
 go_region_held3 (λc=>oa c ⟨b,0,Y⟩=V (U (V ⟨g,0,Y⟩) (Z d) r)/\oa c ⟨b,1,Y⟩=V (X J a)/\oa c ⟨g,a*3,Y⟩=V (X J m.kind)/\oa c ⟨g,a*3+1,Y⟩=V (X J m.place)/\oa c ⟨g,a*3+2,Y⟩=V (O m.text)) (go_keep) (fail)
 cases hk:(m.kind==5)with
 |true=>
  have f:nc (B4 m t=(m.text.toList==t.toList)):=by show _=_;simp[B4,hk]
  go_wp2;all_goals
   go_ret;refine⟨By ?_,?_⟩
   .rw[f.out]
   .repeat (first|refine Ac.drew ?_|refine Ac.setCell ?_ (by simp) _|refine Ac.alloc ?_ _|refine Ac.drewN ?_ _)
    exact re _ _
 |false=>
  have f:nc (B4 m t=K):=by show _=_;simp[B4,hk]
  go_wp2;all_goals
   go_ret;refine⟨By ?_,?_⟩
   .rw[f.out]
   .repeat (first|refine Ac.drew ?_|refine Ac.setCell ?_ (by simp) _|refine Ac.alloc ?_ _|refine Ac.drewN ?_ _)
    exact re _ _
set_option maxRecDepth 512
theorem Ho(b:Nat)(o:ml)(f:rc Be)(c:Nat)(l:Int)(t:zA)(w:ly)(h:Cw w b o f c l)(m:Be)(s:f[c]'h.lt=m)(p:B4 m t=jj->c+1<Z f):
  Calls prog 162 #[j3 (V ⟨b,0,Y⟩),O t] w λe q=>e=kt (q8 (B4 m t))/\Cw q b o f (if B4 m t then c+1 else c) l/\Ac [b] w q:=by
 have d:=Ab (UG b o f c l t w h m s);have j:=Ab h;have B:=h.len;have y:=h.lt;clear s h;have A:∀(x:Bool) (w:ly),(Op.unary .not (q8 x)).run prog w=.ok (q8 (!x)) w:=λ_ _=>rfl
 cases hs:B4 m t with
 |true=>
  have u:=Ab (p hs);rw[hs]at d;clear hs p;simp only[if_true];go_enter func162,ntmps162;go_wp2_with fail
  refine d.mono ?_;rintro e k ⟨rfl,a⟩;have g:=j.zL a;have i:=Ab g;have v:=g.zO.cell 1;have z:=g.zO.frozen 1;simp at v;have n:=a.mono (N:=[b]) (by simp);clear g a d j;go_wp2;go_ret;have r:Ac [b] k (k.setCell ⟨b,1,Y⟩ (X J ((c:Int)+1))):=(re _ _).setCell (by simp) _;exact⟨rfl,i.kept r (i.zO.set 1 _) u,n.trans r⟩
 |false=>
  rw[hs]at d;clear hs p;simp only[mC,if_false];go_enter func162,ntmps162;go_wp2_with fail
  refine d.mono ?_;rintro e k ⟨rfl,a⟩;have i:=Ab (j.zL a);have n:=a.mono (N:=[b]) (by simp);clear a d j;go_wp2;go_ret;exact⟨rfl,i,n⟩
theorem OS(b:Nat)(g:ml)(c:rc Be)(a:Nat)(f:Int)(t:zA)(w:ly)(h:Cw w b g c a f)(m:Be)(j:c[a]'h.lt=m)(r:B4 m t=jj->a+1<Z c):
  Calls prog 163 #[j3 (V ⟨b,0,Y⟩),O t] w λe n=>e=kt (q8 (B4 m t))/\Cw n b g c (if B4 m t then a+1 else a) (if B4 m t then f else m.place)/\Ac [b] w n:=by
 have i:=Ab (Ho b g c a f t w h m j r);have v:nc (∀h:a<Z c,c[a]=m):=λ_=>j
 clear j r h;cases hs:B4 m t with
 |true=>
  rw[hs]at i;have z:=Ab hs;clear hs;go_enter func163,ntmps163;go_wp2_with fail
  refine i.mono ?_;rintro e s ⟨rfl,d,l⟩;have k:=Ab d;clear d;go_wp2;go_ret;exact⟨rfl,k,l⟩
 |false=>
  rw[hs]at i;clear hs;go_enter func163,ntmps163;go_wp2_with fail
  refine i.mono ?_;rintro e s ⟨rfl,d,l⟩;simp only[mC,if_false]at d⊢;go_wp2_with fail
  refine(J6 b g c a f _ d m (v _)).mono ?_;rintro e A ⟨rfl,p⟩;have o:=d.zL p;go_wp2_with fail
  refine(F1 b g c a f m.place _ o).mono ?_;rintro e y ⟨rfl,q,u⟩;have k:=Ab q;have x:=(l.trans (p.mono (by simp))).trans u;clear d o q;go_wp2;go_ret;exact⟨rfl,k,x⟩
def Jw(s:zA):Bool:=qZ s.toList [97]
theorem Ob(s:zA)(w:ly):Calls prog 144 #[O s] w λe a=>e=kt (q8 (Jw s))/\a=w:=by
 go_enter func144,ntmps144;go_wp2;all_goals go_ret
 all_goals exact⟨rfl,rfl⟩
def Ro:zA:=⟨#[48]⟩
def Mx:Nat->zA->zA
 |0,s=>s
 |k+1,s=>if s.size<3 then Mx k (Ro++s)else s
def AD(s:zA):zA:=if Jw s then Mx 3 s else s
set_option maxRecDepth 100000
theorem Wj(s:zA)(w:ly):Calls prog 217 #[O s] w λe b=>e=kt (O (AD s))/\b=w:=by
 have f:=Ob s w;by_cases d:Jw s=jj
 .rw[d]at f;have c:AD s=Mx 3 s:=by unfold AD;simp[d]
  rw[c];generalize hTe:Mx 3 s=T;have j:=Ab hTe;clear hTe c d;go_enter func217,ntmps217;go_wp2_with (go_at_call 144;refine f.mono ?_;rintro e b ⟨rfl,rfl⟩)
  rename_i b _ _
  go_loopg [0] 3 (λgk o wr=>∃(t:zA),o=O t/\nc (Mx gk t=T)/\3<=t.size+gk/\wr=b)
  case atStart=>exact⟨s,rfl,j,by omega,rfl⟩
  case round=>
   obtain⟨t,rfl,g,m,rfl⟩:=hrel;by_cases i:t.size<3
   ·(have l:(t.size:Int)<3:=by omega);go_wp2;(have n:(Ro++t).size=t.size+1:=by rw[mH];show 1+t.size=_;omega);obtain⟨k,rfl⟩:∃k,gk=k+1:=⟨gk-1,by omega⟩;have a:=Aa g;rw[Mx,mK i]at a
    go_roundg k
    case measure=>omega
    case rel=>exact⟨Ro++t,rfl,a,by omega,rfl⟩
   ·(have l:¬(t.size:Int)<3:=by omega);have c:nc (t=T):=by
     show t=T;have a:=Aa g;cases gk with
     |zero=>exact a
     |succ k=>rw[Mx,mJ i]at a;exact a
    go_wp2;go_ret;exact⟨by rw[<-Aa c];rfl,rfl⟩
 .have h:Jw s=K:=by simpa using d
  rw[h]at f;go_enter func217,ntmps217;go_wp2_with (go_at_call 144;refine f.mono ?_;rintro e b ⟨rfl,rfl⟩)
  all_goals go_ret
  all_goals refine⟨?_,rfl⟩
  all_goals simp[AD,h]
def fN:rc UInt8->Bool
 |[]=>K
 |[c]=>decide (48<=c.toNat/\c.toNat<=57)
 |[c,_]=>decide (49<=c.toNat/\c.toNat<=57)
 |[c,_,_]=>decide (49<=c.toNat/\c.toNat<=57)
 |_=>K
def Ek(s:zA):zA:=if s.size=0 then s else if Jw s then(if fN s.toList then Mx 3 s else⟨#[0]⟩++s)else s
def Jr:rc UInt8->rc UInt8
 |[]=>[]
 |c::r=>if c.toNat<97 then(if fN (c::r)then qV (3-Z (c::r)) 48++(c::r)else 0::c::r)else c::r
def CK(a b:zA):(a++b).toList=a.toList++b.toList:=by
 rw[ng,ng,ng,qN,Array.toList_append]
def A5(a:zA):a.size=Z a.toList:=by
 rw[ng];rfl
def toList_inj{a b:zA}(h:a.toList=b.toList):a=b:=by
 rw[ng,ng]at h;exact ByteArray.ext (Array.toList_inj.1 h)
def Q8:Ro.toList=[48]:=by rw[ng];rfl
def Nn:∀(k:Nat) (s:zA),s.size<=3->3<=s.size+k->(Mx k s).toList=qV (3-s.size) 48++s.toList
 |0,s,h,hk=>by
  rw[show 3-s.size=0 by omega];rfl
 |k+1,s,h,hk=>by
  rw[Mx];split
  .rename_i b;(have a:(Ro++s).size=s.size+1:=by rw[A5,CK,Q8,A5];simp);rw[Nn k (Ro++s) (by omega) (by omega),a,CK,Q8,show 3-s.size=(3-(s.size+1))+1 by omega,List.replicate_succ'];simp
  .rw[show 3-s.size=0 by omega];rfl
def Fy(c:UInt8)(r:rc UInt8):qZ (c::r) [97]=decide (c.toNat<97):=by
 have e:qZ r []=K:=by cases r<;>rfl
 simp only[qZ,e];by_cases h:c.toNat<97
 .have:c<97:=h;simp[h,this]
 .have:¬c<97:=h;simp[h,this]
def PV(s:zA):(Ek s).toList=Jr s.toList:=by
 unfold Ek Jw;cases hs:s.toList with
 |nil=>
  have:s.size=0:=by rw[A5,hs];rfl
  rw[mK this,hs];rfl
 |cons c r=>
  have a:s.size=Z (c::r):=by rw[A5,hs]
  rw[mJ (by rw[a];simp),Fy];unfold Jr;by_cases h:c.toNat<97
  .simp only[h,decide_true,if_true];cases ho:fN (c::r)with
   |true=>
    simp only[if_true];have b:Z (c::r)<=3:=by
     match r,ho with
     |[],_=>simp
     |[_],_=>simp
     |[_,_],_=>simp
     |_::_::_::_,ho=>simp[fN]at ho
    rw[Nn 3 s (by omega) (by omega),hs,a]
   |false=>
    simp only[mC,if_false];rw[CK,hs];rw[show(⟨#[0]⟩:zA).toList=[0] from by rw[ng]]
    rfl
  .simp only[h,qz,mC,if_false];exact hs
def FH{l:rc UInt8}(h:fN l=jj):(∃c:UInt8,l=[c]/\48<=c.toNat/\c.toNat<=57)\/(∃c d:UInt8,l=[c,d]/\49<=c.toNat/\c.toNat<=57)\/(∃c d e:UInt8,l=[c,d,e]/\49<=c.toNat/\c.toNat<=57):=by
 match l,h with
 |[],h=>simp[fN]at h
 |[c],h=>exact lo ⟨c,rfl,by simpa[fN] using h⟩
 |[c,d],h=>exact lx (lo ⟨c,d,rfl,by simpa[fN] using h⟩)
 |[c,d,e],h=>exact lx (lx ⟨c,d,e,rfl,by simpa[fN] using h⟩)
 |_::_::_::_::_,h=>simp[fN]at h
def Oi(l:rc UInt8):(l=[]/\Jr l=[])\/(∃c r,l=c::r/\97<=c.toNat/\Jr l=c::r)\/(∃c r,l=c::r/\Jr l=0::c::r)\/
  (∃c,l=[c]/\48<=c.toNat/\c.toNat<=57/\Jr l=[48,48,c])\/(∃c d,l=[c,d]/\49<=c.toNat/\c.toNat<=57/\Jr l=[48,c,d])\/(∃c d e,l=[c,d,e]/\49<=c.toNat/\c.toNat<=57/\Jr l=[c,d,e]):=by
 cases l with
 |nil=>exact lo ⟨rfl,rfl⟩
 |cons c r=>
  rw[show Jr (c::r)=if c.toNat<97 then(if fN (c::r)then qV (3-Z (c::r)) 48++(c::r)else 0::c::r)else c::r from rfl]
  by_cases h:c.toNat<97
  .rw[mK h];cases ho:fN (c::r)with
   |true=>
    rw[mK rfl];refine lx (lx (lx ?_));rcases FH ho with⟨f,e,a,b⟩|⟨f,d,e,a,b⟩|⟨f,d,g,e,a,b⟩
    .rw[e];exact lo ⟨f,rfl,a,b,rfl⟩
    .rw[e];exact lx (lo ⟨f,d,rfl,a,b,rfl⟩)
    .rw[e];exact lx (lx ⟨f,d,g,rfl,a,b,rfl⟩)
   |false=>
    rw[mJ (by simp)];exact lx (lx (lo ⟨c,r,rfl,rfl⟩))
  .rw[mJ h];exact lx (lo ⟨c,r,rfl,by omega,rfl⟩)
def Y4{a b:rc UInt8}(h:Jr a=Jr b):a=b:=by
 have z:(48:UInt8).toNat=48:=rfl;have o:(0:UInt8).toNat=0:=rfl;rcases Oi a with⟨rfl,e⟩|⟨c,r,rfl,j,e⟩|⟨c,r,rfl,e⟩|⟨c,rfl,j,m,e⟩|⟨c,d,rfl,j,m,e⟩|⟨c,d,f,rfl,j,m,e⟩<;>
  rcases Oi b with⟨rfl,g⟩|⟨i,n,rfl,k,g⟩|⟨i,n,rfl,g⟩|⟨i,rfl,k,l,g⟩|⟨i,p,rfl,k,l,g⟩|⟨i,p,s,rfl,k,l,g⟩<;>
  rw[e]at h<;>(try rw[g]at h)<;>simp only[oA,reduceCtorEq,List.nil_eq,and_true]at h⊢
 all_goals first
  |exact h
  |exact h.2
  |exact h.2.2
  |(exfalso;have q:=congrArg UInt8.toNat h.1;clear e g;omega)
  |(exfalso;have q:=congrArg UInt8.toNat h.2.1;clear e g;omega)
def Zz(h:Ek s=Ek t):s=t:=
 toList_inj (Y4 (by rw[<-PV,<-PV,h]))
def Jj(t:zA)(h:0<t.size):∃r,t.toList=t[0]::r/\Z t.toList=t.size:=by
 rw[ng];obtain⟨⟨l⟩⟩:=t;cases l with
 |nil=>exact absurd h (by show¬(0<0);omega)
 |cons c r=>exact⟨r,rfl,rfl⟩
def ZI(h:0<t.size)(c:97<=t[0].toNat):AD t=Ek t:=by
 obtain⟨r,a,d⟩:=Jj t h;have b:Jw t=false:=by
  unfold Jw;rw[a,Fy];simp;omega
 unfold AD Ek;rw[b,mJ (show¬t.size=0 by omega)];simp
def cU(h:0<t.size)(i:48<=t[0].toNat)(f:t[0].toNat<=57)(j:t.size<=3)(g:t[0].toNat=48->t.size=1):AD t=Ek t:=by
 obtain⟨r,b,a⟩:=Jj t h;have e:Jw t=jj:=by
  unfold Jw;rw[b,Fy];simp;omega
 have d:fN t.toList=jj:=by
  rw[b]at a⊢;generalize t[0]=c at*
  match r,a with
  |[],_=>simp[fN];omega
  |[_],a=>simp at a;simp[fN];omega
  |[_,_],a=>simp at a;simp[fN];omega
  |_::_::_::_,a=>simp at a;omega
 unfold AD Ek;rw[e,d,mJ (show¬t.size=0 by omega)];simp
structure AZ where
 v:Int
 s:zA
def Ar(t:AZ):rc ml:=[X q7 t.v,O t.s]
def A3:AZ:=⟨0,q9⟩
theorem PO(b:Nat)(B:ml)(c:rc Be)(a:Nat)(t:Int)(w:ly)(h:Cw w b B c a t)(m:Be)(P:c[a]'h.lt=m)(A:(m.kind==2)=jj\/(m.kind==2)=K/\(m.kind==3)=jj)(T:a+1<Z c):
  Calls prog 193 #[j3 (V ⟨b,0,Y⟩)] w λe d=>e=kt (.tuple #[oj (j2 (Ar ⟨0,AD m.text⟩)),q8 jj])/\Cw d b B c (a+1) t/\Ac [b] w d:=by
 have HN:=Ab T;clear T;have HM:nc (∀h:a<Z c,c[a]=m):=λ_=>P
 have W:=h.lt;have FL:(a:Int)<(Z c:Int):=by omega
 have FT:(0:Int)<=(a:Int):=by omega
 have hl:=h.len;have B9:=h.zO.lt;have E:∀k,B.ownBlock=V k->k<w.heap.size:=λk hk=>(h.row.lt k hk).2
 have u:=h.zL ((re [] w).alloc (j1 #[X q7 0,O ⟨#[]⟩] 215));have q:=rf w [X q7 0,O ⟨#[]⟩] 215;have x:=(re [b] w).alloc (j1 [X q7 0,O ⟨#[]⟩].toArray 215);clear P h;go_enter func193,ntmps193;go_wp2_with fail
 generalize w.alloc (j1 [X q7 0,O ⟨#[]⟩].toArray 215)=w1 at u q x⊢;obtain⟨f,z⟩:=rd w.heap.size;rw[z]at q B9 E⊢;have N:=Ab z;clear z;obtain⟨g,D,rfl,G,M,b2,L⟩:=u.cells;have FA:g<f:=E g rfl;clear E;obtain⟨C,y,v⟩:=L a W;rw[(Aa HM) W]at C y v;clear L b2;have n0:=World.new_ne w1 _ G;have n1:=World.new_ne w1 _ M;have n2:=World.new_ne w1 _ C;have n3:=World.new_ne w1 _ y;have n4:=World.new_ne w1 _ v;have HH:=Ab u;have n:=Ab q;clear u q
 go_region_held3 (λd=>oa d ⟨b,0,Y⟩=V (U (V ⟨g,0,Y⟩) (Z c) D)/\oa d ⟨b,1,Y⟩=V (X J a)/\oa d ⟨g,a*3,Y⟩=V (X J m.kind)/\oa d ⟨g,a*3+1,Y⟩=V (X J m.place)/\oa d ⟨g,a*3+2,Y⟩=V (O m.text)) (go_keep) (fail)
 rename_i CL;clear CL n0 n1 n2 n3 n4 G M C y v;have AR:=n.lt;have j:=HH.zL (((re [] w1).alloc (j1 [X J m.kind,X J m.place,O m.text].toArray 206)).drew);have l:=(rf w1 [X J m.kind,X J m.place,O m.text] 206).drew;have i:=(n.alloc (j1 [X J m.kind,X J m.place,O m.text].toArray 206)).drew;have S:=(x.alloc (j1 [X J m.kind,X J m.place,O m.text].toArray 206)).drew;have I:(w1.alloc (j1 [X J m.kind,X J m.place,O m.text].toArray 206)).drew.heap.size=w1.heap.size+1:=by simp
 clear HH n x;generalize(w1.alloc (j1 [X J m.kind,X J m.place,O m.text].toArray 206)).drew=w2 at j l i S I⊢;generalize w1.heap.size=N4 at l AR I⊢;have x0:=l.cell 0;have x1:=l.cell 1;have x2:=l.cell 2;have y0:=i.cell 0;have y1:=i.cell 1;have yf:=i.frozen;have z1:=j.zO.cell 1;have zf:=j.zO.frozen 1;simp at x0 x1 x2 y0 y1 z1;have FW:=l.lt;have FF:=j.zO.lt;have Go:=i.lt;have za:=λo=>(j.zO.alloc o).cell 1
 have FC:=λo=>(j.zO.alloc o).frozen 1
 have BT:=λo=>(i.alloc o).cell 0
 have B0:=λo=>(i.alloc o).cell 1
 have HB:=λo=>(i.alloc o).frozen
 simp at za BT B0;have q1:¬b=f:=by omega
 have q2:¬f=b:=by omega
 have q3:¬b=w2.heap.size:=by omega
 have q4:¬w2.heap.size=b:=by omega
 have q5:¬f=w2.heap.size:=by omega
 have q6:¬w2.heap.size=f:=by omega
 have R:=Ab j;have n:=Ab i;clear j l i;have A1:nc (∀r H Q:ml,r=X J ((a:Int)+1)->Cw ((((w2.alloc (j1 #[X q7 0,O (AD m.text)] 215)).setCell ⟨b,1,Y⟩ r).setCell ⟨f,0,Y⟩ H).setCell ⟨f,1,Y⟩ Q) b (U (V ⟨g,0,Y⟩) (Z c) D) c (a+1) t):=by
  intro r H Q hv;have k1:Ac [b] w2 ((((w2.alloc (j1 #[X q7 0,O (AD m.text)] 215)).setCell ⟨b,1,Y⟩ r))):=((re [b] w2).alloc _).setCell (by simp) _;have p:=R.kept (nx':=a+1) (br':=t) k1 (by rw[hv];exact(R.zO.alloc _).set 1 _) HN;have F:(U (V ⟨g,0,Y⟩) (Z c) D).ownBlock≠V f:=by simp[qX];omega
  exact⟨(p.zO.zB _ (by simp;omega) _).zB _ (by simp;omega) _,Ah (Ah p.row F _) F _,p.ap,p.lt,p.len⟩
 have AO:nc (∀s w,Calls prog 217 #[O s] w λe d=>e=kt (O (AD s))/\d=w):=Wj;rcases A with A|⟨A,e3⟩;all_goals
  go_wp2_with (go_at_call 217;refine(AO _ _).mono ?_;rintro e d ⟨rfl,rfl⟩)
  refine m5 (As rfl rfl ((((n.alloc _).zB ⟨b,1,Y⟩ (by simp;omega) _).set 0 _).set 1 _) underlying215 rfl (by kernel_rfl)) rfl ⟨rfl,?_,?_⟩
  .exact A1.out _ _ _ rfl
  .refine Ac.setCell (Ac.setCell (Ac.setCell (S.alloc _) (by simp) _) (by right;have:=Aa N;simp;omega) _) (by right;have:=Aa N;simp;omega) _
theorem Zf(b:Nat)(z:ml)(d:rc Be)(a:Nat)(T:Int)(w:ly)(h:Cw w b z d a T)(m:Be)(Q:d[a]'h.lt=m)(e2:(m.kind==2)=K)(e3:(m.kind==3)=K)(e4:(m.kind==4)=K):
  Calls prog 193 #[j3 (V ⟨b,0,Y⟩)] w λe j=>e=kt (.tuple #[oj (j2 (Ar A3)),q8 K])/\Cw j b z d a m.place/\Ac [b] w j:=by
 have HM:nc (∀h:a<Z d,d[a]=m):=λ_=>Q
 have A0:=h.lt;have FF:(a:Int)<(Z d:Int):=by omega
 have FO:(0:Int)<=(a:Int):=by omega
 have hl:=h.len;have EM:=h.zO.lt;have C:∀k,z.ownBlock=V k->k<w.heap.size:=λk hk=>(h.row.lt k hk).2
 have s:=h.zL ((re [] w).alloc (j1 #[X q7 0,O ⟨#[]⟩] 215));have q:=rf w [X q7 0,O ⟨#[]⟩] 215;have v:=(re [b] w).alloc (j1 [X q7 0,O ⟨#[]⟩].toArray 215);clear Q h;go_enter func193,ntmps193;go_wp2_with fail
 generalize w.alloc (j1 [X q7 0,O ⟨#[]⟩].toArray 215)=w1 at s q v⊢;obtain⟨f,y⟩:=rd w.heap.size;rw[y]at q EM C⊢;have N:=Ab y;clear y;obtain⟨g,AR,rfl,E,M,b2,I⟩:=s.cells;have FB:g<f:=C g rfl;clear C;obtain⟨A,x,t⟩:=I a A0;rw[(Aa HM) A0]at A x t;clear I b2;have n0:=World.new_ne w1 _ E;have n1:=World.new_ne w1 _ M;have n2:=World.new_ne w1 _ A;have n3:=World.new_ne w1 _ x;have n4:=World.new_ne w1 _ t;have HH:=Ab s;have n:=Ab q;clear s q
 go_region_held3 (λj=>oa j ⟨b,0,Y⟩=V (U (V ⟨g,0,Y⟩) (Z d) AR)/\oa j ⟨b,1,Y⟩=V (X J a)/\oa j ⟨g,a*3,Y⟩=V (X J m.kind)/\oa j ⟨g,a*3+1,Y⟩=V (X J m.place)/\oa j ⟨g,a*3+2,Y⟩=V (O m.text)) (go_keep) (fail)
 rename_i ES;clear ES n0 n1 n2 n3 n4 E M A x t;have B0:=n.lt;have i:=HH.zL (((re [] w1).alloc (j1 [X J m.kind,X J m.place,O m.text].toArray 206)).drew);have l:=(rf w1 [X J m.kind,X J m.place,O m.text] 206).drew;have c:=(n.alloc (j1 [X J m.kind,X J m.place,O m.text].toArray 206)).drew;have B:=(v.alloc (j1 [X J m.kind,X J m.place,O m.text].toArray 206)).drew;have F:(w1.alloc (j1 [X J m.kind,X J m.place,O m.text].toArray 206)).drew.heap.size=w1.heap.size+1:=by simp
 clear HH n v;generalize(w1.alloc (j1 [X J m.kind,X J m.place,O m.text].toArray 206)).drew=w2 at i l c B F⊢;generalize w1.heap.size=N4 at l B0 F⊢;have L:=l.cell 0;have x1:=l.cell 1;have H:=l.cell 2;have y0:=c.cell 0;have P:=c.cell 1;have yf:=c.frozen;have z1:=i.zO.cell 1;have zf:=i.zO.frozen 1;simp at L x1 H y0 P z1;have FP:=l.lt;have FC:=i.zO.lt;have FT:=c.lt;have za:=λo=>(i.zO.alloc o).cell 1
 have BT:=λo=>(i.zO.alloc o).frozen 1
 have R:=λo=>(c.alloc o).cell 0
 have S:=λo=>(c.alloc o).cell 1
 have EX:=λo=>(c.alloc o).frozen
 simp at za R S;have q1:¬b=f:=by omega
 have q2:¬f=b:=by omega
 have q3:¬b=w2.heap.size:=by omega
 have q4:¬w2.heap.size=b:=by omega
 have q5:¬f=w2.heap.size:=by omega
 have q6:¬w2.heap.size=f:=by omega
 have AO:=Ab i;have n:=Ab c;clear i l c;go_wp2_with fail
 have G:=AO.zL ((re [] w2).alloc (j1 #[X q7 0,O ⟨#[]⟩] 215));refine(F1 b _ d a T m.place _ G).mono ?_;rintro e w4 ⟨rfl,W,u⟩;have r:=(n.alloc _).kept u (by simp;omega);have E0:=(B.alloc _).trans u;have v0:=r.cell 0;have v1:=r.cell 1;have vf:=r.frozen;simp at v0 v1;have CL:=Ab W;clear G W u L x1 H y0 P yf z1 zf za BT R S EX AO n B;go_wp2;refine m5 (As rfl rfl ((r.set 0 _).set 1 _) underlying215 rfl (by kernel_rfl)) rfl ⟨rfl,?_,?_⟩
 .have D:(U (V ⟨g,0,Y⟩) (Z d) AR).ownBlock≠V f:=by simp[qX];omega
  have p:=Aa CL;exact⟨(p.zO.zB _ (by simp;omega) _).zB _ (by simp;omega) _,Ah (Ah p.row D _) D _,p.ap,p.lt,p.len⟩
 .refine Ac.setCell (Ac.setCell E0 (by right;have:=Aa N;simp;omega) _) (by right;have:=Aa N;simp;omega) _
def DI(s:zA)(pos:Nat)(v:Int):Int:=
 if h:pos<s.size/\1<=(Utf8.decode s pos).2 then have _h1:pos<s.size:=h.1;have _h2:=h.2;DI s (pos+(Utf8.decode s pos).2) (Utf8.decode s pos).1 else v
def MQ(v:Int)(h:n<s.size):DI s n v=DI s (n+(Utf8.decode s n).2) (Utf8.decode s n).1:=by
 conv=>lhs;rw[DI]
 rw[dif_pos ⟨h,JU s n h⟩]
def Vn(v:Int)(h:¬n<s.size):DI s n v=v:=by
 rw[DI,dif_neg (by omega)]
theorem cV(b:Nat)(mv:ml)(d:rc Be)(c:Nat)(A:Int)(w:ly)(h:Cw w b mv d c A)(m:Be)(F:d[c]'h.lt=m)(e2:(m.kind==2)=K)(e3:(m.kind==3)=K)(e4:(m.kind==4)=jj)(hn:c+1<Z d)(K4:m.text.size<=2000):
  Calls prog 193 #[j3 (V ⟨b,0,Y⟩)] w λe r=>e=kt (.tuple #[oj (j2 (Ar ⟨DI m.text 0 0,q9⟩)),q8 jj])/\Cw r b mv d (c+1) A/\Ac [b] w r:=by
 have HN:=Ab hn;clear hn;have HM:nc (∀h:c<Z d,d[c]=m):=λ_=>F
 have HF:=h.lt;have z:(c:Int)<(Z d:Int):=by omega
 have KD:(0:Int)<=(c:Int):=by omega
 have hl:=h.len;have H7:=h.zO.lt;have DT:∀k,mv.ownBlock=V k->k<w.heap.size:=λk hk=>(h.row.lt k hk).2
 have h1:=h.zL ((re [] w).alloc (j1 #[X q7 0,O ⟨#[]⟩] 215));have I:=rf w [X q7 0,O ⟨#[]⟩] 215;have A2:=(re [b] w).alloc (j1 [X q7 0,O ⟨#[]⟩].toArray 215);clear F h;go_enter func193,ntmps193;go_wp2_with fail
 generalize w.alloc (j1 [X q7 0,O ⟨#[]⟩].toArray 215)=w1 at h1 I A2⊢;obtain⟨f,B2⟩:=rd w.heap.size;rw[B2]at I H7 DT⊢;have HY:=Ab B2;clear B2;obtain⟨g,x,rfl,b0,b1,b2,hc⟩:=h1.cells;have JJ:g<f:=DT g rfl;clear DT;obtain⟨c0,c1,c2⟩:=hc c HF;rw[(Aa HM) HF]at c0 c1 c2;clear hc b2;have n0:=World.new_ne w1 _ b0;have n1:=World.new_ne w1 _ b1;have n2:=World.new_ne w1 _ c0;have n3:=World.new_ne w1 _ c1;have n4:=World.new_ne w1 _ c2;have HH:=Ab h1;have p:=Ab I;clear h1 I
 go_region_held3 (λr=>oa r ⟨b,0,Y⟩=V (U (V ⟨g,0,Y⟩) (Z d) x)/\oa r ⟨b,1,Y⟩=V (X J c)/\oa r ⟨g,c*3,Y⟩=V (X J m.kind)/\oa r ⟨g,c*3+1,Y⟩=V (X J m.place)/\oa r ⟨g,c*3+2,Y⟩=V (O m.text)) (go_keep) (fail)
 rename_i H9;clear H9 n0 n1 n2 n3 n4 b0 b1 c0 c1 c2;have HS:=p.lt;have q:=HH.zL (((re [] w1).alloc (j1 [X J m.kind,X J m.place,O m.text].toArray 206)).drew);have t:=(rf w1 [X J m.kind,X J m.place,O m.text] 206).drew;have l:=(p.alloc (j1 [X J m.kind,X J m.place,O m.text].toArray 206)).drew;have C:=(A2.alloc (j1 [X J m.kind,X J m.place,O m.text].toArray 206)).drew;have y:(w1.alloc (j1 [X J m.kind,X J m.place,O m.text].toArray 206)).drew.heap.size=w1.heap.size+1:=by simp
 clear HH p A2;generalize(w1.alloc (j1 [X J m.kind,X J m.place,O m.text].toArray 206)).drew=w2 at q t l C y⊢;generalize w1.heap.size=N4 at t HS y⊢;have L:=t.cell 0;have x1:=t.cell 1;have x2:=t.cell 2;have W:=l.cell 0;have M:=l.cell 1;have yf:=l.frozen;have S:=q.zO.cell 1;have zf:=q.zO.frozen 1;simp at L x1 x2 W M S;have H1:=t.lt;have HU:=q.zO.lt;have H2:=l.lt;have za:=λo=>(q.zO.alloc o).cell 1
 have HQ:=λo=>(q.zO.alloc o).frozen 1
 have FF:=λo=>(l.alloc o).cell 0
 have FO:=λo=>(l.alloc o).cell 1
 have IA:=λo=>(l.alloc o).frozen
 simp at za FF FO;have q1:¬b=f:=by omega
 have q2:¬f=b:=by omega
 have q3:¬b=w2.heap.size:=by omega
 have q4:¬w2.heap.size=b:=by omega
 have q5:¬f=w2.heap.size:=by omega
 have q6:¬w2.heap.size=f:=by omega
 have Go:=Ab q;have p:=Ab l;clear q t l;go_wp2;have EK:(w2.alloc (j1 #[X q7 0,O ⟨#[]⟩] 215)).heap.size=N4+1+1:=by simp[y]
 have B0:Ac [b] w ((w2.alloc (j1 #[X q7 0,O ⟨#[]⟩] 215)).iter m.text 0):=(C.alloc _).alloc _;have h3:Cw ((w2.alloc (j1 #[X q7 0,O ⟨#[]⟩] 215)).iter m.text 0) b (U (V ⟨g,0,Y⟩) (Z d) x) d c A:=Go.zL (((re [] w2).alloc _).alloc _);have Bx:AI ((w2.alloc (j1 #[X q7 0,O ⟨#[]⟩] 215)).iter m.text 0) f [X q7 0,O ⟨#[]⟩] 215:=(p.alloc _).alloc _;have A0:AI ((w2.alloc (j1 #[X q7 0,O ⟨#[]⟩] 215)).iter m.text 0) (N4+1) [X q7 0,O ⟨#[]⟩] 215:=by rw[<-y];exact(rf w2 [X q7 0,O ⟨#[]⟩] 215).alloc _
 have Q:=World.iter_heap (w2.alloc (j1 #[X q7 0,O ⟨#[]⟩] 215)) m.text 0;rw[EK]at Q;have A1:N4+1+1<((w2.alloc (j1 #[X q7 0,O ⟨#[]⟩] 215)).iter m.text 0).heap.size:=by simp[World.iter,y]
 have K6:w.heap.size<=f:=by have:=Aa HY;omega
 clear L x1 x2 W M yf S zf za HQ FF FO IA Go p C EK q1 q2 q3 q4 q5 q6 H1 HU H2 y;generalize(w2.alloc (j1 #[X q7 0,O ⟨#[]⟩] 215)).iter m.text 0=w3 at B0 h3 Bx A0 Q A1⊢
 go_loopg [] m.text.size (λgk wr=>∃(pos:Nat) (v:Int),gk=m.text.size-pos/\pos<=m.text.size+4/\nc (DI m.text pos v=DI m.text 0 0)/\nc (wr.heap[N4+1+1]?=V (.stringIter m.text pos))/\nc (Cw wr b (U (V ⟨g,0,Y⟩) (Z d) x) d c A)/\nc (AI wr f [X q7 0,O ⟨#[]⟩] 215)/\nc (AI wr (N4+1) [X q7 v,O ⟨#[]⟩] 215)/\Ac [b] w wr/\N4+1+1<wr.heap.size)
 case atStart=>exact⟨0,0,by simp,by omega,rfl,Q,h3,Bx,A0,B0,A1⟩
 case round=>
  clear Q h3 Bx A0 B0 A1;obtain⟨pos,v,HA,KA,T,R,n,B,HT,hK,hz⟩:=hrel;have HG:=Ab HA;clear HA;by_cases z:pos<m.text.size
  .obtain⟨E,a,D⟩:∃E a,Utf8.decode m.text pos=(E,a):=⟨_,_,rfl⟩;(have K3:a<=4:=by have:=Xt m.text pos;rw[D]at this;exact this);(have KK:1<=a:=by have:=JU m.text pos z;rw[D]at this;exact this);have FC:∀u,(Instr.next (j3 (V ⟨N4+1+1,0,Y⟩)) jj u).run prog wr=.ok (.tuple #[q8 jj,X J pos,X q7 E]) (DN wr (N4+1+1) m.text (pos+a)):=by
    intro u;have h:=X9 (P:=prog) R u z;rw[D]at h;exact h
   have FL:=Ab (RS (w:=wr) (N:=N4+1+1) (s:=m.text) (pos:=pos+a) hz);have BS:=B.kept (Es wr (N4+1+1) m.text (pos+a)) (by simp;omega);have G:=HT.kept (Es wr (N4+1+1) m.text (pos+a));(have H:(U (V ⟨g,0,Y⟩) (Z d) x).ownBlock≠V (N4+1+1):=by simp[qX];omega);have BT:Cw (DN wr (N4+1+1) m.text (pos+a)) b (U (V ⟨g,0,Y⟩) (Z d) x) d c A:=
    ⟨n.zO.kept (Es wr (N4+1+1) m.text (pos+a)) (by simp;omega),Ag n.row (Es wr (N4+1+1) m.text (pos+a)) (λi hi F=>by simp at F;subst F;exact H hi),n.ap,n.lt,n.len⟩
   have C:Ac [b] w (DN wr (N4+1+1) m.text (pos+a)):=hK.trans' (Es wr (N4+1+1) m.text (pos+a)) (by intro i hi;right;simp at hi;omega);(have FT:N4+1+1<(DN wr (N4+1+1) m.text (pos+a)).heap.size:=by rw[Kk];exact hz);have H6:nc (DI m.text (pos+a) E=DI m.text 0 0):=by
    have h:=T.out;rw[MQ v z,D]at h;exact h
   clear D R n B HT T hK hz;generalize DN wr (N4+1+1) m.text (pos+a)=w4 at FC FL BS G BT C FT;have v0:=G.cell 0;have vf:=G.frozen 0;simp at v0;have p:=Ab BS;have HX:=Ab G;have H0:=Ab BT;clear BS G BT;go_wp2_with fail
   go_roundg (m.text.size-(pos+a))
   case measure=>have:=Aa HG;omega
   case rel=>
    refine⟨pos+a,E,rfl,by omega,H6,?_,?_,p.zB _ (by simp;omega) _,HX.set 0 _,C.setCell (by right;simp;omega) _,by simpa using FT⟩
    .show _=_;rw[qE _ _ _ _ (by simp)];exact FL
    .have j:=Aa H0;(have Jx:(U (V ⟨g,0,Y⟩) (Z d) x).ownBlock≠V (N4+1):=by simp[qX];omega);exact⟨j.zO.zB _ (by simp;omega) _,Ah j.row Jx _,j.ap,j.lt,j.len⟩
  ·(have FC:∀u,(Instr.next (j3 (V ⟨N4+1+1,0,Y⟩)) jj u).run prog wr=.ok (.tuple #[q8 K]) wr:=λu=>XQ (P:=prog) R u z);(have HV:nc (v=DI m.text 0 0):=by have h:=T.out;rwa [Vn v z]at h);have S:=n.zO.cell 1;have zf:=n.zO.frozen 1;have W:=B.cell 0;have M:=B.cell 1;have yf:=B.frozen;have L:=HT.cell 0;have x1:=HT.cell 1;simp at S W M L x1;(have q1:¬b=f:=by omega);(have q2:¬f=b:=by omega);(have q3:¬b=N4+1:=by omega);(have q4:¬N4+1=b:=by omega);(have q5:¬f=N4+1:=by omega);(have q6:¬N4+1=f:=by omega);clear T R;go_wp2;have hR:=Aa n;have k1:Ac [b] wr (wr.setCell ⟨b,1,Y⟩ (X J ((c:Int)+1))):=(re [b] wr).setCell (by simp) _;have j:=hR.kept (nx':=c+1) (br':=A) k1 (hR.zO.set 1 _) HN;(have H:(U (V ⟨g,0,Y⟩) (Z d) x).ownBlock≠V f:=by simp[qX];omega);refine m5 (As rfl rfl (((B.zB ⟨b,1,Y⟩ (by simp;omega) _).set 0 _).set 1 _) underlying215 rfl (by kernel_rfl)) rfl ⟨?_,?_,?_⟩
   .rw[<-HV.out];rfl
   .exact⟨(j.zO.zB _ (by simp;omega) _).zB _ (by simp;omega) _,Ah (Ah j.row H _) H _,j.ap,j.lt,j.len⟩
   .exact((hK.trans k1).setCell (by right;simp;omega) _).setCell (by right;simp;omega) _
structure X6(ms:rc Be):Prop where
 ends:∀i (h:i<Z ms),(ms[i].kind==1)=K->i+1<Z ms
 text:∀i (h:i<Z ms),ms[i].text.size<=2000
def G8(m:Be)(nx:Nat):Except Int (AZ×Nat):=
 if m.kind==2||m.kind==3 then .ok (⟨0,AD m.text⟩,nx+1)
 else if m.kind==4 then .ok (⟨DI m.text 0 0,q9⟩,nx+1)
 else .error m.place
def ji(b:Nat)(mv:ml)(ms:rc Be)(br:Int)(w:ly)(e:Ending)(w':ly):Except Int (AZ×Nat)->Prop
 | .ok (t,nx)=>e=kt (.tuple #[oj (j2 (Ar t)),q8 jj])/\Cw w' b mv ms nx br/\Ac [b] w w'
 | .error p=>∃nx,e=kt (.tuple #[oj (j2 (Ar A3)),q8 K])/\Cw w' b mv ms nx p/\Ac [b] w w'
def Py(b:Nat)(g:ml)(c:rc Be)(a:Nat)(i:Int)(w:ly)(h:Cw w b g c a i)(o:X6 c)(m:Be)(f:c[a]'h.lt=m):
  Calls prog 193 #[j3 (V ⟨b,0,Y⟩)] w λe j=>ji b g c i w e j (G8 m a):=by
 have n:(m.kind==1)=K->a+1<Z c:=by rw[<-f];exact o.ends a h.lt
 have r:m.text.size<=2000:=by rw[<-f];exact o.text a h.lt
 have l:∀k:Int,(m.kind==k)=jj->k≠1->(m.kind==1)=K:=λk p q=>by
  have:m.kind=k:=by simpa using p
  rw[this];simpa using q
 cases e2:(m.kind==2)with
 |true=>
  refine(PO b g c a i w h m f (lo e2) (n (l 2 e2 (by decide)))).mono ?_;intro e j d;simp only[G8,e2,pW,if_true];exact d
 |false=>
  cases e3:(m.kind==3)with
  |true=>
   refine(PO b g c a i w h m f (lx ⟨e2,e3⟩) (n (l 3 e3 (by decide)))).mono ?_;intro e j d;simp only[G8,e3,qB,if_true];exact d
  |false=>
   cases e4:(m.kind==4)with
   |true=>
    refine(cV b g c a i w h m f e2 e3 e4 (n (l 4 e4 (by decide))) r).mono ?_;intro e j d;simp only[G8,e2,e3,e4,qS,mC,if_false,if_true];exact d
   |false=>
    refine(Zf b g c a i w h m f e2 e3 e4).mono ?_;intro e j d;simp only[G8,e2,e3,e4,qS,mC,if_false];exact⟨a,d⟩
def Ul:zA:=⟨#[40]⟩
theorem dg:Ul.toList=[40]:=by kernel_rfl
def Fm(ms:rc Be)(nx:Nat):Bool:=
 match ms[nx]?,ms[nx+1]? with
 |some m,V m'=>m.kind==2&&B4 m' Ul
 |_,_=>K
theorem Vf(b:Nat)(L:ml)(d:rc Be)(a:Nat)(H:Int)(w:ly)(h:Cw w b L d a H)(C:X6 d):
  Calls prog 199 #[j3 (V ⟨b,0,Y⟩)] w λe f=>e=kt (q8 (Fm d a))/\Ac [] w f:=by
 obtain⟨g,A,rfl,z,v,_,r⟩:=h.cells;have q:=h.lt;have hl:=h.len;obtain⟨D,_,_⟩:=r a q;obtain⟨m,i⟩:=rd (d[a]);have l:=C.ends a q;rw[i]at D l;have P:(a:Int)<(Z d:Int):=by omega
 have W:(0:Int)<=(a:Int):=by omega
 clear h C;cases hk:(m.kind==2)with
 |false=>
  have n:nc (Fm d a=K):=by
   show _=_;unfold Fm;rw[mG q,i];split
   .rename_i x _;simp only[mB]at x;subst x;simp[hk]
   .rfl
  have E:(m.kind !=2)=jj:=by simp[bne,hk]
  clear r l i;go_enter func199,ntmps199;go_wp2
  go_quiet (fail)
  go_wp2;go_ret;exact⟨by rw[n.out];rfl,(re _ _).drewN _⟩
 |true=>
  have u:=l (by have:m.kind=2:=(by simpa using hk);rw[this];decide);obtain⟨c,s⟩:=rd (d[a+1]);obtain⟨p,o,j⟩:=r (a+1) u;rw[s]at p o j;have n:nc (Fm d a=B4 c Ul):=by
   show _=_;unfold Fm;rw[mG q,i,mG u,s];simp[hk]
  have E:(m.kind !=2)=K:=by simp[bne,hk]
  obtain⟨k,y⟩:=rd (a+1);have hw:IntKind.i64.wrap ((a:Int)+1)=(k:Int):=by
   rw[pV];omega
  have T:(0:Int)<=(k:Int):=by omega
  have Q:(k:Int)<(Z d:Int):=by omega
  rw[y]at p o j;clear r l i s u y;go_enter func199,ntmps199;go_wp2
  go_quiet (fail)
  have B:Ac [] w (w.drewN nq):=(re _ _).drewN _;have M:oa (w.drewN nq) ⟨b,0,Y⟩=V (U (V ⟨g,0,Y⟩) (Z d) A):=z;have N:oa (w.drewN nq) ⟨b,1,Y⟩=V (X J a):=v;have I:oa (w.drewN nq) ⟨g,k*3,Y⟩=V (X J c.kind):=p;have F:oa (w.drewN nq) ⟨g,k*3+1,Y⟩=V (X J c.place):=o;have G:oa (w.drewN nq) ⟨g,k*3+2,Y⟩=V (O c.text):=j;clear z v D p o j;generalize w.drewN nq=w1 at*;have n0:=World.new_ne w1 _ M;have n1:=World.new_ne w1 _ N;have n2:=World.new_ne w1 _ I;have R:=World.new_ne w1 _ F;have S:=World.new_ne w1 _ G;go_wp2_with fail
  go_region_held3 (λf=>oa f ⟨b,0,Y⟩=V (U (V ⟨g,0,Y⟩) (Z d) A)/\oa f ⟨b,1,Y⟩=V (X J a)/\oa f ⟨g,k*3,Y⟩=V (X J c.kind)/\oa f ⟨g,k*3+1,Y⟩=V (X J c.place)/\oa f ⟨g,k*3+2,Y⟩=V (O c.text)) (go_keep) (fail)
  cases hs:(c.kind==5)with
  |true=>
   (have t:nc (B4 c Ul=(c.text.toList==Ul.toList)):=by show _=_;simp[B4,hs]);go_wp2;all_goals
    go_ret;refine⟨By ?_,?_⟩
    .rw[n.out,t.out,dg]
    .repeat (first|refine Ac.drew ?_|refine Ac.setCell ?_ (by simp) _|refine Ac.alloc ?_ _|refine Ac.drewN ?_ _)
     exact B
  |false=>
   (have t:nc (B4 c Ul=K):=by show _=_;simp[B4,hs]);go_wp2;all_goals
    go_ret;refine⟨By ?_,?_⟩
    .rw[n.out,t.out]
    .repeat (first|refine Ac.drew ?_|refine Ac.setCell ?_ (by simp) _|refine Ac.alloc ?_ _|refine Ac.drewN ?_ _)
     exact B
structure Ij where
 place:Int
 name:zA
 tv:ml
def AW(a:Ij):rc ml:=[X J a.place,O a.name,a.tv]
def Bt:Ij:=⟨0,q9,U Y 0 0⟩
structure eo where
 place:Int
 sort:Int
 atom:Ij
 left:AZ
 right:AZ
def AE(l:eo):rc ml:=[X J l.place,X J l.sort,X J l.atom.place,O l.atom.name,l.atom.tv,X q7 l.left.v,O l.left.s,X q7 l.right.v,O l.right.s]
def Dl:eo:=⟨0,0,Bt,A3,A3⟩
def Au(ms:rc Be)(i:Nat):Be:=ms.getD i ⟨1,0,q9⟩
def Bz{a:rc Be}(h:i<Z a):a[i]=Au a i:=by simp[Au,h]
def X6.seen{a:rc Be}(c:X6 a)(h:i<Z a)(t:zA)(b:B4 (Au a i) t=jj):i+1<Z a:=by
 refine c.ends i h ?_;rw[Bz h];unfold B4 at b;rw[mV]at b;have:(Au a i).kind=5:=by simpa using b.1
 rw[this];decide
def Zd(a:rc ml)(k:Z a=9)(g f d c h i e j b:ml):(((((((((a.set 0 g).set 1 f).set 2 d).set 3 c).set 4 h).set 5 i).set 6 e).set 7 j).set 8 b)=[g,f,d,c,h,i,e,j,b]:=by
 match a,k with
 |[a0,a1,a2,a3,a4,a5,a6,a7,a8],_=>rfl
def AI.zH(h:AI w n y T)(l:Z y=9)(f e c b g i d j a:ml):AI (((((((((w.setCell ⟨n,0,Y⟩ f).setCell ⟨n,1,Y⟩ e).setCell ⟨n,2,Y⟩ c).setCell ⟨n,3,Y⟩ b).setCell ⟨n,4,Y⟩ g).setCell ⟨n,5,Y⟩ i).setCell ⟨n,6,Y⟩ d).setCell ⟨n,7,Y⟩ j).setCell ⟨n,8,Y⟩ a) n [f,e,c,b,g,i,d,j,a] T:=by
 have k:=(((((((((h.set 0 f).set 1 e).set 2 c).set 3 b).set 4 g).set 5 i).set 6 d).set 7 j).set 8 a);rw[Zd y l]at k;exact k
def lM:zA:=⟨#[61]⟩
def lK:zA:=⟨#[35]⟩
def lJ:zA:=⟨#[60]⟩
def OR(m:Be):Option Int:=if B4 m lM then V 2 else if B4 m lK then V 3 else if B4 m lJ then V 4 else Y
def MI(ms:rc Be)(nx:Nat):Except Int (eo×Nat):=
 match G8 (Au ms nx) nx with
 | .error p=> .error p
 | .ok (l,n1)=>
  match OR (Au ms n1)with
  |none=> .error (Au ms n1).place
  |some s=>
   match G8 (Au ms (n1+1)) (n1+1)with
   | .error p=> .error p
   | .ok (r,n2)=> .ok (⟨(Au ms nx).place,s,Bt,l,r⟩,n2)
def UE{a:rc Be}{l:eo}(h:MI a m=.ok (l,n)):l.atom=Bt:=by
 unfold MI at h;split at h
 .cases h
 .split at h
  .cases h
  .split at h
   .cases h
   .simp only[nU,ny]at h;rw[<-h.1]
def Cw.other{a:rc Be}(h:Cw w b z a n I){p:Addr}(c:p.block≠b)(d:z.ownBlock≠V p.block)(u:ml):Cw (w.setCell p u) b z a n I:=
 ⟨h.zO.zB _ c _,Ah h.row d _,h.ap,h.lt,h.len⟩
def Cw.zH{d:rc Be}(h:Cw w b z d n I)(a:m≠b)(c:z.ownBlock≠V m)(k j i f l o g q e:ml):Cw (((((((((w.setCell ⟨m,0,Y⟩ k).setCell ⟨m,1,Y⟩ j).setCell ⟨m,2,Y⟩ i).setCell ⟨m,3,Y⟩ f).setCell ⟨m,4,Y⟩ l).setCell ⟨m,5,Y⟩ o).setCell ⟨m,6,Y⟩ g).setCell ⟨m,7,Y⟩ q).setCell ⟨m,8,Y⟩ e) b z d n I:=
 (((((((((h.other (p:=⟨m,0,Y⟩) a c k).other (p:=⟨m,1,Y⟩) a c j).other (p:=⟨m,2,Y⟩) a c i).other (p:=⟨m,3,Y⟩) a c f).other (p:=⟨m,4,Y⟩) a c l).other (p:=⟨m,5,Y⟩) a c o).other (p:=⟨m,6,Y⟩) a c g).other (p:=⟨m,7,Y⟩) a c q).other (p:=⟨m,8,Y⟩) a c e)
def Ac.zH(h:Ac M v w)(b:n∈M\/v.heap.size<=n)(i f d c j g e l k:ml):Ac M v (((((((((w.setCell ⟨n,0,Y⟩ i).setCell ⟨n,1,Y⟩ f).setCell ⟨n,2,Y⟩ d).setCell ⟨n,3,Y⟩ c).setCell ⟨n,4,Y⟩ j).setCell ⟨n,5,Y⟩ g).setCell ⟨n,6,Y⟩ e).setCell ⟨n,7,Y⟩ l).setCell ⟨n,8,Y⟩ k):=
 (((((((((h.setCell (p:=⟨n,0,Y⟩) b i).setCell (p:=⟨n,1,Y⟩) b f).setCell (p:=⟨n,2,Y⟩) b d).setCell (p:=⟨n,3,Y⟩) b c).setCell (p:=⟨n,4,Y⟩) b j).setCell (p:=⟨n,5,Y⟩) b g).setCell (p:=⟨n,6,Y⟩) b e).setCell (p:=⟨n,7,Y⟩) b l).setCell (p:=⟨n,8,Y⟩) b k)
def kx(b:Nat)(mv:ml)(ms:rc Be)(br:Int)(w:ly)(e:Ending)(w':ly):Except Int (eo×Nat)->Prop
 | .ok (l,nx)=>e=kt (.tuple #[oj (j2 (AE l)),q8 jj])/\Cw w' b mv ms nx br/\Ac [b] w w'
 | .error p=>∃nx l,l.atom=Bt/\e=kt (.tuple #[oj (j2 (AE l)),q8 K])/\Cw w' b mv ms nx p/\Ac [b] w w'
theorem jc(b:Nat)(g:ml)(a:rc Be)(n:Nat)(m:Int)(w:ly)(h:Cw w b g a n m)(ok:X6 a):
  Calls prog 200 #[j3 (V ⟨b,0,Y⟩)] w λe w'=>kx b g a m w e w' (MI a n):=by
 have HO:=Ab ok;have LD:=h.zO.lt;have JJ:∀k,g.ownBlock=V k->k<w.heap.size:=λk hk=>(h.row.lt k hk).2
 have h1:=Ab (h.zL ((re [] w).alloc (j1 (j2 (AE Dl)) 217)));have hN:=Ab (rf w (AE Dl) 217);have HY:=Ab ((re [b] w).alloc (j1 (j2 (AE Dl)) 217));have IS:(w.alloc (j1 (j2 (AE Dl)) 217)).heap.size=w.heap.size+1:=by simp
 clear h ok;go_enter func200,ntmps200;go_wp2_with fail
 change Calls _ _ _ (w.alloc (j1 (j2 (AE Dl)) 217)) _;generalize w.alloc (j1 (j2 (AE Dl)) 217)=w1 at h1 hN HY IS⊢;obtain⟨N,Jx⟩:=rd w.heap.size;rw[Jx]at hN LD IS JJ⊢;have j:nc (∀k,N<=k->g.ownBlock≠V k):=λk hk e=>by have:=JJ k e;omega
 clear JJ;have W:=Ab Jx;clear Jx;refine(J6 b g a n m _ h1 (Au a n) (Bz h1.lt)).mono ?_;rintro e w2 ⟨rfl,k2⟩;have h2:=Ab (h1.zL k2);have KK:=Ab (hN.kept k2);have K7:=Ab (HY.trans (k2.mono (by simp)));have LB:N+1<=w2.heap.size:=by have:=k2.size;omega
 clear h1 hN HY IS k2;obtain⟨p,hp⟩:=rd (Au a n).place;have HP:=Ab hp;rw[hp];clear hp;go_wp2_with fail
 change Calls _ _ _ (w2.alloc (j1 (j2 (AE ⟨p,0,Bt,A3,A3⟩)) 217)) _;have h3:=Ab (h2.zL ((re [] w2).alloc (j1 (j2 (AE ⟨p,0,Bt,A3,A3⟩)) 217)));have EM:=Ab (KK.alloc (j1 (j2 (AE ⟨p,0,Bt,A3,A3⟩)) 217));have CW:=Ab (rf w2 (AE ⟨p,0,Bt,A3,A3⟩) 217);have FA:=Ab (K7.alloc (j1 (j2 (AE ⟨p,0,Bt,A3,A3⟩)) 217));clear h2 KK K7;generalize w2.alloc (j1 (j2 (AE ⟨p,0,Bt,A3,A3⟩)) 217)=w3 at h3 EM CW FA⊢;obtain⟨L,K9⟩:=rd w2.heap.size;rw[K9]at CW LB⊢;clear K9;refine(Py b g a n m _ h3 HO (Au a n) (Bz h3.lt)).mono ?_;intro e w4 E;cases ht:G8 (Au a n) n with
 |error q=>
  rw[ht]at E;obtain⟨n9,rfl,h4,H⟩:=E;have Q:nc (MI a n=.error q):=by show _=_;unfold MI;rw[ht]
  have i:=EM.kept H (by simp;omega);have B:=CW.kept H (by simp;omega);have FW:=Ab (FA.trans H);clear h3 EM CW FA ht H;have M:=B.cell 5;have S:=B.cell 6;have C:=B.frozen;have nf:=i.frozen;have c0:=i.cell 0;have c1:=i.cell 1;have c2:=i.cell 2;have c3:=i.cell 3;have c4:=i.cell 4;have c5:=i.cell 5;have c6:=i.cell 6;have c7:=i.cell 7;have c8:=i.cell 8;simp[AE,Dl,Bt,A3]at M S c0 c1 c2 c3 c4 c5 c6 c7 c8;have q1:¬L=N:=by omega
  have q2:¬N=L:=by omega
  have HB:=Ab i;have D:=Ab h4;clear i B h4;simp only[Ar,A3];go_wp2;rw[Q.out];have BS:=((HB.zB ⟨L,5,Y⟩ (by simp;omega) (X q7 0)).zB ⟨L,6,Y⟩ (by simp;omega) (O q9)).zH rfl (X J 0) (X J 0) (X J 0) (O ⟨#[]⟩) (U Y 0 0) (X q7 0) (O ⟨#[]⟩) (X q7 0) (O ⟨#[]⟩);refine m5 (As (P:=prog) (fn:=Tryz.f200) (p:=2) (u:=3) rfl rfl BS underlying217 rfl (by kernel_rfl)) rfl ?_;refine⟨n9,Dl,rfl,rfl,?_,?_⟩
  .exact((D.other (p:=⟨L,5,Y⟩) (by simp;omega) (j L (by omega)) _).other (p:=⟨L,6,Y⟩) (by simp;omega) (j L (by omega)) _).zH (by omega) (j N (by omega)) _ _ _ _ _ _ _ _ _
  .have A:=Aa W;exact((FW.setCell (p:=⟨L,5,Y⟩) (by right;simp;omega) _).setCell (p:=⟨L,6,Y⟩) (by right;simp;omega) _).zH (by right;omega) _ _ _ _ _ _ _ _ _
 |ok r=>
  obtain⟨l,c⟩:=r;rw[ht]at E;obtain⟨rfl,h4,H⟩:=E;have i:=EM.kept H (by simp;omega);have B:=CW.kept H (by simp;omega);have FW:=Ab (FA.trans H);have HT:=Ab ht;clear h3 EM CW FA H ht;have M:=B.cell 5;have S:=B.cell 6;have C:=B.frozen;simp[AE,Dl,Bt,A3]at M S;have KS:=Ab i;have KD:=Ab B;have D:=Ab h4;clear i B h4;simp only[Ar];go_wp2_with fail
  have t:=Aa j;have A:=Aa W;have h5:Cw ((w4.setCell ⟨L,5,Y⟩ (X q7 l.v)).setCell ⟨L,6,Y⟩ (O l.s)) b g a c m:=by
   exact(D.other (p:=⟨L,5,Y⟩) (by simp;omega) (t L (by omega)) _).other (p:=⟨L,6,Y⟩) (by simp;omega) (t L (by omega)) _
  have HV:=Ab ((KS.zB ⟨L,5,Y⟩ (by simp;omega) (X q7 l.v)).zB ⟨L,6,Y⟩ (by simp;omega) (O l.s));have H3:nc (AI ((w4.setCell ⟨L,5,Y⟩ (X q7 l.v)).setCell ⟨L,6,Y⟩ (O l.s)) L (AE ⟨p,0,Bt,l,A3⟩) 217):=(KD.set 5 _).set 6 _;have H0:=Ab ((FW.setCell (p:=⟨L,5,Y⟩) (by right;simp;omega) (X q7 l.v)).setCell (p:=⟨L,6,Y⟩) (by right;simp;omega) (O l.s));clear M S C KS KD D FW t A;generalize(w4.setCell ⟨L,5,Y⟩ (X q7 l.v)).setCell ⟨L,6,Y⟩ (O l.s)=w5 at h5 HV H3 H0⊢;have H5:=Ab h5;clear h5;refine(Ho b g a c m lM _ H5 (Au a c) (Bz H5.lt) (HO.seen H5.lt lM)).mono ?_;rintro e w6 ⟨rfl,h6,k6⟩;have HD:=Ab (HV.kept k6 (by simp;omega));have CL:=Ab (H3.kept k6 (by simp;omega));have HC:=Ab (H0.trans k6);clear H5 HV H3 H0 k6;cases s1:B4 (Au a c) lM
  case' true=>
   rw[s1]at h6;simp only[if_true]at h6;(have F:nc (OR (Au a c)=V 2):=by show _=_;simp[OR,s1]);clear s1;have z:=CL.cell 1;have C:=CL.frozen;simp[AE]at z;have H6:=Ab h6;clear h6;(go_wp2_with fail);have t:=Aa j;have A:=Aa W;have hR:Cw (w6.setCell ⟨L,1,Y⟩ (X J 2)) b g a (c+1) m:=H6.other (p:=⟨L,1,Y⟩) (by simp;omega) (t L (by omega)) _;have G:nc (AI (w6.setCell ⟨L,1,Y⟩ (X J 2)) N (AE Dl) 217):=HD.zB ⟨L,1,Y⟩ (by simp;omega) _;have y:nc (AI (w6.setCell ⟨L,1,Y⟩ (X J 2)) L (AE ⟨p,2,Bt,l,A3⟩) 217):=CL.set 1 _;have I:=Ab (HC.setCell (p:=⟨L,1,Y⟩) (by right;simp;omega) (X J 2));clear z C HD CL HC t A H6;generalize w6.setCell ⟨L,1,Y⟩ (X J 2)=w9 at hR G y I⊢;generalize(2:Int)=SS at F y
  case' false=>
   rw[s1]at h6;simp only[mC,if_false]at h6;have H6:=Ab h6;clear h6;(go_wp2_with fail);refine(Ho b g a c m lK _ H6 (Au a c) (Bz H6.lt) (HO.seen H6.lt lK)).mono ?_;rintro e w7 ⟨rfl,h7,k7⟩;have HH:=Ab (HD.kept k7 (by simp;omega));have DT:=Ab (CL.kept k7 (by simp;omega));have HG:=Ab (HC.trans k7);clear H6 HD CL HC k7;cases s2:B4 (Au a c) lK
   case' true=>
    rw[s2]at h7;simp only[if_true]at h7;(have F:nc (OR (Au a c)=V 3):=by show _=_;simp[OR,s1,s2]);clear s1 s2;have z:=DT.cell 1;have C:=DT.frozen;simp[AE]at z;have H7:=Ab h7;clear h7;(go_wp2_with fail);have t:=Aa j;have A:=Aa W;have hR:Cw (w7.setCell ⟨L,1,Y⟩ (X J 3)) b g a (c+1) m:=H7.other (p:=⟨L,1,Y⟩) (by simp;omega) (t L (by omega)) _;have G:nc (AI (w7.setCell ⟨L,1,Y⟩ (X J 3)) N (AE Dl) 217):=HH.zB ⟨L,1,Y⟩ (by simp;omega) _;have y:nc (AI (w7.setCell ⟨L,1,Y⟩ (X J 3)) L (AE ⟨p,3,Bt,l,A3⟩) 217):=DT.set 1 _;have I:=Ab (HG.setCell (p:=⟨L,1,Y⟩) (by right;simp;omega) (X J 3));clear z C HH DT HG t A H7;generalize w7.setCell ⟨L,1,Y⟩ (X J 3)=w9 at hR G y I⊢;generalize(3:Int)=SS at F y
   case' false=>
    rw[s2]at h7;simp only[mC,if_false]at h7;have H7:=Ab h7;clear h7;(go_wp2_with fail);refine(Ho b g a c m lJ _ H7 (Au a c) (Bz H7.lt) (HO.seen H7.lt lJ)).mono ?_;rintro e w8 ⟨rfl,T,k8⟩;have HE:=Ab (HH.kept k8 (by simp;omega));have FF:=Ab (DT.kept k8 (by simp;omega));have Go:=Ab (HG.trans k8);clear H7 HH DT HG k8;cases s3:B4 (Au a c) lJ
    case' true=>
     rw[s3]at T;simp only[if_true]at T;(have F:nc (OR (Au a c)=V 4):=by show _=_;simp[OR,s1,s2,s3]);clear s1 s2 s3;have z:=FF.cell 1;have C:=FF.frozen;simp[AE]at z;have H8:=Ab T;clear T;(go_wp2_with fail);have t:=Aa j;have A:=Aa W;have hR:Cw (w8.setCell ⟨L,1,Y⟩ (X J 4)) b g a (c+1) m:=H8.other (p:=⟨L,1,Y⟩) (by simp;omega) (t L (by omega)) _;have G:nc (AI (w8.setCell ⟨L,1,Y⟩ (X J 4)) N (AE Dl) 217):=HE.zB ⟨L,1,Y⟩ (by simp;omega) _;have y:nc (AI (w8.setCell ⟨L,1,Y⟩ (X J 4)) L (AE ⟨p,4,Bt,l,A3⟩) 217):=FF.set 1 _;have I:=Ab (Go.setCell (p:=⟨L,1,Y⟩) (by right;simp;omega) (X J 4));clear z C HE FF Go t A H8;generalize w8.setCell ⟨L,1,Y⟩ (X J 4)=w9 at hR G y I⊢;generalize(4:Int)=SS at F y
    case' false=>
     rw[s3]at T;simp only[mC,if_false]at T;have H8:=Ab T;clear T;(go_wp2_with fail);(have Q:nc (MI a n=.error (Au a c).place):=by show _=_;unfold MI;simp[HT.out,OR,s1,s2,s3]);clear s1 s2 s3;refine(J6 b g a c m _ H8 (Au a c) (Bz H8.lt)).mono ?_;rintro e w9 ⟨rfl,k9⟩;have h9:=H8.zL k9;have K4:=Ab (HE.kept k9);have K2:=Ab (Go.trans (k9.mono (by simp)));clear H8 HE FF Go k9;obtain⟨q,hq⟩:=rd (Au a c).place;rw[hq]at Q⊢;clear hq;have H9:=Ab h9;clear h9;(go_wp2_with fail);refine(F1 b g a c m q _ H9).mono ?_;rintro e LE ⟨rfl,R,o⟩;have x:=K4.kept o (by simp;omega);have EY:=Ab (K2.trans o);clear K4 K2 H9 o;have nf:=x.frozen;have c0:=x.cell 0;have c1:=x.cell 1;have c2:=x.cell 2;have c3:=x.cell 3;have c4:=x.cell 4;have c5:=x.cell 5;have c6:=x.cell 6;have c7:=x.cell 7;have c8:=x.cell 8;simp[AE,Dl,Bt,A3]at c0 c1 c2 c3 c4 c5 c6 c7 c8;have HB:=Ab x;have D:=Ab R;clear x R;go_wp2;rw[Q.out];have BS:=HB.zH rfl (X J 0) (X J 0) (X J 0) (O ⟨#[]⟩) (U Y 0 0) (X q7 0) (O ⟨#[]⟩) (X q7 0) (O ⟨#[]⟩);refine m5 (As (P:=prog) (fn:=Tryz.f200) (p:=2) (u:=3) rfl rfl BS underlying217 rfl (by kernel_rfl)) rfl ?_;refine⟨c,Dl,rfl,rfl,?_,?_⟩
     .exact D.zH (by omega) (j N (by omega)) _ _ _ _ _ _ _ _ _
     .have A:=Aa W;exact EY.zH (by right;omega) _ _ _ _ _ _ _ _ _
  all_goals
   refine(Py b g a (c+1) m _ hR HO (Au a (c+1)) (Bz hR.lt)).mono ?_;intro e LE E;clear hR;cases ht2:G8 (Au a (c+1)) (c+1)with
   |error q=>
    rw[ht2]at E;obtain⟨n9,rfl,R,o⟩:=E;(have Q:nc (MI a n=.error q):=by show _=_;unfold MI;simp only[HT.out,F.out,ht2]);have d:=G.kept o (by simp;omega);have f:=y.kept o (by simp;omega);have EY:=Ab (I.trans o);clear G y I o ht2 HT F;have l0:=f.cell 0;have z:=f.cell 1;have l2:=f.cell 2;have l3:=f.cell 3;have l4:=f.cell 4;have M:=f.cell 5;have S:=f.cell 6;have l7:=f.cell 7;have l8:=f.cell 8;have C:=f.frozen;have nf:=d.frozen;have c0:=d.cell 0;have c1:=d.cell 1;have c2:=d.cell 2;have c3:=d.cell 3;have c4:=d.cell 4;have c5:=d.cell 5;have c6:=d.cell 6;have c7:=d.cell 7;have c8:=d.cell 8;simp[AE,Dl,Bt,A3]at l0 c0 z c1 l2 c2 l3 c3 l4 c4 M c5 S c6 l7 c7 l8 c8;(have q1:¬L=N:=by omega);(have q2:¬N=L:=by omega);have HB:=Ab d;have D:=Ab R;clear d f R;simp only[Ar,A3];go_wp2;rw[Q.out];have BS:=((HB.zB ⟨L,7,Y⟩ (by simp;omega) (X q7 0)).zB ⟨L,8,Y⟩ (by simp;omega) (O q9)).zH rfl (X J p) (X J SS) (X J 0) (O q9) (U Y 0 0) (X q7 l.v) (O l.s) (X q7 0) (O q9);refine m5 (As (P:=prog) (fn:=Tryz.f200) (p:=2) (u:=3) rfl rfl BS underlying217 rfl (by kernel_rfl)) rfl ?_;refine⟨n9,⟨p,SS,Bt,l,A3⟩,rfl,rfl,?_,?_⟩
    .exact((D.other (p:=⟨L,7,Y⟩) (by simp;omega) (j L (by omega)) _).other (p:=⟨L,8,Y⟩) (by simp;omega) (j L (by omega)) _).zH (by omega) (j N (by omega)) _ _ _ _ _ _ _ _ _
    .have A:=Aa W;exact((EY.setCell (p:=⟨L,7,Y⟩) (by right;simp;omega) _).setCell (p:=⟨L,8,Y⟩) (by right;simp;omega) _).zH (by right;omega) _ _ _ _ _ _ _ _ _
   |ok r=>
    obtain⟨r,n2⟩:=r;rw[ht2]at E;obtain⟨rfl,R,o⟩:=E;(have Q:nc (MI a n=.ok (⟨p,SS,Bt,l,r⟩,n2)):=by show _=_;unfold MI;simp only[HT.out,F.out,ht2,HP.out]);have d:=G.kept o (by simp;omega);have f:=y.kept o (by simp;omega);have EY:=Ab (I.trans o);clear G y I o ht2 HT F;have l0:=f.cell 0;have z:=f.cell 1;have l2:=f.cell 2;have l3:=f.cell 3;have l4:=f.cell 4;have M:=f.cell 5;have S:=f.cell 6;have l7:=f.cell 7;have l8:=f.cell 8;have C:=f.frozen;have nf:=d.frozen;have c0:=d.cell 0;have c1:=d.cell 1;have c2:=d.cell 2;have c3:=d.cell 3;have c4:=d.cell 4;have c5:=d.cell 5;have c6:=d.cell 6;have c7:=d.cell 7;have c8:=d.cell 8;simp[AE,Dl,Bt,A3]at l0 c0 z c1 l2 c2 l3 c3 l4 c4 M c5 S c6 l7 c7 l8 c8;(have q1:¬L=N:=by omega);(have q2:¬N=L:=by omega);have HB:=Ab d;have D:=Ab R;clear d f R;simp only[Ar];go_wp2;rw[Q.out];have BS:=((HB.zB ⟨L,7,Y⟩ (by simp;omega) (X q7 r.v)).zB ⟨L,8,Y⟩ (by simp;omega) (O r.s)).zH rfl (X J p) (X J SS) (X J 0) (O q9) (U Y 0 0) (X q7 l.v) (O l.s) (X q7 r.v) (O r.s);refine m5 (As (P:=prog) (fn:=Tryz.f200) (p:=2) (u:=3) rfl rfl BS underlying217 rfl (by kernel_rfl)) rfl ?_;refine⟨rfl,?_,?_⟩
    .exact((D.other (p:=⟨L,7,Y⟩) (by simp;omega) (j L (by omega)) _).other (p:=⟨L,8,Y⟩) (by simp;omega) (j L (by omega)) _).zH (by omega) (j N (by omega)) _ _ _ _ _ _ _ _ _
    .have A:=Aa W;exact((EY.setCell (p:=⟨L,7,Y⟩) (by right;simp;omega) _).setCell (p:=⟨L,8,Y⟩) (by right;simp;omega) _).zH (by right;omega) _ _ _ _ _ _ _ _ _
theorem Tryz.zZ:(Tryz.prog.info? 215).map (λi=>(i.zero,i.size,i.bytes))=V (V (oj #[X q7 0,O ⟨#[]⟩]),2,24):=by kernel_rfl
def Jp:zA:=⟨#[44]⟩
def Qw:zA:=⟨#[41]⟩
def G7(ms:rc Be)(nx:Nat)(acc:rc AZ):Except Int (rc AZ×Nat):=
 if h:nx<Z ms then
  match G8 (Au ms nx) nx with
  | .error p=> .error p
  | .ok (t,_)=>
   if B4 (Au ms (nx+1)) Jp then G7 ms (nx+2) (acc++[t])
   else if B4 (Au ms (nx+1)) Qw then .ok (acc++[t],nx+2)
   else .error (Au ms (nx+1)).place
 else .error 0
def GD{m:Be}{t:AZ}(h:G8 m k=.ok (t,n)):n=k+1:=by
 unfold G8 at h;split at h
 .simp only[nU,ny]at h;exact h.2.symm
 .split at h
  .simp only[nU,ny]at h;exact h.2.symm
  .cases h
def EC(ms:rc Be)(nx:Nat):Except Int ((Nat×zA×rc AZ)×Nat):=
 if(Au ms nx).kind==2 then
  if B4 (Au ms (nx+1)) Ul then
   match G7 ms (nx+2) [] with
   | .error p=> .error p
   | .ok (ts,n)=> .ok (((Au ms nx).place,(Au ms nx).text,ts),n)
  else .error (Au ms (nx+1)).place
 else .error (Au ms nx).place
def AI.zW(h:AI w n y T)(f:Z y=3)(c b a:ml):AI (((w.setCell ⟨n,0,Y⟩ c).setCell ⟨n,1,Y⟩ b).setCell ⟨n,2,Y⟩ a) n [c,b,a] T:=by
 have d:=((h.set 0 c).set 1 b).set 2 a;have e:((y.set 0 c).set 1 b).set 2 a=[c,b,a]:=by
  match y,f with
  |[_,_,_],_=>rfl
 rw[e]at d;exact d
def Cw.zW{d:rc Be}(h:Cw w b z d n I)(a:m≠b)(c:z.ownBlock≠V m)(g f e:ml):Cw (((w.setCell ⟨m,0,Y⟩ g).setCell ⟨m,1,Y⟩ f).setCell ⟨m,2,Y⟩ e) b z d n I:=
 ((h.other (p:=⟨m,0,Y⟩) a c g).other (p:=⟨m,1,Y⟩) a c f).other (p:=⟨m,2,Y⟩) a c e
def Ac.zW(h:Ac M v w)(b:n∈M\/v.heap.size<=n)(e d c:ml):Ac M v (((w.setCell ⟨n,0,Y⟩ e).setCell ⟨n,1,Y⟩ d).setCell ⟨n,2,Y⟩ c):=
 ((h.setCell (p:=⟨n,0,Y⟩) b e).setCell (p:=⟨n,1,Y⟩) b d).setCell (p:=⟨n,2,Y⟩) b c
def iB(b:Nat)(mv:ml)(ms:rc Be)(br:Int)(w:ly)(e:Ending)(w':ly):Except Int ((Nat×zA×rc AZ)×Nat)->Prop
 | .ok ((p,s,ts),nx)=>∃tv base,e=kt (.tuple #[oj (j2 (AW ⟨p,s,tv⟩)),q8 jj])/\w.heap.size<=base/\oi w' base 215 2 tv (Z ts) (ts.flatMap Ar)/\Cw w' b mv ms nx br/\Ac [b] w w'
 | .error p=>∃nx pl s ad n cp,e=kt (.tuple #[oj (j2 (AW ⟨pl,s,U ad n cp⟩)),q8 K])/\Cw w' b mv ms nx p/\Ac [b] w w'
theorem PE(b:Nat)(mv:ml)(a:rc Be)(c:Nat)(D:Int)(w:ly)(h:Cw w b mv a c D)(ok:X6 a):
  Calls prog 158 #[j3 (V ⟨b,0,Y⟩)] w λe F=>iB b mv a D w e F (EC a c):=by
 obtain⟨m,f⟩:=rd (Au a c);obtain⟨i0,VS,RT,WW,VL⟩:=nC Tryz.zZ;have HM:=Ab f;have HO:=Ab ok;have H0:=h.lt;have X3:(c:Int)<(Z a:Int):=by omega
 have YP:(0:Int)<=(c:Int):=by omega
 have hl:=h.len;have TT:=h.zO.lt;have HZ:∀k,mv.ownBlock=V k->k<w.heap.size:=λk B=>(h.row.lt k B).2
 have h1:=h.zL ((re [] w).alloc (j1 #[X J 0,O ⟨#[]⟩,U Y 0 0] 187));have FW:=rf w [X J 0,O ⟨#[]⟩,U Y 0 0] 187;have IJ:=(re [b] w).alloc (j1 [X J 0,O ⟨#[]⟩,U Y 0 0].toArray 187);clear f h ok;go_enter func158,ntmps158;go_wp2_with fail
 generalize w.alloc (j1 [X J 0,O ⟨#[]⟩,U Y 0 0].toArray 187)=w1 at h1 FW IJ⊢;obtain⟨l,K6⟩:=rd w.heap.size;rw[K6]at FW TT HZ⊢;have Go:=Ab K6;clear K6;have B0:nc (∀k,l<=k->mv.ownBlock≠V k):=λk B e=>by have:=HZ k e;omega
 obtain⟨g,W,rfl,b0,b1,b2,hc⟩:=h1.cells;have X1:g<l:=HZ g rfl;clear HZ;obtain⟨T,M,L⟩:=hc c H0;rw[Bz H0,Aa HM]at T M L;clear hc b2;have n0:=World.new_ne w1 _ b0;have n1:=World.new_ne w1 _ b1;have n2:=World.new_ne w1 _ T;have n3:=World.new_ne w1 _ M;have n4:=World.new_ne w1 _ L;have HH:=Ab h1;have AO:=Ab FW;clear h1 FW
 go_region_held3 (λF=>oa F ⟨b,0,Y⟩=V (U (V ⟨g,0,Y⟩) (Z a) W)/\oa F ⟨b,1,Y⟩=V (X J c)/\oa F ⟨g,c*3,Y⟩=V (X J m.kind)/\oa F ⟨g,c*3+1,Y⟩=V (X J m.place)/\oa F ⟨g,c*3+2,Y⟩=V (O m.text)) (go_keep) (fail)
 rename_i UO;clear UO n0 n1 n2 n3 n4 b0 b1 T M L;have PT:=AO.lt;have h2:=HH.zL (((re [] w1).alloc (j1 [X J m.kind,X J m.place,O m.text].toArray 206)).drew);have A0:=(rf w1 [X J m.kind,X J m.place,O m.text] 206).drew;have Ix:=(AO.alloc (j1 [X J m.kind,X J m.place,O m.text].toArray 206)).drew;have LL:=(IJ.alloc (j1 [X J m.kind,X J m.place,O m.text].toArray 206)).drew;clear HH AO IJ;generalize(w1.alloc (j1 [X J m.kind,X J m.place,O m.text].toArray 206)).drew=w2 at h2 A0 Ix LL⊢;generalize w1.heap.size=N4 at A0 PT⊢;have x0:=A0.cell 0;have x1:=A0.cell 1;have x2:=A0.cell 2;have z1:=h2.zO.cell 1;have zf:=h2.zO.frozen 1;simp at x0 x1 x2 z1;have FF:=Ab h2;have AO:=Ab Ix;have LB:=Ab A0;have HJ:=Ab LL;clear h2 A0 Ix LL;cases B:(m.kind==2)with
 |false=>
  have RI:(m.kind !=2)=jj:=by simp[bne,B]
  have HF:nc (EC a c=.error m.place):=by show _=_;unfold EC;rw[Aa HM,B];rfl
  clear B;go_wp2_with fail
  refine(F1 b (U (V ⟨g,0,Y⟩) (Z a) W) a c D m.place _ FF).mono ?_;rintro e w3 ⟨rfl,h3,N⟩;have B9:=AO.kept N (by simp;omega);have VR:=Ab (HJ.trans N);have T:=B9.cell 0;have M:=B9.cell 1;have L:=B9.cell 2;have nf:=B9.frozen;simp at T M L;have TS:=Ab B9;have G:=Ab h3;clear B9 h3 N x0 x1 x2 z1 zf FF AO LB HJ;go_wp2;rw[HF.out];have BA:=TS.zW rfl (X J 0) (O ⟨#[]⟩) (U Y 0 0);refine m5 (As (P:=prog) (fn:=Tryz.f158) (p:=2) (u:=3) rfl rfl BA underlying187 rfl (by kernel_rfl)) rfl ?_;refine⟨c,0,q9,Y,0,0,rfl,?_,?_⟩
  .exact G.zW (by omega) (B0 l (by omega)) _ _ _
  .have:=Aa Go;exact VR.zW (by right;omega) _ _ _
 |true=>
  have RI:(m.kind !=2)=K:=by simp[bne,B]
  have ST:c+1<Z a:=by
   refine HO.ends c H0 ?_;rw[Bz H0,Aa HM];(have:m.kind=2:=by simpa using B);rw[this];decide
  have HK:=Ab B;clear B;go_wp2_with fail
  have N:Ac [b] w2 (w2.setCell ⟨b,1,Y⟩ (X J ((c:Int)+1))):=(re [b] w2).setCell (by simp) _;have h3:Cw (w2.setCell ⟨b,1,Y⟩ (X J ((c:Int)+1))) b (U (V ⟨g,0,Y⟩) (Z a) W) a (c+1) D:=FF.kept (nx':=c+1) (br':=D) N (FF.zO.set 1 _) ST;have IS:=Ab (AO.kept N (by simp;omega));have KD:=Ab (LB.kept N (by simp;omega));have K5:=Ab (HJ.trans N);clear x0 x1 x2 z1 zf FF AO LB HJ N;generalize w2.setCell ⟨b,1,Y⟩ (X J ((c:Int)+1))=w3 at h3 IS KD K5⊢;refine(OS b (U (V ⟨g,0,Y⟩) (Z a) W) a (c+1) D Ul _ h3 (Au a (c+1)) (Bz h3.lt) (HO.seen h3.lt Ul)).mono ?_;rintro e w4 ⟨rfl,h4,k4⟩;clear h3;have A1:=Ab (IS.kept k4 (by simp;omega));have EY:=Ab (KD.kept k4 (by simp;omega));have H9:=Ab (K5.trans k4);clear IS KD K5 k4;cases hs:B4 (Au a (c+1)) Ul with
  |false=>
   rw[hs]at h4;simp only[mC,if_false]at h4;(have HF:nc (EC a c=.error (Au a (c+1)).place):=by show _=_;unfold EC;rw[Aa HM,Aa HK,hs];rfl);have T:=A1.cell 0;have M:=A1.cell 1;have L:=A1.cell 2;have nf:=A1.frozen;simp at T M L;have G:=Ab h4;clear h4 hs EY;go_wp2;rw[HF.out];have BA:=A1.zW rfl (X J 0) (O ⟨#[]⟩) (U Y 0 0);refine m5 (As (P:=prog) (fn:=Tryz.f158) (p:=2) (u:=3) rfl rfl BA underlying187 rfl (by kernel_rfl)) rfl ?_;refine⟨c+1,0,q9,Y,0,0,rfl,?_,?_⟩
   .exact G.zW (by omega) (B0 l (by omega)) _ _ _
   .have:=Aa Go;exact H9.zW (by right;omega) _ _ _
  |true=>
   rw[hs]at h4;simp only[if_true]at h4;have HS:=Ab hs;have x1:=EY.cell 1;have x2:=EY.cell 2;simp at x1 x2;have G:=Ab h4;clear h4 hs;go_wp2;have H4:nc (∀r,G7 a (c+2) []=r->EC a c=(match r with| .error p=> .error p| .ok (ts,n)=> .ok ((m.place,m.text,ts),n))):=by
    intro r hr;unfold EC;rw[Aa HM,Aa HK,Aa HS,hr];rfl
   have HV:=Ab (rf w4 [X J m.place,O m.text,U Y 0 0] 187);have K8:=Ab (A1.alloc (j1 [X J m.place,O m.text,U Y 0 0].toArray 187));have LC:=Ab (G.zL ((re [] w4).alloc (j1 [X J m.place,O m.text,U Y 0 0].toArray 187)));have KS:=Ab (H9.alloc (j1 [X J m.place,O m.text,U Y 0 0].toArray 187));(have JJ:(w4.alloc (j1 [X J m.place,O m.text,U Y 0 0].toArray 187)).heap.size=w4.heap.size+1:=by simp);have U0:=EY.lt;clear x1 x2 EY A1 H9 G HS HK HM;change Code.wp _ _ _ _ (w4.alloc (j1 [X J m.place,O m.text,U Y 0 0].toArray 187));generalize w4.alloc (j1 [X J m.place,O m.text,U Y 0 0].toArray 187)=w5 at HV K8 LC KS JJ⊢;obtain⟨A,LS⟩:=rd w4.heap.size;rw[LS]at HV JJ U0⊢;clear LS
   go_loopg [] (Z a-(c+2)) (λgk wr=>∃(j:Nat) (d:rc AZ) (R:Option Addr) (S:Nat),gk=Z a-j/\nc (G7 a j d=G7 a (c+2) [])/\nc (Cw wr b (U (V ⟨g,0,Y⟩) (Z a) W) a j D)/\nc (AI wr l [X J 0,O ⟨#[]⟩,U Y 0 0] 187)/\nc (AI wr A [X J m.place,O m.text,U R (Z d) S] 187)/\oi wr (A+1) 215 2 (U R (Z d) S) (Z d) (d.flatMap Ar)/\nc (Ac [b] w wr)/\A+1<=wr.heap.size/\Z d<=j)
   case atStart=>exact⟨c+2,[],Y,0,rfl,rfl,LC,K8,HV,mS _ _ _ _,KS,by omega,by simp⟩
   case round=>
    clear HV K8 LC KS JJ;obtain⟨j,d,R,S,NE,HL,G,HB,HA,HU,hK,hz,X2⟩:=hrel;have HG:=Ab NE;clear NE;have FP:=G.lt;(go_wp2_with fail);refine(Py b (U (V ⟨g,0,Y⟩) (Z a) W) a j D _ G HO (Au a j) (Bz FP)).mono ?_;intro e x FT;cases ht:G8 (Au a j) j with
    |error q=>
     rw[ht]at FT;obtain⟨n9,rfl,h6,I⟩:=FT;have HF:nc (EC a c=.error q):=H4 (.error q) (by rw[<-Aa HL];unfold G7;rw[dif_pos FP,ht]);have z:=HB.kept I (by simp;omega);have HD:=Ab (hK.trans I);clear I ht G HB HA hK HL HU;have T:=z.cell 0;have M:=z.cell 1;have L:=z.cell 2;have nf:=z.frozen;(have d0:=λo=>(z.alloc o).cell 0);(have d1:=λo=>(z.alloc o).cell 1);(have d2:=λo=>(z.alloc o).cell 2);(have df:=λo=>(z.alloc o).frozen);simp at T M L d0 d1 d2;have Nj:=z.lt;have ag:=h6.zO.lt;(have q1:¬l=x.heap.size:=by omega);(have q2:¬x.heap.size=l:=by omega);have Ax:=Ab h6;have RE:=Ab z;clear h6 z;simp only[Ar,A3];go_wp2;rw[HF.out];have BA:=(RE.zW rfl (X J 0) (O ⟨#[]⟩) (U Y 0 0)).alloc (j1 #[X q7 0,O q9] 215);refine m5 (As (P:=prog) (fn:=Tryz.f158) (p:=2) (u:=3) rfl rfl BA underlying187 rfl (by kernel_rfl)) rfl ?_;refine⟨n9,0,q9,Y,0,0,rfl,?_,?_⟩
     .exact(Ax.zW (by omega) (B0 l (by omega)) _ _ _).zL ((re [] _).alloc _)
     .have:=Aa Go;exact(HD.zW (by right;omega) _ _ _).alloc _
    |ok r=>
     obtain⟨t,n1⟩:=r;rw[ht]at FT;have N0:=GD ht;subst N0;obtain⟨rfl,h6,I⟩:=FT;have z:=Ab (HB.kept I (by simp;omega));have AH:=Ab (HA.kept I (by simp;omega));have HD:=Ab (hK.trans I);have H7:=Ag HU I (λi E f=>by simp at f;subst f;have:=(HU.lt _ E).1;omega);have RV:A+1<=x.heap.size:=nD hz I.size;have HT:=Ab ht;clear I ht G HB HA hK HU hz;have a2:=AH.cell 2;have af:=AH.frozen;(have d2:=λo=>(AH.alloc o).cell 2);(have df:=λo=>(AH.alloc o).frozen);simp at a2 d2;have Nj:=AH.lt;(have q1:¬A=x.heap.size:=by omega);(have q2:¬x.heap.size=A:=by omega);have Ax:=Ab h6;clear h6;have NL:((x.alloc (j1 (j2 (Ar t)) 215)).alloc (j1 (j2 (Ar t)) 215)).heap[x.heap.size+1]?=V (j1 (j2 (Ar t)) 215 (0,0)):=by
      have C:=m7 (x.alloc (j1 (j2 (Ar t)) 215)) (j1 (j2 (Ar t)) 215);rw[show(x.alloc (j1 (j2 (Ar t)) 215)).heap.size=x.heap.size+1 from by simp]at C
      exact C
     have Nq:=mE (mE H7 (j1 (j2 (Ar t)) 215)) (j1 (j2 (Ar t)) 215);(have ab:Z d<=1000:=by omega);have KA:nc (∀s,((x.alloc (j1 (j2 (Ar t)) 215)).alloc (j1 (j2 (Ar t)) 215)).grownBy s (U R (Z d) S).ownBlock->Ac (U R (Z d) S).ownBlock.toList x s):=by
      intro s hg;exact(((re _ x).alloc _).alloc _).grown hg (λk B=>lo (by simp[B]))
     (have H2:nc (∀i∈(U R (Z d) S).ownBlock.toList,A+1<=i):=λi E=>(H7.lt i (by simpa using E)).1);have K1:nc (∀s,((x.alloc (j1 (j2 (Ar t)) 215)).alloc (j1 (j2 (Ar t)) 215)).grownBy s (U R (Z d) S).ownBlock->oa s ⟨A,2,Y⟩=V (U R (Z d) S)/\s.frozen? ⟨A,2,Y⟩=K):=by
      intro s hg;have hb:=AH.kept (KA s hg) (λf=>by have:=Aa H2 A f;omega);exact⟨hb.cell 2,hb.frozen 2⟩
     simp only[Ar];go_wp2_with (at_builtin;refine mZ _ rfl (.tmp 51) (.tmp 53) _ rfl (A+1) 215 i0 _ 2 24 underlying185 VS RT WW VL rfl (by omega) (U R (Z d) S) (Z d) (d.flatMap Ar) rfl Nq ⟨x.heap.size+1,0,Y⟩ 1 1 (Ar t) rfl rfl (mW (cs:=j2 (Ar t)) (t:=215) (fr:=(0,0)) NL) (by simp[Value.oneCell',Ar]) (by omega) (by unfold maxLen;omega) (by omega) (by simp;omega) (x.heap.size+1+1) (by simp) ?_;intro v y s K9 HE NV RB;have SS:=(K1 s HE).1;have NY:=(K1 s HE).2)
     have kr:=Aa KA s HE;have CL:=Aa H2;have X0:=Aa Go;have ZV:A+1<=v:=(K9.lt v rfl).1;have M3:Cw s b (U (V ⟨g,0,Y⟩) (Z a) W) a (j+1) D:=⟨Ax.zO.kept kr (λf=>by have:=CL b f;omega),Ag Ax.row kr (λi E f=>by have:=CL i f;simp[qX]at E;omega),Ax.ap,Ax.lt,Ax.len⟩;have H1:=Ab (M3.other (p:=⟨A,2,Y⟩) (by simp;omega) (B0 A (by omega)) (U (V ⟨v,0,Y⟩) (Z d+1) y));have JA:=Ab ((z.kept kr (λf=>by have:=CL l f;omega)).zB ⟨A,2,Y⟩ (by simp;omega) (U (V ⟨v,0,Y⟩) (Z d+1) y));have K2:nc (AI (s.setCell ⟨A,2,Y⟩ (U (V ⟨v,0,Y⟩) (Z d+1) y)) A [X J m.place,O m.text,U (V ⟨v,0,Y⟩) (Z d+1) y] 187):=(AH.kept kr (λf=>by have:=CL A f;omega)).set 2 _;have M6:Ac [b] w s:=HD.trans' kr (λi E=>lx (by have:=CL i E;omega));have IA:=Ab (M6.setCell (p:=⟨A,2,Y⟩) (by right;simp;omega) (U (V ⟨v,0,Y⟩) (Z d+1) y));have HI:=Ah K9 (p:=⟨A,2,Y⟩) (by simp[qX];omega) (U (V ⟨v,0,Y⟩) (Z d+1) y);(have LD:A+1<=(s.setCell ⟨A,2,Y⟩ (U (V ⟨v,0,Y⟩) (Z d+1) y)).heap.size:=by have:=kr.size;simp;omega);clear kr CL M3 M6 HE NV RB K9 SS NY KA H2 K1 NL Nq H7 AH z HD Ax a2 d2 af df q1 q2 Nj RV;generalize s.setCell ⟨A,2,Y⟩ (U (V ⟨v,0,Y⟩) (Z d+1) y)=w10 at H1 JA K2 IA HI LD⊢;have Ha:=H1.lt;refine(Ho b (U (V ⟨g,0,Y⟩) (Z a) W) a (j+1) D Jp _ H1 (Au a (j+1)) (Bz Ha) (HO.seen Ha Jp)).mono ?_;rintro e K4 ⟨rfl,AT,DT⟩;have MB:=Ab (JA.kept DT (by simp;omega));have EX:=Ab (K2.kept DT (by simp;omega));have NM:=Ab (IA.trans DT);have H5:=Ag HI DT (λi E f=>by simp at f;subst f;have:=(HI.lt _ E).1;omega);have S1:A+1<=K4.heap.size:=nD LD DT.size;clear DT H1 JA K2 IA HI LD;cases hs:B4 (Au a (j+1)) Jp with
     |true=>
      rw[hs]at AT;simp only[if_true]at AT;have TL:nc (G7 a (j+2) (d++[t])=G7 a (c+2) []):=by
       have C:=Aa HL
       conv at C=>lhs;unfold G7
       rw[dif_pos FP,Aa HT]at C;simp only[hs,if_true]at C;exact C
      have FO:=Ab AT;clear AT hs HL HT;go_wp2_with fail
      go_roundg (Z a-(j+2))
      case measure=>have:=Aa HG;omega
      case rel=>exact⟨j+2,d++[t],V ⟨v,0,Y⟩,y,rfl,TL,FO,MB,by simpa using EX,by simpa using H5,NM,S1,by simp;omega⟩
     |false=>
      rw[hs]at AT;simp only[mC,if_false]at AT;have HS:=Ab hs;have FO:=Ab AT;clear AT hs;have M2:nc (G7 a (c+2) []=if B4 (Au a (j+1)) Qw then .ok (d++[t],j+2)else .error (Au a (j+1)).place):=by
       have C:=Aa HL
       conv at C=>lhs;unfold G7
       rw[dif_pos FP,Aa HT]at C;simp only[Aa HS,mC,if_false]at C;exact C.symm
      have Wa:=Ab (OS b (U (V ⟨g,0,Y⟩) (Z a) W) a (j+1) D Qw _ (FO.zL (re [] K4).drew) (Au a (j+1)) (Bz Ha) (HO.seen Ha Qw));have e0:=EX.cell 0;have e1:=EX.cell 1;have e2:=EX.cell 2;simp at e0 e1 e2;(have q1:¬A=l:=by omega);(have q2:¬l=A:=by omega);(have HC:nc (∀BT,Ac [b] K4.drew BT->AI BT l [X J 0,O ⟨#[]⟩,U Y 0 0] 187/\AI BT A [X J m.place,O m.text,U (V ⟨v,0,Y⟩) (Z d+1) y] 187):=λBT k=>⟨MB.drew.kept k (by simp;omega),EX.drew.kept k (by simp;omega)⟩);clear HL HT HS FO;go_wp2_with fail
      go_region_held3 (λF=>oa F ⟨A,0,Y⟩=V (X J m.place)/\oa F ⟨A,1,Y⟩=V (O m.text)/\oa F ⟨A,2,Y⟩=V (U (V ⟨v,0,Y⟩) (Z d+1) y)) (go_keep) ((go_at_call 163;refine Wa.mono ?_;rintro e BT ⟨rfl,Q,EM⟩;have H:=Aa HC BT EM;have f0:=H.2.cell 0;have f1:=H.2.cell 1;have f2:=H.2.cell 2;have p0:=H.1.cell 0;have p1:=H.1.cell 1;have p2:=H.1.cell 2;have pf:=H.1.frozen;simp at f0 f1 f2 p0 p1 p2;have SJ:=Ab (And.intro Q (And.intro EM H));clear Q EM H))
      rename_i Os;clear Os;go_wp2;obtain⟨Q,EM,H,_⟩:=SJ;have BA:=H.zW rfl (X J m.place) (O m.text) (U (V ⟨v,0,Y⟩) (Z d+1) y);have NB:Ac [b] w BT:=NM.drew.trans EM;refine m5 (As (P:=prog) (fn:=Tryz.f158) (p:=2) (u:=3) rfl rfl BA underlying187 rfl (by kernel_rfl)) rfl ?_;cases hcl:B4 (Au a (j+1)) Qw with
      |true=>
       rw[hcl]at Q;have hA:=Aa M2;rw[hcl]at hA;simp only[if_true]at Q hA;rw[Aa H4 _ hA];have SL:=Ag (C1 H5) EM (λi E f=>by simp at f;subst f;have:=(H5.lt _ E).1;omega);(have H3:(U (V ⟨v,0,Y⟩) (Z d+1) y).ownBlock≠V l:=by simp[qX];omega);refine⟨U (V ⟨v,0,Y⟩) (Z d+1) y,A+1,rfl,by omega,?_,?_,?_⟩
       .have ho:=Ah (Ah (Ah SL (p:=⟨l,0,Y⟩) H3 (X J m.place)) (p:=⟨l,1,Y⟩) H3 (O m.text)) (p:=⟨l,2,Y⟩) H3 (U (V ⟨v,0,Y⟩) (Z d+1) y);simpa using ho
       .exact Q.zW (by omega) (B0 l (by omega)) _ _ _
       .exact NB.zW (by right;omega) _ _ _
      |false=>
       rw[hcl]at Q;have hA:=Aa M2;rw[hcl]at hA;simp only[mC,if_false]at Q hA;rw[Aa H4 _ hA];refine⟨j+1,m.place,m.text,V ⟨v,0,Y⟩,Z d+1,y,rfl,?_,?_⟩
       .exact Q.zW (by omega) (B0 l (by omega)) _ _ _
       .exact NB.zW (by right;omega) _ _ _
def ZR:zA:=⟨#[33]⟩
abbrev eu:Type:=(Int×Int×Nat×zA×rc AZ)⊕eo
def Hf(ms:rc Be)(nx:Nat):Except Int (eu×Nat):=
 if B4 (Au ms nx) ZR then
  match EC ms (nx+1)with
  | .error p=> .error p
  | .ok (a,n)=> .ok (.inl ((Au ms nx).place,1,a),n)
 else if Fm ms nx then
  match EC ms nx with
  | .error p=> .error p
  | .ok (a,n)=> .ok (.inl ((Au ms nx).place,0,a),n)
 else
  match MI ms nx with
  | .error p=> .error p
  | .ok (l,n)=> .ok (.inr l,n)
def Tl(h:oi w m T k z n y)(a:z.ownBlock≠V i)(g f e c j l d o b:ml):oi (((((((((w.setCell ⟨i,0,Y⟩ g).setCell ⟨i,1,Y⟩ f).setCell ⟨i,2,Y⟩ e).setCell ⟨i,3,Y⟩ c).setCell ⟨i,4,Y⟩ j).setCell ⟨i,5,Y⟩ l).setCell ⟨i,6,Y⟩ d).setCell ⟨i,7,Y⟩ o).setCell ⟨i,8,Y⟩ b) m T k z n y:=
 (Ah (Ah (Ah (Ah (Ah (Ah (Ah (Ah (Ah h (p:=⟨i,0,Y⟩) a g) (p:=⟨i,1,Y⟩) a f) (p:=⟨i,2,Y⟩) a e) (p:=⟨i,3,Y⟩) a c) (p:=⟨i,4,Y⟩) a j) (p:=⟨i,5,Y⟩) a l) (p:=⟨i,6,Y⟩) a d) (p:=⟨i,7,Y⟩) a o) (p:=⟨i,8,Y⟩) a b)
def ZW(b:Nat)(mv:ml)(ms:rc Be)(br:Int)(w:ly)(e:Ending)(w':ly):Except Int (eu×Nat)->Prop
 | .ok (.inl (pl,so,p,s,ts),nx)=>∃tv base,e=kt (.tuple #[oj (j2 (AE ⟨pl,so,⟨p,s,tv⟩,A3,A3⟩)),q8 jj])/\w.heap.size<=base/\oi w' base 215 2 tv (Z ts) (ts.flatMap Ar)/\Cw w' b mv ms nx br/\Ac [b] w w'
 | .ok (.inr l,nx)=>e=kt (.tuple #[oj (j2 (AE l)),q8 jj])/\Cw w' b mv ms nx br/\Ac [b] w w'
 | .error p=>∃nx l,(∃ad n cp,l.atom.tv=U ad n cp)/\e=kt (.tuple #[oj (j2 (AE l)),q8 K])/\Cw w' b mv ms nx p/\Ac [b] w w'
theorem gh(b:Nat)(A:ml)(c:rc Be)(d:Nat)(B:Int)(w:ly)(h:Cw w b A c d B)(ok:X6 c):
  Calls prog 172 #[j3 (V ⟨b,0,Y⟩)] w λe w'=>ZW b A c B w e w' (Hf c d):=by
 have HO:=Ab ok;have K4:=h.zO.lt;have Ix:∀k,A.ownBlock=V k->k<w.heap.size:=λk hk=>(h.row.lt k hk).2
 have h1:=Ab (h.zL ((re [] w).alloc (j1 (j2 (AE Dl)) 217)));have hN:=Ab (rf w (AE Dl) 217);have HU:=Ab ((re [b] w).alloc (j1 (j2 (AE Dl)) 217));have H3:(w.alloc (j1 (j2 (AE Dl)) 217)).heap.size=w.heap.size+1:=by simp
 clear h ok;go_enter func172,ntmps172;go_wp2_with fail
 change Calls _ _ _ (w.alloc (j1 (j2 (AE Dl)) 217)) _;generalize w.alloc (j1 (j2 (AE Dl)) 217)=w1 at h1 hN HU H3⊢;obtain⟨N,H8⟩:=rd w.heap.size;rw[H8]at hN K4 H3 Ix⊢;have x:nc (∀k,N<=k->A.ownBlock≠V k):=λk hk e=>by have:=Ix k e;omega
 clear Ix;have HN:=Ab H8;clear H8;refine(J6 b A c d B _ h1 (Au c d) (Bz h1.lt)).mono ?_;rintro e w2 ⟨rfl,k2⟩;have h2:=Ab (h1.zL k2);have Jx:=Ab (hN.kept k2);have KS:=Ab (HU.trans (k2.mono (by simp)));have K3:N+1<=w2.heap.size:=by have:=k2.size;omega
 clear h1 hN HU H3 k2;obtain⟨p,hp⟩:=rd (Au c d).place;have HP:=Ab hp;rw[hp];clear hp;go_wp2_with fail
 change Calls _ _ _ (w2.alloc (j1 (j2 (AE ⟨p,0,Bt,A3,A3⟩)) 217)) _;have h3:=Ab (h2.zL ((re [] w2).alloc (j1 (j2 (AE ⟨p,0,Bt,A3,A3⟩)) 217)));have HL:=Ab (Jx.alloc (j1 (j2 (AE ⟨p,0,Bt,A3,A3⟩)) 217));have FO:=Ab (rf w2 (AE ⟨p,0,Bt,A3,A3⟩) 217);have H1:=Ab (KS.alloc (j1 (j2 (AE ⟨p,0,Bt,A3,A3⟩)) 217));clear h2 Jx KS;generalize w2.alloc (j1 (j2 (AE ⟨p,0,Bt,A3,A3⟩)) 217)=w3 at h3 HL FO H1⊢;obtain⟨L,K1⟩:=rd w2.heap.size;rw[K1]at FO K3⊢;clear K1;refine(Ho b A c d B ZR _ h3 (Au c d) (Bz h3.lt) (HO.seen h3.lt ZR)).mono ?_;rintro e w4 ⟨rfl,C,k4⟩;have FW:=Ab (HL.kept k4 (by simp;omega));have Bx:=Ab (FO.kept k4 (by simp;omega));have FT:=Ab (H1.trans k4);clear h3 HL FO H1 k4;cases hs:B4 (Au c d) ZR
 case' true=>
  rw[hs]at C;simp only[if_true]at C;have S:=Ab hs;have l1:=Bx.cell 1;have lf:=Bx.frozen;simp[AE]at l1;have H4:=Ab C;clear C hs;go_wp2_with fail
  have JJ:=Aa x;have EM:=Aa HN;have Ha:=Ab (H4.other (p:=⟨L,1,Y⟩) (by simp;omega) (JJ L (by omega)) (X J 1));have F:=Ab (FW.zB ⟨L,1,Y⟩ (by simp;omega) (X J 1));have z:nc (AI (w4.setCell ⟨L,1,Y⟩ (X J 1)) L (AE ⟨p,1,Bt,A3,A3⟩) 217):=Bx.set 1 _;have B2:=Ab (FT.setCell (p:=⟨L,1,Y⟩) (by right;simp;omega) (X J 1));clear l1 lf FW Bx FT JJ EM H4;generalize w4.setCell ⟨L,1,Y⟩ (X J 1)=wa at Ha F z B2⊢;have K5:=F.lt;have K7:=z.lt;refine(PE b A c (d+1) B _ Ha HO).mono ?_;intro e w6 t;clear Ha;have HE:nc (∀q,EC c (d+1)=.error q->Hf c d=.error q):=λq g=>by unfold Hf;simp[S.out,g]
  have HG:nc (∀o m j n,EC c (d+1)=.ok ((o,m,j),n)->Hf c d=.ok (.inl (p,1,o,m,j),n)):=λo m j n g=>by unfold Hf;simp[S.out,g,HP.out]
  generalize(1:Int)=SS at z HG;generalize d+1=NA at t HE HG
 case' false=>
  rw[hs]at C;simp only[mC,if_false]at C;have S:=Ab hs;have H4:=Ab C;clear C hs;go_wp2_with fail
  refine(Vf b A c d B _ H4 HO).mono ?_;rintro e w5 ⟨rfl,k5⟩;have H5:=Ab (H4.zL k5);have BS:=Ab (FW.kept k5);have HC:=Ab (Bx.kept k5);have B0:=Ab (FT.trans (k5.mono (by simp)));clear H4 FW Bx FT k5;cases ha:Fm c d
  case' true=>
   have HA:=Ab ha;clear ha;(go_wp2_with fail);have Ha:=H5;have F:=BS;have z:=HC;have B2:=B0;clear H5 BS HC B0;have K5:=F.lt;have K7:=z.lt;refine(PE b A c d B _ Ha HO).mono ?_;intro e w6 t;clear Ha;(have HE:nc (∀q,EC c d=.error q->Hf c d=.error q):=λq g=>by unfold Hf;simp[S.out,HA.out,g]);(have HG:nc (∀o m j n,EC c d=.ok ((o,m,j),n)->Hf c d=.ok (.inl (p,0,o,m,j),n)):=λo m j n g=>by unfold Hf;simp[S.out,HA.out,g,HP.out]);generalize(0:Int)=SS at z HG;obtain⟨NA,Go⟩:∃NA,NA=d:=⟨_,rfl⟩;(have HE:nc (∀q,EC c NA=.error q->Hf c d=.error q):=by rw[Go];exact HE);(have HG:nc (∀o m j n,EC c NA=.ok ((o,m,j),n)->Hf c d=.ok (.inl (p,SS,o,m,j),n)):=by rw[Go];exact HG);rw[<-Go]at t;clear Go
  case' false=>
   have HA:=Ab ha;clear ha;(go_wp2_with fail);refine(jc b A c d B _ H5 HO).mono ?_;intro e w6 t;clear H5;cases g:MI c d with
   |error q=>
    rw[g]at t;obtain⟨n9,l,FC,rfl,y,i⟩:=t;obtain⟨lp,ls,la,T,W⟩:=l;simp only at FC;subst FC;(have I:nc (Hf c d=.error q):=by show _=_;unfold Hf;simp[S.out,HA.out,g]);clear g;have a:=BS.kept i (by simp;omega);have M:=Ab (B0.trans i);have nf:=a.frozen;have c0:=a.cell 0;have Q:=a.cell 1;have G:=a.cell 2;have R:=a.cell 3;have c4:=a.cell 4;have c5:=a.cell 5;have c6:=a.cell 6;have c7:=a.cell 7;have H:=a.cell 8;simp[AE,Dl,Bt,A3]at c0 Q G R c4 c5 c6 c7 H;have HB:=Ab a;have HR:=Ab y;clear a y i BS HC B0;simp only[AE,Bt];go_wp2;rw[I.out];have AH:=HB.zH rfl (X J lp) (X J ls) (X J 0) (O q9) (U Y 0 0) (X q7 T.v) (O T.s) (X q7 W.v) (O W.s);refine m5 (As (P:=prog) (fn:=Tryz.f172) (p:=2) (u:=3) rfl rfl AH underlying217 rfl (by kernel_rfl)) rfl ?_;refine⟨n9,⟨lp,ls,Bt,T,W⟩,⟨_,_,_,rfl⟩,rfl,?_,?_⟩
    .exact HR.zH (by omega) (x N (by omega)) _ _ _ _ _ _ _ _ _
    .have EM:=Aa HN;exact M.zH (by right;omega) _ _ _ _ _ _ _ _ _
   |ok r=>
    obtain⟨l,n⟩:=r;rw[g]at t;have FC:=UE g;obtain⟨lp,ls,la,T,W⟩:=l;simp only at FC;subst FC;obtain⟨rfl,y,i⟩:=t;(have I:nc (Hf c d=.ok (.inr ⟨lp,ls,Bt,T,W⟩,n)):=by show _=_;unfold Hf;simp[S.out,HA.out,g]);clear g;have a:=BS.kept i (by simp;omega);have M:=Ab (B0.trans i);have nf:=a.frozen;have c0:=a.cell 0;have Q:=a.cell 1;have G:=a.cell 2;have R:=a.cell 3;have c4:=a.cell 4;have c5:=a.cell 5;have c6:=a.cell 6;have c7:=a.cell 7;have H:=a.cell 8;simp[AE,Dl,Bt,A3]at c0 Q G R c4 c5 c6 c7 H;have HB:=Ab a;have HR:=Ab y;clear a y i BS HC B0;simp only[AE,Bt];go_wp2;rw[I.out];have AH:=HB.zH rfl (X J lp) (X J ls) (X J 0) (O q9) (U Y 0 0) (X q7 T.v) (O T.s) (X q7 W.v) (O W.s);refine m5 (As (P:=prog) (fn:=Tryz.f172) (p:=2) (u:=3) rfl rfl AH underlying217 rfl (by kernel_rfl)) rfl ?_;refine⟨rfl,?_,?_⟩
    .exact HR.zH (by omega) (x N (by omega)) _ _ _ _ _ _ _ _ _
    .have EM:=Aa HN;exact M.zH (by right;omega) _ _ _ _ _ _ _ _ _
 all_goals
  cases g:EC c NA with
  |error q=>
   rw[g]at t;obtain⟨n9,ap,an,D,HJ,E,rfl,y,i⟩:=t;have I:nc (Hf c d=.error q):=HE q g;clear g;have a:=F.kept i (by simp;omega);have f:=z.kept i (by simp;omega);have M:=Ab (B2.trans i);have l0:=f.cell 0;have l1:=f.cell 1;have l2:=f.cell 2;have l3:=f.cell 3;have l4:=f.cell 4;have l5:=f.cell 5;have l6:=f.cell 6;have l7:=f.cell 7;have l8:=f.cell 8;have lf:=f.frozen;have nf:=a.frozen;have c0:=a.cell 0;have Q:=a.cell 1;have G:=a.cell 2;have R:=a.cell 3;have c4:=a.cell 4;have c5:=a.cell 5;have c6:=a.cell 6;have c7:=a.cell 7;have H:=a.cell 8;simp[AE,Dl,Bt,A3]at l0 c0 l1 Q l2 G l3 R l4 c4 l5 c5 l6 c6 l7 c7 l8 H;(have q1:¬L=N:=by omega);(have q2:¬N=L:=by omega);have HB:=Ab a;have HR:=Ab y;clear a f y i F z B2;simp only[AW];go_wp2;rw[I.out];have AH:=(((HB.zB ⟨L,2,Y⟩ (by simp;omega) (X J ap)).zB ⟨L,3,Y⟩ (by simp;omega) (O an)).zB ⟨L,4,Y⟩ (by simp;omega) (U D HJ E)).zH rfl (X J p) (X J SS) (X J ap) (O an) (U D HJ E) (X q7 0) (O q9) (X q7 0) (O q9);refine m5 (As (P:=prog) (fn:=Tryz.f172) (p:=2) (u:=3) rfl rfl AH underlying217 rfl (by kernel_rfl)) rfl ?_;refine⟨n9,⟨p,SS,⟨ap,an,U D HJ E⟩,A3,A3⟩,⟨_,_,_,rfl⟩,rfl,?_,?_⟩
   .exact(((HR.other (p:=⟨L,2,Y⟩) (by simp;omega) (x L (by omega)) _).other (p:=⟨L,3,Y⟩) (by simp;omega) (x L (by omega)) _).other (p:=⟨L,4,Y⟩) (by simp;omega) (x L (by omega)) _).zH (by omega) (x N (by omega)) _ _ _ _ _ _ _ _ _
   .have EM:=Aa HN;exact(((M.setCell (p:=⟨L,2,Y⟩) (by right;simp;omega) _).setCell (p:=⟨L,3,Y⟩) (by right;simp;omega) _).setCell (p:=⟨L,4,Y⟩) (by right;simp;omega) _).zH (by right;omega) _ _ _ _ _ _ _ _ _
  |ok r=>
   obtain⟨⟨o,m,j⟩,n⟩:=r;rw[g]at t;obtain⟨tv,KK,rfl,LD,HH,y,i⟩:=t;obtain⟨D,E,rfl⟩:=Al HH;have I:nc (Hf c d=.ok (.inl (p,SS,o,m,j),n)):=HG _ _ _ _ g;have H7:nc (_/\(∀k,k<KK->(U D (Z j) E).ownBlock≠V k)):=⟨HH,λk hk e=>by have:=(HH.lt k e).1;omega⟩;clear g HH;have a:=F.kept i (by simp;omega);have f:=z.kept i (by simp;omega);have M:=Ab (B2.trans i);have l0:=f.cell 0;have l1:=f.cell 1;have l2:=f.cell 2;have l3:=f.cell 3;have l4:=f.cell 4;have l5:=f.cell 5;have l6:=f.cell 6;have l7:=f.cell 7;have l8:=f.cell 8;have lf:=f.frozen;have nf:=a.frozen;have c0:=a.cell 0;have Q:=a.cell 1;have G:=a.cell 2;have R:=a.cell 3;have c4:=a.cell 4;have c5:=a.cell 5;have c6:=a.cell 6;have c7:=a.cell 7;have H:=a.cell 8;simp[AE,Dl,Bt,A3]at l0 c0 l1 Q l2 G l3 R l4 c4 l5 c5 l6 c6 l7 c7 l8 H;(have q1:¬L=N:=by omega);(have q2:¬N=L:=by omega);have HB:=Ab a;have HR:=Ab y;clear a f y i F z B2;simp only[AW];go_wp2;rw[I.out];have AH:=(((HB.zB ⟨L,2,Y⟩ (by simp;omega) (X J o)).zB ⟨L,3,Y⟩ (by simp;omega) (O m)).zB ⟨L,4,Y⟩ (by simp;omega) (U D (Z j) E)).zH rfl (X J p) (X J SS) (X J o) (O m) (U D (Z j) E) (X q7 0) (O q9) (X q7 0) (O q9);refine m5 (As (P:=prog) (fn:=Tryz.f172) (p:=2) (u:=3) rfl rfl AH underlying217 rfl (by kernel_rfl)) rfl ?_;have IJ:=H7.out.2 L (by omega);have LB:=H7.out.2 N (by omega);refine⟨U D (Z j) E,KK,rfl,by have:=Aa HN;omega,?_,?_,?_⟩
   .exact Tl (Ah (Ah (Ah H7.out.1 (p:=⟨L,2,Y⟩) IJ _) (p:=⟨L,3,Y⟩) IJ _) (p:=⟨L,4,Y⟩) IJ _) LB _ _ _ _ _ _ _ _ _
   .exact(((HR.other (p:=⟨L,2,Y⟩) (by simp;omega) (x L (by omega)) _).other (p:=⟨L,3,Y⟩) (by simp;omega) (x L (by omega)) _).other (p:=⟨L,4,Y⟩) (by simp;omega) (x L (by omega)) _).zH (by omega) (x N (by omega)) _ _ _ _ _ _ _ _ _
   .have EM:=Aa HN;exact(((M.setCell (p:=⟨L,2,Y⟩) (by right;simp;omega) _).setCell (p:=⟨L,3,Y⟩) (by right;simp;omega) _).setCell (p:=⟨L,4,Y⟩) (by right;simp;omega) _).zH (by right;omega) _ _ _ _ _ _ _ _ _
end Go.Proofs.YtoihbhenbmffcaaGreatDoor
namespace Go.Proofs.YtoihbhenbmffcaaGreatDoor
open Go.RowKit Go.Proofs.Tryz
section
variable {P:Program} {ops:Array Oper} {Q:Exit->Act->ly->Prop} {md:Region.Mode} {S:ly->Prop} {k:Nat}
def Cz(P:Program)(md:Region.Mode)(ops:Array Oper)(Q:Exit->Act->ly->Prop)(S:ly->Prop)(k:Nat):Nat->Array Bool->Act->ly->Prop
 |0,listed,a,w=>Region.ready md ops listed=[]/\Q .normal a w
 |fuel+1,listed,a,w=>(Region.ready md ops listed=[]->Q .normal a w)/\
  ∀i∈Region.ready md ops listed,wpOp P ops Q i (λa' w'=>(i≠k->S w')/\Cz P md ops Q S k fuel (listed.setIfInBounds i jj) a' w') a w
def Cz.any:∀(b:Nat) (c:Array Bool) (a:Act) (w:ly),Cz P md ops Q S k b c a w->wpAny P md ops Q b c a w
 |0,_,_,_,h=>h
 |b+1,_,_,_,h=>⟨h.1,λi g=>wpOp_mono (λf e d=>Cz.any b _ f e d.2) (h.2 i g)⟩
def RL(md:Region.Mode)(ops:Array Oper)(k i:Nat):Bool:=match ops[k]? with|some o=>o.after.any λe=>Region.binds md e&&e.on==i|none=>K
def UB{i:Nat}{b:Array Bool}(h:RL md ops k i=jj)(f:b.getD i jj=K):k∉Region.ready md ops b:=λg=>by
 obtain⟨_,o,l,j⟩:=mem_ready.1 g;unfold RL at h;rw[l]at h;obtain⟨e,m,d⟩:=Array.any_eq_true'.1 h;simp only[mV,oI]at d;have a:=j e m d.1;rw[d.2]at a;rcases Nat.lt_or_ge i b.size with c|c
 .simp[c]at f a;rw[f]at a;cases a
 .simp[pU c]at a
def Cz.first{i:Nat}{n:Oper}{v:ml}(B:ops[i]?=V n)(G:∀(j:Nat) (o:Oper) p b,ops[j]?=V o->o.op≠ .select p b)
  (T:∀c a w,Q (.panic c) (a.put n.dst v) w->Q (.panic c) a w) (W:RL md ops k i=jj):
  ∀(r:Nat) (f:Array Bool) (a:Act) (w:ly),
   (∀j m,ops[j]?=V m->j≠i->f.getD j jj=K->(∀e∈m.after,Region.binds md e=jj->e.on≠i)->n.apart ops m=jj)->
   i∈Region.ready md ops f->YieldsIf P ops S n v a->S w->
   Cz P md ops Q S k r (f.setIfInBounds i jj) (a.put n.dst v) w->Cz P md ops Q S k (r+1) f a w:=by
 intro r
 induction r with
 |zero=>
  intro f a w _ l u t H;refine⟨λh=>(by rw[h]at l;cases l),λj s=>?_⟩;by_cases d:j=i
  .subst d;exact u.wpOp B t ⟨λ_=>t,H⟩
  .have:=qC s d;rw[H.1]at this;cases this
 |succ r ih=>
  intro f a w E l u t H;have A:=(mem_ready.1 l).1;refine⟨λh=>(by rw[h]at l;cases l),λj s=>?_⟩;by_cases d:j=i
  .subst d;exact u.wpOp B t ⟨λ_=>t,H⟩
  ·(have D:j≠k:=λe=>UB W A (e▸s));have h1:=H.2 j (qC s d);obtain⟨C,m,y,AT⟩:=mem_ready.1 s;have AB:∀e∈m.after,Region.binds md e=jj->e.on≠i:=λe he N R=>by
    have g:=AT e he N;rw[R]at g;rcases Nat.lt_or_ge i f.size with z|z
    .simp[z]at A g;rw[A]at g;cases g
    .simp[pU z]at g
   have g:=wpOp_putIf y (E j m y d C AB) (λp b=>G i n p b B) (λp b=>G j m p b y) T u h1;refine wpOp_mono (λa' M x=>⟨λ_=>x.2.1 D,ih (f.setIfInBounds j jj) a' M (λq oq hq AR I L=>E q oq hq AR ?_ L) (qC l (Ne.symm d)) x.1 (x.2.1 D) ?_⟩) g
   .by_cases F:j=q
    .subst F;exact C
    .rw[getD_set_ne jj F]at I;exact I
   .rw[qD _ _ d];exact x.2.2
def Cz.take{i:Nat}{d:Oper}{v:ml}{e:Nat}{b:Array Bool}{a:Act}{w:ly}(f:ops[i]?=V d)
  (o:Region.noSelect ops=jj) (g:Region.free md ops b i=jj) (n:(Region.ready md ops b).contains i=jj) (j:RL md ops k i=jj)
  (p:∀c a w,Q (.panic c) (a.put d.dst v) w->Q (.panic c) a w) (m:S w) (l:YieldsIf P ops S d v a)
  (h:Cz P md ops Q S k e (b.setIfInBounds i jj) (a.put d.dst v) w):Cz P md ops Q S k (e+1) b a w:=
 Cz.first f (Region.noSelect_spec o) p j e b a w (Region.free_spec f g) (by simpa using n) l m h
def lG(md:Region.Mode)(ops:Array Oper)(listed:Array Bool)(i:Nat)(b:Bool):Bool:=Region.noSelect ops&&Region.free md ops listed i&&(Region.ready md ops listed).contains i&&b
def Cz.tk{i:Nat}{d:Oper}{v:ml}{f:Nat}{e:Array Bool}{a:Act}{w:ly}(n:ops[i]?=V d)(b:lG md ops e i (RL md ops k i)=jj)
  (m:∀c a w,Q (.panic c) (a.put d.dst v) w->Q (.panic c) a w) (l:nc (S w)) (g:Region.wanted d (yielded ops a.tmps)=jj) (j:∀w,S w->(execOp a.eval d).run P w=.ok (.value v) w)
  (h:Cz P md ops Q S k f (e.setIfInBounds i jj) (a.put d.dst v) w):Cz P md ops Q S k (f+1) e a w:=by
 unfold lG at b;simp only[mV]at b;exact Cz.take n b.1.1.1 b.1.1.2 b.1.2 b.2 m l (lo ⟨g,j⟩) h
theorem Cz.tq{i:Nat}{b:Oper}{v:ml}{e:Nat}{d:Array Bool}{a:Act}{w:ly}(n:ops[i]?=V b)(g:∀c a w,Q (.panic c) (a.put b.dst v) w->Q (.panic c) a w)(l:nc (S w))(h:Cz P md ops Q S k e (d.setIfInBounds i jj) (a.put b.dst v) w)(m:lG md ops d i (RL md ops k i)=jj:=by kernel_rfl)(f:Region.wanted b (yielded ops a.tmps)=jj:=by rfl)
  (j:∀w,S w->(execOp a.eval b).run P w=.ok (.value v) w:=by(intro o p;(try go_split_ands);go_simp)):Cz P md ops Q S k (e+1) d a w:=Cz.tk n m g l f j h
def BI{Q:Exit->Act->ly->Prop}(h:nc (∀c a w,¬Q (.panic c) a w)){d:Option Tmp}{v:ml}:∀c a w,Q (.panic c) (Act.put a d v) w->Q (.panic c) a w:=λ_ _ _ b=>absurd b (h _ _ _)
def Cz.one{i:Nat}{o:Oper}{m:Nat}{e:Array Bool}{a:Act}{w:ly}(n:Region.ready md ops e=[i])(q:ops[i]?=V o)
  (h:∀f:Act->ly->Prop,nc (∀l c,(i≠k->S c)->Cz P md ops Q S k m (e.setIfInBounds i jj) l c->f l c)->
   if Region.wanted o (yielded ops a.tmps)=jj then o.wp P a w f Q else f (a.put o.dst undef) w):Cz P md ops Q S k (m+1) e a w:=by
 refine⟨λp=>(by rw[n]at p;cases p),λj g=>?_⟩;rw[n]at g;simp only[my]at g;subst g;have b:=h _ (λl c r b=>And.intro r b);unfold wpOp;simp only[q];split
 .rename_i d;rw[mK d]at b;exact .inl b
 .rename_i d;rw[mJ d]at b;exact b
def Cz.done{b:Array Bool}{a:Act}{w:ly}(c:Region.ready md ops b=[])(h:Q .normal a w):∀d,Cz P md ops Q S k d b a w
 |0=>⟨c,h⟩
 |_+1=>⟨λ_=>h,by rw[c];simp⟩
def CA{b:Nat}{a:Act}{w:ly}(k:Nat)(S:ly->Prop)(c:P.follows .mixedOrders=jj)
  (h:Cz P .any ops Q S k ops.size (Array.replicate ops.size K) a w.drew):(Code.region b ops jj).wp P Q a w:=
 wp_region_any c (Cz.any _ _ _ _ h)
end
end Go.Proofs.YtoihbhenbmffcaaGreatDoor
namespace Go.Proofs.YtoihbhenbmffcaaGreatDoor
open Go.RowKit Go.Proofs.Tryz
set_option maxRecDepth 100000
theorem cH(E:rc ml)(j:Nat)(x:zA)(w:ly)(c:Z E=26)(p:j<26)(q:(oj (j2 E)).cells=j2 E)(g:∀v∈E,v.oneCell'=jj):
  Calls prog 179 #[oj (j2 E),X q7 ((j:Int)+65),O x] w λr k=>r=kt (oj (j2 (E.set j (O x))))/\Ac [] w k:=by
 have m:IntKind.i32.wrap (j:Int)=j:=by rw[IntKind.wrap_i32];omega
 have s:IntKind.i32.wrap ((j:Int)+65-65)=j:=by rw[show(j:Int)+65-65=j by omega];exact m
 have n:(0:Int)<=(j:Int):=by omega
 have o:(j:Int)<26:=by omega
 have i:nc (∀v∈E.set j (O x),v.oneCell'=jj):=by
  intro v l;rcases List.mem_or_eq_of_mem_set l with h|rfl
  .exact g v h
  .rfl
 have a:nc (Z (E.set j (O x))=26):=by show _=_;simp[c]
 have d:nc ((E.set j (O x)).toArray.size=26):=by show _=_;simp[c]
 go_enter func179,ntmps179;go_wp2_with (first|(refine oL rfl 243 _ rfl w.heap.size 0 (by rfl) (E.set j (O x)) _ ?_ underlying243 rfl ?_ ?_)|(refine oR rfl 243 _ _ rfl (w.heap.size+1) 0 (j2 (E.set j (O x))) (by rfl) (by rfl) ?_ ?_ ?_ ?_))
 .exact((rf w (E.set j (O x)) 243).alloc _).range
 .rw[Aa a];exact Tryz.zI
 .have h:=(rf (w.alloc (j1 (j2 (E.set j (O x))) 243)) (qV 26 (O ⟨#[]⟩)) 243).there;simp only[oO,m9]at h;rw[Aa d];exact h
 .rw[Aa d];exact Tryz.zI
 .exact oe i
 .have e:=(rf (w.alloc (j1 (j2 (E.set j (O x))) 243)) (qV 26 (O ⟨#[]⟩)) 243).zQ (E.set j (O x)) (by rw[Aa a];simp);have f:=((((re [] w).alloc (j1 (j2 (E.set j (O x))) 243)).alloc (j1 (j2 (qV 26 (O ⟨#[]⟩))) 243)).zK (b:=w.heap.size+1) (lx (by omega)) (E.set j (O x)) 0);simp only[m9]at e;refine m5 (Cj (b:=w.heap.size+1) rfl (by rfl) e underlying243 rfl (by rw[Aa a];exact Tryz.zI)) rfl ⟨rfl,f⟩
