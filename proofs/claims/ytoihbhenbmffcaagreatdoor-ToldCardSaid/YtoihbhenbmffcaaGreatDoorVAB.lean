import Derived.Deep.RegionHeld3
import Derived.Test.YtoihbhenbmffcaaGreatDoorVAA
set_option linter.all false
set_option maxHeartbeats 0
open List renaming length->Z,toArray->D6,replicate->NP
open Option renaming none->Y,some->V
open Go.Value renaming slice->U,int->X,string->O,pointer->Gi,agg->Ms,bool->No,ownBlock->OC
open Bool renaming false->K,true->Cm
open Go.IntKind renaming i64->J,i32->M8
open Go.Obj renaming cells->Dj
open Go.Ending renaming returned->G3
open Or renaming inl->Hd,inr->Hf
open Go renaming World->Hq,Value->Hs
open Go.RowKit renaming Hid->JR
open Go.World renaming cell?->Lc,ownsRow->Mi
open ByteArray renaming empty->ND
open Go.Op renaming bytesLess->Pf
namespace Go.Proofs.YtoihbhenbmffcaaGreatDoor
open Go.RowKit Go.Proofs.Tryz
variable{w v:Hq}{s t:bC}{n k m b i:Nat}{P:Program}{I:Int}{z:Hs}{y:QC Hs}{T:TypeId}{M:QC Nat}
def DB(w:Hq)(N:Nat)(s:bC)(pos:Nat):Hq:={w with heap:=w.heap.setIfInBounds N (.stringIter s pos)}
def Rf{N:Nat}{pos:Nat}(h:N<w.heap.size):(DB w N s pos).heap[N]?=V (.stringIter s pos):=by
 simp[DB,h]
def Su(h:k≠n):(DB w n s m).heap[k]?=w.heap[k]?:=by
 have a:¬n=k:=λe=>h e.symm
 simp[DB,Array.getElem?_setIfInBounds,a]
def JP(w:Hq)(N:Nat)(s:bC)(a:Nat):(DB w N s a).heap.size=w.heap.size:=by simp[DB]
def Eg(w:Hq)(N:Nat)(s:bC)(a:Nat):Ac [N] w (DB w N s a):=
 ⟨rfl,rfl,rfl,by rw[JP];exact lX _,λk _ b=>Su (by simpa using b)⟩
def Xy(a:w.heap[n]?=V (.stringIter s m))(b:TypeId)(h:m<s.size):
  (Instr.next (Gi (V ⟨n,0,Y⟩)) Cm b).run P w=.ok (.tuple #[No Cm,X J m,X M8 (Utf8.decode s m).1]) (DB w n s (m+(Utf8.decode s m).2)):=by
 simp only[Instr.next,getObj,setObj,pD,Sem.run,a,Result.andThen,h,if_true];simp[goInt,DB]
def Xj(a:w.heap[n]?=V (.stringIter s m))(b:TypeId)(h:¬m<s.size):
  (Instr.next (Gi (V ⟨n,0,Y⟩)) Cm b).run P w=.ok (.tuple #[No K]) w:=by
 simp[Instr.next,getObj,Sem.run,a,h]
def Jk(s:bC)(a:Nat)(h:a<s.size):1<=(Utf8.decode s a).2:=by
 by_cases b:(s[a]'h).toNat<128
 .rw[ot s a h b];exact lX _
 .exact(pT s a h (by omega)).2
def WQ(s:bC)(a:Nat):(Utf8.decode s a).2<=4:=by
 unfold Utf8.decode;simp only
 repeat' split
 all_goals simp
def gZ(r:Int):0<(Utf8.encode r).size:=by
 unfold Utf8.encode;simp only;generalize(if Utf8.valid r=Cm then r.toNat else Utf8.runeError)=c
 repeat' split
 all_goals simp[ByteArray.size]
def Fk(s:bC)(pos:Nat)(ms:QC Bf):QC Bf:=
 if h:pos<s.size/\1<=(Utf8.decode s pos).2 then have _h1:pos<s.size:=h.1;have _h2:=h.2;Fk s (pos+(Utf8.decode s pos).2) (Mt ms pos (Utf8.decode s pos).1)else ms
def F1(a:QC Bf)(h:n<s.size):Fk s n a=Fk s (n+(Utf8.decode s n).2) (Mt a n (Utf8.decode s n).1):=by
 conv=>lhs;rw[Fk]
 rw[dif_pos ⟨h,Jk s n h⟩]
def PK(a:QC Bf)(h:¬n<s.size):Fk s n a=a:=by
 rw[Fk,dif_neg (by omega)]
def Ji(m:Bf):Bf:=if JC m then m else{m with kind:=0}
def Fe(s:bC):Bf:=⟨1,s.size,ND⟩
def Dt(s:bC):QC Bf:=(Fk s 0 []).map Ji++[Fe s]
structure L2(s:bC)(pos:Nat)(ms:QC Bf):Prop where
 len:Z ms<=pos
 each:∀m∈ms,m.place<pos/\0<m.text.size/\m.text.size<=4*pos
def L2.lay{b:QC Bf}(h:L2 s n b)(g:n<k):L2 s k (Mt b n I):=by
 have l:=Zs I;have o:=gZ I;have d:∀m∈b,m.place<k/\0<m.text.size/\m.text.size<=4*k:=λm c=>by have:=h.each m c;omega
 have j:=h.len;unfold Mt;split
 .exact⟨by omega,d⟩
 .split
  .rename_i m c;have f:=List.mem_of_getLast? c;have i:=h.each m f;split
   .refine⟨?_,λx a=>?_⟩
    ·(have:b≠[]:=by intro e;rw[e]at c;simp at c);have:0<Z b:=List.length_pos_iff.2 this;simp;omega
    .rcases lV.1 a with a|a
     .exact d x (List.dropLast_subset b a)
     .simp only[lG]at a;subst a;simp only[lK];omega
   .refine⟨by simp;omega,λx a=>?_⟩;rcases lV.1 a with a|a
    .exact d x a
    .simp only[lG]at a;subst a;simp only[CF];omega
  .refine⟨by simp;omega,λx a=>?_⟩;rcases lV.1 a with a|a
   .exact d x a
   .simp only[lG]at a;subst a;simp only[CF];omega
def Gq(T:QC Bf)(k:Nat):QC Bf:=(T.take k).map Ji++T.drop k
def Jj(T:QC Bf)(k:Nat)(a:k<=Z T):Z (Gq T k)=Z T:=by simp[Gq];omega
def Po{T:QC Bf}(a:k<Z T):Gq T k=(T.take k).map Ji++T[k]::T.drop (k+1):=by
 unfold Gq;rw[lY a]
def Yh{T:QC Bf}(a:k<Z T):Gq T (k+1)=(T.take k).map Ji++Ji T[k]::T.drop (k+1):=by
 unfold Gq;rw[lF a,mx,mO];rfl
def bh(b c:QC Bf)(m:Bf)(n:Nat)(d:Z b=n):((b++m::c).flatMap Bu).set (n*3) (X J 0)=(b++{m with kind:=0}::c).flatMap Bu:=by
 subst d;have e:Z (b.flatMap Bu)=Z b*3:=by
  induction b with
  |nil=>rfl
  |cons a l ih=>rw[mc,lU,ih,GL,lQ];omega
 simp only[mm,mc];rw[pP _ _ (by omega),e];simp[Bu]
set_option maxRecDepth 100000
theorem ZP(s:bC)(w:Hq)(hs:s.size<=300):
  Calls prog 114 #[O s] w λe w'=>∃v,e=G3 v/\Mi w' (w.heap.size+1) 206 3 v (Z (Dt s)) ((Dt s).flatMap Bu)/\Ac [] w w':=by
 obtain⟨i0,HH,FF,HK,HA⟩:=mH Tryz.zR;have H1:∀(x:Bool) (w:Hq),(Op.unary .not (No x)).run prog w=.ok (No (!x)) w:=λ_ _=>rfl
 go_enter func114,ntmps114;go_wp2;obtain⟨T,hT⟩:=QP (Fk s 0 []);have HT:=Ab hT;clear hT
 go_loopg [3] s.size (λgk o wr=>∃(pos:Nat) (b:QC Bf),gk=s.size-pos/\pos<=s.size+4/\JR (Fk s pos b=T/\L2 s pos b)/\wr.heap[w.heap.size]?=V (.stringIter s pos)/\Mi wr (w.heap.size+1) 206 3 o (Z b) (b.flatMap Bu)/\Ac [] w wr/\w.heap.size+1<=wr.heap.size)
 case atStart=>
  exact⟨0,[],by simp,by omega,⟨HT,⟨by simp,by simp⟩⟩,World.iter_heap w s 0,mf _ _ _ _,(SF _ _).alloc _,by simp[World.iter]⟩
 case round=>
  obtain⟨pos,b,EK,HR,p,BS,d,j,r⟩:=hrel;have HG:=Ab EK;have S:=Ab BS;clear EK BS;obtain⟨ad,AR,rfl⟩:=Ak d;by_cases F:pos<s.size
  .obtain⟨u,a,E⟩:∃u a,Utf8.decode s pos=(u,a):=⟨_,_,rfl⟩;(have H2:a<=4:=by have:=WQ s pos;rw[E]at this;exact this);(have H0:1<=a:=by have:=Jk s pos F;rw[E]at this;exact this);have AB:∀z,(Instr.next (Gi (V ⟨w.heap.size,0,Y⟩)) Cm z).run prog wr=.ok (.tuple #[No Cm,X J pos,X M8 u]) (DB wr w.heap.size s (pos+a)):=by
    intro z;have h:=Xy (P:=prog) S z F;rw[E]at h;exact h
   have B:=Ad d (Eg wr w.heap.size s (pos+a));have A1:=Ab (Rf (w:=wr) (N:=w.heap.size) (s:=s) (pos:=pos+a) (by omega));(have AH:w.heap.size+1<=(DB wr w.heap.size s (pos+a)).heap.size:=by rw[JP];exact r);have A:Ac [] w (DB wr w.heap.size s (pos+a)):=j.trans' (Eg wr w.heap.size s (pos+a)) (by simp);have HL:JR (Fk s (pos+a) (Mt b pos u)=T/\L2 s (pos+a) (Mt b pos u)):=by
    refine⟨?_,p.out.2.lay (by omega)⟩;have h:=p.out.1;rw[F1 b F,E]at h;exact h
   (have FW:Z b<=1000000:=by have:=p.out.2.len;omega);(have EX:JR (∀m∈b,m.place<=1000000/\m.text.size<=1000000):=λm f=>by have:=p.out.2.each m f;omega);clear E d j S;generalize DB wr w.heap.size s (pos+a)=w2 at AB B A1 AH A;(go_wp2_with fail);clear AB;refine(ia _ b pos u (w.heap.size+1) _ AH B FW (by omega) EX).mono ?_;rintro e M ⟨v3,rfl,FL,n⟩;have E0:=Ab ((n.block w.heap.size (by omega)).trans A1);have Go:Ac [] w M:=⟨n.os.trans A.os,n.tape.trans A.tape,n.output.trans A.output,mM A.size n.size,λk y _=>(n.block k (by omega)).trans (A.block k y (by simp))⟩;have Ha:w.heap.size+1<=M.heap.size:=mM AH n.size;clear n A A1 B AH;go_wp2_with fail
   go_roundg (s.size-(pos+a))
   case measure=>have:=Aa HG;omega
   case rel=>exact⟨pos+a,Mt b pos u,rfl,by omega,HL,E0,FL,Go,Ha⟩
  ·(have AB:∀z,(Instr.next (Gi (V ⟨w.heap.size,0,Y⟩)) Cm z).run prog wr=.ok (.tuple #[No K]) wr:=λz=>Xj (P:=prog) S z F);have L:JR (b=T/\L2 s pos b):=⟨by have h:=p.out.1;rwa [PK b F]at h,p.out.2⟩;clear S p;have I:=L.out.1;(have HB:JR (∀m∈T,m.text.size<=1000000/\0<m.text.size):=λm f=>by have:=L.out.2.each m (by rw[I];exact f);omega);(have HQ:Z T<=400:=by have:=L.out.2.len;rw[I]at this;omega);rw[I]at d⊢;clear L I;(have HC:JR (Dt s=T.map Ji++[Fe s]):=by show _=_;unfold Dt;rw[Aa HT]);clear HT HG;go_wp2;clear AB
   go_loopw [19] (λi wq=>∃k:Nat,i=X J k/\k<=Z T/\Mi wq (w.heap.size+1) 206 3 (U ad (Z T) AR) (Z T) ((Gq T k).flatMap Bu)/\Ac [] w wq/\w.heap.size+1<=wq.heap.size) (λi _=>Z T-(intOf i).toNat)
   case atStart=>exact⟨0,rfl,lW _,by simpa[Gq] using d,j,r⟩
   case round=>
    clear d j r;obtain⟨k,rfl,y,d,j,r⟩:=hrel;by_cases l:k<Z T
    ·(have ES:Mi wr (w.heap.size+1) 206 3 (U ad (Z T) AR) (Z (Gq T k)) ((Gq T k).flatMap Bu):=by rw[Jj T k y];exact d);obtain⟨g,HX,he,hc,Q⟩:=AC ES (λc _=>GL c) k (by rw[Jj T k y];exact l);simp only[lB]at he;obtain⟨rfl,FT,rfl⟩:=he;clear FT;obtain⟨m,f⟩:=QP (T[k]);have BB:∀h,(Gq T k)[k]'h=m:=by
      intro h;have e:(Gq T k)[k]?=V m:=by
       (have hl:Z ((T.take k).map Ji)=k:=by simp;omega);rw[Po l,ow (by omega),hl,Nat.sub_self,f];rfl
      rw[lN h]at e;exact oU e
     have G:=Q k (by rw[Jj T k y];exact l) 0 (by omega);have R:=Q k (by rw[Jj T k y];exact l) 1 (by omega);have H:=Q k (by rw[Jj T k y];exact l) 2 (by omega);rw[BB]at G R H;simp[Bu]at G R H;have EM:=HB.out m (by rw[<-f];exact lE l);have W:=V3 m wr EM.1 (λ_=>EM.2);simp only[Bu]at W;have HW:=Ab W;have D:JR (Gq T k=(T.take k).map Ji++m::T.drop (k+1)/\Gq T (k+1)=(T.take k).map Ji++Ji m::T.drop (k+1)):=⟨by rw[Po l,f],by rw[Yh l,f]⟩;clear Q BB ES W f hc;(go_wp2_with fail);refine HW.mono ?_;rintro e w1 ⟨rfl,C⟩;have Ax:=Ad d C;have BA:=j.trans C;have B2:w.heap.size+1<=w1.heap.size:=mM r C.size;cases hwh:JC m with
     |true=>
      (have HN:JR (Gq T (k+1)=Gq T k):=by show _=_;rw[D.out.1,D.out.2];simp[Ji,hwh]);clear D HW C G R H d j r;go_wp2
      go_roundw
      case rel=>exact⟨k+1,by go_num,by omega,by rw[HN.out];exact Ax,BA,B2⟩
      case measure=>simp[intOf];omega
     |false=>
      have FB:=Ax.lt g rfl;have HV:Lc w1 ⟨g,k*3,Y⟩=V (X J m.kind):=by
       rw[World.cell?_of_block (w:=wr) (C.block g (d.lt g rfl).2 (by simp))];exact G
      have H3:=Hk Ax (k*3);have HN:JR (((Gq T k).flatMap Bu).set (k*3) (X J 0)=(Gq T (k+1)).flatMap Bu):=by
       show _=_;rw[D.out.1,D.out.2,bh _ _ _ k (by simp;omega)];simp[Ji,hwh]
      clear D HW C G R H d j r;go_wp2
      go_roundw
      case rel=>
       refine⟨k+1,by go_num,by omega,?_,BA.setCell (Hf (by have:=FB.1;simp;omega)) _,by simpa using B2⟩;rw[<-HN.out];exact BG Ax (k*3) _
      case measure=>simp[intOf];omega
    ·(have FO:k=Z T:=by omega);have B:Mi wr (w.heap.size+1) 206 3 (U ad (Z T) AR) (Z T) ((T.map Ji).flatMap Bu):=by
      (have e:Gq T k=T.map Ji:=by unfold Gq;rw[lH (by omega),mp (by omega),mz]);rw[e]at d;exact d
     clear FO d;go_wp2_with (at_builtin;refine me _ rfl (.tmp 33) (.tmp 37) _ rfl (w.heap.size+1) 206 i0 _ 3 32 underlying200 HH FF HK HA rfl (by omega) (U ad (Z T) AR) (Z T) ((T.map Ji).flatMap Bu) rfl (lM B _) ⟨wr.heap.size,0,Y⟩ 1 1 (Bu (Fe s)) rfl rfl (mg (mo wr _)) (by simp[Value.oneCell',Bu]) (by omega) (by unfold maxLen;omega) (by omega) (by simp;omega) (wr.heap.size+1) (by simp) ?_;intro g1 HY M HD B0 EY FA)
     have HP:Ac [] w M:=(j.alloc _).grown B0 (λq hq=>Hf (by have:=(B.lt q hq).1;omega));clear B0 EY FA;go_wp2;go_ret;rw[HC.out];refine⟨_,rfl,?_,HP⟩;simpa using HD
structure Cr(w:Hq)(b:Nat)(mv:Hs)(ms:QC Bf)(nx:Nat)(br:Int):Prop where
 dI:AI w b [mv,X J nx,X J br] 203
 row:Mi w 0 206 3 mv (Z ms) (ms.flatMap Bu)
 ap:mv.ownBlock≠V b
 lt:nx<Z ms
 len:Z ms<=1000
def Cr.kept{w w':Hq}{a:QC Bf}{j nx':Nat}{d br':Int}(h:Cr w b z a j d)(k:Ac [b] w w')(f:AI w' b [z,X J nx',X J br'] 203)(e:nx'<Z a):Cr w' b z a nx' br':=
 ⟨f,Ai h.row k (λi g c=>by simp at c;subst c;exact h.ap g),h.ap,e,h.len⟩
def Cr.bw{a:QC Bf}(h:Cr w b z a n I)(k:Ac [] w v):Cr v b z a n I:=
 ⟨h.dI.kept k,Ad h.row k,h.ap,h.lt,h.len⟩
def Cr.cells{a:QC Bf}(h:Cr w b z a n I):∃g e,z=U (V ⟨g,0,Y⟩) (Z a) e/\Lc w ⟨b,0,Y⟩=V z/\Lc w ⟨b,1,Y⟩=V (X J n)/\Lc w ⟨b,2,Y⟩=V (X J I)/\
  ∀j (d:j<Z a),Lc w ⟨g,j*3,Y⟩=V (X J a[j].kind)/\Lc w ⟨g,j*3+1,Y⟩=V (X J a[j].place)/\Lc w ⟨g,j*3+2,Y⟩=V (O a[j].text):=by
 obtain⟨g,e,m,_,f⟩:=AC h.row (λc _=>GL c) n h.lt;refine⟨g,e,m,h.dI.cell 0,h.dI.cell 1,h.dI.cell 2,λj d=>?_⟩;have k:=f j d 0 (by omega);have l:=f j d 1 (by omega);have i:=f j d 2 (by omega);simp[Bu]at k l i;exact⟨k,l,i⟩
set_option maxRecDepth 512
theorem Jy(b:Nat)(j:Hs)(c:QC Bf)(a:Nat)(k:Int)(w:Hq)(h:Cr w b j c a k)(m:Bf)(d:c[a]'h.lt=m):
  Calls prog 161 #[Gi (V ⟨b,0,Y⟩)] w λe l=>e=G3 (X J m.place)/\Ac [] w l:=by
 obtain⟨g,s,rfl,r,q,_,f⟩:=h.cells;obtain⟨n,o,i⟩:=f a h.lt;rw[d]at o;have p:(a:Int)<(Z c:Int):=by have:=h.lt;omega
 clear n i f d h;go_enter func161,ntmps161;go_wp2
 go_quiet (fail)
 go_wp2;go_ret;exact⟨rfl,(SF _ _).drewN _⟩
theorem FK(b:Nat)(c:Hs)(a:QC Bf)(f:Nat)(i p:Int)(w:Hq)(h:Cr w b c a f i):
  Calls prog 160 #[Gi (V ⟨b,0,Y⟩),X J p] w λe j=>e=G3 (No K)/\Cr j b c a f p/\Ac [b] w j:=by
 have k:=h.dI.cell 2;have m:=h.dI.frozen 2;simp at k;have l:=h;have d:JR (Cr w b c a f i):=h;clear h l;go_enter func160,ntmps160;go_wp2;go_ret;have g:Ac [b] w (w.setCell ⟨b,2,Y⟩ (X J p)):=(SF _ _).setCell (by simp) _;exact⟨rfl,d.out.kept g (d.out.dI.set 2 _) d.out.lt,g⟩
def BY(m:Bf)(t:bC):Bool:=m.kind==5&&(m.text.toList==t.toList)
set_option maxRecDepth 100000
theorem Uc(b:Nat)(s:Hs)(d:QC Bf)(a:Nat)(p:Int)(t:bC)(w:Hq)(h:Cr w b s d a p)(m:Bf)(k:d[a]'h.lt=m):
  Calls prog 159 #[Gi (V ⟨b,0,Y⟩),O t] w λe c=>e=G3 (No (BY m t))/\Ac [] w c:=by
 obtain⟨g,r,rfl,q,o,_,n⟩:=h.cells;obtain⟨l,i,j⟩:=n a h.lt;rw[k]at l i j;have u:(a:Int)<(Z d:Int):=by have:=h.lt;omega
 have y:(0:Int)<=(a:Int):=by omega
 clear n k h;have z:=World.new_ne w _ q;have A:=World.new_ne w _ o;have B:=World.new_ne w _ l;have v:=World.new_ne w _ i;have x:=World.new_ne w _ j;go_enter func159,ntmps159;go_wp2_with fail
 go_region_held3 (λc=>Lc c ⟨b,0,Y⟩=V (U (V ⟨g,0,Y⟩) (Z d) r)/\Lc c ⟨b,1,Y⟩=V (X J a)/\Lc c ⟨g,a*3,Y⟩=V (X J m.kind)/\Lc c ⟨g,a*3+1,Y⟩=V (X J m.place)/\Lc c ⟨g,a*3+2,Y⟩=V (O m.text)) (go_keep) (fail)
 cases hk:(m.kind==5)with
 |true=>
  have f:JR (BY m t=(m.text.toList==t.toList)):=by show _=_;simp[BY,hk]
  go_wp2;all_goals
   go_ret;refine⟨Bv ?_,?_⟩
   .rw[f.out]
   .repeat (first|refine Ac.drew ?_|refine Ac.setCell ?_ (by simp) _|refine Ac.alloc ?_ _|refine Ac.drewN ?_ _)
    exact SF _ _
 |false=>
  have f:JR (BY m t=K):=by show _=_;simp[BY,hk]
  go_wp2;all_goals
   go_ret;refine⟨Bv ?_,?_⟩
   .rw[f.out]
   .repeat (first|refine Ac.drew ?_|refine Ac.setCell ?_ (by simp) _|refine Ac.alloc ?_ _|refine Ac.drewN ?_ _)
    exact SF _ _
set_option maxRecDepth 512
theorem G1(b:Nat)(o:Hs)(f:QC Bf)(c:Nat)(l:Int)(t:bC)(w:Hq)(h:Cr w b o f c l)(m:Bf)(s:f[c]'h.lt=m)(p:BY m t=Cm->c+1<Z f):
  Calls prog 162 #[Gi (V ⟨b,0,Y⟩),O t] w λe q=>e=G3 (No (BY m t))/\Cr q b o f (if BY m t then c+1 else c) l/\Ac [b] w q:=by
 have d:=Ab (Uc b o f c l t w h m s);have j:=Ab h;have B:=h.len;have y:=h.lt;clear s h;have A:∀(x:Bool) (w:Hq),(Op.unary .not (No x)).run prog w=.ok (No (!x)) w:=λ_ _=>rfl
 cases hs:BY m t with
 |true=>
  have u:=Ab (p hs);rw[hs]at d;clear hs p;simp only[if_true];go_enter func162,ntmps162;go_wp2_with fail
  refine d.mono ?_;rintro e k ⟨rfl,a⟩;have g:=j.bw a;have i:=Ab g;have v:=g.dI.cell 1;have z:=g.dI.frozen 1;simp at v;have n:=a.mono (N:=[b]) (by simp);clear g a d j;go_wp2;go_ret;have r:Ac [b] k (k.setCell ⟨b,1,Y⟩ (X J ((c:Int)+1))):=(SF _ _).setCell (by simp) _;exact⟨rfl,i.kept r (i.dI.set 1 _) u,n.trans r⟩
 |false=>
  rw[hs]at d;clear hs p;simp only[lJ,if_false];go_enter func162,ntmps162;go_wp2_with fail
  refine d.mono ?_;rintro e k ⟨rfl,a⟩;have i:=Ab (j.bw a);have n:=a.mono (N:=[b]) (by simp);clear a d j;go_wp2;go_ret;exact⟨rfl,i,n⟩
theorem Oe(b:Nat)(g:Hs)(c:QC Bf)(a:Nat)(f:Int)(t:bC)(w:Hq)(h:Cr w b g c a f)(m:Bf)(j:c[a]'h.lt=m)(r:BY m t=Cm->a+1<Z c):
  Calls prog 163 #[Gi (V ⟨b,0,Y⟩),O t] w λe n=>e=G3 (No (BY m t))/\Cr n b g c (if BY m t then a+1 else a) (if BY m t then f else m.place)/\Ac [b] w n:=by
 have i:=Ab (G1 b g c a f t w h m j r);have v:JR (∀h:a<Z c,c[a]=m):=λ_=>j
 clear j r h;cases hs:BY m t with
 |true=>
  rw[hs]at i;have z:=Ab hs;clear hs;go_enter func163,ntmps163;go_wp2_with fail
  refine i.mono ?_;rintro e s ⟨rfl,d,l⟩;have k:=Ab d;clear d;go_wp2;go_ret;exact⟨rfl,k,l⟩
 |false=>
  rw[hs]at i;clear hs;go_enter func163,ntmps163;go_wp2_with fail
  refine i.mono ?_;rintro e s ⟨rfl,d,l⟩;simp only[lJ,if_false]at d⊢;go_wp2_with fail
  refine(Jy b g c a f _ d m (v _)).mono ?_;rintro e A ⟨rfl,p⟩;have o:=d.bw p;go_wp2_with fail
  refine(FK b g c a f m.place _ o).mono ?_;rintro e y ⟨rfl,q,u⟩;have k:=Ab q;have x:=(l.trans (p.mono (by simp))).trans u;clear d o q;go_wp2;go_ret;exact⟨rfl,k,x⟩
def I7(s:bC):Bool:=Pf s.toList [97]
theorem Nn(s:bC)(w:Hq):Calls prog 144 #[O s] w λe a=>e=G3 (No (I7 s))/\a=w:=by
 go_enter func144,ntmps144;go_wp2;all_goals go_ret
 all_goals exact⟨rfl,rfl⟩
def QH:bC:=⟨#[48]⟩
def LO:Nat->bC->bC
 |0,s=>s
 |k+1,s=>if s.size<3 then LO k (QH++s)else s
def AD(s:bC):bC:=if I7 s then LO 3 s else s
set_option maxRecDepth 100000
theorem VI(s:bC)(w:Hq):Calls prog 217 #[O s] w λe b=>e=G3 (O (AD s))/\b=w:=by
 have f:=Nn s w;by_cases d:I7 s=Cm
 .rw[d]at f;have c:AD s=LO 3 s:=by unfold AD;simp[d]
  rw[c];generalize hTe:LO 3 s=T;have j:=Ab hTe;clear hTe c d;go_enter func217,ntmps217;go_wp2_with (go_at_call 144;refine f.mono ?_;rintro e b ⟨rfl,rfl⟩)
  rename_i b _ _
  go_loopg [0] 3 (λgk o wr=>∃(t:bC),o=O t/\JR (LO gk t=T)/\3<=t.size+gk/\wr=b)
  case atStart=>exact⟨s,rfl,j,by omega,rfl⟩
  case round=>
   obtain⟨t,rfl,g,m,rfl⟩:=hrel;by_cases i:t.size<3
   ·(have l:(t.size:Int)<3:=by omega);go_wp2;(have n:(QH++t).size=t.size+1:=by rw[lK];show 1+t.size=_;omega);obtain⟨k,rfl⟩:∃k,gk=k+1:=⟨gk-1,by omega⟩;have a:=Aa g;rw[LO,lS i]at a
    go_roundg k
    case measure=>omega
    case rel=>exact⟨QH++t,rfl,a,by omega,rfl⟩
   ·(have l:¬(t.size:Int)<3:=by omega);have c:JR (t=T):=by
     show t=T;have a:=Aa g;cases gk with
     |zero=>exact a
     |succ k=>rw[LO,lO i]at a;exact a
    go_wp2;go_ret;exact⟨by rw[<-Aa c];rfl,rfl⟩
 .have h:I7 s=K:=by simpa using d
  rw[h]at f;go_enter func217,ntmps217;go_wp2_with (go_at_call 144;refine f.mono ?_;rintro e b ⟨rfl,rfl⟩)
  all_goals go_ret
  all_goals refine⟨?_,rfl⟩
  all_goals simp[AD,h]
def fc:QC UInt8->Bool
 |[]=>K
 |[c]=>decide (48<=c.toNat/\c.toNat<=57)
 |[c,_]=>decide (49<=c.toNat/\c.toNat<=57)
 |[c,_,_]=>decide (49<=c.toNat/\c.toNat<=57)
 |_=>K
def D4(s:bC):bC:=if s.size=0 then s else if I7 s then(if fc s.toList then LO 3 s else⟨#[0]⟩++s)else s
def I1:QC UInt8->QC UInt8
 |[]=>[]
 |c::r=>if c.toNat<97 then(if fc (c::r)then NP (3-Z (c::r)) 48++(c::r)else 0::c::r)else c::r
def BH(a b:bC):(a++b).toList=a.toList++b.toList:=by
 rw[ma,ma,ma,pQ,Array.toList_append]
def AP(a:bC):a.size=Z a.toList:=by
 rw[ma];rfl
def toList_inj{a b:bC}(h:a.toList=b.toList):a=b:=by
 rw[ma,ma]at h;exact ByteArray.ext (Array.toList_inj.1 h)
def Qt:QH.toList=[48]:=by rw[ma];rfl
def Mw:∀(k:Nat) (s:bC),s.size<=3->3<=s.size+k->(LO k s).toList=NP (3-s.size) 48++s.toList
 |0,s,h,hk=>by
  rw[show 3-s.size=0 by omega];rfl
 |k+1,s,h,hk=>by
  rw[LO];split
  .rename_i b;(have a:(QH++s).size=s.size+1:=by rw[AP,BH,Qt,AP];simp);rw[Mw k (QH++s) (by omega) (by omega),a,BH,Qt,show 3-s.size=(3-(s.size+1))+1 by omega,List.replicate_succ'];simp
  .rw[show 3-s.size=0 by omega];rfl
def Fo(c:UInt8)(r:QC UInt8):Pf (c::r) [97]=decide (c.toNat<97):=by
 have e:Pf r []=K:=by cases r<;>rfl
 simp only[Pf,e];by_cases h:c.toNat<97
 .have:c<97:=h;simp[h,this]
 .have:¬c<97:=h;simp[h,this]
def Pn(s:bC):(D4 s).toList=I1 s.toList:=by
 unfold D4 I7;cases hs:s.toList with
 |nil=>
  have:s.size=0:=by rw[AP,hs];rfl
  rw[lS this,hs];rfl
 |cons c r=>
  have a:s.size=Z (c::r):=by rw[AP,hs]
  rw[lO (by rw[a];simp),Fo];unfold I1;by_cases h:c.toNat<97
  .simp only[h,decide_true,if_true];cases ho:fc (c::r)with
   |true=>
    simp only[if_true];have b:Z (c::r)<=3:=by
     match r,ho with
     |[],_=>simp
     |[_],_=>simp
     |[_,_],_=>simp
     |_::_::_::_,ho=>simp[fc]at ho
    rw[Mw 3 s (by omega) (by omega),hs,a]
   |false=>
    simp only[lJ,if_false];rw[BH,hs];rw[show(⟨#[0]⟩:bC).toList=[0] from by rw[ma]]
    rfl
  .simp only[h,pE,lJ,if_false];exact hs
def Fs{l:QC UInt8}(h:fc l=Cm):(∃c:UInt8,l=[c]/\48<=c.toNat/\c.toNat<=57)\/(∃c d:UInt8,l=[c,d]/\49<=c.toNat/\c.toNat<=57)\/(∃c d e:UInt8,l=[c,d,e]/\49<=c.toNat/\c.toNat<=57):=by
 match l,h with
 |[],h=>simp[fc]at h
 |[c],h=>exact Hd ⟨c,rfl,by simpa[fc] using h⟩
 |[c,d],h=>exact Hf (Hd ⟨c,d,rfl,by simpa[fc] using h⟩)
 |[c,d,e],h=>exact Hf (Hf ⟨c,d,e,rfl,by simpa[fc] using h⟩)
 |_::_::_::_::_,h=>simp[fc]at h
def Nu(l:QC UInt8):(l=[]/\I1 l=[])\/(∃c r,l=c::r/\97<=c.toNat/\I1 l=c::r)\/(∃c r,l=c::r/\I1 l=0::c::r)\/
  (∃c,l=[c]/\48<=c.toNat/\c.toNat<=57/\I1 l=[48,48,c])\/(∃c d,l=[c,d]/\49<=c.toNat/\c.toNat<=57/\I1 l=[48,c,d])\/(∃c d e,l=[c,d,e]/\49<=c.toNat/\c.toNat<=57/\I1 l=[c,d,e]):=by
 cases l with
 |nil=>exact Hd ⟨rfl,rfl⟩
 |cons c r=>
  rw[show I1 (c::r)=if c.toNat<97 then(if fc (c::r)then NP (3-Z (c::r)) 48++(c::r)else 0::c::r)else c::r from rfl]
  by_cases h:c.toNat<97
  .rw[lS h];cases ho:fc (c::r)with
   |true=>
    rw[lS rfl];refine Hf (Hf (Hf ?_));rcases Fs ho with⟨f,e,a,b⟩|⟨f,d,e,a,b⟩|⟨f,d,g,e,a,b⟩
    .rw[e];exact Hd ⟨f,rfl,a,b,rfl⟩
    .rw[e];exact Hf (Hd ⟨f,d,rfl,a,b,rfl⟩)
    .rw[e];exact Hf (Hf ⟨f,d,g,rfl,a,b,rfl⟩)
   |false=>
    rw[lO (by simp)];exact Hf (Hf (Hd ⟨c,r,rfl,rfl⟩))
  .rw[lO h];exact Hf (Hd ⟨c,r,rfl,by omega,rfl⟩)
def Yy{a b:QC UInt8}(h:I1 a=I1 b):a=b:=by
 have z:(48:UInt8).toNat=48:=rfl;have o:(0:UInt8).toNat=0:=rfl;rcases Nu a with⟨rfl,e⟩|⟨c,r,rfl,j,e⟩|⟨c,r,rfl,e⟩|⟨c,rfl,j,m,e⟩|⟨c,d,rfl,j,m,e⟩|⟨c,d,f,rfl,j,m,e⟩<;>
  rcases Nu b with⟨rfl,g⟩|⟨i,n,rfl,k,g⟩|⟨i,n,rfl,g⟩|⟨i,rfl,k,l,g⟩|⟨i,p,rfl,k,l,g⟩|⟨i,p,s,rfl,k,l,g⟩<;>
  rw[e]at h<;>(try rw[g]at h)<;>simp only[nC,reduceCtorEq,List.nil_eq,and_true]at h⊢
 all_goals first
  |exact h
  |exact h.2
  |exact h.2.2
  |(exfalso;have q:=congrArg UInt8.toNat h.1;clear e g;omega)
  |(exfalso;have q:=congrArg UInt8.toNat h.2.1;clear e g;omega)
def Y6(h:D4 s=D4 t):s=t:=
 toList_inj (Yy (by rw[<-Pn,<-Pn,h]))
def IU(t:bC)(h:0<t.size):∃r,t.toList=t[0]::r/\Z t.toList=t.size:=by
 rw[ma];obtain⟨⟨l⟩⟩:=t;cases l with
 |nil=>exact absurd h (by show¬(0<0);omega)
 |cons c r=>exact⟨r,rfl,rfl⟩
def Zh(h:0<t.size)(c:97<=t[0].toNat):AD t=D4 t:=by
 obtain⟨r,a,d⟩:=IU t h;have b:I7 t=K:=by
  unfold I7;rw[a,Fo];simp;omega
 unfold AD D4;rw[b,lO (show¬t.size=0 by omega)];simp
def cc(h:0<t.size)(i:48<=t[0].toNat)(f:t[0].toNat<=57)(j:t.size<=3)(g:t[0].toNat=48->t.size=1):AD t=D4 t:=by
 obtain⟨r,b,a⟩:=IU t h;have e:I7 t=Cm:=by
  unfold I7;rw[b,Fo];simp;omega
 have d:fc t.toList=Cm:=by
  rw[b]at a⊢;generalize t[0]=c at*
  match r,a with
  |[],_=>simp[fc];omega
  |[_],a=>simp at a;simp[fc];omega
  |[_,_],a=>simp at a;simp[fc];omega
  |_::_::_::_,a=>simp at a;omega
 unfold AD D4;rw[e,d,lO (show¬t.size=0 by omega)];simp
structure AY where
 v:Int
 s:bC
def Ar(t:AY):QC Hs:=[X M8 t.v,O t.s]
def AK:AY:=⟨0,ND⟩
theorem Pi(b:Nat)(B:Hs)(c:QC Bf)(a:Nat)(t:Int)(w:Hq)(h:Cr w b B c a t)(m:Bf)(P:c[a]'h.lt=m)(A:(m.kind==2)=Cm\/(m.kind==2)=K/\(m.kind==3)=Cm)(T:a+1<Z c):
  Calls prog 193 #[Gi (V ⟨b,0,Y⟩)] w λe d=>e=G3 (.tuple #[Ms (D6 (Ar ⟨0,AD m.text⟩)),No Cm])/\Cr d b B c (a+1) t/\Ac [b] w d:=by
 have HN:=Ab T;clear T;have HM:JR (∀h:a<Z c,c[a]=m):=λ_=>P
 have W:=h.lt;have FL:(a:Int)<(Z c:Int):=by omega
 have FT:(0:Int)<=(a:Int):=by omega
 have hl:=h.len;have B2:=h.dI.lt;have E:∀k,B.ownBlock=V k->k<w.heap.size:=λk hk=>(h.row.lt k hk).2
 have u:=h.bw ((SF [] w).alloc (Dj #[X M8 0,O ⟨#[]⟩] 215));have q:=Tc w [X M8 0,O ⟨#[]⟩] 215;have x:=(SF [b] w).alloc (Dj [X M8 0,O ⟨#[]⟩].toArray 215);clear P h;go_enter func193,ntmps193;go_wp2_with fail
 generalize w.alloc (Dj [X M8 0,O ⟨#[]⟩].toArray 215)=w1 at u q x⊢;obtain⟨f,z⟩:=QP w.heap.size;rw[z]at q B2 E⊢;have N:=Ab z;clear z;obtain⟨g,D,rfl,G,M,b2,L⟩:=u.cells;have FA:g<f:=E g rfl;clear E;obtain⟨C,y,v⟩:=L a W;rw[(Aa HM) W]at C y v;clear L b2;have n0:=World.new_ne w1 _ G;have n1:=World.new_ne w1 _ M;have n2:=World.new_ne w1 _ C;have n3:=World.new_ne w1 _ y;have n4:=World.new_ne w1 _ v;have HH:=Ab u;have n:=Ab q;clear u q
 go_region_held3 (λd=>Lc d ⟨b,0,Y⟩=V (U (V ⟨g,0,Y⟩) (Z c) D)/\Lc d ⟨b,1,Y⟩=V (X J a)/\Lc d ⟨g,a*3,Y⟩=V (X J m.kind)/\Lc d ⟨g,a*3+1,Y⟩=V (X J m.place)/\Lc d ⟨g,a*3+2,Y⟩=V (O m.text)) (go_keep) (fail)
 rename_i CC;clear CC n0 n1 n2 n3 n4 G M C y v;have AR:=n.lt;have j:=HH.bw (((SF [] w1).alloc (Dj [X J m.kind,X J m.place,O m.text].toArray 206)).drew);have l:=(Tc w1 [X J m.kind,X J m.place,O m.text] 206).drew;have i:=(n.alloc (Dj [X J m.kind,X J m.place,O m.text].toArray 206)).drew;have S:=(x.alloc (Dj [X J m.kind,X J m.place,O m.text].toArray 206)).drew;have I:(w1.alloc (Dj [X J m.kind,X J m.place,O m.text].toArray 206)).drew.heap.size=w1.heap.size+1:=by simp
 clear HH n x;generalize(w1.alloc (Dj [X J m.kind,X J m.place,O m.text].toArray 206)).drew=w2 at j l i S I⊢;generalize w1.heap.size=N4 at l AR I⊢;have x0:=l.cell 0;have x1:=l.cell 1;have x2:=l.cell 2;have y0:=i.cell 0;have y1:=i.cell 1;have yf:=i.frozen;have z1:=j.dI.cell 1;have zf:=j.dI.frozen 1;simp at x0 x1 x2 y0 y1 z1;have FW:=l.lt;have FF:=j.dI.lt;have Go:=i.lt;have za:=λo=>(j.dI.alloc o).cell 1
 have FC:=λo=>(j.dI.alloc o).frozen 1
 have BS:=λo=>(i.alloc o).cell 0
 have BT:=λo=>(i.alloc o).cell 1
 have HB:=λo=>(i.alloc o).frozen
 simp at za BS BT;have q1:¬b=f:=by omega
 have q2:¬f=b:=by omega
 have q3:¬b=w2.heap.size:=by omega
 have q4:¬w2.heap.size=b:=by omega
 have q5:¬f=w2.heap.size:=by omega
 have q6:¬w2.heap.size=f:=by omega
 have R:=Ab j;have n:=Ab i;clear j l i;have A1:JR (∀r H Q:Hs,r=X J ((a:Int)+1)->Cr ((((w2.alloc (Dj #[X M8 0,O (AD m.text)] 215)).setCell ⟨b,1,Y⟩ r).setCell ⟨f,0,Y⟩ H).setCell ⟨f,1,Y⟩ Q) b (U (V ⟨g,0,Y⟩) (Z c) D) c (a+1) t):=by
  intro r H Q hv;have k1:Ac [b] w2 ((((w2.alloc (Dj #[X M8 0,O (AD m.text)] 215)).setCell ⟨b,1,Y⟩ r))):=((SF [b] w2).alloc _).setCell (by simp) _;have p:=R.kept (nx':=a+1) (br':=t) k1 (by rw[hv];exact(R.dI.alloc _).set 1 _) HN;have F:(U (V ⟨g,0,Y⟩) (Z c) D).ownBlock≠V f:=by simp[OC];omega
  exact⟨(p.dI.bI _ (by simp;omega) _).bI _ (by simp;omega) _,Ah (Ah p.row F _) F _,p.ap,p.lt,p.len⟩
 have AO:JR (∀s w,Calls prog 217 #[O s] w λe d=>e=G3 (O (AD s))/\d=w):=VI;rcases A with A|⟨A,e3⟩;all_goals
  go_wp2_with (go_at_call 217;refine(AO _ _).mono ?_;rintro e d ⟨rfl,rfl⟩)
  refine mj (Aw rfl rfl ((((n.alloc _).bI ⟨b,1,Y⟩ (by simp;omega) _).set 0 _).set 1 _) underlying215 rfl (by kernel_rfl)) rfl ⟨rfl,?_,?_⟩
  .exact A1.out _ _ _ rfl
  .refine Ac.setCell (Ac.setCell (Ac.setCell (S.alloc _) (by simp) _) (by right;have:=Aa N;simp;omega) _) (by right;have:=Aa N;simp;omega) _
theorem YN(b:Nat)(z:Hs)(d:QC Bf)(a:Nat)(T:Int)(w:Hq)(h:Cr w b z d a T)(m:Bf)(Q:d[a]'h.lt=m)(e2:(m.kind==2)=K)(e3:(m.kind==3)=K)(e4:(m.kind==4)=K):
  Calls prog 193 #[Gi (V ⟨b,0,Y⟩)] w λe j=>e=G3 (.tuple #[Ms (D6 (Ar AK)),No K])/\Cr j b z d a m.place/\Ac [b] w j:=by
 have HM:JR (∀h:a<Z d,d[a]=m):=λ_=>Q
 have A0:=h.lt;have FF:(a:Int)<(Z d:Int):=by omega
 have FO:(0:Int)<=(a:Int):=by omega
 have hl:=h.len;have EM:=h.dI.lt;have C:∀k,z.ownBlock=V k->k<w.heap.size:=λk hk=>(h.row.lt k hk).2
 have s:=h.bw ((SF [] w).alloc (Dj #[X M8 0,O ⟨#[]⟩] 215));have q:=Tc w [X M8 0,O ⟨#[]⟩] 215;have v:=(SF [b] w).alloc (Dj [X M8 0,O ⟨#[]⟩].toArray 215);clear Q h;go_enter func193,ntmps193;go_wp2_with fail
 generalize w.alloc (Dj [X M8 0,O ⟨#[]⟩].toArray 215)=w1 at s q v⊢;obtain⟨f,y⟩:=QP w.heap.size;rw[y]at q EM C⊢;have N:=Ab y;clear y;obtain⟨g,AR,rfl,E,M,b2,I⟩:=s.cells;have FB:g<f:=C g rfl;clear C;obtain⟨A,x,t⟩:=I a A0;rw[(Aa HM) A0]at A x t;clear I b2;have n0:=World.new_ne w1 _ E;have n1:=World.new_ne w1 _ M;have n2:=World.new_ne w1 _ A;have n3:=World.new_ne w1 _ x;have n4:=World.new_ne w1 _ t;have HH:=Ab s;have n:=Ab q;clear s q
 go_region_held3 (λj=>Lc j ⟨b,0,Y⟩=V (U (V ⟨g,0,Y⟩) (Z d) AR)/\Lc j ⟨b,1,Y⟩=V (X J a)/\Lc j ⟨g,a*3,Y⟩=V (X J m.kind)/\Lc j ⟨g,a*3+1,Y⟩=V (X J m.place)/\Lc j ⟨g,a*3+2,Y⟩=V (O m.text)) (go_keep) (fail)
 rename_i ES;clear ES n0 n1 n2 n3 n4 E M A x t;have BT:=n.lt;have i:=HH.bw (((SF [] w1).alloc (Dj [X J m.kind,X J m.place,O m.text].toArray 206)).drew);have l:=(Tc w1 [X J m.kind,X J m.place,O m.text] 206).drew;have c:=(n.alloc (Dj [X J m.kind,X J m.place,O m.text].toArray 206)).drew;have B:=(v.alloc (Dj [X J m.kind,X J m.place,O m.text].toArray 206)).drew;have F:(w1.alloc (Dj [X J m.kind,X J m.place,O m.text].toArray 206)).drew.heap.size=w1.heap.size+1:=by simp
 clear HH n v;generalize(w1.alloc (Dj [X J m.kind,X J m.place,O m.text].toArray 206)).drew=w2 at i l c B F⊢;generalize w1.heap.size=N4 at l BT F⊢;have L:=l.cell 0;have x1:=l.cell 1;have H:=l.cell 2;have y0:=c.cell 0;have P:=c.cell 1;have yf:=c.frozen;have z1:=i.dI.cell 1;have zf:=i.dI.frozen 1;simp at L x1 H y0 P z1;have FP:=l.lt;have FC:=i.dI.lt;have FT:=c.lt;have za:=λo=>(i.dI.alloc o).cell 1
 have BS:=λo=>(i.dI.alloc o).frozen 1
 have R:=λo=>(c.alloc o).cell 0
 have S:=λo=>(c.alloc o).cell 1
 have EX:=λo=>(c.alloc o).frozen
 simp at za R S;have q1:¬b=f:=by omega
 have q2:¬f=b:=by omega
 have q3:¬b=w2.heap.size:=by omega
 have q4:¬w2.heap.size=b:=by omega
 have q5:¬f=w2.heap.size:=by omega
 have q6:¬w2.heap.size=f:=by omega
 have AO:=Ab i;have n:=Ab c;clear i l c;go_wp2_with fail
 have G:=AO.bw ((SF [] w2).alloc (Dj #[X M8 0,O ⟨#[]⟩] 215));refine(FK b _ d a T m.place _ G).mono ?_;rintro e w4 ⟨rfl,W,u⟩;have r:=(n.alloc _).kept u (by simp;omega);have E0:=(B.alloc _).trans u;have v0:=r.cell 0;have v1:=r.cell 1;have vf:=r.frozen;simp at v0 v1;have CC:=Ab W;clear G W u L x1 H y0 P yf z1 zf za BS R S EX AO n B;go_wp2;refine mj (Aw rfl rfl ((r.set 0 _).set 1 _) underlying215 rfl (by kernel_rfl)) rfl ⟨rfl,?_,?_⟩
 .have D:(U (V ⟨g,0,Y⟩) (Z d) AR).ownBlock≠V f:=by simp[OC];omega
  have p:=Aa CC;exact⟨(p.dI.bI _ (by simp;omega) _).bI _ (by simp;omega) _,Ah (Ah p.row D _) D _,p.ap,p.lt,p.len⟩
 .refine Ac.setCell (Ac.setCell E0 (by right;have:=Aa N;simp;omega) _) (by right;have:=Aa N;simp;omega) _
def Du(s:bC)(pos:Nat)(v:Int):Int:=
 if h:pos<s.size/\1<=(Utf8.decode s pos).2 then have _h1:pos<s.size:=h.1;have _h2:=h.2;Du s (pos+(Utf8.decode s pos).2) (Utf8.decode s pos).1 else v
def L6(v:Int)(h:n<s.size):Du s n v=Du s (n+(Utf8.decode s n).2) (Utf8.decode s n).1:=by
 conv=>lhs;rw[Du]
 rw[dif_pos ⟨h,Jk s n h⟩]
def UP(v:Int)(h:¬n<s.size):Du s n v=v:=by
 rw[Du,dif_neg (by omega)]
theorem cd(b:Nat)(mv:Hs)(d:QC Bf)(c:Nat)(A:Int)(w:Hq)(h:Cr w b mv d c A)(m:Bf)(F:d[c]'h.lt=m)(e2:(m.kind==2)=K)(e3:(m.kind==3)=K)(e4:(m.kind==4)=Cm)(hn:c+1<Z d)(K4:m.text.size<=2000):
  Calls prog 193 #[Gi (V ⟨b,0,Y⟩)] w λe r=>e=G3 (.tuple #[Ms (D6 (Ar ⟨Du m.text 0 0,ND⟩)),No Cm])/\Cr r b mv d (c+1) A/\Ac [b] w r:=by
 have HN:=Ab hn;clear hn;have HM:JR (∀h:c<Z d,d[c]=m):=λ_=>F
 have HF:=h.lt;have z:(c:Int)<(Z d:Int):=by omega
 have KD:(0:Int)<=(c:Int):=by omega
 have hl:=h.len;have H7:=h.dI.lt;have DT:∀k,mv.ownBlock=V k->k<w.heap.size:=λk hk=>(h.row.lt k hk).2
 have h1:=h.bw ((SF [] w).alloc (Dj #[X M8 0,O ⟨#[]⟩] 215));have I:=Tc w [X M8 0,O ⟨#[]⟩] 215;have A2:=(SF [b] w).alloc (Dj [X M8 0,O ⟨#[]⟩].toArray 215);clear F h;go_enter func193,ntmps193;go_wp2_with fail
 generalize w.alloc (Dj [X M8 0,O ⟨#[]⟩].toArray 215)=w1 at h1 I A2⊢;obtain⟨f,B0⟩:=QP w.heap.size;rw[B0]at I H7 DT⊢;have HY:=Ab B0;clear B0;obtain⟨g,x,rfl,b0,b1,b2,hc⟩:=h1.cells;have JJ:g<f:=DT g rfl;clear DT;obtain⟨c0,c1,c2⟩:=hc c HF;rw[(Aa HM) HF]at c0 c1 c2;clear hc b2;have n0:=World.new_ne w1 _ b0;have n1:=World.new_ne w1 _ b1;have n2:=World.new_ne w1 _ c0;have n3:=World.new_ne w1 _ c1;have n4:=World.new_ne w1 _ c2;have HH:=Ab h1;have p:=Ab I;clear h1 I
 go_region_held3 (λr=>Lc r ⟨b,0,Y⟩=V (U (V ⟨g,0,Y⟩) (Z d) x)/\Lc r ⟨b,1,Y⟩=V (X J c)/\Lc r ⟨g,c*3,Y⟩=V (X J m.kind)/\Lc r ⟨g,c*3+1,Y⟩=V (X J m.place)/\Lc r ⟨g,c*3+2,Y⟩=V (O m.text)) (go_keep) (fail)
 rename_i H9;clear H9 n0 n1 n2 n3 n4 b0 b1 c0 c1 c2;have HS:=p.lt;have q:=HH.bw (((SF [] w1).alloc (Dj [X J m.kind,X J m.place,O m.text].toArray 206)).drew);have t:=(Tc w1 [X J m.kind,X J m.place,O m.text] 206).drew;have l:=(p.alloc (Dj [X J m.kind,X J m.place,O m.text].toArray 206)).drew;have C:=(A2.alloc (Dj [X J m.kind,X J m.place,O m.text].toArray 206)).drew;have y:(w1.alloc (Dj [X J m.kind,X J m.place,O m.text].toArray 206)).drew.heap.size=w1.heap.size+1:=by simp
 clear HH p A2;generalize(w1.alloc (Dj [X J m.kind,X J m.place,O m.text].toArray 206)).drew=w2 at q t l C y⊢;generalize w1.heap.size=N4 at t HS y⊢;have L:=t.cell 0;have x1:=t.cell 1;have x2:=t.cell 2;have W:=l.cell 0;have M:=l.cell 1;have yf:=l.frozen;have S:=q.dI.cell 1;have zf:=q.dI.frozen 1;simp at L x1 x2 W M S;have H1:=t.lt;have HU:=q.dI.lt;have H2:=l.lt;have za:=λo=>(q.dI.alloc o).cell 1
 have HQ:=λo=>(q.dI.alloc o).frozen 1
 have FF:=λo=>(l.alloc o).cell 0
 have FO:=λo=>(l.alloc o).cell 1
 have IA:=λo=>(l.alloc o).frozen
 simp at za FF FO;have q1:¬b=f:=by omega
 have q2:¬f=b:=by omega
 have q3:¬b=w2.heap.size:=by omega
 have q4:¬w2.heap.size=b:=by omega
 have q5:¬f=w2.heap.size:=by omega
 have q6:¬w2.heap.size=f:=by omega
 have Go:=Ab q;have p:=Ab l;clear q t l;go_wp2;have EK:(w2.alloc (Dj #[X M8 0,O ⟨#[]⟩] 215)).heap.size=N4+1+1:=by simp[y]
 have BT:Ac [b] w ((w2.alloc (Dj #[X M8 0,O ⟨#[]⟩] 215)).iter m.text 0):=(C.alloc _).alloc _;have h3:Cr ((w2.alloc (Dj #[X M8 0,O ⟨#[]⟩] 215)).iter m.text 0) b (U (V ⟨g,0,Y⟩) (Z d) x) d c A:=Go.bw (((SF [] w2).alloc _).alloc _);have Bx:AI ((w2.alloc (Dj #[X M8 0,O ⟨#[]⟩] 215)).iter m.text 0) f [X M8 0,O ⟨#[]⟩] 215:=(p.alloc _).alloc _;have A0:AI ((w2.alloc (Dj #[X M8 0,O ⟨#[]⟩] 215)).iter m.text 0) (N4+1) [X M8 0,O ⟨#[]⟩] 215:=by rw[<-y];exact(Tc w2 [X M8 0,O ⟨#[]⟩] 215).alloc _
 have Q:=World.iter_heap (w2.alloc (Dj #[X M8 0,O ⟨#[]⟩] 215)) m.text 0;rw[EK]at Q;have A1:N4+1+1<((w2.alloc (Dj #[X M8 0,O ⟨#[]⟩] 215)).iter m.text 0).heap.size:=by simp[World.iter,y]
 have K6:w.heap.size<=f:=by have:=Aa HY;omega
 clear L x1 x2 W M yf S zf za HQ FF FO IA Go p C EK q1 q2 q3 q4 q5 q6 H1 HU H2 y;generalize(w2.alloc (Dj #[X M8 0,O ⟨#[]⟩] 215)).iter m.text 0=w3 at BT h3 Bx A0 Q A1⊢
 go_loopg [] m.text.size (λgk wr=>∃(pos:Nat) (v:Int),gk=m.text.size-pos/\pos<=m.text.size+4/\JR (Du m.text pos v=Du m.text 0 0)/\JR (wr.heap[N4+1+1]?=V (.stringIter m.text pos))/\JR (Cr wr b (U (V ⟨g,0,Y⟩) (Z d) x) d c A)/\JR (AI wr f [X M8 0,O ⟨#[]⟩] 215)/\JR (AI wr (N4+1) [X M8 v,O ⟨#[]⟩] 215)/\Ac [b] w wr/\N4+1+1<wr.heap.size)
 case atStart=>exact⟨0,0,by simp,by omega,rfl,Q,h3,Bx,A0,BT,A1⟩
 case round=>
  clear Q h3 Bx A0 BT A1;obtain⟨pos,v,HA,KA,T,R,n,B,HT,hK,hz⟩:=hrel;have HG:=Ab HA;clear HA;by_cases z:pos<m.text.size
  .obtain⟨E,a,D⟩:∃E a,Utf8.decode m.text pos=(E,a):=⟨_,_,rfl⟩;(have K3:a<=4:=by have:=WQ m.text pos;rw[D]at this;exact this);(have KK:1<=a:=by have:=Jk m.text pos z;rw[D]at this;exact this);have FC:∀u,(Instr.next (Gi (V ⟨N4+1+1,0,Y⟩)) Cm u).run prog wr=.ok (.tuple #[No Cm,X J pos,X M8 E]) (DB wr (N4+1+1) m.text (pos+a)):=by
    intro u;have h:=Xy (P:=prog) R u z;rw[D]at h;exact h
   have FL:=Ab (Rf (w:=wr) (N:=N4+1+1) (s:=m.text) (pos:=pos+a) hz);have BB:=B.kept (Eg wr (N4+1+1) m.text (pos+a)) (by simp;omega);have G:=HT.kept (Eg wr (N4+1+1) m.text (pos+a));(have H:(U (V ⟨g,0,Y⟩) (Z d) x).ownBlock≠V (N4+1+1):=by simp[OC];omega);have BS:Cr (DB wr (N4+1+1) m.text (pos+a)) b (U (V ⟨g,0,Y⟩) (Z d) x) d c A:=
    ⟨n.dI.kept (Eg wr (N4+1+1) m.text (pos+a)) (by simp;omega),Ai n.row (Eg wr (N4+1+1) m.text (pos+a)) (λi hi F=>by simp at F;subst F;exact H hi),n.ap,n.lt,n.len⟩
   have C:Ac [b] w (DB wr (N4+1+1) m.text (pos+a)):=hK.trans' (Eg wr (N4+1+1) m.text (pos+a)) (by intro i hi;right;simp at hi;omega);(have FT:N4+1+1<(DB wr (N4+1+1) m.text (pos+a)).heap.size:=by rw[JP];exact hz);have H6:JR (Du m.text (pos+a) E=Du m.text 0 0):=by
    have h:=T.out;rw[L6 v z,D]at h;exact h
   clear D R n B HT T hK hz;generalize DB wr (N4+1+1) m.text (pos+a)=w4 at FC FL BB G BS C FT;have v0:=G.cell 0;have vf:=G.frozen 0;simp at v0;have p:=Ab BB;have HX:=Ab G;have H0:=Ab BS;clear BB G BS;go_wp2_with fail
   go_roundg (m.text.size-(pos+a))
   case measure=>have:=Aa HG;omega
   case rel=>
    refine⟨pos+a,E,rfl,by omega,H6,?_,?_,p.bI _ (by simp;omega) _,HX.set 0 _,C.setCell (by right;simp;omega) _,by simpa using FT⟩
    .show _=_;rw[pJ _ _ _ _ (by simp)];exact FL
    .have j:=Aa H0;(have Jx:(U (V ⟨g,0,Y⟩) (Z d) x).ownBlock≠V (N4+1):=by simp[OC];omega);exact⟨j.dI.bI _ (by simp;omega) _,Ah j.row Jx _,j.ap,j.lt,j.len⟩
  ·(have FC:∀u,(Instr.next (Gi (V ⟨N4+1+1,0,Y⟩)) Cm u).run prog wr=.ok (.tuple #[No K]) wr:=λu=>Xj (P:=prog) R u z);(have HV:JR (v=Du m.text 0 0):=by have h:=T.out;rwa [UP v z]at h);have S:=n.dI.cell 1;have zf:=n.dI.frozen 1;have W:=B.cell 0;have M:=B.cell 1;have yf:=B.frozen;have L:=HT.cell 0;have x1:=HT.cell 1;simp at S W M L x1;(have q1:¬b=f:=by omega);(have q2:¬f=b:=by omega);(have q3:¬b=N4+1:=by omega);(have q4:¬N4+1=b:=by omega);(have q5:¬f=N4+1:=by omega);(have q6:¬N4+1=f:=by omega);clear T R;go_wp2;have hR:=Aa n;have k1:Ac [b] wr (wr.setCell ⟨b,1,Y⟩ (X J ((c:Int)+1))):=(SF [b] wr).setCell (by simp) _;have j:=hR.kept (nx':=c+1) (br':=A) k1 (hR.dI.set 1 _) HN;(have H:(U (V ⟨g,0,Y⟩) (Z d) x).ownBlock≠V f:=by simp[OC];omega);refine mj (Aw rfl rfl (((B.bI ⟨b,1,Y⟩ (by simp;omega) _).set 0 _).set 1 _) underlying215 rfl (by kernel_rfl)) rfl ⟨?_,?_,?_⟩
   .rw[<-HV.out];rfl
   .exact⟨(j.dI.bI _ (by simp;omega) _).bI _ (by simp;omega) _,Ah (Ah j.row H _) H _,j.ap,j.lt,j.len⟩
   .exact((hK.trans k1).setCell (by right;simp;omega) _).setCell (by right;simp;omega) _
structure Xw(ms:QC Bf):Prop where
 ends:∀i (h:i<Z ms),(ms[i].kind==1)=K->i+1<Z ms
 text:∀i (h:i<Z ms),ms[i].text.size<=2000
def Gc(m:Bf)(nx:Nat):Except Int (AY×Nat):=
 if m.kind==2||m.kind==3 then .ok (⟨0,AD m.text⟩,nx+1)
 else if m.kind==4 then .ok (⟨Du m.text 0 0,ND⟩,nx+1)
 else .error m.place
def iB(b:Nat)(mv:Hs)(ms:QC Bf)(br:Int)(w:Hq)(e:Ending)(w':Hq):Except Int (AY×Nat)->Prop
 | .ok (t,nx)=>e=G3 (.tuple #[Ms (D6 (Ar t)),No Cm])/\Cr w' b mv ms nx br/\Ac [b] w w'
 | .error p=>∃nx,e=G3 (.tuple #[Ms (D6 (Ar AK)),No K])/\Cr w' b mv ms nx p/\Ac [b] w w'
def Jn(b:Nat)(g:Hs)(c:QC Bf)(a:Nat)(i:Int)(w:Hq)(h:Cr w b g c a i)(o:Xw c)(m:Bf)(f:c[a]'h.lt=m):
  Calls prog 193 #[Gi (V ⟨b,0,Y⟩)] w λe j=>iB b g c i w e j (Gc m a):=by
 have n:(m.kind==1)=K->a+1<Z c:=by rw[<-f];exact o.ends a h.lt
 have r:m.text.size<=2000:=by rw[<-f];exact o.text a h.lt
 have l:∀k:Int,(m.kind==k)=Cm->k≠1->(m.kind==1)=K:=λk p q=>by
  have:m.kind=k:=by simpa using p
  rw[this];simpa using q
 cases e2:(m.kind==2)with
 |true=>
  refine(Pi b g c a i w h m f (Hd e2) (n (l 2 e2 (by decide)))).mono ?_;intro e j d;simp only[Gc,e2,oR,if_true];exact d
 |false=>
  cases e3:(m.kind==3)with
  |true=>
   refine(Pi b g c a i w h m f (Hf ⟨e2,e3⟩) (n (l 3 e3 (by decide)))).mono ?_;intro e j d;simp only[Gc,e3,pG,if_true];exact d
  |false=>
   cases e4:(m.kind==4)with
   |true=>
    refine(cd b g c a i w h m f e2 e3 e4 (n (l 4 e4 (by decide))) r).mono ?_;intro e j d;simp only[Gc,e2,e3,e4,pU,lJ,if_false,if_true];exact d
   |false=>
    refine(YN b g c a i w h m f e2 e3 e4).mono ?_;intro e j d;simp only[Gc,e2,e3,e4,pU,lJ,if_false];exact⟨a,d⟩
def TP:bC:=⟨#[40]⟩
theorem cq:TP.toList=[40]:=by kernel_rfl
def E9(ms:QC Bf)(nx:Nat):Bool:=
 match ms[nx]?,ms[nx+1]? with
 |some m,V m'=>m.kind==2&&BY m' TP
 |_,_=>K
theorem UG(b:Nat)(L:Hs)(d:QC Bf)(a:Nat)(H:Int)(w:Hq)(h:Cr w b L d a H)(C:Xw d):
  Calls prog 199 #[Gi (V ⟨b,0,Y⟩)] w λe f=>e=G3 (No (E9 d a))/\Ac [] w f:=by
 obtain⟨g,A,rfl,z,v,_,r⟩:=h.cells;have q:=h.lt;have hl:=h.len;obtain⟨D,_,_⟩:=r a q;obtain⟨m,i⟩:=QP (d[a]);have l:=C.ends a q;rw[i]at D l;have P:(a:Int)<(Z d:Int):=by omega
 have W:(0:Int)<=(a:Int):=by omega
 clear h C;cases hk:(m.kind==2)with
 |false=>
  have n:JR (E9 d a=K):=by
   show _=_;unfold E9;rw[lN q,i];split
   .rename_i x _;simp only[lL]at x;subst x;simp[hk]
   .rfl
  have E:(m.kind !=2)=Cm:=by simp[bne,hk]
  clear r l i;go_enter func199,ntmps199;go_wp2
  go_quiet (fail)
  go_wp2;go_ret;exact⟨by rw[n.out];rfl,(SF _ _).drewN _⟩
 |true=>
  have u:=l (by have:m.kind=2:=(by simpa using hk);rw[this];decide);obtain⟨c,s⟩:=QP (d[a+1]);obtain⟨p,o,j⟩:=r (a+1) u;rw[s]at p o j;have n:JR (E9 d a=BY c TP):=by
   show _=_;unfold E9;rw[lN q,i,lN u,s];simp[hk]
  have E:(m.kind !=2)=K:=by simp[bne,hk]
  obtain⟨k,y⟩:=QP (a+1);have hw:IntKind.i64.wrap ((a:Int)+1)=(k:Int):=by
   rw[nU];omega
  have T:(0:Int)<=(k:Int):=by omega
  have Q:(k:Int)<(Z d:Int):=by omega
  rw[y]at p o j;clear r l i s u y;go_enter func199,ntmps199;go_wp2
  go_quiet (fail)
  have B:Ac [] w (w.drewN nq):=(SF _ _).drewN _;have M:Lc (w.drewN nq) ⟨b,0,Y⟩=V (U (V ⟨g,0,Y⟩) (Z d) A):=z;have N:Lc (w.drewN nq) ⟨b,1,Y⟩=V (X J a):=v;have I:Lc (w.drewN nq) ⟨g,k*3,Y⟩=V (X J c.kind):=p;have F:Lc (w.drewN nq) ⟨g,k*3+1,Y⟩=V (X J c.place):=o;have G:Lc (w.drewN nq) ⟨g,k*3+2,Y⟩=V (O c.text):=j;clear z v D p o j;generalize w.drewN nq=w1 at*;have n0:=World.new_ne w1 _ M;have n1:=World.new_ne w1 _ N;have n2:=World.new_ne w1 _ I;have R:=World.new_ne w1 _ F;have S:=World.new_ne w1 _ G;go_wp2_with fail
  go_region_held3 (λf=>Lc f ⟨b,0,Y⟩=V (U (V ⟨g,0,Y⟩) (Z d) A)/\Lc f ⟨b,1,Y⟩=V (X J a)/\Lc f ⟨g,k*3,Y⟩=V (X J c.kind)/\Lc f ⟨g,k*3+1,Y⟩=V (X J c.place)/\Lc f ⟨g,k*3+2,Y⟩=V (O c.text)) (go_keep) (fail)
  cases hs:(c.kind==5)with
  |true=>
   (have t:JR (BY c TP=(c.text.toList==TP.toList)):=by show _=_;simp[BY,hs]);go_wp2;all_goals
    go_ret;refine⟨Bv ?_,?_⟩
    .rw[n.out,t.out,cq]
    .repeat (first|refine Ac.drew ?_|refine Ac.setCell ?_ (by simp) _|refine Ac.alloc ?_ _|refine Ac.drewN ?_ _)
     exact B
  |false=>
   (have t:JR (BY c TP=K):=by show _=_;simp[BY,hs]);go_wp2;all_goals
    go_ret;refine⟨Bv ?_,?_⟩
    .rw[n.out,t.out]
    .repeat (first|refine Ac.drew ?_|refine Ac.setCell ?_ (by simp) _|refine Ac.alloc ?_ _|refine Ac.drewN ?_ _)
     exact B
structure Hh where
 place:Int
 name:bC
 tv:Hs
def AS(a:Hh):QC Hs:=[X J a.place,O a.name,a.tv]
def Ba:Hh:=⟨0,ND,U Y 0 0⟩
structure dC where
 place:Int
 sort:Int
 atom:Hh
 left:AY
 right:AY
def Az(l:dC):QC Hs:=[X J l.place,X J l.sort,X J l.atom.place,O l.atom.name,l.atom.tv,X M8 l.left.v,O l.left.s,X M8 l.right.v,O l.right.s]
def Cx:dC:=⟨0,0,Ba,AK,AK⟩
def Au(ms:QC Bf)(i:Nat):Bf:=ms.getD i ⟨1,0,ND⟩
def Bn{a:QC Bf}(h:i<Z a):a[i]=Au a i:=by simp[Au,h]
def Xw.seen{a:QC Bf}(c:Xw a)(h:i<Z a)(t:bC)(b:BY (Au a i) t=Cm):i+1<Z a:=by
 refine c.ends i h ?_;rw[Bn h];unfold BY at b;rw[mi]at b;have:(Au a i).kind=5:=by simpa using b.1
 rw[this];decide
def YL(a:QC Hs)(k:Z a=9)(g f d c h i e j b:Hs):(((((((((a.set 0 g).set 1 f).set 2 d).set 3 c).set 4 h).set 5 i).set 6 e).set 7 j).set 8 b)=[g,f,d,c,h,i,e,j,b]:=by
 match a,k with
 |[a0,a1,a2,a3,a4,a5,a6,a7,a8],_=>rfl
def AI.bf(h:AI w n y T)(l:Z y=9)(f e c b g i d j a:Hs):AI (((((((((w.setCell ⟨n,0,Y⟩ f).setCell ⟨n,1,Y⟩ e).setCell ⟨n,2,Y⟩ c).setCell ⟨n,3,Y⟩ b).setCell ⟨n,4,Y⟩ g).setCell ⟨n,5,Y⟩ i).setCell ⟨n,6,Y⟩ d).setCell ⟨n,7,Y⟩ j).setCell ⟨n,8,Y⟩ a) n [f,e,c,b,g,i,d,j,a] T:=by
 have k:=(((((((((h.set 0 f).set 1 e).set 2 c).set 3 b).set 4 g).set 5 i).set 6 d).set 7 j).set 8 a);rw[YL y l]at k;exact k
def kO:bC:=⟨#[61]⟩
def kL:bC:=⟨#[35]⟩
def kK:bC:=⟨#[60]⟩
def Od(m:Bf):Option Int:=if BY m kO then V 2 else if BY m kL then V 3 else if BY m kK then V 4 else Y
def Iz(ms:QC Bf)(nx:Nat):Except Int (dC×Nat):=
 match Gc (Au ms nx) nx with
 | .error p=> .error p
 | .ok (l,n1)=>
  match Od (Au ms n1)with
  |none=> .error (Au ms n1).place
  |some s=>
   match Gc (Au ms (n1+1)) (n1+1)with
   | .error p=> .error p
   | .ok (r,n2)=> .ok (⟨(Au ms nx).place,s,Ba,l,r⟩,n2)
def Ua{a:QC Bf}{l:dC}(h:Iz a m=.ok (l,n)):l.atom=Ba:=by
 unfold Iz at h;split at h
 .cases h
 .split at h
  .cases h
  .split at h
   .cases h
   .simp only[mX,mA]at h;rw[<-h.1]
def Cr.other{a:QC Bf}(h:Cr w b z a n I){p:Addr}(c:p.block≠b)(d:z.ownBlock≠V p.block)(u:Hs):Cr (w.setCell p u) b z a n I:=
 ⟨h.dI.bI _ c _,Ah h.row d _,h.ap,h.lt,h.len⟩
def Cr.bf{d:QC Bf}(h:Cr w b z d n I)(a:m≠b)(c:z.ownBlock≠V m)(k j i f l o g q e:Hs):Cr (((((((((w.setCell ⟨m,0,Y⟩ k).setCell ⟨m,1,Y⟩ j).setCell ⟨m,2,Y⟩ i).setCell ⟨m,3,Y⟩ f).setCell ⟨m,4,Y⟩ l).setCell ⟨m,5,Y⟩ o).setCell ⟨m,6,Y⟩ g).setCell ⟨m,7,Y⟩ q).setCell ⟨m,8,Y⟩ e) b z d n I:=
 (((((((((h.other (p:=⟨m,0,Y⟩) a c k).other (p:=⟨m,1,Y⟩) a c j).other (p:=⟨m,2,Y⟩) a c i).other (p:=⟨m,3,Y⟩) a c f).other (p:=⟨m,4,Y⟩) a c l).other (p:=⟨m,5,Y⟩) a c o).other (p:=⟨m,6,Y⟩) a c g).other (p:=⟨m,7,Y⟩) a c q).other (p:=⟨m,8,Y⟩) a c e)
def Ac.bf(h:Ac M v w)(b:n∈M\/v.heap.size<=n)(i f d c j g e l k:Hs):Ac M v (((((((((w.setCell ⟨n,0,Y⟩ i).setCell ⟨n,1,Y⟩ f).setCell ⟨n,2,Y⟩ d).setCell ⟨n,3,Y⟩ c).setCell ⟨n,4,Y⟩ j).setCell ⟨n,5,Y⟩ g).setCell ⟨n,6,Y⟩ e).setCell ⟨n,7,Y⟩ l).setCell ⟨n,8,Y⟩ k):=
 (((((((((h.setCell (p:=⟨n,0,Y⟩) b i).setCell (p:=⟨n,1,Y⟩) b f).setCell (p:=⟨n,2,Y⟩) b d).setCell (p:=⟨n,3,Y⟩) b c).setCell (p:=⟨n,4,Y⟩) b j).setCell (p:=⟨n,5,Y⟩) b g).setCell (p:=⟨n,6,Y⟩) b e).setCell (p:=⟨n,7,Y⟩) b l).setCell (p:=⟨n,8,Y⟩) b k)
def jI(b:Nat)(mv:Hs)(ms:QC Bf)(br:Int)(w:Hq)(e:Ending)(w':Hq):Except Int (dC×Nat)->Prop
 | .ok (l,nx)=>e=G3 (.tuple #[Ms (D6 (Az l)),No Cm])/\Cr w' b mv ms nx br/\Ac [b] w w'
 | .error p=>∃nx l,l.atom=Ba/\e=G3 (.tuple #[Ms (D6 (Az l)),No K])/\Cr w' b mv ms nx p/\Ac [b] w w'
theorem iw(b:Nat)(o:Hs)(d:QC Bf)(x:Nat)(E:Int)(w:Hq)(h:Cr w b o d x E)(ok:Xw d):
  Calls prog 200 #[Gi (V ⟨b,0,Y⟩)] w λe w'=>jI b o d E w e w' (Iz d x):=by
 have HO:=Ab ok;have LM:=h.dI.lt;have KK:∀k,o.ownBlock=V k->k<w.heap.size:=λk hk=>(h.row.lt k hk).2
 have h1:=Ab (h.bw ((SF [] w).alloc (Dj (D6 (Az Cx)) 217)));have hN:=Ab (Tc w (Az Cx) 217);have H4:=Ab ((SF [b] w).alloc (Dj (D6 (Az Cx)) 217));have JA:(w.alloc (Dj (D6 (Az Cx)) 217)).heap.size=w.heap.size+1:=by simp
 clear h ok;go_enter func200,ntmps200;go_wp2_with fail
 change Calls _ _ _ (w.alloc (Dj (D6 (Az Cx)) 217)) _;generalize w.alloc (Dj (D6 (Az Cx)) 217)=w1 at h1 hN H4 JA⊢;obtain⟨N,KA⟩:=QP w.heap.size;rw[KA]at hN LM JA KK⊢;have i:JR (∀k,N<=k->o.ownBlock≠V k):=λk hk e=>by have:=KK k e;omega
 clear KK;have HN:=Ab KA;clear KA;refine(Jy b o d x E _ h1 (Au d x) (Bn h1.lt)).mono ?_;rintro e w2 ⟨rfl,k2⟩;have h2:=Ab (h1.bw k2);have K3:=Ab (hN.kept k2);have LB:=Ab (H4.trans (k2.mono (by simp)));have LL:N+1<=w2.heap.size:=by have:=k2.size;omega
 clear h1 hN H4 JA k2;obtain⟨p,hp⟩:=QP (Au d x).place;have HP:=Ab hp;rw[hp];clear hp;go_wp2_with fail
 change Calls _ _ _ (w2.alloc (Dj (D6 (Az ⟨p,0,Ba,AK,AK⟩)) 217)) _;have h3:=Ab (h2.bw ((SF [] w2).alloc (Dj (D6 (Az ⟨p,0,Ba,AK,AK⟩)) 217)));have FW:=Ab (K3.alloc (Dj (D6 (Az ⟨p,0,Ba,AK,AK⟩)) 217));have FF:=Ab (Tc w2 (Az ⟨p,0,Ba,AK,AK⟩) 217);have HC:=Ab (LB.alloc (Dj (D6 (Az ⟨p,0,Ba,AK,AK⟩)) 217));clear h2 K3 LB;generalize w2.alloc (Dj (D6 (Az ⟨p,0,Ba,AK,AK⟩)) 217)=w3 at h3 FW FF HC⊢;obtain⟨L,LE⟩:=QP w2.heap.size;rw[LE]at FF LL⊢;clear LE;refine(Jn b o d x E _ h3 HO (Au d x) (Bn h3.lt)).mono ?_;intro e w4 n;cases ht:Gc (Au d x) x with
 |error q=>
  rw[ht]at n;obtain⟨n9,rfl,h4,k4⟩:=n;have C:JR (Iz d x=.error q):=by show _=_;unfold Iz;rw[ht]
  have H:=FW.kept k4 (by simp;omega);have CC:=FF.kept k4 (by simp;omega);have HJ:=Ab (HC.trans k4);clear h3 FW FF HC ht k4;have B:=CC.cell 5;have D:=CC.cell 6;have lf:=CC.frozen;have nf:=H.frozen;have W:=H.cell 0;have M:=H.cell 1;have F:=H.cell 2;have Q:=H.cell 3;have T:=H.cell 4;have c5:=H.cell 5;have R:=H.cell 6;have c7:=H.cell 7;have I:=H.cell 8;simp[Az,Cx,Ba,AK]at B D W M F Q T c5 R c7 I;have q1:¬L=N:=by omega
  have q2:¬N=L:=by omega
  have HB:=Ab H;have t:=Ab h4;clear H CC h4;simp only[Ar,AK];go_wp2;rw[C.out];have S:=((HB.bI ⟨L,5,Y⟩ (by simp;omega) (X M8 0)).bI ⟨L,6,Y⟩ (by simp;omega) (O ND)).bf rfl (X J 0) (X J 0) (X J 0) (O ⟨#[]⟩) (U Y 0 0) (X M8 0) (O ⟨#[]⟩) (X M8 0) (O ⟨#[]⟩);refine mj (Aw (P:=prog) (fn:=Tryz.f200) (p:=2) (u:=3) rfl rfl S underlying217 rfl (by kernel_rfl)) rfl ?_;refine⟨n9,Cx,rfl,rfl,?_,?_⟩
  .exact((t.other (p:=⟨L,5,Y⟩) (by simp;omega) (i L (by omega)) _).other (p:=⟨L,6,Y⟩) (by simp;omega) (i L (by omega)) _).bf (by omega) (i N (by omega)) _ _ _ _ _ _ _ _ _
  .have G:=Aa HN;exact((HJ.setCell (p:=⟨L,5,Y⟩) (by right;simp;omega) _).setCell (p:=⟨L,6,Y⟩) (by right;simp;omega) _).bf (by right;omega) _ _ _ _ _ _ _ _ _
 |ok r=>
  obtain⟨l,f⟩:=r;rw[ht]at n;obtain⟨rfl,h4,k4⟩:=n;have H:=FW.kept k4 (by simp;omega);have CC:=FF.kept k4 (by simp;omega);have HJ:=Ab (HC.trans k4);have HT:=Ab ht;clear h3 FW FF HC k4 ht;have B:=CC.cell 5;have D:=CC.cell 6;have lf:=CC.frozen;simp[Az,Cx,Ba,AK]at B D;have K4:=Ab H;have K2:=Ab CC;have t:=Ab h4;clear H CC h4;simp only[Ar];go_wp2_with fail
  have A2:=Aa i;have G:=Aa HN;have h5:Cr ((w4.setCell ⟨L,5,Y⟩ (X M8 l.v)).setCell ⟨L,6,Y⟩ (O l.s)) b o d f E:=by
   exact(t.other (p:=⟨L,5,Y⟩) (by simp;omega) (A2 L (by omega)) _).other (p:=⟨L,6,Y⟩) (by simp;omega) (A2 L (by omega)) _
  have H3:=Ab ((K4.bI ⟨L,5,Y⟩ (by simp;omega) (X M8 l.v)).bI ⟨L,6,Y⟩ (by simp;omega) (O l.s));have IJ:JR (AI ((w4.setCell ⟨L,5,Y⟩ (X M8 l.v)).setCell ⟨L,6,Y⟩ (O l.s)) L (Az ⟨p,0,Ba,l,AK⟩) 217):=(K2.set 5 _).set 6 _;have Ix:=Ab ((HJ.setCell (p:=⟨L,5,Y⟩) (by right;simp;omega) (X M8 l.v)).setCell (p:=⟨L,6,Y⟩) (by right;simp;omega) (O l.s));clear B D lf K4 K2 t HJ A2 G;generalize(w4.setCell ⟨L,5,Y⟩ (X M8 l.v)).setCell ⟨L,6,Y⟩ (O l.s)=w5 at h5 H3 IJ Ix⊢;have H5:=Ab h5;clear h5;refine(G1 b o d f E kO _ H5 (Au d f) (Bn H5.lt) (HO.seen H5.lt kO)).mono ?_;rintro e w6 ⟨rfl,h6,k6⟩;have HU:=Ab (H3.kept k6 (by simp;omega));have FC:=Ab (IJ.kept k6 (by simp;omega));have HQ:=Ab (Ix.trans k6);clear H5 H3 IJ Ix k6;cases s1:BY (Au d f) kO with
  |true=>
   rw[s1]at h6;simp only[if_true]at h6;(have HS:JR (Od (Au d f)=V 2):=by show _=_;simp[Od,s1]);clear s1;have m:=FC.cell 1;have lf:=FC.frozen;simp[Az]at m;have H6:=Ab h6;clear h6;(go_wp2_with fail);have A2:=Aa i;have G:=Aa HN;have hR:Cr (w6.setCell ⟨L,1,Y⟩ (X J 2)) b o d (f+1) E:=H6.other (p:=⟨L,1,Y⟩) (by simp;omega) (A2 L (by omega)) _;have y:JR (AI (w6.setCell ⟨L,1,Y⟩ (X J 2)) N (Az Cx) 217):=HU.bI ⟨L,1,Y⟩ (by simp;omega) _;have z:JR (AI (w6.setCell ⟨L,1,Y⟩ (X J 2)) L (Az ⟨p,2,Ba,l,AK⟩) 217):=FC.set 1 _;have A:=Ab (HQ.setCell (p:=⟨L,1,Y⟩) (by right;simp;omega) (X J 2));clear m lf HU FC HQ A2 G H6;generalize w6.setCell ⟨L,1,Y⟩ (X J 2)=w9 at hR y z A⊢;refine(Jn b o d (f+1) E _ hR HO (Au d (f+1)) (Bn hR.lt)).mono ?_;intro e JJ n;clear hR;cases ht2:Gc (Au d (f+1)) (f+1)with
   |error q=>
    rw[ht2]at n;obtain⟨n9,rfl,j,g⟩:=n;(have C:JR (Iz d x=.error q):=by show _=_;unfold Iz;simp only[HT.out,HS.out,ht2]);have a:=y.kept g (by simp;omega);have c:=z.kept g (by simp;omega);have A0:=Ab (A.trans g);clear y z A g ht2 HT HS;have l0:=c.cell 0;have m:=c.cell 1;have l2:=c.cell 2;have l3:=c.cell 3;have l4:=c.cell 4;have B:=c.cell 5;have D:=c.cell 6;have l7:=c.cell 7;have l8:=c.cell 8;have lf:=c.frozen;have nf:=a.frozen;have W:=a.cell 0;have M:=a.cell 1;have F:=a.cell 2;have Q:=a.cell 3;have T:=a.cell 4;have c5:=a.cell 5;have R:=a.cell 6;have c7:=a.cell 7;have I:=a.cell 8;simp[Az,Cx,Ba,AK]at l0 W m M l2 F l3 Q l4 T B c5 D R l7 c7 l8 I;(have q1:¬L=N:=by omega);(have q2:¬N=L:=by omega);have HB:=Ab a;have t:=Ab j;clear a c j;simp only[Ar,AK];go_wp2;rw[C.out];have S:=((HB.bI ⟨L,7,Y⟩ (by simp;omega) (X M8 0)).bI ⟨L,8,Y⟩ (by simp;omega) (O ND)).bf rfl (X J p) (X J 2) (X J 0) (O ND) (U Y 0 0) (X M8 l.v) (O l.s) (X M8 0) (O ND);refine mj (Aw (P:=prog) (fn:=Tryz.f200) (p:=2) (u:=3) rfl rfl S underlying217 rfl (by kernel_rfl)) rfl ?_;refine⟨n9,⟨p,2,Ba,l,AK⟩,rfl,rfl,?_,?_⟩
    .exact((t.other (p:=⟨L,7,Y⟩) (by simp;omega) (i L (by omega)) _).other (p:=⟨L,8,Y⟩) (by simp;omega) (i L (by omega)) _).bf (by omega) (i N (by omega)) _ _ _ _ _ _ _ _ _
    .have G:=Aa HN;exact((A0.setCell (p:=⟨L,7,Y⟩) (by right;simp;omega) _).setCell (p:=⟨L,8,Y⟩) (by right;simp;omega) _).bf (by right;omega) _ _ _ _ _ _ _ _ _
   |ok r=>
    obtain⟨r,n2⟩:=r;rw[ht2]at n;obtain⟨rfl,j,g⟩:=n;(have C:JR (Iz d x=.ok (⟨p,2,Ba,l,r⟩,n2)):=by show _=_;unfold Iz;simp only[HT.out,HS.out,ht2,HP.out]);have a:=y.kept g (by simp;omega);have c:=z.kept g (by simp;omega);have A0:=Ab (A.trans g);clear y z A g ht2 HT HS;have l0:=c.cell 0;have m:=c.cell 1;have l2:=c.cell 2;have l3:=c.cell 3;have l4:=c.cell 4;have B:=c.cell 5;have D:=c.cell 6;have l7:=c.cell 7;have l8:=c.cell 8;have lf:=c.frozen;have nf:=a.frozen;have W:=a.cell 0;have M:=a.cell 1;have F:=a.cell 2;have Q:=a.cell 3;have T:=a.cell 4;have c5:=a.cell 5;have R:=a.cell 6;have c7:=a.cell 7;have I:=a.cell 8;simp[Az,Cx,Ba,AK]at l0 W m M l2 F l3 Q l4 T B c5 D R l7 c7 l8 I;(have q1:¬L=N:=by omega);(have q2:¬N=L:=by omega);have HB:=Ab a;have t:=Ab j;clear a c j;simp only[Ar];go_wp2;rw[C.out];have S:=((HB.bI ⟨L,7,Y⟩ (by simp;omega) (X M8 r.v)).bI ⟨L,8,Y⟩ (by simp;omega) (O r.s)).bf rfl (X J p) (X J 2) (X J 0) (O ND) (U Y 0 0) (X M8 l.v) (O l.s) (X M8 r.v) (O r.s);refine mj (Aw (P:=prog) (fn:=Tryz.f200) (p:=2) (u:=3) rfl rfl S underlying217 rfl (by kernel_rfl)) rfl ?_;refine⟨rfl,?_,?_⟩
    .exact((t.other (p:=⟨L,7,Y⟩) (by simp;omega) (i L (by omega)) _).other (p:=⟨L,8,Y⟩) (by simp;omega) (i L (by omega)) _).bf (by omega) (i N (by omega)) _ _ _ _ _ _ _ _ _
    .have G:=Aa HN;exact((A0.setCell (p:=⟨L,7,Y⟩) (by right;simp;omega) _).setCell (p:=⟨L,8,Y⟩) (by right;simp;omega) _).bf (by right;omega) _ _ _ _ _ _ _ _ _
  |false=>
   rw[s1]at h6;simp only[lJ,if_false]at h6;have H6:=Ab h6;clear h6;(go_wp2_with fail);refine(G1 b o d f E kL _ H6 (Au d f) (Bn H6.lt) (HO.seen H6.lt kL)).mono ?_;rintro e w7 ⟨rfl,h7,k7⟩;have HX:=Ab (HU.kept k7 (by simp;omega));have FO:=Ab (FC.kept k7 (by simp;omega));have HW:=Ab (HQ.trans k7);clear H6 HU FC HQ k7;cases s2:BY (Au d f) kL with
   |true=>
    rw[s2]at h7;simp only[if_true]at h7;(have HS:JR (Od (Au d f)=V 3):=by show _=_;simp[Od,s1,s2]);clear s1 s2;have m:=FO.cell 1;have lf:=FO.frozen;simp[Az]at m;have H7:=Ab h7;clear h7;(go_wp2_with fail);have A2:=Aa i;have G:=Aa HN;have hR:Cr (w7.setCell ⟨L,1,Y⟩ (X J 3)) b o d (f+1) E:=H7.other (p:=⟨L,1,Y⟩) (by simp;omega) (A2 L (by omega)) _;have y:JR (AI (w7.setCell ⟨L,1,Y⟩ (X J 3)) N (Az Cx) 217):=HX.bI ⟨L,1,Y⟩ (by simp;omega) _;have z:JR (AI (w7.setCell ⟨L,1,Y⟩ (X J 3)) L (Az ⟨p,3,Ba,l,AK⟩) 217):=FO.set 1 _;have A:=Ab (HW.setCell (p:=⟨L,1,Y⟩) (by right;simp;omega) (X J 3));clear m lf HX FO HW A2 G H7;generalize w7.setCell ⟨L,1,Y⟩ (X J 3)=w9 at hR y z A⊢;refine(Jn b o d (f+1) E _ hR HO (Au d (f+1)) (Bn hR.lt)).mono ?_;intro e JJ n;clear hR;cases ht2:Gc (Au d (f+1)) (f+1)with
    |error q=>
     rw[ht2]at n;obtain⟨n9,rfl,j,g⟩:=n;(have C:JR (Iz d x=.error q):=by show _=_;unfold Iz;simp only[HT.out,HS.out,ht2]);have a:=y.kept g (by simp;omega);have c:=z.kept g (by simp;omega);have A0:=Ab (A.trans g);clear y z A g ht2 HT HS;have l0:=c.cell 0;have m:=c.cell 1;have l2:=c.cell 2;have l3:=c.cell 3;have l4:=c.cell 4;have B:=c.cell 5;have D:=c.cell 6;have l7:=c.cell 7;have l8:=c.cell 8;have lf:=c.frozen;have nf:=a.frozen;have W:=a.cell 0;have M:=a.cell 1;have F:=a.cell 2;have Q:=a.cell 3;have T:=a.cell 4;have c5:=a.cell 5;have R:=a.cell 6;have c7:=a.cell 7;have I:=a.cell 8;simp[Az,Cx,Ba,AK]at l0 W m M l2 F l3 Q l4 T B c5 D R l7 c7 l8 I;(have q1:¬L=N:=by omega);(have q2:¬N=L:=by omega);have HB:=Ab a;have t:=Ab j;clear a c j;simp only[Ar,AK];go_wp2;rw[C.out];have S:=((HB.bI ⟨L,7,Y⟩ (by simp;omega) (X M8 0)).bI ⟨L,8,Y⟩ (by simp;omega) (O ND)).bf rfl (X J p) (X J 3) (X J 0) (O ND) (U Y 0 0) (X M8 l.v) (O l.s) (X M8 0) (O ND);refine mj (Aw (P:=prog) (fn:=Tryz.f200) (p:=2) (u:=3) rfl rfl S underlying217 rfl (by kernel_rfl)) rfl ?_;refine⟨n9,⟨p,3,Ba,l,AK⟩,rfl,rfl,?_,?_⟩
     .exact((t.other (p:=⟨L,7,Y⟩) (by simp;omega) (i L (by omega)) _).other (p:=⟨L,8,Y⟩) (by simp;omega) (i L (by omega)) _).bf (by omega) (i N (by omega)) _ _ _ _ _ _ _ _ _
     .have G:=Aa HN;exact((A0.setCell (p:=⟨L,7,Y⟩) (by right;simp;omega) _).setCell (p:=⟨L,8,Y⟩) (by right;simp;omega) _).bf (by right;omega) _ _ _ _ _ _ _ _ _
    |ok r=>
     obtain⟨r,n2⟩:=r;rw[ht2]at n;obtain⟨rfl,j,g⟩:=n;(have C:JR (Iz d x=.ok (⟨p,3,Ba,l,r⟩,n2)):=by show _=_;unfold Iz;simp only[HT.out,HS.out,ht2,HP.out]);have a:=y.kept g (by simp;omega);have c:=z.kept g (by simp;omega);have A0:=Ab (A.trans g);clear y z A g ht2 HT HS;have l0:=c.cell 0;have m:=c.cell 1;have l2:=c.cell 2;have l3:=c.cell 3;have l4:=c.cell 4;have B:=c.cell 5;have D:=c.cell 6;have l7:=c.cell 7;have l8:=c.cell 8;have lf:=c.frozen;have nf:=a.frozen;have W:=a.cell 0;have M:=a.cell 1;have F:=a.cell 2;have Q:=a.cell 3;have T:=a.cell 4;have c5:=a.cell 5;have R:=a.cell 6;have c7:=a.cell 7;have I:=a.cell 8;simp[Az,Cx,Ba,AK]at l0 W m M l2 F l3 Q l4 T B c5 D R l7 c7 l8 I;(have q1:¬L=N:=by omega);(have q2:¬N=L:=by omega);have HB:=Ab a;have t:=Ab j;clear a c j;simp only[Ar];go_wp2;rw[C.out];have S:=((HB.bI ⟨L,7,Y⟩ (by simp;omega) (X M8 r.v)).bI ⟨L,8,Y⟩ (by simp;omega) (O r.s)).bf rfl (X J p) (X J 3) (X J 0) (O ND) (U Y 0 0) (X M8 l.v) (O l.s) (X M8 r.v) (O r.s);refine mj (Aw (P:=prog) (fn:=Tryz.f200) (p:=2) (u:=3) rfl rfl S underlying217 rfl (by kernel_rfl)) rfl ?_;refine⟨rfl,?_,?_⟩
     .exact((t.other (p:=⟨L,7,Y⟩) (by simp;omega) (i L (by omega)) _).other (p:=⟨L,8,Y⟩) (by simp;omega) (i L (by omega)) _).bf (by omega) (i N (by omega)) _ _ _ _ _ _ _ _ _
     .have G:=Aa HN;exact((A0.setCell (p:=⟨L,7,Y⟩) (by right;simp;omega) _).setCell (p:=⟨L,8,Y⟩) (by right;simp;omega) _).bf (by right;omega) _ _ _ _ _ _ _ _ _
   |false=>
    rw[s2]at h7;simp only[lJ,if_false]at h7;have H7:=Ab h7;clear h7;(go_wp2_with fail);refine(G1 b o d f E kK _ H7 (Au d f) (Bn H7.lt) (HO.seen H7.lt kK)).mono ?_;rintro e w8 ⟨rfl,h8,k8⟩;have HV:=Ab (HX.kept k8 (by simp;omega));have HE:=Ab (FO.kept k8 (by simp;omega));have HK:=Ab (HW.trans k8);clear H7 HX FO HW k8;cases s3:BY (Au d f) kK with
    |true=>
     rw[s3]at h8;simp only[if_true]at h8;(have HS:JR (Od (Au d f)=V 4):=by show _=_;simp[Od,s1,s2,s3]);clear s1 s2 s3;have m:=HE.cell 1;have lf:=HE.frozen;simp[Az]at m;have H8:=Ab h8;clear h8;(go_wp2_with fail);have A2:=Aa i;have G:=Aa HN;have hR:Cr (w8.setCell ⟨L,1,Y⟩ (X J 4)) b o d (f+1) E:=H8.other (p:=⟨L,1,Y⟩) (by simp;omega) (A2 L (by omega)) _;have y:JR (AI (w8.setCell ⟨L,1,Y⟩ (X J 4)) N (Az Cx) 217):=HV.bI ⟨L,1,Y⟩ (by simp;omega) _;have z:JR (AI (w8.setCell ⟨L,1,Y⟩ (X J 4)) L (Az ⟨p,4,Ba,l,AK⟩) 217):=HE.set 1 _;have A:=Ab (HK.setCell (p:=⟨L,1,Y⟩) (by right;simp;omega) (X J 4));clear m lf HV HE HK A2 G H8;generalize w8.setCell ⟨L,1,Y⟩ (X J 4)=w9 at hR y z A⊢;refine(Jn b o d (f+1) E _ hR HO (Au d (f+1)) (Bn hR.lt)).mono ?_;intro e JJ n;clear hR;cases ht2:Gc (Au d (f+1)) (f+1)with
     |error q=>
      rw[ht2]at n;obtain⟨n9,rfl,j,g⟩:=n;(have C:JR (Iz d x=.error q):=by show _=_;unfold Iz;simp only[HT.out,HS.out,ht2]);have a:=y.kept g (by simp;omega);have c:=z.kept g (by simp;omega);have A0:=Ab (A.trans g);clear y z A g ht2 HT HS;have l0:=c.cell 0;have m:=c.cell 1;have l2:=c.cell 2;have l3:=c.cell 3;have l4:=c.cell 4;have B:=c.cell 5;have D:=c.cell 6;have l7:=c.cell 7;have l8:=c.cell 8;have lf:=c.frozen;have nf:=a.frozen;have W:=a.cell 0;have M:=a.cell 1;have F:=a.cell 2;have Q:=a.cell 3;have T:=a.cell 4;have c5:=a.cell 5;have R:=a.cell 6;have c7:=a.cell 7;have I:=a.cell 8;simp[Az,Cx,Ba,AK]at l0 W m M l2 F l3 Q l4 T B c5 D R l7 c7 l8 I;(have q1:¬L=N:=by omega);(have q2:¬N=L:=by omega);have HB:=Ab a;have t:=Ab j;clear a c j;simp only[Ar,AK];go_wp2;rw[C.out];have S:=((HB.bI ⟨L,7,Y⟩ (by simp;omega) (X M8 0)).bI ⟨L,8,Y⟩ (by simp;omega) (O ND)).bf rfl (X J p) (X J 4) (X J 0) (O ND) (U Y 0 0) (X M8 l.v) (O l.s) (X M8 0) (O ND);refine mj (Aw (P:=prog) (fn:=Tryz.f200) (p:=2) (u:=3) rfl rfl S underlying217 rfl (by kernel_rfl)) rfl ?_;refine⟨n9,⟨p,4,Ba,l,AK⟩,rfl,rfl,?_,?_⟩
      .exact((t.other (p:=⟨L,7,Y⟩) (by simp;omega) (i L (by omega)) _).other (p:=⟨L,8,Y⟩) (by simp;omega) (i L (by omega)) _).bf (by omega) (i N (by omega)) _ _ _ _ _ _ _ _ _
      .have G:=Aa HN;exact((A0.setCell (p:=⟨L,7,Y⟩) (by right;simp;omega) _).setCell (p:=⟨L,8,Y⟩) (by right;simp;omega) _).bf (by right;omega) _ _ _ _ _ _ _ _ _
     |ok r=>
      obtain⟨r,n2⟩:=r;rw[ht2]at n;obtain⟨rfl,j,g⟩:=n;(have C:JR (Iz d x=.ok (⟨p,4,Ba,l,r⟩,n2)):=by show _=_;unfold Iz;simp only[HT.out,HS.out,ht2,HP.out]);have a:=y.kept g (by simp;omega);have c:=z.kept g (by simp;omega);have A0:=Ab (A.trans g);clear y z A g ht2 HT HS;have l0:=c.cell 0;have m:=c.cell 1;have l2:=c.cell 2;have l3:=c.cell 3;have l4:=c.cell 4;have B:=c.cell 5;have D:=c.cell 6;have l7:=c.cell 7;have l8:=c.cell 8;have lf:=c.frozen;have nf:=a.frozen;have W:=a.cell 0;have M:=a.cell 1;have F:=a.cell 2;have Q:=a.cell 3;have T:=a.cell 4;have c5:=a.cell 5;have R:=a.cell 6;have c7:=a.cell 7;have I:=a.cell 8;simp[Az,Cx,Ba,AK]at l0 W m M l2 F l3 Q l4 T B c5 D R l7 c7 l8 I;(have q1:¬L=N:=by omega);(have q2:¬N=L:=by omega);have HB:=Ab a;have t:=Ab j;clear a c j;simp only[Ar];go_wp2;rw[C.out];have S:=((HB.bI ⟨L,7,Y⟩ (by simp;omega) (X M8 r.v)).bI ⟨L,8,Y⟩ (by simp;omega) (O r.s)).bf rfl (X J p) (X J 4) (X J 0) (O ND) (U Y 0 0) (X M8 l.v) (O l.s) (X M8 r.v) (O r.s);refine mj (Aw (P:=prog) (fn:=Tryz.f200) (p:=2) (u:=3) rfl rfl S underlying217 rfl (by kernel_rfl)) rfl ?_;refine⟨rfl,?_,?_⟩
      .exact((t.other (p:=⟨L,7,Y⟩) (by simp;omega) (i L (by omega)) _).other (p:=⟨L,8,Y⟩) (by simp;omega) (i L (by omega)) _).bf (by omega) (i N (by omega)) _ _ _ _ _ _ _ _ _
      .have G:=Aa HN;exact((A0.setCell (p:=⟨L,7,Y⟩) (by right;simp;omega) _).setCell (p:=⟨L,8,Y⟩) (by right;simp;omega) _).bf (by right;omega) _ _ _ _ _ _ _ _ _
    |false=>
     rw[s3]at h8;simp only[lJ,if_false]at h8;have H8:=Ab h8;clear h8;(go_wp2_with fail);(have C:JR (Iz d x=.error (Au d f).place):=by show _=_;unfold Iz;simp[HT.out,Od,s1,s2,s3]);clear s1 s2 s3;refine(Jy b o d f E _ H8 (Au d f) (Bn H8.lt)).mono ?_;rintro e w9 ⟨rfl,k9⟩;have h9:=H8.bw k9;have K8:=Ab (HV.kept k9);have K6:=Ab (HK.trans (k9.mono (by simp)));clear H8 HV HE HK k9;obtain⟨q,hq⟩:=QP (Au d f).place;rw[hq]at C⊢;clear hq;have H9:=Ab h9;clear h9;(go_wp2_with fail);refine(FK b o d f E q _ H9).mono ?_;rintro e JJ ⟨rfl,j,g⟩;have Bx:=K8.kept g (by simp;omega);have A0:=Ab (K6.trans g);clear K8 K6 H9 g;have nf:=Bx.frozen;have W:=Bx.cell 0;have M:=Bx.cell 1;have F:=Bx.cell 2;have Q:=Bx.cell 3;have T:=Bx.cell 4;have c5:=Bx.cell 5;have R:=Bx.cell 6;have c7:=Bx.cell 7;have I:=Bx.cell 8;simp[Az,Cx,Ba,AK]at W M F Q T c5 R c7 I;have HB:=Ab Bx;have t:=Ab j;clear Bx j;go_wp2;rw[C.out];have S:=HB.bf rfl (X J 0) (X J 0) (X J 0) (O ⟨#[]⟩) (U Y 0 0) (X M8 0) (O ⟨#[]⟩) (X M8 0) (O ⟨#[]⟩);refine mj (Aw (P:=prog) (fn:=Tryz.f200) (p:=2) (u:=3) rfl rfl S underlying217 rfl (by kernel_rfl)) rfl ?_;refine⟨f,Cx,rfl,rfl,?_,?_⟩
     .exact t.bf (by omega) (i N (by omega)) _ _ _ _ _ _ _ _ _
     .have G:=Aa HN;exact A0.bf (by right;omega) _ _ _ _ _ _ _ _ _
theorem Tryz.gu:(Tryz.prog.info? 215).map (λi=>(i.zero,i.size,i.bytes))=V (V (Ms #[X M8 0,O ⟨#[]⟩]),2,24):=by kernel_rfl
def IY:bC:=⟨#[44]⟩
def PY:bC:=⟨#[41]⟩
def GP(ms:QC Bf)(nx:Nat)(acc:QC AY):Except Int (QC AY×Nat):=
 if h:nx<Z ms then
  match Gc (Au ms nx) nx with
  | .error p=> .error p
  | .ok (t,_)=>
   if BY (Au ms (nx+1)) IY then GP ms (nx+2) (acc++[t])
   else if BY (Au ms (nx+1)) PY then .ok (acc++[t],nx+2)
   else .error (Au ms (nx+1)).place
 else .error 0
def Gk{m:Bf}{t:AY}(h:Gc m k=.ok (t,n)):n=k+1:=by
 unfold Gc at h;split at h
 .simp only[mX,mA]at h;exact h.2.symm
 .split at h
  .simp only[mX,mA]at h;exact h.2.symm
  .cases h
def Fv(ms:QC Bf)(nx:Nat):Except Int ((Nat×bC×QC AY)×Nat):=
 if(Au ms nx).kind==2 then
  if BY (Au ms (nx+1)) TP then
   match GP ms (nx+2) [] with
   | .error p=> .error p
   | .ok (ts,n)=> .ok (((Au ms nx).place,(Au ms nx).text,ts),n)
  else .error (Au ms (nx+1)).place
 else .error (Au ms nx).place
def AI.fH(h:AI w n y T)(f:Z y=3)(c b a:Hs):AI (((w.setCell ⟨n,0,Y⟩ c).setCell ⟨n,1,Y⟩ b).setCell ⟨n,2,Y⟩ a) n [c,b,a] T:=by
 have d:=((h.set 0 c).set 1 b).set 2 a;have e:((y.set 0 c).set 1 b).set 2 a=[c,b,a]:=by
  match y,f with
  |[_,_,_],_=>rfl
 rw[e]at d;exact d
def Cr.fH{d:QC Bf}(h:Cr w b z d n I)(a:m≠b)(c:z.ownBlock≠V m)(g f e:Hs):Cr (((w.setCell ⟨m,0,Y⟩ g).setCell ⟨m,1,Y⟩ f).setCell ⟨m,2,Y⟩ e) b z d n I:=
 ((h.other (p:=⟨m,0,Y⟩) a c g).other (p:=⟨m,1,Y⟩) a c f).other (p:=⟨m,2,Y⟩) a c e
def Ac.fH(h:Ac M v w)(b:n∈M\/v.heap.size<=n)(e d c:Hs):Ac M v (((w.setCell ⟨n,0,Y⟩ e).setCell ⟨n,1,Y⟩ d).setCell ⟨n,2,Y⟩ c):=
 ((h.setCell (p:=⟨n,0,Y⟩) b e).setCell (p:=⟨n,1,Y⟩) b d).setCell (p:=⟨n,2,Y⟩) b c
def gQ(b:Nat)(mv:Hs)(ms:QC Bf)(br:Int)(w:Hq)(e:Ending)(w':Hq):Except Int ((Nat×bC×QC AY)×Nat)->Prop
 | .ok ((p,s,ts),nx)=>∃tv base,e=G3 (.tuple #[Ms (D6 (AS ⟨p,s,tv⟩)),No Cm])/\w.heap.size<=base/\Mi w' base 215 2 tv (Z ts) (ts.flatMap Ar)/\Cr w' b mv ms nx br/\Ac [b] w w'
 | .error p=>∃nx pl s ad n cp,e=G3 (.tuple #[Ms (D6 (AS ⟨pl,s,U ad n cp⟩)),No K])/\Cr w' b mv ms nx p/\Ac [b] w w'
theorem O9(b:Nat)(mv:Hs)(a:QC Bf)(c:Nat)(D:Int)(w:Hq)(h:Cr w b mv a c D)(ok:Xw a):
  Calls prog 158 #[Gi (V ⟨b,0,Y⟩)] w λe F=>gQ b mv a D w e F (Fv a c):=by
 obtain⟨m,f⟩:=QP (Au a c);obtain⟨i0,VS,RT,WW,VL⟩:=mH Tryz.gu;have HM:=Ab f;have HO:=Ab ok;have H0:=h.lt;have X3:(c:Int)<(Z a:Int):=by omega
 have YP:(0:Int)<=(c:Int):=by omega
 have hl:=h.len;have TS:=h.dI.lt;have HZ:∀k,mv.ownBlock=V k->k<w.heap.size:=λk B=>(h.row.lt k B).2
 have h1:=h.bw ((SF [] w).alloc (Dj #[X J 0,O ⟨#[]⟩,U Y 0 0] 187));have FW:=Tc w [X J 0,O ⟨#[]⟩,U Y 0 0] 187;have IJ:=(SF [b] w).alloc (Dj [X J 0,O ⟨#[]⟩,U Y 0 0].toArray 187);clear f h ok;go_enter func158,ntmps158;go_wp2_with fail
 generalize w.alloc (Dj [X J 0,O ⟨#[]⟩,U Y 0 0].toArray 187)=w1 at h1 FW IJ⊢;obtain⟨l,K6⟩:=QP w.heap.size;rw[K6]at FW TS HZ⊢;have Go:=Ab K6;clear K6;have BT:JR (∀k,l<=k->mv.ownBlock≠V k):=λk B e=>by have:=HZ k e;omega
 obtain⟨g,W,rfl,b0,b1,b2,hc⟩:=h1.cells;have X1:g<l:=HZ g rfl;clear HZ;obtain⟨T,M,L⟩:=hc c H0;rw[Bn H0,Aa HM]at T M L;clear hc b2;have n0:=World.new_ne w1 _ b0;have n1:=World.new_ne w1 _ b1;have n2:=World.new_ne w1 _ T;have n3:=World.new_ne w1 _ M;have n4:=World.new_ne w1 _ L;have HH:=Ab h1;have AO:=Ab FW;clear h1 FW
 go_region_held3 (λF=>Lc F ⟨b,0,Y⟩=V (U (V ⟨g,0,Y⟩) (Z a) W)/\Lc F ⟨b,1,Y⟩=V (X J c)/\Lc F ⟨g,c*3,Y⟩=V (X J m.kind)/\Lc F ⟨g,c*3+1,Y⟩=V (X J m.place)/\Lc F ⟨g,c*3+2,Y⟩=V (O m.text)) (go_keep) (fail)
 rename_i UO;clear UO n0 n1 n2 n3 n4 b0 b1 T M L;have P0:=AO.lt;have h2:=HH.bw (((SF [] w1).alloc (Dj [X J m.kind,X J m.place,O m.text].toArray 206)).drew);have A0:=(Tc w1 [X J m.kind,X J m.place,O m.text] 206).drew;have Ix:=(AO.alloc (Dj [X J m.kind,X J m.place,O m.text].toArray 206)).drew;have LM:=(IJ.alloc (Dj [X J m.kind,X J m.place,O m.text].toArray 206)).drew;clear HH AO IJ;generalize(w1.alloc (Dj [X J m.kind,X J m.place,O m.text].toArray 206)).drew=w2 at h2 A0 Ix LM⊢;generalize w1.heap.size=N4 at A0 P0⊢;have x0:=A0.cell 0;have x1:=A0.cell 1;have x2:=A0.cell 2;have z1:=h2.dI.cell 1;have zf:=h2.dI.frozen 1;simp at x0 x1 x2 z1;have FF:=Ab h2;have AO:=Ab Ix;have LB:=Ab A0;have HJ:=Ab LM;clear h2 A0 Ix LM;cases B:(m.kind==2)with
 |false=>
  have RI:(m.kind !=2)=Cm:=by simp[bne,B]
  have HF:JR (Fv a c=.error m.place):=by show _=_;unfold Fv;rw[Aa HM,B];rfl
  clear B;go_wp2_with fail
  refine(FK b (U (V ⟨g,0,Y⟩) (Z a) W) a c D m.place _ FF).mono ?_;rintro e w3 ⟨rfl,h3,N⟩;have B2:=AO.kept N (by simp;omega);have VR:=Ab (HJ.trans N);have T:=B2.cell 0;have M:=B2.cell 1;have L:=B2.cell 2;have nf:=B2.frozen;simp at T M L;have TL:=Ab B2;have G:=Ab h3;clear B2 h3 N x0 x1 x2 z1 zf FF AO LB HJ;go_wp2;rw[HF.out];have BA:=TL.fH rfl (X J 0) (O ⟨#[]⟩) (U Y 0 0);refine mj (Aw (P:=prog) (fn:=Tryz.f158) (p:=2) (u:=3) rfl rfl BA underlying187 rfl (by kernel_rfl)) rfl ?_;refine⟨c,0,ND,Y,0,0,rfl,?_,?_⟩
  .exact G.fH (by omega) (BT l (by omega)) _ _ _
  .have:=Aa Go;exact VR.fH (by right;omega) _ _ _
 |true=>
  have RI:(m.kind !=2)=K:=by simp[bne,B]
  have ST:c+1<Z a:=by
   refine HO.ends c H0 ?_;rw[Bn H0,Aa HM];(have:m.kind=2:=by simpa using B);rw[this];decide
  have HK:=Ab B;clear B;go_wp2_with fail
  have N:Ac [b] w2 (w2.setCell ⟨b,1,Y⟩ (X J ((c:Int)+1))):=(SF [b] w2).setCell (by simp) _;have h3:Cr (w2.setCell ⟨b,1,Y⟩ (X J ((c:Int)+1))) b (U (V ⟨g,0,Y⟩) (Z a) W) a (c+1) D:=FF.kept (nx':=c+1) (br':=D) N (FF.dI.set 1 _) ST;have IS:=Ab (AO.kept N (by simp;omega));have KD:=Ab (LB.kept N (by simp;omega));have K5:=Ab (HJ.trans N);clear x0 x1 x2 z1 zf FF AO LB HJ N;generalize w2.setCell ⟨b,1,Y⟩ (X J ((c:Int)+1))=w3 at h3 IS KD K5⊢;refine(Oe b (U (V ⟨g,0,Y⟩) (Z a) W) a (c+1) D TP _ h3 (Au a (c+1)) (Bn h3.lt) (HO.seen h3.lt TP)).mono ?_;rintro e w4 ⟨rfl,h4,k4⟩;clear h3;have A1:=Ab (IS.kept k4 (by simp;omega));have EY:=Ab (KD.kept k4 (by simp;omega));have H9:=Ab (K5.trans k4);clear IS KD K5 k4;cases hs:BY (Au a (c+1)) TP with
  |false=>
   rw[hs]at h4;simp only[lJ,if_false]at h4;(have HF:JR (Fv a c=.error (Au a (c+1)).place):=by show _=_;unfold Fv;rw[Aa HM,Aa HK,hs];rfl);have T:=A1.cell 0;have M:=A1.cell 1;have L:=A1.cell 2;have nf:=A1.frozen;simp at T M L;have G:=Ab h4;clear h4 hs EY;go_wp2;rw[HF.out];have BA:=A1.fH rfl (X J 0) (O ⟨#[]⟩) (U Y 0 0);refine mj (Aw (P:=prog) (fn:=Tryz.f158) (p:=2) (u:=3) rfl rfl BA underlying187 rfl (by kernel_rfl)) rfl ?_;refine⟨c+1,0,ND,Y,0,0,rfl,?_,?_⟩
   .exact G.fH (by omega) (BT l (by omega)) _ _ _
   .have:=Aa Go;exact H9.fH (by right;omega) _ _ _
  |true=>
   rw[hs]at h4;simp only[if_true]at h4;have HS:=Ab hs;have x1:=EY.cell 1;have x2:=EY.cell 2;simp at x1 x2;have G:=Ab h4;clear h4 hs;go_wp2;have H4:JR (∀r,GP a (c+2) []=r->Fv a c=(match r with| .error p=> .error p| .ok (ts,n)=> .ok ((m.place,m.text,ts),n))):=by
    intro r hr;unfold Fv;rw[Aa HM,Aa HK,Aa HS,hr];rfl
   have HV:=Ab (Tc w4 [X J m.place,O m.text,U Y 0 0] 187);have K8:=Ab (A1.alloc (Dj [X J m.place,O m.text,U Y 0 0].toArray 187));have LC:=Ab (G.bw ((SF [] w4).alloc (Dj [X J m.place,O m.text,U Y 0 0].toArray 187)));have KS:=Ab (H9.alloc (Dj [X J m.place,O m.text,U Y 0 0].toArray 187));(have JJ:(w4.alloc (Dj [X J m.place,O m.text,U Y 0 0].toArray 187)).heap.size=w4.heap.size+1:=by simp);have U0:=EY.lt;clear x1 x2 EY A1 H9 G HS HK HM;change Code.wp _ _ _ _ (w4.alloc (Dj [X J m.place,O m.text,U Y 0 0].toArray 187));generalize w4.alloc (Dj [X J m.place,O m.text,U Y 0 0].toArray 187)=w5 at HV K8 LC KS JJ⊢;obtain⟨A,L0⟩:=QP w4.heap.size;rw[L0]at HV JJ U0⊢;clear L0
   go_loopg [] (Z a-(c+2)) (λgk wr=>∃(j:Nat) (d:QC AY) (R:Option Addr) (S:Nat),gk=Z a-j/\JR (GP a j d=GP a (c+2) [])/\JR (Cr wr b (U (V ⟨g,0,Y⟩) (Z a) W) a j D)/\JR (AI wr l [X J 0,O ⟨#[]⟩,U Y 0 0] 187)/\JR (AI wr A [X J m.place,O m.text,U R (Z d) S] 187)/\Mi wr (A+1) 215 2 (U R (Z d) S) (Z d) (d.flatMap Ar)/\JR (Ac [b] w wr)/\A+1<=wr.heap.size/\Z d<=j)
   case atStart=>exact⟨c+2,[],Y,0,rfl,rfl,LC,K8,HV,mf _ _ _ _,KS,by omega,by simp⟩
   case round=>
    clear HV K8 LC KS JJ;obtain⟨j,d,R,S,NM,HL,G,HB,HA,HU,hK,hz,X2⟩:=hrel;have HG:=Ab NM;clear NM;have FP:=G.lt;(go_wp2_with fail);refine(Jn b (U (V ⟨g,0,Y⟩) (Z a) W) a j D _ G HO (Au a j) (Bn FP)).mono ?_;intro e x FT;cases ht:Gc (Au a j) j with
    |error q=>
     rw[ht]at FT;obtain⟨n9,rfl,h6,I⟩:=FT;have HF:JR (Fv a c=.error q):=H4 (.error q) (by rw[<-Aa HL];unfold GP;rw[dif_pos FP,ht]);have z:=HB.kept I (by simp;omega);have HD:=Ab (hK.trans I);clear I ht G HB HA hK HL HU;have T:=z.cell 0;have M:=z.cell 1;have L:=z.cell 2;have nf:=z.frozen;(have d0:=λo=>(z.alloc o).cell 0);(have d1:=λo=>(z.alloc o).cell 1);(have d2:=λo=>(z.alloc o).cell 2);(have df:=λo=>(z.alloc o).frozen);simp at T M L d0 d1 d2;have Nq:=z.lt;have ag:=h6.dI.lt;(have q1:¬l=x.heap.size:=by omega);(have q2:¬x.heap.size=l:=by omega);have Ax:=Ab h6;have RG:=Ab z;clear h6 z;simp only[Ar,AK];go_wp2;rw[HF.out];have BA:=(RG.fH rfl (X J 0) (O ⟨#[]⟩) (U Y 0 0)).alloc (Dj #[X M8 0,O ND] 215);refine mj (Aw (P:=prog) (fn:=Tryz.f158) (p:=2) (u:=3) rfl rfl BA underlying187 rfl (by kernel_rfl)) rfl ?_;refine⟨n9,0,ND,Y,0,0,rfl,?_,?_⟩
     .exact(Ax.fH (by omega) (BT l (by omega)) _ _ _).bw ((SF [] _).alloc _)
     .have:=Aa Go;exact(HD.fH (by right;omega) _ _ _).alloc _
    |ok r=>
     obtain⟨t,n1⟩:=r;rw[ht]at FT;have Os:=Gk ht;subst Os;obtain⟨rfl,h6,I⟩:=FT;have z:=Ab (HB.kept I (by simp;omega));have AH:=Ab (HA.kept I (by simp;omega));have HD:=Ab (hK.trans I);have H7:=Ai HU I (λi E f=>by simp at f;subst f;have:=(HU.lt _ E).1;omega);have RV:A+1<=x.heap.size:=mM hz I.size;have HT:=Ab ht;clear I ht G HB HA hK HU hz;have a2:=AH.cell 2;have af:=AH.frozen;(have d2:=λo=>(AH.alloc o).cell 2);(have df:=λo=>(AH.alloc o).frozen);simp at a2 d2;have Nq:=AH.lt;(have q1:¬A=x.heap.size:=by omega);(have q2:¬x.heap.size=A:=by omega);have Ax:=Ab h6;clear h6;have NN:((x.alloc (Dj (D6 (Ar t)) 215)).alloc (Dj (D6 (Ar t)) 215)).heap[x.heap.size+1]?=V (Dj (D6 (Ar t)) 215 (0,0)):=by
      have C:=mo (x.alloc (Dj (D6 (Ar t)) 215)) (Dj (D6 (Ar t)) 215);rw[show(x.alloc (Dj (D6 (Ar t)) 215)).heap.size=x.heap.size+1 from by simp]at C
      exact C
     have Nx:=lM (lM H7 (Dj (D6 (Ar t)) 215)) (Dj (D6 (Ar t)) 215);(have ab:Z d<=1000:=by omega);have KA:JR (∀s,((x.alloc (Dj (D6 (Ar t)) 215)).alloc (Dj (D6 (Ar t)) 215)).grownBy s (U R (Z d) S).ownBlock->Ac (U R (Z d) S).ownBlock.toList x s):=by
      intro s hg;exact(((SF _ x).alloc _).alloc _).grown hg (λk B=>Hd (by simp[B]))
     (have H2:JR (∀i∈(U R (Z d) S).ownBlock.toList,A+1<=i):=λi E=>(H7.lt i (by simpa using E)).1);have K1:JR (∀s,((x.alloc (Dj (D6 (Ar t)) 215)).alloc (Dj (D6 (Ar t)) 215)).grownBy s (U R (Z d) S).ownBlock->Lc s ⟨A,2,Y⟩=V (U R (Z d) S)/\s.frozen? ⟨A,2,Y⟩=K):=by
      intro s hg;have hb:=AH.kept (KA s hg) (λf=>by have:=Aa H2 A f;omega);exact⟨hb.cell 2,hb.frozen 2⟩
     simp only[Ar];go_wp2_with (at_builtin;refine me _ rfl (.tmp 51) (.tmp 53) _ rfl (A+1) 215 i0 _ 2 24 underlying185 VS RT WW VL rfl (by omega) (U R (Z d) S) (Z d) (d.flatMap Ar) rfl Nx ⟨x.heap.size+1,0,Y⟩ 1 1 (Ar t) rfl rfl (mg (cs:=D6 (Ar t)) (t:=215) (fr:=(0,0)) NN) (by simp[Value.oneCell',Ar]) (by omega) (by unfold maxLen;omega) (by omega) (by simp;omega) (x.heap.size+1+1) (by simp) ?_;intro v y s K9 HE NY RE;have SP:=(K1 s HE).1;have Op:=(K1 s HE).2)
     have kr:=Aa KA s HE;have CC:=Aa H2;have X0:=Aa Go;have ZV:A+1<=v:=(K9.lt v rfl).1;have M6:Cr s b (U (V ⟨g,0,Y⟩) (Z a) W) a (j+1) D:=⟨Ax.dI.kept kr (λf=>by have:=CC b f;omega),Ai Ax.row kr (λi E f=>by have:=CC i f;simp[OC]at E;omega),Ax.ap,Ax.lt,Ax.len⟩;have H1:=Ab (M6.other (p:=⟨A,2,Y⟩) (by simp;omega) (BT A (by omega)) (U (V ⟨v,0,Y⟩) (Z d+1) y));have JA:=Ab ((z.kept kr (λf=>by have:=CC l f;omega)).bI ⟨A,2,Y⟩ (by simp;omega) (U (V ⟨v,0,Y⟩) (Z d+1) y));have K2:JR (AI (s.setCell ⟨A,2,Y⟩ (U (V ⟨v,0,Y⟩) (Z d+1) y)) A [X J m.place,O m.text,U (V ⟨v,0,Y⟩) (Z d+1) y] 187):=(AH.kept kr (λf=>by have:=CC A f;omega)).set 2 _;have Nd:Ac [b] w s:=HD.trans' kr (λi E=>Hf (by have:=CC i E;omega));have IA:=Ab (Nd.setCell (p:=⟨A,2,Y⟩) (by right;simp;omega) (U (V ⟨v,0,Y⟩) (Z d+1) y));have HI:=Ah K9 (p:=⟨A,2,Y⟩) (by simp[OC];omega) (U (V ⟨v,0,Y⟩) (Z d+1) y);(have LE:A+1<=(s.setCell ⟨A,2,Y⟩ (U (V ⟨v,0,Y⟩) (Z d+1) y)).heap.size:=by have:=kr.size;simp;omega);clear kr CC M6 Nd HE NY RE K9 SP Op KA H2 K1 NN Nx H7 AH z HD Ax a2 d2 af df q1 q2 Nq RV;generalize s.setCell ⟨A,2,Y⟩ (U (V ⟨v,0,Y⟩) (Z d+1) y)=w10 at H1 JA K2 IA HI LE⊢;have Ha:=H1.lt;refine(G1 b (U (V ⟨g,0,Y⟩) (Z a) W) a (j+1) D IY _ H1 (Au a (j+1)) (Bn Ha) (HO.seen Ha IY)).mono ?_;rintro e K4 ⟨rfl,AT,DT⟩;have MN:=Ab (JA.kept DT (by simp;omega));have EX:=Ab (K2.kept DT (by simp;omega));have NS:=Ab (IA.trans DT);have H5:=Ai HI DT (λi E f=>by simp at f;subst f;have:=(HI.lt _ E).1;omega);have S1:A+1<=K4.heap.size:=mM LE DT.size;clear DT H1 JA K2 IA HI LE;cases hs:BY (Au a (j+1)) IY with
     |true=>
      rw[hs]at AT;simp only[if_true]at AT;have TK:JR (GP a (j+2) (d++[t])=GP a (c+2) []):=by
       have C:=Aa HL
       conv at C=>lhs;unfold GP
       rw[dif_pos FP,Aa HT]at C;simp only[hs,if_true]at C;exact C
      have FO:=Ab AT;clear AT hs HL HT;go_wp2_with fail
      go_roundg (Z a-(j+2))
      case measure=>have:=Aa HG;omega
      case rel=>exact⟨j+2,d++[t],V ⟨v,0,Y⟩,y,rfl,TK,FO,MN,by simpa using EX,by simpa using H5,NS,S1,by simp;omega⟩
     |false=>
      rw[hs]at AT;simp only[lJ,if_false]at AT;have HS:=Ab hs;have FO:=Ab AT;clear AT hs;have M3:JR (GP a (c+2) []=if BY (Au a (j+1)) PY then .ok (d++[t],j+2)else .error (Au a (j+1)).place):=by
       have C:=Aa HL
       conv at C=>lhs;unfold GP
       rw[dif_pos FP,Aa HT]at C;simp only[Aa HS,lJ,if_false]at C;exact C.symm
      have Wa:=Ab (Oe b (U (V ⟨g,0,Y⟩) (Z a) W) a (j+1) D PY _ (FO.bw (SF [] K4).drew) (Au a (j+1)) (Bn Ha) (HO.seen Ha PY));have e0:=EX.cell 0;have e1:=EX.cell 1;have e2:=EX.cell 2;simp at e0 e1 e2;(have q1:¬A=l:=by omega);(have q2:¬l=A:=by omega);(have HC:JR (∀BS,Ac [b] K4.drew BS->AI BS l [X J 0,O ⟨#[]⟩,U Y 0 0] 187/\AI BS A [X J m.place,O m.text,U (V ⟨v,0,Y⟩) (Z d+1) y] 187):=λBS k=>⟨MN.drew.kept k (by simp;omega),EX.drew.kept k (by simp;omega)⟩);clear HL HT HS FO;go_wp2_with fail
      go_region_held3 (λF=>Lc F ⟨A,0,Y⟩=V (X J m.place)/\Lc F ⟨A,1,Y⟩=V (O m.text)/\Lc F ⟨A,2,Y⟩=V (U (V ⟨v,0,Y⟩) (Z d+1) y)) (go_keep) ((go_at_call 163;refine Wa.mono ?_;rintro e BS ⟨rfl,Q,EM⟩;have H:=Aa HC BS EM;have f0:=H.2.cell 0;have f1:=H.2.cell 1;have f2:=H.2.cell 2;have p0:=H.1.cell 0;have p1:=H.1.cell 1;have p2:=H.1.cell 2;have pf:=H.1.frozen;simp at f0 f1 f2 p0 p1 p2;have SJ:=Ab (And.intro Q (And.intro EM H));clear Q EM H))
      rename_i OH;clear OH;go_wp2;obtain⟨Q,EM,H,_⟩:=SJ;have BA:=H.fH rfl (X J m.place) (O m.text) (U (V ⟨v,0,Y⟩) (Z d+1) y);have NL:Ac [b] w BS:=NS.drew.trans EM;refine mj (Aw (P:=prog) (fn:=Tryz.f158) (p:=2) (u:=3) rfl rfl BA underlying187 rfl (by kernel_rfl)) rfl ?_;cases hcl:BY (Au a (j+1)) PY with
      |true=>
       rw[hcl]at Q;have hA:=Aa M3;rw[hcl]at hA;simp only[if_true]at Q hA;rw[Aa H4 _ hA];have SK:=Ai (F0 H5) EM (λi E f=>by simp at f;subst f;have:=(H5.lt _ E).1;omega);(have H3:(U (V ⟨v,0,Y⟩) (Z d+1) y).ownBlock≠V l:=by simp[OC];omega);refine⟨U (V ⟨v,0,Y⟩) (Z d+1) y,A+1,rfl,by omega,?_,?_,?_⟩
       .have ho:=Ah (Ah (Ah SK (p:=⟨l,0,Y⟩) H3 (X J m.place)) (p:=⟨l,1,Y⟩) H3 (O m.text)) (p:=⟨l,2,Y⟩) H3 (U (V ⟨v,0,Y⟩) (Z d+1) y);simpa using ho
       .exact Q.fH (by omega) (BT l (by omega)) _ _ _
       .exact NL.fH (by right;omega) _ _ _
      |false=>
       rw[hcl]at Q;have hA:=Aa M3;rw[hcl]at hA;simp only[lJ,if_false]at Q hA;rw[Aa H4 _ hA];refine⟨j+1,m.place,m.text,V ⟨v,0,Y⟩,Z d+1,y,rfl,?_,?_⟩
       .exact Q.fH (by omega) (BT l (by omega)) _ _ _
       .exact NL.fH (by right;omega) _ _ _
def Zo:bC:=⟨#[33]⟩
abbrev dE:Type:=(Int×Int×Nat×bC×QC AY)⊕dC
def ID(ms:QC Bf)(nx:Nat):Except Int (dE×Nat):=
 if BY (Au ms nx) Zo then
  match Fv ms (nx+1)with
  | .error p=> .error p
  | .ok (a,n)=> .ok (.inl ((Au ms nx).place,1,a),n)
 else if E9 ms nx then
  match Fv ms nx with
  | .error p=> .error p
  | .ok (a,n)=> .ok (.inl ((Au ms nx).place,0,a),n)
 else
  match Iz ms nx with
  | .error p=> .error p
  | .ok (l,n)=> .ok (.inr l,n)
def Mr(h:Mi w m T k z n y)(a:z.ownBlock≠V i)(g f e c j l d o b:Hs):Mi (((((((((w.setCell ⟨i,0,Y⟩ g).setCell ⟨i,1,Y⟩ f).setCell ⟨i,2,Y⟩ e).setCell ⟨i,3,Y⟩ c).setCell ⟨i,4,Y⟩ j).setCell ⟨i,5,Y⟩ l).setCell ⟨i,6,Y⟩ d).setCell ⟨i,7,Y⟩ o).setCell ⟨i,8,Y⟩ b) m T k z n y:=
 (Ah (Ah (Ah (Ah (Ah (Ah (Ah (Ah (Ah h (p:=⟨i,0,Y⟩) a g) (p:=⟨i,1,Y⟩) a f) (p:=⟨i,2,Y⟩) a e) (p:=⟨i,3,Y⟩) a c) (p:=⟨i,4,Y⟩) a j) (p:=⟨i,5,Y⟩) a l) (p:=⟨i,6,Y⟩) a d) (p:=⟨i,7,Y⟩) a o) (p:=⟨i,8,Y⟩) a b)
def Zr(b:Nat)(mv:Hs)(ms:QC Bf)(br:Int)(w:Hq)(e:Ending)(w':Hq):Except Int (dE×Nat)->Prop
 | .ok (.inl (pl,so,p,s,ts),nx)=>∃tv base,e=G3 (.tuple #[Ms (D6 (Az ⟨pl,so,⟨p,s,tv⟩,AK,AK⟩)),No Cm])/\w.heap.size<=base/\Mi w' base 215 2 tv (Z ts) (ts.flatMap Ar)/\Cr w' b mv ms nx br/\Ac [b] w w'
 | .ok (.inr l,nx)=>e=G3 (.tuple #[Ms (D6 (Az l)),No Cm])/\Cr w' b mv ms nx br/\Ac [b] w w'
 | .error p=>∃nx l,(∃ad n cp,l.atom.tv=U ad n cp)/\e=G3 (.tuple #[Ms (D6 (Az l)),No K])/\Cr w' b mv ms nx p/\Ac [b] w w'
theorem fx(b:Nat)(W:Hs)(f:QC Bf)(g:Nat)(br:Int)(w:Hq)(h:Cr w b W f g br)(ok:Xw f):
  Calls prog 172 #[Gi (V ⟨b,0,Y⟩)] w λe w'=>Zr b W f br w e w' (ID f g):=by
 have HO:=Ab ok;have K1:=h.dI.lt;have H8:∀k,W.ownBlock=V k->k<w.heap.size:=λk hk=>(h.row.lt k hk).2
 have h1:=Ab (h.bw ((SF [] w).alloc (Dj (D6 (Az Cx)) 217)));have hN:=Ab (Tc w (Az Cx) 217);have H0:=Ab ((SF [b] w).alloc (Dj (D6 (Az Cx)) 217));have H2:(w.alloc (Dj (D6 (Az Cx)) 217)).heap.size=w.heap.size+1:=by simp
 clear h ok;go_enter func172,ntmps172;go_wp2_with fail
 change Calls _ _ _ (w.alloc (Dj (D6 (Az Cx)) 217)) _;generalize w.alloc (Dj (D6 (Az Cx)) 217)=w1 at h1 hN H0 H2⊢;obtain⟨N,H3⟩:=QP w.heap.size;rw[H3]at hN K1 H2 H8⊢;have i:JR (∀k,N<=k->W.ownBlock≠V k):=λk hk e=>by have:=H8 k e;omega
 clear H8;have HN:=Ab H3;clear H3;refine(Jy b W f g br _ h1 (Au f g) (Bn h1.lt)).mono ?_;rintro e w2 ⟨rfl,k2⟩;have h2:=Ab (h1.bw k2);have Ix:=Ab (hN.kept k2);have JA:=Ab (H0.trans (k2.mono (by simp)));have KK:N+1<=w2.heap.size:=by have:=k2.size;omega
 clear h1 hN H0 H2 k2;obtain⟨p,hp⟩:=QP (Au f g).place;have HP:=Ab hp;rw[hp];clear hp;go_wp2_with fail
 change Calls _ _ _ (w2.alloc (Dj (D6 (Az ⟨p,0,Ba,AK,AK⟩)) 217)) _;have h3:=Ab (h2.bw ((SF [] w2).alloc (Dj (D6 (Az ⟨p,0,Ba,AK,AK⟩)) 217)));have HZ:=Ab (Ix.alloc (Dj (D6 (Az ⟨p,0,Ba,AK,AK⟩)) 217));have HQ:=Ab (Tc w2 (Az ⟨p,0,Ba,AK,AK⟩) 217);have H1:=Ab (JA.alloc (Dj (D6 (Az ⟨p,0,Ba,AK,AK⟩)) 217));clear h2 Ix JA;generalize w2.alloc (Dj (D6 (Az ⟨p,0,Ba,AK,AK⟩)) 217)=w3 at h3 HZ HQ H1⊢;obtain⟨L,JJ⟩:=QP w2.heap.size;rw[JJ]at HQ KK⊢;clear JJ;refine(G1 b W f g br Zo _ h3 (Au f g) (Bn h3.lt) (HO.seen h3.lt Zo)).mono ?_;rintro e w4 ⟨rfl,h4,k4⟩;have HU:=Ab (HZ.kept k4 (by simp;omega));have EY:=Ab (HQ.kept k4 (by simp;omega));have HT:=Ab (H1.trans k4);clear h3 HZ HQ H1 k4;cases hs:BY (Au f g) Zo with
 |true=>
  rw[hs]at h4;simp only[if_true]at h4;have HS:=Ab hs;have l1:=EY.cell 1;have lf:=EY.frozen;simp[Az]at l1;have H4:=Ab h4;clear h4 hs;go_wp2_with fail
  have IJ:=Aa i;have BB:=Aa HN;have Ha:=Ab (H4.other (p:=⟨L,1,Y⟩) (by simp;omega) (IJ L (by omega)) (X J 1));have x:=Ab (HU.bI ⟨L,1,Y⟩ (by simp;omega) (X J 1));have t:JR (AI (w4.setCell ⟨L,1,Y⟩ (X J 1)) L (Az ⟨p,1,Ba,AK,AK⟩) 217):=EY.set 1 _;have T:=Ab (HT.setCell (p:=⟨L,1,Y⟩) (by right;simp;omega) (X J 1));clear l1 lf HU EY HT IJ BB H4;generalize w4.setCell ⟨L,1,Y⟩ (X J 1)=wa at Ha x t T⊢;have K2:=x.lt;have K4:=t.lt;refine(O9 b W f (g+1) br _ Ha HO).mono ?_;intro e w6 o;clear Ha;cases ht:Fv f (g+1)with
  |error q=>
   rw[ht]at o;obtain⟨n9,ap,an,j,A0,m,rfl,n,d⟩:=o;(have B:JR (ID f g=.error q):=by show _=_;unfold ID;simp[HS.out,ht]);clear ht;have a:=x.kept d (by simp;omega);have c:=t.kept d (by simp;omega);have C:=Ab (T.trans d);have l0:=c.cell 0;have l1:=c.cell 1;have l2:=c.cell 2;have l3:=c.cell 3;have l4:=c.cell 4;have l5:=c.cell 5;have l6:=c.cell 6;have l7:=c.cell 7;have l8:=c.cell 8;have lf:=c.frozen;have nf:=a.frozen;have I:=a.cell 0;have D:=a.cell 1;have y:=a.cell 2;have E:=a.cell 3;have H:=a.cell 4;have S:=a.cell 5;have F:=a.cell 6;have Q:=a.cell 7;have A:=a.cell 8;simp[Az,Cx,Ba,AK]at l0 I l1 D l2 y l3 E l4 H l5 S l6 F l7 Q l8 A;(have q1:¬L=N:=by omega);(have q2:¬N=L:=by omega);have M:=Ab a;have R:=Ab n;clear a c n d x t T;simp only[AS];go_wp2;rw[B.out];have G:=(((M.bI ⟨L,2,Y⟩ (by simp;omega) (X J ap)).bI ⟨L,3,Y⟩ (by simp;omega) (O an)).bI ⟨L,4,Y⟩ (by simp;omega) (U j A0 m)).bf rfl (X J p) (X J 1) (X J ap) (O an) (U j A0 m) (X M8 0) (O ND) (X M8 0) (O ND);refine mj (Aw (P:=prog) (fn:=Tryz.f172) (p:=2) (u:=3) rfl rfl G underlying217 rfl (by kernel_rfl)) rfl ?_;refine⟨n9,⟨p,1,⟨ap,an,U j A0 m⟩,AK,AK⟩,⟨_,_,_,rfl⟩,rfl,?_,?_⟩
   .exact(((R.other (p:=⟨L,2,Y⟩) (by simp;omega) (i L (by omega)) _).other (p:=⟨L,3,Y⟩) (by simp;omega) (i L (by omega)) _).other (p:=⟨L,4,Y⟩) (by simp;omega) (i L (by omega)) _).bf (by omega) (i N (by omega)) _ _ _ _ _ _ _ _ _
   .have BB:=Aa HN;exact(((C.setCell (p:=⟨L,2,Y⟩) (by right;simp;omega) _).setCell (p:=⟨L,3,Y⟩) (by right;simp;omega) _).setCell (p:=⟨L,4,Y⟩) (by right;simp;omega) _).bf (by right;omega) _ _ _ _ _ _ _ _ _
  |ok r=>
   obtain⟨⟨pp,ss,z⟩,n2⟩:=r;rw[ht]at o;obtain⟨tv,HE,rfl,KS,AH,n,d⟩:=o;obtain⟨j,m,rfl⟩:=Ak AH;(have B:JR (ID f g=.ok (.inl (p,1,pp,ss,z),n2)):=by show _=_;unfold ID;simp[HS.out,ht,HP.out]);have DT:JR (_/\(∀k,k<HE->(U j (Z z) m).ownBlock≠V k)):=⟨AH,λk hk e=>by have:=(AH.lt k e).1;omega⟩;clear ht AH;have a:=x.kept d (by simp;omega);have c:=t.kept d (by simp;omega);have C:=Ab (T.trans d);have l0:=c.cell 0;have l1:=c.cell 1;have l2:=c.cell 2;have l3:=c.cell 3;have l4:=c.cell 4;have l5:=c.cell 5;have l6:=c.cell 6;have l7:=c.cell 7;have l8:=c.cell 8;have lf:=c.frozen;have nf:=a.frozen;have I:=a.cell 0;have D:=a.cell 1;have y:=a.cell 2;have E:=a.cell 3;have H:=a.cell 4;have S:=a.cell 5;have F:=a.cell 6;have Q:=a.cell 7;have A:=a.cell 8;simp[Az,Cx,Ba,AK]at l0 I l1 D l2 y l3 E l4 H l5 S l6 F l7 Q l8 A;(have q1:¬L=N:=by omega);(have q2:¬N=L:=by omega);have M:=Ab a;have R:=Ab n;clear a c n d x t T;simp only[AS];go_wp2;rw[B.out];have G:=(((M.bI ⟨L,2,Y⟩ (by simp;omega) (X J pp)).bI ⟨L,3,Y⟩ (by simp;omega) (O ss)).bI ⟨L,4,Y⟩ (by simp;omega) (U j (Z z) m)).bf rfl (X J p) (X J 1) (X J pp) (O ss) (U j (Z z) m) (X M8 0) (O ND) (X M8 0) (O ND);refine mj (Aw (P:=prog) (fn:=Tryz.f172) (p:=2) (u:=3) rfl rfl G underlying217 rfl (by kernel_rfl)) rfl ?_;have ES:=DT.out.2 L (by omega);have H9:=DT.out.2 N (by omega);refine⟨U j (Z z) m,HE,rfl,by have:=Aa HN;omega,?_,?_,?_⟩
   .exact Mr (Ah (Ah (Ah DT.out.1 (p:=⟨L,2,Y⟩) ES _) (p:=⟨L,3,Y⟩) ES _) (p:=⟨L,4,Y⟩) ES _) H9 _ _ _ _ _ _ _ _ _
   .exact(((R.other (p:=⟨L,2,Y⟩) (by simp;omega) (i L (by omega)) _).other (p:=⟨L,3,Y⟩) (by simp;omega) (i L (by omega)) _).other (p:=⟨L,4,Y⟩) (by simp;omega) (i L (by omega)) _).bf (by omega) (i N (by omega)) _ _ _ _ _ _ _ _ _
   .have BB:=Aa HN;exact(((C.setCell (p:=⟨L,2,Y⟩) (by right;simp;omega) _).setCell (p:=⟨L,3,Y⟩) (by right;simp;omega) _).setCell (p:=⟨L,4,Y⟩) (by right;simp;omega) _).bf (by right;omega) _ _ _ _ _ _ _ _ _
 |false=>
  rw[hs]at h4;simp only[lJ,if_false]at h4;have HS:=Ab hs;have H4:=Ab h4;clear h4 hs;go_wp2_with fail
  refine(UG b W f g br _ H4 HO).mono ?_;rintro e w5 ⟨rfl,k5⟩;have H5:=Ab (H4.bw k5);have FA:=Ab (HU.kept k5);have HW:=Ab (EY.kept k5);have FB:=Ab (HT.trans (k5.mono (by simp)));clear H4 HU EY HT k5;cases ha:E9 f g with
  |true=>
   have HA:=Ab ha;clear ha;(go_wp2_with fail);have Ha:=H5;have x:=FA;have t:=HW;have T:=FB;clear H5 FA HW FB;have K2:=x.lt;have K4:=t.lt;refine(O9 b W f g br _ Ha HO).mono ?_;intro e w6 o;clear Ha;cases ht:Fv f g with
   |error q=>
    rw[ht]at o;obtain⟨n9,ap,an,j,A0,m,rfl,n,d⟩:=o;(have B:JR (ID f g=.error q):=by show _=_;unfold ID;simp[HS.out,HA.out,ht]);clear ht;have a:=x.kept d (by simp;omega);have c:=t.kept d (by simp;omega);have C:=Ab (T.trans d);have l0:=c.cell 0;have l1:=c.cell 1;have l2:=c.cell 2;have l3:=c.cell 3;have l4:=c.cell 4;have l5:=c.cell 5;have l6:=c.cell 6;have l7:=c.cell 7;have l8:=c.cell 8;have lf:=c.frozen;have nf:=a.frozen;have I:=a.cell 0;have D:=a.cell 1;have y:=a.cell 2;have E:=a.cell 3;have H:=a.cell 4;have S:=a.cell 5;have F:=a.cell 6;have Q:=a.cell 7;have A:=a.cell 8;simp[Az,Cx,Ba,AK]at l0 I l1 D l2 y l3 E l4 H l5 S l6 F l7 Q l8 A;(have q1:¬L=N:=by omega);(have q2:¬N=L:=by omega);have M:=Ab a;have R:=Ab n;clear a c n d x t T;simp only[AS];go_wp2;rw[B.out];have G:=(((M.bI ⟨L,2,Y⟩ (by simp;omega) (X J ap)).bI ⟨L,3,Y⟩ (by simp;omega) (O an)).bI ⟨L,4,Y⟩ (by simp;omega) (U j A0 m)).bf rfl (X J p) (X J 0) (X J ap) (O an) (U j A0 m) (X M8 0) (O ND) (X M8 0) (O ND);refine mj (Aw (P:=prog) (fn:=Tryz.f172) (p:=2) (u:=3) rfl rfl G underlying217 rfl (by kernel_rfl)) rfl ?_;refine⟨n9,⟨p,0,⟨ap,an,U j A0 m⟩,AK,AK⟩,⟨_,_,_,rfl⟩,rfl,?_,?_⟩
    .exact(((R.other (p:=⟨L,2,Y⟩) (by simp;omega) (i L (by omega)) _).other (p:=⟨L,3,Y⟩) (by simp;omega) (i L (by omega)) _).other (p:=⟨L,4,Y⟩) (by simp;omega) (i L (by omega)) _).bf (by omega) (i N (by omega)) _ _ _ _ _ _ _ _ _
    .have BB:=Aa HN;exact(((C.setCell (p:=⟨L,2,Y⟩) (by right;simp;omega) _).setCell (p:=⟨L,3,Y⟩) (by right;simp;omega) _).setCell (p:=⟨L,4,Y⟩) (by right;simp;omega) _).bf (by right;omega) _ _ _ _ _ _ _ _ _
   |ok r=>
    obtain⟨⟨pp,ss,z⟩,n2⟩:=r;rw[ht]at o;obtain⟨tv,HE,rfl,KS,AH,n,d⟩:=o;obtain⟨j,m,rfl⟩:=Ak AH;(have B:JR (ID f g=.ok (.inl (p,0,pp,ss,z),n2)):=by show _=_;unfold ID;simp[HS.out,HA.out,ht,HP.out]);have DT:JR (_/\(∀k,k<HE->(U j (Z z) m).ownBlock≠V k)):=⟨AH,λk hk e=>by have:=(AH.lt k e).1;omega⟩;clear ht AH;have a:=x.kept d (by simp;omega);have c:=t.kept d (by simp;omega);have C:=Ab (T.trans d);have l0:=c.cell 0;have l1:=c.cell 1;have l2:=c.cell 2;have l3:=c.cell 3;have l4:=c.cell 4;have l5:=c.cell 5;have l6:=c.cell 6;have l7:=c.cell 7;have l8:=c.cell 8;have lf:=c.frozen;have nf:=a.frozen;have I:=a.cell 0;have D:=a.cell 1;have y:=a.cell 2;have E:=a.cell 3;have H:=a.cell 4;have S:=a.cell 5;have F:=a.cell 6;have Q:=a.cell 7;have A:=a.cell 8;simp[Az,Cx,Ba,AK]at l0 I l1 D l2 y l3 E l4 H l5 S l6 F l7 Q l8 A;(have q1:¬L=N:=by omega);(have q2:¬N=L:=by omega);have M:=Ab a;have R:=Ab n;clear a c n d x t T;simp only[AS];go_wp2;rw[B.out];have G:=(((M.bI ⟨L,2,Y⟩ (by simp;omega) (X J pp)).bI ⟨L,3,Y⟩ (by simp;omega) (O ss)).bI ⟨L,4,Y⟩ (by simp;omega) (U j (Z z) m)).bf rfl (X J p) (X J 0) (X J pp) (O ss) (U j (Z z) m) (X M8 0) (O ND) (X M8 0) (O ND);refine mj (Aw (P:=prog) (fn:=Tryz.f172) (p:=2) (u:=3) rfl rfl G underlying217 rfl (by kernel_rfl)) rfl ?_;have ES:=DT.out.2 L (by omega);have H9:=DT.out.2 N (by omega);refine⟨U j (Z z) m,HE,rfl,by have:=Aa HN;omega,?_,?_,?_⟩
    .exact Mr (Ah (Ah (Ah DT.out.1 (p:=⟨L,2,Y⟩) ES _) (p:=⟨L,3,Y⟩) ES _) (p:=⟨L,4,Y⟩) ES _) H9 _ _ _ _ _ _ _ _ _
    .exact(((R.other (p:=⟨L,2,Y⟩) (by simp;omega) (i L (by omega)) _).other (p:=⟨L,3,Y⟩) (by simp;omega) (i L (by omega)) _).other (p:=⟨L,4,Y⟩) (by simp;omega) (i L (by omega)) _).bf (by omega) (i N (by omega)) _ _ _ _ _ _ _ _ _
    .have BB:=Aa HN;exact(((C.setCell (p:=⟨L,2,Y⟩) (by right;simp;omega) _).setCell (p:=⟨L,3,Y⟩) (by right;simp;omega) _).setCell (p:=⟨L,4,Y⟩) (by right;simp;omega) _).bf (by right;omega) _ _ _ _ _ _ _ _ _
  |false=>
   have HA:=Ab ha;clear ha;(go_wp2_with fail);refine(iw b W f g br _ H5 HO).mono ?_;intro e w6 o;clear H5;cases ht:Iz f g with
   |error q=>
    rw[ht]at o;obtain⟨n9,l,HK,rfl,n,d⟩:=o;obtain⟨lp,ls,la,ll,lr⟩:=l;simp only at HK;subst HK;(have B:JR (ID f g=.error q):=by show _=_;unfold ID;simp[HS.out,HA.out,ht]);clear ht;have a:=FA.kept d (by simp;omega);have C:=Ab (FB.trans d);have nf:=a.frozen;have I:=a.cell 0;have D:=a.cell 1;have y:=a.cell 2;have E:=a.cell 3;have H:=a.cell 4;have S:=a.cell 5;have F:=a.cell 6;have Q:=a.cell 7;have A:=a.cell 8;simp[Az,Cx,Ba,AK]at I D y E H S F Q A;have M:=Ab a;have R:=Ab n;clear a n d FA HW FB;simp only[Az,Ba];go_wp2;rw[B.out];have G:=M.bf rfl (X J lp) (X J ls) (X J 0) (O ND) (U Y 0 0) (X M8 ll.v) (O ll.s) (X M8 lr.v) (O lr.s);refine mj (Aw (P:=prog) (fn:=Tryz.f172) (p:=2) (u:=3) rfl rfl G underlying217 rfl (by kernel_rfl)) rfl ?_;refine⟨n9,⟨lp,ls,Ba,ll,lr⟩,⟨_,_,_,rfl⟩,rfl,?_,?_⟩
    .exact R.bf (by omega) (i N (by omega)) _ _ _ _ _ _ _ _ _
    .have BB:=Aa HN;exact C.bf (by right;omega) _ _ _ _ _ _ _ _ _
   |ok r=>
    obtain⟨l,n2⟩:=r;rw[ht]at o;have HK:=Ua ht;obtain⟨lp,ls,la,ll,lr⟩:=l;simp only at HK;subst HK;obtain⟨rfl,n,d⟩:=o;(have B:JR (ID f g=.ok (.inr ⟨lp,ls,Ba,ll,lr⟩,n2)):=by show _=_;unfold ID;simp[HS.out,HA.out,ht]);clear ht;have a:=FA.kept d (by simp;omega);have C:=Ab (FB.trans d);have nf:=a.frozen;have I:=a.cell 0;have D:=a.cell 1;have y:=a.cell 2;have E:=a.cell 3;have H:=a.cell 4;have S:=a.cell 5;have F:=a.cell 6;have Q:=a.cell 7;have A:=a.cell 8;simp[Az,Cx,Ba,AK]at I D y E H S F Q A;have M:=Ab a;have R:=Ab n;clear a n d FA HW FB;simp only[Az,Ba];go_wp2;rw[B.out];have G:=M.bf rfl (X J lp) (X J ls) (X J 0) (O ND) (U Y 0 0) (X M8 ll.v) (O ll.s) (X M8 lr.v) (O lr.s);refine mj (Aw (P:=prog) (fn:=Tryz.f172) (p:=2) (u:=3) rfl rfl G underlying217 rfl (by kernel_rfl)) rfl ?_;refine⟨rfl,?_,?_⟩
    .exact R.bf (by omega) (i N (by omega)) _ _ _ _ _ _ _ _ _
    .have BB:=Aa HN;exact C.bf (by right;omega) _ _ _ _ _ _ _ _ _
end Go.Proofs.YtoihbhenbmffcaaGreatDoor
namespace Go.Proofs.YtoihbhenbmffcaaGreatDoor
open Go.RowKit Go.Proofs.Tryz
section
variable {P:Program} {ops:Array Oper} {Q:Exit->Act->Hq->Prop} {md:Region.Mode} {S:Hq->Prop} {k:Nat}
def CH(P:Program)(md:Region.Mode)(ops:Array Oper)(Q:Exit->Act->Hq->Prop)(S:Hq->Prop)(k:Nat):Nat->Array Bool->Act->Hq->Prop
 |0,listed,a,w=>Region.ready md ops listed=[]/\Q .normal a w
 |fuel+1,listed,a,w=>(Region.ready md ops listed=[]->Q .normal a w)/\
  ∀i∈Region.ready md ops listed,wpOp P ops Q i (λa' w'=>(i≠k->S w')/\CH P md ops Q S k fuel (listed.setIfInBounds i Cm) a' w') a w
def CH.any:∀(b:Nat) (c:Array Bool) (a:Act) (w:Hq),CH P md ops Q S k b c a w->wpAny P md ops Q b c a w
 |0,_,_,_,h=>h
 |b+1,_,_,_,h=>⟨h.1,λi g=>wpOp_mono (λf e d=>CH.any b _ f e d.2) (h.2 i g)⟩
def Q9(md:Region.Mode)(ops:Array Oper)(k i:Nat):Bool:=match ops[k]? with|some o=>o.after.any λe=>Region.binds md e&&e.on==i|none=>K
def T7{i:Nat}{b:Array Bool}(h:Q9 md ops k i=Cm)(f:b.getD i Cm=K):k∉Region.ready md ops b:=λg=>by
 obtain⟨_,o,l,j⟩:=mem_ready.1 g;unfold Q9 at h;rw[l]at h;obtain⟨e,m,d⟩:=Array.any_eq_true'.1 h;simp only[mi,nu]at d;have a:=j e m d.1;rw[d.2]at a;rcases Nat.lt_or_ge i b.size with c|c
 .simp[c]at f a;rw[f]at a;cases a
 .simp[oP c]at a
def CH.first{i:Nat}{n:Oper}{v:Hs}(B:ops[i]?=V n)(G:∀(j:Nat) (o:Oper) p b,ops[j]?=V o->o.op≠ .select p b)
  (T:∀c a w,Q (.panic c) (a.put n.dst v) w->Q (.panic c) a w) (W:Q9 md ops k i=Cm):
  ∀(r:Nat) (f:Array Bool) (a:Act) (w:Hq),
   (∀j m,ops[j]?=V m->j≠i->f.getD j Cm=K->(∀e∈m.after,Region.binds md e=Cm->e.on≠i)->n.apart ops m=Cm)->
   i∈Region.ready md ops f->YieldsIf P ops S n v a->S w->
   CH P md ops Q S k r (f.setIfInBounds i Cm) (a.put n.dst v) w->CH P md ops Q S k (r+1) f a w:=by
 intro r
 induction r with
 |zero=>
  intro f a w _ l u t H;refine⟨λh=>(by rw[h]at l;cases l),λj s=>?_⟩;by_cases d:j=i
  .subst d;exact u.wpOp B t ⟨λ_=>t,H⟩
  .have:=pH s d;rw[H.1]at this;cases this
 |succ r ih=>
  intro f a w E l u t H;have A:=(mem_ready.1 l).1;refine⟨λh=>(by rw[h]at l;cases l),λj s=>?_⟩;by_cases d:j=i
  .subst d;exact u.wpOp B t ⟨λ_=>t,H⟩
  ·(have D:j≠k:=λe=>T7 W A (e▸s));have h1:=H.2 j (pH s d);obtain⟨C,m,y,AT⟩:=mem_ready.1 s;have AB:∀e∈m.after,Region.binds md e=Cm->e.on≠i:=λe he N R=>by
    have g:=AT e he N;rw[R]at g;rcases Nat.lt_or_ge i f.size with z|z
    .simp[z]at A g;rw[A]at g;cases g
    .simp[oP z]at g
   have g:=wpOp_putIf y (E j m y d C AB) (λp b=>G i n p b B) (λp b=>G j m p b y) T u h1;refine wpOp_mono (λa' M x=>⟨λ_=>x.2.1 D,ih (f.setIfInBounds j Cm) a' M (λq oq hq AR I L=>E q oq hq AR ?_ L) (pH l (Ne.symm d)) x.1 (x.2.1 D) ?_⟩) g
   .by_cases F:j=q
    .subst F;exact C
    .rw[getD_set_ne Cm F]at I;exact I
   .rw[pI _ _ d];exact x.2.2
def CH.take{i:Nat}{d:Oper}{v:Hs}{e:Nat}{b:Array Bool}{a:Act}{w:Hq}(f:ops[i]?=V d)
  (o:Region.noSelect ops=Cm) (g:Region.free md ops b i=Cm) (n:(Region.ready md ops b).contains i=Cm) (j:Q9 md ops k i=Cm)
  (p:∀c a w,Q (.panic c) (a.put d.dst v) w->Q (.panic c) a w) (m:S w) (l:YieldsIf P ops S d v a)
  (h:CH P md ops Q S k e (b.setIfInBounds i Cm) (a.put d.dst v) w):CH P md ops Q S k (e+1) b a w:=
 CH.first f (Region.noSelect_spec o) p j e b a w (Region.free_spec f g) (by simpa using n) l m h
def kH(md:Region.Mode)(ops:Array Oper)(listed:Array Bool)(i:Nat)(b:Bool):Bool:=Region.noSelect ops&&Region.free md ops listed i&&(Region.ready md ops listed).contains i&&b
def CH.tk{i:Nat}{d:Oper}{v:Hs}{f:Nat}{e:Array Bool}{a:Act}{w:Hq}(n:ops[i]?=V d)(b:kH md ops e i (Q9 md ops k i)=Cm)
  (m:∀c a w,Q (.panic c) (a.put d.dst v) w->Q (.panic c) a w) (l:JR (S w)) (g:Region.wanted d (yielded ops a.tmps)=Cm) (j:∀w,S w->(execOp a.eval d).run P w=.ok (.value v) w)
  (h:CH P md ops Q S k f (e.setIfInBounds i Cm) (a.put d.dst v) w):CH P md ops Q S k (f+1) e a w:=by
 unfold kH at b;simp only[mi]at b;exact CH.take n b.1.1.1 b.1.1.2 b.1.2 b.2 m l (Hd ⟨g,j⟩) h
theorem CH.tq{i:Nat}{b:Oper}{v:Hs}{e:Nat}{d:Array Bool}{a:Act}{w:Hq}(n:ops[i]?=V b)(g:∀c a w,Q (.panic c) (a.put b.dst v) w->Q (.panic c) a w)(l:JR (S w))(h:CH P md ops Q S k e (d.setIfInBounds i Cm) (a.put b.dst v) w)(m:kH md ops d i (Q9 md ops k i)=Cm:=by kernel_rfl)(f:Region.wanted b (yielded ops a.tmps)=Cm:=by rfl)
  (j:∀w,S w->(execOp a.eval b).run P w=.ok (.value v) w:=by(intro o p;(try go_split_ands);go_simp)):CH P md ops Q S k (e+1) d a w:=CH.tk n m g l f j h
def BE{Q:Exit->Act->Hq->Prop}(h:JR (∀c a w,¬Q (.panic c) a w)){d:Option Tmp}{v:Hs}:∀c a w,Q (.panic c) (Act.put a d v) w->Q (.panic c) a w:=λ_ _ _ b=>absurd b (h _ _ _)
def CH.one{i:Nat}{o:Oper}{m:Nat}{e:Array Bool}{a:Act}{w:Hq}(n:Region.ready md ops e=[i])(q:ops[i]?=V o)
  (h:∀f:Act->Hq->Prop,JR (∀l c,(i≠k->S c)->CH P md ops Q S k m (e.setIfInBounds i Cm) l c->f l c)->
   if Region.wanted o (yielded ops a.tmps)=Cm then o.wp P a w f Q else f (a.put o.dst undef) w):CH P md ops Q S k (m+1) e a w:=by
 refine⟨λp=>(by rw[n]at p;cases p),λj g=>?_⟩;rw[n]at g;simp only[lG]at g;subst g;have b:=h _ (λl c r b=>And.intro r b);unfold wpOp;simp only[q];split
 .rename_i d;rw[lS d]at b;exact .inl b
 .rename_i d;rw[lO d]at b;exact b
def CH.done{b:Array Bool}{a:Act}{w:Hq}(c:Region.ready md ops b=[])(h:Q .normal a w):∀d,CH P md ops Q S k d b a w
 |0=>⟨c,h⟩
 |_+1=>⟨λ_=>h,by rw[c];simp⟩
def CI{b:Nat}{a:Act}{w:Hq}(k:Nat)(S:Hq->Prop)(c:P.follows .mixedOrders=Cm)
  (h:CH P .any ops Q S k ops.size (Array.replicate ops.size K) a w.drew):(Code.region b ops Cm).wp P Q a w:=
 wp_region_any c (CH.any _ _ _ _ h)
end
end Go.Proofs.YtoihbhenbmffcaaGreatDoor
namespace Go.Proofs.YtoihbhenbmffcaaGreatDoor
open Go.RowKit Go.Proofs.Tryz
set_option maxRecDepth 100000
theorem bQ(E:QC Hs)(j:Nat)(x:bC)(w:Hq)(c:Z E=26)(p:j<26)(q:(Ms (D6 E)).cells=D6 E)(g:∀v∈E,v.oneCell'=Cm):
  Calls prog 179 #[Ms (D6 E),X M8 ((j:Int)+65),O x] w λr k=>r=G3 (Ms (D6 (E.set j (O x))))/\Ac [] w k:=by
 have m:IntKind.i32.wrap (j:Int)=j:=by rw[IntKind.wrap_i32];omega
 have s:IntKind.i32.wrap ((j:Int)+65-65)=j:=by rw[show(j:Int)+65-65=j by omega];exact m
 have n:(0:Int)<=(j:Int):=by omega
 have o:(j:Int)<26:=by omega
 have i:JR (∀v∈E.set j (O x),v.oneCell'=Cm):=by
  intro v l;rcases List.mem_or_eq_of_mem_set l with h|rfl
  .exact g v h
  .rfl
 have a:JR (Z (E.set j (O x))=26):=by show _=_;simp[c]
 have d:JR ((E.set j (O x)).toArray.size=26):=by show _=_;simp[c]
 go_enter func179,ntmps179;go_wp2_with (first|(refine nH rfl 243 _ rfl w.heap.size 0 (by rfl) (E.set j (O x)) _ ?_ underlying243 rfl ?_ ?_)|(refine nN rfl 243 _ _ rfl (w.heap.size+1) 0 (D6 (E.set j (O x))) (by rfl) (by rfl) ?_ ?_ ?_ ?_))
 .exact((Tc w (E.set j (O x)) 243).alloc _).range
 .rw[Aa a];exact Tryz.bi
 .have h:=(Tc (w.alloc (Dj (D6 (E.set j (O x))) 243)) (NP 26 (O ⟨#[]⟩)) 243).there;simp only[nJ,mt]at h;rw[Aa d];exact h
 .rw[Aa d];exact Tryz.bi
 .exact m7 i
 .have e:=(Tc (w.alloc (Dj (D6 (E.set j (O x))) 243)) (NP 26 (O ⟨#[]⟩)) 243).fo (E.set j (O x)) (by rw[Aa a];simp);have f:=((((SF [] w).alloc (Dj (D6 (E.set j (O x))) 243)).alloc (Dj (D6 (NP 26 (O ⟨#[]⟩))) 243)).di (b:=w.heap.size+1) (Hf (by omega)) (E.set j (O x)) 0);simp only[mt]at e;refine mj (Cg (b:=w.heap.size+1) rfl (by rfl) e underlying243 rfl (by rw[Aa a];exact Tryz.bi)) rfl ⟨rfl,f⟩
