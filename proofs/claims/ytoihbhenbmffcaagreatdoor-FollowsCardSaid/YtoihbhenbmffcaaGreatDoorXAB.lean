import Derived.Deep.RegionHeld3
import Derived.Test.YtoihbhenbmffcaaGreatDoorXAA
set_option linter.all false
set_option maxHeartbeats 0
open List renaming length->Z,toArray->ml,replicate->pG
open Option renaming none->Y,some->V
open Go.Value renaming slice->U,int->X,string->O,pointer->m2,agg->pC,bool->pE,ownBlock->pI
open Bool renaming false->K,true->jj
open Go.IntKind renaming i64->J,i32->pD
open Go.Obj renaming cells->j3
open Go.Ending renaming returned->oa
open Or renaming inl->oi,inr->oj
open Go renaming World->py,Value->p5
open Go.RowKit renaming Hid->p7
open Go.World renaming cell?->p8,ownsRow->p9
open ByteArray renaming empty->pF
open Go.Op renaming bytesLess->pK
namespace Go.Proofs.YtoihbhenbmffcaaGreatDoor
open Go.RowKit Go.Proofs.Tryz
variable{w v:py}{s t:zA}{n k m b i:Nat}{P:Program}{I:Int}{z:p5}{y:pM p5}{T:TypeId}{M:pM Nat}
def Dt(w:py)(N:Nat)(s:zA)(pos:Nat):py:={w with heap:=w.heap.setIfInBounds N (.stringIter s pos)}
def Re{N:Nat}{pos:Nat}(h:N<w.heap.size):(Dt w N s pos).heap[N]?=V (.stringIter s pos):=by
 simp[Dt,h]
def Su(h:k≠n):(Dt w n s m).heap[k]?=w.heap[k]?:=by
 have a:¬n=k:=λe=>h e.symm
 simp[Dt,Array.getElem?_setIfInBounds,a]
def JK(w:py)(N:Nat)(s:zA)(a:Nat):(Dt w N s a).heap.size=w.heap.size:=by simp[Dt]
def D7(w:py)(N:Nat)(s:zA)(a:Nat):Ac [N] w (Dt w N s a):=
 ⟨rfl,rfl,rfl,by rw[JK];exact lC _,λk _ b=>Su (by simpa using b)⟩
def Xv(a:w.heap[n]?=V (.stringIter s m))(b:TypeId)(h:m<s.size):
  (Instr.next (m2 (V ⟨n,0,Y⟩)) jj b).run P w=.ok (.tuple #[pE jj,X J m,X pD (Utf8.decode s m).1]) (Dt w n s (m+(Utf8.decode s m).2)):=by
 simp only[Instr.next,getObj,setObj,oV,Sem.run,a,Result.andThen,h,if_true];simp[goInt,Dt]
def Xf(a:w.heap[n]?=V (.stringIter s m))(b:TypeId)(h:¬m<s.size):
  (Instr.next (m2 (V ⟨n,0,Y⟩)) jj b).run P w=.ok (.tuple #[pE K]) w:=by
 simp[Instr.next,getObj,Sem.run,a,h]
def Jf(s:zA)(a:Nat)(h:a<s.size):1<=(Utf8.decode s a).2:=by
 by_cases b:(s[a]'h).toNat<128
 .rw[nN s a h b];exact lC _
 .exact(pu s a h (by omega)).2
def WO(s:zA)(a:Nat):(Utf8.decode s a).2<=4:=by
 unfold Utf8.decode;simp only
 repeat' split
 all_goals simp
def gJ(r:Int):0<(Utf8.encode r).size:=by
 unfold Utf8.encode;simp only;generalize(if Utf8.valid r=jj then r.toNat else Utf8.runeError)=c
 repeat' split
 all_goals simp[ByteArray.size]
def Fc(s:zA)(pos:Nat)(ms:pM Bb):pM Bb:=
 if h:pos<s.size/\1<=(Utf8.decode s pos).2 then have _h1:pos<s.size:=h.1;have _h2:=h.2;Fc s (pos+(Utf8.decode s pos).2) (Mu ms pos (Utf8.decode s pos).1)else ms
def FZ(a:pM Bb)(h:n<s.size):Fc s n a=Fc s (n+(Utf8.decode s n).2) (Mu a n (Utf8.decode s n).1):=by
 conv=>lhs;rw[Fc]
 rw[dif_pos ⟨h,Jf s n h⟩]
def PE(a:pM Bb)(h:¬n<s.size):Fc s n a=a:=by
 rw[Fc,dif_neg (by omega)]
def Jd(m:Bb):Bb:=if Jy m then m else{m with kind:=0}
def E5(s:zA):Bb:=⟨1,s.size,pF⟩
def Dl(s:zA):pM Bb:=(Fc s 0 []).map Jd++[E5 s]
structure L4(s:zA)(pos:Nat)(ms:pM Bb):Prop where
 len:Z ms<=pos
 each:∀m∈ms,m.place<pos/\0<m.text.size/\m.text.size<=4*pos
def L4.lay{b:pM Bb}(h:L4 s n b)(g:n<k):L4 s k (Mu b n I):=by
 have l:=Zn I;have o:=gJ I;have d:∀m∈b,m.place<k/\0<m.text.size/\m.text.size<=4*k:=λm c=>by have:=h.each m c;omega
 have j:=h.len;unfold Mu;split
 .exact⟨by omega,d⟩
 .split
  .rename_i m c;have f:=List.mem_of_getLast? c;have i:=h.each m f;split
   .refine⟨?_,λx a=>?_⟩
    ·(have:b≠[]:=by intro e;rw[e]at c;simp at c);have:0<Z b:=List.length_pos_iff.2 this;simp;omega
    .rcases lw.1 a with a|a
     .exact d x (List.dropLast_subset b a)
     .simp only[kY]at a;subst a;simp only[lh];omega
   .refine⟨by simp;omega,λx a=>?_⟩;rcases lw.1 a with a|a
    .exact d x a
    .simp only[kY]at a;subst a;simp only[CB];omega
  .refine⟨by simp;omega,λx a=>?_⟩;rcases lw.1 a with a|a
   .exact d x a
   .simp only[kY]at a;subst a;simp only[CB];omega
def Gn(T:pM Bb)(k:Nat):pM Bb:=(T.take k).map Jd++T.drop k
def Je(T:pM Bb)(k:Nat)(a:k<=Z T):Z (Gn T k)=Z T:=by simp[Gn];omega
def Pg{T:pM Bb}(a:k<Z T):Gn T k=(T.take k).map Jd++T[k]::T.drop (k+1):=by
 unfold Gn;rw[lD a]
def Yb{T:pM Bb}(a:k<Z T):Gn T (k+1)=(T.take k).map Jd++Jd T[k]::T.drop (k+1):=by
 unfold Gn;rw[kW a,lV,mo];rfl
def aW(b c:pM Bb)(m:Bb)(n:Nat)(d:Z b=n):((b++m::c).flatMap Bq).set (n*3) (X J 0)=(b++{m with kind:=0}::c).flatMap Bq:=by
 subst d;have e:Z (b.flatMap Bq)=Z b*3:=by
  induction b with
  |nil=>rfl
  |cons a l ih=>rw[lF,lu,ih,GL,lj];omega
 simp only[lM,lF];rw[pm _ _ (by omega),e];simp[Bq]
set_option maxRecDepth 100000
theorem ZJ(s:zA)(w:py)(hs:s.size<=300):
  Calls prog 114 #[O s] w λe w'=>∃v,e=oa v/\p9 w' (w.heap.size+1) 206 3 v (Z (Dl s)) ((Dl s).flatMap Bq)/\Ac [] w w':=by
 obtain⟨i0,HJ,FO,HP,HE⟩:=mg Tryz.z8;have H3:∀(x:Bool) (w:py),(Op.unary .not (pE x)).run prog w=.ok (pE (!x)) w:=λ_ _=>rfl
 go_enter func114,ntmps114;go_wp2;obtain⟨T,hT⟩:=pN (Fc s 0 []);have HT:=Ab hT;clear hT
 go_loopg [3] s.size (λgk o wr=>∃(pos:Nat) (b:pM Bb),gk=s.size-pos/\pos<=s.size+4/\p7 (Fc s pos b=T/\L4 s pos b)/\wr.heap[w.heap.size]?=V (.stringIter s pos)/\p9 wr (w.heap.size+1) 206 3 o (Z b) (b.flatMap Bq)/\Ac [] w wr/\w.heap.size+1<=wr.heap.size)
 case atStart=>
  exact⟨0,[],by simp,by omega,⟨HT,⟨by simp,by simp⟩⟩,World.iter_heap w s 0,lH _ _ _ _,(pO _ _).alloc _,by simp[World.iter]⟩
 case round=>
  obtain⟨pos,b,ES,HV,p,B0,d,j,r⟩:=hrel;have HG:=Ab ES;have S:=Ab B0;clear ES B0;obtain⟨ad,AT,rfl⟩:=Ak d;by_cases F:pos<s.size
  .obtain⟨u,a,E⟩:∃u a,Utf8.decode s pos=(u,a):=⟨_,_,rfl⟩;(have H4:a<=4:=by have:=WO s pos;rw[E]at this;exact this);(have H2:1<=a:=by have:=Jf s pos F;rw[E]at this;exact this);have AB:∀z,(Instr.next (m2 (V ⟨w.heap.size,0,Y⟩)) jj z).run prog wr=.ok (.tuple #[pE jj,X J pos,X pD u]) (Dt wr w.heap.size s (pos+a)):=by
    intro z;have h:=Xv (P:=prog) S z F;rw[E]at h;exact h
   have B:=Ad d (D7 wr w.heap.size s (pos+a));have A2:=Ab (Re (w:=wr) (N:=w.heap.size) (s:=s) (pos:=pos+a) (by omega));(have AH:w.heap.size+1<=(Dt wr w.heap.size s (pos+a)).heap.size:=by rw[JK];exact r);have A:Ac [] w (Dt wr w.heap.size s (pos+a)):=j.trans' (D7 wr w.heap.size s (pos+a)) (by simp);have HL:p7 (Fc s (pos+a) (Mu b pos u)=T/\L4 s (pos+a) (Mu b pos u)):=by
    refine⟨?_,p.out.2.lay (by omega)⟩;have h:=p.out.1;rw[FZ b F,E]at h;exact h
   (have Ha:Z b<=1000000:=by have:=p.out.2.len;omega);(have E0:p7 (∀m∈b,m.place<=1000000/\m.text.size<=1000000):=λm f=>by have:=p.out.2.each m f;omega);clear E d j S;generalize Dt wr w.heap.size s (pos+a)=w2 at AB B A2 AH A;(go_wp2_with fail);clear AB;refine(gK _ b pos u (w.heap.size+1) _ AH B Ha (by omega) E0).mono ?_;rintro e M ⟨v3,rfl,FP,n⟩;have FB:=Ab ((n.block w.heap.size (by omega)).trans A2);have HA:Ac [] w M:=⟨n.os.trans A.os,n.tape.trans A.tape,n.output.trans A.output,mp A.size n.size,λk y _=>(n.block k (by omega)).trans (A.block k y (by simp))⟩;have HD:w.heap.size+1<=M.heap.size:=mp AH n.size;clear n A A2 B AH;go_wp2_with fail
   go_roundg (s.size-(pos+a))
   case measure=>have:=Aa HG;omega
   case rel=>exact⟨pos+a,Mu b pos u,rfl,by omega,HL,FB,FP,HA,HD⟩
  ·(have AB:∀z,(Instr.next (m2 (V ⟨w.heap.size,0,Y⟩)) jj z).run prog wr=.ok (.tuple #[pE K]) wr:=λz=>Xf (P:=prog) S z F);have L:p7 (b=T/\L4 s pos b):=⟨by have h:=p.out.1;rwa [PE b F]at h,p.out.2⟩;clear S p;have I:=L.out.1;(have HB:p7 (∀m∈T,m.text.size<=1000000/\0<m.text.size):=λm f=>by have:=L.out.2.each m (by rw[I];exact f);omega);(have HU:Z T<=400:=by have:=L.out.2.len;rw[I]at this;omega);rw[I]at d⊢;clear L I;(have HC:p7 (Dl s=T.map Jd++[E5 s]):=by show _=_;unfold Dl;rw[Aa HT]);clear HT HG;go_wp2;clear AB
   go_loopw [19] (λi wq=>∃k:Nat,i=X J k/\k<=Z T/\p9 wq (w.heap.size+1) 206 3 (U ad (Z T) AT) (Z T) ((Gn T k).flatMap Bq)/\Ac [] w wq/\w.heap.size+1<=wq.heap.size) (λi _=>Z T-(intOf i).toNat)
   case atStart=>exact⟨0,rfl,lz _,by simpa[Gn] using d,j,r⟩
   case round=>
    clear d j r;obtain⟨k,rfl,y,d,j,r⟩:=hrel;by_cases l:k<Z T
    ·(have EY:p9 wr (w.heap.size+1) 206 3 (U ad (Z T) AT) (Z (Gn T k)) ((Gn T k).flatMap Bq):=by rw[Je T k y];exact d);obtain⟨g,HZ,he,hc,Q⟩:=AC EY (λc _=>GL c) k (by rw[Je T k y];exact l);simp only[kS]at he;obtain⟨rfl,Go,rfl⟩:=he;clear Go;obtain⟨m,f⟩:=pN (T[k]);have BT:∀h,(Gn T k)[k]'h=m:=by
      intro h;have e:(Gn T k)[k]?=V m:=by
       (have hl:Z ((T.take k).map Jd)=k:=by simp;omega);rw[Pg l,nO (by omega),hl,Nat.sub_self,f];rfl
      rw[lc h]at e;exact mZ e
     have G:=Q k (by rw[Je T k y];exact l) 0 (by omega);have R:=Q k (by rw[Je T k y];exact l) 1 (by omega);have H:=Q k (by rw[Je T k y];exact l) 2 (by omega);rw[BT]at G R H;simp[Bq]at G R H;have EX:=HB.out m (by rw[<-f];exact kV l);have W:=V5 m wr EX.1 (λ_=>EX.2);simp only[Bq]at W;have HW:=Ab W;have D:p7 (Gn T k=(T.take k).map Jd++m::T.drop (k+1)/\Gn T (k+1)=(T.take k).map Jd++Jd m::T.drop (k+1)):=⟨by rw[Pg l,f],by rw[Yb l,f]⟩;clear Q BT EY W f hc;(go_wp2_with fail);refine HW.mono ?_;rintro e w1 ⟨rfl,C⟩;have Ax:=Ad d C;have BS:=j.trans C;have CC:w.heap.size+1<=w1.heap.size:=mp r C.size;cases hwh:Jy m with
     |true=>
      (have HN:p7 (Gn T (k+1)=Gn T k):=by show _=_;rw[D.out.1,D.out.2];simp[Jd,hwh]);clear D HW C G R H d j r;go_wp2
      go_roundw
      case rel=>exact⟨k+1,by go_num,by omega,by rw[HN.out];exact Ax,BS,CC⟩
      case measure=>simp[intOf];omega
     |false=>
      have FF:=Ax.lt g rfl;have HY:p8 w1 ⟨g,k*3,Y⟩=V (X J m.kind):=by
       rw[World.cell?_of_block (w:=wr) (C.block g (d.lt g rfl).2 (by simp))];exact G
      have H5:=Hn Ax (k*3);have HN:p7 (((Gn T k).flatMap Bq).set (k*3) (X J 0)=(Gn T (k+1)).flatMap Bq):=by
       show _=_;rw[D.out.1,D.out.2,aW _ _ _ k (by simp;omega)];simp[Jd,hwh]
      clear D HW C G R H d j r;go_wp2
      go_roundw
      case rel=>
       refine⟨k+1,by go_num,by omega,?_,BS.setCell (oj (by have:=FF.1;simp;omega)) _,by simpa using CC⟩;rw[<-HN.out];exact BG Ax (k*3) _
      case measure=>simp[intOf];omega
    ·(have FT:k=Z T:=by omega);have B:p9 wr (w.heap.size+1) 206 3 (U ad (Z T) AT) (Z T) ((T.map Jd).flatMap Bq):=by
      (have e:Gn T k=T.map Jd:=by unfold Gn;rw[kX (by omega),lS (by omega),lU]);rw[e]at d;exact d
     clear FT d;go_wp2_with (at_builtin;refine lG _ rfl (.tmp 33) (.tmp 37) _ rfl (w.heap.size+1) 206 i0 _ 3 32 underlying200 HJ FO HP HE rfl (by omega) (U ad (Z T) AT) (Z T) ((T.map Jd).flatMap Bq) rfl (lg B _) ⟨wr.heap.size,0,Y⟩ 1 1 (Bq (E5 s)) rfl rfl (lI (lP wr _)) (by simp[Value.oneCell',Bq]) (by omega) (by unfold maxLen;omega) (by omega) (by simp;omega) (wr.heap.size+1) (by simp) ?_;intro g1 H0 M HF B9 FA FC)
     have HR:Ac [] w M:=(j.alloc _).grown B9 (λq hq=>oj (by have:=(B.lt q hq).1;omega));clear B9 FA FC;go_wp2;go_ret;rw[HC.out];refine⟨_,rfl,?_,HR⟩;simpa using HF
structure Cn(w:py)(b:Nat)(mv:p5)(ms:pM Bb)(nx:Nat)(br:Int):Prop where
 zN:AF w b [mv,X J nx,X J br] 203
 row:p9 w 0 206 3 mv (Z ms) (ms.flatMap Bq)
 ap:mv.ownBlock≠V b
 lt:nx<Z ms
 len:Z ms<=1000
def Cn.kept{w w':py}{a:pM Bb}{j nx':Nat}{d br':Int}(h:Cn w b z a j d)(k:Ac [b] w w')(f:AF w' b [z,X J nx',X J br'] 203)(e:nx'<Z a):Cn w' b z a nx' br':=
 ⟨f,Ai h.row k (λi g c=>by simp at c;subst c;exact h.ap g),h.ap,e,h.len⟩
def Cn.zJ{a:pM Bb}(h:Cn w b z a n I)(k:Ac [] w v):Cn v b z a n I:=
 ⟨h.zN.kept k,Ad h.row k,h.ap,h.lt,h.len⟩
def Cn.cells{a:pM Bb}(h:Cn w b z a n I):∃g e,z=U (V ⟨g,0,Y⟩) (Z a) e/\p8 w ⟨b,0,Y⟩=V z/\p8 w ⟨b,1,Y⟩=V (X J n)/\p8 w ⟨b,2,Y⟩=V (X J I)/\
  ∀j (d:j<Z a),p8 w ⟨g,j*3,Y⟩=V (X J a[j].kind)/\p8 w ⟨g,j*3+1,Y⟩=V (X J a[j].place)/\p8 w ⟨g,j*3+2,Y⟩=V (O a[j].text):=by
 obtain⟨g,e,m,_,f⟩:=AC h.row (λc _=>GL c) n h.lt;refine⟨g,e,m,h.zN.cell 0,h.zN.cell 1,h.zN.cell 2,λj d=>?_⟩;have k:=f j d 0 (by omega);have l:=f j d 1 (by omega);have i:=f j d 2 (by omega);simp[Bq]at k l i;exact⟨k,l,i⟩
set_option maxRecDepth 512
theorem Ju(b:Nat)(j:p5)(c:pM Bb)(a:Nat)(k:Int)(w:py)(h:Cn w b j c a k)(m:Bb)(d:c[a]'h.lt=m):
  Calls prog 161 #[m2 (V ⟨b,0,Y⟩)] w λe l=>e=oa (X J m.place)/\Ac [] w l:=by
 obtain⟨g,s,rfl,r,q,_,f⟩:=h.cells;obtain⟨n,o,i⟩:=f a h.lt;rw[d]at o;have p:(a:Int)<(Z c:Int):=by have:=h.lt;omega
 clear n i f d h;go_enter func161,ntmps161;go_wp2
 go_quiet (fail)
 go_wp2;go_ret;exact⟨rfl,(pO _ _).drewN _⟩
theorem Fx(b:Nat)(c:p5)(a:pM Bb)(f:Nat)(i p:Int)(w:py)(h:Cn w b c a f i):
  Calls prog 160 #[m2 (V ⟨b,0,Y⟩),X J p] w λe j=>e=oa (pE K)/\Cn j b c a f p/\Ac [b] w j:=by
 have k:=h.zN.cell 2;have m:=h.zN.frozen 2;simp at k;have l:=h;have d:p7 (Cn w b c a f i):=h;clear h l;go_enter func160,ntmps160;go_wp2;go_ret;have g:Ac [b] w (w.setCell ⟨b,2,Y⟩ (X J p)):=(pO _ _).setCell (by simp) _;exact⟨rfl,d.out.kept g (d.out.zN.set 2 _) d.out.lt,g⟩
def BW(m:Bb)(t:zA):Bool:=m.kind==5&&(m.text.toList==t.toList)
set_option maxRecDepth 100000
theorem Ud(b:Nat)(s:p5)(d:pM Bb)(a:Nat)(p:Int)(t:zA)(w:py)(h:Cn w b s d a p)(m:Bb)(k:d[a]'h.lt=m):
  Calls prog 159 #[m2 (V ⟨b,0,Y⟩),O t] w λe c=>e=oa (pE (BW m t))/\Ac [] w c:=by
 obtain⟨g,r,rfl,q,o,_,n⟩:=h.cells;obtain⟨l,i,j⟩:=n a h.lt;rw[k]at l i j;have u:(a:Int)<(Z d:Int):=by have:=h.lt;omega
 have y:(0:Int)<=(a:Int):=by omega
 clear n k h;have z:=World.new_ne w _ q;have A:=World.new_ne w _ o;have B:=World.new_ne w _ l;have v:=World.new_ne w _ i;have x:=World.new_ne w _ j;go_enter func159,ntmps159;go_wp2_with fail
 go_region_held3 (λc=>p8 c ⟨b,0,Y⟩=V (U (V ⟨g,0,Y⟩) (Z d) r)/\p8 c ⟨b,1,Y⟩=V (X J a)/\p8 c ⟨g,a*3,Y⟩=V (X J m.kind)/\p8 c ⟨g,a*3+1,Y⟩=V (X J m.place)/\p8 c ⟨g,a*3+2,Y⟩=V (O m.text)) (go_keep) (fail)
 cases hk:(m.kind==5)with
 |true=>
  have f:p7 (BW m t=(m.text.toList==t.toList)):=by show _=_;simp[BW,hk]
  go_wp2;all_goals
   go_ret;refine⟨Bs ?_,?_⟩
   .rw[f.out]
   .repeat (first|refine Ac.drew ?_|refine Ac.setCell ?_ (by simp) _|refine Ac.alloc ?_ _|refine Ac.drewN ?_ _)
    exact pO _ _
 |false=>
  have f:p7 (BW m t=K):=by show _=_;simp[BW,hk]
  go_wp2;all_goals
   go_ret;refine⟨Bs ?_,?_⟩
   .rw[f.out]
   .repeat (first|refine Ac.drew ?_|refine Ac.setCell ?_ (by simp) _|refine Ac.alloc ?_ _|refine Ac.drewN ?_ _)
    exact pO _ _
set_option maxRecDepth 512
theorem G1(b:Nat)(o:p5)(f:pM Bb)(c:Nat)(l:Int)(t:zA)(w:py)(h:Cn w b o f c l)(m:Bb)(s:f[c]'h.lt=m)(p:BW m t=jj->c+1<Z f):
  Calls prog 162 #[m2 (V ⟨b,0,Y⟩),O t] w λe q=>e=oa (pE (BW m t))/\Cn q b o f (if BW m t then c+1 else c) l/\Ac [b] w q:=by
 have d:=Ab (Ud b o f c l t w h m s);have j:=Ab h;have B:=h.len;have y:=h.lt;clear s h;have A:∀(x:Bool) (w:py),(Op.unary .not (pE x)).run prog w=.ok (pE (!x)) w:=λ_ _=>rfl
 cases hs:BW m t with
 |true=>
  have u:=Ab (p hs);rw[hs]at d;clear hs p;simp only[if_true];go_enter func162,ntmps162;go_wp2_with fail
  refine d.mono ?_;rintro e k ⟨rfl,a⟩;have g:=j.zJ a;have i:=Ab g;have v:=g.zN.cell 1;have z:=g.zN.frozen 1;simp at v;have n:=a.mono (N:=[b]) (by simp);clear g a d j;go_wp2;go_ret;have r:Ac [b] k (k.setCell ⟨b,1,Y⟩ (X J ((c:Int)+1))):=(pO _ _).setCell (by simp) _;exact⟨rfl,i.kept r (i.zN.set 1 _) u,n.trans r⟩
 |false=>
  rw[hs]at d;clear hs p;simp only[k0,if_false];go_enter func162,ntmps162;go_wp2_with fail
  refine d.mono ?_;rintro e k ⟨rfl,a⟩;have i:=Ab (j.zJ a);have n:=a.mono (N:=[b]) (by simp);clear a d j;go_wp2;go_ret;exact⟨rfl,i,n⟩
theorem Of(b:Nat)(g:p5)(c:pM Bb)(a:Nat)(f:Int)(t:zA)(w:py)(h:Cn w b g c a f)(m:Bb)(j:c[a]'h.lt=m)(r:BW m t=jj->a+1<Z c):
  Calls prog 163 #[m2 (V ⟨b,0,Y⟩),O t] w λe n=>e=oa (pE (BW m t))/\Cn n b g c (if BW m t then a+1 else a) (if BW m t then f else m.place)/\Ac [b] w n:=by
 have i:=Ab (G1 b g c a f t w h m j r);have v:p7 (∀h:a<Z c,c[a]=m):=λ_=>j
 clear j r h;cases hs:BW m t with
 |true=>
  rw[hs]at i;have z:=Ab hs;clear hs;go_enter func163,ntmps163;go_wp2_with fail
  refine i.mono ?_;rintro e s ⟨rfl,d,l⟩;have k:=Ab d;clear d;go_wp2;go_ret;exact⟨rfl,k,l⟩
 |false=>
  rw[hs]at i;clear hs;go_enter func163,ntmps163;go_wp2_with fail
  refine i.mono ?_;rintro e s ⟨rfl,d,l⟩;simp only[k0,if_false]at d⊢;go_wp2_with fail
  refine(Ju b g c a f _ d m (v _)).mono ?_;rintro e A ⟨rfl,p⟩;have o:=d.zJ p;go_wp2_with fail
  refine(Fx b g c a f m.place _ o).mono ?_;rintro e y ⟨rfl,q,u⟩;have k:=Ab q;have x:=(l.trans (p.mono (by simp))).trans u;clear d o q;go_wp2;go_ret;exact⟨rfl,k,x⟩
def I2(s:zA):Bool:=pK s.toList [97]
theorem No(s:zA)(w:py):Calls prog 144 #[O s] w λe a=>e=oa (pE (I2 s))/\a=w:=by
 go_enter func144,ntmps144;go_wp2;all_goals go_ret
 all_goals exact⟨rfl,rfl⟩
def QH:zA:=⟨#[48]⟩
def LR:Nat->zA->zA
 |0,s=>s
 |k+1,s=>if s.size<3 then LR k (QH++s)else s
def AE(s:zA):zA:=if I2 s then LR 3 s else s
set_option maxRecDepth 100000
theorem VI(s:zA)(w:py):Calls prog 217 #[O s] w λe b=>e=oa (O (AE s))/\b=w:=by
 have f:=No s w;by_cases d:I2 s=jj
 .rw[d]at f;have c:AE s=LR 3 s:=by unfold AE;simp[d]
  rw[c];generalize hTe:LR 3 s=T;have j:=Ab hTe;clear hTe c d;go_enter func217,ntmps217;go_wp2_with (go_at_call 144;refine f.mono ?_;rintro e b ⟨rfl,rfl⟩)
  rename_i b _ _
  go_loopg [0] 3 (λgk o wr=>∃(t:zA),o=O t/\p7 (LR gk t=T)/\3<=t.size+gk/\wr=b)
  case atStart=>exact⟨s,rfl,j,by omega,rfl⟩
  case round=>
   obtain⟨t,rfl,g,m,rfl⟩:=hrel;by_cases i:t.size<3
   ·(have l:(t.size:Int)<3:=by omega);go_wp2;(have n:(QH++t).size=t.size+1:=by rw[lh];show 1+t.size=_;omega);obtain⟨k,rfl⟩:∃k,gk=k+1:=⟨gk-1,by omega⟩;have a:=Aa g;rw[LR,ln i]at a
    go_roundg k
    case measure=>omega
    case rel=>exact⟨QH++t,rfl,a,by omega,rfl⟩
   ·(have l:¬(t.size:Int)<3:=by omega);have c:p7 (t=T):=by
     show t=T;have a:=Aa g;cases gk with
     |zero=>exact a
     |succ k=>rw[LR,li i]at a;exact a
    go_wp2;go_ret;exact⟨by rw[<-Aa c];rfl,rfl⟩
 .have h:I2 s=K:=by simpa using d
  rw[h]at f;go_enter func217,ntmps217;go_wp2_with (go_at_call 144;refine f.mono ?_;rintro e b ⟨rfl,rfl⟩)
  all_goals go_ret
  all_goals refine⟨?_,rfl⟩
  all_goals simp[AE,h]
def eO:pM UInt8->Bool
 |[]=>K
 |[c]=>decide (48<=c.toNat/\c.toNat<=57)
 |[c,_]=>decide (49<=c.toNat/\c.toNat<=57)
 |[c,_,_]=>decide (49<=c.toNat/\c.toNat<=57)
 |_=>K
def DX(s:zA):zA:=if s.size=0 then s else if I2 s then(if eO s.toList then LR 3 s else⟨#[0]⟩++s)else s
def IY:pM UInt8->pM UInt8
 |[]=>[]
 |c::r=>if c.toNat<97 then(if eO (c::r)then pG (3-Z (c::r)) 48++(c::r)else 0::c::r)else c::r
def Cw(a b:zA):(a++b).toList=a.toList++b.toList:=by
 rw[lN,lN,lN,po,Array.toList_append]
def AY(a:zA):a.size=Z a.toList:=by
 rw[lN];rfl
def toList_inj{a b:zA}(h:a.toList=b.toList):a=b:=by
 rw[lN,lN]at h;exact ByteArray.ext (Array.toList_inj.1 h)
def Qt:QH.toList=[48]:=by rw[lN];rfl
def Mx:∀(k:Nat) (s:zA),s.size<=3->3<=s.size+k->(LR k s).toList=pG (3-s.size) 48++s.toList
 |0,s,h,hk=>by
  rw[show 3-s.size=0 by omega];rfl
 |k+1,s,h,hk=>by
  rw[LR];split
  .rename_i b;(have a:(QH++s).size=s.size+1:=by rw[AY,Cw,Qt,AY];simp);rw[Mx k (QH++s) (by omega) (by omega),a,Cw,Qt,show 3-s.size=(3-(s.size+1))+1 by omega,List.replicate_succ'];simp
  .rw[show 3-s.size=0 by omega];rfl
def Fh(c:UInt8)(r:pM UInt8):pK (c::r) [97]=decide (c.toNat<97):=by
 have e:pK r []=K:=by cases r<;>rfl
 simp only[pK,e];by_cases h:c.toNat<97
 .have:c<97:=h;simp[h,this]
 .have:¬c<97:=h;simp[h,this]
def Pf(s:zA):(DX s).toList=IY s.toList:=by
 unfold DX I2;cases hs:s.toList with
 |nil=>
  have:s.size=0:=by rw[AY,hs];rfl
  rw[ln this,hs];rfl
 |cons c r=>
  have a:s.size=Z (c::r):=by rw[AY,hs]
  rw[li (by rw[a];simp),Fh];unfold IY;by_cases h:c.toNat<97
  .simp only[h,decide_true,if_true];cases ho:eO (c::r)with
   |true=>
    simp only[if_true];have b:Z (c::r)<=3:=by
     match r,ho with
     |[],_=>simp
     |[_],_=>simp
     |[_,_],_=>simp
     |_::_::_::_,ho=>simp[eO]at ho
    rw[Mx 3 s (by omega) (by omega),hs,a]
   |false=>
    simp only[k0,if_false];rw[Cw,hs];rw[show(⟨#[0]⟩:zA).toList=[0] from by rw[lN]]
    rfl
  .simp only[h,oW,k0,if_false];exact hs
def Fl{l:pM UInt8}(h:eO l=jj):(∃c:UInt8,l=[c]/\48<=c.toNat/\c.toNat<=57)\/(∃c d:UInt8,l=[c,d]/\49<=c.toNat/\c.toNat<=57)\/(∃c d e:UInt8,l=[c,d,e]/\49<=c.toNat/\c.toNat<=57):=by
 match l,h with
 |[],h=>simp[eO]at h
 |[c],h=>exact oi ⟨c,rfl,by simpa[eO] using h⟩
 |[c,d],h=>exact oj (oi ⟨c,d,rfl,by simpa[eO] using h⟩)
 |[c,d,e],h=>exact oj (oj ⟨c,d,e,rfl,by simpa[eO] using h⟩)
 |_::_::_::_::_,h=>simp[eO]at h
def Nu(l:pM UInt8):(l=[]/\IY l=[])\/(∃c r,l=c::r/\97<=c.toNat/\IY l=c::r)\/(∃c r,l=c::r/\IY l=0::c::r)\/
  (∃c,l=[c]/\48<=c.toNat/\c.toNat<=57/\IY l=[48,48,c])\/(∃c d,l=[c,d]/\49<=c.toNat/\c.toNat<=57/\IY l=[48,c,d])\/(∃c d e,l=[c,d,e]/\49<=c.toNat/\c.toNat<=57/\IY l=[c,d,e]):=by
 cases l with
 |nil=>exact oi ⟨rfl,rfl⟩
 |cons c r=>
  rw[show IY (c::r)=if c.toNat<97 then(if eO (c::r)then pG (3-Z (c::r)) 48++(c::r)else 0::c::r)else c::r from rfl]
  by_cases h:c.toNat<97
  .rw[ln h];cases ho:eO (c::r)with
   |true=>
    rw[ln rfl];refine oj (oj (oj ?_));rcases Fl ho with⟨f,e,a,b⟩|⟨f,d,e,a,b⟩|⟨f,d,g,e,a,b⟩
    .rw[e];exact oi ⟨f,rfl,a,b,rfl⟩
    .rw[e];exact oj (oi ⟨f,d,rfl,a,b,rfl⟩)
    .rw[e];exact oj (oj ⟨f,d,g,rfl,a,b,rfl⟩)
   |false=>
    rw[li (by simp)];exact oj (oj (oi ⟨c,r,rfl,rfl⟩))
  .rw[li h];exact oj (oi ⟨c,r,rfl,by omega,rfl⟩)
def Yu{a b:pM UInt8}(h:IY a=IY b):a=b:=by
 have z:(48:UInt8).toNat=48:=rfl;have o:(0:UInt8).toNat=0:=rfl;rcases Nu a with⟨rfl,e⟩|⟨c,r,rfl,j,e⟩|⟨c,r,rfl,e⟩|⟨c,rfl,j,m,e⟩|⟨c,d,rfl,j,m,e⟩|⟨c,d,f,rfl,j,m,e⟩<;>
  rcases Nu b with⟨rfl,g⟩|⟨i,n,rfl,k,g⟩|⟨i,n,rfl,g⟩|⟨i,rfl,k,l,g⟩|⟨i,p,rfl,k,l,g⟩|⟨i,p,s,rfl,k,l,g⟩<;>
  rw[e]at h<;>(try rw[g]at h)<;>simp only[mj,reduceCtorEq,List.nil_eq,and_true]at h⊢
 all_goals first
  |exact h
  |exact h.2
  |exact h.2.2
  |(exfalso;have q:=congrArg UInt8.toNat h.1;clear e g;omega)
  |(exfalso;have q:=congrArg UInt8.toNat h.2.1;clear e g;omega)
def Y0(h:DX s=DX t):s=t:=
 toList_inj (Yu (by rw[<-Pf,<-Pf,h]))
def IT(t:zA)(h:0<t.size):∃r,t.toList=t[0]::r/\Z t.toList=t.size:=by
 rw[lN];obtain⟨⟨l⟩⟩:=t;cases l with
 |nil=>exact absurd h (by show¬(0<0);omega)
 |cons c r=>exact⟨r,rfl,rfl⟩
def Za(h:0<t.size)(c:97<=t[0].toNat):AE t=DX t:=by
 obtain⟨r,a,d⟩:=IT t h;have b:I2 t=K:=by
  unfold I2;rw[a,Fh];simp;omega
 unfold AE DX;rw[b,li (show¬t.size=0 by omega)];simp
def bU(h:0<t.size)(i:48<=t[0].toNat)(f:t[0].toNat<=57)(j:t.size<=3)(g:t[0].toNat=48->t.size=1):AE t=DX t:=by
 obtain⟨r,b,a⟩:=IT t h;have e:I2 t=jj:=by
  unfold I2;rw[b,Fh];simp;omega
 have d:eO t.toList=jj:=by
  rw[b]at a⊢;generalize t[0]=c at*
  match r,a with
  |[],_=>simp[eO];omega
  |[_],a=>simp at a;simp[eO];omega
  |[_,_],a=>simp at a;simp[eO];omega
  |_::_::_::_,a=>simp at a;omega
 unfold AE DX;rw[e,d,li (show¬t.size=0 by omega)];simp
structure AW where
 v:Int
 s:zA
def Ar(t:AW):pM p5:=[X pD t.v,O t.s]
def AJ:AW:=⟨0,pF⟩
theorem Pb(b:Nat)(B:p5)(c:pM Bb)(a:Nat)(t:Int)(w:py)(h:Cn w b B c a t)(m:Bb)(P:c[a]'h.lt=m)(A:(m.kind==2)=jj\/(m.kind==2)=K/\(m.kind==3)=jj)(T:a+1<Z c):
  Calls prog 193 #[m2 (V ⟨b,0,Y⟩)] w λe d=>e=oa (.tuple #[pC (ml (Ar ⟨0,AE m.text⟩)),pE jj])/\Cn d b B c (a+1) t/\Ac [b] w d:=by
 have HN:=Ab T;clear T;have HM:p7 (∀h:a<Z c,c[a]=m):=λ_=>P
 have W:=h.lt;have FP:(a:Int)<(Z c:Int):=by omega
 have Go:(0:Int)<=(a:Int):=by omega
 have hl:=h.len;have CC:=h.zN.lt;have E:∀k,B.ownBlock=V k->k<w.heap.size:=λk hk=>(h.row.lt k hk).2
 have u:=h.zJ ((pO [] w).alloc (j3 #[X pD 0,O ⟨#[]⟩] 215));have q:=pP w [X pD 0,O ⟨#[]⟩] 215;have x:=(pO [b] w).alloc (j3 [X pD 0,O ⟨#[]⟩].toArray 215);clear P h;go_enter func193,ntmps193;go_wp2_with fail
 generalize w.alloc (j3 [X pD 0,O ⟨#[]⟩].toArray 215)=w1 at u q x⊢;obtain⟨f,z⟩:=pN w.heap.size;rw[z]at q CC E⊢;have N:=Ab z;clear z;obtain⟨g,D,rfl,G,M,b2,L⟩:=u.cells;have FC:g<f:=E g rfl;clear E;obtain⟨C,y,v⟩:=L a W;rw[(Aa HM) W]at C y v;clear L b2;have n0:=World.new_ne w1 _ G;have n1:=World.new_ne w1 _ M;have n2:=World.new_ne w1 _ C;have n3:=World.new_ne w1 _ y;have n4:=World.new_ne w1 _ v;have HH:=Ab u;have n:=Ab q;clear u q
 go_region_held3 (λd=>p8 d ⟨b,0,Y⟩=V (U (V ⟨g,0,Y⟩) (Z c) D)/\p8 d ⟨b,1,Y⟩=V (X J a)/\p8 d ⟨g,a*3,Y⟩=V (X J m.kind)/\p8 d ⟨g,a*3+1,Y⟩=V (X J m.place)/\p8 d ⟨g,a*3+2,Y⟩=V (O m.text)) (go_keep) (fail)
 rename_i DT;clear DT n0 n1 n2 n3 n4 G M C y v;have AT:=n.lt;have j:=HH.zJ (((pO [] w1).alloc (j3 [X J m.kind,X J m.place,O m.text].toArray 206)).drew);have l:=(pP w1 [X J m.kind,X J m.place,O m.text] 206).drew;have i:=(n.alloc (j3 [X J m.kind,X J m.place,O m.text].toArray 206)).drew;have S:=(x.alloc (j3 [X J m.kind,X J m.place,O m.text].toArray 206)).drew;have I:(w1.alloc (j3 [X J m.kind,X J m.place,O m.text].toArray 206)).drew.heap.size=w1.heap.size+1:=by simp
 clear HH n x;generalize(w1.alloc (j3 [X J m.kind,X J m.place,O m.text].toArray 206)).drew=w2 at j l i S I⊢;generalize w1.heap.size=N4 at l AT I⊢;have x0:=l.cell 0;have x1:=l.cell 1;have x2:=l.cell 2;have y0:=i.cell 0;have y1:=i.cell 1;have yf:=i.frozen;have z1:=j.zN.cell 1;have zf:=j.zN.frozen 1;simp at x0 x1 x2 y0 y1 z1;have Ha:=l.lt;have FO:=j.zN.lt;have HA:=i.lt;have za:=λo=>(j.zN.alloc o).cell 1
 have FL:=λo=>(j.zN.alloc o).frozen 1
 have B0:=λo=>(i.alloc o).cell 0
 have B2:=λo=>(i.alloc o).cell 1
 have HD:=λo=>(i.alloc o).frozen
 simp at za B0 B2;have q1:¬b=f:=by omega
 have q2:¬f=b:=by omega
 have q3:¬b=w2.heap.size:=by omega
 have q4:¬w2.heap.size=b:=by omega
 have q5:¬f=w2.heap.size:=by omega
 have q6:¬w2.heap.size=f:=by omega
 have R:=Ab j;have n:=Ab i;clear j l i;have A2:p7 (∀r H Q:p5,r=X J ((a:Int)+1)->Cn ((((w2.alloc (j3 #[X pD 0,O (AE m.text)] 215)).setCell ⟨b,1,Y⟩ r).setCell ⟨f,0,Y⟩ H).setCell ⟨f,1,Y⟩ Q) b (U (V ⟨g,0,Y⟩) (Z c) D) c (a+1) t):=by
  intro r H Q hv;have k1:Ac [b] w2 ((((w2.alloc (j3 #[X pD 0,O (AE m.text)] 215)).setCell ⟨b,1,Y⟩ r))):=((pO [b] w2).alloc _).setCell (by simp) _;have p:=R.kept (nx':=a+1) (br':=t) k1 (by rw[hv];exact(R.zN.alloc _).set 1 _) HN;have F:(U (V ⟨g,0,Y⟩) (Z c) D).ownBlock≠V f:=by simp[pI];omega
  exact⟨(p.zN.zB _ (by simp;omega) _).zB _ (by simp;omega) _,Ag (Ag p.row F _) F _,p.ap,p.lt,p.len⟩
 have AO:p7 (∀s w,Calls prog 217 #[O s] w λe d=>e=oa (O (AE s))/\d=w):=VI;rcases A with A|⟨A,e3⟩;all_goals
  go_wp2_with (go_at_call 217;refine(AO _ _).mono ?_;rintro e d ⟨rfl,rfl⟩)
  refine lL (Av rfl rfl ((((n.alloc _).zB ⟨b,1,Y⟩ (by simp;omega) _).set 0 _).set 1 _) underlying215 rfl (by kernel_rfl)) rfl ⟨rfl,?_,?_⟩
  .exact A2.out _ _ _ rfl
  .refine Ac.setCell (Ac.setCell (Ac.setCell (S.alloc _) (by simp) _) (by right;have:=Aa N;simp;omega) _) (by right;have:=Aa N;simp;omega) _
theorem YH(b:Nat)(z:p5)(d:pM Bb)(a:Nat)(T:Int)(w:py)(h:Cn w b z d a T)(m:Bb)(Q:d[a]'h.lt=m)(e2:(m.kind==2)=K)(e3:(m.kind==3)=K)(e4:(m.kind==4)=K):
  Calls prog 193 #[m2 (V ⟨b,0,Y⟩)] w λe j=>e=oa (.tuple #[pC (ml (Ar AJ)),pE K])/\Cn j b z d a m.place/\Ac [b] w j:=by
 have HM:p7 (∀h:a<Z d,d[a]=m):=λ_=>Q
 have A1:=h.lt;have FO:(a:Int)<(Z d:Int):=by omega
 have FT:(0:Int)<=(a:Int):=by omega
 have hl:=h.len;have EX:=h.zN.lt;have C:∀k,z.ownBlock=V k->k<w.heap.size:=λk hk=>(h.row.lt k hk).2
 have s:=h.zJ ((pO [] w).alloc (j3 #[X pD 0,O ⟨#[]⟩] 215));have q:=pP w [X pD 0,O ⟨#[]⟩] 215;have v:=(pO [b] w).alloc (j3 [X pD 0,O ⟨#[]⟩].toArray 215);clear Q h;go_enter func193,ntmps193;go_wp2_with fail
 generalize w.alloc (j3 [X pD 0,O ⟨#[]⟩].toArray 215)=w1 at s q v⊢;obtain⟨f,y⟩:=pN w.heap.size;rw[y]at q EX C⊢;have N:=Ab y;clear y;obtain⟨g,AT,rfl,E,M,b2,I⟩:=s.cells;have FF:g<f:=C g rfl;clear C;obtain⟨A,x,t⟩:=I a A1;rw[(Aa HM) A1]at A x t;clear I b2;have n0:=World.new_ne w1 _ E;have n1:=World.new_ne w1 _ M;have n2:=World.new_ne w1 _ A;have n3:=World.new_ne w1 _ x;have n4:=World.new_ne w1 _ t;have HH:=Ab s;have n:=Ab q;clear s q
 go_region_held3 (λj=>p8 j ⟨b,0,Y⟩=V (U (V ⟨g,0,Y⟩) (Z d) AT)/\p8 j ⟨b,1,Y⟩=V (X J a)/\p8 j ⟨g,a*3,Y⟩=V (X J m.kind)/\p8 j ⟨g,a*3+1,Y⟩=V (X J m.place)/\p8 j ⟨g,a*3+2,Y⟩=V (O m.text)) (go_keep) (fail)
 rename_i EY;clear EY n0 n1 n2 n3 n4 E M A x t;have B2:=n.lt;have i:=HH.zJ (((pO [] w1).alloc (j3 [X J m.kind,X J m.place,O m.text].toArray 206)).drew);have l:=(pP w1 [X J m.kind,X J m.place,O m.text] 206).drew;have c:=(n.alloc (j3 [X J m.kind,X J m.place,O m.text].toArray 206)).drew;have B:=(v.alloc (j3 [X J m.kind,X J m.place,O m.text].toArray 206)).drew;have F:(w1.alloc (j3 [X J m.kind,X J m.place,O m.text].toArray 206)).drew.heap.size=w1.heap.size+1:=by simp
 clear HH n v;generalize(w1.alloc (j3 [X J m.kind,X J m.place,O m.text].toArray 206)).drew=w2 at i l c B F⊢;generalize w1.heap.size=N4 at l B2 F⊢;have L:=l.cell 0;have x1:=l.cell 1;have H:=l.cell 2;have y0:=c.cell 0;have P:=c.cell 1;have yf:=c.frozen;have z1:=i.zN.cell 1;have zf:=i.zN.frozen 1;simp at L x1 H y0 P z1;have FW:=l.lt;have FL:=i.zN.lt;have Go:=c.lt;have za:=λo=>(i.zN.alloc o).cell 1
 have B0:=λo=>(i.zN.alloc o).frozen 1
 have R:=λo=>(c.alloc o).cell 0
 have S:=λo=>(c.alloc o).cell 1
 have E0:=λo=>(c.alloc o).frozen
 simp at za R S;have q1:¬b=f:=by omega
 have q2:¬f=b:=by omega
 have q3:¬b=w2.heap.size:=by omega
 have q4:¬w2.heap.size=b:=by omega
 have q5:¬f=w2.heap.size:=by omega
 have q6:¬w2.heap.size=f:=by omega
 have AO:=Ab i;have n:=Ab c;clear i l c;go_wp2_with fail
 have G:=AO.zJ ((pO [] w2).alloc (j3 #[X pD 0,O ⟨#[]⟩] 215));refine(Fx b _ d a T m.place _ G).mono ?_;rintro e w4 ⟨rfl,W,u⟩;have r:=(n.alloc _).kept u (by simp;omega);have FB:=(B.alloc _).trans u;have v0:=r.cell 0;have v1:=r.cell 1;have vf:=r.frozen;simp at v0 v1;have DT:=Ab W;clear G W u L x1 H y0 P yf z1 zf za B0 R S E0 AO n B;go_wp2;refine lL (Av rfl rfl ((r.set 0 _).set 1 _) underlying215 rfl (by kernel_rfl)) rfl ⟨rfl,?_,?_⟩
 .have D:(U (V ⟨g,0,Y⟩) (Z d) AT).ownBlock≠V f:=by simp[pI];omega
  have p:=Aa DT;exact⟨(p.zN.zB _ (by simp;omega) _).zB _ (by simp;omega) _,Ag (Ag p.row D _) D _,p.ap,p.lt,p.len⟩
 .refine Ac.setCell (Ac.setCell FB (by right;have:=Aa N;simp;omega) _) (by right;have:=Aa N;simp;omega) _
def Dm(s:zA)(pos:Nat)(v:Int):Int:=
 if h:pos<s.size/\1<=(Utf8.decode s pos).2 then have _h1:pos<s.size:=h.1;have _h2:=h.2;Dm s (pos+(Utf8.decode s pos).2) (Utf8.decode s pos).1 else v
def L8(v:Int)(h:n<s.size):Dm s n v=Dm s (n+(Utf8.decode s n).2) (Utf8.decode s n).1:=by
 conv=>lhs;rw[Dm]
 rw[dif_pos ⟨h,Jf s n h⟩]
def UQ(v:Int)(h:¬n<s.size):Dm s n v=v:=by
 rw[Dm,dif_neg (by omega)]
theorem bV(b:Nat)(mv:p5)(d:pM Bb)(c:Nat)(A:Int)(w:py)(h:Cn w b mv d c A)(m:Bb)(F:d[c]'h.lt=m)(e2:(m.kind==2)=K)(e3:(m.kind==3)=K)(e4:(m.kind==4)=jj)(hn:c+1<Z d)(K5:m.text.size<=2000):
  Calls prog 193 #[m2 (V ⟨b,0,Y⟩)] w λe r=>e=oa (.tuple #[pC (ml (Ar ⟨Dm m.text 0 0,pF⟩)),pE jj])/\Cn r b mv d (c+1) A/\Ac [b] w r:=by
 have HN:=Ab hn;clear hn;have HM:p7 (∀h:c<Z d,d[c]=m):=λ_=>F
 have HK:=h.lt;have z:(c:Int)<(Z d:Int):=by omega
 have KK:(0:Int)<=(c:Int):=by omega
 have hl:=h.len;have H9:=h.zN.lt;have EM:∀k,mv.ownBlock=V k->k<w.heap.size:=λk hk=>(h.row.lt k hk).2
 have h1:=h.zJ ((pO [] w).alloc (j3 #[X pD 0,O ⟨#[]⟩] 215));have I:=pP w [X pD 0,O ⟨#[]⟩] 215;have Bx:=(pO [b] w).alloc (j3 [X pD 0,O ⟨#[]⟩].toArray 215);clear F h;go_enter func193,ntmps193;go_wp2_with fail
 generalize w.alloc (j3 [X pD 0,O ⟨#[]⟩].toArray 215)=w1 at h1 I Bx⊢;obtain⟨f,B9⟩:=pN w.heap.size;rw[B9]at I H9 EM⊢;have H0:=Ab B9;clear B9;obtain⟨g,x,rfl,b0,b1,b2,hc⟩:=h1.cells;have KB:g<f:=EM g rfl;clear EM;obtain⟨c0,c1,c2⟩:=hc c HK;rw[(Aa HM) HK]at c0 c1 c2;clear hc b2;have n0:=World.new_ne w1 _ b0;have n1:=World.new_ne w1 _ b1;have n2:=World.new_ne w1 _ c0;have n3:=World.new_ne w1 _ c1;have n4:=World.new_ne w1 _ c2;have HH:=Ab h1;have p:=Ab I;clear h1 I
 go_region_held3 (λr=>p8 r ⟨b,0,Y⟩=V (U (V ⟨g,0,Y⟩) (Z d) x)/\p8 r ⟨b,1,Y⟩=V (X J c)/\p8 r ⟨g,c*3,Y⟩=V (X J m.kind)/\p8 r ⟨g,c*3+1,Y⟩=V (X J m.place)/\p8 r ⟨g,c*3+2,Y⟩=V (O m.text)) (go_keep) (fail)
 rename_i IA;clear IA n0 n1 n2 n3 n4 b0 b1 c0 c1 c2;have HW:=p.lt;have q:=HH.zJ (((pO [] w1).alloc (j3 [X J m.kind,X J m.place,O m.text].toArray 206)).drew);have t:=(pP w1 [X J m.kind,X J m.place,O m.text] 206).drew;have l:=(p.alloc (j3 [X J m.kind,X J m.place,O m.text].toArray 206)).drew;have C:=(Bx.alloc (j3 [X J m.kind,X J m.place,O m.text].toArray 206)).drew;have y:(w1.alloc (j3 [X J m.kind,X J m.place,O m.text].toArray 206)).drew.heap.size=w1.heap.size+1:=by simp
 clear HH p Bx;generalize(w1.alloc (j3 [X J m.kind,X J m.place,O m.text].toArray 206)).drew=w2 at q t l C y⊢;generalize w1.heap.size=N4 at t HW y⊢;have L:=t.cell 0;have x1:=t.cell 1;have x2:=t.cell 2;have W:=l.cell 0;have M:=l.cell 1;have yf:=l.frozen;have S:=q.zN.cell 1;have zf:=q.zN.frozen 1;simp at L x1 x2 W M S;have H3:=t.lt;have HX:=q.zN.lt;have H4:=l.lt;have za:=λo=>(q.zN.alloc o).cell 1
 have HU:=λo=>(q.zN.alloc o).frozen 1
 have FO:=λo=>(l.alloc o).cell 0
 have FT:=λo=>(l.alloc o).cell 1
 have IS:=λo=>(l.alloc o).frozen
 simp at za FO FT;have q1:¬b=f:=by omega
 have q2:¬f=b:=by omega
 have q3:¬b=w2.heap.size:=by omega
 have q4:¬w2.heap.size=b:=by omega
 have q5:¬f=w2.heap.size:=by omega
 have q6:¬w2.heap.size=f:=by omega
 have HA:=Ab q;have p:=Ab l;clear q t l;go_wp2;have ES:(w2.alloc (j3 #[X pD 0,O ⟨#[]⟩] 215)).heap.size=N4+1+1:=by simp[y]
 have B2:Ac [b] w ((w2.alloc (j3 #[X pD 0,O ⟨#[]⟩] 215)).iter m.text 0):=(C.alloc _).alloc _;have h3:Cn ((w2.alloc (j3 #[X pD 0,O ⟨#[]⟩] 215)).iter m.text 0) b (U (V ⟨g,0,Y⟩) (Z d) x) d c A:=HA.zJ (((pO [] w2).alloc _).alloc _);have BA:AF ((w2.alloc (j3 #[X pD 0,O ⟨#[]⟩] 215)).iter m.text 0) f [X pD 0,O ⟨#[]⟩] 215:=(p.alloc _).alloc _;have A1:AF ((w2.alloc (j3 #[X pD 0,O ⟨#[]⟩] 215)).iter m.text 0) (N4+1) [X pD 0,O ⟨#[]⟩] 215:=by rw[<-y];exact(pP w2 [X pD 0,O ⟨#[]⟩] 215).alloc _
 have Q:=World.iter_heap (w2.alloc (j3 #[X pD 0,O ⟨#[]⟩] 215)) m.text 0;rw[ES]at Q;have A2:N4+1+1<((w2.alloc (j3 #[X pD 0,O ⟨#[]⟩] 215)).iter m.text 0).heap.size:=by simp[World.iter,y]
 have K7:w.heap.size<=f:=by have:=Aa H0;omega
 clear L x1 x2 W M yf S zf za HU FO FT IS HA p C ES q1 q2 q3 q4 q5 q6 H3 HX H4 y;generalize(w2.alloc (j3 #[X pD 0,O ⟨#[]⟩] 215)).iter m.text 0=w3 at B2 h3 BA A1 Q A2⊢
 go_loopg [] m.text.size (λgk wr=>∃(pos:Nat) (v:Int),gk=m.text.size-pos/\pos<=m.text.size+4/\p7 (Dm m.text pos v=Dm m.text 0 0)/\p7 (wr.heap[N4+1+1]?=V (.stringIter m.text pos))/\p7 (Cn wr b (U (V ⟨g,0,Y⟩) (Z d) x) d c A)/\p7 (AF wr f [X pD 0,O ⟨#[]⟩] 215)/\p7 (AF wr (N4+1) [X pD v,O ⟨#[]⟩] 215)/\Ac [b] w wr/\N4+1+1<wr.heap.size)
 case atStart=>exact⟨0,0,by simp,by omega,rfl,Q,h3,BA,A1,B2,A2⟩
 case round=>
  clear Q h3 BA A1 B2 A2;obtain⟨pos,v,HD,KD,T,R,n,B,HT,hK,hz⟩:=hrel;have HG:=Ab HD;clear HD;by_cases z:pos<m.text.size
  .obtain⟨E,a,D⟩:∃E a,Utf8.decode m.text pos=(E,a):=⟨_,_,rfl⟩;(have K4:a<=4:=by have:=WO m.text pos;rw[D]at this;exact this);(have KS:1<=a:=by have:=Jf m.text pos z;rw[D]at this;exact this);have FL:∀u,(Instr.next (m2 (V ⟨N4+1+1,0,Y⟩)) jj u).run prog wr=.ok (.tuple #[pE jj,X J pos,X pD E]) (Dt wr (N4+1+1) m.text (pos+a)):=by
    intro u;have h:=Xv (P:=prog) R u z;rw[D]at h;exact h
   have FP:=Ab (Re (w:=wr) (N:=N4+1+1) (s:=m.text) (pos:=pos+a) hz);have BT:=B.kept (D7 wr (N4+1+1) m.text (pos+a)) (by simp;omega);have G:=HT.kept (D7 wr (N4+1+1) m.text (pos+a));(have H:(U (V ⟨g,0,Y⟩) (Z d) x).ownBlock≠V (N4+1+1):=by simp[pI];omega);have B0:Cn (Dt wr (N4+1+1) m.text (pos+a)) b (U (V ⟨g,0,Y⟩) (Z d) x) d c A:=
    ⟨n.zN.kept (D7 wr (N4+1+1) m.text (pos+a)) (by simp;omega),Ai n.row (D7 wr (N4+1+1) m.text (pos+a)) (λi hi F=>by simp at F;subst F;exact H hi),n.ap,n.lt,n.len⟩
   have C:Ac [b] w (Dt wr (N4+1+1) m.text (pos+a)):=hK.trans' (D7 wr (N4+1+1) m.text (pos+a)) (by intro i hi;right;simp at hi;omega);(have Go:N4+1+1<(Dt wr (N4+1+1) m.text (pos+a)).heap.size:=by rw[JK];exact hz);have H8:p7 (Dm m.text (pos+a) E=Dm m.text 0 0):=by
    have h:=T.out;rw[L8 v z,D]at h;exact h
   clear D R n B HT T hK hz;generalize Dt wr (N4+1+1) m.text (pos+a)=w4 at FL FP BT G B0 C Go;have v0:=G.cell 0;have vf:=G.frozen 0;simp at v0;have p:=Ab BT;have HZ:=Ab G;have H2:=Ab B0;clear BT G B0;go_wp2_with fail
   go_roundg (m.text.size-(pos+a))
   case measure=>have:=Aa HG;omega
   case rel=>
    refine⟨pos+a,E,rfl,by omega,H8,?_,?_,p.zB _ (by simp;omega) _,HZ.set 0 _,C.setCell (by right;simp;omega) _,by simpa using Go⟩
    .show _=_;rw[pd _ _ _ _ (by simp)];exact FP
    .have j:=Aa H2;(have JJ:(U (V ⟨g,0,Y⟩) (Z d) x).ownBlock≠V (N4+1):=by simp[pI];omega);exact⟨j.zN.zB _ (by simp;omega) _,Ag j.row JJ _,j.ap,j.lt,j.len⟩
  ·(have FL:∀u,(Instr.next (m2 (V ⟨N4+1+1,0,Y⟩)) jj u).run prog wr=.ok (.tuple #[pE K]) wr:=λu=>Xf (P:=prog) R u z);(have HV:p7 (v=Dm m.text 0 0):=by have h:=T.out;rwa [UQ v z]at h);have S:=n.zN.cell 1;have zf:=n.zN.frozen 1;have W:=B.cell 0;have M:=B.cell 1;have yf:=B.frozen;have L:=HT.cell 0;have x1:=HT.cell 1;simp at S W M L x1;(have q1:¬b=f:=by omega);(have q2:¬f=b:=by omega);(have q3:¬b=N4+1:=by omega);(have q4:¬N4+1=b:=by omega);(have q5:¬f=N4+1:=by omega);(have q6:¬N4+1=f:=by omega);clear T R;go_wp2;have hR:=Aa n;have k1:Ac [b] wr (wr.setCell ⟨b,1,Y⟩ (X J ((c:Int)+1))):=(pO [b] wr).setCell (by simp) _;have j:=hR.kept (nx':=c+1) (br':=A) k1 (hR.zN.set 1 _) HN;(have H:(U (V ⟨g,0,Y⟩) (Z d) x).ownBlock≠V f:=by simp[pI];omega);refine lL (Av rfl rfl (((B.zB ⟨b,1,Y⟩ (by simp;omega) _).set 0 _).set 1 _) underlying215 rfl (by kernel_rfl)) rfl ⟨?_,?_,?_⟩
   .rw[<-HV.out];rfl
   .exact⟨(j.zN.zB _ (by simp;omega) _).zB _ (by simp;omega) _,Ag (Ag j.row H _) H _,j.ap,j.lt,j.len⟩
   .exact((hK.trans k1).setCell (by right;simp;omega) _).setCell (by right;simp;omega) _
structure Xs(ms:pM Bb):Prop where
 ends:∀i (h:i<Z ms),(ms[i].kind==1)=K->i+1<Z ms
 text:∀i (h:i<Z ms),ms[i].text.size<=2000
def Ga(m:Bb)(nx:Nat):Except Int (AW×Nat):=
 if m.kind==2||m.kind==3 then .ok (⟨0,AE m.text⟩,nx+1)
 else if m.kind==4 then .ok (⟨Dm m.text 0 0,pF⟩,nx+1)
 else .error m.place
def ik(b:Nat)(mv:p5)(ms:pM Bb)(br:Int)(w:py)(e:Ending)(w':py):Except Int (AW×Nat)->Prop
 | .ok (t,nx)=>e=oa (.tuple #[pC (ml (Ar t)),pE jj])/\Cn w' b mv ms nx br/\Ac [b] w w'
 | .error p=>∃nx,e=oa (.tuple #[pC (ml (Ar AJ)),pE K])/\Cn w' b mv ms nx p/\Ac [b] w w'
def Ji(b:Nat)(g:p5)(c:pM Bb)(a:Nat)(i:Int)(w:py)(h:Cn w b g c a i)(o:Xs c)(m:Bb)(f:c[a]'h.lt=m):
  Calls prog 193 #[m2 (V ⟨b,0,Y⟩)] w λe j=>ik b g c i w e j (Ga m a):=by
 have n:(m.kind==1)=K->a+1<Z c:=by rw[<-f];exact o.ends a h.lt
 have r:m.text.size<=2000:=by rw[<-f];exact o.text a h.lt
 have l:∀k:Int,(m.kind==k)=jj->k≠1->(m.kind==1)=K:=λk p q=>by
  have:m.kind=k:=by simpa using p
  rw[this];simpa using q
 cases e2:(m.kind==2)with
 |true=>
  refine(Pb b g c a i w h m f (oi e2) (n (l 2 e2 (by decide)))).mono ?_;intro e j d;simp only[Ga,e2,ox,if_true];exact d
 |false=>
  cases e3:(m.kind==3)with
  |true=>
   refine(Pb b g c a i w h m f (oj ⟨e2,e3⟩) (n (l 3 e3 (by decide)))).mono ?_;intro e j d;simp only[Ga,e3,oY,if_true];exact d
  |false=>
   cases e4:(m.kind==4)with
   |true=>
    refine(bV b g c a i w h m f e2 e3 e4 (n (l 4 e4 (by decide))) r).mono ?_;intro e j d;simp only[Ga,e2,e3,e4,pw,k0,if_false,if_true];exact d
   |false=>
    refine(YH b g c a i w h m f e2 e3 e4).mono ?_;intro e j d;simp only[Ga,e2,e3,e4,pw,k0,if_false];exact⟨a,d⟩
def TO:zA:=⟨#[40]⟩
theorem cd:TO.toList=[40]:=by kernel_rfl
def EZ(ms:pM Bb)(nx:Nat):Bool:=
 match ms[nx]?,ms[nx+1]? with
 |some m,V m'=>m.kind==2&&BW m' TO
 |_,_=>K
theorem UH(b:Nat)(L:p5)(d:pM Bb)(a:Nat)(H:Int)(w:py)(h:Cn w b L d a H)(C:Xs d):
  Calls prog 199 #[m2 (V ⟨b,0,Y⟩)] w λe f=>e=oa (pE (EZ d a))/\Ac [] w f:=by
 obtain⟨g,A,rfl,z,v,_,r⟩:=h.cells;have q:=h.lt;have hl:=h.len;obtain⟨D,_,_⟩:=r a q;obtain⟨m,i⟩:=pN (d[a]);have l:=C.ends a q;rw[i]at D l;have P:(a:Int)<(Z d:Int):=by omega
 have W:(0:Int)<=(a:Int):=by omega
 clear h C;cases hk:(m.kind==2)with
 |false=>
  have n:p7 (EZ d a=K):=by
   show _=_;unfold EZ;rw[lc q,i];split
   .rename_i x _;simp only[ld]at x;subst x;simp[hk]
   .rfl
  have E:(m.kind !=2)=jj:=by simp[bne,hk]
  clear r l i;go_enter func199,ntmps199;go_wp2
  go_quiet (fail)
  go_wp2;go_ret;exact⟨by rw[n.out];rfl,(pO _ _).drewN _⟩
 |true=>
  have u:=l (by have:m.kind=2:=(by simpa using hk);rw[this];decide);obtain⟨c,s⟩:=pN (d[a+1]);obtain⟨p,o,j⟩:=r (a+1) u;rw[s]at p o j;have n:p7 (EZ d a=BW c TO):=by
   show _=_;unfold EZ;rw[lc q,i,lc u,s];simp[hk]
  have E:(m.kind !=2)=K:=by simp[bne,hk]
  obtain⟨k,y⟩:=pN (a+1);have hw:IntKind.i64.wrap ((a:Int)+1)=(k:Int):=by
   rw[nB];omega
  have T:(0:Int)<=(k:Int):=by omega
  have Q:(k:Int)<(Z d:Int):=by omega
  rw[y]at p o j;clear r l i s u y;go_enter func199,ntmps199;go_wp2
  go_quiet (fail)
  have B:Ac [] w (w.drewN nq):=(pO _ _).drewN _;have M:p8 (w.drewN nq) ⟨b,0,Y⟩=V (U (V ⟨g,0,Y⟩) (Z d) A):=z;have N:p8 (w.drewN nq) ⟨b,1,Y⟩=V (X J a):=v;have I:p8 (w.drewN nq) ⟨g,k*3,Y⟩=V (X J c.kind):=p;have F:p8 (w.drewN nq) ⟨g,k*3+1,Y⟩=V (X J c.place):=o;have G:p8 (w.drewN nq) ⟨g,k*3+2,Y⟩=V (O c.text):=j;clear z v D p o j;generalize w.drewN nq=w1 at*;have n0:=World.new_ne w1 _ M;have n1:=World.new_ne w1 _ N;have n2:=World.new_ne w1 _ I;have R:=World.new_ne w1 _ F;have S:=World.new_ne w1 _ G;go_wp2_with fail
  go_region_held3 (λf=>p8 f ⟨b,0,Y⟩=V (U (V ⟨g,0,Y⟩) (Z d) A)/\p8 f ⟨b,1,Y⟩=V (X J a)/\p8 f ⟨g,k*3,Y⟩=V (X J c.kind)/\p8 f ⟨g,k*3+1,Y⟩=V (X J c.place)/\p8 f ⟨g,k*3+2,Y⟩=V (O c.text)) (go_keep) (fail)
  cases hs:(c.kind==5)with
  |true=>
   (have t:p7 (BW c TO=(c.text.toList==TO.toList)):=by show _=_;simp[BW,hs]);go_wp2;all_goals
    go_ret;refine⟨Bs ?_,?_⟩
    .rw[n.out,t.out,cd]
    .repeat (first|refine Ac.drew ?_|refine Ac.setCell ?_ (by simp) _|refine Ac.alloc ?_ _|refine Ac.drewN ?_ _)
     exact B
  |false=>
   (have t:p7 (BW c TO=K):=by show _=_;simp[BW,hs]);go_wp2;all_goals
    go_ret;refine⟨Bs ?_,?_⟩
    .rw[n.out,t.out]
    .repeat (first|refine Ac.drew ?_|refine Ac.setCell ?_ (by simp) _|refine Ac.alloc ?_ _|refine Ac.drewN ?_ _)
     exact B
structure Hl where
 place:Int
 name:zA
 tv:p5
def AP(a:Hl):pM p5:=[X J a.place,O a.name,a.tv]
def A7:Hl:=⟨0,pF,U Y 0 0⟩
structure du where
 place:Int
 sort:Int
 atom:Hl
 left:AW
 right:AW
def Az(l:du):pM p5:=[X J l.place,X J l.sort,X J l.atom.place,O l.atom.name,l.atom.tv,X pD l.left.v,O l.left.s,X pD l.right.v,O l.right.s]
def Cs:du:=⟨0,0,A7,AJ,AJ⟩
def Au(ms:pM Bb)(i:Nat):Bb:=ms.getD i ⟨1,0,pF⟩
def Bl{a:pM Bb}(h:i<Z a):a[i]=Au a i:=by simp[Au,h]
def Xs.seen{a:pM Bb}(c:Xs a)(h:i<Z a)(t:zA)(b:BW (Au a i) t=jj):i+1<Z a:=by
 refine c.ends i h ?_;rw[Bl h];unfold BW at b;rw[lJ]at b;have:(Au a i).kind=5:=by simpa using b.1
 rw[this];decide
def YG(a:pM p5)(k:Z a=9)(g f d c h i e j b:p5):(((((((((a.set 0 g).set 1 f).set 2 d).set 3 c).set 4 h).set 5 i).set 6 e).set 7 j).set 8 b)=[g,f,d,c,h,i,e,j,b]:=by
 match a,k with
 |[a0,a1,a2,a3,a4,a5,a6,a7,a8],_=>rfl
def AF.zE(h:AF w n y T)(l:Z y=9)(f e c b g i d j a:p5):AF (((((((((w.setCell ⟨n,0,Y⟩ f).setCell ⟨n,1,Y⟩ e).setCell ⟨n,2,Y⟩ c).setCell ⟨n,3,Y⟩ b).setCell ⟨n,4,Y⟩ g).setCell ⟨n,5,Y⟩ i).setCell ⟨n,6,Y⟩ d).setCell ⟨n,7,Y⟩ j).setCell ⟨n,8,Y⟩ a) n [f,e,c,b,g,i,d,j,a] T:=by
 have k:=(((((((((h.set 0 f).set 1 e).set 2 c).set 3 b).set 4 g).set 5 i).set 6 d).set 7 j).set 8 a);rw[YG y l]at k;exact k
def kj:zA:=⟨#[61]⟩
def kh:zA:=⟨#[35]⟩
def kg:zA:=⟨#[60]⟩
def Od(m:Bb):Option Int:=if BW m kj then V 2 else if BW m kh then V 3 else if BW m kg then V 4 else Y
def ID(ms:pM Bb)(nx:Nat):Except Int (du×Nat):=
 match Ga (Au ms nx) nx with
 | .error p=> .error p
 | .ok (l,n1)=>
  match Od (Au ms n1)with
  |none=> .error (Au ms n1).place
  |some s=>
   match Ga (Au ms (n1+1)) (n1+1)with
   | .error p=> .error p
   | .ok (r,n2)=> .ok (⟨(Au ms nx).place,s,A7,l,r⟩,n2)
def Ua{a:pM Bb}{l:du}(h:ID a m=.ok (l,n)):l.atom=A7:=by
 unfold ID at h;split at h
 .cases h
 .split at h
  .cases h
  .split at h
   .cases h
   .simp only[mF,lZ]at h;rw[<-h.1]
def Cn.other{a:pM Bb}(h:Cn w b z a n I){p:Addr}(c:p.block≠b)(d:z.ownBlock≠V p.block)(u:p5):Cn (w.setCell p u) b z a n I:=
 ⟨h.zN.zB _ c _,Ag h.row d _,h.ap,h.lt,h.len⟩
def Cn.zE{d:pM Bb}(h:Cn w b z d n I)(a:m≠b)(c:z.ownBlock≠V m)(k j i f l o g q e:p5):Cn (((((((((w.setCell ⟨m,0,Y⟩ k).setCell ⟨m,1,Y⟩ j).setCell ⟨m,2,Y⟩ i).setCell ⟨m,3,Y⟩ f).setCell ⟨m,4,Y⟩ l).setCell ⟨m,5,Y⟩ o).setCell ⟨m,6,Y⟩ g).setCell ⟨m,7,Y⟩ q).setCell ⟨m,8,Y⟩ e) b z d n I:=
 (((((((((h.other (p:=⟨m,0,Y⟩) a c k).other (p:=⟨m,1,Y⟩) a c j).other (p:=⟨m,2,Y⟩) a c i).other (p:=⟨m,3,Y⟩) a c f).other (p:=⟨m,4,Y⟩) a c l).other (p:=⟨m,5,Y⟩) a c o).other (p:=⟨m,6,Y⟩) a c g).other (p:=⟨m,7,Y⟩) a c q).other (p:=⟨m,8,Y⟩) a c e)
def Ac.zE(h:Ac M v w)(b:n∈M\/v.heap.size<=n)(i f d c j g e l k:p5):Ac M v (((((((((w.setCell ⟨n,0,Y⟩ i).setCell ⟨n,1,Y⟩ f).setCell ⟨n,2,Y⟩ d).setCell ⟨n,3,Y⟩ c).setCell ⟨n,4,Y⟩ j).setCell ⟨n,5,Y⟩ g).setCell ⟨n,6,Y⟩ e).setCell ⟨n,7,Y⟩ l).setCell ⟨n,8,Y⟩ k):=
 (((((((((h.setCell (p:=⟨n,0,Y⟩) b i).setCell (p:=⟨n,1,Y⟩) b f).setCell (p:=⟨n,2,Y⟩) b d).setCell (p:=⟨n,3,Y⟩) b c).setCell (p:=⟨n,4,Y⟩) b j).setCell (p:=⟨n,5,Y⟩) b g).setCell (p:=⟨n,6,Y⟩) b e).setCell (p:=⟨n,7,Y⟩) b l).setCell (p:=⟨n,8,Y⟩) b k)
def ju(b:Nat)(mv:p5)(ms:pM Bb)(br:Int)(w:py)(e:Ending)(w':py):Except Int (du×Nat)->Prop
 | .ok (l,nx)=>e=oa (.tuple #[pC (ml (Az l)),pE jj])/\Cn w' b mv ms nx br/\Ac [b] w w'
 | .error p=>∃nx l,l.atom=A7/\e=oa (.tuple #[pC (ml (Az l)),pE K])/\Cn w' b mv ms nx p/\Ac [b] w w'
theorem ic(b:Nat)(o:p5)(d:pM Bb)(x:Nat)(E:Int)(w:py)(h:Cn w b o d x E)(ok:Xs d):
  Calls prog 200 #[m2 (V ⟨b,0,Y⟩)] w λe w'=>ju b o d E w e w' (ID d x):=by
 have HO:=Ab ok;have LS:=h.zN.lt;have KS:∀k,o.ownBlock=V k->k<w.heap.size:=λk hk=>(h.row.lt k hk).2
 have h1:=Ab (h.zJ ((pO [] w).alloc (j3 (ml (Az Cs)) 217)));have hN:=Ab (pP w (Az Cs) 217);have IA:=Ab ((pO [b] w).alloc (j3 (ml (Az Cs)) 217));have KA:(w.alloc (j3 (ml (Az Cs)) 217)).heap.size=w.heap.size+1:=by simp
 clear h ok;go_enter func200,ntmps200;go_wp2_with fail
 change Calls _ _ _ (w.alloc (j3 (ml (Az Cs)) 217)) _;generalize w.alloc (j3 (ml (Az Cs)) 217)=w1 at h1 hN IA KA⊢;obtain⟨N,KD⟩:=pN w.heap.size;rw[KD]at hN LS KA KS⊢;have i:p7 (∀k,N<=k->o.ownBlock≠V k):=λk hk e=>by have:=KS k e;omega
 clear KS;have HN:=Ab KD;clear KD;refine(Ju b o d x E _ h1 (Au d x) (Bl h1.lt)).mono ?_;rintro e w2 ⟨rfl,k2⟩;have h2:=Ab (h1.zJ k2);have K4:=Ab (hN.kept k2);have LC:=Ab (IA.trans (k2.mono (by simp)));have LM:N+1<=w2.heap.size:=by have:=k2.size;omega
 clear h1 hN IA KA k2;obtain⟨p,hp⟩:=pN (Au d x).place;have HP:=Ab hp;rw[hp];clear hp;go_wp2_with fail
 change Calls _ _ _ (w2.alloc (j3 (ml (Az ⟨p,0,A7,AJ,AJ⟩)) 217)) _;have h3:=Ab (h2.zJ ((pO [] w2).alloc (j3 (ml (Az ⟨p,0,A7,AJ,AJ⟩)) 217)));have Ha:=Ab (K4.alloc (j3 (ml (Az ⟨p,0,A7,AJ,AJ⟩)) 217));have FO:=Ab (pP w2 (Az ⟨p,0,A7,AJ,AJ⟩) 217);have HE:=Ab (LC.alloc (j3 (ml (Az ⟨p,0,A7,AJ,AJ⟩)) 217));clear h2 K4 LC;generalize w2.alloc (j3 (ml (Az ⟨p,0,A7,AJ,AJ⟩)) 217)=w3 at h3 Ha FO HE⊢;obtain⟨L,LL⟩:=pN w2.heap.size;rw[LL]at FO LM⊢;clear LL;refine(Ji b o d x E _ h3 HO (Au d x) (Bl h3.lt)).mono ?_;intro e w4 n;cases ht:Ga (Au d x) x with
 |error q=>
  rw[ht]at n;obtain⟨n9,rfl,h4,k4⟩:=n;have C:p7 (ID d x=.error q):=by show _=_;unfold ID;rw[ht]
  have H:=Ha.kept k4 (by simp;omega);have DT:=FO.kept k4 (by simp;omega);have HL:=Ab (HE.trans k4);clear h3 Ha FO HE ht k4;have B:=DT.cell 5;have D:=DT.cell 6;have lf:=DT.frozen;have nf:=H.frozen;have W:=H.cell 0;have M:=H.cell 1;have F:=H.cell 2;have Q:=H.cell 3;have T:=H.cell 4;have c5:=H.cell 5;have R:=H.cell 6;have c7:=H.cell 7;have I:=H.cell 8;simp[Az,Cs,A7,AJ]at B D W M F Q T c5 R c7 I;have q1:¬L=N:=by omega
  have q2:¬N=L:=by omega
  have HB:=Ab H;have t:=Ab h4;clear H DT h4;simp only[Ar,AJ];go_wp2;rw[C.out];have S:=((HB.zB ⟨L,5,Y⟩ (by simp;omega) (X pD 0)).zB ⟨L,6,Y⟩ (by simp;omega) (O pF)).zE rfl (X J 0) (X J 0) (X J 0) (O ⟨#[]⟩) (U Y 0 0) (X pD 0) (O ⟨#[]⟩) (X pD 0) (O ⟨#[]⟩);refine lL (Av (P:=prog) (fn:=Tryz.f200) (p:=2) (u:=3) rfl rfl S underlying217 rfl (by kernel_rfl)) rfl ?_;refine⟨n9,Cs,rfl,rfl,?_,?_⟩
  .exact((t.other (p:=⟨L,5,Y⟩) (by simp;omega) (i L (by omega)) _).other (p:=⟨L,6,Y⟩) (by simp;omega) (i L (by omega)) _).zE (by omega) (i N (by omega)) _ _ _ _ _ _ _ _ _
  .have G:=Aa HN;exact((HL.setCell (p:=⟨L,5,Y⟩) (by right;simp;omega) _).setCell (p:=⟨L,6,Y⟩) (by right;simp;omega) _).zE (by right;omega) _ _ _ _ _ _ _ _ _
 |ok r=>
  obtain⟨l,f⟩:=r;rw[ht]at n;obtain⟨rfl,h4,k4⟩:=n;have H:=Ha.kept k4 (by simp;omega);have DT:=FO.kept k4 (by simp;omega);have HL:=Ab (HE.trans k4);have HT:=Ab ht;clear h3 Ha FO HE k4 ht;have B:=DT.cell 5;have D:=DT.cell 6;have lf:=DT.frozen;simp[Az,Cs,A7,AJ]at B D;have K5:=Ab H;have K3:=Ab DT;have t:=Ab h4;clear H DT h4;simp only[Ar];go_wp2_with fail
  have Bx:=Aa i;have G:=Aa HN;have h5:Cn ((w4.setCell ⟨L,5,Y⟩ (X pD l.v)).setCell ⟨L,6,Y⟩ (O l.s)) b o d f E:=by
   exact(t.other (p:=⟨L,5,Y⟩) (by simp;omega) (Bx L (by omega)) _).other (p:=⟨L,6,Y⟩) (by simp;omega) (Bx L (by omega)) _
  have Ix:=Ab ((K5.zB ⟨L,5,Y⟩ (by simp;omega) (X pD l.v)).zB ⟨L,6,Y⟩ (by simp;omega) (O l.s));have Jx:p7 (AF ((w4.setCell ⟨L,5,Y⟩ (X pD l.v)).setCell ⟨L,6,Y⟩ (O l.s)) L (Az ⟨p,0,A7,l,AJ⟩) 217):=(K3.set 5 _).set 6 _;have IJ:=Ab ((HL.setCell (p:=⟨L,5,Y⟩) (by right;simp;omega) (X pD l.v)).setCell (p:=⟨L,6,Y⟩) (by right;simp;omega) (O l.s));clear B D lf K5 K3 t HL Bx G;generalize(w4.setCell ⟨L,5,Y⟩ (X pD l.v)).setCell ⟨L,6,Y⟩ (O l.s)=w5 at h5 Ix Jx IJ⊢;have H5:=Ab h5;clear h5;refine(G1 b o d f E kj _ H5 (Au d f) (Bl H5.lt) (HO.seen H5.lt kj)).mono ?_;rintro e w6 ⟨rfl,h6,k6⟩;have HW:=Ab (Ix.kept k6 (by simp;omega));have FL:=Ab (Jx.kept k6 (by simp;omega));have HV:=Ab (IJ.trans k6);clear H5 Ix Jx IJ k6;cases s1:BW (Au d f) kj with
  |true=>
   rw[s1]at h6;simp only[if_true]at h6;(have HS:p7 (Od (Au d f)=V 2):=by show _=_;simp[Od,s1]);clear s1;have m:=FL.cell 1;have lf:=FL.frozen;simp[Az]at m;have H6:=Ab h6;clear h6;(go_wp2_with fail);have Bx:=Aa i;have G:=Aa HN;have hR:Cn (w6.setCell ⟨L,1,Y⟩ (X J 2)) b o d (f+1) E:=H6.other (p:=⟨L,1,Y⟩) (by simp;omega) (Bx L (by omega)) _;have y:p7 (AF (w6.setCell ⟨L,1,Y⟩ (X J 2)) N (Az Cs) 217):=HW.zB ⟨L,1,Y⟩ (by simp;omega) _;have z:p7 (AF (w6.setCell ⟨L,1,Y⟩ (X J 2)) L (Az ⟨p,2,A7,l,AJ⟩) 217):=FL.set 1 _;have A:=Ab (HV.setCell (p:=⟨L,1,Y⟩) (by right;simp;omega) (X J 2));clear m lf HW FL HV Bx G H6;generalize w6.setCell ⟨L,1,Y⟩ (X J 2)=w9 at hR y z A⊢;refine(Ji b o d (f+1) E _ hR HO (Au d (f+1)) (Bl hR.lt)).mono ?_;intro e KB n;clear hR;cases ht2:Ga (Au d (f+1)) (f+1)with
   |error q=>
    rw[ht2]at n;obtain⟨n9,rfl,j,g⟩:=n;(have C:p7 (ID d x=.error q):=by show _=_;unfold ID;simp only[HT.out,HS.out,ht2]);have a:=y.kept g (by simp;omega);have c:=z.kept g (by simp;omega);have A1:=Ab (A.trans g);clear y z A g ht2 HT HS;have l0:=c.cell 0;have m:=c.cell 1;have l2:=c.cell 2;have l3:=c.cell 3;have l4:=c.cell 4;have B:=c.cell 5;have D:=c.cell 6;have l7:=c.cell 7;have l8:=c.cell 8;have lf:=c.frozen;have nf:=a.frozen;have W:=a.cell 0;have M:=a.cell 1;have F:=a.cell 2;have Q:=a.cell 3;have T:=a.cell 4;have c5:=a.cell 5;have R:=a.cell 6;have c7:=a.cell 7;have I:=a.cell 8;simp[Az,Cs,A7,AJ]at l0 W m M l2 F l3 Q l4 T B c5 D R l7 c7 l8 I;(have q1:¬L=N:=by omega);(have q2:¬N=L:=by omega);have HB:=Ab a;have t:=Ab j;clear a c j;simp only[Ar,AJ];go_wp2;rw[C.out];have S:=((HB.zB ⟨L,7,Y⟩ (by simp;omega) (X pD 0)).zB ⟨L,8,Y⟩ (by simp;omega) (O pF)).zE rfl (X J p) (X J 2) (X J 0) (O pF) (U Y 0 0) (X pD l.v) (O l.s) (X pD 0) (O pF);refine lL (Av (P:=prog) (fn:=Tryz.f200) (p:=2) (u:=3) rfl rfl S underlying217 rfl (by kernel_rfl)) rfl ?_;refine⟨n9,⟨p,2,A7,l,AJ⟩,rfl,rfl,?_,?_⟩
    .exact((t.other (p:=⟨L,7,Y⟩) (by simp;omega) (i L (by omega)) _).other (p:=⟨L,8,Y⟩) (by simp;omega) (i L (by omega)) _).zE (by omega) (i N (by omega)) _ _ _ _ _ _ _ _ _
    .have G:=Aa HN;exact((A1.setCell (p:=⟨L,7,Y⟩) (by right;simp;omega) _).setCell (p:=⟨L,8,Y⟩) (by right;simp;omega) _).zE (by right;omega) _ _ _ _ _ _ _ _ _
   |ok r=>
    obtain⟨r,n2⟩:=r;rw[ht2]at n;obtain⟨rfl,j,g⟩:=n;(have C:p7 (ID d x=.ok (⟨p,2,A7,l,r⟩,n2)):=by show _=_;unfold ID;simp only[HT.out,HS.out,ht2,HP.out]);have a:=y.kept g (by simp;omega);have c:=z.kept g (by simp;omega);have A1:=Ab (A.trans g);clear y z A g ht2 HT HS;have l0:=c.cell 0;have m:=c.cell 1;have l2:=c.cell 2;have l3:=c.cell 3;have l4:=c.cell 4;have B:=c.cell 5;have D:=c.cell 6;have l7:=c.cell 7;have l8:=c.cell 8;have lf:=c.frozen;have nf:=a.frozen;have W:=a.cell 0;have M:=a.cell 1;have F:=a.cell 2;have Q:=a.cell 3;have T:=a.cell 4;have c5:=a.cell 5;have R:=a.cell 6;have c7:=a.cell 7;have I:=a.cell 8;simp[Az,Cs,A7,AJ]at l0 W m M l2 F l3 Q l4 T B c5 D R l7 c7 l8 I;(have q1:¬L=N:=by omega);(have q2:¬N=L:=by omega);have HB:=Ab a;have t:=Ab j;clear a c j;simp only[Ar];go_wp2;rw[C.out];have S:=((HB.zB ⟨L,7,Y⟩ (by simp;omega) (X pD r.v)).zB ⟨L,8,Y⟩ (by simp;omega) (O r.s)).zE rfl (X J p) (X J 2) (X J 0) (O pF) (U Y 0 0) (X pD l.v) (O l.s) (X pD r.v) (O r.s);refine lL (Av (P:=prog) (fn:=Tryz.f200) (p:=2) (u:=3) rfl rfl S underlying217 rfl (by kernel_rfl)) rfl ?_;refine⟨rfl,?_,?_⟩
    .exact((t.other (p:=⟨L,7,Y⟩) (by simp;omega) (i L (by omega)) _).other (p:=⟨L,8,Y⟩) (by simp;omega) (i L (by omega)) _).zE (by omega) (i N (by omega)) _ _ _ _ _ _ _ _ _
    .have G:=Aa HN;exact((A1.setCell (p:=⟨L,7,Y⟩) (by right;simp;omega) _).setCell (p:=⟨L,8,Y⟩) (by right;simp;omega) _).zE (by right;omega) _ _ _ _ _ _ _ _ _
  |false=>
   rw[s1]at h6;simp only[k0,if_false]at h6;have H6:=Ab h6;clear h6;(go_wp2_with fail);refine(G1 b o d f E kh _ H6 (Au d f) (Bl H6.lt) (HO.seen H6.lt kh)).mono ?_;rintro e w7 ⟨rfl,h7,k7⟩;have HZ:=Ab (HW.kept k7 (by simp;omega));have FT:=Ab (FL.kept k7 (by simp;omega));have HY:=Ab (HV.trans k7);clear H6 HW FL HV k7;cases s2:BW (Au d f) kh with
   |true=>
    rw[s2]at h7;simp only[if_true]at h7;(have HS:p7 (Od (Au d f)=V 3):=by show _=_;simp[Od,s1,s2]);clear s1 s2;have m:=FT.cell 1;have lf:=FT.frozen;simp[Az]at m;have H7:=Ab h7;clear h7;(go_wp2_with fail);have Bx:=Aa i;have G:=Aa HN;have hR:Cn (w7.setCell ⟨L,1,Y⟩ (X J 3)) b o d (f+1) E:=H7.other (p:=⟨L,1,Y⟩) (by simp;omega) (Bx L (by omega)) _;have y:p7 (AF (w7.setCell ⟨L,1,Y⟩ (X J 3)) N (Az Cs) 217):=HZ.zB ⟨L,1,Y⟩ (by simp;omega) _;have z:p7 (AF (w7.setCell ⟨L,1,Y⟩ (X J 3)) L (Az ⟨p,3,A7,l,AJ⟩) 217):=FT.set 1 _;have A:=Ab (HY.setCell (p:=⟨L,1,Y⟩) (by right;simp;omega) (X J 3));clear m lf HZ FT HY Bx G H7;generalize w7.setCell ⟨L,1,Y⟩ (X J 3)=w9 at hR y z A⊢;refine(Ji b o d (f+1) E _ hR HO (Au d (f+1)) (Bl hR.lt)).mono ?_;intro e KB n;clear hR;cases ht2:Ga (Au d (f+1)) (f+1)with
    |error q=>
     rw[ht2]at n;obtain⟨n9,rfl,j,g⟩:=n;(have C:p7 (ID d x=.error q):=by show _=_;unfold ID;simp only[HT.out,HS.out,ht2]);have a:=y.kept g (by simp;omega);have c:=z.kept g (by simp;omega);have A1:=Ab (A.trans g);clear y z A g ht2 HT HS;have l0:=c.cell 0;have m:=c.cell 1;have l2:=c.cell 2;have l3:=c.cell 3;have l4:=c.cell 4;have B:=c.cell 5;have D:=c.cell 6;have l7:=c.cell 7;have l8:=c.cell 8;have lf:=c.frozen;have nf:=a.frozen;have W:=a.cell 0;have M:=a.cell 1;have F:=a.cell 2;have Q:=a.cell 3;have T:=a.cell 4;have c5:=a.cell 5;have R:=a.cell 6;have c7:=a.cell 7;have I:=a.cell 8;simp[Az,Cs,A7,AJ]at l0 W m M l2 F l3 Q l4 T B c5 D R l7 c7 l8 I;(have q1:¬L=N:=by omega);(have q2:¬N=L:=by omega);have HB:=Ab a;have t:=Ab j;clear a c j;simp only[Ar,AJ];go_wp2;rw[C.out];have S:=((HB.zB ⟨L,7,Y⟩ (by simp;omega) (X pD 0)).zB ⟨L,8,Y⟩ (by simp;omega) (O pF)).zE rfl (X J p) (X J 3) (X J 0) (O pF) (U Y 0 0) (X pD l.v) (O l.s) (X pD 0) (O pF);refine lL (Av (P:=prog) (fn:=Tryz.f200) (p:=2) (u:=3) rfl rfl S underlying217 rfl (by kernel_rfl)) rfl ?_;refine⟨n9,⟨p,3,A7,l,AJ⟩,rfl,rfl,?_,?_⟩
     .exact((t.other (p:=⟨L,7,Y⟩) (by simp;omega) (i L (by omega)) _).other (p:=⟨L,8,Y⟩) (by simp;omega) (i L (by omega)) _).zE (by omega) (i N (by omega)) _ _ _ _ _ _ _ _ _
     .have G:=Aa HN;exact((A1.setCell (p:=⟨L,7,Y⟩) (by right;simp;omega) _).setCell (p:=⟨L,8,Y⟩) (by right;simp;omega) _).zE (by right;omega) _ _ _ _ _ _ _ _ _
    |ok r=>
     obtain⟨r,n2⟩:=r;rw[ht2]at n;obtain⟨rfl,j,g⟩:=n;(have C:p7 (ID d x=.ok (⟨p,3,A7,l,r⟩,n2)):=by show _=_;unfold ID;simp only[HT.out,HS.out,ht2,HP.out]);have a:=y.kept g (by simp;omega);have c:=z.kept g (by simp;omega);have A1:=Ab (A.trans g);clear y z A g ht2 HT HS;have l0:=c.cell 0;have m:=c.cell 1;have l2:=c.cell 2;have l3:=c.cell 3;have l4:=c.cell 4;have B:=c.cell 5;have D:=c.cell 6;have l7:=c.cell 7;have l8:=c.cell 8;have lf:=c.frozen;have nf:=a.frozen;have W:=a.cell 0;have M:=a.cell 1;have F:=a.cell 2;have Q:=a.cell 3;have T:=a.cell 4;have c5:=a.cell 5;have R:=a.cell 6;have c7:=a.cell 7;have I:=a.cell 8;simp[Az,Cs,A7,AJ]at l0 W m M l2 F l3 Q l4 T B c5 D R l7 c7 l8 I;(have q1:¬L=N:=by omega);(have q2:¬N=L:=by omega);have HB:=Ab a;have t:=Ab j;clear a c j;simp only[Ar];go_wp2;rw[C.out];have S:=((HB.zB ⟨L,7,Y⟩ (by simp;omega) (X pD r.v)).zB ⟨L,8,Y⟩ (by simp;omega) (O r.s)).zE rfl (X J p) (X J 3) (X J 0) (O pF) (U Y 0 0) (X pD l.v) (O l.s) (X pD r.v) (O r.s);refine lL (Av (P:=prog) (fn:=Tryz.f200) (p:=2) (u:=3) rfl rfl S underlying217 rfl (by kernel_rfl)) rfl ?_;refine⟨rfl,?_,?_⟩
     .exact((t.other (p:=⟨L,7,Y⟩) (by simp;omega) (i L (by omega)) _).other (p:=⟨L,8,Y⟩) (by simp;omega) (i L (by omega)) _).zE (by omega) (i N (by omega)) _ _ _ _ _ _ _ _ _
     .have G:=Aa HN;exact((A1.setCell (p:=⟨L,7,Y⟩) (by right;simp;omega) _).setCell (p:=⟨L,8,Y⟩) (by right;simp;omega) _).zE (by right;omega) _ _ _ _ _ _ _ _ _
   |false=>
    rw[s2]at h7;simp only[k0,if_false]at h7;have H7:=Ab h7;clear h7;(go_wp2_with fail);refine(G1 b o d f E kg _ H7 (Au d f) (Bl H7.lt) (HO.seen H7.lt kg)).mono ?_;rintro e w8 ⟨rfl,h8,k8⟩;have HX:=Ab (HZ.kept k8 (by simp;omega));have HH:=Ab (FT.kept k8 (by simp;omega));have HM:=Ab (HY.trans k8);clear H7 HZ FT HY k8;cases s3:BW (Au d f) kg with
    |true=>
     rw[s3]at h8;simp only[if_true]at h8;(have HS:p7 (Od (Au d f)=V 4):=by show _=_;simp[Od,s1,s2,s3]);clear s1 s2 s3;have m:=HH.cell 1;have lf:=HH.frozen;simp[Az]at m;have H8:=Ab h8;clear h8;(go_wp2_with fail);have Bx:=Aa i;have G:=Aa HN;have hR:Cn (w8.setCell ⟨L,1,Y⟩ (X J 4)) b o d (f+1) E:=H8.other (p:=⟨L,1,Y⟩) (by simp;omega) (Bx L (by omega)) _;have y:p7 (AF (w8.setCell ⟨L,1,Y⟩ (X J 4)) N (Az Cs) 217):=HX.zB ⟨L,1,Y⟩ (by simp;omega) _;have z:p7 (AF (w8.setCell ⟨L,1,Y⟩ (X J 4)) L (Az ⟨p,4,A7,l,AJ⟩) 217):=HH.set 1 _;have A:=Ab (HM.setCell (p:=⟨L,1,Y⟩) (by right;simp;omega) (X J 4));clear m lf HX HH HM Bx G H8;generalize w8.setCell ⟨L,1,Y⟩ (X J 4)=w9 at hR y z A⊢;refine(Ji b o d (f+1) E _ hR HO (Au d (f+1)) (Bl hR.lt)).mono ?_;intro e KB n;clear hR;cases ht2:Ga (Au d (f+1)) (f+1)with
     |error q=>
      rw[ht2]at n;obtain⟨n9,rfl,j,g⟩:=n;(have C:p7 (ID d x=.error q):=by show _=_;unfold ID;simp only[HT.out,HS.out,ht2]);have a:=y.kept g (by simp;omega);have c:=z.kept g (by simp;omega);have A1:=Ab (A.trans g);clear y z A g ht2 HT HS;have l0:=c.cell 0;have m:=c.cell 1;have l2:=c.cell 2;have l3:=c.cell 3;have l4:=c.cell 4;have B:=c.cell 5;have D:=c.cell 6;have l7:=c.cell 7;have l8:=c.cell 8;have lf:=c.frozen;have nf:=a.frozen;have W:=a.cell 0;have M:=a.cell 1;have F:=a.cell 2;have Q:=a.cell 3;have T:=a.cell 4;have c5:=a.cell 5;have R:=a.cell 6;have c7:=a.cell 7;have I:=a.cell 8;simp[Az,Cs,A7,AJ]at l0 W m M l2 F l3 Q l4 T B c5 D R l7 c7 l8 I;(have q1:¬L=N:=by omega);(have q2:¬N=L:=by omega);have HB:=Ab a;have t:=Ab j;clear a c j;simp only[Ar,AJ];go_wp2;rw[C.out];have S:=((HB.zB ⟨L,7,Y⟩ (by simp;omega) (X pD 0)).zB ⟨L,8,Y⟩ (by simp;omega) (O pF)).zE rfl (X J p) (X J 4) (X J 0) (O pF) (U Y 0 0) (X pD l.v) (O l.s) (X pD 0) (O pF);refine lL (Av (P:=prog) (fn:=Tryz.f200) (p:=2) (u:=3) rfl rfl S underlying217 rfl (by kernel_rfl)) rfl ?_;refine⟨n9,⟨p,4,A7,l,AJ⟩,rfl,rfl,?_,?_⟩
      .exact((t.other (p:=⟨L,7,Y⟩) (by simp;omega) (i L (by omega)) _).other (p:=⟨L,8,Y⟩) (by simp;omega) (i L (by omega)) _).zE (by omega) (i N (by omega)) _ _ _ _ _ _ _ _ _
      .have G:=Aa HN;exact((A1.setCell (p:=⟨L,7,Y⟩) (by right;simp;omega) _).setCell (p:=⟨L,8,Y⟩) (by right;simp;omega) _).zE (by right;omega) _ _ _ _ _ _ _ _ _
     |ok r=>
      obtain⟨r,n2⟩:=r;rw[ht2]at n;obtain⟨rfl,j,g⟩:=n;(have C:p7 (ID d x=.ok (⟨p,4,A7,l,r⟩,n2)):=by show _=_;unfold ID;simp only[HT.out,HS.out,ht2,HP.out]);have a:=y.kept g (by simp;omega);have c:=z.kept g (by simp;omega);have A1:=Ab (A.trans g);clear y z A g ht2 HT HS;have l0:=c.cell 0;have m:=c.cell 1;have l2:=c.cell 2;have l3:=c.cell 3;have l4:=c.cell 4;have B:=c.cell 5;have D:=c.cell 6;have l7:=c.cell 7;have l8:=c.cell 8;have lf:=c.frozen;have nf:=a.frozen;have W:=a.cell 0;have M:=a.cell 1;have F:=a.cell 2;have Q:=a.cell 3;have T:=a.cell 4;have c5:=a.cell 5;have R:=a.cell 6;have c7:=a.cell 7;have I:=a.cell 8;simp[Az,Cs,A7,AJ]at l0 W m M l2 F l3 Q l4 T B c5 D R l7 c7 l8 I;(have q1:¬L=N:=by omega);(have q2:¬N=L:=by omega);have HB:=Ab a;have t:=Ab j;clear a c j;simp only[Ar];go_wp2;rw[C.out];have S:=((HB.zB ⟨L,7,Y⟩ (by simp;omega) (X pD r.v)).zB ⟨L,8,Y⟩ (by simp;omega) (O r.s)).zE rfl (X J p) (X J 4) (X J 0) (O pF) (U Y 0 0) (X pD l.v) (O l.s) (X pD r.v) (O r.s);refine lL (Av (P:=prog) (fn:=Tryz.f200) (p:=2) (u:=3) rfl rfl S underlying217 rfl (by kernel_rfl)) rfl ?_;refine⟨rfl,?_,?_⟩
      .exact((t.other (p:=⟨L,7,Y⟩) (by simp;omega) (i L (by omega)) _).other (p:=⟨L,8,Y⟩) (by simp;omega) (i L (by omega)) _).zE (by omega) (i N (by omega)) _ _ _ _ _ _ _ _ _
      .have G:=Aa HN;exact((A1.setCell (p:=⟨L,7,Y⟩) (by right;simp;omega) _).setCell (p:=⟨L,8,Y⟩) (by right;simp;omega) _).zE (by right;omega) _ _ _ _ _ _ _ _ _
    |false=>
     rw[s3]at h8;simp only[k0,if_false]at h8;have H8:=Ab h8;clear h8;(go_wp2_with fail);(have C:p7 (ID d x=.error (Au d f).place):=by show _=_;unfold ID;simp[HT.out,Od,s1,s2,s3]);clear s1 s2 s3;refine(Ju b o d f E _ H8 (Au d f) (Bl H8.lt)).mono ?_;rintro e w9 ⟨rfl,k9⟩;have h9:=H8.zJ k9;have K9:=Ab (HX.kept k9);have K7:=Ab (HM.trans (k9.mono (by simp)));clear H8 HX HH HM k9;obtain⟨q,hq⟩:=pN (Au d f).place;rw[hq]at C⊢;clear hq;have H9:=Ab h9;clear h9;(go_wp2_with fail);refine(Fx b o d f E q _ H9).mono ?_;rintro e KB ⟨rfl,j,g⟩;have BA:=K9.kept g (by simp;omega);have A1:=Ab (K7.trans g);clear K9 K7 H9 g;have nf:=BA.frozen;have W:=BA.cell 0;have M:=BA.cell 1;have F:=BA.cell 2;have Q:=BA.cell 3;have T:=BA.cell 4;have c5:=BA.cell 5;have R:=BA.cell 6;have c7:=BA.cell 7;have I:=BA.cell 8;simp[Az,Cs,A7,AJ]at W M F Q T c5 R c7 I;have HB:=Ab BA;have t:=Ab j;clear BA j;go_wp2;rw[C.out];have S:=HB.zE rfl (X J 0) (X J 0) (X J 0) (O ⟨#[]⟩) (U Y 0 0) (X pD 0) (O ⟨#[]⟩) (X pD 0) (O ⟨#[]⟩);refine lL (Av (P:=prog) (fn:=Tryz.f200) (p:=2) (u:=3) rfl rfl S underlying217 rfl (by kernel_rfl)) rfl ?_;refine⟨f,Cs,rfl,rfl,?_,?_⟩
     .exact t.zE (by omega) (i N (by omega)) _ _ _ _ _ _ _ _ _
     .have G:=Aa HN;exact A1.zE (by right;omega) _ _ _ _ _ _ _ _ _
theorem Tryz.zg:(Tryz.prog.info? 215).map (λi=>(i.zero,i.size,i.bytes))=V (V (pC #[X pD 0,O ⟨#[]⟩]),2,24):=by kernel_rfl
def IW:zA:=⟨#[44]⟩
def PW:zA:=⟨#[41]⟩
def GP(ms:pM Bb)(nx:Nat)(acc:pM AW):Except Int (pM AW×Nat):=
 if h:nx<Z ms then
  match Ga (Au ms nx) nx with
  | .error p=> .error p
  | .ok (t,_)=>
   if BW (Au ms (nx+1)) IW then GP ms (nx+2) (acc++[t])
   else if BW (Au ms (nx+1)) PW then .ok (acc++[t],nx+2)
   else .error (Au ms (nx+1)).place
 else .error 0
def Gj{m:Bb}{t:AW}(h:Ga m k=.ok (t,n)):n=k+1:=by
 unfold Ga at h;split at h
 .simp only[mF,lZ]at h;exact h.2.symm
 .split at h
  .simp only[mF,lZ]at h;exact h.2.symm
  .cases h
def Fo(ms:pM Bb)(nx:Nat):Except Int ((Nat×zA×pM AW)×Nat):=
 if(Au ms nx).kind==2 then
  if BW (Au ms (nx+1)) TO then
   match GP ms (nx+2) [] with
   | .error p=> .error p
   | .ok (ts,n)=> .ok (((Au ms nx).place,(Au ms nx).text,ts),n)
  else .error (Au ms (nx+1)).place
 else .error (Au ms nx).place
def AF.zY(h:AF w n y T)(f:Z y=3)(c b a:p5):AF (((w.setCell ⟨n,0,Y⟩ c).setCell ⟨n,1,Y⟩ b).setCell ⟨n,2,Y⟩ a) n [c,b,a] T:=by
 have d:=((h.set 0 c).set 1 b).set 2 a;have e:((y.set 0 c).set 1 b).set 2 a=[c,b,a]:=by
  match y,f with
  |[_,_,_],_=>rfl
 rw[e]at d;exact d
def Cn.zY{d:pM Bb}(h:Cn w b z d n I)(a:m≠b)(c:z.ownBlock≠V m)(g f e:p5):Cn (((w.setCell ⟨m,0,Y⟩ g).setCell ⟨m,1,Y⟩ f).setCell ⟨m,2,Y⟩ e) b z d n I:=
 ((h.other (p:=⟨m,0,Y⟩) a c g).other (p:=⟨m,1,Y⟩) a c f).other (p:=⟨m,2,Y⟩) a c e
def Ac.zY(h:Ac M v w)(b:n∈M\/v.heap.size<=n)(e d c:p5):Ac M v (((w.setCell ⟨n,0,Y⟩ e).setCell ⟨n,1,Y⟩ d).setCell ⟨n,2,Y⟩ c):=
 ((h.setCell (p:=⟨n,0,Y⟩) b e).setCell (p:=⟨n,1,Y⟩) b d).setCell (p:=⟨n,2,Y⟩) b c
def gu(b:Nat)(mv:p5)(ms:pM Bb)(br:Int)(w:py)(e:Ending)(w':py):Except Int ((Nat×zA×pM AW)×Nat)->Prop
 | .ok ((p,s,ts),nx)=>∃tv base,e=oa (.tuple #[pC (ml (AP ⟨p,s,tv⟩)),pE jj])/\w.heap.size<=base/\p9 w' base 215 2 tv (Z ts) (ts.flatMap Ar)/\Cn w' b mv ms nx br/\Ac [b] w w'
 | .error p=>∃nx pl s ad n cp,e=oa (.tuple #[pC (ml (AP ⟨pl,s,U ad n cp⟩)),pE K])/\Cn w' b mv ms nx p/\Ac [b] w w'
theorem O2(b:Nat)(mv:p5)(a:pM Bb)(c:Nat)(D:Int)(w:py)(h:Cn w b mv a c D)(ok:Xs a):
  Calls prog 158 #[m2 (V ⟨b,0,Y⟩)] w λe F=>gu b mv a D w e F (Fo a c):=by
 obtain⟨m,f⟩:=pN (Au a c);obtain⟨i0,WB,SB,W1,VS⟩:=mg Tryz.zg;have HM:=Ab f;have HO:=Ab ok;have H2:=h.lt;have ZV:(c:Int)<(Z a:Int):=by omega
 have aa:(0:Int)<=(c:Int):=by omega
 have hl:=h.len;have TX:=h.zN.lt;have H1:∀k,mv.ownBlock=V k->k<w.heap.size:=λk B=>(h.row.lt k B).2
 have h1:=h.zJ ((pO [] w).alloc (j3 #[X J 0,O ⟨#[]⟩,U Y 0 0] 187));have Ha:=pP w [X J 0,O ⟨#[]⟩,U Y 0 0] 187;have Jx:=(pO [b] w).alloc (j3 [X J 0,O ⟨#[]⟩,U Y 0 0].toArray 187);clear f h ok;go_enter func158,ntmps158;go_wp2_with fail
 generalize w.alloc (j3 [X J 0,O ⟨#[]⟩,U Y 0 0].toArray 187)=w1 at h1 Ha Jx⊢;obtain⟨l,K7⟩:=pN w.heap.size;rw[K7]at Ha TX H1⊢;have HD:=Ab K7;clear K7;have B2:p7 (∀k,l<=k->mv.ownBlock≠V k):=λk B e=>by have:=H1 k e;omega
 obtain⟨g,W,rfl,b0,b1,b2,hc⟩:=h1.cells;have X3:g<l:=H1 g rfl;clear H1;obtain⟨T,M,L⟩:=hc c H2;rw[Bl H2,Aa HM]at T M L;clear hc b2;have n0:=World.new_ne w1 _ b0;have n1:=World.new_ne w1 _ b1;have n2:=World.new_ne w1 _ T;have n3:=World.new_ne w1 _ M;have n4:=World.new_ne w1 _ L;have HH:=Ab h1;have AO:=Ab Ha;clear h1 Ha
 go_region_held3 (λF=>p8 F ⟨b,0,Y⟩=V (U (V ⟨g,0,Y⟩) (Z a) W)/\p8 F ⟨b,1,Y⟩=V (X J c)/\p8 F ⟨g,c*3,Y⟩=V (X J m.kind)/\p8 F ⟨g,c*3+1,Y⟩=V (X J m.place)/\p8 F ⟨g,c*3+2,Y⟩=V (O m.text)) (go_keep) (fail)
 rename_i U1;clear U1 n0 n1 n2 n3 n4 b0 b1 T M L;have QQ:=AO.lt;have h2:=HH.zJ (((pO [] w1).alloc (j3 [X J m.kind,X J m.place,O m.text].toArray 206)).drew);have A1:=(pP w1 [X J m.kind,X J m.place,O m.text] 206).drew;have IJ:=(AO.alloc (j3 [X J m.kind,X J m.place,O m.text].toArray 206)).drew;have LS:=(Jx.alloc (j3 [X J m.kind,X J m.place,O m.text].toArray 206)).drew;clear HH AO Jx;generalize(w1.alloc (j3 [X J m.kind,X J m.place,O m.text].toArray 206)).drew=w2 at h2 A1 IJ LS⊢;generalize w1.heap.size=N4 at A1 QQ⊢;have x0:=A1.cell 0;have x1:=A1.cell 1;have x2:=A1.cell 2;have z1:=h2.zN.cell 1;have zf:=h2.zN.frozen 1;simp at x0 x1 x2 z1;have FO:=Ab h2;have AO:=Ab IJ;have LC:=Ab A1;have HP:=Ab LS;clear h2 A1 IJ LS;cases B:(m.kind==2)with
 |false=>
  have RT:(m.kind !=2)=jj:=by simp[bne,B]
  have HF:p7 (Fo a c=.error m.place):=by show _=_;unfold Fo;rw[Aa HM,B];rfl
  clear B;go_wp2_with fail
  refine(Fx b (U (V ⟨g,0,Y⟩) (Z a) W) a c D m.place _ FO).mono ?_;rintro e w3 ⟨rfl,h3,N⟩;have CC:=AO.kept N (by simp;omega);have Wa:=Ab (HP.trans N);have T:=CC.cell 0;have M:=CC.cell 1;have L:=CC.cell 2;have nf:=CC.frozen;simp at T M L;have TV:=Ab CC;have G:=Ab h3;clear CC h3 N x0 x1 x2 z1 zf FO AO LC HP;go_wp2;rw[HF.out];have BS:=TV.zY rfl (X J 0) (O ⟨#[]⟩) (U Y 0 0);refine lL (Av (P:=prog) (fn:=Tryz.f158) (p:=2) (u:=3) rfl rfl BS underlying187 rfl (by kernel_rfl)) rfl ?_;refine⟨c,0,pF,Y,0,0,rfl,?_,?_⟩
  .exact G.zY (by omega) (B2 l (by omega)) _ _ _
  .have:=Aa HD;exact Wa.zY (by right;omega) _ _ _
 |true=>
  have RT:(m.kind !=2)=K:=by simp[bne,B]
  have S1:c+1<Z a:=by
   refine HO.ends c H2 ?_;rw[Bl H2,Aa HM];(have:m.kind=2:=by simpa using B);rw[this];decide
  have HK:=Ab B;clear B;go_wp2_with fail
  have N:Ac [b] w2 (w2.setCell ⟨b,1,Y⟩ (X J ((c:Int)+1))):=(pO [b] w2).setCell (by simp) _;have h3:Cn (w2.setCell ⟨b,1,Y⟩ (X J ((c:Int)+1))) b (U (V ⟨g,0,Y⟩) (Z a) W) a (c+1) D:=FO.kept (nx':=c+1) (br':=D) N (FO.zN.set 1 _) S1;have JA:=Ab (AO.kept N (by simp;omega));have KK:=Ab (LC.kept N (by simp;omega));have K6:=Ab (HP.trans N);clear x0 x1 x2 z1 zf FO AO LC HP N;generalize w2.setCell ⟨b,1,Y⟩ (X J ((c:Int)+1))=w3 at h3 JA KK K6⊢;refine(Of b (U (V ⟨g,0,Y⟩) (Z a) W) a (c+1) D TO _ h3 (Au a (c+1)) (Bl h3.lt) (HO.seen h3.lt TO)).mono ?_;rintro e w4 ⟨rfl,h4,k4⟩;clear h3;have A2:=Ab (JA.kept k4 (by simp;omega));have FA:=Ab (KK.kept k4 (by simp;omega));have IA:=Ab (K6.trans k4);clear JA KK K6 k4;cases hs:BW (Au a (c+1)) TO with
  |false=>
   rw[hs]at h4;simp only[k0,if_false]at h4;(have HF:p7 (Fo a c=.error (Au a (c+1)).place):=by show _=_;unfold Fo;rw[Aa HM,Aa HK,hs];rfl);have T:=A2.cell 0;have M:=A2.cell 1;have L:=A2.cell 2;have nf:=A2.frozen;simp at T M L;have G:=Ab h4;clear h4 hs FA;go_wp2;rw[HF.out];have BS:=A2.zY rfl (X J 0) (O ⟨#[]⟩) (U Y 0 0);refine lL (Av (P:=prog) (fn:=Tryz.f158) (p:=2) (u:=3) rfl rfl BS underlying187 rfl (by kernel_rfl)) rfl ?_;refine⟨c+1,0,pF,Y,0,0,rfl,?_,?_⟩
   .exact G.zY (by omega) (B2 l (by omega)) _ _ _
   .have:=Aa HD;exact IA.zY (by right;omega) _ _ _
  |true=>
   rw[hs]at h4;simp only[if_true]at h4;have HS:=Ab hs;have x1:=FA.cell 1;have x2:=FA.cell 2;simp at x1 x2;have G:=Ab h4;clear h4 hs;go_wp2;have H6:p7 (∀r,GP a (c+2) []=r->Fo a c=(match r with| .error p=> .error p| .ok (ts,n)=> .ok ((m.place,m.text,ts),n))):=by
    intro r hr;unfold Fo;rw[Aa HM,Aa HK,Aa HS,hr];rfl
   have HX:=Ab (pP w4 [X J m.place,O m.text,U Y 0 0] 187);have K9:=Ab (A2.alloc (j3 [X J m.place,O m.text,U Y 0 0].toArray 187));have LE:=Ab (G.zJ ((pO [] w4).alloc (j3 [X J m.place,O m.text,U Y 0 0].toArray 187)));have K1:=Ab (IA.alloc (j3 [X J m.place,O m.text,U Y 0 0].toArray 187));(have KB:(w4.alloc (j3 [X J m.place,O m.text,U Y 0 0].toArray 187)).heap.size=w4.heap.size+1:=by simp);have VL:=FA.lt;clear x1 x2 FA A2 IA G HS HK HM;change Code.wp _ _ _ _ (w4.alloc (j3 [X J m.place,O m.text,U Y 0 0].toArray 187));generalize w4.alloc (j3 [X J m.place,O m.text,U Y 0 0].toArray 187)=w5 at HX K9 LE K1 KB⊢;obtain⟨A,Mo⟩:=pN w4.heap.size;rw[Mo]at HX KB VL⊢;clear Mo
   go_loopg [] (Z a-(c+2)) (λgk wr=>∃(j:Nat) (d:pM AW) (R:Option Addr) (S:Nat),gk=Z a-j/\p7 (GP a j d=GP a (c+2) [])/\p7 (Cn wr b (U (V ⟨g,0,Y⟩) (Z a) W) a j D)/\p7 (AF wr l [X J 0,O ⟨#[]⟩,U Y 0 0] 187)/\p7 (AF wr A [X J m.place,O m.text,U R (Z d) S] 187)/\p9 wr (A+1) 215 2 (U R (Z d) S) (Z d) (d.flatMap Ar)/\p7 (Ac [b] w wr)/\A+1<=wr.heap.size/\Z d<=j)
   case atStart=>exact⟨c+2,[],Y,0,rfl,rfl,LE,K9,HX,lH _ _ _ _,K1,by omega,by simp⟩
   case round=>
    clear HX K9 LE K1 KB;obtain⟨j,d,R,S,NN,HL,G,HB,HA,HW,hK,hz,YP⟩:=hrel;have HG:=Ab NN;clear NN;have FW:=G.lt;(go_wp2_with fail);refine(Ji b (U (V ⟨g,0,Y⟩) (Z a) W) a j D _ G HO (Au a j) (Bl FW)).mono ?_;intro e x Go;cases ht:Ga (Au a j) j with
    |error q=>
     rw[ht]at Go;obtain⟨n9,rfl,h6,I⟩:=Go;have HF:p7 (Fo a c=.error q):=H6 (.error q) (by rw[<-Aa HL];unfold GP;rw[dif_pos FW,ht]);have z:=HB.kept I (by simp;omega);have HI:=Ab (hK.trans I);clear I ht G HB HA hK HL HW;have T:=z.cell 0;have M:=z.cell 1;have L:=z.cell 2;have nf:=z.frozen;(have d0:=λo=>(z.alloc o).cell 0);(have d1:=λo=>(z.alloc o).cell 1);(have d2:=λo=>(z.alloc o).cell 2);(have df:=λo=>(z.alloc o).frozen);simp at T M L d0 d1 d2;have Nx:=z.lt;have an:=h6.zN.lt;(have q1:¬l=x.heap.size:=by omega);(have q2:¬x.heap.size=l:=by omega);have Ax:=Ab h6;have RO:=Ab z;clear h6 z;simp only[Ar,AJ];go_wp2;rw[HF.out];have BS:=(RO.zY rfl (X J 0) (O ⟨#[]⟩) (U Y 0 0)).alloc (j3 #[X pD 0,O pF] 215);refine lL (Av (P:=prog) (fn:=Tryz.f158) (p:=2) (u:=3) rfl rfl BS underlying187 rfl (by kernel_rfl)) rfl ?_;refine⟨n9,0,pF,Y,0,0,rfl,?_,?_⟩
     .exact(Ax.zY (by omega) (B2 l (by omega)) _ _ _).zJ ((pO [] _).alloc _)
     .have:=Aa HD;exact(HI.zY (by right;omega) _ _ _).alloc _
    |ok r=>
     obtain⟨t,n1⟩:=r;rw[ht]at Go;have OB:=Gj ht;subst OB;obtain⟨rfl,h6,I⟩:=Go;have z:=Ab (HB.kept I (by simp;omega));have AH:=Ab (HA.kept I (by simp;omega));have HI:=Ab (hK.trans I);have H9:=Ai HW I (λi E f=>by simp at f;subst f;have:=(HW.lt _ E).1;omega);have SJ:A+1<=x.heap.size:=mp hz I.size;have HT:=Ab ht;clear I ht G HB HA hK HW hz;have a2:=AH.cell 2;have af:=AH.frozen;(have d2:=λo=>(AH.alloc o).cell 2);(have df:=λo=>(AH.alloc o).frozen);simp at a2 d2;have Nx:=AH.lt;(have q1:¬A=x.heap.size:=by omega);(have q2:¬x.heap.size=A:=by omega);have Ax:=Ab h6;clear h6;have NS:((x.alloc (j3 (ml (Ar t)) 215)).alloc (j3 (ml (Ar t)) 215)).heap[x.heap.size+1]?=V (j3 (ml (Ar t)) 215 (0,0)):=by
      have C:=lP (x.alloc (j3 (ml (Ar t)) 215)) (j3 (ml (Ar t)) 215);rw[show(x.alloc (j3 (ml (Ar t)) 215)).heap.size=x.heap.size+1 from by simp]at C
      exact C
     have NA:=lg (lg H9 (j3 (ml (Ar t)) 215)) (j3 (ml (Ar t)) 215);(have al:Z d<=1000:=by omega);have KD:p7 (∀s,((x.alloc (j3 (ml (Ar t)) 215)).alloc (j3 (ml (Ar t)) 215)).grownBy s (U R (Z d) S).ownBlock->Ac (U R (Z d) S).ownBlock.toList x s):=by
      intro s hg;exact(((pO _ x).alloc _).alloc _).grown hg (λk B=>oi (by simp[B]))
     (have H4:p7 (∀i∈(U R (Z d) S).ownBlock.toList,A+1<=i):=λi E=>(H9.lt i (by simpa using E)).1);have K2:p7 (∀s,((x.alloc (j3 (ml (Ar t)) 215)).alloc (j3 (ml (Ar t)) 215)).grownBy s (U R (Z d) S).ownBlock->p8 s ⟨A,2,Y⟩=V (U R (Z d) S)/\s.frozen? ⟨A,2,Y⟩=K):=by
      intro s hg;have hb:=AH.kept (KD s hg) (λf=>by have:=Aa H4 A f;omega);exact⟨hb.cell 2,hb.frozen 2⟩
     simp only[Ar];go_wp2_with (at_builtin;refine lG _ rfl (.tmp 51) (.tmp 53) _ rfl (A+1) 215 i0 _ 2 24 underlying185 WB SB W1 VS rfl (by omega) (U R (Z d) S) (Z d) (d.flatMap Ar) rfl NA ⟨x.heap.size+1,0,Y⟩ 1 1 (Ar t) rfl rfl (lI (cs:=ml (Ar t)) (t:=215) (fr:=(0,0)) NS) (by simp[Value.oneCell',Ar]) (by omega) (by unfold maxLen;omega) (by omega) (by simp;omega) (x.heap.size+1+1) (by simp) ?_;intro v y s LB HJ N0 RI;have S0:=(K2 s HJ).1;have Os:=(K2 s HJ).2)
     have kr:=Aa KD s HJ;have DT:=Aa H4;have X2:=Aa HD;have ab:A+1<=v:=(LB.lt v rfl).1;have Nd:Cn s b (U (V ⟨g,0,Y⟩) (Z a) W) a (j+1) D:=⟨Ax.zN.kept kr (λf=>by have:=DT b f;omega),Ai Ax.row kr (λi E f=>by have:=DT i f;simp[pI]at E;omega),Ax.ap,Ax.lt,Ax.len⟩;have H3:=Ab (Nd.other (p:=⟨A,2,Y⟩) (by simp;omega) (B2 A (by omega)) (U (V ⟨v,0,Y⟩) (Z d+1) y));have KA:=Ab ((z.kept kr (λf=>by have:=DT l f;omega)).zB ⟨A,2,Y⟩ (by simp;omega) (U (V ⟨v,0,Y⟩) (Z d+1) y));have K3:p7 (AF (s.setCell ⟨A,2,Y⟩ (U (V ⟨v,0,Y⟩) (Z d+1) y)) A [X J m.place,O m.text,U (V ⟨v,0,Y⟩) (Z d+1) y] 187):=(AH.kept kr (λf=>by have:=DT A f;omega)).set 2 _;have Nj:Ac [b] w s:=HI.trans' kr (λi E=>oj (by have:=DT i E;omega));have IS:=Ab (Nj.setCell (p:=⟨A,2,Y⟩) (by right;simp;omega) (U (V ⟨v,0,Y⟩) (Z d+1) y));have HN:=Ag LB (p:=⟨A,2,Y⟩) (by simp[pI];omega) (U (V ⟨v,0,Y⟩) (Z d+1) y);(have LL:A+1<=(s.setCell ⟨A,2,Y⟩ (U (V ⟨v,0,Y⟩) (Z d+1) y)).heap.size:=by have:=kr.size;simp;omega);clear kr DT Nd Nj HJ N0 RI LB S0 Os KD H4 K2 NS NA H9 AH z HI Ax a2 d2 af df q1 q2 Nx SJ;generalize s.setCell ⟨A,2,Y⟩ (U (V ⟨v,0,Y⟩) (Z d+1) y)=w10 at H3 KA K3 IS HN LL⊢;have HE:=H3.lt;refine(G1 b (U (V ⟨g,0,Y⟩) (Z a) W) a (j+1) D IW _ H3 (Au a (j+1)) (Bl HE) (HO.seen HE IW)).mono ?_;rintro e K5 ⟨rfl,A0,EM⟩;have MY:=Ab (KA.kept EM (by simp;omega));have E0:=Ab (K3.kept EM (by simp;omega));have NV:=Ab (IS.trans EM);have H7:=Ai HN EM (λi E f=>by simp at f;subst f;have:=(HN.lt _ E).1;omega);have TK:A+1<=K5.heap.size:=mp LL EM.size;clear EM H3 KA K3 IS HN LL;cases hs:BW (Au a (j+1)) IW with
     |true=>
      rw[hs]at A0;simp only[if_true]at A0;have TS:p7 (GP a (j+2) (d++[t])=GP a (c+2) []):=by
       have C:=Aa HL
       conv at C=>lhs;unfold GP
       rw[dif_pos FW,Aa HT]at C;simp only[hs,if_true]at C;exact C
      have FT:=Ab A0;clear A0 hs HL HT;go_wp2_with fail
      go_roundg (Z a-(j+2))
      case measure=>have:=Aa HG;omega
      case rel=>exact⟨j+2,d++[t],V ⟨v,0,Y⟩,y,rfl,TS,FT,MY,by simpa using E0,by simpa using H7,NV,TK,by simp;omega⟩
     |false=>
      rw[hs]at A0;simp only[k0,if_false]at A0;have HS:=Ab hs;have FT:=Ab A0;clear A0 hs;have M6:p7 (GP a (c+2) []=if BW (Au a (j+1)) PW then .ok (d++[t],j+2)else .error (Au a (j+1)).place):=by
       have C:=Aa HL
       conv at C=>lhs;unfold GP
       rw[dif_pos FW,Aa HT]at C;simp only[Aa HS,k0,if_false]at C;exact C.symm
      have WS:=Ab (Of b (U (V ⟨g,0,Y⟩) (Z a) W) a (j+1) D PW _ (FT.zJ (pO [] K5).drew) (Au a (j+1)) (Bl HE) (HO.seen HE PW));have e0:=E0.cell 0;have e1:=E0.cell 1;have e2:=E0.cell 2;simp at e0 e1 e2;(have q1:¬A=l:=by omega);(have q2:¬l=A:=by omega);(have HC:p7 (∀B0,Ac [b] K5.drew B0->AF B0 l [X J 0,O ⟨#[]⟩,U Y 0 0] 187/\AF B0 A [X J m.place,O m.text,U (V ⟨v,0,Y⟩) (Z d+1) y] 187):=λB0 k=>⟨MY.drew.kept k (by simp;omega),E0.drew.kept k (by simp;omega)⟩);clear HL HT HS FT;go_wp2_with fail
      go_region_held3 (λF=>p8 F ⟨A,0,Y⟩=V (X J m.place)/\p8 F ⟨A,1,Y⟩=V (O m.text)/\p8 F ⟨A,2,Y⟩=V (U (V ⟨v,0,Y⟩) (Z d+1) y)) (go_keep) ((go_at_call 163;refine WS.mono ?_;rintro e B0 ⟨rfl,Q,EX⟩;have H:=Aa HC B0 EX;have f0:=H.2.cell 0;have f1:=H.2.cell 1;have f2:=H.2.cell 2;have p0:=H.1.cell 0;have p1:=H.1.cell 1;have p2:=H.1.cell 2;have pf:=H.1.frozen;simp at f0 f1 f2 p0 p1 p2;have SL:=Ab (And.intro Q (And.intro EX H));clear Q EX H))
      rename_i Pl;clear Pl;go_wp2;obtain⟨Q,EX,H,_⟩:=SL;have BS:=H.zY rfl (X J m.place) (O m.text) (U (V ⟨v,0,Y⟩) (Z d+1) y);have NM:Ac [b] w B0:=NV.drew.trans EX;refine lL (Av (P:=prog) (fn:=Tryz.f158) (p:=2) (u:=3) rfl rfl BS underlying187 rfl (by kernel_rfl)) rfl ?_;cases hcl:BW (Au a (j+1)) PW with
      |true=>
       rw[hcl]at Q;have hA:=Aa M6;rw[hcl]at hA;simp only[if_true]at Q hA;rw[Aa H6 _ hA];have SP:=Ai (FX H7) EX (λi E f=>by simp at f;subst f;have:=(H7.lt _ E).1;omega);(have H5:(U (V ⟨v,0,Y⟩) (Z d+1) y).ownBlock≠V l:=by simp[pI];omega);refine⟨U (V ⟨v,0,Y⟩) (Z d+1) y,A+1,rfl,by omega,?_,?_,?_⟩
       .have ho:=Ag (Ag (Ag SP (p:=⟨l,0,Y⟩) H5 (X J m.place)) (p:=⟨l,1,Y⟩) H5 (O m.text)) (p:=⟨l,2,Y⟩) H5 (U (V ⟨v,0,Y⟩) (Z d+1) y);simpa using ho
       .exact Q.zY (by omega) (B2 l (by omega)) _ _ _
       .exact NM.zY (by right;omega) _ _ _
      |false=>
       rw[hcl]at Q;have hA:=Aa M6;rw[hcl]at hA;simp only[k0,if_false]at Q hA;rw[Aa H6 _ hA];refine⟨j+1,m.place,m.text,V ⟨v,0,Y⟩,Z d+1,y,rfl,?_,?_⟩
       .exact Q.zY (by omega) (B2 l (by omega)) _ _ _
       .exact NM.zY (by right;omega) _ _ _
def Zi:zA:=⟨#[33]⟩
abbrev dw:Type:=(Int×Int×Nat×zA×pM AW)⊕du
def IG(ms:pM Bb)(nx:Nat):Except Int (dw×Nat):=
 if BW (Au ms nx) Zi then
  match Fo ms (nx+1)with
  | .error p=> .error p
  | .ok (a,n)=> .ok (.inl ((Au ms nx).place,1,a),n)
 else if EZ ms nx then
  match Fo ms nx with
  | .error p=> .error p
  | .ok (a,n)=> .ok (.inl ((Au ms nx).place,0,a),n)
 else
  match ID ms nx with
  | .error p=> .error p
  | .ok (l,n)=> .ok (.inr l,n)
def Ms(h:p9 w m T k z n y)(a:z.ownBlock≠V i)(g f e c j l d o b:p5):p9 (((((((((w.setCell ⟨i,0,Y⟩ g).setCell ⟨i,1,Y⟩ f).setCell ⟨i,2,Y⟩ e).setCell ⟨i,3,Y⟩ c).setCell ⟨i,4,Y⟩ j).setCell ⟨i,5,Y⟩ l).setCell ⟨i,6,Y⟩ d).setCell ⟨i,7,Y⟩ o).setCell ⟨i,8,Y⟩ b) m T k z n y:=
 (Ag (Ag (Ag (Ag (Ag (Ag (Ag (Ag (Ag h (p:=⟨i,0,Y⟩) a g) (p:=⟨i,1,Y⟩) a f) (p:=⟨i,2,Y⟩) a e) (p:=⟨i,3,Y⟩) a c) (p:=⟨i,4,Y⟩) a j) (p:=⟨i,5,Y⟩) a l) (p:=⟨i,6,Y⟩) a d) (p:=⟨i,7,Y⟩) a o) (p:=⟨i,8,Y⟩) a b)
def Zm(b:Nat)(mv:p5)(ms:pM Bb)(br:Int)(w:py)(e:Ending)(w':py):Except Int (dw×Nat)->Prop
 | .ok (.inl (pl,so,p,s,ts),nx)=>∃tv base,e=oa (.tuple #[pC (ml (Az ⟨pl,so,⟨p,s,tv⟩,AJ,AJ⟩)),pE jj])/\w.heap.size<=base/\p9 w' base 215 2 tv (Z ts) (ts.flatMap Ar)/\Cn w' b mv ms nx br/\Ac [b] w w'
 | .ok (.inr l,nx)=>e=oa (.tuple #[pC (ml (Az l)),pE jj])/\Cn w' b mv ms nx br/\Ac [b] w w'
 | .error p=>∃nx l,(∃ad n cp,l.atom.tv=U ad n cp)/\e=oa (.tuple #[pC (ml (Az l)),pE K])/\Cn w' b mv ms nx p/\Ac [b] w w'
theorem fc(b:Nat)(W:p5)(f:pM Bb)(g:Nat)(br:Int)(w:py)(h:Cn w b W f g br)(ok:Xs f):
  Calls prog 172 #[m2 (V ⟨b,0,Y⟩)] w λe w'=>Zm b W f br w e w' (IG f g):=by
 have HO:=Ab ok;have K2:=h.zN.lt;have Ix:∀k,W.ownBlock=V k->k<w.heap.size:=λk hk=>(h.row.lt k hk).2
 have h1:=Ab (h.zJ ((pO [] w).alloc (j3 (ml (Az Cs)) 217)));have hN:=Ab (pP w (Az Cs) 217);have H2:=Ab ((pO [b] w).alloc (j3 (ml (Az Cs)) 217));have H6:(w.alloc (j3 (ml (Az Cs)) 217)).heap.size=w.heap.size+1:=by simp
 clear h ok;go_enter func172,ntmps172;go_wp2_with fail
 change Calls _ _ _ (w.alloc (j3 (ml (Az Cs)) 217)) _;generalize w.alloc (j3 (ml (Az Cs)) 217)=w1 at h1 hN H2 H6⊢;obtain⟨N,H7⟩:=pN w.heap.size;rw[H7]at hN K2 H6 Ix⊢;have i:p7 (∀k,N<=k->W.ownBlock≠V k):=λk hk e=>by have:=Ix k e;omega
 clear Ix;have HN:=Ab H7;clear H7;refine(Ju b W f g br _ h1 (Au f g) (Bl h1.lt)).mono ?_;rintro e w2 ⟨rfl,k2⟩;have h2:=Ab (h1.zJ k2);have IJ:=Ab (hN.kept k2);have KA:=Ab (H2.trans (k2.mono (by simp)));have KS:N+1<=w2.heap.size:=by have:=k2.size;omega
 clear h1 hN H2 H6 k2;obtain⟨p,hp⟩:=pN (Au f g).place;have HP:=Ab hp;rw[hp];clear hp;go_wp2_with fail
 change Calls _ _ _ (w2.alloc (j3 (ml (Az ⟨p,0,A7,AJ,AJ⟩)) 217)) _;have h3:=Ab (h2.zJ ((pO [] w2).alloc (j3 (ml (Az ⟨p,0,A7,AJ,AJ⟩)) 217)));have H1:=Ab (IJ.alloc (j3 (ml (Az ⟨p,0,A7,AJ,AJ⟩)) 217));have HU:=Ab (pP w2 (Az ⟨p,0,A7,AJ,AJ⟩) 217);have H3:=Ab (KA.alloc (j3 (ml (Az ⟨p,0,A7,AJ,AJ⟩)) 217));clear h2 IJ KA;generalize w2.alloc (j3 (ml (Az ⟨p,0,A7,AJ,AJ⟩)) 217)=w3 at h3 H1 HU H3⊢;obtain⟨L,KB⟩:=pN w2.heap.size;rw[KB]at HU KS⊢;clear KB;refine(G1 b W f g br Zi _ h3 (Au f g) (Bl h3.lt) (HO.seen h3.lt Zi)).mono ?_;rintro e w4 ⟨rfl,h4,k4⟩;have HW:=Ab (H1.kept k4 (by simp;omega));have FA:=Ab (HU.kept k4 (by simp;omega));have HV:=Ab (H3.trans k4);clear h3 H1 HU H3 k4;cases hs:BW (Au f g) Zi with
 |true=>
  rw[hs]at h4;simp only[if_true]at h4;have HS:=Ab hs;have l1:=FA.cell 1;have lf:=FA.frozen;simp[Az]at l1;have H4:=Ab h4;clear h4 hs;go_wp2_with fail
  have Jx:=Aa i;have BT:=Aa HN;have Ha:=Ab (H4.other (p:=⟨L,1,Y⟩) (by simp;omega) (Jx L (by omega)) (X J 1));have x:=Ab (HW.zB ⟨L,1,Y⟩ (by simp;omega) (X J 1));have t:p7 (AF (w4.setCell ⟨L,1,Y⟩ (X J 1)) L (Az ⟨p,1,A7,AJ,AJ⟩) 217):=FA.set 1 _;have T:=Ab (HV.setCell (p:=⟨L,1,Y⟩) (by right;simp;omega) (X J 1));clear l1 lf HW FA HV Jx BT H4;generalize w4.setCell ⟨L,1,Y⟩ (X J 1)=wa at Ha x t T⊢;have K3:=x.lt;have K5:=t.lt;refine(O2 b W f (g+1) br _ Ha HO).mono ?_;intro e w6 o;clear Ha;cases ht:Fo f (g+1)with
  |error q=>
   rw[ht]at o;obtain⟨n9,ap,an,j,A1,m,rfl,n,d⟩:=o;(have B:p7 (IG f g=.error q):=by show _=_;unfold IG;simp[HS.out,ht]);clear ht;have a:=x.kept d (by simp;omega);have c:=t.kept d (by simp;omega);have C:=Ab (T.trans d);have l0:=c.cell 0;have l1:=c.cell 1;have l2:=c.cell 2;have l3:=c.cell 3;have l4:=c.cell 4;have l5:=c.cell 5;have l6:=c.cell 6;have l7:=c.cell 7;have l8:=c.cell 8;have lf:=c.frozen;have nf:=a.frozen;have I:=a.cell 0;have D:=a.cell 1;have y:=a.cell 2;have E:=a.cell 3;have H:=a.cell 4;have S:=a.cell 5;have F:=a.cell 6;have Q:=a.cell 7;have A:=a.cell 8;simp[Az,Cs,A7,AJ]at l0 I l1 D l2 y l3 E l4 H l5 S l6 F l7 Q l8 A;(have q1:¬L=N:=by omega);(have q2:¬N=L:=by omega);have M:=Ab a;have R:=Ab n;clear a c n d x t T;simp only[AP];go_wp2;rw[B.out];have G:=(((M.zB ⟨L,2,Y⟩ (by simp;omega) (X J ap)).zB ⟨L,3,Y⟩ (by simp;omega) (O an)).zB ⟨L,4,Y⟩ (by simp;omega) (U j A1 m)).zE rfl (X J p) (X J 1) (X J ap) (O an) (U j A1 m) (X pD 0) (O pF) (X pD 0) (O pF);refine lL (Av (P:=prog) (fn:=Tryz.f172) (p:=2) (u:=3) rfl rfl G underlying217 rfl (by kernel_rfl)) rfl ?_;refine⟨n9,⟨p,1,⟨ap,an,U j A1 m⟩,AJ,AJ⟩,⟨_,_,_,rfl⟩,rfl,?_,?_⟩
   .exact(((R.other (p:=⟨L,2,Y⟩) (by simp;omega) (i L (by omega)) _).other (p:=⟨L,3,Y⟩) (by simp;omega) (i L (by omega)) _).other (p:=⟨L,4,Y⟩) (by simp;omega) (i L (by omega)) _).zE (by omega) (i N (by omega)) _ _ _ _ _ _ _ _ _
   .have BT:=Aa HN;exact(((C.setCell (p:=⟨L,2,Y⟩) (by right;simp;omega) _).setCell (p:=⟨L,3,Y⟩) (by right;simp;omega) _).setCell (p:=⟨L,4,Y⟩) (by right;simp;omega) _).zE (by right;omega) _ _ _ _ _ _ _ _ _
  |ok r=>
   obtain⟨⟨pp,ss,z⟩,n2⟩:=r;rw[ht]at o;obtain⟨tv,HH,rfl,K1,AH,n,d⟩:=o;obtain⟨j,m,rfl⟩:=Ak AH;(have B:p7 (IG f g=.ok (.inl (p,1,pp,ss,z),n2)):=by show _=_;unfold IG;simp[HS.out,ht,HP.out]);have EM:p7 (_/\(∀k,k<HH->(U j (Z z) m).ownBlock≠V k)):=⟨AH,λk hk e=>by have:=(AH.lt k e).1;omega⟩;clear ht AH;have a:=x.kept d (by simp;omega);have c:=t.kept d (by simp;omega);have C:=Ab (T.trans d);have l0:=c.cell 0;have l1:=c.cell 1;have l2:=c.cell 2;have l3:=c.cell 3;have l4:=c.cell 4;have l5:=c.cell 5;have l6:=c.cell 6;have l7:=c.cell 7;have l8:=c.cell 8;have lf:=c.frozen;have nf:=a.frozen;have I:=a.cell 0;have D:=a.cell 1;have y:=a.cell 2;have E:=a.cell 3;have H:=a.cell 4;have S:=a.cell 5;have F:=a.cell 6;have Q:=a.cell 7;have A:=a.cell 8;simp[Az,Cs,A7,AJ]at l0 I l1 D l2 y l3 E l4 H l5 S l6 F l7 Q l8 A;(have q1:¬L=N:=by omega);(have q2:¬N=L:=by omega);have M:=Ab a;have R:=Ab n;clear a c n d x t T;simp only[AP];go_wp2;rw[B.out];have G:=(((M.zB ⟨L,2,Y⟩ (by simp;omega) (X J pp)).zB ⟨L,3,Y⟩ (by simp;omega) (O ss)).zB ⟨L,4,Y⟩ (by simp;omega) (U j (Z z) m)).zE rfl (X J p) (X J 1) (X J pp) (O ss) (U j (Z z) m) (X pD 0) (O pF) (X pD 0) (O pF);refine lL (Av (P:=prog) (fn:=Tryz.f172) (p:=2) (u:=3) rfl rfl G underlying217 rfl (by kernel_rfl)) rfl ?_;have EY:=EM.out.2 L (by omega);have IA:=EM.out.2 N (by omega);refine⟨U j (Z z) m,HH,rfl,by have:=Aa HN;omega,?_,?_,?_⟩
   .exact Ms (Ag (Ag (Ag EM.out.1 (p:=⟨L,2,Y⟩) EY _) (p:=⟨L,3,Y⟩) EY _) (p:=⟨L,4,Y⟩) EY _) IA _ _ _ _ _ _ _ _ _
   .exact(((R.other (p:=⟨L,2,Y⟩) (by simp;omega) (i L (by omega)) _).other (p:=⟨L,3,Y⟩) (by simp;omega) (i L (by omega)) _).other (p:=⟨L,4,Y⟩) (by simp;omega) (i L (by omega)) _).zE (by omega) (i N (by omega)) _ _ _ _ _ _ _ _ _
   .have BT:=Aa HN;exact(((C.setCell (p:=⟨L,2,Y⟩) (by right;simp;omega) _).setCell (p:=⟨L,3,Y⟩) (by right;simp;omega) _).setCell (p:=⟨L,4,Y⟩) (by right;simp;omega) _).zE (by right;omega) _ _ _ _ _ _ _ _ _
 |false=>
  rw[hs]at h4;simp only[k0,if_false]at h4;have HS:=Ab hs;have H4:=Ab h4;clear h4 hs;go_wp2_with fail
  refine(UH b W f g br _ H4 HO).mono ?_;rintro e w5 ⟨rfl,k5⟩;have H5:=Ab (H4.zJ k5);have FC:=Ab (HW.kept k5);have HY:=Ab (FA.kept k5);have FF:=Ab (HV.trans (k5.mono (by simp)));clear H4 HW FA HV k5;cases ha:EZ f g with
  |true=>
   have HA:=Ab ha;clear ha;(go_wp2_with fail);have Ha:=H5;have x:=FC;have t:=HY;have T:=FF;clear H5 FC HY FF;have K3:=x.lt;have K5:=t.lt;refine(O2 b W f g br _ Ha HO).mono ?_;intro e w6 o;clear Ha;cases ht:Fo f g with
   |error q=>
    rw[ht]at o;obtain⟨n9,ap,an,j,A1,m,rfl,n,d⟩:=o;(have B:p7 (IG f g=.error q):=by show _=_;unfold IG;simp[HS.out,HA.out,ht]);clear ht;have a:=x.kept d (by simp;omega);have c:=t.kept d (by simp;omega);have C:=Ab (T.trans d);have l0:=c.cell 0;have l1:=c.cell 1;have l2:=c.cell 2;have l3:=c.cell 3;have l4:=c.cell 4;have l5:=c.cell 5;have l6:=c.cell 6;have l7:=c.cell 7;have l8:=c.cell 8;have lf:=c.frozen;have nf:=a.frozen;have I:=a.cell 0;have D:=a.cell 1;have y:=a.cell 2;have E:=a.cell 3;have H:=a.cell 4;have S:=a.cell 5;have F:=a.cell 6;have Q:=a.cell 7;have A:=a.cell 8;simp[Az,Cs,A7,AJ]at l0 I l1 D l2 y l3 E l4 H l5 S l6 F l7 Q l8 A;(have q1:¬L=N:=by omega);(have q2:¬N=L:=by omega);have M:=Ab a;have R:=Ab n;clear a c n d x t T;simp only[AP];go_wp2;rw[B.out];have G:=(((M.zB ⟨L,2,Y⟩ (by simp;omega) (X J ap)).zB ⟨L,3,Y⟩ (by simp;omega) (O an)).zB ⟨L,4,Y⟩ (by simp;omega) (U j A1 m)).zE rfl (X J p) (X J 0) (X J ap) (O an) (U j A1 m) (X pD 0) (O pF) (X pD 0) (O pF);refine lL (Av (P:=prog) (fn:=Tryz.f172) (p:=2) (u:=3) rfl rfl G underlying217 rfl (by kernel_rfl)) rfl ?_;refine⟨n9,⟨p,0,⟨ap,an,U j A1 m⟩,AJ,AJ⟩,⟨_,_,_,rfl⟩,rfl,?_,?_⟩
    .exact(((R.other (p:=⟨L,2,Y⟩) (by simp;omega) (i L (by omega)) _).other (p:=⟨L,3,Y⟩) (by simp;omega) (i L (by omega)) _).other (p:=⟨L,4,Y⟩) (by simp;omega) (i L (by omega)) _).zE (by omega) (i N (by omega)) _ _ _ _ _ _ _ _ _
    .have BT:=Aa HN;exact(((C.setCell (p:=⟨L,2,Y⟩) (by right;simp;omega) _).setCell (p:=⟨L,3,Y⟩) (by right;simp;omega) _).setCell (p:=⟨L,4,Y⟩) (by right;simp;omega) _).zE (by right;omega) _ _ _ _ _ _ _ _ _
   |ok r=>
    obtain⟨⟨pp,ss,z⟩,n2⟩:=r;rw[ht]at o;obtain⟨tv,HH,rfl,K1,AH,n,d⟩:=o;obtain⟨j,m,rfl⟩:=Ak AH;(have B:p7 (IG f g=.ok (.inl (p,0,pp,ss,z),n2)):=by show _=_;unfold IG;simp[HS.out,HA.out,ht,HP.out]);have EM:p7 (_/\(∀k,k<HH->(U j (Z z) m).ownBlock≠V k)):=⟨AH,λk hk e=>by have:=(AH.lt k e).1;omega⟩;clear ht AH;have a:=x.kept d (by simp;omega);have c:=t.kept d (by simp;omega);have C:=Ab (T.trans d);have l0:=c.cell 0;have l1:=c.cell 1;have l2:=c.cell 2;have l3:=c.cell 3;have l4:=c.cell 4;have l5:=c.cell 5;have l6:=c.cell 6;have l7:=c.cell 7;have l8:=c.cell 8;have lf:=c.frozen;have nf:=a.frozen;have I:=a.cell 0;have D:=a.cell 1;have y:=a.cell 2;have E:=a.cell 3;have H:=a.cell 4;have S:=a.cell 5;have F:=a.cell 6;have Q:=a.cell 7;have A:=a.cell 8;simp[Az,Cs,A7,AJ]at l0 I l1 D l2 y l3 E l4 H l5 S l6 F l7 Q l8 A;(have q1:¬L=N:=by omega);(have q2:¬N=L:=by omega);have M:=Ab a;have R:=Ab n;clear a c n d x t T;simp only[AP];go_wp2;rw[B.out];have G:=(((M.zB ⟨L,2,Y⟩ (by simp;omega) (X J pp)).zB ⟨L,3,Y⟩ (by simp;omega) (O ss)).zB ⟨L,4,Y⟩ (by simp;omega) (U j (Z z) m)).zE rfl (X J p) (X J 0) (X J pp) (O ss) (U j (Z z) m) (X pD 0) (O pF) (X pD 0) (O pF);refine lL (Av (P:=prog) (fn:=Tryz.f172) (p:=2) (u:=3) rfl rfl G underlying217 rfl (by kernel_rfl)) rfl ?_;have EY:=EM.out.2 L (by omega);have IA:=EM.out.2 N (by omega);refine⟨U j (Z z) m,HH,rfl,by have:=Aa HN;omega,?_,?_,?_⟩
    .exact Ms (Ag (Ag (Ag EM.out.1 (p:=⟨L,2,Y⟩) EY _) (p:=⟨L,3,Y⟩) EY _) (p:=⟨L,4,Y⟩) EY _) IA _ _ _ _ _ _ _ _ _
    .exact(((R.other (p:=⟨L,2,Y⟩) (by simp;omega) (i L (by omega)) _).other (p:=⟨L,3,Y⟩) (by simp;omega) (i L (by omega)) _).other (p:=⟨L,4,Y⟩) (by simp;omega) (i L (by omega)) _).zE (by omega) (i N (by omega)) _ _ _ _ _ _ _ _ _
    .have BT:=Aa HN;exact(((C.setCell (p:=⟨L,2,Y⟩) (by right;simp;omega) _).setCell (p:=⟨L,3,Y⟩) (by right;simp;omega) _).setCell (p:=⟨L,4,Y⟩) (by right;simp;omega) _).zE (by right;omega) _ _ _ _ _ _ _ _ _
  |false=>
   have HA:=Ab ha;clear ha;(go_wp2_with fail);refine(ic b W f g br _ H5 HO).mono ?_;intro e w6 o;clear H5;cases ht:ID f g with
   |error q=>
    rw[ht]at o;obtain⟨n9,l,HM,rfl,n,d⟩:=o;obtain⟨lp,ls,la,ll,lr⟩:=l;simp only at HM;subst HM;(have B:p7 (IG f g=.error q):=by show _=_;unfold IG;simp[HS.out,HA.out,ht]);clear ht;have a:=FC.kept d (by simp;omega);have C:=Ab (FF.trans d);have nf:=a.frozen;have I:=a.cell 0;have D:=a.cell 1;have y:=a.cell 2;have E:=a.cell 3;have H:=a.cell 4;have S:=a.cell 5;have F:=a.cell 6;have Q:=a.cell 7;have A:=a.cell 8;simp[Az,Cs,A7,AJ]at I D y E H S F Q A;have M:=Ab a;have R:=Ab n;clear a n d FC HY FF;simp only[Az,A7];go_wp2;rw[B.out];have G:=M.zE rfl (X J lp) (X J ls) (X J 0) (O pF) (U Y 0 0) (X pD ll.v) (O ll.s) (X pD lr.v) (O lr.s);refine lL (Av (P:=prog) (fn:=Tryz.f172) (p:=2) (u:=3) rfl rfl G underlying217 rfl (by kernel_rfl)) rfl ?_;refine⟨n9,⟨lp,ls,A7,ll,lr⟩,⟨_,_,_,rfl⟩,rfl,?_,?_⟩
    .exact R.zE (by omega) (i N (by omega)) _ _ _ _ _ _ _ _ _
    .have BT:=Aa HN;exact C.zE (by right;omega) _ _ _ _ _ _ _ _ _
   |ok r=>
    obtain⟨l,n2⟩:=r;rw[ht]at o;have HM:=Ua ht;obtain⟨lp,ls,la,ll,lr⟩:=l;simp only at HM;subst HM;obtain⟨rfl,n,d⟩:=o;(have B:p7 (IG f g=.ok (.inr ⟨lp,ls,A7,ll,lr⟩,n2)):=by show _=_;unfold IG;simp[HS.out,HA.out,ht]);clear ht;have a:=FC.kept d (by simp;omega);have C:=Ab (FF.trans d);have nf:=a.frozen;have I:=a.cell 0;have D:=a.cell 1;have y:=a.cell 2;have E:=a.cell 3;have H:=a.cell 4;have S:=a.cell 5;have F:=a.cell 6;have Q:=a.cell 7;have A:=a.cell 8;simp[Az,Cs,A7,AJ]at I D y E H S F Q A;have M:=Ab a;have R:=Ab n;clear a n d FC HY FF;simp only[Az,A7];go_wp2;rw[B.out];have G:=M.zE rfl (X J lp) (X J ls) (X J 0) (O pF) (U Y 0 0) (X pD ll.v) (O ll.s) (X pD lr.v) (O lr.s);refine lL (Av (P:=prog) (fn:=Tryz.f172) (p:=2) (u:=3) rfl rfl G underlying217 rfl (by kernel_rfl)) rfl ?_;refine⟨rfl,?_,?_⟩
    .exact R.zE (by omega) (i N (by omega)) _ _ _ _ _ _ _ _ _
    .have BT:=Aa HN;exact C.zE (by right;omega) _ _ _ _ _ _ _ _ _
end Go.Proofs.YtoihbhenbmffcaaGreatDoor
namespace Go.Proofs.YtoihbhenbmffcaaGreatDoor
open Go.RowKit Go.Proofs.Tryz
section
variable {P:Program} {ops:Array Oper} {Q:Exit->Act->py->Prop} {md:Region.Mode} {S:py->Prop} {k:Nat}
def CF(P:Program)(md:Region.Mode)(ops:Array Oper)(Q:Exit->Act->py->Prop)(S:py->Prop)(k:Nat):Nat->Array Bool->Act->py->Prop
 |0,listed,a,w=>Region.ready md ops listed=[]/\Q .normal a w
 |fuel+1,listed,a,w=>(Region.ready md ops listed=[]->Q .normal a w)/\
  ∀i∈Region.ready md ops listed,wpOp P ops Q i (λa' w'=>(i≠k->S w')/\CF P md ops Q S k fuel (listed.setIfInBounds i jj) a' w') a w
def CF.any:∀(b:Nat) (c:Array Bool) (a:Act) (w:py),CF P md ops Q S k b c a w->wpAny P md ops Q b c a w
 |0,_,_,_,h=>h
 |b+1,_,_,_,h=>⟨h.1,λi g=>wpOp_mono (λf e d=>CF.any b _ f e d.2) (h.2 i g)⟩
def Q7(md:Region.Mode)(ops:Array Oper)(k i:Nat):Bool:=match ops[k]? with|some o=>o.after.any λe=>Region.binds md e&&e.on==i|none=>K
def T7{i:Nat}{b:Array Bool}(h:Q7 md ops k i=jj)(f:b.getD i jj=K):k∉Region.ready md ops b:=λg=>by
 obtain⟨_,o,l,j⟩:=mem_ready.1 g;unfold Q7 at h;rw[l]at h;obtain⟨e,m,d⟩:=Array.any_eq_true'.1 h;simp only[lJ,mT]at d;have a:=j e m d.1;rw[d.2]at a;rcases Nat.lt_or_ge i b.size with c|c
 .simp[c]at f a;rw[f]at a;cases a
 .simp[ou c]at a
def CF.first{i:Nat}{n:Oper}{v:p5}(B:ops[i]?=V n)(G:∀(j:Nat) (o:Oper) p b,ops[j]?=V o->o.op≠ .select p b)
  (T:∀c a w,Q (.panic c) (a.put n.dst v) w->Q (.panic c) a w) (W:Q7 md ops k i=jj):
  ∀(r:Nat) (f:Array Bool) (a:Act) (w:py),
   (∀j m,ops[j]?=V m->j≠i->f.getD j jj=K->(∀e∈m.after,Region.binds md e=jj->e.on≠i)->n.apart ops m=jj)->
   i∈Region.ready md ops f->YieldsIf P ops S n v a->S w->
   CF P md ops Q S k r (f.setIfInBounds i jj) (a.put n.dst v) w->CF P md ops Q S k (r+1) f a w:=by
 intro r
 induction r with
 |zero=>
  intro f a w _ l u t H;refine⟨λh=>(by rw[h]at l;cases l),λj s=>?_⟩;by_cases d:j=i
  .subst d;exact u.wpOp B t ⟨λ_=>t,H⟩
  .have:=oZ s d;rw[H.1]at this;cases this
 |succ r ih=>
  intro f a w E l u t H;have A:=(mem_ready.1 l).1;refine⟨λh=>(by rw[h]at l;cases l),λj s=>?_⟩;by_cases d:j=i
  .subst d;exact u.wpOp B t ⟨λ_=>t,H⟩
  ·(have D:j≠k:=λe=>T7 W A (e▸s));have h1:=H.2 j (oZ s d);obtain⟨C,m,y,A0⟩:=mem_ready.1 s;have AB:∀e∈m.after,Region.binds md e=jj->e.on≠i:=λe he N R=>by
    have g:=A0 e he N;rw[R]at g;rcases Nat.lt_or_ge i f.size with z|z
    .simp[z]at A g;rw[A]at g;cases g
    .simp[ou z]at g
   have g:=wpOp_putIf y (E j m y d C AB) (λp b=>G i n p b B) (λp b=>G j m p b y) T u h1;refine wpOp_mono (λa' M x=>⟨λ_=>x.2.1 D,ih (f.setIfInBounds j jj) a' M (λq oq hq AT I L=>E q oq hq AT ?_ L) (oZ l (Ne.symm d)) x.1 (x.2.1 D) ?_⟩) g
   .by_cases F:j=q
    .subst F;exact C
    .rw[getD_set_ne jj F]at I;exact I
   .rw[o9 _ _ d];exact x.2.2
def CF.take{i:Nat}{d:Oper}{v:p5}{e:Nat}{b:Array Bool}{a:Act}{w:py}(f:ops[i]?=V d)
  (o:Region.noSelect ops=jj) (g:Region.free md ops b i=jj) (n:(Region.ready md ops b).contains i=jj) (j:Q7 md ops k i=jj)
  (p:∀c a w,Q (.panic c) (a.put d.dst v) w->Q (.panic c) a w) (m:S w) (l:YieldsIf P ops S d v a)
  (h:CF P md ops Q S k e (b.setIfInBounds i jj) (a.put d.dst v) w):CF P md ops Q S k (e+1) b a w:=
 CF.first f (Region.noSelect_spec o) p j e b a w (Region.free_spec f g) (by simpa using n) l m h
def kc(md:Region.Mode)(ops:Array Oper)(listed:Array Bool)(i:Nat)(b:Bool):Bool:=Region.noSelect ops&&Region.free md ops listed i&&(Region.ready md ops listed).contains i&&b
def CF.tk{i:Nat}{d:Oper}{v:p5}{f:Nat}{e:Array Bool}{a:Act}{w:py}(n:ops[i]?=V d)(b:kc md ops e i (Q7 md ops k i)=jj)
  (m:∀c a w,Q (.panic c) (a.put d.dst v) w->Q (.panic c) a w) (l:p7 (S w)) (g:Region.wanted d (yielded ops a.tmps)=jj) (j:∀w,S w->(execOp a.eval d).run P w=.ok (.value v) w)
  (h:CF P md ops Q S k f (e.setIfInBounds i jj) (a.put d.dst v) w):CF P md ops Q S k (f+1) e a w:=by
 unfold kc at b;simp only[lJ]at b;exact CF.take n b.1.1.1 b.1.1.2 b.1.2 b.2 m l (oi ⟨g,j⟩) h
theorem CF.tq{i:Nat}{b:Oper}{v:p5}{e:Nat}{d:Array Bool}{a:Act}{w:py}(n:ops[i]?=V b)(g:∀c a w,Q (.panic c) (a.put b.dst v) w->Q (.panic c) a w)(l:p7 (S w))(h:CF P md ops Q S k e (d.setIfInBounds i jj) (a.put b.dst v) w)(m:kc md ops d i (Q7 md ops k i)=jj:=by kernel_rfl)(f:Region.wanted b (yielded ops a.tmps)=jj:=by rfl)
  (j:∀w,S w->(execOp a.eval b).run P w=.ok (.value v) w:=by(intro o p;(try go_split_ands);go_simp)):CF P md ops Q S k (e+1) d a w:=CF.tk n m g l f j h
def BD{Q:Exit->Act->py->Prop}(h:p7 (∀c a w,¬Q (.panic c) a w)){d:Option Tmp}{v:p5}:∀c a w,Q (.panic c) (Act.put a d v) w->Q (.panic c) a w:=λ_ _ _ b=>absurd b (h _ _ _)
def CF.one{i:Nat}{o:Oper}{m:Nat}{e:Array Bool}{a:Act}{w:py}(n:Region.ready md ops e=[i])(q:ops[i]?=V o)
  (h:∀f:Act->py->Prop,p7 (∀l c,(i≠k->S c)->CF P md ops Q S k m (e.setIfInBounds i jj) l c->f l c)->
   if Region.wanted o (yielded ops a.tmps)=jj then o.wp P a w f Q else f (a.put o.dst undef) w):CF P md ops Q S k (m+1) e a w:=by
 refine⟨λp=>(by rw[n]at p;cases p),λj g=>?_⟩;rw[n]at g;simp only[kY]at g;subst g;have b:=h _ (λl c r b=>And.intro r b);unfold wpOp;simp only[q];split
 .rename_i d;rw[ln d]at b;exact .inl b
 .rename_i d;rw[li d]at b;exact b
def CF.done{b:Array Bool}{a:Act}{w:py}(c:Region.ready md ops b=[])(h:Q .normal a w):∀d,CF P md ops Q S k d b a w
 |0=>⟨c,h⟩
 |_+1=>⟨λ_=>h,by rw[c];simp⟩
def CH{b:Nat}{a:Act}{w:py}(k:Nat)(S:py->Prop)(c:P.follows .mixedOrders=jj)
  (h:CF P .any ops Q S k ops.size (Array.replicate ops.size K) a w.drew):(Code.region b ops jj).wp P Q a w:=
 wp_region_any c (CF.any _ _ _ _ h)
end
end Go.Proofs.YtoihbhenbmffcaaGreatDoor
namespace Go.Proofs.YtoihbhenbmffcaaGreatDoor
open Go.RowKit Go.Proofs.Tryz
set_option maxRecDepth 100000
theorem bH(E:pM p5)(j:Nat)(x:zA)(w:py)(c:Z E=26)(p:j<26)(q:(pC (ml E)).cells=ml E)(g:∀v∈E,v.oneCell'=jj):
  Calls prog 179 #[pC (ml E),X pD ((j:Int)+65),O x] w λr k=>r=oa (pC (ml (E.set j (O x))))/\Ac [] w k:=by
 have m:IntKind.i32.wrap (j:Int)=j:=by rw[IntKind.wrap_i32];omega
 have s:IntKind.i32.wrap ((j:Int)+65-65)=j:=by rw[show(j:Int)+65-65=j by omega];exact m
 have n:(0:Int)<=(j:Int):=by omega
 have o:(j:Int)<26:=by omega
 have i:p7 (∀v∈E.set j (O x),v.oneCell'=jj):=by
  intro v l;rcases List.mem_or_eq_of_mem_set l with h|rfl
  .exact g v h
  .rfl
 have a:p7 (Z (E.set j (O x))=26):=by show _=_;simp[c]
 have d:p7 ((E.set j (O x)).toArray.size=26):=by show _=_;simp[c]
 go_enter func179,ntmps179;go_wp2_with (first|(refine m5 rfl 243 _ rfl w.heap.size 0 (by rfl) (E.set j (O x)) _ ?_ underlying243 rfl ?_ ?_)|(refine nj rfl 243 _ _ rfl (w.heap.size+1) 0 (ml (E.set j (O x))) (by rfl) (by rfl) ?_ ?_ ?_ ?_))
 .exact((pP w (E.set j (O x)) 243).alloc _).range
 .rw[Aa a];exact Tryz.zG
 .have h:=(pP (w.alloc (j3 (ml (E.set j (O x))) 243)) (pG 26 (O ⟨#[]⟩)) 243).there;simp only[m9,lT]at h;rw[Aa d];exact h
 .rw[Aa d];exact Tryz.zG
 .exact mL i
 .have e:=(pP (w.alloc (j3 (ml (E.set j (O x))) 243)) (pG 26 (O ⟨#[]⟩)) 243).zP (E.set j (O x)) (by rw[Aa a];simp);have f:=((((pO [] w).alloc (j3 (ml (E.set j (O x))) 243)).alloc (j3 (ml (pG 26 (O ⟨#[]⟩))) 243)).zI (b:=w.heap.size+1) (oj (by omega)) (E.set j (O x)) 0);simp only[lT]at e;refine lL (Ca (b:=w.heap.size+1) rfl (by rfl) e underlying243 rfl (by rw[Aa a];exact Tryz.zG)) rfl ⟨rfl,f⟩
