import Derived.Deep.RegionHeld3
import Derived.Test.YtoihbhenbmffcaaGreatZAA
set_option linter.all false
set_option maxHeartbeats 0
open List renaming length->Z,toArray->j1,replicate->kD
open Option renaming none->Y,some->V
open Go.Value renaming slice->U,int->X,string->O,pointer->j2,agg->kx,bool->k0,ownBlock->kF
open Bool renaming false->K,true->hG
open Go.IntKind renaming i64->J,i32->ky
open Go.Obj renaming cells->jj
open Go.Ending renaming returned->j3
open Or renaming inl->kn,inr->kp
open Go renaming World->kq,Value->ks
open Go.RowKit renaming Hid->kt
open Go.World renaming cell?->ku,ownsRow->kw
open ByteArray renaming empty->kB
open Go.Op renaming bytesLess->kH
namespace Go.Proofs.YtoihbhenbmffcaaGreat
open Go.RowKit Go.Proofs.Tryz
variable{w v:kq}{s t:zA}{n k m b i:Nat}{P:Program}{I:Int}{z:ks}{y:kJ ks}{T:TypeId}{M:kJ Nat}
def Db(w:kq)(N:Nat)(s:zA)(pos:Nat):kq:={w with heap:=w.heap.setIfInBounds N (.stringIter s pos)}
def PI{N:Nat}{pos:Nat}(h:N<w.heap.size):(Db w N s pos).heap[N]?=V (.stringIter s pos):=by
 simp[Db,h]
def QH(h:k≠n):(Db w n s m).heap[k]?=w.heap[k]?:=by
 have a:¬n=k:=λe=>h e.symm
 simp[Db,Array.getElem?_setIfInBounds,a]
def IT(w:kq)(N:Nat)(s:zA)(a:Nat):(Db w N s a).heap.size=w.heap.size:=by simp[Db]
def DD(w:kq)(N:Nat)(s:zA)(a:Nat):Ac [N] w (Db w N s a):=
 ⟨rfl,rfl,rfl,by rw[IT];exact fJ _,λk _ b=>QH (by simpa using b)⟩
def UY(a:w.heap[n]?=V (.stringIter s m))(b:TypeId)(h:m<s.size):
  (Instr.next (j2 (V ⟨n,0,Y⟩)) hG b).run P w=.ok (.tuple #[k0 hG,X J m,X ky (Utf8.decode s m).1]) (Db w n s (m+(Utf8.decode s m).2)):=by
 simp only[Instr.next,getObj,setObj,jO,Sem.run,a,Result.andThen,h,if_true];simp[goInt,Db]
def UH(a:w.heap[n]?=V (.stringIter s m))(b:TypeId)(h:¬m<s.size):
  (Instr.next (j2 (V ⟨n,0,Y⟩)) hG b).run P w=.ok (.tuple #[k0 K]) w:=by
 simp[Instr.next,getObj,Sem.run,a,h]
def Ip(s:zA)(a:Nat)(h:a<s.size):1<=(Utf8.decode s a).2:=by
 by_cases b:(s[a]'h).toNat<128
 .rw[iW s a h b];exact fJ _
 .exact(kj s a h (by omega)).2
def Uo(s:zA)(a:Nat):(Utf8.decode s a).2<=4:=by
 unfold Utf8.decode;simp only
 repeat' split
 all_goals simp
def ce(r:Int):0<(Utf8.encode r).size:=by
 unfold Utf8.encode;simp only;generalize(if Utf8.valid r=hG then r.toNat else Utf8.runeError)=c
 repeat' split
 all_goals simp[ByteArray.size]
def EF(s:zA)(pos:Nat)(ms:kJ A0):kJ A0:=
 if h:pos<s.size/\1<=(Utf8.decode s pos).2 then have _h1:pos<s.size:=h.1;have _h2:=h.2;EF s (pos+(Utf8.decode s pos).2) (KY ms pos (Utf8.decode s pos).1)else ms
def Fl(a:kJ A0)(h:n<s.size):EF s n a=EF s (n+(Utf8.decode s n).2) (KY a n (Utf8.decode s n).1):=by
 conv=>lhs;rw[EF]
 rw[dif_pos ⟨h,Ip s n h⟩]
def Oe(a:kJ A0)(h:¬n<s.size):EF s n a=a:=by
 rw[EF,dif_neg (by omega)]
def Im(m:A0):A0:=if IE m then m else{m with kind:=0}
def Ex(s:zA):A0:=⟨1,s.size,kB⟩
def Ez(s:zA):kJ A0:=(EF s 0 []).map Im++[Ex s]
structure KA(s:zA)(pos:Nat)(ms:kJ A0):Prop where
 len:Z ms<=pos
 each:∀m∈ms,m.place<pos/\0<m.text.size/\m.text.size<=4*pos
def KA.lay{b:kJ A0}(h:KA s n b)(g:n<k):KA s k (KY b n I):=by
 have l:=WJ I;have o:=ce I;have d:∀m∈b,m.place<k/\0<m.text.size/\m.text.size<=4*k:=λm c=>by have:=h.each m c;omega
 have j:=h.len;unfold KY;split
 .exact⟨by omega,d⟩
 .split
  .rename_i m c;have f:=List.mem_of_getLast? c;have i:=h.each m f;split
   .refine⟨?_,λx a=>?_⟩
    ·(have:b≠[]:=by intro e;rw[e]at c;simp at c);have:0<Z b:=List.length_pos_iff.2 this;simp;omega
    .rcases fA.1 a with a|a
     .exact d x (List.dropLast_subset b a)
     .simp only[ft]at a;subst a;simp only[fV];omega
   .refine⟨by simp;omega,λx a=>?_⟩;rcases fA.1 a with a|a
    .exact d x a
    .simp only[ft]at a;subst a;simp only[Cj];omega
  .refine⟨by simp;omega,λx a=>?_⟩;rcases fA.1 a with a|a
   .exact d x a
   .simp only[ft]at a;subst a;simp only[Cj];omega
def FJ(T:kJ A0)(k:Nat):kJ A0:=(T.take k).map Im++T.drop k
def In(T:kJ A0)(k:Nat)(a:k<=Z T):Z (FJ T k)=Z T:=by simp[FJ];omega
def NN{T:kJ A0}(a:k<Z T):FJ T k=(T.take k).map Im++T[k]::T.drop (k+1):=by
 unfold FJ;rw[fQ a]
def VB{T:kJ A0}(a:k<Z T):FJ T (k+1)=(T.take k).map Im++Im T[k]::T.drop (k+1):=by
 unfold FJ;rw[fm a,gn,gF];rfl
def XX(b c:kJ A0)(m:A0)(n:Nat)(d:Z b=n):((b++m::c).flatMap A9).set (n*3) (X J 0)=(b++{m with kind:=0}::c).flatMap A9:=by
 subst d;have e:Z (b.flatMap A9)=Z b*3:=by
  induction b with
  |nil=>rfl
  |cons a l ih=>rw[fN,fE,ih,Gf,fD];omega
 simp only[fR,fN];rw[kc _ _ (by omega),e];simp[A9]
set_option maxRecDepth 100000
theorem bR(s:zA)(w:kq)(hs:s.size<=300):
  Calls prog 61 #[O s] w λe w'=>∃v,e=j3 v/\kw w' (w.heap.size+1) 150 3 v (Z (Ez s)) ((Ez s).flatMap A9)/\Ac [] w w':=by
 obtain⟨i0,HV,HD,HZ,HP⟩:=gH Tryz.info150;have Ix:∀(x:Bool) (w:kq),(Op.unary .not (k0 x)).run prog w=.ok (k0 (!x)) w:=λ_ _=>rfl
 go_enter func61,ntmps61;go_wp2;obtain⟨T,hT⟩:=kK (EF s 0 []);have HT:=Ab hT;clear hT
 go_loopg [3] s.size (λgk o wr=>∃(pos:Nat) (b:kJ A0),gk=s.size-pos/\pos<=s.size+4/\kt (EF s pos b=T/\KA s pos b)/\wr.heap[w.heap.size]?=V (.stringIter s pos)/\kw wr (w.heap.size+1) 150 3 o (Z b) (b.flatMap A9)/\Ac [] w wr/\w.heap.size+1<=wr.heap.size)
 case atStart=>
  exact⟨0,[],by simp,by omega,⟨HT,⟨by simp,by simp⟩⟩,World.iter_heap w s 0,fK _ _ _ _,(kL _ _).alloc _,by simp[World.iter]⟩
 case round=>
  obtain⟨pos,b,FF,H3,p,EK,d,j,r⟩:=hrel;have HG:=Ab FF;have S:=Ab EK;clear FF EK;obtain⟨ad,AT,rfl⟩:=Aj d;by_cases F:pos<s.size
  .obtain⟨u,a,E⟩:∃u a,Utf8.decode s pos=(u,a):=⟨_,_,rfl⟩;(have IJ:a<=4:=by have:=Uo s pos;rw[E]at this;exact this);(have H9:1<=a:=by have:=Ip s pos F;rw[E]at this;exact this);have AB:∀z,(Instr.next (j2 (V ⟨w.heap.size,0,Y⟩)) hG z).run prog wr=.ok (.tuple #[k0 hG,X J pos,X ky u]) (Db wr w.heap.size s (pos+a)):=by
    intro z;have h:=UY (P:=prog) S z F;rw[E]at h;exact h
   have B:=Ad d (DD wr w.heap.size s (pos+a));have BT:=Ab (PI (w:=wr) (N:=w.heap.size) (s:=s) (pos:=pos+a) (by omega));(have AH:w.heap.size+1<=(Db wr w.heap.size s (pos+a)).heap.size:=by rw[IT];exact r);have A:Ac [] w (Db wr w.heap.size s (pos+a)):=j.trans' (DD wr w.heap.size s (pos+a)) (by simp);have HL:kt (EF s (pos+a) (KY b pos u)=T/\KA s (pos+a) (KY b pos u)):=by
    refine⟨?_,p.out.2.lay (by omega)⟩;have h:=p.out.1;rw[Fl b F,E]at h;exact h
   (have HJ:Z b<=1000000:=by have:=p.out.2.len;omega);(have FP:kt (∀m∈b,m.place<=1000000/\m.text.size<=1000000):=λm f=>by have:=p.out.2.each m f;omega);clear E d j S;generalize Db wr w.heap.size s (pos+a)=w2 at AB B BT AH A;(go_wp2_with fail);clear AB;refine(cg _ b pos u (w.heap.size+1) _ AH B HJ (by omega) FP).mono ?_;rintro e M ⟨v3,rfl,HE,n⟩;have FW:=Ab ((n.block w.heap.size (by omega)).trans BT);have HK:Ac [] w M:=⟨n.os.trans A.os,n.tape.trans A.tape,n.output.trans A.output,gQ A.size n.size,λk y _=>(n.block k (by omega)).trans (A.block k y (by simp))⟩;have HO:w.heap.size+1<=M.heap.size:=gQ AH n.size;clear n A BT B AH;go_wp2_with fail
   go_roundg (s.size-(pos+a))
   case measure=>have:=Aa HG;omega
   case rel=>exact⟨pos+a,KY b pos u,rfl,by omega,HL,FW,HE,HK,HO⟩
  ·(have AB:∀z,(Instr.next (j2 (V ⟨w.heap.size,0,Y⟩)) hG z).run prog wr=.ok (.tuple #[k0 K]) wr:=λz=>UH (P:=prog) S z F);have L:kt (b=T/\KA s pos b):=⟨by have h:=p.out.1;rwa [Oe b F]at h,p.out.2⟩;clear S p;have I:=L.out.1;(have HB:kt (∀m∈T,m.text.size<=1000000/\0<m.text.size):=λm f=>by have:=L.out.2.each m (by rw[I];exact f);omega);(have H2:Z T<=400:=by have:=L.out.2.len;rw[I]at this;omega);rw[I]at d⊢;clear L I;(have HC:kt (Ez s=T.map Im++[Ex s]):=by show _=_;unfold Ez;rw[Aa HT]);clear HT HG;go_wp2;clear AB
   go_loopw [19] (λi wq=>∃k:Nat,i=X J k/\k<=Z T/\kw wq (w.heap.size+1) 150 3 (U ad (Z T) AT) (Z T) ((FJ T k).flatMap A9)/\Ac [] w wq/\w.heap.size+1<=wq.heap.size) (λi _=>Z T-(intOf i).toNat)
   case atStart=>exact⟨0,rfl,fP _,by simpa[FJ] using d,j,r⟩
   case round=>
    clear d j r;obtain⟨k,rfl,y,d,j,r⟩:=hrel;by_cases l:k<Z T
    ·(have FO:kw wr (w.heap.size+1) 150 3 (U ad (Z T) AT) (Z (FJ T k)) ((FJ T k).flatMap A9):=by rw[In T k y];exact d);obtain⟨g,H6,he,hc,Q⟩:=AC FO (λc _=>Gf c) k (by rw[In T k y];exact l);simp only[fg]at he;obtain⟨rfl,HI,rfl⟩:=he;clear HI;obtain⟨m,f⟩:=kK (T[k]);have CW:∀h,(FJ T k)[k]'h=m:=by
      intro h;have e:(FJ T k)[k]?=V m:=by
       (have hl:Z ((T.take k).map Im)=k:=by simp;omega);rw[NN l,List.getElem?_append_right (by omega),hl,Nat.sub_self,f];rfl
      rw[fI h]at e;exact jD e
     have G:=Q k (by rw[In T k y];exact l) 0 (by omega);have R:=Q k (by rw[In T k y];exact l) 1 (by omega);have H:=Q k (by rw[In T k y];exact l) 2 (by omega);rw[CW]at G R H;simp[A9]at G R H;have FL:=HB.out m (by rw[<-f];exact fj l);have W:=TK m wr FL.1 (λ_=>FL.2);simp only[A9]at W;have HW:=Ab W;have D:kt (FJ T k=(T.take k).map Im++m::T.drop (k+1)/\FJ T (k+1)=(T.take k).map Im++Im m::T.drop (k+1)):=⟨by rw[NN l,f],by rw[VB l,f]⟩;clear Q CW FO W f hc;(go_wp2_with fail);refine HW.mono ?_;rintro e w1 ⟨rfl,C⟩;have Ax:=Ad d C;have CL:=j.trans C;have EY:w.heap.size+1<=w1.heap.size:=gQ r C.size;cases hwh:IE m with
     |true=>
      (have HN:kt (FJ T (k+1)=FJ T k):=by show _=_;rw[D.out.1,D.out.2];simp[Im,hwh]);clear D HW C G R H d j r;go_wp2
      go_roundw
      case rel=>exact⟨k+1,by go_num,by omega,by rw[HN.out];exact Ax,CL,EY⟩
      case measure=>simp[intOf];omega
     |false=>
      have Ha:=Ax.lt g rfl;have H5:ku w1 ⟨g,k*3,Y⟩=V (X J m.kind):=by
       rw[World.cell?_of_block (w:=wr) (C.block g (d.lt g rfl).2 (by simp))];exact G
      have IS:=GP Ax (k*3);have HN:kt (((FJ T k).flatMap A9).set (k*3) (X J 0)=(FJ T (k+1)).flatMap A9):=by
       show _=_;rw[D.out.1,D.out.2,XX _ _ _ k (by simp;omega)];simp[Im,hwh]
      clear D HW C G R H d j r;go_wp2
      go_roundw
      case rel=>
       refine⟨k+1,by go_num,by omega,?_,CL.setCell (kp (by have:=Ha.1;simp;omega)) _,by simpa using EY⟩;rw[<-HN.out];exact FK Ax (k*3) _
      case measure=>simp[intOf];omega
    ·(have HF:k=Z T:=by omega);have B:kw wr (w.heap.size+1) 150 3 (U ad (Z T) AT) (Z T) ((T.map Im).flatMap A9):=by
      (have e:FJ T k=T.map Im:=by unfold FJ;rw[fo (by omega),gr (by omega),gd]);rw[e]at d;exact d
     clear HF d;go_wp2_with (at_builtin;refine fO _ rfl (.tmp 33) (.tmp 37) _ rfl (w.heap.size+1) 150 i0 _ 3 32 underlying144 HV HD HZ HP rfl (by omega) (U ad (Z T) AT) (Z T) ((T.map Im).flatMap A9) rfl (fw B _) ⟨wr.heap.size,0,Y⟩ 1 1 (A9 (Ex s)) rfl rfl (fM (fX wr _)) (by simp[Value.oneCell',A9]) (by omega) (by unfold maxLen;omega) (by omega) (by simp;omega) (wr.heap.size+1) (by simp) ?_;intro g1 H7 M HQ EX FT Go)
     have H1:Ac [] w M:=(j.alloc _).grown EX (λq hq=>kp (by have:=(B.lt q hq).1;omega));clear EX FT Go;go_wp2;go_ret;rw[HC.out];refine⟨_,rfl,?_,H1⟩;simpa using HQ
structure Ch(w:kq)(b:Nat)(mv:ks)(ms:kJ A0)(nx:Nat)(br:Int):Prop where
 zK:AF w b [mv,X J nx,X J br] 147
 row:kw w 0 150 3 mv (Z ms) (ms.flatMap A9)
 ap:mv.ownBlock≠V b
 lt:nx<Z ms
 len:Z ms<=1000
def Ch.kept{w w':kq}{a:kJ A0}{j nx':Nat}{d br':Int}(h:Ch w b z a j d)(k:Ac [b] w w')(f:AF w' b [z,X J nx',X J br'] 147)(e:nx'<Z a):Ch w' b z a nx' br':=
 ⟨f,Am h.row k (λi g c=>by simp at c;subst c;exact h.ap g),h.ap,e,h.len⟩
def Ch.zJ{a:kJ A0}(h:Ch w b z a n I)(k:Ac [] w v):Ch v b z a n I:=
 ⟨h.zK.kept k,Ad h.row k,h.ap,h.lt,h.len⟩
def Ch.cells{a:kJ A0}(h:Ch w b z a n I):∃g e,z=U (V ⟨g,0,Y⟩) (Z a) e/\ku w ⟨b,0,Y⟩=V z/\ku w ⟨b,1,Y⟩=V (X J n)/\ku w ⟨b,2,Y⟩=V (X J I)/\
  ∀j (d:j<Z a),ku w ⟨g,j*3,Y⟩=V (X J a[j].kind)/\ku w ⟨g,j*3+1,Y⟩=V (X J a[j].place)/\ku w ⟨g,j*3+2,Y⟩=V (O a[j].text):=by
 obtain⟨g,e,m,_,f⟩:=AC h.row (λc _=>Gf c) n h.lt;refine⟨g,e,m,h.zK.cell 0,h.zK.cell 1,h.zK.cell 2,λj d=>?_⟩;have k:=f j d 0 (by omega);have l:=f j d 1 (by omega);have i:=f j d 2 (by omega);simp[A9]at k l i;exact⟨k,l,i⟩
set_option maxRecDepth 512
theorem JY(b:Nat)(j:ks)(c:kJ A0)(a:Nat)(k:Int)(w:kq)(h:Ch w b j c a k)(m:A0)(d:c[a]'h.lt=m):
  Calls prog 102 #[j2 (V ⟨b,0,Y⟩)] w λe l=>e=j3 (X J m.place)/\Ac [] w l:=by
 obtain⟨g,s,rfl,r,q,_,f⟩:=h.cells;obtain⟨n,o,i⟩:=f a h.lt;rw[d]at o;have p:(a:Int)<(Z c:Int):=by have:=h.lt;omega
 clear n i f d h;go_enter func102,ntmps102;go_wp2
 go_quiet (fail)
 go_wp2;go_ret;exact⟨rfl,(kL _ _).drewN _⟩
theorem Gb(b:Nat)(c:ks)(a:kJ A0)(f:Nat)(i p:Int)(w:kq)(h:Ch w b c a f i):
  Calls prog 101 #[j2 (V ⟨b,0,Y⟩),X J p] w λe j=>e=j3 (k0 K)/\Ch j b c a f p/\Ac [b] w j:=by
 have k:=h.zK.cell 2;have m:=h.zK.frozen 2;simp at k;have l:=h;have d:kt (Ch w b c a f i):=h;clear h l;go_enter func101,ntmps101;go_wp2;go_ret;have g:Ac [b] w (w.setCell ⟨b,2,Y⟩ (X J p)):=(kL _ _).setCell (by simp) _;exact⟨rfl,d.out.kept g (d.out.zK.set 2 _) d.out.lt,g⟩
def BE(m:A0)(t:zA):Bool:=m.kind==5&&(m.text.toList==t.toList)
set_option maxRecDepth 100000
theorem R3(b:Nat)(s:ks)(d:kJ A0)(a:Nat)(p:Int)(t:zA)(w:kq)(h:Ch w b s d a p)(m:A0)(k:d[a]'h.lt=m):
  Calls prog 100 #[j2 (V ⟨b,0,Y⟩),O t] w λe c=>e=j3 (k0 (BE m t))/\Ac [] w c:=by
 obtain⟨g,r,rfl,q,o,_,n⟩:=h.cells;obtain⟨l,i,j⟩:=n a h.lt;rw[k]at l i j;have u:(a:Int)<(Z d:Int):=by have:=h.lt;omega
 have y:(0:Int)<=(a:Int):=by omega
 clear n k h;have z:=World.new_ne w _ q;have A:=World.new_ne w _ o;have B:=World.new_ne w _ l;have v:=World.new_ne w _ i;have x:=World.new_ne w _ j;go_enter func100,ntmps100;go_wp2_with fail
 go_region_held3 (λc=>ku c ⟨b,0,Y⟩=V (U (V ⟨g,0,Y⟩) (Z d) r)/\ku c ⟨b,1,Y⟩=V (X J a)/\ku c ⟨g,a*3,Y⟩=V (X J m.kind)/\ku c ⟨g,a*3+1,Y⟩=V (X J m.place)/\ku c ⟨g,a*3+2,Y⟩=V (O m.text)) (go_keep) (fail)
 cases hk:(m.kind==5)with
 |true=>
  have f:kt (BE m t=(m.text.toList==t.toList)):=by show _=_;simp[BE,hk]
  go_wp2;all_goals
   go_ret;refine⟨Bb ?_,?_⟩
   .rw[f.out]
   .repeat (first|refine Ac.drew ?_|refine Ac.setCell ?_ (by simp) _|refine Ac.alloc ?_ _|refine Ac.drewN ?_ _)
    exact kL _ _
 |false=>
  have f:kt (BE m t=K):=by show _=_;simp[BE,hk]
  go_wp2;all_goals
   go_ret;refine⟨Bb ?_,?_⟩
   .rw[f.out]
   .repeat (first|refine Ac.drew ?_|refine Ac.setCell ?_ (by simp) _|refine Ac.alloc ?_ _|refine Ac.drewN ?_ _)
    exact kL _ _
set_option maxRecDepth 512
theorem Gv(b:Nat)(o:ks)(f:kJ A0)(c:Nat)(l:Int)(t:zA)(w:kq)(h:Ch w b o f c l)(m:A0)(s:f[c]'h.lt=m)(p:BE m t=hG->c+1<Z f):
  Calls prog 103 #[j2 (V ⟨b,0,Y⟩),O t] w λe q=>e=j3 (k0 (BE m t))/\Ch q b o f (if BE m t then c+1 else c) l/\Ac [b] w q:=by
 have d:=Ab (R3 b o f c l t w h m s);have j:=Ab h;have B:=h.len;have y:=h.lt;clear s h;have A:∀(x:Bool) (w:kq),(Op.unary .not (k0 x)).run prog w=.ok (k0 (!x)) w:=λ_ _=>rfl
 cases hs:BE m t with
 |true=>
  have u:=Ab (p hs);rw[hs]at d;clear hs p;simp only[if_true];go_enter func103,ntmps103;go_wp2_with fail
  refine d.mono ?_;rintro e k ⟨rfl,a⟩;have g:=j.zJ a;have i:=Ab g;have v:=g.zK.cell 1;have z:=g.zK.frozen 1;simp at v;have n:=a.mono (N:=[b]) (by simp);clear g a d j;go_wp2;go_ret;have r:Ac [b] k (k.setCell ⟨b,1,Y⟩ (X J ((c:Int)+1))):=(kL _ _).setCell (by simp) _;exact⟨rfl,i.kept r (i.zK.set 1 _) u,n.trans r⟩
 |false=>
  rw[hs]at d;clear hs p;simp only[fq,if_false];go_enter func103,ntmps103;go_wp2_with fail
  refine d.mono ?_;rintro e k ⟨rfl,a⟩;have i:=Ab (j.zJ a);have n:=a.mono (N:=[b]) (by simp);clear a d j;go_wp2;go_ret;exact⟨rfl,i,n⟩
theorem MA(b:Nat)(g:ks)(c:kJ A0)(a:Nat)(f:Int)(t:zA)(w:kq)(h:Ch w b g c a f)(m:A0)(j:c[a]'h.lt=m)(r:BE m t=hG->a+1<Z c):
  Calls prog 105 #[j2 (V ⟨b,0,Y⟩),O t] w λe n=>e=j3 (k0 (BE m t))/\Ch n b g c (if BE m t then a+1 else a) (if BE m t then f else m.place)/\Ac [b] w n:=by
 have i:=Ab (Gv b g c a f t w h m j r);have v:kt (∀h:a<Z c,c[a]=m):=λ_=>j
 clear j r h;cases hs:BE m t with
 |true=>
  rw[hs]at i;have z:=Ab hs;clear hs;go_enter func105,ntmps105;go_wp2_with fail
  refine i.mono ?_;rintro e s ⟨rfl,d,l⟩;have k:=Ab d;clear d;go_wp2;go_ret;exact⟨rfl,k,l⟩
 |false=>
  rw[hs]at i;clear hs;go_enter func105,ntmps105;go_wp2_with fail
  refine i.mono ?_;rintro e s ⟨rfl,d,l⟩;simp only[fq,if_false]at d⊢;go_wp2_with fail
  refine(JY b g c a f _ d m (v _)).mono ?_;rintro e A ⟨rfl,p⟩;have o:=d.zJ p;go_wp2_with fail
  refine(Gb b g c a f m.place _ o).mono ?_;rintro e y ⟨rfl,q,u⟩;have k:=Ab q;have x:=(l.trans (p.mono (by simp))).trans u;clear d o q;go_wp2;go_ret;exact⟨rfl,k,x⟩
def Hx(s:zA):Bool:=kH s.toList [97]
theorem LU(s:zA)(w:kq):Calls prog 127 #[O s] w λe a=>e=j3 (k0 (Hx s))/\a=w:=by
 go_enter func127,ntmps127;go_wp2;all_goals go_ret
 all_goals exact⟨rfl,rfl⟩
def Pn:zA:=⟨#[48]⟩
def Ko:Nat->zA->zA
 |0,s=>s
 |k+1,s=>if s.size<3 then Ko k (Pn++s)else s
def AA(s:zA):zA:=if Hx s then Ko 3 s else s
set_option maxRecDepth 100000
theorem Tq(s:zA)(w:kq):Calls prog 150 #[O s] w λe b=>e=j3 (O (AA s))/\b=w:=by
 have f:=LU s w;by_cases d:Hx s=hG
 .rw[d]at f;have c:AA s=Ko 3 s:=by unfold AA;simp[d]
  rw[c];generalize hTe:Ko 3 s=T;have j:=Ab hTe;clear hTe c d;go_enter func150,ntmps150;go_wp2_with (go_at_call 127;refine f.mono ?_;rintro e b ⟨rfl,rfl⟩)
  rename_i b _ _
  go_loopg [0] 3 (λgk o wr=>∃(t:zA),o=O t/\kt (Ko gk t=T)/\3<=t.size+gk/\wr=b)
  case atStart=>exact⟨s,rfl,j,by omega,rfl⟩
  case round=>
   obtain⟨t,rfl,g,m,rfl⟩:=hrel;by_cases i:t.size<3
   ·(have l:(t.size:Int)<3:=by omega);go_wp2;(have n:(Pn++t).size=t.size+1:=by rw[fV];show 1+t.size=_;omega);obtain⟨k,rfl⟩:∃k,gk=k+1:=⟨gk-1,by omega⟩;have a:=Aa g;rw[Ko,fF i]at a
    go_roundg k
    case measure=>omega
    case rel=>exact⟨Pn++t,rfl,a,by omega,rfl⟩
   ·(have l:¬(t.size:Int)<3:=by omega);have c:kt (t=T):=by
     show t=T;have a:=Aa g;cases gk with
     |zero=>exact a
     |succ k=>rw[Ko,fB i]at a;exact a
    go_wp2;go_ret;exact⟨by rw[<-Aa c];rfl,rfl⟩
 .have h:Hx s=K:=by simpa using d
  rw[h]at f;go_enter func150,ntmps150;go_wp2_with (go_at_call 127;refine f.mono ?_;rintro e b ⟨rfl,rfl⟩)
  all_goals go_ret
  all_goals refine⟨?_,rfl⟩
  all_goals simp[AA,h]
def aw:kJ UInt8->Bool
 |[]=>K
 |[c]=>decide (48<=c.toNat/\c.toNat<=57)
 |[c,_]=>decide (49<=c.toNat/\c.toNat<=57)
 |[c,_,_]=>decide (49<=c.toNat/\c.toNat<=57)
 |_=>K
def Dx(s:zA):zA:=if s.size=0 then s else if Hx s then(if aw s.toList then Ko 3 s else⟨#[0]⟩++s)else s
def Hu:kJ UInt8->kJ UInt8
 |[]=>[]
 |c::r=>if c.toNat<97 then(if aw (c::r)then kD (3-Z (c::r)) 48++(c::r)else 0::c::r)else c::r
def D9(a b:zA):(a++b).toList=a.toList++b.toList:=by
 rw[gC,gC,gC,ke,Array.toList_append]
def BY(a:zA):a.size=Z a.toList:=by
 rw[gC];rfl
def toList_inj{a b:zA}(h:a.toList=b.toList):a=b:=by
 rw[gC,gC]at h;exact ByteArray.ext (Array.toList_inj.1 h)
def O9:Pn.toList=[48]:=by rw[gC];rfl
def La:∀(k:Nat) (s:zA),s.size<=3->3<=s.size+k->(Ko k s).toList=kD (3-s.size) 48++s.toList
 |0,s,h,hk=>by
  rw[show 3-s.size=0 by omega];rfl
 |k+1,s,h,hk=>by
  rw[Ko];split
  .rename_i b;(have a:(Pn++s).size=s.size+1:=by rw[BY,D9,O9,BY];simp);rw[La k (Pn++s) (by omega) (by omega),a,D9,O9,show 3-s.size=(3-(s.size+1))+1 by omega,List.replicate_succ'];simp
  .rw[show 3-s.size=0 by omega];rfl
def EL(c:UInt8)(r:kJ UInt8):kH (c::r) [97]=decide (c.toNat<97):=by
 have e:kH r []=K:=by cases r<;>rfl
 simp only[kH,e];by_cases h:c.toNat<97
 .have:c<97:=h;simp[h,this]
 .have:¬c<97:=h;simp[h,this]
def NK(s:zA):(Dx s).toList=Hu s.toList:=by
 unfold Dx Hx;cases hs:s.toList with
 |nil=>
  have:s.size=0:=by rw[BY,hs];rfl
  rw[fF this,hs];rfl
 |cons c r=>
  have a:s.size=Z (c::r):=by rw[BY,hs]
  rw[fB (by rw[a];simp),EL];unfold Hu;by_cases h:c.toNat<97
  .simp only[h,decide_true,if_true];cases ho:aw (c::r)with
   |true=>
    simp only[if_true];have b:Z (c::r)<=3:=by
     match r,ho with
     |[],_=>simp
     |[_],_=>simp
     |[_,_],_=>simp
     |_::_::_::_,ho=>simp[aw]at ho
    rw[La 3 s (by omega) (by omega),hs,a]
   |false=>
    simp only[fq,if_false];rw[D9,hs];rw[show(⟨#[0]⟩:zA).toList=[0] from by rw[gC]]
    rfl
  .simp only[h,j9,fq,if_false];exact hs
def EQ{l:kJ UInt8}(h:aw l=hG):(∃c:UInt8,l=[c]/\48<=c.toNat/\c.toNat<=57)\/(∃c d:UInt8,l=[c,d]/\49<=c.toNat/\c.toNat<=57)\/(∃c d e:UInt8,l=[c,d,e]/\49<=c.toNat/\c.toNat<=57):=by
 match l,h with
 |[],h=>simp[aw]at h
 |[c],h=>exact kn ⟨c,rfl,by simpa[aw] using h⟩
 |[c,d],h=>exact kp (kn ⟨c,d,rfl,by simpa[aw] using h⟩)
 |[c,d,e],h=>exact kp (kp ⟨c,d,e,rfl,by simpa[aw] using h⟩)
 |_::_::_::_::_,h=>simp[aw]at h
def L2(l:kJ UInt8):(l=[]/\Hu l=[])\/(∃c r,l=c::r/\97<=c.toNat/\Hu l=c::r)\/(∃c r,l=c::r/\Hu l=0::c::r)\/
  (∃c,l=[c]/\48<=c.toNat/\c.toNat<=57/\Hu l=[48,48,c])\/(∃c d,l=[c,d]/\49<=c.toNat/\c.toNat<=57/\Hu l=[48,c,d])\/(∃c d e,l=[c,d,e]/\49<=c.toNat/\c.toNat<=57/\Hu l=[c,d,e]):=by
 cases l with
 |nil=>exact kn ⟨rfl,rfl⟩
 |cons c r=>
  rw[show Hu (c::r)=if c.toNat<97 then(if aw (c::r)then kD (3-Z (c::r)) 48++(c::r)else 0::c::r)else c::r from rfl]
  by_cases h:c.toNat<97
  .rw[fF h];cases ho:aw (c::r)with
   |true=>
    rw[fF rfl];refine kp (kp (kp ?_));rcases EQ ho with⟨f,e,a,b⟩|⟨f,d,e,a,b⟩|⟨f,d,g,e,a,b⟩
    .rw[e];exact kn ⟨f,rfl,a,b,rfl⟩
    .rw[e];exact kp (kn ⟨f,d,rfl,a,b,rfl⟩)
    .rw[e];exact kp (kp ⟨f,d,g,rfl,a,b,rfl⟩)
   |false=>
    rw[fB (by simp)];exact kp (kp (kn ⟨c,r,rfl,rfl⟩))
  .rw[fB h];exact kp (kn ⟨c,r,rfl,by omega,rfl⟩)
def VP{a b:kJ UInt8}(h:Hu a=Hu b):a=b:=by
 have z:(48:UInt8).toNat=48:=rfl;have o:(0:UInt8).toNat=0:=rfl;rcases L2 a with⟨rfl,e⟩|⟨c,r,rfl,j,e⟩|⟨c,r,rfl,e⟩|⟨c,rfl,j,m,e⟩|⟨c,d,rfl,j,m,e⟩|⟨c,d,f,rfl,j,m,e⟩<;>
  rcases L2 b with⟨rfl,g⟩|⟨i,n,rfl,k,g⟩|⟨i,n,rfl,g⟩|⟨i,rfl,k,l,g⟩|⟨i,p,rfl,k,l,g⟩|⟨i,p,s,rfl,k,l,g⟩<;>
  rw[e]at h<;>(try rw[g]at h)<;>simp only[iH,reduceCtorEq,List.nil_eq,and_true]at h⊢
 all_goals first
  |exact h
  |exact h.2
  |exact h.2.2
  |(exfalso;have q:=congrArg UInt8.toNat h.1;clear e g;omega)
  |(exfalso;have q:=congrArg UInt8.toNat h.2.1;clear e g;omega)
def Wn(h:Dx s=Dx t):s=t:=
 toList_inj (VP (by rw[<-NK,<-NK,h]))
def Hq(t:zA)(h:0<t.size):∃r,t.toList=t[0]::r/\Z t.toList=t.size:=by
 rw[gC];obtain⟨⟨l⟩⟩:=t;cases l with
 |nil=>exact absurd h (by show¬(0<0);omega)
 |cons c r=>exact⟨r,rfl,rfl⟩
def Wv(h:0<t.size)(c:97<=t[0].toNat):AA t=Dx t:=by
 obtain⟨r,a,d⟩:=Hq t h;have b:Hx t=K:=by
  unfold Hx;rw[a,EL];simp;omega
 unfold AA Dx;rw[b,fB (show¬t.size=0 by omega)];simp
def Yt(h:0<t.size)(i:48<=t[0].toNat)(f:t[0].toNat<=57)(j:t.size<=3)(g:t[0].toNat=48->t.size=1):AA t=Dx t:=by
 obtain⟨r,b,a⟩:=Hq t h;have e:Hx t=hG:=by
  unfold Hx;rw[b,EL];simp;omega
 have d:aw t.toList=hG:=by
  rw[b]at a⊢;generalize t[0]=c at*
  match r,a with
  |[],_=>simp[aw];omega
  |[_],a=>simp at a;simp[aw];omega
  |[_,_],a=>simp at a;simp[aw];omega
  |_::_::_::_,a=>simp at a;omega
 unfold AA Dx;rw[e,d,fB (show¬t.size=0 by omega)];simp
structure AO where
 v:Int
 s:zA
def Ap(t:AO):kJ ks:=[X ky t.v,O t.s]
def AD:AO:=⟨0,kB⟩
theorem NH(b:Nat)(B:ks)(c:kJ A0)(a:Nat)(t:Int)(w:kq)(h:Ch w b B c a t)(m:A0)(P:c[a]'h.lt=m)(A:(m.kind==2)=hG\/(m.kind==2)=K/\(m.kind==3)=hG)(T:a+1<Z c):
  Calls prog 130 #[j2 (V ⟨b,0,Y⟩)] w λe d=>e=j3 (.tuple #[kx (j1 (Ap ⟨0,AA m.text⟩)),k0 hG])/\Ch d b B c (a+1) t/\Ac [b] w d:=by
 have HN:=Ab T;clear T;have HM:kt (∀h:a<Z c,c[a]=m):=λ_=>P
 have W:=h.lt;have HD:(a:Int)<(Z c:Int):=by omega
 have HG:(0:Int)<=(a:Int):=by omega
 have hl:=h.len;have EY:=h.zK.lt;have E:∀k,B.ownBlock=V k->k<w.heap.size:=λk hk=>(h.row.lt k hk).2
 have u:=h.zJ ((kL [] w).alloc (jj #[X ky 0,O ⟨#[]⟩] 164));have q:=kN w [X ky 0,O ⟨#[]⟩] 164;have x:=(kL [b] w).alloc (jj [X ky 0,O ⟨#[]⟩].toArray 164);clear P h;go_enter func130,ntmps130;go_wp2_with fail
 generalize w.alloc (jj [X ky 0,O ⟨#[]⟩].toArray 164)=w1 at u q x⊢;obtain⟨f,z⟩:=kK w.heap.size;rw[z]at q EY E⊢;have N:=Ab z;clear z;obtain⟨g,D,rfl,G,M,b2,L⟩:=u.cells;have Ha:g<f:=E g rfl;clear E;obtain⟨C,y,v⟩:=L a W;rw[(Aa HM) W]at C y v;clear L b2;have n0:=World.new_ne w1 _ G;have n1:=World.new_ne w1 _ M;have n2:=World.new_ne w1 _ C;have n3:=World.new_ne w1 _ y;have n4:=World.new_ne w1 _ v;have HH:=Ab u;have n:=Ab q;clear u q
 go_region_held3 (λd=>ku d ⟨b,0,Y⟩=V (U (V ⟨g,0,Y⟩) (Z c) D)/\ku d ⟨b,1,Y⟩=V (X J a)/\ku d ⟨g,a*3,Y⟩=V (X J m.kind)/\ku d ⟨g,a*3+1,Y⟩=V (X J m.place)/\ku d ⟨g,a*3+2,Y⟩=V (O m.text)) (go_keep) (fail)
 rename_i FA;clear FA n0 n1 n2 n3 n4 G M C y v;have AT:=n.lt;have j:=HH.zJ (((kL [] w1).alloc (jj [X J m.kind,X J m.place,O m.text].toArray 150)).drew);have l:=(kN w1 [X J m.kind,X J m.place,O m.text] 150).drew;have i:=(n.alloc (jj [X J m.kind,X J m.place,O m.text].toArray 150)).drew;have S:=(x.alloc (jj [X J m.kind,X J m.place,O m.text].toArray 150)).drew;have I:(w1.alloc (jj [X J m.kind,X J m.place,O m.text].toArray 150)).drew.heap.size=w1.heap.size+1:=by simp
 clear HH n x;generalize(w1.alloc (jj [X J m.kind,X J m.place,O m.text].toArray 150)).drew=w2 at j l i S I⊢;generalize w1.heap.size=N4 at l AT I⊢;have x0:=l.cell 0;have x1:=l.cell 1;have x2:=l.cell 2;have y0:=i.cell 0;have y1:=i.cell 1;have yf:=i.frozen;have z1:=j.zK.cell 1;have zf:=j.zK.frozen 1;simp at x0 x1 x2 y0 y1 z1;have HI:=l.lt;have HC:=j.zK.lt;have HJ:=i.lt;have za:=λo=>(j.zK.alloc o).cell 1
 have HB:=λo=>(j.zK.alloc o).frozen 1
 have EK:=λo=>(i.alloc o).cell 0
 have EM:=λo=>(i.alloc o).cell 1
 have HP:=λo=>(i.alloc o).frozen
 simp at za EK EM;have q1:¬b=f:=by omega
 have q2:¬f=b:=by omega
 have q3:¬b=w2.heap.size:=by omega
 have q4:¬w2.heap.size=b:=by omega
 have q5:¬f=w2.heap.size:=by omega
 have q6:¬w2.heap.size=f:=by omega
 have R:=Ab j;have n:=Ab i;clear j l i;have BT:kt (∀r H Q:ks,r=X J ((a:Int)+1)->Ch ((((w2.alloc (jj #[X ky 0,O (AA m.text)] 164)).setCell ⟨b,1,Y⟩ r).setCell ⟨f,0,Y⟩ H).setCell ⟨f,1,Y⟩ Q) b (U (V ⟨g,0,Y⟩) (Z c) D) c (a+1) t):=by
  intro r H Q hv;have k1:Ac [b] w2 ((((w2.alloc (jj #[X ky 0,O (AA m.text)] 164)).setCell ⟨b,1,Y⟩ r))):=((kL [b] w2).alloc _).setCell (by simp) _;have p:=R.kept (nx':=a+1) (br':=t) k1 (by rw[hv];exact(R.zK.alloc _).set 1 _) HN;have F:(U (V ⟨g,0,Y⟩) (Z c) D).ownBlock≠V f:=by simp[kF];omega
  exact⟨(p.zK.zB _ (by simp;omega) _).zB _ (by simp;omega) _,Af (Af p.row F _) F _,p.ap,p.lt,p.len⟩
 have AR:kt (∀s w,Calls prog 150 #[O s] w λe d=>e=j3 (O (AA s))/\d=w):=Tq;rcases A with A|⟨A,e3⟩;all_goals
  go_wp2_with (go_at_call 150;refine(AR _ _).mono ?_;rintro e d ⟨rfl,rfl⟩)
  refine fL (An rfl rfl ((((n.alloc _).zB ⟨b,1,Y⟩ (by simp;omega) _).set 0 _).set 1 _) underlying164 rfl (by kernel_rfl)) rfl ⟨rfl,?_,?_⟩
  .exact BT.out _ _ _ rfl
  .refine Ac.setCell (Ac.setCell (Ac.setCell (S.alloc _) (by simp) _) (by right;have:=Aa N;simp;omega) _) (by right;have:=Aa N;simp;omega) _
theorem V3(b:Nat)(z:ks)(d:kJ A0)(a:Nat)(T:Int)(w:kq)(h:Ch w b z d a T)(m:A0)(Q:d[a]'h.lt=m)(e2:(m.kind==2)=K)(e3:(m.kind==3)=K)(e4:(m.kind==4)=K):
  Calls prog 130 #[j2 (V ⟨b,0,Y⟩)] w λe j=>e=j3 (.tuple #[kx (j1 (Ap AD)),k0 K])/\Ch j b z d a m.place/\Ac [b] w j:=by
 have HM:kt (∀h:a<Z d,d[a]=m):=λ_=>Q
 have BA:=h.lt;have HC:(a:Int)<(Z d:Int):=by omega
 have HE:(0:Int)<=(a:Int):=by omega
 have hl:=h.len;have FL:=h.zK.lt;have C:∀k,z.ownBlock=V k->k<w.heap.size:=λk hk=>(h.row.lt k hk).2
 have s:=h.zJ ((kL [] w).alloc (jj #[X ky 0,O ⟨#[]⟩] 164));have q:=kN w [X ky 0,O ⟨#[]⟩] 164;have v:=(kL [b] w).alloc (jj [X ky 0,O ⟨#[]⟩].toArray 164);clear Q h;go_enter func130,ntmps130;go_wp2_with fail
 generalize w.alloc (jj [X ky 0,O ⟨#[]⟩].toArray 164)=w1 at s q v⊢;obtain⟨f,y⟩:=kK w.heap.size;rw[y]at q FL C⊢;have N:=Ab y;clear y;obtain⟨g,AT,rfl,E,M,b2,I⟩:=s.cells;have HA:g<f:=C g rfl;clear C;obtain⟨A,x,t⟩:=I a BA;rw[(Aa HM) BA]at A x t;clear I b2;have n0:=World.new_ne w1 _ E;have n1:=World.new_ne w1 _ M;have n2:=World.new_ne w1 _ A;have n3:=World.new_ne w1 _ x;have n4:=World.new_ne w1 _ t;have HH:=Ab s;have n:=Ab q;clear s q
 go_region_held3 (λj=>ku j ⟨b,0,Y⟩=V (U (V ⟨g,0,Y⟩) (Z d) AT)/\ku j ⟨b,1,Y⟩=V (X J a)/\ku j ⟨g,a*3,Y⟩=V (X J m.kind)/\ku j ⟨g,a*3+1,Y⟩=V (X J m.place)/\ku j ⟨g,a*3+2,Y⟩=V (O m.text)) (go_keep) (fail)
 rename_i FO;clear FO n0 n1 n2 n3 n4 E M A x t;have EM:=n.lt;have i:=HH.zJ (((kL [] w1).alloc (jj [X J m.kind,X J m.place,O m.text].toArray 150)).drew);have l:=(kN w1 [X J m.kind,X J m.place,O m.text] 150).drew;have c:=(n.alloc (jj [X J m.kind,X J m.place,O m.text].toArray 150)).drew;have B:=(v.alloc (jj [X J m.kind,X J m.place,O m.text].toArray 150)).drew;have F:(w1.alloc (jj [X J m.kind,X J m.place,O m.text].toArray 150)).drew.heap.size=w1.heap.size+1:=by simp
 clear HH n v;generalize(w1.alloc (jj [X J m.kind,X J m.place,O m.text].toArray 150)).drew=w2 at i l c B F⊢;generalize w1.heap.size=N4 at l EM F⊢;have L:=l.cell 0;have x1:=l.cell 1;have H:=l.cell 2;have y0:=c.cell 0;have P:=c.cell 1;have yf:=c.frozen;have z1:=i.zK.cell 1;have zf:=i.zK.frozen 1;simp at L x1 H y0 P z1;have HF:=l.lt;have HB:=i.zK.lt;have HG:=c.lt;have za:=λo=>(i.zK.alloc o).cell 1
 have EK:=λo=>(i.zK.alloc o).frozen 1
 have R:=λo=>(c.alloc o).cell 0
 have S:=λo=>(c.alloc o).cell 1
 have FP:=λo=>(c.alloc o).frozen
 simp at za R S;have q1:¬b=f:=by omega
 have q2:¬f=b:=by omega
 have q3:¬b=w2.heap.size:=by omega
 have q4:¬w2.heap.size=b:=by omega
 have q5:¬f=w2.heap.size:=by omega
 have q6:¬w2.heap.size=f:=by omega
 have AR:=Ab i;have n:=Ab c;clear i l c;go_wp2_with fail
 have G:=AR.zJ ((kL [] w2).alloc (jj #[X ky 0,O ⟨#[]⟩] 164));refine(Gb b _ d a T m.place _ G).mono ?_;rintro e w4 ⟨rfl,W,u⟩;have r:=(n.alloc _).kept u (by simp;omega);have FW:=(B.alloc _).trans u;have v0:=r.cell 0;have v1:=r.cell 1;have vf:=r.frozen;simp at v0 v1;have FA:=Ab W;clear G W u L x1 H y0 P yf z1 zf za EK R S FP AR n B;go_wp2;refine fL (An rfl rfl ((r.set 0 _).set 1 _) underlying164 rfl (by kernel_rfl)) rfl ⟨rfl,?_,?_⟩
 .have D:(U (V ⟨g,0,Y⟩) (Z d) AT).ownBlock≠V f:=by simp[kF];omega
  have p:=Aa FA;exact⟨(p.zK.zB _ (by simp;omega) _).zB _ (by simp;omega) _,Af (Af p.row D _) D _,p.ap,p.lt,p.len⟩
 .refine Ac.setCell (Ac.setCell FW (by right;have:=Aa N;simp;omega) _) (by right;have:=Aa N;simp;omega) _
def C6(s:zA)(pos:Nat)(v:Int):Int:=
 if h:pos<s.size/\1<=(Utf8.decode s pos).2 then have _h1:pos<s.size:=h.1;have _h2:=h.2;C6 s (pos+(Utf8.decode s pos).2) (Utf8.decode s pos).1 else v
def KE(v:Int)(h:n<s.size):C6 s n v=C6 s (n+(Utf8.decode s n).2) (Utf8.decode s n).1:=by
 conv=>lhs;rw[C6]
 rw[dif_pos ⟨h,Ip s n h⟩]
def SA(v:Int)(h:¬n<s.size):C6 s n v=v:=by
 rw[C6,dif_neg (by omega)]
theorem Yu(b:Nat)(mv:ks)(d:kJ A0)(c:Nat)(A:Int)(w:kq)(h:Ch w b mv d c A)(m:A0)(F:d[c]'h.lt=m)(e2:(m.kind==2)=K)(e3:(m.kind==3)=K)(e4:(m.kind==4)=hG)(hn:c+1<Z d)(MB:m.text.size<=2000):
  Calls prog 130 #[j2 (V ⟨b,0,Y⟩)] w λe r=>e=j3 (.tuple #[kx (j1 (Ap ⟨C6 m.text 0 0,kB⟩)),k0 hG])/\Ch r b mv d (c+1) A/\Ac [b] w r:=by
 have HN:=Ab hn;clear hn;have HM:kt (∀h:c<Z d,d[c]=m):=λ_=>F
 have HZ:=h.lt;have z:(c:Int)<(Z d:Int):=by omega
 have LE:(0:Int)<=(c:Int):=by omega
 have hl:=h.len;have K2:=h.zK.lt;have FC:∀k,mv.ownBlock=V k->k<w.heap.size:=λk hk=>(h.row.lt k hk).2
 have h1:=h.zJ ((kL [] w).alloc (jj #[X ky 0,O ⟨#[]⟩] 164));have I:=kN w [X ky 0,O ⟨#[]⟩] 164;have B9:=(kL [b] w).alloc (jj [X ky 0,O ⟨#[]⟩].toArray 164);clear F h;go_enter func130,ntmps130;go_wp2_with fail
 generalize w.alloc (jj [X ky 0,O ⟨#[]⟩].toArray 164)=w1 at h1 I B9⊢;obtain⟨f,EX⟩:=kK w.heap.size;rw[EX]at I K2 FC⊢;have H9:=Ab EX;clear EX;obtain⟨g,x,rfl,b0,b1,b2,hc⟩:=h1.cells;have LC:g<f:=FC g rfl;clear FC;obtain⟨c0,c1,c2⟩:=hc c HZ;rw[(Aa HM) HZ]at c0 c1 c2;clear hc b2;have n0:=World.new_ne w1 _ b0;have n1:=World.new_ne w1 _ b1;have n2:=World.new_ne w1 _ c0;have n3:=World.new_ne w1 _ c1;have n4:=World.new_ne w1 _ c2;have HH:=Ab h1;have p:=Ab I;clear h1 I
 go_region_held3 (λr=>ku r ⟨b,0,Y⟩=V (U (V ⟨g,0,Y⟩) (Z d) x)/\ku r ⟨b,1,Y⟩=V (X J c)/\ku r ⟨g,c*3,Y⟩=V (X J m.kind)/\ku r ⟨g,c*3+1,Y⟩=V (X J m.place)/\ku r ⟨g,c*3+2,Y⟩=V (O m.text)) (go_keep) (fail)
 rename_i K4;clear K4 n0 n1 n2 n3 n4 b0 b1 c0 c1 c2;have H5:=p.lt;have q:=HH.zJ (((kL [] w1).alloc (jj [X J m.kind,X J m.place,O m.text].toArray 150)).drew);have t:=(kN w1 [X J m.kind,X J m.place,O m.text] 150).drew;have l:=(p.alloc (jj [X J m.kind,X J m.place,O m.text].toArray 150)).drew;have C:=(B9.alloc (jj [X J m.kind,X J m.place,O m.text].toArray 150)).drew;have y:(w1.alloc (jj [X J m.kind,X J m.place,O m.text].toArray 150)).drew.heap.size=w1.heap.size+1:=by simp
 clear HH p B9;generalize(w1.alloc (jj [X J m.kind,X J m.place,O m.text].toArray 150)).drew=w2 at q t l C y⊢;generalize w1.heap.size=N4 at t H5 y⊢;have L:=t.cell 0;have x1:=t.cell 1;have x2:=t.cell 2;have W:=l.cell 0;have M:=l.cell 1;have yf:=l.frozen;have S:=q.zK.cell 1;have zf:=q.zK.frozen 1;simp at L x1 x2 W M S;have IS:=t.lt;have H6:=q.zK.lt;have Jx:=l.lt;have za:=λo=>(q.zK.alloc o).cell 1
 have H4:=λo=>(q.zK.alloc o).frozen 1
 have HD:=λo=>(l.alloc o).cell 0
 have HF:=λo=>(l.alloc o).cell 1
 have K6:=λo=>(l.alloc o).frozen
 simp at za HD HF;have q1:¬b=f:=by omega
 have q2:¬f=b:=by omega
 have q3:¬b=w2.heap.size:=by omega
 have q4:¬w2.heap.size=b:=by omega
 have q5:¬f=w2.heap.size:=by omega
 have q6:¬w2.heap.size=f:=by omega
 have HQ:=Ab q;have p:=Ab l;clear q t l;go_wp2;have FF:(w2.alloc (jj #[X ky 0,O ⟨#[]⟩] 164)).heap.size=N4+1+1:=by simp[y]
 have EM:Ac [b] w ((w2.alloc (jj #[X ky 0,O ⟨#[]⟩] 164)).iter m.text 0):=(C.alloc _).alloc _;have h3:Ch ((w2.alloc (jj #[X ky 0,O ⟨#[]⟩] 164)).iter m.text 0) b (U (V ⟨g,0,Y⟩) (Z d) x) d c A:=HQ.zJ (((kL [] w2).alloc _).alloc _);have CC:AF ((w2.alloc (jj #[X ky 0,O ⟨#[]⟩] 164)).iter m.text 0) f [X ky 0,O ⟨#[]⟩] 164:=(p.alloc _).alloc _;have BA:AF ((w2.alloc (jj #[X ky 0,O ⟨#[]⟩] 164)).iter m.text 0) (N4+1) [X ky 0,O ⟨#[]⟩] 164:=by rw[<-y];exact(kN w2 [X ky 0,O ⟨#[]⟩] 164).alloc _
 have Q:=World.iter_heap (w2.alloc (jj #[X ky 0,O ⟨#[]⟩] 164)) m.text 0;rw[FF]at Q;have BT:N4+1+1<((w2.alloc (jj #[X ky 0,O ⟨#[]⟩] 164)).iter m.text 0).heap.size:=by simp[World.iter,y]
 have MY:w.heap.size<=f:=by have:=Aa H9;omega
 clear L x1 x2 W M yf S zf za H4 HD HF K6 HQ p C FF q1 q2 q3 q4 q5 q6 IS H6 Jx y;generalize(w2.alloc (jj #[X ky 0,O ⟨#[]⟩] 164)).iter m.text 0=w3 at EM h3 CC BA Q BT⊢
 go_loopg [] m.text.size (λgk wr=>∃(pos:Nat) (v:Int),gk=m.text.size-pos/\pos<=m.text.size+4/\kt (C6 m.text pos v=C6 m.text 0 0)/\kt (wr.heap[N4+1+1]?=V (.stringIter m.text pos))/\kt (Ch wr b (U (V ⟨g,0,Y⟩) (Z d) x) d c A)/\kt (AF wr f [X ky 0,O ⟨#[]⟩] 164)/\kt (AF wr (N4+1) [X ky v,O ⟨#[]⟩] 164)/\Ac [b] w wr/\N4+1+1<wr.heap.size)
 case atStart=>exact⟨0,0,by simp,by omega,rfl,Q,h3,CC,BA,EM,BT⟩
 case round=>
  clear Q h3 CC BA EM BT;obtain⟨pos,v,HU,LD,T,R,n,B,HT,hK,hz⟩:=hrel;have HG:=Ab HU;clear HU;by_cases z:pos<m.text.size
  .obtain⟨E,a,D⟩:∃E a,Utf8.decode m.text pos=(E,a):=⟨_,_,rfl⟩;(have Mo:a<=4:=by have:=Uo m.text pos;rw[D]at this;exact this);(have LL:1<=a:=by have:=Ip m.text pos z;rw[D]at this;exact this);have HC:∀u,(Instr.next (j2 (V ⟨N4+1+1,0,Y⟩)) hG u).run prog wr=.ok (.tuple #[k0 hG,X J pos,X ky E]) (Db wr (N4+1+1) m.text (pos+a)):=by
    intro u;have h:=UY (P:=prog) R u z;rw[D]at h;exact h
   have HE:=Ab (PI (w:=wr) (N:=N4+1+1) (s:=m.text) (pos:=pos+a) hz);have CW:=B.kept (DD wr (N4+1+1) m.text (pos+a)) (by simp;omega);have G:=HT.kept (DD wr (N4+1+1) m.text (pos+a));(have H:(U (V ⟨g,0,Y⟩) (Z d) x).ownBlock≠V (N4+1+1):=by simp[kF];omega);have EK:Ch (Db wr (N4+1+1) m.text (pos+a)) b (U (V ⟨g,0,Y⟩) (Z d) x) d c A:=
    ⟨n.zK.kept (DD wr (N4+1+1) m.text (pos+a)) (by simp;omega),Am n.row (DD wr (N4+1+1) m.text (pos+a)) (λi hi F=>by simp at F;subst F;exact H hi),n.ap,n.lt,n.len⟩
   have C:Ac [b] w (Db wr (N4+1+1) m.text (pos+a)):=hK.trans' (DD wr (N4+1+1) m.text (pos+a)) (by intro i hi;right;simp at hi;omega);(have HK:N4+1+1<(Db wr (N4+1+1) m.text (pos+a)).heap.size:=by rw[IT];exact hz);have K1:kt (C6 m.text (pos+a) E=C6 m.text 0 0):=by
    have h:=T.out;rw[KE v z,D]at h;exact h
   clear D R n B HT T hK hz;generalize Db wr (N4+1+1) m.text (pos+a)=w4 at HC HE CW G EK C HK;have v0:=G.cell 0;have vf:=G.frozen 0;simp at v0;have p:=Ab CW;have H8:=Ab G;have IJ:=Ab EK;clear CW G EK;go_wp2_with fail
   go_roundg (m.text.size-(pos+a))
   case measure=>have:=Aa HG;omega
   case rel=>
    refine⟨pos+a,E,rfl,by omega,K1,?_,?_,p.zB _ (by simp;omega) _,H8.set 0 _,C.setCell (by right;simp;omega) _,by simpa using HK⟩
    .show _=_;rw[jS _ _ _ _ (by simp)];exact HE
    .have j:=Aa IJ;(have K9:(U (V ⟨g,0,Y⟩) (Z d) x).ownBlock≠V (N4+1):=by simp[kF];omega);exact⟨j.zK.zB _ (by simp;omega) _,Af j.row K9 _,j.ap,j.lt,j.len⟩
  ·(have HC:∀u,(Instr.next (j2 (V ⟨N4+1+1,0,Y⟩)) hG u).run prog wr=.ok (.tuple #[k0 K]) wr:=λu=>UH (P:=prog) R u z);(have HV:kt (v=C6 m.text 0 0):=by have h:=T.out;rwa [SA v z]at h);have S:=n.zK.cell 1;have zf:=n.zK.frozen 1;have W:=B.cell 0;have M:=B.cell 1;have yf:=B.frozen;have L:=HT.cell 0;have x1:=HT.cell 1;simp at S W M L x1;(have q1:¬b=f:=by omega);(have q2:¬f=b:=by omega);(have q3:¬b=N4+1:=by omega);(have q4:¬N4+1=b:=by omega);(have q5:¬f=N4+1:=by omega);(have q6:¬N4+1=f:=by omega);clear T R;go_wp2;have hR:=Aa n;have k1:Ac [b] wr (wr.setCell ⟨b,1,Y⟩ (X J ((c:Int)+1))):=(kL [b] wr).setCell (by simp) _;have j:=hR.kept (nx':=c+1) (br':=A) k1 (hR.zK.set 1 _) HN;(have H:(U (V ⟨g,0,Y⟩) (Z d) x).ownBlock≠V f:=by simp[kF];omega);refine fL (An rfl rfl (((B.zB ⟨b,1,Y⟩ (by simp;omega) _).set 0 _).set 1 _) underlying164 rfl (by kernel_rfl)) rfl ⟨?_,?_,?_⟩
   .rw[<-HV.out];rfl
   .exact⟨(j.zK.zB _ (by simp;omega) _).zB _ (by simp;omega) _,Af (Af j.row H _) H _,j.ap,j.lt,j.len⟩
   .exact((hK.trans k1).setCell (by right;simp;omega) _).setCell (by right;simp;omega) _
structure UV(ms:kJ A0):Prop where
 ends:∀i (h:i<Z ms),(ms[i].kind==1)=K->i+1<Z ms
 text:∀i (h:i<Z ms),ms[i].text.size<=2000
def Fs(m:A0)(nx:Nat):Except Int (AO×Nat):=
 if m.kind==2||m.kind==3 then .ok (⟨0,AA m.text⟩,nx+1)
 else if m.kind==4 then .ok (⟨C6 m.text 0 0,kB⟩,nx+1)
 else .error m.place
def cP(b:Nat)(mv:ks)(ms:kJ A0)(br:Int)(w:kq)(e:Ending)(w':kq):Except Int (AO×Nat)->Prop
 | .ok (t,nx)=>e=j3 (.tuple #[kx (j1 (Ap t)),k0 hG])/\Ch w' b mv ms nx br/\Ac [b] w w'
 | .error p=>∃nx,e=j3 (.tuple #[kx (j1 (Ap AD)),k0 K])/\Ch w' b mv ms nx p/\Ac [b] w w'
def Ir(b:Nat)(g:ks)(c:kJ A0)(a:Nat)(i:Int)(w:kq)(h:Ch w b g c a i)(o:UV c)(m:A0)(f:c[a]'h.lt=m):
  Calls prog 130 #[j2 (V ⟨b,0,Y⟩)] w λe j=>cP b g c i w e j (Fs m a):=by
 have n:(m.kind==1)=K->a+1<Z c:=by rw[<-f];exact o.ends a h.lt
 have r:m.text.size<=2000:=by rw[<-f];exact o.text a h.lt
 have l:∀k:Int,(m.kind==k)=hG->k≠1->(m.kind==1)=K:=λk p q=>by
  have:m.kind=k:=by simpa using p
  rw[this];simpa using q
 cases e2:(m.kind==2)with
 |true=>
  refine(NH b g c a i w h m f (kn e2) (n (l 2 e2 (by decide)))).mono ?_;intro e j d;simp only[Fs,e2,jp,if_true];exact d
 |false=>
  cases e3:(m.kind==3)with
  |true=>
   refine(NH b g c a i w h m f (kp ⟨e2,e3⟩) (n (l 3 e3 (by decide)))).mono ?_;intro e j d;simp only[Fs,e3,jQ,if_true];exact d
  |false=>
   cases e4:(m.kind==4)with
   |true=>
    refine(Yu b g c a i w h m f e2 e3 e4 (n (l 4 e4 (by decide))) r).mono ?_;intro e j d;simp only[Fs,e2,e3,e4,kl,fq,if_false,if_true];exact d
   |false=>
    refine(V3 b g c a i w h m f e2 e3 e4).mono ?_;intro e j d;simp only[Fs,e2,e3,e4,kl,fq,if_false];exact⟨a,d⟩
def RH:zA:=⟨#[40]⟩
theorem YA:RH.toList=[40]:=by kernel_rfl
def Er(ms:kJ A0)(nx:Nat):Bool:=
 match ms[nx]?,ms[nx+1]? with
 |some m,V m'=>m.kind==2&&BE m' RH
 |_,_=>K
theorem Ss(b:Nat)(L:ks)(d:kJ A0)(a:Nat)(H:Int)(w:kq)(h:Ch w b L d a H)(C:UV d):
  Calls prog 151 #[j2 (V ⟨b,0,Y⟩)] w λe f=>e=j3 (k0 (Er d a))/\Ac [] w f:=by
 obtain⟨g,A,rfl,z,v,_,r⟩:=h.cells;have q:=h.lt;have hl:=h.len;obtain⟨D,_,_⟩:=r a q;obtain⟨m,i⟩:=kK (d[a]);have l:=C.ends a q;rw[i]at D l;have P:(a:Int)<(Z d:Int):=by omega
 have W:(0:Int)<=(a:Int):=by omega
 clear h C;cases hk:(m.kind==2)with
 |false=>
  have n:kt (Er d a=K):=by
   show _=_;unfold Er;rw[fI q,i];split
   .rename_i x _;simp only[fu]at x;subst x;simp[hk]
   .rfl
  have E:(m.kind !=2)=hG:=by simp[bne,hk]
  clear r l i;go_enter func151,ntmps151;go_wp2
  go_quiet (fail)
  go_wp2;go_ret;exact⟨by rw[n.out];rfl,(kL _ _).drewN _⟩
 |true=>
  have u:=l (by have:m.kind=2:=(by simpa using hk);rw[this];decide);obtain⟨c,s⟩:=kK (d[a+1]);obtain⟨p,o,j⟩:=r (a+1) u;rw[s]at p o j;have n:kt (Er d a=BE c RH):=by
   show _=_;unfold Er;rw[fI q,i,fI u,s];simp[hk]
  have E:(m.kind !=2)=K:=by simp[bne,hk]
  obtain⟨k,y⟩:=kK (a+1);have hw:IntKind.i64.wrap ((a:Int)+1)=(k:Int):=by
   rw[jn];omega
  have T:(0:Int)<=(k:Int):=by omega
  have Q:(k:Int)<(Z d:Int):=by omega
  rw[y]at p o j;clear r l i s u y;go_enter func151,ntmps151;go_wp2
  go_quiet (fail)
  have B:Ac [] w (w.drewN nq):=(kL _ _).drewN _;have M:ku (w.drewN nq) ⟨b,0,Y⟩=V (U (V ⟨g,0,Y⟩) (Z d) A):=z;have N:ku (w.drewN nq) ⟨b,1,Y⟩=V (X J a):=v;have I:ku (w.drewN nq) ⟨g,k*3,Y⟩=V (X J c.kind):=p;have F:ku (w.drewN nq) ⟨g,k*3+1,Y⟩=V (X J c.place):=o;have G:ku (w.drewN nq) ⟨g,k*3+2,Y⟩=V (O c.text):=j;clear z v D p o j;generalize w.drewN nq=w1 at*;have n0:=World.new_ne w1 _ M;have n1:=World.new_ne w1 _ N;have n2:=World.new_ne w1 _ I;have R:=World.new_ne w1 _ F;have S:=World.new_ne w1 _ G;go_wp2_with fail
  go_region_held3 (λf=>ku f ⟨b,0,Y⟩=V (U (V ⟨g,0,Y⟩) (Z d) A)/\ku f ⟨b,1,Y⟩=V (X J a)/\ku f ⟨g,k*3,Y⟩=V (X J c.kind)/\ku f ⟨g,k*3+1,Y⟩=V (X J c.place)/\ku f ⟨g,k*3+2,Y⟩=V (O c.text)) (go_keep) (fail)
  cases hs:(c.kind==5)with
  |true=>
   (have t:kt (BE c RH=(c.text.toList==RH.toList)):=by show _=_;simp[BE,hs]);go_wp2;all_goals
    go_ret;refine⟨Bb ?_,?_⟩
    .rw[n.out,t.out,YA]
    .repeat (first|refine Ac.drew ?_|refine Ac.setCell ?_ (by simp) _|refine Ac.alloc ?_ _|refine Ac.drewN ?_ _)
     exact B
  |false=>
   (have t:kt (BE c RH=K):=by show _=_;simp[BE,hs]);go_wp2;all_goals
    go_ret;refine⟨Bb ?_,?_⟩
    .rw[n.out,t.out]
    .repeat (first|refine Ac.drew ?_|refine Ac.setCell ?_ (by simp) _|refine Ac.alloc ?_ _|refine Ac.drewN ?_ _)
     exact B
structure GL where
 place:Int
 name:zA
 tv:ks
def AL(a:GL):kJ ks:=[X J a.place,O a.name,a.tv]
def AW:GL:=⟨0,kB,U Y 0 0⟩
structure Zq where
 place:Int
 sort:Int
 atom:GL
 left:AO
 right:AO
def Ay(l:Zq):kJ ks:=[X J l.place,X J l.sort,X J l.atom.place,O l.atom.name,l.atom.tv,X ky l.left.v,O l.left.s,X ky l.right.v,O l.right.s]
def B2:Zq:=⟨0,0,AW,AD,AD⟩
def Au(ms:kJ A0)(i:Nat):A0:=ms.getD i ⟨1,0,kB⟩
def Be{a:kJ A0}(h:i<Z a):a[i]=Au a i:=by simp[Au,h]
def UV.seen{a:kJ A0}(c:UV a)(h:i<Z a)(t:zA)(b:BE (Au a i) t=hG):i+1<Z a:=by
 refine c.ends i h ?_;rw[Be h];unfold BE at b;rw[fU]at b;have:(Au a i).kind=5:=by simpa using b.1
 rw[this];decide
def V1(a:kJ ks)(k:Z a=9)(g f d c h i e j b:ks):(((((((((a.set 0 g).set 1 f).set 2 d).set 3 c).set 4 h).set 5 i).set 6 e).set 7 j).set 8 b)=[g,f,d,c,h,i,e,j,b]:=by
 match a,k with
 |[a0,a1,a2,a3,a4,a5,a6,a7,a8],_=>rfl
def AF.zG(h:AF w n y T)(l:Z y=9)(f e c b g i d j a:ks):AF (((((((((w.setCell ⟨n,0,Y⟩ f).setCell ⟨n,1,Y⟩ e).setCell ⟨n,2,Y⟩ c).setCell ⟨n,3,Y⟩ b).setCell ⟨n,4,Y⟩ g).setCell ⟨n,5,Y⟩ i).setCell ⟨n,6,Y⟩ d).setCell ⟨n,7,Y⟩ j).setCell ⟨n,8,Y⟩ a) n [f,e,c,b,g,i,d,j,a] T:=by
 have k:=(((((((((h.set 0 f).set 1 e).set 2 c).set 3 b).set 4 g).set 5 i).set 6 d).set 7 j).set 8 a);rw[V1 y l]at k;exact k
def eZ:zA:=⟨#[61]⟩
def eX:zA:=⟨#[35]⟩
def eV:zA:=⟨#[60]⟩
def My(m:A0):Option Int:=if BE m eZ then V 2 else if BE m eX then V 3 else if BE m eV then V 4 else Y
def Hf(ms:kJ A0)(nx:Nat):Except Int (Zq×Nat):=
 match Fs (Au ms nx) nx with
 | .error p=> .error p
 | .ok (l,n1)=>
  match My (Au ms n1)with
  |none=> .error (Au ms n1).place
  |some s=>
   match Fs (Au ms (n1+1)) (n1+1)with
   | .error p=> .error p
   | .ok (r,n2)=> .ok (⟨(Au ms nx).place,s,AW,l,r⟩,n2)
def R1{a:kJ A0}{l:Zq}(h:Hf a m=.ok (l,n)):l.atom=AW:=by
 unfold Hf at h;split at h
 .cases h
 .split at h
  .cases h
  .split at h
   .cases h
   .simp only[gO,gA]at h;rw[<-h.1]
def Ch.other{a:kJ A0}(h:Ch w b z a n I){p:Addr}(c:p.block≠b)(d:z.ownBlock≠V p.block)(u:ks):Ch (w.setCell p u) b z a n I:=
 ⟨h.zK.zB _ c _,Af h.row d _,h.ap,h.lt,h.len⟩
def Ch.zG{d:kJ A0}(h:Ch w b z d n I)(a:m≠b)(c:z.ownBlock≠V m)(k j i f l o g q e:ks):Ch (((((((((w.setCell ⟨m,0,Y⟩ k).setCell ⟨m,1,Y⟩ j).setCell ⟨m,2,Y⟩ i).setCell ⟨m,3,Y⟩ f).setCell ⟨m,4,Y⟩ l).setCell ⟨m,5,Y⟩ o).setCell ⟨m,6,Y⟩ g).setCell ⟨m,7,Y⟩ q).setCell ⟨m,8,Y⟩ e) b z d n I:=
 (((((((((h.other (p:=⟨m,0,Y⟩) a c k).other (p:=⟨m,1,Y⟩) a c j).other (p:=⟨m,2,Y⟩) a c i).other (p:=⟨m,3,Y⟩) a c f).other (p:=⟨m,4,Y⟩) a c l).other (p:=⟨m,5,Y⟩) a c o).other (p:=⟨m,6,Y⟩) a c g).other (p:=⟨m,7,Y⟩) a c q).other (p:=⟨m,8,Y⟩) a c e)
def Ac.zG(h:Ac M v w)(b:n∈M\/v.heap.size<=n)(i f d c j g e l k:ks):Ac M v (((((((((w.setCell ⟨n,0,Y⟩ i).setCell ⟨n,1,Y⟩ f).setCell ⟨n,2,Y⟩ d).setCell ⟨n,3,Y⟩ c).setCell ⟨n,4,Y⟩ j).setCell ⟨n,5,Y⟩ g).setCell ⟨n,6,Y⟩ e).setCell ⟨n,7,Y⟩ l).setCell ⟨n,8,Y⟩ k):=
 (((((((((h.setCell (p:=⟨n,0,Y⟩) b i).setCell (p:=⟨n,1,Y⟩) b f).setCell (p:=⟨n,2,Y⟩) b d).setCell (p:=⟨n,3,Y⟩) b c).setCell (p:=⟨n,4,Y⟩) b j).setCell (p:=⟨n,5,Y⟩) b g).setCell (p:=⟨n,6,Y⟩) b e).setCell (p:=⟨n,7,Y⟩) b l).setCell (p:=⟨n,8,Y⟩) b k)
def dU(b:Nat)(mv:ks)(ms:kJ A0)(br:Int)(w:kq)(e:Ending)(w':kq):Except Int (Zq×Nat)->Prop
 | .ok (l,nx)=>e=j3 (.tuple #[kx (j1 (Ay l)),k0 hG])/\Ch w' b mv ms nx br/\Ac [b] w w'
 | .error p=>∃nx l,l.atom=AW/\e=j3 (.tuple #[kx (j1 (Ay l)),k0 K])/\Ch w' b mv ms nx p/\Ac [b] w w'
theorem cI(b:Nat)(o:ks)(d:kJ A0)(x:Nat)(E:Int)(w:kq)(h:Ch w b o d x E)(ok:UV d):
  Calls prog 152 #[j2 (V ⟨b,0,Y⟩)] w λe w'=>dU b o d E w e w' (Hf d x):=by
 have HO:=Ab ok;have NB:=h.zK.lt;have LE:∀k,o.ownBlock=V k->k<w.heap.size:=λk hk=>(h.row.lt k hk).2
 have h1:=Ab (h.zJ ((kL [] w).alloc (jj (j1 (Ay B2)) 166)));have hN:=Ab (kN w (Ay B2) 166);have K3:=Ab ((kL [b] w).alloc (jj (j1 (Ay B2)) 166));have K9:(w.alloc (jj (j1 (Ay B2)) 166)).heap.size=w.heap.size+1:=by simp
 clear h ok;go_enter func152,ntmps152;go_wp2_with fail
 change Calls _ _ _ (w.alloc (jj (j1 (Ay B2)) 166)) _;generalize w.alloc (jj (j1 (Ay B2)) 166)=w1 at h1 hN K3 K9⊢;obtain⟨N,LC⟩:=kK w.heap.size;rw[LC]at hN NB K9 LE⊢;have i:kt (∀k,N<=k->o.ownBlock≠V k):=λk hk e=>by have:=LE k e;omega
 clear LE;have HN:=Ab LC;clear LC;refine(JY b o d x E _ h1 (Au d x) (Be h1.lt)).mono ?_;rintro e w2 ⟨rfl,k2⟩;have h2:=Ab (h1.zJ k2);have L0:=Ab (hN.kept k2);have M6:=Ab (K3.trans (k2.mono (by simp)));have NA:N+1<=w2.heap.size:=by have:=k2.size;omega
 clear h1 hN K3 K9 k2;obtain⟨p,hp⟩:=kK (Au d x).place;have HP:=Ab hp;rw[hp];clear hp;go_wp2_with fail
 change Calls _ _ _ (w2.alloc (jj (j1 (Ay ⟨p,0,AW,AD,AD⟩)) 166)) _;have h3:=Ab (h2.zJ ((kL [] w2).alloc (jj (j1 (Ay ⟨p,0,AW,AD,AD⟩)) 166)));have HJ:=Ab (L0.alloc (jj (j1 (Ay ⟨p,0,AW,AD,AD⟩)) 166));have HC:=Ab (kN w2 (Ay ⟨p,0,AW,AD,AD⟩) 166);have HQ:=Ab (M6.alloc (jj (j1 (Ay ⟨p,0,AW,AD,AD⟩)) 166));clear h2 L0 M6;generalize w2.alloc (jj (j1 (Ay ⟨p,0,AW,AD,AD⟩)) 166)=w3 at h3 HJ HC HQ⊢;obtain⟨L,Nx⟩:=kK w2.heap.size;rw[Nx]at HC NA⊢;clear Nx;refine(Ir b o d x E _ h3 HO (Au d x) (Be h3.lt)).mono ?_;intro e w4 n;cases ht:Fs (Au d x) x with
 |error q=>
  rw[ht]at n;obtain⟨n9,rfl,h4,k4⟩:=n;have C:kt (Hf d x=.error q):=by show _=_;unfold Hf;rw[ht]
  have H:=HJ.kept k4 (by simp;omega);have FA:=HC.kept k4 (by simp;omega);have HZ:=Ab (HQ.trans k4);clear h3 HJ HC HQ ht k4;have B:=FA.cell 5;have D:=FA.cell 6;have lf:=FA.frozen;have nf:=H.frozen;have W:=H.cell 0;have M:=H.cell 1;have F:=H.cell 2;have Q:=H.cell 3;have T:=H.cell 4;have c5:=H.cell 5;have R:=H.cell 6;have c7:=H.cell 7;have I:=H.cell 8;simp[Ay,B2,AW,AD]at B D W M F Q T c5 R c7 I;have q1:¬L=N:=by omega
  have q2:¬N=L:=by omega
  have HB:=Ab H;have t:=Ab h4;clear H FA h4;simp only[Ap,AD];go_wp2;rw[C.out];have S:=((HB.zB ⟨L,5,Y⟩ (by simp;omega) (X ky 0)).zB ⟨L,6,Y⟩ (by simp;omega) (O kB)).zG rfl (X J 0) (X J 0) (X J 0) (O ⟨#[]⟩) (U Y 0 0) (X ky 0) (O ⟨#[]⟩) (X ky 0) (O ⟨#[]⟩);refine fL (An (P:=prog) (fn:=Tryz.f152) (p:=2) (u:=3) rfl rfl S underlying166 rfl (by kernel_rfl)) rfl ?_;refine⟨n9,B2,rfl,rfl,?_,?_⟩
  .exact((t.other (p:=⟨L,5,Y⟩) (by simp;omega) (i L (by omega)) _).other (p:=⟨L,6,Y⟩) (by simp;omega) (i L (by omega)) _).zG (by omega) (i N (by omega)) _ _ _ _ _ _ _ _ _
  .have G:=Aa HN;exact((HZ.setCell (p:=⟨L,5,Y⟩) (by right;simp;omega) _).setCell (p:=⟨L,6,Y⟩) (by right;simp;omega) _).zG (by right;omega) _ _ _ _ _ _ _ _ _
 |ok r=>
  obtain⟨l,f⟩:=r;rw[ht]at n;obtain⟨rfl,h4,k4⟩:=n;have H:=HJ.kept k4 (by simp;omega);have FA:=HC.kept k4 (by simp;omega);have HZ:=Ab (HQ.trans k4);have HT:=Ab ht;clear h3 HJ HC HQ k4 ht;have B:=FA.cell 5;have D:=FA.cell 6;have lf:=FA.frozen;simp[Ay,B2,AW,AD]at B D;have Mo:=Ab H;have LS:=Ab FA;have t:=Ab h4;clear H FA h4;simp only[Ap];go_wp2_with fail
  have B9:=Aa i;have G:=Aa HN;have h5:Ch ((w4.setCell ⟨L,5,Y⟩ (X ky l.v)).setCell ⟨L,6,Y⟩ (O l.s)) b o d f E:=by
   exact(t.other (p:=⟨L,5,Y⟩) (by simp;omega) (B9 L (by omega)) _).other (p:=⟨L,6,Y⟩) (by simp;omega) (B9 L (by omega)) _
  have K2:=Ab ((Mo.zB ⟨L,5,Y⟩ (by simp;omega) (X ky l.v)).zB ⟨L,6,Y⟩ (by simp;omega) (O l.s));have K6:kt (AF ((w4.setCell ⟨L,5,Y⟩ (X ky l.v)).setCell ⟨L,6,Y⟩ (O l.s)) L (Ay ⟨p,0,AW,l,AD⟩) 166):=(LS.set 5 _).set 6 _;have K4:=Ab ((HZ.setCell (p:=⟨L,5,Y⟩) (by right;simp;omega) (X ky l.v)).setCell (p:=⟨L,6,Y⟩) (by right;simp;omega) (O l.s));clear B D lf Mo LS t HZ B9 G;generalize(w4.setCell ⟨L,5,Y⟩ (X ky l.v)).setCell ⟨L,6,Y⟩ (O l.s)=w5 at h5 K2 K6 K4⊢;have H5:=Ab h5;clear h5;refine(Gv b o d f E eZ _ H5 (Au d f) (Be H5.lt) (HO.seen H5.lt eZ)).mono ?_;rintro e w6 ⟨rfl,h6,k6⟩;have H4:=Ab (K2.kept k6 (by simp;omega));have HA:=Ab (K6.kept k6 (by simp;omega));have H3:=Ab (K4.trans k6);clear H5 K2 K6 K4 k6;cases s1:BE (Au d f) eZ with
  |true=>
   rw[s1]at h6;simp only[if_true]at h6;(have HS:kt (My (Au d f)=V 2):=by show _=_;simp[My,s1]);clear s1;have m:=HA.cell 1;have lf:=HA.frozen;simp[Ay]at m;have H6:=Ab h6;clear h6;(go_wp2_with fail);have B9:=Aa i;have G:=Aa HN;have hR:Ch (w6.setCell ⟨L,1,Y⟩ (X J 2)) b o d (f+1) E:=H6.other (p:=⟨L,1,Y⟩) (by simp;omega) (B9 L (by omega)) _;have y:kt (AF (w6.setCell ⟨L,1,Y⟩ (X J 2)) N (Ay B2) 166):=H4.zB ⟨L,1,Y⟩ (by simp;omega) _;have z:kt (AF (w6.setCell ⟨L,1,Y⟩ (X J 2)) L (Ay ⟨p,2,AW,l,AD⟩) 166):=HA.set 1 _;have A:=Ab (H3.setCell (p:=⟨L,1,Y⟩) (by right;simp;omega) (X J 2));clear m lf H4 HA H3 B9 G H6;generalize w6.setCell ⟨L,1,Y⟩ (X J 2)=w9 at hR y z A⊢;refine(Ir b o d (f+1) E _ hR HO (Au d (f+1)) (Be hR.lt)).mono ?_;intro e LB n;clear hR;cases ht2:Fs (Au d (f+1)) (f+1)with
   |error q=>
    rw[ht2]at n;obtain⟨n9,rfl,j,g⟩:=n;(have C:kt (Hf d x=.error q):=by show _=_;unfold Hf;simp only[HT.out,HS.out,ht2]);have a:=y.kept g (by simp;omega);have c:=z.kept g (by simp;omega);have BA:=Ab (A.trans g);clear y z A g ht2 HT HS;have l0:=c.cell 0;have m:=c.cell 1;have l2:=c.cell 2;have l3:=c.cell 3;have l4:=c.cell 4;have B:=c.cell 5;have D:=c.cell 6;have l7:=c.cell 7;have l8:=c.cell 8;have lf:=c.frozen;have nf:=a.frozen;have W:=a.cell 0;have M:=a.cell 1;have F:=a.cell 2;have Q:=a.cell 3;have T:=a.cell 4;have c5:=a.cell 5;have R:=a.cell 6;have c7:=a.cell 7;have I:=a.cell 8;simp[Ay,B2,AW,AD]at l0 W m M l2 F l3 Q l4 T B c5 D R l7 c7 l8 I;(have q1:¬L=N:=by omega);(have q2:¬N=L:=by omega);have HB:=Ab a;have t:=Ab j;clear a c j;simp only[Ap,AD];go_wp2;rw[C.out];have S:=((HB.zB ⟨L,7,Y⟩ (by simp;omega) (X ky 0)).zB ⟨L,8,Y⟩ (by simp;omega) (O kB)).zG rfl (X J p) (X J 2) (X J 0) (O kB) (U Y 0 0) (X ky l.v) (O l.s) (X ky 0) (O kB);refine fL (An (P:=prog) (fn:=Tryz.f152) (p:=2) (u:=3) rfl rfl S underlying166 rfl (by kernel_rfl)) rfl ?_;refine⟨n9,⟨p,2,AW,l,AD⟩,rfl,rfl,?_,?_⟩
    .exact((t.other (p:=⟨L,7,Y⟩) (by simp;omega) (i L (by omega)) _).other (p:=⟨L,8,Y⟩) (by simp;omega) (i L (by omega)) _).zG (by omega) (i N (by omega)) _ _ _ _ _ _ _ _ _
    .have G:=Aa HN;exact((BA.setCell (p:=⟨L,7,Y⟩) (by right;simp;omega) _).setCell (p:=⟨L,8,Y⟩) (by right;simp;omega) _).zG (by right;omega) _ _ _ _ _ _ _ _ _
   |ok r=>
    obtain⟨r,n2⟩:=r;rw[ht2]at n;obtain⟨rfl,j,g⟩:=n;(have C:kt (Hf d x=.ok (⟨p,2,AW,l,r⟩,n2)):=by show _=_;unfold Hf;simp only[HT.out,HS.out,ht2,HP.out]);have a:=y.kept g (by simp;omega);have c:=z.kept g (by simp;omega);have BA:=Ab (A.trans g);clear y z A g ht2 HT HS;have l0:=c.cell 0;have m:=c.cell 1;have l2:=c.cell 2;have l3:=c.cell 3;have l4:=c.cell 4;have B:=c.cell 5;have D:=c.cell 6;have l7:=c.cell 7;have l8:=c.cell 8;have lf:=c.frozen;have nf:=a.frozen;have W:=a.cell 0;have M:=a.cell 1;have F:=a.cell 2;have Q:=a.cell 3;have T:=a.cell 4;have c5:=a.cell 5;have R:=a.cell 6;have c7:=a.cell 7;have I:=a.cell 8;simp[Ay,B2,AW,AD]at l0 W m M l2 F l3 Q l4 T B c5 D R l7 c7 l8 I;(have q1:¬L=N:=by omega);(have q2:¬N=L:=by omega);have HB:=Ab a;have t:=Ab j;clear a c j;simp only[Ap];go_wp2;rw[C.out];have S:=((HB.zB ⟨L,7,Y⟩ (by simp;omega) (X ky r.v)).zB ⟨L,8,Y⟩ (by simp;omega) (O r.s)).zG rfl (X J p) (X J 2) (X J 0) (O kB) (U Y 0 0) (X ky l.v) (O l.s) (X ky r.v) (O r.s);refine fL (An (P:=prog) (fn:=Tryz.f152) (p:=2) (u:=3) rfl rfl S underlying166 rfl (by kernel_rfl)) rfl ?_;refine⟨rfl,?_,?_⟩
    .exact((t.other (p:=⟨L,7,Y⟩) (by simp;omega) (i L (by omega)) _).other (p:=⟨L,8,Y⟩) (by simp;omega) (i L (by omega)) _).zG (by omega) (i N (by omega)) _ _ _ _ _ _ _ _ _
    .have G:=Aa HN;exact((BA.setCell (p:=⟨L,7,Y⟩) (by right;simp;omega) _).setCell (p:=⟨L,8,Y⟩) (by right;simp;omega) _).zG (by right;omega) _ _ _ _ _ _ _ _ _
  |false=>
   rw[s1]at h6;simp only[fq,if_false]at h6;have H6:=Ab h6;clear h6;(go_wp2_with fail);refine(Gv b o d f E eX _ H6 (Au d f) (Be H6.lt) (HO.seen H6.lt eX)).mono ?_;rintro e w7 ⟨rfl,h7,k7⟩;have IS:=Ab (H4.kept k7 (by simp;omega));have HE:=Ab (HA.kept k7 (by simp;omega));have IJ:=Ab (H3.trans k7);clear H6 H4 HA H3 k7;cases s2:BE (Au d f) eX with
   |true=>
    rw[s2]at h7;simp only[if_true]at h7;(have HS:kt (My (Au d f)=V 3):=by show _=_;simp[My,s1,s2]);clear s1 s2;have m:=HE.cell 1;have lf:=HE.frozen;simp[Ay]at m;have H7:=Ab h7;clear h7;(go_wp2_with fail);have B9:=Aa i;have G:=Aa HN;have hR:Ch (w7.setCell ⟨L,1,Y⟩ (X J 3)) b o d (f+1) E:=H7.other (p:=⟨L,1,Y⟩) (by simp;omega) (B9 L (by omega)) _;have y:kt (AF (w7.setCell ⟨L,1,Y⟩ (X J 3)) N (Ay B2) 166):=IS.zB ⟨L,1,Y⟩ (by simp;omega) _;have z:kt (AF (w7.setCell ⟨L,1,Y⟩ (X J 3)) L (Ay ⟨p,3,AW,l,AD⟩) 166):=HE.set 1 _;have A:=Ab (IJ.setCell (p:=⟨L,1,Y⟩) (by right;simp;omega) (X J 3));clear m lf IS HE IJ B9 G H7;generalize w7.setCell ⟨L,1,Y⟩ (X J 3)=w9 at hR y z A⊢;refine(Ir b o d (f+1) E _ hR HO (Au d (f+1)) (Be hR.lt)).mono ?_;intro e LB n;clear hR;cases ht2:Fs (Au d (f+1)) (f+1)with
    |error q=>
     rw[ht2]at n;obtain⟨n9,rfl,j,g⟩:=n;(have C:kt (Hf d x=.error q):=by show _=_;unfold Hf;simp only[HT.out,HS.out,ht2]);have a:=y.kept g (by simp;omega);have c:=z.kept g (by simp;omega);have BA:=Ab (A.trans g);clear y z A g ht2 HT HS;have l0:=c.cell 0;have m:=c.cell 1;have l2:=c.cell 2;have l3:=c.cell 3;have l4:=c.cell 4;have B:=c.cell 5;have D:=c.cell 6;have l7:=c.cell 7;have l8:=c.cell 8;have lf:=c.frozen;have nf:=a.frozen;have W:=a.cell 0;have M:=a.cell 1;have F:=a.cell 2;have Q:=a.cell 3;have T:=a.cell 4;have c5:=a.cell 5;have R:=a.cell 6;have c7:=a.cell 7;have I:=a.cell 8;simp[Ay,B2,AW,AD]at l0 W m M l2 F l3 Q l4 T B c5 D R l7 c7 l8 I;(have q1:¬L=N:=by omega);(have q2:¬N=L:=by omega);have HB:=Ab a;have t:=Ab j;clear a c j;simp only[Ap,AD];go_wp2;rw[C.out];have S:=((HB.zB ⟨L,7,Y⟩ (by simp;omega) (X ky 0)).zB ⟨L,8,Y⟩ (by simp;omega) (O kB)).zG rfl (X J p) (X J 3) (X J 0) (O kB) (U Y 0 0) (X ky l.v) (O l.s) (X ky 0) (O kB);refine fL (An (P:=prog) (fn:=Tryz.f152) (p:=2) (u:=3) rfl rfl S underlying166 rfl (by kernel_rfl)) rfl ?_;refine⟨n9,⟨p,3,AW,l,AD⟩,rfl,rfl,?_,?_⟩
     .exact((t.other (p:=⟨L,7,Y⟩) (by simp;omega) (i L (by omega)) _).other (p:=⟨L,8,Y⟩) (by simp;omega) (i L (by omega)) _).zG (by omega) (i N (by omega)) _ _ _ _ _ _ _ _ _
     .have G:=Aa HN;exact((BA.setCell (p:=⟨L,7,Y⟩) (by right;simp;omega) _).setCell (p:=⟨L,8,Y⟩) (by right;simp;omega) _).zG (by right;omega) _ _ _ _ _ _ _ _ _
    |ok r=>
     obtain⟨r,n2⟩:=r;rw[ht2]at n;obtain⟨rfl,j,g⟩:=n;(have C:kt (Hf d x=.ok (⟨p,3,AW,l,r⟩,n2)):=by show _=_;unfold Hf;simp only[HT.out,HS.out,ht2,HP.out]);have a:=y.kept g (by simp;omega);have c:=z.kept g (by simp;omega);have BA:=Ab (A.trans g);clear y z A g ht2 HT HS;have l0:=c.cell 0;have m:=c.cell 1;have l2:=c.cell 2;have l3:=c.cell 3;have l4:=c.cell 4;have B:=c.cell 5;have D:=c.cell 6;have l7:=c.cell 7;have l8:=c.cell 8;have lf:=c.frozen;have nf:=a.frozen;have W:=a.cell 0;have M:=a.cell 1;have F:=a.cell 2;have Q:=a.cell 3;have T:=a.cell 4;have c5:=a.cell 5;have R:=a.cell 6;have c7:=a.cell 7;have I:=a.cell 8;simp[Ay,B2,AW,AD]at l0 W m M l2 F l3 Q l4 T B c5 D R l7 c7 l8 I;(have q1:¬L=N:=by omega);(have q2:¬N=L:=by omega);have HB:=Ab a;have t:=Ab j;clear a c j;simp only[Ap];go_wp2;rw[C.out];have S:=((HB.zB ⟨L,7,Y⟩ (by simp;omega) (X ky r.v)).zB ⟨L,8,Y⟩ (by simp;omega) (O r.s)).zG rfl (X J p) (X J 3) (X J 0) (O kB) (U Y 0 0) (X ky l.v) (O l.s) (X ky r.v) (O r.s);refine fL (An (P:=prog) (fn:=Tryz.f152) (p:=2) (u:=3) rfl rfl S underlying166 rfl (by kernel_rfl)) rfl ?_;refine⟨rfl,?_,?_⟩
     .exact((t.other (p:=⟨L,7,Y⟩) (by simp;omega) (i L (by omega)) _).other (p:=⟨L,8,Y⟩) (by simp;omega) (i L (by omega)) _).zG (by omega) (i N (by omega)) _ _ _ _ _ _ _ _ _
     .have G:=Aa HN;exact((BA.setCell (p:=⟨L,7,Y⟩) (by right;simp;omega) _).setCell (p:=⟨L,8,Y⟩) (by right;simp;omega) _).zG (by right;omega) _ _ _ _ _ _ _ _ _
   |false=>
    rw[s2]at h7;simp only[fq,if_false]at h7;have H7:=Ab h7;clear h7;(go_wp2_with fail);refine(Gv b o d f E eV _ H7 (Au d f) (Be H7.lt) (HO.seen H7.lt eV)).mono ?_;rintro e w8 ⟨rfl,h8,k8⟩;have Ix:=Ab (IS.kept k8 (by simp;omega));have HV:=Ab (HE.kept k8 (by simp;omega));have H0:=Ab (IJ.trans k8);clear H7 IS HE IJ k8;cases s3:BE (Au d f) eV with
    |true=>
     rw[s3]at h8;simp only[if_true]at h8;(have HS:kt (My (Au d f)=V 4):=by show _=_;simp[My,s1,s2,s3]);clear s1 s2 s3;have m:=HV.cell 1;have lf:=HV.frozen;simp[Ay]at m;have H8:=Ab h8;clear h8;(go_wp2_with fail);have B9:=Aa i;have G:=Aa HN;have hR:Ch (w8.setCell ⟨L,1,Y⟩ (X J 4)) b o d (f+1) E:=H8.other (p:=⟨L,1,Y⟩) (by simp;omega) (B9 L (by omega)) _;have y:kt (AF (w8.setCell ⟨L,1,Y⟩ (X J 4)) N (Ay B2) 166):=Ix.zB ⟨L,1,Y⟩ (by simp;omega) _;have z:kt (AF (w8.setCell ⟨L,1,Y⟩ (X J 4)) L (Ay ⟨p,4,AW,l,AD⟩) 166):=HV.set 1 _;have A:=Ab (H0.setCell (p:=⟨L,1,Y⟩) (by right;simp;omega) (X J 4));clear m lf Ix HV H0 B9 G H8;generalize w8.setCell ⟨L,1,Y⟩ (X J 4)=w9 at hR y z A⊢;refine(Ir b o d (f+1) E _ hR HO (Au d (f+1)) (Be hR.lt)).mono ?_;intro e LB n;clear hR;cases ht2:Fs (Au d (f+1)) (f+1)with
     |error q=>
      rw[ht2]at n;obtain⟨n9,rfl,j,g⟩:=n;(have C:kt (Hf d x=.error q):=by show _=_;unfold Hf;simp only[HT.out,HS.out,ht2]);have a:=y.kept g (by simp;omega);have c:=z.kept g (by simp;omega);have BA:=Ab (A.trans g);clear y z A g ht2 HT HS;have l0:=c.cell 0;have m:=c.cell 1;have l2:=c.cell 2;have l3:=c.cell 3;have l4:=c.cell 4;have B:=c.cell 5;have D:=c.cell 6;have l7:=c.cell 7;have l8:=c.cell 8;have lf:=c.frozen;have nf:=a.frozen;have W:=a.cell 0;have M:=a.cell 1;have F:=a.cell 2;have Q:=a.cell 3;have T:=a.cell 4;have c5:=a.cell 5;have R:=a.cell 6;have c7:=a.cell 7;have I:=a.cell 8;simp[Ay,B2,AW,AD]at l0 W m M l2 F l3 Q l4 T B c5 D R l7 c7 l8 I;(have q1:¬L=N:=by omega);(have q2:¬N=L:=by omega);have HB:=Ab a;have t:=Ab j;clear a c j;simp only[Ap,AD];go_wp2;rw[C.out];have S:=((HB.zB ⟨L,7,Y⟩ (by simp;omega) (X ky 0)).zB ⟨L,8,Y⟩ (by simp;omega) (O kB)).zG rfl (X J p) (X J 4) (X J 0) (O kB) (U Y 0 0) (X ky l.v) (O l.s) (X ky 0) (O kB);refine fL (An (P:=prog) (fn:=Tryz.f152) (p:=2) (u:=3) rfl rfl S underlying166 rfl (by kernel_rfl)) rfl ?_;refine⟨n9,⟨p,4,AW,l,AD⟩,rfl,rfl,?_,?_⟩
      .exact((t.other (p:=⟨L,7,Y⟩) (by simp;omega) (i L (by omega)) _).other (p:=⟨L,8,Y⟩) (by simp;omega) (i L (by omega)) _).zG (by omega) (i N (by omega)) _ _ _ _ _ _ _ _ _
      .have G:=Aa HN;exact((BA.setCell (p:=⟨L,7,Y⟩) (by right;simp;omega) _).setCell (p:=⟨L,8,Y⟩) (by right;simp;omega) _).zG (by right;omega) _ _ _ _ _ _ _ _ _
     |ok r=>
      obtain⟨r,n2⟩:=r;rw[ht2]at n;obtain⟨rfl,j,g⟩:=n;(have C:kt (Hf d x=.ok (⟨p,4,AW,l,r⟩,n2)):=by show _=_;unfold Hf;simp only[HT.out,HS.out,ht2,HP.out]);have a:=y.kept g (by simp;omega);have c:=z.kept g (by simp;omega);have BA:=Ab (A.trans g);clear y z A g ht2 HT HS;have l0:=c.cell 0;have m:=c.cell 1;have l2:=c.cell 2;have l3:=c.cell 3;have l4:=c.cell 4;have B:=c.cell 5;have D:=c.cell 6;have l7:=c.cell 7;have l8:=c.cell 8;have lf:=c.frozen;have nf:=a.frozen;have W:=a.cell 0;have M:=a.cell 1;have F:=a.cell 2;have Q:=a.cell 3;have T:=a.cell 4;have c5:=a.cell 5;have R:=a.cell 6;have c7:=a.cell 7;have I:=a.cell 8;simp[Ay,B2,AW,AD]at l0 W m M l2 F l3 Q l4 T B c5 D R l7 c7 l8 I;(have q1:¬L=N:=by omega);(have q2:¬N=L:=by omega);have HB:=Ab a;have t:=Ab j;clear a c j;simp only[Ap];go_wp2;rw[C.out];have S:=((HB.zB ⟨L,7,Y⟩ (by simp;omega) (X ky r.v)).zB ⟨L,8,Y⟩ (by simp;omega) (O r.s)).zG rfl (X J p) (X J 4) (X J 0) (O kB) (U Y 0 0) (X ky l.v) (O l.s) (X ky r.v) (O r.s);refine fL (An (P:=prog) (fn:=Tryz.f152) (p:=2) (u:=3) rfl rfl S underlying166 rfl (by kernel_rfl)) rfl ?_;refine⟨rfl,?_,?_⟩
      .exact((t.other (p:=⟨L,7,Y⟩) (by simp;omega) (i L (by omega)) _).other (p:=⟨L,8,Y⟩) (by simp;omega) (i L (by omega)) _).zG (by omega) (i N (by omega)) _ _ _ _ _ _ _ _ _
      .have G:=Aa HN;exact((BA.setCell (p:=⟨L,7,Y⟩) (by right;simp;omega) _).setCell (p:=⟨L,8,Y⟩) (by right;simp;omega) _).zG (by right;omega) _ _ _ _ _ _ _ _ _
    |false=>
     rw[s3]at h8;simp only[fq,if_false]at h8;have H8:=Ab h8;clear h8;(go_wp2_with fail);(have C:kt (Hf d x=.error (Au d f).place):=by show _=_;unfold Hf;simp[HT.out,My,s1,s2,s3]);clear s1 s2 s3;refine(JY b o d f E _ H8 (Au d f) (Be H8.lt)).mono ?_;rintro e w9 ⟨rfl,k9⟩;have h9:=H8.zJ k9;have M0:=Ab (Ix.kept k9);have MN:=Ab (H0.trans (k9.mono (by simp)));clear H8 Ix HV H0 k9;obtain⟨q,hq⟩:=kK (Au d f).place;rw[hq]at C⊢;clear hq;have H9:=Ab h9;clear h9;(go_wp2_with fail);refine(Gb b o d f E q _ H9).mono ?_;rintro e LB ⟨rfl,j,g⟩;have CC:=M0.kept g (by simp;omega);have BA:=Ab (MN.trans g);clear M0 MN H9 g;have nf:=CC.frozen;have W:=CC.cell 0;have M:=CC.cell 1;have F:=CC.cell 2;have Q:=CC.cell 3;have T:=CC.cell 4;have c5:=CC.cell 5;have R:=CC.cell 6;have c7:=CC.cell 7;have I:=CC.cell 8;simp[Ay,B2,AW,AD]at W M F Q T c5 R c7 I;have HB:=Ab CC;have t:=Ab j;clear CC j;go_wp2;rw[C.out];have S:=HB.zG rfl (X J 0) (X J 0) (X J 0) (O ⟨#[]⟩) (U Y 0 0) (X ky 0) (O ⟨#[]⟩) (X ky 0) (O ⟨#[]⟩);refine fL (An (P:=prog) (fn:=Tryz.f152) (p:=2) (u:=3) rfl rfl S underlying166 rfl (by kernel_rfl)) rfl ?_;refine⟨f,B2,rfl,rfl,?_,?_⟩
     .exact t.zG (by omega) (i N (by omega)) _ _ _ _ _ _ _ _ _
     .have G:=Aa HN;exact BA.zG (by right;omega) _ _ _ _ _ _ _ _ _
theorem Tryz.info164:(Tryz.prog.info? 164).map (λi=>(i.zero,i.size,i.bytes))=V (V (kx #[X ky 0,O ⟨#[]⟩]),2,24):=by kernel_rfl
def Hs:zA:=⟨#[44]⟩
def OB:zA:=⟨#[41]⟩
def Gj(ms:kJ A0)(nx:Nat)(acc:kJ AO):Except Int (kJ AO×Nat):=
 if h:nx<Z ms then
  match Fs (Au ms nx) nx with
  | .error p=> .error p
  | .ok (t,_)=>
   if BE (Au ms (nx+1)) Hs then Gj ms (nx+2) (acc++[t])
   else if BE (Au ms (nx+1)) OB then .ok (acc++[t],nx+2)
   else .error (Au ms (nx+1)).place
 else .error 0
def FD{m:A0}{t:AO}(h:Fs m k=.ok (t,n)):n=k+1:=by
 unfold Fs at h;split at h
 .simp only[gO,gA]at h;exact h.2.symm
 .split at h
  .simp only[gO,gA]at h;exact h.2.symm
  .cases h
def ET(ms:kJ A0)(nx:Nat):Except Int ((Nat×zA×kJ AO)×Nat):=
 if(Au ms nx).kind==2 then
  if BE (Au ms (nx+1)) RH then
   match Gj ms (nx+2) [] with
   | .error p=> .error p
   | .ok (ts,n)=> .ok (((Au ms nx).place,(Au ms nx).text,ts),n)
  else .error (Au ms (nx+1)).place
 else .error (Au ms nx).place
def AF.zT(h:AF w n y T)(f:Z y=3)(c b a:ks):AF (((w.setCell ⟨n,0,Y⟩ c).setCell ⟨n,1,Y⟩ b).setCell ⟨n,2,Y⟩ a) n [c,b,a] T:=by
 have d:=((h.set 0 c).set 1 b).set 2 a;have e:((y.set 0 c).set 1 b).set 2 a=[c,b,a]:=by
  match y,f with
  |[_,_,_],_=>rfl
 rw[e]at d;exact d
def Ch.zT{d:kJ A0}(h:Ch w b z d n I)(a:m≠b)(c:z.ownBlock≠V m)(g f e:ks):Ch (((w.setCell ⟨m,0,Y⟩ g).setCell ⟨m,1,Y⟩ f).setCell ⟨m,2,Y⟩ e) b z d n I:=
 ((h.other (p:=⟨m,0,Y⟩) a c g).other (p:=⟨m,1,Y⟩) a c f).other (p:=⟨m,2,Y⟩) a c e
def Ac.zT(h:Ac M v w)(b:n∈M\/v.heap.size<=n)(e d c:ks):Ac M v (((w.setCell ⟨n,0,Y⟩ e).setCell ⟨n,1,Y⟩ d).setCell ⟨n,2,Y⟩ c):=
 ((h.setCell (p:=⟨n,0,Y⟩) b e).setCell (p:=⟨n,1,Y⟩) b d).setCell (p:=⟨n,2,Y⟩) b c
def bS(b:Nat)(mv:ks)(ms:kJ A0)(br:Int)(w:kq)(e:Ending)(w':kq):Except Int ((Nat×zA×kJ AO)×Nat)->Prop
 | .ok ((p,s,ts),nx)=>∃tv base,e=j3 (.tuple #[kx (j1 (AL ⟨p,s,tv⟩)),k0 hG])/\w.heap.size<=base/\kw w' base 164 2 tv (Z ts) (ts.flatMap Ap)/\Ch w' b mv ms nx br/\Ac [b] w w'
 | .error p=>∃nx pl s ad n cp,e=j3 (.tuple #[kx (j1 (AL ⟨pl,s,U ad n cp⟩)),k0 K])/\Ch w' b mv ms nx p/\Ac [b] w w'
theorem Ns(b:Nat)(mv:ks)(a:kJ A0)(c:Nat)(D:Int)(w:kq)(h:Ch w b mv a c D)(ok:UV a):
  Calls prog 99 #[j2 (V ⟨b,0,Y⟩)] w λe F=>bS b mv a D w e F (ET a c):=by
 obtain⟨m,f⟩:=kK (Au a c);obtain⟨i0,a6,WW,ba,a4⟩:=gH Tryz.info164;have HM:=Ab f;have HO:=Ab ok;have H9:=h.lt;have bx:(c:Int)<(Z a:Int):=by omega
 have bz:(0:Int)<=(c:Int):=by omega
 have hl:=h.len;have ao:=h.zK.lt;have H8:∀k,mv.ownBlock=V k->k<w.heap.size:=λk B=>(h.row.lt k B).2
 have h1:=h.zJ ((kL [] w).alloc (jj #[X J 0,O ⟨#[]⟩,U Y 0 0] 116));have HQ:=kN w [X J 0,O ⟨#[]⟩,U Y 0 0] 116;have K5:=(kL [b] w).alloc (jj [X J 0,O ⟨#[]⟩,U Y 0 0].toArray 116);clear f h ok;go_enter func99,ntmps99;go_wp2_with fail
 generalize w.alloc (jj [X J 0,O ⟨#[]⟩,U Y 0 0].toArray 116)=w1 at h1 HQ K5⊢;obtain⟨l,MB⟩:=kK w.heap.size;rw[MB]at HQ ao H8⊢;have HU:=Ab MB;clear MB;have EM:kt (∀k,l<=k->mv.ownBlock≠V k):=λk B e=>by have:=H8 k e;omega
 obtain⟨g,W,rfl,b0,b1,b2,hc⟩:=h1.cells;have bt:g<l:=H8 g rfl;clear H8;obtain⟨T,M,L⟩:=hc c H9;rw[Be H9,Aa HM]at T M L;clear hc b2;have n0:=World.new_ne w1 _ b0;have n1:=World.new_ne w1 _ b1;have n2:=World.new_ne w1 _ T;have n3:=World.new_ne w1 _ M;have n4:=World.new_ne w1 _ L;have HH:=Ab h1;have AR:=Ab HQ;clear h1 HQ
 go_region_held3 (λF=>ku F ⟨b,0,Y⟩=V (U (V ⟨g,0,Y⟩) (Z a) W)/\ku F ⟨b,1,Y⟩=V (X J c)/\ku F ⟨g,c*3,Y⟩=V (X J m.kind)/\ku F ⟨g,c*3+1,Y⟩=V (X J m.place)/\ku F ⟨g,c*3+2,Y⟩=V (O m.text)) (go_keep) (fail)
 rename_i a0;clear a0 n0 n1 n2 n3 n4 b0 b1 T M L;have TV:=AR.lt;have h2:=HH.zJ (((kL [] w1).alloc (jj [X J m.kind,X J m.place,O m.text].toArray 150)).drew);have BA:=(kN w1 [X J m.kind,X J m.place,O m.text] 150).drew;have K3:=(AR.alloc (jj [X J m.kind,X J m.place,O m.text].toArray 150)).drew;have NB:=(K5.alloc (jj [X J m.kind,X J m.place,O m.text].toArray 150)).drew;clear HH AR K5;generalize(w1.alloc (jj [X J m.kind,X J m.place,O m.text].toArray 150)).drew=w2 at h2 BA K3 NB⊢;generalize w1.heap.size=N4 at BA TV⊢;have x0:=BA.cell 0;have x1:=BA.cell 1;have x2:=BA.cell 2;have z1:=h2.zK.cell 1;have zf:=h2.zK.frozen 1;simp at x0 x1 x2 z1;have HE:=Ab h2;have AR:=Ab K3;have M1:=Ab BA;have HZ:=Ab NB;clear h2 BA K3 NB;cases B:(m.kind==2)with
 |false=>
  have WB:(m.kind !=2)=hG:=by simp[bne,B]
  have HF:kt (ET a c=.error m.place):=by show _=_;unfold ET;rw[Aa HM,B];rfl
  clear B;go_wp2_with fail
  refine(Gb b (U (V ⟨g,0,Y⟩) (Z a) W) a c D m.place _ HE).mono ?_;rintro e w3 ⟨rfl,h3,N⟩;have EY:=AR.kept N (by simp;omega);have a5:=Ab (HZ.trans N);have T:=EY.cell 0;have M:=EY.cell 1;have L:=EY.cell 2;have nf:=EY.frozen;simp at T M L;have an:=Ab EY;have G:=Ab h3;clear EY h3 N x0 x1 x2 z1 zf HE AR M1 HZ;go_wp2;rw[HF.out];have CL:=an.zT rfl (X J 0) (O ⟨#[]⟩) (U Y 0 0);refine fL (An (P:=prog) (fn:=Tryz.f99) (p:=2) (u:=3) rfl rfl CL underlying116 rfl (by kernel_rfl)) rfl ?_;refine⟨c,0,kB,Y,0,0,rfl,?_,?_⟩
  .exact G.zT (by omega) (EM l (by omega)) _ _ _
  .have:=Aa HU;exact a5.zT (by right;omega) _ _ _
 |true=>
  have WB:(m.kind !=2)=K:=by simp[bne,B]
  have ZV:c+1<Z a:=by
   refine HO.ends c H9 ?_;rw[Be H9,Aa HM];(have:m.kind=2:=by simpa using B);rw[this];decide
  have HK:=Ab B;clear B;go_wp2_with fail
  have N:Ac [b] w2 (w2.setCell ⟨b,1,Y⟩ (X J ((c:Int)+1))):=(kL [b] w2).setCell (by simp) _;have h3:Ch (w2.setCell ⟨b,1,Y⟩ (X J ((c:Int)+1))) b (U (V ⟨g,0,Y⟩) (Z a) W) a (c+1) D:=HE.kept (nx':=c+1) (br':=D) N (HE.zK.set 1 _) ZV;have K6:=Ab (AR.kept N (by simp;omega));have LC:=Ab (M1.kept N (by simp;omega));have Mo:=Ab (HZ.trans N);clear x0 x1 x2 z1 zf HE AR M1 HZ N;generalize w2.setCell ⟨b,1,Y⟩ (X J ((c:Int)+1))=w3 at h3 K6 LC Mo⊢;refine(MA b (U (V ⟨g,0,Y⟩) (Z a) W) a (c+1) D RH _ h3 (Au a (c+1)) (Be h3.lt) (HO.seen h3.lt RH)).mono ?_;rintro e w4 ⟨rfl,h4,k4⟩;clear h3;have BT:=Ab (K6.kept k4 (by simp;omega));have FT:=Ab (LC.kept k4 (by simp;omega));have K2:=Ab (Mo.trans k4);clear K6 LC Mo k4;cases hs:BE (Au a (c+1)) RH with
  |false=>
   rw[hs]at h4;simp only[fq,if_false]at h4;(have HF:kt (ET a c=.error (Au a (c+1)).place):=by show _=_;unfold ET;rw[Aa HM,Aa HK,hs];rfl);have T:=BT.cell 0;have M:=BT.cell 1;have L:=BT.cell 2;have nf:=BT.frozen;simp at T M L;have G:=Ab h4;clear h4 hs FT;go_wp2;rw[HF.out];have CL:=BT.zT rfl (X J 0) (O ⟨#[]⟩) (U Y 0 0);refine fL (An (P:=prog) (fn:=Tryz.f99) (p:=2) (u:=3) rfl rfl CL underlying116 rfl (by kernel_rfl)) rfl ?_;refine⟨c+1,0,kB,Y,0,0,rfl,?_,?_⟩
   .exact G.zT (by omega) (EM l (by omega)) _ _ _
   .have:=Aa HU;exact K2.zT (by right;omega) _ _ _
  |true=>
   rw[hs]at h4;simp only[if_true]at h4;have HS:=Ab hs;have x1:=FT.cell 1;have x2:=FT.cell 2;simp at x1 x2;have G:=Ab h4;clear h4 hs;go_wp2;have Jx:kt (∀r,Gj a (c+2) []=r->ET a c=(match r with| .error p=> .error p| .ok (ts,n)=> .ok ((m.place,m.text,ts),n))):=by
    intro r hr;unfold ET;rw[Aa HM,Aa HK,Aa HS,hr];rfl
   have H4:=Ab (kN w4 [X J m.place,O m.text,U Y 0 0] 116);have MY:=Ab (BT.alloc (jj [X J m.place,O m.text,U Y 0 0].toArray 116));have Nq:=Ab (G.zJ ((kL [] w4).alloc (jj [X J m.place,O m.text,U Y 0 0].toArray 116)));have LE:=Ab (K2.alloc (jj [X J m.place,O m.text,U Y 0 0].toArray 116));(have K9:(w4.alloc (jj [X J m.place,O m.text,U Y 0 0].toArray 116)).heap.size=w4.heap.size+1:=by simp);have a1:=FT.lt;clear x1 x2 FT BT K2 G HS HK HM;change Code.wp _ _ _ _ (w4.alloc (jj [X J m.place,O m.text,U Y 0 0].toArray 116));generalize w4.alloc (jj [X J m.place,O m.text,U Y 0 0].toArray 116)=w5 at H4 MY Nq LE K9⊢;obtain⟨A,NL⟩:=kK w4.heap.size;rw[NL]at H4 K9 a1⊢;clear NL
   go_loopg [] (Z a-(c+2)) (λgk wr=>∃(j:Nat) (d:kJ AO) (R:Option Addr) (S:Nat),gk=Z a-j/\kt (Gj a j d=Gj a (c+2) [])/\kt (Ch wr b (U (V ⟨g,0,Y⟩) (Z a) W) a j D)/\kt (AF wr l [X J 0,O ⟨#[]⟩,U Y 0 0] 116)/\kt (AF wr A [X J m.place,O m.text,U R (Z d) S] 116)/\kw wr (A+1) 164 2 (U R (Z d) S) (Z d) (d.flatMap Ap)/\kt (Ac [b] w wr)/\A+1<=wr.heap.size/\Z d<=j)
   case atStart=>exact⟨c+2,[],Y,0,rfl,rfl,Nq,MY,H4,fK _ _ _ _,LE,by omega,by simp⟩
   case round=>
    clear H4 MY Nq LE K9;obtain⟨j,d,R,S,RV,HL,G,HB,HA,H3,hK,hz,bv⟩:=hrel;have HG:=Ab RV;clear RV;have HN:=G.lt;(go_wp2_with fail);refine(Ir b (U (V ⟨g,0,Y⟩) (Z a) W) a j D _ G HO (Au a j) (Be HN)).mono ?_;intro e x HP;cases ht:Fs (Au a j) j with
    |error q=>
     rw[ht]at HP;obtain⟨n9,rfl,h6,I⟩:=HP;have HF:kt (ET a c=.error q):=Jx (.error q) (by rw[<-Aa HL];unfold Gj;rw[dif_pos HN,ht]);have z:=HB.kept I (by simp;omega);have HW:=Ab (hK.trans I);clear I ht G HB HA hK HL H3;have T:=z.cell 0;have M:=z.cell 1;have L:=z.cell 2;have nf:=z.frozen;(have d0:=λo=>(z.alloc o).cell 0);(have d1:=λo=>(z.alloc o).cell 1);(have d2:=λo=>(z.alloc o).cell 2);(have df:=λo=>(z.alloc o).frozen);simp at T M L d0 d1 d2;have QQ:=z.lt;have b6:=h6.zK.lt;(have q1:¬l=x.heap.size:=by omega);(have q2:¬x.heap.size=l:=by omega);have Ax:=Ab h6;have Wa:=Ab z;clear h6 z;simp only[Ap,AD];go_wp2;rw[HF.out];have CL:=(Wa.zT rfl (X J 0) (O ⟨#[]⟩) (U Y 0 0)).alloc (jj #[X ky 0,O kB] 164);refine fL (An (P:=prog) (fn:=Tryz.f99) (p:=2) (u:=3) rfl rfl CL underlying116 rfl (by kernel_rfl)) rfl ?_;refine⟨n9,0,kB,Y,0,0,rfl,?_,?_⟩
     .exact(Ax.zT (by omega) (EM l (by omega)) _ _ _).zJ ((kL [] _).alloc _)
     .have:=Aa HU;exact(HW.zT (by right;omega) _ _ _).alloc _
    |ok r=>
     obtain⟨t,n1⟩:=r;rw[ht]at HP;have S1:=FD ht;subst S1;obtain⟨rfl,h6,I⟩:=HP;have z:=Ab (HB.kept I (by simp;omega));have AH:=Ab (HA.kept I (by simp;omega));have HW:=Ab (hK.trans I);have KS:=Am H3 I (λi E f=>by simp at f;subst f;have:=(H3.lt _ E).1;omega);have W0:A+1<=x.heap.size:=gQ hz I.size;have HT:=Ab ht;clear I ht G HB HA hK H3 hz;have a2:=AH.cell 2;have af:=AH.frozen;(have d2:=λo=>(AH.alloc o).cell 2);(have df:=λo=>(AH.alloc o).frozen);simp at a2 d2;have QQ:=AH.lt;(have q1:¬A=x.heap.size:=by omega);(have q2:¬x.heap.size=A:=by omega);have Ax:=Ab h6;clear h6;have SB:((x.alloc (jj (j1 (Ap t)) 164)).alloc (jj (j1 (Ap t)) 164)).heap[x.heap.size+1]?=V (jj (j1 (Ap t)) 164 (0,0)):=by
      have C:=fX (x.alloc (jj (j1 (Ap t)) 164)) (jj (j1 (Ap t)) 164);rw[show(x.alloc (jj (j1 (Ap t)) 164)).heap.size=x.heap.size+1 from by simp]at C
      exact C
     have RB:=fw (fw KS (jj (j1 (Ap t)) 164)) (jj (j1 (Ap t)) 164);(have b5:Z d<=1000:=by omega);have LB:kt (∀s,((x.alloc (jj (j1 (Ap t)) 164)).alloc (jj (j1 (Ap t)) 164)).grownBy s (U R (Z d) S).ownBlock->Ac (U R (Z d) S).ownBlock.toList x s):=by
      intro s hg;exact(((kL _ x).alloc _).alloc _).grown hg (λk B=>kn (by simp[B]))
     (have IJ:kt (∀i∈(U R (Z d) S).ownBlock.toList,A+1<=i):=λi E=>(KS.lt i (by simpa using E)).1);have LL:kt (∀s,((x.alloc (jj (j1 (Ap t)) 164)).alloc (jj (j1 (Ap t)) 164)).grownBy s (U R (Z d) S).ownBlock->ku s ⟨A,2,Y⟩=V (U R (Z d) S)/\s.frozen? ⟨A,2,Y⟩=K):=by
      intro s hg;have hb:=AH.kept (LB s hg) (λf=>by have:=Aa IJ A f;omega);exact⟨hb.cell 2,hb.frozen 2⟩
     simp only[Ap];go_wp2_with (at_builtin;refine fO _ rfl (.tmp 51) (.tmp 53) _ rfl (A+1) 164 i0 _ 2 24 underlying114 a6 WW ba a4 rfl (by omega) (U R (Z d) S) (Z d) (d.flatMap Ap) rfl RB ⟨x.heap.size+1,0,Y⟩ 1 1 (Ap t) rfl rfl (fM (cs:=j1 (Ap t)) (t:=164) (fr:=(0,0)) SB) (by simp[Value.oneCell',Ap]) (by omega) (by unfold maxLen;omega) (by omega) (by simp;omega) (x.heap.size+1+1) (by simp) ?_;intro v y s M0 HX SS VR;have YP:=(LL s HX).1;have S0:=(LL s HX).2)
     have kr:=Aa LB s HX;have FA:=Aa IJ;have bs:=Aa HU;have b3:A+1<=v:=(M0.lt v rfl).1;have Pl:Ch s b (U (V ⟨g,0,Y⟩) (Z a) W) a (j+1) D:=⟨Ax.zK.kept kr (λf=>by have:=FA b f;omega),Am Ax.row kr (λi E f=>by have:=FA i f;simp[kF]at E;omega),Ax.ap,Ax.lt,Ax.len⟩;have Ix:=Ab (Pl.other (p:=⟨A,2,Y⟩) (by simp;omega) (EM A (by omega)) (U (V ⟨v,0,Y⟩) (Z d+1) y));have K8:=Ab ((z.kept kr (λf=>by have:=FA l f;omega)).zB ⟨A,2,Y⟩ (by simp;omega) (U (V ⟨v,0,Y⟩) (Z d+1) y));have LM:kt (AF (s.setCell ⟨A,2,Y⟩ (U (V ⟨v,0,Y⟩) (Z d+1) y)) A [X J m.place,O m.text,U (V ⟨v,0,Y⟩) (Z d+1) y] 116):=(AH.kept kr (λf=>by have:=FA A f;omega)).set 2 _;have PT:Ac [b] w s:=HW.trans' kr (λi E=>kp (by have:=FA i E;omega));have K4:=Ab (PT.setCell (p:=⟨A,2,Y⟩) (by right;simp;omega) (U (V ⟨v,0,Y⟩) (Z d+1) y));have HY:=Af M0 (p:=⟨A,2,Y⟩) (by simp[kF];omega) (U (V ⟨v,0,Y⟩) (Z d+1) y);(have Nx:A+1<=(s.setCell ⟨A,2,Y⟩ (U (V ⟨v,0,Y⟩) (Z d+1) y)).heap.size:=by have:=kr.size;simp;omega);clear kr FA Pl PT HX SS VR M0 YP S0 LB IJ LL SB RB KS AH z HW Ax a2 d2 af df q1 q2 QQ W0;generalize s.setCell ⟨A,2,Y⟩ (U (V ⟨v,0,Y⟩) (Z d+1) y)=w10 at Ix K8 LM K4 HY Nx⊢;have HV:=Ix.lt;refine(Gv b (U (V ⟨g,0,Y⟩) (Z a) W) a (j+1) D Hs _ Ix (Au a (j+1)) (Be HV) (HO.seen HV Hs)).mono ?_;rintro e L0 ⟨rfl,Bx,FC⟩;have NV:=Ab (K8.kept FC (by simp;omega));have FP:=Ab (LM.kept FC (by simp;omega));have SJ:=Ab (K4.trans FC);have JJ:=Am HY FC (λi E f=>by simp at f;subst f;have:=(HY.lt _ E).1;omega);have ab:A+1<=L0.heap.size:=gQ Nx FC.size;clear FC Ix K8 LM K4 HY Nx;cases hs:BE (Au a (j+1)) Hs with
     |true=>
      rw[hs]at Bx;simp only[if_true]at Bx;have al:kt (Gj a (j+2) (d++[t])=Gj a (c+2) []):=by
       have C:=Aa HL
       conv at C=>lhs;unfold Gj
       rw[dif_pos HN,Aa HT]at C;simp only[hs,if_true]at C;exact C
      have HJ:=Ab Bx;clear Bx hs HL HT;go_wp2_with fail
      go_roundg (Z a-(j+2))
      case measure=>have:=Aa HG;omega
      case rel=>exact⟨j+2,d++[t],V ⟨v,0,Y⟩,y,rfl,al,HJ,NV,by simpa using FP,by simpa using JJ,SJ,ab,by simp;omega⟩
     |false=>
      rw[hs]at Bx;simp only[fq,if_false]at Bx;have HS:=Ab hs;have HJ:=Ab Bx;clear Bx hs;have OH:kt (Gj a (c+2) []=if BE (Au a (j+1)) OB then .ok (d++[t],j+2)else .error (Au a (j+1)).place):=by
       have C:=Aa HL
       conv at C=>lhs;unfold Gj
       rw[dif_pos HN,Aa HT]at C;simp only[Aa HS,fq,if_false]at C;exact C.symm
      have a7:=Ab (MA b (U (V ⟨g,0,Y⟩) (Z a) W) a (j+1) D OB _ (HJ.zJ (kL [] L0).drew) (Au a (j+1)) (Be HV) (HO.seen HV OB));have e0:=FP.cell 0;have e1:=FP.cell 1;have e2:=FP.cell 2;simp at e0 e1 e2;(have q1:¬A=l:=by omega);(have q2:¬l=A:=by omega);(have HC:kt (∀EK,Ac [b] L0.drew EK->AF EK l [X J 0,O ⟨#[]⟩,U Y 0 0] 116/\AF EK A [X J m.place,O m.text,U (V ⟨v,0,Y⟩) (Z d+1) y] 116):=λEK k=>⟨NV.drew.kept k (by simp;omega),FP.drew.kept k (by simp;omega)⟩);clear HL HT HS HJ;go_wp2_with fail
      go_region_held3 (λF=>ku F ⟨A,0,Y⟩=V (X J m.place)/\ku F ⟨A,1,Y⟩=V (O m.text)/\ku F ⟨A,2,Y⟩=V (U (V ⟨v,0,Y⟩) (Z d+1) y)) (go_keep) ((go_at_call 105;refine a7.mono ?_;rintro e EK ⟨rfl,Q,FL⟩;have H:=Aa HC EK FL;have f0:=H.2.cell 0;have f1:=H.2.cell 1;have f2:=H.2.cell 2;have p0:=H.1.cell 0;have p1:=H.1.cell 1;have p2:=H.1.cell 2;have pf:=H.1.frozen;simp at f0 f1 f2 p0 p1 p2;have W2:=Ab (And.intro Q (And.intro FL H));clear Q FL H))
      rename_i TL;clear TL;go_wp2;obtain⟨Q,FL,H,_⟩:=W2;have CL:=H.zT rfl (X J m.place) (O m.text) (U (V ⟨v,0,Y⟩) (Z d+1) y);have RO:Ac [b] w EK:=SJ.drew.trans FL;refine fL (An (P:=prog) (fn:=Tryz.f99) (p:=2) (u:=3) rfl rfl CL underlying116 rfl (by kernel_rfl)) rfl ?_;cases hcl:BE (Au a (j+1)) OB with
      |true=>
       rw[hcl]at Q;have hA:=Aa OH;rw[hcl]at hA;simp only[if_true]at Q hA;rw[Aa Jx _ hA];have W3:=Am (CN JJ) FL (λi E f=>by simp at f;subst f;have:=(JJ.lt _ E).1;omega);(have IS:(U (V ⟨v,0,Y⟩) (Z d+1) y).ownBlock≠V l:=by simp[kF];omega);refine⟨U (V ⟨v,0,Y⟩) (Z d+1) y,A+1,rfl,by omega,?_,?_,?_⟩
       .have ho:=Af (Af (Af W3 (p:=⟨l,0,Y⟩) IS (X J m.place)) (p:=⟨l,1,Y⟩) IS (O m.text)) (p:=⟨l,2,Y⟩) IS (U (V ⟨v,0,Y⟩) (Z d+1) y);simpa using ho
       .exact Q.zT (by omega) (EM l (by omega)) _ _ _
       .exact RO.zT (by right;omega) _ _ _
      |false=>
       rw[hcl]at Q;have hA:=Aa OH;rw[hcl]at hA;simp only[fq,if_false]at Q hA;rw[Aa Jx _ hA];refine⟨j+1,m.place,m.text,V ⟨v,0,Y⟩,Z d+1,y,rfl,?_,?_⟩
       .exact Q.zT (by omega) (EM l (by omega)) _ _ _
       .exact RO.zT (by right;omega) _ _ _
def WE:zA:=⟨#[33]⟩
abbrev Zt:Type:=(Int×Int×Nat×zA×kJ AO)⊕Zq
def Hh(ms:kJ A0)(nx:Nat):Except Int (Zt×Nat):=
 if BE (Au ms nx) WE then
  match ET ms (nx+1)with
  | .error p=> .error p
  | .ok (a,n)=> .ok (.inl ((Au ms nx).place,1,a),n)
 else if Er ms nx then
  match ET ms nx with
  | .error p=> .error p
  | .ok (a,n)=> .ok (.inl ((Au ms nx).place,0,a),n)
 else
  match Hf ms nx with
  | .error p=> .error p
  | .ok (l,n)=> .ok (.inr l,n)
def KU(h:kw w m T k z n y)(a:z.ownBlock≠V i)(g f e c j l d o b:ks):kw (((((((((w.setCell ⟨i,0,Y⟩ g).setCell ⟨i,1,Y⟩ f).setCell ⟨i,2,Y⟩ e).setCell ⟨i,3,Y⟩ c).setCell ⟨i,4,Y⟩ j).setCell ⟨i,5,Y⟩ l).setCell ⟨i,6,Y⟩ d).setCell ⟨i,7,Y⟩ o).setCell ⟨i,8,Y⟩ b) m T k z n y:=
 (Af (Af (Af (Af (Af (Af (Af (Af (Af h (p:=⟨i,0,Y⟩) a g) (p:=⟨i,1,Y⟩) a f) (p:=⟨i,2,Y⟩) a e) (p:=⟨i,3,Y⟩) a c) (p:=⟨i,4,Y⟩) a j) (p:=⟨i,5,Y⟩) a l) (p:=⟨i,6,Y⟩) a d) (p:=⟨i,7,Y⟩) a o) (p:=⟨i,8,Y⟩) a b)
def WI(b:Nat)(mv:ks)(ms:kJ A0)(br:Int)(w:kq)(e:Ending)(w':kq):Except Int (Zt×Nat)->Prop
 | .ok (.inl (pl,so,p,s,ts),nx)=>∃tv base,e=j3 (.tuple #[kx (j1 (Ay ⟨pl,so,⟨p,s,tv⟩,AD,AD⟩)),k0 hG])/\w.heap.size<=base/\kw w' base 164 2 tv (Z ts) (ts.flatMap Ap)/\Ch w' b mv ms nx br/\Ac [b] w w'
 | .ok (.inr l,nx)=>e=j3 (.tuple #[kx (j1 (Ay l)),k0 hG])/\Ch w' b mv ms nx br/\Ac [b] w w'
 | .error p=>∃nx l,(∃ad n cp,l.atom.tv=U ad n cp)/\e=j3 (.tuple #[kx (j1 (Ay l)),k0 K])/\Ch w' b mv ms nx p/\Ac [b] w w'
theorem aJ(b:Nat)(W:ks)(f:kJ A0)(g:Nat)(br:Int)(w:kq)(h:Ch w b W f g br)(ok:UV f):
  Calls prog 131 #[j2 (V ⟨b,0,Y⟩)] w λe w'=>WI b W f br w e w' (Hh f g):=by
 have HO:=Ab ok;have LM:=h.zK.lt;have K2:∀k,W.ownBlock=V k->k<w.heap.size:=λk hk=>(h.row.lt k hk).2
 have h1:=Ab (h.zJ ((kL [] w).alloc (jj (j1 (Ay B2)) 166)));have hN:=Ab (kN w (Ay B2) 166);have IJ:=Ab ((kL [b] w).alloc (jj (j1 (Ay B2)) 166));have Jx:(w.alloc (jj (j1 (Ay B2)) 166)).heap.size=w.heap.size+1:=by simp
 clear h ok;go_enter func131,ntmps131;go_wp2_with fail
 change Calls _ _ _ (w.alloc (jj (j1 (Ay B2)) 166)) _;generalize w.alloc (jj (j1 (Ay B2)) 166)=w1 at h1 hN IJ Jx⊢;obtain⟨N,KK⟩:=kK w.heap.size;rw[KK]at hN LM Jx K2⊢;have i:kt (∀k,N<=k->W.ownBlock≠V k):=λk hk e=>by have:=K2 k e;omega
 clear K2;have HN:=Ab KK;clear KK;refine(JY b W f g br _ h1 (Au f g) (Be h1.lt)).mono ?_;rintro e w2 ⟨rfl,k2⟩;have h2:=Ab (h1.zJ k2);have K4:=Ab (hN.kept k2);have K9:=Ab (IJ.trans (k2.mono (by simp)));have LE:N+1<=w2.heap.size:=by have:=k2.size;omega
 clear h1 hN IJ Jx k2;obtain⟨p,hp⟩:=kK (Au f g).place;have HP:=Ab hp;rw[hp];clear hp;go_wp2_with fail
 change Calls _ _ _ (w2.alloc (jj (j1 (Ay ⟨p,0,AW,AD,AD⟩)) 166)) _;have h3:=Ab (h2.zJ ((kL [] w2).alloc (jj (j1 (Ay ⟨p,0,AW,AD,AD⟩)) 166)));have Ix:=Ab (K4.alloc (jj (j1 (Ay ⟨p,0,AW,AD,AD⟩)) 166));have H1:=Ab (kN w2 (Ay ⟨p,0,AW,AD,AD⟩) 166);have IS:=Ab (K9.alloc (jj (j1 (Ay ⟨p,0,AW,AD,AD⟩)) 166));clear h2 K4 K9;generalize w2.alloc (jj (j1 (Ay ⟨p,0,AW,AD,AD⟩)) 166)=w3 at h3 Ix H1 IS⊢;obtain⟨L,LB⟩:=kK w2.heap.size;rw[LB]at H1 LE⊢;clear LB;refine(Gv b W f g br WE _ h3 (Au f g) (Be h3.lt) (HO.seen h3.lt WE)).mono ?_;rintro e w4 ⟨rfl,h4,k4⟩;have H3:=Ab (Ix.kept k4 (by simp;omega));have FT:=Ab (H1.kept k4 (by simp;omega));have H2:=Ab (IS.trans k4);clear h3 Ix H1 IS k4;cases hs:BE (Au f g) WE with
 |true=>
  rw[hs]at h4;simp only[if_true]at h4;have HS:=Ab hs;have l1:=FT.cell 1;have lf:=FT.frozen;simp[Ay]at l1;have H4:=Ab h4;clear h4 hs;go_wp2_with fail
  have K6:=Aa i;have CW:=Aa HN;have Ha:=Ab (H4.other (p:=⟨L,1,Y⟩) (by simp;omega) (K6 L (by omega)) (X J 1));have x:=Ab (H3.zB ⟨L,1,Y⟩ (by simp;omega) (X J 1));have t:kt (AF (w4.setCell ⟨L,1,Y⟩ (X J 1)) L (Ay ⟨p,1,AW,AD,AD⟩) 166):=FT.set 1 _;have T:=Ab (H2.setCell (p:=⟨L,1,Y⟩) (by right;simp;omega) (X J 1));clear l1 lf H3 FT H2 K6 CW H4;generalize w4.setCell ⟨L,1,Y⟩ (X J 1)=wa at Ha x t T⊢;have LS:=x.lt;have Mo:=t.lt;refine(Ns b W f (g+1) br _ Ha HO).mono ?_;intro e w6 o;clear Ha;cases ht:ET f (g+1)with
  |error q=>
   rw[ht]at o;obtain⟨n9,ap,an,j,BA,m,rfl,n,d⟩:=o;(have B:kt (Hh f g=.error q):=by show _=_;unfold Hh;simp[HS.out,ht]);clear ht;have a:=x.kept d (by simp;omega);have c:=t.kept d (by simp;omega);have C:=Ab (T.trans d);have l0:=c.cell 0;have l1:=c.cell 1;have l2:=c.cell 2;have l3:=c.cell 3;have l4:=c.cell 4;have l5:=c.cell 5;have l6:=c.cell 6;have l7:=c.cell 7;have l8:=c.cell 8;have lf:=c.frozen;have nf:=a.frozen;have I:=a.cell 0;have D:=a.cell 1;have y:=a.cell 2;have E:=a.cell 3;have H:=a.cell 4;have S:=a.cell 5;have F:=a.cell 6;have Q:=a.cell 7;have A:=a.cell 8;simp[Ay,B2,AW,AD]at l0 I l1 D l2 y l3 E l4 H l5 S l6 F l7 Q l8 A;(have q1:¬L=N:=by omega);(have q2:¬N=L:=by omega);have M:=Ab a;have R:=Ab n;clear a c n d x t T;simp only[AL];go_wp2;rw[B.out];have G:=(((M.zB ⟨L,2,Y⟩ (by simp;omega) (X J ap)).zB ⟨L,3,Y⟩ (by simp;omega) (O an)).zB ⟨L,4,Y⟩ (by simp;omega) (U j BA m)).zG rfl (X J p) (X J 1) (X J ap) (O an) (U j BA m) (X ky 0) (O kB) (X ky 0) (O kB);refine fL (An (P:=prog) (fn:=Tryz.f131) (p:=2) (u:=3) rfl rfl G underlying166 rfl (by kernel_rfl)) rfl ?_;refine⟨n9,⟨p,1,⟨ap,an,U j BA m⟩,AD,AD⟩,⟨_,_,_,rfl⟩,rfl,?_,?_⟩
   .exact(((R.other (p:=⟨L,2,Y⟩) (by simp;omega) (i L (by omega)) _).other (p:=⟨L,3,Y⟩) (by simp;omega) (i L (by omega)) _).other (p:=⟨L,4,Y⟩) (by simp;omega) (i L (by omega)) _).zG (by omega) (i N (by omega)) _ _ _ _ _ _ _ _ _
   .have CW:=Aa HN;exact(((C.setCell (p:=⟨L,2,Y⟩) (by right;simp;omega) _).setCell (p:=⟨L,3,Y⟩) (by right;simp;omega) _).setCell (p:=⟨L,4,Y⟩) (by right;simp;omega) _).zG (by right;omega) _ _ _ _ _ _ _ _ _
  |ok r=>
   obtain⟨⟨pp,ss,z⟩,n2⟩:=r;rw[ht]at o;obtain⟨tv,HT,rfl,LL,AH,n,d⟩:=o;obtain⟨j,m,rfl⟩:=Aj AH;(have B:kt (Hh f g=.ok (.inl (p,1,pp,ss,z),n2)):=by show _=_;unfold Hh;simp[HS.out,ht,HP.out]);have FC:kt (_/\(∀k,k<HT->(U j (Z z) m).ownBlock≠V k)):=⟨AH,λk hk e=>by have:=(AH.lt k e).1;omega⟩;clear ht AH;have a:=x.kept d (by simp;omega);have c:=t.kept d (by simp;omega);have C:=Ab (T.trans d);have l0:=c.cell 0;have l1:=c.cell 1;have l2:=c.cell 2;have l3:=c.cell 3;have l4:=c.cell 4;have l5:=c.cell 5;have l6:=c.cell 6;have l7:=c.cell 7;have l8:=c.cell 8;have lf:=c.frozen;have nf:=a.frozen;have I:=a.cell 0;have D:=a.cell 1;have y:=a.cell 2;have E:=a.cell 3;have H:=a.cell 4;have S:=a.cell 5;have F:=a.cell 6;have Q:=a.cell 7;have A:=a.cell 8;simp[Ay,B2,AW,AD]at l0 I l1 D l2 y l3 E l4 H l5 S l6 F l7 Q l8 A;(have q1:¬L=N:=by omega);(have q2:¬N=L:=by omega);have M:=Ab a;have R:=Ab n;clear a c n d x t T;simp only[AL];go_wp2;rw[B.out];have G:=(((M.zB ⟨L,2,Y⟩ (by simp;omega) (X J pp)).zB ⟨L,3,Y⟩ (by simp;omega) (O ss)).zB ⟨L,4,Y⟩ (by simp;omega) (U j (Z z) m)).zG rfl (X J p) (X J 1) (X J pp) (O ss) (U j (Z z) m) (X ky 0) (O kB) (X ky 0) (O kB);refine fL (An (P:=prog) (fn:=Tryz.f131) (p:=2) (u:=3) rfl rfl G underlying166 rfl (by kernel_rfl)) rfl ?_;have FO:=FC.out.2 L (by omega);have K3:=FC.out.2 N (by omega);refine⟨U j (Z z) m,HT,rfl,by have:=Aa HN;omega,?_,?_,?_⟩
   .exact KU (Af (Af (Af FC.out.1 (p:=⟨L,2,Y⟩) FO _) (p:=⟨L,3,Y⟩) FO _) (p:=⟨L,4,Y⟩) FO _) K3 _ _ _ _ _ _ _ _ _
   .exact(((R.other (p:=⟨L,2,Y⟩) (by simp;omega) (i L (by omega)) _).other (p:=⟨L,3,Y⟩) (by simp;omega) (i L (by omega)) _).other (p:=⟨L,4,Y⟩) (by simp;omega) (i L (by omega)) _).zG (by omega) (i N (by omega)) _ _ _ _ _ _ _ _ _
   .have CW:=Aa HN;exact(((C.setCell (p:=⟨L,2,Y⟩) (by right;simp;omega) _).setCell (p:=⟨L,3,Y⟩) (by right;simp;omega) _).setCell (p:=⟨L,4,Y⟩) (by right;simp;omega) _).zG (by right;omega) _ _ _ _ _ _ _ _ _
 |false=>
  rw[hs]at h4;simp only[fq,if_false]at h4;have HS:=Ab hs;have H4:=Ab h4;clear h4 hs;go_wp2_with fail
  refine(Ss b W f g br _ H4 HO).mono ?_;rintro e w5 ⟨rfl,k5⟩;have H5:=Ab (H4.zJ k5);have Go:=Ab (H3.kept k5);have H7:=Ab (FT.kept k5);have HC:=Ab (H2.trans (k5.mono (by simp)));clear H4 H3 FT H2 k5;cases ha:Er f g with
  |true=>
   have HA:=Ab ha;clear ha;(go_wp2_with fail);have Ha:=H5;have x:=Go;have t:=H7;have T:=HC;clear H5 Go H7 HC;have LS:=x.lt;have Mo:=t.lt;refine(Ns b W f g br _ Ha HO).mono ?_;intro e w6 o;clear Ha;cases ht:ET f g with
   |error q=>
    rw[ht]at o;obtain⟨n9,ap,an,j,BA,m,rfl,n,d⟩:=o;(have B:kt (Hh f g=.error q):=by show _=_;unfold Hh;simp[HS.out,HA.out,ht]);clear ht;have a:=x.kept d (by simp;omega);have c:=t.kept d (by simp;omega);have C:=Ab (T.trans d);have l0:=c.cell 0;have l1:=c.cell 1;have l2:=c.cell 2;have l3:=c.cell 3;have l4:=c.cell 4;have l5:=c.cell 5;have l6:=c.cell 6;have l7:=c.cell 7;have l8:=c.cell 8;have lf:=c.frozen;have nf:=a.frozen;have I:=a.cell 0;have D:=a.cell 1;have y:=a.cell 2;have E:=a.cell 3;have H:=a.cell 4;have S:=a.cell 5;have F:=a.cell 6;have Q:=a.cell 7;have A:=a.cell 8;simp[Ay,B2,AW,AD]at l0 I l1 D l2 y l3 E l4 H l5 S l6 F l7 Q l8 A;(have q1:¬L=N:=by omega);(have q2:¬N=L:=by omega);have M:=Ab a;have R:=Ab n;clear a c n d x t T;simp only[AL];go_wp2;rw[B.out];have G:=(((M.zB ⟨L,2,Y⟩ (by simp;omega) (X J ap)).zB ⟨L,3,Y⟩ (by simp;omega) (O an)).zB ⟨L,4,Y⟩ (by simp;omega) (U j BA m)).zG rfl (X J p) (X J 0) (X J ap) (O an) (U j BA m) (X ky 0) (O kB) (X ky 0) (O kB);refine fL (An (P:=prog) (fn:=Tryz.f131) (p:=2) (u:=3) rfl rfl G underlying166 rfl (by kernel_rfl)) rfl ?_;refine⟨n9,⟨p,0,⟨ap,an,U j BA m⟩,AD,AD⟩,⟨_,_,_,rfl⟩,rfl,?_,?_⟩
    .exact(((R.other (p:=⟨L,2,Y⟩) (by simp;omega) (i L (by omega)) _).other (p:=⟨L,3,Y⟩) (by simp;omega) (i L (by omega)) _).other (p:=⟨L,4,Y⟩) (by simp;omega) (i L (by omega)) _).zG (by omega) (i N (by omega)) _ _ _ _ _ _ _ _ _
    .have CW:=Aa HN;exact(((C.setCell (p:=⟨L,2,Y⟩) (by right;simp;omega) _).setCell (p:=⟨L,3,Y⟩) (by right;simp;omega) _).setCell (p:=⟨L,4,Y⟩) (by right;simp;omega) _).zG (by right;omega) _ _ _ _ _ _ _ _ _
   |ok r=>
    obtain⟨⟨pp,ss,z⟩,n2⟩:=r;rw[ht]at o;obtain⟨tv,HT,rfl,LL,AH,n,d⟩:=o;obtain⟨j,m,rfl⟩:=Aj AH;(have B:kt (Hh f g=.ok (.inl (p,0,pp,ss,z),n2)):=by show _=_;unfold Hh;simp[HS.out,HA.out,ht,HP.out]);have FC:kt (_/\(∀k,k<HT->(U j (Z z) m).ownBlock≠V k)):=⟨AH,λk hk e=>by have:=(AH.lt k e).1;omega⟩;clear ht AH;have a:=x.kept d (by simp;omega);have c:=t.kept d (by simp;omega);have C:=Ab (T.trans d);have l0:=c.cell 0;have l1:=c.cell 1;have l2:=c.cell 2;have l3:=c.cell 3;have l4:=c.cell 4;have l5:=c.cell 5;have l6:=c.cell 6;have l7:=c.cell 7;have l8:=c.cell 8;have lf:=c.frozen;have nf:=a.frozen;have I:=a.cell 0;have D:=a.cell 1;have y:=a.cell 2;have E:=a.cell 3;have H:=a.cell 4;have S:=a.cell 5;have F:=a.cell 6;have Q:=a.cell 7;have A:=a.cell 8;simp[Ay,B2,AW,AD]at l0 I l1 D l2 y l3 E l4 H l5 S l6 F l7 Q l8 A;(have q1:¬L=N:=by omega);(have q2:¬N=L:=by omega);have M:=Ab a;have R:=Ab n;clear a c n d x t T;simp only[AL];go_wp2;rw[B.out];have G:=(((M.zB ⟨L,2,Y⟩ (by simp;omega) (X J pp)).zB ⟨L,3,Y⟩ (by simp;omega) (O ss)).zB ⟨L,4,Y⟩ (by simp;omega) (U j (Z z) m)).zG rfl (X J p) (X J 0) (X J pp) (O ss) (U j (Z z) m) (X ky 0) (O kB) (X ky 0) (O kB);refine fL (An (P:=prog) (fn:=Tryz.f131) (p:=2) (u:=3) rfl rfl G underlying166 rfl (by kernel_rfl)) rfl ?_;have FO:=FC.out.2 L (by omega);have K3:=FC.out.2 N (by omega);refine⟨U j (Z z) m,HT,rfl,by have:=Aa HN;omega,?_,?_,?_⟩
    .exact KU (Af (Af (Af FC.out.1 (p:=⟨L,2,Y⟩) FO _) (p:=⟨L,3,Y⟩) FO _) (p:=⟨L,4,Y⟩) FO _) K3 _ _ _ _ _ _ _ _ _
    .exact(((R.other (p:=⟨L,2,Y⟩) (by simp;omega) (i L (by omega)) _).other (p:=⟨L,3,Y⟩) (by simp;omega) (i L (by omega)) _).other (p:=⟨L,4,Y⟩) (by simp;omega) (i L (by omega)) _).zG (by omega) (i N (by omega)) _ _ _ _ _ _ _ _ _
    .have CW:=Aa HN;exact(((C.setCell (p:=⟨L,2,Y⟩) (by right;simp;omega) _).setCell (p:=⟨L,3,Y⟩) (by right;simp;omega) _).setCell (p:=⟨L,4,Y⟩) (by right;simp;omega) _).zG (by right;omega) _ _ _ _ _ _ _ _ _
  |false=>
   have HA:=Ab ha;clear ha;(go_wp2_with fail);refine(cI b W f g br _ H5 HO).mono ?_;intro e w6 o;clear H5;cases ht:Hf f g with
   |error q=>
    rw[ht]at o;obtain⟨n9,l,HY,rfl,n,d⟩:=o;obtain⟨lp,ls,la,ll,lr⟩:=l;simp only at HY;subst HY;(have B:kt (Hh f g=.error q):=by show _=_;unfold Hh;simp[HS.out,HA.out,ht]);clear ht;have a:=Go.kept d (by simp;omega);have C:=Ab (HC.trans d);have nf:=a.frozen;have I:=a.cell 0;have D:=a.cell 1;have y:=a.cell 2;have E:=a.cell 3;have H:=a.cell 4;have S:=a.cell 5;have F:=a.cell 6;have Q:=a.cell 7;have A:=a.cell 8;simp[Ay,B2,AW,AD]at I D y E H S F Q A;have M:=Ab a;have R:=Ab n;clear a n d Go H7 HC;simp only[Ay,AW];go_wp2;rw[B.out];have G:=M.zG rfl (X J lp) (X J ls) (X J 0) (O kB) (U Y 0 0) (X ky ll.v) (O ll.s) (X ky lr.v) (O lr.s);refine fL (An (P:=prog) (fn:=Tryz.f131) (p:=2) (u:=3) rfl rfl G underlying166 rfl (by kernel_rfl)) rfl ?_;refine⟨n9,⟨lp,ls,AW,ll,lr⟩,⟨_,_,_,rfl⟩,rfl,?_,?_⟩
    .exact R.zG (by omega) (i N (by omega)) _ _ _ _ _ _ _ _ _
    .have CW:=Aa HN;exact C.zG (by right;omega) _ _ _ _ _ _ _ _ _
   |ok r=>
    obtain⟨l,n2⟩:=r;rw[ht]at o;have HY:=R1 ht;obtain⟨lp,ls,la,ll,lr⟩:=l;simp only at HY;subst HY;obtain⟨rfl,n,d⟩:=o;(have B:kt (Hh f g=.ok (.inr ⟨lp,ls,AW,ll,lr⟩,n2)):=by show _=_;unfold Hh;simp[HS.out,HA.out,ht]);clear ht;have a:=Go.kept d (by simp;omega);have C:=Ab (HC.trans d);have nf:=a.frozen;have I:=a.cell 0;have D:=a.cell 1;have y:=a.cell 2;have E:=a.cell 3;have H:=a.cell 4;have S:=a.cell 5;have F:=a.cell 6;have Q:=a.cell 7;have A:=a.cell 8;simp[Ay,B2,AW,AD]at I D y E H S F Q A;have M:=Ab a;have R:=Ab n;clear a n d Go H7 HC;simp only[Ay,AW];go_wp2;rw[B.out];have G:=M.zG rfl (X J lp) (X J ls) (X J 0) (O kB) (U Y 0 0) (X ky ll.v) (O ll.s) (X ky lr.v) (O lr.s);refine fL (An (P:=prog) (fn:=Tryz.f131) (p:=2) (u:=3) rfl rfl G underlying166 rfl (by kernel_rfl)) rfl ?_;refine⟨rfl,?_,?_⟩
    .exact R.zG (by omega) (i N (by omega)) _ _ _ _ _ _ _ _ _
    .have CW:=Aa HN;exact C.zG (by right;omega) _ _ _ _ _ _ _ _ _
end Go.Proofs.YtoihbhenbmffcaaGreat
namespace Go.Proofs.YtoihbhenbmffcaaGreat
open Go.RowKit Go.Proofs.Tryz
section
variable {P:Program} {ops:Array Oper} {Q:Exit->Act->kq->Prop} {md:Region.Mode} {S:kq->Prop} {k:Nat}
def Ci(P:Program)(md:Region.Mode)(ops:Array Oper)(Q:Exit->Act->kq->Prop)(S:kq->Prop)(k:Nat):Nat->Array Bool->Act->kq->Prop
 |0,listed,a,w=>Region.ready md ops listed=[]/\Q .normal a w
 |fuel+1,listed,a,w=>(Region.ready md ops listed=[]->Q .normal a w)/\
  ∀i∈Region.ready md ops listed,wpOp P ops Q i (λa' w'=>(i≠k->S w')/\Ci P md ops Q S k fuel (listed.setIfInBounds i hG) a' w') a w
def Ci.any:∀(b:Nat) (c:Array Bool) (a:Act) (w:kq),Ci P md ops Q S k b c a w->wpAny P md ops Q b c a w
 |0,_,_,_,h=>h
 |b+1,_,_,_,h=>⟨h.1,λi g=>wpOp_mono (λf e d=>Ci.any b _ f e d.2) (h.2 i g)⟩
def Tj(md:Region.Mode)(ops:Array Oper)(k i:Nat):Bool:=match ops[k]? with|some o=>o.after.any λe=>Region.binds md e&&e.on==i|none=>K
def YM{i:Nat}{b:Array Bool}(h:Tj md ops k i=hG)(f:b.getD i hG=K):k∉Region.ready md ops b:=λg=>by
 obtain⟨_,o,l,j⟩:=mem_ready.1 g;unfold Tj at h;rw[l]at h;obtain⟨e,m,d⟩:=Array.any_eq_true'.1 h;simp only[fU,iF]at d;have a:=j e m d.1;rw[d.2]at a;rcases Nat.lt_or_ge i b.size with c|c
 .simp[c]at f a;rw[f]at a;cases a
 .simp[jX c]at a
def Ci.first{i:Nat}{n:Oper}{v:ks}(B:ops[i]?=V n)(G:∀(j:Nat) (o:Oper) p b,ops[j]?=V o->o.op≠ .select p b)
  (T:∀c a w,Q (.panic c) (a.put n.dst v) w->Q (.panic c) a w) (W:Tj md ops k i=hG):
  ∀(r:Nat) (f:Array Bool) (a:Act) (w:kq),
   (∀j m,ops[j]?=V m->j≠i->f.getD j hG=K->(∀e∈m.after,Region.binds md e=hG->e.on≠i)->n.apart ops m=hG)->
   i∈Region.ready md ops f->YieldsIf P ops S n v a->S w->
   Ci P md ops Q S k r (f.setIfInBounds i hG) (a.put n.dst v) w->Ci P md ops Q S k (r+1) f a w:=by
 intro r
 induction r with
 |zero=>
  intro f a w _ l u t H;refine⟨λh=>(by rw[h]at l;cases l),λj s=>?_⟩;by_cases d:j=i
  .subst d;exact u.wpOp B t ⟨λ_=>t,H⟩
  .have:=ready_mono s d;rw[H.1]at this;cases this
 |succ r ih=>
  intro f a w E l u t H;have A:=(mem_ready.1 l).1;refine⟨λh=>(by rw[h]at l;cases l),λj s=>?_⟩;by_cases d:j=i
  .subst d;exact u.wpOp B t ⟨λ_=>t,H⟩
  ·(have D:j≠k:=λe=>YM W A (e▸s));have h1:=H.2 j (ready_mono s d);obtain⟨C,m,y,Bx⟩:=mem_ready.1 s;have AB:∀e∈m.after,Region.binds md e=hG->e.on≠i:=λe he N R=>by
    have g:=Bx e he N;rw[R]at g;rcases Nat.lt_or_ge i f.size with z|z
    .simp[z]at A g;rw[A]at g;cases g
    .simp[jX z]at g
   have g:=wpOp_putIf y (E j m y d C AB) (λp b=>G i n p b B) (λp b=>G j m p b y) T u h1;refine wpOp_mono (λa' M x=>⟨λ_=>x.2.1 D,ih (f.setIfInBounds j hG) a' M (λq oq hq AT I L=>E q oq hq AT ?_ L) (ready_mono l (Ne.symm d)) x.1 (x.2.1 D) ?_⟩) g
   .by_cases F:j=q
    .subst F;exact C
    .rw[getD_set_ne hG F]at I;exact I
   .rw[Array.setIfInBounds_comm _ _ d];exact x.2.2
def Ci.take{i:Nat}{d:Oper}{v:ks}{e:Nat}{b:Array Bool}{a:Act}{w:kq}(f:ops[i]?=V d)
  (o:Region.noSelect ops=hG) (g:Region.free md ops b i=hG) (n:(Region.ready md ops b).contains i=hG) (j:Tj md ops k i=hG)
  (p:∀c a w,Q (.panic c) (a.put d.dst v) w->Q (.panic c) a w) (m:S w) (l:YieldsIf P ops S d v a)
  (h:Ci P md ops Q S k e (b.setIfInBounds i hG) (a.put d.dst v) w):Ci P md ops Q S k (e+1) b a w:=
 Ci.first f (Region.noSelect_spec o) p j e b a w (Region.free_spec f g) (by simpa using n) l m h
def eR(md:Region.Mode)(ops:Array Oper)(listed:Array Bool)(i:Nat)(b:Bool):Bool:=Region.noSelect ops&&Region.free md ops listed i&&(Region.ready md ops listed).contains i&&b
def Ci.tk{i:Nat}{d:Oper}{v:ks}{f:Nat}{e:Array Bool}{a:Act}{w:kq}(n:ops[i]?=V d)(b:eR md ops e i (Tj md ops k i)=hG)
  (m:∀c a w,Q (.panic c) (a.put d.dst v) w->Q (.panic c) a w) (l:kt (S w)) (g:Region.wanted d (yielded ops a.tmps)=hG) (j:∀w,S w->(execOp a.eval d).run P w=.ok (.value v) w)
  (h:Ci P md ops Q S k f (e.setIfInBounds i hG) (a.put d.dst v) w):Ci P md ops Q S k (f+1) e a w:=by
 unfold eR at b;simp only[fU]at b;exact Ci.take n b.1.1.1 b.1.1.2 b.1.2 b.2 m l (kn ⟨g,j⟩) h
theorem Ci.tq{i:Nat}{b:Oper}{v:ks}{e:Nat}{d:Array Bool}{a:Act}{w:kq}(n:ops[i]?=V b)(g:∀c a w,Q (.panic c) (a.put b.dst v) w->Q (.panic c) a w)(l:kt (S w))(h:Ci P md ops Q S k e (d.setIfInBounds i hG) (a.put b.dst v) w)(m:eR md ops d i (Tj md ops k i)=hG:=by kernel_rfl)(f:Region.wanted b (yielded ops a.tmps)=hG:=by rfl)
  (j:∀w,S w->(execOp a.eval b).run P w=.ok (.value v) w:=by(intro o p;(try go_split_ands);go_simp)):Ci P md ops Q S k (e+1) d a w:=Ci.tk n m g l f j h
def Bk{Q:Exit->Act->kq->Prop}(h:kt (∀c a w,¬Q (.panic c) a w)){d:Option Tmp}{v:ks}:∀c a w,Q (.panic c) (Act.put a d v) w->Q (.panic c) a w:=λ_ _ _ b=>absurd b (h _ _ _)
def Ci.one{i:Nat}{o:Oper}{m:Nat}{e:Array Bool}{a:Act}{w:kq}(n:Region.ready md ops e=[i])(q:ops[i]?=V o)
  (h:∀f:Act->kq->Prop,kt (∀l c,(i≠k->S c)->Ci P md ops Q S k m (e.setIfInBounds i hG) l c->f l c)->
   if Region.wanted o (yielded ops a.tmps)=hG then o.wp P a w f Q else f (a.put o.dst undef) w):Ci P md ops Q S k (m+1) e a w:=by
 refine⟨λp=>(by rw[n]at p;cases p),λj g=>?_⟩;rw[n]at g;simp only[ft]at g;subst g;have b:=h _ (λl c r b=>And.intro r b);unfold wpOp;simp only[q];split
 .rename_i d;rw[fF d]at b;exact .inl b
 .rename_i d;rw[fB d]at b;exact b
def Ci.done{b:Array Bool}{a:Act}{w:kq}(c:Region.ready md ops b=[])(h:Q .normal a w):∀d,Ci P md ops Q S k d b a w
 |0=>⟨c,h⟩
 |_+1=>⟨λ_=>h,by rw[c];simp⟩
def Cn{b:Nat}{a:Act}{w:kq}(k:Nat)(S:kq->Prop)(c:P.follows .mixedOrders=hG)
  (h:Ci P .any ops Q S k ops.size (Array.replicate ops.size K) a w.drew):(Code.region b ops hG).wp P Q a w:=
 wp_region_any c (Ci.any _ _ _ _ h)
end
end Go.Proofs.YtoihbhenbmffcaaGreat
namespace Go.Proofs.YtoihbhenbmffcaaGreat
open Go.RowKit Go.Proofs.Tryz
set_option maxRecDepth 100000
theorem Yi(E:kJ ks)(j:Nat)(x:zA)(w:kq)(c:Z E=26)(p:j<26)(q:(kx (j1 E)).cells=j1 E)(g:∀v∈E,v.oneCell'=hG):
  Calls prog 163 #[kx (j1 E),X ky ((j:Int)+65),O x] w λr k=>r=j3 (kx (j1 (E.set j (O x))))/\Ac [] w k:=by
 have m:IntKind.i32.wrap (j:Int)=j:=by rw[IntKind.wrap_i32];omega
 have s:IntKind.i32.wrap ((j:Int)+65-65)=j:=by rw[show(j:Int)+65-65=j by omega];exact m
 have n:(0:Int)<=(j:Int):=by omega
 have o:(j:Int)<26:=by omega
 have i:kt (∀v∈E.set j (O x),v.oneCell'=hG):=by
  intro v l;rcases List.mem_or_eq_of_mem_set l with h|rfl
  .exact g v h
  .rfl
 have a:kt (Z (E.set j (O x))=26):=by show _=_;simp[c]
 have d:kt ((E.set j (O x)).toArray.size=26):=by show _=_;simp[c]
 go_enter func163,ntmps163;go_wp2_with (first|(refine iq rfl 244 _ rfl w.heap.size 0 (by rfl) (E.set j (O x)) _ ?_ underlying244 rfl ?_ ?_)|(refine iJ rfl 244 _ _ rfl (w.heap.size+1) 0 (j1 (E.set j (O x))) (by rfl) (by rfl) ?_ ?_ ?_ ?_))
 .exact((kN w (E.set j (O x)) 244).alloc _).range
 .rw[Aa a];exact Tryz.size244
 .have h:=(kN (w.alloc (jj (j1 (E.set j (O x))) 244)) (kD 26 (O ⟨#[]⟩)) 244).there;simp only[iI,fY]at h;rw[Aa d];exact h
 .rw[Aa d];exact Tryz.size244
 .exact gZ i
 .have e:=(kN (w.alloc (jj (j1 (E.set j (O x))) 244)) (kD 26 (O ⟨#[]⟩)) 244).zO (E.set j (O x)) (by rw[Aa a];simp);have f:=((((kL [] w).alloc (jj (j1 (E.set j (O x))) 244)).alloc (jj (j1 (kD 26 (O ⟨#[]⟩))) 244)).zI (b:=w.heap.size+1) (kp (by omega)) (E.set j (O x)) 0);simp only[fY]at e;refine fL (BK (b:=w.heap.size+1) rfl (by rfl) e underlying244 rfl (by rw[Aa a];exact Tryz.size244)) rfl ⟨rfl,f⟩
