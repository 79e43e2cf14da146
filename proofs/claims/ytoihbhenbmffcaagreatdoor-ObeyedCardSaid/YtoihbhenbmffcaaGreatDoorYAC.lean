import Derived.Deep.RegionHeld3
import Derived.Test.YtoihbhenbmffcaaGreatDoorYAA
set_option linter.all false
set_option maxHeartbeats 0
open List renaming length->Z,toArray->j3,replicate->lV
open Option renaming none->Y,some->V
open Go.Value renaming slice->U,int->X,string->O,pointer->kt,agg->lR,bool->lT,ownBlock->lX
open Bool renaming false->K,true->j1
open Go.IntKind renaming i64->J,i32->lS
open Go.Obj renaming cells->j2
open Go.Ending renaming returned->lo
open Or renaming inl->lx,inr->ly
open Go renaming World->l9,Value->lN
open Go.RowKit renaming Hid->lO
open Go.World renaming cell?->lP,ownsRow->lQ
open ByteArray renaming empty->lU
open Go.Op renaming bytesLess->lZ
namespace Go.Proofs.YtoihbhenbmffcaaGreatDoor
open Go.RowKit Go.Proofs.Tryz
def C3(w:l9)(N:Nat)(s:zA)(pos:Nat):l9:={w with heap:=w.heap.setIfInBounds N (.stringIter s pos)}
def PU{w:l9}{N:Nat}{s:zA}{pos:Nat}(h:N<w.heap.size):(C3 w N s pos).heap[N]?=V (.stringIter s pos):=by
 simp[C3,h]
def QV{w:l9}{N k:Nat}{s:zA}{pos:Nat}(h:k≠N):(C3 w N s pos).heap[k]?=w.heap[k]?:=by
 have a:¬N=k:=λe=>h e.symm
 simp[C3,Array.getElem?_setIfInBounds,a]
def IV(w:l9)(N:Nat)(s:zA)(pos:Nat):(C3 w N s pos).heap.size=w.heap.size:=by simp[C3]
def DE(w:l9)(N:Nat)(s:zA)(pos:Nat):Ac [N] w (C3 w N s pos):=
 ⟨rfl,rfl,rfl,by rw[IV];exact ig _,λk _ a=>QV (by simpa using a)⟩
def VD{P:Program}{w:l9}{N:Nat}{s:zA}{pos:Nat}(a:w.heap[N]?=V (.stringIter s pos))(b:TypeId)(h:pos<s.size):
  (Instr.next (kt (V ⟨N,0,Y⟩)) j1 b).run P w=.ok (.tuple #[lT j1,X J pos,X lS (Utf8.decode s pos).1]) (C3 w N s (pos+(Utf8.decode s pos).2)):=by
 simp only[Instr.next,getObj,setObj,lh,Sem.run,a,Result.andThen,h,if_true];simp[goInt,C3]
def Vo{P:Program}{w:l9}{N:Nat}{s:zA}{pos:Nat}(a:w.heap[N]?=V (.stringIter s pos))(b:TypeId)(h:¬pos<s.size):
  (Instr.next (kt (V ⟨N,0,Y⟩)) j1 b).run P w=.ok (.tuple #[lT K]) w:=by
 simp[Instr.next,getObj,Sem.run,a,h]
def Ip(s:zA)(pos:Nat)(h:pos<s.size):1<=(Utf8.decode s pos).2:=by
 by_cases a:(s[pos]'h).toNat<128
 .rw[j5 s pos h a];exact ig _
 .exact(lK s pos h (by omega)).2
def U3(s:zA)(pos:Nat):(Utf8.decode s pos).2<=4:=by
 unfold Utf8.decode;simp only
 repeat' split
 all_goals simp
def dx(r:Int):0<(Utf8.encode r).size:=by
 unfold Utf8.encode;simp only;generalize(if Utf8.valid r=j1 then r.toNat else Utf8.runeError)=c
 repeat' split
 all_goals simp[ByteArray.size]
def EH(s:zA)(pos:Nat)(ms:mc AZ):mc AZ:=
 if h:pos<s.size/\1<=(Utf8.decode s pos).2 then have _h1:pos<s.size:=h.1;have _h2:=h.2;EH s (pos+(Utf8.decode s pos).2) (Lm ms pos (Utf8.decode s pos).1)else ms
def Fk{s:zA}{pos:Nat}(ms:mc AZ)(h:pos<s.size):EH s pos ms=EH s (pos+(Utf8.decode s pos).2) (Lm ms pos (Utf8.decode s pos).1):=by
 conv=>lhs;rw[EH]
 rw[dif_pos ⟨h,Ip s pos h⟩]
def Ob{s:zA}{pos:Nat}(ms:mc AZ)(h:¬pos<s.size):EH s pos ms=ms:=by
 rw[EH,dif_neg (by omega)]
def In(m:AZ):AZ:=if IH m then m else{m with kind:=0}
def EC(s:zA):AZ:=⟨1,s.size,lU⟩
def C4(s:zA):mc AZ:=(EH s 0 []).map In++[EC s]
structure KN(s:zA)(pos:Nat)(ms:mc AZ):Prop where
 len:Z ms<=pos
 each:∀m∈ms,m.place<pos/\0<m.text.size/\m.text.size<=4*pos
def KN.lay{s:zA}{pos d:Nat}{ms:mc AZ}{r:Int}(h:KN s pos ms)(g:pos<d):KN s d (Lm ms pos r):=by
 have k:=Xp r;have l:=dx r;have c:∀m∈ms,m.place<d/\0<m.text.size/\m.text.size<=4*d:=λm b=>by have:=h.each m b;omega
 have j:=h.len;unfold Lm;split
 .exact⟨by omega,c⟩
 .split
  .rename_i m b;have f:=List.mem_of_getLast? b;have i:=h.each m f;split
   .refine⟨?_,λx a=>?_⟩
    ·(have:ms≠[]:=by intro e;rw[e]at b;simp at b);have:0<Z ms:=List.length_pos_iff.2 this;simp;omega
    .rcases ic.1 a with a|a
     .exact c x (List.dropLast_subset ms a)
     .simp only[gN]at a;subst a;simp only[gZ];omega
   .refine⟨by simp;omega,λx a=>?_⟩;rcases ic.1 a with a|a
    .exact c x a
    .simp only[gN]at a;subst a;simp only[Cf];omega
  .refine⟨by simp;omega,λx a=>?_⟩;rcases ic.1 a with a|a
   .exact c x a
   .simp only[gN]at a;subst a;simp only[Cf];omega
def FN(T:mc AZ)(k:Nat):mc AZ:=(T.take k).map In++T.drop k
def Io(T:mc AZ)(k:Nat)(a:k<=Z T):Z (FN T k)=Z T:=by simp[FN];omega
def NJ{T:mc AZ}{k:Nat}(a:k<Z T):FN T k=(T.take k).map In++T[k]::T.drop (k+1):=by
 unfold FN;rw[ij a]
def Wd{T:mc AZ}{k:Nat}(a:k<Z T):FN T (k+1)=(T.take k).map In++In T[k]::T.drop (k+1):=by
 unfold FN;rw[gQ a,iG,iT];rfl
def YJ(pre b:mc AZ)(m:AZ)(n:Nat)(d:Z pre=n):((pre++m::b).flatMap Bf).set (n*3) (X J 0)=(pre++{m with kind:=0}::b).flatMap Bf:=by
 subst d;have c:Z (pre.flatMap Bf)=Z pre*3:=by
  induction pre with
  |nil=>rfl
  |cons a l ih=>rw[il,ib,ih,Gc,gW];omega
 simp only[ix,il];rw[lE _ _ (by omega),c];simp[Bf]
set_option maxRecDepth 100000
theorem XL(s:zA)(w:l9)(hs:s.size<=300):
  Calls prog 114 #[O s] w λe w'=>∃v,e=lo v/\lQ w' (w.heap.size+1) 206 3 v (Z (C4 s)) ((C4 s).flatMap Bf)/\Ac [] w w':=by
 obtain⟨i0,HR,Ha,HX,HK⟩:=iR Tryz.zy;have H8:∀(x:Bool) (w:l9),(Op.unary .not (lT x)).run prog w=.ok (lT (!x)) w:=λ_ _=>rfl
 go_enter func114,ntmps114;go_wp2;obtain⟨T,hT⟩:∃T,EH s 0 []=T:=⟨_,rfl⟩;have HT:=Ab hT;clear hT
 go_loopg [3] s.size (λgk o wr=>∃(pos:Nat) (b:mc AZ),gk=s.size-pos/\pos<=s.size+4/\lO (EH s pos b=T/\KN s pos b)/\wr.heap[w.heap.size]?=V (.stringIter s pos)/\lQ wr (w.heap.size+1) 206 3 o (Z b) (b.flatMap Bf)/\Ac [] w wr/\w.heap.size+1<=wr.heap.size)
 case atStart=>
  exact⟨0,[],by simp,by omega,⟨HT,⟨by simp,by simp⟩⟩,World.iter_heap w s 0,ip _ _ _ _,(me _ _).alloc _,by simp[World.iter]⟩
 case round=>
  obtain⟨pos,b,FA,H1,p,B9,d,j,r⟩:=hrel;have HG:=Ab FA;have S:=Ab B9;clear FA B9;obtain⟨ad,A1,rfl⟩:=Al d;by_cases F:pos<s.size
  .obtain⟨u,a,E⟩:∃u a,Utf8.decode s pos=(u,a):=⟨_,_,rfl⟩;(have H9:a<=4:=by have:=U3 s pos;rw[E]at this;exact this);(have H7:1<=a:=by have:=Ip s pos F;rw[E]at this;exact this);have AO:∀z,(Instr.next (kt (V ⟨w.heap.size,0,Y⟩)) j1 z).run prog wr=.ok (.tuple #[lT j1,X J pos,X lS u]) (C3 wr w.heap.size s (pos+a)):=by
    intro z;have h:=VD (P:=prog) S z F;rw[E]at h;exact h
   have B:=Ad d (DE wr w.heap.size s (pos+a)) (by simp);have BA:=Ab (PU (w:=wr) (N:=w.heap.size) (s:=s) (pos:=pos+a) (by omega));(have AT:w.heap.size+1<=(C3 wr w.heap.size s (pos+a)).heap.size:=by rw[IV];exact r);have A:Ac [] w (C3 wr w.heap.size s (pos+a)):=j.trans' (DE wr w.heap.size s (pos+a)) (by simp);have HL:lO (EH s (pos+a) (Lm b pos u)=T/\KN s (pos+a) (Lm b pos u)):=by
    refine⟨?_,p.out.2.lay (by omega)⟩;have h:=p.out.1;rw[Fk b F,E]at h;exact h
   (have HH:Z b<=1000000:=by have:=p.out.2.len;omega);(have FF:lO (∀m∈b,m.place<=1000000/\m.text.size<=1000000):=λm f=>by have:=p.out.2.each m f;omega);clear E d j S;generalize C3 wr w.heap.size s (pos+a)=w2 at AO B BA AT A;(go_wp2_with fail);clear AO;refine(dy _ b pos u (w.heap.size+1) _ AT B HH (by omega) FF).mono ?_;rintro e M ⟨v3,rfl,HA,n⟩;have FO:=Ab ((n.block w.heap.size (by omega)).trans BA);have HI:Ac [] w M:=⟨n.os.trans A.os,n.tape.trans A.tape,n.output.trans A.output,iQ A.size n.size,λk y _=>(n.block k (by omega)).trans (A.block k y (by simp))⟩;have HJ:w.heap.size+1<=M.heap.size:=iQ AT n.size;clear n A BA B AT;go_wp2_with fail
   go_roundg (s.size-(pos+a))
   case measure=>have:=Aa HG;omega
   case rel=>exact⟨pos+a,Lm b pos u,rfl,by omega,HL,FO,HA,HI,HJ⟩
  ·(have AO:∀z,(Instr.next (kt (V ⟨w.heap.size,0,Y⟩)) j1 z).run prog wr=.ok (.tuple #[lT K]) wr:=λz=>Vo (P:=prog) S z F);have L:lO (b=T/\KN s pos b):=⟨by have h:=p.out.1;rwa [Ob b F]at h,p.out.2⟩;clear S p;have I:=L.out.1;(have HB:lO (∀m∈T,m.text.size<=1000000/\0<m.text.size):=λm f=>by have:=L.out.2.each m (by rw[I];exact f);omega);(have H0:Z T<=400:=by have:=L.out.2.len;rw[I]at this;omega);rw[I]at d⊢;clear L I;(have HC:lO (C4 s=T.map In++[EC s]):=by show _=_;unfold C4;rw[Aa HT]);clear HT HG;go_wp2;clear AO
   go_loopw [19] (λi wq=>∃k:Nat,i=X J k/\k<=Z T/\lQ wq (w.heap.size+1) 206 3 (U ad (Z T) A1) (Z T) ((FN T k).flatMap Bf)/\Ac [] w wq/\w.heap.size+1<=wq.heap.size) (λi _=>Z T-(intOf i).toNat)
   case atStart=>exact⟨0,rfl,ik _,by simpa[FN] using d,j,r⟩
   case round=>
    clear d j r;obtain⟨k,rfl,y,d,j,r⟩:=hrel;by_cases l:k<Z T
    ·(have FC:lQ wr (w.heap.size+1) 206 3 (U ad (Z T) A1) (Z (FN T k)) ((FN T k).flatMap Bf):=by rw[Io T k y];exact d);obtain⟨g,H4,he,hc,Q⟩:=AF FC (λc _=>Gc c) k (by rw[Io T k y];exact l);simp only[gM]at he;obtain⟨rfl,HF,rfl⟩:=he;clear HF;obtain⟨m,f⟩:∃m,T[k]=m:=⟨_,rfl⟩;have B2:∀h,(FN T k)[k]'h=m:=by
      intro h;have e:(FN T k)[k]?=V m:=by
       (have hl:Z ((T.take k).map In)=k:=by simp;omega);rw[NJ l,j9 (by omega),hl,Nat.sub_self,f];rfl
      rw[gS h]at e;exact kJ e
     have G:=Q k (by rw[Io T k y];exact l) 0 (by omega);have R:=Q k (by rw[Io T k y];exact l) 1 (by omega);have H:=Q k (by rw[Io T k y];exact l) 2 (by omega);rw[B2]at G R H;simp[Bf]at G R H;have FB:=HB.out m (by rw[<-f];exact gL l);have W:=Ul m wr FB.1 (λ_=>FB.2);simp only[Bf]at W;have HW:=Ab W;have D:lO (FN T k=(T.take k).map In++m::T.drop (k+1)/\FN T (k+1)=(T.take k).map In++In m::T.drop (k+1)):=⟨by rw[NJ l,f],by rw[Wd l,f]⟩;clear Q B2 FC W f hc;(go_wp2_with fail);refine HW.mono ?_;rintro e w1 ⟨rfl,C⟩;have Ax:=Ad d C (by simp);have B0:=j.trans C;have DT:w.heap.size+1<=w1.heap.size:=iQ r C.size;cases hwh:IH m with
     |true=>
      (have HN:lO (FN T (k+1)=FN T k):=by show _=_;rw[D.out.1,D.out.2];simp[In,hwh]);clear D HW C G R H d j r;go_wp2
      go_roundw
      case rel=>exact⟨k+1,by go_num,by omega,by rw[HN.out];exact Ax,B0,DT⟩
      case measure=>simp[intOf];omega
     |false=>
      have FT:=Ax.lt g rfl;have H3:lP w1 ⟨g,k*3,Y⟩=V (X J m.kind):=by
       rw[World.cell?_of_block (w:=wr) (C.block g (d.lt g rfl).2 (by simp))];exact G
      have Ix:=GP Ax (k*3);have HN:lO (((FN T k).flatMap Bf).set (k*3) (X J 0)=(FN T (k+1)).flatMap Bf):=by
       show _=_;rw[D.out.1,D.out.2,YJ _ _ _ k (by simp;omega)];simp[In,hwh]
      clear D HW C G R H d j r;go_wp2
      go_roundw
      case rel=>
       refine⟨k+1,by go_num,by omega,?_,B0.setCell (ly (by have:=FT.1;simp;omega)) _,by simpa using DT⟩;rw[<-HN.out];exact Bw Ax (k*3) _
      case measure=>simp[intOf];omega
    ·(have HD:k=Z T:=by omega);have B:lQ wr (w.heap.size+1) 206 3 (U ad (Z T) A1) (Z T) ((T.map In).flatMap Bf):=by
      (have e:FN T k=T.map In:=by unfold FN;rw[gR (by omega),iC (by omega),iJ]);rw[e]at d;exact d
     clear HD d;go_wp2_with (at_builtin;refine io _ rfl (.tmp 33) (.tmp 37) _ rfl (w.heap.size+1) 206 i0 _ 3 32 underlying200 HR Ha HX HK rfl (by omega) (U ad (Z T) A1) (Z T) ((T.map In).flatMap Bf) rfl (gU B _) ⟨wr.heap.size,0,Y⟩ 1 1 (Bf (EC s)) rfl rfl (iu (cs:=j3 (Bf (EC s))) (t:=206) (fr:=(0,0)) (iD wr _)) (by simp[Value.oneCell',Bf]) (by omega) (by unfold maxLen;omega) (by omega) (by simp;omega) (wr.heap.size+1) (by simp) ?_;intro g1 H5 M HO CL FL FP)
     have HZ:Ac [] w M:=(j.alloc _).grown CL (λq hq=>ly (by have:=(B.lt q hq).1;omega));clear CL FL FP;go_wp2;go_ret;rw[HC.out];refine⟨_,rfl,?_,HZ⟩;simpa using HO
structure B3(w:l9)(b:Nat)(mv:lN)(ms:mc AZ)(nx:Nat)(br:Int):Prop where
 zO:AH w b [mv,X J nx,X J br] 203
 row:lQ w 0 206 3 mv (Z ms) (ms.flatMap Bf)
 ap:mv.ownBlock≠V b
 lt:nx<Z ms
 len:Z ms<=1000
def B3.kept{w w':l9}{b:Nat}{a:lN}{ms:mc AZ}{j nx':Nat}{d br':Int}(h:B3 w b a ms j d)(k:Ac [b] w w')(f:AH w' b [a,X J nx',X J br'] 203)(e:nx'<Z ms):B3 w' b a ms nx' br':=
 ⟨f,Ai h.row k (λi g c=>by simp at c;subst c;exact h.ap g),h.ap,e,h.len⟩
def B3.zI{w w':l9}{b:Nat}{a:lN}{ms:mc AZ}{c:Nat}{d:Int}(h:B3 w b a ms c d)(k:Ac [] w w'):B3 w' b a ms c d:=
 ⟨h.zO.kept k (by simp),Ad h.row k (by simp),h.ap,h.lt,h.len⟩
def B3.cells{w:l9}{b:Nat}{d:lN}{ms:mc AZ}{i:Nat}{l:Int}(h:B3 w b d ms i l):∃g e,d=U (V ⟨g,0,Y⟩) (Z ms) e/\lP w ⟨b,0,Y⟩=V d/\lP w ⟨b,1,Y⟩=V (X J i)/\lP w ⟨b,2,Y⟩=V (X J l)/\
  ∀j (a:j<Z ms),lP w ⟨g,j*3,Y⟩=V (X J ms[j].kind)/\lP w ⟨g,j*3+1,Y⟩=V (X J ms[j].place)/\lP w ⟨g,j*3+2,Y⟩=V (O ms[j].text):=by
 obtain⟨g,e,o,_,f⟩:=AF h.row (λc _=>Gc c) i h.lt;refine⟨g,e,o,h.zO.cell 0,h.zO.cell 1,h.zO.cell 2,λj a=>?_⟩;have m:=f j a 0 (by omega);have n:=f j a 1 (by omega);have k:=f j a 2 (by omega);simp[Bf]at m n k;exact⟨m,n,k⟩
set_option maxRecDepth 512
theorem IE(b:Nat)(i:lN)(ms:mc AZ)(a:Nat)(j:Int)(w:l9)(h:B3 w b i ms a j)(m:AZ)(c:ms[a]'h.lt=m):
  Calls prog 161 #[kt (V ⟨b,0,Y⟩)] w λe k=>e=lo (X J m.place)/\Ac [] w k:=by
 obtain⟨g,r,rfl,q,p,_,d⟩:=h.cells;obtain⟨l,n,f⟩:=d a h.lt;rw[c]at n;have o:(a:Int)<(Z ms:Int):=by have:=h.lt;omega
 clear l f d c h;go_enter func161,ntmps161;go_wp2
 go_quiet (fail)
 go_wp2;go_ret;exact⟨rfl,(me _ _).drewN _⟩
theorem E9(b:Nat)(a:lN)(ms:mc AZ)(d:Nat)(g p:Int)(w:l9)(h:B3 w b a ms d g):
  Calls prog 160 #[kt (V ⟨b,0,Y⟩),X J p] w λe i=>e=lo (lT K)/\B3 i b a ms d p/\Ac [b] w i:=by
 have j:=h.zO.cell 2;have l:=h.zO.frozen 2;simp at j;have k:=h;have c:lO (B3 w b a ms d g):=h;clear h k;go_enter func160,ntmps160;go_wp2;go_ret;have f:Ac [b] w (w.setCell ⟨b,2,Y⟩ (X J p)):=(me _ _).setCell (by simp) _;exact⟨rfl,c.out.kept f (c.out.zO.set 2 _) c.out.lt,f⟩
def BM(m:AZ)(t:zA):Bool:=m.kind==5&&(m.text.toList==t.toList)
set_option maxRecDepth 100000
theorem So(b:Nat)(r:lN)(ms:mc AZ)(a:Nat)(o:Int)(t:zA)(w:l9)(h:B3 w b r ms a o)(m:AZ)(j:ms[a]'h.lt=m):
  Calls prog 159 #[kt (V ⟨b,0,Y⟩),O t] w λe c=>e=lo (lT (BM m t))/\Ac [] w c:=by
 obtain⟨g,q,rfl,p,n,_,l⟩:=h.cells;obtain⟨k,f,i⟩:=l a h.lt;rw[j]at k f i;have s:(a:Int)<(Z ms:Int):=by have:=h.lt;omega
 have x:(0:Int)<=(a:Int):=by omega
 clear l j h;have y:=World.new_ne w _ p;have z:=World.new_ne w _ n;have A:=World.new_ne w _ k;have u:=World.new_ne w _ f;have v:=World.new_ne w _ i;go_enter func159,ntmps159;go_wp2_with fail
 go_region_held3 (λc=>lP c ⟨b,0,Y⟩=V (U (V ⟨g,0,Y⟩) (Z ms) q)/\lP c ⟨b,1,Y⟩=V (X J a)/\lP c ⟨g,a*3,Y⟩=V (X J m.kind)/\lP c ⟨g,a*3+1,Y⟩=V (X J m.place)/\lP c ⟨g,a*3+2,Y⟩=V (O m.text)) (go_keep) (fail)
 cases hk:(m.kind==5)with
 |true=>
  have d:lO (BM m t=(m.text.toList==t.toList)):=by show _=_;simp[BM,hk]
  go_wp2;all_goals
   go_ret;refine⟨Bh ?_,?_⟩
   .rw[d.out]
   .repeat (first|refine Ac.drew ?_|refine Ac.setCell ?_ (by simp) _|refine Ac.alloc ?_ _|refine Ac.drewN ?_ _)
    exact me _ _
 |false=>
  have d:lO (BM m t=K):=by show _=_;simp[BM,hk]
  go_wp2;all_goals
   go_ret;refine⟨Bh ?_,?_⟩
   .rw[d.out]
   .repeat (first|refine Ac.drew ?_|refine Ac.setCell ?_ (by simp) _|refine Ac.alloc ?_ _|refine Ac.drewN ?_ _)
    exact me _ _
set_option maxRecDepth 512
theorem Gt(b:Nat)(n:lN)(ms:mc AZ)(c:Nat)(k:Int)(t:zA)(w:l9)(h:B3 w b n ms c k)(m:AZ)(r:ms[c]'h.lt=m)(o:BM m t=j1->c+1<Z ms):
  Calls prog 162 #[kt (V ⟨b,0,Y⟩),O t] w λe p=>e=lo (lT (BM m t))/\B3 p b n ms (if BM m t then c+1 else c) k/\Ac [b] w p:=by
 have d:=Ab (So b n ms c k t w h m r);have i:=Ab h;have A:=h.len;have v:=h.lt;clear r h;have z:∀(x:Bool) (w:l9),(Op.unary .not (lT x)).run prog w=.ok (lT (!x)) w:=λ_ _=>rfl
 cases hs:BM m t with
 |true=>
  have s:=Ab (o hs);rw[hs]at d;clear hs o;simp only[if_true];go_enter func162,ntmps162;go_wp2_with fail
  refine d.mono ?_;rintro e j ⟨rfl,a⟩;have f:=i.zI a;have g:=Ab f;have u:=f.zO.cell 1;have y:=f.zO.frozen 1;simp at u;have l:=a.mono (N:=[b]) (by simp);clear f a d i;go_wp2;go_ret;have q:Ac [b] j (j.setCell ⟨b,1,Y⟩ (X J ((c:Int)+1))):=(me _ _).setCell (by simp) _;exact⟨rfl,g.kept q (g.zO.set 1 _) s,l.trans q⟩
 |false=>
  rw[hs]at d;clear hs o;simp only[gO,if_false];go_enter func162,ntmps162;go_wp2_with fail
  refine d.mono ?_;rintro e j ⟨rfl,a⟩;have g:=Ab (i.zI a);have l:=a.mono (N:=[b]) (by simp);clear a d i;go_wp2;go_ret;exact⟨rfl,g,l⟩
theorem ME(b:Nat)(f:lN)(ms:mc AZ)(a:Nat)(d:Int)(t:zA)(w:l9)(h:B3 w b f ms a d)(m:AZ)(i:ms[a]'h.lt=m)(q:BM m t=j1->a+1<Z ms):
  Calls prog 163 #[kt (V ⟨b,0,Y⟩),O t] w λe l=>e=lo (lT (BM m t))/\B3 l b f ms (if BM m t then a+1 else a) (if BM m t then d else m.place)/\Ac [b] w l:=by
 have g:=Ab (Gt b f ms a d t w h m i q);have u:lO (∀h:a<Z ms,ms[a]=m):=λ_=>i
 clear i q h;cases hs:BM m t with
 |true=>
  rw[hs]at g;have y:=Ab hs;clear hs;go_enter func163,ntmps163;go_wp2_with fail
  refine g.mono ?_;rintro e r ⟨rfl,c,k⟩;have j:=Ab c;clear c;go_wp2;go_ret;exact⟨rfl,j,k⟩
 |false=>
  rw[hs]at g;clear hs;go_enter func163,ntmps163;go_wp2_with fail
  refine g.mono ?_;rintro e r ⟨rfl,c,k⟩;simp only[gO,if_false]at c⊢;go_wp2_with fail
  refine(IE b f ms a d _ c m (u _)).mono ?_;rintro e z ⟨rfl,o⟩;have n:=c.zI o;go_wp2_with fail
  refine(E9 b f ms a d m.place _ n).mono ?_;rintro e x ⟨rfl,p,s⟩;have j:=Ab p;have v:=(k.trans (o.mono (by simp))).trans s;clear c n p;go_wp2;go_ret;exact⟨rfl,j,v⟩
def Ib(s:zA):Bool:=lZ s.toList [97]
theorem L8(s:zA)(w:l9):Calls prog 144 #[O s] w λe a=>e=lo (lT (Ib s))/\a=w:=by
 go_enter func144,ntmps144;go_wp2;all_goals go_ret
 all_goals exact⟨rfl,rfl⟩
def Po:zA:=⟨#[48]⟩
def KD:Nat->zA->zA
 |0,s=>s
 |k+1,s=>if s.size<3 then KD k (Po++s)else s
def AA(s:zA):zA:=if Ib s then KD 3 s else s
set_option maxRecDepth 100000
theorem T3(s:zA)(w:l9):Calls prog 217 #[O s] w λe b=>e=lo (O (AA s))/\b=w:=by
 have f:=L8 s w;by_cases d:Ib s=j1
 .rw[d]at f;have c:AA s=KD 3 s:=by unfold AA;simp[d]
  rw[c];generalize hTe:KD 3 s=T;have j:=Ab hTe;clear hTe c d;go_enter func217,ntmps217;go_wp2_with (go_at_call 144;refine f.mono ?_;rintro e b ⟨rfl,rfl⟩)
  rename_i b _ _
  go_loopg [0] 3 (λgk o wr=>∃(t:zA),o=O t/\lO (KD gk t=T)/\3<=t.size+gk/\wr=b)
  case atStart=>exact⟨s,rfl,j,by omega,rfl⟩
  case round=>
   obtain⟨t,rfl,g,m,rfl⟩:=hrel;by_cases i:t.size<3
   ·(have l:(t.size:Int)<3:=by omega);go_wp2;(have n:(Po++t).size=t.size+1:=by rw[gZ];show 1+t.size=_;omega);obtain⟨k,rfl⟩:∃k,gk=k+1:=⟨gk-1,by omega⟩;have a:=Aa g;rw[KD,gY i]at a
    go_roundg k
    case measure=>omega
    case rel=>exact⟨Po++t,rfl,a,by omega,rfl⟩
   ·(have l:¬(t.size:Int)<3:=by omega);have c:lO (t=T):=by
     show t=T;have a:=Aa g;cases gk with
     |zero=>exact a
     |succ k=>rw[KD,gV i]at a;exact a
    go_wp2;go_ret;exact⟨by rw[<-Aa c];rfl,rfl⟩
 .have h:Ib s=K:=by simpa using d
  rw[h]at f;go_enter func217,ntmps217;go_wp2_with (go_at_call 144;refine f.mono ?_;rintro e b ⟨rfl,rfl⟩)
  all_goals go_ret
  all_goals refine⟨?_,rfl⟩
  all_goals simp[AA,h]
def bM:mc UInt8->Bool
 |[]=>K
 |[c]=>decide (48<=c.toNat/\c.toNat<=57)
 |[c,_]=>decide (49<=c.toNat/\c.toNat<=57)
 |[c,_,_]=>decide (49<=c.toNat/\c.toNat<=57)
 |_=>K
def Dt(s:zA):zA:=if s.size=0 then s else if Ib s then(if bM s.toList then KD 3 s else⟨#[0]⟩++s)else s
def Hw:mc UInt8->mc UInt8
 |[]=>[]
 |c::r=>if c.toNat<97 then(if bM (c::r)then lV (3-Z (c::r)) 48++(c::r)else 0::c::r)else c::r
def Dh(a b:zA):(a++b).toList=a.toList++b.toList:=by
 rw[iy,iy,iy,lF,Array.toList_append]
def Bg(a:zA):a.size=Z a.toList:=by
 rw[iy];rfl
def toList_inj{a b:zA}(h:a.toList=b.toList):a=b:=by
 rw[iy,iy]at h;exact ByteArray.ext (Array.toList_inj.1 h)
def O8:Po.toList=[48]:=by rw[iy];rfl
def Lp:∀(k:Nat) (s:zA),s.size<=3->3<=s.size+k->(KD k s).toList=lV (3-s.size) 48++s.toList
 |0,s,h,hk=>by
  rw[show 3-s.size=0 by omega];rfl
 |k+1,s,h,hk=>by
  rw[KD];split
  .rename_i b;(have a:(Po++s).size=s.size+1:=by rw[Bg,Dh,O8,Bg];simp);rw[Lp k (Po++s) (by omega) (by omega),a,Dh,O8,show 3-s.size=(3-(s.size+1))+1 by omega,List.replicate_succ'];simp
  .rw[show 3-s.size=0 by omega];rfl
def EO(c:UInt8)(r:mc UInt8):lZ (c::r) [97]=decide (c.toNat<97):=by
 have e:lZ r []=K:=by cases r<;>rfl
 simp only[lZ,e];by_cases h:c.toNat<97
 .have:c<97:=h;simp[h,this]
 .have:¬c<97:=h;simp[h,this]
def NI(s:zA):(Dt s).toList=Hw s.toList:=by
 unfold Dt Ib;cases hs:s.toList with
 |nil=>
  have:s.size=0:=by rw[Bg,hs];rfl
  rw[gY this,hs];rfl
 |cons c r=>
  have a:s.size=Z (c::r):=by rw[Bg,hs]
  rw[gV (by rw[a];simp),EO];unfold Hw;by_cases h:c.toNat<97
  .simp only[h,decide_true,if_true];cases ho:bM (c::r)with
   |true=>
    simp only[if_true];have b:Z (c::r)<=3:=by
     match r,ho with
     |[],_=>simp
     |[_],_=>simp
     |[_,_],_=>simp
     |_::_::_::_,ho=>simp[bM]at ho
    rw[Lp 3 s (by omega) (by omega),hs,a]
   |false=>
    simp only[gO,if_false];rw[Dh,hs];rw[show(⟨#[0]⟩:zA).toList=[0] from by rw[iy]]
    rfl
  .simp only[h,lD,gO,if_false];exact hs
def ES{l:mc UInt8}(h:bM l=j1):(∃c:UInt8,l=[c]/\48<=c.toNat/\c.toNat<=57)\/(∃c d:UInt8,l=[c,d]/\49<=c.toNat/\c.toNat<=57)\/(∃c d e:UInt8,l=[c,d,e]/\49<=c.toNat/\c.toNat<=57):=by
 match l,h with
 |[],h=>simp[bM]at h
 |[c],h=>exact lx ⟨c,rfl,by simpa[bM] using h⟩
 |[c,d],h=>exact ly (lx ⟨c,d,rfl,by simpa[bM] using h⟩)
 |[c,d,e],h=>exact ly (ly ⟨c,d,e,rfl,by simpa[bM] using h⟩)
 |_::_::_::_::_,h=>simp[bM]at h
def Md(l:mc UInt8):(l=[]/\Hw l=[])\/(∃c r,l=c::r/\97<=c.toNat/\Hw l=c::r)\/(∃c r,l=c::r/\Hw l=0::c::r)\/
  (∃c,l=[c]/\48<=c.toNat/\c.toNat<=57/\Hw l=[48,48,c])\/(∃c d,l=[c,d]/\49<=c.toNat/\c.toNat<=57/\Hw l=[48,c,d])\/(∃c d e,l=[c,d,e]/\49<=c.toNat/\c.toNat<=57/\Hw l=[c,d,e]):=by
 cases l with
 |nil=>exact lx ⟨rfl,rfl⟩
 |cons c r=>
  rw[show Hw (c::r)=if c.toNat<97 then(if bM (c::r)then lV (3-Z (c::r)) 48++(c::r)else 0::c::r)else c::r from rfl]
  by_cases h:c.toNat<97
  .rw[gY h];cases ho:bM (c::r)with
   |true=>
    rw[gY rfl];refine ly (ly (ly ?_));rcases ES ho with⟨f,e,a,b⟩|⟨f,d,e,a,b⟩|⟨f,d,g,e,a,b⟩
    .rw[e];exact lx ⟨f,rfl,a,b,rfl⟩
    .rw[e];exact ly (lx ⟨f,d,rfl,a,b,rfl⟩)
    .rw[e];exact ly (ly ⟨f,d,g,rfl,a,b,rfl⟩)
   |false=>
    rw[gV (by simp)];exact ly (ly (lx ⟨c,r,rfl,rfl⟩))
  .rw[gV h];exact ly (lx ⟨c,r,rfl,by omega,rfl⟩)
def Wu{a b:mc UInt8}(h:Hw a=Hw b):a=b:=by
 have z:(48:UInt8).toNat=48:=rfl;have o:(0:UInt8).toNat=0:=rfl;rcases Md a with⟨rfl,e⟩|⟨c,r,rfl,j,e⟩|⟨c,r,rfl,e⟩|⟨c,rfl,j,m,e⟩|⟨c,d,rfl,j,m,e⟩|⟨c,d,f,rfl,j,m,e⟩<;>
  rcases Md b with⟨rfl,g⟩|⟨i,n,rfl,k,g⟩|⟨i,n,rfl,g⟩|⟨i,rfl,k,l,g⟩|⟨i,p,rfl,k,l,g⟩|⟨i,p,s,rfl,k,l,g⟩<;>
  rw[e]at h<;>(try rw[g]at h)<;>simp only[jB,reduceCtorEq,List.nil_eq,and_true]at h⊢
 all_goals first
  |exact h
  |exact h.2
  |exact h.2.2
  |(exfalso;have q:=congrArg UInt8.toNat h.1;clear e g;omega)
  |(exfalso;have q:=congrArg UInt8.toNat h.2.1;clear e g;omega)
def WY{a b:zA}(h:Dt a=Dt b):a=b:=
 toList_inj (Wu (by rw[<-NI,<-NI,h]))
def Ht(t:zA)(h:0<t.size):∃r,t.toList=t[0]::r/\Z t.toList=t.size:=by
 rw[iy];obtain⟨⟨l⟩⟩:=t;cases l with
 |nil=>exact absurd h (by show¬(0<0);omega)
 |cons c r=>exact⟨r,rfl,rfl⟩
def Xd{t:zA}(h:0<t.size)(c:97<=t[0].toNat):AA t=Dt t:=by
 obtain⟨r,a,d⟩:=Ht t h;have b:Ib t=K:=by
  unfold Ib;rw[a,EO];simp;omega
 unfold AA Dt;rw[b,gV (show¬t.size=0 by omega)];simp
def Zk{t:zA}(h:0<t.size)(i:48<=t[0].toNat)(f:t[0].toNat<=57)(j:t.size<=3)(g:t[0].toNat=48->t.size=1):AA t=Dt t:=by
 obtain⟨r,b,a⟩:=Ht t h;have e:Ib t=j1:=by
  unfold Ib;rw[b,EO];simp;omega
 have d:bM t.toList=j1:=by
  rw[b]at a⊢;generalize t[0]=c at*
  match r,a with
  |[],_=>simp[bM];omega
  |[_],a=>simp at a;simp[bM];omega
  |[_,_],a=>simp at a;simp[bM];omega
  |_::_::_::_,a=>simp at a;omega
 unfold AA Dt;rw[e,d,gV (show¬t.size=0 by omega)];simp
end Go.Proofs.YtoihbhenbmffcaaGreatDoor
namespace Go.Proofs.YtoihbhenbmffcaaGreatDoor
open Go.RowKit Go.Proofs.Tryz
section
variable {P:Program} {ops:Array Oper} {Q:Exit->Act->l9->Prop} {md:Region.Mode} {S:l9->Prop} {k:Nat}
def Cx(P:Program)(md:Region.Mode)(ops:Array Oper)(Q:Exit->Act->l9->Prop)(S:l9->Prop)(k:Nat):Nat->Array Bool->Act->l9->Prop
 |0,listed,a,w=>Region.ready md ops listed=[]/\Q .normal a w
 |fuel+1,listed,a,w=>(Region.ready md ops listed=[]->Q .normal a w)/\
  ∀i∈Region.ready md ops listed,wpOp P ops Q i (λa' w'=>(i≠k->S w')/\Cx P md ops Q S k fuel (listed.setIfInBounds i j1) a' w') a w
def Cx.any:∀(b:Nat) (c:Array Bool) (a:Act) (w:l9),Cx P md ops Q S k b c a w->wpAny P md ops Q b c a w
 |0,_,_,_,h=>h
 |b+1,_,_,_,h=>⟨h.1,λi g=>wpOp_mono (λf e d=>Cx.any b _ f e d.2) (h.2 i g)⟩
def Rg(md:Region.Mode)(ops:Array Oper)(k i:Nat):Bool:=match ops[k]? with|some o=>o.after.any λe=>Region.binds md e&&e.on==i|none=>K
def Sj{i:Nat}{b:Array Bool}(h:Rg md ops k i=j1)(f:b.getD i j1=K):k∉Region.ready md ops b:=λg=>by
 obtain⟨_,o,l,j⟩:=mem_ready.1 g;unfold Rg at h;rw[l]at h;obtain⟨e,m,d⟩:=Array.any_eq_true'.1 h;simp only[iq,jA]at d;have a:=j e m d.1;rw[d.2]at a;rcases Nat.lt_or_ge i b.size with c|c
 .simp[c]at f a;rw[f]at a;cases a
 .simp[kE c]at a
def Cx.first{i:Nat}{n:Oper}{v:lN}(B:ops[i]?=V n)(G:∀(j:Nat) (o:Oper) p b,ops[j]?=V o->o.op≠ .select p b)
  (T:∀c a w,Q (.panic c) (a.put n.dst v) w->Q (.panic c) a w) (W:Rg md ops k i=j1):
  ∀(r:Nat) (f:Array Bool) (a:Act) (w:l9),
   (∀j m,ops[j]?=V m->j≠i->f.getD j j1=K->(∀e∈m.after,Region.binds md e=j1->e.on≠i)->n.apart ops m=j1)->
   i∈Region.ready md ops f->YieldsIf P ops S n v a->S w->
   Cx P md ops Q S k r (f.setIfInBounds i j1) (a.put n.dst v) w->Cx P md ops Q S k (r+1) f a w:=by
 intro r
 induction r with
 |zero=>
  intro f a w _ l u t H;refine⟨λh=>(by rw[h]at l;cases l),λj s=>?_⟩;by_cases d:j=i
  .subst d;exact u.wpOp B t ⟨λ_=>t,H⟩
  .have:=li s d;rw[H.1]at this;cases this
 |succ r ih=>
  intro f a w E l u t H;have A:=(mem_ready.1 l).1;refine⟨λh=>(by rw[h]at l;cases l),λj s=>?_⟩;by_cases d:j=i
  .subst d;exact u.wpOp B t ⟨λ_=>t,H⟩
  ·(have D:j≠k:=λe=>Sj W A (e▸s));have h1:=H.2 j (li s d);obtain⟨C,m,y,A2⟩:=mem_ready.1 s;have AO:∀e∈m.after,Region.binds md e=j1->e.on≠i:=λe he N R=>by
    have g:=A2 e he N;rw[R]at g;rcases Nat.lt_or_ge i f.size with z|z
    .simp[z]at A g;rw[A]at g;cases g
    .simp[kE z]at g
   have g:=wpOp_putIf y (E j m y d C AO) (λp b=>G i n p b B) (λp b=>G j m p b y) T u h1;refine wpOp_mono (λa' M x=>⟨λ_=>x.2.1 D,ih (f.setIfInBounds j j1) a' M (λq oq hq A1 I L=>E q oq hq A1 ?_ L) (li l (Ne.symm d)) x.1 (x.2.1 D) ?_⟩) g
   .by_cases F:j=q
    .subst F;exact C
    .rw[getD_set_ne j1 F]at I;exact I
   .rw[lj _ _ d];exact x.2.2
def Cx.take{i:Nat}{d:Oper}{v:lN}{fuel:Nat}{b:Array Bool}{a:Act}{w:l9}(e:ops[i]?=V d)
  (n:Region.noSelect ops=j1) (f:Region.free md ops b i=j1) (m:(Region.ready md ops b).contains i=j1) (g:Rg md ops k i=j1)
  (o:∀c a w,Q (.panic c) (a.put d.dst v) w->Q (.panic c) a w) (l:S w) (j:YieldsIf P ops S d v a)
  (h:Cx P md ops Q S k fuel (b.setIfInBounds i j1) (a.put d.dst v) w):Cx P md ops Q S k (fuel+1) b a w:=
 Cx.first e (Region.noSelect_spec n) o g fuel b a w (Region.free_spec e f) (by simpa using m) j l h
def fY(md:Region.Mode)(ops:Array Oper)(listed:Array Bool)(i:Nat)(b:Bool):Bool:=Region.noSelect ops&&Region.free md ops listed i&&(Region.ready md ops listed).contains i&&b
def Cx.tk{i:Nat}{d:Oper}{v:lN}{fuel:Nat}{e:Array Bool}{a:Act}{w:l9}(m:ops[i]?=V d)(b:fY md ops e i (Rg md ops k i)=j1)
  (l:∀c a w,Q (.panic c) (a.put d.dst v) w->Q (.panic c) a w) (j:lO (S w)) (f:Region.wanted d (yielded ops a.tmps)=j1) (g:∀w,S w->(execOp a.eval d).run P w=.ok (.value v) w)
  (h:Cx P md ops Q S k fuel (e.setIfInBounds i j1) (a.put d.dst v) w):Cx P md ops Q S k (fuel+1) e a w:=by
 unfold fY at b;simp only[iq]at b;exact Cx.take m b.1.1.1 b.1.1.2 b.1.2 b.2 l j (lx ⟨f,g⟩) h
def Bq{Q:Exit->Act->l9->Prop}(h:lO (∀c a w,¬Q (.panic c) a w)){d:Option Tmp}{v:lN}:∀c a w,Q (.panic c) (Act.put a d v) w->Q (.panic c) a w:=λ_ _ _ b=>absurd b (h _ _ _)
def Cx.one{i:Nat}{o:Oper}{fuel:Nat}{e:Array Bool}{a:Act}{w:l9}(m:Region.ready md ops e=[i])(p:ops[i]?=V o)
  (h:∀f:Act->l9->Prop,lO (∀l c,(i≠k->S c)->Cx P md ops Q S k fuel (e.setIfInBounds i j1) l c->f l c)->
   if Region.wanted o (yielded ops a.tmps)=j1 then o.wp P a w f Q else f (a.put o.dst undef) w):Cx P md ops Q S k (fuel+1) e a w:=by
 refine⟨λn=>(by rw[m]at n;cases n),λj g=>?_⟩;rw[m]at g;simp only[gN]at g;subst g;have b:=h _ (λl c q b=>And.intro q b);unfold wpOp;simp only[p];split
 .rename_i d;rw[gY d]at b;exact .inl b
 .rename_i d;rw[gV d]at b;exact b
def Cx.done{b:Array Bool}{a:Act}{w:l9}(c:Region.ready md ops b=[])(h:Q .normal a w):∀d,Cx P md ops Q S k d b a w
 |0=>⟨c,h⟩
 |_+1=>⟨λ_=>h,by rw[c];simp⟩
def Cz{b:Nat}{a:Act}{w:l9}(k:Nat)(S:l9->Prop)(c:P.follows .mixedOrders=j1)
  (h:Cx P .any ops Q S k ops.size (Array.replicate ops.size K) a w.drew):(Code.region b ops j1).wp P Q a w:=
 wp_region_any c (Cx.any _ _ _ _ h)
end
end Go.Proofs.YtoihbhenbmffcaaGreatDoor
namespace Go.Proofs.YtoihbhenbmffcaaGreatDoor
open Go.RowKit Go.Proofs.Tryz
structure AQ where
 v:Int
 s:zA
def Aq(t:AQ):mc lN:=[X lS t.v,O t.s]
def AD:AQ:=⟨0,lU⟩
set_option maxRecDepth 100000
theorem ND(b:Nat)(B:lN)(ms:mc AZ)(a:Nat)(p:Int)(w:l9)(h:B3 w b B ms a p)(m:AZ)(S:ms[a]'h.lt=m)(x:(m.kind==2)=j1\/(m.kind==2)=K/\(m.kind==3)=j1)(Q:a+1<Z ms):
  Calls prog 193 #[kt (V ⟨b,0,Y⟩)] w λe c=>e=lo (.tuple #[lR (j3 (Aq ⟨0,AA m.text⟩)),lT j1])/\B3 c b B ms (a+1) p/\Ac [b] w c:=by
 have HN:=Ab Q;clear Q;have HM:lO (∀h:a<Z ms,ms[a]=m):=λ_=>S
 have R:=h.lt;have FP:(a:Int)<(Z ms:Int):=by omega
 have Ha:(0:Int)<=(a:Int):=by omega
 have hl:=h.len;have B0:=h.zO.lt;have A:∀k,B.ownBlock=V k->k<w.heap.size:=λk hk=>(h.row.lt k hk).2
 have q:=h.zI ((me [] w).alloc (j2 #[X lS 0,O ⟨#[]⟩] 215));have r:=mf w [X lS 0,O ⟨#[]⟩] 215;have C:=(me [b] w).alloc (j2 [X lS 0,O ⟨#[]⟩].toArray 215);clear S h;go_enter func193,ntmps193;go_wp2_with fail
 generalize w.alloc (j2 [X lS 0,O ⟨#[]⟩].toArray 215)=w1 at q r C⊢;obtain⟨d,u⟩:∃d,w.heap.size=d:=⟨_,rfl⟩;rw[u]at r B0 A⊢;have G:=Ab u;clear u;obtain⟨g,v,rfl,I,E,b2,W⟩:=q.cells;have HB:g<d:=A g rfl;clear A;obtain⟨D,y,z⟩:=W a R;rw[(Aa HM) R]at D y z;clear W b2;have n0:=World.new_ne w1 _ I;have n1:=World.new_ne w1 _ E;have n2:=World.new_ne w1 _ D;have n3:=World.new_ne w1 _ y;have n4:=World.new_ne w1 _ z;have T:=Ab q;have n:=Ab r;clear q r
 go_region_held3 (λc=>lP c ⟨b,0,Y⟩=V (U (V ⟨g,0,Y⟩) (Z ms) v)/\lP c ⟨b,1,Y⟩=V (X J a)/\lP c ⟨g,a*3,Y⟩=V (X J m.kind)/\lP c ⟨g,a*3+1,Y⟩=V (X J m.place)/\lP c ⟨g,a*3+2,Y⟩=V (O m.text)) (go_keep) (fail)
 rename_i B9;clear B9 n0 n1 n2 n3 n4 I E D y z;have EK:=n.lt;have i:=T.zI (((me [] w1).alloc (j2 [X J m.kind,X J m.place,O m.text].toArray 206)).drew);have j:=(mf w1 [X J m.kind,X J m.place,O m.text] 206).drew;have f:=(n.alloc (j2 [X J m.kind,X J m.place,O m.text].toArray 206)).drew;have M:=(C.alloc (j2 [X J m.kind,X J m.place,O m.text].toArray 206)).drew;have P:(w1.alloc (j2 [X J m.kind,X J m.place,O m.text].toArray 206)).drew.heap.size=w1.heap.size+1:=by simp
 clear T n C;generalize(w1.alloc (j2 [X J m.kind,X J m.place,O m.text].toArray 206)).drew=w2 at i j f M P⊢;generalize w1.heap.size=N4 at j EK P⊢;have x0:=j.cell 0;have x1:=j.cell 1;have x2:=j.cell 2;have y0:=f.cell 0;have y1:=f.cell 1;have yf:=f.frozen;have z1:=i.zO.cell 1;have zf:=i.zO.frozen 1;simp at x0 x1 x2 y0 y1 z1;have HD:=j.lt;have HJ:=i.zO.lt;have HK:=f.lt;have za:=λo=>(i.zO.alloc o).cell 1
 have HI:=λo=>(i.zO.alloc o).frozen 1
 have AT:=λo=>(f.alloc o).cell 0
 have A2:=λo=>(f.alloc o).cell 1
 have FO:=λo=>(f.alloc o).frozen
 simp at za AT A2;have q1:¬b=d:=by omega
 have q2:¬d=b:=by omega
 have q3:¬b=w2.heap.size:=by omega
 have q4:¬w2.heap.size=b:=by omega
 have q5:¬d=w2.heap.size:=by omega
 have q6:¬w2.heap.size=d:=by omega
 have H:=Ab i;have n:=Ab f;clear i j f;have A1:lO (∀t L N:lN,t=X J ((a:Int)+1)->B3 ((((w2.alloc (j2 #[X lS 0,O (AA m.text)] 215)).setCell ⟨b,1,Y⟩ t).setCell ⟨d,0,Y⟩ L).setCell ⟨d,1,Y⟩ N) b (U (V ⟨g,0,Y⟩) (Z ms) v) ms (a+1) p):=by
  intro t L N hv;have k1:Ac [b] w2 ((((w2.alloc (j2 #[X lS 0,O (AA m.text)] 215)).setCell ⟨b,1,Y⟩ t))):=((me [b] w2).alloc _).setCell (by simp) _;have l:=H.kept (nx':=a+1) (br':=p) k1 (by rw[hv];exact(H.zO.alloc _).set 1 _) HN;have F:(U (V ⟨g,0,Y⟩) (Z ms) v).ownBlock≠V d:=by simp[lX];omega
  exact⟨(l.zO.zB _ (by simp;omega) _).zB _ (by simp;omega) _,Ag (Ag l.row F _) F _,l.ap,l.lt,l.len⟩
 have CL:lO (∀s w,Calls prog 217 #[O s] w λe c=>e=lo (O (AA s))/\c=w):=T3;rcases x with x|⟨x,e3⟩;all_goals
  go_wp2_with (go_at_call 217;refine(CL _ _).mono ?_;rintro e c ⟨rfl,rfl⟩)
  refine im (Au rfl rfl ((((n.alloc _).zB ⟨b,1,Y⟩ (by simp;omega) _).set 0 _).set 1 _) underlying215 rfl (by kernel_rfl)) rfl ⟨rfl,?_,?_⟩
  .exact A1.out _ _ _ rfl
  .refine Ac.setCell (Ac.setCell (Ac.setCell (M.alloc _) (by simp) _) (by right;have:=Aa G;simp;omega) _) (by right;have:=Aa G;simp;omega) _
theorem WE(b:Nat)(y:lN)(ms:mc AZ)(a:Nat)(S:Int)(w:l9)(h:B3 w b y ms a S)(m:AZ)(P:ms[a]'h.lt=m)(e2:(m.kind==2)=K)(e3:(m.kind==3)=K)(e4:(m.kind==4)=K):
  Calls prog 193 #[kt (V ⟨b,0,Y⟩)] w λe i=>e=lo (.tuple #[lR (j3 (Aq AD)),lT K])/\B3 i b y ms a m.place/\Ac [b] w i:=by
 have HM:lO (∀h:a<Z ms,ms[a]=m):=λ_=>P
 have A2:=h.lt;have Go:(a:Int)<(Z ms:Int):=by omega
 have HA:(0:Int)<=(a:Int):=by omega
 have hl:=h.len;have FA:=h.zO.lt;have B:∀k,y.ownBlock=V k->k<w.heap.size:=λk hk=>(h.row.lt k hk).2
 have r:=h.zI ((me [] w).alloc (j2 #[X lS 0,O ⟨#[]⟩] 215));have p:=mf w [X lS 0,O ⟨#[]⟩] 215;have u:=(me [b] w).alloc (j2 [X lS 0,O ⟨#[]⟩].toArray 215);clear P h;go_enter func193,ntmps193;go_wp2_with fail
 generalize w.alloc (j2 [X lS 0,O ⟨#[]⟩].toArray 215)=w1 at r p u⊢;obtain⟨d,x⟩:∃d,w.heap.size=d:=⟨_,rfl⟩;rw[x]at p FA B⊢;have M:=Ab x;clear x;obtain⟨g,A0,rfl,D,L,b2,H⟩:=r.cells;have FP:g<d:=B g rfl;clear B;obtain⟨z,v,s⟩:=H a A2;rw[(Aa HM) A2]at z v s;clear H b2;have n0:=World.new_ne w1 _ D;have n1:=World.new_ne w1 _ L;have n2:=World.new_ne w1 _ z;have n3:=World.new_ne w1 _ v;have n4:=World.new_ne w1 _ s;have HH:=Ab r;have l:=Ab p;clear r p
 go_region_held3 (λi=>lP i ⟨b,0,Y⟩=V (U (V ⟨g,0,Y⟩) (Z ms) A0)/\lP i ⟨b,1,Y⟩=V (X J a)/\lP i ⟨g,a*3,Y⟩=V (X J m.kind)/\lP i ⟨g,a*3+1,Y⟩=V (X J m.place)/\lP i ⟨g,a*3+2,Y⟩=V (O m.text)) (go_keep) (fail)
 rename_i FB;clear FB n0 n1 n2 n3 n4 D L z v s;have B9:=l.lt;have f:=HH.zI (((me [] w1).alloc (j2 [X J m.kind,X J m.place,O m.text].toArray 206)).drew);have j:=(mf w1 [X J m.kind,X J m.place,O m.text] 206).drew;have c:=(l.alloc (j2 [X J m.kind,X J m.place,O m.text].toArray 206)).drew;have A:=(u.alloc (j2 [X J m.kind,X J m.place,O m.text].toArray 206)).drew;have E:(w1.alloc (j2 [X J m.kind,X J m.place,O m.text].toArray 206)).drew.heap.size=w1.heap.size+1:=by simp
 clear HH l u;generalize(w1.alloc (j2 [X J m.kind,X J m.place,O m.text].toArray 206)).drew=w2 at f j c A E⊢;generalize w1.heap.size=N4 at j B9 E⊢;have I:=j.cell 0;have x1:=j.cell 1;have G:=j.cell 2;have y0:=c.cell 0;have N:=c.cell 1;have yf:=c.frozen;have W:=f.zO.cell 1;have zf:=f.zO.frozen 1;simp at I x1 G y0 N W;have HB:=j.lt;have FT:=f.zO.lt;have HC:=c.lt;have za:=λo=>(f.zO.alloc o).cell 1
 have B2:=λo=>(f.zO.alloc o).frozen 1
 have Q:=λo=>(c.alloc o).cell 0
 have R:=λo=>(c.alloc o).cell 1
 have FC:=λo=>(c.alloc o).frozen
 simp at za Q R;have q1:¬b=d:=by omega
 have q2:¬d=b:=by omega
 have q3:¬b=w2.heap.size:=by omega
 have q4:¬w2.heap.size=b:=by omega
 have q5:¬d=w2.heap.size:=by omega
 have q6:¬w2.heap.size=d:=by omega
 have AT:=Ab f;have l:=Ab c;clear f j c;go_wp2_with fail
 have F:=AT.zI ((me [] w2).alloc (j2 #[X lS 0,O ⟨#[]⟩] 215));refine(E9 b _ ms a S m.place _ F).mono ?_;rintro e w4 ⟨rfl,T,t⟩;have q:=(l.alloc _).kept t (by simp;omega);have FL:=(A.alloc _).trans t;have v0:=q.cell 0;have v1:=q.cell 1;have vf:=q.frozen;simp at v0 v1;have EK:=Ab T;clear F T t I x1 G y0 N yf W zf za B2 Q R FC AT l A;go_wp2;refine im (Au rfl rfl ((q.set 0 _).set 1 _) underlying215 rfl (by kernel_rfl)) rfl ⟨rfl,?_,?_⟩
 .have C:(U (V ⟨g,0,Y⟩) (Z ms) A0).ownBlock≠V d:=by simp[lX];omega
  have n:=Aa EK;exact⟨(n.zO.zB _ (by simp;omega) _).zB _ (by simp;omega) _,Ag (Ag n.row C _) C _,n.ap,n.lt,n.len⟩
 .refine Ac.setCell (Ac.setCell FL (by right;have:=Aa M;simp;omega) _) (by right;have:=Aa M;simp;omega) _
def CU(s:zA)(pos:Nat)(v:Int):Int:=
 if h:pos<s.size/\1<=(Utf8.decode s pos).2 then have _h1:pos<s.size:=h.1;have _h2:=h.2;CU s (pos+(Utf8.decode s pos).2) (Utf8.decode s pos).1 else v
def KR{s:zA}{pos:Nat}(v:Int)(h:pos<s.size):CU s pos v=CU s (pos+(Utf8.decode s pos).2) (Utf8.decode s pos).1:=by
 conv=>lhs;rw[CU]
 rw[dif_pos ⟨h,Ip s pos h⟩]
def S6{s:zA}{pos:Nat}(v:Int)(h:¬pos<s.size):CU s pos v=v:=by
 rw[CU,dif_neg (by omega)]
theorem Zl(b:Nat)(mv:lN)(ms:mc AZ)(c:Nat)(z:Int)(w:l9)(h:B3 w b mv ms c z)(m:AZ)(E:ms[c]'h.lt=m)(e2:(m.kind==2)=K)(e3:(m.kind==3)=K)(e4:(m.kind==4)=j1)(hn:c+1<Z ms)(LM:m.text.size<=2000):
  Calls prog 193 #[kt (V ⟨b,0,Y⟩)] w λe q=>e=lo (.tuple #[lR (j3 (Aq ⟨CU m.text 0 0,lU⟩)),lT j1])/\B3 q b mv ms (c+1) z/\Ac [b] w q:=by
 have HN:=Ab hn;clear hn;have HM:lO (∀h:c<Z ms,ms[c]=m):=λ_=>E
 have HS:=h.lt;have y:(c:Int)<(Z ms:Int):=by omega
 have K8:(0:Int)<=(c:Int):=by omega
 have hl:=h.len;have Jx:=h.zO.lt;have EX:∀k,mv.ownBlock=V k->k<w.heap.size:=λk hk=>(h.row.lt k hk).2
 have h1:=h.zI ((me [] w).alloc (j2 #[X lS 0,O ⟨#[]⟩] 215));have H:=mf w [X lS 0,O ⟨#[]⟩] 215;have BA:=(me [b] w).alloc (j2 [X lS 0,O ⟨#[]⟩].toArray 215);clear E h;go_enter func193,ntmps193;go_wp2_with fail
 generalize w.alloc (j2 [X lS 0,O ⟨#[]⟩].toArray 215)=w1 at h1 H BA⊢;obtain⟨d,CC⟩:∃d,w.heap.size=d:=⟨_,rfl⟩;rw[CC]at H Jx EX⊢;have H4:=Ab CC;clear CC;obtain⟨g,u,rfl,b0,b1,b2,hc⟩:=h1.cells;have K6:g<d:=EX g rfl;clear EX;obtain⟨c0,c1,c2⟩:=hc c HS;rw[(Aa HM) HS]at c0 c1 c2;clear hc b2;have n0:=World.new_ne w1 _ b0;have n1:=World.new_ne w1 _ b1;have n2:=World.new_ne w1 _ c0;have n3:=World.new_ne w1 _ c1;have n4:=World.new_ne w1 _ c2;have HH:=Ab h1;have n:=Ab H;clear h1 H
 go_region_held3 (λq=>lP q ⟨b,0,Y⟩=V (U (V ⟨g,0,Y⟩) (Z ms) u)/\lP q ⟨b,1,Y⟩=V (X J c)/\lP q ⟨g,c*3,Y⟩=V (X J m.kind)/\lP q ⟨g,c*3+1,Y⟩=V (X J m.place)/\lP q ⟨g,c*3+2,Y⟩=V (O m.text)) (go_keep) (fail)
 rename_i KK;clear KK n0 n1 n2 n3 n4 b0 b1 c0 c1 c2;have H0:=n.lt;have p:=HH.zI (((me [] w1).alloc (j2 [X J m.kind,X J m.place,O m.text].toArray 206)).drew);have r:=(mf w1 [X J m.kind,X J m.place,O m.text] 206).drew;have j:=(n.alloc (j2 [X J m.kind,X J m.place,O m.text].toArray 206)).drew;have B:=(BA.alloc (j2 [X J m.kind,X J m.place,O m.text].toArray 206)).drew;have x:(w1.alloc (j2 [X J m.kind,X J m.place,O m.text].toArray 206)).drew.heap.size=w1.heap.size+1:=by simp
 clear HH n BA;generalize(w1.alloc (j2 [X J m.kind,X J m.place,O m.text].toArray 206)).drew=w2 at p r j B x⊢;generalize w1.heap.size=N4 at r H0 x⊢;have I:=r.cell 0;have W:=r.cell 1;have x2:=r.cell 2;have T:=j.cell 0;have L:=j.cell 1;have yf:=j.frozen;have R:=p.zO.cell 1;have zf:=p.zO.frozen 1;simp at I W x2 T L R;have H7:=r.lt;have H1:=p.zO.lt;have H8:=j.lt;have za:=λo=>(p.zO.alloc o).cell 1
 have HZ:=λo=>(p.zO.alloc o).frozen 1
 have Go:=λo=>(j.alloc o).cell 0
 have HA:=λo=>(j.alloc o).cell 1
 have K1:=λo=>(j.alloc o).frozen
 simp at za Go HA;have q1:¬b=d:=by omega
 have q2:¬d=b:=by omega
 have q3:¬b=w2.heap.size:=by omega
 have q4:¬w2.heap.size=b:=by omega
 have q5:¬d=w2.heap.size:=by omega
 have q6:¬w2.heap.size=d:=by omega
 have HF:=Ab p;have n:=Ab j;clear p r j;go_wp2;have EY:(w2.alloc (j2 #[X lS 0,O ⟨#[]⟩] 215)).heap.size=N4+1+1:=by simp[x]
 have B9:Ac [b] w ((w2.alloc (j2 #[X lS 0,O ⟨#[]⟩] 215)).iter m.text 0):=(B.alloc _).alloc _;have h3:B3 ((w2.alloc (j2 #[X lS 0,O ⟨#[]⟩] 215)).iter m.text 0) b (U (V ⟨g,0,Y⟩) (Z ms) u) ms c z:=HF.zI (((me [] w2).alloc _).alloc _);have BS:AH ((w2.alloc (j2 #[X lS 0,O ⟨#[]⟩] 215)).iter m.text 0) d [X lS 0,O ⟨#[]⟩] 215:=(n.alloc _).alloc _;have A2:AH ((w2.alloc (j2 #[X lS 0,O ⟨#[]⟩] 215)).iter m.text 0) (N4+1) [X lS 0,O ⟨#[]⟩] 215:=by rw[<-x];exact(mf w2 [X lS 0,O ⟨#[]⟩] 215).alloc _
 have M:=World.iter_heap (w2.alloc (j2 #[X lS 0,O ⟨#[]⟩] 215)) m.text 0;rw[EY]at M;have Bx:N4+1+1<((w2.alloc (j2 #[X lS 0,O ⟨#[]⟩] 215)).iter m.text 0).heap.size:=by simp[World.iter,x]
 have L0:w.heap.size<=d:=by have:=Aa H4;omega
 clear I W x2 T L yf R zf za HZ Go HA K1 HF n B EY q1 q2 q3 q4 q5 q6 H7 H1 H8 x;generalize(w2.alloc (j2 #[X lS 0,O ⟨#[]⟩] 215)).iter m.text 0=w3 at B9 h3 BS A2 M Bx⊢
 go_loopg [] m.text.size (λgk wr=>∃(pos:Nat) (v:Int),gk=m.text.size-pos/\pos<=m.text.size+4/\lO (CU m.text pos v=CU m.text 0 0)/\lO (wr.heap[N4+1+1]?=V (.stringIter m.text pos))/\lO (B3 wr b (U (V ⟨g,0,Y⟩) (Z ms) u) ms c z)/\lO (AH wr d [X lS 0,O ⟨#[]⟩] 215)/\lO (AH wr (N4+1) [X lS v,O ⟨#[]⟩] 215)/\Ac [b] w wr/\N4+1+1<wr.heap.size)
 case atStart=>exact⟨0,0,by simp,by omega,rfl,M,h3,BS,A2,B9,Bx⟩
 case round=>
  clear M h3 BS A2 B9 Bx;obtain⟨pos,v,HK,K7,S,Q,l,A,HT,hK,hz⟩:=hrel;have HG:=Ab HK;clear HK;by_cases y:pos<m.text.size
  .obtain⟨D,a,C⟩:∃D a,Utf8.decode m.text pos=(D,a):=⟨_,_,rfl⟩;(have LL:a<=4:=by have:=U3 m.text pos;rw[C]at this;exact this);(have K9:1<=a:=by have:=Ip m.text pos y;rw[C]at this;exact this);have FT:∀t,(Instr.next (kt (V ⟨N4+1+1,0,Y⟩)) j1 t).run prog wr=.ok (.tuple #[lT j1,X J pos,X lS D]) (C3 wr (N4+1+1) m.text (pos+a)):=by
    intro t;have h:=VD (P:=prog) Q t y;rw[C]at h;exact h
   have Ha:=Ab (PU (w:=wr) (N:=N4+1+1) (s:=m.text) (pos:=pos+a) hz);have B0:=A.kept (DE wr (N4+1+1) m.text (pos+a)) (by simp;omega);have F:=HT.kept (DE wr (N4+1+1) m.text (pos+a)) (by simp);(have G:(U (V ⟨g,0,Y⟩) (Z ms) u).ownBlock≠V (N4+1+1):=by simp[lX];omega);have B2:B3 (C3 wr (N4+1+1) m.text (pos+a)) b (U (V ⟨g,0,Y⟩) (Z ms) u) ms c z:=
    ⟨l.zO.kept (DE wr (N4+1+1) m.text (pos+a)) (by simp;omega),Ai l.row (DE wr (N4+1+1) m.text (pos+a)) (λi hi E=>by simp at E;subst E;exact G hi),l.ap,l.lt,l.len⟩
   have B:Ac [b] w (C3 wr (N4+1+1) m.text (pos+a)):=hK.trans' (DE wr (N4+1+1) m.text (pos+a)) (by intro i hi;right;simp at hi;omega);(have HD:N4+1+1<(C3 wr (N4+1+1) m.text (pos+a)).heap.size:=by rw[IV];exact hz);have IS:lO (CU m.text (pos+a) D=CU m.text 0 0):=by
    have h:=S.out;rw[KR v y,C]at h;exact h
   clear C Q l A HT S hK hz;generalize C3 wr (N4+1+1) m.text (pos+a)=w4 at FT Ha B0 F B2 B HD;have v0:=F.cell 0;have vf:=F.frozen 0;simp at v0;have n:=Ab B0;have H3:=Ab F;have H6:=Ab B2;clear B0 F B2;go_wp2_with fail
   go_roundg (m.text.size-(pos+a))
   case measure=>have:=Aa HG;omega
   case rel=>
    refine⟨pos+a,D,rfl,by omega,IS,?_,?_,n.zB _ (by simp;omega) _,H3.set 0 _,B.setCell (by right;simp;omega) _,by simpa using HD⟩
    .show _=_;rw[Below.heap_setCell _ _ _ _ (by simp)];exact Ha
    .have f:=Aa H6;(have K4:(U (V ⟨g,0,Y⟩) (Z ms) u).ownBlock≠V (N4+1):=by simp[lX];omega);exact⟨f.zO.zB _ (by simp;omega) _,Ag f.row K4 _,f.ap,f.lt,f.len⟩
  ·(have FT:∀t,(Instr.next (kt (V ⟨N4+1+1,0,Y⟩)) j1 t).run prog wr=.ok (.tuple #[lT K]) wr:=λt=>Vo (P:=prog) Q t y);(have HV:lO (v=CU m.text 0 0):=by have h:=S.out;rwa [S6 v y]at h);have R:=l.zO.cell 1;have zf:=l.zO.frozen 1;have T:=A.cell 0;have L:=A.cell 1;have yf:=A.frozen;have I:=HT.cell 0;have W:=HT.cell 1;simp at R T L I W;(have q1:¬b=d:=by omega);(have q2:¬d=b:=by omega);(have q3:¬b=N4+1:=by omega);(have q4:¬N4+1=b:=by omega);(have q5:¬d=N4+1:=by omega);(have q6:¬N4+1=d:=by omega);clear S Q;go_wp2;have hR:=Aa l;have k1:Ac [b] wr (wr.setCell ⟨b,1,Y⟩ (X J ((c:Int)+1))):=(me [b] wr).setCell (by simp) _;have f:=hR.kept (nx':=c+1) (br':=z) k1 (hR.zO.set 1 _) HN;(have G:(U (V ⟨g,0,Y⟩) (Z ms) u).ownBlock≠V d:=by simp[lX];omega);refine im (Au rfl rfl (((A.zB ⟨b,1,Y⟩ (by simp;omega) _).set 0 _).set 1 _) underlying215 rfl (by kernel_rfl)) rfl ⟨?_,?_,?_⟩
   .rw[<-HV.out];rfl
   .exact⟨(f.zO.zB _ (by simp;omega) _).zB _ (by simp;omega) _,Ag (Ag f.row G _) G _,f.ap,f.lt,f.len⟩
   .exact((hK.trans k1).setCell (by right;simp;omega) _).setCell (by right;simp;omega) _
structure VB(ms:mc AZ):Prop where
 ends:∀i (h:i<Z ms),(ms[i].kind==1)=K->i+1<Z ms
 text:∀i (h:i<Z ms),ms[i].text.size<=2000
def Ft(m:AZ)(nx:Nat):Except Int (AQ×Nat):=
 if m.kind==2||m.kind==3 then .ok (⟨0,AA m.text⟩,nx+1)
 else if m.kind==4 then .ok (⟨CU m.text 0 0,lU⟩,nx+1)
 else .error m.place
def dS(b:Nat)(mv:lN)(ms:mc AZ)(br:Int)(w:l9)(e:Ending)(w':l9):Except Int (AQ×Nat)->Prop
 | .ok (t,nx)=>e=lo (.tuple #[lR (j3 (Aq t)),lT j1])/\B3 w' b mv ms nx br/\Ac [b] w w'
 | .error p=>∃nx,e=lo (.tuple #[lR (j3 (Aq AD)),lT K])/\B3 w' b mv ms nx p/\Ac [b] w w'
def Is(b:Nat)(f:lN)(ms:mc AZ)(a:Nat)(g:Int)(w:l9)(h:B3 w b f ms a g)(n:VB ms)(m:AZ)(d:ms[a]'h.lt=m):
  Calls prog 193 #[kt (V ⟨b,0,Y⟩)] w λe i=>dS b f ms g w e i (Ft m a):=by
 have l:(m.kind==1)=K->a+1<Z ms:=by rw[<-d];exact n.ends a h.lt
 have q:m.text.size<=2000:=by rw[<-d];exact n.text a h.lt
 have j:∀k:Int,(m.kind==k)=j1->k≠1->(m.kind==1)=K:=λk o p=>by
  have:m.kind=k:=by simpa using o
  rw[this];simpa using p
 cases e2:(m.kind==2)with
 |true=>
  refine(ND b f ms a g w h m d (lx e2) (l (j 2 e2 (by decide)))).mono ?_;intro e i c;simp only[Ft,e2,kN,if_true];exact c
 |false=>
  cases e3:(m.kind==3)with
  |true=>
   refine(ND b f ms a g w h m d (ly ⟨e2,e3⟩) (l (j 3 e3 (by decide)))).mono ?_;intro e i c;simp only[Ft,e3,lm,if_true];exact c
  |false=>
   cases e4:(m.kind==4)with
   |true=>
    refine(Zl b f ms a g w h m d e2 e3 e4 (l (j 4 e4 (by decide))) q).mono ?_;intro e i c;simp only[Ft,e2,e3,e4,lM,gO,if_false,if_true];exact c
   |false=>
    refine(WE b f ms a g w h m d e2 e3 e4).mono ?_;intro e i c;simp only[Ft,e2,e3,e4,lM,gO,if_false];exact⟨a,c⟩
def R6:zA:=⟨#[40]⟩
theorem Zs:R6.toList=[40]:=by kernel_rfl
def Ez(ms:mc AZ)(nx:Nat):Bool:=
 match ms[nx]?,ms[nx+1]? with
 |some m,V m'=>m.kind==2&&BM m' R6
 |_,_=>K
theorem SW(b:Nat)(I:lN)(ms:mc AZ)(a:Nat)(G:Int)(w:l9)(h:B3 w b I ms a G)(B:VB ms):
  Calls prog 199 #[kt (V ⟨b,0,Y⟩)] w λe d=>e=lo (lT (Ez ms a))/\Ac [] w d:=by
 obtain⟨g,z,rfl,y,u,_,q⟩:=h.cells;have p:=h.lt;have hl:=h.len;obtain⟨C,_,_⟩:=q a p;obtain⟨m,f⟩:∃m,ms[a]=m:=⟨_,rfl⟩;have j:=B.ends a p;rw[f]at C j;have N:(a:Int)<(Z ms:Int):=by omega
 have T:(0:Int)<=(a:Int):=by omega
 clear h B;cases hk:(m.kind==2)with
 |false=>
  have l:lO (Ez ms a=K):=by
   show _=_;unfold Ez;rw[gS p,f];split
   .rename_i v _;simp only[gT]at v;subst v;simp[hk]
   .rfl
  have D:(m.kind !=2)=j1:=by simp[bne,hk]
  clear q j f;go_enter func199,ntmps199;go_wp2
  go_quiet (fail)
  go_wp2;go_ret;exact⟨by rw[l.out];rfl,(me _ _).drewN _⟩
 |true=>
  have t:=j (by have:m.kind=2:=(by simpa using hk);rw[this];decide);obtain⟨c,r⟩:∃c,ms[a+1]=c:=⟨_,rfl⟩;obtain⟨o,n,i⟩:=q (a+1) t;rw[r]at o n i;have l:lO (Ez ms a=BM c R6):=by
   show _=_;unfold Ez;rw[gS p,f,gS t,r];simp[hk]
  have D:(m.kind !=2)=K:=by simp[bne,hk]
  obtain⟨k,x⟩:∃k,a+1=k:=⟨_,rfl⟩;have hw:IntKind.i64.wrap ((a:Int)+1)=(k:Int):=by
   rw[j7];omega
  have S:(0:Int)<=(k:Int):=by omega
  have P:(k:Int)<(Z ms:Int):=by omega
  rw[x]at o n i;clear q j f r t x;go_enter func199,ntmps199;go_wp2
  go_quiet (fail)
  have A:Ac [] w (w.drewN nq):=(me _ _).drewN _;have L:lP (w.drewN nq) ⟨b,0,Y⟩=V (U (V ⟨g,0,Y⟩) (Z ms) z):=y;have M:lP (w.drewN nq) ⟨b,1,Y⟩=V (X J a):=u;have H:lP (w.drewN nq) ⟨g,k*3,Y⟩=V (X J c.kind):=o;have E:lP (w.drewN nq) ⟨g,k*3+1,Y⟩=V (X J c.place):=n;have F:lP (w.drewN nq) ⟨g,k*3+2,Y⟩=V (O c.text):=i;clear y u C o n i;generalize w.drewN nq=w1 at*;have W:=World.new_ne w1 _ L;have n1:=World.new_ne w1 _ M;have n2:=World.new_ne w1 _ H;have Q:=World.new_ne w1 _ E;have R:=World.new_ne w1 _ F;go_wp2_with fail
  go_region_held3 (λd=>lP d ⟨b,0,Y⟩=V (U (V ⟨g,0,Y⟩) (Z ms) z)/\lP d ⟨b,1,Y⟩=V (X J a)/\lP d ⟨g,k*3,Y⟩=V (X J c.kind)/\lP d ⟨g,k*3+1,Y⟩=V (X J c.place)/\lP d ⟨g,k*3+2,Y⟩=V (O c.text)) (go_keep) (fail)
  cases hs:(c.kind==5)with
  |true=>
   (have s:lO (BM c R6=(c.text.toList==R6.toList)):=by show _=_;simp[BM,hs]);go_wp2;all_goals
    go_ret;refine⟨Bh ?_,?_⟩
    .rw[l.out,s.out,Zs]
    .repeat (first|refine Ac.drew ?_|refine Ac.setCell ?_ (by simp) _|refine Ac.alloc ?_ _|refine Ac.drewN ?_ _)
     exact A
  |false=>
   (have s:lO (BM c R6=K):=by show _=_;simp[BM,hs]);go_wp2;all_goals
    go_ret;refine⟨Bh ?_,?_⟩
    .rw[l.out,s.out]
    .repeat (first|refine Ac.drew ?_|refine Ac.setCell ?_ (by simp) _|refine Ac.alloc ?_ _|refine Ac.drewN ?_ _)
     exact A
structure GN where
 place:Int
 name:zA
 tv:lN
def AK(a:GN):mc lN:=[X J a.place,O a.name,a.tv]
def AX:GN:=⟨0,lU,U Y 0 0⟩
structure ai where
 place:Int
 sort:Int
 atom:GN
 left:AQ
 right:AQ
def Ay(l:ai):mc lN:=[X J l.place,X J l.sort,X J l.atom.place,O l.atom.name,l.atom.tv,X lS l.left.v,O l.left.s,X lS l.right.v,O l.right.s]
def B8:ai:=⟨0,0,AX,AD,AD⟩
def As(ms:mc AZ)(i:Nat):AZ:=ms.getD i ⟨1,0,lU⟩
def Bb{ms:mc AZ}{i:Nat}(h:i<Z ms):ms[i]=As ms i:=by simp[As,h]
def VB.seen{ms:mc AZ}(b:VB ms){i:Nat}(h:i<Z ms)(t:zA)(a:BM (As ms i) t=j1):i+1<Z ms:=by
 refine b.ends i h ?_;rw[Bb h];unfold BM at a;rw[iq]at a;have:(As ms i).kind=5:=by simpa using a.1
 rw[this];decide
def WD(cs:mc lN)(h:Z cs=9)(d v1 b a e v5 c g f:lN):(((((((((cs.set 0 d).set 1 v1).set 2 b).set 3 a).set 4 e).set 5 v5).set 6 c).set 7 g).set 8 f)=[d,v1,b,a,e,v5,c,g,f]:=by
 match cs,h with
 |[a0,a1,a2,a3,a4,a5,a6,a7,a8],_=>rfl
def AH.zG{w:l9}{N:Nat}{cs:mc lN}{t:TypeId}(h:AH w N cs t)(j:Z cs=9)(d v1 b a e v5 c g f:lN):AH (((((((((w.setCell ⟨N,0,Y⟩ d).setCell ⟨N,1,Y⟩ v1).setCell ⟨N,2,Y⟩ b).setCell ⟨N,3,Y⟩ a).setCell ⟨N,4,Y⟩ e).setCell ⟨N,5,Y⟩ v5).setCell ⟨N,6,Y⟩ c).setCell ⟨N,7,Y⟩ g).setCell ⟨N,8,Y⟩ f) N [d,v1,b,a,e,v5,c,g,f] t:=by
 have i:=(((((((((h.set 0 d).set 1 v1).set 2 b).set 3 a).set 4 e).set 5 v5).set 6 c).set 7 g).set 8 f);rw[WD cs j]at i;exact i
def fT:zA:=⟨#[61]⟩
def fR:zA:=⟨#[35]⟩
def fQ:zA:=⟨#[60]⟩
def MD(m:AZ):Option Int:=if BM m fT then V 2 else if BM m fR then V 3 else if BM m fQ then V 4 else Y
def Hi(ms:mc AZ)(nx:Nat):Except Int (ai×Nat):=
 match Ft (As ms nx) nx with
 | .error p=> .error p
 | .ok (l,n1)=>
  match MD (As ms n1)with
  |none=> .error (As ms n1).place
  |some s=>
   match Ft (As ms (n1+1)) (n1+1)with
   | .error p=> .error p
   | .ok (r,n2)=> .ok (⟨(As ms nx).place,s,AX,l,r⟩,n2)
def Sm{ms:mc AZ}{a:Nat}{l:ai}{n:Nat}(h:Hi ms a=.ok (l,n)):l.atom=AX:=by
 unfold Hi at h;split at h
 .cases h
 .split at h
  .cases h
  .split at h
   .cases h
   .simp only[i8,iE]at h;rw[<-h.1]
def B3.other{w:l9}{b:Nat}{a:lN}{ms:mc AZ}{d:Nat}{c:Int}(h:B3 w b a ms d c){p:Addr}(e:p.block≠b)(f:a.ownBlock≠V p.block)(u:lN):B3 (w.setCell p u) b a ms d c:=
 ⟨h.zO.zB _ e _,Ag h.row f _,h.ap,h.lt,h.len⟩
def B3.zG{w:l9}{b:Nat}{d:lN}{ms:mc AZ}{n:Nat}{e:Int}(h:B3 w b d ms n e){N:Nat}(a:N≠b)(c:d.ownBlock≠V N)(j v1 i f k v5 g m l:lN):B3 (((((((((w.setCell ⟨N,0,Y⟩ j).setCell ⟨N,1,Y⟩ v1).setCell ⟨N,2,Y⟩ i).setCell ⟨N,3,Y⟩ f).setCell ⟨N,4,Y⟩ k).setCell ⟨N,5,Y⟩ v5).setCell ⟨N,6,Y⟩ g).setCell ⟨N,7,Y⟩ m).setCell ⟨N,8,Y⟩ l) b d ms n e:=
 (((((((((h.other (p:=⟨N,0,Y⟩) a c j).other (p:=⟨N,1,Y⟩) a c v1).other (p:=⟨N,2,Y⟩) a c i).other (p:=⟨N,3,Y⟩) a c f).other (p:=⟨N,4,Y⟩) a c k).other (p:=⟨N,5,Y⟩) a c v5).other (p:=⟨N,6,Y⟩) a c g).other (p:=⟨N,7,Y⟩) a c m).other (p:=⟨N,8,Y⟩) a c l)
def Ac.zG{M:mc Nat}{a w:l9}(h:Ac M a w){N:Nat}(b:N∈M\/a.heap.size<=N)(f v1 d c g v5 e j i:lN):Ac M a (((((((((w.setCell ⟨N,0,Y⟩ f).setCell ⟨N,1,Y⟩ v1).setCell ⟨N,2,Y⟩ d).setCell ⟨N,3,Y⟩ c).setCell ⟨N,4,Y⟩ g).setCell ⟨N,5,Y⟩ v5).setCell ⟨N,6,Y⟩ e).setCell ⟨N,7,Y⟩ j).setCell ⟨N,8,Y⟩ i):=
 (((((((((h.setCell (p:=⟨N,0,Y⟩) b f).setCell (p:=⟨N,1,Y⟩) b v1).setCell (p:=⟨N,2,Y⟩) b d).setCell (p:=⟨N,3,Y⟩) b c).setCell (p:=⟨N,4,Y⟩) b g).setCell (p:=⟨N,5,Y⟩) b v5).setCell (p:=⟨N,6,Y⟩) b e).setCell (p:=⟨N,7,Y⟩) b j).setCell (p:=⟨N,8,Y⟩) b i)
def fj(b:Nat)(mv:lN)(ms:mc AZ)(br:Int)(w:l9)(e:Ending)(w':l9):Except Int (ai×Nat)->Prop
 | .ok (l,nx)=>e=lo (.tuple #[lR (j3 (Ay l)),lT j1])/\B3 w' b mv ms nx br/\Ac [b] w w'
 | .error p=>∃nx l,l.atom=AX/\e=lo (.tuple #[lR (j3 (Ay l)),lT K])/\B3 w' b mv ms nx p/\Ac [b] w w'
theorem dN(b:Nat)(n:lN)(ms:mc AZ)(t:Nat)(D:Int)(w:l9)(h:B3 w b n ms t D)(ok:VB ms):
  Calls prog 200 #[kt (V ⟨b,0,Y⟩)] w λe w'=>fj b n ms D w e w' (Hi ms t):=by
 have HO:=Ab ok;have M3:=h.zO.lt;have K9:∀k,n.ownBlock=V k->k<w.heap.size:=λk hk=>(h.row.lt k hk).2
 have h1:=Ab (h.zI ((me [] w).alloc (j2 (j3 (Ay B8)) 217)));have hN:=Ab (mf w (Ay B8) 217);have KK:=Ab ((me [b] w).alloc (j2 (j3 (Ay B8)) 217));have K5:(w.alloc (j2 (j3 (Ay B8)) 217)).heap.size=w.heap.size+1:=by simp
 clear h ok;go_enter func200,ntmps200;go_wp2_with fail
 change Calls _ _ _ (w.alloc (j2 (j3 (Ay B8)) 217)) _;generalize w.alloc (j2 (j3 (Ay B8)) 217)=w1 at h1 hN KK K5⊢;obtain⟨N,K7⟩:∃N,w.heap.size=N:=⟨_,rfl⟩;rw[K7]at hN M3 K5 K9⊢;have g:lO (∀k,N<=k->n.ownBlock≠V k):=λk hk e=>by have:=K9 k e;omega
 clear K9;have HN:=Ab K7;clear K7;refine(IE b n ms t D _ h1 (As ms t) (Bb h1.lt)).mono ?_;rintro e w2 ⟨rfl,k2⟩;have h2:=Ab (h1.zI k2);have LL:=Ab (hN.kept k2 (by simp));have MY:=Ab (KK.trans (k2.mono (by simp)));have M2:N+1<=w2.heap.size:=by have:=k2.size;omega
 clear h1 hN KK K5 k2;obtain⟨p,hp⟩:∃p,(As ms t).place=p:=⟨_,rfl⟩;have HP:=Ab hp;rw[hp];clear hp;go_wp2_with fail
 change Calls _ _ _ (w2.alloc (j2 (j3 (Ay ⟨p,0,AX,AD,AD⟩)) 217)) _;have h3:=Ab (h2.zI ((me [] w2).alloc (j2 (j3 (Ay ⟨p,0,AX,AD,AD⟩)) 217)));have HE:=Ab (LL.alloc (j2 (j3 (Ay ⟨p,0,AX,AD,AD⟩)) 217));have Go:=Ab (mf w2 (Ay ⟨p,0,AX,AD,AD⟩) 217);have HJ:=Ab (MY.alloc (j2 (j3 (Ay ⟨p,0,AX,AD,AD⟩)) 217));clear h2 LL MY;generalize w2.alloc (j2 (j3 (Ay ⟨p,0,AX,AD,AD⟩)) 217)=w3 at h3 HE Go HJ⊢;obtain⟨L,M1⟩:∃L,w2.heap.size=L:=⟨_,rfl⟩;rw[M1]at Go M2⊢;clear M1;refine(Is b n ms t D _ h3 HO (As ms t) (Bb h3.lt)).mono ?_;intro e w4 m;cases ht:Ft (As ms t) t with
 |error q=>
  rw[ht]at m;obtain⟨n9,rfl,h4,k4⟩:=m;have B:lO (Hi ms t=.error q):=by show _=_;unfold Hi;rw[ht]
  have G:=HE.kept k4 (by simp;omega);have EK:=Go.kept k4 (by simp;omega);have HV:=Ab (HJ.trans k4);clear h3 HE Go HJ ht k4;have A:=EK.cell 5;have C:=EK.cell 6;have lf:=EK.frozen;have nf:=G.frozen;have T:=G.cell 0;have I:=G.cell 1;have E:=G.cell 2;have M:=G.cell 3;have S:=G.cell 4;have c5:=G.cell 5;have Q:=G.cell 6;have c7:=G.cell 7;have H:=G.cell 8;simp[Ay,B8,AX,AD]at A C T I E M S c5 Q c7 H;have q1:¬L=N:=by omega
  have q2:¬N=L:=by omega
  have W:=Ab G;have o:=Ab h4;clear G EK h4;simp only[Aq,AD];go_wp2;rw[B.out];have R:=((W.zB ⟨L,5,Y⟩ (by simp;omega) (X lS 0)).zB ⟨L,6,Y⟩ (by simp;omega) (O lU)).zG rfl (X J 0) (X J 0) (X J 0) (O ⟨#[]⟩) (U Y 0 0) (X lS 0) (O ⟨#[]⟩) (X lS 0) (O ⟨#[]⟩);refine im (Au (P:=prog) (fn:=Tryz.f200) (p:=2) (u:=3) rfl rfl R underlying217 rfl (by kernel_rfl)) rfl ?_;refine⟨n9,B8,rfl,rfl,?_,?_⟩
  .exact((o.other (p:=⟨L,5,Y⟩) (by simp;omega) (g L (by omega)) _).other (p:=⟨L,6,Y⟩) (by simp;omega) (g L (by omega)) _).zG (by omega) (g N (by omega)) _ _ _ _ _ _ _ _ _
  .have F:=Aa HN;exact((HV.setCell (p:=⟨L,5,Y⟩) (by right;simp;omega) _).setCell (p:=⟨L,6,Y⟩) (by right;simp;omega) _).zG (by right;omega) _ _ _ _ _ _ _ _ _
 |ok r=>
  obtain⟨l,d⟩:=r;rw[ht]at m;obtain⟨rfl,h4,k4⟩:=m;have G:=HE.kept k4 (by simp;omega);have EK:=Go.kept k4 (by simp;omega);have HV:=Ab (HJ.trans k4);have HT:=Ab ht;clear h3 HE Go HJ k4 ht;have A:=EK.cell 5;have C:=EK.cell 6;have lf:=EK.frozen;simp[Ay,B8,AX,AD]at A C;have LM:=Ab G;have LE:=Ab EK;have o:=Ab h4;clear G EK h4;simp only[Aq];go_wp2_with fail
  have BA:=Aa g;have F:=Aa HN;have h5:B3 ((w4.setCell ⟨L,5,Y⟩ (X lS l.v)).setCell ⟨L,6,Y⟩ (O l.s)) b n ms d D:=by
   exact(o.other (p:=⟨L,5,Y⟩) (by simp;omega) (BA L (by omega)) _).other (p:=⟨L,6,Y⟩) (by simp;omega) (BA L (by omega)) _
  have JJ:=Ab ((LM.zB ⟨L,5,Y⟩ (by simp;omega) (X lS l.v)).zB ⟨L,6,Y⟩ (by simp;omega) (O l.s));have K2:lO (AH ((w4.setCell ⟨L,5,Y⟩ (X lS l.v)).setCell ⟨L,6,Y⟩ (O l.s)) L (Ay ⟨p,0,AX,l,AD⟩) 217):=(LE.set 5 _).set 6 _;have KS:=Ab ((HV.setCell (p:=⟨L,5,Y⟩) (by right;simp;omega) (X lS l.v)).setCell (p:=⟨L,6,Y⟩) (by right;simp;omega) (O l.s));clear A C lf LM LE o HV BA F;generalize(w4.setCell ⟨L,5,Y⟩ (X lS l.v)).setCell ⟨L,6,Y⟩ (O l.s)=w5 at h5 JJ K2 KS⊢;have H5:=Ab h5;clear h5;refine(Gt b n ms d D fT _ H5 (As ms d) (Bb H5.lt) (HO.seen H5.lt fT)).mono ?_;rintro e w6 ⟨rfl,h6,k6⟩;have H0:=Ab (JJ.kept k6 (by simp;omega));have FT:=Ab (K2.kept k6 (by simp;omega));have HZ:=Ab (KS.trans k6);clear H5 JJ K2 KS k6;cases s1:BM (As ms d) fT with
  |true=>
   rw[s1]at h6;simp only[if_true]at h6;(have HS:lO (MD (As ms d)=V 2):=by show _=_;simp[MD,s1]);clear s1;have j:=FT.cell 1;have lf:=FT.frozen;simp[Ay]at j;have H6:=Ab h6;clear h6;(go_wp2_with fail);have BA:=Aa g;have F:=Aa HN;have hR:B3 (w6.setCell ⟨L,1,Y⟩ (X J 2)) b n ms (d+1) D:=H6.other (p:=⟨L,1,Y⟩) (by simp;omega) (BA L (by omega)) _;have x:lO (AH (w6.setCell ⟨L,1,Y⟩ (X J 2)) N (Ay B8) 217):=H0.zB ⟨L,1,Y⟩ (by simp;omega) _;have y:lO (AH (w6.setCell ⟨L,1,Y⟩ (X J 2)) L (Ay ⟨p,2,AX,l,AD⟩) 217):=FT.set 1 _;have z:=Ab (HZ.setCell (p:=⟨L,1,Y⟩) (by right;simp;omega) (X J 2));clear j lf H0 FT HZ BA F H6;generalize w6.setCell ⟨L,1,Y⟩ (X J 2)=w9 at hR x y z⊢;refine(Is b n ms (d+1) D _ hR HO (As ms (d+1)) (Bb hR.lt)).mono ?_;intro e K6 m;clear hR;cases ht2:Ft (As ms (d+1)) (d+1)with
   |error q=>
    rw[ht2]at m;obtain⟨n9,rfl,i,f⟩:=m;(have B:lO (Hi ms t=.error q):=by show _=_;unfold Hi;simp only[HT.out,HS.out,ht2]);have a:=x.kept f (by simp;omega);have c:=y.kept f (by simp;omega);have A2:=Ab (z.trans f);clear x y z f ht2 HT HS;have l0:=c.cell 0;have j:=c.cell 1;have l2:=c.cell 2;have l3:=c.cell 3;have l4:=c.cell 4;have A:=c.cell 5;have C:=c.cell 6;have l7:=c.cell 7;have l8:=c.cell 8;have lf:=c.frozen;have nf:=a.frozen;have T:=a.cell 0;have I:=a.cell 1;have E:=a.cell 2;have M:=a.cell 3;have S:=a.cell 4;have c5:=a.cell 5;have Q:=a.cell 6;have c7:=a.cell 7;have H:=a.cell 8;simp[Ay,B8,AX,AD]at l0 T j I l2 E l3 M l4 S A c5 C Q l7 c7 l8 H;(have q1:¬L=N:=by omega);(have q2:¬N=L:=by omega);have W:=Ab a;have o:=Ab i;clear a c i;simp only[Aq,AD];go_wp2;rw[B.out];have R:=((W.zB ⟨L,7,Y⟩ (by simp;omega) (X lS 0)).zB ⟨L,8,Y⟩ (by simp;omega) (O lU)).zG rfl (X J p) (X J 2) (X J 0) (O lU) (U Y 0 0) (X lS l.v) (O l.s) (X lS 0) (O lU);refine im (Au (P:=prog) (fn:=Tryz.f200) (p:=2) (u:=3) rfl rfl R underlying217 rfl (by kernel_rfl)) rfl ?_;refine⟨n9,⟨p,2,AX,l,AD⟩,rfl,rfl,?_,?_⟩
    .exact((o.other (p:=⟨L,7,Y⟩) (by simp;omega) (g L (by omega)) _).other (p:=⟨L,8,Y⟩) (by simp;omega) (g L (by omega)) _).zG (by omega) (g N (by omega)) _ _ _ _ _ _ _ _ _
    .have F:=Aa HN;exact((A2.setCell (p:=⟨L,7,Y⟩) (by right;simp;omega) _).setCell (p:=⟨L,8,Y⟩) (by right;simp;omega) _).zG (by right;omega) _ _ _ _ _ _ _ _ _
   |ok r=>
    obtain⟨r,n2⟩:=r;rw[ht2]at m;obtain⟨rfl,i,f⟩:=m;(have B:lO (Hi ms t=.ok (⟨p,2,AX,l,r⟩,n2)):=by show _=_;unfold Hi;simp only[HT.out,HS.out,ht2,HP.out]);have a:=x.kept f (by simp;omega);have c:=y.kept f (by simp;omega);have A2:=Ab (z.trans f);clear x y z f ht2 HT HS;have l0:=c.cell 0;have j:=c.cell 1;have l2:=c.cell 2;have l3:=c.cell 3;have l4:=c.cell 4;have A:=c.cell 5;have C:=c.cell 6;have l7:=c.cell 7;have l8:=c.cell 8;have lf:=c.frozen;have nf:=a.frozen;have T:=a.cell 0;have I:=a.cell 1;have E:=a.cell 2;have M:=a.cell 3;have S:=a.cell 4;have c5:=a.cell 5;have Q:=a.cell 6;have c7:=a.cell 7;have H:=a.cell 8;simp[Ay,B8,AX,AD]at l0 T j I l2 E l3 M l4 S A c5 C Q l7 c7 l8 H;(have q1:¬L=N:=by omega);(have q2:¬N=L:=by omega);have W:=Ab a;have o:=Ab i;clear a c i;simp only[Aq];go_wp2;rw[B.out];have R:=((W.zB ⟨L,7,Y⟩ (by simp;omega) (X lS r.v)).zB ⟨L,8,Y⟩ (by simp;omega) (O r.s)).zG rfl (X J p) (X J 2) (X J 0) (O lU) (U Y 0 0) (X lS l.v) (O l.s) (X lS r.v) (O r.s);refine im (Au (P:=prog) (fn:=Tryz.f200) (p:=2) (u:=3) rfl rfl R underlying217 rfl (by kernel_rfl)) rfl ?_;refine⟨rfl,?_,?_⟩
    .exact((o.other (p:=⟨L,7,Y⟩) (by simp;omega) (g L (by omega)) _).other (p:=⟨L,8,Y⟩) (by simp;omega) (g L (by omega)) _).zG (by omega) (g N (by omega)) _ _ _ _ _ _ _ _ _
    .have F:=Aa HN;exact((A2.setCell (p:=⟨L,7,Y⟩) (by right;simp;omega) _).setCell (p:=⟨L,8,Y⟩) (by right;simp;omega) _).zG (by right;omega) _ _ _ _ _ _ _ _ _
  |false=>
   rw[s1]at h6;simp only[gO,if_false]at h6;have H6:=Ab h6;clear h6;(go_wp2_with fail);refine(Gt b n ms d D fR _ H6 (As ms d) (Bb H6.lt) (HO.seen H6.lt fR)).mono ?_;rintro e w7 ⟨rfl,h7,k7⟩;have H3:=Ab (H0.kept k7 (by simp;omega));have HA:=Ab (FT.kept k7 (by simp;omega));have H2:=Ab (HZ.trans k7);clear H6 H0 FT HZ k7;cases s2:BM (As ms d) fR with
   |true=>
    rw[s2]at h7;simp only[if_true]at h7;(have HS:lO (MD (As ms d)=V 3):=by show _=_;simp[MD,s1,s2]);clear s1 s2;have j:=HA.cell 1;have lf:=HA.frozen;simp[Ay]at j;have H7:=Ab h7;clear h7;(go_wp2_with fail);have BA:=Aa g;have F:=Aa HN;have hR:B3 (w7.setCell ⟨L,1,Y⟩ (X J 3)) b n ms (d+1) D:=H7.other (p:=⟨L,1,Y⟩) (by simp;omega) (BA L (by omega)) _;have x:lO (AH (w7.setCell ⟨L,1,Y⟩ (X J 3)) N (Ay B8) 217):=H3.zB ⟨L,1,Y⟩ (by simp;omega) _;have y:lO (AH (w7.setCell ⟨L,1,Y⟩ (X J 3)) L (Ay ⟨p,3,AX,l,AD⟩) 217):=HA.set 1 _;have z:=Ab (H2.setCell (p:=⟨L,1,Y⟩) (by right;simp;omega) (X J 3));clear j lf H3 HA H2 BA F H7;generalize w7.setCell ⟨L,1,Y⟩ (X J 3)=w9 at hR x y z⊢;refine(Is b n ms (d+1) D _ hR HO (As ms (d+1)) (Bb hR.lt)).mono ?_;intro e K6 m;clear hR;cases ht2:Ft (As ms (d+1)) (d+1)with
    |error q=>
     rw[ht2]at m;obtain⟨n9,rfl,i,f⟩:=m;(have B:lO (Hi ms t=.error q):=by show _=_;unfold Hi;simp only[HT.out,HS.out,ht2]);have a:=x.kept f (by simp;omega);have c:=y.kept f (by simp;omega);have A2:=Ab (z.trans f);clear x y z f ht2 HT HS;have l0:=c.cell 0;have j:=c.cell 1;have l2:=c.cell 2;have l3:=c.cell 3;have l4:=c.cell 4;have A:=c.cell 5;have C:=c.cell 6;have l7:=c.cell 7;have l8:=c.cell 8;have lf:=c.frozen;have nf:=a.frozen;have T:=a.cell 0;have I:=a.cell 1;have E:=a.cell 2;have M:=a.cell 3;have S:=a.cell 4;have c5:=a.cell 5;have Q:=a.cell 6;have c7:=a.cell 7;have H:=a.cell 8;simp[Ay,B8,AX,AD]at l0 T j I l2 E l3 M l4 S A c5 C Q l7 c7 l8 H;(have q1:¬L=N:=by omega);(have q2:¬N=L:=by omega);have W:=Ab a;have o:=Ab i;clear a c i;simp only[Aq,AD];go_wp2;rw[B.out];have R:=((W.zB ⟨L,7,Y⟩ (by simp;omega) (X lS 0)).zB ⟨L,8,Y⟩ (by simp;omega) (O lU)).zG rfl (X J p) (X J 3) (X J 0) (O lU) (U Y 0 0) (X lS l.v) (O l.s) (X lS 0) (O lU);refine im (Au (P:=prog) (fn:=Tryz.f200) (p:=2) (u:=3) rfl rfl R underlying217 rfl (by kernel_rfl)) rfl ?_;refine⟨n9,⟨p,3,AX,l,AD⟩,rfl,rfl,?_,?_⟩
     .exact((o.other (p:=⟨L,7,Y⟩) (by simp;omega) (g L (by omega)) _).other (p:=⟨L,8,Y⟩) (by simp;omega) (g L (by omega)) _).zG (by omega) (g N (by omega)) _ _ _ _ _ _ _ _ _
     .have F:=Aa HN;exact((A2.setCell (p:=⟨L,7,Y⟩) (by right;simp;omega) _).setCell (p:=⟨L,8,Y⟩) (by right;simp;omega) _).zG (by right;omega) _ _ _ _ _ _ _ _ _
    |ok r=>
     obtain⟨r,n2⟩:=r;rw[ht2]at m;obtain⟨rfl,i,f⟩:=m;(have B:lO (Hi ms t=.ok (⟨p,3,AX,l,r⟩,n2)):=by show _=_;unfold Hi;simp only[HT.out,HS.out,ht2,HP.out]);have a:=x.kept f (by simp;omega);have c:=y.kept f (by simp;omega);have A2:=Ab (z.trans f);clear x y z f ht2 HT HS;have l0:=c.cell 0;have j:=c.cell 1;have l2:=c.cell 2;have l3:=c.cell 3;have l4:=c.cell 4;have A:=c.cell 5;have C:=c.cell 6;have l7:=c.cell 7;have l8:=c.cell 8;have lf:=c.frozen;have nf:=a.frozen;have T:=a.cell 0;have I:=a.cell 1;have E:=a.cell 2;have M:=a.cell 3;have S:=a.cell 4;have c5:=a.cell 5;have Q:=a.cell 6;have c7:=a.cell 7;have H:=a.cell 8;simp[Ay,B8,AX,AD]at l0 T j I l2 E l3 M l4 S A c5 C Q l7 c7 l8 H;(have q1:¬L=N:=by omega);(have q2:¬N=L:=by omega);have W:=Ab a;have o:=Ab i;clear a c i;simp only[Aq];go_wp2;rw[B.out];have R:=((W.zB ⟨L,7,Y⟩ (by simp;omega) (X lS r.v)).zB ⟨L,8,Y⟩ (by simp;omega) (O r.s)).zG rfl (X J p) (X J 3) (X J 0) (O lU) (U Y 0 0) (X lS l.v) (O l.s) (X lS r.v) (O r.s);refine im (Au (P:=prog) (fn:=Tryz.f200) (p:=2) (u:=3) rfl rfl R underlying217 rfl (by kernel_rfl)) rfl ?_;refine⟨rfl,?_,?_⟩
     .exact((o.other (p:=⟨L,7,Y⟩) (by simp;omega) (g L (by omega)) _).other (p:=⟨L,8,Y⟩) (by simp;omega) (g L (by omega)) _).zG (by omega) (g N (by omega)) _ _ _ _ _ _ _ _ _
     .have F:=Aa HN;exact((A2.setCell (p:=⟨L,7,Y⟩) (by right;simp;omega) _).setCell (p:=⟨L,8,Y⟩) (by right;simp;omega) _).zG (by right;omega) _ _ _ _ _ _ _ _ _
   |false=>
    rw[s2]at h7;simp only[gO,if_false]at h7;have H7:=Ab h7;clear h7;(go_wp2_with fail);refine(Gt b n ms d D fQ _ H7 (As ms d) (Bb H7.lt) (HO.seen H7.lt fQ)).mono ?_;rintro e w8 ⟨rfl,h8,k8⟩;have H1:=Ab (H3.kept k8 (by simp;omega));have HL:=Ab (HA.kept k8 (by simp;omega));have HW:=Ab (H2.trans k8);clear H7 H3 HA H2 k8;cases s3:BM (As ms d) fQ with
    |true=>
     rw[s3]at h8;simp only[if_true]at h8;(have HS:lO (MD (As ms d)=V 4):=by show _=_;simp[MD,s1,s2,s3]);clear s1 s2 s3;have j:=HL.cell 1;have lf:=HL.frozen;simp[Ay]at j;have H8:=Ab h8;clear h8;(go_wp2_with fail);have BA:=Aa g;have F:=Aa HN;have hR:B3 (w8.setCell ⟨L,1,Y⟩ (X J 4)) b n ms (d+1) D:=H8.other (p:=⟨L,1,Y⟩) (by simp;omega) (BA L (by omega)) _;have x:lO (AH (w8.setCell ⟨L,1,Y⟩ (X J 4)) N (Ay B8) 217):=H1.zB ⟨L,1,Y⟩ (by simp;omega) _;have y:lO (AH (w8.setCell ⟨L,1,Y⟩ (X J 4)) L (Ay ⟨p,4,AX,l,AD⟩) 217):=HL.set 1 _;have z:=Ab (HW.setCell (p:=⟨L,1,Y⟩) (by right;simp;omega) (X J 4));clear j lf H1 HL HW BA F H8;generalize w8.setCell ⟨L,1,Y⟩ (X J 4)=w9 at hR x y z⊢;refine(Is b n ms (d+1) D _ hR HO (As ms (d+1)) (Bb hR.lt)).mono ?_;intro e K6 m;clear hR;cases ht2:Ft (As ms (d+1)) (d+1)with
     |error q=>
      rw[ht2]at m;obtain⟨n9,rfl,i,f⟩:=m;(have B:lO (Hi ms t=.error q):=by show _=_;unfold Hi;simp only[HT.out,HS.out,ht2]);have a:=x.kept f (by simp;omega);have c:=y.kept f (by simp;omega);have A2:=Ab (z.trans f);clear x y z f ht2 HT HS;have l0:=c.cell 0;have j:=c.cell 1;have l2:=c.cell 2;have l3:=c.cell 3;have l4:=c.cell 4;have A:=c.cell 5;have C:=c.cell 6;have l7:=c.cell 7;have l8:=c.cell 8;have lf:=c.frozen;have nf:=a.frozen;have T:=a.cell 0;have I:=a.cell 1;have E:=a.cell 2;have M:=a.cell 3;have S:=a.cell 4;have c5:=a.cell 5;have Q:=a.cell 6;have c7:=a.cell 7;have H:=a.cell 8;simp[Ay,B8,AX,AD]at l0 T j I l2 E l3 M l4 S A c5 C Q l7 c7 l8 H;(have q1:¬L=N:=by omega);(have q2:¬N=L:=by omega);have W:=Ab a;have o:=Ab i;clear a c i;simp only[Aq,AD];go_wp2;rw[B.out];have R:=((W.zB ⟨L,7,Y⟩ (by simp;omega) (X lS 0)).zB ⟨L,8,Y⟩ (by simp;omega) (O lU)).zG rfl (X J p) (X J 4) (X J 0) (O lU) (U Y 0 0) (X lS l.v) (O l.s) (X lS 0) (O lU);refine im (Au (P:=prog) (fn:=Tryz.f200) (p:=2) (u:=3) rfl rfl R underlying217 rfl (by kernel_rfl)) rfl ?_;refine⟨n9,⟨p,4,AX,l,AD⟩,rfl,rfl,?_,?_⟩
      .exact((o.other (p:=⟨L,7,Y⟩) (by simp;omega) (g L (by omega)) _).other (p:=⟨L,8,Y⟩) (by simp;omega) (g L (by omega)) _).zG (by omega) (g N (by omega)) _ _ _ _ _ _ _ _ _
      .have F:=Aa HN;exact((A2.setCell (p:=⟨L,7,Y⟩) (by right;simp;omega) _).setCell (p:=⟨L,8,Y⟩) (by right;simp;omega) _).zG (by right;omega) _ _ _ _ _ _ _ _ _
     |ok r=>
      obtain⟨r,n2⟩:=r;rw[ht2]at m;obtain⟨rfl,i,f⟩:=m;(have B:lO (Hi ms t=.ok (⟨p,4,AX,l,r⟩,n2)):=by show _=_;unfold Hi;simp only[HT.out,HS.out,ht2,HP.out]);have a:=x.kept f (by simp;omega);have c:=y.kept f (by simp;omega);have A2:=Ab (z.trans f);clear x y z f ht2 HT HS;have l0:=c.cell 0;have j:=c.cell 1;have l2:=c.cell 2;have l3:=c.cell 3;have l4:=c.cell 4;have A:=c.cell 5;have C:=c.cell 6;have l7:=c.cell 7;have l8:=c.cell 8;have lf:=c.frozen;have nf:=a.frozen;have T:=a.cell 0;have I:=a.cell 1;have E:=a.cell 2;have M:=a.cell 3;have S:=a.cell 4;have c5:=a.cell 5;have Q:=a.cell 6;have c7:=a.cell 7;have H:=a.cell 8;simp[Ay,B8,AX,AD]at l0 T j I l2 E l3 M l4 S A c5 C Q l7 c7 l8 H;(have q1:¬L=N:=by omega);(have q2:¬N=L:=by omega);have W:=Ab a;have o:=Ab i;clear a c i;simp only[Aq];go_wp2;rw[B.out];have R:=((W.zB ⟨L,7,Y⟩ (by simp;omega) (X lS r.v)).zB ⟨L,8,Y⟩ (by simp;omega) (O r.s)).zG rfl (X J p) (X J 4) (X J 0) (O lU) (U Y 0 0) (X lS l.v) (O l.s) (X lS r.v) (O r.s);refine im (Au (P:=prog) (fn:=Tryz.f200) (p:=2) (u:=3) rfl rfl R underlying217 rfl (by kernel_rfl)) rfl ?_;refine⟨rfl,?_,?_⟩
      .exact((o.other (p:=⟨L,7,Y⟩) (by simp;omega) (g L (by omega)) _).other (p:=⟨L,8,Y⟩) (by simp;omega) (g L (by omega)) _).zG (by omega) (g N (by omega)) _ _ _ _ _ _ _ _ _
      .have F:=Aa HN;exact((A2.setCell (p:=⟨L,7,Y⟩) (by right;simp;omega) _).setCell (p:=⟨L,8,Y⟩) (by right;simp;omega) _).zG (by right;omega) _ _ _ _ _ _ _ _ _
    |false=>
     rw[s3]at h8;simp only[gO,if_false]at h8;have H8:=Ab h8;clear h8;(go_wp2_with fail);(have B:lO (Hi ms t=.error (As ms d).place):=by show _=_;unfold Hi;simp[HT.out,MD,s1,s2,s3]);clear s1 s2 s3;refine(IE b n ms d D _ H8 (As ms d) (Bb H8.lt)).mono ?_;rintro e w9 ⟨rfl,k9⟩;have h9:=H8.zI k9;have MB:=Ab (H1.kept k9 (by simp));have L0:=Ab (HW.trans (k9.mono (by simp)));clear H8 H1 HL HW k9;obtain⟨q,hq⟩:∃q,(As ms d).place=q:=⟨_,rfl⟩;rw[hq]at B⊢;clear hq;have H9:=Ab h9;clear h9;(go_wp2_with fail);refine(E9 b n ms d D q _ H9).mono ?_;rintro e K6 ⟨rfl,i,f⟩;have BS:=MB.kept f (by simp;omega);have A2:=Ab (L0.trans f);clear MB L0 H9 f;have nf:=BS.frozen;have T:=BS.cell 0;have I:=BS.cell 1;have E:=BS.cell 2;have M:=BS.cell 3;have S:=BS.cell 4;have c5:=BS.cell 5;have Q:=BS.cell 6;have c7:=BS.cell 7;have H:=BS.cell 8;simp[Ay,B8,AX,AD]at T I E M S c5 Q c7 H;have W:=Ab BS;have o:=Ab i;clear BS i;go_wp2;rw[B.out];have R:=W.zG rfl (X J 0) (X J 0) (X J 0) (O ⟨#[]⟩) (U Y 0 0) (X lS 0) (O ⟨#[]⟩) (X lS 0) (O ⟨#[]⟩);refine im (Au (P:=prog) (fn:=Tryz.f200) (p:=2) (u:=3) rfl rfl R underlying217 rfl (by kernel_rfl)) rfl ?_;refine⟨d,B8,rfl,rfl,?_,?_⟩
     .exact o.zG (by omega) (g N (by omega)) _ _ _ _ _ _ _ _ _
     .have F:=Aa HN;exact A2.zG (by right;omega) _ _ _ _ _ _ _ _ _
theorem Tryz.zd:(Tryz.prog.info? 215).map (λi=>(i.zero,i.size,i.bytes))=V (V (lR #[X lS 0,O ⟨#[]⟩]),2,24):=by kernel_rfl
def Hv:zA:=⟨#[44]⟩
def Ow:zA:=⟨#[41]⟩
def Gf(ms:mc AZ)(nx:Nat)(acc:mc AQ):Except Int (mc AQ×Nat):=
 if h:nx<Z ms then
  match Ft (As ms nx) nx with
  | .error p=> .error p
  | .ok (t,_)=>
   if BM (As ms (nx+1)) Hv then Gf ms (nx+2) (acc++[t])
   else if BM (As ms (nx+1)) Ow then .ok (acc++[t],nx+2)
   else .error (As ms (nx+1)).place
 else .error 0
def FH{m:AZ}{a:Nat}{t:AQ}{n:Nat}(h:Ft m a=.ok (t,n)):n=a+1:=by
 unfold Ft at h;split at h
 .simp only[i8,iE]at h;exact h.2.symm
 .split at h
  .simp only[i8,iE]at h;exact h.2.symm
  .cases h
def EW(ms:mc AZ)(nx:Nat):Except Int ((Nat×zA×mc AQ)×Nat):=
 if(As ms nx).kind==2 then
  if BM (As ms (nx+1)) R6 then
   match Gf ms (nx+2) [] with
   | .error p=> .error p
   | .ok (ts,n)=> .ok (((As ms nx).place,(As ms nx).text,ts),n)
  else .error (As ms (nx+1)).place
 else .error (As ms nx).place
def AH.zW{w:l9}{N:Nat}{cs:mc lN}{t:TypeId}(h:AH w N cs t)(d:Z cs=3)(b v1 a:lN):AH (((w.setCell ⟨N,0,Y⟩ b).setCell ⟨N,1,Y⟩ v1).setCell ⟨N,2,Y⟩ a) N [b,v1,a] t:=by
 have c:=((h.set 0 b).set 1 v1).set 2 a;have e:((cs.set 0 b).set 1 v1).set 2 a=[b,v1,a]:=by
  match cs,d with
  |[_,_,_],_=>rfl
 rw[e]at c;exact c
def B3.zW{w:l9}{b:Nat}{d:lN}{ms:mc AZ}{i:Nat}{e:Int}(h:B3 w b d ms i e){N:Nat}(a:N≠b)(c:d.ownBlock≠V N)(g v1 f:lN):B3 (((w.setCell ⟨N,0,Y⟩ g).setCell ⟨N,1,Y⟩ v1).setCell ⟨N,2,Y⟩ f) b d ms i e:=
 ((h.other (p:=⟨N,0,Y⟩) a c g).other (p:=⟨N,1,Y⟩) a c v1).other (p:=⟨N,2,Y⟩) a c f
def Ac.zW{M:mc Nat}{a w:l9}(h:Ac M a w){N:Nat}(b:N∈M\/a.heap.size<=N)(d v1 c:lN):Ac M a (((w.setCell ⟨N,0,Y⟩ d).setCell ⟨N,1,Y⟩ v1).setCell ⟨N,2,Y⟩ c):=
 ((h.setCell (p:=⟨N,0,Y⟩) b d).setCell (p:=⟨N,1,Y⟩) b v1).setCell (p:=⟨N,2,Y⟩) b c
def dm(b:Nat)(mv:lN)(ms:mc AZ)(br:Int)(w:l9)(e:Ending)(w':l9):Except Int ((Nat×zA×mc AQ)×Nat)->Prop
 | .ok ((p,s,ts),nx)=>∃tv base,e=lo (.tuple #[lR (j3 (AK ⟨p,s,tv⟩)),lT j1])/\w.heap.size<=base/\lQ w' base 215 2 tv (Z ts) (ts.flatMap Aq)/\B3 w' b mv ms nx br/\Ac [b] w w'
 | .error p=>∃nx pl s ad n cp,e=lo (.tuple #[lR (j3 (AK ⟨pl,s,U ad n cp⟩)),lT K])/\B3 w' b mv ms nx p/\Ac [b] w w'
theorem Nt(b:Nat)(mv:lN)(ms:mc AZ)(nx:Nat)(br:Int)(w:l9)(h:B3 w b mv ms nx br)(ok:VB ms):
  Calls prog 158 #[kt (V ⟨b,0,Y⟩)] w λe w'=>dm b mv ms br w e w' (EW ms nx):=by
 obtain⟨m,hm⟩:∃m,As ms nx=m:=⟨_,rfl⟩;obtain⟨i0,hi0,hz0,hz1,hz2⟩:=iR Tryz.zd;have HM:=Ab hm;have HO:=Ab ok;have hlt0:=h.lt;have zY:(nx:Int)<(Z ms:Int):=by omega
 have hnx0:(0:Int)<=(nx:Int):=by omega
 have hl:=h.len;have hbw:=h.zO.lt;have hmb:∀k,mv.ownBlock=V k->k<w.heap.size:=λk hk=>(h.row.lt k hk).2
 have h1:=h.zI ((me [] w).alloc (j2 #[X J 0,O ⟨#[]⟩,U Y 0 0] 187));have hN2:=mf w [X J 0,O ⟨#[]⟩,U Y 0 0] 187;have hK1:=(me [b] w).alloc (j2 [X J 0,O ⟨#[]⟩,U Y 0 0].toArray 187);clear hm h ok;go_enter func158,ntmps158;go_wp2_with fail
 generalize w.alloc (j2 [X J 0,O ⟨#[]⟩,U Y 0 0].toArray 187)=w1 at h1 hN2 hK1⊢;obtain⟨N2,hN2e⟩:∃N2,w.heap.size=N2:=⟨_,rfl⟩;rw[hN2e]at hN2 hbw hmb⊢;have HN2:=Ab hN2e;clear hN2e;have HMB:lO (∀k,N2<=k->mv.ownBlock≠V k):=λk hk e=>by have:=hmb k e;omega
 obtain⟨g,cap,rfl,b0,b1,b2,hc⟩:=h1.cells;have hgN:g<N2:=hmb g rfl;clear hmb;obtain⟨c0,c1,c2⟩:=hc nx hlt0;rw[Bb hlt0,Aa HM]at c0 c1 c2;clear hc b2;have n0:=World.new_ne w1 _ b0;have n1:=World.new_ne w1 _ b1;have n2:=World.new_ne w1 _ c0;have n3:=World.new_ne w1 _ c1;have n4:=World.new_ne w1 _ c2;have HH:=Ab h1;have HB2:=Ab hN2;clear h1 hN2
 go_region_held3 (λw'=>lP w' ⟨b,0,Y⟩=V (U (V ⟨g,0,Y⟩) (Z ms) cap)/\lP w' ⟨b,1,Y⟩=V (X J nx)/\lP w' ⟨g,nx*3,Y⟩=V (X J m.kind)/\lP w' ⟨g,nx*3+1,Y⟩=V (X J m.place)/\lP w' ⟨g,nx*3+2,Y⟩=V (O m.text)) (go_keep) (fail)
 rename_i hHeldX;clear hHeldX n0 n1 n2 n3 n4 b0 b1 c0 c1 c2;have hN2lt:=HB2.lt;have h2:=HH.zI (((me [] w1).alloc (j2 [X J m.kind,X J m.place,O m.text].toArray 206)).drew);have hN4:=(mf w1 [X J m.kind,X J m.place,O m.text] 206).drew;have hN2':=(HB2.alloc (j2 [X J m.kind,X J m.place,O m.text].toArray 206)).drew;have hK2:=(hK1.alloc (j2 [X J m.kind,X J m.place,O m.text].toArray 206)).drew;clear HH HB2 hK1;generalize(w1.alloc (j2 [X J m.kind,X J m.place,O m.text].toArray 206)).drew=w2 at h2 hN4 hN2' hK2⊢;generalize w1.heap.size=N4 at hN4 hN2lt⊢;have x0:=hN4.cell 0;have x1:=hN4.cell 1;have x2:=hN4.cell 2;have z1:=h2.zO.cell 1;have zf:=h2.zO.frozen 1;simp at x0 x1 x2 z1;have HH2:=Ab h2;have HB2:=Ab hN2';have HB4:=Ab hN4;have HK2:=Ab hK2;clear h2 hN4 hN2' hK2;cases hk:(m.kind==2)with
 |false=>
  have hk2:(m.kind !=2)=j1:=by simp[bne,hk]
  have HF:lO (EW ms nx=.error m.place):=by show _=_;unfold EW;rw[Aa HM,hk];rfl
  clear hk;go_wp2_with fail
  refine(E9 b (U (V ⟨g,0,Y⟩) (Z ms) cap) ms nx br m.place _ HH2).mono ?_;rintro e w3 ⟨rfl,h3,k3⟩;have hN3:=HB2.kept k3 (by simp;omega);have HK3:=Ab (HK2.trans k3);have c0:=hN3.cell 0;have c1:=hN3.cell 1;have c2:=hN3.cell 2;have nf:=hN3.frozen;simp at c0 c1 c2;have HB3:=Ab hN3;have HR:=Ab h3;clear hN3 h3 k3 x0 x1 x2 z1 zf HH2 HB2 HB4 HK2;go_wp2;rw[HF.out];have hfin:=HB3.zW rfl (X J 0) (O ⟨#[]⟩) (U Y 0 0);refine im (Au (P:=prog) (fn:=Tryz.f158) (p:=2) (u:=3) rfl rfl hfin underlying187 rfl (by kernel_rfl)) rfl ?_;refine⟨nx,0,lU,Y,0,0,rfl,?_,?_⟩
  .exact HR.zW (by omega) (HMB N2 (by omega)) _ _ _
  .have:=Aa HN2;exact HK3.zW (by right;omega) _ _ _
 |true=>
  have hk2:(m.kind !=2)=K:=by simp[bne,hk]
  have hnx:nx+1<Z ms:=by
   refine HO.ends nx hlt0 ?_;rw[Bb hlt0,Aa HM];(have:m.kind=2:=by simpa using hk);rw[this];decide
  have HK:=Ab hk;clear hk;go_wp2_with fail
  have k3:Ac [b] w2 (w2.setCell ⟨b,1,Y⟩ (X J ((nx:Int)+1))):=(me [b] w2).setCell (by simp) _;have h3:B3 (w2.setCell ⟨b,1,Y⟩ (X J ((nx:Int)+1))) b (U (V ⟨g,0,Y⟩) (Z ms) cap) ms (nx+1) br:=HH2.kept (nx':=nx+1) (br':=br) k3 (HH2.zO.set 1 _) hnx;have hB3:=Ab (HB2.kept k3 (by simp;omega));have hM3:=Ab (HB4.kept k3 (by simp;omega));have hK3:=Ab (HK2.trans k3);clear x0 x1 x2 z1 zf HH2 HB2 HB4 HK2 k3;generalize w2.setCell ⟨b,1,Y⟩ (X J ((nx:Int)+1))=w3 at h3 hB3 hM3 hK3⊢;refine(ME b (U (V ⟨g,0,Y⟩) (Z ms) cap) ms (nx+1) br R6 _ h3 (As ms (nx+1)) (Bb h3.lt) (HO.seen h3.lt R6)).mono ?_;rintro e w4 ⟨rfl,h4,k4⟩;clear h3;have hB4:=Ab (hB3.kept k4 (by simp;omega));have hM4:=Ab (hM3.kept k4 (by simp;omega));have hK4:=Ab (hK3.trans k4);clear hB3 hM3 hK3 k4;cases hs:BM (As ms (nx+1)) R6 with
  |false=>
   rw[hs]at h4;simp only[gO,if_false]at h4;(have HF:lO (EW ms nx=.error (As ms (nx+1)).place):=by show _=_;unfold EW;rw[Aa HM,Aa HK,hs];rfl);have c0:=hB4.cell 0;have c1:=hB4.cell 1;have c2:=hB4.cell 2;have nf:=hB4.frozen;simp at c0 c1 c2;have HR:=Ab h4;clear h4 hs hM4;go_wp2;rw[HF.out];have hfin:=hB4.zW rfl (X J 0) (O ⟨#[]⟩) (U Y 0 0);refine im (Au (P:=prog) (fn:=Tryz.f158) (p:=2) (u:=3) rfl rfl hfin underlying187 rfl (by kernel_rfl)) rfl ?_;refine⟨nx+1,0,lU,Y,0,0,rfl,?_,?_⟩
   .exact HR.zW (by omega) (HMB N2 (by omega)) _ _ _
   .have:=Aa HN2;exact hK4.zW (by right;omega) _ _ _
  |true=>
   rw[hs]at h4;simp only[if_true]at h4;have HS:=Ab hs;have x1:=hM4.cell 1;have x2:=hM4.cell 2;simp at x1 x2;have HR:=Ab h4;clear h4 hs;go_wp2;have HFa:lO (∀r,Gf ms (nx+2) []=r->EW ms nx=(match r with| .error p=> .error p| .ok (ts,n)=> .ok ((m.place,m.text,ts),n))):=by
    intro r hr;unfold EW;rw[Aa HM,Aa HK,Aa HS,hr];rfl
   have hA5:=Ab (mf w4 [X J m.place,O m.text,U Y 0 0] 187);have hB5:=Ab (hB4.alloc (j2 [X J m.place,O m.text,U Y 0 0].toArray 187));have hR5:=Ab (HR.zI ((me [] w4).alloc (j2 [X J m.place,O m.text,U Y 0 0].toArray 187)));have hK5:=Ab (hK4.alloc (j2 [X J m.place,O m.text,U Y 0 0].toArray 187));(have hs5:(w4.alloc (j2 [X J m.place,O m.text,U Y 0 0].toArray 187)).heap.size=w4.heap.size+1:=by simp);have hN4A:=hM4.lt;clear x1 x2 hM4 hB4 hK4 HR HS HK HM;change Code.wp _ _ _ _ (w4.alloc (j2 [X J m.place,O m.text,U Y 0 0].toArray 187));generalize w4.alloc (j2 [X J m.place,O m.text,U Y 0 0].toArray 187)=w5 at hA5 hB5 hR5 hK5 hs5⊢;obtain⟨A,hAe⟩:∃A,w4.heap.size=A:=⟨_,rfl⟩;rw[hAe]at hA5 hs5 hN4A⊢;clear hAe
   go_loopg [] (Z ms-(nx+2)) (λgk wr=>∃(j:Nat) (acc:mc AQ) (ad:Option Addr) (cp:Nat),gk=Z ms-j/\lO (Gf ms j acc=Gf ms (nx+2) [])/\lO (B3 wr b (U (V ⟨g,0,Y⟩) (Z ms) cap) ms j br)/\lO (AH wr N2 [X J 0,O ⟨#[]⟩,U Y 0 0] 187)/\lO (AH wr A [X J m.place,O m.text,U ad (Z acc) cp] 187)/\lQ wr (A+1) 215 2 (U ad (Z acc) cp) (Z acc) (acc.flatMap Aq)/\lO (Ac [b] w wr)/\A+1<=wr.heap.size/\Z acc<=j)
   case atStart=>exact⟨nx+2,[],Y,0,rfl,rfl,hR5,hB5,hA5,ip _ _ _ _,hK5,by omega,by simp⟩
   case round=>
    clear hA5 hB5 hR5 hK5 hs5;obtain⟨j,acc,ad,cp,hgk,HL,HR,HB,HA,hown,hK,hz,hal⟩:=hrel;have HG:=Ab hgk;clear hgk;have hjl:=HR.lt;(go_wp2_with fail);refine(Is b (U (V ⟨g,0,Y⟩) (Z ms) cap) ms j br _ HR HO (As ms j) (Bb hjl)).mono ?_;intro e w6 hout;cases ht:Ft (As ms j) j with
    |error q=>
     rw[ht]at hout;obtain⟨n9,rfl,h6,k6⟩:=hout;have HF:lO (EW ms nx=.error q):=HFa (.error q) (by rw[<-Aa HL];unfold Gf;rw[dif_pos hjl,ht]);have hB6:=HB.kept k6 (by simp;omega);have hK6:=Ab (hK.trans k6);clear k6 ht HR HB HA hK HL hown;have c0:=hB6.cell 0;have c1:=hB6.cell 1;have c2:=hB6.cell 2;have nf:=hB6.frozen;(have d0:=λo=>(hB6.alloc o).cell 0);(have d1:=λo=>(hB6.alloc o).cell 1);(have d2:=λo=>(hB6.alloc o).cell 2);(have df:=λo=>(hB6.alloc o).frozen);simp at c0 c1 c2 d0 d1 d2;have hlt6:=hB6.lt;have hb6:=h6.zO.lt;(have q1:¬N2=w6.heap.size:=by omega);(have q2:¬w6.heap.size=N2:=by omega);have HR6:=Ab h6;have HB6:=Ab hB6;clear h6 hB6;simp only[Aq,AD];go_wp2;rw[HF.out];have hfin:=(HB6.zW rfl (X J 0) (O ⟨#[]⟩) (U Y 0 0)).alloc (j2 #[X lS 0,O lU] 215);refine im (Au (P:=prog) (fn:=Tryz.f158) (p:=2) (u:=3) rfl rfl hfin underlying187 rfl (by kernel_rfl)) rfl ?_;refine⟨n9,0,lU,Y,0,0,rfl,?_,?_⟩
     .exact(HR6.zW (by omega) (HMB N2 (by omega)) _ _ _).zI ((me [] _).alloc _)
     .have:=Aa HN2;exact(hK6.zW (by right;omega) _ _ _).alloc _
    |ok r=>
     obtain⟨t,n1⟩:=r;rw[ht]at hout;have hn1:=FH ht;subst hn1;obtain⟨rfl,h6,k6⟩:=hout;have hB6:=Ab (HB.kept k6 (by simp;omega));have hA6:=Ab (HA.kept k6 (by simp;omega));have hK6:=Ab (hK.trans k6);have hown6:=Ai hown k6 (λi hi hm=>by simp at hm;subst hm;have:=(hown.lt _ hi).1;omega);have hz6:A+1<=w6.heap.size:=iQ hz k6.size;have HT:=Ab ht;clear k6 ht HR HB HA hK hown hz;have a2:=hA6.cell 2;have af:=hA6.frozen;(have d2:=λo=>(hA6.alloc o).cell 2);(have df:=λo=>(hA6.alloc o).frozen);simp at a2 d2;have hlt6:=hA6.lt;(have q1:¬A=w6.heap.size:=by omega);(have q2:¬w6.heap.size=A:=by omega);have HR6:=Ab h6;clear h6;have hnew:((w6.alloc (j2 (j3 (Aq t)) 215)).alloc (j2 (j3 (Aq t)) 215)).heap[w6.heap.size+1]?=V (j2 (j3 (Aq t)) 215 (0,0)):=by
      have hh:=iD (w6.alloc (j2 (j3 (Aq t)) 215)) (j2 (j3 (Aq t)) 215);rw[show(w6.alloc (j2 (j3 (Aq t)) 215)).heap.size=w6.heap.size+1 from by simp]at hh
      exact hh
     have hown8:=gU (gU hown6 (j2 (j3 (Aq t)) 215)) (j2 (j3 (Aq t)) 215);(have hal2:Z acc<=1000:=by omega);have HGR:lO (∀w9,((w6.alloc (j2 (j3 (Aq t)) 215)).alloc (j2 (j3 (Aq t)) 215)).grownBy w9 (U ad (Z acc) cp).ownBlock->Ac (U ad (Z acc) cp).ownBlock.toList w6 w9):=by
      intro w9 hg;exact(((me _ w6).alloc _).alloc _).grown hg (λk hk=>lx (by simp[hk]))
     (have HRW:lO (∀i∈(U ad (Z acc) cp).ownBlock.toList,A+1<=i):=λi hi=>(hown6.lt i (by simpa using hi)).1);have HAC:lO (∀w9,((w6.alloc (j2 (j3 (Aq t)) 215)).alloc (j2 (j3 (Aq t)) 215)).grownBy w9 (U ad (Z acc) cp).ownBlock->lP w9 ⟨A,2,Y⟩=V (U ad (Z acc) cp)/\w9.frozen? ⟨A,2,Y⟩=K):=by
      intro w9 hg;have hb:=hA6.kept (HGR w9 hg) (λhm=>by have:=Aa HRW A hm;omega);exact⟨hb.cell 2,hb.frozen 2⟩
     simp only[Aq];go_wp2_with (at_builtin;refine io _ rfl (.tmp 51) (.tmp 53) _ rfl (A+1) 215 i0 _ 2 24 underlying185 hi0 hz0 hz1 hz2 rfl (by omega) (U ad (Z acc) cp) (Z acc) (acc.flatMap Aq) rfl hown8 ⟨w6.heap.size+1,0,Y⟩ 1 1 (Aq t) rfl rfl (iu (cs:=j3 (Aq t)) (t:=215) (fr:=(0,0)) hnew) (by simp[Value.oneCell',Aq]) (by omega) (by unfold maxLen;omega) (by omega) (by simp;omega) (w6.heap.size+1+1) (by simp) ?_;intro g1 cp1 w9 ho1 hg1 ha1 hl1;have hc9:=(HAC w9 hg1).1;have hf9:=(HAC w9 hg1).2)
     have kr:=Aa HGR w9 hg1;have hrw:=Aa HRW;have hN2w:=Aa HN2;have hg1A:A+1<=g1:=(ho1.lt g1 rfl).1;have hR9:B3 w9 b (U (V ⟨g,0,Y⟩) (Z ms) cap) ms (j+1) br:=⟨HR6.zO.kept kr (λhm=>by have:=hrw b hm;omega),Ai HR6.row kr (λi hi hm=>by have:=hrw i hm;simp[lX]at hi;omega),HR6.ap,HR6.lt,HR6.len⟩;have hR10:=Ab (hR9.other (p:=⟨A,2,Y⟩) (by simp;omega) (HMB A (by omega)) (U (V ⟨g1,0,Y⟩) (Z acc+1) cp1));have hB10:=Ab ((hB6.kept kr (λhm=>by have:=hrw N2 hm;omega)).zB ⟨A,2,Y⟩ (by simp;omega) (U (V ⟨g1,0,Y⟩) (Z acc+1) cp1));have hA10:lO (AH (w9.setCell ⟨A,2,Y⟩ (U (V ⟨g1,0,Y⟩) (Z acc+1) cp1)) A [X J m.place,O m.text,U (V ⟨g1,0,Y⟩) (Z acc+1) cp1] 187):=(hA6.kept kr (λhm=>by have:=hrw A hm;omega)).set 2 _;have hK9:Ac [b] w w9:=hK6.trans' kr (λi hi=>ly (by have:=hrw i hi;omega));have hK10:=Ab (hK9.setCell (p:=⟨A,2,Y⟩) (by right;simp;omega) (U (V ⟨g1,0,Y⟩) (Z acc+1) cp1));have hown10:=Ag ho1 (p:=⟨A,2,Y⟩) (by simp[lX];omega) (U (V ⟨g1,0,Y⟩) (Z acc+1) cp1);(have hz10:A+1<=(w9.setCell ⟨A,2,Y⟩ (U (V ⟨g1,0,Y⟩) (Z acc+1) cp1)).heap.size:=by have:=kr.size;simp;omega);clear kr hrw hR9 hK9 hg1 ha1 hl1 ho1 hc9 hf9 HGR HRW HAC hnew hown8 hown6 hA6 hB6 hK6 HR6 a2 d2 af df q1 q2 hlt6 hz6;generalize w9.setCell ⟨A,2,Y⟩ (U (V ⟨g1,0,Y⟩) (Z acc+1) cp1)=w10 at hR10 hB10 hA10 hK10 hown10 hz10⊢;have hj1:=hR10.lt;refine(Gt b (U (V ⟨g,0,Y⟩) (Z ms) cap) ms (j+1) br Hv _ hR10 (As ms (j+1)) (Bb hj1) (HO.seen hj1 Hv)).mono ?_;rintro e w11 ⟨rfl,h11,k11⟩;have hB11:=Ab (hB10.kept k11 (by simp;omega));have hA11:=Ab (hA10.kept k11 (by simp;omega));have hK11:=Ab (hK10.trans k11);have hown11:=Ai hown10 k11 (λi hi hm=>by simp at hm;subst hm;have:=(hown10.lt _ hi).1;omega);have hz11:A+1<=w11.heap.size:=iQ hz10 k11.size;clear k11 hR10 hB10 hA10 hK10 hown10 hz10;cases hs:BM (As ms (j+1)) Hv with
     |true=>
      rw[hs]at h11;simp only[if_true]at h11;have HL2:lO (Gf ms (j+2) (acc++[t])=Gf ms (nx+2) []):=by
       have hh:=Aa HL
       conv at hh=>lhs;unfold Gf
       rw[dif_pos hjl,Aa HT]at hh;simp only[hs,if_true]at hh;exact hh
      have HR11:=Ab h11;clear h11 hs HL HT;go_wp2_with fail
      go_roundg (Z ms-(j+2))
      case measure=>have:=Aa HG;omega
      case rel=>exact⟨j+2,acc++[t],V ⟨g1,0,Y⟩,cp1,rfl,HL2,HR11,hB11,by simpa using hA11,by simpa using hown11,hK11,hz11,by simp;omega⟩
     |false=>
      rw[hs]at h11;simp only[gO,if_false]at h11;have HS:=Ab hs;have HR11:=Ab h11;clear h11 hs;have HAr:lO (Gf ms (nx+2) []=if BM (As ms (j+1)) Ow then .ok (acc++[t],j+2)else .error (As ms (j+1)).place):=by
       have hh:=Aa HL
       conv at hh=>lhs;unfold Gf
       rw[dif_pos hjl,Aa HT]at hh;simp only[Aa HS,gO,if_false]at hh;exact hh.symm
      have HWd:=Ab (ME b (U (V ⟨g,0,Y⟩) (Z ms) cap) ms (j+1) br Ow _ (HR11.zI (me [] w11).drew) (As ms (j+1)) (Bb hj1) (HO.seen hj1 Ow));have e0:=hA11.cell 0;have e1:=hA11.cell 1;have e2:=hA11.cell 2;simp at e0 e1 e2;(have q1:¬A=N2:=by omega);(have q2:¬N2=A:=by omega);(have HC:lO (∀w12,Ac [b] w11.drew w12->AH w12 N2 [X J 0,O ⟨#[]⟩,U Y 0 0] 187/\AH w12 A [X J m.place,O m.text,U (V ⟨g1,0,Y⟩) (Z acc+1) cp1] 187):=λw12 k=>⟨hB11.drew.kept k (by simp;omega),hA11.drew.kept k (by simp;omega)⟩);clear HL HT HS HR11;go_wp2_with fail
      go_region_held3 (λw'=>lP w' ⟨A,0,Y⟩=V (X J m.place)/\lP w' ⟨A,1,Y⟩=V (O m.text)/\lP w' ⟨A,2,Y⟩=V (U (V ⟨g1,0,Y⟩) (Z acc+1) cp1)) (go_keep) ((go_at_call 163;refine HWd.mono ?_;rintro e w12 ⟨rfl,h12,k12⟩;have hc12:=Aa HC w12 k12;have f0:=hc12.2.cell 0;have f1:=hc12.2.cell 1;have f2:=hc12.2.cell 2;have p0:=hc12.1.cell 0;have p1:=hc12.1.cell 1;have p2:=hc12.1.cell 2;have pf:=hc12.1.frozen;simp at f0 f1 f2 p0 p1 p2;have H12:=Ab (And.intro h12 (And.intro k12 hc12));clear h12 k12 hc12))
      rename_i hHeldY;clear hHeldY;go_wp2;obtain⟨h12,k12,hc12,_⟩:=H12;have hfin:=hc12.zW rfl (X J m.place) (O m.text) (U (V ⟨g1,0,Y⟩) (Z acc+1) cp1);have hK12:Ac [b] w w12:=hK11.drew.trans k12;refine im (Au (P:=prog) (fn:=Tryz.f158) (p:=2) (u:=3) rfl rfl hfin underlying187 rfl (by kernel_rfl)) rfl ?_;cases hcl:BM (As ms (j+1)) Ow with
      |true=>
       rw[hcl]at h12;have hA:=Aa HAr;rw[hcl]at hA;simp only[if_true]at h12 hA;rw[Aa HFa _ hA];have hown12:=Ai (IY hown11) k12 (λi hi hm=>by simp at hm;subst hm;have:=(hown11.lt _ hi).1;omega);(have hne:(U (V ⟨g1,0,Y⟩) (Z acc+1) cp1).ownBlock≠V N2:=by simp[lX];omega);refine⟨U (V ⟨g1,0,Y⟩) (Z acc+1) cp1,A+1,rfl,by omega,?_,?_,?_⟩
       .have ho:=Ag (Ag (Ag hown12 (p:=⟨N2,0,Y⟩) hne (X J m.place)) (p:=⟨N2,1,Y⟩) hne (O m.text)) (p:=⟨N2,2,Y⟩) hne (U (V ⟨g1,0,Y⟩) (Z acc+1) cp1);simpa using ho
       .exact h12.zW (by omega) (HMB N2 (by omega)) _ _ _
       .exact hK12.zW (by right;omega) _ _ _
      |false=>
       rw[hcl]at h12;have hA:=Aa HAr;rw[hcl]at hA;simp only[gO,if_false]at h12 hA;rw[Aa HFa _ hA];refine⟨j+1,m.place,m.text,V ⟨g1,0,Y⟩,Z acc+1,cp1,rfl,?_,?_⟩
       .exact h12.zW (by omega) (HMB N2 (by omega)) _ _ _
       .exact hK12.zW (by right;omega) _ _ _
