import Derived.Deep.RegionHeld3
import Derived.Test.YtoihbhenbmffcaaGreatDoorZAA
set_option linter.unusedVariables false
set_option linter.unusedSimpArgs false
set_option maxHeartbeats 6400000
namespace Go.Proofs.YtoihbhenbmffcaaGreatDoor
open Go.RowKit
open Go.Proofs.Tryz
def CO(w:World)(N:Nat)(s:cL)(pos:Nat):World:={w with heap:=w.heap.setIfInBounds N (.stringIter s pos)}
theorem NI{w:World}{N:Nat}{s:cL}{pos:Nat}(h:N<w.heap.size):(CO w N s pos).heap[N]?=some (.stringIter s pos):=by
 simp[CO,h]
theorem OK{w:World}{N k:Nat}{s:cL}{pos:Nat}(h:k≠N):(CO w N s pos).heap[k]?=w.heap[k]?:=by
 have a:¬N=k:=λe=>h e.symm
 simp[CO,Array.getElem?_setIfInBounds,a]
theorem Ho(w:World)(N:Nat)(s:cL)(pos:Nat):(CO w N s pos).heap.size=w.heap.size:=by simp[CO]
theorem C9(w:World)(N:Nat)(s:cL)(pos:Nat):Ac [N] w (CO w N s pos):=
 ⟨rfl,rfl,rfl,by rw[Ho];exact au _,λk _ a=>OK (by simpa using a)⟩
theorem SA{P:Program}{w:World}{N:Nat}{s:cL}{pos:Nat}(a:w.heap[N]?=some (.stringIter s pos))(b:TypeId)(h:pos<s.size):
  (Instr.next (.pointer (some ⟨N,0,none⟩)) true b).run P w= .ok (.tuple #[.bool true, .int .i64 pos, .int .i32 (Utf8.decode s pos).1]) (CO w N s (pos+(Utf8.decode s pos).2)):=by
 simp only[Instr.next,getObj,setObj,d9,Sem.run,a,Result.andThen,h,if_true];simp[goInt,CO]
theorem Sp{P:Program}{w:World}{N:Nat}{s:cL}{pos:Nat}(a:w.heap[N]?=some (.stringIter s pos))(b:TypeId)(h:¬pos<s.size):
  (Instr.next (.pointer (some ⟨N,0,none⟩)) true b).run P w= .ok (.tuple #[.bool false]) w:=by
 simp[Instr.next,getObj,Sem.run,a,h]
theorem G4(s:cL)(pos:Nat)(h:pos<s.size):1<=(Utf8.decode s pos).2:=by
 by_cases a:(s[pos]'h).toNat<128
 ·rw[cH s pos h a];exact au _
 ·exact(ey s pos h (by omega)).2
theorem R9(s:cL)(pos:Nat):(Utf8.decode s pos).2<=4:=by
 unfold Utf8.decode;simp only
 repeat' split
 all_goals simp
theorem YP(r:Int):0<(Utf8.encode r).size:=by
 unfold Utf8.encode;simp only;generalize(if Utf8.valid r=true then r.toNat else Utf8.runeError)=c
 repeat' split
 all_goals simp[ByteArray.size]
def D6(s:cL)(pos:Nat)(ms:List AV):List AV:=
 if h:pos<s.size/\1<=(Utf8.decode s pos).2 then have _h1:pos<s.size:=h.1;have _h2:=h.2;D6 s (pos+(Utf8.decode s pos).2) (JO ms pos (Utf8.decode s pos).1)else ms
theorem EI{s:cL}{pos:Nat}(a:List AV)(h:pos<s.size):D6 s pos a=D6 s (pos+(Utf8.decode s pos).2) (JO a pos (Utf8.decode s pos).1):=by
 conv=>lhs;rw[D6]
 rw[dif_pos ⟨h,G4 s pos h⟩]
theorem L8{s:cL}{pos:Nat}(a:List AV)(h:¬pos<s.size):D6 s pos a=a:=by
 rw[D6,dif_neg (by omega)]
def G2(m:AV):AV:=if He m then m else{m with kind:=0}
def DX(s:cL):AV:=⟨1,s.size,ByteArray.empty⟩
def Fo(s:cL):List AV:=(D6 s 0 []).map G2++[DX s]
structure Jt(s:cL)(pos:Nat)(ms:List AV):Prop where
 len:ms.length<=pos
 each:∀m∈ms,m.place<pos/\0<m.text.size/\m.text.size<=4*pos
theorem Jt.lay{s:cL}{pos f:Nat}{b:List AV}{r:Int}(h:Jt s pos b)(i:pos<f):Jt s f (JO b pos r):=by
 have l:=Un r;have n:=YP r;have d:∀m∈b,m.place<f/\0<m.text.size/\m.text.size<=4*f:=λm c=>by have:=h.each m c;omega
 have k:=h.len;unfold JO;split
 ·exact⟨by omega,d⟩
 ·split
  ·rename_i m c;have g:=List.mem_of_getLast? c;have j:=h.each m g;split
   ·refine⟨?_,λx a=>?_⟩
    ·(have:b≠[]:=by intro e;rw[e]at c;simp at c);have:0<b.length:=List.length_pos_iff.2 this;simp;omega
    ·rcases aw.1 a with a|a
     ·exact d x (List.dropLast_subset b a)
     ·simp only[ae]at a;subst a;simp only[aU];omega
   ·refine⟨by simp;omega,λx a=>?_⟩;rcases aw.1 a with a|a
    ·exact d x a
    ·simp only[ae]at a;subst a;simp only[BZ];omega
  ·refine⟨by simp;omega,λx a=>?_⟩;rcases aw.1 a with a|a
   ·exact d x a
   ·simp only[ae]at a;subst a;simp only[BZ];omega
def E9(T:List AV)(k:Nat):List AV:=(T.take k).map G2++T.drop k
theorem G3(T:List AV)(k:Nat)(a:k<=T.length):(E9 T k).length=T.length:=by simp[E9];omega
theorem LV{T:List AV}{k:Nat}(a:k<T.length):E9 T k=(T.take k).map G2++T[k]::T.drop (k+1):=by
 unfold E9;rw[aC a]
theorem Th{T:List AV}{k:Nat}(a:k<T.length):E9 T (k+1)=(T.take k).map G2++G2 T[k]::T.drop (k+1):=by
 unfold E9;rw[ac a,bm,bk];rfl
theorem Vo(pre b:List AV)(m:AV)(n:Nat)(d:pre.length=n):((pre++m::b).flatMap Ba).set (n*3) (.int .i64 0)=(pre++{m with kind:=0}::b).flatMap Ba:=by
 subst d;have c:(pre.flatMap Ba).length=pre.length*3:=by
  induction pre with
  |nil=>rfl
  |cons a l ih=>rw[aB,am,ih,Fs,ak];omega
 simp only[aN,aB];rw[eh _ _ (by omega),c];simp[Ba]
set_option maxRecDepth 100000
theorem YF(s:cL)(w:World)(hs:s.size<=300):
  Calls prog 114 #[.string s] w λe w'=>∃v,e= .returned v/\w'.ownsRow (w.heap.size+1) 206 3 v (Fo s).length ((Fo s).flatMap Ba)/\Ac [] w w':=by
 obtain⟨i0,HQ,Go,HV,HJ⟩:=bj Tryz.info206;have H7:∀(x:Bool) (w:World),(Op.unary .not (.bool x)).run prog w= .ok (.bool (!x)) w:=λ_ _=>rfl
 go_enter func114,ntmps114;go_wp2;obtain⟨T,hT⟩:∃T,D6 s 0 []=T:=⟨_,rfl⟩;have HT:=Ab hT;clear hT
 go_loopg [3] s.size (λgk o wr=>∃(pos:Nat) (b:List AV),gk=s.size-pos/\pos<=s.size+4/\Hid (D6 s pos b=T/\Jt s pos b)/\wr.heap[w.heap.size]?=some (.stringIter s pos)/\wr.ownsRow (w.heap.size+1) 206 3 o b.length (b.flatMap Ba)/\Ac [] w wr/\w.heap.size+1<=wr.heap.size)
 case atStart=>
  exact⟨0,[],by simp,by omega,⟨Aa HT,⟨by simp,by simp⟩⟩,World.iter_heap w s 0,ax _ _ _ _,(Ac.refl _ _).alloc _,by simp[World.iter]⟩
 case round=>
  obtain⟨pos,b,EY,H0,p,Bx,d,j,r⟩:=hrel;have HG:=Ab EY;have O:=Ab Bx;clear EY Bx;obtain⟨U,V,rfl⟩:=Ak d;by_cases F:pos<s.size
  ·obtain⟨u,a,E⟩:∃u a,Utf8.decode s pos=(u,a):=⟨_,_,rfl⟩;(have H8:a<=4:=by have:=R9 s pos;rw[E]at this;exact this);(have H6:1<=a:=by have:=G4 s pos F;rw[E]at this;exact this);have R:∀z,(Instr.next (.pointer (some ⟨w.heap.size,0,none⟩)) true z).run prog wr= .ok (.tuple #[.bool true, .int .i64 pos, .int .i32 u]) (CO wr w.heap.size s (pos+a)):=by
    intro z;have h:=SA (P:=prog) (Aa O) z F;rw[E]at h;exact h
   have B:=Ad d (C9 wr w.heap.size s (pos+a)) (by simp);have Z:=Ab (NI (w:=wr) (N:=w.heap.size) (s:=s) (pos:=pos+a) (by omega));(have S:w.heap.size+1<=(CO wr w.heap.size s (pos+a)).heap.size:=by rw[Ho];exact r);have A:Ac [] w (CO wr w.heap.size s (pos+a)):=j.trans' (C9 wr w.heap.size s (pos+a)) (by simp);have HL:Hid (D6 s (pos+a) (JO b pos u)=T/\Jt s (pos+a) (JO b pos u)):=by
    refine⟨?_,p.out.2.lay (by omega)⟩;have h:=p.out.1;rw[EI b F,E]at h;exact h
   (have HF:b.length<=1000000:=by have:=p.out.2.len;omega);(have FF:Hid (∀m∈b,m.place<=1000000/\m.text.size<=1000000):=λm f=>by have:=p.out.2.each m f;omega);clear E d j O;generalize CO wr w.heap.size s (pos+a)=w2 at R B Z S A;(go_wp2_with fail);clear R;refine(YQ _ b pos u (w.heap.size+1) _ S B HF (by omega) (Aa FF)).mono ?_;rintro e K ⟨v3,rfl,Ha,n⟩;have FO:=Ab ((n.block w.heap.size (by omega)).trans (Aa Z));have HH:Ac [] w K:=⟨n.os.trans A.os,n.tape.trans A.tape,n.output.trans A.output,bM A.size n.size,λk y _=>(n.block k (by omega)).trans (A.block k y (by simp))⟩;have HI:w.heap.size+1<=K.heap.size:=bM S n.size;clear n A Z B S;go_wp2_with fail
   go_roundg (s.size-(pos+a))
   case measure=>have:=Aa HG;omega
   case rel=>exact⟨pos+a,JO b pos u,rfl,by omega,HL,Aa FO,Ha,HH,HI⟩
  ·(have R:∀z,(Instr.next (.pointer (some ⟨w.heap.size,0,none⟩)) true z).run prog wr= .ok (.tuple #[.bool false]) wr:=λz=>Sp (P:=prog) (Aa O) z F);have J:Hid (b=T/\Jt s pos b):=⟨by have h:=p.out.1;rwa [L8 b F]at h,p.out.2⟩;clear O p;have I:=J.out.1;(have HB:Hid (∀m∈T,m.text.size<=1000000/\0<m.text.size):=λm f=>by have:=J.out.2.each m (by rw[I];exact f);omega);(have HZ:T.length<=400:=by have:=J.out.2.len;rw[I]at this;omega);rw[I]at d⊢;clear J I;(have HC:Hid (Fo s=T.map G2++[DX s]):=by show _=_;unfold Fo;rw[Aa HT]);clear HT HG;go_wp2;clear R
   go_loopw [19] (λi Y=>∃k:Nat,i= .int .i64 k/\k<=T.length/\Y.ownsRow (w.heap.size+1) 206 3 (.slice U T.length V) T.length ((E9 T k).flatMap Ba)/\Ac [] w Y/\w.heap.size+1<=Y.heap.size) (λi _=>T.length-(intOf i).toNat)
   case atStart=>exact⟨0,rfl,aG _,by simpa[E9] using d,j,r⟩
   case round=>
    clear d j r;obtain⟨k,rfl,y,d,j,r⟩:=hrel;by_cases l:k<T.length
    ·(have FC:wr.ownsRow (w.heap.size+1) 206 3 (.slice U T.length V) (E9 T k).length ((E9 T k).flatMap Ba):=by rw[G3 T k y];exact d);obtain⟨g,H3,he,hc,L⟩:=AE FC (λc _=>Fs c) k (by rw[G3 T k y];exact l);simp only[Z6]at he;obtain⟨rfl,HE,rfl⟩:=he;clear HE;obtain⟨m,f⟩:∃m,T[k]=m:=⟨_,rfl⟩;have AT:∀h,(E9 T k)[k]'h=m:=by
      intro h;have e:(E9 T k)[k]?=some m:=by
       (have hl:((T.take k).map G2).length=k:=by simp;omega);rw[LV l,List.getElem?_append_right (by omega),hl,Nat.sub_self,f];rfl
      rw[aA h]at e;exact ez e
     have G:=L k (by rw[G3 T k y];exact l) 0 (by omega);have M:=L k (by rw[G3 T k y];exact l) 1 (by omega);have H:=L k (by rw[G3 T k y];exact l) 2 (by omega);rw[AT]at G M H;simp[Ba]at G M H;have FA:=HB.out m (by rw[<-f];exact Z7 l);have W:=Rs m wr FA.1 (λ_=>FA.2);simp only[Ba]at W;have X:=Ab W;have D:Hid (E9 T k=(T.take k).map G2++m::T.drop (k+1)/\E9 T (k+1)=(T.take k).map G2++G2 m::T.drop (k+1)):=⟨by rw[LV l,f],by rw[Th l,f]⟩;clear L AT FC W f hc;(go_wp2_with fail);refine(Aa X).mono ?_;rintro e w1 ⟨rfl,C⟩;have Q:=Ad d C (by simp);have AH:=j.trans C;have B9:w.heap.size+1<=w1.heap.size:=bM r C.size;cases hwh:He m with
     |true=>
      (have HN:Hid (E9 T (k+1)=E9 T k):=by show _=_;rw[D.out.1,D.out.2];simp[G2,hwh]);clear D X C G M H d j r;go_wp2
      go_roundw
      case rel=>exact⟨k+1,by go_num,by omega,by rw[HN.out];exact Q,AH,B9⟩
      case measure=>simp[intOf];omega
     |false=>
      have FT:=Q.lt g rfl;have H2:w1.cell? ⟨g,k*3,none⟩=some (.int .i64 m.kind):=by
       rw[World.cell?_of_block (w:=wr) (C.block g (d.lt g rfl).2 (by simp))];exact G
      have H9:=F8 Q (k*3);have HN:Hid (((E9 T k).flatMap Ba).set (k*3) (.int .i64 0)=(E9 T (k+1)).flatMap Ba):=by
       show _=_;rw[D.out.1,D.out.2,Vo _ _ _ k (by simp;omega)];simp[G2,hwh]
      clear D X C G M H d j r;go_wp2
      go_roundw
      case rel=>
       refine⟨k+1,by go_num,by omega,?_,AH.setCell (Or.inr (by have:=FT.1;simp;omega)) _,by simpa using B9⟩;rw[<-HN.out];exact Fb Q (k*3) _
      case measure=>simp[intOf];omega
    ·(have HA:k=T.length:=by omega);have B:wr.ownsRow (w.heap.size+1) 206 3 (.slice U T.length V) T.length ((T.map G2).flatMap Ba):=by
      (have e:E9 T k=T.map G2:=by unfold E9;rw[Z9 (by omega),aQ (by omega),aX]);rw[e]at d;exact d
     clear HA d;go_wp2_with (at_builtin;refine ay _ rfl (.tmp 33) (.tmp 37) _ rfl (w.heap.size+1) 206 i0 _ 3 32 underlying200 HQ Go HV HJ rfl (by omega) (.slice U T.length V) T.length ((T.map G2).flatMap Ba) rfl (ah B _) ⟨wr.heap.size,0,none⟩ 1 1 (Ba (DX s)) rfl rfl (aF (cs:=(Ba (DX s)).toArray) (t:=206) (fr:=(0,0)) (aS wr _)) (by simp[Value.oneCell',Ba]) (by omega) (by unfold maxLen;omega) (by omega) (by simp;omega) (wr.heap.size+1) (by simp) ?_;intro g1 H4 K HK BT FL FP)
     have HY:Ac [] w K:=(j.alloc _).grown BT (λq hq=>Or.inr (by have:=(B.lt q hq).1;omega));clear BT FL FP;go_wp2;go_ret;rw[HC.out];refine⟨_,rfl,?_,HY⟩;simpa using HK
structure BY(w:World)(b:Nat)(mv:Value)(ms:List AV)(nx:Nat)(br:Int):Prop where
 blk:Aw w b [mv, .int .i64 nx, .int .i64 br] 203
 row:w.ownsRow 0 206 3 mv ms.length (ms.flatMap Ba)
 ap:mv.ownBlock≠some b
 lt:nx<ms.length
 len:ms.length<=1000
theorem BY.kept{w w':World}{b:Nat}{c:Value}{a:List AV}{l nx':Nat}{e br':Int}(h:BY w b c a l e)(k:Ac [b] w w')(g:Aw w' b [c, .int .i64 nx', .int .i64 br'] 203)(f:nx'<a.length):BY w' b c a nx' br':=
 ⟨g,Ar h.row k (λi j d=>by simp at d;subst d;exact h.ap j),h.ap,f,h.len⟩
theorem BY.kept0{w w':World}{b:Nat}{c:Value}{a:List AV}{d:Nat}{e:Int}(h:BY w b c a d e)(k:Ac [] w w'):BY w' b c a d e:=
 ⟨h.blk.kept k (by simp),Ad h.row k (by simp),h.ap,h.lt,h.len⟩
theorem BY.cells{w:World}{b:Nat}{e:Value}{a:List AV}{k:Nat}{m:Int}(h:BY w b e a k m):∃g f,e= .slice (some ⟨g,0,none⟩) a.length f/\w.cell? ⟨b,0,none⟩=some e/\w.cell? ⟨b,1,none⟩=some (.int .i64 k)/\w.cell? ⟨b,2,none⟩=some (.int .i64 m)/\
  ∀j (d:j<a.length),w.cell? ⟨g,j*3,none⟩=some (.int .i64 a[j].kind)/\w.cell? ⟨g,j*3+1,none⟩=some (.int .i64 a[j].place)/\w.cell? ⟨g,j*3+2,none⟩=some (.string a[j].text):=by
 obtain⟨g,f,p,_,i⟩:=AE h.row (λc _=>Fs c) k h.lt;refine⟨g,f,p,h.blk.cell 0,h.blk.cell 1,h.blk.cell 2,λj d=>?_⟩;have n:=i j d 0 (by omega);have o:=i j d 1 (by omega);have l:=i j d 2 (by omega);simp[Ba]at n o l;exact⟨n,o,l⟩
set_option maxRecDepth 512
theorem I0(b:Nat)(j:Value)(c:List AV)(a:Nat)(k:Int)(w:World)(h:BY w b j c a k)(m:AV)(d:c[a]'h.lt=m):
  Calls prog 161 #[.pointer (some ⟨b,0,none⟩)] w λe l=>e= .returned (.int .i64 m.place)/\Ac [] w l:=by
 obtain⟨g,s,rfl,r,q,_,f⟩:=h.cells;obtain⟨n,o,i⟩:=f a h.lt;rw[d]at o;have p:(a:Int)<(c.length:Int):=by have:=h.lt;omega
 clear n i f d h;go_enter func161,ntmps161;go_wp2
 go_quiet (fail)
 go_wp2;go_ret;exact⟨rfl,(Ac.refl _ _).drewN _⟩
theorem Fp(b:Nat)(c:Value)(a:List AV)(f:Nat)(i p:Int)(w:World)(h:BY w b c a f i):
  Calls prog 160 #[.pointer (some ⟨b,0,none⟩), .int .i64 p] w λe j=>e= .returned (.bool false)/\BY j b c a f p/\Ac [b] w j:=by
 have k:=h.blk.cell 2;have m:=h.blk.frozen 2;simp at k;have l:=h;have d:Hid (BY w b c a f i):=h;clear h l;go_enter func160,ntmps160;go_wp2;go_ret;have g:Ac [b] w (w.setCell ⟨b,2,none⟩ (.int .i64 p)):=(Ac.refl _ _).setCell (by simp) _;exact⟨rfl,d.out.kept g (d.out.blk.set 2 _) d.out.lt,g⟩
def Bz(m:AV)(t:cL):Bool:=m.kind==5&&(m.text.toList==t.toList)
set_option maxRecDepth 100000
theorem PK(b:Nat)(s:Value)(d:List AV)(a:Nat)(p:Int)(t:cL)(w:World)(h:BY w b s d a p)(m:AV)(k:d[a]'h.lt=m):
  Calls prog 159 #[.pointer (some ⟨b,0,none⟩), .string t] w λe c=>e= .returned (.bool (Bz m t))/\Ac [] w c:=by
 obtain⟨g,r,rfl,q,o,_,n⟩:=h.cells;obtain⟨l,i,j⟩:=n a h.lt;rw[k]at l i j;have u:(a:Int)<(d.length:Int):=by have:=h.lt;omega
 have y:(0:Int)<=(a:Int):=by omega
 clear n k h;have z:=World.new_ne w _ q;have A:=World.new_ne w _ o;have B:=World.new_ne w _ l;have v:=World.new_ne w _ i;have x:=World.new_ne w _ j;go_enter func159,ntmps159;go_wp2_with fail
 go_region_held3 (λc=>c.cell? ⟨b,0,none⟩=some (.slice (some ⟨g,0,none⟩) d.length r)/\c.cell? ⟨b,1,none⟩=some (.int .i64 a)/\c.cell? ⟨g,a*3,none⟩=some (.int .i64 m.kind)/\c.cell? ⟨g,a*3+1,none⟩=some (.int .i64 m.place)/\c.cell? ⟨g,a*3+2,none⟩=some (.string m.text)) (go_keep) (fail)
 cases hk:(m.kind==5)with
 |true=>
  have f:Hid (Bz m t=(m.text.toList==t.toList)):=by show _=_;simp[Bz,hk]
  go_wp2;all_goals
   go_ret;refine⟨Bb ?_,?_⟩
   ·rw[f.out]
   ·repeat (first|refine Ac.drew ?_|refine Ac.setCell ?_ (by simp) _|refine Ac.alloc ?_ _|refine Ac.drewN ?_ _)
    exact Ac.refl _ _
 |false=>
  have f:Hid (Bz m t=false):=by show _=_;simp[Bz,hk]
  go_wp2;all_goals
   go_ret;refine⟨Bb ?_,?_⟩
   ·rw[f.out]
   ·repeat (first|refine Ac.drew ?_|refine Ac.setCell ?_ (by simp) _|refine Ac.alloc ?_ _|refine Ac.drewN ?_ _)
    exact Ac.refl _ _
set_option maxRecDepth 512
theorem FJ(b:Nat)(o:Value)(f:List AV)(c:Nat)(l:Int)(t:cL)(w:World)(h:BY w b o f c l)(m:AV)(s:f[c]'h.lt=m)(p:Bz m t=true->c+1<f.length):
  Calls prog 162 #[.pointer (some ⟨b,0,none⟩), .string t] w λe q=>e= .returned (.bool (Bz m t))/\BY q b o f (if Bz m t then c+1 else c) l/\Ac [b] w q:=by
 have d:=Ab (PK b o f c l t w h m s);have j:=Ab h;have B:=h.len;have y:=h.lt;clear s h;have A:∀(x:Bool) (w:World),(Op.unary .not (.bool x)).run prog w= .ok (.bool (!x)) w:=λ_ _=>rfl
 cases hs:Bz m t with
 |true=>
  have u:=Ab (p hs);rw[hs]at d;clear hs p;simp only[if_true];go_enter func162,ntmps162;go_wp2_with fail
  refine(Aa d).mono ?_;rintro e k ⟨rfl,a⟩;have g:=(Aa j).kept0 a;have i:=Ab g;have v:=g.blk.cell 1;have z:=g.blk.frozen 1;simp at v;have n:=a.mono (N:=[b]) (by simp);clear g a d j;go_wp2;go_ret;have r:Ac [b] k (k.setCell ⟨b,1,none⟩ (.int .i64 ((c:Int)+1))):=(Ac.refl _ _).setCell (by simp) _;exact⟨rfl,(Aa i).kept r ((Aa i).blk.set 1 _) (Aa u),n.trans r⟩
 |false=>
  rw[hs]at d;clear hs p;simp only[Z8,if_false];go_enter func162,ntmps162;go_wp2_with fail
  refine(Aa d).mono ?_;rintro e k ⟨rfl,a⟩;have i:=Ab ((Aa j).kept0 a);have n:=a.mono (N:=[b]) (by simp);clear a d j;go_wp2;go_ret;exact⟨rfl,Aa i,n⟩
theorem KX(b:Nat)(g:Value)(c:List AV)(a:Nat)(f:Int)(t:cL)(w:World)(h:BY w b g c a f)(m:AV)(j:c[a]'h.lt=m)(r:Bz m t=true->a+1<c.length):
  Calls prog 163 #[.pointer (some ⟨b,0,none⟩), .string t] w λe n=>e= .returned (.bool (Bz m t))/\BY n b g c (if Bz m t then a+1 else a) (if Bz m t then f else m.place)/\Ac [b] w n:=by
 have i:=Ab (FJ b g c a f t w h m j r);have v:Hid (∀h:a<c.length,c[a]=m):=λ_=>j
 clear j r h;cases hs:Bz m t with
 |true=>
  rw[hs]at i;have z:=Ab hs;clear hs;go_enter func163,ntmps163;go_wp2_with fail
  refine(Aa i).mono ?_;rintro e s ⟨rfl,d,l⟩;have k:=Ab d;clear d;go_wp2;go_ret;exact⟨rfl,Aa k,l⟩
 |false=>
  rw[hs]at i;clear hs;go_enter func163,ntmps163;go_wp2_with fail
  refine(Aa i).mono ?_;rintro e s ⟨rfl,d,l⟩;simp only[Z8,if_false]at d⊢;go_wp2_with fail
  refine(I0 b g c a f _ d m ((Aa v) _)).mono ?_;rintro e A ⟨rfl,p⟩;have o:=d.kept0 p;go_wp2_with fail
  refine(Fp b g c a f m.place _ o).mono ?_;rintro e y ⟨rfl,q,u⟩;have k:=Ab q;have x:=(l.trans (p.mono (by simp))).trans u;clear d o q;go_wp2;go_ret;exact⟨rfl,Aa k,x⟩
def GT(s:cL):Bool:=Op.bytesLess s.toList [97]
theorem Kn(s:cL)(w:World):Calls prog 144 #[.string s] w λe a=>e= .returned (.bool (GT s))/\a=w:=by
 go_enter func144,ntmps144;go_wp2;all_goals go_ret
 all_goals exact⟨rfl,rfl⟩
def Nl:cL:=⟨#[48]⟩
def Jj:Nat->cL->cL
 |0,s=>s
 |k+1,s=>if s.size<3 then Jj k (Nl++s)else s
def Ay(s:cL):cL:=if GT s then Jj 3 s else s
set_option maxRecDepth 100000
theorem Q7(s:cL)(w:World):Calls prog 217 #[.string s] w λe b=>e= .returned (.string (Ay s))/\b=w:=by
 have f:=Kn s w;by_cases d:GT s=true
 ·rw[d]at f;have c:Ay s=Jj 3 s:=by unfold Ay;simp[d]
  rw[c];generalize hTe:Jj 3 s=T;have j:=Ab hTe;clear hTe c d;go_enter func217,ntmps217;go_wp2_with (go_at_call 144;refine f.mono ?_;rintro e b ⟨rfl,rfl⟩)
  rename_i b _ _
  go_loopg [0] 3 (λgk o wr=>∃(t:cL),o= .string t/\Hid (Jj gk t=T)/\3<=t.size+gk/\wr=b)
  case atStart=>exact⟨s,rfl,j,by omega,rfl⟩
  case round=>
   obtain⟨t,rfl,g,m,rfl⟩:=hrel;by_cases i:t.size<3
   ·(have l:(t.size:Int)<3:=by omega);go_wp2;(have n:(Nl++t).size=t.size+1:=by rw[aU];show 1+t.size=_;omega);obtain⟨k,rfl⟩:∃k,gk=k+1:=⟨gk-1,by omega⟩;have a:=Aa g;rw[Jj,if_pos i]at a
    go_roundg k
    case measure=>omega
    case rel=>exact⟨Nl++t,rfl,a,by omega,rfl⟩
   ·(have l:¬(t.size:Int)<3:=by omega);have c:Hid (t=T):=by
     show t=T;have a:=Aa g;cases gk with
     |zero=>exact a
     |succ k=>rw[Jj,if_neg i]at a;exact a
    go_wp2;go_ret;exact⟨by rw[<-Aa c];rfl,rfl⟩
 ·have h:GT s=false:=by simpa using d
  rw[h]at f;go_enter func217,ntmps217;go_wp2_with (go_at_call 144;refine f.mono ?_;rintro e b ⟨rfl,rfl⟩)
  all_goals go_ret
  all_goals refine⟨?_,rfl⟩
  all_goals simp[Ay,h]
def XU:List UInt8->Bool
 |[]=>false
 |[c]=>decide (48<=c.toNat/\c.toNat<=57)
 |[c,_]=>decide (49<=c.toNat/\c.toNat<=57)
 |[c,_,_]=>decide (49<=c.toNat/\c.toNat<=57)
 |_=>false
def FM(s:cL):cL:=if s.size=0 then s else if GT s then(if XU s.toList then Jj 3 s else⟨#[0]⟩++s)else s
def GR:List UInt8->List UInt8
 |[]=>[]
 |c::r=>if c.toNat<97 then(if XU (c::r)then List.replicate (3-(c::r).length) 48++(c::r)else 0::c::r)else c::r
theorem J9(a b:cL):(a++b).toList=a.toList++b.toList:=by
 rw[bi,bi,bi,ei,dp]
theorem B4(a:cL):a.size=a.toList.length:=by
 rw[bi];rfl
theorem toList_inj{a b:cL}(h:a.toList=b.toList):a=b:=by
 rw[bi,bi]at h;exact ByteArray.ext (Array.toList_inj.1 h)
theorem M8:Nl.toList=[48]:=by rw[bi];rfl
theorem JQ:∀(k:Nat) (s:cL),s.size<=3->3<=s.size+k->(Jj k s).toList=List.replicate (3-s.size) 48++s.toList
 |0,s,h,hk=>by
  rw[show 3-s.size=0 by omega];rfl
 |k+1,s,h,hk=>by
  rw[Jj];split
  ·rename_i b;(have a:(Nl++s).size=s.size+1:=by rw[B4,J9,M8,B4];simp);rw[JQ k (Nl++s) (by omega) (by omega),a,J9,M8,show 3-s.size=(3-(s.size+1))+1 by omega,List.replicate_succ'];simp
  ·rw[show 3-s.size=0 by omega];rfl
theorem Ed(c:UInt8)(r:List UInt8):Op.bytesLess (c::r) [97]=decide (c.toNat<97):=by
 have e:Op.bytesLess r []=false:=by cases r<;>rfl
 simp only[Op.bytesLess,e];by_cases h:c.toNat<97
 ·have:c<97:=h;simp[h,this]
 ·have:¬c<97:=h;simp[h,this]
theorem LU(s:cL):(FM s).toList=GR s.toList:=by
 unfold FM GT;cases hs:s.toList with
 |nil=>
  have:s.size=0:=by rw[B4,hs];rfl
  rw[if_pos this,hs];rfl
 |cons c r=>
  have a:s.size=(c::r).length:=by rw[B4,hs]
  rw[if_neg (by rw[a];simp),Ed];unfold GR;by_cases h:c.toNat<97
  ·simp only[h,decide_true,if_true];cases ho:XU (c::r)with
   |true=>
    simp only[if_true];have b:(c::r).length<=3:=by
     match r,ho with
     |[],_=>simp
     |[_],_=>simp
     |[_,_],_=>simp
     |_::_::_::_,ho=>simp[XU]at ho
    rw[JQ 3 s (by omega) (by omega),hs,a]
   |false=>
    simp only[Z8,if_false];rw[J9,hs];rw[show(⟨#[0]⟩:cL).toList=[0] from by rw[bi]]
    rfl
  ·simp only[h,ee,Z8,if_false];exact hs
theorem Eh{l:List UInt8}(h:XU l=true):(∃c:UInt8,l=[c]/\48<=c.toNat/\c.toNat<=57)\/(∃c d:UInt8,l=[c,d]/\49<=c.toNat/\c.toNat<=57)\/(∃c d e:UInt8,l=[c,d,e]/\49<=c.toNat/\c.toNat<=57):=by
 match l,h with
 |[],h=>simp[XU]at h
 |[c],h=>exact Or.inl ⟨c,rfl,by simpa[XU] using h⟩
 |[c,d],h=>exact Or.inr (Or.inl ⟨c,d,rfl,by simpa[XU] using h⟩)
 |[c,d,e],h=>exact Or.inr (Or.inr ⟨c,d,e,rfl,by simpa[XU] using h⟩)
 |_::_::_::_::_,h=>simp[XU]at h
theorem Ks(l:List UInt8):(l=[]/\GR l=[])\/(∃c r,l=c::r/\97<=c.toNat/\GR l=c::r)\/(∃c r,l=c::r/\GR l=0::c::r)\/
  (∃c,l=[c]/\48<=c.toNat/\c.toNat<=57/\GR l=[48,48,c])\/(∃c d,l=[c,d]/\49<=c.toNat/\c.toNat<=57/\GR l=[48,c,d])\/(∃c d e,l=[c,d,e]/\49<=c.toNat/\c.toNat<=57/\GR l=[c,d,e]):=by
 cases l with
 |nil=>exact Or.inl ⟨rfl,rfl⟩
 |cons c r=>
  rw[show GR (c::r)=if c.toNat<97 then(if XU (c::r)then List.replicate (3-(c::r).length) 48++(c::r)else 0::c::r)else c::r from rfl]
  by_cases h:c.toNat<97
  ·rw[if_pos h];cases ho:XU (c::r)with
   |true=>
    rw[if_pos rfl];refine Or.inr (Or.inr (Or.inr ?_));rcases Eh ho with⟨f,e,a,b⟩|⟨f,d,e,a,b⟩|⟨f,d,g,e,a,b⟩
    ·rw[e];exact Or.inl ⟨f,rfl,a,b,rfl⟩
    ·rw[e];exact Or.inr (Or.inl ⟨f,d,rfl,a,b,rfl⟩)
    ·rw[e];exact Or.inr (Or.inr ⟨f,d,g,rfl,a,b,rfl⟩)
   |false=>
    rw[if_neg (by simp)];exact Or.inr (Or.inr (Or.inl ⟨c,r,rfl,rfl⟩))
  ·rw[if_neg h];exact Or.inr (Or.inl ⟨c,r,rfl,by omega,rfl⟩)
theorem Tt{a b:List UInt8}(h:GR a=GR b):a=b:=by
 have z:(48:UInt8).toNat=48:=rfl;have o:(0:UInt8).toNat=0:=rfl;rcases Ks a with⟨rfl,e⟩|⟨c,r,rfl,j,e⟩|⟨c,r,rfl,e⟩|⟨c,rfl,j,m,e⟩|⟨c,d,rfl,j,m,e⟩|⟨c,d,f,rfl,j,m,e⟩<;>
  rcases Ks b with⟨rfl,g⟩|⟨i,n,rfl,k,g⟩|⟨i,n,rfl,g⟩|⟨i,rfl,k,l,g⟩|⟨i,p,rfl,k,l,g⟩|⟨i,p,s,rfl,k,l,g⟩<;>
  rw[e]at h<;>(try rw[g]at h)<;>simp only[dj,reduceCtorEq,List.nil_eq,and_true]at h⊢
 all_goals first
  |exact h
  |exact h.2
  |exact h.2.2
  |(exfalso;have q:=congrArg UInt8.toNat h.1;clear e g;omega)
  |(exfalso;have q:=congrArg UInt8.toNat h.2.1;clear e g;omega)
theorem T2{a b:cL}(h:FM a=FM b):a=b:=
 toList_inj (Tt (by rw[<-LU,<-LU,h]))
theorem GN(t:cL)(h:0<t.size):∃r,t.toList=t[0]::r/\t.toList.length=t.size:=by
 rw[bi];obtain⟨⟨l⟩⟩:=t;cases l with
 |nil=>exact absurd h (by show¬(0<0);omega)
 |cons c r=>exact⟨r,rfl,rfl⟩
theorem Ud{t:cL}(h:0<t.size)(c:97<=t[0].toNat):Ay t=FM t:=by
 obtain⟨r,a,d⟩:=GN t h;have b:GT t=false:=by
  unfold GT;rw[a,Ed];simp;omega
 unfold Ay FM;rw[b,if_neg (show¬t.size=0 by omega)];simp
theorem V0{t:cL}(h:0<t.size)(i:48<=t[0].toNat)(f:t[0].toNat<=57)(j:t.size<=3)(g:t[0].toNat=48->t.size=1):Ay t=FM t:=by
 obtain⟨r,b,a⟩:=GN t h;have e:GT t=true:=by
  unfold GT;rw[b,Ed];simp;omega
 have d:XU t.toList=true:=by
  rw[b]at a⊢;generalize t[0]=c at*
  match r,a with
  |[],_=>simp[XU];omega
  |[_],a=>simp at a;simp[XU];omega
  |[_,_],a=>simp at a;simp[XU];omega
  |_::_::_::_,a=>simp at a;omega
 unfold Ay FM;rw[e,d,if_neg (show¬t.size=0 by omega)];simp
structure A3 where
 v:Int
 s:cL
def Am(t:A3):List Value:=[.int .i32 t.v, .string t.s]
def AC:A3:=⟨0,ByteArray.empty⟩
theorem LP(b:Nat)(B:Value)(c:List AV)(a:Nat)(t:Int)(w:World)(h:BY w b B c a t)(m:AV)(M:c[a]'h.lt=m)(A:(m.kind==2)=true\/(m.kind==2)=false/\(m.kind==3)=true)(Q:a+1<c.length):
  Calls prog 193 #[.pointer (some ⟨b,0,none⟩)] w λe d=>e= .returned (.tuple #[.agg (Am ⟨0,Ay m.text⟩).toArray, .bool true])/\BY d b B c (a+1) t/\Ac [b] w d:=by
 have HN:=Ab Q;clear Q;have T:Hid (∀h:a<c.length,c[a]=m):=λ_=>M
 have R:=h.lt;have HA:(a:Int)<(c.length:Int):=by omega
 have HD:(0:Int)<=(a:Int):=by omega
 have hl:=h.len;have B9:=h.blk.lt;have E:∀k,B.ownBlock=some k->k<w.heap.size:=λk hk=>(h.row.lt k hk).2
 have u:=h.kept0 ((Ac.refl [] w).alloc (.cells #[.int .i32 0, .string ⟨#[]⟩] 215));have q:=Aw.new w [.int .i32 0, .string ⟨#[]⟩] 215;have x:=(Ac.refl [b] w).alloc (.cells [.int .i32 0, .string ⟨#[]⟩].toArray 215);clear M h;go_enter func193,ntmps193;go_wp2_with fail
 generalize w.alloc (.cells [.int .i32 0, .string ⟨#[]⟩].toArray 215)=w1 at u q x⊢;obtain⟨f,z⟩:∃f,w.heap.size=f:=⟨_,rfl⟩;rw[z]at q B9 E⊢;have L:=Ab z;clear z;obtain⟨g,D,rfl,G,K,b2,J⟩:=u.cells;have FT:g<f:=E g rfl;clear E;obtain⟨C,y,v⟩:=J a R;rw[(Aa T) R]at C y v;clear J b2;have U:=World.new_ne w1 _ G;have n1:=World.new_ne w1 _ K;have n2:=World.new_ne w1 _ C;have n3:=World.new_ne w1 _ y;have n4:=World.new_ne w1 _ v;have S:=Ab u;have n:=Ab q;clear u q
 go_region_held3 (λd=>d.cell? ⟨b,0,none⟩=some (.slice (some ⟨g,0,none⟩) c.length D)/\d.cell? ⟨b,1,none⟩=some (.int .i64 a)/\d.cell? ⟨g,a*3,none⟩=some (.int .i64 m.kind)/\d.cell? ⟨g,a*3+1,none⟩=some (.int .i64 m.place)/\d.cell? ⟨g,a*3+2,none⟩=some (.string m.text)) (go_keep) (fail)
 rename_i CL;clear CL U n1 n2 n3 n4 G K C y v;have W:=(Aa n).lt;have j:=(Aa S).kept0 (((Ac.refl [] w1).alloc (.cells [.int .i64 m.kind, .int .i64 m.place, .string m.text].toArray 206)).drew);have l:=(Aw.new w1 [.int .i64 m.kind, .int .i64 m.place, .string m.text] 206).drew;have i:=((Aa n).alloc (.cells [.int .i64 m.kind, .int .i64 m.place, .string m.text].toArray 206)).drew;have P:=(x.alloc (.cells [.int .i64 m.kind, .int .i64 m.place, .string m.text].toArray 206)).drew;have I:(w1.alloc (.cells [.int .i64 m.kind, .int .i64 m.place, .string m.text].toArray 206)).drew.heap.size=w1.heap.size+1:=by simp
 clear S n x;generalize(w1.alloc (.cells [.int .i64 m.kind, .int .i64 m.place, .string m.text].toArray 206)).drew=w2 at j l i P I⊢;generalize w1.heap.size=N4 at l W I⊢;have Y:=l.cell 0;have x1:=l.cell 1;have X:=l.cell 2;have y0:=i.cell 0;have y1:=i.cell 1;have yf:=i.frozen;have z1:=j.blk.cell 1;have zf:=j.blk.frozen 1;simp at Y x1 X y0 y1 z1;have HE:=l.lt;have Ha:=j.blk.lt;have HF:=i.lt;have za:=λo=>(j.blk.alloc o).cell 1
 have Go:=λo=>(j.blk.alloc o).frozen 1
 have Bx:=λo=>(i.alloc o).cell 0
 have BA:=λo=>(i.alloc o).cell 1
 have HK:=λo=>(i.alloc o).frozen
 simp at za Bx BA;have q1:¬b=f:=by omega
 have q2:¬f=b:=by omega
 have q3:¬b=w2.heap.size:=by omega
 have q4:¬w2.heap.size=b:=by omega
 have q5:¬f=w2.heap.size:=by omega
 have q6:¬w2.heap.size=f:=by omega
 have O:=Ab j;have n:=Ab i;clear j l i;have Z:Hid (∀r H N:Value,r= .int .i64 ((a:Int)+1)->BY ((((w2.alloc (.cells #[.int .i32 0, .string (Ay m.text)] 215)).setCell ⟨b,1,none⟩ r).setCell ⟨f,0,none⟩ H).setCell ⟨f,1,none⟩ N) b (.slice (some ⟨g,0,none⟩) c.length D) c (a+1) t):=by
  intro r H N hv;have k1:Ac [b] w2 ((((w2.alloc (.cells #[.int .i32 0, .string (Ay m.text)] 215)).setCell ⟨b,1,none⟩ r))):=((Ac.refl [b] w2).alloc _).setCell (by simp) _;have p:=(Aa O).kept (nx':=a+1) (br':=t) k1 (by rw[hv];exact((Aa O).blk.alloc _).set 1 _) (Aa HN);have F:(Value.slice (some ⟨g,0,none⟩) c.length D).ownBlock≠some f:=by simp[Value.ownBlock];omega
  exact⟨(p.blk.set_other _ (by simp;omega) _).set_other _ (by simp;omega) _,Ag (Ag p.row F _) F _,p.ap,p.lt,p.len⟩
 have V:Hid (∀s w,Calls prog 217 #[.string s] w λe d=>e= .returned (.string (Ay s))/\d=w):=Q7;rcases A with A|⟨A,e3⟩;all_goals
  go_wp2_with (go_at_call 217;refine(Aa V _ _).mono ?_;rintro e d ⟨rfl,rfl⟩)
  refine aE (AF rfl rfl (((((Aa n).alloc _).set_other ⟨b,1,none⟩ (by simp;omega) _).set 0 _).set 1 _) underlying215 rfl (by kernel_rfl)) rfl ⟨rfl,?_,?_⟩
  ·exact Z.out _ _ _ rfl
  ·refine Ac.setCell (Ac.setCell (Ac.setCell (P.alloc _) (by simp) _) (by right;have:=Aa L;simp;omega) _) (by right;have:=Aa L;simp;omega) _
theorem TG(b:Nat)(z:Value)(d:List AV)(a:Nat)(Q:Int)(w:World)(h:BY w b z d a Q)(m:AV)(N:d[a]'h.lt=m)(e2:(m.kind==2)=false)(e3:(m.kind==3)=false)(e4:(m.kind==4)=false):
  Calls prog 193 #[.pointer (some ⟨b,0,none⟩)] w λe j=>e= .returned (.tuple #[.agg (Am AC).toArray, .bool false])/\BY j b z d a m.place/\Ac [b] w j:=by
 have HM:Hid (∀h:a<d.length,d[a]=m):=λ_=>N
 have Y:=h.lt;have Ha:(a:Int)<(d.length:Int):=by omega
 have HB:(0:Int)<=(a:Int):=by omega
 have hl:=h.len;have FA:=h.blk.lt;have C:∀k,z.ownBlock=some k->k<w.heap.size:=λk hk=>(h.row.lt k hk).2
 have s:=h.kept0 ((Ac.refl [] w).alloc (.cells #[.int .i32 0, .string ⟨#[]⟩] 215));have q:=Aw.new w [.int .i32 0, .string ⟨#[]⟩] 215;have v:=(Ac.refl [b] w).alloc (.cells [.int .i32 0, .string ⟨#[]⟩].toArray 215);clear N h;go_enter func193,ntmps193;go_wp2_with fail
 generalize w.alloc (.cells [.int .i32 0, .string ⟨#[]⟩].toArray 215)=w1 at s q v⊢;obtain⟨f,y⟩:∃f,w.heap.size=f:=⟨_,rfl⟩;rw[y]at q FA C⊢;have L:=Ab y;clear y;obtain⟨g,W,rfl,E,K,b2,I⟩:=s.cells;have FW:g<f:=C g rfl;clear C;obtain⟨A,x,t⟩:=I a Y;rw[(Aa HM) Y]at A x t;clear I b2;have n0:=World.new_ne w1 _ E;have n1:=World.new_ne w1 _ K;have n2:=World.new_ne w1 _ A;have n3:=World.new_ne w1 _ x;have n4:=World.new_ne w1 _ t;have Z:=Ab s;have n:=Ab q;clear s q
 go_region_held3 (λj=>j.cell? ⟨b,0,none⟩=some (.slice (some ⟨g,0,none⟩) d.length W)/\j.cell? ⟨b,1,none⟩=some (.int .i64 a)/\j.cell? ⟨g,a*3,none⟩=some (.int .i64 m.kind)/\j.cell? ⟨g,a*3+1,none⟩=some (.int .i64 m.place)/\j.cell? ⟨g,a*3+2,none⟩=some (.string m.text)) (go_keep) (fail)
 rename_i FC;clear FC n0 n1 n2 n3 n4 E K A x t;have BA:=(Aa n).lt;have i:=(Aa Z).kept0 (((Ac.refl [] w1).alloc (.cells [.int .i64 m.kind, .int .i64 m.place, .string m.text].toArray 206)).drew);have l:=(Aw.new w1 [.int .i64 m.kind, .int .i64 m.place, .string m.text] 206).drew;have c:=((Aa n).alloc (.cells [.int .i64 m.kind, .int .i64 m.place, .string m.text].toArray 206)).drew;have B:=(v.alloc (.cells [.int .i64 m.kind, .int .i64 m.place, .string m.text].toArray 206)).drew;have F:(w1.alloc (.cells [.int .i64 m.kind, .int .i64 m.place, .string m.text].toArray 206)).drew.heap.size=w1.heap.size+1:=by simp
 clear Z n v;generalize(w1.alloc (.cells [.int .i64 m.kind, .int .i64 m.place, .string m.text].toArray 206)).drew=w2 at i l c B F⊢;generalize w1.heap.size=N4 at l BA F⊢;have J:=l.cell 0;have U:=l.cell 1;have H:=l.cell 2;have T:=c.cell 0;have M:=c.cell 1;have yf:=c.frozen;have S:=i.blk.cell 1;have zf:=i.blk.frozen 1;simp at J U H T M S;have HC:=l.lt;have Go:=i.blk.lt;have HD:=c.lt;have X:=λo=>(i.blk.alloc o).cell 1
 have Bx:=λo=>(i.blk.alloc o).frozen 1
 have O:=λo=>(c.alloc o).cell 0
 have P:=λo=>(c.alloc o).cell 1
 have FF:=λo=>(c.alloc o).frozen
 simp at X O P;have q1:¬b=f:=by omega
 have q2:¬f=b:=by omega
 have q3:¬b=w2.heap.size:=by omega
 have q4:¬w2.heap.size=b:=by omega
 have q5:¬f=w2.heap.size:=by omega
 have q6:¬w2.heap.size=f:=by omega
 have V:=Ab i;have n:=Ab c;clear i l c;go_wp2_with fail
 have G:=(Aa V).kept0 ((Ac.refl [] w2).alloc (.cells #[.int .i32 0, .string ⟨#[]⟩] 215));refine(Fp b _ d a Q m.place _ G).mono ?_;rintro e w4 ⟨rfl,R,u⟩;have r:=((Aa n).alloc _).kept u (by simp;omega);have FO:=(B.alloc _).trans u;have v0:=r.cell 0;have v1:=r.cell 1;have vf:=r.frozen;simp at v0 v1;have CL:=Ab R;clear G R u J U H T M yf S zf X Bx O P FF V n B;go_wp2;refine aE (AF rfl rfl ((r.set 0 _).set 1 _) underlying215 rfl (by kernel_rfl)) rfl ⟨rfl,?_,?_⟩
 ·have D:(Value.slice (some ⟨g,0,none⟩) d.length W).ownBlock≠some f:=by simp[Value.ownBlock];omega
  have p:=Aa CL;exact⟨(p.blk.set_other _ (by simp;omega) _).set_other _ (by simp;omega) _,Ag (Ag p.row D _) D _,p.ap,p.lt,p.len⟩
 ·refine Ac.setCell (Ac.setCell FO (by right;have:=Aa L;simp;omega) _) (by right;have:=Aa L;simp;omega) _
def CE(s:cL)(pos:Nat)(v:Int):Int:=
 if h:pos<s.size/\1<=(Utf8.decode s pos).2 then have _h1:pos<s.size:=h.1;have _h2:=h.2;CE s (pos+(Utf8.decode s pos).2) (Utf8.decode s pos).1 else v
theorem Jw{s:cL}{pos:Nat}(v:Int)(h:pos<s.size):CE s pos v=CE s (pos+(Utf8.decode s pos).2) (Utf8.decode s pos).1:=by
 conv=>lhs;rw[CE]
 rw[dif_pos ⟨h,G4 s pos h⟩]
theorem Qi{s:cL}{pos:Nat}(v:Int)(h:¬pos<s.size):CE s pos v=v:=by
 rw[CE,dif_neg (by omega)]
theorem V1(b:Nat)(mv:Value)(d:List AV)(c:Nat)(A:Int)(w:World)(h:BY w b mv d c A)(m:AV)(F:d[c]'h.lt=m)(e2:(m.kind==2)=false)(e3:(m.kind==3)=false)(e4:(m.kind==4)=true)(hn:c+1<d.length)(MB:m.text.size<=2000):
  Calls prog 193 #[.pointer (some ⟨b,0,none⟩)] w λe r=>e= .returned (.tuple #[.agg (Am ⟨CE m.text 0 0,ByteArray.empty⟩).toArray, .bool true])/\BY r b mv d (c+1) A/\Ac [b] w r:=by
 have HN:=Ab hn;clear hn;have HM:Hid (∀h:c<d.length,d[c]=m):=λ_=>F
 have HW:=h.lt;have z:(c:Int)<(d.length:Int):=by omega
 have LE:(0:Int)<=(c:Int):=by omega
 have hl:=h.len;have K1:=h.blk.lt;have EX:∀k,mv.ownBlock=some k->k<w.heap.size:=λk hk=>(h.row.lt k hk).2
 have U:=h.kept0 ((Ac.refl [] w).alloc (.cells #[.int .i32 0, .string ⟨#[]⟩] 215));have I:=Aw.new w [.int .i32 0, .string ⟨#[]⟩] 215;have Ax:=(Ac.refl [b] w).alloc (.cells [.int .i32 0, .string ⟨#[]⟩].toArray 215);clear F h;go_enter func193,ntmps193;go_wp2_with fail
 generalize w.alloc (.cells [.int .i32 0, .string ⟨#[]⟩].toArray 215)=w1 at U I Ax⊢;obtain⟨f,BT⟩:∃f,w.heap.size=f:=⟨_,rfl⟩;rw[BT]at I K1 EX⊢;have H6:=Ab BT;clear BT;obtain⟨g,x,rfl,b0,b1,b2,hc⟩:=U.cells;have LB:g<f:=EX g rfl;clear EX;obtain⟨c0,c1,W⟩:=hc c HW;rw[(Aa HM) HW]at c0 c1 W;clear hc b2;have n0:=World.new_ne w1 _ b0;have n1:=World.new_ne w1 _ b1;have n2:=World.new_ne w1 _ c0;have n3:=World.new_ne w1 _ c1;have n4:=World.new_ne w1 _ W;have HH:=Ab U;have p:=Ab I;clear U I
 go_region_held3 (λr=>r.cell? ⟨b,0,none⟩=some (.slice (some ⟨g,0,none⟩) d.length x)/\r.cell? ⟨b,1,none⟩=some (.int .i64 c)/\r.cell? ⟨g,c*3,none⟩=some (.int .i64 m.kind)/\r.cell? ⟨g,c*3+1,none⟩=some (.int .i64 m.place)/\r.cell? ⟨g,c*3+2,none⟩=some (.string m.text)) (go_keep) (fail)
 rename_i K3;clear K3 n0 n1 n2 n3 n4 b0 b1 c0 c1 W;have H2:=(Aa p).lt;have q:=(Aa HH).kept0 (((Ac.refl [] w1).alloc (.cells [.int .i64 m.kind, .int .i64 m.place, .string m.text].toArray 206)).drew);have t:=(Aw.new w1 [.int .i64 m.kind, .int .i64 m.place, .string m.text] 206).drew;have l:=((Aa p).alloc (.cells [.int .i64 m.kind, .int .i64 m.place, .string m.text].toArray 206)).drew;have C:=(Ax.alloc (.cells [.int .i64 m.kind, .int .i64 m.place, .string m.text].toArray 206)).drew;have y:(w1.alloc (.cells [.int .i64 m.kind, .int .i64 m.place, .string m.text].toArray 206)).drew.heap.size=w1.heap.size+1:=by simp
 clear HH p Ax;generalize(w1.alloc (.cells [.int .i64 m.kind, .int .i64 m.place, .string m.text].toArray 206)).drew=w2 at q t l C y⊢;generalize w1.heap.size=N4 at t H2 y⊢;have J:=t.cell 0;have S:=t.cell 1;have x2:=t.cell 2;have R:=l.cell 0;have K:=l.cell 1;have yf:=l.frozen;have O:=q.blk.cell 1;have zf:=q.blk.frozen 1;simp at J S x2 R K O;have H9:=t.lt;have H3:=q.blk.lt;have Ix:=l.lt;have za:=λo=>(q.blk.alloc o).cell 1
 have H1:=λo=>(q.blk.alloc o).frozen 1
 have Ha:=λo=>(l.alloc o).cell 0
 have HC:=λo=>(l.alloc o).cell 1
 have K5:=λo=>(l.alloc o).frozen
 simp at za Ha HC;have q1:¬b=f:=by omega
 have q2:¬f=b:=by omega
 have q3:¬b=w2.heap.size:=by omega
 have q4:¬w2.heap.size=b:=by omega
 have q5:¬f=w2.heap.size:=by omega
 have q6:¬w2.heap.size=f:=by omega
 have HK:=Ab q;have p:=Ab l;clear q t l;go_wp2;have EY:(w2.alloc (.cells #[.int .i32 0, .string ⟨#[]⟩] 215)).heap.size=N4+1+1:=by simp[y]
 have BA:Ac [b] w ((w2.alloc (.cells #[.int .i32 0, .string ⟨#[]⟩] 215)).iter m.text 0):=(C.alloc _).alloc _;have X:BY ((w2.alloc (.cells #[.int .i32 0, .string ⟨#[]⟩] 215)).iter m.text 0) b (.slice (some ⟨g,0,none⟩) d.length x) d c A:=(Aa HK).kept0 (((Ac.refl [] w2).alloc _).alloc _);have AB:Aw ((w2.alloc (.cells #[.int .i32 0, .string ⟨#[]⟩] 215)).iter m.text 0) f [.int .i32 0, .string ⟨#[]⟩] 215:=((Aa p).alloc _).alloc _;have Y:Aw ((w2.alloc (.cells #[.int .i32 0, .string ⟨#[]⟩] 215)).iter m.text 0) (N4+1) [.int .i32 0, .string ⟨#[]⟩] 215:=by rw[<-y];exact(Aw.new w2 [.int .i32 0, .string ⟨#[]⟩] 215).alloc _
 have L:=World.iter_heap (w2.alloc (.cells #[.int .i32 0, .string ⟨#[]⟩] 215)) m.text 0;rw[EY]at L;have Z:N4+1+1<((w2.alloc (.cells #[.int .i32 0, .string ⟨#[]⟩] 215)).iter m.text 0).heap.size:=by simp[World.iter,y]
 have MY:w.heap.size<=f:=by have:=Aa H6;omega
 clear J S x2 R K yf O zf za H1 Ha HC K5 HK p C EY q1 q2 q3 q4 q5 q6 H9 H3 Ix y;generalize(w2.alloc (.cells #[.int .i32 0, .string ⟨#[]⟩] 215)).iter m.text 0=w3 at BA X AB Y L Z⊢
 go_loopg [] m.text.size (λgk wr=>∃(pos:Nat) (v:Int),gk=m.text.size-pos/\pos<=m.text.size+4/\Hid (CE m.text pos v=CE m.text 0 0)/\Hid (wr.heap[N4+1+1]?=some (.stringIter m.text pos))/\Hid (BY wr b (.slice (some ⟨g,0,none⟩) d.length x) d c A)/\Hid (Aw wr f [.int .i32 0, .string ⟨#[]⟩] 215)/\Hid (Aw wr (N4+1) [.int .i32 v, .string ⟨#[]⟩] 215)/\Ac [b] w wr/\N4+1+1<wr.heap.size)
 case atStart=>exact⟨0,0,by simp,by omega,rfl,L,X,AB,Y,BA,Z⟩
 case round=>
  clear L X AB Y BA Z;obtain⟨pos,v,HP,LC,Q,M,n,B,T,hK,V⟩:=hrel;have HG:=Ab HP;clear HP;by_cases z:pos<m.text.size
  ·obtain⟨E,a,D⟩:∃E a,Utf8.decode m.text pos=(E,a):=⟨_,_,rfl⟩;(have Mo:a<=4:=by have:=R9 m.text pos;rw[D]at this;exact this);(have LL:1<=a:=by have:=G4 m.text pos z;rw[D]at this;exact this);have Go:∀u,(Instr.next (.pointer (some ⟨N4+1+1,0,none⟩)) true u).run prog wr= .ok (.tuple #[.bool true, .int .i64 pos, .int .i32 E]) (CO wr (N4+1+1) m.text (pos+a)):=by
    intro u;have h:=SA (P:=prog) (Aa M) u z;rw[D]at h;exact h
   have HA:=Ab (NI (w:=wr) (N:=N4+1+1) (s:=m.text) (pos:=pos+a) V);have AT:=(Aa B).kept (C9 wr (N4+1+1) m.text (pos+a)) (by simp;omega);have G:=(Aa T).kept (C9 wr (N4+1+1) m.text (pos+a)) (by simp);(have H:(Value.slice (some ⟨g,0,none⟩) d.length x).ownBlock≠some (N4+1+1):=by simp[Value.ownBlock];omega);have Bx:BY (CO wr (N4+1+1) m.text (pos+a)) b (.slice (some ⟨g,0,none⟩) d.length x) d c A:=
    ⟨(Aa n).blk.kept (C9 wr (N4+1+1) m.text (pos+a)) (by simp;omega),Ar (Aa n).row (C9 wr (N4+1+1) m.text (pos+a)) (λi hi F=>by simp at F;subst F;exact H hi),(Aa n).ap,(Aa n).lt,(Aa n).len⟩
   have C:Ac [b] w (CO wr (N4+1+1) m.text (pos+a)):=hK.trans' (C9 wr (N4+1+1) m.text (pos+a)) (by intro i hi;right;simp at hi;omega);(have HE:N4+1+1<(CO wr (N4+1+1) m.text (pos+a)).heap.size:=by rw[Ho];exact V);have KS:Hid (CE m.text (pos+a) E=CE m.text 0 0):=by
    have h:=Q.out;rw[Jw v z,D]at h;exact h
   clear D M n B T Q hK V;generalize CO wr (N4+1+1) m.text (pos+a)=w4 at Go HA AT G Bx C HE;have v0:=G.cell 0;have vf:=G.frozen 0;simp at v0;have p:=Ab AT;have H5:=Ab G;have H8:=Ab Bx;clear AT G Bx;go_wp2_with fail
   go_roundg (m.text.size-(pos+a))
   case measure=>have:=Aa HG;omega
   case rel=>
    refine⟨pos+a,E,rfl,by omega,KS,?_,?_,(Aa p).set_other _ (by simp;omega) _,(Aa H5).set 0 _,C.setCell (by right;simp;omega) _,by simpa using HE⟩
    ·show _=_;rw[Below.heap_setCell _ _ _ _ (by simp)];exact Aa HA
    ·have j:=Aa H8;(have K8:(Value.slice (some ⟨g,0,none⟩) d.length x).ownBlock≠some (N4+1):=by simp[Value.ownBlock];omega);exact⟨j.blk.set_other _ (by simp;omega) _,Ag j.row K8 _,j.ap,j.lt,j.len⟩
  ·(have Go:∀u,(Instr.next (.pointer (some ⟨N4+1+1,0,none⟩)) true u).run prog wr= .ok (.tuple #[.bool false]) wr:=λu=>Sp (P:=prog) (Aa M) u z);(have HV:Hid (v=CE m.text 0 0):=by have h:=Q.out;rwa [Qi v z]at h);have O:=(Aa n).blk.cell 1;have zf:=(Aa n).blk.frozen 1;have R:=(Aa B).cell 0;have K:=(Aa B).cell 1;have yf:=(Aa B).frozen;have J:=(Aa T).cell 0;have S:=(Aa T).cell 1;simp at O R K J S;(have q1:¬b=f:=by omega);(have q2:¬f=b:=by omega);(have q3:¬b=N4+1:=by omega);(have q4:¬N4+1=b:=by omega);(have q5:¬f=N4+1:=by omega);(have q6:¬N4+1=f:=by omega);clear Q M;go_wp2;have hR:=Aa n;have k1:Ac [b] wr (wr.setCell ⟨b,1,none⟩ (.int .i64 ((c:Int)+1))):=(Ac.refl [b] wr).setCell (by simp) _;have j:=hR.kept (nx':=c+1) (br':=A) k1 (hR.blk.set 1 _) (Aa HN);(have H:(Value.slice (some ⟨g,0,none⟩) d.length x).ownBlock≠some f:=by simp[Value.ownBlock];omega);refine aE (AF rfl rfl ((((Aa B).set_other ⟨b,1,none⟩ (by simp;omega) _).set 0 _).set 1 _) underlying215 rfl (by kernel_rfl)) rfl ⟨?_,?_,?_⟩
   ·rw[<-HV.out];rfl
   ·exact⟨(j.blk.set_other _ (by simp;omega) _).set_other _ (by simp;omega) _,Ag (Ag j.row H _) H _,j.ap,j.lt,j.len⟩
   ·exact((hK.trans k1).setCell (by right;simp;omega) _).setCell (by right;simp;omega) _
