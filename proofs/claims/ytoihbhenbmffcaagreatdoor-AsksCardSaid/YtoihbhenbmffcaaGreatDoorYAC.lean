import Derived.Deep.RegionHeld3
import Derived.Test.YtoihbhenbmffcaaGreatDoorYAA
set_option linter.all false
set_option maxHeartbeats 0
namespace Go.Proofs.YtoihbhenbmffcaaGreatDoor
open Go.RowKit Go.Proofs.Tryz
def CM(w:World)(N:Nat)(s:cR)(pos:Nat):World:={w with heap:=w.heap.setIfInBounds N (.stringIter s pos)}
theorem Oy{w:World}{N:Nat}{s:cR}{pos:Nat}(h:N<w.heap.size):(CM w N s pos).heap[N]?=some (.stringIter s pos):=by
 simp[CM,h]
theorem Pw{w:World}{N k:Nat}{s:cR}{pos:Nat}(h:k≠N):(CM w N s pos).heap[k]?=w.heap[k]?:=by
 have a:¬N=k:=λe=>h e.symm
 simp[CM,Array.getElem?_setIfInBounds,a]
theorem Il(w:World)(N:Nat)(s:cR)(pos:Nat):(CM w N s pos).heap.size=w.heap.size:=by simp[CM]
theorem Dm(w:World)(N:Nat)(s:cR)(pos:Nat):Ac [N] w (CM w N s pos):=
 ⟨rfl,rfl,rfl,by rw[Il];exact bZ _,λk _ a=>Pw (by simpa using a)⟩
theorem Tx{P:Program}{w:World}{N:Nat}{s:cR}{pos:Nat}(a:w.heap[N]?=some (.stringIter s pos))(b:TypeId)(h:pos<s.size):
  (Instr.next (.pointer (some ⟨N,0,none⟩)) true b).run P w=.ok (.tuple #[.bool true,.int .i64 pos,.int .i32 (Utf8.decode s pos).1]) (CM w N s (pos+(Utf8.decode s pos).2)):=by
 simp only[Instr.next,getObj,setObj,fx,Sem.run,a,Result.andThen,h,if_true];simp[goInt,CM]
theorem Tk{P:Program}{w:World}{N:Nat}{s:cR}{pos:Nat}(a:w.heap[N]?=some (.stringIter s pos))(b:TypeId)(h:¬pos<s.size):
  (Instr.next (.pointer (some ⟨N,0,none⟩)) true b).run P w=.ok (.tuple #[.bool false]) w:=by
 simp[Instr.next,getObj,Sem.run,a,h]
theorem Hn(s:cR)(pos:Nat)(h:pos<s.size):1<=(Utf8.decode s pos).2:=by
 by_cases a:(s[pos]'h).toNat<128
 .rw[ec s pos h a];exact bZ _
 .exact(fX s pos h (by omega)).2
theorem S3(s:cR)(pos:Nat):(Utf8.decode s pos).2<=4:=by
 unfold Utf8.decode;simp only
 repeat' split
 all_goals simp
theorem ZI(r:Int):0<(Utf8.encode r).size:=by
 unfold Utf8.encode;simp only;generalize(if Utf8.valid r=true then r.toNat else Utf8.runeError)=c
 repeat' split
 all_goals simp[ByteArray.size]
def Ef(s:cR)(pos:Nat)(ms:List AW):List AW:=
 if h:pos<s.size/\1<=(Utf8.decode s pos).2 then have _h1:pos<s.size:=h.1;have _h2:=h.2;Ef s (pos+(Utf8.decode s pos).2) (Kk ms pos (Utf8.decode s pos).1)else ms
theorem E1{s:cR}{pos:Nat}(ms:List AW)(h:pos<s.size):Ef s pos ms=Ef s (pos+(Utf8.decode s pos).2) (Kk ms pos (Utf8.decode s pos).1):=by
 conv=>lhs;rw[Ef]
 rw[dif_pos ⟨h,Hn s pos h⟩]
theorem MQ{s:cR}{pos:Nat}(ms:List AW)(h:¬pos<s.size):Ef s pos ms=ms:=by
 rw[Ef,dif_neg (by omega)]
def Hl(m:AW):AW:=if Ib m then m else{m with kind:=0}
def Ea(s:cR):AW:=⟨1,s.size,ByteArray.empty⟩
def De(s:cR):List AW:=(Ef s 0 []).map Hl++[Ea s]
structure JZ(s:cR)(pos:Nat)(ms:List AW):Prop where
 len:ms.length<=pos
 each:∀m∈ms,m.place<pos/\0<m.text.size/\m.text.size<=4*pos
theorem JZ.lay{s:cR}{pos d:Nat}{ms:List AW}{r:Int}(h:JZ s pos ms)(g:pos<d):JZ s d (Kk ms pos r):=by
 have k:=Vi r;have l:=ZI r;have c:∀m∈ms,m.place<d/\0<m.text.size/\m.text.size<=4*d:=λm b=>by have:=h.each m b;omega
 have j:=h.len;unfold Kk;split
 .exact⟨by omega,c⟩
 .split
  .rename_i m b;have f:=List.mem_of_getLast? b;have i:=h.each m f;split
   .refine⟨?_,λx a=>?_⟩
    ·(have:ms≠[]:=by intro e;rw[e]at b;simp at b);have:0<ms.length:=List.length_pos_iff.2 this;simp;omega
    .rcases bY.1 a with a|a
     .exact c x (List.dropLast_subset ms a)
     .simp only[bO]at a;subst a;simp only[cH];omega
   .refine⟨by simp;omega,λx a=>?_⟩;rcases bY.1 a with a|a
    .exact c x a
    .simp only[bO]at a;subst a;simp only[B1];omega
  .refine⟨by simp;omega,λx a=>?_⟩;rcases bY.1 a with a|a
   .exact c x a
   .simp only[bO]at a;subst a;simp only[B1];omega
def Ft(T:List AW)(k:Nat):List AW:=(T.take k).map Hl++T.drop k
theorem Hm(T:List AW)(k:Nat)(a:k<=T.length):(Ft T k).length=T.length:=by simp[Ft];omega
theorem MA{T:List AW}{k:Nat}(a:k<T.length):Ft T k=(T.take k).map Hl++T[k]::T.drop (k+1):=by
 unfold Ft;rw[ci a]
theorem Ue{T:List AW}{k:Nat}(a:k<T.length):Ft T (k+1)=(T.take k).map Hl++Hl T[k]::T.drop (k+1):=by
 unfold Ft;rw[bM a,cW,dd];rfl
theorem Wr(pre b:List AW)(m:AW)(n:Nat)(d:pre.length=n):((pre++m::b).flatMap Bb).set (n*3) (.int .i64 0)=(pre++{m with kind:=0}::b).flatMap Bb:=by
 subst d;have c:(pre.flatMap Bb).length=pre.length*3:=by
  induction pre with
  |nil=>rfl
  |cons a l ih=>rw[cg,cc,ih,FN,bU];omega
 simp only[cw,cg];rw[fQ _ _ (by omega),c];simp[Bb]
set_option maxRecDepth 100000
theorem Vz(s:cR)(w:World)(hs:s.size<=300):
  Calls prog 114 #[.string s] w λe w'=>∃v,e=.returned v/\w'.ownsRow (w.heap.size+1) 206 3 v (De s).length ((De s).flatMap Bb)/\Ac [] w w':=by
 obtain⟨i0,HP,FW,HU,HI⟩:=cU Tryz.zA;have H6:∀(x:Bool) (w:World),(Op.unary .not (.bool x)).run prog w=.ok (.bool (!x)) w:=λ_ _=>rfl
 go_enter func114,ntmps114;go_wp2;obtain⟨T,hT⟩:∃T,Ef s 0 []=T:=⟨_,rfl⟩;have HT:=Ab hT;clear hT
 go_loopg [3] s.size (λgk o wr=>∃(pos:Nat) (b:List AW),gk=s.size-pos/\pos<=s.size+4/\Hid (Ef s pos b=T/\JZ s pos b)/\wr.heap[w.heap.size]?=some (.stringIter s pos)/\wr.ownsRow (w.heap.size+1) 206 3 o b.length (b.flatMap Bb)/\Ac [] w wr/\w.heap.size+1<=wr.heap.size)
 case atStart=>
  exact⟨0,[],by simp,by omega,⟨Aa HT,⟨by simp,by simp⟩⟩,World.iter_heap w s 0,ck _ _ _ _,(Ac.refl _ _).alloc _,by simp[World.iter]⟩
 case round=>
  obtain⟨pos,b,ES,HZ,p,AT,d,j,r⟩:=hrel;have HG:=Ab ES;have O:=Ab AT;clear ES AT;obtain⟨U,V,rfl⟩:=Aj d;by_cases F:pos<s.size
  .obtain⟨u,a,E⟩:∃u a,Utf8.decode s pos=(u,a):=⟨_,_,rfl⟩;(have H7:a<=4:=by have:=S3 s pos;rw[E]at this;exact this);(have H5:1<=a:=by have:=Hn s pos F;rw[E]at this;exact this);have R:∀z,(Instr.next (.pointer (some ⟨w.heap.size,0,none⟩)) true z).run prog wr=.ok (.tuple #[.bool true,.int .i64 pos,.int .i32 u]) (CM wr w.heap.size s (pos+a)):=by
    intro z;have h:=Tx (P:=prog) (Aa O) z F;rw[E]at h;exact h
   have B:=Ad d (Dm wr w.heap.size s (pos+a)) (by simp);have Z:=Ab (Oy (w:=wr) (N:=w.heap.size) (s:=s) (pos:=pos+a) (by omega));(have S:w.heap.size+1<=(CM wr w.heap.size s (pos+a)).heap.size:=by rw[Il];exact r);have A:Ac [] w (CM wr w.heap.size s (pos+a)):=j.trans' (Dm wr w.heap.size s (pos+a)) (by simp);have HL:Hid (Ef s (pos+a) (Kk b pos u)=T/\JZ s (pos+a) (Kk b pos u)):=by
    refine⟨?_,p.out.2.lay (by omega)⟩;have h:=p.out.1;rw[E1 b F,E]at h;exact h
   (have HE:b.length<=1000000:=by have:=p.out.2.len;omega);(have FA:Hid (∀m∈b,m.place<=1000000/\m.text.size<=1000000):=λm f=>by have:=p.out.2.each m f;omega);clear E d j O;generalize CM wr w.heap.size s (pos+a)=w2 at R B Z S A;(go_wp2_with fail);clear R;refine(ZJ _ b pos u (w.heap.size+1) _ S B HE (by omega) (Aa FA)).mono ?_;rintro e K ⟨v3,rfl,Go,n⟩;have FF:=Ab ((n.block w.heap.size (by omega)).trans (Aa Z));have HF:Ac [] w K:=⟨n.os.trans A.os,n.tape.trans A.tape,n.output.trans A.output,da A.size n.size,λk y _=>(n.block k (by omega)).trans (A.block k y (by simp))⟩;have HH:w.heap.size+1<=K.heap.size:=da S n.size;clear n A Z B S;go_wp2_with fail
   go_roundg (s.size-(pos+a))
   case measure=>have:=Aa HG;omega
   case rel=>exact⟨pos+a,Kk b pos u,rfl,by omega,HL,Aa FF,Go,HF,HH⟩
  ·(have R:∀z,(Instr.next (.pointer (some ⟨w.heap.size,0,none⟩)) true z).run prog wr=.ok (.tuple #[.bool false]) wr:=λz=>Tk (P:=prog) (Aa O) z F);have J:Hid (b=T/\JZ s pos b):=⟨by have h:=p.out.1;rwa [MQ b F]at h,p.out.2⟩;clear O p;have I:=J.out.1;(have HB:Hid (∀m∈T,m.text.size<=1000000/\0<m.text.size):=λm f=>by have:=J.out.2.each m (by rw[I];exact f);omega);(have HY:T.length<=400:=by have:=J.out.2.len;rw[I]at this;omega);rw[I]at d⊢;clear J I;(have HC:Hid (De s=T.map Hl++[Ea s]):=by show _=_;unfold De;rw[Aa HT]);clear HT HG;go_wp2;clear R
   go_loopw [19] (λi Y=>∃k:Nat,i=.int .i64 k/\k<=T.length/\Y.ownsRow (w.heap.size+1) 206 3 (.slice U T.length V) T.length ((Ft T k).flatMap Bb)/\Ac [] w Y/\w.heap.size+1<=Y.heap.size) (λi _=>T.length-(intOf i).toNat)
   case atStart=>exact⟨0,rfl,b8 _,by simpa[Ft] using d,j,r⟩
   case round=>
    clear d j r;obtain⟨k,rfl,y,d,j,r⟩:=hrel;by_cases l:k<T.length
    ·(have EY:wr.ownsRow (w.heap.size+1) 206 3 (.slice U T.length V) (Ft T k).length ((Ft T k).flatMap Bb):=by rw[Hm T k y];exact d);obtain⟨g,H2,he,hc,L⟩:=Av EY (λc _=>FN c) k (by rw[Hm T k y];exact l);simp only[bK]at he;obtain⟨rfl,HD,rfl⟩:=he;clear HD;obtain⟨m,f⟩:∃m,T[k]=m:=⟨_,rfl⟩;have AO:∀h,(Ft T k)[k]'h=m:=by
      intro h;have e:(Ft T k)[k]?=some m:=by
       (have hl:((T.take k).map Hl).length=k:=by simp;omega);rw[MA l,fm (by omega),hl,Nat.sub_self,f];rfl
      rw[bW h]at e;exact fY e
     have G:=L k (by rw[Hm T k y];exact l) 0 (by omega);have M:=L k (by rw[Hm T k y];exact l) 1 (by omega);have H:=L k (by rw[Hm T k y];exact l) 2 (by omega);rw[AO]at G M H;simp[Bb]at G M H;have EX:=HB.out m (by rw[<-f];exact bL l);have W:=So m wr EX.1 (λ_=>EX.2);simp only[Bb]at W;have X:=Ab W;have D:Hid (Ft T k=(T.take k).map Hl++m::T.drop (k+1)/\Ft T (k+1)=(T.take k).map Hl++Hl m::T.drop (k+1)):=⟨by rw[MA l,f],by rw[Ue l,f]⟩;clear L AO EY W f hc;(go_wp2_with fail);refine(Aa X).mono ?_;rintro e w1 ⟨rfl,C⟩;have Q:=Ad d C (by simp);have AH:=j.trans C;have BT:w.heap.size+1<=w1.heap.size:=da r C.size;cases hwh:Ib m with
     |true=>
      (have HN:Hid (Ft T (k+1)=Ft T k):=by show _=_;rw[D.out.1,D.out.2];simp[Hl,hwh]);clear D X C G M H d j r;go_wp2
      go_roundw
      case rel=>exact⟨k+1,by go_num,by omega,by rw[HN.out];exact Q,AH,BT⟩
      case measure=>simp[intOf];omega
     |false=>
      have FO:=Q.lt g rfl;have H1:w1.cell? ⟨g,k*3,none⟩=some (.int .i64 m.kind):=by
       rw[World.cell?_of_block (w:=wr) (C.block g (d.lt g rfl).2 (by simp))];exact G
      have H8:=Gr Q (k*3);have HN:Hid (((Ft T k).flatMap Bb).set (k*3) (.int .i64 0)=(Ft T (k+1)).flatMap Bb):=by
       show _=_;rw[D.out.1,D.out.2,Wr _ _ _ k (by simp;omega)];simp[Hl,hwh]
      clear D X C G M H d j r;go_wp2
      go_roundw
      case rel=>
       refine⟨k+1,by go_num,by omega,?_,AH.setCell (Or.inr (by have:=FO.1;simp;omega)) _,by simpa using BT⟩;rw[<-HN.out];exact Ds Q (k*3) _
      case measure=>simp[intOf];omega
    ·(have Ha:k=T.length:=by omega);have B:wr.ownsRow (w.heap.size+1) 206 3 (.slice U T.length V) T.length ((T.map Hl).flatMap Bb):=by
      (have e:Ft T k=T.map Hl:=by unfold Ft;rw[bP (by omega),cG (by omega),cK]);rw[e]at d;exact d
     clear Ha d;go_wp2_with (at_builtin;refine cd _ rfl (.tmp 33) (.tmp 37) _ rfl (w.heap.size+1) 206 i0 _ 3 32 underlying200 HP FW HU HI rfl (by omega) (.slice U T.length V) T.length ((T.map Hl).flatMap Bb) rfl (bQ B _) ⟨wr.heap.size,0,none⟩ 1 1 (Bb (Ea s)) rfl rfl (cj (cs:=(Bb (Ea s)).toArray) (t:=206) (fr:=(0,0)) (cA wr _)) (by simp[Value.oneCell',Bb]) (by omega) (by unfold maxLen;omega) (by omega) (by simp;omega) (wr.heap.size+1) (by simp) ?_;intro g1 H3 K HJ BA FC FL)
     have HX:Ac [] w K:=(j.alloc _).grown BA (λq hq=>Or.inr (by have:=(B.lt q hq).1;omega));clear BA FC FL;go_wp2;go_ret;rw[HC.out];refine⟨_,rfl,?_,HX⟩;simpa using HJ
structure BU(w:World)(b:Nat)(mv:Value)(ms:List AW)(nx:Nat)(br:Int):Prop where
 gA:AE w b [mv,.int .i64 nx,.int .i64 br] 203
 row:w.ownsRow 0 206 3 mv ms.length (ms.flatMap Bb)
 ap:mv.ownBlock≠some b
 lt:nx<ms.length
 len:ms.length<=1000
theorem BU.kept{w w':World}{b:Nat}{a:Value}{ms:List AW}{j nx':Nat}{d br':Int}(h:BU w b a ms j d)(k:Ac [b] w w')(f:AE w' b [a,.int .i64 nx',.int .i64 br'] 203)(e:nx'<ms.length):BU w' b a ms nx' br':=
 ⟨f,Al h.row k (λi g c=>by simp at c;subst c;exact h.ap g),h.ap,e,h.len⟩
theorem BU.eb{w w':World}{b:Nat}{a:Value}{ms:List AW}{c:Nat}{d:Int}(h:BU w b a ms c d)(k:Ac [] w w'):BU w' b a ms c d:=
 ⟨h.gA.kept k (by simp),Ad h.row k (by simp),h.ap,h.lt,h.len⟩
theorem BU.cells{w:World}{b:Nat}{d:Value}{ms:List AW}{i:Nat}{l:Int}(h:BU w b d ms i l):∃g e,d=.slice (some ⟨g,0,none⟩) ms.length e/\w.cell? ⟨b,0,none⟩=some d/\w.cell? ⟨b,1,none⟩=some (.int .i64 i)/\w.cell? ⟨b,2,none⟩=some (.int .i64 l)/\
  ∀j (a:j<ms.length),w.cell? ⟨g,j*3,none⟩=some (.int .i64 ms[j].kind)/\w.cell? ⟨g,j*3+1,none⟩=some (.int .i64 ms[j].place)/\w.cell? ⟨g,j*3+2,none⟩=some (.string ms[j].text):=by
 obtain⟨g,e,o,_,f⟩:=Av h.row (λc _=>FN c) i h.lt;refine⟨g,e,o,h.gA.cell 0,h.gA.cell 1,h.gA.cell 2,λj a=>?_⟩;have m:=f j a 0 (by omega);have n:=f j a 1 (by omega);have k:=f j a 2 (by omega);simp[Bb]at m n k;exact⟨m,n,k⟩
set_option maxRecDepth 512
theorem Hz(b:Nat)(i:Value)(ms:List AW)(a:Nat)(j:Int)(w:World)(h:BU w b i ms a j)(m:AW)(c:ms[a]'h.lt=m):
  Calls prog 161 #[.pointer (some ⟨b,0,none⟩)] w λe k=>e=.returned (.int .i64 m.place)/\Ac [] w k:=by
 obtain⟨g,r,rfl,q,p,_,d⟩:=h.cells;obtain⟨l,n,f⟩:=d a h.lt;rw[c]at n;have o:(a:Int)<(ms.length:Int):=by have:=h.lt;omega
 clear l f d c h;go_enter func161,ntmps161;go_wp2
 go_quiet (fail)
 go_wp2;go_ret;exact⟨rfl,(Ac.refl _ _).drewN _⟩
theorem EF(b:Nat)(a:Value)(ms:List AW)(d:Nat)(g p:Int)(w:World)(h:BU w b a ms d g):
  Calls prog 160 #[.pointer (some ⟨b,0,none⟩),.int .i64 p] w λe i=>e=.returned (.bool false)/\BU i b a ms d p/\Ac [b] w i:=by
 have j:=h.gA.cell 2;have l:=h.gA.frozen 2;simp at j;have k:=h;have c:Hid (BU w b a ms d g):=h;clear h k;go_enter func160,ntmps160;go_wp2;go_ret;have f:Ac [b] w (w.setCell ⟨b,2,none⟩ (.int .i64 p)):=(Ac.refl _ _).setCell (by simp) _;exact⟨rfl,c.out.kept f (c.out.gA.set 2 _) c.out.lt,f⟩
def BF(m:AW)(t:cR):Bool:=m.kind==5&&(m.text.toList==t.toList)
set_option maxRecDepth 100000
theorem QG(b:Nat)(r:Value)(ms:List AW)(a:Nat)(o:Int)(t:cR)(w:World)(h:BU w b r ms a o)(m:AW)(j:ms[a]'h.lt=m):
  Calls prog 159 #[.pointer (some ⟨b,0,none⟩),.string t] w λe c=>e=.returned (.bool (BF m t))/\Ac [] w c:=by
 obtain⟨g,q,rfl,p,n,_,l⟩:=h.cells;obtain⟨k,f,i⟩:=l a h.lt;rw[j]at k f i;have s:(a:Int)<(ms.length:Int):=by have:=h.lt;omega
 have x:(0:Int)<=(a:Int):=by omega
 clear l j h;have y:=World.new_ne w _ p;have z:=World.new_ne w _ n;have A:=World.new_ne w _ k;have u:=World.new_ne w _ f;have v:=World.new_ne w _ i;go_enter func159,ntmps159;go_wp2_with fail
 go_region_held3 (λc=>c.cell? ⟨b,0,none⟩=some (.slice (some ⟨g,0,none⟩) ms.length q)/\c.cell? ⟨b,1,none⟩=some (.int .i64 a)/\c.cell? ⟨g,a*3,none⟩=some (.int .i64 m.kind)/\c.cell? ⟨g,a*3+1,none⟩=some (.int .i64 m.place)/\c.cell? ⟨g,a*3+2,none⟩=some (.string m.text)) (go_keep) (fail)
 cases hk:(m.kind==5)with
 |true=>
  have d:Hid (BF m t=(m.text.toList==t.toList)):=by show _=_;simp[BF,hk]
  go_wp2;all_goals
   go_ret;refine⟨Bc ?_,?_⟩
   .rw[d.out]
   .repeat (first|refine Ac.drew ?_|refine Ac.setCell ?_ (by simp) _|refine Ac.alloc ?_ _|refine Ac.drewN ?_ _)
    exact Ac.refl _ _
 |false=>
  have d:Hid (BF m t=false):=by show _=_;simp[BF,hk]
  go_wp2;all_goals
   go_ret;refine⟨Bc ?_,?_⟩
   .rw[d.out]
   .repeat (first|refine Ac.drew ?_|refine Ac.setCell ?_ (by simp) _|refine Ac.alloc ?_ _|refine Ac.drewN ?_ _)
    exact Ac.refl _ _
set_option maxRecDepth 512
theorem F6(b:Nat)(n:Value)(ms:List AW)(c:Nat)(k:Int)(t:cR)(w:World)(h:BU w b n ms c k)(m:AW)(r:ms[c]'h.lt=m)(o:BF m t=true->c+1<ms.length):
  Calls prog 162 #[.pointer (some ⟨b,0,none⟩),.string t] w λe p=>e=.returned (.bool (BF m t))/\BU p b n ms (if BF m t then c+1 else c) k/\Ac [b] w p:=by
 have d:=Ab (QG b n ms c k t w h m r);have i:=Ab h;have A:=h.len;have v:=h.lt;clear r h;have z:∀(x:Bool) (w:World),(Op.unary .not (.bool x)).run prog w=.ok (.bool (!x)) w:=λ_ _=>rfl
 cases hs:BF m t with
 |true=>
  have s:=Ab (o hs);rw[hs]at d;clear hs o;simp only[if_true];go_enter func162,ntmps162;go_wp2_with fail
  refine(Aa d).mono ?_;rintro e j ⟨rfl,a⟩;have f:=(Aa i).eb a;have g:=Ab f;have u:=f.gA.cell 1;have y:=f.gA.frozen 1;simp at u;have l:=a.mono (N:=[b]) (by simp);clear f a d i;go_wp2;go_ret;have q:Ac [b] j (j.setCell ⟨b,1,none⟩ (.int .i64 ((c:Int)+1))):=(Ac.refl _ _).setCell (by simp) _;exact⟨rfl,(Aa g).kept q ((Aa g).gA.set 1 _) (Aa s),l.trans q⟩
 |false=>
  rw[hs]at d;clear hs o;simp only[bN,if_false];go_enter func162,ntmps162;go_wp2_with fail
  refine(Aa d).mono ?_;rintro e j ⟨rfl,a⟩;have g:=Ab ((Aa i).eb a);have l:=a.mono (N:=[b]) (by simp);clear a d i;go_wp2;go_ret;exact⟨rfl,Aa g,l⟩
theorem LN(b:Nat)(f:Value)(ms:List AW)(a:Nat)(d:Int)(t:cR)(w:World)(h:BU w b f ms a d)(m:AW)(i:ms[a]'h.lt=m)(q:BF m t=true->a+1<ms.length):
  Calls prog 163 #[.pointer (some ⟨b,0,none⟩),.string t] w λe l=>e=.returned (.bool (BF m t))/\BU l b f ms (if BF m t then a+1 else a) (if BF m t then d else m.place)/\Ac [b] w l:=by
 have g:=Ab (F6 b f ms a d t w h m i q);have u:Hid (∀h:a<ms.length,ms[a]=m):=λ_=>i
 clear i q h;cases hs:BF m t with
 |true=>
  rw[hs]at g;have y:=Ab hs;clear hs;go_enter func163,ntmps163;go_wp2_with fail
  refine(Aa g).mono ?_;rintro e r ⟨rfl,c,k⟩;have j:=Ab c;clear c;go_wp2;go_ret;exact⟨rfl,Aa j,k⟩
 |false=>
  rw[hs]at g;clear hs;go_enter func163,ntmps163;go_wp2_with fail
  refine(Aa g).mono ?_;rintro e r ⟨rfl,c,k⟩;simp only[bN,if_false]at c⊢;go_wp2_with fail
  refine(Hz b f ms a d _ c m ((Aa u) _)).mono ?_;rintro e z ⟨rfl,o⟩;have n:=c.eb o;go_wp2_with fail
  refine(EF b f ms a d m.place _ n).mono ?_;rintro e x ⟨rfl,p,s⟩;have j:=Ab p;have v:=(k.trans (o.mono (by simp))).trans s;clear c n p;go_wp2;go_ret;exact⟨rfl,Aa j,v⟩
def Hc(s:cR):Bool:=Op.bytesLess s.toList [97]
theorem Lb(s:cR)(w:World):Calls prog 144 #[.string s] w λe a=>e=.returned (.bool (Hc s))/\a=w:=by
 go_enter func144,ntmps144;go_wp2;all_goals go_ret
 all_goals exact⟨rfl,rfl⟩
def N9:cR:=⟨#[48]⟩
def JR:Nat->cR->cR
 |0,s=>s
 |k+1,s=>if s.size<3 then JR k (N9++s)else s
def Aw(s:cR):cR:=if Hc s then JR 3 s else s
set_option maxRecDepth 100000
theorem R6(s:cR)(w:World):Calls prog 217 #[.string s] w λe b=>e=.returned (.string (Aw s))/\b=w:=by
 have f:=Lb s w;by_cases d:Hc s=true
 .rw[d]at f;have c:Aw s=JR 3 s:=by unfold Aw;simp[d]
  rw[c];generalize hTe:JR 3 s=T;have j:=Ab hTe;clear hTe c d;go_enter func217,ntmps217;go_wp2_with (go_at_call 144;refine f.mono ?_;rintro e b ⟨rfl,rfl⟩)
  rename_i b _ _
  go_loopg [0] 3 (λgk o wr=>∃(t:cR),o=.string t/\Hid (JR gk t=T)/\3<=t.size+gk/\wr=b)
  case atStart=>exact⟨s,rfl,j,by omega,rfl⟩
  case round=>
   obtain⟨t,rfl,g,m,rfl⟩:=hrel;by_cases i:t.size<3
   ·(have l:(t.size:Int)<3:=by omega);go_wp2;(have n:(N9++t).size=t.size+1:=by rw[cH];show 1+t.size=_;omega);obtain⟨k,rfl⟩:∃k,gk=k+1:=⟨gk-1,by omega⟩;have a:=Aa g;rw[JR,if_pos i]at a
    go_roundg k
    case measure=>omega
    case rel=>exact⟨N9++t,rfl,a,by omega,rfl⟩
   ·(have l:¬(t.size:Int)<3:=by omega);have c:Hid (t=T):=by
     show t=T;have a:=Aa g;cases gk with
     |zero=>exact a
     |succ k=>rw[JR,if_neg i]at a;exact a
    go_wp2;go_ret;exact⟨by rw[<-Aa c];rfl,rfl⟩
 .have h:Hc s=false:=by simpa using d
  rw[h]at f;go_enter func217,ntmps217;go_wp2_with (go_at_call 144;refine f.mono ?_;rintro e b ⟨rfl,rfl⟩)
  all_goals go_ret
  all_goals refine⟨?_,rfl⟩
  all_goals simp[Aw,h]
def YO:List UInt8->Bool
 |[]=>false
 |[c]=>decide (48<=c.toNat/\c.toNat<=57)
 |[c,_]=>decide (49<=c.toNat/\c.toNat<=57)
 |[c,_,_]=>decide (49<=c.toNat/\c.toNat<=57)
 |_=>false
def F9(s:cR):cR:=if s.size=0 then s else if Hc s then(if YO s.toList then JR 3 s else⟨#[0]⟩++s)else s
def G8:List UInt8->List UInt8
 |[]=>[]
 |c::r=>if c.toNat<97 then(if YO (c::r)then List.replicate (3-(c::r).length) 48++(c::r)else 0::c::r)else c::r
theorem KL(a b:cR):(a++b).toList=a.toList++b.toList:=by
 rw[cT,cT,cT,fR,Array.toList_append]
theorem B8(a:cR):a.size=a.toList.length:=by
 rw[cT];rfl
theorem toList_inj{a b:cR}(h:a.toList=b.toList):a=b:=by
 rw[cT,cT]at h;exact ByteArray.ext (Array.toList_inj.1 h)
theorem NQ:N9.toList=[48]:=by rw[cT];rfl
theorem Km:∀(k:Nat) (s:cR),s.size<=3->3<=s.size+k->(JR k s).toList=List.replicate (3-s.size) 48++s.toList
 |0,s,h,hk=>by
  rw[show 3-s.size=0 by omega];rfl
 |k+1,s,h,hk=>by
  rw[JR];split
  .rename_i b;(have a:(N9++s).size=s.size+1:=by rw[B8,KL,NQ,B8];simp);rw[Km k (N9++s) (by omega) (by omega),a,KL,NQ,show 3-s.size=(3-(s.size+1))+1 by omega,List.replicate_succ'];simp
  .rw[show 3-s.size=0 by omega];rfl
theorem En(c:UInt8)(r:List UInt8):Op.bytesLess (c::r) [97]=decide (c.toNat<97):=by
 have e:Op.bytesLess r []=false:=by cases r<;>rfl
 simp only[Op.bytesLess,e];by_cases h:c.toNat<97
 .have:c<97:=h;simp[h,this]
 .have:¬c<97:=h;simp[h,this]
theorem Mz(s:cR):(F9 s).toList=G8 s.toList:=by
 unfold F9 Hc;cases hs:s.toList with
 |nil=>
  have:s.size=0:=by rw[B8,hs];rfl
  rw[if_pos this,hs];rfl
 |cons c r=>
  have a:s.size=(c::r).length:=by rw[B8,hs]
  rw[if_neg (by rw[a];simp),En];unfold G8;by_cases h:c.toNat<97
  .simp only[h,decide_true,if_true];cases ho:YO (c::r)with
   |true=>
    simp only[if_true];have b:(c::r).length<=3:=by
     match r,ho with
     |[],_=>simp
     |[_],_=>simp
     |[_,_],_=>simp
     |_::_::_::_,ho=>simp[YO]at ho
    rw[Km 3 s (by omega) (by omega),hs,a]
   |false=>
    simp only[bN,if_false];rw[KL,hs];rw[show(⟨#[0]⟩:cR).toList=[0] from by rw[cT]]
    rfl
  .simp only[h,fP,bN,if_false];exact hs
theorem Er{l:List UInt8}(h:YO l=true):(∃c:UInt8,l=[c]/\48<=c.toNat/\c.toNat<=57)\/(∃c d:UInt8,l=[c,d]/\49<=c.toNat/\c.toNat<=57)\/(∃c d e:UInt8,l=[c,d,e]/\49<=c.toNat/\c.toNat<=57):=by
 match l,h with
 |[],h=>simp[YO]at h
 |[c],h=>exact Or.inl ⟨c,rfl,by simpa[YO] using h⟩
 |[c,d],h=>exact Or.inr (Or.inl ⟨c,d,rfl,by simpa[YO] using h⟩)
 |[c,d,e],h=>exact Or.inr (Or.inr ⟨c,d,e,rfl,by simpa[YO] using h⟩)
 |_::_::_::_::_,h=>simp[YO]at h
theorem Lh(l:List UInt8):(l=[]/\G8 l=[])\/(∃c r,l=c::r/\97<=c.toNat/\G8 l=c::r)\/(∃c r,l=c::r/\G8 l=0::c::r)\/
  (∃c,l=[c]/\48<=c.toNat/\c.toNat<=57/\G8 l=[48,48,c])\/(∃c d,l=[c,d]/\49<=c.toNat/\c.toNat<=57/\G8 l=[48,c,d])\/(∃c d e,l=[c,d,e]/\49<=c.toNat/\c.toNat<=57/\G8 l=[c,d,e]):=by
 cases l with
 |nil=>exact Or.inl ⟨rfl,rfl⟩
 |cons c r=>
  rw[show G8 (c::r)=if c.toNat<97 then(if YO (c::r)then List.replicate (3-(c::r).length) 48++(c::r)else 0::c::r)else c::r from rfl]
  by_cases h:c.toNat<97
  .rw[if_pos h];cases ho:YO (c::r)with
   |true=>
    rw[if_pos rfl];refine Or.inr (Or.inr (Or.inr ?_));rcases Er ho with⟨f,e,a,b⟩|⟨f,d,e,a,b⟩|⟨f,d,g,e,a,b⟩
    .rw[e];exact Or.inl ⟨f,rfl,a,b,rfl⟩
    .rw[e];exact Or.inr (Or.inl ⟨f,d,rfl,a,b,rfl⟩)
    .rw[e];exact Or.inr (Or.inr ⟨f,d,g,rfl,a,b,rfl⟩)
   |false=>
    rw[if_neg (by simp)];exact Or.inr (Or.inr (Or.inl ⟨c,r,rfl,rfl⟩))
  .rw[if_neg h];exact Or.inr (Or.inl ⟨c,r,rfl,by omega,rfl⟩)
theorem Us{a b:List UInt8}(h:G8 a=G8 b):a=b:=by
 have z:(48:UInt8).toNat=48:=rfl;have o:(0:UInt8).toNat=0:=rfl;rcases Lh a with⟨rfl,e⟩|⟨c,r,rfl,j,e⟩|⟨c,r,rfl,e⟩|⟨c,rfl,j,m,e⟩|⟨c,d,rfl,j,m,e⟩|⟨c,d,f,rfl,j,m,e⟩<;>
  rcases Lh b with⟨rfl,g⟩|⟨i,n,rfl,k,g⟩|⟨i,n,rfl,g⟩|⟨i,rfl,k,l,g⟩|⟨i,p,rfl,k,l,g⟩|⟨i,p,s,rfl,k,l,g⟩<;>
  rw[e]at h<;>(try rw[g]at h)<;>simp only[eS,reduceCtorEq,List.nil_eq,and_true]at h⊢
 all_goals first
  |exact h
  |exact h.2
  |exact h.2.2
  |(exfalso;have q:=congrArg UInt8.toNat h.1;clear e g;omega)
  |(exfalso;have q:=congrArg UInt8.toNat h.2.1;clear e g;omega)
theorem UT{a b:cR}(h:F9 a=F9 b):a=b:=
 toList_inj (Us (by rw[<-Mz,<-Mz,h]))
theorem G3(t:cR)(h:0<t.size):∃r,t.toList=t[0]::r/\t.toList.length=t.size:=by
 rw[cT];obtain⟨⟨l⟩⟩:=t;cases l with
 |nil=>exact absurd h (by show¬(0<0);omega)
 |cons c r=>exact⟨r,rfl,rfl⟩
theorem U7{t:cR}(h:0<t.size)(c:97<=t[0].toNat):Aw t=F9 t:=by
 obtain⟨r,a,d⟩:=G3 t h;have b:Hc t=false:=by
  unfold Hc;rw[a,En];simp;omega
 unfold Aw F9;rw[b,if_neg (show¬t.size=0 by omega)];simp
theorem W4{t:cR}(h:0<t.size)(i:48<=t[0].toNat)(f:t[0].toNat<=57)(j:t.size<=3)(g:t[0].toNat=48->t.size=1):Aw t=F9 t:=by
 obtain⟨r,b,a⟩:=G3 t h;have e:Hc t=true:=by
  unfold Hc;rw[b,En];simp;omega
 have d:YO t.toList=true:=by
  rw[b]at a⊢;generalize t[0]=c at*
  match r,a with
  |[],_=>simp[YO];omega
  |[_],a=>simp at a;simp[YO];omega
  |[_,_],a=>simp at a;simp[YO];omega
  |_::_::_::_,a=>simp at a;omega
 unfold Aw F9;rw[e,d,if_neg (show¬t.size=0 by omega)];simp
structure A3 where
 v:Int
 s:cR
def Ao(t:A3):List Value:=[.int .i32 t.v,.string t.s]
def Ay:A3:=⟨0,ByteArray.empty⟩
theorem Mu(b:Nat)(A:Value)(ms:List AW)(a:Nat)(r:Int)(w:World)(h:BU w b A ms a r)(m:AW)(L:ms[a]'h.lt=m)(z:(m.kind==2)=true\/(m.kind==2)=false/\(m.kind==3)=true)(P:a+1<ms.length):
  Calls prog 193 #[.pointer (some ⟨b,0,none⟩)] w λe c=>e=.returned (.tuple #[.agg (Ao ⟨0,Aw m.text⟩).toArray,.bool true])/\BU c b A ms (a+1) r/\Ac [b] w c:=by
 have HN:=Ab P;clear P;have S:Hid (∀h:a<ms.length,ms[a]=m):=λ_=>L
 have Q:=h.lt;have Go:(a:Int)<(ms.length:Int):=by omega
 have HB:(0:Int)<=(a:Int):=by omega
 have hl:=h.len;have BA:=h.gA.lt;have D:∀k,A.ownBlock=some k->k<w.heap.size:=λk hk=>(h.row.lt k hk).2
 have t:=h.eb ((Ac.refl [] w).alloc (.cells #[.int .i32 0,.string ⟨#[]⟩] 215));have p:=AE.new w [.int .i32 0,.string ⟨#[]⟩] 215;have v:=(Ac.refl [b] w).alloc (.cells [.int .i32 0,.string ⟨#[]⟩].toArray 215);clear L h;go_enter func193,ntmps193;go_wp2_with fail
 generalize w.alloc (.cells [.int .i32 0,.string ⟨#[]⟩].toArray 215)=w1 at t p v⊢;obtain⟨d,y⟩:∃d,w.heap.size=d:=⟨_,rfl⟩;rw[y]at p BA D⊢;have K:=Ab y;clear y;obtain⟨g,C,rfl,F,J,b2,I⟩:=t.cells;have FL:g<d:=D g rfl;clear D;obtain⟨B,x,u⟩:=I a Q;rw[(Aa S) Q]at B x u;clear I b2;have T:=World.new_ne w1 _ F;have n1:=World.new_ne w1 _ J;have n2:=World.new_ne w1 _ B;have n3:=World.new_ne w1 _ x;have n4:=World.new_ne w1 _ u;have R:=Ab t;have l:=Ab p;clear t p
 go_region_held3 (λc=>c.cell? ⟨b,0,none⟩=some (.slice (some ⟨g,0,none⟩) ms.length C)/\c.cell? ⟨b,1,none⟩=some (.int .i64 a)/\c.cell? ⟨g,a*3,none⟩=some (.int .i64 m.kind)/\c.cell? ⟨g,a*3+1,none⟩=some (.int .i64 m.place)/\c.cell? ⟨g,a*3+2,none⟩=some (.string m.text)) (go_keep) (fail)
 rename_i B9;clear B9 T n1 n2 n3 n4 F J B x u;have V:=(Aa l).lt;have i:=(Aa R).eb (((Ac.refl [] w1).alloc (.cells [.int .i64 m.kind,.int .i64 m.place,.string m.text].toArray 206)).drew);have j:=(AE.new w1 [.int .i64 m.kind,.int .i64 m.place,.string m.text] 206).drew;have f:=((Aa l).alloc (.cells [.int .i64 m.kind,.int .i64 m.place,.string m.text].toArray 206)).drew;have O:=(v.alloc (.cells [.int .i64 m.kind,.int .i64 m.place,.string m.text].toArray 206)).drew;have H:(w1.alloc (.cells [.int .i64 m.kind,.int .i64 m.place,.string m.text].toArray 206)).drew.heap.size=w1.heap.size+1:=by simp
 clear R l v;generalize(w1.alloc (.cells [.int .i64 m.kind,.int .i64 m.place,.string m.text].toArray 206)).drew=w2 at i j f O H⊢;generalize w1.heap.size=N4 at j V H⊢;have X:=j.cell 0;have x1:=j.cell 1;have W:=j.cell 2;have y0:=f.cell 0;have Z:=f.cell 1;have yf:=f.frozen;have z1:=i.gA.cell 1;have zf:=i.gA.frozen 1;simp at X x1 W y0 Z z1;have HC:=j.lt;have FW:=i.gA.lt;have HD:=f.lt;have za:=λo=>(i.gA.alloc o).cell 1
 have FP:=λo=>(i.gA.alloc o).frozen 1
 have AO:=λo=>(f.alloc o).cell 0
 have AT:=λo=>(f.alloc o).cell 1
 have HI:=λo=>(f.alloc o).frozen
 simp at za AO AT;have q1:¬b=d:=by omega
 have q2:¬d=b:=by omega
 have q3:¬b=w2.heap.size:=by omega
 have q4:¬w2.heap.size=b:=by omega
 have q5:¬d=w2.heap.size:=by omega
 have q6:¬w2.heap.size=d:=by omega
 have N:=Ab i;have l:=Ab f;clear i j f;have Y:Hid (∀q G M:Value,q=.int .i64 ((a:Int)+1)->BU ((((w2.alloc (.cells #[.int .i32 0,.string (Aw m.text)] 215)).setCell ⟨b,1,none⟩ q).setCell ⟨d,0,none⟩ G).setCell ⟨d,1,none⟩ M) b (.slice (some ⟨g,0,none⟩) ms.length C) ms (a+1) r):=by
  intro q G M hv;have k1:Ac [b] w2 ((((w2.alloc (.cells #[.int .i32 0,.string (Aw m.text)] 215)).setCell ⟨b,1,none⟩ q))):=((Ac.refl [b] w2).alloc _).setCell (by simp) _;have n:=(Aa N).kept (nx':=a+1) (br':=r) k1 (by rw[hv];exact((Aa N).gA.alloc _).set 1 _) (Aa HN);have E:(Value.slice (some ⟨g,0,none⟩) ms.length C).ownBlock≠some d:=by simp[Value.ownBlock];omega
  exact⟨(n.gA.dT _ (by simp;omega) _).dT _ (by simp;omega) _,Ag (Ag n.row E _) E _,n.ap,n.lt,n.len⟩
 have U:Hid (∀s w,Calls prog 217 #[.string s] w λe c=>e=.returned (.string (Aw s))/\c=w):=R6;rcases z with z|⟨z,e3⟩;all_goals
  go_wp2_with (go_at_call 217;refine(Aa U _ _).mono ?_;rintro e c ⟨rfl,rfl⟩)
  refine cB (AC rfl rfl (((((Aa l).alloc _).dT ⟨b,1,none⟩ (by simp;omega) _).set 0 _).set 1 _) underlying215 rfl (by kernel_rfl)) rfl ⟨rfl,?_,?_⟩
  .exact Y.out _ _ _ rfl
  .refine Ac.setCell (Ac.setCell (Ac.setCell (O.alloc _) (by simp) _) (by right;have:=Aa K;simp;omega) _) (by right;have:=Aa K;simp;omega) _
theorem UD(b:Nat)(y:Value)(ms:List AW)(a:Nat)(P:Int)(w:World)(h:BU w b y ms a P)(m:AW)(M:ms[a]'h.lt=m)(e2:(m.kind==2)=false)(e3:(m.kind==3)=false)(e4:(m.kind==4)=false):
  Calls prog 193 #[.pointer (some ⟨b,0,none⟩)] w λe i=>e=.returned (.tuple #[.agg (Ao Ay).toArray,.bool false])/\BU i b y ms a m.place/\Ac [b] w i:=by
 have Z:Hid (∀h:a<ms.length,ms[a]=m):=λ_=>M
 have X:=h.lt;have FW:(a:Int)<(ms.length:Int):=by omega
 have Ha:(0:Int)<=(a:Int):=by omega
 have hl:=h.len;have ES:=h.gA.lt;have B:∀k,y.ownBlock=some k->k<w.heap.size:=λk hk=>(h.row.lt k hk).2
 have r:=h.eb ((Ac.refl [] w).alloc (.cells #[.int .i32 0,.string ⟨#[]⟩] 215));have p:=AE.new w [.int .i32 0,.string ⟨#[]⟩] 215;have u:=(Ac.refl [b] w).alloc (.cells [.int .i32 0,.string ⟨#[]⟩].toArray 215);clear M h;go_enter func193,ntmps193;go_wp2_with fail
 generalize w.alloc (.cells [.int .i32 0,.string ⟨#[]⟩].toArray 215)=w1 at r p u⊢;obtain⟨d,x⟩:∃d,w.heap.size=d:=⟨_,rfl⟩;rw[x]at p ES B⊢;have K:=Ab x;clear x;obtain⟨g,V,rfl,D,J,b2,H⟩:=r.cells;have FO:g<d:=B g rfl;clear B;obtain⟨z,v,s⟩:=H a X;rw[(Aa Z) X]at z v s;clear H b2;have n0:=World.new_ne w1 _ D;have n1:=World.new_ne w1 _ J;have n2:=World.new_ne w1 _ z;have n3:=World.new_ne w1 _ v;have n4:=World.new_ne w1 _ s;have Y:=Ab r;have l:=Ab p;clear r p
 go_region_held3 (λi=>i.cell? ⟨b,0,none⟩=some (.slice (some ⟨g,0,none⟩) ms.length V)/\i.cell? ⟨b,1,none⟩=some (.int .i64 a)/\i.cell? ⟨g,a*3,none⟩=some (.int .i64 m.kind)/\i.cell? ⟨g,a*3+1,none⟩=some (.int .i64 m.place)/\i.cell? ⟨g,a*3+2,none⟩=some (.string m.text)) (go_keep) (fail)
 rename_i EX;clear EX n0 n1 n2 n3 n4 D J z v s;have AT:=(Aa l).lt;have f:=(Aa Y).eb (((Ac.refl [] w1).alloc (.cells [.int .i64 m.kind,.int .i64 m.place,.string m.text].toArray 206)).drew);have j:=(AE.new w1 [.int .i64 m.kind,.int .i64 m.place,.string m.text] 206).drew;have c:=((Aa l).alloc (.cells [.int .i64 m.kind,.int .i64 m.place,.string m.text].toArray 206)).drew;have A:=(u.alloc (.cells [.int .i64 m.kind,.int .i64 m.place,.string m.text].toArray 206)).drew;have E:(w1.alloc (.cells [.int .i64 m.kind,.int .i64 m.place,.string m.text].toArray 206)).drew.heap.size=w1.heap.size+1:=by simp
 clear Y l u;generalize(w1.alloc (.cells [.int .i64 m.kind,.int .i64 m.place,.string m.text].toArray 206)).drew=w2 at f j c A E⊢;generalize w1.heap.size=N4 at j AT E⊢;have I:=j.cell 0;have T:=j.cell 1;have G:=j.cell 2;have S:=c.cell 0;have L:=c.cell 1;have yf:=c.frozen;have R:=f.gA.cell 1;have zf:=f.gA.frozen 1;simp at I T G S L R;have HA:=j.lt;have FP:=f.gA.lt;have HB:=c.lt;have W:=λo=>(f.gA.alloc o).cell 1
 have AO:=λo=>(f.gA.alloc o).frozen 1
 have N:=λo=>(c.alloc o).cell 0
 have O:=λo=>(c.alloc o).cell 1
 have EY:=λo=>(c.alloc o).frozen
 simp at W N O;have q1:¬b=d:=by omega
 have q2:¬d=b:=by omega
 have q3:¬b=w2.heap.size:=by omega
 have q4:¬w2.heap.size=b:=by omega
 have q5:¬d=w2.heap.size:=by omega
 have q6:¬w2.heap.size=d:=by omega
 have U:=Ab f;have l:=Ab c;clear f j c;go_wp2_with fail
 have F:=(Aa U).eb ((Ac.refl [] w2).alloc (.cells #[.int .i32 0,.string ⟨#[]⟩] 215));refine(EF b _ ms a P m.place _ F).mono ?_;rintro e w4 ⟨rfl,Q,t⟩;have q:=((Aa l).alloc _).kept t (by simp;omega);have FC:=(A.alloc _).trans t;have v0:=q.cell 0;have v1:=q.cell 1;have vf:=q.frozen;simp at v0 v1;have B9:=Ab Q;clear F Q t I T G S L yf R zf W AO N O EY U l A;go_wp2;refine cB (AC rfl rfl ((q.set 0 _).set 1 _) underlying215 rfl (by kernel_rfl)) rfl ⟨rfl,?_,?_⟩
 .have C:(Value.slice (some ⟨g,0,none⟩) ms.length V).ownBlock≠some d:=by simp[Value.ownBlock];omega
  have n:=Aa B9;exact⟨(n.gA.dT _ (by simp;omega) _).dT _ (by simp;omega) _,Ag (Ag n.row C _) C _,n.ap,n.lt,n.len⟩
 .refine Ac.setCell (Ac.setCell FC (by right;have:=Aa K;simp;omega) _) (by right;have:=Aa K;simp;omega) _
def CH(s:cR)(pos:Nat)(v:Int):Int:=
 if h:pos<s.size/\1<=(Utf8.decode s pos).2 then have _h1:pos<s.size:=h.1;have _h2:=h.2;CH s (pos+(Utf8.decode s pos).2) (Utf8.decode s pos).1 else v
theorem J3{s:cR}{pos:Nat}(v:Int)(h:pos<s.size):CH s pos v=CH s (pos+(Utf8.decode s pos).2) (Utf8.decode s pos).1:=by
 conv=>lhs;rw[CH]
 rw[dif_pos ⟨h,Hn s pos h⟩]
theorem Rd{s:cR}{pos:Nat}(v:Int)(h:¬pos<s.size):CH s pos v=v:=by
 rw[CH,dif_neg (by omega)]
theorem W5(b:Nat)(mv:Value)(ms:List AW)(c:Nat)(z:Int)(w:World)(h:BU w b mv ms c z)(m:AW)(E:ms[c]'h.lt=m)(e2:(m.kind==2)=false)(e3:(m.kind==3)=false)(e4:(m.kind==4)=true)(hn:c+1<ms.length)(LL:m.text.size<=2000):
  Calls prog 193 #[.pointer (some ⟨b,0,none⟩)] w λe q=>e=.returned (.tuple #[.agg (Ao ⟨CH m.text 0 0,ByteArray.empty⟩).toArray,.bool true])/\BU q b mv ms (c+1) z/\Ac [b] w q:=by
 have HN:=Ab hn;clear hn;have HM:Hid (∀h:c<ms.length,ms[c]=m):=λ_=>E
 have HS:=h.lt;have y:(c:Int)<(ms.length:Int):=by omega
 have K7:(0:Int)<=(c:Int):=by omega
 have hl:=h.len;have JA:=h.gA.lt;have CL:∀k,mv.ownBlock=some k->k<w.heap.size:=λk hk=>(h.row.lt k hk).2
 have T:=h.eb ((Ac.refl [] w).alloc (.cells #[.int .i32 0,.string ⟨#[]⟩] 215));have H:=AE.new w [.int .i32 0,.string ⟨#[]⟩] 215;have Z:=(Ac.refl [b] w).alloc (.cells [.int .i32 0,.string ⟨#[]⟩].toArray 215);clear E h;go_enter func193,ntmps193;go_wp2_with fail
 generalize w.alloc (.cells [.int .i32 0,.string ⟨#[]⟩].toArray 215)=w1 at T H Z⊢;obtain⟨d,Bx⟩:∃d,w.heap.size=d:=⟨_,rfl⟩;rw[Bx]at H JA CL⊢;have H4:=Ab Bx;clear Bx;obtain⟨g,u,rfl,b0,b1,b2,hc⟩:=T.cells;have K5:g<d:=CL g rfl;clear CL;obtain⟨c0,c1,V⟩:=hc c HS;rw[(Aa HM) HS]at c0 c1 V;clear hc b2;have n0:=World.new_ne w1 _ b0;have n1:=World.new_ne w1 _ b1;have n2:=World.new_ne w1 _ c0;have n3:=World.new_ne w1 _ c1;have n4:=World.new_ne w1 _ V;have HH:=Ab T;have n:=Ab H;clear T H
 go_region_held3 (λq=>q.cell? ⟨b,0,none⟩=some (.slice (some ⟨g,0,none⟩) ms.length u)/\q.cell? ⟨b,1,none⟩=some (.int .i64 c)/\q.cell? ⟨g,c*3,none⟩=some (.int .i64 m.kind)/\q.cell? ⟨g,c*3+1,none⟩=some (.int .i64 m.place)/\q.cell? ⟨g,c*3+2,none⟩=some (.string m.text)) (go_keep) (fail)
 rename_i KD;clear KD n0 n1 n2 n3 n4 b0 b1 c0 c1 V;have H0:=(Aa n).lt;have p:=(Aa HH).eb (((Ac.refl [] w1).alloc (.cells [.int .i64 m.kind,.int .i64 m.place,.string m.text].toArray 206)).drew);have r:=(AE.new w1 [.int .i64 m.kind,.int .i64 m.place,.string m.text] 206).drew;have j:=((Aa n).alloc (.cells [.int .i64 m.kind,.int .i64 m.place,.string m.text].toArray 206)).drew;have B:=(Z.alloc (.cells [.int .i64 m.kind,.int .i64 m.place,.string m.text].toArray 206)).drew;have x:(w1.alloc (.cells [.int .i64 m.kind,.int .i64 m.place,.string m.text].toArray 206)).drew.heap.size=w1.heap.size+1:=by simp
 clear HH n Z;generalize(w1.alloc (.cells [.int .i64 m.kind,.int .i64 m.place,.string m.text].toArray 206)).drew=w2 at p r j B x⊢;generalize w1.heap.size=N4 at r H0 x⊢;have I:=r.cell 0;have R:=r.cell 1;have x2:=r.cell 2;have Q:=j.cell 0;have J:=j.cell 1;have yf:=j.frozen;have M:=p.gA.cell 1;have zf:=p.gA.frozen 1;simp at I R x2 Q J M;have H7:=r.lt;have H1:=p.gA.lt;have H8:=j.lt;have za:=λo=>(p.gA.alloc o).cell 1
 have HZ:=λo=>(p.gA.alloc o).frozen 1
 have FW:=λo=>(j.alloc o).cell 0
 have Ha:=λo=>(j.alloc o).cell 1
 have KS:=λo=>(j.alloc o).frozen
 simp at za FW Ha;have q1:¬b=d:=by omega
 have q2:¬d=b:=by omega
 have q3:¬b=w2.heap.size:=by omega
 have q4:¬w2.heap.size=b:=by omega
 have q5:¬d=w2.heap.size:=by omega
 have q6:¬w2.heap.size=d:=by omega
 have HF:=Ab p;have n:=Ab j;clear p r j;go_wp2;have EK:(w2.alloc (.cells #[.int .i32 0,.string ⟨#[]⟩] 215)).heap.size=N4+1+1:=by simp[x]
 have AT:Ac [b] w ((w2.alloc (.cells #[.int .i32 0,.string ⟨#[]⟩] 215)).iter m.text 0):=(B.alloc _).alloc _;have W:BU ((w2.alloc (.cells #[.int .i32 0,.string ⟨#[]⟩] 215)).iter m.text 0) b (.slice (some ⟨g,0,none⟩) ms.length u) ms c z:=(Aa HF).eb (((Ac.refl [] w2).alloc _).alloc _);have Ax:AE ((w2.alloc (.cells #[.int .i32 0,.string ⟨#[]⟩] 215)).iter m.text 0) d [.int .i32 0,.string ⟨#[]⟩] 215:=((Aa n).alloc _).alloc _;have X:AE ((w2.alloc (.cells #[.int .i32 0,.string ⟨#[]⟩] 215)).iter m.text 0) (N4+1) [.int .i32 0,.string ⟨#[]⟩] 215:=by rw[<-x];exact(AE.new w2 [.int .i32 0,.string ⟨#[]⟩] 215).alloc _
 have K:=World.iter_heap (w2.alloc (.cells #[.int .i32 0,.string ⟨#[]⟩] 215)) m.text 0;rw[EK]at K;have Y:N4+1+1<((w2.alloc (.cells #[.int .i32 0,.string ⟨#[]⟩] 215)).iter m.text 0).heap.size:=by simp[World.iter,x]
 have LS:w.heap.size<=d:=by have:=Aa H4;omega
 clear I R x2 Q J yf M zf za HZ FW Ha KS HF n B EK q1 q2 q3 q4 q5 q6 H7 H1 H8 x;generalize(w2.alloc (.cells #[.int .i32 0,.string ⟨#[]⟩] 215)).iter m.text 0=w3 at AT W Ax X K Y⊢
 go_loopg [] m.text.size (λgk wr=>∃(pos:Nat) (v:Int),gk=m.text.size-pos/\pos<=m.text.size+4/\Hid (CH m.text pos v=CH m.text 0 0)/\Hid (wr.heap[N4+1+1]?=some (.stringIter m.text pos))/\Hid (BU wr b (.slice (some ⟨g,0,none⟩) ms.length u) ms c z)/\Hid (AE wr d [.int .i32 0,.string ⟨#[]⟩] 215)/\Hid (AE wr (N4+1) [.int .i32 v,.string ⟨#[]⟩] 215)/\Ac [b] w wr/\N4+1+1<wr.heap.size)
 case atStart=>exact⟨0,0,by simp,by omega,rfl,K,W,Ax,X,AT,Y⟩
 case round=>
  clear K W Ax X AT Y;obtain⟨pos,v,HK,K6,O,L,l,A,S,hK,U⟩:=hrel;have HG:=Ab HK;clear HK;by_cases y:pos<m.text.size
  .obtain⟨D,a,C⟩:∃D a,Utf8.decode m.text pos=(D,a):=⟨_,_,rfl⟩;(have LE:a<=4:=by have:=S3 m.text pos;rw[C]at this;exact this);(have K8:1<=a:=by have:=Hn m.text pos y;rw[C]at this;exact this);have FP:∀t,(Instr.next (.pointer (some ⟨N4+1+1,0,none⟩)) true t).run prog wr=.ok (.tuple #[.bool true,.int .i64 pos,.int .i32 D]) (CM wr (N4+1+1) m.text (pos+a)):=by
    intro t;have h:=Tx (P:=prog) (Aa L) t y;rw[C]at h;exact h
   have Go:=Ab (Oy (w:=wr) (N:=N4+1+1) (s:=m.text) (pos:=pos+a) U);have AH:=(Aa A).kept (Dm wr (N4+1+1) m.text (pos+a)) (by simp;omega);have F:=(Aa S).kept (Dm wr (N4+1+1) m.text (pos+a)) (by simp);(have G:(Value.slice (some ⟨g,0,none⟩) ms.length u).ownBlock≠some (N4+1+1):=by simp[Value.ownBlock];omega);have AO:BU (CM wr (N4+1+1) m.text (pos+a)) b (.slice (some ⟨g,0,none⟩) ms.length u) ms c z:=
    ⟨(Aa l).gA.kept (Dm wr (N4+1+1) m.text (pos+a)) (by simp;omega),Al (Aa l).row (Dm wr (N4+1+1) m.text (pos+a)) (λi hi E=>by simp at E;subst E;exact G hi),(Aa l).ap,(Aa l).lt,(Aa l).len⟩
   have B:Ac [b] w (CM wr (N4+1+1) m.text (pos+a)):=hK.trans' (Dm wr (N4+1+1) m.text (pos+a)) (by intro i hi;right;simp at hi;omega);(have HC:N4+1+1<(CM wr (N4+1+1) m.text (pos+a)).heap.size:=by rw[Il];exact U);have Jx:Hid (CH m.text (pos+a) D=CH m.text 0 0):=by
    have h:=O.out;rw[J3 v y,C]at h;exact h
   clear C L l A S O hK U;generalize CM wr (N4+1+1) m.text (pos+a)=w4 at FP Go AH F AO B HC;have v0:=F.cell 0;have vf:=F.frozen 0;simp at v0;have n:=Ab AH;have H3:=Ab F;have H6:=Ab AO;clear AH F AO;go_wp2_with fail
   go_roundg (m.text.size-(pos+a))
   case measure=>have:=Aa HG;omega
   case rel=>
    refine⟨pos+a,D,rfl,by omega,Jx,?_,?_,(Aa n).dT _ (by simp;omega) _,(Aa H3).set 0 _,B.setCell (by right;simp;omega) _,by simpa using HC⟩
    .show _=_;rw[Below.heap_setCell _ _ _ _ (by simp)];exact Aa Go
    .have f:=Aa H6;(have K3:(Value.slice (some ⟨g,0,none⟩) ms.length u).ownBlock≠some (N4+1):=by simp[Value.ownBlock];omega);exact⟨f.gA.dT _ (by simp;omega) _,Ag f.row K3 _,f.ap,f.lt,f.len⟩
  ·(have FP:∀t,(Instr.next (.pointer (some ⟨N4+1+1,0,none⟩)) true t).run prog wr=.ok (.tuple #[.bool false]) wr:=λt=>Tk (P:=prog) (Aa L) t y);(have HV:Hid (v=CH m.text 0 0):=by have h:=O.out;rwa [Rd v y]at h);have M:=(Aa l).gA.cell 1;have zf:=(Aa l).gA.frozen 1;have Q:=(Aa A).cell 0;have J:=(Aa A).cell 1;have yf:=(Aa A).frozen;have I:=(Aa S).cell 0;have R:=(Aa S).cell 1;simp at M Q J I R;(have q1:¬b=d:=by omega);(have q2:¬d=b:=by omega);(have q3:¬b=N4+1:=by omega);(have q4:¬N4+1=b:=by omega);(have q5:¬d=N4+1:=by omega);(have q6:¬N4+1=d:=by omega);clear O L;go_wp2;have hR:=Aa l;have k1:Ac [b] wr (wr.setCell ⟨b,1,none⟩ (.int .i64 ((c:Int)+1))):=(Ac.refl [b] wr).setCell (by simp) _;have f:=hR.kept (nx':=c+1) (br':=z) k1 (hR.gA.set 1 _) (Aa HN);(have G:(Value.slice (some ⟨g,0,none⟩) ms.length u).ownBlock≠some d:=by simp[Value.ownBlock];omega);refine cB (AC rfl rfl ((((Aa A).dT ⟨b,1,none⟩ (by simp;omega) _).set 0 _).set 1 _) underlying215 rfl (by kernel_rfl)) rfl ⟨?_,?_,?_⟩
   .rw[<-HV.out];rfl
   .exact⟨(f.gA.dT _ (by simp;omega) _).dT _ (by simp;omega) _,Ag (Ag f.row G _) G _,f.ap,f.lt,f.len⟩
   .exact((hK.trans k1).setCell (by right;simp;omega) _).setCell (by right;simp;omega) _
structure Tv(ms:List AW):Prop where
 ends:∀i (h:i<ms.length),(ms[i].kind==1)=false->i+1<ms.length
 text:∀i (h:i<ms.length),ms[i].text.size<=2000
def Fe(m:AW)(nx:Nat):Except Int (A3×Nat):=
 if m.kind==2||m.kind==3 then .ok (⟨0,Aw m.text⟩,nx+1)
 else if m.kind==4 then .ok (⟨CH m.text 0 0,ByteArray.empty⟩,nx+1)
 else .error m.place
def Z0(b:Nat)(mv:Value)(ms:List AW)(br:Int)(w:World)(e:Ending)(w':World):Except Int (A3×Nat)->Prop
 | .ok (t,nx)=>e=.returned (.tuple #[.agg (Ao t).toArray,.bool true])/\BU w' b mv ms nx br/\Ac [b] w w'
 | .error p=>∃nx,e=.returned (.tuple #[.agg (Ao Ay).toArray,.bool false])/\BU w' b mv ms nx p/\Ac [b] w w'
theorem Hq(b:Nat)(f:Value)(ms:List AW)(a:Nat)(g:Int)(w:World)(h:BU w b f ms a g)(n:Tv ms)(m:AW)(d:ms[a]'h.lt=m):
  Calls prog 193 #[.pointer (some ⟨b,0,none⟩)] w λe i=>Z0 b f ms g w e i (Fe m a):=by
 have l:(m.kind==1)=false->a+1<ms.length:=by rw[<-d];exact n.ends a h.lt
 have q:m.text.size<=2000:=by rw[<-d];exact n.text a h.lt
 have j:∀k:Int,(m.kind==k)=true->k≠1->(m.kind==1)=false:=λk o p=>by
  have:m.kind=k:=by simpa using o
  rw[this];simpa using p
 cases e2:(m.kind==2)with
 |true=>
  refine(Mu b f ms a g w h m d (Or.inl e2) (l (j 2 e2 (by decide)))).mono ?_;intro e i c;simp only[Fe,e2,eX,if_true];exact c
 |false=>
  cases e3:(m.kind==3)with
  |true=>
   refine(Mu b f ms a g w h m d (Or.inr ⟨e2,e3⟩) (l (j 3 e3 (by decide)))).mono ?_;intro e i c;simp only[Fe,e3,fA,if_true];exact c
  |false=>
   cases e4:(m.kind==4)with
   |true=>
    refine(W5 b f ms a g w h m d e2 e3 e4 (l (j 4 e4 (by decide))) q).mono ?_;intro e i c;simp only[Fe,e2,e3,e4,gc,bN,if_false,if_true];exact c
   |false=>
    refine(UD b f ms a g w h m d e2 e3 e4).mono ?_;intro e i c;simp only[Fe,e2,e3,e4,gc,bN,if_false];exact⟨a,c⟩
def Qt:cR:=⟨#[40]⟩
theorem Xb:Qt.toList=[40]:=by kernel_rfl
def D6(ms:List AW)(nx:Nat):Bool:=
 match ms[nx]?,ms[nx+1]? with
 |some m,some m'=>m.kind==2&&BF m' Qt
 |_,_=>false
theorem Q5(b:Nat)(I:Value)(ms:List AW)(a:Nat)(G:Int)(w:World)(h:BU w b I ms a G)(B:Tv ms):
  Calls prog 199 #[.pointer (some ⟨b,0,none⟩)] w λe d=>e=.returned (.bool (D6 ms a))/\Ac [] w d:=by
 obtain⟨g,z,rfl,y,u,_,q⟩:=h.cells;have p:=h.lt;have T:=h.len;obtain⟨C,_,_⟩:=q a p;obtain⟨m,f⟩:∃m,ms[a]=m:=⟨_,rfl⟩;have j:=B.ends a p;rw[f]at C j;have L:(a:Int)<(ms.length:Int):=by omega
 have Q:(0:Int)<=(a:Int):=by omega
 clear h B;cases hk:(m.kind==2)with
 |false=>
  have l:Hid (D6 ms a=false):=by
   show _=_;unfold D6;rw[bW p,f];split
   .rename_i v _;simp only[bR]at v;subst v;simp[hk]
   .rfl
  have D:(m.kind !=2)=true:=by simp[bne,hk]
  clear q j f;go_enter func199,ntmps199;go_wp2
  go_quiet (fail)
  go_wp2;go_ret;exact⟨by rw[l.out];rfl,(Ac.refl _ _).drewN _⟩
 |true=>
  have t:=j (by have:m.kind=2:=(by simpa using hk);rw[this];decide);obtain⟨c,r⟩:∃c,ms[a+1]=c:=⟨_,rfl⟩;obtain⟨o,n,i⟩:=q (a+1) t;rw[r]at o n i;have l:Hid (D6 ms a=BF c Qt):=by
   show _=_;unfold D6;rw[bW p,f,bW t,r];simp[hk]
  have D:(m.kind !=2)=false:=by simp[bne,hk]
  obtain⟨k,x⟩:∃k,a+1=k:=⟨_,rfl⟩;have S:IntKind.i64.wrap ((a:Int)+1)=(k:Int):=by
   rw[eM];omega
  have P:(0:Int)<=(k:Int):=by omega
  have M:(k:Int)<(ms.length:Int):=by omega
  rw[x]at o n i;clear q j f r t x;go_enter func199,ntmps199;go_wp2
  go_quiet (fail)
  have A:Ac [] w (w.drewN nq):=(Ac.refl _ _).drewN _;have J:(w.drewN nq).cell? ⟨b,0,none⟩=some (.slice (some ⟨g,0,none⟩) ms.length z):=y;have K:(w.drewN nq).cell? ⟨b,1,none⟩=some (.int .i64 a):=u;have H:(w.drewN nq).cell? ⟨g,k*3,none⟩=some (.int .i64 c.kind):=o;have E:(w.drewN nq).cell? ⟨g,k*3+1,none⟩=some (.int .i64 c.place):=n;have F:(w.drewN nq).cell? ⟨g,k*3+2,none⟩=some (.string c.text):=i;clear y u C o n i;generalize w.drewN nq=w1 at*;have R:=World.new_ne w1 _ J;have U:=World.new_ne w1 _ K;have V:=World.new_ne w1 _ H;have N:=World.new_ne w1 _ E;have O:=World.new_ne w1 _ F;go_wp2_with fail
  go_region_held3 (λd=>d.cell? ⟨b,0,none⟩=some (.slice (some ⟨g,0,none⟩) ms.length z)/\d.cell? ⟨b,1,none⟩=some (.int .i64 a)/\d.cell? ⟨g,k*3,none⟩=some (.int .i64 c.kind)/\d.cell? ⟨g,k*3+1,none⟩=some (.int .i64 c.place)/\d.cell? ⟨g,k*3+2,none⟩=some (.string c.text)) (go_keep) (fail)
  cases hs:(c.kind==5)with
  |true=>
   (have s:Hid (BF c Qt=(c.text.toList==Qt.toList)):=by show _=_;simp[BF,hs]);go_wp2;all_goals
    go_ret;refine⟨Bc ?_,?_⟩
    .rw[l.out,s.out,Xb]
    .repeat (first|refine Ac.drew ?_|refine Ac.setCell ?_ (by simp) _|refine Ac.alloc ?_ _|refine Ac.drewN ?_ _)
     exact A
  |false=>
   (have s:Hid (BF c Qt=false):=by show _=_;simp[BF,hs]);go_wp2;all_goals
    go_ret;refine⟨Bc ?_,?_⟩
    .rw[l.out,s.out]
    .repeat (first|refine Ac.drew ?_|refine Ac.setCell ?_ (by simp) _|refine Ac.alloc ?_ _|refine Ac.drewN ?_ _)
     exact A
structure Gp where
 place:Int
 name:cR
 tv:Value
def AF(a:Gp):List Value:=[.int .i64 a.place,.string a.name,a.tv]
def AV:Gp:=⟨0,ByteArray.empty,.slice none 0 0⟩
structure XZ where
 place:Int
 sort:Int
 atom:Gp
 left:A3
 right:A3
def Ar(l:XZ):List Value:=[.int .i64 l.place,.int .i64 l.sort,.int .i64 l.atom.place,.string l.atom.name,l.atom.tv,.int .i32 l.left.v,.string l.left.s,.int .i32 l.right.v,.string l.right.s]
def BW:XZ:=⟨0,0,AV,Ay,Ay⟩
def An(ms:List AW)(i:Nat):AW:=ms.getD i ⟨1,0,ByteArray.empty⟩
theorem A8{ms:List AW}{i:Nat}(h:i<ms.length):ms[i]=An ms i:=by simp[An,h]
theorem Tv.seen{ms:List AW}(b:Tv ms){i:Nat}(h:i<ms.length)(t:cR)(a:BF (An ms i) t=true):i+1<ms.length:=by
 refine b.ends i h ?_;rw[A8 h];unfold BF at a;rw[cq]at a;have:(An ms i).kind=5:=by simpa using a.1
 rw[this];decide
theorem UB(cs:List Value)(h:cs.length=9)(d v1 b a e v5 c g f:Value):(((((((((cs.set 0 d).set 1 v1).set 2 b).set 3 a).set 4 e).set 5 v5).set 6 c).set 7 g).set 8 f)=[d,v1,b,a,e,v5,c,g,f]:=by
 match cs,h with
 |[a0,a1,a2,a3,a4,a5,a6,a7,a8],_=>rfl
theorem AE.eT{w:World}{N:Nat}{cs:List Value}{t:TypeId}(h:AE w N cs t)(j:cs.length=9)(d v1 b a e v5 c g f:Value):AE (((((((((w.setCell ⟨N,0,none⟩ d).setCell ⟨N,1,none⟩ v1).setCell ⟨N,2,none⟩ b).setCell ⟨N,3,none⟩ a).setCell ⟨N,4,none⟩ e).setCell ⟨N,5,none⟩ v5).setCell ⟨N,6,none⟩ c).setCell ⟨N,7,none⟩ g).setCell ⟨N,8,none⟩ f) N [d,v1,b,a,e,v5,c,g,f] t:=by
 have i:=(((((((((h.set 0 d).set 1 v1).set 2 b).set 3 a).set 4 e).set 5 v5).set 6 c).set 7 g).set 8 f);rw[UB cs j]at i;exact i
def bq:cR:=⟨#[61]⟩
def bo:cR:=⟨#[35]⟩
def bm:cR:=⟨#[60]⟩
def LK(m:AW):Option Int:=if BF m bq then some 2 else if BF m bo then some 3 else if BF m bm then some 4 else none
def GR(ms:List AW)(nx:Nat):Except Int (XZ×Nat):=
 match Fe (An ms nx) nx with
 | .error p=> .error p
 | .ok (l,n1)=>
  match LK (An ms n1)with
  |none=> .error (An ms n1).place
  |some s=>
   match Fe (An ms (n1+1)) (n1+1)with
   | .error p=> .error p
   | .ok (r,n2)=> .ok (⟨(An ms nx).place,s,AV,l,r⟩,n2)
theorem QE{ms:List AW}{a:Nat}{l:XZ}{n:Nat}(h:GR ms a=.ok (l,n)):l.atom=AV:=by
 unfold GR at h;split at h
 .cases h
 .split at h
  .cases h
  .split at h
   .cases h
   .simp only[de,cP]at h;rw[<-h.1]
theorem BU.other{w:World}{b:Nat}{a:Value}{ms:List AW}{d:Nat}{c:Int}(h:BU w b a ms d c){p:Addr}(e:p.block≠b)(f:a.ownBlock≠some p.block)(u:Value):BU (w.setCell p u) b a ms d c:=
 ⟨h.gA.dT _ e _,Ag h.row f _,h.ap,h.lt,h.len⟩
theorem BU.eT{w:World}{b:Nat}{d:Value}{ms:List AW}{n:Nat}{e:Int}(h:BU w b d ms n e){N:Nat}(a:N≠b)(c:d.ownBlock≠some N)(j v1 i f k v5 g m l:Value):BU (((((((((w.setCell ⟨N,0,none⟩ j).setCell ⟨N,1,none⟩ v1).setCell ⟨N,2,none⟩ i).setCell ⟨N,3,none⟩ f).setCell ⟨N,4,none⟩ k).setCell ⟨N,5,none⟩ v5).setCell ⟨N,6,none⟩ g).setCell ⟨N,7,none⟩ m).setCell ⟨N,8,none⟩ l) b d ms n e:=
 (((((((((h.other (p:=⟨N,0,none⟩) a c j).other (p:=⟨N,1,none⟩) a c v1).other (p:=⟨N,2,none⟩) a c i).other (p:=⟨N,3,none⟩) a c f).other (p:=⟨N,4,none⟩) a c k).other (p:=⟨N,5,none⟩) a c v5).other (p:=⟨N,6,none⟩) a c g).other (p:=⟨N,7,none⟩) a c m).other (p:=⟨N,8,none⟩) a c l)
theorem Ac.eT{M:List Nat}{a w:World}(h:Ac M a w){N:Nat}(b:N∈M\/a.heap.size<=N)(f v1 d c g v5 e j i:Value):Ac M a (((((((((w.setCell ⟨N,0,none⟩ f).setCell ⟨N,1,none⟩ v1).setCell ⟨N,2,none⟩ d).setCell ⟨N,3,none⟩ c).setCell ⟨N,4,none⟩ g).setCell ⟨N,5,none⟩ v5).setCell ⟨N,6,none⟩ e).setCell ⟨N,7,none⟩ j).setCell ⟨N,8,none⟩ i):=
 (((((((((h.setCell (p:=⟨N,0,none⟩) b f).setCell (p:=⟨N,1,none⟩) b v1).setCell (p:=⟨N,2,none⟩) b d).setCell (p:=⟨N,3,none⟩) b c).setCell (p:=⟨N,4,none⟩) b g).setCell (p:=⟨N,5,none⟩) b v5).setCell (p:=⟨N,6,none⟩) b e).setCell (p:=⟨N,7,none⟩) b j).setCell (p:=⟨N,8,none⟩) b i)
def aQ(b:Nat)(mv:Value)(ms:List AW)(br:Int)(w:World)(e:Ending)(w':World):Except Int (XZ×Nat)->Prop
 | .ok (l,nx)=>e=.returned (.tuple #[.agg (Ar l).toArray,.bool true])/\BU w' b mv ms nx br/\Ac [b] w w'
 | .error p=>∃nx l,l.atom=AV/\e=.returned (.tuple #[.agg (Ar l).toArray,.bool false])/\BU w' b mv ms nx p/\Ac [b] w w'
theorem ZX(b:Nat)(n:Value)(ms:List AW)(t:Nat)(D:Int)(w:World)(h:BU w b n ms t D)(ok:Tv ms):
  Calls prog 200 #[.pointer (some ⟨b,0,none⟩)] w λe w'=>aQ b n ms D w e w' (GR ms t):=by
 have HO:=Ab ok;have M1:=h.gA.lt;have K7:∀k,n.ownBlock=some k->k<w.heap.size:=λk hk=>(h.row.lt k hk).2
 have h1:=Ab (h.eb ((Ac.refl [] w).alloc (.cells (Ar BW).toArray 217)));have hN:=Ab (AE.new w (Ar BW) 217);have JJ:=Ab ((Ac.refl [b] w).alloc (.cells (Ar BW).toArray 217));have K3:(w.alloc (.cells (Ar BW).toArray 217)).heap.size=w.heap.size+1:=by simp
 clear h ok;go_enter func200,ntmps200;go_wp2_with fail
 change Calls _ _ _ (w.alloc (.cells (Ar BW).toArray 217)) _;generalize w.alloc (.cells (Ar BW).toArray 217)=w1 at h1 hN JJ K3⊢;obtain⟨N,K5⟩:∃N,w.heap.size=N:=⟨_,rfl⟩;rw[K5]at hN M1 K3 K7⊢;have g:Hid (∀k,N<=k->n.ownBlock≠some k):=λk hk e=>by have:=K7 k e;omega
 clear K7;have HN:=Ab K5;clear K5;refine(Hz b n ms t D _ (Aa h1) (An ms t) (A8 (Aa h1).lt)).mono ?_;rintro e w2 ⟨rfl,k2⟩;have h2:=Ab ((Aa h1).eb k2);have LC:=Ab ((Aa hN).kept k2 (by simp));have MB:=Ab ((Aa JJ).trans (k2.mono (by simp)));have M0:N+1<=w2.heap.size:=by have:=k2.size;omega
 clear h1 hN JJ K3 k2;obtain⟨p,hp⟩:∃p,(An ms t).place=p:=⟨_,rfl⟩;have HP:=Ab hp;rw[hp];clear hp;go_wp2_with fail
 change Calls _ _ _ (w2.alloc (.cells (Ar ⟨p,0,AV,Ay,Ay⟩).toArray 217)) _;have h3:=Ab ((Aa h2).eb ((Ac.refl [] w2).alloc (.cells (Ar ⟨p,0,AV,Ay,Ay⟩).toArray 217)));have HD:=Ab ((Aa LC).alloc (.cells (Ar ⟨p,0,AV,Ay,Ay⟩).toArray 217));have FP:=Ab (AE.new w2 (Ar ⟨p,0,AV,Ay,Ay⟩) 217);have HI:=Ab ((Aa MB).alloc (.cells (Ar ⟨p,0,AV,Ay,Ay⟩).toArray 217));clear h2 LC MB;generalize w2.alloc (.cells (Ar ⟨p,0,AV,Ay,Ay⟩).toArray 217)=w3 at h3 HD FP HI⊢;obtain⟨L,MY⟩:∃L,w2.heap.size=L:=⟨_,rfl⟩;rw[MY]at FP M0⊢;clear MY;refine(Hq b n ms t D _ (Aa h3) (Aa HO) (An ms t) (A8 (Aa h3).lt)).mono ?_;intro e w4 m;cases ht:Fe (An ms t) t with
 |error q=>
  rw[ht]at m;obtain⟨n9,rfl,h4,k4⟩:=m;have B:Hid (GR ms t=.error q):=by show _=_;unfold GR;rw[ht]
  have G:=(Aa HD).kept k4 (by simp;omega);have B9:=(Aa FP).kept k4 (by simp;omega);have HU:=Ab ((Aa HI).trans k4);clear h3 HD FP HI ht k4;have A:=B9.cell 5;have C:=B9.cell 6;have V:=B9.frozen;have nf:=G.frozen;have Q:=G.cell 0;have I:=G.cell 1;have E:=G.cell 2;have J:=G.cell 3;have O:=G.cell 4;have T:=G.cell 5;have K:=G.cell 6;have S:=G.cell 7;have H:=G.cell 8;simp[Ar,BW,AV,Ay]at A C Q I E J O T K S H;have q1:¬L=N:=by omega
  have q2:¬N=L:=by omega
  have R:=Ab G;have o:=Ab h4;clear G B9 h4;simp only[Ao,Ay];go_wp2;rw[B.out];have M:=(((Aa R).dT ⟨L,5,none⟩ (by simp;omega) (.int .i32 0)).dT ⟨L,6,none⟩ (by simp;omega) (.string ByteArray.empty)).eT rfl (.int .i64 0) (.int .i64 0) (.int .i64 0) (.string ⟨#[]⟩) (.slice none 0 0) (.int .i32 0) (.string ⟨#[]⟩) (.int .i32 0) (.string ⟨#[]⟩);refine cB (AC (P:=prog) (fn:=Tryz.f200) (p:=2) (u:=3) rfl rfl M underlying217 rfl (by kernel_rfl)) rfl ?_;refine⟨n9,BW,rfl,rfl,?_,?_⟩
  .exact(((Aa o).other (p:=⟨L,5,none⟩) (by simp;omega) (Aa g L (by omega)) _).other (p:=⟨L,6,none⟩) (by simp;omega) (Aa g L (by omega)) _).eT (by omega) (Aa g N (by omega)) _ _ _ _ _ _ _ _ _
  .have F:=Aa HN;exact(((Aa HU).setCell (p:=⟨L,5,none⟩) (by right;simp;omega) _).setCell (p:=⟨L,6,none⟩) (by right;simp;omega) _).eT (by right;omega) _ _ _ _ _ _ _ _ _
 |ok r=>
  obtain⟨l,d⟩:=r;rw[ht]at m;obtain⟨rfl,h4,k4⟩:=m;have G:=(Aa HD).kept k4 (by simp;omega);have B9:=(Aa FP).kept k4 (by simp;omega);have HU:=Ab ((Aa HI).trans k4);have Y:=Ab ht;clear h3 HD FP HI k4 ht;have A:=B9.cell 5;have C:=B9.cell 6;have V:=B9.frozen;simp[Ar,BW,AV,Ay]at A C;have LE:=Ab G;have LB:=Ab B9;have o:=Ab h4;clear G B9 h4;simp only[Ao];go_wp2_with fail
  have Z:=Aa g;have F:=Aa HN;have h5:BU ((w4.setCell ⟨L,5,none⟩ (.int .i32 l.v)).setCell ⟨L,6,none⟩ (.string l.s)) b n ms d D:=by
   exact((Aa o).other (p:=⟨L,5,none⟩) (by simp;omega) (Z L (by omega)) _).other (p:=⟨L,6,none⟩) (by simp;omega) (Z L (by omega)) _
  have JA:=Ab (((Aa LE).dT ⟨L,5,none⟩ (by simp;omega) (.int .i32 l.v)).dT ⟨L,6,none⟩ (by simp;omega) (.string l.s));have KS:Hid (AE ((w4.setCell ⟨L,5,none⟩ (.int .i32 l.v)).setCell ⟨L,6,none⟩ (.string l.s)) L (Ar ⟨p,0,AV,l,Ay⟩) 217):=((Aa LB).set 5 _).set 6 _;have KD:=Ab (((Aa HU).setCell (p:=⟨L,5,none⟩) (by right;simp;omega) (.int .i32 l.v)).setCell (p:=⟨L,6,none⟩) (by right;simp;omega) (.string l.s));clear A C V LE LB o HU Z F;generalize(w4.setCell ⟨L,5,none⟩ (.int .i32 l.v)).setCell ⟨L,6,none⟩ (.string l.s)=w5 at h5 JA KS KD⊢;have H5:=Ab h5;clear h5;refine(F6 b n ms d D bq _ (Aa H5) (An ms d) (A8 (Aa H5).lt) ((Aa HO).seen (Aa H5).lt bq)).mono ?_;rintro e w6 ⟨rfl,h6,k6⟩;have HZ:=Ab ((Aa JA).kept k6 (by simp;omega));have FO:=Ab ((Aa KS).kept k6 (by simp;omega));have HY:=Ab ((Aa KD).trans k6);clear H5 JA KS KD k6;cases s1:BF (An ms d) bq with
  |true=>
   rw[s1]at h6;simp only[if_true]at h6;(have U:Hid (LK (An ms d)=some 2):=by show _=_;simp[LK,s1]);clear s1;have j:=(Aa FO).cell 1;have V:=(Aa FO).frozen;simp[Ar]at j;have H6:=Ab h6;clear h6;(go_wp2_with fail);have Z:=Aa g;have F:=Aa HN;have W:BU (w6.setCell ⟨L,1,none⟩ (.int .i64 2)) b n ms (d+1) D:=(Aa H6).other (p:=⟨L,1,none⟩) (by simp;omega) (Z L (by omega)) _;have x:Hid (AE (w6.setCell ⟨L,1,none⟩ (.int .i64 2)) N (Ar BW) 217):=(Aa HZ).dT ⟨L,1,none⟩ (by simp;omega) _;have y:Hid (AE (w6.setCell ⟨L,1,none⟩ (.int .i64 2)) L (Ar ⟨p,2,AV,l,Ay⟩) 217):=(Aa FO).set 1 _;have z:=Ab ((Aa HY).setCell (p:=⟨L,1,none⟩) (by right;simp;omega) (.int .i64 2));clear j V HZ FO HY Z F H6;generalize w6.setCell ⟨L,1,none⟩ (.int .i64 2)=w9 at W x y z⊢;refine(Hq b n ms (d+1) D _ W (Aa HO) (An ms (d+1)) (A8 W.lt)).mono ?_;intro e K4 m;clear W;cases ht2:Fe (An ms (d+1)) (d+1)with
   |error q=>
    rw[ht2]at m;obtain⟨n9,rfl,i,f⟩:=m;(have B:Hid (GR ms t=.error q):=by show _=_;unfold GR;simp only[Y.out,U.out,ht2]);have a:=(Aa x).kept f (by simp;omega);have c:=(Aa y).kept f (by simp;omega);have X:=Ab ((Aa z).trans f);clear x y z f ht2 Y U;have l0:=c.cell 0;have j:=c.cell 1;have l2:=c.cell 2;have l3:=c.cell 3;have l4:=c.cell 4;have A:=c.cell 5;have C:=c.cell 6;have l7:=c.cell 7;have l8:=c.cell 8;have V:=c.frozen;have nf:=a.frozen;have Q:=a.cell 0;have I:=a.cell 1;have E:=a.cell 2;have J:=a.cell 3;have O:=a.cell 4;have T:=a.cell 5;have K:=a.cell 6;have S:=a.cell 7;have H:=a.cell 8;simp[Ar,BW,AV,Ay]at l0 Q j I l2 E l3 J l4 O A T C K l7 S l8 H;(have q1:¬L=N:=by omega);(have q2:¬N=L:=by omega);have R:=Ab a;have o:=Ab i;clear a c i;simp only[Ao,Ay];go_wp2;rw[B.out];have M:=(((Aa R).dT ⟨L,7,none⟩ (by simp;omega) (.int .i32 0)).dT ⟨L,8,none⟩ (by simp;omega) (.string ByteArray.empty)).eT rfl (.int .i64 p) (.int .i64 2) (.int .i64 0) (.string ByteArray.empty) (.slice none 0 0) (.int .i32 l.v) (.string l.s) (.int .i32 0) (.string ByteArray.empty);refine cB (AC (P:=prog) (fn:=Tryz.f200) (p:=2) (u:=3) rfl rfl M underlying217 rfl (by kernel_rfl)) rfl ?_;refine⟨n9,⟨p,2,AV,l,Ay⟩,rfl,rfl,?_,?_⟩
    .exact(((Aa o).other (p:=⟨L,7,none⟩) (by simp;omega) (Aa g L (by omega)) _).other (p:=⟨L,8,none⟩) (by simp;omega) (Aa g L (by omega)) _).eT (by omega) (Aa g N (by omega)) _ _ _ _ _ _ _ _ _
    .have F:=Aa HN;exact(((Aa X).setCell (p:=⟨L,7,none⟩) (by right;simp;omega) _).setCell (p:=⟨L,8,none⟩) (by right;simp;omega) _).eT (by right;omega) _ _ _ _ _ _ _ _ _
   |ok r=>
    obtain⟨r,n2⟩:=r;rw[ht2]at m;obtain⟨rfl,i,f⟩:=m;(have B:Hid (GR ms t=.ok (⟨p,2,AV,l,r⟩,n2)):=by show _=_;unfold GR;simp only[Y.out,U.out,ht2,HP.out]);have a:=(Aa x).kept f (by simp;omega);have c:=(Aa y).kept f (by simp;omega);have X:=Ab ((Aa z).trans f);clear x y z f ht2 Y U;have l0:=c.cell 0;have j:=c.cell 1;have l2:=c.cell 2;have l3:=c.cell 3;have l4:=c.cell 4;have A:=c.cell 5;have C:=c.cell 6;have l7:=c.cell 7;have l8:=c.cell 8;have V:=c.frozen;have nf:=a.frozen;have Q:=a.cell 0;have I:=a.cell 1;have E:=a.cell 2;have J:=a.cell 3;have O:=a.cell 4;have T:=a.cell 5;have K:=a.cell 6;have S:=a.cell 7;have H:=a.cell 8;simp[Ar,BW,AV,Ay]at l0 Q j I l2 E l3 J l4 O A T C K l7 S l8 H;(have q1:¬L=N:=by omega);(have q2:¬N=L:=by omega);have R:=Ab a;have o:=Ab i;clear a c i;simp only[Ao];go_wp2;rw[B.out];have M:=(((Aa R).dT ⟨L,7,none⟩ (by simp;omega) (.int .i32 r.v)).dT ⟨L,8,none⟩ (by simp;omega) (.string r.s)).eT rfl (.int .i64 p) (.int .i64 2) (.int .i64 0) (.string ByteArray.empty) (.slice none 0 0) (.int .i32 l.v) (.string l.s) (.int .i32 r.v) (.string r.s);refine cB (AC (P:=prog) (fn:=Tryz.f200) (p:=2) (u:=3) rfl rfl M underlying217 rfl (by kernel_rfl)) rfl ?_;refine⟨rfl,?_,?_⟩
    .exact(((Aa o).other (p:=⟨L,7,none⟩) (by simp;omega) (Aa g L (by omega)) _).other (p:=⟨L,8,none⟩) (by simp;omega) (Aa g L (by omega)) _).eT (by omega) (Aa g N (by omega)) _ _ _ _ _ _ _ _ _
    .have F:=Aa HN;exact(((Aa X).setCell (p:=⟨L,7,none⟩) (by right;simp;omega) _).setCell (p:=⟨L,8,none⟩) (by right;simp;omega) _).eT (by right;omega) _ _ _ _ _ _ _ _ _
  |false=>
   rw[s1]at h6;simp only[bN,if_false]at h6;have H6:=Ab h6;clear h6;(go_wp2_with fail);refine(F6 b n ms d D bo _ (Aa H6) (An ms d) (A8 (Aa H6).lt) ((Aa HO).seen (Aa H6).lt bo)).mono ?_;rintro e w7 ⟨rfl,h7,k7⟩;have H2:=Ab ((Aa HZ).kept k7 (by simp;omega));have Go:=Ab ((Aa FO).kept k7 (by simp;omega));have H1:=Ab ((Aa HY).trans k7);clear H6 HZ FO HY k7;cases s2:BF (An ms d) bo with
   |true=>
    rw[s2]at h7;simp only[if_true]at h7;(have U:Hid (LK (An ms d)=some 3):=by show _=_;simp[LK,s1,s2]);clear s1 s2;have j:=(Aa Go).cell 1;have V:=(Aa Go).frozen;simp[Ar]at j;have H7:=Ab h7;clear h7;(go_wp2_with fail);have Z:=Aa g;have F:=Aa HN;have W:BU (w7.setCell ⟨L,1,none⟩ (.int .i64 3)) b n ms (d+1) D:=(Aa H7).other (p:=⟨L,1,none⟩) (by simp;omega) (Z L (by omega)) _;have x:Hid (AE (w7.setCell ⟨L,1,none⟩ (.int .i64 3)) N (Ar BW) 217):=(Aa H2).dT ⟨L,1,none⟩ (by simp;omega) _;have y:Hid (AE (w7.setCell ⟨L,1,none⟩ (.int .i64 3)) L (Ar ⟨p,3,AV,l,Ay⟩) 217):=(Aa Go).set 1 _;have z:=Ab ((Aa H1).setCell (p:=⟨L,1,none⟩) (by right;simp;omega) (.int .i64 3));clear j V H2 Go H1 Z F H7;generalize w7.setCell ⟨L,1,none⟩ (.int .i64 3)=w9 at W x y z⊢;refine(Hq b n ms (d+1) D _ W (Aa HO) (An ms (d+1)) (A8 W.lt)).mono ?_;intro e K4 m;clear W;cases ht2:Fe (An ms (d+1)) (d+1)with
    |error q=>
     rw[ht2]at m;obtain⟨n9,rfl,i,f⟩:=m;(have B:Hid (GR ms t=.error q):=by show _=_;unfold GR;simp only[Y.out,U.out,ht2]);have a:=(Aa x).kept f (by simp;omega);have c:=(Aa y).kept f (by simp;omega);have X:=Ab ((Aa z).trans f);clear x y z f ht2 Y U;have l0:=c.cell 0;have j:=c.cell 1;have l2:=c.cell 2;have l3:=c.cell 3;have l4:=c.cell 4;have A:=c.cell 5;have C:=c.cell 6;have l7:=c.cell 7;have l8:=c.cell 8;have V:=c.frozen;have nf:=a.frozen;have Q:=a.cell 0;have I:=a.cell 1;have E:=a.cell 2;have J:=a.cell 3;have O:=a.cell 4;have T:=a.cell 5;have K:=a.cell 6;have S:=a.cell 7;have H:=a.cell 8;simp[Ar,BW,AV,Ay]at l0 Q j I l2 E l3 J l4 O A T C K l7 S l8 H;(have q1:¬L=N:=by omega);(have q2:¬N=L:=by omega);have R:=Ab a;have o:=Ab i;clear a c i;simp only[Ao,Ay];go_wp2;rw[B.out];have M:=(((Aa R).dT ⟨L,7,none⟩ (by simp;omega) (.int .i32 0)).dT ⟨L,8,none⟩ (by simp;omega) (.string ByteArray.empty)).eT rfl (.int .i64 p) (.int .i64 3) (.int .i64 0) (.string ByteArray.empty) (.slice none 0 0) (.int .i32 l.v) (.string l.s) (.int .i32 0) (.string ByteArray.empty);refine cB (AC (P:=prog) (fn:=Tryz.f200) (p:=2) (u:=3) rfl rfl M underlying217 rfl (by kernel_rfl)) rfl ?_;refine⟨n9,⟨p,3,AV,l,Ay⟩,rfl,rfl,?_,?_⟩
     .exact(((Aa o).other (p:=⟨L,7,none⟩) (by simp;omega) (Aa g L (by omega)) _).other (p:=⟨L,8,none⟩) (by simp;omega) (Aa g L (by omega)) _).eT (by omega) (Aa g N (by omega)) _ _ _ _ _ _ _ _ _
     .have F:=Aa HN;exact(((Aa X).setCell (p:=⟨L,7,none⟩) (by right;simp;omega) _).setCell (p:=⟨L,8,none⟩) (by right;simp;omega) _).eT (by right;omega) _ _ _ _ _ _ _ _ _
    |ok r=>
     obtain⟨r,n2⟩:=r;rw[ht2]at m;obtain⟨rfl,i,f⟩:=m;(have B:Hid (GR ms t=.ok (⟨p,3,AV,l,r⟩,n2)):=by show _=_;unfold GR;simp only[Y.out,U.out,ht2,HP.out]);have a:=(Aa x).kept f (by simp;omega);have c:=(Aa y).kept f (by simp;omega);have X:=Ab ((Aa z).trans f);clear x y z f ht2 Y U;have l0:=c.cell 0;have j:=c.cell 1;have l2:=c.cell 2;have l3:=c.cell 3;have l4:=c.cell 4;have A:=c.cell 5;have C:=c.cell 6;have l7:=c.cell 7;have l8:=c.cell 8;have V:=c.frozen;have nf:=a.frozen;have Q:=a.cell 0;have I:=a.cell 1;have E:=a.cell 2;have J:=a.cell 3;have O:=a.cell 4;have T:=a.cell 5;have K:=a.cell 6;have S:=a.cell 7;have H:=a.cell 8;simp[Ar,BW,AV,Ay]at l0 Q j I l2 E l3 J l4 O A T C K l7 S l8 H;(have q1:¬L=N:=by omega);(have q2:¬N=L:=by omega);have R:=Ab a;have o:=Ab i;clear a c i;simp only[Ao];go_wp2;rw[B.out];have M:=(((Aa R).dT ⟨L,7,none⟩ (by simp;omega) (.int .i32 r.v)).dT ⟨L,8,none⟩ (by simp;omega) (.string r.s)).eT rfl (.int .i64 p) (.int .i64 3) (.int .i64 0) (.string ByteArray.empty) (.slice none 0 0) (.int .i32 l.v) (.string l.s) (.int .i32 r.v) (.string r.s);refine cB (AC (P:=prog) (fn:=Tryz.f200) (p:=2) (u:=3) rfl rfl M underlying217 rfl (by kernel_rfl)) rfl ?_;refine⟨rfl,?_,?_⟩
     .exact(((Aa o).other (p:=⟨L,7,none⟩) (by simp;omega) (Aa g L (by omega)) _).other (p:=⟨L,8,none⟩) (by simp;omega) (Aa g L (by omega)) _).eT (by omega) (Aa g N (by omega)) _ _ _ _ _ _ _ _ _
     .have F:=Aa HN;exact(((Aa X).setCell (p:=⟨L,7,none⟩) (by right;simp;omega) _).setCell (p:=⟨L,8,none⟩) (by right;simp;omega) _).eT (by right;omega) _ _ _ _ _ _ _ _ _
   |false=>
    rw[s2]at h7;simp only[bN,if_false]at h7;have H7:=Ab h7;clear h7;(go_wp2_with fail);refine(F6 b n ms d D bm _ (Aa H7) (An ms d) (A8 (Aa H7).lt) ((Aa HO).seen (Aa H7).lt bm)).mono ?_;rintro e w8 ⟨rfl,h8,k8⟩;have H0:=Ab ((Aa H2).kept k8 (by simp;omega));have HK:=Ab ((Aa Go).kept k8 (by simp;omega));have HV:=Ab ((Aa H1).trans k8);clear H7 H2 Go H1 k8;cases s3:BF (An ms d) bm with
    |true=>
     rw[s3]at h8;simp only[if_true]at h8;(have U:Hid (LK (An ms d)=some 4):=by show _=_;simp[LK,s1,s2,s3]);clear s1 s2 s3;have j:=(Aa HK).cell 1;have V:=(Aa HK).frozen;simp[Ar]at j;have H8:=Ab h8;clear h8;(go_wp2_with fail);have Z:=Aa g;have F:=Aa HN;have W:BU (w8.setCell ⟨L,1,none⟩ (.int .i64 4)) b n ms (d+1) D:=(Aa H8).other (p:=⟨L,1,none⟩) (by simp;omega) (Z L (by omega)) _;have x:Hid (AE (w8.setCell ⟨L,1,none⟩ (.int .i64 4)) N (Ar BW) 217):=(Aa H0).dT ⟨L,1,none⟩ (by simp;omega) _;have y:Hid (AE (w8.setCell ⟨L,1,none⟩ (.int .i64 4)) L (Ar ⟨p,4,AV,l,Ay⟩) 217):=(Aa HK).set 1 _;have z:=Ab ((Aa HV).setCell (p:=⟨L,1,none⟩) (by right;simp;omega) (.int .i64 4));clear j V H0 HK HV Z F H8;generalize w8.setCell ⟨L,1,none⟩ (.int .i64 4)=w9 at W x y z⊢;refine(Hq b n ms (d+1) D _ W (Aa HO) (An ms (d+1)) (A8 W.lt)).mono ?_;intro e K4 m;clear W;cases ht2:Fe (An ms (d+1)) (d+1)with
     |error q=>
      rw[ht2]at m;obtain⟨n9,rfl,i,f⟩:=m;(have B:Hid (GR ms t=.error q):=by show _=_;unfold GR;simp only[Y.out,U.out,ht2]);have a:=(Aa x).kept f (by simp;omega);have c:=(Aa y).kept f (by simp;omega);have X:=Ab ((Aa z).trans f);clear x y z f ht2 Y U;have l0:=c.cell 0;have j:=c.cell 1;have l2:=c.cell 2;have l3:=c.cell 3;have l4:=c.cell 4;have A:=c.cell 5;have C:=c.cell 6;have l7:=c.cell 7;have l8:=c.cell 8;have V:=c.frozen;have nf:=a.frozen;have Q:=a.cell 0;have I:=a.cell 1;have E:=a.cell 2;have J:=a.cell 3;have O:=a.cell 4;have T:=a.cell 5;have K:=a.cell 6;have S:=a.cell 7;have H:=a.cell 8;simp[Ar,BW,AV,Ay]at l0 Q j I l2 E l3 J l4 O A T C K l7 S l8 H;(have q1:¬L=N:=by omega);(have q2:¬N=L:=by omega);have R:=Ab a;have o:=Ab i;clear a c i;simp only[Ao,Ay];go_wp2;rw[B.out];have M:=(((Aa R).dT ⟨L,7,none⟩ (by simp;omega) (.int .i32 0)).dT ⟨L,8,none⟩ (by simp;omega) (.string ByteArray.empty)).eT rfl (.int .i64 p) (.int .i64 4) (.int .i64 0) (.string ByteArray.empty) (.slice none 0 0) (.int .i32 l.v) (.string l.s) (.int .i32 0) (.string ByteArray.empty);refine cB (AC (P:=prog) (fn:=Tryz.f200) (p:=2) (u:=3) rfl rfl M underlying217 rfl (by kernel_rfl)) rfl ?_;refine⟨n9,⟨p,4,AV,l,Ay⟩,rfl,rfl,?_,?_⟩
      .exact(((Aa o).other (p:=⟨L,7,none⟩) (by simp;omega) (Aa g L (by omega)) _).other (p:=⟨L,8,none⟩) (by simp;omega) (Aa g L (by omega)) _).eT (by omega) (Aa g N (by omega)) _ _ _ _ _ _ _ _ _
      .have F:=Aa HN;exact(((Aa X).setCell (p:=⟨L,7,none⟩) (by right;simp;omega) _).setCell (p:=⟨L,8,none⟩) (by right;simp;omega) _).eT (by right;omega) _ _ _ _ _ _ _ _ _
     |ok r=>
      obtain⟨r,n2⟩:=r;rw[ht2]at m;obtain⟨rfl,i,f⟩:=m;(have B:Hid (GR ms t=.ok (⟨p,4,AV,l,r⟩,n2)):=by show _=_;unfold GR;simp only[Y.out,U.out,ht2,HP.out]);have a:=(Aa x).kept f (by simp;omega);have c:=(Aa y).kept f (by simp;omega);have X:=Ab ((Aa z).trans f);clear x y z f ht2 Y U;have l0:=c.cell 0;have j:=c.cell 1;have l2:=c.cell 2;have l3:=c.cell 3;have l4:=c.cell 4;have A:=c.cell 5;have C:=c.cell 6;have l7:=c.cell 7;have l8:=c.cell 8;have V:=c.frozen;have nf:=a.frozen;have Q:=a.cell 0;have I:=a.cell 1;have E:=a.cell 2;have J:=a.cell 3;have O:=a.cell 4;have T:=a.cell 5;have K:=a.cell 6;have S:=a.cell 7;have H:=a.cell 8;simp[Ar,BW,AV,Ay]at l0 Q j I l2 E l3 J l4 O A T C K l7 S l8 H;(have q1:¬L=N:=by omega);(have q2:¬N=L:=by omega);have R:=Ab a;have o:=Ab i;clear a c i;simp only[Ao];go_wp2;rw[B.out];have M:=(((Aa R).dT ⟨L,7,none⟩ (by simp;omega) (.int .i32 r.v)).dT ⟨L,8,none⟩ (by simp;omega) (.string r.s)).eT rfl (.int .i64 p) (.int .i64 4) (.int .i64 0) (.string ByteArray.empty) (.slice none 0 0) (.int .i32 l.v) (.string l.s) (.int .i32 r.v) (.string r.s);refine cB (AC (P:=prog) (fn:=Tryz.f200) (p:=2) (u:=3) rfl rfl M underlying217 rfl (by kernel_rfl)) rfl ?_;refine⟨rfl,?_,?_⟩
      .exact(((Aa o).other (p:=⟨L,7,none⟩) (by simp;omega) (Aa g L (by omega)) _).other (p:=⟨L,8,none⟩) (by simp;omega) (Aa g L (by omega)) _).eT (by omega) (Aa g N (by omega)) _ _ _ _ _ _ _ _ _
      .have F:=Aa HN;exact(((Aa X).setCell (p:=⟨L,7,none⟩) (by right;simp;omega) _).setCell (p:=⟨L,8,none⟩) (by right;simp;omega) _).eT (by right;omega) _ _ _ _ _ _ _ _ _
    |false=>
     rw[s3]at h8;simp only[bN,if_false]at h8;have H8:=Ab h8;clear h8;(go_wp2_with fail);(have B:Hid (GR ms t=.error (An ms d).place):=by show _=_;unfold GR;simp[Y.out,LK,s1,s2,s3]);clear s1 s2 s3;refine(Hz b n ms d D _ (Aa H8) (An ms d) (A8 (Aa H8).lt)).mono ?_;rintro e w9 ⟨rfl,k9⟩;have h9:=(Aa H8).eb k9;have L0:=Ab ((Aa H0).kept k9 (by simp));have LM:=Ab ((Aa HV).trans (k9.mono (by simp)));clear H8 H0 HK HV k9;obtain⟨q,hq⟩:∃q,(An ms d).place=q:=⟨_,rfl⟩;rw[hq]at B⊢;clear hq;have H9:=Ab h9;clear h9;(go_wp2_with fail);refine(EF b n ms d D q _ (Aa H9)).mono ?_;rintro e K4 ⟨rfl,i,f⟩;have Ax:=(Aa L0).kept f (by simp;omega);have X:=Ab ((Aa LM).trans f);clear L0 LM H9 f;have nf:=Ax.frozen;have Q:=Ax.cell 0;have I:=Ax.cell 1;have E:=Ax.cell 2;have J:=Ax.cell 3;have O:=Ax.cell 4;have T:=Ax.cell 5;have K:=Ax.cell 6;have S:=Ax.cell 7;have H:=Ax.cell 8;simp[Ar,BW,AV,Ay]at Q I E J O T K S H;have R:=Ab Ax;have o:=Ab i;clear Ax i;go_wp2;rw[B.out];have M:=(Aa R).eT rfl (.int .i64 0) (.int .i64 0) (.int .i64 0) (.string ⟨#[]⟩) (.slice none 0 0) (.int .i32 0) (.string ⟨#[]⟩) (.int .i32 0) (.string ⟨#[]⟩);refine cB (AC (P:=prog) (fn:=Tryz.f200) (p:=2) (u:=3) rfl rfl M underlying217 rfl (by kernel_rfl)) rfl ?_;refine⟨d,BW,rfl,rfl,?_,?_⟩
     .exact(Aa o).eT (by omega) (Aa g N (by omega)) _ _ _ _ _ _ _ _ _
     .have F:=Aa HN;exact(Aa X).eT (by right;omega) _ _ _ _ _ _ _ _ _
