import Derived.Test.YtoihbhenbmffcaaGreatDoorXAE
import Derived.Test.YtoihbhenbmffcaaGreatDoorXAB
set_option linter.all false
set_option maxHeartbeats 0
open Bool renaming false->K,true->jj
namespace Go.Proofs.YtoihbhenbmffcaaGreatDoor
open Go.RowKit Go.Proofs.Tryz
variable{s:zA}{n m k:Nat}{B:Bool}{g:UInt8}
def gH(b:Nat)(s:zA)(a:Nat)(w:World)(m:s.size<=1000000)(i:a<=s.size)(l:AF w b (BY s a K) 73):
  Calls prog 129 #[.pointer (some ⟨b,0,none⟩)] w λe k=>∃q,e=.returned (.agg (Cj (DF s a).1 q).toArray)/\
   k.ownsRow w.heap.size 93 2 q (DF s a).1.A.args.length ((DF s a).1.A.args.flatMap AV)/\AF k b (BY s (DF s a).2.1 (DF s a).2.2) 73/\Ac [b] w k:=by
 obtain⟨j,c⟩:=pN (Ae s a);have u:j<=s.size:=by have:=BB s a i;omega
 cases hx:Et s j 33 with
 |true=>
  have e:DF s a=(⟨33,(AZ s (j+1) K).1,DQ,DQ,j⟩,(AZ s (j+1) K).2):=by unfold DF;simp only[c,hx,if_true]
  rw[e];exact gh b s a j w m i c hx l
 |false=>
  cases hlo:(FJ s j&&MR s j)with
  |true=>
   (have e:DF s a=(⟨97,(AZ s j K).1,DQ,DQ,j⟩,(AZ s j K).2):=by unfold DF;simp only[c,hx,hlo,if_true,k0,if_false]);rw[e];simp only[lJ]at hlo;have n:j<s.size:=by
    have h:=hlo.1;unfold FJ at h;split at h
    .assumption
    .cases h
   (have r:AD s[j]=jj:=by have h:=hlo.1;unfold FJ at h;simpa[n] using h);exact e9 b s a j w m i c hx n r hlo.2 l
  |false=>
   obtain⟨t,f,d,p⟩:∃t f d,AN s j K=(t,f,d):=⟨_,_,_,rfl⟩;obtain⟨g,o⟩:=pN (AQ s f d);(have e:DF s a=I6 s j g t d:=by unfold DF;simp only[c,hx,hlo,p,o,k0,if_false]);rw[e];exact gO b s a j w t f g d m i c hx hlo ⟨p,o⟩ l
def Ko(s:zA)(a:Nat)(b:Bool):a<=AQ s a b:=by
 unfold AQ;split
 .exact lC _
 .exact Cb s a
def Sb(s:zA)(a:Nat)(b:Bool):a<=(A9 s a b).2.1:=by
 have c:=Cb s a;have d:=Cr AD s (Ae s a);unfold A9;split
 .exact lC _
 .split<;>simp only<;>omega
def Lp(s:zA)(a:Nat)(c:Bool):a<=(AN s a c).2.1:=by
 have b:=Cb s a;have d:=Cr Ap s (Ae s a);have e:=Sb s (Ae s a) K;unfold AN;split
 .exact lC _
 .split
  .split
   .simp only;omega
   .split
    .simp only;omega
    .split<;>simp only<;>omega
  .exact b
def ej(s:zA)(a:Nat):a<=(CE s a).2.1:=by
 fun_induction CE s a with
 |case1 a hc _ _ ih=>have:=hc.2.1;simp only;omega
 |case2 a hc=>
  have b:=Lp s a K;have c:=EI s (AN s a K).2.1 (AN s a K).2.2 44;simp only;omega
def WF(s:zA)(p:Nat×Bool):p.1<=(Ev s p).2.1:=by
 unfold Ev;split
 .exact lC _
 .exact ej s p.1
def dB(s:zA)(p:Nat×Bool)(h:p.1<=s.size):(Ev s p).2.1<=s.size:=by
 unfold Ev;split
 .exact h
 .exact WV s p.1 h
def TT(h:(By s n B g).2=K):n<(By s n B g).1:=by
 unfold By Ch at*;have:=Ko s n B;simp only at h⊢;have a:(!B&&Et s (AQ s n B) g)=jj:=by simpa using h
 rw[ln a];omega
def Ll(s:zA)(b:Nat)(a:Bool):b<=(AZ s b a).2.1:=by
 unfold AZ;simp only;have f:=Ko s b a;have d:=Sb s (AQ s b a) a;have h:=EI s (A9 s (AQ s b a) a).2.1 (A9 s (AQ s b a) a).2.2 40;have e:=WF s (By s (A9 s (AQ s b a) a).2.1 (A9 s (AQ s b a) a).2.2 40);have g:=EI s (Ev s (By s (A9 s (AQ s b a) a).2.1 (A9 s (AQ s b a) a).2.2 40)).2.1 (Ev s (By s (A9 s (AQ s b a) a).2.1 (A9 s (AQ s b a) a).2.2 40)).2.2 41;have c:(By s (A9 s (AQ s b a) a).2.1 (A9 s (AQ s b a) a).2.2 40).1=Ch s (A9 s (AQ s b a) a).2.1 (A9 s (AQ s b a) a).2.2 40:=rfl;show b<=Ch s _ _ 41;omega
def eK(h:(AZ s n B).2.2=K):n<(AZ s n B).2.1:=by
 unfold AZ at h⊢;simp only at h⊢;have d:=Ko s n B;have b:=Sb s (AQ s n B) B;have f:=EI s (A9 s (AQ s n B) B).2.1 (A9 s (AQ s n B) B).2.2 40;have c:=WF s (By s (A9 s (AQ s n B) B).2.1 (A9 s (AQ s n B) B).2.2 40);have e:=TT h;have a:(By s (A9 s (AQ s n B) B).2.1 (A9 s (AQ s n B) B).2.2 40).1=Ch s (A9 s (AQ s n B) B).2.1 (A9 s (AQ s n B) B).2.2 40:=rfl;omega
def Js(s:zA)(a:Nat)(b:Bool)(h:a<=s.size):(AZ s a b).2.1<=s.size:=by
 unfold AZ;simp only;exact D3 _ _ _ _ (dB _ _ (D3 _ _ _ _ (Iz _ _ _ (GV _ _ _ h))))
def L9(s:zA)(a:Nat)(h:a<=s.size):(DF s a).2.1<=s.size:=by
 have c:=BB s a h;unfold DF;simp only;split
 .rename_i f;have:=F1 f;exact Js _ _ _ (by omega)
 .split
  .exact Js _ _ _ c
  .have e:=GV s _ (AN s (Ae s a) K).2.2 (F5 s (Ae s a) K c);unfold I6;split
   .rename_i d;simp only[lJ,mP]at d;have:AQ s (AN s (Ae s a) K).2.1 (AN s (Ae s a) K).2.2<s.size:=by
     rcases d.2 with(b|b)|b<;>exact F1 b
    exact F5 _ _ _ (by omega)
   .exact e
def aI(s:zA)(a:Nat):a<=(DF s a).2.1:=by
 have b:=Cb s a;unfold DF;simp only;split
 .have:=Ll s (Ae s a+1) K;simp only;omega
 .split
  .have:=Ll s (Ae s a) K;simp only;omega
  .have c:=Lp s (Ae s a) K;have d:=Ko s (AN s (Ae s a) K).2.1 (AN s (Ae s a) K).2.2;unfold I6;split
   .have:=Lp s (AQ s (AN s (Ae s a) K).2.1 (AN s (Ae s a) K).2.2+1) K;simp only;omega
   .simp only;omega
def Z0{at_:Nat}(h:(DF s at_).2.2=K):at_<(DF s at_).2.1:=by
 have e:=Cb s at_;unfold DF at h⊢;simp only at h⊢;split
 .have:=Ll s (Ae s at_+1) K;simp only;omega
 .rename_i c;simp only[c,k0,if_false]at h;split
  .rename_i a;simp only[a,if_true]at h;have:=eK h;simp only;omega
  .rename_i a;simp only[a,k0,if_false]at h;have d:=Lp s (Ae s at_) K;have f:=Ko s (AN s (Ae s at_) K).2.1 (AN s (Ae s at_) K).2.2;unfold I6 at h⊢;split
   .have:=Lp s (AQ s (AN s (Ae s at_) K).2.1 (AN s (Ae s at_) K).2.2+1) K;simp only;omega
   .rename_i b;simp only[b,k0,if_false]at h;cases h
def Bj(s:zA)(at_:Nat):pM Br×Nat×Bool:=
 if h:(!(DF s at_).2.2&&Et s (AQ s (DF s at_).2.1 (DF s at_).2.2) 44)=jj/\at_<Ch s (DF s at_).2.1 (DF s at_).2.2 44/\at_<s.size then
  have _h1:at_<s.size:=h.2.2;have _h2:=h.2.1
  ((DF s at_).1::(Bj s (Ch s (DF s at_).2.1 (DF s at_).2.2 44)).1,(Bj s (Ch s (DF s at_).2.1 (DF s at_).2.2 44)).2)
 else([(DF s at_).1],Ch s (DF s at_).2.1 (DF s at_).2.2 44,(DF s at_).2.2)
def Q0{at_ a:Nat}{x:Br}(b:DF s at_=(x,a,B))(g:at_<=s.size)(e:(!B&&Et s (AQ s a B) 44)=jj):
  at_<Ch s a B 44/\Bj s at_=(x::(Bj s (Ch s a B 44)).1,(Bj s (Ch s a B 44)).2):=by
 have f:B=K:=by cases B<;>simp_all
 subst f;have d:=Z0 (s:=s) (at_:=at_) (by rw[b]);have c:=L9 s at_ g;rw[b]at d c;simp only at d c;have h:=EI s a K 44;refine⟨by omega,?_⟩
 conv=>lhs;rw[Bj]
 rw[dif_pos (by rw[b];exact⟨e,by simp only;omega,by omega⟩)];simp only[b]
def M8{x:Br}(c:DF s n=(x,m,B))(b:(!B&&Et s (AQ s m B) 44)=K):
  Bj s n=([x],Ch s m B 44,B):=by
 conv=>lhs;rw[Bj]
 rw[dif_neg (by rw[c];intro h;rw[h.1]at b;cases b),c]
def R8(s:zA)(a:Nat)(h:a<=s.size):(Bj s a).2.1<=s.size:=by
 fun_induction Bj s a with
 |case1 a hc _ _ ih=>exact ih (D3 _ _ _ _ (L9 _ _ h))
 |case2 a hc=>exact D3 _ _ _ _ (L9 _ _ h)
def W4(s:zA)(a:Nat):a<=(Bj s a).2.1:=by
 fun_induction Bj s a with
 |case1 a hc _ _ ih=>have:=hc.2.1;simp only;omega
 |case2 a hc=>
  have b:=aI s a;have c:=EI s (DF s a).2.1 (DF s a).2.2 44;simp only;omega
def EE(s:zA)(mb bd:Bool)(a:Nat)(acc:pM Br)(R:pM Br×Nat×Bool):Prop:=
 if(mb&& !bd)=jj then(acc++(Bj s a).1,(Bj s a).2)=R else(acc,a,bd)=R
def EE.step{c:pM Br}{R:pM Br×Nat×Bool}{t:Br}(h:EE s jj K n c R)(b:DF s n=(t,m,B))(e:n<=s.size)(p:c.length<=n):
  Ch s m B 44<=s.size/\(c++[t]).length<=Ch s m B 44+1/\(((!B&&Et s (AQ s m B) 44)&& !B)=jj->(c++[t]).length<=Ch s m B 44)/\
  2*(s.size-Ch s m B 44)+(if((!B&&Et s (AQ s m B) 44)&& !B)=jj then 1 else 0)<2*(s.size-n)+1/\
  EE s (!B&&Et s (AQ s m B) 44) B (Ch s m B 44) (c++[t]) R:=by
 have d:=L9 s n e;have l:=EI s m B 44;have g:B=K->n<m:=λj=>by
  have:=Z0 (s:=s) (at_:=n) (by rw[b];exact j);rw[b]at this;exact this
 have o:n<=m:=by have:=aI s n;rw[b]at this;exact this
 rw[b]at d;simp only at d;have f:=D3 s m B 44 d;unfold EE at h;simp only[mJ,nH,if_true]at h;cases hm:(!B&&Et s (AQ s m B) 44)with
 |true=>
  have k:B=K:=by cases B<;>simp_all
  subst k;obtain⟨q,i⟩:=Q0 b e hm;have:=g rfl;refine⟨f,by simp;omega,by simp;omega,by simp;omega,?_⟩;unfold EE;simp only[mJ,nH,if_true];rw[i]at h;rw[<-h];simp
 |false=>
  refine⟨f,by simp;omega,by simp,by simp;omega,?_⟩;unfold EE;rw[M8 b hm]at h;rw[<-h];simp
def EE.done{c b:Bool}{d L:pM Br}(h:EE s c b n d (L,m,B))(e:(c&& !b)=K):d=L/\n=m/\b=B:=by
 unfold EE at h;rw[li (by rw[e];exact nw)]at h;simpa using h
def Fz:Nat->zA->zA
 |0,s=>s
 |k+1,s=>if 1<s.size/\CQ s 0=48 then Fz k (s.extract 1 s.size)else s
def BZ(s:zA):zA:=if I2 s then Fz s.size s else s
def KX(h:¬(1<s.size/\CQ s 0=48)):Fz k s=s:=by
 cases k with
 |zero=>rfl
 |succ k=>rw[Fz,li h]
set_option maxRecDepth 100000
theorem JV(s:zA)(w:World)(u:s.size<=1000000):Calls prog 96 #[.string s] w λe a=>e=.returned (.string (BZ s))/\a=w:=by
 have c:=No s w;by_cases f:I2 s=jj
 .rw[f]at c;obtain⟨T,i⟩:=pN (BZ s);rw[i];have g:Hid (Fz s.size s=T):=by show _=_;rw[<-i];unfold BZ;rw[f];rfl
  clear i f;go_enter func96,ntmps96;go_wp2_with (go_at_call 144;refine c.mono ?_;rintro e a ⟨rfl,rfl⟩)
  rename_i a _ _
  go_loopg [3] s.size (λgk o wr=>∃(t:zA),o=.string t/\Hid (Fz gk t=T)/\t.size<=gk/\t.size<=1000000/\a=wr)
  case atStart=>exact⟨s,rfl,g,lC _,u,rfl⟩
  case round=>
   clear g;obtain⟨t,rfl,l,x,z,rfl⟩:=hrel;by_cases n:1<t.size
   ·(have r:(1:Int)<(t.size:Int):=by omega);(have m:CQ t 0=t[0]:=by unfold CQ;rw[dif_pos (by omega)]);by_cases b:t[0]=48
    ·(have q:((t[0].toNat:Int)==48)=jj:=by rw[b];rfl);obtain⟨k,rfl⟩:∃k,gk=k+1:=⟨gk-1,by omega⟩;have v:Hid (Fz k (t.extract 1 t.size)=T):=by
      have h:=Aa l;rw[Fz,ln ⟨n,by rw[m];exact b⟩]at h;exact h
     (have y:(t.extract 1 t.size).size=t.size-1:=by rw[my];omega);go_wp2
     go_roundg k
     case measure=>omega
     case rel=>exact⟨t.extract 1 t.size,rfl,v,by omega,by omega,rfl⟩
    .have q:((t[0].toNat:Int)==48)=K:=by
      rw[lQ];intro d;apply b;apply mO.1;(have:t[0].toNat=48:=by omega);rw[this];rfl
     have j:Hid (t=T):=by
      have h:=Aa l;rw[KX (λd=>b (by rw[<-m];exact d.2))]at h;exact h
     go_wp2;go_ret;rw[<-Aa j];exact⟨rfl,rfl⟩
   ·(have r:¬(1:Int)<(t.size:Int):=by omega);have j:Hid (t=T):=by
     have h:=Aa l;rw[KX (λd=>n d.1)]at h;exact h
    go_wp2;go_ret;rw[<-Aa j];exact⟨rfl,rfl⟩
 .have p:I2 s=K:=by simpa using f
  rw[p]at c;have g:Hid (BZ s=s):=by show _=_;unfold BZ;rw[p];rfl
  rw[Aa g];go_enter func96,ntmps96;go_wp2_with (go_at_call 144;refine c.mono ?_;rintro e a ⟨rfl,rfl⟩)
  all_goals go_ret
  all_goals exact⟨rfl,rfl⟩
