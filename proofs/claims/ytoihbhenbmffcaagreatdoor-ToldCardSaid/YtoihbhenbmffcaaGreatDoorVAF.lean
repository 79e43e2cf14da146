import Derived.Test.YtoihbhenbmffcaaGreatDoorVAE
import Derived.Test.YtoihbhenbmffcaaGreatDoorVAB
set_option linter.all false
set_option maxHeartbeats 0
open Bool renaming false->K,true->Cm
namespace Go.Proofs.YtoihbhenbmffcaaGreatDoor
open Go.RowKit Go.Proofs.Tryz
variable{s:bC}{n m k:Nat}{B:Bool}{g:UInt8}
def gX(b:Nat)(s:bC)(a:Nat)(w:World)(m:s.size<=1000000)(i:a<=s.size)(l:AI w b (B1 s a K) 73):
  Calls prog 129 #[.pointer (some ⟨b,0,none⟩)] w λe k=>∃q,e=.returned (.agg (Cn (Dd s a).1 q).toArray)/\
   k.ownsRow w.heap.size 93 2 q (Dd s a).1.A.args.length ((Dd s a).1.A.args.flatMap AX)/\AI k b (B1 s (Dd s a).2.1 (Dd s a).2.2) 73/\Ac [b] w k:=by
 obtain⟨j,c⟩:=QP (Ae s a);have u:j<=s.size:=by have:=BD s a i;omega
 cases hx:Ej s j 33 with
 |true=>
  have e:Dd s a=(⟨33,(A3 s (j+1) K).1,Cl,Cl,j⟩,(A3 s (j+1) K).2):=by unfold Dd;simp only[c,hx,if_true]
  rw[e];exact gK b s a j w m i c hx l
 |false=>
  cases hlo:(Ey s j&&Ka s j)with
  |true=>
   (have e:Dd s a=(⟨97,(A3 s j K).1,Cl,Cl,j⟩,(A3 s j K).2):=by unfold Dd;simp only[c,hx,hlo,if_true,lJ,if_false]);rw[e];simp only[mi]at hlo;have n:j<s.size:=by
    have h:=hlo.1;unfold Ey at h;split at h
    .assumption
    .cases h
   (have r:AA s[j]=Cm:=by have h:=hlo.1;unfold Ey at h;simpa[n] using h);exact ft b s a j w m i c hx n r hlo.2 l
  |false=>
   obtain⟨t,f,d,p⟩:∃t f d,AM s j K=(t,f,d):=⟨_,_,_,rfl⟩;obtain⟨g,o⟩:=QP (AQ s f d);(have e:Dd s a=IF s j g t d:=by unfold Dd;simp only[c,hx,hlo,p,o,lJ,if_false]);rw[e];exact ig b s a j w t f g d m i c hx hlo ⟨p,o⟩ l
def Kp(s:bC)(a:Nat)(b:Bool):a<=AQ s a b:=by
 unfold AQ;split
 .exact lX _
 .exact Ch s a
def Sd(s:bC)(a:Nat)(b:Bool):a<=(Bc s a b).2.1:=by
 have c:=Ch s a;have d:=Cw AA s (Ae s a);unfold Bc;split
 .exact lX _
 .split<;>simp only<;>omega
def Ln(s:bC)(a:Nat)(c:Bool):a<=(AM s a c).2.1:=by
 have b:=Ch s a;have d:=Cw Ap s (Ae s a);have e:=Sd s (Ae s a) K;unfold AM;split
 .exact lX _
 .split
  .split
   .simp only;omega
   .split
    .simp only;omega
    .split<;>simp only<;>omega
  .exact b
def eE(s:bC)(a:Nat):a<=(Cb s a).2.1:=by
 fun_induction Cb s a with
 |case1 a hc _ _ ih=>have:=hc.2.1;simp only;omega
 |case2 a hc=>
  have b:=Ln s a K;have c:=EZ s (AM s a K).2.1 (AM s a K).2.2 44;simp only;omega
def WH(s:bC)(p:Nat×Bool):p.1<=(Et s p).2.1:=by
 unfold Et;split
 .exact lX _
 .exact eE s p.1
def dK(s:bC)(p:Nat×Bool)(h:p.1<=s.size):(Et s p).2.1<=s.size:=by
 unfold Et;split
 .exact h
 .exact WY s p.1 h
def TU(h:(Bz s n B g).2=K):n<(Bz s n B g).1:=by
 unfold Bz B7 at*;have:=Kp s n B;simp only at h⊢;have a:(!B&&Ej s (AQ s n B) g)=Cm:=by simpa using h
 rw[lS a];omega
def Lk(s:bC)(b:Nat)(a:Bool):b<=(A3 s b a).2.1:=by
 unfold A3;simp only;have f:=Kp s b a;have d:=Sd s (AQ s b a) a;have h:=EZ s (Bc s (AQ s b a) a).2.1 (Bc s (AQ s b a) a).2.2 40;have e:=WH s (Bz s (Bc s (AQ s b a) a).2.1 (Bc s (AQ s b a) a).2.2 40);have g:=EZ s (Et s (Bz s (Bc s (AQ s b a) a).2.1 (Bc s (AQ s b a) a).2.2 40)).2.1 (Et s (Bz s (Bc s (AQ s b a) a).2.1 (Bc s (AQ s b a) a).2.2 40)).2.2 41;have c:(Bz s (Bc s (AQ s b a) a).2.1 (Bc s (AQ s b a) a).2.2 40).1=B7 s (Bc s (AQ s b a) a).2.1 (Bc s (AQ s b a) a).2.2 40:=rfl;show b<=B7 s _ _ 41;omega
def eX(h:(A3 s n B).2.2=K):n<(A3 s n B).2.1:=by
 unfold A3 at h⊢;simp only at h⊢;have d:=Kp s n B;have b:=Sd s (AQ s n B) B;have f:=EZ s (Bc s (AQ s n B) B).2.1 (Bc s (AQ s n B) B).2.2 40;have c:=WH s (Bz s (Bc s (AQ s n B) B).2.1 (Bc s (AQ s n B) B).2.2 40);have e:=TU h;have a:(Bz s (Bc s (AQ s n B) B).2.1 (Bc s (AQ s n B) B).2.2 40).1=B7 s (Bc s (AQ s n B) B).2.1 (Bc s (AQ s n B) B).2.2 40:=rfl;omega
def Jv(s:bC)(a:Nat)(b:Bool)(h:a<=s.size):(A3 s a b).2.1<=s.size:=by
 unfold A3;simp only;exact Eb _ _ _ _ (dK _ _ (Eb _ _ _ _ (Iv _ _ _ (GV _ _ _ h))))
def L7(s:bC)(a:Nat)(h:a<=s.size):(Dd s a).2.1<=s.size:=by
 have c:=BD s a h;unfold Dd;simp only;split
 .rename_i f;have:=F4 f;exact Jv _ _ _ (by omega)
 .split
  .exact Jv _ _ _ c
  .have e:=GV s _ (AM s (Ae s a) K).2.2 (F8 s (Ae s a) K c);unfold IF;split
   .rename_i d;simp only[mi,ni]at d;have:AQ s (AM s (Ae s a) K).2.1 (AM s (Ae s a) K).2.2<s.size:=by
     rcases d.2 with(b|b)|b<;>exact F4 b
    exact F8 _ _ _ (by omega)
   .exact e
def aO(s:bC)(a:Nat):a<=(Dd s a).2.1:=by
 have b:=Ch s a;unfold Dd;simp only;split
 .have:=Lk s (Ae s a+1) K;simp only;omega
 .split
  .have:=Lk s (Ae s a) K;simp only;omega
  .have c:=Ln s (Ae s a) K;have d:=Kp s (AM s (Ae s a) K).2.1 (AM s (Ae s a) K).2.2;unfold IF;split
   .have:=Ln s (AQ s (AM s (Ae s a) K).2.1 (AM s (Ae s a) K).2.2+1) K;simp only;omega
   .simp only;omega
def Z4{at_:Nat}(h:(Dd s at_).2.2=K):at_<(Dd s at_).2.1:=by
 have e:=Ch s at_;unfold Dd at h⊢;simp only at h⊢;split
 .have:=Lk s (Ae s at_+1) K;simp only;omega
 .rename_i c;simp only[c,lJ,if_false]at h;split
  .rename_i a;simp only[a,if_true]at h;have:=eX h;simp only;omega
  .rename_i a;simp only[a,lJ,if_false]at h;have d:=Ln s (Ae s at_) K;have f:=Kp s (AM s (Ae s at_) K).2.1 (AM s (Ae s at_) K).2.2;unfold IF at h⊢;split
   .have:=Ln s (AQ s (AM s (Ae s at_) K).2.1 (AM s (Ae s at_) K).2.2+1) K;simp only;omega
   .rename_i b;simp only[b,lJ,if_false]at h;cases h
def A4(s:bC)(at_:Nat):QC Bp×Nat×Bool:=
 if h:(!(Dd s at_).2.2&&Ej s (AQ s (Dd s at_).2.1 (Dd s at_).2.2) 44)=Cm/\at_<B7 s (Dd s at_).2.1 (Dd s at_).2.2 44/\at_<s.size then
  have _h1:at_<s.size:=h.2.2;have _h2:=h.2.1
  ((Dd s at_).1::(A4 s (B7 s (Dd s at_).2.1 (Dd s at_).2.2 44)).1,(A4 s (B7 s (Dd s at_).2.1 (Dd s at_).2.2 44)).2)
 else([(Dd s at_).1],B7 s (Dd s at_).2.1 (Dd s at_).2.2 44,(Dd s at_).2.2)
def Q1{at_ a:Nat}{x:Bp}(b:Dd s at_=(x,a,B))(g:at_<=s.size)(e:(!B&&Ej s (AQ s a B) 44)=Cm):
  at_<B7 s a B 44/\A4 s at_=(x::(A4 s (B7 s a B 44)).1,(A4 s (B7 s a B 44)).2):=by
 have f:B=K:=by cases B<;>simp_all
 subst f;have d:=Z4 (s:=s) (at_:=at_) (by rw[b]);have c:=L7 s at_ g;rw[b]at d c;simp only at d c;have h:=EZ s a K 44;refine⟨by omega,?_⟩
 conv=>lhs;rw[A4]
 rw[dif_pos (by rw[b];exact⟨e,by simp only;omega,by omega⟩)];simp only[b]
def M5{x:Bp}(c:Dd s n=(x,m,B))(b:(!B&&Ej s (AQ s m B) 44)=K):
  A4 s n=([x],B7 s m B 44,B):=by
 conv=>lhs;rw[A4]
 rw[dif_neg (by rw[c];intro h;rw[h.1]at b;cases b),c]
def Sa(s:bC)(a:Nat)(h:a<=s.size):(A4 s a).2.1<=s.size:=by
 fun_induction A4 s a with
 |case1 a hc _ _ ih=>exact ih (Eb _ _ _ _ (L7 _ _ h))
 |case2 a hc=>exact Eb _ _ _ _ (L7 _ _ h)
def W7(s:bC)(a:Nat):a<=(A4 s a).2.1:=by
 fun_induction A4 s a with
 |case1 a hc _ _ ih=>have:=hc.2.1;simp only;omega
 |case2 a hc=>
  have b:=aO s a;have c:=EZ s (Dd s a).2.1 (Dd s a).2.2 44;simp only;omega
def ET(s:bC)(mb bd:Bool)(a:Nat)(acc:QC Bp)(R:QC Bp×Nat×Bool):Prop:=
 if(mb&& !bd)=Cm then(acc++(A4 s a).1,(A4 s a).2)=R else(acc,a,bd)=R
def ET.step{c:QC Bp}{R:QC Bp×Nat×Bool}{t:Bp}(h:ET s Cm K n c R)(b:Dd s n=(t,m,B))(e:n<=s.size)(p:c.length<=n):
  B7 s m B 44<=s.size/\(c++[t]).length<=B7 s m B 44+1/\(((!B&&Ej s (AQ s m B) 44)&& !B)=Cm->(c++[t]).length<=B7 s m B 44)/\
  2*(s.size-B7 s m B 44)+(if((!B&&Ej s (AQ s m B) 44)&& !B)=Cm then 1 else 0)<2*(s.size-n)+1/\
  ET s (!B&&Ej s (AQ s m B) 44) B (B7 s m B 44) (c++[t]) R:=by
 have d:=L7 s n e;have l:=EZ s m B 44;have g:B=K->n<m:=λj=>by
  have:=Z4 (s:=s) (at_:=n) (by rw[b];exact j);rw[b]at this;exact this
 have o:n<=m:=by have:=aO s n;rw[b]at this;exact this
 rw[b]at d;simp only at d;have f:=Eb s m B 44 d;unfold ET at h;simp only[m4,od,if_true]at h;cases hm:(!B&&Ej s (AQ s m B) 44)with
 |true=>
  have k:B=K:=by cases B<;>simp_all
  subst k;obtain⟨q,i⟩:=Q1 b e hm;have:=g rfl;refine⟨f,by simp;omega,by simp;omega,by simp;omega,?_⟩;unfold ET;simp only[m4,od,if_true];rw[i]at h;rw[<-h];simp
 |false=>
  refine⟨f,by simp;omega,by simp,by simp;omega,?_⟩;unfold ET;rw[M5 b hm]at h;rw[<-h];simp
def ET.done{c b:Bool}{d L:QC Bp}(h:ET s c b n d (L,m,B))(e:(c&& !b)=K):d=L/\n=m/\b=B:=by
 unfold ET at h;rw[lO (by rw[e];exact nS)]at h;simpa using h
def FN:Nat->bC->bC
 |0,s=>s
 |k+1,s=>if 1<s.size/\CT s 0=48 then FN k (s.extract 1 s.size)else s
def B4(s:bC):bC:=if I7 s then FN s.size s else s
def KU(h:¬(1<s.size/\CT s 0=48)):FN k s=s:=by
 cases k with
 |zero=>rfl
 |succ k=>rw[FN,lO h]
set_option maxRecDepth 100000
theorem JZ(s:bC)(w:World)(u:s.size<=1000000):Calls prog 96 #[.string s] w λe a=>e=.returned (.string (B4 s))/\a=w:=by
 have c:=Nn s w;by_cases f:I7 s=Cm
 .rw[f]at c;obtain⟨T,i⟩:=QP (B4 s);rw[i];have g:Hid (FN s.size s=T):=by show _=_;rw[<-i];unfold B4;rw[f];rfl
  clear i f;go_enter func96,ntmps96;go_wp2_with (go_at_call 144;refine c.mono ?_;rintro e a ⟨rfl,rfl⟩)
  rename_i a _ _
  go_loopg [3] s.size (λgk o wr=>∃(t:bC),o=.string t/\Hid (FN gk t=T)/\t.size<=gk/\t.size<=1000000/\a=wr)
  case atStart=>exact⟨s,rfl,g,lX _,u,rfl⟩
  case round=>
   clear g;obtain⟨t,rfl,l,x,z,rfl⟩:=hrel;by_cases n:1<t.size
   ·(have r:(1:Int)<(t.size:Int):=by omega);(have m:CT t 0=t[0]:=by unfold CT;rw[dif_pos (by omega)]);by_cases b:t[0]=48
    ·(have q:((t[0].toNat:Int)==48)=Cm:=by rw[b];rfl);obtain⟨k,rfl⟩:∃k,gk=k+1:=⟨gk-1,by omega⟩;have v:Hid (FN k (t.extract 1 t.size)=T):=by
      have h:=Aa l;rw[FN,lS ⟨n,by rw[m];exact b⟩]at h;exact h
     (have y:(t.extract 1 t.size).size=t.size-1:=by rw[mP];omega);go_wp2
     go_roundg k
     case measure=>omega
     case rel=>exact⟨t.extract 1 t.size,rfl,v,by omega,by omega,rfl⟩
    .have q:((t[0].toNat:Int)==48)=K:=by
      rw[mq];intro d;apply b;apply nh.1;(have:t[0].toNat=48:=by omega);rw[this];rfl
     have j:Hid (t=T):=by
      have h:=Aa l;rw[KU (λd=>b (by rw[<-m];exact d.2))]at h;exact h
     go_wp2;go_ret;rw[<-Aa j];exact⟨rfl,rfl⟩
   ·(have r:¬(1:Int)<(t.size:Int):=by omega);have j:Hid (t=T):=by
     have h:=Aa l;rw[KU (λd=>n d.1)]at h;exact h
    go_wp2;go_ret;rw[<-Aa j];exact⟨rfl,rfl⟩
 .have p:I7 s=K:=by simpa using f
  rw[p]at c;have g:Hid (B4 s=s):=by show _=_;unfold B4;rw[p];rfl
  rw[Aa g];go_enter func96,ntmps96;go_wp2_with (go_at_call 144;refine c.mono ?_;rintro e a ⟨rfl,rfl⟩)
  all_goals go_ret
  all_goals exact⟨rfl,rfl⟩
