import Derived.Test.YtoihbhenbmffcaaGreatDoorTAE
import Derived.Test.YtoihbhenbmffcaaGreatDoorTAB
set_option linter.all false
set_option maxHeartbeats 0
open Bool renaming false->K,true->jj
namespace Go.Proofs.YtoihbhenbmffcaaGreatDoor
open Go.RowKit Go.Proofs.Tryz
variable{s:zA}{n m k:Nat}{B:Bool}{g:UInt8}
def iL(b:Nat)(s:zA)(a:Nat)(w:World)(m:s.size<=1000000)(i:a<=s.size)(l:AI w b (B7 s a K) 73):
  Calls prog 129 #[.pointer (some ⟨b,0,none⟩)] w λe k=>∃q,e=.returned (.agg (CB (CI s a).1 q).toArray)/\
   k.ownsRow w.heap.size 93 2 q (CI s a).1.A.args.length ((CI s a).1.A.args.flatMap AQ)/\AI k b (B7 s (CI s a).2.1 (CI s a).2.2) 73/\Ac [b] w k:=by
 obtain⟨j,c⟩:=rd (Ae s a);have u:j<=s.size:=by have:=Bp s a i;omega
 cases hx:DM s j 33 with
 |true=>
  have e:CI s a=(⟨33,(A4 s (j+1) K).1,Ec,Ec,j⟩,(A4 s (j+1) K).2):=by unfold CI;simp only[c,hx,if_true]
  rw[e];exact iu b s a j w m i c hx l
 |false=>
  cases hlo:(CT s j&&Gs s j)with
  |true=>
   (have e:CI s a=(⟨97,(A4 s j K).1,Ec,Ec,j⟩,(A4 s j K).2):=by unfold CI;simp only[c,hx,hlo,if_true,mC,if_false]);rw[e];simp only[mV]at hlo;have n:j<s.size:=by
    have h:=hlo.1;unfold CT at h;split at h
    .assumption
    .cases h
   (have r:AA s[j]=jj:=by have h:=hlo.1;unfold CT at h;simpa[n] using h);exact fY b s a j w m i c hx n r hlo.2 l
  |false=>
   obtain⟨t,f,d,p⟩:∃t f d,Az s j K=(t,f,d):=⟨_,_,_,rfl⟩;obtain⟨g,o⟩:=rd (AF s f d);(have e:CI s a=In s j g t d:=by unfold CI;simp only[c,hx,hlo,p,o,mC,if_false]);rw[e];exact iR b s a j w t f g d m i c hx hlo ⟨p,o⟩ l
def Lf(s:zA)(a:Nat)(b:Bool):a<=AF s a b:=by
 unfold AF;split
 .exact mP _
 .exact B1 s a
def SK(s:zA)(a:Nat)(b:Bool):a<=(AY s a b).2.1:=by
 have c:=B1 s a;have d:=CD AA s (Ae s a);unfold AY;split
 .exact mP _
 .split<;>simp only<;>omega
def Mb(s:zA)(a:Nat)(c:Bool):a<=(Az s a c).2.1:=by
 have b:=B1 s a;have d:=CD Ap s (Ae s a);have e:=SK s (Ae s a) K;unfold Az;split
 .exact mP _
 .split
  .split
   .simp only;omega
   .split
    .simp only;omega
    .split<;>simp only<;>omega
  .exact b
def ff(s:zA)(a:Nat):a<=(Cq s a).2.1:=by
 fun_induction Cq s a with
 |case1 a hc _ _ ih=>have:=hc.2.1;simp only;omega
 |case2 a hc=>
  have b:=Mb s a K;have c:=DE s (Az s a K).2.1 (Az s a K).2.2 44;simp only;omega
def Xl(s:zA)(p:Nat×Bool):p.1<=(DZ s p).2.1:=by
 unfold DZ;split
 .exact mP _
 .exact ff s p.1
def ez(s:zA)(p:Nat×Bool)(h:p.1<=s.size):(DZ s p).2.1<=s.size:=by
 unfold DZ;split
 .exact h
 .exact XA s p.1 h
def Up(h:(Bk s n B g).2=K):n<(Bk s n B g).1:=by
 unfold Bk Cg at*;have:=Lf s n B;simp only at h⊢;have a:(!B&&DM s (AF s n B) g)=jj:=by simpa using h
 rw[mK a];omega
def L7(s:zA)(b:Nat)(a:Bool):b<=(A4 s b a).2.1:=by
 unfold A4;simp only;have f:=Lf s b a;have d:=SK s (AF s b a) a;have h:=DE s (AY s (AF s b a) a).2.1 (AY s (AF s b a) a).2.2 40;have e:=Xl s (Bk s (AY s (AF s b a) a).2.1 (AY s (AF s b a) a).2.2 40);have g:=DE s (DZ s (Bk s (AY s (AF s b a) a).2.1 (AY s (AF s b a) a).2.2 40)).2.1 (DZ s (Bk s (AY s (AF s b a) a).2.1 (AY s (AF s b a) a).2.2 40)).2.2 41;have c:(Bk s (AY s (AF s b a) a).2.1 (AY s (AF s b a) a).2.2 40).1=Cg s (AY s (AF s b a) a).2.1 (AY s (AF s b a) a).2.2 40:=rfl;show b<=Cg s _ _ 41;omega
def fG(h:(A4 s n B).2.2=K):n<(A4 s n B).2.1:=by
 unfold A4 at h⊢;simp only at h⊢;have d:=Lf s n B;have b:=SK s (AF s n B) B;have f:=DE s (AY s (AF s n B) B).2.1 (AY s (AF s n B) B).2.2 40;have c:=Xl s (Bk s (AY s (AF s n B) B).2.1 (AY s (AF s n B) B).2.2 40);have e:=Up h;have a:(Bk s (AY s (AF s n B) B).2.1 (AY s (AF s n B) B).2.2 40).1=Cg s (AY s (AF s n B) B).2.1 (AY s (AF s n B) B).2.2 40:=rfl;omega
def IZ(s:zA)(a:Nat)(b:Bool)(h:a<=s.size):(A4 s a b).2.1<=s.size:=by
 unfold A4;simp only;exact Dm _ _ _ _ (ez _ _ (Dm _ _ _ _ (Hk _ _ _ (Gx _ _ _ h))))
def JC(s:zA)(a:Nat)(h:a<=s.size):(CI s a).2.1<=s.size:=by
 have c:=Bp s a h;unfold CI;simp only;split
 .rename_i f;have:=Fe f;exact IZ _ _ _ (by omega)
 .split
  .exact IZ _ _ _ c
  .have e:=Gx s _ (Az s (Ae s a) K).2.2 (Fh s (Ae s a) K c);unfold In;split
   .rename_i d;simp only[mV,om]at d;have:AF s (Az s (Ae s a) K).2.1 (Az s (Ae s a) K).2.2<s.size:=by
     rcases d.2 with(b|b)|b<;>exact Fe b
    exact Fh _ _ _ (by omega)
   .exact e
def bF(s:zA)(a:Nat):a<=(CI s a).2.1:=by
 have b:=B1 s a;unfold CI;simp only;split
 .have:=L7 s (Ae s a+1) K;simp only;omega
 .split
  .have:=L7 s (Ae s a) K;simp only;omega
  .have c:=Mb s (Ae s a) K;have d:=Lf s (Az s (Ae s a) K).2.1 (Az s (Ae s a) K).2.2;unfold In;split
   .have:=Mb s (AF s (Az s (Ae s a) K).2.1 (Az s (Ae s a) K).2.2+1) K;simp only;omega
   .simp only;omega
def VM{at_:Nat}(h:(CI s at_).2.2=K):at_<(CI s at_).2.1:=by
 have e:=B1 s at_;unfold CI at h⊢;simp only at h⊢;split
 .have:=L7 s (Ae s at_+1) K;simp only;omega
 .rename_i c;simp only[c,mC,if_false]at h;split
  .rename_i a;simp only[a,if_true]at h;have:=fG h;simp only;omega
  .rename_i a;simp only[a,mC,if_false]at h;have d:=Mb s (Ae s at_) K;have f:=Lf s (Az s (Ae s at_) K).2.1 (Az s (Ae s at_) K).2.2;unfold In at h⊢;split
   .have:=Mb s (AF s (Az s (Ae s at_) K).2.1 (Az s (Ae s at_) K).2.2+1) K;simp only;omega
   .rename_i b;simp only[b,mC,if_false]at h;cases h
def Bg(s:zA)(at_:Nat):rc Bw×Nat×Bool:=
 if h:(!(CI s at_).2.2&&DM s (AF s (CI s at_).2.1 (CI s at_).2.2) 44)=jj/\at_<Cg s (CI s at_).2.1 (CI s at_).2.2 44/\at_<s.size then
  have _h1:at_<s.size:=h.2.2;have _h2:=h.2.1
  ((CI s at_).1::(Bg s (Cg s (CI s at_).2.1 (CI s at_).2.2 44)).1,(Bg s (Cg s (CI s at_).2.1 (CI s at_).2.2 44)).2)
 else([(CI s at_).1],Cg s (CI s at_).2.1 (CI s at_).2.2 44,(CI s at_).2.2)
def NJ{at_ a:Nat}{x:Bw}(b:CI s at_=(x,a,B))(g:at_<=s.size)(e:(!B&&DM s (AF s a B) 44)=jj):
  at_<Cg s a B 44/\Bg s at_=(x::(Bg s (Cg s a B 44)).1,(Bg s (Cg s a B 44)).2):=by
 have f:B=K:=by cases B<;>simp_all
 subst f;have d:=VM (s:=s) (at_:=at_) (by rw[b]);have c:=JC s at_ g;rw[b]at d c;simp only at d c;have h:=DE s a K 44;refine⟨by omega,?_⟩
 conv=>lhs;rw[Bg]
 rw[dif_pos (by rw[b];exact⟨e,by simp only;omega,by omega⟩)];simp only[b]
def KQ{x:Bw}(c:CI s n=(x,m,B))(b:(!B&&DM s (AF s m B) 44)=K):
  Bg s n=([x],Cg s m B 44,B):=by
 conv=>lhs;rw[Bg]
 rw[dif_neg (by rw[c];intro h;rw[h.1]at b;cases b),c]
def SG(s:zA)(a:Nat)(h:a<=s.size):(Bg s a).2.1<=s.size:=by
 fun_induction Bg s a with
 |case1 a hc _ _ ih=>exact ih (Dm _ _ _ _ (JC _ _ h))
 |case2 a hc=>exact Dm _ _ _ _ (JC _ _ h)
def XE(s:zA)(a:Nat):a<=(Bg s a).2.1:=by
 fun_induction Bg s a with
 |case1 a hc _ _ ih=>have:=hc.2.1;simp only;omega
 |case2 a hc=>
  have b:=bF s a;have c:=DE s (CI s a).2.1 (CI s a).2.2 44;simp only;omega
def EZ(s:zA)(mb bd:Bool)(a:Nat)(acc:rc Bw)(R:rc Bw×Nat×Bool):Prop:=
 if(mb&& !bd)=jj then(acc++(Bg s a).1,(Bg s a).2)=R else(acc,a,bd)=R
def EZ.step{c:rc Bw}{R:rc Bw×Nat×Bool}{t:Bw}(h:EZ s jj K n c R)(b:CI s n=(t,m,B))(e:n<=s.size)(p:c.length<=n):
  Cg s m B 44<=s.size/\(c++[t]).length<=Cg s m B 44+1/\(((!B&&DM s (AF s m B) 44)&& !B)=jj->(c++[t]).length<=Cg s m B 44)/\
  2*(s.size-Cg s m B 44)+(if((!B&&DM s (AF s m B) 44)&& !B)=jj then 1 else 0)<2*(s.size-n)+1/\
  EZ s (!B&&DM s (AF s m B) 44) B (Cg s m B 44) (c++[t]) R:=by
 have d:=JC s n e;have l:=DE s m B 44;have g:B=K->n<m:=λj=>by
  have:=VM (s:=s) (at_:=n) (by rw[b];exact j);rw[b]at this;exact this
 have o:n<=m:=by have:=bF s n;rw[b]at this;exact this
 rw[b]at d;simp only at d;have f:=Dm s m B 44 d;unfold EZ at h;simp only[nZ,pE,if_true]at h;cases hm:(!B&&DM s (AF s m B) 44)with
 |true=>
  have k:B=K:=by cases B<;>simp_all
  subst k;obtain⟨q,i⟩:=NJ b e hm;have:=g rfl;refine⟨f,by simp;omega,by simp;omega,by simp;omega,?_⟩;unfold EZ;simp only[nZ,pE,if_true];rw[i]at h;rw[<-h];simp
 |false=>
  refine⟨f,by simp;omega,by simp,by simp;omega,?_⟩;unfold EZ;rw[KQ b hm]at h;rw[<-h];simp
def EZ.done{c b:Bool}{d L:rc Bw}(h:EZ s c b n d (L,m,B))(e:(c&& !b)=K):d=L/\n=m/\b=B:=by
 unfold EZ at h;rw[mJ (by rw[e];exact oV)]at h;simpa using h
def F4:Nat->zA->zA
 |0,s=>s
 |k+1,s=>if 1<s.size/\CN s 0=48 then F4 k (s.extract 1 s.size)else s
def B5(s:zA):zA:=if Jw s then F4 s.size s else s
def LQ(h:¬(1<s.size/\CN s 0=48)):F4 k s=s:=by
 cases k with
 |zero=>rfl
 |succ k=>rw[F4,mJ h]
set_option maxRecDepth 100000
theorem Kv(s:zA)(w:World)(u:s.size<=1000000):Calls prog 96 #[.string s] w λe a=>e=.returned (.string (B5 s))/\a=w:=by
 have c:=Ob s w;by_cases f:Jw s=jj
 .rw[f]at c;obtain⟨T,i⟩:=rd (B5 s);rw[i];have g:Hid (F4 s.size s=T):=by show _=_;rw[<-i];unfold B5;rw[f];rfl
  clear i f;go_enter func96,ntmps96;go_wp2_with (go_at_call 144;refine c.mono ?_;rintro e a ⟨rfl,rfl⟩)
  rename_i a _ _
  go_loopg [3] s.size (λgk o wr=>∃(t:zA),o=.string t/\Hid (F4 gk t=T)/\t.size<=gk/\t.size<=1000000/\a=wr)
  case atStart=>exact⟨s,rfl,g,mP _,u,rfl⟩
  case round=>
   clear g;obtain⟨t,rfl,l,x,z,rfl⟩:=hrel;by_cases n:1<t.size
   ·(have r:(1:Int)<(t.size:Int):=by omega);(have m:CN t 0=t[0]:=by unfold CN;rw[dif_pos (by omega)]);by_cases b:t[0]=48
    ·(have q:((t[0].toNat:Int)==48)=jj:=by rw[b];rfl);obtain⟨k,rfl⟩:∃k,gk=k+1:=⟨gk-1,by omega⟩;have v:Hid (F4 k (t.extract 1 t.size)=T):=by
      have h:=Aa l;rw[F4,mK ⟨n,by rw[m];exact b⟩]at h;exact h
     (have y:(t.extract 1 t.size).size=t.size-1:=by rw[n7];omega);go_wp2
     go_roundg k
     case measure=>omega
     case rel=>exact⟨t.extract 1 t.size,rfl,v,by omega,by omega,rfl⟩
    .have q:((t[0].toNat:Int)==48)=K:=by
      rw[nj];intro d;apply b;apply oE.1;(have:t[0].toNat=48:=by omega);rw[this];rfl
     have j:Hid (t=T):=by
      have h:=Aa l;rw[LQ (λd=>b (by rw[<-m];exact d.2))]at h;exact h
     go_wp2;go_ret;rw[<-Aa j];exact⟨rfl,rfl⟩
   ·(have r:¬(1:Int)<(t.size:Int):=by omega);have j:Hid (t=T):=by
     have h:=Aa l;rw[LQ (λd=>n d.1)]at h;exact h
    go_wp2;go_ret;rw[<-Aa j];exact⟨rfl,rfl⟩
 .have p:Jw s=K:=by simpa using f
  rw[p]at c;have g:Hid (B5 s=s):=by show _=_;unfold B5;rw[p];rfl
  rw[Aa g];go_enter func96,ntmps96;go_wp2_with (go_at_call 144;refine c.mono ?_;rintro e a ⟨rfl,rfl⟩)
  all_goals go_ret
  all_goals exact⟨rfl,rfl⟩
