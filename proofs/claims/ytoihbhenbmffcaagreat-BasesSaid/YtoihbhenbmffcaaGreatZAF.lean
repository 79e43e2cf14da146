import Derived.Test.YtoihbhenbmffcaaGreatZAE
import Derived.Test.YtoihbhenbmffcaaGreatZAB
set_option linter.all false
set_option maxHeartbeats 0
open Bool renaming false->K,true->hG
namespace Go.Proofs.YtoihbhenbmffcaaGreat
open Go.RowKit Go.Proofs.Tryz
variable{s:zA}{n m k:Nat}{B:Bool}{g:UInt8}
def cc(b:Nat)(s:zA)(a:Nat)(w:World)(m:s.size<=1000000)(i:a<=s.size)(l:AF w b (BL s a K) 81):
  Calls prog 114 #[.pointer (some ⟨b,0,none⟩)] w λe k=>∃q,e=.returned (.agg (Co (Dj s a).1 q).toArray)/\
   k.ownsRow w.heap.size 135 2 q (Dj s a).1.A.args.length ((Dj s a).1.A.args.flatMap AP)/\AF k b (BL s (Dj s a).2.1 (Dj s a).2.2) 81/\Ac [b] w k:=by
 obtain⟨j,c⟩:=kK (Ae s a);have u:j<=s.size:=by have:=Bj s a i;omega
 cases hx:DV s j 33 with
 |true=>
  have e:Dj s a=(⟨33,(AV s (j+1) K).1,Ej,Ej,j⟩,(AV s (j+1) K).2):=by unfold Dj;simp only[c,hx,if_true]
  rw[e];exact bL b s a j w m i c hx l
 |false=>
  cases hlo:(Ff s j&&Lp s j)with
  |true=>
   (have e:Dj s a=(⟨97,(AV s j K).1,Ej,Ej,j⟩,(AV s j K).2):=by unfold Dj;simp only[c,hx,hlo,if_true,fq,if_false]);rw[e];simp only[fU]at hlo;have n:j<s.size:=by
    have h:=hlo.1;unfold Ff at h;split at h
    .assumption
    .cases h
   (have r:Az s[j]=hG:=by have h:=hlo.1;unfold Ff at h;simpa[n] using h);exact aH b s a j w m i c hx n r hlo.2 l
  |false=>
   obtain⟨t,f,d,p⟩:∃t f d,AK s j K=(t,f,d):=⟨_,_,_,rfl⟩;obtain⟨g,o⟩:=kK (AN s f d);(have e:Dj s a=Hz s j g t d:=by unfold Dj;simp only[c,hx,hlo,p,o,fq,if_false]);rw[e];exact cm b s a j w t f g d m i c hx hlo ⟨p,o⟩ l
def Jo(s:zA)(a:Nat)(b:Bool):a<=AN s a b:=by
 unfold AN;split
 .exact fJ _
 .exact BR s a
def Qr(s:zA)(a:Nat)(b:Bool):a<=(A3 s a b).2.1:=by
 have c:=BR s a;have d:=Cr Az s (Ae s a);unfold A3;split
 .exact fJ _
 .split<;>simp only<;>omega
def J4(s:zA)(a:Nat)(c:Bool):a<=(AK s a c).2.1:=by
 have b:=BR s a;have d:=Cr Aq s (Ae s a);have e:=Qr s (Ae s a) K;unfold AK;split
 .exact fJ _
 .split
  .split
   .simp only;omega
   .split
    .simp only;omega
    .split<;>simp only<;>omega
  .exact b
def ZZ(s:zA)(a:Nat):a<=(Cy s a).2.1:=by
 fun_induction Cy s a with
 |case1 a hc _ _ ih=>have:=hc.2.1;simp only;omega
 |case2 a hc=>
  have b:=J4 s a K;have c:=Eb s (AK s a K).2.1 (AK s a K).2.2 44;simp only;omega
def Uh(s:zA)(p:Nat×Bool):p.1<=(Eo s p).2.1:=by
 unfold Eo;split
 .exact fJ _
 .exact ZZ s p.1
def Zz(s:zA)(p:Nat×Bool)(h:p.1<=s.size):(Eo s p).2.1<=s.size:=by
 unfold Eo;split
 .exact h
 .exact Ut s p.1 h
def RM(h:(Bm s n B g).2=K):n<(Bm s n B g).1:=by
 unfold Bm BW at*;have:=Jo s n B;simp only at h⊢;have a:(!B&&DV s (AN s n B) g)=hG:=by simpa using h
 rw[fF a];omega
def J0(s:zA)(b:Nat)(a:Bool):b<=(AV s b a).2.1:=by
 unfold AV;simp only;have f:=Jo s b a;have d:=Qr s (AN s b a) a;have h:=Eb s (A3 s (AN s b a) a).2.1 (A3 s (AN s b a) a).2.2 40;have e:=Uh s (Bm s (A3 s (AN s b a) a).2.1 (A3 s (AN s b a) a).2.2 40);have g:=Eb s (Eo s (Bm s (A3 s (AN s b a) a).2.1 (A3 s (AN s b a) a).2.2 40)).2.1 (Eo s (Bm s (A3 s (AN s b a) a).2.1 (A3 s (AN s b a) a).2.2 40)).2.2 41;have c:(Bm s (A3 s (AN s b a) a).2.1 (A3 s (AN s b a) a).2.2 40).1=BW s (A3 s (AN s b a) a).2.1 (A3 s (AN s b a) a).2.2 40:=rfl;show b<=BW s _ _ 41;omega
def ak(h:(AV s n B).2.2=K):n<(AV s n B).2.1:=by
 unfold AV at h⊢;simp only at h⊢;have d:=Jo s n B;have b:=Qr s (AN s n B) B;have f:=Eb s (A3 s (AN s n B) B).2.1 (A3 s (AN s n B) B).2.2 40;have c:=Uh s (Bm s (A3 s (AN s n B) B).2.1 (A3 s (AN s n B) B).2.2 40);have e:=RM h;have a:(Bm s (A3 s (AN s n B) B).2.1 (A3 s (AN s n B) B).2.2 40).1=BW s (A3 s (AN s n B) B).2.1 (A3 s (AN s n B) B).2.2 40:=rfl;omega
def IB(s:zA)(a:Nat)(b:Bool)(h:a<=s.size):(AV s a b).2.1<=s.size:=by
 unfold AV;simp only;exact DB _ _ _ _ (Zz _ _ (DB _ _ _ _ (Hc _ _ _ (Gq _ _ _ h))))
def KF(s:zA)(a:Nat)(h:a<=s.size):(Dj s a).2.1<=s.size:=by
 have c:=Bj s a h;unfold Dj;simp only;split
 .rename_i f;have:=Fm f;exact IB _ _ _ (by omega)
 .split
  .exact IB _ _ _ c
  .have e:=Gq s _ (AK s (Ae s a) K).2.2 (Fp s (Ae s a) K c);unfold Hz;split
   .rename_i d;simp only[fU,ie]at d;have:AN s (AK s (Ae s a) K).2.1 (AK s (Ae s a) K).2.2<s.size:=by
     rcases d.2 with(b|b)|b<;>exact Fm b
    exact Fp _ _ _ (by omega)
   .exact e
def XF(s:zA)(a:Nat):a<=(Dj s a).2.1:=by
 have b:=BR s a;unfold Dj;simp only;split
 .have:=J0 s (Ae s a+1) K;simp only;omega
 .split
  .have:=J0 s (Ae s a) K;simp only;omega
  .have c:=J4 s (Ae s a) K;have d:=Jo s (AK s (Ae s a) K).2.1 (AK s (Ae s a) K).2.2;unfold Hz;split
   .have:=J4 s (AN s (AK s (Ae s a) K).2.1 (AK s (Ae s a) K).2.2+1) K;simp only;omega
   .simp only;omega
def Xg{at_:Nat}(h:(Dj s at_).2.2=K):at_<(Dj s at_).2.1:=by
 have e:=BR s at_;unfold Dj at h⊢;simp only at h⊢;split
 .have:=J0 s (Ae s at_+1) K;simp only;omega
 .rename_i c;simp only[c,fq,if_false]at h;split
  .rename_i a;simp only[a,if_true]at h;have:=ak h;simp only;omega
  .rename_i a;simp only[a,fq,if_false]at h;have d:=J4 s (Ae s at_) K;have f:=Jo s (AK s (Ae s at_) K).2.1 (AK s (Ae s at_) K).2.2;unfold Hz at h⊢;split
   .have:=J4 s (AN s (AK s (Ae s at_) K).2.1 (AK s (Ae s at_) K).2.2+1) K;simp only;omega
   .rename_i b;simp only[b,fq,if_false]at h;cases h
def Da(s:zA)(at_:Nat):kJ BH×Nat×Bool:=
 if h:(!(Dj s at_).2.2&&DV s (AN s (Dj s at_).2.1 (Dj s at_).2.2) 44)=hG/\at_<BW s (Dj s at_).2.1 (Dj s at_).2.2 44/\at_<s.size then
  have _h1:at_<s.size:=h.2.2;have _h2:=h.2.1
  ((Dj s at_).1::(Da s (BW s (Dj s at_).2.1 (Dj s at_).2.2 44)).1,(Da s (BW s (Dj s at_).2.1 (Dj s at_).2.2 44)).2)
 else([(Dj s at_).1],BW s (Dj s at_).2.1 (Dj s at_).2.2 44,(Dj s at_).2.2)
def Px{at_ a:Nat}{x:BH}(b:Dj s at_=(x,a,B))(g:at_<=s.size)(e:(!B&&DV s (AN s a B) 44)=hG):
  at_<BW s a B 44/\Da s at_=(x::(Da s (BW s a B 44)).1,(Da s (BW s a B 44)).2):=by
 have f:B=K:=by cases B<;>simp_all
 subst f;have d:=Xg (s:=s) (at_:=at_) (by rw[b]);have c:=KF s at_ g;rw[b]at d c;simp only at d c;have h:=Eb s a K 44;refine⟨by omega,?_⟩
 conv=>lhs;rw[Da]
 rw[dif_pos (by rw[b];exact⟨e,by simp only;omega,by omega⟩)];simp only[b]
def LA{x:BH}(c:Dj s n=(x,m,B))(b:(!B&&DV s (AN s m B) 44)=K):
  Da s n=([x],BW s m B 44,B):=by
 conv=>lhs;rw[Da]
 rw[dif_neg (by rw[c];intro h;rw[h.1]at b;cases b),c]
def UZ(s:zA)(a:Nat)(h:a<=s.size):(Da s a).2.1<=s.size:=by
 fun_induction Da s a with
 |case1 a hc _ _ ih=>exact ih (DB _ _ _ _ (KF _ _ h))
 |case2 a hc=>exact DB _ _ _ _ (KF _ _ h)
def Uw(s:zA)(a:Nat):a<=(Da s a).2.1:=by
 fun_induction Da s a with
 |case1 a hc _ _ ih=>have:=hc.2.1;simp only;omega
 |case2 a hc=>
  have b:=XF s a;have c:=Eb s (Dj s a).2.1 (Dj s a).2.2 44;simp only;omega
def D6(s:zA)(mb bd:Bool)(a:Nat)(acc:kJ BH)(R:kJ BH×Nat×Bool):Prop:=
 if(mb&& !bd)=hG then(acc++(Da s a).1,(Da s a).2)=R else(acc,a,bd)=R
def D6.step{c:kJ BH}{R:kJ BH×Nat×Bool}{t:BH}(h:D6 s hG K n c R)(b:Dj s n=(t,m,B))(e:n<=s.size)(p:c.length<=n):
  BW s m B 44<=s.size/\(c++[t]).length<=BW s m B 44+1/\(((!B&&DV s (AN s m B) 44)&& !B)=hG->(c++[t]).length<=BW s m B 44)/\
  2*(s.size-BW s m B 44)+(if((!B&&DV s (AN s m B) 44)&& !B)=hG then 1 else 0)<2*(s.size-n)+1/\
  D6 s (!B&&DV s (AN s m B) 44) B (BW s m B 44) (c++[t]) R:=by
 have d:=KF s n e;have l:=Eb s m B 44;have g:B=K->n<m:=λj=>by
  have:=Xg (s:=s) (at_:=n) (by rw[b];exact j);rw[b]at this;exact this
 have o:n<=m:=by have:=XF s n;rw[b]at this;exact this
 rw[b]at d;simp only at d;have f:=DB s m B 44 d;unfold D6 at h;simp only[gX,iY,if_true]at h;cases hm:(!B&&DV s (AN s m B) 44)with
 |true=>
  have k:B=K:=by cases B<;>simp_all
  subst k;obtain⟨q,i⟩:=Px b e hm;have:=g rfl;refine⟨f,by simp;omega,by simp;omega,by simp;omega,?_⟩;unfold D6;simp only[gX,iY,if_true];rw[i]at h;rw[<-h];simp
 |false=>
  refine⟨f,by simp;omega,by simp,by simp;omega,?_⟩;unfold D6;rw[LA b hm]at h;rw[<-h];simp
def D6.done{c b:Bool}{d L:kJ BH}(h:D6 s c b n d (L,m,B))(e:(c&& !b)=K):d=L/\n=m/\b=B:=by
 unfold D6 at h;rw[fB (by rw[e];exact iC)]at h;simpa using h
def E7:Nat->zA->zA
 |0,s=>s
 |k+1,s=>if 1<s.size/\Cw s 0=48 then E7 k (s.extract 1 s.size)else s
def BN(s:zA):zA:=if Hx s then E7 s.size s else s
def JK(h:¬(1<s.size/\Cw s 0=48)):E7 k s=s:=by
 cases k with
 |zero=>rfl
 |succ k=>rw[E7,fB h]
set_option maxRecDepth 100000
theorem Ol(s:zA)(w:World)(u:s.size<=1000000):Calls prog 92 #[.string s] w λe a=>e=.returned (.string (BN s))/\a=w:=by
 have c:=LU s w;by_cases f:Hx s=hG
 .rw[f]at c;obtain⟨T,i⟩:=kK (BN s);rw[i];have g:Hid (E7 s.size s=T):=by show _=_;rw[<-i];unfold BN;rw[f];rfl
  clear i f;go_enter func92,ntmps92;go_wp2_with (go_at_call 127;refine c.mono ?_;rintro e a ⟨rfl,rfl⟩)
  rename_i a _ _
  go_loopg [3] s.size (λgk o wr=>∃(t:zA),o=.string t/\Hid (E7 gk t=T)/\t.size<=gk/\t.size<=1000000/\a=wr)
  case atStart=>exact⟨s,rfl,g,fJ _,u,rfl⟩
  case round=>
   clear g;obtain⟨t,rfl,l,x,z,rfl⟩:=hrel;by_cases n:1<t.size
   ·(have r:(1:Int)<(t.size:Int):=by omega);(have m:Cw t 0=t[0]:=by unfold Cw;rw[dif_pos (by omega)]);by_cases b:t[0]=48
    ·(have q:((t[0].toNat:Int)==48)=hG:=by rw[b];rfl);obtain⟨k,rfl⟩:∃k,gk=k+1:=⟨gk-1,by omega⟩;have v:Hid (E7 k (t.extract 1 t.size)=T):=by
      have h:=Aa l;rw[E7,fF ⟨n,by rw[m];exact b⟩]at h;exact h
     (have y:(t.extract 1 t.size).size=t.size-1:=by rw[iA];omega);go_wp2
     go_roundg k
     case measure=>omega
     case rel=>exact⟨t.extract 1 t.size,rfl,v,by omega,by omega,rfl⟩
    .have q:((t[0].toNat:Int)==48)=K:=by
      rw[gm];intro d;apply b;apply il.1;(have:t[0].toNat=48:=by omega);rw[this];rfl
     have j:Hid (t=T):=by
      have h:=Aa l;rw[JK (λd=>b (by rw[<-m];exact d.2))]at h;exact h
     go_wp2;go_ret;rw[<-Aa j];exact⟨rfl,rfl⟩
   ·(have r:¬(1:Int)<(t.size:Int):=by omega);have j:Hid (t=T):=by
     have h:=Aa l;rw[JK (λd=>n d.1)]at h;exact h
    go_wp2;go_ret;rw[<-Aa j];exact⟨rfl,rfl⟩
 .have p:Hx s=K:=by simpa using f
  rw[p]at c;have g:Hid (BN s=s):=by show _=_;unfold BN;rw[p];rfl
  rw[Aa g];go_enter func92,ntmps92;go_wp2_with (go_at_call 127;refine c.mono ?_;rintro e a ⟨rfl,rfl⟩)
  all_goals go_ret
  all_goals exact⟨rfl,rfl⟩
