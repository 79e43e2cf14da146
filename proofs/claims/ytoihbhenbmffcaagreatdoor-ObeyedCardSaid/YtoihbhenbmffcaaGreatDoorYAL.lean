import Derived.Test.YtoihbhenbmffcaaGreatDoorYAK
import Derived.Test.YtoihbhenbmffcaaGreatDoorYAC
set_option linter.all false
set_option maxHeartbeats 0
open Bool renaming false->K,true->j1
namespace Go.Proofs.YtoihbhenbmffcaaGreatDoor
open Go.RowKit Go.Proofs.Tryz
def dv(b:Nat)(s:zA)(at_:Nat)(w:World)(hs:s.size<=1000000)(hat:at_<=s.size)(hB:AH w b (BO s at_ K) 73):
  Calls prog 129 #[.pointer (some ⟨b,0,none⟩)] w λe w'=>∃av,e=.returned (.agg (CJ (Da s at_).1 av).toArray)/\
   w'.ownsRow w.heap.size 93 2 av (Da s at_).1.A.args.length ((Da s at_).1.A.args.flatMap AU)/\AH w' b (BO s (Da s at_).2.1 (Da s at_).2.2) 73/\Ac [b] w w':=by
 obtain⟨j,hj⟩:∃j,Ae s at_=j:=⟨_,rfl⟩;have hjs:j<=s.size:=by have:=Bp s at_ hat;omega
 cases hx:D1 s j 33 with
 |true=>
  have e:Da s at_=(⟨33,(AS s (j+1) K).1,Dm,Dm,j⟩,(AS s (j+1) K).2):=by unfold Da;simp only[hj,hx,if_true]
  rw[e];exact dh b s at_ j w hs hat hj hx hB
 |false=>
  cases hlo:(Fe s j&&LG s j)with
  |true=>
   (have e:Da s at_=(⟨97,(AS s j K).1,Dm,Dm,j⟩,(AS s j K).2):=by unfold Da;simp only[hj,hx,hlo,if_true,gO,if_false]);rw[e];simp only[iq]at hlo;have zY:j<s.size:=by
    have h:=hlo.1;unfold Fe at h;split at h
    .assumption
    .cases h
   (have hl:Az s[j]=j1:=by have h:=hlo.1;unfold Fe at h;simpa[zY] using h);exact bW b s at_ j w hs hat hj hx zY hl hlo.2 hB
  |false=>
   obtain⟨t,a2,b2,ht⟩:∃t a2 b2,AI s j K=(t,a2,b2):=⟨_,_,_,rfl⟩;obtain⟨a3,ha3⟩:∃a3,AM s a2 b2=a3:=⟨_,rfl⟩;(have e:Da s at_=Ig s j a3 t b2:=by unfold Da;simp only[hj,hx,hlo,ht,ha3,gO,if_false]);rw[e];exact dB b s at_ j w t a2 a3 b2 hs hat hj hx hlo ⟨ht,ha3⟩ hB
def JA(s:zA)(at_:Nat)(a:Bool):at_<=AM s at_ a:=by
 unfold AM;split
 .exact ig _
 .exact BU s at_
def QD(s:zA)(at_:Nat)(a:Bool):at_<=(AY s at_ a).2.1:=by
 have b:=BU s at_;have c:=B7 Az s (Ae s at_);unfold AY;split
 .exact ig _
 .split<;>simp only<;>omega
def Kk(s:zA)(at_:Nat)(b:Bool):at_<=(AI s at_ b).2.1:=by
 have a:=BU s at_;have c:=B7 Ao s (Ae s at_);have d:=QD s (Ae s at_) K;unfold AI;split
 .exact ig _
 .split
  .split
   .simp only;omega
   .split
    .simp only;omega
    .split<;>simp only<;>omega
  .exact a
def bf(s:zA)(at_:Nat):at_<=(Ch s at_).2.1:=by
 fun_induction Ch s at_ with
 |case1 at_ hc _ _ ih=>have:=hc.2.1;simp only;omega
 |case2 at_ hc=>
  have a:=Kk s at_ K;have b:=Ek s (AI s at_ K).2.1 (AI s at_ K).2.2 44;simp only;omega
def UT(s:zA)(p:Nat×Bool):p.1<=(D2 s p).2.1:=by
 unfold D2;split
 .exact ig _
 .exact bf s p.1
def ay(s:zA)(p:Nat×Bool)(h:p.1<=s.size):(D2 s p).2.1<=s.size:=by
 unfold D2;split
 .exact h
 .exact U9 s p.1 h
def R8{s:zA}{at_:Nat}{a:Bool}{c:UInt8}(h:(Bn s at_ a c).2=K):at_<(Bn s at_ a c).1:=by
 unfold Bn BX at*;have:=JA s at_ a;simp only at h⊢;have b:(!a&&D1 s (AM s at_ a) c)=j1:=by simpa using h
 rw[gY b];omega
def Kh(s:zA)(at_:Nat)(a:Bool):at_<=(AS s at_ a).2.1:=by
 unfold AS;simp only;have e:=JA s at_ a;have c:=QD s (AM s at_ a) a;have g:=Ek s (AY s (AM s at_ a) a).2.1 (AY s (AM s at_ a) a).2.2 40;have d:=UT s (Bn s (AY s (AM s at_ a) a).2.1 (AY s (AM s at_ a) a).2.2 40);have f:=Ek s (D2 s (Bn s (AY s (AM s at_ a) a).2.1 (AY s (AM s at_ a) a).2.2 40)).2.1 (D2 s (Bn s (AY s (AM s at_ a) a).2.1 (AY s (AM s at_ a) a).2.2 40)).2.2 41;have b:(Bn s (AY s (AM s at_ a) a).2.1 (AY s (AM s at_ a) a).2.2 40).1=BX s (AY s (AM s at_ a) a).2.1 (AY s (AM s at_ a) a).2.2 40:=rfl;show at_<=BX s _ _ 41;omega
def bH{s:zA}{at_:Nat}{a:Bool}(h:(AS s at_ a).2.2=K):at_<(AS s at_ a).2.1:=by
 unfold AS at h⊢;simp only at h⊢;have e:=JA s at_ a;have c:=QD s (AM s at_ a) a;have g:=Ek s (AY s (AM s at_ a) a).2.1 (AY s (AM s at_ a) a).2.2 40;have d:=UT s (Bn s (AY s (AM s at_ a) a).2.1 (AY s (AM s at_ a) a).2.2 40);have f:=R8 h;have b:(Bn s (AY s (AM s at_ a) a).2.1 (AY s (AM s at_ a) a).2.2 40).1=BX s (AY s (AM s at_ a) a).2.1 (AY s (AM s at_ a) a).2.2 40:=rfl;omega
def IC(s:zA)(at_:Nat)(a:Bool)(h:at_<=s.size):(AS s at_ a).2.1<=s.size:=by
 unfold AS;simp only;exact DA _ _ _ _ (ay _ _ (DA _ _ _ _ (He _ _ _ (Gm _ _ _ h))))
def KT(s:zA)(at_:Nat)(h:at_<=s.size):(Da s at_).2.1<=s.size:=by
 have b:=Bp s at_ h;unfold Da;simp only;split
 .rename_i e;have:=Fl e;exact IC _ _ _ (by omega)
 .split
  .exact IC _ _ _ b
  .have d:=Gm s _ (AI s (Ae s at_) K).2.2 (Fo s (Ae s at_) K b);unfold Ig;split
   .rename_i c;simp only[iq,jx]at c;have:AM s (AI s (Ae s at_) K).2.1 (AI s (Ae s at_) K).2.2<s.size:=by
     rcases c.2 with(a|a)|a<;>exact Fl a
    exact Fo _ _ _ (by omega)
   .exact d
def Yx(s:zA)(at_:Nat):at_<=(Da s at_).2.1:=by
 have a:=BU s at_;unfold Da;simp only;split
 .have:=Kh s (Ae s at_+1) K;simp only;omega
 .split
  .have:=Kh s (Ae s at_) K;simp only;omega
  .have b:=Kk s (Ae s at_) K;have c:=JA s (AI s (Ae s at_) K).2.1 (AI s (Ae s at_) K).2.2;unfold Ig;split
   .have:=Kk s (AM s (AI s (Ae s at_) K).2.1 (AI s (Ae s at_) K).2.2+1) K;simp only;omega
   .simp only;omega
def XZ{s:zA}{at_:Nat}(h:(Da s at_).2.2=K):at_<(Da s at_).2.1:=by
 have e:=BU s at_;unfold Da at h⊢;simp only at h⊢;split
 .have:=Kh s (Ae s at_+1) K;simp only;omega
 .rename_i c;simp only[c,gO,if_false]at h;split
  .rename_i a;simp only[a,if_true]at h;have:=bH h;simp only;omega
  .rename_i a;simp only[a,gO,if_false]at h;have d:=Kk s (Ae s at_) K;have f:=JA s (AI s (Ae s at_) K).2.1 (AI s (Ae s at_) K).2.2;unfold Ig at h⊢;split
   .have:=Kk s (AM s (AI s (Ae s at_) K).2.1 (AI s (Ae s at_) K).2.2+1) K;simp only;omega
   .rename_i b;simp only[b,gO,if_false]at h;cases h
def Bl(s:zA)(at_:Nat):mc Bi×Nat×Bool:=
 if h:(!(Da s at_).2.2&&D1 s (AM s (Da s at_).2.1 (Da s at_).2.2) 44)=j1/\at_<BX s (Da s at_).2.1 (Da s at_).2.2 44/\at_<s.size then
  have _h1:at_<s.size:=h.2.2;have _h2:=h.2.1
  ((Da s at_).1::(Bl s (BX s (Da s at_).2.1 (Da s at_).2.2 44)).1,(Bl s (BX s (Da s at_).2.1 (Da s at_).2.2 44)).2)
 else([(Da s at_).1],BX s (Da s at_).2.1 (Da s at_).2.2 44,(Da s at_).2.2)
def PE{s:zA}{at_ a:Nat}{x:Bi}{b:Bool}(c:Da s at_=(x,a,b))(h:at_<=s.size)(f:(!b&&D1 s (AM s a b) 44)=j1):
  at_<BX s a b 44/\Bl s at_=(x::(Bl s (BX s a b 44)).1,(Bl s (BX s a b 44)).2):=by
 have g:b=K:=by cases b<;>simp_all
 subst g;have e:=XZ (s:=s) (at_:=at_) (by rw[c]);have d:=KT s at_ h;rw[c]at e d;simp only at e d;have i:=Ek s a K 44;refine⟨by omega,?_⟩
 conv=>lhs;rw[Bl]
 rw[dif_pos (by rw[c];exact⟨f,by simp only;omega,by omega⟩)];simp only[c]
def LU{s:zA}{at_ a:Nat}{x:Bi}{b:Bool}(d:Da s at_=(x,a,b))(c:(!b&&D1 s (AM s a b) 44)=K):
  Bl s at_=([x],BX s a b 44,b):=by
 conv=>lhs;rw[Bl]
 rw[dif_neg (by rw[d];intro h;rw[h.1]at c;cases c),d]
def VE(s:zA)(at_:Nat)(h:at_<=s.size):(Bl s at_).2.1<=s.size:=by
 fun_induction Bl s at_ with
 |case1 at_ hc _ _ ih=>exact ih (DA _ _ _ _ (KT _ _ h))
 |case2 at_ hc=>exact DA _ _ _ _ (KT _ _ h)
def Ve(s:zA)(at_:Nat):at_<=(Bl s at_).2.1:=by
 fun_induction Bl s at_ with
 |case1 at_ hc _ _ ih=>have:=hc.2.1;simp only;omega
 |case2 at_ hc=>
  have a:=Yx s at_;have b:=Ek s (Da s at_).2.1 (Da s at_).2.2 44;simp only;omega
def Eg(s:zA)(mb bd:Bool)(a:Nat)(acc:mc Bi)(R:mc Bi×Nat×Bool):Prop:=
 if(mb&& !bd)=j1 then(acc++(Bl s a).1,(Bl s a).2)=R else(acc,a,bd)=R
def Eg.step{s:zA}{a c:Nat}{acc:mc Bi}{R:mc Bi×Nat×Bool}{t:Bi}{b:Bool}(h:Eg s j1 K a acc R)(d:Da s a=(t,c,b))(f:a<=s.size)(o:acc.length<=a):
  BX s c b 44<=s.size/\(acc++[t]).length<=BX s c b 44+1/\(((!b&&D1 s (AM s c b) 44)&& !b)=j1->(acc++[t]).length<=BX s c b 44)/\
  2*(s.size-BX s c b 44)+(if((!b&&D1 s (AM s c b) 44)&& !b)=j1 then 1 else 0)<2*(s.size-a)+1/\
  Eg s (!b&&D1 s (AM s c b) 44) b (BX s c b 44) (acc++[t]) R:=by
 have e:=KT s a f;have m:=Ek s c b 44;have i:b=K->a<c:=λk=>by
  have:=XZ (s:=s) (at_:=a) (by rw[d];exact k);rw[d]at this;exact this
 have n:a<=c:=by have:=Yx s a;rw[d]at this;exact this
 rw[d]at e;simp only at e;have g:=DA s c b 44 e;unfold Eg at h;simp only[jb,kf,if_true]at h;cases hm:(!b&&D1 s (AM s c b) 44)with
 |true=>
  have l:b=K:=by cases b<;>simp_all
  subst l;obtain⟨p,j⟩:=PE d f hm;have:=i rfl;refine⟨g,by simp;omega,by simp;omega,by simp;omega,?_⟩;unfold Eg;simp only[jb,kf,if_true];rw[j]at h;rw[<-h];simp
 |false=>
  refine⟨g,by simp;omega,by simp,by simp;omega,?_⟩;unfold Eg;rw[LU d hm]at h;rw[<-h];simp
def Eg.done{s:zA}{a:Nat}{c b:Bool}{acc L:mc Bi}{d:Nat}{e:Bool}(h:Eg s c b a acc (L,d,e))(f:(c&& !b)=K):acc=L/\a=d/\b=e:=by
 unfold Eg at h;rw[gV (by rw[f];exact jJ)]at h;simpa using h
def Fb:Nat->zA->zA
 |0,s=>s
 |k+1,s=>if 1<s.size/\Cl s 0=48 then Fb k (s.extract 1 s.size)else s
def BL(s:zA):zA:=if Ib s then Fb s.size s else s
def J2{k:Nat}{s:zA}(h:¬(1<s.size/\Cl s 0=48)):Fb k s=s:=by
 cases k with
 |zero=>rfl
 |succ k=>rw[Fb,gV h]
set_option maxRecDepth 100000
theorem I6(s:zA)(w:World)(u:s.size<=1000000):Calls prog 96 #[.string s] w λe a=>e=.returned (.string (BL s))/\a=w:=by
 have c:=L8 s w;by_cases f:Ib s=j1
 .rw[f]at c;obtain⟨T,i⟩:∃T,BL s=T:=⟨_,rfl⟩;rw[i];have g:Hid (Fb s.size s=T):=by show _=_;rw[<-i];unfold BL;rw[f];rfl
  clear i f;go_enter func96,ntmps96;go_wp2_with (go_at_call 144;refine c.mono ?_;rintro e a ⟨rfl,rfl⟩)
  rename_i a _ _
  go_loopg [3] s.size (λgk o wr=>∃(t:zA),o=.string t/\Hid (Fb gk t=T)/\t.size<=gk/\t.size<=1000000/\a=wr)
  case atStart=>exact⟨s,rfl,g,ig _,u,rfl⟩
  case round=>
   clear g;obtain⟨t,rfl,l,x,z,rfl⟩:=hrel;by_cases n:1<t.size
   ·(have r:(1:Int)<(t.size:Int):=by omega);(have m:Cl t 0=t[0]:=by unfold Cl;rw[dif_pos (by omega)]);by_cases b:t[0]=48
    ·(have q:((t[0].toNat:Int)==48)=j1:=by rw[b];rfl);obtain⟨k,rfl⟩:∃k,gk=k+1:=⟨gk-1,by omega⟩;have v:Hid (Fb k (t.extract 1 t.size)=T):=by
      have h:=Aa l;rw[Fb,gY ⟨n,by rw[m];exact b⟩]at h;exact h
     (have y:(t.extract 1 t.size).size=t.size-1:=by rw[iW];omega);go_wp2
     go_roundg k
     case measure=>omega
     case rel=>exact⟨t.extract 1 t.size,rfl,v,by omega,by omega,rfl⟩
    .have q:((t[0].toNat:Int)==48)=K:=by
      rw[iw];intro d;apply b;apply jp.1;(have:t[0].toNat=48:=by omega);rw[this];rfl
     have j:Hid (t=T):=by
      have h:=Aa l;rw[J2 (λd=>b (by rw[<-m];exact d.2))]at h;exact h
     go_wp2;go_ret;rw[<-Aa j];exact⟨rfl,rfl⟩
   ·(have r:¬(1:Int)<(t.size:Int):=by omega);have j:Hid (t=T):=by
     have h:=Aa l;rw[J2 (λd=>n d.1)]at h;exact h
    go_wp2;go_ret;rw[<-Aa j];exact⟨rfl,rfl⟩
 .have p:Ib s=K:=by simpa using f
  rw[p]at c;have g:Hid (BL s=s):=by show _=_;unfold BL;rw[p];rfl
  rw[Aa g];go_enter func96,ntmps96;go_wp2_with (go_at_call 144;refine c.mono ?_;rintro e a ⟨rfl,rfl⟩)
  all_goals go_ret
  all_goals exact⟨rfl,rfl⟩
