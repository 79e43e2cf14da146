import Derived.Test.YtoihbhenbmffcaaGreatDoorYAL
import Derived.Test.YtoihbhenbmffcaaGreatDoorYAD
set_option linter.all false
set_option maxHeartbeats 0
open Bool renaming false->K,true->jj
namespace Go.Proofs.YtoihbhenbmffcaaGreatDoor
open Go.RowKit Go.Proofs.Tryz
def bM(b:Nat)(s:g0)(at_:Nat)(w:World)(hs:s.size<=1000000)(hat:at_<=s.size)(hB:AI w b (BK s at_ K) 73):
  Calls prog 129 #[.pointer (some ⟨b,0,none⟩)] w λe w'=>∃av,e=.returned (.agg (Cs (Dd s at_).1 av).toArray)/\
   w'.ownsRow w.heap.size 93 2 av (Dd s at_).1.A.args.length ((Dd s at_).1.A.args.flatMap AQ)/\AI w' b (BK s (Dd s at_).2.1 (Dd s at_).2.2) 73/\Ac [b] w w':=by
 obtain⟨j,hj⟩:∃j,Ae s at_=j:=⟨_,rfl⟩;have hjs:j<=s.size:=by have:=Bn s at_ hat;omega
 cases hx:DS s j 33 with
 |true=>
  have e:Dd s at_=(⟨33,(AR s (j+1) K).1,Ec,Ec,j⟩,(AR s (j+1) K).2):=by unfold Dd;simp only[hj,hx,if_true]
  rw[e];exact bw b s at_ j w hs hat hj hx hB
 |false=>
  cases hlo:(E3 s j&&Li s j)with
  |true=>
   (have e:Dd s at_=(⟨97,(AR s j K).1,Ec,Ec,j⟩,(AR s j K).2):=by unfold Dd;simp only[hj,hx,hlo,if_true,ev,if_false]);rw[e];simp only[eW]at hlo;have zX:j<s.size:=by
    have h:=hlo.1;unfold E3 at h;split at h
    .assumption
    .cases h
   (have hl:Az s[j]=jj:=by have h:=hlo.1;unfold E3 at h;simpa[zX] using h);exact aA b s at_ j w hs hat hj hx zX hl hlo.2 hB
  |false=>
   obtain⟨t,a2,b2,ht⟩:∃t a2 b2,AK s j K=(t,a2,b2):=⟨_,_,_,rfl⟩;obtain⟨a3,ha3⟩:∃a3,AN s a2 b2=a3:=⟨_,rfl⟩;(have e:Dd s at_=Hr s j a3 t b2:=by unfold Dd;simp only[hj,hx,hlo,ht,ha3,ev,if_false]);rw[e];exact bT b s at_ j w t a2 a3 b2 hs hat hj hx hlo ⟨ht,ha3⟩ hB
def Ji(s:g0)(at_:Nat)(a:Bool):at_<=AN s at_ a:=by
 unfold AN;split
 .exact eM _
 .exact BR s at_
def PV(s:g0)(at_:Nat)(a:Bool):at_<=(AX s at_ a).2.1:=by
 have b:=BR s at_;have c:=B8 Az s (Ae s at_);unfold AX;split
 .exact eM _
 .split<;>simp only<;>omega
def J6(s:g0)(at_:Nat)(b:Bool):at_<=(AK s at_ b).2.1:=by
 have a:=BR s at_;have c:=B8 An s (Ae s at_);have d:=PV s (Ae s at_) K;unfold AK;split
 .exact eM _
 .split
  .split
   .simp only;omega
   .split
    .simp only;omega
    .split<;>simp only<;>omega
  .exact a
def ZN(s:g0)(at_:Nat):at_<=(Cr s at_).2.1:=by
 fun_induction Cr s at_ with
 |case1 at_ hc _ _ ih=>have:=hc.2.1;simp only;omega
 |case2 at_ hc=>
  have a:=J6 s at_ K;have b:=D6 s (AK s at_ K).2.1 (AK s at_ K).2.2 44;simp only;omega
def TO(s:g0)(p:Nat×Bool):p.1<=(DW s p).2.1:=by
 unfold DW;split
 .exact eM _
 .exact ZN s p.1
def Zk(s:g0)(p:Nat×Bool)(h:p.1<=s.size):(DW s p).2.1<=s.size:=by
 unfold DW;split
 .exact h
 .exact T4 s p.1 h
def Rg{s:g0}{at_:Nat}{a:Bool}{c:UInt8}(h:(Bl s at_ a c).2=K):at_<(Bl s at_ a c).1:=by
 unfold Bl BZ at*;have:=Ji s at_ a;simp only at h⊢;have b:(!a&&DS s (AN s at_ a) c)=jj:=by simpa using h
 rw[eI b];omega
def J2(s:g0)(at_:Nat)(a:Bool):at_<=(AR s at_ a).2.1:=by
 unfold AR;simp only;have e:=Ji s at_ a;have c:=PV s (AN s at_ a) a;have g:=D6 s (AX s (AN s at_ a) a).2.1 (AX s (AN s at_ a) a).2.2 40;have d:=TO s (Bl s (AX s (AN s at_ a) a).2.1 (AX s (AN s at_ a) a).2.2 40);have f:=D6 s (DW s (Bl s (AX s (AN s at_ a) a).2.1 (AX s (AN s at_ a) a).2.2 40)).2.1 (DW s (Bl s (AX s (AN s at_ a) a).2.1 (AX s (AN s at_ a) a).2.2 40)).2.2 41;have b:(Bl s (AX s (AN s at_ a) a).2.1 (AX s (AN s at_ a) a).2.2 40).1=BZ s (AX s (AN s at_ a) a).2.1 (AX s (AN s at_ a) a).2.2 40:=rfl;show at_<=BZ s _ _ 41;omega
def Z6{s:g0}{at_:Nat}{a:Bool}(h:(AR s at_ a).2.2=K):at_<(AR s at_ a).2.1:=by
 unfold AR at h⊢;simp only at h⊢;have e:=Ji s at_ a;have c:=PV s (AN s at_ a) a;have g:=D6 s (AX s (AN s at_ a) a).2.1 (AX s (AN s at_ a) a).2.2 40;have d:=TO s (Bl s (AX s (AN s at_ a) a).2.1 (AX s (AN s at_ a) a).2.2 40);have f:=Rg h;have b:(Bl s (AX s (AN s at_ a) a).2.1 (AX s (AN s at_ a) a).2.2 40).1=BZ s (AX s (AN s at_ a) a).2.1 (AX s (AN s at_ a) a).2.2 40:=rfl;omega
def Io(s:g0)(at_:Nat)(a:Bool)(h:at_<=s.size):(AR s at_ a).2.1<=s.size:=by
 unfold AR;simp only;exact Du _ _ _ _ (Zk _ _ (Du _ _ _ _ (G1 _ _ _ (Gc _ _ _ h))))
def KD(s:g0)(at_:Nat)(h:at_<=s.size):(Dd s at_).2.1<=s.size:=by
 have b:=Bn s at_ h;unfold Dd;simp only;split
 .rename_i e;have:=Fa e;exact Io _ _ _ (by omega)
 .split
  .exact Io _ _ _ b
  .have d:=Gc s _ (AK s (Ae s at_) K).2.2 (Ff s (Ae s at_) K b);unfold Hr;split
   .rename_i c;simp only[eW,gr]at c;have:AN s (AK s (Ae s at_) K).2.1 (AK s (Ae s at_) K).2.2<s.size:=by
     rcases c.2 with(a|a)|a<;>exact Fa a
    exact Ff _ _ _ (by omega)
   .exact d
def Xo(s:g0)(at_:Nat):at_<=(Dd s at_).2.1:=by
 have a:=BR s at_;unfold Dd;simp only;split
 .have:=J2 s (Ae s at_+1) K;simp only;omega
 .split
  .have:=J2 s (Ae s at_) K;simp only;omega
  .have b:=J6 s (Ae s at_) K;have c:=Ji s (AK s (Ae s at_) K).2.1 (AK s (Ae s at_) K).2.2;unfold Hr;split
   .have:=J6 s (AN s (AK s (Ae s at_) K).2.1 (AK s (Ae s at_) K).2.2+1) K;simp only;omega
   .simp only;omega
def WQ{s:g0}{at_:Nat}(h:(Dd s at_).2.2=K):at_<(Dd s at_).2.1:=by
 have e:=BR s at_;unfold Dd at h⊢;simp only at h⊢;split
 .have:=J2 s (Ae s at_+1) K;simp only;omega
 .rename_i c;simp only[c,ev,if_false]at h;split
  .rename_i a;simp only[a,if_true]at h;have:=Z6 h;simp only;omega
  .rename_i a;simp only[a,ev,if_false]at h;have d:=J6 s (Ae s at_) K;have f:=Ji s (AK s (Ae s at_) K).2.1 (AK s (Ae s at_) K).2.2;unfold Hr at h⊢;split
   .have:=J6 s (AN s (AK s (Ae s at_) K).2.1 (AK s (Ae s at_) K).2.2+1) K;simp only;omega
   .rename_i b;simp only[b,ev,if_false]at h;cases h
def C5(s:g0)(at_:Nat):List BF×Nat×Bool:=
 if h:(!(Dd s at_).2.2&&DS s (AN s (Dd s at_).2.1 (Dd s at_).2.2) 44)=jj/\at_<BZ s (Dd s at_).2.1 (Dd s at_).2.2 44/\at_<s.size then
  have _h1:at_<s.size:=h.2.2;have _h2:=h.2.1
  ((Dd s at_).1::(C5 s (BZ s (Dd s at_).2.1 (Dd s at_).2.2 44)).1,(C5 s (BZ s (Dd s at_).2.1 (Dd s at_).2.2 44)).2)
 else([(Dd s at_).1],BZ s (Dd s at_).2.1 (Dd s at_).2.2 44,(Dd s at_).2.2)
def O6{s:g0}{at_ a:Nat}{x:BF}{b:Bool}(c:Dd s at_=(x,a,b))(h:at_<=s.size)(f:(!b&&DS s (AN s a b) 44)=jj):
  at_<BZ s a b 44/\C5 s at_=(x::(C5 s (BZ s a b 44)).1,(C5 s (BZ s a b 44)).2):=by
 have g:b=K:=by cases b<;>simp_all
 subst g;have e:=WQ (s:=s) (at_:=at_) (by rw[c]);have d:=KD s at_ h;rw[c]at e d;simp only at e d;have i:=D6 s a K 44;refine⟨by omega,?_⟩
 conv=>lhs;rw[C5]
 rw[dif_pos (by rw[c];exact⟨f,by simp only;omega,by omega⟩)];simp only[c]
def Lv{s:g0}{at_ a:Nat}{x:BF}{b:Bool}(d:Dd s at_=(x,a,b))(c:(!b&&DS s (AN s a b) 44)=K):
  C5 s at_=([x],BZ s a b 44,b):=by
 conv=>lhs;rw[C5]
 rw[dif_neg (by rw[d];intro h;rw[h.1]at c;cases c),d]
def Ux(s:g0)(at_:Nat)(h:at_<=s.size):(C5 s at_).2.1<=s.size:=by
 fun_induction C5 s at_ with
 |case1 at_ hc _ _ ih=>exact ih (Du _ _ _ _ (KD _ _ h))
 |case2 at_ hc=>exact Du _ _ _ _ (KD _ _ h)
def T7(s:g0)(at_:Nat):at_<=(C5 s at_).2.1:=by
 fun_induction C5 s at_ with
 |case1 at_ hc _ _ ih=>have:=hc.2.1;simp only;omega
 |case2 at_ hc=>
  have a:=Xo s at_;have b:=D6 s (Dd s at_).2.1 (Dd s at_).2.2 44;simp only;omega
def D3(s:g0)(mb bd:Bool)(a:Nat)(acc:List BF)(R:List BF×Nat×Bool):Prop:=
 if(mb&& !bd)=jj then(acc++(C5 s a).1,(C5 s a).2)=R else(acc,a,bd)=R
def D3.step{s:g0}{a c:Nat}{acc:List BF}{R:List BF×Nat×Bool}{t:BF}{b:Bool}(h:D3 s jj K a acc R)(d:Dd s a=(t,c,b))(f:a<=s.size)(o:acc.length<=a):
  BZ s c b 44<=s.size/\(acc++[t]).length<=BZ s c b 44+1/\(((!b&&DS s (AN s c b) 44)&& !b)=jj->(acc++[t]).length<=BZ s c b 44)/\
  2*(s.size-BZ s c b 44)+(if((!b&&DS s (AN s c b) 44)&& !b)=jj then 1 else 0)<2*(s.size-a)+1/\
  D3 s (!b&&DS s (AN s c b) 44) b (BZ s c b 44) (acc++[t]) R:=by
 have e:=KD s a f;have m:=D6 s c b 44;have i:b=K->a<c:=λk=>by
  have:=WQ (s:=s) (at_:=a) (by rw[d];exact k);rw[d]at this;exact this
 have n:a<=c:=by have:=Xo s a;rw[d]at this;exact this
 rw[d]at e;simp only at e;have g:=Du s c b 44 e;unfold D3 at h;simp only[fS,ic,if_true]at h;cases hm:(!b&&DS s (AN s c b) 44)with
 |true=>
  have l:b=K:=by cases b<;>simp_all
  subst l;obtain⟨p,j⟩:=O6 d f hm;have:=i rfl;refine⟨g,by simp;omega,by simp;omega,by simp;omega,?_⟩;unfold D3;simp only[fS,ic,if_true];rw[j]at h;rw[<-h];simp
 |false=>
  refine⟨g,by simp;omega,by simp,by simp;omega,?_⟩;unfold D3;rw[Lv d hm]at h;rw[<-h];simp
def D3.done{s:g0}{a:Nat}{c b:Bool}{acc L:List BF}{d:Nat}{e:Bool}(h:D3 s c b a acc (L,d,e))(f:(c&& !b)=K):acc=L/\a=d/\b=e:=by
 unfold D3 at h;rw[eE (by rw[f];exact gJ)]at h;simpa using h
def EU:Nat->g0->g0
 |0,s=>s
 |k+1,s=>if 1<s.size/\Cw s 0=48 then EU k (s.extract 1 s.size)else s
def BN(s:g0):g0:=if Hp s then EU s.size s else s
def JH{k:Nat}{s:g0}(h:¬(1<s.size/\Cw s 0=48)):EU k s=s:=by
 cases k with
 |zero=>rfl
 |succ k=>rw[EU,eE h]
set_option maxRecDepth 100000
theorem NO(s:g0)(w:World)(u:s.size<=1000000):Calls prog 96 #[.string s] w λe a=>e=.returned (.string (BN s))/\a=w:=by
 have c:=LJ s w;by_cases f:Hp s=jj
 .rw[f]at c;obtain⟨T,i⟩:∃T,BN s=T:=⟨_,rfl⟩;rw[i];have g:Hid (EU s.size s=T):=by show _=_;rw[<-i];unfold BN;rw[f];rfl
  clear i f;go_enter func96,ntmps96;go_wp2_with (go_at_call 144;refine c.mono ?_;rintro e a ⟨rfl,rfl⟩)
  rename_i a _ _
  go_loopg [3] s.size (λgk o wr=>∃(t:g0),o=.string t/\Hid (EU gk t=T)/\t.size<=gk/\t.size<=1000000/\a=wr)
  case atStart=>exact⟨s,rfl,g,eM _,u,rfl⟩
  case round=>
   clear g;obtain⟨t,rfl,l,x,z,rfl⟩:=hrel;by_cases n:1<t.size
   ·(have r:(1:Int)<(t.size:Int):=by omega);(have m:Cw t 0=t[0]:=by unfold Cw;rw[dif_pos (by omega)]);by_cases b:t[0]=48
    ·(have q:((t[0].toNat:Int)==48)=jj:=by rw[b];rfl);obtain⟨k,rfl⟩:∃k,gk=k+1:=⟨gk-1,by omega⟩;have v:Hid (EU k (t.extract 1 t.size)=T):=by
      have h:=Aa l;rw[EU,eI ⟨n,by rw[m];exact b⟩]at h;exact h
     (have y:(t.extract 1 t.size).size=t.size-1:=by rw[gh];omega);go_wp2
     go_roundg k
     case measure=>omega
     case rel=>exact⟨t.extract 1 t.size,rfl,v,by omega,by omega,rfl⟩
    .have q:((t[0].toNat:Int)==48)=K:=by
      rw[ff];intro d;apply b;apply gn.1;(have:t[0].toNat=48:=by omega);rw[this];rfl
     have j:Hid (t=T):=by
      have h:=Aa l;rw[JH (λd=>b (by rw[<-m];exact d.2))]at h;exact h
     go_wp2;go_ret;rw[<-Aa j];exact⟨rfl,rfl⟩
   ·(have r:¬(1:Int)<(t.size:Int):=by omega);have j:Hid (t=T):=by
     have h:=Aa l;rw[JH (λd=>n d.1)]at h;exact h
    go_wp2;go_ret;rw[<-Aa j];exact⟨rfl,rfl⟩
 .have p:Hp s=K:=by simpa using f
  rw[p]at c;have g:Hid (BN s=s):=by show _=_;unfold BN;rw[p];rfl
  rw[Aa g];go_enter func96,ntmps96;go_wp2_with (go_at_call 144;refine c.mono ?_;rintro e a ⟨rfl,rfl⟩)
  all_goals go_ret
  all_goals exact⟨rfl,rfl⟩
