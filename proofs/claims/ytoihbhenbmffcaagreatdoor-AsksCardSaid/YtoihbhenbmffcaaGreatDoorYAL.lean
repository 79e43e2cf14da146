import Derived.Test.YtoihbhenbmffcaaGreatDoorYAK
import Derived.Test.YtoihbhenbmffcaaGreatDoorYAC
set_option linter.all false
set_option maxHeartbeats 0
namespace Go.Proofs.YtoihbhenbmffcaaGreatDoor
open Go.RowKit Go.Proofs.Tryz
theorem ZF(b:Nat)(s:cR)(at_:Nat)(w:World)(hs:s.size<=1000000)(hat:at_<=s.size)(hB:AE w b (BO s at_ false) 73):
  Calls prog 129 #[.pointer (some ⟨b,0,none⟩)] w λe w'=>∃av,e=.returned (.agg (BQ (CR s at_).1 av).toArray)/\
   w'.ownsRow w.heap.size 93 2 av (CR s at_).1.A.args.length ((CR s at_).1.A.args.flatMap AM)/\AE w' b (BO s (CR s at_).2.1 (CR s at_).2.2) 73/\Ac [b] w w':=by
 obtain⟨j,hj⟩:∃j,Af s at_=j:=⟨_,rfl⟩;have hjs:j<=s.size:=by have:=Bk s at_ hat;omega
 cases hx:DW s j 33 with
 |true=>
  have e:CR s at_=(⟨33,(Bj s (j+1) false).1,DV,DV,j⟩,(Bj s (j+1) false).2):=by unfold CR;simp only[hj,hx,if_true]
  rw[e];exact Zv b s at_ j w hs hat hj hx hB
 |false=>
  cases hlo:(EP s j&&KE s j)with
  |true=>
   (have e:CR s at_=(⟨97,(Bj s j false).1,DV,DV,j⟩,(Bj s j false).2):=by unfold CR;simp only[hj,hx,hlo,if_true,bN,if_false]);rw[e];simp only[cq]at hlo;have gK:j<s.size:=by
    have h:=hlo.1;unfold EP at h;split at h
    .assumption
    .cases h
   (have hl:Az s[j]=true:=by have h:=hlo.1;unfold EP at h;simpa[gK] using h);exact YX b s at_ j w hs hat hj hx gK hl hlo.2 hB
  |false=>
   obtain⟨t,a2,b2,ht⟩:∃t a2 b2,AP s j false=(t,a2,b2):=⟨_,_,_,rfl⟩;obtain⟨a3,ha3⟩:∃a3,AQ s a2 b2=a3:=⟨_,rfl⟩;(have e:CR s at_=Hg s j a3 t b2:=by unfold CR;simp only[hj,hx,hlo,ht,ha3,bN,if_false]);rw[e];exact ZM b s at_ j w t a2 a3 b2 hs hat hj hx hlo ⟨ht,ha3⟩ hB
theorem IW(s:cR)(at_:Nat)(a:Bool):at_<=AQ s at_ a:=by
 unfold AQ;split
 .exact bZ _
 .exact Cv s at_
theorem Pg(s:cR)(at_:Nat)(a:Bool):at_<=(Ba s at_ a).2.1:=by
 have b:=Cv s at_;have c:=Cu Az s (Af s at_);unfold Ba;split
 .exact bZ _
 .split<;>simp only<;>omega
theorem Jw(s:cR)(at_:Nat)(b:Bool):at_<=(AP s at_ b).2.1:=by
 have a:=Cv s at_;have c:=Cu Ap s (Af s at_);have d:=Pg s (Af s at_) false;unfold AP;split
 .exact bZ _
 .split
  .split
   .simp only;omega
   .split
    .simp only;omega
    .split<;>simp only<;>omega
  .exact a
theorem Yx(s:cR)(at_:Nat):at_<=(DL s at_).2.1:=by
 fun_induction DL s at_ with
 |case1 at_ hc _ _ ih=>have:=hc.2.1;simp only;omega
 |case2 at_ hc=>
  have a:=Jw s at_ false;have b:=Fj s (AP s at_ false).2.1 (AP s at_ false).2.2 44;simp only;omega
theorem SU(s:cR)(p:Nat×Bool):p.1<=(ER s p).2.1:=by
 unfold ER;split
 .exact bZ _
 .exact Yx s p.1
theorem X4(s:cR)(p:Nat×Bool)(h:p.1<=s.size):(ER s p).2.1<=s.size:=by
 unfold ER;split
 .exact h
 .exact S8 s p.1 h
theorem Qv{s:cR}{at_:Nat}{a:Bool}{c:UInt8}(h:(BG s at_ a c).2=false):at_<(BG s at_ a c).1:=by
 unfold BG B3 at*;have:=IW s at_ a;simp only at h⊢;have b:(!a&&DW s (AQ s at_ a) c)=true:=by simpa using h
 rw[if_pos b];omega
theorem Jq(s:cR)(at_:Nat)(a:Bool):at_<=(Bj s at_ a).2.1:=by
 unfold Bj;simp only;have e:=IW s at_ a;have c:=Pg s (AQ s at_ a) a;have g:=Fj s (Ba s (AQ s at_ a) a).2.1 (Ba s (AQ s at_ a) a).2.2 40;have d:=SU s (BG s (Ba s (AQ s at_ a) a).2.1 (Ba s (AQ s at_ a) a).2.2 40);have f:=Fj s (ER s (BG s (Ba s (AQ s at_ a) a).2.1 (Ba s (AQ s at_ a) a).2.2 40)).2.1 (ER s (BG s (Ba s (AQ s at_ a) a).2.1 (Ba s (AQ s at_ a) a).2.2 40)).2.2 41;have b:(BG s (Ba s (AQ s at_ a) a).2.1 (Ba s (AQ s at_ a) a).2.2 40).1=B3 s (Ba s (AQ s at_ a) a).2.1 (Ba s (AQ s at_ a) a).2.2 40:=rfl;show at_<=B3 s _ _ 41;omega
theorem YL{s:cR}{at_:Nat}{a:Bool}(h:(Bj s at_ a).2.2=false):at_<(Bj s at_ a).2.1:=by
 unfold Bj at h⊢;simp only at h⊢;have e:=IW s at_ a;have c:=Pg s (AQ s at_ a) a;have g:=Fj s (Ba s (AQ s at_ a) a).2.1 (Ba s (AQ s at_ a) a).2.2 40;have d:=SU s (BG s (Ba s (AQ s at_ a) a).2.1 (Ba s (AQ s at_ a) a).2.2 40);have f:=Qv h;have b:(BG s (Ba s (AQ s at_ a) a).2.1 (Ba s (AQ s at_ a) a).2.2 40).1=B3 s (Ba s (AQ s at_ a) a).2.1 (Ba s (AQ s at_ a) a).2.2 40:=rfl;omega
theorem Hy(s:cR)(at_:Nat)(a:Bool)(h:at_<=s.size):(Bj s at_ a).2.1<=s.size:=by
 unfold Bj;simp only;exact Dh _ _ _ _ (X4 _ _ (Dh _ _ _ _ (GN _ _ _ (F1 _ _ _ h))))
theorem J4(s:cR)(at_:Nat)(h:at_<=s.size):(CR s at_).2.1<=s.size:=by
 have b:=Bk s at_ h;unfold CR;simp only;split
 .rename_i e;have:=E5 e;exact Hy _ _ _ (by omega)
 .split
  .exact Hy _ _ _ b
  .have d:=F1 s _ (AP s (Af s at_) false).2.2 (E9 s (Af s at_) false b);unfold Hg;split
   .rename_i c;simp only[cq,dr]at c;have:AQ s (AP s (Af s at_) false).2.1 (AP s (Af s at_) false).2.2<s.size:=by
     rcases c.2 with(a|a)|a<;>exact E5 a
    exact E9 _ _ _ (by omega)
   .exact d
theorem Wh(s:cR)(at_:Nat):at_<=(CR s at_).2.1:=by
 have a:=Cv s at_;unfold CR;simp only;split
 .have:=Jq s (Af s at_+1) false;simp only;omega
 .split
  .have:=Jq s (Af s at_) false;simp only;omega
  .have b:=Jw s (Af s at_) false;have c:=IW s (AP s (Af s at_) false).2.1 (AP s (Af s at_) false).2.2;unfold Hg;split
   .have:=Jw s (AQ s (AP s (Af s at_) false).2.1 (AP s (Af s at_) false).2.2+1) false;simp only;omega
   .simp only;omega
theorem VM{s:cR}{at_:Nat}(h:(CR s at_).2.2=false):at_<(CR s at_).2.1:=by
 have e:=Cv s at_;unfold CR at h⊢;simp only at h⊢;split
 .have:=Jq s (Af s at_+1) false;simp only;omega
 .rename_i c;simp only[c,bN,if_false]at h;split
  .rename_i a;simp only[a,if_true]at h;have:=YL h;simp only;omega
  .rename_i a;simp only[a,bN,if_false]at h;have d:=Jw s (Af s at_) false;have f:=IW s (AP s (Af s at_) false).2.1 (AP s (Af s at_) false).2.2;unfold Hg at h⊢;split
   .have:=Jw s (AQ s (AP s (Af s at_) false).2.1 (AP s (Af s at_) false).2.2+1) false;simp only;omega
   .rename_i b;simp only[b,bN,if_false]at h;cases h
def Be(s:cR)(at_:Nat):List Bg×Nat×Bool:=
 if h:(!(CR s at_).2.2&&DW s (AQ s (CR s at_).2.1 (CR s at_).2.2) 44)=true/\at_<B3 s (CR s at_).2.1 (CR s at_).2.2 44/\at_<s.size then
  have _h1:at_<s.size:=h.2.2;have _h2:=h.2.1
  ((CR s at_).1::(Be s (B3 s (CR s at_).2.1 (CR s at_).2.2 44)).1,(Be s (B3 s (CR s at_).2.1 (CR s at_).2.2 44)).2)
 else([(CR s at_).1],B3 s (CR s at_).2.1 (CR s at_).2.2 44,(CR s at_).2.2)
theorem Oj{s:cR}{at_ a:Nat}{x:Bg}{b:Bool}(c:CR s at_=(x,a,b))(h:at_<=s.size)(f:(!b&&DW s (AQ s a b) 44)=true):
  at_<B3 s a b 44/\Be s at_=(x::(Be s (B3 s a b 44)).1,(Be s (B3 s a b 44)).2):=by
 have g:b=false:=by cases b<;>simp_all
 subst g;have e:=VM (s:=s) (at_:=at_) (by rw[c]);have d:=J4 s at_ h;rw[c]at e d;simp only at e d;have i:=Fj s a false 44;refine⟨by omega,?_⟩
 conv=>lhs;rw[Be]
 rw[dif_pos (by rw[c];exact⟨f,by simp only;omega,by omega⟩)];simp only[c]
theorem KP{s:cR}{at_ a:Nat}{x:Bg}{b:Bool}(d:CR s at_=(x,a,b))(c:(!b&&DW s (AQ s a b) 44)=false):
  Be s at_=([x],B3 s a b 44,b):=by
 conv=>lhs;rw[Be]
 rw[dif_neg (by rw[d];intro h;rw[h.1]at c;cases c),d]
theorem Pd(s:cR)(at_:Nat)(h:at_<=s.size):(Be s at_).2.1<=s.size:=by
 fun_induction Be s at_ with
 |case1 at_ hc _ _ ih=>exact ih (Dh _ _ _ _ (J4 _ _ h))
 |case2 at_ hc=>exact Dh _ _ _ _ (J4 _ _ h)
theorem YD(s:cR)(at_:Nat):at_<=(Be s at_).2.1:=by
 fun_induction Be s at_ with
 |case1 at_ hc _ _ ih=>have:=hc.2.1;simp only;omega
 |case2 at_ hc=>
  have a:=Wh s at_;have b:=Fj s (CR s at_).2.1 (CR s at_).2.2 44;simp only;omega
def DP(s:cR)(mb bd:Bool)(a:Nat)(acc:List Bg)(R:List Bg×Nat×Bool):Prop:=
 if(mb&& !bd)=true then(acc++(Be s a).1,(Be s a).2)=R else(acc,a,bd)=R
theorem DP.step{s:cR}{a c:Nat}{acc:List Bg}{R:List Bg×Nat×Bool}{t:Bg}{b:Bool}(h:DP s true false a acc R)(d:CR s a=(t,c,b))(f:a<=s.size)(o:acc.length<=a):
  B3 s c b 44<=s.size/\(acc++[t]).length<=B3 s c b 44+1/\(((!b&&DW s (AQ s c b) 44)&& !b)=true->(acc++[t]).length<=B3 s c b 44)/\
  2*(s.size-B3 s c b 44)+(if((!b&&DW s (AQ s c b) 44)&& !b)=true then 1 else 0)<2*(s.size-a)+1/\
  DP s (!b&&DW s (AQ s c b) 44) b (B3 s c b 44) (acc++[t]) R:=by
 have e:=J4 s a f;have m:=Fj s c b 44;have i:b=false->a<c:=λk=>by
  have:=VM (s:=s) (at_:=a) (by rw[d];exact k);rw[d]at this;exact this
 have n:a<=c:=by have:=Wh s a;rw[d]at this;exact this
 rw[d]at e;simp only at e;have g:=Dh s c b 44 e;unfold DP at h;simp only[dn,ee,if_true]at h;cases hm:(!b&&DW s (AQ s c b) 44)with
 |true=>
  have l:b=false:=by cases b<;>simp_all
  subst l;obtain⟨p,j⟩:=Oj d f hm;have:=i rfl;refine⟨g,by simp;omega,by simp;omega,by simp;omega,?_⟩;unfold DP;simp only[dn,ee,if_true];rw[j]at h;rw[<-h];simp
 |false=>
  refine⟨g,by simp;omega,by simp,by simp;omega,?_⟩;unfold DP;rw[KP d hm]at h;rw[<-h];simp
theorem DP.done{s:cR}{a:Nat}{c b:Bool}{acc L:List Bg}{d:Nat}{e:Bool}(h:DP s c b a acc (L,d,e))(f:(c&& !b)=false):acc=L/\a=d/\b=e:=by
 unfold DP at h;rw[if_neg (by rw[f];exact dK)]at h;simpa using h
def Fu:Nat->cR->cR
 |0,s=>s
 |k+1,s=>if 1<s.size/\Cb s 0=48 then Fu k (s.extract 1 s.size)else s
def Fb(s:cR):cR:=if Hc s then Fu s.size s else s
theorem Mx{k:Nat}{s:cR}(h:¬(1<s.size/\Cb s 0=48)):Fu k s=s:=by
 cases k with
 |zero=>rfl
 |succ k=>rw[Fu,if_neg h]
set_option maxRecDepth 100000
theorem MW(s:cR)(w:World)(u:s.size<=1000000):Calls prog 96 #[.string s] w λe a=>e=.returned (.string (Fb s))/\a=w:=by
 have c:=Lb s w;by_cases f:Hc s=true
 .rw[f]at c;obtain⟨T,i⟩:∃T,Fb s=T:=⟨_,rfl⟩;rw[i];have g:Hid (Fu s.size s=T):=by show _=_;rw[<-i];unfold Fb;rw[f];rfl
  clear i f;go_enter func96,ntmps96;go_wp2_with (go_at_call 144;refine c.mono ?_;rintro e a ⟨rfl,rfl⟩)
  rename_i a _ _
  go_loopg [3] s.size (λgk o wr=>∃(t:cR),o=.string t/\Hid (Fu gk t=T)/\t.size<=gk/\t.size<=1000000/\a=wr)
  case atStart=>exact⟨s,rfl,g,bZ _,u,rfl⟩
  case round=>
   clear g;obtain⟨t,rfl,l,x,z,rfl⟩:=hrel;by_cases n:1<t.size
   ·(have r:(1:Int)<(t.size:Int):=by omega);(have m:Cb t 0=t[0]:=by unfold Cb;rw[dif_pos (by omega)]);by_cases b:t[0]=48
    ·(have q:((t[0].toNat:Int)==48)=true:=by rw[b];rfl);obtain⟨k,rfl⟩:∃k,gk=k+1:=⟨gk-1,by omega⟩;have v:Hid (Fu k (t.extract 1 t.size)=T):=by
      have h:=Aa l;rw[Fu,if_pos ⟨n,by rw[m];exact b⟩]at h;exact h
     (have y:(t.extract 1 t.size).size=t.size-1:=by rw[eI];omega);go_wp2
     go_roundg k
     case measure=>omega
     case rel=>exact⟨t.extract 1 t.size,rfl,v,by omega,by omega,rfl⟩
    .have q:((t[0].toNat:Int)==48)=false:=by
      rw[cJ];intro d;apply b;apply dx.1;(have:t[0].toNat=48:=by omega);rw[this];rfl
     have j:Hid (t=T):=by
      have h:=Aa l;rw[Mx (λd=>b (by rw[<-m];exact d.2))]at h;exact h
     go_wp2;go_ret;rw[<-Aa j];exact⟨rfl,rfl⟩
   ·(have r:¬(1:Int)<(t.size:Int):=by omega);have j:Hid (t=T):=by
     have h:=Aa l;rw[Mx (λd=>n d.1)]at h;exact h
    go_wp2;go_ret;rw[<-Aa j];exact⟨rfl,rfl⟩
 .have p:Hc s=false:=by simpa using f
  rw[p]at c;have g:Hid (Fb s=s):=by show _=_;unfold Fb;rw[p];rfl
  rw[Aa g];go_enter func96,ntmps96;go_wp2_with (go_at_call 144;refine c.mono ?_;rintro e a ⟨rfl,rfl⟩)
  all_goals go_ret
  all_goals exact⟨rfl,rfl⟩
