import Derived.Test.YtoihbhenbmffcaaGreatDoorZAD
set_option linter.unusedVariables false
set_option linter.unusedSimpArgs false
set_option maxHeartbeats 6400000
namespace Go.Proofs.YtoihbhenbmffcaaGreatDoor
open Go.RowKit
open Go.Proofs.Tryz
structure Sx(ms:List AV):Prop where
 ends:∀i (h:i<ms.length),(ms[i].kind==1)=false->i+1<ms.length
 text:∀i (h:i<ms.length),ms[i].text.size<=2000
def EQ(m:AV)(nx:Nat):Except Int (A3×Nat):=
 if m.kind==2||m.kind==3 then .ok (⟨0,Ay m.text⟩,nx+1)
 else if m.kind==4 then .ok (⟨CE m.text 0 0,ByteArray.empty⟩,nx+1)
 else .error m.place
def Y6(b:Nat)(mv:Value)(ms:List AV)(br:Int)(w:World)(e:Ending)(w':World):Except Int (A3×Nat)->Prop
 | .ok (t,nx)=>e= .returned (.tuple #[.agg (Am t).toArray, .bool true])/\BY w' b mv ms nx br/\Ac [b] w w'
 | .error p=>∃nx,e= .returned (.tuple #[.agg (Am AC).toArray, .bool false])/\BY w' b mv ms nx p/\Ac [b] w w'
theorem G5(b:Nat)(g:Value)(c:List AV)(a:Nat)(i:Int)(w:World)(h:BY w b g c a i)(o:Sx c)(m:AV)(f:c[a]'h.lt=m):
  Calls prog 193 #[.pointer (some ⟨b,0,none⟩)] w λe j=>Y6 b g c i w e j (EQ m a):=by
 have n:(m.kind==1)=false->a+1<c.length:=by rw[<-f];exact o.ends a h.lt
 have r:m.text.size<=2000:=by rw[<-f];exact o.text a h.lt
 have l:∀k:Int,(m.kind==k)=true->k≠1->(m.kind==1)=false:=λk p q=>by
  have:m.kind=k:=by simpa using p
  rw[this];simpa using q
 cases e2:(m.kind==2)with
 |true=>
  refine(LP b g c a i w h m f (Or.inl e2) (n (l 2 e2 (by decide)))).mono ?_;intro e j d;simp only[EQ,e2,dl,if_true];exact d
 |false=>
  cases e3:(m.kind==3)with
  |true=>
   refine(LP b g c a i w h m f (Or.inr ⟨e2,e3⟩) (n (l 3 e3 (by decide)))).mono ?_;intro e j d;simp only[EQ,e3,dJ,if_true];exact d
  |false=>
   cases e4:(m.kind==4)with
   |true=>
    refine(V1 b g c a i w h m f e2 e3 e4 (n (l 4 e4 (by decide))) r).mono ?_;intro e j d;simp only[EQ,e2,e3,e4,eE,Z8,if_false,if_true];exact d
   |false=>
    refine(TG b g c a i w h m f e2 e3 e4).mono ?_;intro e j d;simp only[EQ,e2,e3,e4,eE,Z8,if_false];exact⟨a,d⟩
def Py:cL:=⟨#[40]⟩
theorem V6:Py.toList=[40]:=by kernel_rfl
def DT(ms:List AV)(nx:Nat):Bool:=
 match ms[nx]?,ms[nx+1]? with
 |some m,some m'=>m.kind==2&&Bz m' Py
 |_,_=>false
set_option maxRecDepth 100000
theorem P8(b:Nat)(J:Value)(d:List AV)(a:Nat)(H:Int)(w:World)(h:BY w b J d a H)(C:Sx d):
  Calls prog 199 #[.pointer (some ⟨b,0,none⟩)] w λe f=>e= .returned (.bool (DT d a))/\Ac [] w f:=by
 obtain⟨g,A,rfl,z,v,_,r⟩:=h.cells;have q:=h.lt;have U:=h.len;obtain⟨D,_,_⟩:=r a q;obtain⟨m,i⟩:∃m,d[a]=m:=⟨_,rfl⟩;have l:=C.ends a q;rw[i]at D l;have M:(a:Int)<(d.length:Int):=by omega
 have R:(0:Int)<=(a:Int):=by omega
 clear h C;cases hk:(m.kind==2)with
 |false=>
  have n:Hid (DT d a=false):=by
   show _=_;unfold DT;rw[aA q,i];split
   ·rename_i x _;simp only[ai]at x;subst x;simp[hk]
   ·rfl
  have E:(m.kind !=2)=true:=by simp[bne,hk]
  clear r l i;go_enter func199,ntmps199;go_wp2
  go_quiet (fail)
  go_wp2;go_ret;exact⟨by rw[n.out];rfl,(Ac.refl _ _).drewN _⟩
 |true=>
  have u:=l (by have:m.kind=2:=(by simpa using hk);rw[this];decide);obtain⟨c,s⟩:∃c,d[a+1]=c:=⟨_,rfl⟩;obtain⟨p,o,j⟩:=r (a+1) u;rw[s]at p o j;have n:Hid (DT d a=Bz c Py):=by
   show _=_;unfold DT;rw[aA q,i,aA u,s];simp[hk]
  have E:(m.kind !=2)=false:=by simp[bne,hk]
  obtain⟨k,y⟩:∃k,a+1=k:=⟨_,rfl⟩;have T:IntKind.i64.wrap ((a:Int)+1)=(k:Int):=by
   rw[cd];omega
  have Q:(0:Int)<=(k:Int):=by omega
  have N:(k:Int)<(d.length:Int):=by omega
  rw[y]at p o j;clear r l i s u y;go_enter func199,ntmps199;go_wp2
  go_quiet (fail)
  have B:Ac [] w (w.drewN nq):=(Ac.refl _ _).drewN _;have K:(w.drewN nq).cell? ⟨b,0,none⟩=some (.slice (some ⟨g,0,none⟩) d.length A):=z;have L:(w.drewN nq).cell? ⟨b,1,none⟩=some (.int .i64 a):=v;have I:(w.drewN nq).cell? ⟨g,k*3,none⟩=some (.int .i64 c.kind):=p;have F:(w.drewN nq).cell? ⟨g,k*3+1,none⟩=some (.int .i64 c.place):=o;have G:(w.drewN nq).cell? ⟨g,k*3+2,none⟩=some (.string c.text):=j;clear z v D p o j;generalize w.drewN nq=w1 at*;have S:=World.new_ne w1 _ K;have V:=World.new_ne w1 _ L;have W:=World.new_ne w1 _ I;have O:=World.new_ne w1 _ F;have P:=World.new_ne w1 _ G;go_wp2_with fail
  go_region_held3 (λf=>f.cell? ⟨b,0,none⟩=some (.slice (some ⟨g,0,none⟩) d.length A)/\f.cell? ⟨b,1,none⟩=some (.int .i64 a)/\f.cell? ⟨g,k*3,none⟩=some (.int .i64 c.kind)/\f.cell? ⟨g,k*3+1,none⟩=some (.int .i64 c.place)/\f.cell? ⟨g,k*3+2,none⟩=some (.string c.text)) (go_keep) (fail)
  cases hs:(c.kind==5)with
  |true=>
   (have t:Hid (Bz c Py=(c.text.toList==Py.toList)):=by show _=_;simp[Bz,hs]);go_wp2;all_goals
    go_ret;refine⟨Bb ?_,?_⟩
    ·rw[n.out,t.out,V6]
    ·repeat (first|refine Ac.drew ?_|refine Ac.setCell ?_ (by simp) _|refine Ac.alloc ?_ _|refine Ac.drewN ?_ _)
     exact B
  |false=>
   (have t:Hid (Bz c Py=false):=by show _=_;simp[Bz,hs]);go_wp2;all_goals
    go_ret;refine⟨Bb ?_,?_⟩
    ·rw[n.out,t.out]
    ·repeat (first|refine Ac.drew ?_|refine Ac.setCell ?_ (by simp) _|refine Ac.alloc ?_ _|refine Ac.drewN ?_ _)
     exact B
structure F6 where
 place:Int
 name:cL
 tv:Value
def AL(a:F6):List Value:=[.int .i64 a.place, .string a.name,a.tv]
def AR:F6:=⟨0,ByteArray.empty, .slice none 0 0⟩
structure W4 where
 place:Int
 sort:Int
 atom:F6
 left:A3
 right:A3
def Aq(l:W4):List Value:=[.int .i64 l.place, .int .i64 l.sort, .int .i64 l.atom.place, .string l.atom.name,l.atom.tv, .int .i32 l.left.v, .string l.left.s, .int .i32 l.right.v, .string l.right.s]
def BP:W4:=⟨0,0,AR,AC,AC⟩
def Ao(ms:List AV)(i:Nat):AV:=ms.getD i ⟨1,0,ByteArray.empty⟩
theorem Be{a:List AV}{i:Nat}(h:i<a.length):a[i]=Ao a i:=by simp[Ao,h]
theorem Sx.seen{a:List AV}(c:Sx a){i:Nat}(h:i<a.length)(t:cL)(b:Bz (Ao a i) t=true):i+1<a.length:=by
 refine c.ends i h ?_;rw[Be h];unfold Bz at b;rw[aO]at b;have:(Ao a i).kind=5:=by simpa using b.1
 rw[this];decide
theorem TE(cs:List Value)(h:cs.length=9)(d v1 b a e v5 c g f:Value):(((((((((cs.set 0 d).set 1 v1).set 2 b).set 3 a).set 4 e).set 5 v5).set 6 c).set 7 g).set 8 f)=[d,v1,b,a,e,v5,c,g,f]:=by
 match cs,h with
 |[a0,a1,a2,a3,a4,a5,a6,a7,a8],_=>rfl
theorem Aw.fill9{w:World}{N:Nat}{cs:List Value}{t:TypeId}(h:Aw w N cs t)(j:cs.length=9)(d v1 b a e v5 c g f:Value):Aw (((((((((w.setCell ⟨N,0,none⟩ d).setCell ⟨N,1,none⟩ v1).setCell ⟨N,2,none⟩ b).setCell ⟨N,3,none⟩ a).setCell ⟨N,4,none⟩ e).setCell ⟨N,5,none⟩ v5).setCell ⟨N,6,none⟩ c).setCell ⟨N,7,none⟩ g).setCell ⟨N,8,none⟩ f) N [d,v1,b,a,e,v5,c,g,f] t:=by
 have i:=(((((((((h.set 0 d).set 1 v1).set 2 b).set 3 a).set 4 e).set 5 v5).set 6 c).set 7 g).set 8 f);rw[TE cs j]at i;exact i
def ZY:cL:=⟨#[61]⟩
def ZX:cL:=⟨#[35]⟩
def ZW:cL:=⟨#[60]⟩
def KU(m:AV):Option Int:=if Bz m ZY then some 2 else if Bz m ZX then some 3 else if Bz m ZW then some 4 else none
def GA(ms:List AV)(nx:Nat):Except Int (W4×Nat):=
 match EQ (Ao ms nx) nx with
 | .error p=> .error p
 | .ok (l,n1)=>
  match KU (Ao ms n1)with
  |none=> .error (Ao ms n1).place
  |some s=>
   match EQ (Ao ms (n1+1)) (n1+1)with
   | .error p=> .error p
   | .ok (r,n2)=> .ok (⟨(Ao ms nx).place,s,AR,l,r⟩,n2)
theorem PI{a:List AV}{b:Nat}{l:W4}{n:Nat}(h:GA a b= .ok (l,n)):l.atom=AR:=by
 unfold GA at h;split at h
 ·cases h
 ·split at h
  ·cases h
  ·split at h
   ·cases h
   ·simp only[bz,aY]at h;rw[<-h.1]
theorem BY.other{w:World}{b:Nat}{a:Value}{c:List AV}{e:Nat}{d:Int}(h:BY w b a c e d){p:Addr}(f:p.block≠b)(g:a.ownBlock≠some p.block)(u:Value):BY (w.setCell p u) b a c e d:=
 ⟨h.blk.set_other _ f _,Ag h.row g _,h.ap,h.lt,h.len⟩
theorem BY.fill9{w:World}{b:Nat}{d:Value}{e:List AV}{o:Nat}{f:Int}(h:BY w b d e o f){N:Nat}(a:N≠b)(c:d.ownBlock≠some N)(k v1 j g l v5 i n m:Value):BY (((((((((w.setCell ⟨N,0,none⟩ k).setCell ⟨N,1,none⟩ v1).setCell ⟨N,2,none⟩ j).setCell ⟨N,3,none⟩ g).setCell ⟨N,4,none⟩ l).setCell ⟨N,5,none⟩ v5).setCell ⟨N,6,none⟩ i).setCell ⟨N,7,none⟩ n).setCell ⟨N,8,none⟩ m) b d e o f:=
 (((((((((h.other (p:=⟨N,0,none⟩) a c k).other (p:=⟨N,1,none⟩) a c v1).other (p:=⟨N,2,none⟩) a c j).other (p:=⟨N,3,none⟩) a c g).other (p:=⟨N,4,none⟩) a c l).other (p:=⟨N,5,none⟩) a c v5).other (p:=⟨N,6,none⟩) a c i).other (p:=⟨N,7,none⟩) a c n).other (p:=⟨N,8,none⟩) a c m)
theorem Ac.fill9{M:List Nat}{a w:World}(h:Ac M a w){N:Nat}(b:N∈M\/a.heap.size<=N)(f v1 d c g v5 e j i:Value):Ac M a (((((((((w.setCell ⟨N,0,none⟩ f).setCell ⟨N,1,none⟩ v1).setCell ⟨N,2,none⟩ d).setCell ⟨N,3,none⟩ c).setCell ⟨N,4,none⟩ g).setCell ⟨N,5,none⟩ v5).setCell ⟨N,6,none⟩ e).setCell ⟨N,7,none⟩ j).setCell ⟨N,8,none⟩ i):=
 (((((((((h.setCell (p:=⟨N,0,none⟩) b f).setCell (p:=⟨N,1,none⟩) b v1).setCell (p:=⟨N,2,none⟩) b d).setCell (p:=⟨N,3,none⟩) b c).setCell (p:=⟨N,4,none⟩) b g).setCell (p:=⟨N,5,none⟩) b v5).setCell (p:=⟨N,6,none⟩) b e).setCell (p:=⟨N,7,none⟩) b j).setCell (p:=⟨N,8,none⟩) b i)
def ZD(b:Nat)(mv:Value)(ms:List AV)(br:Int)(w:World)(e:Ending)(w':World):Except Int (W4×Nat)->Prop
 | .ok (l,nx)=>e= .returned (.tuple #[.agg (Aq l).toArray, .bool true])/\BY w' b mv ms nx br/\Ac [b] w w'
 | .error p=>∃nx l,l.atom=AR/\e= .returned (.tuple #[.agg (Aq l).toArray, .bool false])/\BY w' b mv ms nx p/\Ac [b] w w'
theorem Y2(b:Nat)(o:Value)(d:List AV)(x:Nat)(E:Int)(w:World)(h:BY w b o d x E)(ok:Sx d):
  Calls prog 200 #[.pointer (some ⟨b,0,none⟩)] w λe w'=>ZD b o d E w e w' (GA d x):=by
 have HO:=Ab ok;have NS:=h.blk.lt;have LE:∀k,o.ownBlock=some k->k<w.heap.size:=λk hk=>(h.row.lt k hk).2
 have h1:=Ab (h.kept0 ((Ac.refl [] w).alloc (.cells (Aq BP).toArray 217)));have hN:=Ab (Aw.new w (Aq BP) 217);have K2:=Ab ((Ac.refl [b] w).alloc (.cells (Aq BP).toArray 217));have K8:(w.alloc (.cells (Aq BP).toArray 217)).heap.size=w.heap.size+1:=by simp
 clear h ok;go_enter func200,ntmps200;go_wp2_with fail
 change Calls _ _ _ (w.alloc (.cells (Aq BP).toArray 217)) _;generalize w.alloc (.cells (Aq BP).toArray 217)=w1 at h1 hN K2 K8⊢;obtain⟨N,LB⟩:∃N,w.heap.size=N:=⟨_,rfl⟩;rw[LB]at hN NS K8 LE⊢;have i:Hid (∀k,N<=k->o.ownBlock≠some k):=λk hk e=>by have:=LE k e;omega
 clear LE;have HN:=Ab LB;clear LB;refine(I0 b o d x E _ (Aa h1) (Ao d x) (Be (Aa h1).lt)).mono ?_;rintro e w2 ⟨rfl,k2⟩;have h2:=Ab ((Aa h1).kept0 k2);have L0:=Ab ((Aa hN).kept k2 (by simp));have Nq:=Ab ((Aa K2).trans (k2.mono (by simp)));have NM:N+1<=w2.heap.size:=by have:=k2.size;omega
 clear h1 hN K2 K8 k2;obtain⟨p,hp⟩:∃p,(Ao d x).place=p:=⟨_,rfl⟩;have HP:=Ab hp;rw[hp];clear hp;go_wp2_with fail
 change Calls _ _ _ (w2.alloc (.cells (Aq ⟨p,0,AR,AC,AC⟩).toArray 217)) _;have h3:=Ab ((Aa h2).kept0 ((Ac.refl [] w2).alloc (.cells (Aq ⟨p,0,AR,AC,AC⟩).toArray 217)));have HG:=Ab ((Aa L0).alloc (.cells (Aq ⟨p,0,AR,AC,AC⟩).toArray 217));have Go:=Ab (Aw.new w2 (Aq ⟨p,0,AR,AC,AC⟩) 217);have HK:=Ab ((Aa Nq).alloc (.cells (Aq ⟨p,0,AR,AC,AC⟩).toArray 217));clear h2 L0 Nq;generalize w2.alloc (.cells (Aq ⟨p,0,AR,AC,AC⟩).toArray 217)=w3 at h3 HG Go HK⊢;obtain⟨L,NL⟩:∃L,w2.heap.size=L:=⟨_,rfl⟩;rw[NL]at Go NM⊢;clear NL;refine(G5 b o d x E _ (Aa h3) (Aa HO) (Ao d x) (Be (Aa h3).lt)).mono ?_;intro e w4 n;cases ht:EQ (Ao d x) x with
 |error q=>
  rw[ht]at n;obtain⟨n9,rfl,h4,k4⟩:=n;have C:Hid (GA d x= .error q):=by show _=_;unfold GA;rw[ht]
  have H:=(Aa HG).kept k4 (by simp;omega);have CL:=(Aa Go).kept k4 (by simp;omega);have HW:=Ab ((Aa HK).trans k4);clear h3 HG Go HK ht k4;have B:=CL.cell 5;have D:=CL.cell 6;have W:=CL.frozen;have nf:=H.frozen;have R:=H.cell 0;have J:=H.cell 1;have F:=H.cell 2;have K:=H.cell 3;have Q:=H.cell 4;have U:=H.cell 5;have M:=H.cell 6;have T:=H.cell 7;have I:=H.cell 8;simp[Aq,BP,AR,AC]at B D R J F K Q U M T I;have q1:¬L=N:=by omega
  have q2:¬N=L:=by omega
  have S:=Ab H;have t:=Ab h4;clear H CL h4;simp only[Am,AC];go_wp2;rw[C.out];have O:=(((Aa S).set_other ⟨L,5,none⟩ (by simp;omega) (.int .i32 0)).set_other ⟨L,6,none⟩ (by simp;omega) (.string ByteArray.empty)).fill9 rfl (.int .i64 0) (.int .i64 0) (.int .i64 0) (.string ⟨#[]⟩) (.slice none 0 0) (.int .i32 0) (.string ⟨#[]⟩) (.int .i32 0) (.string ⟨#[]⟩);refine aE (AF (P:=prog) (fn:=Tryz.f200) (p:=2) (u:=3) rfl rfl O underlying217 rfl (by kernel_rfl)) rfl ?_;refine⟨n9,BP,rfl,rfl,?_,?_⟩
  ·exact(((Aa t).other (p:=⟨L,5,none⟩) (by simp;omega) (Aa i L (by omega)) _).other (p:=⟨L,6,none⟩) (by simp;omega) (Aa i L (by omega)) _).fill9 (by omega) (Aa i N (by omega)) _ _ _ _ _ _ _ _ _
  ·have G:=Aa HN;exact(((Aa HW).setCell (p:=⟨L,5,none⟩) (by right;simp;omega) _).setCell (p:=⟨L,6,none⟩) (by right;simp;omega) _).fill9 (by right;omega) _ _ _ _ _ _ _ _ _
 |ok r=>
  obtain⟨l,f⟩:=r;rw[ht]at n;obtain⟨rfl,h4,k4⟩:=n;have H:=(Aa HG).kept k4 (by simp;omega);have CL:=(Aa Go).kept k4 (by simp;omega);have HW:=Ab ((Aa HK).trans k4);have Z:=Ab ht;clear h3 HG Go HK k4 ht;have B:=CL.cell 5;have D:=CL.cell 6;have W:=CL.frozen;simp[Aq,BP,AR,AC]at B D;have Mo:=Ab H;have LS:=Ab CL;have t:=Ab h4;clear H CL h4;simp only[Am];go_wp2_with fail
  have Ax:=Aa i;have G:=Aa HN;have h5:BY ((w4.setCell ⟨L,5,none⟩ (.int .i32 l.v)).setCell ⟨L,6,none⟩ (.string l.s)) b o d f E:=by
   exact((Aa t).other (p:=⟨L,5,none⟩) (by simp;omega) (Ax L (by omega)) _).other (p:=⟨L,6,none⟩) (by simp;omega) (Ax L (by omega)) _
  have K1:=Ab (((Aa Mo).set_other ⟨L,5,none⟩ (by simp;omega) (.int .i32 l.v)).set_other ⟨L,6,none⟩ (by simp;omega) (.string l.s));have K5:Hid (Aw ((w4.setCell ⟨L,5,none⟩ (.int .i32 l.v)).setCell ⟨L,6,none⟩ (.string l.s)) L (Aq ⟨p,0,AR,l,AC⟩) 217):=((Aa LS).set 5 _).set 6 _;have K3:=Ab (((Aa HW).setCell (p:=⟨L,5,none⟩) (by right;simp;omega) (.int .i32 l.v)).setCell (p:=⟨L,6,none⟩) (by right;simp;omega) (.string l.s));clear B D W Mo LS t HW Ax G;generalize(w4.setCell ⟨L,5,none⟩ (.int .i32 l.v)).setCell ⟨L,6,none⟩ (.string l.s)=w5 at h5 K1 K5 K3⊢;have H5:=Ab h5;clear h5;refine(FJ b o d f E ZY _ (Aa H5) (Ao d f) (Be (Aa H5).lt) ((Aa HO).seen (Aa H5).lt ZY)).mono ?_;rintro e w6 ⟨rfl,h6,k6⟩;have H1:=Ab ((Aa K1).kept k6 (by simp;omega));have FW:=Ab ((Aa K5).kept k6 (by simp;omega));have H0:=Ab ((Aa K3).trans k6);clear H5 K1 K5 K3 k6;cases s1:Bz (Ao d f) ZY with
  |true=>
   rw[s1]at h6;simp only[if_true]at h6;(have V:Hid (KU (Ao d f)=some 2):=by show _=_;simp[KU,s1]);clear s1;have m:=(Aa FW).cell 1;have W:=(Aa FW).frozen;simp[Aq]at m;have H6:=Ab h6;clear h6;(go_wp2_with fail);have Ax:=Aa i;have G:=Aa HN;have X:BY (w6.setCell ⟨L,1,none⟩ (.int .i64 2)) b o d (f+1) E:=(Aa H6).other (p:=⟨L,1,none⟩) (by simp;omega) (Ax L (by omega)) _;have y:Hid (Aw (w6.setCell ⟨L,1,none⟩ (.int .i64 2)) N (Aq BP) 217):=(Aa H1).set_other ⟨L,1,none⟩ (by simp;omega) _;have z:Hid (Aw (w6.setCell ⟨L,1,none⟩ (.int .i64 2)) L (Aq ⟨p,2,AR,l,AC⟩) 217):=(Aa FW).set 1 _;have A:=Ab ((Aa H0).setCell (p:=⟨L,1,none⟩) (by right;simp;omega) (.int .i64 2));clear m W H1 FW H0 Ax G H6;generalize w6.setCell ⟨L,1,none⟩ (.int .i64 2)=w9 at X y z A⊢;refine(G5 b o d (f+1) E _ X (Aa HO) (Ao d (f+1)) (Be X.lt)).mono ?_;intro e K9 n;clear X;cases ht2:EQ (Ao d (f+1)) (f+1)with
   |error q=>
    rw[ht2]at n;obtain⟨n9,rfl,j,g⟩:=n;(have C:Hid (GA d x= .error q):=by show _=_;unfold GA;simp only[Z.out,V.out,ht2]);have a:=(Aa y).kept g (by simp;omega);have c:=(Aa z).kept g (by simp;omega);have Y:=Ab ((Aa A).trans g);clear y z A g ht2 Z V;have l0:=c.cell 0;have m:=c.cell 1;have l2:=c.cell 2;have l3:=c.cell 3;have l4:=c.cell 4;have B:=c.cell 5;have D:=c.cell 6;have l7:=c.cell 7;have l8:=c.cell 8;have W:=c.frozen;have nf:=a.frozen;have R:=a.cell 0;have J:=a.cell 1;have F:=a.cell 2;have K:=a.cell 3;have Q:=a.cell 4;have U:=a.cell 5;have M:=a.cell 6;have T:=a.cell 7;have I:=a.cell 8;simp[Aq,BP,AR,AC]at l0 R m J l2 F l3 K l4 Q B U D M l7 T l8 I;(have q1:¬L=N:=by omega);(have q2:¬N=L:=by omega);have S:=Ab a;have t:=Ab j;clear a c j;simp only[Am,AC];go_wp2;rw[C.out];have O:=(((Aa S).set_other ⟨L,7,none⟩ (by simp;omega) (.int .i32 0)).set_other ⟨L,8,none⟩ (by simp;omega) (.string ByteArray.empty)).fill9 rfl (.int .i64 p) (.int .i64 2) (.int .i64 0) (.string ByteArray.empty) (.slice none 0 0) (.int .i32 l.v) (.string l.s) (.int .i32 0) (.string ByteArray.empty);refine aE (AF (P:=prog) (fn:=Tryz.f200) (p:=2) (u:=3) rfl rfl O underlying217 rfl (by kernel_rfl)) rfl ?_;refine⟨n9,⟨p,2,AR,l,AC⟩,rfl,rfl,?_,?_⟩
    ·exact(((Aa t).other (p:=⟨L,7,none⟩) (by simp;omega) (Aa i L (by omega)) _).other (p:=⟨L,8,none⟩) (by simp;omega) (Aa i L (by omega)) _).fill9 (by omega) (Aa i N (by omega)) _ _ _ _ _ _ _ _ _
    ·have G:=Aa HN;exact(((Aa Y).setCell (p:=⟨L,7,none⟩) (by right;simp;omega) _).setCell (p:=⟨L,8,none⟩) (by right;simp;omega) _).fill9 (by right;omega) _ _ _ _ _ _ _ _ _
   |ok r=>
    obtain⟨r,n2⟩:=r;rw[ht2]at n;obtain⟨rfl,j,g⟩:=n;(have C:Hid (GA d x= .ok (⟨p,2,AR,l,r⟩,n2)):=by show _=_;unfold GA;simp only[Z.out,V.out,ht2,HP.out]);have a:=(Aa y).kept g (by simp;omega);have c:=(Aa z).kept g (by simp;omega);have Y:=Ab ((Aa A).trans g);clear y z A g ht2 Z V;have l0:=c.cell 0;have m:=c.cell 1;have l2:=c.cell 2;have l3:=c.cell 3;have l4:=c.cell 4;have B:=c.cell 5;have D:=c.cell 6;have l7:=c.cell 7;have l8:=c.cell 8;have W:=c.frozen;have nf:=a.frozen;have R:=a.cell 0;have J:=a.cell 1;have F:=a.cell 2;have K:=a.cell 3;have Q:=a.cell 4;have U:=a.cell 5;have M:=a.cell 6;have T:=a.cell 7;have I:=a.cell 8;simp[Aq,BP,AR,AC]at l0 R m J l2 F l3 K l4 Q B U D M l7 T l8 I;(have q1:¬L=N:=by omega);(have q2:¬N=L:=by omega);have S:=Ab a;have t:=Ab j;clear a c j;simp only[Am];go_wp2;rw[C.out];have O:=(((Aa S).set_other ⟨L,7,none⟩ (by simp;omega) (.int .i32 r.v)).set_other ⟨L,8,none⟩ (by simp;omega) (.string r.s)).fill9 rfl (.int .i64 p) (.int .i64 2) (.int .i64 0) (.string ByteArray.empty) (.slice none 0 0) (.int .i32 l.v) (.string l.s) (.int .i32 r.v) (.string r.s);refine aE (AF (P:=prog) (fn:=Tryz.f200) (p:=2) (u:=3) rfl rfl O underlying217 rfl (by kernel_rfl)) rfl ?_;refine⟨rfl,?_,?_⟩
    ·exact(((Aa t).other (p:=⟨L,7,none⟩) (by simp;omega) (Aa i L (by omega)) _).other (p:=⟨L,8,none⟩) (by simp;omega) (Aa i L (by omega)) _).fill9 (by omega) (Aa i N (by omega)) _ _ _ _ _ _ _ _ _
    ·have G:=Aa HN;exact(((Aa Y).setCell (p:=⟨L,7,none⟩) (by right;simp;omega) _).setCell (p:=⟨L,8,none⟩) (by right;simp;omega) _).fill9 (by right;omega) _ _ _ _ _ _ _ _ _
  |false=>
   rw[s1]at h6;simp only[Z8,if_false]at h6;have H6:=Ab h6;clear h6;(go_wp2_with fail);refine(FJ b o d f E ZX _ (Aa H6) (Ao d f) (Be (Aa H6).lt) ((Aa HO).seen (Aa H6).lt ZX)).mono ?_;rintro e w7 ⟨rfl,h7,k7⟩;have H4:=Ab ((Aa H1).kept k7 (by simp;omega));have HA:=Ab ((Aa FW).kept k7 (by simp;omega));have H3:=Ab ((Aa H0).trans k7);clear H6 H1 FW H0 k7;cases s2:Bz (Ao d f) ZX with
   |true=>
    rw[s2]at h7;simp only[if_true]at h7;(have V:Hid (KU (Ao d f)=some 3):=by show _=_;simp[KU,s1,s2]);clear s1 s2;have m:=(Aa HA).cell 1;have W:=(Aa HA).frozen;simp[Aq]at m;have H7:=Ab h7;clear h7;(go_wp2_with fail);have Ax:=Aa i;have G:=Aa HN;have X:BY (w7.setCell ⟨L,1,none⟩ (.int .i64 3)) b o d (f+1) E:=(Aa H7).other (p:=⟨L,1,none⟩) (by simp;omega) (Ax L (by omega)) _;have y:Hid (Aw (w7.setCell ⟨L,1,none⟩ (.int .i64 3)) N (Aq BP) 217):=(Aa H4).set_other ⟨L,1,none⟩ (by simp;omega) _;have z:Hid (Aw (w7.setCell ⟨L,1,none⟩ (.int .i64 3)) L (Aq ⟨p,3,AR,l,AC⟩) 217):=(Aa HA).set 1 _;have A:=Ab ((Aa H3).setCell (p:=⟨L,1,none⟩) (by right;simp;omega) (.int .i64 3));clear m W H4 HA H3 Ax G H7;generalize w7.setCell ⟨L,1,none⟩ (.int .i64 3)=w9 at X y z A⊢;refine(G5 b o d (f+1) E _ X (Aa HO) (Ao d (f+1)) (Be X.lt)).mono ?_;intro e K9 n;clear X;cases ht2:EQ (Ao d (f+1)) (f+1)with
    |error q=>
     rw[ht2]at n;obtain⟨n9,rfl,j,g⟩:=n;(have C:Hid (GA d x= .error q):=by show _=_;unfold GA;simp only[Z.out,V.out,ht2]);have a:=(Aa y).kept g (by simp;omega);have c:=(Aa z).kept g (by simp;omega);have Y:=Ab ((Aa A).trans g);clear y z A g ht2 Z V;have l0:=c.cell 0;have m:=c.cell 1;have l2:=c.cell 2;have l3:=c.cell 3;have l4:=c.cell 4;have B:=c.cell 5;have D:=c.cell 6;have l7:=c.cell 7;have l8:=c.cell 8;have W:=c.frozen;have nf:=a.frozen;have R:=a.cell 0;have J:=a.cell 1;have F:=a.cell 2;have K:=a.cell 3;have Q:=a.cell 4;have U:=a.cell 5;have M:=a.cell 6;have T:=a.cell 7;have I:=a.cell 8;simp[Aq,BP,AR,AC]at l0 R m J l2 F l3 K l4 Q B U D M l7 T l8 I;(have q1:¬L=N:=by omega);(have q2:¬N=L:=by omega);have S:=Ab a;have t:=Ab j;clear a c j;simp only[Am,AC];go_wp2;rw[C.out];have O:=(((Aa S).set_other ⟨L,7,none⟩ (by simp;omega) (.int .i32 0)).set_other ⟨L,8,none⟩ (by simp;omega) (.string ByteArray.empty)).fill9 rfl (.int .i64 p) (.int .i64 3) (.int .i64 0) (.string ByteArray.empty) (.slice none 0 0) (.int .i32 l.v) (.string l.s) (.int .i32 0) (.string ByteArray.empty);refine aE (AF (P:=prog) (fn:=Tryz.f200) (p:=2) (u:=3) rfl rfl O underlying217 rfl (by kernel_rfl)) rfl ?_;refine⟨n9,⟨p,3,AR,l,AC⟩,rfl,rfl,?_,?_⟩
     ·exact(((Aa t).other (p:=⟨L,7,none⟩) (by simp;omega) (Aa i L (by omega)) _).other (p:=⟨L,8,none⟩) (by simp;omega) (Aa i L (by omega)) _).fill9 (by omega) (Aa i N (by omega)) _ _ _ _ _ _ _ _ _
     ·have G:=Aa HN;exact(((Aa Y).setCell (p:=⟨L,7,none⟩) (by right;simp;omega) _).setCell (p:=⟨L,8,none⟩) (by right;simp;omega) _).fill9 (by right;omega) _ _ _ _ _ _ _ _ _
    |ok r=>
     obtain⟨r,n2⟩:=r;rw[ht2]at n;obtain⟨rfl,j,g⟩:=n;(have C:Hid (GA d x= .ok (⟨p,3,AR,l,r⟩,n2)):=by show _=_;unfold GA;simp only[Z.out,V.out,ht2,HP.out]);have a:=(Aa y).kept g (by simp;omega);have c:=(Aa z).kept g (by simp;omega);have Y:=Ab ((Aa A).trans g);clear y z A g ht2 Z V;have l0:=c.cell 0;have m:=c.cell 1;have l2:=c.cell 2;have l3:=c.cell 3;have l4:=c.cell 4;have B:=c.cell 5;have D:=c.cell 6;have l7:=c.cell 7;have l8:=c.cell 8;have W:=c.frozen;have nf:=a.frozen;have R:=a.cell 0;have J:=a.cell 1;have F:=a.cell 2;have K:=a.cell 3;have Q:=a.cell 4;have U:=a.cell 5;have M:=a.cell 6;have T:=a.cell 7;have I:=a.cell 8;simp[Aq,BP,AR,AC]at l0 R m J l2 F l3 K l4 Q B U D M l7 T l8 I;(have q1:¬L=N:=by omega);(have q2:¬N=L:=by omega);have S:=Ab a;have t:=Ab j;clear a c j;simp only[Am];go_wp2;rw[C.out];have O:=(((Aa S).set_other ⟨L,7,none⟩ (by simp;omega) (.int .i32 r.v)).set_other ⟨L,8,none⟩ (by simp;omega) (.string r.s)).fill9 rfl (.int .i64 p) (.int .i64 3) (.int .i64 0) (.string ByteArray.empty) (.slice none 0 0) (.int .i32 l.v) (.string l.s) (.int .i32 r.v) (.string r.s);refine aE (AF (P:=prog) (fn:=Tryz.f200) (p:=2) (u:=3) rfl rfl O underlying217 rfl (by kernel_rfl)) rfl ?_;refine⟨rfl,?_,?_⟩
     ·exact(((Aa t).other (p:=⟨L,7,none⟩) (by simp;omega) (Aa i L (by omega)) _).other (p:=⟨L,8,none⟩) (by simp;omega) (Aa i L (by omega)) _).fill9 (by omega) (Aa i N (by omega)) _ _ _ _ _ _ _ _ _
     ·have G:=Aa HN;exact(((Aa Y).setCell (p:=⟨L,7,none⟩) (by right;simp;omega) _).setCell (p:=⟨L,8,none⟩) (by right;simp;omega) _).fill9 (by right;omega) _ _ _ _ _ _ _ _ _
   |false=>
    rw[s2]at h7;simp only[Z8,if_false]at h7;have H7:=Ab h7;clear h7;(go_wp2_with fail);refine(FJ b o d f E ZW _ (Aa H7) (Ao d f) (Be (Aa H7).lt) ((Aa HO).seen (Aa H7).lt ZW)).mono ?_;rintro e w8 ⟨rfl,h8,k8⟩;have H2:=Ab ((Aa H4).kept k8 (by simp;omega));have HM:=Ab ((Aa HA).kept k8 (by simp;omega));have HX:=Ab ((Aa H3).trans k8);clear H7 H4 HA H3 k8;cases s3:Bz (Ao d f) ZW with
    |true=>
     rw[s3]at h8;simp only[if_true]at h8;(have V:Hid (KU (Ao d f)=some 4):=by show _=_;simp[KU,s1,s2,s3]);clear s1 s2 s3;have m:=(Aa HM).cell 1;have W:=(Aa HM).frozen;simp[Aq]at m;have H8:=Ab h8;clear h8;(go_wp2_with fail);have Ax:=Aa i;have G:=Aa HN;have X:BY (w8.setCell ⟨L,1,none⟩ (.int .i64 4)) b o d (f+1) E:=(Aa H8).other (p:=⟨L,1,none⟩) (by simp;omega) (Ax L (by omega)) _;have y:Hid (Aw (w8.setCell ⟨L,1,none⟩ (.int .i64 4)) N (Aq BP) 217):=(Aa H2).set_other ⟨L,1,none⟩ (by simp;omega) _;have z:Hid (Aw (w8.setCell ⟨L,1,none⟩ (.int .i64 4)) L (Aq ⟨p,4,AR,l,AC⟩) 217):=(Aa HM).set 1 _;have A:=Ab ((Aa HX).setCell (p:=⟨L,1,none⟩) (by right;simp;omega) (.int .i64 4));clear m W H2 HM HX Ax G H8;generalize w8.setCell ⟨L,1,none⟩ (.int .i64 4)=w9 at X y z A⊢;refine(G5 b o d (f+1) E _ X (Aa HO) (Ao d (f+1)) (Be X.lt)).mono ?_;intro e K9 n;clear X;cases ht2:EQ (Ao d (f+1)) (f+1)with
     |error q=>
      rw[ht2]at n;obtain⟨n9,rfl,j,g⟩:=n;(have C:Hid (GA d x= .error q):=by show _=_;unfold GA;simp only[Z.out,V.out,ht2]);have a:=(Aa y).kept g (by simp;omega);have c:=(Aa z).kept g (by simp;omega);have Y:=Ab ((Aa A).trans g);clear y z A g ht2 Z V;have l0:=c.cell 0;have m:=c.cell 1;have l2:=c.cell 2;have l3:=c.cell 3;have l4:=c.cell 4;have B:=c.cell 5;have D:=c.cell 6;have l7:=c.cell 7;have l8:=c.cell 8;have W:=c.frozen;have nf:=a.frozen;have R:=a.cell 0;have J:=a.cell 1;have F:=a.cell 2;have K:=a.cell 3;have Q:=a.cell 4;have U:=a.cell 5;have M:=a.cell 6;have T:=a.cell 7;have I:=a.cell 8;simp[Aq,BP,AR,AC]at l0 R m J l2 F l3 K l4 Q B U D M l7 T l8 I;(have q1:¬L=N:=by omega);(have q2:¬N=L:=by omega);have S:=Ab a;have t:=Ab j;clear a c j;simp only[Am,AC];go_wp2;rw[C.out];have O:=(((Aa S).set_other ⟨L,7,none⟩ (by simp;omega) (.int .i32 0)).set_other ⟨L,8,none⟩ (by simp;omega) (.string ByteArray.empty)).fill9 rfl (.int .i64 p) (.int .i64 4) (.int .i64 0) (.string ByteArray.empty) (.slice none 0 0) (.int .i32 l.v) (.string l.s) (.int .i32 0) (.string ByteArray.empty);refine aE (AF (P:=prog) (fn:=Tryz.f200) (p:=2) (u:=3) rfl rfl O underlying217 rfl (by kernel_rfl)) rfl ?_;refine⟨n9,⟨p,4,AR,l,AC⟩,rfl,rfl,?_,?_⟩
      ·exact(((Aa t).other (p:=⟨L,7,none⟩) (by simp;omega) (Aa i L (by omega)) _).other (p:=⟨L,8,none⟩) (by simp;omega) (Aa i L (by omega)) _).fill9 (by omega) (Aa i N (by omega)) _ _ _ _ _ _ _ _ _
      ·have G:=Aa HN;exact(((Aa Y).setCell (p:=⟨L,7,none⟩) (by right;simp;omega) _).setCell (p:=⟨L,8,none⟩) (by right;simp;omega) _).fill9 (by right;omega) _ _ _ _ _ _ _ _ _
     |ok r=>
      obtain⟨r,n2⟩:=r;rw[ht2]at n;obtain⟨rfl,j,g⟩:=n;(have C:Hid (GA d x= .ok (⟨p,4,AR,l,r⟩,n2)):=by show _=_;unfold GA;simp only[Z.out,V.out,ht2,HP.out]);have a:=(Aa y).kept g (by simp;omega);have c:=(Aa z).kept g (by simp;omega);have Y:=Ab ((Aa A).trans g);clear y z A g ht2 Z V;have l0:=c.cell 0;have m:=c.cell 1;have l2:=c.cell 2;have l3:=c.cell 3;have l4:=c.cell 4;have B:=c.cell 5;have D:=c.cell 6;have l7:=c.cell 7;have l8:=c.cell 8;have W:=c.frozen;have nf:=a.frozen;have R:=a.cell 0;have J:=a.cell 1;have F:=a.cell 2;have K:=a.cell 3;have Q:=a.cell 4;have U:=a.cell 5;have M:=a.cell 6;have T:=a.cell 7;have I:=a.cell 8;simp[Aq,BP,AR,AC]at l0 R m J l2 F l3 K l4 Q B U D M l7 T l8 I;(have q1:¬L=N:=by omega);(have q2:¬N=L:=by omega);have S:=Ab a;have t:=Ab j;clear a c j;simp only[Am];go_wp2;rw[C.out];have O:=(((Aa S).set_other ⟨L,7,none⟩ (by simp;omega) (.int .i32 r.v)).set_other ⟨L,8,none⟩ (by simp;omega) (.string r.s)).fill9 rfl (.int .i64 p) (.int .i64 4) (.int .i64 0) (.string ByteArray.empty) (.slice none 0 0) (.int .i32 l.v) (.string l.s) (.int .i32 r.v) (.string r.s);refine aE (AF (P:=prog) (fn:=Tryz.f200) (p:=2) (u:=3) rfl rfl O underlying217 rfl (by kernel_rfl)) rfl ?_;refine⟨rfl,?_,?_⟩
      ·exact(((Aa t).other (p:=⟨L,7,none⟩) (by simp;omega) (Aa i L (by omega)) _).other (p:=⟨L,8,none⟩) (by simp;omega) (Aa i L (by omega)) _).fill9 (by omega) (Aa i N (by omega)) _ _ _ _ _ _ _ _ _
      ·have G:=Aa HN;exact(((Aa Y).setCell (p:=⟨L,7,none⟩) (by right;simp;omega) _).setCell (p:=⟨L,8,none⟩) (by right;simp;omega) _).fill9 (by right;omega) _ _ _ _ _ _ _ _ _
    |false=>
     rw[s3]at h8;simp only[Z8,if_false]at h8;have H8:=Ab h8;clear h8;(go_wp2_with fail);(have C:Hid (GA d x= .error (Ao d f).place):=by show _=_;unfold GA;simp[Z.out,KU,s1,s2,s3]);clear s1 s2 s3;refine(I0 b o d f E _ (Aa H8) (Ao d f) (Be (Aa H8).lt)).mono ?_;rintro e w9 ⟨rfl,k9⟩;have h9:=(Aa H8).kept0 k9;have M0:=Ab ((Aa H2).kept k9 (by simp));have MN:=Ab ((Aa HX).trans (k9.mono (by simp)));clear H8 H2 HM HX k9;obtain⟨q,hq⟩:∃q,(Ao d f).place=q:=⟨_,rfl⟩;rw[hq]at C⊢;clear hq;have H9:=Ab h9;clear h9;(go_wp2_with fail);refine(Fp b o d f E q _ (Aa H9)).mono ?_;rintro e K9 ⟨rfl,j,g⟩;have AB:=(Aa M0).kept g (by simp;omega);have Y:=Ab ((Aa MN).trans g);clear M0 MN H9 g;have nf:=AB.frozen;have R:=AB.cell 0;have J:=AB.cell 1;have F:=AB.cell 2;have K:=AB.cell 3;have Q:=AB.cell 4;have U:=AB.cell 5;have M:=AB.cell 6;have T:=AB.cell 7;have I:=AB.cell 8;simp[Aq,BP,AR,AC]at R J F K Q U M T I;have S:=Ab AB;have t:=Ab j;clear AB j;go_wp2;rw[C.out];have O:=(Aa S).fill9 rfl (.int .i64 0) (.int .i64 0) (.int .i64 0) (.string ⟨#[]⟩) (.slice none 0 0) (.int .i32 0) (.string ⟨#[]⟩) (.int .i32 0) (.string ⟨#[]⟩);refine aE (AF (P:=prog) (fn:=Tryz.f200) (p:=2) (u:=3) rfl rfl O underlying217 rfl (by kernel_rfl)) rfl ?_;refine⟨f,BP,rfl,rfl,?_,?_⟩
     ·exact(Aa t).fill9 (by omega) (Aa i N (by omega)) _ _ _ _ _ _ _ _ _
     ·have G:=Aa HN;exact(Aa Y).fill9 (by right;omega) _ _ _ _ _ _ _ _ _
theorem Tryz.info215:(Tryz.prog.info? 215).map (λi=>(i.zero,i.size,i.bytes))=some (some (.agg #[.int .i32 0, .string ⟨#[]⟩]),2,24):=by kernel_rfl
def GQ:cL:=⟨#[44]⟩
def Mu:cL:=⟨#[41]⟩
def Fw(ms:List AV)(nx:Nat)(acc:List A3):Except Int (List A3×Nat):=
 if h:nx<ms.length then
  match EQ (Ao ms nx) nx with
  | .error p=> .error p
  | .ok (t,_)=>
   if Bz (Ao ms (nx+1)) GQ then Fw ms (nx+2) (acc++[t])
   else if Bz (Ao ms (nx+1)) Mu then .ok (acc++[t],nx+2)
   else .error (Ao ms (nx+1)).place
 else .error 0
theorem E2{m:AV}{a:Nat}{t:A3}{n:Nat}(h:EQ m a= .ok (t,n)):n=a+1:=by
 unfold EQ at h;split at h
 ·simp only[bz,aY]at h;exact h.2.symm
 ·split at h
  ·simp only[bz,aY]at h;exact h.2.symm
  ·cases h
def Em(ms:List AV)(nx:Nat):Except Int ((Nat×cL×List A3)×Nat):=
 if(Ao ms nx).kind==2 then
  if Bz (Ao ms (nx+1)) Py then
   match Fw ms (nx+2) [] with
   | .error p=> .error p
   | .ok (ts,n)=> .ok (((Ao ms nx).place,(Ao ms nx).text,ts),n)
  else .error (Ao ms (nx+1)).place
 else .error (Ao ms nx).place
theorem Aw.fill3{w:World}{N:Nat}{cs:List Value}{t:TypeId}(h:Aw w N cs t)(d:cs.length=3)(b v1 a:Value):Aw (((w.setCell ⟨N,0,none⟩ b).setCell ⟨N,1,none⟩ v1).setCell ⟨N,2,none⟩ a) N [b,v1,a] t:=by
 have c:=((h.set 0 b).set 1 v1).set 2 a;have e:((cs.set 0 b).set 1 v1).set 2 a=[b,v1,a]:=by
  match cs,d with
  |[_,_,_],_=>rfl
 rw[e]at c;exact c
theorem BY.fill3{w:World}{b:Nat}{d:Value}{e:List AV}{j:Nat}{f:Int}(h:BY w b d e j f){N:Nat}(a:N≠b)(c:d.ownBlock≠some N)(i v1 g:Value):BY (((w.setCell ⟨N,0,none⟩ i).setCell ⟨N,1,none⟩ v1).setCell ⟨N,2,none⟩ g) b d e j f:=
 ((h.other (p:=⟨N,0,none⟩) a c i).other (p:=⟨N,1,none⟩) a c v1).other (p:=⟨N,2,none⟩) a c g
theorem Ac.fill3{M:List Nat}{a w:World}(h:Ac M a w){N:Nat}(b:N∈M\/a.heap.size<=N)(d v1 c:Value):Ac M a (((w.setCell ⟨N,0,none⟩ d).setCell ⟨N,1,none⟩ v1).setCell ⟨N,2,none⟩ c):=
 ((h.setCell (p:=⟨N,0,none⟩) b d).setCell (p:=⟨N,1,none⟩) b v1).setCell (p:=⟨N,2,none⟩) b c
def YG(b:Nat)(mv:Value)(ms:List AV)(br:Int)(w:World)(e:Ending)(w':World):Except Int ((Nat×cL×List A3)×Nat)->Prop
 | .ok ((p,s,ts),nx)=>∃tv base,e= .returned (.tuple #[.agg (AL ⟨p,s,tv⟩).toArray, .bool true])/\w.heap.size<=base/\w'.ownsRow base 215 2 tv ts.length (ts.flatMap Am)/\BY w' b mv ms nx br/\Ac [b] w w'
 | .error p=>∃nx pl s ad n cp,e= .returned (.tuple #[.agg (AL ⟨pl,s, .slice ad n cp⟩).toArray, .bool false])/\BY w' b mv ms nx p/\Ac [b] w w'
theorem LG(b:Nat)(mv:Value)(ms:List AV)(nx:Nat)(br:Int)(w:World)(h:BY w b mv ms nx br)(ok:Sx ms):
  Calls prog 158 #[.pointer (some ⟨b,0,none⟩)] w λe w'=>YG b mv ms br w e w' (Em ms nx):=by
 obtain⟨m,hm⟩:∃m,Ao ms nx=m:=⟨_,rfl⟩;obtain⟨i0,hi0,hz0,hz1,hz2⟩:=bj Tryz.info215;have HM:=Ab hm;have HO:=Ab ok;have hlt0:=h.lt;have hlt:(nx:Int)<(ms.length:Int):=by omega
 have hnx0:(0:Int)<=(nx:Int):=by omega
 have hl:=h.len;have hbw:=h.blk.lt;have hmb:∀k,mv.ownBlock=some k->k<w.heap.size:=λk hk=>(h.row.lt k hk).2
 have h1:=h.kept0 ((Ac.refl [] w).alloc (.cells #[.int .i64 0, .string ⟨#[]⟩, .slice none 0 0] 187));have hN2:=Aw.new w [.int .i64 0, .string ⟨#[]⟩, .slice none 0 0] 187;have hK1:=(Ac.refl [b] w).alloc (.cells [.int .i64 0, .string ⟨#[]⟩, .slice none 0 0].toArray 187);clear hm h ok;go_enter func158,ntmps158;go_wp2_with fail
 generalize w.alloc (.cells [.int .i64 0, .string ⟨#[]⟩, .slice none 0 0].toArray 187)=w1 at h1 hN2 hK1⊢;obtain⟨N2,hN2e⟩:∃N2,w.heap.size=N2:=⟨_,rfl⟩;rw[hN2e]at hN2 hbw hmb⊢;have HN2:=Ab hN2e;clear hN2e;have HMB:Hid (∀k,N2<=k->mv.ownBlock≠some k):=λk hk e=>by have:=hmb k e;omega
 obtain⟨g,cap,rfl,b0,b1,b2,hc⟩:=h1.cells;have hgN:g<N2:=hmb g rfl;clear hmb;obtain⟨c0,c1,c2⟩:=hc nx hlt0;rw[Be hlt0,Aa HM]at c0 c1 c2;clear hc b2;have n0:=World.new_ne w1 _ b0;have n1:=World.new_ne w1 _ b1;have n2:=World.new_ne w1 _ c0;have n3:=World.new_ne w1 _ c1;have n4:=World.new_ne w1 _ c2;have HH:=Ab h1;have HB2:=Ab hN2;clear h1 hN2
 go_region_held3 (λw'=>w'.cell? ⟨b,0,none⟩=some (.slice (some ⟨g,0,none⟩) ms.length cap)/\w'.cell? ⟨b,1,none⟩=some (.int .i64 nx)/\w'.cell? ⟨g,nx*3,none⟩=some (.int .i64 m.kind)/\w'.cell? ⟨g,nx*3+1,none⟩=some (.int .i64 m.place)/\w'.cell? ⟨g,nx*3+2,none⟩=some (.string m.text)) (go_keep) (fail)
 rename_i hHeldX;clear hHeldX n0 n1 n2 n3 n4 b0 b1 c0 c1 c2;have hN2lt:=(Aa HB2).lt;have h2:=(Aa HH).kept0 (((Ac.refl [] w1).alloc (.cells [.int .i64 m.kind, .int .i64 m.place, .string m.text].toArray 206)).drew);have hN4:=(Aw.new w1 [.int .i64 m.kind, .int .i64 m.place, .string m.text] 206).drew;have hN2':=((Aa HB2).alloc (.cells [.int .i64 m.kind, .int .i64 m.place, .string m.text].toArray 206)).drew;have hK2:=(hK1.alloc (.cells [.int .i64 m.kind, .int .i64 m.place, .string m.text].toArray 206)).drew;clear HH HB2 hK1;generalize(w1.alloc (.cells [.int .i64 m.kind, .int .i64 m.place, .string m.text].toArray 206)).drew=w2 at h2 hN4 hN2' hK2⊢;generalize w1.heap.size=N4 at hN4 hN2lt⊢;have x0:=hN4.cell 0;have x1:=hN4.cell 1;have x2:=hN4.cell 2;have z1:=h2.blk.cell 1;have zf:=h2.blk.frozen 1;simp at x0 x1 x2 z1;have HH2:=Ab h2;have HB2:=Ab hN2';have HB4:=Ab hN4;have HK2:=Ab hK2;clear h2 hN4 hN2' hK2;cases hk:(m.kind==2)with
 |false=>
  have hk2:(m.kind !=2)=true:=by simp[bne,hk]
  have HF:Hid (Em ms nx= .error m.place):=by show _=_;unfold Em;rw[Aa HM,hk];rfl
  clear hk;go_wp2_with fail
  refine(Fp b (.slice (some ⟨g,0,none⟩) ms.length cap) ms nx br m.place _ (Aa HH2)).mono ?_;rintro e w3 ⟨rfl,h3,k3⟩;have hN3:=(Aa HB2).kept k3 (by simp;omega);have HK3:=Ab ((Aa HK2).trans k3);have c0:=hN3.cell 0;have c1:=hN3.cell 1;have c2:=hN3.cell 2;have nf:=hN3.frozen;simp at c0 c1 c2;have HB3:=Ab hN3;have HR:=Ab h3;clear hN3 h3 k3 x0 x1 x2 z1 zf HH2 HB2 HB4 HK2;go_wp2;rw[HF.out];have hfin:=(Aa HB3).fill3 rfl (.int .i64 0) (.string ⟨#[]⟩) (.slice none 0 0);refine aE (AF (P:=prog) (fn:=Tryz.f158) (p:=2) (u:=3) rfl rfl hfin underlying187 rfl (by kernel_rfl)) rfl ?_;refine⟨nx,0,ByteArray.empty,none,0,0,rfl,?_,?_⟩
  ·exact(Aa HR).fill3 (by omega) (Aa HMB N2 (by omega)) _ _ _
  ·have:=Aa HN2;exact(Aa HK3).fill3 (by right;omega) _ _ _
 |true=>
  have hk2:(m.kind !=2)=false:=by simp[bne,hk]
  have hnx:nx+1<ms.length:=by
   refine(Aa HO).ends nx hlt0 ?_;rw[Be hlt0,Aa HM];(have:m.kind=2:=by simpa using hk);rw[this];decide
  have HK:=Ab hk;clear hk;go_wp2_with fail
  have k3:Ac [b] w2 (w2.setCell ⟨b,1,none⟩ (.int .i64 ((nx:Int)+1))):=(Ac.refl [b] w2).setCell (by simp) _;have h3:BY (w2.setCell ⟨b,1,none⟩ (.int .i64 ((nx:Int)+1))) b (.slice (some ⟨g,0,none⟩) ms.length cap) ms (nx+1) br:=(Aa HH2).kept (nx':=nx+1) (br':=br) k3 ((Aa HH2).blk.set 1 _) hnx;have hB3:=Ab ((Aa HB2).kept k3 (by simp;omega));have hM3:=Ab ((Aa HB4).kept k3 (by simp;omega));have hK3:=Ab ((Aa HK2).trans k3);clear x0 x1 x2 z1 zf HH2 HB2 HB4 HK2 k3;generalize w2.setCell ⟨b,1,none⟩ (.int .i64 ((nx:Int)+1))=w3 at h3 hB3 hM3 hK3⊢;refine(KX b (.slice (some ⟨g,0,none⟩) ms.length cap) ms (nx+1) br Py _ h3 (Ao ms (nx+1)) (Be h3.lt) ((Aa HO).seen h3.lt Py)).mono ?_;rintro e w4 ⟨rfl,h4,k4⟩;clear h3;have hB4:=Ab ((Aa hB3).kept k4 (by simp;omega));have hM4:=Ab ((Aa hM3).kept k4 (by simp;omega));have hK4:=Ab ((Aa hK3).trans k4);clear hB3 hM3 hK3 k4;cases hs:Bz (Ao ms (nx+1)) Py with
  |false=>
   rw[hs]at h4;simp only[Z8,if_false]at h4;(have HF:Hid (Em ms nx= .error (Ao ms (nx+1)).place):=by show _=_;unfold Em;rw[Aa HM,Aa HK,hs];rfl);have c0:=(Aa hB4).cell 0;have c1:=(Aa hB4).cell 1;have c2:=(Aa hB4).cell 2;have nf:=(Aa hB4).frozen;simp at c0 c1 c2;have HR:=Ab h4;clear h4 hs hM4;go_wp2;rw[HF.out];have hfin:=(Aa hB4).fill3 rfl (.int .i64 0) (.string ⟨#[]⟩) (.slice none 0 0);refine aE (AF (P:=prog) (fn:=Tryz.f158) (p:=2) (u:=3) rfl rfl hfin underlying187 rfl (by kernel_rfl)) rfl ?_;refine⟨nx+1,0,ByteArray.empty,none,0,0,rfl,?_,?_⟩
   ·exact(Aa HR).fill3 (by omega) (Aa HMB N2 (by omega)) _ _ _
   ·have:=Aa HN2;exact(Aa hK4).fill3 (by right;omega) _ _ _
  |true=>
   rw[hs]at h4;simp only[if_true]at h4;have HS:=Ab hs;have x1:=(Aa hM4).cell 1;have x2:=(Aa hM4).cell 2;simp at x1 x2;have HR:=Ab h4;clear h4 hs;go_wp2;have HFa:Hid (∀r,Fw ms (nx+2) []=r->Em ms nx=(match r with| .error p=> .error p| .ok (ts,n)=> .ok ((m.place,m.text,ts),n))):=by
    intro r hr;unfold Em;rw[Aa HM,Aa HK,Aa HS,hr];rfl
   have hA5:=Ab (Aw.new w4 [.int .i64 m.place, .string m.text, .slice none 0 0] 187);have hB5:=Ab ((Aa hB4).alloc (.cells [.int .i64 m.place, .string m.text, .slice none 0 0].toArray 187));have hR5:=Ab ((Aa HR).kept0 ((Ac.refl [] w4).alloc (.cells [.int .i64 m.place, .string m.text, .slice none 0 0].toArray 187)));have hK5:=Ab ((Aa hK4).alloc (.cells [.int .i64 m.place, .string m.text, .slice none 0 0].toArray 187));(have hs5:(w4.alloc (.cells [.int .i64 m.place, .string m.text, .slice none 0 0].toArray 187)).heap.size=w4.heap.size+1:=by simp);have hN4A:=(Aa hM4).lt;clear x1 x2 hM4 hB4 hK4 HR HS HK HM;change Code.wp _ _ _ _ (w4.alloc (.cells [.int .i64 m.place, .string m.text, .slice none 0 0].toArray 187));generalize w4.alloc (.cells [.int .i64 m.place, .string m.text, .slice none 0 0].toArray 187)=w5 at hA5 hB5 hR5 hK5 hs5⊢;obtain⟨A,hAe⟩:∃A,w4.heap.size=A:=⟨_,rfl⟩;rw[hAe]at hA5 hs5 hN4A⊢;clear hAe
   go_loopg [] (ms.length-(nx+2)) (λgk wr=>∃(j:Nat) (acc:List A3) (ad:Option Addr) (cp:Nat),gk=ms.length-j/\Hid (Fw ms j acc=Fw ms (nx+2) [])/\Hid (BY wr b (.slice (some ⟨g,0,none⟩) ms.length cap) ms j br)/\Hid (Aw wr N2 [.int .i64 0, .string ⟨#[]⟩, .slice none 0 0] 187)/\Hid (Aw wr A [.int .i64 m.place, .string m.text, .slice ad acc.length cp] 187)/\wr.ownsRow (A+1) 215 2 (.slice ad acc.length cp) acc.length (acc.flatMap Am)/\Hid (Ac [b] w wr)/\A+1<=wr.heap.size/\acc.length<=j)
   case atStart=>exact⟨nx+2,[],none,0,rfl,rfl,hR5,hB5,hA5,ax _ _ _ _,hK5,by omega,by simp⟩
   case round=>
    clear hA5 hB5 hR5 hK5 hs5;obtain⟨j,acc,ad,cp,hgk,HL,HR,HB,HA,hown,hK,hz,hal⟩:=hrel;have HG:=Ab hgk;clear hgk;have hjl:=(Aa HR).lt;(go_wp2_with fail);refine(G5 b (.slice (some ⟨g,0,none⟩) ms.length cap) ms j br _ (Aa HR) (Aa HO) (Ao ms j) (Be hjl)).mono ?_;intro e w6 hout;cases ht:EQ (Ao ms j) j with
    |error q=>
     rw[ht]at hout;obtain⟨n9,rfl,h6,k6⟩:=hout;have HF:Hid (Em ms nx= .error q):=(Aa HFa) (.error q) (by rw[<-Aa HL];unfold Fw;rw[dif_pos hjl,ht]);have hB6:=(Aa HB).kept k6 (by simp;omega);have hK6:=Ab ((Aa hK).trans k6);clear k6 ht HR HB HA hK HL hown;have c0:=hB6.cell 0;have c1:=hB6.cell 1;have c2:=hB6.cell 2;have nf:=hB6.frozen;(have d0:=λo=>(hB6.alloc o).cell 0);(have d1:=λo=>(hB6.alloc o).cell 1);(have d2:=λo=>(hB6.alloc o).cell 2);(have df:=λo=>(hB6.alloc o).frozen);simp at c0 c1 c2 d0 d1 d2;have hlt6:=hB6.lt;have hb6:=h6.blk.lt;(have q1:¬N2=w6.heap.size:=by omega);(have q2:¬w6.heap.size=N2:=by omega);have HR6:=Ab h6;have HB6:=Ab hB6;clear h6 hB6;simp only[Am,AC];go_wp2;rw[HF.out];have hfin:=((Aa HB6).fill3 rfl (.int .i64 0) (.string ⟨#[]⟩) (.slice none 0 0)).alloc (.cells #[.int .i32 0, .string ByteArray.empty] 215);refine aE (AF (P:=prog) (fn:=Tryz.f158) (p:=2) (u:=3) rfl rfl hfin underlying187 rfl (by kernel_rfl)) rfl ?_;refine⟨n9,0,ByteArray.empty,none,0,0,rfl,?_,?_⟩
     ·exact((Aa HR6).fill3 (by omega) (Aa HMB N2 (by omega)) _ _ _).kept0 ((Ac.refl [] _).alloc _)
     ·have:=Aa HN2;exact((Aa hK6).fill3 (by right;omega) _ _ _).alloc _
    |ok r=>
     obtain⟨t,n1⟩:=r;rw[ht]at hout;have hn1:=E2 ht;subst hn1;obtain⟨rfl,h6,k6⟩:=hout;have hB6:=Ab ((Aa HB).kept k6 (by simp;omega));have hA6:=Ab ((Aa HA).kept k6 (by simp;omega));have hK6:=Ab ((Aa hK).trans k6);have hown6:=Ar hown k6 (λi hi hm=>by simp at hm;subst hm;have:=(hown.lt _ hi).1;omega);have hz6:A+1<=w6.heap.size:=bM hz k6.size;have HT:=Ab ht;clear k6 ht HR HB HA hK hown hz;have a2:=(Aa hA6).cell 2;have af:=(Aa hA6).frozen;(have d2:=λo=>((Aa hA6).alloc o).cell 2);(have df:=λo=>((Aa hA6).alloc o).frozen);simp at a2 d2;have hlt6:=(Aa hA6).lt;(have q1:¬A=w6.heap.size:=by omega);(have q2:¬w6.heap.size=A:=by omega);have HR6:=Ab h6;clear h6;have hnew:((w6.alloc (.cells (Am t).toArray 215)).alloc (.cells (Am t).toArray 215)).heap[w6.heap.size+1]?=some (.cells (Am t).toArray 215 (0,0)):=by
      have hh:=aS (w6.alloc (.cells (Am t).toArray 215)) (.cells (Am t).toArray 215);rw[show(w6.alloc (.cells (Am t).toArray 215)).heap.size=w6.heap.size+1 from by simp]at hh
      exact hh
     have hown8:=ah (ah hown6 (.cells (Am t).toArray 215)) (.cells (Am t).toArray 215);(have hal2:acc.length<=1000:=by omega);have HGR:Hid (∀w9,((w6.alloc (.cells (Am t).toArray 215)).alloc (.cells (Am t).toArray 215)).grownBy w9 (Value.slice ad acc.length cp).ownBlock->Ac (Value.slice ad acc.length cp).ownBlock.toList w6 w9):=by
      intro w9 hg;exact(((Ac.refl _ w6).alloc _).alloc _).grown hg (λk hk=>Or.inl (by simp[hk]))
     (have HRW:Hid (∀i∈(Value.slice ad acc.length cp).ownBlock.toList,A+1<=i):=λi hi=>(hown6.lt i (by simpa using hi)).1);have HAC:Hid (∀w9,((w6.alloc (.cells (Am t).toArray 215)).alloc (.cells (Am t).toArray 215)).grownBy w9 (Value.slice ad acc.length cp).ownBlock->w9.cell? ⟨A,2,none⟩=some (.slice ad acc.length cp)/\w9.frozen? ⟨A,2,none⟩=false):=by
      intro w9 hg;have hb:=(Aa hA6).kept (Aa HGR w9 hg) (λhm=>by have:=Aa HRW A hm;omega);exact⟨hb.cell 2,hb.frozen 2⟩
     simp only[Am];go_wp2_with (at_builtin;refine ay _ rfl (.tmp 51) (.tmp 53) _ rfl (A+1) 215 i0 _ 2 24 underlying185 hi0 hz0 hz1 hz2 rfl (by omega) (.slice ad acc.length cp) acc.length (acc.flatMap Am) rfl hown8 ⟨w6.heap.size+1,0,none⟩ 1 1 (Am t) rfl rfl (aF (cs:=(Am t).toArray) (t:=215) (fr:=(0,0)) hnew) (by simp[Value.oneCell',Am]) (by omega) (by unfold maxLen;omega) (by omega) (by simp;omega) (w6.heap.size+1+1) (by simp) ?_;intro g1 cp1 w9 ho1 hg1 ha1 hl1;have hc9:=(Aa HAC w9 hg1).1;have hf9:=(Aa HAC w9 hg1).2)
     have kr:=Aa HGR w9 hg1;have hrw:=Aa HRW;have hN2w:=Aa HN2;have hg1A:A+1<=g1:=(ho1.lt g1 rfl).1;have hR9:BY w9 b (.slice (some ⟨g,0,none⟩) ms.length cap) ms (j+1) br:=⟨(Aa HR6).blk.kept kr (λhm=>by have:=hrw b hm;omega),Ar (Aa HR6).row kr (λi hi hm=>by have:=hrw i hm;simp[Value.ownBlock]at hi;omega),(Aa HR6).ap,(Aa HR6).lt,(Aa HR6).len⟩;have hR10:=Ab (hR9.other (p:=⟨A,2,none⟩) (by simp;omega) (Aa HMB A (by omega)) (.slice (some ⟨g1,0,none⟩) (acc.length+1) cp1));have hB10:=Ab (((Aa hB6).kept kr (λhm=>by have:=hrw N2 hm;omega)).set_other ⟨A,2,none⟩ (by simp;omega) (.slice (some ⟨g1,0,none⟩) (acc.length+1) cp1));have hA10:Hid (Aw (w9.setCell ⟨A,2,none⟩ (.slice (some ⟨g1,0,none⟩) (acc.length+1) cp1)) A [.int .i64 m.place, .string m.text, .slice (some ⟨g1,0,none⟩) (acc.length+1) cp1] 187):=((Aa hA6).kept kr (λhm=>by have:=hrw A hm;omega)).set 2 _;have hK9:Ac [b] w w9:=(Aa hK6).trans' kr (λi hi=>Or.inr (by have:=hrw i hi;omega));have hK10:=Ab (hK9.setCell (p:=⟨A,2,none⟩) (by right;simp;omega) (.slice (some ⟨g1,0,none⟩) (acc.length+1) cp1));have hown10:=Ag ho1 (p:=⟨A,2,none⟩) (by simp[Value.ownBlock];omega) (.slice (some ⟨g1,0,none⟩) (acc.length+1) cp1);(have hz10:A+1<=(w9.setCell ⟨A,2,none⟩ (.slice (some ⟨g1,0,none⟩) (acc.length+1) cp1)).heap.size:=by have:=kr.size;simp;omega);clear kr hrw hR9 hK9 hg1 ha1 hl1 ho1 hc9 hf9 HGR HRW HAC hnew hown8 hown6 hA6 hB6 hK6 HR6 a2 d2 af df q1 q2 hlt6 hz6;generalize w9.setCell ⟨A,2,none⟩ (.slice (some ⟨g1,0,none⟩) (acc.length+1) cp1)=w10 at hR10 hB10 hA10 hK10 hown10 hz10⊢;have hj1:=(Aa hR10).lt;refine(FJ b (.slice (some ⟨g,0,none⟩) ms.length cap) ms (j+1) br GQ _ (Aa hR10) (Ao ms (j+1)) (Be hj1) ((Aa HO).seen hj1 GQ)).mono ?_;rintro e w11 ⟨rfl,h11,k11⟩;have hB11:=Ab ((Aa hB10).kept k11 (by simp;omega));have hA11:=Ab ((Aa hA10).kept k11 (by simp;omega));have hK11:=Ab ((Aa hK10).trans k11);have hown11:=Ar hown10 k11 (λi hi hm=>by simp at hm;subst hm;have:=(hown10.lt _ hi).1;omega);have hz11:A+1<=w11.heap.size:=bM hz10 k11.size;clear k11 hR10 hB10 hA10 hK10 hown10 hz10;cases hs:Bz (Ao ms (j+1)) GQ with
     |true=>
      rw[hs]at h11;simp only[if_true]at h11;have HL2:Hid (Fw ms (j+2) (acc++[t])=Fw ms (nx+2) []):=by
       have hh:=Aa HL
       conv at hh=>lhs;unfold Fw
       rw[dif_pos hjl,Aa HT]at hh;simp only[hs,if_true]at hh;exact hh
      have HR11:=Ab h11;clear h11 hs HL HT;go_wp2_with fail
      go_roundg (ms.length-(j+2))
      case measure=>have:=Aa HG;omega
      case rel=>exact⟨j+2,acc++[t],some ⟨g1,0,none⟩,cp1,rfl,HL2,HR11,hB11,by simpa using hA11,by simpa using hown11,hK11,hz11,by simp;omega⟩
     |false=>
      rw[hs]at h11;simp only[Z8,if_false]at h11;have HS:=Ab hs;have HR11:=Ab h11;clear h11 hs;have HAr:Hid (Fw ms (nx+2) []=if Bz (Ao ms (j+1)) Mu then .ok (acc++[t],j+2)else .error (Ao ms (j+1)).place):=by
       have hh:=Aa HL
       conv at hh=>lhs;unfold Fw
       rw[dif_pos hjl,Aa HT]at hh;simp only[Aa HS,Z8,if_false]at hh;exact hh.symm
      have HWd:=Ab (KX b (.slice (some ⟨g,0,none⟩) ms.length cap) ms (j+1) br Mu _ ((Aa HR11).kept0 (Ac.refl [] w11).drew) (Ao ms (j+1)) (Be hj1) ((Aa HO).seen hj1 Mu));have e0:=(Aa hA11).cell 0;have e1:=(Aa hA11).cell 1;have e2:=(Aa hA11).cell 2;simp at e0 e1 e2;(have q1:¬A=N2:=by omega);(have q2:¬N2=A:=by omega);(have HC:Hid (∀w12,Ac [b] w11.drew w12->Aw w12 N2 [.int .i64 0, .string ⟨#[]⟩, .slice none 0 0] 187/\Aw w12 A [.int .i64 m.place, .string m.text, .slice (some ⟨g1,0,none⟩) (acc.length+1) cp1] 187):=λw12 k=>⟨(Aa hB11).drew.kept k (by simp;omega),(Aa hA11).drew.kept k (by simp;omega)⟩);clear HL HT HS HR11;go_wp2_with fail
      go_region_held3 (λw'=>w'.cell? ⟨A,0,none⟩=some (.int .i64 m.place)/\w'.cell? ⟨A,1,none⟩=some (.string m.text)/\w'.cell? ⟨A,2,none⟩=some (.slice (some ⟨g1,0,none⟩) (acc.length+1) cp1)) (go_keep) ((go_at_call 163;refine(Aa HWd).mono ?_;rintro e w12 ⟨rfl,h12,k12⟩;have hc12:=Aa HC w12 k12;have f0:=hc12.2.cell 0;have f1:=hc12.2.cell 1;have f2:=hc12.2.cell 2;have p0:=hc12.1.cell 0;have p1:=hc12.1.cell 1;have p2:=hc12.1.cell 2;have pf:=hc12.1.frozen;simp at f0 f1 f2 p0 p1 p2;have H12:=Ab (And.intro h12 (And.intro k12 hc12));clear h12 k12 hc12))
      rename_i hHeldY;clear hHeldY;go_wp2;obtain⟨h12,k12,hc12,_⟩:=Aa H12;have hfin:=hc12.fill3 rfl (.int .i64 m.place) (.string m.text) (.slice (some ⟨g1,0,none⟩) (acc.length+1) cp1);have hK12:Ac [b] w w12:=(Aa hK11).drew.trans k12;refine aE (AF (P:=prog) (fn:=Tryz.f158) (p:=2) (u:=3) rfl rfl hfin underlying187 rfl (by kernel_rfl)) rfl ?_;cases hcl:Bz (Ao ms (j+1)) Mu with
      |true=>
       rw[hcl]at h12;have hA:=Aa HAr;rw[hcl]at hA;simp only[if_true]at h12 hA;rw[Aa HFa _ hA];have hown12:=Ar (F3 hown11) k12 (λi hi hm=>by simp at hm;subst hm;have:=(hown11.lt _ hi).1;omega);(have hne:(Value.slice (some ⟨g1,0,none⟩) (acc.length+1) cp1).ownBlock≠some N2:=by simp[Value.ownBlock];omega);refine⟨.slice (some ⟨g1,0,none⟩) (acc.length+1) cp1,A+1,rfl,by omega,?_,?_,?_⟩
       ·have ho:=Ag (Ag (Ag hown12 (p:=⟨N2,0,none⟩) hne (.int .i64 m.place)) (p:=⟨N2,1,none⟩) hne (.string m.text)) (p:=⟨N2,2,none⟩) hne (.slice (some ⟨g1,0,none⟩) (acc.length+1) cp1);simpa using ho
       ·exact h12.fill3 (by omega) (Aa HMB N2 (by omega)) _ _ _
       ·exact hK12.fill3 (by right;omega) _ _ _
      |false=>
       rw[hcl]at h12;have hA:=Aa HAr;rw[hcl]at hA;simp only[Z8,if_false]at h12 hA;rw[Aa HFa _ hA];refine⟨j+1,m.place,m.text,some ⟨g1,0,none⟩,acc.length+1,cp1,rfl,?_,?_⟩
       ·exact h12.fill3 (by omega) (Aa HMB N2 (by omega)) _ _ _
       ·exact hK12.fill3 (by right;omega) _ _ _
def Uj:cL:=⟨#[33]⟩
abbrev W9:Type:=(Int×Int×Nat×cL×List A3)⊕W4
def GC(ms:List AV)(nx:Nat):Except Int (W9×Nat):=
 if Bz (Ao ms nx) Uj then
  match Em ms (nx+1)with
  | .error p=> .error p
  | .ok (a,n)=> .ok (.inl ((Ao ms nx).place,1,a),n)
 else if DT ms nx then
  match Em ms nx with
  | .error p=> .error p
  | .ok (a,n)=> .ok (.inl ((Ao ms nx).place,0,a),n)
 else
  match GA ms nx with
  | .error p=> .error p
  | .ok (l,n)=> .ok (.inr l,n)
theorem JM{w:World}{base:Nat}{k:TypeId}{size:Nat}{v:Value}{n:Nat}{e:List Value}(h:w.ownsRow base k size v n e){N:Nat}(a:v.ownBlock≠some N)(f v1 d b g v5 c j i:Value):(((((((((w.setCell ⟨N,0,none⟩ f).setCell ⟨N,1,none⟩ v1).setCell ⟨N,2,none⟩ d).setCell ⟨N,3,none⟩ b).setCell ⟨N,4,none⟩ g).setCell ⟨N,5,none⟩ v5).setCell ⟨N,6,none⟩ c).setCell ⟨N,7,none⟩ j).setCell ⟨N,8,none⟩ i).ownsRow base k size v n e:=
 (Ag (Ag (Ag (Ag (Ag (Ag (Ag (Ag (Ag h (p:=⟨N,0,none⟩) a f) (p:=⟨N,1,none⟩) a v1) (p:=⟨N,2,none⟩) a d) (p:=⟨N,3,none⟩) a b) (p:=⟨N,4,none⟩) a g) (p:=⟨N,5,none⟩) a v5) (p:=⟨N,6,none⟩) a c) (p:=⟨N,7,none⟩) a j) (p:=⟨N,8,none⟩) a i)
def Um(b:Nat)(mv:Value)(ms:List AV)(br:Int)(w:World)(e:Ending)(w':World):Except Int (W9×Nat)->Prop
 | .ok (.inl (pl,so,p,s,ts),nx)=>∃tv base,e= .returned (.tuple #[.agg (Aq ⟨pl,so,⟨p,s,tv⟩,AC,AC⟩).toArray, .bool true])/\w.heap.size<=base/\w'.ownsRow base 215 2 tv ts.length (ts.flatMap Am)/\BY w' b mv ms nx br/\Ac [b] w w'
 | .ok (.inr l,nx)=>e= .returned (.tuple #[.agg (Aq l).toArray, .bool true])/\BY w' b mv ms nx br/\Ac [b] w w'
 | .error p=>∃nx l,(∃ad n cp,l.atom.tv= .slice ad n cp)/\e= .returned (.tuple #[.agg (Aq l).toArray, .bool false])/\BY w' b mv ms nx p/\Ac [b] w w'
theorem X8(b:Nat)(R:Value)(f:List AV)(g:Nat)(V:Int)(w:World)(h:BY w b R f g V)(ok:Sx f):
  Calls prog 172 #[.pointer (some ⟨b,0,none⟩)] w λe w'=>Um b R f V w e w' (GC f g):=by
 have HO:=Ab ok;have LM:=h.blk.lt;have K1:∀k,R.ownBlock=some k->k<w.heap.size:=λk hk=>(h.row.lt k hk).2
 have h1:=Ab (h.kept0 ((Ac.refl [] w).alloc (.cells (Aq BP).toArray 217)));have hN:=Ab (Aw.new w (Aq BP) 217);have H8:=Ab ((Ac.refl [b] w).alloc (.cells (Aq BP).toArray 217));have Ix:(w.alloc (.cells (Aq BP).toArray 217)).heap.size=w.heap.size+1:=by simp
 clear h ok;go_enter func172,ntmps172;go_wp2_with fail
 change Calls _ _ _ (w.alloc (.cells (Aq BP).toArray 217)) _;generalize w.alloc (.cells (Aq BP).toArray 217)=w1 at h1 hN H8 Ix⊢;obtain⟨N,JJ⟩:∃N,w.heap.size=N:=⟨_,rfl⟩;rw[JJ]at hN LM Ix K1⊢;have i:Hid (∀k,N<=k->R.ownBlock≠some k):=λk hk e=>by have:=K1 k e;omega
 clear K1;have T:=Ab JJ;clear JJ;refine(I0 b R f g V _ (Aa h1) (Ao f g) (Be (Aa h1).lt)).mono ?_;rintro e w2 ⟨rfl,k2⟩;have h2:=Ab ((Aa h1).kept0 k2);have K3:=Ab ((Aa hN).kept k2 (by simp));have K8:=Ab ((Aa H8).trans (k2.mono (by simp)));have LE:N+1<=w2.heap.size:=by have:=k2.size;omega
 clear h1 hN H8 Ix k2;obtain⟨p,hp⟩:∃p,(Ao f g).place=p:=⟨_,rfl⟩;have HP:=Ab hp;rw[hp];clear hp;go_wp2_with fail
 change Calls _ _ _ (w2.alloc (.cells (Aq ⟨p,0,AR,AC,AC⟩).toArray 217)) _;have h3:=Ab ((Aa h2).kept0 ((Ac.refl [] w2).alloc (.cells (Aq ⟨p,0,AR,AC,AC⟩).toArray 217)));have H7:=Ab ((Aa K3).alloc (.cells (Aq ⟨p,0,AR,AC,AC⟩).toArray 217));have HY:=Ab (Aw.new w2 (Aq ⟨p,0,AR,AC,AC⟩) 217);have H9:=Ab ((Aa K8).alloc (.cells (Aq ⟨p,0,AR,AC,AC⟩).toArray 217));clear h2 K3 K8;generalize w2.alloc (.cells (Aq ⟨p,0,AR,AC,AC⟩).toArray 217)=w3 at h3 H7 HY H9⊢;obtain⟨L,K9⟩:∃L,w2.heap.size=L:=⟨_,rfl⟩;rw[K9]at HY LE⊢;clear K9;refine(FJ b R f g V Uj _ (Aa h3) (Ao f g) (Be (Aa h3).lt) ((Aa HO).seen (Aa h3).lt Uj)).mono ?_;rintro e w4 ⟨rfl,W,k4⟩;have H0:=Ab ((Aa H7).kept k4 (by simp;omega));have FL:=Ab ((Aa HY).kept k4 (by simp;omega));have HZ:=Ab ((Aa H9).trans k4);clear h3 H7 HY H9 k4;cases hs:Bz (Ao f g) Uj with
 |true=>
  rw[hs]at W;simp only[if_true]at W;have HS:=Ab hs;have S:=(Aa FL).cell 1;have lf:=(Aa FL).frozen;simp[Aq]at S;have H4:=Ab W;clear W hs;go_wp2_with fail
  have K5:=Aa i;have AT:=Aa T;have Ha:=Ab ((Aa H4).other (p:=⟨L,1,none⟩) (by simp;omega) (K5 L (by omega)) (.int .i64 1));have x:=Ab ((Aa H0).set_other ⟨L,1,none⟩ (by simp;omega) (.int .i64 1));have t:Hid (Aw (w4.setCell ⟨L,1,none⟩ (.int .i64 1)) L (Aq ⟨p,1,AR,AC,AC⟩) 217):=(Aa FL).set 1 _;have Q:=Ab ((Aa HZ).setCell (p:=⟨L,1,none⟩) (by right;simp;omega) (.int .i64 1));clear S lf H0 FL HZ K5 AT H4;generalize w4.setCell ⟨L,1,none⟩ (.int .i64 1)=wa at Ha x t Q⊢;have LS:=(Aa x).lt;have Mo:=(Aa t).lt;refine(LG b R f (g+1) V _ (Aa Ha) (Aa HO)).mono ?_;intro e w6 o;clear Ha;cases ht:Em f (g+1)with
  |error q=>
   rw[ht]at o;obtain⟨n9,ap,an,j,Y,m,rfl,n,d⟩:=o;(have B:Hid (GC f g= .error q):=by show _=_;unfold GC;simp[HS.out,ht]);clear ht;have a:=(Aa x).kept d (by simp;omega);have c:=(Aa t).kept d (by simp;omega);have C:=Ab ((Aa Q).trans d);have l0:=c.cell 0;have S:=c.cell 1;have l2:=c.cell 2;have Z:=c.cell 3;have l4:=c.cell 4;have l5:=c.cell 5;have l6:=c.cell 6;have l7:=c.cell 7;have l8:=c.cell 8;have lf:=c.frozen;have nf:=a.frozen;have I:=a.cell 0;have D:=a.cell 1;have y:=a.cell 2;have E:=a.cell 3;have H:=a.cell 4;have O:=a.cell 5;have F:=a.cell 6;have K:=a.cell 7;have A:=a.cell 8;simp[Aq,BP,AR,AC]at l0 I S D l2 y Z E l4 H l5 O l6 F l7 K l8 A;(have q1:¬L=N:=by omega);(have q2:¬N=L:=by omega);have J:=Ab a;have M:=Ab n;clear a c n d x t Q;simp only[AL];go_wp2;rw[B.out];have G:=((((Aa J).set_other ⟨L,2,none⟩ (by simp;omega) (.int .i64 ap)).set_other ⟨L,3,none⟩ (by simp;omega) (.string an)).set_other ⟨L,4,none⟩ (by simp;omega) (.slice j Y m)).fill9 rfl (.int .i64 p) (.int .i64 1) (.int .i64 ap) (.string an) (.slice j Y m) (.int .i32 0) (.string ByteArray.empty) (.int .i32 0) (.string ByteArray.empty);refine aE (AF (P:=prog) (fn:=Tryz.f172) (p:=2) (u:=3) rfl rfl G underlying217 rfl (by kernel_rfl)) rfl ?_;refine⟨n9,⟨p,1,⟨ap,an, .slice j Y m⟩,AC,AC⟩,⟨_,_,_,rfl⟩,rfl,?_,?_⟩
   ·exact((((Aa M).other (p:=⟨L,2,none⟩) (by simp;omega) (Aa i L (by omega)) _).other (p:=⟨L,3,none⟩) (by simp;omega) (Aa i L (by omega)) _).other (p:=⟨L,4,none⟩) (by simp;omega) (Aa i L (by omega)) _).fill9 (by omega) (Aa i N (by omega)) _ _ _ _ _ _ _ _ _
   ·have AT:=Aa T;exact((((Aa C).setCell (p:=⟨L,2,none⟩) (by right;simp;omega) _).setCell (p:=⟨L,3,none⟩) (by right;simp;omega) _).setCell (p:=⟨L,4,none⟩) (by right;simp;omega) _).fill9 (by right;omega) _ _ _ _ _ _ _ _ _
  |ok r=>
   obtain⟨⟨pp,X,z⟩,n2⟩:=r;rw[ht]at o;obtain⟨tv,HL,rfl,LL,U,n,d⟩:=o;obtain⟨j,m,rfl⟩:=Ak U;(have B:Hid (GC f g= .ok (.inl (p,1,pp,X,z),n2)):=by show _=_;unfold GC;simp[HS.out,ht,HP.out]);have EX:Hid (_/\(∀k,k<HL->(Value.slice j z.length m).ownBlock≠some k)):=⟨U,λk hk e=>by have:=(U.lt k e).1;omega⟩;clear ht U;have a:=(Aa x).kept d (by simp;omega);have c:=(Aa t).kept d (by simp;omega);have C:=Ab ((Aa Q).trans d);have l0:=c.cell 0;have S:=c.cell 1;have l2:=c.cell 2;have Z:=c.cell 3;have l4:=c.cell 4;have l5:=c.cell 5;have l6:=c.cell 6;have l7:=c.cell 7;have l8:=c.cell 8;have lf:=c.frozen;have nf:=a.frozen;have I:=a.cell 0;have D:=a.cell 1;have y:=a.cell 2;have E:=a.cell 3;have H:=a.cell 4;have O:=a.cell 5;have F:=a.cell 6;have K:=a.cell 7;have A:=a.cell 8;simp[Aq,BP,AR,AC]at l0 I S D l2 y Z E l4 H l5 O l6 F l7 K l8 A;(have q1:¬L=N:=by omega);(have q2:¬N=L:=by omega);have J:=Ab a;have M:=Ab n;clear a c n d x t Q;simp only[AL];go_wp2;rw[B.out];have G:=((((Aa J).set_other ⟨L,2,none⟩ (by simp;omega) (.int .i64 pp)).set_other ⟨L,3,none⟩ (by simp;omega) (.string X)).set_other ⟨L,4,none⟩ (by simp;omega) (.slice j z.length m)).fill9 rfl (.int .i64 p) (.int .i64 1) (.int .i64 pp) (.string X) (.slice j z.length m) (.int .i32 0) (.string ByteArray.empty) (.int .i32 0) (.string ByteArray.empty);refine aE (AF (P:=prog) (fn:=Tryz.f172) (p:=2) (u:=3) rfl rfl G underlying217 rfl (by kernel_rfl)) rfl ?_;have FC:=EX.out.2 L (by omega);have K2:=EX.out.2 N (by omega);refine⟨.slice j z.length m,HL,rfl,by have:=Aa T;omega,?_,?_,?_⟩
   ·exact JM (Ag (Ag (Ag EX.out.1 (p:=⟨L,2,none⟩) FC _) (p:=⟨L,3,none⟩) FC _) (p:=⟨L,4,none⟩) FC _) K2 _ _ _ _ _ _ _ _ _
   ·exact((((Aa M).other (p:=⟨L,2,none⟩) (by simp;omega) (Aa i L (by omega)) _).other (p:=⟨L,3,none⟩) (by simp;omega) (Aa i L (by omega)) _).other (p:=⟨L,4,none⟩) (by simp;omega) (Aa i L (by omega)) _).fill9 (by omega) (Aa i N (by omega)) _ _ _ _ _ _ _ _ _
   ·have AT:=Aa T;exact((((Aa C).setCell (p:=⟨L,2,none⟩) (by right;simp;omega) _).setCell (p:=⟨L,3,none⟩) (by right;simp;omega) _).setCell (p:=⟨L,4,none⟩) (by right;simp;omega) _).fill9 (by right;omega) _ _ _ _ _ _ _ _ _
 |false=>
  rw[hs]at W;simp only[Z8,if_false]at W;have HS:=Ab hs;have H4:=Ab W;clear W hs;go_wp2_with fail
  refine(P8 b R f g V _ (Aa H4) (Aa HO)).mono ?_;rintro e w5 ⟨rfl,k5⟩;have H5:=Ab ((Aa H4).kept0 k5);have FP:=Ab ((Aa H0).kept k5 (by simp));have H2:=Ab ((Aa FL).kept k5 (by simp));have FT:=Ab ((Aa HZ).trans (k5.mono (by simp)));clear H4 H0 FL HZ k5;cases ha:DT f g with
  |true=>
   have HA:=Ab ha;clear ha;(go_wp2_with fail);have Ha:=H5;have x:=FP;have t:=H2;have Q:=FT;clear H5 FP H2 FT;have LS:=(Aa x).lt;have Mo:=(Aa t).lt;refine(LG b R f g V _ (Aa Ha) (Aa HO)).mono ?_;intro e w6 o;clear Ha;cases ht:Em f g with
   |error q=>
    rw[ht]at o;obtain⟨n9,ap,an,j,Y,m,rfl,n,d⟩:=o;(have B:Hid (GC f g= .error q):=by show _=_;unfold GC;simp[HS.out,HA.out,ht]);clear ht;have a:=(Aa x).kept d (by simp;omega);have c:=(Aa t).kept d (by simp;omega);have C:=Ab ((Aa Q).trans d);have l0:=c.cell 0;have S:=c.cell 1;have l2:=c.cell 2;have Z:=c.cell 3;have l4:=c.cell 4;have l5:=c.cell 5;have l6:=c.cell 6;have l7:=c.cell 7;have l8:=c.cell 8;have lf:=c.frozen;have nf:=a.frozen;have I:=a.cell 0;have D:=a.cell 1;have y:=a.cell 2;have E:=a.cell 3;have H:=a.cell 4;have O:=a.cell 5;have F:=a.cell 6;have K:=a.cell 7;have A:=a.cell 8;simp[Aq,BP,AR,AC]at l0 I S D l2 y Z E l4 H l5 O l6 F l7 K l8 A;(have q1:¬L=N:=by omega);(have q2:¬N=L:=by omega);have J:=Ab a;have M:=Ab n;clear a c n d x t Q;simp only[AL];go_wp2;rw[B.out];have G:=((((Aa J).set_other ⟨L,2,none⟩ (by simp;omega) (.int .i64 ap)).set_other ⟨L,3,none⟩ (by simp;omega) (.string an)).set_other ⟨L,4,none⟩ (by simp;omega) (.slice j Y m)).fill9 rfl (.int .i64 p) (.int .i64 0) (.int .i64 ap) (.string an) (.slice j Y m) (.int .i32 0) (.string ByteArray.empty) (.int .i32 0) (.string ByteArray.empty);refine aE (AF (P:=prog) (fn:=Tryz.f172) (p:=2) (u:=3) rfl rfl G underlying217 rfl (by kernel_rfl)) rfl ?_;refine⟨n9,⟨p,0,⟨ap,an, .slice j Y m⟩,AC,AC⟩,⟨_,_,_,rfl⟩,rfl,?_,?_⟩
    ·exact((((Aa M).other (p:=⟨L,2,none⟩) (by simp;omega) (Aa i L (by omega)) _).other (p:=⟨L,3,none⟩) (by simp;omega) (Aa i L (by omega)) _).other (p:=⟨L,4,none⟩) (by simp;omega) (Aa i L (by omega)) _).fill9 (by omega) (Aa i N (by omega)) _ _ _ _ _ _ _ _ _
    ·have AT:=Aa T;exact((((Aa C).setCell (p:=⟨L,2,none⟩) (by right;simp;omega) _).setCell (p:=⟨L,3,none⟩) (by right;simp;omega) _).setCell (p:=⟨L,4,none⟩) (by right;simp;omega) _).fill9 (by right;omega) _ _ _ _ _ _ _ _ _
   |ok r=>
    obtain⟨⟨pp,X,z⟩,n2⟩:=r;rw[ht]at o;obtain⟨tv,HL,rfl,LL,U,n,d⟩:=o;obtain⟨j,m,rfl⟩:=Ak U;(have B:Hid (GC f g= .ok (.inl (p,0,pp,X,z),n2)):=by show _=_;unfold GC;simp[HS.out,HA.out,ht,HP.out]);have EX:Hid (_/\(∀k,k<HL->(Value.slice j z.length m).ownBlock≠some k)):=⟨U,λk hk e=>by have:=(U.lt k e).1;omega⟩;clear ht U;have a:=(Aa x).kept d (by simp;omega);have c:=(Aa t).kept d (by simp;omega);have C:=Ab ((Aa Q).trans d);have l0:=c.cell 0;have S:=c.cell 1;have l2:=c.cell 2;have Z:=c.cell 3;have l4:=c.cell 4;have l5:=c.cell 5;have l6:=c.cell 6;have l7:=c.cell 7;have l8:=c.cell 8;have lf:=c.frozen;have nf:=a.frozen;have I:=a.cell 0;have D:=a.cell 1;have y:=a.cell 2;have E:=a.cell 3;have H:=a.cell 4;have O:=a.cell 5;have F:=a.cell 6;have K:=a.cell 7;have A:=a.cell 8;simp[Aq,BP,AR,AC]at l0 I S D l2 y Z E l4 H l5 O l6 F l7 K l8 A;(have q1:¬L=N:=by omega);(have q2:¬N=L:=by omega);have J:=Ab a;have M:=Ab n;clear a c n d x t Q;simp only[AL];go_wp2;rw[B.out];have G:=((((Aa J).set_other ⟨L,2,none⟩ (by simp;omega) (.int .i64 pp)).set_other ⟨L,3,none⟩ (by simp;omega) (.string X)).set_other ⟨L,4,none⟩ (by simp;omega) (.slice j z.length m)).fill9 rfl (.int .i64 p) (.int .i64 0) (.int .i64 pp) (.string X) (.slice j z.length m) (.int .i32 0) (.string ByteArray.empty) (.int .i32 0) (.string ByteArray.empty);refine aE (AF (P:=prog) (fn:=Tryz.f172) (p:=2) (u:=3) rfl rfl G underlying217 rfl (by kernel_rfl)) rfl ?_;have FC:=EX.out.2 L (by omega);have K2:=EX.out.2 N (by omega);refine⟨.slice j z.length m,HL,rfl,by have:=Aa T;omega,?_,?_,?_⟩
    ·exact JM (Ag (Ag (Ag EX.out.1 (p:=⟨L,2,none⟩) FC _) (p:=⟨L,3,none⟩) FC _) (p:=⟨L,4,none⟩) FC _) K2 _ _ _ _ _ _ _ _ _
    ·exact((((Aa M).other (p:=⟨L,2,none⟩) (by simp;omega) (Aa i L (by omega)) _).other (p:=⟨L,3,none⟩) (by simp;omega) (Aa i L (by omega)) _).other (p:=⟨L,4,none⟩) (by simp;omega) (Aa i L (by omega)) _).fill9 (by omega) (Aa i N (by omega)) _ _ _ _ _ _ _ _ _
    ·have AT:=Aa T;exact((((Aa C).setCell (p:=⟨L,2,none⟩) (by right;simp;omega) _).setCell (p:=⟨L,3,none⟩) (by right;simp;omega) _).setCell (p:=⟨L,4,none⟩) (by right;simp;omega) _).fill9 (by right;omega) _ _ _ _ _ _ _ _ _
  |false=>
   have HA:=Ab ha;clear ha;(go_wp2_with fail);refine(Y2 b R f g V _ (Aa H5) (Aa HO)).mono ?_;intro e w6 o;clear H5;cases ht:GA f g with
   |error q=>
    rw[ht]at o;obtain⟨n9,l,HV,rfl,n,d⟩:=o;obtain⟨lp,ls,la,ll,lr⟩:=l;simp only at HV;subst HV;(have B:Hid (GC f g= .error q):=by show _=_;unfold GC;simp[HS.out,HA.out,ht]);clear ht;have a:=(Aa FP).kept d (by simp;omega);have C:=Ab ((Aa FT).trans d);have nf:=a.frozen;have I:=a.cell 0;have D:=a.cell 1;have y:=a.cell 2;have E:=a.cell 3;have H:=a.cell 4;have O:=a.cell 5;have F:=a.cell 6;have K:=a.cell 7;have A:=a.cell 8;simp[Aq,BP,AR,AC]at I D y E H O F K A;have J:=Ab a;have M:=Ab n;clear a n d FP H2 FT;simp only[Aq,AR];go_wp2;rw[B.out];have G:=(Aa J).fill9 rfl (.int .i64 lp) (.int .i64 ls) (.int .i64 0) (.string ByteArray.empty) (.slice none 0 0) (.int .i32 ll.v) (.string ll.s) (.int .i32 lr.v) (.string lr.s);refine aE (AF (P:=prog) (fn:=Tryz.f172) (p:=2) (u:=3) rfl rfl G underlying217 rfl (by kernel_rfl)) rfl ?_;refine⟨n9,⟨lp,ls,AR,ll,lr⟩,⟨_,_,_,rfl⟩,rfl,?_,?_⟩
    ·exact(Aa M).fill9 (by omega) (Aa i N (by omega)) _ _ _ _ _ _ _ _ _
    ·have AT:=Aa T;exact(Aa C).fill9 (by right;omega) _ _ _ _ _ _ _ _ _
   |ok r=>
    obtain⟨l,n2⟩:=r;rw[ht]at o;have HV:=PI ht;obtain⟨lp,ls,la,ll,lr⟩:=l;simp only at HV;subst HV;obtain⟨rfl,n,d⟩:=o;(have B:Hid (GC f g= .ok (.inr ⟨lp,ls,AR,ll,lr⟩,n2)):=by show _=_;unfold GC;simp[HS.out,HA.out,ht]);clear ht;have a:=(Aa FP).kept d (by simp;omega);have C:=Ab ((Aa FT).trans d);have nf:=a.frozen;have I:=a.cell 0;have D:=a.cell 1;have y:=a.cell 2;have E:=a.cell 3;have H:=a.cell 4;have O:=a.cell 5;have F:=a.cell 6;have K:=a.cell 7;have A:=a.cell 8;simp[Aq,BP,AR,AC]at I D y E H O F K A;have J:=Ab a;have M:=Ab n;clear a n d FP H2 FT;simp only[Aq,AR];go_wp2;rw[B.out];have G:=(Aa J).fill9 rfl (.int .i64 lp) (.int .i64 ls) (.int .i64 0) (.string ByteArray.empty) (.slice none 0 0) (.int .i32 ll.v) (.string ll.s) (.int .i32 lr.v) (.string lr.s);refine aE (AF (P:=prog) (fn:=Tryz.f172) (p:=2) (u:=3) rfl rfl G underlying217 rfl (by kernel_rfl)) rfl ?_;refine⟨rfl,?_,?_⟩
    ·exact(Aa M).fill9 (by omega) (Aa i N (by omega)) _ _ _ _ _ _ _ _ _
    ·have AT:=Aa T;exact(Aa C).fill9 (by right;omega) _ _ _ _ _ _ _ _ _
end Go.Proofs.YtoihbhenbmffcaaGreatDoor
namespace Go.Proofs.YtoihbhenbmffcaaGreatDoor
open Go.RowKit
open Go.Proofs.Tryz
section
variable {P:Program} {ops:Array Oper} {Q:Exit->Act->World->Prop} {md:Region.Mode} {S:World->Prop} {k:Nat}
def CF(P:Program)(md:Region.Mode)(ops:Array Oper)(Q:Exit->Act->World->Prop)(S:World->Prop)(k:Nat):Nat->Array Bool->Act->World->Prop
 |0,listed,a,w=>Region.ready md ops listed=[]/\Q .normal a w
 |fuel+1,listed,a,w=>(Region.ready md ops listed=[]->Q .normal a w)/\
  ∀i∈Region.ready md ops listed,wpOp P ops Q i (λa' w'=>(i≠k->S w')/\CF P md ops Q S k fuel (listed.setIfInBounds i true) a' w') a w
theorem CF.any:∀(b:Nat) (c:Array Bool) (a:Act) (w:World),CF P md ops Q S k b c a w->wpAny P md ops Q b c a w
 |0,_,_,_,h=>h
 |b+1,_,_,_,h=>⟨h.1,λi g=>wpOp_mono (λf e d=>CF.any b _ f e d.2) (h.2 i g)⟩
def WX(md:Region.Mode)(ops:Array Oper)(k i:Nat):Bool:=match ops[k]? with|some o=>o.after.any λe=>Region.binds md e&&e.on==i|none=>false
theorem Wl{i:Nat}{b:Array Bool}(h:WX md ops k i=true)(f:b.getD i true=false):k∉Region.ready md ops b:=λg=>by
 obtain⟨_,o,l,j⟩:=mem_ready.1 g;unfold WX at h;rw[l]at h;obtain⟨e,m,d⟩:=Array.any_eq_true'.1 h;simp only[aO,b8]at d;have a:=j e m d.1;rw[d.2]at a;rcases Nat.lt_or_ge i b.size with c|c
 ·simp[c]at f a;rw[f]at a;cases a
 ·simp[dQ c]at a
theorem CF.first{i:Nat}{n:Oper}{v:Value}(B:ops[i]?=some n)(G:∀(j:Nat) (o:Oper) p b,ops[j]?=some o->o.op≠ .select p b)
  (N:∀c a w,Q (.panic c) (a.put n.dst v) w->Q (.panic c) a w) (O:WX md ops k i=true):
  ∀(r:Nat) (f:Array Bool) (a:Act) (w:World),
   (∀j m,ops[j]?=some m->j≠i->f.getD j true=false->(∀e∈m.after,Region.binds md e=true->e.on≠i)->n.apart ops m=true)->
   i∈Region.ready md ops f->YieldsIf P ops S n v a->S w->
   CF P md ops Q S k r (f.setIfInBounds i true) (a.put n.dst v) w->CF P md ops Q S k (r+1) f a w:=by
 intro r
 induction r with
 |zero=>
  intro f a w _ l u t H;refine⟨λh=>(by rw[h]at l;cases l),λj s=>?_⟩;by_cases d:j=i
  ·subst d;exact u.wpOp B t ⟨λ_=>t,H⟩
  ·have:=ready_mono s d;rw[H.1]at this;cases this
 |succ r ih=>
  intro f a w E l u t H;have A:=(mem_ready.1 l).1;refine⟨λh=>(by rw[h]at l;cases l),λj s=>?_⟩;by_cases d:j=i
  ·subst d;exact u.wpOp B t ⟨λ_=>t,H⟩
  ·(have D:j≠k:=λe=>Wl O A (e▸s));have V:=H.2 j (ready_mono s d);obtain⟨C,m,y,X⟩:=mem_ready.1 s;have T:∀e∈m.after,Region.binds md e=true->e.on≠i:=λe Y L M=>by
    have g:=X e Y L;rw[M]at g;rcases Nat.lt_or_ge i f.size with z|z
    ·simp[z]at A g;rw[A]at g;cases g
    ·simp[dQ z]at g
   have g:=wpOp_putIf y (E j m y d C T) (λp b=>G i n p b B) (λp b=>G j m p b y) N u V;refine wpOp_mono (λU K x=>⟨λ_=>x.2.1 D,ih (f.setIfInBounds j true) U K (λq Z R W I J=>E q Z R W ?_ J) (ready_mono l (Ne.symm d)) x.1 (x.2.1 D) ?_⟩) g
   ·by_cases F:j=q
    ·subst F;exact C
    ·rw[getD_set_ne true F]at I;exact I
   ·rw[Array.setIfInBounds_comm _ _ d];exact x.2.2
theorem CF.take{i:Nat}{d:Oper}{v:Value}{fuel:Nat}{b:Array Bool}{a:Act}{w:World}(e:ops[i]?=some d)
  (n:Region.noSelect ops=true) (f:Region.free md ops b i=true) (m:(Region.ready md ops b).contains i=true) (g:WX md ops k i=true)
  (o:∀c a w,Q (.panic c) (a.put d.dst v) w->Q (.panic c) a w) (l:S w) (j:YieldsIf P ops S d v a)
  (h:CF P md ops Q S k fuel (b.setIfInBounds i true) (a.put d.dst v) w):CF P md ops Q S k (fuel+1) b a w:=
 CF.first e (Region.noSelect_spec n) o g fuel b a w (Region.free_spec e f) (by simpa using m) j l h
theorem CF.one{i:Nat}{o:Oper}{fuel:Nat}{e:Array Bool}{a:Act}{w:World}(l:Region.ready md ops e=[i])(n:ops[i]?=some o)
  (h:∀K:Act->World->Prop,Hid (∀g c,(i≠k->S c)->CF P md ops Q S k fuel (e.setIfInBounds i true) g c->K g c)->
   if Region.wanted o (yielded ops a.tmps)=true then o.wp P a w K Q else K (a.put o.dst undef) w):CF P md ops Q S k (fuel+1) e a w:=by
 refine⟨λm=>(by rw[l]at m;cases m),λj f=>?_⟩;rw[l]at f;simp only[ae]at f;subst f;have b:=h _ (λg c p b=>And.intro p b);unfold wpOp;simp only[n];split
 ·rename_i d;rw[if_pos d]at b;exact .inl b
 ·rename_i d;rw[if_neg d]at b;exact b
theorem CF.done{b:Array Bool}{a:Act}{w:World}(c:Region.ready md ops b=[])(h:Q .normal a w):∀d,CF P md ops Q S k d b a w
 |0=>⟨c,h⟩
 |_+1=>⟨λ_=>h,by rw[c];simp⟩
theorem CS{b:Nat}{a:Act}{w:World}(k:Nat)(S:World->Prop)(c:P.follows .mixedOrders=true)
  (h:CF P .any ops Q S k ops.size (Array.replicate ops.size false) a w.drew):(Code.region b ops true).wp P Q a w:=
 wp_region_any c (CF.any _ _ _ _ h)
end
