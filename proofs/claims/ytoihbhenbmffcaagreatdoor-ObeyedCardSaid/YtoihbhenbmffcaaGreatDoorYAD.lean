import Derived.Test.YtoihbhenbmffcaaGreatDoorYAC
set_option linter.all false
set_option maxHeartbeats 0
open List renaming length->Z,toArray->j3,replicate->lV
open Option renaming none->Y
open Go.Value renaming slice->U,int->X,string->O
open Go.IntKind renaming i64->J,i32->lS
open Go.Obj renaming cells->j2
open ByteArray renaming empty->lU
namespace Go.Proofs.YtoihbhenbmffcaaGreatDoor
open Go.RowKit Go.Proofs.Tryz
def Xk:zA:=⟨#[33]⟩
abbrev aq:Type:=(Int×Int×Nat×zA×mc AQ)⊕ai
def Hl(ms:mc AZ)(nx:Nat):Except Int (aq×Nat):=
 if BM (As ms nx) Xk then
  match EW ms (nx+1)with
  | .error p=> .error p
  | .ok (a,n)=> .ok (.inl ((As ms nx).place,1,a),n)
 else if Ez ms nx then
  match EW ms nx with
  | .error p=> .error p
  | .ok (a,n)=> .ok (.inl ((As ms nx).place,0,a),n)
 else
  match Hi ms nx with
  | .error p=> .error p
  | .ok (l,n)=> .ok (.inr l,n)
def Lk{w:World}{base:Nat}{k:TypeId}{size:Nat}{v:Value}{n:Nat}{e:mc Value}(h:w.ownsRow base k size v n e){N:Nat}(a:v.ownBlock≠some N)(f v1 d b g v5 c j i:Value):(((((((((w.setCell ⟨N,0,Y⟩ f).setCell ⟨N,1,Y⟩ v1).setCell ⟨N,2,Y⟩ d).setCell ⟨N,3,Y⟩ b).setCell ⟨N,4,Y⟩ g).setCell ⟨N,5,Y⟩ v5).setCell ⟨N,6,Y⟩ c).setCell ⟨N,7,Y⟩ j).setCell ⟨N,8,Y⟩ i).ownsRow base k size v n e:=
 (Ag (Ag (Ag (Ag (Ag (Ag (Ag (Ag (Ag h (p:=⟨N,0,Y⟩) a f) (p:=⟨N,1,Y⟩) a v1) (p:=⟨N,2,Y⟩) a d) (p:=⟨N,3,Y⟩) a b) (p:=⟨N,4,Y⟩) a g) (p:=⟨N,5,Y⟩) a v5) (p:=⟨N,6,Y⟩) a c) (p:=⟨N,7,Y⟩) a j) (p:=⟨N,8,Y⟩) a i)
def Xo(b:Nat)(mv:Value)(ms:mc AZ)(br:Int)(w:World)(e:Ending)(w':World):Except Int (aq×Nat)->Prop
 | .ok (.inl (pl,so,p,s,ts),nx)=>∃tv base,e=.returned (.tuple #[.agg (j3 (Ay ⟨pl,so,⟨p,s,tv⟩,AD,AD⟩)),.bool true])/\w.heap.size<=base/\w'.ownsRow base 215 2 tv (Z ts) (ts.flatMap Aq)/\B3 w' b mv ms nx br/\Ac [b] w w'
 | .ok (.inr l,nx)=>e=.returned (.tuple #[.agg (j3 (Ay l)),.bool true])/\B3 w' b mv ms nx br/\Ac [b] w w'
 | .error p=>∃nx l,(∃ad n cp,l.atom.tv=U ad n cp)/\e=.returned (.tuple #[.agg (j3 (Ay l)),.bool false])/\B3 w' b mv ms nx p/\Ac [b] w w'
set_option maxRecDepth 100000
theorem b8(b:Nat)(T:Value)(ms:mc AZ)(f:Nat)(br:Int)(w:World)(h:B3 w b T ms f br)(ok:VB ms):
  Calls prog 172 #[.pointer (some ⟨b,0,Y⟩)] w λe w'=>Xo b T ms br w e w' (Hl ms f):=by
 have HO:=Ab ok;have LC:=h.zO.lt;have JJ:∀k,T.ownBlock=some k->k<w.heap.size:=λk hk=>(h.row.lt k hk).2
 have h1:=Ab (h.zI ((me [] w).alloc (j2 (j3 (Ay B8)) 217)));have hN:=Ab (mf w (Ay B8) 217);have H8:=Ab ((me [b] w).alloc (j2 (j3 (Ay B8)) 217));have Ix:(w.alloc (j2 (j3 (Ay B8)) 217)).heap.size=w.heap.size+1:=by simp
 clear h ok;go_enter func172,ntmps172;go_wp2_with fail
 change Calls _ _ _ (w.alloc (j2 (j3 (Ay B8)) 217)) _;generalize w.alloc (j2 (j3 (Ay B8)) 217)=w1 at h1 hN H8 Ix⊢;obtain⟨N,IJ⟩:∃N,w.heap.size=N:=⟨_,rfl⟩;rw[IJ]at hN LC Ix JJ⊢;have g:Hid (∀k,N<=k->T.ownBlock≠some k):=λk hk e=>by have:=JJ k e;omega
 clear JJ;have HN:=Ab IJ;clear IJ;refine(IE b T ms f br _ h1 (As ms f) (Bb h1.lt)).mono ?_;rintro e w2 ⟨rfl,k2⟩;have h2:=Ab (h1.zI k2);have KS:=Ab (hN.kept k2 (by simp));have K5:=Ab (H8.trans (k2.mono (by simp)));have K9:N+1<=w2.heap.size:=by have:=k2.size;omega
 clear h1 hN H8 Ix k2;obtain⟨p,hp⟩:∃p,(As ms f).place=p:=⟨_,rfl⟩;have HP:=Ab hp;rw[hp];clear hp;go_wp2_with fail
 change Calls _ _ _ (w2.alloc (j2 (j3 (Ay ⟨p,0,AX,AD,AD⟩)) 217)) _;have h3:=Ab (h2.zI ((me [] w2).alloc (j2 (j3 (Ay ⟨p,0,AX,AD,AD⟩)) 217)));have H7:=Ab (KS.alloc (j2 (j3 (Ay ⟨p,0,AX,AD,AD⟩)) 217));have HY:=Ab (mf w2 (Ay ⟨p,0,AX,AD,AD⟩) 217);have H9:=Ab (K5.alloc (j2 (j3 (Ay ⟨p,0,AX,AD,AD⟩)) 217));clear h2 KS K5;generalize w2.alloc (j2 (j3 (Ay ⟨p,0,AX,AD,AD⟩)) 217)=w3 at h3 H7 HY H9⊢;obtain⟨L,K6⟩:∃L,w2.heap.size=L:=⟨_,rfl⟩;rw[K6]at HY K9⊢;clear K6;refine(Gt b T ms f br Xk _ h3 (As ms f) (Bb h3.lt) (HO.seen h3.lt Xk)).mono ?_;rintro e w4 ⟨rfl,h4,k4⟩;have H0:=Ab (H7.kept k4 (by simp;omega));have FF:=Ab (HY.kept k4 (by simp;omega));have HZ:=Ab (H9.trans k4);clear h3 H7 HY H9 k4;cases hs:BM (As ms f) Xk with
 |true=>
  rw[hs]at h4;simp only[if_true]at h4;have HS:=Ab hs;have W:=FF.cell 1;have lf:=FF.frozen;simp[Ay]at W;have H4:=Ab h4;clear h4 hs;go_wp2_with fail
  have K2:=Aa g;have B0:=Aa HN;have Ha:=Ab (H4.other (p:=⟨L,1,Y⟩) (by simp;omega) (K2 L (by omega)) (X J 1));have t:=Ab (H0.zB ⟨L,1,Y⟩ (by simp;omega) (X J 1));have o:Hid (AH (w4.setCell ⟨L,1,Y⟩ (X J 1)) L (Ay ⟨p,1,AX,AD,AD⟩) 217):=FF.set 1 _;have S:=Ab (HZ.setCell (p:=⟨L,1,Y⟩) (by right;simp;omega) (X J 1));clear W lf H0 FF HZ K2 B0 H4;generalize w4.setCell ⟨L,1,Y⟩ (X J 1)=wa at Ha t o S⊢;have LE:=t.lt;have LM:=o.lt;refine(Nt b T ms (f+1) br _ Ha HO).mono ?_;intro e w6 n;clear Ha;cases ht:EW ms (f+1)with
  |error q=>
   rw[ht]at n;obtain⟨n9,ap,an,i,A2,j,rfl,m,d⟩:=n;(have A:Hid (Hl ms f=.error q):=by show _=_;unfold Hl;simp[HS.out,ht]);clear ht;have a:=t.kept d (by simp;omega);have c:=o.kept d (by simp;omega);have B:=Ab (S.trans d);have l0:=c.cell 0;have W:=c.cell 1;have l2:=c.cell 2;have l3:=c.cell 3;have l4:=c.cell 4;have l5:=c.cell 5;have l6:=c.cell 6;have l7:=c.cell 7;have l8:=c.cell 8;have lf:=c.frozen;have nf:=a.frozen;have H:=a.cell 0;have C:=a.cell 1;have x:=a.cell 2;have D:=a.cell 3;have G:=a.cell 4;have R:=a.cell 5;have E:=a.cell 6;have M:=a.cell 7;have z:=a.cell 8;simp[Ay,B8,AX,AD]at l0 H W C l2 x l3 D l4 G l5 R l6 E l7 M l8 z;(have q1:¬L=N:=by omega);(have q2:¬N=L:=by omega);have I:=Ab a;have Q:=Ab m;clear a c m d t o S;simp only[AK];go_wp2;rw[A.out];have F:=(((I.zB ⟨L,2,Y⟩ (by simp;omega) (X J ap)).zB ⟨L,3,Y⟩ (by simp;omega) (O an)).zB ⟨L,4,Y⟩ (by simp;omega) (U i A2 j)).zG rfl (X J p) (X J 1) (X J ap) (O an) (U i A2 j) (X lS 0) (O lU) (X lS 0) (O lU);refine im (Au (P:=prog) (fn:=Tryz.f172) (p:=2) (u:=3) rfl rfl F underlying217 rfl (by kernel_rfl)) rfl ?_;refine⟨n9,⟨p,1,⟨ap,an,U i A2 j⟩,AD,AD⟩,⟨_,_,_,rfl⟩,rfl,?_,?_⟩
   .exact(((Q.other (p:=⟨L,2,Y⟩) (by simp;omega) (g L (by omega)) _).other (p:=⟨L,3,Y⟩) (by simp;omega) (g L (by omega)) _).other (p:=⟨L,4,Y⟩) (by simp;omega) (g L (by omega)) _).zG (by omega) (g N (by omega)) _ _ _ _ _ _ _ _ _
   .have B0:=Aa HN;exact(((B.setCell (p:=⟨L,2,Y⟩) (by right;simp;omega) _).setCell (p:=⟨L,3,Y⟩) (by right;simp;omega) _).setCell (p:=⟨L,4,Y⟩) (by right;simp;omega) _).zG (by right;omega) _ _ _ _ _ _ _ _ _
  |ok r=>
   obtain⟨⟨pp,ss,y⟩,n2⟩:=r;rw[ht]at n;obtain⟨tv,HL,rfl,LB,AO,m,d⟩:=n;obtain⟨i,j,rfl⟩:=Al AO;(have A:Hid (Hl ms f=.ok (.inl (p,1,pp,ss,y),n2)):=by show _=_;unfold Hl;simp[HS.out,ht,HP.out]);have EX:Hid (_/\(∀k,k<HL->(U i (Z y) j).ownBlock≠some k)):=⟨AO,λk hk e=>by have:=(AO.lt k e).1;omega⟩;clear ht AO;have a:=t.kept d (by simp;omega);have c:=o.kept d (by simp;omega);have B:=Ab (S.trans d);have l0:=c.cell 0;have W:=c.cell 1;have l2:=c.cell 2;have l3:=c.cell 3;have l4:=c.cell 4;have l5:=c.cell 5;have l6:=c.cell 6;have l7:=c.cell 7;have l8:=c.cell 8;have lf:=c.frozen;have nf:=a.frozen;have H:=a.cell 0;have C:=a.cell 1;have x:=a.cell 2;have D:=a.cell 3;have G:=a.cell 4;have R:=a.cell 5;have E:=a.cell 6;have M:=a.cell 7;have z:=a.cell 8;simp[Ay,B8,AX,AD]at l0 H W C l2 x l3 D l4 G l5 R l6 E l7 M l8 z;(have q1:¬L=N:=by omega);(have q2:¬N=L:=by omega);have I:=Ab a;have Q:=Ab m;clear a c m d t o S;simp only[AK];go_wp2;rw[A.out];have F:=(((I.zB ⟨L,2,Y⟩ (by simp;omega) (X J pp)).zB ⟨L,3,Y⟩ (by simp;omega) (O ss)).zB ⟨L,4,Y⟩ (by simp;omega) (U i (Z y) j)).zG rfl (X J p) (X J 1) (X J pp) (O ss) (U i (Z y) j) (X lS 0) (O lU) (X lS 0) (O lU);refine im (Au (P:=prog) (fn:=Tryz.f172) (p:=2) (u:=3) rfl rfl F underlying217 rfl (by kernel_rfl)) rfl ?_;have FB:=EX.out.2 L (by omega);have KK:=EX.out.2 N (by omega);refine⟨U i (Z y) j,HL,rfl,by have:=Aa HN;omega,?_,?_,?_⟩
   .exact Lk (Ag (Ag (Ag EX.out.1 (p:=⟨L,2,Y⟩) FB _) (p:=⟨L,3,Y⟩) FB _) (p:=⟨L,4,Y⟩) FB _) KK _ _ _ _ _ _ _ _ _
   .exact(((Q.other (p:=⟨L,2,Y⟩) (by simp;omega) (g L (by omega)) _).other (p:=⟨L,3,Y⟩) (by simp;omega) (g L (by omega)) _).other (p:=⟨L,4,Y⟩) (by simp;omega) (g L (by omega)) _).zG (by omega) (g N (by omega)) _ _ _ _ _ _ _ _ _
   .have B0:=Aa HN;exact(((B.setCell (p:=⟨L,2,Y⟩) (by right;simp;omega) _).setCell (p:=⟨L,3,Y⟩) (by right;simp;omega) _).setCell (p:=⟨L,4,Y⟩) (by right;simp;omega) _).zG (by right;omega) _ _ _ _ _ _ _ _ _
 |false=>
  rw[hs]at h4;simp only[gO,if_false]at h4;have HS:=Ab hs;have H4:=Ab h4;clear h4 hs;go_wp2_with fail
  refine(SW b T ms f br _ H4 HO).mono ?_;rintro e w5 ⟨rfl,k5⟩;have H5:=Ab (H4.zI k5);have FO:=Ab (H0.kept k5 (by simp));have H2:=Ab (FF.kept k5 (by simp));have FP:=Ab (HZ.trans (k5.mono (by simp)));clear H4 H0 FF HZ k5;cases ha:Ez ms f with
  |true=>
   have HA:=Ab ha;clear ha;(go_wp2_with fail);have Ha:=H5;have t:=FO;have o:=H2;have S:=FP;clear H5 FO H2 FP;have LE:=t.lt;have LM:=o.lt;refine(Nt b T ms f br _ Ha HO).mono ?_;intro e w6 n;clear Ha;cases ht:EW ms f with
   |error q=>
    rw[ht]at n;obtain⟨n9,ap,an,i,A2,j,rfl,m,d⟩:=n;(have A:Hid (Hl ms f=.error q):=by show _=_;unfold Hl;simp[HS.out,HA.out,ht]);clear ht;have a:=t.kept d (by simp;omega);have c:=o.kept d (by simp;omega);have B:=Ab (S.trans d);have l0:=c.cell 0;have W:=c.cell 1;have l2:=c.cell 2;have l3:=c.cell 3;have l4:=c.cell 4;have l5:=c.cell 5;have l6:=c.cell 6;have l7:=c.cell 7;have l8:=c.cell 8;have lf:=c.frozen;have nf:=a.frozen;have H:=a.cell 0;have C:=a.cell 1;have x:=a.cell 2;have D:=a.cell 3;have G:=a.cell 4;have R:=a.cell 5;have E:=a.cell 6;have M:=a.cell 7;have z:=a.cell 8;simp[Ay,B8,AX,AD]at l0 H W C l2 x l3 D l4 G l5 R l6 E l7 M l8 z;(have q1:¬L=N:=by omega);(have q2:¬N=L:=by omega);have I:=Ab a;have Q:=Ab m;clear a c m d t o S;simp only[AK];go_wp2;rw[A.out];have F:=(((I.zB ⟨L,2,Y⟩ (by simp;omega) (X J ap)).zB ⟨L,3,Y⟩ (by simp;omega) (O an)).zB ⟨L,4,Y⟩ (by simp;omega) (U i A2 j)).zG rfl (X J p) (X J 0) (X J ap) (O an) (U i A2 j) (X lS 0) (O lU) (X lS 0) (O lU);refine im (Au (P:=prog) (fn:=Tryz.f172) (p:=2) (u:=3) rfl rfl F underlying217 rfl (by kernel_rfl)) rfl ?_;refine⟨n9,⟨p,0,⟨ap,an,U i A2 j⟩,AD,AD⟩,⟨_,_,_,rfl⟩,rfl,?_,?_⟩
    .exact(((Q.other (p:=⟨L,2,Y⟩) (by simp;omega) (g L (by omega)) _).other (p:=⟨L,3,Y⟩) (by simp;omega) (g L (by omega)) _).other (p:=⟨L,4,Y⟩) (by simp;omega) (g L (by omega)) _).zG (by omega) (g N (by omega)) _ _ _ _ _ _ _ _ _
    .have B0:=Aa HN;exact(((B.setCell (p:=⟨L,2,Y⟩) (by right;simp;omega) _).setCell (p:=⟨L,3,Y⟩) (by right;simp;omega) _).setCell (p:=⟨L,4,Y⟩) (by right;simp;omega) _).zG (by right;omega) _ _ _ _ _ _ _ _ _
   |ok r=>
    obtain⟨⟨pp,ss,y⟩,n2⟩:=r;rw[ht]at n;obtain⟨tv,HL,rfl,LB,AO,m,d⟩:=n;obtain⟨i,j,rfl⟩:=Al AO;(have A:Hid (Hl ms f=.ok (.inl (p,0,pp,ss,y),n2)):=by show _=_;unfold Hl;simp[HS.out,HA.out,ht,HP.out]);have EX:Hid (_/\(∀k,k<HL->(U i (Z y) j).ownBlock≠some k)):=⟨AO,λk hk e=>by have:=(AO.lt k e).1;omega⟩;clear ht AO;have a:=t.kept d (by simp;omega);have c:=o.kept d (by simp;omega);have B:=Ab (S.trans d);have l0:=c.cell 0;have W:=c.cell 1;have l2:=c.cell 2;have l3:=c.cell 3;have l4:=c.cell 4;have l5:=c.cell 5;have l6:=c.cell 6;have l7:=c.cell 7;have l8:=c.cell 8;have lf:=c.frozen;have nf:=a.frozen;have H:=a.cell 0;have C:=a.cell 1;have x:=a.cell 2;have D:=a.cell 3;have G:=a.cell 4;have R:=a.cell 5;have E:=a.cell 6;have M:=a.cell 7;have z:=a.cell 8;simp[Ay,B8,AX,AD]at l0 H W C l2 x l3 D l4 G l5 R l6 E l7 M l8 z;(have q1:¬L=N:=by omega);(have q2:¬N=L:=by omega);have I:=Ab a;have Q:=Ab m;clear a c m d t o S;simp only[AK];go_wp2;rw[A.out];have F:=(((I.zB ⟨L,2,Y⟩ (by simp;omega) (X J pp)).zB ⟨L,3,Y⟩ (by simp;omega) (O ss)).zB ⟨L,4,Y⟩ (by simp;omega) (U i (Z y) j)).zG rfl (X J p) (X J 0) (X J pp) (O ss) (U i (Z y) j) (X lS 0) (O lU) (X lS 0) (O lU);refine im (Au (P:=prog) (fn:=Tryz.f172) (p:=2) (u:=3) rfl rfl F underlying217 rfl (by kernel_rfl)) rfl ?_;have FB:=EX.out.2 L (by omega);have KK:=EX.out.2 N (by omega);refine⟨U i (Z y) j,HL,rfl,by have:=Aa HN;omega,?_,?_,?_⟩
    .exact Lk (Ag (Ag (Ag EX.out.1 (p:=⟨L,2,Y⟩) FB _) (p:=⟨L,3,Y⟩) FB _) (p:=⟨L,4,Y⟩) FB _) KK _ _ _ _ _ _ _ _ _
    .exact(((Q.other (p:=⟨L,2,Y⟩) (by simp;omega) (g L (by omega)) _).other (p:=⟨L,3,Y⟩) (by simp;omega) (g L (by omega)) _).other (p:=⟨L,4,Y⟩) (by simp;omega) (g L (by omega)) _).zG (by omega) (g N (by omega)) _ _ _ _ _ _ _ _ _
    .have B0:=Aa HN;exact(((B.setCell (p:=⟨L,2,Y⟩) (by right;simp;omega) _).setCell (p:=⟨L,3,Y⟩) (by right;simp;omega) _).setCell (p:=⟨L,4,Y⟩) (by right;simp;omega) _).zG (by right;omega) _ _ _ _ _ _ _ _ _
  |false=>
   have HA:=Ab ha;clear ha;(go_wp2_with fail);refine(dN b T ms f br _ H5 HO).mono ?_;intro e w6 n;clear H5;cases ht:Hi ms f with
   |error q=>
    rw[ht]at n;obtain⟨n9,l,HV,rfl,m,d⟩:=n;obtain⟨lp,ls,la,ll,lr⟩:=l;simp only at HV;subst HV;(have A:Hid (Hl ms f=.error q):=by show _=_;unfold Hl;simp[HS.out,HA.out,ht]);clear ht;have a:=FO.kept d (by simp;omega);have B:=Ab (FP.trans d);have nf:=a.frozen;have H:=a.cell 0;have C:=a.cell 1;have x:=a.cell 2;have D:=a.cell 3;have G:=a.cell 4;have R:=a.cell 5;have E:=a.cell 6;have M:=a.cell 7;have z:=a.cell 8;simp[Ay,B8,AX,AD]at H C x D G R E M z;have I:=Ab a;have Q:=Ab m;clear a m d FO H2 FP;simp only[Ay,AX];go_wp2;rw[A.out];have F:=I.zG rfl (X J lp) (X J ls) (X J 0) (O lU) (U Y 0 0) (X lS ll.v) (O ll.s) (X lS lr.v) (O lr.s);refine im (Au (P:=prog) (fn:=Tryz.f172) (p:=2) (u:=3) rfl rfl F underlying217 rfl (by kernel_rfl)) rfl ?_;refine⟨n9,⟨lp,ls,AX,ll,lr⟩,⟨_,_,_,rfl⟩,rfl,?_,?_⟩
    .exact Q.zG (by omega) (g N (by omega)) _ _ _ _ _ _ _ _ _
    .have B0:=Aa HN;exact B.zG (by right;omega) _ _ _ _ _ _ _ _ _
   |ok r=>
    obtain⟨l,n2⟩:=r;rw[ht]at n;have HV:=Sm ht;obtain⟨lp,ls,la,ll,lr⟩:=l;simp only at HV;subst HV;obtain⟨rfl,m,d⟩:=n;(have A:Hid (Hl ms f=.ok (.inr ⟨lp,ls,AX,ll,lr⟩,n2)):=by show _=_;unfold Hl;simp[HS.out,HA.out,ht]);clear ht;have a:=FO.kept d (by simp;omega);have B:=Ab (FP.trans d);have nf:=a.frozen;have H:=a.cell 0;have C:=a.cell 1;have x:=a.cell 2;have D:=a.cell 3;have G:=a.cell 4;have R:=a.cell 5;have E:=a.cell 6;have M:=a.cell 7;have z:=a.cell 8;simp[Ay,B8,AX,AD]at H C x D G R E M z;have I:=Ab a;have Q:=Ab m;clear a m d FO H2 FP;simp only[Ay,AX];go_wp2;rw[A.out];have F:=I.zG rfl (X J lp) (X J ls) (X J 0) (O lU) (U Y 0 0) (X lS ll.v) (O ll.s) (X lS lr.v) (O lr.s);refine im (Au (P:=prog) (fn:=Tryz.f172) (p:=2) (u:=3) rfl rfl F underlying217 rfl (by kernel_rfl)) rfl ?_;refine⟨rfl,?_,?_⟩
    .exact Q.zG (by omega) (g N (by omega)) _ _ _ _ _ _ _ _ _
    .have B0:=Aa HN;exact B.zG (by right;omega) _ _ _ _ _ _ _ _ _
theorem Y6(E:mc Value)(j:Nat)(x:zA)(w:World)(c:Z E=26)(p:j<26)(q:(Value.agg (j3 E)).cells=j3 E)(g:∀v∈E,v.oneCell'=true):
  Calls prog 179 #[.agg (j3 E),X lS ((j:Int)+65),O x] w λr k=>r=.returned (.agg (j3 (E.set j (O x))))/\Ac [] w k:=by
 have m:IntKind.i32.wrap (j:Int)=j:=by rw[IntKind.wrap_i32];omega
 have s:IntKind.i32.wrap ((j:Int)+65-65)=j:=by rw[show(j:Int)+65-65=j by omega];exact m
 have n:(0:Int)<=(j:Int):=by omega
 have o:(j:Int)<26:=by omega
 have i:Hid (∀v∈E.set j (O x),v.oneCell'=true):=by
  intro v l;rcases List.mem_or_eq_of_mem_set l with h|rfl
  .exact g v h
  .rfl
 have a:Hid (Z (E.set j (O x))=26):=by show _=_;simp[c]
 have d:Hid ((E.set j (O x)).toArray.size=26):=by show _=_;simp[c]
 go_enter func179,ntmps179;go_wp2_with (first|(refine jN rfl 243 _ rfl w.heap.size 0 (by rfl) (E.set j (O x)) _ ?_ underlying243 rfl ?_ ?_)|(refine jO rfl 243 _ _ rfl (w.heap.size+1) 0 (j3 (E.set j (O x))) (by rfl) (by rfl) ?_ ?_ ?_ ?_))
 .exact((mf w (E.set j (O x)) 243).alloc _).range
 .rw[Aa a];exact Tryz.zH
 .have h:=(mf (w.alloc (j2 (j3 (E.set j (O x))) 243)) (lV 26 (O ⟨#[]⟩)) 243).there;simp only[jE,iz]at h;rw[Aa d];exact h
 .rw[Aa d];exact Tryz.zH
 .exact jk i
 .have e:=(mf (w.alloc (j2 (j3 (E.set j (O x))) 243)) (lV 26 (O ⟨#[]⟩)) 243).zU (E.set j (O x)) (by rw[Aa a];simp);have f:=((((me [] w).alloc (j2 (j3 (E.set j (O x))) 243)).alloc (j2 (j3 (lV 26 (O ⟨#[]⟩))) 243)).zJ (b:=w.heap.size+1) (Or.inr (by omega)) (E.set j (O x)) 0);simp only[iz]at e;refine im (BR (b:=w.heap.size+1) rfl (by rfl) e underlying243 rfl (by rw[Aa a];exact Tryz.zH)) rfl ⟨rfl,f⟩
