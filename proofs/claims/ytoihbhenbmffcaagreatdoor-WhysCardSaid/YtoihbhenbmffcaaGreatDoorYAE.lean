import Derived.Test.YtoihbhenbmffcaaGreatDoorYAD
set_option linter.all false
set_option maxHeartbeats 0
open List renaming length->Z,toArray->j2,replicate->jL
open Option renaming none->Y,some->V
open Go.Value renaming slice->U,int->X,string->O,agg->jH,bool->jJ,ownBlock->jN
open Bool renaming false->K,true->jj
open Go.IntKind renaming i64->J,i32->jI
open Go.Obj renaming cells->j1
open Go.Ending renaming returned->j4
open Go renaming World->j7,Value->j8
open Go.RowKit renaming Hid->j9
open Go.World renaming cell?->jF,ownsRow->jG
open ByteArray renaming empty->jK
namespace Go.Proofs.YtoihbhenbmffcaaGreatDoor
open Go.RowKit Go.Proofs.Tryz
theorem Tryz.zc:(Tryz.prog.info? 215).map (λi=>(i.zero,i.size,i.bytes))=V (V (jH #[X jI 0,O ⟨#[]⟩]),2,24):=by kernel_rfl
def Hl:g0:=⟨#[44]⟩
def N3:g0:=⟨#[41]⟩
def F4(ms:List AZ)(nx:Nat)(acc:List AO):Except Int (List AO×Nat):=
 if h:nx<Z ms then
  match Fk (Au ms nx) nx with
  | .error p=> .error p
  | .ok (t,_)=>
   if BD (Au ms (nx+1)) Hl then F4 ms (nx+2) (acc++[t])
   else if BD (Au ms (nx+1)) N3 then .ok (acc++[t],nx+2)
   else .error (Au ms (nx+1)).place
 else .error 0
def Fu{m:AZ}{a:Nat}{t:AO}{n:Nat}(h:Fk m a=.ok (t,n)):n=a+1:=by
 unfold Fk at h;split at h
 .simp only[fK,fo]at h;exact h.2.symm
 .split at h
  .simp only[fK,fo]at h;exact h.2.symm
  .cases h
def EF(ms:List AZ)(nx:Nat):Except Int ((Nat×g0×List AO)×Nat):=
 if(Au ms nx).kind==2 then
  if BD (Au ms (nx+1)) Rd then
   match F4 ms (nx+2) [] with
   | .error p=> .error p
   | .ok (ts,n)=> .ok (((Au ms nx).place,(Au ms nx).text,ts),n)
  else .error (Au ms (nx+1)).place
 else .error (Au ms nx).place
def AI.zV{w:j7}{N:Nat}{cs:List j8}{t:TypeId}(h:AI w N cs t)(d:Z cs=3)(b v1 a:j8):AI (((w.setCell ⟨N,0,Y⟩ b).setCell ⟨N,1,Y⟩ v1).setCell ⟨N,2,Y⟩ a) N [b,v1,a] t:=by
 have c:=((h.set 0 b).set 1 v1).set 2 a;have e:((cs.set 0 b).set 1 v1).set 2 a=[b,v1,a]:=by
  match cs,d with
  |[_,_,_],_=>rfl
 rw[e]at c;exact c
def Cm.zV{w:j7}{b:Nat}{d:j8}{e:List AZ}{j:Nat}{f:Int}(h:Cm w b d e j f){N:Nat}(a:N≠b)(c:d.ownBlock≠V N)(i v1 g:j8):Cm (((w.setCell ⟨N,0,Y⟩ i).setCell ⟨N,1,Y⟩ v1).setCell ⟨N,2,Y⟩ g) b d e j f:=
 ((h.other (p:=⟨N,0,Y⟩) a c i).other (p:=⟨N,1,Y⟩) a c v1).other (p:=⟨N,2,Y⟩) a c g
def Ac.zV{M:List Nat}{a w:j7}(h:Ac M a w){N:Nat}(b:N∈M\/a.heap.size<=N)(d v1 c:j8):Ac M a (((w.setCell ⟨N,0,Y⟩ d).setCell ⟨N,1,Y⟩ v1).setCell ⟨N,2,Y⟩ c):=
 ((h.setCell (p:=⟨N,0,Y⟩) b d).setCell (p:=⟨N,1,Y⟩) b v1).setCell (p:=⟨N,2,Y⟩) b c
def bF(b:Nat)(mv:j8)(ms:List AZ)(br:Int)(w:j7)(e:Ending)(w':j7):Except Int ((Nat×g0×List AO)×Nat)->Prop
 | .ok ((p,s,ts),nx)=>∃tv base,e=j4 (.tuple #[jH (j2 (AL ⟨p,s,tv⟩)),jJ jj])/\w.heap.size<=base/\jG w' base 215 2 tv (Z ts) (ts.flatMap Aq)/\Cm w' b mv ms nx br/\Ac [b] w w'
 | .error p=>∃nx pl s ad n cp,e=j4 (.tuple #[jH (j2 (AL ⟨pl,s,U ad n cp⟩)),jJ K])/\Cm w' b mv ms nx p/\Ac [b] w w'
set_option maxRecDepth 100000
theorem M4(b:Nat)(mv:j8)(ms:List AZ)(nx:Nat)(br:Int)(w:j7)(h:Cm w b mv ms nx br)(ok:Us ms):
  Calls prog 158 #[.pointer (V ⟨b,0,Y⟩)] w λe w'=>bF b mv ms br w e w' (EF ms nx):=by
 obtain⟨m,hm⟩:∃m,Au ms nx=m:=⟨_,rfl⟩;obtain⟨i0,hi0,hz0,hz1,hz2⟩:=fC Tryz.zc;have HM:=Ab hm;have HO:=Ab ok;have hlt0:=h.lt;have zX:(nx:Int)<(Z ms:Int):=by omega
 have hnx0:(0:Int)<=(nx:Int):=by omega
 have hl:=h.len;have hbw:=h.zO.lt;have hmb:∀k,mv.ownBlock=V k->k<w.heap.size:=λk hk=>(h.row.lt k hk).2
 have h1:=h.zJ ((Ac.refl [] w).alloc (j1 #[X J 0,O ⟨#[]⟩,U Y 0 0] 187));have hN2:=AI.new w [X J 0,O ⟨#[]⟩,U Y 0 0] 187;have hK1:=(Ac.refl [b] w).alloc (j1 [X J 0,O ⟨#[]⟩,U Y 0 0].toArray 187);clear hm h ok;go_enter func158,ntmps158;go_wp2_with fail
 generalize w.alloc (j1 [X J 0,O ⟨#[]⟩,U Y 0 0].toArray 187)=w1 at h1 hN2 hK1⊢;obtain⟨N2,hN2e⟩:∃N2,w.heap.size=N2:=⟨_,rfl⟩;rw[hN2e]at hN2 hbw hmb⊢;have HN2:=Ab hN2e;clear hN2e;have HMB:j9 (∀k,N2<=k->mv.ownBlock≠V k):=λk hk e=>by have:=hmb k e;omega
 obtain⟨g,cap,rfl,b0,b1,b2,hc⟩:=h1.cells;have hgN:g<N2:=hmb g rfl;clear hmb;obtain⟨c0,c1,c2⟩:=hc nx hlt0;rw[Bg hlt0,Aa HM]at c0 c1 c2;clear hc b2;have n0:=World.new_ne w1 _ b0;have n1:=World.new_ne w1 _ b1;have n2:=World.new_ne w1 _ c0;have n3:=World.new_ne w1 _ c1;have n4:=World.new_ne w1 _ c2;have HH:=Ab h1;have HB2:=Ab hN2;clear h1 hN2
 go_region_held3 (λw'=>jF w' ⟨b,0,Y⟩=V (U (V ⟨g,0,Y⟩) (Z ms) cap)/\jF w' ⟨b,1,Y⟩=V (X J nx)/\jF w' ⟨g,nx*3,Y⟩=V (X J m.kind)/\jF w' ⟨g,nx*3+1,Y⟩=V (X J m.place)/\jF w' ⟨g,nx*3+2,Y⟩=V (O m.text)) (go_keep) (fail)
 rename_i hHeldX;clear hHeldX n0 n1 n2 n3 n4 b0 b1 c0 c1 c2;have hN2lt:=HB2.lt;have h2:=HH.zJ (((Ac.refl [] w1).alloc (j1 [X J m.kind,X J m.place,O m.text].toArray 206)).drew);have hN4:=(AI.new w1 [X J m.kind,X J m.place,O m.text] 206).drew;have hN2':=(HB2.alloc (j1 [X J m.kind,X J m.place,O m.text].toArray 206)).drew;have hK2:=(hK1.alloc (j1 [X J m.kind,X J m.place,O m.text].toArray 206)).drew;clear HH HB2 hK1;generalize(w1.alloc (j1 [X J m.kind,X J m.place,O m.text].toArray 206)).drew=w2 at h2 hN4 hN2' hK2⊢;generalize w1.heap.size=N4 at hN4 hN2lt⊢;have x0:=hN4.cell 0;have x1:=hN4.cell 1;have x2:=hN4.cell 2;have z1:=h2.zO.cell 1;have zf:=h2.zO.frozen 1;simp at x0 x1 x2 z1;have HH2:=Ab h2;have HB2:=Ab hN2';have HB4:=Ab hN4;have HK2:=Ab hK2;clear h2 hN4 hN2' hK2;cases hk:(m.kind==2)with
 |false=>
  have hk2:(m.kind !=2)=jj:=by simp[bne,hk]
  have HF:j9 (EF ms nx=.error m.place):=by show _=_;unfold EF;rw[Aa HM,hk];rfl
  clear hk;go_wp2_with fail
  refine(FV b (U (V ⟨g,0,Y⟩) (Z ms) cap) ms nx br m.place _ HH2).mono ?_;rintro e w3 ⟨rfl,h3,k3⟩;have hN3:=HB2.kept k3 (by simp;omega);have HK3:=Ab (HK2.trans k3);have c0:=hN3.cell 0;have c1:=hN3.cell 1;have c2:=hN3.cell 2;have nf:=hN3.frozen;simp at c0 c1 c2;have HB3:=Ab hN3;have HR:=Ab h3;clear hN3 h3 k3 x0 x1 x2 z1 zf HH2 HB2 HB4 HK2;go_wp2;rw[HF.out];have hfin:=HB3.zV rfl (X J 0) (O ⟨#[]⟩) (U Y 0 0);refine eX (Ar (P:=prog) (fn:=Tryz.f158) (p:=2) (u:=3) rfl rfl hfin underlying187 rfl (by kernel_rfl)) rfl ?_;refine⟨nx,0,jK,Y,0,0,rfl,?_,?_⟩
  .exact HR.zV (by omega) (HMB N2 (by omega)) _ _ _
  .have:=Aa HN2;exact HK3.zV (by right;omega) _ _ _
 |true=>
  have hk2:(m.kind !=2)=K:=by simp[bne,hk]
  have hnx:nx+1<Z ms:=by
   refine HO.ends nx hlt0 ?_;rw[Bg hlt0,Aa HM];(have:m.kind=2:=by simpa using hk);rw[this];decide
  have HK:=Ab hk;clear hk;go_wp2_with fail
  have k3:Ac [b] w2 (w2.setCell ⟨b,1,Y⟩ (X J ((nx:Int)+1))):=(Ac.refl [b] w2).setCell (by simp) _;have h3:Cm (w2.setCell ⟨b,1,Y⟩ (X J ((nx:Int)+1))) b (U (V ⟨g,0,Y⟩) (Z ms) cap) ms (nx+1) br:=HH2.kept (nx':=nx+1) (br':=br) k3 (HH2.zO.set 1 _) hnx;have hB3:=Ab (HB2.kept k3 (by simp;omega));have hM3:=Ab (HB4.kept k3 (by simp;omega));have hK3:=Ab (HK2.trans k3);clear x0 x1 x2 z1 zf HH2 HB2 HB4 HK2 k3;generalize w2.setCell ⟨b,1,Y⟩ (X J ((nx:Int)+1))=w3 at h3 hB3 hM3 hK3⊢;refine(Mm b (U (V ⟨g,0,Y⟩) (Z ms) cap) ms (nx+1) br Rd _ h3 (Au ms (nx+1)) (Bg h3.lt) (HO.seen h3.lt Rd)).mono ?_;rintro e w4 ⟨rfl,h4,k4⟩;clear h3;have hB4:=Ab (hB3.kept k4 (by simp;omega));have hM4:=Ab (hM3.kept k4 (by simp;omega));have hK4:=Ab (hK3.trans k4);clear hB3 hM3 hK3 k4;cases hs:BD (Au ms (nx+1)) Rd with
  |false=>
   rw[hs]at h4;simp only[ev,if_false]at h4;(have HF:j9 (EF ms nx=.error (Au ms (nx+1)).place):=by show _=_;unfold EF;rw[Aa HM,Aa HK,hs];rfl);have c0:=hB4.cell 0;have c1:=hB4.cell 1;have c2:=hB4.cell 2;have nf:=hB4.frozen;simp at c0 c1 c2;have HR:=Ab h4;clear h4 hs hM4;go_wp2;rw[HF.out];have hfin:=hB4.zV rfl (X J 0) (O ⟨#[]⟩) (U Y 0 0);refine eX (Ar (P:=prog) (fn:=Tryz.f158) (p:=2) (u:=3) rfl rfl hfin underlying187 rfl (by kernel_rfl)) rfl ?_;refine⟨nx+1,0,jK,Y,0,0,rfl,?_,?_⟩
   .exact HR.zV (by omega) (HMB N2 (by omega)) _ _ _
   .have:=Aa HN2;exact hK4.zV (by right;omega) _ _ _
  |true=>
   rw[hs]at h4;simp only[if_true]at h4;have HS:=Ab hs;have x1:=hM4.cell 1;have x2:=hM4.cell 2;simp at x1 x2;have HR:=Ab h4;clear h4 hs;go_wp2;have HFa:j9 (∀r,F4 ms (nx+2) []=r->EF ms nx=(match r with| .error p=> .error p| .ok (ts,n)=> .ok ((m.place,m.text,ts),n))):=by
    intro r hr;unfold EF;rw[Aa HM,Aa HK,Aa HS,hr];rfl
   have hA5:=Ab (AI.new w4 [X J m.place,O m.text,U Y 0 0] 187);have hB5:=Ab (hB4.alloc (j1 [X J m.place,O m.text,U Y 0 0].toArray 187));have hR5:=Ab (HR.zJ ((Ac.refl [] w4).alloc (j1 [X J m.place,O m.text,U Y 0 0].toArray 187)));have hK5:=Ab (hK4.alloc (j1 [X J m.place,O m.text,U Y 0 0].toArray 187));(have hs5:(w4.alloc (j1 [X J m.place,O m.text,U Y 0 0].toArray 187)).heap.size=w4.heap.size+1:=by simp);have hN4A:=hM4.lt;clear x1 x2 hM4 hB4 hK4 HR HS HK HM;change Code.wp _ _ _ _ (w4.alloc (j1 [X J m.place,O m.text,U Y 0 0].toArray 187));generalize w4.alloc (j1 [X J m.place,O m.text,U Y 0 0].toArray 187)=w5 at hA5 hB5 hR5 hK5 hs5⊢;obtain⟨A,hAe⟩:∃A,w4.heap.size=A:=⟨_,rfl⟩;rw[hAe]at hA5 hs5 hN4A⊢;clear hAe
   go_loopg [] (Z ms-(nx+2)) (λgk wr=>∃(j:Nat) (acc:List AO) (ad:Option Addr) (cp:Nat),gk=Z ms-j/\j9 (F4 ms j acc=F4 ms (nx+2) [])/\j9 (Cm wr b (U (V ⟨g,0,Y⟩) (Z ms) cap) ms j br)/\j9 (AI wr N2 [X J 0,O ⟨#[]⟩,U Y 0 0] 187)/\j9 (AI wr A [X J m.place,O m.text,U ad (Z acc) cp] 187)/\jG wr (A+1) 215 2 (U ad (Z acc) cp) (Z acc) (acc.flatMap Aq)/\j9 (Ac [b] w wr)/\A+1<=wr.heap.size/\Z acc<=j)
   case atStart=>exact⟨nx+2,[],Y,0,rfl,rfl,hR5,hB5,hA5,eU _ _ _ _,hK5,by omega,by simp⟩
   case round=>
    clear hA5 hB5 hR5 hK5 hs5;obtain⟨j,acc,ad,cp,hgk,HL,HR,HB,HA,hown,hK,hz,hal⟩:=hrel;have HG:=Ab hgk;clear hgk;have hjl:=HR.lt;(go_wp2_with fail);refine(Ig b (U (V ⟨g,0,Y⟩) (Z ms) cap) ms j br _ HR HO (Au ms j) (Bg hjl)).mono ?_;intro e w6 hout;cases ht:Fk (Au ms j) j with
    |error q=>
     rw[ht]at hout;obtain⟨n9,rfl,h6,k6⟩:=hout;have HF:j9 (EF ms nx=.error q):=HFa (.error q) (by rw[<-Aa HL];unfold F4;rw[dif_pos hjl,ht]);have hB6:=HB.kept k6 (by simp;omega);have hK6:=Ab (hK.trans k6);clear k6 ht HR HB HA hK HL hown;have c0:=hB6.cell 0;have c1:=hB6.cell 1;have c2:=hB6.cell 2;have nf:=hB6.frozen;(have d0:=λo=>(hB6.alloc o).cell 0);(have d1:=λo=>(hB6.alloc o).cell 1);(have d2:=λo=>(hB6.alloc o).cell 2);(have df:=λo=>(hB6.alloc o).frozen);simp at c0 c1 c2 d0 d1 d2;have hlt6:=hB6.lt;have hb6:=h6.zO.lt;(have q1:¬N2=w6.heap.size:=by omega);(have q2:¬w6.heap.size=N2:=by omega);have HR6:=Ab h6;have HB6:=Ab hB6;clear h6 hB6;simp only[Aq,AD];go_wp2;rw[HF.out];have hfin:=(HB6.zV rfl (X J 0) (O ⟨#[]⟩) (U Y 0 0)).alloc (j1 #[X jI 0,O jK] 215);refine eX (Ar (P:=prog) (fn:=Tryz.f158) (p:=2) (u:=3) rfl rfl hfin underlying187 rfl (by kernel_rfl)) rfl ?_;refine⟨n9,0,jK,Y,0,0,rfl,?_,?_⟩
     .exact(HR6.zV (by omega) (HMB N2 (by omega)) _ _ _).zJ ((Ac.refl [] _).alloc _)
     .have:=Aa HN2;exact(hK6.zV (by right;omega) _ _ _).alloc _
    |ok r=>
     obtain⟨t,n1⟩:=r;rw[ht]at hout;have hn1:=Fu ht;subst hn1;obtain⟨rfl,h6,k6⟩:=hout;have hB6:=Ab (HB.kept k6 (by simp;omega));have hA6:=Ab (HA.kept k6 (by simp;omega));have hK6:=Ab (hK.trans k6);have hown6:=Al hown k6 (λi hi hm=>by simp at hm;subst hm;have:=(hown.lt _ hi).1;omega);have hz6:A+1<=w6.heap.size:=fJ hz k6.size;have HT:=Ab ht;clear k6 ht HR HB HA hK hown hz;have a2:=hA6.cell 2;have af:=hA6.frozen;(have d2:=λo=>(hA6.alloc o).cell 2);(have df:=λo=>(hA6.alloc o).frozen);simp at a2 d2;have hlt6:=hA6.lt;(have q1:¬A=w6.heap.size:=by omega);(have q2:¬w6.heap.size=A:=by omega);have HR6:=Ab h6;clear h6;have hnew:((w6.alloc (j1 (j2 (Aq t)) 215)).alloc (j1 (j2 (Aq t)) 215)).heap[w6.heap.size+1]?=V (j1 (j2 (Aq t)) 215 (0,0)):=by
      have hh:=fe (w6.alloc (j1 (j2 (Aq t)) 215)) (j1 (j2 (Aq t)) 215);rw[show(w6.alloc (j1 (j2 (Aq t)) 215)).heap.size=w6.heap.size+1 from by simp]at hh
      exact hh
     have hown8:=eC (eC hown6 (j1 (j2 (Aq t)) 215)) (j1 (j2 (Aq t)) 215);(have hal2:Z acc<=1000:=by omega);have HGR:j9 (∀w9,((w6.alloc (j1 (j2 (Aq t)) 215)).alloc (j1 (j2 (Aq t)) 215)).grownBy w9 (U ad (Z acc) cp).ownBlock->Ac (U ad (Z acc) cp).ownBlock.toList w6 w9):=by
      intro w9 hg;exact(((Ac.refl _ w6).alloc _).alloc _).grown hg (λk hk=>Or.inl (by simp[hk]))
     (have HRW:j9 (∀i∈(U ad (Z acc) cp).ownBlock.toList,A+1<=i):=λi hi=>(hown6.lt i (by simpa using hi)).1);have HAC:j9 (∀w9,((w6.alloc (j1 (j2 (Aq t)) 215)).alloc (j1 (j2 (Aq t)) 215)).grownBy w9 (U ad (Z acc) cp).ownBlock->jF w9 ⟨A,2,Y⟩=V (U ad (Z acc) cp)/\w9.frozen? ⟨A,2,Y⟩=K):=by
      intro w9 hg;have hb:=hA6.kept (HGR w9 hg) (λhm=>by have:=Aa HRW A hm;omega);exact⟨hb.cell 2,hb.frozen 2⟩
     simp only[Aq];go_wp2_with (at_builtin;refine eP _ rfl (.tmp 51) (.tmp 53) _ rfl (A+1) 215 i0 _ 2 24 underlying185 hi0 hz0 hz1 hz2 rfl (by omega) (U ad (Z acc) cp) (Z acc) (acc.flatMap Aq) rfl hown8 ⟨w6.heap.size+1,0,Y⟩ 1 1 (Aq t) rfl rfl (eS (cs:=j2 (Aq t)) (t:=215) (fr:=(0,0)) hnew) (by simp[Value.oneCell',Aq]) (by omega) (by unfold maxLen;omega) (by omega) (by simp;omega) (w6.heap.size+1+1) (by simp) ?_;intro g1 cp1 w9 ho1 hg1 ha1 hl1;have hc9:=(HAC w9 hg1).1;have hf9:=(HAC w9 hg1).2)
     have kr:=Aa HGR w9 hg1;have hrw:=Aa HRW;have hN2w:=Aa HN2;have hg1A:A+1<=g1:=(ho1.lt g1 rfl).1;have hR9:Cm w9 b (U (V ⟨g,0,Y⟩) (Z ms) cap) ms (j+1) br:=⟨HR6.zO.kept kr (λhm=>by have:=hrw b hm;omega),Al HR6.row kr (λi hi hm=>by have:=hrw i hm;simp[jN]at hi;omega),HR6.ap,HR6.lt,HR6.len⟩;have hR10:=Ab (hR9.other (p:=⟨A,2,Y⟩) (by simp;omega) (HMB A (by omega)) (U (V ⟨g1,0,Y⟩) (Z acc+1) cp1));have hB10:=Ab ((hB6.kept kr (λhm=>by have:=hrw N2 hm;omega)).zA ⟨A,2,Y⟩ (by simp;omega) (U (V ⟨g1,0,Y⟩) (Z acc+1) cp1));have hA10:j9 (AI (w9.setCell ⟨A,2,Y⟩ (U (V ⟨g1,0,Y⟩) (Z acc+1) cp1)) A [X J m.place,O m.text,U (V ⟨g1,0,Y⟩) (Z acc+1) cp1] 187):=(hA6.kept kr (λhm=>by have:=hrw A hm;omega)).set 2 _;have hK9:Ac [b] w w9:=hK6.trans' kr (λi hi=>Or.inr (by have:=hrw i hi;omega));have hK10:=Ab (hK9.setCell (p:=⟨A,2,Y⟩) (by right;simp;omega) (U (V ⟨g1,0,Y⟩) (Z acc+1) cp1));have hown10:=Ag ho1 (p:=⟨A,2,Y⟩) (by simp[jN];omega) (U (V ⟨g1,0,Y⟩) (Z acc+1) cp1);(have hz10:A+1<=(w9.setCell ⟨A,2,Y⟩ (U (V ⟨g1,0,Y⟩) (Z acc+1) cp1)).heap.size:=by have:=kr.size;simp;omega);clear kr hrw hR9 hK9 hg1 ha1 hl1 ho1 hc9 hf9 HGR HRW HAC hnew hown8 hown6 hA6 hB6 hK6 HR6 a2 d2 af df q1 q2 hlt6 hz6;generalize w9.setCell ⟨A,2,Y⟩ (U (V ⟨g1,0,Y⟩) (Z acc+1) cp1)=w10 at hR10 hB10 hA10 hK10 hown10 hz10⊢;have hj1:=hR10.lt;refine(Gg b (U (V ⟨g,0,Y⟩) (Z ms) cap) ms (j+1) br Hl _ hR10 (Au ms (j+1)) (Bg hj1) (HO.seen hj1 Hl)).mono ?_;rintro e w11 ⟨rfl,h11,k11⟩;have hB11:=Ab (hB10.kept k11 (by simp;omega));have hA11:=Ab (hA10.kept k11 (by simp;omega));have hK11:=Ab (hK10.trans k11);have hown11:=Al hown10 k11 (λi hi hm=>by simp at hm;subst hm;have:=(hown10.lt _ hi).1;omega);have hz11:A+1<=w11.heap.size:=fJ hz10 k11.size;clear k11 hR10 hB10 hA10 hK10 hown10 hz10;cases hs:BD (Au ms (j+1)) Hl with
     |true=>
      rw[hs]at h11;simp only[if_true]at h11;have HL2:j9 (F4 ms (j+2) (acc++[t])=F4 ms (nx+2) []):=by
       have hh:=Aa HL
       conv at hh=>lhs;unfold F4
       rw[dif_pos hjl,Aa HT]at hh;simp only[hs,if_true]at hh;exact hh
      have HR11:=Ab h11;clear h11 hs HL HT;go_wp2_with fail
      go_roundg (Z ms-(j+2))
      case measure=>have:=Aa HG;omega
      case rel=>exact⟨j+2,acc++[t],V ⟨g1,0,Y⟩,cp1,rfl,HL2,HR11,hB11,by simpa using hA11,by simpa using hown11,hK11,hz11,by simp;omega⟩
     |false=>
      rw[hs]at h11;simp only[ev,if_false]at h11;have HS:=Ab hs;have HR11:=Ab h11;clear h11 hs;have HAr:j9 (F4 ms (nx+2) []=if BD (Au ms (j+1)) N3 then .ok (acc++[t],j+2)else .error (Au ms (j+1)).place):=by
       have hh:=Aa HL
       conv at hh=>lhs;unfold F4
       rw[dif_pos hjl,Aa HT]at hh;simp only[Aa HS,ev,if_false]at hh;exact hh.symm
      have HWd:=Ab (Mm b (U (V ⟨g,0,Y⟩) (Z ms) cap) ms (j+1) br N3 _ (HR11.zJ (Ac.refl [] w11).drew) (Au ms (j+1)) (Bg hj1) (HO.seen hj1 N3));have e0:=hA11.cell 0;have e1:=hA11.cell 1;have e2:=hA11.cell 2;simp at e0 e1 e2;(have q1:¬A=N2:=by omega);(have q2:¬N2=A:=by omega);(have HC:j9 (∀w12,Ac [b] w11.drew w12->AI w12 N2 [X J 0,O ⟨#[]⟩,U Y 0 0] 187/\AI w12 A [X J m.place,O m.text,U (V ⟨g1,0,Y⟩) (Z acc+1) cp1] 187):=λw12 k=>⟨hB11.drew.kept k (by simp;omega),hA11.drew.kept k (by simp;omega)⟩);clear HL HT HS HR11;go_wp2_with fail
      go_region_held3 (λw'=>jF w' ⟨A,0,Y⟩=V (X J m.place)/\jF w' ⟨A,1,Y⟩=V (O m.text)/\jF w' ⟨A,2,Y⟩=V (U (V ⟨g1,0,Y⟩) (Z acc+1) cp1)) (go_keep) ((go_at_call 163;refine HWd.mono ?_;rintro e w12 ⟨rfl,h12,k12⟩;have hc12:=Aa HC w12 k12;have f0:=hc12.2.cell 0;have f1:=hc12.2.cell 1;have f2:=hc12.2.cell 2;have p0:=hc12.1.cell 0;have p1:=hc12.1.cell 1;have p2:=hc12.1.cell 2;have pf:=hc12.1.frozen;simp at f0 f1 f2 p0 p1 p2;have H12:=Ab (And.intro h12 (And.intro k12 hc12));clear h12 k12 hc12))
      rename_i hHeldY;clear hHeldY;go_wp2;obtain⟨h12,k12,hc12,_⟩:=H12;have hfin:=hc12.zV rfl (X J m.place) (O m.text) (U (V ⟨g1,0,Y⟩) (Z acc+1) cp1);have hK12:Ac [b] w w12:=hK11.drew.trans k12;refine eX (Ar (P:=prog) (fn:=Tryz.f158) (p:=2) (u:=3) rfl rfl hfin underlying187 rfl (by kernel_rfl)) rfl ?_;cases hcl:BD (Au ms (j+1)) N3 with
      |true=>
       rw[hcl]at h12;have hA:=Aa HAr;rw[hcl]at hA;simp only[if_true]at h12 hA;rw[Aa HFa _ hA];have hown12:=Al (Gw hown11) k12 (λi hi hm=>by simp at hm;subst hm;have:=(hown11.lt _ hi).1;omega);(have hne:(U (V ⟨g1,0,Y⟩) (Z acc+1) cp1).ownBlock≠V N2:=by simp[jN];omega);refine⟨U (V ⟨g1,0,Y⟩) (Z acc+1) cp1,A+1,rfl,by omega,?_,?_,?_⟩
       .have ho:=Ag (Ag (Ag hown12 (p:=⟨N2,0,Y⟩) hne (X J m.place)) (p:=⟨N2,1,Y⟩) hne (O m.text)) (p:=⟨N2,2,Y⟩) hne (U (V ⟨g1,0,Y⟩) (Z acc+1) cp1);simpa using ho
       .exact h12.zV (by omega) (HMB N2 (by omega)) _ _ _
       .exact hK12.zV (by right;omega) _ _ _
      |false=>
       rw[hcl]at h12;have hA:=Aa HAr;rw[hcl]at hA;simp only[ev,if_false]at h12 hA;rw[Aa HFa _ hA];refine⟨j+1,m.place,m.text,V ⟨g1,0,Y⟩,Z acc+1,cp1,rfl,?_,?_⟩
       .exact h12.zV (by omega) (HMB N2 (by omega)) _ _ _
       .exact hK12.zV (by right;omega) _ _ _
def Wc:g0:=⟨#[33]⟩
abbrev Zh:Type:=(Int×Int×Nat×g0×List AO)⊕Zd
def G6(ms:List AZ)(nx:Nat):Except Int (Zh×Nat):=
 if BD (Au ms nx) Wc then
  match EF ms (nx+1)with
  | .error p=> .error p
  | .ok (a,n)=> .ok (.inl ((Au ms nx).place,1,a),n)
 else if Ek ms nx then
  match EF ms nx with
  | .error p=> .error p
  | .ok (a,n)=> .ok (.inl ((Au ms nx).place,0,a),n)
 else
  match G4 ms nx with
  | .error p=> .error p
  | .ok (l,n)=> .ok (.inr l,n)
def KR{w:j7}{base:Nat}{k:TypeId}{size:Nat}{v:j8}{n:Nat}{e:List j8}(h:jG w base k size v n e){N:Nat}(a:v.ownBlock≠V N)(f v1 d b g v5 c j i:j8):jG (((((((((w.setCell ⟨N,0,Y⟩ f).setCell ⟨N,1,Y⟩ v1).setCell ⟨N,2,Y⟩ d).setCell ⟨N,3,Y⟩ b).setCell ⟨N,4,Y⟩ g).setCell ⟨N,5,Y⟩ v5).setCell ⟨N,6,Y⟩ c).setCell ⟨N,7,Y⟩ j).setCell ⟨N,8,Y⟩ i) base k size v n e:=
 (Ag (Ag (Ag (Ag (Ag (Ag (Ag (Ag (Ag h (p:=⟨N,0,Y⟩) a f) (p:=⟨N,1,Y⟩) a v1) (p:=⟨N,2,Y⟩) a d) (p:=⟨N,3,Y⟩) a b) (p:=⟨N,4,Y⟩) a g) (p:=⟨N,5,Y⟩) a v5) (p:=⟨N,6,Y⟩) a c) (p:=⟨N,7,Y⟩) a j) (p:=⟨N,8,Y⟩) a i)
def Wh(b:Nat)(mv:j8)(ms:List AZ)(br:Int)(w:j7)(e:Ending)(w':j7):Except Int (Zh×Nat)->Prop
 | .ok (.inl (pl,so,p,s,ts),nx)=>∃tv base,e=j4 (.tuple #[jH (j2 (Ay ⟨pl,so,⟨p,s,tv⟩,AD,AD⟩)),jJ jj])/\w.heap.size<=base/\jG w' base 215 2 tv (Z ts) (ts.flatMap Aq)/\Cm w' b mv ms nx br/\Ac [b] w w'
 | .ok (.inr l,nx)=>e=j4 (.tuple #[jH (j2 (Ay l)),jJ jj])/\Cm w' b mv ms nx br/\Ac [b] w w'
 | .error p=>∃nx l,(∃ad n cp,l.atom.tv=U ad n cp)/\e=j4 (.tuple #[jH (j2 (Ay l)),jJ K])/\Cm w' b mv ms nx p/\Ac [b] w w'
theorem aC(b:Nat)(W:j8)(f:List AZ)(g:Nat)(br:Int)(w:j7)(h:Cm w b W f g br)(ok:Us f):
  Calls prog 172 #[.pointer (V ⟨b,0,Y⟩)] w λe w'=>Wh b W f br w e w' (G6 f g):=by
 have HO:=Ab ok;have K8:=h.zO.lt;have Jx:∀k,W.ownBlock=V k->k<w.heap.size:=λk hk=>(h.row.lt k hk).2
 have h1:=Ab (h.zJ ((Ac.refl [] w).alloc (j1 (j2 (Ay Ca)) 217)));have hN:=Ab (AI.new w (Ay Ca) 217);have H6:=Ab ((Ac.refl [b] w).alloc (j1 (j2 (Ay Ca)) 217));have H8:(w.alloc (j1 (j2 (Ay Ca)) 217)).heap.size=w.heap.size+1:=by simp
 clear h ok;go_enter func172,ntmps172;go_wp2_with fail
 change Calls _ _ _ (w.alloc (j1 (j2 (Ay Ca)) 217)) _;generalize w.alloc (j1 (j2 (Ay Ca)) 217)=w1 at h1 hN H6 H8⊢;obtain⟨N,Ix⟩:∃N,w.heap.size=N:=⟨_,rfl⟩;rw[Ix]at hN K8 H8 Jx⊢;have i:j9 (∀k,N<=k->W.ownBlock≠V k):=λk hk e=>by have:=Jx k e;omega
 clear Jx;have HN:=Ab Ix;clear Ix;refine(JY b W f g br _ h1 (Au f g) (Bg h1.lt)).mono ?_;rintro e w2 ⟨rfl,k2⟩;have h2:=Ab (h1.zJ k2);have KA:=Ab (hN.kept k2 (by simp));have K2:=Ab (H6.trans (k2.mono (by simp)));have K6:N+1<=w2.heap.size:=by have:=k2.size;omega
 clear h1 hN H6 H8 k2;obtain⟨p,hp⟩:∃p,(Au f g).place=p:=⟨_,rfl⟩;have HP:=Ab hp;rw[hp];clear hp;go_wp2_with fail
 change Calls _ _ _ (w2.alloc (j1 (j2 (Ay ⟨p,0,AU,AD,AD⟩)) 217)) _;have h3:=Ab (h2.zJ ((Ac.refl [] w2).alloc (j1 (j2 (Ay ⟨p,0,AU,AD,AD⟩)) 217)));have H3:=Ab (KA.alloc (j1 (j2 (Ay ⟨p,0,AU,AD,AD⟩)) 217));have HW:=Ab (AI.new w2 (Ay ⟨p,0,AU,AD,AD⟩) 217);have H7:=Ab (K2.alloc (j1 (j2 (Ay ⟨p,0,AU,AD,AD⟩)) 217));clear h2 KA K2;generalize w2.alloc (j1 (j2 (Ay ⟨p,0,AU,AD,AD⟩)) 217)=w3 at h3 H3 HW H7⊢;obtain⟨L,K3⟩:∃L,w2.heap.size=L:=⟨_,rfl⟩;rw[K3]at HW K6⊢;clear K3;refine(Gg b W f g br Wc _ h3 (Au f g) (Bg h3.lt) (HO.seen h3.lt Wc)).mono ?_;rintro e w4 ⟨rfl,h4,k4⟩;have HY:=Ab (H3.kept k4 (by simp;omega));have FC:=Ab (HW.kept k4 (by simp;omega));have HX:=Ab (H7.trans k4);clear h3 H3 HW H7 k4;cases hs:BD (Au f g) Wc with
 |true=>
  rw[hs]at h4;simp only[if_true]at h4;have HS:=Ab hs;have l1:=FC.cell 1;have lf:=FC.frozen;simp[Ay]at l1;have H4:=Ab h4;clear h4 hs;go_wp2_with fail
  have KK:=Aa i;have B0:=Aa HN;have Ha:=Ab (H4.other (p:=⟨L,1,Y⟩) (by simp;omega) (KK L (by omega)) (X J 1));have x:=Ab (HY.zA ⟨L,1,Y⟩ (by simp;omega) (X J 1));have t:j9 (AI (w4.setCell ⟨L,1,Y⟩ (X J 1)) L (Ay ⟨p,1,AU,AD,AD⟩) 217):=FC.set 1 _;have T:=Ab (HX.setCell (p:=⟨L,1,Y⟩) (by right;simp;omega) (X J 1));clear l1 lf HY FC HX KK B0 H4;generalize w4.setCell ⟨L,1,Y⟩ (X J 1)=wa at Ha x t T⊢;have K9:=x.lt;have LC:=t.lt;refine(M4 b W f (g+1) br _ Ha HO).mono ?_;intro e w6 o;clear Ha;cases ht:EF f (g+1)with
  |error q=>
   rw[ht]at o;obtain⟨n9,ap,an,j,A2,m,rfl,n,d⟩:=o;(have B:j9 (G6 f g=.error q):=by show _=_;unfold G6;simp[HS.out,ht]);clear ht;have a:=x.kept d (by simp;omega);have c:=t.kept d (by simp;omega);have C:=Ab (T.trans d);have l0:=c.cell 0;have l1:=c.cell 1;have l2:=c.cell 2;have l3:=c.cell 3;have l4:=c.cell 4;have l5:=c.cell 5;have l6:=c.cell 6;have l7:=c.cell 7;have l8:=c.cell 8;have lf:=c.frozen;have nf:=a.frozen;have I:=a.cell 0;have D:=a.cell 1;have y:=a.cell 2;have E:=a.cell 3;have H:=a.cell 4;have S:=a.cell 5;have F:=a.cell 6;have Q:=a.cell 7;have A:=a.cell 8;simp[Ay,Ca,AU,AD]at l0 I l1 D l2 y l3 E l4 H l5 S l6 F l7 Q l8 A;(have q1:¬L=N:=by omega);(have q2:¬N=L:=by omega);have M:=Ab a;have R:=Ab n;clear a c n d x t T;simp only[AL];go_wp2;rw[B.out];have G:=(((M.zA ⟨L,2,Y⟩ (by simp;omega) (X J ap)).zA ⟨L,3,Y⟩ (by simp;omega) (O an)).zA ⟨L,4,Y⟩ (by simp;omega) (U j A2 m)).zF rfl (X J p) (X J 1) (X J ap) (O an) (U j A2 m) (X jI 0) (O jK) (X jI 0) (O jK);refine eX (Ar (P:=prog) (fn:=Tryz.f172) (p:=2) (u:=3) rfl rfl G underlying217 rfl (by kernel_rfl)) rfl ?_;refine⟨n9,⟨p,1,⟨ap,an,U j A2 m⟩,AD,AD⟩,⟨_,_,_,rfl⟩,rfl,?_,?_⟩
   .exact(((R.other (p:=⟨L,2,Y⟩) (by simp;omega) (i L (by omega)) _).other (p:=⟨L,3,Y⟩) (by simp;omega) (i L (by omega)) _).other (p:=⟨L,4,Y⟩) (by simp;omega) (i L (by omega)) _).zF (by omega) (i N (by omega)) _ _ _ _ _ _ _ _ _
   .have B0:=Aa HN;exact(((C.setCell (p:=⟨L,2,Y⟩) (by right;simp;omega) _).setCell (p:=⟨L,3,Y⟩) (by right;simp;omega) _).setCell (p:=⟨L,4,Y⟩) (by right;simp;omega) _).zF (by right;omega) _ _ _ _ _ _ _ _ _
  |ok r=>
   obtain⟨⟨pp,ss,z⟩,n2⟩:=r;rw[ht]at o;obtain⟨tv,HJ,rfl,K7,AH,n,d⟩:=o;obtain⟨j,m,rfl⟩:=Ak AH;(have B:j9 (G6 f g=.ok (.inl (p,1,pp,ss,z),n2)):=by show _=_;unfold G6;simp[HS.out,ht,HP.out]);have EX:j9 (_/\(∀k,k<HJ->(U j (Z z) m).ownBlock≠V k)):=⟨AH,λk hk e=>by have:=(AH.lt k e).1;omega⟩;clear ht AH;have a:=x.kept d (by simp;omega);have c:=t.kept d (by simp;omega);have C:=Ab (T.trans d);have l0:=c.cell 0;have l1:=c.cell 1;have l2:=c.cell 2;have l3:=c.cell 3;have l4:=c.cell 4;have l5:=c.cell 5;have l6:=c.cell 6;have l7:=c.cell 7;have l8:=c.cell 8;have lf:=c.frozen;have nf:=a.frozen;have I:=a.cell 0;have D:=a.cell 1;have y:=a.cell 2;have E:=a.cell 3;have H:=a.cell 4;have S:=a.cell 5;have F:=a.cell 6;have Q:=a.cell 7;have A:=a.cell 8;simp[Ay,Ca,AU,AD]at l0 I l1 D l2 y l3 E l4 H l5 S l6 F l7 Q l8 A;(have q1:¬L=N:=by omega);(have q2:¬N=L:=by omega);have M:=Ab a;have R:=Ab n;clear a c n d x t T;simp only[AL];go_wp2;rw[B.out];have G:=(((M.zA ⟨L,2,Y⟩ (by simp;omega) (X J pp)).zA ⟨L,3,Y⟩ (by simp;omega) (O ss)).zA ⟨L,4,Y⟩ (by simp;omega) (U j (Z z) m)).zF rfl (X J p) (X J 1) (X J pp) (O ss) (U j (Z z) m) (X jI 0) (O jK) (X jI 0) (O jK);refine eX (Ar (P:=prog) (fn:=Tryz.f172) (p:=2) (u:=3) rfl rfl G underlying217 rfl (by kernel_rfl)) rfl ?_;have FA:=EX.out.2 L (by omega);have JJ:=EX.out.2 N (by omega);refine⟨U j (Z z) m,HJ,rfl,by have:=Aa HN;omega,?_,?_,?_⟩
   .exact KR (Ag (Ag (Ag EX.out.1 (p:=⟨L,2,Y⟩) FA _) (p:=⟨L,3,Y⟩) FA _) (p:=⟨L,4,Y⟩) FA _) JJ _ _ _ _ _ _ _ _ _
   .exact(((R.other (p:=⟨L,2,Y⟩) (by simp;omega) (i L (by omega)) _).other (p:=⟨L,3,Y⟩) (by simp;omega) (i L (by omega)) _).other (p:=⟨L,4,Y⟩) (by simp;omega) (i L (by omega)) _).zF (by omega) (i N (by omega)) _ _ _ _ _ _ _ _ _
   .have B0:=Aa HN;exact(((C.setCell (p:=⟨L,2,Y⟩) (by right;simp;omega) _).setCell (p:=⟨L,3,Y⟩) (by right;simp;omega) _).setCell (p:=⟨L,4,Y⟩) (by right;simp;omega) _).zF (by right;omega) _ _ _ _ _ _ _ _ _
 |false=>
  rw[hs]at h4;simp only[ev,if_false]at h4;have HS:=Ab hs;have H4:=Ab h4;clear h4 hs;go_wp2_with fail
  refine(RX b W f g br _ H4 HO).mono ?_;rintro e w5 ⟨rfl,k5⟩;have H5:=Ab (H4.zJ k5);have FL:=Ab (HY.kept k5 (by simp));have H0:=Ab (FC.kept k5 (by simp));have FO:=Ab (HX.trans (k5.mono (by simp)));clear H4 HY FC HX k5;cases ha:Ek f g with
  |true=>
   have HA:=Ab ha;clear ha;(go_wp2_with fail);have Ha:=H5;have x:=FL;have t:=H0;have T:=FO;clear H5 FL H0 FO;have K9:=x.lt;have LC:=t.lt;refine(M4 b W f g br _ Ha HO).mono ?_;intro e w6 o;clear Ha;cases ht:EF f g with
   |error q=>
    rw[ht]at o;obtain⟨n9,ap,an,j,A2,m,rfl,n,d⟩:=o;(have B:j9 (G6 f g=.error q):=by show _=_;unfold G6;simp[HS.out,HA.out,ht]);clear ht;have a:=x.kept d (by simp;omega);have c:=t.kept d (by simp;omega);have C:=Ab (T.trans d);have l0:=c.cell 0;have l1:=c.cell 1;have l2:=c.cell 2;have l3:=c.cell 3;have l4:=c.cell 4;have l5:=c.cell 5;have l6:=c.cell 6;have l7:=c.cell 7;have l8:=c.cell 8;have lf:=c.frozen;have nf:=a.frozen;have I:=a.cell 0;have D:=a.cell 1;have y:=a.cell 2;have E:=a.cell 3;have H:=a.cell 4;have S:=a.cell 5;have F:=a.cell 6;have Q:=a.cell 7;have A:=a.cell 8;simp[Ay,Ca,AU,AD]at l0 I l1 D l2 y l3 E l4 H l5 S l6 F l7 Q l8 A;(have q1:¬L=N:=by omega);(have q2:¬N=L:=by omega);have M:=Ab a;have R:=Ab n;clear a c n d x t T;simp only[AL];go_wp2;rw[B.out];have G:=(((M.zA ⟨L,2,Y⟩ (by simp;omega) (X J ap)).zA ⟨L,3,Y⟩ (by simp;omega) (O an)).zA ⟨L,4,Y⟩ (by simp;omega) (U j A2 m)).zF rfl (X J p) (X J 0) (X J ap) (O an) (U j A2 m) (X jI 0) (O jK) (X jI 0) (O jK);refine eX (Ar (P:=prog) (fn:=Tryz.f172) (p:=2) (u:=3) rfl rfl G underlying217 rfl (by kernel_rfl)) rfl ?_;refine⟨n9,⟨p,0,⟨ap,an,U j A2 m⟩,AD,AD⟩,⟨_,_,_,rfl⟩,rfl,?_,?_⟩
    .exact(((R.other (p:=⟨L,2,Y⟩) (by simp;omega) (i L (by omega)) _).other (p:=⟨L,3,Y⟩) (by simp;omega) (i L (by omega)) _).other (p:=⟨L,4,Y⟩) (by simp;omega) (i L (by omega)) _).zF (by omega) (i N (by omega)) _ _ _ _ _ _ _ _ _
    .have B0:=Aa HN;exact(((C.setCell (p:=⟨L,2,Y⟩) (by right;simp;omega) _).setCell (p:=⟨L,3,Y⟩) (by right;simp;omega) _).setCell (p:=⟨L,4,Y⟩) (by right;simp;omega) _).zF (by right;omega) _ _ _ _ _ _ _ _ _
   |ok r=>
    obtain⟨⟨pp,ss,z⟩,n2⟩:=r;rw[ht]at o;obtain⟨tv,HJ,rfl,K7,AH,n,d⟩:=o;obtain⟨j,m,rfl⟩:=Ak AH;(have B:j9 (G6 f g=.ok (.inl (p,0,pp,ss,z),n2)):=by show _=_;unfold G6;simp[HS.out,HA.out,ht,HP.out]);have EX:j9 (_/\(∀k,k<HJ->(U j (Z z) m).ownBlock≠V k)):=⟨AH,λk hk e=>by have:=(AH.lt k e).1;omega⟩;clear ht AH;have a:=x.kept d (by simp;omega);have c:=t.kept d (by simp;omega);have C:=Ab (T.trans d);have l0:=c.cell 0;have l1:=c.cell 1;have l2:=c.cell 2;have l3:=c.cell 3;have l4:=c.cell 4;have l5:=c.cell 5;have l6:=c.cell 6;have l7:=c.cell 7;have l8:=c.cell 8;have lf:=c.frozen;have nf:=a.frozen;have I:=a.cell 0;have D:=a.cell 1;have y:=a.cell 2;have E:=a.cell 3;have H:=a.cell 4;have S:=a.cell 5;have F:=a.cell 6;have Q:=a.cell 7;have A:=a.cell 8;simp[Ay,Ca,AU,AD]at l0 I l1 D l2 y l3 E l4 H l5 S l6 F l7 Q l8 A;(have q1:¬L=N:=by omega);(have q2:¬N=L:=by omega);have M:=Ab a;have R:=Ab n;clear a c n d x t T;simp only[AL];go_wp2;rw[B.out];have G:=(((M.zA ⟨L,2,Y⟩ (by simp;omega) (X J pp)).zA ⟨L,3,Y⟩ (by simp;omega) (O ss)).zA ⟨L,4,Y⟩ (by simp;omega) (U j (Z z) m)).zF rfl (X J p) (X J 0) (X J pp) (O ss) (U j (Z z) m) (X jI 0) (O jK) (X jI 0) (O jK);refine eX (Ar (P:=prog) (fn:=Tryz.f172) (p:=2) (u:=3) rfl rfl G underlying217 rfl (by kernel_rfl)) rfl ?_;have FA:=EX.out.2 L (by omega);have JJ:=EX.out.2 N (by omega);refine⟨U j (Z z) m,HJ,rfl,by have:=Aa HN;omega,?_,?_,?_⟩
    .exact KR (Ag (Ag (Ag EX.out.1 (p:=⟨L,2,Y⟩) FA _) (p:=⟨L,3,Y⟩) FA _) (p:=⟨L,4,Y⟩) FA _) JJ _ _ _ _ _ _ _ _ _
    .exact(((R.other (p:=⟨L,2,Y⟩) (by simp;omega) (i L (by omega)) _).other (p:=⟨L,3,Y⟩) (by simp;omega) (i L (by omega)) _).other (p:=⟨L,4,Y⟩) (by simp;omega) (i L (by omega)) _).zF (by omega) (i N (by omega)) _ _ _ _ _ _ _ _ _
    .have B0:=Aa HN;exact(((C.setCell (p:=⟨L,2,Y⟩) (by right;simp;omega) _).setCell (p:=⟨L,3,Y⟩) (by right;simp;omega) _).setCell (p:=⟨L,4,Y⟩) (by right;simp;omega) _).zF (by right;omega) _ _ _ _ _ _ _ _ _
  |false=>
   have HA:=Ab ha;clear ha;(go_wp2_with fail);refine(ci b W f g br _ H5 HO).mono ?_;intro e w6 o;clear H5;cases ht:G4 f g with
   |error q=>
    rw[ht]at o;obtain⟨n9,l,HT,rfl,n,d⟩:=o;obtain⟨lp,ls,la,ll,lr⟩:=l;simp only at HT;subst HT;(have B:j9 (G6 f g=.error q):=by show _=_;unfold G6;simp[HS.out,HA.out,ht]);clear ht;have a:=FL.kept d (by simp;omega);have C:=Ab (FO.trans d);have nf:=a.frozen;have I:=a.cell 0;have D:=a.cell 1;have y:=a.cell 2;have E:=a.cell 3;have H:=a.cell 4;have S:=a.cell 5;have F:=a.cell 6;have Q:=a.cell 7;have A:=a.cell 8;simp[Ay,Ca,AU,AD]at I D y E H S F Q A;have M:=Ab a;have R:=Ab n;clear a n d FL H0 FO;simp only[Ay,AU];go_wp2;rw[B.out];have G:=M.zF rfl (X J lp) (X J ls) (X J 0) (O jK) (U Y 0 0) (X jI ll.v) (O ll.s) (X jI lr.v) (O lr.s);refine eX (Ar (P:=prog) (fn:=Tryz.f172) (p:=2) (u:=3) rfl rfl G underlying217 rfl (by kernel_rfl)) rfl ?_;refine⟨n9,⟨lp,ls,AU,ll,lr⟩,⟨_,_,_,rfl⟩,rfl,?_,?_⟩
    .exact R.zF (by omega) (i N (by omega)) _ _ _ _ _ _ _ _ _
    .have B0:=Aa HN;exact C.zF (by right;omega) _ _ _ _ _ _ _ _ _
   |ok r=>
    obtain⟨l,n2⟩:=r;rw[ht]at o;have HT:=Rq ht;obtain⟨lp,ls,la,ll,lr⟩:=l;simp only at HT;subst HT;obtain⟨rfl,n,d⟩:=o;(have B:j9 (G6 f g=.ok (.inr ⟨lp,ls,AU,ll,lr⟩,n2)):=by show _=_;unfold G6;simp[HS.out,HA.out,ht]);clear ht;have a:=FL.kept d (by simp;omega);have C:=Ab (FO.trans d);have nf:=a.frozen;have I:=a.cell 0;have D:=a.cell 1;have y:=a.cell 2;have E:=a.cell 3;have H:=a.cell 4;have S:=a.cell 5;have F:=a.cell 6;have Q:=a.cell 7;have A:=a.cell 8;simp[Ay,Ca,AU,AD]at I D y E H S F Q A;have M:=Ab a;have R:=Ab n;clear a n d FL H0 FO;simp only[Ay,AU];go_wp2;rw[B.out];have G:=M.zF rfl (X J lp) (X J ls) (X J 0) (O jK) (U Y 0 0) (X jI ll.v) (O ll.s) (X jI lr.v) (O lr.s);refine eX (Ar (P:=prog) (fn:=Tryz.f172) (p:=2) (u:=3) rfl rfl G underlying217 rfl (by kernel_rfl)) rfl ?_;refine⟨rfl,?_,?_⟩
    .exact R.zF (by omega) (i N (by omega)) _ _ _ _ _ _ _ _ _
    .have B0:=Aa HN;exact C.zF (by right;omega) _ _ _ _ _ _ _ _ _
end Go.Proofs.YtoihbhenbmffcaaGreatDoor
namespace Go.Proofs.YtoihbhenbmffcaaGreatDoor
open Go.RowKit Go.Proofs.Tryz
section
variable {P:Program} {ops:Array Oper} {Q:Exit->Act->j7->Prop} {md:Region.Mode} {S:j7->Prop} {k:Nat}
def CI(P:Program)(md:Region.Mode)(ops:Array Oper)(Q:Exit->Act->j7->Prop)(S:j7->Prop)(k:Nat):Nat->Array Bool->Act->j7->Prop
 |0,listed,a,w=>Region.ready md ops listed=[]/\Q .normal a w
 |fuel+1,listed,a,w=>(Region.ready md ops listed=[]->Q .normal a w)/\
  ∀i∈Region.ready md ops listed,wpOp P ops Q i (λa' w'=>(i≠k->S w')/\CI P md ops Q S k fuel (listed.setIfInBounds i jj) a' w') a w
def CI.any:∀(b:Nat) (c:Array Bool) (a:Act) (w:j7),CI P md ops Q S k b c a w->wpAny P md ops Q b c a w
 |0,_,_,_,h=>h
 |b+1,_,_,_,h=>⟨h.1,λi g=>wpOp_mono (λf e d=>CI.any b _ f e d.2) (h.2 i g)⟩
def VE(md:Region.Mode)(ops:Array Oper)(k i:Nat):Bool:=match ops[k]? with|some o=>o.after.any λe=>Region.binds md e&&e.on==i|none=>K
def Yy{i:Nat}{b:Array Bool}(h:VE md ops k i=jj)(f:b.getD i jj=K):k∉Region.ready md ops b:=λg=>by
 obtain⟨_,o,l,j⟩:=mem_ready.1 g;unfold VE at h;rw[l]at h;obtain⟨e,m,d⟩:=Array.any_eq_true'.1 h;simp only[eW,gF]at d;have a:=j e m d.1;rw[d.2]at a;rcases Nat.lt_or_ge i b.size with c|c
 .simp[c]at f a;rw[f]at a;cases a
 .simp[jl c]at a
def CI.first{i:Nat}{n:Oper}{v:j8}(B:ops[i]?=V n)(G:∀(j:Nat) (o:Oper) p b,ops[j]?=V o->o.op≠ .select p b)
  (T:∀c a w,Q (.panic c) (a.put n.dst v) w->Q (.panic c) a w) (W:VE md ops k i=jj):
  ∀(r:Nat) (f:Array Bool) (a:Act) (w:j7),
   (∀j m,ops[j]?=V m->j≠i->f.getD j jj=K->(∀e∈m.after,Region.binds md e=jj->e.on≠i)->n.apart ops m=jj)->
   i∈Region.ready md ops f->YieldsIf P ops S n v a->S w->
   CI P md ops Q S k r (f.setIfInBounds i jj) (a.put n.dst v) w->CI P md ops Q S k (r+1) f a w:=by
 intro r
 induction r with
 |zero=>
  intro f a w _ l u t H;refine⟨λh=>(by rw[h]at l;cases l),λj s=>?_⟩;by_cases d:j=i
  .subst d;exact u.wpOp B t ⟨λ_=>t,H⟩
  .have:=ready_mono s d;rw[H.1]at this;cases this
 |succ r ih=>
  intro f a w E l u t H;have A:=(mem_ready.1 l).1;refine⟨λh=>(by rw[h]at l;cases l),λj s=>?_⟩;by_cases d:j=i
  .subst d;exact u.wpOp B t ⟨λ_=>t,H⟩
  ·(have D:j≠k:=λe=>Yy W A (e▸s));have h1:=H.2 j (ready_mono s d);obtain⟨C,m,y,A1⟩:=mem_ready.1 s;have AB:∀e∈m.after,Region.binds md e=jj->e.on≠i:=λe he N R=>by
    have g:=A1 e he N;rw[R]at g;rcases Nat.lt_or_ge i f.size with z|z
    .simp[z]at A g;rw[A]at g;cases g
    .simp[jl z]at g
   have g:=wpOp_putIf y (E j m y d C AB) (λp b=>G i n p b B) (λp b=>G j m p b y) T u h1;refine wpOp_mono (λa' M x=>⟨λ_=>x.2.1 D,ih (f.setIfInBounds j jj) a' M (λq oq hq A0 I L=>E q oq hq A0 ?_ L) (ready_mono l (Ne.symm d)) x.1 (x.2.1 D) ?_⟩) g
   .by_cases F:j=q
    .subst F;exact C
    .rw[getD_set_ne jj F]at I;exact I
   .rw[Array.setIfInBounds_comm _ _ d];exact x.2.2
def CI.take{i:Nat}{d:Oper}{v:j8}{fuel:Nat}{b:Array Bool}{a:Act}{w:j7}(e:ops[i]?=V d)
  (n:Region.noSelect ops=jj) (f:Region.free md ops b i=jj) (m:(Region.ready md ops b).contains i=jj) (g:VE md ops k i=jj)
  (o:∀c a w,Q (.panic c) (a.put d.dst v) w->Q (.panic c) a w) (l:S w) (j:YieldsIf P ops S d v a)
  (h:CI P md ops Q S k fuel (b.setIfInBounds i jj) (a.put d.dst v) w):CI P md ops Q S k (fuel+1) b a w:=
 CI.first e (Region.noSelect_spec n) o g fuel b a w (Region.free_spec e f) (by simpa using m) j l h
def dZ(md:Region.Mode)(ops:Array Oper)(listed:Array Bool)(i:Nat)(b:Bool):Bool:=Region.noSelect ops&&Region.free md ops listed i&&(Region.ready md ops listed).contains i&&b
def CI.tk{i:Nat}{d:Oper}{v:j8}{fuel:Nat}{e:Array Bool}{a:Act}{w:j7}(m:ops[i]?=V d)(b:dZ md ops e i (VE md ops k i)=jj)
  (l:∀c a w,Q (.panic c) (a.put d.dst v) w->Q (.panic c) a w) (j:j9 (S w)) (f:Region.wanted d (yielded ops a.tmps)=jj) (g:∀w,S w->(execOp a.eval d).run P w=.ok (.value v) w)
  (h:CI P md ops Q S k fuel (e.setIfInBounds i jj) (a.put d.dst v) w):CI P md ops Q S k (fuel+1) e a w:=by
 unfold dZ at b;simp only[eW]at b;exact CI.take m b.1.1.1 b.1.1.2 b.1.2 b.2 l j (Or.inl ⟨f,g⟩) h
def Bo{Q:Exit->Act->j7->Prop}(h:j9 (∀c a w,¬Q (.panic c) a w)){d:Option Tmp}{v:j8}:∀c a w,Q (.panic c) (Act.put a d v) w->Q (.panic c) a w:=λ_ _ _ b=>absurd b (h _ _ _)
def CI.one{i:Nat}{o:Oper}{fuel:Nat}{e:Array Bool}{a:Act}{w:j7}(m:Region.ready md ops e=[i])(p:ops[i]?=V o)
  (h:∀f:Act->j7->Prop,j9 (∀l c,(i≠k->S c)->CI P md ops Q S k fuel (e.setIfInBounds i jj) l c->f l c)->
   if Region.wanted o (yielded ops a.tmps)=jj then o.wp P a w f Q else f (a.put o.dst undef) w):CI P md ops Q S k (fuel+1) e a w:=by
 refine⟨λn=>(by rw[m]at n;cases n),λj g=>?_⟩;rw[m]at g;simp only[ex]at g;subst g;have b:=h _ (λl c q b=>And.intro q b);unfold wpOp;simp only[p];split
 .rename_i d;rw[eI d]at b;exact .inl b
 .rename_i d;rw[eE d]at b;exact b
def CI.done{b:Array Bool}{a:Act}{w:j7}(c:Region.ready md ops b=[])(h:Q .normal a w):∀d,CI P md ops Q S k d b a w
 |0=>⟨c,h⟩
 |_+1=>⟨λ_=>h,by rw[c];simp⟩
def CK{b:Nat}{a:Act}{w:j7}(k:Nat)(S:j7->Prop)(c:P.follows .mixedOrders=jj)
  (h:CI P .any ops Q S k ops.size (Array.replicate ops.size K) a w.drew):(Code.region b ops jj).wp P Q a w:=
 wp_region_any c (CI.any _ _ _ _ h)
end
end Go.Proofs.YtoihbhenbmffcaaGreatDoor
namespace Go.Proofs.YtoihbhenbmffcaaGreatDoor
open Go.RowKit Go.Proofs.Tryz
set_option maxRecDepth 100000
theorem XY(E:List j8)(j:Nat)(x:g0)(w:j7)(c:Z E=26)(p:j<26)(q:(jH (j2 E)).cells=j2 E)(g:∀v∈E,v.oneCell'=jj):
  Calls prog 179 #[jH (j2 E),X jI ((j:Int)+65),O x] w λr k=>r=j4 (jH (j2 (E.set j (O x))))/\Ac [] w k:=by
 have m:IntKind.i32.wrap (j:Int)=j:=by rw[IntKind.wrap_i32];omega
 have s:IntKind.i32.wrap ((j:Int)+65-65)=j:=by rw[show(j:Int)+65-65=j by omega];exact m
 have n:(0:Int)<=(j:Int):=by omega
 have o:(j:Int)<26:=by omega
 have i:j9 (∀v∈E.set j (O x),v.oneCell'=jj):=by
  intro v l;rcases List.mem_or_eq_of_mem_set l with h|rfl
  .exact g v h
  .rfl
 have a:j9 (Z (E.set j (O x))=26):=by show _=_;simp[c]
 have d:j9 ((E.set j (O x)).toArray.size=26):=by show _=_;simp[c]
 go_enter func179,ntmps179;go_wp2_with (first|(refine gD rfl 243 _ rfl w.heap.size 0 (by rfl) (E.set j (O x)) _ ?_ underlying243 rfl ?_ ?_)|(refine gQ rfl 243 _ _ rfl (w.heap.size+1) 0 (j2 (E.set j (O x))) (by rfl) (by rfl) ?_ ?_ ?_ ?_))
 .exact((AI.new w (E.set j (O x)) 243).alloc _).range
 .rw[Aa a];exact Tryz.zH
 .have h:=(AI.new (w.alloc (j1 (j2 (E.set j (O x))) 243)) (jL 26 (O ⟨#[]⟩)) 243).there;simp only[gM,fg]at h;rw[Aa d];exact h
 .rw[Aa d];exact Tryz.zH
 .exact fX i
 .have e:=(AI.new (w.alloc (j1 (j2 (E.set j (O x))) 243)) (jL 26 (O ⟨#[]⟩)) 243).zQ (E.set j (O x)) (by rw[Aa a];simp);have f:=((((Ac.refl [] w).alloc (j1 (j2 (E.set j (O x))) 243)).alloc (j1 (j2 (jL 26 (O ⟨#[]⟩))) 243)).zI (b:=w.heap.size+1) (Or.inr (by omega)) (E.set j (O x)) 0);simp only[fg]at e;refine eX (BQ (b:=w.heap.size+1) rfl (by rfl) e underlying243 rfl (by rw[Aa a];exact Tryz.zH)) rfl ⟨rfl,f⟩
