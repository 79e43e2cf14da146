import Derived.Test.YtoihbhenbmffcaaGreatDoorYAC
set_option linter.all false
set_option maxHeartbeats 0
namespace Go.Proofs.YtoihbhenbmffcaaGreatDoor
open Go.RowKit Go.Proofs.Tryz
theorem Tryz.gP:(Tryz.prog.info? 215).map (λi=>(i.zero,i.size,i.bytes))=some (some (.agg #[.int .i32 0,.string ⟨#[]⟩]),2,24):=by kernel_rfl
def G7:cR:=⟨#[44]⟩
def Nf:cR:=⟨#[41]⟩
def FT(ms:List AW)(nx:Nat)(acc:List A3):Except Int (List A3×Nat):=
 if h:nx<ms.length then
  match Fe (An ms nx) nx with
  | .error p=> .error p
  | .ok (t,_)=>
   if BF (An ms (nx+1)) G7 then FT ms (nx+2) (acc++[t])
   else if BF (An ms (nx+1)) Nf then .ok (acc++[t],nx+2)
   else .error (An ms (nx+1)).place
 else .error 0
theorem Fn{m:AW}{a:Nat}{t:A3}{n:Nat}(h:Fe m a=.ok (t,n)):n=a+1:=by
 unfold Fe at h;split at h
 .simp only[de,cP]at h;exact h.2.symm
 .split at h
  .simp only[de,cP]at h;exact h.2.symm
  .cases h
def Et(ms:List AW)(nx:Nat):Except Int ((Nat×cR×List A3)×Nat):=
 if(An ms nx).kind==2 then
  if BF (An ms (nx+1)) Qt then
   match FT ms (nx+2) [] with
   | .error p=> .error p
   | .ok (ts,n)=> .ok (((An ms nx).place,(An ms nx).text,ts),n)
  else .error (An ms (nx+1)).place
 else .error (An ms nx).place
theorem AE.gJ{w:World}{N:Nat}{cs:List Value}{t:TypeId}(h:AE w N cs t)(d:cs.length=3)(b v1 a:Value):AE (((w.setCell ⟨N,0,none⟩ b).setCell ⟨N,1,none⟩ v1).setCell ⟨N,2,none⟩ a) N [b,v1,a] t:=by
 have c:=((h.set 0 b).set 1 v1).set 2 a;have e:((cs.set 0 b).set 1 v1).set 2 a=[b,v1,a]:=by
  match cs,d with
  |[_,_,_],_=>rfl
 rw[e]at c;exact c
theorem BU.gJ{w:World}{b:Nat}{d:Value}{ms:List AW}{i:Nat}{e:Int}(h:BU w b d ms i e){N:Nat}(a:N≠b)(c:d.ownBlock≠some N)(g v1 f:Value):BU (((w.setCell ⟨N,0,none⟩ g).setCell ⟨N,1,none⟩ v1).setCell ⟨N,2,none⟩ f) b d ms i e:=
 ((h.other (p:=⟨N,0,none⟩) a c g).other (p:=⟨N,1,none⟩) a c v1).other (p:=⟨N,2,none⟩) a c f
theorem Ac.gJ{M:List Nat}{a w:World}(h:Ac M a w){N:Nat}(b:N∈M\/a.heap.size<=N)(d v1 c:Value):Ac M a (((w.setCell ⟨N,0,none⟩ d).setCell ⟨N,1,none⟩ v1).setCell ⟨N,2,none⟩ c):=
 ((h.setCell (p:=⟨N,0,none⟩) b d).setCell (p:=⟨N,1,none⟩) b v1).setCell (p:=⟨N,2,none⟩) b c
def ZA(b:Nat)(mv:Value)(ms:List AW)(br:Int)(w:World)(e:Ending)(w':World):Except Int ((Nat×cR×List A3)×Nat)->Prop
 | .ok ((p,s,ts),nx)=>∃tv base,e=.returned (.tuple #[.agg (AF ⟨p,s,tv⟩).toArray,.bool true])/\w.heap.size<=base/\w'.ownsRow base 215 2 tv ts.length (ts.flatMap Ao)/\BU w' b mv ms nx br/\Ac [b] w w'
 | .error p=>∃nx pl s ad n cp,e=.returned (.tuple #[.agg (AF ⟨pl,s,.slice ad n cp⟩).toArray,.bool false])/\BU w' b mv ms nx p/\Ac [b] w w'
set_option maxRecDepth 100000
theorem Mp(b:Nat)(mv:Value)(ms:List AW)(nx:Nat)(br:Int)(w:World)(h:BU w b mv ms nx br)(ok:Tv ms):
  Calls prog 158 #[.pointer (some ⟨b,0,none⟩)] w λe w'=>ZA b mv ms br w e w' (Et ms nx):=by
 obtain⟨m,hm⟩:∃m,An ms nx=m:=⟨_,rfl⟩;obtain⟨i0,hi0,hz0,hz1,hz2⟩:=cU Tryz.gP;have HM:=Ab hm;have HO:=Ab ok;have hlt0:=h.lt;have gK:(nx:Int)<(ms.length:Int):=by omega
 have hnx0:(0:Int)<=(nx:Int):=by omega
 have hl:=h.len;have hbw:=h.gA.lt;have hmb:∀k,mv.ownBlock=some k->k<w.heap.size:=λk hk=>(h.row.lt k hk).2
 have h1:=h.eb ((Ac.refl [] w).alloc (.cells #[.int .i64 0,.string ⟨#[]⟩,.slice none 0 0] 187));have hN2:=AE.new w [.int .i64 0,.string ⟨#[]⟩,.slice none 0 0] 187;have hK1:=(Ac.refl [b] w).alloc (.cells [.int .i64 0,.string ⟨#[]⟩,.slice none 0 0].toArray 187);clear hm h ok;go_enter func158,ntmps158;go_wp2_with fail
 generalize w.alloc (.cells [.int .i64 0,.string ⟨#[]⟩,.slice none 0 0].toArray 187)=w1 at h1 hN2 hK1⊢;obtain⟨N2,hN2e⟩:∃N2,w.heap.size=N2:=⟨_,rfl⟩;rw[hN2e]at hN2 hbw hmb⊢;have HN2:=Ab hN2e;clear hN2e;have HMB:Hid (∀k,N2<=k->mv.ownBlock≠some k):=λk hk e=>by have:=hmb k e;omega
 obtain⟨g,cap,rfl,b0,b1,b2,hc⟩:=h1.cells;have hgN:g<N2:=hmb g rfl;clear hmb;obtain⟨c0,c1,c2⟩:=hc nx hlt0;rw[A8 hlt0,Aa HM]at c0 c1 c2;clear hc b2;have n0:=World.new_ne w1 _ b0;have n1:=World.new_ne w1 _ b1;have n2:=World.new_ne w1 _ c0;have n3:=World.new_ne w1 _ c1;have n4:=World.new_ne w1 _ c2;have HH:=Ab h1;have HB2:=Ab hN2;clear h1 hN2
 go_region_held3 (λw'=>w'.cell? ⟨b,0,none⟩=some (.slice (some ⟨g,0,none⟩) ms.length cap)/\w'.cell? ⟨b,1,none⟩=some (.int .i64 nx)/\w'.cell? ⟨g,nx*3,none⟩=some (.int .i64 m.kind)/\w'.cell? ⟨g,nx*3+1,none⟩=some (.int .i64 m.place)/\w'.cell? ⟨g,nx*3+2,none⟩=some (.string m.text)) (go_keep) (fail)
 rename_i hHeldX;clear hHeldX n0 n1 n2 n3 n4 b0 b1 c0 c1 c2;have hN2lt:=(Aa HB2).lt;have h2:=(Aa HH).eb (((Ac.refl [] w1).alloc (.cells [.int .i64 m.kind,.int .i64 m.place,.string m.text].toArray 206)).drew);have hN4:=(AE.new w1 [.int .i64 m.kind,.int .i64 m.place,.string m.text] 206).drew;have hN2':=((Aa HB2).alloc (.cells [.int .i64 m.kind,.int .i64 m.place,.string m.text].toArray 206)).drew;have hK2:=(hK1.alloc (.cells [.int .i64 m.kind,.int .i64 m.place,.string m.text].toArray 206)).drew;clear HH HB2 hK1;generalize(w1.alloc (.cells [.int .i64 m.kind,.int .i64 m.place,.string m.text].toArray 206)).drew=w2 at h2 hN4 hN2' hK2⊢;generalize w1.heap.size=N4 at hN4 hN2lt⊢;have x0:=hN4.cell 0;have x1:=hN4.cell 1;have x2:=hN4.cell 2;have z1:=h2.gA.cell 1;have zf:=h2.gA.frozen 1;simp at x0 x1 x2 z1;have HH2:=Ab h2;have HB2:=Ab hN2';have HB4:=Ab hN4;have HK2:=Ab hK2;clear h2 hN4 hN2' hK2;cases hk:(m.kind==2)with
 |false=>
  have hk2:(m.kind !=2)=true:=by simp[bne,hk]
  have HF:Hid (Et ms nx=.error m.place):=by show _=_;unfold Et;rw[Aa HM,hk];rfl
  clear hk;go_wp2_with fail
  refine(EF b (.slice (some ⟨g,0,none⟩) ms.length cap) ms nx br m.place _ (Aa HH2)).mono ?_;rintro e w3 ⟨rfl,h3,k3⟩;have hN3:=(Aa HB2).kept k3 (by simp;omega);have HK3:=Ab ((Aa HK2).trans k3);have c0:=hN3.cell 0;have c1:=hN3.cell 1;have c2:=hN3.cell 2;have nf:=hN3.frozen;simp at c0 c1 c2;have HB3:=Ab hN3;have HR:=Ab h3;clear hN3 h3 k3 x0 x1 x2 z1 zf HH2 HB2 HB4 HK2;go_wp2;rw[HF.out];have hfin:=(Aa HB3).gJ rfl (.int .i64 0) (.string ⟨#[]⟩) (.slice none 0 0);refine cB (AC (P:=prog) (fn:=Tryz.f158) (p:=2) (u:=3) rfl rfl hfin underlying187 rfl (by kernel_rfl)) rfl ?_;refine⟨nx,0,ByteArray.empty,none,0,0,rfl,?_,?_⟩
  .exact(Aa HR).gJ (by omega) (Aa HMB N2 (by omega)) _ _ _
  .have:=Aa HN2;exact(Aa HK3).gJ (by right;omega) _ _ _
 |true=>
  have hk2:(m.kind !=2)=false:=by simp[bne,hk]
  have hnx:nx+1<ms.length:=by
   refine(Aa HO).ends nx hlt0 ?_;rw[A8 hlt0,Aa HM];(have:m.kind=2:=by simpa using hk);rw[this];decide
  have HK:=Ab hk;clear hk;go_wp2_with fail
  have k3:Ac [b] w2 (w2.setCell ⟨b,1,none⟩ (.int .i64 ((nx:Int)+1))):=(Ac.refl [b] w2).setCell (by simp) _;have h3:BU (w2.setCell ⟨b,1,none⟩ (.int .i64 ((nx:Int)+1))) b (.slice (some ⟨g,0,none⟩) ms.length cap) ms (nx+1) br:=(Aa HH2).kept (nx':=nx+1) (br':=br) k3 ((Aa HH2).gA.set 1 _) hnx;have hB3:=Ab ((Aa HB2).kept k3 (by simp;omega));have hM3:=Ab ((Aa HB4).kept k3 (by simp;omega));have hK3:=Ab ((Aa HK2).trans k3);clear x0 x1 x2 z1 zf HH2 HB2 HB4 HK2 k3;generalize w2.setCell ⟨b,1,none⟩ (.int .i64 ((nx:Int)+1))=w3 at h3 hB3 hM3 hK3⊢;refine(LN b (.slice (some ⟨g,0,none⟩) ms.length cap) ms (nx+1) br Qt _ h3 (An ms (nx+1)) (A8 h3.lt) ((Aa HO).seen h3.lt Qt)).mono ?_;rintro e w4 ⟨rfl,h4,k4⟩;clear h3;have hB4:=Ab ((Aa hB3).kept k4 (by simp;omega));have hM4:=Ab ((Aa hM3).kept k4 (by simp;omega));have hK4:=Ab ((Aa hK3).trans k4);clear hB3 hM3 hK3 k4;cases hs:BF (An ms (nx+1)) Qt with
  |false=>
   rw[hs]at h4;simp only[bN,if_false]at h4;(have HF:Hid (Et ms nx=.error (An ms (nx+1)).place):=by show _=_;unfold Et;rw[Aa HM,Aa HK,hs];rfl);have c0:=(Aa hB4).cell 0;have c1:=(Aa hB4).cell 1;have c2:=(Aa hB4).cell 2;have nf:=(Aa hB4).frozen;simp at c0 c1 c2;have HR:=Ab h4;clear h4 hs hM4;go_wp2;rw[HF.out];have hfin:=(Aa hB4).gJ rfl (.int .i64 0) (.string ⟨#[]⟩) (.slice none 0 0);refine cB (AC (P:=prog) (fn:=Tryz.f158) (p:=2) (u:=3) rfl rfl hfin underlying187 rfl (by kernel_rfl)) rfl ?_;refine⟨nx+1,0,ByteArray.empty,none,0,0,rfl,?_,?_⟩
   .exact(Aa HR).gJ (by omega) (Aa HMB N2 (by omega)) _ _ _
   .have:=Aa HN2;exact(Aa hK4).gJ (by right;omega) _ _ _
  |true=>
   rw[hs]at h4;simp only[if_true]at h4;have HS:=Ab hs;have x1:=(Aa hM4).cell 1;have x2:=(Aa hM4).cell 2;simp at x1 x2;have HR:=Ab h4;clear h4 hs;go_wp2;have HFa:Hid (∀r,FT ms (nx+2) []=r->Et ms nx=(match r with| .error p=> .error p| .ok (ts,n)=> .ok ((m.place,m.text,ts),n))):=by
    intro r hr;unfold Et;rw[Aa HM,Aa HK,Aa HS,hr];rfl
   have hA5:=Ab (AE.new w4 [.int .i64 m.place,.string m.text,.slice none 0 0] 187);have hB5:=Ab ((Aa hB4).alloc (.cells [.int .i64 m.place,.string m.text,.slice none 0 0].toArray 187));have hR5:=Ab ((Aa HR).eb ((Ac.refl [] w4).alloc (.cells [.int .i64 m.place,.string m.text,.slice none 0 0].toArray 187)));have hK5:=Ab ((Aa hK4).alloc (.cells [.int .i64 m.place,.string m.text,.slice none 0 0].toArray 187));(have hs5:(w4.alloc (.cells [.int .i64 m.place,.string m.text,.slice none 0 0].toArray 187)).heap.size=w4.heap.size+1:=by simp);have hN4A:=(Aa hM4).lt;clear x1 x2 hM4 hB4 hK4 HR HS HK HM;change Code.wp _ _ _ _ (w4.alloc (.cells [.int .i64 m.place,.string m.text,.slice none 0 0].toArray 187));generalize w4.alloc (.cells [.int .i64 m.place,.string m.text,.slice none 0 0].toArray 187)=w5 at hA5 hB5 hR5 hK5 hs5⊢;obtain⟨A,hAe⟩:∃A,w4.heap.size=A:=⟨_,rfl⟩;rw[hAe]at hA5 hs5 hN4A⊢;clear hAe
   go_loopg [] (ms.length-(nx+2)) (λgk wr=>∃(j:Nat) (acc:List A3) (ad:Option Addr) (cp:Nat),gk=ms.length-j/\Hid (FT ms j acc=FT ms (nx+2) [])/\Hid (BU wr b (.slice (some ⟨g,0,none⟩) ms.length cap) ms j br)/\Hid (AE wr N2 [.int .i64 0,.string ⟨#[]⟩,.slice none 0 0] 187)/\Hid (AE wr A [.int .i64 m.place,.string m.text,.slice ad acc.length cp] 187)/\wr.ownsRow (A+1) 215 2 (.slice ad acc.length cp) acc.length (acc.flatMap Ao)/\Hid (Ac [b] w wr)/\A+1<=wr.heap.size/\acc.length<=j)
   case atStart=>exact⟨nx+2,[],none,0,rfl,rfl,hR5,hB5,hA5,ck _ _ _ _,hK5,by omega,by simp⟩
   case round=>
    clear hA5 hB5 hR5 hK5 hs5;obtain⟨j,acc,ad,cp,hgk,HL,HR,HB,HA,hown,hK,hz,hal⟩:=hrel;have HG:=Ab hgk;clear hgk;have hjl:=(Aa HR).lt;(go_wp2_with fail);refine(Hq b (.slice (some ⟨g,0,none⟩) ms.length cap) ms j br _ (Aa HR) (Aa HO) (An ms j) (A8 hjl)).mono ?_;intro e w6 hout;cases ht:Fe (An ms j) j with
    |error q=>
     rw[ht]at hout;obtain⟨n9,rfl,h6,k6⟩:=hout;have HF:Hid (Et ms nx=.error q):=(Aa HFa) (.error q) (by rw[<-Aa HL];unfold FT;rw[dif_pos hjl,ht]);have hB6:=(Aa HB).kept k6 (by simp;omega);have hK6:=Ab ((Aa hK).trans k6);clear k6 ht HR HB HA hK HL hown;have c0:=hB6.cell 0;have c1:=hB6.cell 1;have c2:=hB6.cell 2;have nf:=hB6.frozen;(have d0:=λo=>(hB6.alloc o).cell 0);(have d1:=λo=>(hB6.alloc o).cell 1);(have d2:=λo=>(hB6.alloc o).cell 2);(have df:=λo=>(hB6.alloc o).frozen);simp at c0 c1 c2 d0 d1 d2;have hlt6:=hB6.lt;have hb6:=h6.gA.lt;(have q1:¬N2=w6.heap.size:=by omega);(have q2:¬w6.heap.size=N2:=by omega);have HR6:=Ab h6;have HB6:=Ab hB6;clear h6 hB6;simp only[Ao,Ay];go_wp2;rw[HF.out];have hfin:=((Aa HB6).gJ rfl (.int .i64 0) (.string ⟨#[]⟩) (.slice none 0 0)).alloc (.cells #[.int .i32 0,.string ByteArray.empty] 215);refine cB (AC (P:=prog) (fn:=Tryz.f158) (p:=2) (u:=3) rfl rfl hfin underlying187 rfl (by kernel_rfl)) rfl ?_;refine⟨n9,0,ByteArray.empty,none,0,0,rfl,?_,?_⟩
     .exact((Aa HR6).gJ (by omega) (Aa HMB N2 (by omega)) _ _ _).eb ((Ac.refl [] _).alloc _)
     .have:=Aa HN2;exact((Aa hK6).gJ (by right;omega) _ _ _).alloc _
    |ok r=>
     obtain⟨t,n1⟩:=r;rw[ht]at hout;have hn1:=Fn ht;subst hn1;obtain⟨rfl,h6,k6⟩:=hout;have hB6:=Ab ((Aa HB).kept k6 (by simp;omega));have hA6:=Ab ((Aa HA).kept k6 (by simp;omega));have hK6:=Ab ((Aa hK).trans k6);have hown6:=Al hown k6 (λi hi hm=>by simp at hm;subst hm;have:=(hown.lt _ hi).1;omega);have hz6:A+1<=w6.heap.size:=da hz k6.size;have HT:=Ab ht;clear k6 ht HR HB HA hK hown hz;have a2:=(Aa hA6).cell 2;have af:=(Aa hA6).frozen;(have d2:=λo=>((Aa hA6).alloc o).cell 2);(have df:=λo=>((Aa hA6).alloc o).frozen);simp at a2 d2;have hlt6:=(Aa hA6).lt;(have q1:¬A=w6.heap.size:=by omega);(have q2:¬w6.heap.size=A:=by omega);have HR6:=Ab h6;clear h6;have hnew:((w6.alloc (.cells (Ao t).toArray 215)).alloc (.cells (Ao t).toArray 215)).heap[w6.heap.size+1]?=some (.cells (Ao t).toArray 215 (0,0)):=by
      have hh:=cA (w6.alloc (.cells (Ao t).toArray 215)) (.cells (Ao t).toArray 215);rw[show(w6.alloc (.cells (Ao t).toArray 215)).heap.size=w6.heap.size+1 from by simp]at hh
      exact hh
     have hown8:=bQ (bQ hown6 (.cells (Ao t).toArray 215)) (.cells (Ao t).toArray 215);(have hal2:acc.length<=1000:=by omega);have HGR:Hid (∀w9,((w6.alloc (.cells (Ao t).toArray 215)).alloc (.cells (Ao t).toArray 215)).grownBy w9 (Value.slice ad acc.length cp).ownBlock->Ac (Value.slice ad acc.length cp).ownBlock.toList w6 w9):=by
      intro w9 hg;exact(((Ac.refl _ w6).alloc _).alloc _).grown hg (λk hk=>Or.inl (by simp[hk]))
     (have HRW:Hid (∀i∈(Value.slice ad acc.length cp).ownBlock.toList,A+1<=i):=λi hi=>(hown6.lt i (by simpa using hi)).1);have HAC:Hid (∀w9,((w6.alloc (.cells (Ao t).toArray 215)).alloc (.cells (Ao t).toArray 215)).grownBy w9 (Value.slice ad acc.length cp).ownBlock->w9.cell? ⟨A,2,none⟩=some (.slice ad acc.length cp)/\w9.frozen? ⟨A,2,none⟩=false):=by
      intro w9 hg;have hb:=(Aa hA6).kept (Aa HGR w9 hg) (λhm=>by have:=Aa HRW A hm;omega);exact⟨hb.cell 2,hb.frozen 2⟩
     simp only[Ao];go_wp2_with (at_builtin;refine cd _ rfl (.tmp 51) (.tmp 53) _ rfl (A+1) 215 i0 _ 2 24 underlying185 hi0 hz0 hz1 hz2 rfl (by omega) (.slice ad acc.length cp) acc.length (acc.flatMap Ao) rfl hown8 ⟨w6.heap.size+1,0,none⟩ 1 1 (Ao t) rfl rfl (cj (cs:=(Ao t).toArray) (t:=215) (fr:=(0,0)) hnew) (by simp[Value.oneCell',Ao]) (by omega) (by unfold maxLen;omega) (by omega) (by simp;omega) (w6.heap.size+1+1) (by simp) ?_;intro g1 cp1 w9 ho1 hg1 ha1 hl1;have hc9:=(Aa HAC w9 hg1).1;have hf9:=(Aa HAC w9 hg1).2)
     have kr:=Aa HGR w9 hg1;have hrw:=Aa HRW;have hN2w:=Aa HN2;have hg1A:A+1<=g1:=(ho1.lt g1 rfl).1;have hR9:BU w9 b (.slice (some ⟨g,0,none⟩) ms.length cap) ms (j+1) br:=⟨(Aa HR6).gA.kept kr (λhm=>by have:=hrw b hm;omega),Al (Aa HR6).row kr (λi hi hm=>by have:=hrw i hm;simp[Value.ownBlock]at hi;omega),(Aa HR6).ap,(Aa HR6).lt,(Aa HR6).len⟩;have hR10:=Ab (hR9.other (p:=⟨A,2,none⟩) (by simp;omega) (Aa HMB A (by omega)) (.slice (some ⟨g1,0,none⟩) (acc.length+1) cp1));have hB10:=Ab (((Aa hB6).kept kr (λhm=>by have:=hrw N2 hm;omega)).dT ⟨A,2,none⟩ (by simp;omega) (.slice (some ⟨g1,0,none⟩) (acc.length+1) cp1));have hA10:Hid (AE (w9.setCell ⟨A,2,none⟩ (.slice (some ⟨g1,0,none⟩) (acc.length+1) cp1)) A [.int .i64 m.place,.string m.text,.slice (some ⟨g1,0,none⟩) (acc.length+1) cp1] 187):=((Aa hA6).kept kr (λhm=>by have:=hrw A hm;omega)).set 2 _;have hK9:Ac [b] w w9:=(Aa hK6).trans' kr (λi hi=>Or.inr (by have:=hrw i hi;omega));have hK10:=Ab (hK9.setCell (p:=⟨A,2,none⟩) (by right;simp;omega) (.slice (some ⟨g1,0,none⟩) (acc.length+1) cp1));have hown10:=Ag ho1 (p:=⟨A,2,none⟩) (by simp[Value.ownBlock];omega) (.slice (some ⟨g1,0,none⟩) (acc.length+1) cp1);(have hz10:A+1<=(w9.setCell ⟨A,2,none⟩ (.slice (some ⟨g1,0,none⟩) (acc.length+1) cp1)).heap.size:=by have:=kr.size;simp;omega);clear kr hrw hR9 hK9 hg1 ha1 hl1 ho1 hc9 hf9 HGR HRW HAC hnew hown8 hown6 hA6 hB6 hK6 HR6 a2 d2 af df q1 q2 hlt6 hz6;generalize w9.setCell ⟨A,2,none⟩ (.slice (some ⟨g1,0,none⟩) (acc.length+1) cp1)=w10 at hR10 hB10 hA10 hK10 hown10 hz10⊢;have hj1:=(Aa hR10).lt;refine(F6 b (.slice (some ⟨g,0,none⟩) ms.length cap) ms (j+1) br G7 _ (Aa hR10) (An ms (j+1)) (A8 hj1) ((Aa HO).seen hj1 G7)).mono ?_;rintro e w11 ⟨rfl,h11,k11⟩;have hB11:=Ab ((Aa hB10).kept k11 (by simp;omega));have hA11:=Ab ((Aa hA10).kept k11 (by simp;omega));have hK11:=Ab ((Aa hK10).trans k11);have hown11:=Al hown10 k11 (λi hi hm=>by simp at hm;subst hm;have:=(hown10.lt _ hi).1;omega);have hz11:A+1<=w11.heap.size:=da hz10 k11.size;clear k11 hR10 hB10 hA10 hK10 hown10 hz10;cases hs:BF (An ms (j+1)) G7 with
     |true=>
      rw[hs]at h11;simp only[if_true]at h11;have HL2:Hid (FT ms (j+2) (acc++[t])=FT ms (nx+2) []):=by
       have hh:=Aa HL
       conv at hh=>lhs;unfold FT
       rw[dif_pos hjl,Aa HT]at hh;simp only[hs,if_true]at hh;exact hh
      have HR11:=Ab h11;clear h11 hs HL HT;go_wp2_with fail
      go_roundg (ms.length-(j+2))
      case measure=>have:=Aa HG;omega
      case rel=>exact⟨j+2,acc++[t],some ⟨g1,0,none⟩,cp1,rfl,HL2,HR11,hB11,by simpa using hA11,by simpa using hown11,hK11,hz11,by simp;omega⟩
     |false=>
      rw[hs]at h11;simp only[bN,if_false]at h11;have HS:=Ab hs;have HR11:=Ab h11;clear h11 hs;have HAr:Hid (FT ms (nx+2) []=if BF (An ms (j+1)) Nf then .ok (acc++[t],j+2)else .error (An ms (j+1)).place):=by
       have hh:=Aa HL
       conv at hh=>lhs;unfold FT
       rw[dif_pos hjl,Aa HT]at hh;simp only[Aa HS,bN,if_false]at hh;exact hh.symm
      have HWd:=Ab (LN b (.slice (some ⟨g,0,none⟩) ms.length cap) ms (j+1) br Nf _ ((Aa HR11).eb (Ac.refl [] w11).drew) (An ms (j+1)) (A8 hj1) ((Aa HO).seen hj1 Nf));have e0:=(Aa hA11).cell 0;have e1:=(Aa hA11).cell 1;have e2:=(Aa hA11).cell 2;simp at e0 e1 e2;(have q1:¬A=N2:=by omega);(have q2:¬N2=A:=by omega);(have HC:Hid (∀w12,Ac [b] w11.drew w12->AE w12 N2 [.int .i64 0,.string ⟨#[]⟩,.slice none 0 0] 187/\AE w12 A [.int .i64 m.place,.string m.text,.slice (some ⟨g1,0,none⟩) (acc.length+1) cp1] 187):=λw12 k=>⟨(Aa hB11).drew.kept k (by simp;omega),(Aa hA11).drew.kept k (by simp;omega)⟩);clear HL HT HS HR11;go_wp2_with fail
      go_region_held3 (λw'=>w'.cell? ⟨A,0,none⟩=some (.int .i64 m.place)/\w'.cell? ⟨A,1,none⟩=some (.string m.text)/\w'.cell? ⟨A,2,none⟩=some (.slice (some ⟨g1,0,none⟩) (acc.length+1) cp1)) (go_keep) ((go_at_call 163;refine(Aa HWd).mono ?_;rintro e w12 ⟨rfl,h12,k12⟩;have hc12:=Aa HC w12 k12;have f0:=hc12.2.cell 0;have f1:=hc12.2.cell 1;have f2:=hc12.2.cell 2;have p0:=hc12.1.cell 0;have p1:=hc12.1.cell 1;have p2:=hc12.1.cell 2;have pf:=hc12.1.frozen;simp at f0 f1 f2 p0 p1 p2;have H12:=Ab (And.intro h12 (And.intro k12 hc12));clear h12 k12 hc12))
      rename_i hHeldY;clear hHeldY;go_wp2;obtain⟨h12,k12,hc12,_⟩:=Aa H12;have hfin:=hc12.gJ rfl (.int .i64 m.place) (.string m.text) (.slice (some ⟨g1,0,none⟩) (acc.length+1) cp1);have hK12:Ac [b] w w12:=(Aa hK11).drew.trans k12;refine cB (AC (P:=prog) (fn:=Tryz.f158) (p:=2) (u:=3) rfl rfl hfin underlying187 rfl (by kernel_rfl)) rfl ?_;cases hcl:BF (An ms (j+1)) Nf with
      |true=>
       rw[hcl]at h12;have hA:=Aa HAr;rw[hcl]at hA;simp only[if_true]at h12 hA;rw[Aa HFa _ hA];have hown12:=Al (E0 hown11) k12 (λi hi hm=>by simp at hm;subst hm;have:=(hown11.lt _ hi).1;omega);(have hne:(Value.slice (some ⟨g1,0,none⟩) (acc.length+1) cp1).ownBlock≠some N2:=by simp[Value.ownBlock];omega);refine⟨.slice (some ⟨g1,0,none⟩) (acc.length+1) cp1,A+1,rfl,by omega,?_,?_,?_⟩
       .have ho:=Ag (Ag (Ag hown12 (p:=⟨N2,0,none⟩) hne (.int .i64 m.place)) (p:=⟨N2,1,none⟩) hne (.string m.text)) (p:=⟨N2,2,none⟩) hne (.slice (some ⟨g1,0,none⟩) (acc.length+1) cp1);simpa using ho
       .exact h12.gJ (by omega) (Aa HMB N2 (by omega)) _ _ _
       .exact hK12.gJ (by right;omega) _ _ _
      |false=>
       rw[hcl]at h12;have hA:=Aa HAr;rw[hcl]at hA;simp only[bN,if_false]at h12 hA;rw[Aa HFa _ hA];refine⟨j+1,m.place,m.text,some ⟨g1,0,none⟩,acc.length+1,cp1,rfl,?_,?_⟩
       .exact h12.gJ (by omega) (Aa HMB N2 (by omega)) _ _ _
       .exact hK12.gJ (by right;omega) _ _ _
def Ve:cR:=⟨#[33]⟩
abbrev X2:Type:=(Int×Int×Nat×cR×List A3)⊕XZ
def GU(ms:List AW)(nx:Nat):Except Int (X2×Nat):=
 if BF (An ms nx) Ve then
  match Et ms (nx+1)with
  | .error p=> .error p
  | .ok (a,n)=> .ok (.inl ((An ms nx).place,1,a),n)
 else if D6 ms nx then
  match Et ms nx with
  | .error p=> .error p
  | .ok (a,n)=> .ok (.inl ((An ms nx).place,0,a),n)
 else
  match GR ms nx with
  | .error p=> .error p
  | .ok (l,n)=> .ok (.inr l,n)
theorem Kh{w:World}{base:Nat}{k:TypeId}{size:Nat}{v:Value}{n:Nat}{e:List Value}(h:w.ownsRow base k size v n e){N:Nat}(a:v.ownBlock≠some N)(f v1 d b g v5 c j i:Value):(((((((((w.setCell ⟨N,0,none⟩ f).setCell ⟨N,1,none⟩ v1).setCell ⟨N,2,none⟩ d).setCell ⟨N,3,none⟩ b).setCell ⟨N,4,none⟩ g).setCell ⟨N,5,none⟩ v5).setCell ⟨N,6,none⟩ c).setCell ⟨N,7,none⟩ j).setCell ⟨N,8,none⟩ i).ownsRow base k size v n e:=
 (Ag (Ag (Ag (Ag (Ag (Ag (Ag (Ag (Ag h (p:=⟨N,0,none⟩) a f) (p:=⟨N,1,none⟩) a v1) (p:=⟨N,2,none⟩) a d) (p:=⟨N,3,none⟩) a b) (p:=⟨N,4,none⟩) a g) (p:=⟨N,5,none⟩) a v5) (p:=⟨N,6,none⟩) a c) (p:=⟨N,7,none⟩) a j) (p:=⟨N,8,none⟩) a i)
def Vh(b:Nat)(mv:Value)(ms:List AW)(br:Int)(w:World)(e:Ending)(w':World):Except Int (X2×Nat)->Prop
 | .ok (.inl (pl,so,p,s,ts),nx)=>∃tv base,e=.returned (.tuple #[.agg (Ar ⟨pl,so,⟨p,s,tv⟩,Ay,Ay⟩).toArray,.bool true])/\w.heap.size<=base/\w'.ownsRow base 215 2 tv ts.length (ts.flatMap Ao)/\BU w' b mv ms nx br/\Ac [b] w w'
 | .ok (.inr l,nx)=>e=.returned (.tuple #[.agg (Ar l).toArray,.bool true])/\BU w' b mv ms nx br/\Ac [b] w w'
 | .error p=>∃nx l,(∃ad n cp,l.atom.tv=.slice ad n cp)/\e=.returned (.tuple #[.agg (Ar l).toArray,.bool false])/\BU w' b mv ms nx p/\Ac [b] w w'
theorem Y0(b:Nat)(Q:Value)(ms:List AW)(f:Nat)(U:Int)(w:World)(h:BU w b Q ms f U)(ok:Tv ms):
  Calls prog 172 #[.pointer (some ⟨b,0,none⟩)] w λe w'=>Vh b Q ms U w e w' (GU ms f):=by
 have HO:=Ab ok;have K9:=h.gA.lt;have JA:∀k,Q.ownBlock=some k->k<w.heap.size:=λk hk=>(h.row.lt k hk).2
 have h1:=Ab (h.eb ((Ac.refl [] w).alloc (.cells (Ar BW).toArray 217)));have hN:=Ab (AE.new w (Ar BW) 217);have H6:=Ab ((Ac.refl [b] w).alloc (.cells (Ar BW).toArray 217));have H8:(w.alloc (.cells (Ar BW).toArray 217)).heap.size=w.heap.size+1:=by simp
 clear h ok;go_enter func172,ntmps172;go_wp2_with fail
 change Calls _ _ _ (w.alloc (.cells (Ar BW).toArray 217)) _;generalize w.alloc (.cells (Ar BW).toArray 217)=w1 at h1 hN H6 H8⊢;obtain⟨N,Ix⟩:∃N,w.heap.size=N:=⟨_,rfl⟩;rw[Ix]at hN K9 H8 JA⊢;have g:Hid (∀k,N<=k->Q.ownBlock≠some k):=λk hk e=>by have:=JA k e;omega
 clear JA;have S:=Ab Ix;clear Ix;refine(Hz b Q ms f U _ (Aa h1) (An ms f) (A8 (Aa h1).lt)).mono ?_;rintro e w2 ⟨rfl,k2⟩;have h2:=Ab ((Aa h1).eb k2);have KD:=Ab ((Aa hN).kept k2 (by simp));have K3:=Ab ((Aa H6).trans (k2.mono (by simp)));have K7:N+1<=w2.heap.size:=by have:=k2.size;omega
 clear h1 hN H6 H8 k2;obtain⟨p,hp⟩:∃p,(An ms f).place=p:=⟨_,rfl⟩;have HP:=Ab hp;rw[hp];clear hp;go_wp2_with fail
 change Calls _ _ _ (w2.alloc (.cells (Ar ⟨p,0,AV,Ay,Ay⟩).toArray 217)) _;have h3:=Ab ((Aa h2).eb ((Ac.refl [] w2).alloc (.cells (Ar ⟨p,0,AV,Ay,Ay⟩).toArray 217)));have H3:=Ab ((Aa KD).alloc (.cells (Ar ⟨p,0,AV,Ay,Ay⟩).toArray 217));have HW:=Ab (AE.new w2 (Ar ⟨p,0,AV,Ay,Ay⟩) 217);have H7:=Ab ((Aa K3).alloc (.cells (Ar ⟨p,0,AV,Ay,Ay⟩).toArray 217));clear h2 KD K3;generalize w2.alloc (.cells (Ar ⟨p,0,AV,Ay,Ay⟩).toArray 217)=w3 at h3 H3 HW H7⊢;obtain⟨L,K4⟩:∃L,w2.heap.size=L:=⟨_,rfl⟩;rw[K4]at HW K7⊢;clear K4;refine(F6 b Q ms f U Ve _ (Aa h3) (An ms f) (A8 (Aa h3).lt) ((Aa HO).seen (Aa h3).lt Ve)).mono ?_;rintro e w4 ⟨rfl,V,k4⟩;have HY:=Ab ((Aa H3).kept k4 (by simp;omega));have FA:=Ab ((Aa HW).kept k4 (by simp;omega));have HX:=Ab ((Aa H7).trans k4);clear h3 H3 HW H7 k4;cases hs:BF (An ms f) Ve with
 |true=>
  rw[hs]at V;simp only[if_true]at V;have HS:=Ab hs;have R:=(Aa FA).cell 1;have lf:=(Aa FA).frozen;simp[Ar]at R;have H4:=Ab V;clear V hs;go_wp2_with fail
  have KS:=Aa g;have AH:=Aa S;have Ha:=Ab ((Aa H4).other (p:=⟨L,1,none⟩) (by simp;omega) (KS L (by omega)) (.int .i64 1));have t:=Ab ((Aa HY).dT ⟨L,1,none⟩ (by simp;omega) (.int .i64 1));have o:Hid (AE (w4.setCell ⟨L,1,none⟩ (.int .i64 1)) L (Ar ⟨p,1,AV,Ay,Ay⟩) 217):=(Aa FA).set 1 _;have O:=Ab ((Aa HX).setCell (p:=⟨L,1,none⟩) (by right;simp;omega) (.int .i64 1));clear R lf HY FA HX KS AH H4;generalize w4.setCell ⟨L,1,none⟩ (.int .i64 1)=wa at Ha t o O⊢;have LB:=(Aa t).lt;have LE:=(Aa o).lt;refine(Mp b Q ms (f+1) U _ (Aa Ha) (Aa HO)).mono ?_;intro e w6 n;clear Ha;cases ht:Et ms (f+1)with
  |error q=>
   rw[ht]at n;obtain⟨n9,ap,an,i,X,j,rfl,m,d⟩:=n;(have A:Hid (GU ms f=.error q):=by show _=_;unfold GU;simp[HS.out,ht]);clear ht;have a:=(Aa t).kept d (by simp;omega);have c:=(Aa o).kept d (by simp;omega);have B:=Ab ((Aa O).trans d);have l0:=c.cell 0;have R:=c.cell 1;have l2:=c.cell 2;have Y:=c.cell 3;have Z:=c.cell 4;have l5:=c.cell 5;have l6:=c.cell 6;have l7:=c.cell 7;have l8:=c.cell 8;have lf:=c.frozen;have nf:=a.frozen;have H:=a.cell 0;have C:=a.cell 1;have x:=a.cell 2;have D:=a.cell 3;have G:=a.cell 4;have M:=a.cell 5;have E:=a.cell 6;have J:=a.cell 7;have z:=a.cell 8;simp[Ar,BW,AV,Ay]at l0 H R C l2 x Y D Z G l5 M l6 E l7 J l8 z;(have q1:¬L=N:=by omega);(have q2:¬N=L:=by omega);have I:=Ab a;have K:=Ab m;clear a c m d t o O;simp only[AF];go_wp2;rw[A.out];have F:=((((Aa I).dT ⟨L,2,none⟩ (by simp;omega) (.int .i64 ap)).dT ⟨L,3,none⟩ (by simp;omega) (.string an)).dT ⟨L,4,none⟩ (by simp;omega) (.slice i X j)).eT rfl (.int .i64 p) (.int .i64 1) (.int .i64 ap) (.string an) (.slice i X j) (.int .i32 0) (.string ByteArray.empty) (.int .i32 0) (.string ByteArray.empty);refine cB (AC (P:=prog) (fn:=Tryz.f172) (p:=2) (u:=3) rfl rfl F underlying217 rfl (by kernel_rfl)) rfl ?_;refine⟨n9,⟨p,1,⟨ap,an,.slice i X j⟩,Ay,Ay⟩,⟨_,_,_,rfl⟩,rfl,?_,?_⟩
   .exact((((Aa K).other (p:=⟨L,2,none⟩) (by simp;omega) (Aa g L (by omega)) _).other (p:=⟨L,3,none⟩) (by simp;omega) (Aa g L (by omega)) _).other (p:=⟨L,4,none⟩) (by simp;omega) (Aa g L (by omega)) _).eT (by omega) (Aa g N (by omega)) _ _ _ _ _ _ _ _ _
   .have AH:=Aa S;exact((((Aa B).setCell (p:=⟨L,2,none⟩) (by right;simp;omega) _).setCell (p:=⟨L,3,none⟩) (by right;simp;omega) _).setCell (p:=⟨L,4,none⟩) (by right;simp;omega) _).eT (by right;omega) _ _ _ _ _ _ _ _ _
  |ok r=>
   obtain⟨⟨pp,W,y⟩,n2⟩:=r;rw[ht]at n;obtain⟨tv,HJ,rfl,K8,T,m,d⟩:=n;obtain⟨i,j,rfl⟩:=Aj T;(have A:Hid (GU ms f=.ok (.inl (p,1,pp,W,y),n2)):=by show _=_;unfold GU;simp[HS.out,ht,HP.out]);have CL:Hid (_/\(∀k,k<HJ->(Value.slice i y.length j).ownBlock≠some k)):=⟨T,λk hk e=>by have:=(T.lt k e).1;omega⟩;clear ht T;have a:=(Aa t).kept d (by simp;omega);have c:=(Aa o).kept d (by simp;omega);have B:=Ab ((Aa O).trans d);have l0:=c.cell 0;have R:=c.cell 1;have l2:=c.cell 2;have Y:=c.cell 3;have Z:=c.cell 4;have l5:=c.cell 5;have l6:=c.cell 6;have l7:=c.cell 7;have l8:=c.cell 8;have lf:=c.frozen;have nf:=a.frozen;have H:=a.cell 0;have C:=a.cell 1;have x:=a.cell 2;have D:=a.cell 3;have G:=a.cell 4;have M:=a.cell 5;have E:=a.cell 6;have J:=a.cell 7;have z:=a.cell 8;simp[Ar,BW,AV,Ay]at l0 H R C l2 x Y D Z G l5 M l6 E l7 J l8 z;(have q1:¬L=N:=by omega);(have q2:¬N=L:=by omega);have I:=Ab a;have K:=Ab m;clear a c m d t o O;simp only[AF];go_wp2;rw[A.out];have F:=((((Aa I).dT ⟨L,2,none⟩ (by simp;omega) (.int .i64 pp)).dT ⟨L,3,none⟩ (by simp;omega) (.string W)).dT ⟨L,4,none⟩ (by simp;omega) (.slice i y.length j)).eT rfl (.int .i64 p) (.int .i64 1) (.int .i64 pp) (.string W) (.slice i y.length j) (.int .i32 0) (.string ByteArray.empty) (.int .i32 0) (.string ByteArray.empty);refine cB (AC (P:=prog) (fn:=Tryz.f172) (p:=2) (u:=3) rfl rfl F underlying217 rfl (by kernel_rfl)) rfl ?_;have EX:=CL.out.2 L (by omega);have JJ:=CL.out.2 N (by omega);refine⟨.slice i y.length j,HJ,rfl,by have:=Aa S;omega,?_,?_,?_⟩
   .exact Kh (Ag (Ag (Ag CL.out.1 (p:=⟨L,2,none⟩) EX _) (p:=⟨L,3,none⟩) EX _) (p:=⟨L,4,none⟩) EX _) JJ _ _ _ _ _ _ _ _ _
   .exact((((Aa K).other (p:=⟨L,2,none⟩) (by simp;omega) (Aa g L (by omega)) _).other (p:=⟨L,3,none⟩) (by simp;omega) (Aa g L (by omega)) _).other (p:=⟨L,4,none⟩) (by simp;omega) (Aa g L (by omega)) _).eT (by omega) (Aa g N (by omega)) _ _ _ _ _ _ _ _ _
   .have AH:=Aa S;exact((((Aa B).setCell (p:=⟨L,2,none⟩) (by right;simp;omega) _).setCell (p:=⟨L,3,none⟩) (by right;simp;omega) _).setCell (p:=⟨L,4,none⟩) (by right;simp;omega) _).eT (by right;omega) _ _ _ _ _ _ _ _ _
 |false=>
  rw[hs]at V;simp only[bN,if_false]at V;have HS:=Ab hs;have H4:=Ab V;clear V hs;go_wp2_with fail
  refine(Q5 b Q ms f U _ (Aa H4) (Aa HO)).mono ?_;rintro e w5 ⟨rfl,k5⟩;have H5:=Ab ((Aa H4).eb k5);have FF:=Ab ((Aa HY).kept k5 (by simp));have H0:=Ab ((Aa FA).kept k5 (by simp));have FL:=Ab ((Aa HX).trans (k5.mono (by simp)));clear H4 HY FA HX k5;cases ha:D6 ms f with
  |true=>
   have HA:=Ab ha;clear ha;(go_wp2_with fail);have Ha:=H5;have t:=FF;have o:=H0;have O:=FL;clear H5 FF H0 FL;have LB:=(Aa t).lt;have LE:=(Aa o).lt;refine(Mp b Q ms f U _ (Aa Ha) (Aa HO)).mono ?_;intro e w6 n;clear Ha;cases ht:Et ms f with
   |error q=>
    rw[ht]at n;obtain⟨n9,ap,an,i,X,j,rfl,m,d⟩:=n;(have A:Hid (GU ms f=.error q):=by show _=_;unfold GU;simp[HS.out,HA.out,ht]);clear ht;have a:=(Aa t).kept d (by simp;omega);have c:=(Aa o).kept d (by simp;omega);have B:=Ab ((Aa O).trans d);have l0:=c.cell 0;have R:=c.cell 1;have l2:=c.cell 2;have Y:=c.cell 3;have Z:=c.cell 4;have l5:=c.cell 5;have l6:=c.cell 6;have l7:=c.cell 7;have l8:=c.cell 8;have lf:=c.frozen;have nf:=a.frozen;have H:=a.cell 0;have C:=a.cell 1;have x:=a.cell 2;have D:=a.cell 3;have G:=a.cell 4;have M:=a.cell 5;have E:=a.cell 6;have J:=a.cell 7;have z:=a.cell 8;simp[Ar,BW,AV,Ay]at l0 H R C l2 x Y D Z G l5 M l6 E l7 J l8 z;(have q1:¬L=N:=by omega);(have q2:¬N=L:=by omega);have I:=Ab a;have K:=Ab m;clear a c m d t o O;simp only[AF];go_wp2;rw[A.out];have F:=((((Aa I).dT ⟨L,2,none⟩ (by simp;omega) (.int .i64 ap)).dT ⟨L,3,none⟩ (by simp;omega) (.string an)).dT ⟨L,4,none⟩ (by simp;omega) (.slice i X j)).eT rfl (.int .i64 p) (.int .i64 0) (.int .i64 ap) (.string an) (.slice i X j) (.int .i32 0) (.string ByteArray.empty) (.int .i32 0) (.string ByteArray.empty);refine cB (AC (P:=prog) (fn:=Tryz.f172) (p:=2) (u:=3) rfl rfl F underlying217 rfl (by kernel_rfl)) rfl ?_;refine⟨n9,⟨p,0,⟨ap,an,.slice i X j⟩,Ay,Ay⟩,⟨_,_,_,rfl⟩,rfl,?_,?_⟩
    .exact((((Aa K).other (p:=⟨L,2,none⟩) (by simp;omega) (Aa g L (by omega)) _).other (p:=⟨L,3,none⟩) (by simp;omega) (Aa g L (by omega)) _).other (p:=⟨L,4,none⟩) (by simp;omega) (Aa g L (by omega)) _).eT (by omega) (Aa g N (by omega)) _ _ _ _ _ _ _ _ _
    .have AH:=Aa S;exact((((Aa B).setCell (p:=⟨L,2,none⟩) (by right;simp;omega) _).setCell (p:=⟨L,3,none⟩) (by right;simp;omega) _).setCell (p:=⟨L,4,none⟩) (by right;simp;omega) _).eT (by right;omega) _ _ _ _ _ _ _ _ _
   |ok r=>
    obtain⟨⟨pp,W,y⟩,n2⟩:=r;rw[ht]at n;obtain⟨tv,HJ,rfl,K8,T,m,d⟩:=n;obtain⟨i,j,rfl⟩:=Aj T;(have A:Hid (GU ms f=.ok (.inl (p,0,pp,W,y),n2)):=by show _=_;unfold GU;simp[HS.out,HA.out,ht,HP.out]);have CL:Hid (_/\(∀k,k<HJ->(Value.slice i y.length j).ownBlock≠some k)):=⟨T,λk hk e=>by have:=(T.lt k e).1;omega⟩;clear ht T;have a:=(Aa t).kept d (by simp;omega);have c:=(Aa o).kept d (by simp;omega);have B:=Ab ((Aa O).trans d);have l0:=c.cell 0;have R:=c.cell 1;have l2:=c.cell 2;have Y:=c.cell 3;have Z:=c.cell 4;have l5:=c.cell 5;have l6:=c.cell 6;have l7:=c.cell 7;have l8:=c.cell 8;have lf:=c.frozen;have nf:=a.frozen;have H:=a.cell 0;have C:=a.cell 1;have x:=a.cell 2;have D:=a.cell 3;have G:=a.cell 4;have M:=a.cell 5;have E:=a.cell 6;have J:=a.cell 7;have z:=a.cell 8;simp[Ar,BW,AV,Ay]at l0 H R C l2 x Y D Z G l5 M l6 E l7 J l8 z;(have q1:¬L=N:=by omega);(have q2:¬N=L:=by omega);have I:=Ab a;have K:=Ab m;clear a c m d t o O;simp only[AF];go_wp2;rw[A.out];have F:=((((Aa I).dT ⟨L,2,none⟩ (by simp;omega) (.int .i64 pp)).dT ⟨L,3,none⟩ (by simp;omega) (.string W)).dT ⟨L,4,none⟩ (by simp;omega) (.slice i y.length j)).eT rfl (.int .i64 p) (.int .i64 0) (.int .i64 pp) (.string W) (.slice i y.length j) (.int .i32 0) (.string ByteArray.empty) (.int .i32 0) (.string ByteArray.empty);refine cB (AC (P:=prog) (fn:=Tryz.f172) (p:=2) (u:=3) rfl rfl F underlying217 rfl (by kernel_rfl)) rfl ?_;have EX:=CL.out.2 L (by omega);have JJ:=CL.out.2 N (by omega);refine⟨.slice i y.length j,HJ,rfl,by have:=Aa S;omega,?_,?_,?_⟩
    .exact Kh (Ag (Ag (Ag CL.out.1 (p:=⟨L,2,none⟩) EX _) (p:=⟨L,3,none⟩) EX _) (p:=⟨L,4,none⟩) EX _) JJ _ _ _ _ _ _ _ _ _
    .exact((((Aa K).other (p:=⟨L,2,none⟩) (by simp;omega) (Aa g L (by omega)) _).other (p:=⟨L,3,none⟩) (by simp;omega) (Aa g L (by omega)) _).other (p:=⟨L,4,none⟩) (by simp;omega) (Aa g L (by omega)) _).eT (by omega) (Aa g N (by omega)) _ _ _ _ _ _ _ _ _
    .have AH:=Aa S;exact((((Aa B).setCell (p:=⟨L,2,none⟩) (by right;simp;omega) _).setCell (p:=⟨L,3,none⟩) (by right;simp;omega) _).setCell (p:=⟨L,4,none⟩) (by right;simp;omega) _).eT (by right;omega) _ _ _ _ _ _ _ _ _
  |false=>
   have HA:=Ab ha;clear ha;(go_wp2_with fail);refine(ZX b Q ms f U _ (Aa H5) (Aa HO)).mono ?_;intro e w6 n;clear H5;cases ht:GR ms f with
   |error q=>
    rw[ht]at n;obtain⟨n9,l,HT,rfl,m,d⟩:=n;obtain⟨lp,ls,la,ll,lr⟩:=l;simp only at HT;subst HT;(have A:Hid (GU ms f=.error q):=by show _=_;unfold GU;simp[HS.out,HA.out,ht]);clear ht;have a:=(Aa FF).kept d (by simp;omega);have B:=Ab ((Aa FL).trans d);have nf:=a.frozen;have H:=a.cell 0;have C:=a.cell 1;have x:=a.cell 2;have D:=a.cell 3;have G:=a.cell 4;have M:=a.cell 5;have E:=a.cell 6;have J:=a.cell 7;have z:=a.cell 8;simp[Ar,BW,AV,Ay]at H C x D G M E J z;have I:=Ab a;have K:=Ab m;clear a m d FF H0 FL;simp only[Ar,AV];go_wp2;rw[A.out];have F:=(Aa I).eT rfl (.int .i64 lp) (.int .i64 ls) (.int .i64 0) (.string ByteArray.empty) (.slice none 0 0) (.int .i32 ll.v) (.string ll.s) (.int .i32 lr.v) (.string lr.s);refine cB (AC (P:=prog) (fn:=Tryz.f172) (p:=2) (u:=3) rfl rfl F underlying217 rfl (by kernel_rfl)) rfl ?_;refine⟨n9,⟨lp,ls,AV,ll,lr⟩,⟨_,_,_,rfl⟩,rfl,?_,?_⟩
    .exact(Aa K).eT (by omega) (Aa g N (by omega)) _ _ _ _ _ _ _ _ _
    .have AH:=Aa S;exact(Aa B).eT (by right;omega) _ _ _ _ _ _ _ _ _
   |ok r=>
    obtain⟨l,n2⟩:=r;rw[ht]at n;have HT:=QE ht;obtain⟨lp,ls,la,ll,lr⟩:=l;simp only at HT;subst HT;obtain⟨rfl,m,d⟩:=n;(have A:Hid (GU ms f=.ok (.inr ⟨lp,ls,AV,ll,lr⟩,n2)):=by show _=_;unfold GU;simp[HS.out,HA.out,ht]);clear ht;have a:=(Aa FF).kept d (by simp;omega);have B:=Ab ((Aa FL).trans d);have nf:=a.frozen;have H:=a.cell 0;have C:=a.cell 1;have x:=a.cell 2;have D:=a.cell 3;have G:=a.cell 4;have M:=a.cell 5;have E:=a.cell 6;have J:=a.cell 7;have z:=a.cell 8;simp[Ar,BW,AV,Ay]at H C x D G M E J z;have I:=Ab a;have K:=Ab m;clear a m d FF H0 FL;simp only[Ar,AV];go_wp2;rw[A.out];have F:=(Aa I).eT rfl (.int .i64 lp) (.int .i64 ls) (.int .i64 0) (.string ByteArray.empty) (.slice none 0 0) (.int .i32 ll.v) (.string ll.s) (.int .i32 lr.v) (.string lr.s);refine cB (AC (P:=prog) (fn:=Tryz.f172) (p:=2) (u:=3) rfl rfl F underlying217 rfl (by kernel_rfl)) rfl ?_;refine⟨rfl,?_,?_⟩
    .exact(Aa K).eT (by omega) (Aa g N (by omega)) _ _ _ _ _ _ _ _ _
    .have AH:=Aa S;exact(Aa B).eT (by right;omega) _ _ _ _ _ _ _ _ _
end Go.Proofs.YtoihbhenbmffcaaGreatDoor
namespace Go.Proofs.YtoihbhenbmffcaaGreatDoor
open Go.RowKit Go.Proofs.Tryz
section
variable {P:Program} {ops:Array Oper} {Q:Exit->Act->World->Prop} {md:Region.Mode} {S:World->Prop} {k:Nat}
def Ce(P:Program)(md:Region.Mode)(ops:Array Oper)(Q:Exit->Act->World->Prop)(S:World->Prop)(k:Nat):Nat->Array Bool->Act->World->Prop
 |0,listed,a,w=>Region.ready md ops listed=[]/\Q .normal a w
 |fuel+1,listed,a,w=>(Region.ready md ops listed=[]->Q .normal a w)/\
  ∀i∈Region.ready md ops listed,wpOp P ops Q i (λa' w'=>(i≠k->S w')/\Ce P md ops Q S k fuel (listed.setIfInBounds i true) a' w') a w
theorem Ce.any:∀(b:Nat) (c:Array Bool) (a:Act) (w:World),Ce P md ops Q S k b c a w->wpAny P md ops Q b c a w
 |0,_,_,_,h=>h
 |b+1,_,_,_,h=>⟨h.1,λi g=>wpOp_mono (λf e d=>Ce.any b _ f e d.2) (h.2 i g)⟩
def PQ(md:Region.Mode)(ops:Array Oper)(k i:Nat):Bool:=match ops[k]? with|some o=>o.after.any λe=>Region.binds md e&&e.on==i|none=>false
theorem QD{i:Nat}{b:Array Bool}(h:PQ md ops k i=true)(f:b.getD i true=false):k∉Region.ready md ops b:=λg=>by
 obtain⟨_,o,l,j⟩:=mem_ready.1 g;unfold PQ at h;rw[l]at h;obtain⟨e,m,d⟩:=Array.any_eq_true'.1 h;simp only[cq,dE]at d;have a:=j e m d.1;rw[d.2]at a;rcases Nat.lt_or_ge i b.size with c|c
 .simp[c]at f a;rw[f]at a;cases a
 .simp[eL c]at a
theorem Ce.first{i:Nat}{n:Oper}{v:Value}(B:ops[i]?=some n)(G:∀(j:Nat) (o:Oper) p b,ops[j]?=some o->o.op≠ .select p b)
  (N:∀c a w,Q (.panic c) (a.put n.dst v) w->Q (.panic c) a w) (O:PQ md ops k i=true):
  ∀(r:Nat) (f:Array Bool) (a:Act) (w:World),
   (∀j m,ops[j]?=some m->j≠i->f.getD j true=false->(∀e∈m.after,Region.binds md e=true->e.on≠i)->n.apart ops m=true)->
   i∈Region.ready md ops f->YieldsIf P ops S n v a->S w->
   Ce P md ops Q S k r (f.setIfInBounds i true) (a.put n.dst v) w->Ce P md ops Q S k (r+1) f a w:=by
 intro r
 induction r with
 |zero=>
  intro f a w _ l u t H;refine⟨λh=>(by rw[h]at l;cases l),λj s=>?_⟩;by_cases d:j=i
  .subst d;exact u.wpOp B t ⟨λ_=>t,H⟩
  .have:=fC s d;rw[H.1]at this;cases this
 |succ r ih=>
  intro f a w E l u t H;have A:=(mem_ready.1 l).1;refine⟨λh=>(by rw[h]at l;cases l),λj s=>?_⟩;by_cases d:j=i
  .subst d;exact u.wpOp B t ⟨λ_=>t,H⟩
  ·(have D:j≠k:=λe=>QD O A (e▸s));have V:=H.2 j (fC s d);obtain⟨C,m,y,X⟩:=mem_ready.1 s;have T:∀e∈m.after,Region.binds md e=true->e.on≠i:=λe Y L M=>by
    have g:=X e Y L;rw[M]at g;rcases Nat.lt_or_ge i f.size with z|z
    .simp[z]at A g;rw[A]at g;cases g
    .simp[eL z]at g
   have g:=wpOp_putIf y (E j m y d C T) (λp b=>G i n p b B) (λp b=>G j m p b y) N u V;refine wpOp_mono (λU K x=>⟨λ_=>x.2.1 D,ih (f.setIfInBounds j true) U K (λq Z R W I J=>E q Z R W ?_ J) (fC l (Ne.symm d)) x.1 (x.2.1 D) ?_⟩) g
   .by_cases F:j=q
    .subst F;exact C
    .rw[getD_set_ne true F]at I;exact I
   .rw[fD _ _ d];exact x.2.2
theorem Ce.take{i:Nat}{d:Oper}{v:Value}{fuel:Nat}{b:Array Bool}{a:Act}{w:World}(e:ops[i]?=some d)
  (n:Region.noSelect ops=true) (f:Region.free md ops b i=true) (m:(Region.ready md ops b).contains i=true) (g:PQ md ops k i=true)
  (o:∀c a w,Q (.panic c) (a.put d.dst v) w->Q (.panic c) a w) (l:S w) (j:YieldsIf P ops S d v a)
  (h:Ce P md ops Q S k fuel (b.setIfInBounds i true) (a.put d.dst v) w):Ce P md ops Q S k (fuel+1) b a w:=
 Ce.first e (Region.noSelect_spec n) o g fuel b a w (Region.free_spec e f) (by simpa using m) j l h
def bC(md:Region.Mode)(ops:Array Oper)(listed:Array Bool)(i:Nat)(b:Bool):Bool:=Region.noSelect ops&&Region.free md ops listed i&&(Region.ready md ops listed).contains i&&b
theorem Ce.tk{i:Nat}{d:Oper}{v:Value}{fuel:Nat}{e:Array Bool}{a:Act}{w:World}(m:ops[i]?=some d)(b:bC md ops e i (PQ md ops k i)=true)
  (l:∀c a w,Q (.panic c) (a.put d.dst v) w->Q (.panic c) a w) (j:Hid (S w)) (f:Region.wanted d (yielded ops a.tmps)=true) (g:∀w,S w->(execOp a.eval d).run P w=.ok (.value v) w)
  (h:Ce P md ops Q S k fuel (e.setIfInBounds i true) (a.put d.dst v) w):Ce P md ops Q S k (fuel+1) e a w:=by
 unfold bC at b;simp only[cq]at b;exact Ce.take m b.1.1.1 b.1.1.2 b.1.2 b.2 l (Aa j) (Or.inl ⟨f,g⟩) h
theorem Bl{Q:Exit->Act->World->Prop}(h:Hid (∀c a w,¬Q (.panic c) a w)){d:Option Tmp}{v:Value}:∀c a w,Q (.panic c) (Act.put a d v) w->Q (.panic c) a w:=λ_ _ _ b=>absurd b (Aa h _ _ _)
theorem Ce.one{i:Nat}{o:Oper}{fuel:Nat}{e:Array Bool}{a:Act}{w:World}(l:Region.ready md ops e=[i])(n:ops[i]?=some o)
  (h:∀K:Act->World->Prop,Hid (∀g c,(i≠k->S c)->Ce P md ops Q S k fuel (e.setIfInBounds i true) g c->K g c)->
   if Region.wanted o (yielded ops a.tmps)=true then o.wp P a w K Q else K (a.put o.dst undef) w):Ce P md ops Q S k (fuel+1) e a w:=by
 refine⟨λm=>(by rw[l]at m;cases m),λj f=>?_⟩;rw[l]at f;simp only[bO]at f;subst f;have b:=h _ (λg c p b=>And.intro p b);unfold wpOp;simp only[n];split
 .rename_i d;rw[if_pos d]at b;exact .inl b
 .rename_i d;rw[if_neg d]at b;exact b
theorem Ce.done{b:Array Bool}{a:Act}{w:World}(c:Region.ready md ops b=[])(h:Q .normal a w):∀d,Ce P md ops Q S k d b a w
 |0=>⟨c,h⟩
 |_+1=>⟨λ_=>h,by rw[c];simp⟩
theorem Cp{b:Nat}{a:Act}{w:World}(k:Nat)(S:World->Prop)(c:P.follows .mixedOrders=true)
  (h:Ce P .any ops Q S k ops.size (Array.replicate ops.size false) a w.drew):(Code.region b ops true).wp P Q a w:=
 wp_region_any c (Ce.any _ _ _ _ h)
end
end Go.Proofs.YtoihbhenbmffcaaGreatDoor
namespace Go.Proofs.YtoihbhenbmffcaaGreatDoor
open Go.RowKit Go.Proofs.Tryz
set_option maxRecDepth 100000
theorem WM(E:List Value)(j:Nat)(x:cR)(w:World)(c:E.length=26)(p:j<26)(q:(Value.agg E.toArray).cells=E.toArray)(g:∀v∈E,v.oneCell'=true):
  Calls prog 179 #[.agg E.toArray,.int .i32 ((j:Int)+65),.string x] w λr k=>r=.returned (.agg (E.set j (.string x)).toArray)/\Ac [] w k:=by
 have m:IntKind.i32.wrap (j:Int)=j:=by rw[IntKind.wrap_i32];omega
 have s:IntKind.i32.wrap ((j:Int)+65-65)=j:=by rw[show(j:Int)+65-65=j by omega];exact m
 have n:(0:Int)<=(j:Int):=by omega
 have o:(j:Int)<26:=by omega
 have i:Hid (∀v∈E.set j (.string x),v.oneCell'=true):=by
  intro v l;rcases List.mem_or_eq_of_mem_set l with h|rfl
  .exact g v h
  .rfl
 have a:Hid ((E.set j (.string x)).length=26):=by show _=_;simp[c]
 have d:Hid ((E.set j (.string x)).toArray.size=26):=by show _=_;simp[c]
 go_enter func179,ntmps179;go_wp2_with (first|(refine dU rfl 243 _ rfl w.heap.size 0 (by rfl) (E.set j (.string x)) _ ?_ underlying243 rfl ?_ ?_)|(refine dP rfl 243 _ _ rfl (w.heap.size+1) 0 (E.set j (.string x)).toArray (by rfl) (by rfl) ?_ ?_ ?_ ?_))
 .exact((AE.new w (E.set j (.string x)) 243).alloc _).range
 .rw[Aa a];exact Tryz.ea
 .have h:=(AE.new (w.alloc (.cells (E.set j (.string x)).toArray 243)) (List.replicate 26 (.string ⟨#[]⟩)) 243).there;simp only[dD,cD]at h;rw[Aa d];exact h
 .rw[Aa d];exact Tryz.ea
 .exact dq (Aa i)
 .have e:=(AE.new (w.alloc (.cells (E.set j (.string x)).toArray 243)) (List.replicate 26 (.string ⟨#[]⟩)) 243).gH (E.set j (.string x)) (by rw[Aa a];simp);have f:=((((Ac.refl [] w).alloc (.cells (E.set j (.string x)).toArray 243)).alloc (.cells (List.replicate 26 (.string ⟨#[]⟩)).toArray 243)).ek (b:=w.heap.size+1) (Or.inr (by omega)) (E.set j (.string x)) 0);simp only[cD]at e;refine cB (BL (b:=w.heap.size+1) rfl (by rfl) e underlying243 rfl (by rw[Aa a];exact Tryz.ea)) rfl ⟨rfl,f⟩
