import Derived.Test.YtoihbhenbmffcaaGreatDoorYAN
import Derived.Test.YtoihbhenbmffcaaGreatDoorYAD
set_option linter.all false
set_option maxHeartbeats 0
namespace Go.Proofs.YtoihbhenbmffcaaGreatDoor
open Go.RowKit Go.Proofs.Tryz
structure Fa(w:World)(sv:Value)(fs:List CF):Prop where
 row:w.ownsRow 0 43 2 sv fs.length (fs.flatMap B7)
 each:∀p∈fs,Hv w p/\TN p.f
theorem Fa.kept{w w':World}{c:Value}{b:List CF}(h:Fa w c b)(k:Ac [] w w'):Fa w' c b:=⟨Ad h.row k (by simp),λp a=>⟨(h.each p a).1.kept k,(h.each p a).2⟩⟩
theorem Ey{w:World}{r:Value}{b:List CF}(h:Fa w r b)(k:Nat)(d:k<b.length):
  ∃g m n a i f,r=.slice (some ⟨g,0,none⟩) b.length m/\b[k]=⟨⟨n,a⟩,.slice i a.length f⟩/\w.cell? ⟨g,k*2,none⟩=some (.string n)/\w.cell? ⟨g,k*2+1,none⟩=some (.slice i a.length f):=by
 obtain⟨g,m,t,_,s⟩:=Av h.row (λc _=>rfl) k d;have j:=s k d 0 (by omega);have l:=s k d 1 (by omega);obtain⟨⟨⟨n,a⟩,u⟩,o⟩:∃p,b[k]=p:=⟨_,rfl⟩;have q:=(h.each _ (bL d)).1;rw[o]at j l q;obtain⟨i,f,e⟩:=Aj q;simp only at e;subst e;simp[B7]at j l;exact⟨g,m,n,a,i,f,t,o,j,l⟩
set_option maxRecDepth 100000
theorem OV(G:Option Addr)(L:Nat)(a:List CF)(x:CF)(w:World)(h:Fa w (.slice G a.length L) a)(z:Hv w x)(AH:a.length<=1000000)(D:TN x.f):
  Calls prog 21 #[.slice G a.length L,.agg (B7 x).toArray] w λe t=>e=.returned (.bool (a.any λp=>Gn p.f x.f))/\Ac [] w t:=by
 have P:Hid (∀(p:CF) wr,p∈a->Ac [] w wr->Calls prog 49 #[.agg (B7 p).toArray,.agg (B7 x).toArray] wr λe t=>e=.returned (.bool (Gn p.f x.f))/\Ac [] wr t):=λp wr I u=>Xm p x wr ((h.each p I).1.kept u) (z.kept u) (by have:=(h.each p I).2.len;omega) (by have:=D.len;omega)
 have V:=Ab h;obtain⟨⟨c,b⟩,Z⟩:=x;obtain⟨m,l,J⟩:=Aj z;simp only at J;subst J;obtain⟨R,A⟩:∃R,(a.any λp=>Gn p.f ⟨c,b⟩)=R:=⟨_,rfl⟩;rw[show(a.any λp=>Gn p.f (⟨⟨c,b⟩,.slice m b.length l⟩:CF).f)=R from A]
 have M:=Ab A;have d:=Ab (AE.new w [.string c,.slice m b.length l] 43);have j:=Ab ((Ac.refl [] w).alloc (.cells [.string c,.slice m b.length l].toArray 43));clear h z D A;simp only[B7]at P⊢;go_enter func21,ntmps21;go_wp2;change Code.wp _ _ _ _ (w.alloc (.cells [.string c,.slice m b.length l].toArray 43));generalize w.alloc (.cells [.string c,.slice m b.length l].toArray 43)=w1 at d j⊢;generalize w.heap.size=N at d⊢
 go_loopg [5,6] a.length (λgk i q wr=>∃(k:Nat),i=.int .i64 k/\k<=a.length/\gk=a.length-k/\Hid ((a.take k).any (λp=>Gn p.f ⟨c,b⟩)=false)/\Hid (Ac [] w wr)/\Hid (AE wr N [.string c,.slice m b.length l] 43))
 case atStart=>exact⟨0,rfl,by omega,rfl,by show _=_;simp,j,d⟩
 case round=>
  clear d j;obtain⟨k,rfl,u,F,H,j,d⟩:=hrel;have S:=Ab F;clear F;by_cases r:k<a.length
  .obtain⟨g,AB,n,B,ad,cp,O,s,d0,d1⟩:=Ey ((Aa V).kept (Aa j)) k r;simp only[bK]at O;obtain⟨rfl,_,rfl⟩:=O;have X:=(Aa d).cell 0;have T:=(Aa d).cell 1;simp at X T;have o:=Ab (Aa P a[k] wr.drew (bL r) (Aa j).drew);have K:Hid (Gn ⟨n,B⟩ ⟨c,b⟩=true->R=true):=by
    intro y;rw[<-Aa M];exact IR _ _ k r (by rw[s];exact y)
   have E:Hid (Gn ⟨n,B⟩ ⟨c,b⟩=false->(a.take (k+1)).any (λp=>Gn p.f ⟨c,b⟩)=false):=by
    intro y;rw[Ct _ _ k r (Aa H),s];exact y
   rw[s]at o;simp only at o;generalize Gn ⟨n,B⟩ ⟨c,b⟩=SB at o K E;clear s;go_wp2_with fail
   go_region_law (go_simp;go_at_call 49;refine(Aa o).mono ?_;rintro e Y ⟨rfl,v⟩;have Q:=Ab ((Aa j).drew.trans v);have U:=Ab ((Aa d).drew.kept v (by simp));clear v)
   all_goals
    clear o;cases SB with
    |true=>
     have C:=Ab (Aa K rfl);go_wp2;go_ret;rw[Aa C];exact⟨rfl,Aa Q⟩
    |false=>
     have C:=Ab (Aa E rfl);go_wp2
     go_roundg (a.length-(k+1))
     case measure=>have:=Aa S;omega
     case rel=>exact⟨k+1,by go_num,by omega,rfl,C,Q,U⟩
  .have W:Hid (R=false):=by
    have h:=Aa H;rw[bP (by omega)]at h;show _=_;rw[<-Aa M];exact h
   go_wp2;go_ret;rw[W.out];exact⟨rfl,Aa j⟩
theorem Tryz.info43:(Tryz.prog.info? 43).map (λi=>(i.zero,i.size,i.bytes))=some (some (.agg #[.string ⟨#[]⟩,.slice none 0 0]),2,40):=by kernel_rfl
def FU(x:CF)(a:List CF×Bool)(y:CF):List CF×Bool:=if !a.2&&Db x.f y.f then(a.1++[x]++[y],true)else(a.1++[y],a.2)
def IQ(l:List CF)(x:CF):List CF×Bool:=l.foldl (FU x) ([],false)
def Nr(l:List CF)(x:CF):List CF:=if(IQ l x).2 then(IQ l x).1 else(IQ l x).1++[x]
def TJ(l:List CF)(x:Ah):Bool:=l.any λp=>Gn p.f x
def GW(l:List CF)(x:CF):List CF:=if TJ l x.f then l else Nr l x
theorem Uc{l:List CF}{k:Nat}(a:k<l.length)(x:CF):IQ (l.take (k+1)) x=FU x (IQ (l.take k) x) l[k]:=by
 unfold IQ;rw[bM a,cY];rfl
theorem Qr(x p:CF):∀(l:List CF) (a:List CF×Bool),p∈(l.foldl (FU x) a).1->p=x\/p∈a.1\/p∈l
 |[],a,h=>Or.inr (Or.inl h)
 |y::l,a,h=>by
  rcases Qr x p l (FU x a y) h with h|h|h
  .exact Or.inl h
  .unfold FU at h;split at h
   .simp only[bY,bO]at h;rcases h with(h|h)|h
    .exact Or.inr (Or.inl h)
    .exact Or.inl h
    .exact Or.inr (Or.inr (by simp[h]))
   .simp only[bY,bO]at h;rcases h with h|h
    .exact Or.inr (Or.inl h)
    .exact Or.inr (Or.inr (by simp[h]))
  .exact Or.inr (Or.inr (by simp[h]))
theorem YW{l:List CF}{x p:CF}(h:p∈Nr l x):p=x\/p∈l:=by
 unfold Nr at h;have a:∀p,p∈(IQ l x).1->p=x\/p∈l:=λp b=>by
  rcases Qr x p l ([],false) b with h|h|h
  .exact Or.inl h
  .simp at h
  .exact Or.inr h
 split at h
 .exact a p h
 .rcases bY.1 h with h|h
  .exact a p h
  .exact Or.inl (by simpa using h)
theorem S5{w:World}{p:CF}(h:Hv w p):∀u∈B7 p,u.oneCell'=true:=by
 obtain⟨c,b,e⟩:=Aj h;intro u a;simp only[B7,bS,di,or_false]at a;rcases a with rfl|rfl
 .rfl
 .rw[e];rfl
theorem P2(EX:Option Addr)(B9:Nat)(a:List CF)(x:CF)(w:World)(h:Fa w (.slice EX a.length B9) a)(O:Hv w x)(M3:a.length<=100000)(FC:TN x.f):
  Calls prog 57 #[.slice EX a.length B9,.agg (B7 x).toArray] w λe T=>∃c j,e=.returned (.slice c (GW a x).length j)/\Fa T (.slice c (GW a x).length j) (GW a x)/\Ac [] w T:=by
 obtain⟨i0,EK,Ax,ES,BT⟩:=cU Tryz.info43;have H4:Hid (∀wr,Ac [] w wr->Calls prog 21 #[.slice EX a.length B9,.agg (B7 x).toArray] wr λe T=>e=.returned (.bool (TJ a x.f))/\Ac [] wr T):=λwr E=>OV EX B9 a x wr (h.kept E) (O.kept E) (by omega) FC
 have K3:Hid (∀(p:CF) wr,p∈a->Ac [] w wr->Calls prog 46 #[.agg (B7 x).toArray,.agg (B7 p).toArray] wr λe T=>e=.returned (.bool (Db x.f p.f))/\Ac [] wr T):=λp wr H E=>Wn x p wr (O.kept E) ((h.each p H).1.kept E) FC (h.each p H).2
 have HS:=Ab h;have K5:Hid (∀(wr:World) c j,Ac [] w wr->wr.ownsRow 0 43 2 (.slice c (Nr a x).length j) (Nr a x).length ((Nr a x).flatMap B7)->Fa wr (.slice c (Nr a x).length j) (Nr a x)):=by
  intro wr c j E hr;refine⟨hr,λp H=>?_⟩;rcases YW H with rfl|H
  .exact⟨O.kept E,FC⟩
  .exact⟨(h.each p H).1.kept E,(h.each p H).2⟩
 have HM:=Ab (S5 O);have LM:Hid (∀p∈a,∀u∈B7 p,u.oneCell'=true):=λp H=>S5 (h.each p H).1
 obtain⟨z,A,KD⟩:=Aj O;obtain⟨D,OH,Z⟩:∃n v,B7 x=[.string n,v]/\v=.slice z x.f.args.length A:=⟨_,_,rfl,KD⟩;obtain⟨Z,rfl⟩:=Z;rw[Z]at H4 K3 HM⊢;have K6:=Ab Z;generalize x.f.args.length=xl at*;clear h O FC KD Z;have r:=Ab (AE.new w [.string D,.slice z xl A] 43);have l:=Ab ((Ac.refl [] w).alloc (.cells [.string D,.slice z xl A].toArray 43));have N2:∀(x:Bool) (w:World),(Op.unary .not (.bool x)).run prog w=.ok (.bool (!x)) w:=λ_ _=>rfl
 obtain⟨FW,H3⟩:∃FW,GW a x=FW:=⟨_,rfl⟩;rw[H3];have EY:Hid ((if TJ a x.f then a else Nr a x)=FW):=H3;clear H3;go_enter func57,ntmps57;go_wp2_with fail
 refine(Aa H4 _ (Aa l)).mono ?_;rintro e w2 ⟨rfl,k2⟩;have HI:=Ab ((Aa r).kept k2 (by simp));have Go:=Ab ((Aa l).trans k2);clear H4 r l k2;generalize TJ a x.f=HB at EY;cases HB with
 |true=>
  have HE:Hid (a=FW):=Aa EY;go_wp2;go_ret;rw[<-Aa HE];exact⟨EX,B9,rfl,(Aa HS).kept (Aa Go),Aa Go⟩
 |false=>
  have HE:Hid (Nr a x=FW):=Aa EY;clear EY;go_wp2;obtain⟨N,HZ⟩:∃N,w.heap.size=N:=⟨_,rfl⟩;rw[HZ]at HI⊢;have CL:=Ab HZ;clear HZ
  go_loopg [6,7,8] a.length (λgk o d i wr=>∃(k:Nat) (b:List CF) (s:Bool) (C:Option Addr) (B:Nat),o=.slice C b.length B/\d=.bool s/\i=.int .i64 k/\k<=a.length/\gk=a.length-k/\b.length<=k+s.toNat/\Hid (IQ (a.take k) x=(b,s))/\wr.ownsRow (N+1) 43 2 (.slice C b.length B) b.length (b.flatMap B7)/\Hid (Ac [] w wr)/\Hid (AE wr N [.string D,.slice z xl A] 43))
  case atStart=>exact⟨0,[],false,none,0,rfl,rfl,rfl,by omega,rfl,by simp,by show _=_;simp[IQ],ck _ _ _ _,Go,HI⟩
  case round=>
   clear HI Go;obtain⟨k,b,s,C,B,rfl,rfl,rfl,E,K2,H7,HF,I,l,r⟩:=hrel;have HG:=Ab K2;clear K2;have N4:=(Aa r).lt;(have NX:s.toNat<=1:=by cases s<;>simp);have HC:Hid (b.length<=k+s.toNat):=H7;(have NY:b.length<=100001:=by omega);clear H7;by_cases Y:k<a.length
   .obtain⟨g,Pl,n,F,c,j,he,HV,d0,d1⟩:=Ey ((Aa HS).kept (Aa l)) k Y;simp only[bK]at he;obtain⟨rfl,_,rfl⟩:=he;have c0:=(Aa r).cell 0;have c1:=(Aa r).cell 1;simp at c0 c1;(have L:Hid (IQ (a.take (k+1)) x=FU x (b,s) a[k]):=by show _=_;rw[Uc Y,Aa HF]);have AH:=Ab (Aa K3 a[k] wr.drew (bL Y) (Aa l).drew);have FA:=Ab (Aa LM a[k] (bL Y));obtain⟨AB,H0⟩:∃AB,Db x.f a[k].f=AB:=⟨_,rfl⟩;have M:=Ab H0;rw[H0]at AH;(have W:Hid (B7 a[k]=[.string n,.slice c F.length j]):=by show _=_;rw[HV];rfl);rw[Aa W]at AH FA;have H1:Hid (∀wz:World,Ac [] w wz->wz.cell? ⟨g,k*2,none⟩=some (.string n)/\wz.cell? ⟨g,k*2+1,none⟩=some (.slice c F.length j)):=by
     intro wz MN;obtain⟨g',NL,n',NS,PT,Os,H6,K9,f0,f1⟩:=Ey ((Aa HS).kept MN) k Y;have e2:=K9.symm.trans HV;simp only[bK,bR,cI,CF.mk.injEq,Ah.mk.injEq]at H6 e2;obtain⟨⟨rfl,_,_⟩,_,_⟩:=H6;obtain⟨⟨rfl,rfl⟩,rfl,_,rfl⟩:=e2;exact⟨f0,f1⟩
    obtain⟨y,hy⟩:∃y,a[k]=y:=⟨_,rfl⟩;rw[hy]at L W M;clear HV H0 HF hy;cases s with
    |true=>
     (have X:Hid (IQ (a.take (k+1)) x=(b++[y],true)):=by show _=_;rw[Aa L];simp[FU]);clear L AH M;(have Jx:Hid (∀(nq:Nat) (m:World),((wr.drewN nq).alloc (.cells #[.string n,.slice c F.length j] 43)).grownBy m (Value.slice C b.length B).ownBlock->Ac [] w m/\AE m N [.string D,.slice z xl A] 43):=λnq m hg=>⟨(((Aa l).drewN nq).alloc _).grown hg (λq G=>Or.inr (by have:=(I.lt q G).1;have:=Aa CL;omega)),(((Aa r).drewN nq).alloc _).grown hg (λe=>by have:=(I.lt N e).1;omega)⟩);go_wp2_with fail
     go_quiet (fail)
     all_goals
      go_wp2_with (at_builtin;refine cd _ rfl (.tmp 34) (.tmp 39) _ rfl (N+1) 43 i0 _ 2 40 underlying35 EK Ax ES BT rfl (by omega) (.slice C b.length B) b.length (b.flatMap B7) rfl (bQ (CQ I nq) _) ⟨wr.heap.size,0,none⟩ 1 1 [.string n,.slice c F.length j] rfl rfl (cj (cs:=#[.string n,.slice c F.length j]) (t:=43) (fr:=(0,0)) (cA (wr.drewN nq) _)) (Aa FA) (by omega) (by unfold maxLen;omega) (by omega) (by simp;omega) (wr.heap.size+1) (by simp) ?_;intro g1 LB m L0 H9 M1 Nq)
      go_roundg (a.length-(k+1))
      case measure=>have:=Aa HG;omega
      case rel=>exact⟨k+1,b++[y],true,some ⟨g1,0,none⟩,LB,by simp,rfl,by go_num,by omega,rfl,by have:=Aa HC;simp at this⊢;omega,X,by rw[cw,cg,cZ,cK,Aa W];simpa using L0,(Aa Jx nq m H9).1,(Aa Jx nq m H9).2⟩
    |false=>
     go_wp2_with fail
     go_region_law (go_simp;go_at_call 46;refine(Aa AH).mono ?_;rintro e K ⟨rfl,k3⟩;have HX:=Ab ((Aa l).drew.trans k3);have AT:=Ab ((Aa r).drew.kept k3 (by simp));have P:=Ad (E0 I) k3 (by simp);clear k3)
     all_goals
      clear AH l r I;have NV:=(Aa AT).lt;obtain⟨M6,N0⟩:=Aa H1 K (Aa HX);have x0:=(Aa AT).cell 0;have x1:=(Aa AT).cell 1;simp at x0 x1;have HP:=Aa HC;simp only[fV,fS]at HP;clear d0 d1 c0 c1;cases AB with
      |true=>
       have X:Hid (IQ (a.take (k+1)) x=(b++[x]++[y],true)):=by
        show _=_;rw[Aa L];have hh:=Aa M;simp[FU,hh]
       clear L M;go_wp2_with (first
        |(at_builtin;refine cd _ rfl (.tmp 30) (.tmp 32) _ rfl (N+1) 43 i0 _ 2 40 underlying35 EK Ax ES BT rfl (by omega) (.slice C b.length B) b.length (b.flatMap B7) rfl (bQ P _) ⟨K.heap.size,0,none⟩ 1 1 [.string D,.slice z xl A] rfl rfl (cj (cs:=#[.string D,.slice z xl A]) (t:=43) (fr:=(0,0)) (cA K _)) (Aa HM) (by omega) (by unfold maxLen;omega) (by omega) (by simp;omega) (K.heap.size+1) (by simp) ?_;intro g8 Mo R HA Ha LE K7;have FP:=((Aa HX).alloc _).grown Ha (λq G=>Or.inr (by have:=(P.lt q G).1;have:=Aa CL;omega));have f0:=(Aa H1 R FP).1;have f1:=(Aa H1 R FP).2;have LS:=Ab FP;have LL:=Ab (((Aa AT).alloc _).grown Ha (λe=>by have:=(P.lt N e).1;omega));have NM:N+1<=R.heap.size:=(by have:=Ha.size;simp at this;omega);clear Ha LE K7 FP)
        |(at_builtin;refine cd _ rfl (.tmp 34) (.tmp 39) _ rfl (N+1) 43 i0 _ 2 40 underlying35 EK Ax ES BT rfl (by omega) (.slice (some ⟨g8,0,none⟩) (b.length+1) Mo) (b.length+1) (b.flatMap B7++[.string D,.slice z xl A]) rfl (bQ HA _) ⟨R.heap.size,0,none⟩ 1 1 [.string n,.slice c F.length j] rfl rfl (cj (cs:=#[.string n,.slice c F.length j]) (t:=43) (fr:=(0,0)) (cA R _)) (Aa FA) (by omega) (by unfold maxLen;omega) (by omega) (by simp;omega) (R.heap.size+1) (by simp) ?_;intro Q U m S J HT H2))
       have V:=((Aa LS).alloc _).grown J (λq G=>Or.inr (by have:=(HA.lt q G).1;have:=Aa CL;omega));have H5:=((Aa LL).alloc _).grown J (λe=>by have:=(HA.lt N e).1;omega)
       go_roundg (a.length-(k+1))
       case measure=>have:=Aa HG;omega
       case rel=>exact⟨k+1,b++[x]++[y],true,some ⟨Q,0,none⟩,U,by simp,rfl,by go_num,by omega,rfl,by simp;omega,X,by simp only[cw,cg,cZ,cK];rw[Aa W,Aa K6];simpa using S,V,H5⟩
      |false=>
       have X:Hid (IQ (a.take (k+1)) x=(b++[y],false)):=by
        show _=_;rw[Aa L];have hh:=Aa M;simp[FU,hh]
       clear L M;go_wp2_with (at_builtin;refine cd _ rfl (.tmp 34) (.tmp 39) _ rfl (N+1) 43 i0 _ 2 40 underlying35 EK Ax ES BT rfl (by omega) (.slice C b.length B) b.length (b.flatMap B7) rfl (bQ P _) ⟨K.heap.size,0,none⟩ 1 1 [.string n,.slice c F.length j] rfl rfl (cj (cs:=#[.string n,.slice c F.length j]) (t:=43) (fr:=(0,0)) (cA K _)) (Aa FA) (by omega) (by unfold maxLen;omega) (by omega) (by simp;omega) (K.heap.size+1) (by simp) ?_;intro Q U m S J HT H2)
       have V:=((Aa HX).alloc _).grown J (λq G=>Or.inr (by have:=(P.lt q G).1;have:=Aa CL;omega));have H5:=((Aa AT).alloc _).grown J (λe=>by have:=(P.lt N e).1;omega)
       go_roundg (a.length-(k+1))
       case measure=>have:=Aa HG;omega
       case rel=>exact⟨k+1,b++[y],false,some ⟨Q,0,none⟩,U,by simp,rfl,by go_num,by omega,rfl,by simp;omega,X,by simp only[cw,cg,cZ,cK];rw[Aa W];simpa using S,V,H5⟩
   .have K4:Hid (IQ a x=(b,s)):=by
     have h:=Aa HF
     rwa [bP (by omega)]at h
    cases s with
    |true=>
     (have HW:Hid (Nr a x=b):=by show _=_;unfold Nr;rw[Aa K4];rfl);go_wp2;go_ret;rw[<-Aa HE,Aa HW];have CC:=Aa K5 wr C B (Aa l);rw[Aa HW]at CC;exact⟨C,B,rfl,CC (Ak I (b8 _)),Aa l⟩
    |false=>
     (have HW:Hid (Nr a x=b++[x]):=by show _=_;unfold Nr;rw[Aa K4];rfl);have x0:=(Aa r).cell 0;have x1:=(Aa r).cell 1;simp at x0 x1;have HP:=Aa HC;simp only[fV,fS]at HP;go_wp2_with (at_builtin;refine cd _ rfl (.tmp 43) (.tmp 45) _ rfl (N+1) 43 i0 _ 2 40 underlying35 EK Ax ES BT rfl (by omega) (.slice C b.length B) b.length (b.flatMap B7) rfl (bQ I _) ⟨wr.heap.size,0,none⟩ 1 1 [.string D,.slice z xl A] rfl rfl (cj (cs:=#[.string D,.slice z xl A]) (t:=43) (fr:=(0,0)) (cA wr _)) (Aa HM) (by omega) (by unfold maxLen;omega) (by omega) (by simp;omega) (wr.heap.size+1) (by simp) ?_;intro Q U m S J HT H2)
     have V:=((Aa l).alloc _).grown J (λq G=>Or.inr (by have:=(I.lt q G).1;have:=Aa CL;omega));have HJ:=Ab (And.intro S V);clear S V J HT H2;go_wp2;go_ret;rw[<-Aa HE,Aa HW];have CC:=Aa K5 m (some ⟨Q,0,none⟩) U (Aa HJ).2;rw[Aa HW]at CC;refine⟨some ⟨Q,0,none⟩,U,by simp,CC ?_,(Aa HJ).2⟩;simp only[cw,cg,cZ,cK];rw[Aa K6];simpa using Ak (Aa HJ).1 (b8 _)
def Ai(e:List cR):List Value:=e.map Value.string
theorem Bo(e:List cR):(Value.agg (Ai e).toArray).cells=(Ai e).toArray:=by
 unfold Ai;simp[Value.cells]
def AR(e:List cR)(t:AG):cR:=if t.v=0 then t.s else e.getD (t.v.toNat-65) ByteArray.empty
theorem JN(e:List cR)(t:AG)(w:World)(C:e.length=26)(f:t.v=0\/(65<=t.v.toNat/\t.v.toNat<=90)):
  Calls prog 89 #[.agg (Ai e).toArray,.agg (AM t).toArray] w λr x=>r=.returned (.string (AR e t))/\Ac [] w x:=by
 have D:=Bo e;have A:(Ai e).length=26:=by unfold Ai;simp[C]
 have g:Hid (∀i (h:i<26),(Ai e)[i]?=some (.string (e.getD i ByteArray.empty))):=by
  intro i h;unfold Ai;rw[dI,bT,bW (by omega)];rfl
 obtain⟨a,c⟩:=t;obtain⟨R,m⟩:∃R,AR e ⟨a,c⟩=R:=⟨_,rfl⟩;rw[m];have k:Hid ((if a=0 then c else e.getD (a.toNat-65) ByteArray.empty)=R):=m;generalize Ai e=E at D A g⊢;have l:=Ab (((Ac.refl [] w).alloc (.cells E.toArray 90)).alloc (.cells [.int .u8 a.toNat,.string c].toArray 93));have p:=Ab ((AE.new w E 90).alloc (.cells [.int .u8 a.toNat,.string c].toArray 93));simp only[AM];clear m;simp only at f;by_cases b:a=0
 .have d:Hid (c=R):=by have h:=Aa k;rw[if_pos b]at h;exact h
  subst b;go_enter func89,ntmps89;go_wp2;go_ret;rw[<-Aa d];exact⟨rfl,Aa l⟩
 .have d:Hid (e.getD (a.toNat-65) ByteArray.empty=R):=by have h:=Aa k;rw[if_neg b]at h;exact h
  have B:65<=a.toNat/\a.toNat<=90:=by
   rcases f with h|h
   .exact absurd h b
   .exact h
  have z:((a.toNat:Int)==0)=false:=by rw[cJ];omega
  obtain⟨j,u⟩:∃j,a.toNat-65=j:=⟨_,rfl⟩;have s:a.toNat=j+65:=by omega
  rw[u]at d;have q:j<26:=by omega
  rw[s]at p l z⊢;have o:=(Aa p).cell j;rw[Aa g j q]at o;have y:Hid (∀h:j<E.length,E[j]=.string (e.getD j ByteArray.empty)):=λh=>by
   have n:=Aa g j q;rw[bW h]at n;exact fY n
  clear k u s B f b o;go_enter func89,ntmps89;go_wp2;go_ret;rw[<-Aa d];exact⟨congrArg Ending.returned (Aa y _),Aa l⟩
def Ru(x:cR):Bool:=x.toList==[]
theorem DA(x:cR):Ru x=true↔x.size=0:=by
 unfold Ru;rw[B8];cases h:x.toList<;>simp
theorem DR(a b:cR):(a.toList==b.toList)=true↔a=b:=by
 constructor
 .intro h;exact toList_inj (by simpa using h)
 .intro h;rw[h];simp
def Cz:List cR->List AG->List cR->List cR×Bool
 |e,[],_=>(e,true)
 |e,_::_,[]=>(e,true)
 |e,t::ts,x::xs=>if Ru (AR e t)then Cz (e.set (t.v.toNat-65) x) ts xs else if(AR e t).toList==x.toList then Cz e ts xs else(e,false)
def au(e e':List cR):Prop:=e'.length=e.length/\∀j,(e.getD j ByteArray.empty).size≠0->e'.getD j ByteArray.empty=e.getD j ByteArray.empty
theorem au.refl(e:List cR):au e e:=⟨rfl,λ_ _=>rfl⟩
theorem au.trans{a b c:List cR}(h:au a b)(k:au b c):au a c:=⟨k.1.trans h.1,λj d=>(k.2 j (by rw[h.2 j d];exact d)).trans (h.2 j d)⟩
theorem au.set{e:List cR}{j:Nat}(h:(e.getD j ByteArray.empty).size=0)(x:cR):au e (e.set j x):=by
 refine⟨by simp,λi b=>?_⟩;by_cases a:j=i
 .subst a;exact absurd h b
 .rw[bT,bT,el a]
theorem O6{e c:List cR}(h:au e c){t:AG}(b:(AR e t).size≠0):AR c t=AR e t:=by
 unfold AR at b⊢;by_cases a:t.v=0
 .rw[if_pos a,if_pos a]
 .rw[if_neg a]at b⊢;rw[if_neg a];exact h.2 _ b
def Bz(t:AG):Prop:=(t.v=0/\t.s.size≠0)\/(65<=t.v.toNat/\t.v.toNat<=90)
theorem Bz.zJ{e:List cR}{t:AG}(h:Bz t)(a:(AR e t).size=0):t.v≠0/\65<=t.v.toNat/\t.v.toNat<=90/\(e.getD (t.v.toNat-65) ByteArray.empty).size=0:=by
 rcases h with⟨c,b⟩|⟨b,d⟩
 .unfold AR at a;rw[if_pos c]at a;exact absurd a b
 .have c:t.v≠0:=λh=>by rw[h]at b;exact absurd b (by decide)
  unfold AR at a;rw[if_neg c]at a;exact⟨c,b,d,a⟩
theorem YH{e:List cR}{t:AG}(c:e.length=26)(a:t.v≠0)(b:65<=t.v.toNat)(d:t.v.toNat<=90)(x:cR):AR (e.set (t.v.toNat-65) x) t=x:=by
 unfold AR;rw[if_neg a,bT,eJ (by omega)];rfl
theorem Gq:∀(a:List AG) (b:List cR) (e c:List cR),e.length=26->a.length=b.length->(∀t∈a,Bz t)->(∀x∈b,x.size≠0)->Cz e a b=(c,true)->au e c/\a.map (AR c)=b
 |[],[],e,c,_,_,_,_,h=>by
  simp only[Cz,cP]at h;rw[<-h.1];exact⟨au.refl e,rfl⟩
 |[],_::_,_,_,_,h,_,_,_=>by simp at h
 |_::_,[],_,_,_,h,_,_,_=>by simp at h
 |t::a,x::b,e,c,he,hl,hg,hx,h=>by
  rw[Cz]at h;have n:a.length=b.length:=by simpa using hl
  have o:∀t∈a,Bz t:=λu j=>hg u (by simp[j])
  have l:∀x∈b,x.size≠0:=λu j=>hx u (by simp[j])
  have m:=hx x (by simp);by_cases k:Ru (AR e t)=true
  .rw[if_pos k]at h;obtain⟨r,q,p,s⟩:=(hg t (by simp)).zJ ((DA _).1 k);obtain⟨d,g⟩:=Gq a b (e.set (t.v.toNat-65) x) c (by simp[he]) n o l h;have f:=YH he r q p x;refine⟨(au.set s x).trans d,?_⟩;rw[cu,g,O6 d (by rw[f];exact m),f]
  .rw[if_neg k]at h;by_cases i:((AR e t).toList==x.toList)=true
   .rw[if_pos i]at h;obtain⟨d,g⟩:=Gq a b e c he n o l h;have f:=(DR _ _).1 i;refine⟨d,?_⟩;rw[cu,g,O6 d (by rw[f];exact m),f]
   .rw[if_neg i]at h;simp at h
def El(σ:UInt8->cR)(t:AG):cR:=if t.v=0 then t.s else σ t.v
def DG(e:List cR)(σ:UInt8->cR):Prop:=e.length=26/\∀v:UInt8,65<=v.toNat->v.toNat<=90->(e.getD (v.toNat-65) ByteArray.empty).size=0\/e.getD (v.toNat-65) ByteArray.empty=σ v
theorem DG.val{e:List cR}{σ:UInt8->cR}(h:DG e σ){t:AG}(g:Bz t)(d:(AR e t).size≠0):AR e t=El σ t:=by
 unfold AR at d⊢;unfold El;by_cases a:t.v=0
 .rw[if_pos a,if_pos a]
 .rw[if_neg a]at d⊢;rw[if_neg a];rcases g with⟨b,_⟩|⟨b,f⟩
  .exact absurd b a
  .rcases h.2 t.v b f with c|c
   .exact absurd c d
   .exact c
theorem DG.set{e:List cR}{σ:UInt8->cR}(h:DG e σ){v:UInt8}(f:65<=v.toNat)(d:v.toNat<=90):DG (e.set (v.toNat-65) (σ v)) σ:=by
 refine⟨by simp[h.1],λu a b=>?_⟩;by_cases c:v.toNat-65=u.toNat-65
 .have:v=u:=dx.1 (by omega);subst this;right;rw[bT,eJ (by rw[h.1];omega)];rfl
 .rw[bT,el c,<-bT];exact h.2 u a b
theorem Jm(σ:UInt8->cR):∀(a:List AG) (e:List cR),DG e σ->(∀t∈a,Bz t/\(El σ t).size≠0)->∃f,Cz e a (a.map (El σ))=(f,true)/\DG f σ
 |[],e,h,_=>⟨e,rfl,h⟩
 |t::a,e,h,hg=>by
  rw[cu,Cz];have g:∀u∈a,Bz u/\(El σ u).size≠0:=λu l=>hg u (by simp[l])
  obtain⟨d,o⟩:=hg t (by simp);by_cases b:Ru (AR e t)=true
  .rw[if_pos b];obtain⟨m,k,i,n⟩:=d.zJ ((DA _).1 b);(have c:El σ t=σ t.v:=by unfold El;rw[if_neg m]);rw[c];exact Jm σ a _ (h.set k i) g
  .rw[if_neg b];have c:=h.val d (λj=>b ((DA _).2 j));rw[if_pos (by rw[c];simp)];exact Jm σ a e h g
theorem Qu:∀(l m:List cR),GB l m=true↔l=m
 |[],[]=>by simp[GB]
 |[],_::_=>by simp[GB]
 |_::_,[]=>by simp[GB]
 |x::l,y::m=>by
  rw[GB,cq,DR,Qu l m];simp
theorem JV(a b:Ah):Gn a b=true↔a=b:=by
 obtain⟨d,f⟩:=a;obtain⟨e,c⟩:=b;unfold Gn;rw[cq,DR,Qu];simp
def AA(e:List cR)(A:C2):Ah:=⟨A.name,A.args.map (AR e)⟩
def BK(σ:UInt8->cR)(A:C2):Ah:=⟨A.name,A.args.map (El σ)⟩
def DF(e:List cR)(A:C2)(f:Ah):List cR×Bool:=if(A.name.toList==f.name.toList)&&(A.args.length==f.args.length)then Cz e A.args f.args else(e,false)
def Kv(e:List cR)(A:C2)(f:Ah):Option (List cR):=if(DF e A f).2 then some (DF e A f).1 else none
def Cq(s:List Ah)(l:List (List cR))(x:Bg):List (List cR):=if x.kind==97 then l.flatMap (λe=>s.filterMap (Kv e x.A))else l
def FK(s:List Ah)(f:Ah):Bool:=s.any λg=>Gn g f
theorem Cw(s:List Ah)(f:Ah):FK s f=true↔f∈s:=by
 unfold FK;rw[dp];constructor
 .rintro ⟨g,a,h⟩;rw[JV]at h;rw[<-h];exact a
 .intro h;exact⟨f,h,(JV f f).2 rfl⟩
def CS(fact:C2->Ah)(val:AG->cR)(s:List Ah)(x:Bg):Bool:=
 if x.kind==97 then FK s (fact x.A)else if x.kind==33 then !FK s (fact x.A)else if x.kind==61 then(val x.L).toList==(val x.R).toList else if x.kind==35 then !((val x.L).toList==(val x.R).toList)else Ff (val x.L) (val x.R)
def BX:List cR:=List.replicate 26 ByteArray.empty
def Br(body:List Bg)(s:List Ah):List (List cR):=(body.foldl (Cq s) [BX]).filter λe=>body.all λx=>x.kind==97||CS (AA e) (AR e) s x
def Ku(f:Ah):Prop:=∀x∈f.args,x.size≠0
theorem QL{e d:List cR}{A:C2}{f:Ah}(h:Kv e A f=some d):A.name=f.name/\A.args.length=f.args.length/\Cz e A.args f.args=(d,true):=by
 unfold Kv DF at h;by_cases c:((A.name.toList==f.name.toList)&&(A.args.length==f.args.length))=true
 .rw[if_pos c]at h;rw[cq]at c;cases hm:Cz e A.args f.args with
  |mk a b=>
   rw[hm]at h;cases b with
   |false=>simp at h
   |true=>
    simp at h;exact⟨(DR _ _).1 c.1,by simpa using c.2,by rw[h]⟩
 .rw[if_neg c]at h;simp at h
theorem Z6{e a:List cR}{A:C2}{f:Ah}(d:A.name=f.name)(c:A.args.length=f.args.length)(g:Cz e A.args f.args=(a,true)):Kv e A f=some a:=by
 have h:((A.name.toList==f.name.toList)&&(A.args.length==f.args.length))=true:=by
  rw[cq,DR];exact⟨d,by simpa using c⟩
 have b:DF e A f=(a,true):=by
  unfold DF;rw[if_pos h,g]
 unfold Kv;rw[b];rfl
theorem Dn{s:List Ah}(n:∀f∈s,Ku f):∀(g:List Bg) (l:List (List cR)),(∀e∈l,e.length=26)->(∀x∈g,(x.kind==97)=true->∀t∈x.A.args,Bz t)->
  ∀a∈g.foldl (Cq s) l,a.length=26/\∃e∈l,au e a/\∀x∈g,(x.kind==97)=true->AA a x.A∈s/\∀t∈x.A.args,(AR a t).size≠0
 |[],l,hl,_,a,he'=>⟨hl a he',a,he',au.refl a,λx K=>by simp at K⟩
 |x::g,l,hl,hg,a,he'=>by
  rw[cC]at he';have w:∀x∈g,(x.kind==97)=true->∀t∈x.A.args,Bz t:=λy c=>hg y (by simp[c])
  by_cases j:(x.kind==97)=true
  .have D:∀b∈Cq s l x,∃e∈l,∃f∈s,Kv e x.A f=some b:=by
    intro b k;unfold Cq at k;rw[if_pos j]at k;obtain⟨e,d,F⟩:=cO.1 k;obtain⟨f,h,m⟩:=dY.1 F;exact⟨e,d,f,h,m⟩
   have I:∀b∈Cq s l x,b.length=26:=by
    intro b k;obtain⟨e,d,f,h,m⟩:=D b k;obtain⟨_,r,v⟩:=QL m;rw[(Gq _ _ _ _ (hl e d) r (hg x (by simp) j) (n f h) v).1.1,hl e d]
   obtain⟨u,b,J,p,q⟩:=Dn n g (Cq s l x) I w a he';obtain⟨e,d,f,h,m⟩:=D b J;obtain⟨H,r,v⟩:=QL m;obtain⟨E,B⟩:=Gq _ _ _ _ (hl e d) r (hg x (by simp) j) (n f h) v;(have C:∀t∈x.A.args,(AR b t).size≠0:=λt i=>n f h _ (by rw[<-B];exact cm i));(have z:∀t∈x.A.args,AR a t=AR b t:=λt i=>O6 p (C t i));refine⟨u,e,d,E.trans p,λy c o=>?_⟩;rcases bS.1 c with rfl|c
   .refine⟨?_,λt i=>by rw[z t i];exact C t i⟩;have:AA a y.A=f:=by
     unfold AA;rw[du z,B,H]
    rw[this];exact h
   .exact q y c o
  ·(have G:Cq s l x=l:=by unfold Cq;rw[if_neg j]);rw[G]at he';obtain⟨u,e,d,p,q⟩:=Dn n g l hl w a he';refine⟨u,e,d,p,λy c o=>?_⟩;rcases bS.1 c with rfl|c
   .exact absurd o j
   .exact q y c o
theorem Jp{s:List Ah}(σ:UInt8->cR):∀(a:List Bg) (l:List (List cR)) (e:List cR),e∈l->DG e σ->(∀x∈a,(x.kind==97)=true->(∀t∈x.A.args,Bz t/\(El σ t).size≠0)/\BK σ x.A∈s)->
  ∃m∈a.foldl (Cq s) l,DG m σ
 |[],l,e,he,ha,_=>⟨e,he,ha⟩
 |x::a,l,e,he,ha,hb=>by
  rw[cC];have c:∀y∈a,(y.kind==97)=true->(∀t∈y.A.args,Bz t/\(El σ t).size≠0)/\BK σ y.A∈s:=λy h=>hb y (by simp[h])
  by_cases b:(x.kind==97)=true
  .obtain⟨j,g⟩:=hb x (by simp) b;obtain⟨d,k,i⟩:=Jm σ x.A.args e ha j;refine Jp σ a _ d ?_ i c;unfold Cq;rw[if_pos b];exact cO.2 ⟨e,he,dY.2 ⟨_,g,Z6 rfl (by simp[BK]) k⟩⟩
  ·(have f:Cq s l x=l:=by unfold Cq;rw[if_neg b]);rw[f];exact Jp σ a l e he ha c
theorem DG.start(σ:UInt8->cR):DG BX σ:=by
 refine⟨rfl,λv a b=>Or.inl ?_⟩;unfold BX;rw[bT,List.getElem?_replicate];split<;>rfl
def Fq(body:List Bg)(t:AG):Prop:=t.v=0\/∃x∈body,(x.kind==97)=true/\∃u∈x.A.args,u.v=t.v
def Lj(e:List cR)(v:UInt8):cR:=e.getD (v.toNat-65) ByteArray.empty
theorem Jr(e:List cR)(t:AG):El (Lj e) t=AR e t:=rfl
theorem Io{s:List Ah}(k:∀f∈s,Ku f){b:List Bg}(l:∀x∈b,(x.kind==97)=true->∀t∈x.A.args,Bz t){e:List cR}(a:e∈Br b s):
  ∀x∈b,CS (AA e) (AR e) s x=true:=by
 unfold Br at a;obtain⟨i,g⟩:=cn.1 a;obtain⟨_,_,_,_,j⟩:=Dn k b [BX] (λe a=>by simp at a;rw[a];rfl) l e i;intro x d;by_cases c:(x.kind==97)=true
 .unfold CS;rw[if_pos c];exact(Cw _ _).2 (j x d c).1
 .have:=(dO.1 g) x d;simp only[dr]at this;rcases this with h|h
  .exact absurd h c
  .exact h
theorem MS{s:List Ah}(o:∀f∈s,Ku f){a:List Bg}(l:∀x∈a,(x.kind==97)=true->∀t∈x.A.args,Bz t)(σ:UInt8->cR)(p:∀x∈a,CS (BK σ) (El σ) s x=true)
  (C:∀x∈a,(x.kind==97)=false->((x.kind==33)=true->∀t∈x.A.args,Fq a t)/\((x.kind==33)=false->Fq a x.L/\Fq a x.R)):
  ∃e∈Br a s,∀t,Fq a t->AR e t=El σ t:=by
 have r:∀x∈a,(x.kind==97)=true->(∀t∈x.A.args,Bz t/\(El σ t).size≠0)/\BK σ x.A∈s:=by
  intro x c b;have h:=p x c;unfold CS at h;rw[if_pos b,Cw]at h;exact⟨λt g=>⟨l x c b t g,o _ h _ (cm g)⟩,h⟩
 obtain⟨e,i,B⟩:=Jp σ a [BX] BX (by simp) (DG.start σ) r;obtain⟨_,_,_,_,q⟩:=Dn o a [BX] (λe i=>by simp at i;rw[i];rfl) l e i;have j:∀t,Fq a t->AR e t=El σ t:=by
  intro t g;rcases g with d|⟨x,c,b,u,n,z⟩
  .unfold AR El;rw[if_pos d,if_pos d]
  .have w:=(q x c b).2 u n;have k:=B.val (l x c b u n) w;unfold AR El at k⊢;rw[<-z];by_cases d:u.v=0
   .rw[if_pos d,if_pos d]
   .rw[if_neg d,if_neg d]at k⊢;exact k
 refine⟨e,?_,j⟩;unfold Br;refine cn.2 ⟨i,dO.2 λx c=>?_⟩;cases b:(x.kind==97)with
 |true=>rfl
 |false=>
  obtain⟨y,m⟩:=C x c b;rw[ex,<-p x c];unfold CS;simp only[b,bN,if_false];cases hk2:(x.kind==33)with
  |true=>
   simp only[if_true];have:AA e x.A=BK σ x.A:=by
    unfold AA BK;rw[du (λt g=>j t (y hk2 t g))]
   rw[this]
  |false=>
   simp only[bN,if_false];rw[j _ (m hk2).1,j _ (m hk2).2]
def Am(c:A7):List Bg:=c.bl.map Prod.fst
def G6(c:A7)(σ:UInt8->cR):X0 Ah:=
 ⟨((Am c).filter λx=>x.kind==97).map λx=>BK σ x.A,((Am c).filter λx=>x.kind==33).map λx=>BK σ x.A,BK σ c.head⟩
def XW(c:A7)(σ:UInt8->cR):Prop:=∀x∈Am c,(x.kind==97)=false->(x.kind==33)=false->CS (BK σ) (El σ) [] x=true
def EW(cs:List A7)(i:X0 Ah):Prop:=∃c∈cs,∃σ,XW c σ/\i=G6 c σ
theorem TE{f:C2->Ah}{v:AG->cR}{s t:List Ah}{x:Bg}(a:(x.kind==97)=false)(b:(x.kind==33)=false):CS f v s x=CS f v t x:=by
 unfold CS;rw[a,b];rfl
theorem Iw(c:A7)(σ:UInt8->cR)(s:List Ah):(∀x∈Am c,CS (BK σ) (El σ) s x=true)↔IV (G6 c σ) (·∈s) (·∈s)/\XW c σ:=by
 constructor
 .intro h;refine⟨⟨λg i=>?_,λg i l=>?_⟩,λx a f e=>?_⟩
  .obtain⟨x,a,rfl⟩:=bV.1 i;obtain⟨a,b⟩:=cn.1 a;have d:=h x a;unfold CS at d;rw[if_pos b,Cw]at d;exact d
  .obtain⟨x,a,rfl⟩:=bV.1 i;obtain⟨a,b⟩:=cn.1 a;have d:=h x a;have j:(x.kind==97)=false:=by
    (have:x.kind=33:=by simpa using b);rw[this];rfl
   unfold CS at d;rw[if_neg (by rw[j];simp),if_pos b,(Cw _ _).2 l]at d;cases d
  .rw[TE f e (t:=s)];exact h x a
 .rintro ⟨⟨f,e⟩,k⟩ x a;cases b:(x.kind==97)with
  |true=>
   unfold CS;rw[b,if_pos rfl,Cw];exact f _ (bV.2 ⟨x,cn.2 ⟨a,b⟩,rfl⟩)
  |false=>
   cases hk2:(x.kind==33)with
   |true=>
    unfold CS;rw[b,hk2,if_neg (by simp),if_pos rfl];cases d:FK s (BK σ x.A)with
    |false=>rfl
    |true=>exact absurd ((Cw _ _).1 d) (e _ (bV.2 ⟨x,cn.2 ⟨a,hk2⟩,rfl⟩))
   |false=>
    rw[TE b hk2 (t:=[])];exact k x a b hk2
structure RZ(cs:List A7):Prop where
 args:∀c∈cs,∀x∈Am c,(x.kind==97)=true->∀t∈x.A.args,Bz t
 safe:∀c∈cs,∀x∈Am c,(x.kind==97)=false->((x.kind==33)=true->∀t∈x.A.args,Fq (Am c) t)/\((x.kind==33)=false->Fq (Am c) x.L/\Fq (Am c) x.R)
 head:∀c∈cs,∀t∈c.head.args,Fq (Am c) t
structure DE(cs:List A7)(gD:cR->Nat):Prop where
 pos:∀c∈cs,∀x∈Am c,(x.kind==97)=true->gD x.A.name<=gD c.head.name
 neg:∀c∈cs,∀x∈Am c,(x.kind==33)=true->gD x.A.name<gD c.head.name
theorem DE.gL{cs:List A7}{j:cR->Nat}(h:DE cs j):LV (EW cs) (λf=>j f.name):=by
 refine⟨?_,?_⟩
 .rintro i ⟨c,e,σ,_,rfl⟩ g d;obtain⟨x,a,rfl⟩:=bV.1 d;obtain⟨a,b⟩:=cn.1 a;exact h.pos c e x a b
 .rintro i ⟨c,e,σ,_,rfl⟩ g d;obtain⟨x,a,rfl⟩:=bV.1 d;obtain⟨a,b⟩:=cn.1 a;exact h.neg c e x a b
theorem YP{cs:List A7}{a:cR->Nat}(k:DE cs a)(v:RZ cs){n:Nat}{b s:List Ah}(t:C8 (EW cs) (λf=>a f.name) n (·∈s))(w:∀f∈b,f∈s)(r:∀f∈s,f∈b\/a f.name=n)(p:∀f∈b,Ku f)
  {c:A7} (o:c∈cs) (m:a c.head.name=n) {e:List cR} (x:e∈Br (Am c) b):C8 (EW cs) (λf=>a f.name) n (λf=>f∈s\/f=AA e c.head):=by
 have q:=Io p (v.args c o) x;have i:IV (G6 c (Lj e)) (·∈b) (·∈b)/\XW c (Lj e):=(Iw c (Lj e) b).1 q;have l:EW cs (G6 c (Lj e)):=⟨c,o,Lj e,i.2,rfl⟩;have j:(G6 c (Lj e)).head=AA e c.head:=rfl;have:=t.step (EW cs) (λf=>a f.name) k.gL l (by rw[j];exact m) ⟨λg d=>w g (i.1.1 g d),λg d u=>by
  rcases r g u with h|h
  .exact i.1.2 g d h
  .have z:a g.name<a (G6 c (Lj e)).head.name:=k.gL.neg _ l g d
   have y:a (G6 c (Lj e)).head.name=n:=by rw[j];exact m
   omega⟩
 rw[j]at this;exact this
theorem Xy{cs:List A7}{a:cR->Nat}(d:RZ cs){n:Nat}{s:List Ah}(j:C8 (EW cs) (λf=>a f.name) n (·∈s))(u:∀f∈s,Ku f)
  (h:∀c∈cs,a c.head.name=n->∀e∈Br (Am c) s,AA e c.head∈s):C8 (EW cs) (λf=>a f.name) (n+1) (·∈s):=by
 refine j.next (EW cs) (λf=>a f.name) ?_;rintro i ⟨c,b,σ,o,rfl⟩ v r;have m:=(Iw c σ s).2 ⟨r,o⟩;obtain⟨e,k,l⟩:=MS u (d.args c b) σ m (d.safe c b);have g:=h c b v e k;have q:AA e c.head=BK σ c.head:=by
  unfold AA BK;rw[du (λt p=>l t (d.head c b t p))]
 rw[q]at g;exact g
theorem Y7{cs:List A7}{a b:cR->Nat}(o:DE cs a)(n:DE cs b){h k:Nat}{M N:Ah->Prop}(l:C8 (EW cs) (λf=>a f.name) h M)(q:C8 (EW cs) (λf=>b f.name) k N)(m:∀c∈cs,a c.head.name<h)(p:∀c∈cs,b c.head.name<k):∀f,M f↔N f:=by
 have j:=l.done (EW cs) (λf=>a f.name) (λi e=>by obtain⟨c,d,σ,_,rfl⟩:=e;exact m c d);have g:=q.done (EW cs) (λf=>b f.name) (λi e=>by obtain⟨c,d,σ,_,rfl⟩:=e;exact p c d);exact W7 (EW cs) _ _ o.gL n.gL j.1 j.2 g.1 g.2
theorem JU{w:World}{v:Value}{cs:List A7}(h:Ci w v cs)(k:Nat)(d:k<cs.length):
  ∃g r a i f e j b l,v=.slice (some ⟨g,0,none⟩) cs.length r/\cs[k]=⟨a,.slice i a.args.length f,.slice e b.length j,b,l⟩/\UC w ⟨a,.slice i a.args.length f,.slice e b.length j,b,l⟩/\
   w.cell? ⟨g,k*5,none⟩=some (.string a.name)/\w.cell? ⟨g,k*5+1,none⟩=some (.slice i a.args.length f)/\w.cell? ⟨g,k*5+2,none⟩=some (.int .i64 a.at_)/\w.cell? ⟨g,k*5+3,none⟩=some (.slice e b.length j):=by
 obtain⟨g,r,y,_,m⟩:=Av h.row (λc _=>BH c) k d;have n:=h.each _ (bL d);have s:=m k d 0 (by omega);have q:=m k d 1 (by omega);have o:=m k d 2 (by omega);have p:=m k d 3 (by omega);obtain⟨⟨a,z,A,b,l⟩,x⟩:∃c,cs[k]=c:=⟨_,rfl⟩;rw[x]at s q o p n;obtain⟨i,f,u⟩:=Aj n.args;obtain⟨e,j,t⟩:=Aj n.body;simp only at u t;subst u t;simp[Cs]at s q o p;exact⟨g,r,a,i,f,e,j,b,l,y,x,n,s,q,o,p⟩
theorem Tryz.info3:(Tryz.prog.info? 3).map (λi=>(i.zero,i.size,i.bytes))=some (some (.int .i64 0),1,8):=by kernel_rfl
def BM(n:Nat):List Value:=[.int .i64 n]
theorem Up(f:cR->Nat)(A:Nat)(O:Option Addr)(L:Nat)(cs:List A7)(w:World)(J:AE w A [.slice O cs.length L] 76)(K:Ci w (.slice O cs.length L) cs)(FL:cs.length<=1000)
  (G:∀(x:cR) (z:World),Ac [] w z->Calls prog 190 #[.pointer (some ⟨A,0,none⟩),.string x,.int .i64 6] z λe n=>e=.returned (.int .i64 (f x))/\Ac [] z n):
  Calls prog 155 #[.pointer (some ⟨A,0,none⟩)] w λe n=>∃b d,e=.returned (.slice b cs.length d)/\n.ownsRow w.heap.size 3 1 (.slice b cs.length d) cs.length ((cs.map λc=>f c.head.name).flatMap BM)/\Ac [] w n:=by
 obtain⟨i0,CL,V,AH,Bx⟩:=cU Tryz.info3;have HP:=Ab J;have P:=Ab K;have AO:=Ab G;clear J K G;go_enter func155,ntmps155;go_wp2
 go_loopg [3,4] cs.length (λgk o i wr=>∃(k:Nat) (a:List Nat) (b:Option Addr) (d:Nat),o=.slice b a.length d/\i=.int .i64 k/\k<=cs.length/\gk=cs.length-k/\a.length<=1000/\Hid (a=(cs.take k).map λc=>f c.head.name)/\wr.ownsRow w.heap.size 3 1 (.slice b a.length d) a.length (a.flatMap BM)/\Hid (Ac [] w wr))
 case atStart=>exact⟨0,[],none,0,rfl,rfl,by omega,rfl,by simp,by show _=_;simp,ck _ _ _ _,Ac.refl _ _⟩
 case round=>
  obtain⟨k,a,b,d,rfl,rfl,hk,F,HB,y,s,j⟩:=hrel;have Y:=Ab F;clear F;have H:=((Aa HP).kept (Aa j) (by simp)).cell 0;simp at H;have Ha:=(Aa j).size;by_cases C:k<cs.length
  .obtain⟨g,FC,m,FP,FF,EX,HC,bl,a5,I,M,BT,d0,d1,Q,R⟩:=JU ((Aa P).kept (Aa j)) k C;simp only[bK]at I;obtain⟨rfl,_,rfl⟩:=I;have u:=Ab (Aa AO m.name wr (Aa j));have B:Hid (a++[f m.name]=(cs.take (k+1)).map λc=>f c.head.name):=by
    show _=_;rw[bM C,cW,Aa y,M];rfl
   (have E:(a++[f m.name]).length<=1000:=by rw[Aa B];simp;omega);generalize f m.name=v at u B E;clear BT M d1 Q R y;(go_wp2_with fail);refine(Aa u).mono ?_;rintro e p ⟨rfl,r⟩;have CC:=Ab ((Aa j).trans r);have D:=Ad s r (by simp);have ES:=r.size;(have X:Hid (∀l,(p.alloc (.cells #[.int .i64 v] 3)).grownBy l (Value.slice b a.length d).ownBlock->Ac [] w l):=λl W=>((Aa CC).alloc _).grown W (λq Z=>Or.inr ((D.lt q Z).1)));clear u r H d0 s;go_wp2_with (at_builtin;refine cd _ rfl (.tmp 14) (.tmp 26) _ rfl w.heap.size 3 i0 _ 1 8 underlying221 CL V AH Bx rfl (by omega) (.slice b a.length d) a.length (a.flatMap BM) rfl (bQ D _) ⟨p.heap.size,0,none⟩ 1 1 [.int .i64 v] rfl rfl (cj (cs:=#[.int .i64 v]) (t:=3) (fr:=(0,0)) (cA p _)) (by simp[Value.oneCell']) (by omega) (by unfold maxLen;omega) (by omega) (by simp;omega) (p.heap.size+1) (by simp) ?_;intro T U l S B9 Go FW)
   go_roundg (cs.length-(k+1))
   case measure=>have:=Aa Y;omega
   case rel=>exact⟨k+1,a++[v],some ⟨T,0,none⟩,U,by simp,by go_num,by omega,rfl,E,B,by simpa[BM] using S,Aa X l B9⟩
  .have N:Hid (a=cs.map λc=>f c.head.name):=by
    have h:=Aa y;rw[bP (by omega)]at h;exact h
   (have Ax:Hid (cs.length=a.length):=by show _=_;rw[Aa N];simp);go_wp2;go_ret;rw[Aa Ax,<-Aa N];exact⟨b,d,rfl,s,Aa j⟩
def LW(f:cR->Nat)(p:AY):Nat:=if p.1.kind==97 then f p.1.A.name else if p.1.kind==33 then f p.1.A.name+1 else 0
def Hr(f:cR->Nat)(n:Nat)(bl:List AY):Nat:=bl.foldl (λn p=>max n (LW f p)) n
def Ja(f:cR->Nat)(x:cR)(n:Nat)(c:A7):Nat:=if c.head.name.toList==x.toList then Hr f n c.bl else n
def B0(cs:List A7):Nat->cR->Nat
 |0,_=>0
 |d+1,x=>cs.foldl (Ja (B0 cs d) x) 0
theorem VD{f:cR->Nat}{b:Nat}(c:∀y,f y+1<=b):∀(a:List AY) (n:Nat),n<=b->Hr f n a<=b
 |[],n,h=>h
 |p::a,n,h=>by
  unfold Hr;rw[cC];refine VD c a _ ?_;have:LW f p<=b:=by
   unfold LW;have:=c p.1.A.name;split
   .omega
   .split
    .omega
    .omega
  omega
theorem RG(cs:List A7):∀(d:Nat) (x:cR),B0 cs d x<=d
 |0,_=>bZ _
 |d+1,x=>by
  rw[B0];have a:∀(l:List A7) (n:Nat),n<=d+1->l.foldl (Ja (B0 cs d) x) n<=d+1:=by
   intro l
   induction l with
   |nil=>intro n h;exact h
   |cons c l ih=>
    intro n h;rw[cC];refine ih _ ?_;unfold Ja;split
    .exact VD (λy=>by have:=RG cs d y;omega) c.bl n h
    .exact h
  exact a cs 0 (by omega)
theorem Wv(f:cR->Nat)(n:Nat){bl:List AY}{k:Nat}(a:k<bl.length):Hr f n (bl.take (k+1))=max (Hr f n (bl.take k)) (LW f bl[k]):=by
 unfold Hr;rw[bM a,cY];rfl
theorem XJ(f:cR->Nat)(x:cR){cs:List A7}{k:Nat}(a:k<cs.length):(cs.take (k+1)).foldl (Ja f x) 0=Ja f x ((cs.take k).foldl (Ja f x) 0) cs[k]:=by
 rw[bM a,cY];rfl
theorem UW{w:World}{B:Value}{bl:List AY}(h:w.ownsRow 0 95 9 B bl.length (bl.flatMap AN))(C:∀p∈bl,BJ w 0 p)(k:Nat)(a:k<bl.length):
  ∃g l x d e,B=.slice (some ⟨g,0,none⟩) bl.length l/\bl[k]=(x,.slice d x.A.args.length e)/\BJ w 0 (x,.slice d x.A.args.length e)/\
   w.cell? ⟨g,k*9,none⟩=some (.int .u8 x.kind.toNat)/\w.cell? ⟨g,k*9+1,none⟩=some (.string x.A.name)/\w.cell? ⟨g,k*9+2,none⟩=some (.slice d x.A.args.length e)/\w.cell? ⟨g,k*9+3,none⟩=some (.int .i64 x.A.at_)/\
   w.cell? ⟨g,k*9+4,none⟩=some (.int .u8 x.L.v.toNat)/\w.cell? ⟨g,k*9+5,none⟩=some (.string x.L.s)/\w.cell? ⟨g,k*9+6,none⟩=some (.int .u8 x.R.v.toNat)/\w.cell? ⟨g,k*9+7,none⟩=some (.string x.R.s)/\w.cell? ⟨g,k*9+8,none⟩=some (.int .i64 x.at_):=by
 obtain⟨g,l,D,_,b⟩:=Av h (λc _=>Bw c) k a;have q:=C _ (bL a);have o:=b k a 0 (by omega);have j:=b k a 1 (by omega);have f:=b k a 2 (by omega);have i:=b k a 3 (by omega);have u:=b k a 4 (by omega);have r:=b k a 5 (by omega);have n:=b k a 6 (by omega);have m:=b k a 7 (by omega);have t:=b k a 8 (by omega);obtain⟨⟨x,E⟩,z⟩:∃c,bl[k]=c:=⟨_,rfl⟩;rw[z]at o j f i u r n m t q;obtain⟨d,e,y⟩:=Aj q;simp only at y;subst y;simp[AN,BQ]at o j f i u r n m t;exact⟨g,l,x,d,e,D,z,q,o,j,f,i,u,r,n,m,t⟩
theorem Ux(f:Nat)(d:Option Addr)(c:Nat)(cs:List A7)(m:cs.length<=1000)(x:cR)(w:World)(b:AE w f [.slice d cs.length c] 76)(h:Ci w (.slice d cs.length c) cs):
  Calls prog 190 #[.pointer (some ⟨f,0,none⟩),.string x,.int .i64 0] w λe g=>e=.returned (.int .i64 (B0 cs 0 x))/\Ac [] w g:=by
 have j:=b.cell 0;simp at j;have a:Hid (B0 cs 0 x=0):=rfl;generalize B0 cs 0 x=R at a⊢;clear b h;go_enter func190,ntmps190;go_wp2
 go_loopg [7,8] 1 (λgk n i wr=>n=.int .i64 0/\i=.int .i64 0/\wr=w)
 case atStart=>exact⟨rfl,rfl,rfl⟩
 case round=>
  obtain⟨rfl,rfl,rfl⟩:=hrel;by_cases l:0<cs.length
  ·(have k:(0:Int)<(cs.length:Int):=by omega);go_wp2;go_ret;rw[Aa a];exact⟨rfl,Ac.refl _ _⟩
  ·(have k:¬(0:Int)<(cs.length:Int):=by omega);go_wp2;go_ret;rw[Aa a];exact⟨rfl,Ac.refl _ _⟩
theorem Vb(J:Nat)(HO:Option Addr)(P:Nat)(cs:List A7)(Ix:cs.length<=1000)(FF:∀c∈cs,c.bl.length<=1000)(d:Nat)(x:cR)(w:World)(hP:AE w J [.slice HO cs.length P] 76)(hR:Ci w (.slice HO cs.length P) cs)(hd:d+1<=100)
  (Ax:Hid (∀(y:cR) (l:World),Ac [] w l->Calls prog 190 #[.pointer (some ⟨J,0,none⟩),.string y,.int .i64 d] l λe T=>e=.returned (.int .i64 (B0 cs d y))/\Ac [] l T)):
  Calls prog 190 #[.pointer (some ⟨J,0,none⟩),.string x,.int .i64 ((d:Int)+1)] w λe T=>e=.returned (.int .i64 (B0 cs (d+1) x))/\Ac [] w T:=by
 have B9:Hid (∀y,B0 cs d y<=d):=λy=>RG cs d y
 have HP:=Ab hP;have W:=Ab hR;have H4:=Ab FF;obtain⟨R,z⟩:∃R,B0 cs (d+1) x=R:=⟨_,rfl⟩;rw[z];rw[B0]at z;generalize B0 cs d=f at Ax B9 z;have H2:=Ab z;clear hP hR FF z;have KK:(0:Int)<(d:Int)+1:=by omega
 go_enter func190,ntmps190;go_wp2
 go_loopg [7,8] cs.length (λgk o i wr=>∃(k n:Nat),o=.int .i64 n/\i=.int .i64 k/\k<=cs.length/\gk=cs.length-k/\Hid ((cs.take k).foldl (Ja f x) 0=n)/\Hid (Ac [] w wr))
 case atStart=>exact⟨0,0,rfl,rfl,by omega,rfl,by show _=_;simp,Ac.refl _ _⟩
 case round=>
  obtain⟨k,n,rfl,rfl,hk,HC,H,C⟩:=hrel;have HG:=Ab HC;clear HC;have p0:=((Aa HP).kept (Aa C) (by simp)).cell 0;simp at p0;by_cases p:k<cs.length
  .obtain⟨g,K1,I,H7,HS,FL,EX,a,a5,he,L,H6,d0,d1,d2,d3⟩:=JU ((Aa W).kept (Aa C)) k p;simp only[bK]at he;obtain⟨rfl,_,rfl⟩:=he;have t:=Ab (XJ f x p);have EY:=Aa H4 _ (bL p);rw[L]at t EY;rw[Aa H]at t;simp only[Ja]at t EY;cases hnm:(I.name.toList==x.toList)with
   |false=>
    have Q:Hid ((cs.take (k+1)).foldl (Ja f x) 0=n):=by
     have h:=Aa t;rw[hnm]at h;exact h
    clear t H;go_wp2
    go_loopg [7,9] 1 (λgj o i N=>o=.int .i64 n/\i=.int .i64 0/\wr=N)
    case atStart=>exact⟨rfl,rfl,rfl⟩
    case round=>
     obtain⟨rfl,rfl,rfl⟩:=hrel;go_wp2
     go_roundg (cs.length-(k+1))
     case measure=>have:=Aa HG;omega
     case rel=>exact⟨k+1,n,rfl,by go_num,by omega,rfl,Q,C⟩
   |true=>
    have Q:Hid ((cs.take (k+1)).foldl (Ja f x) 0=Hr f n a):=by
     have h:=Aa t;rw[hnm]at h;exact h
    clear t H;have H5:Hid (∀l,Ac [] w l->l.cell? ⟨g,k*5,none⟩=some (.string I.name)/\l.cell? ⟨g,k*5+3,none⟩=some (.slice FL a.length EX)/\l.cell? ⟨J,0,none⟩=some (.slice (some ⟨g,0,none⟩) cs.length P)/\UC l ⟨I,.slice H7 I.args.length HS,.slice FL a.length EX,a,a5⟩):=by
     intro l HD;have Z:=(Aa W).kept HD;obtain⟨g',IA,AB,_,CC⟩:=Av Z.row (λc _=>BH c) k p;simp only[bK,bR,cI]at AB;obtain⟨⟨rfl,_,_⟩,_,_⟩:=AB;have u:=CC k p 0 (by omega);have v:=CC k p 3 (by omega);have Y:=Z.each _ (bL p);rw[L]at u v Y;simp[Cs]at u v;have pz:=((Aa HP).kept HD (by simp)).cell 0;exact⟨u,v,by simpa using pz,Y⟩
    go_wp2;clear H6 L d0 d1 d2 d3 p0
    go_loopg [7,9] a.length (λgj o i N=>∃(m b:Nat),o=.int .i64 b/\i=.int .i64 m/\m<=a.length/\gj=a.length-m/\Hid (Hr f n (a.take m)=b)/\Hid (Ac [] w N))
    case atStart=>exact⟨0,n,rfl,rfl,by omega,rfl,by show _=_;simp[Hr],C⟩
    case round=>
     obtain⟨m,b,rfl,rfl,hm,AH,K,V⟩:=hrel;have F:=Ab AH;clear AH;obtain⟨u,v,zp,O⟩:=Aa H5 _ (Aa V);by_cases CL:m<a.length
     .obtain⟨gb,JJ,y,HI,EK,FA,AO,H3,X,e1,e2,e3,e4,e5,e6,e7,e8⟩:=UW O.body O.lits m CL;simp only[bK]at FA;obtain⟨rfl,_,rfl⟩:=FA;have S:=Ab (Wv f n CL);rw[Aa K,AO]at S;have HX:=Aa B9 y.A.name;have s:=Ab ((Aa V).alloc (.cells (BQ y (.slice HI y.A.args.length EK)).toArray 95));have M:=Ab (AE.new wr (BQ y (.slice HI y.A.args.length EK)) 95);have q:=Ab (Aa Ax y.A.name _ (Aa s));clear AO H3 O K;simp only[BQ]at s M q;have r:Hid (Hr f n (a.take (m+1))=max b (if y.kind==97 then f y.A.name else if y.kind==33 then f y.A.name+1 else 0)):=Aa S;clear S;generalize f y.A.name=fy at q HX r;have ES:((y.kind.toNat:Int)==97)=(y.kind==97):=B2 _ 97;have U:((y.kind.toNat:Int)==33)=(y.kind==33):=B2 _ 33;cases hk97:(y.kind==97)with
      |true=>
       (have B:Hid (Hr f n (a.take (m+1))=max b fy):=by have h:=Aa r;rw[hk97]at h;exact h);rw[hk97]at ES;clear r hk97 U;(go_wp2_with fail);refine(Aa q).mono ?_;rintro e w5 ⟨rfl,D⟩;have E:=Ab ((Aa s).trans D);clear q s M D u v zp X e1 e2 e3 e4 e5 e6 e7 e8;by_cases HZ:b<fy
       ·(have G:(b:Int)<(fy:Int):=by omega);(have j:Hid (Hr f n (a.take (m+1))=fy):=by show _=_;rw[Aa B];omega);go_wp2
        go_roundg (a.length-(m+1))
        case measure=>have:=Aa F;omega
        case rel=>exact⟨m+1,fy,rfl,by go_num,by omega,rfl,j,E⟩
       ·(have G:¬(b:Int)<(fy:Int):=by omega);(have j:Hid (Hr f n (a.take (m+1))=b):=by show _=_;rw[Aa B];omega);go_wp2
        go_roundg (a.length-(m+1))
        case measure=>have:=Aa F;omega
        case rel=>exact⟨m+1,b,rfl,by go_num,by omega,rfl,j,E⟩
      |false=>
       rw[hk97]at ES;cases hk33:(y.kind==33)with
       |true=>
        (have B:Hid (Hr f n (a.take (m+1))=max b (fy+1)):=by have h:=Aa r;rw[hk97,hk33]at h;exact h);rw[hk33]at U;clear r hk97 hk33;(go_wp2_with fail);refine(Aa q).mono ?_;rintro e w5 ⟨rfl,D⟩;have E:=Ab ((Aa s).trans D);clear q s M D u v zp X e1 e2 e3 e4 e5 e6 e7 e8;by_cases HZ:b<fy+1
        ·(have G:(b:Int)<(fy:Int)+1:=by omega);(have j:Hid (Hr f n (a.take (m+1))=fy+1):=by show _=_;rw[Aa B];omega);go_wp2
         go_roundg (a.length-(m+1))
         case measure=>have:=Aa F;omega
         case rel=>exact⟨m+1,fy+1,by go_num,by go_num,by omega,rfl,j,E⟩
        ·(have G:¬(b:Int)<(fy:Int)+1:=by omega);(have j:Hid (Hr f n (a.take (m+1))=b):=by show _=_;rw[Aa B];omega);go_wp2
         go_roundg (a.length-(m+1))
         case measure=>have:=Aa F;omega
         case rel=>exact⟨m+1,b,rfl,by go_num,by omega,rfl,j,E⟩
       |false=>
        (have j:Hid (Hr f n (a.take (m+1))=b):=by have h:=Aa r;rw[hk97,hk33]at h;show _=_;rw[h];simp);rw[hk33]at U;clear r hk97 hk33 q;(have G:¬(b:Int)<0:=by omega);go_wp2
        go_roundg (a.length-(m+1))
        case measure=>have:=Aa F;omega
        case rel=>exact⟨m+1,b,rfl,by go_num,by omega,rfl,j,s⟩
     .have j:Hid ((cs.take (k+1)).foldl (Ja f x) 0=b):=by
       have h:=Aa K;rw[bP (by omega)]at h;show _=_;rw[Aa Q,h]
      clear K;go_wp2
      go_roundg (cs.length-(k+1))
      case measure=>have:=Aa HG;omega
      case rel=>exact⟨k+1,b,rfl,by go_num,by omega,rfl,j,V⟩
  .have HE:Hid (n=R):=by
    have h:=Aa H;rw[bP (by omega),Aa H2]at h;exact h.symm
   go_wp2;go_ret;rw[<-Aa HE];exact⟨rfl,Aa C⟩
theorem XM(h:Nat)(g:Option Addr)(f:Nat)(cs:List A7)(j:cs.length<=1000)(l:∀c∈cs,c.bl.length<=1000)(d:Nat):
  ∀(x:cR) (w:World),AE w h [.slice g cs.length f] 76->Ci w (.slice g cs.length f) cs->d<=100->
  Calls prog 190 #[.pointer (some ⟨h,0,none⟩),.string x,.int .i64 d] w λe m=>e=.returned (.int .i64 (B0 cs d x))/\Ac [] w m:=by
 induction d with
 |zero=>exact λx w a b _=>Ux h g f cs j x w a b
 |succ d ih=>exact λx w a b k=>Vb h g f cs j l d x w a b k (λy n i=>ih y n (a.kept i (by simp)) (b.kept i) (by omega))
def Zi(e:List cR)(v:Nat)(s:cR):cR:=if v=0 then s else e.getD (v-65) ByteArray.empty
theorem Og(b E:Nat)(e:List cR)(v:Nat)(s:cR)(w:World)(F:e.length=26)(o:AE w b (Ai e) E)(p:v=0\/(65<=v/\v<=90)):
  Calls prog 180 #[.pointer (some ⟨b,0,none⟩),.agg [Value.int .i32 v,.string s].toArray] w λr f=>r=.returned (.string (Zi e v s))/\Ac [] w f:=by
 have x:=o.lt;have I:(Ai e).length=26:=by unfold Ai;simp[F]
 have q:Hid (∀i (h:i<26),(Ai e)[i]?=some (.string (e.getD i ByteArray.empty))):=by
  intro i h;unfold Ai;rw[dI,bT,bW (by omega)];rfl
 obtain⟨R,n⟩:∃R,Zi e v s=R:=⟨_,rfl⟩;rw[n];have m:Hid ((if v=0 then s else e.getD (v-65) ByteArray.empty)=R):=n;have k:=Ab ((Ac.refl [] w).alloc (.cells [.int .i32 v,.string s].toArray 215));have g:=Ab (o.alloc (.cells [.int .i32 v,.string s].toArray 215));clear n;by_cases a:v=0
 .have c:Hid (s=R):=by have h:=Aa m;rw[if_pos a]at h;exact h
  subst a;go_enter func180,ntmps180;go_wp2;go_ret;rw[<-Aa c];exact⟨rfl,Aa k⟩
 .have c:Hid (e.getD (v-65) ByteArray.empty=R):=by have h:=Aa m;rw[if_neg a]at h;exact h
  have C:65<=v/\v<=90:=by
   rcases p with h|h
   .exact absurd h a
   .exact h
  have z:((v:Int)==0)=false:=by rw[cJ];omega
  obtain⟨j,t⟩:∃j,v-65=j:=⟨_,rfl⟩;have A:v=j+65:=by omega
  rw[t]at c;have y:j<26:=by omega
  subst A;have B:(((j+65:Nat)):Int)=(j:Int)+65:=by omega
  rw[B]at k g z⊢;have l:=(Aa g).cell j;rw[Aa q j y]at l;generalize e.getD j ByteArray.empty=X at c l;have d:=AE.new w [.int .i32 ((j:Int)+65),.string s] 215;clear m t C p a o q;have K:(0:Int)<=(j:Int):=by omega
  have H:(j:Int)<26:=by omega
  have D:IntKind.i32.wrap (j:Int)=j:=by rw[IntKind.wrap_i32];omega
  have G:IntKind.i32.wrap ((j:Int)+65-65)=j:=by rw[show(j:Int)+65-65=j by omega];exact D
  go_enter func180,ntmps180;go_wp2;change Code.wp _ _ _ _ (w.alloc (.cells [.int .i32 ((j:Int)+65),.string s].toArray 215));generalize w.alloc (.cells [.int .i32 ((j:Int)+65),.string s].toArray 215)=w1 at k g d l⊢;generalize w.heap.size=N at d x⊢;have u:=d.cell 0;simp at u;have J:=Ab d;clear d g
  go_region_held3 (λf=>f.cell? ⟨b,j,none⟩=some (.string X)/\f.cell? ⟨N,0,none⟩=some (.int .i32 ((j:Int)+65))) (go_keep) (fail)
  go_wp2;all_goals
   go_ret;rw[<-Aa c];refine⟨rfl,?_⟩
   repeat (first|exact Aa k|refine Ac.drew ?_|refine Ac.alloc ?_ _|refine Ac.drewN ?_ _)
theorem LH{w:World}{base:Nat}{v:Value}{l:List AG}(h:w.ownsRow base 93 2 v l.length (l.flatMap AM))(k:Nat)(a:k<l.length):
  ∃g b,v=.slice (some ⟨g,0,none⟩) l.length b/\w.cell? ⟨g,k*2,none⟩=some (.int .u8 l[k].v.toNat)/\w.cell? ⟨g,k*2+1,none⟩=some (.string l[k].s):=by
 obtain⟨g,b,i,_,f⟩:=Av h (λc _=>EG c) k a;have d:=f k a 0 (by omega);have e:=f k a 1 (by omega);simp[AM]at d e;exact⟨g,b,i,d,e⟩
structure SZ(w:World)(N:Nat)(E:List Value)(nm:cR)(av:Value)(j:Nat)(ts:List AG)(fv:Value):Prop where
 b0:AE w N E 90
 b1:AE w (N+1) [.string nm,av,.int .i64 j] 79
 b2:AE w (N+1+1) [.string ⟨#[]⟩,.slice none 0 0] 43
 b3:AE w (N+1+1+1) [.string nm,fv] 43
 row:w.ownsRow 0 93 2 av ts.length (ts.flatMap AM)
 low:∀q,av.ownBlock=some q->q<N
theorem SZ.kept{w w':World}{N:Nat}{E:List Value}{nm:cR}{b:Value}{j:Nat}{ts:List AG}{a:Value}(h:SZ w N E nm b j ts a)(k:Ac [] w w'):SZ w' N E nm b j ts a:=
 ⟨h.b0.kept k (by simp),h.b1.kept k (by simp),h.b2.kept k (by simp),h.b3.kept k (by simp),Ad h.row k (by simp),h.low⟩
theorem SZ.grown{w w':World}{N:Nat}{E:List Value}{nm:cR}{b:Value}{j:Nat}{ts:List AG}{c:Value}{r:Option Nat}(h:SZ w N E nm b j ts c)(k:w.grownBy w' r)(a:∀q,r=some q->N+1+1+1+1<=q):SZ w' N E nm b j ts c:=
 ⟨h.b0.grown k (λe=>by have:=a _ e;omega),h.b1.grown k (λe=>by have:=a _ e;omega),h.b2.grown k (λe=>by have:=a _ e;omega),h.b3.grown k (λe=>by have:=a _ e;omega),
  dB (v:=b) h.row k (by
   cases hv:b.ownBlock with
   |none=>exact Or.inl rfl
   |some q=>exact Or.inr (λe=>by have:=h.low q hv;have:=a q e.symm;omega)),h.low⟩
theorem QM(e:List cR)(A:C2)(u:Option Addr)(d:Nat)(w:World)(he:e.length=26)(hA:w.ownsRow 0 93 2 (.slice u A.args.length d) A.args.length (A.args.flatMap AM))(HY:A.args.length<=1000)(hg:∀t∈A.args,t.v=0\/(65<=t.v.toNat/\t.v.toNat<=90)):
    Calls prog 48 #[.agg (Ai e).toArray,.agg (B6 A.name (.slice u A.args.length d) A.at_).toArray] w λr Y=>∃x y,r=.returned (.agg (B7 ⟨AA e A,.slice x A.args.length y⟩).toArray)/\Hv Y ⟨AA e A,.slice x A.args.length y⟩/\(∀q,(Value.slice x A.args.length y).ownBlock=some q->w.heap.size<=q)/\Ac [] w Y:=by
  obtain⟨i0,JJ,H3,KD,H9⟩:=cU Tryz.gW
  obtain⟨b,a,j⟩:=A
  simp only at hA HY hg⊢
  have HV:Hid (∀t wr,t∈a->Calls prog 89 #[.agg (Ai e).toArray,.agg (AM t).toArray] wr λr Y=>r=.returned (.string (AR e t))/\Ac [] wr Y):=λt wr ht=>JN e t wr he (hg t ht)
  have HF:Hid (∀x y wr,wr.ownsRow 0 9 1 (.slice x a.length y) a.length ((a.map (AR e)).flatMap Ae)->Hv wr ⟨AA e ⟨b,a,j⟩,.slice x a.length y⟩):=by
    intro x y wr h
    show wr.ownsRow 0 9 1 _ (a.map (AR e)).length _
    rw[bX]
    exact h
  have EY:Hid (∀x y,B7 ⟨AA e ⟨b,a,j⟩,.slice x a.length y⟩=[.string b,.slice x a.length y]):=λx y=>rfl
  generalize AA e ⟨b,a,j⟩=FP at HF EY⊢
  have hc:=Bo e
  have hl:(Ai e).length=26:=by unfold Ai;simp[he]
  generalize Ai e=E at hc hl HV⊢
  have z:=Ab (((Ac.refl [] w).alloc (.cells E.toArray 90)).alloc (.cells (B6 b (.slice u a.length d) j).toArray 79))
  have HB:=Ab ((AE.new w E 90).alloc (.cells (B6 b (.slice u a.length d) j).toArray 79))
  have Z:=Ab hA
  simp only[B6]at z HB⊢
  clear hA hg
  go_enter func48,ntmps48
  go_wp2_with fail
  obtain⟨N,Q⟩:∃N,w.heap.size=N:=⟨_,rfl⟩
  have FL:SZ ((((w.alloc (Obj.cells E.toArray 90)).alloc (Obj.cells #[Value.string b,Value.slice u a.length d,Value.int IntKind.i64 ↑j] 79)).alloc (Obj.cells #[Value.string {data:=#[]},Value.slice none 0 0] 43)).alloc (Obj.cells #[Value.string b,Value.slice none 0 0] 43)) N E b (.slice u a.length d) j a (.slice none 0 0):=by
    have b1:=AE.new (w.alloc (Obj.cells E.toArray 90)) [.string b,.slice u a.length d,.int .i64 j] 79
    have b2:=AE.new ((w.alloc (Obj.cells E.toArray 90)).alloc (Obj.cells #[Value.string b,Value.slice u a.length d,Value.int IntKind.i64 ↑j] 79)) [.string ⟨#[]⟩,.slice none 0 0] 43
    have b3:=AE.new (((w.alloc (Obj.cells E.toArray 90)).alloc (Obj.cells #[Value.string b,Value.slice u a.length d,Value.int IntKind.i64 ↑j] 79)).alloc (Obj.cells #[Value.string {data:=#[]},Value.slice none 0 0] 43)) [.string b,.slice none 0 0] 43
    simp only[cD,Q]at b1 b2 b3
    have b0:=Aa HB
    rw[Q]at b0
    exact⟨(b0.alloc _).alloc _,(b1.alloc _).alloc _,b2.alloc _,b3,Ad (Aa Z) ((Aa z).alloc _|>.alloc _) (by simp),λq C=>by have:=((Aa Z).lt q C).2;omega⟩
  have Ax:=Ab FL
  have BA:=Ab (((Aa z).alloc (Obj.cells #[Value.string {data:=#[]},Value.slice none 0 0] 43)).alloc (Obj.cells #[Value.string b,Value.slice none 0 0] 43))
  rw[Q]
  have P:=Ab Q
  clear FL z HB Z Q
  change Code.wp _ _ _ _ ((((w.alloc (Obj.cells E.toArray 90)).alloc (Obj.cells #[Value.string b,Value.slice u a.length d,Value.int IntKind.i64 ↑j] 79)).alloc (Obj.cells #[Value.string {data:=#[]},Value.slice none 0 0] 43)).alloc (Obj.cells #[Value.string b,Value.slice none 0 0] 43))
  generalize((((w.alloc (Obj.cells E.toArray 90)).alloc (Obj.cells #[Value.string b,Value.slice u a.length d,Value.int IntKind.i64 ↑j] 79)).alloc (Obj.cells #[Value.string {data:=#[]},Value.slice none 0 0] 43)).alloc (Obj.cells #[Value.string b,Value.slice none 0 0] 43))=w1 at Ax BA⊢
  go_loopg [6] a.length (λgk i wr=>∃(k:Nat) (l:Option Addr) (f:Nat),i=.int .i64 k/\k<=a.length/\gk=a.length-k/\Hid (SZ wr N E b (.slice u a.length d) j a (.slice l k f))/\Hid (wr.ownsRow (N+1+1+1+1) 9 1 (.slice l k f) k (((a.take k).map (AR e)).flatMap Ae))/\Hid (Ac [] w wr))
  case atStart=>exact⟨0,none,0,rfl,by omega,rfl,Ax,ck _ _ _ _,BA⟩
  case round=>
    clear Ax BA
    obtain⟨k,l,f,rfl,hk,HR,o,M,z⟩:=hrel
    have HG:=Ab HR
    clear HR
    have HP:=(Aa o).b1.cell 1
    simp at HP
    by_cases S:k<a.length
    · obtain⟨g,D,HL,d0,d1⟩:=LH (Aa o).row k S
      simp only[bK]at HL
      obtain⟨rfl,_,rfl⟩:=HL
      obtain⟨T,L⟩:∃T,a[k]=T:=⟨_,rfl⟩
      have HZ:Hid (T∈a):=by show _∈_;rw[<-L];exact bL S
      have H2:Hid (a[k]=T):=L
      rw[L]at d0 d1
      have K6:(0:Int)<=(k:Int):=by omega
      have K3:(k:Int)<(a.length:Int):=by omega
      have J:Hid (∀c,SZ c N E b (.slice (some ⟨g,0,none⟩) a.length d) j a (.slice l k f)->c.rangeAt N 0 E/\c.cell? ⟨N+1+1+1,1,none⟩=some (.slice l k f)/\c.cell? ⟨N+1,1,none⟩=some (.slice (some ⟨g,0,none⟩) a.length d)/\c.cell? ⟨g,k*2,none⟩=some (.int .u8 T.v.toNat)/\c.cell? ⟨g,k*2+1,none⟩=some (.string T.s)):=by
        intro c G
        obtain⟨g',K4,FA,f0,f1⟩:=LH G.row k S
        simp only[bK,bR,cI]at FA
        obtain⟨⟨rfl,_,_⟩,_,_⟩:=FA
        rw[L]at f0 f1
        have x3:=G.b3.cell 1
        have X:=G.b1.cell 1
        simp at X x3
        exact⟨G.b0.range,x3,X,f0,f1⟩
      clear L
      have B:=Ab (Aa J wr.drew ((Aa o).kept (Ac.refl [] wr).drew))
      go_wp2_with fail
      refine Cp 12 (λc=>c.rangeAt N 0 E/\c.cell? ⟨N+1+1+1,1,none⟩=some (.slice l k f)/\c.cell? ⟨N+1,1,none⟩=some (.slice (some ⟨g,0,none⟩) a.length d)/\c.cell? ⟨g,k*2,none⟩=some (.int .u8 T.v.toNat)/\c.cell? ⟨g,k*2+1,none⟩=some (.string T.s)) (by kernel_rfl) ?_
      refine Ce.tk (i:=0) (v:=.pointer (some ⟨N+1+1+1,1,none⟩)) rfl (by kernel_rfl) (λ_ _ _ h=>h) B (by rfl) ?_ ?_
      · (intro c H;go_simp)
      simp only[Act.put,bH,bI,bJ]
      refine Ce.tk (i:=1) (v:=.slice l k f) rfl (by kernel_rfl) (λ_ _ _ h=>h) B (by rfl) ?_ ?_
      · (intro c H;go_simp)
      simp only[Act.put,bH,bI,bJ]
      refine Ce.take (i:=2) (v:=.agg E.toArray) rfl (by kernel_rfl) (by kernel_rfl) (by kernel_rfl) (by kernel_rfl) (λ_ _ _ h=>h) (Aa B) (yieldsIf_load_mid (by rfl) 90 _ rfl N 0 (by rfl) E _ (λc G=>G.1) underlying90 rfl (by rw[hl];exact Tryz.em)) ?_
      simp only[Act.put,bH,bI,bJ]
      refine Ce.tk (i:=3) (v:=.pointer (some ⟨N+1,1,none⟩)) rfl (by kernel_rfl) (λ_ _ _ h=>h) B (by rfl) ?_ ?_
      · (intro c H;go_simp)
      simp only[Act.put,bH,bI,bJ]
      refine Ce.tk (i:=4) (v:=.slice (some ⟨g,0,none⟩) a.length d) rfl (by kernel_rfl) (λ_ _ _ h=>h) B (by rfl) ?_ ?_
      · (intro c H;go_simp)
      simp only[Act.put,bH,bI,bJ]
      refine Ce.tk (i:=5) (v:=.int .i64 k) rfl (by kernel_rfl) (λ_ _ _ h=>h) B (by rfl) ?_ ?_
      · (intro c H;go_simp)
      simp only[Act.put,bH,bI,bJ]
      refine Ce.tk (i:=6) (v:=.pointer (some ⟨g,k*2,none⟩)) rfl (by kernel_rfl) (λ_ _ _ h=>h) B (by rfl) ?_ ?_
      · (intro c H;go_simp)
      simp only[Act.put,bH,bI,bJ]
      refine Ce.tk (i:=7) (v:=.agg (AM T).toArray) rfl (by kernel_rfl) (λ_ _ _ h=>h) B (by rfl) ?_ ?_
      · (intro c H;simp only[AM];go_simp)
      simp only[Act.put,bH,bI,bJ]
      refine Ce.one (i:=8) (by kernel_rfl) rfl (λK m=>?_)
      go_simp
      obtain⟨V,hV⟩:∃V,AR e T=V:=⟨_,rfl⟩
      have AH:=Ab (Aa HV T wr.drew (Aa HZ))
      rw[hV]at AH
      have JA:=Ab hV
      clear hV
      refine(Aa AH).mono ?_
      rintro _ I ⟨rfl,O⟩
      have R:=(Aa o).kept ((Ac.refl [] wr).drew.trans O)
      refine m.out _ _ (λ_=>Aa J I R) ?_
      clear m K AH
      try simp only[Act.put,bH,bI,bJ]
      refine Ce.one (i:=9) (by kernel_rfl) rfl (λK m=>?_)
      go_simp
      have BT:=R.kept ((Ac.refl [] I).alloc (.cells #[.string V] 9))
      refine m.out _ _ (λ_=>Aa J _ BT) ?_
      clear m K
      try simp only[Act.put,bH,bI,bJ]
      have W:=Ad (Aa M) ((Ac.refl [] wr).drew.trans O) (by simp)
      have KS:=O.size
      have K2:N+1+1+1+1<=I.heap.size:=by have:=R.b3.lt;omega
      refine Ce.one (i:=10) (by kernel_rfl) rfl (λK m=>?_)
      refine fc _ (by rfl) _ _ _ (by rfl) (N+1+1+1+1) 9 i0 _ 1 16 underlying41 JJ H3 KD H9 rfl (by omega) (.slice l k f) k (((a.take k).map (AR e)).flatMap Ae) (by rfl) (bQ W _)
                 ⟨I.heap.size,0,none⟩ 1 1 [.string V] (by rfl) (by rfl) (cj (cs:=#[.string V]) (t:=9) (fr:=(0,0)) (cA I _)) (by simp[Value.oneCell'])
                 (by omega) (by unfold maxLen;omega) (by omega) (by simp;omega) (I.heap.size+1) (by simp) ?_
      intro F D w5 Bx AT Ix IA
      have n:=BT.grown AT (λq C=>(W.lt q C).1)
      refine m.out _ _ (λ_=>Aa J _ n) ?_
      clear m K
      try simp only[Act.put,bH,bI,bJ]
      refine Ce.one (i:=11) (by kernel_rfl) rfl (λK m=>?_)
      go_simp
      refine m.out _ _ (λ_=>Aa J _ n) ?_
      clear m K
      try simp only[Act.put,bH,bI,bJ]
      have U:=n.b3.cell 1
      have yf:=n.b3.frozen 1
      simp at U
      refine Ce.one (i:=12) (by kernel_rfl) rfl (λK m=>?_)
      go_simp
      refine m.out _ _ (λh=>absurd rfl h) ?_
      clear m K
      refine Ce.done (by kernel_rfl) ?_ _
      try simp only[Act.put,bH,bI,bJ]
      have HI:Hid (SZ (w5.setCell ⟨N+1+1+1,1,none⟩ (.slice (some ⟨F,0,none⟩) (k+1) D)) N E b (.slice (some ⟨g,0,none⟩) a.length d) j a (.slice (some ⟨F,0,none⟩) (k+1) D)):=
        ⟨n.b0.dT _ (show N+1+1+1≠N by omega) _,n.b1.dT _ (show N+1+1+1≠N+1 by omega) _,n.b2.dT _ (show N+1+1+1≠N+1+1 by omega) _,n.b3.set 1 _,Ag n.row (λh=>by have:=n.low _ h;simp at this;omega) _,n.low⟩
      have HD:Hid ((w5.setCell ⟨N+1+1+1,1,none⟩ (.slice (some ⟨F,0,none⟩) (k+1) D)).ownsRow (N+1+1+1+1) 9 1 (.slice (some ⟨F,0,none⟩) (k+1) D) (k+1) (((a.take (k+1)).map (AR e)).flatMap Ae)):=by
        have h:=Ag Bx (p:=⟨N+1+1+1,1,none⟩) (λh=>by have:=(Bx.lt _ h).1;simp at this;omega) (.slice (some ⟨F,0,none⟩) (k+1) D)
        rw[bM S,cW,cw,Aa H2]
        simp only[cu,eW,cg,cZ,cK,Aa JA,Ae]
        exact h
      have HQ:=Ab ((((Aa z).drew.trans O).alloc (.cells #[.string V] 9)).grown AT (λq C=>Or.inr (by have:=(W.lt q C).1;have:=Aa P;omega))|>.setCell (p:=⟨N+1+1+1,1,none⟩) (Or.inr (by have:=Aa P;simp;omega)) (.slice (some ⟨F,0,none⟩) (k+1) D))
      clear Bx AT Ix IA n BT R W O B J o M z U yf d0 d1 HP
      generalize w5.setCell ⟨N+1+1+1,1,none⟩ (.slice (some ⟨F,0,none⟩) (k+1) D)=w6 at HI HD HQ⊢
      go_wp2
      go_roundg (a.length-(k+1))
      case measure=>have:=Aa HG;omega
      case rel=>exact⟨k+1,some ⟨F,0,none⟩,D,by go_num,by omega,rfl,HI,HD,HQ⟩
    · have H5:k=a.length:=by omega
      have x0:=(Aa o).b3.cell 0
      have X:=(Aa o).b3.cell 1
      have y0:=(Aa o).b2.cell 0
      have U:=(Aa o).b2.cell 1
      have yf:=(Aa o).b2.frozen
      simp at x0 X y0 U
      have H7:Hid (AE ((wr.setCell ⟨N+1+1,0,none⟩ (.string b)).setCell ⟨N+1+1,1,none⟩ (.slice l k f)) (N+1+1) [.string b,.slice l k f] 43):=((Aa o).b2.set 0 _).set 1 _
      have HW:Hid (((wr.setCell ⟨N+1+1,0,none⟩ (.string b)).setCell ⟨N+1+1,1,none⟩ (.slice l k f)).ownsRow 0 9 1 (.slice l k f) k ((a.map (AR e)).flatMap Ae)):=by
        have h:=Aa M
        rw[bP (by omega)]at h
        have hb:∀q,(Value.slice l k f).ownBlock=some q->q≠N+1+1:=λq C=>by have:=(h.lt q C).1;omega
        exact Ak (Ag (Ag h (λh=>hb _ h rfl) _) (λh=>hb _ h rfl) _) (by omega)
      have KK:Hid (∀q,(Value.slice l k f).ownBlock=some q->w.heap.size<=q):=λq C=>by have:=((Aa M).lt q C).1;have:=Aa P;omega
      have H4:=Ab (((Aa z).setCell (p:=⟨N+1+1,0,none⟩) (Or.inr (by have:=Aa P;simp;omega)) (.string b)).setCell (p:=⟨N+1+1,1,none⟩) (Or.inr (by have:=Aa P;simp;omega)) (.slice l k f))
      clear o M z
      go_wp2
      subst H5
      refine cB (BL rfl rfl (Aa H7) underlying43 rfl (by kernel_rfl)) rfl ⟨l,f,?_,Aa HF l f _ (Aa HW),Aa KK,Aa H4⟩
      rw[Aa EY]
theorem WI(e:List cR)(A:C2)(d:Option Addr)(f:Nat)(w:World)(g:e.length=26)(h:w.ownsRow 0 93 2 (.slice d A.args.length f) A.args.length (A.args.flatMap AM))(j:A.args.length<=1000)(i:∀t∈A.args,t.v=0\/(65<=t.v.toNat/\t.v.toNat<=90)):
  Calls prog 48 #[.agg (Ai e).toArray,.agg (B6 A.name (.slice d A.args.length f) A.at_).toArray] w λr c=>∃b a,r=.returned (.agg (B7 ⟨AA e A,.slice b A.args.length a⟩).toArray)/\Hv c ⟨AA e A,.slice b A.args.length a⟩/\Ac [] w c:=
 (QM e A d f w g h j i).mono λr c ⟨b,a,h1,h2,_,h4⟩=>⟨b,a,h1,h2,h4⟩
