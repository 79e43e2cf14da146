import Derived.Test.YtoihbhenbmffcaaGreatDoorYBE
import Derived.Test.YtoihbhenbmffcaaGreatDoorYBA
set_option linter.all false
set_option maxHeartbeats 0
namespace Go.Proofs.YtoihbhenbmffcaaGreatDoor
open Go.RowKit Go.Proofs.Tryz
theorem Xe{c:List Gm}(m:c.Pairwise λa b=>Cc a.f b.f<0)(n:cR){p:Nat}(l:GI c ⟨n,[]⟩ p):(c.drop p).takeWhile (Rm n)=c.filter (Rm n):=by
 have o:∀q∈c.drop p,¬Dy q.f.name n<0:=by
  intro q g;obtain⟨i,j,rfl⟩:=cN g;rw[cQ]at j;rw[fI,<-S6];exact l.gU (p+i) (by omega) (by omega)
 have r:(c.drop p).takeWhile (Rm n)=(c.drop p).filter (Rm n):=by
  refine Lk _ (dV (fun{a b} ha hb hab hbn=>?_) (m.drop (i:=p)));have e:b.f.name=n:=toList_inj (by simpa[Rm] using hbn);have s:¬Dy a.f.name n<0:=o a ha;have h:Dy a.f.name b.f.name<=0:=by
   unfold Cc at hab;split at hab<;>omega
  rw[e]at h;have d:Dy a.f.name n=0:=by omega
  unfold Rm;rw[(Bq _ _).1 d];simp
 have h:(c.take p).filter (Rm n)=[]:=by
  refine fH.2 (λq g k=>?_);obtain⟨i,j,rfl⟩:=cN g;rw[cM]at j;rw[eR]at k;have d:=(S6 _ _).1 (l.below i (by omega) (by omega));have e:c[i].f.name=n:=toList_inj (by simpa[Rm] using k);rw[e]at d;have:Dy n n=0:=(Bq n n).2 rfl;omega
 have d:c.filter (Rm n)=(c.drop p).filter (Rm n):=by
  conv=>lhs;rw[<-dl p c,dZ,h,dm]
 rw[r,<-d]
theorem ZS{α:Type}{q:α->Bool}{l:List α}{k:Nat}(a:k<l.length)(h:q l[k]=true):(l.drop k).takeWhile q=l[k]::(l.drop (k+1)).takeWhile q:=by
 rw[ci a,List.takeWhile_cons,h,if_pos rfl]
theorem ay{α:Type}{q:α->Bool}{l:List α}{k:Nat}(a:k<l.length)(h:q l[k]=false):(l.drop k).takeWhile q=[]:=by
 rw[ci a,List.takeWhile_cons,h,if_neg (by simp)]
structure RH(w0:World)(b2:Nat)(n:cR)(M:List Nat)(w:World):Prop where
 kept:Ac [] w0 w
 name:w.cell? ⟨b2,0,none⟩=some (.string n)
 apart:∀k∈M,w0.heap.size<=k/\k≠b2/\k<w.heap.size
theorem RH.grow{w0 w w':World}{b:Nat}{n:cR}{M:List Nat}(h:RH w0 b n M w)(k:Ac [] w w'):RH w0 b n M w':=
 ⟨h.kept.trans k,k.cellAt h.name,λi a=>⟨(h.apart i a).1,(h.apart i a).2.1,dJ (h.apart i a).2.2 k.size⟩⟩
theorem MT{M:List Nat}{w w':World}(k:Ac M w w'){b o:Nat}{v:Value}(h:w.cell? ⟨b,o,none⟩=some v)(a:b∉M):w'.cell? ⟨b,o,none⟩=some v:=by
 have e:=k.block b (OP h) a;simp only[World.cell?,e]at h⊢;exact h
theorem RH.round{w0 w w':World}{d:Nat}{n:cR}{M e:List Nat}(h:RH w0 d n M w)(k:Ac M w w')(c:∀i∈e,(i∈M\/w.heap.size<=i)/\i<w'.heap.size):RH w0 d n e w':=by
 have j:=OP h.name;have g:=h.kept.size;refine⟨h.kept.trans' k (λi b=>Or.inr (h.apart i b).1),MT k h.name (λf=>(h.apart _ f).2.1 rfl),λi b=>⟨?_,?_,(c i b).2⟩⟩
 .rcases(c i b).1 with a|a
  .exact(h.apart i a).1
  .omega
 .rcases(c i b).1 with a|a
  .exact(h.apart i a).2.1
  .omega
set_option maxRecDepth 100000
theorem Zy(T H Q K:Nat)(D:Option Addr)(o:Nat)(d:List Gm)(n:cR)(w0 w:World)(G:List Nat)(x:w.cell? ⟨T,0,none⟩=some (.pointer (some ⟨Q,K,none⟩)))
  (hO:RH w0 H n G w) (hs:w0.cell? ⟨Q,K,none⟩=some (.slice D d.length o)) (hP:KQ w0 (.slice D d.length o) d) (NS:d.length<=900000) (HQ:d.Pairwise λa b=>Cc a.f b.f<0)
  (H8:∀i j (hi:i<d.length) (hj:j<d.length),i<=j->Cc d[j].f ⟨n,[]⟩<0->Cc d[i].f ⟨n,[]⟩<0):
  Kr prog 235 #[.pointer (some ⟨T,0,none⟩),.pointer (some ⟨H,0,none⟩)] (λq:Gm=>#[.agg (Bh q).toArray]) (d.filter (Rm n)) G w:=by
 intro l J Jx W FP _ _ hJ P0 hR HK;have V:=hO.grow FP;have c1:=FP.cellAt x;have cs:=V.kept.cellAt hs;have S:=V.name;have Go:Hid (∀wr,Ac [] W wr->Calls prog 103 #[.slice D d.length o,.agg #[.string n,.slice none 0 0],.func (.func 104) #[] #[]] wr λe w'=>∃p:Nat,e=.returned (.tuple #[.int .i64 p,.bool (EQ d ⟨n,[]⟩ p)])/\GI d ⟨n,[]⟩ p/\Ac [] wr w'):=λwr z=>Jk D o d ⟨⟨n,[]⟩,.slice none 0 0⟩ wr (hP.kept (V.kept.trans z)) (ck _ _ _ _) (by simp) (by omega) H8
 have HO:=Ab V;have HP:=Ab hP;have HJ:=Ab hJ;have HR:=Ab hR;have HB:=Ab HK;have HF:Hid (∀p,GI d ⟨n,[]⟩ p->d.filter (Rm n)=(d.drop p).take 0++((d.drop p).drop 0).takeWhile (Rm n)):=λp hc=>by rw[fN,dm,ft,Xe HQ n hc]
 obtain⟨A,HV⟩:∃A,d.filter (Rm n)=A:=⟨_,rfl⟩;rw[HV]at HF HR⊢;have FA:Hid (∀u,Ac [] W u->u.cell? ⟨T,0,none⟩=some (.pointer (some ⟨Q,K,none⟩))/\u.cell? ⟨Q,K,none⟩=some (.slice D d.length o)/\u.cell? ⟨H,0,none⟩=some (.string n)):=λu z=>⟨z.cellAt c1,z.cellAt cs,z.cellAt S⟩
 clear HV hO V hs hP HQ H8 hJ hR HK FP x;show Calls prog 235 #[.func (.yield l) #[] #[],.pointer (some ⟨T,0,none⟩),.pointer (some ⟨H,0,none⟩)] W _;go_enter func235,ntmps235;go_wp2_with fail
 go_region_held3 (λu=>Ac [] W u/\u.cell? ⟨T,0,none⟩=some (.pointer (some ⟨Q,K,none⟩))/\u.cell? ⟨Q,K,none⟩=some (.slice D d.length o)/\u.cell? ⟨H,0,none⟩=some (.string n)) ((go_split_ands;refine(fun(JJ:Ac [] W _)=>And.intro JJ (Aa FA _ JJ)) ?_;repeat (first|assumption|exact Ac.refl [] _|refine Ac.drew ?_|refine Ac.alloc ?_ _))) ((go_at_call 103;refine(Aa Go _ (by go_split_ands;assumption)).mono ?_;rintro e U ⟨p,rfl,hcut,k3⟩;have FF:=Ab hcut;have H6:Ac [] W U:=(by go_split_ands;exact Ac.trans (by assumption) k3);have AH:=Ab H6;clear hcut k3 H6))
 clear c1 cs S Go;have IA:=Ab ((Aa HO).grow (Aa AH));have AO:Hid (J [] G U):=BC (Aa HJ) (s:=([],G)) (Aa HB) (Aa AH);obtain⟨d1,d2,d3⟩:=Aa FA U (Aa AH);have Mo:=(Aa FF).le;have QQ:(0:Int)<=(p:Int):=by omega
 have M3:(p:Int)<=(d.length:Int):=by omega
 have CL:=Ab (Aa HF p (Aa FF));have H7:=(Aa AH).size;clear FA HO HB HF FF;have HA:(D=none/\o=0/\d.length=0)\/∃g,D=some ⟨g,0,none⟩/\d.length<=o:=by
  rcases(Aa HP).row.2 with⟨x,h2⟩|⟨g,c,NX,x,_,_,h3,_⟩
  .simp only[bK]at x;exact Or.inl ⟨x.1,x.2.2,h2⟩
  .simp only[bK]at x;exact Or.inr ⟨g,x.1,by omega⟩
 by_cases FC:p=d.length
 .have E:Hid (A=[]):=by
   show _=_;rw[Aa CL,FC];simp
  have LC:d.length-p=0:=by omega
  rcases HA with⟨rfl,rfl,hz⟩|⟨g,rfl,K4⟩
  .rw[hz]at LC M3 d2 Mo;go_wp2_with fail
   go_loopg [25] 0 (λgk i wr=>i=.int .i64 0/\wr=U)
   case atStart=>exact⟨rfl,rfl⟩
   case round=>
    obtain⟨rfl,rfl⟩:=hrel;go_wp2;go_end0;exact⟨⟨_,rfl⟩,Or.inl ⟨G,by rw[Aa E];exact Aa AO⟩⟩
  ·(have Nx:(d.length:Int)<=(o:Int):=by omega);(have LM:(p:Int)<=(o:Int):=by omega);clear FC;(go_wp2_with fail);all_goals
    go_loopg [25] 0 (λgk i wr=>i=.int .i64 0/\wr=U)
    case atStart=>exact⟨rfl,rfl⟩
    case round=>
     obtain⟨rfl,rfl⟩:=hrel;go_wp2;go_end0;exact⟨⟨_,rfl⟩,Or.inl ⟨G,by rw[Aa E];exact Aa AO⟩⟩
 .rcases HA with⟨rfl,rfl,hz⟩|⟨g,rfl,K4⟩
  .omega
  have Nx:(d.length:Int)<=(o:Int):=by omega
  have LM:(p:Int)<=(o:Int):=by omega
  have Os:¬o=p:=by omega
  obtain⟨L,hL⟩:∃L,d.length-p=L:=⟨_,rfl⟩;have HL:=Ab hL;have LE:Hid (∀k,k<L->∃(z:p+k<d.length),(d.drop p)[k]?=some d[p+k]):=by
   intro k z;(have h:p+k<d.length:=by omega);exact⟨h,by rw[fg,bW h]⟩
  go_wp2_with fail
  clear hL FC
  go_loopg [7,25] L (λgk bx i wr=>∃(k:Nat) (M:List Nat),i=.int .i64 k/\k<=L/\gk=L-k/\Hid (A=(d.drop p).take k++((d.drop p).drop k).takeWhile (Rm n))/\Hid (RH w0 H n M wr)/\Hid (J ((d.drop p).take k) M wr)/\Hid (W.heap.size<=wr.heap.size))
  case atStart=>exact⟨0,G,rfl,by omega,rfl,CL,IA,AO,H7⟩
  case round=>
   clear CL IA AO H7;obtain⟨k,M,rfl,z,Ix,E,Y,CC,HH⟩:=hrel;have HG:=Ab Ix;clear Ix;by_cases LB:k<L
   .obtain⟨Nq,K8⟩:=Aa LE k LB;obtain⟨g',N4,y,r,C,B,HD,hf,e0,e1⟩:=Lt ((Aa HP).kept (Aa Y).kept) (p+k) Nq;simp only[bK,bR,cI]at HD;obtain⟨⟨K3,-,-⟩,-,-⟩:=HD;subst K3;rw[show(p+k)*2=p*2+k*2 by omega]at e0 e1;(have EK:k<(d.drop p).length:=by rw[cQ];omega);(have R:(d.drop p)[k]=⟨⟨y,r⟩,.slice C r.length B⟩:=by rw[fI,hf]);(have OH:(0:Int)<=(k:Int):=by omega);(have K6:(k:Int)<(L:Int):=by omega);have S:=(Aa Y).name;have O:=Ab (AE.new wr [.string y,.slice C r.length B] 104);have P:=Ab ((Ac.refl [] wr).alloc (.cells [.string y,.slice C r.length B].toArray 104));have AT:=(Aa P).cellAt S;refine wp_seq_k (λI t=>?_);have m:=Ab t;clear t;go_wp2;refine Aa m _ _ ?_;clear m I;refine wp_seq_k (λI t=>?_);have m:=Ab t;clear t;go_wp2;refine Aa m _ _ ?_;clear m I;refine wp_seq_k (λK5 HS=>?_);have H5:=Ab HS;clear HS;refine wp_block ?_;refine wp_seq_k (λI t=>?_);have m:=Ab t;clear t;go_wp2;refine Aa m _ _ ?_;clear m I;change Code.wp _ _ _ _ (wr.alloc (.cells [.string y,.slice C r.length B].toArray 104));generalize hw2:wr.alloc (.cells [.string y,.slice C r.length B].toArray 104)=w2 at O P AT⊢;have KD:=(Aa O).lt;generalize wr.heap.size=N at O KD⊢;have B9:Hid (RH w0 H n M w2):=(Aa Y).grow (Aa P);have AB:Hid (J ((d.drop p).take k) M w2):=BC (Aa HJ) (s:=((d.drop p).take k,M)) (Aa CC) (Aa P);have Bx:Hid (W.heap.size<=w2.heap.size):=da (Aa HH) (Aa P).size;have x0:=(Aa O).cell 0;have x1:=(Aa O).cell 1;simp at x0 x1;clear hw2 e0 e1 S Y CC HH K8 P O KD;cases hnn:(y.toList==n.toList)with
    |false=>
     have F:Hid (A=(d.drop p).take k):=by
      show _=_;rw[Aa E,ay EK (by rw[R];exact hnn),cK]
     clear R;go_wp2;refine cB (fE rfl _ _ _) rfl ?_;exact⟨⟨_,rfl⟩,Or.inl ⟨M,by rw[Aa F];exact Aa AB⟩⟩
    |true=>
     have F:Hid (A=(d.drop p).take k++⟨⟨y,r⟩,.slice C r.length B⟩::((d.drop p).drop (k+1)).takeWhile (Rm n)):=by
      show _=_;rw[Aa E,ZS EK (by rw[R];exact hnn),R]
     have Ax:Hid ((d.drop p).take k++[⟨⟨y,r⟩,.slice C r.length B⟩]=(d.drop p).take (k+1)):=by
      show _=_;rw[<-R,bM EK]
     have HY:=Ab (Aa HR _ _ _ M w2 (Aa F) (Aa AB));clear R;refine wp_seq_k (λI t=>?_);have m:=Ab t;clear t;refine J9 (n:=0) 7 (by rintro ⟨_,_,h⟩;obtain⟨⟨v,e⟩,_⟩:=h;cases e) (λK2 H4=>?_);simp only[eG,fN];go_wp2;refine Aa H4 _ _ ?_;clear H4 K2;simp only[eZ,ft];refine KB (λ_=>trivial) rfl rfl (l:=l) (args:=#[.agg #[.string y,.slice C r.length B]]) (by rfl) (by first|(simp[go_sem,Oper.semAt];done)|(simp[go_sem,Oper.semAt,execOp,resolve,invoke];done)) (Aa HY) ?_;rintro e w4 (⟨rfl,Z,X,FL,Ha⟩|⟨rfl,Z,X,-⟩)
     .refine⟨_,rfl,Fr (by rintro ⟨_,_,h⟩;obtain⟨⟨v,e⟩,_⟩:=h;cases e) ?_⟩;simp only[Act.put,bH,bI,bJ];have LS:=Ab ((Aa B9).round FL Ha);(have FO:Hid (J ((d.drop p).take (k+1)) Z w4):=by rw[<-Aa Ax];exact X);have K7:Hid (W.heap.size<=w4.heap.size):=da (Aa Bx) FL.size;have M2:Hid (A=(d.drop p).take (k+1)++((d.drop p).drop (k+1)).takeWhile (Rm n)):=by
       show _=_;rw[Aa F,<-Aa Ax,dd];rfl
      clear X FL Ha x0 x1 AT HY B9 AB Bx E F Ax;go_wp2;refine Aa m _ _ ?_;clear m;go_wp2;refine Aa H5 _ _ ?_;clear H5;go_wp2
      go_roundg (L-(k+1))
      case measure=>have:=Aa HG;omega
      case rel=>exact⟨k+1,Z,by go_num,by omega,rfl,M2,LS,FO,K7⟩
     .refine⟨_,rfl,Fr (by rintro ⟨_,_,h⟩;obtain⟨⟨v,e⟩,_⟩:=h;cases e) ?_⟩;simp only[Act.put,bH,bI,bJ];have FO:=Ab X;clear X x0 x1 AT HY B9 AB Bx E F Ax;go_wp2;refine Aa m _ _ ?_;clear m;go_wp2;refine cB (fE rfl _ _ _) rfl ?_;exact⟨⟨_,rfl⟩,Or.inr ⟨_,Z,Aa FO⟩⟩
   .have F:Hid (A=(d.drop p).take k):=by
     show _=_;(have hl:(d.drop p).length<=k:=by rw[cQ,Aa HL];omega);rw[Aa E,cG hl];simp
    (have K6:¬(k:Int)<(L:Int):=by omega);go_wp2;go_end0;exact⟨⟨_,rfl⟩,Or.inl ⟨M,by rw[Aa F];exact Aa CC⟩⟩
theorem Wu(b a:Nat)(n:cR)(w:World):
  Calls prog 221 #[.pointer (some ⟨b,a,none⟩),.string n] w λr d=>∃c e,r=.returned (.func (.func 235) #[] #[.pointer (some ⟨c,0,none⟩),.pointer (some ⟨e,0,none⟩)])/\AE d c [.pointer (some ⟨b,a,none⟩)] 69/\AE d e [.string n] 9/\w.heap.size<=c/\w.heap.size<=e/\Ac [] w d:=by
 go_enter func221,ntmps221;go_wp2;go_ret;refine⟨w.heap.size,w.heap.size+1,rfl,(AE.new w [.pointer (some ⟨b,a,none⟩)] 69).alloc _,?_,bZ _,by omega,((Ac.refl [] w).alloc _).alloc _⟩;have h:=AE.new (w.alloc (.cells #[.pointer (some ⟨b,a,none⟩)] 69)) [.string n] 9;rw[cD]at h;exact h
