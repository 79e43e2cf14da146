import Derived.Test.YtoihbhenbmffcaaGreatDoorZBG
import Derived.Test.YtoihbhenbmffcaaGreatDoorZBC
set_option linter.unusedVariables false
set_option linter.unusedSimpArgs false
set_option maxHeartbeats 6400000
namespace Go.Proofs.YtoihbhenbmffcaaGreatDoor
open Go.RowKit
open Go.Proofs.Tryz
theorem V9{c:List Fm}(m:c.Pairwise λa b=>B6 a.f b.f<0)(n:cL){p:Nat}(l:Gt c ⟨n,[]⟩ p):(c.drop p).takeWhile (Qr n)=c.filter (Qr n):=by
 have o:∀q∈c.drop p,¬Dm q.f.name n<0:=by
  intro q g;obtain⟨i,j,rfl⟩:=aZ g;rw[aL]at j;rw[dR,<-Sc];exact l.above (p+i) (by omega) (by omega)
 have r:(c.drop p).takeWhile (Qr n)=(c.drop p).filter (Qr n):=by
  refine Ku _ (cA (fun{a b} ha hb hab hbn=>?_) (m.drop (i:=p)));have e:b.f.name=n:=toList_inj (by simpa[Qr] using hbn);have s:¬Dm a.f.name n<0:=o a ha;have h:Dm a.f.name b.f.name<=0:=by
   unfold B6 at hab;split at hab<;>omega
  rw[e]at h;have d:Dm a.f.name n=0:=by omega
  unfold Qr;rw[(Bo _ _).1 d];simp
 have h:(c.take p).filter (Qr n)=[]:=by
  refine dP.2 (λq g k=>?_);obtain⟨i,j,rfl⟩:=aZ g;rw[aK]at j;rw[di]at k;have d:=(Sc _ _).1 (l.below i (by omega) (by omega));have e:c[i].f.name=n:=toList_inj (by simpa[Qr] using k);rw[e]at d;have:Dm n n=0:=(Bo n n).2 rfl;omega
 have d:c.filter (Qr n)=(c.drop p).filter (Qr n):=by
  conv=>lhs;rw[<-bF p c,cE,h,bU]
 rw[r,<-d]
theorem YY{α:Type}{q:α->Bool}{l:List α}{k:Nat}(a:k<l.length)(h:q l[k]=true):(l.drop k).takeWhile q=l[k]::(l.drop (k+1)).takeWhile q:=by
 rw[aC a,List.takeWhile_cons,h,if_pos rfl]
theorem Zr{α:Type}{q:α->Bool}{l:List α}{k:Nat}(a:k<l.length)(h:q l[k]=false):(l.drop k).takeWhile q=[]:=by
 rw[aC a,List.takeWhile_cons,h,if_neg (by simp)]
structure QH(w0:World)(b2:Nat)(n:cL)(M:List Nat)(w:World):Prop where
 kept:Ac [] w0 w
 name:w.cell? ⟨b2,0,none⟩=some (.string n)
 apart:∀k∈M,w0.heap.size<=k/\k≠b2/\k<w.heap.size
theorem QH.grow{w0 w w':World}{b:Nat}{n:cL}{M:List Nat}(h:QH w0 b n M w)(k:Ac [] w w'):QH w0 b n M w':=
 ⟨h.kept.trans k,k.cellAt h.name,λi a=>⟨(h.apart i a).1,(h.apart i a).2.1,cB (h.apart i a).2.2 k.size⟩⟩
theorem Md{M:List Nat}{w w':World}(k:Ac M w w'){b o:Nat}{v:Value}(h:w.cell? ⟨b,o,none⟩=some v)(a:b∉M):w'.cell? ⟨b,o,none⟩=some v:=by
 have e:=k.block b (N8 h) a;simp only[World.cell?,e]at h⊢;exact h
theorem QH.round{w0 w w':World}{d:Nat}{n:cL}{M e:List Nat}(h:QH w0 d n M w)(k:Ac M w w')(c:∀i∈e,(i∈M\/w.heap.size<=i)/\i<w'.heap.size):QH w0 d n e w':=by
 have j:=N8 h.name;have g:=h.kept.size;refine⟨h.kept.trans' k (λi b=>Or.inr (h.apart i b).1),Md k h.name (λf=>(h.apart _ f).2.1 rfl),λi b=>⟨?_,?_,(c i b).2⟩⟩
 ·rcases(c i b).1 with a|a
  ·exact(h.apart i a).1
  ·omega
 ·rcases(c i b).1 with a|a
  ·exact(h.apart i a).2.1
  ·omega
set_option maxRecDepth 100000
theorem YD(T H Q K:Nat)(D:Option Addr)(o:Nat)(d:List Fm)(n:cL)(w0 w:World)(G:List Nat)(x:w.cell? ⟨T,0,none⟩=some (.pointer (some ⟨Q,K,none⟩)))
  (hO:QH w0 H n G w) (hs:w0.cell? ⟨Q,K,none⟩=some (.slice D d.length o)) (hP:Mc w0 (.slice D d.length o) d) (Os:d.length<=900000) (HS:d.Pairwise λa b=>B6 a.f b.f<0)
  (H9:∀i j (hi:i<d.length) (hj:j<d.length),i<=j->B6 d[j].f ⟨n,[]⟩<0->B6 d[i].f ⟨n,[]⟩<0):
  Mi prog 235 #[.pointer (some ⟨T,0,none⟩), .pointer (some ⟨H,0,none⟩)] (λq:Fm=>#[.agg (A9 q).toArray]) (d.filter (Qr n)) G w:=by
 intro l J Jx W FW _ _ hJ SJ hR HM;have V:=hO.grow FW;have c1:=FW.cellAt x;have cs:=V.kept.cellAt hs;have S:=V.name;have Ha:Hid (∀wr,Ac [] W wr->Calls prog 103 #[.slice D d.length o, .agg #[.string n, .slice none 0 0], .func (.func 104) #[] #[]] wr λe w'=>∃p:Nat,e= .returned (.tuple #[.int .i64 p, .bool (ED d ⟨n,[]⟩ p)])/\Gt d ⟨n,[]⟩ p/\Ac [] wr w'):=λwr z=>IQ D o d ⟨⟨n,[]⟩, .slice none 0 0⟩ wr (hP.kept (V.kept.trans z)) (ax _ _ _ _) (by simp) (by omega) H9
 have HO:=Ab V;have HP:=Ab hP;have HJ:=Ab hJ;have HR:=Ab hR;have HC:=Ab HM;have HF:Hid (∀p,Gt d ⟨n,[]⟩ p->d.filter (Qr n)=(d.drop p).take 0++((d.drop p).drop 0).takeWhile (Qr n)):=λp hc=>by rw[dY,bU,dZ,V9 HS n hc]
 obtain⟨A,HW⟩:∃A,d.filter (Qr n)=A:=⟨_,rfl⟩;rw[HW]at HF HR⊢;have FF:Hid (∀u,Ac [] W u->u.cell? ⟨T,0,none⟩=some (.pointer (some ⟨Q,K,none⟩))/\u.cell? ⟨Q,K,none⟩=some (.slice D d.length o)/\u.cell? ⟨H,0,none⟩=some (.string n)):=λu z=>⟨z.cellAt c1,z.cellAt cs,z.cellAt S⟩
 clear HW hO V hs hP HS H9 hJ hR HM FW x;show Calls prog 235 #[.func (.yield l) #[] #[], .pointer (some ⟨T,0,none⟩), .pointer (some ⟨H,0,none⟩)] W _;go_enter func235,ntmps235;go_wp2_with fail
 go_region_held3 (λu=>Ac [] W u/\u.cell? ⟨T,0,none⟩=some (.pointer (some ⟨Q,K,none⟩))/\u.cell? ⟨Q,K,none⟩=some (.slice D d.length o)/\u.cell? ⟨H,0,none⟩=some (.string n)) ((go_split_ands;refine(fun(K3:Ac [] W _)=>And.intro K3 (Aa FF _ K3)) ?_;repeat (first|assumption|exact Ac.refl [] _|refine Ac.drew ?_|refine Ac.alloc ?_ _))) ((go_at_call 103;refine(Aa Ha _ (by go_split_ands;assumption)).mono ?_;rintro e U ⟨p,rfl,hcut,k3⟩;have FO:=Ab hcut;have H7:Ac [] W U:=(by go_split_ands;exact Ac.trans (by assumption) k3);have AH:=Ab H7;clear hcut k3 H7))
 clear c1 cs S Ha;have KK:=Ab ((Aa HO).grow (Aa AH));have AT:Hid (J [] G U):=BH (Aa HJ) (s:=([],G)) (Aa HC) (Aa AH);obtain⟨d1,d2,d3⟩:=Aa FF U (Aa AH);have M6:=(Aa FO).le;have SL:(0:Int)<=(p:Int):=by omega
 have NV:(p:Int)<=(d.length:Int):=by omega
 have EK:=Ab (Aa HF p (Aa FO));have H8:=(Aa AH).size;clear FF HO HC HF FO;have HB:(D=none/\o=0/\d.length=0)\/∃g,D=some ⟨g,0,none⟩/\d.length<=o:=by
  rcases(Aa HP).row.2 with⟨x,h2⟩|⟨g,c,Pl,x,_,_,h3,_⟩
  ·simp only[Z6]at x;exact Or.inl ⟨x.1,x.2.2,h2⟩
  ·simp only[Z6]at x;exact Or.inr ⟨g,x.1,by omega⟩
 by_cases FL:p=d.length
 ·have E:Hid (A=[]):=by
   show _=_;rw[Aa EK,FL];simp
  have LS:d.length-p=0:=by omega
  rcases HB with⟨rfl,rfl,hz⟩|⟨g,rfl,K9⟩
  ·rw[hz]at LS NV d2 M6;go_wp2_with fail
   go_loopg [25] 0 (λgk i wr=>i= .int .i64 0/\wr=U)
   case atStart=>exact⟨rfl,rfl⟩
   case round=>
    obtain⟨rfl,rfl⟩:=hrel;go_wp2;go_end0;exact⟨⟨_,rfl⟩,Or.inl ⟨G,by rw[Aa E];exact Aa AT⟩⟩
  ·(have N2:(d.length:Int)<=(o:Int):=by omega);(have MB:(p:Int)<=(o:Int):=by omega);clear FL;(go_wp2_with fail);all_goals
    go_loopg [25] 0 (λgk i wr=>i= .int .i64 0/\wr=U)
    case atStart=>exact⟨rfl,rfl⟩
    case round=>
     obtain⟨rfl,rfl⟩:=hrel;go_wp2;go_end0;exact⟨⟨_,rfl⟩,Or.inl ⟨G,by rw[Aa E];exact Aa AT⟩⟩
 ·rcases HB with⟨rfl,rfl,hz⟩|⟨g,rfl,K9⟩
  ·omega
  have N2:(d.length:Int)<=(o:Int):=by omega
  have MB:(p:Int)<=(o:Int):=by omega
  have RI:¬o=p:=by omega
  obtain⟨L,hL⟩:∃L,d.length-p=L:=⟨_,rfl⟩;have HL:=Ab hL;have L0:Hid (∀k,k<L->∃(z:p+k<d.length),(d.drop p)[k]?=some d[p+k]):=by
   intro k z;(have h:p+k<d.length:=by omega);exact⟨h,by rw[ci,aA h]⟩
  go_wp2_with fail
  clear hL FL
  go_loopg [7,25] L (λgk bx i wr=>∃(k:Nat) (M:List Nat),i= .int .i64 k/\k<=L/\gk=L-k/\Hid (A=(d.drop p).take k++((d.drop p).drop k).takeWhile (Qr n))/\Hid (QH w0 H n M wr)/\Hid (J ((d.drop p).take k) M wr)/\Hid (W.heap.size<=wr.heap.size))
  case atStart=>exact⟨0,G,rfl,by omega,rfl,EK,KK,AT,H8⟩
  case round=>
   clear EK KK AT H8;obtain⟨k,M,rfl,z,JJ,E,Y,CL,HI⟩:=hrel;have HG:=Ab JJ;clear JJ;by_cases LM:k<L
   ·obtain⟨NY,LE⟩:=Aa L0 k LM;obtain⟨g',RB,y,r,C,B,HE,hf,e0,e1⟩:=IZ ((Aa HP).kept (Aa Y).kept) (p+k) NY;simp only[Z6,ai,aW]at HE;obtain⟨⟨K8,-,-⟩,-,-⟩:=HE;subst K8;rw[show(p+k)*2=p*2+k*2 by omega]at e0 e1;(have EX:k<(d.drop p).length:=by rw[aL];omega);(have R:(d.drop p)[k]=⟨⟨y,r⟩, .slice C r.length B⟩:=by rw[dR,hf]);(have RO:(0:Int)<=(k:Int):=by omega);(have LB:(k:Int)<(L:Int):=by omega);have S:=(Aa Y).name;have O:=Ab (Aw.new wr [.string y, .slice C r.length B] 104);have P:=Ab ((Ac.refl [] wr).alloc (.cells [.string y, .slice C r.length B].toArray 104));have Bx:=(Aa P).cellAt S;refine wp_seq_k (λI t=>?_);have m:=Ab t;clear t;go_wp2;refine Aa m _ _ ?_;clear m I;refine wp_seq_k (λI t=>?_);have m:=Ab t;clear t;go_wp2;refine Aa m _ _ ?_;clear m I;refine wp_seq_k (λK5 HT=>?_);have H6:=Ab HT;clear HT;refine wp_block ?_;refine wp_seq_k (λI t=>?_);have m:=Ab t;clear t;go_wp2;refine Aa m _ _ ?_;clear m I;change Code.wp _ _ _ _ (wr.alloc (.cells [.string y, .slice C r.length B].toArray 104));generalize hw2:wr.alloc (.cells [.string y, .slice C r.length B].toArray 104)=w2 at O P Bx⊢;have K4:=(Aa O).lt;generalize wr.heap.size=N at O K4⊢;have CC:Hid (QH w0 H n M w2):=(Aa Y).grow (Aa P);have AB:Hid (J ((d.drop p).take k) M w2):=BH (Aa HJ) (s:=((d.drop p).take k,M)) (Aa CL) (Aa P);have BA:Hid (W.heap.size<=w2.heap.size):=bM (Aa HI) (Aa P).size;have x0:=(Aa O).cell 0;have x1:=(Aa O).cell 1;simp at x0 x1;clear hw2 e0 e1 S Y CL HI LE P O K4;cases hnn:(y.toList==n.toList)with
    |false=>
     have F:Hid (A=(d.drop p).take k):=by
      show _=_;rw[Aa E,Zr EX (by rw[R];exact hnn),aX]
     clear R;go_wp2;refine aE (ep rfl _ _ _) rfl ?_;exact⟨⟨_,rfl⟩,Or.inl ⟨M,by rw[Aa F];exact Aa AB⟩⟩
    |true=>
     have F:Hid (A=(d.drop p).take k++⟨⟨y,r⟩, .slice C r.length B⟩::((d.drop p).drop (k+1)).takeWhile (Qr n)):=by
      show _=_;rw[Aa E,YY EX (by rw[R];exact hnn),R]
     have Ax:Hid ((d.drop p).take k++[⟨⟨y,r⟩, .slice C r.length B⟩]=(d.drop p).take (k+1)):=by
      show _=_;rw[<-R,ac EX]
     have HY:=Ab (Aa HR _ _ _ M w2 (Aa F) (Aa AB));clear R;refine wp_seq_k (λI t=>?_);have m:=Ab t;clear t;refine JC (n:=0) 7 (by rintro ⟨_,_,h⟩;obtain⟨⟨v,e⟩,_⟩:=h;cases e) (λK2 H5=>?_);simp only[dd,dY];go_wp2;refine Aa H5 _ _ ?_;clear H5 K2;simp only[dq,dZ];refine J1 (λ_=>trivial) rfl rfl (l:=l) (args:=#[.agg #[.string y, .slice C r.length B]]) (by rfl) (by first|(simp[go_sem,Oper.semAt];done)|(simp[go_sem,Oper.semAt,execOp,resolve,invoke];done)) (Aa HY) ?_;rintro e w4 (⟨rfl,Z,X,FP,HA⟩|⟨rfl,Z,X,-⟩)
     ·refine⟨_,rfl,E5 (by rintro ⟨_,_,h⟩;obtain⟨⟨v,e⟩,_⟩:=h;cases e) ?_⟩;simp only[Act.put,Z3,Z4,Z5];have MN:=Ab ((Aa CC).round FP HA);(have FT:Hid (J ((d.drop p).take (k+1)) Z w4):=by rw[<-Aa Ax];exact X);have LC:Hid (W.heap.size<=w4.heap.size):=bM (Aa BA) FP.size;have NS:Hid (A=(d.drop p).take (k+1)++((d.drop p).drop (k+1)).takeWhile (Qr n)):=by
       show _=_;rw[Aa F,<-Aa Ax,bk];rfl
      clear X FP HA x0 x1 Bx HY CC AB BA E F Ax;go_wp2;refine Aa m _ _ ?_;clear m;go_wp2;refine Aa H6 _ _ ?_;clear H6;go_wp2
      go_roundg (L-(k+1))
      case measure=>have:=Aa HG;omega
      case rel=>exact⟨k+1,Z,by go_num,by omega,rfl,NS,MN,FT,LC⟩
     ·refine⟨_,rfl,E5 (by rintro ⟨_,_,h⟩;obtain⟨⟨v,e⟩,_⟩:=h;cases e) ?_⟩;simp only[Act.put,Z3,Z4,Z5];have FT:=Ab X;clear X x0 x1 Bx HY CC AB BA E F Ax;go_wp2;refine Aa m _ _ ?_;clear m;go_wp2;refine aE (ep rfl _ _ _) rfl ?_;exact⟨⟨_,rfl⟩,Or.inr ⟨_,Z,Aa FT⟩⟩
   ·have F:Hid (A=(d.drop p).take k):=by
     show _=_;(have hl:(d.drop p).length<=k:=by rw[aL,Aa HL];omega);rw[Aa E,aQ hl];simp
    (have LB:¬(k:Int)<(L:Int):=by omega);go_wp2;go_end0;exact⟨⟨_,rfl⟩,Or.inl ⟨M,by rw[Aa F];exact Aa CL⟩⟩
theorem Vs(b a:Nat)(n:cL)(w:World):
  Calls prog 221 #[.pointer (some ⟨b,a,none⟩), .string n] w λr d=>∃c e,r= .returned (.func (.func 235) #[] #[.pointer (some ⟨c,0,none⟩), .pointer (some ⟨e,0,none⟩)])/\Aw d c [.pointer (some ⟨b,a,none⟩)] 69/\Aw d e [.string n] 9/\w.heap.size<=c/\w.heap.size<=e/\Ac [] w d:=by
 go_enter func221,ntmps221;go_wp2;go_ret;refine⟨w.heap.size,w.heap.size+1,rfl,(Aw.new w [.pointer (some ⟨b,a,none⟩)] 69).alloc _,?_,au _,by omega,((Ac.refl [] w).alloc _).alloc _⟩;have h:=Aw.new (w.alloc (.cells #[.pointer (some ⟨b,a,none⟩)] 69)) [.string n] 9;rw[aP]at h;exact h
